import PyProof.Rows.All
import Wide.All
import OpenK.AllK
import Wide.FinOn
import Lean
import PyProof.EqAt
import PyProof.EqKinds
import PyProof.TupleCall
import PyProof.NeKinds
import PyProof.ConsumeWalk
import PyProof.SumAny
import PyProof.Rows.SumGenD
import PyProof.ZipIter
import PyProof.DictWalks
import KE.KSortTup
import KE.KDictList
import KE.IntBitsLaws
import PyProof.Rows.SortLt
import PyProof.Rows.SortRuns
import KE.KRevIter
import PyProof.CollectIter
import PyProof.WalkInts
import PyProof.MinMaxWalk
import PyProof.TupleOfSeq
import PyProof.Rows.SortShell
import PyProof.WalksS
import PyProof.SeqWrite
import PyProof.ListRange
import KE.KLam
import KE.KNestM
import PyProof.Rows.SetFrom
import KE.KSortKey
import PyProof.TupleKey
import PyProof.DictKinds
import PyProof.DictItems
import KE.KItemsList
import PyProof.AttrMissHeap
import PyProof.ListNew
import PySem.Challenge.RW_lettertoll_k76_whole_none_cheaper
set_option Elab.async false
set_option linter.all false
set_option maxRecDepth 100000
set_option maxHeartbeats 16000000
theorem BC9 {P:Prop} (h:¬P->False):P:=Classical.byContradiction h
local macro_rules
 | `(tactic| obtain $p:rcasesPatMed := $e) => do
  if ((toString p.raw).splitOn "\",\"").length < 4 then Lean.Macro.throwUnsupported
  `(tactic| first | (refine BC9 fun hG => ?_; rcases $e:term with $p:rcasesPatMed <;> refine hG ?_ <;> clear hG) | rcases $e:term with $p:rcasesPatMed)
local macro_rules
 | `(tactic| rintro $ps:rintroPat* $q:rcasesPat) => do
  if ((toString q.raw).splitOn "\",\"").length < 4 then Lean.Macro.throwUnsupported
  if ps.isEmpty then `(tactic| (intro hh; refine BC9 fun hG => ?_; rcases hh with $q:rcasesPat <;> refine hG ?_ <;> clear hG))
  else `(tactic| (rintro $ps:rintroPat*; intro hh; refine BC9 fun hG => ?_; rcases hh with $q:rcasesPat <;> refine hG ?_ <;> clear hG))
noncomputable section
def b4n:=@PySem.wpAny_bind
def b4o:=@PySem.Heap.get?_push_of_some
def b4p:=@List.length_map
def b4q:=@List.getElem?_eq_getElem
def b4r:=@PySem.wpAny_pure
def b4s:=@List.mem_singleton
def b4t:=@List.getD_eq_getElem?_getD
def b4u:=@List.getElem?_eq_some_iff
def b4v:=@PySem.Heap.get?_push_size
def b4w:=@PySem.Heap.lt_size
def b4x:=@Array.length_toList
def b4y:=@List.size_toArray
def b4z:=@Nat.le_refl
def b4A:=@List.length_append
def b4B:=@List.mem_of_getElem?
def b4C:=@List.getElem?_map
def b4D:=@List.map_append
def b4E:=@List.mem_append_right
def b4F:=@List.mem_map
def b4G:=@PyProof.Rows.wpS_bind
def b4H:=@Nat.ne_of_lt
def b4I:=@PySem.Heap.get?_update_ne
def b4J:=@List.mem_append
def b4K:=@List.mem_cons
def b4L:=@List.length_take
def b4M:=@PyProof.Rows.wpS_pure
def b4N:=@Option.some.inj
def b4O:=@Nat.lt_of_lt_of_le
def b4P:=@PySem.boot_len
def b4Q:=@of_decide_eq_true
def b4R:=@Bool.false_ne_true
def b4S:=@PySem.Around.under_plainId
def b4T:=@PySem.wpAny_holding
def b4U:=@List.getElem?_append_right
def b4V:=@Array.toList_push
def b4W:=@decide_eq_true
def b4X:=@PySem.Heap.size_push
def b4Y:=@PySem.wpAny_field
def b4Z:=@PySem.wpAny_call_entry
def b5a:=@PySem.wpAny_callSpecial?_slot
def b5b:=@Bool.false_eq_true
def b5c:=@List.pairwise_singleton
def b5d:=@List.append_assoc
def b5e:=@List.take_add_one
def b5f:=@Array.getElem?_toList
def b5g:=@PySem.wpAny_setField_rec
def b5h:=@Array.perm_iff_toList_perm
def b5i:=@PySem.wpAny_seqItems
def b5j:=@Nat.zero_le
def b5k:=@Nat.ne_of_gt
def b5l:=@List.length_cons
def b5m:=@List.getElem_map
def b5n:=@PySem.sizeLine_eq
def b5o:=@PySem.wpAny_newObj_type
def b5p:=@PySem.codeAny_builtin
def b5q:=@Option.map_eq_some_iff
def b5r:=@List.pairwise_map
def b5s:=@decide_eq_false
def b5t:=@List.mem_append_left
def b5u:=@List.not_mem_nil
def b5v:=@List.pairwise_append
def b5w:=@List.getElem?_append_left
def b5x:=@PySem.F.plainAttrs_list
def b5y:=@PySem.W.mg_none_of
def b5z:=@List.take_length
def b5A:=@List.map_map
def b5B:=@PySem.plainId_quiet
def b5C:=@List.length_eq_zero_iff
def b5D:=@List.pairwise_iff_getElem
def b5E:=@PySem.wpAny_Call_Name_kw
def b5F:=@PyProof.Rows.callWith_type1
def b5G:=@Nat.lt_irrefl
def b5H:=@List.perm_middle
def b5I:=@PySem.F.plain_min_loop
def b5J:=@List.map_cons
def b5K:=@List.pairwise_cons
def b5L:=@List.extract_eq_take_drop
def b5M:=@PyProof.Rows.wpS_forRange
def b5N:=@PyProof.Rows.slot_tuple_getitem
def b5O:=@PySem.F.slot_list_append
def b5P:=@PySem.F.type_list_append
def b5Q:=@PySem.PassesOwn.never
def b5R:=@List.mem_iff_getElem?
def b5S:=@PySem.Heap.get?_update_self
def b5T:=@PySem.wpAny_rule
def b5U:=@PySem.mem_of_lookup
def b5V:=@List.map_congr_left
def b5W:=@List.append_nil
def b5X:=@Bool.and_eq_true
def b5Y:=@PyProof.Rows.get?_update_seq
def b5Z:=@decide_eq_true_eq
def b6a:=@List.length_range
def b6b:=@List.getElem?_of_mem
def b6c:=@List.getElem?_take_of_lt
def b6d:=@PySem.F.slot_zip_next
def b6e:=@PySem.wpAny_updateSeq
def b6f:=@PySem.F.plain_extend_loop
def b6g:=@List.ext_getElem
def b6h:=@List.sum_cons
def b6i:=@List.mem_iff_getElem
def b6j:=@Array.toList_extract
def b6k:=@List.mem_of_mem_take
def b6l:=@Array.forIn_toList
def b6m:=@PySem.W.kia_one
def b6n:=@Array.getElem?_eq_getElem
def b6o:=@List.lookup_cons
def b6p:=@List.getElem_mem
def b6q:=@PySem.wpAny_attempt
def b6r:=@PySem.F.slot_dict_itemiterator_next
def b6s:=@List.length_pos_iff
def b6t:=@List.length_zipWith
def b6u:=@Nat.le_trans
def b6v:=@PySem.wpAny_truthy_bool
def b6w:=@PySem.wpAny_pyIter_list
def b6x:=@Int.toNat_natCast
def b6y:=@List.Perm.append_left
def b6z:=@List.perm_append_comm
def b6A:=@List.take_append_drop
def b6B:=@if_false
def b6C:=@PySem.F.slot_dict_keyiterator_next
def b6D:=@PySem.wpAny_tryCatch
def b6E:=@PySem.Calls.spliced_cons
def b6F:=@List.nodup_cons
def b6G:=@List.forIn_cons
def b6H:=@PySem.wpAny_letGo
def b6I:=@List.cons.inj
def b6J:=@List.mem_cons_of_mem
def b6K:=@Nat.le_of_lt
def b6L:=@PySem.wpAny_isInstance
def b6M:=@List.take_of_length_le
def b6N:=@List.replicate_succ
def b6O:=@PySem.Heap.SameBut.update
def b6P:=@PyProof.Rows.wpS_modify
def b6Q:=@List.mem_range
def b6R:=@List.drop_eq_getElem_cons
def b6S:=@PySem.wpAny_newList
def b6T:=@PySem.codeAny_mono
def b6U:=@PySem.wpAny_typeNameOfWhole_itemiter
def b6V:=@Int.mul_le_mul_of_nonneg_right
def b6W:=@congrArg
def b6X:=@PySem.wpAny_typeNameOfWhole_keyiter
def b6Y:=@PySem.wpAny_mono
def b6Z:=@PySem.Calls.spliced_nil
def b7a:=@PySem.wpAny_specialOf
def b7b:=@Array.toList_append
def b7c:=@PyProof.Rows.wpS_mono
def b7d:=@PySem.F.slot_tuple_iterator_next
def b7e:=@List.getElem_inj
def b7f:=@Nat.lt_succ_self
def b7g:=@List.zip_cons_cons
def b7h:=@PySem.Obj.data_mapFields
def b7i:=@List.append_of_mem
def b7j:=@List.forIn_nil
def b7k:=@PySem.wpAny_newTuple
def b7l:=@PySem.Calls.call_function_entry
def b7m:=@PySem.wpAny_typeNameOf_itemiter
def b7n:=@PySem.wpAny_updateSeq_pair
def b7o:=@or_false
def b7p:=@Array.toList_reverse
def b7q:=@PySem.wpAny_passesOwn
def b7r:=@List.length_nil
def b7s:=@PySem.F.args_zip_next_1
def b7t:=@PySem.wpAny_dictEntries
def b7u:=@PyProof.Rows.callWith_builtin1
def b7v:=@PyProof.Rows.listUpdate_at
def b7w:=@PySem.F.plain_list_iadd
def b7x:=@PySem.F.slot_tuple_hash
def b7y:=@List.map_eq_nil_iff
def b7z:=@PySem.wpAny_forIn_list
def b7A:=@List.length_drop
def b7B:=@List.all_eq_true
def b7C:=@PySem.F.entry_zip_next
def b7D:=@List.nodup_range
def b7E:=@PySem.F.entry_min_loop
def b7F:=@List.length_tail
def b7G:=@PySem.wpAny_pyNext_list_item
def b7H:=@PySem.Heap.get?_update_other
def b7I:=@List.Perm.append_right
def b7J:=@List.mem_cons_self
def b7K:=@Nat.lt_of_le_of_lt
def b7L:=@Array.append_empty
def b7M:=@Int.emod_lt_of_pos
def b7N:=@Bool.eq_iff_iff
def b7O:=@PySem.wpAny_loadPart'
def b7P:=@List.getElem?_eq_none
def b7Q:=@PySem.wpAny_dictEpoch
def b7R:=@PySem.wpAny_isOneOf_keyiter
def b7S:=@PyProof.Rows.entry_list_sort
def b7T:=@PySem.builtinLookup_eq_fast
def b7U:=@PySem.F.slot_tuple_eq
def b7V:=@List.sum_append
def b7W:=@List.flatten_cons
def b7X:=@PySem.wpAny_onRaise
def b7Y:=@List.reverse_perm
def b7Z:=@List.getElem?_zip_eq_some
def b8a:=@PySem.wpAny_setField
def b8b:=@PySem.isSubtype_stop
def b8c:=@PyProof.Rows.slot_list_sort
def b8d:=@List.zipIdx_cons
def b8e:=@PySem.wpAny_pyIter_zip
def b8f:=@Array.toList_inj
def b8g:=@PySem.Heap.size_update
def b8h:=@List.take_succ_cons
def b8i:=@List.getElem?_range
def b8j:=@PySem.F.entry_extend_loop
def b8k:=@List.length_reverse
def b8l:=@Nat.add_le_add_left
def b8m:=@PySem.F.args_tuple_add_2
def b8n:=@PySem.wpAny_typeOf
def b8o:=@PySem.F.slot_list_getattribute
def b8p:=@Int.le_of_eq
def b8q:=@List.of_mem_zip
def b8r:=@List.getElem?_replicate
def b8s:=@PySem.F.entry_tuple_add
def b8t:=@Nat.eq_zero_or_pos
def b8u:=@Nat.add_assoc
def b8v:=@Bool.not_true
def b8w:=@List.getElem_range
def b8x:=@Int.emod_nonneg
def b8y:=@List.getElem?_set_self
def b8z:=@PySem.F.slot_tuple_add
def b8A:=@PySem.Calls.callWith_builtin
def b8B:=@PySem.wpAny_isOneOf_itemiter
def b8C:=@List.eraseIdxIfInBounds_toArray
def b8D:=@PySem.Heap.get?_push_ne
def b8E:=@PySem.F.plain_list_iadd
def b8F:=@Array.append_push
def b8G:=@Option.isSome_map
def b8H:=@PySem.F.args_dict_itemiterator_next_1
def b8I:=@Prod.ext
def b8J:=@List.Perm.refl
def b8K:=@List.take_zero
def b8L:=@PySem.wpAny_pyNext_list_end
def b8M:=@List.length_replicate
def b8N:=@PySem.Obj.isFreed_of_fields
def b8O:=@PySem.F.args_dict_keyiterator_next_1
def b8P:=@PySem.wpAny_notOrdered_dict
def b8Q:=@List.pairwise_reverse
def b8R:=@Nat.zero_add
def b8S:=@PyProof.Rows.plain_sorted
def b8T:=@PyProof.Rows.entry_sorted
def b8U:=@PySem.isSubtype_tuple_tuple
def b8V:=@PySem.F.entry_dict_itemiterator_next
def b8W:=@List.getElem?_reverse
def b8X:=@Int.le_trans
def b8Y:=@PySem.wpAny_eqBool_int
def b8Z:=@PySem.F.entry_dict_keyiterator_next
def b9a:=@PyProof.Rows.reverseSlice'_eq
def b9b:=@decide_eq_decide
def b9c:=@List.getElem_zip
def b9d:=@Int.mul_le_mul_of_nonneg_left
def b9e:=@PySem.Paired.length
def b9f:=@PySem.F.args_tuple_iterator_next_1
def b9g:=@List.prefix_append_right_inj
def b9h:=@List.map_take
def b9i:=@PySem.wpAny_load
def b9j:=@PySem.call_meets
def b9k:=@beq_eq_false_iff_ne
def b9l:=@List.mem_filter
def b9m:=@List.filterMap_cons
def b9n:=@PySem.wpAny_execs_nil
def b9o:=@PySem.wpAny_of_eq
def b9p:=@List.zipIdx_nil
def b9q:=@PyProof.Rows.seqEpoch_at
def b9r:=@PyProof.Rows.kind_sorted
def b9s:=@PySem.F.plain_proto_collect
def b9t:=@PySem.typeLookup_type
def b9u:=@List.mem_map_of_mem
def b9v:=@Int.le_refl
def b9w:=@Bool.or_eq_true
def b9x:=@Int.fdiv_eq_ediv_of_nonneg
def b9y:=@PySem.wpAny_pyIter_tuple
def b9z:=@List.mem_filterMap
def b9A:=@PySem.SeqAt.EqAt.int_int
def b9B:=@Nat.lt_trans
def b9C:=@List.getElem?_drop
def b9D:=@Array.size_extract
def b9E:=@Nat.sub_self
def b9F:=@PyProof.Rows.listItems_at
def b9G:=@PySem.wpAny_tupleItemsOf
def b9H:=@PySem.wpAny_fieldsOf
def b9I:=@PySem.wpAny_runValue
def b9J:=@PyProof.Rows.args_list_sort
def b9K:=@PySem.Value.isInt_shape
def b9L:=@List.take_sublist
def b9M:=@List.ext_getElem?
def b9N:=@PySem.Obj.cls_mapFields
def b9O:=@List.getElem?_inj
def b9P:=@bne_self_eq_false
def b9Q:=@Nat.lt_succ_of_lt
def b9R:=@List.nodup_append
def b9S:=@List.Pairwise.imp
def b9T:=@PySem.wpAny_standAt
def b9U:=@Nat.le_succ
def b9V:=@PyProof.Rows.wpS_lift
def b9W:=@PySem.CmpOf.ints_lt
def b9X:=@PySem.W.mg_of
def b9Y:=@PySem.noFill_tuple_add
def b9Z:=@beq_self_eq_true
def c0a:=@List.mem_reverse
def c0b:=@List.drop_length
def c0c:=@Nat.lt_or_ge
def c0d:=@Array.Perm.refl
def c0e:=@List.range_succ
def c0f:=@Int.zero_add
def c0g:=@Int.mul_comm
def c0h:=@List.length_zip
def c0i:=@Int.add_zero
def c0j:=@PySem.Walks.list
def c0k:=@Int.add_le_add
def c0l:=@Int.add_mul
def c0m:=@Int.mul_add
namespace L2
open PySem PySem.Spec PyProof.Rows
abbrev Key:=Sum Int Str
noncomputable def keyIs:Key->Value->Bool
 | .inl k,v=>Value.isInt k v
 | .inr x,v=>Value.isStrOf x v
noncomputable def keyH (w:World):Key->Int
 | .inl k=>hashInt k
 | .inr x=>hashStr w x
theorem a0K:∀{k:Key} {v:Value},keyIs k v=true->(∃i t,k=Sum.inl i/\v=Value.int i t)\/(∃x t,k=Sum.inr x/\v=Value.str x t)
 | .inl i,v,h=>by
  obtain⟨t,e⟩:=b9K (k:=i) (v:=v) h;exact .inl ⟨i,t,rfl,e⟩
 | .inr x,v,h=>by
  obtain⟨t,e⟩:=Value.isStrOf_shape (x:=x) (v:=v) h;exact .inr ⟨x,t,rfl,e⟩
theorem key_ll (a b:Int):decide ((Sum.inl a:Key)=Sum.inl b)=(a==b):=by
 by_cases e:a=b
 ·subst e;simp
 ·have h:¬(Sum.inl a:Key)=Sum.inl b:=λq=>e (Sum.inl.inj q);rw[b5s h];exact(b9k.mpr e).symm
theorem key_rr (a b:Str):decide ((Sum.inr a:Key)=Sum.inr b)=decide (a=b):=by
 by_cases e:a=b
 ·subst e;simp
 ·have h:¬(Sum.inr a:Key)=Sum.inr b:=λq=>e (Sum.inr.inj q);rw[b5s h,b5s e]
theorem key_lr (a:Int) (b:Str):decide ((Sum.inl a:Key)=Sum.inr b)=false:=b5s (λq=>nomatch q)
theorem key_rl (a:Str) (b:Int):decide ((Sum.inr a:Key)=Sum.inl b)=false:=b5s (λq=>nomatch q)
noncomputable def a3Y (prog:Program) (w:World):PySem.KeyKind prog w Key where
 is:=keyIs
 hash:=keyH w
 inj:=λv a b ha hb=>by
  rcases a0K ha with ⟨i,t,rfl,rfl⟩|⟨x,t,rfl,rfl⟩
  ·rcases a0K hb with ⟨j,u,rfl,e⟩|⟨y,u,rfl,e⟩
   ·injection e with e1 _;rw[e1]
   ·exact nomatch e
  ·rcases a0K hb with ⟨j,u,rfl,e⟩|⟨y,u,rfl,e⟩
   ·exact nomatch e
   ·injection e with e1 _;rw[e1]
 byValue:=λk v h=>by
  rcases a0K h with ⟨i,t,rfl,rfl⟩|⟨x,t,rfl,rfl⟩<;>rfl
 pyHash:=λhv h=>by
  rcases a0K hv with ⟨i,t,rfl,rfl⟩|⟨x,t,rfl,rfl⟩
  ·exact wpAny_pyHash_int h
  ·exact wpAny_pyHash_str h
 eqBool:=λhu hv h=>by
  rcases a0K hu with ⟨i,t,rfl,rfl⟩|⟨x,t,rfl,rfl⟩
  ·rcases a0K hv with ⟨j,u,rfl,rfl⟩|⟨y,u,rfl,rfl⟩
   ·rw[key_ll] at h;exact b8Y h
   ·rw[key_lr] at h;exact SeqAt.EqAt.int_str i t y u _ _ _ _ h
  ·rcases a0K hv with ⟨j,u,rfl,rfl⟩|⟨y,u,rfl,rfl⟩
   ·rw[key_rl] at h;exact SeqAt.EqAt.str_int x t j u _ _ _ _ h
   ·rw[key_rr] at h;exact wpAny_eqBool_str h
 «strs»:=λk x t v h=>by
  rcases a0K h with ⟨i,u,rfl,e⟩|⟨y,u,rfl,e⟩
  ·exact nomatch e
  ·injection e with e1 _;subst e1;cases v<;>rfl
inductive V where
 | non|bl (b:Bool)|int (i:Int)|str (x:Str)|byt (b:Array UInt8)|flt (b:UInt64)|ref (a:Addr)|ty (n:String)
 deriving DecidableEq
noncomputable def a0T:V->Value->Prop
 | .non,u=>u=Value.none
 | .bl b,u=>u=Value.bool b
 | .int i,u=>∃t,u=Value.int i t
 | .str x,u=>∃t,u=Value.str x t
 | .byt b,u=>∃t,u=Value.bytes b t
 | .flt b,u=>∃t,u=Value.float b t
 | .ref a,u=>u=Value.ref a
 | .ty n,u=>u=Value.type n
abbrev a0C:List V->List Value->Prop:=Paired a0T
theorem a0C.length {xs:List V} {us:List Value} (r:a0C xs us):xs.length=us.length:=b9e r
theorem a0C.get:∀{xs:List V} {us:List Value} {i:Nat} {x:V},a0C xs us->xs[i]?=some x->∃u,us[i]?=some u/\a0T x u
 | _,_,_,_,.nil,e=>by simp at e
 | _,_,0,_,.cons r _,e=>by simp at e;subst e;exact⟨_,rfl,r⟩
 | _,_,i+1,x,.cons _ t,e=>by
  obtain⟨u,h1,h2⟩:=a0C.get (i:=i) (x:=x) t (by simpa using e);exact⟨u,by simpa using h1,h2⟩
theorem a0C.append:∀{xs ys:List V} {us ws:List Value},a0C xs us->a0C ys ws->a0C (xs++ys) (us++ws)
 | _,_,_,_,.nil,s=>s
 | _,_,_,_,.cons r t,s=>.cons r (a0C.append t s)
theorem a0C.take:∀{xs:List V} {us:List Value} (n:Nat),a0C xs us->a0C (xs.take n) (us.take n)
 | _,_,0,_=>.nil
 | _,_,_+1,.nil=>.nil
 | _,_,n+1,.cons r t=>.cons r (a0C.take n t)
theorem a0C.drop:∀{xs:List V} {us:List Value} (n:Nat),a0C xs us->a0C (xs.drop n) (us.drop n)
 | _,_,0,r=>r
 | _,_,_+1,.nil=>.nil
 | _,_,n+1,.cons _ t=>a0C.drop n t
noncomputable def b0F:Option V->Option Value->Prop
 | some v,some u=>a0T v u
 | none,none=>True
 | _,_=>False
noncomputable def KV {κ:Type}:List (κ × V)->List (κ × Value)->Prop:=Paired λ(p:κ × V) (q:κ × Value)=>p.1=q.1/\a0T p.2 q.2
noncomputable def kV:Key->V
 | .inl i=>.int i
 | .inr x=>.str x
inductive HO where
 | lst (xs:List V)
 | tup (xs:List V)
 | dK (kvs:List (Key × V))|dT (kvs:List (List Key × V))
 | set (S:Int->Bool) (n:Nat)
 | ins (C dx:Addr) (fs:List (Str × V))
 | own (x:Addr)
 | xd (fs:List (Str × V))
 | met (f x:Addr)
 | rng (lo hi:Int)
 | frz (o:Obj) (u:HO)
 | tbl (ps:Array Value)
 | ext (φ:Heap->Prop)
abbrev Hp:=Addr->Option HO
noncomputable def upd (H:Hp) (a:Addr) (o:HO):Hp:=λb=>if b=a then some o else H b
theorem a0b {H:Hp} {a:Addr} {o:HO}:upd H a o a=some o:=by unfold upd;rw[if_pos rfl]
theorem a0m {H:Hp} {a b:Addr} {o:HO} (h:b≠a):upd H a o b=H b:=by unfold upd;rw[if_neg h]
theorem b2E {H:Hp} {a:Addr} {o u:HO}:upd (upd H a o) a u=upd H a u:=by
 funext b;unfold upd;split<;>rfl
theorem a1z {H:Hp} {a b:Addr} {o u:HO} (h:H a=some o) (h':H b=some u) (d:o≠u):a≠b:=by
 intro e;subst e;rw[h] at h';exact d (b4N h')
theorem a0D {H:Hp} {a b:Addr} {o:HO} (h:H a=some o) (h':H b=none):a≠b:=by
 intro e;subst e;rw[h] at h';cases h'
noncomputable def a4Q (h:Heap) (a:Addr) (items:Array Value):Prop:=∃o,h.get? a=some o/\∃n,o={ cls:=.type "tuple",data:=.seq items n }
theorem a4Q.is {h:Heap} {a:Addr} {items:Array Value} (x:a4Q h a items):IsTup h a items:=by
 obtain⟨o,e,n,rfl⟩:=x;exact⟨_,e,rfl,n,rfl⟩
instance {h:Heap} {a:Addr} {items:Array Value}:Coe (a4Q h a items) (IsTup h a items):=⟨a4Q.is⟩
instance {h:Heap} {a:Addr} {items:Array Value}:Coe (a4Q h a items) (Heap.IsTuple h a items):=⟨λx=>x.is⟩
theorem a4Q.lt {h:Heap} {a:Addr} {items:Array Value} (x:a4Q h a items):a<h.objs.size:=x.is.lt
theorem a4Q.new (h:Heap) (items:Array Value):a4Q (h.push { cls:=.type "tuple",data:=.seq items }) h.objs.size items:=⟨_,b4v _ rfl,_,rfl⟩
section
variable (P:Program) (w:World)
noncomputable def a0B (H:Hp) (h:Heap) (a:Addr):HO->Prop
 | .lst xs=>xs.length<=sizeLine/\∃(its:List Value) (n:Nat),a0C xs its/\h.get? a=some { cls:=.type "list",data:=.seq its.toArray n }
 | .tup xs=>xs.length<=sizeLine/\∃its:List Value,a0C xs its/\a4Q h a its.toArray
 | .dK kvs=>kvs.length<=sizeLine/\(a==sysModules)=false/\∃vs,KV kvs vs/\h.DictOf (a3Y P w) a vs
 | .dT kvs=>kvs.length<=sizeLine/\(a==sysModules)=false/\∃xs:List (List Key × Addr × Value),
   Paired (λ(p:List Key × V) (q:List Key × Addr × Value)=>p.1=q.1/\H q.2.1=some (.tup (p.1.map kV))/\a0T p.2 q.2.2) kvs xs /\
   ∃o es ep,h.get? a=some o/\o.ExactDict/\o.data=.dict es ep/\es.toList=xs.map (entryOfKey (tupleKind (a3Y P w)))/\(xs.map (·.1)).Nodup
 | .set S n=>h.SetOf (intKind P w) a S n
 | .ins C dx fs=>H dx=some (.own a)/\fs.length<=1000/\dx≠a/\h.get? a=some (PySem.W.instObj C dx) /\
   ∃mA,h.Ns1 dx mA/\(∀f,b0F (fs.lookup f) (mA f))/\PySem.Within mA (fs.map (·.1))
 | .own _=>∃o,h.get? a=some o
 | .xd fs=>∃mA,h.Ns1 a mA/\∀f,b0F (fs.lookup f) (mA f)
 | .rng lo hi=>∃t u v,h.get? a=some { cls:=.type "range",data:=.fields #[.int lo t,.int hi u,.int 1 v] }
 | .frz o u=>h.get? a=some o/\a0B H h a u
 | .tbl ps=>h.get? a=some { cls:=.none,data:=.fields ps }
 | .met f x=>h.get? a=some (PySem.W.methodObj (.ref f) (.ref x))
 | .ext φ=>φ h/\(∃o,h.get? a=some o)/\∀h1 h2:Heap,φ h1->(∀o,h1.get? a=some o->h2.get? a=some o)->φ h2
noncomputable def HOk (H:Hp) (h:Heap):Prop:=∀a o,H a=some o->a0B P w H h a o
end
section
variable {P:Program} {w:World} {H H':Hp} {h h':Heap} {a:Addr} {o:HO}
theorem a0B.lt (x:a0B P w H h a o):a<h.objs.size:=by
 cases o with
 | lst xs=>obtain⟨_,_,_,_,e⟩:=x;exact b4w e
 | tup xs=>obtain⟨_,_,_,p⟩:=x;exact p.lt
 | dK kvs=>obtain⟨_,_,_,_,o,_,_,e,_⟩:=x;exact b4w e
 | dT kvs=>obtain⟨_,_,_,_,o,_,_,e,_⟩:=x;exact b4w e
 | set S n=>obtain⟨o,_,_,_,e,_⟩:=x;exact b4w e
 | ins C dx fs=>obtain⟨_,_,_,e,_⟩:=x;exact b4w e
 | own y=>obtain⟨_,e⟩:=x;exact b4w e
 | xd fs=>obtain⟨_,⟨_,_,_,e,_⟩,_⟩:=x;exact b4w e
 | rng lo hi=>obtain⟨_,_,_,e⟩:=x;exact b4w e
 | frz ob u=>obtain⟨e,_⟩:=x;exact b4w e
 | tbl ps=>exact b4w (show h.get? a=some _ from x)
 | met f y=>exact b4w (show h.get? a=some _ from x)
 | ext φ=>obtain⟨_,⟨_,e⟩,_⟩:=x;exact b4w e
theorem Paired.mapP {α β:Type} {F G:α->β->Prop}:∀{l₁:List α} {l₂:List β},Paired F l₁ l₂->(∀a b,F a b->G a b)->Paired G l₁ l₂
 | _,_,.nil,_=>.nil
 | _,_,.cons r t,f=>.cons (f _ _ r) (Paired.mapP t f)
theorem a0B.stay (x:a0B P w H h a o) (k:∀b u,(b=a\/H b=some (.own a))->h.get? b=some u->h'.get? b=some u)
  (ho:∀b,H b=some (.own a)->H' b=some (.own a)) (ht:∀b xs,H b=some (.tup xs)->H' b=some (.tup xs)):a0B P w H' h' a o:=by
 induction o with
 | lst xs=>obtain⟨z,its,n,r,e⟩:=x;exact⟨z,its,n,r,k _ _ (.inl rfl) e⟩
 | tup xs=>obtain⟨z,its,r,ob,e,c⟩:=x;exact⟨z,its,r,ob,k _ _ (.inl rfl) e,c⟩
 | dK kvs=>obtain⟨z,y,vs,r,ob,es,ep,e,c⟩:=x;exact⟨z,y,vs,r,ob,es,ep,k _ _ (.inl rfl) e,c⟩
 | dT kvs =>
  obtain⟨z,y,xs,r,ob,es,ep,e,c⟩:=x;exact⟨z,y,xs,Paired.mapP r λp q z=>⟨z.1,ht _ _ z.2.1,z.2.2⟩,ob,es,ep,k _ _ (.inl rfl) e,c⟩
 | set S n=>obtain⟨ob,es,ep,t,e,c⟩:=x;exact⟨ob,es,ep,t,k _ _ (.inl rfl) e,c⟩
 | ins C dx fs =>
  obtain⟨d,z,ne,e,mA,⟨od,es,ep,e2,c⟩,r⟩:=x;exact⟨ho _ d,z,ne,k _ _ (.inl rfl) e,mA,⟨od,es,ep,k _ _ (.inr d) e2,c⟩,r⟩
 | own y=>obtain⟨ob,e⟩:=x;exact⟨ob,k _ _ (.inl rfl) e⟩
 | xd fs=>obtain⟨mA,⟨od,es,ep,e,c⟩,r⟩:=x;exact⟨mA,⟨od,es,ep,k _ _ (.inl rfl) e,c⟩,r⟩
 | rng lo hi=>obtain⟨t,u,v,e⟩:=x;exact⟨t,u,v,k _ _ (.inl rfl) e⟩
 | frz ob u ih=>obtain⟨e,q⟩:=x;exact⟨k _ _ (.inl rfl) e,ih q⟩
 | tbl ps =>
  have e:h.get? a=some { cls:=.none,data:=.fields ps }:=x;show h'.get? a=some { cls:=.none,data:=.fields ps };exact k a _ (.inl rfl) e
 | met f y =>
  have e:h.get? a=some (PySem.W.methodObj (.ref f) (.ref y)):=x;show h'.get? a=some (PySem.W.methodObj (.ref f) (.ref y));exact k a _ (.inl rfl) e
 | ext φ=>obtain⟨p,⟨o,e⟩,st⟩:=x;exact⟨st _ _ p λo q=>k _ _ (.inl rfl) q,⟨o,k _ _ (.inl rfl) e⟩,st⟩
theorem HOk.lt (x:HOk P w H h) (e:H a=some o):a<h.objs.size:=(x a o e).lt
theorem HOk.fresh (x:HOk P w H h) (e:h.objs.size<=a):H a=none:=by
 cases q:H a with
 | none=>rfl
 | some u=>exact absurd (b4O (x.lt q) e) (b5G _)
theorem HOk.kept (x:HOk P w H h) (k:∀b u,h.get? b=some u->h'.get? b=some u):HOk P w H h':=λa o e =>
 (x a o e).stay (λb u _ q=>k b u q) (λ_ q=>q) λ_ _ q=>q
theorem HOk.laid (x:HOk P w H h) (k:∀b u,h.get? b=some u->h'.get? b=some u) (hp:h.objs.size<=a) (new:a0B P w (upd H a o) h' a o):HOk P w (upd H a o) h':=λb u e=>by
 have hn:=x.fresh hp;by_cases hb:b=a
 ·subst hb;rw[a0b] at e;cases e;exact new
 ·rw[a0m hb] at e;exact(x b u e).stay (λc v _ q=>k c v q) (λc q=>by rw[a0m (a0D q hn)];exact q) λc xs q=>by rw[a0m (a0D q hn)];exact q
end
noncomputable def Rd (H:Hp) (a:Addr) (u:HO):Prop:=H a=some u\/∃o,H a=some (.frz o u)
theorem Rd.ok {P:Program} {w:World} {H:Hp} {h:Heap} {a:Addr} {u:HO} (r:Rd H a u) (x:HOk P w H h):a0B P w H h a u:=by
 rcases r with r|⟨o,r⟩
 ·exact x a u r
 ·obtain⟨_,q⟩:=x a _ r;exact q
noncomputable def Mut:Option HO->Prop
 | some (.lst _)=>True
 | some (.dK _)=>True
 | some (.dT _)=>True
 | some (.set _ _)=>True
 | some (.ins _ _ _)=>True
 | some (.ext _)=>True
 | _=>False
section
variable {P:Program} {w:World} {H:Hp} {h h':Heap} {x e:Addr} {o':HO}
theorem HOk.write (ok:HOk P w H h) (mu:Mut (H x)) (he:e=x\/H e=some (.own x)) (k:∀b u,b≠e->h.get? b=some u->h'.get? b=some u) (heo:∃u,h'.get? e=some u)
  (new:a0B P w (upd H x o') h' x o'):HOk P w (upd H x o') h':=λb u q=>by
 have nown:∀c y,H c=some (.own y)->c≠x:=λc y r z=>by subst z;rw[r] at mu;exact mu
 have ntup:∀c xs,H c=some (.tup xs)->c≠x:=λc xs r z=>by subst z;rw[r] at mu;exact mu
 by_cases hb:b=x
 ·subst hb;rw[a0b] at q;cases q;exact new
 ·rw[a0m hb] at q;by_cases hbe:b=e
  ·have q':H b=some (.own x):=by
    rcases he with z|z
    ·exact absurd (hbe.trans z) hb
    ·rw[hbe];exact z
   rw[q] at q';cases q';obtain⟨v,hv⟩:=heo;exact⟨v,by rw[hbe];exact hv⟩
  ·refine(ok b u q).stay (λc v hc r=>k c v ?_ r) (λc r=>by rw[a0m (nown c b r)];exact r) λc xs r=>by rw[a0m (ntup c xs r)];exact r
   rcases hc with rfl|hc
   ·exact hbe
   ·rintro rfl;rcases he with z|z
    ·exact nown c b hc z
    ·rw[hc] at z;cases z;exact hb rfl
end
structure Un (fs ex:List Addr) (H H':Hp) (h h':Heap):Prop where
 keep:∀b o,h.get? b=some o->H b=none->b∉fs->b∉ex->h'.get? b=some o
 slot:∀b o,h.get? b=some o->H b=none->b∈fs->b∉ex->∃sl,h'.get? b=some { o with slots:=sl }
 free:∀b o,h.get? b=some o->H b=none->b∉ex->H' b=none
 there:∀b o,h.get? b=some o->b∉ex->∃o',h'.get? b=some o'
 tups:∀b xs,H b=some (.tup xs)->H' b=some (.tup xs)
 frzs:∀b o u,H b=some (.frz o u)->H' b=some (.frz o u)
 tbls:∀b ps,H b=some (.tbl ps)->∃more,H' b=some (.tbl (ps++more))
section
variable {fs fs' ex ex':List Addr} {H H1 H2:Hp} {h h1 h2 h':Heap} {a x e:Addr} {o:HO}
theorem Un.any (u:Un fs ex H H1 h h1) {b:Addr} {ob:Obj} (q:h.get? b=some ob) (n:H b=none) (hx:b∉ex):∃sl,h1.get? b=some { ob with slots:=sl }:=by
 by_cases hb:b∈fs
 ·exact u.slot b ob q n hb hx
 ·exact⟨ob.slots,u.keep b ob q n hb hx⟩
theorem Un.kept (k:∀b u,h.get? b=some u->h'.get? b=some u):Un fs ex H H h h' :=
 ⟨λb ob q _ _ _=>k b ob q,λb ob q _ _ _=>⟨ob.slots,k b ob q⟩,λ_ _ _ n _=>n,λb ob q _=>⟨ob,k b ob q⟩,λ_ _ q=>q,λ_ _ _ q=>q,λ_ ps q=>⟨#[],by rw[q];simp⟩⟩
theorem Un.refl:Un fs ex H H h h:=Un.kept λ_ _ q=>q
theorem Un.laid (k:∀b u,h.get? b=some u->h'.get? b=some u) (hp:h.objs.size<=a) (hn:H a=none):Un fs ex H (upd H a o) h h' where
 keep:=λb u q _ _ _=>k b u q
 slot:=λb u q _ _ _=>⟨u.slots,k b u q⟩
 free:=λb u q n _=>by rw[a0m (b4H (b4O (b4w q) hp))];exact n
 there:=λb u q _=>⟨u,k b u q⟩
 tups:=λb xs q=>by rw[a0m (a0D q hn)];exact q
 frzs:=λb u xs q=>by rw[a0m (a0D q hn)];exact q
 tbls:=λb ps q=>⟨#[],by rw[a0m (a0D q hn),q];simp⟩
theorem Un.write (mu:Mut (H x)) (he:e=x\/H e=some (.own x)) (k:∀b u,b≠e->h.get? b=some u->h'.get? b=some u) (heo:∃u,h'.get? e=some u):Un fs ex H (upd H x o) h h':=by
 have hx:∀b,H b=none->b≠x:=λb n z=>by subst z;rw[n] at mu;exact mu
 have hb:∀b,H b=none->b≠e:=λb n z=>by
  subst z;rcases he with r|r
  ·exact hx b n r
  ·rw[n] at r;cases r
 have hm:∀b u,H b=some u->¬Mut (some u)->b≠x:=λb u q nm z=>by subst z;rw[q] at mu;exact nm mu
 refine⟨λb u q n _ _=>k b u (hb b n) q,λb u q n _ _=>⟨u.slots,k b u (hb b n) q⟩,λb u q n _=>by rw[a0m (hx b n)];exact n,λb u q _=>?_,
  λb xs q=>by rw[a0m (hm b _ q λz=>z)];exact q,λb u xs q=>by rw[a0m (hm b _ q λz=>z)];exact q,λb ps q=>⟨#[],by rw[a0m (hm b _ q λz=>z),q];simp⟩⟩
 by_cases hbe:b=e
 ·subst hbe;exact heo
 ·exact⟨u,k b u hbe q⟩
end
noncomputable def trk (h:Heap) (H:Hp):List Addr:=(List.range h.objs.size).filter λa=>(H a).isSome
noncomputable def b0C (h:Heap) (H:Hp):Heap:=PySem.W.hideAll h (trk h H)
theorem a8r (h:Heap) (H:Hp):(b0C h H).objs.size=h.objs.size:=PySem.W.hideAll_size _ _
theorem b0G {h:Heap} {H:Hp} {b:Addr} {o:Obj} (e:h.get? b=some o) (n:H b=none):(b0C h H).get? b=some o :=
 PySem.W.hideAll_get _ e λhm=>by
  have q:(H b).isSome=true:=(b9l.mp hm).2;rw[n] at q;simp at q
theorem b2F {h:Heap} {H:Hp} {b:Addr} {o:Obj} (e:(b0C h H).get? b=some o):h.get? b=some o/\H b=none:=by
 have e':h.get? b=some o:=PySem.W.of_hideAll (trk h H) e;refine⟨e',?_⟩;cases q:H b with
 | none=>rfl
 | some x =>
  have hm:b∈trk h H:=b9l.mpr ⟨b6Q.mpr (b4w e'),by simp[q]⟩;have z:(b0C h H).get? b=none:=PySem.W.hideAll_none (trk h H) hm;rw[z] at e;cases e
noncomputable def b2G (g h:Heap) (L:Addr):List (Addr × Obj):=(List.range h.objs.size).filterMap λa=>if a=L\/(g.get? a).isSome=true then none else (h.get? a).map λo=>(a,o)
noncomputable def rest (g h:Heap) (L d:Addr):List (Addr × Obj):=(b2G g h L).filter λp=>decide (p.1≠d)
structure Mod (K:PySem.W.Frag) (mg:Str->Option Value) (base:Heap):Prop where
 kin:K.In base
 glob:base.Ns mainGlobals mg
 blt:∃mb,base.Ns builtinsNs mb/\∀x:Str,x≠"__name__"->mb x=bootBuiltins x
 nolimit:base.NoLimit
structure Cx where
 prog:Program
 w:World
 K:PySem.W.Frag
 mg:Str->Option Value
 base:Heap
 A:Around
 N:List Str
 s₀:Shared
 H₀:Hp
 env:Env
 outer:List Env
 stack:List Env
 ex:List Addr
 fn:Str->Bool
 calm:Bool
 pn:List (Addr × Obj)
 xe:Value->Shared->Prop
noncomputable def frs (l:List Env):List Addr:=l.filterMap (·.frame)
abbrev Cx.fs (X:Cx):List Addr:=frs X.outer
noncomputable def Vis (sc:Scope) (x:Str):Prop:=sc.names.lookup x=some .local\/sc.names.lookup x=some .cell\/sc.names.lookup x=some .free
noncomputable def Loc (sc:Scope) (x:Str):Prop:=sc.names.lookup x=some .local\/sc.names.lookup x=some .cell
noncomputable def Look (env:Env) (h:Heap) (m:Str->Option Value) (x:Str) (u:Value):Prop :=
 (env.kindOf x=some .local/\m x=some u)\/((env.kindOf x=some .cell\/env.kindOf x=some .free)/\∃c,env.cells.lookup x=some c/\h.IsCell c (some u))
structure Cx.Ok (X:Cx):Prop where
 mod:Mod X.K X.mg X.base
 kind:X.env.scope.kind=.function
 glob:X.env.globals=mainGlobals
 blt:X.env.builtins=builtinsNs
 above:X.s₀.heap.objs.size<=X.env.locals
 inj:∀x y c,X.env.cells.lookup x=some c->X.env.cells.lookup y=some c->x=y
 has:∀x,(X.env.kindOf x=some .cell\/X.env.kindOf x=some .free)->∃c,X.env.cells.lookup x=some c
 cab:∀x c,X.fn x=true->X.env.cells.lookup x=some c->X.s₀.heap.objs.size<=c
 hd:X.calm=true->X.A.handled=none
 frames:X.A.frames=some X.stack
 stk:X.stack=X.outer\/(X.stack=X.env::X.outer/\X.env.frame=some X.env.locals)
 exf:∀b∈X.ex,b≠X.env.locals/\∀x c,X.env.cells.lookup x=some c->c≠b
 bs:∀b o,X.base.get? b=some o->X.s₀.heap.get? b=some o/\X.H₀ b=none
 bsz:X.base.objs.size<=X.s₀.heap.objs.size
 noex:∀b o,X.base.get? b=some o->b∉X.ex
 exfs:∀b∈X.ex,b∉X.fs
 funs:X.s₀.heap.FunFrames X.base X.outer
 frf:∀b∈X.fs,X.H₀ b=none
structure Inv (X:Cx) (pins:List (Addr × Obj)) (σ:List (Option V)) (H:Hp) (s:Shared):Prop where
 ok:X.Ok
 os:s.os=X.s₀.os
 bare:AllBare s.gens
 base:Un X.fs X.ex X.H₀ H X.s₀.heap s.heap
 loc:∃m,s.heap.Ns X.env.locals m/\∀(i:Nat) (x:Str) (v:V),X.N[i]?=some x->σ[i]?=some (some v)->Vis X.env.scope x->∃u,a0T v u/\Look X.env s.heap m x u
 cell:∀x c,X.env.cells.lookup x=some c->∃v,s.heap.IsCell c v
 free:H X.env.locals=none
 freeC:∀x c,X.env.cells.lookup x=some c->H c=none
 pin:∀p∈X.pn++pins,s.heap.get? p.1=some p.2/\H p.1=none/\p.1≠X.env.locals/\p.1∉X.fs/\∀v,p.2.data≠.cell v
 hok:HOk X.prog X.w H s.heap
 len:σ.length=X.N.length
section
variable {X:Cx} {pins:List (Addr × Obj)} {σ:List (Option V)} {H H':Hp} {s:Shared} {h':Heap}
theorem Cx.Ok.nofr (ok:X.Ok) {b:Addr} {o:Obj} (e:X.base.get? b=some o):b∉X.fs:=λhb=>by
 have:=(ok.funs.mem hb).1;rw[e] at this;cases this
theorem Inv.bs (I:Inv X pins σ H s):∀b o,X.base.get? b=some o->s.heap.get? b=some o/\H b=none:=λb o e =>
 ⟨I.base.keep b o (I.ok.bs b o e).1 (I.ok.bs b o e).2 (I.ok.nofr e) (I.ok.noex b o e),I.base.free b o (I.ok.bs b o e).1 (I.ok.bs b o e).2 (I.ok.noex b o e)⟩
theorem Inv.bk (I:Inv X pins σ H s):∀b o,X.base.get? b=some o->s.heap.get? b=some o:=λb o e=>(I.bs b o e).1
theorem Inv.mod (I:Inv X pins σ H s):Mod X.K X.mg X.base:=I.ok.mod
theorem Inv.kIn (I:Inv X pins σ H s):X.K.In s.heap:=I.ok.mod.kin.keeps I.bk
theorem Inv.lt (I:Inv X pins σ H s):X.env.locals<s.heap.objs.size:=let ⟨_,hn,_⟩:=I.loc;hn.lt
theorem Inv.sz (I:Inv X pins σ H s):X.s₀.heap.objs.size<=s.heap.objs.size:=b6u I.ok.above (b6K I.lt)
theorem Inv.nofs (I:Inv X pins σ H s) {a:Addr} (h:s.heap.objs.size<=a):a∉X.fs:=λhb=>by
 obtain⟨_,o,ho,_⟩:=I.ok.funs.mem hb;exact absurd (b4O (b4w ho) (b6u I.sz h)) (b5G _)
theorem Inv.cne (I:Inv X pins σ H s):∀x c,X.env.cells.lookup x=some c->c≠X.env.locals:=λx c e z=>by
 obtain⟨v,o,ho,hd⟩:=I.cell x c e;obtain⟨m,⟨o',es,ep,ho',hd',_⟩,_⟩:=I.loc;rw[z,ho'] at ho;cases ho;rw[hd'] at hd;cases hd
theorem Inv.funs (I:Inv X pins σ H s):s.heap.FunFrames X.base X.outer:=by
 have all:∀(l:List Env),(∀b∈frs l,b∈X.fs)->X.s₀.heap.FunFrames X.base l->s.heap.FunFrames X.base l:=by
  intro l
  induction l with
  | nil=>intro _ _;trivial
  | cons env r ih =>
   intro hs hl;obtain⟨hk,⟨L,o,hf,hn,ho,hd⟩,hr⟩:=hl;have hL:L∈X.fs:=hs L (by unfold frs;rw[b9m,hf];exact b7J);obtain⟨sl,e⟩:=I.base.slot L o ho (I.ok.frf L hL) hL λz=>I.ok.exfs L z hL;exact⟨hk,⟨L,_,hf,hn,e,hd⟩,ih (λb hb=>hs b (by unfold frs;rw[b9m,hf];exact b6J _ hb)) hr⟩
 exact all X.outer (λ_ hb=>hb) I.ok.funs
theorem Inv.stack (I:Inv X pins σ H s):s.heap.FunFrames X.base X.stack:=by
 rcases I.ok.stk with e|⟨e,hf⟩
 ·rw[e];exact I.funs
 ·rw[e];obtain⟨m,hn,_⟩:=I.loc;refine .cons (by rw[I.ok.kind];decide) hf hn ?_ I.funs;exact Heap.get?_none_of_le (b6u I.ok.bsz I.ok.above)
theorem Inv.stkSub (I:Inv X pins σ H s):∀b∈frs X.stack,b∈X.env.locals::X.fs:=λb hb=>by
 rcases I.ok.stk with e|⟨e,hf⟩
 ·rw[e] at hb;exact b6J _ hb
 ·rw[e] at hb;unfold frs at hb;rw[b9m,hf] at hb;exact hb
theorem Inv.stkFree (I:Inv X pins σ H s):∀b∈frs X.stack,H b=none:=λb hb=>by
 rcases b4K.mp (I.stkSub b hb) with e|hb
 ·rw[e];exact I.free
 ·obtain⟨_,o,ho,_⟩:=I.ok.funs.mem hb;exact I.base.free b o ho (I.ok.frf b hb) λz=>I.ok.exfs b z hb
theorem Inv.step {g':Array GenState} {t':Nat} {d':Drawn} {ch:List Addr} (I:Inv X pins σ H s)
  (hch:∀b∈ch,(b∈X.ex\/X.s₀.heap.objs.size<=b)/\b≠X.env.locals/\(∀x c,X.env.cells.lookup x=some c->c≠b)/\∀p∈X.pn++pins,p.1≠b)
  (keep:∀b o,b≠X.env.locals->b∉X.fs->b∉ch->s.heap.get? b=some o->H b=none->h'.get? b=some o)
  (slot:∀b o,b≠X.env.locals->b∈X.fs->b∉ch->s.heap.get? b=some o->H b=none->∃sl,h'.get? b=some { o with slots:=sl }) (free:∀b o,b∉ch->s.heap.get? b=some o->H b=none->H' b=none)
  (there:∀b o,b∉ch->s.heap.get? b=some o->∃o',h'.get? b=some o')
  (tups:∀b xs,H b=some (.tup xs)->H' b=some (.tup xs)) (frzs:∀b o u,H b=some (.frz o u)->H' b=some (.frz o u)) (tbls:∀b ps,H b=some (.tbl ps)->∃more,H' b=some (.tbl (ps++more)))
  (ns:∀m,s.heap.Ns X.env.locals m->h'.Ns X.env.locals m) (hok:HOk X.prog X.w H' h') (hg:AllBare g') :
  Inv X pins σ H' { s with heap:=h',gens:=g',drawn:=d',toks:=t' }:=by
 have neL:∀b o,X.s₀.heap.get? b=some o->b≠X.env.locals:=λb o e=>b4H (b4O (b4w e) I.ok.above);have neC:∀b o,X.s₀.heap.get? b=some o->b∉X.ex->b∉ch:=λb o e hx hb=>by
  rcases(hch b hb).1 with z|z
  ·exact hx z
  ·exact absurd (b4O (b4w e) z) (b5G _)
 have cellK:∀x c,X.env.cells.lookup x=some c->∀v,s.heap.IsCell c v->h'.IsCell c v:=λx c e v ⟨o,ho,hd⟩=>by
  have nch:c∉ch:=λz=>(hch c z).2.2.1 x c e rfl;by_cases hc:c∈X.fs
  ·obtain⟨sl,q⟩:=slot c o (I.cne x c e) hc nch ho (I.freeC x c e);exact⟨_,q,hd⟩
  ·exact⟨o,keep c o (I.cne x c e) hc nch ho (I.freeC x c e),hd⟩
 refine⟨I.ok,I.os,hg,⟨λb o e n hb hx=>?_,λb o e n hb hx=>?_,λb o e n hx=>?_,λb o e hx=>?_,λb xs e=>tups b xs (I.base.tups b xs e),λb o xs e=>frzs b o xs (I.base.frzs b o xs e),λb ps e=>?_⟩,?_,λx c e=>?_,?_,λx c e=>?_,λp hp=>?_,hok,I.len⟩
 ·exact keep b o (neL b o e) hb (neC b o e hx) (I.base.keep b o e n hb hx) (I.base.free b o e n hx)
 ·obtain⟨sl,e1⟩:=I.base.slot b o e n hb hx;obtain⟨sl',e2⟩:=slot b _ (neL b o e) hb (neC b o e hx) e1 (I.base.free b o e n hx);exact⟨sl',e2⟩
 ·obtain⟨o',e1⟩:=I.base.there b o e hx;exact free b o' (neC b o e hx) e1 (I.base.free b o e n hx)
 ·obtain⟨o',e1⟩:=I.base.there b o e hx;exact there b o' (neC b o e hx) e1
 ·obtain⟨m1,e1⟩:=I.base.tbls b ps e;obtain⟨m2,e2⟩:=tbls b _ e1;exact⟨m1++m2,by rw[e2,Array.append_assoc]⟩
 ·obtain⟨m,hn,hl⟩:=I.loc;refine⟨m,ns m hn,λi x v e1 e2 e3=>?_⟩;obtain⟨u,r,l⟩:=hl i x v e1 e2 e3;refine⟨u,r,?_⟩;rcases l with l|⟨k,c,e,z⟩
  ·exact .inl l
  ·exact .inr ⟨k,c,e,cellK x c e _ z⟩
 ·obtain⟨v,z⟩:=I.cell x c e;exact⟨v,cellK x c e v z⟩
 ·obtain⟨m,⟨o,_,_,ho,_⟩,_⟩:=I.loc;exact free _ o (λz=>(hch _ z).2.1 rfl) ho I.free
 ·obtain⟨v,o,ho,hd⟩:=I.cell x c e;exact free c o (λz=>(hch c z).2.2.1 x c e rfl) ho (I.freeC x c e)
 ·obtain⟨e,n,ne,nf,d⟩:=I.pin p hp;have nch:p.1∉ch:=λz=>(hch p.1 z).2.2.2 p hp rfl;exact⟨keep p.1 p.2 ne nf nch e n,free p.1 p.2 nch e n,ne,nf,d⟩
theorem Inv.un {t':Nat} (I:Inv X pins σ H s) (u:Un X.fs [] H H' s.heap h') (hok:HOk X.prog X.w H' h'):Inv X pins σ H' { s with heap:=h',toks:=t' }:=by
 obtain⟨m,⟨o,es,ep,ho,r⟩,_⟩:=id I.loc;obtain⟨sl,hL⟩:=u.any ho I.free (by simp);exact I.step (g':=s.gens) (d':=s.drawn) (ch:=[]) (λ_ z=>nomatch z) (λb o _ hb _ e n=>u.keep b o e n hb (by simp)) (λb o _ hb _ e n=>u.slot b o e n hb (by simp)) (λb o _ e n=>u.free b o e n (by simp)) (λb o _ e=>u.there b o e (by simp)) u.tups u.frzs u.tbls (λm' hm=>by
  obtain⟨o',es',ep',ho',r'⟩:=hm;rw[ho] at ho';cases ho';exact⟨_,es',ep',hL,r'⟩) hok I.bare
theorem Inv.call {g':Array GenState} {t':Nat} {d':Drawn} {ch:List Addr} (I:Inv X pins σ H s) (u:Un (frs X.stack) ch H H' s.heap h') (hok:HOk X.prog X.w H' h') (hg:AllBare g')
  (hch:∀b∈ch,(b∈X.ex\/X.s₀.heap.objs.size<=b)/\b≠X.env.locals/\(∀x c,X.env.cells.lookup x=some c->c≠b)/\∀p∈X.pn++pins,p.1≠b) :
  Inv X pins σ H' { s with heap:=h',gens:=g',drawn:=d',toks:=t' }:=by
 obtain⟨m,⟨o,es,ep,ho,r⟩,_⟩:=id I.loc;obtain⟨sl,hL⟩:=u.any ho I.free λz=>(hch _ z).2.1 rfl;exact I.step (ch:=ch) hch (λb o hL hb hc e n=>u.keep b o e n (λz=>(b4K.mp (I.stkSub b z)).elim hL hb) hc) (λb o _ _ hc e n=>u.any e n hc) (λb o hc e n=>u.free b o e n hc) (λb o hc e=>u.there b o e hc) u.tups u.frzs u.tbls (λm' hm=>by
  obtain⟨o',es',ep',ho',r'⟩:=hm;rw[ho] at ho';cases ho';exact⟨_,es',ep',hL,r'⟩) hok hg
theorem Inv.turned {t':Nat} {it:Addr} (I:Inv X pins σ H s) (k:∀b o,b≠it->s.heap.get? b=some o->h'.get? b=some o) (hn:H it=none) (hL:it≠X.env.locals)
  (h1:it∈X.ex\/X.s₀.heap.objs.size<=it) (h2:∀x c,X.env.cells.lookup x=some c->c≠it) (h3:∀p∈X.pn++pins,p.1≠it):Inv X pins σ H { s with heap:=h',toks:=t' }:=by
 have nit:∀b u,H b=some u->b≠it:=λb u e z=>by rw[z,hn] at e;cases e
 refine I.step (g':=s.gens) (d':=s.drawn) (ch:=[it]) (λb hb=>?_) (λb o _ _ hc e _=>k b o (λz=>hc (by simp[z])) e) (λb o _ _ hc e _=>⟨o.slots,k b o (λz=>hc (by simp[z])) e⟩) (λ_ _ _ _ n=>n)
  (λb o hc e=>⟨o,k b o (λz=>hc (by simp[z])) e⟩) (λ_ _ e=>e) (λ_ _ _ e=>e) (λb ps e=>⟨#[],by rw[e];simp⟩) (λm hm=>?_) (λb u e=>?_) I.bare
 ·have e:b=it:=by simpa using hb
  subst e;exact⟨h1,hL,h2,h3⟩
 ·obtain⟨o,es,ep,ho,r⟩:=hm;exact⟨o,es,ep,k _ o (Ne.symm hL) ho,r⟩
 ·refine(I.hok b u e).stay (λc v hc q=>k c v ?_ q) (λ_ q=>q) λ_ _ q=>q;rcases hc with z|z
  ·rw[z];exact nit b u e
  ·exact nit c _ z
theorem Inv.tok (I:Inv X pins σ H s) (t:Nat):Inv X pins σ H { s with toks:=t }:=I.un (h':=s.heap) (t':=t) Un.refl I.hok
theorem Inv.kept {t':Nat} (I:Inv X pins σ H s) (k:∀b u,s.heap.get? b=some u->h'.get? b=some u):Inv X pins σ H { s with heap:=h',toks:=t' }:=I.un (Un.kept k) (I.hok.kept k)
theorem Inv.laid {a:Addr} {o:HO} {t':Nat} (I:Inv X pins σ H s) (k:∀b u,s.heap.get? b=some u->h'.get? b=some u) (hp:s.heap.objs.size<=a) (new:a0B X.prog X.w (upd H a o) h' a o) :
  Inv X pins σ (upd H a o) { s with heap:=h',toks:=t' }:=I.un (Un.laid k hp (I.hok.fresh hp)) (I.hok.laid k hp new)
theorem Inv.write {x e:Addr} {o:HO} {t':Nat} (I:Inv X pins σ H s) (mu:Mut (H x)) (he:e=x\/H e=some (.own x)) (k:∀b u,b≠e->s.heap.get? b=some u->h'.get? b=some u) (heo:∃u,h'.get? e=some u)
  (new:a0B X.prog X.w (upd H x o) h' x o):Inv X pins σ (upd H x o) { s with heap:=h',toks:=t' }:=I.un (Un.write mu he k heo) (I.hok.write mu he k heo new)
theorem Inv.weak {σ':List (Option V)} (I:Inv X pins σ H s) (hl:σ'.length=σ.length) (w:∀(i:Nat) v,σ'[i]?=some (some v)->σ[i]?=some (some v)):Inv X pins σ' H s :=
 ⟨I.ok,I.os,I.bare,I.base,let ⟨m,hn,hl'⟩:=I.loc;⟨m,hn,λi x v e1 e2 e3=>hl' i x v e1 (w i v e2) e3⟩,I.cell,I.free,I.freeC,I.pin,I.hok,hl.trans I.len⟩
theorem Inv.pins_of {pins':List (Addr × Obj)} (I:Inv X pins σ H s) (h:∀p∈pins',s.heap.get? p.1=some p.2/\H p.1=none/\p.1≠X.env.locals/\p.1∉X.fs/\∀v,p.2.data≠.cell v):Inv X pins' σ H s :=
 ⟨I.ok,I.os,I.bare,I.base,I.loc,I.cell,I.free,I.freeC,λp hp=>(b4J.mp hp).elim (λz=>I.pin p (b5t _ z)) (h p),I.hok,I.len⟩
theorem a6w {N:List Str} (hN:N.Nodup) {i j:Nat} {x:Str} (a:N[i]?=some x) (b:N[j]?=some x):i=j:=by
 obtain⟨h1,e1⟩:=b4u.mp a;obtain⟨h2,e2⟩:=b4u.mp b;exact(b7e hN).mp (e1.trans e2.symm)
theorem a4R {M:Model} {A:Around} {E:Value->Shared->Prop} {i:Nat} {x:Str} {v:V} {u:Value} {Q:Unit->Shared->Prop} (I:Inv X pins σ H s) (hN:X.N.Nodup) (hi:X.N[i]?=some x) (hx:Loc X.env.scope x) (r:a0T v u)
  (h:∀s',Inv X pins (σ.set i (some v)) H s'->(∃a,Heap.SameBut a s.heap s'.heap/\(a=X.env.locals\/X.env.cells.lookup x=some a))->Q () s') (hf:X.fn x=true\/X.env.scope.names.lookup x=some .local:=by first|exact .inl rfl|exact .inr rfl|assumption):wpAny M A (storeName X.env x u) Q E s:=by
 obtain⟨m,hn,hl⟩:=id I.loc;have hcls:(X.env.scope.kind==.class||(X.env.scope.kind==.module&&X.env.locals !=X.env.globals))=false:=by rw[I.ok.kind];rfl
 have hiσ:i < σ.length:=by rw[I.len];exact(b4u.mp hi).1
 have cne:=I.cne;have tracked:∀{a:Addr} {h':Heap},(∃o,s.heap.get? a=some o/\H a=none)->Heap.SameBut a s.heap h'->HOk X.prog X.w H h':=λ{a h'} ha hs b ob e=>by
  obtain⟨_,_,hfree⟩:=ha;refine(I.hok b ob e).stay (λc w' hc q=>(hs.2 c ?_).trans q) (λ_ q=>q) λ_ _ q=>q;rintro rfl;rcases hc with rfl|hc
  ·rw[hfree] at e;cases e
  ·rw[hfree] at hc;cases hc
 rcases hx with hk|hk
 ·refine wpAny_storeName_local hk hn (λh' hn' hs=>?_) hcls;obtain⟨oL,_,_,hoL,_⟩:=id hn;refine h _ ⟨I.ok,I.os,I.bare,⟨λb o e n hb hx=>?_,λb o e n hb hx=>?_,I.base.free,λb o e hx=>?_,I.base.tups,I.base.frzs,I.base.tbls⟩,⟨_,hn',λj y v' e1 e2 e3=>?_⟩,λy c e=>?_,I.free,I.freeC,λp hp=>?_,tracked ⟨oL,hoL,I.free⟩ hs,by simpa using I.len⟩ ⟨_,hs,.inl rfl⟩
  ·exact(hs.2 b (b4H (b4O (b4w e) I.ok.above))).trans (I.base.keep b o e n hb hx)
  ·obtain⟨sl,e1⟩:=I.base.slot b o e n hb hx;exact⟨sl,(hs.2 b (b4H (b4O (b4w e) I.ok.above))).trans e1⟩
  ·obtain⟨o',e1⟩:=I.base.there b o e hx;exact⟨o',(hs.2 b (b4H (b4O (b4w e) I.ok.above))).trans e1⟩
  ·by_cases hj:j=i
   ·subst hj;rw[hi] at e1;cases e1;rw[b8y hiσ] at e2;cases e2;exact⟨u,r,.inl ⟨hk,by simp⟩⟩
   ·rw[List.getElem?_set_ne (Ne.symm hj)] at e2;obtain⟨u',r',q⟩:=hl j y v' e1 e2 e3;refine⟨u',r',?_⟩;rcases q with ⟨k,e⟩|⟨k,c,e,z⟩
    ·refine .inl ⟨k,?_⟩;have:y≠x:=λe=>hj (a6w hN e1 (e▸hi));simp[this,e]
    ·exact .inr ⟨k,c,e,z.sameBut hs (cne y c e)⟩
  ·obtain⟨w',z⟩:=I.cell y c e;exact⟨w',z.sameBut hs (cne y c e)⟩
  ·obtain⟨e,n,ne,nf,d⟩:=I.pin p hp;exact⟨(hs.2 p.1 ne).trans e,n,ne,nf,d⟩
 ·have hfn:X.fn x=true:=by
   rcases hf with z|z
   ·exact z
   ·rw[z] at hk;cases hk
  obtain⟨c,hc⟩:=I.ok.has x (.inl hk);obtain⟨w',z⟩:=I.cell x c hc;refine wpAny_storeName_cell I.ok.kind hk hc z (λh' hc' hs=>?_);obtain⟨oc,hoc,hocd⟩:=id z;refine h { s with heap:=h' } ⟨I.ok,I.os,I.bare,⟨λb o e n hb hx=>?_,λb o e n hb hx=>?_,I.base.free,λb o e hx=>?_,I.base.tups,I.base.frzs,I.base.tbls⟩,⟨m,hn.sameBut hs (Ne.symm (cne x c hc)),λj y v' e1 e2 e3=>?_⟩,λy c' e=>?_,I.free,I.freeC,λp hp=>?_,tracked ⟨oc,hoc,I.freeC x c hc⟩ hs,by simpa using I.len⟩ ⟨c,hs,.inr hc⟩
  ·exact(hs.2 b (b4H (b4O (b4w e) (I.ok.cab x c hfn hc)))).trans (I.base.keep b o e n hb hx)
  ·obtain⟨sl,e1⟩:=I.base.slot b o e n hb hx;exact⟨sl,(hs.2 b (b4H (b4O (b4w e) (I.ok.cab x c hfn hc)))).trans e1⟩
  ·obtain⟨o',e1⟩:=I.base.there b o e hx;exact⟨o',(hs.2 b (b4H (b4O (b4w e) (I.ok.cab x c hfn hc)))).trans e1⟩
  ·by_cases hj:j=i
   ·subst hj;rw[hi] at e1;cases e1;rw[b8y hiσ] at e2;cases e2;exact⟨u,r,.inr ⟨.inl hk,c,hc,hc'⟩⟩
   ·rw[List.getElem?_set_ne (Ne.symm hj)] at e2;obtain⟨u',r',q⟩:=hl j y v' e1 e2 e3;refine⟨u',r',?_⟩;rcases q with q|⟨k,c',e,z'⟩
    ·exact .inl q
    ·refine .inr ⟨k,c',e,z'.sameBut hs ?_⟩;rintro rfl;exact hj (a6w hN e1 (I.ok.inj _ _ _ e hc▸hi))
  ·by_cases hcc:c'=c
   ·subst hcc;exact⟨_,hc'⟩
   ·obtain⟨w2,z2⟩:=I.cell y c' e;exact⟨w2,z2.sameBut hs hcc⟩
  ·obtain⟨e,n,ne,nf,d⟩:=I.pin p hp;refine⟨(hs.2 p.1 ?_).trans e,n,ne,nf,d⟩;intro q;rw[q,hoc] at e;have q':oc=p.2:=b4N e;exact d w' (by rw[<-q'];exact hocd)
theorem a6x {M:Model} {A:Around} {E:Value->Shared->Prop} {i:Nat} {x:Str} {v:V} {u:Value} {Q:Unit->Shared->Prop} (I:Inv X pins σ H s) (hN:X.N.Nodup) (hi:X.N[i]?=some x) (hx:Loc X.env.scope x) (r:a0T v u)
  (h:∀s',Inv X pins (σ.set i (some v)) H s'->Q () s') (hf:X.fn x=true\/X.env.scope.names.lookup x=some .local:=by first|exact .inl rfl|exact .inr rfl|assumption):wpAny M A (storeName X.env x u) Q E s :=
 a4R I hN hi hx r (λs' I' _=>h s' I') hf
theorem Inv.call' {s':Shared} {ch:List Addr} (I:Inv X pins σ H s) (ho:s'.os=s.os) (u:Un (frs X.stack) ch H H' s.heap s'.heap) (hok:HOk X.prog X.w H' s'.heap) (hg:AllBare s'.gens)
  (hch:∀b∈ch,(b∈X.ex\/X.s₀.heap.objs.size<=b)/\b≠X.env.locals/\(∀x c,X.env.cells.lookup x=some c->c≠b)/\∀p∈X.pn++pins,p.1≠b):Inv X pins σ H' s':=by
 obtain⟨h',g',d',t',o'⟩:=s';have e:o'=s.os:=ho;subst e;exact I.call (g':=g') (t':=t') (d':=d') u hok hg hch
end
abbrev XK:=Value->Option Addr->Hp->Prop
abbrev St:=List (Option V)
abbrev VK:=V->Hp->Prop
abbrev TE:=St->Hp->VK->Prop
abbrev TT:=St->Hp->(Bool->Hp->Prop)->Prop
abbrev TA:=St->Hp->(List V->Hp->Prop)->Prop
structure b1U where
 nx:St->Hp->Prop
 rt:VK
 bk:St->Hp->Prop:=λ_ _=>False
 ct:St->Hp->Prop:=λ_ _=>False
abbrev TS:=b1U->St->Hp->Prop
noncomputable def EP (X:Cx) (pins:List (Addr × Obj)) (σ:St) (Q:VK) (u:Value) (s':Shared):Prop:=∃v H',Inv X pins σ H' s'/\a0T v u/\Q v H'
noncomputable def TP (X:Cx) (pins:List (Addr × Obj)) (σ:St) (Q:Bool->Hp->Prop) (b:Bool) (s':Shared):Prop:=∃H',Inv X pins σ H' s'/\Q b H'
noncomputable def AP (X:Cx) (pins:List (Addr × Obj)) (σ:St) (Q:List V->Hp->Prop) (us:List Value) (s':Shared):Prop:=∃vs H',Inv X pins σ H' s'/\a0C vs us/\Q vs H'
noncomputable def SP (X:Cx) (pins:List (Addr × Obj)) (D:b1U) (f:Flow) (s':Shared):Prop :=
 match f with
 | .next=>∃σ' H',Inv X pins σ' H' s'/\D.nx σ' H'
 | .brk=>∃σ' H',Inv X pins σ' H' s'/\D.bk σ' H'
 | .cont=>∃σ' H',Inv X pins σ' H' s'/\D.ct σ' H'
 | .ret u=>∃v σ' H',Inv X pins σ' H' s'/\a0T v u/\D.rt v H'
noncomputable def PE (X:Cx) (e:Expr) (t:TE):Prop :=
 ∀(pins:List (Addr × Obj)) (s:Shared) (σ:St) (H:Hp) (Q:VK),Inv X pins σ H s->t σ H Q->wpAny (model X.prog X.w) X.A (eval e X.env) (EP X pins σ Q) X.xe s
noncomputable def PT (X:Cx) (e:Expr) (t:TT):Prop :=
 ∀(pins:List (Addr × Obj)) (s:Shared) (σ:St) (H:Hp) (Q:Bool->Hp->Prop),Inv X pins σ H s->t σ H Q->wpAny (model X.prog X.w) X.A (isTrue e X.env (eval e X.env)) (TP X pins σ Q) X.xe s
noncomputable def PW (X:Cx) (e:Expr) (t:TT):Prop :=
 ∀(whole:Sem Value) (pins:List (Addr × Obj)) (s:Shared) (σ:St) (H:Hp) (Q:Bool->Hp->Prop),Inv X pins σ H s->t σ H Q->wpAny (model X.prog X.w) X.A (isTrue e X.env whole) (TP X pins σ Q) X.xe s
theorem PW.pt {X:Cx} {e:Expr} {t:TT} (h:PW X e t):PT X e t:=h _
noncomputable def PA (X:Cx) (es:List Expr) (t:TA):Prop :=
 ∀(pos:Pos) (pins:List (Addr × Obj)) (s:Shared) (σ:St) (H:Hp) (Q:List V->Hp->Prop),Inv X pins σ H s->t σ H Q->wpAny (model X.prog X.w) X.A (spliced (backTo pos (starEach es X.env))) (AP X pins σ Q) X.xe s
noncomputable def PS (X:Cx) (st:Stmt) (t:TS):Prop :=
 ∀(pins:List (Addr × Obj)) (s:Shared) (σ:St) (H:Hp) (D:b1U),Inv X pins σ H s->t D σ H->wpAny (model X.prog X.w) X.A (exec st X.env) (SP X pins D) X.xe s
noncomputable def PSs (X:Cx) (st:List Stmt) (t:TS):Prop :=
 ∀(pins:List (Addr × Obj)) (s:Shared) (σ:St) (H:Hp) (D:b1U),Inv X pins σ H s->t D σ H->wpAny (model X.prog X.w) X.A (execs st X.env) (SP X pins D) X.xe s
theorem thn {α:Type} {t:Sem α} {Q Q':α->Shared->Prop} {M:Model} {A:Around} {E:Value->Shared->Prop} {s:Shared} (h:wpAny M A t Q E s) (hQ:∀a s,Q a s->Q' a s):wpAny M A t Q' E s:=b6Y h hQ λ_ _ x=>x
section
variable {X:Cx}
noncomputable def tVar (i:Nat):TE:=λσ H Q=>∃v,σ[i]?=some (some v)/\Q v H
noncomputable def tC (v:V):TE:=λ_ H Q=>Q v H
theorem pe_var {i:Nat} {x:Str} {pos:Pos} (hN:X.N[i]?=some x) (hv:Vis X.env.scope x) (hd:(x==("__debug__":Str))=false:=by decide) (hcd:(x==("__classdict__":Str))=false:=by decide):PE X (.Name x pos) (tVar i):=by
 intro pins s σ H Q I h;obtain⟨v,e,h⟩:=h;obtain⟨m,hn,hl⟩:=I.loc;obtain⟨u,r,l⟩:=hl i x v hN e hv;have fin:EP X pins σ Q u s:=⟨v,H,I,r,h⟩
 rcases l with ⟨hk,hm⟩|⟨hk,c,hc,hcell⟩
 ·exact wpAny_Name (wpAny_loadName_local I.ok.kind hk hn hm fin) hd
 ·rcases hk with hk|hk
  ·exact wpAny_Name (wpAny_loadName_cell I.ok.kind hk hc hcell fin) hd
  ·exact wpAny_Name (wpAny_loadName_free I.ok.kind hk hc hcell fin hcd) hd
theorem a0g {i j pos}:PE X (.Constant (.int i) j pos) (tC (.int i)):=λ_ _ _ H _ I h=>wpAny_Constant_int ⟨.int i,H,I.tok _,⟨_,rfl⟩,h⟩
theorem a2v {b j pos}:PE X (.Constant (.bool b) j pos) (tC (.bl b)):=λ_ _ _ H _ I h=>Constant_bool ⟨.bl b,H,I,rfl,h⟩
noncomputable def Gl (X:Cx) (x:Str):Prop:=X.env.kindOf x=some .globalImplicit
theorem a8s {E:Value->Shared->Prop} {pins:List (Addr × Obj)} {s:Shared} {σ:St} {H:Hp} {x:Str} {u:Value} {pos:Pos} {Q:Value->Shared->Prop} (I:Inv X pins σ H s) (hg:Gl X x) (hm:X.mg x=some u) (h:Q u s)
  (hd:(x==("__debug__":Str))=false:=by decide):wpAny (model X.prog X.w) X.A (eval (.Name x pos) X.env) Q E s :=
 Calls.Name_function_global I.ok.kind hg (Calls.loadGlobal_global (by rw[I.ok.glob];exact I.mod.glob.keeps I.bk) hm h) hd
theorem a1l {E:Value->Shared->Prop} {pins:List (Addr × Obj)} {s:Shared} {σ:St} {H:Hp} {x:Str} {u:Value} {pos:Pos} {Q:Value->Shared->Prop} (I:Inv X pins σ H s) (hg:Gl X x) (hm:X.mg x=none) (hv:bootBuiltins x=some u) (h:Q u s)
  (hn:x≠"__name__":=by decide) (hd:(x==("__debug__":Str))=false:=by decide):wpAny (model X.prog X.w) X.A (eval (.Name x pos) X.env) Q E s:=by
 obtain⟨mb,h1,h2⟩:=I.mod.blt;exact Calls.Name_function_global I.ok.kind hg (Calls.loadGlobal_builtin (by rw[I.ok.glob];exact I.mod.glob.keeps I.bk) hm (by rw[I.ok.blt];exact h1.keeps I.bk) ((h2 x hn).trans hv) h) hd
theorem a5H {x:Str} {v:V} {u:Value} {pos:Pos} (hg:Gl X x) (hm:X.mg x=some u) (r:a0T v u) (hd:(x==("__debug__":Str))=false:=by decide):PE X (.Name x pos) (tC v) :=
 λ_ _ _ H _ I h=>a8s I hg hm ⟨v,H,I,r,h⟩ hd
theorem a2X {x:Str} {v:V} {u:Value} {pos:Pos} (hg:Gl X x) (hm:X.mg x=none) (hv:bootBuiltins x=some u) (r:a0T v u) (hn:x≠"__name__":=by decide) (hd:(x==("__debug__":Str))=false:=by decide):PE X (.Name x pos) (tC v) :=
 λ_ _ _ H _ I h=>a1l I hg hm hv ⟨v,H,I,r,h⟩ hn hd
noncomputable def t2I (ta tb:TE) (k:Int->Int->Hp->Prop):St->Hp->Prop:=λσ H=>ta σ H λx H1=>tb σ H1 λy H2=>∃i j,x=.int i/\y=.int j/\k i j H2
noncomputable def tMul (ta tb:TE):TE:=λσ H Q=>t2I ta tb (λi j H2=>(-(2 ^ 64)<i/\i<2 ^ 64)/\Q (.int (i*j)) H2) σ H
variable {a b:Expr} {ta tb:TE} {pos:Pos}
noncomputable def tIsN (ta:TE):TE:=λσ H Q=>ta σ H λx H1=>Q (.bl (decide (x=.non))) H1
noncomputable def tB (t:TE):TT:=λσ H Q=>t σ H λx H1=>∃c,x=.bl c/\Q c H1
theorem a2Y {e:Expr} {t:TE} (h:PE X e t) (he:∀whole,isTrue e X.env whole=(do let v <-whole;standAt e.pos;holding [v] (truthy v)):=by intro _;rfl):PT X e (tB t):=by
 intro pins s σ H Q I hw;refine isTrue_plain (thn (h pins s σ H _ I hw) λv s1 ⟨x,H1,I1,r1,q1⟩=>?_) (he _);obtain⟨d,rfl,q⟩:=q1;cases r1;exact b6v ⟨H1,I1,q⟩
variable {tA tB':TT} {rest:List Expr}
noncomputable def tAnd (t u:TT):TT:=λσ H Q=>t σ H λc H1=>if c=true then u σ H1 Q else Q false H1
noncomputable def tOr (t u:TT):TT:=λσ H Q=>t σ H λc H1=>if c=true then Q true H1 else u σ H1 Q
noncomputable def tNot (t:TT):TT:=λσ H Q=>t σ H λc H1=>Q (!c) H1
theorem a5I (ha:PT X a tA):PW X (.BoolOp .And [a] pos) tA:=by
 intro wh pins s σ H Q I h;refine isTrue_and (thn (ha pins s σ H Q I h) λc s1 e=>?_);cases c with
 | true=>exact isTrue_and_nil e
 | false=>exact e
theorem a6y (ha:PT X a tA):PW X (.BoolOp .Or [a] pos) tA:=by
 intro wh pins s σ H Q I h;refine isTrue_or (thn (ha pins s σ H Q I h) λc s1 e=>?_);cases c with
 | false=>exact isTrue_or_nil e
 | true=>exact e
theorem a8t (ha:PT X a tA) (hb:PW X (.BoolOp .And (b::rest) pos) tB'):PW X (.BoolOp .And (a::b::rest) pos) (tAnd tA tB'):=by
 intro wh pins s σ H Q I h;refine isTrue_and (thn (ha pins s σ H _ I h) λc s1 ⟨H1,I1,q1⟩=>?_);cases c with
 | true=>exact hb wh pins s1 σ H1 Q I1 q1
 | false=>exact⟨H1,I1,q1⟩
theorem a7w (ha:PT X a tA) (hb:PW X (.BoolOp .Or (b::rest) pos) tB'):PW X (.BoolOp .Or (a::b::rest) pos) (tOr tA tB'):=by
 intro wh pins s σ H Q I h;refine isTrue_or (thn (ha pins s σ H _ I h) λc s1 ⟨H1,I1,q1⟩=>?_);cases c with
 | true=>exact⟨H1,I1,q1⟩
 | false=>exact hb wh pins s1 σ H1 Q I1 q1
theorem a2Z (ha:PT X a tA):PT X (.UnaryOp .Not a pos) (tNot tA):=by
 intro pins s σ H Q I h;exact isTrue_not (ha pins s σ H (λc H1=>Q (!c) H1) I h)
noncomputable def tAndV (ta tb:TE):TE:=λσ H Q=>ta σ H λx H1=>∃c,x=.bl c/\if c=true then tb σ H1 Q else Q (.bl false) H1
noncomputable def tNotV (ta:TE):TE:=λσ H Q=>ta σ H λx H1=>∃c,x=.bl c/\Q (.bl (!c)) H1
theorem pe_one {op} {t:TE} (h:PE X a t):PE X (.BoolOp op [a] pos) t:=λpins s σ H Q I hw=>BoolOp_one (h pins s σ H Q I hw)
theorem pe_and (ha:PE X a ta) (hb:PE X (.BoolOp .And (b::rest) pos) tb):PE X (.BoolOp .And (a::b::rest) pos) (tAndV ta tb):=by
 intro pins s σ H Q I h;refine BoolOp_and (thn (ha pins s σ H _ I h) λv s1 ⟨x,H1,I1,r1,q1⟩=>?_);obtain⟨c,rfl,q1⟩:=q1;cases r1;refine b6v ?_;cases c with
 | true=>exact hb pins s1 σ H1 Q I1 q1
 | false=>exact⟨.bl false,H1,I1,rfl,q1⟩
theorem b1V (ha:PE X a ta):PE X (.UnaryOp .Not a pos) (tNotV ta):=by
 intro pins s σ H Q I h;refine UnaryOp_ (thn (ha pins s σ H _ I h) λv s1 ⟨x,H1,I1,r1,q1⟩=>?_);obtain⟨c,rfl,q1⟩:=q1;cases r1;exact not_of (b6v ⟨.bl (!c),H1,I1,rfl,q1⟩)
noncomputable def tIf (t:TT) (ta tb:TE):TE:=λσ H Q=>t σ H λc H1=>if c=true then ta σ H1 Q else tb σ H1 Q
theorem b0H {c:Expr} (hc:PT X c tA) (ha:PE X a ta) (hb:PE X b tb):PE X (.IfExp c a b pos) (tIf tA ta tb):=by
 intro pins s σ H Q I h;refine wpAny_IfExp (thn (hc pins s σ H _ I h) λd s1 ⟨H1,I1,q1⟩=>?_);cases d with
 | true=>exact ha pins s1 σ H1 Q I1 q1
 | false=>exact hb pins s1 σ H1 Q I1 q1
end
noncomputable def SqL (K:PySem.W.Frag) (H:Hp) (a:Addr) (xs:List V):Prop :=
 Rd H a (.lst xs) \/
  ∃(o:Obj) (its:Array Value) (n:Nat),K.lookup a=some o/\o.cls=.type "list"/\o.dict=none/\o.data=.seq its n/\its.size<=sizeLine/\a0C xs its.toList
noncomputable def SqT (K:PySem.W.Frag) (H:Hp) (a:Addr) (xs:List V):Prop :=
 Rd H a (.tup xs) \/
  ∃(o:Obj) (its:Array Value) (n:Nat),K.lookup a=some o/\o.cls=.type "tuple"/\o.data=.seq its n/\its.size<=sizeLine/\a0C xs its.toList
noncomputable def absV:Value->Option V
 | .none=>some .non
 | .bool b=>some (.bl b)
 | .int i _=>some (.int i)
 | .str x _=>some (.str x)
 | .bytes b _=>some (.byt b)
 | .float b _=>some (.flt b)
 | .ref a=>some (.ref a)
 | .type n=>some (.ty n)
 | _=>none
theorem a0T.abs {x:V} {u:Value} (r:a0T x u):absV u=some x:=by
 cases x with
 | non=>cases r;rfl
 | bl _=>cases r;rfl
 | int _=>obtain⟨t,rfl⟩:=r;rfl
 | str _=>obtain⟨t,rfl⟩:=r;rfl
 | byt _=>obtain⟨t,rfl⟩:=r;rfl
 | flt _=>obtain⟨t,rfl⟩:=r;rfl
 | ref _=>cases r;rfl
 | ty _=>cases r;rfl
theorem a0T.inj {x y:V} {u:Value} (r:a0T x u) (q:a0T y u):x=y:=b4N (r.abs.symm.trans q.abs)
theorem a0C.inj:∀{xs ys:List V} {us:List Value},a0C xs us->a0C ys us->xs=ys
 | _,_,_,.nil,.nil=>rfl
 | _,_,_,.cons r t,.cons r' t'=>by rw[r.inj r',a0C.inj t t']
section
variable {X:Cx} {pins:List (Addr × Obj)} {σ:St} {H:Hp} {s:Shared} {a:Addr} {xs ys:List V}
theorem SqL.of {K:PySem.W.Frag} (h:H a=some (.lst xs)):SqL K H a xs:=.inl (.inl h)
theorem SqT.of {K:PySem.W.Frag} (h:H a=some (.tup xs)):SqT K H a xs:=.inl (.inl h)
theorem Inv.list (I:Inv X pins σ H s) (h:SqL X.K H a xs):∃its:List Value,a0C xs its/\PlainL s.heap a its.toArray/\xs.length<=sizeLine:=by
 rcases h with h|⟨o,its,n,hk,hc,hd,hs,hz,r⟩
 ·obtain⟨z,its,n,r,e⟩:=h.ok I.hok;exact⟨its,r,⟨_,n,e,rfl,rfl,rfl⟩,z⟩
 ·refine⟨its.toList,r,⟨o,n,I.kIn a o hk,hc,hd,by simpa using hs⟩,?_⟩;have e:=r.length;simp only[b4x] at e;omega
theorem Inv.tuple (I:Inv X pins σ H s) (h:SqT X.K H a xs):∃its:List Value,a0C xs its/\IsTup s.heap a its.toArray/\xs.length<=sizeLine:=by
 rcases h with h|⟨o,its,n,hk,hc,hs,hz,r⟩
 ·obtain⟨z,its,r,p⟩:=h.ok I.hok;exact⟨its,r,p.is,z⟩
 ·refine⟨its.toList,r,⟨o,I.kIn a o hk,hc,n,by simpa using hs⟩,?_⟩;have e:=r.length;simp only[b4x] at e;omega
theorem Inv.list_inj (I:Inv X pins σ H s) (h:SqL X.K H a xs) (h':SqL X.K H a ys):xs=ys:=by
 obtain⟨its,r,⟨o,n,e,_,_,d⟩,_⟩:=I.list h;obtain⟨its',r',⟨o',n',e',_,_,d'⟩,_⟩:=I.list h';rw[e] at e';cases e';rw[d] at d';injection d' with d1 _;have:its=its':=by simpa using b6W Array.toList d1
 subst this;exact r.inj r'
theorem Inv.tuple_inj (I:Inv X pins σ H s) (h:SqT X.K H a xs) (h':SqT X.K H a ys):xs=ys:=by
 obtain⟨its,r,⟨o,e,_,n,d⟩,_⟩:=I.tuple h;obtain⟨its',r',⟨o',e',_,n',d'⟩,_⟩:=I.tuple h';rw[e] at e';cases e';rw[d] at d';injection d' with d1 _;have:its=its':=by simpa using b6W Array.toList d1
 subst this;exact r.inj r'
end
abbrev Cx.wish (X:Cx) (E:Value->Shared->Prop):Cx:={ X with xe:=E }
abbrev Cx.nox (X:Cx):Cx:=X.wish λ_ _=>False
theorem Cx.Ok.wish {X:Cx} (ok:X.Ok) (E:Value->Shared->Prop):(X.wish E).Ok :=
 ⟨ok.mod,ok.kind,ok.glob,ok.blt,ok.above,ok.inj,ok.has,ok.cab,ok.hd,ok.frames,ok.stk,ok.exf,ok.bs,ok.bsz,ok.noex,ok.exfs,ok.funs,ok.frf⟩
theorem Cx.Ok.unwish {X:Cx} {E:Value->Shared->Prop} (ok:(X.wish E).Ok):X.Ok :=
 ⟨ok.mod,ok.kind,ok.glob,ok.blt,ok.above,ok.inj,ok.has,ok.cab,ok.hd,ok.frames,ok.stk,ok.exf,ok.bs,ok.bsz,ok.noex,ok.exfs,ok.funs,ok.frf⟩
section
variable {X:Cx} {pins:List (Addr × Obj)} {σ:St} {H:Hp} {s:Shared} {E:Value->Shared->Prop}
theorem Inv.wish (I:Inv X pins σ H s) (E:Value->Shared->Prop):Inv (X.wish E) pins σ H s:=⟨I.ok.wish E,I.os,I.bare,I.base,I.loc,I.cell,I.free,I.freeC,I.pin,I.hok,I.len⟩
theorem Inv.unwish (I:Inv (X.wish E) pins σ H s):Inv X pins σ H s:=⟨I.ok.unwish,I.os,I.bare,I.base,I.loc,I.cell,I.free,I.freeC,I.pin,I.hok,I.len⟩
theorem SP.unwish {D:b1U} {f:Flow} {s':Shared} (h:SP (X.wish E) pins D f s'):SP X pins D f s':=by
 cases f with
 | next=>obtain⟨σ',H',I,q⟩:=h;exact⟨σ',H',I.unwish,q⟩
 | brk=>obtain⟨σ',H',I,q⟩:=h;exact⟨σ',H',I.unwish,q⟩
 | cont=>obtain⟨σ',H',I,q⟩:=h;exact⟨σ',H',I.unwish,q⟩
 | ret u=>obtain⟨v,σ',H',I,r,q⟩:=h;exact⟨v,σ',H',I.unwish,r,q⟩
theorem PSs.nox {st:List Stmt} {t:TS} (h:PSs X.nox st t):PSs X st t:=λpins s σ H D I hw =>
 b6Y (h pins s σ H D (I.wish _) hw) (λ_ _ q=>q.unwish) λ_ _ z=>False.elim z
end
section
variable {X:Cx} {st:Stmt} {rest:List Stmt} {t u:TS} {e:Expr} {te:TE} {pos:Pos}
noncomputable def tNext:TS:=λD σ H=>D.nx σ H
noncomputable def tSeq (t u:TS):TS:=λD σ H=>t { D with nx:=u D } σ H
theorem a0z:PSs X [] tNext:=λ_ _ σ H _ I h=>b9n ⟨σ,H,I,h⟩
theorem a0e (h1:PS X st t) (h2:PSs X rest u):PSs X (st::rest) (tSeq t u):=by
 intro pins s σ H D I h;refine wpAny_execs_cons (thn (h1 pins s σ H { D with nx:=u D } I h) λf s1 q=>?_);cases f with
 | next =>
  obtain⟨σ',H',I',q⟩:=q;exact h2 pins s1 σ' H' D I' q
 | ret v=>exact q
 | brk=>exact q
 | cont=>exact q
theorem a0i (h1:PS X st t):PSs X [st] t:=by
 intro pins s σ H D I h;refine wpAny_execs_cons (thn (h1 pins s σ H D I h) λf s1 q=>?_);cases f with
 | next=>exact b9n q
 | ret v=>exact q
 | brk=>exact q
 | cont=>exact q
theorem Inv.quiet {pins:List (Addr × Obj)} {σ:St} {H:Hp} {s:Shared} (I:Inv X pins σ H s):interactive X.env=false:=by simp[interactive,I.ok.kind]
noncomputable def tDrop (te:TE):TS:=λD σ H=>te σ H λ_ H1=>D.nx σ H1
theorem a1r (he:PE X e te) (hs:swapsWith e none pos.line X.env=pure false:=by rfl):PS X (.Expr e pos) (tDrop te):=by
 intro pins s σ H D I h;exact wpAny_Expr_any (thn (he pins s σ H _ I h) λv s1 ⟨x,H1,I1,r1,q1⟩=>⟨σ,H1,I1,q1⟩) I.quiet hs
noncomputable def tRet (te:TE):TS:=λD σ H=>te σ H D.rt
theorem a0u (he:PE X e te):PS X (.Return (some e) pos) (tRet te):=by
 intro pins s σ H D I h;exact wpAny_Return_some (thn (he pins s σ H _ I h) λv s1 ⟨x,H1,I1,r1,q1⟩=>⟨x,σ,H1,I1,r1,q1⟩)
noncomputable def tIfS (c:TT) (t u:TS):TS:=λD σ H=>c σ H λb H1=>if b=true then t D σ H1 else u D σ H1
theorem a0Y {c:Expr} {a b:List Stmt} {tc:TT} (hc:PT X c tc) (ha:PSs X a t) (hb:PSs X b u):PS X (.If c a b pos) (tIfS tc t u):=by
 intro pins s σ H D I h;refine wpAny_If (thn (hc pins s σ H _ I h) λd s1 ⟨H1,I1,q1⟩=>?_);cases d with
 | true=>exact ha pins s1 σ H1 D I1 q1
 | false=>exact hb pins s1 σ H1 D I1 q1
noncomputable def tNever:TS:=λ_ _ _=>False
end
abbrev TG:=V->St->Hp->(St->Hp->Prop)->Prop
abbrev TGs:=List V->St->Hp->(St->Hp->Prop)->Prop
noncomputable def PG (X:Cx) (target:Expr) (t:TG):Prop :=
 ∀(pins:List (Addr × Obj)) (s:Shared) (σ:St) (H:Hp) (v:V) (u:Value) (Q:St->Hp->Prop),Inv X pins σ H s->a0T v u->t v σ H Q ->
  wpAny (model X.prog X.w) X.A (assign target X.env u) (λ_ s'=>∃σ' H',Inv X pins σ' H' s'/\Q σ' H') X.xe s
noncomputable def PGs (X:Cx) (ts:List Expr) (t:TGs):Prop :=
 ∀(pins:List (Addr × Obj)) (s:Shared) (σ:St) (H:Hp) (vs:List V) (us:List Value) (Q:St->Hp->Prop),Inv X pins σ H s->a0C vs us->t vs σ H Q ->
  wpAny (model X.prog X.w) X.A (assignInOrder ((assignEach ts X.env).map (·.2)) us) (λ_ s'=>∃σ' H',Inv X pins σ' H' s'/\Q σ' H') X.xe s
abbrev TSet:=V->V->V->Hp->(Hp->Prop)->Prop
abbrev TIp:=V->V->Hp->VK->Prop
section
variable {X:Cx} {pos:Pos}
noncomputable def a1Y (i:Nat):TG:=λv σ H Q=>Q (σ.set i (some v)) H
theorem a0F {i:Nat} {x:Str} (hN:X.N.Nodup) (hi:X.N[i]?=some x) (hx:Loc X.env.scope x) (hf:X.fn x=true\/X.env.scope.names.lookup x=some .local:=by first|exact .inl rfl|exact .inr rfl|assumption):PG X (.Name x pos) (a1Y i):=by
 intro pins s σ H v u Q I r h;exact wpAny_assign_Name (a6x I hN hi hx r (λs' I'=>⟨_,H,I',h⟩) hf)
noncomputable def gNil:TGs:=λvs σ H Q=>vs=[]/\Q σ H
noncomputable def b2H (t:TG) (u:TGs):TGs:=λvs σ H Q=>∃v r,vs=v::r/\t v σ H λσ' H'=>u r σ' H' Q
theorem a3Z:PGs X [] gNil:=by
 intro pins s σ H vs us Q I r h;obtain⟨e,h⟩:=h;subst e;cases r;exact assignInOrder_nil ⟨σ,H,I,h⟩
theorem a1m {e:Expr} {es:List Expr} {t:TG} {u:TGs} (h1:PG X e t) (h2:PGs X es u)
  (hs:(assignEach (e::es) X.env).map (·.2)=assign e X.env::(assignEach es X.env).map (·.2):=by rfl):PGs X (e::es) (b2H t u):=by
 intro pins s σ H vs us Q I r h;obtain⟨v,vr,e1,h⟩:=h;subst e1;cases r with
 | cons r rr =>
  rw[hs];refine assignInOrder_cons (thn (h1 pins s σ H _ _ _ I r h) λ_ s1 ⟨σ1,H1,I1,q1⟩=>?_);exact h2 pins s1 σ1 H1 _ _ Q I1 rr q1
noncomputable def gTup (K:PySem.W.Frag) (n:Nat) (t:TGs):TG:=λv σ H Q=>∃a xs,v=.ref a/\SqT K H a xs/\xs.length=n/\t xs σ H Q
theorem a8u {es:List Expr} {k:Nat} {t:TGs} {n:Nat} (hc:X.calm=true) (h:PGs X es t)
  (hn:(assignEach es X.env).length=n:=by rfl) (hst:(assignEach es X.env).findIdx? (·.1)=none:=by rfl):PG X (.Tuple es k pos) (gTup X.K n t):=by
 intro pins s σ H v u Q I r hw;obtain⟨a,xs,e1,hq,hl,hw⟩:=hw;subst e1;cases r;obtain⟨its,rv,ht,hz⟩:=I.tuple hq;refine assign_Tuple_tuple (I.ok.hd hc) ht (by simp[hn,<-hl,rv.length]) hst λh' hx=>?_;have I1:Inv X pins σ H { s with heap:=h' }:=I.kept (t':=s.toks) λb o e=>hx b o (b4H (b4w e)) e;exact h pins _ σ H xs _ Q I1 (by simpa using rv) hw
noncomputable def gSub (to ti:TE) (t:TSet):TG:=λv σ H Q=>to σ H λo H1=>ti σ H1 λi H2=>t o i v H2 λH3=>Q σ H3
noncomputable def tAsg (te:TE) (g:TG):TS:=λD σ H=>te σ H λx H1=>g x σ H1 D.nx
theorem ps_asg {tg e:Expr} {te:TE} {g:TG} (he:PE X e te) (hg:PG X tg g) (hs:swapsWithSole [tg] e pos.line X.env=pure false:=by rfl) (hw:swappedStores [tg] e X.env=pure none:=by rfl)
  (h1:(assignEach [tg] X.env).map (·.2)=[assign tg X.env]:=by rfl):PS X (.Assign [tg] e pos) (tAsg te g):=by
 intro pins s σ H D I h;refine wpAny_Assign_stores (thn (he pins s σ H _ I h) λv s1 ⟨x,H1,I1,r1,q1⟩=>?_) hs hw;rw[h1];exact thn (hg pins s1 σ H1 x v _ I1 r1 q1) λ_ s2 q=>q
theorem a0q {i:Nat} {x:Str} {e:Expr} {te:TE} {pos':Pos} (hN:X.N.Nodup) (hi:X.N[i]?=some x) (hx:Loc X.env.scope x) (he:PE X e te) (hs:swapsWith e (some (.Name x pos')) pos.line X.env=pure false:=by rfl) (hf:X.fn x=true\/X.env.scope.names.lookup x=some .local:=by first|exact .inl rfl|exact .inr rfl|assumption) :
  PS X (.Assign [.Name x pos'] e pos) (tAsg te (a1Y i)):=by
 intro pins s σ H D I h;refine wpAny_Assign_Name (thn (he pins s σ H _ I h) λv s1 ⟨y,H1,I1,r1,q1⟩=>?_) hs;exact a6x I1 hN hi hx r1 (λs2 I2=>⟨_,H1,I2,q1⟩) hf
noncomputable def tPar (i j:Nat) (ta:TA):TS:=λD σ H=>ta σ H λvs H1=>∃v w,vs=[v,w]/\D.nx ((σ.set i (some v)).set j (some w)) H1
noncomputable def tAug (i:Nat) (te:TE) (ti:TIp):TS:=λD σ H=>∃x,σ[i]?=some (some x)/\te σ H λy H1=>ti x y H1 λz H2=>D.nx (σ.set i (some z)) H2
noncomputable def tAugS (to ti te:TE) (tget:V->V->Hp->VK->Prop) (tip:TIp) (tset:TSet):TS:=λD σ H=>to σ H λo H1=>ti σ H1 λi H2=>tget o i H2 λx H3=>te σ H3 λy H4=>tip x y H4 λz H5=>tset o i z H5 λH6=>D.nx σ H6
noncomputable def PGet (X:Cx) (t:V->V->Hp->VK->Prop):Prop :=
 ∀(pins:List (Addr × Obj)) (s:Shared) (σ:St) (H:Hp) (o i:V) (ov iv:Value) (Q:VK),Inv X pins σ H s->a0T o ov->a0T i iv->t o i H Q ->
  wpAny (model X.prog X.w) X.A (getItem ov iv) (EP X pins σ Q) X.xe s
noncomputable def ipI (f:Int->Int->Int):TIp:=λx y H Q=>∃i j,x=.int i/\y=.int j/\Q (.int (f i j)) H
noncomputable def tWhile (c:TT) (tb:TS):TS:=λD σ H=>∃W:Nat->St->Hp->Prop,(∃m,W m σ H)/\∀m σ H,W m σ H ->
 c σ H λb H1=>if b=true then ∃N:St->Hp->Prop,(∀σ' H',N σ' H'->∃m',m'<m/\W m' σ' H')/\tb { D with nx:=N,ct:=N,bk:=D.nx } σ H1 else D.nx σ H1
theorem a4a {c:Expr} {body:List Stmt} {tc:TT} {tb:TS} (hp:PassesOwn (model X.prog X.w) X.A X.env X.xe) (hc:PT X c tc) (hb:PSs X body tb):PS X (.While c body [] pos) (tWhile tc tb):=by
 intro pins s σ H D I h;obtain⟨W,⟨m0,w0⟩,turn⟩:=h;refine wpAny_While (codeAny_whileLoop (λn s'=>∃σ' H',Inv X pins σ' H' s'/\W n σ' H') ?_ m0 ⟨σ,H,I,w0⟩);rintro n s1 ⟨σ1,H1,I1,w1⟩;refine b7q hp (thn (hc pins s1 σ1 H1 _ I1 (turn n σ1 H1 w1)) λb s2 ⟨H2,I2,q2⟩=>?_);cases b with
 | true =>
  obtain⟨N,hN,q2⟩:=q2;rw[if_pos rfl];refine b7q hp (thn (hb pins s2 σ1 H2 _ I2 q2) λf s3 q3=>?_);cases f with
  | next =>
   obtain⟨σ3,H3,I3,n3⟩:=q3;obtain⟨m',hm,w3⟩:=hN σ3 H3 n3;exact⟨m',hm,σ3,H3,I3,w3⟩
  | cont =>
   obtain⟨σ3,H3,I3,n3⟩:=q3;obtain⟨m',hm,w3⟩:=hN σ3 H3 n3;exact⟨m',hm,σ3,H3,I3,w3⟩
  | brk=>exact q3
  | ret v=>exact q3
 | false =>
  rw[if_neg b4R];exact b9n ⟨σ1,H2,I2,q2⟩
end
structure It where
 go:Nat->Hp->Prop
 yld:Nat->Hp->V->Hp->Prop
 stop:Nat->Hp->Prop
noncomputable def a2w (X:Cx) (pins:List (Addr × Obj)) (H:Hp) (b:Addr):Prop :=
 H b=none/\b≠X.env.locals/\b∉X.fs/\(b∈X.ex\/X.s₀.heap.objs.size<=b)/\(∀x c,X.env.cells.lookup x=some c->c≠b)/\∀p∈X.pn++pins,p.1≠b
theorem Inv.fpOk {X:Cx} {pins:List (Addr × Obj)} {σ:St} {H H':Hp} {s:Shared} {b:Addr} (I:Inv X pins σ H s) (hb:s.heap.objs.size<=b) (hn:H' b=none):a2w X pins H' b:=by
 refine⟨hn,b5k (b4O I.lt hb),I.nofs hb,.inr (b6u I.sz hb),λx c e z=>?_,λp hp z=>?_⟩
 ·obtain⟨v,q⟩:=I.cell x c e;exact absurd (b4O q.lt (by rw[z];exact hb)) (b5G _)
 ·exact absurd (b4O (b4w (I.pin p hp).1) (by rw[z];exact hb)) (b5G _)
structure b4i (P:Program) (w:World) (K:PySem.W.Frag) (tg:Expr) (J:It) (fp:List Addr) (it:Addr) (tn:Nat->Heap->Prop):Prop where
 mem:it∈fp
 obj:∀i h,tn i h->∀b∈fp,∃o,h.get? b=some o/\∀v,o.data≠.cell v
 keep:∀i h h',tn i h->(∀b∈fp,∀o,h.get? b=some o->h'.get? b=some o)->tn i h'
 item:∀(X:Cx),X.prog=P->X.w=w->X.K=K->X.calm=true->∀(i:Nat) (pins:List (Addr × Obj)) (s:Shared) (σ:St) (H:Hp) (E:Value->Shared->Prop),Inv X pins σ H s->(∀b∈fp,a2w X pins H b)->tn i s.heap->J.go i H ->
  wpAny (model P w) X.A (pyNext (.ref it)) (λr s1=>∃u,r=some u /\
   wpAny (model P w) X.A (letOwnedTupleGo tg (.ref it) u) (λ_ s2=>∃x H',Inv X pins σ H' s2/\a0T x u/\J.yld i H x H'/\tn (i+1) s2.heap/\∀b∈fp,H' b=none) E s1) E s
 done:∀(X:Cx),X.prog=P->X.w=w->X.K=K->X.calm=true->∀(i:Nat) (pins:List (Addr × Obj)) (s:Shared) (σ:St) (H:Hp) (E:Value->Shared->Prop),Inv X pins σ H s->(∀b∈fp,a2w X pins H b)->tn i s.heap->J.stop i H ->
  wpAny (model P w) X.A (pyNext (.ref it)) (λr s1=>r=none/\Inv X pins σ H s1) E s
 self:∀(A:Around) (i:Nat) (s:Shared) (Q:Value->Shared->Prop) (E:Value->Shared->Prop),tn i s.heap->Q (.ref it) s->wpAny (model P w) A (pyIter (.ref it)) Q E s
abbrev TI:=St->Hp->(It->Hp->Prop)->Prop
noncomputable def PIE (X:Cx) (pins:List (Addr × Obj)) (σ:St) (tg:Expr) (R:It->Hp->Prop) (itv:Value) (s2:Shared):Prop :=
 ∃(it:Addr) (fp:List Addr) (tn:Nat->Heap->Prop) (J:It) (H':Hp),itv=.ref it/\Inv X pins σ H' s2/\b4i X.prog X.w X.K tg J fp it tn/\tn 0 s2.heap/\(∀b∈fp,a2w X pins H' b)/\R J H'
noncomputable def PI (X:Cx) (tg iter:Expr) (wi:TI):Prop :=
 ∀(pins:List (Addr × Obj)) (s:Shared) (σ:St) (H:Hp) (R:It->Hp->Prop),Inv X pins σ H s->wi σ H R ->
  wpAny (model X.prog X.w) X.A (eval iter X.env) (λv s1=>wpAny (model X.prog X.w) X.A (pyIter v) (PIE X pins σ tg R) X.xe s1) X.xe s
theorem b2I {M:Model} {A:Around} {E:Value->Shared->Prop} {s:Shared} {tg:Expr} {it:Addr} {u:Value} {o:Obj} {n:String} {vs:Array Value} {Q:Unit->Shared->Prop} (ho:s.heap.get? it=some o) (hc:o.cls=.type n) (hd:o.data=.fields vs)
  (hn:["enumerate","zip","dict_itemiterator","dict_reverseitemiterator","odict_iterator","itertools.zip_longest","itertools.pairwise"].contains n=false) (hQ:Q () s):wpAny M A (letOwnedTupleGo tg (.ref it) u) Q E s:=by
 unfold letOwnedTupleGo;cases tg<;>first
  | exact b4r hQ
  | (cases u<;>first
    | exact b4r hQ
    | (refine b4n (b9i ho ?_)
       rw[hc,hd];show wpAny M A (if (["enumerate","zip","dict_itemiterator","dict_reverseitemiterator","odict_iterator","itertools.zip_longest","itertools.pairwise"].contains n&&vs[0]?==some (rawInt _))=true then _ else _) Q E s;rw[if_neg (by intro h;rw[hn,Bool.false_and] at h;cases h)];exact b4r hQ))
noncomputable def Itl (K:PySem.W.Frag) (a:Addr):It :=
 ⟨λi H=>∃xs x,SqL K H a xs/\xs[i]?=some x,λi H x H'=>H'=H/\∀xs,SqL K H a xs->xs[i]?=some x,λi H=>∃xs,SqL K H a xs/\xs.length<=i⟩
noncomputable def Itt (K:PySem.W.Frag) (a:Addr):It :=
 ⟨λi H=>∃xs x,SqT K H a xs/\xs[i]?=some x,λi H x H'=>H'=H/\∀xs,SqT K H a xs->xs[i]?=some x,λi H=>∃xs,SqT K H a xs/\xs.length<=i⟩
noncomputable def Itr (lo:Int) (n:Nat):It:=⟨λi _=>i<n,λi H x H'=>H'=H/\x=.int (lo+i),λi _=>n<=i⟩
theorem a8v {P:Program} {w:World} {K:PySem.W.Frag} {tg:Expr} (a it:Addr):b4i P w K tg (Itl K a) [it] it (λi h=>h.IsListIter it a i) where
 mem:=by simp
 obj:=λi h st b hb=>by
  have e:b=it:=by simpa using hb
  subst e;obtain⟨o,e,c,d⟩:=st;exact⟨o,e,λv z=>by rw[d] at z;cases z⟩
 keep:=λi h h' st k=>st.at λo e=>k it (by simp) o e
 item:=by
  intro X hP hw hK hc i pins s σ H E I hf st hg;subst hP hw hK;obtain⟨xs,x,hq,hx⟩:=hg;obtain⟨its,rv,p,hz⟩:=I.list hq;obtain⟨u,hu,ru⟩:=rv.get hx;obtain⟨f0,f1,f2,f3,f4,f5⟩:=hf it (by simp);refine b7G st p.isList (x:=u) (by simpa using hu) λh' st' sb=>?_;have I1:Inv X pins σ H { s with heap:=h' }:=I.turned (t':=s.toks) (λb o hb e=>(sb.2 b hb).trans e) f0 f1 f3 f4 f5;obtain⟨o,e,c,d⟩:=id st';exact⟨u,rfl,b2I (s:={ s with heap:=h' }) e c d (by decide) ⟨x,H,I1,ru,⟨rfl,λys hy=>by rw[I.list_inj hy hq];exact hx⟩,st',λb hb=>(hf b hb).1⟩⟩
 done:=by
  intro X hP hw hK hc i pins s σ H E I hf st hg;subst hP hw hK;obtain⟨xs,hq,hx⟩:=hg;obtain⟨its,rv,p,hz⟩:=I.list hq;obtain⟨f0,f1,f2,f3,f4,f5⟩:=hf it (by simp);have hl:=rv.length;exact b8L (I.ok.hd hc) st p.isList (by simp;omega) λh' eb=>⟨rfl,I.turned (t':=s.toks) (λb o hb e=>eb b o hb e) f0 f1 f3 f4 f5⟩
 self:=λ_ _ _ _ _ st h=>wpAny_pyIter_listiter st h
theorem a7x {P:Program} {w:World} {K:PySem.W.Frag} {tg:Expr} (a it:Addr):b4i P w K tg (Itt K a) [it] it (λi h=>h.IsTupleIter it a i) where
 mem:=by simp
 obj:=λi h st b hb=>by
  have e:b=it:=by simpa using hb
  subst e;obtain⟨o,e,c,d⟩:=st;exact⟨o,e,λv z=>by rw[d] at z;cases z⟩
 keep:=λi h h' st k=>st.at λo e=>k it (by simp) o e
 item:=by
  intro X hP hw hK hc i pins s σ H E I hf st hg;subst hP hw hK;obtain⟨xs,x,hq,hx⟩:=hg;obtain⟨its,rv,p,hz⟩:=I.tuple hq;obtain⟨u,hu,ru⟩:=rv.get hx;obtain⟨f0,f1,f2,f3,f4,f5⟩:=hf it (by simp);refine wpAny_pyNext_tuple_item st (show s.heap.IsTuple a its.toArray from p) (x:=u) (by simpa using hu) λh' st' sb=>?_;have I1:Inv X pins σ H { s with heap:=h' }:=I.turned (t':=s.toks) (λb o hb e=>(sb.2 b hb).trans e) f0 f1 f3 f4 f5;obtain⟨o,e,c,d⟩:=id st';exact⟨u,rfl,b2I (s:={ s with heap:=h' }) e c d (by decide) ⟨x,H,I1,ru,⟨rfl,λys hy=>by rw[I.tuple_inj hy hq];exact hx⟩,st',λb hb=>(hf b hb).1⟩⟩
 done:=by
  intro X hP hw hK hc i pins s σ H E I hf st hg;subst hP hw hK;obtain⟨xs,hq,hx⟩:=hg;obtain⟨its,rv,p,hz⟩:=I.tuple hq;obtain⟨f0,f1,f2,f3,f4,f5⟩:=hf it (by simp);have hl:=rv.length;exact wpAny_pyNext_tuple_end (I.ok.hd hc) st (show s.heap.IsTuple a its.toArray from p) (by simp;omega) λh' eb=>⟨rfl,I.turned (t':=s.toks) (λb o hb e=>eb b o hb e) f0 f1 f3 f4 f5⟩
 self:=λ_ _ _ _ _ st h=>wpAny_pyIter_tupleiter st h
theorem a7y {P:Program} {w:World} {K:PySem.W.Frag} {tg:Expr} (it:Addr) (lo:Int) (n:Nat):b4i P w K tg (Itr lo n) [it] it (λi h=>IsRangeIter h it (lo+(i:Nat)*1) ((n:Int)-(i:Nat)) 1) where
 mem:=by simp
 obj:=λi h st b hb=>by
  have e:b=it:=by simpa using hb
  subst e;exact⟨_,st,λv z=>by
   have z':Data.fields _=Data.cell v:=z;cases z'⟩
 keep:=λi h h' st k=>k it (by simp) _ st
 item:=by
  intro X hP hw hK hc i pins s σ H E I hf st hg;subst hP hw hK;obtain⟨f0,f1,f2,f3,f4,f5⟩:=hf it (by simp);have W:=Walks.range (prog:=X.prog) (w:=X.w) (I.ok.hd hc) it lo 1 n;refine W.item i s _ _ hg st λv h' tk hv st' kk=>?_;obtain⟨t,rfl⟩:=hv;have I1:Inv X pins σ H { s with heap:=h',toks:=tk }:=I.turned (λb o hb e=>kk b o (by simpa using hb) e) f0 f1 f3 f4 f5;refine⟨_,rfl,b2I (s:={ s with heap:=h',toks:=tk }) (n:="range_iterator") st' rfl rfl (by decide) ⟨.int (lo+i),H,I1,⟨t,?_⟩,⟨rfl,rfl⟩,st',λb hb=>(hf b hb).1⟩⟩;rw[Int.mul_one]
 done:=by
  intro X hP hw hK hc i pins s σ H E I hf st hg;subst hP hw hK;obtain⟨f0,f1,f2,f3,f4,f5⟩:=hf it (by simp);exact wpAny_pyNext_range_end (I.ok.hd hc) st (by have:n<=i:=hg;omega) λh' eb=>⟨rfl,I.turned (t':=s.toks) (λb o hb e=>eb b o hb e) f0 f1 f3 f4 f5⟩
 self:=λ_ _ _ _ _ st h=>wpAny_pyIter_rangeiter st h
section
variable {X:Cx} {tg:Expr}
noncomputable def iList (K:PySem.W.Frag) (tl:TE):TI:=λσ H R=>tl σ H λx H1=>∃a,x=.ref a/\(∃xs,SqL K H1 a xs)/\R (Itl K a) H1
noncomputable def iTup (K:PySem.W.Frag) (tl:TE):TI:=λσ H R=>tl σ H λx H1=>∃a,x=.ref a/\(∃xs,SqT K H1 a xs)/\R (Itt K a) H1
theorem a1Z {l:Expr} {tl:TE} (hl:PE X l tl):PI X tg l (iList X.K tl):=by
 intro pins s σ H R I h;refine thn (hl pins s σ H _ I h) λv s1 ⟨x,H1,I1,r1,q1⟩=>?_;obtain⟨a,e,⟨xs,hq⟩,q⟩:=q1;subst e;cases r1;obtain⟨its,rv,p,hz⟩:=I1.list hq;refine b6w p.isList ?_;refine⟨s1.heap.objs.size,[s1.heap.objs.size],_,_,H1,rfl,I1.kept (t':=s1.toks) λb o e=>b4o _ e,a8v a _,⟨_,b4v _ rfl,rfl,rfl⟩,λb hb=>?_,q⟩;have e:b=s1.heap.objs.size:=by simpa using hb
 subst e;exact I1.fpOk (b4z _) (I1.hok.fresh (b4z _))
theorem a8w {l:Expr} {tl:TE} (hl:PE X l tl):PI X tg l (iTup X.K tl):=by
 intro pins s σ H R I h;refine thn (hl pins s σ H _ I h) λv s1 ⟨x,H1,I1,r1,q1⟩=>?_;obtain⟨a,e,⟨xs,hq⟩,q⟩:=q1;subst e;cases r1;obtain⟨its,rv,p,hz⟩:=I1.tuple hq;refine b9y (show s1.heap.IsTuple a its.toArray from p) ?_;refine⟨s1.heap.objs.size,[s1.heap.objs.size],_,_,H1,rfl,I1.kept (t':=s1.toks) λb o e=>b4o _ e,a7x a _,⟨_,b4v _ rfl,rfl,rfl⟩,λb hb=>?_,q⟩;have e:b=s1.heap.objs.size:=by simpa using hb
 subst e;exact I1.fpOk (b4z _) (I1.hok.fresh (b4z _))
theorem a6z {pins:List (Addr × Obj)} {σ:St} {H:Hp} {s:Shared} {R:It->Hp->Prop} {E:Value->Shared->Prop} {lo hi:Int} {t u v:Tok} {tk:Nat} (I:Inv X pins σ H s) (h1:-(2 ^ 62)<=lo) (h2:lo<2 ^ 62) (h3:-(2 ^ 62)<=hi) (h4:hi<2 ^ 62)
  (q:R (Itr lo (hi-lo).toNat) H):wpAny (model X.prog X.w) X.A (pyIter (.ref s.heap.objs.size)) (PIE X pins σ tg R) E { s with heap:=s.heap.push { cls:=.type "range",data:=.fields #[.int lo t,.int hi u,.int 1 v] },toks:=tk }:=by
 refine wpAny_pyIter_range (IsRange.new ..) (small_one h1 h2 h3 h4) ?_;have I1:Inv X pins σ H { s with heap:=s.heap.push { cls:=.type "range",data:=.fields #[.int lo t,.int hi u,.int 1 v] },toks:=tk }:=I.kept λb o e=>b4o _ e;refine⟨(s.heap.push { cls:=.type "range",data:=.fields #[.int lo t,.int hi u,.int 1 v] }).objs.size,[(s.heap.push { cls:=.type "range",data:=.fields #[.int lo t,.int hi u,.int 1 v] }).objs.size],_,_,H,rfl,
  I1.kept (t':=tk) λb o e=>b4o _ e,a7y _ lo (hi-lo).toNat,?_,λb hb=>?_,q⟩
 ·have e1:lo+((0:Nat):Int)*1=lo:=by simp
  have e2:(((hi-lo).toNat:Nat):Int)-((0:Nat):Int)=Builtin.Range.rangeSize lo hi 1:=by rw[rangeSize_one];split<;>omega
  show IsRangeIter _ _ (lo+((0:Nat):Int)*1) ((((hi-lo).toNat:Nat):Int)-((0:Nat):Int)) 1;rw[e1,e2];exact b4v _ rfl
 ·have e:b=(s.heap.push { cls:=.type "range",data:=.fields #[.int lo t,.int hi u,.int 1 v] }).objs.size:=by simpa using hb
  subst e;exact I1.fpOk (b4z _) (I1.hok.fresh (b4z _))
noncomputable def iRng1 (ta:TA):TI:=λσ H R=>ta σ H λvs H1=>∃j:Int,vs=[.int j]/\-(2 ^ 62)<=j/\j<2 ^ 62/\R (Itr 0 j.toNat) H1
noncomputable def iRng2 (ta:TA):TI:=λσ H R=>ta σ H λvs H1=>∃i j:Int,vs=[.int i,.int j]/\(-(2 ^ 62)<=i/\i<2 ^ 62/\-(2 ^ 62)<=j/\j<2 ^ 62)/\R (Itr i (j-i).toNat) H1
theorem a1J {a:Expr} {ta:TA} {p pos:Pos} (hg:Gl X "range") (hm:X.mg "range"=none) (ha:PA X [a] ta) (hs:starEach [a] X.env=[(false,eval a X.env)]:=by rfl):PI X tg (.Call (.Name "range" p) [a] [] pos) (iRng1 ta):=by
 intro pins s σ H R I h;refine Call_ (a1l I hg hm boot_range (b5F (thn (ha pos pins s σ H _ I h) λus s1 ⟨vs,H1,I1,r1,q1⟩=>?_) hs rfl));obtain⟨j,e,q1,q2,q⟩:=q1;subst e;cases r1 with
 | cons r rr =>
  cases rr;obtain⟨t,rfl⟩:=r;exact call_range_1 (a6z I1 (by omega) (by omega) q1 q2 (by simpa using q))
theorem a8x {a b:Expr} {ta:TA} {p pos:Pos} (hg:Gl X "range") (hm:X.mg "range"=none) (ha:PA X [a,b] ta) (hs:starEach [a,b] X.env=[(false,eval a X.env),(false,eval b X.env)]:=by rfl) (hs2:starEach [b] X.env=[(false,eval b X.env)]:=by rfl) :
  PI X tg (.Call (.Name "range" p) [a,b] [] pos) (iRng2 ta):=by
 intro pins s σ H R I h;refine Call_ (a1l I hg hm boot_range (b5F (thn (ha pos pins s σ H _ I h) λus s1 ⟨vs,H1,I1,r1,q1⟩=>?_) (by rw[hs,hs2]) (by rw[hs2];rfl)));obtain⟨i,j,e,⟨q1,q2,q3,q4⟩,q⟩:=q1;subst e;cases r1 with
 | cons r rr =>
  cases rr with
  | cons r' rr =>
   cases rr;obtain⟨t,rfl⟩:=r;obtain⟨t',rfl⟩:=r';exact call_range_2 (a6z I1 q1 q2 q3 q4 q)
noncomputable def tFor (wi:TI) (g:TG) (tb:TS):TS:=λD σ H=>wi σ H λJ H1=>∃W:Nat->Nat->St->Hp->Prop,(∃m,W 0 m σ H1)/\∀i m σ H,W i m σ H ->
 (J.stop i H/\D.nx σ H)\/(J.go i H/\∃N:St->Hp->Prop,(∀σ' H',N σ' H'->∃m',m'<m/\W (i+1) m' σ' H')/\∀x H',J.yld i H x H'->g x σ H' λσ2 H2=>tb { D with nx:=N,ct:=N,bk:=D.nx } σ2 H2)
noncomputable def a4S (fp:List Addr) (h:Heap):List (Addr × Obj):=fp.filterMap λb=>(h.get? b).map λo=>(b,o)
theorem a0H {fp:List Addr} {h:Heap} {b:Addr} {o:Obj} (hb:b∈fp) (e:h.get? b=some o):(b,o)∈a4S fp h:=b9z.mpr ⟨b,hb,by rw[e];rfl⟩
theorem a8y {fp:List Addr} {h:Heap} {p:Addr × Obj} (hp:p∈a4S fp h):p.1∈fp/\h.get? p.1=some p.2:=by
 obtain⟨b,hb,e⟩:=b9z.mp hp;cases q:h.get? b with
 | none=>rw[q] at e;cases e
 | some o =>
  rw[q] at e;have e':(b,o)=p:=b4N e;subst e';exact⟨hb,q⟩
theorem Inv.pinned {pins:List (Addr × Obj)} {σ:St} {H:Hp} {s:Shared} {fp:List Addr} (I:Inv X pins σ H s) (hf:∀b∈fp,a2w X pins H b) (ho:∀b∈fp,∃o,s.heap.get? b=some o/\∀v,o.data≠.cell v):Inv X (pins++a4S fp s.heap) σ H s :=
 I.pins_of λp hp=>(b4J.mp hp).elim (λz=>I.pin p (b4E _ z)) λz=>by
  obtain⟨hb,e⟩:=a8y z;obtain⟨f0,f1,f2,_⟩:=hf p.1 hb;obtain⟨o,e',d⟩:=ho p.1 hb;rw[e] at e';cases e';exact⟨e,f0,f1,f2,d⟩
theorem Inv.unpinned {pins pl:List (Addr × Obj)} {σ:St} {H:Hp} {s:Shared} (I:Inv X (pins++pl) σ H s):Inv X pins σ H s:=I.pins_of λp hp=>I.pin p (b4E _ (b5t _ hp))
theorem a1K {iter:Expr} {body:List Stmt} {wi:TI} {g:TG} {tb:TS} {pos:Pos} (hp:PassesOwn (model X.prog X.w) X.A X.env X.xe) (hc:X.calm=true) (hi:PI X tg iter wi) (hg:PG X tg g) (hb:PSs X body tb)
  (hs:∀x,foldedSetIterable iter X.env x=pure x:=by intro _;rfl):PS X (.For tg iter body [] pos) (tFor wi g tb):=by
 intro pins s σ H D I h;refine wpAny_For (thn (hi pins s σ H _ I h) λv s1 h1=>thn h1 λitv s2 h2=>?_) hs;obtain⟨it,fp,tn,J,H2,e,I2,T,st2,f2,W,⟨m0,w0⟩,turn⟩:=h2;subst e;have stat:∀{H':Hp},(∀b∈fp,H' b=none)->∀b∈fp,a2w X pins H' b:=λhn b hb=>⟨hn b hb,(f2 b hb).2⟩
 refine codeAny_forLoop_any (λn s'=>∃i σ' H',Inv X pins σ' H' s'/\tn i s'.heap/\(∀b∈fp,H' b=none)/\W i n σ' H') ?_ m0 ⟨0,σ,H2,I2,st2,λb hb=>(f2 b hb).1,w0⟩;rintro n s3 ⟨i,σ3,H3,I3,st3,fr3,w3⟩;rcases turn i n σ3 H3 w3 with ⟨stop,qn⟩|⟨go,N,hN,step⟩
 ·refine b7q hp (thn (T.done X rfl rfl rfl hc i pins s3 σ3 H3 X.xe I3 (stat fr3) st3 stop) λr s4 ⟨hr,I4⟩=>?_);subst hr;exact b9n ⟨σ3,H3,I4,qn⟩
 ·refine b7q hp (thn (T.item X rfl rfl rfl hc i pins s3 σ3 H3 X.xe I3 (stat fr3) st3 go) λr s4 ⟨u,hr,h4⟩=>?_);subst hr;refine b7q hp (thn h4 λ_ s5 ⟨x,H5,I5,r5,y5,st5,fr5⟩=>?_);have I5':=I5.pinned (stat fr5) (T.obj _ _ st5);refine b7q hp (thn (hg _ s5 σ3 H5 x u _ I5' r5 (step x H5 y5)) λ_ s6 ⟨σ6,H6,I6,q6⟩=>?_);refine b7q hp (thn (hb _ s6 σ6 H6 _ I6 q6) λf s7 q7=>?_);have again:∀{σ7:St} {H7:Hp},Inv X (pins++a4S fp s5.heap) σ7 H7 s7->N σ7 H7->∃m,m<n/\∃i σ' H',Inv X pins σ' H' s7/\tn i s7.heap/\(∀b∈fp,H' b=none)/\W i m σ' H':=λ{σ7 H7} I7 n7=>by
   obtain⟨m',hm,w7⟩:=hN σ7 H7 n7;refine⟨m',hm,i+1,σ7,H7,I7.unpinned,T.keep _ _ _ st5 λb hb o e=>(I7.pin (b,o) (b4E _ (b4E _ (a0H hb e)))).1,λb hb=>?_,w7⟩;obtain⟨o,e,d⟩:=T.obj _ _ st5 b hb;exact(I7.pin (b,o) (b4E _ (b4E _ (a0H hb e)))).2.1
  cases f with
  | next=>obtain⟨σ7,H7,I7,n7⟩:=q7;exact again I7 n7
  | cont=>obtain⟨σ7,H7,I7,n7⟩:=q7;exact again I7 n7
  | brk=>obtain⟨σ7,H7,I7,q7⟩:=q7;exact⟨σ7,H7,I7.unpinned,q7⟩
  | ret v=>obtain⟨x7,σ7,H7,I7,r7,q7⟩:=q7;exact⟨x7,σ7,H7,I7.unpinned,r7,q7⟩
end
theorem a2K {K:PySem.W.Frag} {a:Addr} {xs:List V} {g:TG} {tb:TS} {D:b1U} {σ:St} {H:Hp} (Pv:Nat->St->Hp->Prop) (h0:Pv 0 σ H) (hl:∀i σ H,i<=xs.length->Pv i σ H->SqL K H a xs)
  (hs:∀i x σ H,xs[i]?=some x->Pv i σ H->g x σ H λσ2 H2=>tb { D with nx:=Pv (i+1),ct:=Pv (i+1),bk:=D.nx } σ2 H2) (hd:∀σ H,Pv xs.length σ H->D.nx σ H) :
  ∃W:Nat->Nat->St->Hp->Prop,(∃m,W 0 m σ H)/\∀i m σ H,W i m σ H ->
   ((Itl K a).stop i H/\D.nx σ H)\/((Itl K a).go i H/\∃N:St->Hp->Prop,(∀σ' H',N σ' H'->∃m',m'<m/\W (i+1) m' σ' H')/\∀x H',(Itl K a).yld i H x H'->g x σ H' λσ2 H2=>tb { D with nx:=N,ct:=N,bk:=D.nx } σ2 H2):=by
 refine⟨λi m σ H=>m=xs.length-i/\i<=xs.length/\Pv i σ H,⟨xs.length,by simp,b5j _,h0⟩,?_⟩;rintro i m σ H ⟨rfl,hi,p⟩;have q:=hl i σ H hi p;by_cases hlt:i<xs.length
 ·refine .inr ⟨⟨xs,xs[i],q,by simp[hlt]⟩,Pv (i+1),λσ' H' p'=>⟨xs.length-(i+1),by omega,rfl,hlt,p'⟩,λx H' y=>?_⟩;obtain⟨e,y⟩:=y;subst e;exact hs i x σ _ (y xs q) p
 ·have e:i=xs.length:=by omega
  subst e;exact .inl ⟨⟨xs,q,b4z _⟩,hd σ H p⟩
theorem a8z {K:PySem.W.Frag} {a:Addr} {xs:List V} {g:TG} {tb:TS} {D:b1U} {σ:St} {H:Hp} (Pv:Nat->St->Hp->Prop) (h0:Pv 0 σ H) (hl:∀i σ H,i<=xs.length->Pv i σ H->SqT K H a xs)
  (hs:∀i x σ H,xs[i]?=some x->Pv i σ H->g x σ H λσ2 H2=>tb { D with nx:=Pv (i+1),ct:=Pv (i+1),bk:=D.nx } σ2 H2) (hd:∀σ H,Pv xs.length σ H->D.nx σ H) :
  ∃W:Nat->Nat->St->Hp->Prop,(∃m,W 0 m σ H)/\∀i m σ H,W i m σ H ->
   ((Itt K a).stop i H/\D.nx σ H)\/((Itt K a).go i H/\∃N:St->Hp->Prop,(∀σ' H',N σ' H'->∃m',m'<m/\W (i+1) m' σ' H')/\∀x H',(Itt K a).yld i H x H'->g x σ H' λσ2 H2=>tb { D with nx:=N,ct:=N,bk:=D.nx } σ2 H2):=by
 refine⟨λi m σ H=>m=xs.length-i/\i<=xs.length/\Pv i σ H,⟨xs.length,by simp,b5j _,h0⟩,?_⟩;rintro i m σ H ⟨rfl,hi,p⟩;have q:=hl i σ H hi p;by_cases hlt:i<xs.length
 ·refine .inr ⟨⟨xs,xs[i],q,by simp[hlt]⟩,Pv (i+1),λσ' H' p'=>⟨xs.length-(i+1),by omega,rfl,hlt,p'⟩,λx H' y=>?_⟩;obtain⟨e,y⟩:=y;subst e;exact hs i x σ _ (y xs q) p
 ·have e:i=xs.length:=by omega
  subst e;exact .inl ⟨⟨xs,q,b4z _⟩,hd σ H p⟩
theorem a1L {lo:Int} {n:Nat} {g:TG} {tb:TS} {D:b1U} {σ:St} {H:Hp} (Pv:Nat->St->Hp->Prop) (h0:Pv 0 σ H)
  (hs:∀i σ H,i<n->Pv i σ H->g (.int (lo+i)) σ H λσ2 H2=>tb { D with nx:=Pv (i+1),ct:=Pv (i+1),bk:=D.nx } σ2 H2) (hd:∀σ H,Pv n σ H->D.nx σ H) :
  ∃W:Nat->Nat->St->Hp->Prop,(∃m,W 0 m σ H)/\∀i m σ H,W i m σ H ->
   ((Itr lo n).stop i H/\D.nx σ H)\/((Itr lo n).go i H/\∃N:St->Hp->Prop,(∀σ' H',N σ' H'->∃m',m'<m/\W (i+1) m' σ' H')/\∀x H',(Itr lo n).yld i H x H'->g x σ H' λσ2 H2=>tb { D with nx:=N,ct:=N,bk:=D.nx } σ2 H2):=by
 refine⟨λi m σ H=>m=n-i/\i<=n/\Pv i σ H,⟨n,by simp,b5j _,h0⟩,?_⟩;rintro i m σ H ⟨rfl,hi,p⟩;by_cases hlt:i<n
 ·refine .inr ⟨hlt,Pv (i+1),λσ' H' p'=>⟨n-(i+1),by omega,rfl,hlt,p'⟩,λx H' y=>?_⟩;obtain⟨e,y⟩:=y;subst e y;exact hs i σ _ hlt p
 ·have e:i=n:=by omega
  subst e;exact .inl ⟨b4z _,hd σ H p⟩
abbrev R2:=V->V->Hp->VK->Prop
noncomputable def OpR (X:Cx) (f:Value->Value->Sem Value) (r:R2):Prop :=
 ∀(pins:List (Addr × Obj)) (s:Shared) (σ:St) (H:Hp) (x y:V) (v u:Value) (Q:VK),Inv X pins σ H s->a0T x v->a0T y u->r x y H Q ->
  wpAny (model X.prog X.w) X.A (f v u) (EP X pins σ Q) X.xe s
noncomputable def UnR (X:Cx) (f:Value->Sem Value) (r:V->Hp->VK->Prop):Prop :=
 ∀(pins:List (Addr × Obj)) (s:Shared) (σ:St) (H:Hp) (x:V) (v:Value) (Q:VK),Inv X pins σ H s->a0T x v->r x H Q ->
  wpAny (model X.prog X.w) X.A (f v) (EP X pins σ Q) X.xe s
noncomputable def a2f (X:Cx) (f:Value) (r:List V->Hp->VK->Prop):Prop :=
 ∀(pins:List (Addr × Obj)) (s:Shared) (σ:St) (H:Hp) (xs:List V) (us:List Value) (Q:VK),Inv X pins σ H s->a0C xs us->r xs H Q ->
  wpAny (model X.prog X.w) X.A (call f us) (EP X pins σ Q) X.xe s
noncomputable def TruR (X:Cx) (r:V->Hp->(Bool->Hp->Prop)->Prop):Prop :=
 ∀(pins:List (Addr × Obj)) (s:Shared) (σ:St) (H:Hp) (x:V) (v:Value) (Q:Bool->Hp->Prop),Inv X pins σ H s->a0T x v->r x H Q ->
  wpAny (model X.prog X.w) X.A (truthy v) (TP X pins σ Q) X.xe s
noncomputable def tOp (r:R2) (ta tb:TE):TE:=λσ H Q=>ta σ H λx H1=>tb σ H1 λy H2=>r x y H2 Q
noncomputable def tUn (r:V->Hp->VK->Prop) (ta:TE):TE:=λσ H Q=>ta σ H λx H1=>r x H1 Q
noncomputable def rI (C:Int->Int->Prop) (g:Int->Int->V):R2:=λx y H Q=>∃i j,x=.int i/\y=.int j/\C i j/\Q (g i j) H
noncomputable def rI0 (g:Int->Int->V):R2:=λx y H Q=>∃i j,x=.int i/\y=.int j/\Q (g i j) H
noncomputable def rU (g:Int->V):V->Hp->VK->Prop:=λx H Q=>∃i,x=.int i/\Q (g i) H
section
variable {X:Cx} {a b c:Expr} {ta tb tc:TE} {pos:Pos}
theorem binT (ha:PE X a ta) (hb:PE X b tb) {pins:List (Addr × Obj)} {s:Shared} {σ:St} {H:Hp} {R:V->V->Hp->Prop} (I:Inv X pins σ H s)
  (h:ta σ H λx H1=>tb σ H1 λy H2=>R x y H2) {Q:Value->Shared->Prop} {f:Value->Value->Sem Value}
  (hf:∀v u s2 x y H2,Inv X pins σ H2 s2->a0T x v->a0T y u->R x y H2->wpAny (model X.prog X.w) X.A (f v u) Q X.xe s2) :
  wpAny (model X.prog X.w) X.A (eval a X.env) (λv s₁=>wpAny (model X.prog X.w) X.A (eval b X.env) (λu s₂=>wpAny (model X.prog X.w) X.A (f v u) Q X.xe s₂) X.xe s₁) X.xe s:=by
 refine thn (ha pins s σ H _ I h) λv s1 ⟨x,H1,I1,r1,q1⟩=>?_;refine thn (hb pins s1 σ H1 _ I1 q1) λu s2 ⟨y,H2,I2,r2,q2⟩=>?_;exact hf v u s2 x y H2 I2 r1 r2 q2
theorem a0p {op:Operator} {r:R2} (ho:OpR X (binaryOp op) r) (ha:PE X a ta) (hb:PE X b tb):PE X (.BinOp a op b pos) (tOp r ta tb):=by
 intro pins s σ H Q I h;exact wpAny_BinOp (binT ha hb I h λv u s2 x y H2 I2 rx ry q=>ho pins s2 σ H2 x y v u Q I2 rx ry q)
theorem pe_un {op:UnaryOp} {r:V->Hp->VK->Prop} (ho:UnR X (unaryOp op) r) (ha:PE X a ta):PE X (.UnaryOp op a pos) (tUn r ta):=by
 intro pins s σ H Q I h;exact UnaryOp_ (thn (ha pins s σ H _ I h) λv s1 ⟨x,H1,I1,r1,q1⟩=>ho pins s1 σ H1 x v Q I1 r1 q1)
theorem opI {f:Value->Value->Sem Value} {C:Int->Int->Prop} {g:Int->Int->Int}
  (rule:∀(i j:Int) (t u:Tok) (s:Shared) (Q:Value->Shared->Prop) (E:Value->Shared->Prop),C i j->Q (.int (g i j) s.toks) { s with toks:=s.toks+1 }->wpAny (model X.prog X.w) X.A (f (.int i t) (.int j u)) Q E s) :
  OpR X f (rI C λi j=>.int (g i j)):=by
 intro pins s σ H x y v u Q I rx ry h;obtain⟨i,j,rfl,rfl,hc,q⟩:=h;obtain⟨t,rfl⟩:=rx;obtain⟨t',rfl⟩:=ry;exact rule i j t t' s _ _ hc ⟨.int (g i j),H,I.tok _,⟨_,rfl⟩,q⟩
theorem opI0 {f:Value->Value->Sem Value} {g:Int->Int->Int}
  (rule:∀(i j:Int) (t u:Tok) (s:Shared) (Q:Value->Shared->Prop) (E:Value->Shared->Prop),Q (.int (g i j) s.toks) { s with toks:=s.toks+1 }->wpAny (model X.prog X.w) X.A (f (.int i t) (.int j u)) Q E s) :
  OpR X f (rI0 λi j=>.int (g i j)):=by
 intro pins s σ H x y v u Q I rx ry h;obtain⟨i,j,rfl,rfl,q⟩:=h;obtain⟨t,rfl⟩:=rx;obtain⟨t',rfl⟩:=ry;exact rule i j t t' s _ _ ⟨.int (g i j),H,I.tok _,⟨_,rfl⟩,q⟩
theorem opB0 {f:Value->Value->Sem Value} {g:Int->Int->Bool}
  (rule:∀(i j:Int) (t u:Tok) (s:Shared) (Q:Value->Shared->Prop) (E:Value->Shared->Prop),Q (.bool (g i j)) s->wpAny (model X.prog X.w) X.A (f (.int i t) (.int j u)) Q E s) :
  OpR X f (rI0 λi j=>.bl (g i j)):=by
 intro pins s σ H x y v u Q I rx ry h;obtain⟨i,j,rfl,rfl,q⟩:=h;obtain⟨t,rfl⟩:=rx;obtain⟨t',rfl⟩:=ry;exact rule i j t t' s _ _ ⟨.bl (g i j),H,I,rfl,q⟩
noncomputable def CDiv (i j:Int):Prop:=0<j/\j<1073741824
noncomputable def CPow (i j:Int):Prop:=0<=j/\j<=1000000/\i.natAbs<2 ^ 64
noncomputable def CMul (i j:Int):Prop:=(-(2 ^ 64)<i/\i<2 ^ 64)\/(-(2 ^ 64)<j/\j<2 ^ 64)
theorem CMul.ok {i j:Int} (h:CMul i j):IntMulOk i j:=by
 rcases h with ⟨h1,h2⟩|⟨h1,h2⟩
 ·exact .of_left (intBits_le_64 h1 h2)
 ·exact .of_right (intBits_le_64 h1 h2)
theorem a0M:OpR X (binaryOp .Add) (rI0 λi j=>.int (i+j)):=opI0 λ_ _ _ _ _ _ _ q=>add_int q
theorem a2G:OpR X (binaryOp .Sub) (rI0 λi j=>.int (i-j)):=opI0 λ_ _ _ _ _ _ _ q=>sub_int q
theorem a4T:OpR X (binaryOp .Mult) (rI CMul λi j=>.int (i*j)):=opI λ_ _ _ _ _ _ _ hc q=>mul_int q hc.ok
theorem a1M:OpR X (binaryOp .FloorDiv) (rI CDiv λi j=>.int (i / j)):=opI λi j _ _ _ _ _ hc q=>by
 have h1:(0:Int)<j:=hc.1;have h2:j<1073741824:=hc.2;exact floordiv_int (by omega) (by rw[b9x i (by omega)];exact q) (.inl (PyProof.noPylong_small (by omega)))
theorem a0N:OpR X (binaryOp .Mod) (rI (λ_ j=>0<j) λi j=>.int (i % j)):=opI λi j _ _ _ _ _ hc q=>by
 have h1:(0:Int)<j:=hc;exact mod_int' (by omega) (by rw[Int.fmod_eq_emod_of_nonneg i (by omega)];exact q)
theorem a8A:OpR X (binaryOp .Pow) (rI CPow λi j=>.int (i ^ j.toNat)):=opI λ_ _ _ _ _ _ _ hc q=>pow_int_small hc.1 hc.2.1 hc.2.2 q
theorem unI {f:Value->Sem Value} {g:Int->Int}
  (rule:∀(i:Int) (t:Tok) (s:Shared) (Q:Value->Shared->Prop) (E:Value->Shared->Prop),Q (.int (g i) s.toks) { s with toks:=s.toks+1 }->wpAny (model X.prog X.w) X.A (f (.int i t)) Q E s) :
  UnR X f (rU λi=>.int (g i)):=by
 intro pins s σ H x v Q I rx h;obtain⟨i,rfl,q⟩:=h;obtain⟨t,rfl⟩:=rx;exact rule i t s _ _ ⟨.int (g i),H,I.tok _,⟨_,rfl⟩,q⟩
theorem un_neg:UnR X (unaryOp .USub) (rU λi=>.int (-i)):=unI λ_ _ _ _ _ q=>neg_int q
end
noncomputable def scal:V->V->Bool
 | .non,.non=>true | .non,.int _=>true | .int _,.non=>true | .non,.bl _=>true | .bl _,.non=>true | .non,.str _=>true | .str _,.non=>true
 | .int _,.int _=>true | .bl _,.bl _=>true | .str _,.str _=>true | .byt _,.byt _=>true
 | .int _,.str _=>true | .str _,.int _=>true | .bl _,.str _=>true | .str _,.bl _=>true
 | _,_=>false
noncomputable def rEq:R2:=λx y H Q=>scal x y=true/\Q (.bl (decide (x=y))) H
noncomputable def rNe:R2:=λx y H Q=>scal x y=true/\Q (.bl (!decide (x=y))) H
theorem a8B {i j:Int}:decide (V.int i=V.int j)=(i==j):=by
 rw[b7N];simp
theorem b1W {i j:Bool}:decide (V.bl i=V.bl j)=(i==j):=by
 rw[b7N];simp
theorem a8C {i j:Str}:decide (V.str i=V.str j)=(i==j):=by
 rw[b7N];simp
theorem a8D {i j:Array UInt8}:decide (V.byt i=V.byt j)=(i.toList==j.toList):=by
 rw[b7N];cases i;cases j;simp
section
variable {X:Cx} {a b c:Expr} {ta tb tc:TE} {pos:Pos}
theorem a0E {pins:List (Addr × Obj)} {σ:St} {H:Hp} {s:Shared} {Q:VK} {k k':Bool} (I:Inv X pins σ H s) (q:Q (.bl k) H) (e:k=k'):EP X pins σ Q (.bool k') s:=by
 subst e;exact⟨.bl k,H,I,rfl,q⟩
theorem a2x:OpR X (compareOp .Eq) rEq:=by
 intro pins s σ H x y v u Q I rx ry h;obtain⟨hs,q⟩:=h;cases x with
 | non =>
  cases rx;cases y with
  | non=>cases ry;exact PySem.EqNone.eq_none_none (a0E I q (by simp))
  | bl j=>cases ry;exact PySem.EqNone.eq_none_bool (a0E I q (by simp))
  | int j=>obtain⟨t',rfl⟩:=ry;exact PySem.EqNone.eq_none_int (a0E I q (by simp))
  | str j=>obtain⟨t',rfl⟩:=ry;exact PySem.EqNone.eq_none_str (a0E I q (by simp))
  | _=>exact absurd (show false=true from hs) b4R
 | bl i =>
  cases rx;cases y with
  | non=>cases ry;exact PySem.EqNone.eq_bool_none (a0E I q (by simp))
  | bl j=>cases ry;exact eq_bool (a0E I q b1W)
  | str j=>obtain⟨t',rfl⟩:=ry;exact PySem.EqMixed.eq_bool_str (a0E I q (by simp))
  | _=>exact absurd (show false=true from hs) b4R
 | int i =>
  obtain⟨t,rfl⟩:=rx;cases y with
  | non=>cases ry;exact PySem.EqNone.eq_int_none (a0E I q (by simp))
  | int j=>obtain⟨t',rfl⟩:=ry;exact eq_int (a0E I q a8B)
  | str j=>obtain⟨t',rfl⟩:=ry;exact PySem.EqMixed.eq_int_str (a0E I q (by simp))
  | _=>exact absurd (show false=true from hs) b4R
 | str i =>
  obtain⟨t,rfl⟩:=rx;cases y with
  | non=>cases ry;exact PySem.EqNone.eq_str_none (a0E I q (by simp))
  | bl j=>cases ry;exact PySem.EqMixed.eq_str_bool (a0E I q (by simp))
  | int j=>obtain⟨t',rfl⟩:=ry;exact PySem.EqMixed.eq_str_int (a0E I q (by simp))
  | str j=>obtain⟨t',rfl⟩:=ry;exact eq_str (a0E I q a8C)
  | _=>exact absurd (show false=true from hs) b4R
 | byt i =>
  obtain⟨t,rfl⟩:=rx;cases y with
  | byt j=>obtain⟨t',rfl⟩:=ry;exact PySem.W.eq_bytes (a0E I q a8D)
  | _=>exact absurd (show false=true from hs) b4R
 | _=>cases y<;>exact absurd (show false=true from hs) b4R
theorem a7z:OpR X (compareOp .NotEq) rNe:=by
 intro pins s σ H x y v u Q I rx ry h;obtain⟨hs,q⟩:=h;cases x with
 | non =>
  cases rx;cases y with
  | non=>cases ry;exact PySem.EqNone.ne_none_none (a0E I q (by simp))
  | bl j=>cases ry;exact PySem.EqNone.ne_none_bool (a0E I q (by simp))
  | int j=>obtain⟨t',rfl⟩:=ry;exact PySem.EqNone.ne_none_int (a0E I q (by simp))
  | str j=>obtain⟨t',rfl⟩:=ry;exact PySem.EqNone.ne_none_str (a0E I q (by simp))
  | _=>exact absurd (show false=true from hs) b4R
 | bl i =>
  cases rx;cases y with
  | non=>cases ry;exact PySem.EqNone.ne_bool_none (a0E I q (by simp))
  | bl j=>cases ry;exact ne_bool (a0E I q (b6W not b1W))
  | str j=>obtain⟨t',rfl⟩:=ry;exact PySem.EqMixed.ne_bool_str (a0E I q (by simp))
  | _=>exact absurd (show false=true from hs) b4R
 | int i =>
  obtain⟨t,rfl⟩:=rx;cases y with
  | non=>cases ry;exact PySem.EqNone.ne_int_none (a0E I q (by simp))
  | int j=>obtain⟨t',rfl⟩:=ry;exact ne_int (a0E I q (b6W not a8B))
  | str j=>obtain⟨t',rfl⟩:=ry;exact PySem.EqMixed.ne_int_str (a0E I q (by simp))
  | _=>exact absurd (show false=true from hs) b4R
 | str i =>
  obtain⟨t,rfl⟩:=rx;cases y with
  | non=>cases ry;exact PySem.EqNone.ne_str_none (a0E I q (by simp))
  | bl j=>cases ry;exact PySem.EqMixed.ne_str_bool (a0E I q (by simp))
  | int j=>obtain⟨t',rfl⟩:=ry;exact PySem.EqMixed.ne_str_int (a0E I q (by simp))
  | str j=>obtain⟨t',rfl⟩:=ry;exact ne_str (a0E I q (b6W not a8C))
  | _=>exact absurd (show false=true from hs) b4R
 | byt i =>
  obtain⟨t,rfl⟩:=rx;cases y with
  | byt j=>obtain⟨t',rfl⟩:=ry;exact PySem.W.ne_bytes (a0E I q (b6W not a8D))
  | _=>exact absurd (show false=true from hs) b4R
 | _=>cases y<;>exact absurd (show false=true from hs) b4R
theorem a4U:OpR X (compareOp .Lt) (rI0 λi j=>.bl (decide (i<j))):=opB0 λ_ _ _ _ _ _ _ q=>lt_int q
theorem op_le:OpR X (compareOp .LtE) (rI0 λi j=>.bl (decide (i<=j))):=opB0 λ_ _ _ _ _ _ _ q=>le_int q
theorem b0I:OpR X (compareOp .Gt) (rI0 λi j=>.bl (decide (j<i))):=opB0 λ_ _ _ _ _ _ _ q=>gt_int q
theorem op_ge:OpR X (compareOp .GtE) (rI0 λi j=>.bl (decide (j<=i))):=opB0 λ_ _ _ _ _ _ _ q=>ge_int q
noncomputable def isObj:HO->Bool
 | .lst _=>true
 | .ins _ _ _=>true
 | _=>false
theorem nomark (b:Expr) {op:CmpOp} (h:op≠.In:=by decide) (h2:op≠.NotIn:=by decide):behindInMarks op b=false:=by
 have e1:(op==CmpOp.In)=false:=by cases op<;>first|rfl|exact absurd rfl h
 have e2:(op==CmpOp.NotIn)=false:=by cases op<;>first|rfl|exact absurd rfl h2
 cases b<;>simp[behindInMarks,e1,e2]
noncomputable def tTest (t:TE):TT:=λσ H Q=>t σ H λx H'=>∃k,x=.bl k/\Q k H'
theorem a0s {op:CmpOp} {r:R2} (ho:OpR X (compareOp op) r) (ha:PE X a ta) (hb:PE X b tb) (hm:behindInMarks op b=false):PT X (.Compare a [op] [b] pos) (tTest (tOp r ta tb)):=by
 intro pins s σ H Q I h;refine wpAny_isTrue_Compare1 (thn (ha pins s σ H _ I h) λv s1 ⟨x,H1,I1,r1,q1⟩=>thn (hb pins s1 σ H1 _ I1 q1) λu s2 ⟨y,H2,I2,r2,q2⟩ =>
  thn (ho pins s2 σ H2 x y v u _ I2 r1 r2 q2) λc s3 ⟨z,H3,I3,r3,k,e,q3⟩=>?_) hm
 subst e;cases r3;exact b6v ⟨H3,I3,q3⟩
noncomputable def tChain (r r':R2) (ta tb tc:TE):TE:=λσ H Q=>ta σ H λx H1=>tb σ H1 λy H2=>r x y H2 λz H3=>∃k,z=.bl k /\
 (if k=true then tc σ H3 λw' H4=>r' y w' H4 Q else Q (.bl false) H3)
theorem b0J {op op':CmpOp} {r r':R2} (ho:OpR X (compareOp op) r) (ho':OpR X (compareOp op') r') (ha:PE X a ta) (hb:PE X b tb) (hc:PE X c tc)
  (hm:lastMarks [op,op'] [b,c]=false:=by with_unfolding_all rfl):PE X (.Compare a [op,op'] [b,c] pos) (tChain r r' ta tb tc):=by
 intro pins s σ H Q I h;refine Compare_chain (thn (ha pins s σ H _ I h) λv s1 ⟨x,H1,I1,r1,q1⟩=>chain_link (thn (hb pins s1 σ H1 _ I1 q1) λu s2 ⟨y,H2,I2,r2,q2⟩ =>
  thn (ho pins s2 σ H2 x y v u _ I2 r1 r2 q2) λd s3 ⟨z,H3,I3,r3,k,e,q3⟩=>?_)) hm
 subst e;cases r3;refine b6v ?_;cases k with
 | false=>exact ite_ff ⟨.bl false,H3,I3,rfl,q3⟩
 | true=>exact ite_tt (chain_last (thn (hc pins s3 σ H3 _ I3 q3) λw' s4 ⟨z',H4,I4,r4,q4⟩=>ho' pins s4 σ H4 y z' u w' Q I4 r2 r4 q4))
noncomputable def TruV (K:PySem.W.Frag) (x:V) (H:Hp) (k:Bool):Prop :=
 match x with
 | .non=>k=false
 | .bl b=>k=b
 | .int i=>k=(i !=0)
 | .str y=>y.length<=sizeLine/\k=((y.length:Int)!=0)
 | .byt y=>y.size<=sizeLine/\k=((y.size:Int)!=0)
 | .ref p=>(∃xs,SqL K H p xs/\k=!xs.isEmpty)\/(∃xs,SqT K H p xs/\k=!xs.isEmpty)\/∃kvs,H p=some (.dK kvs)/\k=!kvs.isEmpty
 | _=>False
theorem a8E:(sizeLine:Nat)<2 ^ 63:=by rw[b5n];decide
theorem a2g {x:V} {us:List Value} (r:a0C [x] us):∃u,us=[u]/\a0T x u:=by
 cases r with
 | cons r1 r2=>cases r2;exact⟨_,rfl,r1⟩
theorem vals2 {x y:V} {us:List Value} (r:a0C [x,y] us):∃u w',us=[u,w']/\a0T x u/\a0T y w':=by
 cases r with
 | cons r1 r2 =>
  cases r2 with
  | cons r3 r4=>cases r4;exact⟨_,_,rfl,r1,r3⟩
theorem a4V (hc:X.calm=true):a2f X (.builtin "min") (λxs H Q=>∃i j,xs=[.int i,.int j]/\Q (.int (if j<i then j else i)) H):=by
 intro pins s σ H xs us Q I r h;obtain⟨i,j,rfl,q⟩:=h;obtain⟨u,w',rfl,⟨t,rfl⟩,⟨t',rfl⟩⟩:=vals2 r;refine min_two_ints (I.ok.hd hc) λh' tk k=>⟨_,H,I.kept k,?_,q⟩
 by_cases hj:j<i
 ·rw[if_pos hj,if_pos hj];exact⟨_,rfl⟩
 ·rw[if_neg hj,if_neg hj];exact⟨_,rfl⟩
noncomputable def LenV (K:PySem.W.Frag) (x:V) (H:Hp) (n:Nat):Prop :=
 match x with
 | .str y=>y.length<=sizeLine/\n=y.length
 | .byt y=>y.size<=sizeLine/\n=y.size
 | .ref p=>(∃xs,SqL K H p xs/\n=xs.length)\/∃xs,SqT K H p xs/\n=xs.length
 | _=>False
end
structure ObjM (h:Heap) (x dx C:Addr) (mA:Str->Option Value):Prop where
 obj:h.get? x=some (PySem.W.instObj C dx)
 ns:h.Ns1 dx mA
 ne:dx≠x
theorem a8F {h:Heap} {dx:Addr} {mA:Str->Option Value} (n:h.Ns1 dx mA):∃od,h.get? dx=some od/\∀name,PySem.W.lookIn name od=some (mA name):=by
 obtain⟨o,es,ep,ho,hd,hk,_,hm⟩:=n;refine⟨o,ho,λname=>?_⟩;have e:=hm name;unfold nsFind findBy at e;rw[<-Array.find?_toList] at e;unfold PySem.W.lookIn;rw[hd];dsimp only;split
 ·rename_i y q;rw[q] at e;exact b6W some e
 ·rename_i q;rw[q] at e;have a:es.toList.any (·.refKey)=false:=by
   rw[List.any_eq_false];intro y hy;obtain⟨z,t,hkey⟩:=hk y (Array.mem_toList_iff.mp hy);simp[DictEntry.refKey,hkey]
  have a':¬es.toList.any (·.refKey)=true:=by rw[a];exact b4R
  rw[if_neg a'];exact b6W some e
theorem ObjM.look {h:Heap} {x dx C:Addr} {mA:Str->Option Value} (I:ObjM h x dx C mA):∃od,PySem.W.InstAt h x (PySem.W.instObj C dx) C (some od)/\∀name,PySem.W.lookIn name od=some (mA name) :=
 let ⟨od,ho,hl⟩:=a8F I.ns
 ⟨od,⟨I.obj,rfl,rfl,ho⟩,hl⟩
section
variable {prog:Program} {w:World} {A:Around} {E:Value->Shared->Prop} {s:Shared} {K:PySem.W.Frag} {x dx C f:Addr} {mA:Str->Option Value} {name:Str} {v:Value}
end
noncomputable def putF (f:Str) (v:V):List (Str × V)->List (Str × V)
 | []=>[(f,v)]
 | (g,x)::r=>if g=f then (g,v)::r else (g,x)::putF f v r
theorem b0F.some_of {v:V} {o:Option Value} (r:b0F (some v) o):∃u,o=some u/\a0T v u:=by
 cases o with
 | none=>exact(show False from r).elim
 | some u=>exact⟨u,rfl,r⟩
section
variable {P:Program} {w:World} {H H':Hp} {h h':Heap} {a C dx:Addr} {fs fs':List (Str × V)}
theorem b2J (hok:HOk P w H h) (e:H a=some (.ins C dx fs)):∃mA,ObjM h a dx C mA/\(∀f,b0F (fs.lookup f) (mA f))/\PySem.Within mA (fs.map (·.1))/\fs.length<=1000/\H dx=some (.own a):=by
 obtain⟨d,z,ne,ob,mA,n,r,q⟩:=(show a0B P w H h a (.ins C dx fs) from hok a _ e)
 exact⟨mA,⟨ob,n,ne⟩,r,q,z,d⟩
end
structure Cls (K:PySem.W.Frag) (C:Addr):Prop where
 pg:PySem.W.plainGet K C Str.empty=true
 hd:PySem.W.hasDictIn K C=true
 po:PySem.W.plainOver K C=true
 sa:PySem.W.findIn K (.ref C) "__setattr__"=some (some (.builtin "object.__setattr__"))
theorem Cls.get {K:PySem.W.Frag} {C:Addr} (c:Cls K C) (f:Str):PySem.W.plainGet K C f=true:=c.pg
noncomputable def a8G (K:PySem.W.Frag) (C:Addr) (f:Str):Prop:=PySem.W.findIn K (.ref C) f=some none
structure Con (K:PySem.W.Frag) (C:Addr) (f:Str) (v:V) (u:Value):Prop where
 at_:PySem.W.findIn K (.ref C) f=some (some u)
 rel:a0T v u
 get:PySem.W.specialIn K u "__get__"=some none
 cp:PySem.W.copiedNames.contains f=false
structure Meth (K:PySem.W.Frag) (C:Addr) (m:Str) (f:Addr):Prop where
 at_:PySem.W.findIn K (.ref C) m=some (some (.ref f))
 fn:PySem.W.isFn K (.ref f)=true
 kp:PySem.W.keepIn K (.ref f)=true
section
variable {X:Cx} {pins:List (Addr × Obj)} {σ:St} {H:Hp} {s:Shared} {a C dx:Addr} {fs:List (Str × V)} {f:Str} {v:V} {A:Around} {E:Value->Shared->Prop}
end
noncomputable def tFld (K:PySem.W.Frag) (ta:TE) (f:Str):TE:=λσ H Q=>ta σ H λx H1=>∃a C dx fs v,x=.ref a/\H1 a=some (.ins C dx fs)/\Cls K C/\a8G K C f/\fs.lookup f=some v/\Q v H1
noncomputable def tCon (K:PySem.W.Frag) (ta:TE) (f:Str):TE:=λσ H Q=>ta σ H λx H1=>∃a C dx fs v u,x=.ref a/\H1 a=some (.ins C dx fs)/\Cls K C/\Con K C f v u/\fs.lookup f=none/\Q v H1
noncomputable def sFld (K:PySem.W.Frag) (ta tv:TE) (f:Str):TS:=λD σ H=>tv σ H λy H1=>ta σ H1 λx H2=>∃a C dx fs,x=.ref a/\H2 a=some (.ins C dx fs)/\Cls K C/\a8G K C f/\fs.length<1000 /\
 D.nx σ (upd H2 a (.ins C dx (putF f y fs)))
noncomputable def InOp (X:Cx) (op:Operator) (rd:V->V->Hp->VK->Prop):Prop :=
 ∀(pins:List (Addr × Obj)) (s:Shared) (σ:St) (H:Hp) (x y:V) (u v:Value) (Q:VK),Inv X pins σ H s->a0T x u->a0T y v->rd x y H Q->wpAny (model X.prog X.w) X.A (inplaceOp op u v) (EP X pins σ Q) X.xe s
noncomputable def sFldAug (K:PySem.W.Frag) (ta tv:TE) (rd:V->V->Hp->VK->Prop) (f:Str):TS:=λD σ H=>ta σ H λx H1=>∃a C dx fs v,x=.ref a/\H1 a=some (.ins C dx fs)/\Cls K C/\a8G K C f/\fs.lookup f=some v /\
 tv σ H1 λy H2=>rd v y H2 λz H3=>∃dx' fs',H3 a=some (.ins C dx' fs')/\fs'.length<1000/\D.nx σ (upd H3 a (.ins C dx' (putF f z fs')))
section
variable {X:Cx} {o e value:Expr} {f:Str} {pos pos' tpos:Pos} {ta tv:TE}
end
section
variable {X:Cx} {pins:List (Addr × Obj)} {σ:St} {H:Hp} {s:Shared} {A:Around} {E:Value->Shared->Prop} {Q:Value->Shared->Prop} {c:Value} {b:Bool}
inductive a7A (K:PySem.W.Frag) (H:Hp):V->Value->Prop where
 | non:a7A K H .non (.type "NoneType")
 | bl (x:Bool):a7A K H (.bl x) (.type "bool")
 | int (i:Int):a7A K H (.int i) (.type "int")
 | str (x:Str):a7A K H (.str x) (.type "str")
 | flt (x:UInt64):a7A K H (.flt x) (.type "float")
 | lst {a:Addr} {xs:List V} (e:H a=some (.lst xs)):a7A K H (.ref a) (.type "list")
 | frz {a:Addr} {o:Obj} {xs:List V} (e:H a=some (.frz o (.lst xs))):a7A K H (.ref a) (.type "list")
 | tup {a:Addr} {xs:List V} (e:H a=some (.tup xs)):a7A K H (.ref a) (.type "tuple")
 | dK {a:Addr} {kvs:List (Key × V)} (e:H a=some (.dK kvs)):a7A K H (.ref a) (.type "dict")
 | dT {a:Addr} {kvs:List (List Key × V)} (e:H a=some (.dT kvs)):a7A K H (.ref a) (.type "dict")
 | ins {a C dx:Addr} {fs:List (Str × V)} (e:H a=some (.ins C dx fs)) (cl:Cls K C) (ha:PySem.W.findIn K (.ref C) "__class__"=some (some (.builtin "object.__class__")))
   (hn:PySem.W.specialIn K (.builtin "object.__class__") "__get__"=some (some (.builtin "getset_descriptor.__get__"))) (htk:PySem.W.takesIn K (.builtin "object.__class__")=some true)
   (hm:PySem.W.mroIn K C (.type "object")=some true):a7A K H (.ref a) (.ref C)
theorem a8H {x:V} {u t:Value} (I:Inv X pins σ H s) (rx:a0T x u) (ty:a7A X.K H x t) (e:PySem.W.kitOne X.K t c=some b) (h:∀tk,Q (.bool b) { s with toks:=tk }) :
  wpAny (model X.prog X.w) A (call (.builtin "isinstance") [u,c]) Q E s:=by
 cases ty with
 | non=>cases (show u=Value.none from rx);exact b6m PySem.W.kitx_none I.kIn True.intro e (λz=>nomatch z) h
 | bl y=>cases (show u=Value.bool y from rx);exact b6m PySem.W.kitx_bool I.kIn True.intro e (λz=>nomatch z) h
 | int i=>obtain⟨t,q⟩:=(show ∃t,u=Value.int i t from rx);cases q;exact b6m PySem.W.kitx_int I.kIn True.intro e (λz=>nomatch z) h
 | str y=>obtain⟨t,q⟩:=(show ∃t,u=Value.str y t from rx);cases q;exact b6m PySem.W.kitx_str I.kIn True.intro e (λz=>nomatch z) h
 | flt y=>obtain⟨t,q⟩:=(show ∃t,u=Value.float y t from rx);cases q;exact b6m PySem.W.kitx_float I.kIn True.intro e (λz=>nomatch z) h
 | @lst a xs ea =>
  cases (show u=Value.ref a from rx);obtain⟨_,_,n,_,h1⟩:=(show a0B X.prog X.w H s.heap a (.lst xs) from I.hok a _ ea)
  exact b6m PySem.W.kitx_list I.kIn ⟨_,h1,rfl⟩ e (λz=>nomatch z) h
 | @frz a ob xs ea =>
  cases (show u=Value.ref a from rx);obtain⟨_,_,_,n,_,h1⟩:=(show a0B X.prog X.w H s.heap a (.frz ob (.lst xs)) from I.hok a _ ea)
  exact b6m PySem.W.kitx_list I.kIn ⟨_,h1,rfl⟩ e (λz=>nomatch z) h
 | @tup a xs ea =>
  cases (show u=Value.ref a from rx);obtain⟨_,_,_,p⟩:=(show a0B X.prog X.w H s.heap a (.tup xs) from I.hok a _ ea)
  obtain⟨o,h1,h2,_⟩:=p.is;exact b6m PySem.W.kitx_tuple I.kIn ⟨o,h1,h2⟩ e (λz=>nomatch z) h
 | @dK a kvs ea =>
  cases (show u=Value.ref a from rx);obtain⟨_,_,vs,_,p⟩:=(show a0B X.prog X.w H s.heap a (.dK kvs) from I.hok a _ ea)
  obtain⟨o,es,ep,h1,h2,_⟩:=p;exact b6m PySem.W.kitx_dict I.kIn ⟨o,h1,h2.1⟩ e (λz=>nomatch z) h
 | @dT a kvs ea =>
  cases (show u=Value.ref a from rx);obtain⟨_,_,xs,_,o,es,ep,h1,h2,_⟩:=(show a0B X.prog X.w H s.heap a (.dT kvs) from I.hok a _ ea)
  exact b6m PySem.W.kitx_dict I.kIn ⟨o,h1,h2.1⟩ e (λz=>nomatch z) h
 | @ins a C dx fs ea cl ha hn htk hm =>
  cases (show u=Value.ref a from rx);obtain⟨mA,O,_⟩:=b2J I.hok ea;obtain⟨od,J,_⟩:=O.look;exact b6m (PySem.W.kitx_own (cl.get _) cl.hd ha hn htk hm) I.kIn J e (λz=>nomatch z) h
end
structure a2h (k:Nat) (A:Around):Prop where
 hd:A.handled=none
 dp:A.depth+3*k+5<recursionLimit
 un:A.units+16*k+200<cLine
theorem a2h.mono {j k:Nat} {A:Around} (r:a2h k A) (h:j<=k):a2h j A:=⟨r.hd,by have:=r.dp;omega,by have:=r.un;omega⟩
theorem a2h.deeper {k:Nat} {A:Around} (r:a2h (k+1) A) (env:Env):a2h k (A.deeper env) :=
 ⟨r.hd,by have:=r.dp;show A.depth+1+3*k+5<_;omega,by have:=r.un;show A.units+3+16*k+200<_;omega⟩
theorem a2h.in1 {k:Nat} {A:Around} (r:a2h (k+1) A):a2h k A.in1 :=
 ⟨r.hd,by have:=r.dp;show A.depth+3*k+5<_;omega,by have:=r.un;show A.units+1+16*k+200<_;omega⟩
theorem a2h.depth {k:Nat} {A:Around} (r:a2h k A):A.depth<recursionLimit:=by have:=r.dp;omega
theorem a2h.units {k:Nat} {A:Around} (r:a2h k A):A.units+64<cLine:=by have:=r.un;omega
noncomputable def tNil:TA:=λ_ H Q=>Q [] H
noncomputable def b2K (ta:TE) (tr:TA):TA:=λσ H Q=>ta σ H λx H1=>tr σ H1 λxs H2=>Q (x::xs) H2
section
variable {X:Cx} {e:Expr} {es:List Expr} {te:TE} {t:TA} {pos:Pos}
theorem a0c:PA X [] tNil:=λ_ _ _ _ H Q I h=>b6Z ⟨[],H,I,.nil,h⟩
theorem a0a (ha:PE X e te) (hr:PA X es t) (hs:starEach (e::es) X.env=(false,eval e X.env)::starEach es X.env:=by rfl):PA X (e::es) (b2K te t):=by
 intro pos pins s σ H Q I h;rw[hs];show wpAny _ _ (spliced ((false,eval e X.env)::backTo pos (starEach es X.env))) _ _ s;refine b6E (thn (ha pins s σ H _ I h) λu s1 ⟨x,H1,I1,r1,q1⟩=>?_);exact thn (hr pos pins s1 σ H1 _ I1 q1) λus s2 ⟨xs,H2,I2,r2,q2⟩=>⟨x::xs,H2,I2,.cons r1 r2,q2⟩
noncomputable def tTup (t:TA):TE:=λσ H Q=>t σ H λxs H1=>xs.length<=sizeLine/\∀p,H1 p=none->Q (.ref p) (upd H1 p (.tup xs))
noncomputable def tLst (t:TA):TE:=λσ H Q=>t σ H λxs H1=>xs.length<=sizeLine/\∀p,H1 p=none->Q (.ref p) (upd H1 p (.lst xs))
theorem a1s {x1} (h:PA X es t):PE X (.Tuple es x1 pos) (tTup t):=by
 intro pins s σ H Q I hq;refine wpAny_Tuple_spliced (thn (h pos pins s σ H _ I hq) λus s1 ⟨xs,H1,I1,r,z,q⟩=>⟨by rw[<-r.length];exact z,?_⟩);have hf:H1 s1.heap.objs.size=none:=I1.hok.fresh (b4z _);refine⟨.ref s1.heap.objs.size,upd H1 s1.heap.objs.size (.tup xs),I1.laid (t':=s1.toks) (λb u e=>b4o _ e) (b4z _) ?_,rfl,q _ hf⟩;exact⟨z,us,r,⟨_,b4v _ rfl,_,rfl⟩⟩
theorem a1N (h:PA X es t):PE X (.List es pos) (tLst t):=by
 intro pins s σ H Q I hq;refine wpAny_List_spliced (thn (h pos pins s σ H _ I hq) λus s1 ⟨xs,H1,I1,r,z,q⟩=>⟨by rw[<-r.length];exact z,?_⟩);have hf:H1 s1.heap.objs.size=none:=I1.hok.fresh (b4z _);refine⟨.ref s1.heap.objs.size,upd H1 s1.heap.objs.size (.lst xs),I1.laid (t':=s1.toks) (λb u e=>b4o _ e) (b4z _) ?_,rfl,q _ hf⟩;exact⟨z,us,0,r,b4v _ rfl⟩
end
abbrev Sp:=List V->Hp->VK->XK->Prop
abbrev CXT:=List Env->Hp->Shared->XK->Value->Shared->Prop
structure a8I (P:Program) (w:World) (K:PySem.W.Frag) (mg:Str->Option Value) (base:Heap) (A:Around) (outer:List Env) (s:Shared) (H:Hp):Prop where
 frames:A.frames=some outer
 mod:Mod K mg base
 bs:∀b o,base.get? b=some o->s.heap.get? b=some o/\H b=none
 bsz:base.objs.size<=s.heap.objs.size
 funs:s.heap.FunFrames base outer
 frf:∀b∈frs outer,H b=none
 hok:HOk P w H s.heap
 bare:AllBare s.gens
noncomputable def CE (outer:List Env) (P:Program) (w:World) (H:Hp) (s:Shared) (Q:VK) (u:Value) (s':Shared):Prop :=
 ∃v H',s'.os=s.os/\AllBare s'.gens/\Un (frs outer) [] H H' s.heap s'.heap/\HOk P w H' s'.heap/\a0T v u/\Q v H'
noncomputable def CR (CX:CXT) (outer:List Env) (P:Program) (w:World) (H:Hp) (s:Shared) (Q:VK) (E:XK) (r:Result) (s':Shared):Prop :=
 match r with
 | .ok (.ret u)=>CE outer P w H s Q u s'
 | .ok _=>False
 | .error e=>CX outer H s E e s'
structure a1x (P:Program) (w:World) (K:PySem.W.Frag) (mg:Str->Option Value) (base:Heap) (CX:CXT) (k:Nat) (f:Addr) (fd:FuncData) (ps:List Str) (sp:Sp):Prop where
 len:∀vs H Q E,sp vs H Q E->vs.length=ps.length
 run:∀(A:Around) (outer:List Env) (s:Shared) (H:Hp) (args:Args) (us:List Value) (vs:List V) (Q:VK) (E:XK),a2h k A->a8I P w K mg base A outer s H->BindsTo s fd args (ps.zip us)->a0C vs us->sp vs H Q E ->
  codeAny (model P w) A (.call (.ref f) args) (CR CX outer P w H s Q E) s
theorem a1x.mono {P:Program} {w:World} {K:PySem.W.Frag} {mg:Str->Option Value} {base:Heap} {CX:CXT} {j k:Nat} {f:Addr} {fd:FuncData} {ps:List Str} {sp:Sp} (F:a1x P w K mg base CX j f fd ps sp) (h:j<=k) :
  a1x P w K mg base CX k f fd ps sp:=⟨F.len,λA outer s H args us vs Q E hr=>F.run A outer s H args us vs Q E (hr.mono h)⟩
theorem a8I.in1 {P:Program} {w:World} {K:PySem.W.Frag} {mg:Str->Option Value} {base:Heap} {A:Around} {outer:List Env} {s:Shared} {H:Hp} (e:a8I P w K mg base A outer s H) :
  a8I P w K mg base A.in1 outer s H:=⟨e.frames,e.mod,e.bs,e.bsz,e.funs,e.frf,e.hok,e.bare⟩
section
variable {X:Cx} {pins:List (Addr × Obj)} {σ:St} {H:Hp} {s s':Shared}
theorem Inv.env0 (I:Inv X pins σ H s):a8I X.prog X.w X.K X.mg X.base X.A X.stack s H :=
 ⟨I.ok.frames,I.ok.mod,I.bs,b6u I.ok.bsz I.sz,I.stack,I.stkFree,I.hok,I.bare⟩
theorem Inv.after {Q:VK} {u:Value} (I:Inv X pins σ H s) (h:CE X.stack X.prog X.w H s Q u s'):EP X pins σ Q u s':=by
 obtain⟨v,H',os,bare,un,hok,r,q⟩:=h;obtain⟨hh,g,d,t,os'⟩:=s';obtain rfl:os'=s.os:=os;exact⟨v,H',I.call (h':=hh) (g':=g) (d':=d) (t':=t) (ch:=[]) un hok bare (λb z=>absurd z (by simp)),r,q⟩
end
noncomputable def tCall (sp:Sp) (dvs:List V) (E:XK) (t:TA):TE:=λσ H Q=>t σ H λvs H1=>sp (vs++dvs) H1 Q E
noncomputable def tMeth (C:Addr) (m:Str) (sp:Sp) (dvs:List V) (E:XK) (ta:TE) (t:TA):TE:=λσ H Q=>ta σ H λx H1=>∃a dx fs,x=.ref a/\H1 a=some (.ins C dx fs)/\fs.lookup m=none /\
 t σ H1 λvs H2=>sp (x::(vs++dvs)) H2 Q E
noncomputable def tMake (C:Addr) (sp:Sp) (dvs:List V) (E:XK) (t:TA):TE:=λσ H Q=>t σ H λvs H1=>∀x dx,H1 x=none->H1 dx=none->dx≠x ->
 sp (.ref x::(vs++dvs)) (upd (upd H1 dx (.own x)) x (.ins C dx [])) (λv H2=>v=.non/\Q (.ref x) H2) E
noncomputable def a5J (K:PySem.W.Frag) (fd:FuncData) (ps:List Str) (ds:List Value):Prop :=
 ∀(s:Shared) (us:List Value),K.In s.heap->(us++ds).length=ps.length->BindsTo s fd ⟨us,[]⟩ (ps.zip (us++ds))
theorem a5J.all {K:PySem.W.Frag} {fd:FuncData} {ps:List Str} (h:∀us:List Value,us.length=ps.length->bindArgs fd ⟨us,[]⟩=pure (ps.zip us)):a5J K fd ps []:=λs us _ hl=>by
 rw[b5W] at hl ⊢;exact .of_eq (h us hl)
noncomputable def a8J (CX:CXT) (X:Cx) (E:XK):Prop:=∀(pins:List (Addr × Obj)) (σ:St) (H:Hp) (s:Shared) (e:Value) (s':Shared),Inv X pins σ H s->CX X.stack H s E e s'->X.xe e s'
section
variable {X:Cx} {CX:CXT} {k:Nat} {f C:Addr} {fd:FuncData} {ps:List Str} {sp:Sp} {dvs:List V} {ds:List Value} {E:XK} {x m:Str} {p pos apos:Pos} {e o:Expr} {es:List Expr} {ta:TE} {t:TA}
theorem run_fn {pins:List (Addr × Obj)} {σ:St} {H:Hp} {s:Shared} {Q:VK} {us:List Value} {vs:List V} (F:a1x X.prog X.w X.K X.mg X.base CX k f fd ps sp) (hr:a2h k X.A) (hb:a5J X.K fd ps ds) (hd:a0C dvs ds) (hx:a8J CX X E)
  (I:Inv X pins σ H s) (r:a0C vs us) (h:sp (vs++dvs) H Q E):wpAny (model X.prog X.w) X.A (call (.ref f) us) (EP X pins σ Q) X.xe s:=by
 have r2:a0C (vs++dvs) (us++ds):=r.append hd;have hl:(us++ds).length=ps.length:=by rw[<-r2.length];exact F.len _ _ _ _ h
 refine wpAny_call (b6T (F.run X.A X.stack s H ⟨us,[]⟩ (us++ds) (vs++dvs) Q E hr I.env0 (hb s us I.kIn hl) r2 h) λr s' hq=>?_);cases r with
 | error e=>exact hx pins σ H s e s' I hq
 | ok fl =>
  cases fl with
  | ret u=>exact I.after hq
  | next=>exact False.elim hq
  | brk=>exact False.elim hq
  | cont=>exact False.elim hq
theorem a0o (F:a1x X.prog X.w X.K X.mg X.base CX k f fd ps sp) (hr:a2h k X.A) (hg:Gl X x) (hm:X.mg x=some (.ref f)) (hk:PySem.W.keepIn X.K (.ref f)=true) (hb:a5J X.K fd ps ds) (hd:a0C dvs ds) (hx:a8J CX X E)
  (ha:PA X (e::es) t) (hdb:(x==("__debug__":Str))=false:=by decide) (he:starEach (e::es) X.env=(false,eval e X.env)::starEach es X.env:=by rfl) (hpl:(backTo pos (starEach es X.env)).any (·.1)=false:=by rfl) :
  PE X (.Call (.Name x p) (e::es) [] pos) (tCall sp dvs E t):=by
 intro pins s σ H Q I h;refine b5E (a8s I hg hm ?_ hdb);refine PySem.W.callWith_K (h₀:=X.base) I.ok.mod.kin hk (thn (ha pos pins s σ H _ I h) λus s1 ⟨vs,H1,I1,r,q⟩=>⟨I1.kIn,?_⟩) he hpl;exact run_fn F hr hb hd hx I1 r q
structure Mk (K:PySem.W.Frag) (C f:Addr):Prop where
 makes:PySem.W.makesIn K C=true
 init:PySem.W.findIn K (.ref C) "__init__"=some (some (.ref f))
 fn:PySem.W.isFn K (.ref f)=true
 kp:PySem.W.keepIn K (.ref C)=true
end
noncomputable def PK (X:Cx) (kws:List Keyword) (t:TA):Prop :=
 ∀(pos:Pos) (pins:List (Addr × Obj)) (s:Shared) (σ:St) (H:Hp) (Q:List V->Hp->Prop),Inv X pins σ H s->t σ H Q->wpAny (model X.prog X.w) X.A (evalAll ((backToKw pos (keywordEach kws X.env)).map (·.2))) (AP X pins σ Q) X.xe s
section
variable {X:Cx} {CX:CXT} {k:Nat} {f C:Addr} {fd:FuncData} {ps ks:List Str} {sp:Sp} {E:XK} {x m:Str} {p pos apos kpos:Pos} {e o:Expr} {es:List Expr} {kws:List Keyword} {te ta:TE} {t tk:TA} {nm:Option Str}
theorem a4W:PK X [] tNil:=λ_ _ _ _ H Q I h=>wpAny_evalAll_nil ⟨[],H,I,.nil,h⟩
theorem a2y (ha:PE X e te) (hr:PK X kws t):PK X (⟨nm,e,kpos⟩::kws) (b2K te t):=by
 intro pos pins s σ H Q I h;show wpAny _ _ (evalAll ((do let v <-eval e X.env;standAt pos;pure v)::(backToKw pos (keywordEach kws X.env)).map (·.2))) _ _ s;refine wpAny_evalAll_cons (b4n (thn (ha pins s σ H _ I h) λu s1 ⟨x,H1,I1,r1,q1⟩=>b4n (b9T (b4r ?_))));exact thn (hr pos pins s1 σ H1 _ I1 q1) λus s2 ⟨xs,H2,I2,r2,q2⟩=>⟨x::xs,H2,I2,.cons r1 r2,q2⟩
structure KBinds (K:PySem.W.Frag) (fd:FuncData) (ps ks:List Str) (g:List Value->List Value->List Value) (gV:List V->List V->List V):Prop where
 to:∀(s:Shared) (us ws:List Value),K.In s.heap->(g us ws).length=ps.length->BindsTo s fd ⟨us,ks.zip ws⟩ (ps.zip (g us ws))
 rel:∀{vs:List V} {us:List Value} {zs:List V} {ws:List Value},a0C vs us->a0C zs ws->a0C (gV vs zs) (g us ws)
variable {g:List Value->List Value->List Value} {gV:List V->List V->List V}
end
structure a0t (N P:List Str) (sc:Scope):Prop where
 kind:sc.kind=.function
 co:sc.isCoroutine=false
 gen:sc.isGenerator=false
 nd:N.Nodup
 pre:N.take P.length=P
 par:∀x∈P,sc.names.lookup x=some .local\/sc.names.lookup x=some .cell
 nofree:∀y∈sc.names,y.2≠.free
theorem a4X {kindOf:Str->Option NameKind} {x:Str}:∀{binds:List (Str × Value)} {m:Str->Option Value},(∀v,(x,v)∉binds)->bindL kindOf binds m x=m x
 | [],_,_=>rfl
 | (n,v)::r,m,h=>by
  unfold bindL;rw[a4X λw hw=>h w (b6J _ hw)];split
  ·have:x≠n:=by rintro rfl;exact h v b7J
   simp[this]
  ·rfl
theorem a4Y {kindOf:Str->Option NameKind} {x:Str}:∀{binds:List (Str × Value)} {m:Str->Option Value},(∀v,(x,v)∉binds)->bindC kindOf binds m x=m x
 | [],_,_=>rfl
 | (n,v)::r,m,h=>by
  unfold bindC;rw[a4Y λw hw=>h w (b6J _ hw)];split
  ·rfl
  ·have:x≠n:=by rintro rfl;exact h v b7J
   simp[this]
theorem a4Z {kindOf:Str->Option NameKind} {x:Str} {v:Value}:∀{P:List Str} {vs:List Value} {i:Nat} {m:Str->Option Value},P.Nodup->P[i]?=some x->vs[i]?=some v->kindOf x=some .local ->
  bindL kindOf (P.zip vs) m x=some v
 | [],_,_,_,_,h,_,_=>by simp at h
 | _::_,[],_,_,_,_,h,_=>by simp at h
 | p::P,w::vs,0,m,nd,h1,h2,hk=>by
  simp at h1 h2;subst h1;subst h2;show bindL kindOf ((p,w)::P.zip vs) m p=_;unfold bindL;rw[a4X λv hv=>(b6F.mp nd).1 (b8q hv).1,if_pos hk];simp
 | p::P,w::vs,i+1,m,nd,h1,h2,hk=>by
  show bindL kindOf ((p,w)::P.zip vs) m x=_;unfold bindL;exact a4Z (i:=i) (b6F.mp nd).2 (by simpa using h1) (by simpa using h2) hk
theorem a5a {kindOf:Str->Option NameKind} {x:Str} {v:Value}:∀{P:List Str} {vs:List Value} {i:Nat} {m:Str->Option Value},P.Nodup->P[i]?=some x->vs[i]?=some v->kindOf x≠some .local ->
  bindC kindOf (P.zip vs) m x=some v
 | [],_,_,_,_,h,_,_=>by simp at h
 | _::_,[],_,_,_,_,h,_=>by simp at h
 | p::P,w::vs,0,m,nd,h1,h2,hk=>by
  simp at h1 h2;subst h1;subst h2;show bindC kindOf ((p,w)::P.zip vs) m p=_;unfold bindC;rw[a4Y λv hv=>(b6F.mp nd).1 (b8q hv).1,if_neg hk];simp
 | p::P,w::vs,i+1,m,nd,h1,h2,hk=>by
  show bindC kindOf ((p,w)::P.zip vs) m x=_;unfold bindC;exact a5a (i:=i) (b6F.mp nd).2 (by simpa using h1) (by simpa using h2) hk
noncomputable def start (N:List Str) (vs:List V):St:=vs.map some++List.replicate (N.length-vs.length) none
noncomputable def a5G (CX:CXT) (P:Program) (w:World) (K:PySem.W.Frag) (mg:Str->Option Value) (base:Heap) (N:List Str) (qual:Str) (scope:Scope) (f:Addr) (cd:Value) (A:Around) (outer:List Env) (s:Shared) (H:Hp) (E:XK):Cx where
 prog:=P
 w:=w
 K:=K
 mg:=mg
 base:=base
 A:=A.deeper (envOfC qual scope s.heap.objs.size f cd)
 N:=N
 s₀:=s
 H₀:=H
 env:=envOfC qual scope s.heap.objs.size f cd
 outer:=outer
 stack:=envOfC qual scope s.heap.objs.size f cd::outer
 ex:=[]
 calm:=true
 fn:=λ_=>true
 pn:=[]
 xe:=λe s'=>wpAny (model P w) (A.deeper (envOfC qual scope s.heap.objs.size f cd)) (leaving (envOfC qual scope s.heap.objs.size f cd) e) (λ_ s''=>CX outer H s E e s'') (λe' s''=>CX outer H s E e' s'') s'
theorem a6A {sc:Scope} {n:Nat} {x:Str} (h:sc.names.lookup x=some .cell):∃c,(cellsFrom n sc.names []).lookup x=some c:=by
 have q:=PySem.W.cellsFrom_some sc.names n [] (.inl h);exact Option.isSome_iff_exists.mp q
theorem a8K {CX:CXT} {P:Program} {w:World} {K:PySem.W.Frag} {mg:Str->Option Value} {base:Heap} {N ps:List Str} {qual:Str} {scope:Scope} {f:Addr} {cd:Value} {A:Around} {outer:List Env} {s s1:Shared} {H:Hp} {E:XK} {us:List Value} {vs:List V}
  (S:a0t N ps scope) (hd:A.handled=none) (e0:a8I P w K mg base A outer s H) (hl:vs.length=ps.length) (r:a0C vs us)
  (x:InCallC s s.heap.objs.size (bindL (envOfC qual scope s.heap.objs.size f cd).kindOf (ps.zip us) λ_=>none) (cellsFrom (s.heap.objs.size+1) scope.names []) (bindC (envOfC qual scope s.heap.objs.size f cd).kindOf (ps.zip us) λ_=>none) s1) :
  Inv (a5G CX P w K mg base N qual scope f cd A outer s H E) [] (start N vs) H s1:=by
 have hpl:ps.length<=N.length:=by have:=b6W List.length S.pre;rw[b4L] at this;omega
 obtain⟨h1,tk,rfl,hk⟩:=x.done;have noA:∀b:Addr,b∉(a5G CX P w K mg base N qual scope f cd A outer s H E).ex:=λb z=>absurd (show b∈([]:List Addr) from z) (by simp);refine⟨⟨e0.mod,S.kind,rfl,rfl,b4z _,λy z c h1 h2=>?_,λy hy=>?_,λy c _ h=>?_,λ_=>hd,Around.frames_deeper e0.frames,.inr ⟨rfl,rfl⟩,λb z=>absurd z (noA b),e0.bs,e0.bsz,λb _ _=>noA b,λb z=>absurd z (noA b),e0.funs,e0.frf⟩,
  rfl,e0.bare,Un.kept hk,⟨_,x.toInCall.ns,λi y v h1 h2 h3=>?_⟩,λy c h=>⟨_,x.cell y c h⟩,e0.hok.fresh (b4z _),λy c h=>?_,λp hp=>absurd (show p∈([]:List (Addr × Obj)) from hp) (by simp),e0.hok.kept hk,?_⟩
 ·exact name_of_addr x.apart (b5U h1) (b5U h2)
 ·have hy:scope.names.lookup y=some .cell\/scope.names.lookup y=some .free:=hy;rcases hy with hy|hy
  ·exact a6A hy
  ·exact absurd rfl (S.nofree _ (b5U hy))
 ·exact b6K (x.above y c (b5U h))
 ·have hi:i<vs.length:=by
   unfold start at h2;by_cases hi:i<vs.length
   ·exact hi
   ·rw[b4U (by simpa using hi)] at h2;rw[b8r] at h2;split at h2<;>cases h2
  have ha:vs[i]?=some v:=by
   unfold start at h2;rw[b5w (by simpa using hi),b4C] at h2;cases e:vs[i]? with
   | none=>rw[e] at h2;cases h2
   | some a=>rw[e] at h2;cases h2;rfl
  obtain⟨u,hu,rv⟩:=r.get ha;have hp:ps[i]?=some y:=by
   rw[<-S.pre,b6c (by omega)];exact h1
  have ndP:ps.Nodup:=by rw[<-S.pre];exact S.nd.sublist (b9L _ _)
  refine⟨u,rv,?_⟩;rcases S.par y (b4B hp) with k|k
  ·exact .inl ⟨k,a4Z ndP hp hu k⟩
  ·obtain⟨c,e⟩:=a6A (n:=s.heap.objs.size+1) k;refine .inr ⟨.inl k,c,e,?_⟩;have q:=x.cell y c e;rw[a5a ndP hp hu (by show scope.names.lookup y≠_;rw[k];decide)] at q;exact q
 ·exact e0.hok.fresh (b6K (x.above y c (b5U h)))
 ·unfold start;show _=N.length;rw[b4A,b4p,b8M];omega
theorem fn_of {CX:CXT} {P:Program} {w:World} {K:PySem.W.Frag} {mg:Str->Option Value} {base:Heap} {k:Nat} {f:Addr} {name qual:Str} {params:Arguments} {body:List Stmt} {scope:Scope} {dV kV doc pm cdv ct oc:Value} {an od:Option Addr}
  {osl:Array (Option Value)} {N ps:List Str} {sp:Sp} (lk:K.lookup f=some ⟨oc,od,.func (PySem.W.fnOf name qual params body scope dV kV doc pm an cdv ct),osl⟩) (hcd:PySem.W.codeIn K cdv qual=true) (S:a0t N ps scope)
  (len:∀vs H Q E,sp vs H Q E->vs.length=ps.length)
  (hbody:∀(A:Around) (outer:List Env) (s:Shared) (H:Hp) (vs:List V) (Q:VK) (E:XK),a2h k (A.deeper (envOfC qual scope s.heap.objs.size f cdv))->sp vs H Q E ->
   ∃t,PSs (a5G CX P w K mg base N qual scope f cdv A outer s H E) body t/\t { nx:=λ_ H'=>Q .non H',rt:=Q } (start N vs) H) :
  a1x P w K mg base CX (k+1) f (PySem.W.fnOf name qual params body scope dV kV doc pm an cdv ct) ps sp:=by
 refine⟨len,λA outer s H args us vs Q E hr e0 hb r hsp=>?_⟩;have hl:=len _ _ _ _ hsp;have KX:K.In s.heap:=e0.mod.kin.keeps λb o e=>(e0.bs b o e).1;have lim:s.heap.NoLimit:=e0.mod.nolimit.keeps λb o e=>(e0.bs b o e).1;have hkind:∀y∈ps.zip us,scope.names.lookup y.1=some .local\/(scope.names.lookup y.1=some .cell/\((cellsFrom (s.heap.objs.size+1) scope.names []).lookup y.1).isSome=true):=λ⟨n,v⟩ hy=>by
  rcases S.par n (b8q hy).1 with q|q
  ·exact .inl q
  ·exact .inr ⟨q,PySem.W.cellsFrom_some _ _ _ (.inl q)⟩
 refine codeAny_call_function hr.depth (KX _ _ lk) rfl S.co S.gen rfl (PySem.W.codeRec_of KX hcd) (hb _ _ _ _ ?_);refine wpAny_newFunctionEnv_cells S.kind hkind λenv he s1 x=>?_;subst he;refine⟨lim.keeps x.toInCall.keep,codeAny_func ?_⟩;obtain⟨t,ht,hq⟩:=hbody A outer s H vs Q E (hr.deeper _) hsp;have I:Inv (a5G CX P w K mg base N qual scope f cdv A outer s H E) [] (start N vs) H s1:=a8K S hr.hd e0 hl r x;refine b6Y (ht [] s1 (start N vs) H _ I hq) (λfl s' hs=>?_) λe s' hs=>hs;have fin:∀{σ':St} {H':Hp} {v:V} {u:Value},Inv (a5G CX P w K mg base N qual scope f cdv A outer s H E) [] σ' H' s'->a0T v u->Q v H'->CE outer P w H s Q u s' :=
  λ{σ' H' v u} J rv q=>⟨v,H',J.os,J.bare,J.base,J.hok,rv,q⟩
 cases fl with
 | ret u =>
  obtain⟨v,σ',H',J,rv,q⟩:=hs;exact fin J rv q
 | next =>
  obtain⟨σ',H',J,q⟩:=hs;exact fin (v:=V.non) (u:=Value.none) J rfl q
 | brk =>
  obtain⟨_,_,_,q⟩:=hs;exact False.elim q
 | cont =>
  obtain⟨_,_,_,q⟩:=hs;exact False.elim q
section
variable {X:Cx} {x:Str} {p pos:Pos} {e:Expr} {es:List Expr} {t:TA} {id T:String} {r:List V->Hp->VK->Prop}
noncomputable def tCB (r:List V->Hp->VK->Prop) (t:TA):TE:=λσ H Q=>t σ H λvs H1=>r vs H1 Q
theorem a0j (hc:a2f X (.builtin id) r) (hg:Gl X x) (hm:X.mg x=none) (hv:bootBuiltins x=some (.builtin id)) (ha:PA X (e::es) t) (hn:x≠"__name__":=by decide) (hdb:(x==("__debug__":Str))=false:=by decide)
  (he:starEach (e::es) X.env=(false,eval e X.env)::starEach es X.env:=by rfl) (hpl:(backTo pos (starEach es X.env)).any (·.1)=false:=by rfl):PE X (.Call (.Name x p) (e::es) [] pos) (tCB r t):=by
 intro pins s σ H Q I h;refine b5E (a1l I hg hm hv ?_ hn hdb);exact b7u (thn (ha pos pins s σ H _ I h) λus s1 ⟨vs,H1,I1,r1,q1⟩=>hc pins s1 σ H1 vs us Q I1 r1 q1) he hpl
theorem a1j (hc:a2f X (.type T) r) (hg:Gl X x) (hm:X.mg x=none) (hv:bootBuiltins x=some (.type T)) (ha:PA X (e::es) t) (hn:x≠"__name__":=by decide) (hdb:(x==("__debug__":Str))=false:=by decide)
  (he:starEach (e::es) X.env=(false,eval e X.env)::starEach es X.env:=by rfl) (hpl:(backTo pos (starEach es X.env)).any (·.1)=false:=by rfl):PE X (.Call (.Name x p) (e::es) [] pos) (tCB r t):=by
 intro pins s σ H Q I h;refine b5E (a1l I hg hm hv ?_ hn hdb);exact b5F (thn (ha pos pins s σ H _ I h) λus s1 ⟨vs,H1,I1,r1,q1⟩=>hc pins s1 σ H1 vs us Q I1 r1 q1) he hpl
end
end L2
namespace HT
open PySem PyProof.Rows
noncomputable def a0I:List Int->List Int->Bool
 | [],[]=>false
 | [],_::_=>true
 | _::_,[]=>false
 | x::xs,y::ys=>if x=y then a0I xs ys else decide (x<y)
theorem a1e (x y:Int) (xs ys:List Int):a0I (x::xs) (y::ys)=if x=y then a0I xs ys else decide (x<y):=rfl
theorem a4b:a0I [] []=false:=rfl
theorem a3I (y:Int) (ys:List Int):a0I [] (y::ys)=true:=rfl
theorem a3J (x:Int) (xs:List Int):a0I (x::xs) []=false:=rfl
theorem a6B (A:Around) (s:Shared) (a:Int) (t:Tok) (c:Int) (u:Tok):∃e,SeqAt.EqAt A s (.int a t) (.int c u) e/\(e=true↔a=c) :=
 ⟨(a==c),b9A a t c u,by simp⟩
theorem a6C (A:Around) (s:Shared) (a:Int) (t:Tok) (c:Int) (u:Tok) (prog:Program) (w:World) (E:Value->Shared->Prop) (Q:Value->Shared->Prop) (h:Q (.bool (decide (a<c))) s) :
  wpAny (model prog w) A (richCompare .Lt (.int a t) (.int c u)) Q E s :=
 (PyProof.Rows.lt_int h:wpAny (model prog w) A (compareOp .Lt (.int a t) (.int c u)) Q E s)
section
open PySem.SeqAt
open PySem.AutoSeq1 (wpAny_loadPart')
open PySem.MeetsSeq PySem.MeetsSeq2 PySem.MeetsSeq3
theorem a4c (l b:Addr) (items items2:Array Value) (n n2:Nat) (dd dd2:Option Addr) (sl sl2:Array (Option Value)) (ns ms:List Int) (hi:IntsAre items.toList ns) (hj:IntsAre items2.toList ms) :
  Meets (Builtin.«tuple.__lt__» ⟨[.ref l,.ref b],[]⟩)
   (λ_ R s=>s.heap.get? l=some { cls:=.type "tuple",dict:=dd,data:=.seq items n,slots:=sl }/\s.heap.get? b=some { cls:=.type "tuple",dict:=dd2,data:=.seq items2 n2,slots:=sl2 } /\
    R (.ok (.ret (.bool (a0I ns ms)))) s) :=
 .of_wp λprog w A R s h=>by
  obtain⟨hp,g,d,tk,os⟩:=s;obtain⟨hl,hb,h⟩:=h;have f2:=AutoSeq1.sub_tuple_tuple;have z1:items.size=ns.length:=by rw[<-hi.length];simp
  have z2:items2.size=ms.length:=by rw[<-hj.length];simp
  wp_walk using b7O hl,b7O hb,b7z _ (λrest b s'=>b.1=none/\s'=⟨hp,g,d,tk,os⟩/\∃(vs ws:List Value) (ns' ms':List Int),rest=vs.zip ws /\
   IntsAre vs ns'/\IntsAre ws ms'/\ns'.length+items2.size=ms'.length+items.size/\R (.ok (.ret (.bool (a0I ns' ms')))) ⟨hp,g,d,tk,os⟩) _
  case turn =>
   rintro⟨y,x⟩ rest b s' ⟨hb',rfl,vs,ws,ns',ms',hz,hvi,hwi,hlen,hR⟩;cases hvi with
   | nil=>rw[List.zip_nil_left] at hz;cases hz
   | cons a t hvi' =>
    cases hwi with
    | nil=>rw[List.zip_nil_right] at hz;cases hz
    | cons c u hwi' =>
     rw[b7g] at hz;injection hz with hyx hrest;injection hyx with hy hx;subst hy hx;rw[a1e] at hR;simp only[b5l] at hlen;obtain⟨e,he,hiff⟩:=a6B A.in1 ⟨hp,g,d,tk,os⟩ a t c u;refine b4n (he prog w _ _ ?_);cases e with
     | true =>
      rw[if_pos (hiff.mp rfl)] at hR
      wp_walk
      exact⟨rfl,rfl,_,_,_,_,hrest,hvi',hwi',by omega,hR⟩
     | false =>
      rw[if_neg (λq=>absurd (hiff.mpr q) b4R)] at hR;have hri:=a6C A.in1 ⟨hp,g,d,tk,os⟩ a t c u prog w
      wp_walk using hri
      exact⟨_,rfl,by simpa using hR⟩
  case fin =>
   rintro⟨b1,b2⟩ s' ⟨hb',rfl,vs,ws,ns',ms',hz,hvi,hwi,hlen,hR⟩;simp only at hb';subst hb';have hv:a0I ns' ms'=decide (items.size<items2.size):=by
    cases hvi with
    | nil =>
     cases hwi with
     | nil =>
      simp only[b7r] at hlen;rw[a4b];exact(b5s (by omega)).symm
     | cons c u hw =>
      simp only[b7r,b5l] at hlen;rw[a3I];exact(b4W (by omega)).symm
    | cons a t hv =>
     cases hwi with
     | nil =>
      simp only[b7r,b5l] at hlen;rw[a3J];exact(b5s (by omega)).symm
     | cons c u hw =>
      rw[b7g] at hz;cases hz
   rw[hv] at hR
   wp_walk
   exact⟨_,rfl,by simpa [Builtin.Tuple.tupleCompareSizes] using hR⟩
  case h =>
   exact⟨rfl,rfl,items.toList,items2.toList,ns,ms,rfl,hi,hj,by omega,h⟩
end
section
variable {prog:Program} {w:World} {A:Around} {E:Value->Shared->Prop} {s:Shared}
theorem a3N {l b:Addr} {items items2:Array Value} {ns ms:List Int} {Q:Value->Shared->Prop} (hl:IsTup s.heap l items) (hb:IsTup s.heap b items2) (hi:IntsAre items.toList ns) (hj:IntsAre items2.toList ms)
  (hu:A.units<cLine) (h:Q (.bool (a0I ns ms)) s):wpAny (model prog w) A (compareOp .Lt (.ref l) (.ref b)) Q E s:=by
 obtain⟨⟨cls,dd,data,sl⟩,ho,hc,n,hd⟩:=id hl;obtain⟨⟨cls2,dd2,data2,sl2⟩,ho2,hc2,n2,hd2⟩:=id hb;simp only at hc hd hc2 hd2;subst hc hd hc2 hd2;exact richCompare_meets_room (op:=.Lt) ⟨_,ho,rfl⟩ ⟨_,ho2,rfl⟩ PySem.F.slot_tuple_lt PySem.F.entry_tuple_lt (PySem.F.args_tuple_lt_2 _ _) (a4c l b items items2 n n2 dd dd2 sl sl2 ns ms hi hj)
  ⟨ho,ho2,show Value.bool (a0I ns ms)≠Value.notImplemented/\Q (.bool (a0I ns ms)) s from⟨(λx=>nomatch x),h⟩⟩ hu
theorem b2L {t b:Addr} {vs ws:List Value} {Q:Value->Shared->Prop} (ht:IsTup s.heap t vs.toArray) (hb:IsTup s.heap b ws.toArray) (hv:vs≠[])
  (h1:ws=[]->Q (.ref t) s) (h2:ws≠[]->Q (.ref s.heap.objs.size) { s with heap:=s.heap.push { cls:=.type "tuple",data:=.seq (vs++ws).toArray } })
  (hsz:vs.length+ws.length<=sizeLine):wpAny (model prog w) A (binaryOp .Add (.ref t) (.ref b)) Q E s:=by
 obtain⟨⟨cls,dd,data,sl⟩,ho,hc,n,hd⟩:=id ht;obtain⟨⟨cls2,dd2,data2,sl2⟩,ho2,hc2,n2,hd2⟩:=id hb;simp only at hc hd hc2 hd2;subst hc hd hc2 hd2;have e:vs.toArray++ws.toArray=(vs++ws).toArray:=by simp
 by_cases hw:ws=[]
 ·exact concat_meets ⟨_,ho,rfl⟩ ⟨_,ho2,rfl⟩ b9Y seq_tuple_add b8z b8s (b8m _ _)
   (tuple_addW1 t b vs.toArray ws.toArray n n2 dd dd2 sl sl2 (by simpa using hv) (by simp[hw])) ⟨ho,ho2,h1 hw⟩
 ·refine concat_meets ⟨_,ho,rfl⟩ ⟨_,ho2,rfl⟩ b9Y seq_tuple_add b8z b8s (b8m _ _)
   (tuple_addW2 t b vs.toArray ws.toArray n n2 dd dd2 sl sl2 (by simpa using hv) (by simpa using hw) (by rw[b4y,b4y];exact hsz)) ⟨ho,ho2,?_⟩
  rw[e];exact h2 hw
noncomputable def sIx (n d:Nat):Option Int->Nat
 | none=>d
 | some v=>if v<0 then (v+(n:Int)).toNat else min v.toNat n
theorem a6D (n d:Nat):sIx n d none=d:=rfl
theorem a3a (n d k:Nat):sIx n d (some (k:Int))=min k n:=by
 show(if (k:Int)<0 then ((k:Int)+(n:Int)).toNat else min (k:Int).toNat n)=min k n;rw[if_neg (by omega),b6x]
theorem sIx_le (n d:Nat) (hd:d<=n) (o:Option Int):sIx n d o<=n:=by
 cases o with
 | none=>exact hd
 | some v =>
  show(if v<0 then (v+(n:Int)).toNat else min v.toNat n)<=n;by_cases hv:v<0
  ·rw[if_pos hv];omega
  ·rw[if_neg hv];exact Nat.min_le_right _ _
theorem a8L (v:Int) (n d:Nat):(if v<0 then max (v+(n:Int)) 0 else min v (n:Int))=((sIx n d (some v):Nat):Int):=by
 show(if v<0 then max (v+(n:Int)) 0 else min v (n:Int))=(((if v<0 then (v+(n:Int)).toNat else min v.toNat n):Nat):Int)
 by_cases hv:v<0
 ·simp only[if_pos hv];omega
 ·simp only[if_neg hv];omega
theorem a7B (lo hi:Option Int) (n:Nat):Builtin.Slice.sliceAdjust lo hi 1 (n:Int)=(((sIx n 0 lo:Nat):Int),((sIx n n hi:Nat):Int)):=by
 have h1:¬((1:Int)<0):=by omega
 unfold Builtin.Slice.sliceAdjust;simp only[h1,b6B];refine b8I ?_ ?_
 ·cases lo with
  | none=>rfl
  | some v=>exact a8L v n 0
 ·cases hi with
  | none=>rfl
  | some v=>exact a8L v n n
theorem a7C (i j:Nat):Builtin.Slice.slicePlaces (i:Int) (j:Int) 1=j-i:=by
 unfold Builtin.Slice.slicePlaces;have h1:(1:Int)>0:=by omega
 simp only[h1,if_true,Int.ediv_one];split<;>omega
theorem a3O {v:Value} {o:Option Int} {Q:Option Int->Shared->Prop} (p:IsPart v o) (h:Q o s):wpAny (model prog w) A (Builtin.Slice.slicePartIndex v) Q E s:=by
 cases p with
 | none=>exact slicePart_none h
 | int i t=>exact slicePart_int h
theorem a1I {sl:Addr} {vl vu:Value} {lo hi:Option Int} {n:Nat} {Q:Int × Int × Nat->Shared->Prop} (hs:s.heap.IsSliceOf sl vl vu .none) (pl:IsPart vl lo) (pu:IsPart vu hi)
  (h:Q (((sIx n 0 lo:Nat):Int),1,sIx n n hi-sIx n 0 lo) s):wpAny (model prog w) A (Builtin.Slice.sliceApplied (.ref sl) (pure (n:Int))) Q E s:=by
 obtain⟨os,hos,hcs,hds⟩:=id hs;unfold Builtin.Slice.sliceApplied Builtin.Slice.sliceFields;refine b4n (b4n (b4Y hos hds (x:=vl) rfl (b4n (b4Y hos hds (x:=vu) rfl (b4n (b4Y hos hds (x:=.none) rfl (b4r ?_)))))));refine b4n (slicePart_none ?_);show wpAny _ _ (if ((1:Int)==0)=true then _ else _) _ _ s;rw[if_neg (by decide)];refine b4n (a3O pl (b4n (a3O pu (b4n (b4r ?_)))));show wpAny _ _ (match Builtin.Slice.sliceAdjust lo hi 1 (n:Int) with|(lo,hi)=>pure (lo,(1:Int),Builtin.Slice.slicePlaces lo hi 1)) _ _ s;rw[a7B lo hi n];show wpAny _ _ (pure (((sIx n 0 lo:Nat):Int),(1:Int),Builtin.Slice.slicePlaces ((sIx n 0 lo:Nat):Int) ((sIx n n hi:Nat):Int) 1)) _ _ s;rw[a7C];exact b4r h
theorem b0K (xs:Array Value) (i k:Nat):((List.range k).filterMap λ(m:Nat)=>xs[((i:Int)+(m:Int)*1).toNat]?).toArray=((xs.toList.drop i).take k).toArray:=by
 have e:(λ(m:Nat)=>xs[((i:Int)+(m:Int)*1).toNat]?)=λm=>xs[i+m]?:=by
  funext m;have:((i:Int)+(m:Int)*1).toNat=i+m:=by omega
  rw[this]
 rw[e];have:=pick_run xs i k;rw[List.filterMap_map] at this;have e2:((λx=>xs[x]?) ∘ λx=>i+x)=λm=>xs[i+m]?:=rfl;rw[e2] at this;rw[this]
theorem a2z {t sl:Addr} {items:Array Value} {vl vu:Value} {lo hi:Option Int} {Q:Value->Shared->Prop} (ht:IsTup s.heap t items) (hs:s.heap.IsSliceOf sl vl vu .none) (pl:IsPart vl lo) (pu:IsPart vu hi)
  (hw:¬(sIx items.size 0 lo=0/\sIx items.size items.size hi=items.size))
  (h:Q (.ref s.heap.objs.size) { s with heap:=s.heap.push { cls:=.type "tuple",data:=.seq ((items.toList.drop (sIx items.size 0 lo)).take (sIx items.size items.size hi-sIx items.size 0 lo)).toArray } })
  (hsz:items.size<=sizeLine):wpAny (model prog w) A (getItem (.ref t) (.ref sl)) Q E s:=by
 have htake:sizeOk (.seq ((items.toList.drop (sIx items.size 0 lo)).take (sIx items.size items.size hi-sIx items.size 0 lo)).toArray):=by
  show((items.toList.drop (sIx items.size 0 lo)).take (sIx items.size items.size hi-sIx items.size 0 lo)).toArray.size<=sizeLine;rw[b4y,b4L,b7A,b4x];omega
 have hj:sIx items.size items.size hi<=items.size:=sIx_le _ _ (b4z _) hi;obtain⟨os,hos,hcs,hds⟩:=id hs;have hTs:s.TypeIs (.ref sl) "slice":=⟨os,hos,hcs⟩
 unfold getItem
 try with_reducible refine b4T ?_
 first|refine b4n (b4r ?_)|skip
 refine b4n (wpAny_sequenceKey ht.typeIs (by decide) ?_);refine b4n (b5a (name:=Str.ofString "__getitem__") ht.typeIs b5N
  (b4Z b5N ht.typeIs entry_tuple_getitem ?_ (args_tuple_getitem _ _)))
 show wpAny _ _ (Builtin.Tuple.tupleItemsOf (.ref t) >>= _) _ _ s;refine b4n (tupleItemsOf_ ht ?_);refine b4n (b8n hTs ?_);rw[if_pos (by decide)];refine b4n (a1I hs pl pu ?_);have hno:¬((((sIx items.size 0 lo:Nat):Int)==0&&(1:Int)==1&&(sIx items.size items.size hi-sIx items.size 0 lo)==items.size)=true):=by
  intro q;rw[b5X,b5X] at q;have q1:((sIx items.size 0 lo:Nat):Int)=0:=eq_of_beq q.1.1;have q2:sIx items.size items.size hi-sIx items.size 0 lo=items.size:=eq_of_beq q.2;exact hw ⟨by omega,by omega⟩
 show wpAny _ _ (if (((sIx items.size 0 lo:Nat):Int)==0&&(1:Int)==1&&(sIx items.size items.size hi-sIx items.size 0 lo)==items.size)=true then _ else _) _ _ s;rw[if_neg hno,b0K]
 first
  | exact b4n (m:=Builtin.Tuple.tupleExact _) (b5o (b4r ⟨_,rfl,b4r h⟩) htake)
  | exact b4n (m:=Builtin.Tuple.tupleExact _) (b5o (b4n (b4r (b4r ⟨_,rfl,b4r h⟩))) htake)
  | exact b4n (b4n (m:=Builtin.Tuple.tupleExact _) (b5o (b4r (b4r ⟨_,rfl,b4r h⟩)) htake))
  | exact b4n (b4n (m:=Builtin.Tuple.tupleExact _) (b5o (b4r ⟨_,rfl,b4r h⟩) htake))
end
end HT
namespace L2
open PySem PySem.Spec PyProof.Rows
abbrev TO:=St->Hp->(Option Int->Hp->Prop)->Prop
noncomputable def PO (X:Cx) (e:Option Expr) (t:TO):Prop :=
 ∀(pins:List (Addr × Obj)) (s:Shared) (σ:St) (H:Hp) (Q:Option Int->Hp->Prop),Inv X pins σ H s->t σ H Q ->
  wpAny (model X.prog X.w) X.A (evalPart e X.env) (λu s'=>∃o H',Inv X pins σ H' s'/\IsPart u o/\Q o H') X.xe s
noncomputable def b2M:TO:=λ_ H Q=>Q none H
noncomputable def tPart (t:TE):TO:=λσ H Q=>t σ H λx H1=>∃i,x=.int i/\Q (some i) H1
section
variable {X:Cx} {e:Expr} {te:TE} {lo hi:Option Expr} {tl th:TO} {pos p2:Pos}
theorem a1O:PO X none b2M:=by
 intro pins s σ H Q I h;rw[evalPart_none];exact b4r ⟨none,H,I,.none,h⟩
theorem a1A (h:PE X e te):PO X (some e) (tPart te):=by
 intro pins s σ H Q I hw;rw[evalPart_some];refine thn (h pins s σ H _ I hw) λu s1 ⟨x,H1,I1,r1,q1⟩=>?_;obtain⟨i,rfl,q⟩:=q1;obtain⟨t,rfl⟩:=r1;exact⟨some i,H1,I1,.int i t,q⟩
noncomputable def SlR (X:Cx) (r:V->Option Int->Option Int->Hp->VK->Prop):Prop :=
 ∀(pins:List (Addr × Obj)) (s:Shared) (σ:St) (H:Hp) (x:V) (v vl vu:Value) (lo hi:Option Int) (sl:Addr) (Q:VK),Inv X pins σ H s->a0T x v->s.heap.IsSliceOf sl vl vu .none->IsPart vl lo->IsPart vu hi->r x lo hi H Q ->
  ∃T id,typeLookup (.type T) "__getitem__"=pure (some (.builtin id))/\s.TypeIs v T/\wpAny (model X.prog X.w) X.A (getItem v (.ref sl)) (EP X pins σ Q) X.xe s
noncomputable def tSl (r:V->Option Int->Option Int->Hp->VK->Prop) (te:TE) (tl th:TO):TE:=λσ H Q=>te σ H λx H1=>tl σ H1 λl H2=>th σ H2 λu H3=>r x l u H3 Q
theorem a1n {r:V->Option Int->Option Int->Hp->VK->Prop} (hr:SlR X r) (he:PE X e te) (hl:PO X lo tl) (hu:PO X hi th):PE X (.Subscript e (.Slice lo hi none p2) pos) (tSl r te tl th):=by
 intro pins s σ H Q I h;refine Subscript_ (thn (he pins s σ H _ I h) λv s1 ⟨x,H1,I1,r1,q1⟩=>?_);refine wpAny_Slice (thn (hl pins s1 σ H1 _ I1 q1) λvl s2 ⟨l,H2,I2,pl,q2⟩=>thn (hu pins s2 σ H2 _ I2 q2) λvu s3 ⟨u,H3,I3,pu,q3⟩=>?_);rw[evalPart_none];refine b4r ?_;have I4:Inv X pins σ H3 { s3 with heap:=s3.heap.push { cls:=.type "slice",data:=.fields #[vl,vu,.none] } }:=I3.kept (t':=s3.toks) λb ob q=>b4o _ q;obtain⟨T,id,hT,ht,hg⟩:=hr pins { s3 with heap:=s3.heap.push { cls:=.type "slice",data:=.fields #[vl,vu,.none] } } σ H3 x v vl vu l u s3.heap.objs.size Q I4 r1 (Heap.IsSliceOf.new ..) pl pu q3;show wpAny (model X.prog X.w) X.A (subscriptTail e (.Slice lo hi none p2) v (.ref s3.heap.objs.size)) (EP X pins σ Q) X.xe { s3 with heap:=s3.heap.push { cls:=.type "slice",data:=.fields #[vl,vu,.none] } };exact tail_any (ops:=[.ref s3.heap.objs.size,v]) ht hT hg (by with_unfolding_all rfl)
noncomputable def a3b (xs:List V) (lo hi:Option Int):List V:=(xs.drop (HT.sIx xs.length 0 lo)).take (HT.sIx xs.length xs.length hi-HT.sIx xs.length 0 lo)
theorem a3c (xs:List V) (lo hi:Option Int):(a3b xs lo hi).length<=xs.length:=by
 unfold a3b;rw[b4L,b7A];omega
noncomputable def rSlT (K:PySem.W.Frag):V->Option Int->Option Int->Hp->VK->Prop:=λx lo hi H Q=>∃a xs,x=.ref a/\SqT K H a xs /\
 ¬(HT.sIx xs.length 0 lo=0/\HT.sIx xs.length xs.length hi=xs.length)/\∀p,H p=none->Q (.ref p) (upd H p (.tup (a3b xs lo hi)))
theorem b1X:SlR X (rSlT X.K):=by
 intro pins s σ H x v vl vu lo hi sl Q I rx hs pl pu h;obtain⟨a,xs,rfl,hx,hw,q⟩:=h;cases rx;obtain⟨its,r,ht,hz⟩:=I.tuple hx;have hlen:its.toArray.size=xs.length:=by rw[b4y];exact r.length.symm
 refine⟨"tuple",_,b5N.lookup,ht.typeIs,?_⟩;refine HT.a2z ht hs pl pu (by rw[hlen];exact hw) ?_ (by rw[hlen];exact hz);rw[hlen];refine⟨.ref s.heap.objs.size,_,I.laid (t':=s.toks) (o:=.tup (a3b xs lo hi)) (λb ob q=>b4o _ q) (b4z _) ?_,rfl,q _ (I.hok.fresh (b4z _))⟩;exact⟨b6u (a3c xs lo hi) hz,_,(r.drop (HT.sIx xs.length 0 lo)).take (HT.sIx xs.length xs.length hi-HT.sIx xs.length 0 lo),a4Q.new _ _⟩
noncomputable def rCatT (K:PySem.W.Frag):R2:=λx y H Q=>∃a b xs ys,x=.ref a/\y=.ref b/\SqT K H a xs/\SqT K H b ys/\xs≠[]/\xs.length+ys.length<=sizeLine /\
 (ys=[]->Q (.ref a) H)/\(ys≠[]->∀p,H p=none->Q (.ref p) (upd H p (.tup (xs++ys))))
theorem a0C.nil_iff {xs:List V} {us:List Value} (r:a0C xs us):us=[]↔xs=[]:=by
 cases r with
 | nil=>simp
 | cons _ _=>simp
theorem b2N:OpR X (binaryOp .Add) (rCatT X.K):=by
 intro pins s σ H x y v u Q I rx ry h;obtain⟨a,b,xs,ys,rfl,rfl,ha,hb,hx,hz,q1,q2⟩:=h;cases rx;cases ry;obtain⟨its,r1,p1,_⟩:=I.tuple ha;obtain⟨its2,r2,p2,_⟩:=I.tuple hb;refine HT.b2L p1 p2 (λz=>hx (r1.nil_iff.mp z)) (λz=>⟨.ref a,H,I,rfl,q1 (r2.nil_iff.mp z)⟩) (λz=>?_) (by rw[<-r1.length,<-r2.length];exact hz);refine⟨.ref s.heap.objs.size,_,I.laid (t':=s.toks) (o:=.tup (xs++ys)) (λb ob q=>b4o _ q) (b4z _) ?_,rfl,q2 (λw=>z (r2.nil_iff.mpr w)) _ (I.hok.fresh (b4z _))⟩;exact⟨by rw[b4A];exact hz,_,r1.append r2,a4Q.new _ _⟩
end
noncomputable def ixN (n:Nat) (i:Int):Option Nat:=if 0<=i then (if i<n then some i.toNat else none) else if -(n:Int)<=i then some (i+n).toNat else none
noncomputable def atI {α:Type} (xs:List α) (i:Int):Option α:=(ixN xs.length i).bind λj=>xs[j]?
theorem b2O {n:Nat} {i:Int} {j:Nat} (h:ixN n i=some j):seqIndex? i n=some j/\j<n/\-(n:Int)<=i/\i<n:=by
 unfold ixN at h;by_cases h0:0<=i
 ·rw[if_pos h0] at h;by_cases h1:i<n
  ·rw[if_pos h1] at h;have e:i.toNat=j:=b4N h;exact⟨by rw[seqIndex_of h0 h1,e],by omega,by omega,h1⟩
  ·rw[if_neg h1] at h;cases h
 ·rw[if_neg h0] at h;by_cases h1:-(n:Int)<=i
  ·rw[if_pos h1] at h;have e:(i+n).toNat=j:=b4N h;exact⟨by rw[seqIndex_neg (by omega) h1,e],by omega,h1,by omega⟩
  ·rw[if_neg h1] at h;cases h
theorem a5K {α:Type} {xs:List α} {i:Int} {v:α} (h:atI xs i=some v):∃j,seqIndex? i xs.length=some j/\xs[j]?=some v/\j<xs.length/\-(xs.length:Int)<=i/\i<xs.length:=by
 unfold atI at h;cases e:ixN xs.length i with
 | none=>rw[e] at h;cases h
 | some j =>
  rw[e] at h;obtain⟨h1,h2,h3,h4⟩:=b2O e;exact⟨j,h1,h,h2,h3,h4⟩
theorem a5L {α:Type} {xs:List α} {j:Nat} {v:α} (h:xs[j]?=some v):atI xs (j:Int)=some v:=by
 have hj:j<xs.length:=(b4u.mp h).1;have e:ixN xs.length (j:Int)=some j:=by
  unfold ixN;rw[if_pos (by omega),if_pos (by omega)];simp
 unfold atI;rw[e];exact h
noncomputable def b2P (b:Expr):Prop:=∀o i,subscripted b false o i=operate [o,i] (getItem o i)
noncomputable def IxR (X:Cx) (r:R2):Prop :=
 ∀(value slice:Expr) (pins:List (Addr × Obj)) (s:Shared) (σ:St) (H:Hp) (x y:V) (v u:Value) (Q:VK),Inv X pins σ H s->a0T x v->a0T y u->r x y H Q ->
  subscripted slice false v u=operate [v,u] (getItem v u)->wpAny (model X.prog X.w) X.A (subscriptTail value slice v u) (EP X pins σ Q) X.xe s
noncomputable def MtR (X:Cx) (id:String) (r:V->List V->Hp->VK->Prop):Prop :=
 ∀(pins:List (Addr × Obj)) (s:Shared) (σ:St) (H:Hp) (x:V) (xs:List V) (v:Value) (us:List Value) (Q:VK),Inv X pins σ H s->a0T x v->a0C xs us->r x xs H Q ->
  wpAny (model X.prog X.w) X.A (call (.builtin id) (v::us)) (EP X pins σ Q) X.xe s
section
variable {X:Cx} {a b:Expr} {ta tb:TE} {pos:Pos}
theorem a0Q {r:R2} (hr:IxR X r) (ha:PE X a ta) (hb:PE X b tb) (hs:b2P b):PE X (.Subscript a b pos) (tOp r ta tb):=by
 intro pins s σ H Q I h;exact Subscript_ (binT ha hb I h λv u s2 x y H2 I2 rx ry q=>hr a b pins s2 σ H2 x y v u Q I2 rx ry q (hs _ _))
noncomputable def rIxL (K:PySem.W.Frag):R2:=λx y H Q=>∃p xs i v,x=.ref p/\y=.int i/\SqL K H p xs/\atI xs i=some v/\Q v H
noncomputable def rIxT (K:PySem.W.Frag):R2:=λx y H Q=>∃p xs i v,x=.ref p/\y=.int i/\SqT K H p xs/\atI xs i=some v/\Q v H
noncomputable def rIxS:R2:=λx y H Q=>∃z i c,x=.str z/\y=.int i/\z.length<=sizeLine/\atI z.cps.toList i=some c/\Q (.str ⟨#[c]⟩) H
theorem a3d:IxR X (rIxL X.K):=by
 intro value slice pins s σ H x y v u Q I rx ry h hs;obtain⟨p,xs,i,z,rfl,rfl,hq,he,q⟩:=h;cases rx;obtain⟨t,rfl⟩:=ry;obtain⟨its,r,pl,hz⟩:=I.list hq;obtain⟨j,h1,h2,h3,h4,h5⟩:=a5K he;obtain⟨w,ew,rw'⟩:=r.get h2;have hl:=r.length;have hn:=a8E;have fin:EP X pins σ Q w s:=⟨z,H,I,rw',q⟩
 by_cases h0:0<=i
 ·have hj:i.toNat=j:=by
   rw[seqIndex_of h0 h5] at h1;exact b4N h1
  exact item_listR pl.isList h0 (by omega) (by rw[hj];simpa using ew) fin hs
 ·have hj:(i+(its.toArray.size:Int)).toNat=j:=by
   rw[seqIndex_neg (by omega) h4] at h1;rw[b4y,<-hl];exact b4N h1
  exact subscriptTail_builtinR (x:=w) pl.isList.typeIs slot_list_getitem.lookup
   (wpAny_getItem_list_neg (Q:=λr s'=>r=w/\EP X pins σ Q r s') pl.isList (by omega) (by rw[b4y]<;>omega) (by omega) (by rw[hj];simpa using ew) ⟨rfl,fin⟩) hs
theorem a1t:IxR X (rIxT X.K):=by
 intro value slice pins s σ H x y v u Q I rx ry h hs;obtain⟨p,xs,i,z,rfl,rfl,hq,he,q⟩:=h;cases rx;obtain⟨t,rfl⟩:=ry;obtain⟨its,r,pl,hz⟩:=I.tuple hq;obtain⟨j,h1,h2,h3,h4,h5⟩:=a5K he;obtain⟨w,ew,rw'⟩:=r.get h2;have hl:=r.length;have hn:=a8E;have fin:EP X pins σ Q w s:=⟨z,H,I,rw',q⟩
 exact subscriptTail_builtinR (x:=w) pl.typeIs slot_tuple_getitem.lookup
  (getItem_tuple (j:=j) (Q:=λr s'=>r=w/\EP X pins σ Q r s') pl (by omega) (by omega) (by rw[b4y,<-hl];exact h1) (by simpa using ew) ⟨rfl,fin⟩) hs
noncomputable def rIx (K:PySem.W.Frag):R2:=λx y H Q=>rIxL K x y H Q\/rIxT K x y H Q\/rIxS x y H Q
theorem a5b (lo hi:Option Int) (n:Nat):(sliceBounds lo hi none n).1=((HT.sIx n 0 lo:Nat):Int)/\(sliceBounds lo hi none n).2.1=((HT.sIx n n hi:Nat):Int)/\(sliceBounds lo hi none n).2.2=1:=by
 refine⟨?_,?_,rfl⟩
 ·cases lo with
  | none=>simp[sliceBounds,HT.sIx]
  | some i =>
   simp only[sliceBounds,HT.sIx,Option.getD_none,show(1:Int)>0 by decide,if_true];by_cases h:i<0
   ·simp only[h,if_true]<;>omega
   ·simp only[h,b6B]<;>omega
 ·cases hi with
  | none=>simp[sliceBounds,HT.sIx]
  | some i =>
   simp only[sliceBounds,HT.sIx,Option.getD_none,show(1:Int)>0 by decide,if_true];by_cases h:i<0
   ·simp only[h,if_true]<;>omega
   ·simp only[h,b6B]<;>omega
theorem a4d (its:List Value) (lo hi:Option Int):slicePick its.toArray lo hi none=((its.drop (HT.sIx its.length 0 lo)).take (HT.sIx its.length its.length hi-HT.sIx its.length 0 lo)).toArray:=by
 obtain⟨h1,h2,h3⟩:=a5b lo hi its.toArray.size;unfold slicePick;rw[h1,h2,h3];simp only[sliceRange_one,pick_run,b4y]<;>rfl
noncomputable def rSlL (K:PySem.W.Frag):V->Option Int->Option Int->Hp->VK->Prop:=λx lo hi H Q=>∃a xs,x=.ref a/\SqL K H a xs/\∀p,H p=none->Q (.ref p) (upd H p (.lst (a3b xs lo hi)))
theorem a2A:SlR X (rSlL X.K):=by
 intro pins s σ H x v vl vu lo hi sl Q I rx hs pl pu h;obtain⟨a,xs,rfl,hx,q⟩:=h;cases rx;obtain⟨its,r,ht,hz⟩:=I.list hx;have hlen:=r.length;refine⟨"list",_,slot_list_getitem.lookup,ht.isList.typeIs,?_⟩;refine wpAny_getItem_list_slice ht.isList hs pl pu .none (by simp) ?_ (by rw[b4y]<;>omega);rw[a4d,<-hlen];refine⟨.ref s.heap.objs.size,_,I.laid (t':=s.toks) (o:=.lst (a3b xs lo hi)) (λb ob q=>b4o _ q) (b4z _) ?_,rfl,q _ (I.hok.fresh (b4z _))⟩;exact⟨b6u (a3c xs lo hi) hz,_,0,(r.drop (HT.sIx xs.length 0 lo)).take (HT.sIx xs.length xs.length hi-HT.sIx xs.length 0 lo),b4v _ rfl⟩
noncomputable def flatV:V->Bool
 | .non=>true
 | .bl _=>true
 | .int _=>true
 | .str _=>true
 | _=>false
noncomputable def eqV:V->V->Bool
 | .non,.non=>true
 | .bl a,.bl b=>a==b
 | .bl a,.int b=>(if a then 1 else 0)==b
 | .int a,.bl b=>a==(if b then 1 else 0)
 | .int a,.int b=>a==b
 | .str a,.str b=>a==b
 | _,_=>false
noncomputable def eqU (x:V) (u:Value):Bool:=match u with
 | .none=>eqV .non x
 | .bool b=>eqV (.bl b) x
 | .int i _=>eqV (.int i) x
 | .str z _=>eqV (.str z) x
 | _=>false
noncomputable def inV (x:V) (xs:List V):Bool:=xs.any λy=>eqV y x
noncomputable def rIn (K:PySem.W.Frag) (neg:Bool):R2:=λx y H Q=>∃p xs,y=.ref p/\(SqL K H p xs\/SqT K H p xs)/\flatV x=true/\xs.all flatV=true/\Q (.bl (if neg then !inV x xs else inV x xs)) H
theorem a0h:a2f X (.builtin "len") (λxs H Q=>∃p ys,xs=[.ref p]/\(SqL X.K H p ys\/SqT X.K H p ys)/\Q (.int ys.length) H):=by
 intro pins s σ H xs us Q I r h;obtain⟨p,ys,rfl,hq,q⟩:=h;obtain⟨u,rfl,rx⟩:=a2g r;cases rx;have hn:=a8E;rcases hq with hq|hq
 ·obtain⟨its,r',pl,hz⟩:=I.list hq;have hlen:=r'.length;exact Calls.call_len_list pl.isList (by simp only[b4y]<;>omega) ⟨.int ys.length,H,I.tok _,⟨s.toks+1,by rw[b4y,hlen]⟩,q⟩
 ·obtain⟨its,r',pl,hz⟩:=I.tuple hq;have hlen:=r'.length;exact len_tuple pl (by simp only[b4y]<;>omega) ⟨.int ys.length,H,I.tok _,⟨s.toks+1,by rw[b4y,hlen]⟩,q⟩
theorem a5c:a2f X (.type "list") (λxs H Q=>∃p ys,xs=[.ref p]/\(SqL X.K H p ys\/SqT X.K H p ys)/\∀l,H l=none->Q (.ref l) (upd H l (.lst ys))):=by
 intro pins s σ H xs us Q I r h;obtain⟨p,ys,rfl,hq,q⟩:=h;obtain⟨u,rfl,rx⟩:=a2g r;cases rx;have fin:∀(its:List Value),a0C ys its->ys.length<=sizeLine->∀(h':Heap) (c':Nat),(∀b o',s.heap.get? b=some o'->h'.get? b=some o') ->
   h'.get? s.heap.objs.size=some { cls:=.type "list",dict:=none,data:=.seq its.toArray c',slots:=#[] }->EP X pins σ Q (.ref s.heap.objs.size) { s with heap:=h' }:=λits r' hz h' c' kp e =>
  ⟨.ref s.heap.objs.size,_,I.laid (t':=s.toks) kp (b4z _) (show a0B X.prog X.w _ h' _ (.lst ys) from⟨hz,its,c',r',e⟩),rfl,q _ (I.hok.fresh (b4z _))⟩
 rcases hq with hq|hq
 ·obtain⟨its,r',pl,hz⟩:=I.list hq;have hlen:=r'.length;obtain⟨o,ho,hc,n,hd⟩:=pl.isList;exact call_list_seq p (.inl rfl) ho hc hd (λh' c' kp e=>fin its r' hz h' c' kp e) (by simp only[b4y]<;>omega)
 ·obtain⟨its,r',pl,hz⟩:=I.tuple hq;have hlen:=r'.length;obtain⟨o,ho,hc,n,hd⟩:=pl;exact call_list_seq p (.inr rfl) ho hc hd (λh' c' kp e=>fin its r' hz h' c' kp e) (by simp only[b4y]<;>omega)
theorem a0P:a2f X (.type "tuple") (λxs H Q=>∃p ys,xs=[.ref p]/\((SqL X.K H p ys/\∀l,H l=none->Q (.ref l) (upd H l (.tup ys)))\/(SqT X.K H p ys/\Q (.ref p) H))):=by
 intro pins s σ H xs us Q I r h;obtain⟨p,ys,rfl,h⟩:=h;obtain⟨u,rfl,rx⟩:=a2g r;cases rx;rcases h with ⟨hq,q⟩|⟨hq,q⟩
 ·obtain⟨its,r',pl,hz⟩:=I.list hq;have hlen:=r'.length;refine call_tuple_list pl.isList (λh' kp=>?_) (by simp only[b4y]<;>omega);have I1:Inv X pins σ H { s with heap:=h' }:=I.kept (t':=s.toks) kp;have I2:Inv X pins σ (upd H h'.objs.size (.tup ys)) { s with heap:=h'.push { cls:=.type "tuple",data:=.seq its.toArray } } :=
   I1.laid (t':=s.toks) (λb o e=>b4o _ e) (b4z _) (show a0B X.prog X.w _ _ _ (.tup ys) from⟨hz,its,r',a4Q.new _ _⟩)
  exact⟨.ref h'.objs.size,_,I2,rfl,q _ (I1.hok.fresh (b4z _))⟩
 ·obtain⟨its,r',pl,hz⟩:=I.tuple hq;exact call_tuple_same pl ⟨.ref p,H,I,rfl,q⟩
noncomputable def tyV (K:PySem.W.Frag) (T:String) (x:V) (H:Hp):Prop:=match x with
 | .str _=>T="str"
 | .int _=>T="int"
 | .ref p=>(T="list"/\∃xs,SqL K H p xs)\/(T="tuple"/\∃o,K.lookup p=some o/\o.cls=.type "tuple"/\o.dict=none) \/
   (T="dict"/\((∃kvs,H p=some (.dK kvs))\/∃kvs,H p=some (.dT kvs)))\/(T="set"/\∃S n,H p=some (.set S n))
 | _=>False
theorem b1Y {pins:List (Addr × Obj)} {σ:St} {H:Hp} {s:Shared} {T:String} {x:V} {v:Value} (I:Inv X pins σ H s) (r:a0T x v) (ty:tyV X.K T x H) :
  s.TypeIs v T/\∀a,v=.ref a->∃ob,s.heap.get? a=some ob/\ob.dict=none:=by
 cases x with
 | str z =>
  obtain⟨t,rfl⟩:=r;cases (show T="str" from ty);exact⟨typeIs_str s z t,λ_ e=>nomatch e⟩
 | int i =>
  obtain⟨t,rfl⟩:=r;cases (show T="int" from ty);exact⟨typeIs_int s i t,λ_ e=>nomatch e⟩
 | ref p =>
  cases r;rcases ty with ⟨rfl,xs,hq⟩|⟨rfl,o,hk,hc,hd⟩|⟨rfl,hk⟩|⟨rfl,S,n,hk⟩
  ·obtain⟨its,_,pl,_⟩:=I.list hq;refine⟨pl.isList.typeIs,λa e=>?_⟩;cases e;obtain⟨o,n,e,c,hd,_⟩:=pl;exact⟨o,e,hd⟩
  ·refine⟨⟨o,I.kIn p o hk,hc⟩,λa e=>?_⟩;cases e;exact⟨o,I.kIn _ o hk,hd⟩
  ·have z:∃o,s.heap.get? p=some o/\o.ExactDict:=by
    rcases hk with ⟨kvs,hk⟩|⟨kvs,hk⟩
    ·obtain⟨_,_,_,_,o,_,_,e,ex,_⟩:=I.hok p _ hk;exact⟨o,e,ex⟩
    ·obtain⟨_,_,_,_,o,_,_,e,ex,_⟩:=I.hok p _ hk;exact⟨o,e,ex⟩
   obtain⟨o,e,ex⟩:=z;refine⟨⟨o,e,ex.1⟩,λa e2=>?_⟩;cases e2;exact⟨o,e,ex.2.1⟩
  ·obtain⟨o,_,_,_,e,ex,_⟩:=I.hok p _ hk;refine⟨⟨o,e,ex.1⟩,λa e2=>?_⟩;cases e2;exact⟨o,e,ex.2.1⟩
 | _=>exact False.elim ty
noncomputable def tBM0 (K:PySem.W.Frag) (T:String) (r:V->List V->Hp->VK->Prop) (to:TE):TE:=λσ H Q=>to σ H λx H1=>tyV K T x H1/\r x [] H1 Q
noncomputable def tBM (K:PySem.W.Frag) (T:String) (r:V->List V->Hp->VK->Prop) (to:TE) (t:TA):TE:=λσ H Q=>to σ H λx H1=>tyV K T x H1/\t σ H1 λxs H2=>r x xs H2 Q
variable {o e:Expr} {es:List Expr} {to:TE} {t:TA} {name:Str} {apos cpos:Pos} {T id:String} {r:V->List V->Hp->VK->Prop}
theorem pe_bm0 (pa:PlainAttrs T) (slot:Slot T name id) (hty:typeOf (.builtin id)=pure (.type "method_descriptor")) (hm:MtR X id r) (ho:PE X o to)
  (hbase:attributeBase o name X.env (eval o X.env)=eval o X.env:=by rfl) (hline:(apos.endLine==cpos.line)=true:=by rfl):PE X (.Call (.Attribute o name apos) [] [] cpos) (tBM0 X.K T r to):=by
 intro pins s σ H Q I h;refine wpAny_Call_method0_late hbase hline (thn (ho pins s σ H _ I h) λv s1 ⟨x,H1,I1,r1,ty,q1⟩=>?_);obtain⟨h1,h2⟩:=b1Y I1 r1 ty;exact⟨T,id,pa,slot,hty,h1,h2,b8A rfl (PySem.evalArgs_none (hm pins s1 σ H1 x [] v [] Q I1 r1 .nil q1))⟩
theorem a3K (pa:PlainAttrs T) (slot:Slot T name id) (hty:typeOf (.builtin id)=pure (.type "method_descriptor")) (hm:MtR X id r) (ho:PE X o to) (ha:PA X (e::es) t)
  (hbase:attributeBase o name X.env (eval o X.env)=eval o X.env:=by rfl)
  (hfew:((backTo cpos (starEach (e::es) X.env)).all (λx=>!x.1)&&(backToKw cpos (keywordEach [] X.env)).all (λx=>x.1.isSome)
   && decide ((e::es).length+([]:List Keyword).length+(if ([]:List Keyword).isEmpty then 0 else 1)<30))=true:=by rfl)
  (hline:(apos.endLine==cpos.line)=true:=by rfl) (hs:starEach (e::es) X.env=(false,eval e X.env)::starEach es X.env:=by rfl) (hplain:(backTo cpos (starEach es X.env)).any (·.1)=false:=by rfl) :
  PE X (.Call (.Attribute o name apos) (e::es) [] cpos) (tBM X.K T r to t):=by
 intro pins s σ H Q I h;refine wpAny_Call_method_late hbase hfew hline rfl (thn (ho pins s σ H _ I h) λv s1 ⟨x,H1,I1,r1,ty,q1⟩=>?_);obtain⟨h1,h2⟩:=b1Y I1 r1 ty;refine⟨T,id,pa,slot,hty,h1,h2,?_⟩;have hA:=ha cpos pins s1 σ H1 _ I1 q1;rw[hs] at hA ⊢;refine b8A (by show(false||(backTo cpos (starEach es X.env)).any (·.1))=false;rw[hplain]<;>rfl) (Calls.evalArgs_plain ?_);exact thn hA λus s2 ⟨vs,H2,I2,r2,q2⟩=>hm pins s2 σ H2 x vs v us Q I2 r1 r2 q2
end
noncomputable def MtM (X:Cx) (id:String) (r:V->List V->Hp->VK->Prop):Prop :=
 ∀(pins:List (Addr × Obj)) (s:Shared) (σ:St) (H:Hp) (x:V) (xs:List V) (v:Value) (us:List Value) (Q:VK),Inv X pins σ H s->a0T x v->a0C xs us->r x xs H Q ->
  wpAny (model X.prog X.w) X.A (call (.builtin id) (v::us)) (EP X pins σ Q) X.xe s
theorem a0C.one:∀{x:V} {us:List Value},a0C [x] us->∃u,us=[u]/\a0T x u
 | _,_,.cons r .nil=>⟨_,rfl,r⟩
theorem a0C.two:∀{x y:V} {us:List Value},a0C [x,y] us->∃u v,us=[u,v]/\a0T x u/\a0T y v
 | _,_,_,.cons r (.cons q .nil)=>⟨_,_,rfl,r,q⟩
theorem a0C.zero:∀{us:List Value},a0C [] us->us=[]
 | _,.nil=>rfl
theorem a0C.dropLast {xs:List V} {us:List Value} (h:a0C xs us):a0C xs.dropLast us.dropLast:=by
 induction h with
 | nil=>exact .nil
 | cons r t ih =>
  cases t with
  | nil=>exact .nil
  | cons q t'=>exact .cons r ih
theorem a0C.eraseIdx:∀{xs:List V} {us:List Value} (i:Nat),a0C xs us->a0C (xs.eraseIdx i) (us.eraseIdx i)
 | _,_,_,.nil=>.nil
 | _,_,0,.cons _ t=>t
 | _,_,i+1,.cons r t=>.cons r (a0C.eraseIdx i t)
theorem a0C.rep {xs:List V} {us:List Value} (h:a0C xs us):∀k:Nat,a0C (List.replicate k xs).flatten (List.replicate k us).flatten
 | 0=>.nil
 | k+1=>by
  rw[b6N,b6N,b7W,b7W];exact a0C.append h (a0C.rep h k)
theorem a7D {α:Type} (l:List α):l.eraseIdx (l.length-1)=l.dropLast:=by
 induction l with
 | nil=>rfl
 | cons a r ih =>
  cases r with
  | nil=>rfl
  | cons b r =>
   have e:(a::b::r).length-1=((b::r).length-1)+1:=by
    have h1:(a::b::r).length=r.length+2:=rfl;have h2:(b::r).length=r.length+1:=rfl;omega
   rw[e,List.eraseIdx_cons_succ,ih]
   all_goals rfl
theorem a5d {α:Type}:∀(l:List α) (i:Nat),(l.eraseIdx i).length<=l.length
 | [],_=>b4z _
 | _::_,0=>b9U _
 | _::r,i+1=>Nat.succ_le_succ (a5d r i)
theorem a5e (its:List Value):∀(k:Nat) (acc:List Value),
  List.foldl (λx1 x2=>x1++x2) acc.toArray (List.replicate k its.toArray)=(acc++(List.replicate k its).flatten).toArray
 | 0,acc=>by simp
 | k+1,acc=>by
  have e:acc.toArray++its.toArray=(acc++its).toArray:=by simp
  have e2:(acc++its)++(List.replicate k its).flatten=acc++(List.replicate (k+1) its).flatten:=by
   rw[b6N,b7W,b5d]
  rw[<-e2,<-a5e its k (acc++its),<-e,b6N,List.foldl_cons]
section
variable {X:Cx} {pins:List (Addr × Obj)} {σ:St} {H:Hp} {s:Shared} {l b:Addr} {xs ys zs:List V}
theorem Inv.lset {its its':List Value} {n:Nat} {f:Array Value->Array Value} {t':Nat} (I:Inv X pins σ H s) (hH:H l=some (.lst xs))
  (e:s.heap.get? l=some { cls:=.type "list",data:=.seq its.toArray n }) (hf:f its.toArray=its'.toArray) (hv:a0C ys its') (hz:ys.length<=sizeLine) :
  Inv X pins σ (upd H l (.lst ys)) { s with heap:=s.heap.update l (Obj.mapSeq f),toks:=t' }:=by
 have q:=PySem.IsL.update e f;rw[hf] at q;refine I.write (x:=l) (e:=l) (by rw[hH];exact trivial) (.inl rfl) (λb' u hb hu=>(b7H s.heap (Obj.mapSeq f) (Ne.symm hb)).trans hu) ⟨_,q⟩ ?_;exact⟨hz,its',_,hv,q⟩
theorem Inv.lnew {its:List Value} {t':Nat} (I:Inv X pins σ H s) (hv:a0C ys its) (hz:ys.length<=sizeLine) :
  Inv X pins σ (upd H s.heap.objs.size (.lst ys)) { s with heap:=s.heap.push { cls:=.type "list",data:=.seq its.toArray },toks:=t' } :=
 I.laid (λ_ _ q=>b4o _ q) (b4z _) ⟨hz,its,0,hv,b4v _ rfl⟩
theorem Inv.fresh (I:Inv X pins σ H s):H s.heap.objs.size=none:=I.hok.fresh (b4z _)
theorem Inv.lstM (I:Inv X pins σ H s) (hH:H l=some (.lst xs)):xs.length<=sizeLine/\∃(its:List Value) (n:Nat),a0C xs its/\xs.length=its.length/\s.heap.get? l=some { cls:=.type "list",data:=.seq its.toArray n }:=by
 obtain⟨z,its,n,r,e⟩:=I.hok l _ hH;exact⟨z,its,n,r,r.length,e⟩
theorem a6E {n:Nat} (h:n<=sizeLine):Builtin.List.listTooLong n=false:=by
 unfold Builtin.List.listTooLong;exact b5s (by omega)
end
section
variable {X:Cx}
noncomputable def b2Q:V->List V->Hp->VK->Prop:=λx vs H Q=>∃l xs y,x=.ref l/\vs=[y]/\H l=some (.lst xs)/\xs.length<sizeLine/\Q .non (upd H l (.lst (xs++[y])))
theorem a0Z:MtM X "list.append" b2Q:=by
 intro pins s σ H x vs v us Q I rx rv h;obtain⟨l,xs,y,rfl,rfl,hH,hz,q⟩:=h;cases rx;obtain⟨u,rfl,ru⟩:=rv.one;obtain⟨z,its,n,r,hl,e⟩:=I.lstM hH;refine b9j F.slot_list_append ⟨_,e,rfl⟩ F.entry_list_append (F.args_list_append_2 _ _) (PySem.list_append l its.toArray n u (by rw[b4y];omega)) ⟨e,?_⟩;refine⟨.non,_,I.lset (its':=its++[u]) hH e (by simp) (r.append (.cons ru .nil)) ?_,rfl,q⟩;rw[b4A,List.length_singleton];omega
noncomputable def b2R:V->List V->Hp->VK->Prop:=λx vs H Q=>∃l b xs zs,x=.ref l/\vs=[.ref b]/\H l=some (.lst xs)/\H b=some (.lst zs)/\xs.length+zs.length<=sizeLine/\Q .non (upd H l (.lst (xs++zs)))
theorem a8M:MtM X "list.extend" b2R:=by
 intro pins s σ H x vs v us Q I rx rv h;obtain⟨l,b,xs,zs,rfl,rfl,hH,hB,hz,q⟩:=h;cases rx;obtain⟨u,rfl,ru⟩:=rv.one;cases ru;obtain⟨z,its,n,r,hl,e⟩:=I.lstM hH;obtain⟨z2,its2,n2,r2,hl2,e2⟩:=I.lstM hB;have hsz:its.toArray.size+its2.toArray.size<=sizeLine:=by rw[b4y,b4y];omega
 have hlong:¬(!its.toArray.isEmpty&&Builtin.List.listTooLong (its.toArray.size+its2.toArray.size))=true:=by
  rw[a6E hsz,Bool.and_false];exact b4R
 refine b9j F.slot_list_extend ⟨_,e,rfl⟩ F.entry_list_extend (F.args_list_extend_2 _ _)
  (AutoSeq1.list_extend_list_list_0 l its.toArray n b its2.toArray n2 hlong (by rw[b4y];omega) (by omega)) ⟨e,e2,?_⟩
 refine⟨.non,_,I.lset (its':=its++its2) hH e (by simp) (r.append r2) ?_,rfl,q⟩;rw[b4A];omega
noncomputable def rPop:V->List V->Hp->VK->Prop:=λx vs H Q=>∃l xs y,x=.ref l/\vs=[]/\H l=some (.lst xs)/\xs[xs.length-1]?=some y/\Q y (upd H l (.lst xs.dropLast))
theorem mt_pop:MtM X "list.pop" rPop:=by
 intro pins s σ H x vs v us Q I rx rv h;obtain⟨l,xs,y,rfl,rfl,hH,hy,q⟩:=h;cases rx;have hus:=rv.zero;subst hus;obtain⟨z,its,n,r,hl,e⟩:=I.lstM hH;obtain⟨u,hu,ru⟩:=r.get hy;have hy':its.toArray[its.toArray.size-1]?=some u:=by
  show its.toArray[its.length-1]?=some u;rw[<-b5f,<-hl];exact hu
 refine b9j F.slot_list_pop ⟨_,e,rfl⟩ F.entry_list_pop (F.args_list_pop_1 _) (MeetsSeq.list_pop_last l its.toArray n u hy' (by rw[b4y];omega)) ⟨e,?_⟩;refine⟨y,_,I.lset (its':=its.dropLast) hH e ?_ r.dropLast ?_,ru,q⟩
 ·show its.toArray.eraseIdxIfInBounds (its.toArray.size-1)=its.dropLast.toArray;rw[b4y,b8C,a7D]
 ·rw[List.length_dropLast];omega
noncomputable def rPopAt:V->List V->Hp->VK->Prop:=λx vs H Q=>∃l xs i k y,x=.ref l/\vs=[.int i]/\H l=some (.lst xs)/\-(2 ^ 63)<=i/\i<2 ^ 63/\seqIndex? i xs.length=some k/\xs[k]?=some y/\Q y (upd H l (.lst (xs.eraseIdx k)))
theorem b0L:MtM X "list.pop" rPopAt:=by
 intro pins s σ H x vs v us Q I rx rv h;obtain⟨l,xs,i,k,y,rfl,rfl,hH,h1,h2,hk,hy,q⟩:=h;cases rx;obtain⟨u,rfl,ru⟩:=rv.one;obtain⟨t,rfl⟩:=ru;obtain⟨z,its,n,r,hl,e⟩:=I.lstM hH;obtain⟨w,hw,rw'⟩:=r.get hy;refine b9j F.slot_list_pop ⟨_,e,rfl⟩ F.entry_list_pop (F.args_list_pop_2 _ _)
  (MeetsSeq.list_pop_at l its.toArray n i t k w (fitsIndex_both h1 h2) (by rw[b4y,<-hl];exact hk) (by rw[<-b5f];exact hw) (by rw[b4y];omega)) ⟨e,?_⟩
 refine⟨y,_,I.lset (its':=its.eraseIdx k) hH e ?_ (r.eraseIdx k) ?_,rw',q⟩
 ·show its.toArray.eraseIdxIfInBounds k=(its.eraseIdx k).toArray;rw[b8C]
 ·have:=a5d xs k;omega
noncomputable def rCat:R2:=λx y H Q=>∃l b xs zs,x=.ref l/\y=.ref b/\H l=some (.lst xs)/\H b=some (.lst zs)/\xs.length+zs.length<=sizeLine/\∀p,H p=none->Q (.ref p) (upd H p (.lst (xs++zs)))
theorem a8N:OpR X (binaryOp .Add) rCat:=by
 intro pins s σ H x y v u Q I rx ry h;obtain⟨l,b,xs,zs,rfl,rfl,hH,hB,hz,q⟩:=h;cases rx;cases ry;obtain⟨z,its,n,r,hl,e⟩:=I.lstM hH;obtain⟨z2,its2,n2,r2,hl2,e2⟩:=I.lstM hB;refine PySem.P.add_list e e2 ?_ (by rw[b4y,b4y];omega);have ea:its.toArray++its2.toArray=(its++its2).toArray:=by simp
 rw[ea];exact⟨.ref _,_,I.lnew (t':=s.toks) (r.append r2) (by rw[b4A];omega),rfl,q _ I.fresh⟩
noncomputable def rRep:R2:=λx y H Q=>∃l k xs,x=.ref l/\y=.int k/\H l=some (.lst xs)/\-(2 ^ 63)<=k/\k<2 ^ 63/\xs.length*k.toNat<=sizeLine /\
 ∀p,H p=none->Q (.ref p) (upd H p (.lst (List.replicate k.toNat xs).flatten))
theorem a8O {α:Type} (xs:List α) (k:Nat):(List.replicate k xs).flatten.length=k*xs.length:=by
 induction k with
 | zero=>simp
 | succ k ih=>rw[b6N,b7W,b4A,ih,Nat.succ_mul,Nat.add_comm]
theorem b1Z:OpR X (binaryOp .Mult) rRep:=by
 intro pins s σ H x y v u Q I rx ry h;obtain⟨l,k,xs,rfl,rfl,hH,h1,h2,hz,q⟩:=h;cases rx;obtain⟨t,rfl⟩:=ry;obtain⟨z,its,n,r,hl,e⟩:=I.lstM hH;have hlen:its.toArray.size*k.toNat<=sizeLine:=by rw[b4y,<-hl];exact hz
 have hcap:¬its.toArray.size*k.toNat>(2 ^ 63-1) / 8:=by
  have:(sizeLine:Nat)<=(2 ^ 63-1) / 8:=by decide
  omega
 have hfit:¬(!Builtin.List.listFitsIndex k)=true:=by
  rw[fitsIndex_both h1 h2];exact b4R
 have hlong:¬Builtin.List.listTooLong (its.toArray.size*k.toNat)=true:=by
  rw[a6E hlen];exact b4R
 have hnew:List.foldl (λx1 x2=>x1++x2) #[] (List.replicate (if its.toArray.isEmpty=true then 0 else k.toNat) its.toArray)=(List.replicate k.toNat its).flatten.toArray:=by
  have f0:∀m:Nat,List.foldl (λx1 x2=>x1++x2) #[] (List.replicate m its.toArray)=(List.replicate m its).flatten.toArray:=λm=>by
   have:=a5e its m [];rw[List.nil_append] at this;exact this
  rw[f0];cases its with
  | nil=>simp
  | cons a r'=>rw[if_neg (by simp)]
 refine wpAny_binaryOp_repeat_ref (T:="list") (U:="int") (by decide) ⟨_,e,rfl⟩ (λs'=>typeIs_int s' k t) noFill_list_mul F.fills_int_mul F.slot_int_rmul repeat_list F.slot_int_index.lookup
  (b9j F.slot_int_rmul (typeIs_int s k t) F.entry_int_rmul (F.args_int_rmul_2 _ _) (int___rmul___int_list k t l its.toArray n)
   ⟨e,rfl,⟨_,e,rfl⟩,b9j F.slot_list_mul ⟨_,e,rfl⟩ F.entry_list_mul (F.args_list_mul_2 _ _) (AutoListH.list___mul___list_int_3 l its.toArray n k t hfit hcap hlong) ⟨e,?_⟩⟩)
 rw[hnew];exact⟨.ref _,_,I.lnew (t':=s.toks) (r.rep k.toNat) (by rw[a8O,Nat.mul_comm];exact hz),rfl,q _ I.fresh⟩
end
section
variable {prog:Program} {w:World} {A:Around} {E:Value->Shared->Prop} {s:Shared}
end
section
variable {X:Cx}
end
end L2
namespace Att
open PySem PySem.W PySem.Calls PyProof.Rows
theorem a3e {P:Params} {h:Heap}:∀(ns:List Int) (vs:List Value),WellAll P h vs (ns.map WData.int)->IntsAre vs ns:=by
 intro ns
 induction ns with
 | nil =>
  intro vs w;rw[List.map_nil] at w;cases w;exact .nil
 | cons n ns ih =>
  intro vs w;rw[b5J] at w;cases w with
  | cons a b =>
   cases a;exact .cons _ _ (ih _ b)
theorem a8P {l:OpenLaw} {n:Nat} (hn:l.most=some n) {P:Params} {h:Heap} {args:List WData} {vals:List Value}
  (hpre:l.row.toRowW.claim.pre args=true) (hwl:WellAll P h vals args) :
  ∃a vs ns,vals=[Value.ref a]/\args=[WData.list (ns.map WData.int)]/\h.get? a=some { cls:=.type "list",data:=.seq vs.toArray }/\IntsAre vs ns/\ns.length<=n:=by
 have hsh:WShape.hasAll [] args [.list .int]=true:=(pre_splitW hpre).1;have hc:l.pre.holds [] { args:=args }=true:=(pre_splitW hpre).2;obtain⟨d,r,rfl,h1,h2⟩:=hasAllW_cons hsh;obtain rfl:=hasAllW_nil h2;obtain⟨xs,rfl,h3⟩:=hasW_list h1;obtain⟨ns,rfl⟩:=items_int h3;have hlen:ns.length<=n:=by
  unfold OpenLaw.pre at hc;have h4:(WTm.not (.lt (.lit (.int (n:Int))) (.len (.arg 0)))).holds [] { args:=[.list (ns.map .int)] }=true:=by
   have h4:=(holds_andW hc).1;rw[hn] at h4;exact h4
  have h5:=condW_of h4 (w_not (w_lt w_lit (w_len_list (w_arg rfl))));rw[b4p] at h5;refine Nat.le_of_not_lt λq=>?_;have q':(n:Int)<((ns.length:Nat):Int):=by omega
  first
   | (rw[b4W q'] at h5;exact absurd h5 (by decide))
   | (simp at h5;omega)
 cases hwl with
 | cons w1 w2 =>
  cases w2;cases w1 with
  | list ho hall=>exact⟨_,_,ns,rfl,rfl,ho,a3e ns _ hall,hlen⟩
theorem a8Q (l:OpenLaw) (args:List WData):l.row.toRowW.claim.post args (.bool true) args=true :=
 postW_of (r:=l.row.toRowW) (X:=(true==true))
  (show WShape.has [] (.bool true) .bool=true by first|rfl|decide|simp[WShape.has,WShape.arms,WShape.armsAll])
  (show(WTm.eq .res (.lit (.bool true))).value [] { args:=args,res:=some (.bool true),after:=args }=some (.bool (true==true)) from w_eq_bool (w_res rfl) w_lit) rfl
theorem a5M {l:OpenLaw} {n:Nat} {q:Program} {loose:List Str} {XP:(Str->Option Value)->Heap->Prop} {YP:World->Heap->Prop} {d:DefRec}
  (hn:l.most=some n) (hdf:d.params.defaults=[])
  (call:∀(w:World) (s₀ s₁:Shared) (mg mb:Str->Option Value) (fa:Addr) (o:Obj) (pm cd doc:Value) (a:Addr) (vs:List Value) (ns:List Int),
   Ground q loose [] XP w s₀ mg mb s₁.heap->YP w s₁.heap ->
   s₁.heap.get? fa=some o->o.data=.func (docDef d.name d.params d.body d.scope pm cd doc)->s₁.heap.CodeRec cd d.name->mg d.name=some (.ref fa) ->
   s₁.heap.get? a=some { cls:=.type "list",data:=.seq vs.toArray }->IntsAre vs ns->ns.length<=n->s₁.gens=#[] ->
   codeAny (model l.prog w) callerA (.call (.ref fa) ⟨[.ref a],[]⟩) (λr s'=>r=.ok (.ret (.bool true))/\OldK s₁.heap s'.heap/\s'.os=s₁.os/\AllBare s'.gens) s₁) :
  WalkO q loose XP YP l.row.toRowW d [] (λf vs=>PySem.call f vs):=by
 intro w s₀ s₁ mg mb G Y fa o pm cd doc dV kV ho hd hcd hD hmg hg args vals as hpre hlay hrd hwl hlo;obtain rfl:dV=.none:=Dflts.none hD hdf;obtain rfl:kV=.none:=Dflts.noKw hD;obtain⟨a,vs,ns,rfl,rfl,hobj,hints,hlen⟩:=a8P hn hpre hwl;refine enter_call (b6T (call w s₀ s₁ mg mb fa o pm cd doc a vs ns G Y ho (fd_plain hd) hcd hmg hobj hints hlen hg) λr s' hq=>?_);obtain⟨rfl,h2,h3,h4⟩:=hq;exact⟨.inl ⟨.bool true,.bool true,[],rfl,λ_=>rfl,.bool true,a8Q l _,λ_=>⟨List.Pairwise.nil,λ_ hm=>(nomatch hm)⟩⟩,h2,h3,h4⟩
section
variable {prog:Program} {w:World} {A:Around} {E:Value->Shared->Prop} {s:Shared} {K:Frag}
noncomputable def ledger (h:Heap) (L d:Addr):List (Addr × Obj):=(List.range h.objs.size).filterMap λa=>if a=L\/a=d then none else (h.get? a).map λo=>(a,o)
end
end Att
namespace L2
open PySem PySem.Spec PyProof.Rows
theorem a5f:∀{vs:List Value} {ns:List Int},IntsAre vs ns->a0C (ns.map V.int) vs
 | _,_,.nil=>.nil
 | _,_,.cons n t h=>.cons ⟨t,rfl⟩ (a5f h)
noncomputable def Only (H:Hp):Prop:=∀b,H b=none\/∃o xs,H b=some (.frz o (.lst xs))
abbrev KOf {K:PySem.W.Frag} {h:Heap} (_:K.In h):PySem.W.Frag:=K
noncomputable def inClass (s:Stmt) (j:Nat):Stmt:=match s with
 | .ClassDef _ _ _ body _ _ _ _ _ _ _=>body.getD j (.Pass ⟨0,0,0,0⟩)
 | _=>.Pass ⟨0,0,0,0⟩
noncomputable def a0X (s:Stmt):Arguments:=match s with
 | .FunctionDef _ a _ _ _ _ _ _ _ _=>a
 | _=>{ posonlyargs:=[],args:=[],vararg:=none,kwonlyargs:=[],kw_defaults:=[],kwarg:=none,defaults:=[] }
noncomputable def a0O (s:Stmt):List Stmt:=match s with
 | .FunctionDef _ _ b _ _ _ _ _ _ _=>b
 | _=>[]
noncomputable def a0f (s:Stmt):Scope:=match s with
 | .FunctionDef _ _ _ _ _ _ sc _ _ _=>sc
 | _=>{ kind:=.function,names:=[],isGenerator:=false,isCoroutine:=false }
abbrev CX0:CXT:=λ_ _ _ _ _ _=>False
abbrev E0:XK:=λ_ _ _=>False
theorem a0G {X:Cx}:a8J CX0 X E0:=λ_ _ _ _ _ _ _ h=>h.elim
structure Fun (K:PySem.W.Frag) (x qual:Str) (st:Stmt) (f:Addr) (fd:FuncData):Prop where
 ex:∃(oc:Value) (od:Option Addr) (kV doc pm:Value) (an:Option Addr) (cdv ct:Value) (osl:Array (Option Value)),
  fd=PySem.W.fnOf x qual (a0X st) (a0O st) (a0f st) .none kV doc pm an cdv ct/\K.lookup f=some ⟨oc,od,.func fd,osl⟩/\PySem.W.codeIn K cdv qual=true
 kp:PySem.W.keepIn K (.ref f)=true
section
variable {P:Program} {w:World} {K:PySem.W.Frag} {mg:Str->Option Value} {base:Heap}
theorem Fun.ok {x qual:Str} {st:Stmt} {f:Addr} {fd:FuncData} {N ps:List Str} {k:Nat} {sp:Sp} (F:Fun K x qual st f fd) (S:a0t N ps (a0f st)) (len:∀vs H Q E,sp vs H Q E->vs.length=ps.length)
  (hbody:∀(cdv:Value) (A:Around) (outer:List Env) (s:Shared) (H:Hp) (vs:List V) (Q:VK) (E:XK),a2h k (A.deeper (envOfC qual (a0f st) s.heap.objs.size f cdv))->sp vs H Q E ->
   ∃t,PSs (a5G CX0 P w K mg base N qual (a0f st) f cdv A outer s H E).nox (a0O st) t/\t { nx:=λ_ H'=>Q .non H',rt:=Q } (start N vs) H):a1x P w K mg base CX0 (k+1) f fd ps sp:=by
 obtain⟨oc,od,kV,doc,pm,an,cdv,ct,osl,rfl,lk,hcd⟩:=F.ex;refine fn_of lk hcd S len λA outer s H vs Q E hr hsp=>?_;obtain⟨t,h,q⟩:=hbody cdv A outer s H vs Q E hr hsp;exact⟨t,h.nox,q⟩
theorem Fun.binds {x qual:Str} {st:Stmt} {f:Addr} {fd:FuncData} {ps:List Str} (F:Fun K x qual st f fd)
  (h:∀(kV doc pm:Value) (an:Option Addr) (cdv ct:Value) (us:List Value),us.length=ps.length->bindArgs (PySem.W.fnOf x qual (a0X st) (a0O st) (a0f st) .none kV doc pm an cdv ct) ⟨us,[]⟩=pure (ps.zip us)):a5J K fd ps []:=by
 obtain⟨oc,od,kV,doc,pm,an,cdv,ct,osl,rfl,lk,hcd⟩:=F.ex;exact .all (h kV doc pm an cdv ct)
theorem a8R {x qual:Str} {st:Stmt} {f:Addr} {oc:Value} {od an:Option Addr} {osl:Array (Option Value)} {kV doc pm cdv ct:Value} (l:K.lookup f=some ⟨oc,od,.func (PySem.W.fnOf x qual (a0X st) (a0O st) (a0f st) .none kV doc pm an cdv ct),osl⟩)
  (c:PySem.W.codeIn K cdv qual=true) (k:PySem.W.keepIn K (.ref f)=true):Fun K x qual st f (PySem.W.fnOf x qual (a0X st) (a0O st) (a0f st) .none kV doc pm an cdv ct):=⟨⟨oc,od,kV,doc,pm,an,cdv,ct,osl,rfl,l,c⟩,k⟩
end
theorem a0l {n:Nat} (h:n<=1000):n<sizeLine:=b7K h (by decide)
section
variable {X:Cx}
theorem pv (i:Nat) {x:Str} {pos:Pos} (hN:X.N[i]?=some x:=by rfl) (hv:Vis X.env.scope x:=by first|exact Or.inl rfl|exact Or.inr (Or.inl rfl)|exact Or.inr (Or.inr rfl)) (hd:(x==("__debug__":Str))=false:=by decide)
  (hcd:(x==("__classdict__":Str))=false:=by decide):PE X (.Name x pos) (tVar i):=pe_var hN hv hd hcd
end
theorem a3P {A B:Prop} (h:B):if false=true then A else B:=by
 rw[if_neg b4R];exact h
theorem iteT {A B:Prop} (h:A):if true=true then A else B:=by
 rw[if_pos rfl];exact h
theorem a2I {c A B:Prop} [Decidable c] (h1:c->A) (h2:¬c->B):if c then A else B:=by
 by_cases h:c
 ·rw[if_pos h];exact h1 h
 ·rw[if_neg h];exact h2 h
noncomputable def a0r (H H':Hp):Prop:=∀b o,H b=some o->H' b=some o
theorem a0r.refl (H:Hp):a0r H H:=λ_ _ h=>h
theorem a0r.trans {H H1 H2:Hp} (a:a0r H H1) (b:a0r H1 H2):a0r H H2:=λc o h=>b c o (a c o h)
theorem a0r.free {H H':Hp} (e:a0r H H') {l:Addr} (h:H' l=Option.none):H l=Option.none:=by
 cases q:H l with
 | none=>rfl
 | some o =>
  rw[e l o q] at h;cases h
theorem a0r.seq {K:PySem.W.Frag} {H H':Hp} {a:Addr} {xs:List V} (e:a0r H H') (h:SqL K H a xs):SqL K H' a xs:=by
 rcases h with (h|⟨o,h⟩)|h
 ·exact .inl (.inl (e _ _ h))
 ·exact .inl (.inr ⟨o,e _ _ h⟩)
 ·exact .inr h
section
variable {prog:Program} {w:World} {A:Around} {R:Result->Shared->Prop} {s:Shared}
abbrev a8S (cs:List Expr) (en:Env):Sem Bool :=
 forIn cs true λc r=>if r=true then do let ok <-isTrue c en (eval c en);pure (ForInStep.yield ok) else pure (ForInStep.yield r)
theorem a7E {elt tg iter:Expr} {cs:List Expr} {scope:Scope} {pos:Pos} {it acc:Value} {en:Env} {EE:Value->Shared->Prop} (hE:EE=notedBy (model prog w) A en λe s'=>R (.error e) s') (J:Nat->Shared->Prop)
  (turn:∀n s,J n s->wpAny (model prog w) A (pyNext it) (λr s1=>match r with
   | none=>R (.ok .next) s1
   | some v=>wpAny (model prog w) A (letOwnedTupleGo tg it v) (λ_ sg=>wpAny (model prog w) A (assign tg en v) (λ_ s2=>wpAny (model prog w) A (a8S cs en) (λok s3 =>
     if ok=true then wpAny (model prog w) A (eval elt en) (λy s4=>wpAny (model prog w) A (call (.builtin "list.append") [acc,y]) (λ_ s5=>∃m,m<n/\J m s5) EE s4) EE s3
     else ∃m,m<n/\J m s3) EE s2) EE sg) EE s1) EE s)
  (n:Nat) (h:J n s):codeAny (model prog w) A (.compLoop (.ListComp elt [⟨tg,iter,cs,0⟩] scope pos) 0 it acc en) R s:=by
 subst hE;refine codeAny_loop rfl J (λn s hJ=>?_) n h;show wpAny _ A (Sem.onRaise (compTurn (.ListComp elt [⟨tg,iter,cs,0⟩] scope pos) 0 it acc en) (λx=>do noteFrame x en;theTreesLotGoes x)) _ _ s;refine wpAny_noted ?_;rw[compTurn_list];refine b4n (b9T (b4n (thn (turn n s hJ) λr s1 q1=>?_)));cases r with
 | none=>exact b4r q1
 | some v =>
  refine b4n (thn q1 λ_ sg qg=>b4n (thn qg λ_ s2 q2=>b4n (thn q2 λok s3 q3=>?_)));cases ok with
  | false=>exact b4r ⟨rfl,q3⟩
  | true=>exact b4n (b4n (thn q3 λy s4 q4=>b4n (thn q4 λ_ s5 q5=>b4r (b4r ⟨rfl,q5⟩))))
end
noncomputable def PTs (X:Cx) (cs:List Expr) (t:TT):Prop :=
 ∀(pins:List (Addr × Obj)) (s:Shared) (σ:St) (H:Hp) (Q:Bool->Hp->Prop),Inv X pins σ H s->t σ H Q->wpAny (model X.prog X.w) X.A (a8S cs X.env) (TP X pins σ Q) X.xe s
noncomputable def a8T:TT:=λ_ H Q=>Q true H
theorem a0R {X:Cx}:PTs X [] a8T:=λ_ _ _ H _ I h=>wpAny_tests_nil ⟨H,I,h⟩
theorem a1P {en:Env}:∀(names:List (Str × NameKind)) (acc:List (Str × Addr)),(∀y,(y,NameKind.free)∈names->∃c,en.cells.lookup y=some c) ->
  (∀y c,acc.lookup y=some c->en.cells.lookup y=some c) ->
  ∃cl,(forIn (m:=Sem) names acc λp cs=>if (p.2==.free)=true then (do let a <-cellOf en p.1;pure (ForInStep.yield ((p.1,a)::cs))) else pure (ForInStep.yield cs))=pure cl /\
   (∀y c,cl.lookup y=some c->en.cells.lookup y=some c)/\(∀y,((y,NameKind.free)∈names\/∃c,acc.lookup y=some c)->∃c,cl.lookup y=some c)
 | [],acc,_,h2=>⟨acc,rfl,h2,λy h=>h.elim (λz=>by simp at z) id⟩
 | (n,k)::r,acc,h1,h2=>by
  by_cases hk:k=.free
  ·subst hk;obtain⟨c,hc⟩:=h1 n (by simp);obtain⟨cl,e,a,b⟩:=a1P r ((n,c)::acc) (λy hy=>h1 y (b6J _ hy)) (λy d hd=>by
    rw[b6o] at hd;by_cases hy:y=n
    ·subst hy;simp at hd;subst hd;exact hc
    ·have:(y==n)=false:=by simpa using hy
     rw[this] at hd;exact h2 y d hd)
   refine⟨cl,?_,a,λy hy=>b y ?_⟩
   ·rw[b6G];have e1:cellOf en n=pure c:=by unfold cellOf;rw[hc]
    simp only[b9Z,if_true,e1,pure_bind];exact e
   ·rcases hy with hy|⟨d,hd⟩
    ·rcases b4K.mp hy with z|z
     ·cases z;exact .inr ⟨c,by simp⟩
     ·exact .inl z
    ·by_cases hy:y=n
     ·subst hy;exact .inr ⟨c,by simp⟩
     ·have:(y==n)=false:=by simpa using hy
      exact .inr ⟨d,by rw[b6o,this];exact hd⟩
  ·have hb:(k==NameKind.free)=false:=by simpa using hk
   obtain⟨cl,e,a,b⟩:=a1P r acc (λy hy=>h1 y (b6J _ hy)) h2;refine⟨cl,?_,a,λy hy=>b y ?_⟩
   ·rw[b6G];simp only[hb,b5b,b6B,pure_bind];exact e
   ·rcases hy with hy|hy
    ·rcases b4K.mp hy with z|z
     ·cases z;exact absurd rfl hk
     ·exact .inl z
    ·exact .inr hy
theorem a7F {scope:Scope} {en:Env} (h1:∀y,(y,NameKind.free)∈scope.names->∃c,en.cells.lookup y=some c) :
  ∃cl,closureFor scope en=pure cl/\(∀y c,cl.lookup y=some c->en.cells.lookup y=some c)/\(∀y,(y,NameKind.free)∈scope.names->∃c,cl.lookup y=some c):=by
 obtain⟨cl,e,a,b⟩:=a1P (en:=en) scope.names [] h1 (λy c h=>by simp at h);refine⟨cl,?_,a,λy hy=>b y (.inl hy)⟩;have q:=b6W (λt:Sem (List (Str × Addr))=>t >>= λc=>pure c) e;exact q
noncomputable def xeC (X:Cx) (en:Env) (C:Addr):Value->Shared->Prop :=
 notedBy (model X.prog X.w) X.A en λe s'=>compPost (model X.prog X.w) X.A X.xe none (λ_ _=>False) Value.none C (.error e) s'
noncomputable def cxC (X:Cx) (scope:Scope) (cl:List (Str × Addr)) (C:Addr) (s0:Shared) (H0:Hp) (fp:List Addr) (N:List Str):Cx where
 prog:=X.prog
 w:=X.w
 K:=X.K
 mg:=X.mg
 base:=X.base
 A:=X.A
 N:=N
 s₀:=s0
 H₀:=H0
 env:=compEnvC scope cl C X.env
 outer:=X.stack
 stack:=X.stack
 ex:=fp
 fn:=λ_=>false
 calm:=X.calm
 pn:=[]
 xe:=xeC X (compEnvC scope cl C X.env) C
structure a0k (scope:Scope) (en:Env) (N M:List Str):Prop where
 kind:scope.kind=.function
 nocell:∀y∈scope.names,y.2≠.cell
 locs:∀y∈scope.names,y.2=.local->scope.names.lookup y.1=some .local
 free:∀y,(y,NameKind.free)∈scope.names->en.kindOf y=some .cell\/en.kindOf y=some .free
 len:M.length=N.length
 same:∀(j:Nat) (y:Str),M[j]?=some y->Vis (relabel scope en) y->N[j]?=some y/\(y,NameKind.free)∈scope.names/\(relabel scope en).names.lookup y≠some .local
 relab:∀y,((relabel scope en).names.lookup y=some .cell\/(relabel scope en).names.lookup y=some .free)->(y,NameKind.free)∈scope.names
noncomputable def a7G (k:Nat) (wi:TI) (g:TG) (tc:TT) (te:TE):TE:=λσ H Q=>wi σ H λJ H1=>∀d,H1 d=none->∃W:Nat->Nat->Hp->Prop,(∃m,W 0 m (upd H1 d (.lst [])))/\∀i m H,W i m H ->
 (J.stop i H/\Q (.ref d) H)\/(J.go i H/\∃N:Hp->Prop,(∀H',N H'->∃m',m'<m/\W (i+1) m' H')/\∀x H',J.yld i H x H'->g x (List.replicate k none++σ) H' λσ2 H2 =>
  tc σ2 H2 λb H3=>if b=true then te σ2 H3 λy H4=>∃ys,H4 d=some (.lst ys)/\ys.length<sizeLine/\N (upd H4 d (.lst (ys++[y]))) else N H3)
structure Gone (X:Cx) (pins:List (Addr × Obj)) (H:Hp) (C:Addr):Prop where
 no:H C=none
 ne:C≠X.env.locals
 yg:X.s₀.heap.objs.size<=C
 cl:∀x c,X.env.cells.lookup x=some c->c≠C
 pn:∀p∈X.pn++pins,p.1≠C
theorem Inv.gone {X:Cx} {pins:List (Addr × Obj)} {σ:St} {H:Hp} {s:Shared} {C:Addr} {h':Heap} (I:Inv X pins σ H s) (g:Gone X pins H C) (hs:Heap.SameBut C s.heap h'):Inv X pins σ H { s with heap:=h' } :=
 I.turned (t':=s.toks) (it:=C) (λb o hb e=>hs.extBut b o hb e) g.no g.ne (.inr g.yg) g.cl g.pn
structure b4j (X Y:Cx) (pins:List (Addr × Obj)) (σ:St) (fp:List Addr) (C:Addr) (s3:Shared) (H3:Hp):Prop where
 i0:Inv X pins σ H3 s3
 fp:∀b∈fp,(b∈X.ex\/X.s₀.heap.objs.size<=b)/\b≠X.env.locals/\(∀x c,X.env.cells.lookup x=some c->c≠b)/\∀p∈X.pn++pins,p.1≠b
 inv:∀(pins':List (Addr × Obj)) (σ':St) (H':Hp) (s':Shared),Inv Y pins' σ' H' s'->Inv X pins σ H' s'/\Gone X pins H' C
theorem a4e {X:Cx} {elt tg iter:Expr} {cs:List Expr} {scope:Scope} {pos:Pos} {wi:TI} {g:TG} {tc:TT} {te:TE} {xs M:List Str} {use:Option (Value->Sem Unit)} {RR:Value->Shared->Prop} (hc:X.calm=true) (S:a0k scope X.env X.N M) (hi:PI X tg iter wi)
  (hin:∀(cl:List (Str × Addr)) (C:Addr) (s0:Shared) (H0:Hp) (fp:List Addr) (pins:List (Addr × Obj)) (σ:St),b4j X (cxC X scope cl C s0 H0 fp (xs++M)) pins σ fp C s0 H0->PG (cxC X scope cl C s0 H0 fp (xs++M)) tg g/\PTs (cxC X scope cl C s0 H0 fp (xs++M)) cs tc/\PE (cxC X scope cl C s0 H0 fp (xs++M)) elt te)
  (hg:∀v σ H Q,g v (List.replicate xs.length none++σ) H Q->g v (List.replicate xs.length none++σ) H λσ2 H2=>(∃l:St,l.length=xs.length/\σ2=l++σ)/\Q σ2 H2)
  (hs:∀x,foldedSetIterable iter X.env x=pure x) (pins:List (Addr × Obj)) (s:Shared) (σ:St) (H:Hp) (Q:VK) (I:Inv X pins σ H s) (h:a7G xs.length wi g tc te σ H Q)
  (fin:∀(d C:Addr) (s6:Shared) (H6:Hp) (m:Str->Option Value),Q (.ref d) H6->Inv X pins σ H6 s6->s6.heap.Ns C m->Gone X pins H6 C->compPost (model X.prog X.w) X.A X.xe use RR (.ref d) C (.ok .next) s6) :
  wpAny (model X.prog X.w) X.A (comprehension (.ListComp elt [⟨tg,iter,cs,0⟩] scope pos) scope X.env (firstIterPos [⟨tg,iter,cs,0⟩] pos) (newList []) false (eval iter X.env) use) RR X.xe s:=by
 obtain⟨cl,hcl,cl1,cl2⟩:=a7F (scope:=scope) (en:=X.env) λy hy=>I.ok.has y (S.free y hy);refine wpAny_comprehension_free (use:=use) rfl hs hcl S.kind S.locs (thn (hi pins s σ H _ I h) λv s1 h1=>thn h1 λitv s2 h2=>?_);obtain⟨it,fp,tn,J,H2,e,I2,T,st2,f2,h3⟩:=h2;subst e;have hf:H2 s2.heap.objs.size=none:=I2.fresh;obtain⟨W,⟨m0,w0⟩,turn⟩:=h3 _ hf;refine b5o (wpAny_newFunctionEnv S.nocell (by intro y hy;simp at hy) (λh4 hns hsb=>?_) S.kind);have I3:Inv X pins σ (upd H2 s2.heap.objs.size (.lst [])) { s2 with heap:=s2.heap.push { cls:=.type "list",data:=.seq ([]:List Value).toArray } }:=I2.lnew (ys:=[]) (its:=[]) (t':=s2.toks) .nil (b5j _);generalize hs3:({ s2 with heap:=s2.heap.push { cls:=.type "list",data:=.seq ([]:List Value).toArray } }:Shared)=s3 at I3;generalize hH3:upd H2 s2.heap.objs.size (.lst [])=H3 at I3 w0;have e3:s2.heap.push { cls:=.type "list",dict:=none,data:=.seq ([]:List Value).toArray }=s3.heap:=by rw[<-hs3]
 dsimp only at hns hsb ⊢;rw[e3] at hns hsb;have old:∀b o,s3.heap.get? b=some o->h4.get? b=some o:=λb o e=>hsb.extBut b o (b4H (b4w e)) (b4o _ e);have keep2:∀b o,s2.heap.get? b=some o->s3.heap.get? b=some o:=λb o e=>by rw[<-e3];exact b4o _ e
 have lt3:∀b∈fp,b<s3.heap.objs.size:=λb hb=>by
  obtain⟨o,e,_⟩:=T.obj _ _ st2 b hb;exact b4w (keep2 b o e)
 have n3:∀b∈fp,H3 b=none:=λb hb=>by
  obtain⟨o,e,_⟩:=T.obj _ _ st2 b hb;rw[<-hH3,a0m (b4H (b4w e))];exact(f2 b hb).1
 have st4:tn 0 h4:=T.keep _ _ _ st2 λb _ o e=>old b o (keep2 b o e)
 let Y:Cx:=cxC X scope cl s3.heap.objs.size s3 H3 fp (xs++M)
 have relab:∀y,((relabel scope X.env).names.lookup y=some .cell\/(relabel scope X.env).names.lookup y=some .free)->∃c,cl.lookup y=some c:=λy hy=>cl2 y (S.relab y hy);have Yok:Y.Ok:=by
  refine⟨I3.ok.mod,S.kind,I3.ok.glob,I3.ok.blt,b4z _,λy z c h1 h2=>I3.ok.inj y z c (cl1 y c h1) (cl1 z c h2),λy hy=>relab y hy,λ_ _ h _=>absurd (show false=true from h) (by decide),I3.ok.hd,I3.ok.frames,.inl rfl,
   λb hb=>⟨b4H (lt3 b hb),λy c e=>(f2 b hb).2.2.2.2.1 y c (cl1 y c e)⟩,I3.bs,b6u I3.ok.bsz I3.sz,λb o e hb=>?_,λb hb z=>?_,I3.stack,I3.stkFree⟩
  ·rcases(f2 b hb).2.2.2.1 with z|z
   ·exact I3.ok.noex b o e z
   ·exact absurd (b4O (b4w e) (b6u I3.ok.bsz z)) (b5G _)
  ·rcases b4K.mp (I3.stkSub b z) with z|z
   ·exact(f2 b hb).2.1 z
   ·exact(f2 b hb).2.2.1 z
 have cells4:∀y c,cl.lookup y=some c->∀v,s3.heap.IsCell c v->h4.IsCell c v:=λy c _ v ⟨o,ho,hd⟩=>⟨o,old c o ho,hd⟩
 have IY:∀t',Inv Y [] (List.replicate xs.length none++σ) H3 { s3 with heap:=h4,toks:=t' }:=λt'=>by
  refine⟨Yok,rfl,I3.bare,Un.kept old,⟨_,hns,λi y v e1 e2 e3=>?_⟩,λy c e=>?_,I3.hok.fresh (b4z _),λy c e=>I3.freeC y c (cl1 y c e),λp hp=>absurd (show p∈([]:List (Addr × Obj)) from hp) (by simp),I3.hok.kept old,?_⟩
  ·by_cases hi:i<xs.length
   ·rw[b5w (by simpa using hi),b8r] at e2;split at e2<;>cases e2
   ·obtain⟨j,rfl⟩:∃j,i=xs.length+j:=⟨i-xs.length,by omega⟩
    have e1':M[j]?=some y:=by
     have q:(xs++M)[xs.length+j]?=some y:=e1;rw[b4U (Nat.le_add_right _ _)] at q;simpa using q
    have e2':σ[j]?=some (some v):=by
     rw[b4U (by simp)] at e2;simpa using e2
    obtain⟨a1,a2,a3⟩:=S.same j y e1' e3;have vis:Vis X.env.scope y:=by
     rcases S.free y a2 with z|z
     ·exact .inr (.inl z)
     ·exact .inr (.inr z)
    obtain⟨m,_,hl⟩:=I3.loc;obtain⟨u,r,l⟩:=hl j y v a1 e2' vis;refine⟨u,r,?_⟩;have kk:Y.env.kindOf y=some .cell\/Y.env.kindOf y=some .free:=by
     rcases e3 with z|z|z
     ·exact absurd z a3
     ·exact .inl z
     ·exact .inr z
    rcases l with ⟨k1,_⟩|⟨_,c,ec,ic⟩
    ·rcases S.free y a2 with z|z
     ·rw[z] at k1;cases k1
     ·rw[z] at k1;cases k1
    ·obtain⟨c',ec'⟩:=cl2 y a2;have:=cl1 y c' ec';rw[ec] at this;cases this;exact .inr ⟨kk,c,ec',cells4 y c ec' _ ic⟩
  ·obtain⟨v,z⟩:=I3.cell y c (cl1 y c e);exact⟨v,cells4 y c e v z⟩
  ·show(List.replicate xs.length none++σ).length=(xs++M).length;rw[b4A,b4A,b8M,S.len,I3.len]
 have stat:∀{pl:List (Addr × Obj)} {H':Hp},(∀p∈pl,p.1∉fp)->(∀b∈fp,H' b=none)->∀b∈fp,a2w Y pl H' b:=λhp hn b hb =>
  ⟨hn b hb,b4H (lt3 b hb),Yok.exfs b hb,.inl hb,λy c e=>(f2 b hb).2.2.2.2.1 y c (cl1 y c e),λp hp' z=>hp p (by simpa [Y,cxC] using hp') (z▸hb)⟩
 have bk:b4j X Y pins σ fp s3.heap.objs.size s3 H3:=by
  refine⟨I3,λb hb=>⟨(f2 b hb).2.2.2.1,(f2 b hb).2.1,(f2 b hb).2.2.2.2.1,(f2 b hb).2.2.2.2.2⟩,λpins' σ' H' s' J=>⟨?_,?_⟩⟩
  ·exact I3.call' (ch:=fp) J.os J.base J.hok J.bare λb hb=>⟨(f2 b hb).2.2.2.1,(f2 b hb).2.1,(f2 b hb).2.2.2.2.1,(f2 b hb).2.2.2.2.2⟩
  ·refine⟨J.free,b5k I3.lt,I3.sz,λy c e z=>?_,λp hp z=>?_⟩
   ·obtain⟨v,q⟩:=I3.cell y c e;have:=q.lt;rw[z] at this;exact b5G _ this
   ·have:=b4w (I3.pin p hp).1;rw[z] at this;exact b5G _ this
 obtain⟨hG,hT,hE⟩:=hin cl s3.heap.objs.size s3 H3 fp pins σ bk;have loop:∀t',codeAny (model X.prog X.w) X.A (.compLoop (.ListComp elt [⟨tg,iter,cs,0⟩] scope pos) 0 (.ref it) (.ref s2.heap.objs.size) Y.env) (compPost (model X.prog X.w) X.A X.xe use RR (.ref s2.heap.objs.size) s3.heap.objs.size) { s3 with heap:=h4,toks:=t' }:=by
  intro t';refine a7E (EE:=Y.xe) (by cases use<;>rfl) (λn s'=>∃i H',Inv Y [] (List.replicate xs.length none++σ) H' s'/\tn i s'.heap/\(∀b∈fp,H' b=none)/\W i n H') ?_ m0 ⟨0,H3,IY t',st4,n3,w0⟩;rintro n s5 ⟨i,H5,I5,st5,fr5,w5⟩;rcases turn i n H5 w5 with ⟨stop,qn⟩|⟨go,N,hN,step⟩
  ·refine thn (T.done Y rfl rfl rfl hc i [] s5 (List.replicate xs.length none++σ) H5 _ I5 (stat (by simp) fr5) st5 stop) λr s6 ⟨hr,I6⟩=>?_;subst hr;obtain⟨m6,hn6,_⟩:=I6.loc;have I8:Inv X pins σ H5 s6:=I3.call' (ch:=fp) I6.os I6.base I6.hok I6.bare λb hb=>⟨(f2 b hb).2.2.2.1,(f2 b hb).2.1,(f2 b hb).2.2.2.2.1,(f2 b hb).2.2.2.2.2⟩
   have lt8:X.env.locals<s3.heap.objs.size:=I3.lt;refine fin _ _ s6 H5 m6 qn I8 hn6 ⟨I6.free,b5k lt8,I3.sz,λy c e z=>?_,λp hp z=>?_⟩
   ·obtain⟨v,q⟩:=I3.cell y c e;have:=q.lt;rw[z] at this;exact b5G _ this
   ·have:=b4w (I3.pin p hp).1;rw[z] at this;exact b5G _ this
  ·refine thn (T.item Y rfl rfl rfl hc i [] s5 (List.replicate xs.length none++σ) H5 _ I5 (stat (by simp) fr5) st5 go) λr s6 ⟨u,hr,h6⟩=>?_;subst hr;refine thn h6 λ_ s7 ⟨x7,H7,I7,r7,y7,st7,fr7⟩=>?_;have I7':=I7.pinned (stat (by simp) fr7) (T.obj _ _ st7);have again:∀{σ8:St} {H8:Hp} {s8:Shared},(∃l:St,l.length=xs.length/\σ8=l++σ)->Inv Y ([]++a4S fp s7.heap) σ8 H8 s8->N H8->∃m,m<n/\∃i H',Inv Y [] (List.replicate xs.length none++σ) H' s8/\tn i s8.heap/\(∀b∈fp,H' b=none)/\W i m H':=λ{σ8 H8 s8} l8 I8 n8=>by
    obtain⟨m',hm,w8⟩:=hN H8 n8;obtain⟨l,ll,rfl⟩:=l8;have pin8:∀b∈fp,∀o,s7.heap.get? b=some o->s8.heap.get? b=some o/\H8 b=none:=λb hb o e=>by
     have z:=I8.pin (b,o) (b4E _ (b4E _ (a0H hb e)));exact⟨z.1,z.2.1⟩
    refine⟨m',hm,i+1,H8,I8.unpinned.weak (by simp[ll]) (λj v e=>?_),T.keep _ _ _ st7 λb hb o e=>(pin8 b hb o e).1,λb hb=>?_,w8⟩
    ·by_cases hj:j<xs.length
     ·rw[b5w (by simpa using hj),b8r] at e;split at e<;>cases e
     ·rw[b4U (by simpa using hj)] at e;rw[b4U (by omega),ll];simpa using e
    ·obtain⟨o,e,_⟩:=T.obj _ _ st7 b hb;exact(pin8 b hb o e).2
   refine thn (hG _ s7 (List.replicate xs.length none++σ) H7 x7 u _ I7' r7 (hg _ _ _ _ (step x7 H7 y7))) λ_ s8 ⟨σ8,H8,I8,l8,q8⟩=>?_;refine thn (hT _ s8 σ8 H8 _ I8 q8) λok s9 ⟨H9,I9,q9⟩=>?_;cases ok with
   | false=>exact again l8 I9 q9
   | true =>
    refine thn (hE _ s9 σ8 H9 _ I9 q9) λy s10 ⟨y10,H10,I10,r10,ys,hd,hl,n10⟩=>?_;refine thn (a0Z _ s10 σ8 H10 (.ref s2.heap.objs.size) [y10] (.ref s2.heap.objs.size) [y] (λ_ H'=>N H') I10 rfl (.cons r10 .nil) ⟨_,ys,y10,rfl,rfl,hd,hl,n10⟩) λ_ s11 ⟨_,H11,I11,_,n11⟩=>?_;exact again l8 I11 n11
 refine codeAny_compStart_list (loop _) (T.self _ 0 _ _ _ st4 (loop _))
theorem b2S {X:Cx} {elt tg iter:Expr} {cs:List Expr} {scope:Scope} {pos:Pos} {wi:TI} {g:TG} {tc:TT} {te:TE} {xs M:List Str} (hc:X.calm=true) (S:a0k scope X.env X.N M) (hi:PI X tg iter wi)
  (hin:∀(cl:List (Str × Addr)) (C:Addr) (s0:Shared) (H0:Hp) (fp:List Addr),PG (cxC X scope cl C s0 H0 fp (xs++M)) tg g/\PTs (cxC X scope cl C s0 H0 fp (xs++M)) cs tc/\PE (cxC X scope cl C s0 H0 fp (xs++M)) elt te)
  (hg:∀v σ H Q,g v (List.replicate xs.length none++σ) H Q->g v (List.replicate xs.length none++σ) H λσ2 H2=>(∃l:St,l.length=xs.length/\σ2=l++σ)/\Q σ2 H2)
  (hs:∀x,foldedSetIterable iter X.env x=pure x:=by intro _;rfl):PE X (.ListComp elt [⟨tg,iter,cs,0⟩] scope pos) (a7G xs.length wi g tc te):=by
 intro pins s σ H Q I h;rw[eval_ListComp];exact a4e (use:=none) hc S hi (λcl C s0 H0 fp _ _ _=>hin cl C s0 H0 fp) hg hs pins s σ H Q I h λd C s6 H6 m q I6 hn gn=>⟨m,hn,λh' hs'=>⟨.ref d,H6,I6.gone gn hs',rfl,q⟩⟩
theorem b2T {X:Cx} {elt tg iter:Expr} {cs:List Expr} {scope:Scope} {pos pos' spos:Pos} {wi:TI} {g:TG} {tc:TT} {te:TE} {xs M:List Str} {i:Nat} {x:Str} (hc:X.calm=true) (S:a0k scope X.env X.N M) (hi:PI X tg iter wi)
  (hin:∀(cl:List (Str × Addr)) (C:Addr) (s0:Shared) (H0:Hp) (fp:List Addr),PG (cxC X scope cl C s0 H0 fp (xs++M)) tg g/\PTs (cxC X scope cl C s0 H0 fp (xs++M)) cs tc/\PE (cxC X scope cl C s0 H0 fp (xs++M)) elt te)
  (hg:∀v σ H Q,g v (List.replicate xs.length none++σ) H Q->g v (List.replicate xs.length none++σ) H λσ2 H2=>(∃l:St,l.length=xs.length/\σ2=l++σ)/\Q σ2 H2)
  (hN:X.N.Nodup) (hix:X.N[i]?=some x) (hx:X.env.scope.names.lookup x=some .local) (hw:swapsWith (.ListComp elt [⟨tg,iter,cs,0⟩] scope pos) (some (.Name x pos')) spos.line X.env=pure true)
  (hs:∀x,foldedSetIterable iter X.env x=pure x:=by intro _;rfl):PS X (.Assign [.Name x pos'] (.ListComp elt [⟨tg,iter,cs,0⟩] scope pos) spos) (tAsg (a7G xs.length wi g tc te) (a1Y i)):=by
 intro pins s σ H D I h;rw[exec_Assign_Name_used _ _ _ _ hw];refine b4n (b9T (b4n ?_));show wpAny _ X.A (comprehension (.ListComp elt [⟨tg,iter,cs,0⟩] scope pos) scope X.env _ (newList []) false (eval iter X.env) (some (assign (.Name x pos') X.env)) >>= λ_=>pure ()) _ _ s;refine b4n (thn (a4e (use:=some (assign (.Name x pos') X.env)) (RR:=λ_ s'=>SP X pins D .next s') hc S hi (λcl C s0 H0 fp _ _ _=>hin cl C s0 H0 fp) hg hs pins s σ H _ I h λd C s6 H6 m q I6 hn gn=>?_) λ_ s' hq=>b4r (b4r hq));show wpAny _ X.A (assign (.Name x pos') X.env (.ref d)) _ _ s6;refine wpAny_assign_Name (a4R I6 hN hix (.inl hx) (v:=.ref d) rfl (λs7 I7 ch=>?_) (.inr hx));obtain⟨a,hsb,ha⟩:=ch;have ne:C≠a:=by
  rcases ha with z|z
  ·rw[z];exact gn.ne
  ·exact λz'=>gn.cl x a z z'.symm
 exact⟨m,hn.sameBut hsb ne,λh' hs'=>⟨_,H6,I7.gone gn hs',q⟩⟩
theorem a4f {X:Cx} {elt tg iter:Expr} {cs:List Expr} {scope:Scope} {pos:Pos} {wi:TI} {g:TG} {tc:TT} {te:TE} {xs M:List Str} (hc:X.calm=true) (S:a0k scope X.env X.N M) (hi:PI X tg iter wi)
  (hin:∀(cl:List (Str × Addr)) (C:Addr) (s0:Shared) (H0:Hp) (fp:List Addr) (pins:List (Addr × Obj)) (σ:St),b4j X (cxC X scope cl C s0 H0 fp (xs++M)) pins σ fp C s0 H0->PG (cxC X scope cl C s0 H0 fp (xs++M)) tg g/\PTs (cxC X scope cl C s0 H0 fp (xs++M)) cs tc/\PE (cxC X scope cl C s0 H0 fp (xs++M)) elt te)
  (hg:∀v σ H Q,g v (List.replicate xs.length none++σ) H Q->g v (List.replicate xs.length none++σ) H λσ2 H2=>(∃l:St,l.length=xs.length/\σ2=l++σ)/\Q σ2 H2)
  (hs:∀x,foldedSetIterable iter X.env x=pure x:=by intro _;rfl):PE X (.ListComp elt [⟨tg,iter,cs,0⟩] scope pos) (a7G xs.length wi g tc te):=by
 intro pins s σ H Q I h;rw[eval_ListComp];exact a4e (use:=none) hc S hi hin hg hs pins s σ H Q I h λd C s6 H6 m q I6 hn gn=>⟨m,hn,λh' hs'=>⟨.ref d,H6,I6.gone gn hs',rfl,q⟩⟩
structure EqK {α:Type} [DecidableEq α] (H:Hp) (s:Shared) (n:Nat) (R:V->α->Prop):Prop where
 inj:∀x a b,R x a->R x b->a=b
 eq:∀(A:Around) (x y:V) (a b:α) (u v:Value),A.units+n<cLine->R x a->R y b->a0T x u->a0T y v->SeqAt.EqAt A s u v (decide (a=b))
noncomputable def a5g (x:V) (i:Int):Prop:=x=.int i
noncomputable def b0D {α:Type} (H:Hp) (R:V->α->Prop) (x:V) (ds:List α):Prop:=∃a xs,x=.ref a/\H a=some (.tup xs)/\Paired R xs ds
theorem b2a {α:Type} [DecidableEq α]:∀(as bs:List α) (e:Nat->Bool),(∀j x y,as[j]?=some x->bs[j]?=some y->e j=decide (x=y)) ->
  ((List.range (min as.length bs.length)).all e&&as.length==bs.length)=decide (as=bs):=by
 intro as bs e h;rw[b7N];simp only[b5X,b7B,b6Q,beq_iff_eq,b5Z];constructor
 ·rintro⟨h1,h2⟩;refine b9M λj=>?_;by_cases hj:j<as.length
  ·have e1:as[j]?=some as[j]:=b4q hj;have e2:bs[j]?=some (bs[j]'(by omega)):=b4q (by omega);have q:=h1 j (by omega);rw[h j _ _ e1 e2] at q;rw[e1,e2,b4Q q]
  ·rw[b7P (by omega),b7P (by omega)]
 ·rintro rfl;refine⟨λj hj=>?_,rfl⟩;have hj:j<as.length:=by omega
  have e1:as[j]?=some as[j]:=b4q hj;rw[h j _ _ e1 e1];simp
theorem Paired.right_of {α β:Type} {R:α->β->Prop}:∀{xs:List α} {ds:List β},Paired R xs ds->∀(j:Nat) (x:α),xs[j]?=some x->∃d,ds[j]?=some d/\R x d
 | _,_,.nil,j,x,e=>by simp at e
 | _,_,.cons r t,0,x,e=>by simp at e;subst e;exact⟨_,rfl,r⟩
 | _,_,.cons r t,j+1,x,e=>by
  obtain⟨d,e1,e2⟩:=Paired.right_of t j x (by simpa using e);exact⟨d,by simpa using e1,e2⟩
theorem Paired.ints:∀ns:List Int,Paired a5g (ns.map V.int) ns
 | []=>.nil
 | n::ns=>.cons rfl (Paired.ints ns)
theorem Paired.ofInts:∀{xs:List V} {ns:List Int},Paired a5g xs ns->xs=ns.map V.int
 | _,_,.nil=>rfl
 | _,_,.cons r t=>by rw[show _=_ from r,Paired.ofInts t];rfl
theorem a1Q {H:Hp} {a:Addr} {ns:List Int} (h:H a=some (.tup (ns.map V.int))):b0D H a5g (.ref a) ns:=⟨a,_,rfl,h,Paired.ints ns⟩
section
variable {α:Type} [DecidableEq α] {P:Program} {w:World} {H:Hp} {s:Shared} {n:Nat} {R:V->α->Prop} {A:Around}
theorem EqK.int:EqK H s n a5g:=⟨λx a b h1 h2=>by unfold a5g at *;rw[h1] at h2;cases h2;rfl,λA x y a b u v _ h1 h2 r1 r2=>by
 unfold a5g at *
 subst h1 h2;obtain⟨t,rfl⟩:=r1;obtain⟨t',rfl⟩:=r2;have q:=b9A (A:=A) (s:=s) a t b t';rw[Bool.beq_eq_decide_eq] at q;exact q⟩
theorem a6F (K:EqK H s n R) {xs ys:List V} {ds es:List α} {its its2:List Value} (p1:Paired R xs ds) (p2:Paired R ys es) (v1:a0C xs its) (v2:a0C ys its2) (hA:A.units+n<cLine) :
  ∃e:Nat->Bool,(∀j (h1:j<its.toArray.size) (h2:j<its2.toArray.size),SeqAt.EqAt A s its.toArray[j] its2.toArray[j] (e j))/\((List.range (min its.toArray.size its2.toArray.size)).all e&&its.toArray.size==its2.toArray.size)=decide (ds=es):=by
 have l1:its.toArray.size=ds.length:=by rw[b4y,<-v1.length];exact p1.length
 have l2:its2.toArray.size=es.length:=by rw[b4y,<-v2.length];exact p2.length
 refine⟨λj=>match ds[j]?,es[j]? with|some d,some e=>decide (d=e)|_,_=>true,λj h1 h2=>?_,?_⟩
 ·have hx:xs[j]?=some (xs[j]'(by rw[v1.length];simpa using h1)):=b4q _;have hy:ys[j]?=some (ys[j]'(by rw[v2.length];simpa using h2)):=b4q _;obtain⟨d,e1,r1⟩:=Paired.right_of p1 j _ hx;obtain⟨e,e2,r2⟩:=Paired.right_of p2 j _ hy;obtain⟨u,e3,r3⟩:=v1.get hx;obtain⟨v,e4,r4⟩:=v2.get hy;have q3:its.toArray[j]=u:=by
   have:=(b4u.mp e3).2;simpa using this
  have q4:its2.toArray[j]=v:=by
   have:=(b4u.mp e4).2;simpa using this
  simp only[e1,e2,q3,q4];exact K.eq A _ _ d e u v hA r1 r2 r3 r4
 ·rw[l1,l2];exact b2a ds es _ λj x y h1 h2=>by simp only[h1,h2]
theorem b2U (K:EqK H s n R) (ok:HOk P w H s.heap) {a b:Addr} {xs ys:List V} {ds es:List α} (ha:H a=some (.tup xs)) (hb:H b=some (.tup ys)) (p1:Paired R xs ds) (p2:Paired R ys es) (hA:A.units+(n+1)<cLine) :
  SeqAt.RcAt A s (.ref a) (.ref b) (decide (ds=es)):=by
 obtain⟨_,its,v1,t1⟩:=ok a _ ha;obtain⟨_,its2,v2,t2⟩:=ok b _ hb;obtain⟨e,h1,h2⟩:=a6F (A:=A.in1) K p1 p2 v1 v2 (by show A.units+1+n<cLine;omega);rw[<-h2];exact SeqAt.RcAt.tuples t1 t2 (by omega) h1
theorem a1u {h:Heap} {a:Addr} {its:List Value} {k:Nat} (e:h.get? a=some { cls:=.type "list",data:=.seq its.toArray k }):h.IsList a its.toArray:=⟨_,e,rfl,_,rfl⟩
theorem b2V (K:EqK H s n R) (ok:HOk P w H s.heap) {a b:Addr} {xs ys:List V} {ds es:List α} (ha:H a=some (.lst xs)) (hb:H b=some (.lst ys)) (p1:Paired R xs ds) (p2:Paired R ys es) (hA:A.units+(n+1)<cLine) :
  SeqAt.RcNeAt A s (.ref a) (.ref b) (!decide (ds=es)):=by
 obtain⟨_,its,k1,v1,t1⟩:=ok a _ ha;obtain⟨_,its2,k2,v2,t2⟩:=ok b _ hb;obtain⟨e,h1,h2⟩:=a6F (A:=A.in1) K p1 p2 v1 v2 (by show A.units+1+n<cLine;omega);by_cases hz:its.toArray.size=its2.toArray.size
 ·have q:=SeqAt.RcNeAt.lists (a1u t1) (a1u t2) hz (show A.units<cLine by omega) h1;have z:(List.range its.toArray.size).all e=decide (ds=es):=by
   rw[<-h2,<-hz];simp
  rw[z] at q;exact q
 ·have q:=SeqAt.RcNeAt.lists_lengths (A:=A) (a1u t1) (a1u t2) (by simpa using hz) (show A.units<cLine by omega);have z:false=decide (ds=es):=by
   rw[<-h2];have:(its.toArray.size==its2.toArray.size)=false:=by simpa using hz
   rw[this,Bool.and_false]
  rw[<-z];exact q
end
section
variable {X:Cx} {α:Type} [DecidableEq α]
noncomputable def rEqTI:R2:=λx y H Q=>∃ns ms,b0D H a5g x ns/\b0D H a5g y ms/\Q (.bl (decide (ns=ms))) H
theorem b2W (hu:X.A.units+4<cLine):OpR X (compareOp .Eq) rEqTI:=by
 intro pins s σ H x y v u Q I rx ry h;obtain⟨ns,ms,⟨a,xs,rfl,e1,p1⟩,⟨b,ys,rfl,e2,p2⟩,q⟩:=h;cases rx;cases ry;exact b2U (A:=X.A) (n:=0) EqK.int I.hok e1 e2 p1 p2 (by omega) _ _ _ _ ⟨.bl _,H,I,rfl,q⟩
end
noncomputable def rIsi (K:PySem.W.Frag):List V->Hp->VK->Prop:=λxs H Q=>∃x t T b,xs=[x,.ty T]/\a7A K H x t/\PySem.W.kitOne K t (.type T)=some b/\Q (.bl b) H
theorem a2i {X:Cx}:a2f X (.builtin "isinstance") (rIsi X.K):=by
 intro pins s σ H xs us Q I r h;obtain⟨x,t,T,b,rfl,ty,e,q⟩:=h;obtain⟨u,v,rfl,r1,r2⟩:=r.two;cases r2;exact a8H I r1 ty e λtk=>⟨.bl b,H,I.tok tk,rfl,q⟩
noncomputable def rSlG:V->Option Int->Option Int->Hp->VK->Prop:=λx lo hi H Q=>∃a xs,x=.ref a/\H a=some (.tup xs)/\∀p H',a0r H H'->H' p=some (.tup (a3b xs lo hi))->Q (.ref p) H'
theorem sixAll {n:Nat} {α:Type} (xs:List α) (lo hi:Option Int) (h1:HT.sIx xs.length 0 lo=0) (h2:HT.sIx xs.length xs.length hi=xs.length):(xs.drop (HT.sIx xs.length 0 lo)).take (HT.sIx xs.length xs.length hi-HT.sIx xs.length 0 lo)=xs:=by
 rw[h1,h2];simp
theorem a0d {H:Hp} {p:Addr} (h:H p=none) (o:HO):a0r H (upd H p o):=λb u q=>by rw[a0m (a0D q h)];exact q
theorem a5N {prog:Program} {w:World} {A:Around} {E:Value->Shared->Prop} {s:Shared} {t sl:Addr} {items:Array Value} {vl vu:Value} {lo hi:Option Int} {Q:Value->Shared->Prop} (ht:IsTup s.heap t items) (hs:s.heap.IsSliceOf sl vl vu .none) (pl:IsPart vl lo) (pu:IsPart vu hi)
  (h1:HT.sIx items.size 0 lo=0) (h2:HT.sIx items.size items.size hi=items.size) (h:Q (.ref t) s):wpAny (model prog w) A (getItem (.ref t) (.ref sl)) Q E s:=by
 obtain⟨os,hos,hcs,hds⟩:=id hs;have hTs:s.TypeIs (.ref sl) "slice":=⟨os,hos,hcs⟩
 unfold getItem
 try with_reducible refine b4T ?_
 first|refine b4n (b4r ?_)|skip
 refine b4n (wpAny_sequenceKey ht.typeIs (by decide) ?_);refine b4n (b5a (name:=Str.ofString "__getitem__") ht.typeIs b5N
  (b4Z b5N ht.typeIs entry_tuple_getitem ?_ (args_tuple_getitem _ _)))
 show wpAny _ _ (Builtin.Tuple.tupleItemsOf (.ref t) >>= _) _ _ s;refine b4n (tupleItemsOf_ ht ?_);refine b4n (b8n hTs ?_);rw[if_pos (by decide)];refine b4n (HT.a1I hs pl pu ?_);rw[h1,h2];show wpAny _ _ (if (((0:Nat):Int)==0&&(1:Int)==1&&(items.size-0)==items.size)=true then _ else _) _ _ s;rw[if_pos (by simp)];unfold Builtin.Tuple.tupleIsExact;refine b4n (b4n (b8n ht.typeIs (b4r ?_)));rw[if_pos (by decide)]
 first
  | exact b4n (b5T (b4n (b4r (b4r ⟨_,rfl,b4r h⟩))))
  | exact b4n (b5T (b4r ⟨_,rfl,b4r h⟩))
  | exact b4n (b4n (b5T (b4r ⟨_,rfl,b4r h⟩)))
theorem a8U {X:Cx}:SlR X rSlG:=by
 intro pins s σ H x v vl vu lo hi sl Q I rx hs pl pu h;obtain⟨a,xs,rfl,hx,q⟩:=h;by_cases hw:HT.sIx xs.length 0 lo=0/\HT.sIx xs.length xs.length hi=xs.length
 ·cases rx;obtain⟨hz,its,r,ht⟩:=I.hok a _ hx;have hlen:its.toArray.size=xs.length:=by rw[b4y];exact r.length.symm
  refine⟨"tuple",_,b5N.lookup,(a4Q.is ht).typeIs,?_⟩;refine a5N (a4Q.is ht) hs pl pu (by rw[hlen];exact hw.1) (by rw[hlen];exact hw.2) ⟨.ref a,H,I,rfl,q a H (a0r.refl H) ?_⟩;unfold a3b;rw[sixAll (n:=0) xs lo hi hw.1 hw.2];exact hx
 ·exact b1X pins s σ H (.ref a) v vl vu lo hi sl Q I rx hs pl pu ⟨a,xs,rfl,.inl (.inl hx),hw,λp hp=>q p _ (a0d hp _) a0b⟩
noncomputable def rCatG:R2:=λx y H Q=>∃a b xs ys,x=.ref a/\y=.ref b/\H a=some (.tup xs)/\H b=some (.tup ys)/\xs.length+ys.length<=sizeLine/\∀p H',a0r H H'->H' p=some (.tup (xs++ys))->Q (.ref p) H'
theorem a5O {X:Cx}:OpR X (binaryOp .Add) rCatG:=by
 intro pins s σ H x y v u Q I rx ry h;obtain⟨a,b,xs,ys,rfl,rfl,ha,hb,hz,q⟩:=h;by_cases hx:xs=[]
 ·subst hx;cases rx;cases ry;obtain⟨_,its,r1,p1⟩:=I.hok a _ ha;obtain⟨_,its2,r2,p2⟩:=I.hok b _ hb;have e0:its=[]:=r1.nil_iff.mpr rfl;subst e0;obtain⟨⟨cls,dd,data,sl⟩,ho,hc,n,hd⟩:=id (a4Q.is p1);obtain⟨⟨cls2,dd2,data2,sl2⟩,ho2,hc2,n2,hd2⟩:=id (a4Q.is p2);simp only at hc hd hc2 hd2;subst hc hd hc2 hd2;exact concat_meets ⟨_,ho,rfl⟩ ⟨_,ho2,rfl⟩ b9Y seq_tuple_add b8z b8s (b8m _ _)
   (tuple_addW0 a b ([]:List Value).toArray its2.toArray n n2 dd dd2 sl sl2 (by simp)) ⟨ho,ho2,⟨.ref b,H,I,rfl,q b H (a0r.refl H) (by simpa using hb)⟩⟩
 ·exact b2N pins s σ H (.ref a) (.ref b) v u Q I rx ry ⟨a,b,xs,ys,rfl,rfl,.inl (.inl ha),.inl (.inl hb),hx,hz,λz=>q a H (a0r.refl H) (by rw[z,b5W];exact ha),λ_ p hp=>q p _ (a0d hp _) a0b⟩
noncomputable def rAll:List V->Hp->VK->Prop:=λxs H Q=>∃(a:Addr) (bs:List Bool),xs=[.ref a]/\H a=some (.lst (bs.map V.bl))/\Q (.bl (bs.all id)) H
theorem b0M:∀{bs:List Bool} {us:List Value},a0C (bs.map V.bl) us->us=bs.map Value.bool:=by
 intro bs
 induction bs with
 | nil=>intro us r;rw[List.map_nil] at r;cases r;rfl
 | cons b bs ih =>
  intro us r;rw[b5J] at r;cases r with
  | cons r1 r2=>rw[ih r2,show _=Value.bool b from r1];rfl
theorem a8V (bs:List Bool):(List.range bs.length).all (λi=>bs.getD i true)=bs.all id:=by
 rw[b7N];simp only[b7B,b6Q,id];constructor
 ·intro h b hb;obtain⟨i,hi,rfl⟩:=b6i.mp hb;have q:=h i hi
  rwa [b4t,b4q hi] at q
 ·intro h i hi;rw[b4t,b4q hi];exact h _ (b6p hi)
theorem b0N {X:Cx} (hc:X.calm=true):a2f X (.builtin "all") rAll:=by
 intro pins s σ H xs us Q I r h;obtain⟨a,bs,rfl,ha,q⟩:=h;obtain⟨u,rfl,ru⟩:=a2g r;cases ru;obtain⟨hz,its,n,v,e⟩:=I.hok a _ ha;have ei:=b0M v;subst ei;refine call_all_walk (b6w (a1u e) ?_);have hlt:=b4w e;refine⟨s.heap.objs.size,_,_,_,_,_,λi=>bs.getD i true,rfl,c0j (A:=X.A.in1) (by show X.A.handled=none;exact I.ok.hd hc) s.heap.objs.size a (b4H hlt) (bs.map Value.bool).toArray,⟨⟨_,b4v _ rfl,rfl,rfl⟩,a1u (b4o _ e)⟩,?_,λh' tk hk=>?_⟩
 ·intro i v s' Q' E' hv hq;simp only[List.getElem?_toArray,b4C] at hv;cases hb:bs[i]? with
  | none=>rw[hb] at hv;cases hv
  | some b =>
   rw[hb] at hv;cases hv;have hq':Q' (bs.getD i true) s':=hq;rw[b4t,hb] at hq';exact b6v hq'
 ·have e1:(bs.map Value.bool).toArray.size=bs.length:=by simp
  rw[e1,a8V];exact⟨.bl _,H,I.kept (h':=h') (t':=tk) (λb o eo=>hk b o (by simp;exact b4H (b4w eo)) (b4o _ eo)),rfl,q⟩
noncomputable def rSum:List V->Hp->VK->Prop:=λxs H Q=>∃(a:Addr) (ns:List Int),xs=[.ref a]/\H a=some (.lst (ns.map V.int))/\Q (.int ns.sum) H
theorem a7H:∀{ns:List Int} {us:List Value},a0C (ns.map V.int) us->∀(i:Nat) (v:Value),us[i]?=some v->∃t,v=.int (ns.getD i 0) t:=by
 intro ns
 induction ns with
 | nil=>intro us r i v e;rw[List.map_nil] at r;cases r;simp at e
 | cons n ns ih =>
  intro us r i v e;rw[b5J] at r;cases r with
  | cons r1 r2 =>
   cases i with
   | zero =>
    simp at e;subst e;obtain⟨t,z⟩:=r1;exact⟨t,by rw[z];simp⟩
   | succ i =>
    obtain⟨t,z⟩:=ih r2 i v (by simpa using e);exact⟨t,by rw[z];simp⟩
theorem a1W {X:Cx} (hc:X.calm=true):a2f X (.builtin "sum") rSum:=by
 intro pins s σ H xs us Q I r h;obtain⟨a,ns,rfl,ha,q⟩:=h;obtain⟨u,rfl,ru⟩:=a2g r;cases ru;obtain⟨hz,its,n,v,e⟩:=I.hok a _ ha;refine call_sum_walkAnyS (b6w (a1u e) ?_);have hlt:=b4w e;refine⟨s.heap.objs.size,_,_,_,_,_,_,λi=>ns.getD i 0,rfl,(c0j (A:=X.A.in1) (by show X.A.handled=none;exact I.ok.hd hc) s.heap.objs.size a (b4H hlt) its.toArray).toS,⟨⟨_,b4v _ rfl,rfl,rfl⟩,a1u (b4o _ e)⟩,?_,?_,λs' t' mv=>?_⟩
 ·intro b hb;have hp:(s.heap.push { cls:=.type "list_iterator",data:=.fields #[.ref a,rawInt 0] }).objs.size=s.heap.objs.size+1:=b4X _ _;rcases b4K.mp hb with z|z
  ·subst z;exact b4w (b4v _ rfl)
  ·have z':b=a:=by simpa using z
   subst z';exact b4w (b4o _ e)
 ·intro i v' hv;exact a7H v i v' (by simpa using hv)
 ·have e1:its.toArray.size=ns.length:=by
   have:=v.length;rw[b4p] at this;simpa using this.symm
  rw[e1,preSum_getD];have e2:ns.take ns.length=ns:=b5z;rw[e2];have k:∀b o,s.heap.get? b=some o->s'.heap.get? b=some o:=λb o eo=>mv.heap b o (by simp;exact b4H (b4w eo)) (b4o _ eo);obtain⟨h',g',d',tk',os'⟩:=s';have z1:g'=s.gens:=mv.gens;have z2:d'=s.drawn:=mv.drawn;have z3:os'=s.os:=mv.os;subst z1 z2 z3;exact⟨.int _,H,I.kept (h':=h') (t':=tk') k,⟨t',rfl⟩,q⟩
theorem a0x (scope:Scope) (en:Env) (y:Str):(relabel scope en).names.lookup y=(scope.names.lookup y).map λk=>if (k==NameKind.free&&en.scope.kind==.function&&en.kindOf y==some .cell)=true then .cell else k:=by
 show List.lookup y (scope.names.map λ(n,k)=>if (k==NameKind.free&&en.scope.kind==.function&&en.kindOf n==some .cell)=true then (n,NameKind.cell) else (n,k))=_;generalize scope.names=l
 induction l with
 | nil=>rfl
 | cons p r ih =>
  obtain⟨n,k⟩:=p;rw[b5J];by_cases hy:y=n
  ·subst hy;show List.lookup y ((if (k==NameKind.free&&en.scope.kind==.function&&en.kindOf y==some .cell)=true then (y,NameKind.cell) else (y,k))::_)=_;by_cases hc:(k==NameKind.free&&en.scope.kind==.function&&en.kindOf y==some .cell)=true
   ·rw[if_pos hc,b6o,b6o,b9Z];show some NameKind.cell=some (if _ then _ else _);rw[if_pos hc]
   ·rw[if_neg hc,b6o,b6o,b9Z];show some k=some (if _ then _ else _);rw[if_neg hc]
  ·have hb:(y==n)=false:=by simpa using hy
   show List.lookup y ((if (k==NameKind.free&&en.scope.kind==.function&&en.kindOf n==some .cell)=true then (n,NameKind.cell) else (n,k))::_)=_;by_cases hc:(k==NameKind.free&&en.scope.kind==.function&&en.kindOf n==some .cell)=true
   ·rw[if_pos hc,b6o,b6o,hb];exact ih
   ·rw[if_neg hc,b6o,b6o,hb];exact ih
noncomputable def a8W (scope:Scope) (p:Str × Str):Bool:=match scope.names.lookup p.1 with
 | none=>true
 | some .free=>p.1==p.2
 | some .local=>false
 | some .cell=>false
 | some _=>true
theorem a0k.of' {scope:Scope} {en:Env} {N M:List Str} (sc:Scope) (N₀:List Str) (hsc:en.scope=sc) (hN:N=N₀) (kind:scope.kind=.function) (nocell:∀y∈scope.names,y.2≠.cell) (locs:∀y∈scope.names,y.2=.local->scope.names.lookup y.1=some .local)
  (free:∀y∈scope.names,y.2=.free->sc.names.lookup y.1=some .cell\/sc.names.lookup y.1=some .free) (len:M.length=N₀.length) (same:((M.zip N₀).all (a8W scope))=true):a0k scope en N M:=by
 subst hsc hN;refine⟨kind,nocell,locs,λy hy=>free _ hy rfl,len,λj y e v=>?_,λy h=>?_⟩
 ·have hj:j<N.length:=by rw[<-len];exact(b4u.mp e).1
  have e2:N[j]?=some N[j]:=b4q hj;have hm:(y,N[j])∈M.zip N:=by
   refine b5R.mpr ⟨j,?_⟩;rw[b7Z];exact⟨e,e2⟩
  have q:=b7B.mp same _ hm;unfold a8W at q;unfold Vis at v;rw[a0x] at v ⊢;cases hl:scope.names.lookup y with
  | none=>rw[hl] at v;simp at v
  | some k =>
   rw[hl] at v q;simp only[Option.map_some] at v ⊢;cases k with
   | free =>
    have z:y=N[j]:=by simpa using q
    refine⟨by rw[e2,<-z],b5U hl,?_⟩;split<;>simp
   | «local»=>simp at q
   | cell=>simp at q
   | _=>simp at v
 ·rw[a0x] at h;cases hl:scope.names.lookup y with
  | none=>rw[hl] at h;simp at h
  | some k =>
   rw[hl] at h;have hm:=b5U hl;simp only[Option.map_some] at h;cases k with
   | free=>exact hm
   | cell=>exact absurd rfl (nocell _ hm)
   | _=>simp at h
theorem a0k.of {scope:Scope} {en:Env} {N M:List Str} (sc:Scope) (N₀:List Str) (hsc:en.scope=sc) (hN:N=N₀) (kind:scope.kind=.function) (nocell:∀y∈scope.names,y.2≠.cell) (locs:∀y∈scope.names,y.2=.local->scope.names.lookup y.1=some .local)
  (free:∀y∈scope.names,y.2=.free->sc.names.lookup y.1=some .cell\/sc.names.lookup y.1=some .free) (len:M.length=N₀.length) (same:((M.zip N₀).all (a8W scope))=true):a0k scope en N M:=a0k.of' sc N₀ hsc hN kind nocell locs free len same
theorem b2b {v:V} {σ:St} {H:Hp} {Q:St->Hp->Prop} (h:a1Y 0 v (List.replicate 1 none++σ) H Q):a1Y 0 v (List.replicate 1 none++σ) H λσ2 H2=>(∃l:St,l.length=1/\σ2=l++σ)/\Q σ2 H2 :=
 ⟨⟨[some v],rfl,rfl⟩,h⟩
theorem a7I {lo:Int} {n:Nat} {k:Nat} {g:TG} {tc:TT} {te:TE} {σ:St} {H:Hp} {Q:VK} {d:Addr} (Pv:Nat->Hp->Prop) (h0:Pv 0 (upd H d (.lst [])))
  (hs:∀i H,i<n->Pv i H->g (.int (lo+i)) (List.replicate k none++σ) H λσ2 H2=>tc σ2 H2 λb H3=>if b=true then te σ2 H3 λy H4=>∃ys,H4 d=some (.lst ys)/\ys.length<sizeLine/\Pv (i+1) (upd H4 d (.lst (ys++[y]))) else Pv (i+1) H3)
  (hd:∀H,Pv n H->Q (.ref d) H) :
  ∃W:Nat->Nat->Hp->Prop,(∃m,W 0 m (upd H d (.lst [])))/\∀i m H,W i m H ->
   ((Itr lo n).stop i H/\Q (.ref d) H)\/((Itr lo n).go i H/\∃N:Hp->Prop,(∀H',N H'->∃m',m'<m/\W (i+1) m' H')/\∀x H',(Itr lo n).yld i H x H'->g x (List.replicate k none++σ) H' λσ2 H2 =>
    tc σ2 H2 λb H3=>if b=true then te σ2 H3 λy H4=>∃ys,H4 d=some (.lst ys)/\ys.length<sizeLine/\N (upd H4 d (.lst (ys++[y]))) else N H3):=by
 refine⟨λi m H=>m=n-i/\i<=n/\Pv i H,⟨n,by simp,b5j _,h0⟩,?_⟩;rintro i m H ⟨rfl,hi,p⟩;by_cases hlt:i<n
 ·refine .inr ⟨hlt,Pv (i+1),λH' p'=>⟨n-(i+1),by omega,rfl,hlt,p'⟩,λx H' y=>?_⟩;obtain⟨e,y⟩:=y;subst e y;exact hs i _ hlt p
 ·have e:i=n:=by omega
  subst e;exact .inl ⟨b4z _,hd H p⟩
theorem b0O {K:PySem.W.Frag} {a:Addr} {xs:List V} {k:Nat} {g:TG} {tc:TT} {te:TE} {σ:St} {H:Hp} {Q:VK} {d:Addr} (Pv:Nat->Hp->Prop) (h0:Pv 0 (upd H d (.lst []))) (hl:∀i H,i<=xs.length->Pv i H->SqT K H a xs)
  (hs:∀i x H,xs[i]?=some x->Pv i H->g x (List.replicate k none++σ) H λσ2 H2=>tc σ2 H2 λb H3=>if b=true then te σ2 H3 λy H4=>∃ys,H4 d=some (.lst ys)/\ys.length<sizeLine/\Pv (i+1) (upd H4 d (.lst (ys++[y]))) else Pv (i+1) H3)
  (hd:∀H,Pv xs.length H->Q (.ref d) H) :
  ∃W:Nat->Nat->Hp->Prop,(∃m,W 0 m (upd H d (.lst [])))/\∀i m H,W i m H ->
   ((Itt K a).stop i H/\Q (.ref d) H)\/((Itt K a).go i H/\∃N:Hp->Prop,(∀H',N H'->∃m',m'<m/\W (i+1) m' H')/\∀x H',(Itt K a).yld i H x H'->g x (List.replicate k none++σ) H' λσ2 H2 =>
    tc σ2 H2 λb H3=>if b=true then te σ2 H3 λy H4=>∃ys,H4 d=some (.lst ys)/\ys.length<sizeLine/\N (upd H4 d (.lst (ys++[y]))) else N H3):=by
 refine⟨λi m H=>m=xs.length-i/\i<=xs.length/\Pv i H,⟨xs.length,by simp,b5j _,h0⟩,?_⟩;rintro i m H ⟨rfl,hi,p⟩;have q:=hl i H hi p;by_cases hlt:i<xs.length
 ·refine .inr ⟨⟨xs,xs[i],q,by simp[hlt]⟩,Pv (i+1),λH' p'=>⟨xs.length-(i+1),by omega,rfl,hlt,p'⟩,λx H' y=>?_⟩;obtain⟨e,y⟩:=y;subst e;exact hs i x _ (y xs q) p
 ·have e:i=xs.length:=by omega
  subst e;exact .inl ⟨⟨xs,q,b4z _⟩,hd H p⟩
theorem a3f {K:PySem.W.Frag} {a:Addr} {xs:List V} {k:Nat} {g:TG} {tc:TT} {te:TE} {σ:St} {H:Hp} {Q:VK} {d:Addr} (Pv:Nat->Hp->Prop) (h0:Pv 0 (upd H d (.lst []))) (hl:∀i H,i<=xs.length->Pv i H->SqL K H a xs)
  (hs:∀i x H,xs[i]?=some x->Pv i H->g x (List.replicate k none++σ) H λσ2 H2=>tc σ2 H2 λb H3=>if b=true then te σ2 H3 λy H4=>∃ys,H4 d=some (.lst ys)/\ys.length<sizeLine/\Pv (i+1) (upd H4 d (.lst (ys++[y]))) else Pv (i+1) H3)
  (hd:∀H,Pv xs.length H->Q (.ref d) H) :
  ∃W:Nat->Nat->Hp->Prop,(∃m,W 0 m (upd H d (.lst [])))/\∀i m H,W i m H ->
   ((Itl K a).stop i H/\Q (.ref d) H)\/((Itl K a).go i H/\∃N:Hp->Prop,(∀H',N H'->∃m',m'<m/\W (i+1) m' H')/\∀x H',(Itl K a).yld i H x H'->g x (List.replicate k none++σ) H' λσ2 H2 =>
    tc σ2 H2 λb H3=>if b=true then te σ2 H3 λy H4=>∃ys,H4 d=some (.lst ys)/\ys.length<sizeLine/\N (upd H4 d (.lst (ys++[y]))) else N H3):=by
 refine⟨λi m H=>m=xs.length-i/\i<=xs.length/\Pv i H,⟨xs.length,by simp,b5j _,h0⟩,?_⟩;rintro i m H ⟨rfl,hi,p⟩;have q:=hl i H hi p;by_cases hlt:i<xs.length
 ·refine .inr ⟨⟨xs,xs[i],q,by simp[hlt]⟩,Pv (i+1),λH' p'=>⟨xs.length-(i+1),by omega,rfl,hlt,p'⟩,λx H' y=>?_⟩;obtain⟨e,y⟩:=y;subst e;exact hs i x _ (y xs q) p
 ·have e:i=xs.length:=by omega
  subst e;exact .inl ⟨⟨xs,q,b4z _⟩,hd H p⟩
theorem a8X:bootBuiltins "isinstance"=some (.builtin "isinstance"):=by decide +kernel
theorem b_all:bootBuiltins "all"=some (.builtin "all"):=by decide +kernel
theorem a7J:bootBuiltins "sum"=some (.builtin "sum"):=by decide +kernel
theorem b_int:bootBuiltins "int"=some (.type "int"):=by decide +kernel
theorem b_bool:bootBuiltins "bool"=some (.type "bool"):=by decide +kernel
theorem b_list:bootBuiltins "list"=some (.type "list"):=by decide +kernel
theorem a1E:bootBuiltins "tuple"=some (.type "tuple"):=by decide +kernel
theorem a5P (K:PySem.W.Frag):PySem.W.kitOne K (.type "int") (.type "int")=some true:=by rfl
theorem a5h (K:PySem.W.Frag):PySem.W.kitOne K (.type "int") (.type "bool")=some false:=by rfl
theorem a1v (K:PySem.W.Frag):PySem.W.kitOne K (.type "tuple") (.type "tuple")=some true:=by rfl
theorem PE.imp {X:Cx} {e:Expr} {t t':TE} (h:PE X e t) (hi:∀σ H Q,t' σ H Q->t σ H Q):PE X e t':=λpins s σ H Q I q=>h pins s σ H Q I (hi σ H Q q)
noncomputable def a8Y (tc:TT) (te:TE) (σ:St) (d:Addr) (x:V) (H:Hp) (Z:Hp->Prop):Prop :=
 tc (some x :: σ) H λb H3=>if b=true then te (some x :: σ) H3 λy H4=>∃ys,H4 d=some (.lst ys)/\ys.length<sizeLine/\Z (upd H4 d (.lst (ys++[y]))) else Z H3
noncomputable def b2X (ta:TA) (tc:TT) (te:TE):TE:=λσ H Q=>ta σ H λvs H1=>∃j:Int,vs=[.int j]/\-(2 ^ 62)<=j/\j<2 ^ 62/\∀d,H1 d=none ->
 ∃Pv:Nat->Hp->Prop,Pv 0 (upd H1 d (.lst []))/\(∀i H,i<j.toNat->Pv i H->a8Y tc te σ d (.int (0+i)) H (Pv (i+1)))/\∀H,Pv j.toNat H->Q (.ref d) H
noncomputable def b2c (K:PySem.W.Frag) (tl:TE) (tc:TT) (te:TE):TE:=λσ H Q=>tl σ H λv H1=>∃a xs,v=.ref a/\SqL K H1 a xs/\∀d,H1 d=none ->
 ∃Pv:Nat->Hp->Prop,Pv 0 (upd H1 d (.lst []))/\(∀i H,i<=xs.length->Pv i H->SqL K H a xs)/\(∀i x H,xs[i]?=some x->Pv i H->a8Y tc te σ d x H (Pv (i+1)))/\∀H,Pv xs.length H->Q (.ref d) H
noncomputable def tCompT (K:PySem.W.Frag) (tl:TE) (tc:TT) (te:TE):TE:=λσ H Q=>tl σ H λv H1=>∃a xs,v=.ref a/\SqT K H1 a xs/\∀d,H1 d=none ->
 ∃Pv:Nat->Hp->Prop,Pv 0 (upd H1 d (.lst []))/\(∀i H,i<=xs.length->Pv i H->SqT K H a xs)/\(∀i x H,xs[i]?=some x->Pv i H->a8Y tc te σ d x H (Pv (i+1)))/\∀H,Pv xs.length H->Q (.ref d) H
noncomputable def a2a (t:TE):Prop:=∀σ H (Q Q':VK),(∀v H1,Q v H1->Q' v H1)->t σ H Q->t σ H Q'
noncomputable def a7K (t:TA):Prop:=∀σ H (Q Q':List V->Hp->Prop),(∀v H1,Q v H1->Q' v H1)->t σ H Q->t σ H Q'
section
variable {X:Cx} {elt iter:Expr} {tg:Str} {tp:Pos} {cs:List Expr} {scope:Scope} {pos:Pos} {tc:TT} {te:TE} {M:List Str}
abbrev a7L (X:Cx) (scope:Scope) (tg:Str) (M:List Str) (cs:List Expr) (elt:Expr) (tc:TT) (te:TE):Prop :=
 ∀(cl:List (Str × Addr)) (C:Addr) (s0:Shared) (H0:Hp) (fp:List Addr),PTs (cxC X scope cl C s0 H0 fp (tg::M)) cs tc/\PE (cxC X scope cl C s0 H0 fp (tg::M)) elt te
theorem a4g {wi:TI} {t:TE} (hc:X.calm=true) (S:a0k scope X.env X.N M) (nd:(tg::M).Nodup) (hl:scope.names.lookup tg=some .local) (hi:PI X (.Name tg tp) iter wi) (hin:a7L X scope tg M cs elt tc te)
  (ht:∀σ H Q,t σ H Q->a7G 1 wi (a1Y 0) tc te σ H Q) (hs:∀x,foldedSetIterable iter X.env x=pure x):PE X (.ListComp elt [⟨.Name tg tp,iter,cs,0⟩] scope pos) t:=by
 have hx:(relabel scope X.env).names.lookup tg=some .local:=by
  rw[a0x,hl];rfl
 exact PE.imp (b2S (xs:=[tg]) (M:=M) hc S hi (λcl C s0 H0 fp=>⟨a0F (i:=0) nd rfl (Or.inl hx) (Or.inr hx),hin cl C s0 H0 fp⟩) (λv σ H Q h=>b2b h) hs) ht
theorem a3g {a:Expr} {ta:TA} {p pos':Pos} (hc:X.calm=true) (S:a0k scope X.env X.N M) (nd:(tg::M).Nodup) (hl:scope.names.lookup tg=some .local) (hg:Gl X "range") (hm:X.mg "range"=none) (ha:PA X [a] ta) (mo:a7K ta)
  (hin:a7L X scope tg M cs elt tc te) (hs:starEach [a] X.env=[(false,eval a X.env)]:=by rfl) (hf:∀x,foldedSetIterable (.Call (.Name "range" p) [a] [] pos') X.env x=pure x:=by intro _;rfl) :
  PE X (.ListComp elt [⟨.Name tg tp,.Call (.Name "range" p) [a] [] pos',cs,0⟩] scope pos) (b2X ta tc te):=by
 refine a4g hc S nd hl (a1J hg hm ha hs) hin (λσ H Q h=>?_) hf;refine mo σ H _ _ (λvs H1 q=>?_) h;obtain⟨j,e,j1,j2,q⟩:=q;refine⟨j,e,j1,j2,λd hd=>?_⟩;obtain⟨Pv,h0,hs,hd⟩:=q d hd;exact a7I (k:=1) (g:=a1Y 0) Pv h0 hs hd
theorem a2L {tl:TE} (hc:X.calm=true) (S:a0k scope X.env X.N M) (nd:(tg::M).Nodup) (hl:scope.names.lookup tg=some .local) (hi:PE X iter tl) (mo:a2a tl)
  (hin:a7L X scope tg M cs elt tc te) (hf:∀x,foldedSetIterable iter X.env x=pure x:=by intro _;rfl):PE X (.ListComp elt [⟨.Name tg tp,iter,cs,0⟩] scope pos) (b2c X.K tl tc te):=by
 refine a4g hc S nd hl (a1Z hi) hin (λσ H Q h=>?_) hf;refine mo σ H _ _ (λv H1 q=>?_) h;obtain⟨a,xs,e,j1,q⟩:=q;refine⟨a,e,⟨xs,j1⟩,λd hd=>?_⟩;obtain⟨Pv,h0,hl,hs,hd⟩:=q d hd;exact a3f (k:=1) (g:=a1Y 0) Pv h0 hl hs hd
theorem a2M {tl:TE} (hc:X.calm=true) (S:a0k scope X.env X.N M) (nd:(tg::M).Nodup) (hl:scope.names.lookup tg=some .local) (hi:PE X iter tl) (mo:a2a tl)
  (hin:a7L X scope tg M cs elt tc te) (hf:∀x,foldedSetIterable iter X.env x=pure x:=by intro _;rfl):PE X (.ListComp elt [⟨.Name tg tp,iter,cs,0⟩] scope pos) (tCompT X.K tl tc te):=by
 refine a4g hc S nd hl (a8w hi) hin (λσ H Q h=>?_) hf;refine mo σ H _ _ (λv H1 q=>?_) h;obtain⟨a,xs,e,j1,q⟩:=q;refine⟨a,e,⟨xs,j1⟩,λd hd=>?_⟩;obtain⟨Pv,h0,hl,hs,hd⟩:=q d hd;exact b0O (k:=1) (g:=a1Y 0) Pv h0 hl hs hd
theorem b0P {wi:TI} {t:TE} {i:Nat} {x:Str} {pos1 spos:Pos} (hc:X.calm=true) (S:a0k scope X.env X.N M) (nd:(tg::M).Nodup) (hl:scope.names.lookup tg=some .local) (hi:PI X (.Name tg tp) iter wi) (hin:a7L X scope tg M cs elt tc te)
  (ht:∀σ H Q,t σ H Q->a7G 1 wi (a1Y 0) tc te σ H Q) (hN:X.N.Nodup) (hix:X.N[i]?=some x) (hx:X.env.scope.names.lookup x=some .local) (hw:swapsWith (.ListComp elt [⟨.Name tg tp,iter,cs,0⟩] scope pos) (some (.Name x pos1)) spos.line X.env=pure true) (hs:∀x,foldedSetIterable iter X.env x=pure x) :
  PS X (.Assign [.Name x pos1] (.ListComp elt [⟨.Name tg tp,iter,cs,0⟩] scope pos) spos) (tAsg t (a1Y i)):=by
 have hx':(relabel scope X.env).names.lookup tg=some .local:=by
  rw[a0x,hl];rfl
 intro pins s σ H D I h;exact b2T (xs:=[tg]) (M:=M) hc S hi (λcl C s0 H0 fp=>⟨a0F (i:=0) nd rfl (Or.inl hx') (Or.inr hx'),hin cl C s0 H0 fp⟩) (λv σ H Q h=>b2b h) hN hix hx hw hs pins s σ H D I (ht _ _ _ h)
end
theorem a0V {te:TE} {σ:St} {d:Addr} {x:V} {H:Hp} {Z:Hp->Prop} (h:te (some x :: σ) H λy H4=>∃ys,H4 d=some (.lst ys)/\ys.length<sizeLine/\Z (upd H4 d (.lst (ys++[y])))):a8Y a8T te σ d x H Z:=by
 unfold a8Y a8T;exact iteT h
theorem a0L {i:Nat}:a2a (tVar i):=λ_ _ _ _ h ⟨v,e,q⟩=>⟨v,e,h _ _ q⟩
theorem a3Q:a7K tNil:=λ_ _ _ _ h q=>h _ _ q
theorem a1R {te:TE} {ta:TA} (h1:a2a te) (h2:a7K ta):a7K (b2K te ta):=λσ H Q Q' h q=>h1 σ H _ _ (λv H1 q1=>h2 σ H1 _ _ (λvs H2 q2=>h _ _ q2) q1) q
abbrev TW (H:Hp) (a:Addr) (ns:List Int):Prop:=H a=some (.tup (ns.map V.int))
abbrev Wd (H:Hp) (x:V) (w:List Int):Prop:=b0D H a5g x w
abbrev Ws (H:Hp) (xs:List V) (ws:List (List Int)):Prop:=Paired (b0D H a5g) xs ws
theorem Wd.ti {H:Hp} {x:V} {w:List Int} (h:Wd H x w):∃a,x=.ref a/\TW H a w:=by
 obtain⟨a,xs,rfl,e,p⟩:=h;exact⟨a,rfl,by show H a=_;rw[e,Paired.ofInts p]⟩
theorem Wd.of {H:Hp} {a:Addr} {w:List Int} (h:TW H a w):Wd H (.ref a) w:=a1Q h
theorem Wd.same {H H':Hp} {x:V} {w:List Int} (sm:a0r H H') (h:Wd H x w):Wd H' x w:=by
 obtain⟨a,xs,rfl,e,p⟩:=h;exact⟨a,xs,rfl,sm _ _ e,p⟩
theorem Ws.same {H H':Hp} {xs:List V} {ws:List (List Int)} (sm:a0r H H') (h:Ws H xs ws):Ws H' xs ws:=Paired.mapP h λ_ _ q=>Wd.same sm q
section
variable {α β:Type} {R:α->β->Prop}
theorem Paired.appendP:∀{xs ys:List α} {ds es:List β},Paired R xs ds->Paired R ys es->Paired R (xs++ys) (ds++es)
 | _,_,_,_,.nil,s=>s
 | _,_,_,_,.cons r t,s=>.cons r (Paired.appendP t s)
theorem Paired.eraseP:∀{xs:List α} {ds:List β} (n:Nat),Paired R xs ds->Paired R (xs.eraseIdx n) (ds.eraseIdx n)
 | _,_,_,.nil=>.nil
 | _,_,0,.cons _ t=>t
 | _,_,n+1,.cons r t=>.cons r (Paired.eraseP n t)
theorem Paired.left_of:∀{xs:List α} {ds:List β},Paired R xs ds->∀(j:Nat) (d:β),ds[j]?=some d->∃x,xs[j]?=some x/\R x d
 | _,_,.nil,j,x,e=>by simp at e
 | _,_,.cons r t,0,x,e=>by simp at e;subst e;exact⟨_,rfl,r⟩
 | _,_,.cons r t,j+1,x,e=>by
  obtain⟨d,e1,e2⟩:=Paired.left_of t j x (by simpa using e);exact⟨d,by simpa using e1,e2⟩
theorem Paired.oneP {a:α} {b:β} (r:R a b):Paired R [a] [b]:=.cons r .nil
end
theorem a6G {xs:List V} {i:Nat} {x:V} (h:xs[i]?=some x):atI xs (i:Int)=some x:=a5L h
theorem a3h {ns:List Int} {k:Nat} {x:Int} (h:ns[k]?=some x):atI (ns.map V.int) (k:Int)=some (.int x):=a5L (by rw[b4C,h];rfl)
theorem at_of {xs:List V} {i:Int} (h0:0<=i) (h1:i<(xs.length:Int)):∃x,xs[i.toNat]?=some x/\atI xs i=some x:=by
 obtain⟨n,rfl⟩:∃n:Nat,i=n:=⟨i.toNat,by omega⟩
 have:n<xs.length:=by omega
 exact⟨xs[n],b4q this,a5L (b4q this)⟩
theorem hu4 {A:Around} {k:Nat} (hr:a2h k A):A.units+4<cLine:=by have:=hr.units;omega
theorem small {n:Nat} (h:n<=1000):n<=sizeLine:=b6K (a0l h)
theorem a6H (xs:List V) (n:Nat):a3b xs none (some (n:Int))=xs.take n:=by
 unfold a3b;rw[HT.a3a,HT.a6D];simp[List.take_eq_take_iff]
theorem a4h (xs:List V) (n:Nat):a3b xs (some (n:Int)) none=xs.drop n:=by
 unfold a3b;rw[HT.a3a,HT.a6D];by_cases h:n<=xs.length
 ·rw[Nat.min_eq_left h];exact b6M (by rw[b7A];omega)
 ·rw[Nat.min_eq_right (by omega),List.drop_eq_nil_of_le (b4z _),List.drop_eq_nil_of_le (by omega)];simp
theorem a0w {H H1:Hp} {d:Addr} {o:HO} (h:H d=none) (sm:a0r H H1):a0r H (upd H1 d o):=λb u q=>by rw[a0m (a0D q h)];exact sm b u q
structure Fns (P:Program) (w:World) (K:PySem.W.Frag) (mg:Str->Option Value) (base:Heap) (ps:List Str) (name:Str) (sp:Sp) (k:Nat) where
 g:Addr
 gd:FuncData
 ok:a1x P w K mg base CX0 k g gd ps sp
 b:a5J K gd ps []
 kp:PySem.W.keepIn K (.ref g)=true
 m:mg name=some (.ref g)
noncomputable def Fns.up {P:Program} {w:World} {K:PySem.W.Frag} {mg:Str->Option Value} {base:Heap} {ps:List Str} {name:Str} {sp:Sp} {j k:Nat} (f:Fns P w K mg base ps name sp j) (h:j<=k):Fns P w K mg base ps name sp k:=⟨f.g,f.gd,f.ok.mono h,f.b,f.kp,f.m⟩
noncomputable def tMid (t:TS):TS:=λD σ H=>∃Mid:St->Hp->Prop,t { D with nx:=Mid } σ H/\∀σ' H',Mid σ' H'->D.nx σ' H'
theorem a5i {X:Cx} {st:Stmt} {t:TS} (h:PS X st t):PS X st (tMid t):=by
 intro pins s σ H D I ⟨Mid,h1,h2⟩;refine thn (h pins s σ H _ I h1) λfl s' q=>?_;cases fl with
 | next=>obtain⟨σ',H',I',m⟩:=q;exact⟨σ',H',I',h2 _ _ m⟩
 | brk=>exact q
 | cont=>exact q
 | ret u=>exact q
noncomputable def eMid (t:TE):TE:=λσ H Q=>∃Mid:V->Hp->Prop,t σ H Mid/\∀v H',Mid v H'->Q v H'
theorem a2j {X:Cx} {e:Expr} {t:TE} (h:PE X e t):PE X e (eMid t):=by
 intro pins s σ H Q I ⟨Mid,h1,h2⟩;exact thn (h pins s σ H _ I h1) λu s' ⟨v,H',I',r,m⟩=>⟨v,H',I',r,h2 _ _ m⟩
theorem a2k {t:TE}:a2a (eMid t):=λσ H Q Q' h ⟨Mid,h1,h2⟩=>⟨Mid,h1,λv H' m=>h _ _ (h2 v H' m)⟩
theorem ixL {X:Cx} (K:PySem.W.Frag) (h:X.K=K:=by rfl):IxR X (rIxL K):=by subst h;exact a3d
theorem ixT {X:Cx} (K:PySem.W.Frag) (h:X.K=K:=by rfl):IxR X (rIxT K):=by subst h;exact a1t
theorem Wd.upd {H:Hp} {l:Addr} {ls ls':List V} {x:V} {w:List Int} (hl:H l=some (.lst ls)) (h:Wd H x w):Wd (upd H l (.lst ls')) x w:=by
 obtain⟨a,xs,rfl,e,p⟩:=h;exact⟨a,xs,rfl,by rw[a0m (a1z e hl (by intro z;cases z))];exact e,p⟩
theorem Ws.upd {H:Hp} {l:Addr} {ls ls' xs:List V} {ws:List (List Int)} (hl:H l=some (.lst ls)) (h:Ws H xs ws):Ws (upd H l (.lst ls')) xs ws:=Paired.mapP h λ_ _ q=>Wd.upd hl q
section
variable {X:Cx} {elt iter:Expr} {tg:Str} {tp:Pos} {cs:List Expr} {scope:Scope} {pos:Pos} {tc:TT} {te:TE} {M:List Str}
end
noncomputable def ExcAt (h:Heap) (e:Addr) (cls:Value) (od:Option Addr) (hd:Value):Prop:=∃oe vs,h.get? e=some oe/\oe.cls=cls/\oe.dict=od/\oe.data=.fields vs/\vs[1]?=some hd
noncomputable def TbAt (h:Heap) (T:Addr) (fl:Value):Prop:=∃oT ts,h.get? T=some oT/\oT.data=.fields ts/\ts[3]?=some fl
noncomputable def Mv (S fs:List Addr) (h h':Heap):Prop:=∀b o,h.get? b=some o->b∉S->(b∉fs->h'.get? b=some o)/\∃sl,h'.get? b=some { o with slots:=sl }
section
variable {S S' fs:List Addr} {h h1 h2:Heap}
end
section
variable {M:Model} {A:Around} {E:Value->Shared->Prop} {s:Shared} {env:Env} {outer:List Env} {base:Heap} {L e T:Addr} {cls hd fl head:Value} {od:Option Addr} {S:List Addr} {Q:Unit->Shared->Prop}
noncomputable def Loose (h:Heap) (e:Addr) (cls:Value) (od:Option Addr) (S:List Addr):Prop :=
 e∈S/\(∀b∈S,∀o,h.get? b=some o->∃vs,o.data=.fields vs)/\∃hd,ExcAt h e cls od hd/\(hd=.none\/∃T,T∈S/\hd=.ref T/\T≠e/\TbAt h T .none)
end
section
variable {X:Cx} {pins:List (Addr × Obj)} {σ:St} {H H':Hp} {s:Shared} {h':Heap} {b:Addr} {S:List Addr}
end
noncomputable def CXF (P:Program) (w:World):CXT:=λouter H s E e s'=>∃(ea:Addr) (cls:Value) (od:Option Addr) (S:List Addr) (H':Hp),e=.ref ea/\s'.os=s.os/\AllBare s'.gens /\
 Un (frs outer) [] H H' s.heap s'.heap/\HOk P w H' s'.heap/\Loose s'.heap ea cls od S/\(∀b∈S,s.heap.get? b=none/\H' b=none)/\E cls od H'
section
variable {P:Program} {w:World} {K:PySem.W.Frag} {mg:Str->Option Value} {base:Heap} {N:List Str} {qual:Str} {scope:Scope} {f:Addr} {cd:Value} {A:Around} {outer:List Env} {s₀:Shared} {H₀:Hp} {E:XK}
end
abbrev Cx.hand (X:Cx) (ea:Addr):Cx:={ X with A:=X.A.mark (some (.ref ea)),calm:=false,xe:=λ_ _=>False }
section
variable {X:Cx} {pins pins':List (Addr × Obj)} {σ:St} {H:Hp} {s:Shared} {h':Heap} {ea:Addr} {xe:Value->Shared->Prop}
end
noncomputable def tMidT (t:TT):TT:=λσ H Q=>∃Mid:Bool->Hp->Prop,t σ H Mid/\∀b H',Mid b H'->Q b H'
theorem pt_mid {X:Cx} {e:Expr} {t:TT} (h:PT X e t):PT X e (tMidT t):=by
 intro pins s σ H Q I ⟨Mid,h1,h2⟩;exact thn (h pins s σ H _ I h1) λb s' ⟨H',I',m⟩=>⟨H',I',h2 _ _ m⟩
section
variable {K:PySem.W.Frag} {prog:Program} {w:World} {A:Around} {E:Value->Shared->Prop} {s:Shared} {x C:Addr} {ox:Obj} {od:Option Obj} {name:Str} {tk:Tok}
end
section
variable {K:PySem.W.Frag} {C D:Addr}
end
structure Fns' (P:Program) (w:World) (K:PySem.W.Frag) (mg:Str->Option Value) (base:Heap) (ps:List Str) (name:Str) (sp:Sp) (k:Nat) where
 g:Addr
 gd:FuncData
 ok:a1x P w K mg base (CXF P w) k g gd ps sp
 b:a5J K gd ps []
 kp:PySem.W.keepIn K (.ref g)=true
 m:mg name=some (.ref g)
noncomputable def Fns'.up {P:Program} {w:World} {K:PySem.W.Frag} {mg:Str->Option Value} {base:Heap} {ps:List Str} {name:Str} {sp:Sp} {j k:Nat} (f:Fns' P w K mg base ps name sp j) (h:j<=k):Fns' P w K mg base ps name sp k:=⟨f.g,f.gd,f.ok.mono h,f.b,f.kp,f.m⟩
theorem a1B {P:Program} {w:World} {H:Hp} {h:Heap} {a:Addr} {xs:List V} (x:a0B P w H h a (.tup xs)):xs.length<=sizeLine/\∃its:List Value,a0C xs its/\PyProof.Rows.IsTup h a its.toArray:=by
 obtain⟨z,its,r,p⟩:=x;exact⟨z,its,r,a4Q.is p⟩
theorem a0r.seqT {K:PySem.W.Frag} {H H':Hp} {a:Addr} {xs:List V} (e:a0r H H') (h:SqT K H a xs):SqT K H' a xs:=by
 rcases h with (h|⟨o,h⟩)|h
 ·exact .inl (.inl (e _ _ h))
 ·exact .inl (.inr ⟨o,e _ _ h⟩)
 ·exact .inr h
noncomputable def rNeLI:R2:=λx y H Q=>∃(a b:Addr) (ns ms:List Int),x=.ref a/\y=.ref b/\H a=some (.lst (ns.map V.int))/\H b=some (.lst (ms.map V.int))/\Q (.bl (!decide (ns=ms))) H
theorem b2Y {X:Cx} (hu:X.A.units+4<cLine):OpR X (compareOp .NotEq) rNeLI:=by
 intro pins s σ H x y v u Q I rx ry h;obtain⟨a,b,ns,ms,rfl,rfl,e1,e2,q⟩:=h;cases rx;cases ry;exact b2V (A:=X.A) (n:=0) EqK.int I.hok e1 e2 (Paired.ints ns) (Paired.ints ms) (by omega) _ _ _ _ ⟨.bl _,H,I,rfl,q⟩
noncomputable def SIt:Bool->Heap->Addr->Addr->Nat->Prop
 | true,h,i,l,n=>h.IsTupleIter i l n
 | false,h,i,l,n=>h.IsListIter i l n
noncomputable def SAt:Bool->Heap->Addr->Array Value->Prop
 | true,h,l,xs=>h.IsTuple l xs
 | false,h,l,xs=>h.IsList l xs
theorem SIt.at {k:Bool} {h h':Heap} {i l:Addr} {n:Nat} (x:SIt k h i l n) (e:∀o,h.get? i=some o->h'.get? i=some o):SIt k h' i l n:=by
 cases k with
 | true=>obtain⟨o,ho,r⟩:=x;exact⟨o,e o ho,r⟩
 | false=>obtain⟨o,ho,r⟩:=x;exact⟨o,e o ho,r⟩
theorem SIt.obj {k:Bool} {h:Heap} {i l:Addr} {n:Nat} (x:SIt k h i l n):∃o,h.get? i=some o/\∀v,o.data≠.cell v:=by
 cases k with
 | true=>obtain⟨o,ho,_,d⟩:=x;exact⟨o,ho,λv z=>by rw[d] at z;cases z⟩
 | false=>obtain⟨o,ho,_,d⟩:=x;exact⟨o,ho,λv z=>by rw[d] at z;cases z⟩
theorem SAt.at {k:Bool} {h h':Heap} {l:Addr} {xs:Array Value} (x:SAt k h l xs) (e:∀o,h.get? l=some o->h'.get? l=some o):SAt k h' l xs:=by
 cases k with
 | true=>obtain⟨o,ho,r⟩:=x;exact⟨o,e o ho,r⟩
 | false=>obtain⟨o,ho,r⟩:=x;exact⟨o,e o ho,r⟩
section
variable {prog:Program} {w:World} {A:Around} {E:Value->Shared->Prop} {s:Shared} {k:Bool} {it l:Addr} {i:Nat} {xs:Array Value} {x:Value} {Q:Value->Shared->Prop}
theorem a5j (hit:SIt k s.heap it l i) (hl:SAt k s.heap l xs) (hx:xs[i]?=some x) (hQ:∀h',SIt k h' it l (i+1)->Heap.SameBut it s.heap h'->Q x { s with heap:=h' }) :
  wpAny (model prog w) A (Builtin.SmallTypes.nextOf (.ref it)) Q E s:=by
 cases k with
 | false=>exact wpAny_nextOf_list_item hit hl hx hQ
 | true =>
  have hit':s.heap.IsTupleIter it l i:=hit;obtain⟨o,ho,hc,hd⟩:=id hit';obtain⟨ol,hol,_,nl,hdl⟩:=hl;unfold Builtin.SmallTypes.nextOf;refine b4n (b5a (name:=Str.ofString "__next__") hit'.typeIs b7d (b4Z b7d hit'.typeIs F.entry_tuple_iterator_next ?_ (b9f _)));show wpAny _ _ (field (.ref it) 0 >>= _) _ _ s;refine b4n (b4Y ho hd (x:=.ref l) rfl ?_);show wpAny _ _ (if (Value.ref l==Value.none)=true then _ else _) _ _ s;rw[if_neg (show ¬((Value.ref l==Value.none)=true) from b4R)];show wpAny _ _ (field (.ref it) 1 >>= _) _ _ s;refine b4n (b4Y ho hd (x:=.int i 0) rfl (show wpAny _ _ (seqItems? (.ref l) >>= _) _ _ s from b4n (b5i hol hdl ?_)));simp only[b6x,hx];refine b4n (b8a ho hd (by simp) (b4r ⟨x,rfl,b4r (hQ _ ?_ (b6O ..))⟩));exact⟨_,b5S _ ho (b8N (b7h hd _)),(b9N ..).trans hc,by rw[b7h hd];simp[rawInt]⟩
theorem endS (hh:A.handled=none) (hit:SIt k s.heap it l i) (hl:SAt k s.heap l xs) (hx:xs[i]?=none) (hE:∀h' e,Heap.ExtBut it s.heap h'->(∃o,h'.get? e=some o/\o.cls=.type "StopIteration")->E (.ref e) { s with heap:=h' }) :
  wpAny (model prog w) A (Builtin.SmallTypes.nextOf (.ref it)) Q E s:=by
 cases k with
 | false=>exact wpAny_nextOf_list_end hh hit hl hx hE
 | true =>
  have hit':s.heap.IsTupleIter it l i:=hit;obtain⟨o,ho,hc,hd⟩:=id hit';obtain⟨ol,hol,_,nl,hdl⟩:=hl;unfold Builtin.SmallTypes.nextOf;refine b4n (b5a (name:=Str.ofString "__next__") hit'.typeIs b7d (b4Z b7d hit'.typeIs F.entry_tuple_iterator_next ?_ (b9f _)));show wpAny _ _ (field (.ref it) 0 >>= _) _ _ s;refine b4n (b4Y ho hd (x:=.ref l) rfl ?_);show wpAny _ _ (if (Value.ref l==Value.none)=true then _ else _) _ _ s;rw[if_neg (show ¬((Value.ref l==Value.none)=true) from b4R)];show wpAny _ _ (field (.ref it) 1 >>= _) _ _ s;refine b4n (b4Y ho hd (x:=.int i 0) rfl (show wpAny _ _ (seqItems? (.ref l) >>= _) _ _ s from b4n (b5i hol hdl ?_)));simp only[b6x,hx];refine b4n (b5T (b4n (b8a ho hd (by simp) ?_)));show wpAny _ _ (newExc (.type "StopIteration") [] >>= _) _ _ _;refine b4n ?_;simp only[newExc,newTuple];refine b4n (b5o ?_ (by size_fits));refine b4n (m:=firstArgMember _ _) (b9o (a:=Value.none) (by first|rfl|(simp only[firstArgMember];rfl)) ?_);refine b5o ?_ (by size_fits);simp only[raiseNew];refine b4n (wpAny_handled ?_);rw[show A.in1.handled=none from hh];refine b4n (b4r (wpAny_throw ?_));exact hE _ _ (((b6O ..).extBut.push _).push _) ⟨_,b4v _ rfl,rfl⟩
end
structure ZAt (ka kb:Bool) (z TI TO i1 i2 l1 l2:Addr) (n:Nat) (h:Heap):Prop where
 zp:IsZip h z TI TO .none
 ti:IsPair h TI (.ref i1) (.ref i2)
 to_:∃a b,IsPair h TO a b
 a1:SIt ka h i1 l1 n
 a2:SIt kb h i2 l2 n
section
variable {prog:Program} {w:World} {A:Around} {E:Value->Shared->Prop} {s:Shared} {ka kb:Bool} {z TI TO i1 i2 l1 l2:Addr} {n:Nat} {xs ys:Array Value} {x y:Value}
theorem a8Z {Q:Value->Shared->Prop} (D:ZipApart z TI TO i1 i2 l1 l2) (Z:ZAt ka kb z TI TO i1 i2 l1 l2 n s.heap) (hl1:SAt ka s.heap l1 xs) (hl2:SAt kb s.heap l2 ys) (hx:xs[n]?=some x) (hy:ys[n]?=some y)
  (hQ:∀h',IsZip h' z TI TO (rawInt s.heap.objs.size)->IsPair h' TO x y->SIt ka h' i1 l1 (n+1)->SIt kb h' i2 l2 (n+1)->IsPair h' s.heap.objs.size x y ->
   (∀c o,c≠z->c≠TO->c≠i1->c≠i2->s.heap.get? c=some o->h'.get? c=some o)->Q (.ref s.heap.objs.size) { s with heap:=h' }) :
  wpAny (model prog w) A (Builtin.«zip.__next__» ⟨[.ref z],[]⟩) (λfin s'=>∃v,fin=.done (.ret v)/\Q v s') E s:=by
 obtain⟨hz,hTI,⟨a,b,hTO⟩,h1,h2⟩:=Z;show wpAny _ _ (field (.ref z) 2 >>= _) _ _ _;refine b4n (b4Y hz rfl (x:=.bool false) rfl ?_);show wpAny _ _ (field (.ref z) 3 >>= _) _ _ _;refine b4n (b4Y hz rfl (x:=.ref TI) rfl (b4n (b5i hTI rfl ?_)));show wpAny _ _ (Builtin.SmallTypes.ownedTupleIsFree (.ref z) >>= _) _ _ _;refine b4n ?_;unfold Builtin.SmallTypes.ownedTupleIsFree;refine b4n (b4Y hz rfl (x:=.none) rfl (b4r ?_));simp only[if_true];refine b4n (b5T (b4n (b4Y hz rfl (x:=.ref TO) rfl (b4n (b5g hz (by simp) λg1 z1 b1=>?_)))));have z1':IsZip g1 z TI TO .ellipsis:=z1;have k1:∀c o,c≠z->s.heap.get? c=some o->g1.get? c=some o:=λc o hc e=>b1.extBut _ _ hc e;refine b4n ?_;simp only[b8d,b9p,b6G,b7j];refine b4n (b4n (b7X ?_));show wpAny _ _ (Builtin.SmallTypes.nextOf (.ref i1) >>= _) _ _ _;refine b4n (a5j (s:={ s with heap:=g1 }) (h1.at λo e=>k1 _ o D.i1z e) (hl1.at λo e=>k1 _ o D.l1z e) hx λg2 h12 b2=>b4r ?_);have k2:∀c o,c≠z->c≠i1->s.heap.get? c=some o->g2.get? c=some o:=λc o hc hd e=>b2.extBut _ _ hd (k1 c o hc e);have o2:IsPair g2 TO a b:=k2 _ _ D.TOz D.TOi1 hTO;refine b4n (b5i o2 rfl (b4n (b7n (s:={ s with heap:=g2 }) o2 λg3 o3 b3=>?_)));have o3':IsPair g3 TO x b:=o3;refine b4n (b6H (b4r ?_));refine b4n (b4n (b7X ?_));show wpAny _ _ (Builtin.SmallTypes.nextOf (.ref i2) >>= _) _ _ _;have k3:∀c o,c≠z->c≠i1->c≠TO->s.heap.get? c=some o->g3.get? c=some o:=λc o hc hd he e=>b3.extBut _ _ he (k2 c o hc hd e);refine b4n (a5j (s:={ s with heap:=g3 }) (h2.at λo e=>k3 _ o D.i2z D.i12.symm D.TOi2.symm e) (hl2.at λo e=>k3 _ o D.l2z D.l2i1 D.l2TO e) hy λg4 h24 b4=>b4r ?_);have o4:IsPair g4 TO x b:=b4.extBut _ _ D.TOi2 o3';refine b4n (b5i o4 rfl (b4n (b7n (s:={ s with heap:=g4 }) o4 λg5 o5 b5=>?_)));have o5':IsPair g5 TO x y:=o5;refine b4n (b6H (b4r (b4r ?_)));refine b4n (b5i o5' rfl (b4n (b7k ?_)));have sz:g5.objs.size=s.heap.objs.size:=by rw[b5.1,b4.1,b3.1,b2.1,b1.1]
 have z5:IsZip g5 z TI TO .ellipsis:=b5.extBut _ _ D.TOz.symm (b4.extBut _ _ D.i2z.symm (b3.extBut _ _ D.TOz.symm (b2.extBut _ _ D.i1z.symm z1')));have k5:∀c o,c≠z->c≠TO->c≠i1->c≠i2->s.heap.get? c=some o->g5.get? c=some o:=λc o c1 c2 c3 c4 e=>b5.extBut _ _ c2 (b4.extBut _ _ c4 (k3 c o c1 c3 c2 e));have h15:SIt ka g5 i1 l1 (n+1):=h12.at λo e=>b5.extBut _ _ D.TOi1.symm (b4.extBut _ _ D.i12 (b3.extBut _ _ D.TOi1.symm e));have h25:SIt kb g5 i2 l2 (n+1):=h24.at λo e=>b5.extBut _ _ D.TOi2.symm e;have zl:z<g5.objs.size:=b4w z5;show wpAny _ _ (Builtin.SmallTypes.ownedTupleHandOut (.ref z) (.ref g5.objs.size) >>= _) _ _ _;refine b4n ?_;unfold Builtin.SmallTypes.ownedTupleHandOut;have z6:IsZip (g5.push { cls:=.type "tuple",data:=.seq #[x,y] }) z TI TO .ellipsis:=b4o _ z5;refine b4n (b5g z6 (by simp) λg7 z7 b7=>?_)
 replace z7:IsZip g7 z TI TO (rawInt g5.objs.size):=z7
 refine b5g z7 (by simp) λg8 z8 b8=>?_
 replace z8:IsZip g8 z TI TO (rawInt g5.objs.size):=z8
 have up:∀c o,c≠z->g5.get? c=some o->g8.get? c=some o:=λc o c1 e=>b8.extBut _ _ c1 (b7.extBut _ _ c1 (b4o _ e));have p8:IsPair g8 g5.objs.size x y:=b8.extBut _ _ (b5k zl) (b7.extBut _ _ (b5k zl) (b4v _ rfl));rw[sz] at z8 p8;refine b4r ⟨_,rfl,?_⟩;show Q (.ref g5.objs.size) _;rw[sz];exact hQ g8 z8 (up _ _ D.TOz o5') (h15.at λo e=>up _ o D.i1z e) (h25.at λo e=>up _ o D.i2z e) p8 λc o c1 c2 c3 c4 e=>up c o c1 (k5 c o c1 c2 c3 c4 e)
theorem b0Q {Q:Fin->Shared->Prop} (hh:A.handled=none) (D:ZipApart z TI TO i1 i2 l1 l2) (Z:ZAt ka kb z TI TO i1 i2 l1 l2 n s.heap) (hl1:SAt ka s.heap l1 xs) (hl2:SAt kb s.heap l2 ys) (hend:xs[n]?=none\/ys[n]?=none)
  (hE:∀h' e,(∀c o,c≠z->c≠TO->c≠i1->c≠i2->s.heap.get? c=some o->h'.get? c=some o)->(∃o,h'.get? e=some o/\o.cls=.type "StopIteration")->E (.ref e) { s with heap:=h' }) :
  wpAny (model prog w) A (Builtin.«zip.__next__» ⟨[.ref z],[]⟩) Q E s:=by
 obtain⟨hz,hTI,⟨a,b,hTO⟩,h1,h2⟩:=Z;show wpAny _ _ (field (.ref z) 2 >>= _) _ _ _;refine b4n (b4Y hz rfl (x:=.bool false) rfl ?_);show wpAny _ _ (field (.ref z) 3 >>= _) _ _ _;refine b4n (b4Y hz rfl (x:=.ref TI) rfl (b4n (b5i hTI rfl ?_)));show wpAny _ _ (Builtin.SmallTypes.ownedTupleIsFree (.ref z) >>= _) _ _ _;refine b4n ?_;unfold Builtin.SmallTypes.ownedTupleIsFree;refine b4n (b4Y hz rfl (x:=.none) rfl (b4r ?_));simp only[if_true];refine b4n (b5T (b4n (b4Y hz rfl (x:=.ref TO) rfl (b4n (b5g hz (by simp) λg1 z1 b1=>?_)))));have z1':IsZip g1 z TI TO .ellipsis:=z1;have k1:∀c o,c≠z->s.heap.get? c=some o->g1.get? c=some o:=λc o hc e=>b1.extBut _ _ hc e;refine b4n ?_;simp only[b8d,b9p,b6G,b7j];refine b4n (b4n (b7X ?_));show wpAny _ _ (Builtin.SmallTypes.nextOf (.ref i1) >>= _) _ _ _;cases hx:xs[n]? with
 | none =>
  refine b4n (endS (s:={ s with heap:=g1 }) hh (h1.at λo e=>k1 _ o D.i1z e) (hl1.at λo e=>k1 _ o D.l1z e) hx λg2 e b2 ⟨oe,he,ce⟩=>?_);have z2:IsZip g2 z TI TO .ellipsis:=b2 _ _ D.i1z.symm z1';have ez:e≠z:=λq=>by subst q;rw[z2] at he;cases he;simp at ce
  exact b5g z2 (by simp) λg3 _ b3=>hE g3 e (λc o c1 _ c3 _ q=>b3.extBut _ _ c1 (b2 _ _ c3 (k1 c o c1 q))) ⟨oe,b3.extBut _ _ ez he,ce⟩
 | some x =>
  have hy:ys[n]?=none:=hend.resolve_left λq=>by rw[hx] at q;cases q
  refine b4n (a5j (s:={ s with heap:=g1 }) (h1.at λo e=>k1 _ o D.i1z e) (hl1.at λo e=>k1 _ o D.l1z e) hx λg2 h12 b2=>b4r ?_);have k2:∀c o,c≠z->c≠i1->s.heap.get? c=some o->g2.get? c=some o:=λc o hc hd e=>b2.extBut _ _ hd (k1 c o hc e);have o2:IsPair g2 TO a b:=k2 _ _ D.TOz D.TOi1 hTO;refine b4n (b5i o2 rfl (b4n (b7n (s:={ s with heap:=g2 }) o2 λg3 o3 b3=>?_)));refine b4n (b6H (b4r ?_));refine b4n (b4n (b7X ?_));show wpAny _ _ (Builtin.SmallTypes.nextOf (.ref i2) >>= _) _ _ _;have k3:∀c o,c≠z->c≠i1->c≠TO->s.heap.get? c=some o->g3.get? c=some o:=λc o hc hd he e=>b3.extBut _ _ he (k2 c o hc hd e);refine b4n (endS (s:={ s with heap:=g3 }) hh (h2.at λo e=>k3 _ o D.i2z D.i12.symm D.TOi2.symm e) (hl2.at λo e=>k3 _ o D.l2z D.l2i1 D.l2TO e) hy λg4 e b4 ⟨oe,he,ce⟩=>?_);have z4:IsZip g4 z TI TO .ellipsis:=b4 _ _ D.i2z.symm (b3.extBut _ _ D.TOz.symm (b2.extBut _ _ D.i1z.symm z1'));have ez:e≠z:=λq=>by subst q;rw[z4] at he;cases he;simp at ce
  exact b5g z4 (by simp) λg5 _ b5=>hE g5 e (λc o c1 c2 c3 c4 q=>b5.extBut _ _ c1 (b4 _ _ c4 (k3 c o c1 c3 c2 q))) ⟨oe,b5.extBut _ _ ez he,ce⟩
theorem a5k {Q:Option Value->Shared->Prop} (D:ZipApart z TI TO i1 i2 l1 l2) (Z:ZAt ka kb z TI TO i1 i2 l1 l2 n s.heap) (hl1:SAt ka s.heap l1 xs) (hl2:SAt kb s.heap l2 ys) (hx:xs[n]?=some x) (hy:ys[n]?=some y)
  (hQ:∀h',IsZip h' z TI TO (rawInt s.heap.objs.size)->IsPair h' TO x y->SIt ka h' i1 l1 (n+1)->SIt kb h' i2 l2 (n+1)->IsPair h' s.heap.objs.size x y ->
   (∀c o,c≠z->c≠TO->c≠i1->c≠i2->s.heap.get? c=some o->h'.get? c=some o)->Q (some (.ref s.heap.objs.size)) { s with heap:=h' }):wpAny (model prog w) A (pyNext (.ref z)) Q E s:=by
 have hT:s.TypeIs (.ref z) "zip":=⟨_,Z.zp,rfl⟩
 unfold pyNext;exact b4n (b6q (b5a (name:=Str.ofString "__next__") hT b6d (b4Z b6d hT b7C
  (a8Z D Z hl1 hl2 hx hy λh' a1 a2 a3 a4 a5 a7=>b4r (hQ h' a1 a2 a3 a4 a5 a7)) (b7s _))))
theorem a5l {Q:Option Value->Shared->Prop} (hh:A.handled=none) (D:ZipApart z TI TO i1 i2 l1 l2) (Z:ZAt ka kb z TI TO i1 i2 l1 l2 n s.heap) (hl1:SAt ka s.heap l1 xs) (hl2:SAt kb s.heap l2 ys) (hend:xs[n]?=none\/ys[n]?=none)
  (hQ:∀h',(∀c o,c≠z->c≠TO->c≠i1->c≠i2->s.heap.get? c=some o->h'.get? c=some o)->Q none { s with heap:=h' }):wpAny (model prog w) A (pyNext (.ref z)) Q E s:=by
 have hT:s.TypeIs (.ref z) "zip":=⟨_,Z.zp,rfl⟩
 unfold pyNext;refine b4n (b6q (b5a (name:=Str.ofString "__next__") hT b6d (b4Z b6d hT b7C (b0Q hh D Z hl1 hl2 hend λh' e hk he=>?_) (b7s _))));obtain⟨o,ho,hc⟩:=he;exact b4n (b6L (T:="StopIteration") (b:=true) ⟨o,ho,hc⟩ b8b (b4r (hQ _ hk)))
end
noncomputable def SqK (K:PySem.W.Frag):Bool->Hp->Addr->List V->Prop
 | true,H,a,xs=>SqT K H a xs
 | false,H,a,xs=>SqL K H a xs
theorem a5Q {X:Cx} {pins:List (Addr × Obj)} {σ:St} {H:Hp} {s:Shared} {k:Bool} {a:Addr} {xs:List V} (I:Inv X pins σ H s) (h:SqK X.K k H a xs):∃us,a0C xs us/\SAt k s.heap a us.toArray:=by
 cases k with
 | true =>
  obtain⟨its,rv,p,hz⟩:=I.tuple h;exact⟨its,rv,p⟩
 | false =>
  obtain⟨its,rv,p,hz⟩:=I.list h;exact⟨its,rv,p.isList⟩
theorem a2N {X:Cx} {pins:List (Addr × Obj)} {σ:St} {H:Hp} {s:Shared} {k:Bool} {a:Addr} {xs ys:List V} (I:Inv X pins σ H s) (h:SqK X.K k H a xs) (h2:SqK X.K k H a ys):xs=ys:=by
 cases k with
 | true=>exact I.tuple_inj h h2
 | false=>exact I.list_inj h h2
theorem Inv.turnedL {X:Cx} {pins:List (Addr × Obj)} {σ:St} {H:Hp} {s:Shared} {h':Heap} {t':Nat} {L:List Addr} (I:Inv X pins σ H s) (k:∀b o,b∉L->s.heap.get? b=some o->h'.get? b=some o) (hf:∀b∈L,a2w X pins H b):Inv X pins σ H { s with heap:=h',toks:=t' }:=by
 have nit:∀b u,H b=some u->b∉L:=λb u e z=>by rw[(hf b z).1] at e;cases e
 have nl:X.env.locals∉L:=λz=>(hf _ z).2.1 rfl;refine I.step (g':=s.gens) (d':=s.drawn) (ch:=L) (λb hb=>?_) (λb o _ _ hc e _=>k b o hc e) (λb o _ _ hc e _=>⟨o.slots,k b o hc e⟩) (λ_ _ _ _ n=>n)
  (λb o hc e=>⟨o,k b o hc e⟩) (λ_ _ e=>e) (λ_ _ _ e=>e) (λb ps e=>⟨#[],by rw[e];simp⟩) (λm hm=>?_) (λb u e=>?_) I.bare
 ·obtain⟨f0,f1,f2,f3,f4,f5⟩:=hf b hb;exact⟨f3,f1,f4,f5⟩
 ·obtain⟨o,es,ep,ho,r⟩:=hm;exact⟨o,es,ep,k _ o nl ho,r⟩
 ·refine(I.hok b u e).stay (λc v hc q=>k c v ?_ q) (λ_ q=>q) λ_ _ q=>q;rcases hc with z|z
  ·rw[z];exact nit b u e
  ·exact nit c _ z
noncomputable def Itz (K:PySem.W.Frag) (ka kb:Bool) (a b:Addr):It :=
 ⟨λi H=>∃xs ys x y,SqK K ka H a xs/\SqK K kb H b ys/\xs[i]?=some x/\ys[i]?=some y,
  λi H v H'=>∃p x y,v=.ref p/\H p=none/\(∀xs,SqK K ka H a xs->xs[i]?=some x)/\(∀ys,SqK K kb H b ys->ys[i]?=some y)/\H'=upd H p (.tup [x,y]),
  λi H=>∃xs ys,SqK K ka H a xs/\SqK K kb H b ys/\(xs.length<=i\/ys.length<=i)⟩
theorem ZAt.obj {ka kb:Bool} {z TI TO i1 i2 l1 l2:Addr} {n:Nat} {h:Heap} (Z:ZAt ka kb z TI TO i1 i2 l1 l2 n h):∀b∈[z,TI,TO,i1,i2],∃o,h.get? b=some o/\∀v,o.data≠.cell v:=λb hb=>by
 obtain⟨hz,hTI,⟨x,y,hTO⟩,h1,h2⟩:=Z;simp only[b4K,b5u,b7o] at hb;rcases hb with rfl|rfl|rfl|rfl|rfl
 ·exact⟨_,hz,λv z=>by cases z⟩
 ·exact⟨_,hTI,λv z=>by cases z⟩
 ·exact⟨_,hTO,λv z=>by cases z⟩
 ·exact h1.obj
 ·exact h2.obj
theorem b0R {P:Program} {w:World} {K:PySem.W.Frag} {elts:List Expr} {x1} {pos:Pos} {ka kb:Bool} {z TI TO i1 i2 a b:Addr} (D:ZipApart z TI TO i1 i2 a b):b4i P w K (.Tuple elts x1 pos) (Itz K ka kb a b) [z,TI,TO,i1,i2] z (λn h=>ZAt ka kb z TI TO i1 i2 a b n h) where
 mem:=by simp
 obj:=λi h st=>st.obj
 keep:=λi h h' ⟨hz,hTI,⟨x,y,hTO⟩,h1,h2⟩ k=>⟨k z (by simp) _ hz,k TI (by simp) _ hTI,⟨x,y,k TO (by simp) _ hTO⟩,h1.at λo e=>k i1 (by simp) o e,h2.at λo e=>k i2 (by simp) o e⟩
 item:=by
  intro X hP hw hK hc i pins s σ H E I hf st hg;subst hP hw hK;obtain⟨xs,ys,x,y,q1,q2,hx,hy⟩:=hg;obtain⟨us,r1,p1⟩:=a5Q I q1;obtain⟨vs,r2,p2⟩:=a5Q I q2;obtain⟨u,hu,ru⟩:=r1.get hx;obtain⟨v,hv,rv⟩:=r2.get hy;have lt:∀b∈[z,TI,TO,i1,i2],b<s.heap.objs.size:=λb hb=>by
   obtain⟨o,ho,_⟩:=st.obj b hb;exact b4w ho
  refine a5k D st p1 p2 (x:=u) (y:=v) (by simpa using hu) (by simpa using hv) λh' z1 o1 a1 a2 pr kk=>?_;refine⟨_,rfl,wpAny_letOwnedTupleGo_zip (s:={ s with heap:=h' }) z1 λh2 z2 b2=>?_⟩;have hT:H s.heap.objs.size=none:=I.hok.fresh (b4z _);have I1:Inv X pins σ (upd H s.heap.objs.size (.tup [x,y])) { s with heap:=s.heap.push { cls:=.type "tuple",data:=.seq #[u,v] } }:=I.laid (t':=s.toks) (λb u e=>b4o _ e) (b4z _) ⟨by show 2<=sizeLine;decide,[u,v],.cons ru (.cons rv .nil),⟨_,b4v _ rfl,_,rfl⟩⟩;have Tz:s.heap.objs.size≠z:=b5k (lt z (by simp));have fp:∀b∈[z,TI,TO,i1,i2],a2w X pins (upd H s.heap.objs.size (.tup [x,y])) b:=λb hb=>by
   obtain⟨f0,f1,f2,f3,f4,f5⟩:=hf b hb;exact⟨by rw[a0m (b4H (lt b hb))];exact f0,f1,f2,f3,f4,f5⟩
  have I2:=I1.turnedL (h':=h2) (t':=s.toks) (λc o hc e=>by
   simp only[b4K,b5u,b7o,not_or] at hc;by_cases zc:c=s.heap.objs.size
   ·subst zc;rw[b4v _ rfl] at e;cases e;exact b2.extBut _ _ Tz pr
   ·have e':s.heap.get? c=some o:=by rw[<-e];exact(b8D _ _ _ zc).symm
    exact b2.extBut _ _ hc.1 (kk c o hc.1 hc.2.2.1 hc.2.2.2.1 hc.2.2.2.2 e')) fp
  refine⟨.ref s.heap.objs.size,_,I2,rfl,⟨_,x,y,rfl,hT,λzs hz=>?_,λzs hz=>?_,rfl⟩,⟨z2,b2.extBut _ _ D.TIz (kk _ _ D.TIz D.TITO D.TIi1 D.TIi2 st.ti),⟨u,v,b2.extBut _ _ D.TOz o1⟩,a1.at λo e=>b2.extBut _ _ D.i1z e,a2.at λo e=>b2.extBut _ _ D.i2z e⟩,λb hb=>(fp b hb).1⟩
  ·rw[a2N I hz q1];exact hx
  ·rw[a2N I hz q2];exact hy
 done:=by
  intro X hP hw hK hc i pins s σ H E I hf st hg;subst hP hw hK;obtain⟨xs,ys,q1,q2,hl⟩:=hg;obtain⟨us,r1,p1⟩:=a5Q I q1;obtain⟨vs,r2,p2⟩:=a5Q I q2;have e1:=r1.length;have e2:=r2.length;refine a5l (I.ok.hd hc) D st p1 p2 (hl.elim (λq=>.inl (by simp;omega)) λq=>.inr (by simp;omega)) λh' kk=>⟨rfl,I.turnedL (t':=s.toks) (λc o hc e=>?_) hf⟩
  simp only[b4K,b5u,b7o,not_or] at hc;exact kk c o hc.1 hc.2.2.1 hc.2.2.2.1 hc.2.2.2.2 e
 self:=λ_ _ _ _ _ st h=>b8e st.zp h
noncomputable def itO (k:Bool) (l:Addr):Obj:=match k with
 | true=>{ cls:=.type "tuple_iterator",data:=.fields #[.ref l,.int 0 0] }
 | false=>{ cls:=.type "list_iterator",data:=.fields #[.ref l,.int 0 0] }
theorem a5R {prog:Program} {w:World} {A:Around} {E:Value->Shared->Prop} {s:Shared} {k:Bool} {l:Addr} {xs:Array Value} {Q:Value->Shared->Prop} (h:SAt k s.heap l xs) (hQ:Q (.ref s.heap.objs.size) { s with heap:=s.heap.push (itO k l) }) :
  wpAny (model prog w) A (pyIter (.ref l)) Q E s:=by
 cases k with
 | true=>exact b9y h hQ
 | false=>exact b6w h hQ
theorem a4i {k:Bool} {l:Addr}:(itO k l).isFreed=false:=by cases k<;>rfl
theorem SIt.new {k:Bool} {l i:Addr} {h:Heap} (e:h.get? i=some (itO k l)):SIt k h i l 0:=by
 cases k with
 | true=>exact⟨_,e,rfl,rfl⟩
 | false=>exact⟨_,e,rfl,rfl⟩
noncomputable def b0S (h:Heap) (ka kb:Bool) (l1 l2:Addr):Heap:=((((h.push (itO ka l1)).push (itO kb l2)).push { cls:=.type "tuple",data:=.seq #[.ref h.objs.size,.ref (h.push (itO ka l1)).objs.size] }).push { cls:=.type "tuple",data:=.seq #[.none,.none] }).push
 { cls:=.type "zip",data:=.fields #[.none,.bool false,.bool false,.ref ((h.push (itO ka l1)).push (itO kb l2)).objs.size,.ref (((h.push (itO ka l1)).push (itO kb l2)).push { cls:=.type "tuple",data:=.seq #[.ref h.objs.size,.ref (h.push (itO ka l1)).objs.size] }).objs.size] }
theorem meetsS (ka kb:Bool) (l1 l2:Addr) (xs ys:Array Value) :
  Meets (Builtin.«zip.__new__» ⟨[.type "zip",.ref l1,.ref l2],[]⟩) (λ_ R s=>SAt ka s.heap l1 xs/\SAt kb s.heap l2 ys/\R (.ok (.ret (.ref (s.heap.objs.size+4)))) { s with heap:=b0S s.heap ka kb l1 l2 }) :=
 .of_wp λprog w A R s h=>by
  obtain⟨hp,g,d,tk,os⟩:=s;obtain⟨hl1,hl2,h⟩:=h;have hsub:=sub_zip;have hL1:SAt ka (Shared.heap ⟨hp,g,d,tk,os⟩) l1 xs:=hl1;have hL2:SAt kb (Shared.heap ⟨hp.push (itO ka l1),g,d,tk,os⟩) l2 ys:=hl2.at λo e=>b4o _ e
  wp_walk using a5R hL1,a5R hL2
  refine⟨_,rfl,?_⟩;have z:((((hp.push (itO ka l1)).push (itO kb l2)).push { cls:=.type "tuple",data:=.seq #[.ref hp.objs.size,.ref (hp.push (itO ka l1)).objs.size] }).push { cls:=.type "tuple",data:=.seq #[.none,.none] }).objs.size=hp.objs.size+4:=by
   rw[b4X,b4X,b4X,b4X]
  rw[<-z] at h;exact h
theorem callS {prog:Program} {w:World} {A:Around} {E:Value->Shared->Prop} {s:Shared} {ka kb:Bool} {l1 l2:Addr} {xs ys:Array Value} {Q:Value->Shared->Prop} (h1:SAt ka s.heap l1 xs) (h2:SAt kb s.heap l2 ys)
  (h:∀h',ZAt ka kb (s.heap.objs.size+4) (s.heap.objs.size+2) (s.heap.objs.size+3) s.heap.objs.size (s.heap.objs.size+1) l1 l2 0 h'->(∀c o,s.heap.get? c=some o->h'.get? c=some o)->Q (.ref (s.heap.objs.size+4)) { s with heap:=h' }) :
  wpAny (model prog w) A (call (.type "zip") [.ref l1,.ref l2]) Q E s:=by
 refine callType_new F.called_zip (by decide) (F.typeCall_zip_2 _ _) (F.newCall_zip_2 _ _) (λobj=>F.args_object_init_3 obj _ _) F.entry_zip_new (meetsS ka kb l1 l2 xs ys) ⟨h1,h2,?_⟩;have kp:∀c o,s.heap.get? c=some o->(b0S s.heap ka kb l1 l2).get? c=some o:=λc o x=>b4o _ (b4o _ (b4o _ (b4o _ (b4o _ x))));have z1:(s.heap.push (itO ka l1)).objs.size=s.heap.objs.size+1:=b4X ..;have z2:((s.heap.push (itO ka l1)).push (itO kb l2)).objs.size=s.heap.objs.size+2:=by rw[b4X,z1]
 have z3:(((s.heap.push (itO ka l1)).push (itO kb l2)).push { cls:=.type "tuple",data:=.seq #[.ref s.heap.objs.size,.ref (s.heap.push (itO ka l1)).objs.size] }).objs.size=s.heap.objs.size+3:=by rw[b4X,z2]
 have z4:((((s.heap.push (itO ka l1)).push (itO kb l2)).push { cls:=.type "tuple",data:=.seq #[.ref s.heap.objs.size,.ref (s.heap.push (itO ka l1)).objs.size] }).push { cls:=.type "tuple",data:=.seq #[.none,.none] }).objs.size=s.heap.objs.size+4:=by rw[b4X,z3]
 have g1:(b0S s.heap ka kb l1 l2).get? s.heap.objs.size=some (itO ka l1):=b4o _ (b4o _ (b4o _ (b4o _ (b4v _ a4i))));have g2:(b0S s.heap ka kb l1 l2).get? (s.heap.objs.size+1)=some (itO kb l2):=by rw[<-z1];exact b4o _ (b4o _ (b4o _ (b4v _ a4i)))
 have g3:(b0S s.heap ka kb l1 l2).get? (s.heap.objs.size+2)=some { cls:=.type "tuple",data:=.seq #[.ref s.heap.objs.size,.ref (s.heap.objs.size+1)] }:=by
  rw[<-z2];have q:(b0S s.heap ka kb l1 l2).get? ((s.heap.push (itO ka l1)).push (itO kb l2)).objs.size=some { cls:=.type "tuple",data:=.seq #[.ref s.heap.objs.size,.ref (s.heap.push (itO ka l1)).objs.size] }:=b4o _ (b4o _ (b4v _ rfl));rw[z1] at q;exact q
 have g4:(b0S s.heap ka kb l1 l2).get? (s.heap.objs.size+3)=some { cls:=.type "tuple",data:=.seq #[.none,.none] }:=by rw[<-z3];exact b4o _ (b4v _ rfl)
 have g5:(b0S s.heap ka kb l1 l2).get? (s.heap.objs.size+4)=some { cls:=.type "zip",data:=.fields #[.none,.bool false,.bool false,.ref (s.heap.objs.size+2),.ref (s.heap.objs.size+3)] }:=by
  rw[<-z4];have q:(b0S s.heap ka kb l1 l2).get? ((((s.heap.push (itO ka l1)).push (itO kb l2)).push { cls:=.type "tuple",data:=.seq #[.ref s.heap.objs.size,.ref (s.heap.push (itO ka l1)).objs.size] }).push { cls:=.type "tuple",data:=.seq #[.none,.none] }).objs.size=some { cls:=.type "zip",data:=.fields #[.none,.bool false,.bool false,.ref ((s.heap.push (itO ka l1)).push (itO kb l2)).objs.size,.ref (((s.heap.push (itO ka l1)).push (itO kb l2)).push { cls:=.type "tuple",data:=.seq #[.ref s.heap.objs.size,.ref (s.heap.push (itO ka l1)).objs.size] }).objs.size] }:=b4v _ rfl;rw[z2,z3] at q;exact q
 show _/\_;exact⟨⟨_,g5,rfl⟩,h _ ⟨g5,g3,⟨_,_,g4⟩,.new g1,.new g2⟩ kp⟩
theorem b2Z:bootBuiltins "zip"=some (.type "zip"):=by decide +kernel
noncomputable def iZip (K:PySem.W.Frag) (ka kb:Bool) (ta:TA):TI:=λσ H R=>ta σ H λvs H1=>∃a b xs ys,vs=[.ref a,.ref b]/\SqK K ka H1 a xs/\SqK K kb H1 b ys/\R (Itz K ka kb a b) H1
theorem pi_zip {X:Cx} {elts:List Expr} {x1} {tp:Pos} {a b:Expr} {ta:TA} {p pos:Pos} (ka kb:Bool) (hg:Gl X "zip") (hm:X.mg "zip"=none) (ha:PA X [a,b] ta) (hs:starEach [a,b] X.env=[(false,eval a X.env),(false,eval b X.env)]:=by rfl) (hs2:starEach [b] X.env=[(false,eval b X.env)]:=by rfl) :
  PI X (.Tuple elts x1 tp) (.Call (.Name "zip" p) [a,b] [] pos) (iZip X.K ka kb ta):=by
 intro pins s σ H R I h;refine Call_ (a1l I hg hm b2Z (b5F (thn (ha pos pins s σ H _ I h) λus s1 ⟨vs,H1,I1,r1,q1⟩=>?_) (by rw[hs,hs2]) (by rw[hs2];rfl)));obtain⟨a',b',xs,ys,e,q1,q2,q⟩:=q1;subst e;obtain⟨u,v,rfl,r1,r2⟩:=r1.two;cases r1;cases r2;obtain⟨us,e1,p1⟩:=a5Q I1 q1;obtain⟨vs,e2,p2⟩:=a5Q I1 q2;have lt:∀{k:Bool} {l:Addr} {zs:Array Value},SAt k s1.heap l zs->l<s1.heap.objs.size:=λ{k l zs} x=>by
  cases k with
  | true=>obtain⟨o,ho,_⟩:=x;exact b4w ho
  | false=>obtain⟨o,ho,_⟩:=x;exact b4w ho
 have t1:=lt p1;have t2:=lt p2;refine callS p1 p2 λh' Z kp=>b8e (s:={ s1 with heap:=h' }) Z.zp ?_;have D:ZipApart (s1.heap.objs.size+4) (s1.heap.objs.size+2) (s1.heap.objs.size+3) s1.heap.objs.size (s1.heap.objs.size+1) a' b':=by
  have t1':@LT.lt Nat _ a' s1.heap.objs.size:=t1;have t2':@LT.lt Nat _ b' s1.heap.objs.size:=t2;constructor<;>(show ¬(@Eq Nat _ _);omega)
 refine⟨_,[s1.heap.objs.size+4,s1.heap.objs.size+2,s1.heap.objs.size+3,s1.heap.objs.size,s1.heap.objs.size+1],_,_,H1,rfl,I1.kept (t':=s1.toks) kp,b0R D,Z,λc hc=>?_,q⟩;have ge:s1.heap.objs.size<=c:=by
  simp only[b4K,b5u,b7o] at hc;rcases hc with rfl|rfl|rfl|rfl|rfl<;>omega
 exact I1.fpOk ge (I1.hok.fresh ge)
noncomputable def a5S (tc:TT) (te:TE) (σ:St) (d:Addr) (x y:V) (H:Hp) (Z:Hp->Prop):Prop :=
 tc (some x::some y :: σ) H λb H3=>if b=true then te (some x::some y :: σ) H3 λv H4=>∃ys,H4 d=some (.lst ys)/\ys.length<sizeLine/\Z (upd H4 d (.lst (ys++[v]))) else Z H3
noncomputable def tCompZ (K:PySem.W.Frag) (ka kb:Bool) (ta:TA) (tc:TT) (te:TE):TE:=λσ H Q=>ta σ H λvs H1=>∃a b xs ys,vs=[.ref a,.ref b]/\SqK K ka H1 a xs/\SqK K kb H1 b ys/\xs.length=ys.length/\∀d,H1 d=none ->
 ∃Pv:Nat->Hp->Prop,Pv 0 (upd H1 d (.lst []))/\(∀i H,i<=xs.length->Pv i H->SqK K ka H a xs/\SqK K kb H b ys)/\(∀i x y p H,xs[i]?=some x->ys[i]?=some y->Pv i H->H p=none->a5S tc te σ d x y (upd H p (.tup [x,y])) (Pv (i+1)))/\∀H,Pv xs.length H->Q (.ref d) H
noncomputable def a5m (K:PySem.W.Frag):TG:=gTup K 2 (b2H (a1Y 0) (b2H (a1Y 1) gNil))
theorem a3i {K:PySem.W.Frag} {v:V} {σ:St} {H:Hp} {Q:St->Hp->Prop} (h:a5m K v (List.replicate 2 none++σ) H Q):a5m K v (List.replicate 2 none++σ) H λσ2 H2=>(∃l:St,l.length=2/\σ2=l++σ)/\Q σ2 H2:=by
 obtain⟨a,xs,e,hq,hl,v1,r1,e1,v2,r2,e2,e3,q⟩:=h;exact⟨a,xs,e,hq,hl,v1,r1,e1,v2,r2,e2,e3,⟨[some v1,some v2],rfl,rfl⟩,q⟩
theorem b0T {K:PySem.W.Frag} {ka kb:Bool} {a b:Addr} {xs ys:List V} {tc:TT} {te:TE} {σ:St} {H:Hp} {Q:VK} {d:Addr} (hlen:xs.length=ys.length) (Pv:Nat->Hp->Prop) (h0:Pv 0 (upd H d (.lst []))) (hl:∀i H,i<=xs.length->Pv i H->SqK K ka H a xs/\SqK K kb H b ys)
  (hs:∀i x y p H,xs[i]?=some x->ys[i]?=some y->Pv i H->H p=none->a5S tc te σ d x y (upd H p (.tup [x,y])) (Pv (i+1)))
  (hd:∀H,Pv xs.length H->Q (.ref d) H) :
  ∃W:Nat->Nat->Hp->Prop,(∃m,W 0 m (upd H d (.lst [])))/\∀i m H,W i m H ->
   ((Itz K ka kb a b).stop i H/\Q (.ref d) H)\/((Itz K ka kb a b).go i H/\∃N:Hp->Prop,(∀H',N H'->∃m',m'<m/\W (i+1) m' H')/\∀x H',(Itz K ka kb a b).yld i H x H'->a5m K x (List.replicate 2 none++σ) H' λσ2 H2 =>
    tc σ2 H2 λb H3=>if b=true then te σ2 H3 λy H4=>∃ys,H4 d=some (.lst ys)/\ys.length<sizeLine/\N (upd H4 d (.lst (ys++[y]))) else N H3):=by
 refine⟨λi m H=>m=xs.length-i/\i<=xs.length/\Pv i H,⟨xs.length,by simp,b5j _,h0⟩,?_⟩;rintro i m H ⟨rfl,hi,p⟩;obtain⟨q1,q2⟩:=hl i H hi p;by_cases hlt:i<xs.length
 ·refine .inr ⟨⟨xs,ys,_,_,q1,q2,b4q hlt,b4q (by omega)⟩,Pv (i+1),λH' n=>⟨xs.length-(i+1),by omega,rfl,by omega,n⟩,?_⟩;rintro v H' ⟨p',x,y,rfl,hn,e1,e2,rfl⟩;exact⟨p',[x,y],rfl,SqT.of a0b,rfl,x,[y],rfl,y,[],rfl,rfl,hs i x y p' H (e1 _ q1) (e2 _ q2) p hn⟩
 ·have e:i=xs.length:=by omega
  subst e;exact .inl ⟨⟨xs,ys,q1,q2,.inl (b4z _)⟩,hd H p⟩
theorem a6I {X:Cx} (K:PySem.W.Frag) (ka kb:Bool) {elt a b:Expr} {t1 t2:Str} {p1 p2 tp p pos pos':Pos} {k:Nat} {cs:List Expr} {scope:Scope} {tc:TT} {te:TE} {ta:TA} {M:List Str} (hc:X.calm=true) (S:a0k scope X.env X.N M) (nd:(t1::t2::M).Nodup) (hl1:scope.names.lookup t1=some .local) (hl2:scope.names.lookup t2=some .local)
  (hg:Gl X "zip") (hm:X.mg "zip"=none) (ha:PA X [a,b] ta) (mo:a7K ta)
  (hin:∀(cl:List (Str × Addr)) (C:Addr) (s0:Shared) (H0:Hp) (fp:List Addr) (pins:List (Addr × Obj)) (σ:St),b4j X (cxC X scope cl C s0 H0 fp (t1::t2::M)) pins σ fp C s0 H0->PTs (cxC X scope cl C s0 H0 fp (t1::t2::M)) cs tc/\PE (cxC X scope cl C s0 H0 fp (t1::t2::M)) elt te)
  (hs:starEach [a,b] X.env=[(false,eval a X.env),(false,eval b X.env)]:=by rfl) (hs2:starEach [b] X.env=[(false,eval b X.env)]:=by rfl) (hf:∀x,foldedSetIterable (.Call (.Name "zip" p) [a,b] [] pos') X.env x=pure x:=by intro _;rfl) (hK:X.K=K:=by rfl) :
  PE X (.ListComp elt [⟨.Tuple [.Name t1 p1,.Name t2 p2] k tp,.Call (.Name "zip" p) [a,b] [] pos',cs,0⟩] scope pos) (tCompZ K ka kb ta tc te):=by
 subst hK;have hx1:(relabel scope X.env).names.lookup t1=some .local:=by rw[a0x,hl1];rfl
 have hx2:(relabel scope X.env).names.lookup t2=some .local:=by rw[a0x,hl2];rfl
 refine PE.imp (a4f (xs:=[t1,t2]) (M:=M) (g:=a5m X.K) hc S (pi_zip ka kb hg hm ha hs hs2) (λcl C s0 H0 fp pins σ bk=>⟨a8u hc (a1m (a0F (i:=0) nd rfl (Or.inl hx1) (Or.inr hx1)) (a1m (a0F (i:=1) nd rfl (Or.inl hx2) (Or.inr hx2)) a3Z)),hin cl C s0 H0 fp pins σ bk⟩) (λv σ H Q h=>a3i h) hf) (λσ H Q h=>?_);refine mo σ H _ _ (λvs H1 q=>?_) h;obtain⟨a',b',xs,ys,e,q1,q2,hlen,q⟩:=q;refine⟨a',b',xs,ys,e,q1,q2,λd hd=>?_⟩;obtain⟨Pv,h0,hl,hs,hd⟩:=q d hd;exact b0T hlen Pv h0 hl hs hd
section
variable {κ:Type} [DecidableEq κ]
noncomputable def valV (kvs:List (κ × V)) (k:κ):Option V:=(kvs.find? λkv=>decide (kv.1=k)).map (·.2)
noncomputable def putK (kvs:List (κ × V)) (k:κ) (v:V):List (κ × V) :=
 if (kvs.any λkv=>decide (kv.1=k))=true then kvs.map (λkv=>if kv.1=k then (kv.1,v) else kv) else kvs++[(k,v)]
noncomputable def dropK (kvs:List (κ × V)) (k:κ):List (κ × V):=kvs.filter λkv=>decide (kv.1≠k)
theorem b0F.isSome_eq {o:Option V} {u:Option Value} (r:b0F o u):o.isSome=u.isSome:=by
 cases o with
 | none=>cases u with
  | none=>rfl
  | some _=>exact(show False from r).elim
 | some _=>cases u with
  | none=>exact(show False from r).elim
  | some _=>rfl
end
abbrev KT (H:Hp):List (List Key × V)->List (List Key × Addr × Value)->Prop:=Paired λp q=>p.1=q.1/\H q.2.1=some (.tup (p.1.map kV))/\a0T p.2 q.2.2
section
variable {P:Program} {w:World} {H:Hp} {h:Heap} {a:Addr}
theorem rd_of {u:HO} (ok:HOk P w H h) (e:Rd H a u):a0B P w H h a u:=e.ok ok
theorem dk_rd {kvs:List (Key × V)} (ok:HOk P w H h) (e:Rd H a (.dK kvs)):kvs.length<=sizeLine/\(a==sysModules)=false/\∃vs,KV kvs vs/\h.DictOf (a3Y P w) a vs :=
 show a0B P w H h a (.dK kvs) from rd_of ok e
theorem dk_of {kvs:List (Key × V)} (ok:HOk P w H h) (e:H a=some (.dK kvs)):kvs.length<=sizeLine/\(a==sysModules)=false/\∃vs,KV kvs vs/\h.DictOf (a3Y P w) a vs:=dk_rd ok (.inl e)
end
noncomputable def DGet (H:Hp) (a:Addr) (y:V) (r:Option V):Prop :=
 (∃kvs k,Rd H a (.dK kvs)/\y=kV k/\r=valV kvs k)\/∃kvs k b,Rd H a (.dT kvs)/\y=.ref b/\H b=some (.tup (k.map kV))/\r=valV kvs k
noncomputable def DPut (H:Hp) (a:Addr) (y v:V) (H':Hp):Prop :=
 (∃kvs k,H a=some (.dK kvs)/\y=kV k/\kvs.length<sizeLine/\H'=upd H a (.dK (putK kvs k v))) \/
 ∃kvs k b,H a=some (.dT kvs)/\y=.ref b/\H b=some (.tup (k.map kV))/\kvs.length<sizeLine/\H'=upd H a (.dT (putK kvs k v))
section
variable {X:Cx} {pins:List (Addr × Obj)} {σ:St} {H:Hp} {s:Shared} {a:Addr} {y v:V} {u r:Value} {o:Option V} {A:Around} {E:Value->Shared->Prop}
theorem Inv.big (I:Inv X pins σ H s):sysModules<s.heap.objs.size:=by
 have h:mainGlobals<s.heap.objs.size:=(I.mod.glob.keeps I.bk).lt;exact b9B (by decide) h
theorem b3a {h':Heap} {t':Nat} {ob:HO} (I:Inv X pins σ H s) (mu:Mut (H a)) (hs:Heap.SameBut a s.heap h') (he:∃q,h'.get? a=some q) (new:a0B X.prog X.w (upd H a ob) h' a ob) :
  Inv X pins σ (upd H a ob) { s with heap:=h',toks:=t' } :=
 I.write (x:=a) (e:=a) mu (.inl rfl) (λb q hb z=>(hs.2 b hb).trans z) he new
end
section
variable {X:Cx} {pins:List (Addr × Obj)} {σ:St} {H:Hp} {s:Shared} {a:Addr} {kvs:List (Key × V)} {k:Key} {u:Value} {A:Around} {E:Value->Shared->Prop}
end
noncomputable def NoSl (i:Expr):Prop:=∀ov iv,subscripted i false ov iv=operate [ov,iv] (getItem ov iv)
theorem b3b {prog:Program} {w:World} {A:Around} {E:Value->Shared->Prop} {s:Shared} {env:Env} {value slice:Expr} {pos:Pos} {T id:String} {Q:Value->Shared->Prop}
  (hl:typeLookup (.type T) "__getitem__"=pure (some (.builtin id))) (hs:NoSl slice)
  (h:wpAny (model prog w) A (eval value env) (λo s₁=>wpAny (model prog w) A (eval slice env) (λi s₂=>s₂.TypeIs o T/\wpAny (model prog w) A (getItem o i) Q E s₂) E s₁) E s) :
  wpAny (model prog w) A (eval (.Subscript value slice pos) env) Q E s:=by
 refine Subscript_ (b6Y h (λo s₁ h₁=>b6Y h₁ (λi s₂ h₂=>?_) λ_ _ x=>x) λ_ _ x=>x);obtain⟨hT,h₂⟩:=h₂;unfold subscriptTail;refine b4n ?_;rw[getitemInPython_of_ne hT.not_modules];refine b4n (b7a hT hl ?_);have fin:wpAny (model prog w) A (subscripted slice false o i) (λr s₃=>wpAny (model prog w) A (letTemporaryGo value o r >>= λ_=>pure r) Q E s₃) E s₂:=by
  rw[hs o i];exact wpAny_operating (b6Y h₂ (λr s₃ h₃=>b4n (wpAny_letTemporaryGo (b4r h₃))) λ_ _ x=>x)
 first
  | exact b4r (b4n fin)
  | exact b4n (b4r (b4n fin))
  | exact b4n fin
noncomputable def tDGet (td ty:TE):TE:=λσ H Q=>td σ H λx H1=>ty σ H1 λy H2=>∃a v,x=.ref a/\DGet H2 a y (some v)/\Q v H2
noncomputable def tDIn (ty td:TE):TE:=λσ H Q=>ty σ H λy H1=>td σ H1 λx H2=>∃a o,x=.ref a/\DGet H2 a y o/\Q (.bl o.isSome) H2
noncomputable def sDPut (td ty tv:TE):TS:=λD σ H=>tv σ H λv H1=>td σ H1 λx H2=>ty σ H2 λy H3=>∃a H4,x=.ref a/\DPut H3 a y v H4/\D.nx σ H4
noncomputable def sDAug (td ty tv:TE) (rd:V->V->Hp->VK->Prop):TS:=λD σ H=>td σ H λx H1=>ty σ H1 λy H2=>∃a v,x=.ref a/\DGet H2 a y (some v) /\
 tv σ H2 λy2 H3=>rd v y2 H3 λz H4=>∃H5,DPut H4 a y z H5/\D.nx σ H5
noncomputable def sDDel (td ty:TE):TS:=λD σ H=>td σ H λx H1=>ty σ H1 λy H2=>∃a kvs k,x=.ref a/\H2 a=some (.dK kvs)/\y=kV k/\(valV kvs k).isSome=true/\D.nx σ (upd H2 a (.dK (dropK kvs k)))
section
variable {X:Cx} {o i e value:Expr} {pos pos' tpos:Pos} {td ty tv:TE}
end
theorem b0U {P:Program} {w:World} {H:Hp} (h:Heap) (hb:sysModules<h.objs.size):a0B P w H (h.push { cls:=.type "dict",data:=.dict #[] }) h.objs.size (.dK []) :=
 ⟨b5j _,b9k.mpr (Ne.symm (b4H hb)),[],.nil,Heap.DictOf.new h⟩
noncomputable def tDNewK:TE:=λ_ H Q=>∀p,H p=none->Q (.ref p) (upd H p (.dK []))
section
variable {X:Cx} {pos:Pos}
theorem a6J:PE X (.Dict [] [] pos) tDNewK:=λpins s σ H Q I h =>
 wpAny_Dict_empty ⟨.ref s.heap.objs.size,_,I.laid (a:=s.heap.objs.size) (o:=.dK []) (t':=s.toks) (λ_ _ q=>b4o _ q) (b4z _) (b0U s.heap I.big),rfl,h _ (I.hok.fresh (b4z _))⟩
end
noncomputable def b2d:List (TE × TE)->St->Hp->(List (V × V)->Hp->Prop)->Prop
 | [],_,H,Q=>Q [] H
 | (tk,tv)::r,σ,H,Q=>tk σ H λx H1=>tv σ H1 λy H2=>b2d r σ H2 λps H3=>Q ((x,y)::ps) H3
noncomputable def mergeK (kvs more:List (Key × V)):List (Key × V):=more.foldl (λacc kv=>putK acc kv.1 kv.2) kvs
noncomputable def tDisp (trs:List (TE × TE)):TE:=λσ H Q=>∀p,H p=none->b2d trs σ (upd H p (.dK [])) λps H2=>H2 p=some (.dK [])/\∃kvs:List (Key × V),ps=kvs.map (λkv=>(kV kv.1,kv.2))/\kvs.length<=15/\Q (.ref p) (upd H2 p (.dK (mergeK [] kvs)))
structure M1 (X:Cx) (o:Expr) (m:Str) (apos:Pos) (e:Expr) (cpos:Pos):Prop where
 base:attributeBase o m X.env (eval o X.env)=eval o X.env
 few:((backTo cpos (starEach [e] X.env)).all (λx=>!x.1)&&(backToKw cpos (keywordEach [] X.env)).all (λx=>x.1.isSome)
  && decide (([e]:List Expr).length+([]:List Keyword).length+(if ([]:List Keyword).isEmpty then 0 else 1)<30))=true
 line:(apos.endLine==cpos.line)=true
 trees:backTo cpos (starEach [e] X.env)=[(false,eval e X.env)]
noncomputable def IsD (H:Hp) (a:Addr):Prop:=(∃kvs,Rd H a (.dK kvs))\/∃kvs,Rd H a (.dT kvs)
section
variable {X:Cx} {pins:List (Addr × Obj)} {σ:St} {H:Hp} {s:Shared} {a:Addr} {y d:V} {u r:Value} {o:Option V} {A:Around} {E:Value->Shared->Prop}
end
noncomputable def tDPop1 (td ty:TE):TE:=λσ H Q=>td σ H λx H1=>∃a,x=.ref a/\IsD H1 a/\ty σ H1 λy H2=>∃kvs k v,H2 a=some (.dK kvs)/\y=kV k/\valV kvs k=some v/\Q v (upd H2 a (.dK (dropK kvs k)))
section
variable {X:Cx} {o e f:Expr} {apos cpos:Pos} {td ty tx:TE}
end
section
variable {X:Cx} {pins:List (Addr × Obj)} {σ:St} {H:Hp} {s:Shared} {a:Addr} {kvs:List (Key × V)} {A:Around} {E:Value->Shared->Prop}
end
section
variable {X:Cx} {pins:List (Addr × Obj)} {σ:St} {H:Hp} {s:Shared} {a:Addr} {y:V} {u:Value} {A:Around} {E:Value->Shared->Prop}
end
noncomputable def a2b (h:Heap) (d:Addr) (es:Array DictEntry) (ep:Nat):Prop:=∃o,h.get? d=some o/\o.ExactDict/\o.data=.dict es ep
section
variable {prog:Program} {w:World} {A:Around} {E:Value->Shared->Prop} {s:Shared} {it d:Addr} {i ep:Nat} {es:Array DictEntry}
theorem b3c {e:DictEntry} {Q:Option Value->Shared->Prop} (hit:s.heap.IsKeyIter it d i es.size ep) (hm:a2b s.heap d es ep) (hx:es[i]?=some e)
  (hQ:∀h',h'.IsKeyIter it d (i+1) es.size ep->Heap.SameBut it s.heap h'->Q (some e.key) { s with heap:=h' }):wpAny (model prog w) A (pyNext (.ref it)) Q E s:=by
 obtain⟨o,ho,hc,hd⟩:=id hit;obtain⟨od,hod,hcd,hdd⟩:=hm;have hT:=hit.typeIs;unfold pyNext;refine b4n (b6q (b5a (name:=Str.ofString "__next__") hT b6C (b4Z b6C hT b8Z ?_ (b8O _))));unfold Builtin.«dict_keyiterator.__next__»
 repeat (first|with_reducible refine b6X hT ?_|with_reducible refine b9H ho hd ?_|with_reducible refine b7t hod hdd ?_|with_reducible refine b7Q hod hdd ?_|with_reducible refine b7R hT ?_|wp_step)
 have em:(if (i:Int)<0 then none else es[(i:Int).toNat]?)=some e:=by rw[if_neg (by omega),b6x,hx]
 rw[em];refine b4n (b4n (b6X hT (b4r ?_)));refine b4n (b7R hT ?_);show wpAny _ _ (setField (.ref it) 1 (rawInt ((i:Int)+1)) >>= _) _ _ s;refine b4n (b8a ho hd (by simp) ?_);have hit':(s.heap.update it (Obj.mapFields (·.setIfInBounds 1 (rawInt ((i:Int)+1))))).IsKeyIter it d (i+1) es.size ep :=
  ⟨_,b5S _ ho (b8N (b7h hd _)),(b9N ..).trans hc,by rw[b7h hd];simp[rawInt]⟩
 refine b4n (b4T (b4n (b7R (s:={ s with heap:=s.heap.update it (Obj.mapFields (·.setIfInBounds 1 (rawInt ((i:Int)+1)))) }) hit'.typeIs ?_)));show wpAny _ _ (pure e.key) _ _ _;exact b4r (b4r ⟨_,rfl,b4r (hQ _ hit' (b6O ..))⟩)
theorem b3d {Q:Option Value->Shared->Prop} (hh:A.handled=none) (hit:s.heap.IsKeyIter it d i es.size ep) (hm:a2b s.heap d es ep) (hx:es[i]?=none) (hQ:∀h',Heap.ExtBut it s.heap h'->Q none { s with heap:=h' }) :
  wpAny (model prog w) A (pyNext (.ref it)) Q E s:=by
 obtain⟨o,ho,hc,hd⟩:=id hit;obtain⟨od,hod,hcd,hdd⟩:=hm;have hT:=hit.typeIs;unfold pyNext;refine b4n (b6q (b5a (name:=Str.ofString "__next__") hT b6C (b4Z b6C hT b8Z ?_ (b8O _))));unfold Builtin.«dict_keyiterator.__next__»
 repeat (first|with_reducible refine b6X hT ?_|with_reducible refine b9H ho hd ?_|with_reducible refine b7t hod hdd ?_|with_reducible refine b7Q hod hdd ?_|with_reducible refine b7R hT ?_|wp_step)
 have em:(if (i:Int)<0 then none else es[(i:Int).toNat]?)=none:=by rw[if_neg (by omega),b6x,hx]
 rw[em];refine b4n (b4n (b6X hT (b4r ?_)));show wpAny _ _ (setField (.ref it) 0 .none >>= _) _ _ s;refine b4n (b8a ho hd (by simp) ?_);show wpAny _ _ (newExc (.type "StopIteration") [] >>= _) _ _ _;refine b4n ?_;simp only[newExc,newTuple];refine b4n (b5o ?_ (by size_fits));refine b4n (m:=firstArgMember _ _) (b9o (a:=Value.none) (by first|rfl|(simp only[firstArgMember];rfl)) ?_);refine b5o ?_ (by size_fits);simp only[raiseNew];refine b4n (wpAny_handled ?_);rw[show A.in1.handled=none from hh];refine b4n (b4r (wpAny_throw ?_));refine b4n (b6L (T:="StopIteration") (b:=true) ⟨_,b4v _ rfl,rfl⟩ b8b ?_);exact b4r (hQ _ (((b6O ..).extBut.push _).push _))
theorem b3e {Q:Value->Shared->Prop} (hd:(d==sysModules)=false) (hm:a2b s.heap d es ep) (hQ:Q (.ref s.heap.objs.size) { s with heap:=s.heap.push { cls:=.type "dict_keyiterator",data:=.fields #[.ref d,.int 0 0,.int es.size 0,.int ep 0] } }) :
  wpAny (model prog w) A (pyIter (.ref d)) Q E s:=by
 obtain⟨o,ho,hc,hdat⟩:=hm;have hT:s.TypeIs (.ref d) "dict":=⟨o,ho,hc.1⟩
 refine wpAny_pyIter_slot hT F.slot_dict_iter (b4Z F.slot_dict_iter hT F.entry_dict_iter ?_ (F.args_dict_iter_1 _));unfold Builtin.«dict.__iter__»;refine b4n ?_;unfold Builtin.Dict.dictSlotNone;refine b4n (b8P hT ?_);show wpAny _ _ (pure (Value.ref d)) _ _ s;refine b4r ?_;show wpAny _ _ (Builtin.Dict.showsAll d >>= _) _ _ s;unfold Builtin.Dict.showsAll;rw[if_neg (by rw[hd];exact b4R)];refine b4n (b4r (b4n (b7t ho hdat (b4n (b7Q ho hdat ?_)))));refine b4n (b5o (b4r ⟨_,rfl,"dict_keyiterator",_,⟨_,b4v _ rfl,rfl⟩,b6C.lookup,?_⟩));simpa [rawInt] using hQ
end
end L2
namespace L2
open PySem PySem.Spec PyProof.Rows PySem.W
noncomputable def Lf {α:Type} (n:Nat) (P:α->Prop):KasT α->Prop
 | .ret a=>P a
 | .ask i j k=>i<n/\j<n/\∀b,Lf n P (k b)
noncomputable def Pm (n:Nat) (p:Array Nat):Prop:=p.Perm (List.range n).toArray
section
variable {prog:Program} {w:World} {A:Around} {E:Value->Shared->Prop} {s:Shared}
noncomputable def TupI (h:Heap) (v:Value):Prop:=∃(b:Addr) (items:Array Value) (ns:List Int),v=.ref b/\IsTup h b items/\IntsAre items.toList ns
theorem TupI.ty {M:Model} {h:Heap} {v:Value} (t:TupI h v):Looks M h (typeOf v) (.type "tuple"):=by
 obtain⟨b,items,ns,rfl,⟨o,ho,hc,_⟩,_⟩:=t;exact hc▸(Looks.ld ho).andThen .now
theorem a9a {α β:Type} {M:Model} {f:α->Sem β} {g:α->β}:∀(l:List α) {Q:List β->Shared->Prop},(∀v∈l,∀(Q':β->Shared->Prop),Q' (g v) s->wpAny M A (f v) Q' E s)->Q (l.map g) s->wpAny M A (l.mapM f) Q E s
 | [],_,_,h=>by rw[List.mapM_nil];exact b4r h
 | x::l,Q,hf,h=>by
  rw[List.mapM_cons];exact b4n (hf x (.head _) _ (b4n (a9a l (Q:=λbs s'=>wpAny M A (pure (g x::bs)) Q E s') (λv hv=>hf v (.tail _ hv)) (b4r h))))
noncomputable def fst? (h:Heap):Value->Option Value
 | .ref b=>match h.get? b with
  | some o=>match o.data with
   | .seq xs _=>xs[0]?
   | _=>none
  | none=>none
 | _=>none
end
section
variable {prog:Program} {w:World} {A:Around} {E:Value->Shared->Prop} {s:Shared} {d:Addr} {es:Array DictEntry} {ep:Nat}
theorem a2b.at {h h':Heap} (x:a2b h d es ep) (e:∀o,h.get? d=some o->h'.get? d=some o):a2b h' d es ep:=by
 obtain⟨o,ho,r⟩:=x;exact⟨o,e o ho,r⟩
theorem a9b (hh:A.handled=none) (I:Addr) (hne:d≠I):Walks prog w A I [I,d] [I] es.size (λi v=>∃e,es[i]?=some e/\v=e.key) (λi h=>h.IsKeyIter I d i es.size ep/\a2b h d es ep) where
 sub:=λb hb=>by simp at hb;simp[hb]
 frame:=λ_ _ _ st hk=>⟨st.1.at λo e=>hk I (by simp) o e,st.2.at λo e=>hk d (by simp) o e⟩
 item:=λi s Q E hi st hQ=>by
  have he:es[i]?=some es[i]:=b6n hi;refine b3c st.1 st.2 he λh' hit' hs'=>?_;exact hQ _ h' s.toks ⟨_,he,rfl⟩ ⟨hit',st.2.at λo e=>(hs'.2 d hne).trans e⟩ λb o hb e=>hs'.extBut b o (λh=>hb (by simp[h])) e
 done:=λs Q E st hQ=>b3d hh st.1 st.2 (by simp) λh' he'=>hQ h' s.toks λb o hb e=>he' b o (λh=>hb (by simp[h])) e
 self:=λ_ _ _ _ st hQ=>wpAny_pyIter_keyiter st.1 hQ
theorem b0V (hd:(d==sysModules)=false):KdlSrc prog w "dict" d d es.size (λi v=>∃e,es[i]?=some e/\v=e.key) (λh=>a2b h d es ep) where
 type:=λs ⟨o,ho,hx,_⟩=>⟨o,ho,hx.1⟩
 there:=λh ⟨o,ho,_⟩=>⟨b4w ho,b4w ho⟩
 keep:=λh h' x k=>x.at λo e=>k d (.inl rfl) o e
 notList:=by decide
 notTuple:=by decide
 hint:=λA E s Q ⟨o,ho,hx,_⟩ h=>kdl_hint_dict ⟨o,ho,hx.1⟩ h
 iter:=λA s hh hok=>by
  have lt:d<s.heap.objs.size:=by obtain⟨o,ho,_⟩:=hok;exact b4w ho
  exact⟨_,_,λE Q hQ=>b3e hd hok hQ,a9b hh _ (b4H lt),⟨_,b4v _ rfl,rfl,rfl⟩,hok.at λo e=>b4o _ e⟩
theorem a5n {Q:List Value->Shared->Prop} (hh:A.handled=none) (hd:(d==sysModules)=false) (hok:a2b s.heap d es ep) (hn:es.size<=sizeLine)
  (h:∀h' tk,(∀b o,s.heap.get? b=some o->h'.get? b=some o)->Q (es.toList.map (·.key)) { s with heap:=h',toks:=tk }):wpAny (model prog w) A (collect (.ref d)) Q E s:=by
 have lt:d<s.heap.objs.size:=by obtain⟨o,ho,_⟩:=hok;exact b4w ho
 have ne:s.heap.objs.size≠d:=b5k lt;unfold collect;refine b4n (b9I (b5p F.entry_proto_collect ?_));rw[b4S F.plain_proto_collect _];show wpAny _ A.in1 (newList [] >>= λl=>again (.builtin "list.__iadd__" ⟨[l,.ref d],[]⟩)) _ _ s;refine b4n (b5o ?_);refine b4r ⟨b5B b8E _,b5p F.entry_list_iadd ?_⟩;rw[b4S b8E _];show wpAny _ A.in1 (Builtin.List.listExtendWith (.ref s.heap.objs.size) (.ref d) (.ref s.heap.objs.size)) _ _ _;have hS0:(s.heap.push { cls:=.type "list",data:=.seq #[] }).get? s.heap.objs.size=some { cls:=.type "list",data:=.seq #[] }:=b4v _ rfl;have fin:∀s':Shared,(∃acc c,s'.heap.get? s.heap.objs.size=some { cls:=.type "list",dict:=none,data:=.seq acc c,slots:=#[] }/\acc.toList=es.toList.map (·.key)/\Q (es.toList.map (·.key)) s') ->
   wpAny (model prog w) A (match Value.ref s.heap.objs.size with
    | .ref a=>do
     let o <-load a
     match o.data with
     | .seq xs _=>pure xs.toList
     | _=>unsupported "internal:collect"
    | _=>unsupported "internal:collect") Q E s':=λs' ⟨acc,c,hS,ea,q⟩=>by
  show wpAny _ A (load s.heap.objs.size >>= _) _ _ _;refine b4n (b9i hS (b4r ?_));show Q acc.toList _;rw[ea];exact q
 refine b6Y (kdl_extend (s:={ s with heap:=s.heap.push { cls:=.type "list",data:=.seq #[] } }) (A:=A)
  (R:=λr s'=>r=.ok (.ret (.ref s.heap.objs.size))/\∃acc c,s'.heap.get? s.heap.objs.size=some { cls:=.type "list",dict:=none,data:=.seq acc c,slots:=#[] }/\acc.toList=es.toList.map (·.key)/\Q (es.toList.map (·.key)) s')
  (b0V (es:=es) (ep:=ep) hd) hh (hok.at λo e=>b4o _ e) s.heap.objs.size ne ne (.ref s.heap.objs.size) 0 hS0 (λh' tk acc c kp hS hacc=>⟨rfl,acc,c,hS,?_,?_⟩) hn) (λfn s' hz=>?_) (λe s' hz=>?_)
 ·refine b9M λi=>?_;rw[b5f,b4C,b5f];cases hi:acc[i]? with
  | none =>
   have:acc.size<=i:=Array.getElem?_eq_none_iff.mp hi;rw[Array.getElem?_eq_none (by rw[<-hacc.1];exact this)];rfl
  | some v =>
   obtain⟨e,he,rfl⟩:=hacc.2 i v hi;rw[he];rfl
 ·exact h h' tk λb o e=>kp b o (b4H (b4w e)) (b4o _ e)
 ·rcases fn with f|c'
  ·obtain⟨e,z⟩:=hz;cases e;exact fin s' z
  ·refine⟨hz.1,b6T hz.2 λr s'' z=>?_⟩;obtain⟨e,z⟩:=z;subst e;exact fin s'' z
 ·obtain⟨z,_⟩:=hz;cases z
end
end L2
namespace L2
open PySem PySem.Spec PyProof.Rows
abbrev B30:Int:=1000000000000000000000000000000
theorem e30:(10:Int) ^ (30:Int).toNat=B30:=by decide
noncomputable def b3f (i j:Int):Prop:=(0<=i/\i<=10000000000*B30)/\(0<=j/\j<=10000000000*B30)
theorem b3f.ok {i j:Int} (h:b3f i j):IntMulOk i j:=by
 have q:∀k:Int,0<=k/\k<=10000000000*B30->PySem.Builtin.Int.intBits k<=140:=λk hk=>intBits_le_iff.mpr (by
  have e:(2:Nat) ^ 140=1393796574908163946345982392040522594123776:=by decide
  rw[e];unfold B30 at hk;omega)
 exact IntMulOk.of_le (q i h.1) (q j h.2) (by decide)
theorem a4j {X:Cx}:OpR X (binaryOp .Mult) (rI b3f λi j=>.int (i*j)):=opI λ_ _ _ _ _ _ _ hc q=>PyProof.Rows.mul_int q hc.ok
theorem a3j {te:TE} {σ:St} {d:Addr} {x y:V} {H:Hp} {Z:Hp->Prop} (h:te (some x::some y :: σ) H λv H4=>∃ys,H4 d=some (.lst ys)/\ys.length<sizeLine/\Z (upd H4 d (.lst (ys++[v])))):a5S a8T te σ d x y H Z:=by
 show(if true=true then (te (some x::some y :: σ) H λv H4=>∃ys,H4 d=some (.lst ys)/\ys.length<sizeLine/\Z (upd H4 d (.lst (ys++[v])))) else Z H);rw[if_pos rfl];exact h
end L2
namespace L2
open PySem
noncomputable def a2B (u v:List Int):Prop:=¬u<+:v/\¬v<+:u
theorem a2B.symm {u v:List Int} (h:a2B u v):a2B v u:=⟨h.2,h.1⟩
theorem a2B.ext {u v:List Int} (h:a2B u v) (k:Int):a2B (u++[k]) v:=by
 refine⟨λz=>h.1 ((List.prefix_append u [k]).trans z),λz=>?_⟩;rcases List.prefix_concat_iff.mp z with e|e
 ·exact h.1 (e▸List.prefix_append u [k])
 ·exact h.2 e
theorem a2B.sib {u:List Int} {k l:Int} (h:k≠l):a2B (u++[k]) (u++[l]):=by
 refine⟨λz=>?_,λz=>?_⟩
 ·have:=(b9g u).mp z;simp at this;exact h this
 ·have:=(b9g u).mp z;simp at this;exact h this.symm
abbrev PF (ws:List (List Int)):Prop:=ws.Pairwise a2B
variable {b:Int} {lo:Bool} {n:Nat} {ws:List (List Int)}
theorem PF.perm {ws us:List (List Int)} (h:PF ws) (p:us.Perm ws):PF us:=p.pairwise_iff (λ{_ _} h=>h.symm) |>.mpr h
theorem PF.ne {ws:List (List Int)} (h:PF ws) {i j:Nat} {u v:List Int} (hi:ws[i]?=some u) (hj:ws[j]?=some v) (ne:i≠j):a2B u v:=by
 have w:=b5D.mp h;obtain⟨i1,rfl⟩:=b4u.mp hi;obtain⟨j1,rfl⟩:=b4u.mp hj;rcases Nat.lt_or_gt_of_ne ne with z|z
 ·exact w i j i1 j1 z
 ·exact(w j i j1 i1 z).symm
end L2
namespace L2
open PySem PySem.Spec PyProof.Rows PySem.W
noncomputable def ev {α:Type} (lt:Nat->Nat->Bool):KasT α->α
 | .ret a=>a
 | .ask i j k=>ev lt (k (lt i j))
structure Ord (n:Nat) (lt:Nat->Nat->Bool):Prop where
 tr:∀i j k,lt i j=true->lt j k=true->lt i k=true
 tot:∀i j,i<n->j<n->i≠j->lt i j=false->lt j i=true
noncomputable def Asc (lt:Nat->Nat->Bool) (p:Array Nat) (m:Nat):Prop:=∀i,i+1<m->lt (p.getD i 0) (p.getD (i+1) 0)=true
variable {n:Nat} {lt:Nat->Nat->Bool} {p:Array Nat} {m:Nat}
theorem Pm.size (h:Pm n p):p.size=n:=by
 have e:=h.size_eq;simpa using e
theorem a9c (p:Array Nat) (i:Nat):p.getD i 0=(p[i]?).getD 0:=by simp[Array.getD];split<;>simp[*]
theorem Pm.inj (h:Pm n p) {i j:Nat} (hi:i<n) (hj:j<n) (ne:i≠j):p.getD i 0≠p.getD j 0:=by
 have sz:=h.size;have nd:p.toList.Nodup:=by
  have q:p.toList.Perm (List.range n):=by
   have:=b5h.mp h;simpa using this
  exact q.nodup_iff.mpr b7D
 have e1:p.getD i 0=p.toList[i]'(by simpa [sz] using hi):=by simp[Array.getD,sz,hi]
 have e2:p.getD j 0=p.toList[j]'(by simpa [sz] using hj):=by simp[Array.getD,sz,hj]
 rw[e1,e2];intro z;exact ne ((b7e nd).mp z)
theorem Asc.all (o:Ord n lt) (h:Asc lt p m):∀j i,i<j->j<m->lt (p.getD i 0) (p.getD j 0)=true
 | 0,i,hi,_=>absurd hi (Nat.not_lt_zero _)
 | j+1,i,hi,hj=>by
  by_cases e:i=j
  ·subst e;exact h i hj
  ·exact o.tr _ _ _ (Asc.all o h j i (by omega) (by omega)) (h j hj)
section
variable {prog:Program} {w:World} {A:Around} {E:Value->Shared->Prop} {s:Shared}
noncomputable def a4k (h:Heap) (v:Value) (ns:List Int):Prop:=∃(b:Addr) (items:Array Value),v=.ref b/\IsTup h b items/\IntsAre items.toList ns
theorem a4k.i {h:Heap} {v:Value} {ns:List Int} (t:a4k h v ns):TupI h v:=by
 obtain⟨b,items,e,ht,hi⟩:=t;exact⟨b,items,ns,e,ht,hi⟩
theorem a4k.keep {h h':Heap} {v:Value} {ns:List Int} {a:Addr} {o:Obj} (t:a4k h v ns) (ho:h.get? a=some o) (hc:o.cls=.type "list") (k:∀b o,b≠a->h.get? b=some o->h'.get? b=some o):a4k h' v ns:=by
 obtain⟨b,items,rfl,⟨ob,hb,hcb,n,hd⟩,hi⟩:=t;have ne:b≠a:=λz=>by rw[z,ho] at hb;cases hb;rw[hc] at hcb;exact absurd (Value.type.inj hcb) (by decide)
 exact⟨b,items,rfl,⟨ob,k b ob ne hb,hcb,n,hd⟩,hi⟩
theorem a6K {fin:Bool} {Q:Bool->Shared->Prop}:∀(xs ys:List Value) (ns ms:List Int) (i:Nat),IntsAre xs ns->IntsAre ys ms->fin=decide (ns.length<ms.length)->Q (HT.a0I ns ms) s->KatLex prog w A true fin Q (xs.zip ys) i s
 | [],ys,ns,ms,i,h1,h2,e,q=>by
  cases h1;have z:HT.a0I [] ms=fin:=by
   subst e;cases ms with
   | nil=>rfl
   | cons m ms=>exact(b4W (by simp)).symm
  rw[z] at q;exact q
 | x::xs,[],ns,ms,i,h1,h2,e,q=>by
  cases h2;cases h1 with
  | cons n t h1 =>
   rename_i nt;have z:HT.a0I (n::nt) []=fin:=by
    subst e;exact(b5s (by simp)).symm
   rw[z] at q;exact q
 | x::xs,y::ys,ns,ms,i,h1,h2,e,q=>by
  cases h1 with
  | cons n t h1 =>
  cases h2 with
  | cons m u h2 =>
  rw[HT.a1e] at q;refine kat_cons (b8Y ?_);by_cases z:n=m
  ·subst z;rw[if_pos rfl] at q;have e0:(n==n)=true:=by simp
   rw[e0];exact kat_yes (a6K xs ys _ _ (i+1) h1 h2 (by rw[e];simp) q)
  ·rw[if_neg z] at q;have e0:(n==m)=false:=by simpa using z
   rw[e0];refine kat_no ?_;cases hb:(true&&i==0) with
   | true=>exact oneLt_int q
   | false=>exact kat_one _ _ (PyProof.Rows.lt_int q)
end
noncomputable def nokey:Keyed:=(Value.none,Value.none)
noncomputable def el (xs:Array Keyed) (i:Nat):Keyed:=xs.getD i nokey
structure SO (less:Keyed->Keyed->Bool) (S:Keyed->Prop):Prop where
 asym:∀x y,less x y=true->less y x=false
 tr:∀x y z,less y x=false->less z y=false->less z x=false
theorem a4l {xs:Array Keyed} {i:Nat} (h:i<xs.size):xs[i]?=some (el xs i):=by
 unfold el;rw[b6n h];simp[Array.getD,h]
section
variable {prog:Program} {w:World} {A:Around} {E:Value->Shared->Prop} {s:Shared}
noncomputable def Cmp (prog:Program) (w:World) (A:Around) (E:Value->Shared->Prop) (s:Shared) (κ:SortKind) (less:Keyed->Keyed->Bool) (S:Keyed->Prop):Prop :=
 ∀(x y:Keyed) (st:SortSt) (Q:Option Bool->SortSt->Prop),S x->S y->kindOf st=κ->Q (some (less x y)) st->wpS (model prog w) A E s (lt' x y) Q st
variable {κ:SortKind} {less:Keyed->Keyed->Bool} {S:Keyed->Prop}
theorem a0y {arr:Array Keyed} {i:Nat} {st:SortSt} {Q:Keyed->SortSt->Prop} (hi:i<arr.size) (h:Q (el arr i) st):wpS (model prog w) A E s (elem' arr i) Q st:=by
 rw[elem'_eq,a4l hi];exact b4M h
noncomputable def gallop':Bool->Keyed->Array Keyed->Nat->Nat->Nat->StateT SortSt Sem (Option Nat):=sortPriv% PySem.Builtin.gallop
noncomputable def beyond' (left:Bool) (key:Keyed) (arr:Array Keyed) (base i:Nat):StateT SortSt Sem (Option Bool):=do
  let x <-elem' arr (base+i)
  if left then lt' x key else return (<-lt' key x).map (!·)
theorem a7M (left:Bool) (key:Keyed) (arr:Array Keyed) (base n hint:Nat):gallop' left key arr base n hint=(do
 let mut lastofs:=0
 let mut ofs:=1
 let mut lo:=0
 let mut hi:=0
 let some right <-beyond' left key arr base hint|return none
 if right then
  let maxofs:=n-hint
  for _ in [0:n] do
   if ofs >= maxofs then break
   let some more <-beyond' left key arr base (hint+ofs)|return none
   if !more then break
   lastofs:=ofs
   ofs:=2*ofs+1
  lo:=hint+lastofs+1
  hi:=hint+min ofs maxofs
 else
  let maxofs:=hint+1
  for _ in [0:n] do
   if ofs >= maxofs then break
   let some found <-beyond' left key arr base (hint-ofs)|return none
   if found then break
   lastofs:=ofs
   ofs:=2*ofs+1
  lo:=hint+1-min ofs maxofs
  hi:=hint-lastofs
 for _ in [0:n] do
  if lo >= hi then break
  let m:=lo+(hi-lo) / 2
  let some more <-beyond' left key arr base m|return none
  if more then lo:=m+1 else hi:=m
 return some hi):=rfl
noncomputable def Bey (less:Keyed->Keyed->Bool) (left:Bool) (key:Keyed) (arr:Array Keyed) (base i:Nat):Bool:=if left then less (el arr (base+i)) key else !less key (el arr (base+i))
theorem a7N (C:Cmp prog w A E s κ less S) {left:Bool} {key:Keyed} {arr:Array Keyed} {base i:Nat} {st:SortSt} {Q:Option Bool->SortSt->Prop} (hi:base+i<arr.size) (hk:S key) (hs:S (el arr (base+i))) (hκ:kindOf st=κ) (h:Q (some (Bey less left key arr base i)) st) :
  wpS (model prog w) A E s (beyond' left key arr base i) Q st:=by
 unfold beyond';refine b4G (a0y hi ?_);cases left with
 | true=>exact C _ _ _ _ hs hk hκ h
 | false=>exact b4G (C _ _ _ _ hk hs hκ (b4M h))
theorem a1p (C:Cmp prog w A E s κ less S) {left:Bool} {key:Keyed} {arr:Array Keyed} {base n hint:Nat} {st:SortSt} {Q:Option Nat->SortSt->Prop} (hh:hint<n) (hn:base+n<=arr.size) (hk:S key) (hs:∀i,i<n->S (el arr (base+i))) (hκ:kindOf st=κ)
  (mo:∀i j,i<j->j<n->Bey less left key arr base j=true->Bey less left key arr base i=true)
  (h:∀k,k<=n->(∀i,i<k->Bey less left key arr base i=true)->(∀i,k<=i->i<n->Bey less left key arr base i=false)->Q (some k) st) :
  wpS (model prog w) A E s (gallop' left key arr base n hint) Q st:=by
 rw[a7M];have bey:∀{i:Nat} {Q:Option Bool->SortSt->Prop},i<n->Q (some (Bey less left key arr base i)) st->wpS (model prog w) A E s (beyond' left key arr base i) Q st:=λ{i Q} hi q=>a7N C (by omega) hk (hs i hi) hκ q;generalize Bey less left key arr base=P at mo h bey;refine b4G (bey hh ?_);dsimp only;cases e0:P hint with
 | true =>
  rw[if_pos rfl];refine b4G (b7c (b5M (I:=λx c st'=>st'=st/\∃la ofs,c=(none,la,ofs)/\la<ofs/\x+1<=ofs/\hint+la<n/\P (hint+la)=true)
   (Q:=λc st'=>st'=st/\∃la ofs,c=(none,la,ofs)/\la<ofs/\hint+la<n/\P (hint+la)=true/\(n-hint<=ofs\/(hint+ofs<n/\P (hint+ofs)=false))) ?_ ?_ ⟨rfl,0,1,rfl,by omega,by omega,by omega,e0⟩) ?_)
  ·rintro x c st' _ hx ⟨rfl,la,ofs,rfl,h1,h2,h3,h4⟩;dsimp only;by_cases g:ofs >= n-hint
   ·rw[if_pos g];exact b4M ⟨rfl,la,ofs,rfl,h1,h3,h4,.inl g⟩
   ·rw[if_neg g];refine b4G (bey (by omega) ?_);dsimp only;cases e:P (hint+ofs) with
    | true =>
     rw[if_neg (by decide)];exact b4M ⟨rfl,ofs,_,rfl,by omega,by omega,by omega,e⟩
    | false =>
     rw[if_pos (by decide)];exact b4M ⟨rfl,la,ofs,rfl,h1,h3,h4,.inr ⟨by omega,e⟩⟩
  ·rintro c st' ⟨rfl,la,ofs,rfl,h1,h2,h3,h4⟩;exact⟨rfl,la,ofs,rfl,h1,h3,h4,.inl (by omega)⟩
  rintro c st' ⟨hst,la,ofs,rfl,h1,h3,h4,h5⟩;have hst:=hst.symm;subst hst;dsimp only;have L1:hint+la+1<=hint+min ofs (n-hint):=by omega
  have L2':hint+min ofs (n-hint)<=n:=by omega
  have L3:∀i,i<hint+la+1->P i=true:=λi hi=>by
   by_cases z:i=hint+la
   ·rw[z];exact h4
   ·exact mo i _ (by omega) h3 h4
  have L4:∀i,hint+min ofs (n-hint)<=i->i<n->P i=false:=λi hi hn'=>by
   rcases h5 with g|⟨g,e⟩
   ·omega
   ·cases ei:P i with
    | false=>rfl
    | true =>
     by_cases z:i=hint+ofs
     ·rw[z] at ei;rw[ei] at e;exact e
     ·rw[mo (hint+ofs) i (by omega) hn' ei] at e;exact e
  refine b4G (b7c (b5M (I:=λx c st'=>st'=st/\∃lo hi,c=(none,lo,hi)/\lo<=hi/\hi<=n/\hi-lo<=n-x/\(∀i,i<lo->P i=true)/\∀i,hi<=i->i<n->P i=false)
   (Q:=λc st'=>st'=st/\∃hi,c=(none,hi,hi)/\hi<=n/\(∀i,i<hi->P i=true)/\∀i,hi<=i->i<n->P i=false) ?_ ?_ ⟨rfl,_,_,rfl,L1,L2',by omega,L3,L4⟩) ?_)
  ·rintro x c st' _ hx ⟨rfl,lo,hi,rfl,h1,h2,h3,h4,h5⟩;dsimp only;by_cases g:lo >= hi
   ·rw[if_pos g];have:lo=hi:=by omega
    subst this;exact b4M ⟨rfl,lo,rfl,h2,h4,h5⟩
   ·rw[if_neg g];refine b4G (bey (by omega) ?_);dsimp only;cases e:P (lo+(hi-lo) / 2) with
    | true =>
     rw[if_pos rfl];refine b4M ⟨rfl,_,_,rfl,by omega,h2,by omega,λi hi'=>?_,h5⟩;by_cases z:i=lo+(hi-lo) / 2
     ·rw[z];exact e
     ·exact mo i _ (by omega) (by omega) e
    | false =>
     rw[if_neg (by decide)];refine b4M ⟨rfl,_,_,rfl,by omega,by omega,by omega,h4,λi hi' hn'=>?_⟩;cases ei:P i with
     | false=>rfl
     | true =>
      by_cases z:i=lo+(hi-lo) / 2
      ·rw[z] at ei;rw[ei] at e;exact e
      ·rw[mo (lo+(hi-lo) / 2) i (by omega) hn' ei] at e;exact e
  ·rintro c st' ⟨rfl,lo,hi,rfl,h1,h2,h3,h4,h5⟩;have:lo=hi:=by omega
   subst this;exact⟨rfl,lo,rfl,h2,h4,h5⟩
  ·rintro c st' ⟨rfl,hi,rfl,h2,h4,h5⟩;exact b4M (h hi h2 h4 h5)
 | false =>
  rw[if_neg (by decide)];refine b4G (b7c (b5M (I:=λx c st'=>st'=st/\∃la ofs,c=(none,la,ofs)/\la<ofs/\x+1<=ofs/\la<=hint/\P (hint-la)=false)
   (Q:=λc st'=>st'=st/\∃la ofs,c=(none,la,ofs)/\la<ofs/\la<=hint/\P (hint-la)=false/\(hint+1<=ofs\/(ofs<=hint/\P (hint-ofs)=true))) ?_ ?_ ⟨rfl,0,1,rfl,by omega,by omega,by omega,e0⟩) ?_)
  ·rintro x c st' _ hx ⟨rfl,la,ofs,rfl,h1,h2,h3,h4⟩;dsimp only;by_cases g:ofs >= hint+1
   ·rw[if_pos g];exact b4M ⟨rfl,la,ofs,rfl,h1,h3,h4,.inl g⟩
   ·rw[if_neg g];refine b4G (bey (by omega) ?_);dsimp only;cases e:P (hint-ofs) with
    | false =>
     rw[if_neg (by decide)];exact b4M ⟨rfl,ofs,_,rfl,by omega,by omega,by omega,e⟩
    | true =>
     rw[if_pos rfl];exact b4M ⟨rfl,la,ofs,rfl,h1,h3,h4,.inr ⟨by omega,e⟩⟩
  ·rintro c st' ⟨rfl,la,ofs,rfl,h1,h2,h3,h4⟩;exact⟨rfl,la,ofs,rfl,h1,h3,h4,.inl (by omega)⟩
  rintro c st' ⟨hst,la,ofs,rfl,h1,h3,h4,h5⟩;have hst:=hst.symm;subst hst;dsimp only;have L1:hint+1-min ofs (hint+1)<=hint-la:=by omega
  have L2':hint-la<=n:=by omega
  have L3:∀i,i<hint+1-min ofs (hint+1)->P i=true:=λi hi=>by
   rcases h5 with g|⟨g,e⟩
   ·omega
   ·by_cases z:i=hint-ofs
    ·rw[z];exact e
    ·exact mo i _ (by omega) (by omega) e
  have L4:∀i,hint-la<=i->i<n->P i=false:=λi hi hn'=>by
   cases ei:P i with
   | false=>rfl
   | true =>
    by_cases z:i=hint-la
    ·rw[z] at ei;rw[ei] at h4;exact h4
    ·rw[mo (hint-la) i (by omega) hn' ei] at h4;exact h4
  refine b4G (b7c (b5M (I:=λx c st'=>st'=st/\∃lo hi,c=(none,lo,hi)/\lo<=hi/\hi<=n/\hi-lo<=n-x/\(∀i,i<lo->P i=true)/\∀i,hi<=i->i<n->P i=false)
   (Q:=λc st'=>st'=st/\∃hi,c=(none,hi,hi)/\hi<=n/\(∀i,i<hi->P i=true)/\∀i,hi<=i->i<n->P i=false) ?_ ?_ ⟨rfl,_,_,rfl,L1,L2',by omega,L3,L4⟩) ?_)
  ·rintro x c st' _ hx ⟨rfl,lo,hi,rfl,h1,h2,h3,h4,h5⟩;dsimp only;by_cases g:lo >= hi
   ·rw[if_pos g];have:lo=hi:=by omega
    subst this;exact b4M ⟨rfl,lo,rfl,h2,h4,h5⟩
   ·rw[if_neg g];refine b4G (bey (by omega) ?_);dsimp only;cases e:P (lo+(hi-lo) / 2) with
    | true =>
     rw[if_pos rfl];refine b4M ⟨rfl,_,_,rfl,by omega,h2,by omega,λi hi'=>?_,h5⟩;by_cases z:i=lo+(hi-lo) / 2
     ·rw[z];exact e
     ·exact mo i _ (by omega) (by omega) e
    | false =>
     rw[if_neg (by decide)];refine b4M ⟨rfl,_,_,rfl,by omega,by omega,by omega,h4,λi hi' hn'=>?_⟩;cases ei:P i with
     | false=>rfl
     | true =>
      by_cases z:i=lo+(hi-lo) / 2
      ·rw[z] at ei;rw[ei] at e;exact e
      ·rw[mo (lo+(hi-lo) / 2) i (by omega) hn' ei] at e;exact e
  ·rintro c st' ⟨rfl,lo,hi,rfl,h1,h2,h3,h4,h5⟩;have:lo=hi:=by omega
   subst this;exact⟨rfl,lo,rfl,h2,h4,h5⟩
  ·rintro c st' ⟨rfl,hi,rfl,h2,h4,h5⟩;exact b4M (h hi h2 h4 h5)
end
noncomputable def a4m:Array Keyed->Array Keyed->StateT SortSt Sem (Array Keyed):=sortPriv% PySem.Builtin.mergeLo
noncomputable def a1a:Nat->StateT SortSt Sem Unit:=sortPriv% PySem.Builtin.setMinGallop
abbrev setG (st:SortSt) (g:Nat):SortSt:=SortSt.mk' (kindOf st) (arrOf st) (pendingOf st) g (failedOf st)
theorem a0W (g:Nat):a1a g=modify λs=>setG s g:=rfl
theorem a5T (a b:Array Keyed):a4m a b=(do
 rule "list.sort.merge-lo"
 let total:=a.size+b.size
 let done (out:Array Keyed) (ia ib:Nat):=out++a.extract ia a.size++b.extract ib b.size
 let lastOfA (out:Array Keyed) (ia ib:Nat):=out++b.extract ib b.size++a.extract ia a.size
 let mut out:Array Keyed:=#[<-elem' b 0]
 let mut ia:=0
 let mut ib:=1
 if ib==b.size then return done out ia ib
 if ia+1==a.size then return lastOfA out ia ib
 let mut minGallop:=gallopOf (<-get)
 for _ in [0:total] do
  let mut acount:=0
  let mut bcount:=0
  for _ in [0:total] do
   let some bWins <-lt' (<-elem' b ib) (<-elem' a ia)|return done out ia ib
   if bWins then
    out:=out.push (<-elem' b ib);ib:=ib+1;bcount:=bcount+1;acount:=0
    if ib==b.size then return done out ia ib
    if bcount >= minGallop then break
   else
    out:=out.push (<-elem' a ia);ia:=ia+1;acount:=acount+1;bcount:=0
    if ia+1==a.size then return lastOfA out ia ib
    if acount >= minGallop then break
  rule "list.sort.gallop"
  minGallop:=minGallop+1
  for _ in [0:total] do
   if minGallop>1 then minGallop:=minGallop-1
   a1a minGallop
   let some k <-gallop' false (<-elem' b ib) a ia (a.size-ia) 0|return done out ia ib
   acount:=k
   if k>0 then
    out:=out++a.extract ia (ia+k);ia:=ia+k
    if ia+1==a.size then return lastOfA out ia ib
    if ia==a.size then return done out ia ib
   out:=out.push (<-elem' b ib);ib:=ib+1
   if ib==b.size then return done out ia ib
   let some k <-gallop' true (<-elem' a ia) b ib (b.size-ib) 0|return done out ia ib
   bcount:=k
   if k>0 then
    out:=out++b.extract ib (ib+k);ib:=ib+k
    if ib==b.size then return done out ia ib
   out:=out.push (<-elem' a ia);ia:=ia+1
   if ia+1==a.size then return lastOfA out ia ib
   if acount<7&&bcount<7 then break
  minGallop:=minGallop+1
  a1a minGallop
 unsupported "internal:list.sort.merge-bound"):=rfl
abbrev Lt (less:Keyed->Keyed->Bool) (x y:Keyed):Prop:=less y x=false
structure MI (less:Keyed->Keyed->Bool) (a b out:Array Keyed) (ia ib:Nat):Prop where
 pm:out.toList.Perm (a.toList.take ia++b.toList.take ib)
 so:out.toList.Pairwise (Lt less)
 ba:∀x∈out.toList,∀j,ia<=j->j<a.size->Lt less x (el a j)
 bb:∀x∈out.toList,∀j,ib<=j->j<b.size->Lt less x (el b j)
structure MC (less:Keyed->Keyed->Bool) (S:Keyed->Prop) (a b:Array Keyed):Prop where
 so:SO less S
 sa:∀i j,i<j->j<a.size->Lt less (el a i) (el a j)
 sb:∀i j,i<j->j<b.size->Lt less (el b i) (el b j)
 xa:∀i,i<a.size->S (el a i)
 xb:∀i,i<b.size->S (el b i)
 fst:less (el b 0) (el a 0)=true
 lst:∀j,j<b.size->less (el b j) (el a (a.size-1))=true
 na:1<=a.size
 nb:1<=b.size
theorem a4n {a:Array Keyed} {i:Nat} (h:i<a.size):a.toList.take (i+1)=a.toList.take i++[el a i]:=by
 rw[b5e];have:a.toList[i]?=some (el a i):=by
  rw[b5f];exact a4l h
 rw[this];rfl
variable {less:Keyed->Keyed->Bool} {S:Keyed->Prop} {a b out:Array Keyed} {ia ib:Nat}
theorem MI.pushB (m:MI less a b out ia ib) (c:MC less S a b) (h:ib<b.size) (hl:∀j,ia<=j->j<a.size->Lt less (el b ib) (el a j)):MI less a b (out.push (el b ib)) ia (ib+1):=by
 refine⟨?_,?_,λx hx j h1 h2=>?_,λx hx j h1 h2=>?_⟩
 ·rw[b4V,a4n h,<-b5d];exact m.pm.append_right _
 ·rw[b4V,b5v];exact⟨m.so,b5c ..,λx hx y hy=>by rw[b4s.mp hy];exact m.bb x hx ib (b4z _) h⟩
 ·rw[b4V] at hx;rcases b4J.mp hx with z|z
  ·exact m.ba x z j h1 h2
  ·rw[b4s.mp z];exact hl j h1 h2
 ·rw[b4V] at hx;rcases b4J.mp hx with z|z
  ·exact m.bb x z j (by omega) h2
  ·rw[b4s.mp z];exact c.sb ib j (by omega) h2
theorem MI.pushA (m:MI less a b out ia ib) (c:MC less S a b) (h:ia<a.size) (hl:∀j,ib<=j->j<b.size->Lt less (el a ia) (el b j)):MI less a b (out.push (el a ia)) (ia+1) ib:=by
 refine⟨?_,?_,λx hx j h1 h2=>?_,λx hx j h1 h2=>?_⟩
 ·rw[b4V,a4n h];refine(m.pm.append_right _).trans ?_;rw[b5d,b5d];exact b6y _ b6z
 ·rw[b4V,b5v];exact⟨m.so,b5c ..,λx hx y hy=>by rw[b4s.mp hy];exact m.ba x hx ia (b4z _) h⟩
 ·rw[b4V] at hx;rcases b4J.mp hx with z|z
  ·exact m.ba x z j (by omega) h2
  ·rw[b4s.mp z];exact c.sa ia j (by omega) h2
 ·rw[b4V] at hx;rcases b4J.mp hx with z|z
  ·exact m.bb x z j h1 h2
  ·rw[b4s.mp z];exact hl j h1 h2
theorem a6L {a:Array Keyed} {i k:Nat} (h:i+k<a.size):a.extract i (i+(k+1))=(a.extract i (i+k)).push (el a (i+k)):=by
 apply b8f.mp;rw[b4V,b6j,b6j,b5L,b5L];have e1:i+(k+1)-i=k+1:=by omega
 have e2:i+k-i=k:=by omega
 rw[e1,e2,b5e,b9C];have:a.toList[i+k]?=some (el a (i+k)):=by
  rw[b5f];exact a4l h
 rw[this];rfl
theorem MI.moreA (c:MC less S a b) (m:MI less a b out ia ib):∀k,ia+k<=a.size->(∀i,i<k->∀j,ib<=j->j<b.size->Lt less (el a (ia+i)) (el b j))->MI less a b (out++a.extract ia (ia+k)) (ia+k) ib
 | 0,_,_=>by
  have e:a.extract ia (ia+0)=#[]:=by simp;omega
  rw[e,b7L];exact m
 | k+1,h,hl=>by
  have ih:=MI.moreA c m k (by omega) λi hi=>hl i (by omega);rw[a6L (by omega),b8F];exact ih.pushA c (by omega) (hl k (by omega))
theorem MI.moreB (c:MC less S a b) (m:MI less a b out ia ib):∀k,ib+k<=b.size->(∀i,i<k->∀j,ia<=j->j<a.size->Lt less (el b (ib+i)) (el a j))->MI less a b (out++b.extract ib (ib+k)) ia (ib+k)
 | 0,_,_=>by
  have e:b.extract ib (ib+0)=#[]:=by simp;omega
  rw[e,b7L];exact m
 | k+1,h,hl=>by
  have ih:=MI.moreB c m k (by omega) λi hi=>hl i (by omega);rw[a6L (by omega),b8F];exact ih.pushB c (by omega) (hl k (by omega))
theorem MI.doneB (c:MC less S a b) (m:MI less a b out ia b.size) (h:ia<=a.size):MI less a b (out++a.extract ia++b.extract b.size) a.size b.size:=by
 have e:b.extract b.size=#[]:=by simp
 have m2:=m.moreA c (a.size-ia) (by omega) (λi hi j h1 h2=>absurd h1 (by omega));have e2:ia+(a.size-ia)=a.size:=by omega
 rw[e2] at m2;rw[e,b7L];exact m2
theorem MI.lastA (c:MC less S a b) (m:MI less a b out ia ib) (h1:ia+1=a.size) (h2:ib<=b.size):MI less a b (out++b.extract ib++a.extract ia) a.size b.size:=by
 have m2:=m.moreB c (b.size-ib) (by omega) (λi hi j g1 g2=>by
  have:j=a.size-1:=by omega
  rw[this];exact c.so.asym _ _ (c.lst _ (by omega)))
 have e2:ib+(b.size-ib)=b.size:=by omega
 rw[e2] at m2;have m3:=m2.moreA c 1 (by omega) (λi hi j g1 g2=>absurd g1 (by omega));rw[h1] at m3;exact m3
structure a1o (st st':SortSt):Prop where
 k:kindOf st'=kindOf st
 a:arrOf st'=arrOf st
 p:pendingOf st'=pendingOf st
 f:failedOf st'=failedOf st
theorem a1o.refl (st:SortSt):a1o st st:=⟨rfl,rfl,rfl,rfl⟩
theorem a1o.set {st st':SortSt} (h:a1o st st') (g:Nat):a1o st (setG st' g):=⟨h.k,h.a,h.p,h.f⟩
section
variable {prog:Program} {w:World} {A:Around} {E:Value->Shared->Prop} {s:Shared} {κ:SortKind}
@[elab_as_elim] theorem MI.ov {P:Array Keyed->Prop} {X:Array Keyed} {n k:Nat} (m:MI less a b X n k) (h:∀o,MI less a b o n k->P o):P X:=h X m
theorem a5U (C:Cmp prog w A E s κ less S) (c:MC less S a b) {st:SortSt} {Q:Array Keyed->SortSt->Prop} (hκ:kindOf st=κ)
  (h:∀m st',a1o st st'->m.toList.Perm (a.toList++b.toList)->m.toList.Pairwise (Lt less)->Q m st'):wpS (model prog w) A E s (a4m a b) Q st:=by
 subst hκ;have na:=c.na;have nb:=c.nb;have fin:∀{m:Array Keyed} {st':SortSt},a1o st st'->MI less a b m a.size b.size->Q m st':=λ{m st'} k mi=>by
  refine h m st' k ?_ mi.so;have e:=mi.pm;rw[<-b4x,b5z,<-b4x,b5z] at e;exact e
 rw[a5T];refine b4G (b9V (b5T ⟨rfl,?_⟩));dsimp only;refine b4G (a0y nb ?_);have fa:∀j,j<a.size->Lt less (el b 0) (el a j):=λj hj=>by
  by_cases z:j=0
  ·rw[z];exact c.so.asym _ _ c.fst
  ·exact c.so.tr _ _ _ (c.so.asym _ _ c.fst) (c.sa 0 j (by omega) hj)
 have m0:MI less a b #[el b 0] 0 1:=by
  refine⟨?_,b5c ..,λx hx j _ h2=>?_,λx hx j h1 h2=>?_⟩
  ·rw[a4n nb];exact b8J _
  ·rw[b4s.mp hx];exact fa j h2
  ·rw[b4s.mp hx];exact c.sb 0 j (by omega) h2
 by_cases g1:(1==b.size)=true
 ·rw[if_pos g1];have g1:1=b.size:=by simpa using g1
  exact b4M (fin (a1o.refl _) (by rw[g1] at m0 ⊢;exact MI.doneB c m0 (by omega)))
 rw[if_neg g1];have g1:¬ 1=b.size:=by simpa using g1
 by_cases g2:(0+1==a.size)=true
 ·rw[if_pos g2];have g2:0+1=a.size:=by simpa using g2
  exact b4M (fin (a1o.refl _) (MI.lastA c m0 g2 (by omega)))
 rw[if_neg g2];have g2:¬ 0+1=a.size:=by simpa using g2
 have LST:∀j,j<b.size->less (el b j) (el a (a.size-1))=true:=c.lst;refine b4G (wpS_get ?_);refine b4G (b7c (b5M (I:=λx cc st'=>a1o st st'/\∃out ia ib mg,cc=(none,out,ia,ib,mg)/\MI less a b out ia ib/\ia+1<a.size/\ib<b.size/\x+1<=ia+ib)
  (Q:=λcc st'=>a1o st st'/\∃m o i j g,cc=(some m,o,i,j,g)/\MI less a b m a.size b.size) ?step ?ende ⟨a1o.refl _,_,0,1,_,rfl,m0,by omega,by omega,by omega⟩) ?post)
 case post =>
  rintro cc st' ⟨k,m,o,i,j,g,rfl,mi⟩;exact b4M (fin k mi)
 case ende =>
  rintro cc st' ⟨k,out,ia,ib,mg,rfl,m,h1,h2,h3⟩;exfalso;omega
 case step =>
  rintro x cc st1 _ hx ⟨k1,out,ia,ib,mg,rfl,m1,h1,h2,h3⟩;dsimp only;refine b4G (b7c (b5M (I:=λy cc st'=>st'=st1/\∃out2 ia2 ib2 ac bc,cc=(none,out2,ia2,ib2,ac,bc)/\MI less a b out2 ia2 ib2/\ia2+1<a.size/\ib2<b.size/\ia+ib+y<=ia2+ib2)
   (Q:=λcc st'=>st'=st1/\((∃m o i j ac bc,cc=(some m,o,i,j,ac,bc)/\MI less a b m a.size b.size)\/∃out2 ia2 ib2 ac bc,cc=(none,out2,ia2,ib2,ac,bc)/\MI less a b out2 ia2 ib2/\ia2+1<a.size/\ib2<b.size/\ia+ib+1<=ia2+ib2)) ?istep ?iende ⟨rfl,_,_,_,_,_,rfl,m1,h1,h2,by omega⟩) ?ipost)
  case iende =>
   rintro cc st' ⟨rfl,out2,ia2,ib2,ac,bc,rfl,m2,i1,i2,i3⟩;exfalso;omega
  case istep =>
   rintro y cc st' _ hy ⟨rfl,out2,ia2,ib2,ac,bc,rfl,m2,i1,i2,i3⟩;dsimp only;refine b4G (a0y i2 (b4G (a0y (show ia2<a.size by omega) ?_)));refine b4G (C _ _ _ _ (c.xb _ i2) (c.xa _ (by omega)) k1.k ?_);dsimp only;cases e:less (el b ib2) (el a ia2) with
   | true =>
    rw[if_pos rfl];refine b4G (a0y i2 ?_);have m3:=m2.pushB c i2 (λj q1 q2=>by
     by_cases z:j=ia2
     ·rw[z];exact c.so.asym _ _ e
     ·exact c.so.tr _ _ _ (c.so.asym _ _ e) (c.sa _ _ (by omega) q2))
    by_cases g3:(ib2+1==b.size)=true
    ·rw[if_pos g3];have g3:ib2+1=b.size:=by simpa using g3
     exact b4M ⟨rfl,.inl ⟨_,_,_,_,_,_,rfl,by rw[g3] at m3 ⊢;exact MI.doneB c m3 (by omega)⟩⟩
    ·rw[if_neg g3];have g3:¬ib2+1=b.size:=by simpa using g3
     split
     ·exact b4M ⟨rfl,.inr ⟨_,_,_,_,_,rfl,m3,by omega,by omega,by omega⟩⟩
     ·exact b4M ⟨rfl,_,_,_,_,_,rfl,m3,by omega,by omega,by omega⟩
   | false =>
    rw[if_neg (by decide)];refine b4G (a0y (show ia2<a.size by omega) ?_);have e2:=e;have m3:=m2.pushA c (show ia2<a.size by omega) (λj q1 q2=>by
     by_cases z:j=ib2
     ·rw[z];exact e2
     ·exact c.so.tr _ _ _ e2 (c.sb _ _ (by omega) q2))
    by_cases g3:(ia2+1+1==a.size)=true
    ·rw[if_pos g3];have g3:ia2+1+1=a.size:=by simpa using g3
     exact b4M ⟨rfl,.inl ⟨_,_,_,_,_,_,rfl,MI.lastA c m3 g3 (by omega)⟩⟩
    ·rw[if_neg g3];have g3:¬ia2+1+1=a.size:=by simpa using g3
     split
     ·exact b4M ⟨rfl,.inr ⟨_,_,_,_,_,rfl,m3,by omega,by omega,by omega⟩⟩
     ·exact b4M ⟨rfl,_,_,_,_,_,rfl,m3,by omega,by omega,by omega⟩
  case ipost =>
   rintro cc st' ⟨est,⟨m,o,i,j,ac,bc,rfl,mi⟩|⟨out2,ia2,ib2,ac,bc,rfl,m2,i1,i2,i3⟩⟩
   ·subst est;exact b4M ⟨k1,_,_,_,_,_,rfl,mi⟩
   subst est;dsimp only;refine b4G (b9V (b5T ⟨rfl,?_⟩));refine b4G (b7c (b5M (I:=λy cc st'=>a1o st st'/\∃out3 ia3 ib3 mg3 ac bc,cc=(none,out3,ia3,ib3,mg3,ac,bc)/\MI less a b out3 ia3 ib3/\ia3+1<a.size/\ib3<b.size/\ia+ib+1<=ia3+ib3)
    (Q:=λcc st'=>a1o st st'/\((∃m o i j g ac bc,cc=(some m,o,i,j,g,ac,bc)/\MI less a b m a.size b.size)\/∃out3 ia3 ib3 mg3 ac bc,cc=(none,out3,ia3,ib3,mg3,ac,bc)/\MI less a b out3 ia3 ib3/\ia3+1<a.size/\ib3<b.size/\ia+ib+1<=ia3+ib3)) ?gstep ?gende ⟨k1,_,_,_,_,_,_,rfl,m2,i1,i2,i3⟩) ?gpost)
   case gende =>
    rintro cc st' ⟨k,out3,ia3,ib3,mg3,ac,bc,rfl,m3,j1,j2,j3⟩;exact⟨k,.inr ⟨_,_,_,_,_,_,rfl,m3,j1,j2,j3⟩⟩
   case gpost =>
    rintro cc st' ⟨k,⟨m,o,i,j,g,ac,bc,rfl,mi⟩|⟨out3,ia3,ib3,mg3,ac,bc,rfl,m3,j1,j2,j3⟩⟩
    ·exact b4M ⟨k,_,_,_,_,_,rfl,mi⟩
    dsimp only;rw[a0W];exact b4G (b6P (b4M ⟨k.set _,_,_,_,_,rfl,m3,j1,j2,by omega⟩))
   case gstep =>
    rintro y cc st3 _ hy ⟨ks0,out3,ia3,ib3,mg3,ac,bc,rfl,m3,j1,j2,j3⟩;dsimp only;have LST:=LST ib3 j2;by_cases gg:mg3>1;rw[if_pos gg];generalize mg3-1=mg4;clear gg;revert mg4;refine ?K
    rotate_left
    rw[if_neg gg];exact ?K _
    as_aux_lemma=>
     intro mg4
     rw[a0W];refine b4G (b6P ?_);have ks:=ks0.set mg4;generalize setG st3 mg4=st4 at ks ⊢;refine b4G (a0y (show ib3<b.size by omega) ?_);refine b4G (a1p C (show 0<a.size-ia3 by omega) (by omega) (c.xb _ (by omega)) (λi hi=>c.xa _ (by omega)) ks.k (λi j hij hj hb=>?_) (λk1 hk1 hk2 hk3=>?_))
     ·show(!less (el b ib3) (el a (ia3+i)))=true;have hb:(!less (el b ib3) (el a (ia3+j)))=true:=hb;rw[c.so.tr _ _ _ (c.sa (ia3+i) (ia3+j) (by omega) (by omega)) (show less (el b ib3) (el a (ia3+j))=false by simpa using hb)];rfl
     dsimp only;have hk4:∀i,i<k1->Lt less (el a (ia3+i)) (el b ib3):=λi hi=>by
      have q:(!less (el b ib3) (el a (ia3+i)))=true:=hk2 i hi;show less (el b ib3) (el a (ia3+i))=false;simpa using q
     have HB:∀j,ia3+k1<=j->j<a.size->Lt less (el b ib3) (el a j):=λj h1 h2=>by
      have q:(!less (el b ib3) (el a (ia3+(j-ia3))))=false:=hk3 (j-ia3) (by omega) (by omega);rw[show ia3+(j-ia3)=j by omega] at q;exact c.so.asym _ _ (by simpa using q)
     by_cases g6:k1>0;rw[if_pos g6];have M3:=MI.moreA c m3 k1 (by omega) (λi hi j h1 h2=>by
      by_cases z:j=ib3
      ·rw[z];exact hk4 i hi
      ·exact c.so.tr _ _ _ (hk4 i hi) (c.sb _ _ (by omega) h2))
     have lk:ia3+k1<=a.size-1:=by
      rcases c0c (ia3+k1) a.size with z|z
      ·omega
      ·have q1:=hk4 (a.size-1-ia3) (by omega);rw[show ia3+(a.size-1-ia3)=a.size-1 by omega] at q1;rw[show less (el b ib3) (el a (a.size-1))=false from q1] at LST;cases LST
     by_cases g7:(ia3+k1+1==a.size)=true
     ·rw[if_pos g7];exact b4M ⟨ks,.inl ⟨_,_,_,_,_,_,_,rfl,MI.lastA c M3 (by simpa using g7) (by omega)⟩⟩
     rw[if_neg g7,if_neg (show ¬(ia3+k1==a.size)=true from λz=>absurd (by simpa using z:ia3+k1=a.size) (by omega))];have q4:ia3+k1+1<a.size:=by
      have:¬ia3+k1+1=a.size:=by simpa using g7
      omega
     have q5:ia+ib+1<=ia3+k1+ib3:=by omega
     refine MI.ov M3 λout4 N3=>?_;clear M3 g7 lk g6;revert N3 HB q4 q5;generalize ia3+k1=ia4;generalize k1=acc;revert ia4 acc out4;refine ?K2
     rotate_left
     rw[if_neg g6];exact ?K2 _ _ _ (λj h1 h2=>HB j (by omega) h2) j1 j3 m3
     as_aux_lemma=>
      intro out4 ia4 acc HB q4 q5 M3
      refine b4G (a0y (show ib3<b.size by omega) ?_)
      try dsimp only
      have m4:=MI.pushB M3 c (show ib3<b.size by omega) HB;by_cases g2:(ib3+1==b.size)=true
      ·rw[if_pos g2];have g2:ib3+1=b.size:=by simpa using g2
       exact b4M ⟨ks,.inl ⟨_,_,_,_,_,_,_,rfl,by rw[g2] at m4 ⊢;exact MI.doneB c m4 (by omega)⟩⟩
      rw[if_neg g2];have g2:¬ib3+1=b.size:=by simpa using g2
      refine b4G (a0y (show ia4<a.size by omega) ?_);refine b4G (a1p C (show 0<b.size-(ib3+1) by omega) (by omega) (c.xa _ (by omega)) (λi hi=>c.xb _ (by omega)) ks.k (λi j hij hj hb=>?_) (λk2 hk2 hk3 hk4=>?_))
      ·show less (el b (ib3+1+i)) (el a ia4)=true;have hb:less (el b (ib3+1+j)) (el a ia4)=true:=hb;cases e:less (el b (ib3+1+i)) (el a ia4) with
       | true=>rfl
       | false=>rw[c.so.tr _ _ _ e (c.sb (ib3+1+i) (ib3+1+j) (by omega) (by omega))] at hb;exact hb
      dsimp only;have HA:∀j,ib3+1+k2<=j->j<b.size->Lt less (el a ia4) (el b j):=λj h1 h2=>by
       have q:less (el b (ib3+1+(j-(ib3+1)))) (el a ia4)=false:=hk4 (j-(ib3+1)) (by omega) (by omega);rw[show ib3+1+(j-(ib3+1))=j by omega] at q;exact q
      by_cases g3:k2>0;rw[if_pos g3];have M4:=MI.moreB c m4 k2 (by omega) (λi hi j h1 h2=>by
       have q:less (el b (ib3+1+i)) (el a ia4)=true:=hk3 i hi;by_cases z:j=ia4
       ·rw[z];exact c.so.asym _ _ q
       ·exact c.so.tr _ _ _ (c.so.asym _ _ q) (c.sa _ _ (by omega) h2))
      by_cases g5:(ib3+1+k2==b.size)=true
      ·rw[if_pos g5];have g5:ib3+1+k2=b.size:=by simpa using g5
       exact b4M ⟨ks,.inl ⟨_,_,_,_,_,_,_,rfl,by rw[g5] at M4 ⊢;exact MI.doneB c M4 (by omega)⟩⟩
      rw[if_neg g5]
      have g6:¬ib3+1+k2=b.size:=by simpa using g5
      have q6:ib3+1+k2<b.size:=by omega
      have q7:ib3+1<=ib3+1+k2:=by omega
      refine MI.ov M4 λout5 N4=>?_;clear M4 g5 g3 g6;revert N4 HA q6 q7;generalize ib3+1+k2=ib5;generalize k2=bcc;revert ib5 bcc out5;refine ?K3
      rotate_left
      rw[if_neg g3];exact ?K3 _ _ _ (λj h1 h2=>HA j (by omega) h2) (by omega) (b4z _) m4
      as_aux_lemma=>
       intro out5 ib5 bcc HA q6 q7 M4
       refine b4G (a0y (show ia4<a.size by omega) ?_)
       try dsimp only
       have m5:=MI.pushA M4 c (show ia4<a.size by omega) HA;by_cases g4:(ia4+1+1==a.size)=true
       ·rw[if_pos g4];exact b4M ⟨ks,.inl ⟨_,_,_,_,_,_,_,rfl,MI.lastA c m5 (by simpa using g4) (by omega)⟩⟩
       rw[if_neg g4];have g4:¬ia4+1+1=a.size:=by simpa using g4
       split
       ·exact b4M ⟨ks,.inr ⟨_,_,_,_,_,_,rfl,m5,by omega,by omega,by omega⟩⟩
       ·exact b4M ⟨ks,_,_,_,_,_,_,rfl,m5,by omega,by omega,by omega⟩
end
noncomputable def a4o:Array Keyed->Array Keyed->StateT SortSt Sem (Array Keyed):=sortPriv% PySem.Builtin.mergeHi
theorem a5V (a b:Array Keyed):a4o a b=(do
 rule "list.sort.merge-hi"
 let total:=a.size+b.size
 let done (out:Array Keyed) (na nb:Nat):=a.extract 0 na++b.extract 0 nb++out.reverse
 let firstOfB (out:Array Keyed) (na nb:Nat):=b.extract 0 nb++a.extract 0 na++out.reverse
 let mut na:=a.size-1
 let mut nb:=b.size
 let mut out:Array Keyed:=#[<-elem' a na]
 if na==0 then return done out na nb
 if nb==1 then return firstOfB out na nb
 let mut minGallop:=gallopOf (<-get)
 for _ in [0:total] do
  let mut acount:=0
  let mut bcount:=0
  for _ in [0:total] do
   let some aWins <-lt' (<-elem' b (nb-1)) (<-elem' a (na-1))|return done out na nb
   if aWins then
    na:=na-1;out:=out.push (<-elem' a na);acount:=acount+1;bcount:=0
    if na==0 then return done out na nb
    if acount >= minGallop then break
   else
    nb:=nb-1;out:=out.push (<-elem' b nb);bcount:=bcount+1;acount:=0
    if nb==1 then return firstOfB out na nb
    if bcount >= minGallop then break
  rule "list.sort.gallop"
  minGallop:=minGallop+1
  for _ in [0:total] do
   if minGallop>1 then minGallop:=minGallop-1
   a1a minGallop
   let some at_ <-gallop' false (<-elem' b (nb-1)) a 0 na (na-1)|return done out na nb
   let k:=na-at_
   acount:=k
   if k>0 then
    out:=out++(a.extract at_ na).reverse;na:=at_
    if na==0 then return done out na nb
   nb:=nb-1;out:=out.push (<-elem' b nb)
   if nb==1 then return firstOfB out na nb
   let some at_ <-gallop' true (<-elem' a (na-1)) b 0 nb (nb-1)|return done out na nb
   let k:=nb-at_
   bcount:=k
   if k>0 then
    out:=out++(b.extract at_ nb).reverse;nb:=at_
    if nb==1 then return firstOfB out na nb
    if nb==0 then return done out na nb
   na:=na-1;out:=out.push (<-elem' a na)
   if na==0 then return done out na nb
   if acount<7&&bcount<7 then break
  minGallop:=minGallop+1
  a1a minGallop
 unsupported "internal:list.sort.merge-bound"):=rfl
structure HI (less:Keyed->Keyed->Bool) (a b out:Array Keyed) (na nb:Nat):Prop where
 pm:out.toList.Perm (a.toList.drop na++b.toList.drop nb)
 so:out.toList.Pairwise (λx y=>Lt less y x)
 aa:∀x∈out.toList,∀j,j<na->Lt less (el a j) x
 ab:∀x∈out.toList,∀j,j<nb->Lt less (el b j) x
variable {less:Keyed->Keyed->Bool} {S:Keyed->Prop} {a b out:Array Keyed} {na nb:Nat}
theorem a4p {a:Array Keyed} {i:Nat} (h:i<a.size):a.toList.drop i=el a i::a.toList.drop (i+1):=by
 have:a.toList[i]?=some (el a i):=by
  rw[b5f];exact a4l h
 have hl:i<a.toList.length:=by rw[b4x];exact h
 rw[b6R hl];rw[b4q hl] at this;rw[b4N this]
theorem HI.pushA (m:HI less a b out (na+1) nb) (c:MC less S a b) (h:na<a.size) (hl:∀j,j<nb->Lt less (el b j) (el a na)):HI less a b (out.push (el a na)) na nb:=by
 refine⟨?_,?_,λx hx j h1=>?_,λx hx j h1=>?_⟩
 ·rw[b4V,a4p h];exact b6z.trans ((m.pm.cons _).trans (b8J _))
 ·rw[b4V,b5v];exact⟨m.so,b5c ..,λx hx y hy=>by rw[b4s.mp hy];exact m.aa x hx na (b7f _)⟩
 ·rw[b4V] at hx;rcases b4J.mp hx with z|z
  ·exact m.aa x z j (by omega)
  ·rw[b4s.mp z];exact c.sa j na h1 h
 ·rw[b4V] at hx;rcases b4J.mp hx with z|z
  ·exact m.ab x z j h1
  ·rw[b4s.mp z];exact hl j h1
theorem HI.pushB (m:HI less a b out na (nb+1)) (c:MC less S a b) (h:nb<b.size) (hl:∀j,j<na->Lt less (el a j) (el b nb)):HI less a b (out.push (el b nb)) na nb:=by
 refine⟨?_,?_,λx hx j h1=>?_,λx hx j h1=>?_⟩
 ·rw[b4V,a4p h];refine b6z.trans ((m.pm.cons _).trans ?_);exact b5H.symm
 ·rw[b4V,b5v];exact⟨m.so,b5c ..,λx hx y hy=>by rw[b4s.mp hy];exact m.ab x hx nb (b7f _)⟩
 ·rw[b4V] at hx;rcases b4J.mp hx with z|z
  ·exact m.aa x z j h1
  ·rw[b4s.mp z];exact hl j h1
 ·rw[b4V] at hx;rcases b4J.mp hx with z|z
  ·exact m.ab x z j (by omega)
  ·rw[b4s.mp z];exact c.sb j nb h1 h
theorem a6M {a:Array Keyed} {i n:Nat} (h:i<n) (hn:n<=a.size):(a.extract i n).reverse=((a.extract (i+1) n).reverse).push (el a i):=by
 apply b8f.mp;rw[b4V,b7p,b7p,b6j,b6j,b5L,b5L,a4p (show i<a.size by omega)];have e:n-i=(n-(i+1))+1:=by omega
 rw[e,b8h,List.reverse_cons]
theorem HI.moreA (c:MC less S a b) (hn:na<=a.size) (m:HI less a b out na nb):∀k,k<=na->(∀i,na-k<=i->i<na->∀j,j<nb->Lt less (el b j) (el a i))->HI less a b (out++(a.extract (na-k) na).reverse) (na-k) nb
 | 0,_,_=>by
  have e:(a.extract (na-0) na).reverse=#[]:=by simp;omega
  rw[e,b7L];exact m
 | k+1,h,hl=>by
  have ih:=HI.moreA c hn m k (by omega) λi hi=>hl i (by omega);have e:na-k=na-(k+1)+1:=by omega
  rw[a6M (show na-(k+1)<na by omega) hn,b8F,<-e];rw[e] at ih;have:=ih.pushA c (by omega) (hl (na-(k+1)) (by omega) (by omega));rw[<-e] at this;exact this
theorem HI.moreB (c:MC less S a b) (hn:nb<=b.size) (m:HI less a b out na nb):∀k,k<=nb->(∀i,nb-k<=i->i<nb->∀j,j<na->Lt less (el a j) (el b i))->HI less a b (out++(b.extract (nb-k) nb).reverse) na (nb-k)
 | 0,_,_=>by
  have e:(b.extract (nb-0) nb).reverse=#[]:=by simp;omega
  rw[e,b7L];exact m
 | k+1,h,hl=>by
  have ih:=HI.moreB c hn m k (by omega) λi hi=>hl i (by omega);have e:nb-k=nb-(k+1)+1:=by omega
  rw[a6M (show nb-(k+1)<nb by omega) hn,b8F,<-e];rw[e] at ih;have:=ih.pushB c (by omega) (hl (nb-(k+1)) (by omega) (by omega));rw[<-e] at this;exact this
structure HF (less:Keyed->Keyed->Bool) (a b m:Array Keyed):Prop where
 pm:m.toList.Perm (a.toList++b.toList)
 so:m.toList.Pairwise (Lt less)
theorem HI.fin {x:Array Keyed} (m:HI less a b out na nb) (px:x.toList.Perm (a.toList.take na++b.toList.take nb)) (sx:x.toList.Pairwise (Lt less)) (ha:na<=a.size) (hb:nb<=b.size):HF less a b (x++out.reverse):=by
 have a3k:∀{a:Array Keyed} {n:Nat} {y:Keyed},n<=a.size->y∈a.toList.take n->∃j,j<n/\el a j=y:=λ{a n y} hn hy=>by
  obtain⟨j,hj⟩:=b6b hy;have lj:=(b4u.mp hj).1;rw[b4L] at lj;rw[b6c (by omega),b5f,a4l (by omega)] at hj;exact⟨j,by omega,b4N hj⟩
 refine⟨?_,?_⟩
 ·rw[b7b,b7p];have p1:out.toList.reverse.Perm (a.toList.drop na++b.toList.drop nb):=(b7Y _).trans m.pm;refine(px.append p1).trans ?_;have:(a.toList.take na++b.toList.take nb++(a.toList.drop na++b.toList.drop nb)).Perm (a.toList.take na++a.toList.drop na++(b.toList.take nb++b.toList.drop nb)):=by
   rw[b5d,b5d];refine b6y _ ?_;rw[<-b5d,<-b5d];exact b7I _ b6z
  rw[b6A,b6A] at this;exact this
 ·rw[b7b,b7p,b5v];refine⟨sx,b8Q.mpr m.so,λy hy z hz=>?_⟩;rw[c0a] at hz;rcases b4J.mp (px.mem_iff.mp hy) with q|q
  ·obtain⟨j,hj,rfl⟩:=a3k ha q;exact m.aa z hz j hj
  ·obtain⟨j,hj,rfl⟩:=a3k hb q;exact m.ab z hz j hj
theorem a4q {a:Array Keyed} (sa:∀i j,i<j->j<a.size->Lt less (el a i) (el a j)) {n:Nat} (hn:n<=a.size):(a.toList.take n).Pairwise (Lt less):=by
 rw[b5D];intro i j hi hj hij;rw[b4L,b4x] at hi hj;have g:∀{i:Nat} (h:i<(a.toList.take n).length),(a.toList.take n)[i]=el a i:=λ{i} h=>by
  have h':=h;rw[b4L,b4x] at h';have e:(a.toList.take n)[i]?=some (el a i):=by rw[b6c (by omega),b5f,a4l (by omega)]
  rw[b4q h] at e;exact b4N e
 rw[g,g];exact sa i j hij (by omega)
theorem a1y (a:Array Keyed) (n:Nat):(a.extract 0 n).toList=a.toList.take n:=by
 rw[b6j,b5L];simp
theorem HI.doneA (c:MC less S a b) (m:HI less a b out 0 nb) (hb:nb<=b.size):HF less a b (a.extract 0 0++b.extract 0 nb++out.reverse):=by
 refine m.fin ?_ ?_ (b5j _) hb
 ·rw[b7b,a1y,a1y]
 ·rw[b7b,a1y,a1y,b8K,List.nil_append];exact a4q c.sb hb
theorem MC.fst2 (c:MC less S a b) {j:Nat} (h:j<a.size):less (el b 0) (el a j)=true:=by
 by_cases z:j=0
 ·rw[z];exact c.fst
 ·cases e:less (el b 0) (el a j) with
  | true=>rfl
  | false =>
   have:=c.fst;rw[c.so.tr _ _ _ (c.sa 0 j (by omega) h) e] at this;exact this
theorem HI.firstB (c:MC less S a b) (m:HI less a b out na 1) (ha:na<=a.size):HF less a b (b.extract 0 1++a.extract 0 na++out.reverse):=by
 refine m.fin ?_ ?_ ha c.nb
 ·rw[b7b,a1y,a1y];exact b6z
 ·rw[b7b,a1y,a1y,b5v];refine⟨a4q c.sb c.nb,a4q c.sa ha,λx hx y hy=>?_⟩;rw[a4n c.nb] at hx;have ex:x=el b 0:=b4s.mp hx;obtain⟨j,hj⟩:=b6b hy;have lj:=(b4u.mp hj).1;rw[b4L] at lj;rw[b6c (by omega),b5f,a4l (by omega)] at hj;rw[ex,<-b4N hj];exact c.so.asym _ _ (c.fst2 (by omega))
section
variable {prog:Program} {w:World} {A:Around} {E:Value->Shared->Prop} {s:Shared} {κ:SortKind}
@[elab_as_elim] theorem HI.ov {P:Array Keyed->Prop} {X:Array Keyed} {n k:Nat} (m:HI less a b X n k) (h:∀o,HI less a b o n k->P o):P X:=h X m
theorem a5W (C:Cmp prog w A E s κ less S) (c:MC less S a b) {st:SortSt} {Q:Array Keyed->SortSt->Prop} (hκ:kindOf st=κ)
  (h:∀m st',a1o st st'->m.toList.Perm (a.toList++b.toList)->m.toList.Pairwise (Lt less)->Q m st'):wpS (model prog w) A E s (a4o a b) Q st:=by
 subst hκ;have na1:=c.na;have nb1:=c.nb;have fin:∀{m:Array Keyed} {st':SortSt},a1o st st'->HF less a b m->Q m st':=λ{m st'} k mi=>h m st' k mi.pm mi.so;rw[a5V];refine b4G (b9V (b5T ⟨rfl,?_⟩));dsimp only;refine b4G (a0y (show a.size-1<a.size by omega) ?_);have m0:HI less a b #[el a (a.size-1)] (a.size-1) b.size:=by
  refine⟨?_,b5c ..,λx hx j h2=>?_,λx hx j h2=>?_⟩
  ·rw[a4p (show a.size-1<a.size by omega),show a.size-1+1=a.size by omega,<-b4x,c0b,<-b4x,c0b];exact b8J _
  ·rw[b4s.mp hx];exact c.sa j _ h2 (by omega)
  ·rw[b4s.mp hx];exact c.so.asym _ _ (c.lst j h2)
 by_cases g1:(a.size-1==0)=true
 ·rw[if_pos g1];have g1:a.size-1=0:=by simpa using g1
  exact b4M (fin (a1o.refl _) (by rw[g1] at m0 ⊢;exact HI.doneA c m0 (by omega)))
 rw[if_neg g1];have g1:¬a.size-1=0:=by simpa using g1
 by_cases g2:(b.size==1)=true
 ·rw[if_pos g2];have g2:b.size=1:=by simpa using g2
  exact b4M (fin (a1o.refl _) (by rw[g2] at m0 ⊢;exact HI.firstB c m0 (by omega)))
 rw[if_neg g2];have g2:¬b.size=1:=by simpa using g2
 refine b4G (wpS_get ?_);refine b4G (b7c (b5M (I:=λx cc st'=>a1o st st'/\∃na nb out mg,cc=(none,na,nb,out,mg)/\HI less a b out na nb/\1<=na/\2<=nb/\na<=a.size/\nb<=b.size/\x+1+na+nb<=a.size+b.size)
  (Q:=λcc st'=>a1o st st'/\∃m i j o g,cc=(some m,i,j,o,g)/\HF less a b m) ?step ?ende ⟨a1o.refl _,_,_,_,_,rfl,m0,by omega,by omega,by omega,by omega,by omega⟩) ?post)
 case post =>
  rintro cc st' ⟨k,m,i,j,o,g,rfl,mi⟩;exact b4M (fin k mi)
 case ende =>
  rintro cc st' ⟨k,na,nb,out,mg,rfl,m,h1,h2,h4,h5,h3⟩;exfalso;omega
 case step =>
  rintro x cc st1 _ hx ⟨k1,na,nb,out,mg,rfl,m1,h1,h2,h4,h5,h3⟩;dsimp only;refine b4G (b7c (b5M (I:=λy cc st'=>st'=st1/\∃na2 nb2 out2 ac bc,cc=(none,na2,nb2,out2,ac,bc)/\HI less a b out2 na2 nb2/\1<=na2/\2<=nb2/\na2<=a.size/\nb2<=b.size/\na2+nb2+y<=na+nb)
   (Q:=λcc st'=>st'=st1/\((∃m i j o ac bc,cc=(some m,i,j,o,ac,bc)/\HF less a b m)\/∃na2 nb2 out2 ac bc,cc=(none,na2,nb2,out2,ac,bc)/\HI less a b out2 na2 nb2/\1<=na2/\2<=nb2/\na2<=a.size/\nb2<=b.size/\na2+nb2+1<=na+nb)) ?istep ?iende ⟨rfl,_,_,_,_,_,rfl,m1,h1,h2,h4,h5,by omega⟩) ?ipost)
  case iende =>
   rintro cc st' ⟨rfl,na2,nb2,out2,ac,bc,rfl,m2,i1,i2,i4,i5,i3⟩;exfalso;omega
  case istep =>
   rintro y cc st' _ hy ⟨rfl,na2,nb2,out2,ac,bc,rfl,m2,i1,i2,i4,i5,i3⟩;dsimp only;refine b4G (a0y (show nb2-1<b.size by omega) (b4G (a0y (show na2-1<a.size by omega) ?_)));refine b4G (C _ _ _ _ (c.xb _ (by omega)) (c.xa _ (by omega)) k1.k ?_);dsimp only;cases e:less (el b (nb2-1)) (el a (na2-1)) with
   | true =>
    rw[if_pos rfl];refine b4G (a0y (show na2-1<a.size by omega) ?_);have m3:HI less a b _ (na2-1) nb2:=HI.pushA (na:=na2-1) (by rw[show na2-1+1=na2 by omega];exact m2) c (show na2-1<a.size by omega) (λj q1=>by
     by_cases z:j=nb2-1
     ·rw[z];exact c.so.asym _ _ e
     ·exact c.so.tr _ _ _ (c.sb _ _ (by omega) (by omega)) (c.so.asym _ _ e))
    by_cases g3:(na2-1==0)=true
    ·rw[if_pos g3];have g3:na2-1=0:=by simpa using g3
     exact b4M ⟨rfl,.inl ⟨_,_,_,_,_,_,rfl,by rw[g3] at m3 ⊢;exact HI.doneA c m3 (by omega)⟩⟩
    ·rw[if_neg g3];have g3:¬na2-1=0:=by simpa using g3
     split
     ·exact b4M ⟨rfl,.inr ⟨_,_,_,_,_,rfl,m3,by omega,by omega,by omega,by omega,by omega⟩⟩
     ·exact b4M ⟨rfl,_,_,_,_,_,rfl,m3,by omega,by omega,by omega,by omega,by omega⟩
   | false =>
    rw[if_neg (by decide)];refine b4G (a0y (show nb2-1<b.size by omega) ?_);have e2:=e;have m3:HI less a b _ na2 (nb2-1):=HI.pushB (nb:=nb2-1) (by rw[show nb2-1+1=nb2 by omega];exact m2) c (show nb2-1<b.size by omega) (λj q1=>by
     by_cases z:j=na2-1
     ·rw[z];exact e2
     ·exact c.so.tr _ _ _ (c.sa _ _ (by omega) (by omega)) e2)
    by_cases g3:(nb2-1==1)=true
    ·rw[if_pos g3];have g3:nb2-1=1:=by simpa using g3
     exact b4M ⟨rfl,.inl ⟨_,_,_,_,_,_,rfl,by rw[g3] at m3 ⊢;exact HI.firstB c m3 (by omega)⟩⟩
    ·rw[if_neg g3];have g3:¬nb2-1=1:=by simpa using g3
     split
     ·exact b4M ⟨rfl,.inr ⟨_,_,_,_,_,rfl,m3,by omega,by omega,by omega,by omega,by omega⟩⟩
     ·exact b4M ⟨rfl,_,_,_,_,_,rfl,m3,by omega,by omega,by omega,by omega,by omega⟩
  case ipost =>
   rintro cc st' ⟨est,⟨m,i,j,o,ac,bc,rfl,mi⟩|⟨na2,nb2,out2,ac,bc,rfl,m2,i1,i2,i4,i5,i3⟩⟩
   ·subst est;exact b4M ⟨k1,_,_,_,_,_,rfl,mi⟩
   subst est;dsimp only;refine b4G (b9V (b5T ⟨rfl,?_⟩));refine b4G (b7c (b5M (I:=λy cc st'=>a1o st st'/\∃na3 nb3 out3 mg3 ac bc,cc=(none,na3,nb3,out3,mg3,ac,bc)/\HI less a b out3 na3 nb3/\1<=na3/\2<=nb3/\na3<=a.size/\nb3<=b.size/\na3+nb3+1<=na+nb)
    (Q:=λcc st'=>a1o st st'/\((∃m i j o g ac bc,cc=(some m,i,j,o,g,ac,bc)/\HF less a b m)\/∃na3 nb3 out3 mg3 ac bc,cc=(none,na3,nb3,out3,mg3,ac,bc)/\HI less a b out3 na3 nb3/\1<=na3/\2<=nb3/\na3<=a.size/\nb3<=b.size/\na3+nb3+1<=na+nb)) ?gstep ?gende ⟨k1,_,_,_,_,_,_,rfl,m2,i1,i2,i4,i5,i3⟩) ?gpost)
   case gende =>
    rintro cc st' ⟨k,na3,nb3,out3,mg3,ac,bc,rfl,m3,j1,j2,j4,j5,j3⟩;exact⟨k,.inr ⟨_,_,_,_,_,_,rfl,m3,j1,j2,j4,j5,j3⟩⟩
   case gpost =>
    rintro cc st' ⟨k,⟨m,i,j,o,g,ac,bc,rfl,mi⟩|⟨na3,nb3,out3,mg3,ac,bc,rfl,m3,j1,j2,j4,j5,j3⟩⟩
    ·exact b4M ⟨k,_,_,_,_,_,rfl,mi⟩
    dsimp only;rw[a0W];exact b4G (b6P (b4M ⟨k.set _,_,_,_,_,rfl,m3,j1,j2,j4,j5,by omega⟩))
   case gstep =>
    rintro y cc st3 _ hy ⟨ks0,na3,nb3,out3,mg3,ac,bc,rfl,m3,j1,j2,j4,j5,j3⟩;dsimp only;by_cases gg:mg3>1;rw[if_pos gg];generalize mg3-1=mg4;clear gg;revert mg4;refine ?K
    rotate_left
    rw[if_neg gg];exact ?K _
    as_aux_lemma=>
     intro mg4
     rw[a0W];refine b4G (b6P ?_);have ks:=ks0.set mg4;generalize setG st3 mg4=st4 at ks ⊢;refine b4G (a0y (show nb3-1<b.size by omega) ?_);refine b4G (a1p C (show na3-1<na3 by omega) (by omega) (c.xb _ (by omega)) (λi hi=>c.xa _ (by omega)) ks.k (λi j hij hj hb=>?_) (λk1 hk1 hk2 hk3=>?_))
     ·show(!less (el b (nb3-1)) (el a (0+i)))=true;have hb:(!less (el b (nb3-1)) (el a (0+j)))=true:=hb;rw[c.so.tr _ _ _ (c.sa (0+i) (0+j) (by omega) (by omega)) (show less (el b (nb3-1)) (el a (0+j))=false by simpa using hb)];rfl
     dsimp only;have HB:∀i,i<k1->Lt less (el a i) (el b (nb3-1)):=λi hi=>by
      have q:(!less (el b (nb3-1)) (el a (0+i)))=true:=hk2 i hi;rw[b8R] at q;show less (el b (nb3-1)) (el a i)=false;simpa using q
     by_cases g6:na3-k1>0;rw[if_pos g6];have M3:=HI.moreA c (show na3<=a.size by omega) m3 (na3-k1) (by omega) (λi hi hi2 j h1=>by
      have q:(!less (el b (nb3-1)) (el a (0+i)))=false:=hk3 i (by omega) hi2;rw[b8R] at q;have q:=c.so.asym _ _ (show less (el b (nb3-1)) (el a i)=true by simpa using q);by_cases z:j=nb3-1
      ·rw[z];exact q
      ·exact c.so.tr _ _ _ (c.sb j (nb3-1) (by omega) (by omega)) q)
     rw[show na3-(na3-k1)=k1 by omega] at M3;by_cases g7:(k1==0)=true
     ·rw[if_pos g7];have g7:k1=0:=by simpa using g7
      exact b4M ⟨ks,.inl ⟨_,_,_,_,_,_,_,rfl,by rw[g7] at M3 ⊢;exact HI.doneA c M3 (by omega)⟩⟩
     rw[if_neg g7];have q4:¬k1=0:=by simpa using g7
     have q5:k1<=na3:=by omega
     refine HI.ov M3 λout4 N3=>?_;clear M3;generalize na3-k1=acc;revert N3 HB q4 q5;generalize k1=na4;clear g6 g7;revert na4 acc out4;refine ?K2
     rotate_left
     rw[if_neg g6];exact ?K2 _ _ _ (λj h1=>HB j (by omega)) (by omega) (b4z na3) m3
     as_aux_lemma=>
      clear hk2 hk3 hk1 k1;intro out4 acc na4 HB q4 q5 M3
      refine b4G (a0y (show nb3-1<b.size by omega) ?_)
      try dsimp only
      have m4:HI less a b (_:Array Keyed) na4 (nb3-1):=HI.pushB (nb:=nb3-1) (by rw[show nb3-1+1=nb3 by omega];exact M3) c (show nb3-1<b.size by omega) HB;by_cases g2:(nb3-1==1)=true
      ·rw[if_pos g2];have g2:nb3-1=1:=by simpa using g2
       exact b4M ⟨ks,.inl ⟨_,_,_,_,_,_,_,rfl,by rw[g2] at m4 ⊢;exact HI.firstB c m4 (by omega)⟩⟩
      rw[if_neg g2];have g2:¬nb3-1=1:=by simpa using g2
      refine b4G (a0y (show na4-1<a.size by omega) ?_);refine b4G (a1p C (show nb3-1-1<nb3-1 by omega) (by omega) (c.xa _ (by omega)) (λi hi=>c.xb _ (by omega)) ks.k (λi j hij hj hb=>?_) (λk2 hk2 hk3 hk4=>?_))
      ·show less (el b (0+i)) (el a (na4-1))=true;have hb:less (el b (0+j)) (el a (na4-1))=true:=hb;cases e:less (el b (0+i)) (el a (na4-1)) with
       | true=>rfl
       | false=>rw[c.so.tr _ _ _ e (c.sb (0+i) (0+j) (by omega) (by omega))] at hb;exact hb
      dsimp only;have hk5:∀i,i<k2->less (el b i) (el a (na4-1))=true:=λi hi=>by
       have q:less (el b (0+i)) (el a (na4-1))=true:=hk3 i hi;rw[b8R] at q;exact q
      have hk6:∀i,k2<=i->i<nb3-1->less (el b i) (el a (na4-1))=false:=λi hi hi2=>by
       have q:less (el b (0+i)) (el a (na4-1))=false:=hk4 i hi hi2;rw[b8R] at q;exact q
      have k21:1<=k2:=by
       rcases b8t k2 with z|z
       ·have q:=hk6 0 (by omega) (by omega);rw[show less (el b 0) (el a (na4-1))=true from c.fst2 (by omega)] at q;cases q
       ·exact z
      by_cases g3:nb3-1-k2>0;rw[if_pos g3];have M4:=HI.moreB c (show nb3-1<=b.size by omega) m4 (nb3-1-k2) (by omega) (λi hi hi2 j h1=>by
       have q:=hk6 i (by omega) hi2;by_cases z:j=na4-1
       ·rw[z];exact q
       ·exact c.so.tr _ _ _ (c.sa j (na4-1) (by omega) (by omega)) q)
      rw[show nb3-1-(nb3-1-k2)=k2 by omega] at M4;by_cases g5:(k2==1)=true
      ·rw[if_pos g5];have g5:k2=1:=by simpa using g5
       exact b4M ⟨ks,.inl ⟨_,_,_,_,_,_,_,rfl,by rw[g5] at M4 ⊢;exact HI.firstB c M4 (by omega)⟩⟩
      rw[if_neg g5,if_neg (show ¬(k2==0)=true from λz=>absurd (by simpa using z:k2=0) (by omega))];have g6:¬k2=1:=by simpa using g5
      have HA:=λi hi=>c.so.asym _ _ (hk5 i hi);have q6:2<=k2:=by omega
      have q7:k2<=nb3-1:=by omega
      refine HI.ov M4 λout5 N4=>?_;clear M4 g3 g5 g6;generalize nb3-1-k2=bcc;revert N4 HA q6 q7;generalize k2=nb5;revert nb5 bcc out5;refine ?K3
      rotate_left
      rw[if_neg g3];exact ?K3 _ _ _ (λj h1=>c.so.asym _ _ (hk5 j (by omega))) (by omega) (b4z _) m4
      as_aux_lemma=>
       intro out5 bcc nb5 HA q6 q7 M4
       refine b4G (a0y (show na4-1<a.size by omega) ?_)
       try dsimp only
       have m5:HI less a b (_:Array Keyed) (na4-1) _:=HI.pushA (na:=na4-1) (by rw[show na4-1+1=na4 by omega];exact M4) c (show na4-1<a.size by omega) HA;by_cases g4:(na4-1==0)=true
       ·rw[if_pos g4];have g4:na4-1=0:=by simpa using g4
        exact b4M ⟨ks,.inl ⟨_,_,_,_,_,_,_,rfl,by rw[g4] at m5 ⊢;exact HI.doneA c m5 (by omega)⟩⟩
       rw[if_neg g4];have g4:¬na4-1=0:=by simpa using g4
       split
       ·exact b4M ⟨ks,.inr ⟨_,_,_,_,_,_,rfl,m5,by omega,by omega,by omega,by omega,by omega⟩⟩
       ·exact b4M ⟨ks,_,_,_,_,_,_,rfl,m5,by omega,by omega,by omega,by omega,by omega⟩
end
theorem a5X (i:Nat):mergeAt' i=(do
 let s <-get
 let (some (sa,na,power),some (sb,nb,_)):=((pendingOf s)[i]?,(pendingOf s)[i+1]?)|unsupported "internal:list.sort.pending"
 set (setPending s (((pendingOf s).setIfInBounds i (sa,na+nb,power)).eraseIdxIfInBounds (i+1)))
 let some k <-gallop' false (<-elem' (arrOf s) sb) (arrOf s) sa na 0|return false
 let (sa,na):=(sa+k,na-k)
 if na==0 then return true
 let some nb <-gallop' true (<-elem' (arrOf s) (sa+na-1)) (arrOf s) sb nb (nb-1)|return false
 if nb==0 then return true
 let x:=(arrOf s).extract sa sb
 let y:=(arrOf s).extract sb (sb+nb)
 let merged <-if na<=nb then a4m x y else a4o x y
 modify λs=>setArr s (merged.toList.zipIdx.foldl (λa (p,j)=>a.setIfInBounds (sa+j) p) (arrOf s))
 return (failedOf (<-get)).isNone):=rfl
noncomputable def Srt (less:Keyed->Keyed->Bool) (xs:Array Keyed) (lo hi:Nat):Prop:=∀i j,lo<=i->i<j->j<hi->Lt less (el xs i) (el xs j)
theorem a9d (base:Nat):∀(ms:List Keyed) (n:Nat) (arr:Array Keyed),base+n+ms.length<=arr.size->((ms.zipIdx n).foldl (λa (q:Keyed × Nat)=>a.setIfInBounds (base+q.2) q.1) arr).toList=arr.toList.take (base+n)++ms++arr.toList.drop (base+n+ms.length)
 | [],n,arr,h=>by
  simp
 | p::ms,n,arr,h=>by
  rw[b5l] at h;rw[b8d,List.foldl_cons];show(List.foldl _ (arr.setIfInBounds (base+n) p) (ms.zipIdx (n+1))).toList=_;have sz:(arr.setIfInBounds (base+n) p).size=arr.size:=by simp
  rw[a9d base ms (n+1) (arr.setIfInBounds (base+n) p) (by rw[sz];omega)];have e:(arr.setIfInBounds (base+n) p).toList=arr.toList.set (base+n) p:=by simp
  have hl:base+n<arr.toList.length:=by rw[b4x];omega
  rw[e,b5l];have e1:(arr.toList.set (base+n) p).take (base+(n+1))=arr.toList.take (base+n)++[p]:=by
   rw[show base+(n+1)=base+n+1 by omega,b5e,b8y hl,List.take_set_of_le (b4z _)];rfl
  have e2:(arr.toList.set (base+n) p).drop (base+(n+1)+ms.length)=arr.toList.drop (base+n+(ms.length+1)):=by
   rw[List.drop_set_of_lt (by omega)];congr 1;omega
  rw[e1,e2,b5d,b5d,b5d];rfl
theorem a1f {xs:Array Keyed} {i:Nat} (h:i<xs.size):xs.toList[i]?=some (el xs i):=by
 rw[b5f];exact a4l h
structure Laid (arr arr' m:Array Keyed) (base:Nat):Prop where
 sz:arr'.size=arr.size
 lo:∀j,j<base->el arr' j=el arr j
 mid:∀j,j<m.size->el arr' (base+j)=el m j
 hi:∀j,base+m.size<=j->j<arr.size->el arr' j=el arr j
theorem b3g {arr m:Array Keyed} {base:Nat} (h:base+m.size<=arr.size):Laid arr (m.toList.zipIdx.foldl (λa (q:Keyed × Nat)=>a.setIfInBounds (base+q.2) q.1) arr) m base /\
  (m.toList.zipIdx.foldl (λa (q:Keyed × Nat)=>a.setIfInBounds (base+q.2) q.1) arr).toList=arr.toList.take base++m.toList++arr.toList.drop (base+m.size):=by
 have e:=a9d base m.toList 0 arr (by rw[b4x];omega);rw[Nat.add_zero,b4x] at e;generalize (m.toList.zipIdx.foldl (λa (q:Keyed × Nat)=>a.setIfInBounds (base+q.2) q.1) arr)=arr' at e ⊢;have ll:(arr.toList.take base).length=base:=by rw[b4L,b4x];omega
 have sz:arr'.size=arr.size:=by
  rw[<-b4x,e,b4A,b4A,ll,b4x,b7A,b4x];omega
 refine⟨⟨sz,λj hj=>?_,λj hj=>?_,λj hj hj2=>?_⟩,e⟩
 ·have q:=a1f (xs:=arr') (i:=j) (by omega);rw[e,b5d,b5w (by omega),b6c hj,a1f (by omega)] at q;exact(b4N q).symm
 ·have q:=a1f (xs:=arr') (i:=base+j) (by omega);rw[e,b5d,b4U (by omega),ll,show base+j-base=j by omega,b5w (by rw[b4x];exact hj),a1f hj] at q;exact(b4N q).symm
 ·have q:=a1f (xs:=arr') (i:=j) (by omega);rw[e,b5d,b4U (by omega),ll,b4U (by rw[b4x];omega),b4x,b9C,show base+m.size+(j-base-m.size)=j by omega,a1f hj2] at q;exact(b4N q).symm
theorem b2e {arr:Array Keyed} {i n j:Nat} (hn:n<=arr.size) (h:i+j<n):el (arr.extract i n) j=el arr (i+j):=by
 have q:=a1f (xs:=arr.extract i n) (i:=j) (by rw[b9D];omega);rw[b6j,b5L,b6c (by omega),b9C,a1f (by omega)] at q;exact(b4N q).symm
theorem b2f {m:Array Keyed} {z:Keyed} (h:z∈m.toList):∃j,j<m.size/\el m j=z:=by
 obtain⟨j,hj⟩:=b6b h;have lj:=(b4u.mp hj).1;rw[b4x] at lj;rw[a1f lj] at hj;exact⟨j,lj,b4N hj⟩
theorem a3k {m:Array Keyed} {j:Nat} (h:j<m.size):el m j∈m.toList:=b4B (a1f h)
theorem b0W {less:Keyed->Keyed->Bool} {m:Array Keyed} (h:m.toList.Pairwise (Lt less)) {i j:Nat} (hij:i<j) (hj:j<m.size):Lt less (el m i) (el m j):=by
 rw[b5D] at h;have q:=h i j (by rw[b4x];omega) (by rw[b4x];omega) hij;have e1:=a1f (xs:=m) (i:=i) (by omega);have e2:=a1f (xs:=m) (i:=j) hj;rw[b4q (by rw[b4x];omega)] at e1 e2;rw[b4N e1,b4N e2] at q;exact q
structure SB (κ:SortKind) (a₀:Array Keyed) (st:SortSt):Prop where
 perm:(arrOf st).Perm a₀
 kind:kindOf st=κ
 failed:failedOf st=none
theorem SB.size {κ:SortKind} {a₀:Array Keyed} {st:SortSt} (h:SB κ a₀ st):(arrOf st).size=a₀.size:=h.perm.size_eq
section
variable {prog:Program} {w:World} {A:Around} {E:Value->Shared->Prop} {s:Shared} {κ:SortKind} {less:Keyed->Keyed->Bool} {S:Keyed->Prop} {a₀:Array Keyed}
structure SA (less:Keyed->Keyed->Bool) (S:Keyed->Prop) (a₀:Array Keyed):Prop where
 so:SO less S
 xs:∀x∈a₀.toList,S x
theorem SB.x {st:SortSt} (h:SB κ a₀ st) (sa:SA less S a₀) {i:Nat} (hi:i<a₀.size):S (el (arrOf st) i):=by
 have hm:el (arrOf st) i∈(arrOf st).toList:=a3k (by rw[h.size];exact hi);exact sa.xs _ ((b5h.mp h.perm).mem_iff.mp hm)
theorem b3h {σ:Type} {M:Model} {x:σ} {Q:PUnit->σ->Prop} {st:σ} (h:Q ⟨⟩ x):wpS M A E s (set x:StateT σ Sem PUnit) Q st:=by
 unfold wpS;rw[StateT.run_set];exact b4r ⟨rfl,h⟩
theorem a5Y (C:Cmp prog w A E s κ less S) (sa':SA less S a₀) {st:SortSt} {i sa na pw nb pw2:Nat} {Q:Bool->SortSt->Prop} (hB:SB κ a₀ st) (p1:(pendingOf st)[i]?=some (sa,na,pw)) (p2:(pendingOf st)[i+1]?=some (sa+na,nb,pw2)) (n1:1<=na) (n2:1<=nb) (hz:sa+na+nb<=a₀.size)
  (s1:Srt less (arrOf st) sa (sa+na)) (s2:Srt less (arrOf st) (sa+na) (sa+na+nb))
  (h:∀st',SB κ a₀ st'->pendingOf st'=((pendingOf st).setIfInBounds i (sa,na+nb,pw)).eraseIdxIfInBounds (i+1)->(∀j,j<sa\/sa+na+nb<=j->j<a₀.size->el (arrOf st') j=el (arrOf st) j)->Srt less (arrOf st') sa (sa+na+nb)->Q true st') :
  wpS (model prog w) A E s (mergeAt' i) Q st:=by
 have so:=sa'.so;have sz:=hB.size;rw[a5X];refine b4G (wpS_get ?_);rw[p1,p2];dsimp only;refine b4G (b3h ?_);generalize ep:((pendingOf st).setIfInBounds i (sa,na+nb,pw)).eraseIdxIfInBounds (i+1)=p' at h ⊢;have hB1:SB κ a₀ (setPending st p'):=⟨hB.perm,hB.kind,hB.failed⟩
 have arr1:arrOf (setPending st p')=arrOf st:=rfl;have pe1:pendingOf (setPending st p')=p':=rfl;generalize setPending st p'=st1 at hB1 arr1 pe1 ⊢;have X:∀j,j<a₀.size->S (el (arrOf st) j):=λj hj=>hB.x sa' hj;have PM:=b5h.mp hB.perm;clear p1 p2 ep hB;generalize arrOf st=arr at *
 refine b4G (a0y (by omega) ?_);refine b4G (a1p C (show 0<na by omega) (by omega) (X _ (by omega)) (λi hi=>X _ (by omega)) hB1.kind (λi j hij hj hb=>?_) (λk hk1 hk2 hk3=>?_))
 ·show(!less (el arr (sa+na)) (el arr (sa+i)))=true;have hb:(!less (el arr (sa+na)) (el arr (sa+j)))=true:=hb;rw[so.tr _ _ _ (s1 (sa+i) (sa+j) (by omega) (by omega) (by omega)) (show less (el arr (sa+na)) (el arr (sa+j))=false by simpa using hb)];rfl
 dsimp only;have A1:∀i,sa<=i->i<sa+k->Lt less (el arr i) (el arr (sa+na)):=λi h1 h2=>by
  have q:(!less (el arr (sa+na)) (el arr (sa+(i-sa))))=true:=hk2 (i-sa) (by omega);rw[show sa+(i-sa)=i by omega] at q;show less (el arr (sa+na)) (el arr i)=false;simpa using q
 have A2:∀i,sa+k<=i->i<sa+na->less (el arr (sa+na)) (el arr i)=true:=λi h1 h2=>by
  have q:(!less (el arr (sa+na)) (el arr (sa+(i-sa))))=false:=hk3 (i-sa) (by omega) (by omega);rw[show sa+(i-sa)=i by omega] at q;simpa using q
 have A3:∀i j,sa<=i->i<sa+k->sa+na<=j->j<sa+na+nb->Lt less (el arr i) (el arr j):=λi j h1 h2 h3 h4=>by
  by_cases z:j=sa+na
  ·rw[z];exact A1 i h1 h2
  ·exact so.tr _ _ _ (A1 i h1 h2) (s2 _ _ (by omega) (by omega) h4)
 by_cases g1:(na-k==0)=true
 ·rw[if_pos g1];have g1:na-k=0:=by simpa using g1
  refine b4M (h st1 hB1 pe1 (λj _ _=>by rw[arr1]) ?_);rw[arr1];intro i j h1 h2 h3;by_cases z1:j<sa+na
  ·exact s1 i j h1 h2 z1
  ·by_cases z2:sa+na<=i
   ·exact s2 i j z2 h2 h3
   ·exact A3 i j h1 (by omega) (by omega) h3
 rw[if_neg g1];have g1:¬na-k=0:=by simpa using g1
 rw[show sa+k+(na-k)-1=sa+na-1 by omega];refine b4G (a0y (by omega) ?_);refine b4G (a1p C (show nb-1<nb by omega) (by omega) (X _ (by omega)) (λi hi=>X _ (by omega)) hB1.kind (λi j hij hj hb=>?_) (λk2 hk4 hk5 hk6=>?_))
 ·show less (el arr (sa+na+i)) (el arr (sa+na-1))=true;have hb:less (el arr (sa+na+j)) (el arr (sa+na-1))=true:=hb;cases e:less (el arr (sa+na+i)) (el arr (sa+na-1)) with
  | true=>rfl
  | false=>rw[so.tr _ _ _ e (s2 (sa+na+i) (sa+na+j) (by omega) (by omega) (by omega))] at hb;exact hb
 dsimp only;have B1:∀j,sa+na<=j->j<sa+na+k2->less (el arr j) (el arr (sa+na-1))=true:=λj h1 h2=>by
  have q:less (el arr (sa+na+(j-(sa+na)))) (el arr (sa+na-1))=true:=hk5 (j-(sa+na)) (by omega);rw[show sa+na+(j-(sa+na))=j by omega] at q;exact q
 have B2:∀j,sa+na+k2<=j->j<sa+na+nb->Lt less (el arr (sa+na-1)) (el arr j):=λj h1 h2=>by
  have q:less (el arr (sa+na+(j-(sa+na)))) (el arr (sa+na-1))=false:=hk6 (j-(sa+na)) (by omega) (by omega);rw[show sa+na+(j-(sa+na))=j by omega] at q;exact q
 have k21:1<=k2:=by
  rcases b8t k2 with z|z
  ·have q:=B2 (sa+na) (by omega) (by omega);have q:less (el arr (sa+na)) (el arr (sa+na-1))=false:=q;rw[A2 (sa+na-1) (by omega) (by omega)] at q;cases q
  ·exact z
 by_cases g2:(k2==0)=true
 ·exact absurd (by simpa using g2:k2=0) (by omega)
 rw[if_neg g2];have xsz:(arr.extract (sa+k) (sa+na)).size=na-k:=by rw[b9D];omega
 have ysz:(arr.extract (sa+na) (sa+na+k2)).size=k2:=by rw[b9D];omega
 have xe:∀j,j<na-k->el (arr.extract (sa+k) (sa+na)) j=el arr (sa+k+j):=λj hj=>b2e (by omega) (by omega);have ye:∀j,j<k2->el (arr.extract (sa+na) (sa+na+k2)) j=el arr (sa+na+j):=λj hj=>b2e (by omega) (by omega);have B3:∀j,sa+na<=j->j<sa+na+k2->less (el arr j) (el arr (sa+na-1))=true:=B1;have mc:MC less S (arr.extract (sa+k) (sa+na)) (arr.extract (sa+na) (sa+na+k2)):=by
  refine⟨so,λi j hij hj=>?_,λi j hij hj=>?_,λi hi=>?_,λi hi=>?_,?_,λj hj=>?_,by omega,by omega⟩
  ·rw[xsz] at hj;rw[xe i (by omega),xe j hj];exact s1 _ _ (by omega) (by omega) (by omega)
  ·rw[ysz] at hj;rw[ye i (by omega),ye j hj];exact s2 _ _ (by omega) (by omega) (by omega)
  ·rw[xsz] at hi;rw[xe i hi];exact X _ (by omega)
  ·rw[ysz] at hi;rw[ye i hi];exact X _ (by omega)
  ·rw[xe 0 (by omega),ye 0 (by omega)];exact A2 _ (by omega) (by omega)
  ·rw[ysz] at hj;rw[xsz,xe _ (by omega),ye j hj,show sa+k+(na-k-1)=sa+na-1 by omega];exact B1 _ (by omega) (by omega)
 have whole:arr.toList.drop (sa+k)=(arr.extract (sa+k) (sa+na)).toList++(arr.extract (sa+na) (sa+na+k2)).toList++arr.toList.drop (sa+na+k2):=by
  rw[b6j,b6j,b5L,b5L];rw[show sa+na-(sa+k)=na-k by omega,show sa+na+k2-(sa+na)=k2 by omega];have e1:arr.toList.drop (sa+na)=List.take k2 (arr.toList.drop (sa+na))++arr.toList.drop (sa+na+k2):=by
   conv=>lhs;rw[<-b6A k2 (arr.toList.drop (sa+na))]
   rw[List.drop_drop]
  have e2:arr.toList.drop (sa+k)=List.take (na-k) (arr.toList.drop (sa+k))++arr.toList.drop (sa+na):=by
   conv=>lhs;rw[<-b6A (na-k) (arr.toList.drop (sa+k))]
   rw[List.drop_drop,show sa+k+(na-k)=sa+na by omega]
  rw[b5d,<-e1];exact e2
 have fin:∀(m:Array Keyed) (st2:SortSt),a1o st1 st2->m.toList.Perm ((arr.extract (sa+k) (sa+na)).toList++(arr.extract (sa+na) (sa+na+k2)).toList)->m.toList.Pairwise (Lt less) ->
   wpS (model prog w) A E s (do
    modify λs=>setArr s (m.toList.zipIdx.foldl (λa (q:Keyed × Nat)=>a.setIfInBounds (sa+k+q.2) q.1) (arrOf s))
    let __do_lift <-get
    pure (failedOf __do_lift).isNone) Q st2:=by
  intro m st2 kp pm pw';have msz:m.size=na-k+k2:=by
   have q:=pm.length_eq;rw[b4A,b4x,b4x,b4x,xsz,ysz] at q;exact q
  refine b4G (b6P (b4G (wpS_get ?_)));have a2:arrOf st2=arr:=kp.a.trans arr1;obtain⟨ld,le⟩:=b3g (arr:=arr) (m:=m) (base:=sa+k) (by omega);rw[a2];generalize (m.toList.zipIdx.foldl (λa (q:Keyed × Nat)=>a.setIfInBounds (sa+k+q.2) q.1) arr)=arr' at ld le ⊢;have hf:failedOf (setArr st2 arr')=none:=kp.f.trans hB1.failed;have mm:∀z∈m.toList,(∃j,sa+k<=j/\j<sa+na/\el arr j=z)\/∃j,sa+na<=j/\j<sa+na+k2/\el arr j=z:=λz hz=>by
   rcases b4J.mp (pm.mem_iff.mp hz) with q|q
   ·obtain⟨j,hj,e⟩:=b2f q;rw[xsz] at hj;rw[xe j hj] at e;exact .inl ⟨_,by omega,by omega,e⟩
   ·obtain⟨j,hj,e⟩:=b2f q;rw[ysz] at hj;rw[ye j hj] at e;exact .inr ⟨_,by omega,by omega,e⟩
  have F1:∀i z,sa<=i->i<sa+k->z∈m.toList->Lt less (el arr i) z:=λi z h1 h2 hz=>by
   rcases mm z hz with ⟨j,q1,q2,rfl⟩|⟨j,q1,q2,rfl⟩
   ·exact s1 _ _ h1 (by omega) q2
   ·exact A3 i j h1 h2 q1 (by omega)
  have F2:∀z j,z∈m.toList->sa+na+k2<=j->j<sa+na+nb->Lt less z (el arr j):=λz j hz h1 h2=>by
   rcases mm z hz with ⟨i,q1,q2,rfl⟩|⟨i,q1,q2,rfl⟩
   ·by_cases y:i=sa+na-1
    ·rw[y];exact B2 j h1 h2
    ·exact so.tr _ _ _ (s1 i (sa+na-1) (by omega) (by omega) (by omega)) (B2 j h1 h2)
   ·exact s2 _ _ q1 (by omega) h2
  show wpS _ _ _ _ (pure (failedOf (setArr st2 arr')).isNone) _ _;rw[hf];refine b4M (h (setArr st2 arr') ⟨?_,kp.k.trans hB1.kind,hf⟩ (kp.p.trans pe1) (λj hj hj2=>?_) ?_)
  ·show arr'.Perm a₀;rw[b5h,le,show sa+k+m.size=sa+na+k2 by omega];refine List.Perm.trans ?_ PM;have:arr.toList=arr.toList.take (sa+k)++((arr.extract (sa+k) (sa+na)).toList++(arr.extract (sa+na) (sa+na+k2)).toList)++arr.toList.drop (sa+na+k2):=by
    rw[b5d,<-whole,b6A]
   conv=>rhs;rw[this]
   exact b7I _ (b6y _ pm)
  ·show el arr' j=el arr j;rcases hj with z|z
   ·exact ld.lo j (by omega)
   ·exact ld.hi j (by omega) (by omega)
  ·show Srt less arr' sa (sa+na+nb);intro i j h1 h2 h3;have m1:∀x,sa+k<=x->x<sa+na+k2->el arr' x=el m (x-(sa+k)):=λx q1 q2=>by
    have q:=ld.mid (x-(sa+k)) (by omega);rw[show sa+k+(x-(sa+k))=x by omega] at q;exact q
   have l1:∀x,x<sa+k->el arr' x=el arr x:=λx q=>ld.lo x q;have r1:∀x,sa+na+k2<=x->x<sa+na+nb->el arr' x=el arr x:=λx q1 q2=>ld.hi x (by omega) (by omega);by_cases zi:i<sa+k
   ·rw[l1 i zi];by_cases zj:j<sa+k
    ·rw[l1 j zj];exact s1 i j h1 h2 (by omega)
    ·by_cases zj2:j<sa+na+k2
     ·rw[m1 j (by omega) zj2];exact F1 i _ h1 zi (a3k (by omega))
     ·rw[r1 j (by omega) h3];exact A3 i j h1 zi (by omega) h3
   ·by_cases zi2:i<sa+na+k2
    ·rw[m1 i (by omega) zi2];by_cases zj2:j<sa+na+k2
     ·rw[m1 j (by omega) zj2];exact b0W pw' (by omega) (by omega)
     ·rw[r1 j (by omega) h3];exact F2 _ j (a3k (by omega)) (by omega) h3
    ·rw[r1 i (by omega) (by omega),r1 j (by omega) h3];exact s2 i j (by omega) h2 h3
 by_cases g3:na-k<=k2
 ·rw[if_pos g3];exact b4G (a5U C mc hB1.kind λm st2 kp pm pw'=>fin m st2 kp pm pw')
 ·rw[if_neg g3];exact b4G (a5W C mc hB1.kind λm st2 kp pm pw'=>fin m st2 kp pm pw')
end
theorem a2l {xs ys:Array Keyed} {i j:Nat} (h:xs[i]?=ys[j]?):el xs i=el ys j:=by
 have g:∀(zs:Array Keyed) (k:Nat),el zs k=(zs[k]?).getD nokey:=λzs k=>by
  unfold el;simp[Array.getD];split<;>simp[*]
 rw[g,g,h]
theorem a1w {xs:Array Keyed} {i j:Nat} (hj:j<=xs.size) (k:Nat):el (mirror xs i j ((j-i) / 2)) k=if i<=k/\k<j then el xs (i+j-1-k) else el xs k:=by
 have e:=getElem?_mirror_all (i:=i) hj k;by_cases h1:i<=k/\k<j
 ·rw[if_pos h1] at e ⊢;exact a2l e
 ·rw[if_neg h1] at e ⊢;exact a2l e
theorem a9e {xs:Array Keyed} {src d:Nat} (hs:src<xs.size) (hd:d<=src) (k:Nat):el (bubble xs src d) k=if k=src-d then el xs src else if src-d<k/\k<=src then el xs (k-1) else el xs k:=by
 have e:=getElem?_bubble hs d hd k;by_cases h1:k=src-d
 ·rw[if_pos h1] at e ⊢;exact a2l e
 ·rw[if_neg h1] at e ⊢;by_cases h2:src-d<k/\k<=src
  ·rw[if_pos h2] at e ⊢;exact a2l e
  ·rw[if_neg h2] at e ⊢;exact a2l e
theorem SB.setArr {κ:SortKind} {a₀:Array Keyed} {st:SortSt} (h:SB κ a₀ st) {xs:Array Keyed} (hp:xs.Perm (arrOf st)):SB κ a₀ (PyProof.Rows.setArr st xs):=⟨hp.trans h.perm,h.kind,h.failed⟩
section
variable {prog:Program} {w:World} {A:Around} {E:Value->Shared->Prop} {s:Shared} {κ:SortKind} {less:Keyed->Keyed->Bool} {S:Keyed->Prop} {a₀:Array Keyed}
theorem a2C (C:Cmp prog w A E s κ less S) (sa:SA less S a₀) {st:SortSt} {i j:Nat} {Q:Option Bool->SortSt->Prop} (hB:SB κ a₀ st) (hi:i<a₀.size) (hj:j<a₀.size) (h:Q (some (less (el (arrOf st) i) (el (arrOf st) j))) st):wpS (model prog w) A E s (ltAt' i j) Q st:=by
 rw[ltAt'_eq];refine b4G (wpS_get ?_);show wpS _ _ _ _ (do let x <-elem' (arrOf st) i;let y <-elem' (arrOf st) j;lt' x y) Q st;refine b4G (a0y (by rw[hB.size];exact hi) (b4G (a0y (by rw[hB.size];exact hj) ?_)));exact C _ _ _ _ (hB.x sa hi) (hB.x sa hj) hB.kind h
structure a4r (a₀:Array Keyed) (lo:Nat) (st st':SortSt):Prop where
 lo:∀j,j<lo->el (arrOf st') j=el (arrOf st) j
 p:pendingOf st'=pendingOf st
theorem a4r.refl (lo:Nat) (st:SortSt):a4r a₀ lo st st:=⟨λ_ _=>rfl,rfl⟩
noncomputable def Fal (less:Keyed->Keyed->Bool) (xs:Array Keyed) (lo hi:Nat):Prop:=∀i j,lo<=i->i<j->j<hi->Lt less (el xs j) (el xs i)
noncomputable def Tie (less:Keyed->Keyed->Bool) (xs:Array Keyed) (a b:Nat):Prop:=∀i j,a<=i->i<b->a<=j->j<b->Lt less (el xs i) (el xs j)
theorem Fal.mir {xs:Array Keyed} {lo hi a b:Nat} (d:Fal less xs lo hi) (t:Tie less xs a b) (ha:lo<=a) (hb:b<=hi) (hs:hi<=xs.size):Fal less (mirror xs a b ((b-a) / 2)) lo hi:=λi j h1 h2 h3=>by
 rw[a1w (by omega),a1w (by omega)];by_cases zi:a<=i/\i<b
 ·rw[if_pos zi];by_cases zj:a<=j/\j<b
  ·rw[if_pos zj];exact t _ _ (by omega) (by omega) (by omega) (by omega)
  ·rw[if_neg zj];exact d _ _ (by omega) (by omega) h3
 ·rw[if_neg zi];by_cases zj:a<=j/\j<b
  ·rw[if_pos zj];exact d _ _ h1 (by omega) (by omega)
  ·rw[if_neg zj];exact d _ _ h1 h2 h3
theorem SB.mir {st:SortSt} {a b:Nat} (h:SB κ a₀ st):SB κ a₀ (PyProof.Rows.setArr st (mirror (arrOf st) a b ((b-a) / 2))):=h.setArr (mirror_perm _ _ _ _)
theorem a4r.mir {st st1:SortSt} {lo a b:Nat} (h:a4r a₀ lo st st1) (hB:SB κ a₀ st1) (ha:lo<=a) (hb:b<=a₀.size):a4r a₀ lo st (PyProof.Rows.setArr st1 (mirror (arrOf st1) a b ((b-a) / 2))):=⟨λj hj=>by
  show el (mirror (arrOf st1) a b ((b-a) / 2)) j=_;rw[a1w (by rw[hB.size];exact hb),if_neg (by omega)];exact h.lo j hj,h.p⟩
theorem a6N (C:Cmp prog w A E s κ less S) (sa:SA less S a₀) {st st1:SortSt} {lo nrem n0:Nat} {Q:Option Nat->SortSt->Prop} (hB:SB κ a₀ st1) (fr:a4r a₀ lo st st1) (h1:1<=n0) (h2:n0+1<=nrem) (hz:lo+nrem<=a₀.size) (ds:Fal less (arrOf st1) lo (lo+n0+1))
  (h:∀m st',SB κ a₀ st'->a4r a₀ lo st st'->1<=m->m<=nrem->Srt less (arrOf st') lo (lo+m)->Q (some m) st'):wpS (model prog w) A E s (do
 rule "list.sort.descending-run"
 let mut n:=n0+1
 let mut neq:=0
 for _ in [n:nrem] do
  let some smaller <-ltAt' (lo+n) (lo+n-1)|return none
  if smaller then
   if neq>0 then reverseSlice' (lo+n-(neq+1)) (lo+n)
   neq:=0
  else
   let some larger <-ltAt' (lo+n-1) (lo+n)|return none
   if larger then break
   neq:=neq+1
  n:=n+1
 if neq>0 then reverseSlice' (lo+n-(neq+1)) (lo+n)
 reverseSlice' lo (lo+n)
 for _ in [n:nrem] do
  let some smaller <-ltAt' (lo+n) (lo+n-1)|return none
  if smaller then break
  n:=n+1
 return some n) Q st1:=by
 have so:=sa.so;refine b4G (b9V (b5T ⟨rfl,?_⟩));dsimp only;refine b4G (b7c (b5M (I:=λx c st'=>SB κ a₀ st'/\a4r a₀ lo st st'/\∃q,c=(none,x,q)/\q+1<=x/\Fal less (arrOf st') lo (lo+x)/\Tie less (arrOf st') (lo+x-(q+1)) (lo+x))
  (Q:=λc st'=>SB κ a₀ st'/\a4r a₀ lo st st'/\∃x q,c=(none,x,q)/\2<=x/\x<=nrem/\q+1<=x/\Fal less (arrOf st') lo (lo+x)/\Tie less (arrOf st') (lo+x-(q+1)) (lo+x)) ?_ ?_ ⟨hB,fr,0,rfl,by omega,ds,λi j q1 q2 q3 q4=>?_⟩) ?_)
 ·rintro x c st' hx1 hx2 ⟨hB',fr',q,rfl,hq,dx,tx⟩;have sz:=hB'.size;dsimp only;refine b4G (a2C C sa hB' (by omega) (by omega) ?_);dsimp only;cases e:less (el (arrOf st') (lo+x)) (el (arrOf st') (lo+x-1)) with
  | true =>
   rw[if_pos rfl];have ext:∀{st2:SortSt},Fal less (arrOf st2) lo (lo+x)->Lt less (el (arrOf st2) (lo+x)) (el (arrOf st2) (lo+x-1))->Fal less (arrOf st2) lo (lo+(x+1)):=λ{st2} d2 l2 i j p1 p2 p3=>by
    by_cases z:j=lo+x
    ·rw[z] at p2 ⊢;by_cases z2:i=lo+x-1
     ·rw[z2];exact l2
     ·exact so.tr _ _ _ l2 (d2 i (lo+x-1) p1 (by omega) (by omega))
    ·exact d2 i j p1 p2 (by omega)
   have one:∀{st2:SortSt},Tie less (arrOf st2) (lo+(x+1)-(0+1)) (lo+(x+1)):=λ{st2} i j q1 q2 q3 q4=>by
    have:i=j:=by omega
    rw[this];cases e9:less (el (arrOf st2) j) (el (arrOf st2) j) with
    | false=>exact e9
    | true=>exact absurd (so.asym _ _ e9) (by rw[e9];decide)
   by_cases gq:q>0
   ·rw[if_pos gq];rw[b9a];refine b4G (b6P (b4M ⟨hB'.mir,fr'.mir hB' (by omega) (by omega),0,rfl,by omega,?_,one⟩));refine ext (dx.mir tx (by omega) (b4z _) (by omega)) ?_;show Lt less (el (mirror (arrOf st') (lo+x-(q+1)) (lo+x) ((lo+x-(lo+x-(q+1))) / 2)) (lo+x)) (el (mirror (arrOf st') (lo+x-(q+1)) (lo+x) ((lo+x-(lo+x-(q+1))) / 2)) (lo+x-1));rw[a1w (by omega),a1w (by omega),if_neg (by omega),if_pos (by omega)];exact so.tr _ _ _ (so.asym _ _ e) (tx _ _ (by omega) (by omega) (by omega) (by omega))
   ·rw[if_neg gq];exact b4M ⟨hB',fr',0,rfl,by omega,ext dx (so.asym _ _ e),one⟩
  | false =>
   rw[if_neg (by decide)];refine b4G (a2C C sa hB' (by omega) (by omega) ?_);dsimp only;cases e2:less (el (arrOf st') (lo+x-1)) (el (arrOf st') (lo+x)) with
   | true =>
    rw[if_pos rfl];exact b4M ⟨hB',fr',x,q,rfl,by omega,by omega,hq,dx,tx⟩
   | false =>
    rw[if_neg (by decide)];refine b4M ⟨hB',fr',q+1,rfl,by omega,λi j p1 p2 p3=>?_,λi j q1 q2 q3 q4=>?_⟩
    ·by_cases z:j=lo+x
     ·rw[z] at p2 ⊢;by_cases z2:i=lo+x-1
      ·rw[z2];exact e2
      ·exact so.tr _ _ _ e2 (dx i (lo+x-1) p1 (by omega) (by omega))
     ·exact dx i j p1 p2 (by omega)
    ·by_cases zi:i=lo+x
     ·by_cases zj:j=lo+x
      ·rw[zi,zj];exact so.tr _ _ _ e2 e
      ·rw[zi];exact so.tr _ _ _ e2 (tx _ _ (by omega) (by omega) (by omega) (by omega))
     ·by_cases zj:j=lo+x
      ·rw[zj];exact so.tr _ (el (arrOf st') (lo+x-1)) _ (tx _ _ (by omega) (by omega) (by omega) (by omega)) e
      ·exact tx _ _ (by omega) (by omega) (by omega) (by omega)
 ·rintro c st' ⟨hB',fr',q,rfl,hq,dx,tx⟩;rw[show max (n0+1) nrem=nrem by omega] at *
  exact⟨hB',fr',nrem,q,rfl,by omega,b4z _,hq,dx,tx⟩
 ·have:i=j:=by omega
  rw[this];cases e9:less (el (arrOf st1) j) (el (arrOf st1) j) with
  | false=>exact e9
  | true=>exact absurd (so.asym _ _ e9) (by rw[e9];decide)
 rintro c st2 ⟨hB2,fr2,n,q,rfl,n1,n2,hq,dx,tx⟩;dsimp only;have fin:∀{st3:SortSt},SB κ a₀ st3->a4r a₀ lo st st3->Fal less (arrOf st3) lo (lo+n)->wpS (model prog w) A E s (do
   reverseSlice' lo (lo+n)
   let mut n:=n
   for _ in [n:nrem] do
    let some smaller <-ltAt' (lo+n) (lo+n-1)|return none
    if smaller then break
    n:=n+1
   return some n) Q st3:=λ{st3} hB3 fr3 d3=>by
  rw[b9a];have sz:=hB3.size;refine b4G (b6P ?_);have hM:=hB3.mir (a:=lo) (b:=lo+n);have fM:=fr3.mir hB3 (a:=lo) (b:=lo+n) (b4z _) (by omega);have sM:Srt less (arrOf (PyProof.Rows.setArr st3 (mirror (arrOf st3) lo (lo+n) ((lo+n-lo) / 2)))) lo (lo+n):=λi j q1 q2 q3=>by
   show Lt less (el (mirror (arrOf st3) lo (lo+n) ((lo+n-lo) / 2)) i) (el (mirror (arrOf st3) lo (lo+n) ((lo+n-lo) / 2)) j);rw[a1w (by omega),a1w (by omega),if_pos (by omega),if_pos (by omega)];exact d3 _ _ (by omega) (by omega) (by omega)
  generalize PyProof.Rows.setArr st3 (mirror (arrOf st3) lo (lo+n) ((lo+n-lo) / 2))=st4 at hM fM sM ⊢;refine b4G (b7c (b5M (I:=λx c st'=>st'=st4/\c=(none,x)/\Srt less (arrOf st4) lo (lo+x))
   (Q:=λc st'=>st'=st4/\∃n1,c=(none,n1)/\n<=n1/\n1<=nrem/\Srt less (arrOf st4) lo (lo+n1)) ?_ ?_ ⟨rfl,rfl,sM⟩) ?_)
  ·rintro x c st' hx1 hx2 ⟨est,rfl,sx⟩;subst est;dsimp only;refine b4G (a2C C sa hM (by omega) (by omega) ?_);dsimp only;cases e:less (el (arrOf st') (lo+x)) (el (arrOf st') (lo+x-1)) with
   | true =>
    rw[if_pos rfl];exact b4M ⟨rfl,x,rfl,by omega,by omega,sx⟩
   | false =>
    rw[if_neg (by decide)];refine b4M ⟨rfl,rfl,λi j q1 q2 q3=>?_⟩;by_cases z:j=lo+x
    ·rw[z] at q2 ⊢;by_cases z2:i=lo+x-1
     ·rw[z2];exact e
     ·exact so.tr _ _ _ (sx i (lo+x-1) q1 (by omega) (by omega)) e
    ·exact sx i j q1 q2 (by omega)
  ·rintro c st' ⟨est,rfl,sx⟩;refine⟨est,max n nrem,rfl,Nat.le_max_left _ _,Nat.max_le.mpr ⟨by omega,b4z _⟩,?_⟩;exact sx
  rintro c st' ⟨est,n',rfl,n3,n4,sn'⟩;have est:=est.symm;subst est;exact b4M (h n' st4 hM fM (by omega) n4 sn')
 by_cases gq:q>0
 ·rw[if_pos gq];rw[b9a];refine b4G (b6P ?_);exact fin hB2.mir (fr2.mir hB2 (by omega) (by omega)) (dx.mir tx (by omega) (b4z _) (by rw[hB2.size];omega))
 ·rw[if_neg gq];exact fin hB2 fr2 dx
theorem a9f (C:Cmp prog w A E s κ less S) (sa:SA less S a₀) {st:SortSt} {lo nrem:Nat} {Q:Option Nat->SortSt->Prop} (hB:SB κ a₀ st) (h1:1<=nrem) (hz:lo+nrem<=a₀.size)
  (h:∀m st',SB κ a₀ st'->a4r a₀ lo st st'->1<=m->m<=nrem->Srt less (arrOf st') lo (lo+m)->Q (some m) st'):wpS (model prog w) A E s (countRun' lo nrem) Q st:=by
 have so:=sa.so;have sz:=hB.size;rw[countRun'_eq];dsimp only;refine b4G (b7c (b5M (I:=λx c st'=>st'=st/\c=(none,x)/\Srt less (arrOf st) lo (lo+x))
  (Q:=λc st'=>st'=st/\∃n1,c=(none,n1)/\1<=n1/\n1<=nrem/\Srt less (arrOf st) lo (lo+n1)/\(n1<nrem->less (el (arrOf st) (lo+n1)) (el (arrOf st) (lo+n1-1))=true)) ?_ ?_ ⟨rfl,rfl,λi j q1 q2 q3=>by omega⟩) ?_)
 ·rintro x c st' hx1 hx2 ⟨est,rfl,sx⟩;subst est;dsimp only;refine b4G (a2C C sa hB (by omega) (by omega) ?_);dsimp only;cases e:less (el (arrOf st') (lo+x)) (el (arrOf st') (lo+x-1)) with
  | true =>
   rw[if_pos rfl];exact b4M ⟨rfl,x,rfl,by omega,by omega,sx,λ_=>e⟩
  | false =>
   rw[if_neg (by decide)];have e2:=e;refine b4M ⟨rfl,rfl,λi j q1 q2 q3=>?_⟩;by_cases z:j=lo+x
   ·rw[z] at q2 ⊢;by_cases z2:i=lo+x-1
    ·rw[z2];exact e2
    ·exact so.tr _ _ _ (sx i (lo+x-1) q1 (by omega) (by omega)) e2
   ·exact sx i j q1 q2 (by omega)
 ·rintro c st' ⟨est,rfl,sx⟩;refine⟨est,max 1 nrem,rfl,Nat.le_max_left _ _,Nat.max_le.mpr ⟨by omega,b4z _⟩,?_,λq=>absurd q (by omega)⟩;exact sx
 rintro c st' ⟨est,n,rfl,n1,n2,sn,brk⟩;have est:=est.symm;subst est;dsimp only;by_cases g1:(n==nrem)=true
 ·rw[if_pos g1];exact b4M (h n st hB (a4r.refl _ _) n1 n2 sn)
 rw[if_neg g1];have g1:¬n=nrem:=by simpa using g1
 have b0:=brk (by omega);by_cases g2:n>1
 ·rw[if_pos g2];refine b4G (a2C C sa hB (by omega) (by omega) ?_);dsimp only;cases e:less (el (arrOf st) lo) (el (arrOf st) (lo+n-1)) with
  | true =>
   rw[if_pos rfl];exact b4M (h n st hB (a4r.refl _ _) n1 n2 sn)
  | false =>
   rw[if_neg (by decide)];have tie:Tie less (arrOf st) lo (lo+n):=λi j q1 q2 q3 q4=>by
    have a1:Lt less (el (arrOf st) i) (el (arrOf st) (lo+n-1)):=by
     by_cases z:i=lo+n-1
     ·rw[z];cases e9:less (el (arrOf st) (lo+n-1)) (el (arrOf st) (lo+n-1)) with
      | false=>exact e9
      | true=>exact absurd (so.asym _ _ e9) (by rw[e9];decide)
     ·exact sn _ _ q1 (by omega) (by omega)
    have a2:Lt less (el (arrOf st) lo) (el (arrOf st) j):=by
     by_cases z:j=lo
     ·rw[z];cases e9:less (el (arrOf st) lo) (el (arrOf st) lo) with
      | false=>exact e9
      | true=>exact absurd (so.asym _ _ e9) (by rw[e9];decide)
     ·exact sn _ _ (b4z _) (by omega) q4
    exact so.tr _ _ _ a1 (so.tr _ (el (arrOf st) lo) _ e a2)
   have d0:Fal less (arrOf st) lo (lo+n+1):=λi j q1 q2 q3=>by
    by_cases z:j=lo+n
    ·rw[z];exact so.tr _ _ _ (so.asym _ _ b0) (tie _ _ (by omega) (by omega) q1 (by omega))
    ·exact tie _ _ (by omega) (by omega) q1 (by omega)
   rw[b9a];refine b4G (b6P ?_);exact a6N C sa hB.mir ((a4r.refl lo st).mir hB (b4z _) (by omega)) n1 (by omega) hz (d0.mir tie (b4z _) (by omega) (by omega)) h
 rw[if_neg g2];have en:n=1:=by omega
 subst en;refine a6N C sa hB (a4r.refl lo st) (b4z _) (by omega) hz (λi j q1 q2 q3=>?_) h;have:i=lo:=by omega
 have:j=lo+1:=by omega
 subst i j;exact so.asym _ _ b0
theorem a7O (C:Cmp prog w A E s κ less S) (sa:SA less S a₀) {st:SortSt} {lo n ok:Nat} {Q:Bool->SortSt->Prop} (hB:SB κ a₀ st) (hok:ok<=n) (hz:lo+n<=a₀.size) (hs:Srt less (arrOf st) lo (lo+ok))
  (h:∀st',SB κ a₀ st'->a4r a₀ lo st st'->Srt less (arrOf st') lo (lo+n)->Q true st'):wpS (model prog w) A E s (binarySort' lo n ok) Q st:=by
 have so:=sa.so;rw[binarySort'_eq];refine b4G (b7c (b5M (I:=λk c st'=>c=(none,())/\SB κ a₀ st'/\a4r a₀ lo st st'/\Srt less (arrOf st') lo (lo+min k n))
  (Q:=λc st'=>c=(none,())/\SB κ a₀ st'/\a4r a₀ lo st st'/\Srt less (arrOf st') lo (lo+n)) ?step ?fin ?init) ?post)
 case post =>
  rintro c st' ⟨rfl,hB',fr,hs'⟩;exact b4M (h st' hB' fr hs')
 case init =>
  refine⟨rfl,hB,a4r.refl _ _,λi j h1 h2 h3=>?_⟩;exact hs i j h1 h2 (by omega)
 case fin =>
  rintro c st' ⟨hc,hB',fr,hs'⟩;refine⟨hc,hB',fr,?_⟩
  rwa [show min (max (max ok 1) n) n=n by omega] at hs'
 case step =>
  rintro k c st' hak hkn ⟨rfl,hB',fr,hs'⟩;rw[show min k n=k by omega] at hs';have hk:lo+k<a₀.size:=by omega
  have sz:=hB'.size;refine b4G (b7c (b5M (I:=λx c st''=>st''=st'/\∃l r,c=(none,l,r)/\l<=r/\r<=k/\r-l<=k-x /\
    (∀i,i<l->Lt less (el (arrOf st') (lo+i)) (el (arrOf st') (lo+k)))/\(∀i,r<=i->i<k->Lt less (el (arrOf st') (lo+k)) (el (arrOf st') (lo+i))))
   (Q:=λc st''=>st''=st'/\∃l r,c=(none,l,r)/\l<=k /\
    (∀i,i<l->Lt less (el (arrOf st') (lo+i)) (el (arrOf st') (lo+k)))/\(∀i,l<=i->i<k->Lt less (el (arrOf st') (lo+k)) (el (arrOf st') (lo+i)))) ?istep ?ifin ?iinit) ?ipost)
  case iinit=>exact⟨rfl,0,k,rfl,by omega,by omega,by omega,λi hi=>by omega,λi h1 h2=>by omega⟩
  case ifin =>
   rintro c st'' ⟨rfl,l,r,rfl,hlr,hrk,hm,hlo,hhi⟩;have:l=r:=by omega
   subst this;exact⟨rfl,l,l,rfl,hrk,hlo,hhi⟩
  case istep =>
   rintro x c st'' _ hxk ⟨rfl,l,r,rfl,hlr,hrk,hm,hlo,hhi⟩;dsimp only;by_cases hge:l >= r
   ·rw[if_pos hge];have:l=r:=by omega
    subst this;exact b4M ⟨rfl,l,l,rfl,hrk,hlo,hhi⟩
   ·rw[if_neg hge];refine b4G (a2C C sa hB' hk (by omega) ?_);dsimp only;cases e:less (el (arrOf st'') (lo+k)) (el (arrOf st'') (lo+(l+r) / 2)) with
    | true =>
     rw[if_pos rfl];refine b4M ⟨rfl,l,(l+r) / 2,rfl,by omega,by omega,by omega,hlo,λi h1 h2=>?_⟩;by_cases z:i=(l+r) / 2
     ·rw[z];exact so.asym _ _ e
     ·exact so.tr _ _ _ (so.asym _ _ e) (hs' _ _ (by omega) (by omega) (by omega))
    | false =>
     rw[if_neg (by decide)];have e2:=e;refine b4M ⟨rfl,(l+r) / 2+1,r,rfl,by omega,by omega,by omega,λi h1=>?_,hhi⟩;by_cases z:i=(l+r) / 2
     ·rw[z];exact e2
     ·exact so.tr _ _ _ (hs' (lo+i) (lo+(l+r) / 2) (by omega) (by omega) (by omega)) e2
  case ipost =>
   rintro c st'' ⟨rfl,l,r,rfl,hlk,hlo,hhi⟩;show wpS _ _ _ _ (do moveDown' (lo+k) (lo+l);pure (ForInStep.yield (none,()))) _ _;rw[moveDown'_eq];have B:∀x,el (bubble (arrOf st'') (lo+k) (lo+k-(lo+l))) x=if x=lo+l then el (arrOf st'') (lo+k) else if lo+l<x/\x<=lo+k then el (arrOf st'') (x-1) else el (arrOf st'') x:=λx=>by
    rw[a9e (by rw[sz];exact hk) (by omega),show lo+k-(lo+k-(lo+l))=lo+l by omega]
   refine b4G (b6P (b4M ⟨rfl,hB'.setArr (bubble_perm _ _ _),⟨λj hj=>?_,fr.p⟩,?_⟩))
   ·show el (bubble (arrOf st'') (lo+k) (lo+k-(lo+l))) j=_;rw[B,if_neg (by omega),if_neg (by omega)];exact fr.lo j hj
   rw[show min (k+1) n=k+1 by omega];intro i j h1 h2 h3;show Lt less (el (bubble (arrOf st'') (lo+k) (lo+k-(lo+l))) i) (el (bubble (arrOf st'') (lo+k) (lo+k-(lo+l))) j);rw[B,B];have hl2:∀x,lo<=x->x<lo+l->Lt less (el (arrOf st'') x) (el (arrOf st'') (lo+k)):=λx q1 q2=>by
    have q:=hlo (x-lo) (by omega);rw[show lo+(x-lo)=x by omega] at q;exact q
   have hh2:∀x,lo+l<=x->x<lo+k->Lt less (el (arrOf st'') (lo+k)) (el (arrOf st'') x):=λx q1 q2=>by
    have q:=hhi (x-lo) (by omega) (by omega);rw[show lo+(x-lo)=x by omega] at q;exact q
   repeat' split
   all_goals first
    | (exfalso;omega)
    | exact hl2 _ (by omega) (by omega)
    | exact hh2 _ (by omega) (by omega)
    | exact hs' _ _ (by omega) (by omega) (by omega)
end
noncomputable def a1h (less:Keyed->Keyed->Bool) (arr:Array Keyed):List (Nat × Nat × Nat)->Nat->Nat->Prop
 | [],b,e=>b=e
 | q::r,b,e=>q.1=b/\1<=q.2.1/\Srt less arr b (b+q.2.1)/\a1h less arr r (b+q.2.1) e
variable {less:Keyed->Keyed->Bool} {arr arr':Array Keyed}
theorem a1h.le:∀{p:List (Nat × Nat × Nat)} {b e:Nat},a1h less arr p b e->b+p.length<=e
 | [],b,e,h=>by cases h;simp
 | q::r,b,e,h=>by
  have:=a1h.le h.2.2.2;have:=h.2.1;rw[b5l];omega
theorem a1h.congr:∀{p:List (Nat × Nat × Nat)} {b e:Nat},(∀j,b<=j->j<e->el arr' j=el arr j)->a1h less arr p b e->a1h less arr' p b e
 | [],b,e,_,h=>h
 | q::r,b,e,hc,h=>by
  have l:=a1h.le h.2.2.2;refine⟨h.1,h.2.1,λi j h1 h2 h3=>?_,a1h.congr (λj h1 h2=>hc j (by omega) h2) h.2.2.2⟩;rw[hc i h1 (by omega),hc j (by omega) (by omega)];exact h.2.2.1 i j h1 h2 h3
theorem a1h.app:∀{p q:List (Nat × Nat × Nat)} {b e:Nat},a1h less arr (p++q) b e↔∃m,a1h less arr p b m/\a1h less arr q m e
 | [],q,b,e=>⟨λh=>⟨b,rfl,h⟩,λ⟨m,h1,h2⟩=>by cases h1;exact h2⟩
 | x::p,q,b,e=>by
  constructor
  ·rintro⟨h1,h2,h3,h4⟩;obtain⟨m,g1,g2⟩:=a1h.app.mp h4;exact⟨m,⟨h1,h2,h3,g1⟩,g2⟩
  ·rintro⟨m,⟨h1,h2,h3,h4⟩,g2⟩;exact⟨h1,h2,h3,a1h.app.mpr ⟨m,h4,g2⟩⟩
theorem a1h.at2 {p:List (Nat × Nat × Nat)} {b e i:Nat} (h:a1h less arr p b e) (hi:i+1<p.length):∃pre post sa na pw nb pw2,p=pre++(sa,na,pw)::(sa+na,nb,pw2)::post/\pre.length=i/\1<=na/\1<=nb/\Srt less arr sa (sa+na)/\Srt less arr (sa+na) (sa+na+nb)/\a1h less arr pre b sa/\a1h less arr post (sa+na+nb) e:=by
 have e1:p=p.take i++p.drop i:=(b6A i p).symm;have hd:p.drop i=p[i]::p[i+1]::p.drop (i+2):=by
  rw[b6R (by omega),b6R hi]
 rw[e1,hd] at h;obtain⟨m,h1,h2⟩:=a1h.app.mp h;obtain⟨a1,a2,a3,b1,b2,b3,b4⟩:=h2;generalize p[i]=x at *
 generalize p[i+1]=y at *
 obtain⟨x1,x2,x3⟩:=x;obtain⟨y1,y2,y3⟩:=y;subst a1 b1;refine⟨p.take i,p.drop (i+2),x1,x2,x3,y2,y3,?_,by rw[b4L];omega,a2,b2,a3,b3,h1,b4⟩;rw[<-hd];exact e1
theorem a1h.same:∀{p p':List (Nat × Nat × Nat)} {b e:Nat},p.map (λq=>(q.1,q.2.1))=p'.map (λq=>(q.1,q.2.1))->(a1h less arr p b e↔a1h less arr p' b e)
 | [],[],b,e,_=>Iff.rfl
 | [],_::_,b,e,h=>by cases h
 | _::_,[],b,e,h=>by cases h
 | q::r,q'::r',b,e,h=>by
  rw[b5J,b5J] at h;obtain⟨h1,h2⟩:=b6I h;have e1:q.1=q'.1:=(Prod.mk.inj h1).1;have e2:q.2.1=q'.2.1:=(Prod.mk.inj h1).2;show(q.1=b/\1<=q.2.1/\Srt less arr b (b+q.2.1)/\a1h less arr r (b+q.2.1) e)↔(q'.1=b/\1<=q'.2.1/\Srt less arr b (b+q'.2.1)/\a1h less arr r' (b+q'.2.1) e);rw[e1,e2,a1h.same h2]
theorem lt_ite {c:Prop} [Decidable c] {a b n:Nat} (h1:a+1<n) (h2:b+1<n):(if c then a else b)+1<n:=by split<;>assumption
theorem a2D {α β:Type} (g:α->β) (f:α->α) (h:∀x,g (f x)=g x):∀(l:List α) (i:Nat),(l.modify i f).map g=l.map g
 | [],i=>by simp
 | x::l,0=>by simp[h]
 | x::l,i+1=>by simp[a2D g f h l i]
section
variable {prog:Program} {w:World} {A:Around} {E:Value->Shared->Prop} {s:Shared} {κ:SortKind} {S:Keyed->Prop} {a₀:Array Keyed}
theorem a2E (C:Cmp prog w A E s κ less S) (sa':SA less S a₀) {st:SortSt} {i e:Nat} {Q:Bool->SortSt->Prop} (hB:SB κ a₀ st) (hR:a1h less (arrOf st) (pendingOf st).toList 0 e) (he:e<=a₀.size) (hi:i+1<(pendingOf st).size)
  (h:∀st',SB κ a₀ st'->(pendingOf st').size+1=(pendingOf st).size->a1h less (arrOf st') (pendingOf st').toList 0 e->(∀j,e<=j->j<a₀.size->el (arrOf st') j=el (arrOf st) j)->Q true st') :
  wpS (model prog w) A E s (mergeAt' i) Q st:=by
 obtain⟨pre,post,sa,na,pw,nb,pw2,ep,lp,n1,n2,s1,s2,r1,r2⟩:=hR.at2 (i:=i) (by rw[b4x];exact hi);have l2:=r2.le;have g1:(pendingOf st)[i]?=some (sa,na,pw):=by
  rw[<-b5f,ep,b4U (by omega),lp,b9E];rfl
 have g2:(pendingOf st)[i+1]?=some (sa+na,nb,pw2):=by
  rw[<-b5f,ep,b4U (by omega),lp,show i+1-i=1 by omega];rfl
 refine a5Y C sa' hB g1 g2 n1 n2 (by omega) s1 s2 λst' hB' hp' hk hs=>?_;have el1:(pendingOf st').toList=pre++(sa,na+nb,pw)::post:=by
  rw[hp',Array.toList_eraseIdxIfInBounds,Array.toList_setIfInBounds,ep];rw[List.set_append_right _ _ (by omega),lp,b9E,List.set_cons_zero,List.eraseIdx_append_of_length_le (by omega),lp,show i+1-i=1 by omega];rfl
 have lr:=r1.le;refine h st' hB' ?_ ?_ (λj h1 h2=>hk j (by omega) h2)
 ·rw[<-b4x,<-b4x,el1,ep];simp;omega
 ·rw[el1];refine a1h.app.mpr ⟨sa,a1h.congr (λj q1 q2=>hk j (by omega) (by omega)) r1,rfl,by show 1<=na+nb;omega,?_,?_⟩
  ·show Srt less (arrOf st') sa (sa+(na+nb));rw[<-b8u];exact hs
  ·show a1h less (arrOf st') post (sa+(na+nb)) e;rw[<-b8u];exact a1h.congr (λj q1 q2=>hk j (by omega) (by omega)) r2
theorem a6O (C:Cmp prog w A E s κ less S) (sa':SA less S a₀) {st:SortSt} {Q:Unit->SortSt->Prop} (hB:SB κ a₀ st) (hp:pendingOf st=#[])
  (h:∀st',SB κ a₀ st'->Srt less (arrOf st') 0 a₀.size->Q () st'):wpS (model prog w) A E s sortRuns' Q st:=by
 rw[sortRuns'_eq];refine b4G (wpS_get ?_);dsimp only;rw[hB.size];generalize minRun' a₀.size a₀.size 0=minrun;refine b4G (b7c (b5M (I:=λx c st'=>∃lo,c=(none,lo)/\SB κ a₀ st'/\lo<=a₀.size/\x<=lo/\a1h less (arrOf st') (pendingOf st').toList 0 lo)
  (Q:=λc st'=>c=(none,a₀.size)/\SB κ a₀ st'/\a1h less (arrOf st') (pendingOf st').toList 0 a₀.size) ?step ?fin ⟨0,rfl,hB,b5j _,b5j _,by rw[hp];rfl⟩) ?post)
 case fin =>
  rintro c st' ⟨lo,rfl,hB',h1,h2,hR⟩;have:lo=a₀.size:=by omega
  subst this;exact⟨rfl,hB',hR⟩
 case step =>
  rintro x c st1 _ hx ⟨lo,rfl,hB1,h1,h2,hR1⟩;dsimp only;by_cases g:lo >= a₀.size
  ·rw[if_pos g];have:lo=a₀.size:=by omega
   subst this;exact b4M ⟨rfl,hB1,hR1⟩
  rw[if_neg g];refine b4G (a9f C sa' hB1 (by omega) (by omega) λm st2 hB2 fr2 m1 m2 sm=>?_);have hR2:a1h less (arrOf st2) (pendingOf st2).toList 0 lo:=by
   rw[fr2.p];exact a1h.congr (λj _ q2=>fr2.lo j q2) hR1
  dsimp only;by_cases g2:m<minrun
  ·rw[if_pos g2];refine b4G (b9V (b5T ⟨rfl,?_⟩));refine b4G (a7O C sa' hB2 (by omega) (by omega) sm λst3 hBc fr3 hSc=>?_);have hRc:a1h less (arrOf st3) (pendingOf st3).toList 0 lo:=by
    rw[fr3.p];exact a1h.congr (λj _ q2=>fr3.lo j q2) hR2
   rw[if_neg (by decide)];refine b4G (wpS_get ?_);cases hb:(pendingOf st3).back? with
   | none =>
    dsimp only;refine b4G (b6P (b4M ⟨lo+min (a₀.size-lo) minrun,rfl,⟨hBc.perm,hBc.kind,hBc.failed⟩,by omega,by omega,?_⟩));show a1h less (arrOf st3) ((pendingOf st3).push (lo,min (a₀.size-lo) minrun,0)).toList 0 (lo+min (a₀.size-lo) minrun);rw[b4V];exact a1h.app.mpr ⟨lo,hRc,rfl,by show 1<=min (a₀.size-lo) minrun;omega,hSc,rfl⟩
   | some q0 =>
    obtain⟨t1,u1,pw0⟩:=q0;dsimp only;refine b4G (b7c (b5M (I:=λy c st'=>c=(none,())/\SB κ a₀ st'/\a1h less (arrOf st') (pendingOf st').toList 0 lo/\Srt less (arrOf st') lo (lo+min (a₀.size-lo) minrun))
     (Q:=λc st'=>c=(none,())/\SB κ a₀ st'/\a1h less (arrOf st') (pendingOf st').toList 0 lo/\Srt less (arrOf st') lo (lo+min (a₀.size-lo) minrun)) ?_ (λc st' hh=>hh) ⟨rfl,hBc,hRc,hSc⟩) ?_)
    ·rintro y c st5 _ hy ⟨rfl,hB5,hR5,hS5⟩;refine b4G (wpS_get ?_);cases hm:(if (pendingOf st5).size>1 then (pendingOf st5)[(pendingOf st5).size-2]? else none) with
     | none=>exact b4M ⟨rfl,hB5,hR5,hS5⟩
     | some q5 =>
      obtain⟨x1,x2,older⟩:=q5;dsimp only;have gt1:(pendingOf st5).size>1:=by
       by_cases z:(pendingOf st5).size>1
       ·exact z
       ·rw[if_neg z] at hm;cases hm
      split
      ·exact b4M ⟨rfl,hB5,hR5,hS5⟩
      ·refine b4G (a2E C sa' hB5 hR5 (by omega) (by omega) λst6 hB6 _ hR6 hk6=>?_);refine b4M ⟨rfl,hB6,hR6,λi j h1 h2 h3=>?_⟩;rw[hk6 i h1 (by omega),hk6 j (by omega) (by omega)];exact hS5 i j h1 h2 h3
    ·rintro c st5 ⟨rfl,hB5,hR5,hS5⟩;dsimp only;refine b4G (b6P (b4G (b6P (b4M ⟨lo+min (a₀.size-lo) minrun,rfl,⟨hB5.perm,hB5.kind,hB5.failed⟩,by omega,by omega,?_⟩))));show a1h less (arrOf st5) ((((pendingOf st5).modify ((pendingOf st5).size-1) _)).push (lo,min (a₀.size-lo) minrun,0)).toList 0 (lo+min (a₀.size-lo) minrun);rw[b4V];refine a1h.app.mpr ⟨lo,?_,rfl,by show 1<=min (a₀.size-lo) minrun;omega,hS5,rfl⟩;refine(a1h.same ?_).mp hR5;rw[Array.toList_modify];refine(a2D _ _ ?_ _ _).symm;intro x;rfl
  ·rw[if_neg g2];have hBc:=hB2;have hRc:=hR2;have hSc:=sm;refine b4G (wpS_get ?_);cases hb:(pendingOf st2).back? with
   | none =>
    dsimp only;refine b4G (b6P (b4M ⟨lo+m,rfl,⟨hBc.perm,hBc.kind,hBc.failed⟩,by omega,by omega,?_⟩));show a1h less (arrOf st2) ((pendingOf st2).push (lo,m,0)).toList 0 (lo+m);rw[b4V];exact a1h.app.mpr ⟨lo,hRc,rfl,by show 1<=m;omega,hSc,rfl⟩
   | some q0 =>
    obtain⟨t1,u1,pw0⟩:=q0;dsimp only;refine b4G (b7c (b5M (I:=λy c st'=>c=(none,())/\SB κ a₀ st'/\a1h less (arrOf st') (pendingOf st').toList 0 lo/\Srt less (arrOf st') lo (lo+m))
     (Q:=λc st'=>c=(none,())/\SB κ a₀ st'/\a1h less (arrOf st') (pendingOf st').toList 0 lo/\Srt less (arrOf st') lo (lo+m)) ?_ (λc st' hh=>hh) ⟨rfl,hBc,hRc,hSc⟩) ?_)
    ·rintro y c st5 _ hy ⟨rfl,hB5,hR5,hS5⟩;refine b4G (wpS_get ?_);cases hm:(if (pendingOf st5).size>1 then (pendingOf st5)[(pendingOf st5).size-2]? else none) with
     | none=>exact b4M ⟨rfl,hB5,hR5,hS5⟩
     | some q5 =>
      obtain⟨x1,x2,older⟩:=q5;dsimp only;have gt1:(pendingOf st5).size>1:=by
       by_cases z:(pendingOf st5).size>1
       ·exact z
       ·rw[if_neg z] at hm;cases hm
      split
      ·exact b4M ⟨rfl,hB5,hR5,hS5⟩
      ·refine b4G (a2E C sa' hB5 hR5 (by omega) (by omega) λst6 hB6 _ hR6 hk6=>?_);refine b4M ⟨rfl,hB6,hR6,λi j h1 h2 h3=>?_⟩;rw[hk6 i h1 (by omega),hk6 j (by omega) (by omega)];exact hS5 i j h1 h2 h3
    ·rintro c st5 ⟨rfl,hB5,hR5,hS5⟩;dsimp only;refine b4G (b6P (b4G (b6P (b4M ⟨lo+m,rfl,⟨hB5.perm,hB5.kind,hB5.failed⟩,by omega,by omega,?_⟩))));show a1h less (arrOf st5) ((((pendingOf st5).modify ((pendingOf st5).size-1) _)).push (lo,m,0)).toList 0 (lo+m);rw[b4V];refine a1h.app.mpr ⟨lo,?_,rfl,by show 1<=m;omega,hS5,rfl⟩;refine(a1h.same ?_).mp hR5;rw[Array.toList_modify];refine(a2D _ _ ?_ _ _).symm;intro x;rfl
 case post =>
  rintro c st1 ⟨rfl,hB1,hR1⟩;dsimp only;have l1:=hR1.le;rw[b4x] at l1;refine b4G (b7c (b5M (I:=λx c st'=>c=(none,())/\SB κ a₀ st'/\a1h less (arrOf st') (pendingOf st').toList 0 a₀.size/\(pendingOf st').size+x<=a₀.size)
   (Q:=λc st'=>c=(none,())/\SB κ a₀ st'/\a1h less (arrOf st') (pendingOf st').toList 0 a₀.size/\(pendingOf st').size<=1) ?_ ?_ ⟨rfl,hB1,hR1,by omega⟩) ?_)
  ·rintro x c st2 _ hx ⟨rfl,hB2,hR2,l2⟩;refine b4G (wpS_get ?_);by_cases g:(pendingOf st2).size<=1
   ·rw[if_pos g];exact b4M ⟨rfl,hB2,hR2,g⟩
   rw[if_neg g];refine b4G (a2E C sa' hB2 hR2 (b4z _) (lt_ite (by omega) (by omega)) λst3 hB3 l3 hR3 _=>?_);exact b4M ⟨rfl,hB3,hR3,by omega⟩
  ·rintro c st2 ⟨rfl,hB2,hR2,l2⟩;exact⟨rfl,hB2,hR2,by omega⟩
  ·rintro c st2 ⟨rfl,hB2,hR2,l2⟩;refine b4M (h st2 hB2 ?_);rw[<-b4x] at l2
   match hq:(pendingOf st2).toList,l2,hR2 with
   | [],_,hR2 =>
    have:(0:Nat)=a₀.size:=hR2;intro i j q1 q2 q3;omega
   | [q],_,hR2 =>
    obtain⟨r1,r2,r3,r4⟩:=hR2;have r4:0+q.2.1=a₀.size:=r4;rw[r4] at r3;exact r3
   | q1::q2::r,l2,_=>simp at l2
end
theorem a2m:∀u:List Int,HT.a0I u u=false
 | []=>rfl
 | x::u=>by rw[HT.a1e,if_pos rfl];exact a2m u
theorem a2O:∀u v w:List Int,HT.a0I u v=true->HT.a0I v w=true->HT.a0I u w=true
 | [],[],w,h,_=>by cases h
 | [],_::_,[],_,h=>by cases h
 | [],_::_,_::_,_,_=>rfl
 | _::_,[],w,h,_=>by cases h
 | _::_,_::_,[],_,h=>by cases h
 | x::u,y::v,z::w,h1,h2=>by
  rw[HT.a1e] at h1 h2 ⊢;by_cases e1:x=y
  ·subst e1;rw[if_pos rfl] at h1;by_cases e2:x=z
   ·subst e2;rw[if_pos rfl] at h2 ⊢;exact a2O u v w h1 h2
   ·rw[if_neg e2] at h2 ⊢;exact h2
  ·rw[if_neg e1] at h1;have l1:=b4Q h1;by_cases e2:y=z
   ·subst e2;rw[if_neg e1];exact h1
   ·rw[if_neg e2] at h2;have l2:=b4Q h2;rw[if_neg (by omega)];exact b4W (by omega)
theorem a1S:∀u v:List Int,u≠v->HT.a0I u v=false->HT.a0I v u=true
 | [],[],h,_=>absurd rfl h
 | [],_::_,_,h=>by cases h
 | _::_,[],_,_=>rfl
 | x::u,y::v,h,h1=>by
  rw[HT.a1e] at h1 ⊢;by_cases e:x=y
  ·subst e;rw[if_pos rfl] at h1 ⊢;exact a1S u v (λz=>h (by rw[z])) h1
  ·rw[if_neg e] at h1;rw[if_neg (Ne.symm e)];have:=of_decide_eq_false h1;exact b4W (by omega)
abbrev Lx (u v:List Int):Prop:=HT.a0I u v=true
section
variable {prog:Program} {w:World} {A:Around} {E:Value->Shared->Prop} {s:Shared}
theorem a2H {n:Nat} {lt:Nat->Nat->Bool} {p:Array Nat} {α:Type} {f:Nat->α} {R:α->α->Prop} (o:Ord n lt) (pm:Pm n p) (a:Asc lt p n) (hR:∀i j,lt i j=true->R (f i) (f j)):(p.toList.map f).Pairwise R:=by
 rw[b5r,b5D];intro i j hi hj hij;have sz:=pm.size;simp only[b4x] at hi hj;have z:=a.all o j i hij (by omega);have e1:p.getD i 0=p[i]:=by simp[Array.getD,hi]
 have e2:p.getD j 0=p[j]:=by simp[Array.getD,hj]
 rw[e1,e2] at z;simpa using hR _ _ z
theorem a9g {M:Model} {vs:List Value} {Q:SortKind->Shared->Prop} (h1:1<=vs.length) (t:∀v∈vs,∃n ns,a4k s.heap v (n::ns)) (h:Q (tuples' true) s):wpAny M A (keyKind' vs.toArray) Q E s:=by
 have ft:∀v∈vs,∃n tk,fst? s.heap v=some (.int n tk):=λv hv=>by
  obtain⟨n,ns,b,items,rfl,⟨o,ho,hc,k,hd⟩,hi⟩:=t v hv;have e:fst? s.heap (.ref b)=items[0]?:=by unfold fst?;simp only[ho,hd]
  obtain⟨l⟩:=items;cases hi with
  | cons _ tk _=>exact⟨n,tk,e⟩
 rw[kat_kind_eq,List.mapM_toArray,map_eq_pure_bind];refine b4n (b4n (a9a (g:=fst? s.heap) _ (λv hv Q' hq=>?_) (b4r ?_)))
 ·obtain⟨n,ns,tn⟩:=t v hv;have ty:=tn.i.ty (M:=M);obtain⟨b,items,rfl,⟨o,ho,hc,k,hd⟩,_⟩:=tn;rw[kas_first_eq];refine b4n (ty.here ?_);rw[if_neg (by simp)];refine b4n (b9F ho hd (b4r ?_));have e:fst? s.heap (.ref b)=items[0]?:=by unfold fst?;simp only[ho,hd]
  rw[<-e];exact hq
 ·have na:((List.map (fst? s.heap) vs).toArray.all λx=>x.isSome)=true:=by
   simp only[List.all_toArray,List.all_map,b7B];intro v hv;obtain⟨n,tk,e⟩:=ft v hv;simp[e]
  rw[if_pos na];refine b4n (b5T ?_);rw[oneTypeOnly'_eq];have fm:Array.filterMap id (List.map (fst? s.heap) vs).toArray=(List.filterMap id (List.map (fst? s.heap) vs)).toArray:=by simp
  rw[fm,List.mapM_toArray,map_eq_pure_bind];have int_s:∀v∈List.filterMap id (List.map (fst? s.heap) vs),∃n tk,v=.int n tk:=λv hv=>by
   obtain⟨x,hx,e⟩:=b9z.mp hv;obtain⟨y,hy,rfl⟩:=b4F.mp hx;obtain⟨n,tk,e2⟩:=ft y hy;exact⟨n,tk,by simp only[id] at e;rw[e2] at e;exact(b4N e).symm⟩
  have ne:1<=(List.filterMap id (List.map (fst? s.heap) vs)).length:=by
   cases vs with
   | nil=>simp at h1
   | cons v vr =>
    obtain⟨n,tk,e⟩:=ft v b7J;simp[e]
  refine b4n (b4n (b4n (kas_mapM (r:=Value.type "int") _ (λv hv Q' hq=>?_) (b4r ?_))))
  ·obtain⟨n,tk,rfl⟩:=int_s v hv;exact b9o (a:=Value.type "int") rfl hq
  ·generalize List.filterMap id (List.map (fst? s.heap) vs)=fs at ne;have e0:(List.map (λ_=>Value.type "int") fs).toArray[0]?=some (Value.type "int"):=by
    cases fs with
    | nil=>simp at ne
    | cons f fr=>simp
   have hall:((List.map (λ_=>Value.type "int") fs).toArray.all λx=>x==Value.type "int")=true:=by simp
   rw[e0];simp only[hall,if_true];refine b4r (b4r ?_);exact h
end
theorem Paired.pick {α β:Type} {R:α->β->Prop} {xs:List α} {ys:List β} (h:Paired R xs ys) (d:α) (e:β):∀is:List Nat,(∀i∈is,i<xs.length)->Paired R (is.map λi=>xs.getD i d) (is.map λi=>ys.getD i e)
 | [],_=>.nil
 | i::is,hi=>by
  have h1:=hi i (.head _);have hx:xs[i]?=some xs[i]:=b4q h1;obtain⟨y,hy,r⟩:=Paired.right_of h i _ hx;have e1:xs.getD i d=xs[i]:=by rw[b4t,hx];rfl
  have e2:ys.getD i e=y:=by rw[b4t,hy];rfl
  refine .cons ?_ (Paired.pick h d e is λj hj=>hi j (.tail _ hj));show R (xs.getD i d) (ys.getD i e);rw[e1,e2];exact r
theorem Pm.mem {n:Nat} {p:Array Nat} (h:Pm n p):∀i∈p.toList,i<n:=λi hi=>by
 have q:p.toList.Perm (List.range n):=by
  have:=b5h.mp h;simpa using this
 simpa using q.mem_iff.mp hi
theorem a3l {α:Type} {n:Nat} {p:Array Nat} {xs:List α} (d:α) (h:Pm n p) (hn:xs.length=n):(p.toList.map λi=>xs.getD i d).Perm xs:=by
 have e:(List.range n).map (λi=>xs.getD i d)=xs:=by
  subst hn;refine b6g (by simp) λi h1 h2=>?_;simp[b4t,b4q h2]
 have q:p.toList.Perm (List.range n):=by
  have:=b5h.mp h;simpa using this
 have q2:=q.map λi=>xs.getD i d;rw[e] at q2;exact q2
theorem a5o {ns:List Int} {us:List Value} (r:a0C (ns.map V.int) us):IntsAre us ns:=by
 induction ns generalizing us with
 | nil=>cases r;exact .nil
 | cons n ns ih =>
  cases r with
  | cons r rr =>
   obtain⟨t,rfl⟩:=r;exact .cons _ _ (ih rr)
end L2
namespace L2
open PySem PySem.Spec PyProof.Rows PySem.W
open Classical in
noncomputable def ixv (vs:List Value) (v:Value):Nat:=if h:∃i,vs[i]?=some v then Classical.choose h else 0
theorem b2g {vs:List Value} (nd:vs.Nodup) {v:Value} {i:Nat} (h:vs[i]?=some v):ixv vs v=i:=by
 have ex:∃i,vs[i]?=some v:=⟨i,h⟩
 unfold ixv;rw[dif_pos ex];have e:=Classical.choose_spec ex;exact(b9O ((b4u.mp e).1) nd).mp (e.trans h.symm)
theorem a9h {vs:List Value} (nd:vs.Nodup) {v:Value} (h:v∈vs):vs[ixv vs v]?=some v:=by
 obtain⟨i,hi⟩:=b6b h;rw[b2g nd hi];exact hi
theorem b3i {vs:List Value} (nd:vs.Nodup):vs.map (ixv vs)=List.range vs.length:=by
 refine b9M λi=>?_;rw[b4C];by_cases hi:i<vs.length
 ·rw[b4q hi,b8i hi];show some (ixv vs vs[i])=some i;rw[b2g nd (b4q hi)]
 ·rw[b7P (by omega),b7P (by simp;omega)];rfl
structure WOrd (n:Nat) (lt:Nat->Nat->Bool):Prop where
 asym:∀i j,i<n->j<n->lt i j=true->lt j i=false
 ntr:∀i j k,i<n->j<n->k<n->lt j i=false->lt k j=false->lt k i=false
noncomputable def ltA (n:Nat) (lt:Nat->Nat->Bool) (i j:Nat):Bool:=if i<n then (if j<n then lt i j else true) else false
theorem b2h {n:Nat} {lt:Nat->Nat->Bool} {i j:Nat} (hi:i<n) (hj:j<n):ltA n lt i j=lt i j:=by unfold ltA;rw[if_pos hi,if_pos hj]
theorem WOrd.all {n:Nat} {lt:Nat->Nat->Bool} (o:WOrd n lt):(∀i j,ltA n lt i j=true->ltA n lt j i=false)/\∀i j k,ltA n lt j i=false->ltA n lt k j=false->ltA n lt k i=false:=by
 refine⟨λi j h=>?_,λi j k h1 h2=>?_⟩
 ·unfold ltA at h ⊢;by_cases hi:i<n
  ·by_cases hj:j<n
   ·rw[if_pos hi,if_pos hj] at h;rw[if_pos hi,if_pos hj];exact o.asym i j hi hj h
   ·rw[if_neg hj]
  ·rw[if_neg hi] at h;cases h
 ·unfold ltA at h1 h2 ⊢;by_cases hk:k<n
  ·rw[if_pos hk] at h2 ⊢;by_cases hj:j<n
   ·rw[if_pos hj] at h1 h2;by_cases hi:i<n
    ·rw[if_pos hi] at h1 ⊢;exact o.ntr i j k hi hj hk h1 h2
    ·rw[if_neg hi] at h1;cases h1
   ·rw[if_neg hj] at h2;cases h2
  ·rw[if_neg hk]
theorem Ord.weak {n:Nat} {lt:Nat->Nat->Bool} (o:Ord n lt) (irr:∀i,lt i i=false):WOrd n lt where
 asym:=λi j _ _ h=>by
  cases e:lt j i with
  | false=>rfl
  | true=>have z:=o.tr _ _ _ h e;rw[irr] at z;cases z
 ntr:=λi j k hi hj hk h1 h2=>by
  by_cases z1:i=j
  ·rw[z1];exact h2
  ·by_cases z2:j=k
   ·rw[<-z2];exact h1
   ·have a:=o.tr _ _ _ (o.tot j i hj hi (Ne.symm z1) h1) (o.tot k j hk hj (Ne.symm z2) h2);cases e:lt k i with
    | false=>rfl
    | true=>have z:=o.tr _ _ _ a e;rw[irr] at z;cases z
noncomputable def WAsc (lt:Nat->Nat->Bool) (p:Array Nat) (m:Nat):Prop:=∀i j,i<j->j<m->lt (p.getD j 0) (p.getD i 0)=false
section
variable {prog:Program} {w:World} {A:Around} {E:Value->Shared->Prop} {s:Shared}
theorem b0X {a:Addr} {vs:List Value} {n:Nat} {P:PySem.Fin->Shared->Prop} {κ:SortKind} {lt:Nat->Nat->Bool} (o:WOrd vs.length lt) (nd:vs.Nodup) (ho:s.heap.get? a=some (seqObj "list" vs.toArray n)) (hz:vs.length<=100000)
  (hk:2<=vs.length->∀h1:Heap,(∀b o,b≠a->s.heap.get? b=some o->h1.get? b=some o)->∀Q:SortKind->Shared->Prop,Q κ { s with heap:=h1 }->wpAny (model prog w) A (keyKind' vs.toArray) Q E { s with heap:=h1 })
  (hlt:∀h1:Heap,(∀b o,b≠a->s.heap.get? b=some o->h1.get? b=some o)->∀i j,i<vs.length->j<vs.length->∀(C:Bool->Shared->Prop) (E':Value->Shared->Prop),C (lt i j) { s with heap:=h1 }->wpAny (model prog w) A (keyLt' κ (vs.getD i Value.none) (vs.getD j Value.none)) C E' { s with heap:=h1 })
  (h:∀(h':Heap) (p:Array Nat) (c:Nat),Pm vs.length p->WAsc lt p vs.length->h'.get? a=some (seqObj "list" (p.toList.map λi=>vs.getD i Value.none).toArray c)->(∀b o,b≠a->s.heap.get? b=some o->h'.get? b=some o)->P (.done (.ret .none)) { s with heap:=h' }) :
  wpAny (model prog w) A (Builtin.«list.sort» ⟨[.ref a],[]⟩) P E s:=by
 have ha:a<s.heap.objs.size:=b4w ho;obtain⟨e1,ho1⟩:∃e1,(s.heap.update a (Obj.mapSeq λ_=>(#[]:Array Value))).get? a=some (seqObj "list" #[] e1):=⟨_,b5Y ho λ_=>#[]⟩
 rw[list_sort_plain];refine b4n (b9F ho rfl (b4n (b7v ho rfl ?_ (by rw[b4y,b5n];omega) (b5j _))));refine b4n (b9q ho1 rfl (b4n (b7k ?_ (by show vs.length<=_;rw[b5n];omega))));refine b4n (b6S ?_ (b5j _));refine b4T ?_;have k1:∀b o,b≠a->s.heap.get? b=some o->(((s.heap.update a (Obj.mapSeq λ_=>(#[]:Array Value))).push (seqObj "tuple" vs.toArray 0)).push (seqObj "list" #[] 0)).get? b=some o:=λb o hb e =>
  b4o _ (b4o _ ((b4I _ _ _ _ hb).trans e))
 have ho6:(((s.heap.update a (Obj.mapSeq λ_=>(#[]:Array Value))).push (seqObj "tuple" vs.toArray 0)).push (seqObj "list" #[] 0)).get? a=some (seqObj "list" #[] e1):=b4o _ (b4o _ ho1);show wpAny (model prog w) A _ P E { s with heap:=((s.heap.update a (Obj.mapSeq λ_=>(#[]:Array Value))).push (seqObj "tuple" vs.toArray 0)).push (seqObj "list" #[] 0) };generalize (((s.heap.update a (Obj.mapSeq λ_=>(#[]:Array Value))).push (seqObj "tuple" vs.toArray 0)).push (seqObj "list" #[] 0))=h1 at k1 ho6 ⊢;dsimp only;have last:∀(out:List Value),∃c,(h1.update a (Obj.mapSeq λ_=>out.toArray)).get? a=some (seqObj "list" out.toArray c)/\(∀b o,b≠a->s.heap.get? b=some o->(h1.update a (Obj.mapSeq λ_=>out.toArray)).get? b=some o):=λout =>
  ⟨_,b5Y ho6 λ_=>out.toArray,λb o hb e=>(b4I _ _ _ _ hb).trans (k1 b o hb e)⟩
 by_cases h2:vs.toArray.size<2
 ·rw[if_pos h2,if_pos h2];refine b4n (b4r ?_);rw[StateT.run_pure];refine b4n (b4r ?_);dsimp only;refine b4n (b9q ho6 rfl ?_);have e2:Array.map (λx=>x.snd) (arrOf (SortSt.mk' general' (vs.toArray.zip vs.toArray) #[] 7 none))=vs.toArray:=by
   show Array.map (λx=>x.snd) (vs.toArray.zip vs.toArray)=vs.toArray;apply b8f.mp;simp[List.map_snd_zip]
  rw[e2];rw[b4y] at h2;have er:((List.range vs.length).toArray.toList.map λi=>vs.getD i Value.none)=vs:=by
   refine b6g (by simp) λi h1 h2=>?_;simp[b4t,b4q h2]
  obtain⟨c,hc,kk⟩:=last vs;refine b4n (b7v ho6 rfl ?_ (b5j _) (by rw[b4y,b5n];omega));simp only[b9P,b5b,b6B];exact b4r (h _ (List.range vs.length).toArray c (c0d _) (λi j hi hj=>absurd hj (by omega)) (by rw[er];exact hc) kk)
 ·rw[if_neg h2,if_neg h2];rw[b4y] at h2;refine b4n (hk (by omega) h1 k1 _ ?_);have za:(vs.toArray.zip vs.toArray).toList=vs.map λv=>(v,v):=by
   rw[Array.toList_zip]
   induction vs with
   | nil=>rfl
   | cons v r ih=>simp[List.zip]
  have zs:(vs.toArray.zip vs.toArray).size=vs.length:=by simp
  have gv:∀v∈vs,vs.getD (ixv vs v) Value.none=v:=λv hv=>by rw[b4t,a9h nd hv];rfl
  have lv:∀v∈vs,ixv vs v<vs.length:=λv hv=>(b4u.mp (a9h nd hv)).1;have C:Cmp prog w A E { s with heap:=h1 } κ (λx y=>ltA vs.length lt (ixv vs x.2) (ixv vs y.2)) (λx=>x.1=x.2/\x.2∈vs):=by
   intro x y st Q hx hy hκ q;rw[lt'_eq];refine b4G (wpS_get ?_);rw[hκ];have e1:x.1=vs.getD (ixv vs x.2) Value.none:=by rw[gv _ hx.2];exact hx.1
   have e2:y.1=vs.getD (ixv vs y.2) Value.none:=by rw[gv _ hy.2];exact hy.1
   rw[e1,e2];refine b4G (b9V (b6q (hlt h1 k1 _ _ (lv _ hx.2) (lv _ hy.2) _ _ ⟨rfl,?_⟩)));have q:Q (some (ltA vs.length lt (ixv vs x.2) (ixv vs y.2))) st:=q;rw[b2h (lv _ hx.2) (lv _ hy.2)] at q;exact b4M q
  have sa:SA (λx y=>ltA vs.length lt (ixv vs x.2) (ixv vs y.2)) (λx=>x.1=x.2/\x.2∈vs) (vs.toArray.zip vs.toArray):=by
   refine⟨⟨λx y q=>o.all.1 _ _ q,λx y z q1 q2=>o.all.2 _ _ _ q1 q2⟩,λx hx=>?_⟩
   ·rw[za] at hx;obtain⟨v,hv,rfl⟩:=b4F.mp hx;exact⟨rfl,hv⟩
  refine b4n (b6Y (a6O C sa (st:=SortSt.mk' κ (vs.toArray.zip vs.toArray) #[] 7 none) (Q:=λ_ st'=>SB κ (vs.toArray.zip vs.toArray) st'/\Srt (λx y=>ltA vs.length lt (ixv vs x.2) (ixv vs y.2)) (arrOf st') 0 (vs.toArray.zip vs.toArray).size) ⟨c0d _,rfl,rfl⟩ rfl λst' a1 a2=>⟨a1,a2⟩) ?_ λ_ _ e=>e);rintro⟨⟨⟩,st'⟩ s' ⟨rfl,hB,hS⟩;dsimp only;rw[zs] at hS;have pm0:=b5h.mp hB.perm;rw[za] at pm0;have sz:(arrOf st').size=vs.length:=by rw[hB.size,zs]
  have inv:∀x∈(arrOf st').toList,x.2∈vs:=λx hx=>by
   obtain⟨v,hv,rfl⟩:=b4F.mp (pm0.mem_iff.mp hx);exact hv
  have pl:((arrOf st').map λx=>ixv vs x.2).toList=(arrOf st').toList.map λx=>ixv vs x.2:=by simp
  have pm:Pm vs.length ((arrOf st').map λx=>ixv vs x.2):=by
   show Array.Perm _ _;rw[b5h,pl];have q:=pm0.map λx=>ixv vs x.2;rw[b5A] at q;have e:(vs.map ((λx:Keyed=>ixv vs x.2) ∘ λv=>(v,v)))=List.range vs.length:=b3i nd;rw[e] at q;exact q
  have pg:∀i,i<vs.length->((arrOf st').map λx=>ixv vs x.2).getD i 0=ixv vs (el (arrOf st') i).2:=λi hi=>by
   rw[a9c];have:((arrOf st').map λx=>ixv vs x.2)[i]?=some (ixv vs (el (arrOf st') i).2):=by
    rw[Array.getElem?_map,a4l (by rw[sz];exact hi)];rfl
   rw[this];rfl
  have ie:∀i,i<vs.length->ixv vs (el (arrOf st') i).2<vs.length:=λi hi=>lv _ (inv _ (a3k (by rw[sz];exact hi)));have as:WAsc lt ((arrOf st').map λx=>ixv vs x.2) vs.length:=λi j hi hj=>by
   rw[pg i (by omega),pg j hj,<-b2h (n:=vs.length) (lt:=lt) (ie j hj) (ie i (by omega))];exact hS i j (b5j _) hi hj
  have hout:Array.map (λx=>x.snd) (arrOf st')=(((arrOf st').map λx=>ixv vs x.2).toList.map λi=>vs.getD i Value.none).toArray:=by
   apply b8f.mp;rw[pl,b5A];show(Array.map (λx=>x.snd) (arrOf st')).toList=List.map ((λi=>vs.getD i Value.none) ∘ λx:Keyed=>ixv vs x.snd) (arrOf st').toList;rw[Array.toList_map];exact b5V λx hx=>(gv _ (inv x hx)).symm
  obtain⟨c,hc,kk⟩:=last (((arrOf st').map λx=>ixv vs x.2).toList.map λi=>vs.getD i Value.none);refine b4n (b9q ho6 rfl ?_);rw[hout];refine b4n (b7v ho6 rfl ?_ (b5j _) (by rw[b4y,b4p,pl,b4p,b4x,sz,b5n];omega));rw[hB.failed];simp only[b9P,b5b,b6B];exact b4r (h _ _ c pm as hc kk)
theorem a6P {a:Addr} {vs:List Value} {n:Nat} {P:PySem.Fin->Shared->Prop} {κ:SortKind} {lt:Nat->Nat->Bool} (o:Ord vs.length lt) (irr:∀i,lt i i=false) (nd:vs.Nodup) (ho:s.heap.get? a=some (seqObj "list" vs.toArray n)) (hz:vs.length<=100000)
  (hk:2<=vs.length->∀h1:Heap,(∀b o,b≠a->s.heap.get? b=some o->h1.get? b=some o)->∀Q:SortKind->Shared->Prop,Q κ { s with heap:=h1 }->wpAny (model prog w) A (keyKind' vs.toArray) Q E { s with heap:=h1 })
  (hlt:∀h1:Heap,(∀b o,b≠a->s.heap.get? b=some o->h1.get? b=some o)->∀i j,i<vs.length->j<vs.length->∀(C:Bool->Shared->Prop) (E':Value->Shared->Prop),C (lt i j) { s with heap:=h1 }->wpAny (model prog w) A (keyLt' κ (vs.getD i Value.none) (vs.getD j Value.none)) C E' { s with heap:=h1 })
  (h:∀(h':Heap) (p:Array Nat) (c:Nat),Pm vs.length p->Asc lt p vs.length->h'.get? a=some (seqObj "list" (p.toList.map λi=>vs.getD i Value.none).toArray c)->(∀b o,b≠a->s.heap.get? b=some o->h'.get? b=some o)->P (.done (.ret .none)) { s with heap:=h' }) :
  wpAny (model prog w) A (Builtin.«list.sort» ⟨[.ref a],[]⟩) P E s:=by
 refine b0X (o.weak irr) nd ho hz hk hlt λh' p c pm as hc kk=>h h' p c pm (λi hi=>?_) hc kk;have l:∀i,i<vs.length->p.getD i 0<vs.length:=λi hi=>by
  refine pm.mem _ ?_;have sz:=pm.size;rw[a9c,b6n (by omega)];exact Array.getElem_mem_toList (by omega)
 exact o.tot _ _ (l _ hi) (l i (by omega)) (pm.inj hi (by omega) (by omega)) (as i (i+1) (by omega) hi)
end
end L2
namespace L2
open PySem PySem.Spec PyProof.Rows PySem.W
theorem a6Q:∀{l:List Value} {ns ms:List Int},IntsAre l ns->IntsAre l ms->ns=ms
 | _,_,_,.nil,.nil=>rfl
 | _,_,_,.cons _ _ h,.cons _ _ h2=>by rw[a6Q h h2]
theorem a4s:∀{l:List Value} {ns:List Int} {j:Nat} {n:Int},IntsAre l ns->ns[j]?=some n->∃t,l[j]?=some (.int n t)
 | _,_,j,n,.nil,h=>by simp at h
 | _,_,0,n,.cons m t _,h=>by simp at h;subst h;exact⟨t,rfl⟩
 | _,_,j+1,n,.cons m t r,h=>by
  obtain⟨t',e⟩:=a4s r (by simpa using h);exact⟨t',by simpa using e⟩
theorem a4k.inj {h:Heap} {v:Value} {ns ms:List Int} (t1:a4k h v ns) (t2:a4k h v ms):ns=ms:=by
 obtain⟨b,items,rfl,⟨o,ho,hc,n,hd⟩,hi⟩:=t1;obtain⟨b2,items2,e,⟨o2,ho2,hc2,n2,hd2⟩,hi2⟩:=t2;cases e;rw[ho] at ho2;cases ho2;rw[hd] at hd2;cases hd2;exact a6Q hi hi2
section
variable {prog:Program} {w:World} {A:Around} {E:Value->Shared->Prop} {s:Shared}
end
noncomputable def PrN (h:Heap) (v:Value) (q:Int × List Int):Prop:=∃(b:Addr) (items:Array Value) (t:Tok) (u:Value),v=.ref b/\IsTup h b items/\items.toList=[.int q.1 t,u]/\a4k h u q.2
theorem PrN.inj {h:Heap} {v:Value} {p q:Int × List Int} (t1:PrN h v p) (t2:PrN h v q):p=q:=by
 obtain⟨b,items,t,u,rfl,⟨o,ho,hc,n,hd⟩,hi,hu⟩:=t1;obtain⟨b2,items2,t',u',e,⟨o2,ho2,hc2,n2,hd2⟩,hi2,hu2⟩:=t2;cases e;rw[ho] at ho2;cases ho2;rw[hd] at hd2;cases hd2;rw[hi] at hi2;obtain⟨z1,z2⟩:=b6I hi2;obtain⟨z3,_⟩:=b6I z2;subst z3;exact b8I (Value.int.inj z1).1 (hu.inj hu2)
theorem PrN.keep {h h':Heap} {v:Value} {q:Int × List Int} {a:Addr} {o:Obj} (t:PrN h v q) (ho:h.get? a=some o) (hc:o.cls=.type "list") (k:∀b o,b≠a->h.get? b=some o->h'.get? b=some o):PrN h' v q:=by
 obtain⟨b,items,t,u,rfl,⟨ob,hb,hcb,n,hd⟩,hi,hu⟩:=t;have ne:b≠a:=λz=>by rw[z,ho] at hb;cases hb;rw[hc] at hcb;exact absurd (Value.type.inj hcb) (by decide)
 exact⟨b,items,t,u,rfl,⟨ob,k b ob ne hb,hcb,n,hd⟩,hi,hu.keep ho hc k⟩
theorem PrN.keep2 {h h':Heap} {v:Value} {q:Int × List Int} (t:PrN h v q) (k:∀b o,h.get? b=some o->h'.get? b=some o):PrN h' v q:=by
 obtain⟨b,items,t,u,rfl,⟨ob,hb,hcb,n,hd⟩,hi,b2,it2,rfl,⟨ob2,hb2,hcb2,n2,hd2⟩,hi2⟩:=t;exact⟨b,items,t,_,rfl,⟨ob,k b ob hb,hcb,n,hd⟩,hi,b2,it2,rfl,⟨ob2,k b2 ob2 hb2,hcb2,n2,hd2⟩,hi2⟩
noncomputable def a3H (p q:Int × List Int):Bool:=if p.1=q.1 then HT.a0I p.2 q.2 else decide (p.1<q.1)
theorem a2P (p:Int × List Int):a3H p p=false:=by unfold a3H;rw[if_pos rfl];exact a2m _
theorem b3j (p q r:Int × List Int) (h1:a3H p q=true) (h2:a3H q r=true):a3H p r=true:=by
 unfold a3H at *
 by_cases a:p.1=q.1
 ·rw[if_pos a] at h1;by_cases b:q.1=r.1
  ·rw[if_pos b] at h2;rw[if_pos (a.trans b)];exact a2O _ _ _ h1 h2
  ·rw[if_neg b] at h2;rw[if_neg (by rw[a];exact b),a];exact h2
 ·rw[if_neg a] at h1;have h1:=b4Q h1;by_cases b:q.1=r.1
  ·rw[<-b,if_neg a];exact b4W h1
  ·rw[if_neg b] at h2;have h2:=b4Q h2;rw[if_neg (by omega)];exact b4W (by omega)
theorem b0Y (p q:Int × List Int) (ne:p≠q) (h:a3H p q=false):a3H q p=true:=by
 unfold a3H at *
 by_cases a:p.1=q.1
 ·rw[if_pos a] at h;rw[if_pos a.symm];exact a1S _ _ (λz=>ne (b8I a z)) h
 ·rw[if_neg a] at h;rw[if_neg (λz=>a z.symm)];have h:=of_decide_eq_false h;exact b4W (by omega)
abbrev LxP (p q:Int × List Int):Prop:=a3H p q=true
noncomputable def ltKP (ks:List (Int × List Int)) (i j:Nat):Bool:=a3H (ks.getD i (0,[])) (ks.getD j (0,[]))
theorem ordKP {ks:List (Int × List Int)} (nd:ks.Nodup):Ord ks.length (ltKP ks) where
 tr:=λi j k=>b3j _ _ _
 tot:=λi j hi hj ne h=>by
  refine b0Y _ _ (λz=>ne ?_) h;rw[b4t,b4t,b4q hi,b4q hj] at z;exact(b7e nd).mp z
section
variable {prog:Program} {w:World} {A:Around} {E:Value->Shared->Prop} {s:Shared}
theorem a9i {x y:Value} {ns ms:List Int} (hx:a4k s.heap x ns) (hy:a4k s.heap y ms) (hu:A.units+1<cLine):SeqAt.EqAt A s x y (decide (ns=ms)):=by
 have hx0:=hx;have hy0:=hy;obtain⟨a,items,rfl,ht,hi⟩:=hx;obtain⟨b,items2,rfl,ht2,hj⟩:=hy;by_cases z:a=b
 ·subst z;rw[b4W (hx0.inj hy0)];exact SeqAt.EqAt.same _
 ·have l1:=hi.length;have l2:=hj.length;rw[b4x] at l1 l2;refine SeqAt.EqAt.of_refs z ?_;have q:=SeqAt.RcAt.tuples (A:=A) (s:=s) (e:=λj=>match ns[j]?,ms[j]? with|some d,some e=>decide (d=e)|_,_=>true) ht ht2 (by omega) (λj h1 h2=>by
   obtain⟨t1,e1⟩:=a4s hi (b4q (show j<ns.length by omega));obtain⟨t2,e2⟩:=a4s hj (b4q (show j<ms.length by omega));have f1:items[j]=.int ns[j] t1:=by
    have:=(b4u.mp e1).2;simpa using this
   have f2:items2[j]=.int ms[j] t2:=by
    have:=(b4u.mp e2).2;simpa using this
   rw[f1,f2];have g:=b9A (A:=A.in1) (s:=s) ns[j] t1 ms[j] t2;rw[Bool.beq_eq_decide_eq] at g;simp only[b4q (show j<ns.length by omega),b4q (show j<ms.length by omega)];exact g)
  have e:((List.range (min items.size items2.size)).all (λj=>match ns[j]?,ms[j]? with|some d,some e=>decide (d=e)|_,_=>true)&&items.size==items2.size)=decide (ns=ms):=by
   rw[l1,l2];exact b2a ns ms _ λj x y h1 h2=>by simp only[h1,h2]
  rw[e] at q;exact q
theorem a7P {x y:Value} {p q:Int × List Int} {C:Bool->Shared->Prop} (hx:PrN s.heap x p) (hy:PrN s.heap y q) (hu:A.units+1<cLine) (h:C (a3H p q) s):wpAny (model prog w) A (keyLt' (tuples' true) x y) C E s:=by
 obtain⟨b,items,t,u,rfl,⟨o,ho,hc,n,hd⟩,hi,tu⟩:=hx;obtain⟨b2,items2,t2,u2,rfl,⟨o2,ho2,hc2,n2,hd2⟩,hi2,tu2⟩:=hy;refine kat_lt ho hd ho2 hd2 ?_;have z1:items.size=2:=by rw[<-b4x,hi];rfl
 have z2:items2.size=2:=by rw[<-b4x,hi2];rfl
 rw[hi,hi2,z1,z2];show KatLex prog w A true (decide (2<2)) C [(.int p.1 t,.int q.1 t2),(u,u2)] 0 s;unfold a3H at h;refine kat_cons (b8Y ?_);by_cases e:p.1=q.1
 ·rw[if_pos e] at h;rw[e,show(q.1==q.1)=true by simp];refine kat_yes (kat_cons (a9i tu tu2 hu _ _ _ _ ?_));by_cases e2:p.2=q.2
  ·rw[b4W e2];refine kat_yes (kat_nil ?_);rw[e2,a2m] at h;exact h
  ·rw[b5s e2];refine kat_no (kat_one _ _ ?_);obtain⟨c,its,rfl,ht,hh⟩:=tu;obtain⟨c2,its2,rfl,ht2,hh2⟩:=tu2;exact HT.a3N ht ht2 hh hh2 (by omega) h
 ·rw[if_neg e] at h;rw[show(p.1==q.1)=false by simpa using e];exact kat_no (oneLt_int h)
theorem a7Q {M:Model} {vs:List Value} {Q:SortKind->Shared->Prop} (h1:1<=vs.length) (t:∀v∈vs,∃q,PrN s.heap v q) (h:Q (tuples' true) s):wpAny M A (keyKind' vs.toArray) Q E s:=by
 obtain⟨fs,kt,fi⟩:∃fs,KatTups s.heap vs fs/\fs.length=vs.length/\∀v∈fs,∃n tk,v=Value.int n tk:=by
  clear h1 h
  induction vs with
  | nil=>exact⟨[],trivial,rfl,λv hv=>by cases hv⟩
  | cons v r ih =>
   obtain⟨fs,k1,k2,k3⟩:=ih λv hv=>t v (.tail _ hv);obtain⟨q,b,items,tk,u,rfl,⟨o,ho,hc,n,hd⟩,hi,_⟩:=t v (.head _);refine⟨.int q.1 tk::fs,KatTups.cons ho hc hd ?_ k1,by rw[b5l,b5l,k2],λv hv=>?_⟩
   ·rw[<-b5f,hi];rfl
   ·rcases b4K.mp hv with rfl|hv
    ·exact⟨_,_,rfl⟩
    ·exact k3 v hv
 refine kat_kind (T:=Value.type "int") kt (by omega) (λv hv=>?_) rfl h;obtain⟨n,tk,rfl⟩:=fi.2 v hv;exact Looks.of_pure rfl
theorem a3R {a:Addr} {vs:List Value} {ks:List (Int × List Int)} {n:Nat} {P:PySem.Fin->Shared->Prop} (ho:s.heap.get? a=some (seqObj "list" vs.toArray n)) (h64:vs.length<=10000) (hl:ks.length=vs.length) (t:∀i,i<vs.length->PrN s.heap (vs.getD i Value.none) (ks.getD i (0,[])))
  (nd:ks.Nodup) (hu:A.units+1<cLine)
  (h:∀(h':Heap) (p:Array Nat) (c:Nat),Pm vs.length p->(p.toList.map λi=>ks.getD i (0,[])).Pairwise LxP->h'.get? a=some (seqObj "list" (p.toList.map λi=>vs.getD i Value.none).toArray c)->(∀b o,b≠a->s.heap.get? b=some o->h'.get? b=some o)->P (.done (.ret .none)) { s with heap:=h' }) :
  wpAny (model prog w) A (Builtin.«list.sort» ⟨[.ref a],[]⟩) P E s:=by
 have o:Ord vs.length (ltKP ks):=by rw[<-hl];exact ordKP nd
 have ndv:vs.Nodup:=by
  unfold List.Nodup;rw[b5D];intro i j hi hj hij z;have e1:vs.getD i Value.none=vs[i]:=by rw[b4t,b4q hi];rfl
  have e2:vs.getD j Value.none=vs[j]:=by rw[b4t,b4q hj];rfl
  have t1:=t i hi;have t2:=t j hj;rw[e1,z] at t1;rw[e2] at t2;have k:=t1.inj t2;rw[b4t,b4t,b4q (by omega),b4q (by omega)] at k;have:=(b7e nd).mp k;omega
 have at_:∀v∈vs,∃i,i<vs.length/\v=vs.getD i Value.none:=λv hv=>by
  obtain⟨i,hi⟩:=b5R.mp hv;exact⟨i,(b4u.mp hi).1,by rw[b4t,hi];rfl⟩
 refine a6P (κ:=tuples' true) o (λi=>a2P _) ndv ho (by omega) (λh2 h1 k1 Q q=>?_) (λh1 k1 i j hi hj C E' q=>?_) λh' p c pm as e k=>h h' p c pm (a2H o pm as λi j z=>z) e k
 ·refine a7Q (s:={ s with heap:=h1 }) (by omega) (λv hv=>?_) q;obtain⟨i,hi,rfl⟩:=at_ v hv
  exact⟨_,(t i hi).keep ho rfl k1⟩
 ·exact a7P (s:={ s with heap:=h1 }) ((t i hi).keep ho rfl k1) ((t j hj).keep ho rfl k1) hu q
end
noncomputable def RPw (H:Hp) (x:V) (q:Int × List Int):Prop:=∃t u,x=.ref t/\H t=some (.tup [.int q.1,u])/\Wd H u q.2
theorem RPw.same {H H':Hp} {x:V} {q:Int × List Int} (sm:a0r H H') (h:RPw H x q):RPw H' x q:=by
 obtain⟨t,u,e,ht,hu⟩:=h;exact⟨t,u,e,sm _ _ ht,hu.same sm⟩
noncomputable def b3k:List V->Hp->VK->Prop:=λxs H Q=>∃l ys ws,xs=[.ref l]/\H l=some (.lst ys)/\Paired (RPw H) ys ws/\ws.length<=10000/\ws.Nodup /\
 ∀p H' out us,a0r H H'->H p=none->H' p=some (.lst out)->Paired (RPw H') out us->us.Perm ws->us.Pairwise LxP->Q (.ref p) H'
theorem a7R {X:Cx} (hc:X.calm=true) (hu:X.A.units+4<cLine):a2f X (.builtin "sorted") b3k:=by
 intro pins s σ H xs us Q I r h;obtain⟨l,ys,ws,rfl,e,hw,h64,nd,q⟩:=h;obtain⟨u,rfl,rx⟩:=a2g r;cases rx;obtain⟨z,its,n,rv,he⟩:=(show a0B X.prog X.w H s.heap l (.lst ys) from I.hok l _ e)
 have ly:ys.length=ws.length:=hw.length;have li:ys.length=its.length:=rv.length;have tup:∀i,i<its.length->PrN s.heap (its.getD i Value.none) (ws.getD i (0,[])):=λi hi=>by
  have hy:ys[i]?=some (ys[i]'(by omega)):=b4q _;obtain⟨wd,hwd,t,uu,et,ht,hu2⟩:=Paired.right_of hw i _ hy;obtain⟨u,hu',ru⟩:=rv.get hy;rw[et] at ru;cases ru;obtain⟨_,its2,rv2,it⟩:=a1B ((show a0B X.prog X.w H s.heap t (.tup [.int wd.1,uu]) from I.hok _ _ ht));obtain⟨b,eb,hb⟩:=Wd.ti hu2;subst eb;obtain⟨_,its3,rv3,it3⟩:=a1B ((show a0B X.prog X.w H s.heap b (.tup (wd.2.map V.int)) from I.hok _ _ hb));have e1:its.getD i Value.none=.ref t:=by rw[b4t,hu'];rfl
  have e2:ws.getD i (0,[])=wd:=by rw[b4t,hwd];rfl
  obtain⟨u1,u2,rfl,r1,r2⟩:=rv2.two;obtain⟨tk,rfl⟩:=r1;cases r2;rw[e1,e2];exact⟨t,_,tk,.ref b,rfl,it,rfl,b,_,rfl,it3,by simpa using a5o rv3⟩
 refine b7l b9r b8S b8T (args_sorted1 _) ?_;unfold Builtin.«sorted»;refine b4n (m:=checkCount "sorted" 1 1 _) (b4r ?_);refine b4n (collect_list ⟨_,he,rfl,n,rfl⟩ ?_ (by rw[b5n];omega));have k1:∀b o,s.heap.get? b=some o->((s.heap.push (seqObj "list" #[] 0)).update s.heap.objs.size (Obj.mapSeq (·++its.toArray))).get? b=some o:=λb o q=>by
  have lt:b<s.heap.objs.size:=b4w q;rw[b4I _ _ _ _ (b4H lt),b8D _ _ _ (b4H lt)];exact q
 refine b4n (b6S ?_ (by rw[b5n];omega));show wpAny _ _ _ _ _ { s with heap:=((s.heap.push (seqObj "list" #[] 0)).update s.heap.objs.size (Obj.mapSeq (·++its.toArray))).push (seqObj "list" its.toArray 0) };generalize (s.heap.push (seqObj "list" #[] 0)).update s.heap.objs.size (Obj.mapSeq (·++its.toArray))=h1 at k1 ⊢;have hoL:(h1.push (seqObj "list" its.toArray 0)).get? h1.objs.size=some (seqObj "list" its.toArray 0):=b4v _ rfl;have k2:∀b o,s.heap.get? b=some o->(h1.push (seqObj "list" its.toArray 0)).get? b=some o:=λb o e=>b4o _ (k1 b o e);have nL:∀b o,h1.get? b=some o->b≠h1.objs.size:=λb o e=>b4H (b4w e);have I1:Inv X pins σ H { s with heap:=h1,toks:=s.toks }:=I.kept k1;have hLn:H h1.objs.size=none:=I1.hok.fresh (b4z _);refine b4n (b4T (b4Z b8c ⟨_,hoL,rfl⟩ b7S (a3R (s:={ s with heap:=h1.push (seqObj "list" its.toArray 0) }) hoL (by omega) (by omega) (λi hi=>?_) nd ?_ λh' p c pm srt hL kp=>⟨_,rfl,?_⟩) (b9J _)))
 ·exact(tup i hi).keep2 k2
 ·show X.A.units+1+1+1<cLine;omega
 ·have kh:∀b o,h1.get? b=some o->h'.get? b=some o:=λb o e=>kp b o (nL b o e) (b4o _ e);have lt:∀i∈p.toList,i<ys.length:=λi hi=>by have:=pm.mem i hi;omega
  have pw:=a3l (xs:=ws) (0,[]) pm (by omega);have I2:Inv X pins σ (upd H h1.objs.size (.lst (p.toList.map λi=>ys.getD i .non))) { s with heap:=h',toks:=s.toks }:=I1.laid (t':=s.toks) kh (b4z _) ⟨by rw[b4p,<-b4p (f:=λi=>ws.getD i (0,[])),pw.length_eq,b5n];omega,_,c,Paired.pick rv .non Value.none p.toList lt,hL⟩;have sm:=a0d hLn (.lst (p.toList.map λi=>ys.getD i .non));exact b4r ⟨_,rfl,.ref h1.objs.size,_,I2,rfl,q _ _ _ (p.toList.map λi=>ws.getD i (0,[])) sm hLn a0b (Paired.pick (Paired.mapP hw λ_ _ q=>RPw.same sm q) .non (0,[]) p.toList lt) pw srt⟩
section
variable {prog:Program} {w:World} {A:Around} {E:Value->Shared->Prop} {s:Shared}
end
theorem a7S:bootBuiltins "reversed"=some (.type "reversed"):=by decide +kernel
end L2
namespace L2
open PySem PySem.Spec PyProof.Rows
section
variable {X:Cx} {elt iter:Expr} {tg:Str} {tp:Pos} {cs:List Expr} {scope:Scope} {pos:Pos} {tc:TT} {te:TE} {M:List Str}
theorem b0Z {tl:TE} {pos1 spos:Pos} {i:Nat} {x:Str} (hN:X.N.Nodup) (hix:X.N[i]?=some x) (hx:X.env.scope.names.lookup x=some .local) (hc:X.calm=true) (S:a0k scope X.env X.N M) (nd:(tg::M).Nodup) (hl:scope.names.lookup tg=some .local) (hi:PE X iter tl) (mo:a2a tl)
  (hin:a7L X scope tg M cs elt tc te) (hw:swapsWith (.ListComp elt [⟨.Name tg tp,iter,cs,0⟩] scope pos) (some (.Name x pos1)) spos.line X.env=pure true:=by rfl) (hf:∀x,foldedSetIterable iter X.env x=pure x:=by intro _;rfl) :
  PS X (.Assign [.Name x pos1] (.ListComp elt [⟨.Name tg tp,iter,cs,0⟩] scope pos) spos) (tAsg (b2c X.K tl tc te) (a1Y i)):=by
 refine b0P hc S nd hl (a1Z hi) hin (λσ H Q h=>?_) hN hix hx hw hf;refine mo σ H _ _ (λv H1 q=>?_) h;obtain⟨a,xs,e,j1,q⟩:=q;refine⟨a,e,⟨xs,j1⟩,λd hd=>?_⟩;obtain⟨Pv,h0,hl,hs,hd⟩:=q d hd;exact a3f (k:=1) (g:=a1Y 0) Pv h0 hl hs hd
end
noncomputable def turnP (K:PySem.W.Frag) (tc:TT) (te:TE) (σ:St) (d:Addr) (z:V) (H:Hp) (Z:Hp->Prop):Prop:=∃a x y,z=.ref a/\SqT K H a [x,y]/\a5S tc te σ d x y H Z
noncomputable def tCompP (K:PySem.W.Frag) (tl:TE) (tc:TT) (te:TE):TE:=λσ H Q=>tl σ H λv H1=>∃a xs,v=.ref a/\SqL K H1 a xs/\∀d,H1 d=none ->
 ∃Pv:Nat->Hp->Prop,Pv 0 (upd H1 d (.lst []))/\(∀i H,i<=xs.length->Pv i H->SqL K H a xs)/\(∀i x H,xs[i]?=some x->Pv i H->turnP K tc te σ d x H (Pv (i+1)))/\∀H,Pv xs.length H->Q (.ref d) H
theorem b1a {X:Cx} (K:PySem.W.Frag) {elt iter:Expr} {t1 t2:Str} {p1 p2 tp pos:Pos} {k:Nat} {cs:List Expr} {scope:Scope} {tc:TT} {te tl:TE} {M:List Str} (hc:X.calm=true) (S:a0k scope X.env X.N M) (nd:(t1::t2::M).Nodup) (hl1:scope.names.lookup t1=some .local) (hl2:scope.names.lookup t2=some .local)
  (hi:PE X iter tl) (mo:a2a tl)
  (hin:∀(cl:List (Str × Addr)) (C:Addr) (s0:Shared) (H0:Hp) (fp:List Addr) (pins:List (Addr × Obj)) (σ:St),b4j X (cxC X scope cl C s0 H0 fp (t1::t2::M)) pins σ fp C s0 H0->PTs (cxC X scope cl C s0 H0 fp (t1::t2::M)) cs tc/\PE (cxC X scope cl C s0 H0 fp (t1::t2::M)) elt te)
  (hf:∀x,foldedSetIterable iter X.env x=pure x:=by intro _;rfl) (hK:X.K=K:=by rfl) :
  PE X (.ListComp elt [⟨.Tuple [.Name t1 p1,.Name t2 p2] k tp,iter,cs,0⟩] scope pos) (tCompP K tl tc te):=by
 subst hK;have hx1:(relabel scope X.env).names.lookup t1=some .local:=by rw[a0x,hl1];rfl
 have hx2:(relabel scope X.env).names.lookup t2=some .local:=by rw[a0x,hl2];rfl
 refine PE.imp (a4f (xs:=[t1,t2]) (M:=M) (g:=a5m X.K) hc S (a1Z hi) (λcl C s0 H0 fp pins σ bk=>⟨a8u hc (a1m (a0F (i:=0) nd rfl (Or.inl hx1) (Or.inr hx1)) (a1m (a0F (i:=1) nd rfl (Or.inl hx2) (Or.inr hx2)) a3Z)),hin cl C s0 H0 fp pins σ bk⟩) (λv σ H Q h=>a3i h) hf) (λσ H Q h=>?_);refine mo σ H _ _ (λv H1 q=>?_) h;obtain⟨a,xs,e,j1,q⟩:=q;refine⟨a,e,⟨xs,j1⟩,λd hd=>?_⟩;obtain⟨Pv,h0,hl,hs,hd⟩:=q d hd;refine a3f (k:=2) (g:=a5m X.K) Pv h0 hl (λi x H hx hP=>?_) hd;obtain⟨b,y,z,rfl,hq,h⟩:=hs i x H hx hP;exact⟨b,[y,z],rfl,hq,rfl,y,[z],rfl,z,[],rfl,rfl,h⟩
section
variable {P:Program} {w:World} {A:Around} {H:Hp} {s:Shared} {n:Nat} {α β γ:Type} [DecidableEq α] [DecidableEq β] [DecidableEq γ]
noncomputable def RTwo {α β:Type} (H:Hp) (R1:V->α->Prop) (R2:V->β->Prop) (x:V) (p:α × β):Prop:=∃a y z,x=.ref a/\H a=some (.tup [y,z])/\R1 y p.1/\R2 z p.2
noncomputable def RThr {α β γ:Type} (H:Hp) (R1:V->α->Prop) (R2:V->β->Prop) (R3:V->γ->Prop) (x:V) (p:α × β × γ):Prop:=∃a y z t,x=.ref a/\H a=some (.tup [y,z,t])/\R1 y p.1/\R2 z p.2.1/\R3 t p.2.2
variable {R1:V->α->Prop} {R2:V->β->Prop} {R3:V->γ->Prop}
end
noncomputable def srt (ns:List Int):List Int:=ns.mergeSort λa b=>decide (a<=b)
theorem a0v (ns:List Int):(srt ns).Perm ns:=List.mergeSort_perm ns _
theorem a1b (ns:List Int):(srt ns).Pairwise (·<=·):=by
 have h:=List.pairwise_mergeSort (le:=λa b:Int=>decide (a<=b)) (λa b c h1 h2=>by simp at *;omega) (λa b=>by simp;omega) ns;exact h.imp λh=>by simpa using h
theorem a0J (ns:List Int):(srt ns).length=ns.length:=(a0v ns).length_eq
theorem a5p {a b:List Int} (h:a.Perm b) (h1:a.Pairwise (·<=·)) (h2:b.Pairwise (·<=·)):a=b:=h.eq_of_pairwise (λx y _ _ h3 h4=>by omega) h1 h2
theorem a3m {ns ms:List Int} (h:ms.Perm ns) (h1:ms.Pairwise (·<=·)):ms=srt ns:=a5p (h.trans (a0v ns).symm) h1 (a1b ns)
theorem a2n {ns ms:List Int} (h:ms.Perm ns):srt ms=srt ns:=a3m ((a0v ms).trans h) (a1b ms)
noncomputable def SqI (H:Hp) (a:Addr) (ns:List Int):Prop:=H a=some (.lst (ns.map V.int))\/H a=some (.tup (ns.map V.int))
noncomputable def b2i:List V->Hp->VK->Prop:=λxs H Q=>∃(a:Addr) (ns:List Int),xs=[.ref a]/\SqI H a ns/\ns.length<64/\∀p H',a0r H H'->H p=none->H' p=some (.lst ((srt ns).map V.int))->Q (.ref p) H'
theorem a1q {ns:List Int} {us:List Value} (r:a0C (ns.map V.int) us):IntsAre us ns:=by
 induction ns generalizing us with
 | nil=>cases r;exact .nil
 | cons n ns ih =>
  cases r with
  | cons r rr =>
   obtain⟨t,rfl⟩:=r;exact .cons _ _ (ih rr)
theorem a7T {ns:List Int} {us:List Value} (r:IntsAre us ns):a0C (ns.map V.int) us:=by
 induction r with
 | nil=>exact .nil
 | cons n t _ ih=>exact .cons ⟨t,rfl⟩ ih
theorem seq_at {X:Cx} {pins:List (Addr × Obj)} {σ:St} {H:Hp} {s:Shared} (I:Inv X pins σ H s) {a:Addr} {ns:List Int} (h:SqI H a ns):∃(T:String) (o:Obj) (its:List Value) (n:Nat),(T="list"\/T="tuple")/\s.heap.get? a=some o/\o.cls=.type T/\o.data=.seq its.toArray n/\IntsAre its ns:=by
 rcases h with h|h
 ·obtain⟨_,its,n,rv,he⟩:=(show a0B X.prog X.w H s.heap a (.lst (ns.map V.int)) from I.hok a _ h)
  exact⟨"list",_,its,n,.inl rfl,he,rfl,rfl,a1q rv⟩
 ·obtain⟨_,its,rv,⟨o,ho,hcl,n,hd⟩⟩:=a1B ((show a0B X.prog X.w H s.heap a (.tup (ns.map V.int)) from I.hok a _ h));exact⟨"tuple",o,its,n,.inr rfl,ho,hcl,hd,a1q rv⟩
theorem a1g {vs:List Value} {ns:List Int} (h:IntsAre vs ns):vs.length=ns.length:=by
 induction h with
 | nil=>rfl
 | cons n t _ ih=>simp[ih]
theorem a2o {X:Cx}:a2f X (.builtin "sorted") b2i:=by
 intro pins s σ H xs us Q I r h;obtain⟨a,ns,rfl,e,h64,q⟩:=h;obtain⟨u,rfl,rx⟩:=a2g r;cases rx;obtain⟨T,o,its,n,hT,ho,hcl,hdat,hI⟩:=seq_at I e;have li:=a1g hI;refine b7l b9r b8S b8T (args_sorted1 _) ?_;unfold Builtin.«sorted»;refine b4n (m:=checkCount "sorted" 1 1 _) (b4r ?_);refine b4n (wpAny_collect_seq a hT ho hcl hdat (λh1 k1=>?_) (by rw[b4y,b5n];omega));show wpAny _ _ _ _ _ { s with heap:=h1 };refine b4n (b6S ?_ (by show its.length<=sizeLine;rw[b5n];omega));show wpAny _ _ _ _ _ { s with heap:=h1.push (seqObj "list" its.toArray 0) };have hoL:(h1.push (seqObj "list" its.toArray 0)).get? h1.objs.size=some (seqObj "list" its.toArray 0):=b4v _ rfl;have nL:∀b o,h1.get? b=some o->b≠h1.objs.size:=λb o e=>b4H (b4w e);have I1:Inv X pins σ H { s with heap:=h1,toks:=s.toks }:=I.kept k1;have hLn:H h1.objs.size=none:=I1.hok.fresh (b4z _);refine b4n (b4T (b4Z b8c ⟨_,hoL,rfl⟩ b7S (list_sort_tree (s:={ s with heap:=h1.push (seqObj "list" its.toArray 0) }) hoL hI (by omega) λout ns' ho' pm srt'=>⟨_,rfl,?_⟩) (b9J _)));have es:ns'=srt ns:=a3m pm srt';subst es;have lo:out.toList.length=ns.length:=by rw[a1g ho',a0J]
 have hp:∃c,(sortedHeap (h1.push (seqObj "list" its.toArray 0)) h1.objs.size its out).get? h1.objs.size=some { cls:=.type "list",data:=.seq out.toList.toArray c }:=by
  unfold sortedHeap;have z1:=b5Y hoL (λ_=>#[]);have z2:=b4o (seqObj "tuple" its.toArray 0) z1;have z3:=b4o (seqObj "list" #[] 0) z2;have z4:=b5Y z3 (λ_=>out);exact⟨_,z4⟩
 obtain⟨c,hp⟩:=hp;have kh:∀b o,h1.get? b=some o->(sortedHeap (h1.push (seqObj "list" its.toArray 0)) h1.objs.size its out).get? b=some o:=λb o e=>by
  have ne:=nL b o e;unfold sortedHeap;rw[b4I _ _ _ _ ne];refine b4o _ (b4o _ ?_);rw[b4I _ _ _ _ ne];exact b4o _ e
 have I2:Inv X pins σ (upd H h1.objs.size (.lst ((srt ns).map V.int))) { s with heap:=sortedHeap (h1.push (seqObj "list" its.toArray 0)) h1.objs.size its out,toks:=s.toks }:=I1.laid (t':=s.toks) kh (b4z _) ⟨by rw[b4p,a0J,b5n];omega,_,c,a7T ho',hp⟩;have sm:=a0d hLn (.lst ((srt ns).map V.int));exact b4r ⟨_,rfl,.ref h1.objs.size,_,I2,rfl,q _ _ sm hLn a0b⟩
theorem a6R {ns:List Int} {m:Int} (h:m∈ns) (h1:∀x∈ns,m<=x):(srt ns).headD 0=m:=by
 have p:=a0v ns;have r:=a1b ns;cases e:srt ns with
 | nil =>
  rw[e] at p;have:=p.symm.mem_iff.mp h;cases this
 | cons a t =>
  rw[e] at p r;have ha:m<=a:=h1 a (p.mem_iff.mp (.head _));have hm:m∈a::t:=p.symm.mem_iff.mp h;show a=m;cases hm with
  | head=>rfl
  | tail _ hm =>
   have:=(b5K.mp r).1 m hm;omega
noncomputable def rMinI:List V->Hp->VK->Prop:=λxs H Q=>∃(a:Addr) (ns:List Int),xs=[.ref a]/\SqI H a ns/\ns≠[]/\Q (.int ((srt ns).headD 0)) H
theorem a5Z {its:List Value} {ns:List Int} (hI:IntsAre its ns) (ne:ns≠[]) {v:Value} (h:its.toArray[argBest (λi j=>decide (ns.getD i 0<ns.getD j 0)) (its.toArray.size-1)]?=some v):∃t,v=.int ((srt ns).headD 0) t:=by
 have li:=a1g hI;have hb:=argBest_lt (λi=>ns.getD i 0) (its.toArray.size-1);have ez:its.toArray.size=its.length:=b4y;have n0:0<ns.length:=b6s.mpr ne;have hv:its[argBest (λi j=>decide (ns.getD i 0<ns.getD j 0)) (its.toArray.size-1)]?=some v:=by simpa using h
 obtain⟨t,e⟩:=hI.int_at _ v hv;refine⟨t,?_⟩;rw[e];congr 1;refine(a6R ?_ λx hx=>?_).symm
 ·rw[b4t,b4q (by have:=hb.1;omega)];exact b6p _
 ·obtain⟨j,hj⟩:=b5R.mp hx;have jl:=(b4u.mp hj).1;have:=hb.2 j (by omega);rw[show ns.getD j 0=x by rw[b4t,hj];rfl] at this;exact this
theorem a9j {X:Cx} (hc:X.calm=true):a2f X (.builtin "min") rMinI:=by
 intro pins s σ H xs us Q I r h;obtain⟨a,ns,rfl,e,ne,q⟩:=h;obtain⟨u,rfl,ru⟩:=a2g r;cases ru;have n0:0<ns.length:=b6s.mpr ne;rcases e with e|e
 ·obtain⟨_,its,n,rv,he⟩:=(show a0B X.prog X.w H s.heap a (.lst (ns.map V.int)) from I.hok a _ e)
  have hI:=a1q rv;have li:=a1g hI;have hlt:=b4w he;refine call_min_walk (b6w (a1u he) ?_);refine⟨s.heap.objs.size,_,_,_,_,_,λi j=>decide (ns.getD i 0<ns.getD j 0),rfl,c0j (A:=X.A.in1) (by show X.A.handled=none;exact I.ok.hd hc) s.heap.objs.size a (b4H hlt) its.toArray,⟨⟨_,b4v _ rfl,rfl,rfl⟩,a1u (b4o _ he)⟩,?_,by rw[b4y];omega,b9W _ (λi v hv=>hI.int_at i v (by simpa using hv)),λv h' tk hv hk=>?_⟩
  ·intro b hb;have hp:(s.heap.push { cls:=.type "list_iterator",data:=.fields #[.ref a,rawInt 0] }).objs.size=s.heap.objs.size+1:=b4X _ _;simp only[b4K,b5u,b7o] at hb;show b<(s.heap.push _).objs.size;rw[b4X];rcases hb with rfl|rfl
   ·exact b7f _
   ·exact b9Q hlt
  ·obtain⟨t,rfl⟩:=a5Z hI ne hv;exact⟨.int _,H,I.kept (h':=h') (t':=tk) (λb o eo=>hk b o (by simp;exact b4H (b4w eo)) (b4o _ eo)),⟨t,rfl⟩,q⟩
 ·obtain⟨_,its,rv,ht⟩:=a1B ((show a0B X.prog X.w H s.heap a (.tup (ns.map V.int)) from I.hok a _ e));have hI:=a1q rv;have li:=a1g hI;have hlt:a<s.heap.objs.size:=by obtain⟨o,ho,_⟩:=ht;exact b4w ho
  refine call_min_walk (b9y ht ?_);refine⟨s.heap.objs.size,_,_,_,_,_,λi j=>decide (ns.getD i 0<ns.getD j 0),rfl,Walks.tuple (A:=X.A.in1) (by show X.A.handled=none;exact I.ok.hd hc) s.heap.objs.size a (b4H hlt) its.toArray,⟨⟨_,b4v _ rfl,rfl,rfl⟩,by obtain⟨o,ho,r⟩:=ht;exact⟨o,b4o _ ho,r⟩⟩,?_,by rw[b4y];omega,b9W _ (λi v hv=>hI.int_at i v (by simpa using hv)),λv h' tk hv hk=>?_⟩
  ·intro b hb;simp only[b4K,b5u,b7o] at hb;show b<(s.heap.push _).objs.size;rw[b4X];rcases hb with rfl|rfl
   ·exact b7f _
   ·exact b9Q hlt
  ·obtain⟨t,rfl⟩:=a5Z hI ne hv;exact⟨.int _,H,I.kept (h':=h') (t':=tk) (λb o eo=>hk b o (by simp;exact b4H (b4w eo)) (b4o _ eo)),⟨t,rfl⟩,q⟩
theorem a5q:bootBuiltins "min"=some (.builtin "min"):=by decide +kernel
theorem a0U:bootBuiltins "sorted"=some (.builtin "sorted"):=by decide +kernel
noncomputable def CDivC (_ j:Int):Prop:=0<j/\j<2 ^ 200
theorem b1b {X:Cx}:OpR X (binaryOp .FloorDiv) (rI CDivC λi j=>.int (i / j)):=opI λi j _ _ _ _ _ hc q=>by
 have h0:0<=j:=Int.le_of_lt hc.1;have hn:j.natAbs.log2<9000:=by
  have h1:j.natAbs<2 ^ 200:=by
   have e:((2 ^ 200:Nat):Int)=2 ^ 200:=by norm_cast
   have:=hc.2;omega
  have h2:j.natAbs≠0:=by have:=hc.1;omega
  have h3:=(Nat.log2_lt h2).mpr h1;omega
 refine floordiv_int (by have:=hc.1;omega) ?_ (.inl (PyProof.noPylong_of_log2 hn));rw[b9x _ h0];exact q
theorem mo_srt {ta:TA} (h1:a7K ta):a2a (tCB b2i ta):=λσ H Q Q' h q=>h1 σ H _ _ (λvs H1 ⟨a,ns,e,s,l,q1⟩=>⟨a,ns,e,s,l,λp H' sm hn hp=>h _ _ (q1 p H' sm hn hp)⟩) q
noncomputable def TK (H H':Hp):Prop:=∀a xs,H a=some (.tup xs)->H' a=some (.tup xs)
theorem TK.of {H H':Hp} (s:a0r H H'):TK H H':=λa xs e=>s _ _ e
theorem TK.upd {H:Hp} {l:Addr} {ys:List V} {o:HO} (h:H l=some (.lst ys)):TK H (L2.upd H l o):=λa xs e=>by
 rw[a0m (λz=>by rw[z,h] at e;cases e)];exact e
theorem TK.trans {H H1 H2:Hp} (h:TK H H1) (h2:TK H1 H2):TK H H2:=λa xs e=>h2 a xs (h a xs e)
theorem b0D.tk {H H':Hp} {x:V} {ns:List Int} (k:TK H H') (h:b0D H a5g x ns):b0D H' a5g x ns:=by
 obtain⟨a,xs,rfl,e,p⟩:=h;exact⟨a,xs,rfl,k _ _ e,p⟩
abbrev a6a (H:Hp):V->Int × List Int->Prop:=RTwo H a5g (b0D H a5g)
abbrev a3L (H:Hp):V->Int × Int × (Int × List Int)->Prop:=RThr H a5g a5g (a6a H)
theorem a6a.tk {H H':Hp} {x:V} {p:Int × List Int} (k:TK H H') (h:a6a H x p):a6a H' x p:=by
 obtain⟨a,y,z,rfl,e,h1,h2⟩:=h;exact⟨a,y,z,rfl,k _ _ e,h1,b0D.tk k h2⟩
theorem a3L.tk {H H':Hp} {x:V} {p:Int × Int × (Int × List Int)} (k:TK H H') (h:a3L H x p):a3L H' x p:=by
 obtain⟨a,y,z,t,rfl,e,h1,h2,h3⟩:=h;exact⟨a,y,z,t,rfl,k _ _ e,h1,h2,a6a.tk k h3⟩
abbrev Mvs (H:Hp) (xs:List V) (ms:List (Int × Int × (Int × List Int))):Prop:=Paired (a3L H) xs ms
theorem Mvs.tk {H H':Hp} {xs:List V} {ms:List (Int × Int × (Int × List Int))} (k:TK H H') (h:Mvs H xs ms):Mvs H' xs ms:=Paired.mapP h λ_ _ q=>a3L.tk k q
section
variable {prog:Program} {w:World} {A:Around} {R:Result->Shared->Prop} {I:Addr} {fp wr:List Addr} {n:Nat} {P:Nat->Value->Prop} {St:Nat->Heap->Prop}
abbrev kwD (d:Value):List (Str × Value):=[(Str.ofString "default",d)]
theorem b3l (W:Walks prog w A.in1 I fp wr n P St) (bt:Nat->Nat->Bool) (C:CmpOf prog w A.in1 .Lt P bt) (S:Addr) (hS:S∉fp) (d:Value) :
  ∀(k j:Nat) (s:Shared) (vb:Value) (c:Nat),n-(j+1)=k->j+1<=n->St (j+1) s.heap->P (argBest bt j) vb->s.heap.get? S=some { cls:=.type "list",data:=.seq #[vb,vb] c } ->
   (∀(v:Value) (h':Heap) (tk:Nat),P (argBest bt (n-1)) v->(∀(b:Addr) (o:Obj),b∉wr->b≠S->s.heap.get? b=some o->h'.get? b=some o)->R (.ok (.ret v)) { s with heap:=h',toks:=tk }) ->
   codeAny (model prog w) A (.builtin "min.loop" ⟨[.ref I,.none,.ref S],kwD d⟩) R s:=by
 intro k
 induction k with
 | zero =>
  intro j s vb c hk hj st pv hs q;have ej:j+1=n:=by omega
  refine b5p b7E ?_;rw[b4S b5I _];show wpAny _ A.in1 (seqItems? (.ref S) >>= _) _ _ s;refine b4n (b5i hs rfl ?_);refine b4n (b6D ?_);subst ej;refine W.done s _ _ st λh' tk hk'=>?_;have hs':=hk' S _ (λz=>hS (W.sub _ z)) hs;show wpAny _ A.in1 (updateSeq S _ >>= _) _ _ _;refine b4n (b6e hs' rfl ?_);refine b4n (b6H ?_);refine b4r ?_;refine q vb _ tk pv λb o hb hne e=>?_;rw[b4I _ _ _ _ hne];exact hk' b o hb e
 | succ k ih =>
  intro j s vb c hk hj st pv hs q;have hlt:j+1<n:=by omega
  refine b5p b7E ?_;rw[b4S b5I _];show wpAny _ A.in1 (seqItems? (.ref S) >>= _) _ _ s;refine b4n (b5i hs rfl ?_);refine b4n (b6D ?_);refine W.item (j+1) s _ _ hlt st λv h' tk hv st' hk'=>?_;have hs':=hk' S _ (λz=>hS (W.sub _ z)) hs;show wpAny _ A.in1 (tryCatch (holding [v,v] (richCompare .Lt v vb >>= _)) _ >>= _) _ _ _;refine b4n (b6D (b4T (b4n ?_)));refine C (j+1) (argBest bt j) v vb _ _ _ hv pv ?_;refine b4n (b4T (b6v ?_));refine b4n (b6H (b4r ?_));have eb:argBest bt (j+1)=if bt (j+1) (argBest bt j)=true then j+1 else argBest bt j:=rfl
  cases hb:bt (j+1) (argBest bt j) with
  | true =>
   rw[hb,if_pos rfl] at eb;show wpAny _ A.in1 (updateSeq S _ >>= _) _ _ _;refine b4n (b6e hs' rfl ?_);refine b4n (b6H ?_);refine b4r ⟨b5B b5I _,?_⟩;have hs2:=b5Y (c:="list") hs' (λ_=>#[v,v]);refine ih (j+1) _ v _ (by omega) (by omega) ?_ (by rw[eb];exact hv) hs2 λv2 h2 tk2 hv2 hk2=>?_
   ·refine W.frame (j+2) h' _ st' λb hb2 o e=>?_;rw[b4I _ _ _ _ (λz=>hS (by rw[<-z];exact hb2))];exact e
   ·refine q v2 h2 tk2 hv2 λb o hb2 hne e=>hk2 b o hb2 hne ?_;rw[b4I _ _ _ _ hne];exact hk' b o hb2 e
  | false =>
   rw[hb,if_neg (by decide)] at eb;show wpAny _ A.in1 (letGo _ _ >>= _) _ _ _;refine b4n (b6H ?_);refine b4r ⟨b5B b5I _,?_⟩;exact ih (j+1) _ vb c (by omega) (by omega) st' (by rw[eb];exact pv) hs' λv2 h2 tk2 hv2 hk2=>q v2 h2 tk2 hv2 λb o hb2 hne e=>hk2 b o hb2 hne (hk' b o hb2 e)
theorem a7U (W:Walks prog w A.in1 I fp wr n P St) (bt:Nat->Nat->Bool) (C:CmpOf prog w A.in1 .Lt P bt) (S:Addr) (hS:S∉fp) (d:Value) {s:Shared} {c:Nat} (st:St 0 s.heap) (hs:s.heap.get? S=some { cls:=.type "list",data:=.seq #[] c })
  (q0:n=0->∀(h':Heap) (tk:Nat),(∀(b:Addr) (o:Obj),b∉wr->b≠S->s.heap.get? b=some o->h'.get? b=some o)->R (.ok (.ret d)) { s with heap:=h',toks:=tk })
  (q:0<n->∀(v:Value) (h':Heap) (tk:Nat),P (argBest bt (n-1)) v->(∀(b:Addr) (o:Obj),b∉wr->b≠S->s.heap.get? b=some o->h'.get? b=some o)->R (.ok (.ret v)) { s with heap:=h',toks:=tk }) :
  codeAny (model prog w) A (.builtin "min.loop" ⟨[.ref I,.none,.ref S],kwD d⟩) R s:=by
 refine b5p b7E ?_;rw[b4S b5I _];show wpAny _ A.in1 (seqItems? (.ref S) >>= _) _ _ s;refine b4n (b5i hs rfl ?_);refine b4n (b6D ?_);by_cases n0:n=0
 ·subst n0;refine W.done s _ _ st λh' tk hk'=>?_;show wpAny _ A.in1 (rule _ >>= _) _ _ _;refine b4n (b5T (b4r ?_));exact q0 rfl h' tk λb o hb _ e=>hk' b o hb e
 ·have hlt:0<n:=by omega
  refine W.item 0 s _ _ hlt st λv h' tk hv st' hk'=>?_;have hs':=hk' S _ (λz=>hS (W.sub _ z)) hs;show wpAny _ A.in1 (updateSeq S _ >>= _) _ _ _;refine b4n (b6e hs' rfl ?_);refine b4r ⟨b5B b5I _,?_⟩;have hs2:=b5Y (c:="list") hs' (λ_=>#[v,v]);refine b3l W bt C S hS d (n-1) 0 _ v _ rfl hlt ?_ hv hs2 λv2 h2 tk2 hv2 hk2=>?_
  ·refine W.frame 1 h' _ st' λb hb2 o e=>?_;rw[b4I _ _ _ _ (λz=>hS (by rw[<-z];exact hb2))];exact e
  ·refine q hlt v2 h2 tk2 hv2 λb o hb2 hne e=>hk2 b o hb2 hne ?_;rw[b4I _ _ _ _ hne];exact hk' b o hb2 e
end
noncomputable def rMinD (xs zs:List V) (H:Hp) (Q:VK):Prop:=∃(a:Addr) (ns:List Int),xs=[.ref a]/\zs=[.non]/\H a=some (.lst (ns.map V.int))/\Q (if ns=[] then .non else .int ((srt ns).headD 0)) H
theorem a9k (a d:Value):argsOk "min" { pos:=[a],kw:=kwD d }:=rfl
noncomputable def tMinD (t tk:TA):TE:=λσ H Q=>t σ H λvs H1=>tk σ H1 λzs H2=>rMinD vs zs H2 Q
theorem a7V {n:Nat} {g:Nat->Int} {acc:Array Value} (h:ItemsOf (λi v=>∃t,v=.int (g i) t) acc n):a0C ((List.range n).map λi=>V.int (g i)) acc.toList:=by
 obtain⟨h1,h2⟩:=h;have key:∀k,k<=n->a0C ((List.range k).map λi=>V.int (g i)) (acc.toList.take k):=by
  intro k
  induction k with
  | zero=>intro _;rw[b8K];exact .nil
  | succ k ih =>
   intro hk;have hk':k<acc.toList.length:=by rw[b4x,h1];omega
   rw[c0e,b4D,b5e,b4q hk'];obtain⟨t,ht⟩:=h2 k (acc.toList[k]) (by rw[<-b5f,b4q hk']);refine(ih (by omega)).append ?_;rw[ht];exact .cons ⟨t,rfl⟩ .nil
 have:=key n (b4z _);rw[b6M (by rw[b4x,h1];exact b4z _)] at this;exact this
abbrev exA (a:Addr) (o:Obj):HO:=.ext λh=>h.get? a=some o
abbrev cdA (c:Addr) (q:Str):HO:=.ext λh=>h.CodeRec (.ref c) q
noncomputable def unt (as:List Addr) (H:Hp):Hp:=λb=>if b∈as then none else H b
noncomputable def rtk (as:List Addr) (H H':Hp):Hp:=λb=>if b∈as then H b else H' b
theorem a3n {as:List Addr} {H:Hp} {b:Addr} (h:b∈as):unt as H b=none:=if_pos h
theorem a0A {as:List Addr} {H:Hp} {b:Addr} (h:b∉as):unt as H b=H b:=if_neg h
theorem b2j {as:List Addr} {H H':Hp} {b:Addr} (h:b∈as):rtk as H H' b=H b:=if_pos h
theorem a1F {as:List Addr} {H H':Hp} {b:Addr} (h:b∉as):rtk as H H' b=H' b:=if_neg h
noncomputable def Exs (H:Hp) (as:List Addr):Prop:=∀a∈as,∃o,H a=some (exA a o)
section
variable {P:Program} {w:World} {H H':Hp} {h h':Heap} {as:List Addr} {fs ex:List Addr}
theorem Exs.out (x:Exs H as) {b:Addr} {u:HO} (e:H b=some u) (hn:∀o,u≠exA b o):b∉as:=λz=>by
 obtain⟨o,e'⟩:=x b z;rw[e] at e';exact hn o (b4N e')
theorem HOk.unt (x:HOk P w H h) (e:Exs H as):HOk P w (L2.unt as H) h:=λa o q=>by
 have ne:a∉as:=λz=>by rw[a3n z] at q;cases q
 rw[a0A ne] at q;exact(x a o q).stay (λb u _ r=>r) (λb r=>by rw[a0A (e.out r λo=>by intro z;cases z)];exact r) λb xs r=>by rw[a0A (e.out r λo=>by intro z;cases z)];exact r
theorem a6S {a:Addr} {o:Obj} (e:h.get? a=some o):a0B P w H h a (exA a o):=⟨e,⟨o,e⟩,λh1 h2 e1 k=>k o e1⟩
theorem cdA_ok {c:Addr} {q:Str} (e:h.CodeRec (.ref c) q):a0B P w H h c (cdA c q):=by
 obtain⟨c2,o,vs,t,e1,g,r⟩:=e;cases e1;refine⟨⟨c,o,vs,t,rfl,g,r⟩,⟨o,g⟩,λh1 h2 x k=>?_⟩;obtain⟨c3,o',vs',t',e2,g',r'⟩:=x;cases e2;exact⟨c,o',vs',t',rfl,k _ g',r'⟩
theorem Un.rtk (u:Un fs ex (L2.unt as H) H' h h') (e:Exs H as):Un fs ex H (L2.rtk as H H') h h':=by
 have no:∀{b:Addr},H b=none->b∉as:=λ{b} n z=>by obtain⟨o,q⟩:=e b z;rw[n] at q;cases q
 refine⟨λb o q n hb hx=>u.keep b o q (by rw[a0A (no n)];exact n) hb hx,λb o q n hb hx=>u.slot b o q (by rw[a0A (no n)];exact n) hb hx,λb o q n hx=>?_,u.there,λb xs q=>?_,λb o u' q=>?_,λb ps q=>?_⟩
 ·rw[a1F (no n)];exact u.free b o q (by rw[a0A (no n)];exact n) hx
 ·have ne:=e.out q λo=>by intro z;cases z
  rw[a1F ne];exact u.tups b xs (by rw[a0A ne];exact q)
 ·have ne:=e.out q λo=>by intro z;cases z
  rw[a1F ne];exact u.frzs b o u' (by rw[a0A ne];exact q)
 ·have ne:=e.out q λo=>by intro z;cases z
  rw[a1F ne];exact u.tbls b ps (by rw[a0A ne];exact q)
theorem HOk.rtk (x:HOk P w H' h') (u:Un fs ex (L2.unt as H) H' h h') (x0:HOk P w H h) (e:Exs H as) (nf:∀a∈as,a∉fs/\a∉ex):HOk P w (L2.rtk as H H') h':=λa o q=>by
 have no:∀{b:Addr},b∈as->H' b=none/\∀o,H b=some (exA b o)->h'.get? b=some o:=λ{b} z=>by
  obtain⟨o1,q1⟩:=e b z;have g1:h.get? b=some o1:=(x0 b _ q1).1;refine⟨u.free b o1 g1 (a3n z) (nf b z).2,λo2 q2=>?_⟩;have g2:h.get? b=some o2:=(x0 b _ q2).1;exact u.keep b o2 g2 (a3n z) (nf b z).1 (nf b z).2
 by_cases z:a∈as
 ·rw[b2j z] at q;obtain⟨o1,q1⟩:=e a z;rw[q1] at q;cases q;exact a6S ((no z).2 o1 q1)
 ·rw[a1F z] at q;have st:∀{b:Addr} {y:HO},H' b=some y->b∉as:=λ{b y} r k=>by rw[(no k).1] at r;cases r
  exact(x a o q).stay (λb u _ r=>r) (λb r=>by rw[a1F (st r)];exact r) λb xs r=>by rw[a1F (st r)];exact r
end
noncomputable def cxL (P:Program) (w:World) (K:PySem.W.Frag) (mg:Str->Option Value) (base:Heap) (N:List Str) (qual:Str) (scope:Scope) (g:Addr) (cd:Value) (cl:List (Str × Addr)) (A:Around) (outer:List Env) (s:Shared) (H:Hp) (xe:Value->Shared->Prop):Cx where
 prog:=P
 w:=w
 K:=K
 mg:=mg
 base:=base
 A:=A.deeper (PySem.W.envX qual scope s.heap.objs.size g cd cl)
 N:=N
 s₀:=s
 H₀:=H
 env:=PySem.W.envX qual scope s.heap.objs.size g cd cl
 outer:=outer
 stack:=PySem.W.envX qual scope s.heap.objs.size g cd cl::outer
 ex:=[]
 calm:=true
 fn:=λ_=>false
 pn:=[]
 xe:=xe
structure a2p (scope:Scope) (ps:List Str) (cl:List (Str × Addr)):Prop where
 kind:scope.kind=.function
 co:scope.isCoroutine=false
 gen:scope.isGenerator=false
 nd:(ps++cl.map (·.1)).Nodup
 par:∀x∈ps,scope.names.lookup x=some .local
 nocell:∀y∈scope.names,y.2≠.cell
 fr:∀y∈scope.names,y.2=.free->y.1∈cl.map (·.1)
 cap:∀x∈cl.map (·.1),scope.names.lookup x=some .free
theorem a3o:∀{cl:List (Str × Addr)} {i:Nat} {x:Str} {c:Addr},(cl.map (·.1)).Nodup->cl[i]?=some (x,c)->cl.lookup x=some c
 | [],_,_,_,_,h=>by simp at h
 | (y,d)::cl,0,x,c,_,h=>by
  have h:y=x/\d=c:=by simpa using h
  obtain⟨rfl,rfl⟩:=h;simp[List.lookup]
 | (y,d)::cl,i+1,x,c,nd,h=>by
  have h:cl[i]?=some (x,c):=by simpa using h
  have ne:x≠y:=λz=>(b6F.mp nd).1 (by rw[<-z];exact b4F.mpr ⟨_,b4B h,rfl⟩);have e:(x==y)=false:=by simpa using ne
  rw[List.lookup,e];exact a3o (b6F.mp nd).2 h
theorem a1T:∀{cl:List (Str × Addr)} {x:Str} {c:Addr},cl.lookup x=some c->∃i:Nat,cl[i]?=some (x,c)
 | [],_,_,h=>by cases h
 | (y,d)::cl,x,c,h=>by
  rw[List.lookup] at h;cases e:(x==y) with
  | true =>
   rw[e] at h;have:d=c:=by simpa using h
   have xy:x=y:=by simpa using e
   exact⟨0,by rw[xy,this];rfl⟩
  | false =>
   rw[e] at h;obtain⟨i,hi⟩:=a1T h;exact⟨i+1,by simpa using hi⟩
theorem a7W {us:List Value}:∀{ps:List Str},ps.Nodup->∀{i:Nat} {x:Str} {u:Value},ps[i]?=some x->us[i]?=some u->(ps.zip us).reverse.lookup x=some u:=by
 induction us with
 | nil=>intro ps _ i x u _ h;simp at h
 | cons v us ih =>
  intro ps nd i x u h1 h2;cases ps with
  | nil=>simp at h1
  | cons p ps =>
   rw[b7g,List.reverse_cons,List.lookup_append];cases i with
   | zero =>
    have e1:p=x:=by simpa using h1
    have e2:v=u:=by simpa using h2
    subst e1 e2;have:(ps.zip us).reverse.lookup p=none:=by
     cases e:(ps.zip us).reverse.lookup p with
     | none=>rfl
     | some y =>
      have:=b5U e;rw[c0a] at this;exact absurd (b8q this).1 (b6F.mp nd).1
    rw[this];simp[List.lookup]
   | succ i =>
    rw[ih (b6F.mp nd).2 (by simpa using h1) (by simpa using h2)];rfl
theorem a2Q {P:Program} {w:World} {K:PySem.W.Frag} {mg:Str->Option Value} {base:Heap} {k:Nat} {name qual:Str} {params:Arguments} {body:Expr} {scope:Scope} {cl:List (Str × Addr)} {pm ctv:Value} {c' g:Addr} {ps:List Str} {A:Around} {outer:List Env} {s:Shared} {H:Hp} {us:List Value} {vs cvs:List V} {Q:VK} {E:XK}
  (S:a2p scope ps cl) (hr:a2h (k+1) A) (e0:a8I P w K mg base A outer s H) (ho:H g=some (exA g (PySem.W.kla_obj name qual params body scope cl pm c' ctv))) (hc:H c'=some (cdA c' qual)) (nda:(cl.map (·.2)).Nodup)
  (hcl:∀(i:Nat) (x:Str) (c:Addr),cl[i]?=some (x,c)->∃o u v,H c=some (exA c o)/\o.data=.cell (some u)/\cvs[i]?=some v/\a0T v u) (lcv:cvs.length=cl.length) (r:a0C vs us) (hl:vs.length=ps.length)
  (hb:bindArgs (PySem.W.kla_fn name qual params body scope cl pm (.ref c') ctv) ⟨us,[]⟩=pure (ps.zip us))
  (hbody:∀xe,a2h k (A.deeper (PySem.W.envX qual scope s.heap.objs.size g (.ref c') cl))->∃t,PE (cxL P w K mg base (ps++cl.map (·.1)) qual scope g (.ref c') cl A outer s (unt (cl.map (·.2)) H) xe) body t/\t ((vs++cvs).map some) (unt (cl.map (·.2)) H) λv H'=>(∀a∈cl.map (·.2),H' a=none)->Q v (rtk (cl.map (·.2)) H H')) :
  codeAny (model P w) A (.call (.ref g) ⟨us,[]⟩) (CR CX0 outer P w H s Q E) s:=by
 have lim:s.heap.NoLimit:=e0.mod.nolimit.keeps λb o e=>(e0.bs b o e).1;have eg:s.heap.get? g=some (PySem.W.kla_obj name qual params body scope cl pm c' ctv):=(e0.hok g _ ho).1;have ec:s.heap.CodeRec (.ref c') qual:=(e0.hok c' _ hc).1;have exs:Exs H (cl.map (·.2)):=λa ha=>by
  obtain⟨⟨x,c⟩,hm,rfl⟩:=b4F.mp ha;obtain⟨i,hi⟩:=b5R.mp hm;obtain⟨o,u,v,e1,_⟩:=hcl i x c hi;exact⟨o,e1⟩
 have ndp:ps.Nodup:=(b9R.mp S.nd).1;have ndc:(cl.map (·.1)).Nodup:=(b9R.mp S.nd).2.1;have lus:us.length=ps.length:=by rw[<-r.length,hl]
 refine PySem.W.kla_callFunE hr.depth eg rfl S.co S.gen rfl ec ?_;rw[hb];refine b4r (wpAny_newFunctionEnv S.nocell (λy hy=>S.par y.1 (b8q hy).1) (λh₁ hns hsb=>?_) S.kind);have hk₁:∀b o,s.heap.get? b=some o->h₁.get? b=some o:=λb o e=>hsb.extBut b o (b4H (b4w e)) (b4o _ e);refine⟨lim.keeps hk₁,?_⟩;show codeAny _ _ (.expr body (PySem.W.envX qual scope s.heap.objs.size g (.ref c') cl)) _ _;refine PySem.W.kla_codeExpr ?_;obtain⟨t,ht,hq⟩:=hbody (λe' s'=>wpAny (model P w) (A.deeper (PySem.W.envX qual scope s.heap.objs.size g (.ref c') cl)) (leaving (PySem.W.envX qual scope s.heap.objs.size g (.ref c') cl) e') (λ_ s''=>CR CX0 outer P w H s Q E (.error e') s'') (λe'' s''=>CR CX0 outer P w H s Q E (.error e'') s'') s') (hr.deeper _);have cellAt:∀x c,cl.lookup x=some c->∃(i:Nat) (o:Obj) (u:Value) (v:V),cl[i]?=some (x,c)/\H c=some (exA c o)/\h₁.get? c=some o/\o.data=.cell (some u)/\cvs[i]?=some v/\a0T v u:=λx c e=>by
  obtain⟨i,hi⟩:=a1T e;obtain⟨o,u,v,e1,e2,e3,e4⟩:=hcl i x c hi;exact⟨i,o,u,v,hi,e1,hk₁ _ _ (e0.hok c _ e1).1,e2,e3,e4⟩
 have memA:∀x c,cl.lookup x=some c->c∈cl.map (·.2):=λx c e=>by
  obtain⟨i,hi⟩:=a1T e;exact b4F.mpr ⟨_,b4B hi,rfl⟩
 have noA:∀b:Addr,b∉([]:List Addr):=λb z=>by cases z
 have utn:∀{b:Addr},H b=none->unt (cl.map (·.2)) H b=none:=λ{b} n=>by
  by_cases z:b∈cl.map (·.2)
  ·exact a3n z
  ·rw[a0A z];exact n
 have I:Inv (cxL P w K mg base (ps++cl.map (·.1)) qual scope g (.ref c') cl A outer s (unt (cl.map (·.2)) H) (λe' s'=>wpAny (model P w) (A.deeper (PySem.W.envX qual scope s.heap.objs.size g (.ref c') cl)) (leaving (PySem.W.envX qual scope s.heap.objs.size g (.ref c') cl) e') (λ_ s''=>CR CX0 outer P w H s Q E (.error e') s'') (λe'' s''=>CR CX0 outer P w H s Q E (.error e'') s'') s')) [] ((vs++cvs).map some) (unt (cl.map (·.2)) H) { s with heap:=h₁,toks:=s.toks+(ps.zip us).length }:=by
  refine⟨⟨e0.mod,S.kind,rfl,rfl,b4z _,λy z c h1 h2=>?_,λy hy=>?_,λy c z h=>(by cases z),λ_=>hr.hd,Around.frames_deeper e0.frames,.inr ⟨rfl,rfl⟩,λb z=>absurd z (noA b),λb o e=>⟨(e0.bs b o e).1,utn (e0.bs b o e).2⟩,e0.bsz,λb _ _=>noA b,λb z=>absurd z (noA b),e0.funs,λb hb=>utn (e0.frf b hb)⟩,
   rfl,e0.bare,Un.kept hk₁,⟨_,hns,λi y v h1 h2 h3=>?_⟩,λy c h=>?_,utn (e0.hok.fresh (b4z _)),λy c h=>a3n (memA y c h),λp hp=>absurd (show p∈([]:List (Addr × Obj)) from hp) (by simp),(e0.hok.unt exs).kept hk₁,?_⟩
  ·obtain⟨i,hi⟩:=a1T (show cl.lookup y=some c from h1);obtain⟨j,hj⟩:=a1T (show cl.lookup z=some c from h2);have e1:(cl.map (·.2))[i]?=some c:=by rw[b4C,hi];rfl
   have e2:(cl.map (·.2))[j]?=some c:=by rw[b4C,hj];rfl
   have il:=(b4u.mp e1).1;have ij:i=j:=(b9O il nda).mp (e1.trans e2.symm);subst ij;rw[hi] at hj;exact b6W Prod.fst (b4N hj)
  ·have hy:scope.names.lookup y=some .cell\/scope.names.lookup y=some .free:=hy;rcases hy with hy|hy
   ·exact absurd rfl (S.nocell _ (b5U hy))
   ·have hm:=S.fr _ (b5U hy) rfl;obtain⟨⟨x,c⟩,hx,e⟩:=b4F.mp hm;have e:x=y:=e;subst e;obtain⟨i,hi⟩:=b5R.mp hx;exact⟨c,a3o ndc hi⟩
  ·have h1:(ps++cl.map (·.1))[i]?=some y:=h1;rw[b4C] at h2;by_cases hi:i<ps.length
   ·rw[b5w hi] at h1;rw[b5w (by omega)] at h2;cases ev:vs[i]? with
    | none=>rw[ev] at h2;cases h2
    | some v' =>
     rw[ev] at h2;have:v'=v:=by simpa using h2
     subst this;obtain⟨u,hu,rv⟩:=r.get ev;exact⟨u,rv,.inl ⟨S.par y (b4B h1),a7W ndp h1 hu⟩⟩
   ·rw[b4U (by omega),b4C] at h1;rw[b4U (by omega)] at h2;cases ec':cl[i-ps.length]? with
    | none=>rw[ec'] at h1;cases h1
    | some q =>
     obtain⟨x,c⟩:=q;rw[ec'] at h1;have:x=y:=by simpa using h1
     subst this;obtain⟨o,u,v',e1,e2,e3,e4⟩:=hcl _ x c ec';rw[hl,e3] at h2;have:v'=v:=by simpa using h2
     subst this;exact⟨u,e4,.inr ⟨.inr (S.cap x (b4F.mpr ⟨_,b4B ec',rfl⟩)),c,a3o ndc ec',o,hk₁ _ _ (e0.hok c _ e1).1,e2⟩⟩
  ·obtain⟨i,o,u,v,_,_,e3,e4,_⟩:=cellAt y c h;exact⟨_,o,e3,e4⟩
  ·show((vs++cvs).map some).length=(ps++cl.map (·.1)).length;rw[b4p,b4A,b4A,b4p,hl,lcv]
 refine b6Y (ht [] _ _ _ _ I hq) (λu s' hs=>?_) λe s' hs=>hs;obtain⟨v,H',J,rv,q⟩:=hs;have nf:∀a∈cl.map (·.2),a∉frs outer/\a∉([]:List Addr):=λa ha=>⟨λz=>(by
  obtain⟨o,e⟩:=exs a ha;rw[e0.frf a z] at e;cases e),noA a⟩
 have un:Un (frs outer) [] (unt (cl.map (·.2)) H) H' s.heap s'.heap:=J.base;exact⟨v,rtk (cl.map (·.2)) H H',J.os,J.bare,un.rtk exs,HOk.rtk J.hok un e0.hok exs nf,rv,q λa ha=>(by
  obtain⟨o,e⟩:=exs a ha;exact un.free a o (e0.hok a _ e).1 (a3n ha) (noA a))⟩
structure a6b (P:Program) (w:World) (K:PySem.W.Frag) (mg:Str->Option Value) (base:Heap) (k:Nat) (R:Addr->List V->Hp->VK->Prop):Prop where
 at':∀{g:Addr} {vs:List V} {H:Hp} {Q:VK},R g vs H Q->∃oc od fd sl,H g=some (exA g ⟨oc,od,.func fd,sl⟩)
 run:∀(A:Around) (outer:List Env) (s:Shared) (H:Hp) (g:Addr) (us:List Value) (vs:List V) (Q:VK),a2h k A->a8I P w K mg base A outer s H->a0C vs us->R g vs H Q->codeAny (model P w) A (.call (.ref g) ⟨us,[]⟩) (CR CX0 outer P w H s Q E0) s
abbrev a3M (lpos:Pos) (c':Addr):Array Value:=#[rawInt lpos.line,rawInt lpos.col,.ref c']
noncomputable def a3p (H:Hp) (T:Addr) (lpos:Pos) (q:Str):Prop:=H T=some (.tbl #[])\/∃c',H T=some (.tbl (a3M lpos c'))/\H c'=some (cdA c' q)
structure LamH (H H2:Hp) (T:Addr) (lpos:Pos) (q:Str) (c' g:Addr) (o:Obj):Prop where
 tb:H2 T=some (.tbl (a3M lpos c'))
 cd:H2 c'=some (cdA c' q)
 ob:H2 g=some (exA g o)
 ot:∀b u,b≠T->H b=some u->H2 b=some u
 ng:H g=none
 sm:∀c2,H T=some (.tbl (a3M lpos c2))->c2=c'
theorem b3m {lpos:Pos} {c c':Addr} (e:a3M lpos c=a3M lpos c'):c=c':=by
 have h2:=b6W (λz:Array Value=>z[2]?) e;have h3:some (Value.ref c)=some (Value.ref c'):=h2;cases h3;rfl
theorem Un.lam {fs:List Addr} {P:Program} {w:World} {H H3:Hp} {h h3:Heap} {T:Addr} {ps more:Array Value} (hok:HOk P w H h) (k:∀b u,b≠T->h.get? b=some u->h3.get? b=some u) (eT:∃u,h3.get? T=some u) (e:H T=some (.tbl ps)) (e3:H3 T=some (.tbl (ps++more))) (ot:∀b,b<h.objs.size->b≠T->H3 b=H b):Un fs [] H H3 h h3:=by
 have nT:∀{b:Addr},H b=none->b≠T:=λ{b} n z=>by rw[z,e] at n;cases n
 refine⟨λb o q n _ _=>k b o (nT n) q,λb o q n _ _=>⟨o.slots,k b o (nT n) q⟩,λb o q n _=>?_,λb o q _=>?_,λb xs q=>?_,λb o u q=>?_,λb qs q=>?_⟩
 ·rw[ot b (b4w q) (nT n)];exact n
 ·by_cases z:b=T
  ·subst z;exact eT
  ·exact⟨o,k b o z q⟩
 ·rw[ot b (hok.lt q) (a1z q e (by intro z;cases z))];exact q
 ·rw[ot b (hok.lt q) (a1z q e (by intro z;cases z))];exact q
 ·by_cases z:b=T
  ·subst z;rw[e] at q;cases q;exact⟨more,e3⟩
  ·exact⟨#[],by rw[ot b (hok.lt q) z,q];simp⟩
theorem HOk.lam {P:Program} {w:World} {H H3:Hp} {h h3:Heap} {T:Addr} {ps:Array Value} (hok:HOk P w H h) (k:∀b u,b≠T->h.get? b=some u->h3.get? b=some u) (e:H T=some (.tbl ps)) (ot:∀b,b<h.objs.size->b≠T->H3 b=H b) (new:∀a o,H3 a=some o->(a=T\/h.objs.size<=a)->a0B P w H3 h3 a o):HOk P w H3 h3:=λa o q=>by
 by_cases z:a=T
 ·exact new a o q (.inl z)
 by_cases y:h.objs.size<=a
 ·exact new a o q (.inr y)
 have q':H a=some o:=by rw[<-ot a (by omega) z];exact q
 refine(hok a o q').stay (λb u hb r=>k b u ?_ r) (λb r=>?_) λb xs r=>?_
 ·rcases hb with rfl|hb
  ·exact z
  ·exact a1z hb e (by intro z;cases z)
 ·rw[ot b (hok.lt r) (a1z r e (by intro z;cases z))];exact r
 ·rw[ot b (hok.lt r) (a1z r e (by intro z;cases z))];exact r
structure a9l (X:Cx) (c T bm:Addr):Prop where
 code:X.env.code=.ref c
 hd:PySem.W.codeHdIn X.K c T=true
 hbm:X.mg "__builtins__"=some (.ref bm)
 bo:∃o,X.base.get? bm=some o/\o.cls=.type "module"/\o.dict=some builtinsNs/\o.data=.plain
 b1:bm≠builtinsNs
 b2:bm≠mainGlobals
 b3:bm≠T
 b4:mainGlobals≠T
noncomputable def tLam (T:Addr) (lpos:Pos) (q:Str) (mk:Addr->Value->Value->Obj):TE:=λ_ H Q=>a3p H T lpos q/\∀c' pm ctv g H2,LamH H H2 T lpos q c' g (mk c' pm ctv)->Q (.ref g) H2
theorem a6T {X:Cx} {params:Arguments} {body:Expr} {lscope:Scope} {lpos:Pos} {c T bm:Addr} {clos:List (Str × Addr)} (M:a9l X c T bm) (hcl:closureFor lscope X.env=pure clos) (hdef:defaultsOf params X.env=([],[]):=by rfl) :
  PE X (.Lambda params body lscope lpos) (tLam T lpos (X.env.qual++"<lambda>") λc' pm ctv=>PySem.W.kla_obj "<lambda>" (X.env.qual++"<lambda>") params body lscope clos pm c' ctv):=by
 intro pins s σ H Q I h;obtain⟨tab,h⟩:=h;refine PySem.W.kla_eval hdef ?_;have hg:s.heap.Ns mainGlobals X.mg:=I.mod.glob.keeps I.bk;have C:=PySem.W.codeHd_of_K I.kIn M.hd;obtain⟨ob,lo,l1,l2,l3⟩:=M.bo;have hB:s.heap.BuiltinsAt X.mg T:=⟨bm,ob,M.hbm,M.b1,M.b2,M.b3,I.bk _ _ lo,l1,l2,l3⟩
 rcases tab with e|⟨c',e,ec⟩
 ·have hP:s.heap.get? T=some (PySem.W.tabObj #[]):=I.hok T _ e;refine PySem.W.kla_makeFunction hcl I.ok.glob hg M.code C hP trivial rfl M.b4 hB λc' ctv h' tk hx hge hlt hrec htb=>?_;have ltT:T<s.heap.objs.size:=I.hok.lt e;have gs:s.heap.objs.size<=h'.objs.size:=b6u hge (b6K hlt);have cg:c'≠h'.objs.size:=b4H hlt;have cT:c'≠T:=λz=>b5G _ (b4O ltT (z▸hge));have gT:h'.objs.size≠T:=λz=>b5G _ (b4O ltT (z▸gs));generalize eo:PySem.W.kla_obj "<lambda>" (X.env.qual++"<lambda>") params body lscope clos ((X.mg "__name__").getD .none) c' ctv=o;have hfr:o.isFreed=false:=by rw[<-eo];rfl
  let H3:Hp:=upd (upd (upd H T (.tbl (a3M lpos c'))) c' (cdA c' (X.env.qual++"<lambda>"))) h'.objs.size (exA h'.objs.size o)
  have t3:H3 T=some (.tbl (a3M lpos c')):=by
   show upd _ _ _ T=_;rw[a0m (Ne.symm gT),a0m (Ne.symm cT),a0b]
  have c3:H3 c'=some (cdA c' (X.env.qual++"<lambda>")):=by
   show upd _ _ _ c'=_;rw[a0m cg,a0b]
  have g3:H3 h'.objs.size=some (exA h'.objs.size o):=a0b;have ot:∀b,b<s.heap.objs.size->b≠T->H3 b=H b:=λb hb hT=>by
   show upd _ _ _ b=_;rw[a0m (b4H (b4O hb gs)),a0m (b4H (b4O hb hge)),a0m hT]
  have k3:∀b u,b≠T->s.heap.get? b=some u->(h'.push o).get? b=some u:=λb u hb q=>b4o _ (hx b u hb q);have un:Un X.fs [] H H3 s.heap (h'.push o):=Un.lam (more:=a3M lpos c') I.hok k3 ⟨_,b4o _ htb⟩ e (by rw[t3];simp) ot;have hk3:HOk X.prog X.w H3 (h'.push o):=HOk.lam I.hok k3 e ot λa u q hq=>by
   by_cases z1:a=T
   ·subst z1;rw[t3] at q;cases q;have:(h'.push o).get? a=some (PySem.W.tabObj (#[]++#[rawInt lpos.line,rawInt lpos.col,.ref c'])):=b4o _ htb;show(h'.push o).get? a=some _;simpa using this
   by_cases z2:a=c'
   ·subst z2;rw[c3] at q;cases q;exact cdA_ok (hrec.push _)
   by_cases z3:a=h'.objs.size
   ·subst z3;rw[g3] at q;cases q;exact a6S (b4v _ hfr)
   ·exfalso;rcases hq with y|y
    ·exact z1 y
    ·have:H3 a=H a:=by
      show upd _ _ _ a=_;rw[a0m z3,a0m z2,a0m z1]
     rw[this,I.hok.fresh y] at q;cases q
  refine⟨.ref h'.objs.size,H3,I.un (t':=tk) un hk3,rfl,h c' _ ctv h'.objs.size H3 ⟨t3,c3,by rw[g3,<-eo],λb u hb q=>by rw[ot b (I.hok.lt q) hb];exact q,I.hok.fresh gs,λc2 e2=>by
   rw[e] at e2;have h1:=HO.tbl.inj (b4N e2);have h2:=b6W Array.size h1;cases h2⟩⟩
 ·have hP:s.heap.get? T=some (PySem.W.tabObj (a3M lpos c')):=I.hok T _ e;refine PySem.W.kla_makeFunctionHit (cv:=.ref c') hcl I.ok.glob hg M.code C hP (by exact trivial) (by simp[a3M,codeAmong,rawInt]) hB λctv h' tk hk hsz=>?_;generalize eo:({ cls:=.type "function",data:=.func (PySem.W.kla_fn "<lambda>" (X.env.qual++"<lambda>") params body lscope clos ((X.mg "__name__").getD .none) (.ref c') ctv) }:Obj)=o;have hfr:o.isFreed=false:=by rw[<-eo];rfl
  have ltc:c'<s.heap.objs.size:=I.hok.lt ec;have ltT:T<s.heap.objs.size:=I.hok.lt e;refine⟨.ref h'.objs.size,upd H h'.objs.size (exA h'.objs.size o),I.laid (t':=tk) (λb u q=>b4o _ (hk b u q)) hsz (a6S (b4v _ hfr)),rfl,h c' _ ctv h'.objs.size _ ⟨?_,?_,by rw[a0b,<-eo],λb u hb q=>?_,I.hok.fresh hsz,λc2 e2=>?_⟩⟩
  ·rw[a0m (b4H (b4O ltT hsz))];exact e
  ·rw[a0m (b4H (b4O ltc hsz))];exact ec
  ·rw[a0m (b4H (b4O (I.hok.lt q) hsz))];exact q
  ·rw[e] at e2;exact(b3m (HO.tbl.inj (b4N e2))).symm
noncomputable def trk' (as:List Addr) (os:Addr->Obj) (H:Hp):Hp:=λb=>if b∈as then some (exA b (os b)) else H b
theorem a6U {as:List Addr} {os:Addr->Obj} {H:Hp} {b:Addr} (h:b∈as):trk' as os H b=some (exA b (os b)):=if_pos h
theorem a0S {as:List Addr} {os:Addr->Obj} {H:Hp} {b:Addr} (h:b∉as):trk' as os H b=H b:=if_neg h
section
variable {P:Program} {w:World} {H H3:Hp} {h h':Heap} {as:List Addr} {os:Addr->Obj} {fs ex:List Addr}
theorem HOk.trk (x:HOk P w H h) (n:∀c∈as,H c=none) (g:∀c∈as,h.get? c=some (os c)):HOk P w (trk' as os H) h:=λa o q=>by
 by_cases z:a∈as
 ·rw[a6U z] at q;cases q;exact a6S (g a z)
 ·rw[a0S z] at q;have no:∀{b:Addr} {y:HO},H b=some y->b∉as:=λ{b y} r k=>by rw[n b k] at r;cases r
  exact(x a o q).stay (λb u _ r=>r) (λb r=>by rw[a0S (no r)];exact r) λb xs r=>by rw[a0S (no r)];exact r
theorem Un.untrk (u:Un fs ex (trk' as os H) H3 h h') (n:∀c∈as,H c=none) (g:∀c∈as,h.get? c=some (os c)) (g3:∀c∈as,h'.get? c=some (os c)):Un fs ex H (unt as H3) h h':=by
 have no:∀{b:Addr} {y:HO},H b=some y->b∉as:=λ{b y} r k=>by rw[n b k] at r;cases r
 refine⟨λb o q nb hb hx=>?_,λb o q nb hb hx=>?_,λb o q nb hx=>?_,λb o q hx=>?_,λb xs q=>?_,λb o u' q=>?_,λb ps q=>?_⟩
 ·by_cases z:b∈as
  ·rw[g b z] at q;cases q;exact g3 b z
  ·exact u.keep b o q (by rw[a0S z];exact nb) hb hx
 ·by_cases z:b∈as
  ·rw[g b z] at q;cases q;exact⟨_,g3 b z⟩
  ·exact u.slot b o q (by rw[a0S z];exact nb) hb hx
 ·by_cases z:b∈as
  ·exact a3n z
  ·rw[a0A z];exact u.free b o q (by rw[a0S z];exact nb) hx
 ·by_cases z:b∈as
  ·exact⟨_,g3 b z⟩
  ·exact u.there b o q hx
 ·rw[a0A (no q)];exact u.tups b xs (by rw[a0S (no q)];exact q)
 ·rw[a0A (no q)];exact u.frzs b o u' (by rw[a0S (no q)];exact q)
 ·rw[a0A (no q)];exact u.tbls b ps (by rw[a0S (no q)];exact q)
end
structure a3q (X:Cx) (cl:List (Str × Addr)):Prop where
 at':∀q∈cl,X.env.cells.lookup q.1=some q.2
 fn:∀q∈cl,X.fn q.1=true
 ki:∀q∈cl,X.env.scope.names.lookup q.1=some .cell
theorem Fun.okC {P:Program} {w:World} {K:PySem.W.Frag} {mg:Str->Option Value} {base:Heap} {x qual:Str} {st:Stmt} {f:Addr} {fd:FuncData} {N ps:List Str} {k:Nat} {sp:Sp} (F:Fun K x qual st f fd) (S:a0t N ps (a0f st)) (len:∀vs H Q E,sp vs H Q E->vs.length=ps.length)
  (hbody:∀(A:Around) (outer:List Env) (s:Shared) (H:Hp) (vs:List V) (Q:VK) (E:XK),a2h k (A.deeper (envOfC qual (a0f st) s.heap.objs.size f fd.code))->sp vs H Q E ->
   ∃t,PSs (a5G CX0 P w K mg base N qual (a0f st) f fd.code A outer s H E).nox (a0O st) t/\t { nx:=λ_ H'=>Q .non H',rt:=Q } (start N vs) H):a1x P w K mg base CX0 (k+1) f fd ps sp:=by
 obtain⟨oc,od,kV,doc,pm,an,cdv,ct,osl,rfl,lk,hcd⟩:=F.ex;refine fn_of lk hcd S len λA outer s H vs Q E hr hsp=>?_;obtain⟨t,h,q⟩:=hbody A outer s H vs Q E hr hsp;exact⟨t,h.nox,q⟩
structure BMod (mg:Str->Option Value) (base:Heap) (ts:List Addr) (bm:Addr):Prop where
 hbm:mg "__builtins__"=some (.ref bm)
 bo:∃o,base.get? bm=some o/\o.cls=.type "module"/\o.dict=some builtinsNs/\o.data=.plain
 b1:bm≠builtinsNs
 b2:bm≠mainGlobals
 b3:∀T∈ts,bm≠T
 b4:∀T∈ts,mainGlobals≠T
theorem a9m {P:Program} {w:World} {K:PySem.W.Frag} {mg mb:Str->Option Value} {CX:CXT} {k:Nat} {fa a:Addr} {fd:FuncData} {x:Str} {sp:Sp} {s₁:Shared} {vs:List Value} {ns:List Int} {ts:List Addr}
  (KX:K.In s₁.heap) (hns:s₁.heap.Ns mainGlobals mg) (hb:s₁.heap.Ns builtinsNs mb) (hbb:∀x:Str,x≠"__name__"->mb x=bootBuiltins x) (hlim:s₁.heap.NoLimit) (hg:s₁.gens=#[])
  (ha:s₁.heap.get? a=some { cls:=.type "list",data:=.seq vs.toArray }) (hi:IntsAre vs ns) (hl:ns.length<=sizeLine) (hr:a2h k callerA)
  (ht:∀T∈ts,s₁.heap.get? T=some (PySem.W.tabObj #[])/\(∃c,PySem.W.CodeHd s₁.heap c T)/\K.lookup T=none)
  (hbm:∃bm ob,mg "__builtins__"=some (.ref bm)/\bm≠builtinsNs/\s₁.heap.get? bm=some ob/\ob.cls=.type "module"/\ob.dict=some builtinsNs/\ob.data=.plain)
  (F:∀base:Heap,K.In base->base.Ns mainGlobals mg->(∃bm,BMod mg base ts bm)->a1x P w K mg base CX k fa fd [x] sp) (hbind:∀(s:Shared) (u:Value),BindsTo s fd ⟨[u],[]⟩ [(x,u)])
  (hsp:∀H:Hp,(∀T∈ts,H T=some (.tbl #[]))->SqL K H a (ns.map V.int)->sp [.ref a] H (λv _=>v=.bl true) λ_ _ _=>False)
  (hCX:∀H e s',CX [] H s₁ (λ_ _ _=>False) e s'->False) :
  codeAny (model P w) callerA (.call (.ref fa) ⟨[.ref a],[]⟩) (λr s'=>r=.ok (.ret (.bool true))/\OldK s₁.heap s'.heap/\s'.os=s₁.os/\AllBare s'.gens) s₁:=by
 have rv:=a5f hi;have lenV:=hi.length;have core:∀H:Hp,(∀b,H b=none\/(∃o xs,H b=some (.frz o (.lst xs))/\b=a)\/(H b=some (.tbl #[])/\b∈ts))->(∀T∈ts,H T=some (.tbl #[]))->SqL K H a (ns.map V.int)->HOk P w H s₁.heap->(∀b,H b≠none->K.lookup b=none) ->
   codeAny (model P w) callerA (.call (.ref fa) ⟨[.ref a],[]⟩) (λr s'=>r=.ok (.ret (.bool true))/\OldK s₁.heap s'.heap/\s'.os=s₁.os/\AllBare s'.gens) s₁:=by
  intro H hO hT hS hok hK;have base_of:∀{b:Addr} {o:Obj},s₁.heap.get? b=some o->H b=none->(b0C s₁.heap H).get? b=some o:=λe n=>b0G e n;have noA:∀{b:Addr} {o:Obj} {es:Array DictEntry} {ep:Nat},s₁.heap.get? b=some o->o.data=.dict es ep->H b=none:=λ{b o es ep} e d=>by
   rcases hO b with z|⟨_,_,_,rfl⟩|⟨_,hb'⟩
   ·exact z
   ·rw[ha] at e;cases e;have d':Data.seq vs.toArray _=Data.dict es ep:=d;cases d'
   ·rw[(ht b hb').1] at e;cases e;have d':Data.fields #[]=Data.dict es ep:=d;cases d'
  have nsK:∀{b:Addr} {m:Str->Option Value},s₁.heap.Ns b m->(b0C s₁.heap H).Ns b m:=λ{b m} ⟨o,es,ep,e,d,r⟩=>⟨o,es,ep,base_of e (noA e d),d,r⟩
  have hKb:K.In (b0C s₁.heap H):=λb o e=>base_of (KX b o e) (by
   cases q:H b with
   | none=>rfl
   | some u =>
    rw[hK b (by rw[q];simp)] at e;cases e)
  have hM:Mod K mg (b0C s₁.heap H):=⟨hKb,nsK hns,⟨mb,nsK hb,hbb⟩,let ⟨mc,h1,h2⟩:=hlim;⟨mc,nsK h1,h2⟩⟩
  have e0:a8I P w K mg (b0C s₁.heap H) callerA [] s₁ H:=⟨rfl,hM,λb o e=>b2F e,Nat.le_of_eq (a8r _ _),trivial,λb hb=>absurd (show b∈([]:List Addr) from hb) (by simp),hok,.of_eq hg⟩
  have hBM:∃bm,BMod mg (b0C s₁.heap H) ts bm:=by
   obtain⟨bm,ob,h1,h2,h3,h4,h5,h6⟩:=hbm;have n1:bm≠a:=λz=>by
    rw[z,ha] at h3;cases h3;have h4:Value.type "list"=Value.type "module":=h4;injection h4 with e;exact absurd e (by decide)
   have n2:∀T∈ts,bm≠T:=λT hT' z=>by
    rw[z,(ht T hT').1] at h3;cases h3;cases h6
   have ng:∀{o:Obj},s₁.heap.get? mainGlobals=some o->∃es ep,o.data=.dict es ep:=λ{o} e=>by
    obtain⟨o',es,ep,e',d,_⟩:=hns;rw[e'] at e;cases e;exact⟨es,ep,d⟩
   refine⟨bm,h1,⟨ob,base_of h3 ?_,h4,h5,h6⟩,h2,λz=>?_,n2,λT hT' z=>?_⟩
   ·rcases hO bm with z|⟨_,_,_,z⟩|⟨_,z⟩
    ·exact z
    ·exact absurd z n1
    ·exact absurd rfl (n2 bm z)
   ·rw[z] at h3;obtain⟨es,ep,d⟩:=ng h3;rw[d] at h6;cases h6
   ·have:=(ht T hT').1;rw[<-z] at this;obtain⟨es,ep,d⟩:=ng this;cases d
  refine b6T ((F _ hKb (nsK hns) hBM).run callerA [] s₁ H ⟨[.ref a],[]⟩ [.ref a] [.ref a] _ _ hr e0 (hbind s₁ (.ref a)) (.cons rfl .nil) (hsp H hT hS)) λr s' h=>?_;cases r with
  | error e=>exact(hCX H e s' h).elim
  | ok fl =>
   cases fl with
   | next=>exact False.elim h
   | brk=>exact False.elim h
   | cont=>exact False.elim h
   | ret u =>
    obtain⟨v,H',os,bare,un,hok',r',q⟩:=h;have q':v=.bl true:=q;subst q';obtain rfl:u=Value.bool true:=r';refine⟨rfl,⟨λb o e=>?_,λb o e=>un.there b o e (by simp)⟩,os,bare⟩;rcases hO b with z|⟨ob,xs,z,_⟩|⟨z,hb'⟩
    ·exact .inl (un.keep b o e z (by intro z;exact absurd (show b∈([]:List Addr) from z) (by simp)) (by simp))
    ·have z2:=un.frzs b ob _ z;obtain⟨e1,_⟩:=hok b _ z;obtain⟨e2,_⟩:=hok' b _ z2;rw[e] at e1;cases e1;exact .inl e2
    ·obtain⟨more,z2⟩:=un.tbls b _ z;have e1:s₁.heap.get? b=some (PySem.W.tabObj #[]):=(ht b hb').1;have e2:s'.heap.get? b=some { cls:=.none,data:=.fields (#[]++more) }:=hok' b _ z2;rw[e1] at e;cases e;obtain⟨c,C⟩:=(ht b hb').2.1;exact .inr (.inl ⟨(C.tab e1).isCodeTable,rfl,#[],more,rfl,e2⟩)
 have neA:∀T∈ts,T≠a:=λT hT z=>by
  have e:=(ht T hT).1;rw[z,ha] at e;cases e
 have tOk:∀{H:Hp} {T:Addr},T∈ts->a0B P w H s₁.heap T (.tbl #[]):=λ{H T} hT=>(ht T hT).1;cases hk:K.lookup a with
 | some o =>
  have e:=KX a o hk;rw[ha] at e;cases e;refine core (λb=>if b∈ts then some (.tbl #[]) else none) (λb=>?_) (λT hT=>if_pos hT) (.inr ⟨_,vs.toArray,_,hk,rfl,rfl,rfl,by rw[b4y,lenV];exact hl,by simpa using rv⟩) (λb u z=>?_) λb z=>?_
  ·by_cases y:b∈ts
   ·exact .inr (.inr ⟨if_pos y,y⟩)
   ·exact .inl (if_neg y)
  ·by_cases y:b∈ts
   ·have z':=(if_pos y).symm.trans z;cases z';exact tOk y
   ·have z':=(if_neg y).symm.trans z;cases z'
  ·by_cases y:b∈ts
   ·exact(ht b y).2.2
   ·exact absurd (if_neg y) z
 | none =>
  refine core (λb=>if b∈ts then some (.tbl #[]) else if b=a then some (.frz { cls:=.type "list",data:=.seq vs.toArray } (.lst (ns.map V.int))) else none) (λb=>?_) (λT hT=>if_pos hT) (.inl (.inr ⟨{ cls:=.type "list",data:=.seq vs.toArray },?_⟩)) (λb u z=>?_) λb z=>?_
  ·by_cases y:b∈ts
   ·exact .inr (.inr ⟨if_pos y,y⟩)
   ·by_cases hb':b=a
    ·exact .inr (.inl ⟨_,_,(if_neg y).trans (if_pos hb'),hb'⟩)
    ·exact .inl ((if_neg y).trans (if_neg hb'))
  ·exact(if_neg λy=>neA a y rfl).trans (if_pos rfl)
  ·by_cases y:b∈ts
   ·have z':=(if_pos y).symm.trans z;cases z';exact tOk y
   ·by_cases hb':b=a
    ·have z':=((if_neg y).trans (if_pos hb')).symm.trans z;cases z';subst hb';exact⟨ha,by rw[b4p];exact hl,vs,_,rv,ha⟩
    ·have z':=((if_neg y).trans (if_neg hb')).symm.trans z;cases z'
  ·by_cases y:b∈ts
   ·exact(ht b y).2.2
   ·by_cases hb':b=a
    ·rw[hb'];exact hk
    ·exact absurd ((if_neg y).trans (if_neg hb')) z
theorem b1c {l:PySem.W.OpenLaw} {n k:Nat} {q:Program} {loose:List Str} {XP:(Str->Option Value)->Heap->Prop} {YP:World->Heap->Prop} {d:DefRec} {K:Params->PySem.W.Frag} {CX:World->CXT} {sp:World->Sp} {x:Str} {ts:List Addr}
  (hn:l.most=some n) (hn2:n<=sizeLine) (hdf:d.params.defaults=[]) (hr:a2h k callerA)
  (hY:∀(w:World) (h:Heap),YP w h->(K w.params).In h/\∀T∈ts,h.get? T=some (PySem.W.tabObj #[]))
  (hT:∀(w:World),∀T∈ts,(∃c,PySem.W.codeHdIn (K w.params) c T=true)/\(K w.params).lookup T=none)
  (F:∀(w:World) (mg:Str->Option Value) (fa:Addr) (h:Heap),(K w.params).In h->h.Ns mainGlobals mg->mg d.name=some (.ref fa) ->
   ∃fd:FuncData,(∀(s:Shared) (u:Value),BindsTo s fd ⟨[u],[]⟩ [(x,u)]) /\
    ∀base:Heap,(K w.params).In base->base.Ns mainGlobals mg->(∃bm,BMod mg base ts bm)->a1x l.prog w (K w.params) mg base (CX w) k fa fd [x] (sp w))
  (hsp:∀(w:World) (H:Hp) (a:Addr) (ns:List Int),ns.length<=n->(∀T∈ts,H T=some (.tbl #[]))->SqL (K w.params) H a (ns.map V.int)->sp w [.ref a] H (λv _=>v=.bl true) λ_ _ _=>False)
  (hCX:∀(w:World) (H:Hp) (s:Shared) (e:Value) (s':Shared),CX w [] H s (λ_ _ _=>False) e s'->False) :
  PySem.W.WalkO q loose XP YP l.row.toRowW d [] (λf vs=>PySem.call f vs):=by
 refine Att.a5M hn hdf λw s₀ s₁ mg mb fa o pm cd doc a vs ns G Y ho hd hcd hmg hobj hints hlen hg=>?_;obtain⟨KX,KT⟩:=hY w _ Y;obtain⟨fd,hb,hF⟩:=F w mg fa _ KX G.T.g hmg;exact a9m KX G.T.g G.T.b G.T.builtins G.T.nolimit hg hobj hints (b6u hlen hn2) hr (λT hT'=>⟨KT T hT',(let ⟨c,e⟩:=(hT w T hT').1;⟨c,PySem.W.codeHd_of_K KX e⟩),(hT w T hT').2⟩) G.T.bmain hF hb (λH hO hS=>hsp w H a ns hlen hO hS) λH e s'=>hCX w H s₁ e s'
end L2
namespace L2
open PySem PySem.Spec PyProof.Rows PySem.W
noncomputable def b3n (m:Nat):List Nat:=(List.range 8).filter λi=>m.testBit i
structure SmT (b:Bool) (m:Nat) (t:SetTable):Prop where
 lt:m<256
 place:t.place=(b3n m).toArray
 dum:t.dummies=#[]
 plain:t.plain=true
 led:t.led=!b
 mask:t.mask=7/\(b3n m).length<5\/t.mask=31
structure SmE (m:Nat) (es:Array (Int × Value)):Prop where
 vals:es.toList.map (·.1)=(b3n m).map Int.ofNat
 int:∀e∈es.toList,∃tk,e.2=.int e.1 tk
section
variable {prog:Program} {w:World} {A:Around} {E:Value->Shared->Prop} {s:Shared} {b:Bool}
noncomputable def SmAt (b:Bool) (m:Nat) (h:Heap) (a:Addr):Prop:=∃o es ep t,h.get? a=some o/\o.ExactSet/\o.data=.set es ep t/\SmT b m t/\SmE m es
end
section
variable {prog:Program} {w:World} {A:Around} {E:Value->Shared->Prop} {s:Shared} {b:Bool} {m ep:Nat} {es:Array (Int × Value)} {t:SetTable} {a it:Addr}
end
noncomputable def SetO (w:World) (a:Addr) (m:Nat):HO:=.ext λh=>SmAt (w.params.followText "set-order") m h a
end L2
namespace HT
open PySem PySem.Spec PyProof.Rows
section
open PySem.SeqAt
open PySem.AutoSeq1 (wpAny_loadPart')
open PySem.MeetsSeq PySem.MeetsSeq2 PySem.MeetsSeq3
theorem a4t (l b:Addr) (items items2:Array Value) (n n2:Nat) (dd dd2:Option Addr) (sl sl2:Array (Option Value)) (p q:Int × List Int) (t t2:Tok) (u u2:Value) (hi:items.toList=[.int p.1 t,u]) (hj:items2.toList=[.int q.1 t2,u2]) :
  Meets (Builtin.«tuple.__lt__» ⟨[.ref l,.ref b],[]⟩)
   (λA R s=>s.heap.get? l=some { cls:=.type "tuple",dict:=dd,data:=.seq items n,slots:=sl }/\s.heap.get? b=some { cls:=.type "tuple",dict:=dd2,data:=.seq items2 n2,slots:=sl2 }/\L2.a4k s.heap u p.2/\L2.a4k s.heap u2 q.2/\A.units+2<cLine /\
    R (.ok (.ret (.bool (L2.a3H p q)))) s) :=
 .of_wp λprog w A R s h=>by
  obtain⟨hp,g,d,tk,os⟩:=s;obtain⟨hl,hb,tu,tu2,hA,h⟩:=h;have f2:=AutoSeq1.sub_tuple_tuple;have z1:items.size=2:=by rw[<-b4x,hi];rfl
  have z2:items2.size=2:=by rw[<-b4x,hj];rfl
  wp_walk using b7O hl,b7O hb,b7z _ (λrest b s'=>b.1=none/\s'=⟨hp,g,d,tk,os⟩/\(rest=[(.int p.1 t,.int q.1 t2),(u,u2)]\/(rest=[(u,u2)]/\p.1=q.1)\/(rest=[]/\p.1=q.1/\p.2=q.2))) _
  case turn =>
   rintro⟨y,x⟩ rest b s' ⟨hb',rfl,hz|⟨hz,e1⟩|⟨hz,_⟩⟩
   ·injection hz with hyx hrest;injection hyx with hy hx;subst hy hx;obtain⟨e,he,hiff⟩:=a6B A.in1 ⟨hp,g,d,tk,os⟩ p.1 t q.1 t2;refine b4n (he prog w _ _ ?_);cases e with
    | true =>
     wp_walk
     exact⟨rfl,rfl,.inr (.inl ⟨hrest,hiff.mp rfl⟩)⟩
    | false =>
     have ne:¬p.1=q.1:=λz=>absurd (hiff.mpr z) b4R;have hri:=a6C A.in1 ⟨hp,g,d,tk,os⟩ p.1 t q.1 t2 prog w;unfold L2.a3H at h;rw[if_neg ne] at h
     wp_walk using hri
     exact⟨_,rfl,by simpa using h⟩
   ·injection hz with hyx hrest;injection hyx with hy hx;subst hy hx;have he:=L2.a9i (A:=A.in1) (s:=⟨hp,g,d,tk,os⟩) tu tu2 (by show A.units+1+1<cLine;omega);refine b4n (he prog w _ _ ?_);by_cases e2:p.2=q.2
    ·rw[b4W e2]
     wp_walk
     exact⟨rfl,rfl,.inr (.inr ⟨hrest,e1,e2⟩)⟩
    ·rw[b5s e2];unfold L2.a3H at h;rw[if_pos e1] at h;have hri:∀(E:Value->Shared->Prop) (Q:Value->Shared->Prop),Q (.bool (HT.a0I p.2 q.2)) ⟨hp,g,d,tk,os⟩->wpAny (model prog w) A.in1 (richCompare .Lt y x) Q E ⟨hp,g,d,tk,os⟩:=λE Q hq=>by
      obtain⟨c,its,rfl,ht,hh⟩:=tu;obtain⟨c2,its2,rfl,ht2,hh2⟩:=tu2;exact HT.a3N ht ht2 hh hh2 (by show A.units+1<cLine;omega) hq
     wp_walk using hri
     exact⟨_,rfl,by simpa using h⟩
   ·cases hz
  case fin =>
   rintro⟨b1,b2⟩ s' ⟨hb',rfl,hz|⟨hz,e1⟩|⟨hz,e1,e2⟩⟩
   ·cases hz
   ·cases hz
   ·simp only at hb';subst hb';have e:p=q:=b8I e1 e2;subst e;rw[L2.a2P] at h
    wp_walk
    refine⟨_,rfl,?_⟩;have:Builtin.Tuple.tupleCompareSizes .Lt items.size items2.size=.bool (false):=by rw[z1,z2];rfl
    rw[this];exact h
  case h =>
   refine⟨rfl,rfl,.inl ?_⟩;rw[hi,hj];rfl
end
end HT
namespace L2
open PySem PySem.Spec PyProof.Rows
section
variable {prog:Program} {w:World} {A:Around} {E:Value->Shared->Prop} {s:Shared}
theorem b1d {x y:Value} {p q:Int × List Int} {Q:Value->Shared->Prop} (hx:PrN s.heap x p) (hy:PrN s.heap y q) (hu:A.units+4<cLine) (h:Q (.bool (a3H p q)) s):wpAny (model prog w) A (compareOp .Lt x y) Q E s:=by
 obtain⟨l,items,t,u,rfl,hl,hi,tu⟩:=hx;obtain⟨b,items2,t2,u2,rfl,hb,hj,tu2⟩:=hy;obtain⟨⟨cls,dd,data,sl⟩,ho,hc,n,hd⟩:=id hl;obtain⟨⟨cls2,dd2,data2,sl2⟩,ho2,hc2,n2,hd2⟩:=id hb;simp only at hc hd hc2 hd2;subst hc hd hc2 hd2;exact richCompare_meets_room (op:=.Lt) ⟨_,ho,rfl⟩ ⟨_,ho2,rfl⟩ PySem.F.slot_tuple_lt PySem.F.entry_tuple_lt (PySem.F.args_tuple_lt_2 _ _) (HT.a4t l b items items2 n n2 dd dd2 sl sl2 p q t t2 u u2 hi hj)
  ⟨ho,ho2,tu,tu2,(by show A.units+2<cLine;omega),show Value.bool (a3H p q)≠Value.notImplemented/\Q (.bool (a3H p q)) s from⟨(λx=>nomatch x),h⟩⟩ (by omega)
end
noncomputable def rNePw:R2:=λx y H Q=>∃p q,RPw H x p/\RPw H y q/\Q (.bl (!decide (p=q))) H
section
variable {X:Cx} {k:Nat} {Rg:Addr->List V->Hp->VK->Prop} {pins:List (Addr × Obj)} {σ:St} {H:Hp} {a g I S:Addr} {xs:List V} {ks:Nat->List Int} {R:Result->Shared->Prop} {Q:VK}
abbrev btK (ks:Nat->List Int):Nat->Nat->Bool:=λi j=>HT.a0I (ks i) (ks j)
abbrev kwK (g:Value):List (Str × Value):=[(Str.ofString "key",g)]
theorem a9n (a d:Value):argsOk "min" { pos:=[a],kw:=kwK d }:=rfl
noncomputable def rMinK (Rg:Addr->List V->Hp->VK->Prop) (vs zs:List V) (H:Hp) (Q:VK):Prop:=∃(a g:Addr) (xs:List V) (ks:Nat->List Int),vs=[.ref a]/\zs=[.ref g]/\H a=some (.lst xs)/\0<xs.length /\
 (∀i x H1 Q1,xs[i]?=some x->a0r H H1->(∀t H2,a0r H1 H2->H2 t=some (.tup ((ks i).map V.int))->Q1 (.ref t) H2)->Rg g [x] H1 Q1)/\∀x H',xs[argBest (btK ks) (xs.length-1)]?=some x->a0r H H'->Q x H'
end
end L2
namespace L2
open PySem PySem.Spec PyProof.Rows PySem.W
theorem a3S (u v:List Int) (h:HT.a0I u v=true):HT.a0I v u=false:=by
 cases e:HT.a0I v u with
 | false=>rfl
 | true=>have z:=a2O _ _ _ h e;rw[a2m] at z;cases z
theorem a9o (u v w:List Int) (h1:HT.a0I v u=false) (h2:HT.a0I w v=false):HT.a0I w u=false:=by
 by_cases z1:v=u
 ·rw[<-z1];exact h2
 ·by_cases z2:w=v
  ·rw[z2];exact h1
  ·exact a3S _ _ (a2O _ _ _ (a1S _ _ z1 h1) (a1S _ _ z2 h2))
section
variable {prog:Program} {w:World} {A:Around} {E:Value->Shared->Prop} {s:Shared}
end
structure a7X (X:Cx) (σ:St) (Rg:Addr->List V->Hp->VK->Prop):Prop where
 run:∀(pins:List (Addr × Obj)) (H:Hp) (s:Shared) (g:Addr) (us:List Value) (vs:List V) (Q:VK),Inv X pins σ H s->a0C vs us->Rg g vs H Q->codeAny (model X.prog X.w) X.A.in1.in1 (.call (.ref g) ⟨us,[]⟩) (CR CX0 X.stack X.prog X.w H s Q E0) s
theorem a7X.of {X:Cx} {σ:St} {k:Nat} {R:Addr->List V->Hp->VK->Prop} (L:a6b X.prog X.w X.K X.mg X.base k R) (hr:a2h (k+2) X.A):a7X X σ R :=
 ⟨λ_ H s g us vs Q I r q=>L.run X.A.in1.in1 X.stack s H g us vs Q hr.in1.in1 I.env0.in1.in1 r q⟩
noncomputable def RgC (X:Cx) (cl:List (Str × Addr)) (R:Addr->List V->Hp->VK->Prop) (σ:St):Addr->List V->Hp->VK->Prop:=λg vs H1 Q=>∀os:Addr->Obj,(∀(j i:Nat) (n:Str) (c:Addr) (v:V),cl[j]?=some (n,c)->X.N[i]?=some n->σ[i]?=some (some v)->∃u,(os c).data=.cell (some u)/\a0T v u)->(∀c∈cl.map (·.2),H1 c=none) ->
 R g vs (trk' (cl.map (·.2)) os H1) (λv H3=>(∀c∈cl.map (·.2),H3 c=some (exA c (os c)))/\Q v (unt (cl.map (·.2)) H3))
theorem a7X.cells {X:Cx} {σ:St} {k:Nat} {cl:List (Str × Addr)} {R:Addr->List V->Hp->VK->Prop} (L:a6b X.prog X.w X.K X.mg X.base k R) (hr:a2h (k+2) X.A) (hc:a3q X cl):a7X X σ (RgC X cl R σ):=⟨λpins H1 s1 g us vs Q I1 r q=>by
 have mem:∀c∈cl.map (·.2),∃n,(n,c)∈cl:=λc hc=>by
  obtain⟨⟨n,c'⟩,h1,rfl⟩:=b4F.mp hc;exact⟨n,h1⟩
 let os:Addr->Obj:=λc=>(s1.heap.get? c).getD ⟨.none,none,.plain,#[]⟩
 have gg:∀c∈cl.map (·.2),s1.heap.get? c=some (os c):=λc hc'=>by
  obtain⟨n,hn⟩:=mem c hc';obtain⟨v,o,ho,_⟩:=I1.cell n c (hc.at' _ hn);show _=some ((s1.heap.get? c).getD _);rw[ho];rfl
 have nn:∀c∈cl.map (·.2),H1 c=none:=λc hc'=>by
  obtain⟨n,hn⟩:=mem c hc';exact I1.freeC n c (hc.at' _ hn)
 have above:∀c∈cl.map (·.2),X.s₀.heap.objs.size<=c:=λc hc'=>by
  obtain⟨n,hn⟩:=mem c hc';exact I1.ok.cab n c (hc.fn _ hn) (hc.at' _ hn)
 have hq:=q os (λj i n c v h1 h2 h3=>by
  have hmem:=b4B h1;obtain⟨m,hn,hl⟩:=I1.loc;obtain⟨u,rv,l⟩:=hl i n v h2 h3 (.inr (.inl (hc.ki _ hmem)));refine⟨u,?_,rv⟩;rcases l with ⟨hk',_⟩|⟨_,c0,e0,o,ho,hd⟩
  ·have z:some NameKind.cell=some .local:=(hc.ki _ hmem).symm.trans hk';cases z
  ·have ec:some c0=some c:=e0.symm.trans (hc.at' _ hmem);cases ec;have:os c=o:=by
    show(s1.heap.get? c).getD _=o;rw[ho];rfl
   rw[this];exact hd) nn
 have e0:=I1.env0;have e1:a8I X.prog X.w X.K X.mg X.base X.A X.stack s1 (trk' (cl.map (·.2)) os H1):=⟨e0.frames,e0.mod,λb o hb'=>⟨(e0.bs b o hb').1,by
  rw[a0S λz=>b5G _ (b4O (b4w hb') (b6u I1.ok.bsz (above b z)))];exact(e0.bs b o hb').2⟩,e0.bsz,e0.funs,λb hb'=>by
  rw[a0S λz=>?_]
  ·exact e0.frf b hb'
  ·obtain⟨n,hn⟩:=mem b z;rcases b4K.mp (I1.stkSub b hb') with y|y
   ·exact I1.cne n b (hc.at' _ hn) y
   ·obtain⟨_,o,ho,_⟩:=I1.ok.funs.mem y;exact b5G _ (b4O (b4w ho) (above b z)),e0.hok.trk nn gg,e0.bare⟩
 refine b6T (L.run X.A.in1.in1 X.stack s1 _ g us vs _ hr.in1.in1 e1.in1.in1 r hq) λr s' hq'=>?_;cases r with
 | error e=>exact False.elim hq'
 | ok fl =>
  cases fl with
  | ret u =>
   obtain⟨v,H3,os',bare,un,hok3,rv,q3,q4⟩:=hq';have g3:∀c∈cl.map (·.2),s'.heap.get? c=some (os c):=λc hc'=>(hok3 c _ (q3 c hc')).1;exact⟨v,unt (cl.map (·.2)) H3,os',bare,un.untrk nn gg g3,hok3.unt λa ha=>⟨_,q3 a ha⟩,rv,q4⟩
  | next=>exact False.elim hq'
  | brk=>exact False.elim hq'
  | cont=>exact False.elim hq'⟩
section
variable {X:Cx} {k:Nat} {Rg:Addr->List V->Hp->VK->Prop} {pins:List (Addr × Obj)} {σ:St} {H:Hp} {a g kS:Addr} {xs:List V} {ks:Nat->List Int} {s:Shared} {P:PySem.Fin->Shared->Prop} {E:Value->Shared->Prop}
theorem a9p {ks:Nat->List Int} {n i:Nat} (h:i<n):((List.range n).map ks).getD i []=ks i:=by
 rw[b4t,b4C,b8i h];rfl
end
theorem Inv.adopt {X:Cx} {pins:List (Addr × Obj)} {σ:St} {H:Hp} {s:Shared} {l:Addr} {o:HO} (I:Inv X pins σ H s) (f:a2w X pins H l) (new:a0B X.prog X.w (upd H l o) s.heap l o):Inv X pins σ (upd H l o) s:=by
 have hok:HOk X.prog X.w (upd H l o) s.heap:=λb u e=>by
  by_cases hb:b=l
  ·subst hb;rw[a0b] at e;cases e;exact new
  ·rw[a0m hb] at e;exact(I.hok b u e).stay (λc v _ q=>q) (λc q=>by rw[a0m (a0D q f.1)];exact q) λc xs q=>by rw[a0m (a0D q f.1)];exact q
 exact I.step (g':=s.gens) (t':=s.toks) (d':=s.drawn) (h':=s.heap) (ch:=[l]) (λb hb=>by rw[b4s.mp hb];exact⟨f.2.2.2.1,f.2.1,f.2.2.2.2.1,f.2.2.2.2.2⟩)
  (λb o _ _ _ e _=>e) (λb o _ _ _ e _=>⟨o.slots,e⟩) (λb u hb e n=>by rw[a0m (λz=>hb (by simp[z]))];exact n) (λb u _ e=>⟨u,e⟩)
  (λb xs e=>by rw[a0m (a0D e f.1)];exact e) (λb u xs e=>by rw[a0m (a0D e f.1)];exact e) (λb ps e=>⟨#[],by rw[a0m (a0D e f.1),e];simp⟩) (λm h=>h) hok I.bare
section
variable {prog:Program} {w:World} {A:Around} {E:Value->Shared->Prop} {s:Shared}
theorem a4u {R:List Value->Shared->Prop} {r:Addr} {a b c:Int} {t u v:Tok} {n:Nat} (hh:A.handled=none) (hr:IsRange s.heap r a b c t u v) (hsmall:Builtin.Range.small a b c=true)
  (hn:Builtin.Range.rangeSize a b c=n) (hlen:n<=2 ^ 24)
  (h:∀(h':Heap) (tk:Nat) (acc:Array Value),(∀b o,s.heap.get? b=some o->h'.get? b=some o)->ItemsOf (λi v=>∃t,v=.int (a+i*c) t) acc n->R acc.toList { s with heap:=h',toks:=tk }) :
  wpAny (model prog w) A (collect (.ref r)) R E s:=by
 unfold collect;refine b4n (b9I (b5p entry_proto_collect' ?_));rw[b4S b9s _];show wpAny _ A.in1 (newList [] >>= λl=>again (.builtin "list.__iadd__" ⟨[l,.ref r],[]⟩)) _ _ s;refine b4n (b5o ?_);refine b4r ⟨b5B b7w _,b5p entry_list_iadd' ?_⟩;rw[b4S b7w _];have hS₁:(s.heap.push { cls:=.type "list",data:=.seq ([]:List Value).toArray }).get? s.heap.objs.size=some { cls:=.type "list",data:=.seq #[] }:=b4v _ rfl;show wpAny _ A.in1 (Builtin.List.listExtendWith (.ref s.heap.objs.size) (.ref r) (.ref s.heap.objs.size)) _ _ _;have key:=wpAny_extend_range (prog:=prog) (w:=w) (A:=A) (s:={ s with heap:=s.heap.push { cls:=.type "list",data:=.seq ([]:List Value).toArray } })
  (R:=λ(q:Result) (s':Shared)=>∃(h':Heap) (tk:Nat) (acc':Array Value) (c':Nat),q=.ok (.ret (.ref s.heap.objs.size))/\s'={ s with heap:=h',toks:=tk } /\
   (∀b o,s.heap.get? b=some o->h'.get? b=some o)/\h'.get? s.heap.objs.size=some { cls:=.type "list",dict:=none,data:=.seq acc' c',slots:=#[] }/\ItemsOf (λi v=>∃t,v=.int (a+i*c) t) acc' n)
  hh (show IsRange _ r a b c t u v from b4o _ hr) hsmall hn hlen s.heap.objs.size (.ref s.heap.objs.size) 0 hS₁
  (λh' tk acc' c' hk hS' hacc=>⟨h',tk,acc',c',rfl,rfl,λb o e=>hk b o (b4H (b4w e)) (b4o _ e),hS',hacc⟩)
 refine b6Y key (λfin s' x=>?_) λe s' x=>?_
 ·cases fin with
  | done f =>
   obtain⟨h',tk,acc',c',e,rfl,hk,hS',hacc⟩:=x;cases e;show wpAny _ A (load s.heap.objs.size >>= _) _ _ _;refine b4n (b9i hS' ?_);exact b4r (h h' tk acc' hk hacc)
  | again c₁ =>
   refine⟨x.1,b6T x.2 λq s₂ y=>?_⟩;obtain⟨h',tk,acc',c',rfl,rfl,hk,hS',hacc⟩:=y;show wpAny _ A (load s.heap.objs.size >>= _) _ _ _;refine b4n (b9i hS' ?_);exact b4r (h h' tk acc' hk hacc)
 ·obtain⟨_,_,_,_,e',_⟩:=x;cases e'
end
section
variable {X:Cx} {k:Nat} {Rg:Addr->List V->Hp->VK->Prop} {pins:List (Addr × Obj)} {σ:St} {H:Hp} {g:Addr} {ks:Nat->List Int} {s:Shared} {Q:VK}
noncomputable def b3o (Rg:St->Addr->List V->Hp->VK->Prop) (ta tk:TA):TE:=λσ H Q=>ta σ H λvs H1=>∃n:Nat,vs=[.int (n:Int)]/\n<=900/\tk σ H1 λzs H2=>∃(g:Addr) (ks:Nat->List Int),zs=[.ref g] /\
 (∀(i:Nat) H3 Q1,i<n->a0r H2 H3->(∀t H4,a0r H3 H4->H4 t=some (.tup ((ks i).map V.int))->Q1 (.ref t) H4)->Rg σ g [.int (i:Int)] H3 Q1)/\((List.range n).map ks).Nodup/\(∀i,i<n->ks i≠[]) /\
 ∀(d:Addr) (p:List Nat) H',a0r H2 H'->H' d=some (.lst (p.map λi:Nat=>V.int (i:Int)))->p.Perm (List.range n)->(p.map ks).Pairwise Lx->Q (.ref d) H'
end
end L2
namespace L2
open PySem PySem.Spec PyProof.Rows
abbrev ZnO (h:Heap) (z TI TO a:Addr) (fl:Bool):Prop:=h.get? z=some { cls:=.type "zip",dict:=none,data:=.fields #[rawInt a,.bool fl,.bool false,.ref TI,.ref TO],slots:=#[] }
section
variable {prog:Program} {w:World} {A:Around} {E:Value->Shared->Prop} {s:Shared} {ka kb:Bool} {z TI TO i1 i2 l1 l2 a:Addr} {n:Nat} {xs ys:Array Value} {x y:Value} {fl:Bool} {oa:Obj}
theorem a5r {M:Model} {a:Addr} {Q:Option Obj->Shared->Prop} (h:Q (s.heap.get? a) s):wpAny M A (loadIfAlive a) Q E s:=fun Γ p _=>by
 show Sem.wp M Γ (.loadIfAlive a .pure) _ _ p s;rw[Sem.wp_loadIfAlive];simpa using h
theorem a9q {Q:Value->Shared->Prop} (D:ZipApart z TI TO i1 i2 l1 l2) (hz:ZnO s.heap z TI TO a fl) (hTI:IsPair s.heap TI (.ref i1) (.ref i2)) (ha:s.heap.get? a=some oa) (az:a≠z) (h1:SIt ka s.heap i1 l1 n) (h2:SIt kb s.heap i2 l2 n) (hl1:SAt ka s.heap l1 xs) (hl2:SAt kb s.heap l2 ys) (hx:xs[n]?=some x) (hy:ys[n]?=some y)
  (hQ:∀h',ZnO h' z TI TO a true->SIt ka h' i1 l1 (n+1)->SIt kb h' i2 l2 (n+1)->IsPair h' s.heap.objs.size x y ->
   (∀c o,c≠z->c≠i1->c≠i2->s.heap.get? c=some o->h'.get? c=some o)->Q (.ref s.heap.objs.size) { s with heap:=h' }) :
  wpAny (model prog w) A (Builtin.«zip.__next__» ⟨[.ref z],[]⟩) (λfin s'=>∃v,fin=.done (.ret v)/\Q v s') E s:=by
 show wpAny _ _ (field (.ref z) 2 >>= _) _ _ _;refine b4n (b4Y hz rfl (x:=.bool false) rfl ?_);show wpAny _ _ (field (.ref z) 3 >>= _) _ _ _;refine b4n (b4Y hz rfl (x:=.ref TI) rfl (b4n (b5i hTI rfl ?_)));show wpAny _ _ (Builtin.SmallTypes.ownedTupleIsFree (.ref z) >>= _) _ _ _;refine b4n ?_;unfold Builtin.SmallTypes.ownedTupleIsFree;refine b4n (b4Y hz rfl (x:=rawInt a) rfl ?_);show wpAny _ _ (loadIfAlive ((a:Int)).toNat >>= _) _ _ _;refine b4n (a5r ?_);rw[show((a:Int)).toNat=a by omega];show wpAny _ _ (if (s.heap.get? a).isNone=true then _ else _) _ _ _;rw[ha,if_neg (by simp)];refine b4n (b4Y hz rfl (x:=.bool fl) rfl ?_);have fin:∀g1 g2 g3,ZnO g1 z TI TO a true->Heap.SameBut z s.heap g1\/g1=s.heap->Heap.SameBut i1 g1 g2->SIt ka g2 i1 l1 (n+1)->Heap.SameBut i2 g2 g3->SIt kb g3 i2 l2 (n+1) ->
   Q (.ref g3.objs.size) { s with heap:=g3.push { cls:=.type "tuple",data:=.seq #[x,y] } }:=λg1 g2 g3 z1 b1 b2 h12 b3 h23=>by
  have sz1:g1.objs.size=s.heap.objs.size:=by rcases b1 with b|b;exact b.1;rw[b]
  have sz:g3.objs.size=s.heap.objs.size:=by rw[b3.1,b2.1,sz1]
  have k1:∀c o,c≠z->s.heap.get? c=some o->g1.get? c=some o:=λc o hc e=>by rcases b1 with b|b;exact b.extBut _ _ hc e;rw[b];exact e
  rw[sz];refine hQ _ (b4o _ (b3.extBut _ _ D.i2z.symm (b2.extBut _ _ D.i1z.symm z1))) (h12.at λo e=>b4o _ (b3.extBut _ _ D.i12 e)) (h23.at λo e=>b4o _ e) ?_ λc o c1 c2 c3 e=>b4o _ (b3.extBut _ _ c3 (b2.extBut _ _ c2 (k1 c o c1 e)));rw[<-sz];exact b4v _ rfl
 cases fl with
 | true =>
  refine b4r ?_;simp only[b5b,b6B];refine b4n ?_;rw[<-b6l];simp only[b6G,b7j];refine b4n (b4n (b4T ?_));show wpAny _ _ (Builtin.SmallTypes.nextOf (.ref i1) >>= _) _ _ _;refine b4n (a5j h1 hl1 hx λg2 h12 b2=>b4r ?_);refine b4r ?_;refine b4n (b4n (b4T ?_));show wpAny _ _ (Builtin.SmallTypes.nextOf (.ref i2) >>= _) _ _ _;refine b4n (a5j (s:={ s with heap:=g2 }) (h2.at λo e=>b2.extBut _ _ D.i12.symm e) (hl2.at λo e=>b2.extBut _ _ D.l2i1 e) hy λg3 h23 b3=>b4r ?_);refine b4r (b4r ?_);refine b4n (b7k ?_ (by show 2<=sizeLine;decide));exact b4r ⟨_,rfl,fin s.heap g2 g3 hz (.inr rfl) b2 h12 b3 h23⟩
 | false =>
  show wpAny _ _ (setField (.ref z) 1 (.bool true) >>= _) _ _ _;refine b4n (b5g hz (by simp) λg1 z1 b1=>?_)
  replace z1:ZnO g1 z TI TO a true:=z1
  refine b4r ?_;simp only[b5b,b6B];refine b4n ?_;rw[<-b6l];simp only[b6G,b7j];refine b4n (b4n (b4T ?_));show wpAny _ _ (Builtin.SmallTypes.nextOf (.ref i1) >>= _) _ _ _;refine b4n (a5j (s:={ s with heap:=g1 }) (h1.at λo e=>b1.extBut _ _ D.i1z e) (hl1.at λo e=>b1.extBut _ _ D.l1z e) hx λg2 h12 b2=>b4r ?_);refine b4r ?_;refine b4n (b4n (b4T ?_));show wpAny _ _ (Builtin.SmallTypes.nextOf (.ref i2) >>= _) _ _ _;refine b4n (a5j (s:={ s with heap:=g2 }) (h2.at λo e=>b2.extBut _ _ D.i12.symm (b1.extBut _ _ D.i2z e)) (hl2.at λo e=>b2.extBut _ _ D.l2i1 (b1.extBut _ _ D.l2z e)) hy λg3 h23 b3=>b4r ?_);refine b4r (b4r ?_);refine b4n (b7k ?_ (by show 2<=sizeLine;decide));exact b4r ⟨_,rfl,fin g1 g2 g3 z1 (.inl b1) b2 h12 b3 h23⟩
theorem a9r {Q:Option Value->Shared->Prop} (D:ZipApart z TI TO i1 i2 l1 l2) (hz:ZnO s.heap z TI TO a fl) (hTI:IsPair s.heap TI (.ref i1) (.ref i2)) (ha:s.heap.get? a=some oa) (az:a≠z) (h1:SIt ka s.heap i1 l1 n) (h2:SIt kb s.heap i2 l2 n) (hl1:SAt ka s.heap l1 xs) (hl2:SAt kb s.heap l2 ys) (hx:xs[n]?=some x) (hy:ys[n]?=some y)
  (hQ:∀h',ZnO h' z TI TO a true->SIt ka h' i1 l1 (n+1)->SIt kb h' i2 l2 (n+1)->IsPair h' s.heap.objs.size x y ->
   (∀c o,c≠z->c≠i1->c≠i2->s.heap.get? c=some o->h'.get? c=some o)->Q (some (.ref s.heap.objs.size)) { s with heap:=h' }):wpAny (model prog w) A (pyNext (.ref z)) Q E s:=by
 have hT:s.TypeIs (.ref z) "zip":=⟨_,hz,rfl⟩
 unfold pyNext;exact b4n (b6q (b5a (name:=Str.ofString "__next__") hT b6d (b4Z b6d hT b7C
  (a9q D hz hTI ha az h1 h2 hl1 hl2 hx hy λh' a1 a2 a3 a4 a5=>b4r (hQ h' a1 a2 a3 a4 a5)) (b7s _))))
theorem a9s {Q:Option Value->Shared->Prop} (hh:A.handled=none) (D:ZipApart z TI TO i1 i2 l1 l2) (hz:ZnO s.heap z TI TO a fl) (hTI:IsPair s.heap TI (.ref i1) (.ref i2)) (ha:s.heap.get? a=some oa) (az:a≠z) (h1:SIt ka s.heap i1 l1 n) (hl1:SAt ka s.heap l1 xs) (hx:xs[n]?=none)
  (hQ:∀h',(∀c o,c≠z->c≠i1->s.heap.get? c=some o->h'.get? c=some o)->Q none { s with heap:=h' }):wpAny (model prog w) A (pyNext (.ref z)) Q E s:=by
 have hT:s.TypeIs (.ref z) "zip":=⟨_,hz,rfl⟩
 unfold pyNext;refine b4n (b6q (b5a (name:=Str.ofString "__next__") hT b6d (b4Z b6d hT b7C ?_ (b7s _))));show wpAny _ _ (field (.ref z) 2 >>= _) _ _ _;refine b4n (b4Y hz rfl (x:=.bool false) rfl ?_);show wpAny _ _ (field (.ref z) 3 >>= _) _ _ _;refine b4n (b4Y hz rfl (x:=.ref TI) rfl (b4n (b5i hTI rfl ?_)));show wpAny _ _ (Builtin.SmallTypes.ownedTupleIsFree (.ref z) >>= _) _ _ _;refine b4n ?_;unfold Builtin.SmallTypes.ownedTupleIsFree;refine b4n (b4Y hz rfl (x:=rawInt a) rfl ?_);show wpAny _ _ (loadIfAlive ((a:Int)).toNat >>= _) _ _ _;refine b4n (a5r ?_);rw[show((a:Int)).toNat=a by omega];show wpAny _ _ (if (s.heap.get? a).isNone=true then _ else _) _ _ _;rw[ha,if_neg (by simp)];refine b4n (b4Y hz rfl (x:=.bool fl) rfl ?_);cases fl with
 | true =>
  refine b4r ?_;simp only[b5b,b6B];refine b4n ?_;rw[<-b6l];simp only[b6G,b7j];refine b4n (b4n (b4T ?_));show wpAny _ _ (Builtin.SmallTypes.nextOf (.ref i1) >>= _) _ _ _;refine b4n (endS hh h1 hl1 hx λg2 e b2 he=>?_);obtain⟨o,ho,hc⟩:=he;exact b4n (b6L (T:="StopIteration") (b:=true) ⟨o,ho,hc⟩ b8b (b4r (hQ _ λc o c1 c2 q=>b2 _ _ c2 q)))
 | false =>
  show wpAny _ _ (setField (.ref z) 1 (.bool true) >>= _) _ _ _;refine b4n (b5g hz (by simp) λg1 z1 b1=>?_);refine b4r ?_;simp only[b5b,b6B];refine b4n ?_;rw[<-b6l];simp only[b6G,b7j];refine b4n (b4n (b4T ?_));show wpAny _ _ (Builtin.SmallTypes.nextOf (.ref i1) >>= _) _ _ _;refine b4n (endS (s:={ s with heap:=g1 }) hh (h1.at λo e=>b1.extBut _ _ D.i1z e) (hl1.at λo e=>b1.extBut _ _ D.l1z e) hx λg2 e b2 he=>?_);obtain⟨o,ho,hc⟩:=he;exact b4n (b6L (T:="StopIteration") (b:=true) ⟨o,ho,hc⟩ b8b (b4r (hQ _ λc o c1 c2 q=>b2 _ _ c2 (b1.extBut _ _ c1 q))))
end
section
variable {X:Cx} {pins:List (Addr × Obj)} {σ:St} {H:Hp} {ka kb:Bool} {z TI TO i1 i2 l1 l2 S:Addr} {xs ys:List V} {res:Value} {R:Result->Shared->Prop}
noncomputable def ZnS (h:Heap) (z TI TO i1 i2 S:Addr):Prop:=(IsZip h z TI TO .none/\∃a b,IsPair h TO a b)\/∃a fl oa,ZnO h z TI TO a fl/\h.get? a=some oa/\a≠z/\a≠i1/\a≠i2/\a≠S
noncomputable def PrsZ (H:Hp) (xs ys zs:List V):Prop:=∀(i:Nat) q,zs[i]?=some q->∃(t:Addr) (x y:V),q=.ref t/\xs[i]?=some x/\ys[i]?=some y/\H t=some (.tup [x,y])
theorem zl_go {A:Around} (hA:A.handled=none) (D:ZipApart z TI TO i1 i2 l1 l2) (hl9:xs.length<=1000) (hlen:xs.length=ys.length) (fp:∀b∈[z,TI,TO,i1,i2,S],∀H',H' b=none->a2w X pins H' b) (nS:S∉[z,TI,TO,i1,i2])
  (hK1:∀{H':Hp},a0r H H'->SqK X.K ka H' l1 xs) (hK2:∀{H':Hp},a0r H H'->SqK X.K kb H' l2 ys)
  (hR:∀s' Hn zs (acc:Array Value) c,Inv X pins σ Hn s'->a0r H Hn->Hn S=none->s'.heap.get? S=some { cls:=.type "list",dict:=none,data:=.seq acc c,slots:=#[] }->a0C zs acc.toList->zs.length=xs.length->PrsZ Hn xs ys zs->R (.ok (.ret res)) s') :
  ∀(m n:Nat) (s:Shared) (Hn:Hp) (zs:List V) (acc:Array Value) (c:Nat),xs.length-n=m->n<=xs.length->Inv X pins σ Hn s->a0r H Hn->ZnS s.heap z TI TO i1 i2 S->IsPair s.heap TI (.ref i1) (.ref i2)->SIt ka s.heap i1 l1 n->SIt kb s.heap i2 l2 n->(∀b∈[z,TI,TO,i1,i2,S],Hn b=none/\b<s.heap.objs.size) ->
   s.heap.get? S=some { cls:=.type "list",dict:=none,data:=.seq acc c,slots:=#[] }->a0C zs acc.toList->zs.length=n->PrsZ Hn xs ys zs ->
   codeAny (model X.prog X.w) A (.builtin "list.extend.loop" ⟨[.ref S,.ref z,res],[]⟩) R s:=by
 have Sz:S≠z:=λe=>nS (by simp[e]);have STI:S≠TI:=λe=>nS (by simp[e]);have STO:S≠TO:=λe=>nS (by simp[e]);have Si1:S≠i1:=λe=>nS (by simp[e]);have Si2:S≠i2:=λe=>nS (by simp[e]);intro m
 induction m with
 | zero =>
  intro n s Hn zs acc c hm hn J sm zn hTI h1 h2 fr hS hv ly pr;have en':n=xs.length:=by omega
  obtain⟨us,r1,p1⟩:=a5Q J (hK1 sm);obtain⟨vs,r2,p2⟩:=a5Q J (hK2 sm);have e1:=r1.length;refine b5p b8j ?_;rw[b4S b6f _];show wpAny _ A.in1 (pyNext (.ref z) >>= _) _ _ s;have fin:∀h',(∀c o,c≠z->c≠TO->c≠i1->c≠i2->s.heap.get? c=some o->h'.get? c=some o)->R (.ok (.ret res)) { s with heap:=h' }:=λh' kk=>by
   have J1:Inv X pins σ Hn { s with heap:=h' }:=J.turnedL (t':=s.toks) (L:=[z,TO,i1,i2]) (λb o hb e=>by
    simp only[b4K,b5u,b7o,not_or] at hb;exact kk b o hb.1 hb.2.1 hb.2.2.1 hb.2.2.2 e) (λb hb=>fp b (by simp at hb ⊢;rcases hb with h|h|h|h<;>simp[h]) Hn (fr b (by simp at hb ⊢;rcases hb with h|h|h|h<;>simp[h])).1)
   exact hR _ Hn zs acc c J1 sm (fr S (by simp)).1 (kk S _ Sz STO Si1 Si2 hS) hv (by omega) pr
  rcases zn with ⟨hz,a,b,hTO⟩|⟨a,fl,oa,hz,ha,az,ai1,ai2,aS⟩
  ·exact b4n (a5l (by show A.handled=none;exact hA) D ⟨hz,hTI,⟨a,b,hTO⟩,h1,h2⟩ p1 p2 (.inl (by simp;omega)) λh' kk=>b4r (fin h' kk))
  ·exact b4n (a9s (by show A.handled=none;exact hA) D hz hTI ha az h1 p1 (by simp;omega) λh' kk=>b4r (fin h' λc o c1 _ c3 _ e=>kk c o c1 c3 e))
 | succ m ih =>
  intro n s Hn zs acc c hm hn J sm zn hTI h1 h2 fr hS hv ly pr;have hlt:n<xs.length:=by omega
  obtain⟨us,r1,p1⟩:=a5Q J (hK1 sm);obtain⟨vs,r2,p2⟩:=a5Q J (hK2 sm);have hx:xs[n]?=some xs[n]:=b4q hlt;have hy:ys[n]?=some (ys[n]'(by omega)):=b4q _;obtain⟨u,hu,ru⟩:=r1.get hx;obtain⟨v,hv',rv⟩:=r2.get hy;have hT:Hn s.heap.objs.size=none:=J.hok.fresh (b4z _);refine b5p b8j ?_;rw[b4S b6f _];show wpAny _ A.in1 (pyNext (.ref z) >>= _) _ _ s;have go:∀h',ZnS h' z TI TO i1 i2 S->SIt ka h' i1 l1 (n+1)->SIt kb h' i2 l2 (n+1)->IsPair h' s.heap.objs.size u v->(∀c o,c≠z->c≠TO->c≠i1->c≠i2->s.heap.get? c=some o->h'.get? c=some o) ->
    wpAny (model X.prog X.w) A.in1 (updateSeq S (·.push (.ref s.heap.objs.size)) >>= λ_=>(again (.builtin "list.extend.loop" ⟨[.ref S,.ref z,res],[]⟩):Sem Fin)) (λfin s'=>match fin with | .done f=>R (.ok f) s' | .again c'=>c'.quiet=true/\codeAny (model X.prog X.w) A c' R s') (λe s'=>R (.error e) s') { s with heap:=h' }:=λh' zn' h1' h2' pr' kk=>by
   have hS':h'.get? S=some { cls:=.type "list",dict:=none,data:=.seq acc c,slots:=#[] }:=kk S _ Sz STO Si1 Si2 hS;have I1:Inv X pins σ (upd Hn s.heap.objs.size (.tup [xs[n],ys[n]'(by omega)])) { s with heap:=s.heap.push { cls:=.type "tuple",data:=.seq #[u,v] } }:=J.laid (t':=s.toks) (λb u e=>b4o _ e) (b4z _) ⟨by show 2<=sizeLine;decide,[u,v],.cons ru (.cons rv .nil),⟨_,b4v _ rfl,_,rfl⟩⟩;have zz:∀{b:Addr},b∈[z,TI,TO,i1,i2,S]->upd Hn s.heap.objs.size (.tup [xs[n],ys[n]'(by omega)]) b=none:=λ{b} hb=>by rw[a0m (b4H (fr b hb).2)];exact(fr b hb).1
   have I2:=I1.turnedL (h':=h') (t':=s.toks) (L:=[z,TO,i1,i2]) (λc o hc e=>by
    simp only[b4K,b5u,b7o,not_or] at hc;by_cases zc:c=s.heap.objs.size
    ·subst zc;rw[b4v _ rfl] at e;cases e;exact pr'
    ·have e':s.heap.get? c=some o:=by rw[<-e];exact(b8D _ _ _ zc).symm
     exact kk c o hc.1 hc.2.1 hc.2.2.1 hc.2.2.2 e') (λb hb=>fp b (by simp at hb ⊢;rcases hb with h|h|h|h<;>simp[h]) _ (zz (by simp at hb ⊢;rcases hb with h|h|h|h<;>simp[h])))
   have s2:=a0d hT (.tup [xs[n],ys[n]'(by omega)]);obtain⟨g0,g1,g2,g3,g4,g5⟩:=fp S (by simp) _ (zz (by simp));have sz:acc.size=n:=by rw[<-b4x,<-hv.length,ly]
   refine b4n (b6e hS' rfl (b4r ⟨b5B b6f _,?_⟩) (by rw[sz];show n<=sizeLine;exact small (by omega)) (by show(acc.push _).size<=sizeLine+1;rw[Array.size_push,sz];have:=small (n:=n) (by omega);omega));have ltp:s.heap.objs.size<h'.objs.size:=b4w pr';refine ih (n+1) _ _ (zs++[.ref s.heap.objs.size]) (acc.push (.ref s.heap.objs.size)) _ (by omega) (by omega) (I2.turned (t':=s.toks) (λb o hb e=>by rw[b4I _ _ _ _ hb];exact e) g0 g1 g3 g4 g5) (sm.trans s2) ?_ ?_ (h1'.at λo e=>by rw[b4I _ _ _ _ Si1.symm];exact e) (h2'.at λo e=>by rw[b4I _ _ _ _ Si2.symm];exact e) (λb hb=>⟨zz hb,?_⟩) (b5S _ hS' rfl) ?_ (by rw[b4A,ly];rfl) ?_
   ·rcases zn' with ⟨hz,a,b,hTO⟩|⟨a,fl,oa,hz,ha,az,ai1,ai2,aS⟩
    ·exact .inl ⟨by rw[IsZip,b4I _ _ _ _ Sz.symm];exact hz,a,b,by rw[IsPair,b4I _ _ _ _ STO.symm];exact hTO⟩
    ·exact .inr ⟨a,fl,oa,by rw[ZnO,b4I _ _ _ _ Sz.symm];exact hz,by rw[b4I _ _ _ _ aS];exact ha,az,ai1,ai2,aS⟩
   ·rw[IsPair,b4I _ _ _ _ STI.symm];exact kk TI _ D.TIz D.TITO D.TIi1 D.TIi2 hTI
   ·rw[b8g];exact b9B (fr b hb).2 ltp
   ·rw[b4V];exact Paired.appendP hv (.cons rfl .nil)
   ·intro i q hq;rcases c0c i zs.length with lt|ge
    ·rw[b5w lt] at hq;obtain⟨t,x,y,e,hxi,hyi,ht⟩:=pr i q hq;exact⟨t,x,y,e,hxi,hyi,s2 _ _ ht⟩
    ·rw[b4U ge] at hq;have hk:i-zs.length=0:=by
      have:=(b4u.mp hq).1;simp at this;omega
     rw[hk] at hq;cases hq;have:i=n:=by omega
     subst this;exact⟨_,_,_,rfl,hx,hy,a0b⟩
  rcases zn with ⟨hz,a,b,hTO⟩|⟨a,fl,oa,hz,ha,az,ai1,ai2,aS⟩
  ·exact b4n (a5k D ⟨hz,hTI,⟨a,b,hTO⟩,h1,h2⟩ p1 p2 (x:=u) (y:=v) (by simpa using hu) (by simpa using hv') λh' z1 t1 a1 a2 pr' kk=>go h' (.inr ⟨_,false,_,z1,pr',b5k (fr z (by simp)).2,b5k (fr i1 (by simp)).2,b5k (fr i2 (by simp)).2,b5k (fr S (by simp)).2⟩) a1 a2 pr' kk)
  ·exact b4n (a9r D hz hTI ha az h1 h2 p1 p2 (x:=u) (y:=v) (by simpa using hu) (by simpa using hv') λh' z1 a1 a2 pr' kk=>go h' (.inr ⟨a,true,oa,z1,kk a oa az ai1 ai2 ha,az,ai1,ai2,aS⟩) a1 a2 pr' λc o c1 _ c3 c4 e=>kk c o c1 c3 c4 e)
end
theorem a9t:typeLookup (.type "zip") "__len__"=pure none:=by rw[b9t,b7T];kernel_rfl
theorem a7Y:typeLookup (.type "zip") "__length_hint__"=pure none:=by rw[b9t,b7T];kernel_rfl
section
variable {X:Cx} {pins:List (Addr × Obj)} {σ:St} {H:Hp} {ka kb:Bool} {z TI TO i1 i2 l1 l2:Addr} {xs ys:List V} {s:Shared} {E:Value->Shared->Prop}
noncomputable def CZ (X:Cx) (pins:List (Addr × Obj)) (σ:St) (H:Hp) (S:Addr) (xs ys:List V) (q:Result) (s':Shared):Prop:=∃Hn zs acc c,q=.ok (.ret (.ref S))/\Inv X pins σ Hn s'/\a0r H Hn/\s'.heap.get? S=some { cls:=.type "list",dict:=none,data:=.seq acc c,slots:=#[] }/\a0C zs acc.toList/\zs.length=xs.length/\PrsZ Hn xs ys zs
theorem a6c {A:Around} {R:List Value->Shared->Prop} (hA:A.handled=none) (J:Inv X pins σ H s) (D:ZipApart z TI TO i1 i2 l1 l2) (Z:ZAt ka kb z TI TO i1 i2 l1 l2 0 s.heap) (hl9:xs.length<=1000) (hlen:xs.length=ys.length) (fp:∀b∈[z,TI,TO,i1,i2],∀H',H' b=none->a2w X pins H' b) (fr:∀b∈[z,TI,TO,i1,i2],H b=none)
  (hK1:∀{H':Hp},a0r H H'->SqK X.K ka H' l1 xs) (hK2:∀{H':Hp},a0r H H'->SqK X.K kb H' l2 ys)
  (hR:∀s' Hn zs its,Inv X pins σ Hn s'->a0r H Hn->a0C zs its->zs.length=xs.length->PrsZ Hn xs ys zs->R its s') :
  wpAny (model X.prog X.w) A (collect (.ref z)) R E s:=by
 have ltz:∀b∈[z,TI,TO,i1,i2],b<s.heap.objs.size:=λb hb=>by
  obtain⟨o,ho,_⟩:=Z.obj b hb;exact b4w ho
 unfold collect;refine b4n (b9I (b5p entry_proto_collect' ?_));rw[b4S b9s _];show wpAny _ A.in1 (newList [] >>= λl=>again (.builtin "list.__iadd__" ⟨[l,.ref z],[]⟩)) _ _ s;refine b4n (b5o ?_);refine b4r ⟨b5B b7w _,b5p entry_list_iadd' ?_⟩;rw[b4S b7w _];have hS1:(s.heap.push { cls:=.type "list",data:=.seq ([]:List Value).toArray }).get? s.heap.objs.size=some { cls:=.type "list",dict:=none,data:=.seq #[] 0,slots:=#[] }:=b4v _ rfl;show wpAny _ A.in1 (Builtin.List.listExtendWith (.ref s.heap.objs.size) (.ref z) (.ref s.heap.objs.size)) _ _ _;have up:∀b o,s.heap.get? b=some o->(s.heap.push { cls:=.type "list",data:=.seq ([]:List Value).toArray }).get? b=some o:=λb o e=>b4o _ e;have key:wpAny (model X.prog X.w) A.in1 (Builtin.List.listExtendWith (.ref s.heap.objs.size) (.ref z) (.ref s.heap.objs.size))
   (λfin s'=>match fin with | .done f=>CZ X pins σ H s.heap.objs.size xs ys (.ok f) s' | .again c'=>c'.quiet=true/\codeAny (model X.prog X.w) A c' (CZ X pins σ H s.heap.objs.size xs ys) s')
   (λe s'=>False) { s with heap:=s.heap.push { cls:=.type "list",data:=.seq ([]:List Value).toArray } }:=by
  generalize eg:s.heap.push { cls:=.type "list",data:=.seq ([]:List Value).toArray }=g at hS1 up ⊢;have hz2:IsZip g z TI TO .none:=up _ _ Z.zp;have hT:Shared.TypeIs { s with heap:=g } (.ref z) "zip":=⟨_,hz2,rfl⟩
  have nSz:s.heap.objs.size≠z:=b5k (ltz z (by simp));have hsr:Builtin.List.listSameRef (.ref s.heap.objs.size) (.ref z)=false:=by simp[Builtin.List.listSameRef,nSz]
  unfold Builtin.List.listExtendWith;refine b4n (b8n hT ?_);rw[if_neg (by rw[hsr];decide)];refine b4n (b8e (s:={ s with heap:=g }) hz2 ?_);refine b4n (b4T ?_);unfold Builtin.List.listLengthHint;refine b4n (b7a hT a9t ?_);show wpAny _ _ (specialOf (Value.ref z) (Str.ofString "__length_hint__") >>= _) _ _ _;refine b4n (b7a hT a7Y ?_);refine b4r ?_;show wpAny _ _ (rule "list.extend.makes-room" >>= λ_=>Builtin.List.listTouch (.ref s.heap.objs.size) >>= λ_=>(again (.builtin "list.extend.loop" ⟨[.ref s.heap.objs.size,.ref z,.ref s.heap.objs.size],[]⟩):Sem Fin)) _ _ _;refine b4n (b5T (b4n ?_));show wpAny _ _ (updateSeq s.heap.objs.size (·.push .none) >>= λ_=>updateSeq s.heap.objs.size (·.pop)) _ _ _;refine b4n (b6e hS1 rfl ?_);have hS3:=b5S (Obj.mapSeq (λa:Array Value=>a.push .none)) hS1 rfl;refine b6e hS3 rfl (b4r ⟨b5B b6f _,?_⟩);have hS4:=b5S (Obj.mapSeq (λa:Array Value=>a.pop)) hS3 rfl;have up4:∀b o,s.heap.get? b=some o->((g.update s.heap.objs.size (Obj.mapSeq (λa:Array Value=>a.push .none))).update s.heap.objs.size (Obj.mapSeq (λa:Array Value=>a.pop))).get? b=some o:=λb o e=>by
   have hb:b≠s.heap.objs.size:=b4H (b4w e);rw[b4I _ _ _ _ hb,b4I _ _ _ _ hb];exact up b o e
  show codeAny _ _ _ _ { s with heap:=(g.update s.heap.objs.size (Obj.mapSeq (λa:Array Value=>a.push .none))).update s.heap.objs.size (Obj.mapSeq (λa:Array Value=>a.pop)) };have szg:((g.update s.heap.objs.size (Obj.mapSeq (λa:Array Value=>a.push .none))).update s.heap.objs.size (Obj.mapSeq (λa:Array Value=>a.pop))).objs.size=s.heap.objs.size+1:=by rw[b8g,b8g,<-eg];exact b4X _ _
  generalize (g.update s.heap.objs.size (Obj.mapSeq (λa:Array Value=>a.push .none))).update s.heap.objs.size (Obj.mapSeq (λa:Array Value=>a.pop))=g' at hS4 up4 szg ⊢;have J4:Inv X pins σ H { s with heap:=g' }:=J.kept (t':=s.toks) up4;obtain⟨to1,to2,hTO⟩:=Z.to_;refine zl_go (A:=A) (H:=H) (S:=s.heap.objs.size) hA D hl9 hlen (λb hb H' hn=>?_) (λhb=>absurd (ltz _ hb) (b5G _)) (λ{H'} sm=>hK1 sm) (λ{H'} sm=>hK2 sm) (λs' Hn zs acc c Jn sm nS gS hv ly pr=>⟨Hn,zs,acc,c,rfl,Jn,sm,gS,hv,ly,pr⟩) xs.length 0 { s with heap:=g' } H [] _ _ rfl (b5j _) J4 (a0r.refl _) (.inl ⟨up4 _ _ Z.zp,to1,to2,up4 _ _ hTO⟩) (up4 _ _ Z.ti) (Z.a1.at λo e=>up4 _ _ e) (Z.a2.at λo e=>up4 _ _ e) (λb hb=>?_) hS4 .nil rfl (λi y hy=>by simp at hy)
  ·by_cases hbS:b=s.heap.objs.size
   ·rw[hbS];exact J.fpOk (b4z _) (by rw[<-hbS];exact hn)
   ·exact fp b (by simp at hb ⊢;rcases hb with h|h|h|h|h|h<;>first|exact absurd h hbS|simp[h]) H' hn
  ·by_cases hbS:b=s.heap.objs.size
   ·rw[hbS];exact⟨J.hok.fresh (b4z _),by show _<g'.objs.size;rw[szg];exact b7f _⟩
   ·have hb':b∈[z,TI,TO,i1,i2]:=by simp at hb ⊢;rcases hb with h|h|h|h|h|h<;>first|exact absurd h hbS|simp[h]
    exact⟨fr b hb',by show _<g'.objs.size;rw[szg];exact b9Q (ltz b hb')⟩
 refine b6Y key (λfin s' x=>?_) λe s' x=>x.elim;cases fin with
 | done f =>
  obtain⟨Hn,zs,acc,c,e,Jn,sm,gS,hv,ly,pr⟩:=x;cases e;show wpAny _ A (load s.heap.objs.size >>= _) _ _ _;refine b4n (b9i gS ?_);exact b4r (hR s' Hn zs acc.toList Jn sm hv ly pr)
 | again c₁ =>
  refine⟨x.1,b6T x.2 λq s₂ y=>?_⟩;obtain⟨Hn,zs,acc,c,rfl,Jn,sm,gS,hv,ly,pr⟩:=y;show wpAny _ A (load s.heap.objs.size >>= _) _ _ _;refine b4n (b9i gS ?_);exact b4r (hR s₂ Hn zs acc.toList Jn sm hv ly pr)
end
theorem a3T {α β:Type} {R:α->β->Prop}:∀{xs:List α} {ys:List β},xs.length=ys.length->(∀(i:Nat) x y,xs[i]?=some x->ys[i]?=some y->R x y)->Paired R xs ys
 | [],[],_,_=>.nil
 | [],_::_,h,_=>by cases h
 | _::_,[],h,_=>by cases h
 | x::xs,y::ys,h,k=>.cons (k 0 x y rfl rfl) (a3T (by simpa using h) λi a b ha hb=>k (i+1) a b (by simpa using ha) (by simpa using hb))
noncomputable def tSortZ (K:PySem.W.Frag) (ka kb:Bool) (ta:TA):TE:=λσ H Q=>ta σ H λvs H1=>∃(a b:Addr) (ys:List V) (ws:List (Int × List Int)),vs=[.ref a,.ref b]/\(∀{H'},a0r H1 H'->SqK K ka H' a (ws.map λq=>V.int q.1))/\(∀{H'},a0r H1 H'->SqK K kb H' b ys)/\Ws H1 ys (ws.map Prod.snd)/\ws.length<=900/\ws.Nodup /\
 ∀p H' out us,a0r H1 H'->H' p=some (.lst out)->Paired (RPw H') out us->us.Perm ws->us.Pairwise LxP->Q (.ref p) H'
theorem b1e {X:Cx} {a b:Expr} {ta:TA} {p p2 pos pos2:Pos} (ka kb:Bool) (hc:X.calm=true) (hu:X.A.units+4<cLine) (hg:Gl X "sorted") (hm:X.mg "sorted"=none) (hg2:Gl X "zip") (hm2:X.mg "zip"=none) (ha:PA X [a,b] ta)
  (hs:starEach [.Call (.Name "zip" p2) [a,b] [] pos2] X.env=(false,eval (.Call (.Name "zip" p2) [a,b] [] pos2) X.env)::starEach [] X.env:=by rfl) (hs1:starEach [a,b] X.env=[(false,eval a X.env),(false,eval b X.env)]:=by rfl) (hs2:starEach [b] X.env=[(false,eval b X.env)]:=by rfl) :
  PE X (.Call (.Name "sorted" p) [.Call (.Name "zip" p2) [a,b] [] pos2] [] pos) (tSortZ X.K ka kb ta):=by
 intro pins s σ H Q I h;refine b5E (a1l I hg hm a0U ?_ (by decide) (by decide));refine b7u ?_ hs rfl;rw[hs];refine b6E ?_;refine b5E (a1l I hg2 hm2 b2Z ?_ (by decide) (by decide));refine b5F (thn (ha pos2 pins s σ H _ I h) λus s1 ⟨vs,H1,I1,r1,q1⟩=>?_) (by rw[hs1,hs2]) (by rw[hs2];rfl);obtain⟨a',b',ys,ws,e,hK1,hK2,hw,h9,nd,q⟩:=q1;subst e;obtain⟨u,v,rfl,r1,r2⟩:=r1.two;cases r1;cases r2;obtain⟨us,e1,p1⟩:=a5Q I1 (hK1 (a0r.refl _));obtain⟨vs,e2,p2⟩:=a5Q I1 (hK2 (a0r.refl _));have lt:∀{k:Bool} {l:Addr} {zs:Array Value},SAt k s1.heap l zs->l<s1.heap.objs.size:=λ{k l zs} x=>by
  cases k with
  | true=>obtain⟨o,ho,_⟩:=x;exact b4w ho
  | false=>obtain⟨o,ho,_⟩:=x;exact b4w ho
 have t1:=lt p1;have t2:=lt p2;refine callS p1 p2 λh' Z kp=>?_;refine b6Z ?_;have D:ZipApart (s1.heap.objs.size+4) (s1.heap.objs.size+2) (s1.heap.objs.size+3) s1.heap.objs.size (s1.heap.objs.size+1) a' b':=by
  have t1':@LT.lt Nat _ a' s1.heap.objs.size:=t1;have t2':@LT.lt Nat _ b' s1.heap.objs.size:=t2;constructor<;>(show ¬(@Eq Nat _ _);omega)
 have J:Inv X pins σ H1 { s1 with heap:=h' }:=I1.kept (t':=s1.toks) kp;have ge:∀c∈[s1.heap.objs.size+4,s1.heap.objs.size+2,s1.heap.objs.size+3,s1.heap.objs.size,s1.heap.objs.size+1],s1.heap.objs.size<=c:=λc hc=>by
  simp only[b4K,b5u,b7o] at hc;rcases hc with rfl|rfl|rfl|rfl|rfl<;>omega
 have ly:ys.length=ws.length:=by rw[hw.length,b4p]
 refine b7l b9r b8S b8T (args_sorted1 _) ?_;unfold Builtin.«sorted»;refine b4n (m:=checkCount "sorted" 1 1 _) (b4r ?_);refine b4n (a6c (H:=H1) (xs:=ws.map λq=>V.int q.1) (ys:=ys) (show X.A.in1.handled=none from I.ok.hd hc) J D Z (by rw[b4p];omega) (by rw[b4p,ly]) (λc hc H' hn=>I1.fpOk (ge c hc) hn) (λc hc=>I1.hok.fresh (ge c hc)) (λ{H'} sm=>hK1 sm) (λ{H'} sm=>hK2 sm) λs2 Hn zs its Jn sm hv lz pr=>?_);rw[b4p] at lz;have li:its.length=ws.length:=by rw[<-hv.length,lz]
 have hp:Paired (RPw Hn) zs ws:=by
  refine a3T (by omega) λi q w hq hwi=>?_;obtain⟨t,x,y,rfl,hx,hy,ht⟩:=pr i q hq;rw[b4C,hwi] at hx;cases hx;obtain⟨w',hw',rw'⟩:=Paired.right_of hw i y hy;rw[b4C,hwi] at hw';cases hw';exact⟨t,y,rfl,ht,Wd.same sm rw'⟩
 have tup:∀i,i<its.length->PrN s2.heap (its.getD i Value.none) (ws.getD i (0,[])):=λi hi=>by
  have hy:zs[i]?=some (zs[i]'(by omega)):=b4q _;obtain⟨wd,hwd,t,uu,et,ht,hu2⟩:=Paired.right_of hp i _ hy;obtain⟨u,hu',ru⟩:=hv.get hy;rw[et] at ru;cases ru;obtain⟨_,its2,rv2,it⟩:=a1B ((show a0B X.prog X.w Hn s2.heap t (.tup [.int wd.1,uu]) from Jn.hok _ _ ht));obtain⟨b,eb,hb⟩:=Wd.ti hu2;subst eb;obtain⟨_,its3,rv3,it3⟩:=a1B ((show a0B X.prog X.w Hn s2.heap b (.tup (wd.2.map V.int)) from Jn.hok _ _ hb));have e1:its.getD i Value.none=.ref t:=by rw[b4t,hu'];rfl
  have e2:ws.getD i (0,[])=wd:=by rw[b4t,hwd];rfl
  obtain⟨u1,u2,rfl,r1,r2⟩:=rv2.two;obtain⟨tk,rfl⟩:=r1;cases r2;rw[e1,e2];exact⟨t,_,tk,.ref b,rfl,it,rfl,b,_,rfl,it3,by simpa using a5o rv3⟩
 refine b4n (b6S ?_ (by rw[b5n];omega));show wpAny _ _ _ _ _ { s2 with heap:=s2.heap.push (seqObj "list" its.toArray 0) };have hoL:(s2.heap.push (seqObj "list" its.toArray 0)).get? s2.heap.objs.size=some (seqObj "list" its.toArray 0):=b4v _ rfl;have k2:∀b o,s2.heap.get? b=some o->(s2.heap.push (seqObj "list" its.toArray 0)).get? b=some o:=λb o e=>b4o _ e;have nL:∀b o,s2.heap.get? b=some o->b≠s2.heap.objs.size:=λb o e=>b4H (b4w e);have hLn:Hn s2.heap.objs.size=none:=Jn.hok.fresh (b4z _);refine b4n (b4T (b4Z b8c ⟨_,hoL,rfl⟩ b7S (a3R (s:={ s2 with heap:=s2.heap.push (seqObj "list" its.toArray 0) }) hoL (by omega) (by omega) (λi hi=>?_) nd ?_ λh3 p c pm srt hL kp3=>⟨_,rfl,?_⟩) (b9J _)))
 ·exact(tup i hi).keep2 k2
 ·show X.A.units+1+1+1<cLine;omega
 ·have kh:∀b o,s2.heap.get? b=some o->h3.get? b=some o:=λb o e=>kp3 b o (nL b o e) (b4o _ e);have lt:∀i∈p.toList,i<zs.length:=λi hi=>by have:=pm.mem i hi;omega
  have pw:=a3l (xs:=ws) (0,[]) pm (by omega);have I2:Inv X pins σ (upd Hn s2.heap.objs.size (.lst (p.toList.map λi=>zs.getD i .non))) { s2 with heap:=h3,toks:=s2.toks }:=Jn.laid (t':=s2.toks) kh (b4z _) ⟨by rw[b4p,<-b4p (f:=λi=>ws.getD i (0,[])),pw.length_eq,b5n];omega,_,c,Paired.pick hv .non Value.none p.toList lt,hL⟩;have sm2:=a0d hLn (.lst (p.toList.map λi=>zs.getD i .non));exact b4r ⟨_,rfl,.ref s2.heap.objs.size,_,I2,rfl,q _ _ _ (p.toList.map λi=>ws.getD i (0,[])) (sm.trans sm2) a0b (Paired.pick (Paired.mapP hp λ_ _ q=>RPw.same sm2 q) .non (0,[]) p.toList lt) pw srt⟩
inductive Cell where
 | i (n:Int)
 | t (ks:List Int)
deriving DecidableEq
section
variable {prog:Program} {w:World}
noncomputable def a1C (prog:Program) (w:World) (h:Heap):Value->Cell->Prop
 | v,.i n=>(intKind prog w).is n v=true
 | v,.t ks=>∃b,v=.ref b/\IsTupleKey (intKind prog w) h ks b
noncomputable def a1G (prog:Program) (w:World):Cell->Int
 | .i n=>(intKind prog w).hash n
 | .t ks=>tupleKeyHash (intKind prog w) ks
noncomputable def a3r:Cell->Nat
 | .i _=>1
 | .t ks=>ks.length+1
noncomputable def a1d (prog:Program) (w:World) (h:Heap) (cs:List Cell) (a:Addr):Prop:=∃o items n,h.get? a=some o/\o.cls=.type "tuple"/\o.data=.seq items n/\Paired (a1C prog w h) items.toList cs
theorem a1C.inj {h:Heap} {v:Value} {x y:Cell} (hx:a1C prog w h v x) (hy:a1C prog w h v y):x=y:=by
 cases x with
 | i n =>
  cases y with
  | i m=>rw[(intKind prog w).inj v n m hx hy]
  | t ks =>
   obtain⟨b,rfl,_⟩:=hy;have:=(intKind prog w).byValue n _ hx;simp[carriedByValue] at this
 | t ks =>
  obtain⟨b,rfl,hb⟩:=hx;cases y with
  | i m =>
   have:=(intKind prog w).byValue m _ hy;simp[carriedByValue] at this
  | t ls =>
   obtain⟨c,e,hc⟩:=hy;cases e;rw[hb.inj hc]
theorem a9u {h:Heap} {vs:List Value} {x y:List Cell} (hx:Paired (a1C prog w h) vs x):Paired (a1C prog w h) vs y->x=y:=by
 induction hx generalizing y with
 | nil=>intro hy;cases hy;rfl
 | cons h1 _ ih =>
  intro hy;cases hy with
  | cons h2 t2=>rw[h1.inj h2,ih t2]
theorem a1d.typeIs {s:Shared} {cs:List Cell} {a:Addr} (x:a1d prog w s.heap cs a):s.TypeIs (.ref a) "tuple":=let ⟨o,_,_,ho,hc,_⟩:=x;⟨o,ho,hc⟩
theorem a1d.inj {h:Heap} {a:Addr} {x y:List Cell} (hx:a1d prog w h x a) (hy:a1d prog w h y a):x=y:=by
 obtain⟨o,items,n,ho,_,hd,hi⟩:=hx;obtain⟨o',items',n',ho',_,hd',hi'⟩:=hy;have e:o=o':=b4N (ho.symm.trans ho');subst e;rw[hd] at hd';injection hd' with h1 _;subst h1;exact a9u hi hi'
theorem a1d.keeps {h h':Heap} {cs:List Cell} {a d:Addr} {o:Obj} {es ep} (x:a1d prog w h cs a) (ho:h.get? d=some o) (hd:o.data=.dict es ep) (hs:Heap.SameBut d h h'):a1d prog w h' cs a:=by
 obtain⟨o',items,n,ho',hc,hd',hi⟩:=x;have hne:a≠d:=λz=>by
  rw[z,ho] at ho';cases ho';rw[hd] at hd';cases hd'
 refine⟨o',items,n,(hs.2 a hne).trans ho',hc,hd',Paired.mapP hi λv c hv=>?_⟩;cases c with
 | i m=>exact hv
 | t ks =>
  obtain⟨b,e,hb⟩:=hv;exact⟨b,e,hb.keeps ho hd hs⟩
noncomputable def a2R (prog:Program) (w:World) (cs:List Cell):Int:=reduceHash (Builtin.Tuple.tupleHashOf (cs.map (a1G prog w)))
noncomputable def a2q (cs:List Cell):Nat:=(cs.map a3r).sum+1
variable {A:Around} {E:Value->Shared->Prop} {s:Shared}
theorem a9v {v:Value} {c:Cell} {Q:Int->Shared->Prop} (hu:A.units<cLine) (hv:a1C prog w s.heap v c) (h:Q (a1G prog w c) { s with toks:=s.toks+a3r c }):wpAny (model prog w) A (pyHash v) Q E s:=by
 cases c with
 | i n=>exact(intKind prog w).pyHash hv h
 | t ks =>
  obtain⟨b,rfl,hb⟩:=hv;exact wpAny_pyHash_tuple hu hb h
theorem b3p {u v:Value} {c d:Cell} {Q:Bool->Shared->Prop} (hu:A.units<cLine) (h1:a1C prog w s.heap u c) (h2:a1C prog w s.heap v d) (hk:(∃n m,c=.i n/\d=.i m)\/∃k l,c=.t k/\d=.t l) (h:Q (decide (c=d)) s):wpAny (model prog w) A (eqBool u v) Q E s:=by
 rcases hk with ⟨n,m,rfl,rfl⟩|⟨k,l,rfl,rfl⟩
 ·refine(intKind prog w).eqBool (a:=n) (b:=m) h1 h2 ?_;rw[show decide (n=m)=decide (Cell.i n=Cell.i m) from b9b.mpr ⟨λz=>by rw[z],λz=>by cases z;rfl⟩];exact h
 ·obtain⟨a,rfl,ha⟩:=h1;obtain⟨b,rfl,hb⟩:=h2;refine wpAny_eqBool_tuple hu ha hb ?_;rw[show decide (k=l)=decide (Cell.t k=Cell.t l) from b9b.mpr ⟨λz=>by rw[z],λz=>by cases z;rfl⟩];exact h
theorem a5s {cs:List Cell} {a:Addr} {Q:Int->Shared->Prop} (hu:A.units+1<cLine) (hk:a1d prog w s.heap cs a) (h:Q (a2R prog w cs) { s with toks:=s.toks+a2q cs }) :
  wpAny (model prog w) A (pyHash (.ref a)) Q E s:=by
 have hT:=hk.typeIs;obtain⟨o,items,n,ho,_,hd,hi⟩:=hk;unfold pyHash
 first|unfold pyHashByItsType|skip
 first|refine b4n (wpAny_cRoomFor_or (.inr (show A.units<cLine by omega)) ?_)|skip
 refine b4n (b7a hT b7x.lookup ?_);show wpAny _ _ (if (some (Value.builtin "tuple.__hash__")==some Value.none)=true then _ else _) Q E s;rw[if_neg (by rw[beq_builtin_none];exact b4R)];refine b4n (b7a hT b7x.lookup ?_);show wpAny _ _ (callSpecialIfBoundUnlessNone? (.ref a) "__hash__" _ >>= _) Q E s;refine b4n (wpAny_callSpecialIfBoundUnlessNone?_slot hT b7x (b4Z b7x hT PySem.F.entry_tuple_hash ?_ (PySem.F.args_tuple_hash_1 _)));show wpAny _ _ (Builtin.Tuple.tupleItemsOf (.ref a) >>= _) _ _ s;refine b4n (b9G ho hd ?_);refine b4n ?_;rw[<-b6l];refine b7z _
  (λrest (b:Array Int) s'=>∃done left,cs=done++left/\Paired (a1C prog w s.heap) rest left/\b.toList=done.map (a1G prog w)/\s'={ s with toks:=s.toks+(done.map a3r).sum })
  _ ?_ ?_ _ _ ⟨[],cs,rfl,hi,rfl,rfl⟩
 ·rintro x rest b s' ⟨done,left,rfl,hl,hb,rfl⟩;cases hl with
  | @cons _ k _ ks' h1 hl' =>
   refine b4n (a9v (A:=_) ?_ h1 ?_)
   ·show A.units+1<cLine;exact hu
   first
    | exact b4r ⟨done++[k],ks',by simp,hl',by simp[hb],by simp[b8u]⟩
    | exact b4n (b4r (b4r ⟨done++[k],ks',by simp,hl',by simp[hb],by simp[b8u]⟩))
 ·rintro b s' ⟨done,left,rfl,hl,hb,rfl⟩;cases hl;rw[b5W] at h;show wpAny _ _ (retInt (Builtin.Tuple.tupleHashOf b.toList)) _ _ _;rw[hb];refine wpAny_ret_mkInt ?_;show wpAny _ _ (if (decide (-(2:Int) ^ 63<=Builtin.Tuple.tupleHashOf (done.map (a1G prog w)))&&decide (Builtin.Tuple.tupleHashOf (done.map (a1G prog w))<2 ^ 63))=true then _ else _) Q E _;unfold a2R reduceHash a2q at h;by_cases hr:(decide (-(2:Int) ^ 63<=Builtin.Tuple.tupleHashOf (done.map (a1G prog w)))&&decide (Builtin.Tuple.tupleHashOf (done.map (a1G prog w))<2 ^ 63))=true
  ·rw[if_pos hr];rw[if_pos hr] at h;exact b4r (by simpa [b8u] using h)
  ·rw[if_neg hr];rw[if_neg hr] at h;exact b4n (b5T (b4r (by simpa [b8u] using h)))
noncomputable def Like (c d:Cell):Prop:=(∃n m,c=.i n/\d=.i m)\/∃k l,c=.t k/\d=.t l
theorem a5t {x y:List Cell} {a b:Addr} {P:Fin->Shared->Prop} (hu:A.units<cLine) (lk:Paired Like x y) (hx:a1d prog w s.heap x a) (hy:a1d prog w s.heap y b) (h:P (.done (.ret (.bool (decide (x=y))))) s) :
  wpAny (model prog w) A (Builtin.«tuple.__eq__» ⟨[.ref a,.ref b],[]⟩) P E s:=by
 have hTb:=hy.typeIs;obtain⟨oa,xs,na,hoa,_,hda,hia⟩:=hx;obtain⟨ob,ys,nb,hob,_,hdb,hib⟩:=hy;show wpAny _ _ (isInstance (.ref b) (.type "tuple") >>= _) _ _ s;refine b4n (b6L hTb b8U ?_);simp only[b8v,b5b,b6B];refine b4n (b9G hoa hda ?_);refine b4n (b9G hob hdb ?_);refine b4n ?_;refine b7z _
  (λrest r s'=>r.1=none/\s'=s/\∃x' y' xs' ys',rest=List.zip xs' ys'/\Paired Like x' y'/\Paired (a1C prog w s.heap) xs' x'/\Paired (a1C prog w s.heap) ys' y'/\decide (x'=y')=decide (x=y)/\(xs'.length==ys'.length)=(xs.size==ys.size))
  _ ?_ ?_ _ _ ⟨rfl,rfl,x,y,xs.toList,ys.toList,rfl,lk,hia,hib,rfl,by simp⟩
 ·rintro⟨u,v⟩ rest r s' ⟨hr,rfl,x',y',xs',ys',hz,lk',hx',hy',hdec,hlen⟩;cases hx' with
  | nil=>simp at hz
  | @cons u' k1 xs'' x'' h1 hx'' =>
   cases hy' with
   | nil=>simp at hz
   | @cons v' k2 ys'' y'' h2 hy'' =>
    simp only[b7g,List.cons.injEq,Prod.mk.injEq] at hz;obtain⟨⟨rfl,rfl⟩,rfl⟩:=hz;cases lk' with
    | cons l1 l2 =>
    refine b4n (b3p (c:=k1) (d:=k2) hu h1 h2 l1 ?_);by_cases hk:k1=k2
    ·subst hk;rw[b4W rfl];simp only[b8v,b5b,b6B];refine b4r ⟨rfl,rfl,x'',y'',xs'',ys'',rfl,l2,hx'',hy'',?_,by simpa using hlen⟩;rw[<-hdec];by_cases hxy:x''=y''
     ·simp[hxy]
     ·simp[hxy]
    ·rw[b5s hk];simp only[Bool.not_false,if_true];have hf:decide (x=y)=false:=by rw[<-hdec];simp[hk]
     rw[hf] at h;exact b4n (b4r (b4r (b4r h)))
 ·rintro⟨r1,r2⟩ s' ⟨hr,rfl,x',y',xs',ys',hz,lk',hx',hy',hdec,hlen⟩;simp only at hr;subst hr;refine b4r ?_;have hfin:(xs.size==ys.size)=decide (x=y):=by
   rw[<-hdec,<-hlen];cases hx' with
   | nil =>
    cases hy' with
    | nil=>simp
    | cons _ _=>simp
   | cons _ _ =>
    cases hy' with
    | nil=>simp
    | cons _ _=>simp at hz
  show P (.done (.ret (.bool (xs.size==ys.size)))) s';rw[hfin];exact h
theorem a2c {x y:List Cell} {a b:Addr} {Q:Bool->Shared->Prop} (hu:A.units+1<cLine) (lk:Paired Like x y) (hx:a1d prog w s.heap x a) (hy:a1d prog w s.heap y b) (h:Q (decide (x=y)) s) :
  wpAny (model prog w) A (eqBool (.ref a) (.ref b)) Q E s:=by
 unfold eqBool
 try with_reducible refine b4T ?_
 show wpAny _ _ (if (Value.ref a==Value.ref b)=true then _ else _) Q E s;by_cases hab:(Value.ref a==Value.ref b)=true
 ·rw[if_pos hab];have e:a=b:=by have:=eq_of_beq hab;injection this
  subst e;have e2:=hx.inj hy;subst e2;exact b4n (b5T (b4r (by simpa using h)))
 ·rw[if_neg hab];exact b4n (wpAny_richCompare_same_room (op:=.Eq) hx.typeIs hy.typeIs b7U
   (b4Z b7U hx.typeIs PySem.F.entry_tuple_eq (a5t (by first|exact hu|(show A.units+1<cLine;exact hu)) lk hx hy ⟨_,rfl,(λe=>nomatch e),b6v h⟩) (PySem.F.args_tuple_eq_2 _ _)) (by omega))
theorem a6d {m:Nat} {ks:List Int} {a:Addr} {Q:Bool->Shared->Prop} (hk:IsTupleKey (intKind prog w) s.heap ks a) (h:Q true s):wpAny (model prog w) A (eqIsQuiet (m+1) (.ref a)) Q E s:=by
 have hT:=hk.typeIs;obtain⟨o,items,n,ho,_,hd,hi⟩:=hk;unfold eqIsQuiet;refine b4n (b7a hT b7U.lookup ?_);show wpAny _ _ (isInstance (.ref a) (.type "tuple") >>= _) _ _ s;refine b4n (b6L hT b8U ?_);simp only[b8v,b5b,b6B];refine b4n (b5i ho hd ?_);refine b4n ?_;show wpAny _ _ (forIn items _ _) _ _ s;rw[<-b6l];refine b7z _ (λrest r s'=>r.1=none/\s'=s/\∀v∈rest,carriedByValue v=true) _ ?_ ?_ _ _ ⟨rfl,rfl,hi.byValue⟩
 ·rintro v rest r s' ⟨hr,rfl,hall⟩;rw[eqIsQuiet_byValue _ (hall v b7J)];refine b4n (b4r ?_);simp only[b8v,b5b,b6B];exact b4r ⟨rfl,rfl,λu hu'=>hall u (b6J _ hu')⟩
 ·rintro⟨r1,r2⟩ s' ⟨hr,rfl,_⟩;simp only at hr;subst hr;exact b4r h
theorem a3U {cs:List Cell} {a:Addr} {Q:Bool->Shared->Prop} (hk:a1d prog w s.heap cs a) (h:Q true s):wpAny (model prog w) A (eqIsQuiet 8 (.ref a)) Q E s:=by
 have hT:=hk.typeIs;obtain⟨o,items,n,ho,_,hd,hi⟩:=hk;unfold eqIsQuiet;refine b4n (b7a hT b7U.lookup ?_);show wpAny _ _ (isInstance (.ref a) (.type "tuple") >>= _) _ _ s;refine b4n (b6L hT b8U ?_);simp only[b8v,b5b,b6B];refine b4n (b5i ho hd ?_);refine b4n ?_;show wpAny _ _ (forIn items _ _) _ _ s;rw[<-b6l];refine b7z _ (λrest r s'=>r.1=none/\s'=s/\∃left,Paired (a1C prog w s.heap) rest left) _ ?_ ?_ _ _ ⟨rfl,rfl,cs,hi⟩
 ·rintro v rest r s' ⟨hr,rfl,left,hall⟩;cases hall with
  | @cons _ c _ left' h1 h2 =>
  refine b4n ?_;have go:wpAny (model prog w) A (eqIsQuiet 7 v) (λb s''=>b=true/\s''=s') E s':=by
   cases c with
   | i n =>
    rw[eqIsQuiet_byValue _ ((intKind prog w).byValue _ _ h1)];exact b4r ⟨rfl,rfl⟩
   | t ks =>
    obtain⟨b,rfl,hb⟩:=h1;exact a6d (m:=6) hb ⟨rfl,rfl⟩
  refine b6Y go ?_ (λ_ _ z=>z);rintro b s'' ⟨rfl,rfl⟩;simp only[b8v,b5b,b6B];exact b4r ⟨rfl,rfl,left',h2⟩
 ·rintro⟨r1,r2⟩ s' ⟨hr,rfl,_⟩;simp only at hr;subst hr;exact b4r h
noncomputable def a0n (prog:Program) (w:World):HeapKind prog w (Int × List Int) where
 is:=λh k a=>a1d prog w h [.i k.1,.t k.2] a
 hash:=λk=>a2R prog w [.i k.1,.t k.2]
 draws:=λk=>a2q [.i k.1,.t k.2]
 room:=λA=>A.units+1<cLine
 inj:=λ{h a x y} hx hy=>by
  have:=hx.inj hy;injection this with h1 h2;injection h1 with h1;injection h2 with h2 _;injection h2 with h2;exact b8I h1 h2
 keeps:=λx ho hd hs=>x.keeps ho hd hs
 pyHash:=λhu hk h=>a5s hu hk h
 eqBool:=λ{A E s x y a b Q} hu hx hy h=>by
  refine a2c hu (.cons (.inl ⟨_,_,rfl,rfl⟩) (.cons (.inr ⟨_,_,rfl,rfl⟩) .nil)) hx hy ?_;rw[show decide ([Cell.i x.1,.t x.2]=[Cell.i y.1,.t y.2])=decide (x=y) from b9b.mpr ⟨λz=>by
   injection z with h1 h2;injection h1 with h1;injection h2 with h2 _;injection h2 with h2;exact b8I h1 h2,λz=>by rw[z]⟩]
  exact h
 quiet:=λhk h=>a3U hk h
noncomputable def b1f (prog:Program) (w:World):HeapKind prog w (List Int × Int) where
 is:=λh k a=>a1d prog w h [.t k.1,.i k.2] a
 hash:=λk=>a2R prog w [.t k.1,.i k.2]
 draws:=λk=>a2q [.t k.1,.i k.2]
 room:=λA=>A.units+1<cLine
 inj:=λ{h a x y} hx hy=>by
  have:=hx.inj hy;injection this with h1 h2;injection h1 with h1;injection h2 with h2 _;injection h2 with h2;exact b8I h1 h2
 keeps:=λx ho hd hs=>x.keeps ho hd hs
 pyHash:=λhu hk h=>a5s hu hk h
 eqBool:=λ{A E s x y a b Q} hu hx hy h=>by
  refine a2c hu (.cons (.inr ⟨_,_,rfl,rfl⟩) (.cons (.inl ⟨_,_,rfl,rfl⟩) .nil)) hx hy ?_;rw[show decide ([Cell.t x.1,.i x.2]=[Cell.t y.1,.i y.2])=decide (x=y) from b9b.mpr ⟨λz=>by
   injection z with h1 h2;injection h1 with h1;injection h2 with h2 _;injection h2 with h2;exact b8I h1 h2,λz=>by rw[z]⟩]
  exact h
 quiet:=λhk h=>a3U hk h
end
section
variable {P:Program} {w:World} {H:Hp} {h:Heap} {a b d:Addr}
theorem a6V {n:Int} {v:Value} (r:a0T (.int n) v):(intKind P w).is n v=true:=by
 obtain⟨t,rfl⟩:=(show ∃t,v=Value.int n t from r)
 show Value.isInt n (.int n t)=true;simp[Value.isInt]
theorem a4v:∀{ks:List Int} {vs:List Value},a0C (ks.map V.int) vs->ItemsAre (intKind P w) ks vs
 | [],_,r=>by cases r;exact .nil
 | k::ks,_,r=>by
  cases r with
  | cons h1 h2=>exact .cons (a6V h1) (a4v h2)
theorem b2k {ks:List Int} (ok:HOk P w H h) (e:H a=some (.tup (ks.map V.int))):IsTupleKey (intKind P w) h ks a:=by
 obtain⟨_,its,r,o,h1,h2,n,h3⟩:=a1B (show a0B P w H h a (.tup (ks.map V.int)) from ok a _ e);exact⟨o,its.toArray,n,h1,h2,h3,by simpa using a4v r⟩
noncomputable def NAt (H:Hp) (k:Int × List Int) (a:Addr):Prop:=∃b,H a=some (.tup [.int k.1,.ref b])/\H b=some (.tup (k.2.map V.int))
noncomputable def WAt (H:Hp) (k:List Int × Int) (a:Addr):Prop:=∃b,H a=some (.tup [.ref b,.int k.2])/\H b=some (.tup (k.1.map V.int))
theorem NAt.is {k:Int × List Int} (ok:HOk P w H h) (x:NAt H k a):(a0n P w).is h k a:=by
 obtain⟨b,e,eb⟩:=x;obtain⟨_,its,r,o,h1,h2,n,h3⟩:=a1B (show a0B P w H h a (.tup [.int k.1,.ref b]) from ok a _ e);refine⟨o,its.toArray,n,h1,h2,h3,?_⟩;cases r with
 | cons r1 r2 =>
  cases r2 with
  | cons r2 r3 =>
   cases r3;exact .cons (a6V r1) (.cons ⟨b,r2,b2k ok eb⟩ .nil)
theorem WAt.is {k:List Int × Int} (ok:HOk P w H h) (x:WAt H k a):(b1f P w).is h k a:=by
 obtain⟨b,e,eb⟩:=x;obtain⟨_,its,r,o,h1,h2,n,h3⟩:=a1B (show a0B P w H h a (.tup [.ref b,.int k.2]) from ok a _ e);refine⟨o,its.toArray,n,h1,h2,h3,?_⟩;cases r with
 | cons r1 r2 =>
  cases r2 with
  | cons r2 r3 =>
   cases r3;exact .cons ⟨b,r1,b2k ok eb⟩ (.cons (a6V r2) .nil)
end
section
variable {P:Program} {w:World} {KK:Type} [DecidableEq KK] (knd:HeapKind P w KK)
noncomputable def a6W (kvs:List (KK × Addr × V)) (xs:List (KK × Addr × Value)):Prop:=Paired (λp q=>p.1=q.1/\p.2.1=q.2.1/\a0T p.2.2 q.2.2) kvs xs
noncomputable def NDx (d:Addr) (kvs:List (KK × Addr × V)) (h:Heap):Prop:=(d==sysModules)=false/\kvs.length<=sizeLine/\∃xs:List (KK × Addr × Value),a6W kvs xs/\∃o es ep,h.get? d=some o/\o.ExactDict/\o.data=.dict es ep/\es.toList=xs.map (entryOfKey knd)/\(xs.map (·.1)).Nodup
noncomputable def NDO (d:Addr) (kvs:List (KK × Addr × V)):HO:=.ext (NDx knd d kvs)
variable {knd}
theorem NDx.keep {d:Addr} {kvs:List (KK × Addr × V)} {h1 h2:Heap} (x:NDx knd d kvs h1) (k:∀o,h1.get? d=some o->h2.get? d=some o):NDx knd d kvs h2:=by
 obtain⟨h0,hl,xs,r,o,es,ep,e1,e2⟩:=x;exact⟨h0,hl,xs,r,o,es,ep,k _ e1,e2⟩
theorem NDx.ok {H:Hp} {h:Heap} {d:Addr} {kvs:List (KK × Addr × V)} (x:NDx knd d kvs h):a0B P w H h d (NDO knd d kvs):=⟨x,(let ⟨_,_,_,_,o,_,_,e,_⟩:=x;⟨o,e⟩),λh1 h2 y k=>y.keep k⟩
theorem a4w {H:Hp} {h:Heap} {d:Addr} {kvs:List (KK × Addr × V)} (ok:HOk P w H h) (e:H d=some (NDO knd d kvs)) (ka:∀p∈kvs,knd.is h p.1 p.2.1):(d==sysModules)=false/\kvs.length<=sizeLine/\∃xs,a6W kvs xs/\h.DictOfH knd d xs:=by
 have z0:=(show a0B P w H h d (NDO knd d kvs) from ok d _ e).1;obtain⟨h0,hl,xs,r,o,es,ep,e1,e2,e3,e4,e5⟩:=(show NDx knd d kvs h from z0)
 refine⟨h0,hl,xs,r,o,es,ep,e1,e2,e3,e4,λx hx=>?_,e5⟩;clear e4 e5 e hl z0;unfold a6W at r
 induction r with
 | nil=>cases hx
 | cons h1 _ ih =>
  rcases b4K.mp hx with z|z
  ·subst z;have:=ka _ (.head _);rw[h1.1,h1.2.1] at this;exact this
  ·exact ih (λp hp=>ka p (.tail _ hp)) z
noncomputable def nval (kvs:List (KK × Addr × V)) (k:KK):Option V:=(kvs.find? λx=>decide (x.1=k)).map (·.2.2)
theorem a6W.val {kvs:List (KK × Addr × V)} {xs:List (KK × Addr × Value)} (r:a6W kvs xs) (k:KK):b0F (nval kvs k) ((atKey xs k).map (·.2)):=by
 unfold a6W at r
 induction r with
 | nil=>exact True.intro
 | cons h1 _ ih =>
  unfold nval atKey at ih ⊢;rw[List.find?_cons,List.find?_cons,h1.1];split
  ·exact h1.2.2
  ·exact ih
end
section
variable {X:Cx} {KK:Type} [DecidableEq KK] {knd:HeapKind X.prog X.w KK} {pins:List (Addr × Obj)} {σ:St} {H:Hp} {s:Shared} {a d:Addr} {v:V} {r:Value} {A:Around} {E:Value->Shared->Prop} {kvs:List (KK × Addr × V)} {k:KK}
theorem nd_get {Q:Value->Shared->Prop} (hu:knd.room A.in1) (I:Inv X pins σ H s) (e:H d=some (NDO knd d kvs)) (ka:∀p∈kvs,knd.is s.heap p.1 p.2.1) (kk:knd.is s.heap k a) (l:nval kvs k=some v) (h:∀w' s',Inv X pins σ H s'->a0T v w'->Q w' s'):wpAny (model X.prog X.w) A (getItem (.ref d) (.ref a)) Q E s:=by
 obtain⟨hd,_,xs,rel,dd⟩:=a4w I.hok e ka;obtain⟨w',hw,rw'⟩:=b0F.some_of (v:=v) (o:=(atKey xs k).map (·.2)) (by rw[<-l];exact rel.val k);obtain⟨p,hp,hp2⟩:=b5q.mp hw;refine wpAny_getItem_heap hu kk dd hp ?_;rw[hp2];exact h w' _ (I.tok _) rw'
theorem b1g {Q:Value->Shared->Prop} (hu:knd.room A.in1) (I:Inv X pins σ H s) (e:H d=some (NDO knd d kvs)) (ka:∀p∈kvs,knd.is s.heap p.1 p.2.1) (kk:knd.is s.heap k a) (h:∀s',Inv X pins σ H s'->Q (.bool (!(nval kvs k).isSome)) s'):wpAny (model X.prog X.w) A (compareOp .NotIn (.ref a) (.ref d)) Q E s:=by
 obtain⟨hd,_,xs,rel,dd⟩:=a4w I.hok e ka;refine wpAny_notIn_heap hu kk hd dd ?_;have q:=(rel.val k).isSome_eq;rw[b8G] at q;rw[<-q];exact h _ (I.tok _)
noncomputable def nput (kvs:List (KK × Addr × V)) (k:KK) (a:Addr) (v:V):List (KK × Addr × V):=if (nval kvs k).isSome then kvs.map λx=>if x.1=k then (x.1,x.2.1,v) else x else kvs++[(k,a,v)]
theorem a6W.putm {xs:List (KK × Addr × Value)} {u:Value} (rel:a6W kvs xs) (rv:a0T v u):a6W (kvs.map λx=>if x.1=k then (x.1,x.2.1,v) else x) (xs.map (putAt k u)):=by
 unfold a6W at rel ⊢
 induction rel with
 | nil=>exact .nil
 | @cons x y _ _ h1 _ ih =>
  refine .cons ?_ ih;unfold putAt;dsimp only;by_cases z:x.1=k
  ·rw[if_pos z,if_pos (h1.1.symm.trans z)];exact⟨h1.1,h1.2.1,rv⟩
  ·rw[if_neg z,if_neg (λy=>z (h1.1.trans y))];exact h1
theorem a6W.put {xs:List (KK × Addr × Value)} {u:Value} (rel:a6W kvs xs) (rv:a0T v u):a6W (nput kvs k a v) (storedH xs k a u):=by
 have q:=(rel.val k).isSome_eq;rw[b8G] at q;unfold nput;cases e:atKey xs k with
 | none =>
  rw[e] at q;rw[storedH_new e,if_neg (by rw[q];decide)];exact Paired.appendP rel (.cons ⟨rfl,rfl,rv⟩ .nil)
 | some p =>
  rw[e] at q;rw[storedH_old e,if_pos (show(nval kvs k).isSome=true from q)];exact rel.putm rv
theorem b1h:(nput kvs k a v).length<=kvs.length+1:=by
 unfold nput;split
 ·rw[b4p];omega
 ·rw[b4A];exact b4z _
theorem nd_put {Q:Unit->Shared->Prop} (hu:knd.room A.in1) (I:Inv X pins σ H s) (e:H d=some (NDO knd d kvs)) (ka:∀p∈kvs,knd.is s.heap p.1 p.2.1) (kk:knd.is s.heap k a) (hl:kvs.length<sizeLine) (rv:a0T v r) (h:∀s',Inv X pins σ (upd H d (NDO knd d (nput kvs k a v))) s'->Q () s'):wpAny (model X.prog X.w) A (setItem (.ref d) (.ref a) r) Q E s:=by
 obtain⟨hd,_,xs,rel,dd⟩:=a4w I.hok e ka;have hz:xs.length<=sizeLine:=by rw[<-b9e rel];omega
 refine wpAny_setItem_heap (hsz:=hz) hu kk dd λh' dd' hs=>h _ ?_;obtain⟨q,es,ep,hq,h2,h3,h4,_,h5⟩:=dd';have hn:(nput kvs k a v).length<=sizeLine:=by have:=b1h (kvs:=kvs) (k:=k) (a:=a) (v:=v);omega
 exact b3a I (by rw[e];exact True.intro) hs ⟨q,hq⟩ (NDx.ok ⟨hd,hn,_,rel.put rv,q,es,ep,hq,h2,h3,h4,h5⟩)
theorem nd_new (I:Inv X pins σ H s) (e:H d=some (.dK [])):Inv X pins σ (upd H d (NDO knd d [])) s:=by
 obtain⟨_,hd,vs,rel,dd⟩:=dk_of I.hok e;cases rel;obtain⟨o,es,ep,e1,e2,e3,_,e5,_⟩:=dd;have em:es.toList=[]:=by cases hh:es.toList with
  | nil=>rfl
  | cons x l=>rw[hh] at e5;cases e5
 exact I.write (t':=s.toks) (x:=d) (e:=d) (by rw[e];exact True.intro) (.inl rfl) (λb q hb z=>z) ⟨o,e1⟩ (NDx.ok ⟨hd,b5j _,[],.nil,o,es,ep,e1,e2,e3,em,List.nodup_nil⟩)
end
structure NKd (X:Cx) (KK:Type) [DecidableEq KK] where
 knd:HeapKind X.prog X.w KK
 At:Hp->KK->Addr->Prop
 is:∀{pins:List (Addr × Obj)} {σ:St} {H:Hp} {s:Shared} {k:KK} {a:Addr},Inv X pins σ H s->At H k a->knd.is s.heap k a
 rm:∀{A:Around},A.units+2<cLine->knd.room A.in1
noncomputable def FAt (K:PySem.W.Frag) (H:Hp) (k:Int × List Int) (a:Addr):Prop:=∃b,SqT K H a [.int k.1,.ref b]/\SqT K H b (k.2.map V.int)
theorem FAt.is {X:Cx} {pins:List (Addr × Obj)} {σ:St} {H:Hp} {s:Shared} {k:Int × List Int} {a:Addr} (I:Inv X pins σ H s) (x:FAt X.K H k a):(a0n X.prog X.w).is s.heap k a:=by
 obtain⟨b,e,eb⟩:=x;obtain⟨its,r,⟨o,h1,h2,n,h3⟩,_⟩:=I.tuple e;obtain⟨its2,r2',⟨o2,g1,g2,n2,g3⟩,_⟩:=I.tuple eb;refine⟨o,its.toArray,n,h1,h2,h3,?_⟩;cases r with
 | cons r1 r2 =>
  cases r2 with
  | cons r2 r3 =>
   cases r3;exact .cons (a6V r1) (.cons ⟨b,r2,o2,its2.toArray,n2,g1,g2,g3,by simpa using a4v r2'⟩ .nil)
noncomputable def nkN (X:Cx):NKd X (Int × List Int):=⟨a0n X.prog X.w,FAt X.K,λI x=>FAt.is I x,λ{A} h=>(show A.units+1+1<cLine from h)⟩
section
variable {X:Cx} {KK:Type} [DecidableEq KK] (N:NKd X KK)
noncomputable def NIs (H:Hp) (d:Addr) (kvs:List (KK × Addr × V)):Prop:=(H d=some (NDO N.knd d kvs)\/(H d=some (.dK [])/\kvs=[]))/\∀p∈kvs,N.At H p.1 p.2.1
noncomputable def sNPut (td ty tv:TE):TS:=λD σ H=>tv σ H λv H1=>td σ H1 λx H2=>ty σ H2 λy H3=>∃d a k kvs,x=.ref d/\y=.ref a/\NIs N H3 d kvs/\N.At H3 k a/\kvs.length<sizeLine/\D.nx σ (upd H3 d (NDO N.knd d (nput kvs k a v)))
noncomputable def tNGet (td ty:TE):TE:=λσ H Q=>td σ H λx H1=>ty σ H1 λy H2=>∃d a k kvs v,x=.ref d/\y=.ref a/\NIs N H2 d kvs/\N.At H2 k a/\nval kvs k=some v/\Q v H2
noncomputable def rNNot:R2:=λx y H Q=>∃a d k kvs,x=.ref a/\y=.ref d/\NIs N H d kvs/\N.At H k a/\Q (.bl (!(nval kvs k).isSome)) (upd H d (NDO N.knd d kvs))
variable {N}
theorem b1i {H:Hp} {d:Addr} {o:HO} (h:H d=some o):upd H d o=H:=by
 funext b;unfold upd;split
 ·rename_i e;rw[e,h]
 ·rfl
theorem NIs.cast {pins:List (Addr × Obj)} {σ:St} {H:Hp} {s:Shared} {d:Addr} {kvs:List (KK × Addr × V)} (x:NIs N H d kvs) (I:Inv X pins σ H s):Inv X pins σ (upd H d (NDO N.knd d kvs)) s:=by
 rcases x.1 with e|⟨e,rfl⟩
 ·rw[b1i e];exact I
 ·exact nd_new I e
theorem b3q {o i value:Expr} {pos pos':Pos} {td ty tv:TE} (hu:X.A.units+2<cLine) (ho:PE X o td) (hi:PE X i ty) (hv:PE X value tv) (hs:swapsWith value (some (.Subscript o i pos')) pos.line X.env=pure false) :
  PS X (.Assign [.Subscript o i pos'] value pos) (sNPut N td ty tv):=by
 intro pins s σ H D I h;refine wpAny_Assign_Subscript (thn (hv pins s σ H _ I h) λr s1 ⟨v,H1,I1,rv,q1⟩=>thn (ho pins s1 σ H1 _ I1 q1) λu s2 ⟨x,H2,I2,rx,q2⟩=>thn (hi pins s2 σ H2 _ I2 q2) λiv s3 ⟨y,H3,I3,ry,d,a,k,kvs,ex,ey,ni,ka,hl,q3⟩=>?_) hs;subst ex;subst ey;have eu:u=Value.ref d:=rx;have ei:iv=Value.ref a:=ry;subst eu;subst ei;have I4:=ni.cast I3;refine nd_put (N.rm hu) I4 a0b (λp hp=>N.is I3 (ni.2 p hp)) (N.is I3 ka) hl rv λs4 I5=>⟨σ,_,I5,?_⟩
 rw[b2E];exact q3
theorem b3r (hu:X.A.units+2<cLine):OpR X (compareOp .NotIn) (rNNot N):=by
 intro pins s σ H x y v u Q I rx ry h;obtain⟨a,d,k,kvs,rfl,rfl,ni,ka,q⟩:=h;have ev:v=Value.ref a:=rx;have eu:u=Value.ref d:=ry;subst ev;subst eu;exact b1g (N.rm hu) (ni.cast I) a0b (λp hp=>N.is I (ni.2 p hp)) (N.is I ka) λs' I'=>⟨.bl _,_,I',rfl,q⟩
theorem b3s {o i:Expr} {pos:Pos} {td ty:TE} (hu:X.A.units+2<cLine) (ho:PE X o td) (hi:PE X i ty) (hs:NoSl i):PE X (.Subscript o i pos) (tNGet N td ty):=by
 intro pins s σ H Q I h;refine b3b PySem.F.slot_dict_getitem.lookup hs (thn (ho pins s σ H _ I h) λu s1 ⟨x,H1,I1,rx,q1⟩=>thn (hi pins s1 σ H1 _ I1 q1) λiv s2 ⟨y,H2,I2,ry,d,a,k,kvs,v,ex,ey,ni,ka,hv,q2⟩=>?_);subst ex;subst ey;have eu:u=Value.ref d:=rx;have ei:iv=Value.ref a:=ry;subst eu;subst ei;have e:H2 d=some (NDO N.knd d kvs):=by
  rcases ni.1 with e|⟨_,rfl⟩
  ·exact e
  ·cases hv
 have ks:=λp hp=>N.is I2 (ni.2 p hp);obtain⟨_,_,xs,_,dd⟩:=a4w I2.hok e ks;exact⟨dd.typeIs,nd_get (N.rm hu) I2 e ks (N.is I2 ka) hv λw' s3 I3 rw'=>⟨v,H2,I3,rw',q2⟩⟩
end
section
variable {P:Program} {w:World} {KK:Type} [DecidableEq KK]
noncomputable def NW1 (knd:HeapKind P w KK) (H:Hp) (d:Addr) (kvs:List (KK × Addr × V)):Prop:=H d=some (NDO knd d kvs)\/∃ob,H d=some (.frz ob (NDO knd d kvs))
noncomputable def NW (knd:HeapKind P w KK) (H:Hp) (d:Addr) (kvs:List (KK × Addr × V)):Prop:=NW1 knd H d kvs\/(H d=some (.dK [])/\kvs=[])
end
section
variable {X:Cx} {KK:Type} [DecidableEq KK] {knd:HeapKind X.prog X.w KK}
end
end L2
namespace L2
open PySem PySem.Spec PyProof.Rows PySem.W
open Classical in
noncomputable def kOf (h:Heap) (v:Value):List Int:=if e:∃k,a4k h v k then Classical.choose e else []
theorem a9w {h:Heap} {v:Value} {k:List Int} (t:a4k h v k):kOf h v=k:=by
 have e:∃k,a4k h v k:=⟨k,t⟩
 unfold kOf;rw[dif_pos e];exact(Classical.choose_spec e).inj t
abbrev PsK:=List (List Int × Value)
noncomputable def KOrd (b:Bool) (p q:List Int × Value):Prop:=if b=true then HT.a0I p.1 q.1=false else HT.a0I q.1 p.1=false
section
variable {prog:Program} {w:World} {A:Around} {E:Value->Shared->Prop} {s:Shared}
theorem a7Z {a kS:Addr} {vs kv:List Value} {ks:List (List Int)} {e1 e:Nat} {b:Bool} {P:PySem.Fin->Shared->Prop} (ho:s.heap.get? a=some (seqObj "list" #[] e1)) (hS:s.heap.get? kS=some (seqObj "list" kv.toArray e)) (hne:kS≠a) (hz:vs.length<=100000) (hl:kv.length=vs.length) (hk:ks.length=vs.length) (t:∀i,i<vs.length->a4k s.heap (kv.getD i Value.none) (ks.getD i [])) (nn:∀k∈ks,k≠[])
  (h:∀(h':Heap) (ps:PsK) (c:Nat),ps.Perm (ks.zip vs)->ps.Pairwise (KOrd b)->h'.get? a=some (seqObj "list" (ps.map Prod.snd).toArray c)->(∀b o,b≠a->b≠kS->s.heap.get? b=some o->h'.get? b=some o)->P (.done (.ret .none)) { s with heap:=h' }) :
  wpAny (model prog w) A (ksk_end a b vs.toArray e1 (.ref kS) kv.toArray) P E s:=by
 obtain⟨e2,hS2⟩:∃e2,(s.heap.update kS (Obj.mapSeq λ_=>(#[]:Array Value))).get? kS=some (seqObj "list" #[] e2):=⟨_,b5Y hS λ_=>#[]⟩
 have ho2:(s.heap.update kS (Obj.mapSeq λ_=>(#[]:Array Value))).get? a=some (seqObj "list" #[] e1):=by rw[b4I _ _ _ _ hne.symm];exact ho
 have kp:∀b o,b≠kS->s.heap.get? b=some o->(s.heap.update kS (Obj.mapSeq λ_=>(#[]:Array Value))).get? b=some o:=λb o hb e=>by rw[b4I _ _ _ _ hb];exact e
 have last:∀(out:List Value),∃c,((s.heap.update kS (Obj.mapSeq λ_=>(#[]:Array Value))).update a (Obj.mapSeq λ_=>out.toArray)).get? a=some (seqObj "list" out.toArray c)/\(∀b o,b≠a->b≠kS->s.heap.get? b=some o->((s.heap.update kS (Obj.mapSeq λ_=>(#[]:Array Value))).update a (Obj.mapSeq λ_=>out.toArray)).get? b=some o):=λout =>
  ⟨_,b5Y ho2 λ_=>out.toArray,λb o hb hb2 e=>(b4I _ _ _ _ hb).trans (kp b o hb2 e)⟩
 have za:(kv.toArray.zip vs.toArray).toList=kv.zip vs:=by rw[Array.toList_zip]
 have zs:(kv.toArray.zip vs.toArray).size=vs.length:=by simp[hl]
 have kvt:∀v∈kv,∃k,k≠[]/\a4k s.heap v k:=λv hv=>by
  obtain⟨i,hi⟩:=b5R.mp hv;have il:=(b4u.mp hi).1;have z:=t i (by omega);rw[b4t,hi] at z;have hki:ks[i]?=some (ks[i]'(by omega)):=b4q _;have e:ks.getD i []=ks[i]'(by omega):=by rw[b4t,hki];rfl
  rw[e] at z;exact⟨_,nn _ (b6p (by omega:i<ks.length)),z⟩
 have kmap:(kv.zip vs).map (λx=>(kOf s.heap x.1,x.2))=ks.zip vs:=by
  refine b6g (by simp[hl,hk]) λi h1 h2=>?_;have il:i<vs.length:=by simp at h1;omega
  rw[b5m,b9c,b9c];have z:=t i il;rw[b4t,b4q (by omega),b4t,b4q (by omega)] at z;exact b8I (a9w z) rfl
 have hstart:(if b=true then (kv.toArray.zip vs.toArray).reverse else kv.toArray.zip vs.toArray).Perm (kv.toArray.zip vs.toArray):=by
  cases b with
  | false=>exact c0d _
  | true=>exact b5h.mpr (by rw[if_pos rfl,b7p];exact b7Y _)
 have step:∀t:Sem PySem.Fin,wpAny (model prog w) A t P E s->wpAny (model prog w) A (if b=true then (do let _ <-rule "list.sort.reverse";t) else t) P E s:=by
  intro t ht;split
  ·exact b4n (b5T ht)
  ·exact ht
 have tail:∀st:SortSt,(arrOf st).Perm (kv.toArray.zip vs.toArray)->failedOf st=none->(arrOf st).toList.Pairwise (λx y=>HT.a0I (kOf s.heap y.1) (kOf s.heap x.1)=false)->wpAny (model prog w) A (ksk_tail a b e1 (.ref kS) st) P E s:=λst pm hf pw=>by
  have pm0:=b5h.mp pm;rw[za] at pm0;have sz:(arrOf st).size=vs.length:=by rw[pm.size_eq,zs]
  have eo:(if b=true then ((arrOf st).map (·.2)).reverse else (arrOf st).map (·.2))=((((if b=true then (arrOf st).toList.reverse else (arrOf st).toList).map λx=>(kOf s.heap x.1,x.2)).map Prod.snd)).toArray:=by
   apply b8f.mp;cases b with
   | false=>simp[b5A]
   | true=>simp[b5A]
  obtain⟨c,hc,kk⟩:=last (((if b=true then (arrOf st).toList.reverse else (arrOf st).toList).map λx=>(kOf s.heap x.1,x.2)).map Prod.snd);unfold ksk_tail;dsimp only;refine b4n (b7v hS rfl ?_ (by rw[b4y,b5n];omega) (b5j _));refine b4n (b6H ?_);refine b4n (b9q ho2 rfl ?_);rw[eo];refine b4n (b7v ho2 rfl ?_ (b5j _) ?_)
  ·rw[hf];simp only[b9P,b5b,b6B];refine b4r (h _ _ c ?_ ?_ hc kk)
   ·rw[<-kmap];refine List.Perm.map _ (List.Perm.trans ?_ pm0);cases b with
    | false=>exact b8J _
    | true=>exact b7Y _
   ·rw[b5r];cases b with
    | false=>exact pw
    | true=>exact b8Q.mpr pw
  ·rw[b4y,b4p,b4p,b5n];have:(if b=true then (arrOf st).toList.reverse else (arrOf st).toList).length=vs.length:=by
    cases b with
    | false=>rw[if_neg (by decide),b4x,sz]
    | true=>rw[if_pos rfl,b8k,b4x,sz]
   omega
 unfold ksk_end;dsimp only;refine step _ ?_;by_cases h2:vs.toArray.size<2
 ·rw[if_pos h2,if_pos h2];refine b4n (b4r ?_);rw[StateT.run_pure];refine b4n (b4r ?_);dsimp only;refine tail (SortSt.mk' general' (if b=true then (kv.toArray.zip vs.toArray).reverse else kv.toArray.zip vs.toArray) #[] 7 none) hstart rfl ?_;rw[b4y] at h2;have:(arrOf (SortSt.mk' general' (if b=true then (kv.toArray.zip vs.toArray).reverse else kv.toArray.zip vs.toArray) #[] 7 none)).toList.length<=1:=by
   show(if b=true then (kv.toArray.zip vs.toArray).reverse else kv.toArray.zip vs.toArray).toList.length<=1;rw[b4x,hstart.size_eq,zs];omega
  match (arrOf (SortSt.mk' general' (if b=true then (kv.toArray.zip vs.toArray).reverse else kv.toArray.zip vs.toArray) #[] 7 none)).toList,this with
  | [],_=>exact .nil
  | [x],_=>exact b5c _ _
  | x::y::r,z=>simp at z
 ·rw[if_neg h2,if_neg h2];rw[b4y] at h2;refine b4n (a9g (s:=s) (by omega) (λv hv=>?_) ?_)
  ·obtain⟨k,hk0,z⟩:=kvt v hv;cases k with
   | nil=>exact absurd rfl hk0
   | cons n ns=>exact⟨n,ns,z⟩
  let S:Keyed->Prop:=λx=>x.1∈kv
  have C:Cmp prog w A E s (tuples' true) (λx y=>HT.a0I (kOf s.heap x.1) (kOf s.heap y.1)) S:=by
   intro x y st Q hx hy hκ q;rw[lt'_eq];refine b4G (wpS_get ?_);rw[hκ];obtain⟨k1,_,z1⟩:=kvt _ hx;obtain⟨k2,_,z2⟩:=kvt _ hy;have q:Q (some (HT.a0I (kOf s.heap x.1) (kOf s.heap y.1))) st:=q;rw[a9w z1,a9w z2] at q;obtain⟨b1,items,e,⟨ob,hb,hc,k,hd⟩,hi1⟩:=z1;obtain⟨b2,items2,e2,⟨ob2,hb2,hc2,k2,hd2⟩,hi2⟩:=z2;rw[e,e2];refine b4G (b9V (b6q (kat_lt hb hd hb2 hd2 (a6K _ _ _ _ 0 hi1 hi2 ?_ ⟨rfl,?_⟩))))
   ·have l1:=hi1.length;have l2:=hi2.length;simp only[b4x] at l1 l2;rw[l1,l2]
   ·exact b4M q
  have sa:SA (λx y=>HT.a0I (kOf s.heap x.1) (kOf s.heap y.1)) S (kv.toArray.zip vs.toArray):=by
   refine⟨⟨λx y q=>a3S _ _ q,λx y z q1 q2=>a9o _ _ _ q1 q2⟩,λx hx=>?_⟩;rw[za] at hx;obtain⟨i,hi⟩:=b5R.mp hx;rw[b7Z] at hi;exact b4B hi.1
  refine b4n (b6Y (a6O C sa (st:=SortSt.mk' (tuples' true) (if b=true then (kv.toArray.zip vs.toArray).reverse else kv.toArray.zip vs.toArray) #[] 7 none) (Q:=λ_ st'=>SB (tuples' true) (kv.toArray.zip vs.toArray) st'/\Srt (λx y=>HT.a0I (kOf s.heap x.1) (kOf s.heap y.1)) (arrOf st') 0 (kv.toArray.zip vs.toArray).size) ⟨hstart,rfl,rfl⟩ rfl λst' a1 a2=>⟨a1,a2⟩) ?_ λ_ _ e=>e);rintro⟨⟨⟩,st'⟩ s' ⟨rfl,hB,hS'⟩;dsimp only;refine tail st' hB.perm hB.failed ?_;rw[b5D];intro i j hi hj hij;rw[b4x] at hi hj;have g:∀{i:Nat} (h:i<(arrOf st').toList.length),(arrOf st').toList[i]=el (arrOf st') i:=λ{i} h=>by
   have e:=a1f (xs:=arrOf st') (i:=i) (by rw[b4x] at h;exact h);rw[b4q h] at e;exact b4N e
  rw[g,g];exact hS' i j (b5j _) hij (by rw[<-hB.size];exact hj)
end
section
variable {X:Cx} {k:Nat} {Rg:Addr->List V->Hp->VK->Prop} {pins:List (Addr × Obj)} {σ:St} {H:Hp} {a g kS:Addr} {xs:List V} {ks:Nat->List Int} {s:Shared} {P:PySem.Fin->Shared->Prop} {E:Value->Shared->Prop}
theorem a3s {b:Bool} (L:a7X X σ Rg) {vs:List Value} {e1:Nat} (J:Inv X pins σ H s) (ho:s.heap.get? a=some (seqObj "list" #[] e1)) (hS:s.heap.get? kS=some (seqObj "list" #[] 0)) (hne:kS≠a) (fa:∀H',H' a=none->a2w X pins H' a) (fS:∀H',H' kS=none->a2w X pins H' kS) (na:H a=none) (nS:H kS=none) (rv:a0C xs vs) (hz:vs.length<=100000)
  (hk:∀i x H1 Q1,xs[i]?=some x->a0r H H1->(∀t H2,a0r H1 H2->H2 t=some (.tup ((ks i).map V.int))->Q1 (.ref t) H2)->Rg g [x] H1 Q1) (nn:∀i,i<vs.length->ks i≠[])
  (h:∀(s':Shared) (H':Hp) (ps:PsK) (c:Nat),Inv X pins σ H' s'->a0r H H'->H' a=none->ps.Perm (((List.range vs.length).map ks).zip vs)->ps.Pairwise (KOrd b)->s'.heap.get? a=some (seqObj "list" (ps.map Prod.snd).toArray c)->P (.done (.ret .none)) s') :
  wpAny (model X.prog X.w) X.A.in1.in1 (ksk_rest a (.ref g) b vs.toArray e1 (.ref kS)) P E s:=by
 have hl:=rv.length;unfold ksk_rest;refine b4n (b5T ?_)
 first
  | rw[List.forIn_toArray]
  | (rw[<-b6l];simp only[List.toList_toArray])
  | rw[<-b6l]
 refine b4n (ksk_fold (λi s'=>∃(Hi:Hp) (ts:List Addr) (e:Nat),Inv X pins σ Hi s'/\a0r H Hi/\Hi a=none/\Hi kS=none/\s'.heap.get? a=some (seqObj "list" #[] e1)/\s'.heap.get? kS=some (seqObj "list" (ts.map Value.ref).toArray e)/\ts.length=i/\∀j t,ts[j]?=some t->Hi t=some (.tup ((ks j).map V.int))) vs 0 s
  ⟨H,[],0,J,a0r.refl _,na,nS,ho,hS,rfl,λj t z=>by simp at z⟩ ?step ?done)
 case step =>
  rintro j u s' hu ⟨Hi,ts,e,Ji,sm,nai,nSi,hoi,hSi,lt,hts⟩;simp only[b8R] at lt ⊢;have hj:j<vs.length:=(b4u.mp hu).1;have hx:xs[j]?=some (xs[j]'(by omega)):=b4q _;obtain⟨u',hu',ru⟩:=rv.get hx;rw[hu] at hu';cases hu';have J2:=Ji.pinned (fp:=[a,kS]) (λb hb=>by
   rcases b4K.mp hb with rfl|hb
   ·exact fa Hi nai
   ·rw[b4s.mp hb];exact fS Hi nSi) (λb hb=>by
   rcases b4K.mp hb with rfl|hb
   ·exact⟨_,hoi,λv z=>by cases z⟩
   ·rw[b4s.mp hb];exact⟨_,hSi,λv z=>by cases z⟩)
  refine b4n (b6q (wpAny_call (b6T (L.run _ Hi _ g [u] [xs[j]'(by omega)] (λv H2=>∃t,v=.ref t/\a0r Hi H2/\H2 t=some (.tup ((ks j).map V.int))) J2 (.cons ru .nil) (hk _ _ _ _ hx sm λt H2 s2 h2=>⟨t,rfl,s2,h2⟩)) λr s3 hq=>?_)));cases r with
  | error e=>exact False.elim hq
  | ok fl =>
  cases fl with
  | next=>exact False.elim hq
  | brk=>exact False.elim hq
  | cont=>exact False.elim hq
  | ret uv =>
  obtain⟨v,H2,J3,rv3,t,rfl,s2,h2⟩:=J2.after hq;cases rv3;have pa:=J3.pin (a,_) (b4E _ (b4E _ (a0H (by simp) hoi)));have pS:=J3.pin (kS,_) (b4E _ (b4E _ (a0H (by simp) hSi)));have J4:=J3.unpinned;obtain⟨g0,g1,g2,g3,g4,g5⟩:=fS H2 pS.2.1;obtain⟨c2,hc2⟩:∃c2,(s3.heap.update kS (Obj.mapSeq (·.push (.ref t)))).get? kS=some (seqObj "list" ((ts.map Value.ref).toArray.push (.ref t)) c2):=⟨_,b5Y pS.1 (·.push (.ref t))⟩
  try dsimp only
  refine b4n (b7v pS.1 rfl ?_ (by simp[b5n];omega) (by simp[b5n];omega));refine b4r ⟨rfl,H2,ts++[t],c2,J4.turned (t':=s3.toks) (λb o hb e=>by rw[b4I _ _ _ _ hb];exact e) g0 g1 g3 g4 g5,sm.trans s2,pa.2.1,pS.2.1,?_,?_,by simp[lt],λi t' hi=>?_⟩
  ·rw[b4I _ _ _ _ hne.symm];exact pa.1
  ·rw[hc2];congr 2;simp
  ·by_cases z:i<ts.length
   ·rw[b5w z] at hi;exact s2 _ _ (hts i t' hi)
   ·have zi:i=j:=by
     have:=(b4u.mp hi).1;rw[b4A] at this;have:i<ts.length+1:=this;omega
    subst zi;rw[b4U (by omega),lt,b9E] at hi;cases hi;exact h2
 case done =>
  rintro s' ⟨Hi,ts,e,Ji,sm,nai,nSi,hoi,hSi,lt,hts⟩;rw[b8R] at lt
  try dsimp only
  refine b4n (b9F hSi rfl ?_);refine a7Z (b:=b) (ks:=(List.range vs.length).map ks) hoi hSi hne hz (by rw[b4p,lt]) (by simp) (λi hi=>?_) (λq hq=>?_) (λh' p c pm pw hh kp=>?_)
  ·have ht:ts[i]?=some (ts[i]'(by omega)):=b4q _;obtain⟨_,i1,v1,t1⟩:=a1B (show a0B X.prog X.w Hi s'.heap (ts[i]'(by omega)) (.tup ((ks i).map V.int)) from Ji.hok _ _ (hts i _ ht));rw[a9p hi,b4t,b4C,ht];exact⟨_,_,rfl,t1,by simpa using a1q v1⟩
  ·obtain⟨i,hi,rfl⟩:=b4F.mp hq;exact nn i (b6Q.mp hi)
  ·have Jf:Inv X pins σ Hi { s' with heap:=h' }:=Ji.turnedL (t':=s'.toks) (L:=[a,kS]) (λb o hb e=>kp b o (λz=>hb (by simp[z])) (λz=>hb (by simp[z])) e) (λb hb=>by
    rcases b4K.mp hb with rfl|hb
    ·exact fa Hi nai
    ·rw[b4s.mp hb];exact fS Hi nSi)
   exact h _ Hi p c Jf sm nai pm pw hh
end
theorem a3t {α β:Type} {f:α->β}:∀{l:List β} {m:List α},l.Perm (m.map f)->∃o:List α,o.Perm m/\l=o.map f
 | [],m,h=>by
  have:=(List.nil_perm.mp h)
  rw[b7y] at this;exact⟨[],by rw[this],rfl⟩
 | x::l,m,h=>by
  obtain⟨a,ha,e⟩:=b4F.mp (h.mem_iff.mp (.head _));obtain⟨s,t,rfl⟩:=b7i ha;have p1:((s++a::t).map f).Perm (x::(s++t).map f):=by
   rw[<-e];exact(b5H (a:=a) (l₁:=s) (l₂:=t)).map f
  obtain⟨o,po,eo⟩:=a3t (List.Perm.cons_inv (h.trans p1));exact⟨a::o,(po.cons a).trans b5H.symm,by rw[b5J,<-eo,e]⟩
abbrev kwKR (g:Value) (b:Bool):List (Str × Value):=[(Str.ofString "key",g),(Str.ofString "reverse",.bool b)]
noncomputable def NOrd {α:Type} (b:Bool) (kf:α->List Int) (p q:α):Prop:=if b=true then HT.a0I (kf p) (kf q)=false else HT.a0I (kf q) (kf p)=false
section
variable {X:Cx} {Rg:Addr->List V->Hp->VK->Prop} {pins:List (Addr × Obj)} {σ:St} {H:Hp} {g:Addr} {s:Shared} {Q:VK} {KK:Type} [DecidableEq KK] {knd:HeapKind X.prog X.w KK}
theorem a8a {b:Bool} {d:Addr} {kvs:List (KK × Addr × V)} {kf:KK × Addr × V->List Int} (L:a7X X σ Rg) (hc:X.calm=true) (J:Inv X pins σ H s) (hd:H d=some (NDO knd d kvs)) (hn:kvs.length<=100000)
  (hk:∀p∈kvs,∀H1 Q1,a0r H H1->(∀t H2,a0r H1 H2->H2 t=some (.tup ((kf p).map V.int))->Q1 (.ref t) H2)->Rg g [.ref p.2.1] H1 Q1) (nn:∀p∈kvs,kf p≠[])
  (q:∀(d2:Addr) (out:List (KK × Addr × V)) H',a0r H H'->H d2=none->H' d2=some (.lst (out.map λp=>V.ref p.2.1))->out.Perm kvs->out.Pairwise (NOrd b kf)->Q (.ref d2) H') :
  wpAny (model X.prog X.w) X.A (call (.builtin "sorted") [.ref d] (kwKR (.ref g) b)) (EP X pins σ Q) X.xe s:=by
 have z0:=(show a0B X.prog X.w H s.heap d (NDO knd d kvs) from J.hok d _ hd).1;obtain⟨hsy,hl,xs,rel,ob,es,ep,ho,hx,hdat,he,hnd⟩:=id (show NDx knd d kvs s.heap from z0);have lx:kvs.length=xs.length:=b9e rel;have sz:es.size=xs.length:=size_of_entries he;have hkk:es.toList.map (·.key)=kvs.map λp=>Value.ref p.2.1:=by
  rw[he,b5A];refine b6g (by simp[lx]) λi h1 h2=>?_;rw[b5m,b5m];have hi:i<kvs.length:=by simpa using h2
  obtain⟨x,hx1,r1,r2,r3⟩:=Paired.right_of rel i _ (b4q hi);rw[b4q (by omega)] at hx1;cases hx1;show Value.ref (xs[i]).2.1=Value.ref (kvs[i]).2.1;rw[r2]
 refine call_function_entry_kw b9r b8S b8T (ksk_s2 _ _ _) ?_;unfold Builtin.«sorted»;refine b4n (m:=checkCount "sorted" 1 1 _) (b4r ?_);refine b4n (a5n (J.ok.hd hc) hsy ⟨ob,ho,hx,hdat⟩ (by rw[sz,<-lx,b5n];omega) λh1 tk1 k1=>?_);rw[hkk];generalize eits:(kvs.map λp=>Value.ref p.2.1)=its;have er:a0C (kvs.map λp=>V.ref p.2.1) its:=by
  rw[<-eits];clear hkk rel hk nn q z0 hd lx hl hn eits
  induction kvs with
  | nil=>exact .nil
  | cons p r ih=>exact .cons rfl ih
 have li:its.length=kvs.length:=by rw[<-eits,b4p]
 have J1:Inv X pins σ H { s with heap:=h1,toks:=tk1 }:=J.kept k1;refine b4n (b6S ?_ (by show its.length<=sizeLine;rw[b5n];omega));show wpAny _ _ _ _ _ { s with heap:=h1.push (seqObj "list" its.toArray 0),toks:=tk1 };have hoL:(h1.push (seqObj "list" its.toArray 0)).get? h1.objs.size=some (seqObj "list" its.toArray 0):=b4v _ rfl;have fl:∀H',H' h1.objs.size=none->a2w X pins H' h1.objs.size:=λH' hn'=>J1.fpOk (b4z _) hn';have nl:H h1.objs.size=none:=J1.hok.fresh (b4z _);have J2:Inv X pins σ H { s with heap:=h1.push (seqObj "list" its.toArray 0),toks:=tk1 }:=J1.kept λb o e=>b4o _ e;refine b4n (b4T (wpAny_call_entry_kw b8c ⟨_,hoL,rfl⟩ b7S ?_ (ksk_l2 _ _ _)));show wpAny (model X.prog X.w) X.A.in1.in1 (Builtin.«list.sort» ⟨[.ref h1.objs.size],[(Str.ofString "key",.ref g),(Str.ofString "reverse",.bool b)]⟩) _ _ _;rw[ksk_t2];unfold ksk_tree;generalize eh2:h1.push (seqObj "list" its.toArray 0)=h2 at hoL J2 ⊢;have sz2:h2.objs.size=h1.objs.size+1:=by rw[<-eh2];exact b4X _ _
 obtain⟨e1,ho1⟩:∃e1,(h2.update h1.objs.size (Obj.mapSeq λ_=>(#[]:Array Value))).get? h1.objs.size=some (seqObj "list" #[] e1):=⟨_,b5Y hoL λ_=>#[]⟩
 refine b4n (b9F hoL rfl (b4n (b7v hoL rfl ?_ (by rw[b4y,b5n];omega) (b5j _))));refine b4n (b9q ho1 rfl (b4n (b7k ?_ (by show its.length<=_;rw[b5n];omega))));refine b4n (b6S ?_ (b5j _));refine b4T ?_;obtain⟨g0,g1,g2,g3,g4,g5⟩:=fl H nl;have J3:Inv X pins σ H { s with heap:=h2.update h1.objs.size (Obj.mapSeq λ_=>(#[]:Array Value)),toks:=tk1 }:=J2.turned (t':=tk1) (λb o hb e=>by rw[b4I _ _ _ _ hb];exact e) g0 g1 g3 g4 g5;generalize eh3:h2.update h1.objs.size (Obj.mapSeq λ_=>(#[]:Array Value))=h3 at ho1 J3 ⊢;have sz3:h3.objs.size=h1.objs.size+1:=by rw[<-eh3,b8g,sz2]
 have J4:Inv X pins σ H { s with heap:=(h3.push (seqObj "tuple" its.toArray 0)).push (seqObj "list" #[] 0),toks:=tk1 }:=J3.kept λb o e=>b4o _ (b4o _ e);have szS:(h3.push (seqObj "tuple" its.toArray 0)).objs.size=h1.objs.size+2:=by rw[show(h3.push (seqObj "tuple" its.toArray 0)).objs.size=h3.objs.size+1 from b4X _ _,sz3]
 have fS:∀H',H' (h3.push (seqObj "tuple" its.toArray 0)).objs.size=none->a2w X pins H' (h3.push (seqObj "tuple" its.toArray 0)).objs.size:=λH' hn'=>J1.fpOk (by show h1.objs.size<=_;rw[szS];omega) hn';have kat:∀{i:Nat} (hi:i<kvs.length),(kvs.map kf).getD i []=kf kvs[i]:=λ{i} hi=>by rw[b4t,b4C,b4q hi];rfl
 refine a3s (b:=b) L (ks:=λi=>(kvs.map kf).getD i []) (g:=g) (xs:=kvs.map λp=>V.ref p.2.1) J4 (b4o _ (b4o _ ho1)) (b4v _ rfl) (by rw[szS];exact b5k (Nat.lt_add_of_pos_right (by decide))) fl fS nl (J1.hok.fresh (by show h1.objs.size<=_;rw[szS];omega)) er (by omega) (λi x H1 Q1 hx sm hq=>?_) (λi hi=>?_) (λs' H' ps c J5 sm na pm pw ho=>⟨_,rfl,?_⟩)
 ·have hi:i<kvs.length:=by
   have:=(b4u.mp hx).1;rw[b4p] at this;exact this
  rw[b4C,b4q hi] at hx;cases hx;refine hk _ (b6p hi) H1 Q1 sm λt H2 s2 h2=>hq t H2 s2 ?_;show H2 t=some (.tup (((kvs.map kf).getD i []).map V.int));rw[kat hi];exact h2
 ·show(kvs.map kf).getD i []≠[];rw[kat (by omega)];exact nn _ (b6p _)
 ·have ez:((List.range its.length).map λi=>(kvs.map kf).getD i []).zip its=kvs.map λp=>(kf p,Value.ref p.2.1):=by
   rw[<-eits];refine b6g (by simp) λi h1 h2=>?_;have hi:i<kvs.length:=by simpa using h2
   rw[b9c,b5m,b5m,b5m,b8w,kat hi]
  rw[ez] at pm;obtain⟨out,po,rfl⟩:=a3t pm;rw[b5A] at ho;have hv:a0C (out.map λp=>V.ref p.2.1) (out.map (Prod.snd ∘ λp:KK × Addr × V=>(kf p,Value.ref p.2.1))):=by
   clear pm ho po pw
   induction out with
   | nil=>exact .nil
   | cons p r ih=>exact .cons rfl ih
  have ok:a0B X.prog X.w (upd H' h1.objs.size (.lst (out.map λp=>V.ref p.2.1))) s'.heap h1.objs.size (.lst (out.map λp=>V.ref p.2.1)):=⟨by rw[b4p,po.length_eq,b5n];omega,_,c,hv,ho⟩
  rw[b5r] at pw;exact b4r ⟨_,rfl,.ref h1.objs.size,_,J5.adopt (fl H' na) ok,rfl,q _ out _ (sm.trans (a0d na _)) nl a0b po pw⟩
noncomputable def b3t (knd:HeapKind X.prog X.w KK) (Rg:St->Addr->List V->Hp->VK->Prop) (td:TE) (tk:TA):TE:=λσ H Q=>td σ H λx H1=>tk σ H1 λzs H2=>∃(d g:Addr) (b:Bool) (kvs:List (KK × Addr × V)) (kf:KK × Addr × V->List Int),x=.ref d/\zs=[.ref g,.bl b]/\H2 d=some (NDO knd d kvs)/\kvs.length<=100000 /\
 (∀p∈kvs,∀H3 Q1,a0r H2 H3->(∀t H4,a0r H3 H4->H4 t=some (.tup ((kf p).map V.int))->Q1 (.ref t) H4)->Rg σ g [.ref p.2.1] H3 Q1)/\(∀p∈kvs,kf p≠[]) /\
 ∀(d2:Addr) (out:List (KK × Addr × V)) H',a0r H2 H'->H2 d2=none->H' d2=some (.lst (out.map λp=>V.ref p.2.1))->out.Perm kvs->out.Pairwise (NOrd b kf)->Q (.ref d2) H'
theorem a9x {a e2 e3:Expr} {p pos kpos kpos2:Pos} {td:TE} {tk:TA} {Rg:St->Addr->List V->Hp->VK->Prop} (L:∀σ,a7X X σ (Rg σ)) (hc:X.calm=true) (hg:Gl X "sorted") (hm:X.mg "sorted"=none) (ha:PE X a td) (hk:PK X [⟨some "key",e2,kpos⟩,⟨some "reverse",e3,kpos2⟩] tk)
  (h1:backTo pos (starEach [a] X.env)=(false,eval a X.env)::backTo pos (starEach [] X.env):=by rfl)
  (h2:((backTo pos (starEach [a] X.env)).any (·.1))=false:=by rfl) (h3:(backToKw pos (keywordEach [⟨some "key",e2,kpos⟩,⟨some "reverse",e3,kpos2⟩] X.env)).all (·.1.isSome)=true:=by rfl) (h4:(backToKw pos (keywordEach [⟨some "key",e2,kpos⟩,⟨some "reverse",e3,kpos2⟩] X.env)).any (·.1.isNone)=false:=by rfl) (h5:(backToKw pos (keywordEach [⟨some "key",e2,kpos⟩,⟨some "reverse",e3,kpos2⟩] X.env)).filterMap (·.1)=[Str.ofString "key",Str.ofString "reverse"]:=by rfl) :
  PE X (.Call (.Name "sorted" p) [a] [⟨some "key",e2,kpos⟩,⟨some "reverse",e3,kpos2⟩] pos) (b3t knd Rg td tk):=by
 intro pins s σ H Q I h;refine b5E (a1l I hg hm a0U ?_ (by decide) (by decide));refine callWith_kw ?_ h1 h2 h3 h4;rw[h1];refine b6E ?_;refine thn (ha pins s σ H _ I h) λu s1 ⟨x,H1,I1,rx,q1⟩=>?_;refine b6Z ?_;refine thn (hk pos pins s1 σ H1 _ I1 q1) λws s2 ⟨zs,H2,I3,rz,q2⟩=>?_;rw[h5];obtain⟨d,g,b,kvs,kf,rfl,rfl,hd,hn,hkk,nn,q3⟩:=q2;cases rx;cases rz with
 | cons r1 rr =>
  cases rr with
  | cons r2 rr =>
   cases rr;cases r1;have r2:=r2;obtain rfl:=(show _=Value.bool b from r2)
   exact a8a (L σ) hc I3 hd hn hkk nn q3
end
end L2
namespace L2
open PySem PySem.Spec PyProof.Rows PySem.W
abbrev wkO (own:Value) (f:Bool) (d:Addr) (i n ep:Nat) (ok ov:Value):Obj:={ cls:=.type "dict_itemiterator",dict:=none,data:=.fields #[own,.bool f,.ref d,.int i 0,.int n 0,.int ep 0,ok,ov],slots:=#[] }
abbrev p2O (k v:Value):Obj:={ cls:=.type "tuple",data:=.seq #[k,v] }
noncomputable def ItS (h:Heap) (it d S:Addr) (i n ep:Nat):Prop:=∃own f ok ov,h.get? it=some (wkO own f d i n ep ok ov)/\(own=.none\/∃(a:Addr) (oa:Obj),own=rawInt a/\h.get? a=some oa/\a≠it/\a≠S)
theorem ItS.keep {h h':Heap} {it d S:Addr} {i n ep:Nat} (x:ItS h it d S i n ep) (hk:∀b o,b≠S->h.get? b=some o->h'.get? b=some o) (hI:it≠S):ItS h' it d S i n ep:=by
 obtain⟨own,f,ok,ov,e,r⟩:=x;exact⟨own,f,ok,ov,hk _ _ hI e,r.imp id λ⟨a,oa,e1,e2,e3,e4⟩=>⟨a,oa,e1,hk _ _ e4 e2,e3,e4⟩⟩
section
variable {prog:Program} {w:World} {A:Around} {E:Value->Shared->Prop} {s:Shared} {it d S:Addr} {i n ep:Nat} {es:Array DictEntry}
theorem b1j {k v:Value} {Q:Value->Shared->Prop} (st:ItS s.heap it d S i n ep) (hS:S<s.heap.objs.size)
  (hQ:∀h',ItS h' it d S i n ep->h'.get? s.heap.objs.size=some (p2O k v)->h'.objs.size=s.heap.objs.size+1->(∀b o,b≠it->s.heap.get? b=some o->h'.get? b=some o)->Q (.ref s.heap.objs.size) { s with heap:=h' }) :
  wpAny (model prog w) A (Builtin.Dict_items.pairFromOwner (.ref it) 6 k v) Q E s:=by
 obtain⟨own,f,ok,ov,hit,r⟩:=st;have il:=b4w hit;unfold Builtin.Dict_items.pairFromOwner;refine b4n (b7k ?_);have e2:(s.heap.push (p2O k v)).get? it=some (wkO own f d i n ep ok ov):=b4o _ hit;have t2:(s.heap.push (p2O k v)).get? s.heap.objs.size=some (p2O k v):=b4v _ rfl;have z2:(s.heap.push (p2O k v)).objs.size=s.heap.objs.size+1:=b4X _ _;have k2:∀b o,s.heap.get? b=some o->(s.heap.push (p2O k v)).get? b=some o:=λb o e=>b4o _ e;show wpAny _ _ (Builtin.Dict_items.ownedTupleIsFree (.ref it) >>= _) _ _ { s with heap:=s.heap.push (p2O k v) };generalize s.heap.push (p2O k v)=h2 at e2 t2 z2 k2 ⊢;have nt:s.heap.objs.size≠it:=b5k il;refine b4n ?_;unfold Builtin.Dict_items.ownedTupleIsFree;rcases r with rfl|⟨a,oa,rfl,ha,hai,haS⟩
 ·refine b4n (b4Y e2 rfl (x:=.none) rfl (b4r ?_));simp only[if_true];refine b4n (b4Y e2 rfl (x:=ok) rfl (b4n (b4Y e2 rfl (x:=ov) rfl ?_)));refine b4n (b5g e2 (by simp) λh3 (e3:h3.get? it=some (wkO .none f d i n ep k ov)) (s3:Heap.SameBut it h2 h3)=>?_);refine b4n (b5g e3 (by simp) λh4 (e4:h4.get? it=some (wkO .none f d i n ep k v)) (s4:Heap.SameBut it h3 h4)=>?_);refine b4n (b5g e4 (by simp) λh5 (e5:h5.get? it=some (wkO (rawInt s.heap.objs.size) f d i n ep k v)) (s5:Heap.SameBut it h4 h5)=>?_);refine b4n (b5g e5 (by simp) λh6 (e6:h6.get? it=some (wkO (rawInt s.heap.objs.size) false d i n ep k v)) (s6:Heap.SameBut it h5 h6)=>?_);have up:∀b o,b≠it->h2.get? b=some o->h6.get? b=some o:=λb o nb e=>s6.extBut b o nb (s5.extBut b o nb (s4.extBut b o nb (s3.extBut b o nb e)));exact b4n (b6H (b4r (hQ h6 ⟨_,_,_,_,e6,.inr ⟨_,_,rfl,up _ _ nt t2,nt,b5k hS⟩⟩ (up _ _ nt t2) (by rw[s6.1,s5.1,s4.1,s3.1,z2]) λb o nb e=>up b o nb (k2 b o e))))
 ·refine b4n (b4Y e2 rfl (x:=rawInt a) rfl ?_);show wpAny _ _ (loadIfAlive ((a:Int).toNat) >>= _) _ _ _;rw[b6x];refine b4n (kdx_alive (k2 _ _ ha) ?_);simp only[Option.isNone_some,b5b,b6B];refine b4n (b4Y e2 rfl (x:=.bool f) rfl ?_);cases f with
  | true =>
   rw[if_neg (show ¬((Value.bool true !=Value.bool true)=true) by decide)];refine b4r ?_;simp only[b5b,b6B];exact b4r (hQ h2 ⟨_,_,_,_,e2,.inr ⟨a,oa,rfl,k2 _ _ ha,hai,haS⟩⟩ t2 z2 λb o _ e=>k2 b o e)
  | false =>
   rw[if_pos (show(Value.bool false !=Value.bool true)=true by decide)];refine b4n (b5g e2 (by simp) λh3 (e3:h3.get? it=some (wkO (rawInt a) true d i n ep ok ov)) (s3:Heap.SameBut it h2 h3)=>?_);refine b4r ?_;simp only[b5b,b6B];exact b4r (hQ h3 ⟨_,_,_,_,e3,.inr ⟨a,oa,rfl,s3.extBut _ _ hai (k2 _ _ ha),hai,haS⟩⟩ (s3.extBut _ _ nt t2) (by rw[s3.1,z2]) λb o nb e=>s3.extBut b o nb (k2 b o e))
theorem a9y {e:DictEntry} {Q:Option Value->Shared->Prop} (st:ItS s.heap it d S i es.size ep) (hS:S<s.heap.objs.size) (hSi:it≠S) (hm:a2b s.heap d es ep) (hx:es[i]?=some e)
  (hQ:∀h',ItS h' it d S (i+1) es.size ep->h'.get? s.heap.objs.size=some (p2O e.key e.val)->h'.objs.size=s.heap.objs.size+1->(∀b o,b≠it->s.heap.get? b=some o->h'.get? b=some o)->Q (some (.ref s.heap.objs.size)) { s with heap:=h' }) :
  wpAny (model prog w) A (pyNext (.ref it)) Q E s:=by
 obtain⟨own,f,ok,ov,hit,r⟩:=st;obtain⟨od,hod,hcd,hdd⟩:=hm;have T0:s.TypeIs (.ref it) "dict_itemiterator":=⟨_,hit,rfl⟩
 have il:i<es.size:=(Array.getElem?_eq_some_iff.mp hx).1;unfold pyNext;refine b4n (b6q (b5a (name:=Str.ofString "__next__") T0 b6r (b4Z b6r T0 b8V ?_ (b8H _))));refine b4n (b4r (b4n (b4n ?_)))
 first
  | refine b4n (b6U T0 (b4r ?_))
  | refine b4n (b7m T0 (b4r ?_))
 refine b4n (b9H hit rfl ?_);simp only[show Builtin.Dict_items.ownsTuple "dict_itemiterator"=true by decide,if_true];show wpAny _ _ (if (Value.ref d==Value.none)=true then _ else _) _ _ _;rw[if_neg (show ¬((Value.ref d==Value.none)=true) by intro z;cases z)];refine b4n (b4r (b4n (b7t hod hdd ?_)));rw[if_neg (by simp)];refine b4n (b4r (b4n (b7Q hod hdd ?_)));rw[if_neg (by simp)];refine b4r ?_;have ee:es[i]=e:=by rw[b6n il] at hx;exact b4N hx
 simp only[show ¬((i:Int)<0) by omega,b6B,b6x,hx];refine b4n ?_
 first
  | refine b4n (b6U T0 (b4r ?_))
  | refine b4n (b7m T0 (b4r ?_))
 refine b4n (b8B T0 ?_);show wpAny _ _ (setField (.ref it) 3 (rawInt ((i:Int)+1)) >>= _) _ _ _;refine b4n (b5g hit (by simp) λh1 e1 (s1:Heap.SameBut it s.heap h1)=>?_);have e1:h1.get? it=some (wkO own f d (i+1) es.size ep ok ov):=by
  have q:((i+1:Nat):Int)=(i:Int)+1:=by omega
  show h1.get? it=some { cls:=.type "dict_itemiterator",dict:=none,data:=.fields #[own,.bool f,.ref d,.int ((i+1:Nat):Int) 0,.int es.size 0,.int ep 0,ok,ov],slots:=#[] };rw[q];simpa [rawInt] using e1
 have T1:Shared.TypeIs { s with heap:=h1 } (.ref it) "dict_itemiterator":=⟨_,e1,rfl⟩
 refine b4n (b4T (b4n (b8B T1 ?_)));refine b4n (b8B T1 ?_);show wpAny _ _ (Builtin.Dict_items.pairFromOwner (.ref it) 6 e.key e.val) _ _ { s with heap:=h1 };have z1:h1.objs.size=s.heap.objs.size:=s1.1;have st1:ItS h1 it d S (i+1) es.size ep:=⟨own,f,ok,ov,e1,r.imp id λ⟨a,oa,q1,q2,q3,q4⟩=>⟨a,oa,q1,s1.extBut _ _ q3 q2,q3,q4⟩⟩
 refine b1j (s:={ s with heap:=h1 }) st1 (by show S<h1.objs.size;rw[z1];exact hS) λh' st' t' z' k'=>?_;have t':h'.get? h1.objs.size=some (p2O e.key e.val):=t';have z':h'.objs.size=h1.objs.size+1:=z';rw[z1] at t' z';show wpAny _ _ _ _ _ _;rw[show(({ s with heap:=h1 }:Shared).heap.objs.size)=s.heap.objs.size from z1];exact b4r ⟨_,rfl,b4r (hQ h' st' t' z' λb o nb q=>k' b o nb (s1.extBut b o nb q))⟩
theorem a9z {Q:Option Value->Shared->Prop} (hh:A.handled=none) (st:ItS s.heap it d S i es.size ep) (hm:a2b s.heap d es ep) (hx:es.size<=i) (hQ:∀h',Heap.ExtBut it s.heap h'->Q none { s with heap:=h' }):wpAny (model prog w) A (pyNext (.ref it)) Q E s:=by
 obtain⟨own,f,ok,ov,hit,r⟩:=st;obtain⟨od,hod,hcd,hdd⟩:=hm;have T0:s.TypeIs (.ref it) "dict_itemiterator":=⟨_,hit,rfl⟩
 unfold pyNext;refine b4n (b6q (b5a (name:=Str.ofString "__next__") T0 b6r (b4Z b6r T0 b8V ?_ (b8H _))));refine b4n (b4r (b4n (b4n ?_)))
 first
  | refine b4n (b6U T0 (b4r ?_))
  | refine b4n (b7m T0 (b4r ?_))
 refine b4n (b9H hit rfl ?_);simp only[show Builtin.Dict_items.ownsTuple "dict_itemiterator"=true by decide,if_true];show wpAny _ _ (if (Value.ref d==Value.none)=true then _ else _) _ _ _;rw[if_neg (show ¬((Value.ref d==Value.none)=true) by intro z;cases z)];refine b4n (b4r (b4n (b7t hod hdd ?_)));rw[if_neg (by simp)];refine b4n (b4r (b4n (b7Q hod hdd ?_)));rw[if_neg (by simp)];refine b4r ?_;simp only[show ¬((i:Int)<0) by omega,b6B,b6x,Array.getElem?_eq_none hx];refine b4n ?_
 first
  | refine b4n (b6U T0 (b4r ?_))
  | refine b4n (b7m T0 (b4r ?_))
 show wpAny _ _ (setField (.ref it) 2 .none >>= _) _ _ s;refine b4n (b8a hit rfl (by simp) ?_);show wpAny _ _ (newExc (.type "StopIteration") [] >>= _) _ _ _;refine b4n ?_;simp only[newExc,newTuple];refine b4n (b5o ?_ (by size_fits));refine b4n (m:=firstArgMember _ _) (b9o (a:=Value.none) (by first|rfl|(simp only[firstArgMember];rfl)) ?_);refine b5o ?_ (by size_fits);simp only[raiseNew];refine b4n (wpAny_handled ?_);rw[show A.in1.handled=none from hh];refine b4n (b4r (wpAny_throw ?_));refine b4n (b6L (T:="StopIteration") (b:=true) ⟨_,b4v _ rfl,rfl⟩ b8b ?_);exact b4r (hQ _ (((b6O ..).extBut.push _).push _))
structure a6e (es:Array DictEntry) (lo:Addr) (h:Heap) (as:List Addr):Prop where
 nd:as.Pairwise (· < ·)
 ab:∀a∈as,lo<a
 at_:∀(j:Nat) (a:Addr),as[j]?=some a->∃e,es[j]?=some e/\h.get? a=some (p2O e.key e.val)
theorem a6e.lt {lo:Addr} {h:Heap} {as:List Addr} (g:a6e es lo h as) {a:Addr} (ha:a∈as):a<h.objs.size:=by
 obtain⟨j,hj⟩:=b6b ha;obtain⟨_,_,e⟩:=g.at_ j a hj;exact b4w e
end
section
variable {prog:Program} {w:World} {A:Around} {s:Shared} {R:Result->Shared->Prop} {ep:Nat} {es:Array DictEntry}
theorem a3V {S I d:Addr} (hh:A.handled=none) (hSI:S<I) (hSd:d≠S) (hId:d≠I) (hn:es.size<=sizeLine) (res:Value) {h1:Heap}
  (hR:∀h' tk acc c as,(∀b o,b≠S->b≠I->h1.get? b=some o->h'.get? b=some o)->h'.get? S=some { cls:=.type "list",dict:=none,data:=.seq acc c,slots:=#[] }->as.length=es.size->a6e es I h' as->acc.toList=as.map Value.ref->R (.ok (.ret res)) { s with heap:=h',toks:=tk }) :
  ∀(k i:Nat) (h:Heap) (tk c:Nat) (acc:Array Value) (as:List Addr),es.size-i=k->i<=es.size->ItS h I d S i es.size ep->a2b h d es ep->(∀b o,b≠S->b≠I->h1.get? b=some o->h.get? b=some o) ->
   h.get? S=some { cls:=.type "list",dict:=none,data:=.seq acc c,slots:=#[] }->acc.toList=as.map Value.ref->as.length=i->a6e es I h as ->
   codeAny (model prog w) A (.builtin "list.extend.loop" ⟨[.ref S,.ref I,res],[]⟩) R { s with heap:=h,toks:=tk }
 | 0,i,h,tk,c,acc,as,hk,hi,st,hm,kp,hS,ha,hl,g=>by
  refine b5p b8j ?_;rw[b4S b6f _];show wpAny _ A.in1 (pyNext (.ref I) >>= _) _ _ _;refine b4n (a9z (s:={ s with heap:=h,toks:=tk }) (A:=A.in1) hh st hm (by omega) λh' ke=>?_);refine b4r (hR h' tk acc c as (λb o n1 n2 e=>ke b o n2 (kp b o n1 n2 e)) (ke S _ (b4H hSI) hS) (by omega) ⟨g.nd,g.ab,λj a hj=>?_⟩ ha);obtain⟨e,q1,q2⟩:=g.at_ j a hj;exact⟨e,q1,ke a _ (b5k (g.ab a (b4B hj))) q2⟩
 | k+1,i,h,tk,c,acc,as,hk,hi,st,hm,kp,hS,ha,hl,g=>by
  have il:i<es.size:=by omega
  have hsz:acc.size=i:=by rw[<-b4x,ha,b4p,hl]
  have Sl:S<h.objs.size:=b4w hS;have Il:I<h.objs.size:=by obtain⟨_,_,_,_,q,_⟩:=st;exact b4w q
  refine b5p b8j ?_;rw[b4S b6f _];show wpAny _ A.in1 (pyNext (.ref I) >>= _) _ _ _;refine b4n (a9y (s:={ s with heap:=h,toks:=tk }) (S:=S) st Sl (b5k hSI) hm (b6n il) λh' st' ht hz kn=>?_);dsimp only at ht hz kn ⊢;have hS':=kn S _ (b4H hSI) hS;have up:∀b o,b≠S->h'.get? b=some o->(h'.update S (Obj.mapSeq (·.push (Value.ref h.objs.size)))).get? b=some o:=λb o nb e=>(b7H _ _ (Ne.symm nb)).trans e;have hm':a2b (h'.update S (Obj.mapSeq (·.push (Value.ref h.objs.size)))) d es ep:=hm.at λo e=>up d o hSd (kn d o hId e);show wpAny _ A.in1 (updateSeq S (·.push (Value.ref h.objs.size)) >>= _) _ _ _;refine b4n (b6e hS' rfl (b4r ⟨b5B b6f _,a3V hh hSI hSd hId hn res hR k (i+1) _ tk _ (acc.push (Value.ref h.objs.size)) (as++[h.objs.size]) (by omega) il (st'.keep up (b5k hSI)) hm' (λb o n1 n2 e=>up b o n1 (kn b o n2 (kp b o n1 n2 e))) (b5S _ hS' rfl) (by rw[b4V,ha,b4D];rfl) (by rw[b4A,hl];rfl) ⟨?_,λa hx=>?_,λj a hj=>?_⟩⟩) (by rw[hsz];omega) (by rw[Array.size_push,hsz];omega))
  ·refine b5v.mpr ⟨g.nd,b5c _ _,λa hx b hb=>?_⟩;rw[b4s.mp hb];exact g.lt hx
  ·rcases b4J.mp hx with hx|hx
   ·exact g.ab a hx
   ·rw[b4s.mp hx];exact Il
  ·by_cases z:j<as.length
   ·rw[b5w z] at hj;obtain⟨e,q1,q2⟩:=g.at_ j a hj;have gt:=g.ab a (b4B hj);exact⟨e,q1,up a _ (b5k (b9B hSI gt)) (kn a _ (b5k gt) q2)⟩
   ·have zj:j=i:=by
     have:=(b4u.mp hj).1;rw[b4A] at this;have:j<as.length+1:=this;omega
    rw[b4U (by omega),zj,hl,b9E] at hj;cases hj;exact⟨es[i],by rw[zj];exact b6n il,up _ _ (b5k Sl) ht⟩
end
section
variable {prog:Program} {w:World} {A:Around} {E:Value->Shared->Prop} {s:Shared} {R:Result->Shared->Prop} {ep:Nat} {es:Array DictEntry} {r d:Addr}
theorem a5u (hh:A.handled=none) (hv:s.heap.IsItemsView r d) (hm:a2b s.heap d es ep) (S:Addr) (hSr:S≠r) (hSd:d≠S) (res:Value) (c0:Nat) (hS:s.heap.get? S=some { cls:=.type "list",data:=.seq #[] c0 }) (hn:es.size<=sizeLine)
  (hR:∀h' tk acc c as,(∀b o,b≠S->s.heap.get? b=some o->h'.get? b=some o)->h'.get? S=some { cls:=.type "list",dict:=none,data:=.seq acc c,slots:=#[] }->as.length=es.size->a6e es s.heap.objs.size h' as->acc.toList=as.map Value.ref->R (.ok (.ret res)) { s with heap:=h',toks:=tk }) :
  wpAny (model prog w) A.in1 (Builtin.List.listExtendWith (.ref S) (.ref r) res)
   (λfin s'=>match fin with | .done f=>R (.ok f) s' | .again c'=>c'.quiet=true/\codeAny (model prog w) A c' R s') (λe s'=>R (.error e) s') s:=by
 have Sl:S<s.heap.objs.size:=b4w hS;have dl:d<s.heap.objs.size:=by obtain⟨o,ho,_⟩:=hm;exact b4w ho
 obtain⟨vo,hvo,hvc,hvd⟩:=id hv;have go:∀(h:Heap) (c1 tk:Nat),(∀b o,b≠S->(s.heap.push (wkO .none false d 0 es.size ep .none .none)).get? b=some o->h.get? b=some o)->h.get? S=some { cls:=.type "list",data:=.seq #[] c1 }->codeAny (model prog w) A (.builtin "list.extend.loop" ⟨[.ref S,.ref s.heap.objs.size,res],[]⟩) R { s with heap:=h,toks:=tk }:=λh c1 tk kp hS1=>by
  have hI:=kp s.heap.objs.size _ (b5k Sl) (b4v _ rfl);exact a3V (s:=s) (h1:=s.heap) hh Sl hSd (b4H dl) hn res (λh' tk' acc c as k' hS' hl g ha=>hR h' tk' acc c as (λb o nb e=>k' b o nb (b4H (b4w e)) e) hS' hl g ha)
   es.size 0 h tk c1 #[] [] (Nat.sub_zero _) (b5j _) ⟨_,_,_,_,hI,.inl rfl⟩ (hm.at λo e=>kp d o hSd (b4o _ e)) (λb o nb _ e=>kp b o nb (b4o _ e)) hS1 rfl rfl ⟨.nil,λa ha=>(by cases ha),λj a hj=>(by simp at hj)⟩
 unfold Builtin.List.listExtendWith;refine b4n (b8n (T:="dict_items") hv.typeIs ?_);simp only[show Builtin.List.listSameRef (.ref S) (.ref r)=false by simp[Builtin.List.listSameRef,hSr],show(Value.type "dict_items" == Value.type "list")=false by decide,show(Value.type "dict_items" == Value.type "tuple")=false by decide,Bool.or_false,b5b,b6B];obtain⟨od,hod,hcd,hdd⟩:=id hm;refine b4n (wpAny_pyIter_slot hv.typeIs F.slot_dict_items_iter (b4Z F.slot_dict_items_iter hv.typeIs F.entry_dict_items_iter ?_ (F.args_dict_items_iter_1 _)));unfold Builtin.«dict_items.__iter__»;refine b4n (b4r (b4n ?_));unfold Builtin.Dict_items.dictOf;refine b4n (b4Y hvo hvd (x:=.ref d) rfl (b4r (b4n ?_)));unfold Builtin.Dict_items.newIterator;refine b4n (b7t hod hdd (b4n (b7Q hod hdd ?_)));simp only[show Builtin.Dict_items.ownsTuple "dict_itemiterator"=true by decide,if_true];refine b5o (b4r ⟨_,rfl,"dict_itemiterator",_,⟨_,b4v _ rfl,rfl⟩,b6r.lookup,?_⟩) (by simp only[sizeOk,Builtin.Dict_items.ownedTupleFields,b4y,b4A,b5l,b7r,b5n];omega);show wpAny _ _ _ _ _ { s with heap:=s.heap.push (wkO .none false d 0 es.size ep .none .none) };have hS1:(s.heap.push (wkO .none false d 0 es.size ep .none .none)).get? S=some { cls:=.type "list",data:=.seq #[] c0 }:=b4o _ hS;refine b4n (b4T (kdx_hint ⟨vo,b4o _ hvo,hvc⟩ ?_));refine wpAny_ite_split (λ_=>?_) (λ_=>b4r ⟨b5B b6f _,go _ c0 _ (λb o _ e=>e) hS1⟩);refine b4n (b5T (b4n ?_));show wpAny _ _ (updateSeq S (·.push .none) >>= λ_=>updateSeq S (·.pop)) _ _ _;refine b4n (b6e hS1 rfl ?_);have hS2:=b5S (Obj.mapSeq (·.push Value.none)) hS1 rfl;refine b6e (hz:=by seq_fits) hS2 rfl ?_;have hS3:=b5S (Obj.mapSeq (·.pop)) hS2 rfl;exact b4r ⟨b5B b6f _,go _ _ _ (λb o nb e=>(b7H _ _ (Ne.symm nb)).trans ((b7H _ _ (Ne.symm nb)).trans e)) hS3⟩
theorem a4x {Q:List Value->Shared->Prop} (hh:A.handled=none) (hv:s.heap.IsItemsView r d) (hm:a2b s.heap d es ep) (hn:es.size<=sizeLine)
  (h:∀h' tk as,(∀b o,s.heap.get? b=some o->h'.get? b=some o)->as.length=es.size->a6e es s.heap.objs.size h' as->Q (as.map Value.ref) { s with heap:=h',toks:=tk }):wpAny (model prog w) A (collect (.ref r)) Q E s:=by
 have rl:r<s.heap.objs.size:=by obtain⟨_,ho,_⟩:=hv;exact b4w ho
 have dl:d<s.heap.objs.size:=by obtain⟨o,ho,_⟩:=hm;exact b4w ho
 unfold collect;refine b4n (b9I (b5p F.entry_proto_collect ?_));rw[b4S F.plain_proto_collect _];show wpAny _ A.in1 (newList [] >>= λl=>again (.builtin "list.__iadd__" ⟨[l,.ref r],[]⟩)) _ _ s;refine b4n (b5o ?_);refine b4r ⟨b5B b8E _,b5p F.entry_list_iadd ?_⟩;rw[b4S b8E _];show wpAny _ A.in1 (Builtin.List.listExtendWith (.ref s.heap.objs.size) (.ref r) (.ref s.heap.objs.size)) _ _ _;have hS0:(s.heap.push { cls:=.type "list",data:=.seq #[] }).get? s.heap.objs.size=some { cls:=.type "list",data:=.seq #[] }:=b4v _ rfl;have fin:∀s':Shared,(∃acc c as,s'.heap.get? s.heap.objs.size=some { cls:=.type "list",dict:=none,data:=.seq acc c,slots:=#[] }/\acc.toList=List.map Value.ref as/\Q (as.map Value.ref) s') ->
   wpAny (model prog w) A (match Value.ref s.heap.objs.size with
    | .ref a=>do
     let o <-load a
     match o.data with
     | .seq xs _=>pure xs.toList
     | _=>unsupported "internal:collect"
    | _=>unsupported "internal:collect") Q E s':=λs' ⟨acc,c,as,hS,ea,q⟩=>by
  show wpAny _ A (load s.heap.objs.size >>= _) _ _ _;refine b4n (b9i hS (b4r ?_));show Q acc.toList _;rw[ea];exact q
 refine b6Y (a5u (s:={ s with heap:=s.heap.push { cls:=.type "list",data:=.seq #[] } }) (A:=A)
  (R:=λr s'=>r=.ok (.ret (.ref s.heap.objs.size))/\∃acc c as,s'.heap.get? s.heap.objs.size=some { cls:=.type "list",dict:=none,data:=.seq acc c,slots:=#[] }/\acc.toList=List.map Value.ref as/\Q (as.map Value.ref) s')
  hh (let ⟨o,ho,x⟩:=hv;⟨o,b4o _ ho,x⟩) (hm.at λo e=>b4o _ e) s.heap.objs.size (b5k rl) (b4H dl) (.ref s.heap.objs.size) 0 hS0 hn (λh' tk acc c as kp hS hl g ha=>⟨rfl,acc,c,as,hS,ha,?_⟩)) (λfn s' hz=>?_) (λe s' hz=>?_)
 ·refine h h' tk as (λb o e=>kp b o (b4H (b4w e)) (b4o _ e)) hl ⟨g.nd,λa ha=>?_,g.at_⟩;have:=g.ab a ha;have z:(s.heap.push { cls:=.type "list",data:=.seq #[] }).objs.size=s.heap.objs.size+1:=b4X _ _;show s.heap.objs.size<a;exact b7K (b9U _) (show s.heap.objs.size+1<a by rw[<-z];exact this)
 ·rcases fn with f|c'
  ·obtain⟨e,z⟩:=hz;cases e;exact fin s' z
  ·refine⟨hz.1,b6T hz.2 λq s2 y=>?_⟩;obtain⟨rfl,z⟩:=y;exact fin s2 z
 ·obtain⟨e',_⟩:=hz;cases e'
end
noncomputable def PiN (h:Heap) (v:Value) (q:(Int × List Int) × Int):Prop:=∃(b:Addr) (items:Array Value) (a:Addr) (t:Tok),v=.ref b/\IsTup h b items/\items.toList=[.ref a,.int q.2 t]/\PrN h (.ref a) q.1
theorem PiN.inj {h:Heap} {v:Value} {p q:(Int × List Int) × Int} (t1:PiN h v p) (t2:PiN h v q):p=q:=by
 obtain⟨b,items,a,t,rfl,⟨o,ho,hc,n,hd⟩,hi,hu⟩:=t1;obtain⟨b2,items2,a2,t',e,⟨o2,ho2,hc2,n2,hd2⟩,hi2,hu2⟩:=t2;cases e;rw[ho] at ho2;cases ho2;rw[hd] at hd2;cases hd2;rw[hi] at hi2;obtain⟨h1,h2⟩:=b6I hi2;obtain⟨h2,_⟩:=b6I h2;have ea:a=a2:=Value.ref.inj h1;have e2:p.2=q.2:=(Value.int.inj h2).1;subst ea;exact b8I (hu.inj hu2) e2
theorem PiN.keep {h h':Heap} {v:Value} {q:(Int × List Int) × Int} {a:Addr} {o:Obj} (t:PiN h v q) (ho:h.get? a=some o) (hc:o.cls=.type "list") (k:∀b o,b≠a->h.get? b=some o->h'.get? b=some o):PiN h' v q:=by
 obtain⟨b,items,c,tk,rfl,⟨ob,hb,hcb,n,hd⟩,hi,hu⟩:=t;have ne:b≠a:=λz=>by rw[z,ho] at hb;cases hb;rw[hc] at hcb;exact absurd (Value.type.inj hcb) (by decide)
 exact⟨b,items,c,tk,rfl,⟨ob,k b ob ne hb,hcb,n,hd⟩,hi,hu.keep ho hc k⟩
theorem PiN.keep2 {h h':Heap} {v:Value} {q:(Int × List Int) × Int} (t:PiN h v q) (k:∀b o,h.get? b=some o->h'.get? b=some o):PiN h' v q:=by
 obtain⟨b,items,c,tk,rfl,⟨ob,hb,hcb,n,hd⟩,hi,hu⟩:=t;exact⟨b,items,c,tk,rfl,⟨ob,k b ob hb,hcb,n,hd⟩,hi,hu.keep2 k⟩
theorem a3W {prog:Program} {w:World}:∀{vs:List Value} {ns:List Int},IntsAre vs ns->ItemsAre (intKind prog w) ns vs
 | [],_,h=>by cases h;exact .nil
 | v::vs,_,h=>by
  cases h with
  | cons _ _ h2=>exact .cons (by simp[intKind,Value.isInt]) (a3W h2)
theorem PrN.nest {prog:Program} {w:World} {h:Heap} {a:Addr} {q:Int × List Int} (t:PrN h (.ref a) q):a1d prog w h [.i q.1,.t q.2] a:=by
 obtain⟨b,items,tk,u,e,⟨o,ho,hc,n,hd⟩,hi,b2,it2,rfl,⟨o2,ho2,hc2,n2,hd2⟩,hi2⟩:=t;cases e;refine⟨o,items,n,ho,hc,hd,?_⟩;rw[hi];exact .cons (show(intKind prog w).is q.1 (.int q.1 tk)=true by simp[intKind,Value.isInt]) (.cons ⟨b2,rfl,o2,it2,n2,ho2,hc2,hd2,a3W hi2⟩ .nil)
theorem a9A {prog:Program} {w:World} {h:Heap} {a:Addr} {q:Int × List Int} (t:a1d prog w h [.i q.1,.t q.2] a):PrN h (.ref a) q:=by
 obtain⟨o,items,n,ho,hc,hd,r⟩:=t;generalize hl:items.toList=its at r;cases r with
 | cons r1 r2 =>
  cases r2 with
  | cons r2 r3 =>
   cases r3;rename_i v1 v2;obtain⟨tk,rfl⟩:=b9K (k:=q.1) (v:=v1) r1;obtain⟨b,rfl,o2,it2,n2,ho2,hc2,hd2,hi2⟩:=r2;refine⟨a,items,tk,.ref b,rfl,⟨o,ho,hc,n,hd⟩,hl,b,it2,rfl,⟨o2,ho2,hc2,n2,hd2⟩,?_⟩;have key:∀{ns:List Int} {vs:List Value},ItemsAre (intKind prog w) ns vs->IntsAre vs ns:=λ{ns vs} x=>by
    induction x with
    | nil=>exact .nil
    | cons h1 _ ih =>
     obtain⟨t,rfl⟩:=b9K h1;exact .cons _ _ ih
   exact key hi2
section
variable {prog:Program} {w:World} {A:Around} {E:Value->Shared->Prop} {s:Shared}
theorem a8b {x y:Value} {p q:(Int × List Int) × Int} {C:Bool->Shared->Prop} (hx:PiN s.heap x p) (hy:PiN s.heap y q) (hu:A.units+4<cLine) (one:p.1=q.1->p=q) (h:C (a3H p.1 q.1) s):wpAny (model prog w) A (keyLt' (tuples' false) x y) C E s:=by
 obtain⟨b,items,a,t,rfl,⟨o,ho,hc,n,hd⟩,hi,pa⟩:=hx;obtain⟨b2,items2,a2,t2,rfl,⟨o2,ho2,hc2,n2,hd2⟩,hi2,pa2⟩:=hy;refine kat_lt ho hd ho2 hd2 ?_;have z1:items.size=2:=by rw[<-b4x,hi];rfl
 have z2:items2.size=2:=by rw[<-b4x,hi2];rfl
 rw[hi,hi2,z1,z2];show KatLex prog w A false (decide (2<2)) C [(.ref a,.ref a2),(.int p.2 t,.int q.2 t2)] 0 s;refine kat_cons (a2c (by omega) (.cons (.inl ⟨_,_,rfl,rfl⟩) (.cons (.inr ⟨_,_,rfl,rfl⟩) .nil)) pa.nest pa2.nest ?_);by_cases e:p.1=q.1
 ·have e2:=one e;rw[show decide ([Cell.i p.1.1,Cell.t p.1.2]=[Cell.i q.1.1,Cell.t q.1.2])=true from b4W (by rw[e])];refine kat_yes (kat_cons (b8Y ?_));rw[e2,show(q.2==q.2)=true by simp];refine kat_yes (kat_nil ?_);rw[e,a2P] at h;exact h
 ·rw[show decide ([Cell.i p.1.1,Cell.t p.1.2]=[Cell.i q.1.1,Cell.t q.1.2])=false from b5s (λz=>e (by
   have z1:=(b6I z).1;have z2:=(b6I (b6I z).2).1;exact b8I (Cell.i.inj z1) (Cell.t.inj z2)))]
  exact kat_no (kat_one _ _ (b1d pa pa2 hu h))
theorem a8c {M:Model} {vs:List Value} {Q:SortKind->Shared->Prop} (h1:1<=vs.length) (t:∀v∈vs,∃q,PiN s.heap v q) (h:Q (tuples' false) s):wpAny M A (keyKind' vs.toArray) Q E s:=by
 obtain⟨fs,kt,fl,fi⟩:∃fs,KatTups s.heap vs fs/\fs.length=vs.length/\∀v∈fs,∃(a:Addr) (o:Obj),v=Value.ref a/\s.heap.get? a=some o/\o.cls=.type "tuple":=by
  clear h1 h
  induction vs with
  | nil=>exact⟨[],trivial,rfl,λv hv=>by cases hv⟩
  | cons v r ih =>
   obtain⟨fs,k1,k2,k3⟩:=ih λv hv=>t v (.tail _ hv);obtain⟨q,b,items,a,tk,rfl,⟨o,ho,hc,n,hd⟩,hi,pa⟩:=t v (.head _);refine⟨.ref a::fs,KatTups.cons ho hc hd ?_ k1,by rw[b5l,b5l,k2],λv hv=>?_⟩
   ·rw[<-b5f,hi];rfl
   ·rcases b4K.mp hv with rfl|hv
    ·obtain⟨b',it',tk',u',e',⟨o',ho',hc',_⟩,_⟩:=pa;cases e';exact⟨_,o',rfl,ho',hc'⟩
    ·exact k3 v hv
 refine kat_kind (T:=Value.type "tuple") kt (by omega) (λv hv=>?_) rfl h;obtain⟨a,o,rfl,ho,hc⟩:=fi v hv;rw[<-hc];exact(Looks.ld ho).andThen .now
theorem a8d {a:Addr} {vs:List Value} {ks:List ((Int × List Int) × Int)} {n:Nat} {P:PySem.Fin->Shared->Prop} (ho:s.heap.get? a=some (seqObj "list" vs.toArray n)) (hz:vs.length<=100000) (hl:ks.length=vs.length) (t:∀i,i<vs.length->PiN s.heap (vs.getD i Value.none) (ks.getD i ((0,[]),0)))
  (nd:(ks.map Prod.fst).Nodup) (hu:A.units+4<cLine)
  (h:∀(h':Heap) (p:Array Nat) (c:Nat),Pm vs.length p->(p.toList.map λi=>(ks.getD i ((0,[]),0)).1).Pairwise LxP->h'.get? a=some (seqObj "list" (p.toList.map λi=>vs.getD i Value.none).toArray c)->(∀b o,b≠a->s.heap.get? b=some o->h'.get? b=some o)->P (.done (.ret .none)) { s with heap:=h' }) :
  wpAny (model prog w) A (Builtin.«list.sort» ⟨[.ref a],[]⟩) P E s:=by
 have gk:∀i,(ks.map Prod.fst).getD i (0,[])=(ks.getD i ((0,[]),0)).1:=λi=>by
  rw[b4t,b4C,b4t];cases ks[i]?<;>rfl
 have o:Ord vs.length (ltKP (ks.map Prod.fst)):=by rw[<-hl,<-b4p (f:=Prod.fst)];exact ordKP nd
 have same:∀i j,i<vs.length->j<vs.length->(ks.getD i ((0,[]),0)).1=(ks.getD j ((0,[]),0)).1->i=j:=λi j hi hj z=>by
  rw[<-gk,<-gk,b4t,b4t,b4q (by rw[b4p];omega),b4q (by rw[b4p];omega)] at z;exact(b7e nd).mp z
 have ndv:vs.Nodup:=by
  unfold List.Nodup;rw[b5D];intro i j hi hj hij z;have e1:vs.getD i Value.none=vs[i]:=by rw[b4t,b4q hi];rfl
  have e2:vs.getD j Value.none=vs[j]:=by rw[b4t,b4q hj];rfl
  have t1:=t i hi;have t2:=t j hj;rw[e1,z] at t1;rw[e2] at t2;have:=same i j hi hj (by rw[t1.inj t2]);omega
 have at_:∀v∈vs,∃i,i<vs.length/\v=vs.getD i Value.none:=λv hv=>by
  obtain⟨i,hi⟩:=b5R.mp hv;exact⟨i,(b4u.mp hi).1,by rw[b4t,hi];rfl⟩
 refine a6P (κ:=tuples' false) o (λi=>a2P _) ndv ho hz (λh2 h1 k1 Q q=>?_) (λh1 k1 i j hi hj C E' q=>?_) λh' p c pm as e k=>h h' p c pm ?_ e k
 ·refine a8c (s:={ s with heap:=h1 }) (by omega) (λv hv=>?_) q;obtain⟨i,hi,rfl⟩:=at_ v hv
  exact⟨_,(t i hi).keep ho rfl k1⟩
 ·unfold ltKP at q;rw[gk,gk] at q;exact a8b (s:={ s with heap:=h1 }) ((t i hi).keep ho rfl k1) ((t j hj).keep ho rfl k1) hu (λz=>by rw[same i j hi hj z]) q
 ·have:=a2H (f:=λi=>(ks.map Prod.fst).getD i (0,[])) (R:=LxP) o pm as λi j z=>z;have e:(λi=>(ks.map Prod.fst).getD i (0,[]))=λi=>(ks.getD i ((0,[]),0)).1:=funext gk;rw[e] at this;exact this
end
abbrev FKy:=Int × List Int
abbrev FKv:=FKy × Addr × V
noncomputable def iOf:V->Int
 | .int n=>n
 | _=>0
noncomputable def IPr (H:Hp) (x:V) (p:FKv):Prop:=∃t,x=.ref t/\H t=some (.tup [.ref p.2.1,p.2.2])
theorem IPr.same {H H':Hp} {x:V} {p:FKv} (s:a0r H H') (h:IPr H x p):IPr H' x p:=by
 obtain⟨t,e,g⟩:=h;exact⟨t,e,s _ _ g⟩
theorem a5v {X:Cx} {pins:List (Addr × Obj)} {σ:St} {s:Shared}:∀{as:List Addr} {kvs:List FKv} {H:Hp},Inv X pins σ H s->as.Pairwise (· < ·)->as.length=kvs.length->(∀a∈as,H a=none/\∀H',H' a=none->a2w X pins H' a) ->
  (∀(j:Nat) a p,as[j]?=some a->kvs[j]?=some p->∃v,a0T p.2.2 v/\s.heap.get? a=some (p2O (.ref p.2.1) v))->∃H',Inv X pins σ H' s/\a0r H H'/\Paired (IPr H') (as.map V.ref) kvs/\∀b,b∉as->H' b=H b
 | [],[],H,I,_,_,_,_=>⟨H,I,a0r.refl _,.nil,λb _=>rfl⟩
 | [],_::_,H,I,_,l,_,_=>by cases l
 | _::_,[],H,I,_,l,_,_=>by cases l
 | a::as,p::kvs,H,I,pw,l,f,g=>by
  obtain⟨pa,pw⟩:=b5K.mp pw;obtain⟨v,rv,ga⟩:=g 0 a p rfl rfl;have na:=(f a (.head _)).1;have I2:Inv X pins σ (upd H a (.tup [.ref p.2.1,p.2.2])) s:=I.adopt ((f a (.head _)).2 H na) ⟨by show 2<=sizeLine;decide,[.ref p.2.1,v],.cons rfl (.cons rv .nil),_,ga,_,rfl⟩;obtain⟨H',I3,s3,pr,oth⟩:=a5v I2 pw (by simpa using l) (λb hb=>⟨by rw[a0m (b5k (pa b hb))];exact(f b (.tail _ hb)).1,(f b (.tail _ hb)).2⟩) (λj b q hj hq=>g (j+1) b q (by simpa using hj) (by simpa using hq));have s0:=a0d na (.tup [.ref p.2.1,p.2.2]);refine⟨H',I3,s0.trans s3,.cons ⟨a,rfl,s3 _ _ a0b⟩ pr,λb hb=>?_⟩;rw[oth b (λz=>hb (.tail _ z)),a0m (λz=>hb (by rw[z];exact .head _))]
theorem a6X:∀as:List Addr,a0C (as.map V.ref) (as.map Value.ref)
 | []=>.nil
 | a::as=>.cons rfl (a6X as)
noncomputable def tSortI (X:Cx) (td:TE):TE:=λσ H Q=>td σ H λx H1=>∃(d:Addr) (kvs:List FKv),x=.ref d/\H1 d=some (NDO (a0n X.prog X.w) d kvs)/\kvs.length<=100000/\(∀p∈kvs,FAt X.K H1 p.1 p.2.1/\∃n,p.2.2=.int n) /\
 ∀(d2:Addr) (out:List V) (us:List FKv) H',a0r H1 H'->H1 d2=none->H' d2=some (.lst out)->us.Perm kvs->(us.map (·.1)).Pairwise LxP->Paired (IPr H') out us->Q (.ref d2) H'
theorem b1k {X:Cx} {o:Expr} {p apos cpos pos:Pos} {td:TE} (hc:X.calm=true) (hu:X.A.units+10<cLine) (hg:Gl X "sorted") (hm:X.mg "sorted"=none) (ho:PE X o td)
  (hbase:attributeBase o "items" X.env (eval o X.env)=eval o X.env:=by rfl) (hline:(apos.endLine==cpos.line)=true:=by rfl)
  (hs:starEach [.Call (.Attribute o "items" apos) [] [] cpos] X.env=(false,eval (.Call (.Attribute o "items" apos) [] [] cpos) X.env)::starEach [] X.env:=by rfl) :
  PE X (.Call (.Name "sorted" p) [.Call (.Attribute o "items" apos) [] [] cpos] [] pos) (tSortI X td):=by
 intro pins s σ H Q I h;refine b5E (a1l I hg hm a0U ?_ (by decide) (by decide));refine b7u ?_ hs rfl;rw[hs];refine b6E ?_;refine wpAny_Call_method0_late hbase hline (thn (ho pins s σ H _ I h) λu s1 ⟨x,H1,I1,rx,d,kvs,ex,hd,hn,hk,q⟩=>?_);subst ex;cases rx;have z0:=(show a0B X.prog X.w H1 s1.heap d (NDO (a0n X.prog X.w) d kvs) from I1.hok d _ hd).1;obtain⟨hsy,hl,xs,rel,ob,es,ep,hob,hx,hdat,he,hnd⟩:=id (show NDx (a0n X.prog X.w) d kvs s1.heap from z0);have lx:kvs.length=xs.length:=b9e rel;have sz:es.size=xs.length:=size_of_entries he;have T0:s1.TypeIs (.ref d) "dict":=⟨ob,hob,hx.1⟩
 have hde:d<s1.heap.objs.size:=b4w hob;refine⟨"dict","dict.items",F.plainAttrs_dict,F.slot_dict_items,F.type_dict_items,T0,?_,b8A rfl (PySem.evalArgs_none ?_)⟩
 ·intro a z;cases z;exact⟨ob,hob,hx.2.1⟩
 refine b4Z F.slot_dict_items T0 F.entry_dict_items ?_ (F.args_dict_items_1 _);unfold Builtin.«dict.items»;refine b4n ?_;unfold Builtin.Dict.noArgs;refine b4n (b8P T0 ?_);show wpAny _ _ (pure d) _ _ s1;refine b4r ?_;show wpAny _ _ (Builtin.Dict.showsAll d >>= _) _ _ s1;unfold Builtin.Dict.showsAll;rw[if_neg (by rw[hsy];decide)];refine b4n (b4r (b4n (b5o (b4r ⟨_,rfl,?_⟩))));refine b6Z ?_;have hv:(s1.heap.push { cls:=.type "dict_items",data:=.fields #[.ref d] }).IsItemsView s1.heap.objs.size d:=⟨_,b4v _ rfl,rfl,rfl⟩
 have kv:∀b o,s1.heap.get? b=some o->(s1.heap.push { cls:=.type "dict_items",data:=.fields #[.ref d] }).get? b=some o:=λb o e=>b4o _ e;have zv:(s1.heap.push { cls:=.type "dict_items",data:=.fields #[.ref d] }).objs.size=s1.heap.objs.size+1:=b4X _ _;show wpAny _ _ _ _ _ { s1 with heap:=s1.heap.push { cls:=.type "dict_items",data:=.fields #[.ref d] } };generalize s1.heap.push { cls:=.type "dict_items",data:=.fields #[.ref d] }=hV at hv kv zv ⊢;refine b7l b9r b8S b8T (args_sorted1 _) ?_;unfold Builtin.«sorted»;refine b4n (m:=checkCount "sorted" 1 1 _) (b4r ?_);refine b4n (a4x (s:={ s1 with heap:=hV }) (es:=es) (ep:=ep) (show X.A.in1.handled=none from I.ok.hd hc) hv ⟨ob,kv _ _ hob,hx,hdat⟩ (by rw[sz,<-lx,b5n];omega) λh2 tk2 as k2 las g=>?_);have k2:∀b o,hV.get? b=some o->h2.get? b=some o:=k2;have g:a6e es hV.objs.size h2 as:=g;have la:as.length=kvs.length:=by rw[las,sz,lx]
 have k12:∀b o,s1.heap.get? b=some o->h2.get? b=some o:=λb o e=>k2 b o (kv b o e);have ab:∀a∈as,s1.heap.objs.size<=a:=λa ha=>by
  have h9:=g.ab a ha;rw[zv] at h9;exact b6K (Nat.lt_of_succ_lt h9)
 have pairs:∀(j:Nat) a p,as[j]?=some a->kvs[j]?=some p->∃v,a0T p.2.2 v/\h2.get? a=some (p2O (.ref p.2.1) v):=λj a p hj hp=>by
  obtain⟨e,he1,he2⟩:=g.at_ j a hj;obtain⟨x,hx1,r1,r2,r3⟩:=Paired.right_of rel j p hp;rw[entry_at he j,hx1] at he1;cases he1;exact⟨x.2.2,r3,by rw[r2];exact he2⟩
 have tup:∀i,i<(as.map Value.ref).length->PiN h2 ((as.map Value.ref).getD i Value.none) ((kvs.map λp=>(p.1,iOf p.2.2)).getD i ((0,[]),0)):=λi hi=>by
  rw[b4p] at hi;have ha:as[i]?=some as[i]:=b4q hi;have hp:kvs[i]?=some (kvs[i]'(by omega)):=b4q _;obtain⟨v,rv,gv⟩:=pairs i _ _ ha hp;obtain⟨fa,n,en⟩:=hk _ (b6p (show i<kvs.length by omega));have pr:=(a9A (FAt.is I1 fa)).keep2 k12;generalize kvs[i]'(by omega)=p at hp rv gv fa en pr;rw[en] at rv;obtain⟨tk,rfl⟩:=(show ∃t,v=Value.int n t from rv)
  rw[b4t,b4C,ha,b4t,b4C,hp];show PiN h2 (.ref as[i]) (p.1,iOf p.2.2);rw[en];exact⟨_,_,p.2.1,tk,rfl,⟨_,gv,rfl,_,rfl⟩,rfl,pr⟩
 have ndk:((kvs.map λp=>(p.1,iOf p.2.2)).map Prod.fst).Nodup:=by
  rw[b5A];have:kvs.map (Prod.fst ∘ λp:FKv=>(p.1,iOf p.2.2))=xs.map (·.1):=by
   refine b6g (by simp[lx]) λi h1 h2=>?_;have hi:i<kvs.length:=by simpa using h1
   obtain⟨x,hx1,r1,_,_⟩:=Paired.right_of rel i _ (b4q hi);rw[b4q (by omega)] at hx1;cases hx1;rw[b5m,b5m];exact r1
  rw[this];exact hnd
 refine b4n (b6S ?_ (by show(as.map Value.ref).length<=sizeLine;rw[b4p,b5n];omega));show wpAny _ _ _ _ _ { s1 with heap:=h2.push (seqObj "list" (as.map Value.ref).toArray 0),toks:=tk2 };have hoL:(h2.push (seqObj "list" (as.map Value.ref).toArray 0)).get? h2.objs.size=some (seqObj "list" (as.map Value.ref).toArray 0):=b4v _ rfl;have kL:∀b o,h2.get? b=some o->(h2.push (seqObj "list" (as.map Value.ref).toArray 0)).get? b=some o:=λb o e=>b4o _ e;have nL:∀b o,h2.get? b=some o->b≠h2.objs.size:=λb o e=>b4H (b4w e);refine b4n (b4T (b4Z b8c ⟨_,hoL,rfl⟩ b7S (a8d (s:={ s1 with heap:=h2.push (seqObj "list" (as.map Value.ref).toArray 0),toks:=tk2 }) (ks:=kvs.map λp=>(p.1,iOf p.2.2)) hoL (by rw[b4p];omega) (by rw[b4p,b4p,la]) (λi hi=>(tup i hi).keep2 kL) ndk (by show X.A.units+1+1+4<cLine;omega) λh3 p c pm srt hL kp3=>⟨_,rfl,?_⟩) (b9J _)));rw[b4p] at pm;have k23:∀b o,h2.get? b=some o->h3.get? b=some o:=λb o e=>kp3 b o (nL b o e) (b4o _ e);have J3:Inv X pins σ H1 { s1 with heap:=h3,toks:=tk2 }:=I1.kept λb o e=>k23 b o (k12 b o e);have fp:∀a,s1.heap.objs.size<=a->∀H',H' a=none->a2w X pins H' a:=λa ha H' hn'=>I1.fpOk ha hn';obtain⟨H2,J4,s4,pr4,oth⟩:=a5v (as:=as) (kvs:=kvs) J3 g.nd la (λa ha=>⟨I1.hok.fresh (ab a ha),fp a (ab a ha)⟩) (λj a p hj hp=>by
  obtain⟨v,rv,gv⟩:=pairs j a p hj hp;exact⟨v,rv,k23 _ _ gv⟩)
 have Lsz:s1.heap.objs.size<=h2.objs.size:=by
  obtain⟨vo,hvo,_⟩:=hv;exact b6K (b4w (k2 _ _ hvo))
 have Ln:H2 h2.objs.size=none:=by
  rw[oth _ (λz=>absurd (g.lt z) (b5G _))];exact I1.hok.fresh Lsz
 have lt:∀i∈p.toList,i<(as.map V.ref).length:=λi hi=>by rw[b4p];exact pm.mem i hi
 have hv4:=a6X as;have pk:=a3l (xs:=kvs) ((0,[]),0,.non) (p:=p) (by rw[<-la];exact pm) rfl;have lp:p.toList.length=kvs.length:=by rw[<-b4p (f:=λi=>kvs.getD i ((0,[]),0,.non)),pk.length_eq]
 have J5:Inv X pins σ (upd H2 h2.objs.size (.lst (p.toList.map λi=>(as.map V.ref).getD i .non))) { s1 with heap:=h3,toks:=tk2 }:=J4.adopt (fp _ Lsz H2 Ln) ⟨by rw[b4p,lp,b5n];omega,_,c,Paired.pick hv4 .non Value.none p.toList lt,hL⟩;have s5:=a0d Ln (.lst (p.toList.map λi=>(as.map V.ref).getD i .non));refine b4r ⟨_,rfl,.ref h2.objs.size,_,J5,rfl,q _ _ (p.toList.map λi=>kvs.getD i ((0,[]),0,.non)) _ (s4.trans s5) (I1.hok.fresh Lsz) a0b pk ?_ (Paired.pick (Paired.mapP pr4 λ_ _ z=>IPr.same s5 z) .non ((0,[]),0,.non) p.toList lt)⟩;rw[b5A];have e:(p.toList.map λi=>((kvs.map λp=>(p.1,iOf p.2.2)).getD i ((0,[]),0)).1)=p.toList.map ((·.1) ∘ λi=>kvs.getD i ((0,[]),0,.non)):=b5V λi hi=>by
  have il:i<kvs.length:=by rw[<-la];exact pm.mem i hi
  show((kvs.map λp=>(p.1,iOf p.2.2)).getD i ((0,[]),0)).1=(kvs.getD i ((0,[]),0,.non)).1;rw[b4t,b4C,b4t,b4q il];rfl
 rw[e] at srt;exact srt
theorem a6f:mroOf (.type "dict")=pure [.type "dict",.type "object"]:=by rw[mroOf_type];kernel_rfl
theorem b1l:typeLookup (.type "dict") "__new__"=pure (some (.builtin "dict.__new__")):=by rw[b9t,b7T];kernel_rfl
theorem a8e:TypeCalled "dict" "dict.__new__" "dict.__init__" :=
 ⟨by decide +kernel,by decide +kernel,⟨_,_,a6f⟩,madeBy_type a6f b1l (by decide +kernel),by decide +kernel,by rw[isSubtype_type];kernel_rfl,F.slot_dict_init⟩
theorem a9B (a:Value):checkTypeCall "dict" ⟨[a],[]⟩=pure ():=by kernel_rfl
theorem b1m (a:Value):checkBuiltinCall "dict.__new__" ⟨[.type "dict",a],[]⟩=pure ():=by kernel_rfl
theorem a9C:entryFor table "dict.__new__"=some Builtin.«dict.__new__»:=entryFor_of_tree (by kernel_rfl)
theorem a5w:plainId "dict.__new__"=true:=by decide +kernel
theorem b3u:isSubtype (.type "dict") (.type "dict")=pure true:=by rw[isSubtype_type];kernel_rfl
theorem b1n:typeLookup (.type "list") "keys"=pure none:=by rw[b9t,b7T];kernel_rfl
section
variable {prog:Program} {w:World} {A:Around} {E:Value->Shared->Prop} {s:Shared}
theorem b1o (a:Value) {Q1:Value->Shared->Prop} (h:Q1 (.ref s.heap.objs.size) { s with heap:=s.heap.push { cls:=.type "dict",data:=.dict #[] } }) :
  codeAny (model prog w) A (.call (.builtin "dict.__new__") ⟨[.type "dict",a],[]⟩) (wants Q1 E) s:=by
 refine codeAny_of_tree ?_;show wpAny _ A.in1 (do checkBuiltinCall "dict.__new__" ⟨[.type "dict",a],[]⟩;again (.builtin "dict.__new__" ⟨[.type "dict",a],[]⟩)) _ _ s;refine b4n (b9o (b1m a) (b4r ⟨b5B a5w _,b5p a9C ?_⟩));rw[b4S a5w _];have f1:=b3u;have f2:=a6f;obtain⟨hp,g,d,tk,os⟩:=s
 wp_walk
 exact h
theorem b3v {a:Addr} {xs:Array Value} {k:Nat} {Q:Option Value->Shared->Prop} (hx:s.heap.get? a=some (seqObj "list" xs k)) (hA:A.handled=none) (h:∀h' tk,(∀b o,s.heap.get? b=some o->h'.get? b=some o)->Q none { s with heap:=h',toks:=tk }):wpAny (model prog w) A (getAttr? (.ref a) "keys") Q E s:=by
 obtain⟨hp,g,d,tk,os⟩:=s;have hT:∀tk',(⟨hp,g,d,tk',os⟩:Shared).TypeIs (.ref a) "list":=λ_=>⟨_,hx,rfl⟩
 have f1:=sub_AttributeError;have f3:=b8o.lookup;have f4:=b8o.bind (.ref a);have f5:=am_list_getattr_none;unfold getAttr? getAttrBy? getAttrBy
 repeat (any_goals (first|assumption|exact hT _|((with_reducible show wpAny _ _ (call (Value.builtin "list.__getattribute__") _ _) _ _ _);refine b9j b8o (hT _) am_entry_list_getattribute (F.args_list_getattribute_2 _ _) (meets_getattribute_miss_list a xs k #[] "keys" _ b1n (by decide +kernel) (by size_fits)) ⟨hx,hA,λh' tk' e hx'=>?_⟩)|wp_step))
 obtain⟨t',u',he⟩:=hx'.there;show wpAny _ _ (getattributeRaised _ _ _ _ _ _ _) _ _ _;unfold getattributeRaised
 repeat (any_goals (first|assumption|wp_step))
 exact h h' tk' hx'.keeps
theorem a5x:entryFor table "dict.update.loop"=some Builtin.«dict.update.loop»:=entryFor_of_tree (by kernel_rfl)
theorem a2r:plainId "dict.update.loop"=true:=by decide +kernel
abbrev KvH:=(Int × List Int) × Addr × Value
theorem a8f {xs:List KvH} {k:Int × List Int} {a:Addr} {v:Value} (h:k∉xs.map (·.1)):storedH xs k a v=xs++[(k,a,v)]:=by
 unfold storedH;rw[if_neg];intro z;unfold atKey at z;rw[b8G,List.find?_isSome] at z;obtain⟨x,hx,e⟩:=z;exact h (b4F.mpr ⟨x,hx,by simpa using e⟩)
theorem a6Y {R:Result->Shared->Prop} {d I l:Addr} {kvs:List KvH} {ts:List Addr} {St:Nat->Heap->Prop} {h0:Heap} (W:Walks prog w A.in1 I [I,l] [I] kvs.length (λi v=>∃t,ts[i]?=some t/\v=Value.ref t) St) (hu:A.units+4<cLine) (hz:kvs.length<sizeLine) (nd:(kvs.map (·.1)).Nodup) (dI:d≠I) (dl:d≠l)
  (old:∀b o,h0.get? b=some o->b≠d/\b≠I) (lt:ts.length=kvs.length) (prs:∀(j:Nat) t p,ts[j]?=some t->kvs[j]?=some p->(∃n,h0.get? t=some { cls:=.type "tuple",data:=.seq #[.ref p.2.1,p.2.2] n })/\PrN h0 (.ref p.2.1) p.1)
  (hR:∀h' tk,(∀b o,h0.get? b=some o->h'.get? b=some o)->h'.DictOfH (a0n prog w) d kvs->R (.ok (.ret .none)) { s with heap:=h',toks:=tk }) :
  ∀(k i:Nat) (h:Heap) (tk:Nat),kvs.length-i=k->i<=kvs.length->St i h->h.DictOfH (a0n prog w) d (kvs.take i)->(∀b o,h0.get? b=some o->h.get? b=some o) ->
   codeAny (model prog w) A (.builtin "dict.update.loop" ⟨[.ref d,.ref I,rawInt i,.none],[]⟩) R { s with heap:=h,toks:=tk }
 | 0,i,h,tk,hk,hi,st,dd,kp=>by
  have ei:i=kvs.length:=by omega
  have isAt:∀{h':Heap},(∀b o,h0.get? b=some o->h'.get? b=some o)->∀x∈kvs,(a0n prog w).is h' x.1 x.2.1:=λ{h'} kq x hx=>by
   obtain⟨j,hj⟩:=b6b hx;have jl:=(b4u.mp hj).1;exact((prs j _ x (b4q (by omega)) hj).2.keep2 kq).nest
  refine b5p a5x ?_;rw[b4S a2r _];show wpAny _ A.in1 (pyNext (.ref I) >>= _) _ _ _;refine b4n (W.done { s with heap:=h,toks:=tk } _ _ (by rw[<-ei];exact st) λh' tk' kn=>?_);show wpAny _ A.in1 (Builtin.Dict.addKeywords d [] >>= _) _ _ _;refine b4n (b4r (b4r ?_));refine hR h' tk' (λb o e=>kn b o (λz=>(old b o e).2 (b4s.mp z)) (kp b o e)) ?_;rw[ei,b5z] at dd;obtain⟨o,es,ep,q1,q2,q3,q4,q5,q6⟩:=dd;refine⟨o,es,ep,kn d o (λz=>dI (b4s.mp z)) q1,q2,q3,q4,λx hx=>?_,q6⟩;exact isAt (λb o e=>kn b o (λz=>(old b o e).2 (b4s.mp z)) (kp b o e)) x hx
 | k+1,i,h,tk,hk,hi,st,dd,kp=>by
  have il:i<kvs.length:=by omega
  have isAt:∀{h':Heap},(∀b o,h0.get? b=some o->h'.get? b=some o)->∀x∈kvs,(a0n prog w).is h' x.1 x.2.1:=λ{h'} kq x hx=>by
   obtain⟨j,hj⟩:=b6b hx;have jl:=(b4u.mp hj).1;exact((prs j _ x (b4q (by omega)) hj).2.keep2 kq).nest
  refine b5p a5x ?_;rw[b4S a2r _];show wpAny _ A.in1 (pyNext (.ref I) >>= _) _ _ _;refine b4n (W.item i { s with heap:=h,toks:=tk } _ _ il st λv h1 tk1 hv st1 kn=>?_);obtain⟨t,ht,rfl⟩:=hv;have hp:kvs[i]?=some kvs[i]:=b4q il;obtain⟨⟨nt,gt⟩,pr⟩:=prs i t _ ht hp;have kp1:∀b o,h0.get? b=some o->h1.get? b=some o:=λb o e=>kn b o (λz=>(old b o e).2 (b4s.mp z)) (kp b o e);have gt1:=kp1 _ _ gt;have dd1:h1.DictOfH (a0n prog w) d (kvs.take i):=by
   obtain⟨o,es,ep,q1,q2,q3,q4,q5,q6⟩:=dd;exact⟨o,es,ep,kn d o (λz=>dI (b4s.mp z)) q1,q2,q3,q4,λx hx=>isAt kp1 x (b6k hx),q6⟩
  have T1:Shared.TypeIs { s with heap:=h1,toks:=tk1 } (.ref t) "tuple":=⟨_,gt1,rfl⟩
  show wpAny _ A.in1 (holding [.ref t] _ >>= _) _ _ { s with heap:=h1,toks:=tk1 };refine b4n (b4T (b4n (b6D ?_)));unfold Builtin.Dict.pairItems;refine b4n (b8n (T:="tuple") T1 ?_);rw[if_pos (by decide)];refine b4n (b5i gt1 rfl (b4r ?_));show wpAny _ A.in1 (holding [.ref kvs[i].2.1,kvs[i].2.2] (dictSet d (.ref kvs[i].2.1) kvs[i].2.2)) _ _ _;refine b4T ?_;have lz:(kvs.take i).length<=sizeLine:=by rw[b4L];omega
  have nk:kvs[i].1∉(kvs.take i).map (·.1):=λz=>by
   obtain⟨x,hx,e⟩:=b4F.mp z;obtain⟨j,hj⟩:=b6b hx;have jl:=(b4u.mp hj).1;rw[b4L] at jl;rw[b6c (by omega)] at hj;have e1:(kvs.map (·.1))[j]?=(kvs.map (·.1))[i]?:=by rw[b4C,b4C,hj,hp];exact b6W some e
   have:=(b9O (by rw[b4p];omega) nd).mp e1;omega
  refine wpAny_dictSet_heap (s:={ s with heap:=h1,toks:=tk1 }) (k:=kvs[i].1) (hsz:=lz) (show A.in1.units+1<cLine by show A.units+1+1<cLine;omega) (isAt kp1 _ (b6p il)) dd1 λh2 dd2 (s2:Heap.SameBut d h1 h2)=>?_;rw[a8f nk] at dd2;have kp2:∀b o,h0.get? b=some o->h2.get? b=some o:=λb o e=>s2.extBut b o (old b o e).1 (kp1 b o e);refine b4r ⟨b5B a2r _,?_⟩;have ei:(rawInt ((i:Int)+1))=rawInt ((i+1:Nat):Int):=by congr 1
  show codeAny _ _ (.builtin "dict.update.loop" ⟨[.ref d,.ref I,rawInt ((i:Int)+1),.none],[]⟩) _ _;rw[ei];refine a6Y W hu hz nd dI dl old lt prs hR k (i+1) h2 _ (by omega) il (W.frame _ h1 h2 st1 λb hb o e=>s2.extBut b o (λz=>?_) e) ?_ kp2
  ·rw[z] at hb;rcases b4K.mp hb with q|q
   ·exact dI q
   ·exact dl (b4s.mp q)
  ·rw[b5e,hp];exact dd2
end
noncomputable def rDictI (X:Cx):List V->Hp->VK->Prop:=λxs H Q=>∃(l:Addr) (out:List V) (us:List FKv),xs=[.ref l]/\H l=some (.lst out)/\Paired (IPr H) out us/\(∀p∈us,FAt X.K H p.1 p.2.1)/\(us.map (·.1)).Nodup/\us.length<=100000/\∀d,H d=none->Q (.ref d) (upd H d (NDO (a0n X.prog X.w) d us))
theorem a3u:∀{out:List V} {us:List FKv} {H:Hp} {its:List Value},Paired (IPr H) out us->a0C out its->∃ts:List Addr,its=ts.map Value.ref/\ts.length=us.length/\∀(j:Nat) t p,ts[j]?=some t->us[j]?=some p->H t=some (.tup [.ref p.2.1,p.2.2])
 | [],_,H,its,pr,rv=>by
  cases pr;cases rv;exact⟨[],rfl,rfl,λj t p hj=>by simp at hj⟩
 | x::out,_,H,its,pr,rv=>by
  cases pr with
  | cons h1 pr =>
   cases rv with
   | cons r1 rv =>
    obtain⟨t,rfl,ht⟩:=h1;cases r1;obtain⟨ts,e,l,g⟩:=a3u pr rv;refine⟨t::ts,by rw[e];rfl,by rw[b5l,b5l,l],λj t' p hj hp=>?_⟩;cases j with
    | zero=>cases hj;cases hp;exact ht
    | succ j=>exact g j t' p (by simpa using hj) (by simpa using hp)
theorem b3w {prog:Program} {w:World} {A:Around} (hh:A.handled=none) (I l:Addr) (ne:l≠I) (ts:List Addr) {n:Nat} (hn:ts.length=n) :
  Walks prog w A I [I,l] [I] n (λi v=>∃t,ts[i]?=some t/\v=Value.ref t) (λi h=>h.IsListIter I l i/\h.IsList l (ts.map Value.ref).toArray):=by
 have W:=c0j (prog:=prog) (w:=w) (A:=A) hh I l ne (ts.map Value.ref).toArray;have sz:(ts.map Value.ref).toArray.size=n:=by rw[b4y,b4p,hn]
 rw[sz] at W;refine⟨W.sub,W.frame,λi s Q E hi st hQ=>W.item i s Q E hi st λv h' tk hv=>hQ v h' tk ?_,W.done,W.self⟩;have hv:(ts.map Value.ref).toArray[i]?=some v:=hv;rw[List.getElem?_toArray,b4C] at hv;obtain⟨t,ht,e⟩:=b5q.mp hv;exact⟨t,ht,e.symm⟩
theorem a8g {X:Cx} (hc:X.calm=true) (hu:X.A.units+10<cLine):a2f X (.type "dict") (rDictI X):=by
 intro pins s σ H xs us0 Q I r h;obtain⟨l,out,us,rfl,hl,pr,hk,nd,hz,q⟩:=h;obtain⟨u,rfl,rx⟩:=a2g r;cases rx;obtain⟨_,its,n,rv,he⟩:=(show a0B X.prog X.w H s.heap l (.lst out) from I.hok l _ hl)
 obtain⟨ts,rfl,lts,gts⟩:=a3u pr rv;have ll:=b4w he;have raw:∀(j:Nat) t p,ts[j]?=some t->us[j]?=some p->∃v n,a0T p.2.2 v/\s.heap.get? t=some { cls:=.type "tuple",data:=.seq #[.ref p.2.1,v] n }/\PrN s.heap (.ref p.2.1) p.1:=λj t p hj hp=>by
  have g:=gts j t p hj hp;obtain⟨_,it2,rv2,o2,ho2,n2,rfl⟩:=(show a0B X.prog X.w H s.heap t (.tup [.ref p.2.1,p.2.2]) from I.hok _ _ g)
  obtain⟨v1,v2,rfl,r1,r2⟩:=rv2.two;cases r1;exact⟨v2,n2,r2,ho2,a9A (FAt.is I (hk p (b4B hp)))⟩
 obtain⟨kvs,rel,prs⟩:∃kvs:List KvH,a6W us kvs/\∀(j:Nat) t p,ts[j]?=some t->kvs[j]?=some p->(∃n,s.heap.get? t=some { cls:=.type "tuple",data:=.seq #[.ref p.2.1,p.2.2] n })/\PrN s.heap (.ref p.2.1) p.1:=by
  clear gts rv he nd hz q hk pr hl
  induction us generalizing ts with
  | nil=>exact⟨[],.nil,λj t p _ hp=>by simp at hp⟩
  | cons p0 us ih =>
   cases ts with
   | nil=>cases lts
   | cons t0 ts =>
    obtain⟨v,n,rv,g,pn⟩:=raw 0 t0 p0 rfl rfl;obtain⟨kvs,rel,prs⟩:=ih (ts:=ts) (by simpa using lts) (λj t p hj hp=>raw (j+1) t p (by simpa using hj) (by simpa using hp));refine⟨(p0.1,p0.2.1,v)::kvs,.cons ⟨rfl,rfl,rv⟩ rel,λj t p hj hp=>?_⟩;cases j with
    | zero=>cases hj;cases hp;exact⟨⟨n,g⟩,pn⟩
    | succ j=>exact prs j t p (by simpa using hj) (by simpa using hp)
 have lk:us.length=kvs.length:=b9e rel;have ndk:(kvs.map (·.1)).Nodup:=by
  have:us.map (·.1)=kvs.map (·.1):=by
   refine b6g (by simp[lk]) λi h1 h2=>?_;have hi:i<us.length:=by simpa using h1
   obtain⟨x,hx1,r1,_,_⟩:=Paired.right_of rel i _ (b4q hi);rw[b4q (by omega)] at hx1;cases hx1;rw[b5m,b5m];exact r1
  rw[<-this];exact nd
 refine callType_codes (Q₁:=λobj s1=>obj=.ref s.heap.objs.size/\s1={ s with heap:=s.heap.push { cls:=.type "dict",data:=.dict #[] } }) a8e (a9B _) F.entry_dict_init (b1o _ ⟨rfl,rfl⟩) λobj s1 h1=>?_;obtain⟨rfl,rfl⟩:=h1;have gd:(s.heap.push { cls:=.type "dict",data:=.dict #[] }).get? s.heap.objs.size=some { cls:=.type "dict",data:=.dict #[] }:=b4v _ rfl;have T0:Shared.TypeIs { s with heap:=s.heap.push { cls:=.type "dict",data:=.dict #[] } } (.ref s.heap.objs.size) "dict":=⟨_,gd,rfl⟩
 have he1:(s.heap.push { cls:=.type "dict",data:=.dict #[] }).get? l=some (seqObj "list" (ts.map Value.ref).toArray n):=b4o _ he;have ko:∀b o,s.heap.get? b=some o->(s.heap.push { cls:=.type "dict",data:=.dict #[] }).get? b=some o:=λb o e=>b4o _ e;refine⟨T0,F.args_dict_init_2 _ _,?_⟩;unfold Builtin.«dict.__init__»;refine b4n ?_;unfold Builtin.Dict.selfAndRest;refine b4n (b8P T0 ?_);show wpAny _ _ (pure (s.heap.objs.size,[Value.ref l])) _ _ _;refine b4r ?_;show wpAny _ _ (Builtin.Dict.updateFrom "dict.__init__" s.heap.objs.size (.ref l) [] .none) _ _ _;unfold Builtin.Dict.updateFrom;generalize hP:s.heap.push { cls:=.type "dict",data:=.dict #[] }=hD at gd T0 he1 ko ⊢;refine b4n (b8n (T:="list") ⟨_,he1,rfl⟩ ?_);rw[if_pos (by decide)];refine b4n (b3v (s:={ s with heap:=hD }) he1 (by show X.A.handled=none;exact I.ok.hd hc) λh2 tk2 k2=>?_);have k2:∀b o,hD.get? b=some o->h2.get? b=some o:=k2;rw[if_pos (by rfl)];refine b4n (b5T (b4n (b6w (a1u (k2 _ _ he1)) ?_)));have hD1:s.heap.objs.size<hD.objs.size:=b4w gd;have hD2:s.heap.objs.size<h2.objs.size:=b4w (k2 _ _ gd);refine b4r ⟨b5B a2r _,?_⟩;have old:∀b o,s.heap.get? b=some o->b≠s.heap.objs.size/\b≠h2.objs.size:=λb o e=>⟨b4H (b4w e),b4H (b9B (b4w e) hD2)⟩
 have kz:∀b o,s.heap.get? b=some o->(h2.push { cls:=.type "list_iterator",data:=.fields #[.ref l,rawInt 0] }).get? b=some o:=λb o e=>b4o _ (k2 b o (ko b o e));refine a6Y (s:=s) (A:=X.A.in1) (d:=s.heap.objs.size) (I:=h2.objs.size) (l:=l) (kvs:=kvs) (ts:=ts) (h0:=s.heap) (b3w (by show X.A.handled=none;exact I.ok.hd hc) h2.objs.size l (b4H (b9B ll hD2)) ts (lts.trans lk)) (by show X.A.units+1+4<cLine;omega) (by rw[b5n];omega) ndk (b4H hD2) (b5k ll) old (lts.trans lk) prs (λh' tk' k' dd=>?_)
  kvs.length 0 _ tk2 (Nat.sub_zero _) (b5j _) ⟨⟨_,b4v _ rfl,rfl,rfl⟩,a1u (kz _ _ he)⟩ ⟨_,#[],0,b4o _ (k2 _ _ gd),⟨rfl,rfl,rfl⟩,rfl,by simp,λx hx=>by simp at hx,by simp⟩ kz
 have J:Inv X pins σ H { s with heap:=h',toks:=tk' }:=I.kept k';have nd0:H s.heap.objs.size=none:=I.hok.fresh (b4z _);obtain⟨o,es,ep,q1,q2,q3,q4,q5,q6⟩:=dd;refine⟨rfl,.ref s.heap.objs.size,_,J.adopt (I.fpOk (b4z _) nd0) (NDx.ok ⟨?_,by rw[b5n];omega,kvs,rel,o,es,ep,q1,q2,q3,q4,q6⟩),rfl,q _ nd0⟩;exact b9k.mpr (Ne.symm (b4H I.big))
noncomputable def rMinE (xs zs:List V) (H:Hp) (Q:VK):Prop:=∃(a:Addr) (ns:List Int) (z:Int),xs=[.ref a]/\zs=[.int z]/\H a=some (.lst (ns.map V.int))/\Q (.int (if ns=[] then z else (srt ns).headD 0)) H
theorem a9D {X:Cx} (hc:X.calm=true) {pins:List (Addr × Obj)} {s:Shared} {σ:St} {H:Hp} {vs zs:List V} {us ws:List Value} {Q:VK} (I:Inv X pins σ H s) (r:a0C vs us) (rz:a0C zs ws) (h:rMinE vs zs H Q) :
  wpAny (model X.prog X.w) X.A (call (.builtin "min") us (([Str.ofString "default"]:List Str).zip ws)) (EP X pins σ Q) X.xe s:=by
 obtain⟨a,ns,z0,rfl,rfl,e,q⟩:=h;obtain⟨u,rfl,ru⟩:=a2g r;obtain⟨d,rfl,rd⟩:=a2g rz;cases ru;obtain⟨tz,rfl⟩:=(show ∃t,d=Value.int z0 t from rd)
 obtain⟨_,its,n,rv,he⟩:=(show a0B X.prog X.w H s.heap a (.lst (ns.map V.int)) from I.hok a _ e)
 have hI:=a1q rv;have li:=a1g hI;have hlt:=b4w he;show wpAny _ _ (call (.builtin "min") [.ref a] (kwD (.int z0 tz))) _ _ _;refine kmb_tree F.kind_min F.plain_min F.entry_min (a9k _ _) ?_;have eB:Builtin.Builtins.bindParams "min" ["key","default"] 0 { kw:=kwD (.int z0 tz) }=pure [none,some (.int z0 tz)]:=rfl;show wpAny _ X.A.in1 (Builtin.Builtins.bindParams "min" ["key","default"] 0 { kw:=kwD (.int z0 tz) } >>= _) _ _ s;rw[eB];show wpAny _ X.A.in1 (pyIter (.ref a) >>= _) _ _ s;refine b4n (b6w (a1u he) ?_);refine b4n (b6S ?_ (b5j _));refine b4r ⟨b5B b5I _,?_⟩;have sz:(s.heap.push { cls:=.type "list_iterator",data:=.fields #[.ref a,rawInt 0] }).objs.size=s.heap.objs.size+1:=b4X _ _;have hS:(s.heap.push { cls:=.type "list_iterator",data:=.fields #[.ref a,rawInt 0] }).objs.size∉[s.heap.objs.size,a]:=λz=>by
  rw[sz] at z;simp only[b4K,b5u,b7o] at z;rcases z with z|z
  ·exact absurd z (b5k (b7f _))
  ·rw[<-z] at hlt;exact absurd hlt (Nat.not_lt.mpr (b9U _))
 have up:∀b o,s.heap.get? b=some o->((s.heap.push { cls:=.type "list_iterator",data:=.fields #[.ref a,rawInt 0] }).push { cls:=.type "list",data:=.seq (([]:List Value).toArray) }).get? b=some o:=λb o eo=>b4o _ (b4o _ eo);have ne1:∀b o,s.heap.get? b=some o->b∉[s.heap.objs.size]:=λb o eo z=>by
  rw[b4s.mp z] at eo;exact absurd (b4w eo) (b5G _)
 have ne2:∀b o,s.heap.get? b=some o->b≠(s.heap.push { cls:=.type "list_iterator",data:=.fields #[.ref a,rawInt 0] }).objs.size:=λb o eo z=>by
  rw[sz] at z;rw[z] at eo;exact absurd (b4w eo) (Nat.not_lt.mpr (b9U _))
 refine a7U (A:=X.A) (c:=0) (c0j (A:=X.A.in1) (by show X.A.handled=none;exact I.ok.hd hc) s.heap.objs.size a (b4H hlt) its.toArray) (λi j=>decide (ns.getD i 0<ns.getD j 0)) (b9W _ (λi v hv=>hI.int_at i v (by simpa using hv))) _ hS (.int z0 tz)
  ⟨⟨_,b4o _ (b4v _ rfl),rfl,rfl⟩,a1u (up _ _ he)⟩ (b4v _ rfl) (λn0 h' tk hk=>?_) (λn0 v h' tk hv hk=>?_)
 ·have e0:ns=[]:=b5C.mp (by rw[<-li];rw[b4y] at n0;exact n0);rw[if_pos e0] at q;exact⟨.int z0,H,I.kept (h':=h') (t':=tk) (λb o eo=>hk b o (ne1 b o eo) (ne2 b o eo) (up b o eo)),⟨tz,rfl⟩,q⟩
 ·have e0:ns≠[]:=λz=>by
   rw[z] at li;rw[b4y] at n0;simp at li;rw[li] at n0;simp at n0
  rw[if_neg e0] at q;obtain⟨t,rfl⟩:=a5Z hI e0 hv;exact⟨.int _,H,I.kept (h':=h') (t':=tk) (λb o eo=>hk b o (ne1 b o eo) (ne2 b o eo) (up b o eo)),⟨t,rfl⟩,q⟩
noncomputable def tMinE (t tk:TA):TE:=λσ H Q=>t σ H λvs H1=>tk σ H1 λzs H2=>rMinE vs zs H2 Q
theorem b3x {X:Cx} {e e2:Expr} {p pos kpos:Pos} {t tk:TA} (hc:X.calm=true) (hg:Gl X "min") (hm:X.mg "min"=none) (ha:PA X [e] t) (hk:PK X [⟨some "default",e2,kpos⟩] tk) (h1:backTo pos (starEach [e] X.env)=(false,eval e X.env)::backTo pos (starEach [] X.env):=by rfl)
  (h2:((backTo pos (starEach [e] X.env)).any (·.1))=false:=by rfl) (h3:(backToKw pos (keywordEach [⟨some "default",e2,kpos⟩] X.env)).all (·.1.isSome)=true:=by rfl) (h4:(backToKw pos (keywordEach [⟨some "default",e2,kpos⟩] X.env)).any (·.1.isNone)=false:=by rfl) (h5:(backToKw pos (keywordEach [⟨some "default",e2,kpos⟩] X.env)).filterMap (·.1)=[Str.ofString "default"]:=by rfl) :
  PE X (.Call (.Name "min" p) [e] [⟨some "default",e2,kpos⟩] pos) (tMinE t tk):=by
 intro pins s σ H Q I h;refine b5E (a1l I hg hm a5q ?_);refine callWith_kw (thn (ha pos pins s σ H _ I h) λus s1 ⟨vs,H1,I1,r,q⟩=>?_) h1 h2 h3 h4;refine thn (hk pos pins s1 σ H1 _ I1 q) λws s2 ⟨zs,H2,I2,rz,q2⟩=>?_;rw[h5];exact a9D hc I2 r rz q2
section
variable {prog:Program} {w:World} {A:Around} {E:Value->Shared->Prop} {s:Shared}
end
section
variable {X:Cx} {pins:List (Addr × Obj)} {σ:St} {H:Hp} {s:Shared}
noncomputable def RIt (K:PySem.W.Frag) (H:Hp) (x:V) (q:(Int × List Int) × Int):Prop:=∃t a,x=.ref t/\H t=some (.tup [.ref a,.int q.2])/\FAt K H q.1 a
end
theorem a3v {α β:Type} {f:α->β}:∀{l:List β} {xs:List α},l.Perm (xs.map f)->∃ys:List α,ys.Perm xs/\ys.map f=l
 | [],xs,h=>⟨[],by rw[b7y.mp h.nil_eq.symm],rfl⟩
 | b::l,xs,h=>by
  obtain⟨x,hx,rfl⟩:=b4F.mp (h.mem_iff.mp (.head _));obtain⟨A,B,rfl⟩:=b7i hx;have p:l.Perm ((A++B).map f):=by
   refine(h.trans ?_).cons_inv;exact(b5H (a:=x) (l₁:=A) (l₂:=B)).map f
  obtain⟨ys,h1,h2⟩:=a3v p;exact⟨x::ys,(h1.cons x).trans b5H.symm,by rw[b5J,h2]⟩
section
variable {X:Cx} {k:Nat} {Rg:Addr->List V->Hp->VK->Prop} {pins:List (Addr × Obj)} {σ:St} {H:Hp} {a g kS:Addr} {xs:List V} {ks:Nat->List Int} {s:Shared} {P:PySem.Fin->Shared->Prop} {E:Value->Shared->Prop}
theorem a6g (L:a7X X σ Rg) {vs:List Value} {e1:Nat} (J:Inv X pins σ H s) (ho:s.heap.get? a=some (seqObj "list" #[] e1)) (hS:s.heap.get? kS=some (seqObj "list" #[] 0)) (hne:kS≠a) (fa:∀H',H' a=none->a2w X pins H' a) (fS:∀H',H' kS=none->a2w X pins H' kS) (na:H a=none) (nS:H kS=none) (rv:a0C xs vs) (hz:vs.length<=1000)
  (hk:∀i x H1 Q1,xs[i]?=some x->a0r H H1->(∀t H2,a0r H1 H2->H2 t=some (.tup ((ks i).map V.int))->Q1 (.ref t) H2)->Rg g [x] H1 Q1) (nd:((List.range vs.length).map ks).Nodup) (nn:∀i,i<vs.length->ks i≠[])
  (h:∀(s':Shared) (H':Hp) (p:Array Nat) (c:Nat),Inv X pins σ H' s'->a0r H H'->H' a=none->Pm vs.length p->(p.toList.map ks).Pairwise Lx->s'.heap.get? a=some (seqObj "list" (p.toList.map λi=>vs.getD i Value.none).toArray c)->P (.done (.ret .none)) s') :
  wpAny (model X.prog X.w) X.A.in1.in1 (ksk_rest a (.ref g) false vs.toArray e1 (.ref kS)) P E s:=by
 refine a3s L J ho hS hne fa fS na nS rv (by omega) hk nn λs' H' ps c J' sm na' pm pw hl=>?_;have e:((List.range vs.length).map ks).zip vs=(List.range vs.length).map λi=>(ks i,vs.getD i Value.none):=by
  refine b6g (by simp) λi h1 h2=>?_;rw[b4p,b6a] at h2;rw[b9c,b5m,b5m,b8w,b4t,b4q h2];rfl
 rw[e] at pm;obtain⟨p,h1,rfl⟩:=a3v pm;have ndp:(p.map ks).Nodup:=(h1.map ks).nodup_iff.mpr nd;refine h s' H' p.toArray c J' sm na' (by unfold Pm;exact b5h.mpr (by simpa using h1)) ?_ (by rw[hl,b5A];rfl);unfold List.Nodup at ndp;rw[b5r] at pw ndp ⊢;exact(pw.and ndp).imp λ{i j} z=>a1S _ _ (Ne.symm z.2) z.1
end
section
variable {X:Cx} {k:Nat} {Rg:Addr->List V->Hp->VK->Prop} {pins:List (Addr × Obj)} {σ:St} {H:Hp} {g:Addr} {ks:Nat->List Int} {s:Shared} {Q:VK}
theorem a6h (L:a7X X σ Rg) (hc:X.calm=true) (J:Inv X pins σ H s) {r:Addr} {n:Nat} {t u v:Tok} (hR:IsRange s.heap r 0 (n:Int) 1 t u v) (hn:n<=900)
  (hk:∀(i:Nat) H1 Q1,i<n->a0r H H1->(∀t H2,a0r H1 H2->H2 t=some (.tup ((ks i).map V.int))->Q1 (.ref t) H2)->Rg g [.int (i:Int)] H1 Q1) (nd:((List.range n).map ks).Nodup) (nn:∀i,i<n->ks i≠[])
  (q:∀(d:Addr) (p:List Nat) H',a0r H H'->H' d=some (.lst (p.map λi:Nat=>V.int (i:Int)))->p.Perm (List.range n)->(p.map ks).Pairwise Lx->Q (.ref d) H') :
  wpAny (model X.prog X.w) X.A (call (.builtin "sorted") [.ref r] (kwK (.ref g))) (EP X pins σ Q) X.xe s:=by
 refine call_function_entry_kw b9r b8S b8T (ksk_s1 _ _) ?_;unfold Builtin.«sorted»;refine b4n (m:=checkCount "sorted" 1 1 _) (b4r ?_);have sm:=small_one (a:=0) (b:=(n:Int)) (by omega) (by omega) (by omega) (by omega);have z0:Builtin.Range.rangeSize 0 (n:Int) 1=(n:Int):=by rw[rangeSize_one];split<;>omega
 refine b4n (a4u (J.ok.hd hc) hR sm z0 (by omega) λh1 tk1 acc k1 hacc=>?_);have er:=a7V (g:=λi=>(0:Int)+(i:Int)*1) hacc;have eg:((List.range n).map λi:Nat=>V.int ((0:Int)+(i:Int)*1))=(List.range n).map λi:Nat=>V.int (i:Int):=b5V λi _=>by rw[c0f,Int.mul_one]
 rw[eg] at er;generalize acc.toList=its at er;have li:its.length=n:=by rw[<-er.length,b4p,b6a]
 have J1:Inv X pins σ H { s with heap:=h1,toks:=tk1 }:=J.kept k1;refine b4n (b6S ?_ (by show its.length<=sizeLine;rw[b5n];omega));show wpAny _ _ _ _ _ { s with heap:=h1.push (seqObj "list" its.toArray 0),toks:=tk1 };have hoL:(h1.push (seqObj "list" its.toArray 0)).get? h1.objs.size=some (seqObj "list" its.toArray 0):=b4v _ rfl;have fl:∀H',H' h1.objs.size=none->a2w X pins H' h1.objs.size:=λH' hn'=>J1.fpOk (b4z _) hn';have nl:H h1.objs.size=none:=J1.hok.fresh (b4z _);have J2:Inv X pins σ H { s with heap:=h1.push (seqObj "list" its.toArray 0),toks:=tk1 }:=J1.kept λb o e=>b4o _ e;refine b4n (b4T (wpAny_call_entry_kw b8c ⟨_,hoL,rfl⟩ b7S ?_ (ksk_l1 _ _)));show wpAny (model X.prog X.w) X.A.in1.in1 (Builtin.«list.sort» ⟨[.ref h1.objs.size],[(Str.ofString "key",.ref g)]⟩) _ _ _;rw[ksk_t1];unfold ksk_tree;generalize eh2:h1.push (seqObj "list" its.toArray 0)=h2 at hoL J2 ⊢;have sz2:h2.objs.size=h1.objs.size+1:=by rw[<-eh2];exact b4X _ _
 obtain⟨e1,ho1⟩:∃e1,(h2.update h1.objs.size (Obj.mapSeq λ_=>(#[]:Array Value))).get? h1.objs.size=some (seqObj "list" #[] e1):=⟨_,b5Y hoL λ_=>#[]⟩
 refine b4n (b9F hoL rfl (b4n (b7v hoL rfl ?_ (by rw[b4y,b5n];omega) (b5j _))));refine b4n (b9q ho1 rfl (b4n (b7k ?_ (by show its.length<=_;rw[b5n];omega))));refine b4n (b6S ?_ (b5j _));refine b4T ?_;obtain⟨g0,g1,g2,g3,g4,g5⟩:=fl H nl;have J3:Inv X pins σ H { s with heap:=h2.update h1.objs.size (Obj.mapSeq λ_=>(#[]:Array Value)),toks:=tk1 }:=J2.turned (t':=tk1) (λb o hb e=>by rw[b4I _ _ _ _ hb];exact e) g0 g1 g3 g4 g5;generalize eh3:h2.update h1.objs.size (Obj.mapSeq λ_=>(#[]:Array Value))=h3 at ho1 J3 ⊢;have sz3:h3.objs.size=h1.objs.size+1:=by rw[<-eh3,b8g,sz2]
 have J4:Inv X pins σ H { s with heap:=(h3.push (seqObj "tuple" its.toArray 0)).push (seqObj "list" #[] 0),toks:=tk1 }:=J3.kept λb o e=>b4o _ (b4o _ e);have szS:(h3.push (seqObj "tuple" its.toArray 0)).objs.size=h1.objs.size+2:=by rw[show(h3.push (seqObj "tuple" its.toArray 0)).objs.size=h3.objs.size+1 from b4X _ _,sz3]
 have fS:∀H',H' (h3.push (seqObj "tuple" its.toArray 0)).objs.size=none->a2w X pins H' (h3.push (seqObj "tuple" its.toArray 0)).objs.size:=λH' hn'=>J1.fpOk (by show h1.objs.size<=_;rw[szS];omega) hn';refine a6g L (ks:=ks) (g:=g) (xs:=(List.range n).map λi:Nat=>V.int (i:Int)) J4 (b4o _ (b4o _ ho1)) (b4v _ rfl) (by rw[szS];exact b5k (Nat.lt_add_of_pos_right (by decide))) fl fS nl (J1.hok.fresh (by show h1.objs.size<=_;rw[szS];omega)) er (by omega) (λi x H1 Q1 hx sm hq=>?_) (by rw[li];exact nd) (λi hi=>nn i (by omega)) (λs' H' p c J5 sm na pm pw ho=>⟨_,rfl,?_⟩)
 ·have hi:i<n:=by
   have:=(b4u.mp hx).1;rw[b4p,b6a] at this;exact this
  rw[b4C,b8i hi] at hx;cases hx;exact hk i H1 Q1 hi sm hq
 ·have pl:=b5h.mp pm;rw[li] at pl;have hv:a0C (p.toList.map λi:Nat=>V.int (i:Int)) (p.toList.map λi=>its.getD i Value.none):=by
   have key:∀ps:List Nat,(∀i∈ps,i<n)->a0C (ps.map λi:Nat=>V.int (i:Int)) (ps.map λi=>its.getD i Value.none):=λps=>by
    induction ps with
    | nil=>intro _;exact .nil
    | cons i ps ih =>
     intro hi;refine .cons ?_ (ih λj hj=>hi j (.tail _ hj));have i1:=hi i (.head _);obtain⟨u',hu',ru⟩:=er.get (i:=i) (x:=V.int (i:Int)) (by rw[b4C,b8i i1];rfl);show a0T (V.int (i:Int)) (its.getD i Value.none);rw[b4t,hu'];exact ru
   exact key _ λi hi=>by simpa using pl.mem_iff.mp hi
  have ok:a0B X.prog X.w (upd H' h1.objs.size (.lst (p.toList.map λi:Nat=>V.int (i:Int)))) s'.heap h1.objs.size (.lst (p.toList.map λi:Nat=>V.int (i:Int))):=⟨by rw[b4p,pl.length_eq,b6a,b5n];omega,_,c,hv,ho⟩
  exact b4r ⟨_,rfl,.ref h1.objs.size,_,J5.adopt (fl H' na) ok,rfl,q _ p.toList _ (sm.trans (a0d na _)) a0b pl pw⟩
theorem a5y {a e2:Expr} {p p2 pos pos2 kpos:Pos} {ta tk:TA} {Rg:St->Addr->List V->Hp->VK->Prop} (L:∀σ,a7X X σ (Rg σ)) (hc:X.calm=true) (hg:Gl X "sorted") (hm:X.mg "sorted"=none) (hg2:Gl X "range") (hm2:X.mg "range"=none) (ha:PA X [a] ta) (hk:PK X [⟨some "key",e2,kpos⟩] tk)
  (h1:backTo pos (starEach [.Call (.Name "range" p2) [a] [] pos2] X.env)=(false,eval (.Call (.Name "range" p2) [a] [] pos2) X.env)::backTo pos (starEach [] X.env):=by rfl) (hs2:starEach [a] X.env=(false,eval a X.env)::starEach [] X.env:=by rfl)
  (h2:((backTo pos (starEach [.Call (.Name "range" p2) [a] [] pos2] X.env)).any (·.1))=false:=by rfl) (h3:(backToKw pos (keywordEach [⟨some "key",e2,kpos⟩] X.env)).all (·.1.isSome)=true:=by rfl) (h4:(backToKw pos (keywordEach [⟨some "key",e2,kpos⟩] X.env)).any (·.1.isNone)=false:=by rfl) (h5:(backToKw pos (keywordEach [⟨some "key",e2,kpos⟩] X.env)).filterMap (·.1)=[Str.ofString "key"]:=by rfl) :
  PE X (.Call (.Name "sorted" p) [.Call (.Name "range" p2) [a] [] pos2] [⟨some "key",e2,kpos⟩] pos) (b3o Rg ta tk):=by
 intro pins s σ H Q I h;refine b5E (a1l I hg hm a0U ?_ (by decide) (by decide));refine callWith_kw ?_ h1 h2 h3 h4;rw[h1];refine b6E ?_;refine b5E (a1l I hg2 hm2 boot_range ?_ (by decide) (by decide));refine b5F (thn (ha pos2 pins s σ H _ I h) λus s1 ⟨vs,H1,I1,r1,q1⟩=>?_) hs2 rfl;obtain⟨n,e,hn,q⟩:=q1;subst e;cases r1 with
 | cons r rr =>
  cases rr;obtain⟨t,rfl⟩:=r;refine call_range_1 ?_;refine b6Z ?_;have I2:Inv X pins σ H1 { s1 with heap:=s1.heap.push { cls:=.type "range",data:=.fields #[.int 0 s1.toks,.int (n:Int) t,.int 1 (s1.toks+1)] },toks:=s1.toks+1+1 }:=I1.kept λb o e=>b4o _ e;have hRg:(s1.heap.push { cls:=.type "range",data:=.fields #[.int 0 s1.toks,.int (n:Int) t,.int 1 (s1.toks+1)] }).get? s1.heap.objs.size=some { cls:=.type "range",data:=.fields #[.int 0 s1.toks,.int (n:Int) t,.int 1 (s1.toks+1)] }:=b4v _ rfl;have J2:=I2.pinned (fp:=[s1.heap.objs.size]) (λb hb=>by rw[b4s.mp hb];exact I1.fpOk (b4z _) (I1.hok.fresh (b4z _))) (λb hb=>by
   rw[b4s.mp hb];exact⟨_,hRg,λv z=>by cases z⟩)
  refine thn (hk pos _ _ σ H1 _ J2 q) λws s2 ⟨zs,H2,I3,rz,q2⟩=>?_;rw[h5];obtain⟨g,ks,rfl,hkk,nd,nn,q3⟩:=q2;obtain⟨u,rfl,ru⟩:=a2g rz;cases ru;have pr:=(I3.pin (s1.heap.objs.size,_) (b4E _ (b4E _ (a0H (by simp) hRg)))).1;exact a6h (L σ) hc I3.unpinned (show IsRange s2.heap s1.heap.objs.size 0 (n:Int) 1 s1.toks t (s1.toks+1) from pr) hn hkk nd nn q3
end
end L2
namespace K76
open PySem L2
noncomputable def left (ws:List Int) (k:Nat):Int:=((srt ws).take (ws.length-k)).sum
noncomputable def heavy (ws:List Int):List Int:=(srt ws).reverse
noncomputable def due (ws cs:List Int):Int:=(List.zipWith (λw c=>w*c) (heavy ws) cs).sum
theorem a5z (ws:List Int):(heavy ws).length=ws.length:=by unfold heavy;rw[b8k,a0J]
theorem a5A {ws:List Int} {k:Nat} (h:k<ws.length):left ws k=(heavy ws).getD k 0+left ws (k+1):=by
 unfold left heavy;have hl:=a0J ws;obtain⟨m,em⟩:∃m,m=ws.length-(k+1):=⟨_,rfl⟩
 rw[<-em,show ws.length-k=m+1 by omega,b5e,b7V,b4t,b8W (by omega),show(srt ws).length-1-k=m by omega,b4q (by omega)];show _+([_]:List Int).sum=_;simp;omega
theorem b1p (ws:List Int):left ws ws.length=0:=by unfold left;rw[b9E];rfl
theorem b3y (ws:List Int):due ws []=0:=by unfold due;rw[List.zipWith_nil_right];rfl
theorem a6Z:∀(hs cs:List Int) (c:Int),cs.length<hs.length->(List.zipWith (λw c=>w*c) hs (cs++[c])).sum=(List.zipWith (λw c=>w*c) hs cs).sum+hs.getD cs.length 0*c
 | [],cs,c,h=>by cases h
 | x::hs,[],c,_=>by
  show(x*c::List.zipWith _ hs []).sum=0+x*c;rw[List.zipWith_nil_right];simp
 | x::hs,y::cs,c,h=>by
  have ih:=a6Z hs cs c (by simpa using h);show(x*y::List.zipWith _ hs (cs++[c])).sum=(x*y::List.zipWith _ hs cs).sum+hs.getD cs.length 0*c;rw[b6h,b6h,ih];omega
theorem a7a {ws cs:List Int} {c:Int} (h:cs.length<ws.length):due ws (cs++[c])=due ws cs+(heavy ws).getD cs.length 0*c:=a6Z _ _ _ (by rw[a5z];exact h)
noncomputable def Spm (ws:List Int) (spent c:Int) (cs:List Int):Prop:=spent=due ws cs+c*left ws cs.length
theorem Spm.opn {ws cs:List Int} {spent c r:Int} (h:Spm ws spent c cs):Spm ws (spent+r*left ws cs.length) (c+r) cs:=by
 unfold Spm at h ⊢;rw[h,c0l];omega
theorem Spm.set {ws cs:List Int} {spent c r:Int} (h:Spm ws spent c cs) (hl:cs.length<ws.length):Spm ws (spent+r*left ws (cs.length+1)) (c+r) (cs++[c]):=by
 unfold Spm at h ⊢;rw[a7a hl,b4A,h,a5A hl,c0l,c0m,c0g c ((heavy ws).getD cs.length 0)];show _=_+(c*left ws (cs.length+1)+r*left ws (cs.length+1))
 omega
theorem Spm.fin {ws cs:List Int} {spent c:Int} (h:Spm ws spent c cs) (hl:cs.length+1=ws.length):spent=due ws (cs++[c]):=by
 unfold Spm at h;rw[a7a (by omega),h,a5A (by omega),hl,b1p,c0m,c0g c ((heavy ws).getD cs.length 0)];omega
theorem a9E (xs:List Int) (c:Int):srt (xs.map (·-c))=(srt xs).map (·-c):=by
 refine(a3m (ns:=xs.map (·-c)) ((a0v xs).map _) ?_).symm;rw[b5r];exact(a1b xs).imp λh=>by omega
noncomputable def gaps (P:List Int):List Int:=(srt P).map (·-(srt P).headD 0)
theorem a4y {P R:List Int} {c:Int} (pm:P.Perm (c::R)) (le:∀x∈R,c<=x):srt P=c::srt R:=by
 refine(a3m (ns:=P) (ms:=c::srt R) (((a0v R).cons c).trans pm.symm) ?_).symm;rw[b5K];exact⟨λx hx=>le x ((a0v R).mem_iff.mp hx),a1b R⟩
theorem a9F {P R:List Int} {c:Int} (pm:P.Perm (c::R)) (le:∀x∈R,c<=x):(gaps P).tail=(srt R).map (·-c):=by
 unfold gaps;rw[a4y pm le];rfl
theorem a9G {P R Q:List Int} {c:Int} (pm:P.Perm (c::R)) (le:∀x∈R,c<=x):srt ((gaps P).tail++Q)=(srt (R++Q.map (c+·))).map (·-c):=by
 rw[a9F pm le,<-a9E (R++Q.map (c+·)) c];refine a2n ?_;rw[b4D,b5A];refine List.Perm.append ((a0v R).map _) ?_;have:(Q.map ((λx=>x-c) ∘ λx=>c+x))=Q:=by
  conv=>rhs;rw[<-List.map_id Q]
  refine b5V λx _=>?_;show c+x-c=x;omega
 rw[this]
theorem a9H {N:List Int} {c:Int}:((srt N).map (·-c)).map (·-((srt N).map (·-c)).headD 0)=gaps N\/N=[]:=by
 cases e:srt N with
 | nil =>
  refine .inr (b5C.mp ?_);have:=a0J N;rw[e] at this;exact this.symm
 | cons x r =>
  refine .inl ?_;unfold gaps;rw[e,b5A];refine b5V λy _=>?_;show y-c-(x-c)=y-x;omega
noncomputable def top (i:Nat):Stmt:=PySem.Challenge.pw_lettertoll_k76_whole_none_cheaper.main.body.getD i (.Pass ⟨0,0,0,0⟩)
abbrev a7b:Stmt:=top 7
abbrev a4z:Stmt:=top 8
abbrev a7c:Stmt:=top 10
abbrev a6i:Stmt:=top 13
abbrev a9I:Stmt:=top 14
abbrev b1q:Stmt:=top 15
abbrev b3z:Stmt:=top 16
abbrev a1H:Stmt:=top 17
abbrev a2S:Stmt:=top 18
abbrev sCom:Stmt:=top 20
abbrev sLed:Stmt:=top 21
abbrev a1U:Stmt:=top 22
abbrev a3w:Stmt:=top 23
abbrev b1r:Stmt:=top 24
abbrev sFm:Stmt:=top 25
abbrev sFc:Stmt:=top 26
abbrev b3A:Stmt:=top 28
abbrev a9J:Stmt:=top 29
abbrev a6j:Stmt:=top 30
abbrev a4A:Stmt:=top 31
abbrev a2s:Stmt:=top 32
abbrev b3B:Stmt:=top 33
abbrev a9K:Stmt:=top 34
abbrev b3C:Stmt:=top 35
abbrev a4B:Stmt:=top 36
abbrev a9L:Stmt:=top 37
abbrev a4C:Stmt:=top 38
abbrev sDue:Stmt:=top 39
abbrev a3x:Stmt:=top 40
abbrev b1s:Stmt:=top 41
section
variable {P:Program} {w:World} {K:PySem.W.Frag} {mg:Str->Option Value} {base:Heap} {f:Addr} {fd:FuncData}
noncomputable def a7d (K:PySem.W.Frag):Sp:=λvs H Q _=>∃(a:Addr) (ns:List Int) (k:Int),vs=[.ref a,.int k]/\SqL K H a (ns.map V.int)/\0<=k/\∀i,Q (.int i) H
theorem scCell:a0t ["script","k"] ["script","k"] (a0f b3A):=⟨rfl,rfl,rfl,by decide +kernel,rfl,by decide +kernel,by decide +kernel⟩
theorem b3D (F:Fun K "_law_cell_at" "_law_cell_at" b3A f fd) (ml:mg "len"=none):a1x P w K mg base CX0 1 f fd ["script","k"] (a7d K):=by
 refine F.ok (k:=0) scCell (λvs H Q E h=>?_) (λcdv A outer s H vs Q E hr h=>?_)
 ·obtain⟨a,ns,k,rfl,_⟩:=h;rfl
 obtain⟨a,ns,k,rfl,hS,h0,q⟩:=h;refine⟨_,a0e (a0Y (a0s a4U (pv 1) (a0j a0h (by rfl) ml b4P (a0a (pv 0) a0c)) (nomark _)) (a0i (a0u (a0Q a3d (pv 0) (pv 1) (λ_ _=>rfl)))) a0z) (a0i (a0u a0g)),?_⟩;refine⟨_,rfl,_,rfl,a,_,rfl,.inl hS,_,_,rfl,rfl,_,rfl,?_⟩;refine a2I (λc=>?_) (λc=>q 0);have c1:k<((ns.map V.int).length:Int):=b4Q c;obtain⟨n,rfl⟩:∃n:Nat,k=n:=⟨k.toNat,by omega⟩
 have hn:n<ns.length:=by rw[b4p] at c1;omega
 exact⟨_,rfl,_,rfl,a,_,_,_,rfl,rfl,hS,a3h (b4q hn),q _⟩
noncomputable def a6k:Sp:=λvs H Q _=>∃i,vs=[.int i]/\Q (.bl true) H
theorem b3E:a0t ["found"] ["found"] (a0f a9J):=⟨rfl,rfl,rfl,by decide +kernel,rfl,by decide +kernel,by decide +kernel⟩
theorem b1t (F:Fun K "_law_whole" "_law_whole" a9J f fd) (mi:mg "isinstance"=none) (m1:mg "int"=none) (m2:mg "bool"=none):a1x P w K mg base CX0 1 f fd ["found"] a6k:=by
 refine F.ok (k:=0) b3E (λvs H Q E h=>?_) (λcdv A outer s H vs Q E hr h=>?_)
 ·obtain⟨i,rfl,_⟩:=h;rfl
 obtain⟨i,rfl,q⟩:=h;refine⟨_,a0i (a0u (pe_and (a0j a2i (by rfl) mi a8X (a0a (pv 0) (a0a (a2X (v:=.ty "int") (by rfl) m1 b_int rfl) a0c)))
  (pe_one (b1V (a0j a2i (by rfl) mi a8X (a0a (pv 0) (a0a (a2X (v:=.ty "bool") (by rfl) m2 b_bool rfl) a0c))))))),?_⟩
 exact⟨_,rfl,_,_,_,_,rfl,.int i,a5P _,_,rfl,iteT ⟨_,rfl,_,_,_,_,rfl,.int i,a5h _,_,rfl,q⟩⟩
noncomputable def a4D:Sp:=λvs H Q _=>∃c:Int,vs=[.int c]/\∀i,1<=i->i<=B30->Q (.int i) H
theorem a7e:a0t ["cell","rest"] ["cell"] (a0f a6j):=⟨rfl,rfl,rfl,by decide +kernel,rfl,by decide +kernel,by decide +kernel⟩
theorem a9M (F:Fun K "_law_amount" "_law_amount" a6j f fd):a1x P w K mg base CX0 1 f fd ["cell"] a4D:=by
 refine F.ok (k:=0) a7e (λvs H Q E h=>?_) (λcdv A outer s H vs Q E hr h=>?_)
 ·obtain⟨c,rfl,_⟩:=h;rfl
 obtain⟨c,rfl,q⟩:=h;refine⟨_,a0e (a0q (i:=1) a7e.nd rfl (Or.inl rfl) (a0p a1M (pv 0) a0g))
  (a0e (a0Y (a0s a2x (a0p a0N (pv 0) a0g) a0g (nomark _)) (a0i (a0u (a0p a0M a0g (a0p a0N (pv 1) (a0p a8A a0g a0g))))) a0z)
  (a0e (a0Y (a0s a2x (a0p a0N (pv 0) a0g) a0g (nomark _)) (a0i (a0u (a0p a2G (a0p a8A a0g a0g) (a0p a0N (pv 1) a0g)))) a0z)
  (a0e (a0Y (a0s a2x (a0p a0N (pv 0) a0g) a0g (nomark _)) (a0i (a0u (a0p a0M a0g (a0p a0N (pv 1) a0g)))) a0z)
  (a0i (a0u (a0p a0M a0g (a0p a0N (pv 1) a0g))))))),?_⟩
 refine⟨_,rfl,_,_,rfl,rfl,⟨by decide,by decide⟩,?_⟩;refine⟨_,rfl,_,_,rfl,rfl,(by show(0:Int)<_;decide),rfl,_,rfl,?_⟩;refine a2I (λ_=>⟨_,rfl,_,_,rfl,rfl,⟨by decide,by decide,by decide⟩,_,_,rfl,rfl,(by show(0:Int)<_;decide),_,_,rfl,rfl,q _ (by rw[e30];unfold B30;omega) (by rw[e30];unfold B30;omega)⟩) (λ_=>?_);refine⟨_,rfl,_,_,rfl,rfl,(by show(0:Int)<_;decide),rfl,_,rfl,?_⟩;refine a2I (λ_=>⟨_,_,rfl,rfl,⟨by decide,by decide,by decide⟩,_,rfl,_,_,rfl,rfl,(by show(0:Int)<_;decide),_,_,rfl,rfl,q _ (by rw[e30];unfold B30;omega) (by rw[e30];unfold B30;omega)⟩) (λ_=>?_);refine⟨_,rfl,_,_,rfl,rfl,(by show(0:Int)<_;decide),rfl,_,rfl,?_⟩;refine a2I (λ_=>⟨_,rfl,_,_,rfl,rfl,(by show(0:Int)<_;decide),_,_,rfl,rfl,q _ (by omega) (by unfold B30;omega)⟩) (λ_=>?_);exact⟨_,rfl,_,_,rfl,rfl,(by show(0:Int)<_;decide),_,_,rfl,rfl,q _ (by omega) (by unfold B30;omega)⟩
end
abbrev Mv:=Int × Int × (Int × List Int)
abbrev Rw:=Int × Int × List Int
noncomputable def wl (ws:List Int) (st:Int):Int:=((srt ws).take (ws.length-st.toNat)).sum
noncomputable def fin (ws:List Int) (r:Rw):Mv:=if r.2.2=[] then (r.1,0,(r.2.1,[])) else (r.1,r.2.2.headD 0*wl ws r.2.1,(r.2.1,r.2.2.map (·-r.2.2.headD 0)))
noncomputable def rw1 (ws:List Int) (st:Int) (gs:List Int):List Rw:=if 1<gs.length\/st=(ws.length:Int)-1 then [(0,st+1,srt gs.tail)] else []
noncomputable def rw2 (ps ws:List Int) (st:Int) (gs:List Int) (m:Nat):List Rw:=if st+(gs.length:Int)-1+(m:Int)<=(ws.length:Int) then [((m:Int),st,srt (gs.tail++(srt ps).take m))] else []
noncomputable def rws (ps ws:List Int) (st:Int) (gs:List Int):Nat->List Rw
 | 0=>rw1 ws st gs
 | n+1=>rws ps ws st gs n++rw2 ps ws st gs (n+2)
noncomputable def mvs (ps ws:List Int) (st:Int) (gs:List Int):List Mv:=(rws ps ws st gs (ps.length-1)).map (fin ws)
theorem a4E (ps ws:List Int) (st:Int) (gs:List Int):∀n,(rws ps ws st gs n).length<=n+1
 | 0=>by unfold rws rw1;split<;>simp
 | n+1=>by
  unfold rws;rw[b4A];have:=a4E ps ws st gs n;unfold rw2;split<;>simp<;>omega
noncomputable def Bw (ns:List Int):Prop:=∀x∈ns,0<=x/\x<=B30
noncomputable def Bg (ns:List Int):Prop:=∀x∈ns,0<=x/\x<=1000*B30
theorem sum_bd {ns:List Int} (h:Bw ns):0<=ns.sum/\ns.sum<=ns.length*B30:=by
 induction ns with
 | nil=>simp
 | cons a t ih =>
  have h1:=h a (.head _);have h2:=ih λx hx=>h x (.tail _ hx);rw[b6h,b5l];have e:(((t.length+1:Nat):Int))*B30=t.length*B30+B30:=by push_cast;rw[c0l];omega
  rw[e];omega
theorem wl_bd {ws:List Int} (h:Bw ws) (l:ws.length<=10) (st:Int):0<=wl ws st/\wl ws st<=10*B30:=by
 have b:Bw ((srt ws).take (ws.length-st.toNat)):=λx hx=>h x ((a0v ws).mem_iff.mp (b6k hx));have:=sum_bd b;unfold wl;have l2:((srt ws).take (ws.length-st.toNat)).length<=10:=by rw[b4L,a0J];omega
 refine⟨this.1,b8X this.2 ?_⟩;have:(((srt ws).take (ws.length-st.toNat)).length:Int)<=10:=by omega
 exact b6V this (by decide)
theorem a2d {ns:List Int}:srt ns=[]↔ns=[]:=by
 constructor
 ·intro h;have:=a0J ns;rw[h] at this;exact b5C.mp this.symm
 ·intro h;subst h;exact b5C.mp (by rw[a0J];rfl)
theorem b3F {ns:List Int} (h:Bg ns):0<=(srt ns).headD 0/\(srt ns).headD 0<=1000*B30:=by
 cases e:srt ns with
 | nil=>exact⟨by show(0:Int)<=0;omega,by show(0:Int)<=1000*B30;unfold B30;omega⟩
 | cons a t=>exact h a ((a0v ns).mem_iff.mp (by rw[e];exact .head _))
section
variable {P:Program} {w:World} {K:PySem.W.Frag} {mg:Str->Option Value} {base:Heap} {f:Addr} {fd:FuncData}
theorem a5B {X:Cx} {st:Stmt}:PS X st (λ_ _ _=>False):=λ_ _ _ _ _ _ h=>h.elim
noncomputable def a4F:Sp:=λvs H Q _=>∃(p q:Addr) (ps ws:List Int),vs=[.ref p,.ref q]/\TW H p ps/\TW H q ws/\(ws.length:Int)<=(if ps.length=2 then 7 else 6)/\Q .non H
theorem b1u:a0t ["prices","weights"] ["prices","weights"] (a0f a6i):=⟨rfl,rfl,rfl,by decide +kernel,rfl,by decide +kernel,by decide +kernel⟩
theorem a9N (F:Fun K "refuse_many" "refuse_many" a6i f fd) (ml:mg "len"=none):a1x P w K mg base CX0 1 f fd ["prices","weights"] a4F:=by
 refine F.ok (k:=0) b1u (λvs H Q E h=>?_) (λcdv A outer s H vs Q E hr h=>?_)
 ·obtain⟨p,q,ps,ws,rfl,_⟩:=h;rfl
 obtain⟨p,q,ps,ws,rfl,hp,hq,hl,qq⟩:=h;refine⟨_,a0i (a0Y (a0s b0I (a0j a0h (by rfl) ml b4P (a0a (pv 1) a0c)) (b0H (a0s a2x (a0j a0h (by rfl) ml b4P (a0a (pv 0) a0c)) a0g (nomark _)) a0g a0g) (nomark _)) (a0i a5B) a0z),?_⟩;refine⟨_,rfl,q,_,rfl,.inr (SqT.of hq),_,rfl,p,_,rfl,.inr (SqT.of hp),rfl,_,rfl,?_⟩;rw[b4p,b4p];refine a2I (λz=>?_) (λz=>?_)
 ·have z1:=V.int.inj (b4Q z);rw[if_pos (by omega)] at hl;refine⟨_,_,rfl,rfl,_,rfl,?_⟩;rw[b5s (by omega)];exact a3P qq
 ·have z1:ps.length≠2:=λy=>z (b4W (by rw[y];rfl));rw[if_neg z1] at hl;refine⟨_,_,rfl,rfl,_,rfl,?_⟩;rw[b5s (by omega)];exact a3P qq
noncomputable def b2l:Sp:=λvs H Q _=>∃(q:Addr) (ws:List Int) (st:Int),vs=[.ref q,.int st]/\TW H q ws/\ws.length<=10/\0<=st/\st<=(ws.length:Int)/\∀H',a0r H H'->Q (.int (wl ws st)) H'
theorem scLeft:a0t ["weights","settled"] ["weights","settled"] (a0f b3z):=⟨rfl,rfl,rfl,by decide +kernel,rfl,by decide +kernel,by decide +kernel⟩
theorem b3G (F:Fun K "weight_left" "weight_left" b3z f fd) (ml:mg "len"=none) (mS:mg "sorted"=none) (ms:mg "sum"=none):a1x P w K mg base CX0 1 f fd ["weights","settled"] b2l:=by
 refine F.ok (k:=0) scLeft (λvs H Q E h=>?_) (λcdv A outer s H vs Q E hr h=>?_)
 ·obtain⟨q,ws,st,rfl,_⟩:=h;rfl
 obtain⟨q,ws,st,rfl,hq,l10,s0,s1,qq⟩:=h;refine⟨_,a0i (a0u (a0j (a1W rfl) (by rfl) ms a7J (a0a (a1n a2A (a0j a2o (by rfl) mS a0U (a0a (pv 0) a0c)) a1O (a1A (a0p a2G (a0j a0h (by rfl) ml b4P (a0a (pv 0) a0c)) (pv 1)))) a0c))),?_⟩;refine⟨_,rfl,q,ws,rfl,.inr hq,by omega,λp1 H1 sm1 hn1 hp1=>?_⟩;refine⟨_,rfl,q,_,rfl,.inr (SqT.of (sm1 _ _ hq)),_,rfl,_,_,rfl,rfl,_,rfl,p1,_,rfl,SqL.of hp1,λp2 hp2=>?_⟩;have sm2:=a0d hp2 (.lst (((srt ws).take (ws.length-st.toNat)).map V.int));have e:a3b ((srt ws).map V.int) none (some (((ws.map V.int).length:Int)-st))=((srt ws).take (ws.length-st.toNat)).map V.int:=by
  rw[b4p,show((ws.length:Int)-st)=((ws.length-st.toNat:Nat):Int) by omega,a6H,b9h]
 dsimp only;rw[e];exact⟨p2,_,rfl,a0b,qq _ (sm1.trans sm2)⟩
abbrev NM:List Str:=["weights","number","settled","gaps","least","counted_anew"]
noncomputable def b2m:Sp:=λvs H Q _=>∃(q g:Addr) (ws gs:List Int) (nb st:Int),vs=[.ref q,.int nb,.int st,.ref g]/\TW H q ws/\TW H g gs/\ws.length<=10/\gs.length<=30/\0<=st/\st<=(ws.length:Int)/\Bw ws/\Bg gs /\
 ∀(t:Addr) H',a0r H H'->a3L H' (.ref t) (fin ws (nb,st,srt gs))->Q (.ref t) H'
theorem a9O:a0t NM ["weights","number","settled","gaps"] (a0f b1q):=⟨rfl,rfl,rfl,by decide +kernel,rfl,by decide +kernel,by decide +kernel⟩
theorem ndM:(("gap":Str)::NM).Nodup:=by decide +kernel
theorem b3H (F:Fun K "move_to" "move_to" b1q f fd) (GL:Fns P w K mg base ["weights","settled"] "weight_left" b2l 1) (ml:mg "len"=none) (mS:mg "sorted"=none) (mn:mg "min"=none) (mt:mg "tuple"=none):a1x P w K mg base CX0 2 f fd ["weights","number","settled","gaps"] b2m:=by
 refine F.ok (k:=1) a9O (λvs H Q E h=>?_) (λcdv A outer s H vs Q E hr h=>?_)
 ·obtain⟨q,g,ws,gs,nb,st,rfl,_⟩:=h;rfl
 obtain⟨q,g,ws,gs,nb,st,rfl,hq,hg,l10,l30,s0,s1,bw,bg,qq⟩:=h;refine⟨_,a0e (a0Y (a0s a2x (a0j a0h (by rfl) ml b4P (a0a (pv 3) a0c)) a0g (nomark _)) (a0i (a0u (a1s (a0a (pv 1) (a0a a0g (a0a (a1s (a0a (pv 2) (a0a (a1s a0c) a0c))) a0c)))))) a0z)
  (a0e (a0q (i:=4) a9O.nd rfl (Or.inr rfl) (a0j (a9j rfl) (by rfl) mn a5q (a0a (pv 3) a0c)))
  (a0e (a0q (i:=5) a9O.nd rfl (Or.inl rfl) (a1j a0P (by rfl) mt a1E (a0a (a2L (M:=NM) rfl (a0k.of (a0f b1q) NM rfl rfl rfl (by decide +kernel) (by decide +kernel) (by decide +kernel) rfl (by decide +kernel)) ndM rfl (a0j a2o (by rfl) mS a0U (a0a (pv 3) a0c)) (mo_srt (a1R a0L a3Q))
   (λcl C s0 H0 fp=>⟨a0R,a0p a2G (pv 0) (pv 5)⟩)) a0c)))
  (a0i (a0u (a1s (a0a (pv 1) (a0a (a0p a4j (pv 4) (a0o GL.ok hr (by rfl) GL.m GL.kp GL.b .nil a0G (a0a (pv 0) (a0a (pv 2) a0c)))) (a0a (a1s (a0a (pv 2) (a0a (pv 5) a0c))) a0c)))))))),?_⟩
 refine⟨_,rfl,g,_,rfl,.inr (SqT.of hg),rfl,_,rfl,?_⟩;rw[b4p];refine a2I (λz=>?_) (λz=>?_)
 ·have z1:gs=[]:=b5C.mp (by have:=V.int.inj (b4Q z);omega);subst z1;have ef:fin ws (nb,st,srt [])=(nb,0,(st,[])):=by unfold fin;rw[if_pos (a2d.mpr rfl)]
  rw[ef] at qq;refine⟨_,rfl,_,rfl,(by show 0<=sizeLine;decide),λa1 ha1=>?_⟩;have sA:=a0d ha1 (.tup []);have gA:TW (upd H a1 (.tup [])) a1 []:=a0b;generalize upd H a1 (.tup [])=HA at sA gA ⊢;refine⟨(by show 2<=sizeLine;decide),λa2 ha2=>?_⟩;have sB:=a0d ha2 (.tup [.int st,.ref a1]);have gB:upd HA a2 (.tup [.int st,.ref a1]) a2=some (.tup [.int st,.ref a1]):=a0b;generalize upd HA a2 (.tup [.int st,.ref a1])=HB at sB gB ⊢;refine⟨(by show 3<=sizeLine;decide),λa3 ha3=>?_⟩;have sC:=a0d ha3 (.tup [.int nb,.int 0,.ref a2]);refine qq a3 _ ((sA.trans sB).trans sC) ⟨a3,_,_,_,rfl,a0b,rfl,rfl,a2,_,_,rfl,sC _ _ gB,rfl,a1Q (sC _ _ (sB _ _ gA))⟩
 ·have ne:gs≠[]:=λy=>z (by rw[y];rfl);have sn:srt gs≠[]:=λy=>ne (a2d.mp y);have hb:=b3F bg;have wb:=wl_bd bw l10 st;refine⟨_,rfl,g,gs,rfl,.inr hg,ne,?_⟩;have ef:fin ws (nb,st,srt gs)=(nb,(srt gs).headD 0*wl ws st,(st,(srt gs).map (·-(srt gs).headD 0))):=by unfold fin;rw[if_neg sn]
  rw[ef] at qq;have lgs:=a0J gs;generalize hle:(srt gs).headD 0=least at hb qq ⊢;refine⟨_,rfl,g,gs,rfl,.inr hg,by omega,λp1 H1 sm1 hn1 hp1=>?_⟩;refine⟨p1,_,rfl,SqL.of hp1,λd hd=>?_⟩;refine⟨λi H'=>a0r H1 H'/\H' d=some (.lst ((((srt gs).take i).map (·-least)).map V.int)),⟨a0d hd _,a0b⟩,λi H' _ hP=>SqL.of (hP.1 _ _ hp1),λi x H' hx hP=>?_,λH' hP=>?_⟩
  ·obtain⟨s5,hd'⟩:=hP;have il:=(b4u.mp hx).1;rw[b4p] at il;rw[b4C] at hx;obtain⟨z,hz,rfl⟩:=b5q.mp hx;refine a0V ⟨_,rfl,_,rfl,_,_,rfl,rfl,_,hd',?_,a0w hd s5,?_⟩
   ·rw[b4p,b4p,b4L];exact a0l (by omega)
   ·rw[a0b,b5e,hz,b4D,b4D];rfl
  ·obtain⟨s5,hd'⟩:=hP;rw[b4p,b5z] at hd';refine⟨d,_,rfl,.inl ⟨SqL.of hd',λc hc=>?_⟩⟩;have s6:=a0d hc (.tup (((srt gs).map (·-least)).map V.int));have g6:TW (upd H' c (.tup (((srt gs).map (·-least)).map V.int))) c ((srt gs).map (·-least)):=a0b;generalize upd H' c (.tup (((srt gs).map (·-least)).map V.int))=H6 at s6 g6 ⊢;have t6:=(sm1.trans s5).trans s6;refine⟨_,rfl,_,rfl,_,rfl,_,rfl,q,ws,st,rfl,t6 _ _ hq,l10,s0,s1,λH7 s7=>?_⟩;refine⟨_,_,rfl,rfl,⟨⟨hb.1,by unfold B30 at *;omega⟩,⟨wb.1,by unfold B30 at *;omega⟩⟩,?_⟩;refine⟨_,rfl,_,rfl,(by show 2<=sizeLine;decide),λa2 ha2=>?_⟩;have sB:=a0d ha2 (.tup [.int st,.ref c]);have gB:upd H7 a2 (.tup [.int st,.ref c]) a2=some (.tup [.int st,.ref c]):=a0b;generalize upd H7 a2 (.tup [.int st,.ref c])=HB at sB gB ⊢;refine⟨(by show 3<=sizeLine;decide),λa3 ha3=>?_⟩;have sC:=a0d ha3 (.tup [.int nb,.int (least*wl ws st),.ref a2]);exact qq a3 _ (((t6.trans s7).trans sB).trans sC) ⟨a3,_,_,_,rfl,a0b,rfl,rfl,a2,_,_,rfl,sC _ _ gB,rfl,a1Q (sC _ _ (sB _ _ (s7 _ _ g6)))⟩
theorem Bg.tail {gs:List Int} (h:Bg gs):Bg gs.tail:=λx hx=>h x (List.mem_of_mem_tail hx)
theorem Bg.cat {gs ps:List Int} (h:Bg gs) (b:Bw ps) (m:Nat):Bg (gs.tail++(srt ps).take m):=λx hx=>by
 rcases b4J.mp hx with z|z
 ·exact h.tail x z
 ·have:=b x ((a0v ps).mem_iff.mp (b6k z));unfold B30 at *
  omega
theorem a4G (gs:List Int):a3b (gs.map V.int) (some 1) none=gs.tail.map V.int:=by
 have:=a4h (gs.map V.int) 1;rw[<-List.map_drop,List.drop_one] at this;exact this
abbrev NMv:List Str:=["prices","weights","frontier","settled","gaps","found","many","opened"]
noncomputable def Gp (K:PySem.W.Frag) (H:Hp) (g:Addr) (gs:List Int):Prop:=TW H g gs\/(SqT K H g (gs.map V.int)/\gs≠[])
theorem Gp.same {H H':Hp} {g:Addr} {gs:List Int} (s:a0r H H') (h:Gp K H g gs):Gp K H' g gs:=h.elim (λe=>.inl (s _ _ e)) λe=>.inr ⟨s.seqT e.1,e.2⟩
theorem Gp.sq {H:Hp} {g:Addr} {gs:List Int} (h:Gp K H g gs):SqT K H g (gs.map V.int):=h.elim (λe=>SqT.of e) λe=>e.1
noncomputable def rSl1 (K:PySem.W.Frag):V->Option Int->Option Int->Hp->VK->Prop:=λx lo hi H Q=>∃(a:Addr) (gs:List Int),x=.ref a/\Gp K H a gs/\lo=some 1/\hi=none/\∀p H',a0r H H'->H' p=some (.tup (a3b (gs.map V.int) lo hi))->Q (.ref p) H'
theorem a9P {X:Cx} (K:PySem.W.Frag) (hK:X.K=K:=by rfl):SlR X (rSl1 K):=by
 subst hK;intro pins s σ H x v vl vu lo hi sl Q I rx hs pl pu h;obtain⟨a,gs,rfl,hg,rfl,rfl,q⟩:=h;rcases hg with e|⟨e,ne⟩
 ·exact a8U pins s σ H (.ref a) v vl vu (some 1) none sl Q I rx hs pl pu ⟨a,_,rfl,e,q⟩
 ·refine b1X pins s σ H (.ref a) v vl vu (some 1) none sl Q I rx hs pl pu ⟨a,_,rfl,e,λhw=>?_,λp hp=>q p _ (a0d hp _) a0b⟩;have l1:0<gs.length:=b6s.mpr ne;have h1:=hw.1;rw[b4p] at h1;have h2:HT.sIx gs.length 0 (some 1)=min 1 gs.length:=HT.a3a gs.length 0 1;rw[h2] at h1;omega
structure Ask (K:PySem.W.Frag) (H:Hp) (p q fr g:Addr) (ps ws gs:List Int) (st:Int):Prop where
 hp:TW H p ps
 hq:TW H q ws
 hf:SqT K H fr [.int st,.ref g]
 hg:Gp K H g gs
 p2:2<=ps.length
 p6:ps.length<=6
 w7:(ws.length:Int)<=(if ps.length=2 then 7 else 6)
 s0:0<=st
 s1:st<=(ws.length:Int)
 s2:1<gs.length->st<(ws.length:Int)
 g10:gs.length<=10
 bw:Bw ws
 bp:Bw ps
 bg:Bg gs
theorem Ask.w10 {H:Hp} {p q fr g:Addr} {ps ws gs:List Int} {st:Int} (a:Ask K H p q fr g ps ws gs st):ws.length<=7:=by
 have:=a.w7;split at this<;>omega
noncomputable def a4H (K:PySem.W.Frag):Sp:=λvs H Q _=>∃(p q fr g:Addr) (ps ws gs:List Int) (st:Int),vs=[.ref p,.ref q,.ref fr]/\Ask K H p q fr g ps ws gs st /\
 ∀(l:Addr) H' xs,a0r H H'->H l=none->H' l=some (.lst xs)->Mvs H' xs (mvs ps ws st gs)->Q (.ref l) H'
theorem a2F:a0t NMv ["prices","weights","frontier"] (a0f a9I):=⟨rfl,rfl,rfl,by decide +kernel,rfl,by decide +kernel,by decide +kernel⟩
theorem b1v (F:Fun K "moves" "moves" a9I f fd) (GR:Fns P w K mg base ["prices","weights"] "refuse_many" a4F 2) (GM:Fns P w K mg base ["weights","number","settled","gaps"] "move_to" b2m 2) (ml:mg "len"=none) (mr:mg "range"=none) (mS:mg "sorted"=none) (mt:mg "tuple"=none):a1x P w K mg base CX0 3 f fd ["prices","weights","frontier"] (a4H K):=by
 refine F.ok (k:=2) a2F (λvs H Q E h=>?_) (λcdv A outer s H vs Q E hr h=>?_)
 ·obtain⟨p,q,fr,g,ps,ws,gs,st,rfl,_⟩:=h;rfl
 obtain⟨p,q,fr,g,ps,ws,gs,st,rfl,ak,qq⟩:=h;have w10:=ak.w10;obtain⟨hp,hq,hf,hg,p2,p6,w7,s0,s1,s2,g10,bw,bp,bg⟩:=ak;refine⟨_,a0e (a1r (a0o GR.ok hr (by rfl) GR.m GR.kp GR.b .nil a0G (a0a (pv 0) (a0a (pv 1) a0c))))
  (a0e (a0q (i:=3) a2F.nd rfl (Or.inl rfl) (a0Q a1t (pv 2) a0g (λ_ _=>rfl)))
  (a0e (a0q (i:=4) a2F.nd rfl (Or.inl rfl) (a0Q a1t (pv 2) a0g (λ_ _=>rfl)))
  (a0e (a0q (i:=5) a2F.nd rfl (Or.inl rfl) (a1N a0c))
  (a0e (a5i (a0Y (PW.pt (a7w (a0s b0I (a0j a0h (by rfl) ml b4P (a0a (pv 4) a0c)) a0g (nomark _)) (a6y (a0s a2x (pv 3) (a0p a2G (a0j a0h (by rfl) ml b4P (a0a (pv 1) a0c)) a0g) (nomark _)))))
   (a0i (a1r (a3K b5x b5O b5P a0Z (pv 5) (a0a (a0o GM.ok hr (by rfl) GM.m GM.kp GM.b .nil a0G (a0a (pv 1) (a0a a0g (a0a (a0p a0M (pv 3) a0g) (a0a (a1n (a9P K) (pv 4) (a1A a0g) a1O) a0c))))) a0c)))) a0z))
  (a0e (a1K b5Q rfl (a8x (by rfl) mr (a0a a0g (a0a (a0p a0M (a0j a0h (by rfl) ml b4P (a0a (pv 0) a0c)) a0g) a0c))) (a0F (i:=6) a2F.nd rfl (Or.inl rfl))
   (a0i (a0Y (a0s op_le (a0p a0M (a0p a2G (a0p a0M (pv 3) (a0j a0h (by rfl) ml b4P (a0a (pv 4) a0c))) a0g) (pv 6)) (a0j a0h (by rfl) ml b4P (a0a (pv 1) a0c)) (nomark _))
    (a0e (a0q (i:=7) a2F.nd rfl (Or.inl rfl) (a1j a0P (by rfl) mt a1E (a0a (a1n a2A (a0j a2o (by rfl) mS a0U (a0a (pv 0) a0c)) a1O (a1A (pv 6))) a0c)))
    (a0i (a1r (a3K b5x b5O b5P a0Z (pv 5) (a0a (a0o GM.ok hr (by rfl) GM.m GM.kp GM.b .nil a0G (a0a (pv 1) (a0a (pv 6) (a0a (pv 3) (a0a (a0p a5O (a1n (a9P K) (pv 4) (a1A a0g) a1O) (pv 7)) a0c))))) a0c))))) a0z)))
  (a0i (a0u (pv 5)))))))),?_⟩
 refine⟨_,rfl,_,rfl,p,q,ps,ws,rfl,hp,hq,w7,?_⟩;refine⟨_,rfl,fr,_,_,_,rfl,rfl,hf,(rfl:atI [V.int st,.ref g] 0=_),?_⟩;refine⟨_,rfl,fr,_,_,_,rfl,rfl,hf,(rfl:atI [V.int st,.ref g] 1=_),?_⟩;refine⟨(by show 0<=sizeLine;decide),λlf hlf=>?_⟩;have s3:=a0d hlf (.lst []);have g3:upd H lf (.lst []) lf=some (.lst []):=a0b;generalize upd H lf (.lst [])=H3 at s3 g3 ⊢;refine⟨λσ' H'=>∃xs,σ'=[some (.ref p),some (.ref q),some (.ref fr),some (.int st),some (.ref g),some (.ref lf),none,none]/\a0r H H'/\H' lf=some (.lst xs)/\Mvs H' xs ((rws ps ws st gs 0).map (fin ws)),?_,?_⟩
 ·refine⟨_,rfl,g,_,rfl,.inr (hg.same s3).sq,_,_,rfl,rfl,_,rfl,?_⟩;rw[b4p];refine a2I (λc=>?_) (λc=>?_)
  ·have c1:1<gs.length:=by have:=b4Q c;omega
   have ec:rws ps ws st gs 0=[(0,st+1,srt gs.tail)]:=if_pos (.inl c1);rw[ec];refine⟨_,rfl,.inl ⟨rfl,_,SqL.of g3⟩,_,rfl,_,rfl,_,_,rfl,rfl,_,rfl,_,rfl,g,gs,rfl,hg.same s3,rfl,rfl,λp4 H4 s4 hp4=>?_⟩;have hp4':TW H4 p4 gs.tail:=by show H4 p4=_;rw[hp4];exact b6W (λz=>some (HO.tup z)) (a4G gs)
   refine⟨q,p4,ws,gs.tail,0,st+1,rfl,(s3.trans s4) _ _ hq,hp4',by omega,by rw[b7F];omega,by omega,by have:=s2 c1;omega,bw,bg.tail,λt H5 s5 mv=>?_⟩;have hl5:=(s4.trans s5) _ _ g3;exact⟨lf,_,_,rfl,rfl,hl5,a0l (by show 0<=1000;decide),_,rfl,a0w hlf ((s3.trans s4).trans s5),a0b,.cons (a3L.tk (TK.upd hl5) mv) .nil⟩
  ·have c1:¬ 1<gs.length:=λy=>c (b4W (by omega));refine⟨_,rfl,_,rfl,q,_,rfl,.inr (SqT.of (s3 _ _ hq)),_,_,rfl,rfl,rfl,_,rfl,?_⟩;rw[b4p];refine a2I (λc2=>?_) (λc2=>?_)
   ·have c3:st=(ws.length:Int)-1:=V.int.inj (b4Q c2);have ec:rws ps ws st gs 0=[(0,st+1,srt gs.tail)]:=if_pos (.inr c3);rw[ec];refine⟨_,rfl,.inl ⟨rfl,_,SqL.of g3⟩,_,rfl,_,rfl,_,_,rfl,rfl,_,rfl,_,rfl,g,gs,rfl,hg.same s3,rfl,rfl,λp4 H4 s4 hp4=>?_⟩;have hp4':TW H4 p4 gs.tail:=by show H4 p4=_;rw[hp4];exact b6W (λz=>some (HO.tup z)) (a4G gs)
    refine⟨q,p4,ws,gs.tail,0,st+1,rfl,(s3.trans s4) _ _ hq,hp4',by omega,by rw[b7F];omega,by omega,by omega,bw,bg.tail,λt H5 s5 mv=>?_⟩;have hl5:=(s4.trans s5) _ _ g3;exact⟨lf,_,_,rfl,rfl,hl5,a0l (by show 0<=1000;decide),_,rfl,a0w hlf ((s3.trans s4).trans s5),a0b,.cons (a3L.tk (TK.upd hl5) mv) .nil⟩
   ·have c3:¬st=(ws.length:Int)-1:=λy=>c2 (b4W (by rw[y]));have ec:rws ps ws st gs 0=[]:=if_neg (λz=>z.elim c1 c3);rw[ec];exact⟨[],rfl,s3,g3,.nil⟩
 rintro σ' H4 ⟨xs0,rfl,t4,hl4,hm4⟩;refine⟨_,rfl,p,_,rfl,.inr (SqT.of (t4 _ _ hp)),_,_,rfl,rfl,_,_,rfl,⟨by decide,by decide,by rw[b4p];omega,by rw[b4p];omega⟩,?_⟩;refine a1L (λi σ H'=>∃(xs:List V) (x6 x7:Option V),σ=[some (.ref p),some (.ref q),some (.ref fr),some (.int st),some (.ref g),some (.ref lf),x6,x7]/\a0r H H'/\H' lf=some (.lst xs)/\Mvs H' xs ((rws ps ws st gs i).map (fin ws)))
  ⟨xs0,_,_,rfl,t4,hl4,hm4⟩ (λi σ H5 hi hP=>?_) (λσ H5 hP=>?_)
 ·obtain⟨xs,x6,x7,rfl,t5,hl5,hm5⟩:=hP;have i5:i<5:=by
   have:(ps.map V.int).length=ps.length:=b4p ..;omega
  have lx:xs.length<=i+1:=by
   have:=hm5.length;rw[this,b4p];exact a4E ps ws st gs i
  have e2:(2:Int)+(i:Int)=((i+2:Nat):Int):=by push_cast;omega
  rw[e2];refine⟨_,rfl,_,rfl,g,_,rfl,.inr (hg.same t5).sq,_,_,rfl,rfl,_,_,rfl,rfl,_,rfl,_,_,rfl,rfl,_,rfl,q,_,rfl,.inr (SqT.of (t5 _ _ hq)),_,_,rfl,rfl,_,rfl,?_⟩;rw[b4p,b4p];have es:rws ps ws st gs (i+1)=rws ps ws st gs i++rw2 ps ws st gs (i+2):=rfl;refine a2I (λc=>?_) (λc=>?_)
  ·have c1:=b4Q c;have e3:rw2 ps ws st gs (i+2)=[(((i+2:Nat):Int),st,srt (gs.tail++(srt ps).take (i+2)))]:=if_pos c1;refine⟨_,rfl,p,ps,rfl,.inr (t5 _ _ hp),by omega,λp6 H6 s6 hn6 hp6=>?_⟩;refine⟨_,rfl,_,rfl,p6,_,rfl,SqL.of hp6,λp7 hp7=>?_⟩;rw[show a3b ((srt ps).map V.int) none (some ((i+2:Nat):Int))=((srt ps).take (i+2)).map V.int by rw[a6H,b9h]];have s7:=a0d hp7 (.lst (((srt ps).take (i+2)).map V.int));have g7:upd H6 p7 (.lst (((srt ps).take (i+2)).map V.int)) p7=some (.lst (((srt ps).take (i+2)).map V.int)):=a0b;generalize upd H6 p7 (.lst (((srt ps).take (i+2)).map V.int))=H7 at s7 g7 ⊢;refine⟨p7,_,rfl,.inl ⟨SqL.of g7,λp8 hp8=>?_⟩⟩;have s8:=a0d hp8 (.tup (((srt ps).take (i+2)).map V.int));have g8:TW (upd H7 p8 (.tup (((srt ps).take (i+2)).map V.int))) p8 ((srt ps).take (i+2)):=a0b;generalize upd H7 p8 (.tup (((srt ps).take (i+2)).map V.int))=H8 at s8 g8 ⊢;have s58:=(s6.trans s7).trans s8;have t8:=t5.trans s58;refine⟨_,rfl,.inl ⟨rfl,_,SqL.of (s58 _ _ hl5)⟩,_,rfl,_,rfl,_,rfl,_,rfl,_,rfl,g,gs,rfl,hg.same t8,rfl,rfl,λp9 H9 s9 hp9=>?_⟩;have hp9':TW H9 p9 gs.tail:=by show H9 p9=_;rw[hp9];exact b6W (λz=>some (HO.tup z)) (a4G gs)
   refine⟨_,rfl,p9,p8,_,_,rfl,rfl,hp9',s9 _ _ g8,?_,λpA HA sA hpA=>?_⟩
   ·rw[b4p,b4p,b7F,b4L];exact b6K (a0l (by omega))
   have hpA':TW HA pA (gs.tail++(srt ps).take (i+2)):=by show HA pA=_;rw[hpA,b4D]
   have t8A:=t8.trans (s9.trans sA);refine⟨q,pA,ws,_,((i+2:Nat):Int),st,rfl,t8A _ _ hq,hpA',by omega,by rw[b4A,b7F,b4L];omega,s0,s1,bw,bg.cat bp _,λt HB sB mv=>?_⟩;have s5B:=(s58.trans (s9.trans sA)).trans sB;have hlB:=s5B _ _ hl5;refine⟨lf,_,_,rfl,rfl,hlB,a0l (by omega),_,_,_,rfl,a0w hlf (t5.trans s5B),a0b,?_⟩;rw[es,e3,b4D];exact L2.Paired.appendP (Mvs.tk ((TK.of s5B).trans (TK.upd hlB)) hm5) (.cons (a3L.tk (TK.upd hlB) mv) .nil)
  ·have e3:rw2 ps ws st gs (i+2)=[]:=if_neg λy=>c (b4W y);exact⟨xs,_,_,rfl,t5,hl5,by rw[es,e3,b5W];exact hm5⟩
 ·obtain⟨xs,x6,x7,rfl,t5,hl5,hm5⟩:=hP;have en:((((ps.map V.int).length:Nat):Int)+1-2).toNat=ps.length-1:=by rw[b4p];omega
  rw[en] at hm5;exact⟨_,rfl,qq lf H5 xs t5 hlf hl5 hm5⟩
noncomputable def Bo (ns:List Int):Prop:=∀x∈ns,1<=x/\x<=B30
theorem Bo.bw {ns:List Int} (h:Bo ns):Bw ns:=λx hx=>⟨by have:=h x hx;omega,(h x hx).2⟩
theorem Bo.add {ns:List Int} (h:Bo ns) {i:Int} (h1:1<=i) (h2:i<=B30):Bo (ns++[i]):=λx hx=>by
 rcases b4J.mp hx with z|z
 ·exact h x z
 ·rw[b4s.mp z];exact⟨h1,h2⟩
abbrev NP:List Str:=["script","letters"]
noncomputable def a7f (K:PySem.W.Frag):Sp:=λvs H Q _=>∃(a:Addr) (ns:List Int),vs=[.ref a]/\SqL K H a (ns.map V.int)/\∀(p:Addr) ps H',a0r H H'->TW H' p ps->2<=ps.length->ps.length<=6->Bo ps->Q (.ref p) H'
theorem a7g:a0t NP ["script"] (a0f a4A):=⟨rfl,rfl,rfl,by decide +kernel,rfl,by decide +kernel,by decide +kernel⟩
theorem ndP:(("k":Str)::NP).Nodup:=by decide +kernel
theorem a9Q (F:Fun K "_law_prices" "_law_prices" a4A f fd) (GC:Fns P w K mg base ["script","k"] "_law_cell_at" (a7d K) 1) (GA:Fns P w K mg base ["cell"] "_law_amount" a4D 1) (mr:mg "range"=none) (mt:mg "tuple"=none):a1x P w K mg base CX0 2 f fd ["script"] (a7f K):=by
 refine F.ok (k:=1) a7g (λvs H Q E h=>?_) (λcdv A outer s H vs Q E hr h=>?_)
 ·obtain⟨a,ns,rfl,_⟩:=h;rfl
 obtain⟨a,ns,rfl,hS,q⟩:=h;refine⟨_,a0e (a0q (i:=1) a7g.nd rfl (Or.inl rfl) (a0p a0M a0g (a0p a0N (a0o GC.ok hr (by rfl) GC.m GC.kp GC.b .nil a0G (a0a (pv 0) (a0a a0g a0c))) a0g)))
  (a0i (a0u (a1j a0P (by rfl) mt a1E (a0a (a3g (M:=NP) rfl (a0k.of (a0f a4A) NP rfl rfl rfl (by decide +kernel) (by decide +kernel) (by decide +kernel) rfl (by decide +kernel)) ndP rfl (by rfl) mr (a0a (pv 1) a0c) (a1R a0L a3Q)
   (λcl C s0 H0 fp=>⟨a0R,a0o GA.ok hr (by rfl) GA.m GA.kp GA.b .nil a0G (a0a (a0o GC.ok hr (by rfl) GC.m GC.kp GC.b .nil a0G (a0a (pv 1) (a0a (a0p a0M a0g (pv 0)) a0c))) a0c)⟩)) a0c)))),?_⟩
 refine⟨_,rfl,a,ns,0,rfl,hS,by decide,λc0=>?_⟩;refine⟨_,_,rfl,rfl,(by show(0:Int)<_;decide),_,_,rfl,rfl,?_⟩;have b2:2<=2+c0 % 5:=by omega
 have b6:2+c0 % 5<=6:=by omega
 dsimp only;generalize 2+c0 % 5=b at b2 b6 ⊢;refine⟨_,rfl,b,rfl,by omega,by omega,λd hd=>?_⟩;refine⟨λi H'=>a0r H H'/\∃ps,H' d=some (.lst (ps.map V.int))/\ps.length=i/\Bo ps,⟨a0d hd _,[],a0b,rfl,λx hx=>by cases hx⟩,λi H' hi hP=>?_,λH' hP=>?_⟩
 ·obtain⟨s1,ps,hd',lp,bo⟩:=hP;refine a0V ⟨_,rfl,_,rfl,_,_,rfl,rfl,a,ns,_,rfl,s1.seq hS,by omega,λc=>⟨c,rfl,λv v1 v2=>⟨_,hd',?_,a0w hd s1,ps++[v],?_,by rw[b4A,lp];rfl,bo.add v1 v2⟩⟩⟩
  ·rw[b4p];exact a0l (by omega)
  ·rw[a0b,b4D];rfl
 ·obtain⟨s1,ps,hd',lp,bo⟩:=hP;refine⟨d,_,rfl,.inl ⟨SqL.of hd',λc hc=>?_⟩⟩;exact q c ps _ (s1.trans (a0d hc _)) a0b (by omega) (by omega) bo
abbrev NW:List Str:=["script","most","cell","things","weights"]
noncomputable def a5C (K:PySem.W.Frag):Sp:=λvs H Q _=>∃(a:Addr) (ns:List Int) (m:Int),vs=[.ref a,.int m]/\SqL K H a (ns.map V.int)/\1<=m/\m<=7/\∀(p:Addr) ws H',a0r H H'->TW H' p ws->1<=ws.length->(ws.length:Int)<=m->Bo ws->Q (.ref p) H'
theorem a1D:a0t NW ["script","most"] (a0f a2s):=⟨rfl,rfl,rfl,by decide +kernel,rfl,by decide +kernel,by decide +kernel⟩
theorem ndW:(("k":Str)::NW).Nodup:=by decide +kernel
theorem reps (n:Nat) (x:Int):(List.replicate n [V.int x]).flatten=(List.replicate n x).map V.int:=by
 induction n with
 | zero=>rfl
 | succ n ih=>rw[b6N,b7W,ih,b6N];rfl
theorem a8h (F:Fun K "_law_weights" "_law_weights" a2s f fd) (GC:Fns P w K mg base ["script","k"] "_law_cell_at" (a7d K) 1) (GA:Fns P w K mg base ["cell"] "_law_amount" a4D 1) (mr:mg "range"=none) (mt:mg "tuple"=none) (mn:mg "min"=none):a1x P w K mg base CX0 2 f fd ["script","most"] (a5C K):=by
 refine F.ok (k:=1) a1D (λvs H Q E h=>?_) (λcdv A outer s H vs Q E hr h=>?_)
 ·obtain⟨a,ns,m,rfl,_⟩:=h;rfl
 obtain⟨a,ns,m,rfl,hS,m1,m7,q⟩:=h;refine⟨_,a0e (a0q (i:=2) a1D.nd rfl (Or.inl rfl) (a0o GC.ok hr (by rfl) GC.m GC.kp GC.b .nil a0G (a0a (pv 0) (a0a a0g a0c))))
  (a0e (a0q (i:=3) a1D.nd rfl (Or.inl rfl) (a0p a0M a0g (a0p a0N (pv 2) (pv 1))))
  (a0e (a0q (i:=4) a1D.nd rfl (Or.inr rfl) (a3g (M:=NW) rfl (a0k.of (a0f a2s) NW rfl rfl rfl (by decide +kernel) (by decide +kernel) (by decide +kernel) rfl (by decide +kernel)) ndW rfl (by rfl) mr (a0a (pv 3) a0c) (a1R a0L a3Q)
   (λcl C s0 H0 fp=>⟨a0R,a0o GA.ok hr (by rfl) GA.m GA.kp GA.b .nil a0G (a0a (a0o GC.ok hr (by rfl) GC.m GC.kp GC.b .nil a0G (a0a (pv 1) (a0a (a0p a0M a0g (pv 0)) a0c))) a0c)⟩)))
  (a0e (a5i (a0Y (a0s a2x (a0p a0N (a0p a1M (pv 2) (pv 1)) a0g) a0g (nomark _)) (a0i (a0q (i:=4) a1D.nd rfl (Or.inr rfl) (a0p b1Z (a1N (a0a (a0Q a3d (pv 4) a0g (λ_ _=>rfl)) a0c)) (pv 3)))) a0z))
  (a0e (a5i (a0Y (a0s a2x (a0p a0N (a0p a1M (pv 2) (pv 1)) a0g) a0g (nomark _)) (a0i (a0q (i:=4) a1D.nd rfl (Or.inr rfl) (a3g (M:=NW) rfl (a0k.of (a0f a2s) NW rfl rfl rfl (by decide +kernel) (by decide +kernel) (by decide +kernel) rfl (by decide +kernel)) ndW rfl (by rfl) mr (a0a (pv 3) a0c) (a1R a0L a3Q)
   (λcl C s0 H0 fp=>⟨a0R,a0j (a4V rfl) (by rfl) mn a5q (a0a (a0p a8A a0g a0g) (a0a (a0p a0M (a0Q (ixL K) (pv 5) a0g (λ_ _=>rfl)) (a0p a0N (pv 0) a0g)) a0c))⟩)))) a0z))
  (a0i (a0u (a1j a0P (by rfl) mt a1E (a0a (pv 4) a0c)))))))),?_⟩
 refine⟨_,rfl,a,ns,1,rfl,hS,by decide,λc0=>?_⟩;refine⟨_,rfl,_,rfl,_,_,rfl,rfl,(by show(0:Int)<_;omega),_,_,rfl,rfl,?_⟩;have t1:1<=1+c0 % m:=by have:=b8x c0 (show m≠0 by omega);omega
 have t2:1+c0 % m<=m:=by have:=b7M c0 (show 0<m by omega);omega
 dsimp only;generalize 1+c0 % m=b at t1 t2 ⊢;refine⟨_,rfl,b,rfl,by omega,by omega,λd hd=>?_⟩;refine⟨λi H'=>a0r H H'/\∃ps,H' d=some (.lst (ps.map V.int))/\ps.length=i/\Bo ps,⟨a0d hd _,[],a0b,rfl,λx hx=>by cases hx⟩,λi H' hi hP=>?_,λH1 hP=>?_⟩
 ·obtain⟨s1,ps,hd',lp,bo⟩:=hP;refine a0V ⟨_,rfl,_,rfl,_,_,rfl,rfl,a,ns,_,rfl,s1.seq hS,by omega,λc=>⟨c,rfl,λv v1 v2=>⟨_,hd',?_,a0w hd s1,ps++[v],?_,by rw[b4A,lp];rfl,bo.add v1 v2⟩⟩⟩
  ·rw[b4p];exact a0l (by omega)
  ·rw[a0b,b4D];rfl
 obtain⟨s1,ps,hd',lp,bo⟩:=hP;refine⟨λσ' H'=>∃(d:Addr) (ps:List Int),σ'=[some (.ref a),some (.int m),some (.int c0),some (.int b),some (.ref d)]/\a0r H H'/\H' d=some (.lst (ps.map V.int))/\ps.length=b.toNat/\Bo ps,?_,?_⟩
 ·refine⟨_,rfl,_,rfl,_,_,rfl,rfl,⟨by omega,by omega⟩,_,_,rfl,rfl,(by show(0:Int)<_;decide),rfl,_,rfl,?_⟩;refine a2I (λ_=>?_) (λ_=>⟨d,ps,rfl,s1,hd',lp,bo⟩);have h0:ps[0]?=some (ps[0]'(by omega)):=b4q _;have m0:ps[0]'(by omega)∈ps:=b6p _;generalize ps[0]'(by omega)=x0 at h0 m0;refine⟨_,rfl,d,_,_,_,rfl,rfl,SqL.of hd',a3h (k:=0) h0,(by show 1<=sizeLine;decide),λe1 he1=>?_⟩;have s2:=a0d he1 (.lst [.int x0]);have g2:upd H1 e1 (.lst [.int x0]) e1=some (.lst [.int x0]):=a0b;generalize upd H1 e1 (.lst [.int x0])=H2 at s2 g2 ⊢;refine⟨_,rfl,e1,b,_,rfl,rfl,g2,by omega,by omega,by show 1*_<=_;exact b6K (a0l (by omega)),λe2 he2=>?_⟩;rw[reps];exact⟨e2,List.replicate b.toNat x0,rfl,(s1.trans s2).trans (a0d he2 _),a0b,b8M,λx hx=>by rw[List.eq_of_mem_replicate hx];exact bo _ m0⟩
 rintro σ' H2 ⟨d,ps,rfl,s2,hd2,lp,bo⟩;refine⟨λσ' H'=>∃(d:Addr) (ps:List Int),σ'=[some (.ref a),some (.int m),some (.int c0),some (.int b),some (.ref d)]/\a0r H H'/\H' d=some (.lst (ps.map V.int))/\ps.length=b.toNat/\Bo ps,?_,?_⟩
 ·refine⟨_,rfl,_,rfl,_,_,rfl,rfl,⟨by omega,by omega⟩,_,_,rfl,rfl,(by show(0:Int)<_;decide),rfl,_,rfl,?_⟩;refine a2I (λ_=>?_) (λ_=>⟨d,ps,rfl,s2,hd2,lp,bo⟩);have h0:ps[0]?=some (ps[0]'(by omega)):=b4q _;have m0:ps[0]'(by omega)∈ps:=b6p _;generalize ps[0]'(by omega)=x0 at h0 m0;refine⟨_,rfl,b,rfl,by omega,by omega,λd4 hd4=>?_⟩;refine⟨λi H'=>a0r H2 H'/\∃qs,H' d4=some (.lst (qs.map V.int))/\qs.length=i/\Bo qs,⟨a0d hd4 _,[],a0b,rfl,λx hx=>by cases hx⟩,λi H' hi hP=>?_,λH3 hP=>?_⟩
  ·obtain⟨s4,qs,hd',lq,bq⟩:=hP;have bx:=bo _ m0;have hv:∃v:Int,v=(if x0+(0+(i:Int)) % 2<(10:Int) ^ (30:Int).toNat then x0+(0+(i:Int)) % 2 else (10:Int) ^ (30:Int).toNat)/\1<=v/\v<=B30:=⟨_,rfl,by rw[e30];split<;>(unfold B30 at *;omega),by rw[e30];split<;>(unfold B30 at *;omega)⟩
   obtain⟨v,ev,v1,v2⟩:=hv;refine a0V ⟨_,_,rfl,rfl,⟨by decide,by decide,by decide⟩,_,rfl,d,_,_,_,rfl,rfl,SqL.of (s4 _ _ hd2),a3h (k:=0) h0,_,rfl,_,_,rfl,rfl,(by show(0:Int)<_;decide),_,_,rfl,rfl,_,_,rfl,_,hd',?_,a0w hd4 s4,qs++[v],?_,by rw[b4A,lq];rfl,bq.add v1 v2⟩
   ·rw[b4p];exact a0l (by omega)
   ·rw[a0b,b4D,ev];rfl
  ·obtain⟨s4,qs,hd',lq,bq⟩:=hP;exact⟨d4,qs,rfl,s2.trans s4,hd',lq,bq⟩
 rintro σ' H3 ⟨d,ps,rfl,s3,hd3,lp,bo⟩;refine⟨_,rfl,d,_,rfl,.inl ⟨SqL.of hd3,λc hc=>?_⟩⟩;exact q c ps _ (s3.trans (a0d hc _)) a0b (by omega) (by omega) bo
abbrev ND:List Str:=["cell","many","size","told","rest","k","near"]
noncomputable def a9R:Sp:=λvs H Q _=>∃c m z:Int,vs=[.int c,.int m,.int z]/\0<=m/\m<=40/\1<=z/\z<=B30/\∀(l:Addr) ns H',a0r H H'->H l=none->H' l=some (.lst (ns.map V.int))->(ns.length:Int)=m->Bw ns->Q (.ref l) H'
theorem a2e:a0t ND ["cell","many","size"] (a0f a9K):=⟨rfl,rfl,rfl,by decide +kernel,rfl,by decide +kernel,by decide +kernel⟩
theorem Bw.add {ns:List Int} (h:Bw ns) {i:Int} (h1:0<=i) (h2:i<=B30):Bw (ns++[i]):=λx hx=>by
 rcases b4J.mp hx with z|z
 ·exact h x z
 ·rw[b4s.mp z];exact⟨h1,h2⟩
theorem b1w (F:Fun K "_law_drawn" "_law_drawn" a9K f fd) (mr:mg "range"=none):a1x P w K mg base CX0 1 f fd ["cell","many","size"] a9R:=by
 refine F.ok (k:=0) a2e (λvs H Q E h=>?_) (λcdv A outer s H vs Q E hr h=>?_)
 ·obtain⟨c,m,z,rfl,_⟩:=h;rfl
 obtain⟨c,m,z,rfl,m0,m10,z1,z2,q⟩:=h;refine⟨_,a0e (a0q (i:=3) a2e.nd rfl (Or.inl rfl) (a1N a0c))
  (a0e (a0q (i:=4) a2e.nd rfl (Or.inl rfl) (a0p a1M (pv 0) a0g))
  (a0e (a1K b5Q rfl (a1J (by rfl) mr (a0a (pv 1) a0c)) (a0F (i:=5) a2e.nd rfl (Or.inl rfl))
   (a0i (a0Y (PW.pt (a8t (a0s a2x (a0p a0N (pv 0) a0g) a0g (nomark _)) (a5I (a0s b0I (pv 4) a0g (nomark _)))))
    (a0e (a1r (a3K b5x b5O b5P a0Z (pv 3) (a0a (a0p a0N (pv 4) (pv 2)) a0c))) (a0i (a0q (i:=4) a2e.nd rfl (Or.inl rfl) (a0p b1b (pv 4) (pv 2)))))
    (a0e (a0q (i:=6) a2e.nd rfl (Or.inl rfl) (a0p a0M (a0p a0M (a0p a0N (a0p a1M (pv 0) a0g) a0g) (a0p a4T a0g (pv 5))) a0g))
    (a0e (a0q (i:=6) a2e.nd rfl (Or.inl rfl) (a0p a0N (a0p a4T (pv 6) (pv 6)) a0g))
    (a0i (a1r (a3K b5x b5O b5P a0Z (pv 3) (a0a (a0p a0N (a0p a1M (a0p a0N (a0p a0M (a0p a4T (pv 6) a0g) (a0p a4T a0g (pv 5))) a0g) a0g) (pv 2)) a0c)))))))))
  (a0i (a0u (pv 3))))),?_⟩
 refine⟨(by show 0<=sizeLine;decide),λlt hlt=>?_⟩;have s1:=a0d hlt (.lst []);have g1:upd H lt (.lst []) lt=some (.lst (([]:List Int).map V.int)):=a0b;generalize upd H lt (.lst [])=H1 at s1 g1 ⊢;refine⟨_,rfl,_,_,rfl,rfl,⟨by decide,by decide⟩,?_⟩;refine⟨_,rfl,_,rfl,by omega,by omega,?_⟩;refine a1L (λi σ H'=>a0r H H'/\∃(ns:List Int) (r:Int) (x5 x6:Option V),H' lt=some (.lst (ns.map V.int))/\ns.length=i/\Bw ns/\σ=[some (.int c),some (.int m),some (.int z),some (.ref lt),some (.int r),x5,x6])
  ⟨s1,[],_,_,_,g1,rfl,λx hx=>(by cases hx),rfl⟩ (λi σ H2 hi hP=>?_) (λσ H2 hP=>?_)
 ·obtain⟨s2,ns,r,x5,x6,hl2,ln,bn,rfl⟩:=hP;have i10:i<40:=by omega
  have put:∀v:Int,a0r H (upd H2 lt (.lst (ns.map V.int++[.int (v % z)])))/\upd H2 lt (.lst (ns.map V.int++[.int (v % z)])) lt=some (.lst ((ns++[v % z]).map V.int))/\(ns++[v % z]).length=i+1/\Bw (ns++[v % z]):=λv=>by
   have v1:=b8x v (show z≠0 by omega);have v2:=b7M v (show 0<z by omega);exact⟨a0w hlt s2,by rw[a0b,b4D];rfl,by rw[b4A,ln];rfl,bn.add v1 (by omega)⟩
  have els:∃n1:Int,n1=c / 2 % 1000000007+7919*(0+(i:Int))+11/\0<=n1/\n1<=2000000007:=⟨_,rfl,by omega,by omega⟩
  refine⟨_,rfl,_,_,rfl,rfl,(by show(0:Int)<_;decide),rfl,_,rfl,?_⟩;have other:∀(G:Prop),(∀n1:Int,n1=c / 2 % 1000000007+7919*(0+(i:Int))+11->0<=n1->n1<=2000000007->G)->G:=λG h=>by
   obtain⟨n1,a,b,d⟩:=els;exact h n1 a b d
  refine a2I (λ_=>?_) (λ_=>?_)
  ·refine⟨_,rfl,_,_,rfl,rfl,_,rfl,?_⟩;refine a2I (λ_=>?_) (λ_=>?_)
   ·refine⟨_,rfl,.inl ⟨rfl,_,SqL.of hl2⟩,_,rfl,_,rfl,_,_,rfl,rfl,(by show(0:Int)<_;omega),lt,_,_,rfl,rfl,hl2,a0l (by rw[b4p];omega),?_⟩;obtain⟨p1,p2,p3,p4⟩:=put r;refine⟨_,rfl,_,rfl,_,_,rfl,rfl,⟨by omega,by unfold B30 at *;omega⟩,p1,_,_,_,_,p2,p3,p4,rfl⟩
   ·refine other _ λn1 e1 a0 a1=>?_;refine⟨_,rfl,_,_,rfl,rfl,⟨by decide,by decide⟩,_,_,rfl,rfl,(by show(0:Int)<_;decide),_,rfl,_,_,rfl,rfl,.inl ⟨by decide,by decide⟩,_,_,rfl,rfl,_,_,rfl,rfl,?_⟩;dsimp only;rw[<-e1];refine⟨_,rfl,_,rfl,_,_,rfl,rfl,.inl ⟨by omega,by omega⟩,_,_,rfl,rfl,(by show(0:Int)<_;decide),?_⟩;dsimp only;have b0:0<=n1*n1 % 998244353:=by omega
    have b1:n1*n1 % 998244353<998244353:=by omega
    generalize n1*n1 % 998244353=n2 at b0 b1 ⊢;refine⟨_,rfl,.inl ⟨rfl,_,SqL.of hl2⟩,_,rfl,_,_,rfl,rfl,.inl ⟨by omega,by omega⟩,_,rfl,_,_,rfl,rfl,.inl ⟨by decide,by decide⟩,_,_,rfl,rfl,_,_,rfl,rfl,(by show(0:Int)<_;decide),_,_,rfl,rfl,⟨by decide,by decide⟩,_,rfl,_,_,rfl,rfl,(by show(0:Int)<_;omega),lt,_,_,rfl,rfl,hl2,a0l (by rw[b4p];omega),?_⟩;obtain⟨p1,p2,p3,p4⟩:=put ((n2*48271+17*(0+(i:Int))) % 2147483647 / 8);exact⟨p1,_,_,_,_,p2,p3,p4,rfl⟩
  ·refine other _ λn1 e1 a0 a1=>?_;refine⟨_,rfl,_,_,rfl,rfl,⟨by decide,by decide⟩,_,_,rfl,rfl,(by show(0:Int)<_;decide),_,rfl,_,_,rfl,rfl,.inl ⟨by decide,by decide⟩,_,_,rfl,rfl,_,_,rfl,rfl,?_⟩;dsimp only;rw[<-e1];refine⟨_,rfl,_,rfl,_,_,rfl,rfl,.inl ⟨by omega,by omega⟩,_,_,rfl,rfl,(by show(0:Int)<_;decide),?_⟩;dsimp only;have b0:0<=n1*n1 % 998244353:=by omega
   have b1:n1*n1 % 998244353<998244353:=by omega
   generalize n1*n1 % 998244353=n2 at b0 b1 ⊢;refine⟨_,rfl,.inl ⟨rfl,_,SqL.of hl2⟩,_,rfl,_,_,rfl,rfl,.inl ⟨by omega,by omega⟩,_,rfl,_,_,rfl,rfl,.inl ⟨by decide,by decide⟩,_,_,rfl,rfl,_,_,rfl,rfl,(by show(0:Int)<_;decide),_,_,rfl,rfl,⟨by decide,by decide⟩,_,rfl,_,_,rfl,rfl,(by show(0:Int)<_;omega),lt,_,_,rfl,rfl,hl2,a0l (by rw[b4p];omega),?_⟩;obtain⟨p1,p2,p3,p4⟩:=put ((n2*48271+17*(0+(i:Int))) % 2147483647 / 8);exact⟨p1,_,_,_,_,p2,p3,p4,rfl⟩
 ·obtain⟨s2,ns,r,x5,x6,hl2,ln,bn,rfl⟩:=hP;exact⟨_,rfl,q lt ns H2 s2 hlt hl2 (by omega) bn⟩
end
noncomputable def b4k (n st kn:Int):Bool:=decide (kn>1)||(decide (kn=1)&&decide (st=n-1))
noncomputable def b3I (n st kn m:Int):Bool:=decide (kn>0)&&decide (st+kn-1+m<=n)
noncomputable def lawf (L:Nat) (n st kn:Int):List Int:=(if b4k n st kn=true then [0] else [])++((List.range (L-1)).map λi:Nat=>(2:Int)+(i:Int)).filter (b3I n st kn)
noncomputable def nx (st r:Int):Int:=st+(if r=0 then 1 else 0)
noncomputable def leads (L:Nat) (n:Int):List Int->Int->Int->Bool
 | [],_,kn=>decide (kn=0)
 | r::rs,st,kn=>if r∈lawf L n st kn then leads L n rs (nx st r) (kn-1+r) else false
theorem a4I {H H':Hp} {T:Addr} {lpos:Pos} {q:Str} (s:a0r H H') (x:a3p H T lpos q):a3p H' T lpos q:=by
 rcases x with e|⟨c,e,ec⟩
 ·exact .inl (s _ _ e)
 ·exact .inr ⟨c,s _ _ e,s _ _ ec⟩
theorem b2n {H:Hp} {T:Addr} {lpos:Pos} {q:Str} (x:a3p H T lpos q):∃ps,H T=some (.tbl ps):=by
 rcases x with e|⟨c,e,_⟩
 ·exact⟨_,e⟩
 ·exact⟨_,e⟩
theorem a2T {as:List Addr} {H H':Hp} (s:a0r (unt as H) H'):a0r H (rtk as H H'):=λb o e=>by
 by_cases z:b∈as
 ·rw[b2j z];exact e
 ·rw[a1F z];exact s b o (by rw[a0A z];exact e)
theorem a4J {as:List Addr} {H H':Hp} {b:Addr} {o:HO} (n:∀c∈as,H' c=none) (e:H' b=some o):rtk as H H' b=some o:=by
 rw[a1F (λz=>by rw[n b z] at e;cases e)];exact e
noncomputable def a9S:Expr:=match a0O a1U with
 | [.Return (some (.Call _ _ [⟨_,e,_⟩] _)) _]=>e
 | _=>.Constant .none 0 ⟨0,0,0,0⟩
noncomputable def lamP1:Arguments:=match a9S with | .Lambda p _ _ _=>p|_=>a0X a1U
noncomputable def lamB1:Expr:=match a9S with | .Lambda _ b _ _=>b|e=>e
noncomputable def a9T:Scope:=match a9S with | .Lambda _ _ s _=>s|_=>a0f a1U
noncomputable def b3J:Pos:=match a9S with | .Lambda _ _ _ p=>p|_=>⟨0,0,0,0⟩
abbrev b1x:Str:=(("cheap_letters":Str)++".<locals>.")++"<lambda>"
abbrev lamK1 (c:Addr) (c':Addr) (pm ctv:Value):Obj:=PySem.W.kla_obj "<lambda>" b1x lamP1 lamB1 a9T [("prices",c)] pm c' ctv
example:a9S=.Lambda lamP1 lamB1 a9T b3J:=rfl
theorem scLam1 (c:Addr):a2p a9T ["letter"] [("prices",c)]:=⟨rfl,rfl,rfl,(by show(["letter","prices"]:List Str).Nodup;decide +kernel),by decide +kernel,by decide +kernel,(by show ∀y∈a9T.names,y.2=.free->y.1∈(["prices"]:List Str);decide +kernel),(by show ∀x∈(["prices"]:List Str),a9T.names.lookup x=some .free;decide +kernel)⟩
noncomputable def lamR1:Addr->List V->Hp->VK->Prop:=λg vs H Q=>∃(c c':Addr) (pm ctv:Value) (o:Obj) (u:Value) (p:Addr) (ps:List Int) (i:Nat),H g=some (exA g (lamK1 c c' pm ctv))/\H c'=some (cdA c' b1x)/\H c=some (exA c o)/\o.data=.cell (some u)/\a0T (.ref p) u/\vs=[.int (i:Int)]/\TW H p ps/\i<ps.length /\
 ∀t H',a0r H H'->H' t=some (.tup [.int (ps.getD i 0),.int (i:Int)])->Q (.ref t) H'
section
variable {P:Program} {w:World} {K:PySem.W.Frag} {mg:Str->Option Value} {base:Heap} {f:Addr} {fd:FuncData}
theorem b3K:a6b P w K mg base 1 lamR1 where
 at':=λ⟨c,c',pm,ctv,o,u,p,ps,i,e,_⟩=>⟨_,_,_,_,e⟩
 run:=λA outer s H g us vs Q hr e0 r' h=>by
  obtain⟨c,c',pm,ctv,o,u,p,ps,i,eg,ec',ecc,hd,rv,rfl,hp,hi,q⟩:=h;have lu:us.length=1:=by rw[<-r'.length];rfl
  have pc:p∉[c]:=λz=>by
   rw[b4s.mp z] at hp;exact absurd (b4N (hp.symm.trans ecc)) (by intro z;cases z)
  refine a2Q (k:=0) (cvs:=[.ref p]) (scLam1 c) hr e0 eg ec' (by simp) (λj x c0 hj=>?_) rfl r' rfl ?_ λxe hr'=>⟨_,a1s (a0a (a0Q (ixT K) (pv 1) (pv 0) (λ_ _=>rfl)) (a0a (pv 0) a0c)),?_⟩
  ·cases j with
   | zero =>
    have hj:(("prices":Str),c)=(x,c0):=b4N hj;cases hj;exact⟨o,u,.ref p,ecc,hd,rfl,rv⟩
   | succ j=>simp at hj
  ·match us,lu with
   | [u1],_=>rfl
  ·have hp2:TW (unt [c] H) p ps:=(a0A pc).trans hp;have h0:ps[i]?=some (ps.getD i 0):=by rw[b4t,b4q hi];rfl
   refine⟨_,rfl,_,rfl,p,_,_,_,rfl,rfl,SqT.of hp2,a3h h0,_,rfl,(by show 2<=sizeLine;decide),λt2 ht2 hn=>?_⟩;exact q t2 _ (a2T (a0d ht2 _)) (a4J hn a0b)
end
noncomputable def a9U:Expr:=match a0O b1r with
 | [.Assign _ (.Call _ _ [⟨_,e,_⟩] _) _,_]=>e
 | _=>.Constant .none 0 ⟨0,0,0,0⟩
noncomputable def lamP2:Arguments:=match a9U with | .Lambda p _ _ _=>p|_=>a0X b1r
noncomputable def lamB2:Expr:=match a9U with | .Lambda _ b _ _=>b|e=>e
noncomputable def a9V:Scope:=match a9U with | .Lambda _ _ s _=>s|_=>a0f b1r
noncomputable def b3L:Pos:=match a9U with | .Lambda _ _ _ p=>p|_=>⟨0,0,0,0⟩
abbrev b1y:Str:=(("in_own_order":Str)++".<locals>.")++"<lambda>"
abbrev lamK2 (c:Addr) (c':Addr) (pm ctv:Value):Obj:=PySem.W.kla_obj "<lambda>" b1y lamP2 lamB2 a9V [("weights",c)] pm c' ctv
example:a9U=.Lambda lamP2 lamB2 a9V b3L:=rfl
theorem scLam2 (c:Addr):a2p a9V ["thing"] [("weights",c)]:=⟨rfl,rfl,rfl,(by show(["thing","weights"]:List Str).Nodup;decide +kernel),by decide +kernel,by decide +kernel,(by show ∀y∈a9V.names,y.2=.free->y.1∈(["weights"]:List Str);decide +kernel),(by show ∀x∈(["weights"]:List Str),a9V.names.lookup x=some .free;decide +kernel)⟩
noncomputable def lamR2:Addr->List V->Hp->VK->Prop:=λg vs H Q=>∃(c c':Addr) (pm ctv:Value) (o:Obj) (u:Value) (p:Addr) (ps:List Int) (i:Nat),H g=some (exA g (lamK2 c c' pm ctv))/\H c'=some (cdA c' b1y)/\H c=some (exA c o)/\o.data=.cell (some u)/\a0T (.ref p) u/\vs=[.int (i:Int)]/\TW H p ps/\i<ps.length /\
 ∀t H',a0r H H'->H' t=some (.tup [.int (-ps.getD i 0),.int (i:Int)])->Q (.ref t) H'
section
variable {P:Program} {w:World} {K:PySem.W.Frag} {mg:Str->Option Value} {base:Heap} {f:Addr} {fd:FuncData}
theorem b3M:a6b P w K mg base 1 lamR2 where
 at':=λ⟨c,c',pm,ctv,o,u,p,ps,i,e,_⟩=>⟨_,_,_,_,e⟩
 run:=λA outer s H g us vs Q hr e0 r' h=>by
  obtain⟨c,c',pm,ctv,o,u,p,ps,i,eg,ec',ecc,hd,rv,rfl,hp,hi,q⟩:=h;have lu:us.length=1:=by rw[<-r'.length];rfl
  have pc:p∉[c]:=λz=>by
   rw[b4s.mp z] at hp;exact absurd (b4N (hp.symm.trans ecc)) (by intro z;cases z)
  refine a2Q (k:=0) (cvs:=[.ref p]) (scLam2 c) hr e0 eg ec' (by simp) (λj x c0 hj=>?_) rfl r' rfl ?_ λxe hr'=>⟨_,a1s (a0a (pe_un un_neg (a0Q (ixT K) (pv 1) (pv 0) (λ_ _=>rfl))) (a0a (pv 0) a0c)),?_⟩
  ·cases j with
   | zero =>
    have hj:(("weights":Str),c)=(x,c0):=b4N hj;cases hj;exact⟨o,u,.ref p,ecc,hd,rfl,rv⟩
   | succ j=>simp at hj
  ·match us,lu with
   | [u1],_=>rfl
  ·have hp2:TW (unt [c] H) p ps:=(a0A pc).trans hp;have h0:ps[i]?=some (ps.getD i 0):=by rw[b4t,b4q hi];rfl
   refine⟨_,rfl,_,rfl,p,_,_,_,rfl,rfl,SqT.of hp2,a3h h0,_,rfl,_,rfl,(by show 2<=sizeLine;decide),λt2 ht2 hn=>?_⟩;exact q t2 _ (a2T (a0d ht2 _)) (a4J hn a0b)
end
noncomputable def b3N (H H':Hp):Prop:=∀a o,(∀ps,o≠.tbl ps)->H a=some o->H' a=some o
abbrev Tbs:=List (Addr × Pos × Str)
noncomputable def Tb (S:Tbs) (H:Hp):Prop:=∀t∈S,a3p H t.1 t.2.1 t.2.2
noncomputable def Dst (S:Tbs):Prop:=∀t∈S,∀u∈S,t.1=u.1->t=u
structure Kp (S:Tbs) (H H':Hp):Prop where
 sm:b3N H H'
 tb:Tb S H'
theorem Kp.of {S:Tbs} {H H':Hp} (t:Tb S H) (s:a0r H H'):Kp S H H':=⟨λa o _ e=>s a o e,λu hu=>a4I s (t u hu)⟩
theorem Kp.trans {S:Tbs} {H H1 H2:Hp} (a:Kp S H H1) (b:Kp S H1 H2):Kp S H H2:=⟨λx o n e=>b.sm x o n (a.sm x o n e),b.tb⟩
theorem Kp.then {S:Tbs} {H H1 H2:Hp} (a:Kp S H H1) (b:a0r H1 H2):Kp S H H2:=a.trans (.of a.tb b)
theorem Kp.tup {S:Tbs} {H H':Hp} {a:Addr} {xs:List V} (k:Kp S H H') (e:H a=some (.tup xs)):H' a=some (.tup xs):=k.sm _ _ (by intro _ z;cases z) e
theorem Kp.lst {S:Tbs} {H H':Hp} {a:Addr} {xs:List V} (k:Kp S H H') (e:H a=some (.lst xs)):H' a=some (.lst xs):=k.sm _ _ (by intro _ z;cases z) e
theorem b3O {H H2:Hp} {T T':Addr} {lpos lpos':Pos} {q q':Str} {c' g:Addr} {o:Obj} (ne:T'≠T) (x:a3p H T lpos q) (L:LamH H H2 T lpos q c' g o) (y:a3p H T' lpos' q'):a3p H2 T' lpos' q':=by
 obtain⟨qs,hT⟩:=b2n x;rcases y with e|⟨c,e,ec⟩
 ·exact .inl (L.ot _ _ ne e)
 ·exact .inr ⟨c,L.ot _ _ ne e,L.ot _ _ (a1z ec hT (by intro z;cases z)) ec⟩
theorem a9W {H H2:Hp} {T:Addr} {lpos:Pos} {q:Str} {c' g:Addr} {o:Obj} (x:a3p H T lpos q) (L:LamH H H2 T lpos q c' g o):b3N H H2:=λa u n e=>by
 obtain⟨qs,hT⟩:=b2n x;exact L.ot a u (a1z e hT (n qs)) e
theorem Kp.lam {S:Tbs} {H H2:Hp} {T:Addr} {lp:Pos} {q:Str} {c' g:Addr} {o:Obj} (nd:Dst S) (m:(T,lp,q)∈S) (t:Tb S H) (L:LamH H H2 T lp q c' g o):Kp S H H2:=⟨a9W (t _ m) L,λu hu=>by
 by_cases e:u.1=T
 ·rw[nd u hu _ m e];exact .inr ⟨c',L.tb,L.cd⟩
 ·exact b3O e (t _ m) L (t u hu)⟩
structure b2o (K:PySem.W.Frag) (mg:Str->Option Value) (base:Heap) (c0 T bm:Addr):Prop where
 hd:PySem.W.codeHdIn K c0 T=true
 hbm:mg "__builtins__"=some (.ref bm)
 bo:∃o,base.get? bm=some o/\o.cls=.type "module"/\o.dict=some builtinsNs/\o.data=.plain
 b1:bm≠builtinsNs
 b2:bm≠mainGlobals
 b3:bm≠T
 b4:mainGlobals≠T
section
variable {P:Program} {w:World} {K:PySem.W.Frag} {mg:Str->Option Value} {base:Heap} {f:Addr} {fd:FuncData}
abbrev NCl:List Str:=["prices"]
noncomputable def kc (ps:List Int) (i:Nat):List Int:=[ps.getD i 0,(i:Int)]
theorem a7h {ks:Nat->List Int} (n:Nat) (h:∀i j,ks i=ks j->i=j):((List.range n).map ks).Nodup:=by
 rw[List.Nodup,b5r];exact b9S (λ{a b} (ne:a≠b) e=>ne (h a b e)) b7D
theorem kc_inj (ps:List Int) (i j:Nat) (h:kc ps i=kc ps j):i=j:=by
 unfold kc at h;have:=(b6I (b6I h).2).1;omega
noncomputable def spCl (S:Tbs):Sp:=λvs H Q _=>∃(p:Addr) (ps:List Int),vs=[.ref p]/\TW H p ps/\ps.length<=6/\Tb S H /\
 ∀(d:Addr) (pm:List Nat) H',Kp S H H'->H' d=some (.lst (pm.map λi:Nat=>V.int (i:Int)))->pm.Perm (List.range ps.length)->(pm.map (kc ps)).Pairwise Lx->Q (.ref d) H'
theorem scCl:a0t NCl NCl (a0f a1U):=⟨rfl,rfl,rfl,by decide +kernel,rfl,by decide +kernel,by decide +kernel⟩
theorem b1z {S:Tbs} {T1 c0 bm:Addr} (F:Fun K "cheap_letters" "cheap_letters" a1U f fd) (hcd:fd.code=.ref c0) (LC:b2o K mg base c0 T1 bm) (nd:Dst S) (mT:(T1,b3J,b1x)∈S) (ml:mg "len"=none) (mS:mg "sorted"=none) (mr:mg "range"=none):a1x P w K mg base CX0 4 f fd NCl (spCl S):=by
 refine F.okC (k:=3) scCl (λvs H Q E h=>?_) (λA outer s H vs Q E hr h=>?_)
 ·obtain⟨p,ps,rfl,_⟩:=h;rfl
 obtain⟨p,ps,rfl,hp,l6,tab,q⟩:=h;have LM:a9l (a5G CX0 P w K mg base NCl "cheap_letters" (a0f a1U) f fd.code A outer s H E).nox c0 T1 bm:=⟨hcd,LC.hd,LC.hbm,LC.bo,LC.b1,LC.b2,LC.b3,LC.b4⟩
 have hcl:a3q (a5G CX0 P w K mg base NCl "cheap_letters" (a0f a1U) f fd.code A outer s H E).nox [("prices",s.heap.objs.size+1)]:=⟨λq hq=>by rw[b4s.mp hq];rfl,λq hq=>rfl,λq hq=>by rw[b4s.mp hq];rfl⟩
 refine⟨_,a0i (a0u (a5y (Rg:=RgC _ [("prices",s.heap.objs.size+1)] lamR1) (λσ=>a7X.cells b3K hr hcl) rfl (by rfl) mS (by rfl) mr (a0a (a0j a0h (by rfl) ml b4P (a0a (pv 0) a0c)) a0c) (a2y (a6T LM (clos:=[("prices",s.heap.objs.size+1)]) rfl) a4W))),?_⟩;refine⟨_,rfl,p,_,rfl,.inr (SqT.of hp),ps.length,by rw[b4p],by omega,tab _ mT,λc' pm ctv g H2 LH=>?_⟩;have k2:Kp S H H2:=Kp.lam nd mT tab LH;have hp2:=k2.tup hp;refine⟨g,kc ps,rfl,λi H3 Q1 hi s3 q1=>?_,a7h _ (kc_inj ps),λi _ z=>(by cases z),λd pl H' s' g' perm pw=>q d pl H' (k2.then s') g' perm pw⟩;intro os hos hnn;have hn:H3 (s.heap.objs.size+1)=none:=hnn _ (by simp);obtain⟨u,hu1,hu2⟩:=hos 0 0 "prices" (s.heap.objs.size+1) (.ref p) rfl rfl rfl;have lob:=LH.ob;generalize s.heap.objs.size+1=c at hn hu1 lob ⊢;have st':a0r H3 (trk' [c] os H3):=λb o e=>by
  rw[a0S (λy=>by rw[b4s.mp y,hn] at e;cases e)];exact e
 have ecc:trk' [c] os H3 c=some (exA c (os c)):=a6U (by simp);refine⟨c,c',pm,ctv,os c,u,p,ps,i,st' _ _ (s3 _ _ lob),st' _ _ (s3 _ _ LH.cd),ecc,hu1,hu2,rfl,st' _ _ (s3 _ _ hp2),hi,λt H4 s4 h4=>⟨λb hb=>?_,q1 t _ (λb o e=>?_) ?_⟩⟩
 ·rw[b4s.mp (show b∈[c] from hb)];exact s4 _ _ ecc
 ·have hb:b∉[c]:=λy=>by rw[b4s.mp y,hn] at e;cases e
  show unt [c] H4 b=_;rw[a0A hb];exact s4 _ _ (st' _ _ e)
 ·have hb:t∉[c]:=λy=>by
   rw[b4s.mp y,s4 _ _ ecc] at h4;cases h4
  show unt [c] H4 t=_;rw[a0A hb];exact h4
abbrev NOp:List Str:=["prices","word","many","longer"]
abbrev POp:List Str:=["prices","word","many"]
noncomputable def Lt (L:Nat) (ns:List Int):Prop:=∀z∈ns,(0:Int)<=z/\z<(L:Int)
end
noncomputable def pc (ps:List Int) (u:List Int):Int:=(u.map λx=>ps.getD x.toNat 0).sum
section
variable {P:Program} {w:World} {K:PySem.W.Frag} {mg:Str->Option Value} {base:Heap} {f:Addr} {fd:FuncData}
noncomputable def al (m x:Int):Bool:=decide (0<=x)&&decide (x<m)
noncomputable def alone (m:Int) (ns:List Int):Bool:=(ns.map (al m)).all id
noncomputable def a9X:Sp:=λvs H Q _=>∃(x:V) (ns:List Int) (m:Int),vs=[x,.int m]/\Wd H x ns/\ns.length<=1000/\∀H',a0r H H'->Q (.bl (alone m ns)) H'
theorem b3P:a0t ["word","letters"] ["word","letters"] (a0f a7b):=⟨rfl,rfl,rfl,by decide +kernel,rfl,by decide +kernel,by decide +kernel⟩
theorem ndA:(("letter":Str)::["word","letters"]).Nodup:=by decide +kernel
theorem b1A (F:Fun K "has_letters_alone" "has_letters_alone" a7b f fd) (ma:mg "all"=none):a1x P w K mg base CX0 1 f fd ["word","letters"] a9X:=by
 refine F.ok (k:=0) b3P (λvs H Q E h=>?_) (λcdv A outer s H vs Q E hr h=>?_)
 ·obtain⟨x,ns,m,rfl,_⟩:=h;rfl
 obtain⟨x,ns,m,rfl,hx,hl,q⟩:=h;obtain⟨a,rfl,ha⟩:=hx.ti;refine⟨_,a0i (a0u (a0j (b0N rfl) (by rfl) ma b_all (a0a (a2M (M:=["word","letters"]) rfl (a0k.of (a0f a7b) ["word","letters"] rfl rfl rfl (by decide +kernel) (by decide +kernel) (by decide +kernel) rfl (by decide +kernel)) ndA rfl (pv 0) a0L
  (λcl C s0 H0 fp=>⟨a0R,b0J op_le a4U a0g (pv 0) (pv 2)⟩)) a0c))),?_⟩
 refine⟨_,rfl,a,_,rfl,SqT.of ha,λd hd=>?_⟩;refine⟨λk H'=>a0r H H'/\H' d=some (.lst (((ns.take k).map (al m)).map V.bl)),⟨a0d hd _,a0b⟩,λk H' _ hP=>SqT.of (hP.1 _ _ ha),λk x H' hx hP=>?_,λH' hP=>?_⟩
 ·obtain⟨sm,hd'⟩:=hP;rw[b4C] at hx;cases hz:ns[k]? with
  | none=>rw[hz] at hx;cases hx
  | some z =>
   rw[hz] at hx;cases hx;have hk:=(b4u.mp hz).1;have fin:∀b,b=al m z->∃ys,H' d=some (.lst ys)/\ys.length<sizeLine/\(a0r H (upd H' d (.lst (ys++[.bl b])))/\upd H' d (.lst (ys++[.bl b])) d=some (.lst (((ns.take (k+1)).map (al m)).map V.bl))):=λb eb=>by
    refine⟨_,hd',?_,a0w hd sm,?_⟩
    ·rw[b4p,b4p,b4L];exact a0l (by omega)
    ·rw[a0b,b5e,hz,b4D,b4D,eb];rfl
   refine a0V ⟨_,rfl,_,_,rfl,rfl,_,rfl,?_⟩;refine a2I (λc=>?_) (λc=>?_)
   ·refine⟨_,rfl,_,_,rfl,rfl,?_⟩;exact fin _ (by unfold al;rw[c];rfl)
   ·exact fin _ (by unfold al;rw[Bool.eq_false_iff.mpr c];rfl)
 ·obtain⟨sm,hd'⟩:=hP;rw[b4p,b5z] at hd';exact⟨d,_,rfl,hd',q H' sm⟩
theorem a7i {m:Int} {ns:List Int} (h:alone m ns=true):∀x∈ns,0<=x/\x<m:=λx hx=>by
 have q:=b7B.mp h (al m x) (b9u hx);unfold al at q;simp only[id,b5X,b5Z] at q;exact q
theorem a9Y {m:Int} {ns:List Int}:alone m ns=true↔∀x∈ns,0<=x/\x<m:=by
 refine⟨a7i,λh=>?_⟩;unfold alone;rw[b7B];intro b hb;obtain⟨x,hx,rfl⟩:=b4F.mp hb;obtain⟨h1,h2⟩:=h x hx;unfold al;simp[h1,h2]
noncomputable def spPp:Sp:=λvs H Q _=>∃(x y:V) (ps ns:List Int),vs=[x,y]/\Wd H x ps/\Wd H y ns/\ns.length<=1000/\Lt ps.length ns/\∀H',a0r H H'->Q (.int (pc ps ns)) H'
theorem scPp:a0t ["prices","word"] ["prices","word"] (a0f a4z):=⟨rfl,rfl,rfl,by decide +kernel,rfl,by decide +kernel,by decide +kernel⟩
theorem ndPp:(("letter":Str)::["prices","word"]).Nodup:=by decide +kernel
theorem a9Z (F:Fun K "word_price" "word_price" a4z f fd) (G:Fns P w K mg base ["word","letters"] "has_letters_alone" a9X 1) (ml:mg "len"=none) (ms:mg "sum"=none):a1x P w K mg base CX0 2 f fd ["prices","word"] spPp:=by
 refine F.ok (k:=1) scPp (λvs H Q E h=>?_) (λcdv A outer s H vs Q E hr h=>?_)
 ·obtain⟨x,y,ps,ns,rfl,_⟩:=h;rfl
 obtain⟨x,y,ps,ns,rfl,hx,hy,hl,lt,q1⟩:=h;obtain⟨p,rfl,hp⟩:=hx.ti;obtain⟨a,rfl,ha⟩:=hy.ti;refine⟨_,a0e (a0Y (a2Z (a2Y (a0o G.ok hr (by rfl) G.m G.kp G.b .nil a0G (a0a (pv 1) (a0a (a0j a0h (by rfl) ml b4P (a0a (pv 0) a0c)) a0c))))) (a0i a5B) a0z)
  (a0i (a0u (a0j (a1W rfl) (by rfl) ms a7J (a0a (a2M (M:=["prices","word"]) rfl (a0k.of (a0f a4z) ["prices","word"] rfl rfl rfl (by decide +kernel) (by decide +kernel) (by decide +kernel) rfl (by decide +kernel)) ndPp rfl (pv 1) a0L
   (λcl C s0 H0 fp=>⟨a0R,a0Q (ixT K) (pv 1) (pv 0) (λ_ _=>rfl)⟩)) a0c)))),?_⟩
 refine⟨_,rfl,_,rfl,p,_,rfl,.inr (SqT.of hp),.ref a,ns,_,rfl,Wd.of ha,hl,λH1 s1=>?_⟩;rw[b4p];refine⟨_,rfl,?_⟩;have c1:alone (ps.length:Int) ns=true:=a9Y.mpr lt;rw[c1];refine a3P ?_;have hn:=a7i c1;refine⟨_,rfl,a,_,rfl,SqT.of (s1 _ _ ha),λd hd=>?_⟩;refine⟨λk H'=>a0r H1 H'/\H' d=some (.lst (((ns.take k).map λx=>ps.getD x.toNat 0).map V.int)),⟨a0d hd _,a0b⟩,λk H' _ hP=>SqT.of (hP.1 _ _ (s1 _ _ ha)),λk x H' hx hP=>?_,λH' hP=>?_⟩
 ·obtain⟨sm,hd'⟩:=hP;rw[b4C] at hx;cases hz:ns[k]? with
  | none=>rw[hz] at hx;cases hx
  | some z =>
   rw[hz] at hx;cases hx;have hk:=(b4u.mp hz).1;obtain⟨z0,z1⟩:=hn z (b4B hz);obtain⟨n,rfl⟩:∃n:Nat,z=n:=⟨z.toNat,by omega⟩
   have hn':n<ps.length:=by omega
   refine a0V ⟨_,rfl,_,rfl,p,_,_,_,rfl,rfl,SqT.of (sm _ _ (s1 _ _ hp)),a3h (b4q hn'),_,hd',?_,a0w hd sm,?_⟩
   ·rw[b4p,b4p,b4L];exact a0l (by omega)
   ·rw[a0b,b5e,hz,b4D,b4D];simp[b4t,b4q hn']
 ·obtain⟨sm,hd'⟩:=hP;rw[b4p,b5z] at hd';exact⟨d,_,rfl,hd',q1 H' (s1.trans sm)⟩
noncomputable def wl1 (u:List Int) (a:Nat):List Int:=u++[(a:Int)]
noncomputable def spOp (S:Tbs):Sp:=λvs H Q _=>∃(p wd:Addr) (ps u:List Int) (m:Nat),vs=[.ref p,.ref wd,.int (m:Int)]/\TW H p ps/\TW H wd u/\ps.length<=6/\m<=ps.length/\Lt ps.length u/\u.length<=100/\Tb S H /\
 ∀(l:Addr) (pm:List Nat) xs H',Kp S H H'->H' l=some (.lst xs)->Paired (RPw H') xs ((pm.take m).map λa=>(pc ps (wl1 u a),wl1 u a))->pm.Perm (List.range ps.length)->(pm.map (kc ps)).Pairwise Lx->Q (.ref l) H'
theorem scOp:a0t NOp POp (a0f a3w):=⟨rfl,rfl,rfl,by decide +kernel,rfl,by decide +kernel,by decide +kernel⟩
theorem ndOp1:(("letter":Str)::NOp).Nodup:=by decide +kernel
theorem ndOp2:(("one":Str)::NOp).Nodup:=by decide +kernel
theorem RPw.upd {H:Hp} {d:Addr} {ls ls':List V} {x:V} {q:Int × List Int} (hd:H d=some (.lst ls)) (h:RPw H x q):RPw (upd H d (.lst ls')) x q:=by
 obtain⟨t,u,rfl,ht,hu⟩:=h;exact⟨t,u,rfl,by rw[a0m (a1z ht hd (by intro z;cases z))];exact ht,Wd.upd hd hu⟩
theorem b0a {S:Tbs} (F:Fun K "opened" "opened" a3w f fd) (GC:Fns P w K mg base NCl "cheap_letters" (spCl S) 4) (GP:Fns P w K mg base ["prices","word"] "word_price" spPp 4):a1x P w K mg base CX0 5 f fd POp (spOp S):=by
 refine F.ok (k:=4) scOp (λvs H Q E h=>?_) (λcdv A outer s H vs Q E hr h=>?_)
 ·obtain⟨p,wd,ps,u,m,rfl,_⟩:=h;rfl
 obtain⟨p,wd,ps,u,m,rfl,hp,hw,l6,ml,lt,l100,tab,q⟩:=h;refine⟨_,a0e (b0Z (i:=3) (M:=NOp) scOp.nd rfl rfl rfl (a0k.of (a0f a3w) NOp rfl rfl rfl (by decide +kernel) (by decide +kernel) (by decide +kernel) rfl (by decide +kernel)) ndOp1 rfl (a2j (a1n a2A (a0o GC.ok hr (by rfl) GC.m GC.kp GC.b .nil a0G (a0a (pv 0) a0c)) a1O (a1A (pv 2)))) a2k (λcl C s0 H0 fp=>⟨a0R,a0p a5O (pv 2) (a1s (a0a (pv 0) a0c))⟩))
   (a0i (a0u (a2L (M:=NOp) rfl (a0k.of (a0f a3w) NOp rfl rfl rfl (by decide +kernel) (by decide +kernel) (by decide +kernel) rfl (by decide +kernel)) ndOp2 rfl (pv 3) a0L (λcl C s0 H0 fp=>⟨a0R,a1s (a0a (a0o GP.ok hr (by rfl) GP.m GP.kp GP.b .nil a0G (a0a (pv 1) (a0a (pv 0) a0c))) (a0a (pv 0) a0c))⟩)))),?_⟩
 refine⟨λvv H1=>∃(e:Addr) (pm:List Nat),vv=.ref e/\Kp S H H1/\H1 e=some (.lst ((pm.take m).map λi:Nat=>V.int (i:Int)))/\pm.Perm (List.range ps.length)/\(pm.map (kc ps)).Pairwise Lx,?_,λvv H1 hv=>?_⟩
 ·refine⟨_,rfl,p,ps,rfl,hp,l6,tab,λd pm H' kp g' perm pw=>?_⟩;refine⟨_,rfl,_,rfl,d,_,rfl,SqL.of g',λe he=>⟨e,pm,rfl,kp.then (a0d he _),?_,perm,pw⟩⟩;rw[a0b,a6H,b9h]
 obtain⟨e,pm,rfl,k1,g1,perm,pw⟩:=hv;have lpm:pm.length=ps.length:=by rw[perm.length_eq,b6a]
 have ltk:(pm.take m).length=m:=by rw[b4L];omega
 have ndt:(pm.take m).Nodup:=(perm.nodup_iff.mpr b7D).sublist (b9L _ _);have mem:∀a∈pm.take m,a<ps.length:=λa ha=>b6Q.mp (perm.mem_iff.mp (b6k ha));have q:=λl=>q l pm;generalize pm.take m=ls at g1 ltk ndt mem q;have hp1:=k1.tup hp;have hw1:=k1.tup hw;refine⟨e,_,rfl,SqL.of g1,λd hd=>?_⟩;refine⟨λi H'=>a0r H1 H'/\∃ys,H' d=some (.lst ys)/\Ws H' ys ((ls.take i).map (wl1 u)),⟨a0d hd _,[],a0b,.nil⟩,λi H' _ hP=>SqL.of (hP.1 _ _ g1),λi x H' hx hP=>?_,λH5 hP=>?_⟩
 ·obtain⟨s5,ys,g5,w5⟩:=hP;have il:=(b4u.mp hx).1;rw[b4p] at il;rw[b4C] at hx;obtain⟨a,ha,rfl⟩:=b5q.mp hx;refine a0V ⟨_,rfl,_,rfl,(by show 1<=sizeLine;decide),λt ht=>?_⟩;have s6:=a0d ht (.tup [.int (a:Int)]);have g6:L2.upd H' t (.tup [.int (a:Int)]) t=some (.tup [.int (a:Int)]):=a0b;generalize L2.upd H' t (.tup [.int (a:Int)])=H6 at s6 g6 ⊢;refine⟨wd,t,_,_,rfl,rfl,s6 _ _ (s5 _ _ hw1),g6,?_,λp9 H9 s9 hp9=>?_⟩
  ·rw[b4p];exact b6K (a0l (by show u.length+1<=1000;omega))
  have s69:=s6.trans s9;have g9:=s69 _ _ g5;refine⟨ys,g9,a0l (by rw[w5.length,b4p,b4L];omega),a0w hd (s5.trans s69),_,a0b,?_⟩;rw[b5e,ha,b4D];exact Paired.appendP (Ws.upd g9 (w5.same s69)) (.cons (Wd.upd g9 (Wd.of (w:=wl1 u a) (by show H9 p9=_;rw[hp9];unfold wl1;rw[b4D];rfl))) .nil)
 obtain⟨s5,ys,g5,w5⟩:=hP;rw[b4p,b5z] at w5;have k5:=k1.then s5;have ly:ys.length=ls.length:=by rw[w5.length,b4p]
 refine⟨_,rfl,d,ys,rfl,SqL.of g5,λd2 hd2=>?_⟩;refine⟨λi H'=>a0r H5 H'/\∃zs,H' d2=some (.lst zs)/\Paired (RPw H') zs ((ls.take i).map λa=>(pc ps (wl1 u a),wl1 u a)),⟨a0d hd2 _,[],a0b,.nil⟩,λi H' _ hP=>SqL.of (hP.1 _ _ g5),λi x H' hx hP=>?_,λH6 hP=>?_⟩
 ·obtain⟨s6,zs,g6,w6⟩:=hP;have il:=(b4u.mp hx).1;obtain⟨v,hv,wv⟩:=Paired.right_of w5 i x hx;rw[b4C] at hv;obtain⟨a,ha,rfl⟩:=b5q.mp hv;have am:=mem a (b4B ha);have lt2:Lt ps.length (wl1 u a):=λz hz=>by
   rcases b4J.mp hz with hz|hz
   ·exact lt z hz
   ·rw[b4s.mp hz];omega
  refine a0V ⟨_,rfl,_,rfl,.ref p,x,ps,wl1 u a,rfl,Wd.of (s6 _ _ (s5 _ _ hp1)),Wd.same s6 wv,by unfold wl1;rw[b4A];show u.length+1<=1000;omega,lt2,λH7 s7=>?_⟩;refine⟨_,rfl,(by show 2<=sizeLine;decide),λt ht=>?_⟩;have s8:=a0d ht (.tup [.int (pc ps (wl1 u a)),x]);have g8:L2.upd H7 t (.tup [.int (pc ps (wl1 u a)),x]) t=some (.tup [.int (pc ps (wl1 u a)),x]):=a0b;generalize L2.upd H7 t (.tup [.int (pc ps (wl1 u a)),x])=H8 at s8 g8 ⊢;have s68:=s7.trans s8;have g9:=s68 _ _ g6;refine⟨zs,g9,a0l (by rw[w6.length,b4p,b4L];omega),a0w hd2 (s6.trans s68),_,a0b,?_⟩;rw[b5e,ha,b4D];exact Paired.appendP (Paired.mapP w6 λ_ _ z=>RPw.upd g9 (z.same s68)) (.cons (RPw.upd g9 ⟨t,x,rfl,g8,Wd.same (s6.trans s68) wv⟩) .nil)
 obtain⟨s6,zs,g6,w6⟩:=hP;rw[ly,b5z] at w6;exact q d2 zs H6 (k5.then s6) g6 w6 perm pw
abbrev NOw:List Str:=["weights","words","things"]
abbrev POw:List Str:=["weights","words"]
noncomputable def ko (ws:List Int) (i:Nat):List Int:=[-ws.getD i 0,(i:Int)]
theorem ko_inj (ws:List Int) (i j:Nat) (h:ko ws i=ko ws j):i=j:=by
 unfold ko at h;have:=(b6I (b6I h).2).1;omega
structure Own (ws:List Int) (us:List (List Int)) (pl:List Nat) (cw:List (List Int)):Prop where
 perm:pl.Perm (List.range ws.length)
 pw:(pl.map (ko ws)).Pairwise Lx
 pu:cw.Perm us
 at_:∀(i t:Nat) u,pl[i]?=some t->us[i]?=some u->cw[t]?=some u
theorem b3Q {p q:Int × List Int} (h:LxP p q):p.1<=q.1:=by
 unfold LxP a3H at h;split at h
 ·rename_i e;exact b8p e
 ·exact Int.le_of_lt (b4Q h)
noncomputable def spOwn (S:Tbs):Sp:=λvs H Q _=>∃(p l:Addr) (ws:List Int) (ys:List V) (us:List (List Int)),vs=[.ref p,.ref l]/\TW H p ws/\H l=some (.lst ys)/\Ws H ys us/\us.length=ws.length/\ws.length<=7/\Tb S H /\
 ∀(t:Addr) zs H' (pl:List Nat) (cw:List (List Int)),Kp S H H'->H' t=some (.tup zs)->Ws H' zs cw->Own ws us pl cw->Q (.ref t) H'
theorem scOw:a0t NOw POw (a0f b1r):=⟨rfl,rfl,rfl,by decide +kernel,rfl,by decide +kernel,by decide +kernel⟩
theorem ndOw:(("thing":Str) :: "word" :: NOw).Nodup:=by decide +kernel
theorem a4K {α β:Type}:∀{xs:List α} {ys:List β},xs.length=ys.length->(xs.zip ys).map Prod.fst=xs
 | [],_,_=>rfl
 | x::xs,[],h=>by cases h
 | x::xs,y::ys,h=>by rw[b7g,b5J,a4K (by simpa using h)]
theorem a6l {α β:Type}:∀{xs:List α} {ys:List β},xs.length=ys.length->(xs.zip ys).map Prod.snd=ys
 | [],[],_=>rfl
 | [],_::_,h=>by cases h
 | x::xs,[],h=>by cases h
 | x::xs,y::ys,h=>by rw[b7g,b5J,a6l (by simpa using h)]
theorem b0b {α β:Type} {qs:List (α × β)} (h:(qs.map Prod.fst).Nodup):qs.Nodup:=by
 rw[List.Nodup,b5r] at h;exact h.imp λne e=>ne (by rw[e])
theorem own_of {n:Nat} {us:List (List Int)} {pl:List Nat} {vs:List (Int × List Int)} (lu:us.length=n) (perm:pl.Perm (List.range n)) (p4:vs.Perm ((pl.map λi:Nat=>(i:Int)).zip us)) (w4:vs.Pairwise LxP):(vs.map Prod.snd).Perm us/\∀(i t:Nat) u,pl[i]?=some t->us[i]?=some u->(vs.map Prod.snd)[t]?=some u:=by
 have lp:(pl.map λi:Nat=>(i:Int)).length=us.length:=by rw[b4p,perm.length_eq,b6a,lu]
 refine⟨?_,λi t u h1 h2=>?_⟩
 ·have:=p4.map Prod.snd;rw[a6l lp] at this;exact this
 have ef:vs.map Prod.fst=(List.range n).map λi:Nat=>(i:Int):=by
  refine a5p ?_ ?_ ?_
  ·have:=p4.map Prod.fst;rw[a4K lp] at this;exact this.trans (perm.map _)
  ·rw[b5r];exact w4.imp b3Q
  ·rw[b5r];exact List.pairwise_lt_range.imp λh=>by omega
 have hz:((t:Int),u)∈(pl.map λi:Nat=>(i:Int)).zip us:=by
  refine b4B (i:=i) ?_;rw[b7Z];exact⟨by rw[b4C,h1];rfl,h2⟩
 obtain⟨j,hj⟩:=b6b (p4.mem_iff.mpr hz);have e1:(vs.map Prod.fst)[j]?=some (t:Int):=by rw[b4C,hj];rfl
 rw[ef,b4C] at e1;obtain⟨k,hk,e2⟩:=b5q.mp e1;obtain⟨hl,e3⟩:=b4u.mp hk;rw[b8w] at e3;have:t=j:=by omega
 rw[this,b4C,hj];rfl
theorem ok_own {S:Tbs} {T2 c0 bm:Addr} (F:Fun K "in_own_order" "in_own_order" b1r f fd) (hcd:fd.code=.ref c0) (LC:b2o K mg base c0 T2 bm) (nd:Dst S) (mT:(T2,b3L,b1y)∈S) (ml:mg "len"=none) (mS:mg "sorted"=none) (mr:mg "range"=none) (mz:mg "zip"=none) (mt:mg "tuple"=none):a1x P w K mg base CX0 4 f fd POw (spOwn S):=by
 refine F.okC (k:=3) scOw (λvs H Q E h=>?_) (λA outer s H vs Q E hr h=>?_)
 ·obtain⟨p,l,ws,ys,us,rfl,_⟩:=h;rfl
 obtain⟨p,l,ws,ys,us,rfl,hp,hl,hW,lu,l7,tab,q⟩:=h;have LM:a9l (a5G CX0 P w K mg base NOw "in_own_order" (a0f b1r) f fd.code A outer s H E).nox c0 T2 bm:=⟨hcd,LC.hd,LC.hbm,LC.bo,LC.b1,LC.b2,LC.b3,LC.b4⟩
 have hcl:a3q (a5G CX0 P w K mg base NOw "in_own_order" (a0f b1r) f fd.code A outer s H E).nox [("weights",s.heap.objs.size+1)]:=⟨λq hq=>by rw[b4s.mp hq];rfl,λq hq=>rfl,λq hq=>by rw[b4s.mp hq];rfl⟩
 refine⟨_,a0e (a0q (i:=2) scOw.nd rfl (Or.inl rfl) (a5y (Rg:=RgC _ [("weights",s.heap.objs.size+1)] lamR2) (λσ=>a7X.cells b3M hr hcl) rfl (by rfl) mS (by rfl) mr (a0a (a0j a0h (by rfl) ml b4P (a0a (pv 0) a0c)) a0c) (a2y (a6T LM (clos:=[("weights",s.heap.objs.size+1)]) rfl) a4W)))
   (a0i (a0u (a1j a0P (by rfl) mt a1E (a0a (b1a K (M:=NOw) rfl (a0k.of (a0f b1r) NOw rfl rfl rfl (by decide +kernel) (by decide +kernel) (by decide +kernel) rfl (by decide +kernel)) ndOw rfl rfl (a2j (b1e false false rfl (hu4 hr) (by rfl) mS (by rfl) mz (a0a (pv 2) (a0a (pv 1) a0c)))) a2k (λcl C s0 H0 fp pins σ bk=>⟨a0R,pv 1⟩)) a0c)))),?_⟩
 refine⟨_,rfl,p,_,rfl,.inr (SqT.of hp),ws.length,by rw[b4p],by omega,tab _ mT,λc' pm ctv g H2 LH=>?_⟩;have k2:Kp S H H2:=Kp.lam nd mT tab LH;have hp2:=k2.tup hp;refine⟨g,ko ws,rfl,λi H3 Q1 hi s3 q1=>?_,a7h _ (ko_inj ws),λi _ z=>(by cases z),λd pl H3 s3 g3 perm pw=>?_⟩
 ·intro os hos hnn;have hn:H3 (s.heap.objs.size+1)=none:=hnn _ (by simp);obtain⟨u,hu1,hu2⟩:=hos 0 0 "weights" (s.heap.objs.size+1) (.ref p) rfl rfl rfl;have lob:=LH.ob;generalize s.heap.objs.size+1=c at hn hu1 lob ⊢;have st':a0r H3 (trk' [c] os H3):=λb o e=>by
   rw[a0S (λy=>by rw[b4s.mp y,hn] at e;cases e)];exact e
  have ecc:trk' [c] os H3 c=some (exA c (os c)):=a6U (by simp);refine⟨c,c',pm,ctv,os c,u,p,ws,i,st' _ _ (s3 _ _ lob),st' _ _ (s3 _ _ LH.cd),ecc,hu1,hu2,rfl,st' _ _ (s3 _ _ hp2),hi,λt H4 s4 h4=>⟨λb hb=>?_,q1 t _ (λb o e=>?_) ?_⟩⟩
  ·rw[b4s.mp (show b∈[c] from hb)];exact s4 _ _ ecc
  ·have hb:b∉[c]:=λy=>by rw[b4s.mp y,hn] at e;cases e
   show unt [c] H4 b=_;rw[a0A hb];exact s4 _ _ (st' _ _ e)
  ·have hb:t∉[c]:=λy=>by
    rw[b4s.mp y,s4 _ _ ecc] at h4;cases h4
   show unt [c] H4 t=_;rw[a0A hb];exact h4
 have k3:=k2.then s3;have hl3:=k3.lst hl;have hW3:Ws H3 ys us:=Paired.mapP hW λx y z=>by
  obtain⟨a,rfl,ha⟩:=Wd.ti z;exact Wd.of (k3.tup ha)
 have lp:(pl.map λi:Nat=>(i:Int)).length=us.length:=by rw[b4p,perm.length_eq,b6a,lu]
 have e1:(((pl.map λi:Nat=>(i:Int)).zip us).map λq=>V.int q.1)=pl.map λi:Nat=>V.int (i:Int):=by
  rw[show(λq:Int × List Int=>V.int q.1)=V.int ∘ Prod.fst from rfl,<-b5A,a4K lp,b5A];rfl
 have nd:((pl.map λi:Nat=>(i:Int)).zip us).Nodup:=b0b (by
  rw[a4K lp,List.Nodup,b5r];exact(perm.nodup_iff.mpr b7D).imp λne e=>ne (by omega))
 refine⟨λvv H4=>∃(e:Addr) (out:List V) (vs:List (Int × List Int)),vv=.ref e/\a0r H3 H4/\H4 e=some (.lst out)/\Paired (RPw H4) out vs/\vs.length<=7/\(vs.map Prod.snd).Perm us/\∀(i t:Nat) u,pl[i]?=some t->us[i]?=some u->(vs.map Prod.snd)[t]?=some u,?_,λvv H4 hv=>?_⟩
 ·refine⟨_,rfl,_,rfl,d,l,ys,(pl.map λi:Nat=>(i:Int)).zip us,rfl,λ{H'} s'=>?_,λ{H'} s'=>SqL.of (s' _ _ hl3),?_,?_,nd,λe H4 out vs s4 g4 w4 perm4 pw4=>⟨e,out,vs,rfl,s4,g4,w4,?_,own_of lu perm perm4 pw4⟩⟩
  ·rw[e1];exact SqL.of (s' _ _ g3)
  ·rw[a6l lp];exact hW3
  ·rw[c0h];omega
  ·rw[perm4.length_eq,c0h];omega
 obtain⟨e,out,vs,rfl,s4,g4,w4,l4,ow⟩:=hv;have lo:out.length<=7:=by rw[w4.length];exact l4
 refine⟨e,out,rfl,SqL.of g4,λd2 hd2=>?_⟩;refine⟨λi H'=>a0r H4 H'/\∃ys,H' d2=some (.lst ys)/\Ws H' ys ((vs.map Prod.snd).take i),⟨a0d hd2 _,[],a0b,.nil⟩,λi H' _ hP=>SqL.of (hP.1 _ _ g4),λi x H' hx hP=>?_,λH5 hP=>?_⟩
 ·obtain⟨s5,ys,g5,w5⟩:=hP;obtain⟨q0,hq0',t0,u,rfl,ht0,hu⟩:=Paired.right_of w4 i x hx;have li:=(b4u.mp hx).1;refine⟨t0,_,_,rfl,SqT.of (s5 _ _ ht0),?_⟩;unfold a5S a8T;refine iteT ⟨_,rfl,ys,g5,a0l (by rw[w5.length,b4L];omega),a0w hd2 s5,_,a0b,?_⟩;rw[b5e,b4C,hq0'];exact Paired.appendP (Ws.upd g5 w5) (.cons (Wd.upd g5 (Wd.same s5 hu)) .nil)
 obtain⟨s5,ys',g5,w5⟩:=hP;rw[w4.length,<-b4p (f:=Prod.snd),b5z] at w5;refine⟨d2,_,rfl,.inl ⟨SqL.of g5,λt ht=>q t _ _ pl _ ((k3.then (s4.trans s5)).then (a0d ht _)) a0b (w5.same (a0d ht _)) ⟨perm,pw,ow.1,ow.2⟩⟩⟩
end
theorem a6m (ws:List Int) (r:Rw):(fin ws r).1=r.1:=by unfold fin;split<;>rfl
theorem a7j (ws:List Int) (r:Rw):(fin ws r).2.2.1=r.2.1:=by unfold fin;split<;>rfl
theorem a6n (ws:List Int) (r:Rw):(fin ws r).2.2.2.length=r.2.2.length:=by
 unfold fin;split
 ·rename_i h;rw[h]
 ·show(r.2.2.map _).length=_;rw[b4p]
theorem b2p {ws:List Int} {r:Rw} {xs:List Int} (e:r.2.2=srt xs) (b:Bw xs):Bw (fin ws r).2.2.2:=by
 unfold fin;split
 ·intro x hx;cases hx
 ·intro x hx;have hx:x∈r.2.2.map (·-r.2.2.headD 0):=hx;obtain⟨y,hy,rfl⟩:=b4F.mp hx;have by1:0<=y/\y<=B30:=b y ((a0v xs).mem_iff.mp (by rw[<-e];exact hy));have rise:=a1b xs;rw[<-e] at rise;cases hr:r.2.2 with
  | nil=>rw[hr] at hy;cases hy
  | cons a t =>
   rw[hr] at hy rise;have ba:0<=a:=(b a ((a0v xs).mem_iff.mp (by rw[<-e,hr];exact .head _))).1;have ay:a<=y:=by
    rcases b4K.mp hy with rfl|hy
    ·exact b9v _
    ·exact(b5K.mp rise).1 y hy
   show 0<=y-a/\y-a<=B30;omega
theorem a3y {ps ws:List Int} {st:Int} {gs:List Int} {r:Rw}:∀{n:Nat},r∈rws ps ws st gs n↔r∈rw1 ws st gs\/∃i,i<n/\r∈rw2 ps ws st gs (i+2)
 | 0=>by
  show r∈rw1 ws st gs↔_;exact⟨.inl,λh=>h.elim id λ⟨i,hi,_⟩=>absurd hi (by omega)⟩
 | n+1=>by
  show r∈rws ps ws st gs n++rw2 ps ws st gs (n+2)↔_;rw[b4J,a3y];constructor
  ·rintro((h|⟨i,hi,h⟩)|h)
   ·exact .inl h
   ·exact .inr ⟨i,by omega,h⟩
   ·exact .inr ⟨n,by omega,h⟩
  ·rintro(h|⟨i,hi,h⟩)
   ·exact .inl (.inl h)
   ·by_cases e:i=n
    ·subst e;exact .inr h
    ·exact .inl (.inr ⟨i,by omega,h⟩)
theorem a1i {L:Nat} {n st kn nb:Int}:nb∈lawf L n st kn↔(nb=0/\(1<kn\/(kn=1/\st=n-1)))\/∃i:Nat,i<L-1/\nb=2+(i:Int)/\0<kn/\st+kn-1+nb<=n:=by
 unfold lawf;rw[b4J,b9l,b4F];constructor
 ·rintro(h|⟨⟨i,hi,rfl⟩,h⟩)
  ·split at h
   ·rename_i c;unfold b4k at c;simp only[b9w,b5X,b5Z] at c;exact .inl ⟨b4s.mp h,c⟩
   ·cases h
  ·unfold b3I at h;simp only[b5X,b5Z] at h;exact .inr ⟨i,b6Q.mp hi,rfl,h⟩
 ·rintro(⟨rfl,h⟩|⟨i,hi,rfl,h⟩)
  ·left;have c:b4k n st kn=true:=by
    unfold b4k;simp only[b9w,b5X,b5Z];exact h
   rw[if_pos c];exact .head _
  ·right;refine⟨⟨i,b6Q.mpr hi,rfl⟩,?_⟩;unfold b3I;simp only[b5X,b5Z];exact h
structure Iv (n:Nat) (st kn:Int):Prop where
 s0:0<=st
 k0:0<=kn
 sk:st+kn<=n
 e0:kn=0->st=n
theorem Iv.step {L n:Nat} {st kn nb:Int} (h:Iv n st kn) (hm:nb∈lawf L n st kn):Iv n (nx st nb) (kn-1+nb)/\1<=kn/\0<=nb/\nb<=L:=by
 obtain⟨s0,k0,sk,e0⟩:=h;rcases a1i.mp hm with ⟨rfl,c⟩|⟨i,hi,rfl,c1,c2⟩
 ·have e:nx st 0=st+1:=by unfold nx;rw[if_pos rfl]
  rw[e];exact⟨⟨by omega,by omega,by omega,λz=>by omega⟩,by omega,by omega,by omega⟩
 ·have e:nx st (2+(i:Int))=st:=by unfold nx;rw[if_neg (by omega)];omega
  rw[e];exact⟨⟨by omega,by omega,by omega,λz=>by omega⟩,by omega,by omega,by omega⟩
theorem b3R {ps ws:List Int} {st:Int} {gs:List Int} {r:Rw} (l2:2<=ps.length) (h:Iv ws.length st gs.length) (bg:Bw gs) (bp:Bw ps) (hr:r∈rws ps ws st gs (ps.length-1)) :
  r.1∈lawf ps.length ws.length st gs.length/\r.2.1=nx st r.1/\(r.2.2.length:Int)=(gs.length:Int)-1+r.1/\∃xs,r.2.2=srt xs/\Bw xs:=by
 obtain⟨s0,k0,sk,e0⟩:=h;have bt:Bw gs.tail:=λx hx=>bg x (List.mem_of_mem_tail hx);rcases a3y.mp hr with hr|⟨i,hi,hr⟩
 ·unfold rw1 at hr;split at hr
  ·rename_i c;rw[b4s.mp hr];have k1:1<=gs.length:=by omega
   refine⟨a1i.mpr (.inl ⟨rfl,by omega⟩),(by show st+1=nx st 0;unfold nx;rw[if_pos rfl]),?_,gs.tail,rfl,bt⟩;show((srt gs.tail).length:Int)=_;rw[a0J,b7F];show((gs.length-1:Nat):Int)=(gs.length:Int)-1+0;omega
  ·cases hr
 ·unfold rw2 at hr;split at hr
  ·rename_i c;rw[b4s.mp hr];have k1:1<=gs.length:=by
    rcases b8t gs.length with z|z
    ·have:=e0 (by omega);omega
    ·exact z
   refine⟨a1i.mpr (.inr ⟨i,hi,by show((i+2:Nat):Int)=_;omega,by omega,c⟩),?_,?_,_,rfl,λx hx=>?_⟩
   ·show st=nx st ((i+2:Nat):Int);unfold nx;rw[if_neg (by omega)];omega
   ·show((srt (gs.tail++(srt ps).take (i+2))).length:Int)=(gs.length:Int)-1+((i+2:Nat):Int)
    rw[a0J,b4A,b7F,b4L,a0J];omega
   ·rcases b4J.mp hx with z|z
    ·exact bt x z
    ·exact bp x ((a0v ps).mem_iff.mp (b6k z))
  ·cases hr
theorem mv_ex {ps ws:List Int} {st:Int} {gs:List Int} {nb:Int} (h:Iv ws.length st gs.length) (hm:nb∈lawf ps.length ws.length st gs.length):∃r∈rws ps ws st gs (ps.length-1),r.1=nb:=by
 obtain⟨s0,k0,sk,e0⟩:=h;rcases a1i.mp hm with ⟨rfl,c⟩|⟨i,hi,rfl,c1,c2⟩
 ·refine⟨(0,st+1,srt gs.tail),a3y.mpr (.inl ?_),rfl⟩;unfold rw1;rw[if_pos (by omega)];exact .head _
 ·refine⟨(((i+2:Nat):Int),st,srt (gs.tail++(srt ps).take (i+2))),a3y.mpr (.inr ⟨i,hi,?_⟩),by show((i+2:Nat):Int)=_;omega⟩;unfold rw2;rw[if_pos (by omega)];exact .head _
section
variable {P:Program} {w:World} {K:PySem.W.Frag} {mg:Str->Option Value} {base:Heap} {f:Addr} {fd:FuncData}
abbrev NLe:List Str:=["prices","weights","frontier","number","move"]
abbrev PLe:List Str:=["prices","weights","frontier","number"]
noncomputable def spLed (K:PySem.W.Frag):Sp:=λvs H Q _=>∃(p q fr g:Addr) (ps ws gs:List Int) (st nb:Int),vs=[.ref p,.ref q,.ref fr,.int nb]/\Ask K H p q fr g ps ws gs st /\
 (∃m∈mvs ps ws st gs,m.1=nb) /\
 (∀m∈mvs ps ws st gs,m.1=nb->∀(f2 g2:Addr) H',a0r H H'->H' f2=some (.tup [.int m.2.2.1,.ref g2])->TW H' g2 m.2.2.2->Q (.ref f2) H')
theorem scLe:a0t NLe PLe (a0f sLed):=⟨rfl,rfl,rfl,by decide +kernel,rfl,by decide +kernel,by decide +kernel⟩
theorem ok_led (F:Fun K "led_to" "led_to" sLed f fd) (GM:Fns P w K mg base ["prices","weights","frontier"] "moves" (a4H K) 3):a1x P w K mg base CX0 4 f fd PLe (spLed K):=by
 refine F.ok (k:=3) scLe (λvs H Q E h=>?_) (λcdv A outer s H vs Q E hr h=>?_)
 ·obtain⟨p,q,fr,g,ps,ws,gs,st,nb,rfl,_⟩:=h;rfl
 obtain⟨p,q,fr,g,ps,ws,gs,st,nb,rfl,ak,⟨m0,hm0,em0⟩,qQ⟩:=h;refine⟨_,a0e (a1K b5Q rfl (a1Z (a0o GM.ok hr (by rfl) GM.m GM.kp GM.b .nil a0G (a0a (pv 0) (a0a (pv 1) (a0a (pv 2) a0c))))) (a0F (i:=4) scLe.nd rfl (Or.inl rfl))
   (a0i (a0Y (a0s a2x (a0Q a1t (pv 4) a0g (λ_ _=>rfl)) (pv 3) (nomark _)) (a0i (a0u (a0Q a1t (pv 4) a0g (λ_ _=>rfl)))) a0z)))
   (a0i a5B),?_⟩
 refine⟨_,rfl,_,rfl,_,rfl,p,q,fr,g,ps,ws,gs,st,rfl,ak,λl H1 xs s1 hl g1 m1=>?_⟩;refine⟨l,rfl,⟨_,SqL.of g1⟩,?_⟩;refine a2K (xs:=xs) (λi σ H'=>H'=H1/\(∀m∈(mvs ps ws st gs).take i,m.1≠nb)/\∃x4:Option V,σ=[some (.ref p),some (.ref q),some (.ref fr),some (.int nb),x4]) ⟨rfl,λm hm=>(by rw[b8K] at hm;cases hm),_,rfl⟩ (λi σ H' _ hP=>by rw[hP.1];exact SqL.of g1) (λi x σ H2 hx hP=>?_) (λσ H2 hP=>?_)
 ·obtain⟨rfl,hn,x4,rfl⟩:=hP;obtain⟨m,hm,mv⟩:=Paired.right_of m1 i x hx;obtain⟨a,y,z,t,rfl,ea,rfl,rfl,a2,u,v,rfl,e2,rfl,hv⟩:=mv;refine⟨_,rfl,a,_,_,_,rfl,rfl,SqT.of ea,rfl,_,rfl,rfl,_,rfl,?_⟩;refine a2I (λc=>?_) (λc=>?_)
  ·have c1:m.1=nb:=V.int.inj (b4Q c);obtain⟨b,rfl,hb⟩:=Wd.ti hv;exact⟨_,rfl,a,_,_,_,rfl,rfl,SqT.of ea,rfl,qQ m (b4B hm) c1 a2 b H2 s1 e2 hb⟩
  ·have c1:m.1≠nb:=λz=>c (b4W (by rw[z]));refine⟨rfl,λm' hm'=>?_,_,rfl⟩;rw[b5e,hm] at hm';rcases b4J.mp hm' with z|z
   ·exact hn m' z
   ·rw[b4s.mp z];exact c1
 ·obtain⟨rfl,hn,x4,rfl⟩:=hP;rw[m1.length,b5z] at hn;exact hn m0 hm0 em0
end
noncomputable def mv (ps ws:List Int) (st:Int) (gs:List Int) (nb:Int):Mv:=fin ws (nb,nx st nb,srt (gs.tail++(srt ps).take nb.toNat))
noncomputable def spR (ps ws:List Int):List Int->Int->List Int->Int
 | [],_,_=>0
 | r::rs,st,gs=>(mv ps ws st gs r).2.1+spR ps ws rs (mv ps ws st gs r).2.2.1 (mv ps ws st gs r).2.2.2
theorem rw_eq {ps ws:List Int} {st:Int} {gs:List Int} {r:Rw} (hr:r∈rws ps ws st gs (ps.length-1)):r=(r.1,nx st r.1,srt (gs.tail++(srt ps).take r.1.toNat)):=by
 rcases a3y.mp hr with hr|⟨i,hi,hr⟩
 ·unfold rw1 at hr;split at hr
  ·rw[b4s.mp hr];show _=((0:Int),nx st 0,srt (gs.tail++(srt ps).take (0:Int).toNat))
   rw[show(0:Int).toNat=0 from rfl,b8K,b5W];unfold nx;rw[if_pos rfl]
  ·cases hr
 ·unfold rw2 at hr;split at hr
  ·rw[b4s.mp hr];show _=(((i+2:Nat):Int),nx st ((i+2:Nat):Int),srt (gs.tail++(srt ps).take ((i+2:Nat):Int).toNat))
   rw[show((i+2:Nat):Int).toNat=i+2 from rfl];unfold nx;rw[if_neg (by omega),c0i]
  ·cases hr
theorem b2q {ps ws:List Int} {st:Int} {gs:List Int} {m:Mv} (h:m∈mvs ps ws st gs):m=mv ps ws st gs m.1:=by
 obtain⟨r,hr,rfl⟩:=b4F.mp h;rw[a6m];unfold mv;rw[<-rw_eq hr]
theorem mv_eq {ps ws P R:List Int} {st c nb:Int} (pm:P.Perm (c::R)) (le:∀x∈R,c<=x) :
  mv ps ws st (gaps P) nb=(nb,(if R++((srt ps).take nb.toNat).map (c+·)=[] then 0 else ((srt (R++((srt ps).take nb.toNat).map (c+·))).headD 0-c)*wl ws (nx st nb)),(nx st nb,gaps (R++((srt ps).take nb.toNat).map (c+·)))):=by
 unfold mv;rw[a9G pm le];generalize R++((srt ps).take nb.toNat).map (c+·)=N;unfold fin;by_cases e:N=[]
 ·rw[if_pos e,e,a2d.mpr rfl];unfold gaps;rw[a2d.mpr rfl];rfl
 ·have e1:srt N≠[]:=λz=>e (a2d.mp z);rw[if_neg e];cases h:srt N with
  | nil=>exact absurd h e1
  | cons x t =>
   rw[if_neg (by intro z;cases z)];show(nb,(x-c)*_,_,_)=(nb,(x-c)*_,_,_)
   have g:=(a9H (N:=N) (c:=c)).resolve_right e;rw[h] at g;rw[<-g]
structure b0E (ps:List Int) (pm:List Nat):Prop where
 perm:pm.Perm (List.range ps.length)
 pw:(pm.map (kc ps)).Pairwise Lx
theorem lx2 {a b c d:Int} (h:Lx [a,b] [c,d]):a<=c/\(a=c->b<d):=by
 unfold Lx at h;rw[HT.a1e] at h;split at h
 ·rename_i e;rw[HT.a1e] at h;split at h
  ·cases h
  ·exact⟨by omega,λ_=>b4Q h⟩
 ·have:=b4Q h;exact⟨by omega,λz=>by omega⟩
theorem a3z (ps:List Int):(List.range ps.length).map (λa=>ps.getD a 0)=ps:=by
 refine b6g (by simp) λi h1 h2=>?_;simp[b4t,b4q h2]
theorem b0E.prices {ps:List Int} {pm:List Nat} (h:b0E ps pm):pm.map (λa=>ps.getD a 0)=srt ps:=by
 refine a3m ?_ ?_
 ·have:=h.perm.map (λa=>ps.getD a 0);rw[a3z] at this;exact this
 ·have:=h.pw;rw[b5r] at this ⊢;exact this.imp λz=>(lx2 z).1
theorem b0E.nd {ps:List Int} {pm:List Nat} (h:b0E ps pm):pm.Nodup:=h.perm.nodup_iff.mpr b7D
theorem b0E.len {ps:List Int} {pm:List Nat} (h:b0E ps pm):pm.length=ps.length:=by rw[h.perm.length_eq,b6a]
theorem b0E.lt {ps:List Int} {pm:List Nat} (h:b0E ps pm) {m a:Nat} (ha:a∈pm.take m):a<ps.length:=b6Q.mp (h.perm.mem_iff.mp (b6k ha))
theorem PF.open {u:List Int} {ws:List (List Int)} {ls:List Nat} (h:PF (u::ws)) (nd:ls.Nodup):PF (ws++ls.map (wl1 u)):=by
 obtain⟨h1,h2⟩:=b5K.mp h;refine b5v.mpr ⟨h2,?_,λa ha b hb=>?_⟩
 ·rw[b5r];exact b9S (λ{a b} (ne:a≠b)=>a2B.sib (by omega)) nd
 ·obtain⟨k,_,rfl⟩:=b4F.mp hb;exact((h1 a ha).ext (k:Int)).symm
theorem PF.nd {ws:List (List Int)} (h:PF ws):ws.Nodup:=by
 refine b9S (R:=a2B) ?_ h;intro a b ap e;exact ap.1 (by rw[e];exact List.prefix_rfl)
abbrev Kq:=List (Int × List Int)
noncomputable def opn (ps u:List Int) (ls:List Nat):Kq:=ls.map λa=>(pc ps (wl1 u a),wl1 u a)
structure Rn (ps ws rs rest:List Int) (st:Int) (gs:List Int) (kq:Kq) (us:List (List Int)):Prop where
 pr:∀z∈kq,z.1=pc ps z.2
 gp:gs=gaps (kq.map Prod.fst)
 ln:(us.length:Int)=st
 sp:spR ps ws rs 0 [0]=due ws (us.map (pc ps))+(srt (kq.map Prod.fst)).headD 0*left ws us.length+spR ps ws rest st gs
 up:(us.map (pc ps)).Pairwise (·<=·)
 lo:∀z∈kq,∀u∈us,pc ps u<=z.1
 pf:PF (us++kq.map Prod.snd)
theorem srt1 (x:Int):srt [x]=[x]:=(a3m (b8J _) (b5c _ _)).symm
theorem Rn.start (ps ws rs:List Int):Rn ps ws rs rs 0 [0] [(0,[])] [] where
 pr:=λz hz=>by rw[b4s.mp hz];rfl
 gp:=by
  show _=gaps [0];unfold gaps;rw[srt1];rfl
 ln:=rfl
 sp:=by
  show _=due ws []+(srt [0]).headD 0*_+_;rw[srt1,b3y];show _=0+0*_+_;omega
 up:=.nil
 lo:=λz _ u hu=>by cases hu
 pf:=b5c _ _
theorem b2r (ps u:List Int) (a:Nat):pc ps (wl1 u a)=pc ps u+ps.getD a 0:=by
 unfold pc wl1;rw[b4D,b7V];show _+(ps.getD ((a:Nat):Int).toNat 0+0)=_;rw[c0i];rfl
theorem lo_of {c:Int} {u:List Int} {kt:Kq} (h:((c,u)::kt).Pairwise LxP):∀x∈kt.map Prod.fst,c<=x:=λx hx=>by
 obtain⟨z,hz,rfl⟩:=b4F.mp hx;have:=(b5K.mp h).1 z hz;unfold LxP a3H at this;split at this
 ·rename_i e;exact b8p e
 ·exact Int.le_of_lt (b4Q this)
theorem Rn.step {ps ws rs rest:List Int} {st nb c:Int} {gs u:List Int} {kq kt:Kq} {us:List (List Int)} {pm:List Nat} (bp:Bw ps) (h:Rn ps ws rs (nb::rest) st gs kq us) (iv:Iv ws.length st gs.length) (hm:nb∈lawf ps.length ws.length st gs.length) (kl:kq.length=gs.length) (perm:((c,u)::kt).Perm kq) (pw:((c,u)::kt).Pairwise LxP) (ic:b0E ps pm) :
  Rn ps ws rs rest (mv ps ws st gs nb).2.2.1 (mv ps ws st gs nb).2.2.2 (kt++opn ps u (pm.take nb.toNat)) (if nb=0 then us++[u] else us):=by
 have lo1:=lo_of pw;have pfm:(kq.map Prod.fst).Perm (c::kt.map Prod.fst):=(perm.map Prod.fst).symm;have psm:(kq.map Prod.snd).Perm (u::kt.map Prod.snd):=(perm.map Prod.snd).symm;have ec:c=pc ps u:=h.pr (c,u) (perm.mem_iff.mp (.head _));have hN:(kt++opn ps u (pm.take nb.toNat)).map Prod.fst=kt.map Prod.fst++((srt ps).take nb.toNat).map (c+·):=by
  rw[b4D,<-ic.prices,<-b9h,b5A];unfold opn;rw[b5A];refine b6W _ (b5V λa _=>?_);show pc ps (wl1 u a)=c+ps.getD a 0;rw[b2r,ec]
 have hS:(kt++opn ps u (pm.take nb.toNat)).map Prod.snd=kt.map Prod.snd++(pm.take nb.toNat).map (wl1 u):=by
  rw[b4D];unfold opn;rw[b5A];rfl
 have e:=mv_eq (ps:=ps) (ws:=ws) (st:=st) (nb:=nb) pfm lo1;rw[<-h.gp,<-hN] at e;have hd0:(srt (kq.map Prod.fst)).headD 0=c:=by rw[a4y pfm lo1];rfl
 have sp:=h.sp;rw[hd0] at sp;have sp:spR ps ws rs 0 [0]=due ws (us.map (pc ps))+c*left ws us.length+((mv ps ws st gs nb).2.1+spR ps ws rest (mv ps ws st gs nb).2.2.1 (mv ps ws st gs nb).2.2.2):=sp;rw[e] at sp ⊢;dsimp only at sp ⊢;generalize hkq:kt++opn ps u (pm.take nb.toNat)=kq' at *
 have hpr:∀z∈kq',z.1=pc ps z.2:=λz hz=>by
  rw[<-hkq] at hz;rcases b4J.mp hz with hz|hz
  ·exact h.pr z (perm.mem_iff.mp (.tail _ hz))
  ·obtain⟨a,_,rfl⟩:=b4F.mp hz;rfl
 have hcl:∀z∈kq',c<=z.1:=λz hz=>by
  rw[<-hkq] at hz;rcases b4J.mp hz with hz|hz
  ·exact lo1 _ (b9u hz)
  ·obtain⟨a,ha,rfl⟩:=b4F.mp hz;show c<=pc ps (wl1 u a);rw[b2r,<-ec];have la:=ic.lt ha;have:ps.getD a 0∈ps:=by rw[b4t,b4q la];exact b6p la
   have:=(bp _ this).1;omega
 have huc:∀v∈us,pc ps v<=c:=λv hv=>h.lo (c,u) (perm.mem_iff.mp (.head _)) v hv;have ln:=h.ln;have len1:((us.map (pc ps)).length:Int)=st:=by rw[b4p];exact ln
 have w1:∀k:Nat,wl ws (k:Int)=left ws k:=λk=>rfl;rcases a1i.mp hm with ⟨rfl,cc⟩|⟨i,hi,e2,c1,c2⟩
 ·have hk0:kq'=kt:=by
   rw[<-hkq];show kt++opn ps u (pm.take 0)=kt;unfold opn;simp
  have n0:nx st 0=st+1:=by unfold nx;rw[if_pos rfl]
  rw[n0] at sp ⊢;rw[if_pos rfl];have kn1:kt.length+1=gs.length:=by rw[<-kl,<-perm.length_eq];rfl
  have lw:us.length<ws.length:=by have:=iv.sk;omega
  have hsp:Spm ws (due ws (us.map (pc ps))+c*left ws us.length) c (us.map (pc ps)):=by unfold Spm;rw[b4p]
  have elen:((us++[u]).length:Int)=st+1:=by rw[b4A];show((us.length+1:Nat):Int)=_;omega
  have emap:(us++[u]).map (pc ps)=us.map (pc ps)++[c]:=by rw[b4D,ec];rfl
  refine⟨hpr,rfl,elen,?_,?_,?_,?_⟩
  ·rw[sp,emap];have es:st+1=((us.length+1:Nat):Int):=by omega
   have el:(us++[u]).length=us.length+1:=by rw[b4A];rfl
   by_cases z:kq'.map Prod.fst=[]
   ·rw[if_pos z];have z1:kt=[]:=by rw[<-hk0];exact b7y.mp z
    have g1:gs.length=1:=by rw[<-kn1,z1];rfl
    have l1:us.length+1=ws.length:=by omega
    have:=hsp.fin (by rw[b4p];exact l1);rw[this,z,a2d.mpr rfl,el];show _=_+0*_+_;omega
   ·rw[if_neg z];have:=hsp.set (r:=(srt (kq'.map Prod.fst)).headD 0-c) (by rw[b4p];exact lw);unfold Spm at this;rw[b4A,b4p] at this;rw[el,show wl ws (st+1)=left ws (us.length+1) by rw[es];rfl];rw[show c+((srt (kq'.map Prod.fst)).headD 0-c)=(srt (kq'.map Prod.fst)).headD 0 by omega] at this;have this:due ws (us.map (pc ps))+c*left ws us.length+((srt (kq'.map Prod.fst)).headD 0-c)*left ws (us.length+1)=due ws (us.map (pc ps)++[c])+(srt (kq'.map Prod.fst)).headD 0*left ws (us.length+1):=this;rw[<-this];omega
  ·rw[emap];refine b5v.mpr ⟨h.up,b5c _ _,λa ha b hb=>?_⟩;obtain⟨v,hv,rfl⟩:=b4F.mp ha;rw[b4s.mp hb];exact huc v hv
  ·intro z hz v hv;rcases b4J.mp hv with hv|hv
   ·exact b8X (huc v hv) (hcl z hz)
   ·rw[b4s.mp hv,<-ec];exact hcl z hz
  ·rw[hk0,b5d];exact PF.perm h.pf (b6y us psm.symm)
 ·have n0:nx st nb=st:=by unfold nx;rw[if_neg (by omega),c0i]
  rw[n0] at sp ⊢;rw[if_neg (by omega)];have hm2:nb.toNat=i+2:=by omega
  have mL:nb.toNat<=ps.length:=by omega
  have hsp:Spm ws (due ws (us.map (pc ps))+c*left ws us.length) c (us.map (pc ps)):=by unfold Spm;rw[b4p]
  have P1:(us++kq.map Prod.snd).Perm (u::(us++kt.map Prod.snd)):=(b6y us psm).trans b5H;have pf1:PF (u::(us++kt.map Prod.snd)):=PF.perm h.pf P1.symm;have ndt:(pm.take nb.toNat).Nodup:=ic.nd.sublist (b9L _ _);refine⟨hpr,rfl,ln,?_,h.up,λz hz v hv=>b8X (huc v hv) (hcl z hz),?_⟩
  ·have z:kq'.map Prod.fst≠[]:=λz=>by
    have z1:=b7y.mp z;rw[<-hkq] at z1;have:=b6W List.length z1;unfold opn at this;rw[b4A,b4p,b4L,ic.len,b7r] at this;omega
   rw[sp,if_neg z];have:=hsp.opn (r:=(srt (kq'.map Prod.fst)).headD 0-c);unfold Spm at this;rw[b4p,show c+((srt (kq'.map Prod.fst)).headD 0-c)=(srt (kq'.map Prod.fst)).headD 0 by omega] at this;rw[<-this,show wl ws st=left ws us.length by rw[<-ln];rfl];omega
  ·rw[hS,<-b5d];exact PF.open pf1 ndt
theorem b0c {α β:Type} {qs:List (α × β)} (h:(qs.map Prod.snd).Nodup):qs.Nodup:=by
 rw[List.Nodup,b5r] at h;exact h.imp λne e=>ne (by rw[e])
section
variable {S:Tbs} {H H':Hp}
theorem b0d {H:Hp} {d T:Addr} {ls ls':List V} {lpos:Pos} {q:Str} (hd:H d=some (.lst ls)) (x:a3p H T lpos q):a3p (upd H d (.lst ls')) T lpos q:=by
 rcases x with e|⟨c,e,ec⟩
 ·exact .inl (by rw[a0m (a1z e hd (by intro z;cases z))];exact e)
 ·exact .inr ⟨c,by rw[a0m (a1z e hd (by intro z;cases z))];exact e,by rw[a0m (a1z ec hd (by intro z;cases z))];exact ec⟩
theorem Kp.upd {d:Addr} {ls ls':List V} (hn:H d=none) (hd:H' d=some (.lst ls)) (k:Kp S H H'):Kp S H (L2.upd H' d (.lst ls')):=⟨λa o n e=>by rw[a0m (a0D e hn)];exact k.sm a o n e,λu hu=>b0d hd (k.tb u hu)⟩
theorem Kp.tk (k:Kp S H H'):TK H H':=λ_ _ e=>k.tup e
theorem wd_tk {x:V} {u:List Int} (k:TK H H') (h:Wd H x u):Wd H' x u:=by
 obtain⟨a,rfl,ha⟩:=Wd.ti h;exact Wd.of (k _ _ ha)
theorem b1B {xs:List V} {us:List (List Int)} (k:TK H H') (h:Ws H xs us):Ws H' xs us:=Paired.mapP h λ_ _ z=>wd_tk k z
theorem rpw_tk {x:V} {q:Int × List Int} (k:TK H H') (h:RPw H x q):RPw H' x q:=by
 obtain⟨t,u,rfl,ht,hu⟩:=h;exact⟨t,u,rfl,k _ _ ht,wd_tk k hu⟩
theorem a6o {xs:List V} {qs:List (Int × List Int)} (k:TK H H') (h:Paired (RPw H) xs qs):Paired (RPw H') xs qs:=Paired.mapP h λ_ _ z=>rpw_tk k z
end
section
variable {P:Program} {w:World} {K:PySem.W.Frag} {mg:Str->Option Value} {base:Heap} {f:Addr} {fd:FuncData}
structure Fst (K:PySem.W.Frag) (mg:Str->Option Value) (aF bF:Addr):Prop where
 m:mg "FIRST"=some (.ref aF)
 a:∀H,SqT K H aF [.int 0,.ref bF]
 b:∀H,SqT K H bF [.int 0]
abbrev NCo:List Str:=["prices","weights","row","frontier","knots","words","number","word"]
abbrev PCo:List Str:=["prices","weights","row"]
structure Cd (ps ws rs:List Int) (us:List (List Int)):Prop where
 ln:us.length=ws.length
 sp:spR ps ws rs 0 [0]=due ws (us.map (pc ps))
 up:(us.map (pc ps)).Pairwise (·<=·)
 pf:PF us
 lt:∀u∈us,Lt ps.length u/\u.length<=60
noncomputable def b3S (S:Tbs):Sp:=λvs H Q _=>∃(p q a:Addr) (ps ws rs:List Int),vs=[.ref p,.ref q,.ref a]/\TW H p ps/\TW H q ws/\H a=some (.lst (rs.map V.int))/\rs.length<=60/\2<=ps.length/\ps.length<=6/\1<=ws.length/\(ws.length:Int)<=(if ps.length=2 then 7 else 6)/\Bw ps/\Bw ws/\Tb S H /\
 leads ps.length ws.length rs 0 1=true/\∀(t:Addr) zs us pl cw H',Kp S H H'->H' t=some (.tup zs)->Ws H' zs cw->Own ws us pl cw->Cd ps ws rs us->Q (.ref t) H'
theorem b1C:a0t NCo PCo (a0f sCom):=⟨rfl,rfl,rfl,by decide +kernel,rfl,by decide +kernel,by decide +kernel⟩
theorem b1D {L:Nat} {n:Int} {r:Int} {rs:List Int} {st kn:Int} (h:r∉lawf L n st kn):leads L n (r::rs) st kn=false:=by
 show(if r∈lawf L n st kn then _ else _)=_;rw[if_neg h]
theorem b0e {L:Nat} {n:Int} {r:Int} {rs:List Int} {st kn:Int} (h:r∈lawf L n st kn):leads L n (r::rs) st kn=leads L n rs (nx st r) (kn-1+r):=by
 show(if r∈lawf L n st kn then _ else _)=_;rw[if_pos h]
theorem ok_com {S:Tbs} {aF bF:Addr} (F:Fun K "code_of_moves" "code_of_moves" sCom f fd) (FS:Fst K mg aF bF) (GR:Fns P w K mg base ["prices","weights"] "refuse_many" a4F 5) (GL:Fns P w K mg base PLe "led_to" (spLed K) 5) (GO:Fns P w K mg base POp "opened" (spOp S) 5) (GW:Fns P w K mg base POw "in_own_order" (spOwn S) 5) (ml:mg "len"=none) (mS:mg "sorted"=none):a1x P w K mg base CX0 6 f fd PCo (b3S S):=by
 refine F.ok (k:=5) b1C (λvs H Q E h=>?_) (λcdv A outer s H vs Q E hr h=>?_)
 ·obtain⟨p,q,a,ps,ws,rs,rfl,_⟩:=h;rfl
 obtain⟨p,q,a,ps,ws,rs,rfl,hp,hq,ha,l60,p2,p6,w1,w7,bp,bw,tab,el0,qQ⟩:=h;have w10:ws.length<=7:=by split at w7<;>omega
 refine⟨_,a0e (a1r (a0o GR.ok hr (by rfl) GR.m GR.kp GR.b .nil a0G (a0a (pv 0) (a0a (pv 1) a0c))))
   (a0e (a0q (i:=3) b1C.nd rfl (Or.inl rfl) (a5H (v:=.ref aF) (by rfl) FS.m rfl))
   (a0e (a0q (i:=4) b1C.nd rfl (Or.inl rfl) (a1N (a0a (a1s (a0a (a0g) (a0a (a1s (a0c)) (a0c)))) (a0c))))
   (a0e (a0q (i:=5) b1C.nd rfl (Or.inl rfl) (a1N a0c))
   (a0e (a1K b5Q rfl (a1Z (pv 2)) (a0F (i:=6) b1C.nd rfl (Or.inl rfl))
    (a0e (a0q (i:=3) b1C.nd rfl (Or.inl rfl) (a0o GL.ok hr (by rfl) GL.m GL.kp GL.b .nil a0G (a0a (pv 0) (a0a (pv 1) (a0a (pv 3) (a0a (pv 6) a0c))))))
    (a0e (a0q (i:=4) b1C.nd rfl (Or.inl rfl) (a0j (a7R rfl (hu4 hr)) (by rfl) mS a0U (a0a (pv 4) a0c)))
    (a0e (a0q (i:=7) b1C.nd rfl (Or.inl rfl) (a0Q a1t (a0Q a3d (pv 4) a0g (λ_ _=>rfl)) a0g (λ_ _=>rfl)))
    (a0e (a5i (a0Y (a0s a2x (pv 6) a0g (nomark _)) (a0i (a1r (a3K b5x b5O b5P a0Z (pv 5) (a0a (pv 7) a0c)))) a0z))
    (a0i (a0q (i:=4) b1C.nd rfl (Or.inl rfl) (a0p a8N (a1n a2A (pv 4) (a1A a0g) a1O) (a0o GO.ok hr (by rfl) GO.m GO.kp GO.b .nil a0G (a0a (pv 0) (a0a (pv 7) (a0a (pv 6) a0c)))))))))))
   )
   (a0e (a0Y (a0s a4U (a0j a0h (by rfl) ml b4P (a0a (pv 5) a0c)) (a0j a0h (by rfl) ml b4P (a0a (pv 1) a0c)) (nomark _)) (a0i a5B) a0z)
   (a0i (a0u (a0o GW.ok hr (by rfl) GW.m GW.kp GW.b .nil a0G (a0a (pv 1) (a0a (pv 5) a0c)))))))))),?_⟩
 refine⟨_,rfl,_,rfl,p,q,ps,ws,rfl,hp,hq,w7,?_⟩;refine⟨(by show 0<=sizeLine;decide),λa1 ha1=>?_⟩;have s1:=a0d ha1 (.tup []);have g1:upd H a1 (.tup []) a1=some (.tup []):=a0b;generalize upd H a1 (.tup [])=H1 at s1 g1 ⊢;refine⟨(by show 2<=sizeLine;decide),λa2 ha2=>?_⟩;have s2:=a0d ha2 (.tup [.int 0,.ref a1]);have g2:upd H1 a2 (.tup [.int 0,.ref a1]) a2=some (.tup [.int 0,.ref a1]):=a0b;generalize upd H1 a2 (.tup [.int 0,.ref a1])=H2 at s2 g2 ⊢;refine⟨(by show 1<=sizeLine;decide),λkA0 ha3=>?_⟩;have s3:=a0d ha3 (.lst [.ref a2]);have g3:upd H2 kA0 (.lst [.ref a2]) kA0=some (.lst [.ref a2]):=a0b;generalize upd H2 kA0 (.lst [.ref a2])=H3 at s3 g3 ⊢;refine⟨(by show 0<=sizeLine;decide),λwA ha4=>?_⟩;have s4:=a0d ha4 (.lst []);have g4:upd H3 wA (.lst []) wA=some (.lst []):=a0b;have s14:=((s1.trans s2).trans s3)
 have hwn:H wA=none:=s14.free ha4;generalize upd H3 wA (.lst [])=H4 at s4 g4 ⊢;have s0:a0r H H4:=s14.trans s4;have k0:Kp S H H4:=.of tab s0;refine⟨_,rfl,a,rfl,⟨_,SqL.of (s0 _ _ ha)⟩,?_⟩;refine a2K (xs:=rs.map V.int) (λi σ H'=>Kp S H H'/\∃(st:Int) (gs:List Int) (kq:List (Int × List Int)) (us:List (List Int)) (fr g kA:Addr) (xs ys:List V) (x6 x7:Option V),
   leads ps.length ws.length (rs.drop i) st gs.length=true/\Iv ws.length st gs.length/\Bw gs/\SqT K H' fr [.int st,.ref g]/\Gp K H' g gs/\H' kA=some (.lst xs)/\Paired (RPw H') xs kq/\kq.length=gs.length/\Rn ps ws rs (rs.drop i) st gs kq us/\(∀z∈kq,Lt ps.length z.2/\z.2.length<=i)/\H' wA=some (.lst ys)/\Ws H' ys us/\(∀v∈us,Lt ps.length v/\v.length<=i) /\
   σ=[some (.ref p),some (.ref q),some (.ref a),some (.ref fr),some (.ref kA),some (.ref wA),x6,x7])
  ⟨k0,0,[0],[(0,[])],[],aF,bF,kA0,[.ref a2],[],_,_,el0,⟨by omega,by show(0:Int)<=1;omega,by show(0:Int)+1<=ws.length;omega,λz=>by cases z⟩,λx hx=>(by rw[b4s.mp hx];unfold B30;omega),FS.a H4,.inr ⟨FS.b H4,by simp⟩,s4 _ _ g3,.cons ⟨a2,.ref a1,rfl,s4 _ _ (s3 _ _ g2),Wd.of (w:=[]) (s4 _ _ (s3 _ _ (s2 _ _ g1)))⟩ .nil,rfl,Rn.start ps ws rs,λz hz=>(by rw[b4s.mp hz];exact⟨λy hy=>(by cases hy),b4z _⟩),g4,.nil,λv hv=>(by cases hv),rfl⟩
  (λi σ H' _ hP=>SqL.of (hP.1.lst ha)) (λi x σ H5 hx hP=>?_) (λσ H5 hP=>?_)
 ·obtain⟨k5,st,gs,kq,us,fr,g,kA,xs,ys,x6,x7,el,iv,bg,hfr,hg,hkA,hkq,lkq,rn,wk,hwA,hus,wu,rfl⟩:=hP;have pf:PF (kq.map Prod.snd):=(b5v.mp rn.pf).2.1;have lus:=rn.ln;have il:=(b4u.mp hx).1;rw[b4p] at il;rw[b4C] at hx;obtain⟨nb,hnb,rfl⟩:=b5q.mp hx;have ed:rs.drop i=nb::rs.drop (i+1):=by
   obtain⟨hi,rfl⟩:=b4u.mp hnb;exact b6R hi
  rw[ed] at el rn;have hin:nb∈lawf ps.length ws.length st gs.length:=Classical.byContradiction λz=>by rw[b1D z] at el;cases el
  have hs1:=iv.sk;have hs0:=iv.s0;have ak:Ask K H5 p q fr g ps ws gs st:=⟨k5.tup hp,k5.tup hq,hfr,hg,p2,p6,w7,iv.s0,by omega,λz=>by omega,by omega,bw,bp,λx hx=>⟨(bg x hx).1,by have:=(bg x hx).2;unfold B30 at *;omega⟩⟩
  refine⟨_,rfl,_,rfl,_,rfl,_,rfl,p,q,fr,g,ps,ws,gs,st,nb,rfl,ak,?_,λm hm em f2 g2' H6 s6 hf6 hg6=>?_⟩
  ·obtain⟨r,hr',er⟩:=mv_ex iv hin;exact⟨fin ws r,b9u hr',by rw[a6m,er]⟩
  have emv:=b2q hm;rw[em] at emv;obtain⟨r,hr',rfl⟩:=b4F.mp hm;rw[a6m] at em;obtain⟨_,e1,e2,xs2,e3,b3⟩:=b3R p2 iv bg bp hr';rw[em] at e1 e2;obtain⟨iv2,kn1,nb0,nbL⟩:=iv.step hin;rw[a7j,e1] at hf6;have k6:=k5.then s6;have lg2:((fin ws r).2.2.2.length:Int)=(gs.length:Int)-1+nb:=by rw[a6n];exact e2
  have bg2:Bw (fin ws r).2.2.2:=b2p e3 b3;have est:(mv ps ws st gs nb).2.2.1=nx st nb:=by rw[<-emv,a7j,e1]
  have egs:(mv ps ws st gs nb).2.2.2=(fin ws r).2.2.2:=by rw[<-emv]
  generalize (fin ws r).2.2.2=gs2 at hg6 lg2 bg2 egs;have hkq6:=a6o (TK.of s6) hkq;refine⟨_,rfl,kA,xs,kq,rfl,s6 _ _ hkA,hkq6,by omega,b0c (PF.nd pf),λkB H7 out kq2 s7 hn7 g7 w7' perm pw=>?_⟩;have lk2:kq2.length=gs.length:=by rw[perm.length_eq,lkq]
  have pf2:PF (kq2.map Prod.snd):=PF.perm pf (perm.map _);have wk2:∀z∈kq2,Lt ps.length z.2/\z.2.length<=i:=λz hz=>wk z (perm.mem_iff.mp hz);cases kq2 with
  | nil=>rw[b7r] at lk2;omega
  | cons cu kt =>
  obtain⟨c,u⟩:=cu;cases w7' with
  | cons h0 hT =>
  rename_i x0 xt;obtain⟨t,v,rfl,ht,hv⟩:=h0;obtain⟨wd,rfl,hwd⟩:=Wd.ti hv;have k7:=k6.then s7;have hwA7:=s7 _ _ (s6 _ _ hwA);have ne1:kB≠wA:=λz=>by rw[z,s6 _ _ hwA] at hn7;cases hn7
  refine⟨_,rfl,kB,_,_,_,rfl,rfl,SqL.of g7,(a6G (i:=0) rfl:atI (V.ref t::xt) 0=some (V.ref t)),t,_,_,_,rfl,rfl,SqT.of ht,(rfl:atI [V.int c,.ref wd] 1=some (V.ref wd)),?_⟩;refine⟨λσ' H8=>Kp S H H8/\TK H7 H8/\H8 kB=some (.lst (.ref t::xt))/\(∃ys',H8 wA=some (.lst ys')/\Ws H8 ys' (if nb=0 then us++[u] else us))/\σ'=[some (.ref p),some (.ref q),some (.ref a),some (.ref f2),some (.ref kB),some (.ref wA),some (.int nb),some (.ref wd)],?_,?_⟩
  ·refine⟨_,rfl,rfl,_,rfl,?_⟩;refine a2I (λz=>?_) (λz=>?_)
   ·have z1:nb=0:=V.int.inj (b4Q z);refine⟨_,rfl,.inl ⟨rfl,_,SqL.of hwA7⟩,_,rfl,wA,_,_,rfl,rfl,hwA7,a0l ?_,k7.upd hwn hwA7,TK.upd hwA7,by rw[a0m ne1];exact g7,⟨_,a0b,?_⟩,rfl⟩
    ·have:=hus.length;omega
    ·rw[if_pos z1];exact Paired.appendP (Ws.upd hwA7 (b1B ((TK.of s6).trans (TK.of s7)) hus)) (.cons (Wd.upd hwA7 (Wd.of hwd)) .nil)
   ·have z1:nb≠0:=λy=>z (b4W (by rw[y]));refine⟨k7,TK.of (a0r.refl _),g7,⟨ys,hwA7,?_⟩,rfl⟩;rw[if_neg z1];exact b1B ((TK.of s6).trans (TK.of s7)) hus
  rintro σ' H8 ⟨k8,t8,g8,⟨ys',hwA8,hus8⟩,rfl⟩;refine⟨_,rfl,_,rfl,kB,_,rfl,SqL.of g8,λe he=>?_⟩;have ec:a3b (V.ref t::xt) (some 1) none=xt:=a4h (V.ref t::xt) 1;rw[ec];have s9:=a0d he (.lst xt);have g9:upd H8 e (.lst xt) e=some (.lst xt):=a0b;generalize upd H8 e (.lst xt)=H9 at s9 g9 ⊢;have k9:=k8.then s9;have t79:TK H7 H9:=t8.trans (TK.of s9);obtain⟨m,rfl⟩:∃m:Nat,nb=m:=⟨nb.toNat,by omega⟩
  have wu0:=wk2 (c,u) (.head _);refine⟨_,rfl,_,rfl,_,rfl,p,wd,ps,u,m,rfl,k9.tup hp,t79 _ _ hwd,p6,by omega,wu0.1,by have:=wu0.2;show u.length<=100;have:u.length<=i:=wu0.2;omega,k9.tb,λl pm zs HA kA' gA wA' pmP pmW=>?_⟩;have ic:b0E ps pm:=⟨pmP,pmW⟩
  have lm:(pm.take m).length=m:=by rw[b4L,ic.len];omega
  have rn2:=rn.step bp iv hin lkq perm pw ic;have tA:TK H7 HA:=t79.trans kA'.tk;have lz:zs.length=m:=by rw[wA'.length,b4p,lm]
  have lt':xt.length=kt.length:=hT.length;refine⟨e,l,_,_,rfl,rfl,kA'.lst g9,gA,?_,λkC hC=>?_⟩
  ·rw[lz,lt'];have:kt.length+1=gs.length:=lk2;exact b6K (a0l (by omega))
  have sC:=a0d hC (.lst (xt++zs));have kC':=(k9.trans kA').then sC;have tC:TK H7 (upd HA kC (.lst (xt++zs))):=tA.trans (TK.of sC);refine⟨kC',nx st (m:Int),gs2,kt++opn ps u (pm.take m),_,f2,g2',kC,xt++zs,ys',_,_,?_,?_,bg2,SqT.of (tC _ _ (s7 _ _ hf6)),.inl (tC _ _ (s7 _ _ hg6)),a0b,?_,?_,?_,λz hz=>?_,sC _ _ (kA'.lst (s9 _ _ hwA8)),b1B (((TK.of s9).trans kA'.tk).trans (TK.of sC)) hus8,λv hv=>?_,rfl⟩
  ·rw[b0e hin] at el;rw[lg2];exact el
  ·rw[lg2];exact iv2
  ·exact Paired.appendP (a6o tC hT) (a6o (TK.of sC) wA')
  ·unfold opn;rw[b4A,b4p,lm];have:kt.length+1=gs.length:=lk2;omega
  ·rw[est,egs] at rn2;exact rn2
  ·rcases b4J.mp hz with z1|z1
   ·have:=wk2 z (.tail _ z1);exact⟨this.1,by omega⟩
   ·obtain⟨b,hb,rfl⟩:=b4F.mp z1;refine⟨λy hy=>?_,?_⟩
    ·rcases b4J.mp (show y∈u++[(b:Int)] from hy) with hy|hy
     ·exact wu0.1 y hy
     ·have:=ic.lt hb;rw[b4s.mp hy];omega
    ·show(u++[(b:Int)]).length<=i+1;rw[b4A];have:u.length<=i:=wu0.2;show u.length+1<=i+1;omega
  ·by_cases z0:(m:Int)=0
   ·rw[if_pos z0] at hv;rcases b4J.mp hv with hv|hv
    ·exact⟨(wu v hv).1,by have:=(wu v hv).2;omega⟩
    ·rw[b4s.mp hv];exact⟨wu0.1,by have:u.length<=i:=wu0.2;omega⟩
   ·rw[if_neg z0] at hv;exact⟨(wu v hv).1,by have:=(wu v hv).2;omega⟩
 ·obtain⟨k5,st,gs,kq,us,fr,g,kA,xs,ys,x6,x7,el,iv,bg,hfr,hg,hkA,hkq,lkq,rn,wk,hwA,hus,wu,rfl⟩:=hP;rw[b4p] at el rn wu;rw[c0b] at el rn;have el:(gs.length:Int)=0:=b4Q el;have ly:ys.length=us.length:=hus.length;have lus:=rn.ln;obtain⟨s0',k0',sk,e0⟩:=iv;have est:=e0 el;have g0:gs=[]:=b5C.mp (by omega);have q0:kq=[]:=b5C.mp (by omega);have lw:us.length=ws.length:=by omega
  subst q0;refine⟨_,rfl,wA,_,rfl,.inl (SqL.of hwA),_,rfl,q,_,rfl,.inr (SqT.of (k5.tup hq)),_,_,rfl,rfl,_,rfl,?_⟩;rw[b4p,ly];rw[b5s (by omega)];refine a3P ⟨_,rfl,_,rfl,q,wA,ws,ys,us,rfl,k5.tup hq,hwA,hus,lw,w10,k5.tb,λt zs H6 pl cw k6 g6 w6 ow=>qQ t zs us pl cw H6 (k5.trans k6) g6 w6 ow ⟨lw,?_,rn.up,(b5v.mp rn.pf).1,λu hu=>⟨(wu u hu).1,by have:=(wu u hu).2;omega⟩⟩⟩
  ·rw[rn.sp];show _+(srt []).headD 0*_+0=_;rw[a2d.mpr rfl];show _+0*_+0=_;omega
end
abbrev Fr:=Int × List Int
noncomputable def nxt (ps ws:List Int) (k:Fr):List Mv:=mvs ps ws k.1 k.2
structure Wide (ps ws:List Int):Prop where
 p2:2<=ps.length
 p6:ps.length<=6
 w1:1<=ws.length
 w7:(ws.length:Int)<=(if ps.length=2 then 7 else 6)
 bp:Bw ps
 bw:Bw ws
structure a3A (ws:List Int) (k:Fr):Prop where
 iv:Iv ws.length k.1 k.2.length
 bd:Bw k.2
inductive Rch (ps ws:List Int):Fr->Prop
 | one:Rch ps ws (0,[0])
 | step {k:Fr} {m:Mv}:Rch ps ws k->m∈nxt ps ws k->Rch ps ws m.2.2
theorem a1V {ps ws:List Int} (W:Wide ps ws) {k:Fr} (h:a3A ws k) {m:Mv} (hm:m∈nxt ps ws k) :
  a3A ws m.2.2/\m.1∈lawf ps.length ws.length k.1 k.2.length/\m.2.2.1=nx k.1 m.1/\(m.2.2.2.length:Int)=(k.2.length:Int)-1+m.1:=by
 obtain⟨r,hr,rfl⟩:=b4F.mp hm;obtain⟨h1,h2,h3,xs,h4,h5⟩:=b3R W.p2 h.iv h.bd W.bp hr;have st:=(h.iv.step h1).1;refine⟨⟨?_,b2p h4 h5⟩,by rw[a6m];exact h1,by rw[a7j,a6m];exact h2,by rw[a6n,a6m];exact h3⟩;rw[a7j,a6n,h2,h3];exact st
theorem a2U {ws:List Int} (h:1<=ws.length):a3A ws (0,[0]):=⟨⟨by decide,by decide,by show(0:Int)+1<=_;omega,λz=>by exact absurd z (by decide)⟩,λx hx=>by
 rw[b4s.mp hx];exact⟨by decide,by unfold B30;decide⟩⟩
theorem Rch.ok {ps ws:List Int} (W:Wide ps ws) {k:Fr} (h:Rch ps ws k):a3A ws k:=by
 induction h with
 | one=>exact a2U W.w1
 | step _ hm ih=>exact(a1V W ih hm).1
noncomputable def rk (k:Fr):Int:=2*k.1+(k.2.length:Int)
theorem a2t {ps ws:List Int} (W:Wide ps ws) {k:Fr} (h:a3A ws k) {m:Mv} (hm:m∈nxt ps ws k):rk k<rk m.2.2/\(k.1<m.2.2.1\/(k.1=m.2.2.1/\k.2.length<m.2.2.2.length)):=by
 obtain⟨_,h1,h2,h3⟩:=a1V W h hm;unfold rk;rcases a1i.mp h1 with ⟨e,c⟩|⟨i,hi,e,c1,c2⟩
 ·rw[e] at h2 h3;have:nx k.1 0=k.1+1:=by unfold nx;rw[if_pos rfl]
  rw[this] at h2;omega
 ·rw[e] at h2 h3;have:nx k.1 (2+(i:Int))=k.1:=by unfold nx;rw[if_neg (by omega)];omega
  rw[this] at h2;omega
theorem a3A.rk {ws:List Int} {k:Fr} (h:a3A ws k):0<=rk k/\rk k<=2*(ws.length:Int):=by
 obtain⟨⟨a,b,c,d⟩,_⟩:=h;unfold K76.rk;omega
theorem b2s {ps ws:List Int} {st:Int} {gs:List Int} (h:Iv ws.length st gs.length):∀n,(rws ps ws st gs n).map (·.1)=lawf (n+1) ws.length st gs.length
 | 0=>by
  obtain⟨s0,k0,sk,e0⟩:=h;show(rw1 ws st gs).map _=_++[]
  rw[b5W];unfold rw1;by_cases c:1<gs.length\/st=(ws.length:Int)-1
  ·rw[if_pos c,if_pos]
   ·rfl
   ·unfold b4k;simp only[b9w,b5X,b5Z];omega
  ·rw[if_neg c,if_neg]
   ·rfl
   ·unfold b4k;simp only[b9w,b5X,b5Z];omega
 | n+1=>by
  have ih:=b2s (ps:=ps) h n;obtain⟨s0,k0,sk,e0⟩:=h;show(rws ps ws st gs n++rw2 ps ws st gs (n+2)).map _=_;rw[b4D,ih];unfold lawf;rw[show n+1+1-1=n+1 from rfl,show n+1-1=n from rfl,c0e,b4D,List.filter_append,b5d];congr 2;show(rw2 ps ws st gs (n+2)).map _=List.filter _ [(2:Int)+(n:Int)];unfold rw2;by_cases c:st+(gs.length:Int)-1+((n+2:Nat):Int)<=(ws.length:Int)
  ·have:b3I ws.length st gs.length (2+(n:Int))=true:=by
    unfold b3I;simp only[b5X,b5Z];omega
   rw[if_pos c,List.filter_cons_of_pos this];show[((n+2:Nat):Int)]=[2+(n:Int)]
   congr 1;omega
  ·have:¬b3I ws.length st gs.length (2+(n:Int))=true:=by
    unfold b3I;simp only[b5X,b5Z];omega
   rw[if_neg c,List.filter_cons_of_neg this];rfl
theorem a7k {ps ws:List Int} (W:Wide ps ws) {k:Fr} (h:a3A ws k):(nxt ps ws k).map (·.1)=lawf ps.length ws.length k.1 k.2.length:=by
 have e:=b2s (ps:=ps) h.iv (ps.length-1);rw[show ps.length-1+1=ps.length by have:=W.p2;omega] at e;rw[<-e];show(List.map (fin ws) _).map _=_;rw[b5A];exact b5V λr _=>a6m ws r
noncomputable def cnt (L n:Nat):Nat->Int->Int->Nat
 | 0,_,_=>1
 | f+1,st,kn=>1+((lawf L n st kn).map λnb=>cnt L n f (nx st nb) (kn-1+nb)).sum
theorem b0f {α:Type} {f g:α->Nat}:∀{l:List α},(∀x∈l,f x<=g x)->(l.map f).sum<=(l.map g).sum
 | [],_=>b4z _
 | x::l,h=>by
  show f x+_<=g x+_;exact Nat.add_le_add (h x (.head _)) (b0f λy hy=>h y (.tail _ hy))
theorem a7l {L n:Nat}:∀{f:Nat} {st kn:Int},cnt L n f st kn<=cnt L n (f+1) st kn
 | 0,st,kn=>by show 1<=1+_;omega
 | f+1,st,kn=>b8l (b0f λnb _=>a7l) 1
theorem b2t {L n:Nat} {st kn:Int} {f:Nat}:∀{f':Nat},f<=f'->cnt L n f st kn<=cnt L n f' st kn
 | 0,h=>by rw[Nat.le_zero.mp h];exact b4z _
 | f'+1,h=>by
  rcases c0c f' f with c|c
  ·rw[show f=f'+1 by omega];exact b4z _
  ·exact b6u (b2t c) a7l
noncomputable def pot (ps ws:List Int) (k:Fr):Nat:=cnt ps.length ws.length (2*(ws.length:Int)-rk k).toNat k.1 k.2.length
noncomputable def pots (ps ws:List Int) (ks:List Fr):Nat:=(ks.map (pot ps ws)).sum
theorem a6p {ps ws:List Int} {k:Fr}:1<=pot ps ws k:=by
 unfold pot;cases (2*(ws.length:Int)-rk k).toNat with
 | zero=>exact b4z _
 | succ f=>show 1<=1+_;omega
theorem b1E {ps ws:List Int} (W:Wide ps ws) {k:Fr} (h:a3A ws k):1+pots ps ws ((nxt ps ws k).map (·.2.2))<=pot ps ws k:=by
 cases hn:nxt ps ws k with
 | nil=>exact a6p
 | cons m0 ms0 =>
 rw[<-hn];have m0m:m0∈nxt ps ws k:=by rw[hn];exact .head _
 have up0:=(a2t W h m0m).1;have ok0:=(a1V W h m0m).1.rk;obtain⟨f,hf⟩:∃f,(2*(ws.length:Int)-rk k).toNat=f+1:=⟨(2*(ws.length:Int)-rk k).toNat-1,by omega⟩
 unfold pot;rw[hf];show _<=1+_;refine b8l ?_ 1;rw[<-a7k W h,b5A];unfold pots;rw[b5A];refine b0f λm hm=>?_;obtain⟨o,_,h2,h3⟩:=a1V W h hm;have up:=(a2t W h hm).1;show cnt _ _ _ m.2.2.1 (m.2.2.2.length:Int)<=cnt _ _ f (nx k.1 m.1) ((k.2.length:Int)-1+m.1);rw[h2,h3];refine b2t ?_;show(2*(ws.length:Int)-rk m.2.2).toNat<=f;omega
theorem a3B {ps ws:List Int} {k:Fr} {ks:List Fr}:pots ps ws (k::ks)=pot ps ws k+pots ps ws ks:=rfl
theorem a4L {ps ws:List Int} {xs ys:List Fr}:pots ps ws (xs++ys)=pots ps ws xs+pots ps ws ys:=by
 unfold pots;rw[b4D,b7V]
theorem a7m {ps ws:List Int}:∀{ks:List Fr},ks.length<=pots ps ws ks
 | []=>b5j _
 | k::ks=>by
  rw[a3B,b5l];have:=a6p (ps:=ps) (ws:=ws) (k:=k);have:=a7m (ps:=ps) (ws:=ws) (ks:=ks);omega
theorem cnt_bd:∀L∈([2,3,4,5,6]:List Nat),∀n∈([1,2,3,4,5,6,7]:List Nat),(n<=6\/L=2)->cnt L n (2*n-1) 0 1<=1100:=by decide +kernel
theorem b0g {ps ws:List Int} (W:Wide ps ws):pot ps ws (0,[0])<=1100:=by
 obtain⟨p2,p6,w1,w7,_,_⟩:=W;unfold pot;have e:(2*(ws.length:Int)-rk (0,[0])).toNat=2*ws.length-1:=by
  have:rk (0,[0])=1:=rfl;rw[this];omega
 rw[e];refine cnt_bd ps.length ?_ ws.length ?_ ?_
 ·simp only[b4K,b5u,b7o];omega
 ·simp only[b4K,b5u,b7o];split at w7<;>omega
 ·split at w7<;>omega
noncomputable def b1F (ns:List Int):Int:=if ns=[] then 0 else (srt ns).headD 0
noncomputable def flF (ps ws:List Int):Nat->Fr->Int
 | 0,_=>0
 | f+1,k=>b1F ((nxt ps ws k).map λm=>m.2.1+flF ps ws f m.2.2)
theorem b2u {ps ws:List Int} (W:Wide ps ws):∀{f f':Nat} {k:Fr},a3A ws k->2*(ws.length:Int)-rk k<f->2*(ws.length:Int)-rk k<f'->flF ps ws f k=flF ps ws f' k
 | 0,_,k,h,h1,_=>by have:=h.rk;omega
 | _,0,k,h,_,h2=>by have:=h.rk;omega
 | f+1,f'+1,k,h,h1,h2=>by
  show b1F _=b1F _;congr 1;refine b5V λm hm=>?_;have up:=(a2t W h hm).1;rw[b2u W (a1V W h hm).1 (f:=f) (f':=f') (by omega) (by omega)]
noncomputable def flo (ps ws:List Int) (k:Fr):Int:=flF ps ws (2*ws.length+1) k
theorem a5D {ps ws:List Int} (W:Wide ps ws) {k:Fr} (h:a3A ws k):flo ps ws k=b1F ((nxt ps ws k).map λm=>m.2.1+flo ps ws m.2.2):=by
 show b1F _=b1F _;congr 1;refine b5V λm hm=>?_;have up:=(a2t W h hm).1;have:=h.rk;unfold flo;rw[b2u W (a1V W h hm).1 (f:=2*ws.length) (f':=2*ws.length+1) (by omega) (by omega)]
theorem b3T {ps ws:List Int} (W:Wide ps ws) {k:Fr} (h:a3A ws k) (e:nxt ps ws k=[]):k=((ws.length:Int),[]):=by
 have nb:=a7k W h;rw[e] at nb;have no:∀x,x∉lawf ps.length ws.length k.1 k.2.length:=λx hx=>by rw[<-nb] at hx;cases hx
 obtain⟨⟨s0,k0,sk,e0⟩,_⟩:=h;have z:k.2.length=0:=by
  rcases b8t k.2.length with z|z
  ·exact z
  ·exfalso;have p2:=W.p2;by_cases c:1<(k.2.length:Int)\/((k.2.length:Int)=1/\k.1=(ws.length:Int)-1)
   ·exact no 0 (a1i.mpr (.inl ⟨rfl,c⟩))
   ·exact no 2 (a1i.mpr (.inr ⟨0,by omega,rfl,by omega,by omega⟩))
 obtain⟨a,b⟩:=k;have zb:b=[]:=b5C.mp z;have:=e0 (by omega);show(a,b)=_;rw[zb,<-this]
theorem a8i {ps ws:List Int} {S:List Fr} (h1:(0,[0])∈S) (h2:∀k∈S,∀m∈nxt ps ws k,m.2.2∈S) {k:Fr} (h:Rch ps ws k):k∈S:=by
 induction h with
 | one=>exact h1
 | step _ hm ih=>exact h2 _ ih _ hm
end K76
namespace L2
open PySem PySem.Spec PyProof.Rows
structure b3U (X:Cx) (σ:St) (Rg:Addr->List V->Hp->VK->Prop):Prop where
 run:∀(pins:List (Addr × Obj)) (H:Hp) (s:Shared) (g:Addr) (us:List Value) (vs:List V) (Q:VK),Inv X pins σ H s->a0C vs us->Rg g vs H Q->codeAny (model X.prog X.w) X.A.in1 (.call (.ref g) ⟨us,[]⟩) (CR CX0 X.stack X.prog X.w H s Q E0) s
theorem b3U.cells {X:Cx} {σ:St} {k:Nat} {cl:List (Str × Addr)} {R:Addr->List V->Hp->VK->Prop} (L:a6b X.prog X.w X.K X.mg X.base k R) (hr:a2h (k+1) X.A) (hc:a3q X cl):b3U X σ (RgC X cl R σ):=⟨λpins H1 s1 g us vs Q I1 r q=>by
 have mem:∀c∈cl.map (·.2),∃n,(n,c)∈cl:=λc hc=>by
  obtain⟨⟨n,c'⟩,h1,rfl⟩:=b4F.mp hc;exact⟨n,h1⟩
 let os:Addr->Obj:=λc=>(s1.heap.get? c).getD ⟨.none,none,.plain,#[]⟩
 have gg:∀c∈cl.map (·.2),s1.heap.get? c=some (os c):=λc hc'=>by
  obtain⟨n,hn⟩:=mem c hc';obtain⟨v,o,ho,_⟩:=I1.cell n c (hc.at' _ hn);show _=some ((s1.heap.get? c).getD _);rw[ho];rfl
 have nn:∀c∈cl.map (·.2),H1 c=none:=λc hc'=>by
  obtain⟨n,hn⟩:=mem c hc';exact I1.freeC n c (hc.at' _ hn)
 have above:∀c∈cl.map (·.2),X.s₀.heap.objs.size<=c:=λc hc'=>by
  obtain⟨n,hn⟩:=mem c hc';exact I1.ok.cab n c (hc.fn _ hn) (hc.at' _ hn)
 have hq:=q os (λj i n c v h1 h2 h3=>by
  have hmem:=b4B h1;obtain⟨m,hn,hl⟩:=I1.loc;obtain⟨u,rv,l⟩:=hl i n v h2 h3 (.inr (.inl (hc.ki _ hmem)));refine⟨u,?_,rv⟩;rcases l with ⟨hk',_⟩|⟨_,c0,e0,o,ho,hd⟩
  ·have z:some NameKind.cell=some .local:=(hc.ki _ hmem).symm.trans hk';cases z
  ·have ec:some c0=some c:=e0.symm.trans (hc.at' _ hmem);cases ec;have:os c=o:=by
    show(s1.heap.get? c).getD _=o;rw[ho];rfl
   rw[this];exact hd) nn
 have e0:=I1.env0;have e1:a8I X.prog X.w X.K X.mg X.base X.A X.stack s1 (trk' (cl.map (·.2)) os H1):=⟨e0.frames,e0.mod,λb o hb'=>⟨(e0.bs b o hb').1,by
  rw[a0S λz=>b5G _ (b4O (b4w hb') (b6u I1.ok.bsz (above b z)))];exact(e0.bs b o hb').2⟩,e0.bsz,e0.funs,λb hb'=>by
  rw[a0S λz=>?_]
  ·exact e0.frf b hb'
  ·obtain⟨n,hn⟩:=mem b z;rcases b4K.mp (I1.stkSub b hb') with y|y
   ·exact I1.cne n b (hc.at' _ hn) y
   ·obtain⟨_,o,ho,_⟩:=I1.ok.funs.mem y;exact b5G _ (b4O (b4w ho) (above b z)),e0.hok.trk nn gg,e0.bare⟩
 refine b6T (L.run X.A.in1 X.stack s1 _ g us vs _ hr.in1 e1.in1 r hq) λr s' hq'=>?_;cases r with
 | error e=>exact False.elim hq'
 | ok fl =>
  cases fl with
  | ret u =>
   obtain⟨v,H3,os',bare,un,hok3,rv,q3,q4⟩:=hq';have g3:∀c∈cl.map (·.2),s'.heap.get? c=some (os c):=λc hc'=>(hok3 c _ (q3 c hc')).1;exact⟨v,unt (cl.map (·.2)) H3,os',bare,un.untrk nn gg g3,hok3.unt λa ha=>⟨_,q3 a ha⟩,rv,q4⟩
  | next=>exact False.elim hq'
  | brk=>exact False.elim hq'
  | cont=>exact False.elim hq'⟩
section
variable {X:Cx} {Rg:Addr->List V->Hp->VK->Prop} {pins:List (Addr × Obj)} {σ:St} {H:Hp} {a g I S:Addr} {xs:List V} {ks:Nat->Int} {R:Result->Shared->Prop} {Q:VK}
abbrev btI (ks:Nat->Int):Nat->Nat->Bool:=λi j=>decide (ks i<ks j)
theorem b1G (L:b3U X σ Rg) (hc:X.calm=true) (ha:H a=some (.lst xs)) (fI:∀H',H' I=none->a2w X pins H' I) (fS:∀H',H' S=none->a2w X pins H' S) (hne:I≠S)
  (hk:∀i x H1 Q1,xs[i]?=some x->a0r H H1->(∀H2,a0r H1 H2->Q1 (.int (ks i)) H2)->Rg g [x] H1 Q1)
  (q:∀x H',xs[argBest (btI ks) (xs.length-1)]?=some x->a0r H H'->Q x H') (hR:∀u s',EP X pins σ Q u s'->R (.ok (.ret u)) s') :
  ∀(m j:Nat) (s:Shared) (Hj:Hp) (xb:V) (ub:Value) (tb:Tok) (c:Nat),xs.length-(j+1)=m->j+1<=xs.length->Inv X pins σ Hj s->a0r H Hj->s.heap.IsListIter I a (j+1)->Hj I=none->Hj S=none ->
   s.heap.get? S=some { cls:=.type "list",data:=.seq #[ub,.int (ks (argBest (btI ks) j)) tb] c }->xs[argBest (btI ks) j]?=some xb->a0T xb ub ->
   codeAny (model X.prog X.w) X.A (.builtin "min.loop" ⟨[.ref I,.ref g,.ref S],[]⟩) R s:=by
 intro m
 induction m with
 | zero =>
  intro j s Hj xb ub tb c hm hj J sm st nI nS hs hx rx;have ej:j+1=xs.length:=by omega
  obtain⟨its,rv,p,hz⟩:=J.list (SqL.of (K:=X.K) (sm _ _ ha));obtain⟨f0,f1,f2,f3,f4,f5⟩:=fI Hj nI;obtain⟨g0,g1,g2,g3,g4,g5⟩:=fS Hj nS;refine b5p b7E ?_;rw[b4S b5I _];show wpAny _ X.A.in1 (seqItems? (.ref S) >>= _) _ _ s;refine b4n (b5i hs rfl ?_);refine b4n (b6D ?_);have hl:=rv.length;refine b8L (by show X.A.handled=none;exact J.ok.hd hc) st p.isList (by simp;omega) λh' eb=>?_;have J1:Inv X pins σ Hj { s with heap:=h' }:=J.turned (t':=s.toks) (λb o hb e=>eb b o hb e) f0 f1 f3 f4 f5;have hs':h'.get? S=some _:=eb S _ (λz=>hne z.symm) hs;show wpAny _ X.A.in1 (updateSeq S _ >>= _) _ _ _;refine b4n (b6e hs' rfl ?_);refine b4n (b6H ?_);refine b4r ?_;refine hR _ _ ⟨xb,Hj,J1.turned (t':=s.toks) (λb o hb e=>by rw[b4I _ _ _ _ hb];exact e) g0 g1 g3 g4 g5,rx,q xb Hj (by rw[<-ej];exact hx) sm⟩
 | succ m ih =>
  intro j s Hj xb ub tb c hm hj J sm st nI nS hs hx rx;have hlt:j+1<xs.length:=by omega
  obtain⟨its,rv,p,hz⟩:=J.list (SqL.of (K:=X.K) (sm _ _ ha));obtain⟨f0,f1,f2,f3,f4,f5⟩:=fI Hj nI;have hx1:xs[j+1]?=some xs[j+1]:=b4q hlt;obtain⟨u,hu,ru⟩:=rv.get hx1;refine b5p b7E ?_;rw[b4S b5I _];show wpAny _ X.A.in1 (seqItems? (.ref S) >>= _) _ _ s;refine b4n (b5i hs rfl ?_);refine b4n (b6D ?_);refine b7G st p.isList (x:=u) (by simpa using hu) λh' st' sb=>?_;have J1:Inv X pins σ Hj { s with heap:=h' }:=J.turned (t':=s.toks) (λb o hb e=>(sb.2 b hb).trans e) f0 f1 f3 f4 f5;have hs':h'.get? S=some _:=(sb.2 S (λz=>hne z.symm)).trans hs;have J2:=J1.pinned (fp:=[I,S]) (λb hb=>by
   rcases b4K.mp hb with rfl|hb
   ·exact fI Hj nI
   ·rw[b4s.mp hb];exact fS Hj nS) (λb hb=>by
   rcases b4K.mp hb with rfl|hb
   ·obtain⟨o,e,_,d⟩:=id st';exact⟨o,e,λv z=>by rw[d] at z;cases z⟩
   ·rw[b4s.mp hb];exact⟨_,hs',λv z=>by cases z⟩)
  show wpAny _ X.A.in1 (tryCatch (holding [u] (call (.ref g) [u])) _ >>= _) _ _ _;refine b4n (b6D (b4T ?_));refine wpAny_call (b6T (L.run _ Hj _ g [u] [xs[j+1]] (λv H2=>v=.int (ks (j+1))/\a0r Hj H2) J2 (.cons ru .nil) (hk _ _ _ _ hx1 sm λH2 s2=>⟨rfl,s2⟩)) λr s3 hq=>?_);cases r with
  | error e=>exact False.elim hq
  | ok fl =>
  cases fl with
  | next=>exact False.elim hq
  | brk=>exact False.elim hq
  | cont=>exact False.elim hq
  | ret uv =>
  obtain⟨v,H2,J3,rv3,rfl,s2⟩:=J2.after hq;obtain⟨t,rfl⟩:=rv3;have st3:s3.heap.IsListIter I a (j+1+1):=st'.at λo e=>(J3.pin (I,o) (b4E _ (b4E _ (a0H (by simp) e)))).1;have nI3:H2 I=none:=by
   obtain⟨o,e,_,_⟩:=id st';exact(J3.pin (I,o) (b4E _ (b4E _ (a0H (by simp) e)))).2.1
  have pS:=J3.pin (S,_) (b4E _ (b4E _ (a0H (by simp) hs')));have hs3:=pS.1;have nS3:=pS.2.1;have J4:=J3.unpinned;have sm3:=sm.trans s2;obtain⟨g0,g1,g2,g3,g4,g5⟩:=fS H2 nS3;have eb:argBest (btI ks) (j+1)=if btI ks (j+1) (argBest (btI ks) j)=true then j+1 else argBest (btI ks) j:=rfl
  refine b4n (b6D (b4T (b4n (b9W (prog:=X.prog) (w:=X.w) (A:=X.A.in1) (P:=λi v=>∃t,v=.int (ks i) t) ks (λi v h=>h) (j+1) (argBest (btI ks) j) _ _ _ _ _ ⟨t,rfl⟩ ⟨tb,rfl⟩ ?_))));refine b4n (b4T (b6v ?_));refine b4n (b6H (b4r ?_));cases hb:decide (ks (j+1)<ks (argBest (btI ks) j)) with
  | true =>
   rw[show btI ks (j+1) (argBest (btI ks) j)=true from hb,if_pos rfl] at eb;rw[if_pos hb];refine b4n (b6e hs3 rfl ?_);refine b4n (b6H ?_);refine b4r ⟨b5B b5I _,?_⟩;have hs4:=b5Y (c:="list") hs3 (λ_=>#[u,.int (ks (j+1)) t]);exact ih (j+1) _ H2 _ u t _ (by omega) (by omega) (J4.turned (t':=s3.toks) (λb o hb e=>by rw[b4I _ _ _ _ hb];exact e) g0 g1 g3 g4 g5) sm3
    (st3.at λo e=>by rw[b4I _ _ _ _ hne];exact e) nI3 nS3 (by rw[eb];exact hs4) (by rw[eb];exact hx1) ru
  | false =>
   rw[show btI ks (j+1) (argBest (btI ks) j)=false from hb,if_neg (by decide)] at eb;rw[if_neg (λz=>by rw[show decide (ks (j+1)<ks (argBest (btI ks) j))=true from z] at hb;cases hb)];refine b4n (b6H ?_);refine b4r ⟨b5B b5I _,?_⟩;exact ih (j+1) _ H2 xb ub tb _ (by omega) (by omega) J4 sm3 st3 nI3 nS3 (by rw[eb];exact hs3) (by rw[eb];exact hx) rx
theorem a6q (L:b3U X σ Rg) (hc:X.calm=true) (ha:H a=some (.lst xs)) (fI:∀H',H' I=none->a2w X pins H' I) (fS:∀H',H' S=none->a2w X pins H' S) (hne:I≠S)
  (hk:∀i x H1 Q1,xs[i]?=some x->a0r H H1->(∀H2,a0r H1 H2->Q1 (.int (ks i)) H2)->Rg g [x] H1 Q1)
  (q:∀x H',xs[argBest (btI ks) (xs.length-1)]?=some x->a0r H H'->Q x H') (hR:∀u s',EP X pins σ Q u s'->R (.ok (.ret u)) s')
  (s:Shared) (c:Nat) (hl0:0<xs.length) (J:Inv X pins σ H s) (st:s.heap.IsListIter I a 0) (nI:H I=none) (nS:H S=none) (hs:s.heap.get? S=some { cls:=.type "list",data:=.seq #[] c }) :
  codeAny (model X.prog X.w) X.A (.builtin "min.loop" ⟨[.ref I,.ref g,.ref S],[]⟩) R s:=by
 obtain⟨its,rv,p,hz⟩:=J.list (SqL.of (K:=X.K) ha);obtain⟨f0,f1,f2,f3,f4,f5⟩:=fI H nI;have hx1:xs[0]?=some xs[0]:=b4q hl0;obtain⟨u,hu,ru⟩:=rv.get hx1;refine b5p b7E ?_;rw[b4S b5I _];show wpAny _ X.A.in1 (seqItems? (.ref S) >>= _) _ _ s;refine b4n (b5i hs rfl ?_);refine b4n (b6D ?_);refine b7G st p.isList (x:=u) (by simpa using hu) λh' st' sb=>?_;have J1:Inv X pins σ H { s with heap:=h' }:=J.turned (t':=s.toks) (λb o hb e=>(sb.2 b hb).trans e) f0 f1 f3 f4 f5;have hs':h'.get? S=some _:=(sb.2 S (λz=>hne z.symm)).trans hs;have J2:=J1.pinned (fp:=[I,S]) (λb hb=>by
  rcases b4K.mp hb with rfl|hb
  ·exact fI H nI
  ·rw[b4s.mp hb];exact fS H nS) (λb hb=>by
  rcases b4K.mp hb with rfl|hb
  ·obtain⟨o,e,_,d⟩:=id st';exact⟨o,e,λv z=>by rw[d] at z;cases z⟩
  ·rw[b4s.mp hb];exact⟨_,hs',λv z=>by cases z⟩)
 show wpAny _ X.A.in1 (tryCatch (holding [u] (call (.ref g) [u])) _ >>= _) _ _ _;refine b4n (b6D (b4T ?_));refine wpAny_call (b6T (L.run _ H _ g [u] [xs[0]] (λv H2=>v=.int (ks 0)/\a0r H H2) J2 (.cons ru .nil) (hk _ _ _ _ hx1 (a0r.refl _) λH2 s2=>⟨rfl,s2⟩)) λr s3 hq=>?_);cases r with
 | error e=>exact False.elim hq
 | ok fl =>
 cases fl with
 | next=>exact False.elim hq
 | brk=>exact False.elim hq
 | cont=>exact False.elim hq
 | ret uv =>
 obtain⟨v,H2,J3,rv3,rfl,s2⟩:=J2.after hq;obtain⟨t,rfl⟩:=rv3;have st3:s3.heap.IsListIter I a (0+1):=st'.at λo e=>(J3.pin (I,o) (b4E _ (b4E _ (a0H (by simp) e)))).1;have nI3:H2 I=none:=by
  obtain⟨o,e,_,_⟩:=id st';exact(J3.pin (I,o) (b4E _ (b4E _ (a0H (by simp) e)))).2.1
 have pS:=J3.pin (S,_) (b4E _ (b4E _ (a0H (by simp) hs')));have hs3:=pS.1;have nS3:=pS.2.1;obtain⟨g0,g1,g2,g3,g4,g5⟩:=fS H2 nS3;show wpAny _ X.A.in1 (updateSeq S _ >>= _) _ _ _;refine b4n (b6e hs3 rfl ?_);refine b4r ⟨b5B b5I _,?_⟩;have hs4:=b5Y (c:="list") hs3 (λ_=>#[u,.int (ks 0) t]);exact b1G L hc ha fI fS hne hk q hR _ 0 _ H2 _ u t _ rfl (by omega) (J3.unpinned.turned (t':=s3.toks) (λb o hb e=>by rw[b4I _ _ _ _ hb];exact e) g0 g1 g3 g4 g5) s2
  (st3.at λo e=>by rw[b4I _ _ _ _ hne];exact e) nI3 nS3 hs4 hx1 ru
noncomputable def b2v (Rg:Addr->List V->Hp->VK->Prop) (vs zs:List V) (H:Hp) (Q:VK):Prop:=∃(a g:Addr) (xs:List V) (ks:Nat->Int),vs=[.ref a]/\zs=[.ref g]/\H a=some (.lst xs)/\0<xs.length /\
 (∀i x H1 Q1,xs[i]?=some x->a0r H H1->(∀H2,a0r H1 H2->Q1 (.int (ks i)) H2)->Rg g [x] H1 Q1)/\∀x H',xs[argBest (btI ks) (xs.length-1)]?=some x->a0r H H'->Q x H'
theorem b1H (L:b3U X σ Rg) (hc:X.calm=true) {s:Shared} {vs zs:List V} {us ws:List Value} (J:Inv X pins σ H s) (r:a0C vs us) (rz:a0C zs ws) (h:b2v Rg vs zs H Q) :
  wpAny (model X.prog X.w) X.A (call (.builtin "min") us (([Str.ofString "key"]:List Str).zip ws)) (EP X pins σ Q) X.xe s:=by
 obtain⟨a,g,xs,ks,rfl,rfl,e,l0,hk,q⟩:=h;obtain⟨u,rfl,ru⟩:=a2g r;obtain⟨d,rfl,rd⟩:=a2g rz;cases ru;cases rd;obtain⟨_,its,n,rv,he⟩:=(show a0B X.prog X.w H s.heap a (.lst xs) from J.hok a _ e)
 have hlt:=b4w he;show wpAny _ _ (call (.builtin "min") [.ref a] (kwK (.ref g))) _ _ _;refine kmb_tree F.kind_min F.plain_min F.entry_min (a9n _ _) ?_;have eB:Builtin.Builtins.bindParams "min" ["key","default"] 0 { kw:=kwK (.ref g) }=pure [some (.ref g),none]:=rfl;show wpAny _ X.A.in1 (Builtin.Builtins.bindParams "min" ["key","default"] 0 { kw:=kwK (.ref g) } >>= _) _ _ s;rw[eB];show wpAny _ X.A.in1 (pyIter (.ref a) >>= _) _ _ s;refine b4n (b6w (a1u he) ?_);refine b4n (b6S ?_ (b5j _));refine b4r ⟨b5B b5I _,?_⟩;have sz:(s.heap.push { cls:=.type "list_iterator",data:=.fields #[.ref a,rawInt 0] }).objs.size=s.heap.objs.size+1:=b4X _ _;have up:∀b o,s.heap.get? b=some o->((s.heap.push { cls:=.type "list_iterator",data:=.fields #[.ref a,rawInt 0] }).push { cls:=.type "list",data:=.seq (([]:List Value).toArray) }).get? b=some o:=λb o eo=>b4o _ (b4o _ eo);have le1:s.heap.objs.size<=(s.heap.push { cls:=.type "list_iterator",data:=.fields #[.ref a,rawInt 0] }).objs.size:=by rw[sz];exact b9U _
 have ne1:s.heap.objs.size≠(s.heap.push { cls:=.type "list_iterator",data:=.fields #[.ref a,rawInt 0] }).objs.size:=by rw[sz];exact b4H (b7f _)
 refine a6q (H:=H) (a:=a) (g:=g) (xs:=xs) (ks:=ks) (Q:=Q) L hc e (λH' hn=>J.fpOk (b4z _) hn) (λH' hn=>J.fpOk le1 hn) ne1 hk q (λu s' hE=>hE) _ 0 l0 (J.kept up)
  ⟨_,b4o _ (b4v _ rfl),rfl,rfl⟩ (J.hok.fresh (b4z _)) (J.hok.fresh le1) (b4v _ rfl)
noncomputable def tMinKI (Rg:St->Addr->List V->Hp->VK->Prop) (t tk:TA):TE:=λσ H Q=>t σ H λvs H1=>tk σ H1 λzs H2=>b2v (Rg σ) vs zs H2 Q
theorem b1I {Rg:St->Addr->List V->Hp->VK->Prop} {e e2:Expr} {p pos kpos:Pos} {t tk:TA} (L:∀σ,b3U X σ (Rg σ)) (hc:X.calm=true) (hg:Gl X "min") (hm:X.mg "min"=none) (ha:PA X [e] t) (hk:PK X [⟨some "key",e2,kpos⟩] tk) (h1:backTo pos (starEach [e] X.env)=(false,eval e X.env)::backTo pos (starEach [] X.env):=by rfl)
  (h2:((backTo pos (starEach [e] X.env)).any (·.1))=false:=by rfl) (h3:(backToKw pos (keywordEach [⟨some "key",e2,kpos⟩] X.env)).all (·.1.isSome)=true:=by rfl) (h4:(backToKw pos (keywordEach [⟨some "key",e2,kpos⟩] X.env)).any (·.1.isNone)=false:=by rfl) (h5:(backToKw pos (keywordEach [⟨some "key",e2,kpos⟩] X.env)).filterMap (·.1)=[Str.ofString "key"]:=by rfl) :
  PE X (.Call (.Name "min" p) [e] [⟨some "key",e2,kpos⟩] pos) (tMinKI Rg t tk):=by
 intro pins s σ H Q I h;refine b5E (a1l I hg hm a5q ?_);refine callWith_kw (thn (ha pos pins s σ H _ I h) λus s1 ⟨vs,H1,I1,r,q⟩=>?_) h1 h2 h3 h4;refine thn (hk pos pins s1 σ H1 _ I1 q) λws s2 ⟨zs,H2,I2,rz,q2⟩=>?_;rw[h5];exact b1H (L σ) hc I2 r rz q2
end
end L2
namespace K76
open PySem L2
noncomputable def noMv:Mv:=(0,0,(0,[]))
noncomputable def kyv (ps ws:List Int) (k:Fr) (i:Nat):Int:=((nxt ps ws k).getD i noMv).2.1+flo ps ws ((nxt ps ws k).getD i noMv).2.2
noncomputable def bst (ps ws:List Int) (k:Fr):Mv:=(nxt ps ws k).getD (argBest (btI (kyv ps ws k)) ((nxt ps ws k).length-1)) noMv
noncomputable def a8q (ps ws:List Int):Nat->Fr->List Int
 | 0,_=>[]
 | f+1,k=>if k.1<(ws.length:Int) then (bst ps ws k).1::a8q ps ws f (bst ps ws k).2.2 else []
noncomputable def frees (ps ws:List Int):List Int:=a8q ps ws (2*ws.length+1) (0,[0])
theorem a6r {ps ws:List Int}:∀{f:Nat} {k:Fr},(a8q ps ws f k).length<=f
 | 0,_=>b4z _
 | f+1,k=>by
  show(if _ then _ else _:List Int).length<=_;split
  ·rw[b5l];exact Nat.succ_le_succ a6r
  ·exact b5j _
theorem a7n {ps ws:List Int} (W:Wide ps ws) {k:Fr} (h:a3A ws k) (c:k.1<(ws.length:Int)):nxt ps ws k≠[]:=λe=>by
 have:=b3T W h e;rw[this] at c;exact absurd c (Int.lt_irrefl _)
theorem a3X {ps ws:List Int} {k:Fr} (h:nxt ps ws k≠[]):(nxt ps ws k)[argBest (btI (kyv ps ws k)) ((nxt ps ws k).length-1)]?=some (bst ps ws k):=by
 have l:=b6s.mpr h;have:=(argBest_lt (kyv ps ws k) ((nxt ps ws k).length-1)).1;unfold bst;rw[b4t,b4q (by unfold btI;omega)];rfl
theorem b3V {ps ws:List Int} (W:Wide ps ws) {k:Fr} (ok:a3A ws k) (h:nxt ps ws k≠[]):(bst ps ws k).2.1+flo ps ws (bst ps ws k).2.2=flo ps ws k:=by
 have hm:=b4B (a3X h);rw[a5D W ok];unfold b1F;rw[if_neg (λz=>h (b7y.mp z))];refine(a6R (ns:=(nxt ps ws k).map λm=>m.2.1+flo ps ws m.2.2) (b4F.mpr ⟨bst ps ws k,hm,rfl⟩) λx hx=>?_).symm;obtain⟨m,hm',rfl⟩:=b4F.mp hx;obtain⟨j,hj⟩:=b5R.mp hm';have jl:=(b4u.mp hj).1;have:=(argBest_lt (kyv ps ws k) ((nxt ps ws k).length-1)).2 j (by omega);have e:kyv ps ws k j=m.2.1+flo ps ws m.2.2:=by
  unfold kyv;rw[b4t,hj];rfl
 rw[e] at this;exact this
theorem b2w {ps ws:List Int} (W:Wide ps ws):∀{f f':Nat} {k:Fr},a3A ws k->2*(ws.length:Int)-rk k<f->2*(ws.length:Int)-rk k<f'->a8q ps ws f k=a8q ps ws f' k
 | 0,_,k,h,h1,_=>by have:=h.rk;omega
 | _,0,k,h,_,h2=>by have:=h.rk;omega
 | f+1,f'+1,k,h,h1,h2=>by
  show(if _ then _ else _:List Int)=if _ then _ else _
  split
  ·rename_i c;have hm:=b4B (a3X (a7n W h c));have up:=(a2t W h hm).1;rw[b2w W (a1V W h hm).1 (f:=f) (f':=f') (by omega) (by omega)]
  ·rfl
theorem a7o {ps ws:List Int} (W:Wide ps ws) {k:Fr} (h:a3A ws k) (c:k.1<(ws.length:Int)):a8q ps ws (2*ws.length+1) k=(bst ps ws k).1::a8q ps ws (2*ws.length+1) (bst ps ws k).2.2:=by
 have hm:=b4B (a3X (a7n W h c));have up:=(a2t W h hm).1;have:=h.rk;show(if _ then _ else _:List Int)=_;rw[if_pos c,b2w W (a1V W h hm).1 (f:=2*ws.length) (f':=2*ws.length+1) (by omega) (by omega)]
theorem b0h {ps ws:List Int} {k:Fr} (h:a3A ws k) (c:¬k.1<(ws.length:Int)):k.2.length=0/\a8q ps ws (2*ws.length+1) k=[]:=by
 obtain⟨⟨s0,k0,sk,e0⟩,_⟩:=h;refine⟨by omega,?_⟩;show(if _ then _ else _:List Int)=_;rw[if_neg c]
theorem a8j {L:Nat} {n:Int} {r:Int} {rs:List Int} {st kn:Int} (h:r∈lawf L n st kn) (h2:leads L n rs (nx st r) (kn-1+r)=true):leads L n (r::rs) st kn=true:=by
 show(if r∈lawf L n st kn then _ else _)=_;rw[if_pos h];exact h2
theorem a7p {ps ws:List Int} (W:Wide ps ws):∀(m:Nat) {k:Fr},a3A ws k->2*(ws.length:Int)-rk k<=m->leads ps.length ws.length (a8q ps ws (2*ws.length+1) k) k.1 k.2.length=true/\spR ps ws (a8q ps ws (2*ws.length+1) k) k.1 k.2=flo ps ws k
 | m,k,h,hm=>by
  by_cases c:k.1<(ws.length:Int)
  ·have ne:=a7n W h c;have hb:=b4B (a3X ne);obtain⟨ok,h1,h2,h3⟩:=a1V W h hb;have up:=(a2t W h hb).1;have rb:=ok.rk
   match m with
   | 0=>omega
   | m+1 =>
    obtain⟨i1,i2⟩:=a7p W m ok (by omega);rw[a7o W h c];refine⟨a8j h1 (by rw[<-h2,<-h3];exact i1),?_⟩;show(mv ps ws k.1 k.2 (bst ps ws k).1).2.1+spR ps ws _ (mv ps ws k.1 k.2 (bst ps ws k).1).2.2.1 (mv ps ws k.1 k.2 (bst ps ws k).1).2.2.2=_;rw[<-b2q hb,i2];exact b3V W h ne
  ·obtain⟨z,e⟩:=b0h (ps:=ps) h c;rw[e];refine⟨by show decide _=true;rw[z];rfl,?_⟩;show(0:Int)=_;have:nxt ps ws k=[]:=by
    have nb:=a7k W h;cases hn:nxt ps ws k with
    | nil=>rfl
    | cons a l =>
     rw[hn] at nb;have:a.1∈lawf ps.length ws.length k.1 k.2.length:=by rw[<-nb];exact .head _
     rw[z] at this;rcases a1i.mp this with ⟨_,y⟩|⟨_,_,_,y,_⟩<;>omega
   rw[a5D W h,this];rfl
theorem a1X {ps ws:List Int} (W:Wide ps ws):leads ps.length ws.length (frees ps ws) 0 1=true/\spR ps ws (frees ps ws) 0 [0]=flo ps ws (0,[0]) :=
 a7p W (2*ws.length) (a2U W.w1) (by have:=(a2U W.w1).rk;omega)
section
variable {KK:Type} [DecidableEq KK]
theorem a2u {kvs:List (KK × Addr × V)} {k:KK}:(nval kvs k).isSome=true↔k∈kvs.map (·.1):=by
 unfold nval;rw[b8G,List.find?_isSome,b4F];exact⟨λ⟨x,h,e⟩=>⟨x,h,b4Q e⟩,λ⟨x,h,e⟩=>⟨x,h,b4W e⟩⟩
end
theorem a8k {xs:List V} {ns:List Int} (h:Paired a5g xs ns):xs=ns.map V.int:=by
 induction h with
 | nil=>rfl
 | cons r _ ih=>rw[b5J,ih];cases r;rfl
theorem a6a.open {H:Hp} {x:V} {p:Int × List Int} (h:a6a H x p):∃a g,x=.ref a/\H a=some (.tup [.int p.1,.ref g])/\TW H g p.2:=by
 obtain⟨a,y,z,rfl,e,h1,g,xs,rfl,e2,h2⟩:=h;cases h1;rw[a8k h2] at e2;exact⟨a,g,rfl,e,e2⟩
theorem a3L.open {H:Hp} {x:V} {m:Mv} (h:a3L H x m):∃a f,x=.ref a/\H a=some (.tup [.int m.1,.int m.2.1,f])/\a6a H f m.2.2:=by
 obtain⟨a,y,z,t,rfl,e,h1,h2,h3⟩:=h;cases h1;cases h2;exact⟨a,t,rfl,e,h3⟩
theorem a3C {α β:Type} {R:α->β->Prop}:∀{vs:List α} {es:List β},Paired R vs es->vs≠[]->∃vs0 v es0 e,vs=vs0++[v]/\es=es0++[e]/\Paired R vs0 es0/\R v e
 | [],_,_,h=>absurd rfl h
 | [v],[e],.cons r .nil,_=>⟨[],v,[],e,rfl,rfl,.nil,r⟩
 | v::v2::vs,e::es,.cons r t,_=>by
  obtain⟨a,b,c,d,h1,h2,h3,h4⟩:=a3C t (by simp);exact⟨v::a,b,e::c,d,by rw[h1];rfl,by rw[h2];rfl,.cons r h3,h4⟩
noncomputable def FrA (aF:Addr) (H:Hp) (k:Fr) (a:Addr):Prop:=NAt H k a\/(k=(0,[0])/\a=aF)
theorem FrA.tk {aF:Addr} {H H':Hp} {k:Fr} {a:Addr} (t:TK H H') (h:FrA aF H k a):FrA aF H' k a:=h.elim (λ⟨b,h1,h2⟩=>.inl ⟨b,t _ _ h1,t _ _ h2⟩) .inr
theorem FrA.fat {K:PySem.W.Frag} {mg:Str->Option Value} {aF bF:Addr} (FS:Fst K mg aF bF) {H:Hp} {k:Fr} {a:Addr} (h:FrA aF H k a):FAt K H k a:=by
 rcases h with ⟨b,h1,h2⟩|⟨rfl,rfl⟩
 ·exact⟨b,SqT.of h1,SqT.of h2⟩
 ·exact⟨bF,FS.a H,FS.b H⟩
theorem FrA.of {aF:Addr} {H:Hp} {x:V} {k:Fr} (h:a6a H x k):∃a,x=.ref a/\FrA aF H k a:=by
 obtain⟨a,g,e,h1,h2⟩:=a6a.open h;exact⟨a,e,.inl ⟨g,h1,h2⟩⟩
theorem FrA.ask {K:PySem.W.Frag} {mg:Str->Option Value} {aF bF:Addr} (FS:Fst K mg aF bF) {H:Hp} {k:Fr} {a p q:Addr} {ps ws:List Int} (W:Wide ps ws) (ok:a3A ws k) (hp:TW H p ps) (hq:TW H q ws) (h:FrA aF H k a):∃g,Ask K H p q a g ps ws k.2 k.1:=by
 obtain⟨p2,p6,w1,w7,bp,bw⟩:=W;obtain⟨⟨s0,k0,sk,e0⟩,bd⟩:=ok;have w10:ws.length<=7:=by split at w7<;>omega
 have bg:Bg k.2:=λx hx=>⟨(bd x hx).1,by have:=(bd x hx).2;unfold B30 at *;omega⟩
 have key:∃g,SqT K H a [.int k.1,.ref g]/\Gp K H g k.2:=by
  rcases h with ⟨b,h1,h2⟩|⟨rfl,rfl⟩
  ·exact⟨b,SqT.of h1,.inl h2⟩
  ·exact⟨bF,FS.a H,.inr ⟨FS.b H,by simp⟩⟩
 obtain⟨g,h1,h2⟩:=key;exact⟨g,hp,hq,h1,h2,p2,p6,w7,s0,by omega,λ_=>by omega,by omega,bw,bp,bg⟩
structure LK (lw:Addr) (H H':Hp):Prop where
 t:TK H H'
 l:∀a xs,a≠lw->H a=some (.lst xs)->H' a=some (.lst xs)
theorem LK.of {lw:Addr} {H H':Hp} (s:a0r H H'):LK lw H H':=⟨TK.of s,λ_ _ _ h=>s _ _ h⟩
theorem LK.updL {lw:Addr} {H:Hp} {ys:List V} {o:HO} (h:H lw=some (.lst ys)):LK lw H (L2.upd H lw o):=⟨TK.upd h,λx xs n e=>by rw[a0m n];exact e⟩
theorem LK.updD {lw d:Addr} {H:Hp} {u o:HO} (h:H d=some u) (n1:∀xs,HO.tup xs≠u) (n2:∀xs,HO.lst xs≠u):LK lw H (L2.upd H d o):=⟨λa xs e=>by rw[a0m (a1z e h (n1 _))];exact e,λx xs _ e=>by rw[a0m (a1z e h (n2 _))];exact e⟩
abbrev FE:=Fr × Addr × V
noncomputable def Ent (aF lw:Addr) (ps ws:List Int) (H:Hp) (p:FE):Prop:=FrA aF H p.1 p.2.1/\Rch ps ws p.1/\∃l xs,p.2.2=.ref l/\l≠lw/\H l=some (.lst xs)/\Mvs H xs (nxt ps ws p.1)
theorem Ent.lk {aF lw:Addr} {ps ws:List Int} {H H':Hp} {p:FE} (k:LK lw H H') (h:Ent aF lw ps ws H p):Ent aF lw ps ws H' p:=by
 obtain⟨h1,h2,l,xs,e,n,hl,hm⟩:=h;exact⟨h1.tk k.t,h2,l,xs,e,n,k.l _ _ n hl,Mvs.tk k.t hm⟩
noncomputable def DN (P:Program) (w:World) (H:Hp) (d:Addr) (kvs:List FE):Prop:=H d=some (NDO (a0n P w) d kvs)\/(H d=some (.dK [])/\kvs=[])
theorem DN.ob {P:Program} {w:World} {H:Hp} {d:Addr} {kvs:List FE} (h:DN P w H d kvs):∃o,H d=some o/\(∀xs,HO.tup xs≠o)/\∀xs,HO.lst xs≠o:=by
 rcases h with e|⟨e,_⟩
 ·exact⟨_,e,λxs z=>(by cases z),λxs z=>(by cases z)⟩
 ·exact⟨_,e,λxs z=>(by cases z),λxs z=>(by cases z)⟩
theorem DN.keep {P:Program} {w:World} {H H':Hp} {d:Addr} {kvs:List FE} (k:∀o,H d=some o->H' d=some o) (h:DN P w H d kvs):DN P w H' d kvs:=h.elim (λe=>.inl (k _ e)) λe=>.inr ⟨k _ e.1,e.2⟩
theorem b1J {kvs:List FE} {k:Fr} {v:V} (h:nval kvs k=some v):∃p∈kvs,p.1=k/\p.2.2=v:=by
 unfold nval at h;obtain⟨p,hp,e⟩:=b5q.mp h;exact⟨p,List.mem_of_find?_eq_some hp,by have:=List.find?_some hp;exact b4Q this,e⟩
theorem a4M {kvs:List FE} {k:Fr} (h:k∈kvs.map (·.1)):∃p∈kvs,p.1=k/\nval kvs k=some p.2.2:=by
 obtain⟨v,hv⟩:=Option.isSome_iff_exists.mp (a2u.mpr h);obtain⟨p,h1,h2,h3⟩:=b1J hv;exact⟨p,h1,h2,by rw[h3];exact hv⟩
theorem a7q {kvs:List FE} {k:Fr} {a:Addr} {v:V} (h:k∉kvs.map (·.1)):nput kvs k a v=kvs++[(k,a,v)]:=by
 unfold nput;rw[if_neg λz=>h (a2u.mp z)]
noncomputable def rNotF (P:Program) (w:World) (K:PySem.W.Frag):R2:=λx y H Q=>∃a d k kvs,x=.ref a/\y=.ref d/\DN P w H d kvs/\(∀p∈kvs,FAt K H p.1 p.2.1)/\FAt K H k a/\∀H',H'=upd H d (NDO (a0n P w) d kvs)->Q (.bl (!(nval kvs k).isSome)) H'
theorem b3W {X:Cx} {P:Program} {w:World} {K:PySem.W.Frag} (hu:X.A.units+2<cLine) (hP:X.prog=P:=by rfl) (hw:X.w=w:=by rfl) (hK:X.K=K:=by rfl):OpR X (compareOp .NotIn) (rNotF P w K):=by
 subst hP;subst hw;subst hK;intro pins s σ H x y v u Q I rx ry h;obtain⟨a,d,k,kvs,e1,e2,h1,h2,h3,q⟩:=h;exact b3r (N:=nkN X) hu pins s σ H x y v u Q I rx ry ⟨a,d,k,kvs,e1,e2,⟨h1,h2⟩,h3,q _ rfl⟩
noncomputable def sPutF (P:Program) (w:World) (K:PySem.W.Frag) (td ty tv:TE):TS:=λD σ H=>tv σ H λv H1=>td σ H1 λx H2=>ty σ H2 λy H3=>∃d a k kvs,x=.ref d/\y=.ref a/\DN P w H3 d kvs/\(∀p∈kvs,FAt K H3 p.1 p.2.1)/\FAt K H3 k a/\kvs.length<sizeLine/\∀H',H'=upd H3 d (NDO (a0n P w) d (nput kvs k a v))->D.nx σ H'
theorem b0i {X:Cx} {P:Program} {w:World} {K:PySem.W.Frag} {o i value:Expr} {pos pos':Pos} {td ty tv:TE} (hu:X.A.units+2<cLine) (ho:PE X o td) (hi:PE X i ty) (hv:PE X value tv) (hs:swapsWith value (some (.Subscript o i pos')) pos.line X.env=pure false) (m1:a2a td) (m2:a2a ty) (m3:a2a tv) (hP:X.prog=P:=by rfl) (hw:X.w=w:=by rfl) (hK:X.K=K:=by rfl) :
  PS X (.Assign [.Subscript o i pos'] value pos) (sPutF P w K td ty tv):=by
 subst hP;subst hw;subst hK;intro pins s σ H D I h;refine b3q (N:=nkN X) hu ho hi hv hs pins s σ H D I ?_;refine m3 _ _ _ _ (λv H1 h=>m1 _ _ _ _ (λx H2 h=>m2 _ _ _ _ (λy H3 h=>?_) h) h) h;obtain⟨d,a,k,kvs,e1,e2,h1,h2,h3,h4,q⟩:=h;exact⟨d,a,k,kvs,e1,e2,⟨h1,h2⟩,h3,h4,q _ rfl⟩
noncomputable def tGetF (P:Program) (w:World) (K:PySem.W.Frag) (td ty:TE):TE:=λσ H Q=>td σ H λx H1=>ty σ H1 λy H2=>∃d a k kvs v,x=.ref d/\y=.ref a/\DN P w H2 d kvs/\(∀p∈kvs,FAt K H2 p.1 p.2.1)/\FAt K H2 k a/\nval kvs k=some v/\Q v H2
theorem a4N {X:Cx} {P:Program} {w:World} {K:PySem.W.Frag} {o i:Expr} {pos:Pos} {td ty:TE} (hu:X.A.units+2<cLine) (ho:PE X o td) (hi:PE X i ty) (hs:NoSl i) (m1:a2a td) (m2:a2a ty) (hP:X.prog=P:=by rfl) (hw:X.w=w:=by rfl) (hK:X.K=K:=by rfl):PE X (.Subscript o i pos) (tGetF P w K td ty):=by
 subst hP;subst hw;subst hK;intro pins s σ H Q I h;refine b3s (N:=nkN X) hu ho hi hs pins s σ H Q I ?_;refine m1 _ _ _ _ (λx H2 h=>m2 _ _ _ _ (λy H3 h=>?_) h) h;obtain⟨d,a,k,kvs,v,e1,e2,h1,h2,h3,h4,q⟩:=h;exact⟨d,a,k,kvs,v,e1,e2,⟨h1,h2⟩,h3,h4,q⟩
section
variable {P:Program} {w:World} {K:PySem.W.Frag} {mg:Str->Option Value} {base:Heap} {f:Addr} {fd:FuncData}
theorem hu2 {A:Around} {k:Nat} (hr:a2h k A):A.units+2<cLine:=by have:=hu4 hr;omega
theorem a3D {n:Nat} (h:n<=2000):n<sizeLine:=b7K h (by decide)
abbrev NRe:List Str:=["prices","weights","reached","waiting","frontier"]
noncomputable def Wt (aF:Addr) (ps ws:List Int) (H:Hp) (x:V) (k:Fr):Prop:=∃a,x=.ref a/\FrA aF H k a/\Rch ps ws k
theorem Wt.tk {aF:Addr} {ps ws:List Int} {H H':Hp} {x:V} {k:Fr} (t:TK H H') (h:Wt aF ps ws H x k):Wt aF ps ws H' x k:=by
 obtain⟨a,e,h1,h2⟩:=h;exact⟨a,e,h1.tk t,h2⟩
theorem pwt {α β:Type} {R S:α->β->Prop}:∀{xs:List α} {ys:List β},(∀x y,y∈ys->R x y->S x y)->Paired R xs ys->Paired S xs ys
 | _,_,_,.nil=>.nil
 | _,_,h,.cons r t=>.cons (h _ _ (.head _) r) (pwt (λx y hy=>h x y (.tail _ hy)) t)
structure Rd (P:Program) (w:World) (aF lw:Addr) (ps ws:List Int) (H:Hp) (d:Addr) (kvs:List FE):Prop where
 dd:H d=some (NDO (a0n P w) d kvs)
 en:∀p∈kvs,Ent aF lw ps ws H p
 nd:(kvs.map (·.1)).Nodup
 all:∀k,k∈kvs.map (·.1)↔Rch ps ws k
 le:kvs.length<=1100
noncomputable def spRe (P:Program) (w:World) (aF:Addr):Sp:=λvs H Q _=>∃(p q:Addr) (ps ws:List Int),vs=[.ref p,.ref q]/\TW H p ps/\TW H q ws/\Wide ps ws /\
 ∀(d lw:Addr) kvs H',a0r H H'->H d=none->Rd P w aF lw ps ws H' d kvs->Q (.ref d) H'
theorem scRe:a0t NRe ["prices","weights"] (a0f a2S):=⟨rfl,rfl,rfl,by decide +kernel,rfl,by decide +kernel,by decide +kernel⟩
theorem ndRe:(("move":Str)::NRe).Nodup:=by decide +kernel
theorem a8l {aF bF:Addr} (F:Fun K "moves_reached" "moves_reached" a2S f fd) (FS:Fst K mg aF bF) (GM:Fns P w K mg base ["prices","weights","frontier"] "moves" (a4H K) 3) (ml:mg "len"=none):a1x P w K mg base CX0 4 f fd ["prices","weights"] (spRe P w aF):=by
 refine F.ok (k:=3) scRe (λvs H Q E h=>?_) (λcdv A outer s H vs Q E hr h=>?_)
 ·obtain⟨p,q,ps,ws,rfl,_⟩:=h;rfl
 obtain⟨p,q,ps,ws,rfl,hp,hq,W,qq⟩:=h;refine⟨_,a0e (a0q (i:=2) scRe.nd rfl (Or.inl rfl) a6J)
  (a0e (a0q (i:=3) scRe.nd rfl (Or.inl rfl) (a1N (a0a (a5H (v:=.ref aF) (by rfl) FS.m rfl) a0c)))
  (a0e (a4a b5Q (a0s b0I (a0j a0h (by rfl) ml b4P (a0a (pv 3) a0c)) a0g (nomark _))
   (a0e (a0q (i:=4) scRe.nd rfl (Or.inl rfl) (pe_bm0 b5x PySem.F.slot_list_pop PySem.F.type_list_pop mt_pop (pv 3)))
   (a0i (a0Y (a0s (b3W (P:=P) (w:=w) (K:=K) (hu2 hr)) (pv 4) (pv 2) rfl)
    (a0e (b0i (P:=P) (w:=w) (K:=K) (hu2 hr) (pv 2) (pv 4) (a2j (a0o GM.ok hr (by rfl) GM.m GM.kp GM.b .nil a0G (a0a (pv 0) (a0a (pv 1) (a0a (pv 4) a0c))))) rfl a0L a0L a2k)
    (a0i (a1r (a3K b5x PySem.F.slot_list_extend PySem.F.type_list_extend a8M (pv 3) (a0a (a2L (M:=NRe) rfl (a0k.of (a0f a2S) NRe rfl rfl rfl (by decide +kernel) (by decide +kernel) (by decide +kernel) rfl (by decide +kernel)) ndRe rfl (a2j (a4N (P:=P) (w:=w) (K:=K) (hu2 hr) (pv 2) (pv 4) (λ_ _=>rfl) a0L a0L)) a2k (λcl C s0 H0 fp=>⟨a0R,a0Q (ixT K) (pv 0) a0g (λ_ _=>rfl)⟩)) a0c))))) a0z))))
  (a0i (a0u (pv 2))))),?_⟩
 refine λd hd=>?_;have s1:=a0d hd (.dK []);have g1:upd H d (.dK []) d=some (.dK []):=a0b;generalize upd H d (.dK [])=H1 at s1 g1 ⊢;refine⟨(by show 1<=sizeLine;decide),λlw hlw=>?_⟩;have s2:=a0d hlw (.lst [.ref aF]);have g2:upd H1 lw (.lst [.ref aF]) lw=some (.lst [.ref aF]):=a0b;have hlw0:H lw=none:=s1.free hlw;have ndl:d≠lw:=λz=>by rw[<-z,g1] at hlw;cases hlw
 generalize upd H1 lw (.lst [.ref aF])=H2 at s2 g2 ⊢;refine⟨λm σ H'=>a0r H H'/\∃(kvs:List FE) (ys:List V) (ks:List Fr) (x4:Option V),σ=[some (.ref p),some (.ref q),some (.ref d),some (.ref lw),x4]/\DN P w H' d kvs/\(∀e∈kvs,Ent aF lw ps ws H' e)/\(kvs.map (·.1)).Nodup/\H' lw=some (.lst ys)/\Paired (Wt aF ps ws H') ys ks /\
   ((0,[0])∈kvs.map (·.1)\/(0,[0])∈ks)/\(∀k∈kvs.map (·.1),∀m∈nxt ps ws k,m.2.2∈kvs.map (·.1)\/m.2.2∈ks)/\kvs.length+pots ps ws ks<=1100/\m=pots ps ws ks,
  ⟨_,s1.trans s2,[],[.ref aF],[(0,[0])],_,rfl,.inr ⟨s2 _ _ g1,rfl⟩,λe he=>(by cases he),.nil,g2,.cons ⟨aF,rfl,.inr ⟨rfl,rfl⟩,.one⟩ .nil,.inr (.head _),λk hk=>(by cases hk),?_,rfl⟩,λm σ H3 hP=>?_⟩
 ·have:=b0g W;rw[a3B];show 0+(_+0)<=1100;omega
 obtain⟨s3,kvs,ys,ks,x4,rfl,hdn,hen,hnd,hlw3,hys,hf0,hcl,hle,rfl⟩:=hP;have ly:ys.length=ks.length:=hys.length;refine⟨_,rfl,lw,_,rfl,.inl (SqL.of hlw3),_,_,rfl,rfl,_,rfl,a2I (λc=>?_) (λc=>?_)⟩
 ·have nv:ys≠[]:=λz=>by rw[z] at c;exact absurd (b4Q c) (by decide)
  refine⟨_,λσ' H' z=>z,?_⟩;obtain⟨vs0,v,ks0,k,rfl,rfl,pe0,a,rfl,ha,hR⟩:=a3C hys nv;refine⟨_,rfl,.inl ⟨rfl,_,SqL.of hlw3⟩,lw,vs0++[.ref a],.ref a,rfl,rfl,hlw3,by simp,?_⟩;rw[List.dropLast_concat];have lk4:LK lw H3 (upd H3 lw (.lst vs0)):=LK.updL hlw3;have g4:upd H3 lw (.lst vs0) lw=some (.lst vs0):=a0b;have s4:a0r H (upd H3 lw (.lst vs0)):=a0w hlw0 s3;have dn4:DN P w (upd H3 lw (.lst vs0)) d kvs:=hdn.keep λo e=>by rw[a0m ndl];exact e
  generalize upd H3 lw (.lst vs0)=H4 at lk4 g4 s4 dn4 ⊢;have en4:=λe he=>(hen e he).lk lk4;have fr4:=ha.tk lk4.t;have pe4:=Paired.mapP pe0 λ_ _ z=>Wt.tk lk4.t z;have ep:pots ps ws (ks0++[k])=pots ps ws ks0+pot ps ws k:=by rw[a4L,a3B];rfl
  have kpos:=a6p (ps:=ps) (ws:=ws) (k:=k);refine⟨_,rfl,_,rfl,a,d,k,kvs,rfl,rfl,dn4,λe he=>(en4 e he).1.fat FS,fr4.fat FS,λH5 e5=>?_⟩;obtain⟨od,hod,no1,no2⟩:=dn4.ob;have lk5:LK lw H4 (upd H4 d (NDO (a0n P w) d kvs)):=LK.updD hod no1 no2;have s5:a0r H (upd H4 d (NDO (a0n P w) d kvs)):=a0w hd s4;have g5:upd H4 d (NDO (a0n P w) d kvs) lw=some (.lst vs0):=by rw[a0m (Ne.symm ndl)];exact g4
  have d5:upd H4 d (NDO (a0n P w) d kvs) d=some (NDO (a0n P w) d kvs):=a0b;rw[<-e5] at lk5 s5 g5 d5;clear e5;have en5:=λe he=>(en4 e he).lk lk5;have fr5:=fr4.tk lk5.t;have pe5:=Paired.mapP pe4 λ_ _ z=>Wt.tk lk5.t z;have okk:=hR.ok W;refine⟨_,rfl,a2I (λc1=>?_) (λc1=>?_)⟩
  ·have nk:k∉kvs.map (·.1):=λz=>by rw[a2u.mpr z] at c1;cases c1
   obtain⟨g,ak⟩:=fr5.ask FS W okk (s5 _ _ hp) (s5 _ _ hq);refine⟨λv H6=>∃l xs,v=.ref l/\a0r H5 H6/\H5 l=none/\H6 l=some (.lst xs)/\Mvs H6 xs (nxt ps ws k),⟨_,rfl,_,rfl,_,rfl,p,q,a,g,ps,ws,k.2,k.1,rfl,ak,λl H6 xs s6 hn6 hl6 hm6=>⟨l,xs,rfl,s6,hn6,hl6,hm6⟩⟩,λv H6 hv=>?_⟩;obtain⟨l,xs,rfl,s6,hn6,hl6,hm6⟩:=hv;have nl:l≠lw:=λz=>by rw[z,g5] at hn6;cases hn6
   have d6:=s6 _ _ d5;have g6:=s6 _ _ g5;have en6:=λe he=>(en5 e he).lk (LK.of s6);have fr6:=fr5.tk (TK.of s6);have pe6:=Paired.mapP pe5 λ_ _ z=>Wt.tk (TK.of s6) z;have sl:kvs.length<sizeLine:=a3D (by omega);refine⟨_,rfl,_,rfl,d,a,k,kvs,rfl,rfl,.inl d6,λe he=>(en6 e he).1.fat FS,fr6.fat FS,sl,λH7 e7=>?_⟩;rw[a7q nk] at e7;have lk7:LK lw H6 (upd H6 d (NDO (a0n P w) d (kvs++[(k,a,.ref l)]))):=LK.updD d6 (λxs z=>by cases z) (λxs z=>by cases z);have s7:a0r H (upd H6 d (NDO (a0n P w) d (kvs++[(k,a,.ref l)]))):=a0w hd (s5.trans s6);have g7:upd H6 d (NDO (a0n P w) d (kvs++[(k,a,.ref l)])) lw=some (.lst vs0):=by rw[a0m (Ne.symm ndl)];exact g6
   have d7:upd H6 d (NDO (a0n P w) d (kvs++[(k,a,.ref l)])) d=some (NDO (a0n P w) d (kvs++[(k,a,.ref l)])):=a0b;have en7:∀e∈kvs++[(k,a,.ref l)],Ent aF lw ps ws (upd H6 d (NDO (a0n P w) d (kvs++[(k,a,.ref l)]))) e:=λe he=>by
    rcases b4J.mp he with he|he
    ·exact(en6 e he).lk lk7
    ·rw[b4s.mp he];exact Ent.lk lk7 ⟨fr6,hR,l,xs,rfl,nl,hl6,hm6⟩
   have pe7:=Paired.mapP pe6 λ_ _ z=>Wt.tk lk7.t z;rw[<-e7] at lk7 s7 g7 d7 en7 pe7;clear e7;have ke:(kvs++[(k,a,V.ref l)]).map (·.1)=kvs.map (·.1)++[k]:=by rw[b4D];rfl
   have nd7:((kvs++[(k,a,V.ref l)]).map (·.1)).Nodup:=by
    rw[ke];exact b9R.mpr ⟨hnd,b5c _ _,λx hx y hy e=>nk (by rw[<-b4s.mp hy,<-e];exact hx)⟩
   obtain⟨e7,he7,ek,nv7⟩:=a4M (kvs:=kvs++[(k,a,V.ref l)]) (k:=k) (by rw[ke];simp);obtain⟨_,_,l7,xs7,ev,_,hl7,hm7⟩:=en7 e7 he7;rw[ek] at hm7;rw[ev] at nv7;refine⟨_,rfl,.inl ⟨rfl,_,SqL.of g7⟩,λv H'=>v=.ref l7/\H7=H',⟨_,rfl,_,rfl,d,a,k,_,_,rfl,rfl,.inl d7,λe he=>(en7 e he).1.fat FS,(fr6.tk lk7.t).fat FS,nv7,rfl,rfl⟩,λv H' hv=>?_⟩;obtain⟨rfl,rfl⟩:=hv;have lx:xs7.length=(nxt ps ws k).length:=hm7.length;have lxx:(nxt ps ws k).length<=100:=by
    have:=a4E ps ws k.1 k.2 (ps.length-1);have e:(nxt ps ws k).length=(rws ps ws k.1 k.2 (ps.length-1)).length:=b4p ..;have:=W.p6;omega
   refine⟨l7,xs7,rfl,SqL.of hl7,λd2 hd2=>?_⟩;refine⟨λi H'=>a0r H7 H'/\∃zs,H' d2=some (.lst zs)/\Paired (a6a H') zs (((nxt ps ws k).take i).map (·.2.2)),⟨a0d hd2 _,[],a0b,.nil⟩,λi H' _ hP=>SqL.of (hP.1 _ _ hl7),λi x H' hx hP=>?_,λH8 hP=>?_⟩
   ·obtain⟨s8,zs,hz,pz⟩:=hP;obtain⟨m,hm,mx⟩:=Paired.right_of hm7 i x hx;obtain⟨t,fx,rfl,ht,hfx⟩:=a3L.open (a3L.tk (TK.of s8) mx);have lz:zs.length<=100:=by
     have:=pz.length;rw[this,b4p,b4L];omega
    refine a0V ⟨_,rfl,t,_,_,_,rfl,rfl,SqT.of ht,rfl,zs,hz,a0l (by omega),a0w hd2 s8,_,a0b,?_⟩;have tk:((nxt ps ws k).take (i+1)).map (·.2.2)=((nxt ps ws k).take i).map (·.2.2)++[m.2.2]:=by rw[b5e,hm,b4D];rfl
    rw[tk];exact L2.Paired.appendP (Paired.mapP pz λ_ _ z=>a6a.tk (TK.upd hz) z) (.cons (a6a.tk (TK.upd hz) hfx) .nil)
   ·obtain⟨s8,zs,hz,pz⟩:=hP;rw[lx,b5z] at pz;have lz:zs.length<=100:=by
     have:=pz.length;rw[this,b4p];omega
    have g8:=s8 _ _ g7;have st:=b1E W okk;have lp:=a7m (ps:=ps) (ws:=ws) (ks:=ks0);have lv:vs0.length=ks0.length:=pe0.length;rw[ep] at hle;refine⟨lw,d2,vs0,zs,rfl,rfl,g8,hz,b6K (a3D (by omega)),?_⟩;refine⟨_,?_,a0w hlw0 (s7.trans s8),kvs++[(k,a,.ref l)],vs0++zs,ks0++(nxt ps ws k).map (·.2.2),_,rfl,.inl ?_,?_,nd7,a0b,?_,?_,?_,?_,rfl⟩
    ·rw[a4L,ep];omega
    ·rw[a0m ndl];exact s8 _ _ d7
    ·exact λe he=>((en7 e he).lk (LK.of s8)).lk (LK.updL g8)
    ·refine L2.Paired.appendP (Paired.mapP pe7 λ_ _ z=>(z.tk (TK.of s8)).tk (TK.upd g8)) ?_;refine pwt (λx m hm hx=>?_) pz;obtain⟨m',hm',rfl⟩:=b4F.mp hm;obtain⟨b,rfl,hb⟩:=FrA.of (aF:=aF) (a6a.tk (TK.upd (o:=.lst (vs0++zs)) g8) hx);exact⟨b,rfl,hb,.step hR hm'⟩
    ·rcases hf0 with z|z
     ·exact .inl (by rw[ke];exact b5t _ z)
     ·rcases b4J.mp z with z|z
      ·exact .inr (b5t _ z)
      ·exact .inl (by rw[ke,b4s.mp z];simp)
    ·intro k' hk' m' hm';rw[ke] at hk' ⊢;rcases b4J.mp hk' with z|z
     ·rcases hcl k' z m' hm' with y|y
      ·exact .inl (b5t _ y)
      ·rcases b4J.mp y with y|y
       ·exact .inr (b5t _ y)
       ·exact .inl (by rw[b4s.mp y];simp)
     ·rw[b4s.mp z] at hm';exact .inr (b4E _ (b4F.mpr ⟨m',hm',rfl⟩))
    ·rw[a4L,b4A];show kvs.length+1+_<=_;omega
  ·have ik:k∈kvs.map (·.1):=by
    refine a2u.mp ?_;cases hz:(nval kvs k).isSome with
    | true=>rfl
    | false=>rw[hz] at c1;exact absurd rfl c1
   refine⟨_,?_,s5,kvs,vs0,ks0,_,rfl,.inl d5,en5,hnd,g5,pe5,?_,?_,?_,rfl⟩
   ·omega
   ·rcases hf0 with z|z
    ·exact .inl z
    ·rcases b4J.mp z with z|z
     ·exact .inr z
     ·exact .inl (by rw[b4s.mp z];exact ik)
   ·intro k' hk' m' hm';rcases hcl k' hk' m' hm' with y|y
    ·exact .inl y
    ·rcases b4J.mp y with y|y
     ·exact .inr y
     ·exact .inl (by rw[b4s.mp y];exact ik)
   ·omega
 ·have nv:ys=[]:=by
   cases ys with
   | nil=>rfl
   | cons y t=>exact absurd (b4W (by simp only[b5l];omega)) c
  rw[nv] at ly;have zk:ks=[]:=b5C.mp ly.symm;subst zk;have f0:(0,[0])∈kvs.map (·.1):=hf0.elim id λz=>by cases z
  have d3:H3 d=some (NDO (a0n P w) d kvs):=hdn.elim id λ⟨_,z⟩=>by rw[z] at f0;cases f0
  refine⟨_,rfl,qq d lw kvs H3 s3 hd ⟨d3,hen,hnd,λk=>⟨λhk=>?_,λhk=>a8i f0 (λk hk m hm=>(hcl k hk m hm).elim id λz=>by cases z) hk⟩,by omega⟩⟩;obtain⟨e,he,rfl⟩:=b4F.mp hk;exact(hen e he).2.1
end
noncomputable def b0j:Expr:=match a0O a1H with
 | [_,_,.For _ (.Call _ _ [⟨_,e,_⟩,_] _) _ _ _,_]=>e
 | _=>.Constant .none 0 ⟨0,0,0,0⟩
noncomputable def lamP3:Arguments:=match b0j with | .Lambda p _ _ _=>p|_=>a0X a1H
noncomputable def lamB3:Expr:=match b0j with | .Lambda _ b _ _=>b|e=>e
noncomputable def b0k:Scope:=match b0j with | .Lambda _ _ s _=>s|_=>a0f a1H
noncomputable def b3X:Pos:=match b0j with | .Lambda _ _ _ p=>p|_=>⟨0,0,0,0⟩
abbrev b1K:Str:=(("frontier_floors":Str)++".<locals>.")++"<lambda>"
abbrev lamK3 (c':Addr) (pm ctv:Value):Obj:=PySem.W.kla_obj "<lambda>" b1K lamP3 lamB3 b0k [] pm c' ctv
example:b0j=.Lambda lamP3 lamB3 b0k b3X:=rfl
theorem scLam3:a2p b0k ["one"] []:=⟨rfl,rfl,rfl,(by show(["one"]:List Str).Nodup;decide +kernel),by decide +kernel,by decide +kernel,(by show ∀y∈b0k.names,y.2=.free->y.1∈([]:List Str);decide +kernel),(by show ∀x∈([]:List Str),b0k.names.lookup x=some .free;decide +kernel)⟩
noncomputable def lamR3 (K:PySem.W.Frag):Addr->List V->Hp->VK->Prop:=λg vs H Q=>∃(c':Addr) (pm ctv:Value) (a:Addr) (k:Fr),H g=some (exA g (lamK3 c' pm ctv))/\H c'=some (cdA c' b1K)/\vs=[.ref a]/\FAt K H k a /\
 ∀t H',a0r H H'->H' t=some (.tup [.int k.1,.int (k.2.length:Int)])->Q (.ref t) H'
theorem b0l {H:Hp}:unt [] H=H:=funext λb=>a0A (by simp)
section
variable {P:Program} {w:World} {K:PySem.W.Frag} {mg:Str->Option Value} {base:Heap} {f:Addr} {fd:FuncData}
theorem b3Y (ml:mg "len"=none):a6b P w K mg base 1 (lamR3 K) where
 at':=λ⟨c',pm,ctv,a,k,e,_⟩=>⟨_,_,_,_,e⟩
 run:=λA outer s H g us vs Q hr e0 r' h=>by
  obtain⟨c',pm,ctv,a,k,eg,ec',rfl,hk,q⟩:=h;have lu:us.length=1:=by rw[<-r'.length];rfl
  refine a2Q (k:=0) (cvs:=[]) scLam3 hr e0 eg ec' (by simp) (λj x c0 hj=>by simp at hj) rfl r' rfl ?_ λxe hr'=>⟨_,a1s (a0a (a0Q (ixT K) (pv 0) a0g (λ_ _=>rfl)) (a0a (a0j a0h (by rfl) ml b4P (a0a (a0Q (ixT K) (pv 0) a0g (λ_ _=>rfl)) a0c)) a0c)),?_⟩
  ·match us,lu with
   | [u1],_=>rfl
  ·obtain⟨b,h1,h2⟩:=hk;have e1:SqT K (unt [] H) a [.int k.1,.ref b]:=by rw[b0l];exact h1
   have e2:SqT K (unt [] H) b (k.2.map V.int):=by rw[b0l];exact h2
   refine⟨_,rfl,a,_,_,_,rfl,rfl,e1,(rfl:atI [V.int k.1,.ref b] 0=_),_,rfl,a,_,_,_,rfl,rfl,e1,(rfl:atI [V.int k.1,.ref b] 1=_),b,_,rfl,.inr e2,(by show 2<=sizeLine;decide),λt2 ht2 hn=>?_⟩;refine q t2 _ (a2T (a0d ht2 _)) (a4J hn ?_);rw[a0b,b4p]
end
theorem Kp.lk {S:Tbs} {lw:Addr} {H H':Hp} (k:Kp S H H'):LK lw H H':=⟨k.tk,λ_ _ _ e=>k.lst e⟩
section
variable {P:Program} {w:World} {K:PySem.W.Frag} {mg:Str->Option Value} {base:Heap} {f:Addr} {fd:FuncData}
abbrev NFl:List Str:=["prices","weights","reached","floors","frontier"]
structure Told (aF:Addr) (ps ws:List Int) (H:Hp) (us:List FE):Prop where
 en:∀p∈us,FrA aF H p.1 p.2.1/\p.2.2=.int (flo ps ws p.1)
 up:(us.map (·.1)).Pairwise LxP
 nd:(us.map (·.1)).Nodup
 all:∀k,k∈us.map (·.1)↔Rch ps ws k
 le:us.length<=1100
noncomputable def spFl (aF:Addr) (S:Tbs):Sp:=λvs H Q _=>∃(p q:Addr) (ps ws:List Int),vs=[.ref p,.ref q]/\TW H p ps/\TW H q ws/\Wide ps ws/\Tb S H /\
 ∀(d:Addr) out us H',Kp S H H'->(∀o,(∀zs,o≠.tbl zs)->H d≠some o)->H' d=some (.lst out)->Paired (IPr H') out us->Told aF ps ws H' us->Q (.ref d) H'
theorem scFl:a0t NFl ["prices","weights"] (a0f a1H):=⟨rfl,rfl,rfl,by decide +kernel,rfl,by decide +kernel,by decide +kernel⟩
theorem ndFl:(("move":Str)::NFl).Nodup:=by decide +kernel
noncomputable def kf (p:FE):List Int:=[p.1.1,(p.1.2.length:Int)]
theorem lex2 {a b c d:Int} (h:a<c\/(a=c/\b<d)):HT.a0I [a,b] [c,d]=true:=by
 simp only[HT.a0I];rcases h with h|⟨h1,h2⟩
 ·simp[h,Int.ne_of_lt h]
 ·simp[h1,h2,Int.ne_of_lt h2]
noncomputable def flE (ps ws:List Int) (l:List FE):List FE:=l.map λp=>(p.1,p.2.1,V.int (flo ps ws p.1))
theorem a2V {ps ws:List Int} {l:List FE}:(flE ps ws l).map (·.1)=l.map (·.1):=by
 unfold flE;rw[b5A];rfl
theorem a3E {ps ws:List Int} {l:List FE} {e:FE} (h:e∈flE ps ws l):∃p∈l,e=(p.1,p.2.1,V.int (flo ps ws p.1)):=by
 obtain⟨p,hp,rfl⟩:=b4F.mp h;exact⟨p,hp,rfl⟩
noncomputable def SX (d:Addr) (H H':Hp):Prop:=∀b o,b≠d->H b=some o->H' b=some o
theorem SX.upd {d:Addr} {H H':Hp} {o:HO} (h:SX d H H'):SX d H (L2.upd H' d o):=λb u n e=>by rw[a0m n];exact h b u n e
theorem SX.then {d:Addr} {H H1 H2:Hp} (h:SX d H H1) (s:a0r H1 H2):SX d H H2:=λb u n e=>s _ _ (h b u n e)
theorem SX.lk {d lw:Addr} {H H':Hp} {u:HO} (h:SX d H H') (hd:H d=some u) (n1:∀xs,HO.tup xs≠u) (n2:∀xs,HO.lst xs≠u):LK lw H H':=⟨λa xs e=>h a _ (a1z e hd (n1 _)) e,λa xs _ e=>h a _ (a1z e hd (n2 _)) e⟩
theorem before {ps ws:List Int} (W:Wide ps ws) {out:List FE} {i:Nat} {e:FE} (hi:out[i]?=some e) (pw:out.Pairwise (NOrd true kf)) (all:∀k,k∈out.map (·.1)↔Rch ps ws k) {m:Mv} (hm:m∈nxt ps ws e.1):m.2.2∈(out.take i).map (·.1):=by
 have he:Rch ps ws e.1:=(all _).mp (b4F.mpr ⟨e,b4B hi,rfl⟩);have up:=(a2t W (he.ok W) hm).2;obtain⟨e2,h2,ek⟩:=b4F.mp ((all _).mpr (he.step hm));obtain⟨j,hj,ej⟩:=b6i.mp h2;obtain⟨hil,ei⟩:=b4u.mp hi;rw[<-ek] at up ⊢;rcases Nat.lt_trichotomy j i with c|c|c
 ·refine b4F.mpr ⟨e2,?_,rfl⟩;rw[<-ej];exact b6i.mpr ⟨j,by rw[b4L];omega,by rw[List.getElem_take]⟩
 ·subst c;rw[<-ej,ei] at up;omega
 ·have:=b5D.mp pw i j hil hj c;rw[ei,ej] at this;unfold NOrd at this;rw[if_pos rfl] at this;have y:HT.a0I (kf e) (kf e2)=true:=lex2 (by rcases up with z|z;(exact .inl z);exact .inr ⟨z.1,by omega⟩);rw[y] at this;cases this
theorem b0m {S:Tbs} {aF bF T c0 bm:Addr} (F:Fun K "frontier_floors" "frontier_floors" a1H f fd) (hcd:fd.code=.ref c0) (LC:b2o K mg base c0 T bm) (nd:Dst S) (mT:(T,b3X,b1K)∈S) (FS:Fst K mg aF bF) (GR:Fns P w K mg base ["prices","weights"] "moves_reached" (spRe P w aF) 4) (ml:mg "len"=none) (mS:mg "sorted"=none) (mn:mg "min"=none):a1x P w K mg base CX0 5 f fd ["prices","weights"] (spFl aF S):=by
 refine F.okC (k:=4) scFl (λvs H Q E h=>?_) (λA outer s H vs Q E hr h=>?_)
 ·obtain⟨p,q,ps,ws,rfl,_⟩:=h;rfl
 obtain⟨p,q,ps,ws,rfl,hp,hq,W,tab,qq⟩:=h;have LM:a9l (a5G CX0 P w K mg base NFl "frontier_floors" (a0f a1H) f fd.code A outer s H E).nox c0 T bm:=⟨hcd,LC.hd,LC.hbm,LC.bo,LC.b1,LC.b2,LC.b3,LC.b4⟩
 have hu10:(a5G CX0 P w K mg base NFl "frontier_floors" (a0f a1H) f fd.code A outer s H E).nox.A.units+10<cLine:=by
  have:=hr.un;exact b7K (b8l (show 10<=16*4+200 by decide) _) this
 refine⟨_,a0e (a0q (i:=2) scFl.nd rfl (Or.inl rfl) (a0o GR.ok hr (by rfl) GR.m GR.kp GR.b .nil a0G (a0a (pv 0) (a0a (pv 1) a0c))))
  (a0e (a0q (i:=3) scFl.nd rfl (Or.inr rfl) a6J)
  (a0e (a1K b5Q rfl (a1Z (a9x (knd:=a0n P w) (Rg:=λ_=>lamR3 K) (λσ=>a7X.of (b3Y ml) (hr.mono (by omega))) rfl (by rfl) mS (pv 2) (a2y (a6T LM (clos:=[]) rfl) (a2y a2v a4W)))) (a0F (i:=4) scFl.nd rfl (Or.inl rfl))
   (a0i (b0i (P:=P) (w:=w) (K:=K) (hu2 hr) (pv 3) (pv 4) (a2j (b3x rfl (by rfl) mn (a0a (a2L (M:=NFl) rfl (a0k.of (a0f a1H) NFl rfl rfl rfl (by decide +kernel) (by decide +kernel) (by decide +kernel) rfl (by decide +kernel)) ndFl rfl (a2j (a4N (P:=P) (w:=w) (K:=K) (hu2 hr) (pv 2) (pv 4) (λ_ _=>rfl) a0L a0L)) a2k
     (λcl C s0 H0 fp=>⟨a0R,a0p a0M (a0Q (ixT K) (pv 0) a0g (λ_ _=>rfl)) (a4N (P:=P) (w:=w) (K:=K) (hu2 hr) (pv 4) (a2j (a0Q (ixT K) (pv 0) a0g (λ_ _=>rfl))) (λ_ _=>rfl) a0L a2k)⟩)) a0c) (a2y a0g a4W))) rfl a0L a0L a2k)))
  (a0i (a0u (b1k rfl hu10 (by rfl) mS (pv 3)))))),?_⟩
 refine⟨_,rfl,_,rfl,p,q,ps,ws,rfl,hp,hq,W,λdR lw kvs H1 s1 hnR rd=>?_⟩;refine λdF hdF=>?_;have s2:=a0d hdF (.dK []);have g2:upd H1 dF (.dK []) dF=some (.dK []):=a0b;have hdF0:H dF=none:=s1.free hdF;generalize upd H1 dF (.dK [])=H2 at s2 g2 ⊢;have s02:=s1.trans s2;refine⟨_,rfl,a4I s02 (tab _ mT),λc' pm ctv g H3 LH=>?_⟩;have k3:Kp S H2 H3:=Kp.lam nd mT (λu hu=>a4I s02 (tab u hu)) LH;have k03:Kp S H H3:=(Kp.of tab s02).trans k3;have en3:∀e∈kvs,Ent aF lw ps ws H3 e:=λe he=>((rd.en e he).lk (LK.of s2)).lk k3.lk;have dR3:H3 dR=some (NDO (a0n P w) dR kvs):=k3.sm _ _ (by intro _ z;cases z) (s2 _ _ rd.dd);have dF3:H3 dF=some (.dK []):=k3.sm _ _ (by intro _ z;cases z) g2;refine⟨dR,g,true,kvs,kf,rfl,rfl,dR3,by have:=rd.le;omega,λe he H5 Q1 s5 q1=>⟨c',pm,ctv,e.2.1,e.1,s5 _ _ LH.ob,s5 _ _ LH.cd,rfl,((en3 e he).1.tk (TK.of s5)).fat FS,q1⟩,λe he z=>(by cases z),λd2 out H4 s4 hn4 hl4 perm pw=>?_⟩;have en4:∀e∈kvs,Ent aF lw ps ws H4 e:=λe he=>(en3 e he).lk (LK.of s4);have k04:Kp S H H4:=k03.then s4;have dR4:=s4 _ _ dR3;have dF4:=s4 _ _ dF3;have nRF:dR≠dF:=λz=>by rw[z,dF4] at dR4;cases dR4
 have n2F:d2≠dF:=λz=>by rw[z,dF4] at hl4;cases hl4
 have mo:∀e,e∈out↔e∈kvs:=λe=>perm.mem_iff;have pk:(out.map (·.1)).Perm (kvs.map (·.1)):=perm.map _;have ndo:(out.map (·.1)).Nodup:=pk.nodup_iff.mpr rd.nd;have allo:∀k,k∈out.map (·.1)↔Rch ps ws k:=λk=>pk.mem_iff.trans (rd.all k);have lo:out.length=kvs.length:=perm.length_eq;have le:=rd.le;have t1:∀xs,HO.tup xs≠HO.dK []:=λxs z=>by cases z
 have t2:∀xs,HO.lst xs≠HO.dK []:=λxs z=>by cases z
 refine⟨d2,rfl,⟨_,SqL.of hl4⟩,?_⟩;refine a2K (xs:=out.map λp=>V.ref p.2.1) (λi σ H'=>SX dF H4 H'/\DN P w H' dF (flE ps ws (out.take i))/\∃x4:Option V,σ=[some (.ref p),some (.ref q),some (.ref dR),some (.ref dF),x4])
  ⟨λb o _ e=>e,.inr ⟨dF4,rfl⟩,_,rfl⟩ (λi σ H' _ hP=>SqL.of (hP.1 _ _ n2F hl4)) (λi x σ H5 hx hP=>?_) (λσ H5 hP=>?_)
 ·obtain⟨x5,dn5,x4,rfl⟩:=hP;rw[b4C] at hx;obtain⟨e,he,rfl⟩:=b5q.mp hx;have il:=(b4u.mp he).1;have em:e∈kvs:=(mo e).mp (b4B he);have lk5:LK lw H4 H5:=x5.lk dF4 t1 t2;have en5:∀e∈kvs,Ent aF lw ps ws H5 e:=λe he=>(en4 e he).lk lk5;have dR5:=x5 _ _ nRF dR4;obtain⟨fr5,hR,_⟩:=en5 e em;obtain⟨e',he',ek,nv⟩:=a4M (b4F.mpr ⟨e,em,rfl⟩:e.1∈kvs.map (·.1));obtain⟨_,_,l,xs,ev,nl,hl,hm⟩:=en5 e' he';rw[ek] at hm;rw[ev] at nv;have lx:xs.length=(nxt ps ws e.1).length:=hm.length;have lxx:(nxt ps ws e.1).length<=100:=by
   have:=a4E ps ws e.1.1 e.1.2 (ps.length-1);have e:(nxt ps ws e.1).length=(rws ps ws e.1.1 e.1.2 (ps.length-1)).length:=b4p ..;have:=W.p6;omega
  have lF:l≠dF:=by
   obtain⟨o,ho,_,n2⟩:=dn5.ob;exact a1z hl ho (n2 _)
  have fat5:∀e'∈flE ps ws (out.take i),FrA aF H5 e'.1 e'.2.1:=λe' he'=>by
   obtain⟨p',hp',rfl⟩:=a3E he';exact(en5 p' ((mo p').mp (b6k hp'))).1
  refine⟨λv H'=>v=.int (flo ps ws e.1)/\a0r H5 H',?_,λv H6 hv=>?_⟩
  ·refine⟨λv H'=>v=.ref l/\H5=H',⟨_,rfl,_,rfl,dR,e.2.1,e.1,kvs,_,rfl,rfl,.inl dR5,λe' he'=>(en5 e' he').1.fat FS,fr5.fat FS,nv,rfl,rfl⟩,λv H' hv=>?_⟩;obtain⟨rfl,rfl⟩:=hv;refine⟨l,xs,rfl,SqL.of hl,λd3 hd3=>?_⟩;refine⟨λj H'=>a0r H5 H'/\H' d3=some (.lst ((((nxt ps ws e.1).take j).map λm=>m.2.1+flo ps ws m.2.2).map V.int)),⟨a0d hd3 _,a0b⟩,λj H' _ hP=>SqL.of (hP.1 _ _ hl),λj x H' hx hP=>?_,λH' hP=>?_⟩
   ·obtain⟨s6,hz⟩:=hP;obtain⟨m,hmm,mx⟩:=Paired.right_of hm j x hx;obtain⟨t,fx,rfl,ht,hfx⟩:=a3L.open (a3L.tk (TK.of s6) mx);obtain⟨b,rfl,hb⟩:=FrA.of (aF:=aF) hfx;have bf:=before W he pw allo (b4B hmm);obtain⟨e2,he2,ek2,nv2⟩:=a4M (kvs:=flE ps ws (out.take i)) (k:=m.2.2) (by rw[a2V];exact bf);obtain⟨p2,hp2,rfl⟩:=a3E he2;have ek2:p2.1=m.2.2:=ek2;rw[show((p2.1,p2.2.1,V.int (flo ps ws p2.1)):FE).2.2=V.int (flo ps ws p2.1) from rfl,ek2] at nv2;refine a0V ⟨_,rfl,t,_,_,_,rfl,rfl,SqT.of ht,(rfl:atI [V.int m.1,.int m.2.1,.ref b] 1=_),_,rfl,λv H7=>v=.ref b/\H'=H7,⟨_,rfl,t,_,_,_,rfl,rfl,SqT.of ht,(rfl:atI [V.int m.1,.int m.2.1,.ref b] 2=_),rfl,rfl⟩,λv H7 hv=>?_⟩;obtain⟨rfl,rfl⟩:=hv;refine⟨dF,b,m.2.2,flE ps ws (out.take i),_,rfl,rfl,dn5.keep λo z=>s6 _ _ z,λe' he'=>((fat5 e' he').tk (TK.of s6)).fat FS,hb.fat FS,nv2,_,_,rfl,rfl,_,hz,?_,a0w hd3 s6,?_⟩
    ·rw[b4p,b4p,b4L];exact a0l (by omega)
    ·rw[a0b,b5e,hmm,b4D,b4D];rfl
   ·obtain⟨s6,hz⟩:=hP;rw[lx,b5z] at hz;refine⟨d3,_,0,rfl,rfl,hz,?_,s6⟩;rw[a5D W (hR.ok W)];rfl
  ·obtain⟨rfl,s6⟩:=hv;have dn6:DN P w H6 dF (flE ps ws (out.take i)):=dn5.keep λo z=>s6 _ _ z;have fat6:=λe' he'=>((fat5 e' he').tk (TK.of s6))
   have len:(flE ps ws (out.take i)).length<=1100:=by unfold flE;rw[b4p,b4L];omega
   have nk:e.1∉(flE ps ws (out.take i)).map (·.1):=λz=>by
    rw[a2V] at z;obtain⟨e2,he2,ek2⟩:=b4F.mp z;obtain⟨j,hj,ej⟩:=b6i.mp he2;rw[b4L] at hj;rw[List.getElem_take] at ej;have ei:out[i]=e:=(b4u.mp he).2;have:=b5D.mp ndo j i (by rw[b4p];omega) (by rw[b4p];omega) (by omega);rw[b5m,b5m,ej,ei] at this;exact this ek2
   refine⟨_,rfl,_,rfl,dF,e.2.1,e.1,flE ps ws (out.take i),rfl,rfl,dn6,λe' he'=>(fat6 e' he').fat FS,(fr5.tk (TK.of s6)).fat FS,a3D (by omega),λH7 e7=>?_⟩;rw[a7q nk] at e7;subst e7;refine⟨(x5.then s6).upd,.inl ?_,_,rfl⟩;rw[a0b,b5e,he];unfold flE;rw[b4D];rfl
 ·obtain⟨x5,dn5,x4,rfl⟩:=hP;rw[b4p,b5z] at dn5;have f0:(0,[0])∈out.map (·.1):=(allo _).mpr .one;have dF5:H5 dF=some (NDO (a0n P w) dF (flE ps ws out)):=dn5.elim id λ⟨_,z⟩=>by
   rw[<-a2V (ps:=ps) (ws:=ws),z] at f0;cases f0
  have lk5:LK lw H4 H5:=x5.lk dF4 t1 t2;have fat5:∀e'∈flE ps ws out,FrA aF H5 e'.1 e'.2.1:=λe' he'=>by
   obtain⟨p',hp',rfl⟩:=a3E he';exact((en4 p' ((mo p').mp hp')).lk lk5).1
  have ll:(flE ps ws out).length<=1100:=by unfold flE;rw[b4p];omega
  have k05:Kp S H H5:=by
   refine⟨λa o n z=>x5 _ _ (λy=>by rw[y,hdF0] at z;cases z) (k04.sm _ _ n z),?_⟩;intro u hu;rcases k04.tb u hu with z|⟨c2,z1,z2⟩
   ·exact .inl (x5 _ _ (a1z z dF4 (by intro y;cases y)) z)
   ·exact .inr ⟨c2,x5 _ _ (a1z z1 dF4 (by intro y;cases y)) z1,x5 _ _ (a1z z2 dF4 (by intro y;cases y)) z2⟩
  refine⟨_,rfl,dF,flE ps ws out,rfl,dF5,by omega,λe' he'=>⟨(fat5 e' he').fat FS,?_⟩,λd3 out' us H6 s6 hn6 hl6 perm6 up6 pr6=>?_⟩
  ·obtain⟨p',hp',rfl⟩:=a3E he';exact⟨_,rfl⟩
  ·have pk6:(us.map (·.1)).Perm (out.map (·.1)):=by
    have:=perm6.map (λx:FE=>x.1);rw[a2V] at this;exact this
   have n6:∀o,(∀zs,o≠.tbl zs)->H d3≠some o:=λo n z=>by
    have:=k05.sm _ _ n z;rw[hn6] at this;cases this
   refine qq d3 out' us H6 (k05.then s6) n6 hl6 pr6 ⟨λe' he'=>?_,up6,pk6.nodup_iff.mpr ndo,λk=>pk6.mem_iff.trans (allo k),by rw[perm6.length_eq];exact ll⟩;have he2:=perm6.mem_iff.mp he';refine⟨(fat5 e' he2).tk (TK.of s6),?_⟩;obtain⟨p',hp',rfl⟩:=a3E he2;rfl
end
noncomputable def b0n:Expr:=match a0O sFm with
 | [_,_,_,.While _ (.Assign _ (.Call _ _ [⟨_,e,_⟩] _) _::_) _ _,_]=>e
 | _=>.Constant .none 0 ⟨0,0,0,0⟩
noncomputable def lamP4:Arguments:=match b0n with | .Lambda p _ _ _=>p|_=>a0X sFm
noncomputable def lamB4:Expr:=match b0n with | .Lambda _ b _ _=>b|e=>e
noncomputable def b0o:Scope:=match b0n with | .Lambda _ _ s _=>s|_=>a0f sFm
noncomputable def b3Z:Pos:=match b0n with | .Lambda _ _ _ p=>p|_=>⟨0,0,0,0⟩
abbrev b1L:Str:=(("free_moves":Str)++".<locals>.")++"<lambda>"
abbrev lamK4 (c:Addr) (c':Addr) (pm ctv:Value):Obj:=PySem.W.kla_obj "<lambda>" b1L lamP4 lamB4 b0o [("floors",c)] pm c' ctv
example:b0n=.Lambda lamP4 lamB4 b0o b3Z:=rfl
theorem scLam4 (c:Addr):a2p b0o ["move"] [("floors",c)]:=⟨rfl,rfl,rfl,(by show(["move","floors"]:List Str).Nodup;decide +kernel),by decide +kernel,by decide +kernel,(by show ∀y∈b0o.names,y.2=.free->y.1∈(["floors"]:List Str);decide +kernel),(by show ∀x∈(["floors"]:List Str),b0o.names.lookup x=some .free;decide +kernel)⟩
noncomputable def lamR4 (P:Program) (w:World) (K:PySem.W.Frag):Addr->List V->Hp->VK->Prop:=λg vs H Q=>∃(c c':Addr) (pm ctv:Value) (o:Obj) (u:Value) (dF:Addr) (kvs:List FE) (x:V) (m:Mv) (n:Int),H g=some (exA g (lamK4 c c' pm ctv))/\H c'=some (cdA c' b1L)/\H c=some (exA c o)/\o.data=.cell (some u)/\a0T (.ref dF) u/\vs=[x]/\a3L H x m/\dF≠c/\H dF=some (NDO (a0n P w) dF kvs)/\(∀p∈kvs,FAt K H p.1 p.2.1)/\nval kvs m.2.2=some (.int n) /\
 ∀H',a0r H H'->Q (.int (m.2.1+n)) H'
theorem b0p {K:PySem.W.Frag} {H:Hp} {c a:Addr} {o:Obj} {xs:List V} (hc:H c=some (exA c o)) (h:SqT K H a xs):SqT K (unt [c] H) a xs:=by
 rcases h with (e|⟨ob,e⟩)|r
 ·exact .inl (.inl ((a0A λz=>by rw[b4s.mp z,hc] at e;cases e).trans e))
 ·exact .inl (.inr ⟨ob,(a0A λz=>by rw[b4s.mp z,hc] at e;cases e).trans e⟩)
 ·exact .inr r
section
variable {P:Program} {w:World} {K:PySem.W.Frag} {mg:Str->Option Value} {base:Heap} {f:Addr} {fd:FuncData}
theorem b4a:a6b P w K mg base 1 (lamR4 P w K) where
 at':=λ⟨c,c',pm,ctv,o,u,dF,kvs,x,m,n,e,_⟩=>⟨_,_,_,_,e⟩
 run:=λA outer s H g us vs Q hr e0 r' h=>by
  obtain⟨c,c',pm,ctv,o,u,dF,kvs,x,m,n,eg,ec',ecc,hd,rv,rfl,hm,nc,hF,hk,nv,q⟩:=h;have lu:us.length=1:=by rw[<-r'.length];rfl
  refine a2Q (k:=0) (cvs:=[.ref dF]) (scLam4 c) hr e0 eg ec' (by simp) (λj x c0 hj=>?_) rfl r' rfl ?_ λxe hr'=>⟨_,a0p a0M (a0Q (ixT K) (pv 0) a0g (λ_ _=>rfl)) (a4N (P:=P) (w:=w) (K:=K) (hu2 hr') (pv 1) (a2j (a0Q (ixT K) (pv 0) a0g (λ_ _=>rfl))) (λ_ _=>rfl) a0L a2k),?_⟩
  ·cases j with
   | zero =>
    have hj:(("floors":Str),c)=(x,c0):=b4N hj;cases hj;exact⟨o,u,.ref dF,ecc,hd,rfl,rv⟩
   | succ j=>simp at hj
  ·match us,lu with
   | [u1],_=>rfl
  ·have tk:TK H (unt [c] H):=λa xs e=>(a0A λz=>by rw[b4s.mp z,ecc] at e;cases e).trans e;obtain⟨t,fx,rfl,ht,hfx⟩:=a3L.open (a3L.tk tk hm);obtain⟨b,g,rfl,hb1,hb2⟩:=a6a.open hfx;refine⟨_,rfl,t,_,_,_,rfl,rfl,SqT.of ht,(rfl:atI [V.int m.1,.int m.2.1,.ref b] 1=_),_,rfl,λv H7=>v=.ref b/\unt [c] H=H7,⟨_,rfl,t,_,_,_,rfl,rfl,SqT.of ht,(rfl:atI [V.int m.1,.int m.2.1,.ref b] 2=_),rfl,rfl⟩,λv H7 hv=>?_⟩;obtain⟨rfl,rfl⟩:=hv;exact⟨dF,b,m.2.2,kvs,_,rfl,rfl,.inl ((a0A λz=>nc (b4s.mp z)).trans hF),λp hp=>by
    obtain⟨b',h1,h2⟩:=hk p hp;exact⟨b',b0p ecc h1,b0p ecc h2⟩,⟨g,SqT.of hb1,SqT.of hb2⟩,nv,_,_,rfl,rfl,λhn=>q _ (a2T (a0r.refl _))⟩
theorem b_dict:bootBuiltins "dict"=some (.type "dict"):=by decide +kernel
noncomputable def rDictF (P:Program) (w:World) (K:PySem.W.Frag):List V->Hp->VK->Prop:=λxs H Q=>∃(l:Addr) (out:List V) (us:List FE),xs=[.ref l]/\H l=some (.lst out)/\Paired (IPr H) out us/\(∀p∈us,FAt K H p.1 p.2.1)/\(us.map (·.1)).Nodup/\us.length<=100000/\∀d H',H d=none->H'=upd H d (NDO (a0n P w) d us)->Q (.ref d) H'
theorem a8m {X:Cx} {P:Program} {w:World} {K:PySem.W.Frag} (hc:X.calm=true) (hu:X.A.units+10<cLine) (hP:X.prog=P:=by rfl) (hw:X.w=w:=by rfl) (hK:X.K=K:=by rfl):a2f X (.type "dict") (rDictF P w K):=by
 subst hP;subst hw;subst hK;intro pins s σ H xs us Q I r h;obtain⟨l,out,us',e,h1,h2,h3,h4,h5,q⟩:=h;exact a8g hc hu pins s σ H xs us Q I r ⟨l,out,us',e,h1,h2,h3,h4,h5,λd hd=>q d _ hd rfl⟩
theorem b4b {us:List FE} (nd:(us.map (·.1)).Nodup) {e:FE} (he:e∈us):nval us e.1=some e.2.2:=by
 obtain⟨p,hp,ek,nv⟩:=a4M (b4F.mpr ⟨e,he,rfl⟩:e.1∈us.map (·.1));have:p=e:=by
  obtain⟨i,hi,e1⟩:=b6i.mp hp;obtain⟨j,hj,e2⟩:=b6i.mp he;have:i=j:=by
   refine(b7e (h₀:=by rw[b4p];exact hi) (h₁:=by rw[b4p];exact hj) nd).mp ?_;rw[b5m,b5m,e1,e2,ek]
  subst this;rw[<-e1,<-e2]
 rw[<-this];rw[this] at nv ⊢;exact nv
abbrev NFm:List Str:=["prices","weights","floors","row","frontier","best"]
noncomputable def spFm (aF:Addr) (S:Tbs):Sp:=λvs H Q _=>∃(p q:Addr) (ps ws:List Int),vs=[.ref p,.ref q]/\TW H p ps/\TW H q ws/\Wide ps ws/\Tb S H /\
 ∀(l:Addr) H',Kp S H H'->(∀o,(∀zs,o≠.tbl zs)->H l≠some o)->H' l=some (.lst ((frees ps ws).map V.int))->Q (.ref l) H'
theorem b4l:a0t NFm ["prices","weights"] (a0f sFm):=⟨rfl,rfl,rfl,by decide +kernel,rfl,by decide +kernel,by decide +kernel⟩
theorem Kp.updN {S:Tbs} {H H':Hp} {d:Addr} {ls ls':List V} (hn:∀o,(∀zs,o≠.tbl zs)->H d≠some o) (hd:H' d=some (.lst ls)) (k:Kp S H H'):Kp S H (L2.upd H' d (.lst ls')):=⟨λa o n e=>by rw[a0m (λz=>hn o n (by rw[<-z];exact e))];exact k.sm a o n e,λu hu=>b0d hd (k.tb u hu)⟩
theorem ok_fm {S:Tbs} {aF bF T c0 bm:Addr} (F:Fun K "free_moves" "free_moves" sFm f fd) (hcd:fd.code=.ref c0) (LC:b2o K mg base c0 T bm) (nd:Dst S) (mT:(T,b3Z,b1L)∈S) (FS:Fst K mg aF bF) (GF:Fns P w K mg base ["prices","weights"] "frontier_floors" (spFl aF S) 5) (GM:Fns P w K mg base ["prices","weights","frontier"] "moves" (a4H K) 5) (ml:mg "len"=none) (mn:mg "min"=none) (mD:mg "dict"=none):a1x P w K mg base CX0 6 f fd ["prices","weights"] (spFm aF S):=by
 refine F.okC (k:=5) b4l (λvs H Q E h=>?_) (λA outer s H vs Q E hr h=>?_)
 ·obtain⟨p,q,ps,ws,rfl,_⟩:=h;rfl
 obtain⟨p,q,ps,ws,rfl,hp,hq,W,tab,qq⟩:=h;have LM:a9l (a5G CX0 P w K mg base NFm "free_moves" (a0f sFm) f fd.code A outer s H E).nox c0 T bm:=⟨hcd,LC.hd,LC.hbm,LC.bo,LC.b1,LC.b2,LC.b3,LC.b4⟩
 have hcl:a3q (a5G CX0 P w K mg base NFm "free_moves" (a0f sFm) f fd.code A outer s H E).nox [("floors",s.heap.objs.size+1)]:=⟨λq hq=>by rw[b4s.mp hq];rfl,λq hq=>rfl,λq hq=>by rw[b4s.mp hq];rfl⟩
 have hu10:(a5G CX0 P w K mg base NFm "free_moves" (a0f sFm) f fd.code A outer s H E).nox.A.units+10<cLine:=by
  have:=hr.un;exact b7K (b8l (show 10<=16*5+200 by decide) _) this
 refine⟨_,a0e (a0q (i:=2) b4l.nd rfl (Or.inr rfl) (a1j (a8m (P:=P) (w:=w) (K:=K) rfl hu10) (by rfl) mD b_dict (a0a (a0o GF.ok hr (by rfl) GF.m GF.kp GF.b .nil a0G (a0a (pv 0) (a0a (pv 1) a0c))) a0c)))
  (a0e (a0q (i:=3) b4l.nd rfl (Or.inl rfl) (a1N a0c))
  (a0e (a0q (i:=4) b4l.nd rfl (Or.inl rfl) (a5H (v:=.ref aF) (by rfl) FS.m rfl))
  (a0e (a4a b5Q (a0s a4U (a0Q (ixT K) (pv 4) a0g (λ_ _=>rfl)) (a0j a0h (by rfl) ml b4P (a0a (pv 1) a0c)) (nomark _))
   (a0e (a0q (i:=5) b4l.nd rfl (Or.inl rfl) (b1I (Rg:=RgC _ [("floors",s.heap.objs.size+1)] (lamR4 P w K)) (λσ=>b3U.cells b4a (hr.mono (by omega)) hcl) rfl (by rfl) mn (a0a (a0o GM.ok hr (by rfl) GM.m GM.kp GM.b .nil a0G (a0a (pv 0) (a0a (pv 1) (a0a (pv 4) a0c)))) a0c) (a2y (a6T LM (clos:=[("floors",s.heap.objs.size+1)]) rfl) a4W)))
   (a0e (a1r (a3K b5x b5O b5P a0Z (pv 3) (a0a (a0Q (ixT K) (pv 5) a0g (λ_ _=>rfl)) a0c)))
   (a0i (a0q (i:=4) b4l.nd rfl (Or.inl rfl) (a0Q (ixT K) (pv 5) a0g (λ_ _=>rfl)))))))
  (a0i (a0u (pv 3)))))),?_⟩
 refine⟨_,rfl,_,rfl,p,q,ps,ws,rfl,hp,hq,W,tab,λdL out us H1 k1 nL hL pr to=>?_⟩;refine⟨dL,out,us,rfl,hL,pr,λe he=>(to.en e he).1.fat FS,to.nd,by have:=to.le;omega,λdF H2 hdF e2=>?_⟩;have s2:a0r H1 H2:=by rw[e2];exact a0d hdF _
 have g2:H2 dF=some (NDO (a0n P w) dF us):=by rw[e2];exact a0b
 clear e2;have k02:=k1.then s2;refine⟨(by show 0<=sizeLine;exact b5j _),λlr hlr=>?_⟩;have s3:=a0d hlr (.lst []);have g3:upd H2 lr (.lst []) lr=some (.lst []):=a0b;have hlr0:∀o,(∀zs,o≠.tbl zs)->H lr≠some o:=λo n z=>by
  have:=k02.sm _ _ n z;rw[hlr] at this;cases this
 generalize upd H2 lr (.lst [])=H3 at s3 g3 ⊢;have k03:=k02.then s3;have en3:∀e∈us,FrA aF H3 e.1 e.2.1:=λe he=>((to.en e he).1.tk (TK.of s2)).tk (TK.of s3);have g23:=s3 _ _ g2;refine⟨λm σ H'=>Kp S H H'/\∃(k:Fr) (a:Addr) (rs:List Int) (x5:Option V),σ=[some (.ref p),some (.ref q),some (.ref dF),some (.ref lr),some (.ref a),x5]/\FrA aF H' k a/\Rch ps ws k/\H' dF=some (NDO (a0n P w) dF us)/\(∀e∈us,FrA aF H' e.1 e.2.1)/\H' lr=some (.lst (rs.map V.int))/\rs++a8q ps ws (2*ws.length+1) k=frees ps ws/\m=(2*(ws.length:Int)-rk k).toNat,
  ⟨_,k03,(0,[0]),aF,[],_,rfl,.inr ⟨rfl,rfl⟩,.one,g23,en3,g3,rfl,rfl⟩,λm σ H4 hP=>?_⟩
 obtain⟨k4,k,a,rs,x5,rfl,fr4,hR,d4,en4,g4,er,rfl⟩:=hP;have ok:=hR.ok W;obtain⟨b,fa1,fa2⟩:=fr4.fat FS;refine⟨_,rfl,a,_,_,_,rfl,rfl,fa1,(rfl:atI [V.int k.1,.ref b] 0=_),_,rfl,q,_,rfl,.inr (SqT.of (k4.tup hq)),_,_,rfl,rfl,_,rfl,?_⟩;rw[b4p];have ndl:dF≠lr:=λz=>by rw[z,g4] at d4;cases d4
 refine a2I (λc=>?_) (λc=>?_)
 ·have c:k.1<(ws.length:Int):=b4Q c;have ne:=a7n W ok c;refine⟨_,λσ' H' z=>z,?_⟩;obtain⟨g,ak⟩:=fr4.ask FS W ok (k4.tup hp) (k4.tup hq);refine⟨_,rfl,_,rfl,_,rfl,p,q,a,g,ps,ws,k.2,k.1,rfl,ak,λlm H5 xs s5 hn5 hl5 hm5=>?_⟩;have hm5:Mvs H5 xs (nxt ps ws k):=hm5;have k5:=k4.then s5;have lx:xs.length=(nxt ps ws k).length:=hm5.length;refine⟨k5.tb _ mT,λc' pm ctv gg H6 LH=>?_⟩;have k56:Kp S H5 H6:=Kp.lam nd mT k5.tb LH;have k6:=k5.trans k56;have d6:H6 dF=some (NDO (a0n P w) dF us):=k56.sm _ _ (by intro _ z;cases z) (s5 _ _ d4);have en6:∀e∈us,FrA aF H6 e.1 e.2.1:=λe he=>((en4 e he).tk (TK.of s5)).tk k56.tk;have hm6:Mvs H6 xs (nxt ps ws k):=Mvs.tk k56.tk hm5;have g6:=k56.lst (s5 _ _ g4);refine⟨lm,gg,xs,kyv ps ws k,rfl,rfl,k56.lst hl5,by rw[lx];exact b6s.mpr ne,λi x H7 Q1 hx s7 q1=>?_,λx H7 hx s7=>?_⟩
  ·obtain⟨m,hmi,mx⟩:=Paired.right_of hm6 i x hx;have hmm:=b4B hmi;intro os hos hnn;have hn:H7 (s.heap.objs.size+1)=none:=hnn _ (by simp);obtain⟨u,hu1,hu2⟩:=hos 0 2 "floors" (s.heap.objs.size+1) (.ref dF) rfl rfl rfl;have lob:=LH.ob;generalize s.heap.objs.size+1=c at hn hu1 lob ⊢;have st':a0r H7 (trk' [c] os H7):=λb o e=>by
    rw[a0S (λy=>by rw[b4s.mp y,hn] at e;cases e)];exact e
   have ecc:trk' [c] os H7 c=some (exA c (os c)):=a6U (by simp);have d7:=s7 _ _ d6;have nc:dF≠c:=λz=>by rw[z,hn] at d7;cases d7
   have s67:=s7.trans st';obtain⟨e1,he1,ek1⟩:=b4F.mp ((to.all m.2.2).mpr (.step hR hmm));have nv:nval us m.2.2=some (.int (flo ps ws m.2.2)):=by
    rw[<-ek1,b4b to.nd he1,(to.en e1 he1).2]
   refine⟨c,c',pm,ctv,os c,u,dF,us,x,m,flo ps ws m.2.2,st' _ _ (s7 _ _ lob),st' _ _ (s7 _ _ LH.cd),ecc,hu1,hu2,rfl,a3L.tk (TK.of s67) mx,nc,st' _ _ d7,λe he=>((en6 e he).tk (TK.of s67)).fat FS,nv,λH8 s8=>⟨λb hb=>?_,?_⟩⟩
   ·rw[b4s.mp (show b∈[c] from hb)];exact s8 _ _ ecc
   ·have ky:kyv ps ws k i=m.2.1+flo ps ws m.2.2:=by
     unfold kyv;rw[b4t,hmi];rfl
    rw[<-ky];refine q1 _ λb o e=>?_;have hb:b∉[c]:=λy=>by rw[b4s.mp y,hn] at e;cases e
    show unt [c] H8 b=_;rw[a0A hb];exact s8 _ _ (st' _ _ e)
  ·obtain⟨m,hmi,mx⟩:=Paired.right_of hm6 _ x hx;rw[lx,a3X ne] at hmi;obtain rfl:bst ps ws k=m:=b4N hmi;have hb:=b4B (a3X ne);have k7:=k6.then s7;obtain⟨t,fx,rfl,ht,hfx⟩:=a3L.open (a3L.tk (TK.of s7) mx);obtain⟨b',rfl,hb'⟩:=FrA.of (aF:=aF) hfx;have g7:=s7 _ _ g6;have d7:=s7 _ _ d6;have en7:∀e∈us,FrA aF H7 e.1 e.2.1:=λe he=>(en6 e he).tk (TK.of s7);have up:=(a2t W ok hb).1;have okb:=(a1V W ok hb).1;have rb:=okb.rk;have er':=er;rw[a7o W ok c] at er';have lrs:(rs.map V.int).length<=100:=by
    have:(rs++a8q ps ws (2*ws.length+1) k).length<=2*ws.length+1:=by rw[er];exact a6r
    rw[b4A] at this;have w7:=W.w7;rw[b4p];split at w7<;>omega
   refine⟨_,rfl,.inl ⟨rfl,_,SqL.of g7⟩,_,rfl,t,_,_,_,rfl,rfl,SqT.of ht,(rfl:atI [V.int (bst ps ws k).1,.int (bst ps ws k).2.1,.ref b'] 0=_),lr,_,_,rfl,rfl,g7,a0l (by omega),?_⟩;have tk8:TK H7 (upd H7 lr (.lst (rs.map V.int++[.int (bst ps ws k).1]))):=TK.upd g7;refine⟨_,rfl,t,_,_,_,rfl,rfl,SqT.of (tk8 _ _ ht),(rfl:atI [V.int (bst ps ws k).1,.int (bst ps ws k).2.1,.ref b'] 2=_),_,?_,k7.updN hlr0 g7,(bst ps ws k).2.2,b',rs++[(bst ps ws k).1],_,rfl,hb'.tk tk8,.step hR hb,by rw[a0m ndl];exact d7,λe he=>(en7 e he).tk tk8,by rw[a0b,b4D];rfl,by rw[b5d];exact er',rfl⟩;omega
 ·obtain⟨z,e⟩:=b0h (ps:=ps) ok (λy=>c (b4W y));rw[e,b5W] at er;rw[er] at g4;exact⟨_,rfl,qq lr H4 k4 hlr0 g4⟩
abbrev NCs:List Str:=["code","one","other"]
noncomputable def spCs:Sp:=λvs H Q _=>∃(c:Addr) (out:List V) (us:List (List Int)),vs=[.ref c]/\H c=some (.tup out)/\Ws H out us/\us.length<=100/\PF us/\∀H',a0r H H'->Q (.bl false) H'
theorem scCs:a0t NCs ["code"] (a0f a4B):=⟨rfl,rfl,rfl,by decide +kernel,rfl,by decide +kernel,by decide +kernel⟩
theorem a8n (F:Fun K "_law_clashes" "_law_clashes" a4B f fd) (ml:mg "len"=none) (mr:mg "range"=none):a1x P w K mg base CX0 1 f fd ["code"] spCs:=by
 refine F.ok (k:=0) scCs (λvs H Q E h=>?_) (λcdv A outer s H vs Q E hr h=>?_)
 ·obtain⟨c,out,us,rfl,_⟩:=h;rfl
 obtain⟨c,out,us,rfl,hc,hW,l100,pf,q⟩:=h;have lo:out.length=us.length:=hW.length;refine⟨_,a0e (a1K b5Q rfl (a1J (by rfl) mr (a0a (a0j a0h (by rfl) ml b4P (a0a (pv 0) a0c)) a0c)) (a0F (i:=1) scCs.nd rfl (Or.inl rfl))
   (a0i (a1K b5Q rfl (a1J (by rfl) mr (a0a (a0j a0h (by rfl) ml b4P (a0a (pv 0) a0c)) a0c)) (a0F (i:=2) scCs.nd rfl (Or.inl rfl))
    (a0i (a0Y (PW.pt (a8t (a0s a7z (pv 1) (pv 2) (nomark _)) (a5I (a0s (b2W (hu4 hr)) (a1n a8U (a0Q a1t (pv 0) (pv 2) (λ_ _=>rfl)) a1O (a1A (a0j a0h (by rfl) ml b4P (a0a (a0Q a1t (pv 0) (pv 1) (λ_ _=>rfl)) a0c)))) (a0Q a1t (pv 0) (pv 1) (λ_ _=>rfl)) (nomark _))))) (a0i (a0u a2v)) a0z)))))
   (a0i (a0u a2v)),?_⟩
 refine⟨_,rfl,c,_,rfl,.inr (SqT.of hc),_,rfl,by omega,by omega,?_⟩;refine a1L (λi σ H'=>a0r H H'/\∃x1 x2:Option V,σ=[some (.ref c),x1,x2]) ⟨a0r.refl _,_,_,rfl⟩ (λi σ H1 hi hP=>?_) (λσ H1 hP=>?_)
 ·obtain⟨s1,x1,x2,rfl⟩:=hP;have hi:i<us.length:=by omega
  have e0:(0:Int)+(i:Int)=((i:Nat):Int):=by omega
  rw[e0];have hu:us[i]?=some us[i]:=b4q hi;obtain⟨y,hy,ry⟩:=L2.Paired.left_of hW _ _ hu;obtain⟨ua,rfl,hua⟩:=Wd.ti ry;refine⟨_,rfl,c,_,rfl,.inr (SqT.of (s1 _ _ hc)),_,rfl,by omega,by omega,?_⟩;refine a1L (λj σ H'=>a0r H H'/\∃x2:Option V,σ=[some (.ref c),some (.int (i:Int)),x2]) ⟨s1,_,rfl⟩ (λj σ H2 hj hP=>?_) (λσ H2 hP=>?_)
  ·obtain⟨s2,x2,rfl⟩:=hP;have hj:j<us.length:=by omega
   have e1:(0:Int)+(j:Int)=((j:Nat):Int):=by omega
   rw[e1];have hv:us[j]?=some us[j]:=b4q hj;obtain⟨z,hz,rz⟩:=L2.Paired.left_of hW _ _ hv;obtain⟨va,rfl,hva⟩:=Wd.ti rz;refine⟨_,rfl,_,rfl,rfl,_,rfl,?_⟩;by_cases ij:i=j
   ·rw[b4W (by rw[ij])];exact a3P (a3P ⟨s2,_,rfl⟩)
   ·rw[b5s (λx=>ij (by have:=V.int.inj x;omega))];refine iteT ?_;have hc2:=s2 _ _ hc;refine⟨_,rfl,_,rfl,c,_,_,_,rfl,rfl,SqT.of hc2,a6G hz,_,rfl,_,rfl,c,_,_,_,rfl,rfl,SqT.of hc2,a6G hy,ua,_,rfl,.inr (SqT.of (s2 _ _ hua)),_,rfl,va,_,rfl,s2 _ _ hva,λp3 H3 s3 hp3=>?_⟩;rw[b4p,a6H,<-b9h] at hp3;have s23:=s2.trans s3;refine⟨_,rfl,_,rfl,c,_,_,_,rfl,rfl,SqT.of (s23 _ _ hc),a6G hy,_,_,a1Q hp3,a1Q (s23 _ _ hua),_,rfl,?_⟩;rw[b5s]
    ·exact a3P ⟨s23,_,rfl⟩
    ·intro e;exact(PF.ne pf hu hv ij).1 (by rw[<-e];exact List.take_prefix _ _)
  ·obtain⟨s2,x2,rfl⟩:=hP;exact⟨s2,_,_,rfl⟩
 ·obtain⟨s1,x1,x2,rfl⟩:=hP;exact q H1 s1
abbrev NCr:List Str:=["code","letters","things","word","letter"]
noncomputable def spCr:Sp:=λvs H Q _=>∃(c:Addr) (out:List V) (us:List (List Int)) (L th:Nat),vs=[.ref c,.int (L:Int),.int (th:Int)]/\H c=some (.tup out)/\Ws H out us/\us.length=th/\th<=60/\PF us/\(∀u∈us,Lt L u)/\∀H',a0r H H'->Q (.bl true) H'
theorem scCr:a0t NCr ["code","letters","things"] (a0f a9L):=⟨rfl,rfl,rfl,by decide +kernel,rfl,by decide +kernel,by decide +kernel⟩
theorem ok_cr (F:Fun K "_law_code_right" "_law_code_right" a9L f fd) (GH:Fns P w K mg base ["found"] "_law_whole" a6k 1) (GC:Fns P w K mg base ["code"] "_law_clashes" spCs 1) (ml:mg "len"=none) (mi:mg "isinstance"=none) (mt:mg "tuple"=none):a1x P w K mg base CX0 2 f fd ["code","letters","things"] spCr:=by
 refine F.ok (k:=1) scCr (λvs H Q E h=>?_) (λcdv A outer s H vs Q E hr h=>?_)
 ·obtain⟨c,out,us,L,th,rfl,_⟩:=h;rfl
 obtain⟨c,out,us,L,th,rfl,hc,hW,lu,t60,pf,ok,q⟩:=h;have lo:out.length=th:=by rw[hW.length,lu]
 refine⟨_,a0e (a0Y (PW.pt (a7w (a2Z (a2Y (a0j a2i (by rfl) mi a8X (a0a (pv 0) (a0a (a2X (v:=.ty "tuple") (by rfl) mt a1E rfl) (a0c)))))) (a6y (a0s a7z (a0j a0h (by rfl) ml b4P (a0a (pv 0) (a0c))) (pv 2) (nomark _))))) (a0i (a0u a2v)) (a0z))
   (a0e (a1K b5Q rfl (a8w (pv 0)) (a0F (i:=3) scCr.nd rfl (Or.inl rfl))
    (a0e (a0Y (a2Z (a2Y (a0j a2i (by rfl) mi a8X (a0a (pv 3) (a0a (a2X (v:=.ty "tuple") (by rfl) mt a1E rfl) (a0c)))))) (a0i (a0u a2v)) (a0z))
    (a0i (a1K b5Q rfl (a8w (pv 3)) (a0F (i:=4) scCr.nd rfl (Or.inl rfl)) (a0i (a0Y (PW.pt (a7w (a2Z (a2Y (a0o GH.ok hr (by rfl) GH.m GH.kp GH.b .nil a0G (a0a (pv 4) (a0c))))) (a7w (a0s a4U (pv 4) (a0g) (nomark _)) (a6y (a0s op_ge (pv 4) (pv 1) (nomark _)))))) (a0i (a0u a2v)) (a0z)))))))
   (a0i (a0u (b1V (a0o GC.ok hr (by rfl) GC.m GC.kp GC.b .nil a0G (a0a (pv 0) a0c)))))),?_⟩
 refine⟨_,rfl,_,_,_,_,rfl,.tup hc,a1v _,_,rfl,a3P ?_⟩;have en:V.int (out.length:Int)=V.int (th:Int):=by rw[lo]
 refine⟨_,rfl,c,_,rfl,.inr (SqT.of hc),_,rfl,rfl,_,rfl,?_⟩;rw[b4W en];refine a3P ?_;refine⟨_,rfl,c,rfl,⟨_,SqT.of hc⟩,?_⟩;refine a8z (xs:=out) (λi σ H'=>H'=H/\∃x3 x4:Option V,σ=[some (.ref c),some (.int (L:Int)),some (.int (th:Int)),x3,x4]) ⟨rfl,_,_,rfl⟩ (λi σ H' _ hP=>by rw[hP.1];exact SqT.of hc) (λi y σ H1 hy hP=>?_) (λσ H1 hP=>?_)
 ·obtain⟨rfl,x3,x4,rfl⟩:=hP;obtain⟨u,hu,ry⟩:=Paired.right_of hW i y hy;obtain⟨ua,rfl,hua⟩:=Wd.ti ry;have ux:=ok u (b4B hu);refine⟨_,rfl,_,_,_,_,rfl,.tup hua,a1v _,_,rfl,a3P ?_⟩;refine⟨_,rfl,ua,rfl,⟨_,SqT.of hua⟩,?_⟩;refine a8z (xs:=u.map V.int) (λj σ H'=>H'=H1/\∃x4:Option V,σ=[some (.ref c),some (.int (L:Int)),some (.int (th:Int)),some (.ref ua),x4]) ⟨rfl,_,rfl⟩ (λj σ H' _ hP=>by rw[hP.1];exact SqT.of hua) (λj y σ H8 hy8 hP=>?_) (λσ H8 hP=>?_)
  ·obtain⟨rfl,x4,rfl⟩:=hP;rw[b4C] at hy8;obtain⟨z,hz,rfl⟩:=b5q.mp hy8;have hz2:=ux z (b4B hz);refine⟨_,rfl,_,rfl,_,rfl,a3P ?_⟩;refine⟨_,rfl,_,_,rfl,rfl,_,rfl,a2I (λc=>absurd (b4Q c) (by omega)) (λ_=>?_)⟩;refine⟨_,rfl,_,rfl,_,_,rfl,rfl,_,rfl,a2I (λc=>absurd (b4Q c) (by omega)) (λ_=>?_)⟩;exact⟨rfl,_,rfl⟩
  ·obtain⟨rfl,x4,rfl⟩:=hP;exact⟨rfl,_,_,rfl⟩
 ·obtain⟨rfl,x3,x4,rfl⟩:=hP;exact⟨_,rfl,c,out,us,rfl,hc,hW,by omega,pf,λH2 s2=>⟨_,rfl,q H2 s2⟩⟩
end
theorem b1M {ps:List Int} (hp:∀x∈ps,0<=x/\x<=B30):∀ns:List Int,0<=pc ps ns/\pc ps ns<=(ns.length:Int)*B30
 | []=>⟨by show(0:Int)<=0;decide,by show(0:Int)<=0*B30;decide⟩
 | n::ns=>by
  obtain⟨h1,h2⟩:=b1M hp ns;have e:pc ps (n::ns)=ps.getD n.toNat 0+pc ps ns:=by unfold pc;simp
  have b:0<=ps.getD n.toNat 0/\ps.getD n.toNat 0<=B30:=by
   rw[b4t];cases hz:ps[n.toNat]? with
   | none=>exact⟨by decide,by decide⟩
   | some z=>exact hp z (b4B hz)
  rw[e];have e2:((n::ns).length:Int)*B30=(ns.length:Int)*B30+B30:=by
   rw[b5l]
   push_cast
   rw[c0l];simp
  omega
section
variable {P:Program} {w:World} {K:PySem.W.Frag} {mg:Str->Option Value} {base:Heap} {f:Addr} {fd:FuncData}
noncomputable def a6s:Sp:=λvs H Q _=>∃(x y:V) (ps ns:List Int),vs=[x,y]/\Wd H x ps/\Wd H y ns/\Lt ps.length ns/\ns.length<=1000/\∀H',a0r H H'->Q (.int (pc ps ns)) H'
theorem b4c:a0t ["prices","word"] ["prices","word"] (a0f a4C):=⟨rfl,rfl,rfl,by decide +kernel,rfl,by decide +kernel,by decide +kernel⟩
theorem ndPl:(("letter":Str)::["prices","word"]).Nodup:=by decide +kernel
theorem b1N (F:Fun K "_law_price" "_law_price" a4C f fd) (ms:mg "sum"=none):a1x P w K mg base CX0 1 f fd ["prices","word"] a6s:=by
 refine F.ok (k:=0) b4c (λvs H Q E h=>?_) (λcdv A outer s H vs Q E hr h=>?_)
 ·obtain⟨x,y,ps,ns,rfl,_⟩:=h;rfl
 obtain⟨x,y,ps,ns,rfl,hx,hy,hn,hl,q1⟩:=h;obtain⟨p,rfl,hp⟩:=hx.ti;obtain⟨a,rfl,ha⟩:=hy.ti;refine⟨_,a0i (a0u (a0j (a1W rfl) (by rfl) ms a7J (a0a (a2M (M:=["prices","word"]) rfl (a0k.of (a0f a4C) ["prices","word"] rfl rfl rfl (by decide +kernel) (by decide +kernel) (by decide +kernel) rfl (by decide +kernel)) ndPl rfl (pv 1) a0L
   (λcl C s0 H0 fp=>⟨a0R,a0Q (ixT K) (pv 1) (pv 0) (λ_ _=>rfl)⟩)) a0c))),?_⟩
 refine⟨_,rfl,a,_,rfl,SqT.of ha,λd hd=>?_⟩;refine⟨λk H'=>a0r H H'/\H' d=some (.lst (((ns.take k).map λx=>ps.getD x.toNat 0).map V.int)),⟨a0d hd _,a0b⟩,λk H' _ hP=>SqT.of (hP.1 _ _ ha),λk x H' hx hP=>?_,λH' hP=>?_⟩
 ·obtain⟨sm,hd'⟩:=hP;rw[b4C] at hx;cases hz:ns[k]? with
  | none=>rw[hz] at hx;cases hx
  | some z =>
   rw[hz] at hx;cases hx;have hk:=(b4u.mp hz).1;obtain⟨z0,z1⟩:=hn z (b4B hz);obtain⟨n,rfl⟩:∃n:Nat,z=n:=⟨z.toNat,by omega⟩
   have hn':n<ps.length:=by omega
   refine a0V ⟨_,rfl,_,rfl,p,_,_,_,rfl,rfl,SqT.of (sm _ _ hp),a3h (b4q hn'),_,hd',?_,a0w hd sm,?_⟩
   ·rw[b4p,b4p,b4L];exact a0l (by omega)
   ·rw[a0b,b5e,hz,b4D,b4D];simp[b4t,b4q hn']
 ·obtain⟨sm,hd'⟩:=hP;rw[b4p,b5z] at hd';exact⟨d,_,rfl,hd',q1 H' sm⟩
abbrev NC:List Str:=["prices","weights","code"]
noncomputable def coZ (ps ws:List Int) (c:List (List Int)):Int:=(List.zipWith (λx ns=>x*pc ps ns) ws c).sum
noncomputable def a7r:Sp:=λvs H Q _=>∃(p wa:Addr) (ps ws:List Int) (x:V) (c:List (List Int)),vs=[.ref p,.ref wa,x]/\TW H p ps/\TW H wa ws/\(∃(a:Addr) (zs:List V),x=.ref a/\H a=some (.tup zs)/\Ws H zs c)/\c.length=ws.length/\c.length<=100/\(∀u∈c,Lt ps.length u/\u.length<=1000)/\Bw ps/\Bw ws/\∀H',a0r H H'->Q (.int (coZ ps ws c)) H'
theorem scCost:a0t NC NC (a0f sDue):=⟨rfl,rfl,rfl,by decide +kernel,rfl,by decide +kernel,by decide +kernel⟩
theorem ndC:(("weight":Str) :: "word" :: NC).Nodup:=by decide +kernel
theorem b2x {ps ws:List Int} {nss:List (List Int)} {i:Nat} {x:Int} {ns:List Int} (h1:ws[i]?=some x) (h2:nss[i]?=some ns):(List.zipWith (λx ns=>x*pc ps ns) ws nss)[i]?=some (x*pc ps ns):=by
 rw[List.getElem?_zipWith,h1,h2]
theorem b4d (F:Fun K "_law_due_cost" "_law_due_cost" sDue f fd) (G:Fns P w K mg base ["prices","word"] "_law_price" a6s 1) (ms:mg "sum"=none) (mz:mg "zip"=none):a1x P w K mg base CX0 2 f fd NC a7r:=by
 refine F.ok (k:=1) scCost (λvs H Q E h=>?_) (λcdv A outer s H vs Q E hr h=>?_)
 ·obtain⟨p,wa,ps,ws,x,c,rfl,_⟩:=h;rfl
 obtain⟨p,wa,ps,ws,x,nss,rfl,hp,hw,hc,el,l1,l2,bp,bw,q⟩:=h;obtain⟨c,xs,rfl,hc,hx⟩:=hc;have lx:xs.length=nss.length:=hx.length;refine⟨_,a0i (a0u (a0j (a1W rfl) (by rfl) ms a7J (a0a (a6I K true true (M:=NC) rfl (a0k.of (a0f sDue) NC rfl rfl rfl (by decide +kernel) (by decide +kernel) (by decide +kernel) rfl (by decide +kernel)) ndC rfl rfl (by rfl) mz (a0a (pv 1) (a0a (pv 2) a0c)) (a1R a0L (a1R a0L a3Q))
   (λcl C s0 H0 fp pins σ bk=>⟨a0R,a0p a4j (pv 0) (a0o G.ok hr (by rfl) G.m G.kp G.b .nil a0G (a0a (pv 2) (a0a (pv 1) a0c)))⟩)) a0c))),?_⟩
 refine⟨_,rfl,_,rfl,wa,c,_,_,rfl,SqT.of hw,SqT.of hc,by rw[b4p];omega,λd hd=>?_⟩;refine⟨λi H'=>a0r H H'/\H' d=some (.lst (((List.zipWith (λx ns=>x*pc ps ns) ws nss).take i).map V.int)),⟨a0d hd _,a0b⟩,
  λi H' _ hP=>⟨SqT.of (hP.1 _ _ hw),SqT.of (hP.1 _ _ hc)⟩,λi x y pp H' hx' hy' hP hpp=>?_,λH' hP=>?_⟩
 ·obtain⟨sm,hd'⟩:=hP;rw[b4C] at hx';cases hz:ws[i]? with
  | none=>rw[hz] at hx';cases hx'
  | some wt =>
  rw[hz] at hx';cases hx';obtain⟨ns,hn,ry⟩:=Paired.right_of hx i y hy';have iw:=(b4u.mp hz).1;have s2:=a0d hpp (.tup [.int wt,y]);obtain⟨lt,l3⟩:=l2 ns (b4B hn);refine a3j ⟨_,rfl,_,rfl,_,rfl,.ref p,y,ps,ns,rfl,Wd.of (s2 _ _ (sm _ _ hp)),Wd.same (sm.trans s2) ry,lt,l3,λH3 s3=>?_⟩;obtain⟨b1,b2⟩:=b1M bp ns;obtain⟨b3,b4⟩:=bw wt (b4B hz);have b5:(ns.length:Int)<=1000:=by omega
  have b6:(ns.length:Int)*B30<=1000*B30:=b6V b5 (by decide);refine⟨_,_,rfl,rfl,⟨⟨b3,by unfold B30 at *;omega⟩,⟨b1,by unfold B30 at *;omega⟩⟩,_,s3 _ _ (s2 _ _ hd'),?_,a0w hd ((sm.trans s2).trans s3),?_⟩
  ·rw[b4p,b4L,b6t];exact a0l (by omega)
  ·rw[a0b,b5e,b2x hz hn,b4D];rfl
 ·obtain⟨sm,hd'⟩:=hP;rw[b4p] at hd';rw[b6M (by rw[b6t];omega)] at hd';exact⟨d,_,rfl,hd',q H' sm⟩
end
theorem a2W {xs ys:List Int} (h:xs.Perm ys):xs.sum=ys.sum:=by
 induction h with
 | nil=>rfl
 | cons x _ ih=>rw[b6h,b6h,ih]
 | swap x y l=>rw[b6h,b6h,b6h,b6h];omega
 | trans _ _ ih1 ih2=>exact ih1.trans ih2
theorem b1O {ws:List Int} {pl:List Nat} (perm:pl.Perm (List.range ws.length)) (pw:(pl.map (ko ws)).Pairwise Lx):heavy ws=pl.map λt=>ws.getD t 0:=by
 unfold heavy;have:(pl.map λt=>ws.getD t 0).reverse=srt ws:=by
  refine a3m ((b7Y _).trans ?_) ?_
  ·have:=perm.map λt=>ws.getD t 0;rw[a3z] at this;exact this
  ·rw[b8Q,b5r];rw[b5r] at pw;exact pw.imp λz=>by have:=(lx2 z).1;omega
 rw[<-this,List.reverse_reverse]
theorem b0q {ps ws:List Int} {us cw:List (List Int)} {pl:List Nat} (ow:Own ws us pl cw) (lu:us.length=ws.length):coZ ps ws cw=due ws (us.map (pc ps)):=by
 have lc:cw.length=ws.length:=by rw[ow.pu.length_eq,lu]
 have lp:pl.length=ws.length:=by rw[ow.perm.length_eq,b6a]
 unfold coZ due;have e1:List.zipWith (λx ns=>x*pc ps ns) ws cw=(List.range ws.length).map λt=>ws.getD t 0*pc ps (cw.getD t []):=by
  refine b6g (by rw[b6t,b4p,b6a];omega) λi h1 h2=>?_;rw[b4p,b6a] at h2;rw[List.getElem_zipWith,b5m,b8w,b4t,b4q h2,b4t,b4q (by omega)];rfl
 have e2:List.zipWith (λw c=>w*c) (heavy ws) (us.map (pc ps))=pl.map λt=>ws.getD t 0*pc ps (cw.getD t []):=by
  rw[b1O ow.perm ow.pw];refine b6g (by rw[b6t,b4p,b4p,b4p];omega) λi h1 h2=>?_;rw[b4p] at h2;have hc:=ow.at_ i _ _ (b4q h2) (b4q (show i<us.length by omega));rw[List.getElem_zipWith,b5m,b5m,b5m,b4t (l:=cw),hc];rfl
 rw[e1,e2];exact(a2W (ow.perm.map _)).symm
section
variable {P:Program} {w:World} {K:PySem.W.Frag} {mg:Str->Option Value} {base:Heap} {f:Addr} {fd:FuncData}
theorem scPC:a0t NC NC (a0f a7c):=⟨rfl,rfl,rfl,by decide +kernel,rfl,by decide +kernel,by decide +kernel⟩
theorem b1P (F:Fun K "cost" "cost" a7c f fd) (G:Fns P w K mg base ["prices","word"] "word_price" spPp 2) (ml:mg "len"=none) (ms:mg "sum"=none) (mz:mg "zip"=none):a1x P w K mg base CX0 3 f fd NC a7r:=by
 refine F.ok (k:=2) scPC (λvs H Q E h=>?_) (λcdv A outer s H vs Q E hr h=>?_)
 ·obtain⟨p,wa,ps,ws,x,c,rfl,_⟩:=h;rfl
 obtain⟨p,wa,ps,ws,x,nss,rfl,hp,hw,hc,el,l1,l2,bp,bw,q⟩:=h;obtain⟨c,xs,rfl,hc,hx⟩:=hc;have lx:xs.length=nss.length:=hx.length;refine⟨_,a0e (a0Y (a0s a7z (a0j a0h (by rfl) ml b4P (a0a (pv 2) a0c)) (a0j a0h (by rfl) ml b4P (a0a (pv 1) a0c)) (nomark _)) (a0i a5B) a0z) (a0i (a0u (a0j (a1W rfl) (by rfl) ms a7J (a0a (a6I K true true (M:=NC) rfl (a0k.of (a0f a7c) NC rfl rfl rfl (by decide +kernel) (by decide +kernel) (by decide +kernel) rfl (by decide +kernel)) ndC rfl rfl (by rfl) mz (a0a (pv 1) (a0a (pv 2) a0c)) (a1R a0L (a1R a0L a3Q))
   (λcl C s0 H0 fp pins σ bk=>⟨a0R,a0p a4j (pv 0) (a0o G.ok hr (by rfl) G.m G.kp G.b .nil a0G (a0a (pv 2) (a0a (pv 1) a0c)))⟩)) a0c)))),?_⟩
 refine⟨_,rfl,c,_,rfl,.inr (SqT.of hc),_,rfl,wa,_,rfl,.inr (SqT.of hw),rfl,_,rfl,?_⟩;rw[b4p,lx,el,b4W rfl];refine a3P ?_;refine⟨_,rfl,_,rfl,wa,c,_,_,rfl,SqT.of hw,SqT.of hc,by rw[b4p];omega,λd hd=>?_⟩;refine⟨λi H'=>a0r H H'/\H' d=some (.lst (((List.zipWith (λx ns=>x*pc ps ns) ws nss).take i).map V.int)),⟨a0d hd _,a0b⟩,
  λi H' _ hP=>⟨SqT.of (hP.1 _ _ hw),SqT.of (hP.1 _ _ hc)⟩,λi x y pp H' hx' hy' hP hpp=>?_,λH' hP=>?_⟩
 ·obtain⟨sm,hd'⟩:=hP;rw[b4C] at hx';cases hz:ws[i]? with
  | none=>rw[hz] at hx';cases hx'
  | some wt =>
  rw[hz] at hx';cases hx';obtain⟨ns,hn,ry⟩:=Paired.right_of hx i y hy';have iw:=(b4u.mp hz).1;have s2:=a0d hpp (.tup [.int wt,y]);obtain⟨lt,l3⟩:=l2 ns (b4B hn);refine a3j ⟨_,rfl,_,rfl,_,rfl,.ref p,y,ps,ns,rfl,Wd.of (s2 _ _ (sm _ _ hp)),Wd.same (sm.trans s2) ry,l3,lt,λH3 s3=>?_⟩;obtain⟨b1,b2⟩:=b1M bp ns;obtain⟨b3,b4⟩:=bw wt (b4B hz);have b5:(ns.length:Int)<=1000:=by omega
  have b6:(ns.length:Int)*B30<=1000*B30:=b6V b5 (by decide);refine⟨_,_,rfl,rfl,⟨⟨b3,by unfold B30 at *;omega⟩,⟨b1,by unfold B30 at *;omega⟩⟩,_,s3 _ _ (s2 _ _ hd'),?_,a0w hd ((sm.trans s2).trans s3),?_⟩
  ·rw[b4p,b4L,b6t];exact a0l (by omega)
  ·rw[a0b,b5e,b2x hz hn,b4D];rfl
 ·obtain⟨sm,hd'⟩:=hP;rw[b4p] at hd';rw[b6M (by rw[b6t];omega)] at hd';exact⟨d,_,rfl,hd',q H' sm⟩
abbrev NFc:List Str:=["prices","weights","code"]
noncomputable def spFc (S:Tbs):Sp:=λvs H Q _=>∃(p q:Addr) (ps ws:List Int),vs=[.ref p,.ref q]/\TW H p ps/\TW H q ws/\Wide ps ws/\Tb S H /\
 ∀(t c:Addr) zs us pl cw H',Kp S H H'->H' t=some (.tup [.int (flo ps ws (0,[0])),.ref c])->H' c=some (.tup zs)->Ws H' zs cw->Own ws us pl cw->Cd ps ws (frees ps ws) us->Q (.ref t) H'
theorem scFc:a0t NFc ["prices","weights"] (a0f sFc):=⟨rfl,rfl,rfl,by decide +kernel,rfl,by decide +kernel,by decide +kernel⟩
theorem Wide.w10 {ps ws:List Int} (W:Wide ps ws):ws.length<=7:=by
 have:=W.w7;split at this<;>omega
theorem a3F {ps ws:List Int} (W:Wide ps ws):(frees ps ws).length<=60:=by
 have:(frees ps ws).length<=2*ws.length+1:=a6r;have:=W.w10;omega
theorem ok_fc {S:Tbs} {aF:Addr} (F:Fun K "free_code" "free_code" sFc f fd) (GO:Fns P w K mg base PCo "code_of_moves" (b3S S) 6) (GM:Fns P w K mg base ["prices","weights"] "free_moves" (spFm aF S) 6) (GC:Fns P w K mg base NC "cost" a7r 6):a1x P w K mg base CX0 7 f fd ["prices","weights"] (spFc S):=by
 refine F.ok (k:=6) scFc (λvs H Q E h=>?_) (λcdv A outer s H vs Q E hr h=>?_)
 ·obtain⟨p,q,ps,ws,rfl,_⟩:=h;rfl
 obtain⟨p,q,ps,ws,rfl,hp,hq,W,tab,qq⟩:=h;have w10:=W.w10;refine⟨_,a0e (a0q (i:=2) scFc.nd rfl (Or.inl rfl) (a0o GO.ok hr (by rfl) GO.m GO.kp GO.b .nil a0G (a0a (pv 0) (a0a (pv 1) (a0a (a0o GM.ok hr (by rfl) GM.m GM.kp GM.b .nil a0G (a0a (pv 0) (a0a (pv 1) a0c))) a0c)))))
  (a0i (a0u (a1s (a0a (a0o GC.ok hr (by rfl) GC.m GC.kp GC.b .nil a0G (a0a (pv 0) (a0a (pv 1) (a0a (pv 2) a0c)))) (a0a (pv 2) a0c))))),?_⟩
 refine⟨_,rfl,_,rfl,_,rfl,_,rfl,p,q,ps,ws,rfl,hp,hq,W,tab,λl H1 k1 nl hl=>?_⟩;refine⟨p,q,l,ps,ws,_,rfl,k1.tup hp,k1.tup hq,hl,a3F W,W.p2,W.p6,W.w1,W.w7,W.bp,W.bw,k1.tb,(a1X W).1,λc zs us pl cw H2 k2 hc hz ow cd=>?_⟩;have k02:=k1.trans k2;have lc:cw.length=ws.length:=by rw[ow.pu.length_eq,cd.ln]
 have lt:∀u∈cw,Lt ps.length u/\u.length<=1000:=λu hu=>by
  have:=cd.lt u (ow.pu.mem_iff.mp hu);exact⟨this.1,by omega⟩
 refine⟨_,rfl,_,rfl,_,rfl,p,q,ps,ws,.ref c,cw,rfl,k02.tup hp,k02.tup hq,⟨c,zs,rfl,hc,hz⟩,lc,by omega,lt,W.bp,W.bw,λH3 s3=>?_⟩;refine⟨_,rfl,(by show 2<=sizeLine;decide),λt ht=>?_⟩;have s4:=a0d ht (.tup [.int (coZ ps ws cw),.ref c]);refine qq t c zs us pl cw _ ((k02.then s3).then s4) ?_ (s4 _ _ (s3 _ _ hc)) (b1B (TK.of (s3.trans s4)) hz) ow cd;rw[a0b,b0q ow cd.ln,<-cd.sp,(a1X W).2]
end
theorem lgt {α:Type} {f:α->Int}:∀{L:List Int} {G:List α} {V:List Int},L.Pairwise (·<=·)->(G.map f++V).Perm L->∃G',G'.Perm G/\Paired (λa g=>a<=f g) (L.take G.length) G'
 | L,[],V,_,_=>⟨[],.refl _,by rw[b7r,b8K];exact .nil⟩
 | [],g::G,V,_,h=>by have:=h.length_eq;simp at this
 | x::L,g::G,V,hL,h=>by
  obtain⟨h1,h2⟩:=b5K.mp hL;by_cases c:x∈(g::G).map f
  ·obtain⟨y,hy,rfl⟩:=b4F.mp c;obtain⟨A,B,e⟩:=b7i hy;have pm:(g::G).Perm (y::(A++B)):=by rw[e];exact b5H
   have p2:((A++B).map f++V).Perm L:=((((pm.map f).append_right V).symm.trans h):((f y::(A++B).map f)++V).Perm _).cons_inv;obtain⟨G',q1,q2⟩:=lgt h2 p2;have le:(g::G).length=(A++B).length+1:=pm.length_eq;refine⟨y::G',(q1.cons y).trans pm.symm,?_⟩;rw[le,b8h];exact .cons (b9v _) q2
  ·have hx:x∈(g::G).map f++V:=h.mem_iff.mpr (.head _);have hV:x∈V:=(b4J.mp hx).elim (λz=>absurd z c) id;obtain⟨A,B,rfl⟩:=b7i hV;have p2:(G.map f++(f g::(A++B))).Perm L:=by
    refine List.Perm.cons_inv (a:=x) (List.Perm.trans ?_ h);have e1:(f g::G.map f++(A++x::B)).Perm (x::(f g::G.map f++(A++B))):=by
     refine(b6y _ (b5H (a:=x) (l₁:=A) (l₂:=B))).trans ?_;exact b5H
    exact(List.Perm.cons x b5H).trans e1.symm
   obtain⟨G',q1,q2⟩:=lgt h2 p2;have xg:x<=f g:=by
    have:f g∈x::L:=h.mem_iff.mp (b5t _ (.head _));rcases b4K.mp this with z|z
    ·exact b8p z.symm
    ·exact h1 _ z
   refine⟨g::G',q1.cons g,?_⟩;rw[b5l,b8h];exact .cons xg q2
theorem b2y:∀{xs ys:List Int},Paired (λa g=>a<=g) xs ys->xs.sum<=ys.sum
 | _,_,.nil=>b9v _
 | _,_,.cons h t=>by rw[b6h,b6h];exact c0k h (b2y t)
theorem light {ws U V:List Int} {st:Int} (h:(U++V).Perm ws) (e:(U.length:Int)+st=ws.length) (s0:0<=st):wl ws st<=U.sum:=by
 obtain⟨G',q1,q2⟩:=lgt (f:=λx:Int=>x) (G:=U) (V:=V) (a1b ws) (by rw[List.map_id'];exact h.trans (a0v ws).symm);unfold wl;rw[show ws.length-st.toNat=U.length by omega,<-a2W q1];exact b2y q2
abbrev Lf:=Int × List Int
abbrev Tr:=Int × List Lf
noncomputable def lc (ps:List Int) (g:Int) (q:Lf):Int:=q.1*(g+pc ps q.2)
noncomputable def tc (ps:List Int) (t:Tr):Int:=(t.2.map (lc ps t.1)).sum
noncomputable def fc (ps:List Int) (F:List Tr):Int:=(F.map (tc ps)).sum
noncomputable def lvs (F:List Tr):List Lf:=F.flatMap (·.2)
noncomputable def mu (l:List Lf):Nat:=(l.map λq=>q.2.length+1).sum
theorem a6t {l m:List Lf} (h:l.Perm m):mu l=mu m:=(h.map _).sum_nat
theorem a7s (t:Tr) (F:List Tr):lvs (t::F)=t.2++lvs F:=rfl
theorem a3G (F G:List Tr):lvs (F++G)=lvs F++lvs G:=List.flatMap_append
theorem b2z (ps:List Int) (F G:List Tr):fc ps (F++G)=fc ps F+fc ps G:=by unfold fc;rw[b4D,b7V]
theorem a4O {F G:List Tr} (h:F.Perm G):(lvs F).Perm (lvs G):=h.flatMap_right _
structure Fo (ps ws:List Int) (st:Int) (F:List Tr):Prop where
 ne:∀t∈F,t.2≠[]
 pf:∀t∈F,PF (t.2.map (·.2))
 lt:∀q∈lvs F,Lt ps.length q.2
 ln:((lvs F).length:Int)+st=ws.length
 sb:∃V,((lvs F).map (·.1)++V).Perm ws
theorem a7t (ps:List Int) (g d:Int):∀l:List Lf,(l.map (lc ps (g-d))).sum=(l.map (lc ps g)).sum-d*(l.map (·.1)).sum
 | []=>by simp
 | q::l=>by
  have ih:=a7t ps g d l;simp only[b5J,b6h,ih];have:lc ps (g-d) q=lc ps g q-d*q.1:=by
   unfold lc;rw[show g-d+pc ps q.2=(g+pc ps q.2)-d by omega,Int.mul_sub,c0g q.1 d]
  rw[this,c0m];omega
noncomputable def sh (d:Int) (F:List Tr):List Tr:=F.map λt=>(t.1-d,t.2)
theorem a5E (d:Int):∀F:List Tr,lvs (sh d F)=lvs F
 | []=>rfl
 | t::F=>by show t.2++lvs (sh d F)=_;rw[a5E d F];rfl
theorem sh_fc (ps:List Int) (d:Int):∀F:List Tr,fc ps (sh d F)=fc ps F-d*((lvs F).map (·.1)).sum
 | []=>by show(0:Int)=0-d*0;simp
 | t::F=>by
  have ih:=sh_fc ps d F;show tc ps (t.1-d,t.2)+fc ps (sh d F)=tc ps t+fc ps F-d*((t.2++lvs F).map (·.1)).sum;have e:tc ps (t.1-d,t.2)=tc ps t-d*(t.2.map (·.1)).sum:=a7t ps t.1 d t.2;rw[ih,e,b4D,b7V,c0m];omega
theorem b4e {ns:List Int} {x:Int} (h:x∈ns):b1F ns<=x:=by
 unfold b1F;rw[if_neg (λz=>by rw[z] at h;cases h)];have hs:=(a0v ns).mem_iff.mpr h;have r:=a1b ns;cases e:srt ns with
 | nil=>rw[e] at hs;cases hs
 | cons a l =>
  rw[e] at hs r;rcases b4K.mp hs with z|z
  ·exact b8p z.symm
  ·exact(b5K.mp r).1 x z
theorem b0r {ps ws:List Int} (W:Wide ps ws) {k:Fr} (h:a3A ws k) (z:k.2.length=0):flo ps ws k=0:=by
 have:nxt ps ws k=[]:=by
  have nb:=a7k W h;cases hn:nxt ps ws k with
  | nil=>rfl
  | cons a l =>
   rw[hn] at nb;have:a.1∈lawf ps.length ws.length k.1 k.2.length:=by rw[<-nb];exact .head _
   rw[z] at this;rcases a1i.mp this with ⟨_,y⟩|⟨_,_,_,y,_⟩<;>omega
 rw[a5D W h,this];rfl
theorem reb {ps ws:List Int} (W:Wide ps ws) {k:Fr} (ok:a3A ws k) {r:Rw} (hr:r∈rws ps ws k.1 k.2 (ps.length-1)) {F:List Tr} (eF:r.2.2=srt (F.map (·.1))) (fo:Fo ps ws r.2.1 F)
  (ih:∀(k':Fr) (F':List Tr),lvs F'=lvs F->a3A ws k'->Fo ps ws k'.1 F'->k'.2=srt (F'.map (·.1))->(F'≠[]->∃t∈F',t.1=0)->flo ps ws k'<=fc ps F'):flo ps ws k<=fc ps F:=by
 have hm:fin ws r∈nxt ps ws k:=b4F.mpr ⟨r,hr,rfl⟩;have okm:=(a1V W ok hm).1;have le:flo ps ws k<=(fin ws r).2.1+flo ps ws (fin ws r).2.2:=by
  rw[a5D W ok];exact b4e (b4F.mpr ⟨_,hm,rfl⟩)
 refine b8X le ?_;by_cases e:r.2.2=[]
 ·have eF0:F=[]:=by
   have:=b6W List.length eF;rw[e,a0J,b4p] at this;exact b5C.mp this.symm
  have ef:fin ws r=(r.1,0,(r.2.1,[])):=by unfold fin;rw[if_pos e]
  rw[ef] at okm ⊢;have:=ih (r.2.1,[]) F rfl okm fo (by rw[<-eF,e]) (λz=>absurd eF0 z);show 0+flo ps ws (r.2.1,[])<=fc ps F;omega
 ·have ef:fin ws r=(r.1,r.2.2.headD 0*wl ws r.2.1,(r.2.1,r.2.2.map (·-r.2.2.headD 0))):=by unfold fin;rw[if_neg e]
  obtain⟨h1,h2,h3,xs,h4,h5⟩:=b3R W.p2 ok.iv ok.bd W.bp hr;obtain⟨d,rest,er⟩:∃d rest,r.2.2=d::rest:=by
   cases hz:r.2.2 with
   | nil=>exact absurd hz e
   | cons a l=>exact⟨a,l,rfl⟩
  have hd:d∈srt (F.map (·.1)):=by rw[<-eF,er];exact .head _
  have d0:0<=d:=(h5 d ((a0v xs).mem_iff.mp (by rw[<-h4,er];exact .head _))).1;have hh:r.2.2.headD 0=d:=by rw[er];rfl
  rw[ef,hh] at okm ⊢;have fo':Fo ps ws r.2.1 (sh d F):=⟨λt ht=>by
    obtain⟨t',h',rfl⟩:=b4F.mp ht;exact fo.ne t' h',λt ht=>by
    obtain⟨t',h',rfl⟩:=b4F.mp ht;exact fo.pf t' h',by rw[a5E];exact fo.lt,by rw[a5E];exact fo.ln,by rw[a5E];exact fo.sb⟩
  have e3:r.2.2.map (·-d)=srt ((sh d F).map (·.1)):=by
   rw[eF,<-a9E];congr 1;unfold sh;rw[b5A,b5A];rfl
  have h6:=ih (r.2.1,r.2.2.map (·-d)) (sh d F) (a5E d F) okm fo' e3 (λ_=>by
   obtain⟨t,ht,et⟩:=b4F.mp ((a0v _).mem_iff.mp hd);exact⟨(t.1-d,t.2),b4F.mpr ⟨t,ht,rfl⟩,by show t.1-d=0;omega⟩)
  rw[sh_fc] at h6;obtain⟨V,hV⟩:=fo.sb;have s0:=okm.iv.s0;have lg:wl ws r.2.1<=((lvs F).map (·.1)).sum:=light hV (by rw[b4p];exact fo.ln) s0;have:=b9d lg d0;show d*wl ws r.2.1+flo ps ws (r.2.1,r.2.2.map (·-d))<=fc ps F;omega
noncomputable def ins (w d:Int) (u:List Int):List Tr->List Tr
 | []=>[(d,[(w,u)])]
 | t::r=>if t.1=d then (t.1,(w,u)::t.2)::r else t::ins w d u r
noncomputable def grp:List Lf->List Tr
 | []=>[]
 | (w,d::u)::r=>ins w d u (grp r)
 | (_,[])::r=>grp r
theorem a4P {w d:Int} {u:List Int}:∀{G:List Tr} {t:Tr},t∈ins w d u G->(t∈G)\/(t.1=d/\(t.2=[(w,u)]\/∃g,(d,g)∈G/\t.2=(w,u)::g))
 | [],t,h=>by
  rw[b4s.mp h];exact .inr ⟨rfl,.inl rfl⟩
 | s::r,t,h=>by
  unfold ins at h;split at h
  ·rename_i c;rcases b4K.mp h with z|z
   ·rw[z];exact .inr ⟨c,.inr ⟨s.2,by rw[<-c];exact .head _,rfl⟩⟩
   ·exact .inl (.tail _ z)
  ·rcases b4K.mp h with z|z
   ·rw[z];exact .inl (.head _)
   ·rcases a4P z with y|⟨y1,y|⟨g,y2,y3⟩⟩
    ·exact .inl (.tail _ y)
    ·exact .inr ⟨y1,.inl y⟩
    ·exact .inr ⟨y1,.inr ⟨g,.tail _ y2,y3⟩⟩
theorem a7u {w d:Int} {u:List Int}:∀{G:List Tr} {x:Int},x∈(ins w d u G).map (·.1)↔x∈G.map (·.1)\/x=d
 | [],x=>by simp[ins]
 | s::r,x=>by
  unfold ins;split
  ·rename_i c;simp only[b5J,b4K];exact⟨.inl,λh=>h.elim id λz=>.inl (by rw[z,c])⟩
  ·simp only[b5J,b4K,a7u (G:=r)];exact(or_assoc).symm
theorem b2A {w d:Int} {u:List Int}:∀{G:List Tr},(G.map (·.1)).Nodup->((ins w d u G).map (·.1)).Nodup
 | [],_=>b5c _ _
 | s::r,h=>by
  obtain⟨h1,h2⟩:=b6F.mp h;unfold ins;split
  ·exact h
  ·rename_i c;refine b6F.mpr ⟨λz=>?_,b2A h2⟩;rcases a7u.mp z with y|y
   ·exact h1 y
   ·exact c y
theorem a6u {w d:Int} {u:List Int}:∀{G:List Tr},(lvs (ins w d u G)).Perm ((w,u)::lvs G)
 | []=>.refl _
 | s::r=>by
  unfold ins;split
  ·exact .refl _
  ·exact((a6u (G:=r)).append_left s.2).trans b5H
noncomputable def gc (ps:List Int) (G:List Tr):Int:=(G.map λt=>tc ps (ps.getD t.1.toNat 0,t.2)).sum
theorem b2B {ps:List Int} {w d:Int} {u:List Int}:∀{G:List Tr},gc ps (ins w d u G)=w*pc ps (d::u)+gc ps G
 | []=>by
  show(w*(ps.getD d.toNat 0+pc ps u)+0)+0=w*pc ps (d::u)+0;have:pc ps (d::u)=ps.getD d.toNat 0+pc ps u:=by unfold pc;simp
  rw[this];omega
 | s::r=>by
  have e:pc ps (d::u)=ps.getD d.toNat 0+pc ps u:=by unfold pc;simp
  unfold ins;split
  ·rename_i c;show(w*(ps.getD s.1.toNat 0+pc ps u)+tc ps (ps.getD s.1.toNat 0,s.2))+gc ps r=_+(tc ps (ps.getD s.1.toNat 0,s.2)+gc ps r)
   rw[e,c];omega
  ·show tc ps (ps.getD s.1.toNat 0,s.2)+gc ps (ins w d u r)=_+(tc ps (ps.getD s.1.toNat 0,s.2)+gc ps r)
   rw[b2B (G:=r)];omega
structure Gg (ps:List Int) (l:List Lf) (G:List Tr):Prop where
 nd:(G.map (·.1)).Nodup
 mem:∀t∈G,∀q∈t.2,(q.1,t.1::q.2)∈l
 ne:∀t∈G,t.2≠[]
 pf:∀t∈G,PF (t.2.map (·.2))
 lv:((lvs G).map (·.1)).Perm (l.map (·.1))
 gc:gc ps G=(l.map (lc ps 0)).sum
 mu:mu (lvs G)+l.length=mu l
theorem b2C (ps:List Int):∀{l:List Lf},(∀q∈l,q.2≠[])->PF (l.map (·.2))->Gg ps l (grp l)
 | [],_,_=>⟨.nil,λ_ h=>(by cases h),λ_ h=>(by cases h),λ_ h=>(by cases h),.refl _,rfl,rfl⟩
 | (w,[])::r,h,_=>absurd rfl (h _ (.head _))
 | (w,d::u)::r,h,hp=>by
  obtain⟨p1,p2⟩:=b5K.mp hp;have ih:=b2C ps (λq hq=>h q (.tail _ hq)) p2;refine⟨b2A ih.nd,λt ht q hq=>?_,λt ht=>?_,λt ht=>?_,?_,?_,?_⟩
  ·rcases a4P ht with y|⟨y1,y|⟨g,y2,y3⟩⟩
   ·exact .tail _ (ih.mem t y q hq)
   ·rw[y] at hq;rw[b4s.mp hq,y1];exact .head _
   ·rw[y3] at hq;rw[y1];rcases b4K.mp hq with z|z
    ·rw[z];exact .head _
    ·exact .tail _ (ih.mem _ y2 q z)
  ·rcases a4P ht with y|⟨y1,y|⟨g,y2,y3⟩⟩
   ·exact ih.ne t y
   ·rw[y];simp
   ·rw[y3];simp
  ·rcases a4P ht with y|⟨y1,y|⟨g,y2,y3⟩⟩
   ·exact ih.pf t y
   ·rw[y];exact b5c _ _
   ·rw[y3];refine b5K.mpr ⟨λv hv=>?_,ih.pf _ y2⟩;obtain⟨q,hq,rfl⟩:=b4F.mp hv;have:=p1 _ (b4F.mpr ⟨_,ih.mem _ y2 q hq,rfl⟩);exact⟨λz=>this.1 ((List.prefix_cons_inj d).mpr z),λz=>this.2 ((List.prefix_cons_inj d).mpr z)⟩
  ·exact(a6u.map _).trans (ih.lv.cons w)
  ·have e:lc ps 0 (w,d::u)=w*pc ps (d::u):=by
    unfold lc;rw[c0f]
   show K76.gc ps (ins w d u (grp r))=lc ps 0 (w,d::u)+(r.map (lc ps 0)).sum;rw[b2B,ih.gc,e]
  ·have e:K76.mu (lvs (ins w d u (grp r)))=(u.length+1)+K76.mu (lvs (grp r)):=a6t a6u;have e2:K76.mu ((w,d::u)::r)=(u.length+1+1)+K76.mu r:=rfl;have:=ih.mu;show K76.mu (lvs (ins w d u (grp r)))+(r.length+1)=_;rw[e,e2];omega
theorem rws_0 {ps ws:List Int} {st:Int} {gs:List Int} {r:Rw} (h:r∈rw1 ws st gs):∀n,r∈rws ps ws st gs n
 | 0=>h
 | n+1=>b5t _ (rws_0 h n)
theorem rws_m {ps ws:List Int} {st:Int} {gs:List Int} {m:Nat} {r:Rw} (h:r∈rw2 ps ws st gs m) (m2:2<=m):∀{n},m<=n+1->r∈rws ps ws st gs n
 | 0,h1=>by omega
 | n+1,h1=>by
  by_cases e:m=n+2
  ·exact b4E _ (by rw[<-e];exact h)
  ·exact b5t _ (rws_m h m2 (by omega))
theorem lone {l:List Lf} (hp:PF (l.map (·.2))) {q:Lf} (hq:q∈l) (e:q.2=[]):l=[q]:=by
 obtain⟨A,B,rfl⟩:=b7i hq;rw[b4D,b5J] at hp;obtain⟨_,h2,h3⟩:=b5v.mp hp;have a0:A=[]:=by
  cases A with
  | nil=>rfl
  | cons a A=>exact absurd (by rw[e];exact List.nil_prefix) (h3 a.2 (.head _) q.2 (.head _)).2
 have b0:B=[]:=by
  cases B with
  | nil=>rfl
  | cons b B=>exact absurd (by rw[e];exact List.nil_prefix) ((b5K.mp h2).1 b.2 (.head _)).1
 rw[a0,b0];rfl
theorem a6v {ps:List Int} {G:List Tr} (nd:(G.map (·.1)).Nodup) (h:∀t∈G,0<=t.1/\t.1<(ps.length:Int)):∃V,(G.map (λt=>ps.getD t.1.toNat 0)++V).Perm (srt ps):=by
 have nd2:(G.map λt=>t.1.toNat).Nodup:=by
  unfold List.Nodup at nd ⊢;rw[b5r] at nd ⊢;refine nd.imp_of_mem λ{a b} ha hb ne e=>ne ?_;have:=(h a ha).1;have:=(h b hb).1;omega
 have p1:((List.range ps.length).filter λi=>decide (i∈G.map λt=>t.1.toNat)).Perm (G.map λt=>t.1.toNat):=by
  refine(List.perm_ext_iff_of_nodup (b7D.filter _) nd2).mpr λi=>?_;rw[b9l,b5Z,b6Q];refine⟨λz=>z.2,λz=>⟨?_,z⟩⟩;obtain⟨t,ht,rfl⟩:=b4F.mp z;have:=h t ht;omega
 have p2:=List.filter_append_perm (λi=>decide (i∈G.map λt=>t.1.toNat)) (List.range ps.length);refine⟨(((List.range ps.length).filter λi=>!decide (i∈G.map λt=>t.1.toNat))).map λa=>ps.getD a 0,?_⟩;have p3:=((p1.symm.append_right _).trans p2).map λa=>ps.getD a 0;rw[a3z,b4D,b5A] at p3;exact p3.trans (a0v ps).symm
noncomputable def tre (cs:List Int) (G:List Tr):List Tr:=List.zipWith (λc t=>(c,t.2)) cs G
theorem b0s {ps ws:List Int} {f:Tr->Int}:∀{cs:List Int} {G:List Tr},Paired (λa g=>a<=f g) cs G->(∀q∈lvs G,0<=q.1)->(tre cs G).map (·.1)=cs/\lvs (tre cs G)=lvs G/\(∀t∈tre cs G,∃g∈G,t.2=g.2)/\fc ps (tre cs G)<=(G.map λt=>tc ps (f t,t.2)).sum
 | _,_,.nil,_=>⟨rfl,rfl,λt ht=>(by cases ht),b9v _⟩
 | c::cs,g::G,.cons h t,h0=>by
  obtain⟨h1,h2,h3,h4⟩:=b0s (ps:=ps) (ws:=ws) t λq hq=>h0 q (b4E _ hq);refine⟨by show c::(tre cs G).map (·.1)=_;rw[h1],by show g.2++lvs (tre cs G)=g.2++lvs G;rw[h2],λt ht=>?_,?_⟩
  ·rcases b4K.mp ht with z|z
   ·exact⟨g,.head _,by rw[z]⟩
   ·obtain⟨g',a,b⟩:=h3 t z;exact⟨g',.tail _ a,b⟩
  ·show tc ps (c,g.2)+fc ps (tre cs G)<=tc ps (f g,g.2)+_;refine c0k ?_ h4;have key:∀l:List Lf,(∀q∈l,0<=q.1)->(l.map (lc ps c)).sum<=(l.map (lc ps (f g))).sum:=by
    intro l
    induction l with
    | nil=>intro _;exact b9v _
    | cons q l ih =>
     intro hl;rw[b5J,b6h,b5J,b6h];exact c0k (b9d (Int.add_le_add_right h _) (hl q (.head _))) (ih λq hq=>hl q (.tail _ hq))
   exact key g.2 λq hq=>h0 q (b5t _ hq)
theorem leaves {F:List Tr} (h:∀t∈F,t.2≠[]):F.length<=(lvs F).length:=by
 induction F with
 | nil=>exact b4z _
 | cons t F ih =>
  rw[a7s,b4A,b5l];have:=b6s.mpr (h t (.head _));have:=ih λt ht=>h t (.tail _ ht);omega
theorem b0t {ps ws:List Int} (W:Wide ps ws):∀(N:Nat) {k:Fr} {F:List Tr},mu (lvs F)<=N->a3A ws k->Fo ps ws k.1 F->k.2=srt (F.map (·.1))->(F≠[]->∃t∈F,t.1=0)->flo ps ws k<=fc ps F:=by
 intro N
 induction N with
 | zero =>
  intro k F hN ok fo eF _;cases F with
  | nil=>exact b8p (b0r W ok (by rw[eF,a0J];rfl))
  | cons t F =>
   exfalso;rw[a7s] at hN;cases ht:t.2 with
   | nil=>exact fo.ne t (.head _) ht
   | cons q l =>
    rw[ht] at hN;have:mu (q::(l++lvs F))=q.2.length+1+mu (l++lvs F):=rfl;rw[List.cons_append,this] at hN;omega
 | succ N IH =>
  intro k F hN ok fo eF hz;by_cases F0:F=[]
  ·rw[F0];exact b8p (b0r W ok (by rw[eF,F0,a0J];rfl))
  obtain⟨t,htF,t0⟩:=hz F0;obtain⟨A,B,eAB⟩:=b7i htF;obtain⟨R,eR⟩:∃R,R=A++B:=⟨_,rfl⟩
  have pF:F.Perm (t::R):=by rw[eAB,eR];exact b5H
  have pL:(lvs F).Perm (t.2++lvs R):=a4O pF;have cF:fc ps F=tc ps t+fc ps R:=a2W (pF.map _);have mF:mu (lvs F)=mu (t.2++lvs R):=a6t pL;have mApp:∀a b:List Lf,mu (a++b)=mu a+mu b:=λa b=>by unfold mu;rw[b4D,b7V]
  rw[mApp] at mF;have hR:∀s∈R,s∈F:=λs hs=>pF.mem_iff.mpr (.tail _ hs);have gp:∀s∈F,0<=s.1:=λs hs=>(ok.bd s.1 (by rw[eF];exact(a0v _).mem_iff.mpr (b4F.mpr ⟨s,hs,rfl⟩))).1;have pg:(F.map (·.1)).Perm (0::R.map (·.1)):=by
   have:=pF.map (λs:Tr=>s.1);rw[b5J,t0] at this;exact this
  have e1:srt (F.map (·.1))=0::srt (R.map (·.1)):=a4y pg λx hx=>by
   obtain⟨s,hs,rfl⟩:=b4F.mp hx;exact gp s (hR s hs)
  have tl:k.2.tail=srt (R.map (·.1)):=by rw[eF,e1];rfl
  have lk:k.2.length=R.length+1:=by rw[eF,a0J,b4p,pF.length_eq];rfl
  obtain⟨V,hV⟩:=fo.sb;have w0:∀q∈lvs F,0<=q.1:=λq hq=>(W.bw q.1 (hV.mem_iff.mp (b5t _ (b4F.mpr ⟨q,hq,rfl⟩)))).1;have tne:=fo.ne t htF;have tpf:=fo.pf t htF;have ln:=fo.ln;rw[pL.length_eq,b4A] at ln;have foR:∀E:List Tr,((lvs E).map (·.1)).Perm (t.2.map (·.1))->(∀s∈E,s.2≠[])->(∀s∈E,PF (s.2.map (·.2)))->(∀q∈lvs E,Lt ps.length q.2)->Fo ps ws k.1 (R++E):=λE pE n1 n2 n3=>by
   have lE:(lvs E).length=t.2.length:=by have:=pE.length_eq;rwa [b4p,b4p] at this
   refine⟨λs hs=>(b4J.mp hs).elim (λz=>fo.ne s (hR s z)) (n1 s),λs hs=>(b4J.mp hs).elim (λz=>fo.pf s (hR s z)) (n2 s),λq hq=>?_,?_,V,?_⟩
   ·rw[a3G] at hq;exact(b4J.mp hq).elim (λz=>fo.lt q (pL.mem_iff.mpr (b4E _ z))) (n3 q)
   ·rw[a3G,b4A,lE];omega
   ·refine List.Perm.trans (b7I V ?_) hV;rw[a3G,b4D];have:=pL.map (λq:Lf=>q.1);rw[b4D] at this;exact((b6y _ pE).trans b6z).trans this.symm
  by_cases hE:∃q∈t.2,q.2=[]
  ·-- a word ends here: it is settled
   obtain⟨q,hq,eq⟩:=hE;have et:=lone tpf hq eq;have c0:tc ps t=0:=by
    unfold tc;rw[et,t0];show q.1*(0+pc ps q.2)+0=0;rw[eq];show q.1*(0+0)+0=0;simp
   rw[cF,c0,c0f];rw[et] at ln pL mF;have ln:(1:Int)+(lvs R).length+k.1=ws.length:=by simp at ln;omega
   have hr:((0:Int),k.1+1,srt k.2.tail)∈rws ps ws k.1 k.2 (ps.length-1):=rws_0 (by
    unfold rw1;rw[if_pos]
    ·exact .head _
    ·by_cases z:R=[]
     ·rw[z] at ln;have:(lvs []).length=0:=rfl;rw[this] at ln;exact .inr (by omega)
     ·have:=b6s.mpr z;exact .inl (by omega)) _
   refine reb W ok hr (F:=R) ?_ ⟨λs hs=>fo.ne s (hR s hs),λs hs=>fo.pf s (hR s hs),λp hp=>fo.lt p (pL.mem_iff.mpr (b4E _ hp)),by show _+(k.1+1)=_;omega,q.1::V,?_⟩ λk' F' eL ok' fo' e' z'=>IH ?_ ok' fo' e' z'
   ·show srt k.2.tail=_;rw[tl];exact a2n (a0v _)
   ·refine b5H.trans ?_;have:=(pL.map (λq:Lf=>q.1)).append_right V;exact this.symm.trans hV
   ·rw[eL];have:mu [q]=q.2.length+1+0:=rfl;omega
  ·-- the words go on
   have hne:∀q∈t.2,q.2≠[]:=λq hq e=>hE ⟨q,hq,e⟩;have gg:=b2C ps hne tpf;generalize grp t.2=G at gg;have tp:=b6s.mpr tne;have ct:tc ps t=gc ps G:=by rw[gg.gc];unfold tc;rw[t0]
   have gl:(lvs G).length=t.2.length:=by have:=gg.lv.length_eq;rwa [b4p,b4p] at this
   have mG:=gg.mu;have wG:∀q∈lvs G,0<=q.1:=λq hq=>by
    obtain⟨q',h1,h2⟩:=b4F.mp (gg.lv.mem_iff.mp (b4F.mpr ⟨q,hq,rfl⟩));rw[<-h2];exact w0 q' (pL.mem_iff.mpr (b5t _ h1))
   have ltG:∀s∈G,∀q∈s.2,Lt ps.length (s.1::q.2):=λs hs q hq=>fo.lt _ (pL.mem_iff.mpr (b5t _ (gg.mem s hs q hq)));have ltq:∀q∈lvs G,Lt ps.length q.2:=λq hq=>by
    obtain⟨s,hs,hq'⟩:=List.mem_flatMap.mp hq;exact λz hz=>ltG s hs q hq' z (.tail _ hz)
   have rg:∀s∈G,0<=s.1/\s.1<(ps.length:Int):=λs hs=>by
    cases hs2:s.2 with
    | nil=>exact absurd hs2 (gg.ne s hs)
    | cons q l=>exact ltG s hs q (by rw[hs2];exact .head _) s.1 (.head _)
   obtain⟨U,hU⟩:=a6v gg.nd rg;obtain⟨G',pG,prG⟩:=lgt (f:=λs:Tr=>ps.getD s.1.toNat 0) (a1b ps) hU;have lG:G.length<=ps.length:=by have:=hU.length_eq;rw[b4A,b4p,a0J] at this;omega
   have G1:1<=G.length:=by
    cases G with
    | nil=>exact absurd gl.symm (by show ¬t.2.length=0;omega)
    | cons s l=>show 1<=l.length+1;omega
   rw[cF,ct];by_cases one:G.length=1
   ·-- one letter alone: it is left out
    match G,one,gg,ltG,rg,ltq,wG,mG,gl with
    | [s],_,gg,ltG,rg,ltq,wG,mG,gl =>
    have hs:lvs [s]=s.2:=b5W _;have fo1:=foR [(0,s.2)] (by rw[show lvs [((0:Int),s.2)]=s.2 from b5W _,<-hs];exact gg.lv) (λz hz=>by rw[b4s.mp hz];exact gg.ne s (.head _)) (λz hz=>by rw[b4s.mp hz];exact gg.pf s (.head _)) (by rw[show lvs [((0:Int),s.2)]=s.2 from b5W _,<-hs];exact ltq);have h7:=IH (k:=k) (F:=R++[(0,s.2)]) (by
     rw[a3G,mApp,show lvs [((0:Int),s.2)]=s.2 from b5W _];rw[hs] at mG;omega) ok fo1 (by
     rw[eF];refine a2n (pg.trans ?_);rw[b4D];exact(b6z (l₁:=R.map (·.1)) (l₂:=[(0:Int)])).symm) (λ_=>⟨(0,s.2),b4E _ (.head _),rfl⟩)
    rw[b2z] at h7;have cs:fc ps [((0:Int),s.2)]<=gc ps [s]:=by
     have:=(b0s (ps:=ps) (ws:=ws) (f:=λs:Tr=>ps.getD s.1.toNat 0) (cs:=[0]) (G:=[s]) (.cons (by
      show(0:Int)<=ps.getD s.1.toNat 0;rw[b4t];cases hz:ps[s.1.toNat]? with
      | none=>exact b9v _
      | some z=>exact(W.bp z (b4B hz)).1) .nil) wG).2.2.2
     exact this
    omega
   ·obtain⟨h1,h2,h3,h4⟩:=b0s (ps:=ps) (ws:=ws) prG λq hq=>wG q ((a4O pG).mem_iff.mp hq);generalize tre ((srt ps).take G.length) G'=E at h1 h2 h3 h4;have pE:(lvs E).Perm (lvs G):=by rw[h2];exact a4O pG
    have fo1:=foR E ((pE.map _).trans gg.lv) (λs hs=>by
     obtain⟨g,hg,e⟩:=h3 s hs;rw[e];exact gg.ne g (pG.mem_iff.mp hg)) (λs hs=>by
     obtain⟨g,hg,e⟩:=h3 s hs;rw[e];exact gg.pf g (pG.mem_iff.mp hg)) λq hq=>ltq q (pE.mem_iff.mp hq)
    have lE:E.length=G.length:=by
     have:=b6W List.length h1;rw[b4p,b4L,a0J] at this;omega
    have cn:=leaves fo1.ne;rw[b4A,lE] at cn;have ln1:=fo1.ln;have hr:(((G.length:Nat):Int),k.1,srt (k.2.tail++(srt ps).take G.length))∈rws ps ws k.1 k.2 (ps.length-1):=rws_m (by
     unfold rw2;rw[if_pos]
     ·exact .head _
     ·omega) (by omega) (by omega)
    have h8:=reb W ok hr (F:=R++E) (by
     show srt (k.2.tail++_)=_;rw[tl,b4D,h1];exact a2n (b7I _ (a0v _))) fo1 λk' F' eL ok' fo' e' z'=>IH (by
     rw[eL,a3G,mApp,a6t pE];omega) ok' fo' e' z'
    rw[b2z] at h8;have:(G'.map λt=>tc ps (ps.getD t.1.toNat 0,t.2)).sum=gc ps G:=a2W (pG.map _);rw[this] at h4;omega
theorem a8o {ps ws:List Int} (W:Wide ps ws) {us:List (List Int)} (pf:PF us) (lt:∀u∈us,Lt ps.length u) (ln:us.length=ws.length):flo ps ws (0,[0])<=due ws (srt (us.map (pc ps))):=by
 obtain⟨vs,h1,h2⟩:=a3v (f:=pc ps) (a0v (us.map (pc ps)));have lv:vs.length=ws.length:=by rw[h1.length_eq,ln]
 have hl:=a5z ws;have w1:=W.w1;have eL:lvs [((0:Int),(heavy ws).zip vs)]=(heavy ws).zip vs:=b5W _;have lz:((heavy ws).zip vs).length=ws.length:=by rw[c0h];omega
 have f1:((heavy ws).zip vs).map (·.1)=heavy ws:=List.map_fst_zip (by omega);have f2:((heavy ws).zip vs).map (·.2)=vs:=List.map_snd_zip (by omega);have key:=b0t W _ (k:=(0,[0])) (F:=[(0,(heavy ws).zip vs)]) (b4z _) (a2U w1) ⟨λt ht=>by
  rw[b4s.mp ht];intro z;have z:(heavy ws).zip vs=[]:=z;rw[z] at lz;simp at lz;omega,λt ht=>by
  rw[b4s.mp ht];show PF (((heavy ws).zip vs).map (·.2));rw[f2];exact pf.perm h1,λq hq=>by
  rw[eL] at hq;exact lt q.2 (h1.mem_iff.mp (by rw[<-f2];exact b4F.mpr ⟨q,hq,rfl⟩)),by rw[eL,lz];show _+(0:Int)=_;omega,[],by
  rw[eL,f1,b5W];exact(b7Y _).trans (a0v ws)⟩ (srt1 0).symm (λ_=>⟨_,.head _,rfl⟩)
 refine b8X key (b8p ?_);rw[<-h2];show(((heavy ws).zip vs).map (lc ps 0)).sum+0=_;rw[c0i];unfold due;congr 1;rw[List.zipWith_map_right,<-List.map_uncurry_zip_eq_zipWith];refine b5V λq _=>?_;show q.1*(0+pc ps q.2)=q.1*pc ps q.2;rw[c0f]
end K76
namespace L2
open PySem PySem.Spec PyProof.Rows
section
variable {P:Program} {w:World} {A:Around} {E:Value->Shared->Prop}
theorem b1Q {I l:Addr} {its:Array Value} (ne:l≠I):∀(n i:Nat) (s:Shared) (Q:List Value->Shared->Prop),s.heap.IsListIter I l i->s.heap.IsList l its->i+n<=its.size ->
  (∀g,g.IsListIter I l (i+n)->Heap.SameBut I s.heap g->Q ((its.toList.drop i).take n) { s with heap:=g })->wpAny (model P w) A (draw (.ref I) n) Q E s:=by
 intro n
 induction n with
 | zero =>
  intro i s Q st hl le q;exact b4r (by simpa using q s.heap st (Heap.SameBut.refl ..))
 | succ n ih =>
  intro i s Q st hl le q;have lt:i<its.size:=by omega
  show wpAny _ _ (pyNext (.ref I) >>= _) Q E s;refine b4n (b7G st hl (x:=its[i]) (by simp[lt]) λg1 st1 sb1=>?_);refine b4n (b4T (ih (i+1) _ _ st1 (hl.extBut sb1.extBut ne) (by omega) λg2 st2 sb2=>b4r ?_));have e:its.toList.drop i=its[i]::its.toList.drop (i+1):=by simp[b6R,lt]
  have z:=q g2 (by rw[show i+(n+1)=i+1+n by omega];exact st2) (sb1.trans sb2);rw[e,b8h] at z;exact z
theorem a8p {l:Addr} {its:Array Value} {ts:List (Bool × (Value->Sem Unit))} {s:Shared} {Q:Unit->Shared->Prop} (hh:A.handled=none) (hl:s.heap.IsList l its) (hn:ts.length=its.size) (hst:ts.findIdx? (·.1)=none)
  (h:∀g,Heap.ExtBut s.heap.objs.size s.heap g->wpAny (model P w) A (assignInOrder (ts.map (·.2)) its.toList) Q E { s with heap:=g }):wpAny (model P w) A (unpack (.ref l) ts) Q E s:=by
 have ne:l≠s.heap.objs.size:=by obtain⟨o,ho,_⟩:=hl;exact b4H (b4w ho)
 unfold unpack;rw[hn,hst];refine b4n (b4T ?_);unfold unpackItems notIterableAtAll;refine b4n (b4n (b7a hl.typeIs F.slot_list_iter.lookup (b4r ?_)));simp only[b5b,b6B];refine b4n (b4T (b6w hl ?_));refine b4n (b4T (b1Q ne its.size 0 _ _ ⟨_,b4v _ rfl,rfl,rfl⟩ (hl.push _) (by omega) λg1 st1 sb1=>?_));rw[show List.take its.size (List.drop 0 its.toList)=its.toList by rw[List.drop_zero];exact b6M (by simp),if_neg (by simp)];refine b4n (b4T (b8L hh st1 ((hl.push _).extBut sb1.extBut ne) (by simp) λg2 eb=>?_));simp only[Option.isSome_none,b5b,b6B];exact b4r (h g2 λb o hb e=>eb b o hb (sb1.extBut b o hb (b4o _ e)))
end
noncomputable def gLst (K:PySem.W.Frag) (n:Nat) (t:TGs):TG:=λv σ H Q=>∃a xs,v=.ref a/\SqL K H a xs/\xs.length=n/\t xs σ H Q
theorem pg_lst {X:Cx} {pos:Pos} {es:List Expr} {k:Nat} {t:TGs} {n:Nat} (hc:X.calm=true) (h:PGs X es t)
  (hn:(assignEach es X.env).length=n:=by rfl) (hst:(assignEach es X.env).findIdx? (·.1)=none:=by rfl):PG X (.Tuple es k pos) (gLst X.K n t):=by
 intro pins s σ H v u Q I r hw;obtain⟨a,xs,rfl,hq,hl,hw⟩:=hw;cases r;obtain⟨its,rv,p,hz⟩:=I.list hq;rw[PyProof.Rows.assign_Tuple];refine b4n (b9T (a8p (I.ok.hd hc) p.isList (by simp[hn,<-hl,rv.length]) hst λg hx=>?_));have I1:Inv X pins σ H { s with heap:=g }:=I.kept (t':=s.toks) λb o e=>hx b o (b4H (b4w e)) e;exact h pins _ σ H xs _ Q I1 (by simpa using rv) hw
section
variable {X:Cx} {elt iter:Expr} {tg:Str} {tp:Pos} {cs:List Expr} {scope:Scope} {pos:Pos} {tc:TT} {te:TE} {M:List Str}
end
end L2
namespace K76
open PySem L2
noncomputable def a2J (T:Addr) (H H':Hp):Prop:=∀a o,a≠T->H a=some o->H' a=some o
theorem a2J.refl {T:Addr} {H:Hp}:a2J T H H:=λ_ _ _ e=>e
theorem a2J.trans {T:Addr} {H H1 H2:Hp} (a:a2J T H H1) (b:a2J T H1 H2):a2J T H H2:=λx o n e=>b x o n (a x o n e)
theorem a2J.of {T:Addr} {H H':Hp} (s:a0r H H'):a2J T H H':=λa o _ e=>s a o e
structure Cw (L:Nat) (W:List (List Int)):Prop where
 pf:PF W
 lt:∀w∈W,Lt L w
theorem lt_app {L:Nat} {u v:List Int} (h:Lt L u) (h2:Lt L v):Lt L (u++v):=λz hz=>(b4J.mp hz).elim (h z) (h2 z)
theorem mod_ne {L f i j:Int} (h0:0<=i) (h1:i<j) (h2:j<L):(f+i) % L≠(f+j) % L:=λz=>by
 have e:(f+j-(f+i)) % L=0:=Int.emod_eq_emod_iff_emod_sub_eq_zero.mp z.symm;rw[show f+j-(f+i)=j-i by omega,Int.emod_eq_of_lt (by omega) (by omega)] at e;omega
noncomputable def kids (u:List Int) (f:Int) (L n:Nat):List (List Int):=(List.range n).map λ(k:Nat)=>u++[(f+(k:Int)) % (L:Int)]
theorem b0u (u:List Int) (f:Int) (L n:Nat):kids u f L (n+1)=kids u f L n++[u++[(f+(n:Int)) % (L:Int)]]:=by
 unfold kids;rw[c0e,b4D];rfl
theorem grow {L:Nat} (hL:1<=L) {us:List (List Int)} (cd:Cw L us) {p:Nat} {u:List Int} (hu:us[p]?=some u) (f:Int) {n:Nat} (hn:n<=L):Cw L (us.eraseIdx p++kids u f L n):=by
 obtain⟨hp,e⟩:=b4u.mp hu;have pm:(u::us.eraseIdx p).Perm us:=by
  have h:us=us.take p++u::us.drop (p+1):=by rw[<-e,List.getElem_cons_drop,b6A]
  rw[List.eraseIdx_eq_take_drop_succ]
  conv=>rhs;rw[h]
  exact b5H.symm
 have pf:=PF.perm cd.pf pm;obtain⟨h1,h2⟩:=b5K.mp pf;refine⟨b5v.mpr ⟨h2,?_,λa ha b hb=>?_⟩,λw hw=>?_⟩
 ·unfold kids;rw[b5r];refine List.pairwise_lt_range.imp_of_mem λ{a b} ha hb h=>a2B.sib (mod_ne (by omega) (by omega) ?_);have:=b6Q.mp hb;omega
 ·unfold kids at hb;obtain⟨k,_,rfl⟩:=b4F.mp hb;exact((h1 a ha).ext _).symm
 ·rcases b4J.mp hw with hw|hw
  ·exact cd.lt w (List.mem_of_mem_eraseIdx hw)
  ·unfold kids at hw;obtain⟨k,_,rfl⟩:=b4F.mp hw;refine lt_app (cd.lt u (b4B hu)) λx hx=>?_;rw[b4s.mp hx];exact⟨b8x _ (by omega),b7M _ (by omega)⟩
theorem cut3 (xs:List V) (n:Nat) (h:n+3<=xs.length):∃a b c,a3b xs (some (n:Int)) (some ((n:Int)+3))=[a,b,c]/\a∈xs/\b∈xs/\c∈xs:=by
 have e1:HT.sIx xs.length 0 (some (n:Int))=n:=by rw[HT.a3a];omega
 have e2:HT.sIx xs.length xs.length (some ((n:Int)+3))=n+3:=by rw[show(n:Int)+3=((n+3:Nat):Int) by omega,HT.a3a];omega
 unfold a3b;rw[e1,e2,show n+3-n=3 by omega];have l:((xs.drop n).take 3).length=3:=by rw[b4L,b7A];omega
 have m:∀x∈(xs.drop n).take 3,x∈xs:=λx hx=>List.mem_of_mem_drop (b6k hx)
 match e:(xs.drop n).take 3,l,m with
 | [a,b,c],_,m=>exact⟨a,b,c,rfl,m a (by simp),m b (by simp),m c (by simp)⟩
section
variable {P:Program} {w:World} {K:PySem.W.Frag} {mg:Str->Option Value} {base:Heap} {f:Addr} {fd:FuncData}
abbrev NCw:List Str:=["letters","things","cell","words","numbers","at","place","first","more","many","word","k"]
noncomputable def b0v:Sp:=λvs H Q _=>∃(L th:Nat) (c:Int),vs=[.int (L:Int),.int (th:Int),.int c]/\2<=L/\L<=6/\1<=th/\th<=8/\∀(a:Addr) out us H',a0r H H'->H' a=some (.tup out)->Ws H' out us->Cw L us->us.length=th->(∀u∈us,u.length<=60)->Q (.ref a) H'
theorem a1k:a0t NCw ["letters","things","cell"] (a0f b3C):=⟨rfl,rfl,rfl,by decide +kernel,rfl,by decide +kernel,by decide +kernel⟩
theorem a7v (n:Nat):(List.replicate n [V.int 0,V.int 0,V.int 1]).flatten.length=3*n:=by
 rw[a8O];simp;omega
theorem b1R (F:Fun K "_law_code" "_law_code" b3C f fd) (GD:Fns P w K mg base ["cell","many","size"] "_law_drawn" a9R 1) (ml:mg "len"=none) (mm:mg "min"=none) (mr:mg "range"=none) (mt:mg "tuple"=none):a1x P w K mg base CX0 2 f fd ["letters","things","cell"] b0v:=by
 refine F.ok (k:=1) a1k (λvs H Q E h=>?_) (λcdv A outer s H vs Q E hr h=>?_)
 ·obtain⟨L,th,c,rfl,_⟩:=h;rfl
 obtain⟨L,th,c,rfl,L2,L6,t1,t24,q⟩:=h;refine⟨_,a0e (a0q (i:=3) a1k.nd rfl (Or.inl rfl) (a1N (a0a (a1s (a0c)) (a0c))))
   (a0e (a0q (i:=4) a1k.nd rfl (Or.inl rfl) (a0o GD.ok hr (by rfl) GD.m GD.kp GD.b .nil a0G (a0a (pv 2) (a0a (a0p a0M (a0p a4T (a0g) (pv 1)) (a0g)) (a0a (a0g) (a0c))))))
   (a0e (a0q (i:=5) a1k.nd rfl (Or.inl rfl) (a0g))
   (a0e (a4a b5Q (a0s a4U (a0j a0h (by rfl) ml b4P (a0a (pv 3) (a0c))) (pv 1) (nomark _)) (a0e (ps_asg (a1n a2A (a0p a8N (pv 4) (a0p b1Z (a1N (a0a (a0g) (a0a (a0g) (a0a (a0g) (a0c))))) (pv 1))) (a1A (pv 5)) (a1A (a0p a0M (pv 5) (a0g)))) (pg_lst rfl (a1m (a0F (i:=6) a1k.nd rfl (Or.inl rfl)) (a1m (a0F (i:=7) a1k.nd rfl (Or.inl rfl)) (a1m (a0F (i:=8) a1k.nd rfl (Or.inl rfl)) a3Z)))))
   (a0e (a0q (i:=9) a1k.nd rfl (Or.inl rfl) (a0p a0M (a0g) (a0p a0N (a0p a1M (pv 8) (a0g)) (a0p a2G (a0j (a4V rfl) (by rfl) mm a5q (a0a (pv 0) (a0a (a0p a0M (a0p a2G (pv 1) (a0j a0h (by rfl) ml b4P (a0a (pv 3) (a0c)))) (a0g)) (a0c)))) (a0g)))))
   (a0e (a5i (a0Y (pt_mid (a8t (a0s a2x (a0p a0N (pv 8) (a0g)) (a0g) (nomark _)) (a5I (a0s a4U (pv 5) (a0j a0h (by rfl) ml b4P (a0a (pv 4) (a0c))) (nomark _)))).pt) (a0i (a0q (i:=9) a1k.nd rfl (Or.inl rfl) (a0g))) (a0z)))
   (a0e (a0q (i:=10) a1k.nd rfl (Or.inl rfl) (a3K b5x PySem.F.slot_list_pop PySem.F.type_list_pop b0L (pv 3) (a0a (a0p a0N (pv 6) (a0j a0h (by rfl) ml b4P (a0a (pv 3) (a0c)))) (a0c))))
   (a0e (a1K b5Q rfl (a1J (by rfl) mr (a0a (pv 9) (a0c))) (a0F (i:=11) a1k.nd rfl (Or.inl rfl)) (a0i (a1r (a3K b5x b5O b5P a0Z (pv 3) (a0a (a0p a5O (pv 10) (a1s (a0a (a0p a0N (a0p a0M (pv 7) (pv 11)) (pv 0)) (a0c)))) (a0c))))))
   (a0i (a0q (i:=5) a1k.nd rfl (Or.inl rfl) (a0p a0M (pv 5) (a0g))))))))))
   (a0i (a0u (a1j a0P (by rfl) mt a1E (a0a (pv 3) (a0c)))))))),?_⟩
 refine⟨(by show 0<=sizeLine;decide),λt0 ht0=>?_⟩;refine⟨(by show 1<=sizeLine;decide),λl hl=>?_⟩;have s0:=a0d ht0 (.tup []);have hl0:H l=none:=s0.free hl;have s1:=s0.trans (a0d hl (.lst [.ref t0]));have g1:upd (upd H t0 (.tup [])) l (.lst [.ref t0]) l=some (.lst [.ref t0]):=a0b;have w1:Ws (upd (upd H t0 (.tup [])) l (.lst [.ref t0])) [.ref t0] [[]]:=.cons (Wd.of ((a0d hl (.lst [.ref t0])) _ _ a0b)) .nil;generalize upd (upd H t0 (.tup [])) l (.lst [.ref t0])=H1 at s1 g1 w1 ⊢;refine⟨_,rfl,_,rfl,_,_,rfl,rfl,.inl ⟨by decide,by decide⟩,_,_,rfl,rfl,c,3*(th:Int)+9,60,rfl,by omega,by omega,by decide,by decide,λnl ns H2 s2 hnl g2 lns bn=>?_⟩;have lns:ns.length=3*th+9:=by omega
 have ne:nl≠l:=λz=>by rw[z,g1] at hnl;cases hnl
 refine⟨λm σ H'=>a2J l H2 H'/\∃(xs:List V) (us:List (List Int)) (i:Nat) (x6 x7 x8 x9 x10 x11:Option V),H' l=some (.lst xs)/\Ws H' xs us/\Cw L us/\1<=us.length/\us.length<=th/\i<=th+2+us.length/\(∀u∈us,u.length<=i)/\m=2*th+3-i /\
  σ=[some (.int (L:Int)),some (.int (th:Int)),some (.int c),some (.ref l),some (.ref nl),some (.int ((3*i:Nat):Int)),x6,x7,x8,x9,x10,x11],
  ⟨_,.refl,_,[[]],0,_,_,_,_,_,_,s2 _ _ g1,w1.same s2,⟨b5c _ _,λw hw=>by rw[b4s.mp hw];intro x hx;cases hx⟩,b4z _,t1,by omega,(λu hu=>by rw[b4s.mp hu];exact b4z _),rfl,rfl⟩,λm σ H3 hP=>?_⟩
 obtain⟨s3,xs,us,i,x6,x7,x8,x9,x10,x11,g3,w3,cd,u1,uth,hi,ul,rfl,rfl⟩:=hP;have lx:xs.length=us.length:=w3.length;have gn:H3 nl=some (.lst (ns.map V.int)):=s3 _ _ ne g2;refine⟨_,rfl,l,_,rfl,.inl (SqL.of g3),_,rfl,_,_,rfl,rfl,_,rfl,a2I (λc1=>?_) (λc1=>?_)⟩
 ·have c2:us.length<th:=by have:=b4Q c1;omega
  refine⟨λσ' H'=>a2J l H2 H'/\∃(xs:List V) (us':List (List Int)) (at':Int) (x6 x7 x8 x9 x10 x11:Option V),H' l=some (.lst xs)/\Ws H' xs us'/\Cw L us'/\1<=us'.length/\us'.length<=th/\i+1<=th+2+us'.length/\(∀u∈us',u.length<=i+1)/\at'=((3*(i+1):Nat):Int) /\
   σ'=[some (.int (L:Int)),some (.int (th:Int)),some (.int c),some (.ref l),some (.ref nl),some (.int at'),x6,x7,x8,x9,x10,x11],λσ' H' hN=>?_,?_⟩
  ·obtain⟨a1,ys,vs,at',y6,y7,y8,y9,y10,y11,a2,a3,a4,a5,a6,a7,a8,rfl,rfl⟩:=hN;exact⟨2*th+3-(i+1),by omega,a1,ys,vs,i+1,_,_,_,_,_,_,a2,a3,a4,a5,a6,a7,a8,rfl,rfl⟩
  refine⟨_,rfl,(by show 3<=sizeLine;decide),λb1 hb1=>?_⟩;have s4:=a0d hb1 (.lst [.int 0,.int 0,.int 1]);have g4:upd H3 b1 (.lst [.int 0,.int 0,.int 1]) b1=some (.lst [.int 0,.int 0,.int 1]):=a0b;generalize upd H3 b1 (.lst [.int 0,.int 0,.int 1])=H4 at s4 g4 ⊢;refine⟨_,rfl,b1,_,_,rfl,rfl,g4,by omega,by omega,small (by show 3*_<=_;omega),λb2 hb2=>?_⟩;have s5:=a0d hb2 (.lst (List.replicate (th:Int).toNat [V.int 0,V.int 0,V.int 1]).flatten);have g5:upd H4 b2 (.lst (List.replicate (th:Int).toNat [V.int 0,V.int 0,V.int 1]).flatten) b2=some (.lst (List.replicate (th:Int).toNat [V.int 0,V.int 0,V.int 1]).flatten):=a0b;generalize upd H4 b2 (.lst (List.replicate (th:Int).toNat [V.int 0,V.int 0,V.int 1]).flatten)=H5 at s5 g5 ⊢;rw[show(th:Int).toNat=th by omega] at g5;have s35:=s4.trans s5;refine⟨nl,b2,_,_,rfl,rfl,s35 _ _ gn,g5,small (by rw[a7v,b4p];omega),λb3 hb3=>?_⟩;have s6:=a0d hb3 (.lst (ns.map V.int++(List.replicate th [V.int 0,V.int 0,V.int 1]).flatten));have g6:upd H5 b3 (.lst (ns.map V.int++(List.replicate th [V.int 0,V.int 0,V.int 1]).flatten)) b3=some (.lst (ns.map V.int++(List.replicate th [V.int 0,V.int 0,V.int 1]).flatten)):=a0b;generalize upd H5 b3 (.lst (ns.map V.int++(List.replicate th [V.int 0,V.int 0,V.int 1]).flatten))=H6 at s6 g6 ⊢;have s36:=s35.trans s6;have ain:∀y∈ns.map V.int++(List.replicate th [V.int 0,V.int 0,V.int 1]).flatten,∃j,y=V.int j:=λy hy=>by
   rcases b4J.mp hy with hy|hy
   ·obtain⟨j,_,rfl⟩:=b4F.mp hy;exact⟨j,rfl⟩
   ·obtain⟨z,hz,hy⟩:=List.mem_flatten.mp hy;rw[List.eq_of_mem_replicate hz] at hy;rcases b4K.mp hy with rfl|hy
    ·exact⟨0,rfl⟩
    rcases b4K.mp hy with rfl|hy
    ·exact⟨0,rfl⟩
    rw[b4s.mp hy];exact⟨1,rfl⟩
  have ll:(ns.map V.int++(List.replicate th [V.int 0,V.int 0,V.int 1]).flatten).length=6*th+9:=by rw[b4A,a7v,b4p,lns];omega
  generalize ns.map V.int++(List.replicate th [V.int 0,V.int 0,V.int 1]).flatten=zs at g6 ain ll;obtain⟨ya,yb,yc,e3,ma,mb,mc⟩:=cut3 zs (3*i) (by omega);obtain⟨pl,rfl⟩:=ain _ ma;obtain⟨fi,rfl⟩:=ain _ mb;obtain⟨mo,rfl⟩:=ain _ mc;refine⟨_,rfl,_,rfl,_,rfl,_,_,rfl,rfl,_,rfl,b3,zs,rfl,SqL.of g6,λb4 hb4=>?_⟩;have s7:=a0d hb4 (.lst (a3b zs (some ((3*i:Nat):Int)) (some (((3*i:Nat):Int)+3))));have g7:upd H6 b4 (.lst (a3b zs (some ((3*i:Nat):Int)) (some (((3*i:Nat):Int)+3)))) b4=some (.lst [.int pl,.int fi,.int mo]):=by rw[a0b,e3]
  generalize upd H6 b4 (.lst (a3b zs (some ((3*i:Nat):Int)) (some (((3*i:Nat):Int)+3))))=H7 at s7 g7 ⊢;have s37:=s36.trans s7;have g3':=s37 _ _ g3;have w3':=w3.same s37;refine⟨b4,_,rfl,SqL.of g7,rfl,_,_,rfl,_,_,rfl,_,_,rfl,rfl,?_⟩;refine⟨_,rfl,_,_,rfl,rfl,⟨by decide,by decide⟩,_,rfl,_,rfl,_,rfl,l,_,rfl,.inl (SqL.of g3'),_,_,rfl,rfl,_,_,rfl,rfl,_,_,rfl,_,_,rfl,rfl,_,_,rfl,rfl,?_,_,_,rfl,rfl,?_⟩
  ·show(0:Int)<(if (th:Int)-(xs.length:Int)+1<(L:Int) then (th:Int)-(xs.length:Int)+1 else (L:Int))-1;split<;>omega
  dsimp only;have hm:2<=2+mo / 5 % ((if (th:Int)-(xs.length:Int)+1<(L:Int) then (th:Int)-(xs.length:Int)+1 else (L:Int))-1)/\2+mo / 5 % ((if (th:Int)-(xs.length:Int)+1<(L:Int) then (th:Int)-(xs.length:Int)+1 else (L:Int))-1)<=(L:Int) /\
    2+mo / 5 % ((if (th:Int)-(xs.length:Int)+1<(L:Int) then (th:Int)-(xs.length:Int)+1 else (L:Int))-1)<=(th:Int)-(us.length:Int)+1:=by
   generalize hb:(if (th:Int)-(xs.length:Int)+1<(L:Int) then (th:Int)-(xs.length:Int)+1 else (L:Int))=bd;have b1:2<=bd/\bd<=(L:Int)/\bd<=(th:Int)-(us.length:Int)+1:=by
    rw[<-hb];split<;>omega
   have:=b8x (mo / 5) (show bd-1≠0 by omega);have:=b7M (mo / 5) (show 0<bd-1 by omega);omega
  generalize 2+mo / 5 % ((if (th:Int)-(xs.length:Int)+1<(L:Int) then (th:Int)-(xs.length:Int)+1 else (L:Int))-1)=M at hm ⊢;obtain⟨hm1,hm2,hm3⟩:=hm;have gn7:=s37 _ _ gn;refine⟨λσ' H'=>H'=H7/\∃m1:Nat,σ'=[some (.int (L:Int)),some (.int (th:Int)),some (.int c),some (.ref l),some (.ref nl),some (.int ((3*i:Nat):Int)),some (.int pl),some (.int fi),some (.int mo),some (.int (m1:Int)),x10,x11]/\1<=m1/\m1<=L/\m1+us.length<=th+1/\(ns.length<=3*i->2<=m1),?_,?_⟩
  ·refine⟨λb H'=>H'=H7/\(b=true->3*i<ns.length),?_,?_⟩
   ·refine⟨_,rfl,_,_,rfl,rfl,(by show(0:Int)<5;decide),rfl,_,rfl,a2I (λ_=>?_) (λ_=>⟨rfl,λz=>by cases z⟩)⟩;refine⟨_,rfl,_,rfl,nl,_,rfl,.inl (SqL.of gn7),_,_,rfl,rfl,_,rfl,rfl,λz=>?_⟩;have:=b4Q z;rw[b4p] at this;omega
   rintro b H' ⟨rfl,hb⟩;refine a2I (λz=>?_) (λz=>?_)
   ·exact⟨rfl,1,rfl,b4z _,by omega,by omega,λy=>by have:=hb z;omega⟩
   ·refine⟨rfl,M.toNat,?_,by omega,by omega,by omega,λ_=>by omega⟩;rw[show((M.toNat:Nat):Int)=M by omega];rfl
  rintro σ' H8 ⟨rfl,m1,rfl,k1,k2,k3,k4⟩;refine⟨_,rfl,.inl ⟨rfl,_,SqL.of g3'⟩,_,rfl,_,rfl,l,_,rfl,.inl (SqL.of g3'),_,_,rfl,rfl,(by show(0:Int)<_;omega),?_⟩;dsimp only;have q0:0<=pl % (xs.length:Int):=b8x _ (by omega);have q1:pl % (xs.length:Int)<(xs.length:Int):=b7M _ (by omega);generalize pl % (xs.length:Int)=tt at q0 q1 ⊢;obtain⟨y,_,hya⟩:=at_of q0 q1;obtain⟨j,hj1,hj2,hj3,_,_⟩:=a5K hya;obtain⟨u,hu,ru⟩:=Paired.right_of w3' _ _ hj2;refine⟨l,xs,tt,j,y,rfl,rfl,g3',by omega,by omega,hj1,hj2,?_⟩;obtain⟨ya,rfl,hy⟩:=Wd.ti ru;have yl:ya≠l:=a1z hy g3' (by intro z;cases z);have ulen:=ul u (b4B hu);have st37:a2J l H2 H8:=s3.trans (.of s37);refine⟨_,rfl,(m1:Int),rfl,by omega,by omega,?_⟩;refine a1L (λk σ H'=>a2J l H2 H'/\∃(ys:List V) (x11:Option V),H' l=some (.lst ys)/\Ws H' ys (us.eraseIdx j++kids u fi L k)/\TW H' ya u /\
   σ=[some (.int (L:Int)),some (.int (th:Int)),some (.int c),some (.ref l),some (.ref nl),some (.int ((3*i:Nat):Int)),some (.int pl),some (.int fi),some (.int mo),some (.int (m1:Int)),some (.ref ya),x11])
   ⟨λa o na e=>by rw[a0m na];exact st37 a o na e,xs.eraseIdx j,_,a0b,?_,by rw[TW,a0m yl];exact hy,rfl⟩ (λk σ H9 hk hP=>?_) (λσ H9 hP=>?_)
  ·have:=Ws.upd (ls':=xs.eraseIdx j) g3' (Paired.eraseP j w3');simpa [kids] using this
  ·obtain⟨s9,ys,y11,g9,w9,t9,rfl⟩:=hP;have hk':k<m1:=by omega
   refine⟨_,rfl,.inl ⟨rfl,_,SqL.of g9⟩,_,rfl,_,rfl,_,rfl,_,_,rfl,rfl,_,rfl,_,_,rfl,rfl,(by show(0:Int)<(L:Int);omega),(by show 1<=sizeLine;decide),λb5 hb5=>?_⟩;have s10:=a0d hb5 (.tup [.int ((fi+(0+(k:Int))) % (L:Int))]);refine⟨ya,b5,_,_,rfl,rfl,s10 _ _ t9,a0b,small (by rw[b4p];show _+1<=1000;omega),λb6 H11 s11 g11=>?_⟩;have s911:=s10.trans s11;have g9':=s911 _ _ g9;have ly:ys.length<=30:=by rw[w9.length,b4A,List.length_eraseIdx];simp[kids];split<;>omega
   refine⟨l,ys,.ref b6,rfl,rfl,g9',a0l (by omega),?_⟩;have t11:TW H11 b6 (u++[(fi+(k:Int)) % (L:Int)]):=by
    rw[TW,g11,b4D,show(0:Int)+(k:Int)=(k:Int) by omega];rfl
   refine⟨λa o na e=>by rw[a0m na];exact s911 _ _ (s9 a o na e),ys++[.ref b6],_,a0b,?_,by rw[TW,a0m yl];exact s911 _ _ t9,rfl⟩;rw[b0u,<-b5d];exact Ws.upd g9' (Paired.appendP (w9.same s911) (Paired.oneP (Wd.of t11)))
  ·obtain⟨s9,ys,y11,g9,w9,t9,rfl⟩:=hP;rw[show(m1:Int).toNat=m1 by omega] at w9;have jl:j<us.length:=by omega
   have le:(us.eraseIdx j++kids u fi L m1).length=us.length-1+m1:=by rw[b4A,List.length_eraseIdx,if_pos jl];simp[kids]
   refine⟨_,rfl,_,_,rfl,rfl,s9,ys,_,_,_,_,_,_,_,_,g9,w9,grow (by omega) cd hu fi k2,by omega,by omega,?_,λv hv=>?_,?_,rfl⟩
   ·rcases c0c (3*i) ns.length with z|z
    ·omega
    ·have:=k4 z;omega
   ·rcases b4J.mp hv with hv|hv
    ·have:=ul v (List.mem_of_mem_eraseIdx hv);omega
    ·unfold kids at hv;obtain⟨k,_,rfl⟩:=b4F.mp hv;rw[b4A];simp;omega
   ·omega
 ·have c2:us.length=th:=by
   have:¬((xs.length:Int)<(th:Int)):=λz=>c1 (b4W z);omega
  refine⟨_,rfl,l,_,rfl,.inl ⟨SqL.of g3,λa ha=>?_⟩⟩;have s4:=a0d ha (.tup xs);refine q a xs us _ (λb o hb=>?_) a0b (w3.same s4) cd c2 (λu hu=>by have:=ul u hu;omega);exact s4 _ _ (s3 _ _ (λz=>by rw[z,hl0] at hb;cases hb) (s2 _ _ (s1 _ _ hb)))
end
end K76
namespace L2
open PySem PySem.Spec PyProof.Rows PySem.W
structure ZRt (z TI TO i1 i2 l1 l2:Addr) (m n:Nat) (h:Heap):Prop where
 zp:IsZip h z TI TO .none
 ti:IsPair h TI (.ref i1) (.ref i2)
 to_:∃a b,IsPair h TO a b
 a1:SIt false h i1 l1 n
 a2:h.IsRevIter i2 l2 ((m:Int)-1-(n:Int))
section
variable {prog:Program} {w:World} {A:Around} {E:Value->Shared->Prop} {s:Shared} {z TI TO i1 i2 l1 l2:Addr} {m n:Nat} {xs ys:Array Value} {x y:Value}
theorem nextR {it l:Addr} {i:Nat} {items:Array Value} {Q:Value->Shared->Prop} (hit:s.heap.IsRevIter it l (i:Int)) (hl:s.heap.IsList l items) (hx:items[i]?=some x)
  (hQ:∀h',h'.IsRevIter it l ((i:Int)-1)->Heap.SameBut it s.heap h'->Q x { s with heap:=h' }):wpAny (model prog w) A (Builtin.SmallTypes.nextOf (.ref it)) Q E s:=by
 obtain⟨o,ho,hc,hd⟩:=id hit;obtain⟨ol,hol,_,nl,hdl⟩:=hl;unfold Builtin.SmallTypes.nextOf;refine b4n (b5a (name:=Str.ofString "__next__") hit.typeIs F.slot_lri_next (b4Z F.slot_lri_next hit.typeIs F.entry_lri_next ?_ (F.args_lri_next_1 _)));unfold Builtin.«list_reverseiterator.__next__»;refine b4n (b9o (a:=(Value.ref it,[])) rfl ?_)
 try dsimp only
 refine b4n (b4Y ho hd (x:=rawInt (i:Int)) rfl ?_);show wpAny _ _ (if (i:Int)<0 then _ else _) _ _ s;rw[if_neg (by omega)];show wpAny _ _ (field (.ref it) 0 >>= _) _ _ s;refine b4n (b4Y ho hd (x:=.ref l) rfl ?_);show wpAny _ _ (seqItems? (.ref l) >>= _) _ _ s;refine b4n (b5i hol hdl ?_);simp only[b6x,hx];refine b4n (b8a ho hd (by simp) ?_)
 first
 | refine b4r ⟨x,rfl,b4r (hQ _ ?_ (b6O ..))⟩
 | refine b4n (b4r (b4r ⟨x,rfl,b4r (hQ _ ?_ (b6O ..))⟩))
 exact⟨_,b5S _ ho (b8N (b7h hd _)),(b9N ..).trans hc,by
  rw[b7h hd];simp⟩
theorem b0w {Q:Value->Shared->Prop} (D:ZipApart z TI TO i1 i2 l1 l2) (Z:ZRt z TI TO i1 i2 l1 l2 ys.size n s.heap) (hl1:SAt false s.heap l1 xs) (hl2:s.heap.IsList l2 ys) (hx:xs[n]?=some x) (hn:n<ys.size) (hy:ys[ys.size-1-n]?=some y)
  (hQ:∀h',IsZip h' z TI TO (rawInt s.heap.objs.size)->IsPair h' TO x y->SIt false h' i1 l1 (n+1)->h'.IsRevIter i2 l2 ((ys.size:Int)-1-((n+1:Nat):Int))->IsPair h' s.heap.objs.size x y ->
   (∀c o,c≠z->c≠TO->c≠i1->c≠i2->s.heap.get? c=some o->h'.get? c=some o)->Q (.ref s.heap.objs.size) { s with heap:=h' }) :
  wpAny (model prog w) A (Builtin.«zip.__next__» ⟨[.ref z],[]⟩) (λfin s'=>∃v,fin=.done (.ret v)/\Q v s') E s:=by
 obtain⟨hz,hTI,⟨a,b,hTO⟩,h1,h2⟩:=Z;rw[show(ys.size:Int)-1-(n:Int)=((ys.size-1-n:Nat):Int) by omega] at h2;show wpAny _ _ (field (.ref z) 2 >>= _) _ _ _;refine b4n (b4Y hz rfl (x:=.bool false) rfl ?_);show wpAny _ _ (field (.ref z) 3 >>= _) _ _ _;refine b4n (b4Y hz rfl (x:=.ref TI) rfl (b4n (b5i hTI rfl ?_)));show wpAny _ _ (Builtin.SmallTypes.ownedTupleIsFree (.ref z) >>= _) _ _ _;refine b4n ?_;unfold Builtin.SmallTypes.ownedTupleIsFree;refine b4n (b4Y hz rfl (x:=.none) rfl (b4r ?_));simp only[if_true];refine b4n (b5T (b4n (b4Y hz rfl (x:=.ref TO) rfl (b4n (b5g hz (by simp) λg1 z1 b1=>?_)))));have z1':IsZip g1 z TI TO .ellipsis:=z1;have k1:∀c o,c≠z->s.heap.get? c=some o->g1.get? c=some o:=λc o hc e=>b1.extBut _ _ hc e;refine b4n ?_;simp only[b8d,b9p,b6G,b7j];refine b4n (b4n (b7X ?_));show wpAny _ _ (Builtin.SmallTypes.nextOf (.ref i1) >>= _) _ _ _;refine b4n (a5j (s:={ s with heap:=g1 }) (h1.at λo e=>k1 _ o D.i1z e) (hl1.at λo e=>k1 _ o D.l1z e) hx λg2 h12 b2=>b4r ?_);have k2:∀c o,c≠z->c≠i1->s.heap.get? c=some o->g2.get? c=some o:=λc o hc hd e=>b2.extBut _ _ hd (k1 c o hc e);have o2:IsPair g2 TO a b:=k2 _ _ D.TOz D.TOi1 hTO;refine b4n (b5i o2 rfl (b4n (b7n (s:={ s with heap:=g2 }) o2 λg3 o3 b3=>?_)));have o3':IsPair g3 TO x b:=o3;refine b4n (b6H (b4r ?_));refine b4n (b4n (b7X ?_));show wpAny _ _ (Builtin.SmallTypes.nextOf (.ref i2) >>= _) _ _ _;have k3:∀c o,c≠z->c≠i1->c≠TO->s.heap.get? c=some o->g3.get? c=some o:=λc o hc hd he e=>b3.extBut _ _ he (k2 c o hc hd e);refine b4n (nextR (s:={ s with heap:=g3 }) (h2.at λo e=>k3 _ o D.i2z D.i12.symm D.TOi2.symm e) (hl2.at λo e=>k3 _ o D.l2z D.l2i1 D.l2TO e) hy λg4 h24 b4=>b4r ?_);have h24:g4.IsRevIter i2 l2 ((ys.size:Int)-1-((n+1:Nat):Int)):=by
  rw[show(ys.size:Int)-1-((n+1:Nat):Int)=((ys.size-1-n:Nat):Int)-1 by omega];exact h24
 have o4:IsPair g4 TO x b:=b4.extBut _ _ D.TOi2 o3';refine b4n (b5i o4 rfl (b4n (b7n (s:={ s with heap:=g4 }) o4 λg5 o5 b5=>?_)));have o5':IsPair g5 TO x y:=o5;refine b4n (b6H (b4r (b4r ?_)));refine b4n (b5i o5' rfl (b4n (b7k ?_)));have sz:g5.objs.size=s.heap.objs.size:=by rw[b5.1,b4.1,b3.1,b2.1,b1.1]
 have z5:IsZip g5 z TI TO .ellipsis:=b5.extBut _ _ D.TOz.symm (b4.extBut _ _ D.i2z.symm (b3.extBut _ _ D.TOz.symm (b2.extBut _ _ D.i1z.symm z1')));have k5:∀c o,c≠z->c≠TO->c≠i1->c≠i2->s.heap.get? c=some o->g5.get? c=some o:=λc o c1 c2 c3 c4 e=>b5.extBut _ _ c2 (b4.extBut _ _ c4 (k3 c o c1 c3 c2 e));have h15:SIt false g5 i1 l1 (n+1):=h12.at λo e=>b5.extBut _ _ D.TOi1.symm (b4.extBut _ _ D.i12 (b3.extBut _ _ D.TOi1.symm e));have h25:g5.IsRevIter i2 l2 ((ys.size:Int)-1-((n+1:Nat):Int)):=h24.at λo e=>b5.extBut _ _ D.TOi2.symm e;have zl:z<g5.objs.size:=b4w z5;show wpAny _ _ (Builtin.SmallTypes.ownedTupleHandOut (.ref z) (.ref g5.objs.size) >>= _) _ _ _;refine b4n ?_;unfold Builtin.SmallTypes.ownedTupleHandOut;have z6:IsZip (g5.push { cls:=.type "tuple",data:=.seq #[x,y] }) z TI TO .ellipsis:=b4o _ z5;refine b4n (b5g z6 (by simp) λg7 z7 b7=>?_)
 replace z7:IsZip g7 z TI TO (rawInt g5.objs.size):=z7
 refine b5g z7 (by simp) λg8 z8 b8=>?_
 replace z8:IsZip g8 z TI TO (rawInt g5.objs.size):=z8
 have up:∀c o,c≠z->g5.get? c=some o->g8.get? c=some o:=λc o c1 e=>b8.extBut _ _ c1 (b7.extBut _ _ c1 (b4o _ e));have p8:IsPair g8 g5.objs.size x y:=b8.extBut _ _ (b5k zl) (b7.extBut _ _ (b5k zl) (b4v _ rfl));rw[sz] at z8 p8;refine b4r ⟨_,rfl,?_⟩;show Q (.ref g5.objs.size) _;rw[sz];exact hQ g8 z8 (up _ _ D.TOz o5') (h15.at λo e=>up _ o D.i1z e) (h25.at λo e=>up _ o D.i2z e) p8 λc o c1 c2 c3 c4 e=>up c o c1 (k5 c o c1 c2 c3 c4 e)
theorem b1S {Q:Fin->Shared->Prop} (hh:A.handled=none) (D:ZipApart z TI TO i1 i2 l1 l2) (Z:ZRt z TI TO i1 i2 l1 l2 m n s.heap) (hl1:SAt false s.heap l1 xs) (hx:xs[n]?=none)
  (hE:∀h' e,(∀c o,c≠z->c≠TO->c≠i1->c≠i2->s.heap.get? c=some o->h'.get? c=some o)->(∃o,h'.get? e=some o/\o.cls=.type "StopIteration")->E (.ref e) { s with heap:=h' }) :
  wpAny (model prog w) A (Builtin.«zip.__next__» ⟨[.ref z],[]⟩) Q E s:=by
 obtain⟨hz,hTI,⟨a,b,hTO⟩,h1,h2⟩:=Z;show wpAny _ _ (field (.ref z) 2 >>= _) _ _ _;refine b4n (b4Y hz rfl (x:=.bool false) rfl ?_);show wpAny _ _ (field (.ref z) 3 >>= _) _ _ _;refine b4n (b4Y hz rfl (x:=.ref TI) rfl (b4n (b5i hTI rfl ?_)));show wpAny _ _ (Builtin.SmallTypes.ownedTupleIsFree (.ref z) >>= _) _ _ _;refine b4n ?_;unfold Builtin.SmallTypes.ownedTupleIsFree;refine b4n (b4Y hz rfl (x:=.none) rfl (b4r ?_));simp only[if_true];refine b4n (b5T (b4n (b4Y hz rfl (x:=.ref TO) rfl (b4n (b5g hz (by simp) λg1 z1 b1=>?_)))));have z1':IsZip g1 z TI TO .ellipsis:=z1;have k1:∀c o,c≠z->s.heap.get? c=some o->g1.get? c=some o:=λc o hc e=>b1.extBut _ _ hc e;refine b4n ?_;simp only[b8d,b9p,b6G,b7j];refine b4n (b4n (b7X ?_));show wpAny _ _ (Builtin.SmallTypes.nextOf (.ref i1) >>= _) _ _ _;refine b4n (endS (s:={ s with heap:=g1 }) hh (h1.at λo e=>k1 _ o D.i1z e) (hl1.at λo e=>k1 _ o D.l1z e) hx λg2 e b2 ⟨oe,he,ce⟩=>?_);have z2:IsZip g2 z TI TO .ellipsis:=b2 _ _ D.i1z.symm z1';have ez:e≠z:=λq=>by subst q;rw[z2] at he;cases he;simp at ce
 exact b5g z2 (by simp) λg3 _ b3=>hE g3 e (λc o c1 _ c3 _ q=>b3.extBut _ _ c1 (b2 _ _ c3 (k1 c o c1 q))) ⟨oe,b3.extBut _ _ ez he,ce⟩
theorem b0x {Q:Option Value->Shared->Prop} (D:ZipApart z TI TO i1 i2 l1 l2) (Z:ZRt z TI TO i1 i2 l1 l2 ys.size n s.heap) (hl1:SAt false s.heap l1 xs) (hl2:s.heap.IsList l2 ys) (hx:xs[n]?=some x) (hn:n<ys.size) (hy:ys[ys.size-1-n]?=some y)
  (hQ:∀h',IsZip h' z TI TO (rawInt s.heap.objs.size)->IsPair h' TO x y->SIt false h' i1 l1 (n+1)->h'.IsRevIter i2 l2 ((ys.size:Int)-1-((n+1:Nat):Int))->IsPair h' s.heap.objs.size x y ->
   (∀c o,c≠z->c≠TO->c≠i1->c≠i2->s.heap.get? c=some o->h'.get? c=some o)->Q (some (.ref s.heap.objs.size)) { s with heap:=h' }):wpAny (model prog w) A (pyNext (.ref z)) Q E s:=by
 have hT:s.TypeIs (.ref z) "zip":=⟨_,Z.zp,rfl⟩
 unfold pyNext;exact b4n (b6q (b5a (name:=Str.ofString "__next__") hT b6d (b4Z b6d hT b7C
  (b0w D Z hl1 hl2 hx hn hy λh' a1 a2 a3 a4 a5 a7=>b4r (hQ h' a1 a2 a3 a4 a5 a7)) (b7s _))))
theorem b0y {Q:Option Value->Shared->Prop} (hh:A.handled=none) (D:ZipApart z TI TO i1 i2 l1 l2) (Z:ZRt z TI TO i1 i2 l1 l2 m n s.heap) (hl1:SAt false s.heap l1 xs) (hx:xs[n]?=none)
  (hQ:∀h',(∀c o,c≠z->c≠TO->c≠i1->c≠i2->s.heap.get? c=some o->h'.get? c=some o)->Q none { s with heap:=h' }):wpAny (model prog w) A (pyNext (.ref z)) Q E s:=by
 have hT:s.TypeIs (.ref z) "zip":=⟨_,Z.zp,rfl⟩
 unfold pyNext;refine b4n (b6q (b5a (name:=Str.ofString "__next__") hT b6d (b4Z b6d hT b7C (b1S hh D Z hl1 hx λh' e hk he=>?_) (b7s _))));obtain⟨o,ho,hc⟩:=he;exact b4n (b6L (T:="StopIteration") (b:=true) ⟨o,ho,hc⟩ b8b (b4r (hQ _ hk)))
end
noncomputable def Itv (K:PySem.W.Frag) (m:Nat) (a b:Addr):It :=
 ⟨λi H=>∃xs ys x y,SqL K H a xs/\SqL K H b ys/\ys.length=m/\xs[i]?=some x/\ys.reverse[i]?=some y,
  λi H v H'=>∃p x y,v=.ref p/\H p=none/\(∀xs,SqL K H a xs->xs[i]?=some x)/\(∀ys,SqL K H b ys->ys.reverse[i]?=some y)/\H'=upd H p (.tup [x,y]),
  λi H=>∃xs,SqL K H a xs/\xs.length<=i⟩
theorem ZRt.obj {z TI TO i1 i2 l1 l2:Addr} {m n:Nat} {h:Heap} (Z:ZRt z TI TO i1 i2 l1 l2 m n h):∀b∈[z,TI,TO,i1,i2],∃o,h.get? b=some o/\∀v,o.data≠.cell v:=λb hb=>by
 obtain⟨hz,hTI,⟨x,y,hTO⟩,h1,o,ho,_,hd⟩:=Z;simp only[b4K,b5u,b7o] at hb;rcases hb with rfl|rfl|rfl|rfl|rfl
 ·exact⟨_,hz,λv z=>by cases z⟩
 ·exact⟨_,hTI,λv z=>by cases z⟩
 ·exact⟨_,hTO,λv z=>by cases z⟩
 ·exact h1.obj
 ·exact⟨o,ho,λv z=>by rw[hd] at z;cases z⟩
theorem b0z {P:Program} {w:World} {K:PySem.W.Frag} {elts:List Expr} {x1} {pos:Pos} {m:Nat} {z TI TO i1 i2 a b:Addr} (D:ZipApart z TI TO i1 i2 a b):b4i P w K (.Tuple elts x1 pos) (Itv K m a b) [z,TI,TO,i1,i2] z (λn h=>ZRt z TI TO i1 i2 a b m n h) where
 mem:=by simp
 obj:=λi h st=>st.obj
 keep:=λi h h' ⟨hz,hTI,⟨x,y,hTO⟩,h1,h2⟩ k=>⟨k z (by simp) _ hz,k TI (by simp) _ hTI,⟨x,y,k TO (by simp) _ hTO⟩,h1.at λo e=>k i1 (by simp) o e,h2.at λo e=>k i2 (by simp) o e⟩
 item:=by
  intro X hP hw hK hc i pins s σ H E I hf st hg;subst hP hw hK;obtain⟨xs,ys,x,y,q1,q2,hm,hx,hy⟩:=hg;obtain⟨us,r1,p1⟩:=a5Q (k:=false) I q1;obtain⟨vs,r2,p2⟩:=a5Q (k:=false) I q2;obtain⟨u,hu,ru⟩:=r1.get hx;have lv:=r2.length;have li:i<ys.length:=by
   have:=(b4u.mp hy).1
   rwa [b8k] at this
  rw[b8W li] at hy;obtain⟨v,hv,rv⟩:=r2.get hy;have em:m=vs.toArray.size:=by rw[b4y];omega
  subst em;have lt:∀b∈[z,TI,TO,i1,i2],b<s.heap.objs.size:=λb hb=>by
   obtain⟨o,ho,_⟩:=st.obj b hb;exact b4w ho
  refine b0x D st p1 p2 (x:=u) (y:=v) (by simpa using hu) (by rw[b4y];omega) (by rw[b4y,<-lv];simpa using hv) λh' z1 o1 a1 a2 pr kk=>?_;refine⟨_,rfl,wpAny_letOwnedTupleGo_zip (s:={ s with heap:=h' }) z1 λh2 z2 b2=>?_⟩;have hT:H s.heap.objs.size=none:=I.hok.fresh (b4z _);have I1:Inv X pins σ (upd H s.heap.objs.size (.tup [x,y])) { s with heap:=s.heap.push { cls:=.type "tuple",data:=.seq #[u,v] } }:=I.laid (t':=s.toks) (λb u e=>b4o _ e) (b4z _) ⟨by show 2<=sizeLine;decide,[u,v],.cons ru (.cons rv .nil),⟨_,b4v _ rfl,_,rfl⟩⟩;have Tz:s.heap.objs.size≠z:=b5k (lt z (by simp));have fp:∀b∈[z,TI,TO,i1,i2],a2w X pins (upd H s.heap.objs.size (.tup [x,y])) b:=λb hb=>by
   obtain⟨f0,f1,f2,f3,f4,f5⟩:=hf b hb;exact⟨by rw[a0m (b4H (lt b hb))];exact f0,f1,f2,f3,f4,f5⟩
  have I2:=I1.turnedL (h':=h2) (t':=s.toks) (λc o hc e=>by
   simp only[b4K,b5u,b7o,not_or] at hc;by_cases zc:c=s.heap.objs.size
   ·subst zc;rw[b4v _ rfl] at e;cases e;exact b2.extBut _ _ Tz pr
   ·have e':s.heap.get? c=some o:=by rw[<-e];exact(b8D _ _ _ zc).symm
    exact b2.extBut _ _ hc.1 (kk c o hc.1 hc.2.2.1 hc.2.2.2.1 hc.2.2.2.2 e')) fp
  refine⟨.ref s.heap.objs.size,_,I2,rfl,⟨_,x,y,rfl,hT,λzs hz=>?_,λzs hz=>?_,rfl⟩,⟨z2,b2.extBut _ _ D.TIz (kk _ _ D.TIz D.TITO D.TIi1 D.TIi2 st.ti),⟨u,v,b2.extBut _ _ D.TOz o1⟩,a1.at λo e=>b2.extBut _ _ D.i1z e,a2.at λo e=>b2.extBut _ _ D.i2z e⟩,λb hb=>(fp b hb).1⟩
  ·rw[a2N (k:=false) I hz q1];exact hx
  ·rw[a2N (k:=false) I hz q2,b8W li];exact hy
 done:=by
  intro X hP hw hK hc i pins s σ H E I hf st hg;subst hP hw hK;obtain⟨xs,q1,hl⟩:=hg;obtain⟨us,r1,p1⟩:=a5Q (k:=false) I q1;have e1:=r1.length;refine b0y (I.ok.hd hc) D st p1 (by simp;omega) λh' kk=>⟨rfl,I.turnedL (t':=s.toks) (λc o hc e=>?_) hf⟩
  simp only[b4K,b5u,b7o,not_or] at hc;exact kk c o hc.1 hc.2.2.1 hc.2.2.2.1 hc.2.2.2.2 e
 self:=λ_ _ _ _ _ st h=>b8e st.zp h
theorem b0A {K:PySem.W.Frag} {a b:Addr} {xs ys:List V} {tc:TT} {te:TE} {σ:St} {H:Hp} {Q:VK} {d:Addr} (hlen:xs.length=ys.length) (Pv:Nat->Hp->Prop) (h0:Pv 0 (upd H d (.lst []))) (hl:∀i H,i<=xs.length->Pv i H->SqL K H a xs/\SqL K H b ys)
  (hs:∀i x y p H,xs[i]?=some x->ys.reverse[i]?=some y->Pv i H->H p=none->a5S tc te σ d x y (upd H p (.tup [x,y])) (Pv (i+1)))
  (hd:∀H,Pv xs.length H->Q (.ref d) H) :
  ∃W:Nat->Nat->Hp->Prop,(∃m,W 0 m (upd H d (.lst [])))/\∀i m H,W i m H ->
   ((Itv K ys.length a b).stop i H/\Q (.ref d) H)\/((Itv K ys.length a b).go i H/\∃N:Hp->Prop,(∀H',N H'->∃m',m'<m/\W (i+1) m' H')/\∀x H',(Itv K ys.length a b).yld i H x H'->a5m K x (List.replicate 2 none++σ) H' λσ2 H2 =>
    tc σ2 H2 λb H3=>if b=true then te σ2 H3 λy H4=>∃ys,H4 d=some (.lst ys)/\ys.length<sizeLine/\N (upd H4 d (.lst (ys++[y]))) else N H3):=by
 refine⟨λi m H=>m=xs.length-i/\i<=xs.length/\Pv i H,⟨xs.length,by simp,b5j _,h0⟩,?_⟩;rintro i m H ⟨rfl,hi,p⟩;obtain⟨q1,q2⟩:=hl i H hi p;by_cases hlt:i<xs.length
 ·refine .inr ⟨⟨xs,ys,_,_,q1,q2,rfl,b4q hlt,b4q (by rw[b8k];omega)⟩,Pv (i+1),λH' n=>⟨xs.length-(i+1),by omega,rfl,by omega,n⟩,?_⟩;rintro v H' ⟨p',x,y,rfl,hn,e1,e2,rfl⟩;exact⟨p',[x,y],rfl,SqT.of a0b,rfl,x,[y],rfl,y,[],rfl,rfl,hs i x y p' H (e1 _ q1) (e2 _ q2) p hn⟩
 ·have e:i=xs.length:=by omega
  subst e;exact .inl ⟨⟨xs,q1,b4z _⟩,hd H p⟩
noncomputable def b4m (h:Heap) (l1 i2:Addr):Heap:=(((h.push (itO false l1)).push { cls:=.type "tuple",data:=.seq #[.ref h.objs.size,.ref i2] }).push { cls:=.type "tuple",data:=.seq #[.none,.none] }).push
 { cls:=.type "zip",data:=.fields #[.none,.bool false,.bool false,.ref (h.push (itO false l1)).objs.size,.ref ((h.push (itO false l1)).push { cls:=.type "tuple",data:=.seq #[.ref h.objs.size,.ref i2] }).objs.size] }
theorem meetsR (l1 i2 l2:Addr) (j:Int) (xs:Array Value) :
  Meets (Builtin.«zip.__new__» ⟨[.type "zip",.ref l1,.ref i2],[]⟩) (λ_ R s=>SAt false s.heap l1 xs/\s.heap.IsRevIter i2 l2 j/\R (.ok (.ret (.ref (s.heap.objs.size+3)))) { s with heap:=b4m s.heap l1 i2 }) :=
 .of_wp λprog w A R s h=>by
  obtain⟨hp,g,d,tk,os⟩:=s;obtain⟨hl1,hl2,h⟩:=h;have hsub:=sub_zip;have hL1:SAt false (Shared.heap ⟨hp,g,d,tk,os⟩) l1 xs:=hl1;have hL2:(Shared.heap ⟨hp.push (itO false l1),g,d,tk,os⟩).IsRevIter i2 l2 j:=hl2.at λo e=>b4o _ e
  wp_walk using a5R hL1,wpAny_pyIter_revIter hL2
  refine⟨_,rfl,?_⟩;have z:(((hp.push (itO false l1)).push { cls:=.type "tuple",data:=.seq #[.ref hp.objs.size,.ref i2] }).push { cls:=.type "tuple",data:=.seq #[.none,.none] }).objs.size=hp.objs.size+3:=by
   rw[b4X,b4X,b4X]
  rw[<-z] at h;exact h
theorem callR {prog:Program} {w:World} {A:Around} {E:Value->Shared->Prop} {s:Shared} {l1 i2 l2:Addr} {m:Nat} {xs:Array Value} {Q:Value->Shared->Prop} (h1:SAt false s.heap l1 xs) (h2:s.heap.IsRevIter i2 l2 ((m:Int)-1))
  (h:∀h',ZRt (s.heap.objs.size+3) (s.heap.objs.size+1) (s.heap.objs.size+2) s.heap.objs.size i2 l1 l2 m 0 h'->(∀c o,s.heap.get? c=some o->h'.get? c=some o)->Q (.ref (s.heap.objs.size+3)) { s with heap:=h' }) :
  wpAny (model prog w) A (call (.type "zip") [.ref l1,.ref i2]) Q E s:=by
 refine callType_new F.called_zip (by decide) (F.typeCall_zip_2 _ _) (F.newCall_zip_2 _ _) (λobj=>F.args_object_init_3 obj _ _) F.entry_zip_new (meetsR l1 i2 l2 _ xs) ⟨h1,h2,?_⟩;have kp:∀c o,s.heap.get? c=some o->(b4m s.heap l1 i2).get? c=some o:=λc o x=>b4o _ (b4o _ (b4o _ (b4o _ x)));have z1:(s.heap.push (itO false l1)).objs.size=s.heap.objs.size+1:=b4X ..;have g1:(b4m s.heap l1 i2).get? s.heap.objs.size=some (itO false l1):=b4o _ (b4o _ (b4o _ (b4v _ a4i)));have g3:(b4m s.heap l1 i2).get? (s.heap.objs.size+1)=some { cls:=.type "tuple",data:=.seq #[.ref s.heap.objs.size,.ref i2] }:=by
  rw[<-z1];exact b4o _ (b4o _ (b4v _ rfl))
 have z2:((s.heap.push (itO false l1)).push { cls:=.type "tuple",data:=.seq #[.ref s.heap.objs.size,.ref i2] }).objs.size=s.heap.objs.size+2:=by rw[b4X,z1]
 have g4:(b4m s.heap l1 i2).get? (s.heap.objs.size+2)=some { cls:=.type "tuple",data:=.seq #[.none,.none] }:=by
  rw[<-z2];exact b4o _ (b4v _ rfl)
 have g5:(b4m s.heap l1 i2).get? (s.heap.objs.size+3)=some { cls:=.type "zip",data:=.fields #[.none,.bool false,.bool false,.ref (s.heap.objs.size+1),.ref (s.heap.objs.size+2)] }:=by
  rw[<-z1,<-z2,show(s.heap.objs.size+3)=(((s.heap.push (itO false l1)).push { cls:=.type "tuple",data:=.seq #[.ref s.heap.objs.size,.ref i2] }).push { cls:=.type "tuple",data:=.seq #[.none,.none] }).objs.size by rw[b4X,z2]];exact b4v _ rfl
 show _/\_;exact⟨⟨_,g5,rfl⟩,h _ ⟨g5,g3,⟨_,_,g4⟩,.new g1,by rw[show(m:Int)-1-((0:Nat):Int)=(m:Int)-1 by omega];exact h2.at (kp _)⟩ kp⟩
noncomputable def iZipR (K:PySem.W.Frag) (ta tb:TE):TI:=λσ H R=>ta σ H λx H1=>tb σ H1 λy H2=>∃a b xs ys,x=.ref a/\y=.ref b/\H2 a=some (.lst xs)/\H2 b=some (.lst ys)/\R (Itv K ys.length a b) H2
theorem b4f {X:Cx} {elts:List Expr} {x1} {tp:Pos} {a b:Expr} {ta tb:TE} {p pos p2 pos2:Pos} (hg:Gl X "zip") (hm:X.mg "zip"=none) (hg2:Gl X "reversed") (hm2:X.mg "reversed"=none) (ha:PE X a ta) (hb:PE X b tb)
  (hs:starEach [a,.Call (.Name "reversed" p2) [b] [] pos2] X.env=(false,eval a X.env)::starEach [.Call (.Name "reversed" p2) [b] [] pos2] X.env:=by rfl) (hs1:starEach [.Call (.Name "reversed" p2) [b] [] pos2] X.env=(false,eval (.Call (.Name "reversed" p2) [b] [] pos2) X.env)::starEach [] X.env:=by rfl) (hs2:starEach [b] X.env=(false,eval b X.env)::starEach [] X.env:=by rfl) :
  PI X (.Tuple elts x1 tp) (.Call (.Name "zip" p) [a,.Call (.Name "reversed" p2) [b] [] pos2] [] pos) (iZipR X.K ta tb):=by
 intro pins s σ H R I h;refine b5E (a1l I hg hm b2Z ?_ (by decide) (by decide));refine b5F ?_ hs rfl;rw[hs];refine b6E (thn (ha pins s σ H _ I h) λu s1 ⟨x,H1,I1,r1,q1⟩=>?_);rw[hs1];refine b6E ?_;refine b5E (a1l I1 hg2 hm2 a7S ?_ (by decide) (by decide));refine b5F ?_ hs2 rfl;rw[hs2];refine b6E (thn (hb pins s1 σ H1 _ I1 q1) λv s2 ⟨y,H2,I2,r2,q2⟩=>?_);refine b6Z ?_;obtain⟨a',b',xs,ys,rfl,rfl,e1,e2,q⟩:=q2;cases r1;cases r2;obtain⟨_,it1,n1,v1,_,g1⟩:=I2.lstM e1;obtain⟨_,it2,n2,v2,_,g2⟩:=I2.lstM e2;refine call_reversed_list (items:=it2.toArray) ⟨_,g2,rfl,_,rfl⟩ ?_;refine b6Z ?_;have lz:it2.toArray.size=ys.length:=by rw[b4y,v2.length]
 rw[lz];have up:∀c o,s2.heap.get? c=some o->(s2.heap.push (revObj b' ((ys.length:Int)-1))).get? c=some o:=λc o e=>b4o _ e;have sz:(s2.heap.push (revObj b' ((ys.length:Int)-1))).objs.size=s2.heap.objs.size+1:=b4X ..;refine callR (s:={ s2 with heap:=s2.heap.push (revObj b' ((ys.length:Int)-1)) }) (l2:=b') (m:=ys.length) (xs:=it1.toArray) ⟨_,up _ _ g1,rfl,_,rfl⟩ ⟨_,b4v _ rfl,rfl,rfl⟩ λh' Z kp=>b8e (s:={ s2 with heap:=h' }) Z.zp ?_;have sz:(Shared.heap { s2 with heap:=s2.heap.push (revObj b' ((ys.length:Int)-1)) }).objs.size=s2.heap.objs.size+1:=sz;rw[sz] at Z ⊢;have t1:@LT.lt Nat _ a' s2.heap.objs.size:=b4w g1;have t2:@LT.lt Nat _ b' s2.heap.objs.size:=b4w g2;have D:ZipApart (s2.heap.objs.size+1+3) (s2.heap.objs.size+1+1) (s2.heap.objs.size+1+2) (s2.heap.objs.size+1) s2.heap.objs.size a' b':=by
  constructor<;>(show ¬(@Eq Nat _ _);omega)
 refine⟨_,[s2.heap.objs.size+1+3,s2.heap.objs.size+1+1,s2.heap.objs.size+1+2,s2.heap.objs.size+1,s2.heap.objs.size],_,_,H2,rfl,I2.kept (t':=s2.toks) (λc o e=>kp c o (up c o e)),b0z D,Z,λc hc=>?_,q⟩;have ge:s2.heap.objs.size<=c:=by
  simp only[b4K,b5u,b7o] at hc;rcases hc with rfl|rfl|rfl|rfl|rfl<;>(show @LE.le Nat _ _ _;omega)
 exact I2.fpOk ge (I2.hok.fresh ge)
noncomputable def b4g (K:PySem.W.Frag) (ta tb:TE) (tc:TT) (te:TE):TE:=λσ H Q=>ta σ H λx H1=>tb σ H1 λy H2=>∃a b xs ys,x=.ref a/\y=.ref b/\H2 a=some (.lst xs)/\H2 b=some (.lst ys)/\xs.length=ys.length/\∀d,H2 d=none ->
 ∃Pv:Nat->Hp->Prop,Pv 0 (upd H2 d (.lst []))/\(∀i H,i<=xs.length->Pv i H->SqL K H a xs/\SqL K H b ys)/\(∀i x y p H,xs[i]?=some x->ys.reverse[i]?=some y->Pv i H->H p=none->a5S tc te σ d x y (upd H p (.tup [x,y])) (Pv (i+1)))/\∀H,Pv xs.length H->Q (.ref d) H
theorem b0B {X:Cx} (K:PySem.W.Frag) {elt a b:Expr} {t1 t2:Str} {p1 p2 tp p pos pos' q2 qos2:Pos} {k:Nat} {cs:List Expr} {scope:Scope} {tc:TT} {te ta tb:TE} {M:List Str} (hc:X.calm=true) (S:a0k scope X.env X.N M) (nd:(t1::t2::M).Nodup) (hl1:scope.names.lookup t1=some .local) (hl2:scope.names.lookup t2=some .local)
  (hg:Gl X "zip") (hm:X.mg "zip"=none) (hg2:Gl X "reversed") (hm2:X.mg "reversed"=none) (ha:PE X a ta) (hb:PE X b tb) (ma:a2a ta) (mb:a2a tb)
  (hin:∀(cl:List (Str × Addr)) (C:Addr) (s0:Shared) (H0:Hp) (fp:List Addr) (pins:List (Addr × Obj)) (σ:St),b4j X (cxC X scope cl C s0 H0 fp (t1::t2::M)) pins σ fp C s0 H0->PTs (cxC X scope cl C s0 H0 fp (t1::t2::M)) cs tc/\PE (cxC X scope cl C s0 H0 fp (t1::t2::M)) elt te)
  (hs:starEach [a,.Call (.Name "reversed" q2) [b] [] qos2] X.env=(false,eval a X.env)::starEach [.Call (.Name "reversed" q2) [b] [] qos2] X.env:=by rfl) (hs1:starEach [.Call (.Name "reversed" q2) [b] [] qos2] X.env=(false,eval (.Call (.Name "reversed" q2) [b] [] qos2) X.env)::starEach [] X.env:=by rfl) (hs2:starEach [b] X.env=(false,eval b X.env)::starEach [] X.env:=by rfl)
  (hf:∀x,foldedSetIterable (.Call (.Name "zip" p) [a,.Call (.Name "reversed" q2) [b] [] qos2] [] pos') X.env x=pure x:=by intro _;rfl) (hK:X.K=K:=by rfl) :
  PE X (.ListComp elt [⟨.Tuple [.Name t1 p1,.Name t2 p2] k tp,.Call (.Name "zip" p) [a,.Call (.Name "reversed" q2) [b] [] qos2] [] pos',cs,0⟩] scope pos) (b4g K ta tb tc te):=by
 subst hK;have hx1:(relabel scope X.env).names.lookup t1=some .local:=by rw[a0x,hl1];rfl
 have hx2:(relabel scope X.env).names.lookup t2=some .local:=by rw[a0x,hl2];rfl
 refine PE.imp (a4f (xs:=[t1,t2]) (M:=M) (g:=a5m X.K) hc S (b4f hg hm hg2 hm2 ha hb hs hs1 hs2) (λcl C s0 H0 fp pins σ bk=>⟨a8u hc (a1m (a0F (i:=0) nd rfl (Or.inl hx1) (Or.inr hx1)) (a1m (a0F (i:=1) nd rfl (Or.inl hx2) (Or.inr hx2)) a3Z)),hin cl C s0 H0 fp pins σ bk⟩) (λv σ H Q h=>a3i h) hf) (λσ H Q h=>?_);refine ma σ H _ _ (λx H1 h=>mb σ H1 _ _ (λy H2 q=>?_) h) h;obtain⟨a',b',xs,ys,e1,e2,q1,q2,hlen,q⟩:=q;refine⟨a',b',xs,ys,e1,e2,q1,q2,λd hd=>?_⟩;obtain⟨Pv,h0,hl,hs,hd⟩:=q d hd;exact b0A hlen Pv h0 hl hs hd
end L2
namespace K76
open PySem L2
theorem five {i:Int} (h0:0<=i) (h1:i<5):atI [V.int 7,.int 6,.int 6,.int 6,.int 6] i=some (.int (if i=0 then 7 else 6)):=by
 have h:i=0\/i=1\/i=2\/i=3\/i=4:=by omega
 rcases h with h|h|h|h|h<;>subst h<;>rfl
section
variable {P:Program} {w:World} {K:PySem.W.Frag} {mg:Str->Option Value} {base:Heap} {f:Addr} {fd:FuncData}
noncomputable def b2D:Sp:=λvs H Q _=>∃l c:Int,vs=[.int l,.int c]/\2<=l/\l<=6/\∀m H',a0r H H'->1<=m->m<=(if l=2 then 7 else 6)->Q (.int m) H'
theorem scMost:a0t ["letters","cell"] ["letters","cell"] (a0f b3B):=⟨rfl,rfl,rfl,by decide +kernel,rfl,by decide +kernel,by decide +kernel⟩
theorem b4h (F:Fun K "_law_most" "_law_most" b3B f fd):a1x P w K mg base CX0 1 f fd ["letters","cell"] b2D:=by
 refine F.ok (k:=0) scMost (λvs H Q E h=>?_) (λcdv A outer s H vs Q E hr h=>?_)
 ·obtain⟨l,c,rfl,_⟩:=h;rfl
 obtain⟨l,c,rfl,l2,l6,q⟩:=h;refine⟨_,a0e (a0Y (a0s a2x (a0p a0N (a0p a1M (pv 1) a0g) a0g) a0g (nomark _)) (a0i (a0u (a0Q a3d (a1N (a0a a0g (a0a a0g (a0a a0g (a0a a0g (a0a a0g a0c)))))) (a0p a2G (pv 0) a0g) (λ_ _=>rfl)))) a0z)
  (a0i (a0u a0g)),?_⟩
 refine⟨_,rfl,_,_,rfl,rfl,⟨by decide,by decide⟩,_,_,rfl,rfl,(by show(0:Int)<_;decide),rfl,_,rfl,?_⟩;refine a2I (λ_=>?_) (λ_=>?_)
 ·refine⟨(by show 5<=sizeLine;decide),λo1 ho1=>?_⟩;have s2:=a0d ho1 (.lst [V.int 7,.int 6,.int 6,.int 6,.int 6]);refine⟨_,rfl,_,_,rfl,rfl,o1,_,_,_,rfl,rfl,SqL.of a0b,five (by omega) (by omega),q _ _ s2 ?_ ?_⟩
  ·split<;>omega
  ·split<;>split<;>omega
 ·exact q 5 H (λb o e=>e) (by omega) (by split<;>omega)
abbrev NPl:List Str:=["prices","weights","code","spent"]
noncomputable def spPlc:Sp:=λvs H Q _=>∃(p q c:Addr) (ps ws:List Int) (zs:List V) (us:List (List Int)),vs=[.ref p,.ref q,.ref c]/\TW H p ps/\TW H q ws/\H c=some (.tup zs)/\Ws H zs us/\us.length=ws.length/\ws.length<=60/\(∀u∈us,Lt ps.length u/\u.length<=60)/\Bw ps/\Bw ws/\∀H',a0r H H'->Q (.int (due ws (srt (us.map (pc ps))))) H'
theorem scPlc:a0t NPl ["prices","weights","code"] (a0f a3x):=⟨rfl,rfl,rfl,by decide +kernel,rfl,by decide +kernel,by decide +kernel⟩
theorem ndPlc1:(("word":Str)::NPl).Nodup:=by decide +kernel
theorem ndPlc2:(("price":Str) :: "weight" :: NPl).Nodup:=by decide +kernel
theorem ok_plc (F:Fun K "_law_least_placed" "_law_least_placed" a3x f fd) (G:Fns P w K mg base ["prices","word"] "_law_price" a6s 1) (mS:mg "sorted"=none) (ms:mg "sum"=none) (mz:mg "zip"=none) (mR:mg "reversed"=none):a1x P w K mg base CX0 2 f fd ["prices","weights","code"] spPlc:=by
 refine F.ok (k:=1) scPlc (λvs H Q E h=>?_) (λcdv A outer s H vs Q E hr h=>?_)
 ·obtain⟨p,q,c,ps,ws,zs,us,rfl,_⟩:=h;rfl
 obtain⟨p,q,c,ps,ws,zs,us,rfl,hp,hq,hc,hz,lu,lw,lt,bp,bw,qq⟩:=h;have lz:zs.length=us.length:=hz.length;refine⟨_,a0e (a0q (i:=3) scPlc.nd rfl (Or.inl rfl) (a0j a2o (by rfl) mS a0U (a0a (a2M (M:=NPl) rfl (a0k.of (a0f a3x) NPl rfl rfl rfl (by decide +kernel) (by decide +kernel) (by decide +kernel) rfl (by decide +kernel)) ndPlc1 rfl (pv 2) a0L
   (λcl C s0 H0 fp=>⟨a0R,a0o G.ok hr (by rfl) G.m G.kp G.b .nil a0G (a0a (pv 1) (a0a (pv 0) a0c))⟩)) a0c)))
  (a0i (a0u (a0j (a1W rfl) (by rfl) ms a7J (a0a (b0B K (M:=NPl) rfl (a0k.of (a0f a3x) NPl rfl rfl rfl (by decide +kernel) (by decide +kernel) (by decide +kernel) rfl (by decide +kernel)) ndPlc2 rfl rfl (by rfl) mz (by rfl) mR (pv 3) (a2j (a0j a2o (by rfl) mS a0U (a0a (pv 1) a0c))) a0L a2k
   (λcl C s0 H0 fp pins σ bk=>⟨a0R,a0p a4j (pv 0) (pv 1)⟩)) a0c)))),?_⟩
 refine⟨_,rfl,c,zs,rfl,SqT.of hc,λd hd=>?_⟩;refine⟨λi H'=>a0r H H'/\H' d=some (.lst (((us.take i).map (pc ps)).map V.int)),⟨a0d hd _,a0b⟩,λi H' _ hP=>SqT.of (hP.1 _ _ hc),λi x H1 hx hP=>?_,λH1 hP=>?_⟩
 ·obtain⟨s1,hd1⟩:=hP;obtain⟨u,hu,ru⟩:=Paired.right_of hz i x hx;have il:=(b4u.mp hu).1;obtain⟨l1,l2⟩:=lt u (b4B hu);refine a0V ⟨_,rfl,_,rfl,.ref p,x,ps,u,rfl,Wd.of (s1 _ _ hp),Wd.same s1 ru,l1,by omega,λH2 s2=>⟨_,s2 _ _ hd1,?_,a0w hd (s1.trans s2),?_⟩⟩
  ·rw[b4p,b4p,b4L];exact a0l (by omega)
  ·rw[a0b,b5e,hu,b4D,b4D];rfl
 obtain⟨s1,hd1⟩:=hP;rw[lz,b5z] at hd1;obtain⟨cs,ecs⟩:∃cs,cs=us.map (pc ps):=⟨_,rfl⟩
 rw[<-ecs] at hd1 qq;have lcs:cs.length=ws.length:=by rw[ecs,b4p,lu]
 have bc:∀x∈srt cs,0<=x/\x<=60*B30:=λx hx=>by
  have:=(a0v cs).mem_iff.mp hx;rw[ecs] at this;obtain⟨u,hu,rfl⟩:=b4F.mp this;obtain⟨b1,b2⟩:=b1M bp u;have b5:(u.length:Int)<=60:=by have:=(lt u hu).2;omega
  exact⟨b1,b8X b2 (b6V b5 (by decide))⟩
 have bw':∀x∈heavy ws,0<=x/\x<=B30:=λx hx=>bw x ((a0v ws).mem_iff.mp (c0a.mp hx));refine⟨d,cs,rfl,.inl hd1,by omega,λe H2 s2 he hl2=>?_⟩;refine⟨_,rfl,λv H3=>∃b,v=.ref b/\a0r H2 H3/\H3 b=some (.lst ((srt ws).map V.int)),⟨_,rfl,q,ws,rfl,.inr ((s1.trans s2) _ _ hq),by omega,λb H3 s3 hb hl3=>⟨b,rfl,s3,hl3⟩⟩,λv H3 hv=>?_⟩;obtain⟨b,rfl,s3,hl3⟩:=hv;have s03:=(s1.trans s2).trans s3;have el3:=s3 _ _ hl2;have l1:(srt cs).length=(srt ws).length:=by rw[a0J,a0J,lcs]
 refine⟨e,b,_,_,rfl,rfl,el3,hl3,by rw[b4p,b4p,l1],λd2 hd2=>?_⟩;refine⟨λi H'=>a0r H3 H'/\H' d2=some (.lst (((List.zipWith (λc w=>c*w) (srt cs) (heavy ws)).take i).map V.int)),⟨a0d hd2 _,a0b⟩,λi H' _ hP=>⟨SqL.of (hP.1 _ _ el3),SqL.of (hP.1 _ _ hl3)⟩,λi x y pp H4 hx hy hP hpp=>?_,λH4 hP=>?_⟩
 ·obtain⟨s4,hd4⟩:=hP;rw[b4C] at hx;obtain⟨x',hx',rfl⟩:=b5q.mp hx;rw[<-List.map_reverse,b4C] at hy;obtain⟨y',hy',rfl⟩:=b5q.mp hy;have hy':(heavy ws)[i]?=some y':=hy';have s5:=a0d hpp (.tup [V.int x',V.int y']);obtain⟨b1,b2⟩:=bc x' (b4B hx');obtain⟨b3,b4⟩:=bw' y' (b4B hy');have il:=(b4u.mp hx').1;rw[a0J] at il;refine a3j ⟨_,rfl,_,rfl,_,_,rfl,rfl,⟨⟨b1,by unfold B30 at *;omega⟩,⟨b3,by unfold B30 at *;omega⟩⟩,_,s5 _ _ hd4,?_,a0w hd2 (s4.trans s5),?_⟩
  ·rw[b4p,b4L,b6t];exact a0l (by omega)
  ·rw[a0b,b5e,List.getElem?_zipWith,hx',hy',b4D];rfl
 ·obtain⟨s4,hd4⟩:=hP;rw[b4p,b6M (by rw[b6t];omega)] at hd4;refine⟨d2,_,rfl,hd4,?_⟩;have e1:(List.zipWith (λc w=>c*w) (srt cs) (heavy ws)).sum=due ws (srt cs):=by
   unfold due;rw[List.zipWith_comm];congr 1;congr 1;exact funext λw=>funext λc=>c0g c w
  rw[e1];exact qq H4 (s03.trans s4)
abbrev NLw:List Str:=["script","prices","weights","found","row","kept","cell","code"]
noncomputable def b1T (K:PySem.W.Frag) (S:Tbs):Sp:=λvs H Q _=>∃(a:Addr) (ns:List Int),vs=[.ref a]/\SqL K H a (ns.map V.int)/\ns.length<=63/\Tb S H/\∀H',Q (.bl true) H'
theorem a5F:a0t NLw ["script"] (a0f b1s):=⟨rfl,rfl,rfl,by decide +kernel,rfl,by decide +kernel,by decide +kernel⟩
theorem sqL_u {H H':Hp} {a:Addr} {xs:List V} (k:b3N H H') (h:SqL K H a xs):SqL K H' a xs:=by
 rcases h with (e|⟨o,e⟩)|r
 ·exact .inl (.inl (k _ _ (by intro _ z;cases z) e))
 ·exact .inl (.inr ⟨o,k _ _ (by intro _ z;cases z) e⟩)
 ·exact .inr r
theorem ok_law {S:Tbs} {e aF:Addr} {ed:FuncData} (F:Fun K "law" "law" b1s e ed) (GP:Fns P w K mg base ["script"] "_law_prices" (a7f K) 7) (GW:Fns P w K mg base ["script","most"] "_law_weights" (a5C K) 7) (GO:Fns P w K mg base ["letters","cell"] "_law_most" b2D 7) (GX:Fns P w K mg base ["script","k"] "_law_cell_at" (a7d K) 7)
  (GF:Fns P w K mg base ["prices","weights"] "free_code" (spFc S) 7) (GH:Fns P w K mg base ["found"] "_law_whole" a6k 7) (GC:Fns P w K mg base ["code","letters","things"] "_law_code_right" spCr 7) (GD:Fns P w K mg base NC "_law_due_cost" a7r 7) (GM:Fns P w K mg base ["prices","weights"] "free_moves" (spFm aF S) 7) (GK:Fns P w K mg base PCo "code_of_moves" (b3S S) 7) (GL:Fns P w K mg base ["letters","things","cell"] "_law_code" b0v 7) (GB:Fns P w K mg base ["prices","weights","code"] "_law_least_placed" spPlc 7)
  (ml:mg "len"=none) (mi:mg "isinstance"=none) (mt:mg "tuple"=none) (mL:mg "list"=none):a1x P w K mg base CX0 8 e ed ["script"] (b1T K S):=by
 refine F.ok (k:=7) a5F (λvs H Q E h=>?_) (λcdv A outer s H vs Q E hr h=>?_)
 ·obtain⟨a,ns,rfl,_⟩:=h;rfl
 obtain⟨a,ns,rfl,hS,h63,tab,q⟩:=h;refine⟨_,a0e (a0q (i:=1) a5F.nd rfl (Or.inl rfl) (a0o GP.ok hr (by rfl) GP.m GP.kp GP.b .nil a0G (a0a (pv 0) (a0c))))
   (a0e (a0q (i:=2) a5F.nd rfl (Or.inl rfl) (a0o GW.ok hr (by rfl) GW.m GW.kp GW.b .nil a0G (a0a (pv 0) (a0a (a0o GO.ok hr (by rfl) GO.m GO.kp GO.b .nil a0G (a0a (a0j a0h (by rfl) ml b4P (a0a (pv 1) (a0c))) (a0a (a0o GX.ok hr (by rfl) GX.m GX.kp GX.b .nil a0G (a0a (pv 0) (a0a (a0g) (a0c)))) (a0c)))) (a0c)))))
   (a0e (a0q (i:=3) a5F.nd rfl (Or.inl rfl) (a0o GF.ok hr (by rfl) GF.m GF.kp GF.b .nil a0G (a0a (pv 1) (a0a (pv 2) (a0c)))))
   (a0e (a0Y (PW.pt (a7w (a2Z (a2Y (a0j a2i (by rfl) mi a8X (a0a (pv 3) (a0a (a2X (v:=.ty "tuple") (by rfl) mt a1E rfl) (a0c)))))) (a7w (a0s a7z (a0j a0h (by rfl) ml b4P (a0a (pv 3) (a0c))) (a0g) (nomark _)) (a6y (a2Z (a2Y (a0o GH.ok hr (by rfl) GH.m GH.kp GH.b .nil a0G (a0a (a0Q a1t (pv 3) (a0g) (λ_ _=>rfl)) (a0c))))))))) (a0i (a0u a2v)) (a0z))
   (a0e (a0Y (a2Z (a2Y (a0o GC.ok hr (by rfl) GC.m GC.kp GC.b .nil a0G (a0a (a0Q a1t (pv 3) (a0g) (λ_ _=>rfl)) (a0a (a0j a0h (by rfl) ml b4P (a0a (pv 1) (a0c))) (a0a (a0j a0h (by rfl) ml b4P (a0a (pv 2) (a0c))) (a0c))))))) (a0i (a0u a2v)) (a0z))
   (a0e (a0Y (a0s a7z (a0o GD.ok hr (by rfl) GD.m GD.kp GD.b .nil a0G (a0a (pv 1) (a0a (pv 2) (a0a (a0Q a1t (pv 3) (a0g) (λ_ _=>rfl)) (a0c))))) (a0Q a1t (pv 3) (a0g) (λ_ _=>rfl)) (nomark _)) (a0i (a0u a2v)) (a0z))
   (a0e (a0q (i:=4) a5F.nd rfl (Or.inl rfl) (a0o GM.ok hr (by rfl) GM.m GM.kp GM.b .nil a0G (a0a (pv 1) (a0a (pv 2) (a0c)))))
   (a0e (a0q (i:=5) a5F.nd rfl (Or.inl rfl) (a1j a5c (by rfl) mL b_list (a0a (pv 4) (a0c))))
   (a0e (a1r (a3K b5x b5O b5P a0Z (pv 4) (a0a (a0g) (a0c))))
   (a0e (a0Y (a0s (b2Y (hu4 hr)) (a0o GM.ok hr (by rfl) GM.m GM.kp GM.b .nil a0G (a0a (pv 1) (a0a (pv 2) (a0c)))) (pv 5) (nomark _)) (a0i (a0u a2v)) (a0z))
   (a0e (a0Y (a0s a7z (a0o GD.ok hr (by rfl) GD.m GD.kp GD.b .nil a0G (a0a (pv 1) (a0a (pv 2) (a0a (a0o GK.ok hr (by rfl) GK.m GK.kp GK.b .nil a0G (a0a (pv 1) (a0a (pv 2) (a0a (pv 5) (a0c))))) (a0c))))) (a0Q a1t (pv 3) (a0g) (λ_ _=>rfl)) (nomark _)) (a0i (a0u a2v)) (a0z))
   (a0e (a1K b5Q rfl (a1Z (a0p a8N (a1n a2A (pv 0) (a1A a0g) a1O) (a1N (a0a (a0g) (a0c))))) (a0F (i:=6) a5F.nd rfl (Or.inl rfl)) (a0e (a0q (i:=7) a5F.nd rfl (Or.inl rfl) (a0o GL.ok hr (by rfl) GL.m GL.kp GL.b .nil a0G (a0a (a0j a0h (by rfl) ml b4P (a0a (pv 1) (a0c))) (a0a (a0j a0h (by rfl) ml b4P (a0a (pv 2) (a0c))) (a0a (pv 6) (a0c))))))
   (a0i (a0Y (a0s a4U (a0o GB.ok hr (by rfl) GB.m GB.kp GB.b .nil a0G (a0a (pv 1) (a0a (pv 2) (a0a (pv 7) (a0c))))) (a0Q a1t (pv 3) (a0g) (λ_ _=>rfl)) (nomark _)) (a0i (a0u a2v)) (a0z)))))
   (a0i (a0u (a2v)))))))))))))),?_⟩
 refine⟨_,rfl,a,ns,rfl,hS,λp ps H1 s1 hp p2 p6 bp=>?_⟩;refine⟨_,rfl,_,rfl,p,_,rfl,.inr (SqT.of hp),_,rfl,a,ns,1,rfl,s1.seq hS,by decide,λc0=>?_⟩;refine⟨_,c0,rfl,(by rw[b4p];omega),(by rw[b4p];omega),λm H2 s2 m1 m7=>?_⟩;rw[b4p] at m7;refine⟨a,ns,m,rfl,(s1.trans s2).seq hS,m1,by split at m7<;>omega,λr ws H3 s3 hr' w1 wm bw=>?_⟩;have W:Wide ps ws:=⟨p2,p6,w1,by (split at m7<;>split<;>omega),bp.bw,bw.bw⟩
 have w10:=W.w10;have s03:=(s1.trans s2).trans s3;have hp3:TW H3 p ps:=s3 _ _ (s2 _ _ hp);have k3:Kp S H H3:=Kp.of tab s03;refine⟨_,rfl,_,rfl,p,r,ps,ws,rfl,hp3,hr',W,k3.tb,λt c zs us pl cw H4 k34 ht hc hz ow cd=>?_⟩;have k4:=k3.trans k34;have hp4:=k34.tup hp3;have hr4:=k34.tup hr';have lc:cw.length=ws.length:=by rw[ow.pu.length_eq,cd.ln]
 have lt:∀u∈cw,Lt ps.length u/\u.length<=1000:=λu hu=>by
  have:=cd.lt u (ow.pu.mem_iff.mp hu);exact⟨this.1,by omega⟩
 refine⟨_,rfl,_,_,_,_,rfl,.tup ht,a1v _,_,rfl,a3P ?_⟩;refine⟨_,rfl,t,_,rfl,.inr (SqT.of ht),rfl,_,rfl,a3P ?_⟩;refine⟨_,rfl,t,_,_,_,rfl,rfl,SqT.of ht,(rfl:atI [V.int (flo ps ws (0,[0])),.ref c] 0=_),_,rfl,_,rfl,a3P ?_⟩;have at0:atI [V.int (flo ps ws (0,[0])),.ref c] 0=some (.int (flo ps ws (0,[0]))):=rfl;have at1:atI [V.int (flo ps ws (0,[0])),.ref c] 1=some (.ref c):=rfl;refine⟨_,rfl,t,_,_,_,rfl,rfl,SqT.of ht,at1,_,rfl,p,_,rfl,.inr (SqT.of hp4),_,rfl,r,_,rfl,.inr (SqT.of hr4),c,zs,cw,ps.length,ws.length,by rw[b4p,b4p];rfl,hc,hz,lc,by omega,PF.perm cd.pf ow.pu,λu hu=>(lt u hu).1,λH5 s5=>⟨_,rfl,a3P ?_⟩⟩;have eC:∀{us pl cw},Own ws us pl cw->Cd ps ws (frees ps ws) us->coZ ps ws cw=flo ps ws (0,[0]):=λow cd=>by rw[b0q ow cd.ln,<-cd.sp,(a1X W).2]
 refine⟨_,rfl,_,rfl,_,rfl,t,_,_,_,rfl,rfl,SqT.of (s5 _ _ ht),at1,p,r,ps,ws,.ref c,cw,rfl,s5 _ _ hp4,s5 _ _ hr4,⟨c,zs,rfl,s5 _ _ hc,Ws.same s5 hz⟩,lc,by omega,lt,W.bp,W.bw,λH6 s6=>?_⟩;have s46:=s5.trans s6;refine⟨_,rfl,t,_,_,_,rfl,rfl,SqT.of (s46 _ _ ht),at0,rfl,_,rfl,?_⟩;rw[eC ow cd,b4W rfl];refine a3P ?_;have k6:=k4.then s46;have ht6:=s46 _ _ ht;have hp6:=s46 _ _ hp4;have hr6:=s46 _ _ hr4;refine⟨_,rfl,_,rfl,p,r,ps,ws,rfl,hp6,hr6,W,k6.tb,λl H7 k67 nl hl=>?_⟩;refine⟨_,rfl,l,_,rfl,.inl (SqL.of hl),λd8 hd8=>?_⟩;have s8:=a0d hd8 (.lst ((frees ps ws).map V.int));have g8:upd H7 d8 (.lst ((frees ps ws).map V.int)) d8=some (.lst ((frees ps ws).map V.int)):=a0b;have ndl:d8≠l:=λz=>by rw[z,hl] at hd8;cases hd8
 generalize upd H7 d8 (.lst ((frees ps ws).map V.int))=H8 at s8 g8 ⊢;have hl8:=s8 _ _ hl;refine⟨_,rfl,.inl ⟨rfl,_,SqL.of hl8⟩,l,_,_,rfl,rfl,hl8,a0l (by rw[b4p];have:=a3F W;omega),?_⟩;have k9:Kp S H6 (upd H8 l (.lst ((frees ps ws).map V.int++[.int 0]))):=(k67.then s8).updN nl hl8;have g9:upd H8 l (.lst ((frees ps ws).map V.int++[.int 0])) d8=some (.lst ((frees ps ws).map V.int)):=by rw[a0m ndl];exact g8
 generalize upd H8 l (.lst ((frees ps ws).map V.int++[.int 0]))=H9 at k9 g9 ⊢;refine⟨_,rfl,_,rfl,p,r,ps,ws,rfl,k9.tup hp6,k9.tup hr6,W,k9.tb,λl2 H10 k10 nl2 hl2=>?_⟩;have g10:=k10.lst g9;refine⟨_,rfl,l2,d8,_,_,rfl,rfl,hl2,g10,_,rfl,?_⟩;rw[b4W rfl];refine a3P ?_;have k610:=k9.trans k10;refine⟨_,rfl,_,rfl,_,rfl,_,rfl,_,rfl,p,r,d8,ps,ws,_,rfl,k610.tup hp6,k610.tup hr6,g10,a3F W,p2,p6,w1,W.w7,W.bp,W.bw,k610.tb,(a1X W).1,λc2 zs2 us2 pl2 cw2 H11 k11 hc2 hz2 ow2 cd2=>?_⟩;have k611:=k610.trans k11;have lc2:cw2.length=ws.length:=by rw[ow2.pu.length_eq,cd2.ln]
 refine⟨p,r,ps,ws,.ref c2,cw2,rfl,k611.tup hp6,k611.tup hr6,⟨c2,zs2,rfl,hc2,hz2⟩,lc2,by omega,λu hu=>by
  have:=cd2.lt u (ow2.pu.mem_iff.mp hu);exact⟨this.1,by omega⟩,W.bp,W.bw,λH12 s12=>?_⟩
 have k612:=k611.then s12;have ht12:=k612.tup ht6;refine⟨_,rfl,t,_,_,_,rfl,rfl,SqT.of ht12,at0,rfl,_,rfl,?_⟩;rw[eC ow2 cd2,b4W rfl];refine a3P ?_;have hp12:=k612.tup hp6;have hr12:=k612.tup hr6;have hS12:SqL K H12 a (ns.map V.int):=sqL_u (k6.trans k612).sm hS;clear k9 k10 k11 k610 k611 k612 g8 g9 g10 hl hl8 hl2 hc2 hz2 ow2 cd2 hc hz ow cd;have em:a3b (ns.map V.int) (some 15) none=(ns.drop 15).map V.int:=by rw[List.map_drop];exact a4h (ns.map V.int) 15
 refine⟨_,rfl,_,rfl,a,_,rfl,hS12,λc1 hc1=>?_⟩;rw[em];have lm:(ns.drop 15).length<=63:=by rw[b7A];omega
 generalize ns.drop 15=ms at lm;have sE:=a0d hc1 (.lst (ms.map V.int));have gE:upd H12 c1 (.lst (ms.map V.int)) c1=some (.lst (ms.map V.int)):=a0b;generalize upd H12 c1 (.lst (ms.map V.int))=HE at sE gE ⊢;refine⟨(by show 1<=sizeLine;decide),λc2 hc2=>?_⟩;have sF:=a0d hc2 (.lst [.int 0]);have gF:upd HE c2 (.lst [.int 0]) c2=some (.lst (([0]:List Int).map V.int)):=a0b;generalize upd HE c2 (.lst [.int 0])=HF at sF gF ⊢;refine⟨c1,c2,_,_,rfl,rfl,sF _ _ gE,gF,b6K (a0l (by rw[b4p,b4p];show ms.length+1<=1000;omega)),λc3 hc3=>?_⟩;rw[<-b4D];have sG:=a0d hc3 (.lst ((ms++[0]).map V.int));have gG:upd HF c3 (.lst ((ms++[0]).map V.int)) c3=some (.lst ((ms++[0]).map V.int)):=a0b;generalize upd HF c3 (.lst ((ms++[0]).map V.int))=HG at sG gG ⊢;have sX:=(sE.trans sF).trans sG;refine⟨c3,rfl,⟨_,SqL.of gG⟩,?_⟩;refine a2K (xs:=(ms++[0]).map V.int) (λi σ H'=>a0r HG H'/\∃x6 x7:Option V,σ=[some (.ref a),some (.ref p),some (.ref r),some (.ref t),some (.ref l),some (.ref d8),x6,x7]) ⟨a0r.refl _,none,none,rfl⟩ (λi σ H' _ hP=>SqL.of (hP.1 _ _ gG)) (λi x σ HI hx hP=>?_) (λσ HI hP=>?_)
 ·obtain⟨sI,x6,x7,rfl⟩:=hP;rw[b4C] at hx;obtain⟨ce,_,rfl⟩:=b5q.mp hx;have sXI:=sX.trans sI;refine⟨_,rfl,p,_,rfl,.inr (SqT.of (sXI _ _ hp12)),_,rfl,r,_,rfl,.inr (SqT.of (sXI _ _ hr12)),_,rfl,ps.length,ws.length,ce,by rw[b4p,b4p];rfl,p2,p6,w1,by omega,λca out us HJ sJ hca wca cwd lus l60=>?_⟩;have sXJ:=sXI.trans sJ;refine⟨_,rfl,_,rfl,_,rfl,p,r,ca,ps,ws,out,us,rfl,sXJ _ _ hp12,sXJ _ _ hr12,hca,wca,lus,by omega,λu hu=>⟨cwd.lt u hu,l60 u hu⟩,W.bp,W.bw,λHK sK=>?_⟩;refine⟨_,rfl,t,_,_,_,rfl,rfl,SqT.of (sK _ _ (sXJ _ _ ht12)),at0,_,_,rfl,rfl,_,rfl,?_⟩;have le:=a8o W cwd.pf cwd.lt lus;rw[b5s (by omega)];exact a3P ⟨(sI.trans sJ).trans sK,_,_,rfl⟩
 ·exact q HI
end
theorem al1 {α:Type} {P:List α->Prop} (h:∀a0:α,P [a0]):∀us:List α,us.length=1->P us
 | [a0],_=>h a0
theorem al2 {α:Type} {P:List α->Prop} (h:∀a0 a1:α,P [a0,a1]):∀us:List α,us.length=2->P us
 | [a0,a1],_=>h a0 a1
theorem al3 {α:Type} {P:List α->Prop} (h:∀a0 a1 a2:α,P [a0,a1,a2]):∀us:List α,us.length=3->P us
 | [a0,a1,a2],_=>h a0 a1 a2
theorem al4 {α:Type} {P:List α->Prop} (h:∀a0 a1 a2 a3:α,P [a0,a1,a2,a3]):∀us:List α,us.length=4->P us
 | [a0,a1,a2,a3],_=>h a0 a1 a2 a3
structure FQ (K:PySem.W.Frag) (mg:Str->Option Value) (x:Str) (st:Stmt) (f:Addr) (fd:FuncData):Prop where
 F:Fun K x x st f fd
 m:mg x=some (.ref f)
 k:PySem.W.keepIn K (.ref f)=true
noncomputable def fnE (K:PySem.W.Frag) (x:Str) (st:Stmt):Prop:=∃(f:Addr) (oc kV doc pm cd ct:Value) (od an:Option Addr) (sl:Array (Option Value)),PySem.W.nsIn K mainGlobals x=some (some (.ref f))/\K.lookup f=some ⟨oc,od,.func (PySem.W.fnOf x x (a0X st) (a0O st) (a0f st) .none kV doc pm an cd ct),sl⟩/\PySem.W.codeIn K cd x=true/\PySem.W.keepIn K (.ref f)=true
theorem fnE.mk {K:PySem.W.Frag} {x:Str} {st:Stmt} {f:Addr} {oc kV doc pm cd ct:Value} {od an:Option Addr} {sl:Array (Option Value)} (h1:PySem.W.nsIn K mainGlobals x=some (some (.ref f))) (h2:K.lookup f=some ⟨oc,od,.func (PySem.W.fnOf x x (a0X st) (a0O st) (a0f st) .none kV doc pm an cd ct),sl⟩) (h3:PySem.W.codeIn K cd x=true) (h4:PySem.W.keepIn K (.ref f)=true):fnE K x st:=⟨f,oc,kV,doc,pm,cd,ct,od,an,sl,h1,h2,h3,h4⟩
theorem fnE.get {K:PySem.W.Frag} {x:Str} {st:Stmt} {h:Heap} {mg:Str->Option Value} (X:K.In h) (G:h.Ns mainGlobals mg) (p:fnE K x st):∃f fd,FQ K mg x st f fd:=by
 obtain⟨f,oc,kV,doc,pm,cd,ct,od,an,sl,h1,h2,h3,h4⟩:=p;exact⟨f,_,a8R h2 h3 h4,b9X X G h1,h4⟩
noncomputable def a1c {P:Program} {w:World} {K:PySem.W.Frag} {mg:Str->Option Value} {base:Heap} {x:Str} {st:Stmt} {f:Addr} {fd:FuncData} {ps:List Str} {sp:Sp} {k:Nat} (q:FQ K mg x st f fd) (ok:a1x P w K mg base CX0 k f fd ps sp)
  (h:∀(kV doc pm:Value) (an:Option Addr) (cdv ct:Value) (us:List Value),us.length=ps.length->bindArgs (PySem.W.fnOf x x (a0X st) (a0O st) (a0f st) .none kV doc pm an cdv ct) ⟨us,[]⟩=pure (ps.zip us)):Fns P w K mg base ps x sp k:=⟨f,fd,ok,q.F.binds h,q.k,q.m⟩
noncomputable def fnC (K:PySem.W.Frag) (x:Str) (st:Stmt) (T:Addr):Prop:=∃(f c:Addr) (oc kV doc pm ct:Value) (od an:Option Addr) (sl:Array (Option Value)),PySem.W.nsIn K mainGlobals x=some (some (.ref f))/\K.lookup f=some ⟨oc,od,.func (PySem.W.fnOf x x (a0X st) (a0O st) (a0f st) .none kV doc pm an (.ref c) ct),sl⟩/\PySem.W.codeIn K (.ref c) x=true/\PySem.W.keepIn K (.ref f)=true/\PySem.W.codeHdIn K c T=true
theorem fnC.mk {K:PySem.W.Frag} {x:Str} {st:Stmt} {f c T:Addr} {oc kV doc pm ct:Value} {od an:Option Addr} {sl:Array (Option Value)} (h1:PySem.W.nsIn K mainGlobals x=some (some (.ref f))) (h2:K.lookup f=some ⟨oc,od,.func (PySem.W.fnOf x x (a0X st) (a0O st) (a0f st) .none kV doc pm an (.ref c) ct),sl⟩) (h3:PySem.W.codeIn K (.ref c) x=true) (h4:PySem.W.keepIn K (.ref f)=true) (h5:PySem.W.codeHdIn K c T=true):fnC K x st T:=⟨f,c,oc,kV,doc,pm,ct,od,an,sl,h1,h2,h3,h4,h5⟩
theorem fnC.get {K:PySem.W.Frag} {x:Str} {st:Stmt} {T:Addr} {h:Heap} {mg:Str->Option Value} (X:K.In h) (G:h.Ns mainGlobals mg) (p:fnC K x st T):∃f fd c,FQ K mg x st f fd/\fd.code=.ref c/\PySem.W.codeHdIn K c T=true:=by
 obtain⟨f,c,oc,kV,doc,pm,ct,od,an,sl,h1,h2,h3,h4,h5⟩:=p;exact⟨f,_,c,⟨a8R h2 h3 h4,b9X X G h1,h4⟩,rfl,h5⟩
theorem Dst.of {S:Tbs} (h:(S.map (·.1)).Nodup):Dst S:=λt ht u hu e=>by
 obtain⟨i,hi,rfl⟩:=b6i.mp ht;obtain⟨j,hj,rfl⟩:=b6i.mp hu;have:i=j:=(b7e (h₀:=by simpa using hi) (h₁:=by simpa using hj) h).mp (by simpa using e);subst this;rfl
noncomputable def tbs (T1 T2 T3 T4:Addr):Tbs:=[(T1,b3J,b1x),(T2,b3L,b1y),(T3,b3X,b1K),(T4,b3Z,b1L)]
theorem all_mk {T1 T2 T3 T4:Addr} {ts:List Addr} (hT:∀T∈[T1,T2,T3,T4],T∈ts) (hnd:((tbs T1 T2 T3 T4).map (·.1)).Nodup) {l:PySem.W.OpenLaw} {w:World} {K:PySem.W.Frag} {h:Heap} {mg:Str->Option Value} {fa fl aF bF:Addr} (X:K.In h) (G:h.Ns mainGlobals mg) (hfa:mg "law"=some (.ref fa))
  (p0:fnE K "has_letters_alone" a7b) (p1:fnE K "word_price" a4z) (p2:fnE K "cost" a7c) (p3:fnE K "refuse_many" a6i) (p4:fnE K "moves" a9I) (p5:fnE K "move_to" b1q) (p6:fnE K "weight_left" b3z) (p7:fnE K "moves_reached" a2S) (p8:fnE K "code_of_moves" sCom) (p9:fnE K "led_to" sLed) (p10:fnE K "opened" a3w) (p11:fnE K "free_code" sFc) (p12:fnE K "_law_cell_at" b3A) (p13:fnE K "_law_whole" a9J) (p14:fnE K "_law_amount" a6j) (p15:fnE K "_law_prices" a4A) (p16:fnE K "_law_weights" a2s) (p17:fnE K "_law_most" b3B) (p18:fnE K "_law_drawn" a9K) (p19:fnE K "_law_code" b3C) (p20:fnE K "_law_clashes" a4B) (p21:fnE K "_law_code_right" a9L) (p22:fnE K "_law_price" a4C) (p23:fnE K "_law_due_cost" sDue) (p24:fnE K "_law_least_placed" a3x)
  (t0:fnC K "cheap_letters" a1U T1) (t1:fnC K "in_own_order" b1r T2) (t2:fnC K "frontier_floors" a1H T3) (t3:fnC K "free_moves" sFm T4)
  (z0:PySem.W.nsIn K mainGlobals "len"=some none) (z1:PySem.W.nsIn K mainGlobals "range"=some none) (z2:PySem.W.nsIn K mainGlobals "isinstance"=some none) (z3:PySem.W.nsIn K mainGlobals "int"=some none) (z4:PySem.W.nsIn K mainGlobals "tuple"=some none) (z5:PySem.W.nsIn K mainGlobals "list"=some none) (z6:PySem.W.nsIn K mainGlobals "sum"=some none) (z7:PySem.W.nsIn K mainGlobals "sorted"=some none) (z8:PySem.W.nsIn K mainGlobals "min"=some none) (z9:PySem.W.nsIn K mainGlobals "zip"=some none) (z10:PySem.W.nsIn K mainGlobals "all"=some none) (z11:PySem.W.nsIn K mainGlobals "bool"=some none) (z12:PySem.W.nsIn K mainGlobals "dict"=some none) (z13:PySem.W.nsIn K mainGlobals "reversed"=some none)
  (gF:PySem.W.nsIn K mainGlobals "FIRST"=some (some (.ref aF))) {dF dG:Option Addr} {tF tG:Tok} {nF nG:Nat} {eF eG:Array (Option Value)} (lF:K.lookup aF=some ⟨.type "tuple",dF,.seq #[.int 0 tF,.ref bF] nF,eF⟩) (lG:K.lookup bF=some ⟨.type "tuple",dG,.seq #[.int 0 tG] nG,eG⟩)
  {oc kV dc pm cd ct:Value} {od an:Option Addr} {sl:Array (Option Value)} (a1:PySem.W.nsIn K mainGlobals "law"=some (some (.ref fl))) (l1:K.lookup fl=some ⟨oc,od,.func (PySem.W.fnOf "law" "law" (a0X b1s) (a0O b1s) (a0f b1s) .none kV dc pm an cd ct),sl⟩) (c1:PySem.W.codeIn K cd "law"=true) (k1:PySem.W.keepIn K (.ref fl)=true) :
  ∃fd:FuncData,(∀(s:Shared) (v:Value),BindsTo s fd ⟨[v],[]⟩ [("script",v)])/\∀base:Heap,K.In base->base.Ns mainGlobals mg->(∃bm,L2.BMod mg base ts bm)->a1x l.prog w K mg base CX0 8 fa fd ["script"] (b1T K (tbs T1 T2 T3 T4)):=by
 have e:=hfa.symm.trans (b9X X G a1);cases e;have FL:=a8R (st:=b1s) l1 c1 k1;obtain⟨f0,d0,q0⟩:=p0.get X G;obtain⟨f1,d1,q1⟩:=p1.get X G;obtain⟨f2,d2,q2⟩:=p2.get X G;obtain⟨f3,d3,q3⟩:=p3.get X G;obtain⟨f4,d4,q4⟩:=p4.get X G;obtain⟨f5,d5,q5⟩:=p5.get X G;obtain⟨f6,d6,q6⟩:=p6.get X G;obtain⟨f7,d7,q7⟩:=p7.get X G;obtain⟨f8,d8,q8⟩:=p8.get X G;obtain⟨f9,d9,q9⟩:=p9.get X G;obtain⟨f10,d10,q10⟩:=p10.get X G;obtain⟨f11,d11,q11⟩:=p11.get X G;obtain⟨f12,d12,q12⟩:=p12.get X G;obtain⟨f13,d13,q13⟩:=p13.get X G;obtain⟨f14,d14,q14⟩:=p14.get X G;obtain⟨f15,d15,q15⟩:=p15.get X G;obtain⟨f16,d16,q16⟩:=p16.get X G;obtain⟨f17,d17,q17⟩:=p17.get X G;obtain⟨f18,d18,q18⟩:=p18.get X G;obtain⟨f19,d19,q19⟩:=p19.get X G;obtain⟨f20,d20,q20⟩:=p20.get X G;obtain⟨f21,d21,q21⟩:=p21.get X G;obtain⟨f22,d22,q22⟩:=p22.get X G;obtain⟨f23,d23,q23⟩:=p23.get X G;obtain⟨f24,d24,q24⟩:=p24.get X G;obtain⟨g0,e0,c0,r0,h0,x0⟩:=t0.get X G;obtain⟨g1,e1,c1,r1,h1,x1⟩:=t1.get X G;obtain⟨g2,e2,c2,r2,h2,x2⟩:=t2.get X G;obtain⟨g3,e3,c3,r3,h3,x3⟩:=t3.get X G;have B_len:=b5y X G z0;have B_range:=b5y X G z1;have B_isinstance:=b5y X G z2;have B_int:=b5y X G z3;have B_tuple:=b5y X G z4;have B_list:=b5y X G z5;have B_sum:=b5y X G z6;have B_sorted:=b5y X G z7;have B_min:=b5y X G z8;have B_zip:=b5y X G z9;have B_all:=b5y X G z10;have B_bool:=b5y X G z11;have B_dict:=b5y X G z12;have B_reversed:=b5y X G z13;refine⟨PySem.W.fnOf "law" "law" (a0X b1s) (a0O b1s) (a0f b1s) .none kV dc pm an cd ct,λs v=>.of_eq rfl,λbase _ _ hBM=>?_⟩;obtain⟨bm,BM⟩:=hBM;have LC0:b2o K mg base c0 T1 bm:=⟨x0,BM.hbm,BM.bo,BM.b1,BM.b2,BM.b3 _ (hT _ (by simp)),BM.b4 _ (hT _ (by simp))⟩
 have LC1:b2o K mg base c1 T2 bm:=⟨x1,BM.hbm,BM.bo,BM.b1,BM.b2,BM.b3 _ (hT _ (by simp)),BM.b4 _ (hT _ (by simp))⟩
 have LC2:b2o K mg base c2 T3 bm:=⟨x2,BM.hbm,BM.bo,BM.b1,BM.b2,BM.b3 _ (hT _ (by simp)),BM.b4 _ (hT _ (by simp))⟩
 have LC3:b2o K mg base c3 T4 bm:=⟨x3,BM.hbm,BM.bo,BM.b1,BM.b2,BM.b3 _ (hT _ (by simp)),BM.b4 _ (hT _ (by simp))⟩
 have nd:Dst (tbs T1 T2 T3 T4):=.of hnd;have FS:Fst K mg aF bF:=⟨b9X X G gF,λH=>.inr ⟨_,_,_,lF,rfl,rfl,(by show 2<=sizeLine;decide),.cons ⟨_,rfl⟩ (.cons rfl .nil)⟩,λH=>.inr ⟨_,_,_,lG,rfl,rfl,(by show 1<=sizeLine;decide),.cons ⟨_,rfl⟩ .nil⟩⟩
 have B_has_letters_alone:=a1c (P:=l.prog) (w:=w) (base:=base) q0 (b1A q0.F B_all) λ_ _ _ _ _ _=>al2 λ_ _=>rfl;have B_word_price:=a1c (P:=l.prog) (w:=w) (base:=base) q1 (a9Z q1.F B_has_letters_alone B_len B_sum) λ_ _ _ _ _ _=>al2 λ_ _=>rfl;have B_cost:=a1c (P:=l.prog) (w:=w) (base:=base) q2 ((b1P q2.F B_word_price B_len B_sum B_zip).mono (show _<=6 by decide)) λ_ _ _ _ _ _=>al3 λ_ _ _=>rfl;have B_refuse_many:=a1c (P:=l.prog) (w:=w) (base:=base) q3 (a9N q3.F B_len) λ_ _ _ _ _ _=>al2 λ_ _=>rfl;have B_weight_left:=a1c (P:=l.prog) (w:=w) (base:=base) q6 (b3G q6.F B_len B_sorted B_sum) λ_ _ _ _ _ _=>al2 λ_ _=>rfl;have B_move_to:=a1c (P:=l.prog) (w:=w) (base:=base) q5 (b3H q5.F B_weight_left B_len B_sorted B_min B_tuple) λ_ _ _ _ _ _=>al4 λ_ _ _ _=>rfl;have B_moves:=a1c (P:=l.prog) (w:=w) (base:=base) q4 (b1v q4.F (B_refuse_many.up (show _<=2 by decide)) B_move_to B_len B_range B_sorted B_tuple) λ_ _ _ _ _ _=>al3 λ_ _ _=>rfl;have B_moves_reached:=a1c (P:=l.prog) (w:=w) (base:=base) q7 (a8l q7.F FS B_moves B_len) λ_ _ _ _ _ _=>al2 λ_ _=>rfl;have B_frontier_floors:=a1c (P:=l.prog) (w:=w) (base:=base) r2 (b0m (S:=tbs T1 T2 T3 T4) r2.F h2 LC2 nd (by simp[tbs]) FS B_moves_reached B_len B_sorted B_min) λ_ _ _ _ _ _=>al2 λ_ _=>rfl;have B_free_moves:=a1c (P:=l.prog) (w:=w) (base:=base) r3 (ok_fm (S:=tbs T1 T2 T3 T4) r3.F h3 LC3 nd (by simp[tbs]) FS B_frontier_floors (B_moves.up (show _<=5 by decide)) B_len B_min B_dict) λ_ _ _ _ _ _=>al2 λ_ _=>rfl;have B_led_to:=a1c (P:=l.prog) (w:=w) (base:=base) q9 ((ok_led q9.F B_moves).mono (show _<=5 by decide)) λ_ _ _ _ _ _=>al4 λ_ _ _ _=>rfl;have B_cheap_letters:=a1c (P:=l.prog) (w:=w) (base:=base) r0 (b1z (S:=tbs T1 T2 T3 T4) r0.F h0 LC0 nd (by simp[tbs]) B_len B_sorted B_range) λ_ _ _ _ _ _=>al1 λ_=>rfl;have B_opened:=a1c (P:=l.prog) (w:=w) (base:=base) q10 (b0a q10.F B_cheap_letters (B_word_price.up (show _<=4 by decide))) λ_ _ _ _ _ _=>al3 λ_ _ _=>rfl;have B_in_own_order:=a1c (P:=l.prog) (w:=w) (base:=base) r1 ((ok_own (S:=tbs T1 T2 T3 T4) r1.F h1 LC1 nd (by simp[tbs]) B_len B_sorted B_range B_zip B_tuple).mono (show _<=5 by decide)) λ_ _ _ _ _ _=>al2 λ_ _=>rfl;have B_code_of_moves:=a1c (P:=l.prog) (w:=w) (base:=base) q8 (ok_com q8.F FS (B_refuse_many.up (show _<=5 by decide)) B_led_to B_opened B_in_own_order B_len B_sorted) λ_ _ _ _ _ _=>al3 λ_ _ _=>rfl;have B_free_code:=a1c (P:=l.prog) (w:=w) (base:=base) q11 (ok_fc q11.F B_code_of_moves B_free_moves B_cost) λ_ _ _ _ _ _=>al2 λ_ _=>rfl;have B_law_cell_at:=a1c (P:=l.prog) (w:=w) (base:=base) q12 (b3D q12.F B_len) λ_ _ _ _ _ _=>al2 λ_ _=>rfl;have B_law_amount:=a1c (P:=l.prog) (w:=w) (base:=base) q14 (a9M q14.F) λ_ _ _ _ _ _=>al1 λ_=>rfl;have B_law_whole:=a1c (P:=l.prog) (w:=w) (base:=base) q13 (b1t q13.F B_isinstance B_int B_bool) λ_ _ _ _ _ _=>al1 λ_=>rfl;have B_law_prices:=a1c (P:=l.prog) (w:=w) (base:=base) q15 ((a9Q q15.F B_law_cell_at B_law_amount B_range B_tuple).mono (show _<=7 by decide)) λ_ _ _ _ _ _=>al1 λ_=>rfl;have B_law_weights:=a1c (P:=l.prog) (w:=w) (base:=base) q16 ((a8h q16.F B_law_cell_at B_law_amount B_range B_tuple B_min).mono (show _<=7 by decide)) λ_ _ _ _ _ _=>al2 λ_ _=>rfl;have B_law_most:=a1c (P:=l.prog) (w:=w) (base:=base) q17 ((b4h q17.F).mono (show _<=7 by decide)) λ_ _ _ _ _ _=>al2 λ_ _=>rfl;have B_law_drawn:=a1c (P:=l.prog) (w:=w) (base:=base) q18 (b1w q18.F B_range) λ_ _ _ _ _ _=>al3 λ_ _ _=>rfl;have B_law_code:=a1c (P:=l.prog) (w:=w) (base:=base) q19 ((b1R q19.F B_law_drawn B_len B_min B_range B_tuple).mono (show _<=7 by decide)) λ_ _ _ _ _ _=>al3 λ_ _ _=>rfl;have B_law_clashes:=a1c (P:=l.prog) (w:=w) (base:=base) q20 (a8n q20.F B_len B_range) λ_ _ _ _ _ _=>al1 λ_=>rfl;have B_law_code_right:=a1c (P:=l.prog) (w:=w) (base:=base) q21 ((ok_cr q21.F B_law_whole B_law_clashes B_len B_isinstance B_tuple).mono (show _<=7 by decide)) λ_ _ _ _ _ _=>al3 λ_ _ _=>rfl;have B_law_price:=a1c (P:=l.prog) (w:=w) (base:=base) q22 (b1N q22.F B_sum) λ_ _ _ _ _ _=>al2 λ_ _=>rfl;have B_law_due_cost:=a1c (P:=l.prog) (w:=w) (base:=base) q23 ((b4d q23.F B_law_price B_sum B_zip).mono (show _<=7 by decide)) λ_ _ _ _ _ _=>al3 λ_ _ _=>rfl;have B_law_least_placed:=a1c (P:=l.prog) (w:=w) (base:=base) q24 ((ok_plc q24.F B_law_price B_sorted B_sum B_zip B_reversed).mono (show _<=7 by decide)) λ_ _ _ _ _ _=>al3 λ_ _ _=>rfl;exact ok_law FL B_law_prices B_law_weights B_law_most (B_law_cell_at.up (show _<=7 by decide)) B_free_code (B_law_whole.up (show _<=7 by decide)) B_law_code_right B_law_due_cost (B_free_moves.up (show _<=7 by decide)) (B_code_of_moves.up (show _<=7 by decide)) B_law_code B_law_least_placed B_len B_isinstance B_tuple B_list
theorem walk {l:PySem.W.OpenLaw} {q:Program} {loose:List Str} {XP:(Str->Option Value)->Heap->Prop} {YP:World->Heap->Prop} {d:DefRec} {K:Params->PySem.W.Frag} {ts:List Addr} {T1 T2 T3 T4:Addr} (hT:∀T∈[T1,T2,T3,T4],T∈ts) (hn:l.most=some 63) (hdf:d.params.defaults=[])
  (hY:∀(w:World) (h:Heap),YP w h->(K w.params).In h/\∀T∈ts,h.get? T=some (PySem.W.tabObj #[]))
  (hC:∀(w:World),∀T∈ts,(∃c,PySem.W.codeHdIn (K w.params) c T=true)/\(K w.params).lookup T=none)
  (F:∀(w:World) (mg:Str->Option Value) (fa:Addr) (h:Heap),(K w.params).In h->h.Ns mainGlobals mg->mg d.name=some (.ref fa) ->
   ∃fd:FuncData,(∀(s:Shared) (u:Value),BindsTo s fd ⟨[u],[]⟩ [("script",u)])/\∀base:Heap,(K w.params).In base->base.Ns mainGlobals mg->(∃bm,L2.BMod mg base ts bm)->a1x l.prog w (K w.params) mg base CX0 8 fa fd ["script"] (b1T (K w.params) (tbs T1 T2 T3 T4))) :
  PySem.W.WalkO q loose XP YP l.row.toRowW d [] (λf vs=>PySem.call f vs) :=
 L2.b1c (n:=63) (k:=8) (x:="script") (ts:=ts) (CX:=λ_=>CX0) (sp:=λw=>b1T (K w.params) (tbs T1 T2 T3 T4)) hn (by decide) hdf ⟨rfl,by decide,by decide⟩ hY hC F (λ_ _ a ns hl hO hS=>⟨a,ns,rfl,hS,hl,λt ht=>.inl (hO t.1 (hT t.1 (by simp only[tbs,b4K,b5u,b7o] at ht;rcases ht with rfl|rfl|rfl|rfl<;>simp))),λ_=>rfl⟩) λ_ _ _ _ _ z=>z
end K76
namespace PySem.W.Fast
noncomputable def tw10058984462311945377:=0
noncomputable def tw10118695854236735606:=0
noncomputable def tw10162070450356455694:=0
noncomputable def tw1035011916720665594:=0
noncomputable def tw10400799028234960294:=0
noncomputable def tw10451089663155080569:=0
noncomputable def tw10461401921146103012:=0
noncomputable def tw1048817367693634107:=0
noncomputable def tw10489911507034511547:=0
noncomputable def tw10531711657014796413:=0
noncomputable def tw1054096741706349618:=0
noncomputable def tw1054117003160371314:=0
noncomputable def tw1056610572929940138:=0
noncomputable def tw1057760020958812984:=0
noncomputable def tw10672266857750471778:=0
noncomputable def tw107094114154137049:=0
noncomputable def tw10800282763927420589:=0
noncomputable def tw10857060791565840251:=0
noncomputable def tw10903367714737468622:=0
noncomputable def tw10906350050959994099:=0
noncomputable def tw10972677724716975696:=0
noncomputable def tw1104056223985881477:=0
noncomputable def tw11074991983534292973:=0
noncomputable def tw1107660790927335110:=0
noncomputable def tw110960917297690159:=0
noncomputable def tw11270971244385635043:=0
noncomputable def tw11282401458353244650:=0
noncomputable def tw11282924694781773963:=0
noncomputable def tw1134186606436084092:=0
noncomputable def tw11357078938273104172:=0
noncomputable def tw11380758997385574045:=0
noncomputable def tw11434025800312821283:=0
noncomputable def tw1165574515256219216:=0
noncomputable def tw11663848301433331844:=0
noncomputable def tw1170124621160685602:=0
noncomputable def tw11771024145807148843:=0
noncomputable def tw11777517797804101929:=0
noncomputable def tw11790083190732013592:=0
noncomputable def tw11995010945965908553:=0
noncomputable def tw12017710573146443706:=0
noncomputable def tw12337188271658302005:=0
noncomputable def tw1242946139754102319:=0
noncomputable def tw1243972618494872878:=0
noncomputable def tw12526701700437572626:=0
noncomputable def tw12554992080622706659:=0
noncomputable def tw12623901974728505523:=0
noncomputable def tw12624576792315909220:=0
noncomputable def tw12644246333204861992:=0
noncomputable def tw12773905811891052330:=0
noncomputable def tw13071743327695851841:=0
noncomputable def tw1313211304033950791:=0
noncomputable def tw13255863918539066662:=0
noncomputable def tw1331963163341183417:=0
noncomputable def tw13564831329610401030:=0
noncomputable def tw13672744463580942537:=0
noncomputable def tw13735945929323213675:=0
noncomputable def tw1375572048031478814:=0
noncomputable def tw13761287738421631155:=0
noncomputable def tw13783691762422778480:=0
noncomputable def tw13816819230408482429:=0
noncomputable def tw13816853333119486918:=0
noncomputable def tw13830694626540647436:=0
noncomputable def tw13943360229341723959:=0
noncomputable def tw14035541408178237543:=0
noncomputable def tw14040037771793287893:=0
noncomputable def tw14097243712602090098:=0
noncomputable def tw14262331480266987585:=0
noncomputable def tw14294793773081331875:=0
noncomputable def tw14321830535249647079:=0
noncomputable def tw14403762860711632125:=0
noncomputable def tw14511399435329965318:=0
noncomputable def tw14827403544720959971:=0
noncomputable def tw14851498008438393103:=0
noncomputable def tw14951689160645894544:=0
noncomputable def tw15025956557682463136:=0
noncomputable def tw15049414172061655087:=0
noncomputable def tw15076503381225903332:=0
noncomputable def tw15113601354839246392:=0
noncomputable def tw15182782316843739007:=0
noncomputable def tw15194126154629565372:=0
noncomputable def tw15225978638707513807:=0
noncomputable def tw15234119767802852422:=0
noncomputable def tw15342413803324867509:=0
noncomputable def tw1535554526749845696:=0
noncomputable def tw15555805025035916280:=0
noncomputable def tw15581447387475845216:=0
noncomputable def tw15771833386494701363:=0
noncomputable def tw15901508644739113604:=0
noncomputable def tw15972092651513101163:=0
noncomputable def tw16001471872145313070:=0
noncomputable def tw16036164149687269064:=0
noncomputable def tw16137225651981251915:=0
noncomputable def tw16172188407033064622:=0
noncomputable def tw16197049557018526422:=0
noncomputable def tw16269467937786412240:=0
noncomputable def tw16279801261974702500:=0
noncomputable def tw16378038740264284516:=0
noncomputable def tw16398161456138525992:=0
noncomputable def tw16489626754401763627:=0
noncomputable def tw16509383867874481646:=0
noncomputable def tw16682932397630780150:=0
noncomputable def tw1678890397141787026:=0
noncomputable def tw16894483257190020092:=0
noncomputable def tw16902383965064828857:=0
noncomputable def tw16995060069551300999:=0
noncomputable def tw17000941894953906882:=0
noncomputable def tw17028139274392749120:=0
noncomputable def tw17143245502107020850:=0
noncomputable def tw17233038357586586566:=0
noncomputable def tw1731842022790908542:=0
noncomputable def tw17409222572176449409:=0
noncomputable def tw17492858430068537702:=0
noncomputable def tw17571692838079693797:=0
noncomputable def tw17593110750542480092:=0
noncomputable def tw17596727309897646008:=0
noncomputable def tw17645420498078546702:=0
noncomputable def tw17678792022069397050:=0
noncomputable def tw17709008684183998249:=0
noncomputable def tw17713677263278415622:=0
noncomputable def tw17748609232551399741:=0
noncomputable def tw17774038736115553286:=0
noncomputable def tw17806882383423095325:=0
noncomputable def tw17857989098195817848:=0
noncomputable def tw17945300929449016451:=0
noncomputable def tw18246780112128273164:=0
noncomputable def tw18333646654234343348:=0
noncomputable def tw18373684695064723211:=0
noncomputable def tw1897887732190484190:=0
noncomputable def tw1903965582963325473:=0
noncomputable def tw1906353177814854654:=0
noncomputable def tw1916567205158264065:=0
noncomputable def tw2090335330257288013:=0
noncomputable def tw2105693104246447709:=0
noncomputable def tw211565201624360511:=0
noncomputable def tw2116783492947427605:=0
noncomputable def tw2182581350778877639:=0
noncomputable def tw2188662919269318678:=0
noncomputable def tw2191626815027423193:=0
noncomputable def tw2354517683836916439:=0
noncomputable def tw2430741175755692871:=0
noncomputable def tw243218109683000772:=0
noncomputable def tw2493306861703838148:=0
noncomputable def tw2686230217832424460:=0
noncomputable def tw2732381077872925150:=0
noncomputable def tw2801961756907095726:=0
noncomputable def tw2901559620756689761:=0
noncomputable def tw313053243158472996:=0
noncomputable def tw3223059073149005767:=0
noncomputable def tw3246899073694072786:=0
noncomputable def tw3332798574134715103:=0
noncomputable def tw3361415657189563064:=0
noncomputable def tw3416793255235581055:=0
noncomputable def tw3432644768650294152:=0
noncomputable def tw3612915950234148848:=0
noncomputable def tw364304204546973612:=0
noncomputable def tw3807901647971067545:=0
noncomputable def tw3909546449601541702:=0
noncomputable def tw3911857525288902427:=0
noncomputable def tw3933883982752981935:=0
noncomputable def tw3963375576607970737:=0
noncomputable def tw4098927382420894603:=0
noncomputable def tw4235454910300180808:=0
noncomputable def tw42752927532184243:=0
noncomputable def tw4384785827493143777:=0
noncomputable def tw4406294701824061759:=0
noncomputable def tw4508293700407131856:=0
noncomputable def tw4563585447777015583:=0
noncomputable def tw4572942015094286367:=0
noncomputable def tw4576073323526269696:=0
noncomputable def tw4577147116562870607:=0
noncomputable def tw4892324976757545685:=0
noncomputable def tw4911598171398267096:=0
noncomputable def tw4913458927328174463:=0
noncomputable def tw4918845763547924434:=0
noncomputable def tw5050917178597974848:=0
noncomputable def tw5121068759256944695:=0
noncomputable def tw5131744925208000083:=0
noncomputable def tw5146722221754117843:=0
noncomputable def tw5221450352180317356:=0
noncomputable def tw530882728794551998:=0
noncomputable def tw535043983810103037:=0
noncomputable def tw5432687623897021804:=0
noncomputable def tw5455027032629039906:=0
noncomputable def tw5581291470621561999:=0
noncomputable def tw563394689191811551:=0
noncomputable def tw5859401872245068408:=0
noncomputable def tw5878495168109501755:=0
noncomputable def tw5924429142711374732:=0
noncomputable def tw594008917494493589:=0
noncomputable def tw5954900999234688584:=0
noncomputable def tw6015370172630003394:=0
noncomputable def tw6020985919487684646:=0
noncomputable def tw6264836672963664250:=0
noncomputable def tw6321936906164034928:=0
noncomputable def tw6460695277854751476:=0
noncomputable def tw6524234594781477968:=0
noncomputable def tw6534666104412851287:=0
noncomputable def tw6537277005857318946:=0
noncomputable def tw6691546758748665618:=0
noncomputable def tw6858839032999034091:=0
noncomputable def tw6876446544024043834:=0
noncomputable def tw6978432641421056830:=0
noncomputable def tw698215672467572300:=0
noncomputable def tw6996443498475171672:=0
noncomputable def tw7035535088624470141:=0
noncomputable def tw7053673332550711175:=0
noncomputable def tw7086470075232847496:=0
noncomputable def tw7178405004146007515:=0
noncomputable def tw7268067101316252657:=0
noncomputable def tw7314891512023476052:=0
noncomputable def tw7396383725694086297:=0
noncomputable def tw7498507750750538645:=0
noncomputable def tw7553957198114106974:=0
noncomputable def tw766666492012057652:=0
noncomputable def tw7714921122335329086:=0
noncomputable def tw7766008992534164928:=0
noncomputable def tw7791794688306830312:=0
noncomputable def tw7825520914401616782:=0
noncomputable def tw7896794399736838955:=0
noncomputable def tw792857265263186121:=0
noncomputable def tw7968093403900703613:=0
noncomputable def tw8010444079859312638:=0
noncomputable def tw8108551523098370488:=0
noncomputable def tw8252543120297571935:=0
noncomputable def tw8330150938855082795:=0
noncomputable def tw837393959414322504:=0
noncomputable def tw8417166864584555609:=0
noncomputable def tw8480373920126219602:=0
noncomputable def tw849754226384219751:=0
noncomputable def tw859906063982984756:=0
noncomputable def tw871519356621883381:=0
noncomputable def tw8735618361386021713:=0
noncomputable def tw8936040822682835990:=0
noncomputable def tw9120111286545939653:=0
noncomputable def tw9195276208251736588:=0
noncomputable def tw9257404089163431927:=0
noncomputable def tw9288764912692999867:=0
noncomputable def tw9306776754011883357:=0
noncomputable def tw9512428721868943666:=0
noncomputable def tw9522553311211295981:=0
noncomputable def tw9525871424926442708:=0
noncomputable def tw953907342791830717:=0
noncomputable def tw9618046381228130385:=0
noncomputable def tw9705617540801435704:=0
noncomputable def tw9721037666348959689:=0
noncomputable def tw9907484838338451493:=0
noncomputable def tw9984554170094714588:=0
noncomputable def tw9992571983549622301:=0
end PySem.W.Fast
open PySem PySem.W PyProof.Rows
set_option maxRecDepth 100000 in
set_option maxHeartbeats 0 in
theorem PySem.Challenge.cw_lettertoll_k76_whole_none_cheaper_holds : PySem.Challenge.rw_lettertoll_k76_whole_none_cheaper.Holds := by
 w_on;o_law;k_head;(case hw=>w_witness2)
 k_fill
 refine K76.walk (T1:=144) (T2:=156) (T3:=120) (T4:=161) (l:=PySem.Challenge.rw_lettertoll_k76_whole_none_cheaper) ?hT rfl rfl (fun w h Y=>⟨PySem.W.km_in_of Y,PySem.W.km_tabs_of Y⟩) ?hC ?F
 (case hT=>decide)
 case hC =>
  intro w T hT
  simp only [List.mem_cons,List.not_mem_nil,or_false] at hT
  rcases hT with rfl | rfl | rfl | rfl
  ·exact ⟨⟨122,by kernel_rfl⟩,by kernel_rfl⟩
  ·exact ⟨⟨165,by kernel_rfl⟩,by kernel_rfl⟩
  ·exact ⟨⟨158,by kernel_rfl⟩,by kernel_rfl⟩
  ·exact ⟨⟨148,by kernel_rfl⟩,by kernel_rfl⟩
 case F =>
  intro w mg fa h KX G hmg
  refine' K76.all_mk (T1:=144) (T2:=156) (T3:=120) (T4:=161) (by decide) (by decide) KX G hmg (.mk ?_ ?_ ?_ ?_) (.mk ?_ ?_ ?_ ?_) (.mk ?_ ?_ ?_ ?_) (.mk ?_ ?_ ?_ ?_) (.mk ?_ ?_ ?_ ?_) (.mk ?_ ?_ ?_ ?_) (.mk ?_ ?_ ?_ ?_) (.mk ?_ ?_ ?_ ?_) (.mk ?_ ?_ ?_ ?_) (.mk ?_ ?_ ?_ ?_) (.mk ?_ ?_ ?_ ?_) (.mk ?_ ?_ ?_ ?_) (.mk ?_ ?_ ?_ ?_) (.mk ?_ ?_ ?_ ?_) (.mk ?_ ?_ ?_ ?_) (.mk ?_ ?_ ?_ ?_) (.mk ?_ ?_ ?_ ?_) (.mk ?_ ?_ ?_ ?_) (.mk ?_ ?_ ?_ ?_) (.mk ?_ ?_ ?_ ?_) (.mk ?_ ?_ ?_ ?_) (.mk ?_ ?_ ?_ ?_) (.mk ?_ ?_ ?_ ?_) (.mk ?_ ?_ ?_ ?_) (.mk ?_ ?_ ?_ ?_) (.mk ?_ ?_ ?_ ?_ ?_) (.mk ?_ ?_ ?_ ?_ ?_) (.mk ?_ ?_ ?_ ?_ ?_) (.mk ?_ ?_ ?_ ?_ ?_) ?_ ?_ ?_ ?_ ?_ ?_ ?_ ?_ ?_ ?_ ?_ ?_ ?_ ?_ ?_ ?_ ?_ ?_ ?_ ?_ ?_
  any_goals first | k_is | kernel_rfl
