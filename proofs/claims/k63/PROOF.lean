import PyProof.Rows.All
import Wide.All
import OpenK.AllK
import Wide.FinOn
import Lean
import PyProof.EqAt
import PyProof.EqKinds
import PyProof.TupleCall
import PyProof.Rows.BitMore
import PyProof.ConsumeWalk
import PyProof.Rows.SetFrom
import PyProof.WalksMore
import PyProof.FactsAll.subtypes_4
import PyProof.Rows.SortWalk
import PyProof.Rows.TupDisplay
import PyProof.EnumMake
import PyProof.Rows.EnumRows
import PyProof.SumAny
import PyProof.Rows.MinMaxN
import PyProof.NeKinds
import PySem.Challenge.RW_spinboard_k63_whole_keepers_go_with_the
noncomputable section
open PySem PySem.Spec PyProof.Rows
theorem Z {α:Sort u}{a:α}:a=a:=rfl
abbrev U0:=PySem.W.Frag
abbrev U1:=List (Addr × Obj)
abbrev U2:=Value->Shared->Prop
abbrev U3:=List Addr
abbrev U4:=Str->Option Value
abbrev U5:=List Value
abbrev U6:=List Int
abbrev U7:=Shared
abbrev U8:=Program
abbrev U9:=Array Value
abbrev W0:=List Str
abbrev W1:=World
abbrev W2:=Value
abbrev W3:=List Nat
abbrev W4:=Array (Option Value)
abbrev W5:=Option Addr
abbrev W6:=Around
abbrev W7:=List (Option Nat)
abbrev W8:=List Stmt
abbrev W9:=Addr
noncomputable abbrev Ng (h:Heap)(m:Str->Option Value):=h.Ns mainGlobals m
set_option linter.all false
section
open PySem.W
def q0a:=@List.length_map
def q0b:=@List.getD_eq_getElem?_getD
def q0c:=@List.getElem?_map
def q0d:=@List.getElem?_eq_getElem
def q0e:=@wpAny_bind
def q0f:=@Heap.get?_push_of_some
def q0g:=@Nat.le_refl
def q0h:=@Option.map_eq_some_iff
def q0i:=@List.map_append
def q0j:=@Heap.lt_size
def q0k:=@Nat.lt_of_lt_of_le
def q0l:=@List.getElem?_eq_some_iff
def q0m:=@List.size_toArray
def q0n:=@List.mem_append_right
def q0o:=@Nat.two_pow_pos
def q0p:=@Bool.false_ne_true
def q0q:=@Heap.get?_push_size
def q0r:=@List.mem_singleton
def q0s:=@wpAny_pure
def q0t:=@List.mem_cons
def q0u:=@Nat.mod_two_eq_zero_or_one
def q0v:=@Int.toNat_natCast
def q0w:=@decide_eq_false
def q0x:=@Nat.ne_of_lt
def q0y:=@List.mem_of_getElem?
def q0z:=@List.map_cons
def q1a:=@Nat.pow_le_pow_right
def q1b:=@List.mem_append
def q1c:=@Nat.xor_lt_two_pow
def q1d:=@List.length_append
def q1e:=@PySem.W.mg_none_of
def q1f:=@decide_eq_true
def q1g:=@Bool.and_eq_true
def q1h:=@PySem.boot_len
def q1i:=@Nat.le_trans
def q1j:=@List.not_mem_nil
def q1k:=@Nat.not_lt_zero
def q1l:=@Nat.zero_le
def q1m:=@List.take_add_one
def q1n:=@List.mem_cons_of_mem
def q1o:=@List.mem_range
def q1p:=@PySem.F.slot_int_bit_length
def q1q:=@List.mem_map
def q1r:=@List.mem_cons_self
def q1s:=@Array.length_toList
def q1t:=@Nat.xor_assoc
def q1u:=@of_decide_eq_true
def q1v:=@Nat.mod_lt
def q1w:=@Option.toList_some
def q1x:=@PySem.F.type_int_bit_length
def q1y:=@Nat.testBit_xor
def q1z:=@List.mem_append_left
def q2a:=@Int.eq_of_mul_eq_mul_right
def q2b:=@List.length_take
def q2c:=@wpAny_mono
def q2d:=@Nat.pow_lt_pow_right
def q2e:=@List.take_length
def q2f:=@decide_eq_true_eq
def q2g:=@Nat.and_xor_distrib_left
def q2h:=@Nat.mod_eq_of_lt
def q2i:=@List.mem_iff_getElem
def q2j:=@PySem.F.plainAttrs_int
def q2k:=@Nat.testBit_eq_decide_div_mod_eq
def q2l:=@Nat.lt_succ_self
def q2m:=@List.all_eq_true
def q2n:=@Heap.size_push
def q2o:=@Nat.pow_succ'
def q2p:=@Int.zero_add
def q2q:=@PySem.W.kia_one
def q2r:=@Nat.testBit_two_pow
def q2s:=@List.replicate_succ
def q2t:=@wpAny_truthy_bool
def q2u:=@Nat.zero_add
def q2v:=@List.map_map
def q2w:=@boot_isinstance
def q2x:=@Nat.testBit_and
def q2y:=@Nat.lt_of_le_of_lt
def q2z:=@Int.emod_nonneg
def q3a:=@Int.emod_lt_of_pos
def q3b:=@Nat.eq_of_testBit_eq
def q3c:=@PySem.mem_of_lookup
def q3d:=@Nat.lt_succ_of_lt
def q3e:=@Nat.and_xor_distrib_right
def q3f:=@Int.eq_of_mul_eq_mul_left
def q3g:=@Nat.and_comm
def q3h:=@Nat.add_zero
def q3i:=@PySem.F.type_list_append
def q3j:=@PySem.F.slot_list_append
def q3k:=@List.length_cons
def q3l:=@Int.mul_pos
def q3m:=@PySem.F.plainAttrs_list
def q3n:=@Nat.xor_self
def q3o:=@Nat.xor_comm
def q3p:=@Nat.ne_of_gt
def q3q:=@wpAny_newObj_type
def q3r:=@List.foldl_append
def q3s:=@Int.le_refl
def q3t:=@List.getElem?_append_right
def q3u:=@Nat.div_eq_of_lt
def q3v:=@List.getElem_mem
def q3w:=@wpAny_holding
def q3x:=@or_false
def q3y:=@List.pairwise_cons
def q3z:=@Bool.false_eq_true
def q4a:=@List.pairwise_iff_getElem
def q4b:=@List.getElem?_append_left
def q4c:=@List.replicate_succ'
def q4d:=@wpAny_passesOwn
def q4e:=@wpAny_comprehension_free
def q4f:=@List.pairwise_map
def q4g:=@List.append_nil
def q4h:=@Int.ne_of_gt
def q4i:=@PySem.W.mg_of
def q4j:=@PySem.F.plain_list_iadd
def q4k:=@Heap.get?_update_ne
def q4l:=@segRun_of
def q4m:=@piece_app
def q4n:=@of_decide_eq_false
def q4o:=@if_false
def q4p:=@List.filter_append
def q4q:=@wpAny_field
def q4r:=@Nat.pow_succ
def q4s:=@List.range_succ
def q4t:=@List.length_filter_le
def q4u:=@List.find?_cons
def q4v:=@Heap.get?_update_self
def q4w:=@Bool.eq_iff_iff
def q4x:=@Nat.lt_irrefl
def q4y:=@List.flatten_cons
def q4z:=@List.any_cons
def q5a:=@Int.fdiv_eq_ediv_of_nonneg
def q5b:=@List.take_zero
def q5c:=@wpAny_call_entry
def q5d:=@List.lookup_cons
def q5e:=@List.ext_getElem
def q5f:=@if_true
def q5g:=@List.map_congr_left
def q5h:=@Int.toNat_of_nonneg
def q5i:=@Nat.lt_trans
def q5j:=@wpAny_standAt
def q5k:=@wpAny_pyIter_tuple
def q5l:=@wpAny_callSpecial?_slot
def q5m:=@wpAny_Call_Name_kw
def q5n:=@codeAny_builtin
def q5o:=@Nat.add_sub_cancel
def q5p:=@List.zip_cons_cons
def q5q:=@List.nodup_cons
def q5r:=@List.mem_filter
def q5s:=@Int.mul_assoc
def q5t:=@Bool.or_eq_true
def q5u:=@Bool.false_or
def q5v:=@Nat.testBit_lt_two_pow
def q5w:=@Nat.div_div_eq_div_mul
def q5x:=@List.take_of_length_le
def q5y:=@List.length_pos_of_mem
def q5z:=@wpAny_pyIter_list
def q6a:=@Nat.pow_add
def q6b:=@wpAny_seqItems
def q6c:=@Int.natAbs_mul
def q6d:=@Int.mul_nonneg
def q6e:=@codeAny_mono
def q6f:=@Nat.le_of_lt
def q6g:=@Nat.add_comm
def q6h:=@Nat.le_add_right
def q6i:=@List.any_eq_true
def q6j:=@Int.mul_le_mul_of_nonneg_left
def q6k:=@List.getElem?_set_ne
def q6l:=@Array.toArray_toList
def q6m:=@wpAny_newList
def q6n:=@listUpdate_at
def q6o:=@boot_all
def q6p:=@List.all_cons
def q6q:=@wpAny_execs_nil
def q6r:=@get?_update_seq
def q6s:=@PySem.F.plain_proto_collect
def q6t:=@List.of_mem_zip
def q6u:=@List.filterMap_cons
def q6v:=@Int.mul_lt_mul_of_pos_right
def q6w:=@Int.emod_two_eq
def q6x:=@tupleKind_room_in1
def q6y:=@PySem.W.noMix_ints
def q6z:=@Nat.xor_zero
def q7a:=@List.mapIdx_append
def q7b:=@List.length_mapIdx
def q7c:=@Int.sub_eq_add_neg
def q7d:=@Int.pow_succ
def q7e:=@PySem.F.slot_dict_getitem
def q7f:=@wpAny_assign_Name
def q7g:=@PySem.W.same_ints
def q7h:=@Nat.lt_trichotomy
def q7i:=@Nat.add_mod_right
def q7j:=@Nat.add_div_right
def q7k:=@List.length_range
def q7l:=@Int.mul_ediv_cancel_left
def q7m:=@bitNot_bitNot
def q7n:=@PySem.W.canLayAll0_ints
def q7o:=@Nat.one_mul
def q7p:=@List.getElem?_replicate
def q7q:=@wpAny_execs_cons
def q7r:=@decide_eq_decide
def q7s:=@List.length_drop
def q7t:=@Heap.size_update
def q7u:=@subscriptTail_builtinR
def q7v:=@codeAny_compStart_list
def q7w:=@PySem.W.cellsFrom_some
def q7x:=@List.getElem?_set_self
def q7y:=@Heap.get?_update_other
def q7z:=@wpAny_typeOf
def q8a:=@wpAny_isTrue_Compare1
def q8b:=@listItems_at
def q8c:=@exec_Assign_Name_used
def q8d:=@entry_list_sort
def q8e:=@PySem.W.depthAll_ints
def q8f:=@Nat.zero_and
def q8g:=@Nat.mul_zero
def q8h:=@List.sum_append
def q8i:=@List.mem_iff_getElem?
def q8j:=@List.map_nil
def q8k:=@List.length_set
def q8l:=@List.length_replicate
def q8m:=@List.foldl_cons
def q8n:=@Int.mul_eq_zero
def q8o:=@Int.le_of_lt
def q8p:=@Array.getElem?_toList
def q8q:=@size_push'
def q8r:=@wpAny_setField
def q8s:=@wpAny_runValue
def q8t:=@slot_list_sort
def q8u:=@intItems_at
def q8v:=@Nat.mod_one
def q8w:=@Nat.log2_lt
def q8x:=@Int.pow_pos
def q8y:=@wpAny_load
def q8z:=@typeIs_int
def q9a:=@call_meets
def q9b:=@Nat.sub_le
def q9c:=@seqIndex_neg
def q9d:=@plain_sorted
def q9e:=@entry_sorted
def q9f:=@Nat.zero_mul
def q9g:=@List.map_set
def q9h:=@Int.mul_comm
end
set_option Elab.async false
set_option maxRecDepth 100000
namespace L2
abbrev Key:=Sum Int Str
noncomputable def keyIs:Key->Value->Bool
 | .inl k,v=>Value.isInt k v
 | .inr x,v=>Value.isStrOf x v
noncomputable def keyH (w:W1):Key->Int
 | .inl k=>hashInt k
 | .inr x=>hashStr w x
theorem Z1q:∀ {k:Key}{v:W2},keyIs k v=true->(∃ i t,k=Sum.inl i/\v=Value.int i t)∨(∃ x t,k=Sum.inr x/\v=Value.str x t)
 | .inl i,v,h=>by
  obtain⟨t,e⟩:=Value.isInt_shape (k:=i) (v:=v) h
  exact .inl ⟨i,t,Z,e⟩
 | .inr x,v,h=>by
  obtain⟨t,e⟩:=Value.isStrOf_shape (x:=x) (v:=v) h
  exact .inr ⟨x,t,Z,e⟩
theorem Y9k (i:Int)(t:Tok):keyIs (.inl i) (.int i t)=true:=by simp[keyIs,Value.isInt]
theorem Z7h (x:Str)(t:Tok):keyIs (.inr x) (.str x t)=true:=by simp[keyIs,Value.isStrOf]
theorem W1g (a b:Int):decide ((Sum.inl a:Key)=Sum.inl b)=(a == b):=by
 by_cases e:a=b
 ·subst e;simp
 ·have h:¬ (Sum.inl a:Key)=Sum.inl b:=λq=>e (Sum.inl.inj q)
  rw[q0w h]
  exact(beq_eq_false_iff_ne.mpr e).symm
theorem W1d (a b:Str):decide ((Sum.inr a:Key)=Sum.inr b)=decide (a=b):=by
 by_cases e:a=b
 ·subst e;simp
 ·have h:¬ (Sum.inr a:Key)=Sum.inr b:=λq=>e (Sum.inr.inj q)
  rw[q0w h,q0w e]
theorem W1f (a:Int)(b:Str):decide ((Sum.inl a:Key)=Sum.inr b)=false:=q0w (λq=>nomatch q)
theorem W1e (a:Str)(b:Int):decide ((Sum.inr a:Key)=Sum.inl b)=false:=q0w (λq=>nomatch q)
noncomputable def Z2a (prog:U8)(w:W1):PySem.KeyKind prog w Key where
 is:=keyIs
 hash:=keyH w
 inj:=λv a b ha hb=>by
  rcases Z1q ha with ⟨i,t,rfl,rfl⟩ | ⟨x,t,rfl,rfl⟩
  ·rcases Z1q hb with ⟨j,u,rfl,e⟩ | ⟨y,u,rfl,e⟩
   ·injection e with e1 _;rw[e1]
   ·exact nomatch e
  ·rcases Z1q hb with ⟨j,u,rfl,e⟩ | ⟨y,u,rfl,e⟩
   ·exact nomatch e
   ·injection e with e1 _;rw[e1]
 byValue:=λk v h=>by
  rcases Z1q h with ⟨i,t,rfl,rfl⟩ | ⟨x,t,rfl,rfl⟩<;>rfl
 pyHash:=λhv h=>by
  rcases Z1q hv with ⟨i,t,rfl,rfl⟩ | ⟨x,t,rfl,rfl⟩
  ·exact wpAny_pyHash_int h
  ·exact wpAny_pyHash_str h
 eqBool:=λhu hv h=>by
  rcases Z1q hu with ⟨i,t,rfl,rfl⟩ | ⟨x,t,rfl,rfl⟩
  ·rcases Z1q hv with ⟨j,u,rfl,rfl⟩ | ⟨y,u,rfl,rfl⟩
   ·rw[W1g] at h;exact wpAny_eqBool_int h
   ·rw[W1f] at h;exact SeqAt.EqAt.int_str i t y u _ _ _ _ h
  ·rcases Z1q hv with ⟨j,u,rfl,rfl⟩ | ⟨y,u,rfl,rfl⟩
   ·rw[W1e] at h;exact SeqAt.EqAt.str_int x t j u _ _ _ _ h
   ·rw[W1d] at h;exact wpAny_eqBool_str h
 «strs»:=λk x t v h=>by
  rcases Z1q h with ⟨i,u,rfl,e⟩ | ⟨y,u,rfl,e⟩
  ·exact nomatch e
  ·injection e with e1 _
   subst e1
   cases v<;>rfl
theorem Y2n (prog:U8)(w:W1)(i:Int)(t:Tok):(Z2a prog w).is (.inl i) (.int i t)=true:=Y9k i t
theorem Y2m (prog:U8)(w:W1)(x:Str)(t:Tok):(Z2a prog w).is (.inr x) (.str x t)=true:=Z7h x t
inductive V where
 | non | bl (b:Bool) | int (i:Int) | str (x:Str) | byt (b:Array UInt8) | flt (b:UInt64) | ref (a:W9) | ty (n:String)
 deriving DecidableEq
def RelV:V->Value->Prop
 | .non,u=>u=Value.none
 | .bl b,u=>u=Value.bool b
 | .int i,u=>∃ t,u=Value.int i t
 | .str x,u=>∃ t,u=Value.str x t
 | .byt b,u=>∃ t,u=Value.bytes b t
 | .flt b,u=>∃ t,u=Value.float b t
 | .ref a,u=>u=Value.ref a
 | .ty n,u=>u=Value.type n
abbrev Vals:List V->List Value->Prop:=Paired RelV
theorem Vals.length {xs:List V}{us:U5}(r:Vals xs us):xs.length=us.length:=Paired.length r
theorem Vals.get:∀ {xs:List V}{us:U5}{i:Nat}{x:V},Vals xs us->xs[i]?=some x->∃ u,us[i]?=some u/\RelV x u
 | _,_,_,_,.nil,e=>by simp at e
 | _,_,0,_,.cons r _,e=>by simp at e;subst e;exact⟨_,rfl,r⟩
 | _,_,i+1,x,.cons _ t,e=>by
  obtain⟨u,h1,h2⟩:=Vals.get (i:=i) (x:=x) t (by simpa using e)
  exact⟨u,by simpa using h1,h2⟩
theorem Vals.set {x:V}{u:W2}(r:RelV x u):∀ {xs:List V}{us:U5} (i:Nat),Vals xs us->Vals (xs.set i x) (us.set i u)
 | _,_,_,.nil=>.nil
 | _,_,0,.cons _ t=>.cons r t
 | _,_,i+1,.cons q t=>.cons q (Vals.set r i t)
theorem Vals.append:∀ {xs ys:List V}{us ws:U5},Vals xs us->Vals ys ws->Vals (xs++ys) (us++ws)
 | _,_,_,_,.nil,s=>s
 | _,_,_,_,.cons r t,s=>.cons r (Vals.append t s)
theorem Vals.take:∀ {xs:List V}{us:U5} (n:Nat),Vals xs us->Vals (xs.take n) (us.take n)
 | _,_,0,_=>.nil
 | _,_,_+1,.nil=>.nil
 | _,_,n+1,.cons r t=>.cons r (Vals.take n t)
theorem Vals.drop:∀ {xs:List V}{us:U5} (n:Nat),Vals xs us->Vals (xs.drop n) (us.drop n)
 | _,_,0,r=>r
 | _,_,_+1,.nil=>.nil
 | _,_,n+1,.cons _ t=>Vals.drop n t
def RelO:Option V->Option Value->Prop
 | some v,some u=>RelV v u
 | none,none=>True
 | _,_=>False
def KV {κ:Type}:List (κ × V)->List (κ × Value)->Prop:=Paired λ(p:κ × V) (q:κ × Value)=>p.1=q.1/\RelV p.2 q.2
noncomputable def kV:Key->V
 | .inl i=>.int i
 | .inr x=>.str x
inductive HO where
 | lst (xs:List V)
 | tup (xs:List V)
 | dK (kvs:List (Key × V)) | dT (kvs:List (List Key × V))
 | set (S:Int->Bool) (n:Nat)
 | ins (C dx:W9) (fs:List (Str × V))
 | own (x:W9)
 | xd (fs:List (Str × V))
 | met (f x:W9)
 | rng (lo hi:Int)
 | frz (o:Obj) (u:HO)
 | tbl (ps:U9)
 | ext (φ:Heap->Prop)
abbrev Hp:=Addr->Option HO
noncomputable def upd (H:Hp)(a:W9)(o:HO):Hp:=λb=>if b=a then some o else H b
theorem Z0c {H:Hp}{a:W9}{o:HO}:upd H a o a=some o:=by unfold upd;rw[if_pos rfl]
theorem Z0x {H:Hp}{a b:W9}{o:HO}(h:b≠a):upd H a o b=H b:=by unfold upd;rw[if_neg h]
theorem Z7e {H:Hp}{a b:W9}{o u:HO}(h:H a=some o)(h':H b=some u)(d:o≠u):a≠b:=by
 intro e;subst e;rw[h] at h';exact d (Option.some.inj h')
theorem Z1w {H:Hp}{a b:W9}{o:HO}(h:H a=some o)(h':H b=none):a≠b:=by
 intro e;subst e;rw[h] at h';cases h'
section
variable (P:U8) (w:W1)
def ObjOk (H:Hp)(h:Heap)(a:W9):HO->Prop
 | .lst xs=>xs.length<=sizeLine/\∃ (its:U5) (n:Nat),Vals xs its/\h.get? a=some { cls:=.type "list",data:=.seq its.toArray n }
 | .tup xs=>xs.length<=sizeLine/\∃ its:List Value,Vals xs its/\IsTup h a its.toArray
 | .dK kvs=>kvs.length<=sizeLine/\(a == sysModules)=false/\∃ vs,KV kvs vs/\h.DictOf (Z2a P w) a vs
 | .dT kvs=>kvs.length<=sizeLine/\(a == sysModules)=false/\∃ xs:List (List Key × Addr × Value),
   Paired (λ(p:List Key × V) (q:List Key × Addr × Value)=>p.1=q.1/\H q.2.1=some (.tup (p.1.map kV))/\RelV p.2 q.2.2) kvs xs ∧
   ∃ o es ep,h.get? a=some o/\o.ExactDict/\o.data=.dict es ep/\es.toList=xs.map (entryOfKey (tupleKind (Z2a P w)))/\(xs.map (·.1)).Nodup
 | .set S n=>h.SetOf (intKind P w) a S n
 | .ins C dx fs=>H dx=some (.own a)/\fs.length<=1000/\dx≠a/\h.get? a=some (PySem.W.instObj C dx) ∧
   ∃ mA,h.Ns1 dx mA/\(∀ f,RelO (fs.lookup f) (mA f))/\PySem.Within mA (fs.map (·.1))
 | .own _=>∃ o,h.get? a=some o
 | .xd fs=>∃ mA,h.Ns1 a mA/\∀ f,RelO (fs.lookup f) (mA f)
 | .rng lo hi=>∃ t u v,h.get? a=some { cls:=.type "range",data:=.fields #[.int lo t,.int hi u,.int 1 v] }
 | .frz o u=>h.get? a=some o/\ObjOk H h a u
 | .tbl ps=>h.get? a=some { cls:=.none,data:=.fields ps }
 | .met f x=>h.get? a=some (PySem.W.methodObj (.ref f) (.ref x))
 | .ext φ=>φ h/\(∃ o,h.get? a=some o)/\∀ h1 h2:Heap,φ h1->(∀ o,h1.get? a=some o->h2.get? a=some o)->φ h2
def HOk (H:Hp)(h:Heap):Prop:=∀ a o,H a=some o->ObjOk P w H h a o
end
section
variable {P:U8}{w:W1}{H H':Hp}{h h':Heap}{a:W9}{o:HO}
theorem ObjOk.lt (x:ObjOk P w H h a o):a<h.objs.size:=by
 cases o with
 | lst xs=>obtain⟨_,_,_,_,e⟩:=x;exact q0j e
 | tup xs=>obtain⟨_,_,_,p⟩:=x;exact p.lt
 | dK kvs=>obtain⟨_,_,_,_,o,_,_,e,_⟩:=x;exact q0j e
 | dT kvs=>obtain⟨_,_,_,_,o,_,_,e,_⟩:=x;exact q0j e
 | set S n=>obtain⟨o,_,_,_,e,_⟩:=x;exact q0j e
 | ins C dx fs=>obtain⟨_,_,_,e,_⟩:=x;exact q0j e
 | own y=>obtain⟨_,e⟩:=x;exact q0j e
 | xd fs=>obtain⟨_,⟨_,_,_,e,_⟩,_⟩:=x;exact q0j e
 | rng lo hi=>obtain⟨_,_,_,e⟩:=x;exact q0j e
 | frz ob u=>obtain⟨e,_⟩:=x;exact q0j e
 | tbl ps=>exact q0j (show h.get? a=some _ from x)
 | met f y=>exact q0j (show h.get? a=some _ from x)
 | ext φ=>obtain⟨_,⟨_,e⟩,_⟩:=x;exact q0j e
theorem Paired.mapP {α β:Type}{F G:α->β->Prop}:∀ {l₁:List α}{l₂:List β},Paired F l₁ l₂->(∀ a b,F a b->G a b)->Paired G l₁ l₂
 | _,_,.nil,_=>.nil
 | _,_,.cons r t,f=>.cons (f _ _ r) (Paired.mapP t f)
theorem Paired.imp' {α β:Type}{F G:α->β->Prop}(f:∀ a b,F a b->G a b){l₁:List α}{l₂:List β}(r:Paired F l₁ l₂):Paired G l₁ l₂:=Paired.mapP r f
theorem ObjOk.stay (x:ObjOk P w H h a o)(k:∀ b u,(b=a∨H b=some (.own a))->h.get? b=some u->h'.get? b=some u)
  (ho:∀ b,H b=some (.own a)->H' b=some (.own a)) (ht:∀ b xs,H b=some (.tup xs)->H' b=some (.tup xs)):ObjOk P w H' h' a o:=by
 induction o with
 | lst xs=>obtain⟨z,its,n,r,e⟩:=x;exact⟨z,its,n,r,k _ _ (.inl rfl) e⟩
 | tup xs=>obtain⟨z,its,r,ob,e,c⟩:=x;exact⟨z,its,r,ob,k _ _ (.inl rfl) e,c⟩
 | dK kvs=>obtain⟨z,y,vs,r,ob,es,ep,e,c⟩:=x;exact⟨z,y,vs,r,ob,es,ep,k _ _ (.inl rfl) e,c⟩
 | dT kvs =>
  obtain⟨z,y,xs,r,ob,es,ep,e,c⟩:=x
  exact⟨z,y,xs,Paired.mapP r λp q z=>⟨z.1,ht _ _ z.2.1,z.2.2⟩,ob,es,ep,k _ _ (.inl rfl) e,c⟩
 | set S n=>obtain⟨ob,es,ep,t,e,c⟩:=x;exact⟨ob,es,ep,t,k _ _ (.inl rfl) e,c⟩
 | ins C dx fs =>
  obtain⟨d,z,ne,e,mA,⟨od,es,ep,e2,c⟩,r⟩:=x
  exact⟨ho _ d,z,ne,k _ _ (.inl rfl) e,mA,⟨od,es,ep,k _ _ (.inr d) e2,c⟩,r⟩
 | own y=>obtain⟨ob,e⟩:=x;exact⟨ob,k _ _ (.inl rfl) e⟩
 | xd fs=>obtain⟨mA,⟨od,es,ep,e,c⟩,r⟩:=x;exact⟨mA,⟨od,es,ep,k _ _ (.inl rfl) e,c⟩,r⟩
 | rng lo hi=>obtain⟨t,u,v,e⟩:=x;exact⟨t,u,v,k _ _ (.inl rfl) e⟩
 | frz ob u ih=>obtain⟨e,q⟩:=x;exact⟨k _ _ (.inl rfl) e,ih q⟩
 | tbl ps =>
  have e:h.get? a=some { cls:=.none,data:=.fields ps }:=x
  show h'.get? a=some { cls:=.none,data:=.fields ps }
  exact k a _ (.inl rfl) e
 | met f y =>
  have e:h.get? a=some (PySem.W.methodObj (.ref f) (.ref y)):=x
  show h'.get? a=some (PySem.W.methodObj (.ref f) (.ref y))
  exact k a _ (.inl rfl) e
 | ext φ=>obtain⟨p,⟨o,e⟩,st⟩:=x;exact⟨st _ _ p λo q=>k _ _ (.inl rfl) q,⟨o,k _ _ (.inl rfl) e⟩,st⟩
theorem HOk.lt (x:HOk P w H h)(e:H a=some o):a<h.objs.size:=(x a o e).lt
theorem HOk.fresh (x:HOk P w H h)(e:h.objs.size<=a):H a=none:=by
 cases q:H a with
 | none=>rfl
 | some u=>exact absurd (q0k (x.lt q) e) (q4x _)
theorem HOk.kept (x:HOk P w H h)(k:∀ b u,h.get? b=some u->h'.get? b=some u):HOk P w H h':=λa o e =>
 (x a o e).stay (λb u _ q=>k b u q) (λ_ q=>q) λ_ _ q=>q
theorem HOk.laid (x:HOk P w H h)(k:∀ b u,h.get? b=some u->h'.get? b=some u)(hp:h.objs.size<=a)(new:ObjOk P w (upd H a o) h' a o):HOk P w (upd H a o) h':=λb u e=>by
 have hn:=x.fresh hp
 by_cases hb:b=a
 ·subst hb;rw[Z0c] at e;cases e;exact new
 ·rw[Z0x hb] at e
  exact(x b u e).stay (λc v _ q=>k c v q) (λc q=>by rw[Z0x (Z1w q hn)];exact q) λc xs q=>by rw[Z0x (Z1w q hn)];exact q
end
def Rd (H:Hp)(a:W9)(u:HO):Prop:=H a=some u∨∃ o,H a=some (.frz o u)
theorem Rd.ok {P:U8}{w:W1}{H:Hp}{h:Heap}{a:W9}{u:HO}(r:Rd H a u)(x:HOk P w H h):ObjOk P w H h a u:=by
 rcases r with r | ⟨o,r⟩
 ·exact x a u r
 ·obtain⟨_,q⟩:=x a _ r
  exact q
def Mut:Option HO->Prop
 | some (.lst _)=>True
 | some (.dK _)=>True
 | some (.dT _)=>True
 | some (.set _ _)=>True
 | some (.ins _ _ _)=>True
 | some (.ext _)=>True
 | _=>False
section
variable {P:U8}{w:W1}{H:Hp}{h h':Heap}{x e:W9}{o':HO}
theorem HOk.write (ok:HOk P w H h)(mu:Mut (H x))(he:e=x∨H e=some (.own x))(k:∀ b u,b≠e->h.get? b=some u->h'.get? b=some u)(heo:∃ u,h'.get? e=some u)
  (new:ObjOk P w (upd H x o') h' x o'):HOk P w (upd H x o') h':=λb u q=>by
 have nown:∀ c y,H c=some (.own y)->c≠x:=λc y r z=>by subst z;rw[r] at mu;exact mu
 have ntup:∀ c xs,H c=some (.tup xs)->c≠x:=λc xs r z=>by subst z;rw[r] at mu;exact mu
 by_cases hb:b=x
 ·subst hb;rw[Z0c] at q;cases q;exact new
 ·rw[Z0x hb] at q
  by_cases hbe:b=e
  ·have q':H b=some (.own x):=by
    rcases he with z | z
    ·exact absurd (hbe.trans z) hb
    ·rw[hbe];exact z
   rw[q] at q';cases q'
   obtain⟨v,hv⟩:=heo
   exact⟨v,by rw[hbe];exact hv⟩
  ·refine(ok b u q).stay (λc v hc r=>k c v ?_ r) (λc r=>by rw[Z0x (nown c b r)];exact r) λc xs r=>by rw[Z0x (ntup c xs r)];exact r
   rcases hc with rfl | hc
   ·exact hbe
   ·rintro rfl
    rcases he with z | z
    ·exact nown c b hc z
    ·rw[hc] at z;cases z;exact hb rfl
end
structure Un (fs ex:U3) (H H':Hp) (h h':Heap):Prop where
 keep:∀ b o,h.get? b=some o->H b=none->b ∉ fs->b ∉ ex->h'.get? b=some o
 slot:∀ b o,h.get? b=some o->H b=none->b∈fs->b ∉ ex->∃ sl,h'.get? b=some { o with slots:=sl }
 free:∀ b o,h.get? b=some o->H b=none->b ∉ ex->H' b=none
 there:∀ b o,h.get? b=some o->b ∉ ex->∃ o',h'.get? b=some o'
 tups:∀ b xs,H b=some (.tup xs)->H' b=some (.tup xs)
 frzs:∀ b o u,H b=some (.frz o u)->H' b=some (.frz o u)
 tbls:∀ b ps,H b=some (.tbl ps)->∃ more,H' b=some (.tbl (ps++more))
section
variable {fs fs' ex ex':U3}{H H1 H2:Hp}{h h1 h2 h':Heap}{a x e:W9}{o:HO}
theorem Un.any (u:Un fs ex H H1 h h1){b:W9}{ob:Obj}(q:h.get? b=some ob)(n:H b=none)(hx:b ∉ ex):∃ sl,h1.get? b=some { ob with slots:=sl }:=by
 by_cases hb:b∈fs
 ·exact u.slot b ob q n hb hx
 ·exact⟨ob.slots,u.keep b ob q n hb hx⟩
theorem Un.kept (k:∀ b u,h.get? b=some u->h'.get? b=some u):Un fs ex H H h h' :=
 ⟨λb ob q _ _ _=>k b ob q,λb ob q _ _ _=>⟨ob.slots,k b ob q⟩,λ_ _ _ n _=>n,λb ob q _=>⟨ob,k b ob q⟩,λ_ _ q=>q,λ_ _ _ q=>q,λ_ ps q=>⟨#[],by rw[q];simp⟩⟩
theorem Un.refl:Un fs ex H H h h:=Un.kept λ_ _ q=>q
theorem Un.laid (k:∀ b u,h.get? b=some u->h'.get? b=some u)(hp:h.objs.size<=a)(hn:H a=none):Un fs ex H (upd H a o) h h' where
 keep:=λb u q _ _ _=>k b u q
 slot:=λb u q _ _ _=>⟨u.slots,k b u q⟩
 free:=λb u q n _=>by rw[Z0x (q0x (q0k (q0j q) hp))];exact n
 there:=λb u q _=>⟨u,k b u q⟩
 tups:=λb xs q=>by rw[Z0x (Z1w q hn)];exact q
 frzs:=λb u xs q=>by rw[Z0x (Z1w q hn)];exact q
 tbls:=λb ps q=>⟨#[],by rw[Z0x (Z1w q hn),q];simp⟩
theorem Un.write (mu:Mut (H x))(he:e=x∨H e=some (.own x))(k:∀ b u,b≠e->h.get? b=some u->h'.get? b=some u)(heo:∃ u,h'.get? e=some u):Un fs ex H (upd H x o) h h':=by
 have hx:∀ b,H b=none->b≠x:=λb n z=>by subst z;rw[n] at mu;exact mu
 have hb:∀ b,H b=none->b≠e:=λb n z=>by
  subst z
  rcases he with r | r
  ·exact hx b n r
  ·rw[n] at r;cases r
 have hm:∀ b u,H b=some u->¬ Mut (some u)->b≠x:=λb u q nm z=>by subst z;rw[q] at mu;exact nm mu
 refine⟨λb u q n _ _=>k b u (hb b n) q,λb u q n _ _=>⟨u.slots,k b u (hb b n) q⟩,λb u q n _=>by rw[Z0x (hx b n)];exact n,λb u q _=>?_,
  λb xs q=>by rw[Z0x (hm b _ q λz=>z)];exact q,λb u xs q=>by rw[Z0x (hm b _ q λz=>z)];exact q,λb ps q=>⟨#[],by rw[Z0x (hm b _ q λz=>z),q];simp⟩⟩
 by_cases hbe:b=e
 ·subst hbe;exact heo
 ·exact⟨u,k b u hbe q⟩
end
noncomputable def trk (h:Heap)(H:Hp):List Addr:=(List.range h.objs.size).filter λa=>(H a).isSome
noncomputable def hidT (h:Heap)(H:Hp):Heap:=PySem.W.hideAll h (trk h H)
theorem Y9t (h:Heap)(H:Hp):(hidT h H).objs.size=h.objs.size:=PySem.W.hideAll_size _ _
theorem X3k {h:Heap}{H:Hp}{b:W9}{o:Obj}(e:h.get? b=some o)(n:H b=none):(hidT h H).get? b=some o :=
 PySem.W.hideAll_get _ e λhm=>by
  have q:(H b).isSome=true:=(q5r.mp hm).2
  rw[n] at q;simp at q
theorem X7p {h:Heap}{H:Hp}{b:W9}{o:Obj}(e:(hidT h H).get? b=some o):h.get? b=some o/\H b=none:=by
 have e':h.get? b=some o:=PySem.W.of_hideAll (trk h H) e
 refine⟨e',?_⟩
 cases q:H b with
 | none=>rfl
 | some x =>
  have hm:b∈trk h H:=q5r.mpr ⟨q1o.mpr (q0j e'),by simp[q]⟩
  have z:(hidT h H).get? b=none:=PySem.W.hideAll_none (trk h H) hm
  rw[z] at e;cases e
structure Mod (K:U0) (mg:U4) (base:Heap):Prop where
 kin:K.In base
 glob:base.Ns mainGlobals mg
 blt:∃ mb,base.Ns builtinsNs mb/\∀ x:Str,x≠"__name__"->mb x=bootBuiltins x
 nolimit:base.NoLimit
structure Cx where
 prog:Program
 w:World
 K:U0
 mg:Str->Option Value
 base:Heap
 A:Around
 N:List Str
 s₀:Shared
 H₀:Hp
 env:Env
 outer:List Env
 stack:List Env
 ex:List Addr
 fn:Str->Bool
 calm:Bool
 pn:List (Addr × Obj)
 xe:Value->Shared->Prop
noncomputable def frs (l:List Env):List Addr:=l.filterMap (·.frame)
noncomputable abbrev Cx.fs (X:Cx):List Addr:=frs X.outer
def Vis (sc:Scope)(x:Str):Prop:=sc.names.lookup x=some .local∨sc.names.lookup x=some .cell∨sc.names.lookup x=some .free
def Loc (sc:Scope)(x:Str):Prop:=sc.names.lookup x=some .local∨sc.names.lookup x=some .cell
def Look (env:Env)(h:Heap)(m:U4)(x:Str)(u:W2):Prop :=
 (env.kindOf x=some .local/\m x=some u)∨((env.kindOf x=some .cell∨env.kindOf x=some .free)/\∃ c,env.cells.lookup x=some c/\h.IsCell c (some u))
structure Cx.Ok (X:Cx):Prop where
 mod:Mod X.K X.mg X.base
 kind:X.env.scope.kind=.function
 glob:X.env.globals=mainGlobals
 blt:X.env.builtins=builtinsNs
 above:X.s₀.heap.objs.size<=X.env.locals
 inj:∀ x y c,X.env.cells.lookup x=some c->X.env.cells.lookup y=some c->x=y
 has:∀ x,(X.env.kindOf x=some .cell∨X.env.kindOf x=some .free)->∃ c,X.env.cells.lookup x=some c
 cab:∀ x c,X.fn x=true->X.env.cells.lookup x=some c->X.s₀.heap.objs.size<=c
 hd:X.calm=true->X.A.handled=none
 frames:X.A.frames=some X.stack
 stk:X.stack=X.outer∨(X.stack=X.env::X.outer/\X.env.frame=some X.env.locals)
 exf:∀ b∈X.ex,b≠X.env.locals/\∀ x c,X.env.cells.lookup x=some c->c≠b
 bs:∀ b o,X.base.get? b=some o->X.s₀.heap.get? b=some o/\X.H₀ b=none
 bsz:X.base.objs.size<=X.s₀.heap.objs.size
 noex:∀ b o,X.base.get? b=some o->b ∉ X.ex
 exfs:∀ b∈X.ex,b ∉ X.fs
 funs:X.s₀.heap.FunFrames X.base X.outer
 frf:∀ b∈X.fs,X.H₀ b=none
structure Inv (X:Cx) (pins:U1) (σ:List (Option V)) (H:Hp) (s:U7):Prop where
 ok:X.Ok
 os:s.os=X.s₀.os
 bare:AllBare s.gens
 base:Un X.fs X.ex X.H₀ H X.s₀.heap s.heap
 loc:∃ m,s.heap.Ns X.env.locals m/\∀ (i:Nat) (x:Str) (v:V),X.N[i]?=some x->σ[i]?=some (some v)->Vis X.env.scope x->∃ u,RelV v u/\Look X.env s.heap m x u
 cell:∀ x c,X.env.cells.lookup x=some c->∃ v,s.heap.IsCell c v
 free:H X.env.locals=none
 freeC:∀ x c,X.env.cells.lookup x=some c->H c=none
 pin:∀ p∈X.pn++pins,s.heap.get? p.1=some p.2/\H p.1=none/\p.1≠X.env.locals/\p.1 ∉ X.fs/\∀ v,p.2.data≠.cell v
 hok:HOk X.prog X.w H s.heap
 len:σ.length=X.N.length
section
variable {X:Cx}{pins:U1}{σ:List (Option V)}{H H':Hp}{s:U7}{h':Heap}
theorem Cx.Ok.nofr (ok:X.Ok){b:W9}{o:Obj}(e:X.base.get? b=some o):b ∉ X.fs:=λhb=>by
 have:=(ok.funs.mem hb).1
 rw[e] at this;cases this
theorem Inv.bs (I:Inv X pins σ H s):∀ b o,X.base.get? b=some o->s.heap.get? b=some o/\H b=none:=λb o e =>
 ⟨I.base.keep b o (I.ok.bs b o e).1 (I.ok.bs b o e).2 (I.ok.nofr e) (I.ok.noex b o e),I.base.free b o (I.ok.bs b o e).1 (I.ok.bs b o e).2 (I.ok.noex b o e)⟩
theorem Inv.bk (I:Inv X pins σ H s):∀ b o,X.base.get? b=some o->s.heap.get? b=some o:=λb o e=>(I.bs b o e).1
theorem Inv.mod (I:Inv X pins σ H s):Mod X.K X.mg X.base:=I.ok.mod
theorem Inv.kIn (I:Inv X pins σ H s):X.K.In s.heap:=I.ok.mod.kin.keeps I.bk
theorem Inv.lt (I:Inv X pins σ H s):X.env.locals<s.heap.objs.size:=let ⟨_,hn,_⟩:=I.loc;hn.lt
theorem Inv.sz (I:Inv X pins σ H s):X.s₀.heap.objs.size<=s.heap.objs.size:=q1i I.ok.above (q6f I.lt)
theorem Inv.nofs (I:Inv X pins σ H s){a:W9}(h:s.heap.objs.size<=a):a ∉ X.fs:=λhb=>by
 obtain⟨_,o,ho,_⟩:=I.ok.funs.mem hb
 exact absurd (q0k (q0j ho) (q1i I.sz h)) (q4x _)
theorem Inv.cne (I:Inv X pins σ H s):∀ x c,X.env.cells.lookup x=some c->c≠X.env.locals:=λx c e z=>by
 obtain⟨v,o,ho,hd⟩:=I.cell x c e
 obtain⟨m,⟨o',es,ep,ho',hd',_⟩,_⟩:=I.loc
 rw[z,ho'] at ho;cases ho;rw[hd'] at hd;cases hd
theorem Inv.funs (I:Inv X pins σ H s):s.heap.FunFrames X.base X.outer:=by
 have all:∀ (l:List Env),(∀ b∈frs l,b∈X.fs)->X.s₀.heap.FunFrames X.base l->s.heap.FunFrames X.base l:=by
  intro l
  induction l with
  | nil=>intro _ _;trivial
  | cons env r ih =>
   intro hs hl
   obtain⟨hk,⟨L,o,hf,hn,ho,hd⟩,hr⟩:=hl
   have hL:L∈X.fs:=hs L (by unfold frs;rw[q6u,hf];exact q1r)
   obtain⟨sl,e⟩:=I.base.slot L o ho (I.ok.frf L hL) hL λz=>I.ok.exfs L z hL
   exact⟨hk,⟨L,_,hf,hn,e,hd⟩,ih (λb hb=>hs b (by unfold frs;rw[q6u,hf];exact q1n _ hb)) hr⟩
 exact all X.outer (λ_ hb=>hb) I.ok.funs
theorem Inv.stack (I:Inv X pins σ H s):s.heap.FunFrames X.base X.stack:=by
 rcases I.ok.stk with e | ⟨e,hf⟩
 ·rw[e];exact I.funs
 ·rw[e]
  obtain⟨m,hn,_⟩:=I.loc
  refine .cons (by rw[I.ok.kind];decide) hf hn ?_ I.funs
  exact Heap.get?_none_of_le (q1i I.ok.bsz I.ok.above)
theorem Inv.stkSub (I:Inv X pins σ H s):∀ b∈frs X.stack,b∈X.env.locals::X.fs:=λb hb=>by
 rcases I.ok.stk with e | ⟨e,hf⟩
 ·rw[e] at hb;exact q1n _ hb
 ·rw[e] at hb
  unfold frs at hb
  rw[q6u,hf] at hb
  exact hb
theorem Inv.stkFree (I:Inv X pins σ H s):∀ b∈frs X.stack,H b=none:=λb hb=>by
 rcases q0t.mp (I.stkSub b hb) with e | hb
 ·rw[e];exact I.free
 ·obtain⟨_,o,ho,_⟩:=I.ok.funs.mem hb
  exact I.base.free b o ho (I.ok.frf b hb) λz=>I.ok.exfs b z hb
theorem Inv.step {g':Array GenState}{t':Nat}{d':Drawn}{ch:U3}(I:Inv X pins σ H s)
  (hch:∀ b∈ch,(b∈X.ex∨X.s₀.heap.objs.size<=b)/\b≠X.env.locals/\(∀ x c,X.env.cells.lookup x=some c->c≠b)/\∀ p∈X.pn++pins,p.1≠b)
  (keep:∀ b o,b≠X.env.locals->b ∉ X.fs->b ∉ ch->s.heap.get? b=some o->H b=none->h'.get? b=some o)
  (slot:∀ b o,b≠X.env.locals->b∈X.fs->b ∉ ch->s.heap.get? b=some o->H b=none->∃ sl,h'.get? b=some { o with slots:=sl }) (free:∀ b o,b ∉ ch->s.heap.get? b=some o->H b=none->H' b=none)
  (there:∀ b o,b ∉ ch->s.heap.get? b=some o->∃ o',h'.get? b=some o')
  (tups:∀ b xs,H b=some (.tup xs)->H' b=some (.tup xs)) (frzs:∀ b o u,H b=some (.frz o u)->H' b=some (.frz o u)) (tbls:∀ b ps,H b=some (.tbl ps)->∃ more,H' b=some (.tbl (ps++more)))
  (ns:∀ m,s.heap.Ns X.env.locals m->h'.Ns X.env.locals m) (hok:HOk X.prog X.w H' h') (hg:AllBare g') :
  Inv X pins σ H' { s with heap:=h',gens:=g',drawn:=d',toks:=t' }:=by
 have neL:∀ b o,X.s₀.heap.get? b=some o->b≠X.env.locals:=λb o e=>q0x (q0k (q0j e) I.ok.above)
 have neC:∀ b o,X.s₀.heap.get? b=some o->b ∉ X.ex->b ∉ ch:=λb o e hx hb=>by
  rcases (hch b hb).1 with z | z
  ·exact hx z
  ·exact absurd (q0k (q0j e) z) (q4x _)
 have cellK:∀ x c,X.env.cells.lookup x=some c->∀ v,s.heap.IsCell c v->h'.IsCell c v:=λx c e v ⟨o,ho,hd⟩=>by
  have nch:c ∉ ch:=λz=>(hch c z).2.2.1 x c e rfl
  by_cases hc:c∈X.fs
  ·obtain⟨sl,q⟩:=slot c o (I.cne x c e) hc nch ho (I.freeC x c e)
   exact⟨_,q,hd⟩
  ·exact⟨o,keep c o (I.cne x c e) hc nch ho (I.freeC x c e),hd⟩
 refine⟨I.ok,I.os,hg,⟨λb o e n hb hx=>?_,λb o e n hb hx=>?_,λb o e n hx=>?_,λb o e hx=>?_,λb xs e=>tups b xs (I.base.tups b xs e),λb o xs e=>frzs b o xs (I.base.frzs b o xs e),λb ps e=>?_⟩,?_,λx c e=>?_,?_,λx c e=>?_,λp hp=>?_,hok,I.len⟩
 ·exact keep b o (neL b o e) hb (neC b o e hx) (I.base.keep b o e n hb hx) (I.base.free b o e n hx)
 ·obtain⟨sl,e1⟩:=I.base.slot b o e n hb hx
  obtain⟨sl',e2⟩:=slot b _ (neL b o e) hb (neC b o e hx) e1 (I.base.free b o e n hx)
  exact⟨sl',e2⟩
 ·obtain⟨o',e1⟩:=I.base.there b o e hx
  exact free b o' (neC b o e hx) e1 (I.base.free b o e n hx)
 ·obtain⟨o',e1⟩:=I.base.there b o e hx
  exact there b o' (neC b o e hx) e1
 ·obtain⟨m1,e1⟩:=I.base.tbls b ps e
  obtain⟨m2,e2⟩:=tbls b _ e1
  exact⟨m1++m2,by rw[e2,Array.append_assoc]⟩
 ·obtain⟨m,hn,hl⟩:=I.loc
  refine⟨m,ns m hn,λi x v e1 e2 e3=>?_⟩
  obtain⟨u,r,l⟩:=hl i x v e1 e2 e3
  refine⟨u,r,?_⟩
  rcases l with l | ⟨k,c,e,z⟩
  ·exact .inl l
  ·exact .inr ⟨k,c,e,cellK x c e _ z⟩
 ·obtain⟨v,z⟩:=I.cell x c e
  exact⟨v,cellK x c e v z⟩
 ·obtain⟨m,⟨o,_,_,ho,_⟩,_⟩:=I.loc
  exact free _ o (λz=>(hch _ z).2.1 rfl) ho I.free
 ·obtain⟨v,o,ho,hd⟩:=I.cell x c e
  exact free c o (λz=>(hch c z).2.2.1 x c e rfl) ho (I.freeC x c e)
 ·obtain⟨e,n,ne,nf,d⟩:=I.pin p hp
  have nch:p.1 ∉ ch:=λz=>(hch p.1 z).2.2.2 p hp rfl
  exact⟨keep p.1 p.2 ne nf nch e n,free p.1 p.2 nch e n,ne,nf,d⟩
theorem Inv.un {t':Nat}(I:Inv X pins σ H s)(u:Un X.fs [] H H' s.heap h')(hok:HOk X.prog X.w H' h'):Inv X pins σ H' { s with heap:=h',toks:=t' }:=by
 obtain⟨m,⟨o,es,ep,ho,r⟩,_⟩:=id I.loc
 obtain⟨sl,hL⟩:=u.any ho I.free (by simp)
 exact I.step (g':=s.gens) (d':=s.drawn) (ch:=[]) (λ_ z=>nomatch z) (λb o _ hb _ e n=>u.keep b o e n hb (by simp)) (λb o _ hb _ e n=>u.slot b o e n hb (by simp)) (λb o _ e n=>u.free b o e n (by simp)) (λb o _ e=>u.there b o e (by simp)) u.tups u.frzs u.tbls (λm' hm=>by
  obtain⟨o',es',ep',ho',r'⟩:=hm
  rw[ho] at ho';cases ho'
  exact⟨_,es',ep',hL,r'⟩) hok I.bare
theorem Inv.call {g':Array GenState}{t':Nat}{d':Drawn}{ch:U3}(I:Inv X pins σ H s)(u:Un (frs X.stack) ch H H' s.heap h')(hok:HOk X.prog X.w H' h')(hg:AllBare g')
  (hch:∀ b∈ch,(b∈X.ex∨X.s₀.heap.objs.size<=b)/\b≠X.env.locals/\(∀ x c,X.env.cells.lookup x=some c->c≠b)/\∀ p∈X.pn++pins,p.1≠b) :
  Inv X pins σ H' { s with heap:=h',gens:=g',drawn:=d',toks:=t' }:=by
 obtain⟨m,⟨o,es,ep,ho,r⟩,_⟩:=id I.loc
 obtain⟨sl,hL⟩:=u.any ho I.free λz=>(hch _ z).2.1 rfl
 exact I.step (ch:=ch) hch (λb o hL hb hc e n=>u.keep b o e n (λz=>(q0t.mp (I.stkSub b z)).elim hL hb) hc) (λb o _ _ hc e n=>u.any e n hc) (λb o hc e n=>u.free b o e n hc) (λb o hc e=>u.there b o e hc) u.tups u.frzs u.tbls (λm' hm=>by
  obtain⟨o',es',ep',ho',r'⟩:=hm
  rw[ho] at ho';cases ho'
  exact⟨_,es',ep',hL,r'⟩) hok hg
theorem Inv.turned {t':Nat}{it:W9}(I:Inv X pins σ H s)(k:∀ b o,b≠it->s.heap.get? b=some o->h'.get? b=some o)(hn:H it=none)(hL:it≠X.env.locals)
  (h1:it∈X.ex∨X.s₀.heap.objs.size<=it) (h2:∀ x c,X.env.cells.lookup x=some c->c≠it) (h3:∀ p∈X.pn++pins,p.1≠it):Inv X pins σ H { s with heap:=h',toks:=t' }:=by
 have nit:∀ b u,H b=some u->b≠it:=λb u e z=>by rw[z,hn] at e;cases e
 refine I.step (g':=s.gens) (d':=s.drawn) (ch:=[it]) (λb hb=>?_) (λb o _ _ hc e _=>k b o (λz=>hc (by simp[z])) e) (λb o _ _ hc e _=>⟨o.slots,k b o (λz=>hc (by simp[z])) e⟩) (λ_ _ _ _ n=>n)
  (λb o hc e=>⟨o,k b o (λz=>hc (by simp[z])) e⟩) (λ_ _ e=>e) (λ_ _ _ e=>e) (λb ps e=>⟨#[],by rw[e];simp⟩) (λm hm=>?_) (λb u e=>?_) I.bare
 ·have e:b=it:=by simpa using hb
  subst e
  exact⟨h1,hL,h2,h3⟩
 ·obtain⟨o,es,ep,ho,r⟩:=hm
  exact⟨o,es,ep,k _ o (Ne.symm hL) ho,r⟩
 ·refine(I.hok b u e).stay (λc v hc q=>k c v ?_ q) (λ_ q=>q) λ_ _ q=>q
  rcases hc with z | z
  ·rw[z];exact nit b u e
  ·exact nit c _ z
theorem Inv.tok (I:Inv X pins σ H s)(t:Nat):Inv X pins σ H { s with toks:=t }:=I.un (h':=s.heap) (t':=t) Un.refl I.hok
theorem Inv.kept {t':Nat}(I:Inv X pins σ H s)(k:∀ b u,s.heap.get? b=some u->h'.get? b=some u):Inv X pins σ H { s with heap:=h',toks:=t' }:=I.un (Un.kept k) (I.hok.kept k)
theorem Inv.laid {a:W9}{o:HO}{t':Nat}(I:Inv X pins σ H s)(k:∀ b u,s.heap.get? b=some u->h'.get? b=some u)(hp:s.heap.objs.size<=a)(new:ObjOk X.prog X.w (upd H a o) h' a o) :
  Inv X pins σ (upd H a o) { s with heap:=h',toks:=t' }:=I.un (Un.laid k hp (I.hok.fresh hp)) (I.hok.laid k hp new)
theorem Inv.write {x e:W9}{o:HO}{t':Nat}(I:Inv X pins σ H s)(mu:Mut (H x))(he:e=x∨H e=some (.own x))(k:∀ b u,b≠e->s.heap.get? b=some u->h'.get? b=some u)(heo:∃ u,h'.get? e=some u)
  (new:ObjOk X.prog X.w (upd H x o) h' x o):Inv X pins σ (upd H x o) { s with heap:=h',toks:=t' }:=I.un (Un.write mu he k heo) (I.hok.write mu he k heo new)
theorem Inv.pins_of {pins':U1}(I:Inv X pins σ H s)(h:∀ p∈pins',s.heap.get? p.1=some p.2/\H p.1=none/\p.1≠X.env.locals/\p.1 ∉ X.fs/\∀ v,p.2.data≠.cell v):Inv X pins' σ H s :=
 ⟨I.ok,I.os,I.bare,I.base,I.loc,I.cell,I.free,I.freeC,λp hp=>(q1b.mp hp).elim (λz=>I.pin p (q1z _ z)) (h p),I.hok,I.len⟩
theorem Y4i {N:W0}(hN:N.Nodup){i j:Nat}{x:Str}(a:N[i]?=some x)(b:N[j]?=some x):i=j:=by
 obtain⟨h1,e1⟩:=q0l.mp a
 obtain⟨h2,e2⟩:=q0l.mp b
 exact(List.getElem_inj hN).mp (e1.trans e2.symm)
theorem Z6m {M:Model}{A:W6}{E:U2}{i:Nat}{x:Str}{v:V}{u:W2}{Q:Unit->Shared->Prop}(I:Inv X pins σ H s)(hN:X.N.Nodup)(hi:X.N[i]?=some x)(hx:Loc X.env.scope x)(r:RelV v u)
  (h:∀ s',Inv X pins (σ.set i (some v)) H s'->(∃ a,Heap.SameBut a s.heap s'.heap/\(a=X.env.locals∨X.env.cells.lookup x=some a))->Q () s') (hf:X.fn x=true∨X.env.scope.names.lookup x=some .local:=by first | exact .inl rfl | exact .inr rfl | assumption):wpAny M A (storeName X.env x u) Q E s:=by
 obtain⟨m,hn,hl⟩:=id I.loc
 have hcls:(X.env.scope.kind == .class || (X.env.scope.kind == .module && X.env.locals != X.env.globals))=false:=by rw[I.ok.kind];rfl
 have hiσ:i<σ.length:=by rw[I.len];exact(q0l.mp hi).1
 have cne:=I.cne
 have tracked:∀ {a:W9}{h':Heap},(∃ o,s.heap.get? a=some o/\H a=none)->Heap.SameBut a s.heap h'->HOk X.prog X.w H h':=λ{a h'} ha hs b ob e=>by
  obtain⟨_,_,hfree⟩:=ha
  refine(I.hok b ob e).stay (λc w' hc q=>(hs.2 c ?_).trans q) (λ_ q=>q) λ_ _ q=>q
  rintro rfl
  rcases hc with rfl | hc
  ·rw[hfree] at e;cases e
  ·rw[hfree] at hc;cases hc
 rcases hx with hk | hk
 ·refine wpAny_storeName_local hk hn (λh' hn' hs=>?_) hcls
  obtain⟨oL,_,_,hoL,_⟩:=id hn
  refine h _ ⟨I.ok,I.os,I.bare,⟨λb o e n hb hx=>?_,λb o e n hb hx=>?_,I.base.free,λb o e hx=>?_,I.base.tups,I.base.frzs,I.base.tbls⟩,⟨_,hn',λj y v' e1 e2 e3=>?_⟩,λy c e=>?_,I.free,I.freeC,λp hp=>?_,tracked ⟨oL,hoL,I.free⟩ hs,by simpa using I.len⟩ ⟨_,hs,.inl rfl⟩
  ·exact(hs.2 b (q0x (q0k (q0j e) I.ok.above))).trans (I.base.keep b o e n hb hx)
  ·obtain⟨sl,e1⟩:=I.base.slot b o e n hb hx
   exact⟨sl,(hs.2 b (q0x (q0k (q0j e) I.ok.above))).trans e1⟩
  ·obtain⟨o',e1⟩:=I.base.there b o e hx
   exact⟨o',(hs.2 b (q0x (q0k (q0j e) I.ok.above))).trans e1⟩
  ·by_cases hj:j=i
   ·subst hj
    rw[hi] at e1;cases e1
    rw[q7x hiσ] at e2
    cases e2
    exact⟨u,r,.inl ⟨hk,by simp⟩⟩
   ·rw[q6k (Ne.symm hj)] at e2
    obtain⟨u',r',q⟩:=hl j y v' e1 e2 e3
    refine⟨u',r',?_⟩
    rcases q with ⟨k,e⟩ | ⟨k,c,e,z⟩
    ·refine .inl ⟨k,?_⟩
     have:y≠x:=λe=>hj (Y4i hN e1 (e ▸ hi))
     simp[this,e]
    ·exact .inr ⟨k,c,e,z.sameBut hs (cne y c e)⟩
  ·obtain⟨w',z⟩:=I.cell y c e
   exact⟨w',z.sameBut hs (cne y c e)⟩
  ·obtain⟨e,n,ne,nf,d⟩:=I.pin p hp
   exact⟨(hs.2 p.1 ne).trans e,n,ne,nf,d⟩
 ·have hfn:X.fn x=true:=by
   rcases hf with z | z
   ·exact z
   ·rw[z] at hk;cases hk
  obtain⟨c,hc⟩:=I.ok.has x (.inl hk)
  obtain⟨w',z⟩:=I.cell x c hc
  refine wpAny_storeName_cell I.ok.kind hk hc z (λh' hc' hs=>?_)
  obtain⟨oc,hoc,hocd⟩:=id z
  refine h { s with heap:=h' } ⟨I.ok,I.os,I.bare,⟨λb o e n hb hx=>?_,λb o e n hb hx=>?_,I.base.free,λb o e hx=>?_,I.base.tups,I.base.frzs,I.base.tbls⟩,⟨m,hn.sameBut hs (Ne.symm (cne x c hc)),λj y v' e1 e2 e3=>?_⟩,λy c' e=>?_,I.free,I.freeC,λp hp=>?_,tracked ⟨oc,hoc,I.freeC x c hc⟩ hs,by simpa using I.len⟩ ⟨c,hs,.inr hc⟩
  ·exact(hs.2 b (q0x (q0k (q0j e) (I.ok.cab x c hfn hc)))).trans (I.base.keep b o e n hb hx)
  ·obtain⟨sl,e1⟩:=I.base.slot b o e n hb hx
   exact⟨sl,(hs.2 b (q0x (q0k (q0j e) (I.ok.cab x c hfn hc)))).trans e1⟩
  ·obtain⟨o',e1⟩:=I.base.there b o e hx
   exact⟨o',(hs.2 b (q0x (q0k (q0j e) (I.ok.cab x c hfn hc)))).trans e1⟩
  ·by_cases hj:j=i
   ·subst hj
    rw[hi] at e1;cases e1
    rw[q7x hiσ] at e2
    cases e2
    exact⟨u,r,.inr ⟨.inl hk,c,hc,hc'⟩⟩
   ·rw[q6k (Ne.symm hj)] at e2
    obtain⟨u',r',q⟩:=hl j y v' e1 e2 e3
    refine⟨u',r',?_⟩
    rcases q with q | ⟨k,c',e,z'⟩
    ·exact .inl q
    ·refine .inr ⟨k,c',e,z'.sameBut hs ?_⟩
     rintro rfl
     exact hj (Y4i hN e1 (I.ok.inj _ _ _ e hc ▸ hi))
  ·by_cases hcc:c'=c
   ·subst hcc;exact⟨_,hc'⟩
   ·obtain⟨w2,z2⟩:=I.cell y c' e
    exact⟨w2,z2.sameBut hs hcc⟩
  ·obtain⟨e,n,ne,nf,d⟩:=I.pin p hp
   refine⟨(hs.2 p.1 ?_).trans e,n,ne,nf,d⟩
   intro q
   rw[q,hoc] at e
   have q':oc=p.2:=Option.some.inj e
   exact d w' (by rw[<-q'];exact hocd)
theorem Y3h {M:Model}{A:W6}{E:U2}{i:Nat}{x:Str}{v:V}{u:W2}{Q:Unit->Shared->Prop}(I:Inv X pins σ H s)(hN:X.N.Nodup)(hi:X.N[i]?=some x)(hx:Loc X.env.scope x)(r:RelV v u)
  (h:∀ s',Inv X pins (σ.set i (some v)) H s'->Q () s') (hf:X.fn x=true∨X.env.scope.names.lookup x=some .local:=by first | exact .inl rfl | exact .inr rfl | assumption):wpAny M A (storeName X.env x u) Q E s :=
 Z6m I hN hi hx r (λs' I' _=>h s' I') hf
theorem Inv.call' {s':U7}{ch:U3}(I:Inv X pins σ H s)(ho:s'.os=s.os)(u:Un (frs X.stack) ch H H' s.heap s'.heap)(hok:HOk X.prog X.w H' s'.heap)(hg:AllBare s'.gens)
  (hch:∀ b∈ch,(b∈X.ex∨X.s₀.heap.objs.size<=b)/\b≠X.env.locals/\(∀ x c,X.env.cells.lookup x=some c->c≠b)/\∀ p∈X.pn++pins,p.1≠b):Inv X pins σ H' s':=by
 obtain⟨h',g',d',t',o'⟩:=s'
 have e:o'=s.os:=ho
 subst e
 exact I.call (g':=g') (t':=t') (d':=d') u hok hg hch
end
abbrev XK:=Value->Option Addr->Hp->Prop
abbrev St:=List (Option V)
abbrev VK:=V->Hp->Prop
abbrev TE:=St->Hp->VK->Prop
abbrev TT:=St->Hp->(Bool->Hp->Prop)->Prop
abbrev TA:=St->Hp->(List V->Hp->Prop)->Prop
structure Ends where
 nx:St->Hp->Prop
 rt:VK
 bk:St->Hp->Prop:=λ_ _=>False
 ct:St->Hp->Prop:=λ_ _=>False
abbrev TS:=Ends->St->Hp->Prop
def EP (X:Cx)(pins:U1)(σ:St)(Q:VK)(u:W2)(s':U7):Prop:=∃ v H',Inv X pins σ H' s'/\RelV v u/\Q v H'
def TP (X:Cx)(pins:U1)(σ:St)(Q:Bool->Hp->Prop)(b:Bool)(s':U7):Prop:=∃ H',Inv X pins σ H' s'/\Q b H'
def AP (X:Cx)(pins:U1)(σ:St)(Q:List V->Hp->Prop)(us:U5)(s':U7):Prop:=∃ vs H',Inv X pins σ H' s'/\Vals vs us/\Q vs H'
def SP (X:Cx)(pins:U1)(D:Ends)(f:Flow)(s':U7):Prop :=
 match f with
 | .next=>∃ σ' H',Inv X pins σ' H' s'/\D.nx σ' H'
 | .brk=>∃ σ' H',Inv X pins σ' H' s'/\D.bk σ' H'
 | .cont=>∃ σ' H',Inv X pins σ' H' s'/\D.ct σ' H'
 | .ret u=>∃ v σ' H',Inv X pins σ' H' s'/\RelV v u/\D.rt v H'
def PE (X:Cx)(e:Expr)(t:TE):Prop :=
 ∀ (pins:U1) (s:U7) (σ:St) (H:Hp) (Q:VK),Inv X pins σ H s->t σ H Q->wpAny (model X.prog X.w) X.A (eval e X.env) (EP X pins σ Q) X.xe s
def PT (X:Cx)(e:Expr)(t:TT):Prop :=
 ∀ (pins:U1) (s:U7) (σ:St) (H:Hp) (Q:Bool->Hp->Prop),Inv X pins σ H s->t σ H Q->wpAny (model X.prog X.w) X.A (isTrue e X.env (eval e X.env)) (TP X pins σ Q) X.xe s
def PW (X:Cx)(e:Expr)(t:TT):Prop :=
 ∀ (whole:Sem Value) (pins:U1) (s:U7) (σ:St) (H:Hp) (Q:Bool->Hp->Prop),Inv X pins σ H s->t σ H Q->wpAny (model X.prog X.w) X.A (isTrue e X.env whole) (TP X pins σ Q) X.xe s
theorem PW.pt {X:Cx}{e:Expr}{t:TT}(h:PW X e t):PT X e t:=h _
def PA (X:Cx)(es:List Expr)(t:TA):Prop :=
 ∀ (pos:Pos) (pins:U1) (s:U7) (σ:St) (H:Hp) (Q:List V->Hp->Prop),Inv X pins σ H s->t σ H Q->wpAny (model X.prog X.w) X.A (spliced (backTo pos (starEach es X.env))) (AP X pins σ Q) X.xe s
def PS (X:Cx)(st:Stmt)(t:TS):Prop :=
 ∀ (pins:U1) (s:U7) (σ:St) (H:Hp) (D:Ends),Inv X pins σ H s->t D σ H->wpAny (model X.prog X.w) X.A (exec st X.env) (SP X pins D) X.xe s
def PSs (X:Cx)(st:W8)(t:TS):Prop :=
 ∀ (pins:U1) (s:U7) (σ:St) (H:Hp) (D:Ends),Inv X pins σ H s->t D σ H->wpAny (model X.prog X.w) X.A (execs st X.env) (SP X pins D) X.xe s
theorem thn {α:Type}{t:Sem α}{Q Q':α->Shared->Prop}{M:Model}{A:W6}{E:U2}{s:U7}(h:wpAny M A t Q E s)(hQ:∀ a s,Q a s->Q' a s):wpAny M A t Q' E s:=q2c h hQ λ_ _ x=>x
section
variable {X:Cx}
theorem bin {a b:Expr}{ta tb:TE}(ha:PE X a ta)(hb:PE X b tb){pins:U1}{s:U7}{σ:St}{H:Hp}{R:V->V->Hp->Prop}(I:Inv X pins σ H s)(h:ta σ H λx H1=>tb σ H1 λy H2=>R x y H2)
  {α:Type}{Q:α->Shared->Prop}{f:Value->Value->Sem α}
  (hf:∀ v u s2 x y H2,Inv X pins σ H2 s2->RelV x v->RelV y u->R x y H2->wpAny (model X.prog X.w) X.A (f v u) Q X.xe s2) :
  wpAny (model X.prog X.w) X.A (eval a X.env) (λv s₁=>wpAny (model X.prog X.w) X.A (eval b X.env) (λu s₂=>wpAny (model X.prog X.w) X.A (f v u) Q X.xe s₂) X.xe s₁) X.xe s:=by
 refine thn (ha pins s σ H _ I h) λv s1 ⟨x,H1,I1,r1,q1⟩=>?_
 refine thn (hb pins s1 σ H1 _ I1 q1) λu s2 ⟨y,H2,I2,r2,q2⟩=>?_
 exact hf v u s2 x y H2 I2 r1 r2 q2
def tVar (i:Nat):TE:=λσ H Q=>∃ v,σ[i]?=some (some v)/\Q v H
def tC (v:V):TE:=λ_ H Q=>Q v H
theorem W0d {i:Nat}{x:Str}{pos:Pos}(hN:X.N[i]?=some x)(hv:Vis X.env.scope x)(hd:(x == ("__debug__":Str))=false:=by decide)(hcd:(x == ("__classdict__":Str))=false:=by decide):PE X (.Name x pos) (tVar i):=by
 intro pins s σ H Q I h
 obtain⟨v,e,h⟩:=h
 obtain⟨m,hn,hl⟩:=I.loc
 obtain⟨u,r,l⟩:=hl i x v hN e hv
 have fin:EP X pins σ Q u s:=⟨v,H,I,r,h⟩
 rcases l with ⟨hk,hm⟩ | ⟨hk,c,hc,hcell⟩
 ·exact wpAny_Name (wpAny_loadName_local I.ok.kind hk hn hm fin) hd
 ·rcases hk with hk | hk
  ·exact wpAny_Name (wpAny_loadName_cell I.ok.kind hk hc hcell fin) hd
  ·exact wpAny_Name (wpAny_loadName_free I.ok.kind hk hc hcell fin hcd) hd
theorem Z0b {i j pos}:PE X (.Constant (.int i) j pos) (tC (.int i)):=λ_ _ _ H _ I h=>wpAny_Constant_int ⟨.int i,H,I.tok _,⟨_,Z⟩,h⟩
theorem Z3g {b j pos}:PE X (.Constant (.bool b) j pos) (tC (.bl b)):=λ_ _ _ H _ I h=>Constant_bool ⟨.bl b,H,I,Z,h⟩
theorem Z6z {j pos}:PE X (.Constant .none j pos) (tC .non):=λ_ _ _ H _ I h=>Constant_none ⟨.non,H,I,Z,h⟩
theorem Z1l {x j pos}:PE X (.Constant (.str x) j pos) (tC (.str x)):=λ_ _ _ H _ I h=>Calls.Constant_str ⟨.str x,H,I.tok _,⟨_,Z⟩,h⟩
def Gl (X:Cx)(x:Str):Prop:=X.env.kindOf x=some .globalImplicit
theorem Y9g {E:U2}{pins:U1}{s:U7}{σ:St}{H:Hp}{x:Str}{u:W2}{pos:Pos}{Q:U2}(I:Inv X pins σ H s)(hg:Gl X x)(hm:X.mg x=some u)(h:Q u s)
  (hd:(x == ("__debug__":Str))=false:=by decide):wpAny (model X.prog X.w) X.A (eval (.Name x pos) X.env) Q E s :=
 Calls.Name_function_global I.ok.kind hg (Calls.loadGlobal_global (by rw[I.ok.glob];exact I.mod.glob.keeps I.bk) hm h) hd
theorem Z7g {E:U2}{pins:U1}{s:U7}{σ:St}{H:Hp}{x:Str}{u:W2}{pos:Pos}{Q:U2}(I:Inv X pins σ H s)(hg:Gl X x)(hm:X.mg x=none)(hv:bootBuiltins x=some u)(h:Q u s)
  (hn:x≠"__name__":=by decide) (hd:(x == ("__debug__":Str))=false:=by decide):wpAny (model X.prog X.w) X.A (eval (.Name x pos) X.env) Q E s:=by
 obtain⟨mb,h1,h2⟩:=I.mod.blt
 exact Calls.Name_function_global I.ok.kind hg (Calls.loadGlobal_builtin (by rw[I.ok.glob];exact I.mod.glob.keeps I.bk) hm (by rw[I.ok.blt];exact h1.keeps I.bk) ((h2 x hn).trans hv) h) hd
theorem Z3c {x:Str}{v:V}{u:W2}{pos:Pos}(hg:Gl X x)(hm:X.mg x=some u)(r:RelV v u)(hd:(x == ("__debug__":Str))=false:=by decide):PE X (.Name x pos) (tC v) :=
 λ_ _ _ H _ I h=>Y9g I hg hm ⟨v,H,I,r,h⟩ hd
theorem Z3l {x:Str}{v:V}{u:W2}{pos:Pos}(hg:Gl X x)(hm:X.mg x=none)(hv:bootBuiltins x=some u)(r:RelV v u)(hn:x≠"__name__":=by decide)(hd:(x == ("__debug__":Str))=false:=by decide):PE X (.Name x pos) (tC v) :=
 λ_ _ _ H _ I h=>Z7g I hg hm hv ⟨v,H,I,r,h⟩ hn hd
variable {a b:Expr}{ta tb:TE}{pos:Pos}
def PC (X:Cx)(op:CmpOp)(a b:Expr)(t:TE):Prop :=
 ∀ (pins:U1) (s:U7) (σ:St) (H:Hp) (Q:VK),Inv X pins σ H s->t σ H Q →
  wpAny (model X.prog X.w) X.A (eval a X.env) (λv s₁=>wpAny (model X.prog X.w) X.A (eval b X.env) (λu s₂=>wpAny (model X.prog X.w) X.A (compareOp op v u) (EP X pins σ Q) X.xe s₂) X.xe s₁) X.xe s
def tB (t:TE):TT:=λσ H Q=>t σ H λx H1=>∃ c,x=.bl c/\Q c H1
theorem X4n {op:CmpOp}{t:TE}(h:PC X op a b t)(h1:behindInMarks op b=false:=by first | exact nobehind _ (by decide) (by decide) | rfl):PT X (.Compare a [op] [b] pos) (tB t):=by
 intro pins s σ H Q I hw
 refine q8a (thn (h pins s σ H _ I hw) λv s1 h1=>thn h1 λu s2 h2=>thn h2 λc s3 ⟨x,H1,I1,r1,q1⟩=>?_) h1
 obtain⟨d,rfl,q⟩:=q1
 cases r1
 exact q2t ⟨H1,I1,q⟩
theorem Z1n {e:Expr}{t:TE}(h:PE X e t)(he:∀ whole,isTrue e X.env whole=(do let v ← whole;standAt e.pos;holding [v] (truthy v)):=by intro _;rfl):PT X e (tB t):=by
 intro pins s σ H Q I hw
 refine isTrue_plain (thn (h pins s σ H _ I hw) λv s1 ⟨x,H1,I1,r1,q1⟩=>?_) (he _)
 obtain⟨d,rfl,q⟩:=q1
 cases r1
 exact q2t ⟨H1,I1,q⟩
variable {tA tB':TT}{rest:List Expr}
def tAnd (t u:TT):TT:=λσ H Q=>t σ H λc H1=>if c=true then u σ H1 Q else Q false H1
def tOr (t u:TT):TT:=λσ H Q=>t σ H λc H1=>if c=true then Q true H1 else u σ H1 Q
def tNot (t:TT):TT:=λσ H Q=>t σ H λc H1=>Q (!c) H1
theorem Z6w (ha:PT X a tA):PW X (.BoolOp .And [a] pos) tA:=by
 intro wh pins s σ H Q I h
 refine isTrue_and (thn (ha pins s σ H Q I h) λc s1 e=>?_)
 cases c with
 | true=>exact isTrue_and_nil e
 | false=>exact e
theorem Z3x (ha:PT X a tA):PW X (.BoolOp .Or [a] pos) tA:=by
 intro wh pins s σ H Q I h
 refine isTrue_or (thn (ha pins s σ H Q I h) λc s1 e=>?_)
 cases c with
 | false=>exact isTrue_or_nil e
 | true=>exact e
theorem Y0m (ha:PT X a tA)(hb:PW X (.BoolOp .And (b::rest) pos) tB'):PW X (.BoolOp .And (a::b::rest) pos) (tAnd tA tB'):=by
 intro wh pins s σ H Q I h
 refine isTrue_and (thn (ha pins s σ H _ I h) λc s1 ⟨H1,I1,q1⟩=>?_)
 cases c with
 | true=>exact hb wh pins s1 σ H1 Q I1 q1
 | false=>exact⟨H1,I1,q1⟩
theorem Z3y (ha:PT X a tA)(hb:PW X (.BoolOp .Or (b::rest) pos) tB'):PW X (.BoolOp .Or (a::b::rest) pos) (tOr tA tB'):=by
 intro wh pins s σ H Q I h
 refine isTrue_or (thn (ha pins s σ H _ I h) λc s1 ⟨H1,I1,q1⟩=>?_)
 cases c with
 | true=>exact⟨H1,I1,q1⟩
 | false=>exact hb wh pins s1 σ H1 Q I1 q1
theorem Z1y (ha:PT X a tA):PT X (.UnaryOp .Not a pos) (tNot tA):=by
 intro pins s σ H Q I h
 exact isTrue_not (ha pins s σ H (λc H1=>Q (!c) H1) I h)
def tAndV (ta tb:TE):TE:=λσ H Q=>ta σ H λx H1=>∃ c,x=.bl c/\if c=true then tb σ H1 Q else Q (.bl false) H1
def tOrV (ta tb:TE):TE:=λσ H Q=>ta σ H λx H1=>∃ c,x=.bl c/\if c=true then Q (.bl true) H1 else tb σ H1 Q
def tNotV (ta:TE):TE:=λσ H Q=>ta σ H λx H1=>∃ c,x=.bl c/\Q (.bl (!c)) H1
theorem Z4l {op}{t:TE}(h:PE X a t):PE X (.BoolOp op [a] pos) t:=λpins s σ H Q I hw=>BoolOp_one (h pins s σ H Q I hw)
theorem Z5y (ha:PE X a ta)(hb:PE X (.BoolOp .And (b::rest) pos) tb):PE X (.BoolOp .And (a::b::rest) pos) (tAndV ta tb):=by
 intro pins s σ H Q I h
 refine BoolOp_and (thn (ha pins s σ H _ I h) λv s1 ⟨x,H1,I1,r1,q1⟩=>?_)
 obtain⟨c,rfl,q1⟩:=q1
 cases r1
 refine q2t ?_
 cases c with
 | true=>exact hb pins s1 σ H1 Q I1 q1
 | false=>exact⟨.bl false,H1,I1,rfl,q1⟩
theorem W0e (ha:PE X a ta)(hb:PE X (.BoolOp .Or (b::rest) pos) tb):PE X (.BoolOp .Or (a::b::rest) pos) (tOrV ta tb):=by
 intro pins s σ H Q I h
 refine BoolOp_or (thn (ha pins s σ H _ I h) λv s1 ⟨x,H1,I1,r1,q1⟩=>?_)
 obtain⟨c,rfl,q1⟩:=q1
 cases r1
 refine q2t ?_
 cases c with
 | false=>exact hb pins s1 σ H1 Q I1 q1
 | true=>exact⟨.bl true,H1,I1,rfl,q1⟩
theorem Y4b (ha:PE X a ta):PE X (.UnaryOp .Not a pos) (tNotV ta):=by
 intro pins s σ H Q I h
 refine UnaryOp_ (thn (ha pins s σ H _ I h) λv s1 ⟨x,H1,I1,r1,q1⟩=>?_)
 obtain⟨c,rfl,q1⟩:=q1
 cases r1
 exact not_of (q2t ⟨.bl (!c),H1,I1,Z,q1⟩)
def tIf (t:TT)(ta tb:TE):TE:=λσ H Q=>t σ H λc H1=>if c=true then ta σ H1 Q else tb σ H1 Q
theorem Z2j {c:Expr}(hc:PT X c tA)(ha:PE X a ta)(hb:PE X b tb):PE X (.IfExp c a b pos) (tIf tA ta tb):=by
 intro pins s σ H Q I h
 refine wpAny_IfExp (thn (hc pins s σ H _ I h) λd s1 ⟨H1,I1,q1⟩=>?_)
 cases d with
 | true=>exact ha pins s1 σ H1 Q I1 q1
 | false=>exact hb pins s1 σ H1 Q I1 q1
end
def SqL (K:U0)(H:Hp)(a:W9)(xs:List V):Prop :=
 Rd H a (.lst xs) ∨
  ∃ (o:Obj) (its:U9) (n:Nat),K.lookup a=some o/\o.cls=.type "list"/\o.dict=none/\o.data=.seq its n/\its.size<=sizeLine/\Vals xs its.toList
def SqT (K:U0)(H:Hp)(a:W9)(xs:List V):Prop :=
 Rd H a (.tup xs) ∨
  ∃ (o:Obj) (its:U9) (n:Nat),K.lookup a=some o/\o.cls=.type "tuple"/\o.data=.seq its n/\its.size<=sizeLine/\Vals xs its.toList
noncomputable def absV:Value->Option V
 | .none=>some .non
 | .bool b=>some (.bl b)
 | .int i _=>some (.int i)
 | .str x _=>some (.str x)
 | .bytes b _=>some (.byt b)
 | .float b _=>some (.flt b)
 | .ref a=>some (.ref a)
 | .type n=>some (.ty n)
 | _=>none
theorem RelV.abs {x:V}{u:W2}(r:RelV x u):absV u=some x:=by
 cases x with
 | non=>cases r;rfl
 | bl _=>cases r;rfl
 | int _=>obtain⟨t,rfl⟩:=r;rfl
 | str _=>obtain⟨t,rfl⟩:=r;rfl
 | byt _=>obtain⟨t,rfl⟩:=r;rfl
 | flt _=>obtain⟨t,rfl⟩:=r;rfl
 | ref _=>cases r;rfl
 | ty _=>cases r;rfl
theorem RelV.inj {x y:V}{u:W2}(r:RelV x u)(q:RelV y u):x=y:=Option.some.inj (r.abs.symm.trans q.abs)
theorem Vals.inj {xs ys:List V}{us:U5}(h:Vals xs us)(h':Vals ys us):xs=ys:=by
 induction h generalizing ys with
 | nil=>cases h';rfl
 | cons r t ih=>cases h' with
  | cons r' t'=>rw[r.inj r',ih t']
section
variable {X:Cx}{pins:U1}{σ:St}{H:Hp}{s:U7}{a:W9}{xs ys:List V}
theorem SqL.of {K:U0}(h:H a=some (.lst xs)):SqL K H a xs:=.inl (.inl h)
theorem SqT.of {K:U0}(h:H a=some (.tup xs)):SqT K H a xs:=.inl (.inl h)
theorem Inv.list (I:Inv X pins σ H s)(h:SqL X.K H a xs):∃ its:List Value,Vals xs its/\PlainL s.heap a its.toArray/\xs.length<=sizeLine:=by
 rcases h with h | ⟨o,its,n,hk,hc,hd,hs,hz,r⟩
 ·obtain⟨z,its,n,r,e⟩:=h.ok I.hok
  exact⟨its,r,⟨_,n,e,Z,Z,Z⟩,z⟩
 ·refine⟨its.toList,r,⟨o,n,I.kIn a o hk,hc,hd,by simpa using hs⟩,?_⟩
  have e:=r.length
  simp only[q1s] at e
  omega
theorem Inv.tuple (I:Inv X pins σ H s)(h:SqT X.K H a xs):∃ its:List Value,Vals xs its/\IsTup s.heap a its.toArray/\xs.length<=sizeLine:=by
 rcases h with h | ⟨o,its,n,hk,hc,hs,hz,r⟩
 ·obtain⟨z,its,r,p⟩:=h.ok I.hok
  exact⟨its,r,p,z⟩
 ·refine⟨its.toList,r,⟨o,I.kIn a o hk,hc,n,by simpa using hs⟩,?_⟩
  have e:=r.length
  simp only[q1s] at e
  omega
theorem Inv.list_inj (I:Inv X pins σ H s)(h:SqL X.K H a xs)(h':SqL X.K H a ys):xs=ys:=by
 obtain⟨its,r,⟨o,n,e,_,_,d⟩,_⟩:=I.list h
 obtain⟨its',r',⟨o',n',e',_,_,d'⟩,_⟩:=I.list h'
 rw[e] at e';cases e'
 rw[d] at d'
 injection d' with d1 _
 have:its=its':=by simpa using congrArg Array.toList d1
 subst this
 exact r.inj r'
theorem Inv.tuple_inj (I:Inv X pins σ H s)(h:SqT X.K H a xs)(h':SqT X.K H a ys):xs=ys:=by
 obtain⟨its,r,⟨o,e,_,n,d⟩,_⟩:=I.tuple h
 obtain⟨its',r',⟨o',e',_,n',d'⟩,_⟩:=I.tuple h'
 rw[e] at e';cases e'
 rw[d] at d'
 injection d' with d1 _
 have:its=its':=by simpa using congrArg Array.toList d1
 subst this
 exact r.inj r'
end
noncomputable abbrev Cx.wish (X:Cx)(E:U2):Cx:={ X with xe:=E }
noncomputable abbrev Cx.nox (X:Cx):Cx:=X.wish λ_ _=>False
theorem Cx.Ok.wish {X:Cx}(ok:X.Ok)(E:U2):(X.wish E).Ok :=
 ⟨ok.mod,ok.kind,ok.glob,ok.blt,ok.above,ok.inj,ok.has,ok.cab,ok.hd,ok.frames,ok.stk,ok.exf,ok.bs,ok.bsz,ok.noex,ok.exfs,ok.funs,ok.frf⟩
theorem Cx.Ok.unwish {X:Cx}{E:U2}(ok:(X.wish E).Ok):X.Ok :=
 ⟨ok.mod,ok.kind,ok.glob,ok.blt,ok.above,ok.inj,ok.has,ok.cab,ok.hd,ok.frames,ok.stk,ok.exf,ok.bs,ok.bsz,ok.noex,ok.exfs,ok.funs,ok.frf⟩
section
variable {X:Cx}{pins:U1}{σ:St}{H:Hp}{s:U7}{E:U2}
theorem Inv.wish (I:Inv X pins σ H s)(E:U2):Inv (X.wish E) pins σ H s:=⟨I.ok.wish E,I.os,I.bare,I.base,I.loc,I.cell,I.free,I.freeC,I.pin,I.hok,I.len⟩
theorem Inv.unwish (I:Inv (X.wish E) pins σ H s):Inv X pins σ H s:=⟨I.ok.unwish,I.os,I.bare,I.base,I.loc,I.cell,I.free,I.freeC,I.pin,I.hok,I.len⟩
theorem SP.unwish {D:Ends}{f:Flow}{s':U7}(h:SP (X.wish E) pins D f s'):SP X pins D f s':=by
 cases f with
 | next=>obtain⟨σ',H',I,q⟩:=h;exact⟨σ',H',I.unwish,q⟩
 | brk=>obtain⟨σ',H',I,q⟩:=h;exact⟨σ',H',I.unwish,q⟩
 | cont=>obtain⟨σ',H',I,q⟩:=h;exact⟨σ',H',I.unwish,q⟩
 | ret u=>obtain⟨v,σ',H',I,r,q⟩:=h;exact⟨v,σ',H',I.unwish,r,q⟩
theorem PSs.nox {st:W8}{t:TS}(h:PSs X.nox st t):PSs X st t:=λpins s σ H D I hw =>
 q2c (h pins s σ H D (I.wish _) hw) (λ_ _ q=>q.unwish) λ_ _ z=>False.elim z
end
section
variable {X:Cx}{st:Stmt}{rest:W8}{t u:TS}{e:Expr}{te:TE}{pos:Pos}
def tNext:TS:=λD σ H=>D.nx σ H
def tSeq (t u:TS):TS:=λD σ H=>t { D with nx:=u D } σ H
theorem Z0o:PSs X [] tNext:=λ_ _ σ H _ I h=>q6q ⟨σ,H,I,h⟩
theorem Z0e (h1:PS X st t)(h2:PSs X rest u):PSs X (st::rest) (tSeq t u):=by
 intro pins s σ H D I h
 refine q7q (thn (h1 pins s σ H { D with nx:=u D } I h) λf s1 q=>?_)
 cases f with
 | next =>
  obtain⟨σ',H',I',q⟩:=q
  exact h2 pins s1 σ' H' D I' q
 | ret v=>exact q
 | brk=>exact q
 | cont=>exact q
theorem Z0f (h1:PS X st t):PSs X [st] t:=by
 intro pins s σ H D I h
 refine q7q (thn (h1 pins s σ H D I h) λf s1 q=>?_)
 cases f with
 | next=>exact q6q q
 | ret v=>exact q
 | brk=>exact q
 | cont=>exact q
theorem Inv.quiet {pins:U1}{σ:St}{H:Hp}{s:U7}(I:Inv X pins σ H s):interactive X.env=false:=by simp[interactive,I.ok.kind]
def tDrop (te:TE):TS:=λD σ H=>te σ H λ_ H1=>D.nx σ H1
theorem Z3s (he:PE X e te)(hs:swapsWith e none pos.line X.env=pure false:=by rfl):PS X (.Expr e pos) (tDrop te):=by
 intro pins s σ H D I h
 exact wpAny_Expr_any (thn (he pins s σ H _ I h) λv s1 ⟨x,H1,I1,r1,q1⟩=>⟨σ,H1,I1,q1⟩) I.quiet hs
def tRet (te:TE):TS:=λD σ H=>te σ H D.rt
theorem Z0k (he:PE X e te):PS X (.Return (some e) pos) (tRet te):=by
 intro pins s σ H D I h
 exact wpAny_Return_some (thn (he pins s σ H _ I h) λv s1 ⟨x,H1,I1,r1,q1⟩=>⟨x,σ,H1,I1,r1,q1⟩)
def tIfS (c:TT)(t u:TS):TS:=λD σ H=>c σ H λb H1=>if b=true then t D σ H1 else u D σ H1
theorem Z0w {c:Expr}{a b:W8}{tc:TT}(hc:PT X c tc)(ha:PSs X a t)(hb:PSs X b u):PS X (.If c a b pos) (tIfS tc t u):=by
 intro pins s σ H D I h
 refine wpAny_If (thn (hc pins s σ H _ I h) λd s1 ⟨H1,I1,q1⟩=>?_)
 cases d with
 | true=>exact ha pins s1 σ H1 D I1 q1
 | false=>exact hb pins s1 σ H1 D I1 q1
def tNever:TS:=λ_ _ _=>False
theorem Z2w:PS X st tNever:=λ_ _ _ _ _ _ h=>h.elim
end
abbrev TG:=V->St->Hp->(St->Hp->Prop)->Prop
abbrev TGs:=List V->St->Hp->(St->Hp->Prop)->Prop
def PG (X:Cx)(target:Expr)(t:TG):Prop :=
 ∀ (pins:U1) (s:U7) (σ:St) (H:Hp) (v:V) (u:W2) (Q:St->Hp->Prop),Inv X pins σ H s->RelV v u->t v σ H Q →
  wpAny (model X.prog X.w) X.A (assign target X.env u) (λ_ s'=>∃ σ' H',Inv X pins σ' H' s'/\Q σ' H') X.xe s
def PGs (X:Cx)(ts:List Expr)(t:TGs):Prop :=
 ∀ (pins:U1) (s:U7) (σ:St) (H:Hp) (vs:List V) (us:U5) (Q:St->Hp->Prop),Inv X pins σ H s->Vals vs us->t vs σ H Q →
  wpAny (model X.prog X.w) X.A (assignInOrder ((assignEach ts X.env).map (·.2)) us) (λ_ s'=>∃ σ' H',Inv X pins σ' H' s'/\Q σ' H') X.xe s
abbrev TSet:=V->V->V->Hp->(Hp->Prop)->Prop
def PSet (X:Cx)(t:TSet):Prop :=
 ∀ (pins:U1) (s:U7) (σ:St) (H:Hp) (o i v:V) (ov iv u:W2) (Q:Hp->Prop),Inv X pins σ H s->RelV o ov->RelV i iv->RelV v u->t o i v H Q →
  wpAny (model X.prog X.w) X.A (setItem ov iv u) (λ_ s'=>∃ H',Inv X pins σ H' s'/\Q H') X.xe s
section
variable {X:Cx}{pos:Pos}
def gName (i:Nat):TG:=λv σ H Q=>Q (σ.set i (some v)) H
theorem Z0p {i:Nat}{x:Str}(hN:X.N.Nodup)(hi:X.N[i]?=some x)(hx:Loc X.env.scope x)(hf:X.fn x=true∨X.env.scope.names.lookup x=some .local:=by first | exact .inl rfl | exact .inr rfl | assumption):PG X (.Name x pos) (gName i):=by
 intro pins s σ H v u Q I r h
 exact q7f (Y3h I hN hi hx r (λs' I'=>⟨_,H,I',h⟩) hf)
def gNil:TGs:=λvs σ H Q=>vs=[]/\Q σ H
def gCons (t:TG)(u:TGs):TGs:=λvs σ H Q=>∃ v r,vs=v::r/\t v σ H λσ' H'=>u r σ' H' Q
theorem Z4c:PGs X [] gNil:=by
 intro pins s σ H vs us Q I r h
 obtain⟨e,h⟩:=h
 subst e
 cases r
 exact assignInOrder_nil ⟨σ,H,I,h⟩
theorem Z1f {e:Expr}{es:List Expr}{t:TG}{u:TGs}(h1:PG X e t)(h2:PGs X es u)
  (hs:(assignEach (e::es) X.env).map (·.2)=assign e X.env::(assignEach es X.env).map (·.2):=by rfl):PGs X (e::es) (gCons t u):=by
 intro pins s σ H vs us Q I r h
 obtain⟨v,vr,e1,h⟩:=h
 subst e1
 cases r with
 | cons r rr =>
  rw[hs]
  refine assignInOrder_cons (thn (h1 pins s σ H _ _ _ I r h) λ_ s1 ⟨σ1,H1,I1,q1⟩=>?_)
  exact h2 pins s1 σ1 H1 _ _ Q I1 rr q1
def gTup (K:U0)(n:Nat)(t:TGs):TG:=λv σ H Q=>∃ a xs,v=.ref a/\SqT K H a xs/\xs.length=n/\t xs σ H Q
theorem Z5w {es:List Expr}{k:Nat}{t:TGs}{n:Nat}(hc:X.calm=true)(h:PGs X es t)
  (hn:(assignEach es X.env).length=n:=by rfl) (hst:(assignEach es X.env).findIdx? (·.1)=none:=by rfl):PG X (.Tuple es k pos) (gTup X.K n t):=by
 intro pins s σ H v u Q I r hw
 obtain⟨a,xs,e1,hq,hl,hw⟩:=hw
 subst e1
 cases r
 obtain⟨its,rv,ht,hz⟩:=I.tuple hq
 refine assign_Tuple_tuple (I.ok.hd hc) ht (by simp[hn,<-hl,rv.length]) hst λh' hx=>?_
 have I1:Inv X pins σ H { s with heap:=h' }:=I.kept (t':=s.toks) λb o e=>hx b o (q0x (q0j e)) e
 exact h pins _ σ H xs _ Q I1 (by simpa using rv) hw
def gSub (to ti:TE)(t:TSet):TG:=λv σ H Q=>to σ H λo H1=>ti σ H1 λi H2=>t o i v H2 λH3=>Q σ H3
theorem Y0o {o i:Expr}{to ti:TE}{t:TSet}(ho:PE X o to)(hi:PE X i ti)(hs:PSet X t)
  (ha:∀ v,assign (.Subscript o i pos) X.env v=(do
   let ov ← holding [v] (eval o X.env)
   let iv ← holding [v,ov] (eval i X.env)
   standAt pos
   holding [v,ov,iv] (setItem ov iv v)
   release [v,ov,iv] []):=by intro _;rfl):PG X (.Subscript o i pos) (gSub to ti t):=by
 intro pins s σ H v u Q I r h
 rw[ha]
 refine q0e (q3w (thn (ho pins s σ H _ I h) λov s1 ⟨x,H1,I1,r1,q1⟩=>?_))
 refine q0e (q3w (thn (hi pins s1 σ H1 _ I1 q1) λiv s2 ⟨y,H2,I2,r2,q2⟩=>?_))
 refine q0e (q5j (q0e (q3w (thn (hs pins s2 σ H2 x y v ov iv u _ I2 r1 r2 r q2) λ_ s3 ⟨H3,I3,q3⟩=>?_))))
 exact wpAny_release ⟨σ,H3,I3,q3⟩
def tAsg (te:TE)(g:TG):TS:=λD σ H=>te σ H λx H1=>g x σ H1 D.nx
theorem Z5u {tg e:Expr}{te:TE}{g:TG}(he:PE X e te)(hg:PG X tg g)(hs:swapsWithSole [tg] e pos.line X.env=pure false:=by rfl)(hw:swappedStores [tg] e X.env=pure none:=by rfl)
  (h1:(assignEach [tg] X.env).map (·.2)=[assign tg X.env]:=by rfl):PS X (.Assign [tg] e pos) (tAsg te g):=by
 intro pins s σ H D I h
 refine wpAny_Assign_stores (thn (he pins s σ H _ I h) λv s1 ⟨x,H1,I1,r1,q1⟩=>?_) hs hw
 rw[h1]
 exact thn (hg pins s1 σ H1 x v _ I1 r1 q1) λ_ s2 q=>q
theorem Z0q {i:Nat}{x:Str}{e:Expr}{te:TE}{pos':Pos}(hN:X.N.Nodup)(hi:X.N[i]?=some x)(hx:Loc X.env.scope x)(he:PE X e te)(hs:swapsWith e (some (.Name x pos')) pos.line X.env=pure false:=by rfl)(hf:X.fn x=true∨X.env.scope.names.lookup x=some .local:=by first | exact .inl rfl | exact .inr rfl | assumption) :
  PS X (.Assign [.Name x pos'] e pos) (tAsg te (gName i)):=by
 intro pins s σ H D I h
 refine wpAny_Assign_Name (thn (he pins s σ H _ I h) λv s1 ⟨y,H1,I1,r1,q1⟩=>?_) hs
 exact Y3h I1 hN hi hx r1 (λs2 I2=>⟨_,H1,I2,q1⟩) hf
end
section
variable {X:Cx}{pos:Pos}
def tWhile (c:TT)(tb:TS):TS:=λD σ H=>∃ W:Nat->St->Hp->Prop,(∃ m,W m σ H)/\∀ m σ H,W m σ H →
 c σ H λb H1=>if b=true then ∃ N:St->Hp->Prop,(∀ σ' H',N σ' H'->∃ m',m'<m/\W m' σ' H')/\tb { D with nx:=N,ct:=N,bk:=D.nx } σ H1 else D.nx σ H1
theorem Z6d {c:Expr}{body:W8}{tc:TT}{tb:TS}(hp:PassesOwn (model X.prog X.w) X.A X.env X.xe)(hc:PT X c tc)(hb:PSs X body tb):PS X (.While c body [] pos) (tWhile tc tb):=by
 intro pins s σ H D I h
 obtain⟨W,⟨m0,w0⟩,turn⟩:=h
 refine wpAny_While (codeAny_whileLoop (λn s'=>∃ σ' H',Inv X pins σ' H' s'/\W n σ' H') ?_ m0 ⟨σ,H,I,w0⟩)
 rintro n s1 ⟨σ1,H1,I1,w1⟩
 refine q4d hp (thn (hc pins s1 σ1 H1 _ I1 (turn n σ1 H1 w1)) λb s2 ⟨H2,I2,q2⟩=>?_)
 cases b with
 | true =>
  obtain⟨N,hN,q2⟩:=q2
  rw[if_pos rfl]
  refine q4d hp (thn (hb pins s2 σ1 H2 _ I2 q2) λf s3 q3=>?_)
  cases f with
  | next =>
   obtain⟨σ3,H3,I3,n3⟩:=q3
   obtain⟨m',hm,w3⟩:=hN σ3 H3 n3
   exact⟨m',hm,σ3,H3,I3,w3⟩
  | cont =>
   obtain⟨σ3,H3,I3,n3⟩:=q3
   obtain⟨m',hm,w3⟩:=hN σ3 H3 n3
   exact⟨m',hm,σ3,H3,I3,w3⟩
  | brk=>exact q3
  | ret v=>exact q3
 | false =>
  rw[if_neg q0p]
  exact q6q ⟨σ1,H2,I2,q2⟩
end
structure It where
 go:Nat->Hp->Prop
 yld:Nat->Hp->V->Hp->Prop
 stop:Nat->Hp->Prop
def FpOk (X:Cx)(pins:U1)(H:Hp)(b:W9):Prop :=
 H b=none/\b≠X.env.locals/\b ∉ X.fs/\(b∈X.ex∨X.s₀.heap.objs.size<=b)/\(∀ x c,X.env.cells.lookup x=some c->c≠b)/\∀ p∈X.pn++pins,p.1≠b
theorem Inv.fpOk {X:Cx}{pins:U1}{σ:St}{H H':Hp}{s:U7}{b:W9}(I:Inv X pins σ H s)(hb:s.heap.objs.size<=b)(hn:H' b=none):FpOk X pins H' b:=by
 refine⟨hn,q3p (q0k I.lt hb),I.nofs hb,.inr (q1i I.sz hb),λx c e z=>?_,λp hp z=>?_⟩
 ·obtain⟨v,q⟩:=I.cell x c e
  exact absurd (q0k q.lt (by rw[z];exact hb)) (q4x _)
 ·exact absurd (q0k (q0j (I.pin p hp).1) (by rw[z];exact hb)) (q4x _)
structure Turn (P:U8) (w:W1) (K:U0) (tg:Expr) (J:It) (fp:U3) (it:W9) (tn:Nat->Heap->Prop):Prop where
 mem:it∈fp
 obj:∀ i h,tn i h->∀ b∈fp,∃ o,h.get? b=some o/\∀ v,o.data≠.cell v
 keep:∀ i h h',tn i h->(∀ b∈fp,∀ o,h.get? b=some o->h'.get? b=some o)->tn i h'
 item:∀ (X:Cx),X.prog=P->X.w=w->X.K=K->X.calm=true->∀ (i:Nat) (pins:U1) (s:U7) (σ:St) (H:Hp) (E:U2),Inv X pins σ H s->(∀ b∈fp,FpOk X pins H b)->tn i s.heap->J.go i H →
  wpAny (model P w) X.A (pyNext (.ref it)) (λr s1=>∃ u,r=some u ∧
   wpAny (model P w) X.A (letOwnedTupleGo tg (.ref it) u) (λ_ s2=>∃ x H',Inv X pins σ H' s2/\RelV x u/\J.yld i H x H'/\tn (i+1) s2.heap/\∀ b∈fp,H' b=none) E s1) E s
 done:∀ (X:Cx),X.prog=P->X.w=w->X.K=K->X.calm=true->∀ (i:Nat) (pins:U1) (s:U7) (σ:St) (H:Hp) (E:U2),Inv X pins σ H s->(∀ b∈fp,FpOk X pins H b)->tn i s.heap->J.stop i H →
  wpAny (model P w) X.A (pyNext (.ref it)) (λr s1=>r=none/\Inv X pins σ H s1) E s
 self:∀ (A:W6) (i:Nat) (s:U7) (Q:U2) (E:U2),tn i s.heap->Q (.ref it) s->wpAny (model P w) A (pyIter (.ref it)) Q E s
abbrev TI:=St->Hp->(It->Hp->Prop)->Prop
def PIE (X:Cx)(pins:U1)(σ:St)(tg:Expr)(R:It->Hp->Prop)(itv:W2)(s2:U7):Prop :=
 ∃ (it:W9) (fp:U3) (tn:Nat->Heap->Prop) (J:It) (H':Hp),itv=.ref it/\Inv X pins σ H' s2/\Turn X.prog X.w X.K tg J fp it tn/\tn 0 s2.heap/\(∀ b∈fp,FpOk X pins H' b)/\R J H'
def PI (X:Cx)(tg iter:Expr)(wi:TI):Prop :=
 ∀ (pins:U1) (s:U7) (σ:St) (H:Hp) (R:It->Hp->Prop),Inv X pins σ H s->wi σ H R →
  wpAny (model X.prog X.w) X.A (eval iter X.env) (λv s1=>wpAny (model X.prog X.w) X.A (pyIter v) (PIE X pins σ tg R) X.xe s1) X.xe s
theorem X8n {M:Model}{A:W6}{E:U2}{s:U7}{tg:Expr}{it:W9}{u:W2}{o:Obj}{n:String}{vs:U9}{Q:Unit->Shared->Prop}(ho:s.heap.get? it=some o)(hc:o.cls=.type n)(hd:o.data=.fields vs)
  (hn:["enumerate","zip","dict_itemiterator","dict_reverseitemiterator","odict_iterator","itertools.zip_longest","itertools.pairwise"].contains n=false) (hQ:Q () s):wpAny M A (letOwnedTupleGo tg (.ref it) u) Q E s:=by
 unfold letOwnedTupleGo
 cases tg<;>first
  | exact q0s hQ
  | (cases u<;>first
    | exact q0s hQ
    | (refine q0e (q8y ho ?_);rw[hc,hd];show wpAny M A (if (["enumerate","zip","dict_itemiterator","dict_reverseitemiterator","odict_iterator","itertools.zip_longest","itertools.pairwise"].contains n && vs[0]? == some (rawInt _))=true then _ else _) Q E s;rw[if_neg (by intro h;rw[hn,Bool.false_and] at h;cases h)];exact q0s hQ))
def Itl (K:U0)(a:W9):It :=
 ⟨λi H=>∃ xs x,SqL K H a xs/\xs[i]?=some x,λi H x H'=>H'=H/\∀ xs,SqL K H a xs->xs[i]?=some x,λi H=>∃ xs,SqL K H a xs/\xs.length<=i⟩
def Itt (K:U0)(a:W9):It :=
 ⟨λi H=>∃ xs x,SqT K H a xs/\xs[i]?=some x,λi H x H'=>H'=H/\∀ xs,SqT K H a xs->xs[i]?=some x,λi H=>∃ xs,SqT K H a xs/\xs.length<=i⟩
def Itr (lo:Int)(n:Nat):It:=⟨λi _=>i<n,λi H x H'=>H'=H/\x=.int (lo+i),λi _=>n<=i⟩
theorem Y6l {P:U8}{w:W1}{K:U0}{tg:Expr}(a it:W9):Turn P w K tg (Itl K a) [it] it (λi h=>h.IsListIter it a i) where
 mem:=by simp
 obj:=λi h st b hb=>by
  have e:b=it:=by simpa using hb
  subst e
  obtain⟨o,e,c,d⟩:=st
  exact⟨o,e,λv z=>by rw[d] at z;cases z⟩
 keep:=λi h h' st k=>st.at λo e=>k it (by simp) o e
 item:=by
  intro X hP hw hK hc i pins s σ H E I hf st hg
  subst hP hw hK
  obtain⟨xs,x,hq,hx⟩:=hg
  obtain⟨its,rv,p,hz⟩:=I.list hq
  obtain⟨u,hu,ru⟩:=rv.get hx
  obtain⟨f0,f1,f2,f3,f4,f5⟩:=hf it (by simp)
  refine wpAny_pyNext_list_item st p.isList (x:=u) (by simpa using hu) λh' st' sb=>?_
  have I1:Inv X pins σ H { s with heap:=h' }:=I.turned (t':=s.toks) (λb o hb e=>(sb.2 b hb).trans e) f0 f1 f3 f4 f5
  obtain⟨o,e,c,d⟩:=id st'
  exact⟨u,Z,X8n (s:={ s with heap:=h' }) e c d (by decide) ⟨x,H,I1,ru,⟨Z,λys hy=>by rw[I.list_inj hy hq];exact hx⟩,st',λb hb=>(hf b hb).1⟩⟩
 done:=by
  intro X hP hw hK hc i pins s σ H E I hf st hg
  subst hP hw hK
  obtain⟨xs,hq,hx⟩:=hg
  obtain⟨its,rv,p,hz⟩:=I.list hq
  obtain⟨f0,f1,f2,f3,f4,f5⟩:=hf it (by simp)
  have hl:=rv.length
  exact wpAny_pyNext_list_end (I.ok.hd hc) st p.isList (by simp;omega) λh' eb=>⟨Z,I.turned (t':=s.toks) (λb o hb e=>eb b o hb e) f0 f1 f3 f4 f5⟩
 self:=λ_ _ _ _ _ st h=>wpAny_pyIter_listiter st h
theorem Y5k {P:U8}{w:W1}{K:U0}{tg:Expr}(a it:W9):Turn P w K tg (Itt K a) [it] it (λi h=>h.IsTupleIter it a i) where
 mem:=by simp
 obj:=λi h st b hb=>by
  have e:b=it:=by simpa using hb
  subst e
  obtain⟨o,e,c,d⟩:=st
  exact⟨o,e,λv z=>by rw[d] at z;cases z⟩
 keep:=λi h h' st k=>st.at λo e=>k it (by simp) o e
 item:=by
  intro X hP hw hK hc i pins s σ H E I hf st hg
  subst hP hw hK
  obtain⟨xs,x,hq,hx⟩:=hg
  obtain⟨its,rv,p,hz⟩:=I.tuple hq
  obtain⟨u,hu,ru⟩:=rv.get hx
  obtain⟨f0,f1,f2,f3,f4,f5⟩:=hf it (by simp)
  refine wpAny_pyNext_tuple_item st (show s.heap.IsTuple a its.toArray from p) (x:=u) (by simpa using hu) λh' st' sb=>?_
  have I1:Inv X pins σ H { s with heap:=h' }:=I.turned (t':=s.toks) (λb o hb e=>(sb.2 b hb).trans e) f0 f1 f3 f4 f5
  obtain⟨o,e,c,d⟩:=id st'
  exact⟨u,Z,X8n (s:={ s with heap:=h' }) e c d (by decide) ⟨x,H,I1,ru,⟨Z,λys hy=>by rw[I.tuple_inj hy hq];exact hx⟩,st',λb hb=>(hf b hb).1⟩⟩
 done:=by
  intro X hP hw hK hc i pins s σ H E I hf st hg
  subst hP hw hK
  obtain⟨xs,hq,hx⟩:=hg
  obtain⟨its,rv,p,hz⟩:=I.tuple hq
  obtain⟨f0,f1,f2,f3,f4,f5⟩:=hf it (by simp)
  have hl:=rv.length
  exact wpAny_pyNext_tuple_end (I.ok.hd hc) st (show s.heap.IsTuple a its.toArray from p) (by simp;omega) λh' eb=>⟨Z,I.turned (t':=s.toks) (λb o hb e=>eb b o hb e) f0 f1 f3 f4 f5⟩
 self:=λ_ _ _ _ _ st h=>wpAny_pyIter_tupleiter st h
theorem Y5l {P:U8}{w:W1}{K:U0}{tg:Expr}(it:W9)(lo:Int)(n:Nat):Turn P w K tg (Itr lo n) [it] it (λi h=>IsRangeIter h it (lo+(i:Nat)*1) ((n:Int)-(i:Nat)) 1) where
 mem:=by simp
 obj:=λi h st b hb=>by
  have e:b=it:=by simpa using hb
  subst e
  exact⟨_,st,λv z=>by
   have z':Data.fields _=Data.cell v:=z
   cases z'⟩
 keep:=λi h h' st k=>k it (by simp) _ st
 item:=by
  intro X hP hw hK hc i pins s σ H E I hf st hg
  subst hP hw hK
  obtain⟨f0,f1,f2,f3,f4,f5⟩:=hf it (by simp)
  have W:=Walks.range (prog:=X.prog) (w:=X.w) (I.ok.hd hc) it lo 1 n
  refine W.item i s _ _ hg st λv h' tk hv st' kk=>?_
  obtain⟨t,rfl⟩:=hv
  have I1:Inv X pins σ H { s with heap:=h',toks:=tk }:=I.turned (λb o hb e=>kk b o (by simpa using hb) e) f0 f1 f3 f4 f5
  refine⟨_,Z,X8n (s:={ s with heap:=h',toks:=tk }) (n:="range_iterator") st' rfl rfl (by decide) ⟨.int (lo+i),H,I1,⟨t,?_⟩,⟨Z,Z⟩,st',λb hb=>(hf b hb).1⟩⟩
  rw[Int.mul_one]
 done:=by
  intro X hP hw hK hc i pins s σ H E I hf st hg
  subst hP hw hK
  obtain⟨f0,f1,f2,f3,f4,f5⟩:=hf it (by simp)
  exact wpAny_pyNext_range_end (I.ok.hd hc) st (by have:n<=i:=hg;omega) λh' eb=>⟨Z,I.turned (t':=s.toks) (λb o hb e=>eb b o hb e) f0 f1 f3 f4 f5⟩
 self:=λ_ _ _ _ _ st h=>wpAny_pyIter_rangeiter st h
section
variable {X:Cx}{tg:Expr}
def iList (K:U0)(tl:TE):TI:=λσ H R=>tl σ H λx H1=>∃ a,x=.ref a/\(∃ xs,SqL K H1 a xs)/\R (Itl K a) H1
def iTup (K:U0)(tl:TE):TI:=λσ H R=>tl σ H λx H1=>∃ a,x=.ref a/\(∃ xs,SqT K H1 a xs)/\R (Itt K a) H1
theorem Z1e {l:Expr}{tl:TE}(hl:PE X l tl):PI X tg l (iList X.K tl):=by
 intro pins s σ H R I h
 refine thn (hl pins s σ H _ I h) λv s1 ⟨x,H1,I1,r1,q1⟩=>?_
 obtain⟨a,e,⟨xs,hq⟩,q⟩:=q1
 subst e
 cases r1
 obtain⟨its,rv,p,hz⟩:=I1.list hq
 refine q5z p.isList ?_
 refine⟨s1.heap.objs.size,[s1.heap.objs.size],_,_,H1,Z,I1.kept (t':=s1.toks) λb o e=>q0f _ e,Y6l a _,⟨_,q0q _ rfl,Z,Z⟩,λb hb=>?_,q⟩
 have e:b=s1.heap.objs.size:=by simpa using hb
 subst e
 exact I1.fpOk (q0g _) (I1.hok.fresh (q0g _))
theorem Y3z {l:Expr}{tl:TE}(hl:PE X l tl):PI X tg l (iTup X.K tl):=by
 intro pins s σ H R I h
 refine thn (hl pins s σ H _ I h) λv s1 ⟨x,H1,I1,r1,q1⟩=>?_
 obtain⟨a,e,⟨xs,hq⟩,q⟩:=q1
 subst e
 cases r1
 obtain⟨its,rv,p,hz⟩:=I1.tuple hq
 refine q5k (show s1.heap.IsTuple a its.toArray from p) ?_
 refine⟨s1.heap.objs.size,[s1.heap.objs.size],_,_,H1,Z,I1.kept (t':=s1.toks) λb o e=>q0f _ e,Y5k a _,⟨_,q0q _ rfl,Z,Z⟩,λb hb=>?_,q⟩
 have e:b=s1.heap.objs.size:=by simpa using hb
 subst e
 exact I1.fpOk (q0g _) (I1.hok.fresh (q0g _))
theorem X1q {pins:U1}{σ:St}{H:Hp}{s:U7}{R:It->Hp->Prop}{E:U2}{lo hi:Int}{t u v:Tok}{tk:Nat}(I:Inv X pins σ H s)(h1:-(2^62)<=lo)(h2:lo<2^62)(h3:-(2^62)<=hi)(h4:hi<2^62)
  (q:R (Itr lo (hi-lo).toNat) H):wpAny (model X.prog X.w) X.A (pyIter (.ref s.heap.objs.size)) (PIE X pins σ tg R) E { s with heap:=s.heap.push { cls:=.type "range",data:=.fields #[.int lo t,.int hi u,.int 1 v] },toks:=tk }:=by
 refine wpAny_pyIter_range (IsRange.new ..) (small_one h1 h2 h3 h4) ?_
 have I1:Inv X pins σ H { s with heap:=s.heap.push { cls:=.type "range",data:=.fields #[.int lo t,.int hi u,.int 1 v] },toks:=tk }:=I.kept λb o e=>q0f _ e
 refine⟨(s.heap.push { cls:=.type "range",data:=.fields #[.int lo t,.int hi u,.int 1 v] }).objs.size,[(s.heap.push { cls:=.type "range",data:=.fields #[.int lo t,.int hi u,.int 1 v] }).objs.size],_,_,H,Z,
  I1.kept (t':=tk) λb o e=>q0f _ e,Y5l _ lo (hi-lo).toNat,?_,λb hb=>?_,q⟩
 ·have e1:lo+((0:Nat):Int)*1=lo:=by simp
  have e2:(((hi-lo).toNat:Nat):Int)-((0:Nat):Int)=Builtin.Range.rangeSize lo hi 1:=by rw[rangeSize_one];split<;>omega
  show IsRangeIter _ _ (lo+((0:Nat):Int)*1) ((((hi-lo).toNat:Nat):Int)-((0:Nat):Int)) 1
  rw[e1,e2]
  exact q0q _ rfl
 ·have e:b=(s.heap.push { cls:=.type "range",data:=.fields #[.int lo t,.int hi u,.int 1 v] }).objs.size:=by simpa using hb
  subst e
  exact I1.fpOk (q0g _) (I1.hok.fresh (q0g _))
def iRng1 (ta:TA):TI:=λσ H R=>ta σ H λvs H1=>∃ j:Int,vs=[.int j]/\-(2^62)<=j/\j<2^62/\R (Itr 0 j.toNat) H1
theorem Z0y {a:Expr}{ta:TA}{p pos:Pos}(hg:Gl X "range")(hm:X.mg "range"=none)(ha:PA X [a] ta)(hs:starEach [a] X.env=[(false,eval a X.env)]:=by rfl):PI X tg (.Call (.Name "range" p) [a] [] pos) (iRng1 ta):=by
 intro pins s σ H R I h
 refine Call_ (Z7g I hg hm boot_range (PyProof.Rows.callWith_type1 (thn (ha pos pins s σ H _ I h) λus s1 ⟨vs,H1,I1,r1,q1⟩=>?_) hs rfl))
 obtain⟨j,e,q1,q2,q⟩:=q1
 subst e
 cases r1 with
 | cons r rr =>
  cases rr
  obtain⟨t,rfl⟩:=r
  exact call_range_1 (X1q I1 (by omega) (by omega) q1 q2 (by simpa using q))
def tFor (wi:TI)(g:TG)(tb:TS):TS:=λD σ H=>wi σ H λJ H1=>∃ W:Nat->Nat->St->Hp->Prop,(∃ m,W 0 m σ H1)/\∀ i m σ H,W i m σ H →
 (J.stop i H/\D.nx σ H)∨(J.go i H/\∃ N:St->Hp->Prop,(∀ σ' H',N σ' H'->∃ m',m'<m/\W (i+1) m' σ' H')/\∀ x H',J.yld i H x H'->g x σ H' λσ2 H2=>tb { D with nx:=N,ct:=N,bk:=D.nx } σ2 H2)
noncomputable def pinsAt (fp:U3)(h:Heap):List (Addr × Obj):=fp.filterMap λb=>(h.get? b).map λo=>(b,o)
theorem Z2y {fp:U3}{h:Heap}{b:W9}{o:Obj}(hb:b∈fp)(e:h.get? b=some o):(b,o)∈pinsAt fp h:=List.mem_filterMap.mpr ⟨b,hb,by rw[e];rfl⟩
theorem Y8v {fp:U3}{h:Heap}{p:Addr × Obj}(hp:p∈pinsAt fp h):p.1∈fp/\h.get? p.1=some p.2:=by
 obtain⟨b,hb,e⟩:=List.mem_filterMap.mp hp
 cases q:h.get? b with
 | none=>rw[q] at e;cases e
 | some o =>
  rw[q] at e
  have e':(b,o)=p:=Option.some.inj e
  subst e'
  exact⟨hb,q⟩
theorem Inv.pinned {pins:U1}{σ:St}{H:Hp}{s:U7}{fp:U3}(I:Inv X pins σ H s)(hf:∀ b∈fp,FpOk X pins H b)(ho:∀ b∈fp,∃ o,s.heap.get? b=some o/\∀ v,o.data≠.cell v):Inv X (pins++pinsAt fp s.heap) σ H s :=
 I.pins_of λp hp=>(q1b.mp hp).elim (λz=>I.pin p (q0n _ z)) λz=>by
  obtain⟨hb,e⟩:=Y8v z
  obtain⟨f0,f1,f2,_⟩:=hf p.1 hb
  obtain⟨o,e',d⟩:=ho p.1 hb
  rw[e] at e';cases e'
  exact⟨e,f0,f1,f2,d⟩
theorem Inv.unpinned {pins pl:U1}{σ:St}{H:Hp}{s:U7}(I:Inv X (pins++pl) σ H s):Inv X pins σ H s:=I.pins_of λp hp=>I.pin p (q0n _ (q1z _ hp))
theorem Z1v {iter:Expr}{body:W8}{wi:TI}{g:TG}{tb:TS}{pos:Pos}(hp:PassesOwn (model X.prog X.w) X.A X.env X.xe)(hc:X.calm=true)(hi:PI X tg iter wi)(hg:PG X tg g)(hb:PSs X body tb)
  (hs:∀ x,foldedSetIterable iter X.env x=pure x:=by intro _;rfl):PS X (.For tg iter body [] pos) (tFor wi g tb):=by
 intro pins s σ H D I h
 refine wpAny_For (thn (hi pins s σ H _ I h) λv s1 h1=>thn h1 λitv s2 h2=>?_) hs
 obtain⟨it,fp,tn,J,H2,e,I2,T,st2,f2,W,⟨m0,w0⟩,turn⟩:=h2
 subst e
 have stat:∀ {H':Hp},(∀ b∈fp,H' b=none)->∀ b∈fp,FpOk X pins H' b:=λhn b hb=>⟨hn b hb,(f2 b hb).2⟩
 refine codeAny_forLoop_any (λn s'=>∃ i σ' H',Inv X pins σ' H' s'/\tn i s'.heap/\(∀ b∈fp,H' b=none)/\W i n σ' H') ?_ m0 ⟨0,σ,H2,I2,st2,λb hb=>(f2 b hb).1,w0⟩
 rintro n s3 ⟨i,σ3,H3,I3,st3,fr3,w3⟩
 rcases turn i n σ3 H3 w3 with ⟨stop,qn⟩ | ⟨go,N,hN,step⟩
 ·refine q4d hp (thn (T.done X rfl rfl rfl hc i pins s3 σ3 H3 X.xe I3 (stat fr3) st3 stop) λr s4 ⟨hr,I4⟩=>?_)
  subst hr
  exact q6q ⟨σ3,H3,I4,qn⟩
 ·refine q4d hp (thn (T.item X rfl rfl rfl hc i pins s3 σ3 H3 X.xe I3 (stat fr3) st3 go) λr s4 ⟨u,hr,h4⟩=>?_)
  subst hr
  refine q4d hp (thn h4 λ_ s5 ⟨x,H5,I5,r5,y5,st5,fr5⟩=>?_)
  have I5':=I5.pinned (stat fr5) (T.obj _ _ st5)
  refine q4d hp (thn (hg _ s5 σ3 H5 x u _ I5' r5 (step x H5 y5)) λ_ s6 ⟨σ6,H6,I6,q6⟩=>?_)
  refine q4d hp (thn (hb _ s6 σ6 H6 _ I6 q6) λf s7 q7=>?_)
  have again:∀ {σ7:St}{H7:Hp},Inv X (pins++pinsAt fp s5.heap) σ7 H7 s7->N σ7 H7->∃ m,m<n/\∃ i σ' H',Inv X pins σ' H' s7/\tn i s7.heap/\(∀ b∈fp,H' b=none)/\W i m σ' H':=λ{σ7 H7} I7 n7=>by
   obtain⟨m',hm,w7⟩:=hN σ7 H7 n7
   refine⟨m',hm,i+1,σ7,H7,I7.unpinned,T.keep _ _ _ st5 λb hb o e=>(I7.pin (b,o) (q0n _ (q0n _ (Z2y hb e)))).1,λb hb=>?_,w7⟩
   obtain⟨o,e,d⟩:=T.obj _ _ st5 b hb
   exact(I7.pin (b,o) (q0n _ (q0n _ (Z2y hb e)))).2.1
  cases f with
  | next=>obtain⟨σ7,H7,I7,n7⟩:=q7;exact again I7 n7
  | cont=>obtain⟨σ7,H7,I7,n7⟩:=q7;exact again I7 n7
  | brk=>obtain⟨σ7,H7,I7,q7⟩:=q7;exact⟨σ7,H7,I7.unpinned,q7⟩
  | ret v=>obtain⟨x7,σ7,H7,I7,r7,q7⟩:=q7;exact⟨x7,σ7,H7,I7.unpinned,r7,q7⟩
end
theorem Z2x {K:U0}{a:W9}{xs:List V}{g:TG}{tb:TS}{D:Ends}{σ:St}{H:Hp}(Pv:Nat->St->Hp->Prop)(h0:Pv 0 σ H)(hl:∀ i σ H,i<=xs.length->Pv i σ H->SqL K H a xs)
  (hs:∀ i x σ H,xs[i]?=some x->Pv i σ H->g x σ H λσ2 H2=>tb { D with nx:=Pv (i+1),ct:=Pv (i+1),bk:=D.nx } σ2 H2) (hd:∀ σ H,Pv xs.length σ H->D.nx σ H) :
  ∃ W:Nat->Nat->St->Hp->Prop,(∃ m,W 0 m σ H)/\∀ i m σ H,W i m σ H →
   ((Itl K a).stop i H/\D.nx σ H)∨((Itl K a).go i H/\∃ N:St->Hp->Prop,(∀ σ' H',N σ' H'->∃ m',m'<m/\W (i+1) m' σ' H')/\∀ x H',(Itl K a).yld i H x H'->g x σ H' λσ2 H2=>tb { D with nx:=N,ct:=N,bk:=D.nx } σ2 H2):=by
 refine⟨λi m σ H=>m=xs.length-i/\i<=xs.length/\Pv i σ H,⟨xs.length,by simp,q1l _,h0⟩,?_⟩
 rintro i m σ H ⟨rfl,hi,p⟩
 have q:=hl i σ H hi p
 by_cases hlt:i<xs.length
 ·refine .inr ⟨⟨xs,xs[i],q,by simp[hlt]⟩,Pv (i+1),λσ' H' p'=>⟨xs.length-(i+1),by omega,Z,hlt,p'⟩,λx H' y=>?_⟩
  obtain⟨e,y⟩:=y
  subst e
  exact hs i x σ _ (y xs q) p
 ·have e:i=xs.length:=by omega
  subst e
  exact .inl ⟨⟨xs,q,q0g _⟩,hd σ H p⟩
theorem Z1u {lo:Int}{n:Nat}{g:TG}{tb:TS}{D:Ends}{σ:St}{H:Hp}(Pv:Nat->St->Hp->Prop)(h0:Pv 0 σ H)
  (hs:∀ i σ H,i<n->Pv i σ H->g (.int (lo+i)) σ H λσ2 H2=>tb { D with nx:=Pv (i+1),ct:=Pv (i+1),bk:=D.nx } σ2 H2) (hd:∀ σ H,Pv n σ H->D.nx σ H) :
  ∃ W:Nat->Nat->St->Hp->Prop,(∃ m,W 0 m σ H)/\∀ i m σ H,W i m σ H →
   ((Itr lo n).stop i H/\D.nx σ H)∨((Itr lo n).go i H/\∃ N:St->Hp->Prop,(∀ σ' H',N σ' H'->∃ m',m'<m/\W (i+1) m' σ' H')/\∀ x H',(Itr lo n).yld i H x H'->g x σ H' λσ2 H2=>tb { D with nx:=N,ct:=N,bk:=D.nx } σ2 H2):=by
 refine⟨λi m σ H=>m=n-i/\i<=n/\Pv i σ H,⟨n,by simp,q1l _,h0⟩,?_⟩
 rintro i m σ H ⟨rfl,hi,p⟩
 by_cases hlt:i<n
 ·refine .inr ⟨hlt,Pv (i+1),λσ' H' p'=>⟨n-(i+1),by omega,Z,hlt,p'⟩,λx H' y=>?_⟩
  obtain⟨e,y⟩:=y
  subst e y
  exact hs i σ _ hlt p
 ·have e:i=n:=by omega
  subst e
  exact .inl ⟨q0g _,hd σ H p⟩
abbrev R2:=V->V->Hp->VK->Prop
def OpR (X:Cx)(f:Value->Value->Sem Value)(r:R2):Prop :=
 ∀ (pins:U1) (s:U7) (σ:St) (H:Hp) (x y:V) (v u:W2) (Q:VK),Inv X pins σ H s->RelV x v->RelV y u->r x y H Q →
  wpAny (model X.prog X.w) X.A (f v u) (EP X pins σ Q) X.xe s
def UnR (X:Cx)(f:Value->Sem Value)(r:V->Hp->VK->Prop):Prop :=
 ∀ (pins:U1) (s:U7) (σ:St) (H:Hp) (x:V) (v:W2) (Q:VK),Inv X pins σ H s->RelV x v->r x H Q →
  wpAny (model X.prog X.w) X.A (f v) (EP X pins σ Q) X.xe s
def CallR (X:Cx)(f:W2)(r:List V->Hp->VK->Prop):Prop :=
 ∀ (pins:U1) (s:U7) (σ:St) (H:Hp) (xs:List V) (us:U5) (Q:VK),Inv X pins σ H s->Vals xs us->r xs H Q →
  wpAny (model X.prog X.w) X.A (call f us) (EP X pins σ Q) X.xe s
def TruR (X:Cx)(r:V->Hp->(Bool->Hp->Prop)->Prop):Prop :=
 ∀ (pins:U1) (s:U7) (σ:St) (H:Hp) (x:V) (v:W2) (Q:Bool->Hp->Prop),Inv X pins σ H s->RelV x v->r x H Q →
  wpAny (model X.prog X.w) X.A (truthy v) (TP X pins σ Q) X.xe s
def tOp (r:R2)(ta tb:TE):TE:=λσ H Q=>ta σ H λx H1=>tb σ H1 λy H2=>r x y H2 Q
def tUn (r:V->Hp->VK->Prop)(ta:TE):TE:=λσ H Q=>ta σ H λx H1=>r x H1 Q
def rI (C:Int->Int->Prop)(g:Int->Int->V):R2:=λx y H Q=>∃ i j,x=.int i/\y=.int j/\C i j/\Q (g i j) H
def rI0 (g:Int->Int->V):R2:=λx y H Q=>∃ i j,x=.int i/\y=.int j/\Q (g i j) H
def rU (g:Int->V):V->Hp->VK->Prop:=λx H Q=>∃ i,x=.int i/\Q (g i) H
section
variable {X:Cx}{a b c:Expr}{ta tb tc:TE}{pos:Pos}
theorem binT (ha:PE X a ta)(hb:PE X b tb){pins:U1}{s:U7}{σ:St}{H:Hp}{R:V->V->Hp->Prop}(I:Inv X pins σ H s)
  (h:ta σ H λx H1=>tb σ H1 λy H2=>R x y H2) {Q:U2}{f:Value->Value->Sem Value}
  (hf:∀ v u s2 x y H2,Inv X pins σ H2 s2->RelV x v->RelV y u->R x y H2->wpAny (model X.prog X.w) X.A (f v u) Q X.xe s2) :
  wpAny (model X.prog X.w) X.A (eval a X.env) (λv s₁=>wpAny (model X.prog X.w) X.A (eval b X.env) (λu s₂=>wpAny (model X.prog X.w) X.A (f v u) Q X.xe s₂) X.xe s₁) X.xe s:=by
 refine thn (ha pins s σ H _ I h) λv s1 ⟨x,H1,I1,r1,q1⟩=>?_
 refine thn (hb pins s1 σ H1 _ I1 q1) λu s2 ⟨y,H2,I2,r2,q2⟩=>?_
 exact hf v u s2 x y H2 I2 r1 r2 q2
theorem Z0h {op:Operator}{r:R2}(ho:OpR X (binaryOp op) r)(ha:PE X a ta)(hb:PE X b tb):PE X (.BinOp a op b pos) (tOp r ta tb):=by
 intro pins s σ H Q I h
 exact wpAny_BinOp (binT ha hb I h λv u s2 x y H2 I2 rx ry q=>ho pins s2 σ H2 x y v u Q I2 rx ry q)
theorem Y2c {op:UnaryOp}{r:V->Hp->VK->Prop}(ho:UnR X (unaryOp op) r)(ha:PE X a ta):PE X (.UnaryOp op a pos) (tUn r ta):=by
 intro pins s σ H Q I h
 exact UnaryOp_ (thn (ha pins s σ H _ I h) λv s1 ⟨x,H1,I1,r1,q1⟩=>ho pins s1 σ H1 x v Q I1 r1 q1)
theorem opI {f:Value->Value->Sem Value}{C:Int->Int->Prop}{g:Int->Int->Int}
  (rule:∀ (i j:Int) (t u:Tok) (s:U7) (Q:U2) (E:U2),C i j->Q (.int (g i j) s.toks) { s with toks:=s.toks+1 }->wpAny (model X.prog X.w) X.A (f (.int i t) (.int j u)) Q E s) :
  OpR X f (rI C λi j=>.int (g i j)):=by
 intro pins s σ H x y v u Q I rx ry h
 obtain⟨i,j,rfl,rfl,hc,q⟩:=h
 obtain⟨t,rfl⟩:=rx
 obtain⟨t',rfl⟩:=ry
 exact rule i j t t' s _ _ hc ⟨.int (g i j),H,I.tok _,⟨_,Z⟩,q⟩
theorem opI0 {f:Value->Value->Sem Value}{g:Int->Int->Int}
  (rule:∀ (i j:Int) (t u:Tok) (s:U7) (Q:U2) (E:U2),Q (.int (g i j) s.toks) { s with toks:=s.toks+1 }->wpAny (model X.prog X.w) X.A (f (.int i t) (.int j u)) Q E s) :
  OpR X f (rI0 λi j=>.int (g i j)):=by
 intro pins s σ H x y v u Q I rx ry h
 obtain⟨i,j,rfl,rfl,q⟩:=h
 obtain⟨t,rfl⟩:=rx
 obtain⟨t',rfl⟩:=ry
 exact rule i j t t' s _ _ ⟨.int (g i j),H,I.tok _,⟨_,Z⟩,q⟩
theorem opB0 {f:Value->Value->Sem Value}{g:Int->Int->Bool}
  (rule:∀ (i j:Int) (t u:Tok) (s:U7) (Q:U2) (E:U2),Q (.bool (g i j)) s->wpAny (model X.prog X.w) X.A (f (.int i t) (.int j u)) Q E s) :
  OpR X f (rI0 λi j=>.bl (g i j)):=by
 intro pins s σ H x y v u Q I rx ry h
 obtain⟨i,j,rfl,rfl,q⟩:=h
 obtain⟨t,rfl⟩:=rx
 obtain⟨t',rfl⟩:=ry
 exact rule i j t t' s _ _ ⟨.bl (g i j),H,I,Z,q⟩
def CDiv (i j:Int):Prop:=0<j/\j<1073741824
def CPow (i j:Int):Prop:=0<=j/\j<=1000000/\i.natAbs<2^64
def CMul (i j:Int):Prop:=(-(2^64)<i/\i<2^64)∨(-(2^64)<j/\j<2^64)
theorem CMul.ok {i j:Int}(h:CMul i j):IntMulOk i j:=by
 rcases h with ⟨h1,h2⟩ | ⟨h1,h2⟩
 ·exact .of_left (intBits_le_64 h1 h2)
 ·exact .of_right (intBits_le_64 h1 h2)
theorem Y5j (k:Nat):(0:Int)<=2^k:=by
 rw[two_pow_cast]
 exact Int.natCast_nonneg _
theorem Z1b:OpR X (binaryOp .Add) (rI0 λi j=>.int (i+j)):=opI0 λ_ _ _ _ _ _ _ q=>add_int q
theorem Z1z:OpR X (binaryOp .Sub) (rI0 λi j=>.int (i-j)):=opI0 λ_ _ _ _ _ _ _ q=>sub_int q
theorem Z3p:OpR X (binaryOp .Mult) (rI CMul λi j=>.int (i*j)):=opI λ_ _ _ _ _ _ _ hc q=>mul_int q hc.ok
theorem Z1g:OpR X (binaryOp .FloorDiv) (rI CDiv λi j=>.int (i / j)):=opI λi j _ _ _ _ _ hc q=>by
 have h1:(0:Int)<j:=hc.1
 have h2:j<1073741824:=hc.2
 exact floordiv_int (by omega) (by rw[q5a i (by omega)];exact q) (.inl (PyProof.noPylong_small (by omega)))
theorem Z0v:OpR X (binaryOp .Mod) (rI (λ_ j=>0<j) λi j=>.int (i%j)):=opI λi j _ _ _ _ _ hc q=>by
 have h1:(0:Int)<j:=hc
 exact mod_int' (by omega) (by rw[Int.fmod_eq_emod_of_nonneg i (by omega)];exact q)
theorem Y0q:OpR X (binaryOp .Pow) (rI CPow λi j=>.int (i^j.toNat)):=opI λ_ _ _ _ _ _ _ hc q=>pow_int_small hc.1 hc.2.1 hc.2.2 q
theorem Z4e:OpR X (binaryOp .RShift) (rI (λ_ j=>0<=j) λi j=>.int (i / 2^j.toNat)):=opI λi j _ _ _ _ _ hc q =>
 rshift_int hc (by rw[q5a i (Y5j _)];exact q)
theorem Z1d:OpR X (binaryOp .BitAnd) (rI0 λi j=>.int (Builtin.bitAnd i j)):=opI0 λ_ _ _ _ _ _ _ q=>and_int q
theorem Z9b:OpR X (binaryOp .BitOr) (rI0 λi j=>.int (Builtin.bitOr i j)):=opI0 λ_ _ _ _ _ _ _ q=>or_int q
theorem Z2v:OpR X (binaryOp .BitXor) (rI0 λi j=>.int (Builtin.bitXor i j)):=opI0 λ_ _ _ _ _ _ _ q=>xor_int q
theorem unI {f:Value->Sem Value}{g:Int->Int}
  (rule:∀ (i:Int) (t:Tok) (s:U7) (Q:U2) (E:U2),Q (.int (g i) s.toks) { s with toks:=s.toks+1 }->wpAny (model X.prog X.w) X.A (f (.int i t)) Q E s) :
  UnR X f (rU λi=>.int (g i)):=by
 intro pins s σ H x v Q I rx h
 obtain⟨i,rfl,q⟩:=h
 obtain⟨t,rfl⟩:=rx
 exact rule i t s _ _ ⟨.int (g i),H,I.tok _,⟨_,Z⟩,q⟩
theorem Z9x:UnR X (unaryOp .USub) (rU λi=>.int (-i)):=unI λ_ _ _ _ _ q=>neg_int q
theorem X4i:UnR X (unaryOp .Invert) (rU λi=>.int (Builtin.bitNot i)):=unI λ_ _ _ _ _ q=>invert_int q
end
noncomputable def scal:V->V->Bool
 | .non,.non=>true | .non,.int _=>true | .int _,.non=>true | .non,.bl _=>true | .bl _,.non=>true | .non,.str _=>true | .str _,.non=>true
 | .int _,.int _=>true | .bl _,.bl _=>true | .str _,.str _=>true | .byt _,.byt _=>true
 | .int _,.str _=>true | .str _,.int _=>true | .bl _,.str _=>true | .str _,.bl _=>true
 | _,_=>false
def rEq:R2:=λx y H Q=>scal x y=true/\Q (.bl (decide (x=y))) H
def rNe:R2:=λx y H Q=>scal x y=true/\Q (.bl (!decide (x=y))) H
theorem Y9z {i j:Int}:decide (V.int i=V.int j)=(i == j):=by
 rw[q4w]
 simp
theorem X5i {i j:Bool}:decide (V.bl i=V.bl j)=(i == j):=by
 rw[q4w]
 simp
theorem Y9y {i j:Str}:decide (V.str i=V.str j)=(i == j):=by
 rw[q4w]
 simp
theorem X0a {i j:Array UInt8}:decide (V.byt i=V.byt j)=(i.toList == j.toList):=by
 rw[q4w]
 cases i
 cases j
 simp
section
variable {X:Cx}{a b c:Expr}{ta tb tc:TE}{pos:Pos}
theorem Z1i {pins:U1}{σ:St}{H:Hp}{s:U7}{Q:VK}{k k':Bool}(I:Inv X pins σ H s)(q:Q (.bl k) H)(e:k=k'):EP X pins σ Q (.bool k') s:=by
 subst e
 exact⟨.bl k,H,I,Z,q⟩
theorem Z1k:OpR X (compareOp .Eq) rEq:=by
 intro pins s σ H x y v u Q I rx ry h
 obtain⟨hs,q⟩:=h
 cases x with
 | non =>
  cases rx
  cases y with
  | non=>cases ry;exact PySem.EqNone.eq_none_none (Z1i I q (by simp))
  | bl j=>cases ry;exact PySem.EqNone.eq_none_bool (Z1i I q (by simp))
  | int j=>obtain⟨t',rfl⟩:=ry;exact PySem.EqNone.eq_none_int (Z1i I q (by simp))
  | str j=>obtain⟨t',rfl⟩:=ry;exact PySem.EqNone.eq_none_str (Z1i I q (by simp))
  | _=>exact absurd (show false=true from hs) q0p
 | bl i =>
  cases rx
  cases y with
  | non=>cases ry;exact PySem.EqNone.eq_bool_none (Z1i I q (by simp))
  | bl j=>cases ry;exact eq_bool (Z1i I q X5i)
  | str j=>obtain⟨t',rfl⟩:=ry;exact PySem.EqMixed.eq_bool_str (Z1i I q (by simp))
  | _=>exact absurd (show false=true from hs) q0p
 | int i =>
  obtain⟨t,rfl⟩:=rx
  cases y with
  | non=>cases ry;exact PySem.EqNone.eq_int_none (Z1i I q (by simp))
  | int j=>obtain⟨t',rfl⟩:=ry;exact eq_int (Z1i I q Y9z)
  | str j=>obtain⟨t',rfl⟩:=ry;exact PySem.EqMixed.eq_int_str (Z1i I q (by simp))
  | _=>exact absurd (show false=true from hs) q0p
 | str i =>
  obtain⟨t,rfl⟩:=rx
  cases y with
  | non=>cases ry;exact PySem.EqNone.eq_str_none (Z1i I q (by simp))
  | bl j=>cases ry;exact PySem.EqMixed.eq_str_bool (Z1i I q (by simp))
  | int j=>obtain⟨t',rfl⟩:=ry;exact PySem.EqMixed.eq_str_int (Z1i I q (by simp))
  | str j=>obtain⟨t',rfl⟩:=ry;exact eq_str (Z1i I q Y9y)
  | _=>exact absurd (show false=true from hs) q0p
 | byt i =>
  obtain⟨t,rfl⟩:=rx
  cases y with
  | byt j=>obtain⟨t',rfl⟩:=ry;exact PySem.W.eq_bytes (Z1i I q X0a)
  | _=>exact absurd (show false=true from hs) q0p
 | _=>cases y<;>exact absurd (show false=true from hs) q0p
theorem Z4n:OpR X (compareOp .NotEq) rNe:=by
 intro pins s σ H x y v u Q I rx ry h
 obtain⟨hs,q⟩:=h
 cases x with
 | non =>
  cases rx
  cases y with
  | non=>cases ry;exact PySem.EqNone.ne_none_none (Z1i I q (by simp))
  | bl j=>cases ry;exact PySem.EqNone.ne_none_bool (Z1i I q (by simp))
  | int j=>obtain⟨t',rfl⟩:=ry;exact PySem.EqNone.ne_none_int (Z1i I q (by simp))
  | str j=>obtain⟨t',rfl⟩:=ry;exact PySem.EqNone.ne_none_str (Z1i I q (by simp))
  | _=>exact absurd (show false=true from hs) q0p
 | bl i =>
  cases rx
  cases y with
  | non=>cases ry;exact PySem.EqNone.ne_bool_none (Z1i I q (by simp))
  | bl j=>cases ry;exact ne_bool (Z1i I q (congrArg not X5i))
  | str j=>obtain⟨t',rfl⟩:=ry;exact PySem.EqMixed.ne_bool_str (Z1i I q (by simp))
  | _=>exact absurd (show false=true from hs) q0p
 | int i =>
  obtain⟨t,rfl⟩:=rx
  cases y with
  | non=>cases ry;exact PySem.EqNone.ne_int_none (Z1i I q (by simp))
  | int j=>obtain⟨t',rfl⟩:=ry;exact ne_int (Z1i I q (congrArg not Y9z))
  | str j=>obtain⟨t',rfl⟩:=ry;exact PySem.EqMixed.ne_int_str (Z1i I q (by simp))
  | _=>exact absurd (show false=true from hs) q0p
 | str i =>
  obtain⟨t,rfl⟩:=rx
  cases y with
  | non=>cases ry;exact PySem.EqNone.ne_str_none (Z1i I q (by simp))
  | bl j=>cases ry;exact PySem.EqMixed.ne_str_bool (Z1i I q (by simp))
  | int j=>obtain⟨t',rfl⟩:=ry;exact PySem.EqMixed.ne_str_int (Z1i I q (by simp))
  | str j=>obtain⟨t',rfl⟩:=ry;exact ne_str (Z1i I q (congrArg not Y9y))
  | _=>exact absurd (show false=true from hs) q0p
 | byt i =>
  obtain⟨t,rfl⟩:=rx
  cases y with
  | byt j=>obtain⟨t',rfl⟩:=ry;exact PySem.W.ne_bytes (Z1i I q (congrArg not X0a))
  | _=>exact absurd (show false=true from hs) q0p
 | _=>cases y<;>exact absurd (show false=true from hs) q0p
theorem Z7c:OpR X (compareOp .Lt) (rI0 λi j=>.bl (decide (i<j))):=opB0 λ_ _ _ _ _ _ _ q=>lt_int q
theorem W0j:OpR X (compareOp .LtE) (rI0 λi j=>.bl (decide (i<=j))):=opB0 λ_ _ _ _ _ _ _ q=>le_int q
theorem Y2e:OpR X (compareOp .Gt) (rI0 λi j=>.bl (decide (j<i))):=opB0 λ_ _ _ _ _ _ _ q=>gt_int q
theorem Y8c:OpR X (compareOp .GtE) (rI0 λi j=>.bl (decide (j<=i))):=opB0 λ_ _ _ _ _ _ _ q=>ge_int q
theorem X4t:OpR X (compareOp .Is) (λx y H Q=>y=.non/\Q (.bl (decide (x=.non))) H):=by
 intro pins s σ H x y v u Q I rx ry h
 obtain⟨rfl,q⟩:=h
 cases ry
 refine is_none_gen (Z1i I q ?_)
 cases x<;>first
  | (cases rx;rfl)
  | (obtain⟨t,rfl⟩:=rx;rfl)
theorem X6v:OpR X (compareOp .IsNot) (λx y H Q=>y=.non/\Q (.bl (!decide (x=.non))) H):=by
 intro pins s σ H x y v u Q I rx ry h
 obtain⟨rfl,q⟩:=h
 cases ry
 refine isnot_none_gen (Z1i I q ?_)
 cases x<;>first
  | (cases rx;rfl)
  | (obtain⟨t,rfl⟩:=rx;rfl)
theorem nomark (b:Expr){op:CmpOp}(h:op≠.In:=by decide)(h2:op≠.NotIn:=by decide):behindInMarks op b=false:=by
 have e1:(op == CmpOp.In)=false:=by cases op<;>first | rfl | exact absurd rfl h
 have e2:(op == CmpOp.NotIn)=false:=by cases op<;>first | rfl | exact absurd rfl h2
 cases b<;>simp[behindInMarks,e1,e2]
theorem Z1p {op:CmpOp}{r:R2}(ho:OpR X (compareOp op) r)(ha:PE X a ta)(hb:PE X b tb)(hm:behindInMarks op b=false):PE X (.Compare a [op] [b] pos) (tOp r ta tb):=by
 intro pins s σ H Q I h
 exact wpAny_Compare1 (binT ha hb I h λv u s2 x y H2 I2 rx ry q=>ho pins s2 σ H2 x y v u Q I2 rx ry q) hm
def tTest (t:TE):TT:=λσ H Q=>t σ H λx H'=>∃ k,x=.bl k/\Q k H'
theorem Z0n {op:CmpOp}{r:R2}(ho:OpR X (compareOp op) r)(ha:PE X a ta)(hb:PE X b tb)(hm:behindInMarks op b=false):PT X (.Compare a [op] [b] pos) (tTest (tOp r ta tb)):=by
 intro pins s σ H Q I h
 refine q8a (thn (ha pins s σ H _ I h) λv s1 ⟨x,H1,I1,r1,q1⟩=>thn (hb pins s1 σ H1 _ I1 q1) λu s2 ⟨y,H2,I2,r2,q2⟩ =>
  thn (ho pins s2 σ H2 x y v u _ I2 r1 r2 q2) λc s3 ⟨z,H3,I3,r3,k,e,q3⟩=>?_) hm
 subst e
 cases r3
 exact q2t ⟨H3,I3,q3⟩
def TruV (K:U0)(x:V)(H:Hp)(k:Bool):Prop :=
 match x with
 | .non=>k=false
 | .bl b=>k=b
 | .int i=>k=(i != 0)
 | .str y=>y.length<=sizeLine/\k=((y.length:Int) != 0)
 | .byt y=>y.size<=sizeLine/\k=((y.size:Int) != 0)
 | .ref p=>(∃ xs,SqL K H p xs/\k=!xs.isEmpty)∨(∃ xs,SqT K H p xs/\k=!xs.isEmpty)∨∃ kvs,H p=some (.dK kvs)/\k=!kvs.isEmpty
 | _=>False
theorem Y6a {κ:Type}{kvs:List (κ × V)}{vs:List (κ × Value)}(r:KV kvs vs):(!vs.isEmpty)=!kvs.isEmpty:=by
 cases r<;>rfl
theorem Z8a {xs:List V}{its:U5}(r:Vals xs its):(!its.toArray.isEmpty)=!xs.isEmpty:=by
 cases r<;>simp
theorem line63:(sizeLine:Nat)<2^63:=by rw[sizeLine_eq];decide
theorem X9s:TruR X (λx H Q=>∃ k,TruV X.K x H k/\Q k H):=by
 intro pins s σ H x v Q I rx h
 obtain⟨k,e,q⟩:=h
 have hl:=line63
 have hs:sizeLine=16777216:=sizeLine_eq
 cases x with
 | non =>
  cases rx
  have e':k=false:=e
  subst e'
  exact truthy_none ⟨H,I,q⟩
 | bl b =>
  cases rx
  have e':k=b:=e
  subst e'
  exact q2t ⟨H,I,q⟩
 | int i =>
  obtain⟨t,rfl⟩:=rx
  have e':k=(i != 0):=e
  subst e'
  exact PySem.P.truthy_int ⟨H,I,q⟩
 | str y =>
  obtain⟨t,rfl⟩:=rx
  obtain⟨hy,e'⟩:y.length<=sizeLine/\k=((y.length:Int) != 0):=e
  subst e'
  exact PySem.P.truthy_str (by omega) ⟨H,I.tok _,q⟩
 | byt y =>
  obtain⟨t,rfl⟩:=rx
  obtain⟨hy,e'⟩:y.size<=sizeLine/\k=((y.size:Int) != 0):=e
  subst e'
  exact PySem.W.truthy_bytes (by omega) ⟨H,I.tok _,q⟩
 | ref p =>
  cases rx
  have e':(∃ xs,SqL X.K H p xs/\k=!xs.isEmpty)∨(∃ xs,SqT X.K H p xs/\k=!xs.isEmpty)∨∃ kvs,H p=some (.dK kvs)/\k=!kvs.isEmpty:=e
  rcases e' with ⟨xs,hx,e'⟩ | ⟨xs,hx,e'⟩ | ⟨kvs,hx,e'⟩
  ·subst e'
   obtain⟨its,r,pl,hz⟩:=I.list hx
   have hlen:=r.length
   exact wpAny_truthy_list pl.isList (by simp only[q0m];omega) ⟨H,I.tok _,by rw[Z8a r];exact q⟩
  ·subst e'
   obtain⟨its,r,pl,hz⟩:=I.tuple hx
   have hlen:=r.length
   exact truthy_tuple pl (by simp only[q0m];omega) ⟨H,I.tok _,by rw[Z8a r];exact q⟩
  ·subst e'
   obtain⟨hz,hS,vs,r,m⟩:kvs.length<=sizeLine/\(p == sysModules)=false/\∃ vs,KV kvs vs/\s.heap.DictOf (Z2a X.prog X.w) p vs:=I.hok p _ hx
   have hlen:kvs.length=vs.length:=Paired.length r
   exact wpAny_truthy_dict hS m (by omega) ⟨H,I.tok _,by rw[Y6a r];exact q⟩
 | _=>exact(show False from e).elim
theorem vals1 {x:V}{us:U5}(r:Vals [x] us):∃ u,us=[u]/\RelV x u:=by
 cases r with
 | cons r1 r2=>cases r2;exact⟨_,rfl,r1⟩
theorem vals2 {x y:V}{us:U5}(r:Vals [x,y] us):∃ u w',us=[u,w']/\RelV x u/\RelV y w':=by
 cases r with
 | cons r1 r2 =>
  cases r2 with
  | cons r3 r4=>cases r4;exact⟨_,_,rfl,r1,r3⟩
theorem X0p (hc:X.calm=true):CallR X (.builtin "max") (λxs H Q=>∃ i j,xs=[.int i,.int j]/\Q (.int (if j>i then j else i)) H):=by
 intro pins s σ H xs us Q I r h
 obtain⟨i,j,rfl,q⟩:=h
 obtain⟨u,w',rfl,⟨t,rfl⟩,⟨t',rfl⟩⟩:=vals2 r
 refine max_two_ints (I.ok.hd hc) λh' tk k=>⟨_,H,I.kept k,?_,q⟩
 by_cases hj:j>i
 ·rw[if_pos hj,if_pos hj];exact⟨_,Z⟩
 ·rw[if_neg hj,if_neg hj];exact⟨_,Z⟩
theorem Y1f (hc:X.calm=true):CallR X (.builtin "min") (λxs H Q=>∃ i j,xs=[.int i,.int j]/\Q (.int (if j<i then j else i)) H):=by
 intro pins s σ H xs us Q I r h
 obtain⟨i,j,rfl,q⟩:=h
 obtain⟨u,w',rfl,⟨t,rfl⟩,⟨t',rfl⟩⟩:=vals2 r
 refine min_two_ints (I.ok.hd hc) λh' tk k=>⟨_,H,I.kept k,?_,q⟩
 by_cases hj:j<i
 ·rw[if_pos hj,if_pos hj];exact⟨_,Z⟩
 ·rw[if_neg hj,if_neg hj];exact⟨_,Z⟩
theorem X0q:CallR X (.type "int") (λxs H Q=>(∃ i,xs=[.int i]/\Q (.int i) H)∨∃ k,xs=[.bl k]/\Q (.int (if k then 1 else 0)) H):=by
 intro pins s σ H xs us Q I r h
 rcases h with ⟨i,rfl,q⟩ | ⟨k,rfl,q⟩
 ·obtain⟨u,rfl,t,rfl⟩:=vals1 r
  exact call_int_int ⟨.int i,H,I,⟨_,Z⟩,q⟩
 ·obtain⟨u,rfl,r1⟩:=vals1 r
  cases r1
  exact call_int_bool ⟨.int (if k then 1 else 0),H,I.tok _,⟨_,Z⟩,q⟩
end
structure ObjM (h:Heap) (x dx C:W9) (mA:U4):Prop where
 obj:h.get? x=some (PySem.W.instObj C dx)
 ns:h.Ns1 dx mA
 ne:dx≠x
theorem Y9c {h:Heap}{dx:W9}{mA:U4}(n:h.Ns1 dx mA):∃ od,h.get? dx=some od/\∀ name,PySem.W.lookIn name od=some (mA name):=by
 obtain⟨o,es,ep,ho,hd,hk,_,hm⟩:=n
 refine⟨o,ho,λname=>?_⟩
 have e:=hm name
 unfold nsFind findBy at e
 rw[<-Array.find?_toList] at e
 unfold PySem.W.lookIn
 rw[hd]
 dsimp only
 split
 ·rename_i y q
  rw[q] at e
  exact congrArg some e
 ·rename_i q
  rw[q] at e
  have a:es.toList.any (·.refKey)=false:=by
   rw[List.any_eq_false]
   intro y hy
   obtain⟨z,t,hkey⟩:=hk y (Array.mem_toList_iff.mp hy)
   simp[DictEntry.refKey,hkey]
  have a':¬ es.toList.any (·.refKey)=true:=by rw[a];exact q0p
  rw[if_neg a']
  exact congrArg some e
theorem ObjM.look {h:Heap}{x dx C:W9}{mA:U4}(I:ObjM h x dx C mA):∃ od,PySem.W.InstAt h x (PySem.W.instObj C dx) C (some od)/\∀ name,PySem.W.lookIn name od=some (mA name) :=
 let ⟨od,ho,hl⟩:=Y9c I.ns
 ⟨od,⟨I.obj,Z,Z,ho⟩,hl⟩
section
variable {prog:U8}{w:W1}{A:W6}{E:U2}{s:U7}{K:U0}{x dx C f:W9}{mA:U4}{name:Str}{v:W2}
end
theorem RelO.some_of {v:V}{o:Option Value}(r:RelO (some v) o):∃ u,o=some u/\RelV v u:=by
 cases o with
 | none=>exact(show False from r).elim
 | some u=>exact⟨u,rfl,r⟩
section
variable {P:U8}{w:W1}{H H':Hp}{h h':Heap}{a C dx:W9}{fs fs':List (Str × V)}
theorem X8j (hok:HOk P w H h)(e:H a=some (.ins C dx fs)):∃ mA,ObjM h a dx C mA/\(∀ f,RelO (fs.lookup f) (mA f))/\PySem.Within mA (fs.map (·.1))/\fs.length<=1000/\H dx=some (.own a):=by
 obtain⟨d,z,ne,ob,mA,n,r,q⟩:=(show ObjOk P w H h a (.ins C dx fs) from hok a _ e)
 exact⟨mA,⟨ob,n,ne⟩,r,q,z,d⟩
end
structure Cls (K:U0) (C:W9):Prop where
 pg:PySem.W.plainGet K C Str.empty=true
 hd:PySem.W.hasDictIn K C=true
 po:PySem.W.plainOver K C=true
 sa:PySem.W.findIn K (.ref C) "__setattr__"=some (some (.builtin "object.__setattr__"))
theorem Cls.get {K:U0}{C:W9}(c:Cls K C)(f:Str):PySem.W.plainGet K C f=true:=c.pg
section
variable {X:Cx}{pins:U1}{σ:St}{H:Hp}{s:U7}{a C dx:W9}{fs:List (Str × V)}{f:Str}{v:V}{A:W6}{E:U2}
end
section
variable {X:Cx}{o e value:Expr}{f:Str}{pos pos' tpos:Pos}{ta tv:TE}
end
section
variable {X:Cx}{pins:U1}{σ:St}{H:Hp}{s:U7}{A:W6}{E:U2}{Q:U2}{c:W2}{b:Bool}
inductive TyOf (K:U0) (H:Hp):V->Value->Prop where
 | non:TyOf K H .non (.type "NoneType")
 | bl (x:Bool):TyOf K H (.bl x) (.type "bool")
 | int (i:Int):TyOf K H (.int i) (.type "int")
 | str (x:Str):TyOf K H (.str x) (.type "str")
 | flt (x:UInt64):TyOf K H (.flt x) (.type "float")
 | lst {a:W9}{xs:List V} (e:H a=some (.lst xs)):TyOf K H (.ref a) (.type "list")
 | frz {a:W9}{o:Obj}{xs:List V} (e:H a=some (.frz o (.lst xs))):TyOf K H (.ref a) (.type "list")
 | tup {a:W9}{xs:List V} (e:H a=some (.tup xs)):TyOf K H (.ref a) (.type "tuple")
 | dK {a:W9}{kvs:List (Key × V)} (e:H a=some (.dK kvs)):TyOf K H (.ref a) (.type "dict")
 | dT {a:W9}{kvs:List (List Key × V)} (e:H a=some (.dT kvs)):TyOf K H (.ref a) (.type "dict")
 | ins {a C dx:W9}{fs:List (Str × V)} (e:H a=some (.ins C dx fs)) (cl:Cls K C) (ha:PySem.W.findIn K (.ref C) "__class__"=some (some (.builtin "object.__class__")))
   (hn:PySem.W.specialIn K (.builtin "object.__class__") "__get__"=some (some (.builtin "getset_descriptor.__get__"))) (htk:PySem.W.takesIn K (.builtin "object.__class__")=some true)
   (hm:PySem.W.mroIn K C (.type "object")=some true):TyOf K H (.ref a) (.ref C)
theorem Y9n {x:V}{u t:W2}(I:Inv X pins σ H s)(rx:RelV x u)(ty:TyOf X.K H x t)(e:PySem.W.kitOne X.K t c=some b)(h:∀ tk,Q (.bool b) { s with toks:=tk }) :
  wpAny (model X.prog X.w) A (call (.builtin "isinstance") [u,c]) Q E s:=by
 cases ty with
 | non=>cases (show u=Value.none from rx);exact q2q PySem.W.kitx_none I.kIn True.intro e (λz=>nomatch z) h
 | bl y=>cases (show u=Value.bool y from rx);exact q2q PySem.W.kitx_bool I.kIn True.intro e (λz=>nomatch z) h
 | int i=>obtain⟨t,q⟩:=(show ∃ t,u=Value.int i t from rx);cases q;exact q2q PySem.W.kitx_int I.kIn True.intro e (λz=>nomatch z) h
 | str y=>obtain⟨t,q⟩:=(show ∃ t,u=Value.str y t from rx);cases q;exact q2q PySem.W.kitx_str I.kIn True.intro e (λz=>nomatch z) h
 | flt y=>obtain⟨t,q⟩:=(show ∃ t,u=Value.float y t from rx);cases q;exact q2q PySem.W.kitx_float I.kIn True.intro e (λz=>nomatch z) h
 | @lst a xs ea =>
  cases (show u=Value.ref a from rx)
  obtain⟨_,_,n,_,h1⟩:=(show ObjOk X.prog X.w H s.heap a (.lst xs) from I.hok a _ ea)
  exact q2q PySem.W.kitx_list I.kIn ⟨_,h1,Z⟩ e (λz=>nomatch z) h
 | @frz a ob xs ea =>
  cases (show u=Value.ref a from rx)
  obtain⟨_,_,_,n,_,h1⟩:=(show ObjOk X.prog X.w H s.heap a (.frz ob (.lst xs)) from I.hok a _ ea)
  exact q2q PySem.W.kitx_list I.kIn ⟨_,h1,Z⟩ e (λz=>nomatch z) h
 | @tup a xs ea =>
  cases (show u=Value.ref a from rx)
  obtain⟨_,_,_,p⟩:=(show ObjOk X.prog X.w H s.heap a (.tup xs) from I.hok a _ ea)
  obtain⟨o,h1,h2,_⟩:=p
  exact q2q PySem.W.kitx_tuple I.kIn ⟨o,h1,h2⟩ e (λz=>nomatch z) h
 | @dK a kvs ea =>
  cases (show u=Value.ref a from rx)
  obtain⟨_,_,vs,_,p⟩:=(show ObjOk X.prog X.w H s.heap a (.dK kvs) from I.hok a _ ea)
  obtain⟨o,es,ep,h1,h2,_⟩:=p
  exact q2q PySem.W.kitx_dict I.kIn ⟨o,h1,h2.1⟩ e (λz=>nomatch z) h
 | @dT a kvs ea =>
  cases (show u=Value.ref a from rx)
  obtain⟨_,_,xs,_,o,es,ep,h1,h2,_⟩:=(show ObjOk X.prog X.w H s.heap a (.dT kvs) from I.hok a _ ea)
  exact q2q PySem.W.kitx_dict I.kIn ⟨o,h1,h2.1⟩ e (λz=>nomatch z) h
 | @ins a C dx fs ea cl ha hn htk hm =>
  cases (show u=Value.ref a from rx)
  obtain⟨mA,O,_⟩:=X8j I.hok ea
  obtain⟨od,J,_⟩:=O.look
  exact q2q (PySem.W.kitx_own (cl.get _) cl.hd ha hn htk hm) I.kIn J e (λz=>nomatch z) h
end
structure Room (k:Nat) (A:W6):Prop where
 hd:A.handled=none
 dp:A.depth+3*k+5<recursionLimit
 un:A.units+16*k+200<cLine
theorem Room.mono {j k:Nat}{A:W6}(r:Room k A)(h:j<=k):Room j A:=⟨r.hd,by have:=r.dp;omega,by have:=r.un;omega⟩
theorem Room.deeper {k:Nat}{A:W6}(r:Room (k+1) A)(env:Env):Room k (A.deeper env) :=
 ⟨r.hd,by have:=r.dp;show A.depth+1+3*k+5<_;omega,by have:=r.un;show A.units+3+16*k+200<_;omega⟩
theorem Room.in1 {k:Nat}{A:W6}(r:Room (k+1) A):Room k A.in1 :=
 ⟨r.hd,by have:=r.dp;show A.depth+3*k+5<_;omega,by have:=r.un;show A.units+1+16*k+200<_;omega⟩
theorem Room.depth {k:Nat}{A:W6}(r:Room k A):A.depth<recursionLimit:=by have:=r.dp;omega
theorem Room.units {k:Nat}{A:W6}(r:Room k A):A.units+64<cLine:=by have:=r.un;omega
def tNil:TA:=λ_ H Q=>Q [] H
def tCons (ta:TE)(tr:TA):TA:=λσ H Q=>ta σ H λx H1=>tr σ H1 λxs H2=>Q (x::xs) H2
section
variable {X:Cx}{e:Expr}{es:List Expr}{te:TE}{t:TA}{pos:Pos}
theorem Z0d:PA X [] tNil:=λ_ _ _ _ H Q I h=>Calls.spliced_nil ⟨[],H,I,.nil,h⟩
theorem Z0a (ha:PE X e te)(hr:PA X es t)(hs:starEach (e::es) X.env=(false,eval e X.env)::starEach es X.env:=by rfl):PA X (e::es) (tCons te t):=by
 intro pos pins s σ H Q I h
 rw[hs]
 show wpAny _ _ (spliced ((false,eval e X.env)::backTo pos (starEach es X.env))) _ _ s
 refine Calls.spliced_cons (thn (ha pins s σ H _ I h) λu s1 ⟨x,H1,I1,r1,q1⟩=>?_)
 exact thn (hr pos pins s1 σ H1 _ I1 q1) λus s2 ⟨xs,H2,I2,r2,q2⟩=>⟨x::xs,H2,I2,.cons r1 r2,q2⟩
def tTup (t:TA):TE:=λσ H Q=>t σ H λxs H1=>xs.length<=sizeLine/\∀ p,H1 p=none->Q (.ref p) (upd H1 p (.tup xs))
def tLst (t:TA):TE:=λσ H Q=>t σ H λxs H1=>xs.length<=sizeLine/\∀ p,H1 p=none->Q (.ref p) (upd H1 p (.lst xs))
theorem Z1a {x1}(h:PA X es t):PE X (.Tuple es x1 pos) (tTup t):=by
 intro pins s σ H Q I hq
 refine wpAny_Tuple_spliced (thn (h pos pins s σ H _ I hq) λus s1 ⟨xs,H1,I1,r,z,q⟩=>⟨by rw[<-r.length];exact z,?_⟩)
 have hf:H1 s1.heap.objs.size=none:=I1.hok.fresh (q0g _)
 refine⟨.ref s1.heap.objs.size,upd H1 s1.heap.objs.size (.tup xs),I1.laid (t':=s1.toks) (λb u e=>q0f _ e) (q0g _) ?_,Z,q _ hf⟩
 exact⟨z,us,r,⟨_,q0q _ rfl,Z,_,Z⟩⟩
theorem Z3b (h:PA X es t):PE X (.List es pos) (tLst t):=by
 intro pins s σ H Q I hq
 refine wpAny_List_spliced (thn (h pos pins s σ H _ I hq) λus s1 ⟨xs,H1,I1,r,z,q⟩=>⟨by rw[<-r.length];exact z,?_⟩)
 have hf:H1 s1.heap.objs.size=none:=I1.hok.fresh (q0g _)
 refine⟨.ref s1.heap.objs.size,upd H1 s1.heap.objs.size (.lst xs),I1.laid (t':=s1.toks) (λb u e=>q0f _ e) (q0g _) ?_,Z,q _ hf⟩
 exact⟨z,us,0,r,q0q _ rfl⟩
end
abbrev Sp:=List V->Hp->VK->XK->Prop
abbrev CXT:=List Env->Hp->Shared->XK->Value->Shared->Prop
structure Env0 (P:U8) (w:W1) (K:U0) (mg:U4) (base:Heap) (A:W6) (outer:List Env) (s:U7) (H:Hp):Prop where
 frames:A.frames=some outer
 mod:Mod K mg base
 bs:∀ b o,base.get? b=some o->s.heap.get? b=some o/\H b=none
 bsz:base.objs.size<=s.heap.objs.size
 funs:s.heap.FunFrames base outer
 frf:∀ b∈frs outer,H b=none
 hok:HOk P w H s.heap
 bare:AllBare s.gens
def CE (outer:List Env)(P:U8)(w:W1)(H:Hp)(s:U7)(Q:VK)(u:W2)(s':U7):Prop :=
 ∃ v H',s'.os=s.os/\AllBare s'.gens/\Un (frs outer) [] H H' s.heap s'.heap/\HOk P w H' s'.heap/\RelV v u/\Q v H'
def CR (CX:CXT)(outer:List Env)(P:U8)(w:W1)(H:Hp)(s:U7)(Q:VK)(E:XK)(r:Result)(s':U7):Prop :=
 match r with
 | .ok (.ret u)=>CE outer P w H s Q u s'
 | .ok _=>False
 | .error e=>CX outer H s E e s'
structure FnOk (P:U8) (w:W1) (K:U0) (mg:U4) (base:Heap) (CX:CXT) (k:Nat) (f:W9) (fd:FuncData) (ps:W0) (sp:Sp):Prop where
 len:∀ vs H Q E,sp vs H Q E->vs.length=ps.length
 run:∀ (A:W6) (outer:List Env) (s:U7) (H:Hp) (args:Args) (us:U5) (vs:List V) (Q:VK) (E:XK),Room k A->Env0 P w K mg base A outer s H->BindsTo s fd args (ps.zip us)->Vals vs us->sp vs H Q E →
  codeAny (model P w) A (.call (.ref f) args) (CR CX outer P w H s Q E) s
theorem FnOk.mono {P:U8}{w:W1}{K:U0}{mg:U4}{base:Heap}{CX:CXT}{j k:Nat}{f:W9}{fd:FuncData}{ps:W0}{sp:Sp}(F:FnOk P w K mg base CX j f fd ps sp)(h:j<=k) :
  FnOk P w K mg base CX k f fd ps sp:=⟨F.len,λA outer s H args us vs Q E hr=>F.run A outer s H args us vs Q E (hr.mono h)⟩
theorem FnOk.imp {P:U8}{w:W1}{K:U0}{mg:U4}{base:Heap}{CX:CXT}{k:Nat}{f:W9}{fd:FuncData}{ps:W0}{sp sp':Sp}(F:FnOk P w K mg base CX k f fd ps sp)
  (h:∀ vs H Q E,sp' vs H Q E->sp vs H Q E):FnOk P w K mg base CX k f fd ps sp' :=
 ⟨λvs H Q E q=>F.len vs H Q E (h _ _ _ _ q),λA outer s H args us vs Q E hr he hb hv hs=>F.run A outer s H args us vs Q E hr he hb hv (h _ _ _ _ hs)⟩
section
variable {X:Cx}{pins:U1}{σ:St}{H:Hp}{s s':U7}
theorem Inv.env0 (I:Inv X pins σ H s):Env0 X.prog X.w X.K X.mg X.base X.A X.stack s H :=
 ⟨I.ok.frames,I.ok.mod,I.bs,q1i I.ok.bsz I.sz,I.stack,I.stkFree,I.hok,I.bare⟩
theorem Inv.after {Q:VK}{u:W2}(I:Inv X pins σ H s)(h:CE X.stack X.prog X.w H s Q u s'):EP X pins σ Q u s':=by
 obtain⟨v,H',os,bare,un,hok,r,q⟩:=h
 obtain⟨hh,g,d,t,os'⟩:=s'
 obtain rfl:os'=s.os:=os
 exact⟨v,H',I.call (h':=hh) (g':=g) (d':=d) (t':=t) (ch:=[]) un hok bare (λb z=>absurd z (by simp)),r,q⟩
end
def tCall (sp:Sp)(dvs:List V)(E:XK)(t:TA):TE:=λσ H Q=>t σ H λvs H1=>sp (vs++dvs) H1 Q E
def Binds (K:U0)(fd:FuncData)(ps:W0)(ds:U5):Prop :=
 ∀ (s:U7) (us:U5),K.In s.heap->(us++ds).length=ps.length->BindsTo s fd ⟨us,[]⟩ (ps.zip (us++ds))
theorem Binds.all {K:U0}{fd:FuncData}{ps:W0}(h:∀ us:List Value,us.length=ps.length->bindArgs fd ⟨us,[]⟩=pure (ps.zip us)):Binds K fd ps []:=λs us _ hl=>by
 rw[q4g] at hl ⊢
 exact .of_eq (h us hl)
def Passes (CX:CXT)(X:Cx)(E:XK):Prop:=∀ (pins:U1) (σ:St) (H:Hp) (s:U7) (e:W2) (s':U7),Inv X pins σ H s->CX X.stack H s E e s'->X.xe e s'
section
variable {X:Cx}{CX:CXT}{k:Nat}{f C:W9}{fd:FuncData}{ps:W0}{sp:Sp}{dvs:List V}{ds:U5}{E:XK}{x m:Str}{p pos apos:Pos}{e o:Expr}{es:List Expr}{ta:TE}{t:TA}
theorem X4l {pins:U1}{σ:St}{H:Hp}{s:U7}{Q:VK}{us:U5}{vs:List V}(F:FnOk X.prog X.w X.K X.mg X.base CX k f fd ps sp)(hr:Room k X.A)(hb:Binds X.K fd ps ds)(hd:Vals dvs ds)(hx:Passes CX X E)
  (I:Inv X pins σ H s) (r:Vals vs us) (h:sp (vs++dvs) H Q E):wpAny (model X.prog X.w) X.A (call (.ref f) us) (EP X pins σ Q) X.xe s:=by
 have r2:Vals (vs++dvs) (us++ds):=r.append hd
 have hl:(us++ds).length=ps.length:=by rw[<-r2.length];exact F.len _ _ _ _ h
 refine wpAny_call (q6e (F.run X.A X.stack s H ⟨us,[]⟩ (us++ds) (vs++dvs) Q E hr I.env0 (hb s us I.kIn hl) r2 h) λr s' hq=>?_)
 cases r with
 | error e=>exact hx pins σ H s e s' I hq
 | ok fl =>
  cases fl with
  | ret u=>exact I.after hq
  | next=>exact False.elim hq
  | brk=>exact False.elim hq
  | cont=>exact False.elim hq
theorem X6s (F:FnOk X.prog X.w X.K X.mg X.base CX k f fd ps sp)(hr:Room k X.A)(hg:Gl X x)(hm:X.mg x=some (.ref f))(hk:PySem.W.keepIn X.K (.ref f)=true)(hb:Binds X.K fd ps ds)(hd:Vals dvs ds)(hx:Passes CX X E)
  (ha:PA X (e::es) t) (hdb:(x == ("__debug__":Str))=false:=by decide) (he:starEach (e::es) X.env=(false,eval e X.env)::starEach es X.env:=by rfl) (hpl:(backTo pos (starEach es X.env)).any (·.1)=false:=by rfl) :
  PE X (.Call (.Name x p) (e::es) [] pos) (tCall sp dvs E t):=by
 intro pins s σ H Q I h
 refine q5m (Y9g I hg hm ?_ hdb)
 refine PySem.W.callWith_K (h₀:=X.base) I.ok.mod.kin hk (thn (ha pos pins s σ H _ I h) λus s1 ⟨vs,H1,I1,r,q⟩=>⟨I1.kIn,?_⟩) he hpl
 exact X4l F hr hb hd hx I1 r q
end
def PK (X:Cx)(kws:List Keyword)(t:TA):Prop :=
 ∀ (pos:Pos) (pins:U1) (s:U7) (σ:St) (H:Hp) (Q:List V->Hp->Prop),Inv X pins σ H s->t σ H Q->wpAny (model X.prog X.w) X.A (evalAll ((backToKw pos (keywordEach kws X.env)).map (·.2))) (AP X pins σ Q) X.xe s
section
variable {X:Cx}{CX:CXT}{k:Nat}{f C:W9}{fd:FuncData}{ps ks:W0}{sp:Sp}{E:XK}{x m:Str}{p pos apos kpos:Pos}{e o:Expr}{es:List Expr}{kws:List Keyword}{te ta:TE}{t tk:TA}{nm:Option Str}
theorem W0b:PK X [] tNil:=λ_ _ _ _ H Q I h=>wpAny_evalAll_nil ⟨[],H,I,.nil,h⟩
theorem X6q (ha:PE X e te)(hr:PK X kws t):PK X (⟨nm,e,kpos⟩::kws) (tCons te t):=by
 intro pos pins s σ H Q I h
 show wpAny _ _ (evalAll ((do let v ← eval e X.env;standAt pos;pure v)::(backToKw pos (keywordEach kws X.env)).map (·.2))) _ _ s
 refine wpAny_evalAll_cons (q0e (thn (ha pins s σ H _ I h) λu s1 ⟨x,H1,I1,r1,q1⟩=>q0e (q5j (q0s ?_))))
 exact thn (hr pos pins s1 σ H1 _ I1 q1) λus s2 ⟨xs,H2,I2,r2,q2⟩=>⟨x::xs,H2,I2,.cons r1 r2,q2⟩
variable {g:List Value->List Value->List Value}{gV:List V->List V->List V}
end
structure FnScope (N P:W0) (sc:Scope):Prop where
 kind:sc.kind=.function
 co:sc.isCoroutine=false
 gen:sc.isGenerator=false
 nd:N.Nodup
 pre:N.take P.length=P
 par:∀ x∈P,sc.names.lookup x=some .local∨sc.names.lookup x=some .cell
 nofree:∀ y∈sc.names,y.2≠.free
theorem Y1j {kindOf:Str->Option NameKind}{x:Str}:∀ {binds:List (Str × Value)}{m:U4},(∀ v,(x,v) ∉ binds)->bindL kindOf binds m x=m x
 | [],_,_=>rfl
 | (n,v)::r,m,h=>by
  unfold bindL
  rw[Y1j λw hw=>h w (q1n _ hw)]
  split
  ·have:x≠n:=by rintro rfl;exact h v q1r
   simp[this]
  ·rfl
theorem Y1l {kindOf:Str->Option NameKind}{x:Str}:∀ {binds:List (Str × Value)}{m:U4},(∀ v,(x,v) ∉ binds)->bindC kindOf binds m x=m x
 | [],_,_=>rfl
 | (n,v)::r,m,h=>by
  unfold bindC
  rw[Y1l λw hw=>h w (q1n _ hw)]
  split
  ·rfl
  ·have:x≠n:=by rintro rfl;exact h v q1r
   simp[this]
theorem Y1k {kindOf:Str->Option NameKind}{x:Str}{v:W2}:∀ {P:W0}{vs:U5}{i:Nat}{m:U4},P.Nodup->P[i]?=some x->vs[i]?=some v->kindOf x=some .local →
  bindL kindOf (P.zip vs) m x=some v
 | [],_,_,_,_,h,_,_=>by simp at h
 | _::_,[],_,_,_,_,h,_=>by simp at h
 | p::P,w::vs,0,m,nd,h1,h2,hk=>by
  simp at h1 h2;subst h1;subst h2
  show bindL kindOf ((p,w)::P.zip vs) m p=_
  unfold bindL
  rw[Y1j λv hv=>(q5q.mp nd).1 (q6t hv).1,if_pos hk]
  simp
 | p::P,w::vs,i+1,m,nd,h1,h2,hk=>by
  show bindL kindOf ((p,w)::P.zip vs) m x=_
  unfold bindL
  exact Y1k (i:=i) (q5q.mp nd).2 (by simpa using h1) (by simpa using h2) hk
theorem Y1m {kindOf:Str->Option NameKind}{x:Str}{v:W2}:∀ {P:W0}{vs:U5}{i:Nat}{m:U4},P.Nodup->P[i]?=some x->vs[i]?=some v->kindOf x≠some .local →
  bindC kindOf (P.zip vs) m x=some v
 | [],_,_,_,_,h,_,_=>by simp at h
 | _::_,[],_,_,_,_,h,_=>by simp at h
 | p::P,w::vs,0,m,nd,h1,h2,hk=>by
  simp at h1 h2;subst h1;subst h2
  show bindC kindOf ((p,w)::P.zip vs) m p=_
  unfold bindC
  rw[Y1l λv hv=>(q5q.mp nd).1 (q6t hv).1,if_neg hk]
  simp
 | p::P,w::vs,i+1,m,nd,h1,h2,hk=>by
  show bindC kindOf ((p,w)::P.zip vs) m x=_
  unfold bindC
  exact Y1m (i:=i) (q5q.mp nd).2 (by simpa using h1) (by simpa using h2) hk
noncomputable def start (N:W0)(vs:List V):St:=vs.map some++List.replicate (N.length-vs.length) none
noncomputable def cxOf (CX:CXT)(P:U8)(w:W1)(K:U0)(mg:U4)(base:Heap)(N:W0)(qual:Str)(scope:Scope)(f:W9)(cd:W2)(A:W6)(outer:List Env)(s:U7)(H:Hp)(E:XK):Cx where
 prog:=P
 w:=w
 K:=K
 mg:=mg
 base:=base
 A:=A.deeper (envOfC qual scope s.heap.objs.size f cd)
 N:=N
 s₀:=s
 H₀:=H
 env:=envOfC qual scope s.heap.objs.size f cd
 outer:=outer
 stack:=envOfC qual scope s.heap.objs.size f cd::outer
 ex:=[]
 calm:=true
 fn:=λ_=>true
 pn:=[]
 xe:=λe s'=>wpAny (model P w) (A.deeper (envOfC qual scope s.heap.objs.size f cd)) (leaving (envOfC qual scope s.heap.objs.size f cd) e) (λ_ s''=>CX outer H s E e s'') (λe' s''=>CX outer H s E e' s'') s'
theorem Y5c {sc:Scope}{n:Nat}{x:Str}(h:sc.names.lookup x=some .cell):∃ c,(cellsFrom n sc.names []).lookup x=some c:=by
 have q:=q7w sc.names n [] (.inl h)
 exact Option.isSome_iff_exists.mp q
theorem Y9o {CX:CXT}{P:U8}{w:W1}{K:U0}{mg:U4}{base:Heap}{N ps:W0}{qual:Str}{scope:Scope}{f:W9}{cd:W2}{A:W6}{outer:List Env}{s s1:U7}{H:Hp}{E:XK}{us:U5}{vs:List V}
  (S:FnScope N ps scope) (hd:A.handled=none) (e0:Env0 P w K mg base A outer s H) (hl:vs.length=ps.length) (r:Vals vs us)
  (x:InCallC s s.heap.objs.size (bindL (envOfC qual scope s.heap.objs.size f cd).kindOf (ps.zip us) λ_=>none) (cellsFrom (s.heap.objs.size+1) scope.names []) (bindC (envOfC qual scope s.heap.objs.size f cd).kindOf (ps.zip us) λ_=>none) s1) :
  Inv (cxOf CX P w K mg base N qual scope f cd A outer s H E) [] (start N vs) H s1:=by
 have hpl:ps.length<=N.length:=by have:=congrArg List.length S.pre;rw[q2b] at this;omega
 obtain⟨h1,tk,rfl,hk⟩:=x.done
 have noA:∀ b:Addr,b ∉ (cxOf CX P w K mg base N qual scope f cd A outer s H E).ex:=λb z=>absurd (show b∈([]:U3) from z) (by simp)
 refine⟨⟨e0.mod,S.kind,Z,Z,q0g _,λy z c h1 h2=>?_,λy hy=>?_,λy c _ h=>?_,λ_=>hd,Around.frames_deeper e0.frames,.inr ⟨Z,Z⟩,λb z=>absurd z (noA b),e0.bs,e0.bsz,λb _ _=>noA b,λb z=>absurd z (noA b),e0.funs,e0.frf⟩,
  rfl,e0.bare,Un.kept hk,⟨_,x.toInCall.ns,λi y v h1 h2 h3=>?_⟩,λy c h=>⟨_,x.cell y c h⟩,e0.hok.fresh (q0g _),λy c h=>?_,λp hp=>absurd (show p∈([]:U1) from hp) (by simp),e0.hok.kept hk,?_⟩
 ·exact name_of_addr x.apart (q3c h1) (q3c h2)
 ·have hy:scope.names.lookup y=some .cell∨scope.names.lookup y=some .free:=hy
  rcases hy with hy | hy
  ·exact Y5c hy
  ·exact absurd rfl (S.nofree _ (q3c hy))
 ·exact q6f (x.above y c (q3c h))
 ·have hi:i<vs.length:=by
   unfold start at h2
   by_cases hi:i<vs.length
   ·exact hi
   ·rw[q3t (by simpa using hi)] at h2
    rw[q7p] at h2
    split at h2<;>cases h2
  have ha:vs[i]?=some v:=by
   unfold start at h2
   rw[q4b (by simpa using hi),q0c] at h2
   cases e:vs[i]? with
   | none=>rw[e] at h2;cases h2
   | some a=>rw[e] at h2;cases h2;rfl
  obtain⟨u,hu,rv⟩:=r.get ha
  have hp:ps[i]?=some y:=by
   rw[<-S.pre,List.getElem?_take_of_lt (by omega)];exact h1
  have ndP:ps.Nodup:=by rw[<-S.pre];exact S.nd.sublist (List.take_sublist _ _)
  refine⟨u,rv,?_⟩
  rcases S.par y (q0y hp) with k | k
  ·exact .inl ⟨k,Y1k ndP hp hu k⟩
  ·obtain⟨c,e⟩:=Y5c (n:=s.heap.objs.size+1) k
   refine .inr ⟨.inl k,c,e,?_⟩
   have q:=x.cell y c e
   rw[Y1m ndP hp hu (by show scope.names.lookup y≠_;rw[k];decide)] at q
   exact q
 ·exact e0.hok.fresh (q6f (x.above y c (q3c h)))
 ·unfold start
  show _=N.length
  rw[q1d,q0a,q8l]
  omega
theorem W1r {CX:CXT}{P:U8}{w:W1}{K:U0}{mg:U4}{base:Heap}{k:Nat}{f:W9}{name qual:Str}{params:Arguments}{body:W8}{scope:Scope}{dV kV doc pm cdv ct oc:W2}{an od:W5}
  {osl:W4}{N ps:W0}{sp:Sp} (lk:K.lookup f=some ⟨oc,od,.func (PySem.W.fnOf name qual params body scope dV kV doc pm an cdv ct),osl⟩) (hcd:PySem.W.codeIn K cdv qual=true) (S:FnScope N ps scope)
  (len:∀ vs H Q E,sp vs H Q E->vs.length=ps.length)
  (hbody:∀ (A:W6) (outer:List Env) (s:U7) (H:Hp) (vs:List V) (Q:VK) (E:XK),Room k (A.deeper (envOfC qual scope s.heap.objs.size f cdv))->sp vs H Q E →
   ∃ t,PSs (cxOf CX P w K mg base N qual scope f cdv A outer s H E) body t/\t { nx:=λ_ H'=>Q .non H',rt:=Q } (start N vs) H) :
  FnOk P w K mg base CX (k+1) f (PySem.W.fnOf name qual params body scope dV kV doc pm an cdv ct) ps sp:=by
 refine⟨len,λA outer s H args us vs Q E hr e0 hb r hsp=>?_⟩
 have hl:=len _ _ _ _ hsp
 have KX:K.In s.heap:=e0.mod.kin.keeps λb o e=>(e0.bs b o e).1
 have lim:s.heap.NoLimit:=e0.mod.nolimit.keeps λb o e=>(e0.bs b o e).1
 have hkind:∀ y∈ps.zip us,scope.names.lookup y.1=some .local∨(scope.names.lookup y.1=some .cell/\((cellsFrom (s.heap.objs.size+1) scope.names []).lookup y.1).isSome=true):=λ⟨n,v⟩ hy=>by
  rcases S.par n (q6t hy).1 with q | q
  ·exact .inl q
  ·exact .inr ⟨q,q7w _ _ _ (.inl q)⟩
 refine codeAny_call_function hr.depth (KX _ _ lk) rfl S.co S.gen rfl (PySem.W.codeRec_of KX hcd) (hb _ _ _ _ ?_)
 refine wpAny_newFunctionEnv_cells S.kind hkind λenv he s1 x=>?_
 subst he
 refine⟨lim.keeps x.toInCall.keep,codeAny_func ?_⟩
 obtain⟨t,ht,hq⟩:=hbody A outer s H vs Q E (hr.deeper _) hsp
 have I:Inv (cxOf CX P w K mg base N qual scope f cdv A outer s H E) [] (start N vs) H s1:=Y9o S hr.hd e0 hl r x
 refine q2c (ht [] s1 (start N vs) H _ I hq) (λfl s' hs=>?_) λe s' hs=>hs
 have fin:∀ {σ':St}{H':Hp}{v:V}{u:W2},Inv (cxOf CX P w K mg base N qual scope f cdv A outer s H E) [] σ' H' s'->RelV v u->Q v H'->CE outer P w H s Q u s' :=
  λ{σ' H' v u} J rv q=>⟨v,H',J.os,J.bare,J.base,J.hok,rv,q⟩
 cases fl with
 | ret u =>
  obtain⟨v,σ',H',J,rv,q⟩:=hs
  exact fin J rv q
 | next =>
  obtain⟨σ',H',J,q⟩:=hs
  exact fin (v:=V.non) (u:=Value.none) J rfl q
 | brk =>
  obtain⟨_,_,_,q⟩:=hs
  exact False.elim q
 | cont =>
  obtain⟨_,_,_,q⟩:=hs
  exact False.elim q
section
variable {X:Cx}{x:Str}{p pos:Pos}{e:Expr}{es:List Expr}{t:TA}{id T:String}{r:List V->Hp->VK->Prop}
def tCB (r:List V->Hp->VK->Prop)(t:TA):TE:=λσ H Q=>t σ H λvs H1=>r vs H1 Q
theorem Z0r (hc:CallR X (.builtin id) r)(hg:Gl X x)(hm:X.mg x=none)(hv:bootBuiltins x=some (.builtin id))(ha:PA X (e::es) t)(hn:x≠"__name__":=by decide)(hdb:(x == ("__debug__":Str))=false:=by decide)
  (he:starEach (e::es) X.env=(false,eval e X.env)::starEach es X.env:=by rfl) (hpl:(backTo pos (starEach es X.env)).any (·.1)=false:=by rfl):PE X (.Call (.Name x p) (e::es) [] pos) (tCB r t):=by
 intro pins s σ H Q I h
 refine q5m (Z7g I hg hm hv ?_ hn hdb)
 exact PyProof.Rows.callWith_builtin1 (thn (ha pos pins s σ H _ I h) λus s1 ⟨vs,H1,I1,r1,q1⟩=>hc pins s1 σ H1 vs us Q I1 r1 q1) he hpl
theorem Z4z (hc:CallR X (.type T) r)(hg:Gl X x)(hm:X.mg x=none)(hv:bootBuiltins x=some (.type T))(ha:PA X (e::es) t)(hn:x≠"__name__":=by decide)(hdb:(x == ("__debug__":Str))=false:=by decide)
  (he:starEach (e::es) X.env=(false,eval e X.env)::starEach es X.env:=by rfl) (hpl:(backTo pos (starEach es X.env)).any (·.1)=false:=by rfl):PE X (.Call (.Name x p) (e::es) [] pos) (tCB r t):=by
 intro pins s σ H Q I h
 refine q5m (Z7g I hg hm hv ?_ hn hdb)
 exact PyProof.Rows.callWith_type1 (thn (ha pos pins s σ H _ I h) λus s1 ⟨vs,H1,I1,r1,q1⟩=>hc pins s1 σ H1 vs us Q I1 r1 q1) he hpl
end
end L2
namespace HT
section
open PySem.SeqAt
open PySem.AutoSeq1 (wpAny_loadPart')
open PySem.MeetsSeq PySem.MeetsSeq2 PySem.MeetsSeq3
end
section
variable {prog:U8}{w:W1}{A:W6}{E:U2}{s:U7}
noncomputable def sIx (n d:Nat):Option Int->Nat
 | none=>d
 | some v=>if v<0 then (v+(n:Int)).toNat else min v.toNat n
theorem Y7l (n d k:Nat):sIx n d (some (k:Int))=min k n:=by
 show (if (k:Int)<0 then ((k:Int)+(n:Int)).toNat else min (k:Int).toNat n)=min k n
 rw[if_neg (by omega),q0v]
theorem X9x (n d:Nat)(hd:d<=n)(o:Option Int):sIx n d o<=n:=by
 cases o with
 | none=>exact hd
 | some v =>
  show (if v<0 then (v+(n:Int)).toNat else min v.toNat n)<=n
  by_cases hv:v<0
  ·rw[if_pos hv];omega
  ·rw[if_neg hv];exact Nat.min_le_right _ _
theorem X0k (v:Int)(n d:Nat):(if v<0 then max (v+(n:Int)) 0 else min v (n:Int))=((sIx n d (some v):Nat):Int):=by
 show (if v<0 then max (v+(n:Int)) 0 else min v (n:Int))=(((if v<0 then (v+(n:Int)).toNat else min v.toNat n):Nat):Int)
 by_cases hv:v<0
 ·simp only[if_pos hv];omega
 ·simp only[if_neg hv];omega
theorem Y6g (lo hi:Option Int)(n:Nat):Builtin.Slice.sliceAdjust lo hi 1 (n:Int)=(((sIx n 0 lo:Nat):Int),((sIx n n hi:Nat):Int)):=by
 have h1:¬ ((1:Int)<0):=by omega
 unfold Builtin.Slice.sliceAdjust
 simp only[h1,q4o]
 refine Prod.ext ?_ ?_
 ·cases lo with
  | none=>rfl
  | some v=>exact X0k v n 0
 ·cases hi with
  | none=>rfl
  | some v=>exact X0k v n n
theorem Y5m (i j:Nat):Builtin.Slice.slicePlaces (i:Int) (j:Int) 1=j-i:=by
 unfold Builtin.Slice.slicePlaces
 have h1:(1:Int)>0:=by omega
 simp only[h1,q5f,Int.ediv_one]
 split<;>omega
theorem Z7v {v:W2}{o:Option Int}{Q:Option Int->Shared->Prop}(p:IsPart v o)(h:Q o s):wpAny (model prog w) A (Builtin.Slice.slicePartIndex v) Q E s:=by
 cases p with
 | none=>exact slicePart_none h
 | int i t=>exact slicePart_int h
theorem Z3w {sl:W9}{vl vu:W2}{lo hi:Option Int}{n:Nat}{Q:Int × Int × Nat->Shared->Prop}(hs:s.heap.IsSliceOf sl vl vu .none)(pl:IsPart vl lo)(pu:IsPart vu hi)
  (h:Q (((sIx n 0 lo:Nat):Int),1,sIx n n hi-sIx n 0 lo) s):wpAny (model prog w) A (Builtin.Slice.sliceApplied (.ref sl) (pure (n:Int))) Q E s:=by
 obtain⟨os,hos,hcs,hds⟩:=id hs
 unfold Builtin.Slice.sliceApplied Builtin.Slice.sliceFields
 refine q0e (q0e (q4q hos hds (x:=vl) rfl (q0e (q4q hos hds (x:=vu) rfl (q0e (q4q hos hds (x:=.none) rfl (q0s ?_)))))))
 refine q0e (slicePart_none ?_)
 show wpAny _ _ (if ((1:Int) == 0)=true then _ else _) _ _ s
 rw[if_neg (by decide)]
 refine q0e (Z7v pl (q0e (Z7v pu (q0e (q0s ?_)))))
 show wpAny _ _ (match Builtin.Slice.sliceAdjust lo hi 1 (n:Int) with | (lo,hi)=>pure (lo,(1:Int),Builtin.Slice.slicePlaces lo hi 1)) _ _ s
 rw[Y6g lo hi n]
 show wpAny _ _ (pure (((sIx n 0 lo:Nat):Int),(1:Int),Builtin.Slice.slicePlaces ((sIx n 0 lo:Nat):Int) ((sIx n n hi:Nat):Int) 1)) _ _ s
 rw[Y5m]
 exact q0s h
theorem X1s (xs:U9)(i k:Nat):((List.range k).filterMap λ(m:Nat)=>xs[((i:Int)+(m:Int)*1).toNat]?).toArray=((xs.toList.drop i).take k).toArray:=by
 have e:(λ(m:Nat)=>xs[((i:Int)+(m:Int)*1).toNat]?)=λm=>xs[i+m]?:=by
  funext m
  have:((i:Int)+(m:Int)*1).toNat=i+m:=by omega
  rw[this]
 rw[e]
 have:=pick_run xs i k
 rw[List.filterMap_map] at this
 have e2:((λx=>xs[x]?) ∘ λx=>i+x)=λm=>xs[i+m]?:=rfl
 rw[e2] at this
 rw[this]
theorem Z5o {t sl:W9}{items:U9}{vl vu:W2}{lo hi:Option Int}{Q:U2}(ht:IsTup s.heap t items)(hs:s.heap.IsSliceOf sl vl vu .none)(pl:IsPart vl lo)(pu:IsPart vu hi)
  (hw:¬ (sIx items.size 0 lo=0/\sIx items.size items.size hi=items.size))
  (h:Q (.ref s.heap.objs.size) { s with heap:=s.heap.push { cls:=.type "tuple",data:=.seq ((items.toList.drop (sIx items.size 0 lo)).take (sIx items.size items.size hi-sIx items.size 0 lo)).toArray } })
  (hsz:items.size<=sizeLine):wpAny (model prog w) A (getItem (.ref t) (.ref sl)) Q E s:=by
 have htake:sizeOk (.seq ((items.toList.drop (sIx items.size 0 lo)).take (sIx items.size items.size hi-sIx items.size 0 lo)).toArray):=by
  show ((items.toList.drop (sIx items.size 0 lo)).take (sIx items.size items.size hi-sIx items.size 0 lo)).toArray.size<=sizeLine
  rw[q0m,q2b,q7s,q1s]
  omega
 have hj:sIx items.size items.size hi<=items.size:=X9x _ _ (q0g _) hi
 obtain⟨os,hos,hcs,hds⟩:=id hs
 have hTs:s.TypeIs (.ref sl) "slice":=⟨os,hos,hcs⟩
 unfold getItem
 try with_reducible refine q3w ?_
 first | refine q0e (q0s ?_) | skip
 refine q0e (wpAny_sequenceKey ht.typeIs (by decide) ?_)
 refine q0e (q5l (name:=Str.ofString "__getitem__") ht.typeIs PyProof.Rows.slot_tuple_getitem
  (q5c PyProof.Rows.slot_tuple_getitem ht.typeIs entry_tuple_getitem ?_ (args_tuple_getitem _ _)))
 show wpAny _ _ (Builtin.Tuple.tupleItemsOf (.ref t) >>= _) _ _ s
 refine q0e (tupleItemsOf_ ht ?_)
 refine q0e (q7z hTs ?_)
 rw[if_pos (by decide)]
 refine q0e (Z3w hs pl pu ?_)
 have hno:¬ ((((sIx items.size 0 lo:Nat):Int) == 0 && (1:Int) == 1 && (sIx items.size items.size hi-sIx items.size 0 lo) == items.size)=true):=by
  intro q
  rw[q1g,q1g] at q
  have q1:((sIx items.size 0 lo:Nat):Int)=0:=eq_of_beq q.1.1
  have q2:sIx items.size items.size hi-sIx items.size 0 lo=items.size:=eq_of_beq q.2
  exact hw ⟨by omega,by omega⟩
 show wpAny _ _ (if (((sIx items.size 0 lo:Nat):Int) == 0 && (1:Int) == 1 && (sIx items.size items.size hi-sIx items.size 0 lo) == items.size)=true then _ else _) _ _ s
 rw[if_neg hno,X1s]
 first
  | exact q0e (m:=Builtin.Tuple.tupleExact _) (q3q (q0s ⟨_,rfl,q0s h⟩) htake)
  | exact q0e (m:=Builtin.Tuple.tupleExact _) (q3q (q0e (q0s (q0s ⟨_,rfl,q0s h⟩))) htake)
  | exact q0e (q0e (m:=Builtin.Tuple.tupleExact _) (q3q (q0s (q0s ⟨_,rfl,q0s h⟩)) htake))
  | exact q0e (q0e (m:=Builtin.Tuple.tupleExact _) (q3q (q0s ⟨_,rfl,q0s h⟩) htake))
end
end HT
namespace L2
abbrev TO:=St->Hp->(Option Int->Hp->Prop)->Prop
def PO (X:Cx)(e:Option Expr)(t:TO):Prop :=
 ∀ (pins:U1) (s:U7) (σ:St) (H:Hp) (Q:Option Int->Hp->Prop),Inv X pins σ H s->t σ H Q →
  wpAny (model X.prog X.w) X.A (evalPart e X.env) (λu s'=>∃ o H',Inv X pins σ H' s'/\IsPart u o/\Q o H') X.xe s
def X6b:TO:=λ_ H Q=>Q none H
def tPart (t:TE):TO:=λσ H Q=>t σ H λx H1=>∃ i,x=.int i/\Q (some i) H1
theorem Z1x {ns:U6}:∀ {us:U5},Vals (ns.map V.int) us->IntsAre us ns:=by
 induction ns with
 | nil=>intro us r;rw[q8j] at r;cases r;exact .nil
 | cons n ns ih =>
  intro us r
  rw[q0z] at r
  cases r with
  | cons r1 r2 =>
   obtain⟨t,e⟩:=r1
   subst e
   exact .cons n t (ih r2)
section
variable {X:Cx}{e:Expr}{te:TE}{lo hi:Option Expr}{tl th:TO}{pos p2:Pos}
theorem Z5k:PO X none X6b:=by
 intro pins s σ H Q I h
 rw[evalPart_none]
 exact q0s ⟨none,H,I,.none,h⟩
theorem Z2i (h:PE X e te):PO X (some e) (tPart te):=by
 intro pins s σ H Q I hw
 rw[evalPart_some]
 refine thn (h pins s σ H _ I hw) λu s1 ⟨x,H1,I1,r1,q1⟩=>?_
 obtain⟨i,rfl,q⟩:=q1
 obtain⟨t,rfl⟩:=r1
 exact⟨some i,H1,I1,.int i t,q⟩
def SlR (X:Cx)(r:V->Option Int->Option Int->Hp->VK->Prop):Prop :=
 ∀ (pins:U1) (s:U7) (σ:St) (H:Hp) (x:V) (v vl vu:W2) (lo hi:Option Int) (sl:W9) (Q:VK),Inv X pins σ H s->RelV x v->s.heap.IsSliceOf sl vl vu .none->IsPart vl lo->IsPart vu hi->r x lo hi H Q →
  ∃ T id,typeLookup (.type T) "__getitem__"=pure (some (.builtin id))/\s.TypeIs v T/\wpAny (model X.prog X.w) X.A (getItem v (.ref sl)) (EP X pins σ Q) X.xe s
def tSl (r:V->Option Int->Option Int->Hp->VK->Prop)(te:TE)(tl th:TO):TE:=λσ H Q=>te σ H λx H1=>tl σ H1 λl H2=>th σ H2 λu H3=>r x l u H3 Q
theorem Z2q {r:V->Option Int->Option Int->Hp->VK->Prop}(hr:SlR X r)(he:PE X e te)(hl:PO X lo tl)(hu:PO X hi th):PE X (.Subscript e (.Slice lo hi none p2) pos) (tSl r te tl th):=by
 intro pins s σ H Q I h
 refine Subscript_ (thn (he pins s σ H _ I h) λv s1 ⟨x,H1,I1,r1,q1⟩=>?_)
 refine wpAny_Slice (thn (hl pins s1 σ H1 _ I1 q1) λvl s2 ⟨l,H2,I2,pl,q2⟩=>thn (hu pins s2 σ H2 _ I2 q2) λvu s3 ⟨u,H3,I3,pu,q3⟩=>?_)
 rw[evalPart_none]
 refine q0s ?_
 have I4:Inv X pins σ H3 { s3 with heap:=s3.heap.push { cls:=.type "slice",data:=.fields #[vl,vu,.none] } }:=I3.kept (t':=s3.toks) λb ob q=>q0f _ q
 obtain⟨T,id,hT,ht,hg⟩:=hr pins { s3 with heap:=s3.heap.push { cls:=.type "slice",data:=.fields #[vl,vu,.none] } } σ H3 x v vl vu l u s3.heap.objs.size Q I4 r1 (Heap.IsSliceOf.new ..) pl pu q3
 show wpAny (model X.prog X.w) X.A (subscriptTail e (.Slice lo hi none p2) v (.ref s3.heap.objs.size)) (EP X pins σ Q) X.xe { s3 with heap:=s3.heap.push { cls:=.type "slice",data:=.fields #[vl,vu,.none] } }
 exact tail_any (ops:=[.ref s3.heap.objs.size,v]) ht hT hg (by with_unfolding_all rfl)
noncomputable def cutV (xs:List V)(lo hi:Option Int):List V:=(xs.drop (HT.sIx xs.length 0 lo)).take (HT.sIx xs.length xs.length hi-HT.sIx xs.length 0 lo)
theorem Z7k (xs:List V)(lo hi:Option Int):(cutV xs lo hi).length<=xs.length:=by
 unfold cutV
 rw[q2b,q7s]
 omega
def rSlT (K:U0):V->Option Int->Option Int->Hp->VK->Prop:=λx lo hi H Q=>∃ a xs,x=.ref a/\SqT K H a xs ∧
 ¬ (HT.sIx xs.length 0 lo=0/\HT.sIx xs.length xs.length hi=xs.length)/\∀ p,H p=none->Q (.ref p) (upd H p (.tup (cutV xs lo hi)))
theorem Y7j:SlR X (rSlT X.K):=by
 intro pins s σ H x v vl vu lo hi sl Q I rx hs pl pu h
 obtain⟨a,xs,rfl,hx,hw,q⟩:=h
 cases rx
 obtain⟨its,r,ht,hz⟩:=I.tuple hx
 have hlen:its.toArray.size=xs.length:=by rw[q0m];exact r.length.symm
 refine⟨"tuple",_,PyProof.Rows.slot_tuple_getitem.lookup,ht.typeIs,?_⟩
 refine HT.Z5o ht hs pl pu (by rw[hlen];exact hw) ?_ (by rw[hlen];exact hz)
 rw[hlen]
 refine⟨.ref s.heap.objs.size,_,I.laid (t':=s.toks) (o:=.tup (cutV xs lo hi)) (λb ob q=>q0f _ q) (q0g _) ?_,Z,q _ (I.hok.fresh (q0g _))⟩
 exact⟨q1i (Z7k xs lo hi) hz,_,(r.drop (HT.sIx xs.length 0 lo)).take (HT.sIx xs.length xs.length hi-HT.sIx xs.length 0 lo),IsTup.new _ _⟩
end
noncomputable def ixN (n:Nat)(i:Int):Option Nat:=if 0<=i then (if i<n then some i.toNat else none) else if -(n:Int)<=i then some (i+n).toNat else none
noncomputable def atI {α:Type}(xs:List α)(i:Int):Option α:=(ixN xs.length i).bind λj=>xs[j]?
theorem Y9l {n:Nat}{i:Int}{j:Nat}(h:ixN n i=some j):seqIndex? i n=some j/\j<n/\-(n:Int)<=i/\i<n:=by
 unfold ixN at h
 by_cases h0:0<=i
 ·rw[if_pos h0] at h
  by_cases h1:i<n
  ·rw[if_pos h1] at h
   have e:i.toNat=j:=Option.some.inj h
   exact⟨by rw[seqIndex_of h0 h1,e],by omega,by omega,h1⟩
  ·rw[if_neg h1] at h;cases h
 ·rw[if_neg h0] at h
  by_cases h1:-(n:Int)<=i
  ·rw[if_pos h1] at h
   have e:(i+n).toNat=j:=Option.some.inj h
   exact⟨by rw[q9c (by omega) h1,e],by omega,h1,by omega⟩
  ·rw[if_neg h1] at h;cases h
theorem X0u {α:Type}{xs:List α}{i:Int}{v:α}(h:atI xs i=some v):∃ j,seqIndex? i xs.length=some j/\xs[j]?=some v/\j<xs.length/\-(xs.length:Int)<=i/\i<xs.length:=by
 unfold atI at h
 cases e:ixN xs.length i with
 | none=>rw[e] at h;cases h
 | some j =>
  rw[e] at h
  obtain⟨h1,h2,h3,h4⟩:=Y9l e
  exact⟨j,h1,h,h2,h3,h4⟩
theorem Z3m {α:Type}{xs:List α}{j:Nat}{v:α}(h:xs[j]?=some v):atI xs (j:Int)=some v:=by
 have hj:j<xs.length:=(q0l.mp h).1
 have e:ixN xs.length (j:Int)=some j:=by
  unfold ixN
  rw[if_pos (by omega),if_pos (by omega)];simp
 unfold atI;rw[e];exact h
def X9c (b:Expr):Prop:=∀ o i,subscripted b false o i=operate [o,i] (getItem o i)
def IxR (X:Cx)(r:R2):Prop :=
 ∀ (value slice:Expr) (pins:U1) (s:U7) (σ:St) (H:Hp) (x y:V) (v u:W2) (Q:VK),Inv X pins σ H s->RelV x v->RelV y u->r x y H Q →
  subscripted slice false v u=operate [v,u] (getItem v u)->wpAny (model X.prog X.w) X.A (subscriptTail value slice v u) (EP X pins σ Q) X.xe s
def MtR (X:Cx)(id:String)(r:V->List V->Hp->VK->Prop):Prop :=
 ∀ (pins:U1) (s:U7) (σ:St) (H:Hp) (x:V) (xs:List V) (v:W2) (us:U5) (Q:VK),Inv X pins σ H s->RelV x v->Vals xs us->r x xs H Q →
  wpAny (model X.prog X.w) X.A (call (.builtin id) (v::us)) (EP X pins σ Q) X.xe s
section
variable {X:Cx}{a b:Expr}{ta tb:TE}{pos:Pos}
theorem Z0m {r:R2}(hr:IxR X r)(ha:PE X a ta)(hb:PE X b tb)(hs:X9c b):PE X (.Subscript a b pos) (tOp r ta tb):=by
 intro pins s σ H Q I h
 exact Subscript_ (binT ha hb I h λv u s2 x y H2 I2 rx ry q=>hr a b pins s2 σ H2 x y v u Q I2 rx ry q (hs _ _))
def rIxL (K:U0):R2:=λx y H Q=>∃ p xs i v,x=.ref p/\y=.int i/\SqL K H p xs/\atI xs i=some v/\Q v H
def rIxT (K:U0):R2:=λx y H Q=>∃ p xs i v,x=.ref p/\y=.int i/\SqT K H p xs/\atI xs i=some v/\Q v H
theorem Z0z:IxR X (rIxL X.K):=by
 intro value slice pins s σ H x y v u Q I rx ry h hs
 obtain⟨p,xs,i,z,rfl,rfl,hq,he,q⟩:=h
 cases rx
 obtain⟨t,rfl⟩:=ry
 obtain⟨its,r,pl,hz⟩:=I.list hq
 obtain⟨j,h1,h2,h3,h4,h5⟩:=X0u he
 obtain⟨w,ew,rw'⟩:=r.get h2
 have hl:=r.length
 have hn:=line63
 have fin:EP X pins σ Q w s:=⟨z,H,I,rw',q⟩
 by_cases h0:0<=i
 ·have hj:i.toNat=j:=by
   rw[seqIndex_of h0 h5] at h1
   exact Option.some.inj h1
  exact item_listR pl.isList h0 (by omega) (by rw[hj];simpa using ew) fin hs
 ·have hj:(i+(its.toArray.size:Int)).toNat=j:=by
   rw[q9c (by omega) h4] at h1
   rw[q0m,<-hl]
   exact Option.some.inj h1
  exact q7u (x:=w) pl.isList.typeIs slot_list_getitem.lookup
   (wpAny_getItem_list_neg (Q:=λr s'=>r=w/\EP X pins σ Q r s') pl.isList (by omega) (by rw[q0m]<;>omega) (by omega) (by rw[hj];simpa using ew) ⟨Z,fin⟩) hs
theorem Z0j:IxR X (rIxT X.K):=by
 intro value slice pins s σ H x y v u Q I rx ry h hs
 obtain⟨p,xs,i,z,rfl,rfl,hq,he,q⟩:=h
 cases rx
 obtain⟨t,rfl⟩:=ry
 obtain⟨its,r,pl,hz⟩:=I.tuple hq
 obtain⟨j,h1,h2,h3,h4,h5⟩:=X0u he
 obtain⟨w,ew,rw'⟩:=r.get h2
 have hl:=r.length
 have hn:=line63
 have fin:EP X pins σ Q w s:=⟨z,H,I,rw',q⟩
 exact q7u (x:=w) pl.typeIs slot_tuple_getitem.lookup
  (getItem_tuple (j:=j) (Q:=λr s'=>r=w/\EP X pins σ Q r s') pl (by omega) (by omega) (by rw[q0m,<-hl];exact h1) (by simpa using ew) ⟨Z,fin⟩) hs
theorem Y5x (its:U5)(n j:Nat)(u:W2):Obj.mapSeq (·.setIfInBounds j u) { cls:=.type "list",data:=.seq its.toArray n }={ cls:=.type "list",data:=.seq (its.set j u).toArray n }:=by
 simp[Obj.mapSeq]
theorem Inv.lst {pins:U1}{σ:St}{H:Hp}{s:U7}{p:W9}{xs:List V}(I:Inv X pins σ H s)(h:H p=some (.lst xs)) :
  ∃ (its:U5) (n:Nat),Vals xs its/\s.heap.get? p=some { cls:=.type "list",data:=.seq its.toArray n }/\xs.length<=sizeLine:=by
 obtain⟨z,its,n,r,e⟩:=I.hok p _ h
 exact⟨its,n,r,e,z⟩
theorem Inv.lstUpd {pins:U1}{σ:St}{H:Hp}{s:U7}{p:W9}{xs ys:List V}{its its':U5}{n n':Nat}{f:Obj->Obj}(I:Inv X pins σ H s)(h:H p=some (.lst xs))
  (ho:s.heap.get? p=some { cls:=.type "list",data:=.seq its.toArray n }) (hf:f { cls:=.type "list",data:=.seq its.toArray n }={ cls:=.type "list",data:=.seq its'.toArray n' }) (r:Vals ys its') (hz:ys.length<=sizeLine) (t:Nat) :
  Inv X pins σ (upd H p (.lst ys)) { s with heap:=s.heap.update p f,toks:=t }:=by
 have e:(s.heap.update p f).get? p=some { cls:=.type "list",data:=.seq its'.toArray n' }:=by
  rw[q4v f ho (by rw[hf]<;>rfl),hf]
 refine I.write (x:=p) (e:=p) (by rw[h];trivial) (.inl rfl) (λb u hb q=>(q7y _ _ (Ne.symm hb)).trans q) ⟨_,e⟩ ?_
 exact⟨hz,its',n',r,e⟩
def rSetL:V->V->V->Hp->(Hp->Prop)->Prop:=λo i v H Q=>∃ p xs k j,o=.ref p/\i=.int k/\H p=some (.lst xs)/\ixN xs.length k=some j/\Q (upd H p (.lst (xs.set j v)))
theorem Z4v:PSet X rSetL:=by
 intro pins s σ H o i v ov iv u Q I ro ri rv h
 obtain⟨p,xs,k,j,rfl,rfl,hp,hj,q⟩:=h
 cases ro
 obtain⟨t,rfl⟩:=ri
 obtain⟨its,n,r,ho,hz⟩:=I.lst hp
 obtain⟨h1,h2,h3,h4⟩:=Y9l hj
 have hl:=r.length
 have hn:=line63
 have I':Inv X pins σ (upd H p (.lst (xs.set j v))) { s with heap:=s.heap.update p (Obj.mapSeq (·.setIfInBounds j u)) } :=
  I.lstUpd hp ho (Y5x its n j u) (r.set rv j) (by rw[q8k];exact hz) s.toks
 by_cases h0:0<=k
 ·have hk:k.toNat=j:=by
   rw[seqIndex_of h0 h4] at h1
   exact Option.some.inj h1
  exact PySem.W.ki_setAt ho h0 (by omega) (by rw[q0m,<-hl];exact h4) (by rw[hk];exact⟨_,I',q⟩)
 ·have hk:(k+(its.toArray.size:Int)).toNat=j:=by
   rw[q9c (by omega) h3] at h1
   rw[q0m,<-hl]
   exact Option.some.inj h1
  exact PySem.W.ki_setBack ho (by omega) (by rw[q0m,<-hl];exact h3) (by omega) (by rw[hk];exact⟨_,I',q⟩)
theorem Y0j (lo hi:Option Int)(n:Nat):(sliceBounds lo hi none n).1=((HT.sIx n 0 lo:Nat):Int)/\(sliceBounds lo hi none n).2.1=((HT.sIx n n hi:Nat):Int)/\(sliceBounds lo hi none n).2.2=1:=by
 refine⟨?_,?_,Z⟩
 ·cases lo with
  | none=>simp[sliceBounds,HT.sIx]
  | some i =>
   simp only[sliceBounds,HT.sIx,Option.getD_none,show (1:Int)>0 by decide,q5f]
   by_cases h:i<0
   ·simp only[h,q5f]<;>omega
   ·simp only[h,q4o]<;>omega
 ·cases hi with
  | none=>simp[sliceBounds,HT.sIx]
  | some i =>
   simp only[sliceBounds,HT.sIx,Option.getD_none,show (1:Int)>0 by decide,q5f]
   by_cases h:i<0
   ·simp only[h,q5f]<;>omega
   ·simp only[h,q4o]<;>omega
theorem Z8s (its:U5)(lo hi:Option Int):slicePick its.toArray lo hi none=((its.drop (HT.sIx its.length 0 lo)).take (HT.sIx its.length its.length hi-HT.sIx its.length 0 lo)).toArray:=by
 obtain⟨h1,h2,h3⟩:=Y0j lo hi its.toArray.size
 unfold slicePick
 rw[h1,h2,h3]
 simp only[sliceRange_one,pick_run,q0m]<;>rfl
def rSlL (K:U0):V->Option Int->Option Int->Hp->VK->Prop:=λx lo hi H Q=>∃ a xs,x=.ref a/\SqL K H a xs/\∀ p,H p=none->Q (.ref p) (upd H p (.lst (cutV xs lo hi)))
theorem Z8u:SlR X (rSlL X.K):=by
 intro pins s σ H x v vl vu lo hi sl Q I rx hs pl pu h
 obtain⟨a,xs,rfl,hx,q⟩:=h
 cases rx
 obtain⟨its,r,ht,hz⟩:=I.list hx
 have hlen:=r.length
 refine⟨"list",_,slot_list_getitem.lookup,ht.isList.typeIs,?_⟩
 refine wpAny_getItem_list_slice ht.isList hs pl pu .none (by simp) ?_ (by rw[q0m]<;>omega)
 rw[Z8s,<-hlen]
 refine⟨.ref s.heap.objs.size,_,I.laid (t':=s.toks) (o:=.lst (cutV xs lo hi)) (λb ob q=>q0f _ q) (q0g _) ?_,Z,q _ (I.hok.fresh (q0g _))⟩
 exact⟨q1i (Z7k xs lo hi) hz,_,0,(r.drop (HT.sIx xs.length 0 lo)).take (HT.sIx xs.length xs.length hi-HT.sIx xs.length 0 lo),q0q _ rfl⟩
noncomputable def flatV:V->Bool
 | .non=>true
 | .bl _=>true
 | .int _=>true
 | .str _=>true
 | _=>false
noncomputable def eqV:V->V->Bool
 | .non,.non=>true
 | .bl a,.bl b=>a == b
 | .bl a,.int b=>(if a then 1 else 0) == b
 | .int a,.bl b=>a == (if b then 1 else 0)
 | .int a,.int b=>a == b
 | .str a,.str b=>a == b
 | _,_=>false
theorem W1u {A:W6}{s:U7}{y x:V}{u v:W2}(ry:RelV y u)(rx:RelV x v)(fy:flatV y=true)(fx:flatV x=true):SeqAt.EqAt A s u v (eqV y x):=by
 cases y with
 | non =>
  cases ry
  cases x with
  | non=>cases rx;exact SeqAt.EqAt.same _
  | bl b=>cases rx;exact SeqAt.EqAt.none_bool b
  | int b=>obtain⟨t,rfl⟩:=rx;exact SeqAt.EqAt.none_int b t
  | str b=>obtain⟨t,rfl⟩:=rx;exact SeqAt.EqAt.none_str b t
  | _=>exact absurd (show false=true from fx) q0p
 | bl a =>
  cases ry
  cases x with
  | non=>cases rx;exact SeqAt.EqAt.bool_none a
  | bl b=>cases rx;exact SeqAt.EqAt.bool_bool a b
  | int b=>obtain⟨t,rfl⟩:=rx;exact SeqAt.EqAt.bool_int a b t
  | str b=>obtain⟨t,rfl⟩:=rx;exact SeqAt.EqAt.bool_str a b t
  | _=>exact absurd (show false=true from fx) q0p
 | int a =>
  obtain⟨t',rfl⟩:=ry
  cases x with
  | non=>cases rx;exact SeqAt.EqAt.int_none a t'
  | bl b=>cases rx;exact SeqAt.EqAt.int_bool a t' b
  | int b=>obtain⟨t,rfl⟩:=rx;exact SeqAt.EqAt.int_int a t' b t
  | str b=>obtain⟨t,rfl⟩:=rx;exact SeqAt.EqAt.int_str a t' b t
  | _=>exact absurd (show false=true from fx) q0p
 | str a =>
  obtain⟨t',rfl⟩:=ry
  cases x with
  | non=>cases rx;exact SeqAt.EqAt.str_none a t'
  | bl b=>cases rx;exact SeqAt.EqAt.str_bool a t' b
  | int b=>obtain⟨t,rfl⟩:=rx;exact SeqAt.EqAt.str_int a t' b t
  | str b=>obtain⟨t,rfl⟩:=rx;exact SeqAt.EqAt.str_str a t' b t
  | _=>exact absurd (show false=true from fx) q0p
 | _=>exact absurd (show false=true from fy) q0p
noncomputable def eqU (x:V)(u:W2):Bool:=match u with
 | .none=>eqV .non x
 | .bool b=>eqV (.bl b) x
 | .int i _=>eqV (.int i) x
 | .str z _=>eqV (.str z) x
 | _=>false
theorem X5h {x y:V}{u:W2}(r:RelV y u)(f:flatV y=true):eqU x u=eqV y x:=by
 cases y with
 | non=>cases r;rfl
 | bl b=>cases r;rfl
 | int i=>obtain⟨t,rfl⟩:=r;rfl
 | str z=>obtain⟨t,rfl⟩:=r;rfl
 | _=>exact absurd (show false=true from f) q0p
theorem Y2v {x:V}:∀ {xs:List V}{us:U5},Vals xs us->xs.all flatV=true->us.any (eqU x)=xs.any λy=>eqV y x
 | _,_,.nil,_=>rfl
 | y::xs,u::us,.cons r t,f=>by
  rw[q6p,q1g] at f
  rw[q4z,q4z,X5h r f.1,Y2v t f.2]
theorem Z9e {A:W6}{s:U7}{x:V}{v:W2}(rx:RelV x v)(fx:flatV x=true):∀ {xs:List V}{us:U5},Vals xs us->xs.all flatV=true->∀ u∈us,SeqAt.EqAt A s u v (eqU x u)
 | _,_,.nil,_=>λu hu=>by cases hu
 | y::xs,u::us,.cons r t,f=>λu' hu=>by
  rw[q6p,q1g] at f
  rcases q0t.mp hu with rfl | hu
  ·rw[X5h r f.1];exact W1u r rx f.1 fx
  ·exact Z9e rx fx t f.2 u' hu
noncomputable def inV (x:V)(xs:List V):Bool:=xs.any λy=>eqV y x
def rIn (K:U0)(neg:Bool):R2:=λx y H Q=>∃ p xs,y=.ref p/\(SqL K H p xs∨SqT K H p xs)/\flatV x=true/\xs.all flatV=true/\Q (.bl (if neg then !inV x xs else inV x xs)) H
theorem Y0r:OpR X (compareOp .In) (rIn X.K false):=by
 intro pins s σ H x y v u Q I rx ry h
 obtain⟨p,xs,rfl,hq,fx,fs,q⟩:=h
 cases ry
 rcases hq with hq | hq
 ·obtain⟨its,r,pl,hz⟩:=I.list hq
  refine SeqAt.in_listAt (eqU x) pl.isList (λw hw=>Z9e rx fx r fs w (by simpa using hw)) ⟨.bl _,H,I,Z,?_⟩
  rw[show its.toArray.any (eqU x)=its.any (eqU x) by simp,Y2v r fs]
  exact q
 ·obtain⟨its,r,pl,hz⟩:=I.tuple hq
  refine SeqAt.in_tupleAt (eqU x) pl (λw hw=>Z9e rx fx r fs w (by simpa using hw)) ⟨.bl _,H,I,Z,?_⟩
  rw[show its.toArray.any (eqU x)=its.any (eqU x) by simp,Y2v r fs]
  exact q
theorem Z0u:CallR X (.builtin "len") (λxs H Q=>∃ p ys,xs=[.ref p]/\(SqL X.K H p ys∨SqT X.K H p ys)/\Q (.int ys.length) H):=by
 intro pins s σ H xs us Q I r h
 obtain⟨p,ys,rfl,hq,q⟩:=h
 obtain⟨u,rfl,rx⟩:=vals1 r
 cases rx
 have hn:=line63
 rcases hq with hq | hq
 ·obtain⟨its,r',pl,hz⟩:=I.list hq
  have hlen:=r'.length
  exact Calls.call_len_list pl.isList (by simp only[q0m]<;>omega) ⟨.int ys.length,H,I.tok _,⟨s.toks+1,by rw[q0m,hlen]⟩,q⟩
 ·obtain⟨its,r',pl,hz⟩:=I.tuple hq
  have hlen:=r'.length
  exact len_tuple pl (by simp only[q0m]<;>omega) ⟨.int ys.length,H,I.tok _,⟨s.toks+1,by rw[q0m,hlen]⟩,q⟩
theorem Y1g:CallR X (.type "list") (λxs H Q=>∃ p ys,xs=[.ref p]/\(SqL X.K H p ys∨SqT X.K H p ys)/\∀ l,H l=none->Q (.ref l) (upd H l (.lst ys))):=by
 intro pins s σ H xs us Q I r h
 obtain⟨p,ys,rfl,hq,q⟩:=h
 obtain⟨u,rfl,rx⟩:=vals1 r
 cases rx
 have fin:∀ (its:U5),Vals ys its->ys.length<=sizeLine->∀ (h':Heap) (c':Nat),(∀ b o',s.heap.get? b=some o'->h'.get? b=some o') →
   h'.get? s.heap.objs.size=some { cls:=.type "list",dict:=none,data:=.seq its.toArray c',slots:=#[] }->EP X pins σ Q (.ref s.heap.objs.size) { s with heap:=h' }:=λits r' hz h' c' kp e =>
  ⟨.ref s.heap.objs.size,_,I.laid (t':=s.toks) kp (q0g _) (show ObjOk X.prog X.w _ h' _ (.lst ys) from ⟨hz,its,c',r',e⟩),Z,q _ (I.hok.fresh (q0g _))⟩
 rcases hq with hq | hq
 ·obtain⟨its,r',pl,hz⟩:=I.list hq
  have hlen:=r'.length
  obtain⟨o,ho,hc,n,hd⟩:=pl.isList
  exact call_list_seq p (.inl rfl) ho hc hd (λh' c' kp e=>fin its r' hz h' c' kp e) (by simp only[q0m]<;>omega)
 ·obtain⟨its,r',pl,hz⟩:=I.tuple hq
  have hlen:=r'.length
  obtain⟨o,ho,hc,n,hd⟩:=pl
  exact call_list_seq p (.inr rfl) ho hc hd (λh' c' kp e=>fin its r' hz h' c' kp e) (by simp only[q0m]<;>omega)
def tyV (K:U0)(T:String)(x:V)(H:Hp):Prop:=match x with
 | .str _=>T="str"
 | .int _=>T="int"
 | .ref p=>(T="list"/\∃ xs,SqL K H p xs)∨(T="tuple"/\∃ o,K.lookup p=some o/\o.cls=.type "tuple"/\o.dict=none) ∨
   (T="dict"/\((∃ kvs,H p=some (.dK kvs))∨∃ kvs,H p=some (.dT kvs)))∨(T="set"/\∃ S n,H p=some (.set S n))
 | _=>False
theorem X4j {pins:U1}{σ:St}{H:Hp}{s:U7}{T:String}{x:V}{v:W2}(I:Inv X pins σ H s)(r:RelV x v)(ty:tyV X.K T x H) :
  s.TypeIs v T/\∀ a,v=.ref a->∃ ob,s.heap.get? a=some ob/\ob.dict=none:=by
 cases x with
 | str z =>
  obtain⟨t,rfl⟩:=r
  cases (show T="str" from ty)
  exact⟨typeIs_str s z t,λ_ e=>nomatch e⟩
 | int i =>
  obtain⟨t,rfl⟩:=r
  cases (show T="int" from ty)
  exact⟨q8z s i t,λ_ e=>nomatch e⟩
 | ref p =>
  cases r
  rcases ty with ⟨rfl,xs,hq⟩ | ⟨rfl,o,hk,hc,hd⟩ | ⟨rfl,hk⟩ | ⟨rfl,S,n,hk⟩
  ·obtain⟨its,_,pl,_⟩:=I.list hq
   refine⟨pl.isList.typeIs,λa e=>?_⟩
   cases e
   obtain⟨o,n,e,c,hd,_⟩:=pl
   exact⟨o,e,hd⟩
  ·refine⟨⟨o,I.kIn p o hk,hc⟩,λa e=>?_⟩
   cases e
   exact⟨o,I.kIn _ o hk,hd⟩
  ·have z:∃ o,s.heap.get? p=some o/\o.ExactDict:=by
    rcases hk with ⟨kvs,hk⟩ | ⟨kvs,hk⟩
    ·obtain⟨_,_,_,_,o,_,_,e,ex,_⟩:=I.hok p _ hk
     exact⟨o,e,ex⟩
    ·obtain⟨_,_,_,_,o,_,_,e,ex,_⟩:=I.hok p _ hk
     exact⟨o,e,ex⟩
   obtain⟨o,e,ex⟩:=z
   refine⟨⟨o,e,ex.1⟩,λa e2=>?_⟩
   cases e2
   exact⟨o,e,ex.2.1⟩
  ·obtain⟨o,_,_,_,e,ex,_⟩:=I.hok p _ hk
   refine⟨⟨o,e,ex.1⟩,λa e2=>?_⟩
   cases e2
   exact⟨o,e,ex.2.1⟩
 | _=>exact False.elim ty
def tBM0 (K:U0)(T:String)(r:V->List V->Hp->VK->Prop)(to:TE):TE:=λσ H Q=>to σ H λx H1=>tyV K T x H1/\r x [] H1 Q
def tBM (K:U0)(T:String)(r:V->List V->Hp->VK->Prop)(to:TE)(t:TA):TE:=λσ H Q=>to σ H λx H1=>tyV K T x H1/\t σ H1 λxs H2=>r x xs H2 Q
variable {o e:Expr}{es:List Expr}{to:TE}{t:TA}{name:Str}{apos cpos:Pos}{T id:String}{r:V->List V->Hp->VK->Prop}
theorem Z5x (pa:PlainAttrs T)(slot:Slot T name id)(hty:typeOf (.builtin id)=pure (.type "method_descriptor"))(hm:MtR X id r)(ho:PE X o to)
  (hbase:attributeBase o name X.env (eval o X.env)=eval o X.env:=by rfl) (hline:(apos.endLine == cpos.line)=true:=by rfl):PE X (.Call (.Attribute o name apos) [] [] cpos) (tBM0 X.K T r to):=by
 intro pins s σ H Q I h
 refine wpAny_Call_method0_late hbase hline (thn (ho pins s σ H _ I h) λv s1 ⟨x,H1,I1,r1,ty,q1⟩=>?_)
 obtain⟨h1,h2⟩:=X4j I1 r1 ty
 exact⟨T,id,pa,slot,hty,h1,h2,Calls.callWith_builtin rfl (PySem.evalArgs_none (hm pins s1 σ H1 x [] v [] Q I1 r1 .nil q1))⟩
theorem Y7u (pa:PlainAttrs T)(slot:Slot T name id)(hty:typeOf (.builtin id)=pure (.type "method_descriptor"))(hm:MtR X id r)(ho:PE X o to)(ha:PA X (e::es) t)
  (hbase:attributeBase o name X.env (eval o X.env)=eval o X.env:=by rfl)
  (hfew:((backTo cpos (starEach (e::es) X.env)).all (λx=>!x.1) && (backToKw cpos (keywordEach [] X.env)).all (λx=>x.1.isSome)
   && decide ((e::es).length+([]:List Keyword).length+(if ([]:List Keyword).isEmpty then 0 else 1)<30))=true:=by rfl)
  (hline:(apos.endLine == cpos.line)=true:=by rfl) (hs:starEach (e::es) X.env=(false,eval e X.env)::starEach es X.env:=by rfl) (hplain:(backTo cpos (starEach es X.env)).any (·.1)=false:=by rfl) :
  PE X (.Call (.Attribute o name apos) (e::es) [] cpos) (tBM X.K T r to t):=by
 intro pins s σ H Q I h
 refine wpAny_Call_method_late hbase hfew hline rfl (thn (ho pins s σ H _ I h) λv s1 ⟨x,H1,I1,r1,ty,q1⟩=>?_)
 obtain⟨h1,h2⟩:=X4j I1 r1 ty
 refine⟨T,id,pa,slot,hty,h1,h2,?_⟩
 have hA:=ha cpos pins s1 σ H1 _ I1 q1
 rw[hs] at hA ⊢
 refine Calls.callWith_builtin (by show (false || (backTo cpos (starEach es X.env)).any (·.1))=false;rw[hplain]<;>rfl) (Calls.evalArgs_plain ?_)
 exact thn hA λus s2 ⟨vs,H2,I2,r2,q2⟩=>hm pins s2 σ H2 x vs v us Q I2 r1 r2 q2
end
def MtM (X:Cx)(id:String)(r:V->List V->Hp->VK->Prop):Prop :=
 ∀ (pins:U1) (s:U7) (σ:St) (H:Hp) (x:V) (xs:List V) (v:W2) (us:U5) (Q:VK),Inv X pins σ H s->RelV x v->Vals xs us->r x xs H Q →
  wpAny (model X.prog X.w) X.A (call (.builtin id) (v::us)) (EP X pins σ Q) X.xe s
theorem Vals.one {x:V}{us:U5}(h:Vals [x] us):∃ u,us=[u]/\RelV x u:=by
 cases h with
 | cons r t=>cases t;exact⟨_,rfl,r⟩
theorem Vals.two {x y:V}{us:U5}(h:Vals [x,y] us):∃ u v,us=[u,v]/\RelV x u/\RelV y v:=by
 cases h with
 | cons r t=>cases t with
  | cons q t=>cases t;exact⟨_,_,rfl,r,q⟩
theorem Vals.rep {xs:List V}{us:U5}(h:Vals xs us):∀ k:Nat,Vals (List.replicate k xs).flatten (List.replicate k us).flatten
 | 0=>.nil
 | k+1=>by
  rw[q2s,q2s,q4y,q4y]
  exact Vals.append h (Vals.rep h k)
theorem Y0y (its:U5):∀ (k:Nat) (acc:U5),
  List.foldl (λx1 x2=>x1++x2) acc.toArray (List.replicate k its.toArray)=(acc++(List.replicate k its).flatten).toArray
 | 0,acc=>by simp
 | k+1,acc=>by
  have e:acc.toArray++its.toArray=(acc++its).toArray:=by simp
  have e2:(acc++its)++(List.replicate k its).flatten=acc++(List.replicate (k+1) its).flatten:=by
   rw[q2s,q4y,List.append_assoc]
  rw[<-e2,<-Y0y its k (acc++its),<-e,q2s,q8m]
section
variable {X:Cx}{pins:U1}{σ:St}{H:Hp}{s:U7}{l b:W9}{xs ys zs:List V}
theorem Inv.lset {its its':U5}{n:Nat}{f:Array Value->Array Value}{t':Nat}(I:Inv X pins σ H s)(hH:H l=some (.lst xs))
  (e:s.heap.get? l=some { cls:=.type "list",data:=.seq its.toArray n }) (hf:f its.toArray=its'.toArray) (hv:Vals ys its') (hz:ys.length<=sizeLine) :
  Inv X pins σ (upd H l (.lst ys)) { s with heap:=s.heap.update l (Obj.mapSeq f),toks:=t' }:=by
 have q:=PySem.IsL.update e f
 rw[hf] at q
 refine I.write (x:=l) (e:=l) (by rw[hH];exact trivial) (.inl rfl) (λb' u hb hu=>(q7y s.heap (Obj.mapSeq f) (Ne.symm hb)).trans hu) ⟨_,q⟩ ?_
 exact⟨hz,its',_,hv,q⟩
theorem Inv.lnew {its:U5}{t':Nat}(I:Inv X pins σ H s)(hv:Vals ys its)(hz:ys.length<=sizeLine) :
  Inv X pins σ (upd H s.heap.objs.size (.lst ys)) { s with heap:=s.heap.push { cls:=.type "list",data:=.seq its.toArray },toks:=t' } :=
 I.laid (λ_ _ q=>q0f _ q) (q0g _) ⟨hz,its,0,hv,q0q _ rfl⟩
theorem Inv.fresh (I:Inv X pins σ H s):H s.heap.objs.size=none:=I.hok.fresh (q0g _)
theorem Inv.lstM (I:Inv X pins σ H s)(hH:H l=some (.lst xs)):xs.length<=sizeLine/\∃ (its:U5) (n:Nat),Vals xs its/\xs.length=its.length/\s.heap.get? l=some { cls:=.type "list",data:=.seq its.toArray n }:=by
 obtain⟨z,its,n,r,e⟩:=I.hok l _ hH
 exact⟨z,its,n,r,r.length,e⟩
theorem Y4h {n:Nat}(h:n<=sizeLine):Builtin.List.listTooLong n=false:=by
 unfold Builtin.List.listTooLong
 exact q0w (by omega)
end
section
variable {X:Cx}
def X6o:V->List V->Hp->VK->Prop:=λx vs H Q=>∃ l xs y,x=.ref l/\vs=[y]/\H l=some (.lst xs)/\xs.length<sizeLine/\Q .non (upd H l (.lst (xs++[y])))
theorem Z3d:MtM X "list.append" X6o:=by
 intro pins s σ H x vs v us Q I rx rv h
 obtain⟨l,xs,y,rfl,rfl,hH,hz,q⟩:=h
 cases rx
 obtain⟨u,rfl,ru⟩:=rv.one
 obtain⟨z,its,n,r,hl,e⟩:=I.lstM hH
 refine q9a F.slot_list_append ⟨_,e,Z⟩ F.entry_list_append (F.args_list_append_2 _ _) (PySem.list_append l its.toArray n u (by rw[q0m];omega)) ⟨e,?_⟩
 refine⟨.non,_,I.lset (its':=its++[u]) hH e (by simp) (r.append (.cons ru .nil)) ?_,Z,q⟩
 rw[q1d,List.length_singleton]
 omega
def X6n:V->List V->Hp->VK->Prop:=λx vs H Q=>∃ l b xs zs,x=.ref l/\vs=[.ref b]/\H l=some (.lst xs)/\H b=some (.lst zs)/\xs.length+zs.length<=sizeLine/\Q .non (upd H l (.lst (xs++zs)))
theorem W0y:MtM X "list.extend" X6n:=by
 intro pins s σ H x vs v us Q I rx rv h
 obtain⟨l,b,xs,zs,rfl,rfl,hH,hB,hz,q⟩:=h
 cases rx
 obtain⟨u,rfl,ru⟩:=rv.one
 cases ru
 obtain⟨z,its,n,r,hl,e⟩:=I.lstM hH
 obtain⟨z2,its2,n2,r2,hl2,e2⟩:=I.lstM hB
 have hsz:its.toArray.size+its2.toArray.size<=sizeLine:=by rw[q0m,q0m];omega
 have hlong:¬ (!its.toArray.isEmpty && Builtin.List.listTooLong (its.toArray.size+its2.toArray.size))=true:=by
  rw[Y4h hsz,Bool.and_false]
  exact q0p
 refine q9a F.slot_list_extend ⟨_,e,Z⟩ F.entry_list_extend (F.args_list_extend_2 _ _)
  (AutoSeq1.list_extend_list_list_0 l its.toArray n b its2.toArray n2 hlong (by rw[q0m];omega) (by omega)) ⟨e,e2,?_⟩
 refine⟨.non,_,I.lset (its':=its++its2) hH e (by simp) (r.append r2) ?_,Z,q⟩
 rw[q1d]
 omega
def rCat:R2:=λx y H Q=>∃ l b xs zs,x=.ref l/\y=.ref b/\H l=some (.lst xs)/\H b=some (.lst zs)/\xs.length+zs.length<=sizeLine/\∀ p,H p=none->Q (.ref p) (upd H p (.lst (xs++zs)))
theorem X4u:OpR X (binaryOp .Add) rCat:=by
 intro pins s σ H x y v u Q I rx ry h
 obtain⟨l,b,xs,zs,rfl,rfl,hH,hB,hz,q⟩:=h
 cases rx
 cases ry
 obtain⟨z,its,n,r,hl,e⟩:=I.lstM hH
 obtain⟨z2,its2,n2,r2,hl2,e2⟩:=I.lstM hB
 refine PySem.P.add_list e e2 ?_ (by rw[q0m,q0m];omega)
 have ea:its.toArray++its2.toArray=(its++its2).toArray:=by simp
 rw[ea]
 exact⟨.ref _,_,I.lnew (t':=s.toks) (r.append r2) (by rw[q1d];omega),Z,q _ I.fresh⟩
def rRep:R2:=λx y H Q=>∃ l k xs,x=.ref l/\y=.int k/\H l=some (.lst xs)/\-(2^63)<=k/\k<2^63/\xs.length*k.toNat<=sizeLine ∧
 ∀ p,H p=none->Q (.ref p) (upd H p (.lst (List.replicate k.toNat xs).flatten))
theorem X8b {α:Type}(xs:List α)(k:Nat):(List.replicate k xs).flatten.length=k*xs.length:=by
 induction k with
 | zero=>simp
 | succ k ih=>rw[q2s,q4y,q1d,ih,Nat.succ_mul,q6g]
theorem W0i:OpR X (binaryOp .Mult) rRep:=by
 intro pins s σ H x y v u Q I rx ry h
 obtain⟨l,k,xs,rfl,rfl,hH,h1,h2,hz,q⟩:=h
 cases rx
 obtain⟨t,rfl⟩:=ry
 obtain⟨z,its,n,r,hl,e⟩:=I.lstM hH
 have hlen:its.toArray.size*k.toNat<=sizeLine:=by rw[q0m,<-hl];exact hz
 have hcap:¬ its.toArray.size*k.toNat>(2^63-1) / 8:=by
  have:(sizeLine:Nat)<=(2^63-1) / 8:=by decide
  omega
 have hfit:¬ (!Builtin.List.listFitsIndex k)=true:=by
  rw[fitsIndex_both h1 h2]
  exact q0p
 have hlong:¬ Builtin.List.listTooLong (its.toArray.size*k.toNat)=true:=by
  rw[Y4h hlen]
  exact q0p
 have hnew:List.foldl (λx1 x2=>x1++x2) #[] (List.replicate (if its.toArray.isEmpty=true then 0 else k.toNat) its.toArray)=(List.replicate k.toNat its).flatten.toArray:=by
  have f0:∀ m:Nat,List.foldl (λx1 x2=>x1++x2) #[] (List.replicate m its.toArray)=(List.replicate m its).flatten.toArray:=λm=>by
   have:=Y0y its m []
   rw[List.nil_append] at this
   exact this
  rw[f0]
  cases its with
  | nil=>simp
  | cons a r'=>rw[if_neg (by simp)]
 refine wpAny_binaryOp_repeat_ref (T:="list") (U:="int") (by decide) ⟨_,e,Z⟩ (λs'=>q8z s' k t) noFill_list_mul F.fills_int_mul F.slot_int_rmul repeat_list F.slot_int_index.lookup
  (q9a F.slot_int_rmul (q8z s k t) F.entry_int_rmul (F.args_int_rmul_2 _ _) (int___rmul___int_list k t l its.toArray n)
   ⟨e,Z,⟨_,e,Z⟩,q9a F.slot_list_mul ⟨_,e,Z⟩ F.entry_list_mul (F.args_list_mul_2 _ _) (AutoListH.list___mul___list_int_3 l its.toArray n k t hfit hcap hlong) ⟨e,?_⟩⟩)
 rw[hnew]
 exact⟨.ref _,_,I.lnew (t':=s.toks) (r.rep k.toNat) (by rw[X8b,Nat.mul_comm];exact hz),Z,q _ I.fresh⟩
end
section
variable {prog:U8}{w:W1}{A:W6}{E:U2}{s:U7}
end
section
variable {X:Cx}
end
end L2
namespace Att
open PySem.W PySem.Calls
theorem Z7j {P:Params}{h:Heap}:∀ (ns:U6) (vs:U5),WellAll P h vs (ns.map WData.int)->IntsAre vs ns:=by
 intro ns
 induction ns with
 | nil =>
  intro vs w
  rw[q8j] at w
  cases w
  exact .nil
 | cons n ns ih =>
  intro vs w
  rw[q0z] at w
  cases w with
  | cons a b =>
   cases a
   exact .cons _ _ (ih _ b)
theorem Y7k {l:OpenLaw}{n:Nat}(hn:l.most=some n){P:Params}{h:Heap}{args:List WData}{vals:U5}
  (hpre:l.row.toRowW.claim.pre args=true) (hwl:WellAll P h vals args) :
  ∃ a vs ns,vals=[Value.ref a]/\args=[WData.list (ns.map WData.int)]/\h.get? a=some { cls:=.type "list",data:=.seq vs.toArray }/\IntsAre vs ns/\ns.length<=n:=by
 have hsh:WShape.hasAll [] args [.list .int]=true:=(pre_splitW hpre).1
 have hc:l.pre.holds [] { args:=args }=true:=(pre_splitW hpre).2
 obtain⟨d,r,rfl,h1,h2⟩:=hasAllW_cons hsh
 obtain rfl:=hasAllW_nil h2
 obtain⟨xs,rfl,h3⟩:=hasW_list h1
 obtain⟨ns,rfl⟩:=items_int h3
 have hlen:ns.length<=n:=by
  unfold OpenLaw.pre at hc
  have h4:(WTm.not (.lt (.lit (.int (n:Int))) (.len (.arg 0)))).holds [] { args:=[.list (ns.map .int)] }=true:=by
   have h4:=(holds_andW hc).1
   rw[hn] at h4
   exact h4
  have h5:=condW_of h4 (w_not (w_lt w_lit (w_len_list (w_arg rfl))))
  rw[q0a] at h5
  refine Nat.le_of_not_lt λq=>?_
  have q':(n:Int)<((ns.length:Nat):Int):=by omega
  first
   | (rw[q1f q'] at h5;exact absurd h5 (by decide))
   | (simp at h5;omega)
 cases hwl with
 | cons w1 w2 =>
  cases w2
  cases w1 with
  | list ho hall=>exact⟨_,_,ns,rfl,rfl,ho,Z7j ns _ hall,hlen⟩
theorem Y7r (l:OpenLaw)(args:List WData):l.row.toRowW.claim.post args (.bool true) args=true :=
 postW_of (r:=l.row.toRowW) (X:=(true == true))
  (show WShape.has [] (.bool true) .bool=true by first | rfl | decide | simp[WShape.has,WShape.arms,WShape.armsAll])
  (show (WTm.eq .res (.lit (.bool true))).value [] { args:=args,res:=some (.bool true),after:=args }=some (.bool (true == true)) from w_eq_bool (w_res rfl) w_lit) rfl
section
variable {prog:U8}{w:W1}{A:W6}{E:U2}{s:U7}{K:Frag}
end
end Att
namespace L2
theorem Z4s:∀ {vs:U5}{ns:U6},IntsAre vs ns->Vals (ns.map V.int) vs
 | _,_,.nil=>.nil
 | _,_,.cons n t h=>.cons ⟨t,rfl⟩ (Z4s h)
def Only (H:Hp):Prop:=∀ b,H b=none∨∃ o xs,H b=some (.frz o (.lst xs))
theorem X3f {P:U8}{w:W1}{K:U0}{mg mb:U4}{CX:CXT}{k:Nat}{fa a:W9}{fd:FuncData}{x:Str}{sp:Sp}{s₁:U7}{vs:U5}{ns:U6}
  (KX:K.In s₁.heap) (hns:s₁.heap.Ns mainGlobals mg) (hb:s₁.heap.Ns builtinsNs mb) (hbb:∀ x:Str,x≠"__name__"->mb x=bootBuiltins x) (hlim:s₁.heap.NoLimit) (hg:s₁.gens=#[])
  (ha:s₁.heap.get? a=some { cls:=.type "list",data:=.seq vs.toArray }) (hi:IntsAre vs ns) (hl:ns.length<=sizeLine) (hr:Room k callerA)
  (F:∀ base:Heap,K.In base->base.Ns mainGlobals mg->FnOk P w K mg base CX k fa fd [x] sp) (hbind:∀ (s:U7) (u:W2),BindsTo s fd ⟨[u],[]⟩ [(x,u)])
  (hsp:∀ H:Hp,Only H->SqL K H a (ns.map V.int)->sp [.ref a] H (λv _=>v=.bl true) λ_ _ _=>False)
  (hCX:∀ H e s',CX [] H s₁ (λ_ _ _=>False) e s'->False) :
  codeAny (model P w) callerA (.call (.ref fa) ⟨[.ref a],[]⟩) (λr s'=>r=.ok (.ret (.bool true))/\OldK s₁.heap s'.heap/\s'.os=s₁.os/\AllBare s'.gens) s₁:=by
 have rv:=Z4s hi
 have lenV:=hi.length
 have core:∀ H:Hp,Only H->SqL K H a (ns.map V.int)->HOk P w H s₁.heap->(∀ b,H b≠none->b=a)->(H a≠none->K.lookup a=none) →
   codeAny (model P w) callerA (.call (.ref fa) ⟨[.ref a],[]⟩) (λr s'=>r=.ok (.ret (.bool true))/\OldK s₁.heap s'.heap/\s'.os=s₁.os/\AllBare s'.gens) s₁:=by
  intro H hO hS hok hA hK
  have base_of:∀ {b:W9}{o:Obj},s₁.heap.get? b=some o->H b=none->(hidT s₁.heap H).get? b=some o:=λe n=>X3k e n
  have noA:∀ {b:W9}{o:Obj}{es:Array DictEntry}{ep:Nat},s₁.heap.get? b=some o->o.data=.dict es ep->H b=none:=λ{b o es ep} e d=>by
   cases q:H b with
   | none=>rfl
   | some u =>
    have e':b=a:=hA b (by rw[q];simp)
    subst e'
    rw[ha] at e;cases e
    have d':Data.seq vs.toArray _=Data.dict es ep:=d
    cases d'
  have nsK:∀ {b:W9}{m:U4},s₁.heap.Ns b m->(hidT s₁.heap H).Ns b m:=λ{b m} ⟨o,es,ep,e,d,r⟩=>⟨o,es,ep,base_of e (noA e d),d,r⟩
  have hKb:K.In (hidT s₁.heap H):=λb o e=>base_of (KX b o e) (by
   cases q:H b with
   | none=>rfl
   | some u =>
    have e':b=a:=hA b (by rw[q];simp)
    subst e'
    rw[hK (by rw[q];simp)] at e;cases e)
  have hM:Mod K mg (hidT s₁.heap H):=⟨hKb,nsK hns,⟨mb,nsK hb,hbb⟩,let ⟨mc,h1,h2⟩:=hlim;⟨mc,nsK h1,h2⟩⟩
  have e0:Env0 P w K mg (hidT s₁.heap H) callerA [] s₁ H:=⟨Z,hM,λb o e=>X7p e,Nat.le_of_eq (Y9t _ _),trivial,λb hb=>absurd (show b∈([]:U3) from hb) (by simp),hok,.of_eq hg⟩
  refine q6e ((F _ hKb (nsK hns)).run callerA [] s₁ H ⟨[.ref a],[]⟩ [.ref a] [.ref a] _ _ hr e0 (hbind s₁ (.ref a)) (.cons rfl .nil) (hsp H hO hS)) λr s' h=>?_
  cases r with
  | error e=>exact(hCX H e s' h).elim
  | ok fl =>
   cases fl with
   | next=>exact False.elim h
   | brk=>exact False.elim h
   | cont=>exact False.elim h
   | ret u =>
    obtain⟨v,H',os,bare,un,hok',r',q⟩:=h
    have q':v=.bl true:=q
    subst q'
    obtain rfl:u=Value.bool true:=r'
    refine⟨Z,OldK.of_keep λb o e=>?_,os,bare⟩
    cases q:H b with
    | none=>exact un.keep b o e q (by intro z;exact absurd (show b∈([]:U3) from z) (by simp)) (by simp)
    | some u =>
     rcases hO b with z | ⟨ob,xs,z⟩
     ·rw[q] at z;cases z
     ·have z2:=un.frzs b ob _ z
      obtain⟨e1,_⟩:=hok b _ z
      obtain⟨e2,_⟩:=hok' b _ z2
      rw[e] at e1;cases e1
      exact e2
 cases hk:K.lookup a with
 | some o =>
  have e:=KX a o hk
  rw[ha] at e
  cases e
  refine core (λ_=>none) (λ_=>.inl rfl) (.inr ⟨_,vs.toArray,_,hk,Z,Z,Z,by rw[q0m,lenV];exact hl,by simpa using rv⟩) (λb u z=>by have z':(none:Option HO)=some u:=z;cases z') (λb z=>absurd rfl z) λz=>absurd rfl z
 | none =>
  refine core (λb=>if b=a then some (.frz { cls:=.type "list",data:=.seq vs.toArray } (.lst (ns.map V.int))) else none) (λb=>?_) (.inl (.inr ⟨{ cls:=.type "list",data:=.seq vs.toArray },if_pos rfl⟩)) (λb u z=>?_) (λb z=>?_) λ_=>hk
  ·by_cases hb:b=a
   ·exact .inr ⟨_,_,if_pos hb⟩
   ·exact .inl (if_neg hb)
  ·by_cases hb:b=a
   ·have z':=(if_pos hb).symm.trans z
    cases z'
    subst hb
    exact⟨ha,by rw[q0a];exact hl,vs,_,rv,ha⟩
   ·have z':=(if_neg hb).symm.trans z
    cases z'
  ·by_cases hb:b=a
   ·exact hb
   ·exact absurd (if_neg hb) z
end L2
namespace L2
noncomputable def Y9s (s:Stmt)(j:Nat):Stmt:=match s with
 | .ClassDef _ _ _ body _ _ _ _ _ _ _=>body.getD j (.Pass ⟨0,0,0,0⟩)
 | _=>.Pass ⟨0,0,0,0⟩
noncomputable def Z1m (s:Stmt):Arguments:=match s with
 | .FunctionDef _ a _ _ _ _ _ _ _ _=>a
 | _=>{ posonlyargs:=[],args:=[],vararg:=none,kwonlyargs:=[],kw_defaults:=[],kwarg:=none,defaults:=[] }
noncomputable def Z1h (s:Stmt):List Stmt:=match s with
 | .FunctionDef _ _ b _ _ _ _ _ _ _=>b
 | _=>[]
noncomputable def Z0i (s:Stmt):Scope:=match s with
 | .FunctionDef _ _ _ _ _ _ sc _ _ _=>sc
 | _=>{ kind:=.function,names:=[],isGenerator:=false,isCoroutine:=false }
noncomputable abbrev CX0:CXT:=λ_ _ _ _ _ _=>False
abbrev E0:XK:=λ_ _ _=>False
theorem pass0 {X:Cx}:Passes CX0 X E0:=λ_ _ _ _ _ _ _ h=>h.elim
structure Fun (K:U0) (x qual:Str) (st:Stmt) (f:W9) (fd:FuncData):Prop where
 ex:∃ (oc:W2) (od:W5) (kV doc pm:W2) (an:W5) (cdv ct:W2) (osl:W4),
  fd=PySem.W.fnOf x qual (Z1m st) (Z1h st) (Z0i st) .none kV doc pm an cdv ct/\K.lookup f=some ⟨oc,od,.func fd,osl⟩/\PySem.W.codeIn K cdv qual=true
 kp:PySem.W.keepIn K (.ref f)=true
section
variable {P:U8}{w:W1}{K:U0}{mg:U4}{base:Heap}
theorem Fun.ok {x qual:Str}{st:Stmt}{f:W9}{fd:FuncData}{N ps:W0}{k:Nat}{sp:Sp}(F:Fun K x qual st f fd)(S:FnScope N ps (Z0i st))(len:∀ vs H Q E,sp vs H Q E->vs.length=ps.length)
  (hbody:∀ (cdv:W2) (A:W6) (outer:List Env) (s:U7) (H:Hp) (vs:List V) (Q:VK) (E:XK),Room k (A.deeper (envOfC qual (Z0i st) s.heap.objs.size f cdv))->sp vs H Q E →
   ∃ t,PSs (cxOf CX0 P w K mg base N qual (Z0i st) f cdv A outer s H E).nox (Z1h st) t/\t { nx:=λ_ H'=>Q .non H',rt:=Q } (start N vs) H):FnOk P w K mg base CX0 (k+1) f fd ps sp:=by
 obtain⟨oc,od,kV,doc,pm,an,cdv,ct,osl,rfl,lk,hcd⟩:=F.ex
 refine W1r lk hcd S len λA outer s H vs Q E hr hsp=>?_
 obtain⟨t,h,q⟩:=hbody cdv A outer s H vs Q E hr hsp
 exact⟨t,h.nox,q⟩
theorem W1q {x qual:Str}{st:Stmt}{f:W9}{oc:W2}{od an:W5}{osl:W4}{kV doc pm cdv ct:W2}(l:K.lookup f=some ⟨oc,od,.func (PySem.W.fnOf x qual (Z1m st) (Z1h st) (Z0i st) .none kV doc pm an cdv ct),osl⟩)
  (c:PySem.W.codeIn K cdv qual=true) (k:PySem.W.keepIn K (.ref f)=true):Fun K x qual st f (PySem.W.fnOf x qual (Z1m st) (Z1h st) (Z0i st) .none kV doc pm an cdv ct):=⟨⟨oc,od,kV,doc,pm,an,cdv,ct,osl,Z,l,c⟩,k⟩
end
theorem X3j {A:W6}{k:Nat}(hr:Room k A):A.units+1<cLine:=q2y (Nat.add_le_add_left (by decide:1<=64) _) hr.units
section
variable {X:Cx}
theorem pv (i:Nat){x:Str}{pos:Pos}(hN:X.N[i]?=some x:=by rfl)(hv:Vis X.env.scope x:=by first | exact Or.inl rfl | exact Or.inr (Or.inl rfl) | exact Or.inr (Or.inr rfl))(hd:(x == ("__debug__":Str))=false:=by decide)
  (hcd:(x == ("__classdict__":Str))=false:=by decide):PE X (.Name x pos) (tVar i):=W0d hN hv hd hcd
end
theorem iteF {A B:Prop}(h:B):if false=true then A else B:=by
 rw[if_neg q0p]
 exact h
theorem iteT {A B:Prop}(h:A):if true=true then A else B:=by
 rw[if_pos rfl]
 exact h
def Same (H H':Hp):Prop:=∀ b o,H b=some o->H' b=some o
theorem Same.refl (H:Hp):Same H H:=λ_ _ h=>h
theorem Same.trans {H H1 H2:Hp}(a:Same H H1)(b:Same H1 H2):Same H H2:=λc o h=>b c o (a c o h)
theorem Same.free {H H':Hp}(e:Same H H'){l:W9}(h:H' l=Option.none):H l=Option.none:=by
 cases q:H l with
 | none=>rfl
 | some o =>
  rw[e l o q] at h
  cases h
theorem Same.seq {K:U0}{H H':Hp}{a:W9}{xs:List V}(e:Same H H')(h:SqL K H a xs):SqL K H' a xs:=by
 rcases h with (h | ⟨o,h⟩) | h
 ·exact .inl (.inl (e _ _ h))
 ·exact .inl (.inr ⟨o,e _ _ h⟩)
 ·exact .inr h
end L2
set_option maxHeartbeats 4000000
namespace L2
def Sz (k:Nat)(x:Int):Prop:=x.natAbs<2^k
instance (k:Nat) (x:Int):Decidable (Sz k x):=by unfold Sz;infer_instance
theorem Sz.mono {j k:Nat}{x:Int}(h:Sz j x)(hjk:j<=k):Sz k x:=q0k h (q1a (by decide) hjk)
theorem Sz.le {k:Nat}{x y:Int}(h:Sz k x)(hy:y.natAbs<=x.natAbs):Sz k y:=q2y hy h
theorem Sz.mul {j k:Nat}{x y:Int}(h:Sz j x)(h':Sz k y):Sz (j+k) (x*y):=by
 unfold Sz at *
 rw[q6c,q6a]
 exact Nat.mul_lt_mul'' h h'
theorem Sz.neg {k:Nat}{x:Int}(h:Sz k x):Sz k (-x):=by unfold Sz at *;rwa [Int.natAbs_neg]
theorem Sz.add {j k:Nat}{x y:Int}(h:Sz j x)(h':Sz k y):Sz (max j k+1) (x+y):=by
 have h1:=h.mono (Nat.le_max_left j k)
 have h2:=h'.mono (Nat.le_max_right j k)
 unfold Sz at *
 rw[q4r]
 have:=Int.natAbs_add_le x y
 omega
theorem Sz.sub {j k:Nat}{x y:Int}(h:Sz j x)(h':Sz k y):Sz (max j k+1) (x-y):=by
 have:=h.add h'.neg
 rwa [<-q7c] at this
theorem Sz.bits {k:Nat}{x:Int}(h:Sz k x):Builtin.Int.intBits x<=k:=by
 unfold Builtin.Int.intBits
 split
 ·exact q1l _
 ·rename_i hx
  have hx':x≠0:=by simpa using hx
  have hn:x.natAbs≠0:=by omega
  exact(q8w hn).mpr h
theorem Sz.log2 {k:Nat}{x:Int}(h:Sz k x)(hk:0<k):x.natAbs.log2<k:=by
 by_cases hn:x.natAbs=0
 ·rw[hn];simpa using hk
 ·exact(q8w hn).mpr h
def CDivS (_i j:Int):Prop:=j≠0/\Sz 9000 j
section
variable {X:Cx}
theorem Z9c:OpR X (binaryOp .FloorDiv) (rI CDivS λi j=>.int (i.fdiv j)):=opI λ_ _ _ _ _ _ _ hc q=>floordiv_int hc.1 q (.inl (PyProof.noPylong_of_log2 (hc.2.log2 (by decide))))
theorem Z3o {h:Heap}{a:W9}{vs:U5}{ns:U6}(hl:IsTup h a vs.toArray)(hi:IntsAre vs ns):Reads h (.ref a) (.tuple (ns.map PyData.int)) []:=by
 obtain⟨o,ho,hc,n,hd⟩:=hl
 exact Reads.tuple ho hc hd (by simpa using PySem.W.readsAll_of_ints hi)
theorem Z3r (ns:U6):SeqAt.shaped (.tuple (ns.map PyData.int))=true:=by
 have h1:=q8e ns
 have h2:PyData.depth (.tuple (ns.map PyData.int))<=64:=by simp only[PyData.depth];omega
 show (PyData.canLay0 (.tuple (ns.map PyData.int)) && decide (PyData.depth (.tuple (ns.map PyData.int))<=64))=true
 rw[q1g]
 exact⟨by simp only[PyData.canLay0];exact q7n ns,q1f h2⟩
def rEqTI (K:U0)(neg:Bool):R2:=λx y H Q=>∃ (a b:W9) (ns ms:U6),x=.ref a/\y=.ref b/\SqT K H a (ns.map V.int)/\SqT K H b (ms.map V.int)/\Q (.bl (if neg then !decide (ns=ms) else decide (ns=ms))) H
theorem Y2f (hu:X.A.units+64<cLine):OpR X (compareOp .Eq) (rEqTI X.K false):=by
 intro pins s σ H x y v u Q I rx ry h
 obtain⟨a,b,ns,ms,rfl,rfl,h1,h2,q⟩:=h
 cases rx;cases ry
 obtain⟨its,rv,p,_⟩:=I.tuple h1
 obtain⟨its',rv',p',_⟩:=I.tuple h2
 refine eq_dataH_same (Z3o p (Z1x rv)) (Z3o p' (Z1x rv')) (Z3r ns) (Z3r ms) hu (by simp only[SeqAt.noMix];exact q6y ns ms) ?_
 refine⟨.bl (decide (ns=ms)),H,I,?_,q⟩
 show _=_
 simp only[PySem.Spec.same]
 rw[q7g]
theorem Y8b (hu:X.A.units+64<cLine):OpR X (compareOp .NotEq) (rEqTI X.K true):=by
 intro pins s σ H x y v u Q I rx ry h
 obtain⟨a,b,ns,ms,rfl,rfl,h1,h2,q⟩:=h
 cases rx;cases ry
 obtain⟨its,rv,p,_⟩:=I.tuple h1
 obtain⟨its',rv',p',_⟩:=I.tuple h2
 refine ne_dataH_same (Z3o p (Z1x rv)) (Z3o p' (Z1x rv')) (Z3r ns) (Z3r ms) hu (by simp only[SeqAt.noMix];exact q6y ns ms) ?_
 refine⟨.bl (!decide (ns=ms)),H,I,?_,q⟩
 show _=_
 simp only[PySem.Spec.same]
 rw[q7g]
theorem Z1r:CallR X (.builtin "isinstance") (λxs H Q=>∃ x T t b,xs=[x,.ty T]/\TyOf X.K H x t/\PySem.W.kitOne X.K t (.type T)=some b/\Q (.bl b) H):=by
 intro pins s σ H xs us Q I r h
 obtain⟨x,T,t,b,rfl,ty,e,q⟩:=h
 obtain⟨u,v,rfl,ru,rv⟩:=r.two
 cases rv
 exact Y9n I ru ty e λtk=>⟨.bl b,H,I.tok tk,Z,q⟩
end
section
variable {prog:U8}{w:W1}{A:W6}{E:U2}
end
section
variable {X:Cx}{pos:Pos}
end
section
variable {X:Cx}{tg:Expr}
end
end L2
namespace L2
theorem Z8b {α β:Type}{f:α->β->Sem (ForInStep β)}{g:β->α->β}:∀ (l:List α) (b:β),(∀ x∈l,∀ b,f x b=pure (.yield (g b x)))->forIn l b f=pure (l.foldl g b)
 | [],b,_=>rfl
 | x::r,b,h=>by
  rw[List.forIn_cons,h x q1r b,pure_bind]
  exact Z8b r (g b x) λy hy=>h y (q1n _ hy)
noncomputable def cloF (cells:List (Str × Addr))(cs:List (Str × Addr))(x:Str × NameKind):List (Str × Addr):=if x.2 == .free then (x.1,(cells.lookup x.1).getD 0)::cs else cs
noncomputable def clo (names:List (Str × NameKind))(cells:List (Str × Addr)):List (Str × Addr):=names.foldl (cloF cells) []
theorem Z4j {scope:Scope}{env:Env}(h:∀ x∈scope.names,x.2=.free->∃ c,env.cells.lookup x.1=some c):closureFor scope env=pure (clo scope.names env.cells):=by
 simp only[closureFor]
 unfold clo
 rw[Z8b (g:=cloF env.cells) scope.names [] (λx hx b=>by
  obtain⟨n,k⟩:=x
  unfold cloF
  by_cases hk:k=.free
  ·subst hk
   obtain⟨c,hc⟩:=h (n,.free) hx rfl
   have hc':env.cells.lookup n=some c:=hc
   simp[cellOf,hc']
  ·have hb:(k == NameKind.free)=false:=by simpa using hk
   simp[hb])]
 rfl
theorem Z4m {x n:Str}{c:W9}{l:List (Str × Addr)}:List.lookup x ((n,c)::l)=if x=n then some c else List.lookup x l:=by
 by_cases h:x=n
 ·subst h
  rw[if_pos rfl,List.lookup_cons_self]
 ·rw[if_neg h,q5d]
  have:(x == n)=false:=by simpa using h
  rw[this]
theorem X0j {cells:List (Str × Addr)}:∀ (names:List (Str × NameKind)) (cs:List (Str × Addr)),(∀ x∈names,x.2=.free->∃ c,cells.lookup x.1=some c)->(∀ x c,cs.lookup x=some c->cells.lookup x=some c) →
  ∀ x c,(names.foldl (cloF cells) cs).lookup x=some c->cells.lookup x=some c
 | [],cs,_,h0=>h0
 | (n,k)::r,cs,h,h0=>by
  refine X0j r _ (λy hy=>h y (q1n _ hy)) λx c e=>?_
  unfold cloF at e
  by_cases hk:k=.free
  ·subst hk
   obtain⟨c',hc'⟩:=h (n,.free) q1r rfl
   simp only[beq_self_eq_true,q5f] at e
   rw[Z4m] at e
   have hc':cells.lookup n=some c':=hc'
   by_cases hx:x=n
   ·subst hx
    rw[if_pos rfl,hc'] at e
    rw[hc']
    exact e
   ·rw[if_neg hx] at e
    exact h0 x c e
  ·have hb:(k == NameKind.free)=false:=by simpa using hk
   simp only[hb,q3z,q4o] at e
   exact h0 x c e
theorem Z9r {cells:List (Str × Addr)}:∀ (names:List (Str × NameKind)) (cs:List (Str × Addr)) (x:Str),((x,NameKind.free)∈names∨∃ c,cs.lookup x=some c)->∃ c,(names.foldl (cloF cells) cs).lookup x=some c
 | [],cs,x,h=>by
  rcases h with h | h
  ·cases h
  ·exact h
 | (n,k)::r,cs,x,h=>by
  refine Z9r r _ x ?_
  unfold cloF
  by_cases hk:k=.free
  ·subst hk
   simp only[beq_self_eq_true,q5f]
   rw[Z4m]
   by_cases hx:x=n
   ·exact .inr ⟨_,if_pos hx⟩
   ·rw[if_neg hx]
    rcases h with h | h
    ·rcases q0t.mp h with h | h
     ·exact absurd (congrArg Prod.fst h) hx
     ·exact .inl h
    ·exact .inr h
  ·have hb:(k == NameKind.free)=false:=by simpa using hk
   simp only[hb,q3z,q4o]
   rcases h with h | h
   ·rcases q0t.mp h with h | h
    ·exact absurd (congrArg Prod.snd h).symm hk
    ·exact .inl h
   ·exact .inr h
structure LcOk (N:W0) (osc sc:Scope) (Nc:W0) (mp:W7):Prop where
 kind:sc.kind=.function
 nocell:∀ y∈sc.names,y.2≠.cell
 names:∀ y∈sc.names,y.2=.local->sc.names.lookup y.1=some .local
 free:∀ y∈sc.names,y.2=.free->osc.names.lookup y.1=some .cell∨osc.names.lookup y.1=some .free
 len:mp.length=Nc.length
 map:∀ (i j:Nat),mp[i]?=some (some j)->∃ x,Nc[i]?=some x/\N[j]?=some x/\sc.names.lookup x=some .free
noncomputable def lcChk (N:W0)(osc sc:Scope)(Nc:W0)(mp:W7):Bool :=
 decide (sc.kind=.function) && sc.names.all (λy=>!decide (y.2=.cell) && (!decide (y.2=.local) || decide (sc.names.lookup y.1=some .local)) &&
  (!decide (y.2=.free) || decide (osc.names.lookup y.1=some .cell) || decide (osc.names.lookup y.1=some .free))) &&
 decide (mp.length=Nc.length) && (List.range mp.length).all λi=>match mp[i]? with
  | some (some j)=>match Nc[i]? with
   | some x=>decide (N[j]?=some x) && decide (sc.names.lookup x=some .free)
   | none=>false
  | _=>true
theorem LcOk.of {N:W0}{osc sc:Scope}{Nc:W0}{mp:W7}(h:lcChk N osc sc Nc mp=true):LcOk N osc sc Nc mp:=by
 unfold lcChk at h
 simp only[q1g,q2f,q2m,q5t,Bool.not_eq_true',decide_eq_false_iff_not] at h
 obtain⟨⟨⟨h1,h2⟩,h3⟩,h4⟩:=h
 refine⟨h1,λy hy=>(h2 y hy).1.1,λy hy e=>?_,λy hy e=>?_,h3,λi j e=>?_⟩
 ·rcases (h2 y hy).1.2 with q | q
  ·exact absurd e q
  ·exact q
 ·rcases (h2 y hy).2 with (q | q) | q
  ·exact absurd e q
  ·exact .inl q
  ·exact .inr q
 ·have hi:i<mp.length:=(q0l.mp e).1
  have q:=h4 i (q1o.mpr hi)
  rw[e] at q
  cases hx:Nc[i]? with
  | none=>rw[hx] at q;simp at q
  | some x =>
   rw[hx] at q
   simp only[q1g,q2f] at q
   exact⟨x,Z,q.1,q.2⟩
theorem Z4f {f:Str × NameKind->Str × NameKind}(h1:∀ p,(f p).1=p.1)(h2:∀ p,p.2=.free->(f p).2=.cell∨(f p).2=.free):∀ {names:List (Str × NameKind)}{x:Str},names.lookup x=some .free->(names.map f).lookup x=some .cell∨(names.map f).lookup x=some .free
 | [],_,h=>by simp at h
 | (n,k)::r,x,h=>by
  have ih:=@Z4f f h1 h2 r x
  rw[q0z]
  have q1:=h1 (n,k)
  have q2:=h2 (n,k)
  generalize f (n,k)=z at q1 q2
  obtain⟨n',k'⟩:=z
  have q1':n'=n:=q1
  subst q1'
  cases hx:x == n' with
  | true =>
   rw[q5d,hx] at h
   have hk:k=.free:=by simpa using h
   rw[q5d,hx]
   rcases q2 hk with e | e
   ·have e':k'=.cell:=e
    subst e'
    exact .inl rfl
   ·have e':k'=.free:=e
    subst e'
    exact .inr rfl
  | false =>
   rw[q5d,hx] at h
   rw[q5d,hx]
   exact ih h
theorem Z4o {env:Env}{names:List (Str × NameKind)}{x:Str}(h:names.lookup x=some .free) :
  (names.map λ(n,k)=>if (k == NameKind.free && env.scope.kind == .function && env.kindOf n == some .cell) then (n,NameKind.cell) else (n,k)).lookup x=some .cell ∨
  (names.map λ(n,k)=>if (k == NameKind.free && env.scope.kind == .function && env.kindOf n == some .cell) then (n,NameKind.cell) else (n,k)).lookup x=some .free:=by
 refine Z4f (λp=>?_) (λp hp=>?_) h
 ·obtain⟨n,k⟩:=p
  dsimp only
  split<;>rfl
 ·obtain⟨n,k⟩:=p
  dsimp only
  split
  ·exact .inl rfl
  ·exact .inr hp
theorem Z6u {env:Env}{names:List (Str × NameKind)}{x:Str}{k':NameKind}(hc:∀ y∈names,y.2≠.cell)(hk:k'=.cell∨k'=.free)
  (h:(names.map λ(n,k)=>if (k == NameKind.free && env.scope.kind == .function && env.kindOf n == some .cell) then (n,NameKind.cell) else (n,k)).lookup x=some k'):(x,NameKind.free)∈names:=by
 have m:=q3c h
 obtain⟨⟨n,k⟩,hm,e⟩:=q1q.mp m
 dsimp only at e
 by_cases hf:k=.free
 ·subst hf
  have e1:n=x:=by
   by_cases hc':(NameKind.free == NameKind.free && env.scope.kind == .function && env.kindOf n == some .cell)=true
   ·rw[if_pos hc'] at e
    exact congrArg Prod.fst e
   ·rw[if_neg hc'] at e
    exact congrArg Prod.fst e
  exact e1 ▸ hm
 ·have hb:(k == NameKind.free)=false:=by simpa using hf
  simp only[hb,Bool.false_and,q3z,q4o] at e
  cases e
  rcases hk with z | z
  ·exact absurd z (hc _ hm)
  ·exact absurd z hf
noncomputable def cxLc (X:Cx)(scope:Scope)(Nc:W0)(ex:U3)(pins:U1)(s:U7)(H:Hp):Cx where
 prog:=X.prog
 w:=X.w
 K:=X.K
 mg:=X.mg
 base:=X.base
 A:=X.A
 N:=Nc
 s₀:=s
 H₀:=H
 env:=compEnvC scope (clo scope.names X.env.cells) s.heap.objs.size X.env
 outer:=X.stack
 stack:=X.stack
 ex:=ex
 fn:=λ_=>false
 calm:=X.calm
 pn:=X.pn++pins
 xe:=λ_ _=>False
noncomputable def sub (mp:W7)(σ:St):St:=mp.map λo=>match o with | some j=>(σ[j]?).join | none=>none
theorem X6e {mp:W7}{σ:St}{i:Nat}{v:V}(h:(sub mp σ)[i]?=some (some v)):∃ j,mp[i]?=some (some j)/\σ[j]?=some (some v):=by
 unfold sub at h
 rw[q0c] at h
 cases e:mp[i]? with
 | none=>rw[e] at h;cases h
 | some o =>
  rw[e] at h
  cases o with
  | none=>cases h
  | some j =>
   refine⟨j,Z,?_⟩
   have h':(σ[j]?).join=some v:=Option.some.inj h
   cases q:σ[j]? with
   | none=>rw[q] at h';cases h'
   | some z=>rw[q] at h';exact congrArg some h'
section
variable {X:Cx}{pins:U1}{σ:St}{H:Hp}{s:U7}{scope:Scope}{Nc:W0}{mp:W7}{fp:U3}
theorem Z5d (I:Inv X pins σ H s)(S:LcOk X.N X.env.scope scope Nc mp):∀ x∈scope.names,x.2=.free->∃ c,X.env.cells.lookup x.1=some c:=λx hx e =>
 I.ok.has x.1 (S.free x hx e)
theorem Z6a (I:Inv X pins σ H s)(S:LcOk X.N X.env.scope scope Nc mp){x:Str}{c:W9}(h:(clo scope.names X.env.cells).lookup x=some c):X.env.cells.lookup x=some c :=
 X0j scope.names [] (Z5d I S) (λ_ _ e=>by cases e) x c h
theorem W3f (I:Inv X pins σ H s)(S:LcOk X.N X.env.scope scope Nc mp)(hf:∀ b∈fp,FpOk X pins H b)(hl:∀ b∈fp,b<s.heap.objs.size):(cxLc X scope Nc fp pins s H).Ok where
 mod:=I.ok.mod
 kind:=S.kind
 glob:=I.ok.glob
 blt:=I.ok.blt
 above:=q0g _
 inj:=λx y c e1 e2=>I.ok.inj x y c (Z6a I S e1) (Z6a I S e2)
 has:=λx h=>by
  have hm:(x,NameKind.free)∈scope.names:=by
   rcases h with h | h
   ·exact Z6u S.nocell (.inl rfl) h
   ·exact Z6u S.nocell (.inr rfl) h
  exact Z9r scope.names [] x (.inl hm)
 cab:=λx c h _=>by cases h
 hd:=I.ok.hd
 frames:=I.ok.frames
 stk:=.inl rfl
 exf:=λb hb=>⟨q0x (hl b hb),λx c e=>(hf b hb).2.2.2.2.1 x c (Z6a I S e)⟩
 bs:=I.bs
 bsz:=q1i I.ok.bsz I.sz
 noex:=λb o e hb=>by
  rcases (hf b hb).2.2.2.1 with z | z
  ·exact I.ok.noex b o e z
  ·exact absurd (q0k (q0j e) (q1i I.ok.bsz z)) (q4x _)
 exfs:=λb hb z=>by
  rcases q0t.mp (I.stkSub b z) with e | e
  ·exact(hf b hb).2.1 e
  ·exact(hf b hb).2.2.1 e
 funs:=I.stack
 frf:=I.stkFree
theorem Y4o (I:Inv X pins σ H s)(S:LcOk X.N X.env.scope scope Nc mp)(hf:∀ b∈fp,FpOk X pins H b)(hl:∀ b∈fp,b<s.heap.objs.size){h₁:Heap}{m:U4}{tk:Nat}
  (hn:h₁.Ns s.heap.objs.size m) (k:∀ b o,s.heap.get? b=some o->h₁.get? b=some o):Inv (cxLc X scope Nc fp pins s H) [] (sub mp σ) H { s with heap:=h₁,toks:=tk }:=by
 refine⟨W3f I S hf hl,Z,I.bare,Un.kept k,⟨m,hn,λi x v e1 e2 _=>?_⟩,λx c e=>?_,I.hok.fresh (q0g _),λx c e=>I.freeC x c (Z6a I S e),λp hp=>?_,I.hok.kept k,?_⟩
 ·obtain⟨j,hj,hv⟩:=X6e e2
  obtain⟨y,y1,y2,y3⟩:=S.map i j hj
  have e1':Nc[i]?=some x:=e1
  rw[e1'] at y1
  cases y1
  have hm:=q3c y3
  have vis:Vis X.env.scope x:=.inr (S.free _ hm rfl)
  obtain⟨mo,_,hloc⟩:=I.loc
  obtain⟨u,ru,lk⟩:=hloc j x v y2 hv vis
  refine⟨u,ru,.inr ⟨Z4o y3,?_⟩⟩
  obtain⟨c,hc⟩:=Z9r (cells:=X.env.cells) scope.names [] x (.inl hm)
  have hc':=Z6a I S hc
  rcases lk with ⟨z,_⟩ | ⟨_,c',z,q⟩
  ·rcases S.free _ hm rfl with z' | z'<;>(have z'':X.env.scope.names.lookup x=some .local:=z;rw[z''] at z';cases z')
  ·rw[hc'] at z
   cases z
   obtain⟨o,ho,hd⟩:=q
   exact⟨c,hc,o,k c o ho,hd⟩
 ·obtain⟨v,o,ho,hd⟩:=I.cell x c (Z6a I S e)
  exact⟨v,o,k c o ho,hd⟩
 ·have hp':p∈X.pn++pins:=by
   have:p∈(X.pn++pins)++[]:=hp
   simpa using this
  obtain⟨e,n,ne,nf,d⟩:=I.pin p hp'
  refine⟨k _ _ e,n,q0x (q0j e),λz=>?_,d⟩
  rcases q0t.mp (I.stkSub p.1 z) with q | q
  ·exact ne q
  ·exact nf q
 ·show (sub mp σ).length=Nc.length
  unfold sub
  rw[q0a]
  exact S.len
theorem X4z (I:Inv X pins σ H s)(hf:∀ b∈fp,FpOk X pins H b){σ':St}{H':Hp}{s':U7}{pl:U1}(J:Inv (cxLc X scope Nc fp pins s H) pl σ' H' s'):Inv X pins σ H' s' :=
 I.call' J.os J.base J.hok J.bare λb hb=>⟨(hf b hb).2.2.2.1,(hf b hb).2.1,(hf b hb).2.2.2.2.1,(hf b hb).2.2.2.2.2⟩
theorem Inv.turnedNew (I:Inv X pins σ H s){C:W9}{h':Heap}{t':Nat}(k:∀ b o,b≠C->s.heap.get? b=some o->h'.get? b=some o)(hn:H C=none)(h1:X.s₀.heap.objs.size<=C)
  (hL:C≠X.env.locals) (hc:∀ x c,X.env.cells.lookup x=some c->c≠C) (hp:∀ p∈X.pn++pins,p.1≠C):Inv X pins σ H { s with heap:=h',toks:=t' } :=
 I.turned k hn hL (.inr h1) hc hp
end
section
variable {M:Model}{A:W6}{E:U2}
abbrev Calm:Value->Shared->Prop:=λ_ _=>False
theorem thenC {α β:Type}{m:Sem α}{f:α->Sem β}{P:α->Shared->Prop}{Q:β->Shared->Prop}{s:U7}(h:wpAny M A m P Calm s)(k:∀ x s',P x s'->wpAny M A (f x) Q E s'):wpAny M A (m >>= f) Q E s :=
 q0e (q2c h k λ_ _ z=>z.elim)
end
theorem Z9o {prog:U8}{w:W1}{A:W6}{R:Result->Shared->Prop}{s:U7}{e t i:Expr}{sc:Scope}{pos:Pos}{it acc:W2}{env:Env}(J:Nat->Shared->Prop)
  (turn:∀ n s,J n s->wpAny (model prog w) A (pyNext it) (λr s1=>(r=none->R (.ok .next) s1)/\∀ v,r=some v →
   wpAny (model prog w) A (letOwnedTupleGo t it v) (λ_ s2=>wpAny (model prog w) A (assign t env v) (λ_ s3=>wpAny (model prog w) A (eval e env) (λx s4 =>
    wpAny (model prog w) A (call (.builtin "list.append") [acc,x]) (λ_ s5=>∃ m,m<n/\J m s5) Calm s4) Calm s3) Calm s2) Calm s1) Calm s)
  (n:Nat) (h:J n s):codeAny (model prog w) A (.compLoop (.ListComp e [⟨t,i,[],0⟩] sc pos) 0 it acc env) R s:=by
 have eq:=compTurn_list1 e t i sc pos it acc env
 refine codeAny_loop rfl J (λn s j=>wpAny_noted (m:=compTurn (.ListComp e [⟨t,i,[],0⟩] sc pos) 0 it acc env) ?_) n h
 rw[eq]
 refine q0e (q5j (thenC (turn n s j) λr s1 q=>?_))
 match r,q with
 | none,q=>exact q0s (q.1 rfl)
 | some v,q=>exact thenC (q.2 v rfl) λ_ s2 q2=>thenC q2 λ_ s3 q3=>q0e (thenC q3 λx s4 q4=>thenC q4 λ_ s5 q5=>q0s (q0s ⟨rfl,q5⟩))
def LcW (J:It)(g:TG)(te:TE)(σ:St)(H:Hp)(acc:W9)(Q:VK):Prop:=∃ W:Nat->Nat->List V->St->Hp->Prop,(∃ m,W 0 m [] σ (upd H acc (.lst []))) ∧
 ∀ i m ys σ2 H2,W i m ys σ2 H2->(J.stop i H2/\Q (.ref acc) H2)∨(J.go i H2/\∀ x H3,J.yld i H2 x H3->g x σ2 H3 λσ4 H4=>te σ4 H4 λy H5 =>
  H5 acc=some (.lst ys)/\ys.length<sizeLine/\∃ m',m'<m/\W (i+1) m' (ys++[y]) σ4 (upd H5 acc (.lst (ys++[y]))))
def tLc (mp:W7)(wi:TI)(g:TG)(te:TE):TE:=λσ H Q=>wi σ H λJ H1=>∀ acc,H1 acc=none->LcW J g te (sub mp σ) H1 acc Q
section
variable {X:Cx}{elt tg iter:Expr}{scope:Scope}{pos:Pos}{wi:TI}{g:TG}{te:TE}{Nc:W0}{mp:W7}
noncomputable abbrev Z0t (s:U7):Shared:={ s with heap:=s.heap.push { cls:=.type "list",dict:=none,data:=.seq ([]:U5).toArray } }
theorem X4y (hc:X.calm=true)(S:LcOk X.N X.env.scope scope Nc mp)(hg:∀ ex pins s H,PG (cxLc X scope Nc ex pins s H) tg g)(he:∀ ex pins s H,PE (cxLc X scope Nc ex pins s H) elt te)
  {pins:U1}{σ:St}{H2:Hp}{s2:U7}{E:U2}{it:W9}{fp:U3}{tn:Nat->Heap->Prop}{J:It}{Q:VK}{RR:Value->Addr->Result->Shared->Prop}
  (I2:Inv X pins σ H2 s2) (T:Turn X.prog X.w X.K tg J fp it tn) (st2:tn 0 s2.heap) (f2:∀ b∈fp,FpOk X pins H2 b)
  (q:∀ acc,H2 acc=none->LcW J g te (sub mp σ) H2 acc Q)
  (fin:∀ acc C H' s' m',Q (.ref acc) H'->Inv X pins σ H' s'->s'.heap.Ns C m'->H' C=none->X.s₀.heap.objs.size<=C->C≠X.env.locals->(∀ x c,X.env.cells.lookup x=some c->c≠C)->(∀ p∈X.pn++pins,p.1≠C)->RR (.ref acc) C (.ok .next) s') :
  wpAny (model X.prog X.w) X.A (newList []) (λacc s₃=>wpAny (model X.prog X.w) X.A (newFunctionEnv scope X.env.globals (clo scope.names X.env.cells) [] X.env.qual none .none (some X.env)) (λcenv s₄ =>
   codeAny (model X.prog X.w) X.A (.compStart (.ListComp elt [⟨tg,iter,[],0⟩] scope pos) 0 (.ref it) acc { cenv with scope:=relabel scope X.env }) (RR acc cenv.locals) s₄) E s₃) E s2:=by
 refine q3q (wpAny_newFunctionEnv S.nocell (by intro y hy;simp at hy) (λh₁ hns₁ hsb₁=>?_) S.kind)
 dsimp only at hns₁ hsb₁ ⊢
 have I3:=I2.lnew (its:=[]) (ys:=[]) (t':=s2.toks) .nil (q1l _)
 have hacc:H2 s2.heap.objs.size=none:=I2.fresh
 obtain⟨W,⟨m0,w0⟩,turn⟩:=q s2.heap.objs.size hacc
 have hpush:(s2.heap.push { cls:=.type "list",dict:=none,data:=.seq ([]:U5).toArray }).objs.size=s2.heap.objs.size+1:=q2n ..
 have hlt:∀ b∈fp,b<s2.heap.objs.size:=λb hb=>by
  obtain⟨o,e,_⟩:=T.obj _ _ st2 b hb
  exact q0j e
 have f3:∀ b∈fp,FpOk X pins (upd H2 s2.heap.objs.size (.lst [])) b:=λb hb=>⟨by rw[Z0x (q0x (hlt b hb))];exact(f2 b hb).1,(f2 b hb).2⟩
 have I3':Inv X pins σ (upd H2 s2.heap.objs.size (.lst [])) (Z0t s2):=I3
 have hsz:(Z0t s2).heap.objs.size=s2.heap.objs.size+1:=hpush
 have hlt3:∀ b∈fp,b<(Z0t s2).heap.objs.size:=λb hb=>by rw[hsz];exact q3d (hlt b hb)
 have k3:∀ b o,(Z0t s2).heap.get? b=some o->h₁.get? b=some o:=λb o e=>hsb₁.extBut b o (q0x (q0j e)) (q0f _ e)
 have Ic:=Y4o (tk:=(Z0t s2).toks) I3' S f3 hlt3 hns₁ k3
 have st3:tn 0 h₁:=T.keep _ _ _ st2 λb hb o e=>k3 b o (q0f _ e)
 have cC:X.s₀.heap.objs.size<=(Z0t s2).heap.objs.size:=I3'.sz
 have cL:(Z0t s2).heap.objs.size≠X.env.locals:=q3p I3'.lt
 have cc:∀ x c,X.env.cells.lookup x=some c->c≠(Z0t s2).heap.objs.size:=λx c e=>by
  obtain⟨v,o,ho,_⟩:=I3'.cell x c e
  exact q0x (q0j ho)
 have cp:∀ p∈X.pn++pins,p.1≠(Z0t s2).heap.objs.size:=λp hp=>q0x (q0j (I3'.pin p hp).1)
 have stat:∀ {H':Hp},(∀ b∈fp,H' b=none)->∀ b∈fp,FpOk (cxLc X scope Nc fp pins (Z0t s2) (upd H2 s2.heap.objs.size (.lst []))) [] H' b:=λhn b hb =>
  ⟨hn b hb,q0x (hlt3 b hb),λz=>by
   rcases q0t.mp (I3'.stkSub b z) with e | e
   ·exact(f3 b hb).2.1 e
   ·exact(f3 b hb).2.2.1 e,.inl hb,λx c e=>(f3 b hb).2.2.2.2.1 x c (Z6a I3' S e),λp hp=>(f3 b hb).2.2.2.2.2 p (by
    have:p∈(X.pn++pins)++[]:=hp
    simpa using this)⟩
 have loop:∀ s4:Shared,s4={ (Z0t s2) with heap:=h₁,toks:=(Z0t s2).toks } →
   codeAny (model X.prog X.w) X.A (.compLoop (.ListComp elt [⟨tg,iter,[],0⟩] scope pos) 0 (.ref it) (.ref s2.heap.objs.size) (cxLc X scope Nc fp pins (Z0t s2) (upd H2 s2.heap.objs.size (.lst []))).env)
    (RR (.ref s2.heap.objs.size) (Z0t s2).heap.objs.size) s4:=by
  rintro s4 rfl
  refine Z9o (λn s'=>∃ i ys σ' H',Inv (cxLc X scope Nc fp pins (Z0t s2) (upd H2 s2.heap.objs.size (.lst []))) [] σ' H' s'/\tn i s'.heap/\(∀ b∈fp,H' b=none)/\W i n ys σ' H') ?_ m0
   ⟨0,[],sub mp σ,_,Ic,st3,λb hb=>(f3 b hb).1,w0⟩
  rintro n s5 ⟨i,ys,σ5,H5,I5,st5,fr5,w5⟩
  rcases turn i n ys σ5 H5 w5 with ⟨stop,qn⟩ | ⟨go,step⟩
  ·refine q2c (T.done (cxLc X scope Nc fp pins (Z0t s2) (upd H2 s2.heap.objs.size (.lst []))) rfl rfl rfl hc i [] s5 σ5 H5 (λ_ _=>False) I5 (stat fr5) st5 stop) (λr s6 ⟨hr,I6⟩=>?_) λ_ _ f=>f.elim
   subst hr
   obtain⟨m6,hn6,_⟩:=I6.loc
   refine⟨λ_=>?_,λ_ z=>nomatch z⟩
   exact fin _ _ H5 s6 m6 qn (X4z I3' f3 I6) hn6 I6.free cC cL cc cp
  ·refine q2c (T.item (cxLc X scope Nc fp pins (Z0t s2) (upd H2 s2.heap.objs.size (.lst []))) rfl rfl rfl hc i [] s5 σ5 H5 (λ_ _=>False) I5 (stat fr5) st5 go) (λr s6 ⟨u,hr,h6⟩=>?_) λ_ _ f=>f.elim
   subst hr
   refine⟨(λz=>by cases z),?_⟩
   rintro _ ⟨⟩
   refine q2c h6 (λ_ s7 ⟨x,H7,I7,r7,y7,st7,fr7⟩=>?_) λ_ _ f=>f.elim
   have I7':=I7.pinned (stat fr7) (T.obj _ _ st7)
   refine q2c (hg _ _ _ _ _ s7 σ5 H7 x u _ I7' r7 (step x H7 y7)) (λ_ s8 ⟨σ8,H8,I8,q8⟩=>?_) λ_ _ f=>f.elim
   refine q2c (he _ _ _ _ _ s8 σ8 H8 _ I8 q8) (λv s9 ⟨y,H9,I9,r9,a9,l9,m',hm',w9⟩=>?_) λ_ _ f=>f.elim
   refine q2c (Z3d (X:=cxLc X scope Nc fp pins (Z0t s2) (upd H2 s2.heap.objs.size (.lst []))) _ s9 σ8 H9 (.ref s2.heap.objs.size) [y] (.ref s2.heap.objs.size) [v] (λz Hz=>z=.non/\Hz=upd H9 s2.heap.objs.size (.lst (ys++[y]))) I9 rfl (.cons r9 .nil) ⟨_,ys,y,Z,Z,a9,l9,Z,Z⟩) (λv10 s10 ⟨z,H10,I10,_,_,e10⟩=>?_) λ_ _ f=>f.elim
   subst e10
   refine⟨m',hm',i+1,ys++[y],σ8,_,I10.unpinned,T.keep _ _ _ st7 λb hb o e=>(I10.pin (b,o) (q0n _ (q0n _ (Z2y hb e)))).1,λb hb=>?_,w9⟩
   obtain⟨o,e,d⟩:=T.obj _ _ st7 b hb
   exact(I10.pin (b,o) (q0n _ (q0n _ (Z2y hb e)))).2.1
 exact q7v (loop _ rfl) (T.self _ 0 _ _ _ st3 (loop _ rfl))
theorem Z3k (hc:X.calm=true)(S:LcOk X.N X.env.scope scope Nc mp)(hi:PI X tg iter wi)(hg:∀ ex pins s H,PG (cxLc X scope Nc ex pins s H) tg g)(he:∀ ex pins s H,PE (cxLc X scope Nc ex pins s H) elt te)
  (hf:∀ x,foldedSetIterable iter X.env x=pure x:=by intro _;rfl):PE X (.ListComp elt [⟨tg,iter,[],0⟩] scope pos) (tLc mp wi g te):=by
 intro pins s σ H Q I h
 rw[eval_ListComp]
 refine q4e (use:=none) rfl hf (Z4j (Z5d I S)) S.kind S.names (thn (hi pins s σ H _ I h) λv s1 h1=>thn h1 λitv s2 h2=>?_)
 obtain⟨it,fp,tn,J,H2,e,I2,T,st2,f2,q⟩:=h2
 subst e
 refine X4y (RR:=λacc C=>compPost (model X.prog X.w) X.A X.xe none (EP X pins σ Q) acc C) hc S hg he I2 T st2 f2 q ?_
 intro acc C H' s' m' qq I' hn hC c1 c2 c3 c4
 refine⟨m',hn,λh' hs=>⟨.ref acc,H',?_,Z,qq⟩⟩
 exact I'.turnedNew (t':=s'.toks) (λb o hb e=>hs.extBut b o hb e) hC c1 c2 c3 c4
theorem Z3h {i:Nat}{x:Str}{pos' spos:Pos}(hc:X.calm=true)(hN:X.N.Nodup)(hi':X.N[i]?=some x)(hx:X.env.scope.names.lookup x=some .local)(S:LcOk X.N X.env.scope scope Nc mp)(hi:PI X tg iter wi)
  (hg:∀ ex pins s H,PG (cxLc X scope Nc ex pins s H) tg g) (he:∀ ex pins s H,PE (cxLc X scope Nc ex pins s H) elt te)
  (hsw:swapsWith (.ListComp elt [⟨tg,iter,[],0⟩] scope pos) (some (.Name x pos')) spos.line X.env=pure true)
  (hf:∀ x,foldedSetIterable iter X.env x=pure x:=by intro _;rfl):PS X (.Assign [.Name x pos'] (.ListComp elt [⟨tg,iter,[],0⟩] scope pos) spos) (tAsg (tLc mp wi g te) (gName i)):=by
 intro pins s σ H D I h
 rw[q8c _ _ _ _ hsw]
 refine q0e (q5j (q0e ?_))
 show wpAny _ X.A (do let _ ← comprehension (.ListComp elt [⟨tg,iter,[],0⟩] scope pos) scope X.env _ (newList []) false (eval iter X.env) (some (assign (.Name x pos') X.env))) _ _ s
 refine q0e (q2c (q4e (use:=some (assign (.Name x pos') X.env)) (Q:=λ_ s'=>SP X pins D .next s') rfl hf (Z4j (Z5d I S)) S.kind S.names
  (thn (hi pins s σ H _ I h) λv s1 h1=>thn h1 λitv s2 h2=>?_)) (λ_ s' hq=>q0s (q0s hq)) λ_ _ e=>e)
 obtain⟨it,fp,tn,J,H2,e,I2,T,st2,f2,q⟩:=h2
 subst e
 refine X4y (Q:=λx H1=>gName i x σ H1 D.nx) (RR:=λacc C=>compPost (model X.prog X.w) X.A X.xe (some (assign (.Name x pos') X.env)) (λ_ s'=>SP X pins D .next s') acc C) hc S hg he I2 T st2 f2 q ?_
 intro acc C H' s' m' qq I' hn hC c1 c2 c3 c4
 show wpAny _ X.A (assign (.Name x pos') X.env (.ref acc)) _ _ _
 refine q7f (Z6m (v:=.ref acc) I' hN hi' (.inl hx) rfl (λs5 I5 ⟨a,hs5,ha⟩=>?_) (.inr hx))
 have hCa:C≠a:=by
  rcases ha with z | z
  ·rw[z];exact c2
  ·exact Ne.symm (c3 x a z)
 refine⟨m',hn.sameBut hs5 hCa,λh' hs=>⟨σ.set i (some (.ref acc)),H',?_,qq⟩⟩
 exact I5.turnedNew (t':=s5.toks) (λb o hb e=>hs.extBut b o hb e) hC c1 c2 c3 c4
end
theorem X8f {J:It}{n:Nat}{val:Nat->V}{te:TE}{fr:St}{H1:Hp}{acc:W9}{Q:VK}(Pv:Nat->List V->Hp->Prop)(hn:n<=sizeLine)(h0:Pv 0 [] (upd H1 acc (.lst [])))
  (hgo:∀ i ys H,i<n->Pv i ys H->J.go i H/\∀ x H',J.yld i H x H'->H'=H/\x=val i) (hst:∀ ys H,Pv n ys H->J.stop n H)
  (hs:∀ i ys H (N:V->Hp->Prop),i<n->ys.length=i->Pv i ys H->(∀ y H5,H5 acc=some (.lst ys)->Pv (i+1) (ys++[y]) (upd H5 acc (.lst (ys++[y])))->N y H5)->te (some (val i)::fr) H N)
  (hd:∀ ys H,ys.length=n->Pv n ys H->Q (.ref acc) H) :
  LcW (J) (gName 0) te (none::fr) H1 acc Q:=by
 refine⟨λi m ys σ2 H2=>m=n-i/\i<=n/\ys.length=i/\(∃ v,σ2=v::fr)/\Pv i ys H2,⟨n,by simp,q1l _,Z,⟨_,Z⟩,h0⟩,?_⟩
 rintro i m ys σ2 H2 ⟨rfl,hi,hl,⟨v,rfl⟩,p⟩
 by_cases hlt:i<n
 ·obtain⟨go,yl⟩:=hgo i ys H2 hlt p
  refine .inr ⟨go,λx H3 y3=>?_⟩
  obtain⟨e1,e2⟩:=yl x H3 y3
  subst e1 e2
  show te ((v::fr).set 0 (some (val i))) H3 _
  rw[List.set_cons_zero]
  refine hs i ys H3 _ hlt hl p λy H5 a5 p5=>⟨a5,by omega,n-(i+1),by omega,Z,hlt,by rw[q1d,hl];rfl,⟨_,Z⟩,p5⟩
 ·have e:i=n:=by omega
  subst e
  exact .inl ⟨hst ys H2 p,hd ys H2 hl p⟩
theorem Z4i {lo:Int}{n:Nat}{te:TE}{fr:St}{H1:Hp}{acc:W9}{Q:VK}(Pv:Nat->List V->Hp->Prop)(hn:n<=sizeLine)(h0:Pv 0 [] (upd H1 acc (.lst [])))
  (hs:∀ i ys H (N:V->Hp->Prop),i<n->ys.length=i->Pv i ys H->(∀ y H5,H5 acc=some (.lst ys)->Pv (i+1) (ys++[y]) (upd H5 acc (.lst (ys++[y])))->N y H5)->te (some (.int (lo+i))::fr) H N)
  (hd:∀ ys H,ys.length=n->Pv n ys H->Q (.ref acc) H) :
  LcW (Itr lo n) (gName 0) te (none::fr) H1 acc Q :=
 X8f (J:=Itr lo n) (val:=λi=>.int (lo+i)) Pv hn h0 (λi ys H hi p=>⟨hi,λx H' y=>y⟩) (λys H p=>q0g _) hs hd
theorem Z2u {K:U0}{a:W9}{xs:List V}{te:TE}{fr:St}{H1:Hp}{acc:W9}{Q:VK}(Pv:Nat->List V->Hp->Prop)(hn:xs.length<=sizeLine)(h0:Pv 0 [] (upd H1 acc (.lst [])))
  (hl:∀ i ys H,Pv i ys H->SqL K H a xs)
  (hs:∀ i x ys H (N:V->Hp->Prop),xs[i]?=some x->ys.length=i->Pv i ys H->(∀ y H5,H5 acc=some (.lst ys)->Pv (i+1) (ys++[y]) (upd H5 acc (.lst (ys++[y])))->N y H5)->te (some x::fr) H N)
  (hd:∀ ys H,ys.length=xs.length->Pv xs.length ys H->Q (.ref acc) H) :
  LcW (Itl K a) (gName 0) te (none::fr) H1 acc Q :=
 X8f (J:=Itl K a) (n:=xs.length) (val:=λi=>xs.getD i .non) Pv hn h0
  (λi ys H hi p=>⟨⟨xs,xs[i],hl i ys H p,by simp[hi]⟩,λx H' y=>⟨y.1,by
   have:=y.2 xs (hl i ys H p)
   rw[q0b,this];rfl⟩⟩)
  (λys H p=>⟨xs,hl _ ys H p,q0g _⟩)
  (λi ys H N hi hl' p k=>by
   have e:xs[i]?=some (xs.getD i .non):=by rw[q0b,q0d hi];rfl
   exact hs i _ ys H N e hl' p k) hd
end L2
namespace L2
structure Cal (P:U8) (w:W1) (K:U0) (mg:U4) (base:Heap) (k:Nat) (x:Str) (ps:W0) (sp:Sp):Prop where
 ex:∃ f fd,FnOk P w K mg base CX0 k f fd ps sp/\Binds K fd ps []/\PySem.W.keepIn K (.ref f)=true/\mg x=some (.ref f)
theorem Cal.mono {P:U8}{w:W1}{K:U0}{mg:U4}{base:Heap}{j k:Nat}{x:Str}{ps:W0}{sp:Sp}(c:Cal P w K mg base j x ps sp)(h:j<=k):Cal P w K mg base k x ps sp :=
 let ⟨f,fd,F,b,kp,m⟩:=c.ex
 ⟨f,fd,F.mono h,b,kp,m⟩
section
variable {X:Cx}{k:Nat}{x:Str}{ps:W0}{sp:Sp}{p pos:Pos}{e:Expr}{es:List Expr}{t:TA}
theorem Z0l (c:Cal X.prog X.w X.K X.mg X.base k x ps sp)(hr:Room k X.A)(hg:Gl X x)(ha:PA X (e::es) t)(hdb:(x == ("__debug__":Str))=false:=by decide)
  (he:starEach (e::es) X.env=(false,eval e X.env)::starEach es X.env:=by rfl) (hpl:(backTo pos (starEach es X.env)).any (·.1)=false:=by rfl):PE X (.Call (.Name x p) (e::es) [] pos) (tCall sp [] E0 t):=by
 obtain⟨f,fd,F,b,kp,m⟩:=c.ex
 exact X6s F hr hg m kp b .nil pass0 ha hdb he hpl
end
structure FunAt (K:U0) (x:Str) (st:Stmt) (dV:W2):Prop where
 ex:∃ (f:W9) (oc:W2) (od:W5) (kV doc pm:W2) (an:W5) (cdv ct:W2) (osl:W4),
  K.lookup f=some ⟨oc,od,.func (PySem.W.fnOf x x (Z1m st) (Z1h st) (Z0i st) dV kV doc pm an cdv ct),osl⟩/\PySem.W.codeIn K cdv x=true/\PySem.W.keepIn K (.ref f)=true/\PySem.W.nsIn K mainGlobals x=some (some (.ref f))
theorem fat {K:U0}{x:Str}{st:Stmt}{f:W9}{oc:W2}{od an:W5}{osl:W4}{dV kV doc pm cdv ct:W2}(a:PySem.W.nsIn K mainGlobals x=some (some (.ref f)))
  (l:K.lookup f=some ⟨oc,od,.func (PySem.W.fnOf x x (Z1m st) (Z1h st) (Z0i st) dV kV doc pm an cdv ct),osl⟩) (c:PySem.W.codeIn K cdv x=true) (k:PySem.W.keepIn K (.ref f)=true):FunAt K x st dV :=
 ⟨f,oc,od,kV,doc,pm,an,cdv,ct,osl,l,c,k,a⟩
def Z2r (K:U0)(x:Str)(st:Stmt)(dV:W2)(ps:W0):Prop:=∀ (kV doc pm:W2) (an:W5) (cdv ct:W2),Binds K (PySem.W.fnOf x x (Z1m st) (Z1h st) (Z0i st) dV kV doc pm an cdv ct) ps []
theorem binds0 {K:U0}{x:Str}{st:Stmt}{ps:W0}
  (h:∀ (kV doc pm:W2) (an:W5) (cdv ct:W2) (us:U5),us.length=ps.length->bindArgs (PySem.W.fnOf x x (Z1m st) (Z1h st) (Z0i st) .none kV doc pm an cdv ct) ⟨us,[]⟩=pure (ps.zip us)):Z2r K x st .none ps :=
 λkV doc pm an cdv ct=>.all (h kV doc pm an cdv ct)
theorem bnd0 {K:U0}{nm:Str}{st:Stmt}(h:∀ (kV doc pm:W2) (an:W5) (cdv ct:W2),bindArgs (PySem.W.fnOf nm nm (Z1m st) (Z1h st) (Z0i st) .none kV doc pm an cdv ct) ⟨[],[]⟩=pure []):Z2r K nm st .none []:=binds0 λkV doc pm an cdv ct us hl=>by
 cases us with
 | nil=>exact h kV doc pm an cdv ct
 | cons=>cases hl
theorem bnd1 {K:U0}{nm:Str}{st:Stmt}{x0:Str}(h:∀ (kV doc pm:W2) (an:W5) (cdv ct:W2) (a0:W2),bindArgs (PySem.W.fnOf nm nm (Z1m st) (Z1h st) (Z0i st) .none kV doc pm an cdv ct) ⟨[a0],[]⟩=pure [(x0,a0)]):Z2r K nm st .none [x0]:=binds0 λkV doc pm an cdv ct us hl=>by
 cases us with
 | nil=>cases hl
 | cons b0 t0 =>
  cases t0 with
  | nil=>exact h kV doc pm an cdv ct b0
  | cons=>cases hl
theorem bnd2 {K:U0}{nm:Str}{st:Stmt}{x0 x1:Str}(h:∀ (kV doc pm:W2) (an:W5) (cdv ct:W2) (a0 a1:W2),bindArgs (PySem.W.fnOf nm nm (Z1m st) (Z1h st) (Z0i st) .none kV doc pm an cdv ct) ⟨[a0,a1],[]⟩=pure [(x0,a0),(x1,a1)]):Z2r K nm st .none [x0,x1]:=binds0 λkV doc pm an cdv ct us hl=>by
 cases us with
 | nil=>cases hl
 | cons b0 t0 =>
  cases t0 with
  | nil=>cases hl
  | cons b1 t1 =>
   cases t1 with
   | nil=>exact h kV doc pm an cdv ct b0 b1
   | cons=>cases hl
theorem bnd3 {K:U0}{nm:Str}{st:Stmt}{x0 x1 x2:Str}(h:∀ (kV doc pm:W2) (an:W5) (cdv ct:W2) (a0 a1 a2:W2),bindArgs (PySem.W.fnOf nm nm (Z1m st) (Z1h st) (Z0i st) .none kV doc pm an cdv ct) ⟨[a0,a1,a2],[]⟩=pure [(x0,a0),(x1,a1),(x2,a2)]):Z2r K nm st .none [x0,x1,x2]:=binds0 λkV doc pm an cdv ct us hl=>by
 cases us with
 | nil=>cases hl
 | cons b0 t0 =>
  cases t0 with
  | nil=>cases hl
  | cons b1 t1 =>
   cases t1 with
   | nil=>cases hl
   | cons b2 t2 =>
    cases t2 with
    | nil=>exact h kV doc pm an cdv ct b0 b1 b2
    | cons=>cases hl
theorem bnd4 {K:U0}{nm:Str}{st:Stmt}{x0 x1 x2 x3:Str}(h:∀ (kV doc pm:W2) (an:W5) (cdv ct:W2) (a0 a1 a2 a3:W2),bindArgs (PySem.W.fnOf nm nm (Z1m st) (Z1h st) (Z0i st) .none kV doc pm an cdv ct) ⟨[a0,a1,a2,a3],[]⟩=pure [(x0,a0),(x1,a1),(x2,a2),(x3,a3)]):Z2r K nm st .none [x0,x1,x2,x3]:=binds0 λkV doc pm an cdv ct us hl=>by
 cases us with
 | nil=>cases hl
 | cons b0 t0 =>
  cases t0 with
  | nil=>cases hl
  | cons b1 t1 =>
   cases t1 with
   | nil=>cases hl
   | cons b2 t2 =>
    cases t2 with
    | nil=>cases hl
    | cons b3 t3 =>
     cases t3 with
     | nil=>exact h kV doc pm an cdv ct b0 b1 b2 b3
     | cons=>cases hl
theorem bnd5 {K:U0}{nm:Str}{st:Stmt}{x0 x1 x2 x3 x4:Str}(h:∀ (kV doc pm:W2) (an:W5) (cdv ct:W2) (a0 a1 a2 a3 a4:W2),bindArgs (PySem.W.fnOf nm nm (Z1m st) (Z1h st) (Z0i st) .none kV doc pm an cdv ct) ⟨[a0,a1,a2,a3,a4],[]⟩=pure [(x0,a0),(x1,a1),(x2,a2),(x3,a3),(x4,a4)]):Z2r K nm st .none [x0,x1,x2,x3,x4]:=binds0 λkV doc pm an cdv ct us hl=>by
 cases us with
 | nil=>cases hl
 | cons b0 t0 =>
  cases t0 with
  | nil=>cases hl
  | cons b1 t1 =>
   cases t1 with
   | nil=>cases hl
   | cons b2 t2 =>
    cases t2 with
    | nil=>cases hl
    | cons b3 t3 =>
     cases t3 with
     | nil=>cases hl
     | cons b4 t4 =>
      cases t4 with
      | nil=>exact h kV doc pm an cdv ct b0 b1 b2 b3 b4
      | cons=>cases hl
section
variable {P:U8}{w:W1}{K:U0}{mg:U4}{base:Heap}
theorem FunAt.cal {x:Str}{st:Stmt}{dV:W2}{N ps:W0}{k:Nat}{sp:Sp}(F:FunAt K x st dV){h:Heap}(X:K.In h)(G:Ng h mg)(S:FnScope N ps (Z0i st))(bi:Z2r K x st dV ps)(len:∀ vs H Q E,sp vs H Q E->vs.length=ps.length)
  (hbody:∀ (f:W9) (cdv:W2) (A:W6) (outer:List Env) (s:U7) (H:Hp) (vs:List V) (Q:VK) (E:XK),Room k (A.deeper (envOfC x (Z0i st) s.heap.objs.size f cdv))->sp vs H Q E →
   ∃ t,PSs (cxOf CX0 P w K mg base N x (Z0i st) f cdv A outer s H E).nox (Z1h st) t/\t { nx:=λ_ H'=>Q .non H',rt:=Q } (start N vs) H):Cal P w K mg base (k+1) x ps sp:=by
 obtain⟨f,oc,od,kV,doc,pm,an,cdv,ct,osl,lk,hcd,kp,ns⟩:=F.ex
 refine⟨f,_,W1r lk hcd S len λA outer s H vs Q E hr hsp=>?_,bi kV doc pm an cdv ct,kp,q4i X G ns⟩
 obtain⟨t,h,q⟩:=hbody f cdv A outer s H vs Q E hr hsp
 exact⟨t,h.nox,q⟩
end
theorem cxK {P:U8}{w:W1}{K:U0}{mg:U4}{base:Heap}{N:W0}{x:Str}{sc:Scope}{f:W9}{cdv:W2}{A:W6}{outer:List Env}{s:U7}{H:Hp}{E:XK}:(cxOf CX0 P w K mg base N x sc f cdv A outer s H E).nox.K=K:=rfl
theorem Z0g {H:Hp}{p:W9}(h:H p=none)(o:HO):Same H (upd H p o):=λb u q=>by rw[Z0x (Z1w q h)];exact q
theorem X5b (K:U0):PySem.W.kitOne K (.type "int") (.type "int")=some true:=by unfold PySem.W.kitOne;rw[if_pos (by decide)]
theorem X5c (K:U0):PySem.W.kitOne K (.type "int") (.type "bool")=some false:=by with_unfolding_all rfl
theorem eqI {a b:Int}{A B:Prop}(h1:a=b->A)(h2:a≠b->B):if decide (V.int a=V.int b)=true then A else B:=by
 by_cases h:a=b
 ·subst h
  rw[q1f rfl]
  exact iteT (h1 rfl)
 ·rw[q0w λe=>h (V.int.inj e)]
  exact iteF (h2 h)
theorem neI {a b:Int}{A B:Prop}(h1:a≠b->A)(h2:a=b->B):if (!decide (V.int a=V.int b))=true then A else B:=by
 by_cases h:a=b
 ·subst h
  rw[q1f rfl]
  exact iteF (h2 rfl)
 ·rw[q0w λe=>h (V.int.inj e)]
  exact iteT (h1 h)
theorem decI {p:Prop}[Decidable p]{A B:Prop}(h1:p->A)(h2:¬ p->B):if decide p=true then A else B:=by
 by_cases h:p
 ·rw[q1f h];exact iteT (h1 h)
 ·rw[q0w h];exact iteF (h2 h)
theorem blI {c:Bool}{A B:Prop}(h1:c=true->A)(h2:c=false->B):if c=true then A else B:=by
 cases c
 ·exact iteF (h2 rfl)
 ·exact iteT (h1 rfl)
theorem nblI {c:Bool}{A B:Prop}(h1:c=false->A)(h2:c=true->B):if (!c)=true then A else B:=by
 cases c
 ·exact iteT (h1 rfl)
 ·exact iteF (h2 rfl)
def tCut (t u:TS):TS:=λD σ H=>∃ Good:St->Hp->Prop,t { D with nx:=Good } σ H/\∀ σ' H',Good σ' H'->u D σ' H'
theorem Z1c {X:Cx}{st:Stmt}{rest:W8}{t u:TS}(h1:PS X st t)(h2:PSs X rest u):PSs X (st::rest) (tCut t u):=by
 intro pins s σ H D I h
 obtain⟨Good,ht,hu⟩:=h
 refine q7q (thn (h1 pins s σ H { D with nx:=Good } I ht) λf s1 q=>?_)
 cases f with
 | next =>
  obtain⟨σ',H',I',q⟩:=q
  exact h2 pins s1 σ' H' D I' (hu σ' H' q)
 | ret v=>exact q
 | brk=>exact q
 | cont=>exact q
theorem Z0s {H H':Hp}{p:W9}{o:HO}(h:Same H H')(hn:H p=none):Same H (upd H' p o):=λb u q=>by rw[Z0x (Z1w q hn)];exact h b u q
end L2
namespace Zo
open PySem.Sem (wp)
def Stop (h:Heap)(e:W9):Prop:=∃ o,h.get? e=some o/\o.cls=.type "StopIteration"
def Rest (S:U3)(h h':Heap):Prop:=∀ c o,c ∉ S->h.get? c=some o->h'.get? c=some o
theorem Rest.trans {S:U3}{h h1 h2:Heap}(a:Rest S h h1)(b:Rest S h1 h2):Rest S h h2:=λc o n e=>b c o n (a c o n e)
theorem Rest.sub {S T:U3}{h h1:Heap}(a:Rest S h h1)(q:∀ c,c∈S->c∈T):Rest T h h1:=λc o n e=>a c o (λz=>n (q c z)) e
theorem Rest.ext {S:U3}{h h1:Heap}{b:W9}(e:Heap.ExtBut b h h1)(q:b∈S):Rest S h h1:=λc o n x=>e c o (λz=>n (z ▸ q)) x
theorem Rest.but {S:U3}{h h1:Heap}{b:W9}(e:Heap.SameBut b h h1)(q:b∈S):Rest S h h1:=Rest.ext e.extBut q
theorem Rest.new {S:U3}{h:Heap}(o:Obj):Rest S h (h.push o):=λc u n x=>q0f _ x
def Stays (S:U3)(G:Heap->Prop):Prop:=∀ h h',Rest S h h'->G h->G h'
def Told (it:W9)(hp:Heap)(g:Array GenState)(d:Drawn)(tk:Nat)(os:OsState)(G:Heap->Prop)(ox:Option Value)(Q E:U2):Prop :=
 (∀ x h',ox=some x->G h'->Heap.SameBut it hp h'->Q x ⟨h',g,d,tk,os⟩) ∧
 (∀ e h',ox=none->Heap.ExtBut it hp h'->Stop h' e->E (.ref e) ⟨h',g,d,tk,os⟩)
def Pull (prog:U8)(w:W1)(A:W6)(it:W9)(G G':Heap->Prop)(ox:Option Value):Prop :=
 ∀ {Q E:U2}{hp:Heap}{g:Array GenState}{d:Drawn}{tk:Nat}{os:OsState},G hp->Told it hp g d tk os G' ox Q E →
  wpAny (model prog w) A (Builtin.SmallTypes.nextOf (.ref it)) Q E ⟨hp,g,d,tk,os⟩
section
variable {prog:U8}{w:W1}{A:W6}{E:U2}{hp:Heap}{g:Array GenState}{d:Drawn}{tk:Nat}{os:OsState}
theorem Pull.behind {it:W9}{G G':Heap->Prop}{ox:Option Value}(p:Pull prog w A it G G' ox)(hg:G hp){α:Type}{f:Value->Sem α}{k:Value->Sem Unit}{Q:α->Shared->Prop}
  (t:Told it hp g d tk os G' ox (λx s'=>wpAny (model prog w) A (f x) Q (λe s2=>wpAny (model prog w) A (k e) (λ_ s3=>E e s3) E s2) s') (λe s2=>wpAny (model prog w) A (k e) (λ_ s3=>E e s3) E s2)) :
  wpAny (model prog w) A ((Builtin.SmallTypes.nextOf (.ref it) >>= f).onRaise k) Q E ⟨hp,g,d,tk,os⟩:=wpAny_onRaise (q0e (p hg t))
theorem freed {z I O e:W9}{v:W2}{h:Heap}(gz:IsZip h z I O v)(st:Stop h e)(k:∀ h',Rest [z] h h'->Stop h' e->E (.ref e) ⟨h',g,d,tk,os⟩) :
  wpAny (model prog w) A (setField (.ref z) 0 .none) (λ_ s3=>E (.ref e) s3) E ⟨h,g,d,tk,os⟩:=by
 obtain⟨o,ho,hc⟩:=st
 have ne:e≠z:=by
  rintro rfl
  have q:=ho.symm.trans gz
  cases q
  exact absurd (Value.type.inj hc) (by decide)
 refine q8r gz rfl (by simp) (k _ (Rest.but (Heap.SameBut.update ..) (by simp)) ⟨o,(Heap.SameBut.update ..).extBut _ _ ne ho,hc⟩)
theorem step {z I O i j:W9}{ox oy:Option Value}{a b:W2}{G1 G1' G2 G2':Heap->Prop}{R:PySem.Fin->Shared->Prop}
  (gz:IsZip hp z I O .none) (gI:IsPair hp I (.ref i) (.ref j)) (gO:IsPair hp O a b) (ne:O≠z/\O≠i/\O≠j/\i≠z/\j≠z)
  (p1:Pull prog w A i G1 G1' ox) (p2:Pull prog w A j G2 G2' oy) (a1:G1 hp) (a2:G2 hp)
  (k1:Stays [z,O,j] G1) (k2:Stays [z,O,i] G2) (k3:Stays [z,O,j] G1') (k4:Stays [z,O,i] G2')
  (go:∀ x y h',ox=some x->oy=some y->IsZip h' z I O (rawInt hp.objs.size)->IsPair h' O x y->IsPair h' hp.objs.size x y->G1' h'->G2' h'->Rest [z,O,i,j] hp h'->R (.done (.ret (.ref hp.objs.size))) ⟨h',g,d,tk,os⟩)
  (stop:∀ e h',ox=none∨oy=none->Rest [z,O,i,j] hp h'->Stop h' e->E (.ref e) ⟨h',g,d,tk,os⟩) :
  wpAny (model prog w) A (Builtin.«zip.__next__» ⟨[.ref z],[]⟩) R E ⟨hp,g,d,tk,os⟩:=by
 obtain⟨n1,n2,n3,n4,n5⟩:=ne
 have c0:(#[Value.none,.bool false,.bool false,.ref I,.ref O]:U9)[0]?=some .none:=rfl
 have c2:(#[Value.none,.bool false,.bool false,.ref I,.ref O]:U9)[2]?=some (.bool false):=rfl
 have c3:(#[Value.none,.bool false,.bool false,.ref I,.ref O]:U9)[3]?=some (.ref I):=rfl
 have c4:(#[Value.none,.bool false,.bool false,.ref I,.ref O]:U9)[4]?=some (.ref O):=rfl
 have z0:0<(#[Value.none,.bool false,.bool false,.ref I,.ref O]:U9).size:=by simp
 wp_walk using q4q gz rfl c2,q4q gz rfl c3,q6b gI rfl,q4q gz rfl c0,q4q gz rfl c4,wpAny_setField_rec gz z0
 intro h1 z1 r1
 have q1:Rest [z] hp h1:=.but r1 (by simp)
 wp_walk
 refine p1.behind (f:=λx=>pure (some x)) (k:=λ_=>setField (.ref z) 0 .none) (k1 _ _ (q1.sub (by simp)) a1) ⟨λx h2 e2 b2 r2=>?_,λe h2 e2 r2 st=>?_⟩
 ·have O2:IsPair h2 O a b:=r2.extBut _ _ n2 (r1.extBut _ _ n1 gO)
  wp_walk using q6b O2 rfl,wpAny_updateSeq_pair O2
  intro h3 O3 r3
  wp_walk using wpAny_letGo
  have q3:Rest [z,O,i] hp h3:=((q1.sub (by simp)).trans (.but r2 (by simp))).trans (.but r3 (by simp))
  refine p2.behind (f:=λx=>pure (some x)) (k:=λ_=>setField (.ref z) 0 .none) (k2 _ _ q3 a2) ⟨λy h4 e4 b4 r4=>?_,λe h4 e4 r4 st=>?_⟩
  ·have O4:IsPair h4 O x b:=r4.extBut _ _ n3 O3
   wp_walk using q6b O4 rfl,wpAny_updateSeq_pair O4
   intro h5 O5 r5
   have O5':IsPair h5 O x y:=O5
   have q5:Rest [z,O,i,j] hp h5:=((q3.sub (by simp)).trans (.but r4 (by simp))).trans (.but r5 (by simp))
   have z5:IsZip h5 z I O .ellipsis:=r5.extBut _ _ n1.symm (r4.extBut _ _ n5.symm (r3.extBut _ _ n1.symm (r2.extBut _ _ n4.symm z1)))
   have sz:h5.objs.size=hp.objs.size:=(((r5.1.trans r4.1).trans r3.1).trans r2.1).trans r1.1
   have lt:z<h5.objs.size:=q0j z5
   have z6:IsZip (h5.push { cls:=.type "tuple",data:=.seq #[x,y].toList.toArray }) z I O .ellipsis:=q0f _ z5
   wp_walk using wpAny_letGo,q6b O5' rfl
   have z8:=q4v (Obj.mapFields λv=>v.setIfInBounds 1 (Value.bool false)) (q4v (Obj.mapFields λv=>v.setIfInBounds 0 (rawInt h5.objs.size)) z6 rfl) rfl
   have r8:Rest [z] (h5.push { cls:=.type "tuple",data:=.seq #[x,y].toList.toArray }) _:=(Rest.but (b:=z) (Heap.SameBut.update (f:=Obj.mapFields λv=>v.setIfInBounds 0 (rawInt h5.objs.size)) ..) (by simp)).trans (Rest.but (b:=z) (Heap.SameBut.update (f:=Obj.mapFields λv=>v.setIfInBounds 1 (Value.bool false)) ..) (by simp))
   have q8:=(Rest.new _).trans r8
   have T8:=r8 h5.objs.size _ (by simp;exact q3p lt) (q0q _ rfl)
   simp only[<-sz] at go
   exact go x y _ e2 e4 z8 (q8 _ _ (by simp[n1]) O5') T8 (k3 _ _ ((((Rest.but (S:=[z,O,j]) r3 (by simp)).trans (.but r4 (by simp))).trans (.but r5 (by simp))).trans (q8.sub (T:=[z,O,j]) (by simp))) b2)
    (k4 _ _ ((Rest.but (S:=[z,O,i]) r5 (by simp)).trans (q8.sub (T:=[z,O,i]) (by simp))) b4) (q5.trans (q8.sub (T:=[z,O,i,j]) (by simp)))
  ·exact freed (r4 _ _ n5.symm (r3.extBut _ _ n1.symm (r2.extBut _ _ n4.symm z1))) st λh5 r5 st' =>
    stop e h5 (.inr e4) (((q3.sub (by simp)).trans (.ext r4 (by simp))).trans (r5.sub (by simp))) st'
 ·exact freed (r2 _ _ n4.symm z1) st λh3 r3 st'=>stop e h3 (.inl e2) (((q1.sub (by simp)).trans (.ext r2 (by simp))).trans (r3.sub (by simp))) st'
end
end Zo
namespace Zn
open PySem.Sem (wp)
section
variable {prog:U8}{w:W1}{A:W6}{E:U2}{hp:Heap}{g:Array GenState}{d:Drawn}{tk:Nat}{os:OsState}{it l:W9}{i n:Nat}{its:U9}{oi ol:Obj}{R:PySem.Fin->Shared->Prop}
theorem X1c (hh:its[i]?=none->A.handled=none)(gi:hp.get? it=some oi)(di:oi.data=.fields #[.ref l,.int i 0])(gl:hp.get? l=some ol)(dl:ol.data=.seq its n)
  (go:∀ x,its[i]?=some x->R (.done (.ret x)) ⟨hp.update it (Obj.mapFields (·.setIfInBounds 1 (rawInt (i+1)))),g,d,tk,os⟩)
  (stop:∀ h' e,its[i]?=none->Heap.ExtBut it hp h'->(∃ o,h'.get? e=some o/\o.cls=.type "StopIteration")->E (.ref e) ⟨h',g,d,tk,os⟩) :
  wpAny (model prog w) A (Builtin.«tuple_iterator.__next__» ⟨[.ref it],[]⟩) R E ⟨hp,g,d,tk,os⟩:=by
 have f0:(#[Value.ref l,.int i 0]:U9)[0]?=some (.ref l):=rfl
 have f1:(#[Value.ref l,.int i 0]:U9)[1]?=some (.int i 0):=rfl
 have z0:0<(#[Value.ref l,.int i 0]:U9).size:=by simp
 have z1:1<(#[Value.ref l,.int i 0]:U9).size:=by simp
 wp_walk using q4q gi di f0,q4q gi di f1,q6b gl dl
 rw[q0v]
 cases hx:its[i]? with
 | some x =>
  dsimp only
  wp_walk using q8r gi di z1
  exact go x hx
 | none =>
  dsimp only
  have h0:=hh hx
  wp_walk using q8r gi di z0
  exact wpAny_raiseNew_none h0 (stop _ _ hx (((Heap.SameBut.update ..).extBut.push _).push _) ⟨_,q0q _ rfl,Z⟩)
end
end Zn
namespace Zp
open Zo
open PySem.Sem (wp)
def Dat (t:Bool)(h:Heap)(l:W9)(xs:U9):Prop:=if t then h.IsTuple l xs else h.IsList l xs
def Itr (t:Bool)(h:Heap)(it l:W9)(i:Nat):Prop:=if t then h.IsTupleIter it l i else h.IsListIter it l i
theorem Dat.at {t:Bool}{h h':Heap}{l:W9}{xs:U9}(d:Dat t h l xs)(e:∀ o,h.get? l=some o->h'.get? l=some o):Dat t h' l xs:=by
 cases t<;>exact let ⟨o,q,r⟩:=d;⟨o,e o q,r⟩
theorem Itr.at {t:Bool}{h h':Heap}{it l:W9}{i:Nat}(d:Itr t h it l i)(e:∀ o,h.get? it=some o->h'.get? it=some o):Itr t h' it l i:=by
 cases t<;>exact let ⟨o,q,r⟩:=d;⟨o,e o q,r⟩
theorem Itr.obj {t:Bool}{h:Heap}{it l:W9}{i:Nat}(d:Itr t h it l i):∃ o,h.get? it=some o/\∀ v,o.data≠.cell v:=by
 cases t<;>exact let ⟨o,e,_,q⟩:=d;⟨o,e,λv z=>by rw[q] at z;cases z⟩
theorem Dat.push {t:Bool}{h:Heap}{l:W9}{xs:U9}(d:Dat t h l xs)(o:Obj):Dat t (h.push o) l xs:=d.at λ_ q=>q0f _ q
def Stand (t:Bool)(it l:W9)(k:Nat)(xs:U9)(h:Heap):Prop:=Itr t h it l k/\Dat t h l xs
theorem Stand.stays {t:Bool}{it l:W9}{k:Nat}{xs:U9}{S:U3}(a:it ∉ S)(b:l ∉ S):Stays S (Stand t it l k xs):=λh h' r d=>⟨d.1.at λo q=>r _ o a q,d.2.at λo q=>r _ o b q⟩
section
variable {prog:U8}{w:W1}{A:W6}
theorem via {E:U2}{T id:String}{f:Builtin}{a:W9}{s:U7}{Q:Option Value->Shared->Prop}(sl:Slot T (Str.ofString "__next__") id)(en:entryFor table id=some f)(ar:argsOk id ⟨[.ref a],[]⟩)(ty:s.TypeIs (.ref a) T)
  (h:wpAny (model prog w) A.in1 (f ⟨[.ref a],[]⟩) (λr s'=>∃ v,r=.done (.ret v)/\Q (some v) s') E s):wpAny (model prog w) A (callSpecial? (.ref a) (Str.ofString "__next__")) Q E s :=
 q5l ty sl (q5c sl ty en h ar)
theorem pull {t:Bool}{it l:W9}{k:Nat}{xs:U9}(hh:A.handled=none):Pull prog w A it (Stand t it l k xs) (Stand t it l (k+1) xs) xs[k]?:=by
 intro Q E hp g d tk os st td
 have nl:∀ {h'},Heap.SameBut it hp h'->l≠it->Dat t h' l xs:=λr n=>st.2.at λo q=>r.extBut _ _ n q
 cases t with
 | false =>
  obtain⟨a,b⟩:hp.IsListIter it l k/\hp.IsList l xs:=st
  have n:l≠it:=by
   rintro rfl
   obtain⟨o,q,_,r⟩:=a
   obtain⟨o',q',_,_,r'⟩:=b
   rw[q] at q';cases q';rw[r] at r';cases r'
  cases hx:xs[k]? with
  | some x=>exact wpAny_nextOf_list_item a b hx λh' i r=>td.1 x h' hx ⟨i,nl r n⟩ r
  | none=>exact wpAny_nextOf_list_end hh a b hx λh' e r s=>td.2 e h' hx r s
 | true =>
  obtain⟨a,b⟩:hp.IsTupleIter it l k/\hp.IsTuple l xs:=st
  have ty:(⟨hp,g,d,tk,os⟩:U7).TypeIs (.ref it) "tuple_iterator":=a.typeIs
  obtain⟨o,q,c,r⟩:=a
  obtain⟨o',q',c',m,r'⟩:=b
  have n:l≠it:=by rintro rfl;rw[q] at q';cases q';rw[r] at r';cases r'
  unfold Builtin.SmallTypes.nextOf
  refine q0e (via F.slot_tuple_iterator_next F.entry_tuple_iterator_next (F.args_tuple_iterator_next_1 _) ty (Zn.X1c (λ_=>hh) q r q' r' (λx hx=>⟨x,Z,q0s (td.1 x _ hx ?_ (Heap.SameBut.update ..))⟩) λh' e hx ex s=>td.2 e h' hx ex s))
  refine⟨(⟨_,q4v _ q (Obj.isFreed_of_fields (Obj.data_mapFields r _)),(Obj.cls_mapFields ..).trans c,?_⟩:Heap.IsTupleIter _ it l (k+1)),nl (Heap.SameBut.update ..) n⟩
  rw[Obj.data_mapFields r]
  rfl
variable {E:U2}
theorem Y4j {t1 t2:Bool}{z I O i j l m:W9}{k1 k2:Nat}{xs ys:U9}{a b:W2}{Q:Option Value->Shared->Prop}{s:U7}(hh:A.handled=none)(D:ZipApart z I O i j l m)
  (gz:IsZip s.heap z I O .none) (gI:IsPair s.heap I (.ref i) (.ref j)) (gO:IsPair s.heap O a b) (d1:Stand t1 i l k1 xs s.heap) (d2:Stand t2 j m k2 ys s.heap)
  (go:∀ x y h',xs[k1]?=some x->ys[k2]?=some y->IsZip h' z I O (rawInt s.heap.objs.size)->IsPair h' O x y->IsPair h' s.heap.objs.size x y->Stand t1 i l (k1+1) xs h'->Stand t2 j m (k2+1) ys h' →
   Rest [z,O,i,j] s.heap h'->Q (some (.ref s.heap.objs.size)) ⟨h',s.gens,s.drawn,s.toks,s.os⟩)
  (stop:∀ h',xs[k1]?=none∨ys[k2]?=none->Rest [z,O,i,j] s.heap h'->Q none ⟨h',s.gens,s.drawn,s.toks,s.os⟩):wpAny (model prog w) A (pyNext (.ref z)) Q E s:=by
 obtain⟨hp,g,d,tk,os⟩:=s
 unfold pyNext
 refine q0e (wpAny_attempt (via F.slot_zip_next F.entry_zip_next (F.args_zip_next_1 _) ⟨_,gz,Z⟩ (step gz gI gO ⟨D.TOz,D.TOi1,D.TOi2,D.i1z,D.i2z⟩ (pull (A:=A.in1) hh) (pull (A:=A.in1) hh) d1 d2 ?_ ?_ ?_ ?_ ?_ ?_)))
 ·exact Stand.stays (by simp[D.i1z,D.TOi1.symm,D.i12]) (by simp[D.l1z,D.l1TO,D.l1i2])
 ·exact Stand.stays (by simp[D.i2z,D.TOi2.symm,D.i12.symm]) (by simp[D.l2z,D.l2TO,D.l2i1])
 ·exact Stand.stays (by simp[D.i1z,D.TOi1.symm,D.i12]) (by simp[D.l1z,D.l1TO,D.l1i2])
 ·exact Stand.stays (by simp[D.i2z,D.TOi2.symm,D.i12.symm]) (by simp[D.l2z,D.l2TO,D.l2i1])
 ·exact λx y h' e1 e2 b1 b2 b3 b4 b5 b6=>⟨_,Z,q0s (go x y h' e1 e2 b1 b2 b3 b4 b5 b6)⟩
 ·rintro e h' n r ⟨o,q,c⟩
  exact q0e (wpAny_isInstance (b:=true) ⟨o,q,c⟩ isSubtype_stop (q0s (stop h' n r)))
end
noncomputable abbrev itObj (t:Bool)(l:W9):Obj:={ cls:=.type (if t then "tuple_iterator" else "list_iterator"),data:=.fields #[.ref l,.int 0 0] }
theorem Y9m {t:Bool}{h:Heap}{it l:W9}(e:h.get? it=some (itObj t l)):Itr t h it l 0:=by
 cases t<;>exact⟨_,e,Z,Z⟩
theorem push5 {h:Heap}{o0 o1 o2 o3 o4:Obj}(f0:o0.isFreed=false)(f1:o1.isFreed=false)(f2:o2.isFreed=false)(f3:o3.isFreed=false)(f4:o4.isFreed=false){H:Heap}(e:H=((((h.push o0).push o1).push o2).push o3).push o4) :
  H.get? h.objs.size=some o0/\H.get? (h.objs.size+1)=some o1/\H.get? (h.objs.size+2)=some o2/\H.get? (h.objs.size+3)=some o3/\H.get? (h.objs.size+4)=some o4/\∀ c o,h.get? c=some o->H.get? c=some o:=by
 subst e
 have w:∀ {h:Heap}{a:W9}{o o':Obj},h.get? a=some o->(h.push o').get? a=some o:=λq=>q0f _ q
 have s1:(h.push o0).objs.size=h.objs.size+1:=q2n ..
 have s2:((h.push o0).push o1).objs.size=h.objs.size+2:=by rw[q2n,s1]
 have s3:(((h.push o0).push o1).push o2).objs.size=h.objs.size+3:=by rw[q2n,s2]
 have s4:((((h.push o0).push o1).push o2).push o3).objs.size=h.objs.size+4:=by rw[q2n,s3]
 refine⟨w (w (w (w (q0q _ f0)))),?_,?_,?_,?_,λc o q=>w (w (w (w (w q))))⟩
 ·rw[<-s1];exact w (w (w (q0q _ f1)))
 ·rw[<-s2];exact w (w (q0q _ f2))
 ·rw[<-s3];exact w (q0q _ f3)
 ·rw[<-s4];exact q0q _ f4
structure New (t1 t2:Bool) (h h':Heap) (l m:W9):Prop where
 z:IsZip h' (h.objs.size+4) (h.objs.size+2) (h.objs.size+3) .none
 I:IsPair h' (h.objs.size+2) (.ref h.objs.size) (.ref (h.objs.size+1))
 O:IsPair h' (h.objs.size+3) .none .none
 i:Itr t1 h' h.objs.size l 0
 j:Itr t2 h' (h.objs.size+1) m 0
 k:Rest [] h h'
section
variable {prog:U8}{w:W1}{A:W6}{E:U2}{s:U7}
theorem Y4u {t:Bool}{l:W9}{xs:U9}{Q:U2}(hl:Dat t s.heap l xs)(h:Q (.ref s.heap.objs.size) { s with heap:=s.heap.push (itObj t l) }):wpAny (model prog w) A (pyIter (.ref l)) Q E s:=by
 cases t
 ·exact q5z (show s.heap.IsList l xs from hl) h
 ·exact q5k (show s.heap.IsTuple l xs from hl) h
theorem Y8y (t1 t2:Bool)(l m:W9)(xs ys:U9) :
  Meets (Builtin.«zip.__new__» ⟨[.type "zip",.ref l,.ref m],[]⟩) (λ_ R s=>Dat t1 s.heap l xs/\Dat t2 s.heap m ys ∧
   ∀ h',New t1 t2 s.heap h' l m->R (.ok (.ret (.ref (s.heap.objs.size+4)))) { s with heap:=h' }) :=
 .of_wp λprog w A R s h=>by
  rcases s with ⟨hp,g,d,tk,os⟩
  rcases h with ⟨b1,b2,h⟩
  have hsub:=sub_zip
  have L1:Dat t1 (Shared.heap ⟨hp,g,d,tk,os⟩) l xs:=b1
  have L2:Dat t2 (Shared.heap ⟨hp.push (itObj t1 l),g,d,tk,os⟩) m ys:=b2.push _
  wp_walk using Y4u L1,Y4u L2
  have key:∀ n1 n2 n3 n4,n1=hp.objs.size+1->n2=hp.objs.size+2->n3=hp.objs.size+3->n4=hp.objs.size+4 →
    R (.ok (.ret (.ref n4))) ⟨((((hp.push (itObj t1 l)).push (itObj t2 m)).push { cls:=.type "tuple",data:=.seq #[.ref hp.objs.size,.ref n1] }).push { cls:=.type "tuple",data:=.seq #[.none,.none] }).push
     { cls:=.type "zip",data:=.fields #[.none,.bool false,.bool false,.ref n2,.ref n3] },g,d,tk,os⟩:=by
   rintro _ _ _ _ rfl rfl rfl rfl
   obtain⟨a0,a1,a2,a3,a4,a5⟩:=push5 (h:=hp) (o0:=itObj t1 l) (o1:=itObj t2 m) (o2:={ cls:=.type "tuple",data:=.seq #[.ref hp.objs.size,.ref (hp.objs.size+1)] }) (o3:={ cls:=.type "tuple",data:=.seq #[.none,.none] })
    (o4:={ cls:=.type "zip",data:=.fields #[.none,.bool false,.bool false,.ref (hp.objs.size+2),.ref (hp.objs.size+3)] }) rfl rfl rfl rfl rfl rfl
   exact h _ ⟨a4,a2,a3,Y9m a0,Y9m a1,λc o _ q=>a5 c o q⟩
  exact⟨_,Z,key _ _ _ _ (by simp only[q2n]) (by simp only[q2n]) (by simp only[q2n]) (by simp only[q2n])⟩
theorem X3t {t1 t2:Bool}{l m:W9}{xs ys:U9}{Q:U2}(b1:Dat t1 s.heap l xs)(b2:Dat t2 s.heap m ys)
  (k:∀ h',New t1 t2 s.heap h' l m->Q (.ref (s.heap.objs.size+4)) { s with heap:=h' }):wpAny (model prog w) A (call (.type "zip") [.ref l,.ref m]) Q E s :=
 callType_new F.called_zip (by decide) (F.typeCall_zip_2 _ _) (F.newCall_zip_2 _ _) (λo=>F.args_object_init_3 o _ _) F.entry_zip_new (Y8y t1 t2 l m xs ys) ⟨b1,b2,λh' n=>⟨⟨_,n.z,Z⟩,k h' n⟩⟩
end
end Zp
namespace L2
section
variable {X:Cx}{pins:U1}{σ:St}{H:Hp}{s:U7}{h':Heap}
theorem Inv.turnedL {t':Nat}{ch:U3}(I:Inv X pins σ H s)(k:∀ b o,b ∉ ch->s.heap.get? b=some o->h'.get? b=some o)(hf:∀ b∈ch,FpOk X pins H b):Inv X pins σ H { s with heap:=h',toks:=t' }:=by
 have nit:∀ b u,H b=some u->b ∉ ch:=λb u e z=>by rw[(hf b z).1] at e;cases e
 refine I.step (g':=s.gens) (d':=s.drawn) (ch:=ch) (λb hb=>⟨(hf b hb).2.2.2.1,(hf b hb).2.1,(hf b hb).2.2.2.2.1,(hf b hb).2.2.2.2.2⟩) (λb o _ _ hc e _=>k b o hc e) (λb o _ _ hc e _=>⟨o.slots,k b o hc e⟩) (λ_ _ _ _ n=>n)
  (λb o hc e=>⟨o,k b o hc e⟩) (λ_ _ e=>e) (λ_ _ _ e=>e) (λb ps e=>⟨#[],by rw[e];simp⟩) (λm hm=>?_) (λb u e=>?_) I.bare
 ·obtain⟨o,es,ep,ho,r⟩:=hm
  exact⟨o,es,ep,k _ o (λz=>(hf _ z).2.1 rfl) ho,r⟩
 ·refine(I.hok b u e).stay (λc v hc q=>k c v ?_ q) (λ_ q=>q) λ_ _ q=>q
  rcases hc with z | z
  ·rw[z];exact nit b u e
  ·exact nit c _ z
theorem Inv.turnedT {t':Nat}{ch:U3}{T:W9}{xs:List V}{its:U5}(I:Inv X pins σ H s)(k:∀ b o,b ∉ ch->s.heap.get? b=some o->h'.get? b=some o)(hf:∀ b∈ch,FpOk X pins H b)(hT:s.heap.objs.size<=T)(hv:Vals xs its)(hz:xs.length<=sizeLine)(ht:IsTup h' T its.toArray) :
  Inv X pins σ (upd H T (.tup xs)) { s with heap:=h',toks:=t' }:=by
 have nit:∀ b u,H b=some u->b ∉ ch:=λb u e z=>by rw[(hf b z).1] at e;cases e
 have hTn:H T=none:=I.hok.fresh hT
 have neT:∀ b o,s.heap.get? b=some o->b≠T:=λb o e=>q0x (q0k (q0j e) hT)
 have neH:∀ b u,H b=some u->b≠T:=λb u e z=>by rw[z,hTn] at e;cases e
 refine I.step (g':=s.gens) (d':=s.drawn) (ch:=ch) (λb hb=>⟨(hf b hb).2.2.2.1,(hf b hb).2.1,(hf b hb).2.2.2.2.1,(hf b hb).2.2.2.2.2⟩) (λb o _ _ hc e _=>k b o hc e) (λb o _ _ hc e _=>⟨o.slots,k b o hc e⟩)
  (λb o _ e n=>by rw[Z0x (neT b o e)];exact n)
  (λb o hc e=>⟨o,k b o hc e⟩) (λb ys e=>by rw[Z0x (neH b _ e)];exact e) (λb o u e=>by rw[Z0x (neH b _ e)];exact e) (λb ps e=>⟨#[],by rw[Z0x (neH b _ e),e];simp⟩) (λm hm=>?_) (λb u e=>?_) I.bare
 ·obtain⟨o,es,ep,ho,r⟩:=hm
  exact⟨o,es,ep,k _ o (λz=>(hf _ z).2.1 rfl) ho,r⟩
 ·by_cases hb:b=T
  ·subst hb
   rw[Z0c] at e
   cases e
   exact⟨hz,its,hv,ht⟩
  ·rw[Z0x hb] at e
   refine(I.hok b u e).stay (λc v hc q=>k c v ?_ q) (λc q=>by rw[Z0x (neH c _ q)];exact q) λc ys q=>by rw[Z0x (neH c _ q)];exact q
   rcases hc with z | z
   ·rw[z];exact nit b u e
   ·exact nit c _ z
end
def SqX (t:Bool)(K:U0)(H:Hp)(a:W9)(xs:List V):Prop:=if t then SqT K H a xs else SqL K H a xs
theorem Inv.sqx {X:Cx}{pins:U1}{σ:St}{H:Hp}{s:U7}{t:Bool}{a:W9}{xs:List V}(I:Inv X pins σ H s)(h:SqX t X.K H a xs):∃ its:List Value,Vals xs its/\Zp.Dat t s.heap a its.toArray/\xs.length<=sizeLine:=by
 cases t
 ·obtain⟨its,v,p,z⟩:=I.list (show SqL X.K H a xs from h)
  exact⟨its,v,p.isList,z⟩
 ·obtain⟨its,v,p,z⟩:=I.tuple (show SqT X.K H a xs from h)
  exact⟨its,v,p,z⟩
theorem Inv.sqx_inj {X:Cx}{pins:U1}{σ:St}{H:Hp}{s:U7}{t:Bool}{a:W9}{xs ys:List V}(I:Inv X pins σ H s)(h:SqX t X.K H a xs)(h':SqX t X.K H a ys):xs=ys:=by
 cases t
 ·exact I.list_inj (show SqL X.K H a xs from h) h'
 ·exact I.tuple_inj (show SqT X.K H a xs from h) h'
def Itz (t1 t2:Bool)(K:U0)(l1 l2:W9):It :=
 ⟨λi H=>∃ xs x ys y,SqX t1 K H l1 xs/\xs[i]?=some x/\SqX t2 K H l2 ys/\ys[i]?=some y,
 λi H v H'=>∃ T x y,v=.ref T/\H T=none/\H'=upd H T (.tup [x,y])/\(∀ xs,SqX t1 K H l1 xs->xs[i]?=some x)/\∀ ys,SqX t2 K H l2 ys->ys[i]?=some y,
 λi H=>∃ xs ys,SqX t1 K H l1 xs/\SqX t2 K H l2 ys/\(xs.length<=i∨ys.length<=i)⟩
theorem X1b {P:U8}{w:W1}{K:U0}{es:List Expr}{kk:Nat}{tp:Pos}{t1 t2:Bool}{z TI TO i1 i2 l1 l2:W9}(D:ZipApart z TI TO i1 i2 l1 l2) :
  Turn P w K (.Tuple es kk tp) (Itz t1 t2 K l1 l2) [z,TI,TO,i1,i2] z (λi h=>IsZip h z TI TO .none/\IsPair h TI (.ref i1) (.ref i2)/\(∃ a b,IsPair h TO a b)/\Zp.Itr t1 h i1 l1 i/\Zp.Itr t2 h i2 l2 i) where
 mem:=by simp
 obj:=λi h st b hb=>by
  obtain⟨a1,a2,⟨x,y,a3⟩,a4,a5⟩:=st
  simp only[q0t,q1j,q3x] at hb
  rcases hb with rfl | rfl | rfl | rfl | rfl
  ·exact⟨_,a1,λv q=>by have q':Data.fields _=Data.cell v:=q;cases q'⟩
  ·exact⟨_,a2,λv q=>by have q':Data.seq _ _=Data.cell v:=q;cases q'⟩
  ·exact⟨_,a3,λv q=>by have q':Data.seq _ _=Data.cell v:=q;cases q'⟩
  ·exact a4.obj
  ·exact a5.obj
 keep:=λi h h' st k=>by
  obtain⟨a1,a2,⟨x,y,a3⟩,a4,a5⟩:=st
  exact⟨k z (by simp) _ a1,k TI (by simp) _ a2,⟨x,y,k TO (by simp) _ a3⟩,a4.at λo e=>k i1 (by simp) o e,a5.at λo e=>k i2 (by simp) o e⟩
 item:=by
  intro X hP hw hK hc i pins s σ H E I hf st hg
  subst hP hw hK
  obtain⟨xs,x,ys,y,q1,hx,q2,hy⟩:=hg
  obtain⟨a1,a2,⟨u1,u2,a3⟩,a4,a5⟩:=st
  obtain⟨its,rv,dt,hz⟩:=I.sqx q1
  obtain⟨its',rv',dt',hz'⟩:=I.sqx q2
  obtain⟨vx,hvx,rx⟩:=rv.get hx
  obtain⟨vy,hvy,ry⟩:=rv'.get hy
  refine Zp.Y4j (I.ok.hd hc) D a1 a2 a3 (d1:=⟨a4,dt⟩) (d2:=⟨a5,dt'⟩) (λwx wy h' f1 f2 b1 b2 b5 b3 b4 bk=>?_) (λh' n _=>?_)
  rotate_left
  ·exfalso
   rcases n with n | n
   ·rw[show its.toArray[i]?=some vx by simpa using hvx] at n;cases n
   ·rw[show its'.toArray[i]?=some vy by simpa using hvy] at n;cases n
  obtain rfl:vx=wx:=Option.some.inj ((show its.toArray[i]?=some vx by simpa using hvx).symm.trans f1)
  obtain rfl:vy=wy:=Option.some.inj ((show its'.toArray[i]?=some vy by simpa using hvy).symm.trans f2)
  refine⟨_,Z,wpAny_letOwnedTupleGo_zip b1 λh2 c1 sb=>?_⟩
  have zT:s.heap.objs.size≠z:=q3p (q0j a1)
  have k2:∀ b o,b ∉ [z,TI,TO,i1,i2]->s.heap.get? b=some o->h2.get? b=some o:=λb o hb e=>by
   simp only[q0t,q1j,q3x,not_or] at hb
   exact sb.extBut b o hb.1 (bk b o (by simp[hb]) e)
  have hT:IsTup h2 s.heap.objs.size ([vx,vy]:U5).toArray:=⟨_,sb.extBut _ _ zT b5,Z,_,Z⟩
  refine⟨.ref s.heap.objs.size,upd H s.heap.objs.size (.tup [x,y]),I.turnedT (t':=s.toks) k2 hf (q0g _) (.cons rx (.cons ry .nil)) (by show 2<=sizeLine;decide) hT,Z,⟨_,x,y,Z,I.hok.fresh (q0g _),Z,λxs' h1=>?_,λys' h1=>?_⟩,⟨c1,?_,⟨vx,vy,?_⟩,?_,?_⟩,λb hb=>?_⟩
  ·rw[I.sqx_inj h1 q1];exact hx
  ·rw[I.sqx_inj h1 q2];exact hy
  ·exact sb.extBut _ _ D.TIz (bk _ _ (by simp[D.TIz,D.TITO,D.TIi1,D.TIi2]) a2)
  ·exact sb.extBut _ _ D.TOz b2
  ·exact b3.1.at λo q=>sb.extBut _ _ D.i1z q
  ·exact b4.1.at λo q=>sb.extBut _ _ D.i2z q
  ·have hlt:b<s.heap.objs.size:=by
    simp only[q0t,q1j,q3x] at hb
    rcases hb with rfl | rfl | rfl | rfl | rfl
    ·exact q0j a1
    ·exact q0j a2
    ·exact q0j a3
    ·obtain⟨o,e,_⟩:=a4.obj;exact q0j e
    ·obtain⟨o,e,_⟩:=a5.obj;exact q0j e
   rw[Z0x (q0x hlt)]
   exact(hf b hb).1
 done:=by
  intro X hP hw hK hc i pins s σ H E I hf st hg
  subst hP hw hK
  obtain⟨xs,ys,q1,q2,hend⟩:=hg
  obtain⟨a1,a2,⟨u1,u2,a3⟩,a4,a5⟩:=st
  obtain⟨its,rv,dt,hz⟩:=I.sqx q1
  obtain⟨its',rv',dt',hz'⟩:=I.sqx q2
  have e1:=rv.length
  have e2:=rv'.length
  have hend':its.toArray[i]?=none∨its'.toArray[i]?=none:=by
   rcases hend with h | h
   ·left;simp;omega
   ·right;simp;omega
  refine Zp.Y4j (I.ok.hd hc) D a1 a2 a3 (d1:=⟨a4,dt⟩) (d2:=⟨a5,dt'⟩) (λwx wy h' f1 f2 b1 b2 b5 b3 b4 bk=>?_) (λh' n bk=>⟨Z,I.turnedL (t':=s.toks) (λb o hb e=>?_) hf⟩)
  ·exfalso
   rcases hend' with n | n
   ·rw[f1] at n;cases n
   ·rw[f2] at n;cases n
  ·simp only[q0t,q1j,q3x,not_or] at hb
   exact bk b o (by simp[hb]) e
 self:=λ_ _ _ _ _ st h=>wpAny_pyIter_zip st.1 h
section
variable {X:Cx}{es:List Expr}{kk:Nat}{tp:Pos}
def iZip (t1 t2:Bool)(K:U0)(ta:TA):TI:=λσ H R=>ta σ H λvs H1=>∃ l1 l2 xs ys,vs=[.ref l1,.ref l2]/\SqX t1 K H1 l1 xs/\SqX t2 K H1 l2 ys/\R (Itz t1 t2 K l1 l2) H1
theorem W0c (t1 t2:Bool){a b:Expr}{ta:TA}{p pos:Pos}(hg:Gl X "zip")(hm:X.mg "zip"=none)(ha:PA X [a,b] ta)(hs:starEach [a,b] X.env=[(false,eval a X.env),(false,eval b X.env)]:=by rfl)(hs2:starEach [b] X.env=[(false,eval b X.env)]:=by rfl) :
  PI X (.Tuple es kk tp) (.Call (.Name "zip" p) [a,b] [] pos) (iZip t1 t2 X.K ta):=by
 intro pins s σ H R I h
 refine Call_ (Z7g I hg hm boot_zip (PyProof.Rows.callWith_type1 (thn (ha pos pins s σ H _ I h) λus s1 ⟨vs,H1,I1,r1,q1⟩=>?_) (by rw[hs,hs2]) (by rw[hs2];rfl)))
 obtain⟨l1,l2,xs,ys,e,h1,h2,q⟩:=q1
 subst e
 cases r1 with
 | cons r rr =>
  cases rr with
  | cons r' rr =>
   cases rr
   cases r
   cases r'
   obtain⟨its,rv,dt,hz⟩:=I1.sqx h1
   obtain⟨its',rv',dt',hz'⟩:=I1.sqx h2
   refine Zp.X3t dt dt' λh' ⟨z1,z2,z3,z4,z5,zk'⟩=>?_
   have zk:∀ c o,s1.heap.get? c=some o->h'.get? c=some o:=λc o q=>zk' c o (by simp) q
   have I2:Inv X pins σ H1 { s1 with heap:=h' }:=I1.kept (t':=s1.toks) zk
   have lt1:l1<s1.heap.objs.size:=by
    cases t1
    ·obtain⟨o,e,_⟩:=(show s1.heap.IsList l1 _ from dt);exact q0j e
    ·obtain⟨o,e,_⟩:=(show s1.heap.IsTuple l1 _ from dt);exact q0j e
   have lt2:l2<s1.heap.objs.size:=by
    cases t2
    ·obtain⟨o,e,_⟩:=(show s1.heap.IsList l2 _ from dt');exact q0j e
    ·obtain⟨o,e,_⟩:=(show s1.heap.IsTuple l2 _ from dt');exact q0j e
   have D:ZipApart (s1.heap.objs.size+4) (s1.heap.objs.size+2) (s1.heap.objs.size+3) s1.heap.objs.size (s1.heap.objs.size+1) l1 l2:=zipApart_new lt1 lt2
   refine wpAny_pyIter_zip z1 ⟨_,_,_,_,H1,Z,I2,X1b D,⟨z1,z2,⟨_,_,z3⟩,z4,z5⟩,λb hb=>?_,q⟩
   have hge:s1.heap.objs.size<=b:=by
    simp only[q0t,q1j,q3x] at hb
    rcases hb with rfl | rfl | rfl | rfl | rfl
    ·exact q6h _ _
    ·exact q6h _ _
    ·exact q6h _ _
    ·exact q0g _
    ·exact q6h _ _
   exact I1.fpOk hge (I1.hok.fresh hge)
end
theorem W0z {t1 t2:Bool}{K:U0}{l1 l2:W9}{g:TG}{xs ys:List V}{te:TE}{fr:St}{H1:Hp}{acc:W9}{Q:VK}(Pv:Nat->List V->Hp->Prop)(hxy:xs.length=ys.length)(hn:xs.length<=sizeLine)(h0:Pv 0 [] (upd H1 acc (.lst [])))
  (hg:∀ {a:W9}{x y v1 v2:V}{w1 w2:Option V}{H:Hp}{Q:St->Hp->Prop},H a=some (.tup [x,y])->Q (some x::some y::fr) H->g (.ref a) (w1::w2::fr) H Q)
  (hl:∀ i zs H,Pv i zs H->SqX t1 K H l1 xs/\SqX t2 K H l2 ys)
  (hs:∀ i x y zs H T (N:V->Hp->Prop),xs[i]?=some x->ys[i]?=some y->zs.length=i->Pv i zs H->H T=none->(∀ z H5,H5 acc=some (.lst zs)->Pv (i+1) (zs++[z]) (upd H5 acc (.lst (zs++[z])))->N z H5)->te (some x::some y::fr) (upd H T (.tup [x,y])) N)
  (hd:∀ zs H,zs.length=xs.length->Pv xs.length zs H->Q (.ref acc) H):LcW (Itz t1 t2 K l1 l2) g te (none::none::fr) H1 acc Q:=by
 refine⟨λi m zs σ2 H2=>m=xs.length-i/\i<=xs.length/\zs.length=i/\(∃ v w,σ2=v::w::fr)/\Pv i zs H2,⟨xs.length,by simp,q1l _,Z,⟨_,_,Z⟩,h0⟩,?_⟩
 rintro i m zs σ2 H2 ⟨rfl,hi,hl2,⟨v,w,rfl⟩,p⟩
 obtain⟨s1,s2⟩:=hl i zs H2 p
 by_cases hlt:i<xs.length
 ·have e1:xs[i]?=some xs[i]:=by simp[hlt]
  have e2:ys[i]?=some (ys[i]'(by omega)):=by simp[show i<ys.length by omega]
  refine .inr ⟨⟨xs,_,ys,_,s1,e1,s2,e2⟩,λu H3 y3=>?_⟩
  obtain⟨T,x,y,rfl,hT,rfl,h1,h2⟩:=y3
  have hx:=h1 xs s1
  have hy:=h2 ys s2
  refine hg (v1:=x) (v2:=y) (Z0c) ?_
  refine hs i x y zs H2 T _ hx hy hl2 p hT λz H5 a5 p5=>⟨a5,by omega,xs.length-(i+1),by omega,Z,hlt,by rw[q1d,hl2];rfl,⟨_,_,Z⟩,p5⟩
 ·have e:i=xs.length:=by omega
  subst e
  exact .inl ⟨⟨xs,ys,s1,s2,.inl (q0g _)⟩,hd zs H2 hl2 p⟩
end L2
namespace Bt
theorem Y2l (x y:Nat):(x&&&y)=2*((x / 2)&&&(y / 2))+(x%2)*(y%2):=by
 have h1:(x&&&y) / 2=(x / 2)&&&(y / 2):=Nat.and_div_two
 have h2:(x&&&y)%2=1 ↔ x%2=1/\y%2=1:=Nat.and_mod_two_eq_one
 rcases q0u x with a | a<;>rcases q0u y with b | b<;>rw[a,b] at h2 ⊢<;>omega
theorem W0u (x y:Nat):(x ||| y)=2*((x / 2) ||| (y / 2))+(x%2+y%2-(x%2)*(y%2)):=by
 have h1:(x ||| y) / 2=(x / 2) ||| (y / 2):=Nat.or_div_two
 have h2:(x ||| y)%2=1 ↔ x%2=1∨y%2=1:=Nat.or_mod_two_eq_one
 rcases q0u x with a | a<;>rcases q0u y with b | b<;>rw[a,b] at h2 ⊢<;>omega
def Half (x y:Int):Prop:=Builtin.bitAnd x y=2*Builtin.bitAnd (x / 2) (y / 2)+(x%2)*(y%2)
theorem Half.swap {x y:Int}(h:Half x y):Half y x:=by
 unfold Half at h ⊢
 rw[bitAnd_comm y x,bitAnd_comm (y / 2),q9h (y%2)];exact h
theorem Half.flip {x y:Int}(h:Half x (Builtin.bitNot y)):Half x y:=by
 unfold Half at h ⊢
 have e:=bitAnd_not x (Builtin.bitNot y)
 have e2:=bitAnd_not (x / 2) (Builtin.bitNot (y / 2))
 rw[q7m] at e e2
 have q:Builtin.bitNot (y / 2)=Builtin.bitNot y / 2:=by unfold Builtin.bitNot;omega
 have p:x%2*(y%2)=x%2-x%2*(Builtin.bitNot y%2):=by
  rw[show y%2=1-Builtin.bitNot y%2 by unfold Builtin.bitNot;omega,Int.mul_sub,Int.mul_one]
 rw[e,e2,q,h,p];omega
theorem Half.pos {x y:Int}(hx:0<=x)(hy:0<=y):Half x y:=by
 have h:∀ {z:Int},0<=z->z.toNat / 2=(z / 2).toNat/\((z.toNat%2:Nat):Int)=z%2:=λh=>by omega
 unfold Half
 rw[bitAnd_pp hx hy,bitAnd_pp (Int.ediv_nonneg hx (by decide)) (Int.ediv_nonneg hy (by decide)),Y2l,(h hx).1,(h hy).1,<-(h hx).2,<-(h hy).2,Int.natCast_add,Int.natCast_mul,Int.natCast_mul];rfl
theorem Half.right {x:Int}(hx:0<=x)(y:Int):Half x y :=
 (Classical.em (0<=y)).elim (Half.pos hx) λhy=>(Half.pos hx (bitNot_nonneg.mpr hy)).flip
theorem Z9v (x y:Int):Builtin.bitAnd x y=2*Builtin.bitAnd (x / 2) (y / 2)+(x%2)*(y%2) :=
 (Classical.em (0<=x)).elim (λhx=>Half.right hx y) λhx=>(Half.right (bitNot_nonneg.mpr hx) y).swap.flip.swap
theorem X6u (x y:Int):Builtin.bitOr x y=2*Builtin.bitOr (x / 2) (y / 2)+(x%2+y%2-(x%2)*(y%2)):=by
 rw[bitOr_and,bitOr_and,Z9v]
 omega
theorem Z4a {v:Nat}{x:Int}:(2:Int)^(v+1) ∣ x ↔ x%2=0/\(2:Int)^v ∣ x / 2:=by
 constructor
 ·rintro ⟨k,rfl⟩
  have e:(2:Int)^(v+1)*k=2*(2^v*k):=by rw[q7d];grind
  rw[e]
  exact⟨by omega,⟨k,by omega⟩⟩
 ·rintro ⟨h0,k,hk⟩
  refine⟨k,?_⟩
  have e:(2:Int)^(v+1)*k=2*(2^v*k):=by rw[q7d];grind
  rw[e,<-hk]
  omega
theorem Z7y:∀ (v:Nat) (x y:Int),(2:Int)^v ∣ Builtin.bitOr x y ↔ (2:Int)^v ∣ x/\(2:Int)^v ∣ y
 | 0,x,y=>by simp
 | v+1,x,y=>by
  rw[Z4a,Z4a,Z4a]
  have e:=X6u x y
  have ih:=Z7y v (x / 2) (y / 2)
  have ex:=q6w x
  have ey:=q6w y
  rcases ex with a | a<;>rcases ey with b | b<;>rw[a,b] at e ⊢
  ·have e2:Builtin.bitOr x y / 2=Builtin.bitOr (x / 2) (y / 2):=by omega
   rw[e2,ih]
   have e3:Builtin.bitOr x y%2=0:=by omega
   simp[e3]
  all_goals
   have e3:Builtin.bitOr x y%2=1:=by omega
   simp[e3]
theorem Y5y (n:Nat):n<2^n:=Nat.lt_two_pow_self
theorem Z6k {x:Int}(h:∀ v:Nat,(2:Int)^v ∣ x):x=0:=by
 have h1:=h x.natAbs
 apply Classical.byContradiction
 intro hx
 have h2:=Int.natAbs_dvd_natAbs.mpr h1
 have h3:=Nat.le_of_dvd (by omega) h2
 rw[Int.natAbs_pow] at h3
 have:=Y5y x.natAbs
 have e:(2:Int).natAbs=2:=rfl
 rw[e] at h3
 omega
theorem Y2d {x y:Int}:Builtin.bitOr x y=0 ↔ x=0/\y=0:=by
 constructor
 ·intro h
  have hd:∀ v:Nat,(2:Int)^v ∣ Builtin.bitOr x y:=λv=>by rw[h];exact Int.dvd_zero _
  exact⟨Z6k λv=>((Z7y v x y).mp (hd v)).1,Z6k λv=>((Z7y v x y).mp (hd v)).2⟩
 ·rintro ⟨rfl,rfl⟩
  decide +kernel
theorem Y9b:∀ (n:Nat) (p:Int),p.natAbs<n->p≠0->∃ (v:Nat) (q:Int),p=2^v*q/\q%2=1/\Builtin.bitAnd p (-p)=((2^v:Nat):Int)
 | 0,p,h,_=>by omega
 | n+1,p,h,hp=>by
  rcases q6w p with h0 | h1
  ·obtain⟨v,q,e,o,b⟩:=Y9b n (p / 2) (by omega) (by omega)
   refine⟨v+1,q,?_,o,?_⟩
   ·have e2:(2:Int)^(v+1)*q=2*(2^v*q):=by rw[q7d];grind
    rw[e2,<-e];omega
   ·rw[Z9v,show (-p) / 2=-(p / 2) by omega,b,h0,q4r]
    omega
  ·refine⟨0,p,by simp,h1,?_⟩
   rw[Z9v,show (-p) / 2=Builtin.bitNot (p / 2) by unfold Builtin.bitNot;omega,bitAnd_not,bitAnd_self,h1,show (-p)%2=1 by omega]
   rw[Int.sub_self];rfl
theorem Z9t (v:Nat):Builtin.Int.intBits ((2^v:Nat):Int)=v+1:=by
 unfold Builtin.Int.intBits
 have hp:0<2^v:=q0o v
 have hne:((((2^v:Nat):Int)) == 0)=false:=by
  rw[beq_eq_false_iff_ne];omega
 rw[hne,Int.natAbs_natCast,Nat.log2_two_pow]
 rfl
end Bt
namespace L2
section
variable {X:Cx}
def CShl (i j:Int):Prop:=∃ a,Sz a i/\0<=j/\(a:Int)+j<=1048576
theorem Z1t:OpR X (binaryOp .LShift) (rI CShl λi j=>.int (i*2^j.toNat)):=opI λi j _ _ _ _ _ hc q=>by
 obtain⟨a,h1,h2,h3⟩:=hc
 have:=h1.bits
 exact lshift_int h2 (by omega) q
theorem Z2t:MtR X "int.bit_length" (λx xs H Q=>∃ i,x=.int i/\xs=[]/\Q (.int (Builtin.Int.intBits i:Nat)) H):=by
 intro pins s σ H x xs v us Q I rx rs h
 obtain⟨i,rfl,rfl,q⟩:=h
 obtain⟨t,rfl⟩:=rx
 cases rs
 refine call_gives q1p (q8z s i t) PySem.F.entry_int_bit_length (PySem.F.args_int_bit_length_1 _) (PySem.AutoIntG2.int_bit_length_int_0 i t) ?_
 exact⟨.int (Builtin.Int.intBits i:Nat),H,I.tok _,⟨_,Z⟩,q⟩
theorem Y1i (hc:X.calm=true):CallR X (.builtin "any") (λxs H Q=>∃ (p:W9) (bs:List Bool),xs=[.ref p]/\SqL X.K H p (bs.map V.bl)/\Q (.bl (bs.any id)) H):=by
 intro pins s σ H xs us Q I r h
 obtain⟨p,bs,rfl,hq,q⟩:=h
 obtain⟨u,rfl,ru⟩:=r.one
 cases ru
 obtain⟨its,rv,pl,hz⟩:=I.list hq
 have hlen:its.length=bs.length:=by rw[<-rv.length,q0a]
 refine call_any_walk (q5z pl.isList ?_)
 have W:=Walks.list (prog:=X.prog) (w:=X.w) (A:=X.A.in1) (show X.A.in1.handled=none from I.ok.hd hc) s.heap.objs.size p (by
  obtain⟨o,e,_⟩:=pl.isList
  exact q0x (q0j e)) its.toArray
 refine⟨s.heap.objs.size,_,_,_,_,_,λi=>bs.getD i false,Z,W,⟨⟨_,q0q _ rfl,Z,Z⟩,pl.isList.push _⟩,?_,λh' tk hk=>?_⟩
 ·intro i v s' Q' E' hv hQ
  have hv':its[i]?=some v:=by simpa using hv
  have hi:i<bs.length:=by rw[<-hlen];exact(q0l.mp hv').1
  have hb:(bs.map V.bl)[i]?=some (.bl (bs.getD i false)):=by
   rw[q0c,q0d hi,q0b,q0d hi];rfl
  obtain⟨u,hu,ru⟩:=rv.get hb
  rw[hv'] at hu
  cases hu
  cases ru
  exact q2t hQ
 ·have e:(List.range its.toArray.size).any (λi=>bs.getD i false)=bs.any id:=by
   rw[q0m,hlen]
   rw[q4w,q6i,q6i]
   constructor
   ·rintro ⟨i,hi,hb⟩
    have hi':i<bs.length:=q1o.mp hi
    rw[q0b,q0d hi'] at hb
    exact⟨bs[i],q3v hi',hb⟩
   ·rintro ⟨b,hb,hb'⟩
    obtain⟨i,hi,rfl⟩:=q2i.mp hb
    refine⟨i,q1o.mpr hi,?_⟩
    rw[q0b,q0d hi]
    exact hb'
  rw[e]
  refine⟨.bl (bs.any id),H,?_,Z,q⟩
  exact I.kept (t':=tk) λb o eo=>hk b o (by simp;exact q0x (q0j eo)) (q0f _ eo)
def rEqLI (K:U0)(neg:Bool):R2:=λx y H Q=>∃ (a b:W9) (ns ms:U6),x=.ref a/\y=.ref b/\SqL K H a (ns.map V.int)/\SqL K H b (ms.map V.int)/\Q (.bl (if neg then !decide (ns=ms) else decide (ns=ms))) H
theorem X6w (hu:X.A.units+64<cLine):OpR X (compareOp .NotEq) (rEqLI X.K true):=by
 intro pins s σ H x y v u Q I rx ry h
 obtain⟨a,b,ns,ms,rfl,rfl,h1,h2,q⟩:=h
 cases rx;cases ry
 obtain⟨its,rv,p,_⟩:=I.list h1
 obtain⟨its',rv',p',_⟩:=I.list h2
 exact PySem.W.ne_intsK p.isList (Z1x rv) p'.isList (Z1x rv') hu ⟨.bl (!decide (ns=ms)),H,I,Z,q⟩
end
end L2
namespace Am
noncomputable abbrev p2 (h:Int):Int:=2^h.toNat
theorem W0h (h:Int):0<p2 h:=q8x (by decide)
theorem Z9a (h:Int):p2 h≠0:=by have:=W0h h;omega
theorem Y0p {a b:Int}(ha:0<=a)(hb:0<=b):p2 (a+b)=p2 a*p2 b:=by
 unfold p2
 rw[show (a+b).toNat=a.toNat+b.toNat by omega,Int.pow_add]
theorem Z5a {a b:Int}(hb:0<=b)(h:b<=a):p2 a=p2 (a-b)*p2 b:=by
 rw[<-Y0p (by omega) hb]
 congr 1
 omega
structure Amt (a b c d h:Int):Prop where
 nn:0<=h
 odd:h=0∨a%2=1∨b%2=1∨c%2=1∨d%2=1
def Eq2 (x h y g:Int):Prop:=x*p2 g=y*p2 h
structure Same4 (a b c d h a' b' c' d' h':Int):Prop where
 e1:Eq2 a h a' h'
 e2:Eq2 b h b' h'
 e3:Eq2 c h c' h'
 e4:Eq2 d h d' h'
theorem Same4.symm {a b c d h a' b' c' d' h':Int}(s:Same4 a b c d h a' b' c' d' h'):Same4 a' b' c' d' h' a b c d h:=⟨s.e1.symm,s.e2.symm,s.e3.symm,s.e4.symm⟩
theorem Eq2.trans {x h y g z k:Int}(a:Eq2 x h y g)(b:Eq2 y g z k):Eq2 x h z k:=by
 unfold Eq2 at *
 have h1:(x*p2 k)*p2 g=(z*p2 h)*p2 g:=by
  have e1:(x*p2 k)*p2 g=(x*p2 g)*p2 k:=by grind
  have e2:(z*p2 h)*p2 g=(z*p2 g)*p2 h:=by grind
  rw[e1,e2,a,<-b];grind
 exact q2a (Z9a g) h1
theorem Same4.trans {a b c d h a' b' c' d' h' a2 b2 c2 d2 h2:Int}(s:Same4 a b c d h a' b' c' d' h')(t:Same4 a' b' c' d' h' a2 b2 c2 d2 h2):Same4 a b c d h a2 b2 c2 d2 h2 :=
 ⟨s.e1.trans t.e1,s.e2.trans t.e2,s.e3.trans t.e3,s.e4.trans t.e4⟩
theorem Eq2.lift {x h y g:Int}(hh:0<=h)(hg:h<=g)(e:Eq2 x h y g):y=x*p2 (g-h):=by
 unfold Eq2 at e
 rw[Z5a hh hg] at e
 have:(x*p2 (g-h))*p2 h=y*p2 h:=by rw[<-e];grind
 exact(q2a (Z9a h) this).symm
theorem Z5f {x n:Int}(hn:0<n):(x*p2 n)%2=0:=by
 have e:p2 n=p2 (n-1)*2:=by
  rw[Z5a (a:=n) (b:=1) (by decide) (by omega)]
  rfl
 rw[e,<-q5s]
 omega
theorem Amt.unique_le {a b c d h a' b' c' d' h':Int}(x:Amt a b c d h)(y:Amt a' b' c' d' h')(s:Same4 a b c d h a' b' c' d' h')(hle:h<=h'):a=a'/\b=b'/\c=c'/\d=d'/\h=h':=by
 have e1:=s.e1.lift x.nn hle
 have e2:=s.e2.lift x.nn hle
 have e3:=s.e3.lift x.nn hle
 have e4:=s.e4.lift x.nn hle
 have he:h=h':=by
  apply Classical.byContradiction
  intro hne
  have hp:0<h'-h:=by omega
  have o:=y.odd
  rw[e1,e2,e3,e4,Z5f hp,Z5f hp,Z5f hp,Z5f hp] at o
  have:=x.nn
  omega
 subst he
 simp only[Int.sub_self,p2,Int.toNat_zero,Int.pow_zero,Int.mul_one] at e1 e2 e3 e4
 exact⟨e1.symm,e2.symm,e3.symm,e4.symm,Z⟩
theorem Amt.unique {a b c d h a' b' c' d' h':Int}(x:Amt a b c d h)(y:Amt a' b' c' d' h')(s:Same4 a b c d h a' b' c' d' h'):a=a'/\b=b'/\c=c'/\d=d'/\h=h':=by
 rcases Int.le_total h h' with hle | hle
 ·exact x.unique_le y s hle
 ·obtain⟨q1,q2,q3,q4,q5⟩:=y.unique_le x s.symm hle
  exact⟨q1.symm,q2.symm,q3.symm,q4.symm,q5.symm⟩
noncomputable abbrev orAll (a b c d:Int):Int:=Builtin.bitOr (Builtin.bitOr (Builtin.bitOr a b) c) d
theorem orAll_dvd {v:Nat}{a b c d:Int}:(2:Int)^v ∣ orAll a b c d ↔ ((2:Int)^v ∣ a/\(2:Int)^v ∣ b/\(2:Int)^v ∣ c/\(2:Int)^v ∣ d):=by
 unfold orAll
 rw[Bt.Z7y,Bt.Z7y,Bt.Z7y]
 constructor
 ·rintro ⟨⟨⟨h1,h2⟩,h3⟩,h4⟩;exact⟨h1,h2,h3,h4⟩
 ·rintro ⟨h1,h2,h3,h4⟩;exact⟨⟨⟨h1,h2⟩,h3⟩,h4⟩
theorem orAll_zero {a b c d:Int}:orAll a b c d=0 ↔ (a=0/\b=0/\c=0/\d=0):=by
 unfold orAll
 rw[Bt.Y2d,Bt.Y2d,Bt.Y2d]
 constructor
 ·rintro ⟨⟨⟨h1,h2⟩,h3⟩,h4⟩;exact⟨h1,h2,h3,h4⟩
 ·rintro ⟨h1,h2,h3,h4⟩;exact⟨⟨⟨h1,h2⟩,h3⟩,h4⟩
theorem lowest {a b c d:Int}(hp:orAll a b c d≠0):∃ v:Nat,((Builtin.Int.intBits (Builtin.bitAnd (orAll a b c d) (-(orAll a b c d))):Nat):Int)-1=v/\((2:Int)^v ∣ a/\(2:Int)^v ∣ b/\(2:Int)^v ∣ c/\(2:Int)^v ∣ d) ∧
  ¬ ((2:Int)^(v+1) ∣ a/\(2:Int)^(v+1) ∣ b/\(2:Int)^(v+1) ∣ c/\(2:Int)^(v+1) ∣ d):=by
 obtain⟨v,q,e,o,bb⟩:=Bt.Y9b _ (orAll a b c d) (q2l _) hp
 refine⟨v,by rw[bb,Bt.Z9t];omega,orAll_dvd.mp ⟨q,e⟩,λh=>?_⟩
 have h':=orAll_dvd.mpr h
 obtain⟨k,hk⟩:=h'
 rw[e,q7d,q5s] at hk
 have:=q3f (q4h (q8x (by decide):(0:Int)<2^v)) hk
 omega
theorem Z6j {x h m:Int}(hm:0<=m)(hmh:m<=h)(hd:(2:Int)^m.toNat ∣ x):Eq2 x h (x / 2^m.toNat) (h-m)/\(x / 2^m.toNat).natAbs<=x.natAbs:=by
 obtain⟨k,rfl⟩:=hd
 have hne:(2:Int)^m.toNat≠0:=Z9a m
 rw[q7l _ hne]
 constructor
 ·unfold Eq2
  rw[Z5a hm hmh]
  show 2^m.toNat*k*p2 (h-m)=k*(p2 (h-m)*2^m.toNat)
  grind
 ·rw[q6c]
  exact Nat.le_mul_of_pos_left _ (by omega)
theorem Y4y {x:Int}{m v:Nat}(h:m<=v)(hd:(2:Int)^v ∣ x):(2:Int)^m ∣ x:=by
 obtain⟨k,rfl⟩:=hd
 refine⟨2^(v-m)*k,?_⟩
 rw[<-q5s,<-Int.pow_add,show m+(v-m)=v by omega]
theorem halve {a b c d h:Int}(hh:0<=h){v:Nat}(hd:(2:Int)^v ∣ a/\(2:Int)^v ∣ b/\(2:Int)^v ∣ c/\(2:Int)^v ∣ d)
  (hn:¬ ((2:Int)^(v+1) ∣ a/\(2:Int)^(v+1) ∣ b/\(2:Int)^(v+1) ∣ c/\(2:Int)^(v+1) ∣ d)) {m:Int} (hm:m=if h<v then h else v) :
  0<=m/\m<=h/\Amt (a / 2^m.toNat) (b / 2^m.toNat) (c / 2^m.toNat) (d / 2^m.toNat) (h-m)/\Same4 a b c d h (a / 2^m.toNat) (b / 2^m.toNat) (c / 2^m.toNat) (d / 2^m.toNat) (h-m) ∧
  ((a / 2^m.toNat).natAbs<=a.natAbs/\(b / 2^m.toNat).natAbs<=b.natAbs/\(c / 2^m.toNat).natAbs<=c.natAbs/\(d / 2^m.toNat).natAbs<=d.natAbs):=by
 have m0:0<=m:=by rw[hm];split<;>omega
 have m1:m<=h:=by rw[hm];split<;>omega
 have mv:m.toNat<=v:=by rw[hm];split<;>omega
 obtain⟨d1,d2,d3,d4⟩:=hd
 have q1:=Z6j m0 m1 (Y4y mv d1)
 have q2:=Z6j m0 m1 (Y4y mv d2)
 have q3:=Z6j m0 m1 (Y4y mv d3)
 have q4:=Z6j m0 m1 (Y4y mv d4)
 refine⟨m0,m1,⟨by omega,?_⟩,⟨q1.1,q2.1,q3.1,q4.1⟩,q1.2,q2.2,q3.2,q4.2⟩
 by_cases hlt:h<v
 ·left
  rw[hm,if_pos hlt]
  omega
 ·right
  have hmv:m.toNat=v:=by rw[hm,if_neg hlt];omega
  rw[hmv]
  have tail:∀ x:Int,(2:Int)^v ∣ x->¬ (x / 2^v)%2=1->(2:Int)^(v+1) ∣ x:=by
   rintro x ⟨k,rfl⟩ ho
   have hne:(2:Int)^v≠0:=q4h (q8x (by decide))
   rw[q7l _ hne] at ho
   refine⟨k / 2,?_⟩
   rw[q7d,q5s]
   congr 1
   omega
  apply Classical.byContradiction
  intro hno
  apply hn
  refine⟨tail a d1 λo=>hno (.inl o),tail b d2 λo=>hno (.inr (.inl o)),tail c d3 λo=>hno (.inr (.inr (.inl o))),tail d d4 λo=>hno (.inr (.inr (.inr o)))⟩
end Am
namespace Pc
noncomputable def pc (n:Nat):Nat:=if h:n=0 then 0 else n%2+pc (n / 2)
theorem Z1s:pc 0=0:=by unfold pc;simp
theorem Z4d (n:Nat):pc n=n%2+pc (n / 2):=by
 by_cases h:n=0
 ·subst h;rw[show (0 / 2:Nat)=0 from rfl,Z1s]
 ·conv=>lhs;unfold pc
  rw[dif_neg h]
theorem Z3t (x y:Nat):(x^^^y)=2*((x / 2)^^^(y / 2))+(x%2+y%2)%2:=by
 have h1:(x^^^y) / 2=(x / 2)^^^(y / 2):=Nat.xor_div_two
 have h2:(x^^^y)%2=(x%2+y%2)%2:=by
  have:=Nat.xor_mod_two_eq_one (a:=x) (b:=y)
  rcases q0u x with a | a<;>rcases q0u y with b | b<;>rcases q0u (x^^^y) with c | c<;>simp[a,b,c] at this ⊢
 omega
theorem Y7y:∀ (m n:Nat),n<m->n≠0->pc (n&&&(n-1))+1=pc n
 | 0,n,h,_=>by omega
 | m+1,n,h,hn=>by
  have e:=Bt.Y2l n (n-1)
  rw[Z4d n,Z4d (n&&&(n-1))]
  rcases q0u n with a | a
  ·have e1:(n-1) / 2=n / 2-1:=by omega
   rw[e1,a,q9f] at e
   have e2:(n&&&(n-1)) / 2=n / 2&&&(n / 2-1):=by omega
   have e3:(n&&&(n-1))%2=0:=by omega
   rw[e2,e3,a]
   have:=Y7y m (n / 2) (by omega) (by omega)
   omega
  ·have e1:(n-1) / 2=n / 2:=by omega
   have e0:(n-1)%2=0:=by omega
   rw[e1,e0,q8g,Nat.and_self] at e
   have e2:(n&&&(n-1)) / 2=n / 2:=by omega
   have e3:(n&&&(n-1))%2=0:=by omega
   rw[e2,e3,a]
   omega
theorem X4r:∀ (m x y:Nat),x<m->y<m->pc (x^^^y)%2=(pc x+pc y)%2
 | 0,x,y,h,_=>by omega
 | m+1,x,y,hx,hy=>by
  by_cases z:x=0/\y=0
  ·obtain⟨rfl,rfl⟩:=z
   rw[show (0^^^0:Nat)=0 from rfl,Z1s]
  ·have e:=Z3t x y
   rw[Z4d (x^^^y),Z4d x,Z4d y,show (x^^^y) / 2=x / 2^^^y / 2 by omega]
   by_cases q:x / 2<m/\y / 2<m
   ·have:=X4r m (x / 2) (y / 2) q.1 q.2
    omega
   ·exfalso;omega
theorem pcx (x y:Nat):pc (x^^^y)%2=(pc x+pc y)%2:=X4r (x+y+1) x y (by omega) (by omega)
theorem Y8a:∀ (m x y:Nat),x<m->y<m->(x ||| y)=(x^^^y)+(x&&&y)
 | 0,x,y,h,_=>by omega
 | m+1,x,y,hx,hy=>by
  by_cases z:x=0/\y=0
  ·obtain⟨rfl,rfl⟩:=z;rfl
  ·have e:=Z3t x y
   have e1:=Bt.Y2l x y
   have e2:=Bt.W0u x y
   by_cases q:x / 2<m/\y / 2<m
   ·have:=Y8a m (x / 2) (y / 2) q.1 q.2
    rcases q0u x with a | a<;>rcases q0u y with b | b<;>rw[a,b] at e e1 e2<;>omega
   ·exfalso;omega
theorem Z4q (x y:Nat):Builtin.bitAnd (x:Int) (y:Int)=((x&&&y:Nat):Int):=by rw[bitAnd_pp (by omega) (by omega)];simp
theorem Z4r (x y:Nat):Builtin.bitXor (x:Int) (y:Int)=((x^^^y:Nat):Int):=by
 have h:Builtin.bitXor (x:Int) (y:Int)=Builtin.bitOr x y-Builtin.bitAnd x y:=rfl
 have h2:Builtin.bitOr (x:Int) (y:Int)=((x ||| y:Nat):Int):=by
  unfold Builtin.bitOr
  rw[bitAnd_nn (by unfold Builtin.bitNot;omega) (by unfold Builtin.bitNot;omega),q7m,q7m,q7m]
  simp
 rw[h,h2,Z4q,Y8a (x+y+1) x y (by omega) (by omega)]
 omega
end Pc
namespace L2
theorem Same.tup {K:U0}{H H':Hp}{a:W9}{xs:List V}(e:Same H H')(h:SqT K H a xs):SqT K H' a xs:=by
 rcases h with h | h
 ·rcases h with h | ⟨o,h⟩
  ·exact .inl (.inl (e _ _ h))
  ·exact .inl (.inr ⟨o,e _ _ h⟩)
 ·exact .inr h
theorem Same.sqx {t:Bool}{K:U0}{H H':Hp}{a:W9}{xs:List V}(e:Same H H')(h:SqX t K H a xs):SqX t K H' a xs:=by
 cases t
 ·exact e.seq (show SqL K H a xs from h)
 ·exact e.tup (show SqT K H a xs from h)
section
variable {X:Cx}{scope:Scope}{Nc:W0}{ex:U3}{pins:U1}{s:U7}{H:Hp}
theorem Z9h:IxR (cxLc X scope Nc ex pins s H) (rIxL X.K):=Z0z
theorem Z4p:IxR (cxLc X scope Nc ex pins s H) (rIxT X.K):=Z0j
theorem Z6e {x y:Str}{k:Nat}{p1 p2 pos:Pos}(hc:(cxLc X scope Nc ex pins s H).calm=true)(hN:Nc.Nodup)(h0:Nc[0]?=some x)(h1:Nc[1]?=some y)(l0:(cxLc X scope Nc ex pins s H).env.scope.names.lookup x=some .local)(l1:(cxLc X scope Nc ex pins s H).env.scope.names.lookup y=some .local) :
  PG (cxLc X scope Nc ex pins s H) (.Tuple [.Name x p1,.Name y p2] k pos) (gTup X.K 2 (gCons (gName 0) (gCons (gName 1) gNil))) :=
 Z5w (X:=cxLc X scope Nc ex pins s H) hc (Z1f (Z0p (i:=0) hN h0 (.inl l0) (.inr l0)) (Z1f (Z0p (i:=1) hN h1 (.inl l1) (.inr l1)) Z4c))
end
theorem X8c {t1 t2:Bool}{K:U0}{l1 l2:W9}{g:TG}{ns ms:U6}{te:TE}{fr:St}{H1:Hp}{acc:W9}{Q:VK}(f:Int->Int->Int)(hxy:ns.length=ms.length)(hn:ns.length<=sizeLine)
  (h1:SqX t1 K H1 l1 (ns.map V.int)) (h2:SqX t2 K H1 l2 (ms.map V.int)) (hacc:H1 acc=none)
  (hg:∀ {a:W9}{x y:V}{w1 w2:Option V}{H:Hp}{Q:St->Hp->Prop},H a=some (.tup [x,y])->Q (some x::some y::fr) H->g (.ref a) (w1::w2::fr) H Q)
  (hs:∀ n m H (N:V->Hp->Prop),n∈ns->m∈ms->N (.int (f n m)) H->te (some (.int n)::some (.int m)::fr) H N)
  (hd:∀ H2,Same H1 H2->H2 acc=some (.lst ((List.zipWith f ns ms).map V.int))->Q (.ref acc) H2):LcW (Itz t1 t2 K l1 l2) g te (none::none::fr) H1 acc Q:=by
 refine W0z (xs:=ns.map V.int) (ys:=ms.map V.int) (λi zs H'=>Same H1 H'/\H' acc=some (.lst zs)/\zs=((List.zipWith f ns ms).take i).map V.int) (by simp[hxy]) (by simp;exact hn)
  ⟨Z0g hacc _,Z0c,Z⟩ (λha hQ=>hg ha hQ) (λi zs H p=>⟨p.1.sqx h1,p.1.sqx h2⟩) ?_ ?_
 ·rintro i x y zs H T N hx hy hl ⟨s2,a2,e2⟩ hT kN
  rw[q0c] at hx hy
  obtain⟨n,hn1,rfl⟩:=q0h.mp hx
  obtain⟨m,hm1,rfl⟩:=q0h.mp hy
  refine hs n m _ _ (q0y hn1) (q0y hm1) ?_
  have hTa:acc≠T:=λe=>by rw[<-e,a2] at hT;cases hT
  refine kN _ _ (by rw[Z0x hTa];exact a2) ⟨Z0s (s2.trans (Z0g hT _)) hacc,Z0c,?_⟩
  have:(List.zipWith f ns ms)[i]?=some (f n m):=by rw[List.getElem?_zipWith,hn1,hm1]
  rw[q1m,this,q0i,e2]
  rfl
 ·rintro zs H hl ⟨s2,a2,e2⟩
  refine hd H s2 ?_
  rw[a2,e2,q5x]
  simp only[List.length_zipWith,q0a]
  omega
section
variable {K:U0}{a:W9}{ns:U6}{te:TE}{fr:St}{H1:Hp}{acc:W9}{Q:VK}
theorem Z9f {J:It}{n:Nat}{val:Nat->V}(f:Nat->V)(hn:n<=sizeLine)(hacc:H1 acc=none)
  (hgo:∀ i H,i<n->Same H1 H->J.go i H/\∀ x H',J.yld i H x H'->H'=H/\x=val i) (hst:∀ H,Same H1 H->J.stop n H)
  (hs:∀ i H (N:V->Hp->Prop),i<n->Same H1 H->N (f i) H->te (some (val i)::fr) H N)
  (hd:∀ H2,Same H1 H2->H2 acc=some (.lst ((List.range n).map f))->Q (.ref acc) H2):LcW J (gName 0) te (none::fr) H1 acc Q:=by
 refine X8f (val:=val) (λi ys H'=>Same H1 H'/\H' acc=some (.lst ys)/\ys=(List.range i).map f) hn ⟨Z0g hacc _,Z0c,Z⟩ (λi ys H hi p=>hgo i H hi p.1) (λys H p=>hst H p.1) ?_ ?_
 ·rintro i ys H N hi hl ⟨s2,a2,e2⟩ kN
  refine hs i H N hi s2 (kN _ _ a2 ⟨Z0s s2 hacc,Z0c,?_⟩)
  rw[e2,q4s,q0i]
  rfl
 ·rintro ys H hl ⟨s2,a2,e2⟩
  exact hd H s2 (by rw[a2,e2])
theorem Z4x (ns:U6)(f:Int->V):(List.range ns.length).map (λi=>f (ns.getD i 0))=ns.map f:=by
 apply q5e
 ·simp
 ·intro i h1 h2
  simp at h1
  simp[h1]
theorem Y4p (f:Int->V)(hl:SqL K H1 a (ns.map V.int))(hn:ns.length<=sizeLine)(hacc:H1 acc=none)(hs:∀ n H (N:V->Hp->Prop),Same H1 H->N (f n) H->te (some (.int n)::fr) H N)
  (hd:∀ H2,Same H1 H2->H2 acc=some (.lst (ns.map f))->Q (.ref acc) H2):LcW (Itl K a) (gName 0) te (none::fr) H1 acc Q:=by
 refine Z9f (n:=ns.length) (val:=λi=>.int (ns.getD i 0)) (λi=>f (ns.getD i 0)) hn hacc (λi H hi s=>?_) (λH s=>⟨_,s.seq hl,by simp⟩) (λi H N hi s kN=>hs _ H N s kN) (λH2 s h=>hd H2 s (by rw[h,Z4x]))
 have e:(ns.map V.int)[i]?=some (.int (ns.getD i 0)):=by simp[hi]
 refine⟨⟨_,_,s.seq hl,e⟩,λx H' y=>⟨y.1,?_⟩⟩
 have:=y.2 _ (s.seq hl)
 rw[e] at this
 exact(Option.some.inj this).symm
theorem X8d (f:Int->V)(hl:SqT K H1 a (ns.map V.int))(hn:ns.length<=sizeLine)(hacc:H1 acc=none)(hs:∀ n H (N:V->Hp->Prop),Same H1 H->N (f n) H->te (some (.int n)::fr) H N)
  (hd:∀ H2,Same H1 H2->H2 acc=some (.lst (ns.map f))->Q (.ref acc) H2):LcW (Itt K a) (gName 0) te (none::fr) H1 acc Q:=by
 refine Z9f (n:=ns.length) (val:=λi=>.int (ns.getD i 0)) (λi=>f (ns.getD i 0)) hn hacc (λi H hi s=>?_) (λH s=>⟨_,s.tup hl,by simp⟩) (λi H N hi s kN=>hs _ H N s kN) (λH2 s h=>hd H2 s (by rw[h,Z4x]))
 have e:(ns.map V.int)[i]?=some (.int (ns.getD i 0)):=by simp[hi]
 refine⟨⟨_,_,s.tup hl,e⟩,λx H' y=>⟨y.1,?_⟩⟩
 have:=y.2 _ (s.tup hl)
 rw[e] at this
 exact(Option.some.inj this).symm
end
section
variable {X:Cx}
end
theorem X3b {K:U0}{a:W9}{ns:U6}{te:TE}{fr:St}{H1:Hp}{acc:W9}{Q:VK}(f:Int->V)(hl:SqL K H1 a (ns.map V.int))(hn:ns.length<=sizeLine)(hacc:H1 acc=none)(hs:∀ n H (N:V->Hp->Prop),n∈ns->Same H1 H->N (f n) H->te (some (.int n)::fr) H N)
  (hd:∀ H2,Same H1 H2->H2 acc=some (.lst (ns.map f))->Q (.ref acc) H2):LcW (Itl K a) (gName 0) te (none::fr) H1 acc Q:=by
 refine Z9f (n:=ns.length) (val:=λi=>.int (ns.getD i 0)) (λi=>f (ns.getD i 0)) hn hacc (λi H hi s=>?_) (λH s=>⟨_,s.seq hl,by simp⟩) (λi H N hi s kN=>hs _ H N (by simp[hi]) s kN) (λH2 s h=>hd H2 s (by rw[h,Z4x]))
 have e:(ns.map V.int)[i]?=some (.int (ns.getD i 0)):=by simp[hi]
 refine⟨⟨_,_,s.seq hl,e⟩,λx H' y=>⟨y.1,?_⟩⟩
 have:=y.2 _ (s.seq hl)
 rw[e] at this
 exact(Option.some.inj this).symm
section
variable {κ:Type} [DecidableEq κ]
noncomputable def valV (kvs:List (κ × V))(k:κ):Option V:=(kvs.find? λkv=>decide (kv.1=k)).map (·.2)
noncomputable def putK (kvs:List (κ × V))(k:κ)(v:V):List (κ × V) :=
 if (kvs.any λkv=>decide (kv.1=k))=true then kvs.map (λkv=>if kv.1=k then (kv.1,v) else kv) else kvs++[(k,v)]
theorem X1a {k:κ}:valV ([]:List (κ × V)) k=none:=rfl
theorem Z4t {p:κ × V}{r:List (κ × V)}{k:κ}(e:p.1=k):valV (p::r) k=some p.2:=by simp[valV,q4u,e]
theorem Z4u {p:κ × V}{r:List (κ × V)}{k:κ}(e:¬ p.1=k):valV (p::r) k=valV r k:=by simp[valV,q4u,e]
theorem Z8l (k:κ):∀ kvs:List (κ × V),(kvs.any λkv=>decide (kv.1=k))=(valV kvs k).isSome
 | []=>rfl
 | p::r=>by
  rw[q4z]
  by_cases e:p.1=k
  ·simp only[Z4t e,q1f e,Bool.true_or,Option.isSome_some]
  ·rw[Z4u e,q0w e,q5u];exact Z8l k r
theorem Z7f (kvs:List (κ × V))(k:κ)(v:V):(putK kvs k v).length<=kvs.length+1:=by
 unfold putK
 split
 ·rw[q0a];omega
 ·rw[q1d,q3k,List.length_nil];omega
theorem X1r {kvs:List (κ × V)}{k:κ}(v:V)(h:valV kvs k=none):putK kvs k v=kvs++[(k,v)]:=by
 unfold putK
 rw[Z8l,h]
 exact if_neg (by decide)
theorem RelO.isSome_eq {o:Option V}{u:Option Value}(r:RelO o u):o.isSome=u.isSome:=by
 cases o with
 | none=>cases u with
  | none=>rfl
  | some _=>exact(show False from r).elim
 | some _=>cases u with
  | none=>exact(show False from r).elim
  | some _=>rfl
theorem KV.val {kvs:List (κ × V)}{vs:List (κ × Value)}(r:KV kvs vs)(k:κ):RelO (valV kvs k) (valueAt vs k):=by
 unfold KV at r
 induction r with
 | nil=>exact True.intro
 | @cons p q ps qs h t ih =>
  obtain⟨h1,h2⟩:=h
  by_cases e:p.1=k
  ·have e':q.1=k:=h1.symm.trans e
   have b:valueAt (q::qs) k=some q.2:=by simp[valueAt,q4u,e']
   rw[Z4t e,b];exact h2
  ·have e':¬ q.1=k:=λz=>e (h1.trans z)
   have b:valueAt (q::qs) k=valueAt qs k:=by simp[valueAt,q4u,e']
   rw[Z4u e,b];exact ih
theorem KV.any {kvs:List (κ × V)}{vs:List (κ × Value)}(r:KV kvs vs)(k:κ):(kvs.any λkv=>decide (kv.1=k))=vs.any λkv=>decide (kv.1=k):=by
 unfold KV at r
 induction r with
 | nil=>rfl
 | cons h t ih=>rw[q4z,q4z,ih,h.1]
theorem KV.repl {kvs:List (κ × V)}{vs:List (κ × Value)}(r:KV kvs vs)(k:κ){y:V}{u:W2}(ry:RelV y u) :
  KV (kvs.map λkv=>if kv.1=k then (kv.1,y) else kv) (vs.map λkv=>if kv.1=k then (kv.1,u) else kv):=by
 unfold KV at r ⊢
 induction r with
 | nil=>exact .nil
 | @cons p q ps qs h t ih =>
  rw[q0z,q0z]
  refine .cons ?_ ih
  obtain⟨h1,h2⟩:=h
  by_cases e:p.1=k
  ·rw[if_pos e,if_pos (h1.symm.trans e)];exact⟨h1,ry⟩
  ·rw[if_neg e,if_neg (λz=>e (h1.trans z))];exact⟨h1,h2⟩
theorem KV.put {kvs:List (κ × V)}{vs:List (κ × Value)}(r:KV kvs vs)(k:κ){y:V}{u:W2}(ry:RelV y u):KV (putK kvs k y) (stored vs k u):=by
 unfold putK stored
 rw[r.any k]
 by_cases e:(vs.any λkv=>decide (kv.1=k))=true
 ·rw[if_pos e,if_pos e];exact r.repl k ry
 ·rw[if_neg e,if_neg e];exact Paired.snoc r ⟨Z,ry⟩
theorem KV.keys {kvs:List (κ × V)}{vs:List (κ × Value)}(r:KV kvs vs):kvs.map (·.1)=vs.map (·.1):=by
 unfold KV at r
 induction r with
 | nil=>rfl
 | cons h t ih=>rw[q0z,q0z,ih,h.1]
theorem KV.length {kvs:List (κ × V)}{vs:List (κ × Value)}(r:KV kvs vs):kvs.length=vs.length:=Paired.length r
end
theorem Y5z {P:U8}{w:W1}{k:Key}{u:W2}(r:RelV (kV k) u):(Z2a P w).is k u=true:=by
 cases k with
 | inl i=>obtain⟨t,e⟩:=(show ∃ t,u=Value.int i t from r);subst e;exact Y2n P w i t
 | inr x=>obtain⟨t,e⟩:=(show ∃ t,u=Value.str x t from r);subst e;exact Y2m P w x t
theorem Y0w {P:U8}{w:W1}:∀ {ks:List Key}{us:U5},Vals (ks.map kV) us->ItemsAre (Z2a P w) ks us
 | [],_,r=>by rw[q8j] at r;cases r;exact .nil
 | k::ks,_,r=>by
  rw[q0z] at r
  cases r with
  | cons h t=>exact .cons (Y5z h) (Y0w t)
abbrev KT (H:Hp):List (List Key × V)->List (List Key × Addr × Value)->Prop:=Paired λp q=>p.1=q.1/\H q.2.1=some (.tup (p.1.map kV))/\RelV p.2 q.2.2
theorem KT.val {H:Hp}{kvs:List (List Key × V)}{xs:List (List Key × Addr × Value)}(r:KT H kvs xs)(k:List Key):RelO (valV kvs k) ((atKey xs k).map (·.2)):=by
 induction r with
 | nil=>exact True.intro
 | @cons p q ps qs h t ih =>
  obtain⟨h1,_,h2⟩:=h
  by_cases e:p.1=k
  ·have e':q.1=k:=h1.symm.trans e
   have b:atKey (q::qs) k=some q.2:=by simp[atKey,q4u,e']
   rw[Z4t e,b];exact h2
  ·have e':¬ q.1=k:=λz=>e (h1.trans z)
   have b:atKey (q::qs) k=atKey qs k:=by simp[atKey,q4u,e']
   rw[Z4u e,b];exact ih
theorem KT.repl {H:Hp}{kvs:List (List Key × V)}{xs:List (List Key × Addr × Value)}(r:KT H kvs xs)(k:List Key){y:V}{u:W2}(ry:RelV y u) :
  KT H (kvs.map λkv=>if kv.1=k then (kv.1,y) else kv) (xs.map (putAt k u)):=by
 induction r with
 | nil=>exact .nil
 | @cons p q ps qs h t ih =>
  rw[q0z,q0z]
  refine .cons ?_ ih
  obtain⟨h1,h2,h3⟩:=h
  unfold putAt
  by_cases e:p.1=k
  ·rw[if_pos e,if_pos (h1.symm.trans e)];exact⟨h1,h2,ry⟩
  ·rw[if_neg e,if_neg (λz=>e (h1.trans z))];exact⟨h1,h2,h3⟩
theorem KT.put {H:Hp}{kvs:List (List Key × V)}{xs:List (List Key × Addr × Value)}(r:KT H kvs xs)(k:List Key){b:W9}{y:V}{u:W2}(hb:H b=some (.tup (k.map kV)))(ry:RelV y u) :
  KT H (putK kvs k y) (storedH xs k b u):=by
 have e:(kvs.any λkv=>decide (kv.1=k))=(atKey xs k).isSome:=by
  rw[Z8l,(r.val k).isSome_eq,Option.isSome_map]
 unfold putK storedH
 rw[e]
 by_cases q:(atKey xs k).isSome=true
 ·rw[if_pos q,if_pos q];exact r.repl k ry
 ·rw[if_neg q,if_neg q];exact Paired.snoc r ⟨Z,hb,ry⟩
theorem KT.keeps {H H':Hp}{kvs:List (List Key × V)}{xs:List (List Key × Addr × Value)}(r:KT H kvs xs)(ht:∀ b ys,H b=some (.tup ys)->H' b=some (.tup ys)):KT H' kvs xs :=
 Paired.mapP r λ_ _ z=>⟨z.1,ht _ _ z.2.1,z.2.2⟩
section
variable {P:U8}{w:W1}{H:Hp}{h:Heap}{a:W9}
theorem W0a {u:HO}(ok:HOk P w H h)(e:Rd H a u):ObjOk P w H h a u:=e.ok ok
theorem X3r {kvs:List (Key × V)}(ok:HOk P w H h)(e:Rd H a (.dK kvs)):kvs.length<=sizeLine/\(a == sysModules)=false/\∃ vs,KV kvs vs/\h.DictOf (Z2a P w) a vs :=
 show ObjOk P w H h a (.dK kvs) from W0a ok e
theorem W1x {kvs:List (Key × V)}(ok:HOk P w H h)(e:H a=some (.dK kvs)):kvs.length<=sizeLine/\(a == sysModules)=false/\∃ vs,KV kvs vs/\h.DictOf (Z2a P w) a vs:=X3r ok (.inl e)
theorem Y4t {ks:List Key}(ok:HOk P w H h)(e:H a=some (.tup (ks.map kV))):(tupleKind (Z2a P w)).is h ks a:=by
 obtain⟨_,its,r,o,h1,h2,n,h3⟩:=(show ObjOk P w H h a (.tup (ks.map kV)) from ok a _ e)
 exact⟨o,its.toArray,n,h1,h2,h3,by simpa using Y0w r⟩
theorem X3q {kvs:List (List Key × V)}(ok:HOk P w H h)(e:Rd H a (.dT kvs)):kvs.length<=sizeLine/\(a == sysModules)=false ∧
  ∃ xs,KT H kvs xs/\h.DictOfH (tupleKind (Z2a P w)) a xs:=by
 obtain⟨z,y,xs,r,o,es,ep,h1,h2,h3,h4,h5⟩:=(show ObjOk P w H h a (.dT kvs) from W0a ok e)
 refine⟨z,y,xs,r,o,es,ep,h1,h2,h3,h4,λx hx=>?_,h5⟩
 have all:∀ {l:List (List Key × V)}{m:List (List Key × Addr × Value)},KT H l m->∀ x∈m,(tupleKind (Z2a P w)).is h x.1 x.2.1:=by
  intro l m q
  induction q with
  | nil=>intro x hx;exact nomatch hx
  | @cons p q ps qs hq t ih =>
   intro x hx
   rcases q0t.mp hx with e | hx
   ·subst e
    exact Y4t ok (by rw[<-hq.1];exact hq.2.1)
   ·exact ih x hx
 exact all r x hx
theorem W3z {kvs:List (List Key × V)}(ok:HOk P w H h)(e:H a=some (.dT kvs)):kvs.length<=sizeLine/\(a == sysModules)=false ∧
  ∃ xs,KT H kvs xs/\h.DictOfH (tupleKind (Z2a P w)) a xs:=X3q ok (.inl e)
end
def DGet (H:Hp)(a:W9)(y:V)(r:Option V):Prop :=
 (∃ kvs k,Rd H a (.dK kvs)/\y=kV k/\r=valV kvs k)∨∃ kvs k b,Rd H a (.dT kvs)/\y=.ref b/\H b=some (.tup (k.map kV))/\r=valV kvs k
def DPut (H:Hp)(a:W9)(y v:V)(H':Hp):Prop :=
 (∃ kvs k,H a=some (.dK kvs)/\y=kV k/\kvs.length<sizeLine/\H'=upd H a (.dK (putK kvs k v))) ∨
 ∃ kvs k b,H a=some (.dT kvs)/\y=.ref b/\H b=some (.tup (k.map kV))/\kvs.length<sizeLine/\H'=upd H a (.dT (putK kvs k v))
theorem DGet.k {H:Hp}{a:W9}{kvs:List (Key × V)}{k:Key}(e:H a=some (.dK kvs)):DGet H a (kV k) (valV kvs k):=.inl ⟨kvs,k,.inl e,Z,Z⟩
theorem DPut.k {H:Hp}{a:W9}{kvs:List (Key × V)}{k:Key}{v:V}(e:H a=some (.dK kvs))(hl:kvs.length<sizeLine):DPut H a (kV k) v (upd H a (.dK (putK kvs k v))):=.inl ⟨kvs,k,e,Z,hl,Z⟩
section
variable {X:Cx}{pins:U1}{σ:St}{H:Hp}{s:U7}{a:W9}{y v:V}{u r:W2}{o:Option V}{A:W6}{E:U2}
theorem Inv.big (I:Inv X pins σ H s):sysModules<s.heap.objs.size:=by
 have h:mainGlobals<s.heap.objs.size:=(I.mod.glob.keeps I.bk).lt
 exact q5i (by decide) h
theorem X0d {Q:U2}(hu:A.units+1<cLine)(I:Inv X pins σ H s)(g:DGet H a y (some v))(ry:RelV y u)(h:∀ w' s',Inv X pins σ H s'->RelV v w'->Q w' s') :
  wpAny (model X.prog X.w) A (getItem (.ref a) u) Q E s:=by
 rcases g with ⟨kvs,k,e,ey,l⟩ | ⟨kvs,k,b,e,ey,eb,l⟩
 ·subst ey
  obtain⟨z,hd,vs,rel,dd⟩:=X3r I.hok e
  obtain⟨w',hw,rw'⟩:=RelO.some_of (v:=v) (o:=valueAt vs k) (by rw[l];exact rel.val k)
  exact wpAny_getItem_of (Y5z ry) dd.mapOf hw (h w' _ (I.tok _) rw')
 ·subst ey
  cases (show u=Value.ref b from ry)
  obtain⟨z,hd,xs,rel,dd⟩:=X3q I.hok e
  obtain⟨w',hw,rw'⟩:=RelO.some_of (v:=v) (o:=(atKey xs k).map (·.2)) (by rw[l];exact rel.val k)
  obtain⟨p,hp,hp2⟩:=q0h.mp hw
  refine wpAny_getItem_heap (q6x hu) (Y4t I.hok eb) dd hp ?_
  rw[hp2]
  exact h w' _ (I.tok _) rw'
theorem d_in {Q:U2}(hu:A.units+1<cLine)(I:Inv X pins σ H s)(g:DGet H a y o)(ry:RelV y u)(h:∀ s',Inv X pins σ H s'->Q (.bool o.isSome) s') :
  wpAny (model X.prog X.w) A (compareOp .In u (.ref a)) Q E s:=by
 rcases g with ⟨kvs,k,e,ey,l⟩ | ⟨kvs,k,b,e,ey,eb,l⟩
 ·subst ey
  obtain⟨z,hd,vs,rel,dd⟩:=X3r I.hok e
  refine wpAny_in_of (Y5z ry) hd dd.mapOf ?_
  rw[<-(rel.val k).isSome_eq,<-l]
  exact h _ (I.tok _)
 ·subst ey
  cases (show u=Value.ref b from ry)
  obtain⟨z,hd,xs,rel,dd⟩:=X3q I.hok e
  refine wpAny_in_heap (q6x hu) (Y4t I.hok eb) hd dd ?_
  have q:=(rel.val k).isSome_eq
  rw[Option.isSome_map] at q
  rw[<-q,<-l]
  exact h _ (I.tok _)
theorem X0b {h':Heap}{t':Nat}{ob:HO}(I:Inv X pins σ H s)(mu:Mut (H a))(hs:Heap.SameBut a s.heap h')(he:∃ q,h'.get? a=some q)(new:ObjOk X.prog X.w (upd H a ob) h' a ob) :
  Inv X pins σ (upd H a ob) { s with heap:=h',toks:=t' } :=
 I.write (x:=a) (e:=a) mu (.inl rfl) (λb q hb z=>(hs.2 b hb).trans z) he new
theorem W1y {P:U8}{w:W1}{H':Hp}{h':Heap}{kvs:List (Key × V)}{vs:List (Key × Value)}(z:kvs.length<=sizeLine)(hd:(a == sysModules)=false)(rel:KV kvs vs)(dd:h'.DictOf (Z2a P w) a vs) :
  ObjOk P w H' h' a (.dK kvs):=⟨z,hd,vs,rel,dd⟩
theorem X0c {H':Hp}{Q:Unit->Shared->Prop}(hu:A.units+1<cLine)(I:Inv X pins σ H s)(g:DPut H a y v H')(ry:RelV y u)(rv:RelV v r)(h:∀ s',Inv X pins σ H' s'->Q () s') :
  wpAny (model X.prog X.w) A (setItem (.ref a) u r) Q E s:=by
 rcases g with ⟨kvs,k,e,ey,l,eH⟩ | ⟨kvs,k,b,e,ey,eb,l,eH⟩
 ·subst ey eH
  obtain⟨z,hd,vs,rel,dd⟩:=W1x I.hok e
  have hz:vs.length<=sizeLine:=by rw[<-rel.length];exact z
  have hl:(putK kvs k v).length<=sizeLine:=by have:=Z7f kvs k v;omega
  refine wpAny_setItem_pairs (hsz:=hz) (Y5z ry) dd λh' dd' hs=>h _ ?_
  have he:∃ q,h'.get? a=some q:=let ⟨q,_,_,hq,_⟩:=dd';⟨q,hq⟩
  exact X0b I (by rw[e];exact True.intro) hs he (W1y hl hd (rel.put k rv) dd')
 ·subst ey eH
  cases (show u=Value.ref b from ry)
  obtain⟨z,hd,xs,rel,dd⟩:=W3z I.hok e
  have hz:xs.length<=sizeLine:=by rw[<-Paired.length rel];exact z
  have hl:(putK kvs k v).length<=sizeLine:=by have:=Z7f kvs k v;omega
  refine wpAny_setItem_heap (hsz:=hz) (q6x hu) (Y4t I.hok eb) dd λh' dd' hs=>h _ ?_
  obtain⟨q,es,ep,hq,h2,h3,h4,_,h5⟩:=dd'
  refine X0b I (by rw[e];exact True.intro) hs ⟨q,hq⟩ ⟨hl,hd,_,(rel.put k eb rv).keeps λc ys ec=>?_,q,es,ep,hq,h2,h3,h4,h5⟩
  rw[Z0x (Z7e ec e (λz=>nomatch z))]
  exact ec
end
section
variable {X:Cx}{pins:U1}{σ:St}{H:Hp}{s:U7}{a:W9}{kvs:List (Key × V)}{k:Key}{u:W2}{A:W6}{E:U2}
end
def NoSl (i:Expr):Prop:=∀ ov iv,subscripted i false ov iv=operate [ov,iv] (getItem ov iv)
theorem Y6p {prog:U8}{w:W1}{A:W6}{E:U2}{s:U7}{env:Env}{value slice:Expr}{pos:Pos}{T id:String}{Q:U2}
  (hl:typeLookup (.type T) "__getitem__"=pure (some (.builtin id))) (hs:NoSl slice)
  (h:wpAny (model prog w) A (eval value env) (λo s₁=>wpAny (model prog w) A (eval slice env) (λi s₂=>s₂.TypeIs o T/\wpAny (model prog w) A (getItem o i) Q E s₂) E s₁) E s) :
  wpAny (model prog w) A (eval (.Subscript value slice pos) env) Q E s:=by
 refine Subscript_ (q2c h (λo s₁ h₁=>q2c h₁ (λi s₂ h₂=>?_) λ_ _ x=>x) λ_ _ x=>x)
 obtain⟨hT,h₂⟩:=h₂
 unfold subscriptTail
 refine q0e ?_
 rw[getitemInPython_of_ne hT.not_modules]
 refine q0e (wpAny_specialOf hT hl ?_)
 have fin:wpAny (model prog w) A (subscripted slice false o i) (λr s₃=>wpAny (model prog w) A (letTemporaryGo value o r >>= λ_=>pure r) Q E s₃) E s₂:=by
  rw[hs o i]
  exact wpAny_operating (q2c h₂ (λr s₃ h₃=>q0e (wpAny_letTemporaryGo (q0s h₃))) λ_ _ x=>x)
 first
  | exact q0s (q0e fin)
  | exact q0e (q0s (q0e fin))
  | exact q0e fin
theorem Y2s {X:Cx}{pins:U1}{σ:St}{H:Hp}{s:U7}{a:W9}{y:V}{o:Option V}(I:Inv X pins σ H s)(g:DGet H a y o):s.TypeIs (.ref a) "dict":=by
 rcases g with ⟨kvs,k,e,_,_⟩ | ⟨kvs,k,b,e,_,_,_⟩
 ·obtain⟨_,_,vs,_,dd⟩:=X3r I.hok e
  exact dd.typeIs
 ·obtain⟨_,_,xs,_,dd⟩:=X3q I.hok e
  exact dd.typeIs
def tDGet (td ty:TE):TE:=λσ H Q=>td σ H λx H1=>ty σ H1 λy H2=>∃ a v,x=.ref a/\DGet H2 a y (some v)/\Q v H2
def tDIn (ty td:TE):TE:=λσ H Q=>ty σ H λy H1=>td σ H1 λx H2=>∃ a o,x=.ref a/\DGet H2 a y o/\Q (.bl o.isSome) H2
def sDPut (td ty tv:TE):TS:=λD σ H=>tv σ H λv H1=>td σ H1 λx H2=>ty σ H2 λy H3=>∃ a H4,x=.ref a/\DPut H3 a y v H4/\D.nx σ H4
section
variable {X:Cx}{o i e value:Expr}{pos pos' tpos:Pos}{td ty tv:TE}
theorem Y7t (hu:X.A.units+1<cLine)(ho:PE X o td)(hi:PE X i ty)(hs:NoSl i):PE X (.Subscript o i pos) (tDGet td ty):=by
 intro pins s σ H Q I h
 refine Y6p q7e.lookup hs (thn (ho pins s σ H _ I h) λu s1 ⟨x,H1,I1,rx,q1⟩=>thn (hi pins s1 σ H1 _ I1 q1) λiv s2 ⟨y,H2,I2,ry,a,v,ex,g,q2⟩=>?_)
 subst ex
 obtain rfl:u=Value.ref a:=rx
 exact⟨Y2s I2 g,X0d hu I2 g ry λw' s3 I3 rw'=>⟨v,H2,I3,rw',q2⟩⟩
theorem W0f (hu:X.A.units+1<cLine)(hi:PE X i ty)(ho:PE X o td):PC X .In i o (tDIn ty td):=by
 intro pins s σ H Q I h
 refine thn (hi pins s σ H _ I h) λiv s1 ⟨y,H1,I1,ry,q1⟩=>thn (ho pins s1 σ H1 _ I1 q1) λu s2 ⟨x,H2,I2,rx,a,ov,ex,g,q2⟩=>?_
 subst ex
 obtain rfl:u=Value.ref a:=rx
 exact d_in hu I2 g ry λs3 I3=>⟨.bl ov.isSome,H2,I3,Z,q2⟩
theorem X6p (hu:X.A.units+1<cLine)(ho:PE X o td)(hi:PE X i ty)(hv:PE X value tv)(hs:swapsWith value (some (.Subscript o i pos')) pos.line X.env=pure false) :
  PS X (.Assign [.Subscript o i pos'] value pos) (sDPut td ty tv):=by
 intro pins s σ H D I h
 refine wpAny_Assign_Subscript (thn (hv pins s σ H _ I h) λr s1 ⟨v,H1,I1,rv,q1⟩=>thn (ho pins s1 σ H1 _ I1 q1) λu s2 ⟨x,H2,I2,rx,q2⟩=>thn (hi pins s2 σ H2 _ I2 q2) λiv s3 ⟨y,H3,I3,ry,a,H4,ex,g,q3⟩=>?_) hs
 subst ex
 obtain rfl:u=Value.ref a:=rx
 exact X0c hu I3 g ry rv λs4 I4=>⟨σ,H4,I4,q3⟩
end
theorem X3s {P:U8}{w:W1}{H:Hp}(h:Heap)(hb:sysModules<h.objs.size):ObjOk P w H (h.push { cls:=.type "dict",data:=.dict #[] }) h.objs.size (.dK []) :=
 ⟨q1l _,beq_eq_false_iff_ne.mpr (Ne.symm (q0x hb)),[],.nil,Heap.DictOf.new h⟩
def tDNewK:TE:=λ_ H Q=>∀ p,H p=none->Q (.ref p) (upd H p (.dK []))
section
variable {X:Cx}{pos:Pos}
theorem X1u:PE X (.Dict [] [] pos) tDNewK:=λpins s σ H Q I h =>
 wpAny_Dict_empty ⟨.ref s.heap.objs.size,_,I.laid (a:=s.heap.objs.size) (o:=.dK []) (t':=s.toks) (λ_ _ q=>q0f _ q) (q0g _) (X3s s.heap I.big),Z,h _ (I.hok.fresh (q0g _))⟩
end
section
variable {X:Cx}{pins:U1}{σ:St}{H:Hp}{s:U7}{a:W9}{y d:V}{u r:W2}{o:Option V}{A:W6}{E:U2}
end
section
variable {X:Cx}{o e f:Expr}{apos cpos:Pos}{td ty tx:TE}
end
end L2
namespace L2
def CMulG (i j:Int):Prop:=∃ a b,Sz a i/\Sz b j/\a+b<=100000000
theorem CMulG.ok {i j:Int}(h:CMulG i j):IntMulOk i j:=by
 obtain⟨a,b,h1,h2,h3⟩:=h
 have e1:=h1.bits
 have e2:=h2.bits
 unfold IntMulOk
 rw[show Builtin.Int.intTooBig (Builtin.Int.intBits i+Builtin.Int.intBits j)=false by
  unfold Builtin.Int.intTooBig
  have:bitsLine=134217728:=rfl
  rw[this]
  exact q0w (by omega)]
 simp
section
variable {X:Cx}
theorem Z7b:OpR X (binaryOp .Mult) (rI CMulG λi j=>.int (i*j)):=opI λ_ _ _ _ _ _ _ hc q=>mul_int q hc.ok
theorem Z2f (hc:X.calm=true):CallR X (.builtin "all") (λxs H Q=>∃ (p:W9) (bs:List Bool),xs=[.ref p]/\SqL X.K H p (bs.map V.bl)/\Q (.bl (bs.all id)) H):=by
 intro pins s σ H xs us Q I r h
 obtain⟨p,bs,rfl,hq,q⟩:=h
 obtain⟨u,rfl,ru⟩:=r.one
 cases ru
 obtain⟨its,rv,pl,hz⟩:=I.list hq
 have hlen:its.length=bs.length:=by rw[<-rv.length,q0a]
 refine call_all_walk (q5z pl.isList ?_)
 have W:=Walks.list (prog:=X.prog) (w:=X.w) (A:=X.A.in1) (show X.A.in1.handled=none from I.ok.hd hc) s.heap.objs.size p (by
  obtain⟨o,e,_⟩:=pl.isList
  exact q0x (q0j e)) its.toArray
 refine⟨s.heap.objs.size,_,_,_,_,_,λi=>bs.getD i false,Z,W,⟨⟨_,q0q _ rfl,Z,Z⟩,pl.isList.push _⟩,?_,λh' tk hk=>?_⟩
 ·intro i v s' Q' E' hv hQ
  have hv':its[i]?=some v:=by simpa using hv
  have hi:i<bs.length:=by rw[<-hlen];exact(q0l.mp hv').1
  obtain⟨u,hu,ru⟩:=rv.get (show (bs.map V.bl)[i]?=some (.bl (bs.getD i false)) by simp[hi])
  rw[hv'] at hu
  cases hu
  cases ru
  exact q2t hQ
 ·have e:(List.range its.toArray.size).all (λi=>bs.getD i false)=bs.all id:=by
   rw[q0m,hlen,q4w,q2m,q2m]
   constructor
   ·intro z b hb
    obtain⟨i,hi,rfl⟩:=q2i.mp hb
    have:=z i (q1o.mpr hi)
    simpa [hi] using this
   ·intro z i hi
    have hi':i<bs.length:=q1o.mp hi
    have:=z bs[i] (q3v hi')
    simpa [hi'] using this
  rw[e]
  refine⟨.bl (bs.all id),H,?_,Z,q⟩
  exact I.kept (t':=tk) λb o eo=>hk b o (by simp;exact q0x (q0j eo)) (q0f _ eo)
end
section
variable {P:U8}{w:W1}{H:Hp}{h:Heap}
def Rows5 (H:Hp):List Addr->List (List Int)->Prop:=Paired λp ns=>H p=some (.tup (ns.map V.int))
theorem Z4w (ok:HOk P w H h):∀ {ps:U3}{xs:List (List Int)}{us:U5},Rows5 H ps xs->Vals (ps.map V.ref) us->∃ as,ReadsAll h us (xs.map λns=>PyData.tuple (ns.map PyData.int)) as
 | [],[],us,.nil,r=>by cases r;exact⟨[],.nil⟩
 | p::ps,ns::xs,us,.cons e r,rv=>by
  cases rv with
  | cons ru rr =>
   cases ru
   obtain⟨as,ha⟩:=Z4w ok r rr
   obtain⟨_,its,rv',ht⟩:=(show ObjOk P w H h p (.tup (ns.map V.int)) from ok p _ e)
   exact⟨_,.cons (Z3o ht (Z1x rv')) ha⟩
end
section
variable {X:Cx}
theorem Z7l:∀ xs:List (List Int),PyData.canLayAll0 (xs.map λns=>PyData.tuple (ns.map PyData.int))=true
 | []=>by simp[PyData.canLayAll0]
 | n::r=>by simp[PyData.canLayAll0,PyData.canLay0,Z7l r,q7n n]
theorem Z8d:∀ xs:List (List Int),PyData.depthAll (xs.map λns=>PyData.tuple (ns.map PyData.int))<=2
 | []=>by simp[PyData.depthAll]
 | n::r=>by
  have h1:=Z8d r
  have h2:=q8e n
  simp only[q0z,PyData.depthAll,PyData.depth]
  omega
theorem Z6t (xs:List (List Int)):SeqAt.shaped (.list (xs.map λns=>PyData.tuple (ns.map PyData.int)))=true:=by
 have h2:PyData.depth (.list (xs.map λns=>PyData.tuple (ns.map PyData.int)))<=64:=by
  have:=Z8d xs
  simp only[PyData.depth]
  omega
 show (PyData.canLay0 _ && decide _)=true
 rw[q1g]
 exact⟨by simp only[PyData.canLay0];exact Z7l xs,q1f h2⟩
theorem Z7z:∀ xs ys:List (List Int),SeqAt.noMixAll (xs.map λns=>PyData.tuple (ns.map PyData.int)) (ys.map λns=>PyData.tuple (ns.map PyData.int))=true
 | [],[]=>by simp[SeqAt.noMixAll]
 | [],_::_=>by simp[SeqAt.noMixAll]
 | _::_,[]=>by simp[SeqAt.noMixAll]
 | n::r,m::q=>by
  simp only[q0z,SeqAt.noMixAll,SeqAt.noMix,q1g]
  exact⟨q6y n m,Z7z r q⟩
theorem Y0k:∀ xs ys:List (List Int),PySem.Spec.sameAll (xs.map λns=>PyData.tuple (ns.map PyData.int)) (ys.map λns=>PyData.tuple (ns.map PyData.int))=decide (xs=ys)
 | [],[]=>by simp[PySem.Spec.sameAll]
 | [],_::_=>by simp[PySem.Spec.sameAll]
 | _::_,[]=>by simp[PySem.Spec.sameAll]
 | n::r,m::q=>by
  simp only[q0z,PySem.Spec.sameAll,PySem.Spec.same,q7g,Y0k r q]
  by_cases e:n=m<;>simp[e]
def rEqLT (neg:Bool):R2:=λx y H Q=>∃ (a b:W9) (ps qs:U3) (xs ys:List (List Int)),x=.ref a/\y=.ref b/\H a=some (.lst (ps.map V.ref))/\H b=some (.lst (qs.map V.ref))/\Rows5 H ps xs/\Rows5 H qs ys/\Q (.bl (if neg then !decide (xs=ys) else decide (xs=ys))) H
theorem Z6v {pins:U1}{σ:St}{H:Hp}{s:U7}(I:Inv X pins σ H s){a:W9}{ps:U3}{xs:List (List Int)}(h:H a=some (.lst (ps.map V.ref)))(r:Rows5 H ps xs):∃ as,Reads s.heap (.ref a) (.list (xs.map λns=>PyData.tuple (ns.map PyData.int))) as:=by
 obtain⟨its,rv,pl,_⟩:=I.list (SqL.of h)
 obtain⟨as,ha⟩:=Z4w I.hok r rv
 obtain⟨o,ho,hc,n,hd⟩:=pl.isList
 exact⟨_,Reads.list ho hc hd (by simpa using ha)⟩
theorem X6x (hu:X.A.units+64<cLine):OpR X (compareOp .Eq) (rEqLT false):=by
 intro pins s σ H x y v u Q I rx ry h
 obtain⟨a,b,ps,qs,xs,ys,rfl,rfl,h1,h2,r1,r2,q⟩:=h
 cases rx;cases ry
 obtain⟨as,ra⟩:=Z6v I h1 r1
 obtain⟨bs,rb⟩:=Z6v I h2 r2
 refine eq_dataH_same ra rb (Z6t xs) (Z6t ys) hu (by simp only[SeqAt.noMix];exact Z7z xs ys) ⟨.bl (decide (xs=ys)),H,I,?_,q⟩
 show _=_
 simp only[PySem.Spec.same]
 rw[Y0k]
end
section
variable {X:Cx}{scope:Scope}{Nc:W0}{ex:U3}{pins:U1}{s:U7}{H:Hp}
theorem Z9d (hu:X.A.units+64<cLine):OpR (cxLc X scope Nc ex pins s H) (compareOp .Eq) (rEqTI X.K false):=Y2f hu
end
end L2
namespace L2
open PySem.W PySem.Calls
def Light (ns:U6):Prop:=∀ n∈ns,Sz 1048576 n
theorem Z5z:∀ {ns:U6}{W:Nat},WData.weightAll (ns.map WData.int)<=W->∀ n∈ns,Sz W n
 | m::r,W,h,n,hn=>by
  simp only[q0z,WData.weightAll,WData.weight] at h
  rcases q0t.mp hn with rfl | hn
  ·unfold Sz
   by_cases z:n=0
   ·subst z;exact q0o _
   ·have zb:(n == 0)=false:=by simpa using z
    rw[zb,if_neg (by simp)] at h
    have h1:n.natAbs.log2<W:=by omega
    exact(q8w (by omega)).mp h1
  ·exact Z5z (W:=W) (by omega) n hn
theorem X2z {ns:U6}(h:WData.layableAll [WData.list (ns.map WData.int)]=true):Light ns:=by
 simp only[WData.layableAll,q6p,List.all_nil,Bool.and_true,WData.layable,q1g,q2f] at h
 exact Z5z (W:=1048576) (by have:=h.2;simpa [WData.weight] using this)
theorem Y1n {l:OpenLaw}{n:Nat}{q:U8}{loose:W0}{XP:(Str->Option Value)->Heap->Prop}{YP:World->Heap->Prop}{d:DefRec}
  (hn:l.most=some n) (hdf:d.params.defaults=[])
  (call:∀ (w:W1) (s₀ s₁:U7) (mg mb:U4) (fa:W9) (o:Obj) (pm cd doc:W2) (a:W9) (vs:U5) (ns:U6),Light ns →
   Ground q loose [] XP w s₀ mg mb s₁.heap->YP w s₁.heap →
   s₁.heap.get? fa=some o->o.data=.func (docDef d.name d.params d.body d.scope pm cd doc)->s₁.heap.CodeRec cd d.name->mg d.name=some (.ref fa) →
   s₁.heap.get? a=some { cls:=.type "list",data:=.seq vs.toArray }->IntsAre vs ns->ns.length<=n->s₁.gens=#[] →
   codeAny (model l.prog w) callerA (.call (.ref fa) ⟨[.ref a],[]⟩) (λr s'=>r=.ok (.ret (.bool true))/\OldK s₁.heap s'.heap/\s'.os=s₁.os/\AllBare s'.gens) s₁) :
  WalkO q loose XP YP l.row.toRowW d [] (λf vs=>PySem.call f vs):=by
 intro w s₀ s₁ mg mb G Y fa o pm cd doc dV kV ho hd hcd hD hmg hg args vals as hpre hlay hrd hwl hlo
 obtain rfl:dV=.none:=Dflts.none hD hdf
 obtain rfl:kV=.none:=Dflts.noKw hD
 obtain⟨a,vs,ns,rfl,rfl,hobj,hints,hlen⟩:=Att.Y7k hn hpre hwl
 refine enter_call (q6e (call w s₀ s₁ mg mb fa o pm cd doc a vs ns (X2z hlay) G Y ho (fd_plain hd) hcd hmg hobj hints hlen hg) λr s' hq=>?_)
 obtain⟨rfl,h2,h3,h4⟩:=hq
 exact⟨.inl ⟨.bool true,.bool true,[],Z,λ_=>rfl,.bool true,Att.Y7r l _,λ_=>⟨List.Pairwise.nil,λ_ hm=>(nomatch hm)⟩⟩,h2,h3,h4⟩
theorem Y5h {l:PySem.W.OpenLaw}{n k:Nat}{q:U8}{loose:W0}{XP:(Str->Option Value)->Heap->Prop}{YP:World->Heap->Prop}{d:DefRec}{K:Params->U0}{CX:World->CXT}{sp:World->Sp}{x:Str}
  (hn:l.most=some n) (hn2:n<=sizeLine) (hdf:d.params.defaults=[]) (hr:Room k callerA)
  (hY:∀ (w:W1) (h:Heap),YP w h->(K w.params).In h)
  (F:∀ (w:W1) (mg:U4) (fa:W9) (h:Heap),(K w.params).In h->h.Ns mainGlobals mg->mg d.name=some (.ref fa) →
   ∃ fd:FuncData,(∀ (s:U7) (u:W2),BindsTo s fd ⟨[u],[]⟩ [(x,u)]) ∧
    ∀ base:Heap,(K w.params).In base->base.Ns mainGlobals mg->FnOk l.prog w (K w.params) mg base (CX w) k fa fd [x] (sp w))
  (hsp:∀ (w:W1) (H:Hp) (a:W9) (ns:U6),ns.length<=n->Light ns->SqL (K w.params) H a (ns.map V.int)->sp w [.ref a] H (λv _=>v=.bl true) λ_ _ _=>False)
  (hCX:∀ (w:W1) (H:Hp) (s:U7) (e:W2) (s':U7),CX w [] H s (λ_ _ _=>False) e s'->False) :
  PySem.W.WalkO q loose XP YP l.row.toRowW d [] (λf vs=>PySem.call f vs):=by
 refine Y1n hn hdf λw s₀ s₁ mg mb fa o pm cd doc a vs ns lt G Y ho hd hcd hmg hobj hints hlen hg=>?_
 have KX:=hY w _ Y
 obtain⟨fd,hb,hF⟩:=F w mg fa _ KX G.T.g hmg
 exact X3f KX G.T.g G.T.b G.T.builtins G.T.nolimit hg hobj hints (q1i hlen hn2) hr hF hb (λH _ hS=>hsp w H a ns hlen lt hS) λH e s'=>hCX w H s₁ e s'
end L2
namespace Ba
open L2 Am Pc
noncomputable abbrev T5 (a b c d h:Int):HO:=.tup [.int a,.int b,.int c,.int d,.int h]
structure Red (a b c d h x y z u g:Int):Prop where
 amt:Amt x y z u g
 same:Same4 a b c d h x y z u g
 s1:x.natAbs<=a.natAbs
 s2:y.natAbs<=b.natAbs
 s3:z.natAbs<=c.natAbs
 s4:u.natAbs<=d.natAbs
 le:g<=h
structure Sz4 (n:Nat) (a b c d:Int):Prop where
 z1:Sz n a
 z2:Sz n b
 z3:Sz n c
 z4:Sz n d
theorem Red.sz {a b c d h x y z u g:Int}{n:Nat}(r:Red a b c d h x y z u g)(s:Sz4 n a b c d):Sz4 n x y z u:=⟨s.z1.le r.s1,s.z2.le r.s2,s.z3.le r.s3,s.z4.le r.s4⟩
theorem Sz4.mono {m n:Nat}{a b c d:Int}(s:Sz4 m a b c d)(h:m<=n):Sz4 n a b c d:=⟨s.z1.mono h,s.z2.mono h,s.z3.mono h,s.z4.mono h⟩
noncomputable def rot:Nat->Int × Int × Int × Int->Int × Int × Int × Int
 | 0,v=>v
 | n+1,v=>let (a,b,c,d):=rot n v;(-d,a,b,c)
noncomputable abbrev T4 (v:Int × Int × Int × Int)(h:Int):HO:=T5 v.1 v.2.1 v.2.2.1 v.2.2.2 h
abbrev A5:=(Int × Int × Int × Int) × Int
noncomputable abbrev tA (x:A5):HO:=T4 x.1 x.2
noncomputable def spin (x:A5)(k:Int):A5:=(rot (k%8).toNat x.1,x.2)
structure Ok5 (n:Nat) (m:Int) (x:A5):Prop where
 sz:Sz4 n x.1.1 x.1.2.1 x.1.2.2.1 x.1.2.2.2
 amt:Amt x.1.1 x.1.2.1 x.1.2.2.1 x.1.2.2.2 x.2
 le:x.2<=m
theorem Ok5.mono {n n':Nat}{m m':Int}{x:A5}(o:Ok5 n m x)(h:n<=n')(h':m<=m'):Ok5 n' m' x:=⟨o.sz.mono h,o.amt,Int.le_trans o.le h'⟩
theorem Y0t {n:Nat}{m:Int}{v:Int × Int × Int × Int}{h:Int}(o:Ok5 n m (v,h)):∀ k,Ok5 n m (rot k v,h)
 | 0=>o
 | k+1=>by
  have:=Y0t o k
  show Ok5 n m ((-(rot k v).2.2.2,(rot k v).1,(rot k v).2.1,(rot k v).2.2.1),h)
  refine⟨⟨this.sz.z4.neg,this.sz.z1,this.sz.z2,this.sz.z3⟩,⟨this.amt.nn,?_⟩,this.le⟩
  have o:h=0∨(rot k v).1%2=1∨(rot k v).2.1%2=1∨(rot k v).2.2.1%2=1∨(rot k v).2.2.2%2=1:=this.amt.odd
  show h=0∨(-(rot k v).2.2.2)%2=1∨(rot k v).1%2=1∨(rot k v).2.1%2=1∨(rot k v).2.2.1%2=1
  omega
def Vals5 (H:Hp)(ps:U3)(f:Nat->A5):Prop:=∀ i p,ps[i]?=some p->H p=some (tA (f i))
theorem Vals5.same {H H':Hp}{ps:U3}{f:Nat->A5}(v:Vals5 H ps f)(s:Same H H'):Vals5 H' ps f:=λi p e=>s _ _ (v i p e)
noncomputable def l5 (x:A5):List Int:=[x.1.1,x.1.2.1,x.1.2.2.1,x.1.2.2.2,x.2]
structure Hv (a b c d h x y z u g:Int):Prop where
 same:Same4 a b c d h x y z u g
 s1:x.natAbs<=a.natAbs
 s2:y.natAbs<=b.natAbs
 s3:z.natAbs<=c.natAbs
 s4:u.natAbs<=d.natAbs
 le:g<=h
 nn:0<=g
theorem Hv.red {a b c d h x y z u g:Int}(v:Hv a b c d h x y z u g)(o:g=0∨x%2=1∨y%2=1∨z%2=1∨u%2=1):Red a b c d h x y z u g:=⟨⟨v.nn,o⟩,v.same,v.s1,v.s2,v.s3,v.s4,v.le⟩
theorem Z9k {x g:Int}(hx:x%2=0)(hg:0<g):Eq2 x g (x / 2) (g-1):=by
 unfold Eq2
 have e:p2 g=p2 (g-1)*2:=by rw[Z5a (a:=g) (b:=1) (by decide) (by omega)];rfl
 rw[e]
 have:x=2*(x / 2):=by omega
 generalize x / 2=y at *
 subst this
 grind
theorem Hv.half {a b c d h x y z u g:Int}(v:Hv a b c d h x y z u g)(hg:0<g)(e:x%2=0/\y%2=0/\z%2=0/\u%2=0):Hv a b c d h (x / 2) (y / 2) (z / 2) (u / 2) (g-1):=by
 obtain⟨e1,e2,e3,e4⟩:=e
 have:=v.s1;have:=v.s2;have:=v.s3;have:=v.s4;have:=v.le
 exact⟨v.same.trans ⟨Z9k e1 hg,Z9k e2 hg,Z9k e3 hg,Z9k e4 hg⟩,by omega,by omega,by omega,by omega,by omega,by omega⟩
theorem all4 {a b c d:Int}:(([a,b,c,d].map λn=>decide (V.int (n%2)=V.int 0)).all id=true) ↔ (a%2=0/\b%2=0/\c%2=0/\d%2=0):=by
 have e:∀ n:Int,decide (V.int (n%2)=V.int 0)=true ↔ n%2=0:=λn=>by rw[decide_eq_true_iff];exact⟨λz=>V.int.inj z,λz=>by rw[z]⟩
 simp only[q0z,q8j,q6p,List.all_nil,id,Bool.and_true,q1g,e]
noncomputable def cell (ns:U6)(i:Int):Int:=if i<ns.length then ns.getD i.toNat 0 else 0
theorem Z9s {ns:U6}(h:Light ns)(i:Int):Sz 1048576 (cell ns i):=by
 unfold cell
 have z0:Sz 1048576 0:=by unfold Sz;exact q0o _
 split
 ·rw[q0b]
  cases e:ns[i.toNat]? with
  | none=>exact z0
  | some n=>exact h n (q0y e)
 ·exact z0
def spSpin:Sp:=λvs H Q _=>∃ (p:W9) (x:A5) (k:Int),vs=[.ref p,.int k]/\H p=some (tA x)/\∀ (r:W9) (H':Hp),Same H H'->H' r=some (tA (spin x k))->Q (.ref r) H'
def spOnes:Sp:=λvs H Q _=>∃ n:Nat,vs=[.int n]/\Q (.int (pc n)) H
def spCell (K:U0):Sp:=λvs H Q _=>∃ (a:W9) (ns:U6) (i:Int),vs=[.ref a,.int i]/\SqL K H a (ns.map V.int)/\0<=i/\Q (.int (cell ns i)) H
def Z3j:Sp:=λvs H Q _=>∃ i:Int,vs=[.int i]/\Q (.bl true) H
def Y7c:Sp:=λvs H Q _=>∃ c:Int,vs=[.int c]/\∀ n:Nat,1<=n->n<=6->Q (.int n) H
def spLow:Sp:=λvs H Q _=>∃ (l:W9) (a b c d h:Int),vs=[.ref l,.int h]/\H l=some (.lst ([a,b,c,d].map V.int))/\0<=h/\∀ (p:W9) (H':Hp) (x y z u g:Int),Same H H'->H' p=some (T5 x y z u g)->Red a b c d h x y z u g->Q (.ref p) H'
def Y1y:Sp:=λvs H Q _=>∃ c:Int,vs=[.int c]/\Sz 1048600 c/\∀ (p:W9) (H':Hp) (x:A5),Same H H'->H' p=some (tA x)->Ok5 100 40 x->Q (.ref p) H'
def spLaw (K:U0)(n:Nat):Sp:=λvs H Q _=>∃ (a:W9) (ns:U6),vs=[.ref a]/\SqL K H a (ns.map V.int)/\ns.length<=n/\Light ns/\∀ H',Q (.bl true) H'
theorem X5n {ns:U6}{i:Int}(h0:0<=i)(h:i<ns.length):atI (ns.map V.int) i=some (.int (ns.getD i.toNat 0)):=by
 have hk:i.toNat<ns.length:=by omega
 have ek:i=((i.toNat:Nat):Int):=by omega
 have q:atI (ns.map V.int) ((i.toNat:Nat):Int)=some (.int ns[i.toNat]):=Z3m (by rw[q0c,q0d hk]<;>rfl)
 rw[<-ek] at q
 rw[q,q0b,q0d hk]
 rfl
theorem t2:2<=sizeLine:=by decide
theorem t3:3<=sizeLine:=by decide
theorem t4:4<=sizeLine:=by decide
theorem t5:5<=sizeLine:=by decide
theorem t64 {n:Nat}(h:n<=64):n<=sizeLine:=q1i h (by decide)
theorem pow6 {n:Nat}(h:n<=6):2^n<=64:=q1i (q1a (by decide) h) (by decide)
theorem ipow (n:Nat):(1:Int)*2^((n:Int).toNat)=((2^n:Nat):Int):=by simp
theorem sz1:Sz 1 1:=by decide +kernel
theorem p_2:(0:Int)<2:=by decide
theorem p_3:(0:Int)<3:=by decide
theorem p_4:(0:Int)<4:=by decide
theorem p_6:(0:Int)<6:=by decide
theorem p_7:(0:Int)<7:=by decide
theorem p_8:(0:Int)<8:=by decide
theorem p_11:(0:Int)<11:=by decide
theorem p_40:(0:Int)<40:=by decide
theorem W0g:(0:Int)<2147483647:=by decide
theorem Y4s (K:U0):PySem.W.kitOne K (.type "tuple") (.type "tuple")=some true:=by unfold PySem.W.kitOne;rw[if_pos (by decide)]
end Ba
namespace L2
theorem fS {N P:W0}{sc:Scope}(a:sc.kind=.function:=by exact rfl)(b:sc.isCoroutine=false:=by exact rfl)(c:sc.isGenerator=false:=by exact rfl)(d:N.Nodup:=by decide +kernel)(e:N.take P.length=P:=by exact rfl)(f:∀ x∈P,sc.names.lookup x=some .local∨sc.names.lookup x=some .cell:=by decide +kernel)(g:∀ y∈sc.names,y.2≠.free:=by decide +kernel):FnScope N P sc:=⟨a,b,c,d,e,f,g⟩
end L2
namespace K63
open L2 Am Pc Ba
noncomputable def top (i:Nat):Stmt:=PySem.Challenge.pw_spinboard_k63_whole_keepers_go_with_the.main.body.getD i (.Pass ⟨0,0,0,0⟩)
structure Bs (mg:U4):Prop where
 isinstance:mg "isinstance"=none
 int:mg "int"=none
 bool:mg "bool"=none
 tuple:mg "tuple"=none
 list:mg "list"=none
 len:mg "len"=none
 range:mg "range"=none
 all:mg "all"=none
 any:mg "any"=none
 max:mg "max"=none
 min:mg "min"=none
 zip:mg "zip"=none
 set:mg "set"=none
 str:mg "str"=none
 enumerate:mg "enumerate"=none
 reversed:mg "reversed"=none
 sorted:mg "sorted"=none
 sum:mg "sum"=none
section
variable {P:U8}{w:W1}{K:U0}{mg:U4}{base:Heap}{k:Nat}{h:Heap}
theorem sc_cell:FnScope ["_law_script","_law_k"] ["_law_script","_law_k"] (Z0i (top 83)):=fS
theorem X7l (F:FunAt K "_law_cell_at" (top 83) .none)(X:K.In h)(G:Ng h mg)(B:Bs mg):Cal P w K mg base (k+1) "_law_cell_at" ["_law_script","_law_k"] (spCell K):=by
 have nd:=sc_cell.nd
 refine F.cal X G sc_cell (bnd2 λ_ _ _ _ _ _ _ _=>rfl) (λvs H Q E h=>?_) (λf cdv A outer s H vs Q E hr h=>?_)
 ·obtain⟨a,ns,i,rfl,_⟩:=h;rfl
 obtain⟨a,ns,i,rfl,hS,h0,q⟩:=h
 refine⟨_,(@Z0e _ _ _ _ _ (Z0w (Z0n Z7c (pv 1) (Z0r Z0u rfl B.len q1h (Z0a (pv 0) Z0d)) (nomark _))
   (@Z0f _ _ _ (Z0k (Z0m Z0z (pv 0) (pv 1) (λ_ _=>rfl))))
   Z0o)
  (@Z0f _ _ _ (Z0k Z0b))),?_⟩
 try dsimp only[cxK]
 have hl:(ns.map V.int).length=ns.length:=q0a _
 refine⟨_,Z,_,Z,a,_,Z,.inl hS,_,_,Z,Z,_,Z,decI (λc=>?_) (λc=>?_)⟩
 ·rw[hl] at c
  refine⟨_,Z,_,Z,a,_,_,_,Z,Z,hS,X5n h0 c,?_⟩
  unfold cell at q
  rw[if_pos c] at q
  exact q
 ·rw[hl] at c
  unfold cell at q
  rw[if_neg c] at q
  exact q
theorem sc_whole:FnScope ["_law_found"] ["_law_found"] (Z0i (top 84)):=fS
theorem X1x (F:FunAt K "_law_whole" (top 84) .none)(X:K.In h)(G:Ng h mg)(B:Bs mg):Cal P w K mg base (k+1) "_law_whole" ["_law_found"] Z3j:=by
 have nd:=sc_whole.nd
 refine F.cal X G sc_whole (bnd1 λ_ _ _ _ _ _ _=>rfl) (λvs H Q E h=>?_) (λf cdv A outer s H vs Q E hr h=>?_)
 ·obtain⟨i,rfl,_⟩:=h;rfl
 obtain⟨i,rfl,q⟩:=h
 refine⟨_,(@Z0f _ _ _ (Z0k (Z5y (Z0r Z1r rfl B.isinstance q2w (Z0a (pv 0) (Z0a (Z3l (v:=.ty "int") rfl B.int boot_int rfl) Z0d))) (Z4l (Y4b (Z0r Z1r rfl B.isinstance q2w (Z0a (pv 0) (Z0a (Z3l (v:=.ty "bool") rfl B.bool boot_bool rfl) Z0d)))))))),?_⟩
 try dsimp only[cxK]
 refine⟨_,Z,_,_,_,true,Z,TyOf.int i,X5b K,_,Z,iteT ?_⟩
 exact⟨_,Z,_,_,_,false,Z,TyOf.int i,X5c K,_,Z,q⟩
theorem sc_low:FnScope ["_law_parts","_law_h"] ["_law_parts","_law_h"] (Z0i (top 86)):=fS
theorem W0n (F:FunAt K "_law_low" (top 86) .none)(X:K.In h)(G:Ng h mg)(B:Bs mg):Cal P w K mg base (k+1) "_law_low" ["_law_parts","_law_h"] spLow:=by
 have nd:=sc_low.nd
 refine F.cal X G sc_low (bnd2 λ_ _ _ _ _ _ _ _=>rfl) (λvs H Q E h=>?_) (λf cdv A outer s H vs Q E hr h=>?_)
 ·obtain⟨l,a,b,c,d,h,rfl,_⟩:=h;rfl
 obtain⟨l,a,b,c,d,h,rfl,hl,h0,q⟩:=h
 refine⟨_,(@Z0e _ _ _ _ _ (Z6d PassesOwn.never (PW.pt (Y0m (Z0n Y2e (pv 1) Z0b (nomark _)) (Z6w (Z1n (Z0r (Z2f rfl) rfl B.all q6o (Z0a (Z3k rfl (LcOk.of (Nc:=["_law_part"]) (mp:=[none]) (by kernel_rfl)) (Z1e (pv 0)) (λ_ _ _ _=>(Z0p (i:=0) (show (["_law_part"]:W0).Nodup by decide +kernel) rfl (Or.inl rfl))) (λ_ _ _ _=>(Z1p Z1k (Z0h Z0v (pv 0) Z0b) Z0b (nomark _)))) Z0d))))))
   (@Z0e _ _ _ _ _ (Z3h (i:=0) rfl nd rfl rfl (LcOk.of (Nc:=["_law_part"]) (mp:=[none]) (by kernel_rfl)) (Z1e (pv 0)) (λ_ _ _ _=>(Z0p (i:=0) (show (["_law_part"]:W0).Nodup by decide +kernel) rfl (Or.inl rfl))) (λ_ _ _ _=>(Z0h Z1g (pv 0) Z0b)) rfl)
   (@Z0f _ _ _ (@Z0q _ _ 1 _ _ _ _ nd rfl (Or.inl rfl) (Z0h Z1z (pv 1) Z0b) rfl (.inl rfl)))))
  (@Z0f _ _ _ (Z0k (@Z1a _ _ _ _ _ (Z0a (Z0m Z0z (pv 0) Z0b (λ_ _=>rfl)) (Z0a (Z0m Z0z (pv 0) Z0b (λ_ _=>rfl)) (Z0a (Z0m Z0z (pv 0) Z0b (λ_ _=>rfl)) (Z0a (Z0m Z0z (pv 0) Z0b (λ_ _=>rfl)) (Z0a (pv 1) Z0d))))))))),?_⟩
 try dsimp only[cxK]
 refine⟨λm σ H'=>∃ l' x y u v g,m=g.toNat/\σ=[some (.ref l'),some (.int g)]/\Same H H'/\H' l'=some (.lst ([x,y,u,v].map V.int))/\Hv a b c d h x y u v g,⟨_,l,a,b,c,d,h,Z,Z,Same.refl _,hl,⟨Z,Z,Z,Z⟩,q0g _,q0g _,q0g _,q0g _,q3s _,h0⟩,?_⟩
 rintro m σ H2 ⟨l',x,y,u,v,g,rfl,rfl,s2,l2,hv⟩
 refine⟨_,Z,_,_,Z,Z,_,Z,decI (λcg=>?_) (λcg=>?_)⟩
 ·refine⟨_,Z,l',Z,⟨_,SqL.of l2⟩,λacc hacc=>?_⟩
  refine Y4p (ns:=[x,y,u,v]) (fr:=[]) (λn=>.bl (decide (V.int (n%2)=V.int 0))) (SqL.of l2) t4 hacc (λn H3 N _ kN=>?_) (λH3 s3 a3=>?_)
  ·exact⟨_,Z,_,_,Z,Z,p_2,Z,kN⟩
  refine⟨acc,[x,y,u,v].map λn=>decide (V.int (n%2)=V.int 0),Z,SqL.of (by rw[a3];rfl),_,Z,blI (λc=>?_) (λc=>?_)⟩
  ·have l3:=s3 _ _ l2
   refine⟨_,λ_ _ h=>h,_,Z,l',Z,⟨_,SqL.of l3⟩,λac hac=>?_⟩
   refine Y4p (ns:=[x,y,u,v]) (fr:=[]) (λn=>.int (n / 2)) (SqL.of l3) t4 hac (λn H3 N _ kN=>?_) (λH4 s4 a4=>?_)
   ·exact⟨_,Z,_,_,Z,Z,⟨by decide,by decide⟩,kN⟩
   refine⟨_,Z,_,_,Z,Z,?_⟩
   refine⟨(g-1).toNat,by omega,ac,x / 2,y / 2,u / 2,v / 2,g-1,Z,Z,s2.trans (s3.trans s4),a4,hv.half cg (all4.mp c)⟩
  ·have l3:SqL K H3 l' ([x,y,u,v].map V.int):=SqL.of (s3 _ _ l2)
   have o:x%2=1∨y%2=1∨u%2=1∨v%2=1:=by
    have:¬ (x%2=0/\y%2=0/\u%2=0/\v%2=0):=λz=>by rw[all4.mpr z] at c;cases c
    omega
   refine⟨_,Z,l',_,_,_,Z,Z,l3,Z,_,Z,l',_,_,_,Z,Z,l3,Z,_,Z,l',_,_,_,Z,Z,l3,Z,_,Z,l',_,_,_,Z,Z,l3,Z,_,Z,t5,λt ht=>?_⟩
   exact q t _ x y u v g (s2.trans (s3.trans (Z0g ht _))) Z0c (hv.red (.inr o))
 ·have l3:SqL K H2 l' ([x,y,u,v].map V.int):=SqL.of l2
  refine⟨_,Z,l',_,_,_,Z,Z,l3,Z,_,Z,l',_,_,_,Z,Z,l3,Z,_,Z,l',_,_,_,Z,Z,l3,Z,_,Z,l',_,_,_,Z,Z,l3,Z,_,Z,t5,λt ht=>?_⟩
  exact q t _ x y u v g (s2.trans (Z0g ht _)) Z0c (hv.red (.inl (by have:=hv.nn;omega)))
end
end K63
noncomputable section
namespace K63
open L2 Ba
namespace Hd
open PySem.W
set_option maxHeartbeats 0
noncomputable abbrev pr:Program:=PySem.Challenge.pw_spinboard_k63_whole_keepers_go_with_the
abbrev kh:=PyData.keyHash
noncomputable def dPos (s:Stmt):Pos:=match s with
 | .FunctionDef _ _ _ _ _ _ _ _ _ p=>p
 | _=>⟨0,0,0,0⟩
noncomputable def life:Life:=(Life.mk [] [] [] 0 [] [] false #[] [] 0 false false false 0 [2000,10,10] false 0 true [] [] 0 false)
noncomputable def en:Env:={ scope:=pr.main.scope,locals:=mainNs,globals:=mainNs,cells:=[],code:=(.ref 13),frame:=some 14 }
noncomputable def dn (P:Params)(x:Str)(t:Nat)(v:W2):DictEntry:=DictEntry.mk (kh P x) (.str x t) v
noncomputable def cob (n:Str)(t1:Nat)(q:Str)(t2 t3:Nat)(i1 i2 i3 i4 i5:Int)(r1:W9)(b:Bool)(i6:Int)(r2:W9)(v1 v2 v3:W2)(i7 i8:Int)(t4:Nat):Obj:=Obj.mk (.type "code") none (Data.fields #[.str n t1,.str q t2,.str "/claim/cut.py" t3,.int i1 0,.int i2 0,.int i3 0,.int i4 0,.int i5 0,.ref r1,.bool b,.int i6 0,.ref r2,.none,v1,v2,v3,.int i7 0,.int i8 0,.str "/claim/cut.py" t4]) #[]
noncomputable def fo1 (n q:Str)(s:Stmt)(k j:Nat):Obj:=Obj.mk .none none (Data.func (FuncData.mk n q (Z1m s) (FuncBody.stmts (Z1h s)) (Z0i s) k [] .none .none .none .none none .none .none j)) #[]
noncomputable def fo2 (n q:Str)(s:Stmt)(k:Nat)(m:Str)(t:Nat)(c:W9)(j:Nat):Obj:=Obj.mk (.type "function") none (Data.func (FuncData.mk n q (Z1m s) (FuncBody.stmts (Z1h s)) (Z0i s) k [] .none .none .none (.str m t) none (.ref c) .none j)) #[]
noncomputable def sq0 (T:String)(n:Nat):Obj:=Obj.mk (.type T) none (Data.seq #[] n) #[]
noncomputable def tq (a:U9):Obj:=Obj.mk (.type "tuple") none (Data.seq a 0) #[]
noncomputable def nf0:Obj:=Obj.mk .none none (Data.fields #[]) #[]
abbrev Pz:=Params
noncomputable abbrev tz:Obj:=sq0 "tuple" 0
noncomputable def iL (t:BT):List (Nat × Obj)->BT
 | []=>t
 | x::l=>iL (t.ins x.1 x.2) l
noncomputable def iF (t:BT):Nat->List Obj->BT
 | _,[]=>t
 | n,x::l=>iF (t.ins n x) (n+1) l
noncomputable def ob3 (l:List DictEntry)(n:Nat):Obj:=Obj.mk (.type "dict") none (Data.dict (Array.mk l) n) #[]
noncomputable def ob12 (l:U5):Obj:=Obj.mk .none none (Data.fields (Array.mk l)) #[]
def j13(P:Pz):=(cob "<module>" 182 "<module>" 183 184 1 0 0 0 0 11 false 181 12 .none .none .none 185 1 186)
noncomputable def j14(P:Pz):=Obj.mk (.type "frame") none Data.plain #[(some (.ref 13)),(some (.ref 3)),(some (.ref 3)),none,(some (.str "__main__" 164)),none,(some (.ref 0))]
def Ha (P:Pz):Heap:=Heap.mk (Array.mk [boot_o_0 P,boot_o_1 P,boot_o_2 P,boot_o_3 P,boot_o_4 P,boot_o_5 P,boot_o_6 P,boot_o_7 P,boot_o_8 P,boot_o_9 P,boot_o_10 P,tz,nf0,j13 P,j14 P]) life
def T0 (P:Pz):BT:=(.node (boot_o_0 P) (.node (boot_o_1 P) (.node (boot_o_3 P) (.node (boot_o_7 P) .nil .nil) (.node tz .nil .nil)) (.node (boot_o_5 P) (.node (boot_o_9 P) .nil .nil) (.node (j13 P) .nil .nil))) (.node (boot_o_2 P) (.node (boot_o_4 P) (.node (boot_o_8 P) .nil .nil) (.node nf0 .nil .nil)) (.node (boot_o_6 P) (.node (boot_o_10 P) .nil .nil) (.node (j14 P) .nil .nil))))
noncomputable def l0:List Stmt:=[top 0,top 1]
noncomputable def l1:List Stmt:=[top 2]
noncomputable def l2:List Stmt:=[top 3]
noncomputable def l3:List Stmt:=[top 4]
noncomputable def l4:List Stmt:=[top 5]
noncomputable def l5:List Stmt:=[top 6,top 7,top 8,top 9,top 10,top 11,top 12]
noncomputable def l6:List Stmt:=[top 13,top 14,top 15,top 16,top 17,top 18,top 19,top 20,top 21,top 22,top 23,top 24,top 25,top 26,top 27,top 28]
noncomputable def l7:List Stmt:=[top 29,top 30,top 31,top 32,top 33,top 34,top 35,top 36,top 37,top 38,top 39,top 40,top 41,top 42,top 43,top 44]
noncomputable def l8:List Stmt:=[top 45,top 46,top 47,top 48,top 49,top 50,top 51,top 52,top 53,top 54,top 55,top 56,top 57]
noncomputable def l9:List Stmt:=[top 58,top 59,top 60,top 61,top 62,top 63,top 64,top 65,top 66,top 67,top 68]
noncomputable def l10:List Stmt:=[top 69,top 70,top 71,top 72,top 73,top 74,top 75,top 76,top 77,top 78,top 79,top 80,top 81,top 82]
noncomputable def l11:List Stmt:=[top 83,top 84,top 85,top 86,top 87,top 88,top 89,top 90,top 91,top 92,top 93,top 94,top 95]
noncomputable def l12:List Stmt:=[top 96,top 97,top 98,top 99,top 100]
noncomputable def bE:List Stmt:=l0++(l1++(l2++(l3++(l4++(l5++(l6++(l7++(l8++(l9++(l10++(l11++(l12++[]))))))))))))
noncomputable abbrev cE:Code:=Code.body bE en
noncomputable abbrev BB:List Frame:=[topFrame (Pos.mk 0 0 0 0)]
theorem pre_ (w:W1)(os:OsState):topGo treeTable pr w 11 (some (.ref 6)) 12 (Shared.mk (boot_heap w.params) (Array.mk []) boot_drawn boot_toks os) (topStub pr)=some (Shared.mk (Ha w.params) (Array.mk []) (Drawn.mk 0 0 0 0) 187 os,Thread.mk (denote treeTable cE) cE (Pos.mk 0 0 0 0) BB):=by rw[PySem.W.Fast.te15667345088766844465,PySem.W.Fast.te11892475500146522536,PySem.W.Fast.te14364793385576792824];kernel_rfl
theorem W2j (w:W1)(os:OsState):segRun treeTable pr w 11 (some (.ref 6)) 1 1 (Shared.mk (Ha w.params) (Array.mk []) (Drawn.mk 0 0 0 0) 187 os) (blockOf bE en cE (Pos.mk 0 0 0 0) BB)=some (Flow.next,(SharedT.mk (T0 w.params) 15 life (Array.mk []) (Drawn.mk 0 0 0 0) 187 os).abs,cE,(Pos.mk 0 0 0 0)):=by rw[PySem.W.Fast.te14374325043358763698,PySem.W.Fast.te14364793385576792824];kernel_rfl
noncomputable def y3_2(P:Pz):List DictEntry:=[(dn P "__doc__" 166 .none),(dn P "__package__" 167 .none),(dn P "__loader__" 168 (.builtin "__main__.__loader__#opaque")),(dn P "__spec__" 169 .none),(dn P "__annotations__" 170 (.ref 6)),(dn P "__builtins__" 171 (.ref 4)),(dn P "__file__" 173 (.str "/claim/cut.py" 172)),(dn P "__cached__" 174 .none),(dn P "BoardError" 206 (.ref 24))]
def j3_2(P:Pz):=ob3 ((dn P "__name__" 165 (.str "spinboard.errors" 187))::y3_2 P) 10
noncomputable def X9q(P:Pz):List Value:=[(.int 2 0),(.int 0 0),(.ref 20)]
def W3w(P:Pz):=ob12 (X9q P)
def j15(P:Pz):=tq #[(.type "ValueError")]
noncomputable def j16(P:Pz):=Obj.mk (.type "builtin_function_or_method") none (Data.fields #[(.builtin "type.__prepare__"),(.type "type")]) #[]
def j17(P:Pz):=ob3 [(dn P "__module__" 196 (.str "spinboard.errors" 187)),(dn P "__qualname__" 198 (.str "BoardError" 197)),(dn P "__firstlineno__" 200 (.int 2 199)),(dn P "__static_attributes__" 201 (.ref 22))] 4
def j20(P:Pz):=(cob "BoardError" 191 "BoardError" 192 193 2 0 0 0 0 18 false 181 19 .none .none .none 194 2 195)
noncomputable def j21(P:Pz):=Obj.mk (.type "frame") none Data.plain #[(some (.ref 20)),(some (.ref 3)),(some (.ref 17)),none,(some (.str "spinboard.errors" 187)),none,(some (.ref 0))]
def j23(P:Pz):=ob3 [(dn P "__module__" 196 (.str "spinboard.errors" 187)),(dn P "__firstlineno__" 200 (.int 2 199)),(dn P "__static_attributes__" 201 (.ref 22)),(dn P "__weakref__" 203 (.ref 25)),(dn P "__doc__" 204 .none)] 3
def W3o(P:Pz):=Obj.mk (.type "type") none (Data.cls (ClassData.mk "BoardError" [(.type "ValueError")] [(.ref 24),(.type "ValueError"),(.type "Exception"),(.type "BaseException"),(.type "object")] 23 "BoardError" true [] [] false none false)) #[(some (.ref 15)),none,(some (.str "BoardError" 189)),(some (.str "BoardError" 197)),(some (.builtin "ValueError.__new__")),(some (.bool true))]
noncomputable def j25(P:Pz):=Obj.mk (.type "getset_descriptor") none (Data.fields #[(.str "__weakref__" 202),(.ref 24),(.builtin "ExceptionGroup.__weakref__"),.none]) #[]
noncomputable def j26(P:Pz):=Obj.mk (.type "super") none (Data.fields #[(.ref 24),(.ref 24),(.ref 24)]) #[]
noncomputable def j27(P:Pz):=Obj.mk (.type "builtin_function_or_method") none (Data.fields #[(.builtin "object.__init_subclass__"),(.ref 24)]) #[]
def x1(P:Pz):List Obj:=[j15 P,j16 P,j17 P,tz,nf0,j20 P,j21 P,tz,j23 P,W3o P,j25 P,j26 P,j27 P]
def T1 (P:Pz):BT:=iF (iL (T0 P) [(3,j3_2 P),(12,W3w P)]) 15 (x1 P)
theorem g0 (p:U8)(b:W8)(w:W1)(os:OsState):segRunT treeTable p w 11 (some (.ref 6)) 1 196 (SharedT.mk (T0 w.params) 15 life (Array.mk []) (Drawn.mk 0 0 0 0) 187 os) (piecesOf l0 en (Code.body b en) (Pos.mk 0 0 0 0) BB)=some (Flow.next,(SharedT.mk (T1 w.params) 28 life (Array.mk []) (Drawn.mk 0 0 0 0) 207 os),Code.body b en,(Pos.mk 2 0 3 8)):=by rw[PySem.W.Fast.te10110043849684766642,PySem.W.Fast.te14364793385576792824];kernel_rfl
def y3_3(P:Pz):List DictEntry:=y3_2 P++[(dn P "NoBoard" 222 (.ref 37))]
def j3_3(P:Pz):=ob3 ((dn P "__name__" 165 (.str "spinboard.errors" 187))::y3_3 P) 11
def X9p(P:Pz):List Value:=X9q P++[(.int 4 0),(.int 0 0),(.ref 33)]
def W3v(P:Pz):=ob12 (X9p P)
def W3n(P:Pz):=Obj.mk (.type "type") none (Data.cls (ClassData.mk "BoardError" [(.type "ValueError")] [(.ref 24),(.type "ValueError"),(.type "Exception"),(.type "BaseException"),(.type "object")] 23 "BoardError" true [] [(.ref 37)] false none false)) #[(some (.ref 15)),none,(some (.str "BoardError" 189)),(some (.str "BoardError" 197)),(some (.builtin "ValueError.__new__")),(some (.bool true))]
def j28(P:Pz):=tq #[(.ref 24)]
def j30(P:Pz):=ob3 [(dn P "__module__" 214 (.str "spinboard.errors" 187)),(dn P "__qualname__" 216 (.str "NoBoard" 215)),(dn P "__firstlineno__" 218 (.int 4 217)),(dn P "__static_attributes__" 219 (.ref 35))] 4
def j33(P:Pz):=(cob "NoBoard" 209 "NoBoard" 210 211 4 0 0 0 0 31 false 181 32 .none .none .none 212 4 213)
noncomputable def j34(P:Pz):=Obj.mk (.type "frame") none Data.plain #[(some (.ref 33)),(some (.ref 3)),(some (.ref 30)),none,(some (.str "spinboard.errors" 187)),none,(some (.ref 0))]
def j36(P:Pz):=ob3 [(dn P "__module__" 214 (.str "spinboard.errors" 187)),(dn P "__firstlineno__" 218 (.int 4 217)),(dn P "__static_attributes__" 219 (.ref 35)),(dn P "__doc__" 220 .none)] 2
noncomputable def j37(P:Pz):=Obj.mk (.type "type") none (Data.cls (ClassData.mk "NoBoard" [(.ref 24)] [(.ref 37),(.ref 24),(.type "ValueError"),(.type "Exception"),(.type "BaseException"),(.type "object")] 36 "NoBoard" true [] [] false none false)) #[(some (.ref 28)),none,(some (.str "NoBoard" 207)),(some (.str "NoBoard" 215)),(some (.builtin "ValueError.__new__")),(some (.bool true))]
noncomputable def j38(P:Pz):=Obj.mk (.type "super") none (Data.fields #[(.ref 37),(.ref 37),(.ref 37)]) #[]
noncomputable def j39(P:Pz):=Obj.mk (.type "builtin_function_or_method") none (Data.fields #[(.builtin "object.__init_subclass__"),(.ref 37)]) #[]
def x2(P:Pz):List Obj:=[j28 P,j16 P,j30 P,tz,nf0,j33 P,j34 P,tz,j36 P,j37 P,j38 P,j39 P]
def T2 (P:Pz):BT:=iF (iL (T1 P) [(3,j3_3 P),(12,W3v P),(24,W3n P)]) 28 (x2 P)
theorem g1 (p:U8)(b:W8)(w:W1)(os:OsState):segRunT treeTable p w 11 (some (.ref 6)) 1 214 (SharedT.mk (T1 w.params) 28 life (Array.mk []) (Drawn.mk 0 0 0 0) 207 os) (piecesOf l1 en (Code.body b en) (Pos.mk 2 0 3 8) BB)=some (Flow.next,(SharedT.mk (T2 w.params) 40 life (Array.mk []) (Drawn.mk 0 0 0 0) 223 os),Code.body b en,(Pos.mk 4 0 5 8)):=by rw[PySem.W.Fast.te10110043849684766642,PySem.W.Fast.te14364793385576792824];kernel_rfl
def y3_4(P:Pz):List DictEntry:=y3_3 P++[(dn P "NoMove" 238 (.ref 49))]
def j3_4(P:Pz):=ob3 ((dn P "__name__" 165 (.str "spinboard.errors" 187))::y3_4 P) 12
def X9o(P:Pz):List Value:=X9p P++[(.int 6 0),(.int 0 0),(.ref 45)]
def W3u(P:Pz):=ob12 (X9o P)
def W3m(P:Pz):=Obj.mk (.type "type") none (Data.cls (ClassData.mk "BoardError" [(.type "ValueError")] [(.ref 24),(.type "ValueError"),(.type "Exception"),(.type "BaseException"),(.type "object")] 23 "BoardError" true [] [(.ref 37),(.ref 49)] false none false)) #[(some (.ref 15)),none,(some (.str "BoardError" 189)),(some (.str "BoardError" 197)),(some (.builtin "ValueError.__new__")),(some (.bool true))]
def j42(P:Pz):=ob3 [(dn P "__module__" 230 (.str "spinboard.errors" 187)),(dn P "__qualname__" 232 (.str "NoMove" 231)),(dn P "__firstlineno__" 234 (.int 6 233)),(dn P "__static_attributes__" 235 (.ref 47))] 4
def j45(P:Pz):=(cob "NoMove" 225 "NoMove" 226 227 6 0 0 0 0 43 false 181 44 .none .none .none 228 6 229)
noncomputable def j46(P:Pz):=Obj.mk (.type "frame") none Data.plain #[(some (.ref 45)),(some (.ref 3)),(some (.ref 42)),none,(some (.str "spinboard.errors" 187)),none,(some (.ref 0))]
def j48(P:Pz):=ob3 [(dn P "__module__" 230 (.str "spinboard.errors" 187)),(dn P "__firstlineno__" 234 (.int 6 233)),(dn P "__static_attributes__" 235 (.ref 47)),(dn P "__doc__" 236 .none)] 2
noncomputable def j49(P:Pz):=Obj.mk (.type "type") none (Data.cls (ClassData.mk "NoMove" [(.ref 24)] [(.ref 49),(.ref 24),(.type "ValueError"),(.type "Exception"),(.type "BaseException"),(.type "object")] 48 "NoMove" true [] [] false none false)) #[(some (.ref 40)),none,(some (.str "NoMove" 223)),(some (.str "NoMove" 231)),(some (.builtin "ValueError.__new__")),(some (.bool true))]
noncomputable def j50(P:Pz):=Obj.mk (.type "super") none (Data.fields #[(.ref 49),(.ref 49),(.ref 49)]) #[]
noncomputable def j51(P:Pz):=Obj.mk (.type "builtin_function_or_method") none (Data.fields #[(.builtin "object.__init_subclass__"),(.ref 49)]) #[]
def x3(P:Pz):List Obj:=[j28 P,j16 P,j42 P,tz,nf0,j45 P,j46 P,tz,j48 P,j49 P,j50 P,j51 P]
def T3 (P:Pz):BT:=iF (iL (T2 P) [(3,j3_4 P),(12,W3u P),(24,W3m P)]) 40 (x3 P)
theorem g2 (p:U8)(b:W8)(w:W1)(os:OsState):segRunT treeTable p w 11 (some (.ref 6)) 1 214 (SharedT.mk (T2 w.params) 40 life (Array.mk []) (Drawn.mk 0 0 0 0) 223 os) (piecesOf l2 en (Code.body b en) (Pos.mk 4 0 5 8) BB)=some (Flow.next,(SharedT.mk (T3 w.params) 52 life (Array.mk []) (Drawn.mk 0 0 0 0) 239 os),Code.body b en,(Pos.mk 6 0 7 8)):=by rw[PySem.W.Fast.te10110043849684766642,PySem.W.Fast.te14364793385576792824];kernel_rfl
def y3_5(P:Pz):List DictEntry:=y3_4 P++[(dn P "NoCell" 254 (.ref 61))]
def j3_5(P:Pz):=ob3 ((dn P "__name__" 165 (.str "spinboard.errors" 187))::y3_5 P) 13
def X9n(P:Pz):List Value:=X9o P++[(.int 8 0),(.int 0 0),(.ref 57)]
def W3t(P:Pz):=ob12 (X9n P)
def W3l(P:Pz):=Obj.mk (.type "type") none (Data.cls (ClassData.mk "BoardError" [(.type "ValueError")] [(.ref 24),(.type "ValueError"),(.type "Exception"),(.type "BaseException"),(.type "object")] 23 "BoardError" true [] [(.ref 37),(.ref 49),(.ref 61)] false none false)) #[(some (.ref 15)),none,(some (.str "BoardError" 189)),(some (.str "BoardError" 197)),(some (.builtin "ValueError.__new__")),(some (.bool true))]
def j54(P:Pz):=ob3 [(dn P "__module__" 246 (.str "spinboard.errors" 187)),(dn P "__qualname__" 248 (.str "NoCell" 247)),(dn P "__firstlineno__" 250 (.int 8 249)),(dn P "__static_attributes__" 251 (.ref 59))] 4
def j57(P:Pz):=(cob "NoCell" 241 "NoCell" 242 243 8 0 0 0 0 55 false 181 56 .none .none .none 244 8 245)
noncomputable def j58(P:Pz):=Obj.mk (.type "frame") none Data.plain #[(some (.ref 57)),(some (.ref 3)),(some (.ref 54)),none,(some (.str "spinboard.errors" 187)),none,(some (.ref 0))]
def j60(P:Pz):=ob3 [(dn P "__module__" 246 (.str "spinboard.errors" 187)),(dn P "__firstlineno__" 250 (.int 8 249)),(dn P "__static_attributes__" 251 (.ref 59)),(dn P "__doc__" 252 .none)] 2
noncomputable def j61(P:Pz):=Obj.mk (.type "type") none (Data.cls (ClassData.mk "NoCell" [(.ref 24)] [(.ref 61),(.ref 24),(.type "ValueError"),(.type "Exception"),(.type "BaseException"),(.type "object")] 60 "NoCell" true [] [] false none false)) #[(some (.ref 52)),none,(some (.str "NoCell" 239)),(some (.str "NoCell" 247)),(some (.builtin "ValueError.__new__")),(some (.bool true))]
noncomputable def j62(P:Pz):=Obj.mk (.type "super") none (Data.fields #[(.ref 61),(.ref 61),(.ref 61)]) #[]
noncomputable def j63(P:Pz):=Obj.mk (.type "builtin_function_or_method") none (Data.fields #[(.builtin "object.__init_subclass__"),(.ref 61)]) #[]
def x4(P:Pz):List Obj:=[j28 P,j16 P,j54 P,tz,nf0,j57 P,j58 P,tz,j60 P,j61 P,j62 P,j63 P]
def T4 (P:Pz):BT:=iF (iL (T3 P) [(3,j3_5 P),(12,W3t P),(24,W3l P)]) 52 (x4 P)
theorem g3 (p:U8)(b:W8)(w:W1)(os:OsState):segRunT treeTable p w 11 (some (.ref 6)) 1 214 (SharedT.mk (T3 w.params) 52 life (Array.mk []) (Drawn.mk 0 0 0 0) 239 os) (piecesOf l3 en (Code.body b en) (Pos.mk 6 0 7 8) BB)=some (Flow.next,(SharedT.mk (T4 w.params) 64 life (Array.mk []) (Drawn.mk 0 0 0 0) 255 os),Code.body b en,(Pos.mk 8 0 9 8)):=by rw[PySem.W.Fast.te10110043849684766642,PySem.W.Fast.te14364793385576792824];kernel_rfl
def y3_6(P:Pz):List DictEntry:=y3_5 P++[(dn P "NoTable" 270 (.ref 73))]
def j3_6(P:Pz):=ob3 ((dn P "__name__" 165 (.str "spinboard.errors" 187))::y3_6 P) 14
def X9m(P:Pz):List Value:=X9n P++[(.int 10 0),(.int 0 0),(.ref 69)]
def W3s(P:Pz):=ob12 (X9m P)
def W3k(P:Pz):=Obj.mk (.type "type") none (Data.cls (ClassData.mk "BoardError" [(.type "ValueError")] [(.ref 24),(.type "ValueError"),(.type "Exception"),(.type "BaseException"),(.type "object")] 23 "BoardError" true [] [(.ref 37),(.ref 49),(.ref 61),(.ref 73)] false none false)) #[(some (.ref 15)),none,(some (.str "BoardError" 189)),(some (.str "BoardError" 197)),(some (.builtin "ValueError.__new__")),(some (.bool true))]
def j66(P:Pz):=ob3 [(dn P "__module__" 262 (.str "spinboard.errors" 187)),(dn P "__qualname__" 264 (.str "NoTable" 263)),(dn P "__firstlineno__" 266 (.int 10 265)),(dn P "__static_attributes__" 267 (.ref 71))] 4
def j69(P:Pz):=(cob "NoTable" 257 "NoTable" 258 259 10 0 0 0 0 67 false 181 68 .none .none .none 260 10 261)
noncomputable def j70(P:Pz):=Obj.mk (.type "frame") none Data.plain #[(some (.ref 69)),(some (.ref 3)),(some (.ref 66)),none,(some (.str "spinboard.errors" 187)),none,(some (.ref 0))]
def j72(P:Pz):=ob3 [(dn P "__module__" 262 (.str "spinboard.errors" 187)),(dn P "__firstlineno__" 266 (.int 10 265)),(dn P "__static_attributes__" 267 (.ref 71)),(dn P "__doc__" 268 .none)] 2
noncomputable def j73(P:Pz):=Obj.mk (.type "type") none (Data.cls (ClassData.mk "NoTable" [(.ref 24)] [(.ref 73),(.ref 24),(.type "ValueError"),(.type "Exception"),(.type "BaseException"),(.type "object")] 72 "NoTable" true [] [] false none false)) #[(some (.ref 64)),none,(some (.str "NoTable" 255)),(some (.str "NoTable" 263)),(some (.builtin "ValueError.__new__")),(some (.bool true))]
noncomputable def j74(P:Pz):=Obj.mk (.type "super") none (Data.fields #[(.ref 73),(.ref 73),(.ref 73)]) #[]
noncomputable def j75(P:Pz):=Obj.mk (.type "builtin_function_or_method") none (Data.fields #[(.builtin "object.__init_subclass__"),(.ref 73)]) #[]
def x5(P:Pz):List Obj:=[j28 P,j16 P,j66 P,tz,nf0,j69 P,j70 P,tz,j72 P,j73 P,j74 P,j75 P]
def T5 (P:Pz):BT:=iF (iL (T4 P) [(3,j3_6 P),(12,W3s P),(24,W3k P)]) 64 (x5 P)
theorem g4 (p:U8)(b:W8)(w:W1)(os:OsState):segRunT treeTable p w 11 (some (.ref 6)) 1 214 (SharedT.mk (T4 w.params) 64 life (Array.mk []) (Drawn.mk 0 0 0 0) 255 os) (piecesOf l4 en (Code.body b en) (Pos.mk 8 0 9 8) BB)=some (Flow.next,(SharedT.mk (T5 w.params) 76 life (Array.mk []) (Drawn.mk 0 0 0 0) 271 os),Code.body b en,(Pos.mk 10 0 11 8)):=by rw[PySem.W.Fast.te10110043849684766642,PySem.W.Fast.te14364793385576792824];kernel_rfl
def y3_7(P:Pz):List DictEntry:=y3_6 P++[(dn P "NotBorne" 295 (.ref 92)),(dn P "is_whole" 304 (.ref 101)),(dn P "halved_out" 320 (.ref 108)),(dn P "plus" 326 (.ref 113)),(dn P "minus" 334 (.ref 120))]
def j3_7(P:Pz):=ob3 ((dn P "__name__" 165 (.str "spinboard.amounts" 305))::y3_7 P) 19
def X9l(P:Pz):List Value:=X9m P++[(.int 12 0),(.int 0 0),(.ref 81),(.int 17 0),(.int 0 0),(.ref 100),(.int 20 0),(.int 0 0),(.ref 107),(.int 27 0),(.int 0 0),(.ref 112),(.int 33 0),(.int 0 0),(.ref 119)]
def W3r(P:Pz):=ob12 (X9l P)
def W1i(P:Pz):=Obj.mk (.type "type") none (Data.cls (ClassData.mk "BoardError" [(.type "ValueError")] [(.ref 24),(.type "ValueError"),(.type "Exception"),(.type "BaseException"),(.type "object")] 23 "BoardError" true [] [(.ref 37),(.ref 49),(.ref 61),(.ref 73),(.ref 92)] false none false)) #[(some (.ref 15)),none,(some (.str "BoardError" 189)),(some (.str "BoardError" 197)),(some (.builtin "ValueError.__new__")),(some (.bool true))]
def j78(P:Pz):=ob3 [(dn P "__module__" 278 (.str "spinboard.errors" 187)),(dn P "__qualname__" 280 (.str "NotBorne" 279)),(dn P "__firstlineno__" 282 (.int 12 281)),(dn P "__init__" 290 (.ref 89)),(dn P "__static_attributes__" 292 (.ref 90))] 5
noncomputable def j80(P:Pz):=Obj.mk .none none (Data.fields #[(.int 14 0),(.int 4 0),(.ref 88)]) #[]
def j81(P:Pz):=(cob "NotBorne" 273 "NotBorne" 274 275 12 0 0 0 0 79 false 181 80 .none .none .none 276 12 277)
noncomputable def j82(P:Pz):=Obj.mk (.type "frame") none Data.plain #[(some (.ref 81)),(some (.ref 3)),(some (.ref 78)),none,(some (.str "spinboard.errors" 187)),none,(some (.ref 0))]
def j85(P:Pz):=tq #[(.str "self" 286),(.str "place" 287)]
def j87(P:Pz):=(fo1 "__init__" "NotBorne.__init__" (Y9s (top 6) 0) 0 0)
def j88(P:Pz):=(cob "__init__" 283 "NotBorne.__init__" 284 285 14 2 0 0 3 83 true 181 84 (.ref 85) (.ref 86) (.ref 87) 288 14 289)
def j89(P:Pz):=(fo2 "__init__" "NotBorne.__init__" (Y9s (top 6) 0) 3 "spinboard.errors" 187 88 0)
def j90(P:Pz):=tq #[(.str "place" 291)]
def j91(P:Pz):=ob3 [(dn P "__module__" 278 (.str "spinboard.errors" 187)),(dn P "__firstlineno__" 282 (.int 12 281)),(dn P "__init__" 290 (.ref 89)),(dn P "__static_attributes__" 292 (.ref 90)),(dn P "__doc__" 293 .none)] 2
noncomputable def j92(P:Pz):=Obj.mk (.type "type") none (Data.cls (ClassData.mk "NotBorne" [(.ref 24)] [(.ref 92),(.ref 24),(.type "ValueError"),(.type "Exception"),(.type "BaseException"),(.type "object")] 91 "NotBorne" true [] [] false none false)) #[(some (.ref 76)),none,(some (.str "NotBorne" 271)),(some (.str "NotBorne" 279)),(some (.builtin "ValueError.__new__")),(some (.bool true))]
noncomputable def j93(P:Pz):=Obj.mk (.type "super") none (Data.fields #[(.ref 92),(.ref 92),(.ref 92)]) #[]
noncomputable def j94(P:Pz):=Obj.mk (.type "builtin_function_or_method") none (Data.fields #[(.builtin "object.__init_subclass__"),(.ref 92)]) #[]
def j97(P:Pz):=tq #[(.str "thing" 301)]
def j99(P:Pz):=(fo1 "is_whole" "is_whole" (top 8) 0 0)
def j100(P:Pz):=(cob "is_whole" 298 "is_whole" 299 300 17 1 0 0 3 95 true 181 96 (.ref 97) (.ref 98) (.ref 99) 302 17 303)
def j101(P:Pz):=(fo2 "is_whole" "is_whole" (top 8) 3 "spinboard.shares" 296 100 0)
def j104(P:Pz):=tq #[(.str "a" 310),(.str "b" 311),(.str "c" 312),(.str "d" 313),(.str "h" 314),(.str "places" 315),(.str "lowest" 316),(.str "less" 317)]
def j106(P:Pz):=(fo1 "halved_out" "halved_out" (top 10) 0 0)
def j107(P:Pz):=(cob "halved_out" 307 "halved_out" 308 309 20 5 0 0 3 102 true 181 103 (.ref 104) (.ref 105) (.ref 106) 318 20 319)
def j108(P:Pz):=(fo2 "halved_out" "halved_out" (top 10) 3 "spinboard.amounts" 305 107 0)
def j111(P:Pz):=(fo1 "plus" "plus" (top 11) 0 0)
def j112(P:Pz):=(cob "plus" 321 "plus" 322 323 27 2 0 0 3 109 true 181 110 .none .none (.ref 111) 324 27 325)
def j113(P:Pz):=(fo2 "plus" "plus" (top 11) 3 "spinboard.amounts" 305 112 0)
def j116(P:Pz):=tq #[(.str "one" 330),(.str "other" 331)]
def j118(P:Pz):=(fo1 "minus" "minus" (top 12) 0 0)
def j119(P:Pz):=(cob "minus" 327 "minus" 328 329 33 2 0 0 3 114 true 181 115 (.ref 116) (.ref 117) (.ref 118) 332 33 333)
def j120(P:Pz):=(fo2 "minus" "minus" (top 12) 3 "spinboard.amounts" 305 119 0)
def x6(P:Pz):List Obj:=[j28 P,j16 P,j78 P,tz,j80 P,j81 P,j82 P,tz,nf0,j85 P,tz,j87 P,j88 P,j89 P,j90 P,j91 P,j92 P,j93 P,j94 P,tz,nf0,j97 P,tz,j99 P,j100 P,j101 P,tz,nf0,j104 P,tz,j106 P,j107 P,j108 P,tz,nf0,j111 P,j112 P,j113 P,tz,nf0,j116 P,tz,j118 P,j119 P,j120 P]
def T6 (P:Pz):BT:=iF (iL (T5 P) [(3,j3_7 P),(12,W3r P),(24,W1i P)]) 76 (x6 P)
theorem g5 (p:U8)(b:W8)(w:W1)(os:OsState):segRunT treeTable p w 11 (some (.ref 6)) 1 385 (SharedT.mk (T5 w.params) 76 life (Array.mk []) (Drawn.mk 0 0 0 0) 271 os) (piecesOf l5 en (Code.body b en) (Pos.mk 10 0 11 8) BB)=some (Flow.next,(SharedT.mk (T6 w.params) 121 life (Array.mk []) (Drawn.mk 0 0 0 0) 335 os),Code.body b en,(Pos.mk 33 0 34 36)):=by rw[PySem.W.Fast.te10110043849684766642,PySem.W.Fast.te14364793385576792824];kernel_rfl
def y3_8(P:Pz):List DictEntry:=y3_7 P++[(dn P "spun" 344 (.ref 127)),(dn P "spun_once" 351 (.ref 134)),(dn P "rooted" 358 (.ref 141)),(dn P "ones" 369 (.ref 148)),(dn P "is_word" 377 (.ref 155)),(dn P "is_mark" 385 (.ref 162)),(dn P "is_even" 392 (.ref 169)),(dn P "is_even_mark" 400 (.ref 176)),(dn P "commute" 408 (.ref 183)),(dn P "product" 417 (.ref 190)),(dn P "turned_about" 424 (.ref 197)),(dn P "NOUGHT" 432 (.ref 198)),(dn P "ONE" 438 (.ref 199)),(dn P "MOST_CELLS" 440 (.int 6 439))]
def j3_8(P:Pz):=ob3 ((dn P "__name__" 165 (.str "spinboard.boards" 425))::y3_8 P) 33
def X9k(P:Pz):List Value:=X9l P++[(.int 35 0),(.int 0 0),(.ref 126),(.int 40 0),(.int 0 0),(.ref 133),(.int 42 0),(.int 0 0),(.ref 140),(.int 45 0),(.int 0 0),(.ref 147),(.int 52 0),(.int 0 0),(.ref 154),(.int 56 0),(.int 0 0),(.ref 161),(.int 62 0),(.int 0 0),(.ref 168),(.int 64 0),(.int 0 0),(.ref 175),(.int 66 0),(.int 0 0),(.ref 182),(.int 68 0),(.int 0 0),(.ref 189),(.int 71 0),(.int 0 0),(.ref 196)]
def W3q(P:Pz):=ob12 (X9k P)
def j123(P:Pz):=tq #[(.str "one" 338),(.str "k" 339),(.str "turning" 340),(.str "step" 341)]
def j125(P:Pz):=(fo1 "spun" "spun" (top 13) 0 0)
def j126(P:Pz):=(cob "spun" 335 "spun" 336 337 35 2 0 0 3 121 true 181 122 (.ref 123) (.ref 124) (.ref 125) 342 35 343)
def j127(P:Pz):=(fo2 "spun" "spun" (top 13) 3 "spinboard.amounts" 305 126 0)
def j130(P:Pz):=tq #[(.str "one" 348)]
def j132(P:Pz):=(fo1 "spun_once" "spun_once" (top 14) 0 0)
def j133(P:Pz):=(cob "spun_once" 345 "spun_once" 346 347 40 1 0 0 3 128 true 181 129 (.ref 130) (.ref 131) (.ref 132) 349 40 350)
def j134(P:Pz):=(fo2 "spun_once" "spun_once" (top 14) 3 "spinboard.amounts" 305 133 0)
def j137(P:Pz):=tq #[(.str "one" 355)]
def j139(P:Pz):=(fo1 "rooted" "rooted" (top 15) 0 0)
def j140(P:Pz):=(cob "rooted" 352 "rooted" 353 354 42 1 0 0 3 135 true 181 136 (.ref 137) (.ref 138) (.ref 139) 356 42 357)
def j141(P:Pz):=(fo2 "rooted" "rooted" (top 15) 3 "spinboard.amounts" 305 140 0)
def j144(P:Pz):=tq #[(.str "number" 364),(.str "many" 365),(.str "rest" 366)]
def j146(P:Pz):=(fo1 "ones" "ones" (top 17) 0 0)
def j147(P:Pz):=(cob "ones" 361 "ones" 362 363 45 1 0 0 3 142 true 181 143 (.ref 144) (.ref 145) (.ref 146) 367 45 368)
def j148(P:Pz):=(fo2 "ones" "ones" (top 17) 3 "spinboard.marks" 359 147 0)
def j151(P:Pz):=tq #[(.str "thing" 373),(.str "cells" 374)]
def j153(P:Pz):=(fo1 "is_word" "is_word" (top 18) 0 0)
def j154(P:Pz):=(cob "is_word" 370 "is_word" 371 372 52 2 0 0 3 149 true 181 150 (.ref 151) (.ref 152) (.ref 153) 375 52 376)
def j155(P:Pz):=(fo2 "is_word" "is_word" (top 18) 3 "spinboard.marks" 359 154 0)
def j158(P:Pz):=tq #[(.str "thing" 381),(.str "cells" 382)]
def j160(P:Pz):=(fo1 "is_mark" "is_mark" (top 19) 0 0)
def j161(P:Pz):=(cob "is_mark" 378 "is_mark" 379 380 56 2 0 0 3 156 true 181 157 (.ref 158) (.ref 159) (.ref 160) 383 56 384)
def j162(P:Pz):=(fo2 "is_mark" "is_mark" (top 19) 3 "spinboard.marks" 359 161 0)
def j165(P:Pz):=tq #[(.str "mark" 389)]
def j167(P:Pz):=(fo1 "is_even" "is_even" (top 20) 0 0)
def j168(P:Pz):=(cob "is_even" 386 "is_even" 387 388 62 1 0 0 3 163 true 181 164 (.ref 165) (.ref 166) (.ref 167) 390 62 391)
def j169(P:Pz):=(fo2 "is_even" "is_even" (top 20) 3 "spinboard.marks" 359 168 0)
def j172(P:Pz):=tq #[(.str "thing" 396),(.str "cells" 397)]
def j174(P:Pz):=(fo1 "is_even_mark" "is_even_mark" (top 21) 0 0)
def j175(P:Pz):=(cob "is_even_mark" 393 "is_even_mark" 394 395 64 2 0 0 3 170 true 181 171 (.ref 172) (.ref 173) (.ref 174) 398 64 399)
def j176(P:Pz):=(fo2 "is_even_mark" "is_even_mark" (top 21) 3 "spinboard.marks" 359 175 0)
def j179(P:Pz):=tq #[(.str "one" 404),(.str "other" 405)]
def j181(P:Pz):=(fo1 "commute" "commute" (top 22) 0 0)
def j182(P:Pz):=(cob "commute" 401 "commute" 402 403 66 2 0 0 3 177 true 181 178 (.ref 179) (.ref 180) (.ref 181) 406 66 407)
def j183(P:Pz):=(fo2 "commute" "commute" (top 22) 3 "spinboard.marks" 359 182 0)
def j186(P:Pz):=tq #[(.str "one" 412),(.str "other" 413),(.str "met" 414)]
def j188(P:Pz):=(fo1 "product" "product" (top 23) 0 0)
def j189(P:Pz):=(cob "product" 409 "product" 410 411 68 2 0 0 3 184 true 181 185 (.ref 186) (.ref 187) (.ref 188) 415 68 416)
def j190(P:Pz):=(fo2 "product" "product" (top 23) 3 "spinboard.marks" 359 189 0)
def j193(P:Pz):=tq #[(.str "mark" 421)]
def j195(P:Pz):=(fo1 "turned_about" "turned_about" (top 24) 0 0)
def j196(P:Pz):=(cob "turned_about" 418 "turned_about" 419 420 71 1 0 0 3 191 true 181 192 (.ref 193) (.ref 194) (.ref 195) 422 71 423)
def j197(P:Pz):=(fo2 "turned_about" "turned_about" (top 24) 3 "spinboard.marks" 359 196 0)
def j198(P:Pz):=tq #[(.int 0 427),(.int 0 428),(.int 0 429),(.int 0 430),(.int 0 431)]
def j199(P:Pz):=tq #[(.int 1 433),(.int 0 434),(.int 0 435),(.int 0 436),(.int 0 437)]
def x7(P:Pz):List Obj:=[tz,nf0,j123 P,tz,j125 P,j126 P,j127 P,tz,nf0,j130 P,tz,j132 P,j133 P,j134 P,tz,nf0,j137 P,tz,j139 P,j140 P,j141 P,tz,nf0,j144 P,tz,j146 P,j147 P,j148 P,tz,nf0,j151 P,tz,j153 P,j154 P,j155 P,tz,nf0,j158 P,tz,j160 P,j161 P,j162 P,tz,nf0,j165 P,tz,j167 P,j168 P,j169 P,tz,nf0,j172 P,tz,j174 P,j175 P,j176 P,tz,nf0,j179 P,tz,j181 P,j182 P,j183 P,tz,nf0,j186 P,tz,j188 P,j189 P,j190 P,tz,nf0,j193 P,tz,j195 P,j196 P,j197 P,j198 P,j199 P]
def T7 (P:Pz):BT:=iF (iL (T6 P) [(3,j3_8 P),(12,W3q P)]) 121 (x7 P)
theorem g6 (p:U8)(b:W8)(w:W1)(os:OsState):segRunT treeTable p w 11 (some (.ref 6)) 1 388 (SharedT.mk (T6 w.params) 121 life (Array.mk []) (Drawn.mk 0 0 0 0) 335 os) (piecesOf l6 en (Code.body b en) (Pos.mk 33 0 34 36) BB)=some (Flow.next,(SharedT.mk (T7 w.params) 200 life (Array.mk []) (Drawn.mk 0 0 0 0) 441 os),Code.body b en,(Pos.mk 76 0 76 10)):=by rw[PySem.W.Fast.te10110043849684766642,PySem.W.Fast.te14364793385576792824];kernel_rfl
def y3_9(P:Pz):List DictEntry:=y3_8 P++[(dn P "start" 447 (.ref 205)),(dn P "check_beginning" 455 (.ref 212)),(dn P "cells_of" 462 (.ref 219)),(dn P "solved" 475 (.ref 226)),(dn P "cleared" 485 (.ref 233)),(dn P "places_at_one" 491 (.ref 238)),(dn P "solution" 501 (.ref 245)),(dn P "PRODUCT_OF_NONE" 507 (.ref 246)),(dn P "FIRST_SIGN_LEAD" 509 (.int 6 508)),(dn P "is_table" 515 (.ref 251)),(dn P "commutes_with_all" 521 (.ref 256)),(dn P "check_table" 529 (.ref 263)),(dn P "reduced" 535 (.ref 268)),(dn P "without_lead" 543 (.ref 275))]
def j3_9(P:Pz):=ob3 ((dn P "__name__" 165 (.str "spinboard.tables" 502))::y3_9 P) 47
def X9j(P:Pz):List Value:=X9k P++[(.int 77 0),(.int 0 0),(.ref 204),(.int 80 0),(.int 0 0),(.ref 211),(.int 85 0),(.int 0 0),(.ref 218),(.int 88 0),(.int 0 0),(.ref 225),(.int 97 0),(.int 0 0),(.ref 232),(.int 103 0),(.int 0 0),(.ref 237),(.int 105 0),(.int 0 0),(.ref 244),(.int 115 0),(.int 0 0),(.ref 250),(.int 123 0),(.int 0 0),(.ref 255),(.int 125 0),(.int 0 0),(.ref 262),(.int 128 0),(.int 0 0),(.ref 267),(.int 137 0),(.int 0 0),(.ref 274)]
def W3p(P:Pz):=ob12 (X9j P)
def j200(P:Pz):=tq #[(.int 0 441)]
def j203(P:Pz):=(fo1 "start" "start" (top 29) 0 0)
def j204(P:Pz):=(cob "start" 442 "start" 443 444 77 2 0 0 3 201 true 181 202 .none .none (.ref 203) 445 77 446)
noncomputable def j205(P:Pz):=Obj.mk (.type "function") none (Data.func (FuncData.mk "start" "start" (Z1m (top 29)) (FuncBody.stmts (Z1h (top 29))) (Z0i (top 29)) 3 [] (.ref 200) .none .none (.str "spinboard.boards" 425) none (.ref 204) .none 0)) #[]
def j208(P:Pz):=tq #[(.str "cells" 451),(.str "word" 452)]
def j210(P:Pz):=(fo1 "check_beginning" "check_beginning" (top 30) 0 0)
def j211(P:Pz):=(cob "check_beginning" 448 "check_beginning" 449 450 80 2 0 0 3 206 true 181 207 (.ref 208) (.ref 209) (.ref 210) 453 80 454)
def j212(P:Pz):=(fo2 "check_beginning" "check_beginning" (top 30) 3 "spinboard.boards" 425 211 0)
def j215(P:Pz):=tq #[(.str "board" 459)]
def j217(P:Pz):=(fo1 "cells_of" "cells_of" (top 31) 0 0)
def j218(P:Pz):=(cob "cells_of" 456 "cells_of" 457 458 85 1 0 0 3 213 true 181 214 (.ref 215) (.ref 216) (.ref 217) 460 85 461)
def j219(P:Pz):=(fo2 "cells_of" "cells_of" (top 31) 3 "spinboard.boards" 425 218 0)
def j222(P:Pz):=tq #[(.str "equations" 468),(.str "kept" 469),(.str "place" 470),(.str "equation" 471),(.str "left" 472)]
def j224(P:Pz):=(fo1 "solved" "solved" (top 33) 0 0)
def j225(P:Pz):=(cob "solved" 465 "solved" 466 467 88 1 0 0 3 220 true 181 221 (.ref 222) (.ref 223) (.ref 224) 473 88 474)
def j226(P:Pz):=(fo2 "solved" "solved" (top 33) 3 "spinboard.bits" 463 225 0)
def j229(P:Pz):=tq #[(.str "equation" 479),(.str "kept" 480),(.str "left" 481),(.str "other" 482)]
def j231(P:Pz):=(fo1 "cleared" "cleared" (top 34) 0 0)
def j232(P:Pz):=(cob "cleared" 476 "cleared" 477 478 97 2 0 0 3 227 true 181 228 (.ref 229) (.ref 230) (.ref 231) 483 97 484)
def j233(P:Pz):=(fo2 "cleared" "cleared" (top 34) 3 "spinboard.bits" 463 232 0)
def j236(P:Pz):=(fo1 "places_at_one" "places_at_one" (top 35) 0 0)
def j237(P:Pz):=(cob "places_at_one" 486 "places_at_one" 487 488 103 1 0 0 3 234 true 181 235 .none .none (.ref 236) 489 103 490)
def j238(P:Pz):=(fo2 "places_at_one" "places_at_one" (top 35) 3 "spinboard.bits" 463 237 0)
def j241(P:Pz):=tq #[(.str "kept" 495),(.str "x" 496),(.str "height" 497),(.str "equation" 498)]
def j243(P:Pz):=(fo1 "solution" "solution" (top 36) 0 0)
def j244(P:Pz):=(cob "solution" 492 "solution" 493 494 105 1 0 0 3 239 true 181 240 (.ref 241) (.ref 242) (.ref 243) 499 105 500)
def j245(P:Pz):=(fo2 "solution" "solution" (top 36) 3 "spinboard.bits" 463 244 0)
def j246(P:Pz):=tq #[(.int 0 504),(.int 0 505),(.int 0 506)]
def j249(P:Pz):=(fo1 "is_table" "is_table" (top 40) 0 0)
def j250(P:Pz):=(cob "is_table" 510 "is_table" 511 512 115 2 0 0 3 247 true 181 248 .none .none (.ref 249) 513 115 514)
def j251(P:Pz):=(fo2 "is_table" "is_table" (top 40) 3 "spinboard.tables" 502 250 0)
def j254(P:Pz):=(fo1 "commutes_with_all" "commutes_with_all" (top 41) 0 0)
def j255(P:Pz):=(cob "commutes_with_all" 516 "commutes_with_all" 517 518 123 2 0 0 3 252 true 181 253 .none .none (.ref 254) 519 123 520)
def j256(P:Pz):=(fo2 "commutes_with_all" "commutes_with_all" (top 41) 3 "spinboard.tables" 502 255 0)
def j259(P:Pz):=tq #[(.str "rows" 525),(.str "cells" 526)]
def j261(P:Pz):=(fo1 "check_table" "check_table" (top 42) 0 0)
def j262(P:Pz):=(cob "check_table" 522 "check_table" 523 524 125 2 0 0 3 257 true 181 258 (.ref 259) (.ref 260) (.ref 261) 527 125 528)
def j263(P:Pz):=(fo2 "check_table" "check_table" (top 42) 3 "spinboard.tables" 502 262 0)
def j266(P:Pz):=(fo1 "reduced" "reduced" (top 43) 0 0)
def j267(P:Pz):=(cob "reduced" 530 "reduced" 531 532 128 2 0 0 3 264 true 181 265 .none .none (.ref 266) 533 128 534)
def j268(P:Pz):=(fo2 "reduced" "reduced" (top 43) 3 "spinboard.tables" 502 267 0)
def j271(P:Pz):=tq #[(.str "mark" 539),(.str "row" 540)]
def j273(P:Pz):=(fo1 "without_lead" "without_lead" (top 44) 0 0)
def j274(P:Pz):=(cob "without_lead" 536 "without_lead" 537 538 137 2 0 0 3 269 true 181 270 (.ref 271) (.ref 272) (.ref 273) 541 137 542)
def j275(P:Pz):=(fo2 "without_lead" "without_lead" (top 44) 3 "spinboard.tables" 502 274 0)
def x8(P:Pz):List Obj:=[j200 P,tz,nf0,j203 P,j204 P,j205 P,tz,nf0,j208 P,tz,j210 P,j211 P,j212 P,tz,nf0,j215 P,tz,j217 P,j218 P,j219 P,tz,nf0,j222 P,tz,j224 P,j225 P,j226 P,tz,nf0,j229 P,tz,j231 P,j232 P,j233 P,tz,nf0,j236 P,j237 P,j238 P,tz,nf0,j241 P,tz,j243 P,j244 P,j245 P,j246 P,tz,nf0,j249 P,j250 P,j251 P,tz,nf0,j254 P,j255 P,j256 P,tz,nf0,j259 P,tz,j261 P,j262 P,j263 P,tz,nf0,j266 P,j267 P,j268 P,tz,nf0,j271 P,tz,j273 P,j274 P,j275 P]
def T8 (P:Pz):BT:=iF (iL (T7 P) [(3,j3_9 P),(12,W3p P)]) 200 (x8 P)
theorem g7 (p:U8)(b:W8)(w:W1)(os:OsState):segRunT treeTable p w 11 (some (.ref 6)) 1 389 (SharedT.mk (T7 w.params) 200 life (Array.mk []) (Drawn.mk 0 0 0 0) 441 os) (piecesOf l7 en (Code.body b en) (Pos.mk 76 0 76 10) BB)=some (Flow.next,(SharedT.mk (T8 w.params) 276 life (Array.mk []) (Drawn.mk 0 0 0 0) 544 os),Code.body b en,(Pos.mk 137 0 138 71)):=by rw[PySem.W.Fast.te10110043849684766642,PySem.W.Fast.te14364793385576792824];kernel_rfl
def X9i(P:Pz):List DictEntry:=y3_9 P++[(dn P "lead" 550 (.ref 282)),(dn P "least_cell" 557 (.ref 289)),(dn P "has_at_lead" 565 (.ref 296)),(dn P "made_of" 571 (.ref 301)),(dn P "rows_with" 577 (.ref 306)),(dn P "product_of" 586 (.ref 313)),(dn P "apart_by" 592 (.ref 318)),(dn P "keepers" 605 (.ref 325)),(dn P "keepers_with" 611 (.ref 330)),(dn P "spins_on" 617 (.ref 335)),(dn P "has_spins" 627 (.ref 342))]
def W3j(P:Pz):=ob3 ((dn P "__name__" 165 (.str "spinboard.moves" 628))::X9i P) 58
def X4f(P:Pz):List Value:=X9j P++[(.int 139 0),(.int 0 0),(.ref 281),(.int 143 0),(.int 0 0),(.ref 288),(.int 145 0),(.int 0 0),(.ref 295),(.int 149 0),(.int 0 0),(.ref 300),(.int 158 0),(.int 0 0),(.ref 305),(.int 160 0),(.int 0 0),(.ref 312),(.int 165 0),(.int 0 0),(.ref 317),(.int 170 0),(.int 0 0),(.ref 324),(.int 178 0),(.int 0 0),(.ref 329),(.int 185 0),(.int 0 0),(.ref 334),(.int 194 0),(.int 0 0),(.ref 341)]
def W1m(P:Pz):=ob12 (X4f P)
def j278(P:Pz):=tq #[(.str "mark" 547)]
def j280(P:Pz):=(fo1 "lead" "lead" (top 45) 0 0)
def j281(P:Pz):=(cob "lead" 544 "lead" 545 546 139 1 0 0 3 276 true 181 277 (.ref 278) (.ref 279) (.ref 280) 548 139 549)
def j282(P:Pz):=(fo2 "lead" "lead" (top 45) 3 "spinboard.tables" 502 281 0)
def j285(P:Pz):=tq #[(.str "word" 554)]
def j287(P:Pz):=(fo1 "least_cell" "least_cell" (top 46) 0 0)
def j288(P:Pz):=(cob "least_cell" 551 "least_cell" 552 553 143 1 0 0 3 283 true 181 284 (.ref 285) (.ref 286) (.ref 287) 555 143 556)
def j289(P:Pz):=(fo2 "least_cell" "least_cell" (top 46) 3 "spinboard.tables" 502 288 0)
def j292(P:Pz):=tq #[(.str "mark" 561),(.str "place" 562)]
def j294(P:Pz):=(fo1 "has_at_lead" "has_at_lead" (top 47) 0 0)
def j295(P:Pz):=(cob "has_at_lead" 558 "has_at_lead" 559 560 145 2 0 0 3 290 true 181 291 (.ref 292) (.ref 293) (.ref 294) 563 145 564)
def j296(P:Pz):=(fo2 "has_at_lead" "has_at_lead" (top 47) 3 "spinboard.tables" 502 295 0)
def j299(P:Pz):=(fo1 "made_of" "made_of" (top 48) 0 0)
def j300(P:Pz):=(cob "made_of" 566 "made_of" 567 568 149 3 0 0 3 297 true 181 298 .none .none (.ref 299) 569 149 570)
def j301(P:Pz):=(fo2 "made_of" "made_of" (top 48) 3 "spinboard.tables" 502 300 0)
def j304(P:Pz):=(fo1 "rows_with" "rows_with" (top 49) 0 0)
def j305(P:Pz):=(cob "rows_with" 572 "rows_with" 573 574 158 3 0 0 3 302 true 181 303 .none .none (.ref 304) 575 158 576)
def j306(P:Pz):=(fo2 "rows_with" "rows_with" (top 49) 3 "spinboard.tables" 502 305 0)
def j309(P:Pz):=tq #[(.str "marks" 581),(.str "made" 582),(.str "mark" 583)]
def j311(P:Pz):=(fo1 "product_of" "product_of" (top 50) 0 0)
def j312(P:Pz):=(cob "product_of" 578 "product_of" 579 580 160 1 0 0 3 307 true 181 308 (.ref 309) (.ref 310) (.ref 311) 584 160 585)
def j313(P:Pz):=(fo2 "product_of" "product_of" (top 50) 3 "spinboard.tables" 502 312 0)
def j316(P:Pz):=(fo1 "apart_by" "apart_by" (top 51) 0 0)
def j317(P:Pz):=(cob "apart_by" 587 "apart_by" 588 589 165 2 0 0 3 314 true 181 315 .none .none (.ref 316) 590 165 591)
def j318(P:Pz):=(fo2 "apart_by" "apart_by" (top 51) 3 "spinboard.tables" 502 317 0)
def j321(P:Pz):=tq #[(.str "board" 598),(.str "cells" 599),(.str "rows" 600),(.str "flips" 601),(.str "mark" 602)]
def j323(P:Pz):=(fo1 "keepers" "keepers" (top 53) 0 0)
def j324(P:Pz):=(cob "keepers" 595 "keepers" 596 597 170 1 0 0 3 319 true 181 320 (.ref 321) (.ref 322) (.ref 323) 603 170 604)
def j325(P:Pz):=(fo2 "keepers" "keepers" (top 53) 3 "spinboard.spreads" 593 324 0)
def j328(P:Pz):=(fo1 "keepers_with" "keepers_with" (top 54) 0 0)
def j329(P:Pz):=(cob "keepers_with" 606 "keepers_with" 607 608 178 2 0 0 3 326 true 181 327 .none .none (.ref 328) 609 178 610)
def j330(P:Pz):=(fo2 "keepers_with" "keepers_with" (top 54) 3 "spinboard.spreads" 593 329 0)
def j333(P:Pz):=(fo1 "spins_on" "spins_on" (top 55) 0 0)
def j334(P:Pz):=(cob "spins_on" 612 "spins_on" 613 614 185 2 0 0 3 331 true 181 332 .none .none (.ref 333) 615 185 616)
def j335(P:Pz):=(fo2 "spins_on" "spins_on" (top 55) 3 "spinboard.spreads" 593 334 0)
def j338(P:Pz):=tq #[(.str "mark" 621),(.str "spins" 622),(.str "word" 623),(.str "k" 624)]
def j340(P:Pz):=(fo1 "has_spins" "has_spins" (top 56) 0 0)
def j341(P:Pz):=(cob "has_spins" 618 "has_spins" 619 620 194 2 0 0 3 336 true 181 337 (.ref 338) (.ref 339) (.ref 340) 625 194 626)
def j342(P:Pz):=(fo2 "has_spins" "has_spins" (top 56) 3 "spinboard.spreads" 593 341 0)
def x9(P:Pz):List Obj:=[tz,nf0,j278 P,tz,j280 P,j281 P,j282 P,tz,nf0,j285 P,tz,j287 P,j288 P,j289 P,tz,nf0,j292 P,tz,j294 P,j295 P,j296 P,tz,nf0,j299 P,j300 P,j301 P,tz,nf0,j304 P,j305 P,j306 P,tz,nf0,j309 P,tz,j311 P,j312 P,j313 P,tz,nf0,j316 P,j317 P,j318 P,tz,nf0,j321 P,tz,j323 P,j324 P,j325 P,tz,nf0,j328 P,j329 P,j330 P,tz,nf0,j333 P,j334 P,j335 P,tz,nf0,j338 P,tz,j340 P,j341 P,j342 P]
def T9 (P:Pz):BT:=iF (iL (T8 P) [(3,W3j P),(12,W1m P)]) 276 (x9 P)
theorem g8 (p:U8)(b:W8)(w:W1)(os:OsState):segRunT treeTable p w 11 (some (.ref 6)) 1 333 (SharedT.mk (T8 w.params) 276 life (Array.mk []) (Drawn.mk 0 0 0 0) 544 os) (piecesOf l8 en (Code.body b en) (Pos.mk 137 0 138 71) BB)=some (Flow.next,(SharedT.mk (T9 w.params) 343 life (Array.mk []) (Drawn.mk 0 0 0 0) 630 os),Code.body b en,(Pos.mk 199 0 199 8)):=by rw[PySem.W.Fast.te10110043849684766642,PySem.W.Fast.te14364793385576792824];kernel_rfl
def X9h(P:Pz):List DictEntry:=X9i P++[(dn P "NUMBERS_BEHIND" 651 (.ref 343)),(dn P "check_move" 657 (.ref 348)),(dn P "has_move_form" 663 (.ref 353)),(dn P "named_cells" 670 (.ref 360)),(dn P "turned" 676 (.ref 365)),(dn P "mixed" 682 (.ref 370)),(dn P "mixed_at" 691 (.ref 377)),(dn P "spun_where" 697 (.ref 382)),(dn P "word_behind" 703 (.ref 387)),(dn P "exchanged" 713 (.ref 394))]
def W3i(P:Pz):=ob3 ((dn P "__name__" 165 (.str "spinboard.rows" 714))::X9h P) 68
def X4e(P:Pz):List Value:=X4f P++[(.int 201 0),(.int 0 0),(.ref 347),(.int 210 0),(.int 0 0),(.ref 352),(.int 220 0),(.int 0 0),(.ref 359),(.int 222 0),(.int 0 0),(.ref 364),(.int 231 0),(.int 0 0),(.ref 369),(.int 233 0),(.int 0 0),(.ref 376),(.int 237 0),(.int 0 0),(.ref 381),(.int 239 0),(.int 0 0),(.ref 386),(.int 250 0),(.int 0 0),(.ref 393)]
def W1l(P:Pz):=ob12 (X4e P)
def j343(P:Pz):=ob3 [(dn P "flip" 630 (.int 1 631)),(dn P "mix" 632 (.int 1 633)),(dn P "turn" 634 (.int 2 635)),(dn P "if" 636 (.int 2 637)),(dn P "pair" 638 (.int 2 639)),(dn P "swap" 640 (.int 2 641)),(dn P "cross" 642 (.int 3 643))] 7
def j346(P:Pz):=(fo1 "check_move" "check_move" (top 59) 0 0)
def j347(P:Pz):=(cob "check_move" 652 "check_move" 653 654 201 2 0 0 3 344 true 181 345 .none .none (.ref 346) 655 201 656)
def j348(P:Pz):=(fo2 "check_move" "check_move" (top 59) 3 "spinboard.moves" 628 347 0)
def j351(P:Pz):=(fo1 "has_move_form" "has_move_form" (top 60) 0 0)
def j352(P:Pz):=(cob "has_move_form" 658 "has_move_form" 659 660 210 1 0 0 3 349 true 181 350 .none .none (.ref 351) 661 210 662)
def j353(P:Pz):=(fo2 "has_move_form" "has_move_form" (top 60) 3 "spinboard.moves" 628 352 0)
def j356(P:Pz):=tq #[(.str "move" 667)]
noncomputable def j358(P:Pz):=Obj.mk .none none (Data.func (FuncData.mk "named_cells" "named_cells" (Z1m (top 61)) (FuncBody.stmts (Z1h (top 61))) (Z0i (top 73)) 0 [] .none .none .none .none none .none .none 0)) #[]
def j359(P:Pz):=(cob "named_cells" 664 "named_cells" 665 666 220 1 0 0 3 354 true 181 355 (.ref 356) (.ref 357) (.ref 358) 668 220 669)
noncomputable def j360(P:Pz):=Obj.mk (.type "function") none (Data.func (FuncData.mk "named_cells" "named_cells" (Z1m (top 61)) (FuncBody.stmts (Z1h (top 61))) (Z0i (top 73)) 3 [] .none .none .none (.str "spinboard.moves" 628) none (.ref 359) .none 0)) #[]
def j363(P:Pz):=(fo1 "turned" "turned" (top 62) 0 0)
def j364(P:Pz):=(cob "turned" 671 "turned" 672 673 222 2 0 0 3 361 true 181 362 .none .none (.ref 363) 674 222 675)
def j365(P:Pz):=(fo2 "turned" "turned" (top 62) 3 "spinboard.moves" 628 364 0)
def j368(P:Pz):=(fo1 "mixed" "mixed" (top 63) 0 0)
def j369(P:Pz):=(cob "mixed" 677 "mixed" 678 679 231 2 0 0 3 366 true 181 367 .none .none (.ref 368) 680 231 681)
def j370(P:Pz):=(fo2 "mixed" "mixed" (top 63) 3 "spinboard.moves" 628 369 0)
def j373(P:Pz):=tq #[(.str "board" 686),(.str "word" 687),(.str "bit" 688)]
def j375(P:Pz):=(fo1 "mixed_at" "mixed_at" (top 64) 0 0)
def j376(P:Pz):=(cob "mixed_at" 683 "mixed_at" 684 685 233 3 0 0 3 371 true 181 372 (.ref 373) (.ref 374) (.ref 375) 689 233 690)
def j377(P:Pz):=(fo2 "mixed_at" "mixed_at" (top 64) 3 "spinboard.moves" 628 376 0)
def j380(P:Pz):=(fo1 "spun_where" "spun_where" (top 65) 0 0)
def j381(P:Pz):=(cob "spun_where" 692 "spun_where" 693 694 237 3 0 0 3 378 true 181 379 .none .none (.ref 380) 695 237 696)
def j382(P:Pz):=(fo2 "spun_where" "spun_where" (top 65) 3 "spinboard.moves" 628 381 0)
def j385(P:Pz):=(fo1 "word_behind" "word_behind" (top 66) 0 0)
def j386(P:Pz):=(cob "word_behind" 698 "word_behind" 699 700 239 2 0 0 3 383 true 181 384 .none .none (.ref 385) 701 239 702)
def j387(P:Pz):=(fo2 "word_behind" "word_behind" (top 66) 3 "spinboard.moves" 628 386 0)
def j390(P:Pz):=tq #[(.str "word" 707),(.str "bit" 708),(.str "other" 709),(.str "both" 710)]
def j392(P:Pz):=(fo1 "exchanged" "exchanged" (top 67) 0 0)
def j393(P:Pz):=(cob "exchanged" 704 "exchanged" 705 706 250 3 0 0 3 388 true 181 389 (.ref 390) (.ref 391) (.ref 392) 711 250 712)
def j394(P:Pz):=(fo2 "exchanged" "exchanged" (top 67) 3 "spinboard.moves" 628 393 0)
def x10(P:Pz):List Obj:=[j343 P,tz,nf0,j346 P,j347 P,j348 P,tz,nf0,j351 P,j352 P,j353 P,tz,nf0,j356 P,tz,j358 P,j359 P,j360 P,tz,nf0,j363 P,j364 P,j365 P,tz,nf0,j368 P,j369 P,j370 P,tz,nf0,j373 P,tz,j375 P,j376 P,j377 P,tz,nf0,j380 P,j381 P,j382 P,tz,nf0,j385 P,j386 P,j387 P,tz,nf0,j390 P,tz,j392 P,j393 P,j394 P]
def T10 (P:Pz):BT:=iF (iL (T9 P) [(3,W3i P),(12,W1l P)]) 343 (x10 P)
theorem g9 (p:U8)(b:W8)(w:W1)(os:OsState):segRunT treeTable p w 11 (some (.ref 6)) 1 373 (SharedT.mk (T9 w.params) 343 life (Array.mk []) (Drawn.mk 0 0 0 0) 630 os) (piecesOf l9 en (Code.body b en) (Pos.mk 199 0 199 8) BB)=some (Flow.next,(SharedT.mk (T10 w.params) 395 life (Array.mk []) (Drawn.mk 0 0 0 0) 716 os),Code.body b en,(Pos.mk 253 0 253 8)) :=
 (byRow2 "special-get-raises" (P:=λw=>(λw:World=>segRunT treeTable p w 11 (some (.ref 6)) 1 373 (SharedT.mk (T9 w.params) 343 life (Array.mk []) (Drawn.mk 0 0 0 0) 630 os) (piecesOf l9 en (Code.body b en) (Pos.mk 199 0 199 8) BB)=some (Flow.next,(SharedT.mk (T10 w.params) 395 life (Array.mk []) (Drawn.mk 0 0 0 0) 716 os),Code.body b en,(Pos.mk 253 0 253 8))) w) (λw=>by show (λw:World=>segRunT treeTable p w 11 (some (.ref 6)) 1 373 (SharedT.mk (T9 w.params) 343 life (Array.mk []) (Drawn.mk 0 0 0 0) 630 os) (piecesOf l9 en (Code.body b en) (Pos.mk 199 0 199 8) BB)=some (Flow.next,(SharedT.mk (T10 w.params) 395 life (Array.mk []) (Drawn.mk 0 0 0 0) 716 os),Code.body b en,(Pos.mk 253 0 253 8))) (World.withFollow w "special-get-raises" false);rw[PySem.W.Fast.te10110043849684766642,PySem.W.Fast.te14364793385576792824];kernel_rfl) (λw=>by show (λw:World=>segRunT treeTable p w 11 (some (.ref 6)) 1 373 (SharedT.mk (T9 w.params) 343 life (Array.mk []) (Drawn.mk 0 0 0 0) 630 os) (piecesOf l9 en (Code.body b en) (Pos.mk 199 0 199 8) BB)=some (Flow.next,(SharedT.mk (T10 w.params) 395 life (Array.mk []) (Drawn.mk 0 0 0 0) 716 os),Code.body b en,(Pos.mk 253 0 253 8))) (World.withFollow w "special-get-raises" true);rw[PySem.W.Fast.te10110043849684766642,PySem.W.Fast.te14364793385576792824];kernel_rfl)) w
def X9g(P:Pz):List DictEntry:=X9h P++[(dn P "run" 725 (.ref 401)),(dn P "borne" 736 (.ref 408)),(dn P "is_borne" 743 (.ref 415)),(dn P "is_odd_turn" 750 (.ref 422)),(dn P "moved_rows" 756 (.ref 427)),(dn P "check_borne" 764 (.ref 434)),(dn P "moved_through" 774 (.ref 441)),(dn P "moved_by" 784 (.ref 448)),(dn P "moved_by_mix" 795 (.ref 455)),(dn P "moved_by_turn" 805 (.ref 462)),(dn P "moved_by_if" 816 (.ref 469)),(dn P "moved_by_pair" 827 (.ref 476))]
def W3h(P:Pz):=ob3 ((dn P "__name__" 165 (.str "law_spinboard_k63_whole_keepers_go_with_the" 828))::X9g P) 80
def X4d(P:Pz):List Value:=X4e P++[(.int 254 0),(.int 0 0),(.ref 400),(.int 260 0),(.int 0 0),(.ref 407),(.int 265 0),(.int 0 0),(.ref 414),(.int 267 0),(.int 0 0),(.ref 421),(.int 269 0),(.int 0 0),(.ref 426),(.int 272 0),(.int 0 0),(.ref 433),(.int 276 0),(.int 0 0),(.ref 440),(.int 281 0),(.int 0 0),(.ref 447),(.int 295 0),(.int 0 0),(.ref 454),(.int 300 0),(.int 0 0),(.ref 461),(.int 305 0),(.int 0 0),(.ref 468),(.int 309 0),(.int 0 0),(.ref 475)]
def W1k(P:Pz):=ob12 (X4d P)
def j397(P:Pz):=tq #[(.str "board" 719),(.str "row" 720),(.str "behind" 721),(.str "move" 722)]
def j399(P:Pz):=(fo1 "run" "run" (top 69) 0 0)
def j400(P:Pz):=(cob "run" 716 "run" 717 718 254 2 0 0 3 395 true 181 396 (.ref 397) (.ref 398) (.ref 399) 723 254 724)
def j401(P:Pz):=(fo2 "run" "run" (top 69) 3 "spinboard.rows" 714 400 0)
def j404(P:Pz):=tq #[(.str "row" 731),(.str "place" 732),(.str "move" 733)]
def j406(P:Pz):=(fo1 "borne" "borne" (top 71) 0 0)
def j407(P:Pz):=(cob "borne" 728 "borne" 729 730 260 1 0 0 3 402 true 181 403 (.ref 404) (.ref 405) (.ref 406) 734 260 735)
def j408(P:Pz):=(fo2 "borne" "borne" (top 71) 3 "spinboard.tableturns" 726 407 0)
def j411(P:Pz):=tq #[(.str "move" 740)]
def j413(P:Pz):=(fo1 "is_borne" "is_borne" (top 72) 0 0)
def j414(P:Pz):=(cob "is_borne" 737 "is_borne" 738 739 265 1 0 0 3 409 true 181 410 (.ref 411) (.ref 412) (.ref 413) 741 265 742)
def j415(P:Pz):=(fo2 "is_borne" "is_borne" (top 72) 3 "spinboard.tableturns" 726 414 0)
def j418(P:Pz):=tq #[(.str "move" 747)]
def j420(P:Pz):=(fo1 "is_odd_turn" "is_odd_turn" (top 73) 0 0)
def j421(P:Pz):=(cob "is_odd_turn" 744 "is_odd_turn" 745 746 267 1 0 0 3 416 true 181 417 (.ref 418) (.ref 419) (.ref 420) 748 267 749)
def j422(P:Pz):=(fo2 "is_odd_turn" "is_odd_turn" (top 73) 3 "spinboard.tableturns" 726 421 0)
def j425(P:Pz):=(fo1 "moved_rows" "moved_rows" (top 74) 0 0)
def j426(P:Pz):=(cob "moved_rows" 751 "moved_rows" 752 753 269 2 0 0 3 423 true 181 424 .none .none (.ref 425) 754 269 755)
def j427(P:Pz):=(fo2 "moved_rows" "moved_rows" (top 74) 3 "spinboard.tableturns" 726 426 0)
def j430(P:Pz):=tq #[(.str "row" 760),(.str "place" 761)]
def j432(P:Pz):=(fo1 "check_borne" "check_borne" (top 75) 0 0)
def j433(P:Pz):=(cob "check_borne" 757 "check_borne" 758 759 272 1 0 0 3 428 true 181 429 (.ref 430) (.ref 431) (.ref 432) 762 272 763)
def j434(P:Pz):=(fo2 "check_borne" "check_borne" (top 75) 3 "spinboard.tableturns" 726 433 0)
def j437(P:Pz):=tq #[(.str "mark" 768),(.str "row" 769),(.str "behind" 770),(.str "move" 771)]
def j439(P:Pz):=(fo1 "moved_through" "moved_through" (top 76) 0 0)
def j440(P:Pz):=(cob "moved_through" 765 "moved_through" 766 767 276 2 0 0 3 435 true 181 436 (.ref 437) (.ref 438) (.ref 439) 772 276 773)
def j441(P:Pz):=(fo2 "moved_through" "moved_through" (top 76) 3 "spinboard.tableturns" 726 440 0)
def j444(P:Pz):=tq #[(.str "mark" 778),(.str "move" 779),(.str "bit" 780),(.str "other" 781)]
def j446(P:Pz):=(fo1 "moved_by" "moved_by" (top 77) 0 0)
def j447(P:Pz):=(cob "moved_by" 775 "moved_by" 776 777 281 2 0 0 3 442 true 181 443 (.ref 444) (.ref 445) (.ref 446) 782 281 783)
def j448(P:Pz):=(fo2 "moved_by" "moved_by" (top 77) 3 "spinboard.tableturns" 726 447 0)
def j451(P:Pz):=tq #[(.str "mark" 788),(.str "bit" 789),(.str "flips" 790),(.str "signs" 791),(.str "moved" 792)]
def j453(P:Pz):=(fo1 "moved_by_mix" "moved_by_mix" (top 78) 0 0)
def j454(P:Pz):=(cob "moved_by_mix" 785 "moved_by_mix" 786 787 295 2 0 0 3 449 true 181 450 (.ref 451) (.ref 452) (.ref 453) 793 295 794)
def j455(P:Pz):=(fo2 "moved_by_mix" "moved_by_mix" (top 78) 3 "spinboard.tableturns" 726 454 0)
def j458(P:Pz):=tq #[(.str "mark" 799),(.str "bit" 800),(.str "k" 801),(.str "signs" 802)]
def j460(P:Pz):=(fo1 "moved_by_turn" "moved_by_turn" (top 79) 0 0)
def j461(P:Pz):=(cob "moved_by_turn" 796 "moved_by_turn" 797 798 300 3 0 0 3 456 true 181 457 (.ref 458) (.ref 459) (.ref 460) 803 300 804)
def j462(P:Pz):=(fo2 "moved_by_turn" "moved_by_turn" (top 79) 3 "spinboard.tableturns" 726 461 0)
def j465(P:Pz):=tq #[(.str "mark" 809),(.str "bit" 810),(.str "other" 811),(.str "flips" 812),(.str "signs" 813)]
def j467(P:Pz):=(fo1 "moved_by_if" "moved_by_if" (top 80) 0 0)
def j468(P:Pz):=(cob "moved_by_if" 806 "moved_by_if" 807 808 305 3 0 0 3 463 true 181 464 (.ref 465) (.ref 466) (.ref 467) 814 305 815)
def j469(P:Pz):=(fo2 "moved_by_if" "moved_by_if" (top 80) 3 "spinboard.tableturns" 726 468 0)
def j472(P:Pz):=tq #[(.str "mark" 820),(.str "bit" 821),(.str "other" 822),(.str "signs" 823),(.str "moved" 824)]
def j474(P:Pz):=(fo1 "moved_by_pair" "moved_by_pair" (top 81) 0 0)
def j475(P:Pz):=(cob "moved_by_pair" 817 "moved_by_pair" 818 819 309 3 0 0 3 470 true 181 471 (.ref 472) (.ref 473) (.ref 474) 825 309 826)
def j476(P:Pz):=(fo2 "moved_by_pair" "moved_by_pair" (top 81) 3 "spinboard.tableturns" 726 475 0)
def x11(P:Pz):List Obj:=[tz,nf0,j397 P,tz,j399 P,j400 P,j401 P,tz,nf0,j404 P,tz,j406 P,j407 P,j408 P,tz,nf0,j411 P,tz,j413 P,j414 P,j415 P,tz,nf0,j418 P,tz,j420 P,j421 P,j422 P,tz,nf0,j425 P,j426 P,j427 P,tz,nf0,j430 P,tz,j432 P,j433 P,j434 P,tz,nf0,j437 P,tz,j439 P,j440 P,j441 P,tz,nf0,j444 P,tz,j446 P,j447 P,j448 P,tz,nf0,j451 P,tz,j453 P,j454 P,j455 P,tz,nf0,j458 P,tz,j460 P,j461 P,j462 P,tz,nf0,j465 P,tz,j467 P,j468 P,j469 P,tz,nf0,j472 P,tz,j474 P,j475 P,j476 P]
def T11 (P:Pz):BT:=iF (iL (T10 P) [(3,W3h P),(12,W1k P)]) 395 (x11 P)
theorem g10 (p:U8)(b:W8)(w:W1)(os:OsState):segRunT treeTable p w 11 (some (.ref 6)) 1 391 (SharedT.mk (T10 w.params) 395 life (Array.mk []) (Drawn.mk 0 0 0 0) 716 os) (piecesOf l10 en (Code.body b en) (Pos.mk 253 0 253 8) BB)=some (Flow.next,(SharedT.mk (T11 w.params) 477 life (Array.mk []) (Drawn.mk 0 0 0 0) 830 os),Code.body b en,(Pos.mk 317 0 317 8)):=by rw[PySem.W.Fast.te10110043849684766642,PySem.W.Fast.te14364793385576792824];kernel_rfl
def X9f(P:Pz):List DictEntry:=X9g P++[(dn P "_law_cell_at" 837 (.ref 483)),(dn P "_law_whole" 844 (.ref 490)),(dn P "_law_cells_by" 851 (.ref 497)),(dn P "_law_low" 857 (.ref 502)),(dn P "_law_spin" 871 (.ref 509)),(dn P "_law_amount_by" 883 (.ref 516)),(dn P "_law_board_by" 889 (.ref 521)),(dn P "_law_mark_by" 899 (.ref 528)),(dn P "_law_bits" 907 (.ref 535)),(dn P "_law_times" 920 (.ref 542)),(dn P "_law_move_by" 926 (.ref 547)),(dn P "_law_plain_row" 937 (.ref 554)),(dn P "_law_held_board" 943 (.ref 559))]
def W3g(P:Pz):=ob3 ((dn P "__name__" 165 (.str "law_spinboard_k63_whole_keepers_go_with_the" 828))::X9f P) 93
def X4c(P:Pz):List Value:=X4d P++[(.int 318 0),(.int 0 0),(.ref 482),(.int 322 0),(.int 0 0),(.ref 489),(.int 324 0),(.int 0 0),(.ref 496),(.int 328 0),(.int 0 0),(.ref 501),(.int 333 0),(.int 0 0),(.ref 508),(.int 338 0),(.int 0 0),(.ref 515),(.int 358 0),(.int 0 0),(.ref 520),(.int 365 0),(.int 0 0),(.ref 527),(.int 369 0),(.int 0 0),(.ref 534),(.int 375 0),(.int 0 0),(.ref 541),(.int 383 0),(.int 0 0),(.ref 546),(.int 399 0),(.int 0 0),(.ref 553),(.int 409 0),(.int 0 0),(.ref 558)]
def W1j(P:Pz):=ob12 (X4c P)
def j479(P:Pz):=tq #[(.str "_law_script" 833),(.str "_law_k" 834)]
def j481(P:Pz):=(fo1 "_law_cell_at" "_law_cell_at" (top 83) 0 0)
def j482(P:Pz):=(cob "_law_cell_at" 830 "_law_cell_at" 831 832 318 2 0 0 3 477 true 181 478 (.ref 479) (.ref 480) (.ref 481) 835 318 836)
def j483(P:Pz):=(fo2 "_law_cell_at" "_law_cell_at" (top 83) 3 "law_spinboard_k63_whole_keepers_go_with_the" 828 482 0)
def j486(P:Pz):=tq #[(.str "_law_found" 841)]
def j488(P:Pz):=(fo1 "_law_whole" "_law_whole" (top 84) 0 0)
def j489(P:Pz):=(cob "_law_whole" 838 "_law_whole" 839 840 322 1 0 0 3 484 true 181 485 (.ref 486) (.ref 487) (.ref 488) 842 322 843)
def j490(P:Pz):=(fo2 "_law_whole" "_law_whole" (top 84) 3 "law_spinboard_k63_whole_keepers_go_with_the" 828 489 0)
def j493(P:Pz):=tq #[(.str "_law_cell" 848)]
def j495(P:Pz):=(fo1 "_law_cells_by" "_law_cells_by" (top 85) 0 0)
def j496(P:Pz):=(cob "_law_cells_by" 845 "_law_cells_by" 846 847 324 1 0 0 3 491 true 181 492 (.ref 493) (.ref 494) (.ref 495) 849 324 850)
def j497(P:Pz):=(fo2 "_law_cells_by" "_law_cells_by" (top 85) 3 "law_spinboard_k63_whole_keepers_go_with_the" 828 496 0)
def j500(P:Pz):=(fo1 "_law_low" "_law_low" (top 86) 0 0)
def j501(P:Pz):=(cob "_law_low" 852 "_law_low" 853 854 328 2 0 0 3 498 true 181 499 .none .none (.ref 500) 855 328 856)
def j502(P:Pz):=(fo2 "_law_low" "_law_low" (top 86) 3 "law_spinboard_k63_whole_keepers_go_with_the" 828 501 0)
def j505(P:Pz):=tq #[(.str "_law_one" 861),(.str "_law_k" 862),(.str "_law_a" 863),(.str "_law_b" 864),(.str "_law_c" 865),(.str "_law_d" 866),(.str "_law_h" 867),(.str "_law_j" 868)]
def j507(P:Pz):=(fo1 "_law_spin" "_law_spin" (top 87) 0 0)
def j508(P:Pz):=(cob "_law_spin" 858 "_law_spin" 859 860 333 2 0 0 3 503 true 181 504 (.ref 505) (.ref 506) (.ref 507) 869 333 870)
def j509(P:Pz):=(fo2 "_law_spin" "_law_spin" (top 87) 3 "law_spinboard_k63_whole_keepers_go_with_the" 828 508 0)
def j512(P:Pz):=tq #[(.str "_law_cell" 875),(.str "_law_far" 876),(.str "_law_size" 877),(.str "_law_parts" 878),(.str "_law_k" 879),(.str "_law_half" 880)]
def j514(P:Pz):=(fo1 "_law_amount_by" "_law_amount_by" (top 88) 0 0)
def j515(P:Pz):=(cob "_law_amount_by" 872 "_law_amount_by" 873 874 338 1 0 0 3 510 true 181 511 (.ref 512) (.ref 513) (.ref 514) 881 338 882)
def j516(P:Pz):=(fo2 "_law_amount_by" "_law_amount_by" (top 88) 3 "law_spinboard_k63_whole_keepers_go_with_the" 828 515 0)
def j519(P:Pz):=(fo1 "_law_board_by" "_law_board_by" (top 89) 0 0)
def j520(P:Pz):=(cob "_law_board_by" 884 "_law_board_by" 885 886 358 3 0 0 3 517 true 181 518 .none .none (.ref 519) 887 358 888)
def j521(P:Pz):=(fo2 "_law_board_by" "_law_board_by" (top 89) 3 "law_spinboard_k63_whole_keepers_go_with_the" 828 520 0)
def j524(P:Pz):=tq #[(.str "_law_cell" 893),(.str "_law_cells" 894),(.str "_law_mixed_up" 895),(.str "_law_size" 896)]
def j526(P:Pz):=(fo1 "_law_mark_by" "_law_mark_by" (top 90) 0 0)
def j527(P:Pz):=(cob "_law_mark_by" 890 "_law_mark_by" 891 892 365 2 0 0 3 522 true 181 523 (.ref 524) (.ref 525) (.ref 526) 897 365 898)
def j528(P:Pz):=(fo2 "_law_mark_by" "_law_mark_by" (top 90) 3 "law_spinboard_k63_whole_keepers_go_with_the" 828 527 0)
def j531(P:Pz):=tq #[(.str "_law_number" 903),(.str "_law_many" 904)]
def j533(P:Pz):=(fo1 "_law_bits" "_law_bits" (top 91) 0 0)
def j534(P:Pz):=(cob "_law_bits" 900 "_law_bits" 901 902 369 1 0 0 3 529 true 181 530 (.ref 531) (.ref 532) (.ref 533) 905 369 906)
def j535(P:Pz):=(fo2 "_law_bits" "_law_bits" (top 91) 3 "law_spinboard_k63_whole_keepers_go_with_the" 828 534 0)
def j538(P:Pz):=tq #[(.str "_law_one" 911),(.str "_law_other" 912),(.str "_law_parts" 913),(.str "_law_j" 914),(.str "_law_k" 915),(.str "_law_at" 916),(.str "_law_sign" 917)]
def j540(P:Pz):=(fo1 "_law_times" "_law_times" (top 92) 0 0)
def j541(P:Pz):=(cob "_law_times" 908 "_law_times" 909 910 375 2 0 0 3 536 true 181 537 (.ref 538) (.ref 539) (.ref 540) 918 375 919)
def j542(P:Pz):=(fo2 "_law_times" "_law_times" (top 92) 3 "law_spinboard_k63_whole_keepers_go_with_the" 828 541 0)
def j545(P:Pz):=(fo1 "_law_move_by" "_law_move_by" (top 93) 0 0)
def j546(P:Pz):=(cob "_law_move_by" 921 "_law_move_by" 922 923 383 2 0 0 3 543 true 181 544 .none .none (.ref 545) 924 383 925)
def j547(P:Pz):=(fo2 "_law_move_by" "_law_move_by" (top 93) 3 "law_spinboard_k63_whole_keepers_go_with_the" 828 546 0)
def j550(P:Pz):=tq #[(.str "_law_numbers" 930),(.str "_law_cells" 931),(.str "_law_row" 932),(.str "_law_number" 933),(.str "_law_move" 934)]
def j552(P:Pz):=(fo1 "_law_plain_row" "_law_plain_row" (top 94) 0 0)
def j553(P:Pz):=(cob "_law_plain_row" 927 "_law_plain_row" 928 929 399 2 0 0 3 548 true 181 549 (.ref 550) (.ref 551) (.ref 552) 935 399 936)
def j554(P:Pz):=(fo2 "_law_plain_row" "_law_plain_row" (top 94) 3 "law_spinboard_k63_whole_keepers_go_with_the" 828 553 0)
def j557(P:Pz):=(fo1 "_law_held_board" "_law_held_board" (top 95) 0 0)
def j558(P:Pz):=(cob "_law_held_board" 938 "_law_held_board" 939 940 409 4 0 0 3 555 true 181 556 .none .none (.ref 557) 941 409 942)
def j559(P:Pz):=(fo2 "_law_held_board" "_law_held_board" (top 95) 3 "law_spinboard_k63_whole_keepers_go_with_the" 828 558 0)
def x12(P:Pz):List Obj:=[tz,nf0,j479 P,tz,j481 P,j482 P,j483 P,tz,nf0,j486 P,tz,j488 P,j489 P,j490 P,tz,nf0,j493 P,tz,j495 P,j496 P,j497 P,tz,nf0,j500 P,j501 P,j502 P,tz,nf0,j505 P,tz,j507 P,j508 P,j509 P,tz,nf0,j512 P,tz,j514 P,j515 P,j516 P,tz,nf0,j519 P,j520 P,j521 P,tz,nf0,j524 P,tz,j526 P,j527 P,j528 P,tz,nf0,j531 P,tz,j533 P,j534 P,j535 P,tz,nf0,j538 P,tz,j540 P,j541 P,j542 P,tz,nf0,j545 P,j546 P,j547 P,tz,nf0,j550 P,tz,j552 P,j553 P,j554 P,tz,nf0,j557 P,j558 P,j559 P]
def T12 (P:Pz):BT:=iF (iL (T11 P) [(3,W3g P),(12,W1j P)]) 477 (x12 P)
theorem g11 (p:U8)(b:W8)(w:W1)(os:OsState):segRunT treeTable p w 11 (some (.ref 6)) 1 393 (SharedT.mk (T11 w.params) 477 life (Array.mk []) (Drawn.mk 0 0 0 0) 830 os) (piecesOf l11 en (Code.body b en) (Pos.mk 317 0 317 8) BB)=some (Flow.next,(SharedT.mk (T12 w.params) 560 life (Array.mk []) (Drawn.mk 0 0 0 0) 944 os),Code.body b en,(Pos.mk 409 0 436 72)):=by rw[PySem.W.Fast.te10110043849684766642,PySem.W.Fast.te14364793385576792824];kernel_rfl
def W2q(P:Pz):List DictEntry:=X9f P++[(dn P "_law_keeps" 955 (.ref 566)),(dn P "_law_lead" 963 (.ref 573)),(dn P "_law_is_mark" 969 (.ref 578)),(dn P "_law_is_reduced" 975 (.ref 583)),(dn P "law" 981 (.ref 588))]
def W1h(P:Pz):=ob3 ((dn P "__name__" 165 (.str "law_spinboard_k63_whole_keepers_go_with_the" 828))::W2q P) 98
def X9r(P:Pz):List Value:=X4c P++[(.int 437 0),(.int 0 0),(.ref 565),(.int 443 0),(.int 0 0),(.ref 572),(.int 448 0),(.int 0 0),(.ref 577),(.int 454 0),(.int 0 0),(.ref 582),(.int 465 0),(.int 0 0),(.ref 587)]
def X5d(P:Pz):=ob12 (X9r P)
def j562(P:Pz):=tq #[(.str "_law_board" 947),(.str "_law_mark" 948),(.str "_law_q" 949),(.str "_law_f" 950),(.str "_law_s" 951),(.str "_law_word" 952)]
def j564(P:Pz):=(fo1 "_law_keeps" "_law_keeps" (top 96) 0 0)
def j565(P:Pz):=(cob "_law_keeps" 944 "_law_keeps" 945 946 437 2 0 0 3 560 true 181 561 (.ref 562) (.ref 563) (.ref 564) 953 437 954)
def j566(P:Pz):=(fo2 "_law_keeps" "_law_keeps" (top 96) 3 "law_spinboard_k63_whole_keepers_go_with_the" 828 565 0)
def j569(P:Pz):=tq #[(.str "_law_mark" 959),(.str "_law_cell" 960)]
def j571(P:Pz):=(fo1 "_law_lead" "_law_lead" (top 97) 0 0)
def j572(P:Pz):=(cob "_law_lead" 956 "_law_lead" 957 958 443 1 0 0 3 567 true 181 568 (.ref 569) (.ref 570) (.ref 571) 961 443 962)
def j573(P:Pz):=(fo2 "_law_lead" "_law_lead" (top 97) 3 "law_spinboard_k63_whole_keepers_go_with_the" 828 572 0)
def j576(P:Pz):=(fo1 "_law_is_mark" "_law_is_mark" (top 98) 0 0)
def j577(P:Pz):=(cob "_law_is_mark" 964 "_law_is_mark" 965 966 448 2 0 0 3 574 true 181 575 .none .none (.ref 576) 967 448 968)
def j578(P:Pz):=(fo2 "_law_is_mark" "_law_is_mark" (top 98) 3 "law_spinboard_k63_whole_keepers_go_with_the" 828 577 0)
def j581(P:Pz):=(fo1 "_law_is_reduced" "_law_is_reduced" (top 99) 0 0)
def j582(P:Pz):=(cob "_law_is_reduced" 970 "_law_is_reduced" 971 972 454 2 0 0 3 579 true 181 580 .none .none (.ref 581) 973 454 974)
def j583(P:Pz):=(fo2 "_law_is_reduced" "_law_is_reduced" (top 99) 3 "law_spinboard_k63_whole_keepers_go_with_the" 828 582 0)
def j586(P:Pz):=(fo1 "law" "law" (top 100) 0 0)
def j587(P:Pz):=(cob "law" 976 "law" 977 978 465 1 0 0 3 584 true 181 585 .none .none (.ref 586) 979 465 980)
def j588(P:Pz):=(fo2 "law" "law" (top 100) 3 "law_spinboard_k63_whole_keepers_go_with_the" 828 587 0)
def x13(P:Pz):List Obj:=[tz,nf0,j562 P,tz,j564 P,j565 P,j566 P,tz,nf0,j569 P,tz,j571 P,j572 P,j573 P,tz,nf0,j576 P,j577 P,j578 P,tz,nf0,j581 P,j582 P,j583 P,tz,nf0,j586 P,j587 P,j588 P]
def T13 (P:Pz):BT:=iF (iL (T12 P) [(3,W1h P),(12,X5d P)]) 560 (x13 P)
theorem g12 (p:U8)(b:W8)(w:W1)(os:OsState):segRunT treeTable p w 11 (some (.ref 6)) 1 143 (SharedT.mk (T12 w.params) 560 life (Array.mk []) (Drawn.mk 0 0 0 0) 944 os) (piecesOf l12 en (Code.body b en) (Pos.mk 409 0 436 72) BB)=some (Flow.next,(SharedT.mk (T13 w.params) 589 life (Array.mk []) (Drawn.mk 0 0 0 0) 982 os),Code.body b en,(Pos.mk 465 0 477 77)):=by rw[PySem.W.Fast.te10110043849684766642,PySem.W.Fast.te14364793385576792824];kernel_rfl
def Hl(P:Pz):List Obj:=[boot_o_0 P,boot_o_1 P,boot_o_2 P,W1h P,boot_o_4 P,boot_o_5 P,boot_o_6 P,boot_o_7 P,boot_o_8 P,boot_o_9 P,boot_o_10 P,tz,X5d P,j13 P,j14 P]++(((x1 P).set 9 (W1i P))++((x2 P)++((x3 P)++((x4 P)++((x5 P)++((x6 P)++((x7 P)++((x8 P)++((x9 P)++((x10 P)++((x11 P)++((x12 P)++(x13 P)))))))))))))
def Hf (P:Pz):Heap:=Heap.mk (Array.mk (Hl P)) life
theorem fin_ (w:W1)(os:OsState):topRun treeTable pr w 11 (some (.ref 6)) 2 ((SharedT.mk (T13 w.params) 589 life (Array.mk []) (Drawn.mk 0 0 0 0) 982 os).abs) (Thread.mk (doneF .next) cE (Pos.mk 465 0 477 77) BB)=some (Shared.mk (Hf w.params) (Array.mk []) (Drawn.mk 0 0 0 0) 982 os):=by rw[PySem.W.Fast.te14082659384304107361,PySem.W.Fast.te14364793385576792824];kernel_rfl
noncomputable abbrev MM:Nat:=12+(1+(196+(214+(214+(214+(214+(385+(388+(389+(333+(373+(391+(393+(143+2))))))))))))))
theorem run_ (w:W1)(os:OsState):topRun treeTable pr w 11 (some (.ref 6)) MM (Shared.mk (boot_heap w.params) (Array.mk []) boot_drawn boot_toks os) (topStub pr)=some (Shared.mk (Hf w.params) (Array.mk []) (Drawn.mk 0 0 0 0) 982 os):=go_top (pre_ w os) (piece_block (W2j w os) (q4m (q4l (g0 _ _ w os)) (q4m (q4l (g1 _ _ w os)) (q4m (q4l (g2 _ _ w os)) (q4m (q4l (g3 _ _ w os)) (q4m (q4l (g4 _ _ w os)) (q4m (q4l (g5 _ _ w os)) (q4m (q4l (g6 _ _ w os)) (q4m (q4l (g7 _ _ w os)) (q4m (q4l (g8 _ _ w os)) (q4m (q4l (g9 _ _ w os)) (q4m (q4l (g10 _ _ w os)) (q4m (q4l (g11 _ _ w os)) (q4m (q4l (g12 _ _ w os)) (piece_nil (fin_ w os))))))))))))))))
noncomputable def qq:Program:={ pr with main:={ pr.main with body:=[top 1,top 2,top 3,top 4,top 5,top 6,top 8,top 10,top 11,top 12,top 13,top 14,top 15,top 17,top 18,top 19,top 20,top 21,top 22,top 23,top 24,top 26,top 27,top 28,top 30,top 31,top 33,top 34,top 35,top 36,top 38,top 39,top 40,top 41,top 42,top 43,top 44,top 45,top 46,top 47,top 48,top 49,top 50,top 51,top 53,top 54,top 55,top 56,top 58,top 59,top 60,top 61,top 62,top 63,top 64,top 65,top 66,top 67,top 69,top 71,top 72,top 73,top 74,top 75,top 76,top 77,top 78,top 79,top 80,top 81,top 83,top 84,top 85,top 86,top 87,top 88,top 89,top 90,top 91,top 92,top 93,top 94,top 95,top 96,top 97,top 98,top 99,top 100] } }
noncomputable def loose:List PySem.Str:=[Str.ofString "start",Str.ofString "NUMBERS_BEHIND"]
noncomputable def lv:List (PySem.Str × WData):=[]
noncomputable abbrev NN:Nat:=7794
noncomputable def aa:List Addr:=[2,3,15,22,23,24,25,28,35,36,37,40,47,48,49,52,59,60,61,64,71,72,73,76,83,85,86,88,89,90,91,92,95,97,98,100,101,102,104,105,107,108,109,112,113,114,116,117,119,120,121,123,124,126,127,128,130,131,133,134,135,137,138,140,141,142,144,145,147,148,149,151,152,154,155,156,158,159,161,162,163,165,166,168,169,170,172,173,175,176,177,179,180,182,183,184,186,187,189,190,191,193,194,196,197,198,199,200,201,204,205,206,208,209,211,212,213,215,216,218,219,220,222,223,225,226,227,229,230,232,233,234,237,238,239,241,242,244,245,246,247,250,251,252,255,256,257,259,260,262,263,264,267,268,269,271,272,274,275,276,278,279,281,282,283,285,286,288,289,290,292,293,295,296,297,300,301,302,305,306,307,309,310,312,313,314,317,318,319,321,322,324,325,326,329,330,331,334,335,336,338,339,341,342,343,344,347,348,349,352,353,354,356,357,359,360,361,364,365,366,369,370,371,373,374,376,377,378,381,382,383,386,387,388,390,391,393,394,395,397,398,400,401,402,404,405,407,408,409,411,412,414,415,416,418,419,421,422,423,426,427,428,430,431,433,434,435,437,438,440,441,442,444,445,447,448,449,451,452,454,455,456,458,459,461,462,463,465,466,468,469,470,472,473,475,476,477,479,480,482,483,484,486,487,489,490,491,493,494,496,497,498,501,502,503,505,506,508,509,510,512,513,515,516,517,520,521,529,531,532,534,535,536,538,539,541,542,543,546,547,548,550,551,553,554,555,558,559,560,562,563,565,566,567,569,570,572,573,574,577,578,579,582,583,584,587,588]
def KK (P:Pz):Frag:=aa.map λa=>(a,(Hl P).getD a nf0)
theorem W2y:∀ w:World,(fencedOpening treeTable pr w NN).map (λs=>(s.heap,s.gens,s.drawn,s.toks))=some (boot_heap w.params,Array.mk [],boot_drawn,boot_toks) :=
 boot_open (p:=pr) (N:=NN) (by kernel_rfl) (by kernel_rfl) (λs=>by kernel_rfl)
theorem W2u (w:W1):((boot_heap w.params).isNs mainGlobals && (Array.mk []:Array GenState).size == 0,(boot_heap w.params).objs.size,(boot_heap w.params).nsMap mainGlobals "__annotations__")=(true,11,((some (.ref 6)):Option Value)):=by kernel_rfl
theorem le_:Nat.ble MM NN=true:=by kernel_rfl
noncomputable abbrev rr:OpenRow:=PySem.Challenge.rw_spinboard_k63_whole_keepers_go_with_the.row
noncomputable abbrev HH:Hook:=kHook KK aa (λ_=>by kernel_rfl)
noncomputable abbrev Xt (s:U7):Bool:=xlAt qq lv s && recOk (RowW.records rr.toRowW) s
noncomputable abbrev sf (w:W1)(os:OsState):Shared:=Shared.mk (Hf w.params) (Array.mk []) (Drawn.mk 0 0 0 0) 982 os
theorem lk1 (w:W1)(os:OsState):(staticsOk (importedModules pr.main.body) (boot_heap w.params) (Hf w.params) && namesBound pr (Hf w.params) && gensDone (sf w os) && laidKept (boot_heap w.params) (Hf w.params))=true:=by rw[PySem.W.Fast.te5923862056798008813];kernel_rfl
theorem lk2 (w:W1)(os:OsState):openSeen qq loose (importedModules pr.main.body) Xt true (sf w os)=openGood qq loose:=by rw[PySem.W.Fast.te4187177175401517315,PySem.W.Fast.te5923862056798008813];kernel_rfl
theorem lk3 (w:W1)(os:OsState):HH.obs (sf w os)=HH.val w:=by kernel_rfl
theorem left_:LeftO pr qq loose Xt HH.obs HH.val NN :=
 LeftO.of_pieces (H₀:=boot_heap) (H₁:=Hf) W2y W2u run_ le_ λw=>funext λos=>looks_pair (lk1 w os) (looks_pair (lk2 w os) (lk3 w os))
theorem said_:PySem.Challenge.rw_spinboard_k63_whole_keepers_go_with_the.wellSaid=true:=by rw[PySem.W.Fast.te9446332074065402090];kernel_rfl
theorem k588 (P:Pz):(KK P).lookup 588=some (j588 P):=by kernel_rfl
theorem k101 (P:Pz):(KK P).lookup 101=some (j101 P):=by kernel_rfl
theorem k108 (P:Pz):(KK P).lookup 108=some (j108 P):=by kernel_rfl
theorem k113 (P:Pz):(KK P).lookup 113=some (j113 P):=by kernel_rfl
theorem k120 (P:Pz):(KK P).lookup 120=some (j120 P):=by kernel_rfl
theorem k127 (P:Pz):(KK P).lookup 127=some (j127 P):=by kernel_rfl
theorem k134 (P:Pz):(KK P).lookup 134=some (j134 P):=by kernel_rfl
theorem k141 (P:Pz):(KK P).lookup 141=some (j141 P):=by kernel_rfl
theorem k148 (P:Pz):(KK P).lookup 148=some (j148 P):=by kernel_rfl
theorem k155 (P:Pz):(KK P).lookup 155=some (j155 P):=by kernel_rfl
theorem k162 (P:Pz):(KK P).lookup 162=some (j162 P):=by kernel_rfl
theorem k169 (P:Pz):(KK P).lookup 169=some (j169 P):=by kernel_rfl
theorem k176 (P:Pz):(KK P).lookup 176=some (j176 P):=by kernel_rfl
theorem k183 (P:Pz):(KK P).lookup 183=some (j183 P):=by kernel_rfl
theorem k190 (P:Pz):(KK P).lookup 190=some (j190 P):=by kernel_rfl
theorem k197 (P:Pz):(KK P).lookup 197=some (j197 P):=by kernel_rfl
theorem k205 (P:Pz):(KK P).lookup 205=some (j205 P):=by kernel_rfl
theorem k212 (P:Pz):(KK P).lookup 212=some (j212 P):=by kernel_rfl
theorem k219 (P:Pz):(KK P).lookup 219=some (j219 P):=by kernel_rfl
theorem k226 (P:Pz):(KK P).lookup 226=some (j226 P):=by kernel_rfl
theorem k233 (P:Pz):(KK P).lookup 233=some (j233 P):=by kernel_rfl
theorem k238 (P:Pz):(KK P).lookup 238=some (j238 P):=by kernel_rfl
theorem k245 (P:Pz):(KK P).lookup 245=some (j245 P):=by kernel_rfl
theorem k251 (P:Pz):(KK P).lookup 251=some (j251 P):=by kernel_rfl
theorem k256 (P:Pz):(KK P).lookup 256=some (j256 P):=by kernel_rfl
theorem k263 (P:Pz):(KK P).lookup 263=some (j263 P):=by kernel_rfl
theorem k268 (P:Pz):(KK P).lookup 268=some (j268 P):=by kernel_rfl
theorem k275 (P:Pz):(KK P).lookup 275=some (j275 P):=by kernel_rfl
theorem k282 (P:Pz):(KK P).lookup 282=some (j282 P):=by kernel_rfl
theorem k289 (P:Pz):(KK P).lookup 289=some (j289 P):=by kernel_rfl
theorem k296 (P:Pz):(KK P).lookup 296=some (j296 P):=by kernel_rfl
theorem k301 (P:Pz):(KK P).lookup 301=some (j301 P):=by kernel_rfl
theorem k306 (P:Pz):(KK P).lookup 306=some (j306 P):=by kernel_rfl
theorem k313 (P:Pz):(KK P).lookup 313=some (j313 P):=by kernel_rfl
theorem k318 (P:Pz):(KK P).lookup 318=some (j318 P):=by kernel_rfl
theorem k325 (P:Pz):(KK P).lookup 325=some (j325 P):=by kernel_rfl
theorem k330 (P:Pz):(KK P).lookup 330=some (j330 P):=by kernel_rfl
theorem k335 (P:Pz):(KK P).lookup 335=some (j335 P):=by kernel_rfl
theorem k342 (P:Pz):(KK P).lookup 342=some (j342 P):=by kernel_rfl
theorem k348 (P:Pz):(KK P).lookup 348=some (j348 P):=by kernel_rfl
theorem k353 (P:Pz):(KK P).lookup 353=some (j353 P):=by kernel_rfl
theorem k360 (P:Pz):(KK P).lookup 360=some (j360 P):=by kernel_rfl
theorem k365 (P:Pz):(KK P).lookup 365=some (j365 P):=by kernel_rfl
theorem k370 (P:Pz):(KK P).lookup 370=some (j370 P):=by kernel_rfl
theorem k377 (P:Pz):(KK P).lookup 377=some (j377 P):=by kernel_rfl
theorem k382 (P:Pz):(KK P).lookup 382=some (j382 P):=by kernel_rfl
theorem k387 (P:Pz):(KK P).lookup 387=some (j387 P):=by kernel_rfl
theorem k394 (P:Pz):(KK P).lookup 394=some (j394 P):=by kernel_rfl
theorem k401 (P:Pz):(KK P).lookup 401=some (j401 P):=by kernel_rfl
theorem k408 (P:Pz):(KK P).lookup 408=some (j408 P):=by kernel_rfl
theorem k415 (P:Pz):(KK P).lookup 415=some (j415 P):=by kernel_rfl
theorem k422 (P:Pz):(KK P).lookup 422=some (j422 P):=by kernel_rfl
theorem k427 (P:Pz):(KK P).lookup 427=some (j427 P):=by kernel_rfl
theorem k434 (P:Pz):(KK P).lookup 434=some (j434 P):=by kernel_rfl
theorem k441 (P:Pz):(KK P).lookup 441=some (j441 P):=by kernel_rfl
theorem k448 (P:Pz):(KK P).lookup 448=some (j448 P):=by kernel_rfl
theorem k455 (P:Pz):(KK P).lookup 455=some (j455 P):=by kernel_rfl
theorem k462 (P:Pz):(KK P).lookup 462=some (j462 P):=by kernel_rfl
theorem k469 (P:Pz):(KK P).lookup 469=some (j469 P):=by kernel_rfl
theorem k476 (P:Pz):(KK P).lookup 476=some (j476 P):=by kernel_rfl
theorem k483 (P:Pz):(KK P).lookup 483=some (j483 P):=by kernel_rfl
theorem k490 (P:Pz):(KK P).lookup 490=some (j490 P):=by kernel_rfl
theorem k497 (P:Pz):(KK P).lookup 497=some (j497 P):=by kernel_rfl
theorem k502 (P:Pz):(KK P).lookup 502=some (j502 P):=by kernel_rfl
theorem k509 (P:Pz):(KK P).lookup 509=some (j509 P):=by kernel_rfl
theorem k516 (P:Pz):(KK P).lookup 516=some (j516 P):=by kernel_rfl
theorem k521 (P:Pz):(KK P).lookup 521=some (j521 P):=by kernel_rfl
theorem k535 (P:Pz):(KK P).lookup 535=some (j535 P):=by kernel_rfl
theorem k542 (P:Pz):(KK P).lookup 542=some (j542 P):=by kernel_rfl
theorem k547 (P:Pz):(KK P).lookup 547=some (j547 P):=by kernel_rfl
theorem k554 (P:Pz):(KK P).lookup 554=some (j554 P):=by kernel_rfl
theorem k559 (P:Pz):(KK P).lookup 559=some (j559 P):=by kernel_rfl
theorem k566 (P:Pz):(KK P).lookup 566=some (j566 P):=by kernel_rfl
theorem k573 (P:Pz):(KK P).lookup 573=some (j573 P):=by kernel_rfl
theorem k578 (P:Pz):(KK P).lookup 578=some (j578 P):=by kernel_rfl
theorem k583 (P:Pz):(KK P).lookup 583=some (j583 P):=by kernel_rfl
theorem k200 (P:Pz):(KK P).lookup 200=some (j200 P):=by kernel_rfl
theorem k199 (P:Pz):(KK P).lookup 199=some (j199 P):=by kernel_rfl
theorem k198 (P:Pz):(KK P).lookup 198=some (j198 P):=by kernel_rfl
theorem k343 (P:Pz):(KK P).lookup 343=some (j343 P):=by kernel_rfl
theorem k246 (P:Pz):(KK P).lookup 246=some (j246 P):=by kernel_rfl
theorem ft {K:U0}{x:Str}{st:Stmt}{f:W9}{oc:W2}{od an:W5}{osl:W4}{dV kV doc pm cdv ct:W2}
  (l:K.lookup f=some ⟨oc,od,.func (PySem.W.fnOf x x (Z1m st) (Z1h st) (Z0i st) dV kV doc pm an cdv ct),osl⟩) (a:PySem.W.nsIn K mainGlobals x=some (some (.ref f)):=by kernel_rfl) (c:PySem.W.codeIn K cdv x=true:=by kernel_rfl) (k:PySem.W.keepIn K (.ref f)=true:=by kernel_rfl):FunAt K x st dV:=fat a l c k
theorem f8 (P:Pz):FunAt (KK P) "is_whole" (top 8) .none:=ft (k101 P)
theorem f10 (P:Pz):FunAt (KK P) "halved_out" (top 10) .none:=ft (k108 P)
theorem f11 (P:Pz):FunAt (KK P) "plus" (top 11) .none:=ft (k113 P)
theorem f12 (P:Pz):FunAt (KK P) "minus" (top 12) .none:=ft (k120 P)
theorem f13 (P:Pz):FunAt (KK P) "spun" (top 13) .none:=ft (k127 P)
theorem f14 (P:Pz):FunAt (KK P) "spun_once" (top 14) .none:=ft (k134 P)
theorem f15 (P:Pz):FunAt (KK P) "rooted" (top 15) .none:=ft (k141 P)
theorem f17 (P:Pz):FunAt (KK P) "ones" (top 17) .none:=ft (k148 P)
theorem f18 (P:Pz):FunAt (KK P) "is_word" (top 18) .none:=ft (k155 P)
theorem f19 (P:Pz):FunAt (KK P) "is_mark" (top 19) .none:=ft (k162 P)
theorem f20 (P:Pz):FunAt (KK P) "is_even" (top 20) .none:=ft (k169 P)
theorem f21 (P:Pz):FunAt (KK P) "is_even_mark" (top 21) .none:=ft (k176 P)
theorem f22 (P:Pz):FunAt (KK P) "commute" (top 22) .none:=ft (k183 P)
theorem f23 (P:Pz):FunAt (KK P) "product" (top 23) .none:=ft (k190 P)
theorem f24 (P:Pz):FunAt (KK P) "turned_about" (top 24) .none:=ft (k197 P)
theorem f29 (P:Pz):FunAt (KK P) "start" (top 29) (.ref 200):=ft (k205 P)
theorem f30 (P:Pz):FunAt (KK P) "check_beginning" (top 30) .none:=ft (k212 P)
theorem f31 (P:Pz):FunAt (KK P) "cells_of" (top 31) .none:=ft (k219 P)
theorem f33 (P:Pz):FunAt (KK P) "solved" (top 33) .none:=ft (k226 P)
theorem f34 (P:Pz):FunAt (KK P) "cleared" (top 34) .none:=ft (k233 P)
theorem f35 (P:Pz):FunAt (KK P) "places_at_one" (top 35) .none:=ft (k238 P)
theorem f36 (P:Pz):FunAt (KK P) "solution" (top 36) .none:=ft (k245 P)
theorem f40 (P:Pz):FunAt (KK P) "is_table" (top 40) .none:=ft (k251 P)
theorem f41 (P:Pz):FunAt (KK P) "commutes_with_all" (top 41) .none:=ft (k256 P)
theorem f42 (P:Pz):FunAt (KK P) "check_table" (top 42) .none:=ft (k263 P)
theorem f43 (P:Pz):FunAt (KK P) "reduced" (top 43) .none:=ft (k268 P)
theorem f44 (P:Pz):FunAt (KK P) "without_lead" (top 44) .none:=ft (k275 P)
theorem f45 (P:Pz):FunAt (KK P) "lead" (top 45) .none:=ft (k282 P)
theorem f46 (P:Pz):FunAt (KK P) "least_cell" (top 46) .none:=ft (k289 P)
theorem f47 (P:Pz):FunAt (KK P) "has_at_lead" (top 47) .none:=ft (k296 P)
theorem f48 (P:Pz):FunAt (KK P) "made_of" (top 48) .none:=ft (k301 P)
theorem f49 (P:Pz):FunAt (KK P) "rows_with" (top 49) .none:=ft (k306 P)
theorem f50 (P:Pz):FunAt (KK P) "product_of" (top 50) .none:=ft (k313 P)
theorem f51 (P:Pz):FunAt (KK P) "apart_by" (top 51) .none:=ft (k318 P)
theorem f53 (P:Pz):FunAt (KK P) "keepers" (top 53) .none:=ft (k325 P)
theorem f54 (P:Pz):FunAt (KK P) "keepers_with" (top 54) .none:=ft (k330 P)
theorem f55 (P:Pz):FunAt (KK P) "spins_on" (top 55) .none:=ft (k335 P)
theorem f56 (P:Pz):FunAt (KK P) "has_spins" (top 56) .none:=ft (k342 P)
theorem f59 (P:Pz):FunAt (KK P) "check_move" (top 59) .none:=ft (k348 P)
theorem f60 (P:Pz):FunAt (KK P) "has_move_form" (top 60) .none:=ft (k353 P)
theorem f61 (P:Pz):FunAt (KK P) "named_cells" (top 61) .none:=ft (k360 P)
theorem f62 (P:Pz):FunAt (KK P) "turned" (top 62) .none:=ft (k365 P)
theorem f63 (P:Pz):FunAt (KK P) "mixed" (top 63) .none:=ft (k370 P)
theorem f64 (P:Pz):FunAt (KK P) "mixed_at" (top 64) .none:=ft (k377 P)
theorem f65 (P:Pz):FunAt (KK P) "spun_where" (top 65) .none:=ft (k382 P)
theorem f66 (P:Pz):FunAt (KK P) "word_behind" (top 66) .none:=ft (k387 P)
theorem f67 (P:Pz):FunAt (KK P) "exchanged" (top 67) .none:=ft (k394 P)
theorem f69 (P:Pz):FunAt (KK P) "run" (top 69) .none:=ft (k401 P)
theorem f71 (P:Pz):FunAt (KK P) "borne" (top 71) .none:=ft (k408 P)
theorem f72 (P:Pz):FunAt (KK P) "is_borne" (top 72) .none:=ft (k415 P)
theorem f73 (P:Pz):FunAt (KK P) "is_odd_turn" (top 73) .none:=ft (k422 P)
theorem f74 (P:Pz):FunAt (KK P) "moved_rows" (top 74) .none:=ft (k427 P)
theorem f75 (P:Pz):FunAt (KK P) "check_borne" (top 75) .none:=ft (k434 P)
theorem f76 (P:Pz):FunAt (KK P) "moved_through" (top 76) .none:=ft (k441 P)
theorem f77 (P:Pz):FunAt (KK P) "moved_by" (top 77) .none:=ft (k448 P)
theorem f78 (P:Pz):FunAt (KK P) "moved_by_mix" (top 78) .none:=ft (k455 P)
theorem f79 (P:Pz):FunAt (KK P) "moved_by_turn" (top 79) .none:=ft (k462 P)
theorem f80 (P:Pz):FunAt (KK P) "moved_by_if" (top 80) .none:=ft (k469 P)
theorem f81 (P:Pz):FunAt (KK P) "moved_by_pair" (top 81) .none:=ft (k476 P)
theorem f83 (P:Pz):FunAt (KK P) "_law_cell_at" (top 83) .none:=ft (k483 P)
theorem f84 (P:Pz):FunAt (KK P) "_law_whole" (top 84) .none:=ft (k490 P)
theorem f85 (P:Pz):FunAt (KK P) "_law_cells_by" (top 85) .none:=ft (k497 P)
theorem f86 (P:Pz):FunAt (KK P) "_law_low" (top 86) .none:=ft (k502 P)
theorem f87 (P:Pz):FunAt (KK P) "_law_spin" (top 87) .none:=ft (k509 P)
theorem f88 (P:Pz):FunAt (KK P) "_law_amount_by" (top 88) .none:=ft (k516 P)
theorem f89 (P:Pz):FunAt (KK P) "_law_board_by" (top 89) .none:=ft (k521 P)
theorem f91 (P:Pz):FunAt (KK P) "_law_bits" (top 91) .none:=ft (k535 P)
theorem f92 (P:Pz):FunAt (KK P) "_law_times" (top 92) .none:=ft (k542 P)
theorem f93 (P:Pz):FunAt (KK P) "_law_move_by" (top 93) .none:=ft (k547 P)
theorem f94 (P:Pz):FunAt (KK P) "_law_plain_row" (top 94) .none:=ft (k554 P)
theorem f95 (P:Pz):FunAt (KK P) "_law_held_board" (top 95) .none:=ft (k559 P)
theorem f96 (P:Pz):FunAt (KK P) "_law_keeps" (top 96) .none:=ft (k566 P)
theorem f97 (P:Pz):FunAt (KK P) "_law_lead" (top 97) .none:=ft (k573 P)
theorem f98 (P:Pz):FunAt (KK P) "_law_is_mark" (top 98) .none:=ft (k578 P)
theorem f99 (P:Pz):FunAt (KK P) "_law_is_reduced" (top 99) .none:=ft (k583 P)
end Hd
end K63
end
set_option maxHeartbeats 4000000
namespace K63
open L2 Am Pc Ba
section
variable {P:U8}{w:W1}{K:U0}{mg:U4}{base:Heap}{k:Nat}{h:Heap}
theorem Z2c {x:Int}(h1:-16<x)(h2:x<16):Sz 100 x:=Sz.mono (j:=5) (by unfold Sz;omega) (by decide)
theorem s_0:Sz 100 0:=Z2c (by decide) (by decide)
theorem s_1:Sz 100 1:=Z2c (by decide) (by decide)
theorem forty:(0:Int)<=40:=by decide
def At5 (K:U0)(H:Hp)(p:W9)(x:A5):Prop:=SqT K H p ((l5 x).map V.int)
theorem At5.of {K:U0}{H:Hp}{p:W9}{x:A5}(h:H p=some (tA x)):At5 K H p x:=SqT.of h
theorem At5.same {K:U0}{H H':Hp}{p:W9}{x:A5}(h:At5 K H p x)(s:Same H H'):At5 K H' p x:=s.tup h
theorem At5.upd {K:U0}{H:Hp}{p l:W9}{x:A5}{xs ys:List V}(h:At5 K H p x)(e:H l=some (.lst xs)):At5 K (upd H l (.lst ys)) p x:=by
 rcases h with h | h
 ·rcases h with h | ⟨o,h⟩
  ·exact .inl (.inl (by rw[Z0x (Z7e h e (by intro z;cases z))];exact h))
  ·exact .inl (.inr ⟨o,by rw[Z0x (Z7e h e (by intro z;cases z))];exact h⟩)
 ·exact .inr h
def ValsK (K:U0)(H:Hp)(ps:U3)(f:Nat->A5):Prop:=∀ i p,ps[i]?=some p->At5 K H p (f i)
theorem ValsK.same {K:U0}{H H':Hp}{ps:U3}{f:Nat->A5}(v:ValsK K H ps f)(s:Same H H'):ValsK K H' ps f:=λi p e=>(v i p e).same s
theorem Z2s {K:U0}{H H':Hp}{ps:U3}{f:Nat->A5}{p:W9}{x:A5}(v:ValsK K H ps f)(s:Same H H')(e:At5 K H' p x):ValsK K H' (ps++[p]) (λj=>if j=ps.length then x else f j):=by
 intro i q hq
 by_cases hi:i<ps.length
 ·rw[q4b hi] at hq
  show At5 K H' q (if i=ps.length then x else f i)
  rw[if_neg (by omega)]
  exact(v i q hq).same s
 ·rw[q3t (by omega)] at hq
  have hi2:i=ps.length:=by
   have:=(q0l.mp hq).1
   simp at this
   omega
  subst hi2
  simp at hq
  subst hq
  show At5 K H' _ (if ps.length=ps.length then x else f ps.length)
  rw[if_pos rfl]
  exact e
theorem Z2p {K:U0}{H:Hp}{ps:U3}{f:Nat->A5}{l:W9}{xs ys:List V}(v:ValsK K H ps f)(e:H l=some (.lst xs)):ValsK K (upd H l (.lst ys)) ps f:=λi q hq=>(v i q hq).upd e
theorem Y2o {K:U0}{a:W9}{ns:U6}{te:TE}{fr:L2.St}{H1:Hp}{acc:W9}{Q:VK}(f:Int->V)(hl:SqT K H1 a (ns.map V.int))(hn:ns.length<=sizeLine)(hacc:H1 acc=none)(hs:∀ n H (N:V->Hp->Prop),n∈ns->Same H1 H->N (f n) H->te (some (.int n)::fr) H N)
  (hd:∀ H2,Same H1 H2->H2 acc=some (.lst (ns.map f))->Q (.ref acc) H2):LcW (Itt K a) (gName 0) te (none::fr) H1 acc Q:=by
 refine Z9f (n:=ns.length) (val:=λi=>.int (ns.getD i 0)) (λi=>f (ns.getD i 0)) hn hacc (λi H hi s=>?_) (λH s=>⟨_,s.tup hl,by simp⟩) (λi H N hi s kN=>hs _ H N (by simp[hi]) s kN) (λH2 s h=>hd H2 s (by rw[h,Z4x]))
 have e:(ns.map V.int)[i]?=some (.int (ns.getD i 0)):=by simp[hi]
 refine⟨⟨_,_,s.tup hl,e⟩,λx H' y=>⟨y.1,?_⟩⟩
 have:=y.2 _ (s.tup hl)
 rw[e] at this
 exact(Option.some.inj this).symm
theorem cut54:¬ (HT.sIx 5 0 none=0/\HT.sIx 5 5 (some 4)=5):=by decide
def spHalf:Sp:=λvs H Q _=>∃ a b c d h:Int,vs=[.int a,.int b,.int c,.int d,.int h]/\0<=h/\∀ (p:W9) (H':Hp) (x y z u g:Int),Same H H'->H' p=some (T5 x y z u g)->Red a b c d h x y z u g->Q (.ref p) H'
def Y3m:Sp:=λvs H Q _=>∃ (p:W9) (a b c d h:Int),vs=[.ref p]/\H p=some (T5 a b c d h)/\0<=h/\∀ (r:W9) (H':Hp) (x y z u g:Int),Same H H'->H' r=some (T5 x y z u g)->Red (b-d) (a+c) (b+d) (c-a) (h+1) x y z u g->Q (.ref r) H'
def Y6x (K:U0):Sp:=λvs H Q _=>∃ (p:W9) (a b c d h:Int),vs=[.ref p]/\At5 K H p ((a,b,c,d),h)/\∀ (r:W9) (H':Hp),Same H H'->H' r=some (T5 (-d) a b c h)->Q (.ref r) H'
def Z6o (K:U0):Sp:=λvs H Q _=>∃ (p:W9) (a b c d h k:Int),vs=[.ref p,.int k]/\At5 K H p ((a,b,c,d),h)/\∀ (r:W9) (H':Hp),Same H H'->At5 K H' r (rot (k%8).toNat (a,b,c,d),h)->Q (.ref r) H'
theorem sc_half:FnScope ["a","b","c","d","h","places","lowest","less"] ["a","b","c","d","h"] (Z0i (top 10)):=fS
theorem X7i (F:FunAt K "halved_out" (top 10) .none)(X:K.In h)(G:Ng h mg)(B:Bs mg):Cal P w K mg base (k+1) "halved_out" ["a","b","c","d","h"] spHalf:=by
 have nd:=sc_half.nd
 refine F.cal X G sc_half (bnd5 λ_ _ _ _ _ _ _ _ _ _ _=>rfl) (λvs H Q E h=>?_) (λf cdv A outer s H vs Q E hr h=>?_)
 ·obtain⟨a,b,c,d,h,rfl,_⟩:=h;rfl
 obtain⟨a,b,c,d,h,rfl,h0,q⟩:=h
 refine⟨_,(@Z0e _ _ _ _ _ (@Z0q _ _ 5 _ _ _ _ nd rfl (Or.inl rfl) (Z0h Z9b (Z0h Z9b (Z0h Z9b (pv 0) (pv 1)) (pv 2)) (pv 3)) rfl (.inl rfl))
  (@Z0e _ _ _ _ _ (Z0w (Z0n Z1k (pv 5) Z0b (nomark _))
   (@Z0f _ _ _ (Z0k (@Z1a _ _ _ _ _ (Z0a Z0b (Z0a Z0b (Z0a Z0b (Z0a Z0b (Z0a Z0b Z0d))))))))
   Z0o)
  (@Z0e _ _ _ _ _ (@Z0q _ _ 6 _ _ _ _ nd rfl (Or.inl rfl) (Z0h Z1z (Z5x q2j q1p q1x Z2t (Z0h Z1d (pv 5) (Y2c Z9x (pv 5)))) Z0b) rfl (.inl rfl))
  (@Z0e _ _ _ _ _ (@Z0q _ _ 7 _ _ _ _ nd rfl (Or.inl rfl) (Z0r (Y1f rfl) rfl B.min boot_min (Z0a (pv 6) (Z0a (pv 4) Z0d))) rfl (.inl rfl))
  (@Z0f _ _ _ (Z0k (@Z1a _ _ _ _ _ (Z0a (Z0h Z4e (pv 0) (pv 7)) (Z0a (Z0h Z4e (pv 1) (pv 7)) (Z0a (Z0h Z4e (pv 2) (pv 7)) (Z0a (Z0h Z4e (pv 3) (pv 7)) (Z0a (Z0h Z1z (pv 4) (pv 7)) Z0d)))))))))))),?_⟩
 try dsimp only[cxK]
 refine⟨_,Z,_,Z,_,_,Z,Z,_,Z,_,_,Z,Z,_,Z,_,_,Z,Z,?_⟩
 refine⟨_,Z,Z,_,Z,eqI (λe=>?_) (λe=>?_)⟩
 ·obtain⟨rfl,rfl,rfl,rfl⟩:=orAll_zero.mp e
  exact⟨by show 5<=sizeLine;decide,λp hp=>q p _ 0 0 0 0 0 (Z0g hp _) Z0c ⟨⟨by omega,.inl rfl⟩,⟨by simp[Eq2],by simp[Eq2],by simp[Eq2],by simp[Eq2]⟩,q0g _,q0g _,q0g _,q0g _,h0⟩⟩
 obtain⟨v,ev,hd,hn⟩:=lowest e
 obtain⟨m0,m1,ha,hs,b1,b2,b3,b4⟩:=halve h0 hd hn rfl
 have ev':((Builtin.Int.intBits (Builtin.bitAnd (Builtin.bitOr (Builtin.bitOr (Builtin.bitOr a b) c) d) (-(Builtin.bitOr (Builtin.bitOr (Builtin.bitOr a b) c) d))):Nat):Int)-1=v:=ev
 refine⟨_,Z,_,Z,_,Z,_,_,Z,Z,Z,_,Z,Z,_,_,Z,Z,?_⟩
 show tSeq _ _ _ (List.set _ 6 (some (V.int (((Builtin.Int.intBits (Builtin.bitAnd (Builtin.bitOr (Builtin.bitOr (Builtin.bitOr a b) c) d) (-(Builtin.bitOr (Builtin.bitOr (Builtin.bitOr a b) c) d))):Nat):Int)-1)))) H
 rw[ev']
 generalize hm:(if h<(v:Int) then h else (v:Int))=m at *
 refine⟨_,Z,_,Z,_,_,Z,?_⟩
 rw[hm]
 refine⟨_,Z,_,Z,_,_,Z,Z,m0,_,Z,_,Z,_,_,Z,Z,m0,_,Z,_,Z,_,_,Z,Z,m0,_,Z,_,Z,_,_,Z,Z,m0,_,Z,_,Z,_,_,Z,Z,(by show 5<=sizeLine;decide),λp hp=>?_⟩
 exact q p _ _ _ _ _ _ (Z0g hp _) Z0c ⟨ha,hs,b1,b2,b3,b4,by omega⟩
theorem sc_once:FnScope ["one"] ["one"] (Z0i (top 14)):=fS
theorem X7b (F:FunAt K "spun_once" (top 14) .none)(X:K.In h)(G:Ng h mg):Cal P w K mg base (k+1) "spun_once" ["one"] (Y6x K):=by
 have nd:=sc_once.nd
 refine F.cal X G sc_once (bnd1 λ_ _ _ _ _ _ _=>rfl) (λvs H Q E h=>?_) (λf cdv A outer s H vs Q E hr h=>?_)
 ·obtain⟨p,a,b,c,d,h,rfl,_⟩:=h;rfl
 obtain⟨p,a,b,c,d,h,rfl,hp,q⟩:=h
 have S:SqT K H p [.int a,.int b,.int c,.int d,.int h]:=hp
 refine⟨_,(@Z0f _ _ _ (Z0k (@Z1a _ _ _ _ _ (Z0a (Y2c Z9x (Z0m Z0j (pv 0) Z0b (λ_ _=>rfl))) (Z0a (Z0m Z0j (pv 0) Z0b (λ_ _=>rfl)) (Z0a (Z0m Z0j (pv 0) Z0b (λ_ _=>rfl)) (Z0a (Z0m Z0j (pv 0) Z0b (λ_ _=>rfl)) (Z0a (Z0m Z0j (pv 0) Z0b (λ_ _=>rfl)) Z0d)))))))),?_⟩
 try dsimp only[cxK]
 refine⟨_,Z,p,_,_,_,Z,Z,S,Z,_,Z,_,Z,p,_,_,_,Z,Z,S,Z,_,Z,p,_,_,_,Z,Z,S,Z,_,Z,p,_,_,_,Z,Z,S,Z,_,Z,p,_,_,_,Z,Z,S,Z,(by show 5<=sizeLine;decide),λr hr=>?_⟩
 exact q r _ (Z0g hr _) Z0c
theorem sc_rooted:FnScope ["one"] ["one"] (Z0i (top 15)):=fS
theorem Y8g (F:FunAt K "rooted" (top 15) .none)(X:K.In h)(G:Ng h mg)(cP:Cal P w K mg base k "halved_out" ["a","b","c","d","h"] spHalf):Cal P w K mg base (k+1) "rooted" ["one"] Y3m:=by
 have nd:=sc_rooted.nd
 refine F.cal X G sc_rooted (bnd1 λ_ _ _ _ _ _ _=>rfl) (λvs H Q E h=>?_) (λf cdv A outer s H vs Q E hr h=>?_)
 ·obtain⟨p,a,b,c,d,h,rfl,_⟩:=h;rfl
 obtain⟨p,a,b,c,d,h,rfl,hp,h0,q⟩:=h
 have S:SqT K H p [.int a,.int b,.int c,.int d,.int h]:=SqT.of hp
 refine⟨_,(@Z0f _ _ _ (Z0k (Z0l cP hr rfl (Z0a (Z0h Z1z (Z0m Z0j (pv 0) Z0b (λ_ _=>rfl)) (Z0m Z0j (pv 0) Z0b (λ_ _=>rfl))) (Z0a (Z0h Z1b (Z0m Z0j (pv 0) Z0b (λ_ _=>rfl)) (Z0m Z0j (pv 0) Z0b (λ_ _=>rfl))) (Z0a (Z0h Z1b (Z0m Z0j (pv 0) Z0b (λ_ _=>rfl)) (Z0m Z0j (pv 0) Z0b (λ_ _=>rfl))) (Z0a (Z0h Z1z (Z0m Z0j (pv 0) Z0b (λ_ _=>rfl)) (Z0m Z0j (pv 0) Z0b (λ_ _=>rfl))) (Z0a (Z0h Z1b (Z0m Z0j (pv 0) Z0b (λ_ _=>rfl)) Z0b) Z0d)))))))),?_⟩
 try dsimp only[cxK]
 refine⟨_,Z,p,_,_,_,Z,Z,S,Z,_,Z,p,_,_,_,Z,Z,S,Z,_,_,Z,Z,_,Z,p,_,_,_,Z,Z,S,Z,_,Z,p,_,_,_,Z,Z,S,Z,_,_,Z,Z,
  _,Z,p,_,_,_,Z,Z,S,Z,_,Z,p,_,_,_,Z,Z,S,Z,_,_,Z,Z,_,Z,p,_,_,_,Z,Z,S,Z,_,Z,p,_,_,_,Z,Z,S,Z,_,_,Z,Z,_,Z,p,_,_,_,Z,Z,S,Z,_,_,Z,Z,?_⟩
 exact⟨_,_,_,_,_,Z,(by show 0<=h+1;omega),λr H' x y z u g s1 e1 r1=>q r H' x y z u g s1 e1 r1⟩
theorem sc_spun:FnScope ["one","k","turning","step"] ["one","k"] (Z0i (top 13)):=fS
theorem X6y (F:FunAt K "spun" (top 13) .none)(X:K.In h)(G:Ng h mg)(B:Bs mg)(eC:Cal P w K mg base k "spun_once" ["one"] (Y6x K)):Cal P w K mg base (k+1) "spun" ["one","k"] (Z6o K):=by
 have nd:=sc_spun.nd
 refine F.cal X G sc_spun (bnd2 λ_ _ _ _ _ _ _ _=>rfl) (λvs H Q E h=>?_) (λf cdv A outer s H vs Q E hr h=>?_)
 ·obtain⟨p,a,b,c,d,h,k,rfl,_⟩:=h;rfl
 obtain⟨p,a,b,c,d,h,j,rfl,hp,q⟩:=h
 have S:SqT K H p [.int a,.int b,.int c,.int d,.int h]:=hp
 refine⟨_,(@Z0e _ _ _ _ _ (@Z0q _ _ 2 _ _ _ _ nd rfl (Or.inl rfl) (pv 0) rfl (.inl rfl))
  (@Z0e _ _ _ _ _ (Z1v PassesOwn.never rfl (Z0y rfl B.range (Z0a (Z0h Z0v (pv 1) Z0b) Z0d)) (Z0p (i:=3) nd rfl (Or.inl rfl))
   (@Z0f _ _ _ (@Z0q _ _ 2 _ _ _ _ nd rfl (Or.inl rfl) (Z0l eC hr rfl (Z0a (pv 2) Z0d)) rfl (.inl rfl))))
  (@Z0f _ _ _ (Z0k (pv 2))))),?_⟩
 try dsimp only[cxK]
 have j0:=q2z j (show (8:Int)≠0 by decide)
 have j1:=q3a j (show (0:Int)<8 by decide)
 refine⟨_,Z,_,Z,_,_,Z,Z,(by show (0:Int)<8;decide),_,Z,(by omega),(by omega),Z1u (n:=(j%8).toNat) (λi σ H'=>Same H H'/\∃ t v,σ=[some (.ref p),some (.int j),some (.ref t),v]/\At5 K H' t (rot i (a,b,c,d),h)) ⟨Same.refl _,p,none,Z,hp⟩ ?_ ?_⟩
 ·rintro i σ H2 hi ⟨s2,t,v,rfl,ht⟩
  refine⟨_,Z,t,_,_,_,_,_,Z,ht,λr H' s3 e3=>?_⟩
  exact⟨s2.trans s3,r,_,Z,At5.of e3⟩
 ·rintro σ H2 ⟨s2,t,v,rfl,ht⟩
  exact⟨_,Z,q t H2 s2 ht⟩
structure Sum (a b c d h a' b' c' d' h' x y z u g:Int):Prop where
 amt:Amt x y z u g
 same:Same4 (a*p2 h'+a'*p2 h) (b*p2 h'+b'*p2 h) (c*p2 h'+c'*p2 h) (d*p2 h'+d'*p2 h) (h+h') x y z u g
 le:g<=max h h'
theorem Y3g {a a' h h' m:Int}(h0:0<=h)(h0':0<=h')(hm:h<=m)(hm':h'<=m):Eq2 (a*p2 h'+a'*p2 h) (h+h') (a*2^(m-h).toNat+a'*2^(m-h').toNat) m:=by
 unfold Eq2
 rw[Y0p h0 h0']
 show _=(a*p2 (m-h)+a'*p2 (m-h'))*(p2 h*p2 h')
 have e1:=Z5a h0 hm
 have e2:=Z5a h0' hm'
 have l1:(a*p2 h'+a'*p2 h)*p2 m=a*p2 h'*p2 m+a'*p2 h*p2 m:=Int.add_mul ..
 rw[l1,show a*p2 h'*p2 m=a*p2 h'*(p2 (m-h)*p2 h) by rw[<-e1],show a'*p2 h*p2 m=a'*p2 h*(p2 (m-h')*p2 h') by rw[<-e2]]
 grind
theorem X4k (n:Nat):Sz (n+1) ((2:Int)^n):=by
 unfold Sz
 rw[Int.natAbs_pow]
 exact q2d (by decide) (q2l n)
theorem Y3f {a a' h h' m:Int}{n N:Nat}(hm:m-h<=h'/\m-h'<=h)(z:Sz n a)(z':Sz n a')(hN:n+h.toNat+h'.toNat+2<=N):Sz N (a*2^(m-h).toNat+a'*2^(m-h').toNat):=by
 refine((z.mul (X4k (m-h).toNat)).add (z'.mul (X4k (m-h').toNat))).mono ?_
 omega
structure In2 (K:U0) (n:Nat) (vs:List V) (H:Hp) (p q:W9) (a b c d h a' b' c' d' h':Int):Prop where
 vs:vs=[.ref p,.ref q]
 one:At5 K H p ((a,b,c,d),h)
 other:At5 K H q ((a',b',c',d'),h')
 h0:0<=h
 h0':0<=h'
 hh:h+h'<=40000
 hn:n<=500000
 z:Sz4 n a b c d
 z':Sz4 n a' b' c' d'
def Y1v (K:U0):Sp:=λvs H Q _=>∃ n p q a b c d h a' b' c' d' h',In2 K n vs H p q a b c d h a' b' c' d' h'/\∀ (r:W9) (H':Hp) (x y z u g:Int),Same H H'->H' r=some (T5 x y z u g)->Sum a b c d h a' b' c' d' h' x y z u g->Sz4 (n+h.toNat+h'.toNat+2) x y z u->Q (.ref r) H'
def Y3p (K:U0):Sp:=λvs H Q _=>∃ n p q a b c d h a' b' c' d' h',In2 K n vs H p q a b c d h a' b' c' d' h'/\∀ (r:W9) (H':Hp) (x y z u g:Int),Same H H'->H' r=some (T5 x y z u g)->Sum a b c d h (-a') (-b') (-c') (-d') h' x y z u g->Sz4 (n+h.toNat+h'.toNat+2) x y z u->Q (.ref r) H'
theorem sc_plus:FnScope ["one","other","h","up","other_up","sums"] ["one","other"] (Z0i (top 11)):=fS
theorem X6z (F:FunAt K "plus" (top 11) .none)(X:K.In h)(G:Ng h mg)(B:Bs mg)(cP:Cal P w K mg base k "halved_out" ["a","b","c","d","h"] spHalf):Cal P w K mg base (k+1) "plus" ["one","other"] (Y1v K):=by
 have nd:=sc_plus.nd
 refine F.cal X G sc_plus (bnd2 λ_ _ _ _ _ _ _ _=>rfl) (λvs H Q E h=>?_) (λf cdv A outer s H vs Q E hr h=>?_)
 ·obtain⟨n,p,q,a,b,c,d,h,a',b',c',d',h',I,_⟩:=h;rw[I.vs];rfl
 obtain⟨n,p,q,a,b,c,d,h,a',b',c',d',h',⟨rfl,e1,e2,h0,h0',hh,hn,z,z'⟩,kq⟩:=h
 have S:SqT K H p [.int a,.int b,.int c,.int d,.int h]:=e1
 have S':SqT K H q [.int a',.int b',.int c',.int d',.int h']:=e2
 refine⟨_,(@Z0e _ _ _ _ _ (@Z0q _ _ 2 _ _ _ _ nd rfl (Or.inl rfl) (Z0r (X0p rfl) rfl B.max boot_max (Z0a (Z0m Z0j (pv 0) Z0b (λ_ _=>rfl)) (Z0a (Z0m Z0j (pv 1) Z0b (λ_ _=>rfl)) Z0d))) rfl (.inl rfl))
  (@Z0e _ _ _ _ _ (@Z0q _ _ 3 _ _ _ _ nd rfl (Or.inr rfl) (Z0h Z1z (pv 2) (Z0m Z0j (pv 0) Z0b (λ_ _=>rfl))) rfl (.inl rfl))
  (@Z0e _ _ _ _ _ (@Z0q _ _ 4 _ _ _ _ nd rfl (Or.inr rfl) (Z0h Z1z (pv 2) (Z0m Z0j (pv 1) Z0b (λ_ _=>rfl))) rfl (.inl rfl))
  (@Z0e _ _ _ _ _ (Z3h (i:=5) rfl nd rfl rfl (LcOk.of (Nc:=["x","y","up","other_up"]) (mp:=[none,none,some 3,some 4]) (by kernel_rfl)) (W0c true true rfl B.zip (Z0a (Z2q Y7j (pv 0) Z5k (Z2i Z0b)) (Z0a (Z2q Y7j (pv 1) Z5k (Z2i Z0b)) Z0d))) (λ_ _ _ _=>(Z6e rfl (show (["x","y","up","other_up"]:W0).Nodup by decide +kernel) rfl rfl rfl rfl)) (λ_ _ _ _=>(Z0h Z1b (Z0h Z1t (pv 0) (pv 2)) (Z0h Z1t (pv 1) (pv 3)))) rfl)
  (@Z0f _ _ _ (Z0k (Z0l cP hr rfl (Z0a (Z0m Z0z (pv 5) Z0b (λ_ _=>rfl)) (Z0a (Z0m Z0z (pv 5) Z0b (λ_ _=>rfl)) (Z0a (Z0m Z0z (pv 5) Z0b (λ_ _=>rfl)) (Z0a (Z0m Z0z (pv 5) Z0b (λ_ _=>rfl)) (Z0a (pv 2) Z0d)))))))))))),?_⟩
 try dsimp only[cxK]
 refine⟨_,Z,p,_,_,_,Z,Z,S,Z,_,Z,q,_,_,_,Z,Z,S',Z,_,_,Z,?_⟩
 generalize hm:(if h'>h then h' else h)=m
 have m1:h<=m:=by rw[<-hm];split<;>omega
 have m2:h'<=m:=by rw[<-hm];split<;>omega
 have m3:m-h<=h'/\m-h'<=h/\m<=h+h':=by rw[<-hm];split<;>omega
 refine⟨_,Z,_,Z,p,_,_,_,Z,Z,S,Z,_,_,Z,Z,?_⟩
 refine⟨_,Z,_,Z,q,_,_,_,Z,Z,S',Z,_,_,Z,Z,?_⟩
 refine⟨_,Z,4,Z,p,_,Z,S,cut54,λl1 hl1=>?_⟩
 refine⟨_,Z,4,Z,q,_,Z,(Z0g hl1 _).tup S',cut54,λl2 hl2=>?_⟩
 have s2:Same H (upd (upd H l1 (.tup ([a,b,c,d].map V.int))) l2 (.tup ([a',b',c',d'].map V.int))):=(Z0g hl1 _).trans (Z0g hl2 _)
 refine⟨l1,l2,[a,b,c,d].map V.int,[a',b',c',d'].map V.int,Z,(Z0g hl2 _).tup (SqT.of Z0c),SqT.of Z0c,λacc hacc=>?_⟩
 refine X8c (K:=K) (ns:=[a,b,c,d]) (ms:=[a',b',c',d']) (fr:=[some (.int (m-h)),some (.int (m-h'))]) (λx y=>x*2^(m-h).toNat+y*2^(m-h').toNat) rfl (show 4<=sizeLine by decide) ((Z0g hl2 _).tup (SqT.of Z0c)) (SqT.of Z0c) hacc
  (λha hQ=>⟨_,_,Z,SqT.of ha,Z,_,_,Z,_,_,Z,Z,hQ⟩) ?_ ?_
 ·intro x y H2 N hx hy kN
  have zx:Sz n x:=by
   simp only[q0t,q1j,q3x] at hx
   rcases hx with rfl | rfl | rfl | rfl
   ·exact z.z1
   ·exact z.z2
   ·exact z.z3
   ·exact z.z4
  have zy:Sz n y:=by
   simp only[q0t,q1j,q3x] at hy
   rcases hy with rfl | rfl | rfl | rfl
   ·exact z'.z1
   ·exact z'.z2
   ·exact z'.z3
   ·exact z'.z4
  exact⟨_,Z,_,Z,_,_,Z,Z,⟨n,zx,(by omega),(by omega)⟩,_,Z,_,Z,_,_,Z,Z,⟨n,zy,(by omega),(by omega)⟩,_,_,Z,Z,kN⟩
 intro H2 s3 a3
 have SA:SqL K H2 acc ((List.zipWith (λx y=>x*2^(m-h).toNat+y*2^(m-h').toNat) [a,b,c,d] [a',b',c',d']).map V.int):=SqL.of a3
 refine⟨_,Z,acc,_,_,_,Z,Z,SA,Z,_,Z,acc,_,_,_,Z,Z,SA,Z,_,Z,acc,_,_,_,Z,Z,SA,Z,_,Z,acc,_,_,_,Z,Z,SA,Z,_,Z,_,_,_,_,_,Z,(by show 0<=m;omega),λr H' x y v u g s4 e4 r4=>?_⟩
 have hN:n+h.toNat+h'.toNat+2<=n+h.toNat+h'.toNat+2:=q0g _
 have m4:m-h<=h'/\m-h'<=h:=⟨m3.1,m3.2.1⟩
 refine kq r H' x y v u g (s2.trans (s3.trans s4)) e4 ⟨r4.amt,Same4.trans ⟨Y3g h0 h0' m1 m2,Y3g h0 h0' m1 m2,Y3g h0 h0' m1 m2,Y3g h0 h0' m1 m2⟩ r4.same,by have:=r4.le;rw[<-hm] at this;split at this<;>omega⟩ (r4.sz ⟨?_,?_,?_,?_⟩)
 ·exact Y3f m4 z.z1 z'.z1 hN
 ·exact Y3f m4 z.z2 z'.z2 hN
 ·exact Y3f m4 z.z3 z'.z3 hN
 ·exact Y3f m4 z.z4 z'.z4 hN
theorem sc_minus:FnScope ["one","other"] ["one","other"] (Z0i (top 12)):=fS
theorem X2h (F:FunAt K "minus" (top 12) .none)(X:K.In h)(G:Ng h mg)(e6:Cal P w K mg base k "plus" ["one","other"] (Y1v K))(cZ:Cal P w K mg base k "spun" ["one","k"] (Z6o K)):Cal P w K mg base (k+1) "minus" ["one","other"] (Y3p K):=by
 have nd:=sc_minus.nd
 refine F.cal X G sc_minus (bnd2 λ_ _ _ _ _ _ _ _=>rfl) (λvs H Q E h=>?_) (λf cdv A outer s H vs Q E hr h=>?_)
 ·obtain⟨n,p,q,a,b,c,d,h,a',b',c',d',h',I,_⟩:=h;rw[I.vs];rfl
 obtain⟨n,p,q,a,b,c,d,h,a',b',c',d',h',⟨rfl,e1,e2,h0,h0',hh,hn,z,z'⟩,kq⟩:=h
 refine⟨_,(@Z0f _ _ _ (Z0k (Z0l e6 hr rfl (Z0a (pv 0) (Z0a (Z0l cZ hr rfl (Z0a (pv 1) (Z0a Z0b Z0d))) Z0d))))),?_⟩
 try dsimp only[cxK]
 refine⟨_,Z,_,Z,q,_,_,_,_,_,_,Z,e2,λr H2 s2 er=>?_⟩
 have er':At5 K H2 r ((-a',-b',-c',-d'),h'):=er
 exact⟨n,p,r,a,b,c,d,h,-a',-b',-c',-d',h',⟨Z,e1.same s2,er',h0,h0',hh,hn,z,⟨z'.z1.neg,z'.z2.neg,z'.z3.neg,z'.z4.neg⟩⟩,λr' H3 x y v u g s3=>kq r' H3 x y v u g (s2.trans s3)⟩
end
end K63
namespace L2
def TEnt (P:Params)(e:DictEntry)(p:Str × Int):Prop:=∃ t u,e=⟨PyData.keyHash P p.1,.str p.1 t,.int p.2 u⟩
structure KDic (K:U0) (P:Params) (a:W9) (kvs:List (Str × Int)):Prop where
 ex:∃ o es ep,K.lookup a=some o/\o.ExactDict/\o.data=.dict es ep/\Paired (TEnt P) es.toList kvs
 nd:(kvs.map (·.1)).Nodup
 ns:(a == sysModules)=false
noncomputable def txt (p:Str × Int):Key × V:=(Sum.inr p.1,.int p.2)
theorem KDic.at {K:U0}{prog:U8}{w:W1}{a:W9}{kvs:List (Str × Int)}{h:Heap}(D:KDic K w.params a kvs)(X:K.In h):∃ vs,KV (kvs.map txt) vs/\h.DictOf (Z2a prog w) a vs:=by
 obtain⟨o,es,ep,hl,hx,hd,hp⟩:=D.ex
 have key:∀ {l:List DictEntry}{kvs:List (Str × Int)},Paired (TEnt w.params) l kvs->∃ vs:List (Key × Value),KV (kvs.map txt) vs/\Pairs (Z2a prog w) l vs:=by
  intro l kvs h
  induction h with
  | nil=>exact⟨[],.nil,.nil⟩
  | @cons e p l kvs he hr ih =>
   obtain⟨vs,a1,a2⟩:=ih
   obtain⟨t,u,rfl⟩:=he
   exact⟨(Sum.inr p.1,.int p.2 u)::vs,.cons ⟨Z,u,Z⟩ a1,.cons (Z7h p.1 t) rfl a2⟩
 have all:∀ {l:List DictEntry}{kvs:List (Str × Int)},Paired (TEnt w.params) l kvs->∀ e∈l,∃ p,TEnt w.params e p:=by
  intro l kvs h
  induction h with
  | nil=>intro e he;cases he
  | @cons e p l kvs he hr ih =>
   intro e' h'
   rcases q0t.mp h' with rfl | h'
   ·exact⟨p,he⟩
   ·exact ih e' h'
 obtain⟨vs,a1,a2⟩:=key hp
 refine⟨vs,a1,o,es,ep,X _ _ hl,hx,hd,?_,a2,?_⟩
 ·intro e he
  obtain⟨p,t,u,rfl⟩:=all hp e (Array.mem_toList_iff.mpr he)
  exact⟨Sum.inr p.1,Z7h p.1 t,Z⟩
 ·rw[<-a1.keys,q2v]
  have e:kvs.map ((λkv=>kv.1) ∘ txt)=(kvs.map (·.1)).map (Sum.inr:Str->Key):=by rw[q2v];rfl
  rw[e]
  exact q4f.mpr (D.nd.imp λh z=>h (Sum.inr.inj z))
noncomputable def numAt (kvs:List (Str × Int))(x:Str):Option V:=valV (kvs.map txt) (Sum.inr x)
def X6c (kvs:List (Str × Int))(ty:TE):TE:=λσ H Q=>ty σ H λy H1=>∃ x,y=.str x/\Q (.bl (!(numAt kvs x).isSome)) H1
def tKGet (kvs:List (Str × Int))(ty:TE):TE:=λσ H Q=>ty σ H λy H1=>∃ x v,y=.str x/\numAt kvs x=some v/\Q v H1
section
variable {X:Cx}{o i:Expr}{pos:Pos}{ty:TE}{aN:W9}{kvs:List (Str × Int)}
theorem Y7x (D:KDic X.K X.w.params aN kvs)(hi:PE X i ty)(ho:PE X o (tC (.ref aN))):PC X .NotIn i o (X6c kvs ty):=by
 intro pins s σ H Q I h
 refine thn (hi pins s σ H _ I h) λiv s1 ⟨y,H1,I1,ry,x,ey,q1⟩=>thn (ho pins s1 σ H1 (λv H2=>v=.ref aN/\H2=H1) I1 ⟨Z,Z⟩) λu s2 ⟨v,H2,I2,rv,ev,eh⟩=>?_
 subst ev eh ey
 cases rv
 obtain⟨vs,rel,dd⟩:=D.at (prog:=X.prog) (w:=X.w) I2.kIn
 refine wpAny_notIn_of (Y5z (k:=Sum.inr x) ry) D.ns dd.mapOf ?_
 rw[<-(rel.val (Sum.inr x)).isSome_eq]
 exact⟨.bl _,H2,I2.tok _,Z,q1⟩
theorem X6r (D:KDic X.K X.w.params aN kvs)(ho:PE X o (tC (.ref aN)))(hi:PE X i ty)(hs:NoSl i):PE X (.Subscript o i pos) (tKGet kvs ty):=by
 intro pins s σ H Q I h
 refine Y6p q7e.lookup hs (thn (ho pins s σ H (λv H2=>v=.ref aN/\H2=H) I ⟨Z,Z⟩) λu s1 ⟨v,H1,I1,rv,ev,eh⟩=>?_)
 subst ev eh
 cases rv
 refine thn (hi pins s1 σ H1 _ I1 h) λiv s2 ⟨y,H2,I2,ry,x,w',ey,g,q2⟩=>?_
 subst ey
 obtain⟨vs,rel,dd⟩:=D.at (prog:=X.prog) (w:=X.w) I2.kIn
 obtain⟨u,hw,ru⟩:=RelO.some_of (v:=w') (o:=valueAt vs (Sum.inr x)) (by rw[<-g];exact rel.val (Sum.inr x))
 exact⟨dd.typeIs,wpAny_getItem_of (Y5z (k:=Sum.inr x) ry) dd.mapOf hw ⟨w',H2,I2.tok _,ru,q2⟩⟩
end
end L2
namespace L2
noncomputable abbrev unlike (ns:U6):Nat:=(firstMet (λi=>ns.getD i 0) ns.length).length
noncomputable abbrev fresh0 (led:Bool):Obj:={ cls:=.type "set",dict:=none,data:=.set #[] 0 (.fresh 0 0 led) }
def SetEnd (prog:U8)(w:W1)(s:U7)(ns:U6)(S:Int->Bool)(s':U7):Prop :=
 ∃ h' tk,s'={ s with heap:=h',toks:=tk }/\h'.SetOf (intKind prog w) s.heap.objs.size S (unlike ns)/\∀ b o,s.heap.get? b=some o->h'.get? b=some o
section
variable {prog:U8}{w:W1}{A:W6}{E:U2}{s:U7}{p:W9}{its:U9}{ns:U6}
theorem X3o (hh:A.handled=none)(ht:s.heap.IsTuple p its)(hi:IntsAre its.toList ns)(hb:ns.length+1<scanBound)(led:Bool){R:Result->Shared->Prop}
  (h:∀ s',SetEnd prog w s ns (λk=>(firstMet (λi=>ns.getD i 0) ns.length).any (· == k)) s'->R (.ok (.ret .none)) s') :
  codeAny (model prog w) A (.builtin "set.update.loop" ⟨[.ref s.heap.objs.size,.ref (s.heap.push (fresh0 led)).objs.size],[]⟩) R { s with heap:=(s.heap.push (fresh0 led)).push { cls:=.type "tuple_iterator",data:=.fields #[.ref p,.int 0 0] } }:=by
 obtain⟨o,ho,hc,n,hd⟩:=id ht
 have lt:p<s.heap.objs.size:=q0j ho
 have e1:(s.heap.push (fresh0 led)).objs.size=s.heap.objs.size+1:=q2n ..
 have hz:its.size=ns.length:=by rw[<-q1s];exact hi.length
 have W:=(Walks.tuple (prog:=prog) (w:=w) (A:=A.in1) (by simp[hh]) (s.heap.push (fresh0 led)).objs.size p (by rw[e1];exact q0x (q3d lt)) its).toS
 have t1:(s.heap.push (fresh0 led)).IsTuple p its:=⟨o,q0f _ ho,hc,n,hd⟩
 refine codeAny_set_update_loopS W s.heap.objs.size (by rw[e1];simp only[q0t,q1j,q3x,not_or];exact⟨q0x (q2l _),q3p lt⟩) (λi=>ns.getD i 0) (λi v q=>hi.int_at i v (by rw[q8p];exact q)) (by rw[hz];exact hb) its.size 0 _ rfl (q1l _)
  ⟨⟨_,q0q _ rfl,Z,Z⟩,t1.push _⟩ ?_ ?_
 ·have g:((s.heap.push (fresh0 led)).push { cls:=.type "tuple_iterator",data:=.fields #[.ref p,.int 0 0] }).get? s.heap.objs.size=some (fresh0 led):=q0f _ (q0q _ rfl)
  exact SetOf_congr ((setObjOf_fresh (knd:=intKind prog w) led).setOf g (by unfold scanBound;omega)) (λ_=>rfl) rfl
 ·intro s' hm hS
  rw[hz] at hS
  obtain⟨h',g',d',tk',os'⟩:=s'
  obtain rfl:g'=s.gens:=hm.gens
  obtain rfl:d'=s.drawn:=hm.drawn
  obtain rfl:os'=s.os:=hm.os
  refine h _ ⟨h',tk',Z,hS,λb o e=>?_⟩
  have lb:=q0j e
  exact hm.heap b o (by rw[e1];simp only[q0t,q1j,q3x,not_or];exact⟨q0x lb,q0x (q3d lb)⟩) (q0f _ (q0f _ e))
theorem X3h (hh:A.handled=none)(ht:s.heap.IsTuple p its)(hi:IntsAre its.toList ns)(hb:ns.length+1<scanBound)(led:Bool){R:U2}
  (h:∀ s',SetEnd prog w s ns (λk=>(firstMet (λi=>ns.getD i 0) ns.length).any (· == k)) s'->R .none s') :
  codeAny (model prog w) A (.call (.builtin "set.__init__") ⟨[.ref s.heap.objs.size,.ref p],[]⟩) (wants R E) { s with heap:=s.heap.push (fresh0 led) }:=by
 have ty:Shared.TypeIs { s with heap:=s.heap.push (fresh0 led) } (.ref s.heap.objs.size) "set":=⟨_,q0q _ rfl,Z⟩
 obtain⟨o,ho,hc,n,hd⟩:=id ht
 obtain⟨ocls,odict,odata,oslots⟩:=o
 simp only at hc hd
 subst hc hd
 have ho1:(s.heap.push (fresh0 led)).get? p=some { cls:=.type "tuple",dict:=odict,data:=.seq its n,slots:=oslots }:=q0f _ ho
 have t1:(s.heap.push (fresh0 led)).IsTuple p its:=⟨_,ho1,Z,n,Z⟩
 have n1:=F.sub_tuple_set
 have n2:=F.sub_tuple_frozenset
 have n3:(Value.type "tuple" == Value.type "dict")=false:=by decide
 refine codeAny_call_builtin F.called_set.init.plain F.entry_set_init (check_set_init_1 ty ?_)
 unfold Builtin.«set.__init__» noKeywords Builtin.Frozenset.updateFrom
 generalize hP:pyIter=PI
 wp_walk
 subst hP
 refine q5k t1 (q0e (q8s (X3o (by simp[hh]) ht hi hb led λs' e=>?_)))
 exact q0s (q0s (h _ e))
theorem X6h (hh:A.handled=none)(ht:s.heap.IsTuple p its)(hi:IntsAre its.toList ns)(hb:ns.length+1<scanBound){Q:U2}
  (h:∀ s',SetEnd prog w s ns (λk=>(firstMet (λi=>ns.getD i 0) ns.length).any (· == k)) s'->Q (.ref s.heap.objs.size) s'):wpAny (model prog w) A (call (.type "set") [.ref p]) Q E s:=by
 obtain⟨c,tl,hmro⟩:=F.called_set.mro
 have m1:=F.called_set.made
 have m2:=F.called_set.sub
 have m3:=F.called_set.notType
 have m4:=F.called_set.canCreate
 have m5:=F.typeCall_set_1 (.ref p)
 refine wpAny_call (codeAny_of_tree ?_)
 show wpAny _ _ (callAny (.type "set") _) _ _ _
 refine q0s ⟨Code.quiet_builtin _ (by decide +kernel),q5n F.entry_type_call ?_⟩
 rw[Around.under_plain (weight_type_call_type "set" [.ref p] []) rfl]
 repeat any_goals first | assumption | wp_step
 refine q6e (code_set_new_1 (.ref p) (E:=E) (Q₁:=λob s₁=>∃ led:Bool,ob=.ref s.heap.objs.size/\s₁={ s with heap:=s.heap.push (fresh0 led) }) λled=>⟨led,Z,Z⟩) λr s₁ hr=>?_
 rcases r with e | fl
 ·exact hr
 cases fl with
 | ret ob =>
  obtain⟨led,rfl,rfl⟩:=hr
  have ty:Shared.TypeIs { s with heap:=s.heap.push (fresh0 led) } (.ref s.heap.objs.size) "set":=⟨_,q0q _ rfl,Z⟩
  have i1:=F.called_set.init.lookup
  have i2:=F.called_set.init.bind (.ref s.heap.objs.size)
  repeat any_goals first | assumption | wp_step
  refine q6e (X3h (E:=E) (R:=λr s'=>r=.none/\SetEnd prog w s ns (λk=>(firstMet (λi=>ns.getD i 0) ns.length).any (· == k)) s') (by simp[hh]) ht hi hb led λs' e=>⟨Z,e⟩) λr₂ s₂ hr₂=>?_
  rcases r₂ with e | fl₂
  ·exact hr₂
  cases fl₂ with
  | ret r =>
   obtain⟨rfl,e⟩:=hr₂
   repeat any_goals first | assumption | wp_step
   exact h _ e
  | next=>exact hr₂.elim
  | brk=>exact hr₂.elim
  | cont=>exact hr₂.elim
 | next=>exact hr.elim
 | brk=>exact hr.elim
 | cont=>exact hr.elim
end
theorem Z7i:∀ {ns:U6}{us:U5},Vals (ns.map V.int) us->IntsAre us ns
 | [],_,.nil=>.nil
 | n::ns,_,.cons r rs=>by
  obtain⟨t,rfl⟩:=r
  exact .cons n t (Z7i rs)
section
variable {X:Cx}
theorem X0l (hc:X.calm=true):CallR X (.type "set") (λxs H Q=>∃ (p:W9) (ns:U6),xs=[.ref p]/\SqT X.K H p (ns.map V.int)/\ns.length<64/\∀ (l:W9) (S:Int->Bool),H l=none->Q (.ref l) (upd H l (.set S (unlike ns)))):=by
 intro pins s σ H xs us Q I r h
 obtain⟨p,ns,rfl,hS,h64,q⟩:=h
 obtain⟨u,rfl,rx⟩:=vals1 r
 cases rx
 obtain⟨its,rv,ht,_⟩:=I.tuple hS
 obtain⟨o,ho,hcl,n,hd⟩:=ht
 refine X6h (I.ok.hd hc) ⟨o,ho,hcl,n,hd⟩ (ns:=ns) (Z7i (by simpa using rv)) (by unfold scanBound;omega) λs' ⟨h',tk,e,hs,hk⟩=>?_
 subst e
 exact⟨.ref s.heap.objs.size,_,I.laid (o:=.set _ (unlike ns)) (t':=tk) hk (q0g _) hs,Z,q _ _ (I.hok.fresh (q0g _))⟩
theorem Y1h:CallR X (.builtin "len") (λxs H Q=>∃ (p:W9) (S:Int->Bool) (n:Nat),xs=[.ref p]/\H p=some (.set S n)/\n<64/\Q (.int n) H):=by
 intro pins s σ H xs us Q I r h
 obtain⟨p,S,n,rfl,hp,h64,q⟩:=h
 obtain⟨u,rfl,rx⟩:=vals1 r
 cases rx
 have hs:s.heap.SetOf (intKind X.prog X.w) p S n:=I.hok p _ hp
 obtain⟨o,ho,hso⟩:=hs.objOf
 obtain⟨hex,es,ep,t,hd,_,_,hn,hf⟩:=hso
 subst hn
 exact call_len_set ho hex hd hf (by omega) ⟨.int es.size,H,(I.tok _).tok _,⟨_,Z⟩,q⟩
end
end L2
namespace L2
section
variable {X:Cx}{e st:Expr}{lo hi:Option Expr}{te:TE}{tl th ts:TO}{p2 pos:Pos}
end
end L2
namespace HT
section
variable {prog:U8}{w:W1}{A:W6}{E:U2}{s:U7}
theorem Z5p {t sl:W9}{items:U9}{vl vu:W2}{lo hi:Option Int}{Q:U2}(ht:IsTup s.heap t items)(hs:s.heap.IsSliceOf sl vl vu .none)(pl:IsPart vl lo)(pu:IsPart vu hi)
  (h1:sIx items.size 0 lo=0) (h2:sIx items.size items.size hi=items.size) (h:Q (.ref t) s):wpAny (model prog w) A (getItem (.ref t) (.ref sl)) Q E s:=by
 obtain⟨os,hos,hcs,hds⟩:=id hs
 have ty:s.TypeIs (.ref sl) "slice":=⟨os,hos,hcs⟩
 unfold getItem
 try with_reducible refine q3w ?_
 first | refine q0e (q0s ?_) | skip
 refine q0e (wpAny_sequenceKey ht.typeIs (by decide) (q0e (q5l (name:=Str.ofString "__getitem__") ht.typeIs PyProof.Rows.slot_tuple_getitem (q5c PyProof.Rows.slot_tuple_getitem ht.typeIs entry_tuple_getitem ?_ (args_tuple_getitem _ _)))))
 show wpAny _ _ (Builtin.Tuple.tupleItemsOf (.ref t) >>= _) _ _ s;refine q0e (tupleItemsOf_ ht (q0e (q7z ty ?_)));rw[if_pos (by decide)]
 refine q0e (Z3w hs pl pu ?_)
 show wpAny _ _ (if (((sIx items.size 0 lo:Nat):Int) == 0 && (1:Int) == 1 && (sIx items.size items.size hi-sIx items.size 0 lo) == items.size)=true then _ else _) _ _ s;rw[if_pos (by rw[h1,h2];simp)]
 refine q0e ?_
 unfold Builtin.Tuple.tupleIsExact
 refine q0e (q7z ht.typeIs (q0s ?_))
 rw[if_pos (by decide)]
 exact q0e (wpAny_rule (q0s ⟨_,Z,q0s h⟩))
end
end HT
namespace L2
section
variable {X:Cx}
def rSlA (K:U0):V->Option Int->Option Int->Hp->VK->Prop:=λx lo hi H Q=>∃ a xs,x=.ref a/\SqT K H a xs ∧
 ((HT.sIx xs.length 0 lo=0/\HT.sIx xs.length xs.length hi=xs.length)/\Q (.ref a) H∨¬ (HT.sIx xs.length 0 lo=0/\HT.sIx xs.length xs.length hi=xs.length)/\∀ p,H p=none->Q (.ref p) (upd H p (.tup (cutV xs lo hi))))
theorem Z8t:SlR X (rSlA X.K):=by
 intro pins s σ H x v vl vu lo hi sl Q I rx hs pl pu h
 obtain⟨a,xs,rfl,hx,⟨hw,q⟩ | ⟨hw,q⟩⟩:=h
 ·cases rx
  obtain⟨its,r,ht,hz⟩:=I.tuple hx
  have hlen:=r.length
  refine⟨"tuple",_,slot_tuple_getitem.lookup,ht.typeIs,HT.Z5p ht hs pl pu (by rw[q0m,<-hlen];exact hw.1) (by rw[q0m,<-hlen];exact hw.2) ⟨.ref a,H,I,Z,q⟩⟩
 ·exact Y7j pins s σ H _ v vl vu lo hi sl Q I rx hs pl pu ⟨a,xs,Z,hx,hw,q⟩
end
end L2
namespace L2
theorem Y6o {prog:U8}{w:W1}{A:W6}{env:Env}{c:Expr}{s:U7}{Q:Bool->Shared->Prop}(h:wpAny (model prog w) A (isTrue c env (eval c env)) Q Calm s) :
  wpAny (model prog w) A (forIn [c] true λc r=>if r=true then do let ok ← isTrue c env (eval c env);pure (ForInStep.yield ok) else pure (ForInStep.yield r)) Q Calm s:=wpAny_tests_one h
theorem Z7q {prog:U8}{w:W1}{A:W6}{R:Result->Shared->Prop}{s:U7}{e t i c:Expr}{sc:Scope}{pos:Pos}{it acc:W2}{env:Env}(J:Nat->Shared->Prop)
  (turn:∀ n s,J n s->wpAny (model prog w) A (pyNext it) (λr s1=>(r=none->R (.ok .next) s1)/\∀ v,r=some v →
   wpAny (model prog w) A (letOwnedTupleGo t it v) (λ_ s2=>wpAny (model prog w) A (assign t env v) (λ_ s3=>wpAny (model prog w) A (isTrue c env (eval c env)) (λok s3'=>if ok=true then wpAny (model prog w) A (eval e env) (λx s4 =>
    wpAny (model prog w) A (call (.builtin "list.append") [acc,x]) (λ_ s5=>∃ m,m<n/\J m s5) Calm s4) Calm s3' else ∃ m,m<n/\J m s3') Calm s3) Calm s2) Calm s1) Calm s)
  (n:Nat) (h:J n s):codeAny (model prog w) A (.compLoop (.ListComp e [⟨t,i,[c],0⟩] sc pos) 0 it acc env) R s:=by
 have eq:=compTurn_list e t i [c] sc pos it acc env
 refine codeAny_loop rfl J (λn s j=>wpAny_noted (m:=compTurn (.ListComp e [⟨t,i,[c],0⟩] sc pos) 0 it acc env) ?_) n h
 rw[eq]
 refine q0e (q5j (thenC (turn n s j) λr s1 q=>?_))
 match r,q with
 | none,q=>exact q0s (q.1 rfl)
 | some v,q =>
  refine thenC (q.2 v rfl) λ_ s2 q2=>thenC q2 λ_ s3 q3=>thenC (Y6o q3) λok s4 q4=>?_
  cases ok with
  | false=>exact q0s ⟨rfl,q4⟩
  | true=>exact q0e (thenC q4 λx s5 q5=>thenC q5 λ_ s6 q6=>q0s (q0s ⟨rfl,q6⟩))
def LcWF (J:It)(g:TG)(tc:TT)(te:TE)(σ:St)(H:Hp)(acc:W9)(Q:VK):Prop:=∃ W:Nat->Nat->List V->St->Hp->Prop,(∃ m,W 0 m [] σ (upd H acc (.lst []))) ∧
 ∀ i m ys σ2 H2,W i m ys σ2 H2->(J.stop i H2/\Q (.ref acc) H2)∨(J.go i H2/\∀ x H3,J.yld i H2 x H3->g x σ2 H3 λσ4 H4=>tc σ4 H4 λb H5 =>
  (b=true->te σ4 H5 λy H6=>H6 acc=some (.lst ys)/\ys.length<sizeLine/\∃ m',m'<m/\W (i+1) m' (ys++[y]) σ4 (upd H6 acc (.lst (ys++[y]))))/\(b=false->∃ m',m'<m/\W (i+1) m' ys σ4 H5))
def tLcF (mp:W7)(wi:TI)(g:TG)(tc:TT)(te:TE):TE:=λσ H Q=>wi σ H λJ H1=>∀ acc,H1 acc=none->LcWF J g tc te (sub mp σ) H1 acc Q
section
variable {X:Cx}{elt tg iter cond:Expr}{scope:Scope}{pos:Pos}{wi:TI}{g:TG}{tc:TT}{te:TE}{Nc:W0}{mp:W7}
theorem Y9h (hc:X.calm=true)(S:LcOk X.N X.env.scope scope Nc mp)(hg:∀ ex pins s H,PG (cxLc X scope Nc ex pins s H) tg g)(ht:∀ ex pins s H,PT (cxLc X scope Nc ex pins s H) cond tc)(he:∀ ex pins s H,PE (cxLc X scope Nc ex pins s H) elt te)
  {pins:U1}{σ:St}{H2:Hp}{s2:U7}{E:U2}{it:W9}{fp:U3}{tn:Nat->Heap->Prop}{J:It}{Q:VK}{RR:Value->Addr->Result->Shared->Prop}
  (I2:Inv X pins σ H2 s2) (T:Turn X.prog X.w X.K tg J fp it tn) (st2:tn 0 s2.heap) (f2:∀ b∈fp,FpOk X pins H2 b)
  (q:∀ acc,H2 acc=none->LcWF J g tc te (sub mp σ) H2 acc Q)
  (fin:∀ acc C H' s' m',Q (.ref acc) H'->Inv X pins σ H' s'->s'.heap.Ns C m'->H' C=none->X.s₀.heap.objs.size<=C->C≠X.env.locals->(∀ x c,X.env.cells.lookup x=some c->c≠C)->(∀ p∈X.pn++pins,p.1≠C)->RR (.ref acc) C (.ok .next) s') :
  wpAny (model X.prog X.w) X.A (newList []) (λacc s₃=>wpAny (model X.prog X.w) X.A (newFunctionEnv scope X.env.globals (clo scope.names X.env.cells) [] X.env.qual none .none (some X.env)) (λcenv s₄ =>
   codeAny (model X.prog X.w) X.A (.compStart (.ListComp elt [⟨tg,iter,[cond],0⟩] scope pos) 0 (.ref it) acc { cenv with scope:=relabel scope X.env }) (RR acc cenv.locals) s₄) E s₃) E s2:=by
 refine q3q (wpAny_newFunctionEnv S.nocell (by intro y hy;simp at hy) (λh₁ hns₁ hsb₁=>?_) S.kind)
 dsimp only at hns₁ hsb₁ ⊢
 have I3:=I2.lnew (its:=[]) (ys:=[]) (t':=s2.toks) .nil (q1l _)
 have hacc:H2 s2.heap.objs.size=none:=I2.fresh
 obtain⟨W,⟨m0,w0⟩,turn⟩:=q s2.heap.objs.size hacc
 have hpush:(s2.heap.push { cls:=.type "list",dict:=none,data:=.seq ([]:U5).toArray }).objs.size=s2.heap.objs.size+1:=q2n ..
 have hlt:∀ b∈fp,b<s2.heap.objs.size:=λb hb=>by
  obtain⟨o,e,_⟩:=T.obj _ _ st2 b hb
  exact q0j e
 have f3:∀ b∈fp,FpOk X pins (upd H2 s2.heap.objs.size (.lst [])) b:=λb hb=>⟨by rw[Z0x (q0x (hlt b hb))];exact(f2 b hb).1,(f2 b hb).2⟩
 have I3':Inv X pins σ (upd H2 s2.heap.objs.size (.lst [])) (Z0t s2):=I3
 have hsz:(Z0t s2).heap.objs.size=s2.heap.objs.size+1:=hpush
 have hlt3:∀ b∈fp,b<(Z0t s2).heap.objs.size:=λb hb=>by rw[hsz];exact q3d (hlt b hb)
 have k3:∀ b o,(Z0t s2).heap.get? b=some o->h₁.get? b=some o:=λb o e=>hsb₁.extBut b o (q0x (q0j e)) (q0f _ e)
 have Ic:=Y4o (tk:=(Z0t s2).toks) I3' S f3 hlt3 hns₁ k3
 have st3:tn 0 h₁:=T.keep _ _ _ st2 λb hb o e=>k3 b o (q0f _ e)
 have cC:X.s₀.heap.objs.size<=(Z0t s2).heap.objs.size:=I3'.sz
 have cL:(Z0t s2).heap.objs.size≠X.env.locals:=q3p I3'.lt
 have cc:∀ x c,X.env.cells.lookup x=some c->c≠(Z0t s2).heap.objs.size:=λx c e=>by
  obtain⟨v,o,ho,_⟩:=I3'.cell x c e
  exact q0x (q0j ho)
 have cp:∀ p∈X.pn++pins,p.1≠(Z0t s2).heap.objs.size:=λp hp=>q0x (q0j (I3'.pin p hp).1)
 have stat:∀ {H':Hp},(∀ b∈fp,H' b=none)->∀ b∈fp,FpOk (cxLc X scope Nc fp pins (Z0t s2) (upd H2 s2.heap.objs.size (.lst []))) [] H' b:=λhn b hb =>
  ⟨hn b hb,q0x (hlt3 b hb),λz=>by
   rcases q0t.mp (I3'.stkSub b z) with e | e
   ·exact(f3 b hb).2.1 e
   ·exact(f3 b hb).2.2.1 e,.inl hb,λx c e=>(f3 b hb).2.2.2.2.1 x c (Z6a I3' S e),λp hp=>(f3 b hb).2.2.2.2.2 p (by
    have:p∈(X.pn++pins)++[]:=hp
    simpa using this)⟩
 have loop:∀ s4:Shared,s4={ (Z0t s2) with heap:=h₁,toks:=(Z0t s2).toks } →
   codeAny (model X.prog X.w) X.A (.compLoop (.ListComp elt [⟨tg,iter,[cond],0⟩] scope pos) 0 (.ref it) (.ref s2.heap.objs.size) (cxLc X scope Nc fp pins (Z0t s2) (upd H2 s2.heap.objs.size (.lst []))).env)
    (RR (.ref s2.heap.objs.size) (Z0t s2).heap.objs.size) s4:=by
  rintro s4 rfl
  refine Z7q (λn s'=>∃ i ys σ' H',Inv (cxLc X scope Nc fp pins (Z0t s2) (upd H2 s2.heap.objs.size (.lst []))) [] σ' H' s'/\tn i s'.heap/\(∀ b∈fp,H' b=none)/\W i n ys σ' H') ?_ m0
   ⟨0,[],sub mp σ,_,Ic,st3,λb hb=>(f3 b hb).1,w0⟩
  rintro n s5 ⟨i,ys,σ5,H5,I5,st5,fr5,w5⟩
  rcases turn i n ys σ5 H5 w5 with ⟨stop,qn⟩ | ⟨go,step⟩
  ·refine q2c (T.done (cxLc X scope Nc fp pins (Z0t s2) (upd H2 s2.heap.objs.size (.lst []))) rfl rfl rfl hc i [] s5 σ5 H5 (λ_ _=>False) I5 (stat fr5) st5 stop) (λr s6 ⟨hr,I6⟩=>?_) λ_ _ f=>f.elim
   subst hr
   obtain⟨m6,hn6,_⟩:=I6.loc
   refine⟨λ_=>?_,λ_ z=>nomatch z⟩
   exact fin _ _ H5 s6 m6 qn (X4z I3' f3 I6) hn6 I6.free cC cL cc cp
  ·refine q2c (T.item (cxLc X scope Nc fp pins (Z0t s2) (upd H2 s2.heap.objs.size (.lst []))) rfl rfl rfl hc i [] s5 σ5 H5 (λ_ _=>False) I5 (stat fr5) st5 go) (λr s6 ⟨u,hr,h6⟩=>?_) λ_ _ f=>f.elim
   subst hr
   refine⟨(λz=>by cases z),?_⟩
   rintro _ ⟨⟩
   refine q2c h6 (λ_ s7 ⟨x,H7,I7,r7,y7,st7,fr7⟩=>?_) λ_ _ f=>f.elim
   have I7':=I7.pinned (stat fr7) (T.obj _ _ st7)
   refine q2c (hg _ _ _ _ _ s7 σ5 H7 x u _ I7' r7 (step x H7 y7)) (λ_ s8 ⟨σ8,H8,I8,q8⟩=>?_) λ_ _ f=>f.elim
   refine q2c (ht _ _ _ _ _ s8 σ8 H8 _ I8 q8) (λbb s9 ⟨H9,I9,p9,n9⟩=>?_) λ_ _ f=>f.elim
   have keeps:∀ {H':Hp}{s':U7},Inv (cxLc X scope Nc fp pins (Z0t s2) (upd H2 s2.heap.objs.size (.lst []))) ([]++pinsAt fp s7.heap) σ8 H' s'->tn (i+1) s'.heap/\∀ b∈fp,H' b=none:=λ{H' s'} J' =>
    ⟨T.keep _ _ _ st7 λb hb o e=>(J'.pin (b,o) (q0n _ (q0n _ (Z2y hb e)))).1,λb hb=>by
     obtain⟨o,e,d⟩:=T.obj _ _ st7 b hb
     exact(J'.pin (b,o) (q0n _ (q0n _ (Z2y hb e)))).2.1⟩
   cases bb with
   | false =>
    obtain⟨m',hm',w9⟩:=n9 rfl
    rw[if_neg q0p]
    exact⟨m',hm',i+1,ys,σ8,H9,I9.unpinned,(keeps I9).1,(keeps I9).2,w9⟩
   | true =>
    rw[if_pos rfl]
    refine q2c (he _ _ _ _ _ s9 σ8 H9 _ I9 (p9 rfl)) (λv s10 ⟨y,H10,I10,r10,a10,l10,m',hm',w10⟩=>?_) λ_ _ f=>f.elim
    refine q2c (Z3d (X:=cxLc X scope Nc fp pins (Z0t s2) (upd H2 s2.heap.objs.size (.lst []))) _ s10 σ8 H10 (.ref s2.heap.objs.size) [y] (.ref s2.heap.objs.size) [v] (λz Hz=>z=.non/\Hz=upd H10 s2.heap.objs.size (.lst (ys++[y]))) I10 rfl (.cons r10 .nil) ⟨_,ys,y,Z,Z,a10,l10,Z,Z⟩) (λv11 s11 ⟨z,H11,I11,_,_,e11⟩=>?_) λ_ _ f=>f.elim
    subst e11
    exact⟨m',hm',i+1,ys++[y],σ8,_,I11.unpinned,(keeps I11).1,(keeps I11).2,w10⟩
 exact q7v (loop _ rfl) (T.self _ 0 _ _ _ st3 (loop _ rfl))
theorem Y4c (hc:X.calm=true)(S:LcOk X.N X.env.scope scope Nc mp)(hi:PI X tg iter wi)(hg:∀ ex pins s H,PG (cxLc X scope Nc ex pins s H) tg g)(ht:∀ ex pins s H,PT (cxLc X scope Nc ex pins s H) cond tc)(he:∀ ex pins s H,PE (cxLc X scope Nc ex pins s H) elt te)
  (hf:∀ x,foldedSetIterable iter X.env x=pure x:=by intro _;rfl):PE X (.ListComp elt [⟨tg,iter,[cond],0⟩] scope pos) (tLcF mp wi g tc te):=by
 intro pins s σ H Q I h
 rw[eval_ListComp]
 refine q4e (use:=none) rfl hf (Z4j (Z5d I S)) S.kind S.names (thn (hi pins s σ H _ I h) λv s1 h1=>thn h1 λitv s2 h2=>?_)
 obtain⟨it,fp,tn,J,H2,e,I2,T,st2,f2,q⟩:=h2
 subst e
 refine Y9h (RR:=λacc C=>compPost (model X.prog X.w) X.A X.xe none (EP X pins σ Q) acc C) hc S hg ht he I2 T st2 f2 q ?_
 intro acc C H' s' m' qq I' hn hC c1 c2 c3 c4
 refine⟨m',hn,λh' hs=>⟨.ref acc,H',?_,Z,qq⟩⟩
 exact I'.turnedNew (t':=s'.toks) (λb o hb e=>hs.extBut b o hb e) hC c1 c2 c3 c4
theorem Z4y {i:Nat}{x:Str}{pos' spos:Pos}(hc:X.calm=true)(hN:X.N.Nodup)(hi':X.N[i]?=some x)(hx:X.env.scope.names.lookup x=some .local)(S:LcOk X.N X.env.scope scope Nc mp)(hi:PI X tg iter wi)
  (hg:∀ ex pins s H,PG (cxLc X scope Nc ex pins s H) tg g) (ht:∀ ex pins s H,PT (cxLc X scope Nc ex pins s H) cond tc) (he:∀ ex pins s H,PE (cxLc X scope Nc ex pins s H) elt te)
  (hsw:swapsWith (.ListComp elt [⟨tg,iter,[cond],0⟩] scope pos) (some (.Name x pos')) spos.line X.env=pure true)
  (hf:∀ x,foldedSetIterable iter X.env x=pure x:=by intro _;rfl):PS X (.Assign [.Name x pos'] (.ListComp elt [⟨tg,iter,[cond],0⟩] scope pos) spos) (tAsg (tLcF mp wi g tc te) (gName i)):=by
 intro pins s σ H D I h
 rw[q8c _ _ _ _ hsw]
 refine q0e (q5j (q0e ?_))
 show wpAny _ X.A (do let _ ← comprehension (.ListComp elt [⟨tg,iter,[cond],0⟩] scope pos) scope X.env _ (newList []) false (eval iter X.env) (some (assign (.Name x pos') X.env))) _ _ s
 refine q0e (q2c (q4e (use:=some (assign (.Name x pos') X.env)) (Q:=λ_ s'=>SP X pins D .next s') rfl hf (Z4j (Z5d I S)) S.kind S.names
  (thn (hi pins s σ H _ I h) λv s1 h1=>thn h1 λitv s2 h2=>?_)) (λ_ s' hq=>q0s (q0s hq)) λ_ _ e=>e)
 obtain⟨it,fp,tn,J,H2,e,I2,T,st2,f2,q⟩:=h2
 subst e
 refine Y9h (Q:=λx H1=>gName i x σ H1 D.nx) (RR:=λacc C=>compPost (model X.prog X.w) X.A X.xe (some (assign (.Name x pos') X.env)) (λ_ s'=>SP X pins D .next s') acc C) hc S hg ht he I2 T st2 f2 q ?_
 intro acc C H' s' m' qq I' hn hC c1 c2 c3 c4
 show wpAny _ X.A (assign (.Name x pos') X.env (.ref acc)) _ _ _
 refine q7f (Z6m (v:=.ref acc) I' hN hi' (.inl hx) rfl (λs5 I5 ⟨a,hs5,ha⟩=>?_) (.inr hx))
 have hCa:C≠a:=by
  rcases ha with z | z
  ·rw[z];exact c2
  ·exact Ne.symm (c3 x a z)
 refine⟨m',hn.sameBut hs5 hCa,λh' hs=>⟨σ.set i (some (.ref acc)),H',?_,qq⟩⟩
 exact I5.turnedNew (t':=s5.toks) (λb o hb e=>hs.extBut b o hb e) hC c1 c2 c3 c4
end
def tTruI (t:TE):TT:=λσ H Q=>t σ H λx H'=>∃ i,x=.int i/\Q (i != 0) H'
theorem Z2m {X:Cx}{a:Expr}{ta:TE}(ha:PE X a ta)(he:∀ whole,isTrue a X.env whole=(do let v ← whole;standAt a.pos;holding [v] (truthy v))):PT X a (tTruI ta):=by
 intro pins s σ H Q I h
 refine isTrue_plain (thn (ha pins s σ H _ I h) λv s1 ⟨x,H1,I1,r1,i,e,q1⟩=>?_) (he _)
 subst e
 exact X9s pins s1 σ H1 (.int i) v Q I1 r1 ⟨_,Z,q1⟩
theorem Z5e {lo:Int}{n:Nat}{tc:TT}{te:TE}{fr:St}{H1:Hp}{acc:W9}{Q:VK}(Pv:Nat->List V->Hp->Prop)(hn:n<=sizeLine)(h0:Pv 0 [] (upd H1 acc (.lst [])))
  (hs:∀ i ys H (N:Bool->Hp->Prop),i<n->ys.length<=i->Pv i ys H->(∀ b H5,(b=true->te (some (.int (lo+i))::fr) H5 λy H6=>H6 acc=some (.lst ys)/\Pv (i+1) (ys++[y]) (upd H6 acc (.lst (ys++[y]))))->(b=false->Pv (i+1) ys H5)->N b H5)->tc (some (.int (lo+i))::fr) H N)
  (mono:∀ {σ H}{R R':VK},(∀ v H,R v H->R' v H)->te σ H R->te σ H R')
  (hd:∀ ys H,Pv n ys H->Q (.ref acc) H):LcWF (Itr lo n) (gName 0) tc te (none::fr) H1 acc Q:=by
 refine⟨λi m ys σ2 H2=>m=n-i/\i<=n/\ys.length<=i/\(∃ v,σ2=v::fr)/\Pv i ys H2,⟨n,by simp,q1l _,q0g _,⟨_,Z⟩,h0⟩,?_⟩
 rintro i m ys σ2 H2 ⟨rfl,hi,hl,⟨v,rfl⟩,p⟩
 by_cases hlt:i<n
 ·refine .inr ⟨hlt,λx H3 y3=>?_⟩
  obtain⟨rfl,rfl⟩:=y3
  show tc ((v::fr).set 0 (some (.int (lo+i)))) _ _
  rw[List.set_cons_zero]
  refine hs i ys _ _ hlt hl p λb H5 ht hf=>⟨λe=>mono (λy H6 q=>?_) (ht e),λe=>⟨n-(i+1),by omega,Z,hlt,by omega,⟨_,Z⟩,hf e⟩⟩
  exact⟨q.1,by omega,n-(i+1),by omega,Z,hlt,by rw[q1d];simp;omega,⟨_,Z⟩,q.2⟩
 ·have e:i=n:=by omega
  subst e
  exact .inl ⟨q0g _,hd ys H2 p⟩
end L2
namespace K63
open L2 Am Pc Ba
theorem Z2w {X:Cx}{st:Stmt}:PS X st (λ_ _ _=>False):=λ_ _ _ _ _ _ h=>h.elim
theorem Z3z {ns:U6}(h:ns.Nodup):unlike ns=ns.length:=by
 have key:∀ i,i<=ns.length->(firstMet (λi=>ns.getD i 0) i).length=i:=by
  intro i
  induction i with
  | zero=>intro _;rfl
  | succ i ih =>
   intro hi
   rw[firstMet_succ,step_length,firstMet_any,if_neg,ih (by omega)]
   intro z
   obtain⟨y,hy,e⟩:=q6i.mp z
   obtain⟨j,hj,rfl⟩:=q1q.mp hy
   have hj:=q1o.mp hj
   have e:ns.getD j 0=ns.getD i 0:=by simpa using e
   rw[q0b,q0b,q0d (by omega),q0d (by omega)] at e
   have:=(List.getElem_inj h).mp e
   omega
 exact key _ (q0g _)
noncomputable abbrev NB:List (Str × Int):=[("flip",1),("mix",1),("turn",2),("if",2),("pair",2),("swap",2),("cross",3)]
noncomputable abbrev MvT (nm:Str)(ns:U6):HO:=.tup (.str nm::ns.map V.int)
noncomputable def named (nm:Str)(ns:U6):List Int:=if nm="turn" then ns.take 1 else ns
structure Form (nm:Str) (ns:U6):Prop where
 num:numAt NB nm=some (.int ns.length)
 len:ns.length<=3
 turn:nm="turn"->∃ a k,ns=[a,k]/\1<=k/\k<=7
structure Fits (nm:Str) (ns:U6) (c:Nat):Prop where
 form:Form nm ns
 low:∀ a∈named nm ns,0<=a/\a<c
 nd:(named nm ns).Nodup
def Y0g:Sp:=λvs H Q _=>∃ (p:W9) (nm:Str) (ns:U6),vs=[.ref p]/\H p=some (MvT nm ns)/\Form nm ns/\∀ H',Same H H'->Q (.bl true) H'
def Y1x:Sp:=λvs H Q _=>∃ (p:W9) (nm:Str) (ns:U6),vs=[.ref p]/\H p=some (MvT nm ns)/\Form nm ns/\∀ (r:W9) (H':Hp),Same H H'->H' r=some (.tup ((named nm ns).map V.int))->Q (.ref r) H'
def Y7b:Sp:=λvs H Q _=>∃ (p:W9) (nm:Str) (ns:U6) (c:Nat),vs=[.ref p,.int c]/\H p=some (MvT nm ns)/\Fits nm ns c/\∀ H',Same H H'->Q (.ref p) H'
def Z6s (K:U0):Sp:=λvs H Q _=>∃ (l:W9) (xs:List V) (c:Nat),vs=[.ref l]/\SqL K H l xs/\xs.length=2^c/\c<=6/\Q (.int c) H
theorem Z9t {c:Nat}(h:c<=6):Builtin.Int.intBits (((2^c:Nat):Int))=c+1:=by
 have:c=0∨c=1∨c=2∨c=3∨c=4∨c=5∨c=6:=by omega
 rcases this with rfl | rfl | rfl | rfl | rfl | rfl | rfl<;>decide +kernel
theorem at0 {x:V}{xs:List V}:atI (x::xs) 0=some x:=Z3m (show (x::xs)[0]?=some x from rfl)
theorem Y0s {x:V}{xs:List V}:HT.sIx (x::xs).length 0 (some 1)=1:=by
 have:=HT.Y7l (x::xs).length 0 1
 rw[show ((1:Nat):Int)=1 from rfl] at this
 rw[this]
 simp
theorem X0e {x:V}{xs:List V}:cutV (x::xs) (some 1) none=xs:=by
 unfold cutV
 rw[Y0s]
 have e2:HT.sIx (x::xs).length (x::xs).length none=(x::xs).length:=rfl
 rw[e2]
 simp
theorem W1c (K:U0):PySem.W.kitOne K (.type "str") (.type "str")=some true:=by unfold PySem.W.kitOne;rw[if_pos (by decide)]
section
variable {P:U8}{w:W1}{K:U0}{mg:U4}{base:Heap}{k:Nat}{h:Heap}
theorem sc_iswhole:FnScope ["thing"] ["thing"] (Z0i (top 8)):=fS
theorem Y5t (F:FunAt K "is_whole" (top 8) .none)(X:K.In h)(G:Ng h mg)(B:Bs mg):Cal P w K mg base (k+1) "is_whole" ["thing"] Z3j:=by
 have nd:=sc_iswhole.nd
 refine F.cal X G sc_iswhole (bnd1 λ_ _ _ _ _ _ _=>rfl) (λvs H Q E h=>?_) (λf cdv A outer s H vs Q E hr h=>?_)
 ·obtain⟨i,rfl,_⟩:=h;rfl
 obtain⟨i,rfl,q⟩:=h
 refine⟨_,(@Z0f _ _ _ (Z0k (Z5y (Z0r Z1r rfl B.isinstance q2w (Z0a (pv 0) (Z0a (Z3l (v:=.ty "int") rfl B.int boot_int rfl) Z0d))) (Z4l (Y4b (Z0r Z1r rfl B.isinstance q2w (Z0a (pv 0) (Z0a (Z3l (v:=.ty "bool") rfl B.bool boot_bool rfl) Z0d)))))))),?_⟩
 try dsimp only[cxK]
 refine⟨_,Z,_,_,_,true,Z,TyOf.int i,X5b K,_,Z,iteT ?_⟩
 exact⟨_,Z,_,_,_,false,Z,TyOf.int i,X5c K,_,Z,q⟩
theorem sc_cellsof:FnScope ["board"] ["board"] (Z0i (top 31)):=fS
theorem Y5w (F:FunAt K "cells_of" (top 31) .none)(X:K.In h)(G:Ng h mg)(B:Bs mg):Cal P w K mg base (k+1) "cells_of" ["board"] (Z6s K):=by
 have nd:=sc_cellsof.nd
 refine F.cal X G sc_cellsof (bnd1 λ_ _ _ _ _ _ _=>rfl) (λvs H Q E h=>?_) (λf cdv A outer s H vs Q E hr h=>?_)
 ·obtain⟨l,xs,c,rfl,_⟩:=h;rfl
 obtain⟨l,xs,c,rfl,hl,len,c6,q⟩:=h
 refine⟨_,(@Z0f _ _ _ (Z0k (Z0h Z1z (Z5x q2j q1p q1x Z2t (Z0r Z0u rfl B.len q1h (Z0a (pv 0) Z0d))) Z0b))),?_⟩
 try dsimp only[cxK]
 refine⟨_,Z,l,_,Z,.inl hl,Z,_,Z,Z,_,_,Z,Z,?_⟩
 show Q (.int (((Builtin.Int.intBits ((xs.length:Nat):Int):Nat):Int)-1)) H
 rw[len,Z9t c6,show (((c+1:Nat):Int)-1)=(c:Int) by omega]
 exact q
theorem sc_named:FnScope ["move"] ["move"] (Z0i (top 61)):=fS
theorem X2e (F:FunAt K "named_cells" (top 61) .none)(X:K.In h)(G:Ng h mg)(B:Bs mg):Cal P w K mg base (k+1) "named_cells" ["move"] Y1x:=by
 have nd:=sc_named.nd
 refine F.cal X G sc_named (bnd1 λ_ _ _ _ _ _ _=>rfl) (λvs H Q E h=>?_) (λf cdv A outer s H vs Q E hr h=>?_)
 ·obtain⟨p,nm,ns,rfl,_⟩:=h;rfl
 obtain⟨p,nm,ns,rfl,hp,FO,kq⟩:=h
 have SP:SqT K H p (.str nm::ns.map V.int):=SqT.of hp
 refine⟨_,(@Z0f _ _ _ (Z0k (Z2j (Z0n Z1k (Z0m Z0j (pv 0) Z0b (λ_ _=>rfl)) Z1l (nomark _)) (Z2q Z8t (pv 0) (Z2i Z0b) (Z2i Z0b)) (Z2q Z8t (pv 0) (Z2i Z0b) Z5k)))),?_⟩
 try dsimp only[cxK]
 refine⟨_,Z,p,_,_,.str nm,Z,Z,SP,at0,Z,_,Z,decI (λz=>?_) (λz=>?_)⟩
 ·have e:nm="turn":=V.str.inj z
  obtain⟨a,kk,rfl,_⟩:=FO.turn e
  refine⟨_,Z,_,Z,_,Z,p,_,Z,SP,.inr ⟨λc=>absurd c.1 (by rw[Y0s];decide),λr hr=>kq r _ (Z0g hr _) ?_⟩⟩
  rw[Z0c]
  unfold named
  rw[if_pos e]
  rfl
 ·have e:nm≠"turn":=λc=>z (by rw[c])
  refine⟨_,Z,_,Z,p,_,Z,SP,.inr ⟨λc=>absurd c.1 (by rw[Y0s];decide),λr hr=>kq r _ (Z0g hr _) ?_⟩⟩
  rw[Z0c,X0e]
  unfold named
  rw[if_neg e]
theorem sc_form:FnScope ["thing"] ["thing"] (Z0i (top 60)):=fS
theorem X7j (F:FunAt K "has_move_form" (top 60) .none)(X:K.In h)(G:Ng h mg)(B:Bs mg){aN:W9}(gN:mg "NUMBERS_BEHIND"=some (.ref aN))(DN:KDic K w.params aN NB)(c9:Cal P w K mg base k "is_whole" ["thing"] Z3j) :
  Cal P w K mg base (k+1) "has_move_form" ["thing"] Y0g:=by
 have nd:=sc_form.nd
 refine F.cal X G sc_form (bnd1 λ_ _ _ _ _ _ _=>rfl) (λvs H Q E h=>?_) (λf cdv A outer s H vs Q E hr h=>?_)
 ·obtain⟨p,nm,ns,rfl,_⟩:=h;rfl
 obtain⟨p,nm,ns,rfl,hp,FO,kq⟩:=h
 have SP:SqT K H p (.str nm::ns.map V.int):=SqT.of hp
 have l3:=FO.len
 have lm:(V.str nm::ns.map V.int).length=ns.length+1:=by rw[q3k,q0a]
 refine⟨_,(@Z0e _ _ _ _ _ (Z0w (PW.pt (Z3y (Z1y (Z1n (Z0r Z1r rfl B.isinstance q2w (Z0a (pv 0) (Z0a (Z3l (v:=.ty "tuple") rfl B.tuple boot_tuple rfl) Z0d))))) (Z3x (Z0n Z1k (Z0r Z0u rfl B.len q1h (Z0a (pv 0) Z0d)) Z0b (nomark _)))))
   (@Z0f _ _ _ (Z0k Z3g))
   Z0o)
  (@Z0e _ _ _ _ _ (Z0w (PW.pt (Z3y (Z1y (Z1n (Z0r Z1r rfl B.isinstance q2w (Z0a (Z0m Z0j (pv 0) Z0b (λ_ _=>rfl)) (Z0a (Z3l (v:=.ty "str") rfl B.str boot_str rfl) Z0d))))) (Z3x (X4n (Y7x DN (Z0m Z0j (pv 0) Z0b (λ_ _=>rfl)) (Z3c (v:=.ref aN) rfl gN rfl))))))
   (@Z0f _ _ _ (Z0k Z3g))
   Z0o)
  (@Z0e _ _ _ _ _ (Z0w (Z0n Z4n (Z0r Z0u rfl B.len q1h (Z0a (pv 0) Z0d)) (Z0h Z1b Z0b (X6r DN (Z3c (v:=.ref aN) rfl gN rfl) (Z0m Z0j (pv 0) Z0b (λ_ _=>rfl)) (λ_ _=>rfl))) (nomark _))
   (@Z0f _ _ _ (Z0k Z3g))
   Z0o)
  (@Z0e _ _ _ _ _ (Z0w (Z1y (Z1n (Z0r (Z2f rfl) rfl B.all q6o (Z0a (Z3k rfl (LcOk.of (Nc:=["number"]) (mp:=[none]) (by kernel_rfl)) (Y3z (Z2q Z8t (pv 0) (Z2i Z0b) Z5k)) (λ_ _ _ _=>(Z0p (i:=0) (show (["number"]:W0).Nodup by decide +kernel) rfl (Or.inl rfl))) (λ_ _ _ _=>(Z0l c9 hr rfl (Z0a (pv 0) Z0d)))) Z0d))))
   (@Z0f _ _ _ (Z0k Z3g))
   Z0o)
  (@Z0f _ _ _ (Z0k (W0e (Z1p Z4n (Z0m Z0j (pv 0) Z0b (λ_ _=>rfl)) Z1l (nomark _)) (Z4l (Z5y (Z1p Y8c (Z0m Z0j (pv 0) Z0b (λ_ _=>rfl)) Z0b (nomark _)) (Z4l (Z1p W0j (Z0m Z0j (pv 0) Z0b (λ_ _=>rfl)) Z0b (nomark _)))))))))))),?_⟩
 try dsimp only[cxK]
 refine⟨_,Z,_,_,_,true,Z,TyOf.tup hp,Y4s K,_,Z,iteF ⟨_,Z,p,_,Z,.inr SP,Z,_,Z,eqI (λz=>absurd z (by rw[lm];omega)) (λ_=>?_)⟩⟩
 refine⟨_,Z,p,_,_,.str nm,Z,Z,SP,at0,_,_,_,true,Z,TyOf.str nm,W1c K,_,Z,iteF ⟨_,Z,p,_,_,.str nm,Z,Z,SP,at0,nm,Z,_,Z,?_⟩⟩
 rw[FO.num]
 refine iteF ⟨_,Z,p,_,Z,.inr SP,_,Z,p,_,_,.str nm,Z,Z,SP,at0,nm,_,Z,FO.num,_,_,Z,Z,Z,_,Z,neI (λz=>absurd (by rw[lm];omega) z) (λ_=>?_)⟩
 refine⟨_,Z,_,Z,p,_,Z,SP,.inr ⟨λc=>absurd c.1 (by rw[Y0s];decide),λr hr=>?_⟩⟩
 rw[X0e]
 have s1:=Z0g hr (.tup (ns.map V.int))
 refine⟨r,Z,⟨_,SqT.of Z0c⟩,λacc hacc=>?_⟩
 refine Y2o (K:=K) (λ_=>.bl true) (SqT.of Z0c) (t64 (by omega)) hacc (λn H2 N hn S2 kN=>⟨_,Z,n,Z,kN⟩) (λH3 S3 a3=>?_)
 have e:ns.map (λ_=>V.bl true)=(ns.map λ_=>true).map V.bl:=by rw[q2v];rfl
 rw[e] at a3
 have S03:=s1.trans S3
 have SP3:SqT K H3 p (.str nm::ns.map V.int):=SqT.of (S03 _ _ hp)
 refine⟨acc,_,Z,SqL.of a3,_,Z,nblI (λz=>absurd z (by simp)) (λ_=>?_)⟩
 refine⟨_,Z,p,_,_,.str nm,Z,Z,SP3,at0,Z,_,Z,nblI (λ_=>kq _ S03) (λz=>?_)⟩
 obtain⟨a,kk,rfl,k1,k7⟩:=FO.turn (V.str.inj (q1u z))
 refine⟨_,Z,p,_,_,.int kk,Z,Z,SP3,Z,_,_,Z,Z,_,Z,decI (λ_=>?_) (λz=>absurd k1 z)⟩
 refine⟨_,Z,p,_,_,.int kk,Z,Z,SP3,Z,_,_,Z,Z,?_⟩
 show Q (.bl (decide (kk<=7))) H3
 rw[q1f k7]
 exact kq _ S03
theorem sc_check:FnScope ["move","cells","named"] ["move","cells"] (Z0i (top 59)):=fS
theorem X2n (F:FunAt K "check_move" (top 59) .none)(X:K.In h)(G:Ng h mg)(B:Bs mg)(dB:Cal P w K mg base k "has_move_form" ["thing"] Y0g)(cM:Cal P w K mg base k "named_cells" ["move"] Y1x) :
  Cal P w K mg base (k+1) "check_move" ["move","cells"] Y7b:=by
 have nd:=sc_check.nd
 refine F.cal X G sc_check (bnd2 λ_ _ _ _ _ _ _ _=>rfl) (λvs H Q E h=>?_) (λf cdv A outer s H vs Q E hr h=>?_)
 ·obtain⟨p,nm,ns,c,rfl,_⟩:=h;rfl
 obtain⟨p,nm,ns,c,rfl,hp,FI,kq⟩:=h
 have l3:(named nm ns).length<=3:=by
  have:=FI.form.len
  unfold named
  split
  ·rw[q2b];omega
  ·exact this
 refine⟨_,(@Z0e _ _ _ _ _ (Z0w (Z1y (Z1n (Z0l dB hr rfl (Z0a (pv 0) Z0d))))
   (@Z0f _ _ _ Z2w)
   Z0o)
  (@Z0e _ _ _ _ _ (@Z0q _ _ 2 _ _ _ _ nd rfl (Or.inl rfl) (Z0l cM hr rfl (Z0a (pv 0) Z0d)) rfl (.inl rfl))
  (@Z0e _ _ _ _ _ (Z0w (Z1n (Z0r (Y1i rfl) rfl B.any boot_any (Z0a (Z3k rfl (LcOk.of (Nc:=["cell","cells"]) (mp:=[none,some 1]) (by kernel_rfl)) (Y3z (pv 2)) (λ_ _ _ _=>(Z0p (i:=0) (show (["cell","cells"]:W0).Nodup by decide +kernel) rfl (Or.inl rfl))) (λ_ _ _ _=>(W0e (Z1p Z7c (pv 0) Z0b (nomark _)) (Z4l (Z1p Y8c (pv 0) (pv 1) (nomark _)))))) Z0d)))
   (@Z0f _ _ _ Z2w)
   Z0o)
  (@Z0e _ _ _ _ _ (Z0w (Z0n Z4n (Z0r Y1h rfl B.len q1h (Z0a (Z4z (X0l rfl) rfl B.set boot_set (Z0a (pv 2) Z0d)) Z0d)) (Z0r Z0u rfl B.len q1h (Z0a (pv 2) Z0d)) (nomark _))
   (@Z0f _ _ _ Z2w)
   Z0o)
  (@Z0f _ _ _ (Z0k (pv 0))))))),?_⟩
 try dsimp only[cxK]
 refine⟨_,Z,p,nm,ns,Z,hp,FI.form,λH1 S1=>⟨_,Z,iteF ?_⟩⟩
 refine⟨_,Z,p,nm,ns,Z,S1 _ _ hp,FI.form,λr H2 S2 hr=>?_⟩
 have SR:SqT K H2 r ((named nm ns).map V.int):=SqT.of hr
 refine⟨_,Z,r,Z,⟨_,SR⟩,λacc hacc=>?_⟩
 refine Y2o (K:=K) (λ_=>.bl false) SR (t64 (by omega)) hacc (λn H2 N hn S2 kN=>?_) (λH3 S3 a3=>?_)
 ·obtain⟨n0,nc⟩:=FI.low n hn
  refine⟨_,Z,_,_,Z,Z,_,Z,decI (λz=>absurd z (by omega)) (λ_=>?_)⟩
  refine⟨_,Z,_,Z,_,_,Z,Z,?_⟩
  show N (.bl (decide ((c:Int)<=n))) _
  rw[q0w (by omega)]
  exact kN
 have e:(named nm ns).map (λ_=>V.bl false)=((named nm ns).map λ_=>false).map V.bl:=by rw[q2v];rfl
 rw[e] at a3
 refine⟨acc,_,Z,SqL.of a3,_,Z,?_⟩
 rw[show ((named nm ns).map λ_=>false).any id=false by simp]
 refine iteF ?_
 refine⟨_,Z,r,_,Z,S3.tup SR,by omega,λl S hl=>?_⟩
 have s4:=Z0g hl (.set S (unlike (named nm ns)))
 have un:=Z3z FI.nd
 refine⟨l,S,_,Z,Z0c,by omega,_,Z,r,_,Z,.inr (s4.tup (S3.tup SR)),Z,_,Z,neI (λz=>absurd (by rw[un,q0a]) z) (λ_=>?_)⟩
 exact⟨_,Z,kq _ (((S1.trans S2).trans S3).trans s4)⟩
end
inductive Mv where
 | flip (a:Nat)
 | turn (a k:Nat)
 | iff (a b:Nat)
 | pair (a b:Nat)
 | swap (a b:Nat)
 | cross (a b d:Nat)
noncomputable def exch (w a b:Nat):Nat:=if w&&&(2^a ||| 2^b)=2^a∨w&&&(2^a ||| 2^b)=2^b then w^^^(2^a ||| 2^b) else w
namespace Mv
noncomputable def nm:Mv->Str
 | flip _=>"flip"
 | turn _ _=>"turn"
 | iff _ _=>"if"
 | pair _ _=>"pair"
 | swap _ _=>"swap"
 | cross _ _ _=>"cross"
noncomputable def ns:Mv->List Int
 | flip a=>[(a:Int)]
 | turn a k=>[(a:Int),(k:Int)]
 | iff a b=>[(a:Int),(b:Int)]
 | pair a b=>[(a:Int),(b:Int)]
 | swap a b=>[(a:Int),(b:Int)]
 | cross a b d=>[(a:Int),(b:Int),(d:Int)]
def Ok (c:Nat):Mv->Prop
 | flip a=>a<c
 | turn a k=>a<c/\1<=k/\k<=7
 | iff a b=>a<c/\b<c/\a≠b
 | pair a b=>a<c/\b<c/\a≠b
 | swap a b=>a<c/\b<c/\a≠b
 | cross a b d=>a<c/\b<c/\d<c/\a≠b/\a≠d/\b≠d
noncomputable def to (w:Nat):Mv->Nat
 | flip a=>w^^^2^a
 | iff a b=>if w&&&2^a=0 then w else w^^^2^b
 | swap a b=>exch w a b
 | cross a b d=>if w&&&2^a=0 then w else exch w b d
 | _=>w
noncomputable def sp (w:Nat):Mv->Nat
 | turn a k=>if w&&&2^a=2^a then k else 0
 | pair a b=>if w&&&(2^a ||| 2^b)=(2^a ||| 2^b) then 4 else 0
 | _=>0
end Mv
noncomputable abbrev at2 (w a:Nat):Nat:=w / 2^a%2
noncomputable def c1 (c a w:Nat):Bool:=decide ((Mv.flip a).to w<2^c) && decide ((Mv.flip a).to ((Mv.flip a).to w)=w) && decide ((w:Int)+(1-2*(at2 w a:Int))*((2^a:Nat):Int)=((Mv.flip a).to w:Nat)) &&
 decide ((if w&&&2^a=2^a then 1 else 0)=at2 w a)
noncomputable def c2 (c a b w:Nat):Bool:=decide (a=b) || (decide ((Mv.iff a b).to w<2^c) && decide ((Mv.iff a b).to ((Mv.iff a b).to w)=w) && decide ((w:Int)+(at2 w a:Int)*(1-2*(at2 w b:Int))*((2^b:Nat):Int)=((Mv.iff a b).to w:Nat)) &&
 decide ((Mv.swap a b).to w<2^c) && decide ((Mv.swap a b).to ((Mv.swap a b).to w)=w) && decide ((w:Int)+((at2 w b:Int)-(at2 w a:Int))*(((2^a:Nat):Int)-((2^b:Nat):Int))=((Mv.swap a b).to w:Nat)) &&
 decide (4*at2 w a*at2 w b=(Mv.pair a b).sp w))
noncomputable def c3 (c a b d w:Nat):Bool:=decide (a=b) || decide (a=d) || decide (b=d) || (decide ((Mv.cross a b d).to w<2^c) && decide ((Mv.cross a b d).to ((Mv.cross a b d).to w)=w) &&
 decide ((w:Int)+(at2 w a:Int)*((at2 w d:Int)-(at2 w b:Int))*(((2^b:Nat):Int)-((2^d:Nat):Int))=((Mv.cross a b d).to w:Nat)))
theorem W2f:((List.range 7).all λc=>(List.range c).all λa=>(List.range (2^c)).all λw=>c1 c a w)=true:=by decide +kernel
theorem W2e:((List.range 7).all λc=>(List.range c).all λa=>(List.range c).all λb=>(List.range (2^c)).all λw=>c2 c a b w)=true:=by decide +kernel
theorem W2d:((List.range 7).all λc=>(List.range c).all λa=>(List.range c).all λb=>(List.range c).all λd=>(List.range (2^c)).all λw=>c3 c a b d w)=true:=by decide +kernel
theorem get1 {p:Nat->Bool}{n i:Nat}(h:(List.range n).all p=true)(hi:i<n):p i=true:=q2m.mp h i (q1o.mpr hi)
section
variable {c a b d w:Nat}
theorem W4c (hc:c<=6)(ha:a<c)(hw:w<2^c):c1 c a w=true:=get1 (get1 (get1 W2f (by omega:c<7)) ha) hw
theorem W4b (hc:c<=6)(ha:a<c)(hb:b<c)(hw:w<2^c):c2 c a b w=true:=get1 (get1 (get1 (get1 W2e (by omega:c<7)) ha) hb) hw
theorem W4a (hc:c<=6)(ha:a<c)(hb:b<c)(hd:d<c)(hw:w<2^c):c3 c a b d w=true:=get1 (get1 (get1 (get1 (get1 W2d (by omega:c<7)) ha) hb) hd) hw
theorem X5g (hc:c<=6)(ha:a<c)(hw:w<2^c):(Mv.flip a).to w<2^c/\(Mv.flip a).to ((Mv.flip a).to w)=w/\(w:Int)+(1-2*(at2 w a:Int))*((2^a:Nat):Int)=((Mv.flip a).to w:Nat)/\(if w&&&2^a=2^a then 1 else 0)=at2 w a:=by
 have:=W4c hc ha hw
 unfold c1 at this
 simp only[q1g,q2f] at this
 exact⟨this.1.1.1,this.1.1.2,this.1.2,this.2⟩
theorem X3p (hc:c<=6)(ha:a<c)(hb:b<c)(n:a≠b)(hw:w<2^c):((Mv.iff a b).to w<2^c/\(Mv.iff a b).to ((Mv.iff a b).to w)=w/\(w:Int)+(at2 w a:Int)*(1-2*(at2 w b:Int))*((2^b:Nat):Int)=((Mv.iff a b).to w:Nat)) ∧
  ((Mv.swap a b).to w<2^c/\(Mv.swap a b).to ((Mv.swap a b).to w)=w/\(w:Int)+((at2 w b:Int)-(at2 w a:Int))*(((2^a:Nat):Int)-((2^b:Nat):Int))=((Mv.swap a b).to w:Nat))/\4*at2 w a*at2 w b=(Mv.pair a b).sp w:=by
 have:=W4b hc ha hb hw
 unfold c2 at this
 rw[q0w n,q5u] at this
 simp only[q1g,q2f] at this
 obtain⟨⟨⟨⟨⟨⟨h1,h2⟩,h3⟩,h4⟩,h5⟩,h6⟩,h7⟩:=this
 exact⟨⟨h1,h2,h3⟩,⟨h4,h5,h6⟩,h7⟩
theorem Y9x (hc:c<=6)(ha:a<c)(hb:b<c)(hd:d<c)(n1:a≠b)(n2:a≠d)(n3:b≠d)(hw:w<2^c):(Mv.cross a b d).to w<2^c/\(Mv.cross a b d).to ((Mv.cross a b d).to w)=w ∧
  (w:Int)+(at2 w a:Int)*((at2 w d:Int)-(at2 w b:Int))*(((2^b:Nat):Int)-((2^d:Nat):Int))=((Mv.cross a b d).to w:Nat):=by
 have:=W4a hc ha hb hd hw
 unfold c3 at this
 rw[q0w n1,q0w n2,q0w n3,q5u,q5u,q5u] at this
 simp only[q1g,q2f] at this
 exact⟨this.1.1,this.1.2,this.2⟩
end
theorem Mv.to_lt {v:Mv}{c w:Nat}(hc:c<=6)(h:v.Ok c)(hw:w<2^c):v.to w<2^c:=by
 cases v with
 | flip a=>exact(X5g hc h hw).1
 | turn a k=>exact hw
 | iff a b=>exact(X3p hc h.1 h.2.1 h.2.2 hw).1.1
 | pair a b=>exact hw
 | swap a b=>exact(X3p hc h.1 h.2.1 h.2.2 hw).2.1.1
 | cross a b d=>exact(Y9x hc h.1 h.2.1 h.2.2.1 h.2.2.2.1 h.2.2.2.2.1 h.2.2.2.2.2 hw).1
theorem Mv.to_to {v:Mv}{c w:Nat}(hc:c<=6)(h:v.Ok c)(hw:w<2^c):v.to (v.to w)=w:=by
 cases v with
 | flip a=>exact(X5g hc h hw).2.1
 | turn a k=>rfl
 | iff a b=>exact(X3p hc h.1 h.2.1 h.2.2 hw).1.2.1
 | pair a b=>rfl
 | swap a b=>exact(X3p hc h.1 h.2.1 h.2.2 hw).2.1.2.1
 | cross a b d=>exact(Y9x hc h.1 h.2.1 h.2.2.1 h.2.2.2.1 h.2.2.2.2.1 h.2.2.2.2.2 hw).2.1
theorem Mv.fits {v:Mv}{c:Nat}(h:v.Ok c):Fits v.nm v.ns c:=by
 cases v with
 | flip a =>
  have e:named "flip" [(a:Int)]=[(a:Int)]:=by unfold named;rw[if_neg (by decide +kernel)]
  have h:a<c:=h
  exact⟨⟨(show numAt NB "flip"=some (.int ((1:Nat):Int)) by decide +kernel),(show 1<=3 by decide),λz=>absurd (show ("flip":Str)="turn" from z) (by decide +kernel)⟩,by show ∀ x∈named "flip" [(a:Int)],_;rw[e];intro b hb;rw[q0r.mp hb];omega,by show (named "flip" [(a:Int)]).Nodup;rw[e];simp⟩
 | turn a k =>
  have e:named "turn" [(a:Int),(k:Int)]=[(a:Int)]:=by unfold named;rw[if_pos rfl];rfl
  have h:a<c/\1<=k/\k<=7:=h
  exact⟨⟨(show numAt NB "turn"=some (.int ((2:Nat):Int)) by decide +kernel),(show 2<=3 by decide),λ_=>⟨a,k,Z,by omega,by omega⟩⟩,by show ∀ x∈named "turn" [(a:Int),(k:Int)],_;rw[e];intro b hb;rw[q0r.mp hb];omega,by show (named "turn" [(a:Int),(k:Int)]).Nodup;rw[e];simp⟩
 | iff a b =>
  have e:named "if" [(a:Int),(b:Int)]=[(a:Int),(b:Int)]:=by unfold named;rw[if_neg (by decide +kernel)]
  have h:a<c/\b<c/\a≠b:=h
  exact⟨⟨(show numAt NB "if"=some (.int ((2:Nat):Int)) by decide +kernel),(show 2<=3 by decide),λz=>absurd (show ("if":Str)="turn" from z) (by decide +kernel)⟩,by show ∀ x∈named "if" [(a:Int),(b:Int)],_;rw[e];intro x hx;simp at hx;omega,by show (named "if" [(a:Int),(b:Int)]).Nodup;rw[e];simp;omega⟩
 | pair a b =>
  have e:named "pair" [(a:Int),(b:Int)]=[(a:Int),(b:Int)]:=by unfold named;rw[if_neg (by decide +kernel)]
  have h:a<c/\b<c/\a≠b:=h
  exact⟨⟨(show numAt NB "pair"=some (.int ((2:Nat):Int)) by decide +kernel),(show 2<=3 by decide),λz=>absurd (show ("pair":Str)="turn" from z) (by decide +kernel)⟩,by show ∀ x∈named "pair" [(a:Int),(b:Int)],_;rw[e];intro x hx;simp at hx;omega,by show (named "pair" [(a:Int),(b:Int)]).Nodup;rw[e];simp;omega⟩
 | swap a b =>
  have e:named "swap" [(a:Int),(b:Int)]=[(a:Int),(b:Int)]:=by unfold named;rw[if_neg (by decide +kernel)]
  have h:a<c/\b<c/\a≠b:=h
  exact⟨⟨(show numAt NB "swap"=some (.int ((2:Nat):Int)) by decide +kernel),(show 2<=3 by decide),λz=>absurd (show ("swap":Str)="turn" from z) (by decide +kernel)⟩,by show ∀ x∈named "swap" [(a:Int),(b:Int)],_;rw[e];intro x hx;simp at hx;omega,by show (named "swap" [(a:Int),(b:Int)]).Nodup;rw[e];simp;omega⟩
 | cross a b d =>
  have e:named "cross" [(a:Int),(b:Int),(d:Int)]=[(a:Int),(b:Int),(d:Int)]:=by unfold named;rw[if_neg (by decide +kernel)]
  have h:a<c/\b<c/\d<c/\a≠b/\a≠d/\b≠d:=h
  exact⟨⟨(show numAt NB "cross"=some (.int ((3:Nat):Int)) by decide +kernel),(show 3<=3 by decide),λz=>absurd (show ("cross":Str)="turn" from z) (by decide +kernel)⟩,by show ∀ x∈named "cross" [(a:Int),(b:Int),(d:Int)],_;rw[e];intro x hx;simp at hx;omega,by show (named "cross" [(a:Int),(b:Int),(d:Int)]).Nodup;rw[e];simp;omega⟩
end K63
namespace L2
theorem intsBy:∀ {us:U5}{ks:U6},us.length=ks.length->(∀ (j:Nat) u,us[j]?=some u->∃ (k:Int) (t:Tok),ks[j]?=some k/\u=Value.int k t)->IntsAre us ks
 | [],[],_,_=>.nil
 | u::us,k::ks,hl,h=>by
  obtain⟨k',t,e,rfl⟩:=h 0 u rfl
  cases e
  exact .cons _ _ (intsBy (Nat.succ.inj hl) λj u q=>h (j+1) u q)
def Gath (s:U7)(P:Nat->Value->Prop)(n:Nat)(q:Result)(s':U7):Prop:=q=.ok (.ret (.ref s.heap.objs.size))/\∃ h' tk,s'={ s with heap:=h',toks:=tk }/\(∀ b o,s.heap.get? b=some o->h'.get? b=some o) ∧
 ∃ acc c,ItemsOf P acc n/\h'.get? s.heap.objs.size=some { cls:=.type "list",dict:=none,data:=.seq acc c,slots:=#[] }
theorem gather {prog:U8}{w:W1}{A:W6}{E:U2}{s:U7}{T:String}{r d:W9}{n:Nat}{P:Nat->Value->Prop}{OK:Heap->Prop}{R:List Value->Shared->Prop}(K:PySem.W.KdlSrc prog w T r d n P OK)(hh:A.handled=none)(hok:OK s.heap)(hn:n<=sizeLine)
  (h:∀ (h':Heap) (tk:Nat) (acc:U9),(∀ b o,s.heap.get? b=some o->h'.get? b=some o)->s.heap.objs.size<h'.objs.size->ItemsOf P acc n->R acc.toList { s with heap:=h',toks:=tk }):wpAny (model prog w) A (collect (.ref r)) R E s:=by
 obtain⟨l1,l2⟩:=K.there _ hok
 have up:∀ b o,s.heap.get? b=some o->(s.heap.push { cls:=.type "list",data:=.seq ([]:U5).toArray }).get? b=some o:=λb o e=>q0f _ e
 have grown:=PySem.W.kdl_extend (A:=A) (s:={ s with heap:=s.heap.push { cls:=.type "list",data:=.seq ([]:U5).toArray } }) (R:=Gath s P n) K hh (K.keep _ _ hok λb _=>up b) s.heap.objs.size (q3p l1) (q3p l2) (.ref s.heap.objs.size) 0
  (q0q _ rfl) (λh' tk acc c hk hS hI=>⟨Z,h',tk,Z,λb o e=>hk b o (q0x (q0j e)) (up b o e),acc,c,hI,hS⟩) hn
 unfold collect;refine q0e (q8s (q5n entry_proto_collect' ?_));rw[Around.under_plainId q6s _]
 show wpAny _ A.in1 (newList [] >>= λl=>again (.builtin "list.__iadd__" ⟨[l,.ref r],[]⟩)) _ _ s;refine q0e (q3q (q0s ⟨plainId_quiet q4j _,q5n entry_list_iadd' ?_⟩))
 rw[Around.under_plainId q4j _];refine q2c grown (λf s' x=>?_) λe s' x=>by cases x.1
 cases f with
 | done f =>
  obtain⟨e,h',tk,rfl,hk,acc,c,hI,hS⟩:=x
  cases e
  exact q0e (q8y hS (q0s (h h' tk acc hk (q0j hS) hI)))
 | again c =>
  refine⟨x.1,q6e x.2 λq s2 y=>?_⟩
  obtain⟨rfl,h',tk,rfl,hk,acc,c,hI,hS⟩:=y
  exact q0e (q8y hS (q0s (h h' tk acc hk (q0j hS) hI)))
theorem Y1d {X:Cx}(hc:X.calm=true):CallR X (.builtin "sorted") (λxs H Q=>∃ (p:W9) (kvs:List (Key × V)) (ks:U6),xs=[.ref p]/\H p=some (.dK kvs)/\kvs.map (·.1)=ks.map Sum.inl/\kvs.length<64 ∧
  ∀ (l:W9) (ks':U6),H l=none->ks'.Perm ks->ks'.Pairwise (·<=·)->Q (.ref l) (upd H l (.lst (ks'.map V.int)))):=by
 intro pins s σ H xs us Q I r h
 obtain⟨p,kvs,ks,rfl,hp,hk,hn,q⟩:=h
 obtain⟨u,rfl,rx⟩:=vals1 r
 cases rx
 obtain⟨z,lo,vs,kv,dd⟩:=W1x I.hok hp
 obtain⟨ep,hat⟩:=dd.dictAt
 have hl:kvs.length=vs.length:=kv.length
 have hkeys:kvs.map (·.1)=vs.map (·.1):=kv.keys
 rw[hk] at hkeys
 have hkl:ks.length=vs.length:=by have:=congrArg List.length hkeys;simpa using this
 have l64:(64:Nat)<=sizeLine:=by decide
 refine Calls.call_function_entry kind_sorted q9d q9e (args_sorted1 _) ?_
 unfold Builtin.«sorted»
 refine q0e (m:=checkCount "sorted" 1 1 _) (q0s ?_)
 refine q0e (gather (A:=X.A.in1) (PySem.W.kdl_dict (knd:=Z2a X.prog X.w) (kvs:=vs) (ep:=ep) lo) (I.ok.hd hc) hat (by omega) λh' tk acc hk' hlt' hacc=>?_)
 have hsz:=q6f hlt'
 have hal:acc.toList.length=vs.length:=by rw[q1s];exact hacc.1
 have hI:IntsAre acc.toList ks:=intsBy (hal.trans hkl.symm) λj u e=>by
  obtain⟨k,x,ek,is⟩:=hacc.2 j u (by rw[<-q8p];exact e)
  have e2:(ks.map Sum.inl:List Key)[j]?=some k:=by rw[hkeys,q0c,ek];rfl
  rw[q0c] at e2
  cases e3:ks[j]? with
  | none=>rw[e3] at e2;cases e2
  | some i =>
   rw[e3] at e2
   cases e2
   rcases Z1q (show keyIs (Sum.inl i) u=true from is) with ⟨i',t,e4,e5⟩ | ⟨x',t,e4,e5⟩
   ·cases e4
    exact⟨i,t,Z,e5⟩
   ·cases e4
 refine q0e (q6m ?_ (by omega))
 have hoL:(h'.push (seqObj "list" acc.toList.toArray 0)).get? h'.objs.size=some (seqObj "list" acc.toList.toArray 0):=q0q _ rfl
 refine q0e (q3w (q5c q8t ⟨_,hoL,Z⟩ q8d (list_sort_tree hoL hI (by omega) λout ns' a1 a2 a3=>⟨_,Z,?_⟩) (args_list_sort _)))
 refine q0s ⟨_,Z,?_⟩
 obtain⟨e,he⟩:=sortedHeap_at (out:=out) hoL
 have kp:∀ b o,s.heap.get? b=some o->(sortedHeap (h'.push (seqObj "list" acc.toList.toArray 0)) h'.objs.size acc.toList out).get? b=some o:=λb o x=>by
  have lt:=q0j (hk' b o x)
  rw[sortedHeap_old (q0x lt) (by rw[q8q];exact q3d lt)]
  exact q0f _ (hk' b o x)
 have hlo:=a2.length_eq
 have hto:(out.toList).toArray=out:=q6l
 exact⟨.ref h'.objs.size,_,I.laid (t':=tk) kp hsz (show ObjOk X.prog X.w _ _ _ (.lst (ns'.map V.int)) from ⟨by rw[q0a];omega,out.toList,e,Z4s a1,by rw[hto];exact he⟩),Z,q _ ns' (I.hok.fresh hsz) a2 a3⟩
end L2
namespace Dk
open PySem.Sem (wp)
section
variable {prog:U8}{w:W1}{A:W6}{E:U2}{s:U7}{d it:W9}{es:Array DictEntry}{i ep:Nat}
end
end Dk
namespace L2
end L2
namespace L2
end L2
namespace L2
def Ite (K:U0)(l:W9):It :=
 ⟨λi H=>∃ xs x,SqL K H l xs/\xs[i]?=some x,
 λi H v H'=>∃ T x,v=.ref T/\H T=none/\H'=upd H T (.tup [.int i,x])/\∀ xs,SqL K H l xs->xs[i]?=some x,
 λi H=>∃ xs,SqL K H l xs/\xs.length<=i⟩
theorem Y6m {P:U8}{w:W1}{K:U0}{es:List Expr}{kk:Nat}{tp:Pos}{e it l:W9}(ne:e≠it)(nl:l≠e) :
  Turn P w K (.Tuple es kk tp) (Ite K l) [e,it] e (λi h=>(∃ old,IsEnum h e it i old)/\h.IsListIter it l i) where
 mem:=by simp
 obj:=λi h st b hb=>by
  obtain⟨⟨old,a1⟩,o,a2,_,a3⟩:=st
  simp only[q0t,q1j,q3x] at hb
  rcases hb with rfl | rfl
  ·exact⟨_,a1,λv q=>by have q':Data.fields _=Data.cell v:=q;cases q'⟩
  ·exact⟨o,a2,λv z=>by rw[a3] at z;cases z⟩
 keep:=λi h h' st k=>by
  obtain⟨⟨old,a1⟩,a2⟩:=st
  exact⟨⟨old,k e (by simp) _ a1⟩,a2.at λo q=>k it (by simp) o q⟩
 item:=by
  intro X hP hw hK hc i pins s σ H E I hf st hg
  subst hP hw hK
  obtain⟨xs,x,q1,hx⟩:=hg
  obtain⟨⟨old,a1⟩,a2⟩:=st
  obtain⟨its,rv,p,hz⟩:=I.list q1
  obtain⟨vx,hvx,rx⟩:=rv.get hx
  refine wpAny_pyNext_enum_item a1 a2 p.isList (x:=vx) (by simpa using hvx) ne λh' b1 b2 b3 b4 b5=>?_
  refine⟨_,Z,wpAny_letOwnedTupleGo_enum b1 λh2 c1 sb=>?_⟩
  have zT:s.heap.objs.size≠e:=q3p (q0j a1)
  have k2:∀ b o,b ∉ [e,it]->s.heap.get? b=some o->h2.get? b=some o:=λb o hb q=>by
   simp only[q0t,q1j,q3x,not_or] at hb
   exact sb.extBut b o hb.1 (b5 b o hb.1 hb.2 q)
  have hT:IsTup h2 s.heap.objs.size ([.int i s.toks,vx]:U5).toArray:=⟨_,sb.extBut _ _ zT b3,Z,_,Z⟩
  refine⟨.ref s.heap.objs.size,upd H s.heap.objs.size (.tup [.int i,x]),I.turnedT (t':=s.toks+1) k2 hf (q0g _) (.cons ⟨_,Z⟩ (.cons rx .nil)) (by show 2<=sizeLine;decide) hT,Z,⟨_,x,Z,I.hok.fresh (q0g _),Z,λxs' h1=>?_⟩,⟨⟨vx,?_⟩,?_⟩,λb hb=>?_⟩
  ·rw[I.list_inj h1 q1];exact hx
  ·exact_mod_cast c1
  ·exact b2.at λo q=>sb.extBut _ _ ne.symm q
  ·have hlt:b<s.heap.objs.size:=by
    simp only[q0t,q1j,q3x] at hb
    rcases hb with rfl | rfl
    ·exact q0j a1
    ·obtain⟨o,q,_⟩:=a2;exact q0j q
   rw[Z0x (q0x hlt)]
   exact(hf b hb).1
 done:=by
  intro X hP hw hK hc i pins s σ H E I hf st hg
  subst hP hw hK
  obtain⟨xs,q1,hend⟩:=hg
  obtain⟨⟨old,a1⟩,a2⟩:=st
  obtain⟨its,rv,p,hz⟩:=I.list q1
  have e1:=rv.length
  refine wpAny_pyNext_enum_end (I.ok.hd hc) a1 a2 p.isList (by simp;omega) λh' eb=>⟨Z,I.turnedL (t':=s.toks) (ch:=[e,it]) (λb o hb q=>?_) hf⟩
  simp only[q0t,q1j,q3x,not_or] at hb
  exact eb b o hb.2 q
 self:=λ_ _ _ _ _ st h=>by
  obtain⟨⟨old,a1⟩,_⟩:=st
  exact wpAny_pyIter_enum a1 h
section
variable {X:Cx}{es:List Expr}{kk:Nat}{tp:Pos}
def iEnum (K:U0)(ta:TA):TI:=λσ H R=>ta σ H λvs H1=>∃ l xs,vs=[.ref l]/\SqL K H1 l xs/\R (Ite K l) H1
theorem Z5l {a:Expr}{ta:TA}{p pos:Pos}(hg:Gl X "enumerate")(hm:X.mg "enumerate"=none)(ha:PA X [a] ta)(hs:starEach [a] X.env=[(false,eval a X.env)]:=by rfl) :
  PI X (.Tuple es kk tp) (.Call (.Name "enumerate" p) [a] [] pos) (iEnum X.K ta):=by
 intro pins s σ H R I h
 refine Call_ (Z7g I hg hm boot_enumerate (PyProof.Rows.callWith_type1 (thn (ha pos pins s σ H _ I h) λus s1 ⟨vs,H1,I1,r1,q1⟩=>?_) (by rw[hs];rfl) (by rfl)))
 obtain⟨l,xs,e,h1,q⟩:=q1
 subst e
 cases r1 with
 | cons r rr =>
  cases rr
  cases r
  obtain⟨its,rv,pl,hz⟩:=I1.list h1
  refine call_enumerate_list pl.isList λh' z1 z2 z3 zk=>?_
  have I2:Inv X pins σ H1 { s1 with heap:=h' }:=I1.kept (t':=s1.toks) zk
  have lt1:l<s1.heap.objs.size:=by obtain⟨o,q,_⟩:=pl.isList;exact q0j q
  refine wpAny_pyIter_enum z1 ⟨_,[s1.heap.objs.size+1,s1.heap.objs.size],_,_,H1,Z,I2,Y6m (Nat.succ_ne_self _) (q0x (q3d lt1)),⟨⟨_,z1⟩,z2⟩,λb hb=>?_,q⟩
  have hge:s1.heap.objs.size<=b:=by
   simp only[q0t,q1j,q3x] at hb
   rcases hb with rfl | rfl
   ·exact Nat.le_succ _
   ·exact q0g _
  exact I1.fpOk hge (I1.hok.fresh hge)
end
theorem Z9m {K:U0}{a:W9}{xs:List V}{g:TG}{tb:TS}{D:Ends}{σ:St}{H:Hp}(Pv:Nat->St->Hp->Prop)(h0:Pv 0 σ H)(hl:∀ i σ H,i<=xs.length->Pv i σ H->SqL K H a xs)
  (hs:∀ i x σ H T,xs[i]?=some x->Pv i σ H->H T=none->g (.ref T) σ (upd H T (.tup [.int i,x])) λσ2 H2=>tb { D with nx:=Pv (i+1),ct:=Pv (i+1),bk:=D.nx } σ2 H2) (hd:∀ σ H,Pv xs.length σ H->D.nx σ H) :
  ∃ W:Nat->Nat->St->Hp->Prop,(∃ m,W 0 m σ H)/\∀ i m σ H,W i m σ H →
   ((Ite K a).stop i H/\D.nx σ H)∨((Ite K a).go i H/\∃ N:St->Hp->Prop,(∀ σ' H',N σ' H'->∃ m',m'<m/\W (i+1) m' σ' H')/\∀ x H',(Ite K a).yld i H x H'->g x σ H' λσ2 H2=>tb { D with nx:=N,ct:=N,bk:=D.nx } σ2 H2):=by
 refine⟨λi m σ H=>m=xs.length-i/\i<=xs.length/\Pv i σ H,⟨xs.length,by simp,q1l _,h0⟩,?_⟩
 rintro i m σ H ⟨rfl,hi,p⟩
 have q:=hl i σ H hi p
 by_cases hlt:i<xs.length
 ·refine .inr ⟨⟨xs,xs[i],q,by simp[hlt]⟩,Pv (i+1),λσ' H' p'=>⟨xs.length-(i+1),by omega,Z,hlt,p'⟩,λv H' y=>?_⟩
  obtain⟨T,x,rfl,hT,rfl,y⟩:=y
  exact hs i x σ H T (y xs q) p hT
 ·have e:i=xs.length:=by omega
  subst e
  exact .inl ⟨⟨xs,q,q0g _⟩,hd σ H p⟩
end L2
namespace L2
theorem Z7m {X:Cx}(hc:X.calm=true):CallR X (.builtin "sum") (λxs H Q=>∃ (p:W9) (ns:U6),xs=[.ref p]/\SqL X.K H p (ns.map V.int)/\Q (.int ns.sum) H):=by
 intro pins s σ H xs us Q I r h
 obtain⟨p,ns,rfl,hq,q⟩:=h
 obtain⟨u,rfl,ru⟩:=r.one
 cases ru
 obtain⟨its,rv,pl,hz⟩:=I.list hq
 have hi:=Z1x rv
 have hl:=pl.isList
 have hs:=hi.numsOf
 obtain⟨xs,e⟩:=hi.allInts.items
 have e2:its=(intItems xs).toList:=by rw[<-e]
 rw[e] at hl
 rw[e2,nums_intItems] at hs
 refine sum_intListG (show X.A.handled=none from I.ok.hd hc) hl λh' tk t' hk=>?_
 rw[preSum_eq,q5x (by simp),hs]
 exact⟨.int ns.sum,H,I.kept (t':=tk) hk,⟨_,Z⟩,q⟩
theorem X8e {K:U0}{l:W9}{g:TG}{xs:List V}{te:TE}{fr:St}{H1:Hp}{acc:W9}{Q:VK}(f:Nat->V->V)(hn:xs.length<=sizeLine)(hacc:H1 acc=none)(hl:SqL K H1 l xs)
  (hg:∀ {a:W9}{x y:V}{w1 w2:Option V}{H:Hp}{Q:St->Hp->Prop},H a=some (.tup [x,y])->Q (some x::some y::fr) H->g (.ref a) (w1::w2::fr) H Q)
  (hs:∀ i x H (N:V->Hp->Prop),xs[i]?=some x->Same H1 H->N (f i x) H->te (some (.int i)::some x::fr) H N)
  (hd:∀ H2,Same H1 H2->H2 acc=some (.lst (xs.mapIdx f))->Q (.ref acc) H2):LcW (Ite K l) g te (none::none::fr) H1 acc Q:=by
 refine⟨λi m zs σ2 H2=>m=xs.length-i/\i<=xs.length/\(∃ v w,σ2=v::w::fr)/\Same H1 H2/\H2 acc=some (.lst zs)/\zs=(xs.take i).mapIdx f,⟨xs.length,by simp,q1l _,⟨_,_,Z⟩,Z0g hacc _,Z0c,by simp⟩,?_⟩
 rintro i m zs σ2 H2 ⟨rfl,hi,⟨v,w,rfl⟩,s2,a2,e2⟩
 by_cases hlt:i<xs.length
 ·have e1:xs[i]?=some xs[i]:=by simp[hlt]
  refine .inr ⟨⟨xs,_,s2.seq hl,e1⟩,λu H3 y3=>?_⟩
  obtain⟨T,x,rfl,hT,rfl,h1⟩:=y3
  have hx:=h1 xs (s2.seq hl)
  have sT:=Z0g hT (.tup [.int i,x])
  have zl:zs.length=i:=by rw[e2,q7b,q2b];omega
  refine hg (x:=.int i) (y:=x) Z0c (hs i x _ _ hx (s2.trans sT) ⟨sT _ _ a2,by omega,xs.length-(i+1),by omega,Z,hlt,⟨_,_,Z⟩,Z0s (s2.trans sT) hacc,Z0c,?_⟩)
  rw[q1m,hx,q1w,q7a,e2]
  have:(xs.take i).length=i:=by rw[q2b];omega
  simp[this]
 ·have e:i=xs.length:=by omega
  subst e
  exact .inl ⟨⟨xs,s2.seq hl,q0g _⟩,hd H2 s2 (by rw[a2,e2,q2e])⟩
theorem Z9g {K:U0}{l:W9}{ns:U6}{tc:TT}{te:TE}{fr:St}{H1:Hp}{acc:W9}{Q:VK}(p:Int->Bool)(f:Int->Int)(hn:ns.length<=sizeLine)(hacc:H1 acc=none)(hl:SqL K H1 l (ns.map V.int))
  (hs:∀ n H (N:Bool->Hp->Prop),n∈ns->Same H1 H->N (p n) H->tc (some (.int n)::fr) H N)
  (ht:∀ n H (N:V->Hp->Prop),n∈ns->p n=true->Same H1 H->N (.int (f n)) H->te (some (.int n)::fr) H N)
  (hd:∀ H2,Same H1 H2->H2 acc=some (.lst (((ns.filter p).map f).map V.int))->Q (.ref acc) H2):LcWF (Itl K l) (gName 0) tc te (none::fr) H1 acc Q:=by
 refine⟨λi m zs σ2 H2=>m=ns.length-i/\i<=ns.length/\(∃ v,σ2=v::fr)/\Same H1 H2/\H2 acc=some (.lst zs)/\zs=(((ns.take i).filter p).map f).map V.int,⟨ns.length,by simp,q1l _,⟨_,Z⟩,Z0g hacc _,Z0c,by simp⟩,?_⟩
 rintro i m zs σ2 H2 ⟨rfl,hi,⟨v,rfl⟩,s2,a2,e2⟩
 by_cases hlt:i<ns.length
 ·have e1:ns[i]?=some ns[i]:=by simp[hlt]
  have e3:(ns.map V.int)[i]?=some (.int ns[i]):=by rw[q0c,e1];rfl
  have zl:zs.length<=i:=by
   rw[e2,q0a,q0a]
   exact q1i (q4t _ _) (by rw[q2b];omega)
  have mem:ns[i]∈ns:=q3v hlt
  refine .inr ⟨⟨_,_,s2.seq hl,e3⟩,λu H3 y3=>?_⟩
  obtain⟨rfl,y4⟩:=y3
  have:=y4 _ (s2.seq hl)
  rw[e3] at this
  cases this
  refine hs ns[i] _ _ mem s2 ⟨λhp=>ht ns[i] _ _ mem hp s2 ⟨a2,by omega,ns.length-(i+1),by omega,Z,hlt,⟨_,Z⟩,Z0s s2 hacc,Z0c,?_⟩,λhp=>⟨ns.length-(i+1),by omega,Z,hlt,⟨_,Z⟩,s2,a2,?_⟩⟩
  ·rw[q1m,e1,q1w,q4p,q0i,q0i,e2]
   simp[hp]
  ·rw[q1m,e1,q1w,q4p,q0i,q0i,e2]
   simp[hp]
 ·have e:i=ns.length:=by omega
  subst e
  exact .inl ⟨⟨_,s2.seq hl,by rw[q0a];exact q0g _⟩,hd H2 s2 (by rw[a2,e2,q2e])⟩
end L2
namespace K63
open L2 Am Pc Ba
theorem or_i (x y:Nat):Builtin.bitOr (x:Int) (y:Int)=((x ||| y:Nat):Int):=by
 have h:Builtin.bitXor (x:Int) (y:Int)=Builtin.bitOr x y-Builtin.bitAnd x y:=rfl
 rw[Z4r,Z4q] at h
 have e:=Y8a (x+y+1) x y (by omega) (by omega)
 omega
theorem X3d {K:U0}{l:W9}{g:TG}{xs:List V}{te:TE}{fr:L2.St}{H1:Hp}{acc:W9}{Q:VK}(Pv:Nat->List V->Hp->Prop)(hn:xs.length<=sizeLine)(h0:Pv 0 [] (upd H1 acc (.lst [])))
  (hl:∀ i ys H,Pv i ys H->SqL K H l xs)
  (hg:∀ {a:W9}{x y:V}{w1 w2:Option V}{H:Hp}{Q:L2.St->Hp->Prop},H a=some (.tup [x,y])->Q (some x::some y::fr) H->g (.ref a) (w1::w2::fr) H Q)
  (hs:∀ i x ys H (T:W9) (N:V->Hp->Prop),xs[i]?=some x->ys.length=i->Pv i ys H->H T=none->(∀ y H5,H5 acc=some (.lst ys)->Pv (i+1) (ys++[y]) (upd H5 acc (.lst (ys++[y])))->N y H5)->te (some (.int i)::some x::fr) (upd H T (.tup [.int i,x])) N)
  (hd:∀ ys H,ys.length=xs.length->Pv xs.length ys H->Q (.ref acc) H):LcW (Ite K l) g te (none::none::fr) H1 acc Q:=by
 refine⟨λi m zs σ2 H2=>m=xs.length-i/\i<=xs.length/\zs.length=i/\(∃ v w,σ2=v::w::fr)/\Pv i zs H2,⟨xs.length,by simp,q1l _,Z,⟨_,_,Z⟩,h0⟩,?_⟩
 rintro i m zs σ2 H2 ⟨rfl,hi,zl,⟨v,w,rfl⟩,p⟩
 have sl:=hl i zs H2 p
 by_cases hlt:i<xs.length
 ·have e1:xs[i]?=some xs[i]:=by simp[hlt]
  refine .inr ⟨⟨xs,_,sl,e1⟩,λu H3 y3=>?_⟩
  obtain⟨T,x,rfl,hT,rfl,h1⟩:=y3
  have hx:=h1 xs sl
  refine hg (x:=.int i) (y:=x) Z0c (hs i x zs H2 T _ hx zl p hT λy H5 a5 p5=>⟨a5,by omega,xs.length-(i+1),by omega,Z,hlt,by simp[zl],⟨_,_,Z⟩,p5⟩)
 ·have e:i=xs.length:=by omega
  subst e
  exact .inl ⟨⟨xs,sl,q0g _⟩,hd zs H2 zl p⟩
def spExch:Sp:=λvs H Q _=>∃ w a b:Nat,vs=[.int w,.int ((2^a:Nat):Int),.int ((2^b:Nat):Int)]/\∀ H',Same H H'->Q (.int (exch w a b:Nat)) H'
def Y3w:Sp:=λvs H Q _=>∃ (w:Nat) (p:W9) (v:Mv) (c:Nat),vs=[.int w,.ref p]/\H p=some (MvT v.nm v.ns)/\v.Ok c/\c<=6/\v.nm≠"turn"/\v.nm≠"pair"/\∀ H',Same H H'->Q (.int (v.to w:Nat)) H'
structure Bo (K:U0) (H:Hp) (l:W9) (ps:U3) (f:Nat->A5) (c:Nat):Prop where
 lst:H l=some (.lst (ps.map V.ref))
 len:ps.length=2^c
 vals:ValsK K H ps f
theorem Bo.same {K:U0}{H H':Hp}{l:W9}{ps:U3}{f:Nat->A5}{c:Nat}(b:Bo K H l ps f c)(s:Same H H'):Bo K H' l ps f c:=⟨s _ _ b.lst,b.len,b.vals.same s⟩
theorem Bo.at {K:U0}{H:Hp}{l:W9}{ps:U3}{f:Nat->A5}{c i:Nat}(b:Bo K H l ps f c)(hi:i<2^c):∃ p,ps[i]?=some p/\At5 K H p (f i)/\atI (ps.map V.ref) (i:Int)=some (.ref p):=by
 have hl:i<ps.length:=by rw[b.len];exact hi
 refine⟨ps[i],q0d hl,b.vals i _ (q0d hl),Z3m (by rw[q0c,q0d hl];rfl)⟩
def Y3k (K:U0):Sp:=λvs H Q _=>∃ (l:W9) (ps:U3) (f:Nat->A5) (c bits:Nat) (k:Int),vs=[.ref l,.int bits,.int k]/\Bo K H l ps f c/\c<=6 ∧
 ∀ (r:W9) (H':Hp) (qs:U3) (g:Nat->A5),H r=none->Same H H'->Bo K H' r qs g c->(∀ w,w<2^c->g w=if w&&&bits=bits then spin (f w) k else f w)->Q (.ref r) H'
theorem inV2 (x a b:Int):inV (.int x) [.int a,.int b]=(decide (a=x) || decide (b=x)):=by
 unfold inV
 simp only[q4z,List.any_nil,Bool.or_false,eqV]
 rfl
section
variable {P:U8}{w:W1}{K:U0}{mg:U4}{base:Heap}{k:Nat}{h:Heap}
theorem sc_exch:FnScope ["word","bit","other","both"] ["word","bit","other"] (Z0i (top 67)):=fS
theorem X7k (F:FunAt K "exchanged" (top 67) .none)(X:K.In h)(G:Ng h mg):Cal P w K mg base (k+1) "exchanged" ["word","bit","other"] spExch:=by
 have nd:=sc_exch.nd
 refine F.cal X G sc_exch (bnd3 λ_ _ _ _ _ _ _ _ _=>rfl) (λvs H Q E h=>?_) (λf cdv A outer s H vs Q E hr h=>?_)
 ·obtain⟨w,a,b,rfl,_⟩:=h;rfl
 obtain⟨x,a,b,rfl,q⟩:=h
 refine⟨_,(@Z0e _ _ _ _ _ (@Z0q _ _ 3 _ _ _ _ nd rfl (Or.inl rfl) (Z0h Z9b (pv 1) (pv 2)) rfl (.inl rfl))
  (@Z0f _ _ _ (Z0k (Z2j (Z0n Y0r (Z0h Z1d (pv 0) (pv 3)) (@Z1a _ _ _ _ _ (Z0a (pv 1) (Z0a (pv 2) Z0d))) rfl) (Z0h Z2v (pv 0) (pv 3)) (pv 0))))),?_⟩
 try dsimp only[cxK]
 refine⟨_,Z,_,Z,_,_,Z,Z,?_⟩
 refine⟨_,Z,_,Z,_,_,Z,Z,_,Z,_,Z,t2,λtp htp=>?_⟩
 refine⟨tp,_,Z,.inr (SqT.of Z0c),Z,Z,_,Z,?_⟩
 have s1:=Z0g htp (.tup [.int ((2^a:Nat):Int),.int ((2^b:Nat):Int)])
 have q1:=q _ s1
 unfold exch at q1
 show if (inV (.int (Builtin.bitAnd (x:Int) (Builtin.bitOr ((2^a:Nat):Int) ((2^b:Nat):Int)))) [.int ((2^a:Nat):Int),.int ((2^b:Nat):Int)])=true then _ else _
 rw[or_i,Z4q,inV2]
 by_cases c:x&&&(2^a ||| 2^b)=2^a∨x&&&(2^a ||| 2^b)=2^b
 ·rw[if_pos (by rw[q5t,q2f,q2f];omega)]
  rw[if_pos c] at q1
  refine⟨_,Z,_,Z,_,_,Z,Z,?_⟩
  show Q (.int (Builtin.bitXor (x:Int) (Builtin.bitOr ((2^a:Nat):Int) ((2^b:Nat):Int)))) _
  rw[or_i,Z4r]
  exact q1
 ·rw[if_neg (by rw[q5t,q2f,q2f];omega)]
  rw[if_neg c] at q1
  exact⟨_,Z,q1⟩
theorem sc_behind:FnScope ["word","move","bits"] ["word","move"] (Z0i (top 66)):=fS
theorem Y8u (F:FunAt K "word_behind" (top 66) .none)(X:K.In h)(G:Ng h mg)(cM:Cal P w K mg base k "named_cells" ["move"] Y1x)(cI:Cal P w K mg base k "exchanged" ["word","bit","other"] spExch) :
  Cal P w K mg base (k+1) "word_behind" ["word","move"] Y3w:=by
 have nd:=sc_behind.nd
 refine F.cal X G sc_behind (bnd2 λ_ _ _ _ _ _ _ _=>rfl) (λvs H Q E h=>?_) (λf cdv A outer s H vs Q E hr h=>?_)
 ·obtain⟨w,p,v,c,rfl,_⟩:=h;rfl
 obtain⟨x,p,v,c,rfl,hp,ok,c6,nt,np,q⟩:=h
 have FI:=Mv.fits ok
 have en:named v.nm v.ns=v.ns:=by unfold named;rw[if_neg nt]
 have hlen:v.ns.length<=3:=FI.form.len
 have low:∀ a∈v.ns,0<=a/\a<6:=λa ha=>by
  have:=FI.low a (by rw[en];exact ha)
  omega
 refine⟨_,(@Z0e _ _ _ _ _ (Z3h (i:=2) rfl nd rfl rfl (LcOk.of (Nc:=["cell"]) (mp:=[none]) (by kernel_rfl)) (Y3z (Z0l cM hr rfl (Z0a (pv 1) Z0d))) (λ_ _ _ _=>(Z0p (i:=0) (show (["cell"]:W0).Nodup by decide +kernel) rfl (Or.inl rfl))) (λ_ _ _ _=>(Z0h Z1t Z0b (pv 0))) rfl)
  (@Z0e _ _ _ _ _ (Z0w (Z0n Z1k (Z0m Z0j (pv 1) Z0b (λ_ _=>rfl)) Z1l (nomark _))
   (@Z0f _ _ _ (Z0k (Z0h Z2v (pv 0) (Z0m Z0z (pv 2) Z0b (λ_ _=>rfl)))))
   Z0o)
  (@Z0e _ _ _ _ _ (Z0w (Z0n Z1k (Z0m Z0j (pv 1) Z0b (λ_ _=>rfl)) Z1l (nomark _))
   (@Z0f _ _ _ (Z0k (Z0l cI hr rfl (Z0a (pv 0) (Z0a (Z0m Z0z (pv 2) Z0b (λ_ _=>rfl)) (Z0a (Z0m Z0z (pv 2) Z0b (λ_ _=>rfl)) Z0d))))))
   Z0o)
  (@Z0e _ _ _ _ _ (Z0w (Z1y (Z2m (Z0h Z1d (pv 0) (Z0m Z0z (pv 2) Z0b (λ_ _=>rfl))) (by intro _;rfl)))
   (@Z0f _ _ _ (Z0k (pv 0)))
   Z0o)
  (@Z0e _ _ _ _ _ (Z0w (Z0n Z1k (Z0m Z0j (pv 1) Z0b (λ_ _=>rfl)) Z1l (nomark _))
   (@Z0f _ _ _ (Z0k (Z0h Z2v (pv 0) (Z0m Z0z (pv 2) Z0b (λ_ _=>rfl)))))
   Z0o)
  (@Z0f _ _ _ (Z0k (Z0l cI hr rfl (Z0a (pv 0) (Z0a (Z0m Z0z (pv 2) Z0b (λ_ _=>rfl)) (Z0a (Z0m Z0z (pv 2) Z0b (λ_ _=>rfl)) Z0d))))))))))),?_⟩
 try dsimp only[cxK]
 refine⟨_,Z,p,v.nm,v.ns,Z,hp,FI.form,λr H1 S1 hr=>?_⟩
 rw[en] at hr
 refine⟨r,Z,⟨_,SqT.of hr⟩,λacc hacc=>?_⟩
 refine Y2o (K:=K) (λn=>.int (1*2^n.toNat)) (SqT.of hr) (t64 (by omega)) hacc (λn H2 N hn S2 kN=>⟨_,Z,_,_,Z,Z,⟨1,sz1,(low n hn).1,by have:=(low n hn).2;omega⟩,kN⟩) (λH3 S3 a3=>?_)
 have S03:=S1.trans S3
 have q3:=q H3 S03
 have SP:SqT K H3 p (.str v.nm::v.ns.map V.int):=SqT.of (S03 _ _ hp)
 have SL:SqL K H3 acc (v.ns.map λn=>V.int (1*2^n.toNat)):=SqL.of a3
 have ip:∀ a:Nat,(1:Int)*2^((a:Int)).toNat=((2^a:Nat):Int):=λa=>ipow a
 cases v with
 | flip a =>
  refine⟨_,Z,p,_,_,.str "flip",Z,Z,SP,at0,Z,_,Z,decI (λ_=>?_) (λz=>absurd rfl z)⟩
  refine⟨_,Z,_,Z,acc,_,_,.int (1*2^((a:Int)).toNat),Z,Z,SL,Z,_,_,Z,Z,?_⟩
  show Q (.int (Builtin.bitXor (x:Int) (1*2^((a:Int)).toNat))) H3
  rw[ip,Z4r]
  exact q3
 | turn a k=>exact absurd rfl nt
 | pair a b=>exact absurd rfl np
 | swap a b =>
  refine⟨_,Z,p,_,_,.str "swap",Z,Z,SP,at0,Z,_,Z,decI (λz=>absurd (V.str.inj z) (by decide +kernel)) (λ_=>?_)⟩
  refine⟨_,Z,p,_,_,.str "swap",Z,Z,SP,at0,Z,_,Z,decI (λ_=>?_) (λz=>absurd rfl z)⟩
  refine⟨_,Z,_,Z,acc,_,_,.int (1*2^((a:Int)).toNat),Z,Z,SL,Z,_,Z,acc,_,_,.int (1*2^((b:Int)).toNat),Z,Z,SL,Z,?_⟩
  exact⟨x,a,b,by show [V.int (x:Int),V.int (1*2^((a:Int)).toNat),V.int (1*2^((b:Int)).toNat)]=_;rw[ip,ip],λH4 S4=>q H4 (S03.trans S4)⟩
 | iff a b =>
  refine⟨_,Z,p,_,_,.str "if",Z,Z,SP,at0,Z,_,Z,decI (λz=>absurd (V.str.inj z) (by decide +kernel)) (λ_=>?_)⟩
  refine⟨_,Z,p,_,_,.str "if",Z,Z,SP,at0,Z,_,Z,decI (λz=>absurd (V.str.inj z) (by decide +kernel)) (λ_=>?_)⟩
  refine⟨_,Z,_,Z,acc,_,_,.int (1*2^((a:Int)).toNat),Z,Z,SL,Z,_,_,Z,Z,_,Z,?_⟩
  rw[ip,Z4q]
  have q4:Q (.int ((if x&&&2^a=0 then x else x^^^2^b:Nat):Int)) H3:=q3
  by_cases e:x&&&2^a=0
  ·rw[if_pos e] at q4
   rw[e]
   exact iteT ⟨_,Z,q4⟩
  ·rw[if_neg e] at q4
   rw[show ((((x&&&2^a:Nat):Int) != 0)=true) by simpa using e]
   refine iteF ⟨_,Z,p,_,_,.str "if",Z,Z,SP,at0,Z,_,Z,decI (λ_=>?_) (λz=>absurd rfl z)⟩
   refine⟨_,Z,_,Z,acc,_,_,.int (1*2^((b:Int)).toNat),Z,Z,SL,Z,_,_,Z,Z,?_⟩
   show Q (.int (Builtin.bitXor (x:Int) (1*2^((b:Int)).toNat))) H3
   rw[ip,Z4r]
   exact q4
 | cross a b d =>
  refine⟨_,Z,p,_,_,.str "cross",Z,Z,SP,at0,Z,_,Z,decI (λz=>absurd (V.str.inj z) (by decide +kernel)) (λ_=>?_)⟩
  refine⟨_,Z,p,_,_,.str "cross",Z,Z,SP,at0,Z,_,Z,decI (λz=>absurd (V.str.inj z) (by decide +kernel)) (λ_=>?_)⟩
  refine⟨_,Z,_,Z,acc,_,_,.int (1*2^((a:Int)).toNat),Z,Z,SL,Z,_,_,Z,Z,_,Z,?_⟩
  rw[ip,Z4q]
  have q4:∀ H',Same H H'->Q (.int ((if x&&&2^a=0 then x else exch x b d:Nat):Int)) H':=q
  by_cases e:x&&&2^a=0
  ·rw[if_pos e] at q4
   rw[e]
   exact iteT ⟨_,Z,q4 _ S03⟩
  ·rw[if_neg e] at q4
   rw[show ((((x&&&2^a:Nat):Int) != 0)=true) by simpa using e]
   refine iteF ⟨_,Z,p,_,_,.str "cross",Z,Z,SP,at0,Z,_,Z,decI (λz=>absurd (V.str.inj z) (by decide +kernel)) (λ_=>?_)⟩
   refine⟨_,Z,_,Z,acc,_,_,.int (1*2^((b:Int)).toNat),Z,Z,SL,Z,_,Z,acc,_,_,.int (1*2^((d:Int)).toNat),Z,Z,SL,Z,?_⟩
   exact⟨x,b,d,by show [V.int (x:Int),V.int (1*2^((b:Int)).toNat),V.int (1*2^((d:Int)).toNat)]=_;rw[ip,ip],λH4 S4=>q4 H4 (S03.trans S4)⟩
theorem X7s (v:Mv):v.nm≠"mix":=by
 cases v with
 | flip a=>exact(show ("flip":Str)≠"mix" by decide +kernel)
 | turn a k=>exact(show ("turn":Str)≠"mix" by decide +kernel)
 | iff a b=>exact(show ("if":Str)≠"mix" by decide +kernel)
 | pair a b=>exact(show ("pair":Str)≠"mix" by decide +kernel)
 | swap a b=>exact(show ("swap":Str)≠"mix" by decide +kernel)
 | cross a b d=>exact(show ("cross":Str)≠"mix" by decide +kernel)
theorem X7u {v:Mv}(h:v.nm="turn"):∃ a k,v=.turn a k:=by
 cases v with
 | flip a=>exact absurd h (show ("flip":Str)≠"turn" by decide +kernel)
 | turn a k=>exact⟨a,k,rfl⟩
 | iff a b=>exact absurd h (show ("if":Str)≠"turn" by decide +kernel)
 | pair a b=>exact absurd h (show ("pair":Str)≠"turn" by decide +kernel)
 | swap a b=>exact absurd h (show ("swap":Str)≠"turn" by decide +kernel)
 | cross a b d=>exact absurd h (show ("cross":Str)≠"turn" by decide +kernel)
theorem X7v {v:Mv}(h:v.nm="pair"):∃ a b,v=.pair a b:=by
 cases v with
 | flip a=>exact absurd h (show ("flip":Str)≠"pair" by decide +kernel)
 | turn a k=>exact absurd h (show ("turn":Str)≠"pair" by decide +kernel)
 | iff a b=>exact absurd h (show ("if":Str)≠"pair" by decide +kernel)
 | pair a b=>exact⟨a,b,rfl⟩
 | swap a b=>exact absurd h (show ("swap":Str)≠"pair" by decide +kernel)
 | cross a b d=>exact absurd h (show ("cross":Str)≠"pair" by decide +kernel)
theorem X6g {v:Mv}(h:v.nm≠"turn")(h':v.nm≠"pair")(w:Nat):v.sp w=0:=by
 cases v with
 | turn a k=>exact absurd rfl h
 | pair a b=>exact absurd rfl h'
 | flip a=>rfl
 | iff a b=>rfl
 | swap a b=>rfl
 | cross a b d=>rfl
theorem sc_where:FnScope ["board","bits","k"] ["board","bits","k"] (Z0i (top 65)):=fS
theorem X1y (F:FunAt K "spun_where" (top 65) .none)(X:K.In h)(G:Ng h mg)(B:Bs mg)(cZ:Cal P w K mg base k "spun" ["one","k"] (Z6o K)):Cal P w K mg base (k+1) "spun_where" ["board","bits","k"] (Y3k K):=by
 have nd:=sc_where.nd
 refine F.cal X G sc_where (bnd3 λ_ _ _ _ _ _ _ _ _=>rfl) (λvs H Q E h=>?_) (λf cdv A outer s H vs Q E hr h=>?_)
 ·obtain⟨l,ps,f,c,bits,k,rfl,_⟩:=h;rfl
 obtain⟨l,ps,g,c,bits,kk,rfl,BO,c6,kq⟩:=h
 have p6:=pow6 c6
 have SL:SqL K H l (ps.map V.ref):=SqL.of BO.lst
 have lps:(ps.map V.ref).length=2^c:=by rw[q0a,BO.len]
 refine⟨_,(@Z0f _ _ _ (Z0k (Z3k rfl (LcOk.of (Nc:=["word","one","bits","k"]) (mp:=[none,none,some 1,some 2]) (by kernel_rfl)) (Z5l rfl B.enumerate (Z0a (pv 0) Z0d)) (λ_ _ _ _=>(Z6e rfl (show (["word","one","bits","k"]:W0).Nodup by decide +kernel) rfl rfl rfl rfl)) (λ_ _ _ _=>(Z2j (Z0n Z1k (Z0h Z1d (pv 0) (pv 2)) (pv 2) (nomark _)) (Z0l cZ hr rfl (Z0a (pv 1) (Z0a (pv 3) Z0d))) (pv 1)))))),?_⟩
 try dsimp only[cxK]
 refine⟨_,Z,l,_,Z,SL,λacc hacc=>?_⟩
 refine X3d (K:=K) (l:=l) (xs:=ps.map V.ref) (fr:=[some (.int bits),some (.int kk)]) (λi ys H'=>∃ (qs:U3) (y:Nat->A5),Same H H'/\H' acc=some (.lst ys)/\ys=qs.map V.ref/\qs.length=i/\ValsK K H' qs y/\∀ j,j<i->y j=if j&&&bits=bits then spin (g j) kk else g j) (by rw[lps];exact t64 p6)
  ⟨[],λ_=>((0,0,0,0),0),Z0g hacc _,Z0c,Z,Z,(λ_ _ z=>by cases z),λj hj=>absurd hj (q1k _)⟩ (λi ys H' p=>by obtain⟨qs,y,s2,_⟩:=p;exact SqL.of (s2 _ _ BO.lst)) (λh q=>⟨_,_,Z,SqT.of h,Z,_,_,Z,_,_,Z,Z,q⟩) ?_ ?_
 ·rintro i x ys H2 T N hx hy ⟨qs,y,S2,a2,rfl,ql,v2,ok2⟩ hT kN
  rw[q0c] at hx
  obtain⟨p,hp,rfl⟩:=q0h.mp hx
  have pg:=(BO.vals i p hp).same S2
  have sT:=Z0g hT (.tup [.int i,.ref p])
  have fin:∀ (r:W9) (H5:Hp) (z:A5),Same (upd H2 T (.tup [.int i,.ref p])) H5->At5 K H5 r z->z=(if i&&&bits=bits then spin (g i) kk else g i)->N (.ref r) H5:=λr H5 z S5 hr hz=>by
   have S25:=sT.trans S5
   refine kN (.ref r) H5 (S25 _ _ a2) ⟨qs++[r],λj=>if j=qs.length then z else y j,Z0s (S2.trans S25) hacc,Z0c,by rw[q0i];rfl,by simp[ql],Z2p (xs:=qs.map V.ref) (Z2s v2 S25 hr) (S25 _ _ a2),λj hj=>?_⟩
   show (if j=qs.length then z else y j)=_
   by_cases e:j=qs.length
   ·rw[if_pos e,hz,e,ql]
   ·rw[if_neg e]
    exact ok2 j (by omega)
  refine⟨_,Z,_,Z,_,_,Z,Z,_,Z,Z,_,Z,?_⟩
  show if decide (V.int (Builtin.bitAnd (i:Int) (bits:Int))=V.int (bits:Int))=true then _ else _
  rw[Z4q]
  by_cases e:i&&&bits=bits
  ·rw[q1f (by rw[e])]
   refine iteT ⟨_,Z,_,Z,p,_,_,_,_,_,_,Z,pg.same sT,λr H5 S5 hr=>fin r H5 (spin (g i) kk) S5 hr (by rw[if_pos e])⟩
  ·rw[q0w (λz=>e (by have:=V.int.inj z;omega))]
   exact iteF ⟨_,Z,fin p _ (g i) (Same.refl _) (pg.same sT) (by rw[if_neg e])⟩
 ·rintro ys H2 hy ⟨qs,y,S2,a2,rfl,ql,v2,ok2⟩
  rw[lps] at ql ok2
  exact kq acc H2 qs y hacc S2 ⟨a2,ql,v2⟩ ok2
noncomputable def wOk (c a w:Nat):Bool:=decide (w&&&2^a=0) == decide (w / 2^a%2=0) && if w / 2^a%2=0 then decide ((w ||| 2^a)=w+2^a) && decide (w+2^a<2^c) && decide ((w+2^a) / 2^a%2=1) else decide ((w^^^2^a)=w-2^a) && decide (2^a<=w) && decide ((w-2^a) / 2^a%2=0)
theorem X5t:((List.range 7).all λc=>(List.range c).all λa=>(List.range (2^c)).all λw=>wOk c a w)=true:=by decide +kernel
theorem wok {c a w:Nat}(hc:c<=6)(ha:a<c)(hw:w<2^c):wOk c a w=true :=
 q2m.mp (q2m.mp (q2m.mp X5t c (q1o.mpr (by omega))) a (q1o.mpr ha)) w (q1o.mpr hw)
theorem X5u {c a w:Nat}(hc:c<=6)(ha:a<c)(hw:w<2^c)(h:w / 2^a%2=0):w&&&2^a=0/\(w ||| 2^a)=w+2^a/\w+2^a<2^c/\(w+2^a) / 2^a%2=1:=by
 have:=wok hc ha hw
 unfold wOk at this
 rw[if_pos h,q1f h] at this
 simpa [and_assoc] using this
theorem X4h {c a w:Nat}(hc:c<=6)(ha:a<c)(hw:w<2^c)(h:¬ w / 2^a%2=0):w&&&2^a≠0/\(w^^^2^a)=w-2^a/\2^a<=w/\(w-2^a) / 2^a%2=0:=by
 have:=wok hc ha hw
 unfold wOk at this
 rw[if_neg h,q0w h] at this
 simpa [and_assoc] using this
structure Mix (s:Int) (x y z:A5):Prop where
 ex:∃ p:A5,Sum x.1.1 x.1.2.1 x.1.2.2.1 x.1.2.2.2 x.2 (s*y.1.1) (s*y.1.2.1) (s*y.1.2.2.1) (s*y.1.2.2.2) y.2 p.1.1 p.1.2.1 p.1.2.2.1 p.1.2.2.2 p.2 ∧
  Amt z.1.1 z.1.2.1 z.1.2.2.1 z.1.2.2.2 z.2/\Same4 (p.1.2.1-p.1.2.2.2) (p.1.1+p.1.2.2.1) (p.1.2.1+p.1.2.2.2) (p.1.2.2.1-p.1.1) (p.2+1) z.1.1 z.1.2.1 z.1.2.2.1 z.1.2.2.2 z.2
theorem X5o {x y:A5}(h:x.1.1=y.1.1/\x.1.2.1=y.1.2.1/\x.1.2.2.1=y.1.2.2.1/\x.1.2.2.2=y.1.2.2.2/\x.2=y.2):x=y:=by
 obtain⟨⟨a,b,c,d⟩,h1⟩:=x
 obtain⟨⟨a',b',c',d'⟩,h2⟩:=y
 obtain⟨rfl,rfl,rfl,rfl,rfl⟩:=h
 rfl
def MixAt (f:Nat->A5)(a w:Nat)(z:A5):Prop:=if w / 2^a%2=0 then Mix 1 (f w) (f (w+2^a)) z else Mix (-1) (f (w-2^a)) (f w) z
structure Bd5 (K:U0) (H:Hp) (l:W9) (ps:U3) (f:Nat->A5) (c n m:Nat):Prop where
 lst:H l=some (.lst (ps.map V.ref))
 len:ps.length=2^c
 vals:ValsK K H ps f
 ok:∀ i,i<2^c->Ok5 n m (f i)
theorem Bd5.same {K:U0}{H H':Hp}{l:W9}{ps:U3}{f:Nat->A5}{c n m:Nat}(b:Bd5 K H l ps f c n m)(s:Same H H'):Bd5 K H' l ps f c n m:=⟨s _ _ b.lst,b.len,b.vals.same s,b.ok⟩
theorem Bd5.at {K:U0}{H:Hp}{l:W9}{ps:U3}{f:Nat->A5}{c n m i:Nat}(b:Bd5 K H l ps f c n m)(hi:i<2^c):∃ p,ps[i]?=some p/\At5 K H p (f i)/\atI (ps.map V.ref) (i:Int)=some (.ref p):=by
 have hl:i<ps.length:=by rw[b.len];exact hi
 refine⟨ps[i],q0d hl,b.vals i _ (q0d hl),Z3m (by rw[q0c,q0d hl];rfl)⟩
def Z7u (K:U0):Sp:=λvs H Q _=>∃ (l:W9) (ps:U3) (f:Nat->A5) (c n m a wd:Nat),vs=[.ref l,.int wd,.int ((2^a:Nat):Int)]/\Bd5 K H l ps f c n m/\c<=6/\a<c/\wd<2^c/\n<=450000/\m<=10000 ∧
 ∀ (r:W9) (H':Hp) (z:A5),Same H H'->H' r=some (tA z)->Ok5 (n+2*m+3) (m+1:Nat) z->MixAt f a wd z->Q (.ref r) H'
def Y3o (K:U0):Sp:=λvs H Q _=>∃ (l:W9) (ps:U3) (f:Nat->A5) (c n m a:Nat),vs=[.ref l,.int ((2^a:Nat):Int)]/\Bd5 K H l ps f c n m/\c<=6/\a<c/\n<=450000/\m<=10000 ∧
 ∀ (r:W9) (H':Hp) (qs:U3) (g:Nat->A5),H r=none->Same H H'->Bd5 K H' r qs g c (n+2*m+3) (m+1)->(∀ w,w<2^c->MixAt f a w (g w))->Q (.ref r) H'
theorem X4v {n m:Nat}{x y z p:A5}(ox:Ok5 n m x)(oy:Ok5 n m y)(hp:p.2<=max x.2 y.2)(sp:Sz4 (n+x.2.toNat+y.2.toNat+2) p.1.1 p.1.2.1 p.1.2.2.1 p.1.2.2.2)
  (r:Red (p.1.2.1-p.1.2.2.2) (p.1.1+p.1.2.2.1) (p.1.2.1+p.1.2.2.2) (p.1.2.2.1-p.1.1) (p.2+1) z.1.1 z.1.2.1 z.1.2.2.1 z.1.2.2.2 z.2):Ok5 (n+2*m+3) (m+1:Nat) z:=by
 have hx:=ox.le
 have hy:=oy.le
 have hx0:=ox.amt.nn
 have hy0:=oy.amt.nn
 have s:Sz4 (n+2*m+2) p.1.1 p.1.2.1 p.1.2.2.1 p.1.2.2.2:=sp.mono (by omega)
 have neg:∀ {u v:Int},Sz (n+2*m+2) u->Sz (n+2*m+2) v->Sz (n+2*m+3) (u-v):=λhu hv=>by rw[q7c];exact(hu.add hv.neg).mono (by omega)
 have add:∀ {u v:Int},Sz (n+2*m+2) u->Sz (n+2*m+2) v->Sz (n+2*m+3) (u+v):=λhu hv=>(hu.add hv).mono (by omega)
 refine⟨r.sz ⟨neg s.z2 s.z4,add s.z1 s.z3,add s.z2 s.z4,neg s.z3 s.z1⟩,r.amt,?_⟩
 have:=r.le
 omega
theorem X5e {K:U0}{H:Hp}{p q:W9}{x y:A5}{n m:Nat}(hp:At5 K H p x)(hq:At5 K H q y)(ox:Ok5 n m x)(oy:Ok5 n m y)(hn:n<=450000)(hm:m<=10000):In2 K n [.ref p,.ref q] H p q x.1.1 x.1.2.1 x.1.2.2.1 x.1.2.2.2 x.2 y.1.1 y.1.2.1 y.1.2.2.1 y.1.2.2.2 y.2:=by
 have:=ox.le
 have:=oy.le
 exact⟨Z,hp,hq,ox.amt.nn,oy.amt.nn,by omega,by omega,ox.sz,oy.sz⟩
theorem sc_mixedat:FnScope ["board","word","bit"] ["board","word","bit"] (Z0i (top 64)):=fS
theorem Y5s (F:FunAt K "mixed_at" (top 64) .none)(X:K.In h)(G:Ng h mg)(e9:Cal P w K mg base k "rooted" ["one"] Y3m)(eX:Cal P w K mg base k "minus" ["one","other"] (Y3p K))(e6:Cal P w K mg base k "plus" ["one","other"] (Y1v K)) :
  Cal P w K mg base (k+1) "mixed_at" ["board","word","bit"] (Z7u K):=by
 have nd:=sc_mixedat.nd
 refine F.cal X G sc_mixedat (bnd3 λ_ _ _ _ _ _ _ _ _=>rfl) (λvs H Q E h=>?_) (λf cdv A outer s H vs Q E hr h=>?_)
 ·obtain⟨l,ps,f,c,n,m,a,wd,rfl,_⟩:=h;rfl
 obtain⟨l,ps,g,c,n,m,a,wd,rfl,BD,c6,ac,wc,n3,m1,kq⟩:=h
 have SL:SqL K H l (ps.map V.ref):=SqL.of BD.lst
 refine⟨_,(@Z0e _ _ _ _ _ (Z0w (Z2m (Z0h Z1d (pv 1) (pv 2)) (by intro _;rfl))
   (@Z0f _ _ _ (Z0k (Z0l e9 hr rfl (Z0a (Z0l eX hr rfl (Z0a (Z0m Z0z (pv 0) (Z0h Z2v (pv 1) (pv 2)) (λ_ _=>rfl)) (Z0a (Z0m Z0z (pv 0) (pv 1) (λ_ _=>rfl)) Z0d))) Z0d))))
   Z0o)
  (@Z0f _ _ _ (Z0k (Z0l e9 hr rfl (Z0a (Z0l e6 hr rfl (Z0a (Z0m Z0z (pv 0) (pv 1) (λ_ _=>rfl)) (Z0a (Z0m Z0z (pv 0) (Z0h Z9b (pv 1) (pv 2)) (λ_ _=>rfl)) Z0d))) Z0d))))),?_⟩
 try dsimp only[cxK]
 by_cases hb:wd / 2^a%2=0
 ·obtain⟨e1,e2,e3,_⟩:=X5u c6 ac wc hb
  obtain⟨p,_,hp,ap⟩:=BD.at wc
  obtain⟨q,_,hq,aq⟩:=BD.at e3
  refine⟨_,Z,_,Z,_,_,Z,Z,_,Z,?_⟩
  rw[Z4q,e1]
  refine iteF ?_
  refine⟨_,Z,_,Z,l,_,_,_,Z,Z,SL,ap,_,Z,_,Z,_,Z,_,_,Z,Z,l,_,_,_,Z,Z,SL,(by rw[or_i,e2];exact aq),?_⟩
  have ox:=BD.ok _ wc
  have oy:=BD.ok _ e3
  refine⟨n,p,q,_,_,_,_,_,_,_,_,_,_,X5e hp hq ox oy n3 m1,λr1 H1 x y z u v S1 hr1 SU SZ=>?_⟩
  refine⟨r1,x,y,z,u,v,Z,hr1,SU.amt.nn,λr2 H2 x' y' z' u' v' S2 hr2 RE=>?_⟩
  refine kq r2 H2 ((x',y',z',u'),v') (S1.trans S2) hr2 (X4v (p:=((x,y,z,u),v)) ox oy SU.le SZ RE) ?_
  unfold MixAt
  rw[if_pos hb]
  exact⟨((x,y,z,u),v),by simpa only[Int.one_mul] using SU,RE.amt,RE.same⟩
 ·obtain⟨e1,e2,e3,_⟩:=X4h c6 ac wc hb
  obtain⟨p,_,hp,ap⟩:=BD.at (i:=wd-2^a) (q2y (q9b _ _) wc)
  obtain⟨q,_,hq,aq⟩:=BD.at wc
  have ox:=BD.ok (wd-2^a) (q2y (q9b _ _) wc)
  have oy:=BD.ok _ wc
  refine⟨_,Z,_,Z,_,_,Z,Z,_,Z,?_⟩
  rw[Z4q,show ((((wd&&&2^a:Nat):Int) != 0)=true) by simpa using e1]
  refine iteT ?_
  refine⟨_,Z,_,Z,_,Z,_,_,Z,Z,l,_,_,_,Z,Z,SL,(by rw[Z4r,e2];exact ap),_,Z,_,Z,l,_,_,_,Z,Z,SL,aq,?_⟩
  refine⟨n,p,q,_,_,_,_,_,_,_,_,_,_,X5e hp hq ox oy n3 m1,λr1 H1 x y z u v S1 hr1 SU SZ=>?_⟩
  refine⟨r1,x,y,z,u,v,Z,hr1,SU.amt.nn,λr2 H2 x' y' z' u' v' S2 hr2 RE=>?_⟩
  refine kq r2 H2 ((x',y',z',u'),v') (S1.trans S2) hr2 (X4v (p:=((x,y,z,u),v)) ox oy SU.le SZ RE) ?_
  unfold MixAt
  rw[if_neg hb]
  exact⟨((x,y,z,u),v),by simpa only[Int.neg_one_mul] using SU,RE.amt,RE.same⟩
theorem sc_mixed:FnScope ["board","bit"] ["board","bit"] (Z0i (top 63)):=fS
theorem X2g (F:FunAt K "mixed" (top 63) .none)(X:K.In h)(G:Ng h mg)(B:Bs mg)(eI:Cal P w K mg base k "mixed_at" ["board","word","bit"] (Z7u K)):Cal P w K mg base (k+1) "mixed" ["board","bit"] (Y3o K):=by
 have nd:=sc_mixed.nd
 refine F.cal X G sc_mixed (bnd2 λ_ _ _ _ _ _ _ _=>rfl) (λvs H Q E h=>?_) (λf cdv A outer s H vs Q E hr h=>?_)
 ·obtain⟨l,ps,f,c,n,m,a,rfl,_⟩:=h;rfl
 obtain⟨l,ps,g,c,n,m,a,rfl,BD,c6,ac,n3,m1,kq⟩:=h
 have p6:=pow6 c6
 have SL:SqL K H l (ps.map V.ref):=SqL.of BD.lst
 have hlen:(((ps.map V.ref).length:Nat):Int).toNat=2^c:=by rw[q0a,BD.len,q0v]
 refine⟨_,(@Z0f _ _ _ (Z0k (Z3k rfl (LcOk.of (Nc:=["word","board","bit"]) (mp:=[none,some 0,some 1]) (by kernel_rfl)) (Z0y rfl B.range (Z0a (Z0r Z0u rfl B.len q1h (Z0a (pv 0) Z0d)) Z0d)) (λ_ _ _ _=>(Z0p (i:=0) (show (["word","board","bit"]:W0).Nodup by decide +kernel) rfl (Or.inl rfl))) (λ_ _ _ _=>(Z0l eI hr rfl (Z0a (pv 1) (Z0a (pv 0) (Z0a (pv 2) Z0d)))))))),?_⟩
 try dsimp only[cxK]
 refine⟨_,Z,l,_,Z,.inl SL,_,Z,by rw[q0a,BD.len];omega,by rw[q0a,BD.len];omega,λacc hacc=>?_⟩
 rw[hlen]
 refine Z4i (n:=2^c) (fr:=[some (.ref l),some (.int ((2^a:Nat):Int))]) (λi ys H'=>∃ (qs:U3) (y:Nat->A5),Same H H'/\H' acc=some (.lst ys)/\ys=qs.map V.ref/\qs.length=i/\ValsK K H' qs y/\∀ j,j<i->Ok5 (n+2*m+3) (m+1:Nat) (y j)/\MixAt g a j (y j)) (t64 p6)
  ⟨[],λ_=>((0,0,0,0),0),Z0g hacc _,Z0c,Z,Z,(λ_ _ z=>by cases z),λj hj=>absurd hj (q1k _)⟩ ?_ ?_
 ·rintro i ys H2 N hi hy ⟨qs,y,S2,a2,rfl,ql,v2,ok2⟩ kN
  refine⟨_,Z,_,Z,_,Z,l,ps,g,c,n,m,a,i,(by show [V.ref l,V.int (0+(i:Int)),_]=_;rw[q2p]),BD.same S2,c6,ac,hi,n3,m1,λr H3 z S3 hr3 oz mz=>?_⟩
  refine kN (.ref r) H3 (S3 _ _ a2) ⟨qs++[r],λj=>if j=qs.length then z else y j,Z0s (S2.trans S3) hacc,Z0c,by rw[q0i];rfl,by simp[ql],Z2p (xs:=qs.map V.ref) (Z2s v2 S3 (At5.of hr3)) (S3 _ _ a2),λj hj=>?_⟩
  by_cases e:j=qs.length
  ·show Ok5 _ _ (if j=qs.length then z else y j)/\MixAt g a j (if j=qs.length then z else y j)
   rw[if_pos e,e,ql]
   exact⟨oz,mz⟩
  ·show Ok5 _ _ (if j=qs.length then z else y j)/\MixAt g a j (if j=qs.length then z else y j)
   rw[if_neg e]
   exact ok2 j (by omega)
 ·rintro ys H2 hy ⟨qs,y,S2,a2,rfl,ql,v2,ok2⟩
  exact kq acc H2 qs y hacc S2 ⟨a2,ql,v2,λi hi=>(ok2 i hi).1⟩ λw hw=>(ok2 w hw).2
end
end K63
namespace L2
abbrev Mm:=Str × List Int
noncomputable abbrev mT (m:Mm):HO:=.tup (.str m.1::m.2.map V.int)
def RowsM (H:Hp):List Addr->List Mm->Prop:=Paired λp m=>H p=some (mT m)
theorem RowsM.same {H H':Hp}{ps:U3}{ms:List Mm}(h:RowsM H ps ms)(s:Same H H'):RowsM H' ps ms:=Paired.imp' (λ_ _ c=>s _ _ c) h
section
variable {P:U8}{w:W1}{H:Hp}{h:Heap}
end
section
variable {X:Cx}
end
end L2
namespace L2
end L2
namespace K63
open L2 Am Pc Ba
theorem Z8c {x h y g N:Int}(hh:0<=h)(hg:0<=g)(h1:h<=N)(h2:g<=N):Eq2 x h y g ↔ x*p2 (N-h)=y*p2 (N-g):=by
 unfold Eq2
 have e1:=Z5a hh h1
 have e2:=Z5a hg h2
 have n1:=Z9a h
 have n2:=Z9a g
 have n3:=Z9a (N-h)
 have n4:=Z9a (N-g)
 have n5:=Z9a N
 constructor
 ·intro z
  have:(x*p2 (N-h))*(p2 h*p2 g)=(y*p2 (N-g))*(p2 h*p2 g):=by
   have a1:(x*p2 (N-h))*(p2 h*p2 g)=(x*p2 g)*p2 N:=by rw[e1];grind
   have a2:(y*p2 (N-g))*(p2 h*p2 g)=(y*p2 h)*p2 N:=by rw[e2];grind
   rw[a1,a2,z]
  exact q2a (Int.mul_ne_zero n1 n2) this
 ·intro z
  have:(x*p2 g)*p2 N=(y*p2 h)*p2 N:=by
   have a1:(x*p2 (N-h))*(p2 h*p2 g)=(x*p2 g)*p2 N:=by rw[e1];grind
   have a2:(y*p2 (N-g))*(p2 h*p2 g)=(y*p2 h)*p2 N:=by rw[e2];grind
   rw[<-a1,<-a2,z]
  exact q2a n5 this
noncomputable def va (x:A5)(M:Int):Int:=x.1.1*p2 (M-x.2)
noncomputable def vb (x:A5)(M:Int):Int:=x.1.2.1*p2 (M-x.2)
noncomputable def vc (x:A5)(M:Int):Int:=x.1.2.2.1*p2 (M-x.2)
noncomputable def vd (x:A5)(M:Int):Int:=x.1.2.2.2*p2 (M-x.2)
theorem X6t {n:Int}(h:0<=n):p2 (n+2)=4*p2 n:=by
 rw[Y0p h (by decide),show p2 2=4 from rfl,q9h]
theorem Z8n {a a' u h h' g M:Int}(h0:0<=h)(h0':0<=h')(g0:0<=g)(l1:h+h'<=M)(l2:g<=M)(e:Eq2 (a*p2 h'+a'*p2 h) (h+h') u g):u*p2 (M-g)=a*p2 (M-h)+a'*p2 (M-h'):=by
 have z:=(Z8c (by omega) g0 l1 l2).mp e
 have e1:p2 (M-h)=p2 (M-(h+h'))*p2 h':=by rw[<-Y0p (by omega) h0'];congr 1;omega
 have e2:p2 (M-h')=p2 (M-(h+h'))*p2 h:=by rw[<-Y0p (by omega) h0];congr 1;omega
 rw[<-z,e1,e2]
 grind
theorem Z6c {u v h g M:Int}(h0:0<=h)(g0:0<=g)(l1:h<=M)(l2:g<=M+1)(e:Eq2 u (h+1) v g):v*p2 (M+1-g)=u*p2 (M-h):=by
 have z:=(Z8c (N:=M+1) (by omega) g0 (by omega) l2).mp e
 rw[<-z]
 congr 2
 omega
theorem Mix.vals {s:Int}{x y z:A5}(m:Mix s x y z)(hx:0<=x.2)(hy:0<=y.2):∃ M0:Int,∀ M,M0<=M →
  va z (M+1)=(vb x M+s*vb y M)-(vd x M+s*vd y M)/\vb z (M+1)=(va x M+s*va y M)+(vc x M+s*vc y M)/\vc z (M+1)=(vb x M+s*vb y M)+(vd x M+s*vd y M)/\vd z (M+1)=(vc x M+s*vc y M)-(va x M+s*va y M):=by
 obtain⟨p,S,az,R⟩:=m.ex
 have p0:=S.amt.nn
 have z0:=az.nn
 refine⟨x.2+y.2+p.2+z.2,λM hM=>?_⟩
 have l1:x.2+y.2<=M:=by omega
 have l2:p.2<=M:=by omega
 have l3:z.2<=M+1:=by omega
 have a1:=Z8n hx hy p0 l1 l2 S.same.e1
 have a2:=Z8n hx hy p0 l1 l2 S.same.e2
 have a3:=Z8n hx hy p0 l1 l2 S.same.e3
 have a4:=Z8n hx hy p0 l1 l2 S.same.e4
 have r1:=Z6c p0 z0 l2 l3 R.e1
 have r2:=Z6c p0 z0 l2 l3 R.e2
 have r3:=Z6c p0 z0 l2 l3 R.e3
 have r4:=Z6c p0 z0 l2 l3 R.e4
 unfold va vb vc vd
 rw[r1,r2,r3,r4,Int.sub_mul,Int.add_mul,Int.add_mul,Int.sub_mul,a1,a2,a3,a4]
 refine⟨?_,?_,?_,?_⟩<;>grind
theorem Z8k {x y:A5}{M:Int}(ax:Amt x.1.1 x.1.2.1 x.1.2.2.1 x.1.2.2.2 x.2)(ay:Amt y.1.1 y.1.2.1 y.1.2.2.1 y.1.2.2.2 y.2)(l1:x.2<=M)(l2:y.2<=M)(e1:va x M=va y M)(e2:vb x M=vb y M)(e3:vc x M=vc y M)(e4:vd x M=vd y M):x=y :=
 X5o (ax.unique ay ⟨(Z8c ax.nn ay.nn l1 l2).mpr e1,(Z8c ax.nn ay.nn l1 l2).mpr e2,(Z8c ax.nn ay.nn l1 l2).mpr e3,(Z8c ax.nn ay.nn l1 l2).mpr e4⟩)
theorem Y3c {x:A5}{M:Int}(l:x.2<=M):va x (M+2)=4*va x M/\vb x (M+2)=4*vb x M/\vc x (M+2)=4*vc x M/\vd x (M+2)=4*vd x M:=by
 unfold va vb vc vd
 rw[show M+2-x.2=(M-x.2)+2 by omega,X6t (by omega)]
 refine⟨?_,?_,?_,?_⟩<;>grind
theorem Mix.amt {s:Int}{x y z:A5}(m:Mix s x y z):Amt z.1.1 z.1.2.1 z.1.2.2.1 z.1.2.2.2 z.2:=by
 obtain⟨p,_,az,_⟩:=m.ex
 exact az
theorem X7x {x y z0 z1 x' y':A5}(ax:Amt x.1.1 x.1.2.1 x.1.2.2.1 x.1.2.2.2 x.2)(ay:Amt y.1.1 y.1.2.1 y.1.2.2.1 y.1.2.2.2 y.2)(m0:Mix 1 x y z0)(m1:Mix (-1) x y z1)(n0:Mix 1 z0 z1 x')(n1:Mix (-1) z0 z1 y'):x'=x/\y'=y:=by
 have a0:=m0.amt
 have a1:=m1.amt
 have b0:=n0.amt
 have b1:=n1.amt
 obtain⟨M1,h1⟩:=m0.vals ax.nn ay.nn
 obtain⟨M2,h2⟩:=m1.vals ax.nn ay.nn
 obtain⟨M3,h3⟩:=n0.vals a0.nn a1.nn
 obtain⟨M4,h4⟩:=n1.vals a0.nn a1.nn
 have nx:=ax.nn
 have ny:=ay.nn
 have nx':=b0.nn
 have ny':=b1.nn
 obtain⟨M,g1,g2,g3,g4,g5,g6,g7,g8⟩:∃ M:Int,M1<=M/\M2<=M/\M3<=M+1/\M4<=M+1/\x.2<=M/\y.2<=M/\x'.2<=M/\y'.2<=M :=
  ⟨max M1 0+max M2 0+max M3 0+max M4 0+x.2+y.2+x'.2+y'.2,by omega,by omega,by omega,by omega,by omega,by omega,by omega,by omega⟩
 obtain⟨p1,p2',p3,p4⟩:=h1 M g1
 obtain⟨q1,q2,q3,q4⟩:=h2 M g2
 obtain⟨r1,r2,r3,r4⟩:=h3 (M+1) g3
 obtain⟨s1,s2,s3,s4⟩:=h4 (M+1) g4
 obtain⟨x1,x2,x3,x4⟩:=Y3c g5
 obtain⟨y1,y2,y3,y4⟩:=Y3c g6
 rw[show M+1+1=M+2 by omega] at r1 r2 r3 r4 s1 s2 s3 s4
 constructor
 ·exact Z8k b0 ax (M:=M+2) (by omega) (by omega) (by omega) (by omega) (by omega) (by omega)
 ·exact Z8k b1 ay (M:=M+2) (by omega) (by omega) (by omega) (by omega) (by omega) (by omega)
inductive Gm where
 | mv (v:Mv)
 | mix (a:Nat)
namespace Gm
noncomputable def nm:Gm->Str
 | mv v=>v.nm
 | mix _=>"mix"
noncomputable def ns:Gm->List Int
 | mv v=>v.ns
 | mix a=>[(a:Int)]
def Ok (c:Nat):Gm->Prop
 | mv v=>v.Ok c
 | mix a=>a<c
noncomputable def back:Gm->Gm
 | mv (.turn a k)=>mv (.turn a (8-k))
 | m=>m
noncomputable abbrev mm (m:Gm):Mm:=(m.nm,m.ns)
end Gm
def Step (c:Nat):Gm->(Nat->A5)->(Nat->A5)->Prop
 | .mv v,f,g=>∀ w,w<2^c->g w=spin (f (v.to w)) (v.sp w:Nat)
 | .mix a,f,g=>∀ w,w<2^c->MixAt f a w (g w)
inductive Steps (c:Nat):List Gm->(Nat->A5)->(Nat->A5)->Prop
 | nil {f:Nat->A5}:Steps c [] f f
 | cons {m:Gm}{ms:List Gm}{f g h:Nat->A5}:Step c m f g->Steps c ms g h->Steps c (m::ms) f h
theorem Steps.snoc {c:Nat}:∀ {a:List Gm}{m:Gm}{f g h:Nat->A5},Steps c a f g->Step c m g h->Steps c (a++[m]) f h
 | _,_,_,_,_,.nil,s=>.cons s .nil
 | _,_,_,_,_,.cons s t,r=>.cons s (Steps.snoc t r)
abbrev Ams (c:Nat)(f:Nat->A5):Prop:=∀ w,w<2^c->Amt (f w).1.1 (f w).1.2.1 (f w).1.2.2.1 (f w).1.2.2.2 (f w).2
theorem Y2w {v:Int × Int × Int × Int}{h:Int}(o:Amt v.1 v.2.1 v.2.2.1 v.2.2.2 h):∀ k,Amt (rot k v).1 (rot k v).2.1 (rot k v).2.2.1 (rot k v).2.2.2 h
 | 0=>o
 | k+1=>by
  have:=Y2w o k
  refine⟨this.nn,?_⟩
  have o:h=0∨(rot k v).1%2=1∨(rot k v).2.1%2=1∨(rot k v).2.2.1%2=1∨(rot k v).2.2.2%2=1:=this.odd
  show h=0∨(-(rot k v).2.2.2)%2=1∨(rot k v).1%2=1∨(rot k v).2.1%2=1∨(rot k v).2.2.1%2=1
  omega
theorem Step.ams {c:Nat}{m:Gm}{f g:Nat->A5}(hc:c<=6)(ok:m.Ok c)(s:Step c m f g)(a:Ams c f):Ams c g:=by
 intro w hw
 cases m with
 | mv v =>
  have e:g w=spin (f (v.to w)) (v.sp w:Nat):=s w hw
  rw[e]
  exact Y2w (a _ (Mv.to_lt hc ok hw)) _
 | mix a =>
  have e:MixAt f a w (g w):=s w hw
  unfold MixAt at e
  split at e
  ·exact e.amt
  ·exact e.amt
theorem Z9z (x:A5){k:Nat}(h:k<=8):spin (spin x (k:Nat)) ((8-k:Nat):Int)=x:=by
 obtain⟨⟨a,b,c,d⟩,g⟩:=x
 have:k=0∨k=1∨k=2∨k=3∨k=4∨k=5∨k=6∨k=7∨k=8:=by omega
 rcases this with rfl | rfl | rfl | rfl | rfl | rfl | rfl | rfl | rfl<;>simp[spin,rot]
theorem Y6r {c:Nat}{m:Gm}{f g k h:Nat->A5}(hc:c<=6)(ok:m.Ok c)(af:Ams c f)(s:Step c m f g)(e:∀ w,w<2^c->k w=g w)(t:Step c m.back k h):∀ w,w<2^c->h w=f w:=by
 intro w hw
 cases m with
 | mix a =>
  have ok:a<c:=ok
  have s':∀ w,w<2^c->MixAt f a w (g w):=s
  have t':∀ w,w<2^c->MixAt k a w (h w):=t
  have key:∀ u,u<2^c->u / 2^a%2=0->h u=f u/\h (u+2^a)=f (u+2^a):=λu hu hb=>by
   obtain⟨_,_,l2,b2⟩:=X5u hc ok hu hb
   have m0:=s' u hu
   have m1:=s' (u+2^a) l2
   have n0:=t' u hu
   have n1:=t' (u+2^a) l2
   unfold MixAt at m0 m1 n0 n1
   rw[if_pos hb] at m0 n0
   rw[if_neg (by omega),q5o] at m1 n1
   rw[e u hu,e _ l2] at n0 n1
   exact X7x (af u hu) (af _ l2) m0 m1 n0 n1
  by_cases hb:w / 2^a%2=0
  ·exact(key w hw hb).1
  ·obtain⟨_,_,l2,b2⟩:=X4h hc ok hw hb
   have:=(key (w-2^a) (q2y (q9b _ _) hw) b2).2
   rw[Nat.sub_add_cancel l2] at this
   exact this
 | mv v =>
  have s':∀ w,w<2^c->g w=spin (f (v.to w)) (v.sp w:Nat):=s
  cases v with
  | turn a kk =>
   have ok:a<c/\1<=kk/\kk<=7:=ok
   have t':∀ w,w<2^c->h w=spin (k w) ((if w&&&2^a=2^a then 8-kk else 0:Nat):Int):=t
   have s1:g w=spin (f w) ((if w&&&2^a=2^a then kk else 0:Nat):Int):=s' w hw
   rw[t' w hw,e w hw,s1]
   by_cases q:w&&&2^a=2^a
   ·rw[if_pos q,if_pos q]
    exact Z9z _ (by omega)
   ·rw[if_neg q,if_neg q]
    rfl
  | pair a b =>
   have t':∀ w,w<2^c->h w=spin (k w) ((if w&&&(2^a ||| 2^b)=(2^a ||| 2^b) then 4 else 0:Nat):Int):=t
   have s1:g w=spin (f w) ((if w&&&(2^a ||| 2^b)=(2^a ||| 2^b) then 4 else 0:Nat):Int):=s' w hw
   rw[t' w hw,e w hw,s1]
   by_cases q:w&&&(2^a ||| 2^b)=(2^a ||| 2^b)
   ·rw[if_pos q]
    exact Z9z _ (by decide)
   ·rw[if_neg q]
    rfl
  | flip a =>
   have t':∀ w,w<2^c->h w=k ((Mv.flip a).to w):=t
   have l:=Mv.to_lt (v:=.flip a) hc ok hw
   have s1:g ((Mv.flip a).to w)=f ((Mv.flip a).to ((Mv.flip a).to w)):=s' _ l
   rw[t' w hw,e _ l,s1,Mv.to_to (v:=.flip a) hc ok hw]
  | iff a b =>
   have t':∀ w,w<2^c->h w=k ((Mv.iff a b).to w):=t
   have l:=Mv.to_lt (v:=.iff a b) hc ok hw
   have s1:g ((Mv.iff a b).to w)=f ((Mv.iff a b).to ((Mv.iff a b).to w)):=s' _ l
   rw[t' w hw,e _ l,s1,Mv.to_to (v:=.iff a b) hc ok hw]
  | swap a b =>
   have t':∀ w,w<2^c->h w=k ((Mv.swap a b).to w):=t
   have l:=Mv.to_lt (v:=.swap a b) hc ok hw
   have s1:g ((Mv.swap a b).to w)=f ((Mv.swap a b).to ((Mv.swap a b).to w)):=s' _ l
   rw[t' w hw,e _ l,s1,Mv.to_to (v:=.swap a b) hc ok hw]
  | cross a b d =>
   have t':∀ w,w<2^c->h w=k ((Mv.cross a b d).to w):=t
   have l:=Mv.to_lt (v:=.cross a b d) hc ok hw
   have s1:g ((Mv.cross a b d).to w)=f ((Mv.cross a b d).to ((Mv.cross a b d).to w)):=s' _ l
   rw[t' w hw,e _ l,s1,Mv.to_to (v:=.cross a b d) hc ok hw]
theorem Gm.fits {m:Gm}{c:Nat}(h:m.Ok c):Fits m.nm m.ns c:=by
 cases m with
 | mv v=>exact Mv.fits h
 | mix a =>
  have e:named "mix" [(a:Int)]=[(a:Int)]:=by unfold named;rw[if_neg (by decide +kernel)]
  have h:a<c:=h
  exact⟨⟨(show numAt NB "mix"=some (.int ((1:Nat):Int)) by decide +kernel),(show 1<=3 by decide),λz=>absurd (show ("mix":Str)="turn" from z) (by decide +kernel)⟩,by show ∀ x∈named "mix" [(a:Int)],_;rw[e];intro b hb;rw[q0r.mp hb];omega,by show (named "mix" [(a:Int)]).Nodup;rw[e];simp⟩
theorem Z6f {n:Nat}{M:Int}{x:A5}{k:Int}(o:Ok5 n M x):Ok5 n M (spin x k):=Y0t o _
theorem Bd5.bo {K:U0}{H:Hp}{l:W9}{ps:U3}{f:Nat->A5}{c n m:Nat}(b:Bd5 K H l ps f c n m):Bo K H l ps f c:=⟨b.lst,b.len,b.vals⟩
def Y0b (K:U0):Sp:=λvs H Q _=>∃ (l p:W9) (ps:U3) (f:Nat->A5) (c n M:Nat) (m:Gm),vs=[.ref l,.ref p]/\H p=some (MvT m.nm m.ns)/\m.Ok c/\Bd5 K H l ps f c n M/\c<=6/\n<=450000/\M<=10000 ∧
 ∀ (r:W9) (H':Hp) (qs:U3) (g:Nat->A5),H r=none->Same H H'->Bd5 K H' r qs g c (n+2*M+3) (M+1)->Step c m f g->Q (.ref r) H'
section
variable {P:U8}{w:W1}{K:U0}{mg:U4}{base:Heap}{k:Nat}{h:Heap}
theorem sc_turned:FnScope ["board","move"] ["board","move"] (Z0i (top 62)):=fS
theorem Y8e (F:FunAt K "turned" (top 62) .none)(X:K.In h)(G:Ng h mg)(B:Bs mg)(dX:Cal P w K mg base k "check_move" ["move","cells"] Y7b)(cT:Cal P w K mg base k "cells_of" ["board"] (Z6s K))(eY:Cal P w K mg base k "mixed" ["board","bit"] (Y3o K))(d5:Cal P w K mg base k "spun_where" ["board","bits","k"] (Y3k K))
  (dR:Cal P w K mg base k "word_behind" ["word","move"] Y3w):Cal P w K mg base (k+1) "turned" ["board","move"] (Y0b K):=by
 have nd:=sc_turned.nd
 refine F.cal X G sc_turned (bnd2 λ_ _ _ _ _ _ _ _=>rfl) (λvs H Q E h=>?_) (λf cdv A outer s H vs Q E hr h=>?_)
 ·obtain⟨l,p,ps,f,c,n,M,m,rfl,_⟩:=h;rfl
 obtain⟨l,p,ps,g,c,n,M,m,rfl,hp,ok,BD,c6,n4,m1,kq0⟩:=h
 have p6:=pow6 c6
 have BO:=BD.bo
 have ip:∀ a:Nat,(1:Int)*2^((a:Int)).toNat=((2^a:Nat):Int):=λa=>ipow a
 refine⟨_,(@Z0e _ _ _ _ _ (Z3s (Z0l dX hr rfl (Z0a (pv 1) (Z0a (Z0l cT hr rfl (Z0a (pv 0) Z0d)) Z0d))))
  (@Z0e _ _ _ _ _ (Z0w (Z0n Z1k (Z0m Z0j (pv 1) Z0b (λ_ _=>rfl)) Z1l (nomark _))
   (@Z0f _ _ _ (Z0k (Z0l eY hr rfl (Z0a (pv 0) (Z0a (Z0h Z1t Z0b (Z0m Z0j (pv 1) Z0b (λ_ _=>rfl))) Z0d)))))
   Z0o)
  (@Z0e _ _ _ _ _ (Z0w (Z0n Z1k (Z0m Z0j (pv 1) Z0b (λ_ _=>rfl)) Z1l (nomark _))
   (@Z0f _ _ _ (Z0k (Z0l d5 hr rfl (Z0a (pv 0) (Z0a (Z0h Z1t Z0b (Z0m Z0j (pv 1) Z0b (λ_ _=>rfl))) (Z0a (Z0m Z0j (pv 1) Z0b (λ_ _=>rfl)) Z0d))))))
   Z0o)
  (@Z0e _ _ _ _ _ (Z0w (Z0n Z1k (Z0m Z0j (pv 1) Z0b (λ_ _=>rfl)) Z1l (nomark _))
   (@Z0f _ _ _ (Z0k (Z0l d5 hr rfl (Z0a (pv 0) (Z0a (Z0h Z9b (Z0h Z1t Z0b (Z0m Z0j (pv 1) Z0b (λ_ _=>rfl))) (Z0h Z1t Z0b (Z0m Z0j (pv 1) Z0b (λ_ _=>rfl)))) (Z0a Z0b Z0d))))))
   Z0o)
  (@Z0f _ _ _ (Z0k (Z3k rfl (LcOk.of (Nc:=["word","board","move"]) (mp:=[none,some 0,some 1]) (by kernel_rfl)) (Z0y rfl B.range (Z0a (Z0r Z0u rfl B.len q1h (Z0a (pv 0) Z0d)) Z0d)) (λ_ _ _ _=>(Z0p (i:=0) (show (["word","board","move"]:W0).Nodup by decide +kernel) rfl (Or.inl rfl))) (λ_ _ _ _=>(Z0m Z9h (pv 1) (Z0l dR hr rfl (Z0a (pv 0) (Z0a (pv 2) Z0d))) (λ_ _=>rfl)))))))))),?_⟩
 try dsimp only[cxK]
 refine⟨_,Z,_,Z,l,_,c,Z,SqL.of BO.lst,by rw[q0a,BO.len],c6,p,m.nm,m.ns,c,Z,hp,Gm.fits ok,λH1 S1=>?_⟩
 have SP:SqT K H1 p (.str m.nm::m.ns.map V.int):=SqT.of (S1 _ _ hp)
 have B1:=BO.same S1
 have BD1:=BD.same S1
 cases m with
 | mix a =>
  have ac:a<c:=ok
  refine⟨_,Z,p,_,_,.str "mix",Z,Z,SP,at0,Z,_,Z,decI (λ_=>?_) (λz=>absurd rfl z)⟩
  refine⟨_,Z,_,Z,p,_,_,.int a,Z,Z,SP,Z,_,_,Z,Z,⟨1,sz1,by omega,by omega⟩,?_⟩
  exact⟨l,ps,g,c,n,M,a,congrArg (λz=>[V.ref l,V.int z]) (ip a),BD1,c6,ac,n4,m1,λr H2 qs y hr2 S2 B2 M2=>kq0 r H2 qs y (S1.free hr2) (S1.trans S2) B2 M2⟩
 | mv v =>
 have SP:SqT K H1 p (.str v.nm::v.ns.map V.int):=SP
 have ok:v.Ok c:=ok
 have hp:H p=some (MvT v.nm v.ns):=hp
 have kq:∀ (r:W9) (H':Hp) (qs:U3) (y:Nat->A5),H r=none->Same H H'->Bo K H' r qs y c->(∀ w,w<2^c->y w=spin (g (v.to w)) (v.sp w:Nat))->Q (.ref r) H':=λr H' qs y h1 h2 h3 h4 =>
  kq0 r H' qs y h1 h2 ⟨h3.lst,h3.len,h3.vals,λi hi=>by rw[h4 i hi];exact(Z6f (BD.ok _ (Mv.to_lt c6 ok hi))).mono (by omega) (by omega)⟩ h4
 refine⟨_,Z,p,_,_,.str v.nm,Z,Z,SP,at0,Z,_,Z,decI (λz=>absurd (V.str.inj z) (X7s v)) (λ_=>?_)⟩
 refine⟨_,Z,p,_,_,.str v.nm,Z,Z,SP,at0,Z,_,Z,decI (λz=>?_) (λzt=>?_)⟩
 ·obtain⟨a,kk,rfl⟩:=X7u (V.str.inj z)
  have ok:a<c/\1<=kk/\kk<=7:=ok
  refine⟨_,Z,_,Z,p,_,_,.int a,Z,Z,SP,Z,_,_,Z,Z,⟨1,sz1,by omega,by omega⟩,_,Z,p,_,_,.int kk,Z,Z,SP,Z,?_⟩
  refine⟨l,ps,g,c,2^a,kk,(by show [V.ref l,V.int (1*2^((a:Int)).toNat),V.int (kk:Int)]=_;rw[ip]),B1,c6,λr H2 qs y hr2 S2 B2 M2=>kq r H2 qs y (S1.free hr2) (S1.trans S2) B2 λw hw=>?_⟩
  rw[M2 w hw]
  show _=spin (g w) ((if w&&&2^a=2^a then kk else 0:Nat):Int)
  split
  ·rfl
  ·rfl
 refine⟨_,Z,p,_,_,.str v.nm,Z,Z,SP,at0,Z,_,Z,decI (λz=>?_) (λzp=>?_)⟩
 ·obtain⟨a,b,rfl⟩:=X7v (V.str.inj z)
  have ok:a<c/\b<c/\a≠b:=ok
  refine⟨_,Z,_,Z,p,_,_,.int a,Z,Z,SP,Z,_,_,Z,Z,⟨1,sz1,by omega,by omega⟩,_,Z,p,_,_,.int b,Z,Z,SP,Z,_,_,Z,Z,⟨1,sz1,by omega,by omega⟩,_,_,Z,Z,?_⟩
  refine⟨l,ps,g,c,2^a ||| 2^b,4,(by show [V.ref l,V.int (Builtin.bitOr (1*2^((a:Int)).toNat) (1*2^((b:Int)).toNat)),V.int 4]=_;rw[ip,ip,or_i]),B1,c6,λr H2 qs y hr2 S2 B2 M2=>kq r H2 qs y (S1.free hr2) (S1.trans S2) B2 λw hw=>?_⟩
  rw[M2 w hw]
  show _=spin (g w) ((if w&&&(2^a ||| 2^b)=(2^a ||| 2^b) then 4 else 0:Nat):Int)
  split
  ·rfl
  ·rfl
 have nt:v.nm≠"turn":=λe=>zt (by rw[e])
 have np:v.nm≠"pair":=λe=>zp (by rw[e])
 have hlen:(((ps.map V.ref).length:Nat):Int).toNat=2^c:=by rw[q0a,BO.len,q0v]
 have SL:SqL K H1 l (ps.map V.ref):=SqL.of B1.lst
 refine⟨_,Z,l,_,Z,.inl SL,_,Z,by rw[q0a,BO.len];omega,by rw[q0a,BO.len];omega,λacc hacc=>?_⟩
 rw[hlen]
 refine Z4i (n:=2^c) (fr:=[some (.ref l),some (.ref p)]) (λi ys H'=>∃ (qs:U3) (y:Nat->A5),Same H1 H'/\H' acc=some (.lst ys)/\ys=qs.map V.ref/\qs.length=i/\ValsK K H' qs y/\∀ j,j<i->y j=g (v.to j)) (t64 p6)
  ⟨[],λ_=>((0,0,0,0),0),Z0g hacc _,Z0c,Z,Z,(λ_ _ z=>by cases z),λj hj=>absurd hj (q1k _)⟩ ?_ ?_
 ·rintro i ys H2 N hi hy ⟨qs,y,S2,a2,rfl,ql,v2,ok2⟩ kN
  refine⟨_,Z,_,Z,_,Z,i,p,v,c,(by show [V.int (0+(i:Int)),V.ref p]=_;rw[q2p]),S2 _ _ (S1 _ _ hp),ok,c6,nt,np,λH3 S3=>?_⟩
  obtain⟨q,_,hq,aq⟩:=((B1.same S2).same S3).at (Mv.to_lt c6 ok hi)
  refine⟨l,_,_,_,Z,Z,SqL.of (S3 _ _ (S2 _ _ B1.lst)),aq,?_⟩
  refine kN (.ref q) H3 (S3 _ _ a2) ⟨qs++[q],λj=>if j=qs.length then g (v.to i) else y j,Z0s (S2.trans S3) hacc,Z0c,by rw[q0i];rfl,by simp[ql],Z2p (xs:=qs.map V.ref) (Z2s v2 S3 hq) (S3 _ _ a2),λj hj=>?_⟩
  show (if j=qs.length then g (v.to i) else y j)=_
  by_cases e:j=qs.length
  ·rw[if_pos e,e,ql]
  ·rw[if_neg e]
   exact ok2 j (by omega)
 ·rintro ys H2 hy ⟨qs,y,S2,a2,rfl,ql,v2,ok2⟩
  refine kq acc H2 qs y (S1.free hacc) (S1.trans S2) ⟨a2,ql,v2⟩ λw hw=>?_
  rw[ok2 w hw,X6g nt np w]
  rfl
def Mvs (H:Hp)(ps:U3)(ms:List Gm):Prop:=RowsM H ps (ms.map Gm.mm)
theorem Mvs.same {H H':Hp}{ps:U3}{ms:List Gm}(h:Mvs H ps ms)(s:Same H H'):Mvs H' ps ms:=RowsM.same h s
theorem Mvs.length {H:Hp}{ps:U3}{ms:List Gm}(h:Mvs H ps ms):ps.length=ms.length:=by
 have:=Paired.length h
 rw[q0a] at this
 exact this
theorem Mvs.get {H:Hp}:∀ {ps:U3}{ms:List Gm}{i:Nat}{p:W9},Mvs H ps ms->ps[i]?=some p->∃ m,ms[i]?=some m/\H p=some (MvT m.nm m.ns)
 | p'::ps,m::ms,0,p,.cons a r,h=>by
  have:p'=p:=by simpa using h
  subst this
  exact⟨m,Z,a⟩
 | p'::ps,m::ms,i+1,p,.cons a r,h=>by
  obtain⟨m',b,c⟩:=Mvs.get (ps:=ps) (ms:=ms) (i:=i) (p:=p) r (by simpa using h)
  exact⟨m',b,c⟩
theorem Mvs.snoc {H:Hp}{ps:U3}{ms:List Gm}{p:W9}{m:Gm}(h:Mvs H ps ms)(e:H p=some (MvT m.nm m.ns)):Mvs H (ps++[p]) (ms++[m]):=by
 unfold Mvs
 rw[q0i]
 exact Paired.snoc h e
theorem Mvs.upd {H:Hp}{l:W9}{xs ys:List V}{ps:U3}{ms:List Gm}(h:Mvs H ps ms)(hl:H l=some (.lst xs)):Mvs (upd H l (.lst ys)) ps ms :=
 Paired.imp' (λ_ _ c=>by rw[Z0x (Z7e c hl (by intro z;cases z))];exact c) h
structure Rw (H:Hp) (l:W9) (ps:U3) (ms:List Gm) (c:Nat):Prop where
 lst:H l=some (.lst (ps.map V.ref))
 mvs:Mvs H ps ms
 ok:∀ m∈ms,m.Ok c
 len:ms.length<=200
theorem Rw.same {H H':Hp}{l:W9}{ps:U3}{ms:List Gm}{c:Nat}(r:Rw H l ps ms c)(s:Same H H'):Rw H' l ps ms c:=⟨s _ _ r.lst,r.mvs.same s,r.ok,r.len⟩
def spRunK (K:U0):Sp:=λvs H Q _=>∃ (l lr:W9) (ps rp:U3) (f:Nat->A5) (c n M:Nat) (ms:List Gm),vs=[.ref l,.ref lr]/\Rw H lr rp ms c/\Bd5 K H l ps f c n M/\c<=6/\M<=300/\n<=210000 ∧
 ∀ (r:W9) (H':Hp) (qs:U3) (g:Nat->A5),H r=none->Same H H'->Bd5 K H' r qs g c (n+1010*ms.length) (M+ms.length)->Steps c ms f g->Q (.ref r) H'
theorem sc_run:FnScope ["board","row","behind","move"] ["board","row"] (Z0i (top 69)):=fS
theorem W0l (F:FunAt K "run" (top 69) .none)(X:K.In h)(G:Ng h mg)(B:Bs mg)(eV:Cal P w K mg base k "turned" ["board","move"] (Y0b K)):Cal P w K mg base (k+1) "run" ["board","row"] (spRunK K):=by
 have nd:=sc_run.nd
 refine F.cal X G sc_run (bnd2 λ_ _ _ _ _ _ _ _=>rfl) (λvs H Q E h=>?_) (λf cdv A outer s H vs Q E hr h=>?_)
 ·obtain⟨l,lr,ps,rp,f,c,n,M,ms,rfl,_⟩:=h;rfl
 obtain⟨l,lr,ps,rp,g,c,n,M,ms,rfl,RW,BD,c6,M3,n2,kq⟩:=h
 have l200:=RW.len
 have lps:=RW.mvs.length
 have SR:SqL K H lr (rp.map V.ref):=SqL.of RW.lst
 refine⟨_,(@Z0e _ _ _ _ _ (@Z0q _ _ 2 _ _ _ _ nd rfl (Or.inl rfl) (Z4z Y1g rfl B.list boot_list (Z0a (pv 0) Z0d)) rfl (.inl rfl))
  (@Z0e _ _ _ _ _ (Z1v PassesOwn.never rfl (Z1e (pv 1)) (Z0p (i:=3) nd rfl (Or.inl rfl))
   (@Z0f _ _ _ (@Z0q _ _ 2 _ _ _ _ nd rfl (Or.inl rfl) (Z0l eV hr rfl (Z0a (pv 2) (Z0a (pv 3) Z0d))) rfl (.inl rfl))))
  (@Z0f _ _ _ (Z0k (pv 2))))),?_⟩
 try dsimp only[cxK]
 refine⟨_,Z,l,_,Z,.inl (SqL.of BD.lst),λb0 hb0=>?_⟩
 have s0:=Z0g hb0 (.lst (ps.map V.ref))
 refine⟨_,Z,lr,Z,⟨_,s0.seq SR⟩,Z2x (K:=K) (a:=lr) (xs:=rp.map V.ref) (λi σ H'=>Same H H'/\∃ (b:W9) (qs:U3) (y:Nat->A5) (v3:Option V),H b=none/\Bd5 K H' b qs y c (n+1010*i) (M+i)/\Steps c (ms.take i) g y/\σ=[some (.ref l),some (.ref lr),some (.ref b),v3])
  ⟨s0,b0,ps,g,none,hb0,⟨Z0c,BD.len,BD.vals.same s0,BD.ok⟩,by rw[q5b];exact .nil,Z⟩ (λi σ H' _ e=>e.1.seq SR) ?_ ?_⟩
 ·rintro i x σ H1 hx ⟨S1,b,qs,y,v3,hb,B1,ST,rfl⟩
  have ilt:i<ms.length:=by
   have:=(q0l.mp hx).1
   rw[q0a] at this
   omega
  rw[q0c] at hx
  obtain⟨p,hp,rfl⟩:=q0h.mp hx
  obtain⟨m,hm,p0⟩:=RW.mvs.get hp
  refine⟨_,Z,_,Z,b,p,qs,y,c,_,_,m,Z,S1 _ _ p0,RW.ok m (q0y hm),B1,c6,by omega,by omega,λr H2 rs z hr S2 B2 st=>?_⟩
  refine⟨S1.trans S2,r,rs,z,_,S1.free hr,⟨B2.lst,B2.len,B2.vals,λj hj=>(B2.ok j hj).mono (by omega) (by omega)⟩,?_,Z⟩
  rw[q1m,hm]
  exact ST.snoc st
 ·rintro σ H1 ⟨S1,b,qs,y,v3,hb,B1,ST,rfl⟩
  rw[q0a,lps] at B1 ST
  rw[q2e] at ST
  exact⟨_,Z,kq b H1 qs y hb S1 B1 ST⟩
def Z8p:Sp:=λvs H Q _=>∃ (cl:Int) (c:Nat),vs=[.int cl,.int c]/\1<=c/\c<=6/\∀ (r:W9) (H':Hp) (nm:Str) (ns:U6),Same H H'->H' r=some (MvT nm ns)->((nm="mix"/\∃ a:Nat,a<c/\ns=[(a:Int)])∨∃ v:Mv,v.Ok c/\nm=v.nm/\ns=v.ns)->Q (.ref r) H'
theorem pick {L:U6}{i:Int}(h0:0<=i)(h1:i<L.length):∃ e∈L,atI (L.map V.int) i=some (.int e):=by
 refine⟨L.getD i.toNat 0,?_,X5n h0 h1⟩
 rw[q0b,q0d (by omega)]
 exact q3v _
structure Rest (c:Nat) (no:W3) (R:U6):Prop where
 only:∀ e∈R,∃ j:Nat,e=(j:Int)/\j<c/\j ∉ no
 all:∀ j:Nat,j<c->j ∉ no->(j:Int)∈R
 len:R.length<=6
theorem Rest.pos1 {c a:Nat}{R:U6}(r:Rest c [a] R)(h:2<=c):0<R.length:=by
 by_cases e:a=0
 ·exact q5y (r.all 1 (by omega) (by simp;omega))
 ·exact q5y (r.all 0 (by omega) (by simp;omega))
theorem Rest.pos2 {c a b:Nat}{R:U6}(r:Rest c [a,b] R)(h:3<=c):0<R.length:=by
 have:∃ j:Nat,j<3/\j≠a/\j≠b:=by
  by_cases h0:0≠a/\0≠b
  ·exact⟨0,by decide,h0.1,h0.2⟩
  ·by_cases h1:1≠a/\1≠b
   ·exact⟨1,by decide,h1.1,h1.2⟩
   ·exact⟨2,by decide,by omega,by omega⟩
 obtain⟨j,j3,ja,jb⟩:=this
 exact q5y (r.all j (by omega) (by simp;omega))
theorem Rest.filter {c a b:Nat}{R:U6}(r:Rest c [a] R){p:Int->Bool}(hp:∀ e,p e=!decide (V.int e=V.int b)):Rest c [a,b] ((R.filter p).map id):=by
 rw[List.map_id]
 refine⟨λe he=>?_,λj hj hn=>?_,q1i (q4t _ _) r.len⟩
 ·obtain⟨h1,h2⟩:=q5r.mp he
  obtain⟨j,rfl,jc,ja⟩:=r.only e h1
  refine⟨j,Z,jc,?_⟩
  rw[hp] at h2
  have h3:¬ (V.int (j:Int)=V.int (b:Int)):=by simpa using h2
  have h4:j≠b:=λz=>h3 (by rw[z])
  have h5:j≠a:=by simpa using ja
  simp
  exact⟨h5,h4⟩
 ·simp at hn
  refine q5r.mpr ⟨r.all j hj (by simp;exact hn.1),?_⟩
  rw[hp,q0w (λz=>hn.2 (by have:=V.int.inj z;omega))]
  rfl
theorem sc_moveby:FnScope ["_law_cell","_law_cells","_law_far","_law_kind","_law_a","_law_rest","_law_b"] ["_law_cell","_law_cells"] (Z0i (top 93)):=fS
theorem Y8k (F:FunAt K "_law_move_by" (top 93) .none)(X:K.In h)(G:Ng h mg)(B:Bs mg):Cal P w K mg base (k+1) "_law_move_by" ["_law_cell","_law_cells"] Z8p:=by
 have nd:=sc_moveby.nd
 refine F.cal X G sc_moveby (bnd2 λ_ _ _ _ _ _ _ _=>rfl) (λvs H Q E h=>?_) (λf cdv A outer s H vs Q E hr h=>?_)
 ·obtain⟨cl,c,rfl,_⟩:=h;rfl
 obtain⟨cl,c,rfl,c1,c6,kq⟩:=h
 have cpos:(0:Int)<(c:Int):=by omega
 refine⟨_,(@Z1c _ _ _ _ _ (@Z0q _ _ 2 _ _ _ _ nd rfl (Or.inl rfl) (Z0h Z0v (Z0h Z3p (pv 0) Z0b) Z0b) rfl (.inl rfl))
  (@Z1c _ _ _ _ _ (@Z0q _ _ 3 _ _ _ _ nd rfl (Or.inl rfl) (Z0h Z0v (pv 2) Z0b) rfl (.inl rfl))
  (@Z1c _ _ _ _ _ (Z0w (PW.pt (Z3y (Z0n Z1k (pv 1) Z0b (nomark _)) (Z3x (PW.pt (Y0m (Z0n Z1k (pv 1) Z0b (nomark _)) (Z6w (Z0n Z1k (pv 3) Z0b (nomark _))))))))
   (@Z0f _ _ _ (@Z0q _ _ 3 _ _ _ _ nd rfl (Or.inl rfl) (Z0h Z0v (pv 3) Z0b) rfl (.inl rfl)))
   Z0o)
  (@Z1c _ _ _ _ _ (@Z0q _ _ 4 _ _ _ _ nd rfl (Or.inr rfl) (Z0h Z0v (Z0h Z1g (pv 2) Z0b) (pv 1)) rfl (.inl rfl))
  (@Z0e _ _ _ _ _ (Z0w (Z0n Z1k (pv 3) Z0b (nomark _))
   (@Z0f _ _ _ (Z0k (@Z1a _ _ _ _ _ (Z0a Z1l (Z0a (pv 4) (Z0a (Z0h Z1b Z0b (Z0h Z0v (Z0h Z1g (pv 2) Z0b) Z0b)) Z0d))))))
   Z0o)
  (@Z0e _ _ _ _ _ (Z0w (Z0n Z7c (pv 3) Z0b (nomark _))
   (@Z0f _ _ _ (Z0k (@Z1a _ _ _ _ _ (Z0a (Z0m Z0z (@Z3b _ _ _ _ (Z0a Z1l (Z0a Z1l Z0d))) (pv 3) (λ_ _=>rfl)) (Z0a (pv 4) Z0d)))))
   Z0o)
  (@Z1c _ _ _ _ _ (Z4y (i:=5) rfl nd rfl rfl (LcOk.of (Nc:=["_law_c","_law_a"]) (mp:=[none,some 4]) (by kernel_rfl)) (Z0y rfl B.range (Z0a (pv 1) Z0d)) (λ_ _ _ _=>(Z0p (i:=0) (show (["_law_c","_law_a"]:W0).Nodup by decide +kernel) rfl (Or.inl rfl))) (λ_ _ _ _=>(Z0n Z4n (pv 0) (pv 1) (nomark _))) (λ_ _ _ _=>(pv 0)) rfl)
  (@Z1c _ _ _ _ _ (@Z0q _ _ 6 _ _ _ _ nd rfl (Or.inr rfl) (Z0m Z0z (pv 5) (Z0h Z0v (Z0h Z1g (pv 2) Z0b) (Z0r Z0u rfl B.len q1h (Z0a (pv 5) Z0d))) (λ_ _=>rfl)) rfl (.inl rfl))
  (@Z0e _ _ _ _ _ (Z0w (Z0n Z7c (pv 3) Z0b (nomark _))
   (@Z0f _ _ _ (Z0k (@Z1a _ _ _ _ _ (Z0a (Z0m Z0z (@Z3b _ _ _ _ (Z0a Z1l (Z0a Z1l (Z0a Z1l Z0d)))) (Z0h Z1z (pv 3) Z0b) (λ_ _=>rfl)) (Z0a (pv 4) (Z0a (pv 6) Z0d))))))
   Z0o)
  (@Z1c _ _ _ _ _ (Z4y (i:=5) rfl nd rfl rfl (LcOk.of (Nc:=["_law_c","_law_b"]) (mp:=[none,some 6]) (by kernel_rfl)) (Z1e (pv 5)) (λ_ _ _ _=>(Z0p (i:=0) (show (["_law_c","_law_b"]:W0).Nodup by decide +kernel) rfl (Or.inl rfl))) (λ_ _ _ _=>(Z0n Z4n (pv 0) (pv 1) (nomark _))) (λ_ _ _ _=>(pv 0)) rfl)
  (@Z0f _ _ _ (Z0k (@Z1a _ _ _ _ _ (Z0a Z1l (Z0a (pv 4) (Z0a (pv 6) (Z0a (Z0m Z0z (pv 5) (Z0h Z0v (Z0h Z1g (pv 2) Z0b) (Z0r Z0u rfl B.len q1h (Z0a (pv 5) Z0d))) (λ_ _=>rfl)) Z0d))))))))))))))))),?_⟩
 try dsimp only[cxK]
 refine⟨λσ H'=>H'=H/\∃ n:Nat,σ=[some (.int cl),some (.int c),some (.int n),none,none,none,none],?_,?_⟩
 ·refine⟨_,Z,_,_,Z,Z,.inr ⟨by decide,by decide⟩,_,_,Z,Z,W0g,Z,?_⟩
  have h0:=q2z (cl*48271) (q4h W0g)
  refine⟨(cl*48271%2147483647).toNat,?_⟩
  rw[q5h h0]
  rfl
 rintro σ1 H1 ⟨rfl,n,rfl⟩
 refine⟨λσ H'=>H'=H1/\∃ t:Nat,t<7/\σ=[some (.int cl),some (.int c),some (.int n),some (.int t),none,none,none],?_,?_⟩
 ·refine⟨_,Z,_,_,Z,Z,p_7,Z,n%7,q1v _ (by decide),?_⟩
  rfl
 rintro σ2 H2 ⟨rfl,t,t7,rfl⟩
 refine⟨λσ H'=>H'=H2/\∃ t:Nat,t<7/\(c=1->t<3)/\(c=2->t≠6)/\σ=[some (.int cl),some (.int c),some (.int n),some (.int t),none,none,none],?_,?_⟩
 ·have mod:∃ t':Nat,t'<7/\(c=1->t'<3)/\(c=2->t'≠6)/\[some (V.int cl),some (V.int c),some (V.int n),some (V.int ((t:Int)%3)),none,none,none]=[some (V.int cl),some (V.int c),some (V.int n),some (V.int t'),none,none,none]:=⟨t%3,by omega,by omega,by omega,Z⟩
  refine⟨_,Z,Z,_,Z,eqI (λ_=>?_) (λhc1=>?_)⟩
  ·exact⟨_,Z,_,_,Z,Z,p_3,Z,mod⟩
  ·refine⟨_,Z,Z,_,Z,eqI (λ_=>⟨_,Z,Z,_,Z,eqI (λ_=>⟨_,Z,_,_,Z,Z,p_3,Z,mod⟩) (λh6=>⟨Z,t,t7,λz=>absurd (by rw[z];rfl) hc1,λ_ z=>h6 (by rw[z];rfl),Z⟩)⟩) (λhc2=>⟨Z,t,t7,λz=>absurd (by rw[z];rfl) hc1,λz=>absurd (by rw[z];rfl) hc2,Z⟩)⟩
 rintro σ3 H3 ⟨rfl,t,t7,t1,t2',rfl⟩
 refine⟨λσ H'=>H'=H3/\∃ a:Nat,a<c/\σ=[some (.int cl),some (.int c),some (.int n),some (.int t),some (.int a),none,none],?_,?_⟩
 ·refine⟨_,Z,_,_,Z,Z,⟨by decide,by decide⟩,_,Z,_,_,Z,Z,cpos,Z,n / 7%c,q1v _ (by omega),?_⟩
  rfl
 rintro σ4 H4 ⟨rfl,a,ac,rfl⟩
 refine⟨_,Z,Z,_,Z,eqI (λ_=>?_) (λn2=>?_)⟩
 ·refine⟨_,Z,_,Z,_,_,Z,Z,⟨by decide,by decide⟩,_,_,Z,Z,p_7,_,_,Z,Z,t3,λr hr=>?_⟩
  refine kq r _ "turn" [(a:Int),((1+n / 49%7:Nat):Int)] (Z0g hr _) ?_ (.inr ⟨.turn a (1+n / 49%7),⟨ac,by omega,by omega⟩,Z,Z⟩)
  rw[Z0c]
  rfl
 refine⟨_,Z,_,_,Z,Z,_,Z,decI (λl2=>?_) (λl2=>?_)⟩
 ·refine⟨t2,λlq hlq=>?_⟩
  have s1:=Z0g hlq (.lst [.str "flip",.str "mix"])
  have tt:t=0∨t=1:=by omega
  rcases tt with rfl | rfl
  ·refine⟨_,Z,lq,_,_,.str "flip",Z,Z,SqL.of Z0c,Z,_,Z,t2,λr hr=>?_⟩
   exact kq r _ "flip" [(a:Int)] (s1.trans (Z0g hr _)) Z0c (.inr ⟨.flip a,ac,Z,Z⟩)
  ·refine⟨_,Z,lq,_,_,.str "mix",Z,Z,SqL.of Z0c,Z,_,Z,t2,λr hr=>?_⟩
   exact kq r _ "mix" [(a:Int)] (s1.trans (Z0g hr _)) Z0c (.inl ⟨Z,a,ac,Z⟩)
 have t3':3<=t:=by omega
 have c2:2<=c:=by omega
 refine⟨λσ H'=>Same H4 H'/\∃ (l:W9) (R:U6),H' l=some (.lst (R.map V.int))/\Rest c [a] R/\σ=[some (.int cl),some (.int c),some (.int n),some (.int t),some (.int a),some (.ref l),none],?_,?_⟩
 ·refine⟨_,Z,_,Z,by omega,by omega,λacc hacc=>?_⟩
  rw[q0v]
  refine Z5e (n:=c) (fr:=[some (.int a)]) (λi ys H'=>Same H4 H'/\H' acc=some (.lst ys)/\∃ R:List Int,ys=R.map V.int/\Rest i [a] R/\R.length<=i) (t64 (by omega)) ⟨Z0g hacc _,Z0c,[],Z,⟨λe he=>(nomatch he),λj hj=>absurd hj (q1k _),by decide⟩,q0g _⟩ ?_ (λhm z=>?_) ?_
  ·rintro i ys H5 N hi hl ⟨S5,a5,R,rfl,RR,lR⟩ kN
   have z0:(0:Int)+(i:Int)=(i:Int):=q2p _
   refine⟨_,Z,_,Z,Z,_,Z,kN _ _ (λhb=>?_) (λhb=>?_)⟩
   ·have ne:i≠a:=λz=>by
     subst z
     rw[z0,q1f rfl] at hb
     cases hb
    refine⟨_,Z,a5,Z0s S5 hacc,Z0c,R++[(i:Int)],by rw[q0i,z0];rfl,⟨λe he=>?_,λj hj hn=>?_,by rw[q1d];simp;omega⟩,by rw[q1d];simp;omega⟩
    ·rcases q1b.mp he with h | h
     ·obtain⟨j,e1,e2,e3⟩:=RR.only e h
      exact⟨j,e1,by omega,e3⟩
     ·exact⟨i,q0r.mp h,by omega,by simp;exact ne⟩
    ·by_cases e:j=i
     ·rw[e];exact q0n _ (q0r.mpr rfl)
     ·exact q1z _ (RR.all j (by omega) hn)
   ·have eq:i=a:=by
     rw[z0] at hb
     have:((i:Int))=(a:Int):=by
      have h2:decide (V.int (i:Int)=V.int (a:Int))=true:=by simpa using hb
      exact V.int.inj (q1u h2)
     omega
    exact⟨S5,a5,R,Z,⟨λe he=>by obtain⟨j,e1,e2,e3⟩:=RR.only e he;exact⟨j,e1,by omega,e3⟩,λj hj hn=>RR.all j (by have:j≠i:=(λz=>hn (by simp;omega));omega) hn,RR.len⟩,by omega⟩
  ·obtain⟨v,e,z⟩:=z
   exact⟨v,e,hm _ _ z⟩
  ·rintro ys H5 ⟨S5,a5,R,rfl,RR,lR⟩
   exact⟨S5,acc,R,a5,RR,Z⟩
 rintro σ5 H5 ⟨S5,l,R,hl,RR,rfl⟩
 have posR:=RR.pos1 c2
 have SL:SqL K H5 l (R.map V.int):=SqL.of hl
 have lenR:(R.map V.int).length=R.length:=q0a _
 refine⟨λσ H'=>H'=H5/\∃ b:Nat,b<c/\b≠a/\σ=[some (.int cl),some (.int c),some (.int n),some (.int t),some (.int a),some (.ref l),some (.int b)],?_,?_⟩
 ·obtain⟨e,he,ae⟩:=pick (L:=R) (i:=((n:Int) / 49)%((R.map V.int).length:Int)) (q2z _ (by rw[lenR];omega)) (by rw[lenR];exact q3a _ (by omega))
  obtain⟨b,rfl,bc,ba⟩:=RR.only e he
  refine⟨_,Z,_,Z,_,_,Z,Z,⟨by decide,by decide⟩,_,Z,l,_,Z,.inl SL,_,_,Z,Z,(by rw[lenR];omega),l,_,_,_,Z,Z,SL,ae,Z,b,bc,by simpa using ba,Z⟩
 rintro σ6 H6 ⟨rfl,b,bc,ba,rfl⟩
 refine⟨_,Z,_,_,Z,Z,_,Z,decI (λl6=>?_) (λl6=>?_)⟩
 ·refine⟨t3,λlq hlq=>?_⟩
  have s1:=Z0g hlq (.lst [.str "if",.str "pair",.str "swap"])
  have tt:t=3∨t=4∨t=5:=by omega
  rcases tt with rfl | rfl | rfl
  ·refine⟨_,Z,_,_,Z,Z,lq,_,_,.str "if",Z,Z,SqL.of Z0c,Z,_,Z,_,Z,t3,λr hr=>?_⟩
   exact kq r _ "if" [(a:Int),(b:Int)] ((S5.trans s1).trans (Z0g hr _)) Z0c (.inr ⟨.iff a b,⟨ac,bc,Ne.symm ba⟩,Z,Z⟩)
  ·refine⟨_,Z,_,_,Z,Z,lq,_,_,.str "pair",Z,Z,SqL.of Z0c,Z,_,Z,_,Z,t3,λr hr=>?_⟩
   exact kq r _ "pair" [(a:Int),(b:Int)] ((S5.trans s1).trans (Z0g hr _)) Z0c (.inr ⟨.pair a b,⟨ac,bc,Ne.symm ba⟩,Z,Z⟩)
  ·refine⟨_,Z,_,_,Z,Z,lq,_,_,.str "swap",Z,Z,SqL.of Z0c,Z,_,Z,_,Z,t3,λr hr=>?_⟩
   exact kq r _ "swap" [(a:Int),(b:Int)] ((S5.trans s1).trans (Z0g hr _)) Z0c (.inr ⟨.swap a b,⟨ac,bc,Ne.symm ba⟩,Z,Z⟩)
 have c3:3<=c:=by omega
 refine⟨λσ H'=>Same H6 H'/\∃ (l:W9) (R:U6),H' l=some (.lst (R.map V.int))/\Rest c [a,b] R/\σ=[some (.int cl),some (.int c),some (.int n),some (.int t),some (.int a),some (.ref l),some (.int b)],?_,?_⟩
 ·refine⟨_,Z,l,Z,⟨_,SL⟩,λacc hacc=>?_⟩
  have lr:=RR.len
  refine Z9g (K:=K) (l:=l) (ns:=R) (fr:=[some (.int b)]) (λe=>!decide (V.int e=V.int b)) id (t64 (by omega)) hacc SL (λe H7 N he S7 kN=>⟨_,Z,_,Z,Z,_,Z,kN⟩) (λe H7 N he hp S7 kN=>⟨_,Z,kN⟩) (λH7 S7 a7=>?_)
  exact⟨S7,acc,_,a7,RR.filter λ_=>rfl,Z⟩
 rintro σ7 H7 ⟨S7,l2,R2,hl2,RR2,rfl⟩
 have posR2:=RR2.pos2 c3
 have SL2:SqL K H7 l2 (R2.map V.int):=SqL.of hl2
 have lenR2:(R2.map V.int).length=R2.length:=q0a _
 obtain⟨e,he,ae⟩:=pick (L:=R2) (i:=((n:Int) / 343)%((R2.map V.int).length:Int)) (q2z _ (by rw[lenR2];omega)) (by rw[lenR2];exact q3a _ (by omega))
 obtain⟨d,rfl,dc,dn⟩:=RR2.only e he
 have dn':d≠a/\d≠b:=by simpa using dn
 refine⟨_,Z,_,Z,_,Z,_,Z,_,_,Z,Z,⟨by decide,by decide⟩,_,Z,l2,_,Z,.inl SL2,_,_,Z,Z,(by rw[lenR2];omega),l2,_,_,_,Z,Z,SL2,ae,t4,λr hr=>?_⟩
 exact kq r _ "cross" [(a:Int),(b:Int),(d:Int)] ((S5.trans S7).trans (Z0g hr _)) Z0c (.inr ⟨.cross a b d,⟨ac,bc,dc,Ne.symm ba,Ne.symm dn'.1,Ne.symm dn'.2⟩,Z,Z⟩)
def spWord:Sp:=λvs H Q _=>∃ x c:Nat,vs=[.int x,.int c]/\c<=6/\x<2^c/\Q (.bl true) H
noncomputable def st (x w:Nat):A5:=if w=x then ((1,0,0,0),0) else ((0,0,0,0),0)
theorem X9t (x w:Nat):Ok5 100 40 (st x w):=by
 unfold st
 split
 ·exact⟨⟨s_1,s_0,s_0,s_0⟩,⟨q3s 0,.inl rfl⟩,forty⟩
 ·exact⟨⟨s_0,s_0,s_0,s_0⟩,⟨q3s 0,.inl rfl⟩,forty⟩
def Y6t (K:U0):Sp:=λvs H Q _=>∃ c x:Nat,vs=[.int c,.int x]/\1<=c/\c<=6/\x<2^c/\∀ (r:W9) (H':Hp) (qs:U3),H r=none->Same H H'->Bd5 K H' r qs (st x) c 100 40->Q (.ref r) H'
def Y7f:Sp:=λvs H Q _=>∃ c x:Nat,vs=[.int c,.int x]/\1<=c/\c<=6/\x<2^c/\Q .non H
theorem sc_begin:FnScope ["cells","word"] ["cells","word"] (Z0i (top 30)):=fS
theorem X2r {tM:Tok}(gM:mg "MOST_CELLS"=some (.int 6 tM))(F:FunAt K "check_beginning" (top 30) .none)(X:K.In h)(G:Ng h mg)(c9:Cal P w K mg base k "is_whole" ["thing"] Z3j)(cQ:Cal P w K mg base k "is_word" ["thing","cells"] spWord):Cal P w K mg base (k+1) "check_beginning" ["cells","word"] Y7f:=by
 have nd:=sc_begin.nd
 refine F.cal X G sc_begin (bnd2 λ_ _ _ _ _ _ _ _=>rfl) (λvs H Q E h=>?_) (λf cdv A outer s H vs Q E hr h=>?_)
 ·obtain⟨c,x,rfl,_⟩:=h;rfl
 obtain⟨c,x,rfl,c1,c6,xc,kq⟩:=h
 refine⟨_,(@Z0e _ _ _ _ _ (Z0w (PW.pt (Z3y (Z1y (Z1n (Z0l c9 hr rfl (Z0a (pv 0) Z0d)))) (Z3y (Z0n Z7c (pv 0) Z0b (nomark _)) (Z3x (Z0n Y2e (pv 0) (Z3c (v:=.int 6) rfl gM ⟨tM,Z⟩) (nomark _))))))
   (@Z0f _ _ _ Z2w)
   Z0o)
  (@Z0f _ _ _ (Z0w (Z1y (Z1n (Z0l cQ hr rfl (Z0a (pv 1) (Z0a (pv 0) Z0d)))))
   (@Z0f _ _ _ Z2w)
   Z0o))),?_⟩
 try dsimp only[cxK]
 refine⟨_,Z,_,Z,_,Z,iteF ⟨_,Z,_,_,Z,Z,_,Z,decI (λz=>absurd z (by omega)) (λ_=>⟨_,Z,_,_,Z,Z,_,Z,decI (λz=>absurd z (by omega)) (λ_=>?_)⟩)⟩⟩
 exact⟨_,Z,_,Z,x,c,Z,c6,xc,_,Z,iteF kq⟩
theorem sc_start:FnScope ["cells","word"] ["cells","word"] (Z0i (top 29)):=fS
theorem Y2u {D:W9}{oc:W2}{od:W5}{n:Nat}{sl:W4}{t0:Tok}(l:K.lookup D=some ⟨oc,od,.seq #[.int 0 t0] n,sl⟩):Z2r K "start" (top 29) (.ref D) ["cells","word"]:=by
 intro kV doc pm an cdv ct s us X hl
 match us,hl with
 | [a,b],_=>exact BindsTo.of_defaults rfl (X _ _ l) rfl rfl rfl
theorem X2a {dV:W2}(F:FunAt K "start" (top 29) dV)(bi:Z2r K "start" (top 29) dV ["cells","word"])(X:K.In h)(G:Ng h mg)(B:Bs mg){aO aZ:W9}(gO:mg "ONE"=some (.ref aO))(gZ:mg "NOUGHT"=some (.ref aZ))(kO:∀ H,At5 K H aO ((1,0,0,0),0))(kZ:∀ H,At5 K H aZ ((0,0,0,0),0))
  (d7:Cal P w K mg base k "check_beginning" ["cells","word"] Y7f):Cal P w K mg base (k+1) "start" ["cells","word"] (Y6t K):=by
 have nd:=sc_start.nd
 refine F.cal X G sc_start bi (λvs H Q E h=>?_) (λf cdv A outer s H vs Q E hr h=>?_)
 ·obtain⟨c,x,rfl,_⟩:=h;rfl
 obtain⟨c,x,rfl,c1,c6,xc,kq⟩:=h
 have p6:=pow6 c6
 have hN:(1:Int)*2^((c:Int).toNat)=((2^c:Nat):Int):=ipow c
 have hM:(1*2^((c:Int).toNat):Int).toNat=2^c:=by rw[hN,q0v]
 refine⟨_,(@Z0e _ _ _ _ _ (Z3s (Z0l d7 hr rfl (Z0a (pv 0) (Z0a (pv 1) Z0d))))
  (@Z0f _ _ _ (Z0k (Z3k rfl (LcOk.of (Nc:=["place","word"]) (mp:=[none,some 1]) (by kernel_rfl)) (Z0y rfl B.range (Z0a (Z0h Z1t Z0b (pv 0)) Z0d)) (λ_ _ _ _=>(Z0p (i:=0) (show (["place","word"]:W0).Nodup by decide +kernel) rfl (Or.inl rfl))) (λ_ _ _ _=>(Z2j (Z0n Z1k (pv 0) (pv 1) (nomark _)) (Z3c (v:=.ref aO) rfl gO rfl) (Z3c (v:=.ref aZ) rfl gZ rfl))))))),?_⟩
 try dsimp only[cxK]
 refine⟨_,Z,_,Z,c,x,Z,c1,c6,xc,?_⟩
 refine⟨_,Z,_,_,Z,Z,⟨1,sz1,by omega,by omega⟩,_,Z,by rw[hN];omega,by rw[hN];omega,λacc hacc=>?_⟩
 rw[hM]
 refine Z4i (n:=2^c) (fr:=[some (.int x)]) (λi ys H'=>∃ qs:List Addr,Same H H'/\H' acc=some (.lst ys)/\ys=qs.map V.ref/\qs.length=i/\ValsK K H' qs (st x)) (t64 p6)
  ⟨[],Z0g hacc _,Z0c,Z,Z,(λ_ _ z=>by cases z)⟩ ?_ ?_
 ·rintro i ys H2 N hi hy ⟨qs,S2,a2,rfl,ql,v2⟩ kN
  have fin:∀ (r:W9),At5 K H2 r (st x i)->N (.ref r) H2:=λr hr=>by
   refine kN (.ref r) H2 a2 ⟨qs++[r],Z0s S2 hacc,Z0c,by rw[q0i];rfl,by simp[ql],?_⟩
   have:=Z2p (ys:=qs.map V.ref++[.ref r]) (xs:=qs.map V.ref) (Z2s v2 (Same.refl _) hr) a2
   intro j p hj
   have q:=this j p hj
   have e:(if j=qs.length then st x i else st x j)=st x j:=by
    by_cases e:j=qs.length
    ·rw[if_pos e,e,ql]
    ·rw[if_neg e]
   rw[<-e]
   exact q
  refine⟨_,Z,_,Z,Z,_,Z,eqI (λe=>fin aO ?_) (λe=>fin aZ ?_)⟩
  ·have:st x i=((1,0,0,0),0):=by unfold st;rw[if_pos (by omega)]
   rw[this];exact kO _
  ·have:st x i=((0,0,0,0),0):=by unfold st;rw[if_neg (by omega)]
   rw[this];exact kZ _
 ·rintro ys H2 hy ⟨qs,S2,a2,rfl,ql,v2⟩
  exact kq acc H2 qs hacc S2 ⟨a2,ql,v2,λi _=>X9t x i⟩
end
end K63
namespace K63.V
open L2 Am Pc Ba
section
variable {P:U8}{w:W1}{K:U0}{mg:U4}{base:Heap}{k:Nat}{h:Heap}
theorem Z2c {x:Int}(h1:-16<x)(h2:x<16):Sz 100 x:=Sz.mono (j:=5) (by unfold Sz;omega) (by decide)
theorem s_0:Sz 100 0:=Z2c (by decide) (by decide)
theorem s_1:Sz 100 1:=Z2c (by decide) (by decide)
theorem s_m:Sz 100 (-1):=Z2c (by decide) (by decide)
theorem forty:(0:Int)<=40:=by decide
theorem ten29:(0:Int)<10^(29:Int).toNat:=by decide +kernel
theorem W2t {x:Int}:Sz 100 (x%10^(29:Int).toNat-10^(29:Int).toNat / 2):=by
 have h1:=q2z x (q4h ten29)
 have h2:=q3a x ten29
 have h3:(10:Int)^(29:Int).toNat<2^100:=by decide +kernel
 generalize x%10^(29:Int).toNat=y at *
 generalize (10:Int)^(29:Int).toNat=t at *
 unfold Sz
 omega
theorem sc_amtby:FnScope ["_law_cell","_law_far","_law_size","_law_parts","_law_k","_law_half"] ["_law_cell"] (Z0i (top 88)):=fS
theorem X2t (F:FunAt K "_law_amount_by" (top 88) .none)(X:K.In h)(G:Ng h mg)(B:Bs mg)(cO:Cal P w K mg base k "_law_low" ["_law_parts","_law_h"] spLow)(cH:Cal P w K mg base k "_law_spin" ["_law_one","_law_k"] spSpin) :
  Cal P w K mg base (k+1) "_law_amount_by" ["_law_cell"] Y1y:=by
 have nd:=sc_amtby.nd
 refine F.cal X G sc_amtby (bnd1 λ_ _ _ _ _ _ _=>rfl) (λvs H Q E h=>?_) (λf cdv A outer s H vs Q E hr h=>?_)
 ·obtain⟨c,rfl,_⟩:=h;rfl
 obtain⟨c,rfl,szc,q⟩:=h
 refine⟨_,(@Z1c _ _ _ _ _ (@Z0q _ _ 1 _ _ _ _ nd rfl (Or.inl rfl) (Z0h Z0v (Z0h Z1b (Z0h Z7b (Z0h Z1g (pv 0) Z0b) (Z0h Y0q Z0b Z0b)) (Z0h Y0q Z0b Z0b)) (Z0h Z7b (Z0h Y0q Z0b Z0b) (Z0h Y0q Z0b Z0b))) rfl (.inl rfl))
  (@Z0e _ _ _ _ _ (@Z0q _ _ 2 _ _ _ _ nd rfl (Or.inl rfl) (Z0h Y0q Z0b Z0b) rfl (.inl rfl))
  (@Z0e _ _ _ _ _ (Z0w (Z0n Z1k (Z0h Z0v (pv 0) Z0b) Z0b (nomark _))
   (@Z0f _ _ _ (Z0k (Z0l cH hr rfl (Z0a (@Z1a _ _ _ _ _ (Z0a Z0b (Z0a Z0b (Z0a Z0b (Z0a Z0b (Z0a Z0b Z0d)))))) (Z0a (Z0h Z0v (pv 1) Z0b) Z0d)))))
   Z0o)
  (@Z0e _ _ _ _ _ (Z0w (Z0n Z1k (Z0h Z0v (pv 0) Z0b) Z0b (nomark _))
   (@Z0e _ _ _ _ _ (@Z0q _ _ 3 _ _ _ _ nd rfl (Or.inl rfl) (@Z3b _ _ _ _ (Z0a (Z0h Z1z (Z0h Z0v (pv 1) Z0b) Z0b) (Z0a (Z0h Z1z (Z0h Z0v (Z0h Z1g (pv 1) Z0b) Z0b) Z0b) (Z0a (Z0h Z1z (Z0h Z0v (Z0h Z1g (pv 1) Z0b) Z0b) Z0b) (Z0a (Z0h Z1z (Z0h Z0v (Z0h Z1g (pv 1) Z0b) Z0b) Z0b) Z0d))))) rfl (.inl rfl))
   (@Z0f _ _ _ (Z0k (Z0l cO hr rfl (Z0a (pv 3) (Z0a (Z0h Z0v (Z0h Z1g (pv 1) Z0b) Z0b) Z0d))))))
   Z0o)
  (@Z0e _ _ _ _ _ (Z0w (Z0n Z1k (Z0h Z0v (pv 0) Z0b) Z0b (nomark _))
   (@Z0e _ _ _ _ _ (@Z0q _ _ 3 _ _ _ _ nd rfl (Or.inl rfl) (@Z3b _ _ _ _ Z0d) rfl (.inl rfl))
   (@Z0e _ _ _ _ _ (Z1v PassesOwn.never rfl (Z0y rfl B.range (Z0a Z0b Z0d)) (Z0p (i:=4) nd rfl (Or.inl rfl))
    (@Z0e _ _ _ _ _ (Z3s (Y7u q3m q3j q3i Z3d (pv 3) (Z0a (Z0h Z1z (Z0h Z0v (pv 1) (pv 2)) (Z0h Z1g (pv 2) Z0b)) Z0d)))
    (@Z0f _ _ _ (@Z0q _ _ 1 _ _ _ _ nd rfl (Or.inl rfl) (Z0h Z9c (pv 1) (pv 2)) rfl (.inl rfl)))))
   (@Z0f _ _ _ (Z0k (Z0l cO hr rfl (Z0a (pv 3) (Z0a (Z0h Z0v (pv 1) Z0b) Z0d)))))))
   Z0o)
  (@Z0e _ _ _ _ _ (Z0w (Z0n Z1k (Z0h Z0v (pv 0) Z0b) Z0b (nomark _))
   (@Z0e _ _ _ _ _ (@Z0q _ _ 5 _ _ _ _ nd rfl (Or.inl rfl) (Z0h Z0v (pv 1) Z0b) rfl (.inl rfl))
   (@Z0f _ _ _ (Z0k (Z0l cH hr rfl (Z0a (Z0m Z0z (@Z3b _ _ _ _ (Z0a (@Z1a _ _ _ _ _ (Z0a Z0b (Z0a Z0b (Z0a Z0b (Z0a Z0b (Z0a (pv 5) Z0d)))))) (Z0a (@Z1a _ _ _ _ _ (Z0a Z0b (Z0a Z0b (Z0a Z0b (Z0a (Y2c Z9x Z0b) (Z0a (Z0h Z1b (pv 5) Z0b) Z0d)))))) Z0d))) (Z0h Z0v (Z0h Z1g (pv 1) Z0b) Z0b) (λ_ _=>rfl)) (Z0a (Z0h Z0v (Z0h Z1g (pv 1) Z0b) Z0b) Z0d))))))
   Z0o)
  (@Z0e _ _ _ _ _ (Z0w (Z0n Z1k (Z0h Z0v (pv 0) Z0b) Z0b (nomark _))
   (@Z0f _ _ _ (Z0k (@Z1a _ _ _ _ _ (Z0a (Z0h Z1z (Z0h Z0v (pv 1) Z0b) Z0b) (Z0a Z0b (Z0a (Z0h Z1z (Z0h Z0v (Z0h Z1g (pv 1) Z0b) Z0b) Z0b) (Z0a Z0b (Z0a Z0b Z0d))))))))
   Z0o)
  (@Z0f _ _ _ (Z0k (@Z1a _ _ _ _ _ (Z0a Z0b (Z0a Z0b (Z0a Z0b (Z0a Z0b (Z0a Z0b Z0d))))))))))))))),?_⟩
 try dsimp only[cxK]
 have pM:(0:Int)<10^(60:Int).toNat*10^(60:Int).toNat:=by decide +kernel
 have szc6:Sz 1048600 (c / 6):=szc.le (by omega)
 have s63:Sz 400 ((63:Int)^(64:Int).toNat):=by decide +kernel
 have s60:Sz 200 ((10:Int)^(60:Int).toNat):=by decide +kernel
 refine⟨λσ' H'=>H'=H/\∃ F:Int,0<=F/\σ'=[some (.int c),some (.int F),none,none,none,none],?_,?_⟩
 ·exact⟨_,Z,_,_,Z,Z,⟨by decide,by decide⟩,_,_,Z,Z,⟨by decide,by decide,by decide⟩,_,_,Z,Z,⟨1048600,400,szc6,s63,by decide⟩,_,_,Z,Z,⟨by decide,by decide,by decide⟩,_,_,Z,Z,_,_,Z,Z,⟨by decide,by decide,by decide⟩,_,_,Z,Z,⟨by decide,by decide,by decide⟩,_,_,Z,Z,⟨200,200,s60,s60,by decide⟩,_,_,Z,Z,pM,Z,_,q2z _ (q4h pM),Z⟩
 rintro σ1 H1 ⟨rfl,F,F0,rfl⟩
 refine⟨_,_,Z,Z,⟨by decide,by decide,by decide⟩,?_⟩
 have one:Ok5 100 40 ((1,0,0,0),0):=⟨⟨s_1,s_0,s_0,s_0⟩,⟨q3s 0,.inl rfl⟩,forty⟩
 refine⟨_,Z,_,_,Z,Z,p_6,Z,_,Z,eqI (λ_=>?_) (λ_=>?_)⟩
 ·exact⟨t5,λt ht=>⟨_,Z,_,_,Z,Z,p_8,t,((1,0,0,0),0),_,Z,Z0c,λr H' s' e'=>q r H' _ ((Z0g ht _).trans s') e' (Y0t one _)⟩⟩
 refine⟨_,Z,_,_,Z,Z,p_6,Z,_,Z,eqI (λ_=>?_) (λ_=>?_)⟩
 ·refine⟨_,Z,_,_,Z,Z,p_7,_,_,Z,Z,_,Z,_,_,Z,Z,⟨by decide,by decide⟩,_,_,Z,Z,p_7,_,_,Z,Z,_,Z,_,_,Z,Z,⟨by decide,by decide⟩,_,_,Z,Z,p_7,_,_,Z,Z,_,Z,_,_,Z,Z,⟨by decide,by decide⟩,_,_,Z,Z,p_7,_,_,Z,Z,t4,λl hl=>?_⟩
  refine⟨_,Z,_,Z,_,_,Z,Z,⟨by decide,by decide⟩,_,_,Z,Z,p_4,l,_,_,_,_,_,Z,Z0c,(by show 0<=F / 2401%4;omega),λp H' x y z u g s' e' r'=>q p H' ((x,y,z,u),g) ((Z0g hl _).trans s') e' ⟨r'.sz ⟨?_,?_,?_,?_⟩,r'.amt,?_⟩⟩
  ·show Sz 100 (F%7-3)
   exact Z2c (by omega) (by omega)
  ·show Sz 100 (F / 7%7-3)
   exact Z2c (by omega) (by omega)
  ·show Sz 100 (F / 49%7-3)
   exact Z2c (by omega) (by omega)
  ·show Sz 100 (F / 343%7-3)
   exact Z2c (by omega) (by omega)
  ·have:=r'.le
   have h2:g<=F / 2401%4:=this
   show g<=40
   omega
 refine⟨_,Z,_,_,Z,Z,p_6,Z,_,Z,eqI (λ_=>?_) (λ_=>?_)⟩
 ·refine⟨q1l _,λl hl=>?_⟩
  refine⟨4,Z,by decide,by decide,Z1u (n:=4) (λi σ H'=>∃ (xs:U6) (g:Int) (v4:Option V),xs.length=i/\(∀ x∈xs,Sz 100 x)/\0<=g/\Same H1 H'/\H' l=some (.lst (xs.map V.int))/\σ=[some (.int c),some (.int g),some (.int (10^(29:Int).toNat)),some (.ref l),v4,none]) ⟨[],F,_,Z,(λ_ z=>by cases z),F0,Z0g hl _,Z0c,Z⟩ ?_ ?_⟩
  ·rintro i σ H' hi ⟨xs,g,v4,hx,hz,g0,S',hl',rfl⟩
   refine⟨_,Z,.inl ⟨Z,_,SqL.of hl'⟩,_,Z,_,Z,_,_,Z,Z,ten29,_,Z,_,_,Z,Z,⟨by decide,by decide⟩,_,_,Z,Z,l,_,_,Z,Z,hl',(by rw[q0a,hx];exact q0k hi t4),?_⟩
   refine⟨_,Z,_,Z,_,_,Z,Z,⟨q4h ten29,by decide +kernel⟩,⟨xs++[g%10^(29:Int).toNat-10^(29:Int).toNat / 2],g.fdiv (10^(29:Int).toNat),some (.int (0+i)),by simp[hx],?_,Int.fdiv_nonneg g0 (q8o ten29),Z0s S' hl,?_,Z⟩⟩
   ·intro x hx'
    rcases q1b.mp hx' with z | z
    ·exact hz x z
    ·rw[q0r.mp z];exact W2t
   ·rw[Z0c,q0i];rfl
  ·rintro σ H' ⟨xs,g,v4,hx,hz,g0,S',hl',rfl⟩
   obtain⟨x1,x2,x3,x4,rfl⟩:∃ x1 x2 x3 x4,xs=[x1,x2,x3,x4]:=by
    match xs,hx with
    | [x1,x2,x3,x4],_=>exact⟨x1,x2,x3,x4,rfl⟩
   refine⟨_,Z,_,Z,_,_,Z,Z,p_40,l,x1,x2,x3,x4,_,Z,hl',(by show 0<=g%40;omega),λp H2 x y z u m s' e' r'=>q p H2 ((x,y,z,u),m) (S'.trans s') e' ⟨r'.sz ⟨hz _ (by simp),hz _ (by simp),hz _ (by simp),hz _ (by simp)⟩,r'.amt,?_⟩⟩
   have h2:m<=g%40:=r'.le
   show m<=40
   omega
 refine⟨_,Z,_,_,Z,Z,p_6,Z,_,Z,eqI (λ_=>?_) (λ_=>?_)⟩
 ·refine⟨_,Z,_,_,Z,Z,p_6,?_⟩
  refine⟨_,Z,t5,λr1 h1=>?_⟩
  refine⟨_,Z,_,Z,_,_,Z,Z,t5,λr2 h2=>⟨t2,λl hl=>?_⟩⟩
  have f0:0<=F%6/\F%6<6:=by omega
  have z2:=Z0g h2 (tA ((0,1,0,-1),F%6+1))
  have z3:=Z0g hl (.lst [.ref r1,.ref r2])
  have Y:=(Z0g h1 (tA ((1,0,0,0),F%6))).trans (z2.trans z3)
  have e1:=z3 _ _ (z2 _ _ (Z0c (H:=H1) (a:=r1) (o:=tA ((1,0,0,0),F%6))))
  have e2:=z3 _ _ (Z0c (H:=upd H1 r1 (tA ((1,0,0,0),F%6))) (a:=r2) (o:=tA ((0,1,0,-1),F%6+1)))
  have o1:Ok5 100 40 ((1,0,0,0),F%6):=⟨one.sz,⟨f0.1,.inr (.inl rfl)⟩,by show F%6<=40;omega⟩
  have o2:Ok5 100 40 ((0,1,0,-1),F%6+1):=⟨⟨s_0,s_1,s_0,s_m⟩,⟨by show 0<=F%6+1;omega,.inr (.inr (.inl rfl))⟩,by show F%6+1<=40;omega⟩
  have cc:F / 6%2=0∨F / 6%2=1:=by omega
  rcases cc with cc | cc
  ·exact⟨_,Z,_,_,Z,Z,⟨by decide,by decide⟩,_,_,Z,Z,p_2,l,[.ref r1,.ref r2],_,.ref r1,Z,Z,SqL.of Z0c,(by show atI _ (F / 6%2)=_;rw[cc];rfl),_,Z,_,_,Z,Z,⟨by decide,by decide⟩,_,_,Z,Z,p_8,r1,_,_,Z,e1,λr H' s' e'=>q r H' _ (Y.trans s') e' (Y0t o1 _)⟩
  ·exact⟨_,Z,_,_,Z,Z,⟨by decide,by decide⟩,_,_,Z,Z,p_2,l,[.ref r1,.ref r2],_,.ref r2,Z,Z,SqL.of Z0c,(by show atI _ (F / 6%2)=_;rw[cc];rfl),_,Z,_,_,Z,Z,⟨by decide,by decide⟩,_,_,Z,Z,p_8,r2,_,_,Z,e2,λr H' s' e'=>q r H' _ (Y.trans s') e' (Y0t o2 _)⟩
 refine⟨_,Z,_,_,Z,Z,p_6,Z,_,Z,eqI (λ_=>?_) (λ_=>?_)⟩
 ·refine⟨_,Z,_,_,Z,Z,p_11,_,_,Z,Z,_,Z,_,_,Z,Z,⟨by decide,by decide⟩,_,_,Z,Z,p_11,_,_,Z,Z,t5,λt ht=>?_⟩
  refine q t _ ((F%11-5,0,F / 11%11-5,0),0) (Z0g ht _) Z0c ⟨⟨?_,s_0,?_,s_0⟩,⟨q3s 0,.inl rfl⟩,forty⟩
  ·exact Z2c (by show -16<F%11-5;omega) (by show F%11-5<16;omega)
  ·exact Z2c (by show -16<F / 11%11-5;omega) (by show F / 11%11-5<16;omega)
 ·exact⟨t5,λt ht=>q t _ ((0,0,0,0),0) (Z0g ht _) Z0c ⟨⟨s_0,s_0,s_0,s_0⟩,⟨q3s 0,.inl rfl⟩,forty⟩⟩
theorem Z2s {H H':Hp}{ps:U3}{f:Nat->A5}{p:W9}{x:A5}(v:Vals5 H ps f)(s:Same H H')(e:H' p=some (tA x)):Vals5 H' (ps++[p]) (λj=>if j=ps.length then x else f j):=by
 intro i q hq
 by_cases hi:i<ps.length
 ·rw[q4b hi] at hq
  show H' q=some (tA (if i=ps.length then x else f i))
  rw[if_neg (by omega)]
  exact s _ _ (v i q hq)
 ·rw[q3t (by omega)] at hq
  have hi2:i=ps.length:=by
   have:=(q0l.mp hq).1
   simp at this
   omega
  subst hi2
  simp at hq
  subst hq
  show H' _=some (tA (if ps.length=ps.length then x else f ps.length))
  rw[if_pos rfl]
  exact e
theorem Z2p {H:Hp}{ps:U3}{f:Nat->A5}{l:W9}{xs ys:List V}(v:Vals5 H ps f)(e:H l=some (.lst xs)):Vals5 (upd H l (.lst ys)) ps f:=λi q hq=>by
 have:=v i q hq
 rw[Z0x (Z7e this e (by intro z;cases z))]
 exact this
theorem Y3b {H:Hp}{ps:U3}{f:Nat->A5}{p:W9}{x:A5}{j:Nat}(v:Vals5 H ps f)(e:H p=some (tA x)):Vals5 H (ps.set j p) (λi=>if i=j then x else f i):=by
 intro i q hq
 by_cases hi:i=j
 ·subst hi
  rw[List.getElem?_set_self'] at hq
  show H q=some (tA (if i=i then x else f i))
  rw[if_pos rfl]
  cases h:ps[i]? with
  | none=>rw[h] at hq;cases hq
  | some r=>rw[h] at hq;cases hq;exact e
 ·rw[q6k (λz=>hi z.symm)] at hq
  show H q=some (tA (if i=j then x else f i))
  rw[if_neg hi]
  exact v i q hq
def Nz (c:Nat)(f:Nat->A5):Prop:=∃ w,w<2^c/\f w≠((0,0,0,0),0)
def Y3v (K:U0):Sp:=λvs H Q _=>∃ (a:W9) (ns:U6) (i:Int) (c:Nat),vs=[.ref a,.int i,.int c]/\SqL K H a (ns.map V.int)/\Light ns/\0<=i/\1<=c/\c<=6 ∧
 ∀ (l:W9) (H':Hp) (ps:U3) (f:Nat->A5),H l=none->Same H H'->H' l=some (.lst (ps.map V.ref))->ps.length=2^c->Vals5 H' ps f->(∀ i,Ok5 100 40 (f i))->Nz c f->Q (.ref l) H'
theorem W0r {n:Nat}{f:Nat->A5}(h:¬ (((List.range n).map λj=>decide (l5 (f j)=[0,0,0,0,0])).all id=true)):∃ w,w<n/\f w≠((0,0,0,0),0):=by
 apply Classical.byContradiction
 intro no
 apply h
 rw[q2m]
 intro b hb
 obtain⟨j,hj,rfl⟩:=q1q.mp hb
 have e:f j=((0,0,0,0),0):=Classical.byContradiction λz=>no ⟨j,q1o.mp hj,z⟩
 show decide (l5 (f j)=_)=true
 rw[e]
 rfl
theorem sc_bdby:FnScope ["_law_script","_law_at","_law_cells","_law_board","_law_k"] ["_law_script","_law_at","_law_cells"] (Z0i (top 89)):=fS
theorem X7o (F:FunAt K "_law_board_by" (top 89) .none)(X:K.In h)(G:Ng h mg)(B:Bs mg)(c7:Cal P w K mg base k "_law_cell_at" ["_law_script","_law_k"] (spCell K))(cG:Cal P w K mg base k "_law_amount_by" ["_law_cell"] Y1y) :
  Cal P w K mg base (k+1) "_law_board_by" ["_law_script","_law_at","_law_cells"] (Y3v K):=by
 have nd:=sc_bdby.nd
 refine F.cal X G sc_bdby (bnd3 λ_ _ _ _ _ _ _ _ _=>rfl) (λvs H Q E h=>?_) (λf cdv A outer s H vs Q E hr h=>?_)
 ·obtain⟨a,ns,i,c,rfl,_⟩:=h;rfl
 obtain⟨a,ns,i,c,rfl,hS,lt,i0,c1,c6,q⟩:=h
 refine⟨_,(@Z0e _ _ _ _ _ (@Z0q _ _ 3 _ _ _ _ nd rfl (Or.inl rfl) (@Z3b _ _ _ _ Z0d) rfl (.inl rfl))
  (@Z0e _ _ _ _ _ (Z1v PassesOwn.never rfl (Z0y rfl B.range (Z0a (Z0h Z1t Z0b (pv 2)) Z0d)) (Z0p (i:=4) nd rfl (Or.inl rfl))
   (@Z0f _ _ _ (Z3s (Y7u q3m q3j q3i Z3d (pv 3) (Z0a (Z0l cG hr rfl (Z0a (Z0h Z1b (Z0l c7 hr rfl (Z0a (pv 0) (Z0a (Z0h Z1b (pv 1) (Z0h Z0v (pv 4) Z0b)) Z0d))) (Z0h Z3p (Z0h Z1g (pv 4) Z0b) Z0b)) Z0d)) Z0d)))))
  (@Z1c _ _ _ _ _ (Z0w (Z1n (Z0r (Z2f rfl) rfl B.all q6o (Z0a (Z3k rfl (LcOk.of (Nc:=["_law_one"]) (mp:=[none]) (by kernel_rfl)) (Z1e (pv 3)) (λ_ _ _ _=>(Z0p (i:=0) (show (["_law_one"]:W0).Nodup by decide +kernel) rfl (Or.inl rfl))) (λ_ _ _ _=>(Z1p (Z9d hr.units) (pv 0) (@Z1a _ _ _ _ _ (Z0a Z0b (Z0a Z0b (Z0a Z0b (Z0a Z0b (Z0a Z0b Z0d)))))) (nomark _)))) Z0d)))
   (@Z0f _ _ _ (Z5u (@Z1a _ _ _ _ _ (Z0a Z0b (Z0a Z0b (Z0a Z0b (Z0a Z0b (Z0a Z0b Z0d)))))) (Y0o (pv 3) (Z0h Z0v (Z0l c7 hr rfl (Z0a (pv 0) (Z0a (pv 1) Z0d))) (Z0r Z0u rfl B.len q1h (Z0a (pv 3) Z0d))) Z4v)))
   Z0o)
  (@Z0f _ _ _ (Z0k (pv 3)))))),?_⟩
 try dsimp only[cxK]
 refine⟨q1l _,λl hl=>?_⟩
 have hN:(1:Int)*2^((c:Int).toNat)=((2^c:Nat):Int):=ipow c
 have hM:(1*2^((c:Int).toNat):Int).toNat=2^c:=by rw[hN,q0v]
 have p6:=pow6 c6
 have p0:0<2^c:=q0o c
 refine⟨_,Z,_,_,Z,Z,⟨1,sz1,by omega,by omega⟩,_,Z,by rw[hN];omega,?_,Z1u (n:=(1*2^((c:Int).toNat):Int).toNat) (λj σ H'=>∃ (ps:U3) (f:Nat->A5) (v:Option V),Same H H'/\H' l=some (.lst (ps.map V.ref))/\ps.length=j/\Vals5 H' ps f/\(∀ i,Ok5 100 40 (f i))/\σ=[some (.ref a),some (.int i),some (.int c),some (.ref l),v])
  ⟨[],λ_=>((0,0,0,0),0),_,Z0g hl _,Z0c,Z,(λ_ _ z=>by cases z),(λ_=>⟨⟨s_0,s_0,s_0,s_0⟩,⟨q3s 0,.inl rfl⟩,forty⟩),Z⟩ ?_ ?_⟩
 ·rw[hN];omega
 ·rintro j σ H1 hj ⟨ps,f,v,S1,h1,hlen,hv,ok,rfl⟩
  rw[hM] at hj
  have hS1:=S1.seq hS
  have sz8:Sz 1048600 (cell ns (i+(0+(j:Int))%8)+(0+(j:Int)) / 8*7919):=((Z9s lt _).add (show Sz 20 ((0+(j:Int)) / 8*7919) by unfold Sz;omega)).mono (by decide)
  refine⟨_,Z,.inl ⟨Z,_,SqL.of h1⟩,_,Z,_,Z,_,Z,_,_,Z,Z,p_8,_,_,Z,Z,a,ns,_,Z,hS1,(by show 0<=i+(0+(j:Int))%8;omega),_,Z,_,_,Z,Z,⟨by decide,by decide⟩,_,_,Z,Z,.inr ⟨by decide,by decide⟩,_,_,Z,Z,_,Z,sz8,λp H2 x s2 e2 o2=>?_⟩
  refine⟨l,_,_,Z,Z,s2 _ _ h1,(by rw[q0a,hlen];exact q0k (q0k hj p6) (by decide)),?_⟩
  refine⟨ps++[p],λi=>if i=ps.length then x else f i,some (.int (0+j)),Z0s (S1.trans s2) hl,?_,by simp[hlen],Z2p (Z2s hv s2 e2) (s2 _ _ h1),λi=>?_,Z⟩
  ·rw[Z0c,q0i];rfl
  ·show Ok5 100 40 (if i=ps.length then x else f i)
   split
   ·exact o2
   ·exact ok i
 ·rintro σ H1 ⟨ps,f,v,S1,h1,hlen,hv,ok,rfl⟩
  rw[hM] at hlen
  have hS1:=S1.seq hS
  refine⟨λσ' H'=>∃ (ps:U3) (f:Nat->A5),Same H H'/\H' l=some (.lst (ps.map V.ref))/\ps.length=2^c/\Vals5 H' ps f/\(∀ i,Ok5 100 40 (f i))/\Nz c f/\σ'=[some (.ref a),some (.int i),some (.int c),some (.ref l),v],?_,?_⟩
  ·refine⟨_,Z,l,Z,⟨_,SqL.of h1⟩,λacc hacc=>?_⟩
   refine Z2u (K:=K) (a:=l) (xs:=ps.map V.ref) (fr:=[]) (λi ys H'=>Same H1 H'/\H' acc=some (.lst ys)/\ys=((List.range i).map λj=>decide (l5 (f j)=[0,0,0,0,0])).map V.bl) (by rw[q0a,hlen];exact t64 p6) ⟨Z0g hacc _,Z0c,Z⟩ (λi ys H' p=>SqL.of (p.1 _ _ h1)) ?_ ?_
   ·rintro i x ys H2 N hx hy ⟨s2,a2,rfl⟩ kN
    rw[q0c] at hx
    obtain⟨p,hp,rfl⟩:=q0h.mp hx
    have ep:=s2 _ _ (hv i p hp)
    refine⟨_,Z,t5,λt ht=>⟨p,t,l5 (f i),[0,0,0,0,0],Z,Z,SqT.of (Z0g ht _ _ _ ep),SqT.of Z0c,kN _ _ (Z0g ht _ _ _ a2) ⟨Z0s (s2.trans (Z0g ht _)) hacc,Z0c,?_⟩⟩⟩
    rw[q4s,q0i,q0i];rfl
   ·rintro ys H2 hl2 ⟨s2,a2,rfl⟩
    refine⟨acc,_,Z,SqL.of a2,_,Z,blI (λ_=>?_) (λeb=>?_)⟩
    ·refine⟨t5,λt ht=>?_⟩
     have S3:=s2.trans (Z0g ht (tA ((1,0,0,0),0)))
     have h3:=S3 _ _ h1
     have lp:(0:Int)<((ps.map V.ref).length:Nat):=by rw[q0a,hlen];omega
     have e0:=q2z (cell ns i) (q4h lp)
     have e1:=q3a (cell ns i) lp
     refine⟨_,Z,_,Z,_,Z,a,ns,_,Z,S3.seq hS1,i0,_,Z,l,_,Z,.inl (SqL.of h3),_,_,Z,Z,lp,l,_,_,(cell ns i%((ps.map V.ref).length:Nat)).toNat,Z,Z,h3,?_,?_⟩
     ·unfold ixN
      rw[if_pos e0,if_pos e1]
     refine⟨ps.set (cell ns i%((ps.map V.ref).length:Nat)).toNat t,λj=>if j=(cell ns i%((ps.map V.ref).length:Nat)).toNat then ((1,0,0,0),0) else f j,Z0s (S1.trans S3) hl,?_,by simp[hlen],Z2p (Y3b (hv.same S3) Z0c) h3,λj=>?_,⟨(cell ns i%((ps.map V.ref).length:Nat)).toNat,?_,?_⟩,Z⟩
     ·rw[Z0c,q9g]
     ·show Ok5 100 40 (if j=_ then _ else f j)
      split
      ·exact⟨⟨s_1,s_0,s_0,s_0⟩,⟨q3s 0,.inl rfl⟩,forty⟩
      ·exact ok j
     ·show (cell ns i%((ps.map V.ref).length:Nat)).toNat<2^c
      rw[q0a,hlen] at *
      omega
     ·show (if _=_ then ((1,0,0,0),0) else f _)≠_
      rw[if_pos rfl]
      intro z
      cases z
    ·refine⟨ps,f,S1.trans s2,s2 _ _ h1,hlen,hv.same s2,ok,?_,Z⟩
     rw[q0a,hlen] at eb
     exact W0r (by rw[eb];exact q0p)
  rintro σ' H2 ⟨qs,g,S2,h2,l2,v2,o2,nz,rfl⟩
  exact⟨_,Z,q l H2 qs g hl S2 h2 l2 v2 o2 nz⟩
end
end K63.V
namespace K63
open L2 Am Pc Ba
section
variable {P:U8}{w:W1}{K:U0}{mg:U4}{base:Heap}{k:Nat}{h:Heap}
theorem sc_bits:FnScope ["_law_number","_law_many"] ["_law_number"] (Z0i (top 91)):=fS
theorem X7n (F:FunAt K "_law_bits" (top 91) .none)(X:K.In h)(G:Ng h mg):Cal P w K mg base (k+1) "_law_bits" ["_law_number"] spOnes:=by
 have nd:=sc_bits.nd
 refine F.cal X G sc_bits (bnd1 λ_ _ _ _ _ _ _=>rfl) (λvs H Q E h=>?_) (λf cdv A outer s H vs Q E hr h=>?_)
 ·obtain⟨n,rfl,_⟩:=h;rfl
 obtain⟨n,rfl,q⟩:=h
 refine⟨_,(@Z0e _ _ _ _ _ (@Z0q _ _ 1 _ _ _ _ nd rfl (Or.inl rfl) Z0b rfl (.inl rfl))
  (@Z0e _ _ _ _ _ (Z6d PassesOwn.never (Z0n Y2e (pv 0) Z0b (nomark _))
   (@Z0e _ _ _ _ _ (@Z0q _ _ 1 _ _ _ _ nd rfl (Or.inl rfl) (Z0h Z1b (pv 1) (Z0h Z0v (pv 0) Z0b)) rfl (.inl rfl))
   (@Z0f _ _ _ (@Z0q _ _ 0 _ _ _ _ nd rfl (Or.inl rfl) (Z0h Z1g (pv 0) Z0b) rfl (.inl rfl)))))
  (@Z0f _ _ _ (Z0k (pv 1))))),?_⟩
 try dsimp only[cxK]
 refine⟨λm σ H'=>H'=H/\∃ j:Nat,j+pc m=pc n/\σ=[some (.int m),some (.int j)],⟨n,Z,0,q2u _,Z⟩,?_⟩
 rintro m σ H' ⟨rfl,j,hj,rfl⟩
 refine⟨_,Z,_,_,Z,Z,_,Z,decI (λhr0=>?_) (λhr0=>?_)⟩
 ·have hm:0<m:=by omega
  have e:=Z4d m
  refine⟨_,λσ' H' x=>x,?_⟩
  refine⟨_,Z,_,Z,_,_,Z,Z,p_2,_,_,Z,Z,?_⟩
  refine⟨_,Z,_,_,Z,Z,⟨by decide,by decide⟩,⟨m / 2,by omega,Z,j+m%2,by omega,Z⟩⟩
 ·have r0:m=0:=by omega
  subst r0
  rw[Z1s,q3h] at hj
  subst hj
  exact⟨_,Z,q⟩
theorem sc_cells:FnScope ["_law_cell"] ["_law_cell"] (Z0i (top 85)):=fS
theorem X2o (F:FunAt K "_law_cells_by" (top 85) .none)(X:K.In h)(G:Ng h mg):Cal P w K mg base (k+1) "_law_cells_by" ["_law_cell"] Y7c:=by
 have nd:=sc_cells.nd
 refine F.cal X G sc_cells (bnd1 λ_ _ _ _ _ _ _=>rfl) (λvs H Q E h=>?_) (λf cdv A outer s H vs Q E hr h=>?_)
 ·obtain⟨c,rfl,_⟩:=h;rfl
 obtain⟨c,rfl,q⟩:=h
 refine⟨_,(@Z0e _ _ _ _ _ (Z0w (Z0n Z1k (Z0h Z0v (Z0h Z1g (pv 0) Z0b) Z0b) Z0b (nomark _))
   (@Z0f _ _ _ (Z0k (Z0h Z1b Z0b (Z0h Z0v (Z0h Z1g (pv 0) Z0b) Z0b))))
   Z0o)
  (@Z0f _ _ _ (Z0k (Z0h Z1b Z0b (Z0h Z0v (pv 0) Z0b))))),?_⟩
 try dsimp only[cxK]
 refine⟨_,Z,_,_,Z,Z,⟨by decide,by decide⟩,_,_,Z,Z,p_8,Z,_,Z,eqI (λ_=>?_) (λ_=>?_)⟩
 ·refine⟨_,Z,_,_,Z,Z,⟨by decide,by decide⟩,_,_,Z,Z,p_3,_,_,Z,Z,?_⟩
  have:=q (4+c / 24%3).toNat (by omega) (by omega)
  rw[show (((4+c / 24%3).toNat:Nat):Int)=4+c / 24%3 by omega] at this
  exact this
 ·refine⟨_,Z,_,_,Z,Z,p_3,_,_,Z,Z,?_⟩
  have:=q (1+c%3).toNat (by omega) (by omega)
  rw[show (((1+c%3).toNat:Nat):Int)=1+c%3 by omega] at this
  exact this
end
end K63
namespace K51
open Pc
abbrev Eqn:=Nat × Nat
noncomputable def add (e f:Eqn):Eqn:=(e.1^^^f.1,e.2^^^f.2)
def sat (x:Nat)(e:Eqn):Prop:=pc (e.1&&&x)%2=e.2
noncomputable def bl (m:Nat):Nat:=if m=0 then 0 else m.log2+1
theorem bl_le {m n:Nat}:bl m<=n ↔ m<2^n:=by
 unfold bl
 by_cases h:m=0
 ·subst h;simp[q0o]
 ·rw[if_neg h,<-q8w h];omega
theorem bl_zero {m:Nat}:bl m=0 ↔ m=0:=by
 unfold bl
 by_cases h:m=0<;>simp[h]
theorem X3w (m:Nat):m<2^bl m:=bl_le.mp (q0g _)
theorem X3x {m k:Nat}(h:bl m=k+1):2^k<=m:=by
 rcases Nat.lt_or_ge m (2^k) with c | c
 ·have:=bl_le.mpr c;omega
 ·exact c
theorem Y6j:∀ (k m o:Nat),2^k<=m->m<2^(k+1)->2^k<=o->o<2^(k+1)->(m^^^o)<2^k
 | 0,m,o,a,b,c,d=>by
  obtain rfl:m=1:=by simp at a b;omega
  obtain rfl:o=1:=by simp at c d;omega
  decide
 | k+1,m,o,a,b,c,d=>by
  have e1:2^(k+1+1)=2*2^(k+1):=q2o
  have e2:2^(k+1)=2*2^k:=q2o
  have:=Y6j k (m / 2) (o / 2) (by omega) (by omega) (by omega) (by omega)
  have e:=Z3t m o
  omega
theorem X0z {m o:Nat}(h:bl m=bl o)(h0:m≠0):(m^^^o)<m:=by
 cases e:bl m with
 | zero=>exact absurd (bl_zero.mp e) h0
 | succ k =>
  have a:=X3w m
  have b:=X3w o
  rw[<-h,e] at b
  rw[e] at a
  exact q0k (Y6j k m o (X3x e) a (X3x (h ▸ e)) b) (X3x e)
theorem X6k {x:Nat}{e f:Eqn}(he:sat x e)(hf:sat x f)(_:e.2<2)(_:f.2<2):sat x (add e f):=by
 unfold sat add at *
 dsimp only
 rw[q3e,pcx]
 have:=Z3t e.2 f.2
 have z:e.2 / 2=0:=by omega
 have z':f.2 / 2=0:=by omega
 rw[z,z'] at this
 have q:(0^^^0:Nat)=0:=rfl
 omega
theorem X9b (e f:Eqn):add (add e f) f=e:=by
 unfold add
 simp[q1t]
theorem Z2e {a b:Nat}(h1:a<2)(h2:b<2):(a^^^b)<2:=q1c (n:=1) h1 h2
noncomputable def comb:List Eqn->Nat->Eqn
 | [],_=>(0,0)
 | e::r,c=>if c%2=1 then add e (comb r (c / 2)) else comb r (c / 2)
theorem Y1p (e f:Eqn):add e f=add f e:=by unfold add;rw[q3o e.1,q3o e.2]
theorem Z2z (e f g:Eqn):add (add e f) g=add e (add f g):=by unfold add;simp[q1t]
theorem Y4z:∀ (es:List Eqn) (c d:Nat),comb es (c^^^d)=add (comb es c) (comb es d)
 | [],_,_=>by simp[comb,add]
 | e::r,c,d=>by
  have x:=Z3t c d
  have h1:(c^^^d) / 2=c / 2^^^d / 2:=by omega
  have h2:(c^^^d)%2=(c%2+d%2)%2:=by omega
  have ih:=Y4z r (c / 2) (d / 2)
  unfold comb
  rw[h1,h2,ih]
  rcases q0u c with a | a<;>rcases q0u d with b | b<;>rw[a,b]
  ·rfl
  ·simp only[show (0+1)%2=1 from rfl,q5f,show ¬ (0=1) by decide,q4o]
   rw[<-Z2z,<-Z2z,Y1p e]
  ·simp only[show (1+0)%2=1 from rfl,q5f,show ¬ (0=1) by decide,q4o]
   rw[Z2z]
  ·simp only[show ¬ ((1+1)%2=1) by decide,q5f,q4o]
   rw[Y1p e (comb r (c / 2)),Z2z,<-Z2z e e,show add e e=(0,0) by unfold add;simp,show add (0,0) (comb r (d / 2))=comb r (d / 2) by unfold add;simp]
theorem Y1a:∀ es:List Eqn,comb es 0=(0,0)
 | []=>rfl
 | e::r=>by unfold comb;simp[Y1a r]
theorem Y5a:∀ (es:List Eqn) (i:Nat) (e:Eqn),es[i]?=some e->comb es (2^i)=e
 | [],i,e,h=>by simp at h
 | f::r,0,e,h=>by
  have:f=e:=by simpa using h
  subst this
  unfold comb
  simp[Y1a,add]
 | f::r,i+1,e,h=>by
  have q:r[i]?=some e:=by simpa using h
  have e1:2^(i+1) / 2=2^i:=by rw[q2o];omega
  have e2:2^(i+1)%2=0:=by rw[q2o];omega
  unfold comb
  rw[e1,e2]
  simpa using Y5a r i e q
theorem Z5g:∀ (es:List Eqn) (c:Nat),(∀ e∈es,e.2<2)->(comb es c).2<2
 | [],_,_=>by unfold comb;decide
 | e::r,c,h=>by
  have ih:=Z5g r (c / 2) λf hf=>h f (q1n _ hf)
  unfold comb
  split
  ·exact Z2e (h e q1r) ih
  ·exact ih
theorem X8z {m k:Nat}(h1:2^k<=m)(h2:m<2^(k+1)):m&&&2^k=2^k:=by
 have e:m / 2^k=1:=by
  rw[q2o] at h2
  have p:=q0o k
  rw[Nat.div_eq_iff p]
  omega
 refine q3b λj=>?_
 rw[q2x,q2r]
 by_cases q:k=j
 ·subst q
  rw[q2k,e]
  simp
 ·simp[q]
theorem Y1o {m k:Nat}(h:m<2^k):m&&&2^k=0:=by
 refine q3b λj=>?_
 rw[q2x,q2r,Nat.zero_testBit]
 by_cases q:k=j
 ·subst q
  rw[q5v h]
  rfl
 ·simp[q]
theorem Y7w:∀ k:Nat,pc (2^k)=1
 | 0=>by rw[Z4d];show 1%2+pc (1 / 2)=1;rw[show (1 / 2:Nat)=0 from rfl,Z1s]
 | k+1=>by
  have e1:2^(k+1) / 2=2^k:=by rw[q2o];omega
  have e2:2^(k+1)%2=0:=by rw[q2o];omega
  rw[Z4d,e1,e2,Y7w k]
theorem Y4e {x k:Nat}(h:x<2^k):(x ||| 2^k)=x^^^2^k:=by
 rw[Y8a (x+2^k+1) x (2^k) (by omega) (by omega),Y1o h,q3h]
theorem Y1s {x k:Nat}(h:x<2^k):(x^^^2^k)=x+2^k:=by
 have:=Nat.two_pow_add_eq_or_of_lt h 1
 rw[Nat.mul_one] at this
 rw[<-Y4e h,Nat.or_comm,<-this,q6g]
theorem X6j {x k:Nat}{e:Eqn}(hx:x<2^k)(hk:bl e.1=k+1)(hb:e.2<2)(n:¬ sat x e):sat (x ||| 2^k) e:=by
 have a:=X3w e.1
 rw[hk] at a
 unfold sat at *
 rw[Y4e hx,q2g,pcx,X8z (X3x hk) a,Y7w]
 omega
theorem X1l {x k:Nat}{e:Eqn}(hx:x<2^k)(hk:bl e.1<=k)(h:sat x e):sat (x ||| 2^k) e:=by
 unfold sat at *
 rw[Y4e hx,q2g,pcx,Y1o (bl_le.mp hk),Z1s,q3h]
 exact h
theorem W2x {x k:Nat}(hx:x<2^k):(x ||| 2^k)<2^(k+1):=by
 rw[Y4e hx,Y1s hx,q2o]
 omega
noncomputable def places (c n:Nat):List Nat:=(List.range n).filter λj=>decide (c / 2^j%2=1)
theorem Z4b {c n p:Nat}(h:p∈places c n):p<n:=q1o.mp (q5r.mp h).1
theorem Z3a (c n:Nat):places c (n+1)=places c n++(if c / 2^n%2=1 then [n] else []):=by
 unfold places
 rw[q4s,q4p]
 by_cases h:c / 2^n%2=1<;>simp[h]
abbrev Ent:=Nat × Nat × Nat
noncomputable def eqOf (t:Ent):Eqn:=(t.1,t.2.1)
structure Good (es:List Eqn) (i:Nat) (ts:List Ent):Prop where
 nz:∀ t∈ts,t.1≠0
 com:∀ t∈ts,comb es t.2.2=eqOf t
 lt:∀ t∈ts,t.2.2<2^i
 nd:(ts.map λt=>bl t.1).Nodup
 len:ts.length<=i
 all:∀ x,(∀ t∈ts,sat x (eqOf t))->∀ j e,j<i->es[j]?=some e->sat x e
theorem Good.start (es:List Eqn):Good es 0 []:=⟨by simp,by simp,by simp,by simp,by simp,λ_ _ j e h=>by omega⟩
structure Left (es:List Eqn) (i:Nat) (ts:List Ent) (e:Eqn) (t:Ent):Prop where
 com:comb es t.2.2=eqOf t
 lt:t.2.2<2^(i+1)
 sat:∀ x,(∀ t∈ts,sat x (eqOf t))->sat x (eqOf t)->sat x e
theorem Left.start {es:List Eqn}{i:Nat}{ts:List Ent}{e:Eqn}(h:es[i]?=some e):Left es i ts e (e.1,e.2,2^i) :=
 ⟨Y5a es i e h,q2d (by decide) (q2l _),λ_ _ z=>z⟩
theorem Y4x (s t:Ent):eqOf (s.1^^^t.1,s.2.1^^^t.2.1,s.2.2^^^t.2.2)=add (eqOf s) (eqOf t):=rfl
theorem Left.step {es:List Eqn}{i:Nat}{ts:List Ent}{e:Eqn}{s t:Ent}(hb:∀ e∈es,e.2<2)(G:Good es i ts)(L:Left es i ts e s)(ht:t∈ts):Left es i ts e (s.1^^^t.1,s.2.1^^^t.2.1,s.2.2^^^t.2.2):=by
 refine⟨?_,?_,λx hx z=>L.sat x hx ?_⟩
 ·rw[Y4x]
  show comb es (s.2.2^^^t.2.2)=_
  rw[Y4z,L.com,G.com t ht]
 ·exact q1c L.lt (q5i (G.lt t ht) (q2d (by decide) (q2l _)))
 ·rw[Y4x] at z
  have b1:(eqOf s).2<2:=by rw[<-L.com];exact Z5g es _ hb
  have b2:(eqOf t).2<2:=by rw[<-G.com t ht];exact Z5g es _ hb
  have q:=X6k z (hx t ht) (Z2e b1 b2) b2
  rw[X9b] at q
  exact q
theorem Left.bit {es:List Eqn}{i:Nat}{ts:List Ent}{e:Eqn}{t:Ent}(hb:∀ e∈es,e.2<2)(L:Left es i ts e t):t.2.1<2:=by
 have:(eqOf t).2<2:=by rw[<-L.com];exact Z5g es _ hb
 exact this
theorem Z6x (i:Nat):2^i<2^(i+1):=q2d (by decide) (q2l _)
theorem Good.put {es:List Eqn}{i:Nat}{ts:List Ent}{e:Eqn}{t:Ent}(G:Good es i ts)(he:es[i]?=some e)(L:Left es i ts e t)(h0:t.1≠0)(hn:∀ s∈ts,bl s.1≠bl t.1):Good es (i+1) (ts++[t]) where
 nz:=λs hs=>by
  rcases q1b.mp hs with q | q
  ·exact G.nz s q
  ·rw[q0r.mp q];exact h0
 com:=λs hs=>by
  rcases q1b.mp hs with q | q
  ·exact G.com s q
  ·rw[q0r.mp q];exact L.com
 lt:=λs hs=>by
  rcases q1b.mp hs with q | q
  ·exact q5i (G.lt s q) (Z6x i)
  ·rw[q0r.mp q];exact L.lt
 nd:=by
  rw[q0i,List.nodup_append]
  refine⟨G.nd,by simp,λa ha b hb=>?_⟩
  obtain⟨s,hs,rfl⟩:=q1q.mp ha
  obtain rfl:b=bl t.1:=by simpa using hb
  exact hn s hs
 len:=by rw[q1d];have:=G.len;simp;omega
 all:=λx hx j f hj hf=>by
  have h1:∀ s∈ts,sat x (eqOf s):=λs hs=>hx s (q1z _ hs)
  by_cases hji:j<i
  ·exact G.all x h1 j f hji hf
  ·obtain rfl:j=i:=by omega
   rw[he] at hf
   cases hf
   exact L.sat x h1 (hx t (by simp))
theorem Good.skip {es:List Eqn}{i:Nat}{ts:List Ent}{e:Eqn}{t:Ent}(G:Good es i ts)(he:es[i]?=some e)(L:Left es i ts e t)(h0:t.1=0)(hb:t.2.1=0):Good es (i+1) ts where
 nz:=G.nz
 com:=G.com
 lt:=λs hs=>q5i (G.lt s hs) (Z6x i)
 nd:=G.nd
 len:=Nat.le_succ_of_le G.len
 all:=λx hx j f hj hf=>by
  by_cases hji:j<i
  ·exact G.all x hx j f hji hf
  ·obtain rfl:j=i:=by omega
   rw[he] at hf
   cases hf
   refine L.sat x hx ?_
   unfold sat eqOf
   rw[h0,hb,q8f,Z1s]
theorem Y0x {f:Ent->Nat}:∀ {ts:List Ent},(ts.map f).Nodup->∀ {s t},s∈ts->t∈ts->f s=f t->s=t
 | [],_,s,t,hs,_,_=>by cases hs
 | a::r,nd,s,t,hs,ht,e=>by
  rw[q0z,q5q] at nd
  rcases q0t.mp hs with h1 | h1<;>rcases q0t.mp ht with h2 | h2
  ·rw[h1,h2]
  ·exact absurd (q1q.mpr ⟨t,h2,by rw[<-e,h1]⟩) nd.1
  ·exact absurd (q1q.mpr ⟨s,h1,by rw[e,h2]⟩) nd.1
  ·exact Y0x nd.2 h1 h2 e
theorem X8m {ts:List Ent}{ks:U6}(nd:(ts.map λt=>bl t.1).Nodup)(p:ks.Perm (ts.map λt=>(bl t.1:Int)))(o:ks.Pairwise (·<=·)):ks.Pairwise (·<·):=by
 have n1:(ts.map λt=>(bl t.1:Int)).Nodup:=by
  rw[List.Nodup,q4f] at nd ⊢
  exact nd.imp λh z=>h (Int.ofNat.inj z)
 have n2:ks.Nodup:=p.nodup_iff.mpr n1
 exact(o.and n2).imp λ⟨a,b⟩=>by omega
structure Sol (ts:List Ent) (ks:U6) (j x:Nat):Prop where
 done:∀ t∈ts,∀ i,i<j->ks[i]?=some (bl t.1:Int)->sat x (eqOf t)
 low:∀ h,ks[j]?=some h->x<2^(h.toNat-1)
theorem Sol.start (ts:List Ent)(ks:U6):Sol ts ks 0 0:=⟨λ_ _ i h=>by omega,λh _=>q0o _⟩
theorem rise {ks:U6}(o:ks.Pairwise (·<·)){i j:Nat}{a b:Int}(h:i<j)(ha:ks[i]?=some a)(hb:ks[j]?=some b):a<b:=by
 obtain⟨h1,rfl⟩:=q0l.mp ha
 obtain⟨h2,rfl⟩:=q0l.mp hb
 exact q4a.mp o i j h1 h2 h
theorem Sol.step {ts:List Ent}{ks:U6}{j x:Nat}{t:Ent}(S:Sol ts ks j x)(nd:(ts.map λt=>bl t.1).Nodup)(o:ks.Pairwise (·<·))(ht:t∈ts)(nz:t.1≠0)(hb:t.2.1<2)(hj:ks[j]?=some (bl t.1:Int)) :
  (sat x (eqOf t)->Sol ts ks (j+1) x)/\(¬ sat x (eqOf t)->Sol ts ks (j+1) (x ||| 2^(bl t.1-1))):=by
 have h0:bl t.1≠0:=λz=>nz (bl_zero.mp z)
 obtain⟨k,hk⟩:∃ k,bl t.1=k+1:=⟨bl t.1-1,by omega⟩
 have hx:=S.low _ hj
 rw[q0v,hk,q5o] at hx
 have same:∀ s∈ts,ks[j]?=some (bl s.1:Int)->s=t:=λs hs e=>Y0x nd hs ht (by rw[e] at hj;exact Int.ofNat.inj (Option.some.inj hj))
 have next:∀ h,ks[j+1]?=some h->k+1<=h.toNat-1:=λh e=>by
  have:=rise o (q2l j) hj e
  omega
 rw[hk,q5o]
 constructor
 ·intro z
  refine⟨λs hs i hi e=>?_,λh e=>?_⟩
  ·by_cases q:i<j
   ·exact S.done s hs i q e
   ·obtain rfl:i=j:=by omega
    rw[same s hs e]
    exact z
  ·exact q0k hx (q1a (by decide) (q1i (Nat.le_succ k) (next h e)))
 ·intro z
  refine⟨λs hs i hi e=>?_,λh e=>?_⟩
  ·by_cases q:i<j
   ·have:=rise o q e hj
    exact X1l hx (by show bl s.1<=k;omega) (S.done s hs i q e)
   ·obtain rfl:i=j:=by omega
    rw[same s hs e]
    exact X6j hx hk hb z
  ·exact q0k (W2x hx) (q1a (by decide) (next h e))
theorem Sol.all {ts:List Ent}{ks:U6}{x:Nat}(S:Sol ts ks ks.length x)(p:ks.Perm (ts.map λt=>(bl t.1:Int))):∀ t∈ts,sat x (eqOf t):=λt ht=>by
 have m:(bl t.1:Int)∈ks:=p.mem_iff.mpr (q1q.mpr ⟨t,ht,Z⟩)
 obtain⟨i,hi,e⟩:=q2i.mp m
 exact S.done t ht i hi (by rw[q0d hi,e])
end K51
namespace K63T
open L2 Pc K51
noncomputable def top (i:Nat):Stmt:=PySem.Challenge.pw_spinboard_k63_whole_keepers_go_with_the.main.body.getD i (.Pass ⟨0,0,0,0⟩)
structure Bs (mg:U4):Prop where
 isinstance:mg "isinstance"=none
 int:mg "int"=none
 bool:mg "bool"=none
 tuple:mg "tuple"=none
 list:mg "list"=none
 len:mg "len"=none
 range:mg "range"=none
 enumerate:mg "enumerate"=none
 sorted:mg "sorted"=none
 sum:mg "sum"=none
 str:mg "str"=none
 all:mg "all"=none
 any:mg "any"=none
 min:mg "min"=none
 max:mg "max"=none
theorem Z9u (m:Nat):Builtin.Int.intBits (m:Int)=bl m:=by
 unfold Builtin.Int.intBits bl
 by_cases h:m=0
 ·subst h;rfl
 ·have hb:((m:Int) == 0)=false:=by simpa using h
  rw[hb,if_neg h]
  simp
noncomputable abbrev T3 (t:Ent):HO:=.tup [.int t.1,.int t.2.1,.int t.2.2]
def Kept (H:Hp):List (Key × V)->List Ent->Prop:=Paired λkv t=>kv.1=Sum.inl (bl t.1:Int)/\∃ p,kv.2=.ref p/\H p=some (T3 t)
theorem Kept.same {H H':Hp}{kvs:List (Key × V)}{ts:List Ent}(h:Kept H kvs ts)(s:Same H H'):Kept H' kvs ts :=
 Paired.imp' (λ_ _ ⟨a,p,b,c⟩=>⟨a,p,b,s _ _ c⟩) h
theorem Kept.get {H:Hp}{k:Int}{v:V}:∀ {kvs:List (Key × V)}{ts:List Ent},Kept H kvs ts->valV kvs (Sum.inl k)=some v->∃ t∈ts,∃ p,(bl t.1:Int)=k/\v=.ref p/\H p=some (T3 t)
 | [],[],_,h=>by simp[X1a] at h
 | kv::kvs,t::ts,.cons ⟨a,p,b,c⟩ r,h=>by
  by_cases e:kv.1=Sum.inl k
  ·rw[Z4t e] at h
   cases h
   rw[a] at e
   exact⟨t,q1r,p,Sum.inl.inj e,b,c⟩
  ·rw[Z4u e] at h
   obtain⟨t',m,q⟩:=Kept.get r h
   exact⟨t',q1n _ m,q⟩
theorem Kept.none {H:Hp}{k:Int}:∀ {kvs:List (Key × V)}{ts:List Ent},Kept H kvs ts->valV kvs (Sum.inl k)=none->∀ t∈ts,(bl t.1:Int)≠k
 | [],[],_,_,t,ht=>by cases ht
 | kv::kvs,t::ts,.cons ⟨a,p,b,c⟩ r,h,t',ht=>by
  by_cases e:kv.1=Sum.inl k
  ·rw[Z4t e] at h
   cases h
  ·rw[Z4u e] at h
   rcases q0t.mp ht with rfl | ht
   ·intro z
    rw[a,z] at e
    exact e rfl
   ·exact Kept.none r h t' ht
theorem Kept.snoc {H:Hp}{p:W9}{t:Ent}{kvs:List (Key × V)}{ts:List Ent}(h:Kept H kvs ts)(hp:H p=some (T3 t)):Kept H (kvs++[(Sum.inl (bl t.1:Int),.ref p)]) (ts++[t]) :=
 Paired.snoc h ⟨Z,p,Z,hp⟩
theorem Kept.keys {H:Hp}:∀ {kvs:List (Key × V)}{ts:List Ent},Kept H kvs ts->kvs.map (·.1)=(ts.map λt=>(bl t.1:Int)).map Sum.inl
 | [],[],_=>rfl
 | kv::kvs,t::ts,.cons ⟨a,_⟩ r=>by rw[q0z,q0z,q0z,Kept.keys r,a]
theorem Kept.length {H:Hp}{kvs:List (Key × V)}{ts:List Ent}(h:Kept H kvs ts):kvs.length=ts.length:=Paired.length h
noncomputable abbrev T2 (e:Eqn):HO:=.tup [.int e.1,.int e.2]
def Eqs (H:Hp):List Addr->List Eqn->Prop:=Paired λp e=>H p=some (T2 e)
theorem Eqs.same {H H':Hp}{ps:U3}{es:List Eqn}(h:Eqs H ps es)(s:Same H H'):Eqs H' ps es:=Paired.imp' (λ_ _ c=>s _ _ c) h
theorem Eqs.length {H:Hp}{ps:U3}{es:List Eqn}(h:Eqs H ps es):ps.length=es.length:=Paired.length h
theorem Eqs.get {H:Hp}:∀ {ps:U3}{es:List Eqn}{i:Nat}{p:W9},Eqs H ps es->ps[i]?=some p->∃ e,es[i]?=some e/\H p=some (T2 e)
 | p'::ps,e::es,0,p,.cons a r,h=>by
  have:p'=p:=by simpa using h
  subst this
  exact⟨e,Z,a⟩
 | p'::ps,e::es,i+1,p,.cons a r,h=>by
  obtain⟨f,b,c⟩:=Eqs.get (ps:=ps) (es:=es) (i:=i) (p:=p) r (by simpa using h)
  exact⟨f,by simpa using b,c⟩
structure Fine (es:List Eqn):Prop where
 bit:∀ e∈es,e.2<2
 mask:∀ e∈es,e.1<2^200
theorem Y1b:∀ (es:List Eqn) (c:Nat),(∀ e∈es,e.1<2^200)->(comb es c).1<2^200
 | [],_,_=>by unfold comb;exact q0o 200
 | e::r,c,h=>by
  have ih:=Y1b r (c / 2) λf hf=>h f (q1n _ hf)
  unfold comb
  split
  ·exact q1c (h e q1r) ih
  ·exact ih
def spOnes:Sp:=λvs H Q _=>∃ n:Nat,vs=[.int n]/\Q (.int (pc n)) H
def Y3n:Sp:=λvs H Q _=>∃ c:Nat,vs=[.int c]/\c<2^64/\∀ (l:W9) (H':Hp),Same H H'->H' l=some (.lst ((places c (bl c)).map λp=>V.int (p:Nat)))->Q (.ref l) H'
def Y0i:Sp:=λvs H Q _=>∃ (p d:W9) (t:Ent) (kvs:List (Key × V)) (ts:List Ent) (es:List Eqn) (i:Nat) (e:Eqn),vs=[.ref p,.ref d]/\H p=some (T3 t)/\H d=some (.dK kvs)/\Kept H kvs ts/\Fine es/\Good es i ts/\Left es i ts e t ∧
 ∀ (p':W9) (H':Hp) (t':Ent),Same H H'->H' p'=some (T3 t')->Left es i ts e t'->(∀ s∈ts,bl s.1≠bl t'.1)->Q (.ref p') H'
section
variable {P:U8}{w:W1}{K:U0}{mg:U4}{base:Heap}{k:Nat}{h:Heap}
theorem sc_ones:FnScope ["number","many","rest"] ["number"] (Z0i (top 17)):=fS
theorem X7a (F:FunAt K "ones" (top 17) .none)(X:K.In h)(G:Ng h mg):Cal P w K mg base (k+1) "ones" ["number"] spOnes:=by
 have nd:=sc_ones.nd
 refine F.cal X G sc_ones (bnd1 λ_ _ _ _ _ _ _=>rfl) (λvs H Q E h=>?_) (λf cdv A outer s H vs Q E hr h=>?_)
 ·obtain⟨n,rfl,_⟩:=h;rfl
 obtain⟨n,rfl,q⟩:=h
 refine⟨_,(@Z0e _ _ _ _ _ (@Z0q _ _ 1 _ _ _ _ nd rfl (Or.inl rfl) Z0b rfl (.inl rfl))
  (@Z0e _ _ _ _ _ (@Z0q _ _ 2 _ _ _ _ nd rfl (Or.inl rfl) (pv 0) rfl (.inl rfl))
  (@Z0e _ _ _ _ _ (Z6d PassesOwn.never (Z0n Z4n (pv 2) Z0b (nomark _))
   (@Z0e _ _ _ _ _ (@Z0q _ _ 2 _ _ _ _ nd rfl (Or.inl rfl) (Z0h Z1d (pv 2) (Z0h Z1z (pv 2) Z0b)) rfl (.inl rfl))
   (@Z0f _ _ _ (@Z0q _ _ 1 _ _ _ _ nd rfl (Or.inl rfl) (Z0h Z1b (pv 1) Z0b) rfl (.inl rfl)))))
  (@Z0f _ _ _ (Z0k (pv 1)))))),?_⟩
 try dsimp only[cxK]
 refine⟨_,Z,λm σ H'=>H'=H/\∃ j r:Nat,m=pc r/\j+pc r=pc n/\σ=[some (.int n),some (.int j),some (.int r)],⟨_,Z,0,n,Z,q2u _,Z⟩,?_⟩
 rintro m σ H' ⟨rfl,j,r,rfl,hj,rfl⟩
 refine⟨_,Z,Z,_,Z,neI (λhr0=>?_) (λhr0=>?_)⟩
 ·have r0:r≠0:=by omega
  have e:=Y7y (r+1) r (by omega) r0
  refine⟨_,λσ' H' x=>x,?_⟩
  refine⟨_,Z,_,Z,_,_,Z,Z,_,_,Z,Z,?_⟩
  refine⟨_,Z,_,_,Z,Z,⟨pc (r&&&(r-1)),by omega,Z,j+1,r&&&(r-1),Z,by omega,?_⟩⟩
  have e2:Builtin.bitAnd (r:Int) ((r:Int)-1)=((r&&&(r-1):Nat):Int):=by rw[show (r:Int)-1=((r-1:Nat):Int) by omega,Z4q]
  show [some (V.int n),some (V.int ((j:Int)+1)),some (V.int (Builtin.bitAnd (r:Int) ((r:Int)-1)))]=_
  rw[e2]
  rfl
 ·have r0:r=0:=by omega
  subst r0
  rw[Z1s,q3h] at hj
  subst hj
  exact⟨_,Z,q⟩
theorem sc_cleared:FnScope ["equation","kept","left","other"] ["equation","kept"] (Z0i (top 34)):=fS
theorem Y5v (F:FunAt K "cleared" (top 34) .none)(X:K.In h)(G:Ng h mg):Cal P w K mg base (k+1) "cleared" ["equation","kept"] Y0i:=by
 have nd:=sc_cleared.nd
 refine F.cal X G sc_cleared (bnd2 λ_ _ _ _ _ _ _ _=>rfl) (λvs H Q E h=>?_) (λf cdv A outer s H vs Q E hr h=>?_)
 ·obtain⟨p,d,t,kvs,ts,es,i,e,rfl,_⟩:=h;rfl
 obtain⟨p,d,t,kvs,ts,es,i,e,rfl,hp,hd,hk,fine,gd,lf,kq⟩:=h
 refine⟨_,(@Z0e _ _ _ _ _ (@Z0q _ _ 2 _ _ _ _ nd rfl (Or.inl rfl) (pv 0) rfl (.inl rfl))
  (@Z0e _ _ _ _ _ (Z6d PassesOwn.never (X4n (W0f (X3j hr) (Z5x q2j q1p q1x Z2t (Z0m Z0j (pv 2) Z0b (λ_ _=>rfl))) (pv 1)))
   (@Z0e _ _ _ _ _ (@Z0q _ _ 3 _ _ _ _ nd rfl (Or.inl rfl) (Y7t (X3j hr) (pv 1) (Z5x q2j q1p q1x Z2t (Z0m Z0j (pv 2) Z0b (λ_ _=>rfl))) (λ_ _=>rfl)) rfl (.inl rfl))
   (@Z0f _ _ _ (@Z0q _ _ 2 _ _ _ _ nd rfl (Or.inl rfl) (@Z1a _ _ _ _ _ (Z0a (Z0h Z2v (Z0m Z0j (pv 2) Z0b (λ_ _=>rfl)) (Z0m Z0j (pv 3) Z0b (λ_ _=>rfl))) (Z0a (Z0h Z2v (Z0m Z0j (pv 2) Z0b (λ_ _=>rfl)) (Z0m Z0j (pv 3) Z0b (λ_ _=>rfl))) (Z0a (Z0h Z2v (Z0m Z0j (pv 2) Z0b (λ_ _=>rfl)) (Z0m Z0j (pv 3) Z0b (λ_ _=>rfl))) Z0d)))) rfl (.inl rfl)))))
  (@Z0f _ _ _ (Z0k (pv 2))))),?_⟩
 try dsimp only[cxK]
 refine⟨_,Z,λm σ H'=>Same H H'/\∃ (q:W9) (u:Ent) (v:Option V),m=u.1/\H' q=some (T3 u)/\Left es i ts e u/\σ=[some (.ref p),some (.ref d),some (.ref q),v],⟨_,Same.refl _,p,t,none,Z,hp,lf,Z⟩,?_⟩
 rintro m σ H1 ⟨s1,q,u,v,rfl,hq,lu,rfl⟩
 have S:∀ {H'},Same H1 H'->SqT K H' q [.int u.1,.int u.2.1,.int u.2.2]:=λz=>SqT.of (z _ _ hq)
 have eb:=Z9u u.1
 refine⟨_,Z,q,_,_,_,Z,Z,S (Same.refl _),Z,Z,_,Z,Z,?_⟩
 rw[eb]
 refine⟨_,Z,d,_,Z,DGet.k (k:=Sum.inl (bl u.1:Int)) (s1 _ _ hd),_,Z,?_⟩
 cases hv:valV kvs (Sum.inl (bl u.1:Int)) with
 | none =>
  refine iteF ⟨_,rfl,?_⟩
  exact kq q H1 u s1 hq lu λs hs z=>hk.none hv s hs (by rw[z])
 | some x =>
  obtain⟨t',ht,p',eh,rfl,hp'⟩:=hk.get hv
  have hp1:=s1 _ _ hp'
  have S':∀ {H'},Same H1 H'->SqT K H' p' [.int t'.1,.int t'.2.1,.int t'.2.2]:=λz=>SqT.of (z _ _ hp1)
  refine iteT ⟨_,λσ' H' x=>x,?_⟩
  refine⟨_,Z,_,Z,q,_,_,_,Z,Z,S (Same.refl _),Z,Z,_,Z,Z,?_⟩
  rw[eb]
  refine⟨d,_,Z,(by rw[<-hv];exact DGet.k (k:=Sum.inl (bl u.1:Int)) (s1 _ _ hd)),?_⟩
  refine⟨_,Z,q,_,_,_,Z,Z,S (Same.refl _),Z,_,Z,p',_,_,_,Z,Z,S' (Same.refl _),Z,_,_,Z,Z,_,Z,q,_,_,_,Z,Z,S (Same.refl _),Z,_,Z,p',_,_,_,Z,Z,S' (Same.refl _),Z,_,_,Z,Z,_,Z,q,_,_,_,Z,Z,S (Same.refl _),Z,_,Z,p',_,_,_,Z,Z,S' (Same.refl _),Z,_,_,Z,Z,(by show 3<=sizeLine;decide),λr hr=>?_⟩
  have eh':bl u.1=bl t'.1:=(Int.ofNat.inj eh).symm
  have u0:u.1≠0:=λz=>gd.nz t' ht (bl_zero.mp (by rw[<-eh',z];rfl))
  refine⟨u.1^^^t'.1,X0z eh' u0,s1.trans (Z0g hr _),r,(u.1^^^t'.1,u.2.1^^^t'.2.1,u.2.2^^^t'.2.2),_,Z,?_,lu.step fine.bit gd ht,Z⟩
  rw[Z0c]
  show some (HO.tup [.int (Builtin.bitXor (u.1:Int) t'.1),.int (Builtin.bitXor (u.2.1:Int) t'.2.1),.int (Builtin.bitXor (u.2.2:Int) t'.2.2)])=_
  rw[Z4r,Z4r,Z4r]
def Z7s:Sp:=λvs H Q _=>∃ (d:W9) (kvs:List (Key × V)) (ts:List Ent) (es:List Eqn) (i:Nat),vs=[.ref d]/\H d=some (.dK kvs)/\Kept H kvs ts/\Fine es/\Good es i ts/\i<=60 ∧
 ∀ (x:Nat) (H':Hp),Same H H'->(∀ t∈ts,sat x (eqOf t))->Q (.int x) H'
def Told (es:List Eqn)(H:Hp)(r:W9):Prop:=(∃ x:Nat,H r=some (.tup [.int x,.non])/\∀ e∈es,sat x e) ∨
 ∃ (c:Nat) (q:W9),H r=some (.tup [.non,.ref q])/\H q=some (.lst ((places c (bl c)).map λp=>V.int (p:Nat)))/\c<2^es.length/\comb es c=(0,1)
def Y3l (K:U0):Sp:=λvs H Q _=>∃ (l:W9) (ps:U3) (es:List Eqn),vs=[.ref l]/\SqL K H l (ps.map V.ref)/\Eqs H ps es/\Fine es/\es.length<=60 ∧
 ∀ (r:W9) (H':Hp),Same H H'->Told es H' r->Q (.ref r) H'
theorem or_i (x y:Nat):Builtin.bitOr (x:Int) (y:Int)=((x ||| y:Nat):Int):=by
 have h:Builtin.bitXor (x:Int) (y:Int)=Builtin.bitOr x y-Builtin.bitAnd x y:=rfl
 rw[Z4r,Z4q] at h
 have e:=Y8a (x+y+1) x y (by omega) (by omega)
 omega
theorem Z5t (x y:Nat):[V.int (Builtin.bitAnd (x:Int) (y:Int))]=[V.int ((x&&&y:Nat):Int)]:=by rw[Z4q]
theorem Z3q:(0:Int)<2:=by decide
theorem sz1:Sz 1 1:=by decide +kernel
theorem Kept.upd {H:Hp}{d:W9}{kv0 kv1 kvs:List (Key × V)}{ts:List Ent}(h:Kept H kvs ts)(hd:H d=some (.dK kv0)):Kept (upd H d (.dK kv1)) kvs ts :=
 Paired.imp' (λ_ _ ⟨a,p,b,c⟩=>⟨a,p,b,by rw[Z0x (Z7e c hd (by intro z;cases z))];exact c⟩) h
theorem t2:2<=sizeLine:=by decide
theorem Z3i:(0:Int)<4:=by decide
theorem s64 {n:Nat}(h:n<=64):n<=sizeLine:=q1i h (by decide)
theorem sc_places:FnScope ["number"] ["number"] (Z0i (top 35)):=fS
theorem Y8i (F:FunAt K "places_at_one" (top 35) .none)(X:K.In h)(G:Ng h mg)(B:Bs mg):Cal P w K mg base (k+1) "places_at_one" ["number"] Y3n:=by
 have nd:=sc_places.nd
 refine F.cal X G sc_places (bnd1 λ_ _ _ _ _ _ _=>rfl) (λvs H Q E h=>?_) (λf cdv A outer s H vs Q E hr h=>?_)
 ·obtain⟨n,rfl,_⟩:=h;rfl
 obtain⟨c,rfl,hc,kq⟩:=h
 have hb:bl c<=64:=bl_le.mpr hc
 refine⟨_,(@Z0f _ _ _ (Z0k (Y4c rfl (LcOk.of (Nc:=["place","number"]) (mp:=[none,some 0]) (by kernel_rfl)) (Z0y rfl B.range (Z0a (Z5x q2j q1p q1x Z2t (pv 0)) Z0d)) (λ_ _ _ _=>(Z0p (i:=0) (show (["place","number"]:W0).Nodup by decide +kernel) rfl (Or.inl rfl))) (λ_ _ _ _=>(Z2m (Z0h Z1d (Z0h Z4e (pv 1) (pv 0)) Z0b) (by intro _;rfl))) (λ_ _ _ _=>(pv 0))))),?_⟩
 try dsimp only[cxK]
 refine⟨_,Z,Z,_,Z,Z,?_⟩
 rw[Z9u]
 refine⟨_,Z,by omega,by omega,λacc hacc=>?_⟩
 rw[q0v]
 refine Z5e (n:=bl c) (fr:=[some (.int c)]) (λi ys H'=>Same H H'/\H' acc=some (.lst ys)/\ys=(places c i).map λp=>V.int (p:Nat)) (s64 hb) ⟨Z0g hacc _,Z0c,Z⟩ ?_ (λhm z=>?_) ?_
 ·rintro i ys H2 N hi hl ⟨s2,a2,rfl⟩ kN
  refine⟨_,Z,_,Z,_,_,Z,Z,by omega,_,_,Z,Z,_,Z,?_⟩
  have e0:(0:Int)+(i:Int)=(i:Int):=q2p _
  have e1:(c:Int) / 2^(0+(i:Int)).toNat=((c / 2^i:Nat):Int):=by rw[e0,q0v];simp
  have e2:Builtin.bitAnd ((c / 2^i:Nat):Int) 1=((c / 2^i%2:Nat):Int):=by
   have:=Z4q (c / 2^i) 1
   rw[Nat.and_one_is_mod] at this
   exact this
  have ps:=Z3a c i
  rw[e1,e2]
  refine kN _ _ (λhb1=>?_) (λhb0=>?_)
  ·have h1:c / 2^i%2=1:=by
    have:c / 2^i%2≠0:=λz=>by rw[z] at hb1;cases hb1
    omega
   rw[if_pos h1] at ps
   refine⟨_,Z,a2,Z0s s2 hacc,Z0c,?_⟩
   rw[ps,q0i,e0]
   rfl
  ·have h0:¬ c / 2^i%2=1:=λz=>by rw[z] at hb0;cases hb0
   rw[if_neg h0,q4g] at ps
   exact⟨s2,a2,by rw[ps]⟩
 ·obtain⟨v,e,q⟩:=z
  exact⟨v,e,hm _ _ q⟩
 ·rintro ys H2 ⟨s2,a2,rfl⟩
  exact kq acc H2 s2 a2
theorem sc_solution:FnScope ["kept","x","height","equation"] ["kept"] (Z0i (top 36)):=fS
theorem Y2h (F:FunAt K "solution" (top 36) .none)(X:K.In h)(G:Ng h mg)(B:Bs mg)(cD:Cal P w K mg base k "ones" ["number"] spOnes):Cal P w K mg base (k+1) "solution" ["kept"] Z7s:=by
 have nd:=sc_solution.nd
 refine F.cal X G sc_solution (bnd1 λ_ _ _ _ _ _ _=>rfl) (λvs H Q E h=>?_) (λf cdv A outer s H vs Q E hr h=>?_)
 ·obtain⟨d,kvs,ts,es,i,rfl,_⟩:=h;rfl
 obtain⟨d,kvs,ts,es,i,rfl,hd,hk,fine,gd,hi,kq⟩:=h
 have hlen:=hk.length
 have glen:=gd.len
 refine⟨_,(@Z0e _ _ _ _ _ (@Z0q _ _ 1 _ _ _ _ nd rfl (Or.inl rfl) Z0b rfl (.inl rfl))
  (@Z0e _ _ _ _ _ (Z1v PassesOwn.never rfl (Z1e (Z0r (Y1d rfl) rfl B.sorted boot_sorted (Z0a (pv 0) Z0d))) (Z0p (i:=2) nd rfl (Or.inl rfl))
   (@Z0e _ _ _ _ _ (@Z0q _ _ 3 _ _ _ _ nd rfl (Or.inl rfl) (Y7t (X3j hr) (pv 0) (pv 2) (λ_ _=>rfl)) rfl (.inl rfl))
   (@Z0f _ _ _ (Z0w (Z0n Z4n (Z0h Z0v (Z0l cD hr rfl (Z0a (Z0h Z1d (Z0m Z0j (pv 3) Z0b (λ_ _=>rfl)) (pv 1)) Z0d)) Z0b) (Z0m Z0j (pv 3) Z0b (λ_ _=>rfl)) (nomark _))
    (@Z0f _ _ _ (@Z0q _ _ 1 _ _ _ _ nd rfl (Or.inl rfl) (Z0h Z9b (pv 1) (Z0h Z1t Z0b (Z0h Z1z (pv 2) Z0b))) rfl (.inl rfl)))
    Z0o))))
  (@Z0f _ _ _ (Z0k (pv 1))))),?_⟩
 try dsimp only[cxK]
 refine⟨_,Z,d,kvs,_,Z,hd,hk.keys,by omega,λl ks hl perm srt=>?_⟩
 have S0:=Z0g hl (.lst (ks.map V.int))
 have o:=X8m gd.nd perm srt
 refine⟨l,Z,⟨_,SqL.of Z0c⟩,Z2x (K:=K) (a:=l) (xs:=ks.map V.int) (λj σ H'=>Same (upd H l (.lst (ks.map V.int))) H'/\∃ (x:Nat) (v2 v3:Option V),Sol ts ks j x/\σ=[some (.ref d),some (.int x),v2,v3]) ⟨Same.refl _,0,none,none,Sol.start ts ks,Z⟩ (λj σ H' _ e=>SqL.of (e.1 _ _ Z0c)) ?_ ?_⟩
 ·rintro j xv σ H1 hx ⟨s1,x,v2,v3,S,rfl⟩
  rw[q0c] at hx
  obtain⟨hh,hj,rfl⟩:=q0h.mp hx
  have hm:hh∈ts.map λt=>(bl t.1:Int):=perm.mem_iff.mp (q0y hj)
  obtain⟨t0,ht0,rfl⟩:=q1q.mp hm
  have H1d:=s1 _ _ (S0 _ _ hd)
  have hk1:=(hk.same S0).same s1
  cases hv:valV kvs (Sum.inl (bl t0.1:Int)) with
  | none=>exact absurd rfl (hk1.none hv t0 ht0)
  | some v =>
   obtain⟨t,ht,p,eh,rfl,hp⟩:=hk1.get hv
   have hb:t.2.1<2:=by
    have:(eqOf t).2<2:=by rw[<-gd.com t ht];exact Z5g es _ fine.bit
    exact this
   have hmask:t.1<2^200:=by
    have:(eqOf t).1<2^200:=by rw[<-gd.com t ht];exact Y1b es _ fine.mask
    exact this
   have hbl:bl t.1<=200:=bl_le.mpr hmask
   have h0:bl t.1≠0:=λz=>gd.nz t ht (bl_zero.mp z)
   rw[<-eh] at hj hv ⊢
   have st:=S.step gd.nd o ht (gd.nz t ht) hb hj
   have ST:SqT K H1 p [.int t.1,.int t.2.1,.int t.2.2]:=SqT.of hp
   refine⟨_,Z,_,Z,d,_,Z,(by rw[<-hv];exact DGet.k (k:=Sum.inl (bl t.1:Int)) H1d),?_⟩
   refine⟨_,Z,p,_,_,_,Z,Z,ST,Z,_,Z,_,_,Z,Z,t.1&&&x,Z5t _ _,_,_,Z,Z,Z3q,_,Z,p,_,_,_,Z,Z,ST,Z,Z,_,Z,neI (λne=>?_) (λeq=>?_)⟩
   ·have hn:¬ sat x (eqOf t):=λz=>ne (by show ((pc (t.1&&&x):Nat):Int)%2=(t.2.1:Int);have:pc (t.1&&&x)%2=t.2.1:=z;omega)
    refine⟨_,Z,_,Z,_,_,Z,Z,_,_,Z,Z,⟨1,sz1,by omega,by omega⟩,_,_,Z,Z,s1,x ||| 2^(bl t.1-1),some (V.int (bl t.1:Int)),some (V.ref p),st.2 hn,?_⟩
    have e1:(1:Int)*2^((bl t.1:Int)-1).toNat=((2^(bl t.1-1):Nat):Int):=by
     rw[show ((bl t.1:Int)-1).toNat=bl t.1-1 by omega];simp
    show [some (V.ref d),some (V.int (Builtin.bitOr (x:Int) (1*2^((bl t.1:Int)-1).toNat))),some (V.int (bl t.1:Int)),some (V.ref p)]=_
    rw[e1,or_i]
   ·have hs:sat x (eqOf t):=by
     show pc (t.1&&&x)%2=t.2.1
     have:((pc (t.1&&&x):Nat):Int)%2=(t.2.1:Int):=eq
     omega
    exact⟨s1,x,_,_,st.1 hs,Z⟩
 ·rintro σ H1 ⟨s1,x,v2,v3,S,rfl⟩
  rw[q0a] at S
  exact⟨_,Z,kq x H1 (S0.trans s1) (S.all perm)⟩
theorem sc_solved:FnScope ["equations","kept","place","equation","left"] ["equations"] (Z0i (top 33)):=fS
theorem Y8f (F:FunAt K "solved" (top 33) .none)(X:K.In h)(G:Ng h mg)(B:Bs mg)(eP:Cal P w K mg base k "cleared" ["equation","kept"] Y0i)(dF:Cal P w K mg base k "places_at_one" ["number"] Y3n)(eM:Cal P w K mg base k "solution" ["kept"] Z7s):Cal P w K mg base (k+1) "solved" ["equations"] (Y3l K):=by
 have nd:=sc_solved.nd
 refine F.cal X G sc_solved (bnd1 λ_ _ _ _ _ _ _=>rfl) (λvs H Q E h=>?_) (λf cdv A outer s H vs Q E hr h=>?_)
 ·obtain⟨l,ps,es,rfl,_⟩:=h;rfl
 obtain⟨l,ps,es,rfl,hS,he,fine,h60,kq⟩:=h
 have hlen:=he.length
 refine⟨_,(@Z0e _ _ _ _ _ (@Z0q _ _ 1 _ _ _ _ nd rfl (Or.inl rfl) X1u rfl (.inl rfl))
  (@Z0e _ _ _ _ _ (Z1v PassesOwn.never rfl (Z5l rfl B.enumerate (Z0a (pv 0) Z0d)) (@Z5w _ _ _ _ _ _ rfl (@Z1f _ _ _ _ _ (@Z0p _ _ 2 _ nd rfl (Or.inl rfl) (by first | exact .inl rfl | exact .inr rfl)) (@Z1f _ _ _ _ _ (@Z0p _ _ 3 _ nd rfl (Or.inl rfl) (by first | exact .inl rfl | exact .inr rfl)) Z4c rfl) rfl) rfl rfl)
   (@Z0e _ _ _ _ _ (@Z0q _ _ 4 _ _ _ _ nd rfl (Or.inl rfl) (Z0l eP hr rfl (Z0a (@Z1a _ _ _ _ _ (Z0a (Z0m Z0j (pv 3) Z0b (λ_ _=>rfl)) (Z0a (Z0m Z0j (pv 3) Z0b (λ_ _=>rfl)) (Z0a (Z0h Z1t Z0b (pv 2)) Z0d)))) (Z0a (pv 1) Z0d))) rfl (.inl rfl))
   (@Z0f _ _ _ (Z0w (Z0n Z4n (Z0m Z0j (pv 4) Z0b (λ_ _=>rfl)) Z0b (nomark _))
    (@Z0f _ _ _ (X6p (X3j hr) (pv 1) (Z5x q2j q1p q1x Z2t (Z0m Z0j (pv 4) Z0b (λ_ _=>rfl))) (pv 4) rfl))
    (@Z0f _ _ _ (Z0w (Z0n Z1k (Z0m Z0j (pv 4) Z0b (λ_ _=>rfl)) Z0b (nomark _))
     (@Z0f _ _ _ (Z0k (@Z1a _ _ _ _ _ (Z0a Z6z (Z0a (Z0l dF hr rfl (Z0a (Z0m Z0j (pv 4) Z0b (λ_ _=>rfl)) Z0d)) Z0d)))))
     Z0o))))))
  (@Z0f _ _ _ (Z0k (@Z1a _ _ _ _ _ (Z0a (Z0l eM hr rfl (Z0a (pv 1) Z0d)) (Z0a Z6z Z0d))))))),?_⟩
 try dsimp only[cxK]
 refine λd hd=>?_
 refine⟨_,Z,l,_,Z,(Z0g hd _).seq hS,Z9m (K:=K) (a:=l) (xs:=ps.map V.ref) (λi σ H'=>Same H H'/\∃ (kvs:List (Key × V)) (ts:List Ent) (v2 v3 v4:Option V),H' d=some (.dK kvs)/\Kept H' kvs ts/\Good es i ts/\σ=[some (.ref l),some (.ref d),v2,v3,v4])
  ⟨Z0g hd _,[],[],none,none,none,Z0c,.nil,Good.start es,Z⟩ (λi σ H' _ e=>e.1.seq hS) ?_ ?_⟩
 ·rintro i x σ H1 T hx ⟨s1,kvs,ts,v2,v3,v4,hd1,hk,gd,rfl⟩ hT
  rw[q0c] at hx
  obtain⟨p,hp,rfl⟩:=q0h.mp hx
  obtain⟨e,ei,hpe⟩:=he.get hp
  have ilt:i<es.length:=(q0l.mp ei).1
  have sT:=Z0g hT (.tup [.int i,.ref p])
  have hpe1:=sT _ _ (s1 _ _ hpe)
  have SP:SqT K (upd H1 T (.tup [.int i,.ref p])) p [.int e.1,.int e.2]:=SqT.of hpe1
  refine⟨T,_,Z,SqT.of Z0c,Z,_,_,Z,_,_,Z,Z,?_⟩
  refine⟨_,Z,p,_,_,_,Z,Z,SP,Z,_,Z,p,_,_,_,Z,Z,SP,Z,_,Z,_,_,Z,Z,⟨1,sz1,by omega,by omega⟩,(by show 3<=sizeLine;decide),λr hr=>?_⟩
  have sr:=Z0g hr (.tup [.int e.1,.int e.2,.int ((1:Int)*2^((i:Int)).toNat)])
  have e1:(1:Int)*2^((i:Int)).toNat=((2^i:Nat):Int):=by simp
  have hrt:upd (upd H1 T (.tup [.int i,.ref p])) r (.tup [.int e.1,.int e.2,.int ((1:Int)*2^((i:Int)).toNat)]) r=some (T3 (e.1,e.2,2^i)):=by rw[Z0c,e1]
  refine⟨_,Z,r,d,(e.1,e.2,2^i),kvs,ts,es,i,e,Z,hrt,sr _ _ (sT _ _ hd1),(hk.same sT).same sr,fine,gd,Left.start ei,λp' H2 t s2 hp' lf apart=>?_⟩
  have sH2:=((s1.trans sT).trans sr).trans s2
  have hd2:=s2 _ _ (sr _ _ (sT _ _ hd1))
  have hk2:=((hk.same sT).same sr).same s2
  have SL:SqT K H2 p' [.int t.1,.int t.2.1,.int t.2.2]:=SqT.of hp'
  refine⟨_,Z,p',_,_,_,Z,Z,SL,Z,Z,_,Z,neI (λne=>?_) (λeq=>?_)⟩
  ·have t0:t.1≠0:=λz=>ne (by rw[z];rfl)
   refine⟨_,Z,_,Z,_,Z,p',_,_,_,Z,Z,SL,Z,Z,_,Z,Z,?_⟩
   rw[Z9u]
   have hn:valV kvs (Sum.inl (bl t.1:Int))=none:=by
    cases hv:valV kvs (Sum.inl (bl t.1:Int)) with
    | none=>rfl
    | some v =>
     obtain⟨u,hu,q,eh,_⟩:=hk2.get hv
     exact absurd (Int.ofNat.inj eh) (apart u hu)
   have hkl:=hk.length
   have hgl:=gd.len
   refine⟨d,_,Z,DPut.k (k:=Sum.inl (bl t.1:Int)) hd2 (q0k (show kvs.length<64 by omega) (by decide)),Z0s sH2 hd,_,ts++[t],some (V.int i),some (V.ref p),some (V.ref p'),Z0c,?_,gd.put ei lf t0 apart,Z⟩
   rw[X1r _ hn]
   exact(hk2.upd hd2).snoc (by rw[Z0x (Z7e hp' hd2 (by intro z;cases z))];exact hp')
  ·have t0:t.1=0:=Int.ofNat.inj eq
   have tb:=lf.bit fine.bit
   refine⟨_,Z,p',_,_,_,Z,Z,SL,Z,Z,_,Z,eqI (λe1'=>?_) (λe1'=>?_)⟩
   ·have b1:t.2.1=1:=Int.ofNat.inj e1'
    have clt:t.2.2<2^es.length:=q0k lf.lt (q1a (by decide) ilt)
    refine⟨_,Z,p',_,_,_,Z,Z,SL,Z,t.2.2,Z,q0k clt (q1a (by decide) (by omega)),λql H3 s3 hl3=>⟨t2,λrr hrr=>?_⟩⟩
    refine kq rr _ ((sH2.trans s3).trans (Z0g hrr _)) (.inr ⟨t.2.2,ql,Z0c,Z0g hrr _ _ _ hl3,clt,?_⟩)
    rw[lf.com]
    show (t.1,t.2.1)=_
    rw[t0,b1]
   ·have b0:t.2.1=0:=by
     have:¬ t.2.1=1:=λz=>e1' (by rw[z];rfl)
     omega
    exact⟨sH2,kvs,ts,some (V.int i),some (V.ref p),some (V.ref p'),hd2,hk2,gd.skip ei lf t0 b0,Z⟩
 ·rintro σ H1 ⟨s1,kvs,ts,v2,v3,v4,hd1,hk,gd,rfl⟩
  rw[q0a,hlen] at gd
  refine⟨_,Z,d,kvs,ts,es,es.length,Z,hd1,hk,fine,gd,h60,λx H2 s2 hs=>⟨t2,λr hr=>?_⟩⟩
  refine kq r _ ((s1.trans s2).trans (Z0g hr _)) (.inl ⟨x,Z0c,λe he'=>?_⟩)
  obtain⟨j,hj,rfl⟩:=q2i.mp he'
  exact gd.all x hs j _ hj (q0d hj)
end
end K63T
namespace M54
open Pc K51
noncomputable def bit (v n:Nat):Nat:=v / 2^n%2
theorem Z1o (v n:Nat):bit v n<2:=q1v _ (by decide)
theorem Z5h (v n:Nat):bit v (n+1)=bit (v / 2) n:=by
 unfold bit
 rw[q2o,q5w]
theorem Z2g (n:Nat):bit 0 n=0:=by unfold bit;simp
theorem Z2e:∀ (n a b:Nat),bit (a^^^b) n=(bit a n+bit b n)%2
 | 0,a,b=>by
  have:=Z3t a b
  unfold bit
  simp only[Nat.pow_zero,Nat.div_one]
  omega
 | n+1,a,b=>by
  have:=Z3t a b
  rw[Z5h,Z5h,Z5h,show (a^^^b) / 2=a / 2^^^b / 2 by omega]
  exact Z2e n _ _
theorem Z2n:∀ (N a b:Nat),a<2^N->b<2^N->(∀ n,n<N->bit a n=bit b n)->a=b
 | 0,a,b,ha,hb,_=>by simp at ha hb;omega
 | N+1,a,b,ha,hb,h=>by
  rw[q2o] at ha hb
  have h0:=h 0 (Nat.succ_pos N)
  unfold bit at h0
  simp only[Nat.pow_zero,Nat.div_one] at h0
  have:=Z2n N (a / 2) (b / 2) (by omega) (by omega) λn hn=>by rw[<-Z5h,<-Z5h];exact h (n+1) (by omega)
  omega
theorem Z5s {a m n:Nat}(h:a<2^m)(hm:m<=n):bit a n=0:=by
 unfold bit
 rw[q3u (q0k h (q1a (by decide) hm))]
theorem X8w (m n:Nat):bit (2^m) n=if n=m then 1 else 0:=by
 unfold bit
 by_cases h:n=m
 ·subst h;rw[if_pos rfl,Nat.div_self (q0o n)]
 ·rw[if_neg h]
  rcases Nat.lt_or_ge n m with c | c
  ·obtain⟨d,rfl⟩:∃ d,m=n+(d+1):=⟨m-n-1,by omega⟩
   rw[q6a,Nat.mul_div_cancel_left _ (q0o n),q4r,Nat.mul_mod_left]
  ·rw[q3u (q2d (by decide) (by omega))]
theorem X9a (x m:Nat):x&&&2^m=bit x m*2^m:=by
 refine q3b λj=>?_
 rw[q2x,q2r]
 by_cases q:m=j
 ·subst q
  rw[q2k,q2k,Nat.mul_div_cancel _ (q0o m)]
  show (decide (bit x m=1) && decide (m=m))=decide (bit x m%2=1)
  rw[q2h (Z1o x m)]
  simp
 ·rcases (by have:=Z1o x m;omega:bit x m=0∨bit x m=1) with z | z<;>rw[z]<;>simp[q]
theorem Y7v {a m x b:Nat}(ha:a<2^m)(hb:b<2):pc ((a+b*2^m)&&&x)%2=(pc (a&&&x)+b*bit x m)%2:=by
 rcases (by omega:b=0∨b=1) with rfl | rfl
 ·simp
 ·rw[q7o,<-K51.Y1s ha,q3e,pcx,q3g (2^m),X9a]
  rcases (by have:=Z1o x m;omega:bit x m=0∨bit x m=1) with z | z<;>rw[z]
  ·rw[q9f,Z1s,q8g]
  ·rw[q7o,Y7w]
noncomputable def Wm (fs:W3)(n:Nat):Nat->Nat
 | 0=>0
 | m+1=>Wm fs n m+bit (fs.getD m 0) n*2^m
noncomputable def Xm (fs:W3)(x:Nat):Nat->Nat
 | 0=>0
 | m+1=>if bit x m=1 then Xm fs x m^^^fs.getD m 0 else Xm fs x m
theorem X0w (fs:W3)(n:Nat):∀ m,Wm fs n m<2^m
 | 0=>by unfold Wm;decide
 | m+1=>by
  have h:=X0w fs n m
  have b:=Z1o (fs.getD m 0) n
  unfold Wm
  rw[q2o]
  rcases (by omega:bit (fs.getD m 0) n=0∨bit (fs.getD m 0) n=1) with z | z<;>rw[z]<;>omega
theorem X3z {fs:W3}{x N:Nat}(h:∀ j,fs.getD j 0<2^N):∀ m,Xm fs x m<2^N
 | 0=>by unfold Xm;exact q0o N
 | m+1=>by
  unfold Xm
  split
  ·exact q1c (X3z h m) (h m)
  ·exact X3z h m
theorem X6i (fs:W3)(x n:Nat):∀ m,bit (Xm fs x m) n=pc (Wm fs n m&&&x)%2
 | 0=>by unfold Xm Wm;rw[Z2g,q8f,Z1s]
 | m+1=>by
  have ih:=X6i fs x n m
  have bl:=Z1o x m
  unfold Xm Wm
  rw[Y7v (X0w fs n m) (Z1o _ _)]
  split
  ·rename_i z
   rw[Z2e,ih,z]
   omega
  ·rename_i z
   rw[ih,show bit x m=0 by omega]
   omega
theorem X0x (fs:W3)(n:Nat):∀ m j,j<m->bit (Wm fs n m) j=bit (fs.getD j 0) n
 | 0,j,h=>by omega
 | m+1,j,h=>by
  have hw:=X0w fs n m
  have b:=Z1o (fs.getD m 0) n
  unfold Wm
  rcases (by omega:bit (fs.getD m 0) n=0∨bit (fs.getD m 0) n=1) with z | z
  ·rw[z,q9f,q3h]
   by_cases q:j=m
   ·subst q;rw[z,Z5s hw (q0g _)]
   ·exact X0x fs n m j (by omega)
  ·rw[z,q7o,<-K51.Y1s hw,Z2e,X8w]
   by_cases q:j=m
   ·subst q;rw[if_pos rfl,z,Z5s hw (q0g _)]
   ·rw[if_neg q,X0x fs n m j (by omega),q3h,q2h (Z1o _ _)]
theorem X5p (fs:W3)(n:Nat):∀ m,m<=fs.length->((fs.take m).mapIdx λi v=>((bit v n:Nat):Int)*2^i).sum=((Wm fs n m:Nat):Int)
 | 0,_=>by simp[Wm]
 | m+1,h=>by
  have ih:=X5p fs n m (by omega)
  have e:fs[m]?=some (fs.getD m 0):=by rw[q0b,q0d (by omega)];rfl
  have l:(fs.take m).length=m:=by rw[q2b];omega
  unfold Wm
  rw[q1m,e,q1w,q7a,q8h,ih,l]
  simp
noncomputable def eqs (fs:W3)(v N:Nat):List Eqn:=(List.range N).map λn=>(Wm fs n fs.length,bit v n)
theorem Z5r (fs:W3)(v N:Nat):(eqs fs v N).length=N:=by unfold eqs;simp
theorem Z3u:∀ (l r:List Eqn) (c:Nat),comb (l++r) c=add (comb l c) (comb r (c / 2^l.length))
 | [],r,c=>by simp[comb,add]
 | e::l,r,c=>by
  have ih:=Z3u l r (c / 2)
  have e1:c / 2 / 2^l.length=c / 2^(e::l).length:=by rw[q3k,q2o,q5w]
  show (if c%2=1 then add e (comb (l++r) (c / 2)) else comb (l++r) (c / 2))=add (if c%2=1 then add e (comb l (c / 2)) else comb l (c / 2)) _
  rw[ih,e1]
  split
  ·rw[Z2z]
  ·rfl
theorem Z6h (fs:W3)(v N:Nat):eqs fs v (N+1)=eqs fs v N++[(Wm fs N fs.length,bit v N)]:=by
 unfold eqs;rw[q4s,q0i];rfl
theorem Z6g (c N:Nat):c%2^(N+1)=c%2^N+bit c N*2^N:=by rw[q4r,Nat.mod_mul];unfold bit;rw[Nat.mul_comm (2^N)]
theorem Y5b (e:Eqn)(c:Nat):comb [e] c=if c%2=1 then e else (0,0):=by
 unfold comb comb
 split<;>simp[add]
theorem Z9p (fs:W3)(v c:Nat):∀ N,(comb (eqs fs v N) c).2=pc (c%2^N&&&v)%2
 | 0=>by simp[eqs,comb,q8v,Z1s]
 | N+1=>by
  have ih:=Z9p fs v c N
  have hb:=Z1o c N
  have hv:=Z1o v N
  rw[Z6h,Z3u,Z5r,Y5b,Z6g,Y7v (q1v _ (q0o N)) hb]
  show (comb (eqs fs v N) c).2^^^(if c / 2^N%2=1 then (Wm fs N fs.length,bit v N) else (0,0)).2=_
  rw[ih]
  have nx:=Z3t (pc (c%2^N&&&v)%2) (bit v N)
  have z1:pc (c%2^N&&&v)%2 / 2=0:=by omega
  have z2:bit v N / 2=0:=by omega
  rw[z1,z2] at nx
  have q:(0^^^0:Nat)=0:=rfl
  rcases (by omega:bit c N=0∨bit c N=1) with z | z
  ·rw[if_neg (show ¬ c / 2^N%2=1 by have:c / 2^N%2=0:=z;omega),z]
   simp
  ·rw[if_pos (show c / 2^N%2=1 from z),z]
   show _^^^bit v N=_
   omega
theorem Z9q (fs:W3)(v c j:Nat)(hj:j<fs.length):∀ N,bit (comb (eqs fs v N) c).1 j=pc (c%2^N&&&fs.getD j 0)%2
 | 0=>by simp[eqs,comb,q8v,Z1s,Z2g]
 | N+1=>by
  have ih:=Z9q fs v c j hj N
  have hb:=Z1o c N
  have wb:=X0x fs N fs.length j hj
  rw[Z6h,Z3u,Z5r,Y5b,Z6g,Y7v (q1v _ (q0o N)) hb]
  show bit ((comb (eqs fs v N) c).1^^^(if c / 2^N%2=1 then (Wm fs N fs.length,bit v N) else (0,0)).1) j=_
  rw[Z2e,ih]
  rcases (by omega:bit c N=0∨bit c N=1) with z | z
  ·rw[if_neg (show ¬ c / 2^N%2=1 by have:c / 2^N%2=0:=z;omega),z,Z2g]
   omega
  ·rw[if_pos (show c / 2^N%2=1 from z),z,wb]
   omega
abbrev Mk:=Nat × Nat × Nat
noncomputable def mul (a b:Mk):Mk:=((a.1+b.1+2*pc (a.2.2&&&b.2.1))%4,a.2.1^^^b.2.1,a.2.2^^^b.2.2)
noncomputable def prod (ms:List Mk):Mk:=ms.foldl mul (0,0,0)
theorem Y0u (k:Nat):∀ (ms:List Mk) (q f s:Nat),ms.foldl mul ((k+q)%4,f,s)=((k+(ms.foldl mul (q%4,f,s)).1)%4,(ms.foldl mul (q%4,f,s)).2)
 | [],q,f,s=>by
  show ((k+q)%4,f,s)=((k+q%4)%4,f,s)
  rw[Nat.add_mod_mod]
 | m::ms,q,f,s=>by
  rw[q8m,q8m]
  have h:=Y0u k ms (q+m.1+2*pc (s&&&m.2.1)) (f^^^m.2.1) (s^^^m.2.2)
  have e1:mul ((k+q)%4,f,s) m=((k+(q+m.1+2*pc (s&&&m.2.1)))%4,f^^^m.2.1,s^^^m.2.2):=by
   show (((k+q)%4+m.1+2*pc (s&&&m.2.1))%4,_,_)=_
   congr 1
   omega
  have e2:mul (q%4,f,s) m=((q+m.1+2*pc (s&&&m.2.1))%4,f^^^m.2.1,s^^^m.2.2):=by
   show ((q%4+m.1+2*pc (s&&&m.2.1))%4,_,_)=_
   congr 1
   omega
  rw[e1,e2]
  exact h
theorem Z5j {k:Nat}(hk:k<4)(ms:List Mk):ms.foldl mul (k,0,0)=((k+(prod ms).1)%4,(prod ms).2):=by
 have:=Y0u k ms 0 0 0
 rw[q3h,q2h hk] at this
 exact this
theorem Y2a:∀ (ms:List Mk) (a:Mk),a.1<4->(ms.foldl mul a).1<4
 | [],a,h=>h
 | m::ms,a,h=>Y2a ms (mul a m) (q1v _ (by decide))
noncomputable def chosen (rows:List Mk)(x m:Nat):List Mk:=(places x m).map λp=>rows.getD p (0,0,0)
theorem Z2b (rows:List Mk)(x m:Nat):chosen rows x (m+1)=chosen rows x m++(if bit x m=1 then [rows.getD m (0,0,0)] else []):=by
 unfold chosen
 rw[Z3a,q0i]
 show _++List.map _ (if bit x m=1 then [m] else [])=_
 split<;>rfl
theorem Z7x (rows:List Mk)(x:Nat):∀ m,(prod (chosen rows x m)).2.1=Xm (rows.map (·.2.1)) x m
 | 0=>rfl
 | m+1=>by
  have ih:=Z7x rows x m
  rw[Z2b]
  unfold prod at *
  rw[q3r]
  unfold Xm
  split
  ·show (mul _ _).2.1=_
   show (List.foldl mul (0,0,0) (chosen rows x m)).2.1^^^(rows.getD m (0,0,0)).2.1=_
   rw[ih,q0b,q0b,q0c]
   cases rows[m]?<;>rfl
  ·exact ih
theorem Z7w (rows:List Mk)(x:Nat):∀ m,(prod (chosen rows x m)).2.2=Xm (rows.map (·.2.2)) x m
 | 0=>rfl
 | m+1=>by
  have ih:=Z7w rows x m
  rw[Z2b]
  unfold prod at *
  rw[q3r]
  unfold Xm
  split
  ·show (List.foldl mul (0,0,0) (chosen rows x m)).2.2^^^(rows.getD m (0,0,0)).2.2=_
   rw[ih,q0b,q0b,q0c]
   cases rows[m]?<;>rfl
  ·exact ih
end M54
namespace K63T
open L2 Pc K51 M54
def Mks (H:Hp):List Addr->List Mk->Prop:=Paired λp m=>H p=some (T3 m)
theorem Mks.same {H H':Hp}{ps:U3}{ms:List Mk}(h:Mks H ps ms)(s:Same H H'):Mks H' ps ms:=Paired.imp' (λ_ _ c=>s _ _ c) h
theorem Mks.length {H:Hp}{ps:U3}{ms:List Mk}(h:Mks H ps ms):ps.length=ms.length:=Paired.length h
theorem Mks.get {H:Hp}:∀ {ps:U3}{ms:List Mk}{i:Nat}{p:W9},Mks H ps ms->ps[i]?=some p->∃ e,ms[i]?=some e/\H p=some (T3 e)
 | p'::ps,e::es,0,p,.cons a r,h=>by
  have:p'=p:=by simpa using h
  subst this
  exact⟨e,Z,a⟩
 | p'::ps,e::es,i+1,p,.cons a r,h=>by
  obtain⟨f,b,c⟩:=Mks.get (ps:=ps) (ms:=es) (i:=i) (p:=p) r (by simpa using h)
  exact⟨f,by simpa using b,c⟩
theorem Mks.at {H:Hp}{ps:U3}{ms:List Mk}{i:Nat}(h:Mks H ps ms)(hi:i<ms.length):∃ p,ps[i]?=some p/\H p=some (T3 (ms.getD i (0,0,0))):=by
 have hl:=h.length
 have e1:ps[i]?=some (ps[i]'(by omega)):=by simp[show i<ps.length by omega]
 obtain⟨e,e2,e3⟩:=h.get e1
 refine⟨_,e1,?_⟩
 rw[q0b,e2]
 exact e3
noncomputable abbrev rowM (m:Mk):List Int:=[(m.1:Int),(m.2.1:Int),(m.2.2:Int)]
theorem Mks.rows {H:Hp}:∀ {ps:U3}{ms:List Mk},Mks H ps ms->Rows5 H ps (ms.map rowM)
 | [],[],_=>.nil
 | _::_,_::_,.cons a r=>.cons a (Mks.rows r)
noncomputable abbrev L3 (m:Mk):List V:=[.int m.1,.int m.2.1,.int m.2.2]
def Z6r (K:U0):Sp:=λvs H Q _=>∃ (p p':W9) (m m':Mk),vs=[.ref p,.ref p']/\SqT K H p (L3 m)/\SqT K H p' (L3 m')/\∀ (r:W9) (H':Hp),Same H H'->H' r=some (T3 (mul m m'))->Q (.ref r) H'
def Z6q (K:U0):Sp:=λvs H Q _=>∃ (l:W9) (ps:U3) (ms:List Mk),vs=[.ref l]/\SqL K H l (ps.map V.ref)/\Mks H ps ms/\∀ (r:W9) (H':Hp),Same H H'->SqT K H' r (L3 (prod ms))->Q (.ref r) H'
def Z7t (K:U0):Sp:=λvs H Q _=>∃ (l:W9) (ps:U3) (ms:List Mk) (pt:Int) (fs:W3) (n:Nat),vs=[.ref l,.int pt,.int n]/\SqL K H l (ps.map V.ref)/\Mks H ps ms/\ms.length<=60 ∧
 (pt=1/\fs=ms.map (·.2.1)∨pt=2/\fs=ms.map (·.2.2))/\∀ H',Same H H'->Q (.int (Wm fs n fs.length:Nat)) H'
def Y7g (K:U0):Sp:=λvs H Q _=>∃ (l:W9) (c n:Nat),vs=[.ref l,.int n]/\SqL K H l ((places c (bl c)).map λp=>V.int (p:Nat))/\n<=6/\c<2^(n+n) ∧
 ∀ (r:W9) (H':Hp),Same H H'->H' r=some (T3 (pc (c / 2^n&&&c%2^n)%4,c / 2^n,c%2^n))->Q (.ref r) H'
theorem Y4w (c k:Nat):∀ N,((((places c N).map λp=>((p:Nat):Int)).filter λz:Int=>decide ((k:Int)<=z)).map λz:Int=>(1:Int)*2^(z-(k:Int)).toNat).sum=((c%2^N / 2^k:Nat):Int)
 | 0=>by simp[places,q8v]
 | N+1=>by
  have ih:=Y4w c k N
  have p:=q0o k
  rw[Z3a,q0i,q4p,q0i,q8h,ih,Z6g]
  show _+((((if bit c N=1 then [N] else []).map λp=>((p:Nat):Int)).filter λz:Int=>decide ((k:Int)<=z)).map λz:Int=>(1:Int)*2^(z-(k:Int)).toNat).sum=_
  have hl:c%2^N<2^N:=q1v _ (q0o N)
  rcases (by have:=Z1o c N;omega:bit c N=0∨bit c N=1) with z | z
  ·rw[z];simp
  ·rw[z,if_pos rfl,q7o]
   by_cases hk:k<=N
   ·obtain⟨d,rfl⟩:∃ d,N=k+d:=⟨N-k,by omega⟩
    have e:(c%2^(k+d)+2^(k+d)) / 2^k=c%2^(k+d) / 2^k+2^d:=by rw[q6a,Nat.add_mul_div_left _ _ p]
    rw[e]
    have hk2:(k:Int)<=(k:Int)+d:=by omega
    have e3:((k:Int)+d).toNat-k=d:=by omega
    simp[hk2,e3]
   ·have e:(c%2^N+2^N) / 2^k=0:=q3u (by
     have:=q1a (show 0<2 by decide) (show N+1<=k by omega)
     rw[q2o] at this
     omega)
    have e':c%2^N / 2^k=0:=q3u (q5i hl (q2d (by decide) (by omega)))
    rw[e,e']
    have nk:¬ ((k:Int)<=N):=by omega
    simp[nk]
theorem Y9a (c k:Nat):∀ N,((((places c N).map λp=>((p:Nat):Int)).filter λz=>decide (z<(k:Int))).map λz=>(1:Int)*2^z.toNat).sum=((c%2^N%2^k:Nat):Int)
 | 0=>by simp[places,q8v]
 | N+1=>by
  have ih:=Y9a c k N
  rw[Z3a,q0i,q4p,q0i,q8h,ih,Z6g]
  show _+((((if bit c N=1 then [N] else []).map λp=>((p:Nat):Int)).filter λz=>decide (z<(k:Int))).map λz=>(1:Int)*2^z.toNat).sum=_
  have hl:c%2^N<2^N:=q1v _ (q0o N)
  rcases (by have:=Z1o c N;omega:bit c N=0∨bit c N=1) with z | z
  ·rw[z];simp
  ·rw[z,if_pos rfl,q7o]
   by_cases hk:k<=N
   ·obtain⟨d,rfl⟩:∃ d,N=k+d:=⟨N-k,by omega⟩
    have e:(c%2^(k+d)+2^(k+d))%2^k=c%2^(k+d)%2^k:=by rw[q6a,Nat.add_mul_mod_self_left]
    rw[e]
    have nk:¬ ((k:Int)+d<k):=by omega
    simp[nk]
   ·have hp:2*2^N<=2^k:=by
     have:=q1a (show 0<2 by decide) (show N+1<=k by omega)
     rw[q2o] at this
     exact this
    rw[q2h (show c%2^N+2^N<2^k by omega),q2h (show c%2^N<2^k by omega)]
    simp[show N<k by omega]
theorem t3:3<=sizeLine:=by decide
theorem Z7d (x:Nat):Builtin.bitAnd (x:Int) 1=((x%2:Nat):Int):=by
 have:=Z4q x 1
 rw[Nat.and_one_is_mod] at this
 exact this
section
variable {P:U8}{w:W1}{K:U0}{mg:U4}{base:Heap}{k:Nat}{h:Heap}
theorem sc_product:FnScope ["one","other","met"] ["one","other"] (Z0i (top 23)):=fS
theorem Y5q (F:FunAt K "product" (top 23) .none)(X:K.In h)(G:Ng h mg)(cD:Cal P w K mg base k "ones" ["number"] spOnes):Cal P w K mg base (k+1) "product" ["one","other"] (Z6r K):=by
 have nd:=sc_product.nd
 refine F.cal X G sc_product (bnd2 λ_ _ _ _ _ _ _ _=>rfl) (λvs H Q E h=>?_) (λf cdv A outer s H vs Q E hr h=>?_)
 ·obtain⟨p,p',m,m',rfl,_⟩:=h;rfl
 obtain⟨p,p',m,m',rfl,S1,S2,kq⟩:=h
 refine⟨_,(@Z0e _ _ _ _ _ (@Z0q _ _ 2 _ _ _ _ nd rfl (Or.inl rfl) (Z0l cD hr rfl (Z0a (Z0h Z1d (Z0m Z0j (pv 0) Z0b (λ_ _=>rfl)) (Z0m Z0j (pv 1) Z0b (λ_ _=>rfl))) Z0d)) rfl (.inl rfl))
  (@Z0f _ _ _ (Z0k (@Z1a _ _ _ _ _ (Z0a (Z0h Z0v (Z0h Z1b (Z0h Z1b (Z0m Z0j (pv 0) Z0b (λ_ _=>rfl)) (Z0m Z0j (pv 1) Z0b (λ_ _=>rfl))) (Z0h Z3p Z0b (pv 2))) Z0b) (Z0a (Z0h Z2v (Z0m Z0j (pv 0) Z0b (λ_ _=>rfl)) (Z0m Z0j (pv 1) Z0b (λ_ _=>rfl))) (Z0a (Z0h Z2v (Z0m Z0j (pv 0) Z0b (λ_ _=>rfl)) (Z0m Z0j (pv 1) Z0b (λ_ _=>rfl))) Z0d))))))),?_⟩
 try dsimp only[cxK]
 refine⟨_,Z,p,_,_,_,Z,Z,S1,Z,_,Z,p',_,_,_,Z,Z,S2,Z,_,_,Z,Z,m.2.2&&&m'.2.1,Z5t _ _,?_⟩
 refine⟨_,Z,p,_,_,_,Z,Z,S1,Z,_,Z,p',_,_,_,Z,Z,S2,Z,_,_,Z,Z,_,Z,_,_,Z,Z,.inl ⟨by decide,by decide⟩,_,_,Z,Z,_,_,Z,Z,Z3i,?_⟩
 refine⟨_,Z,p,_,_,_,Z,Z,S1,Z,_,Z,p',_,_,_,Z,Z,S2,Z,_,_,Z,Z,_,Z,p,_,_,_,Z,Z,S1,Z,_,Z,p',_,_,_,Z,Z,S2,Z,_,_,Z,Z,t3,λr hr=>?_⟩
 refine kq r _ (Z0g hr _) ?_
 rw[Z0c]
 show some (HO.tup [.int (((m.1:Int)+m'.1+2*((pc (m.2.2&&&m'.2.1):Nat):Int))%4),.int (Builtin.bitXor (m.2.1:Int) m'.2.1),.int (Builtin.bitXor (m.2.2:Int) m'.2.2)])=_
 rw[Z4r,Z4r]
 rfl
theorem sc_prodof:FnScope ["marks","made","mark"] ["marks"] (Z0i (top 50)):=fS
theorem Y8h (F:FunAt K "product_of" (top 50) .none)(X:K.In h)(G:Ng h mg){aP:W9}(gP:mg "PRODUCT_OF_NONE"=some (.ref aP))(sP:∀ H:Hp,SqT K H aP (L3 (0,0,0)))
  (cX:Cal P w K mg base k "product" ["one","other"] (Z6r K)):Cal P w K mg base (k+1) "product_of" ["marks"] (Z6q K):=by
 have nd:=sc_prodof.nd
 refine F.cal X G sc_prodof (bnd1 λ_ _ _ _ _ _ _=>rfl) (λvs H Q E h=>?_) (λf cdv A outer s H vs Q E hr h=>?_)
 ·obtain⟨l,ps,ms,rfl,_⟩:=h;rfl
 obtain⟨l,ps,ms,rfl,hS,hm,kq⟩:=h
 have hlen:=hm.length
 refine⟨_,(@Z0e _ _ _ _ _ (@Z0q _ _ 1 _ _ _ _ nd rfl (Or.inl rfl) (Z3c (v:=.ref aP) rfl gP rfl) rfl (.inl rfl))
  (@Z0e _ _ _ _ _ (Z1v PassesOwn.never rfl (Z1e (pv 0)) (Z0p (i:=2) nd rfl (Or.inl rfl))
   (@Z0f _ _ _ (@Z0q _ _ 1 _ _ _ _ nd rfl (Or.inl rfl) (Z0l cX hr rfl (Z0a (pv 1) (Z0a (pv 2) Z0d))) rfl (.inl rfl))))
  (@Z0f _ _ _ (Z0k (pv 1))))),?_⟩
 try dsimp only[cxK]
 refine⟨_,Z,l,Z,⟨_,hS⟩,Z2x (K:=K) (a:=l) (xs:=ps.map V.ref) (λi σ H'=>Same H H'/\∃ (p:W9) (v:Option V),SqT K H' p (L3 ((ms.take i).foldl mul (0,0,0)))/\σ=[some (.ref l),some (.ref p),v]) ⟨Same.refl _,aP,none,sP H,Z⟩ (λi σ H' _ e=>e.1.seq hS) ?_ ?_⟩
 ·rintro i x σ H1 hx ⟨s1,p,v,sp,rfl⟩
  rw[q0c] at hx
  obtain⟨p',hp',rfl⟩:=q0h.mp hx
  obtain⟨m,hmi,hpm⟩:=hm.get hp'
  refine⟨_,Z,_,Z,p,p',_,m,Z,sp,SqT.of (s1 _ _ hpm),λr H2 s2 hr=>⟨s1.trans s2,r,_,?_,Z⟩⟩
  rw[q1m,hmi,q1w,q3r]
  exact SqT.of hr
 ·rintro σ H1 ⟨s1,p,v,sp,rfl⟩
  rw[q0a,hlen,q2e] at sp
  exact⟨_,Z,kq p H1 s1 sp⟩
theorem sc_rowswith:FnScope ["rows","part","cell"] ["rows","part","cell"] (Z0i (top 49)):=fS
theorem Y2i (F:FunAt K "rows_with" (top 49) .none)(X:K.In h)(G:Ng h mg)(B:Bs mg):Cal P w K mg base (k+1) "rows_with" ["rows","part","cell"] (Z7t K):=by
 have nd:=sc_rowswith.nd
 refine F.cal X G sc_rowswith (bnd3 λ_ _ _ _ _ _ _ _ _=>rfl) (λvs H Q E h=>?_) (λf cdv A outer s H vs Q E hr h=>?_)
 ·obtain⟨l,ps,ms,pt,fs,n,rfl,_⟩:=h;rfl
 obtain⟨l,ps,ms,pt,fs,n,rfl,hS,hm,h60,hpt,kq⟩:=h
 have hlen:=hm.length
 have fl:fs.length=ms.length:=by rcases hpt with ⟨_,rfl⟩ | ⟨_,rfl⟩<;>exact q0a _
 refine⟨_,(@Z0f _ _ _ (Z0k (Z0r (Z7m rfl) rfl B.sum boot_sum (Z0a (Z3k rfl (LcOk.of (Nc:=["place","row","part","cell"]) (mp:=[none,none,some 1,some 2]) (by kernel_rfl)) (Z5l rfl B.enumerate (Z0a (pv 0) Z0d)) (λ_ _ _ _=>(Z6e rfl (show (["place","row","part","cell"]:W0).Nodup by decide +kernel) rfl rfl rfl rfl)) (λ_ _ _ _=>(Z0h Z1t (Z0h Z1d (Z0h Z4e (Z0m Z4p (pv 1) (pv 2) (λ_ _=>rfl)) (pv 3)) Z0b) (pv 0)))) Z0d)))),?_⟩
 try dsimp only[cxK]
 refine⟨_,Z,l,_,Z,hS,λacc hacc=>?_⟩
 refine X8e (l:=l) (xs:=ps.map V.ref) (fr:=[some (.int pt),some (.int n)]) (λi _=>.int (((bit (fs.getD i 0) n:Nat):Int)*2^i)) (by rw[q0a];exact s64 (by omega)) hacc hS (λh q=>⟨_,_,Z,SqT.of h,Z,_,_,Z,_,_,Z,Z,q⟩) ?_ ?_
 ·intro i x H2 N hx s2 kN
  rw[q0c] at hx
  obtain⟨p',hp',rfl⟩:=q0h.mp hx
  obtain⟨m,hmi,hpm⟩:=hm.get hp'
  have ilt:i<ms.length:=(q0l.mp hmi).1
  have S:SqT K H2 p' (L3 m):=SqT.of (s2 _ _ hpm)
  have at':atI (L3 m) pt=some (.int (fs.getD i 0:Nat)):=by
   rcases hpt with ⟨rfl,rfl⟩ | ⟨rfl,rfl⟩<;>rw[q0b,q0c,hmi]<;>rfl
  have b2:=Z1o (fs.getD i 0) n
  have e1:((fs.getD i 0:Nat):Int) / 2^((n:Int)).toNat=((fs.getD i 0 / 2^n:Nat):Int):=by rw[q0v];simp
  refine⟨_,Z,_,Z,p',_,_,_,Z,Z,S,at',_,Z,_,_,Z,Z,by omega,_,_,Z,Z,_,Z,?_⟩
  show rI CShl (λi j=>V.int (i*2^j.toNat)) (V.int (Builtin.bitAnd (((fs.getD i 0:Nat):Int) / 2^((n:Int)).toNat) 1)) (V.int (i:Int)) H2 N
  rw[e1,Z7d]
  refine⟨_,_,Z,Z,⟨1,?_,by omega,by omega⟩,?_⟩
  ·show ((bit (fs.getD i 0) n:Nat):Int).natAbs<2^1
   omega
  ·show N (.int (((bit (fs.getD i 0) n:Nat):Int)*2^((i:Int)).toNat)) H2
   rw[q0v]
   exact kN
 ·intro H2 s2 a2
  have e:((ps.map V.ref).mapIdx λi _=>V.int (((bit (fs.getD i 0) n:Nat):Int)*2^i))=(fs.mapIdx λi v=>((bit v n:Nat):Int)*2^i).map V.int:=by
   apply q5e
   ·simp[hlen,fl]
   ·intro i h1 h2
    simp only[q0a,q7b] at h2
    simp[h2]
  rw[e] at a2
  refine⟨acc,_,Z,SqL.of a2,?_⟩
  have:=X5p fs n fs.length (q0g _)
  rw[q2e] at this
  rw[this]
  exact kq H2 s2
theorem sc_apart:FnScope ["numbers","cells","flips","signs"] ["numbers","cells"] (Z0i (top 51)):=fS
theorem X2s (F:FunAt K "apart_by" (top 51) .none)(X:K.In h)(G:Ng h mg)(B:Bs mg)(cD:Cal P w K mg base k "ones" ["number"] spOnes):Cal P w K mg base (k+1) "apart_by" ["numbers","cells"] (Y7g K):=by
 have nd:=sc_apart.nd
 refine F.cal X G sc_apart (bnd2 λ_ _ _ _ _ _ _ _=>rfl) (λvs H Q E h=>?_) (λf cdv A outer s H vs Q E hr h=>?_)
 ·obtain⟨l,c,n,rfl,_⟩:=h;rfl
 obtain⟨l,c,n,rfl,hS,hn,hc,kq⟩:=h
 have em:((places c (bl c)).map λp=>V.int (p:Nat))=((places c (bl c)).map λp=>((p:Nat):Int)).map V.int:=by rw[q2v];rfl
 rw[em] at hS
 have hb:bl c<=n+n:=bl_le.mpr hc
 have hmem:∀ z∈(places c (bl c)).map λp=>((p:Nat):Int),∃ p:Nat,z=p/\p<12:=λz hz=>by
  obtain⟨p,hp,rfl⟩:=q1q.mp hz
  exact⟨p,Z,by have:=Z4b hp;omega⟩
 have hlen:((places c (bl c)).map λp=>((p:Nat):Int)).length<=sizeLine:=by
  rw[q0a]
  exact s64 (q1i (q4t _ _) (by rw[q7k];omega))
 have hi:=Y4w c n (bl c)
 have lo:=Y9a c n (bl c)
 rw[q2h (X3w c)] at hi lo
 generalize ((places c (bl c)).map λp=>((p:Nat):Int))=ns at *
 refine⟨_,(@Z0e _ _ _ _ _ (@Z0q _ _ 2 _ _ _ _ nd rfl (Or.inl rfl) (Z0r (Z7m rfl) rfl B.sum boot_sum (Z0a (Y4c rfl (LcOk.of (Nc:=["number","cells"]) (mp:=[none,some 1]) (by kernel_rfl)) (Z1e (pv 0)) (λ_ _ _ _=>(Z0p (i:=0) (show (["number","cells"]:W0).Nodup by decide +kernel) rfl (Or.inl rfl))) (λ_ _ _ _=>(Z0n Y8c (pv 0) (pv 1) (nomark _))) (λ_ _ _ _=>(Z0h Z1t Z0b (Z0h Z1z (pv 0) (pv 1))))) Z0d)) rfl (.inl rfl))
  (@Z0e _ _ _ _ _ (@Z0q _ _ 3 _ _ _ _ nd rfl (Or.inl rfl) (Z0r (Z7m rfl) rfl B.sum boot_sum (Z0a (Y4c rfl (LcOk.of (Nc:=["number","cells"]) (mp:=[none,some 1]) (by kernel_rfl)) (Z1e (pv 0)) (λ_ _ _ _=>(Z0p (i:=0) (show (["number","cells"]:W0).Nodup by decide +kernel) rfl (Or.inl rfl))) (λ_ _ _ _=>(Z0n Z7c (pv 0) (pv 1) (nomark _))) (λ_ _ _ _=>(Z0h Z1t Z0b (pv 0)))) Z0d)) rfl (.inl rfl))
  (@Z0f _ _ _ (Z0k (@Z1a _ _ _ _ _ (Z0a (Z0h Z0v (Z0l cD hr rfl (Z0a (Z0h Z1d (pv 2) (pv 3)) Z0d)) Z0b) (Z0a (pv 2) (Z0a (pv 3) Z0d)))))))),?_⟩
 try dsimp only[cxK]
 refine⟨_,Z,l,Z,⟨_,hS⟩,λacc hacc=>?_⟩
 refine Z9g (l:=l) (ns:=ns) (fr:=[some (.int n)]) (λz=>decide ((n:Int)<=z)) (λz=>1*2^(z-n).toNat) hlen hacc hS (λz H2 N _ _ kN=>⟨_,Z,_,Z,_,_,Z,Z,_,Z,kN⟩) (λz H2 N hz hp _ kN=>?_) ?_
 ·obtain⟨p,rfl,hp12⟩:=hmem z hz
  have hge:=q1u hp
  exact⟨_,Z,_,Z,_,_,Z,Z,_,_,Z,Z,⟨1,sz1,by omega,by omega⟩,kN⟩
 intro H2 s2 a2
 refine⟨acc,_,Z,SqL.of a2,?_⟩
 rw[hi]
 refine⟨_,Z,l,Z,⟨_,s2.seq hS⟩,λacc' hacc'=>?_⟩
 refine Z9g (l:=l) (ns:=ns) (fr:=[some (.int n)]) (λz=>decide (z<(n:Int))) (λz=>1*2^z.toNat) hlen hacc' (s2.seq hS) (λz H2 N _ _ kN=>⟨_,Z,_,Z,_,_,Z,Z,_,Z,kN⟩) (λz H2 N hz hp _ kN=>?_) ?_
 ·obtain⟨p,rfl,hp12⟩:=hmem z hz
  exact⟨_,Z,_,_,Z,Z,⟨1,sz1,by omega,by omega⟩,kN⟩
 intro H3 s3 a3
 refine⟨acc',_,Z,SqL.of a3,?_⟩
 rw[lo]
 refine⟨_,Z,_,Z,_,_,Z,Z,c / 2^n&&&c%2^n,Z5t _ _,_,_,Z,Z,Z3i,_,Z,_,Z,t3,λr hr=>?_⟩
 refine kq r _ ((s2.trans s3).trans (Z0g hr _)) ?_
 rw[Z0c]
 rfl
noncomputable def comm (a b:Mk):Nat:=(pc (a.2.1&&&b.2.2)+pc (a.2.2&&&b.2.1))%2
structure Okm (N:Nat) (m:Mk):Prop where
 q:m.1<4
 f:m.2.1<2^N
 s:m.2.2<2^N
def MadeT (ms:List Mk)(mark:Mk)(N:Nat)(H0 H:Hp)(r:W9):Prop :=
 (∃ (kk x:Nat) (l:W9),H0 l=none/\H r=some (.tup [.str "made",.int kk,.ref l])/\H l=some (.lst ((places x ms.length).map λp=>V.int (p:Nat)))/\kk<4/\(chosen ms x ms.length).foldl mul (kk,0,0)=mark) ∨
 ∃ (p:W9) (o:Mk),H r=some (.tup [.str "apart",.ref p])/\H p=some (T3 o)/\Okm N o/\(o.1+pc (o.2.1&&&o.2.2))%2=0/\comm o mark=1/\∀ m∈ms,comm o m=0
def Z8q (K:U0):Sp:=λvs H Q _=>∃ (l pm:W9) (ps:U3) (ms:List Mk) (mark:Mk) (N:Nat),vs=[.ref l,.ref pm,.int N]/\SqL K H l (ps.map V.ref)/\Mks H ps ms/\H pm=some (T3 mark)/\N<=6/\ms.length<=12/\(∀ m∈ms,Okm N m)/\Okm N mark ∧
 ∀ (r:W9) (H':Hp),Same H H'->MadeT ms mark N H H' r->Q (.ref r) H'
theorem Mks.pick {H:Hp}{ps:U3}{ms:List Mk}(h:Mks H ps ms):∀ (pl:W3),(∀ p∈pl,p<ms.length)->Mks H (pl.map λp=>ps.getD p 0) (pl.map λp=>ms.getD p (0,0,0))
 | [],_=>.nil
 | p::pl,hp=>by
  obtain⟨a,e1,e2⟩:=h.at (hp p q1r)
  refine .cons ?_ (Mks.pick h pl λq hq=>hp q (q1n _ hq))
  show H (ps.getD p 0)=_
  rw[q0b,e1]
  exact e2
theorem Z7a {α β:Type}{F:α->β->Prop}{l2:List α}{r2:List β}:∀ {l1:List α}{r1:List β},Paired F l1 r1->Paired F l2 r2->Paired F (l1++l2) (r1++r2)
 | [],[],_,h=>h
 | _::_,_::_,.cons a t,h=>.cons a (Z7a t h)
theorem X8p {ms:List Mk}{N:Nat}(h:∀ m∈ms,Okm N m)(j:Nat):(ms.map (·.2.1)).getD j 0<2^N/\(ms.map (·.2.2)).getD j 0<2^N:=by
 rw[q0b,q0b,q0c,q0c]
 cases e:ms[j]? with
 | none=>exact⟨q0o N,q0o N⟩
 | some m=>exact⟨(h m (q0y e)).f,(h m (q0y e)).s⟩
noncomputable abbrev both (ms:List Mk)(mark:Mk)(N:Nat):List Eqn:=eqs (ms.map (·.2.1)) mark.2.1 N++eqs (ms.map (·.2.2)) mark.2.2 N
theorem Y5d (ms:List Mk)(mark:Mk)(N:Nat):(both ms mark N).length=N+N:=by rw[q1d,Z5r,Z5r]
theorem X8s {fs:W3}{v N:Nat}{e:Eqn}(h:e∈eqs fs v N):∃ n,n<N/\e=(Wm fs n fs.length,bit v n):=by
 obtain⟨n,hn,rfl⟩:=q1q.mp h
 exact⟨n,q1o.mp hn,Z⟩
theorem X0s {ms:List Mk}{mark:Mk}{N:Nat}(h:ms.length<=12):Fine (both ms mark N):=by
 have key:∀ e∈both ms mark N,e.2<2/\e.1<2^12:=λe he=>by
  rcases q1b.mp he with q | q<;>obtain⟨n,_,rfl⟩:=X8s q
  ·exact⟨Z1o _ _,q0k (X0w _ _ _) (q1a (by decide) (by rw[q0a];exact h))⟩
  ·exact⟨Z1o _ _,q0k (X0w _ _ _) (q1a (by decide) (by rw[q0a];exact h))⟩
 exact⟨λe he=>(key e he).1,λe he=>q5i (key e he).2 (q2d (by decide) (by decide))⟩
theorem X3v {ms:List Mk}{mark:Mk}{N x:Nat}(hm:∀ m∈ms,Okm N m)(hk:Okm N mark)(h:∀ e∈both ms mark N,sat x e):(prod (chosen ms x ms.length)).2=mark.2:=by
 have g:=X8p hm
 have hf:(prod (chosen ms x ms.length)).2.1=mark.2.1:=by
  rw[Z7x]
  refine Z2n N _ _ (X3z (λj=>(g j).1) _) hk.f λn hn=>?_
  have:=h (Wm (ms.map (·.2.1)) n (ms.map (·.2.1)).length,bit mark.2.1 n) (q1z _ (q1q.mpr ⟨n,q1o.mpr hn,Z⟩))
  rw[q0a] at this
  rw[X6i]
  exact this
 have hs:(prod (chosen ms x ms.length)).2.2=mark.2.2:=by
  rw[Z7w]
  refine Z2n N _ _ (X3z (λj=>(g j).2) _) hk.s λn hn=>?_
  have:=h (Wm (ms.map (·.2.2)) n (ms.map (·.2.2)).length,bit mark.2.2 n) (q0n _ (q1q.mpr ⟨n,q1o.mpr hn,Z⟩))
  rw[q0a] at this
  rw[X6i]
  exact this
 exact Prod.ext hf hs
theorem Eqs.upd {H:Hp}{l:W9}{xs ys:List V}{ps:U3}{es:List Eqn}(h:Eqs H ps es)(hl:H l=some (.lst xs)):Eqs (upd H l (.lst ys)) ps es :=
 Paired.imp' (λ_ _ c=>by rw[Z0x (Z7e c hl (by intro z;cases z))];exact c) h
theorem xor01 {a b:Nat}(ha:a<2)(hb:b<2):a^^^b=(a+b)%2:=by
 have:=Z3t a b
 have z1:a / 2=0:=by omega
 have z2:b / 2=0:=by omega
 rw[z1,z2] at this
 have q:(0^^^0:Nat)=0:=rfl
 omega
theorem Y6f {ms:List Mk}{mark:Mk}{N c:Nat}(hc:c<2^(N+N))(h:comb (both ms mark N) c=(0,1)) :
  comm (pc (c / 2^N&&&c%2^N)%4,c / 2^N,c%2^N) mark=1/\∀ m∈ms,comm (pc (c / 2^N&&&c%2^N)%4,c / 2^N,c%2^N) m=0:=by
 rw[Z3u,Z5r] at h
 have hd:c / 2^N%2^N=c / 2^N:=q2h (by rw[q6a] at hc;exact Nat.div_lt_of_lt_mul hc)
 constructor
 ·have h2:(comb (eqs (ms.map (·.2.1)) mark.2.1 N) c).2^^^(comb (eqs (ms.map (·.2.2)) mark.2.2 N) (c / 2^N)).2=1:=congrArg Prod.snd h
  rw[Z9p,Z9p,hd,xor01 (q1v _ (by decide)) (q1v _ (by decide))] at h2
  unfold comm
  show (pc (c / 2^N&&&mark.2.2)+pc (c%2^N&&&mark.2.1))%2=1
  omega
 ·intro m hm
  obtain⟨j,hj,rfl⟩:=q2i.mp hm
  have h1:(comb (eqs (ms.map (·.2.1)) mark.2.1 N) c).1^^^(comb (eqs (ms.map (·.2.2)) mark.2.2 N) (c / 2^N)).1=0:=congrArg Prod.fst h
  have h3:bit ((comb (eqs (ms.map (·.2.1)) mark.2.1 N) c).1^^^(comb (eqs (ms.map (·.2.2)) mark.2.2 N) (c / 2^N)).1) j=bit 0 j:=by rw[h1]
  rw[M54.Z2e,Z9q _ _ _ _ (by rw[q0a];exact hj),Z9q _ _ _ _ (by rw[q0a];exact hj),hd,Z2g] at h3
  have e1:(ms.map (·.2.1)).getD j 0=ms[j].2.1:=by rw[q0b,q0c,q0d hj];rfl
  have e2:(ms.map (·.2.2)).getD j 0=ms[j].2.2:=by rw[q0b,q0c,q0d hj];rfl
  rw[e1,e2] at h3
  unfold comm
  show (pc (c / 2^N&&&ms[j].2.2)+pc (c%2^N&&&ms[j].2.1))%2=0
  omega
theorem sc_madeof:FnScope ["rows","mark","cells","flips","signs","told","numbers","made"] ["rows","mark","cells"] (Z0i (top 48)):=fS
theorem Y8l (F:FunAt K "made_of" (top 48) .none)(X:K.In h)(G:Ng h mg)(B:Bs mg)(d8:Cal P w K mg base k "rows_with" ["rows","part","cell"] (Z7t K))(eU:Cal P w K mg base k "solved" ["equations"] (Y3l K))
  (eD:Cal P w K mg base k "apart_by" ["numbers","cells"] (Y7g K)) (e8:Cal P w K mg base k "product_of" ["marks"] (Z6q K)):Cal P w K mg base (k+1) "made_of" ["rows","mark","cells"] (Z8q K):=by
 have nd:=sc_madeof.nd
 refine F.cal X G sc_madeof (bnd3 λ_ _ _ _ _ _ _ _ _=>rfl) (λvs H Q E h=>?_) (λf cdv A outer s H vs Q E hr h=>?_)
 ·obtain⟨l,pm,ps,ms,mark,N,rfl,_⟩:=h;rfl
 obtain⟨l,pm,ps,ms,mark,N,rfl,hS,hm,hpm,hN,h12,oks,okk,kq⟩:=h
 have hlen:=hm.length
 refine⟨_,(@Z0e _ _ _ _ _ (Z3h (i:=3) rfl nd rfl rfl (LcOk.of (Nc:=["cell","rows","mark"]) (mp:=[none,some 0,some 1]) (by kernel_rfl)) (Z0y rfl B.range (Z0a (pv 2) Z0d)) (λ_ _ _ _=>(Z0p (i:=0) (show (["cell","rows","mark"]:W0).Nodup by decide +kernel) rfl (Or.inl rfl))) (λ_ _ _ _=>(@Z1a _ _ _ _ _ (Z0a (Z0l d8 hr rfl (Z0a (pv 1) (Z0a Z0b (Z0a (pv 0) Z0d)))) (Z0a (Z0h Z1d (Z0h Z4e (Z0m Z4p (pv 2) Z0b (λ_ _=>rfl)) (pv 0)) Z0b) Z0d)))) rfl)
  (@Z0e _ _ _ _ _ (Z3h (i:=4) rfl nd rfl rfl (LcOk.of (Nc:=["cell","rows","mark"]) (mp:=[none,some 0,some 1]) (by kernel_rfl)) (Z0y rfl B.range (Z0a (pv 2) Z0d)) (λ_ _ _ _=>(Z0p (i:=0) (show (["cell","rows","mark"]:W0).Nodup by decide +kernel) rfl (Or.inl rfl))) (λ_ _ _ _=>(@Z1a _ _ _ _ _ (Z0a (Z0l d8 hr rfl (Z0a (pv 1) (Z0a Z0b (Z0a (pv 0) Z0d)))) (Z0a (Z0h Z1d (Z0h Z4e (Z0m Z4p (pv 2) Z0b (λ_ _=>rfl)) (pv 0)) Z0b) Z0d)))) rfl)
  (@Z0e _ _ _ _ _ (@Z0q _ _ 5 _ _ _ _ nd rfl (Or.inr rfl) (Z0l eU hr rfl (Z0a (Z0h X4u (pv 3) (pv 4)) Z0d)) rfl (.inl rfl))
  (@Z0e _ _ _ _ _ (Z0w (Z0n X4t (Z0m Z0j (pv 5) Z0b (λ_ _=>rfl)) Z6z (nomark _))
   (@Z0f _ _ _ (Z0k (@Z1a _ _ _ _ _ (Z0a Z1l (Z0a (Z0l eD hr rfl (Z0a (Z0m Z0j (pv 5) Z0b (λ_ _=>rfl)) (Z0a (pv 2) Z0d))) Z0d)))))
   Z0o)
  (@Z0e _ _ _ _ _ (Z4y (i:=6) rfl nd rfl rfl (LcOk.of (Nc:=["place","told"]) (mp:=[none,some 5]) (by kernel_rfl)) (Z0y rfl B.range (Z0a (Z0r Z0u rfl B.len q1h (Z0a (pv 0) Z0d)) Z0d)) (λ_ _ _ _=>(Z0p (i:=0) (show (["place","told"]:W0).Nodup by decide +kernel) rfl (Or.inl rfl))) (λ_ _ _ _=>(Z2m (Z0h Z1d (Z0h Z4e (Z0m Z4p (pv 1) Z0b (λ_ _=>rfl)) (pv 0)) Z0b) (by intro _;rfl))) (λ_ _ _ _=>(pv 0)) rfl)
  (@Z0e _ _ _ _ _ (@Z0q _ _ 7 _ _ _ _ nd rfl (Or.inl rfl) (Z0l e8 hr rfl (Z0a (Z3k rfl (LcOk.of (Nc:=["place","rows"]) (mp:=[none,some 0]) (by kernel_rfl)) (Z1e (pv 6)) (λ_ _ _ _=>(Z0p (i:=0) (show (["place","rows"]:W0).Nodup by decide +kernel) rfl (Or.inl rfl))) (λ_ _ _ _=>(Z0m Z9h (pv 1) (pv 0) (λ_ _=>rfl)))) Z0d)) rfl (.inl rfl))
  (@Z0f _ _ _ (Z0k (@Z1a _ _ _ _ _ (Z0a Z1l (Z0a (Z0h Z0v (Z0h Z1z (Z0m Z0j (pv 1) Z0b (λ_ _=>rfl)) (Z0m Z0j (pv 7) Z0b (λ_ _=>rfl))) Z0b) (Z0a (pv 6) Z0d)))))))))))),?_⟩
 try dsimp only[cxK]
 refine⟨_,Z,_,Z,by omega,by omega,λa1 ha1=>?_⟩
 rw[q0v]
 refine Z4i (n:=N) (fr:=[some (.ref l),some (.ref pm)]) (λi ys H'=>Same H H'/\H' a1=some (.lst ys)/\∃ qs:List Addr,ys=qs.map V.ref/\Eqs H' qs (eqs (ms.map (·.2.1)) mark.2.1 i)) (s64 (by omega)) ⟨Z0g ha1 _,Z0c,[],Z,.nil⟩ ?_ ?_
 ·rintro i ys H2 NN hi hl ⟨s2,c2,qs,rfl,hq⟩ kN
  have e0:(0:Int)+(i:Int)=(i:Int):=q2p _
  refine⟨_,Z,_,Z,l,ps,ms,1,_,i,(by rw[e0];rfl),s2.seq hS,hm.same s2,by omega,.inl ⟨Z,Z⟩,λH3 s3=>?_⟩
  have S3:SqT K H3 pm (L3 mark):=SqT.of (s3 _ _ (s2 _ _ hpm))
  have e1:(mark.2.1:Int) / 2^(0+(i:Int)).toNat=((mark.2.1 / 2^i:Nat):Int):=by rw[e0,q0v];simp
  refine⟨_,Z,pm,_,_,_,Z,Z,S3,Z,_,Z,_,_,Z,Z,by omega,_,_,Z,Z,t2,λr hr=>?_⟩
  have sr:=Z0g hr (.tup [.int (Wm (ms.map (·.2.1)) i (ms.map (·.2.1)).length:Nat),.int (Builtin.bitAnd ((mark.2.1:Int) / 2^(0+(i:Int)).toNat) 1)])
  have hn:a1≠r:=Z1w (s3 _ _ c2) hr
  refine kN _ _ (sr _ _ (s3 _ _ c2)) ⟨Z0s ((s2.trans s3).trans sr) ha1,Z0c,qs++[r],by rw[q0i];rfl,?_⟩
  rw[Z6h]
  refine Paired.snoc (((hq.same s3).same sr).upd (sr _ _ (s3 _ _ c2))) ?_
  rw[Z0x (Ne.symm hn),Z0c]
  show some (HO.tup [.int _,.int (Builtin.bitAnd ((mark.2.1:Int) / 2^(0+(i:Int)).toNat) 1)])=_
  rw[e1,Z7d]
  rfl
 rintro ys H1 hl1 ⟨S1,c1,qs1,rfl,hq1⟩
 refine⟨_,Z,_,Z,by omega,by omega,λa2 ha2=>?_⟩
 rw[q0v]
 refine Z4i (n:=N) (fr:=[some (.ref l),some (.ref pm)]) (λi ys H'=>Same H1 H'/\H' a2=some (.lst ys)/\∃ qs:List Addr,ys=qs.map V.ref/\Eqs H' qs (eqs (ms.map (·.2.2)) mark.2.2 i)) (s64 (by omega)) ⟨Z0g ha2 _,Z0c,[],Z,.nil⟩ ?_ ?_
 ·rintro i ys H2 NN hi hl ⟨s2,c2,qs,rfl,hq⟩ kN
  have e0:(0:Int)+(i:Int)=(i:Int):=q2p _
  refine⟨_,Z,_,Z,l,ps,ms,2,_,i,(by rw[e0];rfl),s2.seq (S1.seq hS),(hm.same S1).same s2,by omega,.inr ⟨Z,Z⟩,λH3 s3=>?_⟩
  have S3:SqT K H3 pm (L3 mark):=SqT.of (s3 _ _ (s2 _ _ (S1 _ _ hpm)))
  have e1:(mark.2.2:Int) / 2^(0+(i:Int)).toNat=((mark.2.2 / 2^i:Nat):Int):=by rw[e0,q0v];simp
  refine⟨_,Z,pm,_,_,_,Z,Z,S3,Z,_,Z,_,_,Z,Z,by omega,_,_,Z,Z,t2,λr hr=>?_⟩
  have sr:=Z0g hr (.tup [.int (Wm (ms.map (·.2.2)) i (ms.map (·.2.2)).length:Nat),.int (Builtin.bitAnd ((mark.2.2:Int) / 2^(0+(i:Int)).toNat) 1)])
  have hn:a2≠r:=Z1w (s3 _ _ c2) hr
  refine kN _ _ (sr _ _ (s3 _ _ c2)) ⟨Z0s ((s2.trans s3).trans sr) ha2,Z0c,qs++[r],by rw[q0i];rfl,?_⟩
  rw[Z6h]
  refine Paired.snoc (((hq.same s3).same sr).upd (sr _ _ (s3 _ _ c2))) ?_
  rw[Z0x (Ne.symm hn),Z0c]
  show some (HO.tup [.int _,.int (Builtin.bitAnd ((mark.2.2:Int) / 2^(0+(i:Int)).toNat) 1)])=_
  rw[e1,Z7d]
  rfl
 rintro ys H2 hl2 ⟨S2,c2,qs2,rfl,hq2⟩
 have S12:=S1.trans S2
 have lq1:=hq1.length
 have lq2:=hq2.length
 rw[Z5r] at lq1 lq2
 refine⟨_,Z,_,Z,a1,a2,_,_,Z,Z,S2 _ _ c1,c2,(by rw[q0a,q0a];exact s64 (by omega)),λcl hcl=>?_⟩
 have S3:=Z0g hcl (.lst (qs1.map V.ref++qs2.map V.ref))
 refine⟨cl,qs1++qs2,both ms mark N,Z,?_,?_,X0s h12,by rw[Y5d];omega,λrt H4 S4 told=>?_⟩
 ·rw[q0i];exact SqL.of Z0c
 ·exact Z7a ((hq1.same S2).same S3) (hq2.same S3)
 have SS:=S12.trans (S3.trans S4)
 rcases told with ⟨x,hr,hs⟩ | ⟨c,q,hr,hq,clt,hc⟩
 ·have ST:SqT K H4 rt [.int x,.non]:=SqT.of hr
  refine⟨_,Z,rt,_,_,_,Z,Z,ST,Z,Z,_,Z,blI (λz=>absurd (q1u z) (by intro z;cases z)) (λ_=>?_)⟩
  have lm:(ps.map V.ref).length=ms.length:=by rw[q0a,hlen]
  refine⟨_,Z,l,_,Z,.inl (SS.seq hS),_,Z,by omega,by omega,λa5 ha5=>?_⟩
  rw[q0v,lm]
  refine Z5e (n:=ms.length) (fr:=[some (.ref rt)]) (λi ys H'=>Same H4 H'/\H' a5=some (.lst ys)/\ys=(places x i).map λp=>V.int (p:Nat)) (s64 (by omega)) ⟨Z0g ha5 _,Z0c,Z⟩ ?_ (λhm z=>?_) ?_
  ·rintro i ys H5 NN hi hl ⟨s5,c5,rfl⟩ kN
   have e0:(0:Int)+(i:Int)=(i:Int):=q2p _
   have e1:(x:Int) / 2^(0+(i:Int)).toNat=((x / 2^i:Nat):Int):=by rw[e0,q0v];simp
   refine⟨_,Z,rt,_,_,_,Z,Z,SqT.of (s5 _ _ hr),Z,_,Z,_,_,Z,Z,by omega,_,_,Z,Z,_,Z,?_⟩
   have pss:=Z3a x i
   show NN (Builtin.bitAnd ((x:Int) / 2^(0+(i:Int)).toNat) 1 != 0) H5
   rw[e1,Z7d]
   refine kN _ _ (λhb1=>?_) (λhb0=>?_)
   ·have h1:x / 2^i%2=1:=by
     have:x / 2^i%2≠0:=λz=>by rw[z] at hb1;cases hb1
     omega
    rw[if_pos h1] at pss
    refine⟨_,Z,c5,Z0s s5 ha5,Z0c,?_⟩
    rw[pss,q0i,e0]
    rfl
   ·have h0:¬ x / 2^i%2=1:=λz=>by rw[z] at hb0;cases hb0
    rw[if_neg h0,q4g] at pss
    exact⟨s5,c5,by rw[pss]⟩
  ·obtain⟨v,e,qq⟩:=z
   exact⟨v,e,hm _ _ qq⟩
  rintro ys H5 ⟨S5,c5,rfl⟩
  have S05:=SS.trans S5
  have em:((places x ms.length).map λp=>V.int (p:Nat))=((places x ms.length).map λp=>((p:Nat):Int)).map V.int:=by rw[q2v];rfl
  have c5':=c5
  rw[em] at c5'
  have plen:(places x ms.length).length<=12:=q1i (q4t _ _) (by rw[q7k];exact h12)
  refine⟨_,Z,a5,Z,⟨_,SqL.of c5'⟩,λa6 ha6=>?_⟩
  refine X3b (ns:=(places x ms.length).map λp=>((p:Nat):Int)) (fr:=[some (.ref l)]) (λz=>.ref (ps.getD z.toNat 0)) (SqL.of c5') (by rw[q0a];exact s64 (by omega)) ha6 (λz H6 NN hz s6 kN=>?_) ?_
  ·obtain⟨p,hp,rfl⟩:=q1q.mp hz
   obtain⟨pa,e1,_⟩:=hm.at (Z4b hp)
   have eg:ps.getD p 0=pa:=by rw[q0b,e1];rfl
   refine⟨_,Z,_,Z,l,_,_,_,Z,Z,s6.seq (S05.seq hS),Z3m (v:=.ref pa) (by rw[q0c,e1];rfl),?_⟩
   rw[q0v,eg] at kN
   exact kN
  intro H6 S6 c6
  have S06:=S05.trans S6
  refine⟨a6,(places x ms.length).map (λp=>ps.getD p 0),chosen ms x ms.length,Z,?_,(hm.same S06).pick _ (λp hp=>Z4b hp),λrp H7 S7 sp=>?_⟩
  ·rw[q2v] at c6
   rw[q2v]
   exact SqL.of c6
  have S07:=S06.trans S7
  have SM:SqT K H7 pm (L3 mark):=SqT.of (S07 _ _ hpm)
  have pq:=Y2a (chosen ms x ms.length) (0,0,0) (by decide)
  have bs:=X3v oks okk hs
  have qk:=okk.q
  refine⟨_,Z,pm,_,_,_,Z,Z,SM,Z,_,Z,rp,_,_,_,Z,Z,sp,Z,_,_,Z,Z,_,_,Z,Z,Z3i,_,Z,t3,λr hr7=>?_⟩
  have e7:(((mark.1:Int)-((prod (chosen ms x ms.length)).1:Nat))%4)=(((((mark.1:Int)-((prod (chosen ms x ms.length)).1:Nat))%4).toNat:Nat):Int):=by omega
  refine kq r _ (S07.trans (Z0g hr7 _)) (.inl ⟨(((mark.1:Int)-((prod (chosen ms x ms.length)).1:Nat))%4).toNat,x,a5,SS.free ha5,?_,Z0g hr7 _ _ _ (S7 _ _ (S6 _ _ c5)),by omega,?_⟩)
  ·rw[Z0c]
   show some (HO.tup [.str "made",.int (((mark.1:Int)-((prod (chosen ms x ms.length)).1:Nat))%4),.ref a5])=_
   rw[<-e7]
  ·rw[Z5j (by omega),bs]
   have pq':(prod (chosen ms x ms.length)).1<4:=pq
   refine Prod.ext ?_ rfl
   show ((((mark.1:Int)-((prod (chosen ms x ms.length)).1:Nat))%4).toNat+(prod (chosen ms x ms.length)).1)%4=mark.1
   omega
 ·have ST:SqT K H4 rt [.non,.ref q]:=SqT.of hr
  rw[Y5d] at clt
  refine⟨_,Z,rt,_,_,_,Z,Z,ST,Z,Z,_,Z,iteT ?_⟩
  refine⟨_,Z,rt,_,_,_,Z,Z,ST,Z,_,Z,q,c,N,Z,SqL.of hq,hN,clt,λra H5 S5 ha=>⟨t2,λr hr5=>?_⟩⟩
  obtain⟨b1,b2⟩:=Y6f clt hc
  refine kq r _ ((SS.trans S5).trans (Z0g hr5 _)) (.inr ⟨ra,_,Z0c,Z0g hr5 _ _ _ ha,⟨q1v _ (by decide),?_,q1v _ (q0o N)⟩,?_,b1,b2⟩)
  ·rw[q6a] at clt;exact Nat.div_lt_of_lt_mul clt
  ·show (pc (c / 2^N&&&c%2^N)%4+pc (c / 2^N&&&c%2^N))%2=0
   omega
theorem X5a (K:U0):PySem.W.kitOne K (.type "list") (.type "list")=some true:=by unfold PySem.W.kitOne;rw[if_pos (by decide)]
theorem Y4s (K:U0):PySem.W.kitOne K (.type "tuple") (.type "tuple")=some true:=by unfold PySem.W.kitOne;rw[if_pos (by decide)]
def Z3j:Sp:=λvs H Q _=>∃ i:Int,vs=[.int i]/\Q (.bl true) H
def Y0h (K:U0):Sp:=λvs H Q _=>∃ (p p':W9) (m m':Mk),vs=[.ref p,.ref p']/\SqT K H p (L3 m)/\SqT K H p' (L3 m')/\Q (.bl (decide (comm m m'=0))) H
end
end K63T
namespace M57
open Pc K51 M54
noncomputable def xs (fs:W3)(c:Nat->Bool):Nat->Nat
 | 0=>0
 | m+1=>if c m then xs fs c m^^^fs.getD m 0 else xs fs c m
theorem xs_X (fs:W3)(x:Nat):∀ m,Xm fs x m=xs fs (λj=>decide (bit x j=1)) m
 | 0=>rfl
 | m+1=>by
  unfold Xm xs
  rw[xs_X fs x m]
  by_cases h:bit x m=1<;>simp[h]
theorem Z8h {fs gs:W3}{c d:Nat->Bool}:∀ m,(∀ j,j<m->c j=d j/\fs.getD j 0=gs.getD j 0)->xs fs c m=xs gs d m
 | 0,_=>rfl
 | m+1,h=>by
  unfold xs
  rw[Z8h m λj hj=>h j (by omega),(h m (by omega)).1,(h m (by omega)).2]
noncomputable def fOf (ms:List Mk):List Nat:=ms.map (·.2.1)
noncomputable def sOf (ms:List Mk):List Nat:=ms.map (·.2.2)
def Indep (ms:List Mk):Prop:=∀ c:Nat->Bool,xs (fOf ms) c ms.length=0->xs (sOf ms) c ms.length=0->∀ j,j<ms.length->c j=false
theorem pcl (o a b:Nat):pc (o&&&(a^^^b))%2=(pc (o&&&a)+pc (o&&&b))%2:=by rw[q2g];exact pcx _ _
theorem Y9p {ms:List Mk}(I:Indep ms){x y:Nat}(hx:x<2^ms.length)(hy:y<2^ms.length)(hf:Xm (fOf ms) x ms.length=Xm (fOf ms) y ms.length)(hs:Xm (sOf ms) x ms.length=Xm (sOf ms) y ms.length):x=y:=by
 have lin:∀ (fs:W3) m,Xm fs (x^^^y) m=Xm fs x m^^^Xm fs y m:=by
  intro fs m
  induction m with
  | zero=>show 0=0^^^0;simp
  | succ m ih =>
   have b:=M54.Z2e m x y
   have bx:=Z1o x m
   have b2:=Z1o y m
   unfold Xm
   rw[ih,b]
   rcases (by omega:bit x m=0∨bit x m=1) with z | z<;>rcases (by omega:bit y m=0∨bit y m=1) with u | u<;>rw[z,u]
   ·simp
   ·simp[q1t]
   ·simp only[show (1+0)%2=1 from rfl,q5f,show ¬ (0=1) by decide,q4o]
    rw[q1t,q1t,q3o (Xm fs y m)]
   ·simp only[show ¬ ((1+1)%2=1) by decide,q5f,q4o]
    rw[q1t,q3o (Xm fs y m) (fs.getD m 0),<-q1t (fs.getD m 0),q3n,Nat.zero_xor]
 have zf:Xm (fOf ms) (x^^^y) ms.length=0:=by rw[lin,hf,q3n]
 have zs:Xm (sOf ms) (x^^^y) ms.length=0:=by rw[lin,hs,q3n]
 rw[xs_X] at zf zs
 refine Z2n ms.length x y hx hy λn hn=>?_
 have h0:=q4n (I _ zf zs n hn)
 have b:=M54.Z2e n x y
 have b1:=Z1o x n
 have b2:=Z1o y n
 omega
theorem Y2b {x y:Nat}(m:Nat)(h:∀ n,n<m->bit x n=bit y n):places x m=places y m:=by
 unfold places
 refine List.filter_congr λp hp=>?_
 have:=h p (q1o.mp hp)
 unfold bit at this
 simp only[this]
theorem Y2t (ms:List Mk){x y:Nat}(m:Nat)(h:∀ n,n<m->bit x n=bit y n):chosen ms x m=chosen ms y m:=by
 unfold chosen
 rw[Y2b m h]
theorem X0t (x m:Nat){n:Nat}(h:n<m):bit (x%2^m) n=bit x n:=by
 have t:=Nat.testBit_mod_two_pow x m n
 rw[q2k,q2k,q1f h,Bool.true_and,q7r] at t
 have a:=Z1o (x%2^m) n
 have b:=Z1o x n
 unfold bit at *
 omega
theorem Z2o (ms:List Mk)(x m:Nat):chosen ms (x%2^m) m=chosen ms x m:=Y2t ms m λn hn=>X0t x m hn
theorem Z2h (ms:List Mk){x i:Nat}(h:x<2^i):∀ d,chosen ms x (i+d)=chosen ms x i
 | 0=>rfl
 | d+1=>by
  rw[<-Nat.add_assoc,Z2b,if_neg (by rw[Z5s h (by omega)];decide),q4g]
  exact Z2h ms h d
noncomputable def E (ms:List Mk)(x:Nat):Mk:=prod (chosen ms x ms.length)
theorem W2p (ms:List Mk)(x:Nat):E ms (x%2^ms.length)=E ms x:=by unfold E;rw[Z2o]
theorem Z8g (ms:List Mk):E ms 0=(0,0,0):=by
 unfold E
 have:=Z2h ms (x:=0) (i:=0) (by decide) ms.length
 rw[q2u] at this
 rw[this]
 rfl
theorem X5r (ms:List Mk){x i:Nat}(hx:x<2^i)(hi:i<ms.length):E ms (x+2^i)=mul (E ms x) (ms.getD i (0,0,0)):=by
 obtain⟨d,hd⟩:∃ d,ms.length=i+1+d:=⟨ms.length-(i+1),by omega⟩
 have lt:x+2^i<2^(i+1):=by rw[q4r];omega
 have b1:bit (x+2^i) i=1:=by
  unfold bit
  rw[q7j _ (q0o i),q3u hx]
 have lo:chosen ms (x+2^i) i=chosen ms x i:=by
  rw[<-Z2o,q7i,q2h hx]
 have e1:chosen ms (x+2^i) ms.length=chosen ms x i++[ms.getD i (0,0,0)]:=by
  rw[hd,Z2h ms lt d,Z2b,if_pos b1,lo]
 have e2:chosen ms x ms.length=chosen ms x i:=by
  rw[hd,Nat.add_assoc]
  exact Z2h ms hx _
 unfold E
 rw[e1,e2]
 unfold prod
 rw[q3r]
 rfl
theorem W2o (ms:List Mk){i:Nat}(hi:i<ms.length)(q:(ms.getD i (0,0,0)).1<4):E ms (2^i)=ms.getD i (0,0,0):=by
 have:=X5r ms (x:=0) (q0o i) hi
 rw[q2u,Z8g] at this
 rw[this]
 revert q
 generalize ms.getD i (0,0,0)=z
 obtain⟨a,b,c⟩:=z
 intro q
 unfold mul
 simp[Z1s,q2h q]
theorem Y2y {ms:List Mk}(I:Indep ms){x y:Nat}(hx:x<2^ms.length)(hy:y<2^ms.length)(h:(E ms x).2=(E ms y).2):x=y:=by
 refine Y9p I hx hy ?_ ?_
 ·have:=congrArg Prod.fst h
  unfold E at this
  rw[Z7x,Z7x] at this
  exact this
 ·have:=congrArg Prod.snd h
  unfold E at this
  rw[Z7w,Z7w] at this
  exact this
def In (ms:List Mk)(m:Mk):Prop:=∃ x,x<2^ms.length/\E ms x=m
theorem W3x {ms:List Mk}{m:Mk}{x:Nat}(h:(chosen ms x ms.length).foldl mul (0,0,0)=m):In ms m:=⟨x%2^ms.length,q1v _ (q0o _),by rw[W2p];exact h⟩
theorem fget (ms:List Mk)(j:Nat):(fOf ms).getD j 0=(ms.getD j (0,0,0)).2.1:=by
 unfold fOf
 rw[q0b,q0b,q0c]
 cases ms[j]?<;>rfl
theorem sget (ms:List Mk)(j:Nat):(sOf ms).getD j 0=(ms.getD j (0,0,0)).2.2:=by
 unfold sOf
 rw[q0b,q0b,q0c]
 cases ms[j]?<;>rfl
end M57
namespace M53
open Pc K51 M54 M57
structure IsLd (v n:Nat):Prop where
 one:bit v n=1
 low:∀ m,m<n->bit v m=0
theorem IsLd.uniq {v n n':Nat}(h:IsLd v n)(h':IsLd v n'):n=n':=by
 rcases q7h n n' with lt | e | lt
 ·have:=h'.low n lt
  rw[h.one] at this
  cases this
 ·exact e
 ·have:=h.low n' lt
  rw[h'.one] at this
  cases this
structure Red (vs ls:W3):Prop where
 len:ls.length=vs.length
 ld:∀ i,i<vs.length->IsLd (vs.getD i 0) (ls.getD i 0)
 off:∀ i j,i<vs.length->j<vs.length->i≠j->bit (vs.getD i 0) (ls.getD j 0)=0
 rise:ls.Pairwise (·<·)
theorem Z8z {vs ls:W3}(R:Red vs ls)(c:Nat->Bool){j:Nat}(hj:j<vs.length):∀ m,m<=vs.length->bit (xs vs c m) (ls.getD j 0)=if j<m/\c j=true then 1 else 0
 | 0,_=>by unfold xs;rw[Z2g];simp
 | m+1,hm=>by
  have ih:=Z8z R c hj m (by omega)
  unfold xs
  by_cases e:j=m
  ·subst e
   rw[if_neg (by omega)] at ih
   cases hc:c j
   ·simp only[q3z,q4o,and_false]
    exact ih
   ·simp only[q5f,and_true]
    rw[M54.Z2e,ih,(R.ld j hj).one,if_pos (by omega)]
  ·have off:=R.off m j (by omega) hj (Ne.symm e)
   have lt:(j<m+1/\c j=true) ↔ (j<m/\c j=true):=by constructor<;>rintro ⟨a,b⟩<;>exact⟨by omega,b⟩
   simp only[lt]
   split
   ·rw[M54.Z2e,ih,off]
    split<;>rfl
   ·exact ih
theorem Y1r {vs:W3}{c:Nat->Bool}{n:Nat}:∀ m,bit (xs vs c m) n=1->∃ i,i<m/\c i=true/\bit (vs.getD i 0) n=1
 | 0,h=>by unfold xs at h;rw[Z2g] at h;cases h
 | m+1,h=>by
  unfold xs at h
  by_cases hc:c m=true
  ·rw[if_pos hc,M54.Z2e] at h
   have b:=Z1o (vs.getD m 0) n
   by_cases e:bit (vs.getD m 0) n=1
   ·exact⟨m,by omega,hc,e⟩
   ·have a:=Z1o (xs vs c m) n
    have a1:bit (xs vs c m) n=1:=by omega
    obtain⟨i,hi,x,y⟩:=Y1r m a1
    exact⟨i,by omega,x,y⟩
  ·rw[if_neg hc] at h
   obtain⟨i,hi,x,y⟩:=Y1r m h
   exact⟨i,by omega,x,y⟩
theorem X1p {vs ls:W3}(R:Red vs ls){c:Nat->Bool}{n:Nat}(h:IsLd (xs vs c vs.length) n):∃ i,i<vs.length/\ls.getD i 0=n:=by
 obtain⟨i,hi,hc,hb⟩:=Y1r _ h.one
 refine⟨i,hi,?_⟩
 have b:=Z8z R c hi vs.length (q0g _)
 rw[if_pos ⟨hi,hc⟩] at b
 rcases q7h (ls.getD i 0) n with lt | e | lt
 ·rw[h.low _ lt] at b;cases b
 ·exact e
 ·have:=(R.ld i hi).low n lt
  rw[hb] at this
  cases this
theorem Y7p:∀ {l r:W3},l.Pairwise (·<·)->r.Pairwise (·<·)->(∀ x,x∈l ↔ x∈r)->l=r
 | [],[],_,_,_=>rfl
 | [],y::r,_,_,h=>by have:=(h y).mpr q1r;cases this
 | x::l,[],_,_,h=>by have:=(h x).mp q1r;cases this
 | x::l,y::r,hl,hr,h=>by
  have hl':=q3y.mp hl
  have hr':=q3y.mp hr
  have exy:x=y:=by
   rcases q0t.mp ((h x).mp q1r) with e | m
   ·exact e
   ·rcases q0t.mp ((h y).mpr q1r) with e | m'
    ·exact e.symm
    ·have a:=hr'.1 x m
     have b:=hl'.1 y m'
     omega
  subst exy
  rw[Y7p hl'.2 hr'.2 λz=>⟨λm=>?_,λm=>?_⟩]
  ·rcases q0t.mp ((h z).mp (q1n _ m)) with e | q
   ·have:=hl'.1 z m;omega
   ·exact q
  ·rcases q0t.mp ((h z).mpr (q1n _ m)) with e | q
   ·have:=hr'.1 z m;omega
   ·exact q
theorem Y9v {l:W3}{i:Nat}(h:i<l.length):l.getD i 0∈l:=by rw[q0b,q0d h];exact q3v h
theorem mem_getD {l:W3}{x:Nat}(h:x∈l):∃ i,i<l.length/\l.getD i 0=x:=by
 obtain⟨i,hi,e⟩:=q2i.mp h
 exact⟨i,hi,by rw[q0b,q0d hi];exact e⟩
def Spans (vs ws:W3):Prop:=∀ i,i<ws.length->∃ c,ws.getD i 0=xs vs c vs.length
theorem Y0v {vs ws ls ks:W3}(R:Red vs ls)(S:Red ws ks)(h:Spans vs ws):∀ x,x∈ks->x∈ls:=by
 intro x hx
 obtain⟨i,hi,e⟩:=mem_getD hx
 rw[S.len] at hi
 obtain⟨c,hc⟩:=h i hi
 have ld:=S.ld i hi
 rw[hc,e] at ld
 obtain⟨j,hj,ej⟩:=X1p R ld
 rw[<-ej]
 exact Y9v (by rw[R.len];exact hj)
theorem X1o {vs ws ls ks:W3}(R:Red vs ls)(S:Red ws ks)(h:Spans vs ws)(h':Spans ws vs):vs=ws:=by
 have el:ls=ks:=Y7p R.rise S.rise λx=>⟨Y0v S R h' x,Y0v R S h x⟩
 subst el
 have len:vs.length=ws.length:=by rw[<-R.len,S.len]
 have pt:∀ i,i<ws.length->ws.getD i 0=vs.getD i 0:=λi hi=>by
  obtain⟨c,hc⟩:=h i hi
  have hi':i<vs.length:=by omega
  have only:∀ j,j<vs.length->c j=decide (j=i):=λj hj=>by
   have b:=Z8z R c hj vs.length (q0g _)
   rw[<-hc] at b
   by_cases e:j=i
   ·subst e
    rw[(S.ld j hi).one] at b
    split at b
    ·rename_i z;rw[z.2,q1f rfl]
    ·cases b
   ·rw[S.off i j hi (by omega) (Ne.symm e)] at b
    split at b
    ·cases b
    ·rename_i z
     rw[q0w e]
     cases hcj:c j
     ·rfl
     ·exact absurd ⟨hj,hcj⟩ z
  have one:∀ m,m<=vs.length->xs vs c m=if i<m then vs.getD i 0 else 0:=by
   intro m
   induction m with
   | zero=>intro _;rfl
   | succ m ih =>
    intro hm
    unfold xs
    rw[ih (by omega),only m (by omega)]
    by_cases e:m=i
    ·subst e;simp
    ·by_cases lt:i<m
     ·simp[e,lt,show i<m+1 by omega]
     ·simp[e,lt,show ¬ i<m+1 by omega]
  rw[hc,one _ (q0g _),if_pos hi']
 refine q5e len λi h1 h2=>?_
 have:=pt i h2
 rw[q0b,q0b,q0d h1,q0d h2] at this
 exact this.symm
noncomputable def cm (a b:Mk):Nat:=(pc (a.2.1&&&b.2.2)+pc (a.2.2&&&b.2.1))%2
def ev (a:Mk):Prop:=(a.1+pc (a.2.1&&&a.2.2))%2=0
theorem mul_assoc (a b c:Mk):mul (mul a b) c=mul a (mul b c):=by
 have h1:=pcx (a.2.2&&&c.2.1) (b.2.2&&&c.2.1)
 have h2:=pcx (a.2.2&&&b.2.1) (a.2.2&&&c.2.1)
 rw[<-q3e] at h1
 rw[<-q2g] at h2
 unfold mul
 refine Prod.ext ?_ (Prod.ext (q1t _ _ _) (q1t _ _ _))
 show ((a.1+b.1+2*pc (a.2.2&&&b.2.1))%4+c.1+2*pc ((a.2.2^^^b.2.2)&&&c.2.1))%4=(a.1+(b.1+c.1+2*pc (b.2.2&&&c.2.1))%4+2*pc (a.2.2&&&(b.2.1^^^c.2.1)))%4
 omega
theorem mul_comm {a b:Mk}(h:cm a b=0):mul a b=mul b a:=by
 unfold cm at h
 unfold mul
 refine Prod.ext ?_ (Prod.ext (q3o _ _) (q3o _ _))
 show (a.1+b.1+2*pc (a.2.2&&&b.2.1))%4=(b.1+a.1+2*pc (b.2.2&&&a.2.1))%4
 rw[q3g b.2.2 a.2.1]
 omega
theorem mul_one {a:Mk}(h:a.1<4):mul a (0,0,0)=a:=by
 obtain⟨q,f,s⟩:=a
 unfold mul
 simp[Z1s,q2h h]
theorem one_mul {a:Mk}(h:a.1<4):mul (0,0,0) a=a:=by
 obtain⟨q,f,s⟩:=a
 unfold mul
 simp[Z1s,q2h h]
theorem Y4k {a:Mk}(h:ev a):mul a a=(0,0,0):=by
 unfold ev at h
 unfold mul
 rw[q3n,q3n,q3g]
 refine Prod.ext ?_ rfl
 show (a.1+a.1+2*pc (a.2.1&&&a.2.2))%4=0
 omega
theorem X0h (o a b:Mk):cm o (mul a b)=(cm o a+cm o b)%2:=by
 unfold cm mul
 show (pc (o.2.1&&&(a.2.2^^^b.2.2))+pc (o.2.2&&&(a.2.1^^^b.2.1)))%2=_
 rw[q2g,q2g]
 have h1:=pcx (o.2.1&&&a.2.2) (o.2.1&&&b.2.2)
 have h2:=pcx (o.2.2&&&a.2.1) (o.2.2&&&b.2.1)
 omega
theorem X0i (a b:Mk):cm a b=cm b a:=by
 unfold cm
 rw[q3g a.2.1,q3g a.2.2,q6g]
structure Nice (ms:List Mk):Prop where
 q:∀ m∈ms,m.1<4
 even:∀ m∈ms,ev m
 com:∀ m∈ms,∀ r∈ms,cm m r=0
def G (ms:List Mk)(m:Nat)(g:Mk):Prop:=∃ x,g=prod (chosen ms x m)
theorem G_lt {ms:List Mk}{m:Nat}{g:Mk}(h:G ms m g):g.1<4:=by
 obtain⟨x,rfl⟩:=h
 exact Y2a _ _ (by decide)
theorem G_up {ms:List Mk}{m:Nat}{g:Mk}(h:G ms m g):G ms (m+1) g:=by
 obtain⟨x,rfl⟩:=h
 refine⟨x%2^m,?_⟩
 rw[Z2h ms (q1v _ (q0o m)) 1,Z2o]
theorem X9d {ms:List Mk}{m:Nat}{g:Mk}(h:G ms m g):G ms (m+1) (mul g (ms.getD m (0,0,0))):=by
 obtain⟨x,rfl⟩:=h
 have hx:=q1v x (q0o m)
 refine⟨x%2^m+2^m,?_⟩
 have b1:bit (x%2^m+2^m) m=1:=by
  unfold bit
  rw[q7j _ (q0o m),q3u hx]
 rw[Z2b,if_pos b1,<-Z2o ms (x%2^m+2^m),q7i,Nat.mod_mod,Z2o]
 unfold prod
 rw[q3r]
 rfl
theorem Z7o {ms:List Mk}{m:Nat}{g:Mk}(h:G ms (m+1) g):G ms m g∨∃ g',G ms m g'/\g=mul g' (ms.getD m (0,0,0)):=by
 obtain⟨x,rfl⟩:=h
 rw[Z2b]
 split
 ·refine .inr ⟨_,⟨x,Z⟩,?_⟩
  unfold prod
  rw[q3r]
  rfl
 ·rw[q4g]
  exact .inl ⟨x,Z⟩
theorem gmem {ms:List Mk}{i:Nat}(h:i<ms.length):ms.getD i (0,0,0)∈ms:=by rw[q0b,q0d h];exact q3v h
theorem W2a (o:Mk):cm o (0,0,0)=0:=by unfold cm;simp[Z1s]
theorem Z9w {ms:List Mk}{o:Mk}(ho:∀ r∈ms,cm o r=0):∀ {m:Nat}{g:Mk},m<=ms.length->G ms m g->cm o g=0
 | 0,g,_,⟨x,e⟩=>by rw[e];exact W2a o
 | m+1,g,hm,h=>by
  rcases Z7o h with q | ⟨g',q,rfl⟩
  ·exact Z9w ho (by omega) q
  ·rw[X0h,Z9w ho (by omega) q,ho _ (gmem (by omega))]
theorem Y1q {ms:List Mk}(N:Nice ms):∀ {m:Nat}{g h:Mk},m<=ms.length->G ms m g->G ms m h->G ms m (mul g h)
 | 0,g,h,_,⟨x,e⟩,⟨y,e'⟩=>by
  have eg:g=(0,0,0):=e
  have eh:h=(0,0,0):=e'
  subst eg eh
  exact⟨0,one_mul (by decide)⟩
 | m+1,g,h,hm,hg,hh=>by
  have rm:=gmem (ms:=ms) (i:=m) (by omega)
  generalize er:ms.getD m (0,0,0)=r at *
  have up:∀ {z},G ms m z->G ms (m+1) (mul z r):=λq=>by rw[<-er];exact X9d q
  rcases Z7o hg with qg | ⟨g',qg,eg⟩<;>rcases Z7o hh with qh | ⟨h',qh,eh⟩
  ·exact G_up (Y1q N (by omega) qg qh)
  ·rw[er] at eh
   subst eh
   rw[<-mul_assoc]
   exact up (Y1q N (by omega) qg qh)
  ·rw[er] at eg
   subst eg
   have c:cm r h=0:=Z9w (N.com r rm) (by omega) qh
   rw[mul_assoc,mul_comm c,<-mul_assoc]
   exact up (Y1q N (by omega) qg qh)
  ·rw[er] at eg eh
   subst eg eh
   have c:cm r h'=0:=Z9w (N.com r rm) (by omega) qh
   have e:mul (mul g' r) (mul h' r)=mul g' h':=by
    rw[mul_assoc,<-mul_assoc r h' r,mul_comm c,mul_assoc h' r r,Y4k (N.even r rm),mul_one (G_lt qh)]
   rw[e]
   exact G_up (Y1q N (by omega) qg qh)
theorem in_G {ms:List Mk}{g:Mk}:In ms g ↔ G ms ms.length g:=by
 constructor
 ·rintro ⟨x,_,e⟩
  exact⟨x,e.symm⟩
 ·rintro ⟨x,e⟩
  exact W3x e.symm
theorem Y9q {ms:List Mk}(N:Nice ms){g h:Mk}(hg:In ms g)(hh:In ms h):In ms (mul g h):=in_G.mpr (Y1q N (q0g _) (in_G.mp hg) (in_G.mp hh))
theorem W1o (ms:List Mk):In ms (0,0,0):=⟨0,q0o _,Z8g ms⟩
theorem W1n {ms:List Mk}{i:Nat}(hi:i<ms.length)(q:(ms.getD i (0,0,0)).1<4):In ms (ms.getD i (0,0,0)):=⟨2^i,q2d (by decide) hi,W2o ms hi q⟩
theorem Y9r {ms:List Mk}(N:Nice ms):∀ {rs:List Mk}{g:Mk},(∀ r∈rs,In ms r)->In ms g->In ms (rs.foldl mul g)
 | [],_,_,h=>h
 | r::rs,g,hr,h=>Y9r (rs:=rs) N (λz hz=>hr z (q1n _ hz)) (Y9q N h (hr r q1r))
theorem Y6d {ms:List Mk}{x:Nat}{m:Mk}(h:m∈chosen ms x ms.length):m∈ms:=by
 obtain⟨p,hp,rfl⟩:=q1q.mp h
 exact gmem (Z4b hp)
theorem Z2k {ms rs:List Mk}(N:Nice ms)(h:∀ r∈rs,In ms r){g:Mk}(hg:In rs g):In ms g:=by
 obtain⟨x,_,rfl⟩:=hg
 exact Y9r N (λr hr=>h r (Y6d hr)) (W1o ms)
theorem W1p {ms:List Mk}{o g:Mk}(ho:∀ r∈ms,cm o r=0)(h:In ms g):cm o g=0:=Z9w ho (q0g _) (in_G.mp h)
theorem X8k {ms:List Mk}(I:Indep ms){g h:Mk}(hg:In ms g)(hh:In ms h)(e:g.2=h.2):g=h:=by
 obtain⟨x,hx,rfl⟩:=hg
 obtain⟨y,hy,rfl⟩:=hh
 rw[Y2y I hx hy e]
noncomputable abbrev z0:Mk:=(0,0,0)
noncomputable def vec (m:Mk):Nat:=m.2.1+64*m.2.2
structure V6 (m:Mk):Prop where
 f:m.2.1<2^6
 s:m.2.2<2^6
theorem V6.mul {a b:Mk}(ha:V6 a)(hb:V6 b):V6 (mul a b):=⟨q1c ha.f hb.f,q1c ha.s hb.s⟩
theorem Z2d {f s:Nat}(h:f<2^6)(n:Nat):bit (f+64*s) n=if n<6 then bit f n else bit s (n-6):=by
 have h':f<64:=h
 by_cases c:n<6
 ·rw[if_pos c]
  unfold bit
  have:n=0∨n=1∨n=2∨n=3∨n=4∨n=5:=by omega
  rcases this with rfl | rfl | rfl | rfl | rfl | rfl<;>simp only[Nat.reducePow]<;>omega
 ·rw[if_neg c]
  obtain⟨k,rfl⟩:∃ k,n=6+k:=⟨n-6,by omega⟩
  unfold bit
  rw[q6a,<-q5w,show (f+64*s) / 2^6=s by rw[show (2:Nat)^6=64 from rfl];omega,show 6+k-6=k by omega]
theorem Y1t {a b:Mk}(ha:V6 a)(hb:V6 b)(n:Nat):bit (vec (mul a b)) n=(bit (vec a) n+bit (vec b) n)%2:=by
 unfold vec
 rw[Z2d (ha.mul hb).f,Z2d ha.f,Z2d hb.f]
 unfold mul
 split
 ·exact M54.Z2e _ _ _
 ·exact M54.Z2e _ _ _
theorem Y9f (v:Nat):∀ N,(∃ n,n<N/\IsLd v n)∨∀ n,n<N->bit v n=0
 | 0=>.inr λn h=>absurd h (q1k _)
 | N+1=>by
  rcases Y9f v N with ⟨n,hn,l⟩ | h
  ·exact .inl ⟨n,by omega,l⟩
  ·have b:=Z1o v N
   by_cases e:bit v N=1
   ·exact .inl ⟨N,by omega,e,h⟩
   ·refine .inr λn hn=>?_
    by_cases en:n=N
    ·subst en;omega
    ·exact h n (by omega)
theorem X3l {m:Mk}(h:V6 m)(nz:m.2≠(0,0)):∃ n,n<12/\IsLd (vec m) n:=by
 rcases Y9f (vec m) 12 with q | q
 ·exact q
 ·exfalso
  refine nz (Prod.ext ?_ ?_)
  ·refine Z2n 6 _ _ h.f (by decide) λn hn=>?_
   have:=q n (by omega)
   unfold vec at this
   rw[Z2d h.f,if_pos hn] at this
   rw[this,Z2g]
  ·refine Z2n 6 _ _ h.s (by decide) λn hn=>?_
   have:=q (n+6) (by omega)
   unfold vec at this
   rw[Z2d h.f,if_neg (by omega),q5o] at this
   rw[this,Z2g]
noncomputable def wl (m r:Mk)(n:Nat):Mk:=if bit (vec m) n=1 then mul m r else m
theorem W1t {a b:Mk}(ha:ev a)(hb:ev b)(c:cm a b=0):ev (mul a b):=by
 unfold ev at *
 unfold cm at c
 unfold mul
 show ((a.1+b.1+2*pc (a.2.2&&&b.2.1))%4+pc ((a.2.1^^^b.2.1)&&&(a.2.2^^^b.2.2)))%2=0
 have h1:=pcx (a.2.1&&&(a.2.2^^^b.2.2)) (b.2.1&&&(a.2.2^^^b.2.2))
 rw[<-q3e] at h1
 have h2:=pcx (a.2.1&&&a.2.2) (a.2.1&&&b.2.2)
 rw[<-q2g] at h2
 have h3:=pcx (b.2.1&&&a.2.2) (b.2.1&&&b.2.2)
 rw[<-q2g] at h3
 rw[q3g a.2.2 b.2.1] at c
 omega
structure Tb (ms:List Mk):Prop where
 nice:Nice ms
 v6:∀ m∈ms,V6 m
 ind:Indep ms
theorem G_ev {ms:List Mk}(T:Tb ms):∀ {m:Nat}{g:Mk},m<=ms.length->G ms m g->ev g/\V6 g
 | 0,g,_,⟨x,e⟩=>by
  have:g=(0,0,0):=e
  subst this
  exact⟨by unfold ev;simp[Z1s],by decide,by decide⟩
 | m+1,g,hm,h=>by
  rcases Z7o h with q | ⟨g',q,rfl⟩
  ·exact G_ev T (by omega) q
  ·have rm:=gmem (ms:=ms) (i:=m) (by omega)
   have ih:=G_ev T (by omega:m<=ms.length) q
   refine⟨W1t ih.1 (T.nice.even _ rm) ?_,ih.2.mul (T.v6 _ rm)⟩
   rw[X0i]
   exact Z9w (T.nice.com _ rm) (by omega) q
theorem G_cm {ms:List Mk}(T:Tb ms){m n:Nat}{g h:Mk}(hm:m<=ms.length)(hn:n<=ms.length)(hg:G ms m g)(hh:G ms n h):cm g h=0:=by
 refine Z9w (λr hr=>?_) hn hh
 rw[X0i]
 exact Z9w (λr' hr'=>T.nice.com r hr r' hr') hm hg
theorem Y4l {a r:Mk}(ha:a.1<4)(hr:ev r):mul (mul a r) r=a:=by rw[mul_assoc,Y4k hr,mul_one ha]
structure Dn (ms:List Mk) (i:Nat) (D:List Mk) (ls:W3):Prop where
 len:D.length=i
 ll:ls.length=i
 g:∀ d∈D,G ms i d
 ld:∀ j,j<i->IsLd (vec (D.getD j z0)) (ls.getD j 0)
 off:∀ j k,j<i->k<i->j≠k->bit (vec (D.getD j z0)) (ls.getD k 0)=0
 back:∀ j,j<i->In D (ms.getD j z0)
theorem Dn.start (ms:List Mk):Dn ms 0 [] []:=⟨Z,Z,λd h=>(nomatch h),λj h=>absurd h (q1k _),λj k h=>absurd h (q1k _),λj h=>absurd h (q1k _)⟩
noncomputable def fr (D:List Mk)(ls:W3)(row:Mk):Nat->Mk
 | 0=>row
 | t+1=>wl (fr D ls row t) (D.getD t z0) (ls.getD t 0)
theorem Y5f {ms:List Mk}(T:Tb ms){n:Nat}(hn:n<=ms.length){D:List Mk}(h:∀ d∈D,G ms n d):Nice D :=
 ⟨λd hd=>G_lt (h d hd),λd hd=>(G_ev T hn (h d hd)).1,λd hd e he=>G_cm T hn hn (h d hd) (h e he)⟩
theorem Z5c {D:List Mk}(N:Nice D){d:Mk}(h:d∈D):In D d:=by
 obtain⟨i,hi,e⟩:=q2i.mp h
 have eg:D.getD i (0,0,0)=d:=by rw[q0b,q0d hi];exact e
 have:=W1n (ms:=D) hi (by rw[eg];exact N.q d h)
 rw[eg] at this
 exact this
structure Fr (ms:List Mk) (i:Nat) (D:List Mk) (ls:W3) (f:Mk) (t:Nat):Prop where
 g:∃ g,G ms i g/\f=mul g (ms.getD i z0)
 off:∀ k,k<t->bit (vec f) (ls.getD k 0)=0
 back:In (D++[f]) (ms.getD i z0)
theorem Fr.G {ms:List Mk}{i:Nat}{D:List Mk}{ls:W3}{f:Mk}{t:Nat}(F:Fr ms i D ls f t):G ms (i+1) f:=by
 obtain⟨g,hg,rfl⟩:=F.g
 exact X9d hg
theorem X8r {ms:List Mk}(T:Tb ms){i:Nat}{D:List Mk}{ls:W3}(hi:i<ms.length)(Q:Dn ms i D ls):∀ t,t<=i->Fr ms i D ls (fr D ls (ms.getD i z0) t) t
 | 0,_=>by
  have rm:=gmem (ms:=ms) hi
  have g0:G ms i z0:=⟨0,by
   have:=Z2h ms (x:=0) (i:=0) (by decide) i
   rw[q2u] at this
   rw[this];rfl⟩
  have hr:G ms (i+1) (ms.getD i z0):=by
   have:=X9d g0
   rw[one_mul (T.nice.q _ rm)] at this
   exact this
  refine⟨⟨z0,g0,(one_mul (T.nice.q _ rm)).symm⟩,λk h=>absurd h (q1k _),?_⟩
  refine Z5c (Y5f T (n:=i+1) (by omega) λd hd=>?_) (q0n _ (q0r.mpr rfl))
  rcases q1b.mp hd with q | q
  ·exact G_up (Q.g d q)
  ·rw[q0r.mp q];exact hr
 | t+1,ht=>by
  have ih:=X8r T hi Q t (by omega)
  have rm:=gmem (ms:=ms) hi
  have dm:D.getD t z0∈D:=gmem (by rw[Q.len];omega)
  have dg:=Q.g _ dm
  have de:=G_ev T (by omega) dg
  show Fr ms i D ls (wl (fr D ls (ms.getD i z0) t) (D.getD t z0) (ls.getD t 0)) (t+1)
  have fG:=ih.G
  have fe:=G_ev T (by omega) fG
  generalize fr D ls (ms.getD i z0) t=f at *
  have bt:=(Q.ld t (by omega)).one
  have offd:∀ k,k<t->bit (vec (D.getD t z0)) (ls.getD k 0)=0:=λk hk=>Q.off t k (by omega) (by omega) (by omega)
  generalize D.getD t z0=d at *
  unfold wl
  by_cases c:bit (vec f) (ls.getD t 0)=1
  ·rw[if_pos c]
   refine⟨?_,λk hk=>?_,?_⟩
   ·obtain⟨g,hg,rfl⟩:=ih.g
    refine⟨mul g d,Y1q T.nice (by omega) hg dg,?_⟩
    have cd:cm (ms.getD i z0) d=0:=Z9w (T.nice.com _ rm) (by omega) dg
    rw[mul_assoc,mul_comm cd,<-mul_assoc]
   ·rw[Y1t fe.2 de.2]
    by_cases e:k=t
    ·subst e
     rw[c,bt]
    ·rw[ih.off k (by omega),offd k (by omega)]
   ·have N:Nice (D++[mul f d]):=Y5f T (n:=i+1) (by omega) λx hx=>by
     rcases q1b.mp hx with q | q
     ·exact G_up (Q.g x q)
     ·rw[q0r.mp q]
      exact Y1q T.nice (by omega) fG (G_up dg)
    refine Z2k N (λx hx=>?_) ih.back
    rcases q1b.mp hx with q | q
    ·exact Z5c N (q1z _ q)
    ·rw[q0r.mp q]
     have:=Y9q N (Z5c N (q0n _ (q0r.mpr rfl))) (Z5c N (q1z _ dm))
     rw[Y4l (G_lt fG) de.1] at this
     exact this
  ·rw[if_neg c]
   refine⟨ih.g,λk hk=>?_,ih.back⟩
   by_cases e:k=t
   ·subst e
    have:=Z1o (vec f) (ls.getD k 0)
    omega
   ·exact ih.off k (by omega)
theorem Fr.nz {ms:List Mk}(T:Tb ms){i:Nat}{D:List Mk}{ls:W3}{f:Mk}{t:Nat}(hi:i<ms.length)(F:Fr ms i D ls f t):f.2≠(0,0):=by
 obtain⟨g,⟨x,rfl⟩,rfl⟩:=F.g
 intro e
 have hx:=q1v x (q0o i)
 have st:=X5r ms hx hi
 have eE:E ms (x%2^i)=prod (chosen ms x i):=by
  unfold E
  obtain⟨d,hd⟩:∃ d,ms.length=i+d:=⟨ms.length-i,by omega⟩
  rw[hd,Z2h ms hx d,Z2o]
 rw[eE] at st
 have lt:x%2^i+2^i<2^ms.length:=by
  refine q0k (m:=2^(i+1)) ?_ (q1a (by decide) hi)
  rw[q4r];omega
 have:=Y2y T.ind lt (q0o _) (by rw[st,Z8g];exact e)
 have:=q0o i
 omega
theorem Z7n {α:Type}{D:List α}{f z:α}{j:Nat}(h:j<D.length):(D++[f]).getD j z=D.getD j z:=by
 rw[q0b,q0b,q4b h]
theorem Z8f {α:Type}{D:List α}{f z:α}{j:Nat}(h:j=D.length):(D++[f]).getD j z=f:=by
 subst h
 rw[q0b,q3t (q0g _),Nat.sub_self]
 rfl
theorem Y8z {D:List Mk}{h:Mk->Mk}{j:Nat}(hj:j<D.length):(D.map h).getD j z0=h (D.getD j z0):=by
 rw[q0b,q0b,q0c,q0d hj]
 rfl
theorem Dn.next {ms:List Mk}(T:Tb ms){i:Nat}{D:List Mk}{ls:W3}{f:Mk}{n:Nat}(hi:i<ms.length)(Q:Dn ms i D ls)(F:Fr ms i D ls f i)(L:IsLd (vec f) n):Dn ms (i+1) (D.map (λd=>wl d f n)++[f]) (ls++[n]):=by
 have fG:=F.G
 have fe:=G_ev T (by omega) fG
 have lD:=Q.len
 have lL:=Q.ll
 have lM:(D.map (λd=>wl d f n)).length=i:=by rw[q0a];exact lD
 have eb:∀ d∈D,∀ k,bit (vec (wl d f n)) k=if bit (vec d) n=1 then (bit (vec d) k+bit (vec f) k)%2 else bit (vec d) k:=λd hd k=>by
  unfold wl
  split
  ·exact Y1t (G_ev T (by omega) (Q.g d hd)).2 fe.2 k
  ·rfl
 have gD:∀ d∈D.map (λd=>wl d f n)++[f],G ms (i+1) d:=λd hd=>by
  rcases q1b.mp hd with q | q
  ·obtain⟨d0,h0,rfl⟩:=q1q.mp q
   show G ms (i+1) (wl d0 f n)
   unfold wl
   split
   ·exact Y1q T.nice (by omega) (G_up (Q.g d0 h0)) fG
   ·exact G_up (Q.g d0 h0)
  ·rw[q0r.mp q];exact fG
 have N:=Y5f T (n:=i+1) (by omega) gD
 have fin:In (D.map (λd=>wl d f n)++[f]) f:=Z5c N (q0n _ (q0r.mpr rfl))
 have din:∀ d∈D,In (D.map (λd=>wl d f n)++[f]) d:=λd hd=>by
  have h1:=Z5c N (q1z _ (q1q.mpr ⟨d,hd,Z⟩))
  have h1:In (D.map (λd=>wl d f n)++[f]) (wl d f n):=h1
  by_cases c:bit (vec d) n=1
  ·have e:wl d f n=mul d f:=by unfold wl;rw[if_pos c]
   have:=Y9q N h1 fin
   rw[e,Y4l (G_lt (Q.g d hd)) fe.1] at this
   exact this
  ·have e:wl d f n=d:=by unfold wl;rw[if_neg c]
   rw[e] at h1
   exact h1
 refine⟨by rw[q1d,lM];rfl,by rw[q1d,lL];rfl,gD,λj hj=>?_,λj k hj hk jk=>?_,λj hj=>?_⟩
 ·by_cases e:j=i
  ·subst e
   rw[Z8f lM.symm,Z8f lL.symm]
   exact L
  ·have hj':j<i:=by omega
   rw[Z7n (by omega),Z7n (by omega),Y8z (by omega)]
   have dm:D.getD j z0∈D:=gmem (by omega)
   have l:=Q.ld j hj'
   have f0:=F.off j hj'
   have E0:=eb _ dm
   generalize D.getD j z0=d at *
   generalize ls.getD j 0=p at *
   by_cases c:bit (vec d) n=1
   ·have np:p<n:=by
     rcases q7h p n with q | q | q
     ·exact q
     ·subst q;rw[L.one] at f0;cases f0
     ·rw[l.low n q] at c;cases c
    refine⟨?_,λm hm=>?_⟩
    ·rw[E0,if_pos c,l.one,f0]
    ·rw[E0,if_pos c,l.low m hm,L.low m (by omega)]
   ·refine⟨?_,λm hm=>?_⟩
    ·rw[E0,if_neg c];exact l.one
    ·rw[E0,if_neg c];exact l.low m hm
 ·by_cases e:j=i
  ·subst e
   rw[Z8f lM.symm,Z7n (by omega)]
   exact F.off k (by omega)
  ·rw[Z7n (by omega),Y8z (by omega)]
   have dm:D.getD j z0∈D:=gmem (by omega)
   have E0:=eb _ dm
   by_cases ek:k=i
   ·subst ek
    rw[Z8f lL.symm,E0]
    split
    ·rename_i c;rw[c,L.one]
    ·have:=Z1o (vec (D.getD j z0)) n;omega
   ·rw[Z7n (by omega),E0,Q.off j k (by omega) (by omega) jk,F.off k (by omega)]
    split<;>rfl
 ·by_cases e:j=i
  ·subst e
   refine Z2k N (λx hx=>?_) F.back
   rcases q1b.mp hx with q | q
   ·exact din x q
   ·rw[q0r.mp q];exact fin
  ·exact Z2k N din (Q.back j (by omega))
end M53
namespace M53
open Pc K51 M54 M57
open Classical in
noncomputable def ldf (v:Nat):Nat:=if h:∃ n,IsLd v n then h.choose else 0
theorem X4x {v n:Nat}(h:IsLd v n):ldf v=n:=by
 have e:∃ n,IsLd v n:=⟨n,h⟩
 unfold ldf
 rw[dif_pos e]
 exact e.choose_spec.uniq h
noncomputable def ldm (m:Mk):Nat:=ldf (vec m)
def Off (d e:Mk):Prop:=bit (vec d) (ldm e)=0/\bit (vec e) (ldm d)=0
structure Dm (ms D:List Mk):Prop where
 g:∀ d∈D,In ms d
 ld:∀ d∈D,IsLd (vec d) (ldm d)
 off:D.Pairwise Off
 back:∀ m∈ms,In D m
theorem Dn.all {ms D:List Mk}{ls:W3}(Q:Dn ms ms.length D ls):Dm ms D:=by
 have el:∀ j,j<ms.length->ldm (D.getD j z0)=ls.getD j 0:=λj hj=>X4x (Q.ld j hj)
 refine⟨λd hd=>in_G.mpr (Q.g d hd),λd hd=>?_,?_,λm hm=>?_⟩
 ·obtain⟨j,hj,e⟩:=q2i.mp hd
  have eg:D.getD j z0=d:=by rw[q0b,q0d hj];exact e
  rw[Q.len] at hj
  have l:=Q.ld j hj
  rw[eg] at l
  unfold ldm
  rw[X4x l]
  exact l
 ·refine q4a.mpr λi j hi hj ij=>?_
  have ei:D.getD i z0=D[i]:=by rw[q0b,q0d hi];rfl
  have ej:D.getD j z0=D[j]:=by rw[q0b,q0d hj];rfl
  rw[Q.len] at hi hj
  rw[<-ei,<-ej]
  unfold Off
  rw[el i hi,el j hj]
  exact⟨Q.off i j hi hj (by omega),Q.off j i hj hi (by omega)⟩
 ·obtain⟨j,hj,e⟩:=q2i.mp hm
  have eg:ms.getD j z0=m:=by rw[q0b,q0d hj];exact e
  rw[<-eg]
  exact Q.back j hj
theorem Z9j {ms:List Mk}(T:Tb ms){D:List Mk}(h:∀ d∈D,In ms d):Nice D:=Y5f T (q0g _) λd hd=>in_G.mp (h d hd)
theorem Dm.perm {ms D S:List Mk}(T:Tb ms)(Q:Dm ms D)(p:S.Perm D):Dm ms S:=by
 have gS:∀ d∈S,In ms d:=λd hd=>Q.g d (p.mem_iff.mp hd)
 have N:=Z9j T gS
 refine⟨gS,λd hd=>Q.ld d (p.mem_iff.mp hd),?_,λm hm=>Z2k N (λd hd=>Z5c N (p.mem_iff.mpr hd)) (Q.back m hm)⟩
 exact(p.pairwise_iff λ{a b} h=>⟨h.2,h.1⟩).mpr Q.off
theorem Y2q {ms:List Mk}(T:Tb ms){g:Mk}(h:In ms g):V6 g:=(G_ev T (q0g _) (in_G.mp h)).2
theorem Y3a {m:Mk}(h:V6 m):vec m<2^12:=by
 have a:m.2.1<64:=h.f
 have b:m.2.2<64:=h.s
 unfold vec
 show _<4096
 omega
theorem Y6k {a b:Mk}(ha:V6 a)(hb:V6 b)(e:vec a=vec b):a.2=b.2:=by
 have a1:a.2.1<64:=ha.f
 have b1:b.2.1<64:=hb.f
 unfold vec at e
 exact Prod.ext (by omega) (by omega)
theorem X4g {fs gs:W3}{c:Nat->Bool}:∀ m,(∀ j,j<m->fs.getD j 0=gs.getD j 0)->xs fs c m=xs gs c m:=λm h=>Z8h m λj hj=>⟨Z,h j hj⟩
theorem X5s {fs:W3}(c:Nat->Bool){N:Nat}:∀ m,(∀ j,j<m->fs.getD j 0<2^N)->xs fs c m<2^N
 | 0,_=>q0o N
 | m+1,h=>by
  have ih:=X5s c m λj hj=>h j (by omega)
  unfold xs
  split
  ·exact q1c ih (h m (by omega))
  ·exact ih
theorem sget0 (S:List Mk)(j:Nat):(S.map vec).getD j 0=vec (S.getD j z0):=by
 rw[q0b,q0b,q0c]
 cases S[j]?<;>rfl
theorem Y6i {S:List Mk}(c:Nat->Bool)(v:∀ j,j<S.length->V6 (S.getD j z0)):∀ m,m<=S.length->xs (S.map vec) c m=xs (fOf S) c m+64*xs (sOf S) c m
 | 0,_=>rfl
 | m+1,hm=>by
  have ih:=Y6i c v m (by omega)
  unfold xs
  split
  ·rw[ih,sget0,fget,sget]
   have vm:=v m (by omega)
   have lf:=X5s (fs:=fOf S) c (N:=6) m λj hj=>by rw[fget];exact(v j (by omega)).f
   have lsn:=X5s (fs:=sOf S) c (N:=6) m λj hj=>by rw[sget];exact(v j (by omega)).s
   have key:=Y1t (a:=(0,xs (fOf S) c m,xs (sOf S) c m)) (b:=S.getD m z0) ⟨lf,lsn⟩ vm
   have l1:vec ((0,xs (fOf S) c m,xs (sOf S) c m):Mk)<2^12:=Y3a ⟨lf,lsn⟩
   have l2:=Y3a vm
   have l3:vec (mul (0,xs (fOf S) c m,xs (sOf S) c m) (S.getD m z0))<2^12:=Y3a (V6.mul ⟨lf,lsn⟩ vm)
   have:=Z2n 12 (vec ((0,xs (fOf S) c m,xs (sOf S) c m):Mk)^^^vec (S.getD m z0)) _ (q1c l1 l2) l3 λn hn=>by rw[M54.Z2e,key]
   exact this
  ·exact ih
theorem W4h {S:List Mk}(v:∀ j,j<S.length->V6 (S.getD j z0))(x:Nat):vec (E S x)=xs (S.map vec) (λj=>decide (bit x j=1)) (S.map vec).length:=by
 rw[q0a,Y6i _ v _ (q0g _),<-xs_X,<-xs_X]
 unfold vec E
 rw[Z7x,Z7w]
 rfl
theorem spans {S R:List Mk}(v:∀ j,j<S.length->V6 (S.getD j z0))(h:∀ r∈R,In S r):Spans (S.map vec) (R.map vec):=by
 intro i hi
 rw[q0a] at hi
 obtain⟨x,_,e⟩:=h _ (gmem hi)
 exact⟨_,by rw[sget0];show vec (R.getD i (0,0,0))=_;rw[<-e];exact W4h v x⟩
theorem lget0 (S:List Mk){j:Nat}(hj:j<S.length):(S.map ldm).getD j 0=ldm (S.getD j z0):=by
 rw[q0b,q0b,q0c,q0d hj]
 rfl
theorem Dm.red {ms S:List Mk}(Q:Dm ms S)(o:S.Pairwise λa b=>ldm a<=ldm b):Red (S.map vec) (S.map ldm):=by
 have offs:∀ i j,i<S.length->j<S.length->i≠j->bit (vec (S.getD i z0)) (ldm (S.getD j z0))=0:=λi j hi hj ij=>by
  have ei:S.getD i z0=S[i]:=by rw[q0b,q0d hi];rfl
  have ej:S.getD j z0=S[j]:=by rw[q0b,q0d hj];rfl
  rw[ei,ej]
  rcases Nat.lt_or_gt_of_ne ij with lt | lt
  ·exact(q4a.mp Q.off i j hi hj lt).1
  ·exact(q4a.mp Q.off j i hj hi lt).2
 refine⟨by rw[q0a,q0a],λi hi=>?_,λi j hi hj ij=>?_,?_⟩
 ·rw[q0a] at hi
  rw[sget0,lget0 S hi]
  exact Q.ld _ (gmem hi)
 ·rw[q0a] at hi hj
  rw[sget0,lget0 S hj]
  exact offs i j hi hj ij
 ·rw[q4f]
  refine(List.Pairwise.and_mem.mp (o.and Q.off)).imp λ{a b} h=>?_
  obtain⟨ha,hb,le,off⟩:=h
  refine Nat.lt_of_le_of_ne le λe=>?_
  have:=(Q.ld a ha).one
  rw[e,off.1] at this
  cases this
theorem Y0l {ms rs S R:List Mk}(T:Tb ms)(T':Tb rs)(Q:Dm ms S)(Q':Dm rs R)(o:S.Pairwise λa b=>ldm a<=ldm b)(o':R.Pairwise λa b=>ldm a<=ldm b)
  (h:∀ m∈ms,In rs m) (h':∀ r∈rs,In ms r):S=R:=by
 have NS:=Z9j T Q.g
 have NR:=Z9j T' Q'.g
 have SinR:∀ s∈S,In R s:=λs hs=>Z2k NR Q'.back (Z2k T'.nice h (Q.g s hs))
 have RinS:∀ r∈R,In S r:=λr hr=>Z2k NS Q.back (Z2k T.nice h' (Q'.g r hr))
 have vS:∀ j,j<S.length->V6 (S.getD j z0):=λj hj=>Y2q T (Q.g _ (gmem hj))
 have vR:∀ j,j<R.length->V6 (R.getD j z0):=λj hj=>Y2q T' (Q'.g _ (gmem hj))
 have e:=X1o (Q.red o) (Q'.red o') (spans vS RinS) (spans vR SinR)
 have len:S.length=R.length:=by have:=congrArg List.length e;simpa using this
 refine q5e len λi h1 h2=>?_
 have e1:S.getD i z0=S[i]:=by rw[q0b,q0d h1];rfl
 have e2:R.getD i z0=R[i]:=by rw[q0b,q0d h2];rfl
 have ev:vec (S.getD i z0)=vec (R.getD i z0):=by rw[<-sget0,<-sget0,e]
 rw[<-e1,<-e2]
 exact X8k T.ind (Q.g _ (gmem h1)) (Z2k T.nice h' (Q'.g _ (gmem h2))) (Y6k (vS i h1) (vR i h2) ev)
end M53
namespace M53
open Pc K51 M54 M57
noncomputable def num (c:Nat->Bool):Nat->Nat
 | 0=>0
 | m+1=>num c m+(if c m then 2^m else 0)
theorem Y4g (c:Nat->Bool):∀ m,num c m<2^m
 | 0=>Nat.one_pos
 | m+1=>by
  have:=Y4g c m
  unfold num
  rw[q4r]
  split<;>omega
theorem Y2k (c:Nat->Bool):∀ m j,j<m->decide (bit (num c m) j=1)=c j
 | m+1,j,hj=>by
  have lt:=Y4g c m
  unfold num
  by_cases e:j=m
  ·subst e
   cases hc:c j
   ·simp[Z5s lt (q0g _)]
   ·simp only[q5f]
    have:bit (num c j+2^j) j=1:=by
     unfold bit
     rw[q7j _ (q0o j),q3u lt]
    rw[this];rfl
  ·have ih:=Y2k c m j (by omega)
   split
   ·have:bit (num c m+2^m) j=bit (num c m) j:=by
     rw[<-X0t (num c m+2^m) m (by omega),q7i,q2h lt]
    rw[this];exact ih
   ·rw[q3h];exact ih
theorem Y5g (ms:List Mk)(c:Nat->Bool):(E ms (num c ms.length)).2=(xs (fOf ms) c ms.length,xs (sOf ms) c ms.length):=by
 have e:∀ fs:List Nat,Xm fs (num c ms.length) ms.length=xs fs c ms.length:=λfs=>by
  rw[xs_X]
  exact Z8h _ λj hj=>⟨Y2k c _ j hj,Z⟩
 unfold E
 refine Prod.ext ?_ ?_
 ·show (prod (chosen ms (num c ms.length) ms.length)).2.1=_
  rw[Z7x];exact e _
 ·show (prod (chosen ms (num c ms.length) ms.length)).2.2=_
  rw[Z7w];exact e _
theorem Y6b {ms:List Mk}{m:Mk}(I:Indep ms)(h:∀ x,x<2^ms.length->(E ms x).2≠m.2):Indep (ms++[m]):=by
 intro c hf hs j hj
 have ll:(ms++[m]).length=ms.length+1:=by rw[q1d];rfl
 have ef:∀ k,k<ms.length->(fOf (ms++[m])).getD k 0=(fOf ms).getD k 0:=λk hk=>by rw[fget,fget,Z7n hk]
 have es:∀ k,k<ms.length->(sOf (ms++[m])).getD k 0=(sOf ms).getD k 0:=λk hk=>by rw[sget,sget,Z7n hk]
 have lf:(fOf (ms++[m])).getD ms.length 0=m.2.1:=by rw[fget,Z8f rfl]
 have lsn:(sOf (ms++[m])).getD ms.length 0=m.2.2:=by rw[sget,Z8f rfl]
 have xf:=X4g (fs:=fOf (ms++[m])) (gs:=fOf ms) (c:=c) ms.length ef
 have xsn:=X4g (fs:=sOf (ms++[m])) (gs:=sOf ms) (c:=c) ms.length es
 rw[ll] at hf hs hj
 unfold xs at hf hs
 rw[lf,xf] at hf
 rw[lsn,xsn] at hs
 have zx:∀ {a b:Nat},a^^^b=0->a=b:=λ{a b} z=>by
  have:=congrArg (·^^^b) z
  simpa [q1t] using this
 cases hc:c ms.length with
 | true =>
  rw[hc,if_pos rfl] at hf hs
  refine absurd ?_ (h (num c ms.length) (Y4g c _))
  rw[Y5g,zx hf,zx hs]
 | false =>
  rw[hc,if_neg (by decide)] at hf hs
  by_cases e:j=ms.length
  ·rw[e];exact hc
  ·exact I c hf hs j (by omega)
end M53
namespace K63T
open L2 Pc K51 M54 M57
open M53 (IsLd vec V6 wl Z2d)
noncomputable def Y9e (w n:Nat):Bool:=decide (Builtin.Int.intBits (Builtin.bitAnd (w:Int) (-(w:Int)))=n+1) && decide (bit w n=1) && (List.range n).all λm=>decide (bit w m=0)
theorem Y9d:((List.range 64).all λw=>decide (w=0) || (List.range 6).any λn=>Y9e w n)=true:=by decide +kernel
theorem X3a {w:Nat}(h:w<64)(h0:w≠0):∃ n:Nat,n<6/\Builtin.Int.intBits (Builtin.bitAnd (w:Int) (-(w:Int)))=n+1/\IsLd w n:=by
 have a:=q2m.mp Y9d w (q1o.mpr h)
 rw[q0w h0,q5u] at a
 obtain⟨n,hn,e⟩:=q6i.mp a
 unfold Y9e at e
 rw[q1g,q1g] at e
 exact⟨n,q1o.mp hn,q1u e.1.1,q1u e.1.2,λm hm=>q1u (q2m.mp e.2 m (q1o.mpr hm))⟩
def Y6y:Sp:=λvs H Q _=>∃ w:Nat,vs=[.int w]/\w<64/\w≠0/\∀ n:Nat,n<6->IsLd w n->Q (.int n) H
def spLead (K:U0):Sp:=λvs H Q _=>∃ (p:W9) (m:Mk) (n:Nat),vs=[.ref p]/\SqT K H p (L3 m)/\V6 m/\IsLd (vec m) n/\Q (.int n) H
def spHas (K:U0):Sp:=λvs H Q _=>∃ (p:W9) (m:Mk) (n:Nat),vs=[.ref p,.int n]/\SqT K H p (L3 m)/\V6 m/\Q (.bl (decide (bit (vec m) n=1))) H
def Y0a:Sp:=λvs H Q _=>∃ (p r:W9) (m d:Mk) (n:Nat),vs=[.ref p,.ref r]/\H p=some (T3 m)/\H r=some (T3 d)/\V6 m/\V6 d/\IsLd (vec d) n/\∀ (q:W9) (H':Hp),Same H H'->H' q=some (T3 (wl m d n))->Q (.ref q) H'
section
variable {P:U8}{w:W1}{K:U0}{mg:U4}{base:Heap}{k:Nat}{h:Heap}
theorem sc_least:FnScope ["word"] ["word"] (Z0i (top 46)):=fS
theorem X2j (F:FunAt K "least_cell" (top 46) .none)(X:K.In h)(G:Ng h mg):Cal P w K mg base (k+1) "least_cell" ["word"] Y6y:=by
 have nd:=sc_least.nd
 refine F.cal X G sc_least (bnd1 λ_ _ _ _ _ _ _=>rfl) (λvs H Q E' h=>?_) (λf cdv A outer s H vs Q E' hr h=>?_)
 ·obtain⟨n,rfl,_⟩:=h;rfl
 obtain⟨x,rfl,x64,x0,q⟩:=h
 obtain⟨n,n6,e,l⟩:=X3a x64 x0
 refine⟨_,(@Z0f _ _ _ (Z0k (Z0h Z1z (Z5x q2j q1p q1x Z2t (Z0h Z1d (pv 0) (Y2c Z9x (pv 0)))) Z0b))),?_⟩
 try dsimp only[cxK]
 refine⟨_,Z,_,Z,_,Z,_,_,Z,Z,Z,_,Z,Z,_,_,Z,Z,?_⟩
 show Q (.int (((Builtin.Int.intBits (Builtin.bitAnd (x:Int) (-(x:Int))):Nat):Int)-1)) H
 rw[e,show (((n+1:Nat):Int)-1)=(n:Int) by omega]
 exact q n n6 l
theorem sc_lead:FnScope ["mark"] ["mark"] (Z0i (top 45)):=fS
theorem X7c (F:FunAt K "lead" (top 45) .none)(X:K.In h)(G:Ng h mg){tF:Tok}(gF:mg "FIRST_SIGN_LEAD"=some (.int 6 tF))(cV:Cal P w K mg base k "least_cell" ["word"] Y6y):Cal P w K mg base (k+1) "lead" ["mark"] (spLead K):=by
 have nd:=sc_lead.nd
 refine F.cal X G sc_lead (bnd1 λ_ _ _ _ _ _ _=>rfl) (λvs H Q E' h=>?_) (λf cdv A outer s H vs Q E' hr h=>?_)
 ·obtain⟨p,m,n,rfl,_⟩:=h;rfl
 obtain⟨p,m,n,rfl,S,v6,l,q⟩:=h
 refine⟨_,(@Z0e _ _ _ _ _ (Z0w (Z0n Z4n (Z0m Z0j (pv 0) Z0b (λ_ _=>rfl)) Z0b (nomark _))
   (@Z0f _ _ _ (Z0k (Z0l cV hr rfl (Z0a (Z0m Z0j (pv 0) Z0b (λ_ _=>rfl)) Z0d))))
   Z0o)
  (@Z0f _ _ _ (Z0k (Z0h Z1b (Z3c (v:=.int 6) rfl gF ⟨tF,Z⟩) (Z0l cV hr rfl (Z0a (Z0m Z0j (pv 0) Z0b (λ_ _=>rfl)) Z0d)))))),?_⟩
 try dsimp only[cxK]
 refine⟨_,Z,p,_,_,_,Z,Z,S,Z,Z,_,Z,neI (λz=>?_) (λz=>?_)⟩
 ·have f0:m.2.1≠0:=λe=>z (by rw[e];rfl)
  refine⟨_,Z,p,_,_,_,Z,Z,S,Z,m.2.1,Z,v6.f,f0,λn' h6 l'=>?_⟩
  have l2:IsLd (vec m) n':=⟨by unfold vec;rw[Z2d v6.f,if_pos h6];exact l'.one,λk hk=>by unfold vec;rw[Z2d v6.f,if_pos (by omega)];exact l'.low k hk⟩
  rw[l2.uniq l]
  exact q
 ·have f0:m.2.1=0:=by
   have:=z
   omega
  have s0:m.2.2≠0:=λe=>by
   have:=l.one
   unfold vec at this
   rw[f0,e,Z2g] at this
   cases this
  refine⟨_,Z,p,_,_,_,Z,Z,S,Z,m.2.2,Z,v6.s,s0,λn' h6 l'=>⟨_,_,Z,Z,?_⟩⟩
  have l2:IsLd (vec m) (6+n'):=⟨by unfold vec;rw[Z2d v6.f,if_neg (by omega),show 6+n'-6=n' by omega];exact l'.one,λk hk=>by
   unfold vec
   rw[Z2d v6.f]
   split
   ·rw[f0,Z2g]
   ·exact l'.low _ (by omega)⟩
  have e:=l2.uniq l
  show Q (.int (6+(n':Int))) H
  rw[show (6+(n':Int))=((6+n':Nat):Int) by omega,e]
  exact q
theorem sc_has:FnScope ["mark","place"] ["mark","place"] (Z0i (top 47)):=fS
theorem W0p (F:FunAt K "has_at_lead" (top 47) .none)(X:K.In h)(G:Ng h mg){tF:Tok}(gF:mg "FIRST_SIGN_LEAD"=some (.int 6 tF)):Cal P w K mg base (k+1) "has_at_lead" ["mark","place"] (spHas K):=by
 have nd:=sc_has.nd
 refine F.cal X G sc_has (bnd2 λ_ _ _ _ _ _ _ _=>rfl) (λvs H Q E' h=>?_) (λf cdv A outer s H vs Q E' hr h=>?_)
 ·obtain⟨p,m,n,rfl,_⟩:=h;rfl
 obtain⟨p,m,n,rfl,S,v6,q⟩:=h
 have one:∀ (x j:Nat),decide (V.int (Builtin.bitAnd ((x:Int) / 2^((j:Int)).toNat) 1)=V.int 1)=decide (bit x j=1):=λx j=>by
  rw[q0v,show (x:Int) / 2^j=((x / 2^j:Nat):Int) by simp,Z7d,q7r]
  unfold bit
  constructor
  ·intro z;have:=V.int.inj z;omega
  ·intro z;congr 1;omega
 refine⟨_,(@Z0e _ _ _ _ _ (Z0w (Z0n Z7c (pv 1) (Z3c (v:=.int 6) rfl gF ⟨tF,Z⟩) (nomark _))
   (@Z0f _ _ _ (Z0k (Z1p Z1k (Z0h Z1d (Z0h Z4e (Z0m Z0j (pv 0) Z0b (λ_ _=>rfl)) (pv 1)) Z0b) Z0b (nomark _))))
   Z0o)
  (@Z0f _ _ _ (Z0k (Z1p Z1k (Z0h Z1d (Z0h Z4e (Z0m Z0j (pv 0) Z0b (λ_ _=>rfl)) (Z0h Z1z (pv 1) (Z3c (v:=.int 6) rfl gF ⟨tF,Z⟩))) Z0b) Z0b (nomark _))))),?_⟩
 try dsimp only[cxK]
 refine⟨_,Z,_,_,Z,Z,_,Z,decI (λc=>?_) (λc=>?_)⟩
 ·refine⟨_,Z,p,_,_,_,Z,Z,S,Z,_,Z,_,_,Z,Z,by omega,_,_,Z,Z,Z,?_⟩
  show Q (.bl (decide (V.int (Builtin.bitAnd ((m.2.1:Int) / 2^((n:Int)).toNat) 1)=V.int 1))) H
  rw[one]
  unfold vec at q
  rw[Z2d v6.f,if_pos (by omega)] at q
  exact q
 ·refine⟨_,Z,p,_,_,_,Z,Z,S,Z,_,Z,_,_,Z,Z,_,_,Z,Z,by omega,_,_,Z,Z,Z,?_⟩
  show Q (.bl (decide (V.int (Builtin.bitAnd ((m.2.2:Int) / 2^((n:Int)-6).toNat) 1)=V.int 1))) H
  rw[show ((n:Int)-6)=((n-6:Nat):Int) by omega,one]
  unfold vec at q
  rw[Z2d v6.f,if_neg (by omega)] at q
  exact q
theorem sc_without:FnScope ["mark","row"] ["mark","row"] (Z0i (top 44)):=fS
theorem Y5n (F:FunAt K "without_lead" (top 44) .none)(X:K.In h)(G:Ng h mg)(dO:Cal P w K mg base k "has_at_lead" ["mark","place"] (spHas K))(dY:Cal P w K mg base k "lead" ["mark"] (spLead K))(cX:Cal P w K mg base k "product" ["one","other"] (Z6r K)) :
  Cal P w K mg base (k+1) "without_lead" ["mark","row"] Y0a:=by
 have nd:=sc_without.nd
 refine F.cal X G sc_without (bnd2 λ_ _ _ _ _ _ _ _=>rfl) (λvs H Q E' h=>?_) (λf cdv A outer s H vs Q E' hr h=>?_)
 ·obtain⟨p,r,m,d,n,rfl,_⟩:=h;rfl
 obtain⟨p,r,m,d,n,rfl,hp,hr0,vm,vd,l,kq⟩:=h
 refine⟨_,(@Z0f _ _ _ (Z0k (Z2j (Z1n (Z0l dO hr rfl (Z0a (pv 0) (Z0a (Z0l dY hr rfl (Z0a (pv 1) Z0d)) Z0d)))) (Z0l cX hr rfl (Z0a (pv 0) (Z0a (pv 1) Z0d))) (pv 0)))),?_⟩
 try dsimp only[cxK]
 refine⟨_,Z,_,Z,r,d,n,Z,SqT.of hr0,vd,l,p,m,n,Z,SqT.of hp,vm,_,Z,decI (λc=>?_) (λc=>?_)⟩
 ·refine⟨_,Z,_,Z,p,r,m,d,Z,SqT.of hp,SqT.of hr0,λq H' S e=>kq q H' S ?_⟩
  unfold wl
  rw[if_pos c]
  exact e
 ·refine⟨_,Z,kq p H (Same.refl _) ?_⟩
  unfold wl
  rw[if_neg c]
  exact hp
end
end K63T
namespace K63T
open L2 Pc K51 M54 M57
open M53 (IsLd vec V6 wl Z2d ev)
def spWord:Sp:=λvs H Q _=>∃ x N:Nat,vs=[.int x,.int N]/\x<2^N/\Q (.bl true) H
def spMark:Sp:=λvs H Q _=>∃ (p:W9) (m:Mk) (N:Nat),vs=[.ref p,.int N]/\H p=some (T3 m)/\Okm N m/\Q (.bl true) H
def spEven (K:U0):Sp:=λvs H Q _=>∃ (p:W9) (m:Mk),vs=[.ref p]/\SqT K H p (L3 m)/\ev m/\Q (.bl true) H
def spEvM:Sp:=λvs H Q _=>∃ (p:W9) (m:Mk) (N:Nat),vs=[.ref p,.int N]/\H p=some (T3 m)/\Okm N m/\ev m/\Q (.bl true) H
def Y3r (K:U0):Sp:=λvs H Q _=>∃ (pm l:W9) (ps:U3) (ms:List Mk) (m:Mk),vs=[.ref pm,.ref l]/\H pm=some (T3 m)/\SqL K H l (ps.map V.ref)/\Mks H ps ms/\ms.length<=12/\(∀ r∈ms,comm m r=0)/\∀ H',Same H H'->Q (.bl true) H'
theorem Z4k (n:Nat):((List.replicate n true).all id)=true:=by rw[List.all_replicate];split<;>rfl
section
variable {P:U8}{w:W1}{K:U0}{mg:U4}{base:Heap}{k:Nat}{h:Heap}
theorem sc_isword:FnScope ["thing","cells"] ["thing","cells"] (Z0i (top 18)):=fS
theorem Y8n (F:FunAt K "is_word" (top 18) .none)(X:K.In h)(G:Ng h mg)(c9:Cal P w K mg base k "is_whole" ["thing"] Z3j):Cal P w K mg base (k+1) "is_word" ["thing","cells"] spWord:=by
 have nd:=sc_isword.nd
 refine F.cal X G sc_isword (bnd2 λ_ _ _ _ _ _ _ _=>rfl) (λvs H Q E h=>?_) (λf cdv A outer s H vs Q E hr h=>?_)
 ·obtain⟨x,N,rfl,_⟩:=h;rfl
 obtain⟨x,N,rfl,lt,q⟩:=h
 refine⟨_,(@Z0e _ _ _ _ _ (Z0w (Z1y (PW.pt (Y0m (Z1n (Z0l c9 hr rfl (Z0a (pv 0) Z0d))) (Z6w (Z1n (Z0l c9 hr rfl (Z0a (pv 1) Z0d)))))))
   (@Z0f _ _ _ (Z0k Z3g))
   Z0o)
  (@Z0f _ _ _ (Z0k (Z5y (Z1p Y8c (pv 0) Z0b (nomark _)) (Z4l (Z1p W0j (Z5x q2j q1p q1x Z2t (pv 0)) (pv 1) (nomark _))))))),?_⟩
 try dsimp only[cxK]
 refine⟨_,Z,_,Z,_,Z,iteT ⟨_,Z,_,Z,_,Z,iteF ?_⟩⟩
 refine⟨_,Z,_,_,Z,Z,_,Z,decI (λ_=>?_) (λz=>absurd (show (x:Int)>=0 by omega) z)⟩
 refine⟨_,Z,Z,_,Z,Z,_,Z,_,_,Z,Z,?_⟩
 have b:=bl_le.mpr lt
 rw[Z9u]
 show Q (.bl (decide (((bl x:Nat):Int)<=(N:Int)))) H
 rw[q1f (by omega)]
 exact q
theorem sc_ismark:FnScope ["thing","cells"] ["thing","cells"] (Z0i (top 19)):=fS
theorem Y8o (F:FunAt K "is_mark" (top 19) .none)(X:K.In h)(G:Ng h mg)(B:Bs mg)(c9:Cal P w K mg base k "is_whole" ["thing"] Z3j)(cQ:Cal P w K mg base k "is_word" ["thing","cells"] spWord):Cal P w K mg base (k+1) "is_mark" ["thing","cells"] spMark:=by
 have nd:=sc_ismark.nd
 refine F.cal X G sc_ismark (bnd2 λ_ _ _ _ _ _ _ _=>rfl) (λvs H Q E' h=>?_) (λf cdv A outer s H vs Q E' hr h=>?_)
 ·obtain⟨p,m,N,rfl,_⟩:=h;rfl
 obtain⟨p,m,N,rfl,hp,ok,q⟩:=h
 have SP:SqT K H p (L3 m):=SqT.of hp
 have q4:=ok.q
 refine⟨_,(@Z0e _ _ _ _ _ (Z0w (PW.pt (Z3y (Z1y (Z1n (Z0r Z1r rfl B.isinstance q2w (Z0a (pv 0) (Z0a (Z3l (v:=.ty "tuple") rfl B.tuple boot_tuple rfl) Z0d))))) (Z3x (Z0n Z4n (Z0r Z0u rfl B.len q1h (Z0a (pv 0) Z0d)) Z0b (nomark _)))))
   (@Z0f _ _ _ (Z0k Z3g))
   Z0o)
  (@Z0e _ _ _ _ _ (Z0w (PW.pt (Z3y (Z1y (Z1n (Z0l c9 hr rfl (Z0a (Z0m Z0j (pv 0) Z0b (λ_ _=>rfl)) Z0d)))) (Z3y (Z0n Z7c (Z0m Z0j (pv 0) Z0b (λ_ _=>rfl)) Z0b (nomark _)) (Z3x (Z0n Y2e (Z0m Z0j (pv 0) Z0b (λ_ _=>rfl)) Z0b (nomark _))))))
   (@Z0f _ _ _ (Z0k Z3g))
   Z0o)
  (@Z0f _ _ _ (Z0k (Z5y (Z0l cQ hr rfl (Z0a (Z0m Z0j (pv 0) Z0b (λ_ _=>rfl)) (Z0a (pv 1) Z0d))) (Z4l (Z0l cQ hr rfl (Z0a (Z0m Z0j (pv 0) Z0b (λ_ _=>rfl)) (Z0a (pv 1) Z0d))))))))),?_⟩
 try dsimp only[cxK]
 refine⟨_,Z,_,_,_,true,Z,TyOf.tup hp,Y4s K,_,Z,iteF ⟨_,Z,p,_,Z,.inr SP,Z,_,Z,neI (λz=>absurd rfl z) (λ_=>?_)⟩⟩
 refine⟨_,Z,p,_,_,_,Z,Z,SP,Z,_,Z,_,Z,iteF ⟨_,Z,p,_,_,_,Z,Z,SP,Z,_,_,Z,Z,_,Z,decI (λz=>absurd z (by omega)) (λ_=>⟨_,Z,p,_,_,_,Z,Z,SP,Z,_,_,Z,Z,_,Z,decI (λz=>absurd z (by omega)) (λ_=>?_)⟩)⟩⟩
 exact⟨_,Z,p,_,_,_,Z,Z,SP,Z,_,Z,m.2.1,N,Z,ok.f,_,Z,iteT ⟨_,Z,p,_,_,_,Z,Z,SP,Z,_,Z,m.2.2,N,Z,ok.s,q⟩⟩
theorem sc_iseven:FnScope ["mark"] ["mark"] (Z0i (top 20)):=fS
theorem Y8p (F:FunAt K "is_even" (top 20) .none)(X:K.In h)(G:Ng h mg)(cD:Cal P w K mg base k "ones" ["number"] spOnes):Cal P w K mg base (k+1) "is_even" ["mark"] (spEven K):=by
 have nd:=sc_iseven.nd
 refine F.cal X G sc_iseven (bnd1 λ_ _ _ _ _ _ _=>rfl) (λvs H Q E' h=>?_) (λf cdv A outer s H vs Q E' hr h=>?_)
 ·obtain⟨p,m,rfl,_⟩:=h;rfl
 obtain⟨p,m,rfl,SP,e,q⟩:=h
 refine⟨_,(@Z0f _ _ _ (Z0k (Z1p Z1k (Z0h Z0v (Z0h Z1b (Z0m Z0j (pv 0) Z0b (λ_ _=>rfl)) (Z0l cD hr rfl (Z0a (Z0h Z1d (Z0m Z0j (pv 0) Z0b (λ_ _=>rfl)) (Z0m Z0j (pv 0) Z0b (λ_ _=>rfl))) Z0d))) Z0b) Z0b (nomark _)))),?_⟩
 try dsimp only[cxK]
 refine⟨_,Z,p,_,_,_,Z,Z,SP,Z,_,Z,p,_,_,_,Z,Z,SP,Z,_,Z,p,_,_,_,Z,Z,SP,Z,_,_,Z,Z,m.2.1&&&m.2.2,Z5t _ _,_,_,Z,Z,_,_,Z,Z,Z3q,Z,?_⟩
 show Q (.bl (decide (V.int (((m.1:Int)+((pc (m.2.1&&&m.2.2):Nat):Int))%2)=V.int 0))) H
 unfold ev at e
 rw[q1f (by congr 1;omega)]
 exact q
theorem sc_isevm:FnScope ["thing","cells"] ["thing","cells"] (Z0i (top 21)):=fS
theorem X2m (F:FunAt K "is_even_mark" (top 21) .none)(X:K.In h)(G:Ng h mg)(eT:Cal P w K mg base k "is_mark" ["thing","cells"] spMark)(eR:Cal P w K mg base k "is_even" ["mark"] (spEven K)):Cal P w K mg base (k+1) "is_even_mark" ["thing","cells"] spEvM:=by
 have nd:=sc_isevm.nd
 refine F.cal X G sc_isevm (bnd2 λ_ _ _ _ _ _ _ _=>rfl) (λvs H Q E' h=>?_) (λf cdv A outer s H vs Q E' hr h=>?_)
 ·obtain⟨p,m,N,rfl,_⟩:=h;rfl
 obtain⟨p,m,N,rfl,hp,ok,e,q⟩:=h
 refine⟨_,(@Z0f _ _ _ (Z0k (Z5y (Z0l eT hr rfl (Z0a (pv 0) (Z0a (pv 1) Z0d))) (Z4l (Z0l eR hr rfl (Z0a (pv 0) Z0d)))))),?_⟩
 try dsimp only[cxK]
 exact⟨_,Z,_,Z,p,m,N,Z,hp,ok,_,Z,iteT ⟨_,Z,p,m,Z,SqT.of hp,e,q⟩⟩
theorem sc_pcommute:FnScope ["one","other"] ["one","other"] (Z0i (top 22)):=fS
theorem Y2j (F:FunAt K "commute" (top 22) .none)(X:K.In h)(G:Ng h mg)(cD:Cal P w K mg base k "ones" ["number"] spOnes):Cal P w K mg base (k+1) "commute" ["one","other"] (Y0h K):=by
 have nd:=sc_pcommute.nd
 refine F.cal X G sc_pcommute (bnd2 λ_ _ _ _ _ _ _ _=>rfl) (λvs H Q E h=>?_) (λf cdv A outer s H vs Q E hr h=>?_)
 ·obtain⟨p,p',m,m',rfl,_⟩:=h;rfl
 obtain⟨p,p',m,m',rfl,S1,S2,q⟩:=h
 refine⟨_,(@Z0f _ _ _ (Z0k (Z1p Z1k (Z0h Z0v (Z0h Z1b (Z0l cD hr rfl (Z0a (Z0h Z1d (Z0m Z0j (pv 0) Z0b (λ_ _=>rfl)) (Z0m Z0j (pv 1) Z0b (λ_ _=>rfl))) Z0d)) (Z0l cD hr rfl (Z0a (Z0h Z1d (Z0m Z0j (pv 0) Z0b (λ_ _=>rfl)) (Z0m Z0j (pv 1) Z0b (λ_ _=>rfl))) Z0d))) Z0b) Z0b (nomark _)))),?_⟩
 try dsimp only[cxK]
 refine⟨_,Z,p,_,_,_,Z,Z,S1,Z,_,Z,p',_,_,_,Z,Z,S2,Z,_,_,Z,Z,m.2.1&&&m'.2.2,Z5t _ _,_,Z,p,_,_,_,Z,Z,S1,Z,_,Z,p',_,_,_,Z,Z,S2,Z,_,_,Z,Z,m.2.2&&&m'.2.1,Z5t _ _,_,_,Z,Z,_,_,Z,Z,Z3q,Z,?_⟩
 have e:decide (V.int ((((pc (m.2.1&&&m'.2.2):Nat):Int)+((pc (m.2.2&&&m'.2.1):Nat):Int))%2)=V.int 0)=decide (comm m m'=0):=by
  rw[q7r]
  unfold comm
  constructor
  ·intro z
   have:=V.int.inj z
   omega
  ·intro z
   congr 1
   omega
 show Q (.bl (decide (V.int ((((pc (m.2.1&&&m'.2.2):Nat):Int)+((pc (m.2.2&&&m'.2.1):Nat):Int))%2)=V.int 0))) H
 rw[e]
 exact q
theorem sc_comall:FnScope ["mark","rows"] ["mark","rows"] (Z0i (top 41)):=fS
theorem Y8q (F:FunAt K "commutes_with_all" (top 41) .none)(X:K.In h)(G:Ng h mg)(B:Bs mg)(eQ:Cal P w K mg base k "commute" ["one","other"] (Y0h K)):Cal P w K mg base (k+1) "commutes_with_all" ["mark","rows"] (Y3r K):=by
 have nd:=sc_comall.nd
 refine F.cal X G sc_comall (bnd2 λ_ _ _ _ _ _ _ _=>rfl) (λvs H Q E' h=>?_) (λf cdv A outer s H vs Q E' hr h=>?_)
 ·obtain⟨pm,l,ps,ms,m,rfl,_⟩:=h;rfl
 obtain⟨pm,l,ps,ms,m,rfl,hpm,hS,hm,l12,com,kq⟩:=h
 have lps:(ps.map V.ref).length=ms.length:=by rw[q0a,hm.length]
 refine⟨_,(@Z0f _ _ _ (Z0k (Z0r (Z2f rfl) rfl B.all q6o (Z0a (Z3k rfl (LcOk.of (Nc:=["row","mark"]) (mp:=[none,some 0]) (by kernel_rfl)) (Z1e (pv 1)) (λ_ _ _ _=>(Z0p (i:=0) (show (["row","mark"]:W0).Nodup by decide +kernel) rfl (Or.inl rfl))) (λ_ _ _ _=>(Z0l eQ hr rfl (Z0a (pv 1) (Z0a (pv 0) Z0d))))) Z0d)))),?_⟩
 try dsimp only[cxK]
 refine⟨_,Z,l,Z,⟨_,hS⟩,λacc hacc=>?_⟩
 refine Z2u (K:=K) (a:=l) (xs:=ps.map V.ref) (fr:=[some (.ref pm)]) (λi ys H'=>Same H H'/\H' acc=some (.lst ys)/\ys=(List.replicate i true).map V.bl) (by rw[lps];exact s64 (by omega)) ⟨Z0g hacc _,Z0c,Z⟩ (λi ys H' e=>e.1.seq hS) ?_ ?_
 ·rintro i x ys HA NN hx hl ⟨SA,cA,rfl⟩ kN
  rw[q0c] at hx
  obtain⟨p,hp,rfl⟩:=q0h.mp hx
  obtain⟨r,hri,p0⟩:=hm.get hp
  refine⟨_,Z,_,Z,pm,p,m,r,Z,SqT.of (SA _ _ hpm),SqT.of (SA _ _ p0),?_⟩
  rw[q1f (com r (q0y hri))]
  refine kN _ _ cA ⟨Z0s SA hacc,Z0c,?_⟩
  rw[q4c,q0i]
  rfl
 rintro ys HB hlB ⟨SB',cB,rfl⟩
 refine⟨acc,_,Z,SqL.of cB,?_⟩
 rw[Z4k]
 exact kq HB SB'
theorem X1j {X:Cx}{scope:Scope}{Nc:W0}{ex:U3}{pins:U1}{s:U7}{H:Hp}:SlR (cxLc X scope Nc ex pins s H) (rSlL X.K):=Z8u
theorem X3c {K:U0}{l:W9}{g:TG}{xs:List V}{te:TE}{fr:L2.St}{H1:Hp}{acc:W9}{Q:VK}(f:Nat->V->V)(hn:xs.length<=sizeLine)(hacc:H1 acc=none)(hl:SqL K H1 l xs)
  (hg:∀ {a:W9}{x y:V}{w1 w2:Option V}{H:Hp}{Q:L2.St->Hp->Prop},H a=some (.tup [x,y])->Q (some x::some y::fr) H->g (.ref a) (w1::w2::fr) H Q)
  (hs:∀ i x H (N:V->Hp->Prop),xs[i]?=some x->Same H1 H->(∀ H',Same H H'->N (f i x) H')->te (some (.int i)::some x::fr) H N)
  (hd:∀ H2,Same H1 H2->H2 acc=some (.lst (xs.mapIdx f))->Q (.ref acc) H2):LcW (Ite K l) g te (none::none::fr) H1 acc Q:=by
 refine⟨λi m zs σ2 H2=>m=xs.length-i/\i<=xs.length/\(∃ v w,σ2=v::w::fr)/\Same H1 H2/\H2 acc=some (.lst zs)/\zs=(xs.take i).mapIdx f,⟨xs.length,by simp,q1l _,⟨_,_,Z⟩,Z0g hacc _,Z0c,by simp⟩,?_⟩
 rintro i m zs σ2 H2 ⟨rfl,hi,⟨v,w,rfl⟩,s2,a2,e2⟩
 by_cases hlt:i<xs.length
 ·have e1:xs[i]?=some xs[i]:=by simp[hlt]
  refine .inr ⟨⟨xs,_,s2.seq hl,e1⟩,λu H3 y3=>?_⟩
  obtain⟨T,x,rfl,hT,rfl,h1⟩:=y3
  have hx:=h1 xs (s2.seq hl)
  have sT:=Z0g hT (.tup [.int i,x])
  have zl:zs.length=i:=by rw[e2,q7b,q2b];omega
  refine hg (x:=.int i) (y:=x) Z0c (hs i x _ _ hx (s2.trans sT) λH' s'=>⟨s' _ _ (sT _ _ a2),by omega,xs.length-(i+1),by omega,Z,hlt,⟨_,_,Z⟩,Z0s ((s2.trans sT).trans s') hacc,Z0c,?_⟩)
  rw[q1m,hx,q1w,q7a,e2]
  have:(xs.take i).length=i:=by rw[q2b];omega
  simp[this]
 ·have e:i=xs.length:=by omega
  subst e
  exact .inl ⟨⟨xs,s2.seq hl,q0g _⟩,hd H2 s2 (by rw[a2,e2,q2e])⟩
theorem W1z {xs:List V}{i:Nat}(h:i<=xs.length):cutV xs none (some (i:Int))=xs.take i:=by
 unfold cutV
 have e1:HT.sIx xs.length 0 none=0:=rfl
 have e2:HT.sIx xs.length xs.length (some (i:Int))=i:=by rw[HT.Y7l];exact Nat.min_eq_left h
 rw[e1,e2]
 rfl
theorem Mks.take {H:Hp}:∀ {ps:U3}{ms:List Mk} (i:Nat),Mks H ps ms->Mks H (ps.take i) (ms.take i)
 | [],[],_,.nil=>by rw[List.take_nil,List.take_nil];exact .nil
 | _::_,_::_,0,_=>.nil
 | _::_,_::_,i+1,.cons a r=>.cons a (Mks.take i r)
theorem Y1u {ms:List Mk}{x i:Nat}(hi:i<=ms.length):chosen (ms.take i) x i=chosen ms x i:=by
 unfold chosen
 refine q5g λp hp=>?_
 have:=Z4b hp
 rw[q0b,q0b,List.getElem?_take,if_pos this]
theorem X2v {ms:List Mk}(I:Indep ms){i kk x:Nat}(hi:i<ms.length)(q:(ms.getD i (0,0,0)).1<4)(k4:kk<4)(h:(chosen (ms.take i) x (ms.take i).length).foldl mul (kk,0,0)=ms.getD i (0,0,0)):False:=by
 have lt:(ms.take i).length=i:=by rw[q2b];omega
 rw[lt,Y1u (by omega),Z5j k4] at h
 have hx:=q1v x (q0o i)
 have eE:E ms (x%2^i)=prod (chosen ms x i):=by
  unfold E
  obtain⟨d,hd⟩:∃ d,ms.length=i+d:=⟨ms.length-i,by omega⟩
  rw[hd,Z2h ms hx d,Z2o]
 have e1:=W2o ms hi q
 have p2:2^i<2^ms.length:=q2d (by decide) hi
 have:=Y2y I (q5i hx p2) p2 (by rw[eE,e1,<-h])
 omega
structure Tb3 (N:Nat) (H:Hp) (l:W9) (ps:U3) (ms:List Mk):Prop where
 lst:H l=some (.lst (ps.map V.ref))
 mks:Mks H ps ms
 ok:∀ m∈ms,Okm N m
 tb:M53.Tb ms
 len:ms.length<=12
def Y0f:Sp:=λvs H Q _=>∃ (l:W9) (ps:U3) (ms:List Mk) (N:Nat),vs=[.ref l,.int N]/\Tb3 N H l ps ms/\1<=N/\N<=6/\∀ H',Same H H'->Q (.bl true) H'
theorem am:¬ (V.str "apart"=V.str "made"):=λe=>absurd (V.str.inj e) (by decide +kernel)
theorem sc_istable:FnScope ["rows","cells"] ["rows","cells"] (Z0i (top 40)):=fS
theorem Y5u (F:FunAt K "is_table" (top 40) .none)(X:K.In h)(G:Ng h mg)(B:Bs mg)(c9:Cal P w K mg base k "is_whole" ["thing"] Z3j)(dH:Cal P w K mg base k "is_even_mark" ["thing","cells"] spEvM)
  (cU:Cal P w K mg base k "commutes_with_all" ["mark","rows"] (Y3r K)) (cW:Cal P w K mg base k "made_of" ["rows","mark","cells"] (Z8q K)):Cal P w K mg base (k+1) "is_table" ["rows","cells"] Y0f:=by
 have nd:=sc_istable.nd
 refine F.cal X G sc_istable (bnd2 λ_ _ _ _ _ _ _ _=>rfl) (λvs H Q E' h=>?_) (λf cdv A outer s H vs Q E' hr h=>?_)
 ·obtain⟨l,ps,ms,N,rfl,_⟩:=h;rfl
 obtain⟨l,ps,ms,N,rfl,T,N1,N6,kq⟩:=h
 have hS:SqL K H l (ps.map V.ref):=SqL.of T.lst
 have lps:(ps.map V.ref).length=ms.length:=by rw[q0a,T.mks.length]
 have l6:=T.len
 refine⟨_,(@Z0e _ _ _ _ _ (Z0w (PW.pt (Z3y (Z1y (Z1n (Z0r Z1r rfl B.isinstance q2w (Z0a (pv 0) (Z0a (Z3l (v:=.ty "list") rfl B.list boot_list rfl) Z0d))))) (Z3y (Z1y (Z1n (Z0l c9 hr rfl (Z0a (pv 1) Z0d)))) (Z3x (Z0n Z7c (pv 1) Z0b (nomark _))))))
   (@Z0f _ _ _ (Z0k Z3g))
   Z0o)
  (@Z0e _ _ _ _ _ (Z0w (Z1y (Z1n (Z0r (Z2f rfl) rfl B.all q6o (Z0a (Z3k rfl (LcOk.of (Nc:=["row","cells"]) (mp:=[none,some 1]) (by kernel_rfl)) (Z1e (pv 0)) (λ_ _ _ _=>(Z0p (i:=0) (show (["row","cells"]:W0).Nodup by decide +kernel) rfl (Or.inl rfl))) (λ_ _ _ _=>(Z0l dH hr rfl (Z0a (pv 0) (Z0a (pv 1) Z0d))))) Z0d))))
   (@Z0f _ _ _ (Z0k Z3g))
   Z0o)
  (@Z0e _ _ _ _ _ (Z0w (Z1y (Z1n (Z0r (Z2f rfl) rfl B.all q6o (Z0a (Z3k rfl (LcOk.of (Nc:=["row","rows"]) (mp:=[none,some 0]) (by kernel_rfl)) (Z1e (pv 0)) (λ_ _ _ _=>(Z0p (i:=0) (show (["row","rows"]:W0).Nodup by decide +kernel) rfl (Or.inl rfl))) (λ_ _ _ _=>(Z0l cU hr rfl (Z0a (pv 0) (Z0a (pv 1) Z0d))))) Z0d))))
   (@Z0f _ _ _ (Z0k Z3g))
   Z0o)
  (@Z0f _ _ _ (Z0k (Y4b (Z0r (Y1i rfl) rfl B.any boot_any (Z0a (Z3k rfl (LcOk.of (Nc:=["place","row","rows","cells"]) (mp:=[none,none,some 0,some 1]) (by kernel_rfl)) (Z5l rfl B.enumerate (Z0a (pv 0) Z0d)) (λ_ _ _ _=>(Z6e rfl (show (["place","row","rows","cells"]:W0).Nodup by decide +kernel) rfl rfl rfl rfl)) (λ_ _ _ _=>(Z1p Z1k (Z0m Z4p (Z0l cW hr rfl (Z0a (Z2q X1j (pv 2) Z5k (Z2i (pv 0))) (Z0a (pv 1) (Z0a (pv 3) Z0d)))) Z0b (λ_ _=>rfl)) Z1l (nomark _)))) Z0d)))))))),?_⟩
 try dsimp only[cxK]
 refine⟨_,Z,_,_,_,true,Z,TyOf.lst T.lst,X5a K,_,Z,iteF ⟨_,Z,_,Z,_,Z,iteF ⟨_,Z,_,_,Z,Z,_,Z,decI (λz=>absurd z (by omega)) (λ_=>?_)⟩⟩⟩
 refine⟨_,Z,l,Z,⟨_,hS⟩,λacc hacc=>?_⟩
 refine Z2u (K:=K) (a:=l) (xs:=ps.map V.ref) (fr:=[some (.int N)]) (λi ys H'=>Same H H'/\H' acc=some (.lst ys)/\ys=(List.replicate i true).map V.bl) (by rw[lps];exact s64 (by omega)) ⟨Z0g hacc _,Z0c,Z⟩ (λi ys H' e=>e.1.seq hS) ?_ ?_
 ·rintro i x ys HA NN hx hl ⟨SA,cA,rfl⟩ kN
  rw[q0c] at hx
  obtain⟨p,hp,rfl⟩:=q0h.mp hx
  obtain⟨r,hri,p0⟩:=T.mks.get hp
  have mem:=q0y hri
  refine⟨_,Z,_,Z,p,r,N,Z,SA _ _ p0,T.ok r mem,T.tb.nice.even r mem,?_⟩
  refine kN _ _ cA ⟨Z0s SA hacc,Z0c,?_⟩
  rw[q4c,q0i]
  rfl
 rintro ys H1 hl1 ⟨S1,c1,rfl⟩
 refine⟨acc,_,Z,SqL.of c1,_,Z,nblI (λz=>absurd z (by rw[Z4k];decide)) (λ_=>?_)⟩
 refine⟨_,Z,l,Z,⟨_,S1.seq hS⟩,λacc2 hacc2=>?_⟩
 refine Z2u (K:=K) (a:=l) (xs:=ps.map V.ref) (fr:=[some (.ref l)]) (λi ys H'=>Same H1 H'/\H' acc2=some (.lst ys)/\ys=(List.replicate i true).map V.bl) (by rw[lps];exact s64 (by omega)) ⟨Z0g hacc2 _,Z0c,Z⟩ (λi ys H' e=>(S1.trans e.1).seq hS) ?_ ?_
 ·rintro i x ys HA NN hx hl ⟨SA,cA,rfl⟩ kN
  rw[q0c] at hx
  obtain⟨p,hp,rfl⟩:=q0h.mp hx
  obtain⟨r,hri,p0⟩:=T.mks.get hp
  have mem:=q0y hri
  have SS:=S1.trans SA
  refine⟨_,Z,_,Z,p,l,ps,ms,r,Z,SS _ _ p0,SS.seq hS,T.mks.same SS,by omega,T.tb.nice.com r mem,λHB SB=>?_⟩
  refine kN _ _ (SB _ _ cA) ⟨Z0s (SA.trans SB) hacc2,Z0c,?_⟩
  rw[q4c,q0i]
  rfl
 rintro ys H2 hl2 ⟨S2,c2,rfl⟩
 have S02:=S1.trans S2
 refine⟨acc2,_,Z,SqL.of c2,_,Z,nblI (λz=>absurd z (by rw[Z4k];decide)) (λ_=>?_)⟩
 refine⟨_,Z,l,_,Z,S02.seq hS,λacc3 hacc3=>?_⟩
 refine X3c (l:=l) (xs:=ps.map V.ref) (fr:=[some (.ref l),some (.int N)]) (λ_ _=>.bl false) (by rw[lps];exact s64 (by omega)) hacc3 (S02.seq hS) (λh q=>⟨_,_,Z,SqT.of h,Z,_,_,Z,_,_,Z,Z,q⟩) ?_ ?_
 ·intro i x H3 NN hx S3 kN
  have ilt:i<(ps.map V.ref).length:=(q0l.mp hx).1
  rw[q0c] at hx
  obtain⟨p,hp,rfl⟩:=q0h.mp hx
  obtain⟨r,hri,p0⟩:=T.mks.get hp
  have mem:=q0y hri
  have eg:ms.getD i (0,0,0)=r:=by rw[q0b,hri];rfl
  have SS:=S02.trans S3
  refine⟨_,Z,_,Z,_,Z,l,_,Z,SS.seq hS,λcp hcp=>?_⟩
  rw[W1z (by omega),<-List.map_take]
  have s4:=Z0g hcp (.lst ((ps.take i).map V.ref))
  refine⟨_,Z,_,Z,cp,p,ps.take i,ms.take i,r,N,Z,SqL.of Z0c,((T.mks.same SS).same s4).take i,s4 _ _ (SS _ _ p0),N6,by rw[q2b];omega,λm hm=>T.ok m (List.mem_of_mem_take hm),T.ok r mem,λrt H5 S5 told=>?_⟩
  rcases told with ⟨k1,y,ln,_,hrt,_,k4,hf⟩ | ⟨pp,o,hrt,_⟩
  ·rw[<-eg] at hf
   exact(X2v T.tb.ind (by omega) (by rw[eg];exact T.tb.nice.q r mem) k4 hf).elim
  ·refine⟨rt,_,_,_,Z,Z,SqT.of hrt,Z,Z,?_⟩
   rw[q0w am]
   exact kN H5 (s4.trans S5)
 ·intro H3 S3 a3
  have e:((ps.map V.ref).mapIdx λ_ _=>V.bl false)=(List.replicate (ps.map V.ref).length false).map V.bl:=by
   apply q5e
   ·simp
   ·intro i h1 h2;simp
  rw[e] at a3
  refine⟨acc3,_,Z,SqL.of a3,_,Z,?_⟩
  rw[show (List.replicate (ps.map V.ref).length false).any id=false by simp]
  exact kq H3 (S02.trans S3)
end
end K63T
namespace L2
theorem Y4a {α β:Type}{f:α->β}:∀ {l m:List β},l.Perm m->∀ {r:List α},m=r.map f->∃ r':List α,r'.Perm r/\l=r'.map f:=by
 intro l m h
 induction h with
 | nil =>
  intro r e
  cases r with
  | nil=>exact⟨[],.nil,rfl⟩
  | cons=>cases e
 | cons x h ih =>
  intro r e
  cases r with
  | nil=>cases e
  | cons y r =>
   rw[q0z] at e
   injection e with e1 e2
   obtain⟨r',p,e'⟩:=ih e2
   exact⟨y::r',p.cons y,by rw[q0z,e1,e']⟩
 | swap x y l =>
  intro r e
  cases r with
  | nil=>cases e
  | cons a r =>
   cases r with
   | nil=>cases e
   | cons b r =>
    rw[q0z,q0z] at e
    injection e with e1 e2
    injection e2 with e2 e3
    exact⟨b::a::r,.swap _ _ _,by rw[q0z,q0z,e1,e2,e3]⟩
 | trans h1 h2 ih1 ih2 =>
  intro r e
  obtain⟨r2,p2,e2⟩:=ih2 e
  obtain⟨r1,p1,e1⟩:=ih1 e2
  exact⟨r1,p1.trans p2,e1⟩
theorem Z8j:∀ {xs:List V}{us:U5},Vals xs us->∀ p∈xs.zip us,RelV p.1 p.2
 | _,_,.nil,_,h=>nomatch h
 | _,_,.cons r rs,p,h=>by
  rw[q5p] at h
  rcases q0t.mp h with rfl | h
  ·exact r
  ·exact Z8j rs p h
theorem Z6l:∀ {l:List (V × Value)},(∀ p∈l,RelV p.1 p.2)->Vals (l.map (·.1)) (l.map (·.2))
 | [],_=>.nil
 | p::l,h=>.cons (h p (.head _)) (Z6l λq hq=>h q (.tail _ hq))
theorem zip3 {kz:U6}:∀ {xs:List V}{us:U5},xs.length=us.length →
  kz.zip us=(kz.zip (xs.zip us)).map (λt=>(t.1,t.2.2))/\kz.zip xs=(kz.zip (xs.zip us)).map (λt=>(t.1,t.2.1)):=by
 induction kz with
 | nil=>intro xs us _;exact⟨rfl,rfl⟩
 | cons k kz ih =>
  intro xs us h
  cases xs with
  | nil =>
   cases us with
   | nil=>exact⟨rfl,rfl⟩
   | cons=>cases h
  | cons x xs =>
   cases us with
   | nil=>cases h
   | cons u us =>
    obtain⟨a,b⟩:=ih (xs:=xs) (us:=us) (Nat.succ.inj h)
    simp only[q5p,q0z]
    exact⟨by rw[<-a],by rw[<-b]⟩
theorem X1v {kz:U6}{xs:List V}{us out:U5}(r:Vals xs us)(h:KskOut false kz us out) :
  ∃ ps:List (Int × V),ps.Perm (kz.zip xs)/\Vals (ps.map (·.2)) out/\ps.Pairwise λp q=>p.1<=q.1:=by
 obtain⟨ps,hp,ho,hs⟩:=h
 obtain⟨e1,e2⟩:=zip3 (kz:=kz) r.length
 obtain⟨l,pl,el⟩:=Y4a hp e1
 refine⟨l.map λt=>(t.1,t.2.1),?_,?_,?_⟩
 ·rw[e2]
  exact pl.map _
 ·have hr:∀ p∈l.map (·.2),RelV p.1 p.2:=λp hp=>by
   obtain⟨t,ht,rfl⟩:=q1q.mp hp
   have:=pl.mem_iff.mp ht
   exact Z8j r _ (q6t (a:=t.1) (b:=t.2) this).2
  have hv:=Z6l hr
  rw[ho,el]
  simp only[q2v] at hv ⊢
  exact hv
 ·rw[el] at hs
  rw[q4f] at hs ⊢
  exact hs
theorem X9v {prog:U8}{w:W1}{A:W6}{E:U2}{s:U7}{D kS:W9}{us:U5}{kz:U6}{keys:U9}{e e1:Nat}{P:PySem.Fin->Shared->Prop}
  (nk:s.heap.get? kS=some (seqObj "list" keys e)) (nd:s.heap.get? D=some (seqObj "list" #[] e1)) (hkd:kS≠D) (hk:IntsAre keys.toList kz) (hl:kz.length=us.length) (h64:us.length<64)
  (h:∀ (h1 h2:Heap) (out:U9) (c:Nat),(∀ b,b≠kS->h1.get? b=s.heap.get? b)->(∀ b,b≠D->h2.get? b=h1.get? b)->h2.get? D=some (seqObj "list" out c)->KskOut false kz us out.toList->P (.done (.ret .none)) { s with heap:=h2 }) :
  wpAny (model prog w) A (ksk_end D false us.toArray e1 (.ref kS) keys) P E s:=by
 have hn:keys.size=us.length:=by
  have:=hk.length
  rw[q1s] at this
  exact this.trans hl
 have hzn:(keys.zip us.toArray).size=us.length:=by rw[Array.size_zip,hn,q0m,Nat.min_self]
 have l64:(64:Nat)<=sizeLine:=by decide
 have tail:∀ st:SortSt,(arrOf st).Perm (keys.zip us.toArray)->SortedTo (arrOf st) (arrOf st).size->failedOf st=none->wpAny (model prog w) A (ksk_tail D false e1 (.ref kS) st) P E s:=by
  intro st hp hs hf
  have hz:((arrOf st).map (·.2)).size=us.length:=by rw[Array.size_map,hp.size_eq,hzn]
  obtain⟨_,q1⟩:=Heap.SameBut.update s.heap kS (Obj.mapSeq λ_=>(#[]:U9))
  have nd1:=(q1 D hkd.symm).trans nd
  obtain⟨_,q2⟩:=Heap.SameBut.update (s.heap.update kS (Obj.mapSeq λ_=>(#[]:U9))) D (Obj.mapSeq λ_=>(arrOf st).map (·.2))
  have nd2:=q6r nd1 λ_=>(arrOf st).map (·.2)
  unfold ksk_tail
  simp only[q3z,q4o]
  refine q0e (q6n nk rfl ?_ (by rw[hn];omega) (q1l _))
  refine q0e (wpAny_letGo (q0e (seqEpoch_at nd1 rfl ?_)))
  refine q0e (q6n nd1 rfl ?_ (q1l _) (by omega))
  rw[hf]
  simp only[bne_self_eq_false,q3z,q4o]
  exact q0s (h _ _ _ _ q1 q2 nd2 (ksk_out (b:=false) hk hp hs))
 unfold ksk_end
 dsimp only
 rw[if_neg q0p]
 by_cases h2:us.toArray.size<2
 ·rw[if_pos h2,if_pos h2]
  refine q0e (q0s ?_)
  rw[StateT.run_pure]
  refine q0e (q0s (tail _ (Array.Perm.refl _) (λi j hij hj=>?_) rfl))
  have hj':j<(keys.zip us.toArray).size:=hj
  rw[q0m] at h2
  have:i=j:=by omega
  rw[this]
  exact q3s _
 ·rw[if_neg h2,if_neg h2,ksk_kind hk (by rw[hn];rw[q0m] at h2;omega)]
  rw[q0m] at h2
  refine q0e (q0s (q0e (q2c (wpS_sortRuns (a₀:=keys.zip us.toArray)
   (Q:=λ_ t=>(arrOf t).Perm (keys.zip us.toArray)/\failedOf t=none/\SortedTo (arrOf t) (keys.zip us.toArray).size) (ksk_intKeys hk) ⟨Array.Perm.refl _,Z,Z,Z⟩ (by rw[hzn];omega) (by rw[hzn];omega) λt a b c=>⟨a,b,c⟩) ?_ λ_ _ z=>z)))
  rintro ⟨⟨⟩,t⟩ s' ⟨rfl,hp,hf,hs⟩
  exact tail t hp (by rw[hp.size_eq];exact hs) hf
noncomputable def Cx.low (X:Cx):Cx:={ X with A:=X.A.in1.in1,xe:=Calm }
theorem Cx.Ok.low {X:Cx}(o:X.Ok):X.low.Ok:=⟨o.1,o.2,o.3,o.4,o.5,o.6,o.7,o.8,o.9,o.10,o.11,o.12,o.13,o.14,o.15,o.16,o.17,o.18⟩
section
variable {X:Cx}{pins:U1}{σ:St}{H:Hp}{s:U7}
theorem Inv.low (I:Inv X pins σ H s):Inv X.low pins σ H s:=⟨I.ok.low,I.2,I.3,I.4,I.5,I.6,I.7,I.8,I.9,I.10,I.11⟩
theorem Inv.high (I:Inv X.low pins σ H s)(o:X.Ok):Inv X pins σ H s:=⟨o,I.2,I.3,I.4,I.5,I.6,I.7,I.8,I.9,I.10,I.11⟩
theorem Inv.track {D:W9}{ys:List V}{us:U5}{n:Nat}(I:Inv X pins σ H s)(f:FpOk X pins H D)(hz:ys.length<=sizeLine)(r:Vals ys us)(e:s.heap.get? D=some (seqObj "list" us.toArray n)) :
  Inv X pins σ (upd H D (.lst ys)) s:=by
 have far:∀ b u,H b=some u->b≠D:=λb u q z=>by rw[z,f.1] at q;cases q
 refine I.step (h':=s.heap) (g':=s.gens) (d':=s.drawn) (t':=s.toks) (ch:=[D]) (λb hb=>?_) (λb o _ _ _ q _=>q) (λb o _ _ _ q _=>⟨o.slots,q⟩) (λb o hc _ q=>?_) (λb o _ q=>⟨o,q⟩)
  (λb xs q=>?_) (λb o u q=>?_) (λb ps q=>⟨#[],?_⟩) (λm hm=>hm) (λb u q=>?_) I.bare
 ·cases q0r.mp hb
  exact⟨f.2.2.2.1,f.2.1,f.2.2.2.2.1,f.2.2.2.2.2⟩
 ·rw[Z0x λz=>hc (q0r.mpr z)];exact q
 ·rw[Z0x (far _ _ q)];exact q
 ·rw[Z0x (far _ _ q)];exact q
 ·rw[Z0x (far _ _ q),q];simp
 ·by_cases hb:b=D
  ·subst hb
   rw[Z0c] at q
   cases q
   exact⟨hz,us,n,r,e⟩
  ·rw[Z0x hb] at q
   exact(I.hok b u q).stay (λ_ _ _ q=>q) (λc q=>by rw[Z0x (far _ _ q)];exact q) λc xs q=>by rw[Z0x (far _ _ q)];exact q
end
theorem Y1e {X:Cx}{k:Nat}{f:W9}{fd:FuncData}{p0:Str}{sp:Sp}(F:FnOk X.prog X.w X.K X.mg X.base CX0 k f fd [p0] sp)(hb:Binds X.K fd [p0] [])(hr:Room (k+2) X.A)
  {pins:U1}{s:U7}{σ:St}{H:Hp}{l:W9}{xs:List V}{kz:U6}{Q:VK} (I:Inv X pins σ H s) (hl:H l=some (.lst xs)) (hkz:kz.length=xs.length) (h64:xs.length<64)
  (turn:∀ (i:Nat) x z,xs[i]?=some x->kz[i]?=some z->sp [x] H (λv H'=>v=.int z/\H'=H) E0)
  (q:∀ (D:W9) (ps:List (Int × V)),H D=none->ps.Perm (kz.zip xs)->ps.Pairwise (λa b=>a.1<=b.1)->Q (.ref D) (upd H D (.lst (ps.map (·.2))))) :
  wpAny (model X.prog X.w) X.A (call (.builtin "sorted") [.ref l] [(Str.ofString "key",.ref f)]) (EP X pins σ Q) X.xe s:=by
 obtain⟨_,its,n,rv,el,ho⟩:=I.lstM hl
 have hlen:its.length<64:=by omega
 have l64:(64:Nat)<=sizeLine:=by decide
 have hzi:kz.length=its.length:=hkz.trans el
 refine call_function_entry_kw kind_sorted q9d q9e (ksk_s1 _ _) ?_
 unfold Builtin.«sorted»
 refine q0e (m:=checkCount "sorted" 1 1 _) (q0s ?_)
 refine q0e (collect_list (vs:=its) ⟨_,ho,Z,n,Z⟩ ?_ (by omega))
 have k0:∀ b o,s.heap.get? b=some o->((s.heap.push (seqObj "list" #[] 0)).update s.heap.objs.size (Obj.mapSeq (·++its.toArray))).get? b=some o:=λb o x=>by
  rw[q4k _ _ _ _ (q0x (q0j x))]
  exact q0f _ x
 have z0:s.heap.objs.size<=((s.heap.push (seqObj "list" #[] 0)).update s.heap.objs.size (Obj.mapSeq (·++its.toArray))).objs.size:=by
  rw[q7t,q8q]
  exact Nat.le_succ _
 revert k0 z0
 generalize (s.heap.push (seqObj "list" #[] 0)).update s.heap.objs.size (Obj.mapSeq (·++its.toArray))=g
 intro k0 z0
 refine q0e (q6m ?_ (by omega))
 have oD:(g.push (seqObj "list" its.toArray 0)).get? g.objs.size=some (seqObj "list" its.toArray 0):=q0q _ rfl
 have k1:∀ b o,s.heap.get? b=some o->(g.push (seqObj "list" its.toArray 0)).get? b=some o:=λb o x=>q0f _ (k0 b o x)
 have z1:(g.push (seqObj "list" its.toArray 0)).objs.size=g.objs.size+1:=q8q ..
 revert z0 oD k1 z1
 generalize g.push (seqObj "list" its.toArray 0)=g1
 generalize g.objs.size=D
 intro z0 oD k1 z1
 refine q0e (q3w (wpAny_call_entry_kw q8t ⟨_,oD,Z⟩ q8d ?_ (ksk_l1 _ _)))
 show wpAny (model X.prog X.w) X.low.A (Builtin.«list.sort» ⟨[.ref D],[(Str.ofString "key",.ref f)]⟩) _ _ _
 rw[ksk_t1]
 unfold ksk_tree
 refine q0e (q8b oD rfl ?_)
 refine q0e (q6n oD rfl ?_ (by rw[q0m];omega) (q1l _))
 obtain⟨e1,oD1⟩:∃ e1,(g1.update D (Obj.mapSeq λ_=>(#[]:U9))).get? D=some (seqObj "list" #[] e1):=⟨_,q6r oD λ_=>#[]⟩
 have k2:∀ b o,s.heap.get? b=some o->(g1.update D (Obj.mapSeq λ_=>(#[]:U9))).get? b=some o:=λb o x=>by
  rw[q4k _ _ _ _ (q0x (q0k (q0j x) z0))]
  exact k1 b o x
 have z2:D<(g1.update D (Obj.mapSeq λ_=>(#[]:U9))).objs.size:=by rw[q7t,z1];exact q2l _
 revert oD1 k2 z2
 show _->_->_->wpAny _ _ _ _ _ { s with heap:=g1.update D (Obj.mapSeq λ_=>(#[]:U9)) }
 generalize g1.update D (Obj.mapSeq λ_=>(#[]:U9))=g2
 intro oD1 k2 z2
 refine q0e (seqEpoch_at oD1 rfl ?_)
 refine q0e (wpAny_newTuple ?_ (by show its.length<=_;omega))
 have k3:∀ b o,g2.get? b=some o->(g2.push (seqObj "tuple" its.toArray 0)).get? b=some o:=λb o x=>q0f _ x
 have z3:(g2.push (seqObj "tuple" its.toArray 0)).objs.size=g2.objs.size+1:=q8q ..
 revert k3 z3
 show _->_->wpAny _ _ _ _ _ { s with heap:=g2.push (seqObj "tuple" its.toArray 0) }
 generalize g2.push (seqObj "tuple" its.toArray 0)=g3
 intro k3 z3
 refine q0e (q6m ?_ (q1l _))
 have oK:(g3.push (seqObj "list" (#[]:U9) 0)).get? g3.objs.size=some (seqObj "list" #[] 0):=q0q _ rfl
 have k4:∀ b o,g3.get? b=some o->(g3.push (seqObj "list" (#[]:U9) 0)).get? b=some o:=λb o x=>q0f _ x
 have zK:D<g3.objs.size:=by omega
 revert oK k4 zK
 show _->_->_->wpAny _ _ _ _ _ { s with heap:=g3.push (seqObj "list" (#[]:U9) 0) }
 generalize g3.push (seqObj "list" (#[]:U9) 0)=g4
 generalize g3.objs.size=kS
 intro oK k4 zK
 have hn:∀ b,s.heap.objs.size<=b->H b=none:=λb x=>I.hok.fresh x
 have fD:FpOk X.low pins H D:=I.fpOk z0 (hn D z0)
 have fK:FpOk X.low pins H kS:=I.fpOk (by omega) (hn kS (by omega))
 have hne:kS≠D:=q3p zK
 have pin2:∀ {s':U7}{kA:U9}{e:Nat},Inv X.low pins σ H s'->s'.heap.get? kS=some (seqObj "list" kA e)->s'.heap.get? D=some (seqObj "list" #[] e1) →
   Inv X.low (pins++[(kS,seqObj "list" kA e),(D,seqObj "list" #[] e1)]) σ H s':=λ{s' kA e} J a b=>J.pins_of λp hp=>by
  rcases q1b.mp hp with hp | hp
  ·exact J.pin p (q0n _ hp)
  ·rcases q0t.mp hp with rfl | hp
   ·exact⟨a,fK.1,fK.2.1,fK.2.2.1,λv z=>by cases z⟩
   ·cases q0r.mp hp
    exact⟨b,fD.1,fD.2.1,fD.2.2.1,λv z=>by cases z⟩
 have at2:∀ {s':U7}{kA:U9}{e:Nat},Inv X.low (pins++[(kS,seqObj "list" kA e),(D,seqObj "list" #[] e1)]) σ H s'->s'.heap.get? kS=some (seqObj "list" kA e)/\s'.heap.get? D=some (seqObj "list" #[] e1):=λJ =>
  ⟨(J.pin (kS,_) (q0n _ (q0n _ (.head _)))).1,(J.pin (D,_) (q0n _ (q0n _ (.tail _ (.head _))))).1⟩
 have I4:Inv X.low pins σ H { s with heap:=g4 }:=I.low.kept (t':=s.toks) λb o x=>k4 b o (k3 b o (k2 b o x))
 have hr2:Room k X.low.A:=hr.in1.in1
 refine q3w ?_
 unfold ksk_rest
 refine q0e (wpAny_rule ?_)
 rw[List.forIn_toArray]
 refine q0e (ksk_fold (λi s'=>∃ kA e,Inv X.low (pins++[(kS,seqObj "list" kA e),(D,seqObj "list" #[] e1)]) σ H s'/\IntsAre kA.toList (kz.take i)) its 0 _
  ⟨#[],0,pin2 I4 oK (k4 _ _ (k3 _ _ oD1)),by simpa using IntsAre.nil⟩ (λj u s' hu J=>?_) λs' J=>?_)
 ·obtain⟨kA,e,J,hk⟩:=J
  rw[q2u] at hk ⊢
  have hj:j<its.length:=(q0l.mp hu).1
  obtain⟨z,hz⟩:∃ z,kz[j]?=some z:=⟨_,q0d (by omega)⟩
  obtain⟨x,hx⟩:∃ x,xs[j]?=some x:=⟨_,q0d (by omega)⟩
  have rx:RelV x u:=Z8j rv (x,u) (q8i.mpr ⟨j,by rw[List.getElem?_zip_eq_some];exact⟨hx,hu⟩⟩)
  have hA:kA.size<=its.length:=by
   have:=hk.length
   rw[q1s,q2b] at this
   omega
  refine q0e (wpAny_attempt (q2c (X4l (X:=X.low) (us:=[u]) (vs:=[x]) (ds:=[]) (dvs:=[]) F hr2 hb .nil pass0 J (.cons rx .nil) (turn j x z hx hz)) (λv s2 c=>?_) λ_ _ c=>c.elim))
  obtain⟨y,H2,J2,ry,rfl,rfl⟩:=c
  obtain⟨t,rfl⟩:=ry
  obtain⟨a1,a2⟩:=at2 J2
  dsimp only
  refine q0e (q6n a1 rfl ?_ (by omega) (by rw[Array.size_push];omega))
  have J3:=J2.unpinned.turned (t':=s2.toks) (h':=s2.heap.update kS (Obj.mapSeq (·.push (.int z t)))) (it:=kS) (λb o h x=>by rw[q4k _ _ _ _ h];exact x) fK.1 fK.2.1 fK.2.2.2.1 fK.2.2.2.2.1 fK.2.2.2.2.2
  refine q0s ⟨Z,kA.push (.int z t),_,pin2 J3 (q6r a1 _) ((q4k _ _ _ _ hne.symm).trans a2),?_⟩
  rw[q1m,hz,Array.toList_push]
  exact ksk_snoc hk
 ·obtain⟨kA,e,J,hk⟩:=J
  rw[q2u,<-hzi,q2e] at hk
  obtain⟨a1,a2⟩:=at2 J
  refine q0e (q8b a1 rfl ?_)
  refine X9v a1 a2 hne hk hzi hlen λh1 h2 out c q1 q2 oD2 ko=>⟨_,Z,q0s ⟨_,Z,?_⟩⟩
  obtain⟨ps,pp,pv,po⟩:=X1v rv ko
  have J1:=J.unpinned.turned (t':=s'.toks) (h':=h1) (it:=kS) (λb o h x=>by rw[q1 b h];exact x) fK.1 fK.2.1 fK.2.2.2.1 fK.2.2.2.2.1 fK.2.2.2.2.2
  have J2:=J1.turned (t':=s'.toks) (h':=h2) (it:=D) (λb o h x=>by rw[q2 b h];exact x) fD.1 fD.2.1 fD.2.2.2.1 fD.2.2.2.2.1 fD.2.2.2.2.2
  have hpl:(ps.map (·.2)).length<=sizeLine:=by
   have:=pp.length_eq
   rw[List.length_zip] at this
   rw[q0a]
   omega
  have J4:=J2.track fD hpl pv (n:=c) (by rw[q6l];exact oD2)
  exact⟨.ref D,_,J4.high I.ok,Z,q D ps (hn D z0) pp po⟩
def SortK (sp:Sp)(Q:VK)(v:V)(H1:Hp):Prop:=∃ (l:W9) (xs:List V) (kz:U6),v=.ref l/\H1 l=some (.lst xs)/\kz.length=xs.length/\xs.length<64 ∧
 (∀ (i:Nat) x z,xs[i]?=some x->kz[i]?=some z->sp [x] H1 (λv H'=>v=.int z/\H'=H1) E0) ∧
 ∀ (D:W9) (ps:List (Int × V)),H1 D=none->ps.Perm (kz.zip xs)->ps.Pairwise (λa b=>a.1<=b.1)->Q (.ref D) (upd H1 D (.lst (ps.map (·.2))))
def tSortK (sp:Sp)(te:TE):TE:=λσ H Q=>te σ H λv H1=>SortK sp Q v H1
theorem X1t {X:Cx}{k:Nat}{y p0:Str}{sp:Sp}{e:Expr}{te:TE}{p p2 kp pos:Pos}(c:Cal X.prog X.w X.K X.mg X.base k y [p0] sp)(hr:Room (k+2) X.A)(hg:Gl X "sorted")(hm:X.mg "sorted"=none)(hgy:Gl X y)(he:PE X e te)
  (hdy:(y == ("__debug__":Str))=false:=by decide) (hs:starEach [e] X.env=(false,eval e X.env)::starEach [] X.env:=by rfl) :
  PE X (.Call (.Name "sorted" p) [e] [⟨some "key",.Name y p2,kp⟩] pos) (tSortK sp te):=by
 intro pins s σ H Q I h
 obtain⟨f,fd,F,b,kpf,m⟩:=c.ex
 refine q5m (Z7g I hg hm boot_sorted ?_ (by decide) (by decide))
 refine callWith_kw (thn (Z0a he Z0d hs pos pins s σ H (λvs H1=>match vs with | [v]=>SortK sp Q v H1 | _=>False) I h) λus s1 ⟨vs,H1,I1,r,q1⟩=>?_) (by rw[hs];rfl) (by rw[hs];rfl) rfl rfl
 refine thn (X6q (Z3c (v:=.ref f) hgy m rfl hdy) W0b pos pins s1 σ H1 (λzs H2=>zs=[.ref f]/\H2=H1) I1 ⟨Z,Z⟩) λws s2 ⟨zs,H2,I2,rz,ez,eh⟩=>?_
 subst ez eh
 obtain⟨u,rfl,ru⟩:=vals1 rz
 cases ru
 match vs,r,q1 with
 | [v],r,q1 =>
  obtain⟨u,rfl,rv⟩:=vals1 r
  obtain⟨l,xs,kz,rfl,hl,e1,e2,t,q⟩:=q1
  cases rv
  exact Y1e F b hr I2 hl e1 e2 t q
end L2
namespace K63T
open L2 Pc K51 M54 M57
open M53 (IsLd vec V6 wl Z2d ev ldm)
theorem Z2w {X:Cx}{st:Stmt}:PS X st (λ_ _ _=>False):=λ_ _ _ _ _ _ h=>h.elim
theorem Mks.upd {H:Hp}{l:W9}{xs ys:List V}{ps:U3}{ms:List Mk}(h:Mks H ps ms)(hl:H l=some (.lst xs)):Mks (upd H l (.lst ys)) ps ms :=
 Paired.imp' (λ_ _ c=>by rw[Z0x (Z7e c hl (by intro z;cases z))];exact c) h
theorem Mks.zip {H:Hp}:∀ {ps:U3}{ms:List Mk},Mks H ps ms->(∀ t∈ps.zip ms,H t.1=some (T3 t.2))/\(ps.zip ms).map (·.1)=ps/\(ps.zip ms).map (·.2)=ms
 | [],[],.nil=>⟨λ_ h=>(nomatch h),rfl,rfl⟩
 | p::ps,m::ms,.cons a r=>by
  obtain⟨h1,h2,h3⟩:=Mks.zip r
  rw[q5p]
  refine⟨λt ht=>?_,by rw[q0z,h2],by rw[q0z,h3]⟩
  rcases q0t.mp ht with rfl | ht
  ·exact a
  ·exact h1 t ht
theorem Mks.ofzip {H:Hp}:∀ {l:List (Addr × Mk)},(∀ t∈l,H t.1=some (T3 t.2))->Mks H (l.map (·.1)) (l.map (·.2))
 | [],_=>.nil
 | t::l,h=>.cons (h t (.head _)) (Mks.ofzip λu hu=>h u (.tail _ hu))
theorem zipk:∀ {ds:U3}{D:List Mk}{g:Mk->Int},ds.length=D.length->(D.map g).zip (ds.map V.ref)=(ds.zip D).map λt=>(g t.2,V.ref t.1)
 | [],[],_,_=>rfl
 | d::ds,m::D,g,h=>by
  simp only[q0z,q5p]
  rw[zipk (Nat.succ.inj h)]
def Z6p:Sp:=λvs H Q _=>∃ (l:W9) (ps:U3) (ms:List Mk) (N:Nat),vs=[.ref l,.int N]/\Tb3 N H l ps ms/\1<=N/\N<=6 ∧
 ∀ (r:W9) (H':Hp) (qs:U3) (S:List Mk),Same H H'->H r=none->H' r=some (.lst (qs.map V.ref))->Mks H' qs S->M53.Dm ms S->S.length=ms.length->S.Pairwise (λa b=>ldm a<=ldm b)->Q (.ref r) H'
section
variable {P:U8}{w:W1}{K:U0}{mg:U4}{base:Heap}{k:Nat}{h:Heap}
def Y3s:Sp:=λvs H Q _=>∃ (l:W9) (ps:U3) (ms:List Mk) (N:Nat),vs=[.ref l,.int N]/\Tb3 N H l ps ms/\1<=N/\N<=6/\∀ H',Same H H'->Q .non H'
theorem sc_checkt:FnScope ["rows","cells"] ["rows","cells"] (Z0i (top 42)):=fS
theorem Y8r (F:FunAt K "check_table" (top 42) .none)(X:K.In h)(G:Ng h mg)(eG:Cal P w K mg base k "is_table" ["rows","cells"] Y0f):Cal P w K mg base (k+1) "check_table" ["rows","cells"] Y3s:=by
 have nd:=sc_checkt.nd
 refine F.cal X G sc_checkt (bnd2 λ_ _ _ _ _ _ _ _=>rfl) (λvs H Q E' h=>?_) (λf cdv A outer s H vs Q E' hr h=>?_)
 ·obtain⟨l,ps,ms,N,rfl,_⟩:=h;rfl
 obtain⟨l,ps,ms,N,rfl,T,N1,N6,kq⟩:=h
 refine⟨_,(@Z0f _ _ _ (Z0w (Z1y (Z1n (Z0l eG hr rfl (Z0a (pv 0) (Z0a (pv 1) Z0d)))))
   (@Z0f _ _ _ Z2w)
   Z0o)),?_⟩
 try dsimp only[cxK]
 exact⟨_,Z,_,Z,l,ps,ms,N,Z,T,N1,N6,λH1 S1=>⟨_,Z,iteF (kq H1 S1)⟩⟩
theorem sc_reduced:FnScope ["rows","cells","done","row","fresh","each"] ["rows","cells"] (Z0i (top 43)):=fS
theorem Y5p (F:FunAt K "reduced" (top 43) .none)(X:K.In h)(G:Ng h mg)(B:Bs mg)(dN:Cal P w K mg base (k+2) "check_table" ["rows","cells"] Y3s)(cS:Cal P w K mg base (k+2) "without_lead" ["mark","row"] Y0a)(dY:Cal P w K mg base k "lead" ["mark"] (spLead K)) :
  Cal P w K mg base (k+2+1) "reduced" ["rows","cells"] Z6p:=by
 have nd:=sc_reduced.nd
 refine F.cal X G sc_reduced (bnd2 λ_ _ _ _ _ _ _ _=>rfl) (λvs H Q E' h=>?_) (λf cdv A outer s H vs Q E' hr h=>?_)
 ·obtain⟨l,ps,ms,N,rfl,_⟩:=h;rfl
 obtain⟨l,ps,ms,N,rfl,T,N1,N6,kq⟩:=h
 have hS:SqL K H l (ps.map V.ref):=SqL.of T.lst
 have lps:(ps.map V.ref).length=ms.length:=by rw[q0a,T.mks.length]
 have l6:=T.len
 refine⟨_,(@Z0e _ _ _ _ _ (Z3s (Z0l dN hr rfl (Z0a (pv 0) (Z0a (pv 1) Z0d))))
  (@Z0e _ _ _ _ _ (@Z0q _ _ 2 _ _ _ _ nd rfl (Or.inl rfl) (@Z3b _ _ _ _ Z0d) rfl (.inl rfl))
  (@Z0e _ _ _ _ _ (Z1v PassesOwn.never rfl (Z1e (pv 0)) (Z0p (i:=3) nd rfl (Or.inl rfl))
   (@Z0e _ _ _ _ _ (@Z0q _ _ 4 _ _ _ _ nd rfl (Or.inr rfl) (pv 3) rfl (.inl rfl))
   (@Z0e _ _ _ _ _ (Z1v PassesOwn.never rfl (Z1e (pv 2)) (Z0p (i:=5) nd rfl (Or.inl rfl))
    (@Z0f _ _ _ (@Z0q _ _ 4 _ _ _ _ nd rfl (Or.inr rfl) (Z0l cS hr rfl (Z0a (pv 4) (Z0a (pv 5) Z0d))) rfl (.inl rfl))))
   (@Z0f _ _ _ (@Z0q _ _ 2 _ _ _ _ nd rfl (Or.inl rfl) (Z0h X4u (Z3k rfl (LcOk.of (Nc:=["each","fresh"]) (mp:=[none,some 4]) (by kernel_rfl)) (Z1e (pv 2)) (λ_ _ _ _=>(Z0p (i:=0) (show (["each","fresh"]:W0).Nodup by decide +kernel) rfl (Or.inl rfl))) (λ_ _ _ _=>(Z0l cS hr rfl (Z0a (pv 0) (Z0a (pv 1) Z0d))))) (@Z3b _ _ _ _ (Z0a (pv 4) Z0d))) rfl (.inl rfl))))))
  (@Z0f _ _ _ (Z0k (X1t dY hr rfl B.sorted rfl (pv 2))))))),?_⟩
 try dsimp only[cxK]
 refine⟨_,Z,_,Z,l,ps,ms,N,Z,T,N1,N6,λH1 S1=>?_⟩
 refine⟨by decide,λl0 hl0=>?_⟩
 have s1:=S1.trans (Z0g hl0 (.lst []))
 refine⟨_,Z,l,Z,⟨_,s1.seq hS⟩,Z2x (K:=K) (a:=l) (xs:=ps.map V.ref) (λi σ H'=>Same H H'/\∃ (ld:W9) (ds:U3) (D:List Mk) (ls:W3) (v3 v4 v5:Option V),H' ld=some (.lst (ds.map V.ref))/\Mks H' ds D/\M53.Dn ms i D ls/\σ=[some (.ref l),some (.int N),some (.ref ld),v3,v4,v5])
  ⟨s1,l0,[],[],[],none,none,none,Z0c,.nil,M53.Dn.start ms,Z⟩ (λi σ H' _ e=>e.1.seq hS) ?_ ?_⟩
 ·rintro i x σ H2 hx ⟨S2,ld,ds,D,ls,v3,v4,v5,hld,hD,DN,rfl⟩
  have ilt:i<ms.length:=by
   have:=(q0l.mp hx).1
   omega
  rw[q0c] at hx
  obtain⟨p,hp,rfl⟩:=q0h.mp hx
  obtain⟨row,hri,p0⟩:=T.mks.get hp
  have eg:ms.getD i (0,0,0)=row:=by rw[q0b,hri];rfl
  have lD:=DN.len
  have lds:=hD.length
  have lxs:(ds.map V.ref).length=i:=by rw[q0a,lds,lD]
  have gD:∀ d∈D,ev d/\V6 d:=λd hd=>M53.G_ev T.tb (by omega) (DN.g d hd)
  have frs:∀ t,t<=i->V6 (M53.fr D ls row t):=λt ht=>by
   have:=(M53.G_ev T.tb (by omega) (M53.X8r T.tb ilt DN t ht).G).2
   rw[<-eg]
   exact this
  refine⟨_,Z,?_⟩
  refine⟨_,Z,ld,Z,⟨_,SqL.of hld⟩,Z2x (K:=K) (a:=ld) (xs:=ds.map V.ref) (λt σ H'=>Same H2 H'/\∃ (pf:W9) (v5:Option V),H' pf=some (T3 (M53.fr D ls row t))/\σ=[some (.ref l),some (.int N),some (.ref ld),some (.ref p),some (.ref pf),v5])
   ⟨Same.refl _,p,_,S2 _ _ p0,Z⟩ (λt σ H' _ e=>SqL.of (e.1 _ _ hld)) ?_ ?_⟩
  ·rintro t x σ H3 hx ⟨S3,pf,v5,hpf,rfl⟩
   have tlt:t<i:=by
    have:=(q0l.mp hx).1
    omega
   rw[q0c] at hx
   obtain⟨q,hq,rfl⟩:=q0h.mp hx
   obtain⟨d,hdi,q0⟩:=hD.get hq
   have ed:D.getD t (0,0,0)=d:=by rw[q0b,hdi];rfl
   have L:=DN.ld t tlt
   refine⟨_,Z,_,Z,pf,q,M53.fr D ls row t,d,ls.getD t 0,Z,hpf,S3 _ _ q0,frs t (by omega),(gD d (q0y hdi)).2,by rw[<-ed];exact L,λr H4 S4 hr4=>?_⟩
   rw[<-ed] at hr4
   exact⟨S3.trans S4,r,_,hr4,Z⟩
  ·rintro σ H3 ⟨S3,pf,v5,hpf,rfl⟩
   rw[lxs] at hpf
   have FR:=M53.X8r T.tb ilt DN i (q0g _)
   have v6f:=frs i (q0g _)
   rw[eg] at FR
   obtain⟨n,_,L⟩:=M53.X3l v6f (FR.nz T.tb ilt)
   have DX:=DN.next T.tb ilt FR L
   generalize M53.fr D ls row i=fm at *
   refine⟨_,Z,ld,Z,⟨_,SqL.of (S3 _ _ hld)⟩,λacc hacc=>?_⟩
   refine Z2u (K:=K) (a:=ld) (xs:=ds.map V.ref) (fr:=[some (.ref pf)]) (λj ys H'=>Same H3 H'/\H' acc=some (.lst ys)/\∃ qs,ys=qs.map V.ref/\Mks H' qs ((D.take j).map λd=>wl d fm n)) (by rw[lxs];exact s64 (by omega))
    ⟨Z0g hacc _,Z0c,[],Z,.nil⟩ (λj ys H' e=>SqL.of (e.1 _ _ (S3 _ _ hld))) ?_ ?_
   ·rintro j x ys HA NN hx hl ⟨SA,cA,qs,rfl,mA⟩ kN
    rw[q0c] at hx
    obtain⟨q,hq,rfl⟩:=q0h.mp hx
    obtain⟨d,hdi,q0⟩:=hD.get hq
    refine⟨_,Z,_,Z,q,pf,d,fm,n,Z,SA _ _ (S3 _ _ q0),SA _ _ hpf,(gD d (q0y hdi)).2,v6f,L,λr H4 S4 hr4=>?_⟩
    have c4:=S4 _ _ cA
    refine kN _ _ c4 ⟨Z0s (SA.trans S4) hacc,Z0c,qs++[r],by rw[q0i];rfl,?_⟩
    rw[q1m,hdi,q1w,q0i]
    refine Mks.upd (Paired.snoc (mA.same S4) hr4) c4
   rintro ys HB hlB ⟨SB,cB,qs,rfl,mB⟩
   rw[lxs,q5x (by omega)] at mB
   refine⟨_,Z,s64 (by simp),λl1 hl1=>?_⟩
   have s5:=Z0g hl1 (.lst [V.ref pf])
   have zq:=mB.length
   rw[q0a] at zq
   refine⟨acc,l1,_,_,Z,Z,s5 _ _ cB,Z0c,?_,λl2 hl2=>?_⟩
   ·rw[q0a,zq]
    exact s64 (by simp;omega)
   have s6:=Z0g hl2 (.lst (qs.map V.ref++[V.ref pf]))
   have ss:=(SB.trans s5).trans s6
   refine⟨(S2.trans S3).trans ss,l2,qs++[pf],_,_,_,_,_,?_,Paired.snoc (mB.same (s5.trans s6)) (ss _ _ hpf),DX,Z⟩
   rw[Z0c,q0i]
   rfl
 ·rintro σ H2 ⟨S2,ld,ds,D,ls,v3,v4,v5,hld,hD,DN,rfl⟩
  rw[lps] at DN
  have DM:=DN.all
  have lD:=DN.len
  have lds:=hD.length
  refine⟨_,Z,ld,ds.map V.ref,D.map (λd=>(ldm d:Int)),Z,hld,by rw[q0a,q0a];omega,by rw[q0a];omega,λi x z hx hz=>?_,λR qs hR pp po=>?_⟩
  ·rw[q0c] at hx hz
   obtain⟨q,hq,rfl⟩:=q0h.mp hx
   obtain⟨d,hdi,rfl⟩:=q0h.mp hz
   obtain⟨d',hdi',q0⟩:=hD.get hq
   rw[hdi] at hdi'
   cases hdi'
   have mem:=q0y hdi
   exact⟨q,d,ldm d,Z,SqT.of q0,(M53.G_ev T.tb (q0g _) (DN.g d mem)).2,DM.ld d mem,Z,Z⟩
  ·obtain⟨z1,z2,z3⟩:=hD.zip
   obtain⟨rl,pr,er⟩:=Y4a pp (zipk (g:=λd=>(ldm d:Int)) lds)
   subst er
   have sR:=Z0g hR (.lst ((rl.map λt:Addr × Mk=>((ldm t.2:Int),V.ref t.1)).map (·.2)))
   have pD:(rl.map (·.2)).Perm D:=by
    have:=pr.map (·.2)
    rw[z3] at this
    exact this
   refine kq R _ (rl.map (·.1)) (rl.map (·.2)) (S2.trans sR) (S2.free hR) ?_ ((Mks.ofzip λt ht=>z1 t (pr.mem_iff.mp ht)).same sR) (DM.perm T.tb pD) (by rw[pD.length_eq,lD]) ?_
   ·rw[Z0c,q2v,q2v]
    rfl
   ·rw[q4f] at po ⊢
    exact po.imp λh=>by omega
end
end K63T
namespace M82
open Pc K51 M54 M57 Ba
open M53 (cm ev Tb Nice G V6 vec)
abbrev V4:=Int × Int × Int × Int
noncomputable def nx (v:V4):V4:=(-v.2.2.2,v.1,v.2.1,v.2.2.1)
theorem Y3y (n:Nat)(v:V4):rot (n+1) v=nx (rot n v):=rfl
theorem Z8y (n:Nat)(v:V4):∀ m,rot (m+n) v=rot m (rot n v)
 | 0=>by rw[q2u];rfl
 | m+1=>by rw[Nat.add_right_comm,Y3y,Y3y,Z8y n v m]
theorem Y7n (v:V4):rot 8 v=v:=by
 obtain⟨a,b,c,d⟩:=v
 show ((- -a,- -b,- -c,- -d):V4)=_
 simp only[Int.neg_neg]
theorem X4m (v:V4):∀ k,rot (8*k) v=v
 | 0=>rfl
 | k+1=>by rw[Nat.mul_succ,Z8y,Y7n,X4m v k]
theorem Z8x (n:Nat)(v:V4):rot (n%8) v=rot n v:=by
 have:n=n%8+8*(n / 8):=by omega
 have e:=Z8y (8*(n / 8)) v (n%8)
 rw[X4m,<-this] at e
 exact e.symm
theorem Z6n (x:A5)(n:Nat):spin x ((n:Nat):Int)=(rot n x.1,x.2):=by
 unfold spin
 rw[show (((n:Int))%8).toNat=n%8 by omega,Z8x]
theorem Z9y (x:A5)(a b:Nat):spin (spin x (a:Nat)) (b:Nat)=spin x ((a+b:Nat):Int):=by
 rw[Z6n,Z6n,Z6n,q6g,Z8y]
theorem Z3n (x:A5){a b:Nat}(h:a%8=b%8):spin x (a:Nat)=spin x ((b:Nat):Int):=by
 rw[Z6n,Z6n,<-Z8x a,h,Z8x]
theorem r4 {a:Nat}(h:a<4)(v:V4):rot (2*a) v=if a=0 then v else if a=1 then (-v.2.2.1,-v.2.2.2,v.1,v.2.1) else if a=2 then (-v.1,-v.2.1,-v.2.2.1,-v.2.2.2) else (- -v.2.2.1,- -v.2.2.2,-v.1,-v.2.1):=by
 have:a=0∨a=1∨a=2∨a=3:=by omega
 rcases this with rfl | rfl | rfl | rfl<;>rfl
theorem Y3j {x:A5}(nz:x.1≠(0,0,0,0)){a b:Nat}(h:spin x ((2*a:Nat):Int)=spin x ((2*b:Nat):Int)):a%4=b%4:=by
 rw[Z6n,Z6n] at h
 have h1:=congrArg Prod.fst h
 obtain⟨⟨p,q,r,s⟩,g⟩:=x
 have e:∀ n:Nat,rot (2*n) (p,q,r,s)=rot (2*(n%4)) (p,q,r,s):=λn=>by
  rw[<-Z8x (2*n),show 2*n%8=2*(n%4) by omega]
 have h2:rot (2*a) (p,q,r,s)=rot (2*b) (p,q,r,s):=h1
 rw[e a,e b,r4 (by omega),r4 (by omega)] at h2
 apply Classical.byContradiction
 intro ne
 apply nz
 show ((p,q,r,s):V4)=_
 have a4:a%4<4:=q1v _ (by decide)
 have b4:b%4<4:=q1v _ (by decide)
 generalize a%4=a' at *
 generalize b%4=b' at *
 have key:p=0/\q=0/\r=0/\s=0:=by
  split at h2<;>split at h2<;>(try split at h2)<;>(try split at h2)<;>(try split at h2)<;>(try split at h2)<;>(try (simp only[Prod.mk.injEq] at h2))<;>omega
 rw[key.1,key.2.1,key.2.2.1,key.2.2.2]
def Kp (c:Nat)(f:Nat->A5)(m:Mk):Prop:=∀ w,w<2^c->f (w^^^m.2.1)=spin (f w) ((2*m.1+4*pc (w&&&m.2.2):Nat):Int)
def Nv (c:Nat)(f:Nat->A5):Prop:=∃ w,w<2^c/\(f w).1≠(0,0,0,0)
variable {c:Nat}{f:Nat->A5}
theorem Kp.one:Kp c f (0,0,0):=λw _=>by
 show f (w^^^0)=spin (f w) ((2*0+4*pc (w&&&0):Nat):Int)
 rw[q6z,Nat.and_zero,Z1s]
 rfl
theorem Kp.mul {m m':Mk}(hf:m'.2.1<2^c)(h:Kp c f m)(h':Kp c f m'):Kp c f (mul m m'):=λw hw=>by
 show f (w^^^(m.2.1^^^m'.2.1))=spin (f w) ((2*((m.1+m'.1+2*pc (m.2.2&&&m'.2.1))%4)+4*pc (w&&&(m.2.2^^^m'.2.2)):Nat):Int)
 have e:w^^^(m.2.1^^^m'.2.1)=(w^^^m'.2.1)^^^m.2.1:=by rw[q1t,q3o m.2.1]
 rw[e,h (w^^^m'.2.1) (q1c hw hf),h' w hw,Z9y]
 apply Z3n
 have a1:=pcl w m.2.2 m'.2.2
 have a2:=pcl m.2.2 w m'.2.1
 rw[q3g m.2.2 (w^^^m'.2.1),q3g m.2.2 w] at a2
 omega
theorem Kp.q {m m':Mk}(nz:Nv c f)(h:Kp c f m)(h':Kp c f m')(e:m.2=m'.2):m.1%4=m'.1%4:=by
 obtain⟨w,hw,n0⟩:=nz
 have a:=h w hw
 have b:=h' w hw
 rw[e] at a
 rw[a] at b
 have:=Y3j n0 (a:=m.1+2*pc (w&&&m'.2.2)) (b:=m'.1+2*pc (w&&&m'.2.2)) (by
  rw[show 2*(m.1+2*pc (w&&&m'.2.2))=2*m.1+4*pc (w&&&m'.2.2) by omega,show 2*(m'.1+2*pc (w&&&m'.2.2))=2*m'.1+4*pc (w&&&m'.2.2) by omega]
  exact b)
 omega
theorem Kp.ev {m:Mk}(nz:Nv c f)(hf:m.2.1<2^c)(h:Kp c f m):ev m:=by
 have a:=Kp.q nz (Kp.mul hf h h) Kp.one (show (m.2.1^^^m.2.1,m.2.2^^^m.2.2)=(0,0) by rw[q3n,q3n])
 have:(m.1+m.1+2*pc (m.2.2&&&m.2.1))%4%4=0:=a
 rw[q3g] at this
 show (m.1+pc (m.2.1&&&m.2.2))%2=0
 omega
theorem Kp.cm {m m':Mk}(nz:Nv c f)(hf:m.2.1<2^c)(hf':m'.2.1<2^c)(h:Kp c f m)(h':Kp c f m'):cm m m'=0:=by
 have a:=Kp.q nz (Kp.mul hf' h h') (Kp.mul hf h' h) (show (m.2.1^^^m'.2.1,m.2.2^^^m'.2.2)=(m'.2.1^^^m.2.1,m'.2.2^^^m.2.2) by rw[q3o m.2.1,q3o m.2.2])
 have:(m.1+m'.1+2*pc (m.2.2&&&m'.2.1))%4%4=(m'.1+m.1+2*pc (m'.2.2&&&m.2.1))%4%4:=a
 rw[q3g m'.2.2] at this
 show (pc (m.2.1&&&m'.2.2)+pc (m.2.2&&&m'.2.1))%2=0
 omega
structure Ok (c:Nat) (m:Mk):Prop where
 q:m.1<4
 f:m.2.1<2^c
 s:m.2.2<2^c
theorem Ok.mul {m m':Mk}(h:Ok c m)(h':Ok c m'):Ok c (mul m m'):=⟨q1v _ (by decide),q1c h.f h'.f,q1c h.s h'.s⟩
theorem Ok.v6 {m:Mk}(hc:c<=6)(h:Ok c m):V6 m:=⟨q0k h.f (q1a (by decide) hc),q0k h.s (q1a (by decide) hc)⟩
theorem G_kp {ms:List Mk}(ho:∀ r∈ms,Ok c r/\Kp c f r):∀ {m:Nat}{g:Mk},m<=ms.length->G ms m g->Ok c g/\Kp c f g
 | 0,g,_,⟨x,e⟩=>by
  have:g=(0,0,0):=e
  subst this
  exact⟨⟨by decide,q0o _,q0o _⟩,Kp.one⟩
 | m+1,g,hm,h=>by
  rcases M53.Z7o h with q | ⟨g',q,rfl⟩
  ·exact G_kp ho (by omega) q
  ·have ih:=G_kp ho (by omega:m<=ms.length) q
   have rm:=ho _ (M53.gmem (ms:=ms) (i:=m) (by omega))
   exact⟨ih.1.mul rm.1,Kp.mul rm.1.f ih.2 rm.2⟩
structure Ks (c:Nat) (f:Nat->A5) (R:List Mk):Prop where
 ok:∀ r∈R,Ok c r/\Kp c f r
 ind:Indep R
theorem Ks.nil:Ks c f []:=⟨λr h=>(nomatch h),λ_ _ _ j h=>absurd h (q1k _)⟩
theorem Ks.tb {R:List Mk}(hc:c<=6)(nz:Nv c f)(h:Ks c f R):Tb R :=
 ⟨⟨λm hm=>(h.ok m hm).1.q,λm hm=>(h.ok m hm).2.ev nz (h.ok m hm).1.f,λm hm r hr=>Kp.cm nz (h.ok m hm).1.f (h.ok r hr).1.f (h.ok m hm).2 (h.ok r hr).2⟩,λm hm=>(h.ok m hm).1.v6 hc,h.ind⟩
theorem Ks.in {R:List Mk}(h:Ks c f R){g:Mk}(hg:In R g):Ok c g/\Kp c f g:=G_kp h.ok (q0g _) (M53.in_G.mp hg)
theorem php:∀ (m n:Nat) (g:Nat->Nat),(∀ i,i<n->g i<m)->(∀ i j,i<n->j<n->g i=g j->i=j)->n<=m
 | 0,n,g,h,_=>by
  apply Nat.le_of_not_lt
  intro hn
  exact absurd (h 0 hn) (q1k _)
 | m+1,n,g,h,inj=>by
  by_cases ex:∃ i,i<n/\g i=m
  ·obtain⟨i0,hi,e⟩:=ex
   have:=php m (n-1) (λi=>g (if i<i0 then i else i+1)) (λi hi'=>by
    show g (if i<i0 then i else i+1)<m
    have l:(if i<i0 then i else i+1)<n:=by split<;>omega
    have ne:(if i<i0 then i else i+1)≠i0:=by split<;>omega
    have a:=h _ l
    have b:g (if i<i0 then i else i+1)≠m:=λz=>ne (inj _ _ l hi (z.trans e.symm))
    omega) (λi j hi' hj' z=>by
    have l:(if i<i0 then i else i+1)<n:=by split<;>omega
    have l':(if j<i0 then j else j+1)<n:=by split<;>omega
    have:=inj _ _ l l' z
    split at this<;>split at this<;>omega)
   omega
  ·have:=php m n g (λi hi=>by
    have a:=h i hi
    have b:g i≠m:=λz=>ex ⟨i,hi,z⟩
    omega) inj
   omega
theorem len12 {R:List Mk}(T:Tb R):R.length<=12:=by
 have inE:∀ x,x<2^R.length->In R (E R x):=λx hx=>⟨x,hx,Z⟩
 have:=php (2^12) (2^R.length) (λx=>vec (E R x)) (λx hx=>M53.Y3a (M53.Y2q T (inE x hx))) (λx y hx hy e=>Y2y T.ind hx hy (M53.Y6k (M53.Y2q T (inE x hx)) (M53.Y2q T (inE y hy)) e))
 exact(Nat.pow_le_pow_iff_right (by decide)).mp this
theorem Ks.made {R:List Mk}{m:Mk}(nz:Nv c f)(h:Ks c f R)(o:Ok c m)(k:Kp c f m){x:Nat}(e:(E R x).2=m.2):In R m:=by
 have hin:In R (E R x):=⟨x%2^R.length,q1v _ (q0o _),W2p R x⟩
 obtain⟨o',k'⟩:=h.in hin
 have q:=Kp.q nz k' k e
 have:=o'.q
 have:=o.q
 have e1:(E R x).1=m.1:=by omega
 have:E R x=m:=Prod.ext e1 e
 rw[<-this]
 exact hin
theorem X8a {R:List Mk}{m:Mk}(nz:Nv c f)(h:Ks c f R)(o:Ok c m)(k:Kp c f m){kk x:Nat}(k4:kk<4)(e:(chosen R x R.length).foldl mul (kk,0,0)=m):In R m:=by
 refine h.made nz o k (x:=x) ?_
 rw[Z5j k4] at e
 rw[<-e]
 rfl
theorem X0v {R:List Mk}{m o:Mk}(h1:cm o m=1)(h2:∀ r∈R,cm o r=0)(x:Nat)(hx:x<2^R.length):(E R x).2≠m.2:=λe=>by
 have:=M53.W1p h2 ⟨x,hx,Z⟩
 unfold M53.cm at this h1
 rw[e] at this
 rw[this] at h1
 cases h1
theorem Ks.snoc {R:List Mk}{m o:Mk}(h:Ks c f R)(om:Ok c m)(k:Kp c f m)(h1:cm o m=1)(h2:∀ r∈R,cm o r=0):Ks c f (R++[m]):=by
 refine⟨λr hr=>?_,M53.Y6b h.ind (X0v h1 h2)⟩
 rcases q1b.mp hr with q | q
 ·exact h.ok r q
 ·rw[q0r.mp q]
  exact⟨om,k⟩
theorem X8l {R:List Mk}{m g:Mk}(N:Nice (R++[m]))(h:In R g):In (R++[m]) g:=M53.Z2k N (λr hr=>M53.Z5c N (q1z _ hr)) h
structure Kc (c:Nat) (f:Nat->A5) (R:List Mk):Prop where
 ks:Ks c f R
 all:∀ m,Ok c m->Kp c f m->In R m
theorem Kc.uniq {R R' S S':List Mk}(hc:c<=6)(nz:Nv c f)(h:Kc c f R)(h':Kc c f R')(Q:M53.Dm R S)(Q':M53.Dm R' S')(o:S.Pairwise λa b=>M53.ldm a<=M53.ldm b)(o':S'.Pairwise λa b=>M53.ldm a<=M53.ldm b):S=S' :=
 M53.Y0l (h.ks.tb hc nz) (h'.ks.tb hc nz) Q Q' o o' (λm hm=>h'.all m (h.ks.ok m hm).1 (h.ks.ok m hm).2) (λm hm=>h.all m (h'.ks.ok m hm).1 (h'.ks.ok m hm).2)
structure Kr (c:Nat) (f:Nat->A5) (S:List Mk):Prop where
 ok:∀ m∈S,Ok c m/\Kp c f m/\ev m
 ld:∀ m∈S,M53.IsLd (vec m) (M53.ldm m)
 off:S.Pairwise M53.Off
 rise:S.Pairwise λa b=>M53.ldm a<=M53.ldm b
 nice:Nice S
 all:∀ m,Ok c m->Kp c f m->In S m
 len:S.length<=12
theorem Kc.red {R S:List Mk}(hc:c<=6)(nz:Nv c f)(h:Kc c f R)(Q:M53.Dm R S)(o:S.Pairwise λa b=>M53.ldm a<=M53.ldm b)(l:S.length=R.length):Kr c f S:=by
 have T:=h.ks.tb hc nz
 have N:=M53.Z9j T Q.g
 refine⟨λm hm=>?_,Q.ld,Q.off,o,N,λm om km=>M53.Z2k N Q.back (h.all m om km),by rw[l];exact len12 T⟩
 have:=h.ks.in (Q.g m hm)
 exact⟨this.1,this.2,this.2.ev nz this.1.f⟩
end M82
namespace K63
open L2 Am Pc Ba
open M54 (Mk)
open K63T (T3 L3 Mks Z5t Z3q Z3i)
open M82 (Kp Nv)
abbrev Ws:=List (Nat × Nat)
def Prs (H:Hp)(qs:U3)(W:Ws):Prop:=Paired (λq (p:Nat × Nat)=>H q=some (.tup [.int p.1,.int p.2])) qs W
theorem Prs.same {H H':Hp}{qs:U3}{W:Ws}(h:Prs H qs W)(s:Same H H'):Prs H' qs W:=Paired.imp' (λ_ _ c=>s _ _ c) h
theorem Prs.upd {H:Hp}{l:W9}{xs ys:List V}{qs:U3}{W:Ws}(h:Prs H qs W)(hl:H l=some (.lst xs)):Prs (upd H l (.lst ys)) qs W :=
 Paired.imp' (λ_ _ c=>by rw[Z0x (Z7e c hl (by intro z;cases z))];exact c) h
theorem Prs.length {H:Hp}{qs:U3}{W:Ws}(h:Prs H qs W):qs.length=W.length:=Paired.length h
theorem Prs.snoc {H:Hp}{qs:U3}{W:Ws}{q:W9}{p:Nat × Nat}(h:Prs H qs W)(e:H q=some (.tup [.int p.1,.int p.2])):Prs H (qs++[q]) (W++[p]):=Paired.snoc h e
theorem Prs.get {H:Hp}:∀ {qs:U3}{W:Ws}{i:Nat}{q:W9},Prs H qs W->qs[i]?=some q->∃ p,W[i]?=some p/\H q=some (.tup [.int p.1,.int p.2])
 | q'::qs,p::W,0,q,.cons a r,h=>by
  have:q'=q:=by simpa using h
  subst this
  exact⟨p,Z,a⟩
 | q'::qs,p::W,i+1,q,.cons a r,h=>by
  obtain⟨p',b,c⟩:=Prs.get (qs:=qs) (W:=W) (i:=i) (q:=q) r (by simpa using h)
  exact⟨p',b,c⟩
def Fit (m:Mk)(t:Nat × Nat):Prop:=(m.1+2*pc (t.1&&&m.2.2))%4=t.2
instance (m:Mk) (t:Nat × Nat):Decidable (Fit m t):=inferInstanceAs (Decidable (_=_))
def spHasS (K:U0):Sp:=λvs H Q _=>∃ (p l:W9) (qs:U3) (W:Ws) (m:Mk),vs=[.ref p,.ref l]/\SqT K H p (L3 m)/\SqL K H l (qs.map V.ref)/\Prs H qs W/\Q (.bl (decide (∀ t∈W,Fit m t))) H
structure Spn (c:Nat) (f:Nat->A5) (fl i:Nat) (W:Ws):Prop where
 len:W.length<=i
 pt:∀ t∈W,t.1<2^c/\t.2<4/\(f t.1).1≠(0,0,0,0)/\f (t.1^^^fl)=spin (f t.1) ((2*t.2:Nat):Int)
 all:∀ w,w<i->f w≠((0,0,0,0),0)->∃ k,(w,k)∈W
def Y6u (K:U0):Sp:=λvs H Q _=>∃ (l:W9) (ps:U3) (f:Nat->A5) (c fl:Nat),vs=[.ref l,.int fl]/\Bo K H l ps f c/\c<=6/\fl<2^c/\(∀ i,i<2^c->(f i).1=(0,0,0,0)->(f i).2=0) ∧
 (∀ H',Same H H'->(∃ w,w<2^c/\(f w).1≠(0,0,0,0)/\∀ k:Nat,k<4->f (w^^^fl)≠spin (f w) ((2*k:Nat):Int))->Q .non H') ∧
 ∀ (r:W9) (H':Hp) (qs:U3) (W:Ws),Same H H'->H' r=some (.lst (qs.map V.ref))->Prs H' qs W->Spn c f fl (2^c) W->Q (.ref r) H'
theorem Y9j {x y:A5}(h:l5 x=l5 y):x=y:=by
 obtain⟨⟨a,b,c,d⟩,e⟩:=x
 obtain⟨⟨a',b',c',d'⟩,e'⟩:=y
 simp only[l5,List.cons.injEq,and_true] at h
 obtain⟨rfl,rfl,rfl,rfl,rfl⟩:=h
 rfl
section
variable {P:U8}{w:W1}{K:U0}{mg:U4}{base:Heap}{k:Nat}{h:Heap}
theorem sc_hass:FnScope ["mark","spins","word","k"] ["mark","spins"] (Z0i (top 56)):=fS
theorem X7h (F:FunAt K "has_spins" (top 56) .none)(X:K.In h)(G:Ng h mg)(cD:Cal P w K mg base k "ones" ["number"] K63T.spOnes):Cal P w K mg base (k+1) "has_spins" ["mark","spins"] (spHasS K):=by
 have nd:=sc_hass.nd
 refine F.cal X G sc_hass (bnd2 λ_ _ _ _ _ _ _ _=>rfl) (λvs H Q E h=>?_) (λf cdv A outer s H vs Q E hr h=>?_)
 ·obtain⟨p,l,qs,W,m,rfl,_⟩:=h;rfl
 obtain⟨p,l,qs,W,m,rfl,SP,SL,PW,kq⟩:=h
 have kT:(∀ t∈W,Fit m t)->Q (.bl true) H:=λz=>by rw[q1f z] at kq;exact kq
 have kF:(¬ ∀ t∈W,Fit m t)->Q (.bl false) H:=λz=>by rw[q0w z] at kq;exact kq
 refine⟨_,(@Z0e _ _ _ _ _ (Z1v PassesOwn.never rfl (Z1e (pv 1)) (@Z5w _ _ _ _ _ _ rfl (@Z1f _ _ _ _ _ (@Z0p _ _ 2 _ nd rfl (Or.inl rfl) (by first | exact .inl rfl | exact .inr rfl)) (@Z1f _ _ _ _ _ (@Z0p _ _ 3 _ nd rfl (Or.inl rfl) (by first | exact .inl rfl | exact .inr rfl)) Z4c rfl) rfl) rfl rfl)
   (@Z0f _ _ _ (Z0w (Z0n Z4n (Z0h Z0v (Z0h Z1b (Z0m Z0j (pv 0) Z0b (λ_ _=>rfl)) (Z0h Z3p Z0b (Z0l cD hr rfl (Z0a (Z0h Z1d (pv 2) (Z0m Z0j (pv 0) Z0b (λ_ _=>rfl))) Z0d)))) Z0b) (pv 3) (nomark _))
    (@Z0f _ _ _ (Z0k Z3g))
    Z0o)))
  (@Z0f _ _ _ (Z0k Z3g))),?_⟩
 try dsimp only[cxK]
 refine⟨_,Z,l,Z,⟨_,SL⟩,Z2x (K:=K) (a:=l) (xs:=qs.map V.ref) (λi σ H'=>H'=H/\(∀ t∈W.take i,Fit m t)/\∃ v2 v3:Option V,σ=[some (.ref p),some (.ref l),v2,v3])
  ⟨Z,(by rw[q5b];exact λ_ z=>(nomatch z)),_,_,Z⟩ (λi σ H' _ e=>by rw[e.1];exact SL) ?_ ?_⟩
 ·rintro i x σ H1 hx ⟨rfl,hf,v2,v3,rfl⟩
  rw[q0c] at hx
  obtain⟨q,hq,rfl⟩:=q0h.mp hx
  obtain⟨⟨u,kk⟩,hW,eq⟩:=PW.get hq
  refine⟨q,_,Z,SqT.of eq,Z,_,_,Z,_,_,Z,Z,?_⟩
  refine⟨_,Z,p,_,_,_,Z,Z,SP,Z,_,Z,_,Z,p,_,_,_,Z,Z,SP,Z,_,_,Z,Z,u&&&m.2.2,Z5t _ _,_,_,Z,Z,.inl ⟨by decide,by decide⟩,_,_,Z,Z,_,_,Z,Z,Z3i,_,Z,Z,?_⟩
  refine⟨_,Z,neI (λne=>?_) (λe=>?_)⟩
  ·refine kF λz=>ne ?_
   have:=z (u,kk) (q0y hW)
   unfold Fit at this
   simp only at this
   omega
  ·refine⟨Z,λt ht=>?_,_,_,Z⟩
   rw[q1m,hW,q1w] at ht
   rcases q1b.mp ht with z | z
   ·exact hf t z
   ·rw[q0r.mp z]
    show (m.1+2*pc (u&&&m.2.2))%4=kk
    omega
 ·rintro σ H1 ⟨rfl,hf,v2,v3,rfl⟩
  rw[q0a,PW.length,q2e] at hf
  exact kT hf
theorem sc_spins:FnScope ["board","flips","spins","word","one","fitting"] ["board","flips"] (Z0i (top 55)):=fS
theorem X2b {aZ:W9}(gZ:mg "NOUGHT"=some (.ref aZ))(kZ:∀ H:Hp,At5 K H aZ ((0,0,0,0),0))(F:FunAt K "spins_on" (top 55) .none)(X:K.In h)(G:Ng h mg)(B:Bs mg)(cZ:Cal P w K mg base k "spun" ["one","k"] (Z6o K)):Cal P w K mg base (k+1) "spins_on" ["board","flips"] (Y6u K):=by
 have nd:=sc_spins.nd
 refine F.cal X G sc_spins (bnd2 λ_ _ _ _ _ _ _ _=>rfl) (λvs H Q E h=>?_) (λf cdv A outer s H vs Q E hr h=>?_)
 ·obtain⟨l,ps,f,c,fl,rfl,_⟩:=h;rfl
 obtain⟨l,ps,f,c,fl,rfl,BO,c6,flc,z0,kN,kq⟩:=h
 have SL:SqL K H l (ps.map V.ref):=SqL.of BO.lst
 have p6:=pow6 c6
 have lps:=BO.len
 refine⟨_,(@Z0e _ _ _ _ _ (@Z0q _ _ 2 _ _ _ _ nd rfl (Or.inl rfl) (@Z3b _ _ _ _ Z0d) rfl (.inl rfl))
  (@Z0e _ _ _ _ _ (Z1v PassesOwn.never rfl (Z5l rfl B.enumerate (Z0a (pv 0) Z0d)) (@Z5w _ _ _ _ _ _ rfl (@Z1f _ _ _ _ _ (@Z0p _ _ 3 _ nd rfl (Or.inr rfl) (by first | exact .inl rfl | exact .inr rfl)) (@Z1f _ _ _ _ _ (@Z0p _ _ 4 _ nd rfl (Or.inr rfl) (by first | exact .inl rfl | exact .inr rfl)) Z4c rfl) rfl) rfl rfl)
   (@Z0f _ _ _ (Z0w (Z0n (Y8b hr.units) (pv 4) (Z3c (v:=.ref aZ) rfl gZ rfl) (nomark _))
    (@Z0e _ _ _ _ _ (Z4y (i:=5) rfl nd rfl rfl (LcOk.of (Nc:=["k","board","flips","word","one"]) (mp:=[none,some 0,some 1,some 3,some 4]) (by kernel_rfl)) (Z0y rfl B.range (Z0a Z0b Z0d)) (λ_ _ _ _=>(Z0p (i:=0) (show (["k","board","flips","word","one"]:W0).Nodup by decide +kernel) rfl (Or.inl rfl))) (λ_ _ _ _=>(Z0n (Z9d hr.units) (Z0l cZ hr rfl (Z0a (pv 4) (Z0a (Z0h Z3p Z0b (pv 0)) Z0d))) (Z0m Z9h (pv 1) (Z0h Z2v (pv 3) (pv 2)) (λ_ _=>rfl)) (nomark _))) (λ_ _ _ _=>(pv 0)) rfl)
    (@Z0e _ _ _ _ _ (Z0w (Z0n Z1k (Z0r Z0u rfl B.len q1h (Z0a (pv 5) Z0d)) Z0b (nomark _))
     (@Z0f _ _ _ (Z0k Z6z))
     Z0o)
    (@Z0f _ _ _ (Z3s (Y7u q3m q3j q3i Z3d (pv 2) (Z0a (@Z1a _ _ _ _ _ (Z0a (pv 3) (Z0a (Z0m Z0z (pv 5) Z0b (λ_ _=>rfl)) Z0d))) Z0d))))))
    Z0o)))
  (@Z0f _ _ _ (Z0k (pv 2))))),?_⟩
 try dsimp only[cxK]
 refine⟨q1l _,λlf hlf=>?_⟩
 have s0:=Z0g hlf (.lst [])
 refine⟨_,Z,l,_,Z,s0.seq SL,Z9m (K:=K) (a:=l) (xs:=ps.map V.ref) (λi σ H'=>Same H H'/\∃ (rs:U3) (W:Ws) (v3 v4 v5:Option V),H' lf=some (.lst (rs.map V.ref))/\Prs H' rs W/\Spn c f fl i W/\σ=[some (.ref l),some (.int fl),some (.ref lf),v3,v4,v5])
  ⟨s0,[],[],_,_,_,Z0c,.nil,⟨q0g _,λ_ z=>(nomatch z),λ_ z=>absurd z (q1k _)⟩,Z⟩ (λi σ H' _ e=>e.1.seq SL) ?_ ?_⟩
 ·rintro i x σ H1 T hx ⟨S1,rs,W,v3,v4,v5,a1,P1,SP,rfl⟩ hT
  rw[q0c] at hx
  obtain⟨p,hp,rfl⟩:=q0h.mp hx
  have ilt:i<2^c:=by rw[<-lps];exact(q0l.mp hp).1
  have sT:=Z0g hT (.tup [.int i,.ref p])
  have S2:=S1.trans sT
  generalize hH2:upd H1 T (.tup [.int i,.ref p])=H2 at *
  have hT2:H2 T=some (.tup [.int i,.ref p]):=by rw[<-hH2];exact Z0c
  have a2:=sT _ _ a1
  have P2:=P1.same sT
  have hp2:=(BO.vals i p hp).same S2
  refine⟨T,_,Z,SqT.of hT2,Z,_,_,Z,_,_,Z,Z,?_⟩
  refine⟨_,Z,p,aZ,l5 (f i),[0,0,0,0,0],Z,Z,hp2,kZ H2,_,Z,blI (λne=>?_) (λe0=>?_)⟩
  ·have fn:f i≠((0,0,0,0),0):=λz=>by rw[z] at ne;exact absurd ne (by decide)
   have f1:(f i).1≠(0,0,0,0):=λz=>fn (Prod.ext z (z0 i ilt z))
   have xl:i^^^fl<2^c:=q1c ilt flc
   obtain⟨p',hp',q',at'⟩:=(BO.same S2).at xl
   refine⟨_,Z,by decide,by decide,λacc hacc=>?_⟩
   refine Z5e (n:=4) (fr:=[some (.ref l),some (.int fl),some (.int i),some (.ref p)]) (λj ys H'=>Same H2 H'/\H' acc=some (.lst ys)/\∃ ks:List Nat,ys=ks.map (λk=>V.int (k:Nat))/\∀ k,k∈ks ↔ (k<j/\f (i^^^fl)=spin (f i) ((2*k:Nat):Int))) (by decide)
    ⟨Z0g hacc _,Z0c,[],Z,λk=>⟨λz=>(nomatch z),λz=>absurd z.1 (q1k _)⟩⟩ ?_ (λhm z=>?_) ?_
   ·rintro j ys H3 N hj hy ⟨S3,a3,ks,rfl,kk⟩ kN3
    have e0:(0:Int)+(j:Int)=(j:Int):=q2p _
    refine⟨_,Z,_,Z,_,_,Z,Z,.inl ⟨by decide,by decide⟩,p,(f i).1.1,(f i).1.2.1,(f i).1.2.2.1,(f i).1.2.2.2,(f i).2,_,Z,hp2.same S3,λr H4 S4 hr4=>?_⟩
    have e2:(2:Int)*(0+(j:Int))=((2*j:Nat):Int):=by omega
    have hr4':At5 K H4 r (spin (f i) ((2*j:Nat):Int)):=by rw[<-e2];exact hr4
    have S34:=S3.trans S4
    refine⟨_,Z,_,Z,_,Z,_,_,Z,Z,l,_,_,.ref p',Z,Z,(S2.trans S34).seq SL,(by rw[Z4r];exact at'),r,p',l5 (spin (f i) ((2*j:Nat):Int)),l5 (f (i^^^fl)),Z,Z,hr4',q'.same S34,?_⟩
    refine⟨_,Z,?_⟩
    refine kN3 _ _ (λhb1=>?_) (λhb0=>?_)
    ·have e1:f (i^^^fl)=spin (f i) ((2*j:Nat):Int):=(Y9j (q1u hb1)).symm
     refine⟨_,Z,S4 _ _ a3,Z0s S34 hacc,Z0c,ks++[j],by rw[q0i,e0];rfl,λk=>?_⟩
     rw[q1b,kk k,q0r]
     constructor
     ·rintro (z | rfl)
      ·exact⟨by omega,z.2⟩
      ·exact⟨by omega,e1⟩
     ·rintro ⟨z,z'⟩
      by_cases q:k=j
      ·exact .inr q
      ·exact .inl ⟨by omega,z'⟩
    ·have e1:¬ f (i^^^fl)=spin (f i) ((2*j:Nat):Int):=λz=>by
      have:=q4n hb0
      exact this (by rw[z])
     refine⟨S34,S4 _ _ a3,ks,Z,λk=>?_⟩
     rw[kk k]
     constructor
     ·exact λz=>⟨by omega,z.2⟩
     ·rintro ⟨z,z'⟩
      have q:k≠j:=λq=>e1 (by rw[<-q];exact z')
      exact⟨by omega,z'⟩
   ·obtain⟨v,e,q⟩:=z
    exact⟨v,e,hm _ _ q⟩
   rintro ys H3 ⟨S3,a3,ks,rfl,kk⟩
   have SK:SqL K H3 acc (ks.map λk=>V.int (k:Nat)):=SqL.of a3
   refine⟨_,Z,acc,_,Z,.inl SK,Z,_,Z,eqI (λe=>?_) (λe=>?_)⟩
   ·have:ks=[]:=by
     cases ks with
     | nil=>rfl
     | cons k0 ks=>simp at e;omega
    subst this
    exact kN _ (S2.trans S3) ⟨i,ilt,f1,λk k4 z=>(nomatch (kk k).mpr ⟨k4,z⟩)⟩
   ·cases ks with
    | nil=>exact absurd rfl e
    | cons k0 ks =>
     obtain⟨k04,ke⟩:=(kk k0).mp (.head _)
     have a4:=S3 _ _ a2
     refine⟨_,Z,.inl ⟨Z,_,SqL.of a4⟩,_,Z,_,Z,acc,_,_,_,Z,Z,SK,at0,t2,λt ht=>?_⟩
     have s5:=Z0g ht (.tup [.int i,.int (k0:Nat)])
     have wl:=SP.len
     refine⟨lf,_,_,Z,Z,s5 _ _ a4,(by rw[q0a,P1.length];exact q2y (q1i wl (q6f (q0k ilt p6))) (by decide)),?_⟩
     refine⟨Z0s ((S2.trans S3).trans s5) hlf,rs++[t],W++[(i,k0)],_,_,_,(by rw[Z0c,q0i];rfl),Prs.upd (Prs.snoc ((P2.same S3).same s5) Z0c) (s5 _ _ a4),⟨by rw[q1d];simp;omega,λt' ht'=>?_,λw' hw' fw'=>?_⟩,Z⟩
     ·rcases q1b.mp ht' with z | z
      ·exact SP.pt t' z
      ·rw[q0r.mp z]
       exact⟨ilt,k04,f1,ke⟩
     ·by_cases q:w'=i
      ·subst q
       exact⟨k0,q0n _ (.head _)⟩
      ·obtain⟨k',hk'⟩:=SP.all w' (by omega) fw'
       exact⟨k',q1z _ hk'⟩
  ·have fz:f i=((0,0,0,0),0):=Y9j (by
    have:decide (l5 (f i)=[0,0,0,0,0])=true:=by simpa using e0
    exact q1u this)
   refine⟨S2,rs,W,_,_,_,a2,P2,⟨Nat.le_succ_of_le SP.len,SP.pt,λw' hw' fw'=>?_⟩,Z⟩
   by_cases q:w'=i
   ·subst q
    exact absurd fz fw'
   ·exact SP.all w' (by omega) fw'
 ·rintro σ H1 ⟨S1,rs,W,v3,v4,v5,a1,P1,SP,rfl⟩
  rw[q0a,lps] at SP
  exact⟨_,Z,kq lf H1 rs W S1 a1 P1 SP⟩
theorem X3e {K:U0}{l:W9}{xs:List V}{tc:TT}{te:TE}{fr:L2.St}{H1:Hp}{acc:W9}{Q:VK}(Pv:Nat->List V->Hp->Prop)(hn:xs.length<=sizeLine)(h0:Pv 0 [] (upd H1 acc (.lst [])))(hl:∀ i ys H,Pv i ys H->SqL K H l xs)
  (hs:∀ i x ys H (N:Bool->Hp->Prop),xs[i]?=some x->ys.length<=i->Pv i ys H->(∀ b H5,(b=true->te (some x::fr) H5 λy H6=>H6 acc=some (.lst ys)/\Pv (i+1) (ys++[y]) (upd H6 acc (.lst (ys++[y]))))->(b=false->Pv (i+1) ys H5)->N b H5)->tc (some x::fr) H N)
  (mono:∀ {σ H}{R R':VK},(∀ v H,R v H->R' v H)->te σ H R->te σ H R')
  (hd:∀ ys H,Pv xs.length ys H->Q (.ref acc) H):LcWF (Itl K l) (gName 0) tc te (none::fr) H1 acc Q:=by
 refine⟨λi m ys σ2 H2=>m=xs.length-i/\i<=xs.length/\ys.length<=i/\(∃ v,σ2=v::fr)/\Pv i ys H2,⟨xs.length,by simp,q1l _,q0g _,⟨_,Z⟩,h0⟩,?_⟩
 rintro i m ys σ2 H2 ⟨rfl,hi,hyl,⟨v,rfl⟩,p⟩
 have sq:=hl i ys H2 p
 by_cases hlt:i<xs.length
 ·have e3:xs[i]?=some xs[i]:=by simp[hlt]
  refine .inr ⟨⟨_,_,sq,e3⟩,λu H3 y3=>?_⟩
  obtain⟨rfl,y4⟩:=y3
  have:=y4 _ sq
  rw[e3] at this
  cases this
  refine hs i _ ys _ _ e3 hyl p λb H5 ht hf=>⟨λe=>mono (λy H6 q=>?_) (ht e),λe=>⟨xs.length-(i+1),by omega,Z,hlt,by omega,⟨_,Z⟩,hf e⟩⟩
  exact⟨q.1,by omega,xs.length-(i+1),by omega,Z,hlt,by rw[q1d];simp;omega,⟨_,Z⟩,q.2⟩
 ·have e:i=xs.length:=by omega
  subst e
  exact .inl ⟨⟨_,sq,q0g _⟩,hd ys H2 p⟩
noncomputable def mkS (w k fl s:Nat):Mk:=((k+2*pc (w&&&s))%4,fl,s)
def Okz (c:Nat)(f:Nat->A5):Prop:=∀ i,i<2^c->(f i).1=(0,0,0,0)->(f i).2=0
def spKW (K:U0):Sp:=λvs H Q _=>∃ (l:W9) (ps:U3) (f:Nat->A5) (c fl:Nat),vs=[.ref l,.int fl]/\Bo K H l ps f c/\c<=6/\fl<2^c/\Okz c f/\Nv c f ∧
 ∀ (r:W9) (H':Hp) (qs:U3) (ms:List Mk),H r=none->Same H H'->H' r=some (.lst (qs.map V.ref))->Mks H' qs ms->ms.length<=64->(∀ m∈ms,M82.Ok c m/\Kp c f m)->(∀ m,M82.Ok c m->Kp c f m->m.2.1=fl->m∈ms)->Q (.ref r) H'
theorem W1b {c:Nat}{f:Nat->A5}{fl:Nat}{W:Ws}(S:Spn c f fl (2^c) W)(z:Okz c f)(flc:fl<2^c){m:Mk}(e:m.2.1=fl)(h:∀ t∈W,Fit m t):Kp c f m:=λw hw=>by
 rw[e]
 by_cases fw:f w=((0,0,0,0),0)
 ·have x0:spin (f w) ((2*m.1+4*pc (w&&&m.2.2):Nat):Int)=((0,0,0,0),0):=by
   rw[fw,<-M82.Z3n _ (Nat.mod_mod _ 8)]
   have:(2*m.1+4*pc (w&&&m.2.2))%8<8:=q1v _ (by decide)
   generalize (2*m.1+4*pc (w&&&m.2.2))%8=n at *
   have:n=0∨n=1∨n=2∨n=3∨n=4∨n=5∨n=6∨n=7:=by omega
   rcases this with rfl | rfl | rfl | rfl | rfl | rfl | rfl | rfl<;>rfl
  rw[x0]
  apply Classical.byContradiction
  intro ne
  have xl:w^^^fl<2^c:=q1c hw flc
  obtain⟨k,hk⟩:=S.all _ xl ne
  obtain⟨_,k4,n0,e1⟩:=S.pt _ hk
  have e2:w^^^fl^^^fl=w:=by rw[q1t,q3n,q6z]
  have e1:f (w^^^fl^^^fl)=spin (f (w^^^fl)) ((2*k:Nat):Int):=e1
  rw[e2,fw] at e1
  have e3:spin ((0,0,0,0),0) ((8-2*k:Nat):Int)=spin (spin (f (w^^^fl)) ((2*k:Nat):Int)) ((8-2*k:Nat):Int):=by rw[<-e1]
  rw[M82.Z9y,M82.Z3n (a:=2*k+(8-2*k)) (b:=0) _ (by omega)] at e3
  have e4:spin ((0,0,0,0),0) ((8-2*k:Nat):Int)=(((0,0,0,0),0):A5):=by
   have:k=0∨k=1∨k=2∨k=3:=by omega
   rcases this with rfl | rfl | rfl | rfl<;>rfl
  rw[e4] at e3
  exact ne e3.symm
 ·obtain⟨k,hk⟩:=S.all _ hw fw
  obtain⟨_,k4,n0,e1⟩:=S.pt _ hk
  have:=h _ hk
  unfold Fit at this
  simp only at this e1
  rw[e1]
  apply M82.Z3n
  omega
theorem W1s {c:Nat}{f:Nat->A5}{fl:Nat}{W:Ws}(S:Spn c f fl (2^c) W){m:Mk}(e:m.2.1=fl)(h:Kp c f m):∀ t∈W,Fit m t:=λt ht=>by
 obtain⟨wl,k4,n0,e1⟩:=S.pt t ht
 have:=h t.1 wl
 rw[e,e1] at this
 have q:=M82.Y3j n0 (a:=t.2) (b:=m.1+2*pc (t.1&&&m.2.2)) (by rw[show 2*(m.1+2*pc (t.1&&&m.2.2))=2*m.1+4*pc (t.1&&&m.2.2) by omega];exact this)
 show (m.1+2*pc (t.1&&&m.2.2))%4=t.2
 omega
theorem W3b {c:Nat}{f:Nat->A5}{fl w:Nat}(hw:w<2^c)(h:∀ k:Nat,k<4->f (w^^^fl)≠spin (f w) ((2*k:Nat):Int)){m:Mk}(e:m.2.1=fl):¬ Kp c f m:=λz=>by
 have:=z w hw
 rw[e,M82.Z3n (b:=2*((m.1+2*pc (w&&&m.2.2))%4)) _ (by omega)] at this
 exact h _ (q1v _ (by decide)) this
theorem sc_kw:FnScope ["board","flips","spins","first","marks"] ["board","flips"] (Z0i (top 54)):=fS
theorem W3a (F:FunAt K "keepers_with" (top 54) .none)(X:K.In h)(G:Ng h mg)(B:Bs mg)(eO:Cal P w K mg base k "spins_on" ["board","flips"] (Y6u K))(cD:Cal P w K mg base k "ones" ["number"] K63T.spOnes)(eB:Cal P w K mg base k "has_spins" ["mark","spins"] (spHasS K)) :
  Cal P w K mg base (k+1) "keepers_with" ["board","flips"] (spKW K):=by
 have nd:=sc_kw.nd
 refine F.cal X G sc_kw (bnd2 λ_ _ _ _ _ _ _ _=>rfl) (λvs H Q E h=>?_) (λf cdv A outer s H vs Q E hr h=>?_)
 ·obtain⟨l,ps,f,c,fl,rfl,_⟩:=h;rfl
 obtain⟨l,ps,f,c,fl,rfl,BO,c6,flc,oz,nv,kq⟩:=h
 have SL:SqL K H l (ps.map V.ref):=SqL.of BO.lst
 have p6:=pow6 c6
 have lps:=BO.len
 refine⟨_,(@Z0e _ _ _ _ _ (@Z0q _ _ 2 _ _ _ _ nd rfl (Or.inr rfl) (Z0l eO hr rfl (Z0a (pv 0) (Z0a (pv 1) Z0d))) rfl (.inl rfl))
  (@Z0e _ _ _ _ _ (Z0w (Z0n X4t (pv 2) Z6z (nomark _))
   (@Z0f _ _ _ (Z0k (@Z3b _ _ _ _ Z0d)))
   Z0o)
  (@Z0e _ _ _ _ _ (@Z0q _ _ 3 _ _ _ _ nd rfl (Or.inr rfl) (Z0m Z0z (pv 2) Z0b (λ_ _=>rfl)) rfl (.inl rfl))
  (@Z0e _ _ _ _ _ (Z3h (i:=4) rfl nd rfl rfl (LcOk.of (Nc:=["signs","flips","first"]) (mp:=[none,some 1,some 3]) (by kernel_rfl)) (Z0y rfl B.range (Z0a (Z0r Z0u rfl B.len q1h (Z0a (pv 0) Z0d)) Z0d)) (λ_ _ _ _=>(Z0p (i:=0) (show (["signs","flips","first"]:W0).Nodup by decide +kernel) rfl (Or.inl rfl))) (λ_ _ _ _=>(@Z1a _ _ _ _ _ (Z0a (Z0h Z0v (Z0h Z1z (Z0m Z4p (pv 2) Z0b (λ_ _=>rfl)) (Z0h Z3p Z0b (Z0l cD hr rfl (Z0a (Z0h Z1d (Z0m Z4p (pv 2) Z0b (λ_ _=>rfl)) (pv 0)) Z0d)))) Z0b) (Z0a (pv 1) (Z0a (pv 0) Z0d))))) rfl)
  (@Z0f _ _ _ (Z0k (Y4c rfl (LcOk.of (Nc:=["mark","spins"]) (mp:=[none,some 2]) (by kernel_rfl)) (Z1e (pv 4)) (λ_ _ _ _=>(Z0p (i:=0) (show (["mark","spins"]:W0).Nodup by decide +kernel) rfl (Or.inl rfl))) (λ_ _ _ _=>(Z1n (Z0l eB hr rfl (Z0a (pv 0) (Z0a (pv 1) Z0d))))) (λ_ _ _ _=>(pv 0))))))))),?_⟩
 try dsimp only[cxK]
 refine⟨_,Z,_,Z,l,ps,f,c,fl,Z,BO,c6,flc,oz,λH1 S1 no=>?_,λr1 H1 qs W S1 h1 P1 SP=>?_⟩
 ·refine⟨_,Z,Z,_,Z,decI (λ_=>?_) (λz=>absurd rfl z)⟩
  obtain⟨w0,hw,n0,nk⟩:=no
  refine⟨q1l _,λr hr=>kq r _ [] [] (S1.free hr) (S1.trans (Z0g hr _)) Z0c .nil (q1l _) (λ_ z=>(nomatch z)) λm om km e=>absurd km (W3b hw nk e)⟩
 ·refine⟨_,Z,Z,_,Z,decI (λz=>(nomatch z)) (λ_=>?_)⟩
  obtain⟨w1,hw1,n1⟩:=nv
  obtain⟨k1,hk1⟩:=SP.all w1 hw1 (λz=>n1 (by rw[z]))
  cases W with
  | nil=>exact(nomatch hk1)
  | cons t0 W =>
  cases qs with
  | nil=>exact absurd P1.length (by simp)
  | cons q0 qs =>
  obtain⟨w0,k0⟩:=t0
  obtain⟨p0,hW0,hq0⟩:=P1.get (i:=0) (q:=q0) rfl
  cases hW0
  have k04:k0<4:=(SP.pt _ (.head _)).2.1
  have SK:SqL K H1 r1 ((q0::qs).map V.ref):=SqL.of h1
  refine⟨_,Z,r1,_,_,_,Z,Z,SK,at0,?_⟩
  refine⟨_,Z,l,_,Z,.inl (S1.seq SL),_,Z,by omega,(by rw[q0a,lps];omega),λacc hacc=>?_⟩
  have eN:(((ps.map V.ref).length:Nat):Int).toNat=2^c:=by rw[q0v,q0a,lps]
  rw[eN]
  refine Z4i (n:=2^c) (fr:=[some (.int fl),some (.ref q0)]) (λi ys H'=>Same H1 H'/\H' acc=some (.lst ys)/\∃ rs:List Addr,ys=rs.map V.ref/\Mks H' rs ((List.range i).map λs=>mkS w0 k0 fl s)) (t64 p6)
   ⟨Z0g hacc _,Z0c,[],Z,.nil⟩ ?_ ?_
  ·rintro i ys H2 N hi hy ⟨S2,a2,rs,rfl,M2⟩ kN
   have SQ:SqT K H2 q0 [.int w0,.int k0]:=SqT.of (S2 _ _ hq0)
   have e0:(0:Int)+(i:Int)=(i:Int):=q2p _
   refine⟨_,Z,q0,_,_,_,Z,Z,SQ,Z,_,Z,q0,_,_,_,Z,Z,SQ,Z,_,Z,_,_,Z,Z,w0&&&i,(by rw[e0];exact Z5t _ _),_,_,Z,Z,.inl ⟨by decide,by decide⟩,_,_,Z,Z,_,_,Z,Z,Z3i,_,Z,_,Z,t3,λt ht=>?_⟩
   have s3:=Z0g ht (.tup [.int (((k0:Int)-2*((pc (w0&&&i):Nat):Int))%4),.int fl,.int (0+(i:Int))])
   refine kN _ _ (s3 _ _ a2) ⟨Z0s (S2.trans s3) hacc,Z0c,rs++[t],by rw[q0i];rfl,?_⟩
   rw[q4s,q0i]
   refine K63T.Mks.upd (Paired.snoc (M2.same s3) ?_) (s3 _ _ a2)
   rw[Z0c]
   show some (HO.tup [.int (((k0:Int)-2*((pc (w0&&&i):Nat):Int))%4),.int fl,.int (0+(i:Int))])=some (HO.tup [.int (((k0+2*pc (w0&&&i))%4:Nat):Int),.int fl,.int (i:Int)])
   rw[e0,show ((k0:Int)-2*((pc (w0&&&i):Nat):Int))%4=(((k0+2*pc (w0&&&i))%4:Nat):Int) by omega]
  rintro ys H2 hy ⟨S2,a2,rs,rfl,M2⟩
  have lr:=M2.length
  rw[q0a,q7k] at lr
  have SM:SqL K H2 acc (rs.map V.ref):=SqL.of a2
  refine⟨_,Z,acc,Z,⟨_,SM⟩,λacc2 hacc2=>?_⟩
  refine X3e (K:=K) (l:=acc) (xs:=rs.map V.ref) (fr:=[some (.ref r1)]) (λi ys H'=>Same H2 H'/\H' acc2=some (.lst ys)/\∃ (us:U3) (ms:List Mk),ys=us.map V.ref/\Mks H' us ms/\ms.length<=i/\(∀ m∈ms,M82.Ok c m/\Kp c f m)/\(∀ s,s<i->(∀ t∈(w0,k0)::W,Fit (mkS w0 k0 fl s) t)->mkS w0 k0 fl s∈ms))
   (by rw[q0a,lr];exact t64 p6) ⟨Z0g hacc2 _,Z0c,[],[],Z,.nil,q0g _,λ_ z=>(nomatch z),λ_ z=>absurd z (q1k _)⟩ (λi ys H' e=>e.1.seq SM) ?_ (λhm z=>?_) ?_
  ·rintro i x ys H3 N hx hy ⟨S3,a3,us,ms,rfl,M3,l3,o3,all3⟩ kN
   rw[q0c] at hx
   obtain⟨p,hp,rfl⟩:=q0h.mp hx
   have ilt:i<2^c:=by rw[<-lr];exact(q0l.mp hp).1
   obtain⟨m,hm,pm⟩:=M2.get hp
   rw[q0c,List.getElem?_range ilt] at hm
   cases hm
   have pm3:=S3 _ _ pm
   refine⟨_,Z,_,Z,p,r1,_,(w0,k0)::W,mkS w0 k0 fl i,Z,SqT.of pm3,(S2.trans S3).seq SK,(P1.same S2).same S3,?_⟩
   refine⟨_,Z,?_⟩
   refine kN _ _ (λhb1=>?_) (λhb0=>?_)
   ·have ft:=q1u hb1
    refine⟨_,Z,a3,Z0s S3 hacc2,Z0c,us++[p],ms++[mkS w0 k0 fl i],by rw[q0i];rfl,K63T.Mks.upd (Paired.snoc M3 pm3) a3,by rw[q1d];simp;omega,λm hm=>?_,λs hs hf=>?_⟩
    ·rcases q1b.mp hm with z | z
     ·exact o3 m z
     ·rw[q0r.mp z]
      exact⟨⟨q1v _ (by decide),flc,ilt⟩,W1b SP oz flc rfl ft⟩
    ·by_cases q:s=i
     ·subst q
      exact q0n _ (.head _)
     ·exact q1z _ (all3 s (by omega) hf)
   ·have ft:=q4n hb0
    refine⟨S3,a3,us,ms,Z,M3,by omega,o3,λs hs hf=>?_⟩
    by_cases q:s=i
    ·subst q
     exact absurd hf ft
    ·exact all3 s (by omega) hf
  ·obtain⟨v,e,q⟩:=z
   exact⟨v,e,hm _ _ q⟩
  rintro ys H3 ⟨S3,a3,us,ms,rfl,M3,l3,o3,all3⟩
  rw[q0a,lr] at l3 all3
  refine kq acc2 H3 us ms ((S1.trans S2).free hacc2) ((S1.trans S2).trans S3) a3 M3 (q1i l3 p6) o3 λm om km e=>?_
  have ft:=W1s SP e km
  have f0:=ft (w0,k0) (.head _)
  have em:m=mkS w0 k0 fl m.2.2:=by
   have q4:=om.q
   unfold Fit at f0
   simp only at f0
   refine Prod.ext ?_ (Prod.ext e rfl)
   show m.1=(k0+2*pc (w0&&&m.2.2))%4
   omega
  have:=all3 m.2.2 om.s (by rw[<-em];exact ft)
  rw[<-em] at this
  exact this
end
end K63
namespace K63
open L2 Am Pc Ba
open M54 (Mk)
open M57 (In)
open K63T (T3 L3 Mks Z5t Z3q Z3i)
open M82 (Kp Nv)
structure Kep (c:Nat) (f:Nat->A5) (S:List Mk):Prop where
 ex:∃ R,M82.Kc c f R/\M53.Dm R S/\S.length=R.length
 rise:S.Pairwise (λa b=>M53.ldm a<=M53.ldm b)
def spKeep (K:U0):Sp:=λvs H Q _=>∃ (l:W9) (ps:U3) (f:Nat->A5) (c:Nat),vs=[.ref l]/\Bo K H l ps f c/\1<=c/\c<=6/\Okz c f/\Nv c f ∧
 ∀ (r:W9) (H':Hp) (qs:U3) (S:List Mk),H r=none->Same H H'->H' r=some (.lst (qs.map V.ref))->Mks H' qs S->Kep c f S->Q (.ref r) H'
theorem ma:¬ (V.str "made"=V.str "apart"):=λe=>absurd (V.str.inj e) (by decide +kernel)
section
variable {P:U8}{w:W1}{K:U0}{mg:U4}{base:Heap}{k:Nat}{h:Heap}
theorem sc_keep:FnScope ["board","cells","rows","flips","mark"] ["board"] (Z0i (top 53)):=fS
theorem X7d (F:FunAt K "keepers" (top 53) .none)(X:K.In h)(G:Ng h mg)(B:Bs mg)(cT:Cal P w K mg base k "cells_of" ["board"] (Z6s K))(dI:Cal P w K mg base k "keepers_with" ["board","flips"] (spKW K))(cW:Cal P w K mg base k "made_of" ["rows","mark","cells"] (K63T.Z8q K))(cY:Cal P w K mg base k "reduced" ["rows","cells"] K63T.Z6p) :
  Cal P w K mg base (k+1) "keepers" ["board"] (spKeep K):=by
 have nd:=sc_keep.nd
 refine F.cal X G sc_keep (bnd1 λ_ _ _ _ _ _ _=>rfl) (λvs H Q E h=>?_) (λf cdv A outer s H vs Q E hr h=>?_)
 ·obtain⟨l,ps,f,c,rfl,_⟩:=h;rfl
 obtain⟨l,ps,f,c,rfl,BO,c1,c6,oz,nv,kq⟩:=h
 have SL:SqL K H l (ps.map V.ref):=SqL.of BO.lst
 have p6:=pow6 c6
 have lps:=BO.len
 refine⟨_,(@Z0e _ _ _ _ _ (@Z0q _ _ 1 _ _ _ _ nd rfl (Or.inl rfl) (Z0l cT hr rfl (Z0a (pv 0) Z0d)) rfl (.inl rfl))
  (@Z0e _ _ _ _ _ (@Z0q _ _ 2 _ _ _ _ nd rfl (Or.inl rfl) (@Z3b _ _ _ _ Z0d) rfl (.inl rfl))
  (@Z0e _ _ _ _ _ (Z1v PassesOwn.never rfl (Z0y rfl B.range (Z0a (Z0r Z0u rfl B.len q1h (Z0a (pv 0) Z0d)) Z0d)) (Z0p (i:=3) nd rfl (Or.inl rfl))
   (@Z0f _ _ _ (Z1v PassesOwn.never rfl (Z1e (Z0l dI hr rfl (Z0a (pv 0) (Z0a (pv 3) Z0d)))) (Z0p (i:=4) nd rfl (Or.inl rfl))
    (@Z0f _ _ _ (Z0w (Z0n Z1k (Z0m Z0j (Z0l cW hr rfl (Z0a (pv 2) (Z0a (pv 4) (Z0a (pv 1) Z0d)))) Z0b (λ_ _=>rfl)) Z1l (nomark _))
     (@Z0f _ _ _ (Z3s (Y7u q3m q3j q3i Z3d (pv 2) (Z0a (pv 4) Z0d))))
     Z0o)))))
  (@Z0f _ _ _ (Z0k (Z0l cY hr rfl (Z0a (pv 2) (Z0a (pv 1) Z0d)))))))),?_⟩
 try dsimp only[cxK]
 refine⟨_,Z,l,_,c,Z,SL,(by rw[q0a,lps]),c6,?_⟩
 refine⟨q1l _,λlr hlr=>?_⟩
 have s0:=Z0g hlr (.lst [])
 have eN:(((ps.map V.ref).length:Nat):Int).toNat=2^c:=by rw[q0v,q0a,lps]
 refine⟨_,Z,l,_,Z,.inl (s0.seq SL),_,Z,by omega,(by rw[q0a,lps];omega),?_⟩
 rw[eN]
 refine Z1u (n:=2^c) (λi σ H'=>Same H H'/\∃ (rs:U3) (R:List Mk) (v3 v4:Option V),H' lr=some (.lst (rs.map V.ref))/\Mks H' rs R/\M82.Ks c f R/\(∀ m,M82.Ok c m->Kp c f m->m.2.1<i->In R m)/\σ=[some (.ref l),some (.int c),some (.ref lr),v3,v4])
  ⟨s0,[],[],_,_,Z0c,.nil,M82.Ks.nil,λ_ _ _ z=>absurd z (q1k _),Z⟩ ?_ ?_
 ·rintro i σ H1 hi ⟨S1,rs,R,v3,v4,a1,M1,ks,all1,rfl⟩
  have e0:(0:Int)+(i:Int)=(i:Int):=q2p _
  refine⟨_,Z,_,Z,l,ps,f,c,i,(by rw[e0];rfl),BO.same S1,c6,hi,oz,nv,λr H2 qs ms fr S2 h2 M2 l64 o2 all2=>?_⟩
  have nlr:lr≠r:=Z1w a1 fr
  refine⟨r,Z,⟨_,SqL.of h2⟩,Z2x (K:=K) (a:=r) (xs:=qs.map V.ref) (λj σ H'=>Same H H'/\H' r=some (.lst (qs.map V.ref))/\Mks H' qs ms/\∃ (rs:U3) (R:List Mk) (v4:Option V),H' lr=some (.lst (rs.map V.ref))/\Mks H' rs R/\M82.Ks c f R/\(∀ m,M82.Ok c m->Kp c f m->m.2.1<i->In R m)/\(∀ m∈ms.take j,In R m)/\σ=[some (.ref l),some (.int c),some (.ref lr),some (.int (0+(i:Int))),v4])
   ⟨S1.trans S2,h2,M2,rs,R,_,S2 _ _ a1,M1.same S2,ks,all1,(by rw[q5b];exact λ_ z=>(nomatch z)),Z⟩ (λj σ H' _ e=>SqL.of e.2.1) ?_ ?_⟩
  ·rintro j x σ H3 hx ⟨S3,h3,M3,rs,R,v4,a3,R3,ks,all1,tk,rfl⟩
   rw[q0c] at hx
   obtain⟨p,hp,rfl⟩:=q0h.mp hx
   obtain⟨m,hm,pm⟩:=M3.get hp
   obtain⟨om,km⟩:=o2 m (q0y hm)
   have T:=ks.tb c6 nv
   refine⟨_,Z,_,Z,_,Z,lr,p,rs,R,m,c,Z,SqL.of a3,R3,pm,c6,M82.len12 T,(λm hm=>⟨(ks.ok m hm).1.q,(ks.ok m hm).1.f,(ks.ok m hm).1.s⟩),⟨om.q,om.f,om.s⟩,λt H4 S4 MT=>?_⟩
   have a4:=S4 _ _ a3
   have tk1:∀ R',(∀ g,In R g->In R' g)->In R' m->∀ g∈ms.take (j+1),In R' g:=λR' up hin g hg=>by
    rw[q1m,hm,q1w] at hg
    rcases q1b.mp hg with z | z
    ·exact up g (tk g z)
    ·rw[q0r.mp z];exact hin
   rcases MT with ⟨kk,xx,ll,_,ht,hll,kk4,ee⟩ | ⟨pp,o,ht,hpp,oo,oev,com1,com0⟩
   ·have hin:In R m:=M82.X8a nv ks om km kk4 ee
    refine⟨t,_,_,_,Z,Z,SqT.of ht,at0,Z,_,Z,decI (λz=>absurd z ma) (λ_=>?_)⟩
    exact⟨S3.trans S4,S4 _ _ h3,M3.same S4,rs,R,_,a4,R3.same S4,ks,all1,tk1 R (λ_ z=>z) hin,Z⟩
   ·have ks':M82.Ks c f (R++[m]):=ks.snoc om km com1 com0
    have N':=(ks'.tb c6 nv).nice
    have up:∀ g,In R g->In (R++[m]) g:=λg hg=>M82.X8l N' hg
    have hin:In (R++[m]) m:=M53.Z5c N' (q0n _ (.head _))
    refine⟨t,_,_,_,Z,Z,SqT.of ht,at0,Z,_,Z,decI (λ_=>?_) (λz=>absurd rfl z)⟩
    have lR:=M82.len12 T
    refine⟨_,Z,.inl ⟨Z,_,SqL.of a4⟩,_,Z,lr,_,_,Z,Z,a4,(by rw[q0a,R3.length];exact q2y lR (by decide)),?_⟩
    refine⟨Z0s (S3.trans S4) hlr,?_,K63T.Mks.upd (M3.same S4) a4,rs++[p],R++[m],_,(by rw[Z0c,q0i];rfl),K63T.Mks.upd (Paired.snoc (R3.same S4) (S4 _ _ pm)) a4,ks',λg og kg z=>up g (all1 g og kg z),tk1 _ up hin,Z⟩
    rw[Z0x (Ne.symm nlr)]
    exact S4 _ _ h3
  ·rintro σ H3 ⟨S3,h3,M3,rs,R,v4,a3,R3,ks,all1,tk,rfl⟩
   rw[q0a,M2.length,q2e] at tk
   refine⟨S3,rs,R,_,_,a3,R3,ks,λm om km z=>?_,Z⟩
   by_cases q:m.2.1=i
   ·exact tk m (all2 m om km q)
   ·exact all1 m om km (by omega)
 ·rintro σ H1 ⟨S1,rs,R,v3,v4,a1,M1,ks,all1,rfl⟩
  have T:=ks.tb c6 nv
  refine⟨_,Z,_,Z,lr,rs,R,c,Z,⟨a1,M1,(λm hm=>⟨(ks.ok m hm).1.q,(ks.ok m hm).1.f,(ks.ok m hm).1.s⟩),T,M82.len12 T⟩,c1,c6,λr H2 qs S S2 fr h2 M2 DM ll pw=>?_⟩
  exact kq r H2 qs S (S1.free fr) (S1.trans S2) h2 M2 ⟨⟨R,⟨ks,λm om km=>all1 m om km om.f⟩,DM,ll⟩,pw⟩
end
end K63
namespace L2
end L2
namespace L2
section
variable {prog:U8}{w:W1}{A:W6}{E:U2}{s:U7}{l:W9}
theorem Y3d {vs:U9}{Q:U2}(ht:s.heap.IsTuple l vs)
  (h:∀ hp:Heap,hp=s.heap.push { cls:=.type "tuple_iterator",data:=.fields #[.ref l,.int 0 0] }->hp.IsTupleIter s.heap.objs.size l 0/\hp.IsTuple l vs->(∀ b∈[s.heap.objs.size,l],b<hp.objs.size)->l≠s.heap.objs.size →
   (∀ h':Heap,(∀ b o,b ∉ [s.heap.objs.size]->hp.get? b=some o->h'.get? b=some o)->∀ b o,s.heap.get? b=some o->h'.get? b=some o)->Q (.ref s.heap.objs.size) { s with heap:=hp }) :
  wpAny (model prog w) A (pyIter (.ref l)) Q E s:=by
 have low:l<s.heap.objs.size:=by obtain⟨_,e,_⟩:=ht;exact q0j e
 refine q5k ht (h _ rfl ⟨⟨_,q0q _ rfl,Z,Z⟩,ht.push _⟩ (λb hb=>?_) (q0x low) λh' hk b o e=>?_)
 ·rw[q2n]
  simp only[q0t,q1j,q3x] at hb
  rcases hb with rfl | rfl
  ·exact q2l _
  ·exact q3d low
 ·have:=q0j e
  exact hk b o (by simp only[q0t,q1j,q3x];exact q0x this) (q0f _ e)
theorem X7y {xs:Array (Int × Tok)}{Q:U2}(hh:A.handled=none)(ht:s.heap.IsTuple l (intItems xs))(hne:0<xs.size)
  (h:∀ (v:W2) (h':Heap) (tk:Nat),(intItems xs)[argBest (λi j=>decide (PySem.numAt xs i<PySem.numAt xs j)) (xs.size-1)]?=some v->(∀ b o,s.heap.get? b=some o->h'.get? b=some o)->Q v { s with heap:=h',toks:=tk }) :
  wpAny (model prog w) A (call (.builtin "min") [.ref l]) Q E s:=by
 refine call_min_walk (Y3d ht λhp e st hf hl old=>?_)
 have z:(intItems xs).size=xs.size:=by simp[intItems]
 refine⟨_,_,_,_,_,_,_,Z,Walks.tuple (A:=A.in1) hh _ l hl (intItems xs),st,hf,by rw[z];exact hne,CmpOf.ints_lt (PySem.numAt xs) (λ_ _=>q8u),λv h' tk hP hk=>?_⟩
 rw[z] at hP
 exact h v h' tk hP (old h' hk)
theorem X7z {xs:Array (Int × Tok)}{Q:U2}(hh:A.handled=none)(ht:s.heap.IsTuple l (intItems xs))(hne:0<xs.size)
  (h:∀ (v:W2) (h':Heap) (tk:Nat),(intItems xs)[argBest (λi j=>decide (PySem.numAt xs i>PySem.numAt xs j)) (xs.size-1)]?=some v->(∀ b o,s.heap.get? b=some o->h'.get? b=some o)->Q v { s with heap:=h',toks:=tk }) :
  wpAny (model prog w) A (call (.builtin "max") [.ref l]) Q E s:=by
 refine call_max_walk (Y3d ht λhp e st hf hl old=>?_)
 have z:(intItems xs).size=xs.size:=by simp[intItems]
 refine⟨_,_,_,_,_,_,_,Z,Walks.tuple (A:=A.in1) hh _ l hl (intItems xs),st,hf,by rw[z];exact hne,CmpOf.ints_gt (PySem.numAt xs) (λ_ _=>q8u),λv h' tk hP hk=>?_⟩
 rw[z] at hP
 exact h v h' tk hP (old h' hk)
end
section
variable {X:Cx}
theorem Y4v {its:U5}{ns:U6}(rv:Vals (ns.map V.int) its):∃ xs:Array (Int × Tok),its.toArray=intItems xs/\ns=xs.toList.map (·.1):=by
 have hi:=Z1x rv
 obtain⟨xs,e⟩:=hi.allInts.items
 exact⟨xs,e,by rw[<-hi.numsOf,<-nums_intItems,<-e]⟩
theorem X0n (hc:X.calm=true):CallR X (.builtin "min") (λxs H Q=>∃ (p:W9) (ns:U6),xs=[.ref p]/\SqT X.K H p (ns.map V.int)/\0<ns.length/\∀ M,M∈ns->(∀ a,a∈ns->M<=a)->Q (.int M) H):=by
 intro pins s σ H xs us Q I r h
 obtain⟨p,ns,rfl,hq,hn,q⟩:=h
 obtain⟨u,rfl,ru⟩:=r.one
 cases ru
 obtain⟨its,rv,pl,hz⟩:=I.tuple hq
 obtain⟨xs,e,hns⟩:=Y4v rv
 have hsz:0<xs.size:=by rw[hns,q0a,q1s] at hn;exact hn
 rw[e] at pl
 refine X7y (show X.A.handled=none from I.ok.hd hc) pl hsz λv h' tk hv hk=>?_
 obtain⟨t,rfl⟩:=q8u hv
 obtain⟨h1,h2⟩:=argBest_lt (PySem.numAt xs) (xs.size-1)
 refine⟨.int (PySem.numAt xs (argBest (λi j=>decide (PySem.numAt xs i<PySem.numAt xs j)) (xs.size-1))),H,I.kept (t':=tk) hk,⟨_,Z⟩,q _ ?_ λa ha=>?_⟩
 ·rw[hns,numAt_eq];exact getD_mem (by rw[q0a,q1s];omega)
 ·rw[hns] at ha
  obtain⟨j,hj,rfl⟩:=mem_getD ha
  rw[q0a,q1s] at hj
  rw[<-numAt_eq];exact h2 j (by omega)
theorem X0o (hc:X.calm=true):CallR X (.builtin "max") (λxs H Q=>∃ (p:W9) (ns:U6),xs=[.ref p]/\SqT X.K H p (ns.map V.int)/\0<ns.length/\∀ M,M∈ns->(∀ a,a∈ns->a<=M)->Q (.int M) H):=by
 intro pins s σ H xs us Q I r h
 obtain⟨p,ns,rfl,hq,hn,q⟩:=h
 obtain⟨u,rfl,ru⟩:=r.one
 cases ru
 obtain⟨its,rv,pl,hz⟩:=I.tuple hq
 obtain⟨xs,e,hns⟩:=Y4v rv
 have hsz:0<xs.size:=by rw[hns,q0a,q1s] at hn;exact hn
 rw[e] at pl
 refine X7z (show X.A.handled=none from I.ok.hd hc) pl hsz λv h' tk hv hk=>?_
 obtain⟨t,rfl⟩:=q8u hv
 obtain⟨h1,h2⟩:=argBest_gt (PySem.numAt xs) (xs.size-1)
 refine⟨.int (PySem.numAt xs (argBest (λi j=>decide (PySem.numAt xs i>PySem.numAt xs j)) (xs.size-1))),H,I.kept (t':=tk) hk,⟨_,Z⟩,q _ ?_ λa ha=>?_⟩
 ·rw[hns,numAt_eq];exact getD_mem (by rw[q0a,q1s];omega)
 ·rw[hns] at ha
  obtain⟨j,hj,rfl⟩:=mem_getD ha
  rw[q0a,q1s] at hj
  rw[<-numAt_eq];exact h2 j (by omega)
end
end L2
namespace L2
section
variable {prog:U8}{w:W1}{A:W6}{E:U2}{s:U7}{l:W9}
theorem X8q {us:U5}{R:List Value->Shared->Prop}(ht:s.heap.IsList l us.toArray)(hn:us.length<=sizeLine)
  (h:∀ h':Heap,(∀ b o,s.heap.get? b=some o->h'.get? b=some o)->s.heap.objs.size<h'.objs.size->R us { s with heap:=h' }):wpAny (model prog w) A (collect (.ref l)) R E s:=by
 obtain⟨o,ho,hc,n,hd⟩:=ht
 have low:=q0j ho
 have up:∀ b o,s.heap.get? b=some o->(s.heap.push (seqObj "list" #[] 0)).get? b=some o:=λb o e=>q0f _ e
 unfold collect
 refine q0e (q8s (q5n entry_proto_collect' ?_))
 rw[Around.under_plainId q6s _]
 show wpAny _ A.in1 (newList [] >>= λa=>again (.builtin "list.__iadd__" ⟨[a,.ref l],[]⟩)) _ _ s
 refine q0e (q6m (q0s ⟨plainId_quiet q4j _,q5n entry_list_iadd' ?_⟩))
 rw[Around.under_plainId q4j _]
 show wpAny _ _ (Builtin.List.listExtendWith (.ref s.heap.objs.size) (.ref l) (.ref s.heap.objs.size)) _ _ { s with heap:=s.heap.push (seqObj "list" #[] 0) }
 unfold Builtin.List.listExtendWith
 refine q0e (q7z (T:="list") ⟨o,up _ _ ho,hc⟩ ?_)
 rw[if_pos (by rw[show (Value.type "list" == Value.type "list")=true from rfl,Bool.or_true,Bool.true_or])]
 refine q0e (q8b (up _ _ ho) hd (q0e (q8b (xs:=#[]) (n:=0) (q0q _ rfl) rfl ?_)))
 rw[if_neg (by simp)]
 refine q0e (q6n (xs:=#[]) (n:=0) (q0q _ rfl) rfl (q0s ?_) (q1l _) (by simp;omega))
 refine q0e (q8y (q6r (q0q _ rfl) _) ?_)
 show wpAny _ _ (pure ((#[]:U9)++us.toArray).toList) _ _ _
 rw[show ((#[]:U9)++us.toArray).toList=us by simp]
 refine q0s (h _ (λb q e=>?_) ?_)
 ·have:=q0j e
  exact(q4k _ b s.heap.objs.size _ (q0x this)).trans (up b q e)
 ·show _<((s.heap.push (seqObj "list" #[] 0)).update _ _).objs.size
  rw[q7t,q2n]
  exact q2l _
end
section
variable {X:Cx}
theorem Y1c:CallR X (.builtin "sorted") (λxs H Q=>∃ (p:W9) (ns:U6),xs=[.ref p]/\SqL X.K H p (ns.map V.int)/\ns.length<64 ∧
  ∀ (l:W9) (ns':U6),H l=none->ns'.Perm ns->ns'.Pairwise (·<=·)->Q (.ref l) (upd H l (.lst (ns'.map V.int)))):=by
 intro pins s σ H xs us Q I r h
 obtain⟨p,ns,rfl,hq,hn,q⟩:=h
 obtain⟨u,rfl,rx⟩:=vals1 r
 cases rx
 obtain⟨its,rv,pl,hz⟩:=I.list hq
 have hI:=Z1x rv
 have hil:its.length=ns.length:=by have:=rv.length;rw[q0a] at this;exact this.symm
 have l64:(64:Nat)<=sizeLine:=by decide
 refine Calls.call_function_entry kind_sorted q9d q9e (args_sorted1 _) ?_
 unfold Builtin.«sorted»
 refine q0e (m:=checkCount "sorted" 1 1 _) (q0s ?_)
 refine q0e (X8q (A:=X.A.in1) pl.isList (by omega) λh' hk' hlt'=>?_)
 have hsz:=q6f hlt'
 refine q0e (q6m ?_ (by omega))
 have hoL:(h'.push (seqObj "list" its.toArray 0)).get? h'.objs.size=some (seqObj "list" its.toArray 0):=q0q _ rfl
 refine q0e (q3w (q5c q8t ⟨_,hoL,Z⟩ q8d (list_sort_tree hoL hI (by omega) λout ns' a1 a2 a3=>⟨_,Z,?_⟩) (args_list_sort _)))
 refine q0s ⟨_,Z,?_⟩
 obtain⟨e,he⟩:=sortedHeap_at (out:=out) hoL
 have kp:∀ b o,s.heap.get? b=some o->(sortedHeap (h'.push (seqObj "list" its.toArray 0)) h'.objs.size its out).get? b=some o:=λb o x=>by
  have lt:=q0j (hk' b o x)
  rw[sortedHeap_old (q0x lt) (by rw[q8q];exact q3d lt)]
  exact q0f _ (hk' b o x)
 have hlo:=a2.length_eq
 have hto:(out.toList).toArray=out:=q6l
 exact⟨.ref h'.objs.size,_,I.laid (t':=s.toks) kp hsz (show ObjOk X.prog X.w _ _ _ (.lst (ns'.map V.int)) from ⟨by rw[q0a];omega,out.toList,e,Z4s a1,by rw[hto];exact he⟩),Z,q _ ns' (I.hok.fresh hsz) a2 a3⟩
end
end L2
namespace L2
theorem X0m {X:Cx}(hc:X.calm=true):CallR X (.type "set") (λxs H Q=>∃ (p:W9) (ns:U6),xs=[.ref p]/\SqL X.K H p (ns.map V.int)/\ns.length<64/\∀ (l:W9) (S:Int->Bool),H l=none->Q (.ref l) (upd H l (.set S (unlike ns)))):=by
 intro pins s σ H xs us Q I r h
 obtain⟨p,ns,rfl,hS,h64,q⟩:=h
 obtain⟨u,rfl,rx⟩:=vals1 r
 cases rx
 obtain⟨its,rv,pl,_⟩:=I.list hS
 have el:its.toArray.size=ns.length:=by rw[q0m,<-rv.length,q0a]
 refine call_set_list (I.ok.hd hc) pl.isList (ns:=ns) (by simpa using Z7i rv) (by unfold scanBound;omega) λh' tk hs hk=>?_
 rw[el] at hs
 exact⟨.ref s.heap.objs.size,_,I.laid (o:=.set _ (unlike ns)) (t':=tk) (λb o e=>hk b o (q0j e) e) (q0g _) hs,Z,q _ _ (I.hok.fresh (q0g _))⟩
end L2
namespace L2
section
variable {X:Cx}
end
end L2
namespace L2
section
variable {X:Cx}{pins:U1}{σ:St}{H:Hp}{s:U7}
end
end L2
namespace L2
end L2
set_option maxHeartbeats 1000000
namespace L2
end L2
set_option maxHeartbeats 4000000
namespace K63
open L2 Am Pc Ba
open M54 (Mk bit Z1o Z5s)
open M53 (vec V6 IsLd ldm ev Z2d)
open K63T (T3 L3 Mks Z5t Z3q Z3i)
open M82 (Kp Nv)
structure Bv (H:Hp) (l:W9) (ps:U3) (f:Nat->A5) (c:Nat):Prop where
 lst:H l=some (.lst (ps.map V.ref))
 len:ps.length=2^c
 vals:Vals5 H ps f
theorem Bv.same {H H':Hp}{l:W9}{ps:U3}{f:Nat->A5}{c:Nat}(b:Bv H l ps f c)(s:Same H H'):Bv H' l ps f c:=⟨s _ _ b.lst,b.len,b.vals.same s⟩
theorem Bv.bo {K:U0}{H:Hp}{l:W9}{ps:U3}{f:Nat->A5}{c:Nat}(b:Bv H l ps f c):Bo K H l ps f c:=⟨b.lst,b.len,λi p e=>At5.of (b.vals i p e)⟩
def Y6z (K:U0):Sp:=λvs H Q _=>∃ (l p:W9) (ps:U3) (f:Nat->A5) (c:Nat) (m:Mk),vs=[.ref l,.ref p]/\Bo K H l ps f c/\c<=6/\SqT K H p (L3 m)/\m.2.1<2^c ∧
 ∀ (b:Bool) (H':Hp),Same H H'->(b=true ↔ Kp c f m)->Q (.bl b) H'
def spLead (K:U0):Sp:=λvs H Q _=>∃ (p:W9) (m:Mk) (n:Nat),vs=[.ref p]/\SqT K H p (L3 m)/\V6 m/\IsLd (vec m) n/\Q (.int n) H
def Y3q:Sp:=λvs H Q _=>∃ (p:W9) (m:Mk) (c:Nat),vs=[.ref p,.int c]/\H p=some (T3 m)/\M82.Ok c m/\ev m/\c<=6/\∀ H',Same H H'->Q (.bl true) H'
theorem sz12 {n:Nat}(h:n<=12):Sz 9000 ((1:Int)*2^((n:Int)).toNat):=by
 rw[ipow]
 have:2^n<=4096:=q1i (q1a (by decide) h) (by decide)
 exact(show Sz 13 ((2^n:Nat):Int) by unfold Sz;rw[Int.natAbs_natCast];omega).mono (by decide)
theorem pp (n:Nat):(0:Int)<1*2^((n:Int)).toNat:=by rw[Int.one_mul];exact q8x (by decide)
theorem X8x (x n:Nat):(Int.fdiv (x:Int) (1*2^((n:Int)).toNat))%2=((bit x n:Nat):Int):=by
 rw[q5a _ (q8o (pp n)),ipow]
 unfold bit
 rfl
theorem X5v (m:Mk):(m.2.1:Int)+(m.2.2:Int)*64=((vec m:Nat):Int):=by unfold vec;omega
theorem ld12 {m:Mk}{n:Nat}(v:V6 m)(l:IsLd (vec m) n):n<12:=by
 have one:=l.one
 unfold vec at one
 rw[Z2d v.f] at one
 split at one
 ·omega
 ·by_cases c2:n-6<6
  ·omega
  ·rw[Z5s v.s (by omega)] at one;cases one
def Y6v (K:U0):Sp:=λvs H Q _=>∃ (p:W9) (x:A5) (k:Int),vs=[.ref p,.int k]/\At5 K H p x/\∀ (r:W9) (H':Hp),Same H H'->H' r=some (tA (spin x k))->Q (.ref r) H'
section
variable {P:U8}{w:W1}{K:U0}{mg:U4}{base:Heap}{k:Nat}{h:Heap}
theorem sc_spinK:FnScope ["_law_one","_law_k","_law_a","_law_b","_law_c","_law_d","_law_h","_law_j"] ["_law_one","_law_k"] (Z0i (top 87)):=fS
theorem X2c (F:FunAt K "_law_spin" (top 87) .none)(X:K.In h)(G:Ng h mg)(B:Bs mg):Cal P w K mg base (k+1) "_law_spin" ["_law_one","_law_k"] (Y6v K):=by
 have nd:=sc_spinK.nd
 refine F.cal X G sc_spinK (bnd2 λ_ _ _ _ _ _ _ _=>rfl) (λvs H Q E h=>?_) (λf cdv A outer s H vs Q E hr h=>?_)
 ·obtain⟨p,x,k,rfl,_⟩:=h;rfl
 obtain⟨p,x,k,rfl,hp,q⟩:=h
 refine⟨_,(@Z0e _ _ _ _ _ (Z5u (pv 0) (Z5w rfl (Z1f (Z0p (i:=2) nd rfl (Or.inl rfl)) (Z1f (Z0p (i:=3) nd rfl (Or.inl rfl)) (Z1f (Z0p (i:=4) nd rfl (Or.inl rfl)) (Z1f (Z0p (i:=5) nd rfl (Or.inl rfl)) (Z1f (Z0p (i:=6) nd rfl (Or.inl rfl)) Z4c)))))))
  (@Z0e _ _ _ _ _ (Z1v PassesOwn.never rfl (Z0y rfl B.range (Z0a (Z0h Z0v (pv 1) Z0b) Z0d)) (Z0p (i:=7) nd rfl (Or.inl rfl))
   (@Z0f _ _ _ (Z5u (@Z1a _ _ _ _ _ (Z0a (Y2c Z9x (pv 5)) (Z0a (pv 2) (Z0a (pv 3) (Z0a (pv 4) Z0d))))) (Z5w rfl (Z1f (Z0p (i:=2) nd rfl (Or.inl rfl)) (Z1f (Z0p (i:=3) nd rfl (Or.inl rfl)) (Z1f (Z0p (i:=4) nd rfl (Or.inl rfl)) (Z1f (Z0p (i:=5) nd rfl (Or.inl rfl)) Z4c))))))))
  (@Z0f _ _ _ (Z0k (@Z1a _ _ _ _ _ (Z0a (pv 2) (Z0a (pv 3) (Z0a (pv 4) (Z0a (pv 5) (Z0a (pv 6) Z0d)))))))))),?_⟩
 try dsimp only[cxK]
 refine⟨_,Z,p,_,Z,hp,Z,_,_,Z,_,_,Z,_,_,Z,_,_,Z,_,_,Z,Z,?_⟩
 refine⟨_,Z,_,_,Z,Z,p_8,_,Z,by omega,by omega,Z1u (n:=(k%8).toNat) (λi σ H'=>Same H H'/\∃ v7,σ=[some (.ref p),some (.int k),some (.int (rot i x.1).1),some (.int (rot i x.1).2.1),some (.int (rot i x.1).2.2.1),some (.int (rot i x.1).2.2.2),some (.int x.2),v7]) ⟨Same.refl _,_,Z⟩ ?_ ?_⟩
 ·rintro i σ H' hi ⟨S',v7,rfl⟩
  refine⟨_,Z,_,Z,_,Z,_,Z,_,Z,t4,λt ht=>⟨t,_,Z,SqT.of Z0c,Z,_,_,Z,_,_,Z,_,_,Z,_,_,Z,Z,S'.trans (Z0g ht _),_,Z⟩⟩
 ·rintro σ H' ⟨S',v7,rfl⟩
  exact⟨_,Z,_,Z,_,Z,_,Z,_,Z,t5,λr hr=>q r _ (S'.trans (Z0g hr _)) Z0c⟩
theorem sc_keeps:FnScope ["_law_board","_law_mark","_law_q","_law_f","_law_s","_law_word"] ["_law_board","_law_mark"] (Z0i (top 96)):=fS
theorem X2k (F:FunAt K "_law_keeps" (top 96) .none)(X:K.In h)(G:Ng h mg)(B:Bs mg)(cH:Cal P w K mg base k "_law_spin" ["_law_one","_law_k"] (Y6v K))(cR:Cal P w K mg base k "_law_bits" ["_law_number"] spOnes):Cal P w K mg base (k+1) "_law_keeps" ["_law_board","_law_mark"] (Y6z K):=by
 have nd:=sc_keeps.nd
 refine F.cal X G sc_keeps (bnd2 λ_ _ _ _ _ _ _ _=>rfl) (λvs H Q E h=>?_) (λf cdv A outer s H vs Q E hr h=>?_)
 ·obtain⟨l,p,ps,f,c,m,rfl,_⟩:=h;rfl
 obtain⟨l,p,ps,f,c,m,rfl,BV,c6,SP,fc,kq⟩:=h
 have SL:SqL K H l (ps.map V.ref):=SqL.of BV.lst
 have p6:=pow6 c6
 have lps:=BV.len
 refine⟨_,(@Z0e _ _ _ _ _ (Z5u (pv 1) (Z5w rfl (Z1f (Z0p (i:=2) nd rfl (Or.inl rfl)) (Z1f (Z0p (i:=3) nd rfl (Or.inl rfl)) (Z1f (Z0p (i:=4) nd rfl (Or.inl rfl)) Z4c)))))
  (@Z0e _ _ _ _ _ (Z1v PassesOwn.never rfl (Z0y rfl B.range (Z0a (Z0r Z0u rfl B.len q1h (Z0a (pv 0) Z0d)) Z0d)) (Z0p (i:=5) nd rfl (Or.inl rfl))
   (@Z0f _ _ _ (Z0w (Z0n (Y8b hr.units) (Z0m Z0z (pv 0) (Z0h Z2v (pv 5) (pv 3)) (λ_ _=>rfl)) (Z0l cH hr rfl (Z0a (Z0m Z0z (pv 0) (pv 5) (λ_ _=>rfl)) (Z0a (Z0h Z1b (Z0h Z3p Z0b (pv 2)) (Z0h Z3p Z0b (Z0l cR hr rfl (Z0a (Z0h Z1d (pv 5) (pv 4)) Z0d)))) Z0d))) (nomark _))
    (@Z0f _ _ _ (Z0k Z3g))
    Z0o)))
  (@Z0f _ _ _ (Z0k Z3g)))),?_⟩
 try dsimp only[cxK]
 refine⟨_,Z,p,_,Z,SP,Z,_,_,Z,_,_,Z,_,_,Z,Z,?_⟩
 have eN:(((ps.map V.ref).length:Nat):Int).toNat=2^c:=by rw[q0v,q0a,lps]
 refine⟨_,Z,l,_,Z,.inl SL,_,Z,by omega,(by rw[q0a,lps];omega),?_⟩
 rw[eN]
 refine Z1u (n:=2^c) (λi σ H'=>Same H H'/\(∀ w,w<i->f (w^^^m.2.1)=spin (f w) ((2*m.1+4*pc (w&&&m.2.2):Nat):Int))/\∃ v,σ=[some (.ref l),some (.ref p),some (.int m.1),some (.int m.2.1),some (.int m.2.2),v])
  ⟨Same.refl _,λ_ z=>absurd z (q1k _),_,Z⟩ ?_ ?_
 ·rintro i σ H1 hi ⟨S1,lo,v,rfl⟩
  have e0:(0:Int)+(i:Int)=(i:Int):=q2p _
  have xl:i^^^m.2.1<2^c:=q1c hi fc
  obtain⟨p1,_,q1,at1⟩:=(BV.same S1).at hi
  obtain⟨p2,_,q2,at2⟩:=(BV.same S1).at xl
  have SL1:=S1.seq SL
  refine⟨_,Z,_,Z,_,Z,_,_,Z,Z,l,_,_,.ref p2,Z,Z,SL1,(by rw[e0,Z4r];exact at2),_,Z,_,Z,l,_,_,.ref p1,Z,Z,SL1,(by rw[e0];exact at1),_,Z,_,_,Z,Z,.inl ⟨by decide,by decide⟩,_,Z,_,Z,_,_,Z,Z,i&&&m.2.2,(by rw[e0];exact Z5t _ _),_,_,Z,Z,.inl ⟨by decide,by decide⟩,_,_,Z,Z,p1,f i,_,Z,q1,λr H2 S2 hr2=>?_⟩
  have ek:(2:Int)*(m.1:Int)+4*((pc (i&&&m.2.2):Nat):Int)=((2*m.1+4*pc (i&&&m.2.2):Nat):Int):=by omega
  rw[ek] at hr2
  refine⟨p2,r,l5 (f (i^^^m.2.1)),l5 (spin (f i) ((2*m.1+4*pc (i&&&m.2.2):Nat):Int)),Z,Z,q2.same S2,SqT.of hr2,_,Z,blI (λne=>?_) (λe=>?_)⟩
  ·refine kq false H2 (S1.trans S2) ⟨λz=>(nomatch z),λz=>?_⟩
   have:=z i hi
   rw[this] at ne
   simp at ne
  ·refine⟨S1.trans S2,λw' hw'=>?_,_,Z⟩
   by_cases q:w'=i
   ·subst q
    exact Y9j (by simpa using e)
   ·exact lo w' (by omega)
 ·rintro σ H1 ⟨S1,lo,v,rfl⟩
  exact kq true H1 S1 ⟨λ_=>lo,λ_=>rfl⟩
theorem sc_llead:FnScope ["_law_mark","_law_cell"] ["_law_mark"] (Z0i (top 97)):=fS
theorem X2i (F:FunAt K "_law_lead" (top 97) .none)(X:K.In h)(G:Ng h mg)(B:Bs mg):Cal P w K mg base (k+1) "_law_lead" ["_law_mark"] (spLead K):=by
 have nd:=sc_llead.nd
 refine F.cal X G sc_llead (bnd1 λ_ _ _ _ _ _ _=>rfl) (λvs H Q E' h=>?_) (λf cdv A outer s H vs Q E' hr h=>?_)
 ·obtain⟨p,m,n,rfl,_⟩:=h;rfl
 obtain⟨p,m,n,rfl,S,v6,l,q⟩:=h
 refine⟨_,(@Z0e _ _ _ _ _ (Z1v PassesOwn.never rfl (Z0y rfl B.range (Z0a Z0b Z0d)) (Z0p (i:=1) nd rfl (Or.inl rfl))
   (@Z0f _ _ _ (Z0w (Z0n Z1k (Z0h Z0v (Z0h Z9c (Z0h Z1b (Z0m Z0j (pv 0) Z0b (λ_ _=>rfl)) (Z0h Z3p (Z0m Z0j (pv 0) Z0b (λ_ _=>rfl)) Z0b)) (Z0h Z1t Z0b (pv 1))) Z0b) Z0b (nomark _))
    (@Z0f _ _ _ (Z0k (pv 1)))
    Z0o)))
  (@Z0f _ _ _ (Z0k Z0b))),?_⟩
 try dsimp only[cxK]
 refine⟨_,Z,by decide,by decide,Z1u (n:=12) (λi σ H'=>H'=H/\(∀ j,j<i->bit (vec m) j=0)/\∃ v,σ=[some (.ref p),v]) ⟨Z,λj hj=>absurd hj (q1k _),none,Z⟩ ?_ ?_⟩
 ·rintro i σ H1 hi ⟨rfl,lo,v,rfl⟩
  have e0:(0:Int)+(i:Int)=(i:Int):=q2p _
  have b2:=Z1o (vec m) i
  refine⟨_,Z,p,_,_,_,Z,Z,S,Z,_,Z,p,_,_,_,Z,Z,S,Z,_,_,Z,Z,.inr ⟨by decide,by decide⟩,_,_,Z,Z,_,Z,_,_,Z,Z,⟨1,sz1,by omega,by omega⟩,_,_,Z,Z,⟨by rw[e0];exact q4h (pp i),by rw[e0];exact sz12 (by omega)⟩,_,_,Z,Z,Z3q,Z,_,Z,eqI (λz=>?_) (λz=>?_)⟩
  ·rw[e0,X5v,X8x] at z
   have l2:IsLd (vec m) i:=⟨by omega,lo⟩
   refine⟨_,Z,?_⟩
   rw[e0,l2.uniq l]
   exact q
  ·rw[e0,X5v,X8x] at z
   refine⟨Z,λj hj=>?_,_,Z⟩
   by_cases e:j=i
   ·subst e;omega
   ·exact lo j (by omega)
 rintro σ H1 ⟨rfl,lo,v,rfl⟩
 exfalso
 have:=lo n (ld12 v6 l)
 rw[l.one] at this
 cases this
theorem sc_ismk:FnScope ["_law_found","_law_cells"] ["_law_found","_law_cells"] (Z0i (top 98)):=fS
theorem X7e (F:FunAt K "_law_is_mark" (top 98) .none)(X:K.In h)(G:Ng h mg)(B:Bs mg)(dW:Cal P w K mg base k "_law_whole" ["_law_found"] Z3j)(cR:Cal P w K mg base k "_law_bits" ["_law_number"] spOnes):Cal P w K mg base (k+1) "_law_is_mark" ["_law_found","_law_cells"] Y3q:=by
 have nd:=sc_ismk.nd
 refine F.cal X G sc_ismk (bnd2 λ_ _ _ _ _ _ _ _=>rfl) (λvs H Q E' h=>?_) (λf cdv A outer s H vs Q E' hr h=>?_)
 ·obtain⟨p,m,c,rfl,_⟩:=h;rfl
 obtain⟨p,m,c,rfl,hp,om,evm,c6,kq⟩:=h
 have SP:SqT K H p (L3 m):=SqT.of hp
 refine⟨_,(@Z0e _ _ _ _ _ (Z0w (PW.pt (Z3y (Z1y (Z1n (Z0r Z1r rfl B.isinstance q2w (Z0a (pv 0) (Z0a (Z3l (v:=.ty "tuple") rfl B.tuple boot_tuple rfl) Z0d))))) (Z3y (Z0n Z4n (Z0r Z0u rfl B.len q1h (Z0a (pv 0) Z0d)) Z0b (nomark _)) (Z3x (Z1y (Z1n (Z0r (Z2f rfl) rfl B.all q6o (Z0a (Z3k rfl (LcOk.of (Nc:=["_law_part"]) (mp:=[none]) (by kernel_rfl)) (Y3z (pv 0)) (λ_ _ _ _=>(Z0p (i:=0) (show (["_law_part"]:W0).Nodup by decide +kernel) rfl (Or.inl rfl))) (λ_ _ _ _=>(Z0l dW hr rfl (Z0a (pv 0) Z0d)))) Z0d))))))))
   (@Z0f _ _ _ (Z0k Z3g))
   Z0o)
  (@Z0e _ _ _ _ _ (Z0w (PW.pt (Z3y (Z0n Z7c (Z0r (X0n rfl) rfl B.min boot_min (Z0a (pv 0) Z0d)) Z0b (nomark _)) (Z3y (Z0n Y2e (Z0m Z0j (pv 0) Z0b (λ_ _=>rfl)) Z0b (nomark _)) (Z3x (Z0n Y8c (Z0r (X0o rfl) rfl B.max boot_max (Z0a (Z2q Z8t (pv 0) (Z2i Z0b) Z5k) Z0d)) (Z0h Z1t Z0b (pv 1)) (nomark _))))))
   (@Z0f _ _ _ (Z0k Z3g))
   Z0o)
  (@Z0f _ _ _ (Z0k (Z1p Z1k (Z0h Z0v (Z0h Z1b (Z0m Z0j (pv 0) Z0b (λ_ _=>rfl)) (Z0l cR hr rfl (Z0a (Z0h Z1d (Z0m Z0j (pv 0) Z0b (λ_ _=>rfl)) (Z0m Z0j (pv 0) Z0b (λ_ _=>rfl))) Z0d))) Z0b) Z0b (nomark _)))))),?_⟩
 try dsimp only[cxK]
 refine⟨_,Z,_,_,_,true,Z,TyOf.tup hp,K63T.Y4s K,_,Z,iteF ⟨_,Z,p,_,Z,.inr SP,Z,_,Z,neI (λz=>absurd rfl z) (λ_=>⟨_,Z,p,Z,⟨_,SP⟩,λacc hacc=>?_⟩)⟩⟩
 have SI:SqT K H p ([(m.1:Int),(m.2.1:Int),(m.2.2:Int)].map V.int):=SP
 refine X8d (ns:=[(m.1:Int),(m.2.1:Int),(m.2.2:Int)]) (fr:=[]) (λ_=>.bl true) SI t3 hacc (λi H2 N s2 kN=>⟨_,Z,i,Z,kN⟩) (λH2 S2 a2=>?_)
 refine⟨acc,[true,true,true],Z,SqL.of a2,_,Z,iteF ?_⟩
 have S3:=S2.tup SI
 have q4:=om.q
 have of:=om.f
 have os:=om.s
 refine⟨_,Z,p,[(m.1:Int),(m.2.1:Int),(m.2.2:Int)],Z,S3,(show 0<3 by decide),λM hM lo=>⟨_,_,Z,Z,_,Z,decI (λz=>?_) (λ_=>?_)⟩⟩
 ·simp only[q0t,q1j,q3x] at hM
  omega
 refine⟨_,Z,p,_,_,_,Z,Z,S3,Z,_,_,Z,Z,_,Z,decI (λz=>by omega) (λ_=>?_)⟩
 refine⟨_,Z,_,Z,p,L3 m,Z,S3,.inr ⟨λc=>absurd c.1 (by rw[Y0s];decide),λt ht=>?_⟩⟩
 have s4:=Z0g ht (.tup [.int (m.2.1:Int),.int (m.2.2:Int)])
 refine⟨t,[(m.2.1:Int),(m.2.2:Int)],Z,SqT.of Z0c,(show 0<2 by decide),λM hM hi=>⟨_,Z,_,_,Z,Z,⟨1,sz1,by omega,by omega⟩,_,_,Z,Z,_,Z,decI (λz=>?_) (λ_=>?_)⟩⟩
 ·rw[ipow] at z
  simp only[q0t,q1j,q3x] at hM
  omega
 have S5:=(S2.trans s4).tup SI
 refine⟨_,Z,p,_,_,_,Z,Z,S5,Z,_,Z,p,_,_,_,Z,Z,S5,Z,_,Z,p,_,_,_,Z,Z,S5,Z,_,_,Z,Z,m.2.1&&&m.2.2,Z5t _ _,_,_,Z,Z,_,_,Z,Z,Z3q,Z,?_⟩
 show Q (.bl (decide (V.int (((m.1:Int)+((pc (m.2.1&&&m.2.2):Nat):Int))%2)=V.int 0))) _
 unfold ev at evm
 rw[q1f (by congr 1;omega)]
 exact kq _ (S2.trans s4)
theorem Z6y:∀ {a b:U6},a.Perm b->a.Pairwise (·<=·)->b.Pairwise (·<=·)->a=b
 | [],b,p,_,_=>(List.Perm.nil_eq p)
 | x::a,[],p,_,_=>absurd p.length_eq (by simp)
 | x::a,y::b,p,ha,hb=>by
  have hx:x∈y::b:=p.mem_iff.mp (.head _)
  have hy:y∈x::a:=p.mem_iff.mpr (.head _)
  have e:x=y:=by
   rcases q0t.mp hx with e | m
   ·exact e
   ·rcases q0t.mp hy with e | m'
    ·exact e.symm
    ·have:=(q3y.mp hb).1 x m
     have:=(q3y.mp ha).1 y m'
     omega
  subst e
  rw[Z6y (List.Perm.cons_inv p) (q3y.mp ha).2 (q3y.mp hb).2]
theorem X3i (c:Int)(ns:U6):inV (.int c) (ns.map V.int)=ns.contains c:=by
 unfold inV
 induction ns with
 | nil=>rfl
 | cons n ns ih =>
  rw[q0z,q4z,ih,List.contains_cons]
  congr 1
  show decide (n=c)=(c == n)
  by_cases e:n=c
  ·subst e;simp
  ·rw[q0w e]
   symm
   simpa using λz=>e z.symm
theorem Y9w (ns:U6):(ns.map V.int).all flatV=true:=by
 rw[q2m]
 intro x hx
 obtain⟨n,_,rfl⟩:=q1q.mp hx
 rfl
noncomputable abbrev lds (S:List Mk):List Int:=S.map λm=>((ldm m:Nat):Int)
def Y7a:Sp:=λvs H Q _=>∃ (l:W9) (qs:U3) (S:List Mk) (c:Nat),vs=[.ref l,.int c]/\H l=some (.lst (qs.map V.ref))/\Mks H qs S/\(∀ m∈S,M82.Ok c m/\ev m)/\M53.Red (S.map vec) (S.map ldm)/\S.length<=12/\c<=6/\∀ H',Same H H'->Q (.bl true) H'
theorem Z4k (n:Nat):(List.replicate n true).all id=true:=by
 induction n with
 | zero=>rfl
 | succ n ih=>rw[q2s,q6p,ih];rfl
theorem X9z {S:List Mk}(R:M53.Red (S.map vec) (S.map ldm)):(lds S).Pairwise (·<·):=by
 have:=R.rise
 rw[q4f] at this ⊢
 exact this.imp λh=>by omega
theorem sc_isred:FnScope ["_law_rows","_law_cells","_law_leads","_law_k","_law_j"] ["_law_rows","_law_cells"] (Z0i (top 99)):=fS
theorem X2l (F:FunAt K "_law_is_reduced" (top 99) .none)(X:K.In h)(G:Ng h mg)(B:Bs mg)(eA:Cal P w K mg base k "_law_lead" ["_law_mark"] (spLead K))(dG:Cal P w K mg base k "_law_is_mark" ["_law_found","_law_cells"] Y3q):Cal P w K mg base (k+1) "_law_is_reduced" ["_law_rows","_law_cells"] Y7a:=by
 have nd:=sc_isred.nd
 refine F.cal X G sc_isred (bnd2 λ_ _ _ _ _ _ _ _=>rfl) (λvs H Q E' h=>?_) (λf cdv A outer s H vs Q E' hr h=>?_)
 ·obtain⟨l,qs,S,c,rfl,_⟩:=h;rfl
 obtain⟨l,qs,S,c,rfl,hl,hm,ok,R,l12,c6,kq⟩:=h
 have lq:=hm.length
 have SL:SqL K H l (qs.map V.ref):=SqL.of hl
 have t12:(qs.map V.ref).length<=sizeLine:=by rw[q0a,lq];exact q1i l12 (by decide)
 refine⟨_,(@Z0e _ _ _ _ _ (Z0w (PW.pt (Z3y (Z1y (Z1n (Z0r Z1r rfl B.isinstance q2w (Z0a (pv 0) (Z0a (Z3l (v:=.ty "list") rfl B.list boot_list rfl) Z0d))))) (Z3x (Z1y (Z1n (Z0r (Z2f rfl) rfl B.all q6o (Z0a (Z3k rfl (LcOk.of (Nc:=["_law_mark","_law_cells"]) (mp:=[none,some 1]) (by kernel_rfl)) (Z1e (pv 0)) (λ_ _ _ _=>(Z0p (i:=0) (show (["_law_mark","_law_cells"]:W0).Nodup by decide +kernel) rfl (Or.inl rfl))) (λ_ _ _ _=>(Z0l dG hr rfl (Z0a (pv 0) (Z0a (pv 1) Z0d))))) Z0d)))))))
   (@Z0f _ _ _ (Z0k Z3g))
   Z0o)
  (@Z0e _ _ _ _ _ (Z3h (i:=2) rfl nd rfl rfl (LcOk.of (Nc:=["_law_mark"]) (mp:=[none]) (by kernel_rfl)) (Z1e (pv 0)) (λ_ _ _ _=>(Z0p (i:=0) (show (["_law_mark"]:W0).Nodup by decide +kernel) rfl (Or.inl rfl))) (λ_ _ _ _=>(Z0l eA hr rfl (Z0a (pv 0) Z0d))) rfl)
  (@Z0e _ _ _ _ _ (Z0w (PW.pt (Z3y (Z0n (X6w hr.units) (pv 2) (Z0r Y1c rfl B.sorted boot_sorted (Z0a (pv 2) Z0d)) (nomark _)) (Z3y (Z0n Z4n (Z0r Y1h rfl B.len q1h (Z0a (Z4z (X0m rfl) rfl B.set boot_set (Z0a (pv 2) Z0d)) Z0d)) (Z0r Z0u rfl B.len q1h (Z0a (pv 2) Z0d)) (nomark _)) (Z3x (Z0n Y0r Z0b (pv 2) rfl)))))
   (@Z0f _ _ _ (Z0k Z3g))
   Z0o)
  (@Z0e _ _ _ _ _ (Z1v PassesOwn.never rfl (Z0y rfl B.range (Z0a (Z0r Z0u rfl B.len q1h (Z0a (pv 0) Z0d)) Z0d)) (Z0p (i:=3) nd rfl (Or.inl rfl))
   (@Z0f _ _ _ (Z1v PassesOwn.never rfl (Z0y rfl B.range (Z0a (Z0r Z0u rfl B.len q1h (Z0a (pv 0) Z0d)) Z0d)) (Z0p (i:=4) nd rfl (Or.inl rfl))
    (@Z0f _ _ _ (Z0w (PW.pt (Y0m (Z0n Z4n (pv 4) (pv 3) (nomark _)) (Z6w (Z0n Z1k (Z0h Z0v (Z0h Z9c (Z0h Z1b (Z0m Z0j (Z0m Z0z (pv 0) (pv 4) (λ_ _=>rfl)) Z0b (λ_ _=>rfl)) (Z0h Z3p (Z0m Z0j (Z0m Z0z (pv 0) (pv 4) (λ_ _=>rfl)) Z0b (λ_ _=>rfl)) Z0b)) (Z0h Z1t Z0b (Z0m Z0z (pv 2) (pv 3) (λ_ _=>rfl)))) Z0b) Z0b (nomark _)))))
     (@Z0f _ _ _ (Z0k Z3g))
     Z0o)))))
  (@Z0f _ _ _ (Z0k Z3g)))))),?_⟩
 try dsimp only[cxK]
 refine⟨_,Z,_,_,_,true,Z,TyOf.lst hl,K63T.X5a K,_,Z,iteF ⟨_,Z,l,Z,⟨_,SL⟩,λacc hacc=>?_⟩⟩
 refine Z2u (K:=K) (a:=l) (xs:=qs.map V.ref) (fr:=[some (.int c)]) (λi ys H'=>Same H H'/\H' acc=some (.lst ys)/\ys=(List.replicate i true).map V.bl) t12 ⟨Z0g hacc _,Z0c,Z⟩ (λi ys H' e=>e.1.seq SL) ?_ ?_
 ·rintro i x ys H1 N hx hy ⟨S1,a1,rfl⟩ kN
  rw[q0c] at hx
  obtain⟨p,hp,rfl⟩:=q0h.mp hx
  obtain⟨m,hmi,pm⟩:=hm.get hp
  obtain⟨om,em⟩:=ok m (q0y hmi)
  refine⟨_,Z,_,Z,p,m,c,Z,S1 _ _ pm,om,em,c6,λH2 S2=>kN _ _ (S2 _ _ a1) ⟨Z0s (S1.trans S2) hacc,Z0c,?_⟩⟩
  rw[q4c,q0i]
  rfl
 rintro ys H1 hy ⟨S1,a1,rfl⟩
 refine⟨acc,_,Z,SqL.of a1,_,Z,blI (λz=>absurd z (by rw[Z4k];exact q0p)) (λ_=>?_)⟩
 refine⟨_,Z,l,Z,⟨_,S1.seq SL⟩,λla hla=>?_⟩
 refine Z2u (K:=K) (a:=l) (xs:=qs.map V.ref) (fr:=[]) (λi ys H'=>Same H1 H'/\H' la=some (.lst ys)/\ys=(lds (S.take i)).map V.int) t12 ⟨Z0g hla _,Z0c,Z⟩ (λi ys H' e=>e.1.seq (S1.seq SL)) ?_ ?_
 ·rintro i x ys H2 N hx hy ⟨S2,a2,rfl⟩ kN
  rw[q0c] at hx
  obtain⟨p,hp,rfl⟩:=q0h.mp hx
  obtain⟨m,hmi,pm⟩:=hm.get hp
  have mS:=q0y hmi
  have im:i<S.length:=(q0l.mp hmi).1
  have ld:=R.ld i (by rw[q0a];exact im)
  rw[q0b,q0b,q0c,q0c,hmi] at ld
  refine⟨_,Z,p,m,ldm m,Z,SqT.of (S2 _ _ (S1 _ _ pm)),(ok m mS).1.v6 c6,ld,kN _ _ a2 ⟨Z0s S2 hla,Z0c,?_⟩⟩
  rw[q1m,hmi,q1w]
  unfold lds
  rw[q0i,q0i]
  rfl
 rintro ys H2 hy ⟨S2,a2,rfl⟩
 rw[q0a,lq,q2e] at a2
 have S12:=S1.trans S2
 have lt:=X9z R
 have le:(lds S).Pairwise (·<=·):=lt.imp λh=>by omega
 have nodup:(lds S).Nodup:=lt.imp λh=>by omega
 have ll:(lds S).length=S.length:=q0a ..
 have SA:SqL K H2 la ((lds S).map V.int):=SqL.of a2
 refine⟨_,Z,_,Z,la,lds S,Z,SA,by omega,λl2 ns' hl2 pm pw=>?_⟩
 have e2:ns'=lds S:=Z6y pm pw le
 subst e2
 have s3:=Z0g hl2 (.lst ((lds S).map V.int))
 refine⟨la,l2,lds S,lds S,Z,Z,s3.seq SA,SqL.of Z0c,_,Z,blI (λz=>absurd z (by simp)) (λ_=>?_)⟩
 generalize upd H2 l2 (.lst ((lds S).map V.int))=H3 at *
 have SA3:=s3.seq SA
 refine⟨_,Z,la,lds S,Z,SA3,by omega,λl4 SS hl4=>?_⟩
 have s4:=Z0g hl4 (.set SS (unlike (lds S)))
 refine⟨l4,SS,unlike (lds S),Z,Z0c,(by rw[Z3z nodup];omega),?_⟩
 refine⟨_,Z,la,_,Z,.inl (s4.seq SA3),Z,_,Z,neI (λz=>absurd (by rw[Z3z nodup];simp) z) (λ_=>?_)⟩
 generalize upd H3 l4 (.set SS (unlike (lds S)))=H4 at *
 have S14:Same H H4:=(S12.trans s3).trans s4
 have SA4:=s4.seq SA3
 have n12:(lds S).contains 12=false:=by
  apply Bool.eq_false_iff.mpr
  intro z
  obtain⟨m,hm',e⟩:=q1q.mp (List.contains_iff_mem.mp z)
  have im:=q8i.mp hm'
  obtain⟨i,hi⟩:=im
  have ld:=R.ld i (by rw[q0a];exact(q0l.mp hi).1)
  rw[q0b,q0b,q0c,q0c,hi] at ld
  have:=ld12 ((ok m hm').1.v6 c6) (show IsLd (vec m) (ldm m) from ld)
  have e:((ldm m:Nat):Int)=12:=e
  omega
 refine⟨_,Z,la,_,Z,.inl SA4,Z,Y9w _,_,Z,?_⟩
 have eIn:inV (.int 12) ((lds S).map V.int)=false:=by rw[X3i];exact n12
 refine blI (λz=>absurd (show inV (.int 12) ((lds S).map V.int)=true from z) (by rw[eIn];exact q0p)) (λ_=>?_)
 have SL4:=S14.seq SL
 have eN:(((qs.map V.ref).length:Nat):Int).toNat=S.length:=by rw[q0v,q0a,lq]
 refine⟨_,Z,l,_,Z,.inl SL4,_,Z,by omega,(by rw[q0a];omega),?_⟩
 rw[eN]
 refine Z1u (n:=S.length) (λi σ H'=>H'=H4/\∃ v3 v4:Option V,σ=[some (.ref l),some (.int c),some (.ref la),v3,v4]) ⟨Z,_,_,Z⟩ ?_ ?_
 ·rintro i σ H5 hi ⟨rfl,v3,v4,rfl⟩
  refine⟨_,Z,l,_,Z,.inl SL4,_,Z,by omega,(by rw[q0a];omega),?_⟩
  rw[eN]
  refine Z1u (n:=S.length) (λj σ H'=>H'=H5/\∃ v4:Option V,σ=[some (.ref l),some (.int c),some (.ref la),some (.int (0+(i:Int))),v4]) ⟨Z,_,Z⟩ ?_ ?_
  ·rintro j σ H6 hj ⟨rfl,v4,rfl⟩
   refine⟨_,Z,_,Z,Z,_,Z,neI (λne=>?_) (λ_=>⟨Z,_,Z⟩)⟩
   have ei:(0:Int)+(i:Int)=(i:Int):=q2p _
   have ej:(0:Int)+(j:Int)=(j:Int):=q2p _
   have nij:j≠i:=λz=>ne (by rw[z])
   obtain⟨p,hp,pm⟩:=(hm.same S14).at hj
   have hmi:S[i]?=some S[i]:=q0d hi
   have hmj:S[j]?=some S[j]:=q0d hj
   have gj:S.getD j (0,0,0)=S[j]:=by rw[q0b,hmj];rfl
   rw[gj] at pm
   have mi:S[i]∈S:=q3v hi
   have ld:=R.ld i (by rw[q0a];exact hi)
   have off:=R.off j i (by rw[q0a];exact hj) (by rw[q0a];exact hi) nij
   rw[q0b,q0b,q0c,q0c,hmi] at ld
   rw[q0b,q0b,q0c,q0c,hmi,hmj] at off
   have ld:IsLd (vec S[i]) (ldm S[i]):=ld
   have off:bit (vec S[j]) (ldm S[i])=0:=off
   have n12':=ld12 ((ok _ mi).1.v6 c6) ld
   have aj:atI (qs.map V.ref) (0+(j:Int))=some (.ref p):=by rw[ej];exact Z3m (by rw[q0c,hp];rfl)
   have ai:atI ((lds S).map V.int) (0+(i:Int))=some (.int ((ldm S[i]:Nat):Int)):=by rw[ei];exact Z3m (by rw[q0c,q0c,hmi];rfl)
   have SP:SqT K H6 p (L3 S[j]):=SqT.of pm
   refine⟨_,Z,_,Z,l,_,_,.ref p,Z,Z,SL4,aj,p,_,_,_,Z,Z,SP,Z,_,Z,_,Z,l,_,_,.ref p,Z,Z,SL4,aj,p,_,_,_,Z,Z,SP,Z,_,_,Z,Z,.inr ⟨by decide,by decide⟩,_,_,Z,Z,_,Z,_,Z,la,_,_,_,Z,Z,SA4,ai,_,_,Z,Z,⟨1,sz1,by omega,by omega⟩,_,_,Z,Z,⟨q4h (pp _),sz12 (by omega)⟩,_,_,Z,Z,Z3q,Z,_,Z,eqI (λz=>?_) (λ_=>⟨Z,_,Z⟩)⟩
   rw[X5v,X8x,off] at z
   cases z
  ·rintro σ H6 ⟨rfl,v4,rfl⟩
   exact⟨Z,_,_,Z⟩
 ·rintro σ H5 ⟨rfl,v3,v4,rfl⟩
  exact kq _ S14
end
end K63
set_option maxRecDepth 10000
namespace K14
open L2 (Sz)
def Pos (t r:Int):Prop:=(0<t/\2*r*r<t*t)∨(0<r/\t*t<2*r*r)
theorem Y3i:∀ (n:Nat) (a b:Int),b.natAbs<n->a*a=2*b*b->a=0/\b=0
 | 0,_,_,h,_=>by omega
 | n+1,a,b,h,e=>by
  by_cases hb:b=0
  ·subst hb
   have e':a*a=0:=by simpa using e
   exact⟨(q8n.mp e').elim id id,Z⟩
  ·have e2:a%2=0:=by
    rcases q6w a with h0 | h1
    ·exact h0
    ·exfalso
     have:(a*a)%2=1:=by rw[Int.mul_emod,h1];rfl
     rw[e,q5s] at this
     omega
   obtain⟨c,rfl⟩:∃ c,a=2*c:=⟨a / 2,by omega⟩
   have e3:b*b=2*c*c:=by grind
   have hlt:c.natAbs<b.natAbs:=by
    have h1:b.natAbs*b.natAbs=2*(c.natAbs*c.natAbs):=by
     have:=congrArg Int.natAbs e3
     rw[q6c,q5s,q6c,q6c] at this
     simpa using this
    have hb':0<b.natAbs:=by omega
    apply Nat.lt_of_not_le
    intro hle
    have h2:b.natAbs*b.natAbs<=c.natAbs*c.natAbs:=Nat.mul_le_mul hle hle
    have h3:0<b.natAbs*b.natAbs:=Nat.mul_pos hb' hb'
    omega
   have:=Y3i n b c (by omega) e3
   exact absurd this.1 hb
theorem root2 {a b:Int}(e:a*a=2*b*b):a=0/\b=0:=Y3i _ a b (q2l _) e
theorem Z3v {u v:Int}(hu:0<u)(h:v*v<u*u):0<u+v:=by
 apply Int.lt_of_not_ge
 intro hle
 have h1:0<=-v-u:=by omega
 have h2:0<=(-v-u)*(-v+u):=q6d h1 (by omega)
 grind
theorem Pos.zero:¬ Pos 0 0:=by unfold Pos;omega
theorem Z5v {u v:Int}(hu:0<u)(h:v*v<u*u):0<u+v/\0<u-v:=by
 constructor
 ·exact Z3v hu h
 ·have:=Z3v (v:=-v) hu (by grind)
  omega
theorem Z1j (a:Int):0<=a*a:=by
 rcases Int.le_total 0 a with h | h
 ·exact q6d h h
 ·exact Int.mul_nonneg_of_nonpos_of_nonpos h h
theorem big1 {a b c d:Int}(ha:0<a)(hc:0<c)(h1:2*b*b<a*a)(h2:2*d*d<c*c):0<a*c+2*b*d/\0<a*c-2*b*d:=by
 have hac:0<a*c:=q3l ha hc
 have p1:0<(a*a-2*b*b)*(c*c):=q3l (by omega) (q3l hc hc)
 have p2:0<=(b*b)*(c*c-2*d*d):=q6d (Z1j b) (by omega)
 exact Z5v hac (by grind)
theorem big2 {a b c d:Int}(hb:0<b)(hd:0<d)(h1:a*a<2*b*b)(h2:c*c<2*d*d):0<2*b*d+a*c/\0<2*b*d-a*c:=by
 have hbd:0<2*b*d:=q3l (by omega) hd
 have p1:0<(2*b*b-a*a)*(d*d):=q3l (by omega) (q3l hd hd)
 have p2:0<=(a*a)*(2*d*d-c*c):=q6d (Z1j a) (by omega)
 exact Z5v hbd (by grind)
theorem big3 {a b c d:Int}(ha:0<a)(hd:0<d)(h1:2*b*b<a*a)(h2:c*c<2*d*d):0<a*d+b*c:=by
 have had:0<a*d:=q3l ha hd
 have p1:0<(a*a-2*b*b)*(d*d):=q3l (by omega) (q3l hd hd)
 have p2:0<=(b*b)*(2*d*d-c*c):=q6d (Z1j b) (by omega)
 exact Z3v had (by grind)
theorem Pos.mul {a b c d:Int}(x:Pos a b)(y:Pos c d):Pos (a*c+2*b*d) (a*d+b*c):=by
 rcases x with ⟨ha,n1⟩ | ⟨hb,n1⟩
 ·rcases y with ⟨hc,n2⟩ | ⟨hd,n2⟩
  ·have p:0<(a*a-2*b*b)*(c*c-2*d*d):=q3l (by omega) (by omega)
   exact .inl ⟨(big1 ha hc n1 n2).1,by grind⟩
  ·have p:0<(a*a-2*b*b)*(2*d*d-c*c):=q3l (by omega) (by omega)
   exact .inr ⟨big3 ha hd n1 n2,by grind⟩
 ·rcases y with ⟨hc,n2⟩ | ⟨hd,n2⟩
  ·have p:0<(2*b*b-a*a)*(c*c-2*d*d):=q3l (by omega) (by omega)
   have q:=big3 hc hb n2 n1
   exact .inr ⟨by grind,by grind⟩
  ·have p:0<(2*b*b-a*a)*(2*d*d-c*c):=q3l (by omega) (by omega)
   have q:=(big2 hb hd n1 n2).1
   exact .inl ⟨by grind,by grind⟩
end K14
namespace K15n
open L2 Am K14
noncomputable def tt (a b c d:Int):Int:=a*a+b*b+c*c+d*d
noncomputable def rr (a b c d:Int):Int:=a*b+b*c+c*d-d*a
theorem X1d (a b c d a' b' c' d':Int):tt (a*a'-d*b'-c*c'-b*d') (b*a'+a*b'-d*c'-c*d') (c*a'+b*b'+a*c'-d*d') (d*a'+c*b'+b*c'+a*d')=tt a b c d*tt a' b' c' d'+2*rr a b c d*rr a' b' c' d':=by
 unfold tt rr;grind
theorem X1m (a b c d a' b' c' d':Int):rr (a*a'-d*b'-c*c'-b*d') (b*a'+a*b'-d*c'-c*d') (c*a'+b*b'+a*c'-d*d') (d*a'+c*b'+b*c'+a*d')=tt a b c d*rr a' b' c' d'+rr a b c d*tt a' b' c' d':=by
 unfold tt rr;grind
theorem norm4 (a b c d:Int):tt a b c d*tt a b c d-2*rr a b c d*rr a b c d=(a*a-c*c+2*b*d)*(a*a-c*c+2*b*d)+(2*a*c-b*b+d*d)*(2*a*c-b*b+d*d):=by
 unfold tt rr;grind
theorem sq0 {x:Int}(h:x*x=0):x=0:=by rcases q8n.mp h with h | h<;>exact h
theorem norm0 {a b c d:Int}(hA:a*a-c*c+2*b*d=0)(hB:2*a*c-b*b+d*d=0):a=0/\b=0/\c=0/\d=0:=by
 have e1:(a*b+c*d)*(a*b+c*d)=(b*c-a*d)*(b*c-a*d):=by grind
 have e2:2*(a*b+c*d)*(b*c-a*d)=(b*b+d*d)*(b*b+d*d):=by grind
 have n0:0<=b*b+d*d:=Int.add_nonneg (Z1j b) (Z1j d)
 have e3:(2*(a*b+c*d)*(a*b+c*d))*(2*(a*b+c*d)*(a*b+c*d))=((b*b+d*d)*(b*b+d*d))*((b*b+d*d)*(b*b+d*d)):=by
  rw[<-e2]
  have:(2*(a*b+c*d)*(a*b+c*d))*(2*(a*b+c*d)*(a*b+c*d))=4*((a*b+c*d)*(a*b+c*d))*((a*b+c*d)*(a*b+c*d)):=by grind
  rw[this]
  have h2:2*(a*b+c*d)*(b*c-a*d)*(2*(a*b+c*d)*(b*c-a*d))=4*((a*b+c*d)*(a*b+c*d))*((b*c-a*d)*(b*c-a*d)):=by grind
  rw[h2,<-e1]
 have p0:0<=2*(a*b+c*d)*(a*b+c*d):=by
  have:=Z1j (a*b+c*d)
  have e:2*(a*b+c*d)*(a*b+c*d)=2*((a*b+c*d)*(a*b+c*d)):=by grind
  rw[e];omega
 have q0:0<=(b*b+d*d)*(b*b+d*d):=Z1j _
 have e4:(b*b+d*d)*(b*b+d*d)=2*(a*b+c*d)*(a*b+c*d):=by
  generalize 2*(a*b+c*d)*(a*b+c*d)=u at *
  generalize (b*b+d*d)*(b*b+d*d)=v at *
  rcases Int.lt_trichotomy u v with h | h | h
  ·have h1:u*u<=u*v:=q6j (q8o h) p0
   have h2:u*v<v*v:=q6v h (by omega)
   omega
  ·exact h.symm
  ·have h1:v*v<=v*u:=q6j (q8o h) q0
   have h2:v*u<u*u:=q6v h (by omega)
   omega
 have r:=root2 e4
 have hb:=Z1j b
 have hd:=Z1j d
 have b0:b=0:=sq0 (by omega)
 have d0:d=0:=sq0 (by omega)
 subst b0 d0
 have hac:a*c=0:=by grind
 have haa:a*a=c*c:=by grind
 rcases q8n.mp hac with h | h
 ·subst h
  exact⟨Z,Z,sq0 (by omega),Z⟩
 ·subst h
  exact⟨sq0 (by omega),Z,Z,Z⟩
theorem Z7r {a b c d:Int}(h:¬ (a=0/\b=0/\c=0/\d=0)):Pos (tt a b c d) (rr a b c d):=by
 have n:=norm4 a b c d
 have hA:=Z1j (a*a-c*c+2*b*d)
 have hB:=Z1j (2*a*c-b*b+d*d)
 have s1:=Z1j a
 have s2:=Z1j b
 have s3:=Z1j c
 have s4:=Z1j d
 have tpos:0<tt a b c d:=by
  unfold tt
  apply Classical.byContradiction
  intro hn
  exact h ⟨sq0 (by omega),sq0 (by omega),sq0 (by omega),sq0 (by omega)⟩
 refine .inl ⟨tpos,?_⟩
 apply Classical.byContradiction
 intro hn
 generalize hX:a*a-c*c+2*b*d=X at *
 generalize hY:2*a*c-b*b+d*d=Y at *
 have x0:X=0:=sq0 (by omega)
 have y0:Y=0:=sq0 (by omega)
 subst x0 y0
 exact h (norm0 hX hY)
end K15n
namespace K63
open L2 Am Pc Ba
noncomputable abbrev Zz:A5:=((0,0,0,0),0)
theorem Y3x:∀ k,rot k (0,0,0,0)=(0,0,0,0)
 | 0=>rfl
 | k+1=>by
  have e:rot (k+1) (0,0,0,0)=M82.nx (rot k (0,0,0,0)):=rfl
  rw[e,Y3x k]
  rfl
theorem Y6s (k:Int):spin Zz k=Zz:=by unfold spin;rw[Y3x]
theorem Y2x:Amt 0 0 0 0 0:=⟨q3s 0,.inl rfl⟩
theorem Y4m (s:Int):Mix s Zz Zz Zz:=by
 refine⟨Zz,⟨Y2x,⟨?_,?_,?_,?_⟩,by decide⟩,Y2x,⟨?_,?_,?_,?_⟩⟩<;>(unfold Eq2;simp)
theorem Y6q (c:Nat)(m:Gm):Step c m (λ_=>Zz) (λ_=>Zz):=by
 cases m with
 | mv v=>exact λw _=>(Y6s _).symm
 | mix a =>
  intro w _
  unfold MixAt
  split
  ·exact Y4m 1
  ·exact Y4m (-1)
theorem Z8o {c:Nat}(hc:c<=6):∀ {ms:List Gm}{f g:Nat->A5},(∀ m∈ms,m.Ok c)->Ams c f->Steps c ms f g->(∀ w,w<2^c->g w=Zz)->∀ w,w<2^c->f w=Zz
 | [],_,_,_,_,.nil,z=>z
 | m::ms,f,h,ok,af,.cons (g:=g) s r,z=>by
  have okm:=ok m (.head _)
  have ih:=Z8o hc (λx hx=>ok x (.tail _ hx)) (s.ams hc okm af) r z
  intro w hw
  exact(Y6r hc okm af s (k:=λ_=>Zz) (h:=λ_=>Zz) (λw hw=>(ih w hw).symm) (Y6q c m.back) w hw).symm
structure Prd (x y z:A5):Prop where
 amt:Amt z.1.1 z.1.2.1 z.1.2.2.1 z.1.2.2.2 z.2
 same:Same4 (x.1.1*y.1.1-x.1.2.1*y.1.2.2.2-x.1.2.2.1*y.1.2.2.1-x.1.2.2.2*y.1.2.1) (x.1.1*y.1.2.1+x.1.2.1*y.1.1-x.1.2.2.1*y.1.2.2.2-x.1.2.2.2*y.1.2.2.1)
  (x.1.1*y.1.2.2.1+x.1.2.1*y.1.2.1+x.1.2.2.1*y.1.1-x.1.2.2.2*y.1.2.2.2) (x.1.1*y.1.2.2.2+x.1.2.1*y.1.2.2.1+x.1.2.2.1*y.1.2.1+x.1.2.2.2*y.1.1) (x.2+y.2) z.1.1 z.1.2.1 z.1.2.2.1 z.1.2.2.2 z.2
 le:z.2<=x.2+y.2
def Y0e (K:U0):Sp:=λvs H Q _=>∃ (p q:W9) (x y:A5) (n m:Nat),vs=[.ref p,.ref q]/\At5 K H p x/\H q=some (tA y)/\Ok5 n m x/\Ok5 n m y/\n<=100000 ∧
 ∀ (r:W9) (H':Hp) (z:A5),Same H H'->H' r=some (tA z)->Prd x y z->Ok5 (2*n+4) (2*m:Nat) z->Q (.ref r) H'
theorem Z6i {x h:Int}(e:Eq2 x h 0 0):x=0:=by
 unfold Eq2 at e
 have:p2 0=1:=rfl
 rw[this] at e
 omega
theorem W2k {x:A5}(a:Amt x.1.1 x.1.2.1 x.1.2.2.1 x.1.2.2.2 x.2)(n:x≠Zz):¬ (x.1.1=0/\x.1.2.1=0/\x.1.2.2.1=0/\x.1.2.2.2=0):=λh=>n (by
 have o:=a.odd
 obtain⟨h1,h2,h3,h4⟩:=h
 exact X5o ⟨h1,h2,h3,h4,by show x.2=0;omega⟩)
theorem Prd.nz {x y z:A5}(p:Prd x y z)(ax:Amt x.1.1 x.1.2.1 x.1.2.2.1 x.1.2.2.2 x.2)(ay:Amt y.1.1 y.1.2.1 y.1.2.2.1 y.1.2.2.2 y.2)(nx:x≠Zz)(ny:y≠Zz):z≠Zz:=λe=>by
 have s:=p.same
 subst e
 have e1:=Z6i s.e1
 have e2:=Z6i s.e2
 have e3:=Z6i s.e3
 have e4:=Z6i s.e4
 have px:=K15n.Z7r (W2k ax nx)
 have py:=K15n.Z7r (W2k ay ny)
 have pm:=K14.Pos.mul px py
 have t:=K15n.X1d x.1.1 x.1.2.1 x.1.2.2.1 x.1.2.2.2 y.1.1 y.1.2.1 y.1.2.2.1 y.1.2.2.2
 have r:=K15n.X1m x.1.1 x.1.2.1 x.1.2.2.1 x.1.2.2.2 y.1.1 y.1.2.1 y.1.2.2.1 y.1.2.2.2
 have g1:x.1.1*y.1.1-x.1.2.2.2*y.1.2.1-x.1.2.2.1*y.1.2.2.1-x.1.2.1*y.1.2.2.2=0:=by omega
 have g2:x.1.2.1*y.1.1+x.1.1*y.1.2.1-x.1.2.2.2*y.1.2.2.1-x.1.2.2.1*y.1.2.2.2=0:=by omega
 have g3:x.1.2.2.1*y.1.1+x.1.2.1*y.1.2.1+x.1.1*y.1.2.2.1-x.1.2.2.2*y.1.2.2.2=0:=by omega
 have g4:x.1.2.2.2*y.1.1+x.1.2.2.1*y.1.2.1+x.1.2.1*y.1.2.2.1+x.1.1*y.1.2.2.2=0:=by omega
 rw[g1,g2,g3,g4] at t r
 rw[<-t,<-r] at pm
 exact K14.Pos.zero (by simpa [K15n.tt,K15n.rr] using pm)
noncomputable def tstep (x y:U6)(j k:Nat)(l:U6):List Int:=l.set ((j+k)%4) (l.getD ((j+k)%4) 0+(1-2*(((j+k) / 4:Nat):Int))*x.getD j 0*y.getD k 0)
noncomputable def trow (x y:U6)(j:Nat):Nat->List Int->List Int
 | 0,l=>l
 | k+1,l=>tstep x y j k (trow x y j k l)
noncomputable def tall (x y:U6):Nat->List Int
 | 0=>[0,0,0,0]
 | j+1=>trow x y j 4 (tall x y j)
theorem Y6n (x y:U6)(j k:Nat)(l:U6):(tstep x y j k l).length=l.length:=q8k
theorem Z8m (x y:U6)(j:Nat):∀ (k:Nat) (l:U6),(trow x y j k l).length=l.length
 | 0,l=>rfl
 | k+1,l=>by
  show (tstep x y j k (trow x y j k l)).length=_
  rw[Y6n,Z8m]
theorem Y3e (x y:U6):∀ j,(tall x y j).length=4
 | 0=>rfl
 | j+1=>by
  show (trow x y j 4 (tall x y j)).length=_
  rw[Z8m,Y3e]
theorem X6a (a b c d a' b' c' d':Int):tall [a,b,c,d] [a',b',c',d'] 4=[a*a'-b*d'-c*c'-d*b',a*b'+b*a'-c*d'-d*c',a*c'+b*b'+c*a'-d*d',a*d'+b*c'+c*b'+d*a']:=by
 simp[tall,trow,tstep,Int.neg_mul,q7c]
theorem Z9i {n i:Nat}(h:i<n):ixN n (i:Int)=some i:=by
 unfold ixN
 rw[if_pos (by omega),if_pos (by omega),q0v]
theorem X3y {l:U6}{i:Nat}(h:i<l.length):atI (l.map V.int) (i:Int)=some (.int (l.getD i 0)):=by
 unfold atI
 rw[Z9i (by rw[q0a];exact h),Option.bind_some,q0c,q0d h]
 simp[List.getD,q0d h]
def Bg:Gm->Prop
 | .mv (.cross _ _ _)=>False
 | .mv (.turn _ k)=>k%2=0
 | _=>True
theorem W4g {m:Gm}(h1:m.nm≠"cross")(h2:m.nm≠"turn"):Bg m:=by
 cases m with
 | mix a=>trivial
 | mv v=>cases v<;>first | trivial | exact absurd rfl h1 | exact absurd rfl h2
def Y1w (K:U0):Sp:=λvs H Q _=>∃ (a:W9) (ns:U6) (c:Nat),vs=[.ref a,.int c]/\SqL K H a (ns.map V.int)/\ns.length<=63/\1<=c/\c<=6 ∧
 ∀ (r:W9) (H':Hp) (rp:U3) (ms:List Gm),Same H H'->Rw H' r rp ms c->ms.length=ns.length->(∀ m∈ms,Bg m)->Q (.ref r) H'
theorem X3m {m:Gm}(h:m.nm="cross"):∃ a b d,m=.mv (.cross a b d):=by
 cases m with
 | mix a=>exact absurd (show ("mix":Str)="cross" from h) (by decide +kernel)
 | mv v =>
  cases v with
  | cross a b d=>exact⟨a,b,d,rfl⟩
  | flip a=>exact absurd (show ("flip":Str)="cross" from h) (by decide +kernel)
  | turn a k=>exact absurd (show ("turn":Str)="cross" from h) (by decide +kernel)
  | iff a b=>exact absurd (show ("if":Str)="cross" from h) (by decide +kernel)
  | pair a b=>exact absurd (show ("pair":Str)="cross" from h) (by decide +kernel)
  | swap a b=>exact absurd (show ("swap":Str)="cross" from h) (by decide +kernel)
theorem X8o {m:Gm}(h:m.nm="turn"):∃ a k,m=.mv (.turn a k):=by
 cases m with
 | mix a=>exact absurd (show ("mix":Str)="turn" from h) (by decide +kernel)
 | mv v =>
  cases v with
  | turn a k=>exact⟨a,k,rfl⟩
  | flip a=>exact absurd (show ("flip":Str)="turn" from h) (by decide +kernel)
  | cross a b d=>exact absurd (show ("cross":Str)="turn" from h) (by decide +kernel)
  | iff a b=>exact absurd (show ("if":Str)="turn" from h) (by decide +kernel)
  | pair a b=>exact absurd (show ("pair":Str)="turn" from h) (by decide +kernel)
  | swap a b=>exact absurd (show ("swap":Str)="turn" from h) (by decide +kernel)
section
variable {P:U8}{w:W1}{K:U0}{mg:U4}{base:Heap}{k:Nat}{h:Heap}
theorem sc_ltimes:FnScope ["_law_one","_law_other","_law_parts","_law_j","_law_k","_law_at","_law_sign"] ["_law_one","_law_other"] (Z0i (top 92)):=fS
theorem Y8m (F:FunAt K "_law_times" (top 92) .none)(X:K.In h)(G:Ng h mg)(B:Bs mg)(cO:Cal P w K mg base k "_law_low" ["_law_parts","_law_h"] spLow):Cal P w K mg base (k+1) "_law_times" ["_law_one","_law_other"] (Y0e K):=by
 have nd:=sc_ltimes.nd
 refine F.cal X G sc_ltimes (bnd2 λ_ _ _ _ _ _ _ _=>rfl) (λvs H Q E h=>?_) (λf cdv A outer s H vs Q E hr h=>?_)
 ·obtain⟨p,q,x,y,n,m,rfl,_⟩:=h;rfl
 obtain⟨p,q,x,y,n,m,rfl,hp,hq,ox,oy,n1,kq⟩:=h
 obtain⟨⟨a,b,c,d⟩,h⟩:=x
 obtain⟨⟨a',b',c',d'⟩,h'⟩:=y
 have hx0:0<=h:=ox.amt.nn
 have hy0:0<=h':=oy.amt.nn
 have S1:SqT K H p [.int a,.int b,.int c,.int d,.int h]:=hp
 have S2:SqT K H q [.int a',.int b',.int c',.int d',.int h']:=SqT.of hq
 have gx:∀ i:Nat,i<4->atI [V.int a,.int b,.int c,.int d,.int h] (0+(i:Int))=some (.int ([a,b,c,d].getD i 0))/\Sz n ([a,b,c,d].getD i 0):=λi hi=>by
  have:i=0∨i=1∨i=2∨i=3:=by omega
  rcases this with rfl | rfl | rfl | rfl
  ·exact⟨Z,ox.sz.z1⟩
  ·exact⟨Z,ox.sz.z2⟩
  ·exact⟨Z,ox.sz.z3⟩
  ·exact⟨Z,ox.sz.z4⟩
 have gy:∀ i:Nat,i<4->atI [V.int a',.int b',.int c',.int d',.int h'] (0+(i:Int))=some (.int ([a',b',c',d'].getD i 0))/\Sz n ([a',b',c',d'].getD i 0):=λi hi=>by
  have:i=0∨i=1∨i=2∨i=3:=by omega
  rcases this with rfl | rfl | rfl | rfl
  ·exact⟨Z,oy.sz.z1⟩
  ·exact⟨Z,oy.sz.z2⟩
  ·exact⟨Z,oy.sz.z3⟩
  ·exact⟨Z,oy.sz.z4⟩
 refine⟨_,(@Z0e _ _ _ _ _ (@Z0q _ _ 2 _ _ _ _ nd rfl (Or.inl rfl) (@Z3b _ _ _ _ (Z0a Z0b (Z0a Z0b (Z0a Z0b (Z0a Z0b Z0d))))) rfl (.inl rfl))
  (@Z0e _ _ _ _ _ (Z1v PassesOwn.never rfl (Z0y rfl B.range (Z0a Z0b Z0d)) (Z0p (i:=3) nd rfl (Or.inl rfl))
   (@Z0f _ _ _ (Z1v PassesOwn.never rfl (Z0y rfl B.range (Z0a Z0b Z0d)) (Z0p (i:=4) nd rfl (Or.inl rfl))
    (@Z0e _ _ _ _ _ (@Z0q _ _ 5 _ _ _ _ nd rfl (Or.inl rfl) (Z0h Z0v (Z0h Z1b (pv 3) (pv 4)) Z0b) rfl (.inl rfl))
    (@Z0e _ _ _ _ _ (@Z0q _ _ 6 _ _ _ _ nd rfl (Or.inl rfl) (Z0h Z1z Z0b (Z0h Z3p Z0b (Z0h Z1g (Z0h Z1b (pv 3) (pv 4)) Z0b))) rfl (.inl rfl))
    (@Z0f _ _ _ (Z5u (Z0h Z1b (Z0m Z0z (pv 2) (pv 5) (λ_ _=>rfl)) (Z0h Z7b (Z0h Z7b (pv 6) (Z0m Z0j (pv 0) (pv 3) (λ_ _=>rfl))) (Z0m Z0j (pv 1) (pv 4) (λ_ _=>rfl)))) (Y0o (pv 2) (pv 5) Z4v))))))))
  (@Z0f _ _ _ (Z0k (Z0l cO hr rfl (Z0a (pv 2) (Z0a (Z0h Z1b (Z0m Z0j (pv 0) Z0b (λ_ _=>rfl)) (Z0m Z0j (pv 1) Z0b (λ_ _=>rfl))) Z0d))))))),?_⟩
 try dsimp only[cxK]
 refine⟨t4,λlp hlp=>?_⟩
 refine⟨_,Z,by decide,by decide,?_⟩
 refine Z1u (n:=4) (λj σ H'=>Same H H'/\H' lp=some (.lst ((tall [a,b,c,d] [a',b',c',d'] j).map V.int))/\∃ v3 v4 v5 v6,σ=[some (.ref p),some (.ref q),some (.ref lp),v3,v4,v5,v6]) ⟨Z0g hlp _,Z0c,_,_,_,_,Z⟩ ?_ ?_
 ·rintro j σ H1 hj ⟨s1,a1,v3,v4,v5,v6,rfl⟩
  refine⟨_,Z,by decide,by decide,?_⟩
  refine Z1u (n:=4) (λk σ H'=>Same H H'/\H' lp=some (.lst ((trow [a,b,c,d] [a',b',c',d'] j k (tall [a,b,c,d] [a',b',c',d'] j)).map V.int))/\∃ v4 v5 v6,σ=[some (.ref p),some (.ref q),some (.ref lp),some (.int (0+(j:Int))),v4,v5,v6]) ⟨s1,a1,_,_,_,Z⟩ ?_ ?_
  ·rintro k σ H2 hk ⟨s2,a2,v4,v5,v6,rfl⟩
   obtain⟨ga,za⟩:=gx j hj
   obtain⟨gb,zb⟩:=gy k hk
   have e1:((0+(j:Int))+(0+(k:Int)))%4=(((j+k)%4:Nat):Int):=by omega
   have e2:((0+(j:Int))+(0+(k:Int))) / 4=(((j+k) / 4:Nat):Int):=by omega
   have L:(trow [a,b,c,d] [a',b',c',d'] j k (tall [a,b,c,d] [a',b',c',d'] j)).length=4:=by rw[Z8m,Y3e]
   have zs:Sz 2 (1-2*(((j+k) / 4:Nat):Int)):=by
    have:(j+k) / 4=0∨(j+k) / 4=1:=by omega
    rcases this with z | z<;>rw[z]<;>decide +kernel
   refine⟨_,Z,_,Z,_,_,Z,Z,_,_,Z,Z,(by decide:(0:Int)<4),?_⟩
   refine⟨_,Z,_,Z,_,_,Z,Z,_,_,Z,Z,⟨by decide,by decide⟩,_,_,Z,Z,.inl ⟨by decide,by decide⟩,_,_,Z,Z,?_⟩
   refine⟨_,Z,_,Z,lp,_,_,_,Z,Z,SqL.of a2,(by rw[e1];exact X3y (by rw[L];exact q1v _ (by decide))),_,Z,_,Z,_,Z,p,_,_,_,Z,Z,s2.tup S1,ga,_,_,Z,Z,(by rw[e2];exact⟨_,_,zs,za,by omega⟩),_,Z,_,Z,q,_,_,_,Z,Z,s2.tup S2,gb,_,_,Z,Z,(by rw[e2];exact⟨_,_,zs.mul za,zb,by omega⟩),_,_,Z,Z,?_⟩
   refine⟨_,Z,_,Z,lp,_,_,_,Z,Z,a2,(by rw[e1];exact Z9i (by rw[q0a,L];exact q1v _ (by decide))),Z0s s2 hlp,?_,_,_,_,Z⟩
   rw[Z0c,e2]
   show _=some (HO.lst ((tstep _ _ j k _).map V.int))
   unfold tstep
   rw[q9g]
  ·rintro σ H2 ⟨s2,a2,v4,v5,v6,rfl⟩
   exact⟨s2,a2,_,_,_,_,Z⟩
 ·rintro σ H1 ⟨s1,a1,v3,v4,v5,v6,rfl⟩
  rw[X6a] at a1
  refine⟨_,Z,_,Z,p,_,_,_,Z,Z,s1.tup S1,Z,_,Z,q,_,_,_,Z,Z,s1.tup S2,Z,_,_,Z,Z,?_⟩
  refine⟨lp,_,_,_,_,_,Z,a1,by omega,λr H' x' y' z' u' v' S' hr' RE=>?_⟩
  have o1:h<=m:=ox.le
  have o2:h'<=m:=oy.le
  have o3:v'<=h+h':=RE.le
  have zx:=ox.sz
  have zy:=oy.sz
  refine kq r H' ((x',y',z',u'),v') (s1.trans S') hr' ⟨RE.amt,RE.same,o3⟩ ⟨RE.sz ⟨?_,?_,?_,?_⟩,RE.amt,by show v'<=_;omega⟩
  ·exact((((zx.z1.mul zy.z1).sub (zx.z2.mul zy.z4)).sub (zx.z3.mul zy.z3)).sub (zx.z4.mul zy.z2)).mono (by omega)
  ·exact((((zx.z1.mul zy.z2).add (zx.z2.mul zy.z1)).sub (zx.z3.mul zy.z4)).sub (zx.z4.mul zy.z3)).mono (by omega)
  ·exact((((zx.z1.mul zy.z3).add (zx.z2.mul zy.z2)).add (zx.z3.mul zy.z1)).sub (zx.z4.mul zy.z4)).mono (by omega)
  ·exact((((zx.z1.mul zy.z4).add (zx.z2.mul zy.z3)).add (zx.z3.mul zy.z2)).add (zx.z4.mul zy.z1)).mono (by omega)
theorem sc_plain:FnScope ["_law_numbers","_law_cells","_law_row","_law_number","_law_move"] ["_law_numbers","_law_cells"] (Z0i (top 94)):=fS
theorem X2d (F:FunAt K "_law_plain_row" (top 94) .none)(X:K.In h)(G:Ng h mg)(B:Bs mg)(cK:Cal P w K mg base k "_law_move_by" ["_law_cell","_law_cells"] Z8p):Cal P w K mg base (k+1) "_law_plain_row" ["_law_numbers","_law_cells"] (Y1w K):=by
 have nd:=sc_plain.nd
 refine F.cal X G sc_plain (bnd2 λ_ _ _ _ _ _ _ _=>rfl) (λvs H Q E h=>?_) (λf cdv A outer s H vs Q E hr h=>?_)
 ·obtain⟨a,ns,c,rfl,_⟩:=h;rfl
 obtain⟨a,ns,c,rfl,SA,n63,c1,c6,kq⟩:=h
 refine⟨_,(@Z0e _ _ _ _ _ (@Z0q _ _ 2 _ _ _ _ nd rfl (Or.inl rfl) (@Z3b _ _ _ _ Z0d) rfl (.inl rfl))
  (@Z0e _ _ _ _ _ (Z1v PassesOwn.never rfl (Z1e (pv 0)) (Z0p (i:=3) nd rfl (Or.inl rfl))
   (@Z0e _ _ _ _ _ (@Z0q _ _ 4 _ _ _ _ nd rfl (Or.inl rfl) (Z0l cK hr rfl (Z0a (pv 3) (Z0a (pv 1) Z0d))) rfl (.inl rfl))
   (@Z1c _ _ _ _ _ (Z0w (Z0n Z1k (Z0m Z0j (pv 4) Z0b (λ_ _=>rfl)) Z1l (nomark _))
    (@Z0f _ _ _ (@Z0q _ _ 4 _ _ _ _ nd rfl (Or.inl rfl) (@Z1a _ _ _ _ _ (Z0a Z1l (Z0a (Z0m Z0j (pv 4) Z0b (λ_ _=>rfl)) (Z0a (Z0m Z0j (pv 4) Z0b (λ_ _=>rfl)) Z0d)))) rfl (.inl rfl)))
    Z0o)
   (@Z1c _ _ _ _ _ (Z0w (Z0n Z1k (Z0m Z0j (pv 4) Z0b (λ_ _=>rfl)) Z1l (nomark _))
    (@Z0f _ _ _ (@Z0q _ _ 4 _ _ _ _ nd rfl (Or.inl rfl) (@Z1a _ _ _ _ _ (Z0a Z1l (Z0a (Z0m Z0j (pv 4) Z0b (λ_ _=>rfl)) (Z0a (Z0h Z1b Z0b (Z0h Z3p Z0b (Z0h Z0v (Z0h Z1g (Z0m Z0j (pv 4) Z0b (λ_ _=>rfl)) Z0b) Z0b))) Z0d)))) rfl (.inl rfl)))
    Z0o)
   (@Z0f _ _ _ (Z3s (Y7u q3m q3j q3i Z3d (pv 2) (Z0a (pv 4) Z0d))))))))
  (@Z0f _ _ _ (Z0k (pv 2))))),?_⟩
 try dsimp only[cxK]
 refine⟨q1l _,λlr hlr=>?_⟩
 have s0:=Z0g hlr (.lst [])
 refine⟨_,Z,a,Z,⟨_,s0.seq SA⟩,Z2x (K:=K) (a:=a) (xs:=ns.map V.int) (λi σ H'=>Same H H'/\∃ (rp:U3) (ms:List Gm) (v3 v4:Option V),H' lr=some (.lst (rp.map V.ref))/\Mvs H' rp ms/\(∀ m∈ms,m.Ok c)/\ms.length=i/\(∀ m∈ms,Bg m)/\σ=[some (.ref a),some (.int c),some (.ref lr),v3,v4])
  ⟨s0,[],[],_,_,Z0c,.nil,(by simp),Z,(by simp),Z⟩ (λi σ H' _ e=>e.1.seq SA) ?_ ?_⟩
 ·rintro i x σ H1 hx ⟨S1,rp,ms,v3,v4,a1,M1,O1,ml,G1,rfl⟩
  have il:i<ns.length:=by have:=(q0l.mp hx).1;rw[q0a] at this;exact this
  rw[q0c] at hx
  obtain⟨cl,hcl,rfl⟩:=q0h.mp hx
  refine⟨_,Z,_,Z,cl,c,Z,c1,c6,λr H2 nm ns2 S2 hr kinds=>?_⟩
  obtain⟨m,okm,e1,e2⟩:∃ m:Gm,m.Ok c/\nm=m.nm/\ns2=m.ns:=by
   rcases kinds with ⟨rfl,a,ac,rfl⟩ | ⟨v,ok,rfl,rfl⟩
   ·exact⟨.mix a,ac,Z,Z⟩
   ·exact⟨.mv v,ok,Z,Z⟩
  subst e1 e2
  have SP:SqT K H2 r (.str m.nm::m.ns.map V.int):=SqT.of hr
  refine⟨λσ H'=>Same H2 H'/\∃ (r:W9) (m:Gm),H' r=some (MvT m.nm m.ns)/\m.Ok c/\m.nm≠"cross"/\σ=[some (.ref a),some (.int c),some (.ref lr),some (.int cl),some (.ref r)],?_,?_⟩
  ·refine⟨_,Z,r,_,_,.str m.nm,Z,Z,SP,at0,Z,_,Z,decI (λz=>?_) (λz=>⟨Same.refl _,r,m,hr,okm,λe=>z (by rw[e]),Z⟩)⟩
   obtain⟨x,y,d,rfl⟩:=X3m (V.str.inj z)
   have okm:x<c/\y<c/\d<c/\x≠y/\x≠d/\y≠d:=okm
   refine⟨_,Z,r,_,_,.int x,Z,Z,SP,Z,_,Z,r,_,_,.int y,Z,Z,SP,Z,t3,λt ht=>⟨Z0g ht _,t,.mv (.swap x y),Z0c,⟨okm.1,okm.2.1,okm.2.2.2.1⟩,(by decide +kernel:("swap":Str)≠"cross"),Z⟩⟩
  rintro σ H3 ⟨S3,r,m,hr,okm,nc,rfl⟩
  have SP:SqT K H3 r (.str m.nm::m.ns.map V.int):=SqT.of hr
  refine⟨λσ H'=>Same H3 H'/\∃ (r:W9) (m:Gm),H' r=some (MvT m.nm m.ns)/\m.Ok c/\Bg m/\σ=[some (.ref a),some (.int c),some (.ref lr),some (.int cl),some (.ref r)],?_,?_⟩
  ·refine⟨_,Z,r,_,_,.str m.nm,Z,Z,SP,at0,Z,_,Z,decI (λz=>?_) (λz=>⟨Same.refl _,r,m,hr,okm,W4g nc λe=>z (by rw[e]),Z⟩)⟩
   obtain⟨x,kk,rfl⟩:=X8o (V.str.inj z)
   have okm:x<c/\1<=kk/\kk<=7:=okm
   refine⟨_,Z,r,_,_,.int x,Z,Z,SP,Z,_,Z,r,_,_,.int kk,Z,Z,SP,Z,_,_,Z,Z,⟨by decide,by decide⟩,_,_,Z,Z,(by decide:(0:Int)<3),_,_,Z,Z,.inl ⟨by decide,by decide⟩,_,_,Z,Z,t3,λt ht=>⟨Z0g ht _,t,.mv (.turn x (2+2*(kk / 2%3))),?_,⟨okm.1,by omega,by omega⟩,(show (2+2*(kk / 2%3))%2=0 by omega),Z⟩⟩
   rw[Z0c]
   show some (HO.tup [.str "turn",.int x,.int (2+2*((kk:Int) / 2%3))])=some (HO.tup [.str "turn",.int x,.int ((2+2*(kk / 2%3):Nat):Int)])
   rw[show (2+2*((kk:Int) / 2%3))=((2+2*(kk / 2%3):Nat):Int) by omega]
  rintro σ H4 ⟨S4,r,m,hr,okm,bgm,rfl⟩
  have S14:=((S1.trans S2).trans S3).trans S4
  have a4:=S4 _ _ (S3 _ _ (S2 _ _ a1))
  refine⟨_,Z,.inl ⟨Z,_,SqL.of a4⟩,_,Z,lr,_,_,Z,Z,a4,(by rw[q0a,M1.length];exact q0k (show ms.length<64 by omega) (by decide)),?_⟩
  refine⟨Z0s S14 hlr,rp++[r],ms++[m],_,_,(by rw[Z0c,q0i];rfl),Mvs.upd (Mvs.snoc (((M1.same S2).same S3).same S4) hr) a4,λy hy=>?_,by simp[ml],λy hy=>?_,Z⟩
  ·rcases q1b.mp hy with q | q
   ·exact O1 y q
   ·rw[q0r.mp q];exact okm
  ·rcases q1b.mp hy with q | q
   ·exact G1 y q
   ·rw[q0r.mp q];exact bgm
 ·rintro σ H1 ⟨S1,rp,ms,v3,v4,a1,M1,O1,ml,G1,rfl⟩
  rw[q0a] at ml
  exact⟨_,Z,kq lr H1 rp ms S1 ⟨a1,M1,O1,by omega⟩ ml G1⟩
theorem Z9n (ns:U6)(lo hi:Option Int):∃ ms:List Int,cutV (ns.map V.int) lo hi=ms.map V.int/\ms.length<=ns.length:=by
 unfold cutV
 refine⟨_,by rw[<-List.map_drop,<-List.map_take],?_⟩
 rw[q2b,q7s,q0a]
 omega
theorem X6m (t:W9)(n:Nat):(List.replicate n [V.ref t]).flatten=(List.replicate n t).map V.ref:=by
 induction n with
 | zero=>rfl
 | succ n ih=>rw[q2s,q4y,ih,q2s,q0z];rfl
theorem Bv.put {H:Hp}{l p:W9}{ps:U3}{f:Nat->A5}{c j:Nat}{x:A5}(b:Bv H l ps f c)(e:H p=some (tA x)):Bv (upd H l (.lst ((ps.map V.ref).set j (.ref p)))) l (ps.set j p) (λi=>if i=j then x else f i) c :=
 ⟨by rw[Z0c,q9g],by rw[q8k];exact b.len,V.Z2p (V.Y3b b.vals e) b.lst⟩
def Oks (c:Nat)(f:Nat->A5):Prop:=∀ w,w<2^c->Ok5 127500 206 (f w)
theorem Ok5.up {x:A5}(h:Ok5 100 40 x):Ok5 127500 206 x:=h.mono (by decide) (by decide)
theorem Y2g {c j:Nat}{f:Nat->A5}{x:A5}(h:Oks c f)(a:Ok5 100 40 x):Oks c (λi=>if i=j then x else f i):=λw hw=>by
 show Ok5 127500 206 (if w=j then x else f w)
 by_cases e:w=j
 ·rw[if_pos e];exact Ok5.up a
 ·rw[if_neg e];exact h w hw
theorem X4w {c j:Nat}{f:Nat->A5}{x:A5}(hj:j<2^c)(nx:x≠Zz):V.Nz c (λi=>if i=j then x else f i):=⟨j,hj,by show (if j=j then x else f j)≠_;rw[if_pos rfl];exact nx⟩
theorem X8h {n:Nat}{z:Int}(h:0<n):ixN n (z%((n:Nat):Int))=some (z%((n:Nat):Int)).toNat/\(z%((n:Nat):Int)).toNat<n:=by
 have e0:=q2z z (by omega:((n:Nat):Int)≠0)
 have e1:=q3a z (by omega:(0:Int)<((n:Nat):Int))
 unfold ixN
 rw[if_pos e0,if_pos e1]
 exact⟨Z,by omega⟩
def spHeld (K:U0):Sp:=λvs H Q _=>∃ (a:W9) (ns:U6) (c:Nat) (way:Int),vs=[.ref a,.int 1,.int c,.int way]/\SqL K H a (ns.map V.int)/\Light ns/\ns.length<=63/\1<=c/\c<=6/\0<=way/\way<=5 ∧
 ∀ (l:W9) (H':Hp) (ps:U3) (f:Nat->A5),H l=none->Same H H'->Bv H' l ps f c->Oks c f->V.Nz c f->Q (.ref l) H'
theorem Y8j:Ok5 100 40 ((1,0,0,0),0):=⟨⟨V.s_1,V.s_0,V.s_0,V.s_0⟩,⟨q3s 0,.inl rfl⟩,by decide⟩
theorem X1z:Ok5 100 40 ((3,0,0,0),0):=⟨⟨V.Z2c (by decide) (by decide),V.s_0,V.s_0,V.s_0⟩,⟨q3s 0,.inl rfl⟩,by decide⟩
theorem sc_held:FnScope ["_law_script","_law_at","_law_cells","_law_way","_law_size","_law_board","_law_k","_law_one","_law_word","_law_cell","_law_row"] ["_law_script","_law_at","_law_cells","_law_way"] (Z0i (top 95)):=fS
theorem X7g (F:FunAt K "_law_held_board" (top 95) .none)(X:K.In h)(G:Ng h mg)(B:Bs mg)(c7:Cal P w K mg base k "_law_cell_at" ["_law_script","_law_k"] (spCell K))(cG:Cal P w K mg base k "_law_amount_by" ["_law_cell"] Y1y)(d9:Cal P w K mg base k "_law_board_by" ["_law_script","_law_at","_law_cells"] (V.Y3v K))
  (cH:Cal P w K mg base k "_law_spin" ["_law_one","_law_k"] spSpin) (cK:Cal P w K mg base k "_law_move_by" ["_law_cell","_law_cells"] Z8p) (cJ:Cal P w K mg base k "_law_plain_row" ["_law_numbers","_law_cells"] (Y1w K)) (dU:Cal P w K mg base k "_law_times" ["_law_one","_law_other"] (Y0e K)) (eZ:Cal P w K mg base k "start" ["cells","word"] (Y6t K)) (eK:Cal P w K mg base k "run" ["board","row"] (spRunK K)) :
  Cal P w K mg base (k+1) "_law_held_board" ["_law_script","_law_at","_law_cells","_law_way"] (spHeld K):=by
 have nd:=sc_held.nd
 refine F.cal X G sc_held (bnd4 λ_ _ _ _ _ _ _ _ _ _=>rfl) (λvs H Q E' h=>?_) (λf cdv A outer s H vs Q E' hr h=>?_)
 ·obtain⟨a,ns,c,way,rfl,_⟩:=h;rfl
 obtain⟨a,ns,c,way,rfl,SA,lt,n63,c1,c6,w0,w5,kq⟩:=h
 have p6:=pow6 c6
 have p0:0<2^c:=q0o c
 have pI:(0:Int)<((2^c:Nat):Int):=by omega
 refine⟨_,(@Z1c _ _ _ _ _ (@Z0q _ _ 4 _ _ _ _ nd rfl (Or.inl rfl) (Z0h Z1t Z0b (pv 2)) rfl (.inl rfl))
  (@Z0e _ _ _ _ _ (Z0w (Z0n Z1k (pv 3) Z0b (nomark _))
   (@Z0f _ _ _ (Z0k (Z0l d9 hr rfl (Z0a (pv 0) (Z0a (pv 1) (Z0a (pv 2) Z0d))))))
   Z0o)
  (@Z0e _ _ _ _ _ (@Z0q _ _ 5 _ _ _ _ nd rfl (Or.inl rfl) (Z0h W0i (@Z3b _ _ _ _ (Z0a (@Z1a _ _ _ _ _ (Z0a Z0b (Z0a Z0b (Z0a Z0b (Z0a Z0b (Z0a Z0b Z0d)))))) Z0d)) (pv 4)) rfl (.inl rfl))
  (@Z0e _ _ _ _ _ (Z0w (Z0n Z7c (pv 3) Z0b (nomark _))
   (@Z0e _ _ _ _ _ (Z1v PassesOwn.never rfl (Z0y rfl B.range (Z0a (pv 3) Z0d)) (Z0p (i:=6) nd rfl (Or.inl rfl))
    (@Z0e _ _ _ _ _ (@Z0q _ _ 7 _ _ _ _ nd rfl (Or.inr rfl) (Z0l cG hr rfl (Z0a (Z0l c7 hr rfl (Z0a (pv 0) (Z0a (Z0h Z1b (pv 1) (pv 6)) Z0d))) Z0d)) rfl (.inl rfl))
    (@Z1c _ _ _ _ _ (Z0w (Z0n (Y2f hr.units) (pv 7) (@Z1a _ _ _ _ _ (Z0a Z0b (Z0a Z0b (Z0a Z0b (Z0a Z0b (Z0a Z0b Z0d)))))) (nomark _))
     (@Z0f _ _ _ (@Z0q _ _ 7 _ _ _ _ nd rfl (Or.inr rfl) (@Z1a _ _ _ _ _ (Z0a Z0b (Z0a Z0b (Z0a Z0b (Z0a Z0b (Z0a Z0b Z0d)))))) rfl (.inl rfl)))
     Z0o)
    (@Z0f _ _ _ (Z5u (pv 7) (Y0o (pv 5) (Z0h Z0v (Z0l c7 hr rfl (Z0a (pv 0) (Z0a (Z0h Z1b (Z0h Z1b (pv 1) Z0b) (pv 6)) Z0d))) (pv 4)) Z4v))))))
   (@Z0f _ _ _ (Z0k (pv 5))))
   Z0o)
  (@Z0e _ _ _ _ _ (Z0w (Z0n Z1k (pv 3) Z0b (nomark _))
   (@Z0e _ _ _ _ _ (Z1v PassesOwn.never rfl (Z0y rfl B.range (Z0a (pv 4) Z0d)) (Z0p (i:=8) nd rfl (Or.inl rfl))
    (@Z0e _ _ _ _ _ (@Z0q _ _ 9 _ _ _ _ nd rfl (Or.inl rfl) (Z0h Z1b (Z0l c7 hr rfl (Z0a (pv 0) (Z0a (Z0h Z1b (pv 1) (Z0h Z0v (pv 8) Z0b)) Z0d))) (Z0h Z3p (Z0h Z1g (pv 8) Z0b) Z0b)) rfl (.inl rfl))
    (@Z0f _ _ _ (Z0w (Z0n Y2e (Z0h Z0v (pv 9) Z0b) Z0b (nomark _))
     (@Z0f _ _ _ (Z5u (Z0l cH hr rfl (Z0a (@Z1a _ _ _ _ _ (Z0a Z0b (Z0a Z0b (Z0a Z0b (Z0a Z0b (Z0a Z0b Z0d)))))) (Z0a (Z0h Z7b (Z0h Z1g (pv 9) Z0b) (Z0h Z0v (pv 9) Z0b)) Z0d))) (Y0o (pv 5) (pv 8) Z4v)))
     Z0o))))
   (@Z1c _ _ _ _ _ (Z0w (Z1n (Z0r (Z2f rfl) rfl B.all q6o (Z0a (Z3k rfl (LcOk.of (Nc:=["_law_one"]) (mp:=[none]) (by kernel_rfl)) (Z1e (pv 5)) (λ_ _ _ _=>(Z0p (i:=0) (show (["_law_one"]:W0).Nodup by decide +kernel) rfl (Or.inl rfl))) (λ_ _ _ _=>(Z1p (Z9d hr.units) (pv 0) (@Z1a _ _ _ _ _ (Z0a Z0b (Z0a Z0b (Z0a Z0b (Z0a Z0b (Z0a Z0b Z0d)))))) (nomark _)))) Z0d)))
    (@Z0f _ _ _ (Z5u (@Z1a _ _ _ _ _ (Z0a Z0b (Z0a Z0b (Z0a Z0b (Z0a Z0b (Z0a Z0b Z0d)))))) (Y0o (pv 5) Z0b Z4v)))
    Z0o)
   (@Z0f _ _ _ (Z0k (pv 5)))))
   Z0o)
  (@Z0e _ _ _ _ _ (Z3h (i:=10) rfl nd rfl rfl (LcOk.of (Nc:=["_law_number","_law_cells"]) (mp:=[none,some 2]) (by kernel_rfl)) (Z1e (Z2q Z8u (pv 0) (Z2i (Z0h Z1b (pv 1) Z0b)) (Z2i (Z0h Z1b (pv 1) Z0b)))) (λ_ _ _ _=>(Z0p (i:=0) (show (["_law_number","_law_cells"]:W0).Nodup by decide +kernel) rfl (Or.inl rfl))) (λ_ _ _ _=>(Z0l cK hr rfl (Z0a (pv 0) (Z0a (pv 1) Z0d)))) rfl)
  (@Z1c _ _ _ _ _ (Z0w (Z0n Z1k (pv 3) Z0b (nomark _))
   (@Z0f _ _ _ (@Z0q _ _ 10 _ _ _ _ nd rfl (Or.inl rfl) (Z0l cJ hr rfl (Z0a (Z2q Z8u (pv 0) (Z2i (Z0h Z1b (pv 1) Z0b)) (Z2i (Z0h Z1b (pv 1) Z0b))) (Z0a (pv 2) Z0d))) rfl (.inl rfl)))
   Z0o)
  (@Z0e _ _ _ _ _ (@Z0q _ _ 7 _ _ _ _ nd rfl (Or.inr rfl) (Z0l cG hr rfl (Z0a (Z0l c7 hr rfl (Z0a (pv 0) (Z0a (pv 1) Z0d))) Z0d)) rfl (.inl rfl))
  (@Z1c _ _ _ _ _ (Z0w (Z0n (Y2f hr.units) (pv 7) (@Z1a _ _ _ _ _ (Z0a Z0b (Z0a Z0b (Z0a Z0b (Z0a Z0b (Z0a Z0b Z0d)))))) (nomark _))
   (@Z0f _ _ _ (@Z0q _ _ 7 _ _ _ _ nd rfl (Or.inr rfl) (@Z1a _ _ _ _ _ (Z0a Z0b (Z0a Z0b (Z0a Z0b (Z0a Z0b (Z0a Z0b Z0d)))))) rfl (.inl rfl)))
   Z0o)
  (@Z0e _ _ _ _ _ (@Z0q _ _ 5 _ _ _ _ nd rfl (Or.inl rfl) (Z0l eK hr rfl (Z0a (Z0l eZ hr rfl (Z0a (pv 2) (Z0a (Z0h Z0v (Z0l c7 hr rfl (Z0a (pv 0) (Z0a (Z0h Z1b (pv 1) Z0b) Z0d))) (pv 4)) Z0d))) (Z0a (pv 10) Z0d))) rfl (.inl rfl))
  (@Z0f _ _ _ (Z0k (Z3k rfl (LcOk.of (Nc:=["_law_part","_law_one"]) (mp:=[none,some 7]) (by kernel_rfl)) (Z1e (pv 5)) (λ_ _ _ _=>(Z0p (i:=0) (show (["_law_part","_law_one"]:W0).Nodup by decide +kernel) rfl (Or.inl rfl))) (λ_ _ _ _=>(Z0l dU hr rfl (Z0a (pv 0) (Z0a (pv 1) Z0d))))))))))))))))),?_⟩
 try dsimp only[cxK]
 refine⟨λσ' H'=>H'=H/\σ'=[some (.ref a),some (.int 1),some (.int c),some (.int way),some (.int ((2^c:Nat):Int)),none,none,none,none,none,none],⟨_,Z,_,_,Z,Z,⟨1,sz1,by omega,by omega⟩,Z,by rw[<-ipow c];rfl⟩,?_⟩
 rintro σ0 H0 ⟨rfl,rfl⟩
 refine⟨_,Z,Z,_,Z,eqI (λe=>?_) (λne0=>?_)⟩
 ·exact⟨_,Z,_,Z,_,Z,a,ns,1,c,Z,SA,lt,by decide,c1,c6,λl H1 ps f fr S1 h1 l1 v1 o1 nz=>kq l H1 ps f fr S1 ⟨h1,l1,v1⟩ (λw _=>Ok5.up (o1 w)) nz⟩
 refine⟨t5,λt ht=>⟨(show (1:Nat)<=sizeLine by decide),λlo hlo=>⟨_,Z,lo,_,_,Z,Z,Z0c,by omega,by omega,by rw[q0v];exact q1i (by simp;exact p6) (by decide),λl2 hl2=>?_⟩⟩⟩
 have s1:=Z0g ht (tA Zz)
 have s2:=s1.trans (Z0g hlo (.lst [V.ref t]))
 have s3:=s2.trans (Z0g hl2 (.lst (List.replicate (((2^c:Nat):Nat):Int).toNat [V.ref t]).flatten))
 have n2:H0 l2=none:=s2.free hl2
 have B3:Bv (upd (upd (upd H0 t (tA Zz)) lo (.lst [V.ref t])) l2 (.lst (List.replicate (((2^c:Nat):Nat):Int).toNat [V.ref t]).flatten)) l2 (List.replicate (2^c) t) (λ_=>Zz) c:=by
  refine⟨by rw[Z0c,q0v,X6m],q8l,λi q hq=>?_⟩
  rw[q7p] at hq
  split at hq
  ·cases hq
   exact Z0g hl2 _ _ _ (Z0g hlo _ _ _ Z0c)
  ·cases hq
 generalize upd (upd (upd H0 t (tA Zz)) lo (.lst [V.ref t])) l2 (.lst (List.replicate (((2^c:Nat):Nat):Int).toNat [V.ref t]).flatten)=H3 at *
 have A3:Oks c (λ_=>Zz):=λ_ _=>Ok5.up ⟨⟨V.s_0,V.s_0,V.s_0,V.s_0⟩,Y2x,(show (0:Int)<=40 by decide)⟩
 refine⟨_,Z,_,_,Z,Z,_,Z,decI (λwl=>?_) (λwl=>?_)⟩
 ·
  refine⟨_,Z,_,Z,by omega,by omega,?_⟩
  refine Z1u (n:=way.toNat) (λj σ H'=>Same H0 H'/\∃ (ps:U3) (f:Nat->A5) (v6 v7:Option V),Bv H' l2 ps f c/\Oks c f/\(0<j->V.Nz c f)/\σ=[some (.ref a),some (.int 1),some (.int c),some (.int way),some (.int ((2^c:Nat):Int)),some (.ref l2),v6,v7,none,none,none])
   ⟨s3,_,_,_,_,B3,A3,λz=>absurd z (q4x _),Z⟩ ?_ ?_
  ·rintro j σ H4 hj ⟨S4,ps,f,v6,v7,B4,A4,N4,rfl⟩
   have SA4:=S4.seq SA
   refine⟨_,Z,_,Z,_,Z,_,_,Z,Z,a,ns,_,Z,SA4,by omega,_,Z,(Z9s lt _).mono (by decide),λp H5 x S5 hp ox=>?_⟩
   have B5:=B4.same S5
   refine⟨λσ H'=>Same H5 H'/\∃ (p:W9) (x:A5),H' p=some (tA x)/\Ok5 100 40 x/\x≠Zz/\σ=[some (.ref a),some (.int 1),some (.int c),some (.int way),some (.int ((2^c:Nat):Int)),some (.ref l2),some (.int (0+(j:Int))),some (.ref p),none,none,none],?_,?_⟩
   ·refine⟨_,Z,t5,λt' ht'=>?_⟩
    have s6:=Z0g ht' (.tup [.int 0,.int 0,.int 0,.int 0,.int 0])
    refine⟨p,t',l5 x,[0,0,0,0,0],Z,Z,SqT.of (s6 _ _ hp),SqT.of Z0c,_,Z,blI (λe=>?_) (λe=>?_)⟩
    ·refine⟨t5,λt7 ht7=>⟨s6.trans (Z0g ht7 _),t7,((3,0,0,0),0),Z0c,X1z,λz=>?_,Z⟩⟩
     exact absurd (congrArg (λy:A5=>y.1.1) z) (by decide)
    ·refine⟨s6,p,x,s6 _ _ hp,ox,λz=>?_,Z⟩
     rw[z] at e
     exact absurd e (by decide)
   rintro σ H6 ⟨S6,p,x,hp,ox,nx,rfl⟩
   have S46:=(S4.trans S5).trans S6
   have B6:=B5.same S6
   obtain⟨ix,il⟩:=X8h (z:=cell ns (1+2+(0+(j:Int)))) p0
   refine⟨_,Z,_,Z,_,Z,_,Z,_,_,Z,Z,_,Z,_,_,Z,Z,a,ns,_,Z,S46.seq SA,by omega,_,Z,_,_,Z,Z,pI,l2,_,_,_,Z,Z,B6.lst,(by rw[q0a,B6.len];exact ix),?_⟩
   exact⟨Z0s S46 n2,_,_,_,_,B6.put hp,Y2g A4 ox,λ_=>X4w il nx,Z⟩
  ·rintro σ H4 ⟨S4,ps,f,v6,v7,B4,A4,N4,rfl⟩
   exact⟨_,Z,kq l2 H4 ps f n2 S4 B4 A4 (N4 (by omega))⟩
 refine⟨_,Z,Z,_,Z,eqI (λe3=>?_) (λne3=>?_)⟩
 ·
  refine⟨_,Z,_,Z,by omega,by omega,?_⟩
  rw[q0v]
  refine Z1u (n:=2^c) (λj σ H'=>Same H0 H'/\∃ (ps:U3) (f:Nat->A5) (v8 v9:Option V),Bv H' l2 ps f c/\Oks c f/\σ=[some (.ref a),some (.int 1),some (.int c),some (.int way),some (.int ((2^c:Nat):Int)),some (.ref l2),none,none,v8,v9,none])
   ⟨s3,_,_,_,_,B3,A3,Z⟩ ?_ ?_
  ·rintro j σ H4 hj ⟨S4,ps,f,v8,v9,B4,A4,rfl⟩
   have SA4:=S4.seq SA
   have e0:(0:Int)+(j:Int)=(j:Int):=q2p _
   have sz8:Sz 1048600 (cell ns (1+(0+(j:Int))%8)+(0+(j:Int)) / 8*7919):=((Z9s lt _).add (show Sz 20 ((0+(j:Int)) / 8*7919) by unfold Sz;omega)).mono (by decide)
   refine⟨_,Z,_,Z,_,Z,_,_,Z,Z,p_8,_,_,Z,Z,a,ns,_,Z,SA4,by omega,_,Z,_,_,Z,Z,⟨by decide,by decide⟩,_,_,Z,Z,.inr ⟨by decide,by decide⟩,_,_,Z,Z,?_⟩
   refine⟨_,Z,_,_,Z,Z,p_3,_,_,Z,Z,_,Z,decI (λ_=>?_) (λ_=>⟨S4,ps,f,_,_,B4,A4,Z⟩)⟩
   refine⟨t5,λt' ht'=>?_⟩
   have s5:=Z0g ht' (tA ((1,0,0,0),0))
   have z3:Sz 1048600 ((cell ns (1+(0+(j:Int))%8)+(0+(j:Int)) / 8*7919) / 3):=sz8.le (by omega)
   have z2:Sz 2 ((cell ns (1+(0+(j:Int))%8)+(0+(j:Int)) / 8*7919)%3):=by unfold Sz;omega
   refine⟨_,Z,_,_,Z,Z,⟨by decide,by decide⟩,_,Z,_,_,Z,Z,p_3,_,_,Z,Z,⟨1048600,2,z3,z2,by decide⟩,t',((1,0,0,0),0),_,Z,Z0c,λr H6 S6 hr6=>?_⟩
   have S46:=(S4.trans s5).trans S6
   have B6:=B4.same (s5.trans S6)
   refine⟨_,Z,_,Z,l2,_,_,j,Z,Z,B6.lst,(by rw[q0a,B6.len,e0];exact Z9i hj),?_⟩
   exact⟨Z0s S46 n2,_,_,_,_,B6.put hr6,Y2g A4 (Z6f Y8j),Z⟩
  ·rintro σ H4 ⟨S4,ps,f,v8,v9,B4,A4,rfl⟩
   refine⟨λσ' H'=>∃ (ps:U3) (f:Nat->A5),Same H0 H'/\Bv H' l2 ps f c/\Oks c f/\V.Nz c f/\σ'=[some (.ref a),some (.int 1),some (.int c),some (.int way),some (.int ((2^c:Nat):Int)),some (.ref l2),none,none,v8,v9,none],?_,?_⟩
   ·refine⟨_,Z,l2,Z,⟨_,SqL.of B4.lst⟩,λacc hacc=>?_⟩
    refine Z2u (K:=K) (a:=l2) (xs:=ps.map V.ref) (fr:=[]) (λi ys H'=>Same H4 H'/\H' acc=some (.lst ys)/\ys=((List.range i).map λj=>decide (l5 (f j)=[0,0,0,0,0])).map V.bl) (by rw[q0a,B4.len];exact t64 p6) ⟨Z0g hacc _,Z0c,Z⟩ (λi ys H' p=>SqL.of (p.1 _ _ B4.lst)) ?_ ?_
    ·rintro i x ys H5 N hx hy ⟨S5,a5,rfl⟩ kN
     rw[q0c] at hx
     obtain⟨p,hp,rfl⟩:=q0h.mp hx
     have ep:=S5 _ _ (B4.vals i p hp)
     refine⟨_,Z,t5,λt' ht'=>⟨p,t',l5 (f i),[0,0,0,0,0],Z,Z,SqT.of (Z0g ht' _ _ _ ep),SqT.of Z0c,kN _ _ (Z0g ht' _ _ _ a5) ⟨Z0s (S5.trans (Z0g ht' _)) hacc,Z0c,?_⟩⟩⟩
     rw[q4s,q0i,q0i];rfl
    ·rintro ys H5 hy ⟨S5,a5,rfl⟩
     have B5:=B4.same S5
     refine⟨acc,_,Z,SqL.of a5,_,Z,blI (λ_=>?_) (λeb=>?_)⟩
     ·refine⟨t5,λt' ht'=>?_⟩
      have s6:=Z0g ht' (tA ((1,0,0,0),0))
      have B6:=B5.same s6
      refine⟨_,Z,l2,_,_,0,Z,Z,B6.lst,(by rw[q0a,B6.len];exact Z9i p0),?_⟩
      refine⟨_,_,Z0s ((S4.trans S5).trans s6) n2,B6.put Z0c,Y2g A4 Y8j,X4w p0 (λz=>?_),Z⟩
      exact absurd (congrArg (λy:A5=>y.1.1) z) (by decide)
     ·rw[q0a,B4.len] at eb
      exact⟨ps,f,S4.trans S5,B5,A4,V.W0r (by rw[eb];exact q0p),Z⟩
   rintro σ' H5 ⟨ps,f,S5,B5,A5',N5,rfl⟩
   exact⟨_,Z,kq l2 H5 ps f n2 S5 B5 A5' N5⟩
 obtain⟨dr,edr,ldr⟩:=Z9n ns (some (1+2)) (some (1+8))
 refine⟨_,Z,_,Z,_,_,Z,Z,_,Z,_,Z,_,_,Z,Z,_,Z,a,_,Z,s3.seq SA,λcp hcp=>?_⟩
 rw[edr]
 have s4:=s3.trans (Z0g hcp (.lst (dr.map V.int)))
 have SD:SqL K (upd H3 cp (.lst (dr.map V.int))) cp (dr.map V.int):=SqL.of Z0c
 generalize upd H3 cp (.lst (dr.map V.int))=H4 at *
 refine⟨cp,Z,⟨_,SD⟩,λacc hacc=>?_⟩
 refine Z2u (K:=K) (a:=cp) (xs:=dr.map V.int) (fr:=[some (.int c)]) (λi ys H'=>Same H4 H'/\H' acc=some (.lst ys)/\∃ (rp:U3) (ms:List Gm),ys=rp.map V.ref/\Mvs H' rp ms/\(∀ m∈ms,m.Ok c)/\ms.length=i) (by rw[q0a];exact t64 (by omega))
  ⟨Z0g hacc _,Z0c,[],[],Z,.nil,(by simp),Z⟩ (λi ys H' e=>e.1.seq SD) ?_ ?_
 ·rintro i x ys H5 N hx hy ⟨S5,a5,rp,ms,rfl,M5,O5,l5'⟩ kN
  rw[q0c] at hx
  obtain⟨cl,hcl,rfl⟩:=q0h.mp hx
  refine⟨_,Z,_,Z,cl,c,Z,c1,c6,λr H6 nm ns2 S6 hr kinds=>?_⟩
  obtain⟨m,okm,e1,e2⟩:∃ m:Gm,m.Ok c/\nm=m.nm/\ns2=m.ns:=by
   rcases kinds with ⟨rfl,a,ac,rfl⟩ | ⟨v,ok,rfl,rfl⟩
   ·exact⟨.mix a,ac,Z,Z⟩
   ·exact⟨.mv v,ok,Z,Z⟩
  subst e1 e2
  have a6:=S6 _ _ a5
  refine kN _ _ a6 ⟨Z0s (S5.trans S6) hacc,Z0c,rp++[r],ms++[m],by rw[q0i];rfl,Mvs.upd (Mvs.snoc (M5.same S6) hr) a6,λy hy=>?_,by simp[l5']⟩
  rcases q1b.mp hy with q | q
  ·exact O5 y q
  ·rw[q0r.mp q];exact okm
 rintro ys H5 hy ⟨S5,a5,rp,ms,rfl,M5,O5,l5'⟩
 have S05:=s4.trans S5
 refine⟨λσ' H'=>Same H0 H'/\∃ (lr:W9) (rp:U3) (ms:List Gm),Rw H' lr rp ms c/\ms.length<=63/\σ'=[some (.ref a),some (.int 1),some (.int c),some (.int way),some (.int ((2^c:Nat):Int)),some (.ref l2),none,none,none,none,some (.ref lr)],?_,?_⟩
 ·rw[q0a] at l5'
  refine⟨_,Z,Z,_,Z,eqI (λe5=>?_) (λ_=>⟨S05,acc,rp,ms,⟨a5,M5,O5,by omega⟩,by omega,Z⟩)⟩
  obtain⟨dr',edr',ldr'⟩:=Z9n ns (some (1+2)) (some (1+14))
  refine⟨_,Z,_,Z,_,_,Z,Z,_,Z,_,Z,_,_,Z,Z,_,Z,a,_,Z,S05.seq SA,λcp' hcp'=>?_⟩
  rw[edr']
  have s6:=Z0g hcp' (.lst (dr'.map V.int))
  refine⟨_,Z,cp',dr',c,Z,SqL.of Z0c,by omega,c1,c6,λlr H7 rp ms S7 RW ml _=>?_⟩
  exact⟨(S05.trans s6).trans S7,lr,rp,ms,RW,by omega,Z⟩
 rintro σ6 H6 ⟨S6,lr,rp,ms,RW,m63,rfl⟩
 refine⟨_,Z,_,Z,a,ns,_,Z,S6.seq SA,by omega,_,Z,(Z9s lt _).mono (by decide),λp H7 x S7 hp ox=>?_⟩
 have RW7:=RW.same S7
 refine⟨λσ H'=>Same H7 H'/\∃ (p:W9) (x:A5),H' p=some (tA x)/\Ok5 100 40 x/\x≠Zz/\σ=[some (.ref a),some (.int 1),some (.int c),some (.int way),some (.int ((2^c:Nat):Int)),some (.ref l2),none,some (.ref p),none,none,some (.ref lr)],?_,?_⟩
 ·refine⟨_,Z,t5,λt' ht'=>?_⟩
  have s8:=Z0g ht' (.tup [.int 0,.int 0,.int 0,.int 0,.int 0])
  refine⟨p,t',l5 x,[0,0,0,0,0],Z,Z,SqT.of (s8 _ _ hp),SqT.of Z0c,_,Z,blI (λe=>?_) (λe=>?_)⟩
  ·refine⟨t5,λt7 ht7=>⟨s8.trans (Z0g ht7 _),t7,((1,0,0,0),0),Z0c,Y8j,λz=>?_,Z⟩⟩
   exact absurd (congrArg (λy:A5=>y.1.1) z) (by decide)
  ·refine⟨s8,p,x,s8 _ _ hp,ox,λz=>?_,Z⟩
   rw[z] at e
   exact absurd e (by decide)
 rintro σ8 H8 ⟨S8,p,x,hp,ox,nx,rfl⟩
 have S08:=(S6.trans S7).trans S8
 have RW8:=RW7.same S8
 have e0:=q2z (cell ns (1+1)) (show ((2^c:Nat):Int)≠0 by omega)
 have e1:=q3a (cell ns (1+1)) pI
 have ex:cell ns (1+1)%((2^c:Nat):Int)=(((cell ns (1+1)%((2^c:Nat):Int)).toNat:Nat):Int):=by omega
 have xl:(cell ns (1+1)%((2^c:Nat):Int)).toNat<2^c:=by omega
 refine⟨_,Z,_,Z,_,Z,_,_,Z,Z,a,ns,_,Z,S08.seq SA,by omega,_,Z,_,_,Z,Z,pI,c,(cell ns (1+1)%((2^c:Nat):Int)).toNat,(by rw[<-ex];rfl),c1,c6,xl,λlb H9 bs fr9 S9 BD9=>?_⟩
 generalize (cell ns (1+1)%((2^c:Nat):Int)).toNat=x0 at *
 refine⟨_,Z,lb,lr,bs,rp,st x0,c,100,40,ms,Z,RW8.same S9,BD9,c6,by decide,by decide,λrb H10 qs g fr10 S10 BD10 ST=>?_⟩
 have hp10:=S10 _ _ (S9 _ _ hp)
 have gnz:V.Nz c g:=by
  apply Classical.byContradiction
  intro no
  have gz:∀ w,w<2^c->g w=Zz:=λw hw=>Classical.byContradiction λz=>no ⟨w,hw,z⟩
  have:=Z8o c6 RW.ok (λw _=>(X9t x0 w).amt) ST gz x0 xl
  unfold st at this
  rw[if_pos rfl] at this
  exact absurd (congrArg (λy:A5=>y.1.1) this) (by decide)
 have S010:=(S08.trans S9).trans S10
 have SB':SqL K H10 rb (qs.map V.ref):=SqL.of BD10.lst
 refine⟨_,Z,rb,Z,⟨_,SB'⟩,λacc2 hacc2=>?_⟩
 refine Z2u (K:=K) (a:=rb) (xs:=qs.map V.ref) (fr:=[some (.ref p)]) (λi ys H'=>Same H10 H'/\H' acc2=some (.lst ys)/\∃ (us:U3) (z:Nat->A5),ys=us.map V.ref/\us.length=i/\Vals5 H' us z/\∀ j,j<i->Prd (g j) x (z j)/\Ok5 127500 206 (z j)) (by rw[q0a,BD10.len];exact t64 p6)
  ⟨Z0g hacc2 _,Z0c,[],λ_=>Zz,Z,Z,(λ_ _ z=>by cases z),λ_ z=>absurd z (q1k _)⟩ (λi ys H' e=>e.1.seq SB') ?_ ?_
 ·rintro i v ys H11 N hx hy ⟨S11,a11,us,z,rfl,ul,v11,pr⟩ kN
  rw[q0c] at hx
  obtain⟨q,hq,rfl⟩:=q0h.mp hx
  have il:i<2^c:=by rw[<-BD10.len];exact(q0l.mp hq).1
  have gq:=(BD10.vals i q hq).same S11
  refine⟨_,Z,_,Z,q,p,g i,x,100+1010*ms.length,40+ms.length,Z,gq,S11 _ _ hp10,BD10.ok i il,ox.mono (by omega) (by omega),by omega,λr H12 y S12 hr12 P12 O12=>?_⟩
  have a12:=S12 _ _ a11
  refine kN _ _ a12 ⟨Z0s (S11.trans S12) hacc2,Z0c,us++[r],λj=>if j=us.length then y else z j,by rw[q0i];rfl,by simp[ul],V.Z2p (V.Z2s v11 S12 hr12) a12,λj hj=>?_⟩
  show Prd (g j) x (if j=us.length then y else z j)/\Ok5 127500 206 (if j=us.length then y else z j)
  by_cases e:j=us.length
  ·rw[if_pos e,e,ul];exact⟨P12,O12.mono (by omega) (by omega)⟩
  ·rw[if_neg e];exact pr j (by omega)
 rintro ys H11 hy ⟨S11,a11,us,z,rfl,ul,v11,pr⟩
 rw[q0a,BD10.len] at ul pr
 obtain⟨w1,hw1,gw1⟩:=gnz
 exact kq acc2 H11 us z (S010.free hacc2) (S010.trans S11) ⟨a11,ul,v11⟩ (λw hw=>(pr w hw).2) ⟨w1,hw1,(pr w1 hw1).1.nz (BD10.ok w1 hw1).amt ox.amt gw1 nx⟩
end
end K63
namespace M71
inductive Mv where
 | flip (a:Int)
 | mix (a:Int)
 | turn (a k:Int)
 | iff (a b:Int)
 | pair (a b:Int)
 | swap (a b:Int)
 | cross (a b d:Int)
deriving DecidableEq
namespace Mv
noncomputable def cells:Mv->List Int
 | flip a=>[a]
 | mix a=>[a]
 | turn a _=>[a]
 | iff a b=>[a,b]
 | pair a b=>[a,b]
 | swap a b=>[a,b]
 | cross a b d=>[a,b,d]
end Mv
open Mv
end M71
set_option maxHeartbeats 1000000
namespace M72
open M71 M71.Mv
abbrev V4:=Int × Int × Int × Int
noncomputable def add (x y:V4):V4:=(x.1+y.1,x.2.1+y.2.1,x.2.2.1+y.2.2.1,x.2.2.2+y.2.2.2)
noncomputable def sm (n:Int)(x:V4):V4:=(n*x.1,n*x.2.1,n*x.2.2.1,n*x.2.2.2)
noncomputable def E (x:V4):V4:=(-x.2.2.2,x.1,x.2.1,x.2.2.1)
noncomputable def En:Nat->V4->V4
 | 0,x=>x
 | n+1,x=>E (En n x)
noncomputable def root (x:V4):V4:=(x.2.1-x.2.2.2,x.1+x.2.2.1,x.2.1+x.2.2.2,x.2.2.1-x.1)
theorem ext {x y:V4}(h1:x.1=y.1)(h2:x.2.1=y.2.1)(h3:x.2.2.1=y.2.2.1)(h4:x.2.2.2=y.2.2.2):x=y:=by
 obtain⟨a,b,c,d⟩:=x
 obtain⟨a',b',c',d'⟩:=y
 simp only at h1 h2 h3 h4
 rw[h1,h2,h3,h4]
theorem W4i (x y:V4):E (add x y)=add (E x) (E y):=by apply ext<;>simp only[E,add]<;>omega
theorem E_sm (n:Int)(x:V4):E (sm n x)=sm n (E x):=by apply ext<;>simp only[E,sm]<;>grind
theorem W2n (x:V4):E (root x)=root (E x):=by apply ext<;>simp only[E,root]<;>omega
theorem X1n (x y:V4):root (add x y)=add (root x) (root y):=by apply ext<;>simp only[root,add]<;>omega
theorem X6l (n:Int)(x:V4):root (sm n x)=sm n (root x):=by apply ext<;>simp only[root,sm]<;>grind
theorem Y7h (m n:Int)(x:V4):sm m (sm n x)=sm (m*n) x:=by apply ext<;>simp only[sm]<;>grind
theorem Y7o (x:V4):root (root x)=sm 2 x:=by apply ext<;>simp only[root,sm]<;>omega
theorem Y7i (x:V4):sm 1 x=x:=by apply ext<;>simp only[sm]<;>omega
theorem add_comm (x y:V4):add x y=add y x:=by apply ext<;>simp only[add]<;>omega
theorem W2m (n:Nat)(x y:V4):En n (add x y)=add (En n x) (En n y):=by
 induction n with
 | zero=>rfl
 | succ n ih=>simp only[En,ih,W4i]
theorem X4a (n:Nat)(k:Int)(x:V4):En n (sm k x)=sm k (En n x):=by
 induction n with
 | zero=>rfl
 | succ n ih=>simp only[En,ih,E_sm]
theorem X9e (n:Nat)(x:V4):En n (root x)=root (En n x):=by
 induction n with
 | zero=>rfl
 | succ n ih=>simp only[En,ih,W2n]
theorem Y6h (m n:Nat)(x:V4):En m (En n x)=En (m+n) x:=by
 induction m with
 | zero=>rw[q2u];rfl
 | succ m ih=>rw[Nat.succ_add];simp only[En,ih]
theorem En4 (x:V4):En 4 x=sm (-1) x:=by apply ext<;>simp only[En,E,sm]<;>omega
theorem En8 (x:V4):En 8 x=x:=by apply ext<;>simp only[En,E]<;>omega
theorem X5q (n:Nat)(x:V4):En n x=En (n%8) x:=by
 have:∀ q r,En (8*q+r) x=En r x:=by
  intro q r
  induction q with
  | zero=>rw[q8g,q2u]
  | succ q ih=>rw[show 8*(q+1)+r=8+(8*q+r) by omega,<-Y6h 8,En8,ih]
 conv=>lhs;rw[<-Nat.div_add_mod n 8]
 exact this _ _
noncomputable def fl (w a:Nat):Nat:=w^^^2^a
noncomputable def sw (w a b:Nat):Nat:=if w.testBit a=w.testBit b then w else fl (fl w a) b
theorem Z8e (w a j:Nat):(fl w a).testBit j=(w.testBit j ^^ decide (a=j)):=by
 unfold fl
 rw[q1y,q2r]
theorem Z7p (w a:Nat):fl (fl w a) a=w:=by
 unfold fl
 rw[q1t,q3n,q6z]
theorem Z3e (w a b j:Nat)(h:a≠b):(sw w a b).testBit j=if j=a then w.testBit b else if j=b then w.testBit a else w.testBit j:=by
 unfold sw
 by_cases e:w.testBit a=w.testBit b
 ·rw[if_pos e]
  split
  ·rename_i z;rw[z,e]
  ·split
   ·rename_i z;rw[z,e]
   ·rfl
 ·rw[if_neg e,Z8e,Z8e]
  by_cases ja:j=a
  ·rw[if_pos ja,ja,q1f rfl,q0w (λz=>h z.symm)]
   revert e
   cases w.testBit a<;>cases w.testBit b<;>simp
  ·rw[if_neg ja]
   by_cases jb:j=b
   ·rw[if_pos jb,jb,q1f (rfl:b=b),q0w h]
    revert e
    cases w.testBit a<;>cases w.testBit b<;>simp
   ·rw[if_neg jb,q0w (λz=>ja z.symm),q0w (λz=>jb z.symm)]
    simp
theorem Z8i {w v:Nat}(h:∀ j,w.testBit j=v.testBit j):w=v:=q3b h
noncomputable def to:Mv->Nat->Nat
 | .flip a,w=>fl w a.toNat
 | iff a b,w=>if w.testBit a.toNat then fl w b.toNat else w
 | swap a b,w=>sw w a.toNat b.toNat
 | cross a b d,w=>if w.testBit a.toNat then sw w b.toNat d.toNat else w
 | _,w=>w
noncomputable def sp:Mv->Nat->Nat
 | turn a k,w=>if w.testBit a.toNat then k.toNat else 0
 | pair a b,w=>if w.testBit a.toNat && w.testBit b.toNat then 4 else 0
 | _,_=>0
noncomputable def sg (w a:Nat):Int:=if w.testBit a then -1 else 1
abbrev Bv:=Nat->V4
noncomputable def op:Mv->Bv->Bv
 | mix a,F=>λw=>root (add (sm (sg w a.toNat) (F w)) (F (fl w a.toNat)))
 | m,F=>λw=>sm 2 (En (sp m w) (F (to m w)))
def Ok:Mv->Prop
 | .flip a=>0<=a
 | mix a=>0<=a
 | turn a k=>0<=a/\1<=k/\k<=7
 | iff a b=>0<=a/\0<=b/\a≠b
 | pair a b=>0<=a/\0<=b/\a≠b
 | swap a b=>0<=a/\0<=b/\a≠b
 | cross a b d=>0<=a/\0<=b/\0<=d/\a≠b/\a≠d/\b≠d
noncomputable def isMix:Mv->Bool
 | mix _=>true
 | _=>false
theorem Z5m {m:Mv}(h:isMix m=false)(F:Bv)(w:Nat):op m F w=sm 2 (En (sp m w) (F (to m w))):=by
 cases m<;>first | rfl | cases h
theorem Ok.nn {m:Mv}(ok:Ok m):∀ c∈m.cells,0<=c:=by
 cases m<;>simp only[Ok,cells] at*<;> simp<;>omega
end M72
namespace M75
open M71 M71.Mv M72 Pc
noncomputable def bn (b:Bool):Nat:=if b then 1 else 0
noncomputable def bp (x:Nat):Bool:=decide (pc x%2=1)
theorem X0r (x y:Nat):bp (x^^^y)=(bp x ^^ bp y):=by
 unfold bp
 have:=pcx x y
 have c:pc (x^^^y)%2=(pc x%2+pc y%2)%2:=by omega
 rw[c]
 rcases q0u (pc x) with a | a<;>rcases q0u (pc y) with b | b<;>rw[a,b]<;>rfl
theorem X4s (a:Nat):pc (2^a)=1:=by
 induction a with
 | zero=>decide +kernel
 | succ n ih =>
  have h0:(2:Nat)^(n+1)≠0:=q3p (q0o _)
  unfold pc
  rw[dif_neg h0,q4r,Nat.mul_mod_left,Nat.mul_div_cancel _ (by decide),ih]
theorem X8u:bp 0=false:=by decide +kernel
theorem X5k (s a:Nat):bp (2^a&&&s)=s.testBit a:=by
 have e:(2^a&&&s)=if s.testBit a then 2^a else 0:=by
  apply q3b
  intro j
  rw[q2x,q2r]
  by_cases h:a=j
  ·subst h
   cases hb:s.testBit a<;>simp
  ·cases hb:s.testBit a<;>simp[h,q2r]
 rw[e]
 cases s.testBit a
 ·exact X8u
 ·show bp (2^a)=true
  unfold bp
  rw[X4s]
  rfl
theorem Z4h (x s a:Nat):bp (fl x a&&&s)=(bp (x&&&s) ^^ s.testBit a):=by
 unfold fl
 rw[q3e,X0r,X5k]
theorem Z3f (x s a:Nat):bp (x&&&fl s a)=(bp (x&&&s) ^^ x.testBit a):=by
 rw[q3g,Z4h,q3g s]
theorem W4d (x a b:Nat):bp (sw x a b)=bp x:=by
 unfold sw
 split
 ·rfl
 ·unfold fl
  rw[X0r,X0r]
  have h:∀ j,bp (2^j)=true:=λj=>by unfold bp;rw[X4s];rfl
  rw[h,h]
  cases bp x<;>rfl
abbrev Mk:=Nat × Nat × Nat
noncomputable def lay (m:Mk)(F:Bv):Bv:=λw=>En (2*m.1+4*bn (bp ((w^^^m.2.1)&&&m.2.2))) (F (w^^^m.2.1))
noncomputable def mvd:Mv->Mk->Mk
 | .flip a,(k,f,s)=>(if s.testBit a.toNat then (k+2)%4 else k,f,s)
 | mix a,(k,f,s)=>(if f.testBit a.toNat && s.testBit a.toNat then (k+2)%4 else k,if f.testBit a.toNat=s.testBit a.toNat then f else fl f a.toNat,if f.testBit a.toNat=s.testBit a.toNat then s else fl s a.toNat)
 | turn a j,(k,f,s)=>if f.testBit a.toNat then ((k+j.toNat / 2)%4,f,if j.toNat%4=2 then fl s a.toNat else s) else (k,f,s)
 | iff a b,(k,f,s)=>(k,if f.testBit a.toNat then fl f b.toNat else f,if s.testBit b.toNat then fl s a.toNat else s)
 | pair a b,(k,f,s)=>(if f.testBit a.toNat && f.testBit b.toNat then (k+2)%4 else k,f,(if f.testBit b.toNat then fl (if f.testBit a.toNat then fl s b.toNat else s) a.toNat else if f.testBit a.toNat then fl s b.toNat else s))
 | swap a b,(k,f,s)=>(k,sw f a.toNat b.toNat,sw s a.toNat b.toNat)
 | _,m=>m
def Br:Mv->Prop
 | cross _ _ _=>False
 | turn _ j=>j.toNat%2=0
 | _=>True
theorem X4b {m n:Nat}(h:m%8=n%8)(x:V4):En m x=En n x:=by rw[X5q m,X5q n,h]
theorem Z5i {m:Mv}(hm:isMix m=false){F:Bv}{w:Nat}{p q:Mk}(h1:to m w^^^p.2.1=to m (w^^^q.2.1))
  (h2:(sp m w+(2*p.1+4*bn (bp ((to m w^^^p.2.1)&&&p.2.2))))%8=(2*q.1+4*bn (bp ((w^^^q.2.1)&&&q.2.2))+sp m (w^^^q.2.1))%8):op m (lay p F) w=lay q (op m F) w:=by
 unfold lay
 rw[Z5m hm,Z5m hm,X4a,Y6h,Y6h,h1]
 congr 1
 rw[<-h1]
 exact X4b h2 _
theorem Y0z (w f a:Nat):fl w a^^^f=fl (w^^^f) a:=by
 unfold fl
 rw[q1t,q3o (2^a),<-q1t]
theorem Y2z (w f a:Nat):w^^^fl f a=fl (w^^^f) a:=by
 unfold fl
 rw[q1t]
theorem X1h {a:Int}(F:Bv)(w:Nat)(p:Mk):op (.flip a) (lay p F) w=lay (mvd (.flip a) p) (op (.flip a) F) w:=by
 obtain⟨k,f,s⟩:=p
 refine Z5i rfl (Y0z _ _ _) ?_
 show (0+(2*k+4*bn (bp ((fl w a.toNat^^^f)&&&s))))%8=(2*(if s.testBit a.toNat then (k+2)%4 else k)+4*bn (bp ((w^^^f)&&&s))+0)%8
 rw[Y0z,Z4h]
 cases s.testBit a.toNat<;>cases bp ((w^^^f)&&&s)<;>simp[bn]<;>omega
theorem X1e {a j:Int}(he:j.toNat%2=0)(hj:j.toNat<=7)(F:Bv)(w:Nat)(p:Mk):op (turn a j) (lay p F) w=lay (mvd (turn a j) p) (op (turn a j) F) w:=by
 obtain⟨k,f,s⟩:=p
 generalize hJ:j.toNat=J at he hj
 by_cases hf:f.testBit a.toNat=true
 ·have e:mvd (turn a j) (k,f,s)=((k+J / 2)%4,f,if J%4=2 then fl s a.toNat else s):=by
   show (if _ then _ else _)=_
   rw[if_pos hf,hJ]
  rw[e]
  refine Z5i rfl rfl ?_
  show ((if w.testBit a.toNat then j.toNat else 0)+(2*k+4*bn (bp ((w^^^f)&&&s))))%8=(2*((k+J / 2)%4)+4*bn (bp ((w^^^f)&&&if J%4=2 then fl s a.toNat else s))+(if (w^^^f).testBit a.toNat then j.toNat else 0))%8
  have hx:(w^^^f).testBit a.toNat=!w.testBit a.toNat:=by rw[q1y,hf];cases w.testBit a.toNat<;>rfl
  rw[hx,hJ]
  have:J=0∨J=2∨J=4∨J=6:=by omega
  rcases this with rfl | rfl | rfl | rfl
  ·rw[if_neg (show ¬ (0:Nat)%4=2 by decide)]
   generalize bn (bp ((w^^^f)&&&s))=Z
   cases w.testBit a.toNat<;>simp<;>omega
  ·rw[if_pos (show (2:Nat)%4=2 by decide),Z3f,hx]
   cases w.testBit a.toNat<;>cases bp ((w^^^f)&&&s)<;>simp[bn]<;>omega
  ·rw[if_neg (show ¬ (4:Nat)%4=2 by decide)]
   generalize bn (bp ((w^^^f)&&&s))=Z
   cases w.testBit a.toNat<;>simp<;>omega
  ·rw[if_pos (show (6:Nat)%4=2 by decide),Z3f,hx]
   cases w.testBit a.toNat<;>cases bp ((w^^^f)&&&s)<;>simp[bn]<;>omega
 ·have e:mvd (turn a j) (k,f,s)=(k,f,s):=by
   show (if _ then _ else _)=_
   rw[if_neg hf]
  rw[e]
  refine Z5i rfl rfl ?_
  show ((if w.testBit a.toNat then j.toNat else 0)+_)%8=(_+(if (w^^^f).testBit a.toNat then j.toNat else 0))%8
  have hx:(w^^^f).testBit a.toNat=w.testBit a.toNat:=by
   rw[q1y,(by simpa using hf:f.testBit a.toNat=false)]
   cases w.testBit a.toNat<;>rfl
  rw[hx,q6g]
  rfl
theorem Z2l {w a b:Nat}(h:a≠b):(fl w b).testBit a=w.testBit a:=by
 rw[Z8e,q0w (λz:b=a=>h z.symm)]
 cases w.testBit a<;>rfl
theorem Z4g (w a:Nat):(fl w a).testBit a=!w.testBit a:=by
 rw[Z8e]
 simp
theorem X5z {a b:Int}(ne:a.toNat≠b.toNat)(F:Bv)(w:Nat)(p:Mk):op (iff a b) (lay p F) w=lay (mvd (iff a b) p) (op (iff a b) F) w:=by
 obtain⟨k,f,s⟩:=p
 generalize hA:a.toNat=A at ne
 generalize hB:b.toNat=B at ne
 have t:∀ v,to (iff a b) v=if v.testBit A then fl v B else v:=λv=>by show (if _ then _ else _)=_;rw[hA,hB]
 have e:mvd (iff a b) (k,f,s)=(k,if f.testBit A then fl f B else f,if s.testBit B then fl s A else s):=by
  show (_,(if _ then _ else _),(if _ then _ else _))=_
  rw[hA,hB]
 rw[e]
 have h1:to (iff a b) w^^^f=to (iff a b) (w^^^if f.testBit A then fl f B else f):=by
  rw[t,t]
  cases hf:f.testBit A<;>cases hw:w.testBit A<;>simp[hf,hw,q1y,Y2z,Y0z,Z2l ne,Z7p]
 refine Z5i rfl h1 ?_
 show (0+(2*k+4*bn (bp ((to (iff a b) w^^^f)&&&s))))%8=(2*k+4*bn (bp ((w^^^if f.testBit A then fl f B else f)&&&if s.testBit B then fl s A else s))+0)%8
 rw[q2u,q3h]
 congr 3
 congr 1
 rw[t]
 cases hf:f.testBit A<;>cases hw:w.testBit A<;>cases hs:s.testBit B<;>simp[Y2z,Y0z,Z4h,Z3f,q1y,hf,hw,hs,Z2l ne,Z2l (Ne.symm ne)]
theorem X1g {a b:Int}(ne:a.toNat≠b.toNat)(F:Bv)(w:Nat)(p:Mk):op (pair a b) (lay p F) w=lay (mvd (pair a b) p) (op (pair a b) F) w:=by
 obtain⟨k,f,s⟩:=p
 refine Z5i rfl rfl ?_
 show ((if w.testBit a.toNat && w.testBit b.toNat then 4 else 0)+(2*k+4*bn (bp ((w^^^f)&&&s))))%8=(2*(if f.testBit a.toNat && f.testBit b.toNat then (k+2)%4 else k)+4*bn (bp ((w^^^f)&&&(if f.testBit b.toNat then fl (if f.testBit a.toNat then fl s b.toNat else s) a.toNat else if f.testBit a.toNat then fl s b.toNat else s)))+(if (w^^^f).testBit a.toNat && (w^^^f).testBit b.toNat then 4 else 0))%8
 rw[q1y,q1y]
 generalize a.toNat=A at *
 generalize b.toNat=B at *
 cases hfa:f.testBit A<;>cases hfb:f.testBit B<;>cases hwa:w.testBit A<;>cases hwb:w.testBit B<;>simp[Z3f,q1y,hfa,hfb,hwa,hwb]<;>cases bp ((w^^^f)&&&s)<;>simp[bn]<;>omega
theorem X1f {a b:Int}(ne:a.toNat≠b.toNat)(F:Bv)(w:Nat)(p:Mk):op (swap a b) (lay p F) w=lay (mvd (swap a b) p) (op (swap a b) F) w:=by
 obtain⟨k,f,s⟩:=p
 have h1:sw w a.toNat b.toNat^^^f=sw (w^^^sw f a.toNat b.toNat) a.toNat b.toNat:=by
  apply Z8i
  intro j
  rw[q1y,Z3e _ _ _ _ ne,Z3e _ _ _ _ ne,q1y,q1y,q1y,Z3e _ _ _ _ ne,Z3e _ _ _ _ ne,Z3e _ _ _ _ ne]
  by_cases ja:j=a.toNat
  ·subst ja;simp[Ne.symm ne]
  ·by_cases jb:j=b.toNat
   ·subst jb;simp[Ne.symm ne]
   ·simp[ja,jb]
 refine Z5i rfl h1 ?_
 show (0+(2*k+4*bn (bp ((sw w a.toNat b.toNat^^^f)&&&s))))%8=(2*k+4*bn (bp ((w^^^sw f a.toNat b.toNat)&&&sw s a.toNat b.toNat))+0)%8
 have e:((sw w a.toNat b.toNat^^^f)&&&s)=sw ((w^^^sw f a.toNat b.toNat)&&&sw s a.toNat b.toNat) a.toNat b.toNat:=by
  rw[h1]
  apply Z8i
  intro j
  rw[q2x,Z3e _ _ _ _ ne,Z3e _ _ _ _ ne,q2x,q2x,q2x,Z3e s _ _ _ ne,Z3e s _ _ _ ne,Z3e s _ _ _ ne]
  by_cases ja:j=a.toNat
  ·subst ja;simp[Ne.symm ne]
  ·by_cases jb:j=b.toNat
   ·subst jb;simp[Ne.symm ne]
   ·simp[ja,jb]
 rw[e,W4d,q2u,q3h]
noncomputable def sgB (b:Bool):Int:=if b then -1 else 1
theorem X0y (n:Nat)(b:Bool)(x:V4):En (n+4*bn b) x=sm (sgB b) (En n x):=by
 cases b
 ·show En (n+0) x=sm 1 (En n x)
  rw[Y7i,q3h]
 ·show En (n+4) x=sm (-1) (En n x)
  rw[q6g,<-Y6h,En4]
theorem X9w (w a:Nat):sg w a=sgB (w.testBit a):=by
 unfold sg sgB
 cases w.testBit a<;>rfl
theorem Y1z (a b:Bool):sgB a*sgB b=sgB (a ^^ b):=by cases a<;>cases b<;>rfl
theorem X5y {a:Int}(F:Bv)(w:Nat)(p:Mk):op (mix a) (lay p F) w=lay (mvd (mix a) p) (op (mix a) F) w:=by
 obtain⟨k,f,s⟩:=p
 generalize hA:a.toNat=A
 have eL:∀ G:Bv,∀ v,op (mix a) G v=root (add (sm (sgB (v.testBit A)) (G v)) (G (fl v A))):=λG v=>by
  show root (add (sm (sg v a.toNat) (G v)) (G (fl v a.toNat)))=_
  rw[hA,X9w]
 have e:mvd (mix a) (k,f,s)=(if f.testBit A && s.testBit A then (k+2)%4 else k,if f.testBit A=s.testBit A then f else fl f A,if f.testBit A=s.testBit A then s else fl s A):=by
  show ((if _ then _ else _),(if _ then _ else _),(if _ then _ else _))=_
  rw[hA]
 rw[e,eL]
 unfold lay
 simp only[]
 rw[eL,X9e,W2m,X4a,X0y,X0y,X0y,X0y,Y7h,Y7h,Y1z,Y1z,Y0z,Z4h]
 have k2:∀ x:V4,En (2*((k+2)%4)) x=sm (sgB true) (En (2*k) x):=λx=>by
  rw[<-X0y]
  exact X4b (by show (2*((k+2)%4))%8=(2*k+4*1)%8;omega) x
 cases hf:f.testBit A<;>cases hs:s.testBit A
 ·simp[q1y,hf,hs]
 ·simp[q1y,hf,hs,Y2z,Z4h,Z3f,Z7p,Z4g]
  rw[add_comm]
  cases w.testBit A<;>cases bp ((w^^^f)&&&s)<;>simp[sgB]
 ·simp[q1y,hf,hs,Y2z,Z4h,Z3f,Z7p,Z4g]
  rw[add_comm]
  cases w.testBit A<;>cases bp ((w^^^f)&&&s)<;>simp[sgB]
 ·simp[q1y,hf,hs,k2,Y7h,Y1z]
noncomputable def mvds:List Mv->Mk->Mk
 | [],m=>m
 | x::r,m=>mvds r (mvd x m)
theorem X5x {m:Mv}(o:Ok m)(b:Br m)(F:Bv)(p:Mk):op m (lay p F)=lay (mvd m p) (op m F):=by
 funext w
 cases m with
 | flip a=>exact X1h F w p
 | mix a=>exact X5y F w p
 | turn a j=>exact X1e b (by have:0<=a/\1<=j/\j<=7:=o;omega) F w p
 | iff a c=>exact X5z (by have:0<=a/\0<=c/\a≠c:=o;omega) F w p
 | pair a c=>exact X1g (by have:0<=a/\0<=c/\a≠c:=o;omega) F w p
 | swap a c=>exact X1f (by have:0<=a/\0<=c/\a≠c:=o;omega) F w p
 | cross a c d=>exact absurd b id
end M75
namespace M72
open M71 M71.Mv
noncomputable def rowop:List Mv->Bv->Bv
 | [],F=>F
 | m::ms,F=>rowop ms (op m F)
theorem X9u {n:Int}(h:n≠0){x y:V4}(e:sm n x=sm n y):x=y:=by
 have e1:=congrArg (λt:V4=>t.1) e
 have e2:=congrArg (λt:V4=>t.2.1) e
 have e3:=congrArg (λt:V4=>t.2.2.1) e
 have e4:=congrArg (λt:V4=>t.2.2.2) e
 exact ext (q3f h e1) (q3f h e2) (q3f h e3) (q3f h e4)
theorem X6d {w a b:Nat}(n:a≠b):sw (sw w a b) a b=w:=by
 apply Z8i
 intro j
 rw[Z3e _ _ _ _ n]
 by_cases ja:j=a
 ·rw[if_pos ja,Z3e _ _ _ _ n,if_neg (λz=>n z.symm),if_pos rfl,ja]
 ·rw[if_neg ja]
  by_cases jb:j=b
  ·rw[if_pos jb,Z3e _ _ _ _ n,if_pos rfl,jb]
  ·rw[if_neg jb,Z3e _ _ _ _ n,if_neg ja,if_neg jb]
theorem W2w (w a:Nat):sg (fl w a) a=-sg w a:=by
 unfold sg
 rw[Z8e,q1f rfl]
 cases w.testBit a<;>rfl
theorem W2v (w a:Nat):sg w a*sg w a=1:=by
 unfold sg
 split<;>rfl
noncomputable def isTurn:Mv->Bool
 | turn _ _=>true
 | _=>false
theorem X1w {x:Mv}(ok:Ok x)(nt:isTurn x=false)(F:Bv)(w:Nat):op x (op x F) w=sm 4 (F w):=by
 have mono:isMix x=false->to x (to x w)=w->En (sp x w+sp x (to x w)) (F w)=F w->op x (op x F) w=sm 4 (F w):=by
  intro h1 h2 h3
  rw[Z5m h1,Z5m h1,X4a,Y7h,Y6h,h2,h3]
  rfl
 cases x with
 | flip a=>exact mono rfl (Z7p _ _) rfl
 | mix a =>
  show root (add (sm (sg w a.toNat) (root (add (sm (sg w a.toNat) (F w)) (F (fl w a.toNat))))) (root (add (sm (sg (fl w a.toNat) a.toNat) (F (fl w a.toNat))) (F (fl (fl w a.toNat) a.toNat)))))=_
  rw[Z7p,W2w,<-X6l,<-X1n,Y7o]
  have s:=W2v w a.toNat
  generalize sg w a.toNat=σ at s ⊢
  generalize F w=x
  generalize F (fl w a.toNat)=y
  apply ext<;>simp only[add,sm]<;>grind
 | turn a k=>cases nt
 | iff a b =>
  obtain⟨a0,b0,n⟩:=ok
  refine mono rfl ?_ rfl
  show (if (if w.testBit a.toNat then fl w b.toNat else w).testBit a.toNat then fl (if w.testBit a.toNat then fl w b.toNat else w) b.toNat else (if w.testBit a.toNat then fl w b.toNat else w))=w
  by_cases e:w.testBit a.toNat=true
  ·rw[if_pos e,Z8e,q0w (by omega),e]
   exact Z7p _ _
  ·rw[if_neg e,if_neg e]
 | pair a b =>
  refine mono rfl rfl ?_
  show En ((if w.testBit a.toNat && w.testBit b.toNat then 4 else 0)+(if w.testBit a.toNat && w.testBit b.toNat then 4 else 0)) (F w)=F w
  split
  ·exact En8 _
  ·rfl
 | swap a b =>
  obtain⟨a0,b0,n⟩:=ok
  exact mono rfl (X6d (by omega)) rfl
 | cross e a b =>
  obtain⟨e0,a0,b0,n1,n2,n3⟩:=ok
  refine mono rfl ?_ rfl
  show (if (if w.testBit e.toNat then sw w a.toNat b.toNat else w).testBit e.toNat then sw (if w.testBit e.toNat then sw w a.toNat b.toNat else w) a.toNat b.toNat else (if w.testBit e.toNat then sw w a.toNat b.toNat else w))=w
  by_cases z:w.testBit e.toNat=true
  ·have hb:(sw w a.toNat b.toNat).testBit e.toNat=true:=by
    rw[Z3e _ _ _ _ (by omega),if_neg (by omega),if_neg (by omega)]
    exact z
   rw[if_pos z,if_pos hb]
   exact X6d (by omega)
  ·rw[if_neg z,if_neg z]
def VOk (c:Nat)(m:Mv):Prop:=Ok m/\∀ x∈m.cells,x<(c:Int)
end M72
set_option maxHeartbeats 4000000
namespace K63S
open L2 Ba M71
open K63 (top Bs)
noncomputable def nm:Mv->Str
 | .flip _=>"flip"
 | .mix _=>"mix"
 | .turn _ _=>"turn"
 | .iff _ _=>"if"
 | .pair _ _=>"pair"
 | .swap _ _=>"swap"
 | .cross _ _ _=>"cross"
noncomputable def ns:Mv->List Int
 | .flip a=>[a]
 | .mix a=>[a]
 | .turn a k=>[a,k]
 | .iff a b=>[a,b]
 | .pair a b=>[a,b]
 | .swap a b=>[a,b]
 | .cross a b d=>[a,b,d]
noncomputable def hd:Mv->Int
 | .flip a=>a
 | .mix a=>a
 | .turn a _=>a
 | .iff a _=>a
 | .pair a _=>a
 | .swap a _=>a
 | .cross a _ _=>a
noncomputable def code:Mv->Nat
 | .flip _=>0
 | .mix _=>1
 | .turn _ _=>2
 | .iff _ _=>3
 | .pair _ _=>4
 | .swap _ _=>5
 | .cross _ _ _=>6
noncomputable def nms:List Str:=["flip","mix","turn","if","pair","swap","cross"]
theorem Y8w (m:Mv):nm m=nms.getD (code m) "":=by cases m<;>rfl
theorem X7t:∀ i,i<7->∀ j,j<7->nms.getD i ""=nms.getD j ""->i=j:=by decide +kernel
theorem X8t (m:Mv):code m<7:=by cases m<;>simp[code]
theorem W0t {x:Mv}{i:Nat}(hi:i<7):nm x=nms.getD i "" ↔ code x=i:=⟨λh=>X7t _ (X8t x) _ hi (by rw[<-Y8w,h]),λh=>by rw[Y8w,h]⟩
noncomputable abbrev mm (m:Mv):Mm:=(nm m,ns m)
theorem X7r (m:Mv):∃ r,ns m=hd m::r:=by cases m<;>exact⟨_,Z⟩
theorem at0m (m:Mv):atI (.str (nm m)::(ns m).map V.int) 0=some (.str (nm m)):=L2.Z3m (show (V.str (nm m)::(ns m).map V.int)[0]?=some _ from rfl)
theorem at1m (m:Mv):atI (.str (nm m)::(ns m).map V.int) 1=some (.int (hd m)):=by
 obtain⟨r,e⟩:=X7r m
 rw[e]
 exact L2.Z3m (show (V.str (nm m)::V.int (hd m)::r.map V.int)[1]?=some _ from rfl)
theorem X8i (m:Mv):nm m="turn" ↔ code m=2:=W0t (i:=2) (by decide)
theorem X3g (m:Mv):nm m="cross" ↔ code m=6:=W0t (i:=6) (by decide)
theorem Y6e (m:Mv):∃ r,m.cells=hd m::r:=by cases m<;>exact⟨_,Z⟩
theorem X3n {H H':Hp}{l:W9}(s:Same H H')(h:H' l=none):H l=none:=by
 cases e:H l with
 | none=>rfl
 | some o=>rw[s _ _ e] at h;cases h
def RowAt (H:Hp)(l:W9)(row:List Mv):Prop:=∃ ps,H l=some (.lst (ps.map V.ref))/\RowsM H ps (row.map mm)
theorem RowAt.same {H H':Hp}{l:W9}{row:List Mv}(h:RowAt H l row)(s:Same H H'):RowAt H' l row:=by
 obtain⟨ps,a,b⟩:=h
 exact⟨ps,s _ _ a,b.same s⟩
end K63S
namespace K63S
open L2 Ba Am M71
open K63 (top Bs va vb vc vd Gm Step Steps Ams Mix MixAt)
open M72 (V4 sm add root E En fl sw sg rowop op VOk)
def Vl (m:Nat)(v:V4)(x:A5):Prop:=∃ M0:Int,∀ M,M0<=M->va x M=v.1*p2 (M-m)/\vb x M=v.2.1*p2 (M-m)/\vc x M=v.2.2.1*p2 (M-m)/\vd x M=v.2.2.2*p2 (M-m)
theorem Vl.once {m:Nat}{v x:V4}{h:Int}(l:Vl m v (x,h)):Vl m (E v) (E x,h):=by
 obtain⟨M0,l⟩:=l
 refine⟨M0,λM hM=>?_⟩
 obtain⟨l1,l2,l3,l4⟩:=l M hM
 unfold va at l1
 unfold vb at l2
 unfold vc at l3
 unfold vd at l4
 unfold va vb vc vd
 simp only[E] at l1 l2 l3 l4 ⊢
 rw[Int.neg_mul,Int.neg_mul,l4]
 exact⟨Z,l1,l2,l3⟩
theorem Vl.rot {m:Nat}{v x:V4}{h:Int}(l:Vl m v (x,h)):∀ j,Vl m (En j v) (Ba.rot j x,h)
 | 0=>l
 | j+1=>(Vl.rot l j).once
theorem Vl.up {m:Nat}{v:V4}{x:A5}(l:Vl m v x)(n:Nat):Vl (m+n) (sm (2^n) v) x:=by
 obtain⟨M0,l⟩:=l
 refine⟨max M0 0+m+n,λM hM=>?_⟩
 obtain⟨l1,l2,l3,l4⟩:=l M (by omega)
 have e:p2 (M-m)=2^n*p2 (M-((m+n:Nat):Int)):=by
  rw[Z5a (a:=M-m) (b:=(n:Int)) (by omega) (by omega),q9h]
  congr 1
  unfold p2
  congr 1
  omega
 rw[l1,l2,l3,l4,e]
 simp only[sm]
 refine⟨?_,?_,?_,?_⟩<;>grind
theorem Vl.mix {m:Nat}{s:Int}{v u:V4}{x y z:A5}(l:Vl m v x)(l':Vl m u y)(mx:Mix s x y z)(x0:0<=x.2)(y0:0<=y.2):Vl (m+1) (root (add v (sm s u))) z:=by
 obtain⟨M1,l⟩:=l
 obtain⟨M2,l'⟩:=l'
 obtain⟨M3,h3⟩:=mx.vals x0 y0
 refine⟨max M1 0+max M2 0+max M3 0+1,λN hN=>?_⟩
 obtain⟨M,rfl⟩:∃ M,N=M+1:=⟨N-1,by omega⟩
 obtain⟨a1,a2,a3,a4⟩:=l M (by omega)
 obtain⟨b1,b2,b3,b4⟩:=l' M (by omega)
 obtain⟨c1,c2,c3,c4⟩:=h3 M (by omega)
 have e:M+1-((m+1:Nat):Int)=M-m:=by omega
 rw[c1,c2,c3,c4,a1,a2,a3,a4,b1,b2,b3,b4,e]
 simp only[root,add,sm]
 refine⟨?_,?_,?_,?_⟩<;>grind
theorem Vl.same {m:Nat}{v:V4}{x y:A5}(l:Vl m v x)(l':Vl m v y)(ax:Amt x.1.1 x.1.2.1 x.1.2.2.1 x.1.2.2.2 x.2)(ay:Amt y.1.1 y.1.2.1 y.1.2.2.1 y.1.2.2.2 y.2):x=y:=by
 obtain⟨M1,l⟩:=l
 obtain⟨M2,l'⟩:=l'
 have x0:=ax.nn
 have y0:=ay.nn
 obtain⟨M,g1,g2,g3,g4⟩:∃ M:Int,M1<=M/\M2<=M/\x.2<=M/\y.2<=M:=⟨max M1 0+max M2 0+x.2+y.2,by omega,by omega,by omega,by omega⟩
 obtain⟨a1,a2,a3,a4⟩:=l M g1
 obtain⟨b1,b2,b3,b4⟩:=l' M g2
 exact K63.Z8k ax ay g3 g4 (by rw[a1,b1]) (by rw[a2,b2]) (by rw[a3,b3]) (by rw[a4,b4])
theorem Vl.of {x:A5}{N:Nat}(h0:0<=x.2)(h:x.2<=(N:Int)):Vl N (sm (2^(N-x.2.toNat)) x.1) x:=by
 have b:Vl x.2.toNat x.1 x:=by
  refine⟨0,λM _=>?_⟩
  have:((x.2.toNat:Nat):Int)=x.2:=q5h h0
  rw[this]
  exact⟨Z,Z,Z,Z⟩
 have:=b.up (N-x.2.toNat)
 rw[show x.2.toNat+(N-x.2.toNat)=N by omega] at this
 exact this
noncomputable def e1 (a w:Nat):Bool:=(decide (w&&&2^a=0) == !w.testBit a) && (decide (w&&&2^a=2^a) == w.testBit a) && (decide (w / 2^a%2=0) == !w.testBit a) && (w.testBit a || decide (fl w a=w+2^a)) && (!w.testBit a || decide (fl w a=w-2^a))
noncomputable def e2 (a b w:Nat):Bool:=decide (a=b) || (decide (K63.exch w a b=sw w a b) && (decide (w&&&(2^a ||| 2^b)=(2^a ||| 2^b)) == (w.testBit a && w.testBit b)))
theorem W1w:((List.range 6).all λa=>(List.range 64).all λw=>e1 a w)=true:=by decide +kernel
theorem W1v:((List.range 6).all λa=>(List.range 6).all λb=>(List.range 64).all λw=>e2 a b w)=true:=by decide +kernel
theorem w64 {c w:Nat}(hc:c<=6)(hw:w<2^c):w<64:=q0k hw (q1a (by decide) hc:2^c<=2^6)
theorem Y2r {c a w:Nat}(hc:c<=6)(ha:a<c)(hw:w<2^c):(w&&&2^a=0 ↔ w.testBit a=false)/\(w&&&2^a=2^a ↔ w.testBit a=true)/\(w / 2^a%2=0 ↔ w.testBit a=false)/\(w.testBit a=false->fl w a=w+2^a)/\(w.testBit a=true->fl w a=w-2^a):=by
 have h:=K63.get1 (K63.get1 W1w (show a<6 by omega)) (w64 hc hw)
 unfold e1 at h
 simp only[q1g,q5t,beq_iff_eq,q2f] at h
 obtain⟨⟨⟨⟨h1,h2⟩,h3⟩,h4⟩,h5⟩:=h
 cases hb:w.testBit a
 ·rw[hb] at h1 h2 h3 h4 h5
  simp at h1 h2 h3 h4 h5
  exact⟨⟨λ_=>rfl,λ_=>h1⟩,⟨λz=>absurd z h2,λz=>by cases z⟩,⟨λ_=>rfl,λ_=>h3⟩,λ_=>h4,λz=>by cases z⟩
 ·rw[hb] at h1 h2 h3 h4 h5
  simp at h1 h2 h3 h4 h5
  exact⟨⟨λz=>absurd z h1,λz=>by cases z⟩,⟨λ_=>rfl,λ_=>h2⟩,⟨λz=>absurd z (by omega),λz=>by cases z⟩,(λz=>by cases z),λ_=>h5⟩
theorem Y6c {c a b w:Nat}(hc:c<=6)(ha:a<c)(hb:b<c)(n:a≠b)(hw:w<2^c):K63.exch w a b=sw w a b/\(w&&&(2^a ||| 2^b)=(2^a ||| 2^b) ↔ (w.testBit a && w.testBit b)=true):=by
 have h:=K63.get1 (K63.get1 (K63.get1 W1v (show a<6 by omega)) (show b<6 by omega)) (w64 hc hw)
 unfold e2 at h
 simp only[q1g,q5t,beq_iff_eq,q2f] at h
 rcases h with h | ⟨h1,h2⟩
 ·exact absurd h n
 ·refine⟨h1,?_⟩
  rw[<-h2]
  simp
noncomputable def gm:Mv->Gm
 | .flip a=>.mv (.flip a.toNat)
 | .mix a=>.mix a.toNat
 | .turn a k=>.mv (.turn a.toNat k.toNat)
 | .iff a b=>.mv (.iff a.toNat b.toNat)
 | .pair a b=>.mv (.pair a.toNat b.toNat)
 | .swap a b=>.mv (.swap a.toNat b.toNat)
 | .cross a b d=>.mv (.cross a.toNat b.toNat d.toNat)
theorem tn {a:Int}(h:0<=a):((a.toNat:Nat):Int)=a:=q5h h
theorem Y9u {c:Nat}{m:Mv}(o:VOk c m):(gm m).Ok c:=by
 obtain⟨o,x⟩:=o
 cases m with
 | flip a=>have h:=x a (by simp[Mv.cells]);have o:0<=a:=o;show a.toNat<c;omega
 | mix a=>have h:=x a (by simp[Mv.cells]);have o:0<=a:=o;show a.toNat<c;omega
 | turn a k=>have h:=x a (by simp[Mv.cells]);have o:0<=a/\1<=k/\k<=7:=o;show a.toNat<c/\1<=k.toNat/\k.toNat<=7;omega
 | iff a b=>have h:=x a (by simp[Mv.cells]);have h2:=x b (by simp[Mv.cells]);have o:0<=a/\0<=b/\a≠b:=o;show a.toNat<c/\b.toNat<c/\a.toNat≠b.toNat;omega
 | pair a b=>have h:=x a (by simp[Mv.cells]);have h2:=x b (by simp[Mv.cells]);have o:0<=a/\0<=b/\a≠b:=o;show a.toNat<c/\b.toNat<c/\a.toNat≠b.toNat;omega
 | swap a b=>have h:=x a (by simp[Mv.cells]);have h2:=x b (by simp[Mv.cells]);have o:0<=a/\0<=b/\a≠b:=o;show a.toNat<c/\b.toNat<c/\a.toNat≠b.toNat;omega
 | cross a b d=>have h:=x a (by simp[Mv.cells]);have h2:=x b (by simp[Mv.cells]);have h3:=x d (by simp[Mv.cells]);have o:0<=a/\0<=b/\0<=d/\a≠b/\a≠d/\b≠d:=o;show a.toNat<c/\b.toNat<c/\d.toNat<c/\a.toNat≠b.toNat/\a.toNat≠d.toNat/\b.toNat≠d.toNat;omega
theorem Y5i {c n w k:Nat}{F:M72.Bv}{f:Nat->A5}{z:A5}{v:K63.Mv}{t:Nat}(hl:v.to w<2^c)(h:∀ w,w<2^c->Vl n (F w) (f w))(et:v.to w=t)(es:v.sp w=k)(k8:k<8)(e:z=spin (f (v.to w)) (v.sp w:Nat)):Vl (n+1) (sm 2 (En k (F t))) z:=by
 subst et es
 rw[e]
 have q:=(h _ hl).rot (v.sp w)
 have e2:(((v.sp w:Nat):Int)%8).toNat=v.sp w:=by omega
 unfold spin
 rw[e2]
 exact q.up 1
theorem X6f {c n:Nat}{m:Mv}{F:M72.Bv}{f f':Nat->A5}(hc:c<=6)(o:VOk c m)(af:Ams c f)(h:∀ w,w<2^c->Vl n (F w) (f w))(s:Step c (gm m) f f'):∀ w,w<2^c->Vl (n+1) (op m F w) (f' w):=by
 intro w hw
 have ok:=Y9u o
 cases m with
 | flip a=>exact Y5i (v:=.flip a.toNat) (K63.Mv.to_lt hc ok hw) h rfl rfl (show 0<8 by decide) (s w hw)
 | turn a j =>
  have ok:a.toNat<c/\1<=j.toNat/\j.toNat<=7:=ok
  refine Y5i (v:=.turn a.toNat j.toNat) hw h rfl ?_ ?_ (s w hw)
  ·show (if _ then _ else _)=(if _ then _ else _)
   by_cases b:w.testBit a.toNat=true
   ·rw[if_pos b,if_pos ((Y2r hc ok.1 hw).2.1.mpr b)]
   ·rw[if_neg b,if_neg (λz=>b ((Y2r hc ok.1 hw).2.1.mp z))]
  ·show (if w.testBit a.toNat then j.toNat else 0)<8
   split<;>omega
 | iff a b =>
  have ok':a.toNat<c/\b.toNat<c/\a.toNat≠b.toNat:=ok
  refine Y5i (v:=.iff a.toNat b.toNat) (K63.Mv.to_lt hc ok hw) h ?_ rfl (show 0<8 by decide) (s w hw)
  show (if _ then _ else _)=(if _ then _ else _)
  by_cases b:w.testBit a.toNat=true
  ·rw[if_pos b,if_neg (λz=>by rw[(Y2r hc ok'.1 hw).1.mp z] at b;cases b)]
   rfl
  ·rw[if_neg b,if_pos ((Y2r hc ok'.1 hw).1.mpr (by simpa using b))]
 | pair a b =>
  have ok':a.toNat<c/\b.toNat<c/\a.toNat≠b.toNat:=ok
  refine Y5i (v:=.pair a.toNat b.toNat) hw h rfl ?_ ?_ (s w hw)
  ·show (if _ then _ else _)=(if _ then _ else _)
   by_cases b':(w.testBit a.toNat && w.testBit b.toNat)=true
   ·rw[if_pos b',if_pos ((Y6c hc ok'.1 ok'.2.1 ok'.2.2 hw).2.mpr b')]
   ·rw[if_neg b',if_neg (λz=>b' ((Y6c hc ok'.1 ok'.2.1 ok'.2.2 hw).2.mp z))]
  ·show (if _ then _ else _)<8
   split<;>omega
 | swap a b =>
  have ok':a.toNat<c/\b.toNat<c/\a.toNat≠b.toNat:=ok
  exact Y5i (v:=.swap a.toNat b.toNat) (K63.Mv.to_lt hc ok hw) h (Y6c hc ok'.1 ok'.2.1 ok'.2.2 hw).1 rfl (show 0<8 by decide) (s w hw)
 | cross a b d =>
  have ok':a.toNat<c/\b.toNat<c/\d.toNat<c/\a.toNat≠b.toNat/\a.toNat≠d.toNat/\b.toNat≠d.toNat:=ok
  refine Y5i (v:=.cross a.toNat b.toNat d.toNat) (K63.Mv.to_lt hc ok hw) h ?_ rfl (show 0<8 by decide) (s w hw)
  show (if _ then _ else _)=(if _ then _ else _)
  by_cases b:w.testBit a.toNat=true
  ·rw[if_pos b,if_neg (λz=>by rw[(Y2r hc ok'.1 hw).1.mp z] at b;cases b)]
   exact(Y6c hc ok'.2.1 ok'.2.2.1 ok'.2.2.2.2.2 hw).1
  ·rw[if_neg b,if_pos ((Y2r hc ok'.1 hw).1.mpr (by simpa using b))]
 | mix a =>
  have ac:a.toNat<c:=ok
  have e:=s w hw
  have e:MixAt f a.toNat w (f' w):=e
  unfold MixAt at e
  obtain⟨_,_,h3,h4,h5⟩:=Y2r hc ac hw
  show Vl (n+1) (root (add (sm (sg w a.toNat) (F w)) (F (fl w a.toNat)))) (f' w)
  unfold sg
  by_cases hb:w.testBit a.toNat=false
  ·have z:=h3.mpr hb
   obtain⟨_,_,l2,_⟩:=K63.X5u hc ac hw z
   rw[if_pos z] at e
   rw[if_neg (by rw[hb];decide),h4 hb,M72.Y7i]
   have:=(h _ hw).mix (h _ l2) e (af _ hw).nn (af _ l2).nn
   rw[M72.Y7i] at this
   exact this
  ·have hb':w.testBit a.toNat=true:=by simpa using hb
   have z:¬ w / 2^a.toNat%2=0:=λz=>hb (h3.mp z)
   have l2:w-2^a.toNat<2^c:=q2y (q9b _ _) hw
   rw[if_neg z] at e
   rw[if_pos hb',h5 hb',M72.add_comm]
   exact(h _ l2).mix (h _ hw) e (af _ l2).nn (af _ hw).nn
theorem Z6b {c:Nat}(hc:c<=6):∀ {row:List Mv}{n:Nat}{F:M72.Bv}{f f':Nat->A5},(∀ m∈row,VOk c m)->Ams c f->(∀ w,w<2^c->Vl n (F w) (f w))->Steps c (row.map gm) f f'->(∀ w,w<2^c->Vl (n+row.length) (rowop row F w) (f' w))/\Ams c f'
 | [],n,F,f,f',_,af,h,a=>by
  cases a
  exact⟨h,af⟩
 | m::row,n,F,f,f',ok,af,h,a=>by
  cases a with
  | cons a a' =>
   have okm:=ok m (.head _)
   have:=Z6b hc (row:=row) (λx hx=>ok x (.tail _ hx)) (a.ams hc (Y9u okm) af) (X6f hc okm af h a) a'
   rw[q3k,show n+(row.length+1)=n+1+row.length by omega]
   exact this
end K63S
namespace K63S
open L2 Ba Am Pc M71
open K63 (top Bs)
open M72 (fl sw VOk)
open M75 (Mk mvd Br)
noncomputable abbrev mkL (m:Mk):List V:=[.int (m.1:Nat),.int (m.2.1:Nat),.int (m.2.2:Nat)]
structure OkK (c:Nat) (m:Mk):Prop where
 k:m.1<4
 f:m.2.1<2^c
 s:m.2.2<2^c
theorem X8y (f a:Nat):(f&&&2^a)=if f.testBit a then 2^a else 0:=by
 apply q3b
 intro j
 rw[q2x,q2r]
 by_cases h:a=j
 ·subst h
  cases hb:f.testBit a<;>simp
 ·cases hb:f.testBit a<;>simp[h,q2r]
theorem tb (f a:Nat):(Builtin.bitAnd (f:Int) ((2^a:Nat):Int) != 0)=f.testBit a:=by
 rw[Z4q,X8y]
 cases f.testBit a
 ·rfl
 ·have h0:=q0o a
  have:((2^a:Nat):Int)≠0:=by omega
  exact bne_iff_ne.mpr this
theorem xb (f a:Nat):Builtin.bitXor (f:Int) ((2^a:Nat):Int)=((fl f a:Nat):Int):=Z4r f (2^a)
noncomputable abbrev mxF (a f s:Nat):Nat:=if f.testBit a=s.testBit a then f else fl f a
noncomputable abbrev mxS (a f s:Nat):Nat:=if f.testBit a=s.testBit a then s else fl s a
noncomputable abbrev mxI (f s b:Int):Int:=Builtin.bitOr (Builtin.bitAnd f (Builtin.bitNot b)) (Builtin.bitAnd s b)
noncomputable def mxOk (a f s:Nat):Bool :=
 decide (mxI f s ((2^a:Nat):Int)=(mxF a f s:Int)) && decide (mxI s f ((2^a:Nat):Int)=(mxS a f s:Int)) &&
 decide (((mxF a f s).testBit a && (mxS a f s).testBit a)=(f.testBit a && s.testBit a))
theorem W0v:((List.range 6).all λa=>(List.range 64).all λf=>(List.range 64).all λs=>mxOk a f s)=true:=by decide +kernel
theorem W3c {c a f s:Nat}(hc:c<=6)(ha:a<c)(hf:f<2^c)(hs:s<2^c):mxI f s ((2^a:Nat):Int)=(mxF a f s:Int)/\mxI s f ((2^a:Nat):Int)=(mxS a f s:Int)/\((mxF a f s).testBit a && (mxS a f s).testBit a)=(f.testBit a && s.testBit a):=by
 have h:=K63.get1 (K63.get1 (K63.get1 W0v (show a<6 by omega)) (w64 hc hf)) (w64 hc hs)
 unfold mxOk at h
 rw[q1g,q1g] at h
 exact⟨q1u h.1.1,q1u h.1.2,q1u h.2⟩
theorem tb2 (f s a:Nat):(Builtin.bitAnd (Builtin.bitAnd (f:Int) (s:Int)) ((2^a:Nat):Int) != 0)=(f.testBit a && s.testBit a):=by
 rw[Z4q,tb,q2x]
theorem Z5q {c f a:Nat}(hf:f<2^c)(ha:a<c):fl f a<2^c:=q1c hf (q2d (by decide) ha)
theorem X1i {c f a b:Nat}(hf:f<2^c)(ha:a<c)(hb:b<c):sw f a b<2^c:=by
 unfold sw
 split
 ·exact hf
 ·exact Z5q (Z5q hf ha) hb
theorem W0w {c:Nat}{x:Mv}{m:Mk}(o:VOk c x)(h:OkK c m):OkK c (mvd x m):=by
 obtain⟨k,f,s⟩:=m
 obtain⟨hk,hf,hs⟩:=h
 have ok:=Y9u o
 have k4:∀ n:Nat,n%4<4:=λn=>q1v _ (by decide)
 cases x with
 | flip a=>exact⟨by show (if _ then _ else _)<4;split;exact k4 _;exact hk,hf,hs⟩
 | mix a =>
  have ac:a.toNat<c:=ok
  exact⟨by show (if _ then _ else _)<4;split;exact k4 _;exact hk,by show (if _ then _ else _)<2^c;split;exact hf;exact Z5q hf ac,by show (if _ then _ else _)<2^c;split;exact hs;exact Z5q hs ac⟩
 | turn a j =>
  have ac:a.toNat<c/\_:=ok
  show OkK c (if _ then _ else _)
  split
  ·exact⟨k4 _,hf,by show (if _ then _ else _)<2^c;split;exact Z5q hs ac.1;exact hs⟩
  ·exact⟨hk,hf,hs⟩
 | iff a b =>
  have ac:a.toNat<c/\b.toNat<c/\_:=ok
  exact⟨hk,by show (if _ then _ else _)<2^c;split;exact Z5q hf ac.2.1;exact hf,by show (if _ then _ else _)<2^c;split;exact Z5q hs ac.1;exact hs⟩
 | pair a b =>
  have ac:a.toNat<c/\b.toNat<c/\_:=ok
  refine⟨by show (if _ then _ else _)<4;split;exact k4 _;exact hk,hf,?_⟩
  show (if _ then _ else _)<2^c
  split
  ·refine Z5q ?_ ac.1
   split
   ·exact Z5q hs ac.2.1
   ·exact hs
  ·split
   ·exact Z5q hs ac.2.1
   ·exact hs
 | swap a b =>
  have ac:a.toNat<c/\b.toNat<c/\_:=ok
  exact⟨hk,X1i hf ac.1 ac.2.1,X1i hs ac.1 ac.2.1⟩
 | cross a b d=>exact⟨hk,hf,hs⟩
abbrev Mkr (K:U0)(H:Hp)(Q:VK)(m:Mk):Prop:=∀ (r:W9) (H':Hp),Same H H'->H' r=some (.tup (mkL m))->Q (.ref r) H'
def Z8r (K:U0):Sp:=λvs H Q _=>∃ (p:W9) (m:Mk),vs=[.ref p]/\H p=some (.tup (mkL m))/\Mkr K H Q ((m.1+2)%4,m.2.1,m.2.2)
def Y7d (K:U0):Sp:=λvs H Q _=>∃ (p:W9) (m:Mk) (c a:Nat),vs=[.ref p,.int ((2^a:Nat):Int)]/\H p=some (.tup (mkL m))/\OkK c m/\c<=6/\a<c/\Mkr K H Q (mvd (.mix (a:Int)) m)
def Y3t (K:U0):Sp:=λvs H Q _=>∃ (p:W9) (m:Mk) (a j:Nat),vs=[.ref p,.int ((2^a:Nat):Int),.int (j:Int)]/\H p=some (.tup (mkL m))/\Mkr K H Q (mvd (.turn (a:Int) (j:Int)) m)
def spByIf (K:U0):Sp:=λvs H Q _=>∃ (p:W9) (m:Mk) (a b:Nat),vs=[.ref p,.int ((2^a:Nat):Int),.int ((2^b:Nat):Int)]/\H p=some (.tup (mkL m))/\Mkr K H Q (mvd (.iff (a:Int) (b:Int)) m)
def Y3u (K:U0):Sp:=λvs H Q _=>∃ (p:W9) (m:Mk) (a b:Nat),vs=[.ref p,.int ((2^a:Nat):Int),.int ((2^b:Nat):Int)]/\H p=some (.tup (mkL m))/\Mkr K H Q (mvd (.pair (a:Int) (b:Int)) m)
theorem k0 {x y z:V}:atI [x,y,z] 0=some x:=rfl
theorem k1 {x y z:V}:atI [x,y,z] 1=some y:=rfl
theorem k2 {x y z:V}:atI [x,y,z] 2=some z:=rfl
theorem Y8x (a k f s:Nat):mvd (.mix (a:Int)) (k,f,s)=(if f.testBit a && s.testBit a then (k+2)%4 else k,mxF a f s,mxS a f s):=rfl
theorem X2w (a j k f s:Nat):mvd (.turn (a:Int) (j:Int)) (k,f,s)=if f.testBit a then ((k+j / 2)%4,f,if j%4=2 then fl s a else s) else (k,f,s):=rfl
theorem X7w (a b k f s:Nat):mvd (.iff (a:Int) (b:Int)) (k,f,s)=(k,if f.testBit a then fl f b else f,if s.testBit b then fl s a else s):=rfl
noncomputable abbrev prS (a b f s:Nat):Nat:=if f.testBit b then fl (if f.testBit a then fl s b else s) a else if f.testBit a then fl s b else s
theorem X2x (a b k f s:Nat):mvd (.pair (a:Int) (b:Int)) (k,f,s)=(if f.testBit a && f.testBit b then (k+2)%4 else k,f,prS a b f s):=rfl
section
variable {P:U8}{w:W1}{K:U0}{mg:U4}{base:Heap}{k:Nat}{h:Heap}
theorem sc_about:FnScope ["mark"] ["mark"] (Z0i (top 24)):=fS
theorem X2u (F:FunAt K "turned_about" (top 24) .none)(X:K.In h)(G:Ng h mg):Cal P w K mg base (k+1) "turned_about" ["mark"] (Z8r K):=by
 have nd:=sc_about.nd
 refine F.cal X G sc_about (bnd1 λ_ _ _ _ _ _ _=>rfl) (λvs H Q E h=>?_) (λf cdv A outer s H vs Q E hr h=>?_)
 ·obtain⟨p,m,rfl,_⟩:=h;rfl
 obtain⟨p,⟨k,f,s⟩,rfl,S,q⟩:=h
 refine⟨_,(@Z0f _ _ _ (Z0k (@Z1a _ _ _ _ _ (Z0a (Z0h Z0v (Z0h Z1b (Z0m Z0j (pv 0) Z0b (λ_ _=>rfl)) Z0b) Z0b) (Z0a (Z0m Z0j (pv 0) Z0b (λ_ _=>rfl)) (Z0a (Z0m Z0j (pv 0) Z0b (λ_ _=>rfl)) Z0d)))))),?_⟩
 try dsimp only[cxK]
 refine⟨_,Z,p,_,_,.int k,Z,Z,SqT.of S,k0,_,_,Z,Z,_,_,Z,Z,(by show (0:Int)<_;decide),_,Z,p,_,_,.int f,Z,Z,SqT.of S,k1,_,Z,p,_,_,.int s,Z,Z,SqT.of S,k2,t3,λr hr=>q r _ (Z0g hr _) ?_⟩
 rw[Z0c]
 have e:((k:Int)+2)%4=(((k+2)%4:Nat):Int):=by omega
 show some (HO.tup [.int (((k:Int)+2)%4),.int f,.int s])=_
 rw[e]
theorem sc_bymix:FnScope ["mark","bit","flips","signs","moved"] ["mark","bit"] (Z0i (top 78)):=fS
theorem X2p (F:FunAt K "moved_by_mix" (top 78) .none)(X:K.In h)(G:Ng h mg)(cF:Cal P w K mg base k "turned_about" ["mark"] (Z8r K)):Cal P w K mg base (k+1) "moved_by_mix" ["mark","bit"] (Y7d K):=by
 have nd:=sc_bymix.nd
 refine F.cal X G sc_bymix (bnd2 λ_ _ _ _ _ _ _ _=>rfl) (λvs H Q E h=>?_) (λf cdv A outer s H vs Q E hr h=>?_)
 ·obtain⟨p,m,c,a,rfl,_⟩:=h;rfl
 obtain⟨p,⟨k,f,s⟩,c,a,rfl,S,o,c6,ac,q⟩:=h
 obtain⟨e1,e2,e3⟩:=W3c (f:=f) (s:=s) c6 ac o.f o.s
 refine⟨_,(@Z1c _ _ _ _ _ (@Z0q _ _ 2 _ _ _ _ nd rfl (Or.inl rfl) (Z0h Z9b (Z0h Z1d (Z0m Z0j (pv 0) Z0b (λ_ _=>rfl)) (Y2c X4i (pv 1))) (Z0h Z1d (Z0m Z0j (pv 0) Z0b (λ_ _=>rfl)) (pv 1))) rfl (.inl rfl))
  (@Z1c _ _ _ _ _ (@Z0q _ _ 3 _ _ _ _ nd rfl (Or.inl rfl) (Z0h Z9b (Z0h Z1d (Z0m Z0j (pv 0) Z0b (λ_ _=>rfl)) (Y2c X4i (pv 1))) (Z0h Z1d (Z0m Z0j (pv 0) Z0b (λ_ _=>rfl)) (pv 1))) rfl (.inl rfl))
  (@Z0e _ _ _ _ _ (@Z0q _ _ 4 _ _ _ _ nd rfl (Or.inl rfl) (@Z1a _ _ _ _ _ (Z0a (Z0m Z0j (pv 0) Z0b (λ_ _=>rfl)) (Z0a (pv 2) (Z0a (pv 3) Z0d)))) rfl (.inl rfl))
  (@Z0f _ _ _ (Z0k (Z2j (Z2m (Z0h Z1d (Z0h Z1d (pv 2) (pv 3)) (pv 1)) (by intro _;rfl)) (Z0l cF hr rfl (Z0a (pv 4) Z0d)) (pv 4))))))),?_⟩
 try dsimp only[cxK]
 refine⟨λσ' H'=>H=H'/\σ'=[some (.ref p),some (.int ((2^a:Nat):Int)),some (.int (mxF a f s:Nat)),none,none],?_,?_⟩
 ·exact⟨_,Z,p,_,_,.int f,Z,Z,SqT.of S,k1,_,Z,_,Z,_,_,Z,Z,_,Z,p,_,_,.int s,Z,Z,SqT.of S,k2,_,Z,_,_,Z,Z,_,_,Z,Z,Z,by rw[<-e1];rfl⟩
 rintro σ' _ ⟨rfl,rfl⟩
 refine⟨λσ' H'=>H=H'/\σ'=[some (.ref p),some (.int ((2^a:Nat):Int)),some (.int (mxF a f s:Nat)),some (.int (mxS a f s:Nat)),none],?_,?_⟩
 ·exact⟨_,Z,p,_,_,.int s,Z,Z,SqT.of S,k2,_,Z,_,Z,_,_,Z,Z,_,Z,p,_,_,.int f,Z,Z,SqT.of S,k1,_,Z,_,_,Z,Z,_,_,Z,Z,Z,by rw[<-e2];rfl⟩
 rintro σ' _ ⟨rfl,rfl⟩
 refine⟨_,Z,p,_,_,.int k,Z,Z,SqT.of S,k0,_,Z,_,Z,t3,λt ht=>?_⟩
 have S1:=Z0g ht (.tup (mkL (k,mxF a f s,mxS a f s)))
 have q1:upd H t (.tup (mkL (k,mxF a f s,mxS a f s))) t=some (.tup (mkL (k,mxF a f s,mxS a f s))):=Z0c
 refine⟨_,Z,_,Z,_,_,Z,Z,_,Z,_,_,Z,Z,_,Z,?_⟩
 rw[tb2,e3]
 refine blI (λz=>?_) (λz=>?_)
 ·refine⟨_,Z,t,(k,mxF a f s,mxS a f s),Z,q1,λr H2 S2 h2=>q r H2 (S1.trans S2) ?_⟩
  have:mvd (.mix (a:Int)) (k,f,s)=((k+2)%4,mxF a f s,mxS a f s):=by
   rw[Y8x,if_pos z]
  rw[this]
  exact h2
 ·refine⟨_,Z,q t _ S1 ?_⟩
  have:mvd (.mix (a:Int)) (k,f,s)=(k,mxF a f s,mxS a f s):=by
   rw[Y8x,if_neg (by rw[z];decide)]
  rw[this]
  exact q1
theorem sc_byturn:FnScope ["mark","bit","k","signs"] ["mark","bit","k"] (Z0i (top 79)):=fS
theorem Y8s (F:FunAt K "moved_by_turn" (top 79) .none)(X:K.In h)(G:Ng h mg):Cal P w K mg base (k+1) "moved_by_turn" ["mark","bit","k"] (Y3t K):=by
 have nd:=sc_byturn.nd
 refine F.cal X G sc_byturn (bnd3 λ_ _ _ _ _ _ _ _ _=>rfl) (λvs H Q E h=>?_) (λf cdv A outer s H vs Q E hr h=>?_)
 ·obtain⟨p,m,a,j,rfl,_⟩:=h;rfl
 obtain⟨p,⟨k,f,s⟩,a,j,rfl,S,q⟩:=h
 refine⟨_,(@Z0e _ _ _ _ _ (Z0w (Z1y (Z2m (Z0h Z1d (Z0m Z0j (pv 0) Z0b (λ_ _=>rfl)) (pv 1)) (by intro _;rfl)))
   (@Z0f _ _ _ (Z0k (pv 0)))
   Z0o)
  (@Z1c _ _ _ _ _ (@Z0q _ _ 3 _ _ _ _ nd rfl (Or.inl rfl) (Z2j (Z0n Z1k (Z0h Z0v (pv 2) Z0b) Z0b (nomark _)) (Z0h Z2v (Z0m Z0j (pv 0) Z0b (λ_ _=>rfl)) (pv 1)) (Z0m Z0j (pv 0) Z0b (λ_ _=>rfl))) rfl (.inl rfl))
  (@Z0f _ _ _ (Z0k (@Z1a _ _ _ _ _ (Z0a (Z0h Z0v (Z0h Z1b (Z0m Z0j (pv 0) Z0b (λ_ _=>rfl)) (Z0h Z1g (pv 2) Z0b)) Z0b) (Z0a (Z0m Z0j (pv 0) Z0b (λ_ _=>rfl)) (Z0a (pv 3) Z0d)))))))),?_⟩
 try dsimp only[cxK]
 refine⟨_,Z,p,_,_,.int f,Z,Z,SqT.of S,k1,_,Z,_,_,Z,Z,_,Z,?_⟩
 rw[tb]
 rw[X2w] at q
 refine nblI (λz=>?_) (λz=>?_)
 ·rw[if_neg (by rw[z];decide)] at q
  exact⟨_,Z,q p H (Same.refl _) S⟩
 rw[if_pos z] at q
 refine⟨λσ' H'=>H=H'/\σ'=[some (.ref p),some (.int ((2^a:Nat):Int)),some (.int (j:Int)),some (.int ((if j%4=2 then fl s a else s:Nat):Int))],?_,?_⟩
 ·refine⟨_,Z,_,_,Z,Z,(by show (0:Int)<_;decide),Z,_,Z,eqI (λy=>?_) (λy=>?_)⟩
  ·exact⟨_,Z,p,_,_,.int s,Z,Z,SqT.of S,k2,_,Z,_,_,Z,Z,Z,by rw[if_pos (by omega),<-xb];rfl⟩
  ·exact⟨_,Z,p,_,_,.int s,Z,Z,SqT.of S,k2,Z,by rw[if_neg (by omega)];rfl⟩
 rintro σ' _ ⟨rfl,rfl⟩
 refine⟨_,Z,p,_,_,.int k,Z,Z,SqT.of S,k0,_,Z,_,_,Z,Z,⟨by decide,by decide⟩,_,_,Z,Z,_,_,Z,Z,(by show (0:Int)<_;decide),_,Z,p,_,_,.int f,Z,Z,SqT.of S,k1,_,Z,t3,λr hr=>q r _ (Z0g hr _) ?_⟩
 rw[Z0c]
 have e:((k:Int)+(j:Int) / 2)%4=(((k+j / 2)%4:Nat):Int):=by omega
 show some (HO.tup [.int (((k:Int)+(j:Int) / 2)%4),.int f,.int ((if j%4=2 then fl s a else s:Nat):Int)])=_
 rw[e]
theorem sc_byif:FnScope ["mark","bit","other","flips","signs"] ["mark","bit","other"] (Z0i (top 80)):=fS
theorem X7m (F:FunAt K "moved_by_if" (top 80) .none)(X:K.In h)(G:Ng h mg):Cal P w K mg base (k+1) "moved_by_if" ["mark","bit","other"] (spByIf K):=by
 have nd:=sc_byif.nd
 refine F.cal X G sc_byif (bnd3 λ_ _ _ _ _ _ _ _ _=>rfl) (λvs H Q E h=>?_) (λf cdv A outer s H vs Q E hr h=>?_)
 ·obtain⟨p,m,a,j,rfl,_⟩:=h;rfl
 obtain⟨p,⟨k,f,s⟩,a,b,rfl,S,q⟩:=h
 rw[X7w] at q
 refine⟨_,(@Z1c _ _ _ _ _ (@Z0q _ _ 3 _ _ _ _ nd rfl (Or.inl rfl) (Z2j (Z2m (Z0h Z1d (Z0m Z0j (pv 0) Z0b (λ_ _=>rfl)) (pv 1)) (by intro _;rfl)) (Z0h Z2v (Z0m Z0j (pv 0) Z0b (λ_ _=>rfl)) (pv 2)) (Z0m Z0j (pv 0) Z0b (λ_ _=>rfl))) rfl (.inl rfl))
  (@Z1c _ _ _ _ _ (@Z0q _ _ 4 _ _ _ _ nd rfl (Or.inl rfl) (Z2j (Z2m (Z0h Z1d (Z0m Z0j (pv 0) Z0b (λ_ _=>rfl)) (pv 2)) (by intro _;rfl)) (Z0h Z2v (Z0m Z0j (pv 0) Z0b (λ_ _=>rfl)) (pv 1)) (Z0m Z0j (pv 0) Z0b (λ_ _=>rfl))) rfl (.inl rfl))
  (@Z0f _ _ _ (Z0k (@Z1a _ _ _ _ _ (Z0a (Z0m Z0j (pv 0) Z0b (λ_ _=>rfl)) (Z0a (pv 3) (Z0a (pv 4) Z0d)))))))),?_⟩
 try dsimp only[cxK]
 refine⟨λσ' H'=>H=H'/\σ'=[some (.ref p),some (.int ((2^a:Nat):Int)),some (.int ((2^b:Nat):Int)),some (.int ((if f.testBit a then fl f b else f:Nat):Int)),none],?_,?_⟩
 ·refine⟨_,Z,p,_,_,.int f,Z,Z,SqT.of S,k1,_,Z,_,_,Z,Z,_,Z,?_⟩
  rw[tb]
  refine blI (λz=>?_) (λz=>?_)
  ·exact⟨_,Z,p,_,_,.int f,Z,Z,SqT.of S,k1,_,Z,_,_,Z,Z,Z,by rw[if_pos z,<-xb];rfl⟩
  ·exact⟨_,Z,p,_,_,.int f,Z,Z,SqT.of S,k1,Z,by rw[if_neg (by rw[z];decide)];rfl⟩
 rintro σ' _ ⟨rfl,rfl⟩
 refine⟨λσ' H'=>H=H'/\σ'=[some (.ref p),some (.int ((2^a:Nat):Int)),some (.int ((2^b:Nat):Int)),some (.int ((if f.testBit a then fl f b else f:Nat):Int)),some (.int ((if s.testBit b then fl s a else s:Nat):Int))],?_,?_⟩
 ·refine⟨_,Z,p,_,_,.int s,Z,Z,SqT.of S,k2,_,Z,_,_,Z,Z,_,Z,?_⟩
  rw[tb]
  refine blI (λz=>?_) (λz=>?_)
  ·exact⟨_,Z,p,_,_,.int s,Z,Z,SqT.of S,k2,_,Z,_,_,Z,Z,Z,by rw[if_pos z,<-xb];rfl⟩
  ·exact⟨_,Z,p,_,_,.int s,Z,Z,SqT.of S,k2,Z,by rw[if_neg (show ¬ s.testBit b=true by rw[z];decide)];rfl⟩
 rintro σ' _ ⟨rfl,rfl⟩
 exact⟨_,Z,p,_,_,.int k,Z,Z,SqT.of S,k0,_,Z,_,Z,t3,λr hr=>q r _ (Z0g hr _) Z0c⟩
theorem sc_bypair:FnScope ["mark","bit","other","signs","moved"] ["mark","bit","other"] (Z0i (top 81)):=fS
theorem Y8t (F:FunAt K "moved_by_pair" (top 81) .none)(X:K.In h)(G:Ng h mg)(cF:Cal P w K mg base k "turned_about" ["mark"] (Z8r K)):Cal P w K mg base (k+1) "moved_by_pair" ["mark","bit","other"] (Y3u K):=by
 have nd:=sc_bypair.nd
 refine F.cal X G sc_bypair (bnd3 λ_ _ _ _ _ _ _ _ _=>rfl) (λvs H Q E h=>?_) (λf cdv A outer s H vs Q E hr h=>?_)
 ·obtain⟨p,m,a,j,rfl,_⟩:=h;rfl
 obtain⟨p,⟨k,f,s⟩,a,b,rfl,S,q⟩:=h
 rw[X2x] at q
 refine⟨_,(@Z0e _ _ _ _ _ (@Z0q _ _ 3 _ _ _ _ nd rfl (Or.inl rfl) (Z0m Z0j (pv 0) Z0b (λ_ _=>rfl)) rfl (.inl rfl))
  (@Z1c _ _ _ _ _ (Z0w (Z2m (Z0h Z1d (Z0m Z0j (pv 0) Z0b (λ_ _=>rfl)) (pv 1)) (by intro _;rfl))
   (@Z0f _ _ _ (@Z0q _ _ 3 _ _ _ _ nd rfl (Or.inl rfl) (Z0h Z2v (pv 3) (pv 2)) rfl (.inl rfl)))
   Z0o)
  (@Z1c _ _ _ _ _ (Z0w (Z2m (Z0h Z1d (Z0m Z0j (pv 0) Z0b (λ_ _=>rfl)) (pv 2)) (by intro _;rfl))
   (@Z0f _ _ _ (@Z0q _ _ 3 _ _ _ _ nd rfl (Or.inl rfl) (Z0h Z2v (pv 3) (pv 1)) rfl (.inl rfl)))
   Z0o)
  (@Z0e _ _ _ _ _ (@Z0q _ _ 4 _ _ _ _ nd rfl (Or.inl rfl) (@Z1a _ _ _ _ _ (Z0a (Z0m Z0j (pv 0) Z0b (λ_ _=>rfl)) (Z0a (Z0m Z0j (pv 0) Z0b (λ_ _=>rfl)) (Z0a (pv 3) Z0d)))) rfl (.inl rfl))
  (@Z0f _ _ _ (Z0k (Z2j (PW.pt (Y0m (Z2m (Z0h Z1d (Z0m Z0j (pv 0) Z0b (λ_ _=>rfl)) (pv 1)) (by intro _;rfl)) (Z6w (Z2m (Z0h Z1d (Z0m Z0j (pv 0) Z0b (λ_ _=>rfl)) (pv 2)) (by intro _;rfl))))) (Z0l cF hr rfl (Z0a (pv 4) Z0d)) (pv 4)))))))),?_⟩
 try dsimp only[cxK]
 refine⟨_,Z,p,_,_,.int s,Z,Z,SqT.of S,k2,?_⟩
 refine⟨λσ' H'=>H=H'/\σ'=[some (.ref p),some (.int ((2^a:Nat):Int)),some (.int ((2^b:Nat):Int)),some (.int ((if f.testBit a then fl s b else s:Nat):Int)),none],?_,?_⟩
 ·refine⟨_,Z,p,_,_,.int f,Z,Z,SqT.of S,k1,_,Z,_,_,Z,Z,_,Z,?_⟩
  rw[tb]
  refine blI (λz=>?_) (λz=>?_)
  ·exact⟨_,Z,_,Z,_,_,Z,Z,Z,by rw[if_pos z,<-xb];rfl⟩
  ·exact⟨Z,by rw[if_neg (by rw[z];decide)];rfl⟩
 rintro σ' _ ⟨rfl,rfl⟩
 refine⟨λσ' H'=>H=H'/\σ'=[some (.ref p),some (.int ((2^a:Nat):Int)),some (.int ((2^b:Nat):Int)),some (.int (prS a b f s:Nat)),none],?_,?_⟩
 ·refine⟨_,Z,p,_,_,.int f,Z,Z,SqT.of S,k1,_,Z,_,_,Z,Z,_,Z,?_⟩
  rw[tb]
  refine blI (λz=>?_) (λz=>?_)
  ·exact⟨_,Z,_,Z,_,_,Z,Z,Z,by rw[prS,if_pos z,<-xb];rfl⟩
  ·exact⟨Z,by rw[prS,if_neg (show ¬ f.testBit b=true by rw[z];decide)]⟩
 rintro σ' _ ⟨rfl,rfl⟩
 refine⟨_,Z,p,_,_,.int k,Z,Z,SqT.of S,k0,_,Z,p,_,_,.int f,Z,Z,SqT.of S,k1,_,Z,t3,λt ht=>?_⟩
 have S1:=Z0g ht (.tup (mkL (k,f,prS a b f s)))
 have q1:upd H t (.tup (mkL (k,f,prS a b f s))) t=some (.tup (mkL (k,f,prS a b f s))):=Z0c
 have SS:SqT K _ p (mkL (k,f,s)):=SqT.of (S1 _ _ S)
 refine⟨_,Z,p,_,_,.int f,Z,Z,SS,k1,_,Z,_,_,Z,Z,_,Z,?_⟩
 rw[tb]
 refine blI (λz=>?_) (λz=>?_)
 ·refine⟨_,Z,p,_,_,.int f,Z,Z,SS,k1,_,Z,_,_,Z,Z,_,Z,?_⟩
  rw[tb]
  refine blI (λy=>?_) (λy=>?_)
  ·rw[if_pos (by rw[z,y];rfl)] at q
   exact⟨_,Z,t,(k,f,prS a b f s),Z,q1,λr H2 S2 h2=>q r H2 (S1.trans S2) h2⟩
  ·rw[if_neg (by rw[z,y];decide)] at q
   exact⟨_,Z,q t _ S1 q1⟩
 ·rw[if_neg (by rw[z];simp)] at q
  exact iteF ⟨_,Z,q t _ S1 q1⟩
end
end K63S
namespace K63S
open L2 Ba Am Pc M71
open K63 (top Bs spExch)
open M72 (fl sw VOk)
open M75 (Mk mvd mvds Br)
def Y0d (K:U0):Sp:=λvs H Q _=>∃ (p q:W9) (m:Mk) (x:Mv) (c:Nat),vs=[.ref p,.ref q]/\H p=some (.tup (mkL m))/\H q=some (mT (mm x))/\OkK c m/\c<=6/\VOk c x/\Br x/\Mkr K H Q (mvd x m)
def Y0c (K:U0):Sp:=λvs H Q _=>∃ (p l:W9) (m:Mk) (row:List Mv) (c:Nat),vs=[.ref p,.ref l]/\H p=some (.tup (mkL m))/\RowAt H l row/\OkK c m/\c<=6/\(∀ x∈row,VOk c x)/\(∀ x∈row,Br x)/\row.length<=200/\Mkr K H Q (mvds row m)
theorem at0 {x:V}{xs:List V}:atI (x::xs) 0=some x:=L2.Z3m (j:=0) rfl
theorem X1k {a:Int}(h0:0<=a):(1:Int)*2^a.toNat=((2^a.toNat:Nat):Int):=by simp
theorem X2y (a k f s:Nat):mvd (.flip (a:Int)) (k,f,s)=(if s.testBit a then (k+2)%4 else k,f,s):=rfl
theorem Z5b:∀ (r t:List Mv) (m:Mk),mvds (r++t) m=mvds t (mvds r m)
 | [],_,_=>rfl
 | x::r,t,m=>Z5b r t (mvd x m)
theorem Z5n {c:Nat}:∀ {row:List Mv}{m:Mk},(∀ x∈row,VOk c x)->OkK c m->OkK c (mvds row m)
 | [],_,_,h=>h
 | x::r,m,o,h=>Z5n (row:=r) (λy hy=>o y (.tail _ hy)) (W0w (o x (.head _)) h)
theorem Z8v {H:Hp}:∀ {ps:U3}{ms:List Mm},RowsM H ps ms->ps.length=ms.length
 | [],[],.nil=>rfl
 | _::_,_::_,.cons _ r=>by rw[q3k,q3k,Z8v r]
theorem Z8w {H:Hp}:∀ {ps:U3}{row:List Mv}{i:Nat}{p:W9},RowsM H ps (row.map mm)->ps[i]?=some p->∃ m,row[i]?=some m/\H p=some (mT (mm m))
 | p'::ps,m::ms,0,p,.cons a r,h=>by
  have:p'=p:=by simpa using h
  subst this
  exact⟨m,Z,a⟩
 | p'::ps,m::ms,i+1,p,.cons a r,h=>by
  obtain⟨m',b,c⟩:=Z8w (ps:=ps) (row:=ms) (i:=i) (p:=p) r (by simpa using h)
  exact⟨m',b,c⟩
section
variable {P:U8}{w:W1}{K:U0}{mg:U4}{base:Heap}{k:Nat}{h:Heap}
theorem sc_movedby:FnScope ["mark","move","bit","other"] ["mark","move"] (Z0i (top 77)):=fS
theorem Y5r (F:FunAt K "moved_by" (top 77) .none)(X:K.In h)(G:Ng h mg)(cF:Cal P w K mg base k "turned_about" ["mark"] (Z8r K))(dJ:Cal P w K mg base k "moved_by_mix" ["mark","bit"] (Y7d K))(dD:Cal P w K mg base k "moved_by_turn" ["mark","bit","k"] (Y3t K))
  (dQ:Cal P w K mg base k "moved_by_if" ["mark","bit","other"] (spByIf K)) (dC:Cal P w K mg base k "moved_by_pair" ["mark","bit","other"] (Y3u K)) (cI:Cal P w K mg base k "exchanged" ["word","bit","other"] spExch):Cal P w K mg base (k+1) "moved_by" ["mark","move"] (Y0d K):=by
 have nd:=sc_movedby.nd
 refine F.cal X G sc_movedby (bnd2 λ_ _ _ _ _ _ _ _=>rfl) (λvs H Q E h=>?_) (λf cdv A outer s H vs Q E hr h=>?_)
 ·obtain⟨p,q,m,x,c,rfl,_⟩:=h;rfl
 obtain⟨p,q,⟨k,f,s⟩,x,c,rfl,S,hq,o,c6,ok,br,kq⟩:=h
 have SP:SqT K H q (.str (nm x)::(ns x).map V.int):=SqT.of hq
 obtain⟨g0,g1⟩:0<=hd x/\hd x<(c:Int):=by
  obtain⟨r,e⟩:=Y6e x
  have hm:hd x∈x.cells:=by rw[e];exact .head _
  exact⟨ok.1.nn _ hm,ok.2 _ hm⟩
 refine⟨_,(@Z1c _ _ _ _ _ (@Z0q _ _ 2 _ _ _ _ nd rfl (Or.inl rfl) (Z0h Z1t Z0b (Z0m Z0j (pv 1) Z0b (λ_ _=>rfl))) rfl (.inl rfl))
  (@Z0e _ _ _ _ _ (Z0w (Z0n Z1k (Z0m Z0j (pv 1) Z0b (λ_ _=>rfl)) Z1l (nomark _))
   (@Z0f _ _ _ (Z0k (Z2j (Z2m (Z0h Z1d (Z0m Z0j (pv 0) Z0b (λ_ _=>rfl)) (pv 2)) (by intro _;rfl)) (Z0l cF hr rfl (Z0a (pv 0) Z0d)) (pv 0))))
   Z0o)
  (@Z0e _ _ _ _ _ (Z0w (Z0n Z1k (Z0m Z0j (pv 1) Z0b (λ_ _=>rfl)) Z1l (nomark _))
   (@Z0f _ _ _ (Z0k (Z0l dJ hr rfl (Z0a (pv 0) (Z0a (pv 2) Z0d)))))
   Z0o)
  (@Z0e _ _ _ _ _ (Z0w (Z0n Z1k (Z0m Z0j (pv 1) Z0b (λ_ _=>rfl)) Z1l (nomark _))
   (@Z0f _ _ _ (Z0k (Z0l dD hr rfl (Z0a (pv 0) (Z0a (pv 2) (Z0a (Z0m Z0j (pv 1) Z0b (λ_ _=>rfl)) Z0d))))))
   Z0o)
  (@Z1c _ _ _ _ _ (@Z0q _ _ 3 _ _ _ _ nd rfl (Or.inl rfl) (Z0h Z1t Z0b (Z0m Z0j (pv 1) Z0b (λ_ _=>rfl))) rfl (.inl rfl))
  (@Z0e _ _ _ _ _ (Z0w (Z0n Z1k (Z0m Z0j (pv 1) Z0b (λ_ _=>rfl)) Z1l (nomark _))
   (@Z0f _ _ _ (Z0k (Z0l dQ hr rfl (Z0a (pv 0) (Z0a (pv 2) (Z0a (pv 3) Z0d))))))
   Z0o)
  (@Z0e _ _ _ _ _ (Z0w (Z0n Z1k (Z0m Z0j (pv 1) Z0b (λ_ _=>rfl)) Z1l (nomark _))
   (@Z0f _ _ _ (Z0k (Z0l dC hr rfl (Z0a (pv 0) (Z0a (pv 2) (Z0a (pv 3) Z0d))))))
   Z0o)
  (@Z0f _ _ _ (Z0k (@Z1a _ _ _ _ _ (Z0a (Z0m Z0j (pv 0) Z0b (λ_ _=>rfl)) (Z0a (Z0l cI hr rfl (Z0a (Z0m Z0j (pv 0) Z0b (λ_ _=>rfl)) (Z0a (pv 2) (Z0a (pv 3) Z0d)))) (Z0a (Z0l cI hr rfl (Z0a (Z0m Z0j (pv 0) Z0b (λ_ _=>rfl)) (Z0a (pv 2) (Z0a (pv 3) Z0d)))) Z0d))))))))))))),?_⟩
 try dsimp only[cxK]
 refine⟨λσ' H'=>H=H'/\σ'=[some (.ref p),some (.ref q),some (.int ((2^(hd x).toNat:Nat):Int)),none],?_,?_⟩
 ·exact⟨_,Z,q,_,_,.int (hd x),Z,Z,SP,at1m x,_,_,Z,Z,⟨1,sz1,by omega,by omega⟩,Z,by rw[<-X1k g0];rfl⟩
 rintro σ' _ ⟨rfl,rfl⟩
 cases x with
 | flip a =>
  obtain⟨A,rfl⟩:∃ A:Nat,a=(A:Int):=⟨a.toNat,(tn g0).symm⟩
  rw[X2y] at kq
  refine⟨_,Z,q,_,_,.str "flip",Z,Z,SP,at0,Z,_,Z,decI (λ_=>?_) (λz=>absurd rfl z)⟩
  refine⟨_,Z,p,_,_,.int s,Z,Z,SqT.of S,k2,_,Z,_,_,Z,Z,_,Z,?_⟩
  show (if (Builtin.bitAnd (s:Int) ((2^A:Nat):Int) != 0)=true then _ else _)
  rw[tb]
  refine blI (λz=>?_) (λz=>?_)
  ·rw[if_pos z] at kq
   exact⟨_,Z,p,(k,f,s),Z,S,kq⟩
  ·rw[if_neg (by rw[z];decide)] at kq
   exact⟨_,Z,kq p H (Same.refl _) S⟩
 | mix a =>
  obtain⟨A,rfl⟩:∃ A:Nat,a=(A:Int):=⟨a.toNat,(tn g0).symm⟩
  refine⟨_,Z,q,_,_,.str "mix",Z,Z,SP,at0,Z,_,Z,decI (λz=>absurd (V.str.inj z) (by decide)) (λ_=>?_)⟩
  refine⟨_,Z,q,_,_,.str "mix",Z,Z,SP,at0,Z,_,Z,decI (λ_=>?_) (λz=>absurd rfl z)⟩
  exact⟨_,Z,_,Z,p,(k,f,s),c,A,Z,S,o,c6,by have:(A:Int)<c:=g1;omega,kq⟩
 | turn a j =>
  have okj:0<=a/\1<=j/\j<=7:=ok.1
  obtain⟨A,rfl⟩:∃ A:Nat,a=(A:Int):=⟨a.toNat,(tn g0).symm⟩
  obtain⟨J,rfl⟩:∃ J:Nat,j=(J:Int):=⟨j.toNat,(tn (by omega)).symm⟩
  refine⟨_,Z,q,_,_,.str "turn",Z,Z,SP,at0,Z,_,Z,decI (λz=>absurd (V.str.inj z) (by decide)) (λ_=>?_)⟩
  refine⟨_,Z,q,_,_,.str "turn",Z,Z,SP,at0,Z,_,Z,decI (λz=>absurd (V.str.inj z) (by decide)) (λ_=>?_)⟩
  refine⟨_,Z,q,_,_,.str "turn",Z,Z,SP,at0,Z,_,Z,decI (λ_=>?_) (λz=>absurd rfl z)⟩
  exact⟨_,Z,_,Z,_,Z,q,_,_,.int J,Z,Z,SP,k2,p,(k,f,s),A,J,Z,S,kq⟩
 | iff a b =>
  have okj:0<=a/\0<=b/\a≠b:=ok.1
  have hb:b<(c:Int):=ok.2 b (by simp[Mv.cells])
  obtain⟨A,rfl⟩:∃ A:Nat,a=(A:Int):=⟨a.toNat,(tn g0).symm⟩
  obtain⟨J,rfl⟩:∃ J:Nat,b=(J:Int):=⟨b.toNat,(tn okj.2.1).symm⟩
  refine⟨_,Z,q,_,_,.str "if",Z,Z,SP,at0,Z,_,Z,decI (λz=>absurd (V.str.inj z) (by decide)) (λ_=>?_)⟩
  refine⟨_,Z,q,_,_,.str "if",Z,Z,SP,at0,Z,_,Z,decI (λz=>absurd (V.str.inj z) (by decide)) (λ_=>?_)⟩
  refine⟨_,Z,q,_,_,.str "if",Z,Z,SP,at0,Z,_,Z,decI (λz=>absurd (V.str.inj z) (by decide)) (λ_=>?_)⟩
  refine⟨λσ' H'=>H=H'/\σ'=[some (.ref p),some (.ref q),some (.int ((2^A:Nat):Int)),some (.int ((2^J:Nat):Int))],?_,?_⟩
  ·exact⟨_,Z,q,_,_,.int J,Z,Z,SP,k2,_,_,Z,Z,⟨1,sz1,by omega,by omega⟩,Z,by rw[<-ipow J];rfl⟩
  rintro σ' _ ⟨rfl,rfl⟩
  refine⟨_,Z,q,_,_,.str "if",Z,Z,SP,at0,Z,_,Z,decI (λ_=>?_) (λz=>absurd rfl z)⟩
  exact⟨_,Z,_,Z,_,Z,p,(k,f,s),A,J,Z,S,kq⟩
 | pair a b =>
  have okj:0<=a/\0<=b/\a≠b:=ok.1
  have hb:b<(c:Int):=ok.2 b (by simp[Mv.cells])
  obtain⟨A,rfl⟩:∃ A:Nat,a=(A:Int):=⟨a.toNat,(tn g0).symm⟩
  obtain⟨J,rfl⟩:∃ J:Nat,b=(J:Int):=⟨b.toNat,(tn okj.2.1).symm⟩
  refine⟨_,Z,q,_,_,.str "pair",Z,Z,SP,at0,Z,_,Z,decI (λz=>absurd (V.str.inj z) (by decide)) (λ_=>?_)⟩
  refine⟨_,Z,q,_,_,.str "pair",Z,Z,SP,at0,Z,_,Z,decI (λz=>absurd (V.str.inj z) (by decide)) (λ_=>?_)⟩
  refine⟨_,Z,q,_,_,.str "pair",Z,Z,SP,at0,Z,_,Z,decI (λz=>absurd (V.str.inj z) (by decide)) (λ_=>?_)⟩
  refine⟨λσ' H'=>H=H'/\σ'=[some (.ref p),some (.ref q),some (.int ((2^A:Nat):Int)),some (.int ((2^J:Nat):Int))],?_,?_⟩
  ·exact⟨_,Z,q,_,_,.int J,Z,Z,SP,k2,_,_,Z,Z,⟨1,sz1,by omega,by omega⟩,Z,by rw[<-ipow J];rfl⟩
  rintro σ' _ ⟨rfl,rfl⟩
  refine⟨_,Z,q,_,_,.str "pair",Z,Z,SP,at0,Z,_,Z,decI (λz=>absurd (V.str.inj z) (by decide)) (λ_=>?_)⟩
  refine⟨_,Z,q,_,_,.str "pair",Z,Z,SP,at0,Z,_,Z,decI (λ_=>?_) (λz=>absurd rfl z)⟩
  exact⟨_,Z,_,Z,_,Z,p,(k,f,s),A,J,Z,S,kq⟩
 | swap a b =>
  have okj:0<=a/\0<=b/\a≠b:=ok.1
  have hb:b<(c:Int):=ok.2 b (by simp[Mv.cells])
  obtain⟨A,rfl⟩:∃ A:Nat,a=(A:Int):=⟨a.toNat,(tn g0).symm⟩
  obtain⟨J,rfl⟩:∃ J:Nat,b=(J:Int):=⟨b.toNat,(tn okj.2.1).symm⟩
  refine⟨_,Z,q,_,_,.str "swap",Z,Z,SP,at0,Z,_,Z,decI (λz=>absurd (V.str.inj z) (by decide)) (λ_=>?_)⟩
  refine⟨_,Z,q,_,_,.str "swap",Z,Z,SP,at0,Z,_,Z,decI (λz=>absurd (V.str.inj z) (by decide)) (λ_=>?_)⟩
  refine⟨_,Z,q,_,_,.str "swap",Z,Z,SP,at0,Z,_,Z,decI (λz=>absurd (V.str.inj z) (by decide)) (λ_=>?_)⟩
  refine⟨λσ' H'=>H=H'/\σ'=[some (.ref p),some (.ref q),some (.int ((2^A:Nat):Int)),some (.int ((2^J:Nat):Int))],?_,?_⟩
  ·exact⟨_,Z,q,_,_,.int J,Z,Z,SP,k2,_,_,Z,Z,⟨1,sz1,by omega,by omega⟩,Z,by rw[<-ipow J];rfl⟩
  rintro σ' _ ⟨rfl,rfl⟩
  refine⟨_,Z,q,_,_,.str "swap",Z,Z,SP,at0,Z,_,Z,decI (λz=>absurd (V.str.inj z) (by decide)) (λ_=>?_)⟩
  refine⟨_,Z,q,_,_,.str "swap",Z,Z,SP,at0,Z,_,Z,decI (λz=>absurd (V.str.inj z) (by decide)) (λ_=>?_)⟩
  have ac:A<c:=by have:(A:Int)<c:=g1;omega
  have bc:J<c:=by omega
  have ne:A≠J:=λz=>okj.2.2 (by rw[z])
  refine⟨_,Z,p,_,_,.int k,Z,Z,SqT.of S,k0,_,Z,p,_,_,.int f,Z,Z,SqT.of S,k1,_,Z,_,Z,f,A,J,Z,λH1 S1=>?_⟩
  refine⟨_,Z,p,_,_,.int s,Z,Z,SqT.of (S1 _ _ S),k2,_,Z,_,Z,s,A,J,Z,λH2 S2=>⟨t3,λr hr=>kq r _ ((S1.trans S2).trans (Z0g hr _)) ?_⟩⟩
  rw[Z0c,(Y6c c6 ac bc ne o.f).1,(Y6c c6 ac bc ne o.s).1]
  rfl
 | cross a b d=>exact absurd br id
theorem sc_through:FnScope ["mark","row","behind","move"] ["mark","row"] (Z0i (top 76)):=fS
theorem Y5o (F:FunAt K "moved_through" (top 76) .none)(X:K.In h)(G:Ng h mg)(eJ:Cal P w K mg base k "moved_by" ["mark","move"] (Y0d K)):Cal P w K mg base (k+1) "moved_through" ["mark","row"] (Y0c K):=by
 have nd:=sc_through.nd
 refine F.cal X G sc_through (bnd2 λ_ _ _ _ _ _ _ _=>rfl) (λvs H Q E h=>?_) (λf cdv A outer s H vs Q E hr h=>?_)
 ·obtain⟨p,q,m,x,c,rfl,_⟩:=h;rfl
 obtain⟨p,l,m,row,c,rfl,S,⟨ps,hl,hrow⟩,o,c6,ok,br,l200,kq⟩:=h
 have SL:SqL K H l (ps.map V.ref):=SqL.of hl
 have pl:ps.length=row.length:=by have:=Z8v hrow;rw[q0a] at this;exact this
 refine⟨_,(@Z0e _ _ _ _ _ (@Z0q _ _ 2 _ _ _ _ nd rfl (Or.inl rfl) (pv 0) rfl (.inl rfl))
  (@Z0e _ _ _ _ _ (Z1v PassesOwn.never rfl (Z1e (pv 1)) (Z0p (i:=3) nd rfl (Or.inl rfl))
   (@Z0f _ _ _ (@Z0q _ _ 2 _ _ _ _ nd rfl (Or.inl rfl) (Z0l eJ hr rfl (Z0a (pv 2) (Z0a (pv 3) Z0d))) rfl (.inl rfl))))
  (@Z0f _ _ _ (Z0k (pv 2))))),?_⟩
 try dsimp only[cxK]
 refine⟨_,Z,_,Z,l,Z,⟨_,SL⟩,Z2x (K:=K) (a:=l) (xs:=ps.map V.ref) (λi σ H'=>Same H H'/\∃ (b:W9) (v3:Option V),H' b=some (.tup (mkL (mvds (row.take i) m)))/\σ=[some (.ref p),some (.ref l),some (.ref b),v3])
  ⟨Same.refl _,p,none,by rw[q5b];exact S,Z⟩ (λi σ H' _ e=>e.1.seq SL) ?_ ?_⟩
 ·rintro i x σ H1 hx ⟨S1,b,v3,hb,rfl⟩
  rw[q0c] at hx
  obtain⟨q,hq,rfl⟩:=q0h.mp hx
  obtain⟨y,hy,ey⟩:=Z8w hrow hq
  have hm:y∈row:=q0y hy
  refine⟨_,Z,_,Z,b,q,_,y,c,Z,hb,S1 _ _ ey,Z5n (λz hz=>ok z (List.mem_of_mem_take hz)) o,c6,ok y hm,br y hm,λr H2 S2 h2=>⟨S1.trans S2,r,_,?_,Z⟩⟩
  rw[q1m,hy,q1w,Z5b]
  exact h2
 ·rintro σ H1 ⟨S1,b,v3,hb,rfl⟩
  rw[q0a,pl,q2e] at hb
  exact⟨_,Z,kq b H1 S1 hb⟩
end
end K63S
namespace K63S
open L2 Ba Am Pc M71
open K63 (top Bs)
open M72 (fl sw VOk)
open M75 (Mk mvd mvds Br)
noncomputable def oddT:Mv->Bool
 | .turn _ j=>decide (V.int (j%2)=V.int 1)
 | _=>false
noncomputable def brB:Mv->Bool
 | .cross _ _ _=>false
 | x=>!oddT x
def spOdd:Sp:=λvs H Q _=>∃ (p:W9) (x:Mv),vs=[.ref p]/\H p=some (mT (mm x))/\Q (.bl (oddT x)) H
def spIsBr:Sp:=λvs H Q _=>∃ (p:W9) (x:Mv),vs=[.ref p]/\H p=some (mT (mm x))/\Q (.bl (brB x)) H
theorem X5w {x:Mv}(e:nm x="turn"):∃ a j,x=.turn a j:=by
 have:=(X8i x).mp e
 cases x<;>first | exact⟨_,_,Z⟩ | simp[code] at this
theorem X7q {x:Mv}(e:nm x≠"turn"):oddT x=false:=by cases x<;>first | rfl | exact absurd rfl e
theorem X3u {x:Mv}(e:nm x="cross"):brB x=false:=by
 have:=(X3g x).mp e
 cases x<;>first | rfl | simp[code] at this
theorem W2g {x:Mv}(e:nm x≠"cross"):brB x=!oddT x:=by cases x<;>first | rfl | exact absurd rfl e
theorem W2h {x:Mv}(o:M72.Ok x):brB x=true ↔ Br x:=by
 cases x with
 | turn a j =>
  have:0<=a/\1<=j/\j<=7:=o
  show (!decide (V.int (j%2)=V.int 1))=true ↔ j.toNat%2=0
  by_cases h:j%2=1
  ·rw[q1f (by rw[h])]
   simp
   omega
  ·rw[q0w (λz=>h (V.int.inj z))]
   simp
   omega
 | cross a b d=>exact⟨λz=>(nomatch z),λz=>z.elim⟩
 | _=>exact⟨λ_=>trivial,λ_=>rfl⟩
noncomputable def fst:List Mv->Option Nat
 | []=>none
 | x::r=>if brB x then (fst r).map (·+1) else some 0
noncomputable def oV:Option Nat->V
 | none=>.non
 | some n=>.int n
def Y7e:Sp:=λvs H Q _=>∃ (l:W9) (row:List Mv),vs=[.ref l]/\RowAt H l row/\row.length<=200/\∀ H',Same H H'->Q (oV (fst row)) H'
theorem X5f:∀ {row:List Mv}{i:Nat}{x:Mv},(∀ y∈row.take i,brB y=true)->row[i]?=some x->brB x=false->fst row=some i
 | y::r,0,x,_,hx,hb=>by
  have:y=x:=by simpa using hx
  subst this
  show (if brB y then _ else some 0)=_
  rw[if_neg (by rw[hb];decide)]
 | y::r,i+1,x,h,hx,hb=>by
  have hy:=h y (by rw[List.take_succ_cons];exact .head _)
  show (if brB y then (fst r).map (·+1) else some 0)=_
  rw[if_pos hy,X5f (row:=r) (i:=i) (x:=x) (λz hz=>h z (by rw[List.take_succ_cons];exact .tail _ hz)) (by simpa using hx) hb]
  rfl
theorem Z9l:∀ {row:List Mv},(∀ y∈row,brB y=true)->fst row=none
 | [],_=>rfl
 | y::r,h=>by
  show (if brB y then (fst r).map (·+1) else some 0)=_
  rw[if_pos (h y (.head _)),Z9l λz hz=>h z (.tail _ hz)]
  rfl
section
variable {P:U8}{w:W1}{K:U0}{mg:U4}{base:Heap}{k:Nat}{h:Heap}
theorem sc_odd:FnScope ["move"] ["move"] (Z0i (top 73)):=fS
theorem W0m (F:FunAt K "is_odd_turn" (top 73) .none)(X:K.In h)(G:Ng h mg):Cal P w K mg base (k+1) "is_odd_turn" ["move"] spOdd:=by
 have nd:=sc_odd.nd
 refine F.cal X G sc_odd (bnd1 λ_ _ _ _ _ _ _=>rfl) (λvs H Q E h=>?_) (λf cdv A outer s H vs Q E hr h=>?_)
 ·obtain⟨p,x,rfl,_⟩:=h;rfl
 obtain⟨p,x,rfl,hp,q⟩:=h
 have SP:SqT K H p (.str (nm x)::(ns x).map V.int):=SqT.of hp
 refine⟨_,(@Z0f _ _ _ (Z0k (Z5y (Z1p Z1k (Z0m Z0j (pv 0) Z0b (λ_ _=>rfl)) Z1l (nomark _)) (Z4l (Z1p Z1k (Z0h Z0v (Z0m Z0j (pv 0) Z0b (λ_ _=>rfl)) Z0b) Z0b (nomark _)))))),?_⟩
 try dsimp only[cxK]
 refine⟨_,Z,p,_,_,.str (nm x),Z,Z,SP,at0m x,Z,?_⟩
 by_cases e:nm x="turn"
 ·obtain⟨a,j,rfl⟩:=X5w e
  exact⟨_,Z,decI (λ_=>⟨_,Z,p,_,_,.int j,Z,Z,SP,k2,_,_,Z,Z,(by show (0:Int)<_;decide),Z,q⟩) (λz=>absurd rfl z)⟩
 ·refine⟨_,Z,decI (λz=>absurd (V.str.inj z) e) (λ_=>?_)⟩
  rw[X7q e] at q
  exact q
theorem sc_isbr:FnScope ["move"] ["move"] (Z0i (top 72)):=fS
theorem X7f (F:FunAt K "is_borne" (top 72) .none)(X:K.In h)(G:Ng h mg)(dP:Cal P w K mg base k "is_odd_turn" ["move"] spOdd):Cal P w K mg base (k+1) "is_borne" ["move"] spIsBr:=by
 have nd:=sc_isbr.nd
 refine F.cal X G sc_isbr (bnd1 λ_ _ _ _ _ _ _=>rfl) (λvs H Q E h=>?_) (λf cdv A outer s H vs Q E hr h=>?_)
 ·obtain⟨p,x,rfl,_⟩:=h;rfl
 obtain⟨p,x,rfl,hp,q⟩:=h
 have SP:SqT K H p (.str (nm x)::(ns x).map V.int):=SqT.of hp
 refine⟨_,(@Z0f _ _ _ (Z0k (Z5y (Z1p Z4n (Z0m Z0j (pv 0) Z0b (λ_ _=>rfl)) Z1l (nomark _)) (Z4l (Y4b (Z0l dP hr rfl (Z0a (pv 0) Z0d))))))),?_⟩
 try dsimp only[cxK]
 refine⟨_,Z,p,_,_,.str (nm x),Z,Z,SP,at0m x,Z,?_⟩
 by_cases e:nm x="cross"
 ·refine⟨_,Z,nblI (λz=>absurd (by rw[e]) (q4n z)) (λ_=>?_)⟩
  rw[X3u e] at q
  exact q
 ·refine⟨_,Z,nblI (λ_=>?_) (λz=>absurd (V.str.inj (q1u z)) e)⟩
  refine⟨_,Z,p,x,Z,hp,_,Z,?_⟩
  rw[W2g e] at q
  exact q
theorem sc_borne:FnScope ["row","place","move"] ["row"] (Z0i (top 71)):=fS
theorem X2q (F:FunAt K "borne" (top 71) .none)(X:K.In h)(G:Ng h mg)(B:Bs mg)(eF:Cal P w K mg base k "is_borne" ["move"] spIsBr):Cal P w K mg base (k+1) "borne" ["row"] Y7e:=by
 have nd:=sc_borne.nd
 refine F.cal X G sc_borne (bnd1 λ_ _ _ _ _ _ _=>rfl) (λvs H Q E h=>?_) (λf cdv A outer s H vs Q E hr h=>?_)
 ·obtain⟨l,row,rfl,_⟩:=h;rfl
 obtain⟨l,row,rfl,⟨ps,hl,hrow⟩,l200,kq⟩:=h
 have SL:SqL K H l (ps.map V.ref):=SqL.of hl
 have pl:ps.length=row.length:=by have:=Z8v hrow;rw[q0a] at this;exact this
 refine⟨_,(@Z0e _ _ _ _ _ (Z1v PassesOwn.never rfl (Z5l rfl B.enumerate (Z0a (pv 0) Z0d)) (@Z5w _ _ _ _ _ _ rfl (@Z1f _ _ _ _ _ (@Z0p _ _ 1 _ nd rfl (Or.inl rfl) (by first | exact .inl rfl | exact .inr rfl)) (@Z1f _ _ _ _ _ (@Z0p _ _ 2 _ nd rfl (Or.inl rfl) (by first | exact .inl rfl | exact .inr rfl)) Z4c rfl) rfl) rfl rfl)
   (@Z0f _ _ _ (Z0w (Z1y (Z1n (Z0l eF hr rfl (Z0a (pv 2) Z0d))))
    (@Z0f _ _ _ (Z0k (pv 1)))
    Z0o)))
  (@Z0f _ _ _ (Z0k Z6z))),?_⟩
 try dsimp only[cxK]
 refine⟨_,Z,l,_,Z,SL,Z9m (K:=K) (a:=l) (xs:=ps.map V.ref) (λi σ H'=>Same H H'/\(∀ y∈row.take i,brB y=true)/\∃ (v1 v2:Option V),σ=[some (.ref l),v1,v2])
  ⟨Same.refl _,(λy hy=>by rw[q5b] at hy;cases hy),none,none,Z⟩ (λi σ H' _ e=>e.1.seq SL) ?_ ?_⟩
 ·rintro i x σ H1 T hx ⟨S1,hb,v1,v2,rfl⟩ hT
  rw[q0c] at hx
  obtain⟨q,hq,rfl⟩:=q0h.mp hx
  obtain⟨y,hy,ey⟩:=Z8w hrow hq
  have S2:=S1.trans (Z0g hT (.tup [.int i,.ref q]))
  refine⟨T,_,Z,SqT.of Z0c,Z,_,_,Z,_,_,Z,Z,?_⟩
  refine⟨_,Z,q,y,Z,S2 _ _ ey,_,Z,nblI (λz=>?_) (λz=>?_)⟩
  ·have:=kq _ S2
   rw[X5f hb hy z] at this
   exact⟨_,Z,this⟩
  ·refine⟨S2,λu hu=>?_,_,_,Z⟩
   rw[q1m,hy,q1w] at hu
   rcases q1b.mp hu with hu | hu
   ·exact hb u hu
   ·rw[q0r.mp hu];exact z
 ·rintro σ H1 ⟨S1,hb,v1,v2,rfl⟩
  rw[q0a,pl,q2e] at hb
  have:=kq _ S1
  rw[Z9l hb] at this
  exact this
end
end K63S
namespace K63S
open L2 Ba Am Pc M71
open K63 (top Bs Bd5 ValsK At5 Z6o Z2s Z2p Ams Z6f)
open M72 (fl sw VOk V4 En sm rowop)
open M75 (Mk mvd mvds Br lay bn bp)
noncomputable abbrev layW (m:Mk)(f:Nat->A5)(w:Nat):A5:=spin (f (w^^^m.2.1)) ((2*m.1+4*pc ((w^^^m.2.1)&&&m.2.2):Nat):Int)
theorem Y4q {c n:Nat}{m:Mk}{F:M72.Bv}{f:Nat->A5}(o:OkK c m)(h:∀ w,w<2^c->Vl n (F w) (f w)):∀ w,w<2^c->Vl n (lay m F w) (layW m f w):=by
 intro w hw
 have hx:=h (w^^^m.2.1) (q1c hw o.f)
 have q:=hx.rot ((((2*m.1+4*pc ((w^^^m.2.1)&&&m.2.2):Nat):Int)%8).toNat)
 have e:lay m F w=En ((((2*m.1+4*pc ((w^^^m.2.1)&&&m.2.2):Nat):Int)%8).toNat) (F (w^^^m.2.1)):=by
  unfold lay
  refine M75.X4b ?_ _
  have hb:bn (bp ((w^^^m.2.1)&&&m.2.2))=pc ((w^^^m.2.1)&&&m.2.2)%2:=by
   unfold bp bn
   rcases q0u (pc ((w^^^m.2.1)&&&m.2.2)) with a | a<;>rw[a]<;>rfl
  rw[hb]
  omega
 rw[e]
 exact q
section
variable {P:U8}{w:W1}{K:U0}{mg:U4}{base:Heap}{k:Nat}{h:Heap}
end
end K63S
namespace K63S
open L2 Ba Am Pc M71
open K63 (top Bs Bd5 ValsK At5 Ams Z6f Steps spRunK)
open M72 (fl sw VOk V4 En sm rowop)
open M75 (Mk mvd mvds Br lay bn bp)
theorem Y2p {c:Nat}:∀ {row:List Mv} (F:M72.Bv) (m:Mk),(∀ x∈row,VOk c x)->(∀ x∈row,Br x)->rowop row (lay m F)=lay (mvds row m) (rowop row F)
 | [],_,_,_,_=>rfl
 | x::r,F,m,o,b=>by
  show rowop r (M72.op x (lay m F))=lay (mvds r (mvd x m)) (rowop r (M72.op x F))
  rw[M75.X5x (o x (.head _)).1 (b x (.head _))]
  exact Y2p (row:=r) _ _ (λy hy=>o y (.tail _ hy)) (λy hy=>b y (.tail _ hy))
theorem Y9i {c:Nat}{m:Mk}{f:Nat->A5}(o:OkK c m)(a:Ams c f):Ams c (layW m f):=λw hw=>K63.Y2w (a _ (q1c hw o.f)) _
def Y6w (K:U0):Sp:=λvs H Q _=>∃ (l lr:W9) (ps:U3) (ms:List Mk) (row:List Mv) (c:Nat),vs=[.ref l,.ref lr]/\SqL K H l (ps.map V.ref)/\Paired (λp m=>H p=some (.tup (mkL m))) ps ms/\ms.length<=200/\RowAt H lr row/\(∀ m∈ms,OkK c m)/\c<=6/\(∀ x∈row,VOk c x)/\(∀ x∈row,Br x)/\row.length<=200 ∧
 ∀ (r:W9) (H':Hp) (qs:U3),H r=none->Same H H'->H' r=some (.lst (qs.map V.ref))->Paired (λp m=>H' p=some (.tup (mkL m))) qs (ms.map (mvds row))->Q (.ref r) H'
def spChk:Sp:=λvs H Q _=>∃ (l:W9) (row:List Mv),vs=[.ref l]/\RowAt H l row/\row.length<=200/\(∀ x∈row,brB x=true)/\∀ H',Same H H'->Q .non H'
theorem W2i {c:Nat}{row:List Mv}(ok:∀ x∈row,VOk c x)(br:∀ x∈row,Br x):∀ x∈row,brB x=true:=λx hx=>(W2h (ok x hx).1).mpr (br x hx)
theorem X4o {α:Type}{F:Addr->α->Prop}:∀ {ps:U3}{ms:List α},Paired F ps ms->ps.length=ms.length
 | [],[],.nil=>rfl
 | _::_,_::_,.cons _ r=>by rw[q3k,q3k,X4o r]
theorem X4q {α:Type}{F:Addr->α->Prop}:∀ {ps:U3}{ms:List α}{i:Nat}{p:W9},Paired F ps ms->ps[i]?=some p->∃ m,ms[i]?=some m/\F p m
 | p'::ps,m::ms,0,p,.cons a r,h=>by
  have:p'=p:=by simpa using h
  subst this
  exact⟨m,Z,a⟩
 | p'::ps,m::ms,i+1,p,.cons a r,h=>by
  obtain⟨m',b,c⟩:=X4q (ps:=ps) (ms:=ms) (i:=i) (p:=p) r (by simpa using h)
  exact⟨m',by simpa using b,c⟩
theorem Y7s {α:Type}{F:Addr->α->Prop}{a:W9}{b:α}:∀ {l:U3}{m:List α},Paired F l m->F a b->Paired F (l++[a]) (m++[b])
 | _,_,.nil,h=>.cons h .nil
 | _,_,.cons x r,h=>.cons x (Y7s r h)
theorem X4p {α:Type}{F G:Addr->α->Prop}(f:∀ a b,F a b->G a b):∀ {l:U3}{m:List α},Paired F l m->Paired G l m
 | _,_,.nil=>.nil
 | _,_,.cons x r=>.cons (f _ _ x) (X4p f r)
theorem Y7z {H:Hp}{p l:W9}{zs:List V}{xs ys:List V}(h:H p=some (.tup zs))(e:H l=some (.lst xs)):upd H l (.lst ys) p=some (.tup zs):=by
 rw[Z0x (Z7e h e (by intro z;cases z))];exact h
section
variable {P:U8}{w:W1}{K:U0}{mg:U4}{base:Heap}{k:Nat}{h:Heap}
theorem sc_chk:FnScope ["row","place"] ["row"] (Z0i (top 75)):=fS
theorem W0q (F:FunAt K "check_borne" (top 75) .none)(X:K.In h)(G:Ng h mg)(eW:Cal P w K mg base k "borne" ["row"] Y7e):Cal P w K mg base (k+1) "check_borne" ["row"] spChk:=by
 have nd:=sc_chk.nd
 refine F.cal X G sc_chk (bnd1 λ_ _ _ _ _ _ _=>rfl) (λvs H Q E h=>?_) (λf cdv A outer s H vs Q E hr h=>?_)
 ·obtain⟨l,row,rfl,_⟩:=h;rfl
 obtain⟨l,row,rfl,R,l200,br,kq⟩:=h
 refine⟨_,(@Z0e _ _ _ _ _ (@Z0q _ _ 1 _ _ _ _ nd rfl (Or.inl rfl) (Z0l eW hr rfl (Z0a (pv 0) Z0d)) rfl (.inl rfl))
  (@Z0f _ _ _ (Z0w (Z0n X6v (pv 1) Z6z (nomark _))
   (@Z0f _ _ _ Z2w)
   Z0o))),?_⟩
 try dsimp only[cxK]
 refine⟨_,Z,l,row,Z,R,l200,λH1 S1=>?_⟩
 rw[Z9l br]
 refine⟨_,Z,?_⟩
 exact⟨Z,_,Z,nblI (λz=>absurd rfl (q4n z)) (λ_=>kq H1 S1)⟩
theorem sc_mrows:FnScope ["rows","row"] ["rows","row"] (Z0i (top 74)):=fS
theorem X2f (F:FunAt K "moved_rows" (top 74) .none)(X:K.In h)(G:Ng h mg)(B:Bs mg)(dM:Cal P w K mg base k "check_borne" ["row"] spChk)(dE:Cal P w K mg base k "moved_through" ["mark","row"] (Y0c K)):Cal P w K mg base (k+1) "moved_rows" ["rows","row"] (Y6w K):=by
 have nd:=sc_mrows.nd
 refine F.cal X G sc_mrows (bnd2 λ_ _ _ _ _ _ _ _=>rfl) (λvs H Q E h=>?_) (λf cdv A outer s H vs Q E hr h=>?_)
 ·obtain⟨l,lr,ps,ms,row,c,rfl,_⟩:=h;rfl
 obtain⟨l,lr,ps,ms,row,c,rfl,SL,PM,lm,R,o,c6,ok,br,l200,kq⟩:=h
 refine⟨_,(@Z0e _ _ _ _ _ (Z3s (Z0l dM hr rfl (Z0a (pv 1) Z0d)))
  (@Z0f _ _ _ (Z0k (Z3k rfl (LcOk.of (Nc:=["mark","row"]) (mp:=[none,some 1]) (by kernel_rfl)) (Z1e (pv 0)) (λ_ _ _ _=>(Z0p (i:=0) (show (["mark","row"]:W0).Nodup by decide +kernel) rfl (Or.inl rfl))) (λ_ _ _ _=>(Z0l dE hr rfl (Z0a (pv 0) (Z0a (pv 1) Z0d)))))))),?_⟩
 try dsimp only[cxK]
 refine⟨_,Z,lr,row,Z,R,l200,W2i ok br,λH1 S1=>?_⟩
 have pl:=X4o PM
 refine⟨_,Z,l,Z,⟨_,S1.seq SL⟩,λacc hacc=>?_⟩
 refine Z2u (K:=K) (a:=l) (xs:=ps.map V.ref) (fr:=[some (.ref lr)]) (λi ys H'=>∃ qs:List Addr,Same H1 H'/\H' acc=some (.lst ys)/\ys=qs.map V.ref/\Paired (λp m=>H' p=some (.tup (mkL m))) qs ((ms.take i).map (mvds row))) (by rw[q0a];exact q1i (show ps.length<=200 by omega) (by decide))
  ⟨[],Z0g hacc _,Z0c,Z,by rw[q5b];exact .nil⟩ (λi ys H' ⟨_,e,_⟩=>(S1.trans e).seq SL) ?_ ?_
 ·rintro i x ys H2 N hx hy ⟨qs,S2,a2,rfl,P2⟩ kN
  rw[q0c] at hx
  obtain⟨q,hq,rfl⟩:=q0h.mp hx
  obtain⟨m,hm,em⟩:=X4q PM hq
  have S12:=S1.trans S2
  refine⟨_,Z,_,Z,q,lr,m,row,c,Z,S12 _ _ em,R.same S12,o m (q0y hm),c6,ok,br,l200,λr H3 S3 h3=>?_⟩
  refine kN (.ref r) H3 (S3 _ _ a2) ⟨qs++[r],Z0s (S2.trans S3) hacc,Z0c,by rw[q0i];rfl,?_⟩
  rw[q1m,hm,q1w,q0i]
  exact Y7s (X4p (λ_ _ e=>Y7z (S3 _ _ e) (S3 _ _ a2)) P2) (Y7z h3 (S3 _ _ a2))
 ·rintro ys H2 hy ⟨qs,S2,a2,rfl,P2⟩
  rw[q0a,pl,q2e] at P2
  have fr:H acc=none:=X3n S1 hacc
  exact kq acc H2 qs fr (S1.trans S2) a2 P2
end
end K63S
set_option maxHeartbeats 1000000
namespace M75
open M71 M71.Mv M72 Pc
end M75
namespace M77
open M71 Mv M72 M75
noncomputable def bk:Mv->Mv
 | .turn a j=>.turn a (8-j)
 | x=>x
theorem mod4 {k:Nat}(h:k<4):((k+2)%4+2)%4=k:=by omega
theorem W0x {x:Mv}(o:Ok x)(b:Br x){m:Mk}(h:m.1<4):mvd (bk x) (mvd x m)=m:=by
 obtain⟨k,f,s⟩:=m
 have h:k<4:=h
 cases x with
 | flip a =>
  show (if s.testBit a.toNat then ((if s.testBit a.toNat then (k+2)%4 else k)+2)%4 else (if s.testBit a.toNat then (k+2)%4 else k),f,s)=_
  by_cases c:s.testBit a.toNat=true
  ·simp only[c,q5f];rw[mod4 h]
  ·simp only[c,q4o];simp
 | mix a =>
  by_cases c:f.testBit a.toNat=true<;>by_cases d:s.testBit a.toNat=true<;>simp[bk,mvd,c,d,Z4g,M72.Z7p,mod4 h]
 | turn a j =>
  obtain⟨a0,j1,j7⟩:0<=a/\1<=j/\j<=7:=o
  have b:j.toNat%2=0:=b
  have hj:j=2∨j=4∨j=6:=by omega
  by_cases c:f.testBit a.toNat=true
  ·rcases hj with rfl | rfl | rfl<;>simp[bk,mvd,c,M72.Z7p]<;>omega
  ·simp[bk,mvd,c]
 | iff a b' =>
  obtain⟨a0,b0,n⟩:0<=a/\0<=b'/\a≠b':=o
  have n':a.toNat≠b'.toNat:=by omega
  by_cases c:f.testBit a.toNat=true<;>by_cases d:s.testBit b'.toNat=true<;>simp[bk,mvd,c,d,Z2l n',Z2l n'.symm,M72.Z7p]
 | pair a b' =>
  obtain⟨a0,b0,n⟩:0<=a/\0<=b'/\a≠b':=o
  have fc:∀ w,fl (fl w a.toNat) b'.toNat=fl (fl w b'.toNat) a.toNat:=λw=>by
   unfold fl
   rw[q1t,q3o (2^a.toNat),<-q1t]
  by_cases c:f.testBit a.toNat=true<;>by_cases d:f.testBit b'.toNat=true<;>simp[bk,mvd,c,d,M72.Z7p,fc,mod4 h]
 | swap a b' =>
  obtain⟨a0,b0,n⟩:0<=a/\0<=b'/\a≠b':=o
  have n':a.toNat≠b'.toNat:=by omega
  simp[bk,mvd,X6d n']
 | cross a b' d=>exact b.elim
theorem Z5b:∀ (r t:List Mv) (m:Mk),mvds (r++t) m=mvds t (mvds r m)
 | [],_,_=>rfl
 | x::r,t,m=>Z5b r t (mvd x m)
theorem X8v {c:Nat}{x:Mv}(o:VOk c x):VOk c (bk x):=by
 cases x with
 | turn a j =>
  obtain⟨⟨a0,j1,j7⟩,h⟩:=o
  exact⟨⟨a0,by omega,by omega⟩,h⟩
 | _=>exact o
theorem W4e {x:Mv}(o:Ok x)(b:Br x):Br (bk x):=by
 cases x with
 | turn a j =>
  obtain⟨a0,j1,j7⟩:0<=a/\1<=j/\j<=7:=o
  have b:j.toNat%2=0:=b
  show (8-j).toNat%2=0
  omega
 | _=>exact b
end M77
namespace M78
open M71 Mv M72 M75 M77
end M78
namespace M79
open M71 Mv M72 M75 M77 M78
noncomputable def cm (m n:Mk):Bool:=bp (m.2.1&&&n.2.2) ^^ bp (m.2.2&&&n.2.1)
theorem W2b {x:Mv}(o:Ok x)(b:Br x)(m n:Mk):cm (mvd x m) (mvd x n)=cm m n:=by
 obtain⟨k,f,s⟩:=m
 obtain⟨l,g,t⟩:=n
 cases x with
 | flip a=>rfl
 | mix a =>
  show (bp ((if f.testBit a.toNat=s.testBit a.toNat then f else fl f a.toNat)&&&(if g.testBit a.toNat=t.testBit a.toNat then t else fl t a.toNat)) ^^ bp ((if f.testBit a.toNat=s.testBit a.toNat then s else fl s a.toNat)&&&(if g.testBit a.toNat=t.testBit a.toNat then g else fl g a.toNat)))=(bp (f&&&t) ^^ bp (s&&&g))
  cases hf:f.testBit a.toNat<;>cases hs:s.testBit a.toNat<;>cases hg:g.testBit a.toNat<;>cases ht:t.testBit a.toNat<;>simp[Z4h,Z3f,Z4g,hf,hs,hg,ht]
 | turn a j =>
  show cm (if f.testBit a.toNat then _ else _) (if g.testBit a.toNat then _ else _)=_
  cases hf:f.testBit a.toNat<;>cases hg:g.testBit a.toNat<;>by_cases hj:j.toNat%4=2<;>simp[cm,hj,Z4h,Z3f,hf,hg]
 | iff a b' =>
  obtain⟨a0,b0,n⟩:0<=a/\0<=b'/\a≠b':=o
  have n':a.toNat≠b'.toNat:=by omega
  show (bp ((if f.testBit a.toNat then fl f b'.toNat else f)&&&(if t.testBit b'.toNat then fl t a.toNat else t)) ^^ bp ((if s.testBit b'.toNat then fl s a.toNat else s)&&&(if g.testBit a.toNat then fl g b'.toNat else g)))=(bp (f&&&t) ^^ bp (s&&&g))
  cases hf:f.testBit a.toNat<;>cases hs:s.testBit b'.toNat<;>cases hg:g.testBit a.toNat<;>cases ht:t.testBit b'.toNat<;>simp[Z4h,Z3f,Z2l n',Z2l n'.symm,hf,hs,hg,ht]
 | pair a b' =>
  show (bp (f&&&(if g.testBit b'.toNat then fl (if g.testBit a.toNat then fl t b'.toNat else t) a.toNat else if g.testBit a.toNat then fl t b'.toNat else t)) ^^ bp ((if f.testBit b'.toNat then fl (if f.testBit a.toNat then fl s b'.toNat else s) a.toNat else if f.testBit a.toNat then fl s b'.toNat else s)&&&g))=(bp (f&&&t) ^^ bp (s&&&g))
  cases hf:f.testBit a.toNat<;>cases hs:f.testBit b'.toNat<;>cases hg:g.testBit a.toNat<;>cases ht:g.testBit b'.toNat<;>simp[Z4h,Z3f,hf,hs,hg,ht]
 | swap a b' =>
  obtain⟨a0,b0,n⟩:0<=a/\0<=b'/\a≠b':=o
  have n':a.toNat≠b'.toNat:=by omega
  show (bp (sw f a.toNat b'.toNat&&&sw t a.toNat b'.toNat) ^^ bp (sw s a.toNat b'.toNat&&&sw g a.toNat b'.toNat))=(bp (f&&&t) ^^ bp (s&&&g))
  have sws:∀ x y:Nat,bp (sw x a.toNat b'.toNat&&&sw y a.toNat b'.toNat)=bp (x&&&y):=λx y=>by
   unfold sw
   cases hf:x.testBit a.toNat<;>cases hs:x.testBit b'.toNat<;>cases hg:y.testBit a.toNat<;>cases ht:y.testBit b'.toNat<;>simp[Z4h,Z3f,Z2l n',Z2l n'.symm,Z4g,hf,hs,hg,ht]
  rw[sws,sws]
 | cross a b' d=>exact b.elim
theorem X0g:∀ {row:List Mv} (m n:Mk),(∀ x∈row,Ok x)->(∀ x∈row,Br x)->cm (mvds row m) (mvds row n)=cm m n
 | [],_,_,_,_=>rfl
 | x::r,m,n,o,b=>(X0g (row:=r) (mvd x m) (mvd x n) (λy hy=>o y (.tail _ hy)) (λy hy=>b y (.tail _ hy))).trans (W2b (o x (.head _)) (b x (.head _)) m n)
noncomputable def bwd (row:List Mv):List Mv:=row.reverse.map bk
theorem Y5e:∀ {row:List Mv}{m:Mk},(∀ x∈row,Ok x)->(∀ x∈row,Br x)->m.1<4->(∀ x (n:Mk),x∈row->n.1<4->(mvd x n).1<4)->mvds (bwd row) (mvds row m)=m
 | [],_,_,_,_,_=>rfl
 | x::r,m,o,b,h,k=>by
  show mvds ((x::r).reverse.map bk) (mvds r (mvd x m))=m
  rw[List.reverse_cons,q0i,Z5b]
  rw[show mvds (r.reverse.map bk) (mvds r (mvd x m))=mvd x m from Y5e (λy hy=>o y (.tail _ hy)) (λy hy=>b y (.tail _ hy)) (k x m (.head _) h) λy n hy=>k y n (.tail _ hy)]
  exact W0x (o x (.head _)) (b x (.head _)) h
end M79
set_option maxHeartbeats 4000000
namespace K63S
open L2 Ba Am Pc M71
open K63 (Gm Steps Ams Bg Mvs Rw)
open M72 (fl sw VOk V4 En sm rowop op)
open M75 (Mk mvd mvds Br lay bn bp)
open M82 (Kp Nv Ks Kc)
open M57 (E In Indep Y2y Z8g)
theorem Y4r {c:Nat}{f:Nat->A5}{m:Mk}(hf:m.2.1<2^c):Kp c f m ↔ ∀ w,w<2^c->f w=layW m f w:=by
 constructor
 ·intro h w hw
  have:=h (w^^^m.2.1) (q1c hw hf)
  rw[q1t,q3n,q6z] at this
  exact this
 ·intro h w hw
  have:=h (w^^^m.2.1) (q1c hw hf)
  unfold layW at this
  rw[q1t,q3n,q6z] at this
  exact this
theorem bound {c:Nat}{f:Nat->A5}:∃ N:Nat,∀ w,w<2^c->(f w).2<=(N:Int):=by
 have:∀ n:Nat,∃ N:Nat,∀ w,w<n->(f w).2<=(N:Int):=λn=>by
  induction n with
  | zero=>exact⟨0,λw h=>absurd h (q1k _)⟩
  | succ n ih =>
   obtain⟨N,h⟩:=ih
   refine⟨N+(f n).2.toNat,λw hw=>?_⟩
   by_cases e:w=n
   ·subst e;omega
   ·have:=h w (by omega);omega
 exact this _
theorem W1a {c:Nat}(hc:c<=6){row:List Mv}{f g:Nat->A5}{m:Mk}(o:OkK c m)(ok:∀ x∈row,VOk c x)(br:∀ x∈row,Br x)(af:Ams c f)(s:Steps c (row.map gm) f g)(h:Kp c f m):Kp c g (mvds row m):=by
 obtain⟨N,le⟩:=bound (c:=c) (f:=f)
 have og:=Z5n ok o
 refine(Y4r og.f).mpr λw hw=>?_
 have st:∀ w,w<2^c->Vl N ((λw=>sm (2^(N-(f w).2.toNat)) (f w).1) w) (f w):=λw hw=>Vl.of (af w hw).nn (le w hw)
 obtain⟨h1,a1⟩:=Z6b hc ok af st s
 have st2:∀ w,w<2^c->Vl N (lay m (λw=>sm (2^(N-(f w).2.toNat)) (f w).1) w) (f w):=λw hw=>by
  have:=Y4q o st w hw
  rw[<-(Y4r o.f).mp h w hw] at this
  exact this
 obtain⟨h2,a2⟩:=Z6b hc ok af st2 s
 have q1:=Y4q og h1 w hw
 have q2:=h2 w hw
 rw[Y2p _ _ ok br] at q2
 exact q2.same q1 (a1 w hw) (Y9i og a1 w hw)
theorem Vl.val {m:Nat}{v u:V4}{x:A5}(l:Vl m v x)(l':Vl m u x):v=u:=by
 obtain⟨M0,h⟩:=l
 obtain⟨M1,h'⟩:=l'
 have g1:M0<=max M0 (max M1 m):=by omega
 have g2:M1<=max M0 (max M1 m):=by omega
 obtain⟨a1,a2,a3,a4⟩:=h _ g1
 obtain⟨b1,b2,b3,b4⟩:=h' _ g2
 have p:=Z9a (max M0 (max M1 m)-m)
 refine Prod.ext (q2a p (a1.symm.trans b1)) (Prod.ext (q2a p (a2.symm.trans b2)) (Prod.ext (q2a p (a3.symm.trans b3)) (q2a p (a4.symm.trans b4))))
theorem to_lt {c:Nat}{x:Mv}(hc:c<=6)(o:VOk c x)(h:M72.isMix x=false){w:Nat}(hw:w<2^c):M72.to x w<2^c:=by
 have g:=Y9u o
 obtain⟨o1,o2⟩:=o
 cases x with
 | flip a=>exact Z5q hw (show a.toNat<c from g)
 | mix a=>cases h
 | turn a j=>exact hw
 | iff a b =>
  have g:a.toNat<c/\b.toNat<c/\_:=g
  show (if _ then _ else _)<2^c
  split
  ·exact Z5q hw g.2.1
  ·exact hw
 | pair a b=>exact hw
 | swap a b =>
  have g:a.toNat<c/\b.toNat<c/\_:=g
  exact X1i hw g.1 g.2.1
 | cross a b d =>
  have g:a.toNat<c/\b.toNat<c/\d.toNat<c/\_:=g
  show (if _ then _ else _)<2^c
  split
  ·exact X1i hw g.2.1 g.2.2.1
  ·exact hw
theorem W2z {c:Nat}(hc:c<=6){x:Mv}(o:VOk c x){A B:M72.Bv}(h:∀ w,w<2^c->A w=B w){w:Nat}(hw:w<2^c):op x A w=op x B w:=by
 cases hm:M72.isMix x with
 | false=>rw[M72.Z5m hm,M72.Z5m hm,h _ (to_lt hc o hm hw)]
 | true =>
  cases x with
  | mix a =>
   have g:a.toNat<c:=Y9u o
   show M72.root (M72.add (sm (M72.sg w a.toNat) (A w)) (A (fl w a.toNat)))=M72.root (M72.add (sm (M72.sg w a.toNat) (B w)) (B (fl w a.toNat)))
   rw[h w hw,h _ (Z5q hw g)]
  | flip a=>cases hm
  | turn a j=>cases hm
  | iff a b=>cases hm
  | pair a b=>cases hm
  | swap a b=>cases hm
  | cross a b d=>cases hm
theorem W0k {x:Mv}(o:M72.Ok x)(F:M72.Bv)(w:Nat):op (M77.bk x) (op x F) w=sm 4 (F w):=by
 cases ht:M72.isTurn x with
 | false =>
  have:M77.bk x=x:=by cases x<;>first | rfl | cases ht
  rw[this]
  exact M72.X1w o ht F w
 | true =>
  cases x with
  | turn a j =>
   obtain⟨a0,j1,j7⟩:0<=a/\1<=j/\j<=7:=o
   show sm 2 (En (if w.testBit a.toNat then (8-j).toNat else 0) (sm 2 (En (if w.testBit a.toNat then j.toNat else 0) (F w))))=_
   rw[M72.X4a,M72.Y7h,M72.Y6h]
   cases w.testBit a.toNat
   ·rfl
   ·simp only[q5f]
    rw[M75.X4b (n:=0) (by omega)]
    rfl
  | mix a=>cases ht
  | flip a=>cases ht
  | iff a b=>cases ht
  | pair a b=>cases ht
  | swap a b=>cases ht
  | cross a b d=>cases ht
theorem Y7m {c:Nat}(hc:c<=6):∀ {row:List Mv}{A B:M72.Bv},(∀ x∈row,VOk c x)->(∀ w,w<2^c->rowop row A w=rowop row B w)->∀ w,w<2^c->A w=B w
 | [],_,_,_,h=>h
 | x::r,A,B,ok,h=>λw hw=>by
  have ih:=Y7m hc (row:=r) (A:=op x A) (B:=op x B) (λy hy=>ok y (.tail _ hy)) h
  have o:=ok x (.head _)
  have:=W2z hc (M77.X8v o) ih hw
  rw[W0k o.1,W0k o.1] at this
  exact M72.X9u (by decide) this
theorem X8g {c:Nat}(hc:c<=6){row:List Mv}{f g:Nat->A5}{m:Mk}(o:OkK c m)(ok:∀ x∈row,VOk c x)(br:∀ x∈row,Br x)(af:Ams c f)(s:Steps c (row.map gm) f g)(h:Kp c g (mvds row m)):Kp c f m:=by
 obtain⟨N,le⟩:=bound (c:=c) (f:=f)
 have og:=Z5n ok o
 refine(Y4r o.f).mpr λw hw=>?_
 have st:∀ w,w<2^c->Vl N ((λw=>sm (2^(N-(f w).2.toNat)) (f w).1) w) (f w):=λw hw=>Vl.of (af w hw).nn (le w hw)
 obtain⟨h1,a1⟩:=Z6b hc ok af st s
 have key:∀ w,w<2^c->rowop row (lay m (λw=>sm (2^(N-(f w).2.toNat)) (f w).1)) w=rowop row (λw=>sm (2^(N-(f w).2.toNat)) (f w).1) w:=λw hw=>by
  rw[Y2p _ _ ok br]
  have q1:=Y4q og h1 w hw
  rw[<-(Y4r og.f).mp h w hw] at q1
  exact q1.val (h1 w hw)
 have e:=Y7m hc ok key w hw
 have q:=Y4q o st w hw
 rw[e] at q
 exact(st w hw).same q (af w hw) (Y9i o af w hw)
end K63S
namespace K63S
open L2 Ba Am Pc M71
open K63 (Gm Steps Ams Bg Mvs Rw)
open M72 (fl sw VOk)
open M75 (Mk mvd mvds Br bn bp)
open M82 (Kp Nv Ks Kc)
open M57 (E In Indep Y2y Z8g fOf sOf)
open M54 (chosen prod mul)
open M53 (V6 vec ldm)
theorem W2c (a b:Mk):M53.cm a b=bn (M79.cm a b):=by
 unfold M53.cm M79.cm bp
 rcases q0u (pc (a.2.1&&&b.2.2)) with x | x<;>rcases q0u (pc (a.2.2&&&b.2.1)) with y | y<;>simp only[x,y,bn]<;>simp<;>omega
theorem X5j {row:List Mv}(m n:Mk)(o:∀ x∈row,M72.Ok x)(b:∀ x∈row,Br x):M53.cm (mvds row m) (mvds row n)=M53.cm m n:=by rw[W2c,W2c,M79.X0g m n o b]
theorem cm_z (o:Mk){u:Mk}(h:u.2=(0,0)):M53.cm o u=0:=by
 unfold M53.cm
 rw[h]
 simp[Z1s]
theorem Y0n (l:List Mk)(r:Mk):prod (l++[r])=mul (prod l) r:=by unfold prod;rw[q3r];rfl
theorem X0f {o o':Mk}{ms ms':List Mk}(h:∀ j,M53.cm o (ms.getD j (0,0,0))=M53.cm o' (ms'.getD j (0,0,0)))(x:Nat):∀ m,M53.cm o (prod (chosen ms x m))=M53.cm o' (prod (chosen ms' x m))
 | 0=>by
  show M53.cm o (0,0,0)=M53.cm o' (0,0,0)
  rw[cm_z o rfl,cm_z o' rfl]
 | m+1=>by
  have ih:=X0f h x m
  rw[M54.Z2b,M54.Z2b]
  split
  ·rw[Y0n,Y0n,M53.X0h,M53.X0h,ih,h m]
  ·rw[q4g,q4g];exact ih
theorem cm_E {row:List Mv}(o:∀ x∈row,M72.Ok x)(b:∀ x∈row,Br x)(n:Mk)(S:List Mk)(x:Nat):M53.cm (mvds row n) (E (S.map (mvds row)) x)=M53.cm n (E S x):=by
 unfold E
 rw[q0a]
 refine X0f (λj=>?_) x _
 rw[q0b,q0b,q0c]
 cases S[j]? with
 | none=>exact(cm_z _ rfl).trans (cm_z _ rfl).symm
 | some s=>exact X5j n s o b
theorem X5m {x y:Nat}(hx:x<2^6)(hy:y<2^6)(h:∀ i,i<6->x.testBit i=y.testBit i):x=y:=by
 apply q3b
 intro i
 by_cases c:i<6
 ·exact h i c
 ·have lt:2^6<=2^i:=q1a (by decide) (by omega)
  rw[q5v (q0k hx lt),q5v (q0k hy lt)]
theorem Y4d (s i:Nat):pc (2^i&&&s)%2=bn (s.testBit i):=by
 rw[<-M75.X5k]
 unfold bp
 rcases q0u (pc (2^i&&&s)) with x | x<;>rw[x]<;>rfl
theorem X5l {a b:Bool}(h:bn a=bn b):a=b:=by cases a<;>cases b<;>first | rfl | cases h
theorem nondeg {u v:Mk}(hu:V6 u)(hv:V6 v)(h:∀ o:Mk,o.1<4->M53.cm o u=M53.cm o v):u.2=v.2:=by
 refine Prod.ext (X5m hu.f hv.f λi _=>?_) (X5m hu.s hv.s λi _=>?_)
 ·have:=h (0,0,2^i) (show 0<4 by decide)
  unfold M53.cm at this
  simp only[q8f,Z1s,q2u] at this
  rw[Y4d,Y4d] at this
  exact X5l this
 ·have:=h (0,2^i,0) (show 0<4 by decide)
  unfold M53.cm at this
  simp only[q8f,Z1s,q3h] at this
  rw[Y4d,Y4d] at this
  exact X5l this
theorem W3d {x:Mv}{n:Mk}(h:n.1<4):(mvd x n).1<4:=by
 obtain⟨k,f,s⟩:=n
 have h:k<4:=h
 have k4:∀ n:Nat,n%4<4:=λn=>q1v _ (by decide)
 cases x with
 | flip a=>show (if _ then _ else _)<4;split;exact k4 _;exact h
 | mix a=>show (if _ then _ else _)<4;split;exact k4 _;exact h
 | turn a j =>
  show (if _ then _ else _:Mk).1<4
  split
  ·exact k4 _
  ·exact h
 | iff a b=>exact h
 | pair a b=>show (if _ then _ else _)<4;split;exact k4 _;exact h
 | swap a b=>exact h
 | cross a b d=>exact h
theorem W4f {x:Mv}(o:M72.Ok x):M77.bk (M77.bk x)=x:=by
 cases x with
 | turn a j=>show Mv.turn a (8-(8-j))=_;rw[show 8-(8-j)=j by omega]
 | _=>rfl
theorem fwd {row:List Mv}{m:Mk}(o:∀ x∈row,M72.Ok x)(b:∀ x∈row,Br x)(h:m.1<4)(oc:∀ x∈row,M72.Ok (M77.bk x)):mvds row (mvds (M79.bwd row) m)=m:=by
 have e:M79.bwd (M79.bwd row)=row:=by
  unfold M79.bwd
  rw[<-List.map_reverse,List.reverse_reverse,q2v]
  have:row.map (M77.bk ∘ M77.bk)=row.map id:=q5g λx hx=>W4f (o x hx)
  rw[this,List.map_id]
 have ob:∀ x∈M79.bwd row,M72.Ok x/\Br x:=λx hx=>by
  obtain⟨y,hy,rfl⟩:=q1q.mp hx
  have hy:=List.mem_reverse.mp hy
  exact⟨oc y hy,M77.W4e (o y hy) (b y hy)⟩
 have:=M79.Y5e (row:=M79.bwd row) (m:=m) (λx hx=>(ob x hx).1) (λx hx=>(ob x hx).2) h λx n _ hn=>W3d hn
 rw[e] at this
 exact this
theorem Y7q {S:List Mk}(v:∀ m∈S,V6 m)(R:M53.Red (S.map vec) (S.map ldm)):Indep S:=λc hf hs j hj=>by
 have vv:∀ j,j<S.length->V6 (S.getD j (0,0,0)):=λj hj=>v _ (M53.gmem hj)
 have e:=M53.Y6i c vv S.length (q0g _)
 rw[hf,hs] at e
 have b:=M53.Z8z R c (j:=j) (by rw[q0a];exact hj) (S.map vec).length (q0g _)
 rw[q0a,e,q2u,q8g,M54.Z2g] at b
 cases hc:c j with
 | false=>rfl
 | true=>rw[if_pos ⟨hj,hc⟩] at b;cases b
theorem moved {c:Nat}(hc:c<=6){f g:Nat->A5}(nf:Nv c f)(ng:Nv c g){row:List Mv}{S:List Mk}(ok:∀ x∈row,VOk c x)(br:∀ x∈row,Br x)(af:Ams c f)(s:Steps c (row.map gm) f g)(K:Kc c f S):Kc c g (S.map (mvds row)):=by
 have o1:∀ x∈row,M72.Ok x:=λx hx=>(ok x hx).1
 have to:∀ {m:Mk},M82.Ok c m->OkK c m:=λh=>⟨h.q,h.f,h.s⟩
 have fro:∀ {m:Mk},OkK c m->M82.Ok c m:=λh=>⟨h.k,h.f,h.s⟩
 have T:=K.ks.tb hc nf
 have okS:∀ r∈S.map (mvds row),M82.Ok c r/\Kp c g r:=λr hr=>by
  obtain⟨m,hm,rfl⟩:=q1q.mp hr
  obtain⟨a,b⟩:=K.ks.ok m hm
  exact⟨fro (Z5n ok (to a)),W1a hc (to a) ok br af s b⟩
 have ind:Indep (S.map (mvds row)):=λcc hf hs j hj=>by
  have ec:=M53.Y5g (S.map (mvds row)) cc
  rw[hf,hs] at ec
  rw[q0a] at ec hj
  have xl:=M53.Y4g cc S.length
  have inS:In S (E S (M53.num cc S.length)):=⟨_,xl,Z⟩
  have z:(E S (M53.num cc S.length)).2=((0,0,0):Mk).2:=nondeg (M53.Y2q T inS) ⟨by decide,by decide⟩ λo _=>by
   rw[<-cm_E o1 br o S,cm_z _ ec,cm_z _ rfl]
  have x0:=Y2y T.ind xl (q0o _) (z.trans (by rw[Z8g]))
  have nb:=M53.Y2k cc S.length j hj
  rw[x0,M54.Z2g] at nb
  exact nb.symm.trans (by decide)
 have ks':Ks c g (S.map (mvds row)):=⟨okS,ind⟩
 have T':=ks'.tb hc ng
 refine⟨ks',λm' om' km'=>?_⟩
 have okb:∀ x∈M79.bwd row,VOk c x:=λx hx=>by
  obtain⟨y,hy,rfl⟩:=q1q.mp hx
  exact M77.X8v (ok y (List.mem_reverse.mp hy))
 have oc:∀ x∈row,M72.Ok (M77.bk x):=λx hx=>(M77.X8v (ok x hx)).1
 have om:=Z5n okb (to om')
 have em:=fwd o1 br om'.q oc
 have km:Kp c f (mvds (M79.bwd row) m'):=X8g hc om ok br af s (by rw[em];exact km')
 obtain⟨x,xl,ex⟩:=K.all _ (fro om) km
 have lx:x<2^(S.map (mvds row)).length:=by rw[q0a];exact xl
 refine ks'.made ng om' km' (x:=x) ?_
 refine nondeg (M53.Y2q T' ⟨x,lx,Z⟩) (om'.v6 hc) λo ho=>?_
 have eo:=fwd o1 br ho oc
 rw[<-eo,cm_E o1 br,ex,<-X5j _ _ o1 br,em]
noncomputable def ug:Gm->Mv
 | .mix a=>.mix a
 | .mv (.flip a)=>.flip a
 | .mv (.turn a k)=>.turn a k
 | .mv (.iff a b)=>.iff a b
 | .mv (.pair a b)=>.pair a b
 | .mv (.swap a b)=>.swap a b
 | .mv (.cross a b d)=>.cross a b d
theorem W3y (m:Gm):gm (ug m)=m:=by
 cases m with
 | mix a=>rfl
 | mv v=>cases v<;>rfl
theorem W3e (m:Gm):mm (ug m)=m.mm:=by
 cases m with
 | mix a=>rfl
 | mv v=>cases v<;>rfl
theorem W2r {c:Nat}{m:Gm}(h:m.Ok c):VOk c (ug m):=by
 cases m with
 | mix a =>
  have h:a<c:=h
  exact⟨show (0:Int)<=(a:Int) by omega,by intro x hx;simp[ug,Mv.cells] at hx;omega⟩
 | mv v =>
  cases v with
  | flip a =>
   have h:a<c:=h
   exact⟨show (0:Int)<=(a:Int) by omega,by intro x hx;simp[ug,Mv.cells] at hx;omega⟩
  | turn a k =>
   have h:a<c/\1<=k/\k<=7:=h
   exact⟨show (0:Int)<=(a:Int)/\(1:Int)<=(k:Int)/\(k:Int)<=7 by omega,by intro x hx;simp[ug,Mv.cells] at hx;omega⟩
  | iff a b =>
   have h:a<c/\b<c/\a≠b:=h
   exact⟨show (0:Int)<=(a:Int)/\(0:Int)<=(b:Int)/\(a:Int)≠(b:Int) by omega,by intro x hx;simp[ug,Mv.cells] at hx;omega⟩
  | pair a b =>
   have h:a<c/\b<c/\a≠b:=h
   exact⟨show (0:Int)<=(a:Int)/\(0:Int)<=(b:Int)/\(a:Int)≠(b:Int) by omega,by intro x hx;simp[ug,Mv.cells] at hx;omega⟩
  | swap a b =>
   have h:a<c/\b<c/\a≠b:=h
   exact⟨show (0:Int)<=(a:Int)/\(0:Int)<=(b:Int)/\(a:Int)≠(b:Int) by omega,by intro x hx;simp[ug,Mv.cells] at hx;omega⟩
  | cross a b d =>
   have h:a<c/\b<c/\d<c/\a≠b/\a≠d/\b≠d:=h
   exact⟨show (0:Int)<=(a:Int)/\(0:Int)<=(b:Int)/\(0:Int)<=(d:Int)/\(a:Int)≠(b:Int)/\(a:Int)≠(d:Int)/\(b:Int)≠(d:Int) by omega,by intro x hx;simp[ug,Mv.cells] at hx;omega⟩
theorem W2s {m:Gm}(h:Bg m):Br (ug m):=by
 cases m with
 | mix a=>trivial
 | mv v =>
  cases v with
  | turn a k=>exact(show ((k:Int)).toNat%2=0 from h)
  | cross a b d=>exact h
  | _=>trivial
theorem X9y {H:Hp}{l:W9}{ps:U3}{ms:List Gm}{c:Nat}(r:Rw H l ps ms c):RowAt H l (ms.map ug):=by
 refine⟨ps,r.lst,?_⟩
 have e:(ms.map ug).map mm=ms.map Gm.mm:=by rw[q2v];exact q5g λm _=>W3e m
 rw[e]
 exact r.mvs
end K63S
namespace L2
theorem Cal.imp {P:U8}{w:W1}{K:U0}{mg:U4}{base:Heap}{k:Nat}{x:Str}{ps:W0}{sp sp':Sp}(c:Cal P w K mg base k x ps sp)(h:∀ vs H Q E,sp' vs H Q E->sp vs H Q E):Cal P w K mg base k x ps sp' :=
 let ⟨f,fd,F,r⟩:=c.ex
 ⟨f,fd,F.imp h,r⟩
end L2
set_option maxHeartbeats 1000000
namespace K63
open L2 Am Pc Ba
open M54 (Mk)
open M57 (E In)
open M53 (vec V6 IsLd ldm ev)
open K63T (T3 L3 Mks)
open M82 (Kp Nv)
theorem kept5 {K:U0}{a:W9}{od:W5}{sl:W4}{n:Nat}{v1 v2 v3 v4 v5:Int}{t1 t2 t3 t4 t5:Tok}(h:K.lookup a=some ⟨.type "tuple",od,.seq #[.int v1 t1,.int v2 t2,.int v3 t3,.int v4 t4,.int v5 t5] n,sl⟩)(H:Hp):At5 K H a ((v1,v2,v3,v4),v5) :=
 .inr ⟨_,_,_,h,Z,Z,(show 5<=sizeLine by decide),.cons ⟨_,Z⟩ (.cons ⟨_,Z⟩ (.cons ⟨_,Z⟩ (.cons ⟨_,Z⟩ (.cons ⟨_,Z⟩ .nil))))⟩
theorem Y8d {c:Nat}{f:Nat->A5}(h:Ams c f):Okz c f:=λi hi z=>by
 have o:=(h i hi).odd
 rw[z] at o
 simp only at o
 omega
theorem W0s {c:Nat}{f:Nat->A5}(h:Ams c f)(n:V.Nz c f):Nv c f:=by
 obtain⟨w,hw,nz⟩:=n
 exact⟨w,hw,λz=>nz (Prod.ext z (Y8d h w hw z))⟩
theorem Kep.red {c:Nat}{f:Nat->A5}{S:List Mk}(h:Kep c f S):M53.Red (S.map vec) (S.map ldm):=by
 obtain⟨R,_,D,_⟩:=h.ex
 exact D.red h.rise
theorem Kep.kr {c:Nat}{f:Nat->A5}{S:List Mk}(hc:c<=6)(nz:Nv c f)(h:Kep c f S):M82.Kr c f S:=by
 obtain⟨R,k,D,l⟩:=h.ex
 exact k.red hc nz D h.rise l
theorem Kep.uniq {c:Nat}{f:Nat->A5}{S S':List Mk}(hc:c<=6)(nz:Nv c f)(h:Kep c f S)(h':Kep c f S'):S=S':=by
 obtain⟨R,k,D,l⟩:=h.ex
 obtain⟨R',k',D',l'⟩:=h'.ex
 exact M82.Kc.uniq hc nz k k' D D' h.rise h'.rise
theorem Kep.kc {c:Nat}{f:Nat->A5}{S:List Mk}(hc:c<=6)(nz:Nv c f)(h:Kep c f S):M82.Kc c f S:=by
 have KR:=h.kr hc nz
 exact⟨⟨λm hm=>⟨(KR.ok m hm).1,(KR.ok m hm).2.1⟩,K63S.Y7q (λm hm=>(KR.ok m hm).1.v6 hc) h.red⟩,KR.all⟩
theorem Y4n {H:Hp}:∀ {ps:U3}{ms:List Mk},Mks H ps ms->Paired (λp m=>H p=some (.tup (K63S.mkL m))) ps ms
 | _,_,.nil=>.nil
 | _,_,.cons a r=>.cons a (Y4n r)
theorem Y4f {H:Hp}:∀ {ps:U3}{ms:List Mk},Paired (λp m=>H p=some (.tup (K63S.mkL m))) ps ms->Mks H ps ms
 | _,_,.nil=>.nil
 | _,_,.cons a r=>.cons a (Y4f r)
section
variable {P:U8}{w:W1}{K:U0}{mg:U4}{base:Heap}{k:Nat}{h:Heap}
theorem sc_law:FnScope ["_law_script","_law_head","_law_cells","_law_board","_law_row","_law_ahead","_law_behind","_law_told"] ["_law_script"] (Z0i (top 100)):=fS
theorem W0o {n:Nat}(hn:n<=63){f:W9}{fd:FuncData}(F:Fun K "law" "law" (top 100) f fd)(B:Bs mg)(c7:Cal P w K mg base k "_law_cell_at" ["_law_script","_law_k"] (spCell K))(dA:Cal P w K mg base k "_law_cells_by" ["_law_cell"] Y7c)(d6:Cal P w K mg base k "_law_held_board" ["_law_script","_law_at","_law_cells","_law_way"] (spHeld K))(cJ:Cal P w K mg base k "_law_plain_row" ["_law_numbers","_law_cells"] (Y1w K))
  (dL:Cal P w K mg base k "keepers" ["board"] (spKeep K)) (eK:Cal P w K mg base k "run" ["board","row"] (spRunK K)) (cN:Cal P w K mg base k "_law_is_reduced" ["_law_rows","_law_cells"] Y7a) (dS:Cal P w K mg base k "_law_keeps" ["_law_board","_law_mark"] (Y6z K)) (dZ:Cal P w K mg base k "moved_rows" ["rows","row"] (K63S.Y6w K)) (cY:Cal P w K mg base k "reduced" ["rows","cells"] K63T.Z6p) :
  FnOk P w K mg base CX0 (k+1) f fd ["_law_script"] (spLaw K n):=by
 have nd:=sc_law.nd
 refine F.ok sc_law (λvs H Q E' h=>?_) (λcdv A outer s H vs Q E' hr h=>?_)
 ·obtain⟨a,ns,rfl,_⟩:=h;rfl
 obtain⟨sa,ns,rfl,hS,h63,lt,fin⟩:=h
 refine⟨_,(@Z1c _ _ _ _ _ (@Z0q _ _ 1 _ _ _ _ nd rfl (Or.inl rfl) (Z0l c7 hr rfl (Z0a (pv 0) (Z0a Z0b Z0d))) rfl (.inl rfl))
  (@Z1c _ _ _ _ _ (@Z0q _ _ 2 _ _ _ _ nd rfl (Or.inl rfl) (Z0r (Y1f rfl) rfl B.min boot_min (Z0a (Z0l dA hr rfl (Z0a (pv 1) Z0d)) (Z0a Z0b Z0d))) rfl (.inl rfl))
  (@Z1c _ _ _ _ _ (@Z0q _ _ 3 _ _ _ _ nd rfl (Or.inl rfl) (Z0l d6 hr rfl (Z0a (pv 0) (Z0a Z0b (Z0a (pv 2) (Z0a (Z0h Z0v (Z0h Z1g (pv 1) Z0b) Z0b) Z0d))))) rfl (.inl rfl))
  (@Z1c _ _ _ _ _ (@Z0q _ _ 4 _ _ _ _ nd rfl (Or.inl rfl) (Z0l cJ hr rfl (Z0a (Z2q Z8u (pv 0) (Z2i Z0b) (Z2i (Z0h Z1b Z0b (@Z0m _ _ _ _ _ _ _ Z0z (@Z3b _ _ _ _ (@Z0a _ _ _ _ _ Z0b (@Z0a _ _ _ _ _ Z0b Z0d rfl) rfl)) (Z4z X0q rfl B.int boot_int (@Z0a _ _ _ _ _ (Z1p Y2e (pv 2) Z0b (nomark _)) Z0d rfl)) (λ_ _=>rfl))))) (Z0a (pv 2) Z0d))) rfl (.inl rfl))
  (@Z0e _ _ _ _ _ (@Z0q _ _ 5 _ _ _ _ nd rfl (Or.inl rfl) (Z0l dL hr rfl (Z0a (pv 3) Z0d)) rfl (.inl rfl))
  (@Z0e _ _ _ _ _ (@Z0q _ _ 6 _ _ _ _ nd rfl (Or.inr rfl) (Z0l eK hr rfl (Z0a (pv 3) (Z0a (pv 4) Z0d))) rfl (.inl rfl))
  (@Z0e _ _ _ _ _ (@Z0q _ _ 7 _ _ _ _ nd rfl (Or.inl rfl) (Z0l dL hr rfl (Z0a (pv 6) Z0d)) rfl (.inl rfl))
  (@Z0e _ _ _ _ _ (Z0w (PW.pt (Z3y (Z1y (Z1n (Z0l cN hr rfl (Z0a (pv 7) (Z0a (pv 2) Z0d))))) (Z3x (Z1y (Z1n (Z0l cN hr rfl (Z0a (pv 5) (Z0a (pv 2) Z0d))))))))
   (@Z0f _ _ _ (Z0k Z3g))
   Z0o)
  (@Z0e _ _ _ _ _ (Z0w (Z1y (Z1n (Z0r (Z2f rfl) rfl B.all q6o (Z0a (Z3k rfl (LcOk.of (Nc:=["_law_mark","_law_behind"]) (mp:=[none,some 6]) (by kernel_rfl)) (Z1e (pv 7)) (λ_ _ _ _=>(Z0p (i:=0) (show (["_law_mark","_law_behind"]:W0).Nodup by decide +kernel) rfl (Or.inl rfl))) (λ_ _ _ _=>(Z0l dS hr rfl (Z0a (pv 1) (Z0a (pv 0) Z0d))))) Z0d))))
   (@Z0f _ _ _ (Z0k Z3g))
   Z0o)
  (@Z0f _ _ _ (Z0k (Z1p (X6x hr.units) (pv 7) (Z0l cY hr rfl (Z0a (Z0l dZ hr rfl (Z0a (pv 5) (Z0a (pv 4) Z0d))) (Z0a (pv 2) Z0d))) (nomark _))))))))))))),?_⟩
 try dsimp only[cxK]
 refine⟨λσ H'=>H'=H/\∃ hd:Int,σ=[some (.ref sa),some (.int hd),none,none,none,none,none,none],⟨_,Z,sa,ns,_,Z,hS,by omega,Z,_,Z⟩,?_⟩
 rintro σ1 H1 ⟨rfl,hd,rfl⟩
 refine⟨λσ H'=>H'=H1/\∃ c:Nat,1<=c/\c<=6/\σ=[some (.ref sa),some (.int hd),some (.int c),none,none,none,none,none],⟨_,Z,hd,Z,λc c1 c6=>⟨_,_,Z,?_⟩⟩,?_⟩
 ·have e1:(1:Int)<=(if (5:Int)<(c:Int) then 5 else (c:Int)):=by split<;>omega
  have e2:(if (5:Int)<(c:Int) then 5 else (c:Int))<=6:=by split<;>omega
  refine⟨Z,(if (5:Int)<(c:Int) then 5 else (c:Int)).toNat,by omega,by omega,?_⟩
  rw[q5h (by omega)]
  rfl
 rintro σ2 H2 ⟨rfl,c,c1,c6,rfl⟩
 have p6:=pow6 c6
 refine⟨λσ H'=>Same H2 H'/\∃ (lb:W9) (ps:U3) (f:Nat->A5),Bv H' lb ps f c/\Oks c f/\V.Nz c f/\σ=[some (.ref sa),some (.int hd),some (.int c),some (.ref lb),none,none,none,none],?_,?_⟩
 ·have e0:=q2z (hd / 144) (show (6:Int)≠0 by decide)
  have e1:=q3a (hd / 144) (show (0:Int)<6 by decide)
  exact⟨_,Z,_,Z,_,Z,_,_,Z,Z,⟨by decide,by decide⟩,_,_,Z,Z,(by decide:(0:Int)<6),sa,ns,c,_,Z,hS,lt,by omega,c1,c6,by omega,by omega,λlb H3 ps f _ S3 B3 A3 N3=>⟨S3,lb,ps,f,B3,A3,N3,Z⟩⟩
 rintro σ3 H3 ⟨S3,lb,ps,f,B3,O3,N3,rfl⟩
 have A3:Ams c f:=λw hw=>(O3 w hw).amt
 have oz:=Y8d A3
 have nv:=W0s A3 N3
 refine⟨λσ H'=>Same H3 H'/\∃ (lw:W9) (rp:U3) (ms:List Gm),Rw H' lw rp ms c/\ms.length<=63/\(∀ m∈ms,Bg m)/\σ=[some (.ref sa),some (.int hd),some (.int c),some (.ref lb),some (.ref lw),none,none,none],?_,?_⟩
 ·refine⟨_,Z,_,Z,t2,λlc hlc=>?_⟩
  have s4:=Z0g hlc (.lst [.int 24,.int 4])
  have go:∀ (H':Hp) (hi:Int) (cp:W9),Same H3 H'->H' cp=some (.lst (cutV (ns.map V.int) (some 16) (some hi)))->∃ dr:List Int,SqL K H' cp (dr.map V.int)/\dr.length<=63:=λH' hi cp _ hcp=>by
   obtain⟨dr,edr,ldr⟩:=Z9n ns (some 16) (some hi)
   rw[edr] at hcp
   exact⟨dr,SqL.of hcp,by omega⟩
  have ix:∃ v:Int,atI [V.int 24,.int 4] (if decide ((3:Int)<(c:Int))=true then 1 else 0)=some (.int v):=by
   by_cases c3:(3:Int)<(c:Int)
   ·rw[if_pos (q1f c3)];exact⟨4,Z⟩
   ·rw[if_neg (by rw[q0w c3];decide)];exact⟨24,Z⟩
  obtain⟨v,hv⟩:=ix
  refine⟨_,Z,_,_,Z,Z,.inr ⟨_,Z,lc,_,_,.int v,Z,Z,SqL.of Z0c,hv,_,_,Z,Z,_,Z,sa,_,Z,(S3.trans s4).seq hS,λcp hcp=>?_⟩⟩
  have s5:=s4.trans (Z0g hcp (.lst (cutV (ns.map V.int) (some 16) (some (16+v)))))
  obtain⟨dr,SD,ldr⟩:=go _ (16+v) cp s5 Z0c
  refine⟨_,Z,cp,dr,c,Z,SD,ldr,c1,c6,λlw H6 rp ms S6 RW ml bg=>?_⟩
  exact⟨s5.trans S6,lw,rp,ms,RW,by omega,bg,Z⟩
 rintro σ4 H4 ⟨S4,lw,rp,ms,RW,m63,bg,rfl⟩
 have B4:=B3.same S4
 have S24:=S3.trans S4
 refine⟨_,Z,lb,ps,f,c,Z,B4.bo,c1,c6,oz,nv,λla H5 qa S fra S5 h5 MK KP=>?_⟩
 have B5:=B4.same S5
 have BD5:Bd5 K H5 lb ps f c 127500 206:=⟨B5.lst,B5.len,B5.bo.vals,O3⟩
 have RW5:=RW.same S5
 refine⟨_,Z,_,Z,lb,lw,ps,rp,f,c,127500,206,ms,Z,RW5,BD5,c6,by decide,by decide,λrb H6 qb g frb S6 BD6 ST=>?_⟩
 have A6:Ams c g:=λw hw=>(BD6.ok w hw).amt
 have N6:V.Nz c g:=by
  apply Classical.byContradiction
  intro no
  obtain⟨w1,hw1,n1⟩:=N3
  exact n1 (Z8o c6 RW.ok A3 ST (λw hw=>Classical.byContradiction λz=>no ⟨w,hw,z⟩) w1 hw1)
 have oz6:=Y8d A6
 have nv6:=W0s A6 N6
 have BO6:Bo K H6 rb qb g c:=⟨BD6.lst,BD6.len,BD6.vals⟩
 refine⟨_,Z,rb,qb,g,c,Z,BO6,c1,c6,oz6,nv6,λlt' H7 qt T frt S7 h7 MT KT=>?_⟩
 have KR:=KP.kr c6 nv
 have TR:=KT.kr c6 nv6
 have S57:=S6.trans S7
 refine⟨_,Z,_,Z,lt',qt,T,c,Z,h7,MT,λm hm=>⟨(TR.ok m hm).1,(TR.ok m hm).2.2⟩,KT.red,TR.len,c6,λH8 S8=>⟨_,Z,iteF ?_⟩⟩
 have S58:=S57.trans S8
 refine⟨_,Z,_,Z,la,qa,S,c,Z,S58 _ _ h5,MK.same S58,λm hm=>⟨(KR.ok m hm).1,(KR.ok m hm).2.2⟩,KP.red,KR.len,c6,λH9 S9=>⟨_,Z,iteF ?_⟩⟩
 have S79:=S8.trans S9
 have h9:=S79 _ _ h7
 have MT9:=MT.same S79
 have BO9:=BO6.same (S7.trans S79)
 have SR:SqL K H9 lt' (qt.map V.ref):=SqL.of h9
 have lq:=MT9.length
 refine⟨_,Z,lt',Z,⟨_,SR⟩,λacc hacc=>?_⟩
 refine Z2u (K:=K) (a:=lt') (xs:=qt.map V.ref) (fr:=[some (.ref rb)]) (λi ys H'=>Same H9 H'/\H' acc=some (.lst ys)/\ys=(List.replicate i true).map V.bl) (by rw[q0a,lq];exact q1i TR.len (by decide)) ⟨Z0g hacc _,Z0c,Z⟩ (λi ys H' e=>e.1.seq SR) ?_ ?_
 ·rintro i x ys H10 N hx hy ⟨S10,a10,rfl⟩ kN
  rw[q0c] at hx
  obtain⟨p,hp,rfl⟩:=q0h.mp hx
  obtain⟨m,hmi,pm⟩:=MT9.get hp
  obtain⟨om,km,em⟩:=TR.ok m (q0y hmi)
  refine⟨_,Z,_,Z,rb,p,qb,g,c,m,Z,BO9.same S10,c6,SqT.of (S10 _ _ pm),om.f,λb H11 S11 hb=>?_⟩
  rw[hb.mpr km]
  refine kN _ _ (S11 _ _ a10) ⟨Z0s (S10.trans S11) hacc,Z0c,?_⟩
  rw[q4c,q0i]
  rfl
 rintro ys H10 hy ⟨S10,a10,rfl⟩
 refine⟨acc,_,Z,SqL.of a10,_,Z,blI (λz=>absurd z (by rw[Z4k];exact q0p)) (λ_=>?_)⟩
 have S510:=(S58.trans S9).trans S10
 have RW10:=RW5.same S510
 have okr:∀ x∈ms.map K63S.ug,M72.VOk c x:=λx hx=>by
  obtain⟨m,hm,rfl⟩:=q1q.mp hx
  exact K63S.W2r (RW.ok m hm)
 have brr:∀ x∈ms.map K63S.ug,M75.Br x:=λx hx=>by
  obtain⟨m,hm,rfl⟩:=q1q.mp hx
  exact K63S.W2s (bg m hm)
 have er:(ms.map K63S.ug).map K63S.gm=ms:=by
  rw[q2v]
  exact(q5g λm _=>K63S.W3y m).trans (List.map_id _)
 have KC:=K63S.moved c6 nv nv6 okr brr A3 (by rw[er];exact ST) (KP.kc c6 nv)
 have TB:=KC.ks.tb c6 nv6
 refine⟨_,Z,_,Z,_,Z,la,lw,qa,S,ms.map K63S.ug,c,Z,SqL.of (S510 _ _ h5),Y4n (MK.same S510),q1i KR.len (by decide),K63S.X9y RW10,λm hm=>⟨(KR.ok m hm).1.q,(KR.ok m hm).1.f,(KR.ok m hm).1.s⟩,c6,okr,brr,by rw[q0a];omega,λr H11 qs frs S11 h11 P11=>?_⟩
 refine⟨_,Z,r,qs,S.map (M75.mvds (ms.map K63S.ug)),c,Z,⟨h11,Y4f P11,λm hm=>⟨(KC.ks.ok m hm).1.q,(KC.ks.ok m hm).1.f,(KC.ks.ok m hm).1.s⟩,TB,M82.len12 TB⟩,c1,c6,λr2 H12 qs2 S2 S12 fr2 h12 M12 DM ll pw=>?_⟩
 have eS:T=S2:=KT.uniq c6 nv6 ⟨⟨_,KC,DM,ll⟩,pw⟩
 subst eS
 have S912:=(S10.trans S11).trans S12
 refine⟨lt',r2,qt,qs2,_,_,Z,Z,S912 _ _ h9,h12,(MT9.same S912).rows,M12.rows,?_⟩
 show Q (.bl (decide (T.map K63T.rowM=T.map K63T.rowM))) H12
 rw[q1f rfl]
 exact fin _
end
end K63
noncomputable section
namespace K63
open L2 Ba
theorem W2l {l:PySem.W.OpenLaw}{w:W1}{K:U0}{h:Heap}{mg:U4}{fa f:W9}(X:K.In h)(G:Ng h mg)(hfa:mg "law"=some (.ref fa))
  {od an:W5}{sl:W4}{oc kV dc pm cd ct:W2}{aN aO aZ Dd:W9}{odO odZ odD:W5}{slO slZ slD:W4}{ocD:W2}{nO nZ nD:Nat}{d0 o1 o2 o3 o4 o5 y1 y2 y3 y4 y5:Tok}{nN:Nat}{a1 a2 a3 a4 a5 a6 a7 b1 b2 b3 b4 b5 b6 b7 tM:Tok}{aP:W9}{odP:W5}{slP:W4}{nP:Nat}{q0 q1 q2 tF:Tok}
  (aL:PySem.W.nsIn K mainGlobals "law"=some (some (.ref f))) (lL:K.lookup f=some ⟨oc,od,.func (PySem.W.fnOf "law" "law" (Z1m (top 100)) (Z1h (top 100)) (Z0i (top 100)) .none kV dc pm an cd ct),sl⟩) (cL:PySem.W.codeIn K cd "law"=true) (kL:PySem.W.keepIn K (.ref f)=true)
  (t8:FunAt K "is_whole" (top 8) .none)
  (t10:FunAt K "halved_out" (top 10) .none)
  (t11:FunAt K "plus" (top 11) .none)
  (t12:FunAt K "minus" (top 12) .none)
  (t13:FunAt K "spun" (top 13) .none)
  (t14:FunAt K "spun_once" (top 14) .none)
  (t15:FunAt K "rooted" (top 15) .none)
  (t17:FunAt K "ones" (top 17) .none)
  (t18:FunAt K "is_word" (top 18) .none)
  (t19:FunAt K "is_mark" (top 19) .none)
  (t20:FunAt K "is_even" (top 20) .none)
  (t21:FunAt K "is_even_mark" (top 21) .none)
  (t22:FunAt K "commute" (top 22) .none)
  (t23:FunAt K "product" (top 23) .none)
  (t24:FunAt K "turned_about" (top 24) .none)
  (t29:FunAt K "start" (top 29) (.ref Dd))
  (t30:FunAt K "check_beginning" (top 30) .none)
  (t31:FunAt K "cells_of" (top 31) .none)
  (t33:FunAt K "solved" (top 33) .none)
  (t34:FunAt K "cleared" (top 34) .none)
  (t35:FunAt K "places_at_one" (top 35) .none)
  (t36:FunAt K "solution" (top 36) .none)
  (t40:FunAt K "is_table" (top 40) .none)
  (t41:FunAt K "commutes_with_all" (top 41) .none)
  (t42:FunAt K "check_table" (top 42) .none)
  (t43:FunAt K "reduced" (top 43) .none)
  (t44:FunAt K "without_lead" (top 44) .none)
  (t45:FunAt K "lead" (top 45) .none)
  (t46:FunAt K "least_cell" (top 46) .none)
  (t47:FunAt K "has_at_lead" (top 47) .none)
  (t48:FunAt K "made_of" (top 48) .none)
  (t49:FunAt K "rows_with" (top 49) .none)
  (t50:FunAt K "product_of" (top 50) .none)
  (t51:FunAt K "apart_by" (top 51) .none)
  (t53:FunAt K "keepers" (top 53) .none)
  (t54:FunAt K "keepers_with" (top 54) .none)
  (t55:FunAt K "spins_on" (top 55) .none)
  (t56:FunAt K "has_spins" (top 56) .none)
  (t59:FunAt K "check_move" (top 59) .none)
  (t60:FunAt K "has_move_form" (top 60) .none)
  (t61:FunAt K "named_cells" (top 61) .none)
  (t62:FunAt K "turned" (top 62) .none)
  (t63:FunAt K "mixed" (top 63) .none)
  (t64:FunAt K "mixed_at" (top 64) .none)
  (t65:FunAt K "spun_where" (top 65) .none)
  (t66:FunAt K "word_behind" (top 66) .none)
  (t67:FunAt K "exchanged" (top 67) .none)
  (t69:FunAt K "run" (top 69) .none)
  (t71:FunAt K "borne" (top 71) .none)
  (t72:FunAt K "is_borne" (top 72) .none)
  (t73:FunAt K "is_odd_turn" (top 73) .none)
  (t74:FunAt K "moved_rows" (top 74) .none)
  (t75:FunAt K "check_borne" (top 75) .none)
  (t76:FunAt K "moved_through" (top 76) .none)
  (t77:FunAt K "moved_by" (top 77) .none)
  (t78:FunAt K "moved_by_mix" (top 78) .none)
  (t79:FunAt K "moved_by_turn" (top 79) .none)
  (t80:FunAt K "moved_by_if" (top 80) .none)
  (t81:FunAt K "moved_by_pair" (top 81) .none)
  (t83:FunAt K "_law_cell_at" (top 83) .none)
  (t84:FunAt K "_law_whole" (top 84) .none)
  (t85:FunAt K "_law_cells_by" (top 85) .none)
  (t86:FunAt K "_law_low" (top 86) .none)
  (t87:FunAt K "_law_spin" (top 87) .none)
  (t88:FunAt K "_law_amount_by" (top 88) .none)
  (t89:FunAt K "_law_board_by" (top 89) .none)
  (t91:FunAt K "_law_bits" (top 91) .none)
  (t92:FunAt K "_law_times" (top 92) .none)
  (t93:FunAt K "_law_move_by" (top 93) .none)
  (t94:FunAt K "_law_plain_row" (top 94) .none)
  (t95:FunAt K "_law_held_board" (top 95) .none)
  (t96:FunAt K "_law_keeps" (top 96) .none)
  (t97:FunAt K "_law_lead" (top 97) .none)
  (t98:FunAt K "_law_is_mark" (top 98) .none)
  (t99:FunAt K "_law_is_reduced" (top 99) .none)
  (z0:PySem.W.nsIn K mainGlobals "isinstance"=some none)
  (z1:PySem.W.nsIn K mainGlobals "int"=some none)
  (z2:PySem.W.nsIn K mainGlobals "bool"=some none)
  (z3:PySem.W.nsIn K mainGlobals "tuple"=some none)
  (z4:PySem.W.nsIn K mainGlobals "list"=some none)
  (z5:PySem.W.nsIn K mainGlobals "len"=some none)
  (z6:PySem.W.nsIn K mainGlobals "range"=some none)
  (z7:PySem.W.nsIn K mainGlobals "all"=some none)
  (z8:PySem.W.nsIn K mainGlobals "any"=some none)
  (z9:PySem.W.nsIn K mainGlobals "max"=some none)
  (z10:PySem.W.nsIn K mainGlobals "min"=some none)
  (z11:PySem.W.nsIn K mainGlobals "zip"=some none)
  (z12:PySem.W.nsIn K mainGlobals "set"=some none)
  (z13:PySem.W.nsIn K mainGlobals "str"=some none)
  (z14:PySem.W.nsIn K mainGlobals "enumerate"=some none)
  (z15:PySem.W.nsIn K mainGlobals "reversed"=some none)
  (z16:PySem.W.nsIn K mainGlobals "sorted"=some none)
  (z17:PySem.W.nsIn K mainGlobals "sum"=some none)
  (gM0:PySem.W.nsIn K mainGlobals "MOST_CELLS"=some (some (.int 6 tM)))
  (tD:K.lookup Dd=some ⟨ocD,odD,.seq #[.int 0 d0] nD,slD⟩)
  (gO0:PySem.W.nsIn K mainGlobals "ONE"=some (some (.ref aO)))
  (tO:K.lookup aO=some ⟨.type "tuple",odO,.seq #[.int 1 o1,.int 0 o2,.int 0 o3,.int 0 o4,.int 0 o5] nO,slO⟩)
  (gZ0:PySem.W.nsIn K mainGlobals "NOUGHT"=some (some (.ref aZ)))
  (tZ:K.lookup aZ=some ⟨.type "tuple",odZ,.seq #[.int 0 y1,.int 0 y2,.int 0 y3,.int 0 y4,.int 0 y5] nZ,slZ⟩)
  (gN0:PySem.W.nsIn K mainGlobals "NUMBERS_BEHIND"=some (some (.ref aN)))
  (tN:K.lookup aN=some ⟨.type "dict",none,.dict #[⟨PyData.keyHash w.params "flip",.str "flip" a1,.int 1 b1⟩,⟨PyData.keyHash w.params "mix",.str "mix" a2,.int 1 b2⟩,⟨PyData.keyHash w.params "turn",.str "turn" a3,.int 2 b3⟩,⟨PyData.keyHash w.params "if",.str "if" a4,.int 2 b4⟩,⟨PyData.keyHash w.params "pair",.str "pair" a5,.int 2 b5⟩,⟨PyData.keyHash w.params "swap",.str "swap" a6,.int 2 b6⟩,⟨PyData.keyHash w.params "cross",.str "cross" a7,.int 3 b7⟩] nN,#[]⟩)
  (nN0:(aN == sysModules)=false)
  (gP0:PySem.W.nsIn K mainGlobals "PRODUCT_OF_NONE"=some (some (.ref aP)))
  (tP:K.lookup aP=some ⟨.type "tuple",odP,.seq #[.int 0 q0,.int 0 q1,.int 0 q2] nP,slP⟩)
  (gF0:PySem.W.nsIn K mainGlobals "FIRST_SIGN_LEAD"=some (some (.int 6 tF)))
  : ∃ fd:FuncData,(∀ (s:U7) (v:W2),BindsTo s fd ⟨[v],[]⟩ [("_law_script",v)])/\∀ base:Heap,K.In base->base.Ns mainGlobals mg->FnOk l.prog w K mg base CX0 9 fa fd ["_law_script"] (spLaw K 63):=by
 have e:=hfa.symm.trans (q4i X G aL)
 cases e
 have F:=W1q (st:=top 100) lL cL kL
 have B:Bs mg:=⟨q1e X G z0,q1e X G z1,q1e X G z2,q1e X G z3,q1e X G z4,q1e X G z5,q1e X G z6,q1e X G z7,q1e X G z8,q1e X G z9,q1e X G z10,q1e X G z11,q1e X G z12,q1e X G z13,q1e X G z14,q1e X G z15,q1e X G z16,q1e X G z17⟩
 refine⟨PySem.W.fnOf "law" "law" (Z1m (top 100)) (Z1h (top 100)) (Z0i (top 100)) .none kV dc pm an cd ct,λs v=>.of_eq rfl,λbase _ _=>?_⟩
 have gN:=q4i X G gN0
 have gP:=q4i X G gP0
 have gF:=q4i X G gF0
 have gZ:=q4i X G gZ0
 have sP:∀ H:Hp,SqT K H aP (K63T.L3 (0,0,0)):=λH=>.inr ⟨_,_,_,tP,Z,Z,(by show 3<=sizeLine;decide),.cons ⟨_,Z⟩ (.cons ⟨_,Z⟩ (.cons ⟨_,Z⟩ .nil))⟩
 have BT:K63T.Bs mg:=⟨B.isinstance,B.int,B.bool,B.tuple,B.list,B.len,B.range,B.enumerate,B.sorted,B.sum,B.str,B.all,B.any,B.min,B.max⟩
 have DN:KDic K w.params aN NB:=⟨⟨_,_,_,tN,⟨Z,Z,Z⟩,Z,.cons ⟨_,_,Z⟩ (.cons ⟨_,_,Z⟩ (.cons ⟨_,_,Z⟩ (.cons ⟨_,_,Z⟩ (.cons ⟨_,_,Z⟩ (.cons ⟨_,_,Z⟩ (.cons ⟨_,_,Z⟩ .nil))))))⟩,by decide +kernel,nN0⟩
 have c10:=X7i (P:=l.prog) (w:=w) (base:=base) (k:=0) t10 X G B
 have c14:=X7b (P:=l.prog) (w:=w) (base:=base) (k:=0) t14 X G
 have c15:=Y8g t15 X G c10
 have c13:=X6y t13 X G B c14
 have c11:=X6z t11 X G B c10
 have c12:=X2h t12 X G c11 c13
 have c8:=Y5t (P:=l.prog) (w:=w) (base:=base) (k:=0) t8 X G B
 have c31:=Y5w (P:=l.prog) (w:=w) (base:=base) (k:=0) t31 X G B
 have c61:=X2e (P:=l.prog) (w:=w) (base:=base) (k:=0) t61 X G B
 have c60:=X7j t60 X G B gN DN c8
 have c59:=X2n t59 X G B c60 (c61.mono (by decide))
 have c64:=Y5s t64 X G (c15.mono (by decide)) c12 (c11.mono (by decide))
 have c63:=X2g t63 X G B c64
 have c67:=X7k (P:=l.prog) (w:=w) (base:=base) (k:=0) t67 X G
 have c66:=Y8u t66 X G c61 c67
 have c65:=X1y t65 X G B c13
 have c62:=Y8e (k:=5) t62 X G B (c59.mono (by decide)) (c31.mono (by decide)) c63 (c65.mono (by decide)) (c66.mono (by decide))
 have c69:=W0l t69 X G B c62
 have c83:=X7l (P:=l.prog) (w:=w) (base:=base) (k:=0) t83 X G B
 have c84:=X1x (P:=l.prog) (w:=w) (base:=base) (k:=0) t84 X G B
 have c86:=W0n (P:=l.prog) (w:=w) (base:=base) (k:=0) t86 X G B
 have spk:=X2c (P:=l.prog) (w:=w) (base:=base) (k:=0) t87 X G B
 have c87:Cal l.prog w K mg base 1 "_law_spin" ["_law_one","_law_k"] spSpin:=spk.imp λvs H Q E h=>by obtain⟨p,x,k,rfl,hp,q⟩:=h;exact⟨p,x,k,Z,At5.of hp,q⟩
 have c93:=Y8k (P:=l.prog) (w:=w) (base:=base) (k:=0) t93 X G B
 have iw:Cal l.prog w K mg base 1 "is_whole" ["thing"] K63T.Z3j:=c8
 have iword:=K63T.Y8n t18 X G iw
 have c18:Cal l.prog w K mg base 2 "is_word" ["thing","cells"] spWord:=iword.imp λvs H Q E h=>by obtain⟨x,c,rfl,_,hx,q⟩:=h;exact⟨x,c,Z,hx,q⟩
 have c30:=X2r (q4i X G gM0) t30 X G (c8.mono (by decide)) c18
 have c29:=X2a t29 (Y2u tD) X G B (q4i X G gO0) gZ (kept5 tO) (kept5 tZ) c30
 have c17:=K63T.X7a (P:=l.prog) (w:=w) (base:=base) (k:=0) t17 X G
 have c23:=K63T.Y5q t23 X G c17
 have c34:=K63T.Y5v (P:=l.prog) (w:=w) (base:=base) (k:=0) t34 X G
 have c35:=K63T.Y8i (P:=l.prog) (w:=w) (base:=base) (k:=0) t35 X G BT
 have c36:=K63T.Y2h t36 X G BT c17
 have c33:=K63T.Y8f (k:=2) t33 X G BT (c34.mono (by decide)) (c35.mono (by decide)) c36
 have c49:=K63T.Y2i (P:=l.prog) (w:=w) (base:=base) (k:=0) t49 X G BT
 have c50:=K63T.Y8h t50 X G gP sP c23
 have c51:=K63T.X2s t51 X G BT c17
 have c48:=K63T.Y8l (k:=3) t48 X G BT (c49.mono (by decide)) c33 (c51.mono (by decide)) c50
 have c46:=K63T.X2j (P:=l.prog) (w:=w) (base:=base) (k:=0) t46 X G
 have c45:=K63T.X7c t45 X G gF c46
 have c47:=K63T.W0p (P:=l.prog) (w:=w) (base:=base) (k:=0) t47 X G gF
 have c44:=K63T.Y5n (k:=2) t44 X G (c47.mono (by decide)) c45 c23
 have c19:=K63T.Y8o (k:=2) t19 X G BT (iw.mono (by decide)) iword
 have c20:=K63T.Y8p t20 X G c17
 have c21:=K63T.X2m (k:=3) t21 X G c19 (c20.mono (by decide))
 have c22:=K63T.Y2j t22 X G c17
 have c41:=K63T.Y8q t41 X G BT c22
 have c40:=K63T.Y5u (k:=4) t40 X G BT (iw.mono (by decide)) c21 (c41.mono (by decide)) c48
 have c42:=K63T.Y8r t42 X G c40
 have c43:=K63T.Y5p (k:=4) t43 X G BT c42 (c44.mono (by decide)) (c45.mono (by decide))
 have c55:=X2b gZ (kept5 tZ) t55 X G B c13
 have c56:=X7h t56 X G c17
 have c54:=W3a (k:=3) t54 X G B c55 (c17.mono (by decide)) (c56.mono (by decide))
 have c53:=X7d (k:=7) t53 X G B (c31.mono (by decide)) (c54.mono (by decide)) (c48.mono (by decide)) c43
 have c91:=X7n (P:=l.prog) (w:=w) (base:=base) (k:=0) t91 X G
 have c85:=X2o (P:=l.prog) (w:=w) (base:=base) (k:=0) t85 X G
 have c88:=V.X2t t88 X G B c86 c87
 have c89:=V.X7o (k:=2) t89 X G B (c83.mono (by decide)) c88
 have c92:=Y8m t92 X G B c86
 have c94:=X2d t94 X G B c93
 have c95:=X7g (k:=7) t95 X G B (c83.mono (by decide)) (c88.mono (by decide)) (c89.mono (by decide)) (c87.mono (by decide)) (c93.mono (by decide)) (c94.mono (by decide)) (c92.mono (by decide)) (c29.mono (by decide)) c69
 have c96:=X2k t96 X G B spk c91
 have c97:=X2i (P:=l.prog) (w:=w) (base:=base) (k:=0) t97 X G B
 have c98:=X7e t98 X G B c84 c91
 have c99:=X2l (k:=2) t99 X G B (c97.mono (by decide)) c98
 have c24:=K63S.X2u (P:=l.prog) (w:=w) (base:=base) (k:=0) t24 X G
 have c78:=K63S.X2p t78 X G c24
 have c79:=K63S.Y8s (P:=l.prog) (w:=w) (base:=base) (k:=0) t79 X G
 have c80:=K63S.X7m (P:=l.prog) (w:=w) (base:=base) (k:=0) t80 X G
 have c81:=K63S.Y8t t81 X G c24
 have c77:=K63S.Y5r (k:=2) t77 X G (c24.mono (by decide)) c78 (c79.mono (by decide)) (c80.mono (by decide)) c81 (c67.mono (by decide))
 have c76:=K63S.Y5o t76 X G c77
 have c73:=K63S.W0m (P:=l.prog) (w:=w) (base:=base) (k:=0) t73 X G
 have c72:=K63S.X7f t72 X G c73
 have c71:=K63S.X2q t71 X G B c72
 have c75:=K63S.W0q t75 X G c71
 have c74:=K63S.X2f (k:=4) t74 X G B c75 c76
 exact W0o (k:=8) (by decide) F B (c83.mono (by decide)) (c85.mono (by decide)) c95 (c94.mono (by decide)) c53 (c69.mono (by decide)) (c99.mono (by decide)) (c96.mono (by decide)) (c74.mono (by decide)) (c43.mono (by decide))
theorem walk {l:PySem.W.OpenLaw}{q:U8}{loose:W0}{XP:(Str->Option Value)->Heap->Prop}{YP:World->Heap->Prop}{d:DefRec}{K:Params->U0}(hn:l.most=some 63)(hdf:d.params.defaults=[])
  (hY:∀ (w:W1) (h:Heap),YP w h->(K w.params).In h)
  (F:∀ (w:W1) (mg:U4) (fa:W9) (h:Heap),(K w.params).In h->h.Ns mainGlobals mg->mg d.name=some (.ref fa) →
   ∃ fd:FuncData,(∀ (s:U7) (u:W2),BindsTo s fd ⟨[u],[]⟩ [("_law_script",u)])/\∀ base:Heap,(K w.params).In base->base.Ns mainGlobals mg->FnOk l.prog w (K w.params) mg base CX0 9 fa fd ["_law_script"] (spLaw (K w.params) 63)) :
  PySem.W.WalkO q loose XP YP l.row.toRowW d [] (λf vs=>PySem.call f vs) :=
 L2.Y5h (n:=63) (k:=9) (x:="_law_script") (CX:=λ_=>CX0) (sp:=λw=>spLaw (K w.params) 63) hn (by decide) hdf ⟨Z,by decide,by decide⟩ hY F (λ_ _ a ns hl lt hS=>⟨a,ns,Z,hS,hl,lt,λ_=>rfl⟩) λ_ _ _ _ _ z=>z
end K63
open PySem.W
set_option maxRecDepth 100000 in
set_option maxHeartbeats 0 in
theorem PySem.Challenge.cw_spinboard_k63_whole_keepers_go_with_the_holds : PySem.Challenge.rw_spinboard_k63_whole_keepers_go_with_the.Holds := by
 refine holds_law K63.Hd.said_ λsaid=>?_
 refine holds_open (q:=K63.Hd.qq) (loose:=K63.Hd.loose) (Xt:=K63.Hd.Xt) (XP:=XL K63.Hd.qq K63.Hd.lv) (Yf:=K63.Hd.HH.obs) (Ya:=K63.Hd.HH.val) (YP:=K63.Hd.HH.says) (d:=⟨"law",L2.Z1m (K63.top 100),L2.Z1h (K63.top 100),L2.Z0i (K63.top 100),K63.Hd.dPos (K63.top 100)⟩) (kwd:=[]) (N:=K63.Hd.NN) K63.Hd.left_ K63.Hd.HH.of K63.Hd.HH.keeps (λs e=>xl_of s (Bool.and_eq_true_iff.mp e).1) XL.keeps (by kernel_rfl) (by kernel_rfl) (by kernel_rfl) (λs e=>recFacts_of (Bool.and_eq_true_iff.mp e).2) (by kernel_rfl) said (by kernel_rfl) ⟨Z,Z,Z,Z,Z,by decide +kernel⟩ ?hw ?hc
 case hw=>w_witness2
 refine K63.walk (l:=PySem.Challenge.rw_spinboard_k63_whole_keepers_go_with_the) rfl rfl (λw h Y=>PySem.W.kIn_of Y) ?F
 case F =>
  intro w mg fa h KX G hmg
  refine' K63.W2l (K:=K63.Hd.KK w.params) (f:=588) (aN:=343) (aO:=199) (aZ:=198) (Dd:=200) (aP:=246) (tM:=439) (tF:=508) KX G hmg ?aL (K63.Hd.k588 _) ?cL ?kL (K63.Hd.f8 _) (K63.Hd.f10 _) (K63.Hd.f11 _) (K63.Hd.f12 _) (K63.Hd.f13 _) (K63.Hd.f14 _) (K63.Hd.f15 _) (K63.Hd.f17 _) (K63.Hd.f18 _) (K63.Hd.f19 _) (K63.Hd.f20 _) (K63.Hd.f21 _) (K63.Hd.f22 _) (K63.Hd.f23 _) (K63.Hd.f24 _) (K63.Hd.f29 _) (K63.Hd.f30 _) (K63.Hd.f31 _) (K63.Hd.f33 _) (K63.Hd.f34 _) (K63.Hd.f35 _) (K63.Hd.f36 _) (K63.Hd.f40 _) (K63.Hd.f41 _) (K63.Hd.f42 _) (K63.Hd.f43 _) (K63.Hd.f44 _) (K63.Hd.f45 _) (K63.Hd.f46 _) (K63.Hd.f47 _) (K63.Hd.f48 _) (K63.Hd.f49 _) (K63.Hd.f50 _) (K63.Hd.f51 _) (K63.Hd.f53 _) (K63.Hd.f54 _) (K63.Hd.f55 _) (K63.Hd.f56 _) (K63.Hd.f59 _) (K63.Hd.f60 _) (K63.Hd.f61 _) (K63.Hd.f62 _) (K63.Hd.f63 _) (K63.Hd.f64 _) (K63.Hd.f65 _) (K63.Hd.f66 _) (K63.Hd.f67 _) (K63.Hd.f69 _) (K63.Hd.f71 _) (K63.Hd.f72 _) (K63.Hd.f73 _) (K63.Hd.f74 _) (K63.Hd.f75 _) (K63.Hd.f76 _) (K63.Hd.f77 _) (K63.Hd.f78 _) (K63.Hd.f79 _) (K63.Hd.f80 _) (K63.Hd.f81 _) (K63.Hd.f83 _) (K63.Hd.f84 _) (K63.Hd.f85 _) (K63.Hd.f86 _) (K63.Hd.f87 _) (K63.Hd.f88 _) (K63.Hd.f89 _) (K63.Hd.f91 _) (K63.Hd.f92 _) (K63.Hd.f93 _) (K63.Hd.f94 _) (K63.Hd.f95 _) (K63.Hd.f96 _) (K63.Hd.f97 _) (K63.Hd.f98 _) (K63.Hd.f99 _) ?z0 ?z1 ?z2 ?z3 ?z4 ?z5 ?z6 ?z7 ?z8 ?z9 ?z10 ?z11 ?z12 ?z13 ?z14 ?z15 ?z16 ?z17 ?gM0 ?tD ?gO0 ?tO ?gZ0 ?tZ ?gN0 ?tN ?nN0 ?gP0 ?tP ?gF0
  (case aL=>kernel_rfl);(case cL=>kernel_rfl);(case kL=>kernel_rfl)
  (case z0=>kernel_rfl);(case z1=>kernel_rfl);(case z2=>kernel_rfl);(case z3=>kernel_rfl);(case z4=>kernel_rfl);(case z5=>kernel_rfl);(case z6=>kernel_rfl);(case z7=>kernel_rfl);(case z8=>kernel_rfl);(case z9=>kernel_rfl);(case z10=>kernel_rfl);(case z11=>kernel_rfl);(case z12=>kernel_rfl);(case z13=>kernel_rfl);(case z14=>kernel_rfl);(case z15=>kernel_rfl);(case z16=>kernel_rfl);(case z17=>kernel_rfl)
  (case gM0=>kernel_rfl)
  (case tD=>exact K63.Hd.k200 _);(case gO0=>kernel_rfl);(case tO=>exact K63.Hd.k199 _);(case gZ0=>kernel_rfl);(case tZ=>exact K63.Hd.k198 _)
  (case gN0=>kernel_rfl);(case tN=>exact K63.Hd.k343 _);(case nN0=>decide)
  (case gP0=>kernel_rfl);(case tP=>exact K63.Hd.k246 _);(case gF0=>kernel_rfl)
