import PyProof.Rows.All
import Wide.All
import OpenK.AllK
import Wide.FinOn
import Lean
import PyProof.EqAt
import PyProof.EqKinds
import PyProof.TupleCall
import PyProof.Rows.BitMore
import PyProof.ConsumeWalk
import PyProof.Rows.SetFrom
import PyProof.WalksMore
import PyProof.FactsAll.subtypes_4
import PyProof.Rows.SortWalk
import PyProof.Rows.TupDisplay
import PyProof.EnumMake
import PyProof.Rows.EnumRows
import PyProof.SumAny
import PyProof.Rows.MinMaxN
import PyProof.NeKinds
import PyProof.StationsW
import PyProof.ExcClass3
import PyProof.ExcBaseAll.ValueError
import PyProof.RulesAs
import PyProof.ExcArgsOwn
import PyProof.ExcAttrAll.ValueError
import PyProof.InstStoreFacts
import PyProof.ExcClass2
import PyProof.ExcInit
import PyProof.NsDelKeeps
import PyProof.Rows.CatchTuple
import PySem.Challenge.RW_spinboard_k64_whole_a_mark_ahead_of_a_ro
noncomputable section
open PySem PySem.Spec PyProof.Rows
theorem Z {α:Sort u}{a:α}:a=a:=rfl
abbrev U0:=PySem.W.Frag
abbrev U1:=List (Addr × Obj)
abbrev U2:=Value->Shared->Prop
abbrev U3:=List Addr
abbrev U4:=Str->Option Value
abbrev U5:=List Value
abbrev U6:=List Int
abbrev U7:=Shared
abbrev U8:=Program
abbrev U9:=Array Value
abbrev W0:=List Str
abbrev W1:=World
abbrev W2:=Value
abbrev W4:=Array (Option Value)
abbrev W5:=Option Addr
abbrev W6:=Around
abbrev W7:=List (Option Nat)
abbrev W8:=List Stmt
abbrev W9:=Addr
noncomputable abbrev Ng (h:Heap)(m:Str->Option Value):=h.Ns mainGlobals m
set_option linter.all false
section
open PySem.W
def q0a:=@List.length_map
def q0b:=@wpAny_bind
def q0c:=@Heap.get?_push_of_some
def q0d:=@List.getElem?_eq_getElem
def q0e:=@Heap.lt_size
def q0f:=@Nat.le_refl
def q0g:=@wpAny_pure
def q0h:=@List.size_toArray
def q0i:=@List.getD_eq_getElem?_getD
def q0j:=@decide_eq_false
def q0k:=@List.map_append
def q0l:=@Option.map_eq_some_iff
def q0m:=@Heap.get?_push_size
def q0n:=@List.getElem?_map
def q0o:=@List.getElem?_eq_some_iff
def q0p:=@Bool.false_ne_true
def q0q:=@List.mem_cons
def q0r:=@Nat.ne_of_lt
def q0s:=@Nat.lt_of_lt_of_le
def q0t:=@decide_eq_true
def q0u:=@List.not_mem_nil
def q0v:=@Nat.mod_two_eq_zero_or_one
def q0w:=@List.mem_of_getElem?
def q0x:=@List.length_append
def q0y:=@Bool.and_eq_true
def q0z:=@Array.length_toList
def q1a:=@PySem.W.mg_none_of
def q1b:=@List.mem_append_right
def q1c:=@PySem.boot_len
def q1d:=@Nat.zero_le
def q1e:=@List.mem_singleton
def q1f:=@List.take_add_one
def q1g:=@boot_isinstance
def q1h:=@Nat.testBit_xor
def q1i:=@wpAny_mono
def q1j:=@PySem.W.mg_of
def q1k:=@List.map_cons
def q1l:=@Int.eq_of_mul_eq_mul_right
def q1m:=@Nat.le_trans
def q1n:=@decide_eq_true_eq
def q1o:=@Int.toNat_natCast
def q1p:=@Array.getD_eq_getD_getElem?
def q1q:=@List.mem_range
def q1r:=@Int.le_refl
def q1s:=@PySem.W.kia_one
def q1t:=@wpAny_newObj_type
def q1v:=@Heap.get?_update_self
def q1w:=@wpAny_holding
def q1x:=@Nat.pow_le_pow_right
def q1y:=@Heap.get?_update_other
def q1z:=@Heap.size_push
def q2a:=@List.take_length
def q2b:=@wpAny_truthy_bool
def q2c:=@PySem.F.type_list_append
def q2d:=@PySem.F.slot_list_append
def q2e:=@or_false
def q2f:=@PySem.F.plainAttrs_list
def q2g:=@List.mem_append
def q2h:=@Int.emod_nonneg
def q2i:=@Int.emod_lt_of_pos
def q2j:=@List.mem_map
def q2k:=@List.length_cons
def q2l:=@List.all_eq_true
def q2m:=@of_decide_eq_true
def q2n:=@PySem.mem_of_lookup
def q2o:=@List.replicate_succ
def q2p:=@List.pairwise_iff_getElem
def q2q:=@Int.eq_of_mul_eq_mul_left
def q2r:=@Nat.xor_lt_two_pow
def q2s:=@Bool.false_eq_true
def q2t:=@segRun_of
def q2u:=@piece_app
def q2v:=@List.mem_cons_of_mem
def q2w:=@Nat.xor_assoc
def q2x:=@Nat.lt_irrefl
def q2y:=@Nat.ne_of_gt
def q2z:=@wpAny_loadPart_at
def q3a:=@Nat.lt_succ_of_lt
def q3b:=@wpAny_field
def q3c:=@Nat.two_pow_pos
def q3d:=@Nat.not_lt_zero
def q3e:=@List.append_nil
def q3f:=@wpAny_Call_Name_kw
def q3g:=@Option.toList_some
def q3h:=@Nat.lt_of_le_of_lt
def q3i:=@List.filter_append
def q3j:=@List.getElem?_set_ne
def q3k:=@wpAny_passesOwn
def q3l:=@Nat.testBit_and
def q3m:=@Bool.or_eq_true
def q3n:=@codeAny_mono
def q3o:=@Nat.zero_add
def q3p:=@List.map_map
def q3q:=@wpAny_callSpecial?_slot
def q3r:=@PySem.F.attr_ValueError
def q3s:=@Nat.testBit_two_pow
def q3t:=@wpAny_typeNameOfWhole_keyiter
def q3u:=@wpAny_call_entry
def q3v:=@List.length_take
def q3w:=@List.getElem_mem
def q3x:=@wpAny_setField
def q3y:=@of_decide_eq_false
def q3z:=@List.mem_cons_self
def q4a:=@PySem.F.slot_int_bit_length
def q4b:=@Option.map_some
def q4c:=@Nat.pow_pos
def q4d:=@List.mem_filter
def q4e:=@List.length_filter_le
def q4f:=@List.find?_cons
def q4g:=@Int.ne_of_gt
def q4h:=@Bool.eq_iff_iff
def q4i:=@wpAny_standAt
def q4j:=@List.flatten_cons
def q4k:=@Bool.false_or
def q4l:=@PySem.F.excBase_ValueError
def q4m:=@List.getElem?_append_right
def q4n:=@codeAny_call_builtin
def q4o:=@List.mem_append_left
def q4p:=@Heap.get?_none_of_le
def q4q:=@Bool.or_eq_false_iff
def q4r:=@Array.getElem_toList
def q4s:=@List.getElem?_append_left
def q4t:=@wpAny_eqBool_int
def q4u:=@if_false
def q4v:=@List.lookup_cons
def q4w:=@wpAny_isSubtype_exc
def q4x:=@Int.toNat_of_nonneg
def q4y:=@Int.one_mul
def q4z:=@wpAny_typeNameOf_keyiter
def q5a:=@wpAny_comprehension_free
def q5b:=@wpAny_call
def q5c:=@Nat.add_zero
def q5d:=@wpAny_pyIter_tuple
def q5e:=@wpAny_execs_nil
def q5f:=@PySem.W.callWith_K
def q5g:=@List.nodup_cons
def q5h:=@List.length_set
def q5i:=@List.getElem?_replicate
def q5j:=@List.any_cons
def q5k:=@PySem.W.cellsFrom_some
def q5l:=@List.length_pos_of_mem
def q5m:=@List.getElem?_set_self
def q5n:=@wpAny_pyIter_list
def q5o:=@List.pairwise_map
def q5p:=@wpAny_seqItems
def q5q:=@wpAny_isOneOf_keyiter
def q5r:=@PySem.F.slot_dict_get
def q5s:=@Int.zero_add
def q5t:=@Array.getElem?_toList
def q5u:=@beq_self_eq_true
def q5v:=@Nat.lt_succ_self
def q5w:=@Nat.le_add_right
def q5x:=@Nat.eq_of_testBit_eq
def q5y:=@wpAny_attempt
def q5z:=@Int.mul_assoc
def q6a:=@boot_list
def q6b:=@PySem.F.type_int_bit_length
def q6c:=@List.range_succ
def q6d:=@List.of_mem_zip
def q6e:=@List.map_congr_left
def q6f:=@List.filterMap_cons
def q6g:=@Heap.get?_update_ne
def q6h:=@wpAny_newFunctionEnv_cells
def q6i:=@Int.fdiv_eq_ediv_of_nonneg
def q6j:=@Array.perm_iff_toList_perm
def q6k:=@Array.getElem?_eq_some_iff
def q6l:=@tupleKind_room_in1
def q6m:=@looks_findIn
def q6n:=@PySem.W.noMix_ints
def q6o:=@Nat.xor_zero
def q6p:=@Nat.xor_self
def q6q:=@List.contains_cons
def q6r:=@Int.sub_eq_add_neg
def q6s:=@Int.pow_succ
def q6t:=@Int.mul_comm
def q6u:=@Array.append_empty
def q6v:=@PySem.F.slot_dict_getitem
def q6w:=@List.drop_eq_getElem_cons
def q6x:=@wpAny_assign_Name
def q6y:=@PySem.W.same_ints
def q6z:=@PySem.W.readsAll_of_ints
def q7a:=@Option.isSome_iff_exists
def q7b:=@Nat.mod_lt
def q7c:=@Nat.lt_trichotomy
def q7d:=@Int.mul_ediv_cancel_left
def q7e:=@if_true
def q7f:=@bitNot_bitNot
def q7g:=@PySem.W.canLayAll0_ints
def q7h:=@PySem.F.plain_list_iadd
def q7i:=@PySem.F.args_dict_get_3
def q7j:=@List.getElem?_set_self'
def q7k:=@List.filter_cons_of_pos
def q7l:=@List.filter_cons_of_neg
def q7m:=@List.all_cons
def q7n:=@wpAny_execs_cons
def q7o:=@Nat.le_of_not_lt
def q7p:=@List.ext_getElem
def q7q:=@List.drop_length
def q7r:=@List.any_eq_true
def q7s:=@subscriptTail_builtinR
def q7t:=@codeAny_compStart_list
def q7u:=@PySem.F.plainAttrs_int
def q7v:=@PySem.F.entry_dict_get
def q7w:=@Nat.le_mul_of_pos_left
def q7x:=@Array.getElem?_eq_none
def q7y:=@wpAny_typeOf
def q7z:=@wpAny_isTrue_Compare1
def q8a:=@exec_Assign_Name_used
def q8b:=@codeAny_call_function
def q8c:=@codeAny_builtin
def q8d:=@PySem.W.depthAll_ints
def q8e:=@Nat.pow_succ
def q8f:=@Nat.le_of_lt
def q8g:=@Nat.add_comm
def q8h:=@List.map_nil
def q8i:=@List.length_singleton
def q8j:=@List.length_replicate
def q8k:=@List.length_nil
def q8l:=@List.getElem?_reverse
def q8m:=@Int.neg_one_mul
def q8n:=@Int.mul_eq_zero
def q8o:=@Int.emod_two_eq
def q8p:=@boot_tuple
def q8q:=@List.take_zero
def q8s:=@sizeLine_eq
def q8t:=@intItems_at
def q8u:=@listUpdate_at
def q8v:=@eq_of_beq
def q8w:=@boot_all
def q8x:=@typeIs_int
def q8y:=@call_meets
def q8z:=@Nat.sub_le
def q9a:=@seqIndex_neg
def q9b:=@List.map_set
def q9c:=@Int.le_trans
def q9d:=@Bool.or_true
def q9e:=@boot_int
end
set_option Elab.async false
set_option maxRecDepth 100000
namespace L2
abbrev Key:=Sum Int Str
noncomputable def keyIs:Key->Value->Bool
 | .inl k,v=>Value.isInt k v
 | .inr x,v=>Value.isStrOf x v
noncomputable def keyH (w:W1):Key->Int
 | .inl k=>hashInt k
 | .inr x=>hashStr w x
theorem Z1q:∀ {k:Key}{v:W2},keyIs k v=true->(∃ i t,k=Sum.inl i/\v=Value.int i t)∨(∃ x t,k=Sum.inr x/\v=Value.str x t)
 | .inl i,v,h=>by
  obtain⟨t,e⟩:=Value.isInt_shape (k:=i) (v:=v) h
  exact .inl ⟨i,t,Z,e⟩
 | .inr x,v,h=>by
  obtain⟨t,e⟩:=Value.isStrOf_shape (x:=x) (v:=v) h
  exact .inr ⟨x,t,Z,e⟩
theorem Y5y (i:Int)(t:Tok):keyIs (.inl i) (.int i t)=true:=by simp[keyIs,Value.isInt]
theorem Z6k (x:Str)(t:Tok):keyIs (.inr x) (.str x t)=true:=by simp[keyIs,Value.isStrOf]
theorem X7j (a b:Int):decide ((Sum.inl a:Key)=Sum.inl b)=(a == b):=by
 by_cases e:a=b
 ·subst e;simp
 ·have h:¬ (Sum.inl a:Key)=Sum.inl b:=λq=>e (Sum.inl.inj q)
  rw[q0j h]
  exact(beq_eq_false_iff_ne.mpr e).symm
theorem X7g (a b:Str):decide ((Sum.inr a:Key)=Sum.inr b)=decide (a=b):=by
 by_cases e:a=b
 ·subst e;simp
 ·have h:¬ (Sum.inr a:Key)=Sum.inr b:=λq=>e (Sum.inr.inj q)
  rw[q0j h,q0j e]
theorem X7i (a:Int)(b:Str):decide ((Sum.inl a:Key)=Sum.inr b)=false:=q0j (λq=>nomatch q)
theorem X7h (a:Str)(b:Int):decide ((Sum.inr a:Key)=Sum.inl b)=false:=q0j (λq=>nomatch q)
noncomputable def Z1p (prog:U8)(w:W1):PySem.KeyKind prog w Key where
 is:=keyIs
 hash:=keyH w
 inj:=λv a b ha hb=>by
  rcases Z1q ha with ⟨i,t,rfl,rfl⟩ | ⟨x,t,rfl,rfl⟩
  ·rcases Z1q hb with ⟨j,u,rfl,e⟩ | ⟨y,u,rfl,e⟩
   ·injection e with e1 _;rw[e1]
   ·exact nomatch e
  ·rcases Z1q hb with ⟨j,u,rfl,e⟩ | ⟨y,u,rfl,e⟩
   ·exact nomatch e
   ·injection e with e1 _;rw[e1]
 byValue:=λk v h=>by
  rcases Z1q h with ⟨i,t,rfl,rfl⟩ | ⟨x,t,rfl,rfl⟩<;>rfl
 pyHash:=λhv h=>by
  rcases Z1q hv with ⟨i,t,rfl,rfl⟩ | ⟨x,t,rfl,rfl⟩
  ·exact wpAny_pyHash_int h
  ·exact wpAny_pyHash_str h
 eqBool:=λhu hv h=>by
  rcases Z1q hu with ⟨i,t,rfl,rfl⟩ | ⟨x,t,rfl,rfl⟩
  ·rcases Z1q hv with ⟨j,u,rfl,rfl⟩ | ⟨y,u,rfl,rfl⟩
   ·rw[X7j] at h;exact q4t h
   ·rw[X7i] at h;exact SeqAt.EqAt.int_str i t y u _ _ _ _ h
  ·rcases Z1q hv with ⟨j,u,rfl,rfl⟩ | ⟨y,u,rfl,rfl⟩
   ·rw[X7h] at h;exact SeqAt.EqAt.str_int x t j u _ _ _ _ h
   ·rw[X7g] at h;exact wpAny_eqBool_str h
 «strs»:=λk x t v h=>by
  rcases Z1q h with ⟨i,u,rfl,e⟩ | ⟨y,u,rfl,e⟩
  ·exact nomatch e
  ·injection e with e1 _
   subst e1
   cases v<;>rfl
theorem Y0m (prog:U8)(w:W1)(i:Int)(t:Tok):(Z1p prog w).is (.inl i) (.int i t)=true:=Y5y i t
theorem Y0l (prog:U8)(w:W1)(x:Str)(t:Tok):(Z1p prog w).is (.inr x) (.str x t)=true:=Z6k x t
inductive V where
 | non | bl (b:Bool) | int (i:Int) | str (x:Str) | byt (b:Array UInt8) | flt (b:UInt64) | ref (a:W9) | ty (n:String)
 deriving DecidableEq
def RelV:V->Value->Prop
 | .non,u=>u=Value.none
 | .bl b,u=>u=Value.bool b
 | .int i,u=>∃ t,u=Value.int i t
 | .str x,u=>∃ t,u=Value.str x t
 | .byt b,u=>∃ t,u=Value.bytes b t
 | .flt b,u=>∃ t,u=Value.float b t
 | .ref a,u=>u=Value.ref a
 | .ty n,u=>u=Value.type n
abbrev Vals:List V->List Value->Prop:=Paired RelV
theorem Vals.length {xs:List V}{us:U5}(r:Vals xs us):xs.length=us.length:=Paired.length r
theorem Vals.get:∀ {xs:List V}{us:U5}{i:Nat}{x:V},Vals xs us->xs[i]?=some x->∃ u,us[i]?=some u/\RelV x u
 | _,_,_,_,.nil,e=>by simp at e
 | _,_,0,_,.cons r _,e=>by simp at e;subst e;exact⟨_,rfl,r⟩
 | _,_,i+1,x,.cons _ t,e=>by
  obtain⟨u,h1,h2⟩:=Vals.get (i:=i) (x:=x) t (by simpa using e)
  exact⟨u,by simpa using h1,h2⟩
theorem Vals.set {x:V}{u:W2}(r:RelV x u):∀ {xs:List V}{us:U5} (i:Nat),Vals xs us->Vals (xs.set i x) (us.set i u)
 | _,_,_,.nil=>.nil
 | _,_,0,.cons _ t=>.cons r t
 | _,_,i+1,.cons q t=>.cons q (Vals.set r i t)
theorem Vals.append:∀ {xs ys:List V}{us ws:U5},Vals xs us->Vals ys ws->Vals (xs++ys) (us++ws)
 | _,_,_,_,.nil,s=>s
 | _,_,_,_,.cons r t,s=>.cons r (Vals.append t s)
theorem Vals.take:∀ {xs:List V}{us:U5} (n:Nat),Vals xs us->Vals (xs.take n) (us.take n)
 | _,_,0,_=>.nil
 | _,_,_+1,.nil=>.nil
 | _,_,n+1,.cons r t=>.cons r (Vals.take n t)
theorem Vals.drop:∀ {xs:List V}{us:U5} (n:Nat),Vals xs us->Vals (xs.drop n) (us.drop n)
 | _,_,0,r=>r
 | _,_,_+1,.nil=>.nil
 | _,_,n+1,.cons _ t=>Vals.drop n t
def RelO:Option V->Option Value->Prop
 | some v,some u=>RelV v u
 | none,none=>True
 | _,_=>False
def KV {κ:Type}:List (κ × V)->List (κ × Value)->Prop:=Paired λ(p:κ × V) (q:κ × Value)=>p.1=q.1/\RelV p.2 q.2
noncomputable def kV:Key->V
 | .inl i=>.int i
 | .inr x=>.str x
inductive HO where
 | lst (xs:List V)
 | tup (xs:List V)
 | dK (kvs:List (Key × V)) | dT (kvs:List (List Key × V))
 | set (S:Int->Bool) (n:Nat)
 | ins (C dx:W9) (fs:List (Str × V))
 | own (x:W9)
 | xd (fs:List (Str × V))
 | met (f x:W9)
 | rng (lo hi:Int)
 | frz (o:Obj) (u:HO)
 | tbl (ps:U9)
 | ext (φ:Heap->Prop)
abbrev Hp:=Addr->Option HO
noncomputable def upd (H:Hp)(a:W9)(o:HO):Hp:=λb=>if b=a then some o else H b
theorem Z0c {H:Hp}{a:W9}{o:HO}:upd H a o a=some o:=by unfold upd;rw[if_pos rfl]
theorem Z0t {H:Hp}{a b:W9}{o:HO}(h:b≠a):upd H a o b=H b:=by unfold upd;rw[if_neg h]
theorem Z4v {H:Hp}{a b:W9}{o u:HO}(h:H a=some o)(h':H b=some u)(d:o≠u):a≠b:=by
 intro e;subst e;rw[h] at h';exact d (Option.some.inj h')
theorem Z2g {H:Hp}{a b:W9}{o:HO}(h:H a=some o)(h':H b=none):a≠b:=by
 intro e;subst e;rw[h] at h';cases h'
section
variable (P:U8) (w:W1)
def ObjOk (H:Hp)(h:Heap)(a:W9):HO->Prop
 | .lst xs=>xs.length<=sizeLine/\∃ (its:U5) (n:Nat),Vals xs its/\h.get? a=some { cls:=.type "list",data:=.seq its.toArray n }
 | .tup xs=>xs.length<=sizeLine/\∃ its:List Value,Vals xs its/\IsTup h a its.toArray
 | .dK kvs=>kvs.length<=sizeLine/\(a == sysModules)=false/\∃ vs,KV kvs vs/\h.DictOf (Z1p P w) a vs
 | .dT kvs=>kvs.length<=sizeLine/\(a == sysModules)=false/\∃ xs:List (List Key × Addr × Value),
   Paired (λ(p:List Key × V) (q:List Key × Addr × Value)=>p.1=q.1/\H q.2.1=some (.tup (p.1.map kV))/\RelV p.2 q.2.2) kvs xs ∧
   ∃ o es ep,h.get? a=some o/\o.ExactDict/\o.data=.dict es ep/\es.toList=xs.map (entryOfKey (tupleKind (Z1p P w)))/\(xs.map (·.1)).Nodup
 | .set S n=>h.SetOf (intKind P w) a S n
 | .ins C dx fs=>H dx=some (.own a)/\fs.length<=1000/\dx≠a/\h.get? a=some (PySem.W.instObj C dx) ∧
   ∃ mA,h.Ns1 dx mA/\(∀ f,RelO (fs.lookup f) (mA f))/\PySem.Within mA (fs.map (·.1))
 | .own _=>∃ o,h.get? a=some o
 | .xd fs=>∃ mA,h.Ns1 a mA/\∀ f,RelO (fs.lookup f) (mA f)
 | .rng lo hi=>∃ t u v,h.get? a=some { cls:=.type "range",data:=.fields #[.int lo t,.int hi u,.int 1 v] }
 | .frz o u=>h.get? a=some o/\ObjOk H h a u
 | .tbl ps=>h.get? a=some { cls:=.none,data:=.fields ps }
 | .met f x=>h.get? a=some (PySem.W.methodObj (.ref f) (.ref x))
 | .ext φ=>φ h/\(∃ o,h.get? a=some o)/\∀ h1 h2:Heap,φ h1->(∀ o,h1.get? a=some o->h2.get? a=some o)->φ h2
def HOk (H:Hp)(h:Heap):Prop:=∀ a o,H a=some o->ObjOk P w H h a o
end
section
variable {P:U8}{w:W1}{H H':Hp}{h h':Heap}{a:W9}{o:HO}
theorem ObjOk.lt (x:ObjOk P w H h a o):a<h.objs.size:=by
 cases o with
 | lst xs=>obtain⟨_,_,_,_,e⟩:=x;exact q0e e
 | tup xs=>obtain⟨_,_,_,p⟩:=x;exact p.lt
 | dK kvs=>obtain⟨_,_,_,_,o,_,_,e,_⟩:=x;exact q0e e
 | dT kvs=>obtain⟨_,_,_,_,o,_,_,e,_⟩:=x;exact q0e e
 | set S n=>obtain⟨o,_,_,_,e,_⟩:=x;exact q0e e
 | ins C dx fs=>obtain⟨_,_,_,e,_⟩:=x;exact q0e e
 | own y=>obtain⟨_,e⟩:=x;exact q0e e
 | xd fs=>obtain⟨_,⟨_,_,_,e,_⟩,_⟩:=x;exact q0e e
 | rng lo hi=>obtain⟨_,_,_,e⟩:=x;exact q0e e
 | frz ob u=>obtain⟨e,_⟩:=x;exact q0e e
 | tbl ps=>exact q0e (show h.get? a=some _ from x)
 | met f y=>exact q0e (show h.get? a=some _ from x)
 | ext φ=>obtain⟨_,⟨_,e⟩,_⟩:=x;exact q0e e
theorem Paired.mapP {α β:Type}{F G:α->β->Prop}:∀ {l₁:List α}{l₂:List β},Paired F l₁ l₂->(∀ a b,F a b->G a b)->Paired G l₁ l₂
 | _,_,.nil,_=>.nil
 | _,_,.cons r t,f=>.cons (f _ _ r) (Paired.mapP t f)
theorem Paired.imp' {α β:Type}{F G:α->β->Prop}(f:∀ a b,F a b->G a b){l₁:List α}{l₂:List β}(r:Paired F l₁ l₂):Paired G l₁ l₂:=Paired.mapP r f
theorem ObjOk.stay (x:ObjOk P w H h a o)(k:∀ b u,(b=a∨H b=some (.own a))->h.get? b=some u->h'.get? b=some u)
  (ho:∀ b,H b=some (.own a)->H' b=some (.own a)) (ht:∀ b xs,H b=some (.tup xs)->H' b=some (.tup xs)):ObjOk P w H' h' a o:=by
 induction o with
 | lst xs=>obtain⟨z,its,n,r,e⟩:=x;exact⟨z,its,n,r,k _ _ (.inl rfl) e⟩
 | tup xs=>obtain⟨z,its,r,ob,e,c⟩:=x;exact⟨z,its,r,ob,k _ _ (.inl rfl) e,c⟩
 | dK kvs=>obtain⟨z,y,vs,r,ob,es,ep,e,c⟩:=x;exact⟨z,y,vs,r,ob,es,ep,k _ _ (.inl rfl) e,c⟩
 | dT kvs =>
  obtain⟨z,y,xs,r,ob,es,ep,e,c⟩:=x
  exact⟨z,y,xs,Paired.mapP r λp q z=>⟨z.1,ht _ _ z.2.1,z.2.2⟩,ob,es,ep,k _ _ (.inl rfl) e,c⟩
 | set S n=>obtain⟨ob,es,ep,t,e,c⟩:=x;exact⟨ob,es,ep,t,k _ _ (.inl rfl) e,c⟩
 | ins C dx fs =>
  obtain⟨d,z,ne,e,mA,⟨od,es,ep,e2,c⟩,r⟩:=x
  exact⟨ho _ d,z,ne,k _ _ (.inl rfl) e,mA,⟨od,es,ep,k _ _ (.inr d) e2,c⟩,r⟩
 | own y=>obtain⟨ob,e⟩:=x;exact⟨ob,k _ _ (.inl rfl) e⟩
 | xd fs=>obtain⟨mA,⟨od,es,ep,e,c⟩,r⟩:=x;exact⟨mA,⟨od,es,ep,k _ _ (.inl rfl) e,c⟩,r⟩
 | rng lo hi=>obtain⟨t,u,v,e⟩:=x;exact⟨t,u,v,k _ _ (.inl rfl) e⟩
 | frz ob u ih=>obtain⟨e,q⟩:=x;exact⟨k _ _ (.inl rfl) e,ih q⟩
 | tbl ps =>
  have e:h.get? a=some { cls:=.none,data:=.fields ps }:=x
  show h'.get? a=some { cls:=.none,data:=.fields ps }
  exact k a _ (.inl rfl) e
 | met f y =>
  have e:h.get? a=some (PySem.W.methodObj (.ref f) (.ref y)):=x
  show h'.get? a=some (PySem.W.methodObj (.ref f) (.ref y))
  exact k a _ (.inl rfl) e
 | ext φ=>obtain⟨p,⟨o,e⟩,st⟩:=x;exact⟨st _ _ p λo q=>k _ _ (.inl rfl) q,⟨o,k _ _ (.inl rfl) e⟩,st⟩
theorem HOk.lt (x:HOk P w H h)(e:H a=some o):a<h.objs.size:=(x a o e).lt
theorem HOk.fresh (x:HOk P w H h)(e:h.objs.size<=a):H a=none:=by
 cases q:H a with
 | none=>rfl
 | some u=>exact absurd (q0s (x.lt q) e) (q2x _)
theorem HOk.kept (x:HOk P w H h)(k:∀ b u,h.get? b=some u->h'.get? b=some u):HOk P w H h':=λa o e =>
 (x a o e).stay (λb u _ q=>k b u q) (λ_ q=>q) λ_ _ q=>q
theorem HOk.laid (x:HOk P w H h)(k:∀ b u,h.get? b=some u->h'.get? b=some u)(hp:h.objs.size<=a)(new:ObjOk P w (upd H a o) h' a o):HOk P w (upd H a o) h':=λb u e=>by
 have hn:=x.fresh hp
 by_cases hb:b=a
 ·subst hb;rw[Z0c] at e;cases e;exact new
 ·rw[Z0t hb] at e
  exact(x b u e).stay (λc v _ q=>k c v q) (λc q=>by rw[Z0t (Z2g q hn)];exact q) λc xs q=>by rw[Z0t (Z2g q hn)];exact q
end
def Rd (H:Hp)(a:W9)(u:HO):Prop:=H a=some u∨∃ o,H a=some (.frz o u)
theorem Rd.ok {P:U8}{w:W1}{H:Hp}{h:Heap}{a:W9}{u:HO}(r:Rd H a u)(x:HOk P w H h):ObjOk P w H h a u:=by
 rcases r with r | ⟨o,r⟩
 ·exact x a u r
 ·obtain⟨_,q⟩:=x a _ r
  exact q
def Mut:Option HO->Prop
 | some (.lst _)=>True
 | some (.dK _)=>True
 | some (.dT _)=>True
 | some (.set _ _)=>True
 | some (.ins _ _ _)=>True
 | some (.ext _)=>True
 | _=>False
section
variable {P:U8}{w:W1}{H:Hp}{h h':Heap}{x e:W9}{o':HO}
theorem HOk.write (ok:HOk P w H h)(mu:Mut (H x))(he:e=x∨H e=some (.own x))(k:∀ b u,b≠e->h.get? b=some u->h'.get? b=some u)(heo:∃ u,h'.get? e=some u)
  (new:ObjOk P w (upd H x o') h' x o'):HOk P w (upd H x o') h':=λb u q=>by
 have nown:∀ c y,H c=some (.own y)->c≠x:=λc y r z=>by subst z;rw[r] at mu;exact mu
 have ntup:∀ c xs,H c=some (.tup xs)->c≠x:=λc xs r z=>by subst z;rw[r] at mu;exact mu
 by_cases hb:b=x
 ·subst hb;rw[Z0c] at q;cases q;exact new
 ·rw[Z0t hb] at q
  by_cases hbe:b=e
  ·have q':H b=some (.own x):=by
    rcases he with z | z
    ·exact absurd (hbe.trans z) hb
    ·rw[hbe];exact z
   rw[q] at q';cases q'
   obtain⟨v,hv⟩:=heo
   exact⟨v,by rw[hbe];exact hv⟩
  ·refine(ok b u q).stay (λc v hc r=>k c v ?_ r) (λc r=>by rw[Z0t (nown c b r)];exact r) λc xs r=>by rw[Z0t (ntup c xs r)];exact r
   rcases hc with rfl | hc
   ·exact hbe
   ·rintro rfl
    rcases he with z | z
    ·exact nown c b hc z
    ·rw[hc] at z;cases z;exact hb rfl
end
structure Un (fs ex:U3) (H H':Hp) (h h':Heap):Prop where
 keep:∀ b o,h.get? b=some o->H b=none->b ∉ fs->b ∉ ex->h'.get? b=some o
 slot:∀ b o,h.get? b=some o->H b=none->b∈fs->b ∉ ex->∃ sl,h'.get? b=some { o with slots:=sl }
 free:∀ b o,h.get? b=some o->H b=none->b ∉ ex->H' b=none
 there:∀ b o,h.get? b=some o->b ∉ ex->∃ o',h'.get? b=some o'
 tups:∀ b xs,H b=some (.tup xs)->H' b=some (.tup xs)
 frzs:∀ b o u,H b=some (.frz o u)->H' b=some (.frz o u)
 tbls:∀ b ps,H b=some (.tbl ps)->∃ more,H' b=some (.tbl (ps++more))
section
variable {fs fs' ex ex':U3}{H H1 H2:Hp}{h h1 h2 h':Heap}{a x e:W9}{o:HO}
theorem Un.any (u:Un fs ex H H1 h h1){b:W9}{ob:Obj}(q:h.get? b=some ob)(n:H b=none)(hx:b ∉ ex):∃ sl,h1.get? b=some { ob with slots:=sl }:=by
 by_cases hb:b∈fs
 ·exact u.slot b ob q n hb hx
 ·exact⟨ob.slots,u.keep b ob q n hb hx⟩
theorem Un.kept (k:∀ b u,h.get? b=some u->h'.get? b=some u):Un fs ex H H h h' :=
 ⟨λb ob q _ _ _=>k b ob q,λb ob q _ _ _=>⟨ob.slots,k b ob q⟩,λ_ _ _ n _=>n,λb ob q _=>⟨ob,k b ob q⟩,λ_ _ q=>q,λ_ _ _ q=>q,λ_ ps q=>⟨#[],by rw[q];simp⟩⟩
theorem Un.refl:Un fs ex H H h h:=Un.kept λ_ _ q=>q
theorem Un.laid (k:∀ b u,h.get? b=some u->h'.get? b=some u)(hp:h.objs.size<=a)(hn:H a=none):Un fs ex H (upd H a o) h h' where
 keep:=λb u q _ _ _=>k b u q
 slot:=λb u q _ _ _=>⟨u.slots,k b u q⟩
 free:=λb u q n _=>by rw[Z0t (q0r (q0s (q0e q) hp))];exact n
 there:=λb u q _=>⟨u,k b u q⟩
 tups:=λb xs q=>by rw[Z0t (Z2g q hn)];exact q
 frzs:=λb u xs q=>by rw[Z0t (Z2g q hn)];exact q
 tbls:=λb ps q=>⟨#[],by rw[Z0t (Z2g q hn),q];simp⟩
theorem Un.write (mu:Mut (H x))(he:e=x∨H e=some (.own x))(k:∀ b u,b≠e->h.get? b=some u->h'.get? b=some u)(heo:∃ u,h'.get? e=some u):Un fs ex H (upd H x o) h h':=by
 have hx:∀ b,H b=none->b≠x:=λb n z=>by subst z;rw[n] at mu;exact mu
 have hb:∀ b,H b=none->b≠e:=λb n z=>by
  subst z
  rcases he with r | r
  ·exact hx b n r
  ·rw[n] at r;cases r
 have hm:∀ b u,H b=some u->¬ Mut (some u)->b≠x:=λb u q nm z=>by subst z;rw[q] at mu;exact nm mu
 refine⟨λb u q n _ _=>k b u (hb b n) q,λb u q n _ _=>⟨u.slots,k b u (hb b n) q⟩,λb u q n _=>by rw[Z0t (hx b n)];exact n,λb u q _=>?_,
  λb xs q=>by rw[Z0t (hm b _ q λz=>z)];exact q,λb u xs q=>by rw[Z0t (hm b _ q λz=>z)];exact q,λb ps q=>⟨#[],by rw[Z0t (hm b _ q λz=>z),q];simp⟩⟩
 by_cases hbe:b=e
 ·subst hbe;exact heo
 ·exact⟨u,k b u hbe q⟩
end
noncomputable def trk (h:Heap)(H:Hp):List Addr:=(List.range h.objs.size).filter λa=>(H a).isSome
noncomputable def hidT (h:Heap)(H:Hp):Heap:=PySem.W.hideAll h (trk h H)
theorem Y6e (h:Heap)(H:Hp):(hidT h H).objs.size=h.objs.size:=PySem.W.hideAll_size _ _
theorem Y9k {h:Heap}{H:Hp}{b:W9}{o:Obj}(e:h.get? b=some o)(n:H b=none):(hidT h H).get? b=some o :=
 PySem.W.hideAll_get _ e λhm=>by
  have q:(H b).isSome=true:=(q4d.mp hm).2
  rw[n] at q;simp at q
theorem X4b {h:Heap}{H:Hp}{b:W9}{o:Obj}(e:(hidT h H).get? b=some o):h.get? b=some o/\H b=none:=by
 have e':h.get? b=some o:=PySem.W.of_hideAll (trk h H) e
 refine⟨e',?_⟩
 cases q:H b with
 | none=>rfl
 | some x =>
  have hm:b∈trk h H:=q4d.mpr ⟨q1q.mpr (q0e e'),by simp[q]⟩
  have z:(hidT h H).get? b=none:=PySem.W.hideAll_none (trk h H) hm
  rw[z] at e;cases e
structure Mod (K:U0) (mg:U4) (base:Heap):Prop where
 kin:K.In base
 glob:base.Ns mainGlobals mg
 blt:∃ mb,base.Ns builtinsNs mb/\∀ x:Str,x≠"__name__"->mb x=bootBuiltins x
 nolimit:base.NoLimit
structure Cx where
 prog:Program
 w:World
 K:U0
 mg:Str->Option Value
 base:Heap
 A:Around
 N:List Str
 s₀:Shared
 H₀:Hp
 env:Env
 outer:List Env
 stack:List Env
 ex:List Addr
 fn:Str->Bool
 calm:Bool
 pn:List (Addr × Obj)
 xe:Value->Shared->Prop
noncomputable def frs (l:List Env):List Addr:=l.filterMap (·.frame)
noncomputable abbrev Cx.fs (X:Cx):List Addr:=frs X.outer
def Vis (sc:Scope)(x:Str):Prop:=sc.names.lookup x=some .local∨sc.names.lookup x=some .cell∨sc.names.lookup x=some .free
def Loc (sc:Scope)(x:Str):Prop:=sc.names.lookup x=some .local∨sc.names.lookup x=some .cell
def Look (env:Env)(h:Heap)(m:U4)(x:Str)(u:W2):Prop :=
 (env.kindOf x=some .local/\m x=some u)∨((env.kindOf x=some .cell∨env.kindOf x=some .free)/\∃ c,env.cells.lookup x=some c/\h.IsCell c (some u))
structure Cx.Ok (X:Cx):Prop where
 mod:Mod X.K X.mg X.base
 kind:X.env.scope.kind=.function
 glob:X.env.globals=mainGlobals
 blt:X.env.builtins=builtinsNs
 above:X.s₀.heap.objs.size<=X.env.locals
 inj:∀ x y c,X.env.cells.lookup x=some c->X.env.cells.lookup y=some c->x=y
 has:∀ x,(X.env.kindOf x=some .cell∨X.env.kindOf x=some .free)->∃ c,X.env.cells.lookup x=some c
 cab:∀ x c,X.fn x=true->X.env.cells.lookup x=some c->X.s₀.heap.objs.size<=c
 hd:X.calm=true->X.A.handled=none
 frames:X.A.frames=some X.stack
 stk:X.stack=X.outer∨(X.stack=X.env::X.outer/\X.env.frame=some X.env.locals)
 exf:∀ b∈X.ex,b≠X.env.locals/\∀ x c,X.env.cells.lookup x=some c->c≠b
 bs:∀ b o,X.base.get? b=some o->X.s₀.heap.get? b=some o/\X.H₀ b=none
 bsz:X.base.objs.size<=X.s₀.heap.objs.size
 noex:∀ b o,X.base.get? b=some o->b ∉ X.ex
 exfs:∀ b∈X.ex,b ∉ X.fs
 funs:X.s₀.heap.FunFrames X.base X.outer
 frf:∀ b∈X.fs,X.H₀ b=none
structure Inv (X:Cx) (pins:U1) (σ:List (Option V)) (H:Hp) (s:U7):Prop where
 ok:X.Ok
 os:s.os=X.s₀.os
 bare:AllBare s.gens
 base:Un X.fs X.ex X.H₀ H X.s₀.heap s.heap
 loc:∃ m,s.heap.Ns X.env.locals m/\∀ (i:Nat) (x:Str) (v:V),X.N[i]?=some x->σ[i]?=some (some v)->Vis X.env.scope x->∃ u,RelV v u/\Look X.env s.heap m x u
 cell:∀ x c,X.env.cells.lookup x=some c->∃ v,s.heap.IsCell c v
 free:H X.env.locals=none
 freeC:∀ x c,X.env.cells.lookup x=some c->H c=none
 pin:∀ p∈X.pn++pins,s.heap.get? p.1=some p.2/\H p.1=none/\p.1≠X.env.locals/\p.1 ∉ X.fs/\∀ v,p.2.data≠.cell v
 hok:HOk X.prog X.w H s.heap
 len:σ.length=X.N.length
section
variable {X:Cx}{pins:U1}{σ:List (Option V)}{H H':Hp}{s:U7}{h':Heap}
theorem Cx.Ok.nofr (ok:X.Ok){b:W9}{o:Obj}(e:X.base.get? b=some o):b ∉ X.fs:=λhb=>by
 have:=(ok.funs.mem hb).1
 rw[e] at this;cases this
theorem Inv.bs (I:Inv X pins σ H s):∀ b o,X.base.get? b=some o->s.heap.get? b=some o/\H b=none:=λb o e =>
 ⟨I.base.keep b o (I.ok.bs b o e).1 (I.ok.bs b o e).2 (I.ok.nofr e) (I.ok.noex b o e),I.base.free b o (I.ok.bs b o e).1 (I.ok.bs b o e).2 (I.ok.noex b o e)⟩
theorem Inv.bk (I:Inv X pins σ H s):∀ b o,X.base.get? b=some o->s.heap.get? b=some o:=λb o e=>(I.bs b o e).1
theorem Inv.mod (I:Inv X pins σ H s):Mod X.K X.mg X.base:=I.ok.mod
theorem Inv.kIn (I:Inv X pins σ H s):X.K.In s.heap:=I.ok.mod.kin.keeps I.bk
theorem Inv.lt (I:Inv X pins σ H s):X.env.locals<s.heap.objs.size:=let ⟨_,hn,_⟩:=I.loc;hn.lt
theorem Inv.sz (I:Inv X pins σ H s):X.s₀.heap.objs.size<=s.heap.objs.size:=q1m I.ok.above (q8f I.lt)
theorem Inv.nofs (I:Inv X pins σ H s){a:W9}(h:s.heap.objs.size<=a):a ∉ X.fs:=λhb=>by
 obtain⟨_,o,ho,_⟩:=I.ok.funs.mem hb
 exact absurd (q0s (q0e ho) (q1m I.sz h)) (q2x _)
theorem Inv.cne (I:Inv X pins σ H s):∀ x c,X.env.cells.lookup x=some c->c≠X.env.locals:=λx c e z=>by
 obtain⟨v,o,ho,hd⟩:=I.cell x c e
 obtain⟨m,⟨o',es,ep,ho',hd',_⟩,_⟩:=I.loc
 rw[z,ho'] at ho;cases ho;rw[hd'] at hd;cases hd
theorem Inv.funs (I:Inv X pins σ H s):s.heap.FunFrames X.base X.outer:=by
 have all:∀ (l:List Env),(∀ b∈frs l,b∈X.fs)->X.s₀.heap.FunFrames X.base l->s.heap.FunFrames X.base l:=by
  intro l
  induction l with
  | nil=>intro _ _;trivial
  | cons env r ih =>
   intro hs hl
   obtain⟨hk,⟨L,o,hf,hn,ho,hd⟩,hr⟩:=hl
   have hL:L∈X.fs:=hs L (by unfold frs;rw[q6f,hf];exact q3z)
   obtain⟨sl,e⟩:=I.base.slot L o ho (I.ok.frf L hL) hL λz=>I.ok.exfs L z hL
   exact⟨hk,⟨L,_,hf,hn,e,hd⟩,ih (λb hb=>hs b (by unfold frs;rw[q6f,hf];exact q2v _ hb)) hr⟩
 exact all X.outer (λ_ hb=>hb) I.ok.funs
theorem Inv.stack (I:Inv X pins σ H s):s.heap.FunFrames X.base X.stack:=by
 rcases I.ok.stk with e | ⟨e,hf⟩
 ·rw[e];exact I.funs
 ·rw[e]
  obtain⟨m,hn,_⟩:=I.loc
  refine .cons (by rw[I.ok.kind];decide) hf hn ?_ I.funs
  exact q4p (q1m I.ok.bsz I.ok.above)
theorem Inv.stkSub (I:Inv X pins σ H s):∀ b∈frs X.stack,b∈X.env.locals::X.fs:=λb hb=>by
 rcases I.ok.stk with e | ⟨e,hf⟩
 ·rw[e] at hb;exact q2v _ hb
 ·rw[e] at hb
  unfold frs at hb
  rw[q6f,hf] at hb
  exact hb
theorem Inv.stkFree (I:Inv X pins σ H s):∀ b∈frs X.stack,H b=none:=λb hb=>by
 rcases q0q.mp (I.stkSub b hb) with e | hb
 ·rw[e];exact I.free
 ·obtain⟨_,o,ho,_⟩:=I.ok.funs.mem hb
  exact I.base.free b o ho (I.ok.frf b hb) λz=>I.ok.exfs b z hb
theorem Inv.step {g':Array GenState}{t':Nat}{d':Drawn}{ch:U3}(I:Inv X pins σ H s)
  (hch:∀ b∈ch,(b∈X.ex∨X.s₀.heap.objs.size<=b)/\b≠X.env.locals/\(∀ x c,X.env.cells.lookup x=some c->c≠b)/\∀ p∈X.pn++pins,p.1≠b)
  (keep:∀ b o,b≠X.env.locals->b ∉ X.fs->b ∉ ch->s.heap.get? b=some o->H b=none->h'.get? b=some o)
  (slot:∀ b o,b≠X.env.locals->b∈X.fs->b ∉ ch->s.heap.get? b=some o->H b=none->∃ sl,h'.get? b=some { o with slots:=sl }) (free:∀ b o,b ∉ ch->s.heap.get? b=some o->H b=none->H' b=none)
  (there:∀ b o,b ∉ ch->s.heap.get? b=some o->∃ o',h'.get? b=some o')
  (tups:∀ b xs,H b=some (.tup xs)->H' b=some (.tup xs)) (frzs:∀ b o u,H b=some (.frz o u)->H' b=some (.frz o u)) (tbls:∀ b ps,H b=some (.tbl ps)->∃ more,H' b=some (.tbl (ps++more)))
  (ns:∀ m,s.heap.Ns X.env.locals m->h'.Ns X.env.locals m) (hok:HOk X.prog X.w H' h') (hg:AllBare g') :
  Inv X pins σ H' { s with heap:=h',gens:=g',drawn:=d',toks:=t' }:=by
 have neL:∀ b o,X.s₀.heap.get? b=some o->b≠X.env.locals:=λb o e=>q0r (q0s (q0e e) I.ok.above)
 have neC:∀ b o,X.s₀.heap.get? b=some o->b ∉ X.ex->b ∉ ch:=λb o e hx hb=>by
  rcases (hch b hb).1 with z | z
  ·exact hx z
  ·exact absurd (q0s (q0e e) z) (q2x _)
 have cellK:∀ x c,X.env.cells.lookup x=some c->∀ v,s.heap.IsCell c v->h'.IsCell c v:=λx c e v ⟨o,ho,hd⟩=>by
  have nch:c ∉ ch:=λz=>(hch c z).2.2.1 x c e rfl
  by_cases hc:c∈X.fs
  ·obtain⟨sl,q⟩:=slot c o (I.cne x c e) hc nch ho (I.freeC x c e)
   exact⟨_,q,hd⟩
  ·exact⟨o,keep c o (I.cne x c e) hc nch ho (I.freeC x c e),hd⟩
 refine⟨I.ok,I.os,hg,⟨λb o e n hb hx=>?_,λb o e n hb hx=>?_,λb o e n hx=>?_,λb o e hx=>?_,λb xs e=>tups b xs (I.base.tups b xs e),λb o xs e=>frzs b o xs (I.base.frzs b o xs e),λb ps e=>?_⟩,?_,λx c e=>?_,?_,λx c e=>?_,λp hp=>?_,hok,I.len⟩
 ·exact keep b o (neL b o e) hb (neC b o e hx) (I.base.keep b o e n hb hx) (I.base.free b o e n hx)
 ·obtain⟨sl,e1⟩:=I.base.slot b o e n hb hx
  obtain⟨sl',e2⟩:=slot b _ (neL b o e) hb (neC b o e hx) e1 (I.base.free b o e n hx)
  exact⟨sl',e2⟩
 ·obtain⟨o',e1⟩:=I.base.there b o e hx
  exact free b o' (neC b o e hx) e1 (I.base.free b o e n hx)
 ·obtain⟨o',e1⟩:=I.base.there b o e hx
  exact there b o' (neC b o e hx) e1
 ·obtain⟨m1,e1⟩:=I.base.tbls b ps e
  obtain⟨m2,e2⟩:=tbls b _ e1
  exact⟨m1++m2,by rw[e2,Array.append_assoc]⟩
 ·obtain⟨m,hn,hl⟩:=I.loc
  refine⟨m,ns m hn,λi x v e1 e2 e3=>?_⟩
  obtain⟨u,r,l⟩:=hl i x v e1 e2 e3
  refine⟨u,r,?_⟩
  rcases l with l | ⟨k,c,e,z⟩
  ·exact .inl l
  ·exact .inr ⟨k,c,e,cellK x c e _ z⟩
 ·obtain⟨v,z⟩:=I.cell x c e
  exact⟨v,cellK x c e v z⟩
 ·obtain⟨m,⟨o,_,_,ho,_⟩,_⟩:=I.loc
  exact free _ o (λz=>(hch _ z).2.1 rfl) ho I.free
 ·obtain⟨v,o,ho,hd⟩:=I.cell x c e
  exact free c o (λz=>(hch c z).2.2.1 x c e rfl) ho (I.freeC x c e)
 ·obtain⟨e,n,ne,nf,d⟩:=I.pin p hp
  have nch:p.1 ∉ ch:=λz=>(hch p.1 z).2.2.2 p hp rfl
  exact⟨keep p.1 p.2 ne nf nch e n,free p.1 p.2 nch e n,ne,nf,d⟩
theorem Inv.un {t':Nat}(I:Inv X pins σ H s)(u:Un X.fs [] H H' s.heap h')(hok:HOk X.prog X.w H' h'):Inv X pins σ H' { s with heap:=h',toks:=t' }:=by
 obtain⟨m,⟨o,es,ep,ho,r⟩,_⟩:=id I.loc
 obtain⟨sl,hL⟩:=u.any ho I.free (by simp)
 exact I.step (g':=s.gens) (d':=s.drawn) (ch:=[]) (λ_ z=>nomatch z) (λb o _ hb _ e n=>u.keep b o e n hb (by simp)) (λb o _ hb _ e n=>u.slot b o e n hb (by simp)) (λb o _ e n=>u.free b o e n (by simp)) (λb o _ e=>u.there b o e (by simp)) u.tups u.frzs u.tbls (λm' hm=>by
  obtain⟨o',es',ep',ho',r'⟩:=hm
  rw[ho] at ho';cases ho'
  exact⟨_,es',ep',hL,r'⟩) hok I.bare
theorem Inv.call {g':Array GenState}{t':Nat}{d':Drawn}{ch:U3}(I:Inv X pins σ H s)(u:Un (frs X.stack) ch H H' s.heap h')(hok:HOk X.prog X.w H' h')(hg:AllBare g')
  (hch:∀ b∈ch,(b∈X.ex∨X.s₀.heap.objs.size<=b)/\b≠X.env.locals/\(∀ x c,X.env.cells.lookup x=some c->c≠b)/\∀ p∈X.pn++pins,p.1≠b) :
  Inv X pins σ H' { s with heap:=h',gens:=g',drawn:=d',toks:=t' }:=by
 obtain⟨m,⟨o,es,ep,ho,r⟩,_⟩:=id I.loc
 obtain⟨sl,hL⟩:=u.any ho I.free λz=>(hch _ z).2.1 rfl
 exact I.step (ch:=ch) hch (λb o hL hb hc e n=>u.keep b o e n (λz=>(q0q.mp (I.stkSub b z)).elim hL hb) hc) (λb o _ _ hc e n=>u.any e n hc) (λb o hc e n=>u.free b o e n hc) (λb o hc e=>u.there b o e hc) u.tups u.frzs u.tbls (λm' hm=>by
  obtain⟨o',es',ep',ho',r'⟩:=hm
  rw[ho] at ho';cases ho'
  exact⟨_,es',ep',hL,r'⟩) hok hg
theorem Inv.turned {t':Nat}{it:W9}(I:Inv X pins σ H s)(k:∀ b o,b≠it->s.heap.get? b=some o->h'.get? b=some o)(hn:H it=none)(hL:it≠X.env.locals)
  (h1:it∈X.ex∨X.s₀.heap.objs.size<=it) (h2:∀ x c,X.env.cells.lookup x=some c->c≠it) (h3:∀ p∈X.pn++pins,p.1≠it):Inv X pins σ H { s with heap:=h',toks:=t' }:=by
 have nit:∀ b u,H b=some u->b≠it:=λb u e z=>by rw[z,hn] at e;cases e
 refine I.step (g':=s.gens) (d':=s.drawn) (ch:=[it]) (λb hb=>?_) (λb o _ _ hc e _=>k b o (λz=>hc (by simp[z])) e) (λb o _ _ hc e _=>⟨o.slots,k b o (λz=>hc (by simp[z])) e⟩) (λ_ _ _ _ n=>n)
  (λb o hc e=>⟨o,k b o (λz=>hc (by simp[z])) e⟩) (λ_ _ e=>e) (λ_ _ _ e=>e) (λb ps e=>⟨#[],by rw[e];simp⟩) (λm hm=>?_) (λb u e=>?_) I.bare
 ·have e:b=it:=by simpa using hb
  subst e
  exact⟨h1,hL,h2,h3⟩
 ·obtain⟨o,es,ep,ho,r⟩:=hm
  exact⟨o,es,ep,k _ o (Ne.symm hL) ho,r⟩
 ·refine(I.hok b u e).stay (λc v hc q=>k c v ?_ q) (λ_ q=>q) λ_ _ q=>q
  rcases hc with z | z
  ·rw[z];exact nit b u e
  ·exact nit c _ z
theorem Inv.tok (I:Inv X pins σ H s)(t:Nat):Inv X pins σ H { s with toks:=t }:=I.un (h':=s.heap) (t':=t) Un.refl I.hok
theorem Inv.kept {t':Nat}(I:Inv X pins σ H s)(k:∀ b u,s.heap.get? b=some u->h'.get? b=some u):Inv X pins σ H { s with heap:=h',toks:=t' }:=I.un (Un.kept k) (I.hok.kept k)
theorem Inv.laid {a:W9}{o:HO}{t':Nat}(I:Inv X pins σ H s)(k:∀ b u,s.heap.get? b=some u->h'.get? b=some u)(hp:s.heap.objs.size<=a)(new:ObjOk X.prog X.w (upd H a o) h' a o) :
  Inv X pins σ (upd H a o) { s with heap:=h',toks:=t' }:=I.un (Un.laid k hp (I.hok.fresh hp)) (I.hok.laid k hp new)
theorem Inv.write {x e:W9}{o:HO}{t':Nat}(I:Inv X pins σ H s)(mu:Mut (H x))(he:e=x∨H e=some (.own x))(k:∀ b u,b≠e->s.heap.get? b=some u->h'.get? b=some u)(heo:∃ u,h'.get? e=some u)
  (new:ObjOk X.prog X.w (upd H x o) h' x o):Inv X pins σ (upd H x o) { s with heap:=h',toks:=t' }:=I.un (Un.write mu he k heo) (I.hok.write mu he k heo new)
theorem Inv.pins_of {pins':U1}(I:Inv X pins σ H s)(h:∀ p∈pins',s.heap.get? p.1=some p.2/\H p.1=none/\p.1≠X.env.locals/\p.1 ∉ X.fs/\∀ v,p.2.data≠.cell v):Inv X pins' σ H s :=
 ⟨I.ok,I.os,I.bare,I.base,I.loc,I.cell,I.free,I.freeC,λp hp=>(q2g.mp hp).elim (λz=>I.pin p (q4o _ z)) (h p),I.hok,I.len⟩
theorem Z8d {N:W0}(hN:N.Nodup){i j:Nat}{x:Str}(a:N[i]?=some x)(b:N[j]?=some x):i=j:=by
 obtain⟨h1,e1⟩:=q0o.mp a
 obtain⟨h2,e2⟩:=q0o.mp b
 exact(List.getElem_inj hN).mp (e1.trans e2.symm)
theorem Z5z {M:Model}{A:W6}{E:U2}{i:Nat}{x:Str}{v:V}{u:W2}{Q:Unit->Shared->Prop}(I:Inv X pins σ H s)(hN:X.N.Nodup)(hi:X.N[i]?=some x)(hx:Loc X.env.scope x)(r:RelV v u)
  (h:∀ s',Inv X pins (σ.set i (some v)) H s'->(∃ a,Heap.SameBut a s.heap s'.heap/\(a=X.env.locals∨X.env.cells.lookup x=some a))->Q () s') (hf:X.fn x=true∨X.env.scope.names.lookup x=some .local:=by first | exact .inl rfl | exact .inr rfl | assumption):wpAny M A (storeName X.env x u) Q E s:=by
 obtain⟨m,hn,hl⟩:=id I.loc
 have hcls:(X.env.scope.kind == .class || (X.env.scope.kind == .module && X.env.locals != X.env.globals))=false:=by rw[I.ok.kind];rfl
 have hiσ:i<σ.length:=by rw[I.len];exact(q0o.mp hi).1
 have cne:=I.cne
 have tracked:∀ {a:W9}{h':Heap},(∃ o,s.heap.get? a=some o/\H a=none)->Heap.SameBut a s.heap h'->HOk X.prog X.w H h':=λ{a h'} ha hs b ob e=>by
  obtain⟨_,_,hfree⟩:=ha
  refine(I.hok b ob e).stay (λc w' hc q=>(hs.2 c ?_).trans q) (λ_ q=>q) λ_ _ q=>q
  rintro rfl
  rcases hc with rfl | hc
  ·rw[hfree] at e;cases e
  ·rw[hfree] at hc;cases hc
 rcases hx with hk | hk
 ·refine wpAny_storeName_local hk hn (λh' hn' hs=>?_) hcls
  obtain⟨oL,_,_,hoL,_⟩:=id hn
  refine h _ ⟨I.ok,I.os,I.bare,⟨λb o e n hb hx=>?_,λb o e n hb hx=>?_,I.base.free,λb o e hx=>?_,I.base.tups,I.base.frzs,I.base.tbls⟩,⟨_,hn',λj y v' e1 e2 e3=>?_⟩,λy c e=>?_,I.free,I.freeC,λp hp=>?_,tracked ⟨oL,hoL,I.free⟩ hs,by simpa using I.len⟩ ⟨_,hs,.inl rfl⟩
  ·exact(hs.2 b (q0r (q0s (q0e e) I.ok.above))).trans (I.base.keep b o e n hb hx)
  ·obtain⟨sl,e1⟩:=I.base.slot b o e n hb hx
   exact⟨sl,(hs.2 b (q0r (q0s (q0e e) I.ok.above))).trans e1⟩
  ·obtain⟨o',e1⟩:=I.base.there b o e hx
   exact⟨o',(hs.2 b (q0r (q0s (q0e e) I.ok.above))).trans e1⟩
  ·by_cases hj:j=i
   ·subst hj
    rw[hi] at e1;cases e1
    rw[q5m hiσ] at e2
    cases e2
    exact⟨u,r,.inl ⟨hk,by simp⟩⟩
   ·rw[q3j (Ne.symm hj)] at e2
    obtain⟨u',r',q⟩:=hl j y v' e1 e2 e3
    refine⟨u',r',?_⟩
    rcases q with ⟨k,e⟩ | ⟨k,c,e,z⟩
    ·refine .inl ⟨k,?_⟩
     have:y≠x:=λe=>hj (Z8d hN e1 (e ▸ hi))
     simp[this,e]
    ·exact .inr ⟨k,c,e,z.sameBut hs (cne y c e)⟩
  ·obtain⟨w',z⟩:=I.cell y c e
   exact⟨w',z.sameBut hs (cne y c e)⟩
  ·obtain⟨e,n,ne,nf,d⟩:=I.pin p hp
   exact⟨(hs.2 p.1 ne).trans e,n,ne,nf,d⟩
 ·have hfn:X.fn x=true:=by
   rcases hf with z | z
   ·exact z
   ·rw[z] at hk;cases hk
  obtain⟨c,hc⟩:=I.ok.has x (.inl hk)
  obtain⟨w',z⟩:=I.cell x c hc
  refine wpAny_storeName_cell I.ok.kind hk hc z (λh' hc' hs=>?_)
  obtain⟨oc,hoc,hocd⟩:=id z
  refine h { s with heap:=h' } ⟨I.ok,I.os,I.bare,⟨λb o e n hb hx=>?_,λb o e n hb hx=>?_,I.base.free,λb o e hx=>?_,I.base.tups,I.base.frzs,I.base.tbls⟩,⟨m,hn.sameBut hs (Ne.symm (cne x c hc)),λj y v' e1 e2 e3=>?_⟩,λy c' e=>?_,I.free,I.freeC,λp hp=>?_,tracked ⟨oc,hoc,I.freeC x c hc⟩ hs,by simpa using I.len⟩ ⟨c,hs,.inr hc⟩
  ·exact(hs.2 b (q0r (q0s (q0e e) (I.ok.cab x c hfn hc)))).trans (I.base.keep b o e n hb hx)
  ·obtain⟨sl,e1⟩:=I.base.slot b o e n hb hx
   exact⟨sl,(hs.2 b (q0r (q0s (q0e e) (I.ok.cab x c hfn hc)))).trans e1⟩
  ·obtain⟨o',e1⟩:=I.base.there b o e hx
   exact⟨o',(hs.2 b (q0r (q0s (q0e e) (I.ok.cab x c hfn hc)))).trans e1⟩
  ·by_cases hj:j=i
   ·subst hj
    rw[hi] at e1;cases e1
    rw[q5m hiσ] at e2
    cases e2
    exact⟨u,r,.inr ⟨.inl hk,c,hc,hc'⟩⟩
   ·rw[q3j (Ne.symm hj)] at e2
    obtain⟨u',r',q⟩:=hl j y v' e1 e2 e3
    refine⟨u',r',?_⟩
    rcases q with q | ⟨k,c',e,z'⟩
    ·exact .inl q
    ·refine .inr ⟨k,c',e,z'.sameBut hs ?_⟩
     rintro rfl
     exact hj (Z8d hN e1 (I.ok.inj _ _ _ e hc ▸ hi))
  ·by_cases hcc:c'=c
   ·subst hcc;exact⟨_,hc'⟩
   ·obtain⟨w2,z2⟩:=I.cell y c' e
    exact⟨w2,z2.sameBut hs hcc⟩
  ·obtain⟨e,n,ne,nf,d⟩:=I.pin p hp
   refine⟨(hs.2 p.1 ?_).trans e,n,ne,nf,d⟩
   intro q
   rw[q,hoc] at e
   have q':oc=p.2:=Option.some.inj e
   exact d w' (by rw[<-q'];exact hocd)
theorem Z7o {M:Model}{A:W6}{E:U2}{i:Nat}{x:Str}{v:V}{u:W2}{Q:Unit->Shared->Prop}(I:Inv X pins σ H s)(hN:X.N.Nodup)(hi:X.N[i]?=some x)(hx:Loc X.env.scope x)(r:RelV v u)
  (h:∀ s',Inv X pins (σ.set i (some v)) H s'->Q () s') (hf:X.fn x=true∨X.env.scope.names.lookup x=some .local:=by first | exact .inl rfl | exact .inr rfl | assumption):wpAny M A (storeName X.env x u) Q E s :=
 Z5z I hN hi hx r (λs' I' _=>h s' I') hf
theorem Inv.call' {s':U7}{ch:U3}(I:Inv X pins σ H s)(ho:s'.os=s.os)(u:Un (frs X.stack) ch H H' s.heap s'.heap)(hok:HOk X.prog X.w H' s'.heap)(hg:AllBare s'.gens)
  (hch:∀ b∈ch,(b∈X.ex∨X.s₀.heap.objs.size<=b)/\b≠X.env.locals/\(∀ x c,X.env.cells.lookup x=some c->c≠b)/\∀ p∈X.pn++pins,p.1≠b):Inv X pins σ H' s':=by
 obtain⟨h',g',d',t',o'⟩:=s'
 have e:o'=s.os:=ho
 subst e
 exact I.call (g':=g') (t':=t') (d':=d') u hok hg hch
end
abbrev XK:=Value->Option Addr->Hp->Prop
abbrev St:=List (Option V)
abbrev VK:=V->Hp->Prop
abbrev TE:=St->Hp->VK->Prop
abbrev TT:=St->Hp->(Bool->Hp->Prop)->Prop
abbrev TA:=St->Hp->(List V->Hp->Prop)->Prop
structure Ends where
 nx:St->Hp->Prop
 rt:VK
 bk:St->Hp->Prop:=λ_ _=>False
 ct:St->Hp->Prop:=λ_ _=>False
abbrev TS:=Ends->St->Hp->Prop
def EP (X:Cx)(pins:U1)(σ:St)(Q:VK)(u:W2)(s':U7):Prop:=∃ v H',Inv X pins σ H' s'/\RelV v u/\Q v H'
def TP (X:Cx)(pins:U1)(σ:St)(Q:Bool->Hp->Prop)(b:Bool)(s':U7):Prop:=∃ H',Inv X pins σ H' s'/\Q b H'
def AP (X:Cx)(pins:U1)(σ:St)(Q:List V->Hp->Prop)(us:U5)(s':U7):Prop:=∃ vs H',Inv X pins σ H' s'/\Vals vs us/\Q vs H'
def SP (X:Cx)(pins:U1)(D:Ends)(f:Flow)(s':U7):Prop :=
 match f with
 | .next=>∃ σ' H',Inv X pins σ' H' s'/\D.nx σ' H'
 | .brk=>∃ σ' H',Inv X pins σ' H' s'/\D.bk σ' H'
 | .cont=>∃ σ' H',Inv X pins σ' H' s'/\D.ct σ' H'
 | .ret u=>∃ v σ' H',Inv X pins σ' H' s'/\RelV v u/\D.rt v H'
def PE (X:Cx)(e:Expr)(t:TE):Prop :=
 ∀ (pins:U1) (s:U7) (σ:St) (H:Hp) (Q:VK),Inv X pins σ H s->t σ H Q->wpAny (model X.prog X.w) X.A (eval e X.env) (EP X pins σ Q) X.xe s
def PT (X:Cx)(e:Expr)(t:TT):Prop :=
 ∀ (pins:U1) (s:U7) (σ:St) (H:Hp) (Q:Bool->Hp->Prop),Inv X pins σ H s->t σ H Q->wpAny (model X.prog X.w) X.A (isTrue e X.env (eval e X.env)) (TP X pins σ Q) X.xe s
def PW (X:Cx)(e:Expr)(t:TT):Prop :=
 ∀ (whole:Sem Value) (pins:U1) (s:U7) (σ:St) (H:Hp) (Q:Bool->Hp->Prop),Inv X pins σ H s->t σ H Q->wpAny (model X.prog X.w) X.A (isTrue e X.env whole) (TP X pins σ Q) X.xe s
theorem PW.pt {X:Cx}{e:Expr}{t:TT}(h:PW X e t):PT X e t:=h _
def PA (X:Cx)(es:List Expr)(t:TA):Prop :=
 ∀ (pos:Pos) (pins:U1) (s:U7) (σ:St) (H:Hp) (Q:List V->Hp->Prop),Inv X pins σ H s->t σ H Q->wpAny (model X.prog X.w) X.A (spliced (backTo pos (starEach es X.env))) (AP X pins σ Q) X.xe s
def PS (X:Cx)(st:Stmt)(t:TS):Prop :=
 ∀ (pins:U1) (s:U7) (σ:St) (H:Hp) (D:Ends),Inv X pins σ H s->t D σ H->wpAny (model X.prog X.w) X.A (exec st X.env) (SP X pins D) X.xe s
def PSs (X:Cx)(st:W8)(t:TS):Prop :=
 ∀ (pins:U1) (s:U7) (σ:St) (H:Hp) (D:Ends),Inv X pins σ H s->t D σ H->wpAny (model X.prog X.w) X.A (execs st X.env) (SP X pins D) X.xe s
theorem thn {α:Type}{t:Sem α}{Q Q':α->Shared->Prop}{M:Model}{A:W6}{E:U2}{s:U7}(h:wpAny M A t Q E s)(hQ:∀ a s,Q a s->Q' a s):wpAny M A t Q' E s:=q1i h hQ λ_ _ x=>x
section
variable {X:Cx}
theorem bin {a b:Expr}{ta tb:TE}(ha:PE X a ta)(hb:PE X b tb){pins:U1}{s:U7}{σ:St}{H:Hp}{R:V->V->Hp->Prop}(I:Inv X pins σ H s)(h:ta σ H λx H1=>tb σ H1 λy H2=>R x y H2)
  {α:Type}{Q:α->Shared->Prop}{f:Value->Value->Sem α}
  (hf:∀ v u s2 x y H2,Inv X pins σ H2 s2->RelV x v->RelV y u->R x y H2->wpAny (model X.prog X.w) X.A (f v u) Q X.xe s2) :
  wpAny (model X.prog X.w) X.A (eval a X.env) (λv s₁=>wpAny (model X.prog X.w) X.A (eval b X.env) (λu s₂=>wpAny (model X.prog X.w) X.A (f v u) Q X.xe s₂) X.xe s₁) X.xe s:=by
 refine thn (ha pins s σ H _ I h) λv s1 ⟨x,H1,I1,r1,q1⟩=>?_
 refine thn (hb pins s1 σ H1 _ I1 q1) λu s2 ⟨y,H2,I2,r2,q2⟩=>?_
 exact hf v u s2 x y H2 I2 r1 r2 q2
def tVar (i:Nat):TE:=λσ H Q=>∃ v,σ[i]?=some (some v)/\Q v H
def tC (v:V):TE:=λ_ H Q=>Q v H
theorem X6k {i:Nat}{x:Str}{pos:Pos}(hN:X.N[i]?=some x)(hv:Vis X.env.scope x)(hd:(x == ("__debug__":Str))=false:=by decide)(hcd:(x == ("__classdict__":Str))=false:=by decide):PE X (.Name x pos) (tVar i):=by
 intro pins s σ H Q I h
 obtain⟨v,e,h⟩:=h
 obtain⟨m,hn,hl⟩:=I.loc
 obtain⟨u,r,l⟩:=hl i x v hN e hv
 have fin:EP X pins σ Q u s:=⟨v,H,I,r,h⟩
 rcases l with ⟨hk,hm⟩ | ⟨hk,c,hc,hcell⟩
 ·exact wpAny_Name (wpAny_loadName_local I.ok.kind hk hn hm fin) hd
 ·rcases hk with hk | hk
  ·exact wpAny_Name (wpAny_loadName_cell I.ok.kind hk hc hcell fin) hd
  ·exact wpAny_Name (wpAny_loadName_free I.ok.kind hk hc hcell fin hcd) hd
theorem Z0b {i j pos}:PE X (.Constant (.int i) j pos) (tC (.int i)):=λ_ _ _ H _ I h=>wpAny_Constant_int ⟨.int i,H,I.tok _,⟨_,Z⟩,h⟩
theorem Z2w {b j pos}:PE X (.Constant (.bool b) j pos) (tC (.bl b)):=λ_ _ _ H _ I h=>Constant_bool ⟨.bl b,H,I,Z,h⟩
theorem X0u {j pos}:PE X (.Constant .none j pos) (tC .non):=λ_ _ _ H _ I h=>Constant_none ⟨.non,H,I,Z,h⟩
theorem Z1h {x j pos}:PE X (.Constant (.str x) j pos) (tC (.str x)):=λ_ _ _ H _ I h=>Calls.Constant_str ⟨.str x,H,I.tok _,⟨_,Z⟩,h⟩
def Gl (X:Cx)(x:Str):Prop:=X.env.kindOf x=some .globalImplicit
theorem Z4l {E:U2}{pins:U1}{s:U7}{σ:St}{H:Hp}{x:Str}{u:W2}{pos:Pos}{Q:U2}(I:Inv X pins σ H s)(hg:Gl X x)(hm:X.mg x=some u)(h:Q u s)
  (hd:(x == ("__debug__":Str))=false:=by decide):wpAny (model X.prog X.w) X.A (eval (.Name x pos) X.env) Q E s :=
 Calls.Name_function_global I.ok.kind hg (Calls.loadGlobal_global (by rw[I.ok.glob];exact I.mod.glob.keeps I.bk) hm h) hd
theorem Z5k {E:U2}{pins:U1}{s:U7}{σ:St}{H:Hp}{x:Str}{u:W2}{pos:Pos}{Q:U2}(I:Inv X pins σ H s)(hg:Gl X x)(hm:X.mg x=none)(hv:bootBuiltins x=some u)(h:Q u s)
  (hn:x≠"__name__":=by decide) (hd:(x == ("__debug__":Str))=false:=by decide):wpAny (model X.prog X.w) X.A (eval (.Name x pos) X.env) Q E s:=by
 obtain⟨mb,h1,h2⟩:=I.mod.blt
 exact Calls.Name_function_global I.ok.kind hg (Calls.loadGlobal_builtin (by rw[I.ok.glob];exact I.mod.glob.keeps I.bk) hm (by rw[I.ok.blt];exact h1.keeps I.bk) ((h2 x hn).trans hv) h) hd
theorem Z2s {x:Str}{v:V}{u:W2}{pos:Pos}(hg:Gl X x)(hm:X.mg x=some u)(r:RelV v u)(hd:(x == ("__debug__":Str))=false:=by decide):PE X (.Name x pos) (tC v) :=
 λ_ _ _ H _ I h=>Z4l I hg hm ⟨v,H,I,r,h⟩ hd
theorem Z1w {x:Str}{v:V}{u:W2}{pos:Pos}(hg:Gl X x)(hm:X.mg x=none)(hv:bootBuiltins x=some u)(r:RelV v u)(hn:x≠"__name__":=by decide)(hd:(x == ("__debug__":Str))=false:=by decide):PE X (.Name x pos) (tC v) :=
 λ_ _ _ H _ I h=>Z5k I hg hm hv ⟨v,H,I,r,h⟩ hn hd
variable {a b:Expr}{ta tb:TE}{pos:Pos}
def PC (X:Cx)(op:CmpOp)(a b:Expr)(t:TE):Prop :=
 ∀ (pins:U1) (s:U7) (σ:St) (H:Hp) (Q:VK),Inv X pins σ H s->t σ H Q →
  wpAny (model X.prog X.w) X.A (eval a X.env) (λv s₁=>wpAny (model X.prog X.w) X.A (eval b X.env) (λu s₂=>wpAny (model X.prog X.w) X.A (compareOp op v u) (EP X pins σ Q) X.xe s₂) X.xe s₁) X.xe s
def tB (t:TE):TT:=λσ H Q=>t σ H λx H1=>∃ c,x=.bl c/\Q c H1
theorem X6i {op:CmpOp}{t:TE}(h:PC X op a b t)(h1:behindInMarks op b=false:=by first | exact nobehind _ (by decide) (by decide) | rfl):PT X (.Compare a [op] [b] pos) (tB t):=by
 intro pins s σ H Q I hw
 refine q7z (thn (h pins s σ H _ I hw) λv s1 h1=>thn h1 λu s2 h2=>thn h2 λc s3 ⟨x,H1,I1,r1,q1⟩=>?_) h1
 obtain⟨d,rfl,q⟩:=q1
 cases r1
 exact q2b ⟨H1,I1,q⟩
theorem Z1l {e:Expr}{t:TE}(h:PE X e t)(he:∀ whole,isTrue e X.env whole=(do let v ← whole;standAt e.pos;holding [v] (truthy v)):=by intro _;rfl):PT X e (tB t):=by
 intro pins s σ H Q I hw
 refine isTrue_plain (thn (h pins s σ H _ I hw) λv s1 ⟨x,H1,I1,r1,q1⟩=>?_) (he _)
 obtain⟨d,rfl,q⟩:=q1
 cases r1
 exact q2b ⟨H1,I1,q⟩
variable {tA tB':TT}{rest:List Expr}
def tAnd (t u:TT):TT:=λσ H Q=>t σ H λc H1=>if c=true then u σ H1 Q else Q false H1
def tOr (t u:TT):TT:=λσ H Q=>t σ H λc H1=>if c=true then Q true H1 else u σ H1 Q
def tNot (t:TT):TT:=λσ H Q=>t σ H λc H1=>Q (!c) H1
theorem Z4g (ha:PT X a tA):PW X (.BoolOp .And [a] pos) tA:=by
 intro wh pins s σ H Q I h
 refine isTrue_and (thn (ha pins s σ H Q I h) λc s1 e=>?_)
 cases c with
 | true=>exact isTrue_and_nil e
 | false=>exact e
theorem Z2n (ha:PT X a tA):PW X (.BoolOp .Or [a] pos) tA:=by
 intro wh pins s σ H Q I h
 refine isTrue_or (thn (ha pins s σ H Q I h) λc s1 e=>?_)
 cases c with
 | false=>exact isTrue_or_nil e
 | true=>exact e
theorem Z6c (ha:PT X a tA)(hb:PW X (.BoolOp .And (b::rest) pos) tB'):PW X (.BoolOp .And (a::b::rest) pos) (tAnd tA tB'):=by
 intro wh pins s σ H Q I h
 refine isTrue_and (thn (ha pins s σ H _ I h) λc s1 ⟨H1,I1,q1⟩=>?_)
 cases c with
 | true=>exact hb wh pins s1 σ H1 Q I1 q1
 | false=>exact⟨H1,I1,q1⟩
theorem Z2y (ha:PT X a tA)(hb:PW X (.BoolOp .Or (b::rest) pos) tB'):PW X (.BoolOp .Or (a::b::rest) pos) (tOr tA tB'):=by
 intro wh pins s σ H Q I h
 refine isTrue_or (thn (ha pins s σ H _ I h) λc s1 ⟨H1,I1,q1⟩=>?_)
 cases c with
 | true=>exact⟨H1,I1,q1⟩
 | false=>exact hb wh pins s1 σ H1 Q I1 q1
theorem Z1z (ha:PT X a tA):PT X (.UnaryOp .Not a pos) (tNot tA):=by
 intro pins s σ H Q I h
 exact isTrue_not (ha pins s σ H (λc H1=>Q (!c) H1) I h)
def tAndV (ta tb:TE):TE:=λσ H Q=>ta σ H λx H1=>∃ c,x=.bl c/\if c=true then tb σ H1 Q else Q (.bl false) H1
def tOrV (ta tb:TE):TE:=λσ H Q=>ta σ H λx H1=>∃ c,x=.bl c/\if c=true then Q (.bl true) H1 else tb σ H1 Q
def tNotV (ta:TE):TE:=λσ H Q=>ta σ H λx H1=>∃ c,x=.bl c/\Q (.bl (!c)) H1
theorem Z3n {op}{t:TE}(h:PE X a t):PE X (.BoolOp op [a] pos) t:=λpins s σ H Q I hw=>BoolOp_one (h pins s σ H Q I hw)
theorem Z4c (ha:PE X a ta)(hb:PE X (.BoolOp .And (b::rest) pos) tb):PE X (.BoolOp .And (a::b::rest) pos) (tAndV ta tb):=by
 intro pins s σ H Q I h
 refine BoolOp_and (thn (ha pins s σ H _ I h) λv s1 ⟨x,H1,I1,r1,q1⟩=>?_)
 obtain⟨c,rfl,q1⟩:=q1
 cases r1
 refine q2b ?_
 cases c with
 | true=>exact hb pins s1 σ H1 Q I1 q1
 | false=>exact⟨.bl false,H1,I1,rfl,q1⟩
theorem X6l (ha:PE X a ta)(hb:PE X (.BoolOp .Or (b::rest) pos) tb):PE X (.BoolOp .Or (a::b::rest) pos) (tOrV ta tb):=by
 intro pins s σ H Q I h
 refine BoolOp_or (thn (ha pins s σ H _ I h) λv s1 ⟨x,H1,I1,r1,q1⟩=>?_)
 obtain⟨c,rfl,q1⟩:=q1
 cases r1
 refine q2b ?_
 cases c with
 | false=>exact hb pins s1 σ H1 Q I1 q1
 | true=>exact⟨.bl true,H1,I1,rfl,q1⟩
theorem Y4s (ha:PE X a ta):PE X (.UnaryOp .Not a pos) (tNotV ta):=by
 intro pins s σ H Q I h
 refine UnaryOp_ (thn (ha pins s σ H _ I h) λv s1 ⟨x,H1,I1,r1,q1⟩=>?_)
 obtain⟨c,rfl,q1⟩:=q1
 cases r1
 exact not_of (q2b ⟨.bl (!c),H1,I1,Z,q1⟩)
def tIf (t:TT)(ta tb:TE):TE:=λσ H Q=>t σ H λc H1=>if c=true then ta σ H1 Q else tb σ H1 Q
theorem Z2p {c:Expr}(hc:PT X c tA)(ha:PE X a ta)(hb:PE X b tb):PE X (.IfExp c a b pos) (tIf tA ta tb):=by
 intro pins s σ H Q I h
 refine wpAny_IfExp (thn (hc pins s σ H _ I h) λd s1 ⟨H1,I1,q1⟩=>?_)
 cases d with
 | true=>exact ha pins s1 σ H1 Q I1 q1
 | false=>exact hb pins s1 σ H1 Q I1 q1
end
def SqL (K:U0)(H:Hp)(a:W9)(xs:List V):Prop :=
 Rd H a (.lst xs) ∨
  ∃ (o:Obj) (its:U9) (n:Nat),K.lookup a=some o/\o.cls=.type "list"/\o.dict=none/\o.data=.seq its n/\its.size<=sizeLine/\Vals xs its.toList
def SqT (K:U0)(H:Hp)(a:W9)(xs:List V):Prop :=
 Rd H a (.tup xs) ∨
  ∃ (o:Obj) (its:U9) (n:Nat),K.lookup a=some o/\o.cls=.type "tuple"/\o.data=.seq its n/\its.size<=sizeLine/\Vals xs its.toList
noncomputable def absV:Value->Option V
 | .none=>some .non
 | .bool b=>some (.bl b)
 | .int i _=>some (.int i)
 | .str x _=>some (.str x)
 | .bytes b _=>some (.byt b)
 | .float b _=>some (.flt b)
 | .ref a=>some (.ref a)
 | .type n=>some (.ty n)
 | _=>none
theorem RelV.abs {x:V}{u:W2}(r:RelV x u):absV u=some x:=by
 cases x with
 | non=>cases r;rfl
 | bl _=>cases r;rfl
 | int _=>obtain⟨t,rfl⟩:=r;rfl
 | str _=>obtain⟨t,rfl⟩:=r;rfl
 | byt _=>obtain⟨t,rfl⟩:=r;rfl
 | flt _=>obtain⟨t,rfl⟩:=r;rfl
 | ref _=>cases r;rfl
 | ty _=>cases r;rfl
theorem RelV.inj {x y:V}{u:W2}(r:RelV x u)(q:RelV y u):x=y:=Option.some.inj (r.abs.symm.trans q.abs)
theorem Vals.inj {xs ys:List V}{us:U5}(h:Vals xs us)(h':Vals ys us):xs=ys:=by
 induction h generalizing ys with
 | nil=>cases h';rfl
 | cons r t ih=>cases h' with
  | cons r' t'=>rw[r.inj r',ih t']
section
variable {X:Cx}{pins:U1}{σ:St}{H:Hp}{s:U7}{a:W9}{xs ys:List V}
theorem SqL.of {K:U0}(h:H a=some (.lst xs)):SqL K H a xs:=.inl (.inl h)
theorem SqT.of {K:U0}(h:H a=some (.tup xs)):SqT K H a xs:=.inl (.inl h)
theorem Inv.list (I:Inv X pins σ H s)(h:SqL X.K H a xs):∃ its:List Value,Vals xs its/\PlainL s.heap a its.toArray/\xs.length<=sizeLine:=by
 rcases h with h | ⟨o,its,n,hk,hc,hd,hs,hz,r⟩
 ·obtain⟨z,its,n,r,e⟩:=h.ok I.hok
  exact⟨its,r,⟨_,n,e,Z,Z,Z⟩,z⟩
 ·refine⟨its.toList,r,⟨o,n,I.kIn a o hk,hc,hd,by simpa using hs⟩,?_⟩
  have e:=r.length
  simp only[q0z] at e
  omega
theorem Inv.tuple (I:Inv X pins σ H s)(h:SqT X.K H a xs):∃ its:List Value,Vals xs its/\IsTup s.heap a its.toArray/\xs.length<=sizeLine:=by
 rcases h with h | ⟨o,its,n,hk,hc,hs,hz,r⟩
 ·obtain⟨z,its,r,p⟩:=h.ok I.hok
  exact⟨its,r,p,z⟩
 ·refine⟨its.toList,r,⟨o,I.kIn a o hk,hc,n,by simpa using hs⟩,?_⟩
  have e:=r.length
  simp only[q0z] at e
  omega
theorem Inv.list_inj (I:Inv X pins σ H s)(h:SqL X.K H a xs)(h':SqL X.K H a ys):xs=ys:=by
 obtain⟨its,r,⟨o,n,e,_,_,d⟩,_⟩:=I.list h
 obtain⟨its',r',⟨o',n',e',_,_,d'⟩,_⟩:=I.list h'
 rw[e] at e';cases e'
 rw[d] at d'
 injection d' with d1 _
 have:its=its':=by simpa using congrArg Array.toList d1
 subst this
 exact r.inj r'
theorem Inv.tuple_inj (I:Inv X pins σ H s)(h:SqT X.K H a xs)(h':SqT X.K H a ys):xs=ys:=by
 obtain⟨its,r,⟨o,e,_,n,d⟩,_⟩:=I.tuple h
 obtain⟨its',r',⟨o',e',_,n',d'⟩,_⟩:=I.tuple h'
 rw[e] at e';cases e'
 rw[d] at d'
 injection d' with d1 _
 have:its=its':=by simpa using congrArg Array.toList d1
 subst this
 exact r.inj r'
end
noncomputable abbrev Cx.wish (X:Cx)(E:U2):Cx:={ X with xe:=E }
noncomputable abbrev Cx.nox (X:Cx):Cx:=X.wish λ_ _=>False
theorem Cx.Ok.wish {X:Cx}(ok:X.Ok)(E:U2):(X.wish E).Ok :=
 ⟨ok.mod,ok.kind,ok.glob,ok.blt,ok.above,ok.inj,ok.has,ok.cab,ok.hd,ok.frames,ok.stk,ok.exf,ok.bs,ok.bsz,ok.noex,ok.exfs,ok.funs,ok.frf⟩
theorem Cx.Ok.unwish {X:Cx}{E:U2}(ok:(X.wish E).Ok):X.Ok :=
 ⟨ok.mod,ok.kind,ok.glob,ok.blt,ok.above,ok.inj,ok.has,ok.cab,ok.hd,ok.frames,ok.stk,ok.exf,ok.bs,ok.bsz,ok.noex,ok.exfs,ok.funs,ok.frf⟩
section
variable {X:Cx}{pins:U1}{σ:St}{H:Hp}{s:U7}{E:U2}
theorem Inv.wish (I:Inv X pins σ H s)(E:U2):Inv (X.wish E) pins σ H s:=⟨I.ok.wish E,I.os,I.bare,I.base,I.loc,I.cell,I.free,I.freeC,I.pin,I.hok,I.len⟩
theorem Inv.unwish (I:Inv (X.wish E) pins σ H s):Inv X pins σ H s:=⟨I.ok.unwish,I.os,I.bare,I.base,I.loc,I.cell,I.free,I.freeC,I.pin,I.hok,I.len⟩
theorem SP.unwish {D:Ends}{f:Flow}{s':U7}(h:SP (X.wish E) pins D f s'):SP X pins D f s':=by
 cases f with
 | next=>obtain⟨σ',H',I,q⟩:=h;exact⟨σ',H',I.unwish,q⟩
 | brk=>obtain⟨σ',H',I,q⟩:=h;exact⟨σ',H',I.unwish,q⟩
 | cont=>obtain⟨σ',H',I,q⟩:=h;exact⟨σ',H',I.unwish,q⟩
 | ret u=>obtain⟨v,σ',H',I,r,q⟩:=h;exact⟨v,σ',H',I.unwish,r,q⟩
theorem PSs.nox {st:W8}{t:TS}(h:PSs X.nox st t):PSs X st t:=λpins s σ H D I hw =>
 q1i (h pins s σ H D (I.wish _) hw) (λ_ _ q=>q.unwish) λ_ _ z=>False.elim z
end
section
variable {X:Cx}{st:Stmt}{rest:W8}{t u:TS}{e:Expr}{te:TE}{pos:Pos}
def tNext:TS:=λD σ H=>D.nx σ H
def tSeq (t u:TS):TS:=λD σ H=>t { D with nx:=u D } σ H
theorem Z0r:PSs X [] tNext:=λ_ _ σ H _ I h=>q5e ⟨σ,H,I,h⟩
theorem Z0e (h1:PS X st t)(h2:PSs X rest u):PSs X (st::rest) (tSeq t u):=by
 intro pins s σ H D I h
 refine q7n (thn (h1 pins s σ H { D with nx:=u D } I h) λf s1 q=>?_)
 cases f with
 | next =>
  obtain⟨σ',H',I',q⟩:=q
  exact h2 pins s1 σ' H' D I' q
 | ret v=>exact q
 | brk=>exact q
 | cont=>exact q
theorem Z0g (h1:PS X st t):PSs X [st] t:=by
 intro pins s σ H D I h
 refine q7n (thn (h1 pins s σ H D I h) λf s1 q=>?_)
 cases f with
 | next=>exact q5e q
 | ret v=>exact q
 | brk=>exact q
 | cont=>exact q
theorem Inv.quiet {pins:U1}{σ:St}{H:Hp}{s:U7}(I:Inv X pins σ H s):interactive X.env=false:=by simp[interactive,I.ok.kind]
def tDrop (te:TE):TS:=λD σ H=>te σ H λ_ H1=>D.nx σ H1
theorem Z2v (he:PE X e te)(hs:swapsWith e none pos.line X.env=pure false:=by rfl):PS X (.Expr e pos) (tDrop te):=by
 intro pins s σ H D I h
 exact wpAny_Expr_any (thn (he pins s σ H _ I h) λv s1 ⟨x,H1,I1,r1,q1⟩=>⟨σ,H1,I1,q1⟩) I.quiet hs
def tRet (te:TE):TS:=λD σ H=>te σ H D.rt
theorem Z0l (he:PE X e te):PS X (.Return (some e) pos) (tRet te):=by
 intro pins s σ H D I h
 exact wpAny_Return_some (thn (he pins s σ H _ I h) λv s1 ⟨x,H1,I1,r1,q1⟩=>⟨x,σ,H1,I1,r1,q1⟩)
def tIfS (c:TT)(t u:TS):TS:=λD σ H=>c σ H λb H1=>if b=true then t D σ H1 else u D σ H1
theorem Z1b {c:Expr}{a b:W8}{tc:TT}(hc:PT X c tc)(ha:PSs X a t)(hb:PSs X b u):PS X (.If c a b pos) (tIfS tc t u):=by
 intro pins s σ H D I h
 refine wpAny_If (thn (hc pins s σ H _ I h) λd s1 ⟨H1,I1,q1⟩=>?_)
 cases d with
 | true=>exact ha pins s1 σ H1 D I1 q1
 | false=>exact hb pins s1 σ H1 D I1 q1
def tNever:TS:=λ_ _ _=>False
theorem Z4r:PS X st tNever:=λ_ _ _ _ _ _ h=>h.elim
theorem Y4n {sts:W8}:PSs X sts tNever:=λ_ _ _ _ _ _ h=>h.elim
end
abbrev TG:=V->St->Hp->(St->Hp->Prop)->Prop
abbrev TGs:=List V->St->Hp->(St->Hp->Prop)->Prop
def PG (X:Cx)(target:Expr)(t:TG):Prop :=
 ∀ (pins:U1) (s:U7) (σ:St) (H:Hp) (v:V) (u:W2) (Q:St->Hp->Prop),Inv X pins σ H s->RelV v u->t v σ H Q →
  wpAny (model X.prog X.w) X.A (assign target X.env u) (λ_ s'=>∃ σ' H',Inv X pins σ' H' s'/\Q σ' H') X.xe s
def PGs (X:Cx)(ts:List Expr)(t:TGs):Prop :=
 ∀ (pins:U1) (s:U7) (σ:St) (H:Hp) (vs:List V) (us:U5) (Q:St->Hp->Prop),Inv X pins σ H s->Vals vs us->t vs σ H Q →
  wpAny (model X.prog X.w) X.A (assignInOrder ((assignEach ts X.env).map (·.2)) us) (λ_ s'=>∃ σ' H',Inv X pins σ' H' s'/\Q σ' H') X.xe s
abbrev TSet:=V->V->V->Hp->(Hp->Prop)->Prop
def PSet (X:Cx)(t:TSet):Prop :=
 ∀ (pins:U1) (s:U7) (σ:St) (H:Hp) (o i v:V) (ov iv u:W2) (Q:Hp->Prop),Inv X pins σ H s->RelV o ov->RelV i iv->RelV v u->t o i v H Q →
  wpAny (model X.prog X.w) X.A (setItem ov iv u) (λ_ s'=>∃ H',Inv X pins σ H' s'/\Q H') X.xe s
section
variable {X:Cx}{pos:Pos}
def gName (i:Nat):TG:=λv σ H Q=>Q (σ.set i (some v)) H
theorem Z0m {i:Nat}{x:Str}(hN:X.N.Nodup)(hi:X.N[i]?=some x)(hx:Loc X.env.scope x)(hf:X.fn x=true∨X.env.scope.names.lookup x=some .local:=by first | exact .inl rfl | exact .inr rfl | assumption):PG X (.Name x pos) (gName i):=by
 intro pins s σ H v u Q I r h
 exact q6x (Z7o I hN hi hx r (λs' I'=>⟨_,H,I',h⟩) hf)
def gNil:TGs:=λvs σ H Q=>vs=[]/\Q σ H
def gCons (t:TG)(u:TGs):TGs:=λvs σ H Q=>∃ v r,vs=v::r/\t v σ H λσ' H'=>u r σ' H' Q
theorem Z2f:PGs X [] gNil:=by
 intro pins s σ H vs us Q I r h
 obtain⟨e,h⟩:=h
 subst e
 cases r
 exact assignInOrder_nil ⟨σ,H,I,h⟩
theorem Z0v {e:Expr}{es:List Expr}{t:TG}{u:TGs}(h1:PG X e t)(h2:PGs X es u)
  (hs:(assignEach (e::es) X.env).map (·.2)=assign e X.env::(assignEach es X.env).map (·.2):=by rfl):PGs X (e::es) (gCons t u):=by
 intro pins s σ H vs us Q I r h
 obtain⟨v,vr,e1,h⟩:=h
 subst e1
 cases r with
 | cons r rr =>
  rw[hs]
  refine assignInOrder_cons (thn (h1 pins s σ H _ _ _ I r h) λ_ s1 ⟨σ1,H1,I1,q1⟩=>?_)
  exact h2 pins s1 σ1 H1 _ _ Q I1 rr q1
def gTup (K:U0)(n:Nat)(t:TGs):TG:=λv σ H Q=>∃ a xs,v=.ref a/\SqT K H a xs/\xs.length=n/\t xs σ H Q
theorem Z2z {es:List Expr}{k:Nat}{t:TGs}{n:Nat}(hc:X.calm=true)(h:PGs X es t)
  (hn:(assignEach es X.env).length=n:=by rfl) (hst:(assignEach es X.env).findIdx? (·.1)=none:=by rfl):PG X (.Tuple es k pos) (gTup X.K n t):=by
 intro pins s σ H v u Q I r hw
 obtain⟨a,xs,e1,hq,hl,hw⟩:=hw
 subst e1
 cases r
 obtain⟨its,rv,ht,hz⟩:=I.tuple hq
 refine assign_Tuple_tuple (I.ok.hd hc) ht (by simp[hn,<-hl,rv.length]) hst λh' hx=>?_
 have I1:Inv X pins σ H { s with heap:=h' }:=I.kept (t':=s.toks) λb o e=>hx b o (q0r (q0e e)) e
 exact h pins _ σ H xs _ Q I1 (by simpa using rv) hw
def gSub (to ti:TE)(t:TSet):TG:=λv σ H Q=>to σ H λo H1=>ti σ H1 λi H2=>t o i v H2 λH3=>Q σ H3
theorem Y4r {o i:Expr}{to ti:TE}{t:TSet}(ho:PE X o to)(hi:PE X i ti)(hs:PSet X t)
  (ha:∀ v,assign (.Subscript o i pos) X.env v=(do
   let ov ← holding [v] (eval o X.env)
   let iv ← holding [v,ov] (eval i X.env)
   standAt pos
   holding [v,ov,iv] (setItem ov iv v)
   release [v,ov,iv] []):=by intro _;rfl):PG X (.Subscript o i pos) (gSub to ti t):=by
 intro pins s σ H v u Q I r h
 rw[ha]
 refine q0b (q1w (thn (ho pins s σ H _ I h) λov s1 ⟨x,H1,I1,r1,q1⟩=>?_))
 refine q0b (q1w (thn (hi pins s1 σ H1 _ I1 q1) λiv s2 ⟨y,H2,I2,r2,q2⟩=>?_))
 refine q0b (q4i (q0b (q1w (thn (hs pins s2 σ H2 x y v ov iv u _ I2 r1 r2 r q2) λ_ s3 ⟨H3,I3,q3⟩=>?_))))
 exact wpAny_release ⟨σ,H3,I3,q3⟩
def tAsg (te:TE)(g:TG):TS:=λD σ H=>te σ H λx H1=>g x σ H1 D.nx
theorem Z4a {tg e:Expr}{te:TE}{g:TG}(he:PE X e te)(hg:PG X tg g)(hs:swapsWithSole [tg] e pos.line X.env=pure false:=by rfl)(hw:swappedStores [tg] e X.env=pure none:=by rfl)
  (h1:(assignEach [tg] X.env).map (·.2)=[assign tg X.env]:=by rfl):PS X (.Assign [tg] e pos) (tAsg te g):=by
 intro pins s σ H D I h
 refine wpAny_Assign_stores (thn (he pins s σ H _ I h) λv s1 ⟨x,H1,I1,r1,q1⟩=>?_) hs hw
 rw[h1]
 exact thn (hg pins s1 σ H1 x v _ I1 r1 q1) λ_ s2 q=>q
theorem Z0o {i:Nat}{x:Str}{e:Expr}{te:TE}{pos':Pos}(hN:X.N.Nodup)(hi:X.N[i]?=some x)(hx:Loc X.env.scope x)(he:PE X e te)(hs:swapsWith e (some (.Name x pos')) pos.line X.env=pure false:=by rfl)(hf:X.fn x=true∨X.env.scope.names.lookup x=some .local:=by first | exact .inl rfl | exact .inr rfl | assumption) :
  PS X (.Assign [.Name x pos'] e pos) (tAsg te (gName i)):=by
 intro pins s σ H D I h
 refine wpAny_Assign_Name (thn (he pins s σ H _ I h) λv s1 ⟨y,H1,I1,r1,q1⟩=>?_) hs
 exact Z7o I1 hN hi hx r1 (λs2 I2=>⟨_,H1,I2,q1⟩) hf
end
section
variable {X:Cx}{pos:Pos}
def tWhile (c:TT)(tb:TS):TS:=λD σ H=>∃ W:Nat->St->Hp->Prop,(∃ m,W m σ H)/\∀ m σ H,W m σ H →
 c σ H λb H1=>if b=true then ∃ N:St->Hp->Prop,(∀ σ' H',N σ' H'->∃ m',m'<m/\W m' σ' H')/\tb { D with nx:=N,ct:=N,bk:=D.nx } σ H1 else D.nx σ H1
theorem Z7y {c:Expr}{body:W8}{tc:TT}{tb:TS}(hp:PassesOwn (model X.prog X.w) X.A X.env X.xe)(hc:PT X c tc)(hb:PSs X body tb):PS X (.While c body [] pos) (tWhile tc tb):=by
 intro pins s σ H D I h
 obtain⟨W,⟨m0,w0⟩,turn⟩:=h
 refine wpAny_While (codeAny_whileLoop (λn s'=>∃ σ' H',Inv X pins σ' H' s'/\W n σ' H') ?_ m0 ⟨σ,H,I,w0⟩)
 rintro n s1 ⟨σ1,H1,I1,w1⟩
 refine q3k hp (thn (hc pins s1 σ1 H1 _ I1 (turn n σ1 H1 w1)) λb s2 ⟨H2,I2,q2⟩=>?_)
 cases b with
 | true =>
  obtain⟨N,hN,q2⟩:=q2
  rw[if_pos rfl]
  refine q3k hp (thn (hb pins s2 σ1 H2 _ I2 q2) λf s3 q3=>?_)
  cases f with
  | next =>
   obtain⟨σ3,H3,I3,n3⟩:=q3
   obtain⟨m',hm,w3⟩:=hN σ3 H3 n3
   exact⟨m',hm,σ3,H3,I3,w3⟩
  | cont =>
   obtain⟨σ3,H3,I3,n3⟩:=q3
   obtain⟨m',hm,w3⟩:=hN σ3 H3 n3
   exact⟨m',hm,σ3,H3,I3,w3⟩
  | brk=>exact q3
  | ret v=>exact q3
 | false =>
  rw[if_neg q0p]
  exact q5e ⟨σ1,H2,I2,q2⟩
end
structure It where
 go:Nat->Hp->Prop
 yld:Nat->Hp->V->Hp->Prop
 stop:Nat->Hp->Prop
def FpOk (X:Cx)(pins:U1)(H:Hp)(b:W9):Prop :=
 H b=none/\b≠X.env.locals/\b ∉ X.fs/\(b∈X.ex∨X.s₀.heap.objs.size<=b)/\(∀ x c,X.env.cells.lookup x=some c->c≠b)/\∀ p∈X.pn++pins,p.1≠b
theorem Inv.fpOk {X:Cx}{pins:U1}{σ:St}{H H':Hp}{s:U7}{b:W9}(I:Inv X pins σ H s)(hb:s.heap.objs.size<=b)(hn:H' b=none):FpOk X pins H' b:=by
 refine⟨hn,q2y (q0s I.lt hb),I.nofs hb,.inr (q1m I.sz hb),λx c e z=>?_,λp hp z=>?_⟩
 ·obtain⟨v,q⟩:=I.cell x c e
  exact absurd (q0s q.lt (by rw[z];exact hb)) (q2x _)
 ·exact absurd (q0s (q0e (I.pin p hp).1) (by rw[z];exact hb)) (q2x _)
structure Turn (P:U8) (w:W1) (K:U0) (tg:Expr) (J:It) (fp:U3) (it:W9) (tn:Nat->Heap->Prop):Prop where
 mem:it∈fp
 obj:∀ i h,tn i h->∀ b∈fp,∃ o,h.get? b=some o/\∀ v,o.data≠.cell v
 keep:∀ i h h',tn i h->(∀ b∈fp,∀ o,h.get? b=some o->h'.get? b=some o)->tn i h'
 item:∀ (X:Cx),X.prog=P->X.w=w->X.K=K->X.calm=true->∀ (i:Nat) (pins:U1) (s:U7) (σ:St) (H:Hp) (E:U2),Inv X pins σ H s->(∀ b∈fp,FpOk X pins H b)->tn i s.heap->J.go i H →
  wpAny (model P w) X.A (pyNext (.ref it)) (λr s1=>∃ u,r=some u ∧
   wpAny (model P w) X.A (letOwnedTupleGo tg (.ref it) u) (λ_ s2=>∃ x H',Inv X pins σ H' s2/\RelV x u/\J.yld i H x H'/\tn (i+1) s2.heap/\∀ b∈fp,H' b=none) E s1) E s
 done:∀ (X:Cx),X.prog=P->X.w=w->X.K=K->X.calm=true->∀ (i:Nat) (pins:U1) (s:U7) (σ:St) (H:Hp) (E:U2),Inv X pins σ H s->(∀ b∈fp,FpOk X pins H b)->tn i s.heap->J.stop i H →
  wpAny (model P w) X.A (pyNext (.ref it)) (λr s1=>r=none/\Inv X pins σ H s1) E s
 self:∀ (A:W6) (i:Nat) (s:U7) (Q:U2) (E:U2),tn i s.heap->Q (.ref it) s->wpAny (model P w) A (pyIter (.ref it)) Q E s
abbrev TI:=St->Hp->(It->Hp->Prop)->Prop
def PIE (X:Cx)(pins:U1)(σ:St)(tg:Expr)(R:It->Hp->Prop)(itv:W2)(s2:U7):Prop :=
 ∃ (it:W9) (fp:U3) (tn:Nat->Heap->Prop) (J:It) (H':Hp),itv=.ref it/\Inv X pins σ H' s2/\Turn X.prog X.w X.K tg J fp it tn/\tn 0 s2.heap/\(∀ b∈fp,FpOk X pins H' b)/\R J H'
def PI (X:Cx)(tg iter:Expr)(wi:TI):Prop :=
 ∀ (pins:U1) (s:U7) (σ:St) (H:Hp) (R:It->Hp->Prop),Inv X pins σ H s->wi σ H R →
  wpAny (model X.prog X.w) X.A (eval iter X.env) (λv s1=>wpAny (model X.prog X.w) X.A (pyIter v) (PIE X pins σ tg R) X.xe s1) X.xe s
theorem Y9l {M:Model}{A:W6}{E:U2}{s:U7}{tg:Expr}{it:W9}{u:W2}{o:Obj}{n:String}{vs:U9}{Q:Unit->Shared->Prop}(ho:s.heap.get? it=some o)(hc:o.cls=.type n)(hd:o.data=.fields vs)
  (hn:["enumerate","zip","dict_itemiterator","dict_reverseitemiterator","odict_iterator","itertools.zip_longest","itertools.pairwise"].contains n=false) (hQ:Q () s):wpAny M A (letOwnedTupleGo tg (.ref it) u) Q E s:=by
 unfold letOwnedTupleGo
 cases tg<;>first
  | exact q0g hQ
  | (cases u<;>first
    | exact q0g hQ
    | (refine q0b (wpAny_load ho ?_);rw[hc,hd];show wpAny M A (if (["enumerate","zip","dict_itemiterator","dict_reverseitemiterator","odict_iterator","itertools.zip_longest","itertools.pairwise"].contains n && vs[0]? == some (rawInt _))=true then _ else _) Q E s;rw[if_neg (by intro h;rw[hn,Bool.false_and] at h;cases h)];exact q0g hQ))
def Itl (K:U0)(a:W9):It :=
 ⟨λi H=>∃ xs x,SqL K H a xs/\xs[i]?=some x,λi H x H'=>H'=H/\∀ xs,SqL K H a xs->xs[i]?=some x,λi H=>∃ xs,SqL K H a xs/\xs.length<=i⟩
def Itt (K:U0)(a:W9):It :=
 ⟨λi H=>∃ xs x,SqT K H a xs/\xs[i]?=some x,λi H x H'=>H'=H/\∀ xs,SqT K H a xs->xs[i]?=some x,λi H=>∃ xs,SqT K H a xs/\xs.length<=i⟩
def Itr (lo:Int)(n:Nat):It:=⟨λi _=>i<n,λi H x H'=>H'=H/\x=.int (lo+i),λi _=>n<=i⟩
theorem Y3p {P:U8}{w:W1}{K:U0}{tg:Expr}(a it:W9):Turn P w K tg (Itl K a) [it] it (λi h=>h.IsListIter it a i) where
 mem:=by simp
 obj:=λi h st b hb=>by
  have e:b=it:=by simpa using hb
  subst e
  obtain⟨o,e,c,d⟩:=st
  exact⟨o,e,λv z=>by rw[d] at z;cases z⟩
 keep:=λi h h' st k=>st.at λo e=>k it (by simp) o e
 item:=by
  intro X hP hw hK hc i pins s σ H E I hf st hg
  subst hP hw hK
  obtain⟨xs,x,hq,hx⟩:=hg
  obtain⟨its,rv,p,hz⟩:=I.list hq
  obtain⟨u,hu,ru⟩:=rv.get hx
  obtain⟨f0,f1,f2,f3,f4,f5⟩:=hf it (by simp)
  refine wpAny_pyNext_list_item st p.isList (x:=u) (by simpa using hu) λh' st' sb=>?_
  have I1:Inv X pins σ H { s with heap:=h' }:=I.turned (t':=s.toks) (λb o hb e=>(sb.2 b hb).trans e) f0 f1 f3 f4 f5
  obtain⟨o,e,c,d⟩:=id st'
  exact⟨u,Z,Y9l (s:={ s with heap:=h' }) e c d (by decide) ⟨x,H,I1,ru,⟨Z,λys hy=>by rw[I.list_inj hy hq];exact hx⟩,st',λb hb=>(hf b hb).1⟩⟩
 done:=by
  intro X hP hw hK hc i pins s σ H E I hf st hg
  subst hP hw hK
  obtain⟨xs,hq,hx⟩:=hg
  obtain⟨its,rv,p,hz⟩:=I.list hq
  obtain⟨f0,f1,f2,f3,f4,f5⟩:=hf it (by simp)
  have hl:=rv.length
  exact wpAny_pyNext_list_end (I.ok.hd hc) st p.isList (by simp;omega) λh' eb=>⟨Z,I.turned (t':=s.toks) (λb o hb e=>eb b o hb e) f0 f1 f3 f4 f5⟩
 self:=λ_ _ _ _ _ st h=>wpAny_pyIter_listiter st h
theorem Y2q {P:U8}{w:W1}{K:U0}{tg:Expr}(a it:W9):Turn P w K tg (Itt K a) [it] it (λi h=>h.IsTupleIter it a i) where
 mem:=by simp
 obj:=λi h st b hb=>by
  have e:b=it:=by simpa using hb
  subst e
  obtain⟨o,e,c,d⟩:=st
  exact⟨o,e,λv z=>by rw[d] at z;cases z⟩
 keep:=λi h h' st k=>st.at λo e=>k it (by simp) o e
 item:=by
  intro X hP hw hK hc i pins s σ H E I hf st hg
  subst hP hw hK
  obtain⟨xs,x,hq,hx⟩:=hg
  obtain⟨its,rv,p,hz⟩:=I.tuple hq
  obtain⟨u,hu,ru⟩:=rv.get hx
  obtain⟨f0,f1,f2,f3,f4,f5⟩:=hf it (by simp)
  refine wpAny_pyNext_tuple_item st (show s.heap.IsTuple a its.toArray from p) (x:=u) (by simpa using hu) λh' st' sb=>?_
  have I1:Inv X pins σ H { s with heap:=h' }:=I.turned (t':=s.toks) (λb o hb e=>(sb.2 b hb).trans e) f0 f1 f3 f4 f5
  obtain⟨o,e,c,d⟩:=id st'
  exact⟨u,Z,Y9l (s:={ s with heap:=h' }) e c d (by decide) ⟨x,H,I1,ru,⟨Z,λys hy=>by rw[I.tuple_inj hy hq];exact hx⟩,st',λb hb=>(hf b hb).1⟩⟩
 done:=by
  intro X hP hw hK hc i pins s σ H E I hf st hg
  subst hP hw hK
  obtain⟨xs,hq,hx⟩:=hg
  obtain⟨its,rv,p,hz⟩:=I.tuple hq
  obtain⟨f0,f1,f2,f3,f4,f5⟩:=hf it (by simp)
  have hl:=rv.length
  exact wpAny_pyNext_tuple_end (I.ok.hd hc) st (show s.heap.IsTuple a its.toArray from p) (by simp;omega) λh' eb=>⟨Z,I.turned (t':=s.toks) (λb o hb e=>eb b o hb e) f0 f1 f3 f4 f5⟩
 self:=λ_ _ _ _ _ st h=>wpAny_pyIter_tupleiter st h
theorem Y2r {P:U8}{w:W1}{K:U0}{tg:Expr}(it:W9)(lo:Int)(n:Nat):Turn P w K tg (Itr lo n) [it] it (λi h=>IsRangeIter h it (lo+(i:Nat)*1) ((n:Int)-(i:Nat)) 1) where
 mem:=by simp
 obj:=λi h st b hb=>by
  have e:b=it:=by simpa using hb
  subst e
  exact⟨_,st,λv z=>by
   have z':Data.fields _=Data.cell v:=z
   cases z'⟩
 keep:=λi h h' st k=>k it (by simp) _ st
 item:=by
  intro X hP hw hK hc i pins s σ H E I hf st hg
  subst hP hw hK
  obtain⟨f0,f1,f2,f3,f4,f5⟩:=hf it (by simp)
  have W:=Walks.range (prog:=X.prog) (w:=X.w) (I.ok.hd hc) it lo 1 n
  refine W.item i s _ _ hg st λv h' tk hv st' kk=>?_
  obtain⟨t,rfl⟩:=hv
  have I1:Inv X pins σ H { s with heap:=h',toks:=tk }:=I.turned (λb o hb e=>kk b o (by simpa using hb) e) f0 f1 f3 f4 f5
  refine⟨_,Z,Y9l (s:={ s with heap:=h',toks:=tk }) (n:="range_iterator") st' rfl rfl (by decide) ⟨.int (lo+i),H,I1,⟨t,?_⟩,⟨Z,Z⟩,st',λb hb=>(hf b hb).1⟩⟩
  rw[Int.mul_one]
 done:=by
  intro X hP hw hK hc i pins s σ H E I hf st hg
  subst hP hw hK
  obtain⟨f0,f1,f2,f3,f4,f5⟩:=hf it (by simp)
  exact wpAny_pyNext_range_end (I.ok.hd hc) st (by have:n<=i:=hg;omega) λh' eb=>⟨Z,I.turned (t':=s.toks) (λb o hb e=>eb b o hb e) f0 f1 f3 f4 f5⟩
 self:=λ_ _ _ _ _ st h=>wpAny_pyIter_rangeiter st h
section
variable {X:Cx}{tg:Expr}
def iList (K:U0)(tl:TE):TI:=λσ H R=>tl σ H λx H1=>∃ a,x=.ref a/\(∃ xs,SqL K H1 a xs)/\R (Itl K a) H1
def iTup (K:U0)(tl:TE):TI:=λσ H R=>tl σ H λx H1=>∃ a,x=.ref a/\(∃ xs,SqT K H1 a xs)/\R (Itt K a) H1
theorem Z1r {l:Expr}{tl:TE}(hl:PE X l tl):PI X tg l (iList X.K tl):=by
 intro pins s σ H R I h
 refine thn (hl pins s σ H _ I h) λv s1 ⟨x,H1,I1,r1,q1⟩=>?_
 obtain⟨a,e,⟨xs,hq⟩,q⟩:=q1
 subst e
 cases r1
 obtain⟨its,rv,p,hz⟩:=I1.list hq
 refine q5n p.isList ?_
 refine⟨s1.heap.objs.size,[s1.heap.objs.size],_,_,H1,Z,I1.kept (t':=s1.toks) λb o e=>q0c _ e,Y3p a _,⟨_,q0m _ rfl,Z,Z⟩,λb hb=>?_,q⟩
 have e:b=s1.heap.objs.size:=by simpa using hb
 subst e
 exact I1.fpOk (q0f _) (I1.hok.fresh (q0f _))
theorem Z9d {l:Expr}{tl:TE}(hl:PE X l tl):PI X tg l (iTup X.K tl):=by
 intro pins s σ H R I h
 refine thn (hl pins s σ H _ I h) λv s1 ⟨x,H1,I1,r1,q1⟩=>?_
 obtain⟨a,e,⟨xs,hq⟩,q⟩:=q1
 subst e
 cases r1
 obtain⟨its,rv,p,hz⟩:=I1.tuple hq
 refine q5d (show s1.heap.IsTuple a its.toArray from p) ?_
 refine⟨s1.heap.objs.size,[s1.heap.objs.size],_,_,H1,Z,I1.kept (t':=s1.toks) λb o e=>q0c _ e,Y2q a _,⟨_,q0m _ rfl,Z,Z⟩,λb hb=>?_,q⟩
 have e:b=s1.heap.objs.size:=by simpa using hb
 subst e
 exact I1.fpOk (q0f _) (I1.hok.fresh (q0f _))
theorem Y1q {pins:U1}{σ:St}{H:Hp}{s:U7}{R:It->Hp->Prop}{E:U2}{lo hi:Int}{t u v:Tok}{tk:Nat}(I:Inv X pins σ H s)(h1:-(2^62)<=lo)(h2:lo<2^62)(h3:-(2^62)<=hi)(h4:hi<2^62)
  (q:R (Itr lo (hi-lo).toNat) H):wpAny (model X.prog X.w) X.A (pyIter (.ref s.heap.objs.size)) (PIE X pins σ tg R) E { s with heap:=s.heap.push { cls:=.type "range",data:=.fields #[.int lo t,.int hi u,.int 1 v] },toks:=tk }:=by
 refine wpAny_pyIter_range (IsRange.new ..) (small_one h1 h2 h3 h4) ?_
 have I1:Inv X pins σ H { s with heap:=s.heap.push { cls:=.type "range",data:=.fields #[.int lo t,.int hi u,.int 1 v] },toks:=tk }:=I.kept λb o e=>q0c _ e
 refine⟨(s.heap.push { cls:=.type "range",data:=.fields #[.int lo t,.int hi u,.int 1 v] }).objs.size,[(s.heap.push { cls:=.type "range",data:=.fields #[.int lo t,.int hi u,.int 1 v] }).objs.size],_,_,H,Z,
  I1.kept (t':=tk) λb o e=>q0c _ e,Y2r _ lo (hi-lo).toNat,?_,λb hb=>?_,q⟩
 ·have e1:lo+((0:Nat):Int)*1=lo:=by simp
  have e2:(((hi-lo).toNat:Nat):Int)-((0:Nat):Int)=Builtin.Range.rangeSize lo hi 1:=by rw[rangeSize_one];split<;>omega
  show IsRangeIter _ _ (lo+((0:Nat):Int)*1) ((((hi-lo).toNat:Nat):Int)-((0:Nat):Int)) 1
  rw[e1,e2]
  exact q0m _ rfl
 ·have e:b=(s.heap.push { cls:=.type "range",data:=.fields #[.int lo t,.int hi u,.int 1 v] }).objs.size:=by simpa using hb
  subst e
  exact I1.fpOk (q0f _) (I1.hok.fresh (q0f _))
def iRng1 (ta:TA):TI:=λσ H R=>ta σ H λvs H1=>∃ j:Int,vs=[.int j]/\-(2^62)<=j/\j<2^62/\R (Itr 0 j.toNat) H1
def iRng2 (ta:TA):TI:=λσ H R=>ta σ H λvs H1=>∃ i j:Int,vs=[.int i,.int j]/\(-(2^62)<=i/\i<2^62/\-(2^62)<=j/\j<2^62)/\R (Itr i (j-i).toNat) H1
theorem Z1e {a:Expr}{ta:TA}{p pos:Pos}(hg:Gl X "range")(hm:X.mg "range"=none)(ha:PA X [a] ta)(hs:starEach [a] X.env=[(false,eval a X.env)]:=by rfl):PI X tg (.Call (.Name "range" p) [a] [] pos) (iRng1 ta):=by
 intro pins s σ H R I h
 refine Call_ (Z5k I hg hm boot_range (PyProof.Rows.callWith_type1 (thn (ha pos pins s σ H _ I h) λus s1 ⟨vs,H1,I1,r1,q1⟩=>?_) hs rfl))
 obtain⟨j,e,q1,q2,q⟩:=q1
 subst e
 cases r1 with
 | cons r rr =>
  cases rr
  obtain⟨t,rfl⟩:=r
  exact call_range_1 (Y1q I1 (by omega) (by omega) q1 q2 (by simpa using q))
theorem Y4q {a b:Expr}{ta:TA}{p pos:Pos}(hg:Gl X "range")(hm:X.mg "range"=none)(ha:PA X [a,b] ta)(hs:starEach [a,b] X.env=[(false,eval a X.env),(false,eval b X.env)]:=by rfl)(hs2:starEach [b] X.env=[(false,eval b X.env)]:=by rfl) :
  PI X tg (.Call (.Name "range" p) [a,b] [] pos) (iRng2 ta):=by
 intro pins s σ H R I h
 refine Call_ (Z5k I hg hm boot_range (PyProof.Rows.callWith_type1 (thn (ha pos pins s σ H _ I h) λus s1 ⟨vs,H1,I1,r1,q1⟩=>?_) (by rw[hs,hs2]) (by rw[hs2];rfl)))
 obtain⟨i,j,e,⟨q1,q2,q3,q4⟩,q⟩:=q1
 subst e
 cases r1 with
 | cons r rr =>
  cases rr with
  | cons r' rr =>
   cases rr
   obtain⟨t,rfl⟩:=r
   obtain⟨t',rfl⟩:=r'
   exact call_range_2 (Y1q I1 q1 q2 q3 q4 q)
def tFor (wi:TI)(g:TG)(tb:TS):TS:=λD σ H=>wi σ H λJ H1=>∃ W:Nat->Nat->St->Hp->Prop,(∃ m,W 0 m σ H1)/\∀ i m σ H,W i m σ H →
 (J.stop i H/\D.nx σ H)∨(J.go i H/\∃ N:St->Hp->Prop,(∀ σ' H',N σ' H'->∃ m',m'<m/\W (i+1) m' σ' H')/\∀ x H',J.yld i H x H'->g x σ H' λσ2 H2=>tb { D with nx:=N,ct:=N,bk:=D.nx } σ2 H2)
noncomputable def pinsAt (fp:U3)(h:Heap):List (Addr × Obj):=fp.filterMap λb=>(h.get? b).map λo=>(b,o)
theorem Z2q {fp:U3}{h:Heap}{b:W9}{o:Obj}(hb:b∈fp)(e:h.get? b=some o):(b,o)∈pinsAt fp h:=List.mem_filterMap.mpr ⟨b,hb,by rw[e];rfl⟩
theorem Y5n {fp:U3}{h:Heap}{p:Addr × Obj}(hp:p∈pinsAt fp h):p.1∈fp/\h.get? p.1=some p.2:=by
 obtain⟨b,hb,e⟩:=List.mem_filterMap.mp hp
 cases q:h.get? b with
 | none=>rw[q] at e;cases e
 | some o =>
  rw[q] at e
  have e':(b,o)=p:=Option.some.inj e
  subst e'
  exact⟨hb,q⟩
theorem Inv.pinned {pins:U1}{σ:St}{H:Hp}{s:U7}{fp:U3}(I:Inv X pins σ H s)(hf:∀ b∈fp,FpOk X pins H b)(ho:∀ b∈fp,∃ o,s.heap.get? b=some o/\∀ v,o.data≠.cell v):Inv X (pins++pinsAt fp s.heap) σ H s :=
 I.pins_of λp hp=>(q2g.mp hp).elim (λz=>I.pin p (q1b _ z)) λz=>by
  obtain⟨hb,e⟩:=Y5n z
  obtain⟨f0,f1,f2,_⟩:=hf p.1 hb
  obtain⟨o,e',d⟩:=ho p.1 hb
  rw[e] at e';cases e'
  exact⟨e,f0,f1,f2,d⟩
theorem Inv.unpinned {pins pl:U1}{σ:St}{H:Hp}{s:U7}(I:Inv X (pins++pl) σ H s):Inv X pins σ H s:=I.pins_of λp hp=>I.pin p (q1b _ (q4o _ hp))
theorem Z1u {iter:Expr}{body:W8}{wi:TI}{g:TG}{tb:TS}{pos:Pos}(hp:PassesOwn (model X.prog X.w) X.A X.env X.xe)(hc:X.calm=true)(hi:PI X tg iter wi)(hg:PG X tg g)(hb:PSs X body tb)
  (hs:∀ x,foldedSetIterable iter X.env x=pure x:=by intro _;rfl):PS X (.For tg iter body [] pos) (tFor wi g tb):=by
 intro pins s σ H D I h
 refine wpAny_For (thn (hi pins s σ H _ I h) λv s1 h1=>thn h1 λitv s2 h2=>?_) hs
 obtain⟨it,fp,tn,J,H2,e,I2,T,st2,f2,W,⟨m0,w0⟩,turn⟩:=h2
 subst e
 have stat:∀ {H':Hp},(∀ b∈fp,H' b=none)->∀ b∈fp,FpOk X pins H' b:=λhn b hb=>⟨hn b hb,(f2 b hb).2⟩
 refine codeAny_forLoop_any (λn s'=>∃ i σ' H',Inv X pins σ' H' s'/\tn i s'.heap/\(∀ b∈fp,H' b=none)/\W i n σ' H') ?_ m0 ⟨0,σ,H2,I2,st2,λb hb=>(f2 b hb).1,w0⟩
 rintro n s3 ⟨i,σ3,H3,I3,st3,fr3,w3⟩
 rcases turn i n σ3 H3 w3 with ⟨stop,qn⟩ | ⟨go,N,hN,step⟩
 ·refine q3k hp (thn (T.done X rfl rfl rfl hc i pins s3 σ3 H3 X.xe I3 (stat fr3) st3 stop) λr s4 ⟨hr,I4⟩=>?_)
  subst hr
  exact q5e ⟨σ3,H3,I4,qn⟩
 ·refine q3k hp (thn (T.item X rfl rfl rfl hc i pins s3 σ3 H3 X.xe I3 (stat fr3) st3 go) λr s4 ⟨u,hr,h4⟩=>?_)
  subst hr
  refine q3k hp (thn h4 λ_ s5 ⟨x,H5,I5,r5,y5,st5,fr5⟩=>?_)
  have I5':=I5.pinned (stat fr5) (T.obj _ _ st5)
  refine q3k hp (thn (hg _ s5 σ3 H5 x u _ I5' r5 (step x H5 y5)) λ_ s6 ⟨σ6,H6,I6,q6⟩=>?_)
  refine q3k hp (thn (hb _ s6 σ6 H6 _ I6 q6) λf s7 q7=>?_)
  have again:∀ {σ7:St}{H7:Hp},Inv X (pins++pinsAt fp s5.heap) σ7 H7 s7->N σ7 H7->∃ m,m<n/\∃ i σ' H',Inv X pins σ' H' s7/\tn i s7.heap/\(∀ b∈fp,H' b=none)/\W i m σ' H':=λ{σ7 H7} I7 n7=>by
   obtain⟨m',hm,w7⟩:=hN σ7 H7 n7
   refine⟨m',hm,i+1,σ7,H7,I7.unpinned,T.keep _ _ _ st5 λb hb o e=>(I7.pin (b,o) (q1b _ (q1b _ (Z2q hb e)))).1,λb hb=>?_,w7⟩
   obtain⟨o,e,d⟩:=T.obj _ _ st5 b hb
   exact(I7.pin (b,o) (q1b _ (q1b _ (Z2q hb e)))).2.1
  cases f with
  | next=>obtain⟨σ7,H7,I7,n7⟩:=q7;exact again I7 n7
  | cont=>obtain⟨σ7,H7,I7,n7⟩:=q7;exact again I7 n7
  | brk=>obtain⟨σ7,H7,I7,q7⟩:=q7;exact⟨σ7,H7,I7.unpinned,q7⟩
  | ret v=>obtain⟨x7,σ7,H7,I7,r7,q7⟩:=q7;exact⟨x7,σ7,H7,I7.unpinned,r7,q7⟩
end
theorem Z3y {K:U0}{a:W9}{xs:List V}{g:TG}{tb:TS}{D:Ends}{σ:St}{H:Hp}(Pv:Nat->St->Hp->Prop)(h0:Pv 0 σ H)(hl:∀ i σ H,i<=xs.length->Pv i σ H->SqL K H a xs)
  (hs:∀ i x σ H,xs[i]?=some x->Pv i σ H->g x σ H λσ2 H2=>tb { D with nx:=Pv (i+1),ct:=Pv (i+1),bk:=D.nx } σ2 H2) (hd:∀ σ H,Pv xs.length σ H->D.nx σ H) :
  ∃ W:Nat->Nat->St->Hp->Prop,(∃ m,W 0 m σ H)/\∀ i m σ H,W i m σ H →
   ((Itl K a).stop i H/\D.nx σ H)∨((Itl K a).go i H/\∃ N:St->Hp->Prop,(∀ σ' H',N σ' H'->∃ m',m'<m/\W (i+1) m' σ' H')/\∀ x H',(Itl K a).yld i H x H'->g x σ H' λσ2 H2=>tb { D with nx:=N,ct:=N,bk:=D.nx } σ2 H2):=by
 refine⟨λi m σ H=>m=xs.length-i/\i<=xs.length/\Pv i σ H,⟨xs.length,by simp,q1d _,h0⟩,?_⟩
 rintro i m σ H ⟨rfl,hi,p⟩
 have q:=hl i σ H hi p
 by_cases hlt:i<xs.length
 ·refine .inr ⟨⟨xs,xs[i],q,by simp[hlt]⟩,Pv (i+1),λσ' H' p'=>⟨xs.length-(i+1),by omega,Z,hlt,p'⟩,λx H' y=>?_⟩
  obtain⟨e,y⟩:=y
  subst e
  exact hs i x σ _ (y xs q) p
 ·have e:i=xs.length:=by omega
  subst e
  exact .inl ⟨⟨xs,q,q0f _⟩,hd σ H p⟩
theorem X4t {K:U0}{a:W9}{xs:List V}{g:TG}{tb:TS}{D:Ends}{σ:St}{H:Hp}(Pv:Nat->St->Hp->Prop)(h0:Pv 0 σ H)(hl:∀ i σ H,i<=xs.length->Pv i σ H->SqT K H a xs)
  (hs:∀ i x σ H,xs[i]?=some x->Pv i σ H->g x σ H λσ2 H2=>tb { D with nx:=Pv (i+1),ct:=Pv (i+1),bk:=D.nx } σ2 H2) (hd:∀ σ H,Pv xs.length σ H->D.nx σ H) :
  ∃ W:Nat->Nat->St->Hp->Prop,(∃ m,W 0 m σ H)/\∀ i m σ H,W i m σ H →
   ((Itt K a).stop i H/\D.nx σ H)∨((Itt K a).go i H/\∃ N:St->Hp->Prop,(∀ σ' H',N σ' H'->∃ m',m'<m/\W (i+1) m' σ' H')/\∀ x H',(Itt K a).yld i H x H'->g x σ H' λσ2 H2=>tb { D with nx:=N,ct:=N,bk:=D.nx } σ2 H2):=by
 refine⟨λi m σ H=>m=xs.length-i/\i<=xs.length/\Pv i σ H,⟨xs.length,by simp,q1d _,h0⟩,?_⟩
 rintro i m σ H ⟨rfl,hi,p⟩
 have q:=hl i σ H hi p
 by_cases hlt:i<xs.length
 ·refine .inr ⟨⟨xs,xs[i],q,by simp[hlt]⟩,Pv (i+1),λσ' H' p'=>⟨xs.length-(i+1),by omega,Z,hlt,p'⟩,λx H' y=>?_⟩
  obtain⟨e,y⟩:=y
  subst e
  exact hs i x σ _ (y xs q) p
 ·have e:i=xs.length:=by omega
  subst e
  exact .inl ⟨⟨xs,q,q0f _⟩,hd σ H p⟩
theorem Z1m {lo:Int}{n:Nat}{g:TG}{tb:TS}{D:Ends}{σ:St}{H:Hp}(Pv:Nat->St->Hp->Prop)(h0:Pv 0 σ H)
  (hs:∀ i σ H,i<n->Pv i σ H->g (.int (lo+i)) σ H λσ2 H2=>tb { D with nx:=Pv (i+1),ct:=Pv (i+1),bk:=D.nx } σ2 H2) (hd:∀ σ H,Pv n σ H->D.nx σ H) :
  ∃ W:Nat->Nat->St->Hp->Prop,(∃ m,W 0 m σ H)/\∀ i m σ H,W i m σ H →
   ((Itr lo n).stop i H/\D.nx σ H)∨((Itr lo n).go i H/\∃ N:St->Hp->Prop,(∀ σ' H',N σ' H'->∃ m',m'<m/\W (i+1) m' σ' H')/\∀ x H',(Itr lo n).yld i H x H'->g x σ H' λσ2 H2=>tb { D with nx:=N,ct:=N,bk:=D.nx } σ2 H2):=by
 refine⟨λi m σ H=>m=n-i/\i<=n/\Pv i σ H,⟨n,by simp,q1d _,h0⟩,?_⟩
 rintro i m σ H ⟨rfl,hi,p⟩
 by_cases hlt:i<n
 ·refine .inr ⟨hlt,Pv (i+1),λσ' H' p'=>⟨n-(i+1),by omega,Z,hlt,p'⟩,λx H' y=>?_⟩
  obtain⟨e,y⟩:=y
  subst e y
  exact hs i σ _ hlt p
 ·have e:i=n:=by omega
  subst e
  exact .inl ⟨q0f _,hd σ H p⟩
abbrev R2:=V->V->Hp->VK->Prop
def OpR (X:Cx)(f:Value->Value->Sem Value)(r:R2):Prop :=
 ∀ (pins:U1) (s:U7) (σ:St) (H:Hp) (x y:V) (v u:W2) (Q:VK),Inv X pins σ H s->RelV x v->RelV y u->r x y H Q →
  wpAny (model X.prog X.w) X.A (f v u) (EP X pins σ Q) X.xe s
def UnR (X:Cx)(f:Value->Sem Value)(r:V->Hp->VK->Prop):Prop :=
 ∀ (pins:U1) (s:U7) (σ:St) (H:Hp) (x:V) (v:W2) (Q:VK),Inv X pins σ H s->RelV x v->r x H Q →
  wpAny (model X.prog X.w) X.A (f v) (EP X pins σ Q) X.xe s
def CallR (X:Cx)(f:W2)(r:List V->Hp->VK->Prop):Prop :=
 ∀ (pins:U1) (s:U7) (σ:St) (H:Hp) (xs:List V) (us:U5) (Q:VK),Inv X pins σ H s->Vals xs us->r xs H Q →
  wpAny (model X.prog X.w) X.A (call f us) (EP X pins σ Q) X.xe s
def TruR (X:Cx)(r:V->Hp->(Bool->Hp->Prop)->Prop):Prop :=
 ∀ (pins:U1) (s:U7) (σ:St) (H:Hp) (x:V) (v:W2) (Q:Bool->Hp->Prop),Inv X pins σ H s->RelV x v->r x H Q →
  wpAny (model X.prog X.w) X.A (truthy v) (TP X pins σ Q) X.xe s
def tOp (r:R2)(ta tb:TE):TE:=λσ H Q=>ta σ H λx H1=>tb σ H1 λy H2=>r x y H2 Q
def tUn (r:V->Hp->VK->Prop)(ta:TE):TE:=λσ H Q=>ta σ H λx H1=>r x H1 Q
def rI (C:Int->Int->Prop)(g:Int->Int->V):R2:=λx y H Q=>∃ i j,x=.int i/\y=.int j/\C i j/\Q (g i j) H
def rI0 (g:Int->Int->V):R2:=λx y H Q=>∃ i j,x=.int i/\y=.int j/\Q (g i j) H
def rU (g:Int->V):V->Hp->VK->Prop:=λx H Q=>∃ i,x=.int i/\Q (g i) H
section
variable {X:Cx}{a b c:Expr}{ta tb tc:TE}{pos:Pos}
theorem binT (ha:PE X a ta)(hb:PE X b tb){pins:U1}{s:U7}{σ:St}{H:Hp}{R:V->V->Hp->Prop}(I:Inv X pins σ H s)
  (h:ta σ H λx H1=>tb σ H1 λy H2=>R x y H2) {Q:U2}{f:Value->Value->Sem Value}
  (hf:∀ v u s2 x y H2,Inv X pins σ H2 s2->RelV x v->RelV y u->R x y H2->wpAny (model X.prog X.w) X.A (f v u) Q X.xe s2) :
  wpAny (model X.prog X.w) X.A (eval a X.env) (λv s₁=>wpAny (model X.prog X.w) X.A (eval b X.env) (λu s₂=>wpAny (model X.prog X.w) X.A (f v u) Q X.xe s₂) X.xe s₁) X.xe s:=by
 refine thn (ha pins s σ H _ I h) λv s1 ⟨x,H1,I1,r1,q1⟩=>?_
 refine thn (hb pins s1 σ H1 _ I1 q1) λu s2 ⟨y,H2,I2,r2,q2⟩=>?_
 exact hf v u s2 x y H2 I2 r1 r2 q2
theorem Z0i {op:Operator}{r:R2}(ho:OpR X (binaryOp op) r)(ha:PE X a ta)(hb:PE X b tb):PE X (.BinOp a op b pos) (tOp r ta tb):=by
 intro pins s σ H Q I h
 exact wpAny_BinOp (binT ha hb I h λv u s2 x y H2 I2 rx ry q=>ho pins s2 σ H2 x y v u Q I2 rx ry q)
theorem Z8a {op:UnaryOp}{r:V->Hp->VK->Prop}(ho:UnR X (unaryOp op) r)(ha:PE X a ta):PE X (.UnaryOp op a pos) (tUn r ta):=by
 intro pins s σ H Q I h
 exact UnaryOp_ (thn (ha pins s σ H _ I h) λv s1 ⟨x,H1,I1,r1,q1⟩=>ho pins s1 σ H1 x v Q I1 r1 q1)
theorem opI {f:Value->Value->Sem Value}{C:Int->Int->Prop}{g:Int->Int->Int}
  (rule:∀ (i j:Int) (t u:Tok) (s:U7) (Q:U2) (E:U2),C i j->Q (.int (g i j) s.toks) { s with toks:=s.toks+1 }->wpAny (model X.prog X.w) X.A (f (.int i t) (.int j u)) Q E s) :
  OpR X f (rI C λi j=>.int (g i j)):=by
 intro pins s σ H x y v u Q I rx ry h
 obtain⟨i,j,rfl,rfl,hc,q⟩:=h
 obtain⟨t,rfl⟩:=rx
 obtain⟨t',rfl⟩:=ry
 exact rule i j t t' s _ _ hc ⟨.int (g i j),H,I.tok _,⟨_,Z⟩,q⟩
theorem opI0 {f:Value->Value->Sem Value}{g:Int->Int->Int}
  (rule:∀ (i j:Int) (t u:Tok) (s:U7) (Q:U2) (E:U2),Q (.int (g i j) s.toks) { s with toks:=s.toks+1 }->wpAny (model X.prog X.w) X.A (f (.int i t) (.int j u)) Q E s) :
  OpR X f (rI0 λi j=>.int (g i j)):=by
 intro pins s σ H x y v u Q I rx ry h
 obtain⟨i,j,rfl,rfl,q⟩:=h
 obtain⟨t,rfl⟩:=rx
 obtain⟨t',rfl⟩:=ry
 exact rule i j t t' s _ _ ⟨.int (g i j),H,I.tok _,⟨_,Z⟩,q⟩
theorem opB0 {f:Value->Value->Sem Value}{g:Int->Int->Bool}
  (rule:∀ (i j:Int) (t u:Tok) (s:U7) (Q:U2) (E:U2),Q (.bool (g i j)) s->wpAny (model X.prog X.w) X.A (f (.int i t) (.int j u)) Q E s) :
  OpR X f (rI0 λi j=>.bl (g i j)):=by
 intro pins s σ H x y v u Q I rx ry h
 obtain⟨i,j,rfl,rfl,q⟩:=h
 obtain⟨t,rfl⟩:=rx
 obtain⟨t',rfl⟩:=ry
 exact rule i j t t' s _ _ ⟨.bl (g i j),H,I,Z,q⟩
def CDiv (i j:Int):Prop:=0<j/\j<1073741824
def CPow (i j:Int):Prop:=0<=j/\j<=1000000/\i.natAbs<2^64
def CMul (i j:Int):Prop:=(-(2^64)<i/\i<2^64)∨(-(2^64)<j/\j<2^64)
theorem CMul.ok {i j:Int}(h:CMul i j):IntMulOk i j:=by
 rcases h with ⟨h1,h2⟩ | ⟨h1,h2⟩
 ·exact .of_left (intBits_le_64 h1 h2)
 ·exact .of_right (intBits_le_64 h1 h2)
theorem Y2p (k:Nat):(0:Int)<=2^k:=by
 rw[two_pow_cast]
 exact Int.natCast_nonneg _
theorem Z1f:OpR X (binaryOp .Add) (rI0 λi j=>.int (i+j)):=opI0 λ_ _ _ _ _ _ _ q=>add_int q
theorem Z1t:OpR X (binaryOp .Sub) (rI0 λi j=>.int (i-j)):=opI0 λ_ _ _ _ _ _ _ q=>sub_int q
theorem Z3h:OpR X (binaryOp .Mult) (rI CMul λi j=>.int (i*j)):=opI λ_ _ _ _ _ _ _ hc q=>mul_int q hc.ok
theorem Z1g:OpR X (binaryOp .FloorDiv) (rI CDiv λi j=>.int (i / j)):=opI λi j _ _ _ _ _ hc q=>by
 have h1:(0:Int)<j:=hc.1
 have h2:j<1073741824:=hc.2
 exact floordiv_int (by omega) (by rw[q6i i (by omega)];exact q) (.inl (PyProof.noPylong_small (by omega)))
theorem Z0x:OpR X (binaryOp .Mod) (rI (λ_ j=>0<j) λi j=>.int (i%j)):=opI λi j _ _ _ _ _ hc q=>by
 have h1:(0:Int)<j:=hc
 exact mod_int' (by omega) (by rw[Int.fmod_eq_emod_of_nonneg i (by omega)];exact q)
theorem Z7d:OpR X (binaryOp .Pow) (rI CPow λi j=>.int (i^j.toNat)):=opI λ_ _ _ _ _ _ _ hc q=>pow_int_small hc.1 hc.2.1 hc.2.2 q
theorem Y1t:OpR X (binaryOp .RShift) (rI (λ_ j=>0<=j) λi j=>.int (i / 2^j.toNat)):=opI λi j _ _ _ _ _ hc q =>
 rshift_int hc (by rw[q6i i (Y2p _)];exact q)
theorem Z1n:OpR X (binaryOp .BitAnd) (rI0 λi j=>.int (Builtin.bitAnd i j)):=opI0 λ_ _ _ _ _ _ _ q=>and_int q
theorem Z9e:OpR X (binaryOp .BitOr) (rI0 λi j=>.int (Builtin.bitOr i j)):=opI0 λ_ _ _ _ _ _ _ q=>or_int q
theorem Z3p:OpR X (binaryOp .BitXor) (rI0 λi j=>.int (Builtin.bitXor i j)):=opI0 λ_ _ _ _ _ _ _ q=>xor_int q
theorem unI {f:Value->Sem Value}{g:Int->Int}
  (rule:∀ (i:Int) (t:Tok) (s:U7) (Q:U2) (E:U2),Q (.int (g i) s.toks) { s with toks:=s.toks+1 }->wpAny (model X.prog X.w) X.A (f (.int i t)) Q E s) :
  UnR X f (rU λi=>.int (g i)):=by
 intro pins s σ H x v Q I rx h
 obtain⟨i,rfl,q⟩:=h
 obtain⟨t,rfl⟩:=rx
 exact rule i t s _ _ ⟨.int (g i),H,I.tok _,⟨_,Z⟩,q⟩
theorem Z5x:UnR X (unaryOp .USub) (rU λi=>.int (-i)):=unI λ_ _ _ _ _ q=>neg_int q
theorem X0l:UnR X (unaryOp .Invert) (rU λi=>.int (Builtin.bitNot i)):=unI λ_ _ _ _ _ q=>invert_int q
end
noncomputable def scal:V->V->Bool
 | .non,.non=>true | .non,.int _=>true | .int _,.non=>true | .non,.bl _=>true | .bl _,.non=>true | .non,.str _=>true | .str _,.non=>true
 | .int _,.int _=>true | .bl _,.bl _=>true | .str _,.str _=>true | .byt _,.byt _=>true
 | .int _,.str _=>true | .str _,.int _=>true | .bl _,.str _=>true | .str _,.bl _=>true
 | _,_=>false
def rEq:R2:=λx y H Q=>scal x y=true/\Q (.bl (decide (x=y))) H
def rNe:R2:=λx y H Q=>scal x y=true/\Q (.bl (!decide (x=y))) H
theorem Y6q {i j:Int}:decide (V.int i=V.int j)=(i == j):=by
 rw[q4h]
 simp
theorem X1q {i j:Bool}:decide (V.bl i=V.bl j)=(i == j):=by
 rw[q4h]
 simp
theorem Y6p {i j:Str}:decide (V.str i=V.str j)=(i == j):=by
 rw[q4h]
 simp
theorem Y6r {i j:Array UInt8}:decide (V.byt i=V.byt j)=(i.toList == j.toList):=by
 rw[q4h]
 cases i
 cases j
 simp
section
variable {X:Cx}{a b c:Expr}{ta tb tc:TE}{pos:Pos}
theorem Z1i {pins:U1}{σ:St}{H:Hp}{s:U7}{Q:VK}{k k':Bool}(I:Inv X pins σ H s)(q:Q (.bl k) H)(e:k=k'):EP X pins σ Q (.bool k') s:=by
 subst e
 exact⟨.bl k,H,I,Z,q⟩
theorem Z1j:OpR X (compareOp .Eq) rEq:=by
 intro pins s σ H x y v u Q I rx ry h
 obtain⟨hs,q⟩:=h
 cases x with
 | non =>
  cases rx
  cases y with
  | non=>cases ry;exact PySem.EqNone.eq_none_none (Z1i I q (by simp))
  | bl j=>cases ry;exact PySem.EqNone.eq_none_bool (Z1i I q (by simp))
  | int j=>obtain⟨t',rfl⟩:=ry;exact PySem.EqNone.eq_none_int (Z1i I q (by simp))
  | str j=>obtain⟨t',rfl⟩:=ry;exact PySem.EqNone.eq_none_str (Z1i I q (by simp))
  | _=>exact absurd (show false=true from hs) q0p
 | bl i =>
  cases rx
  cases y with
  | non=>cases ry;exact PySem.EqNone.eq_bool_none (Z1i I q (by simp))
  | bl j=>cases ry;exact eq_bool (Z1i I q X1q)
  | str j=>obtain⟨t',rfl⟩:=ry;exact PySem.EqMixed.eq_bool_str (Z1i I q (by simp))
  | _=>exact absurd (show false=true from hs) q0p
 | int i =>
  obtain⟨t,rfl⟩:=rx
  cases y with
  | non=>cases ry;exact PySem.EqNone.eq_int_none (Z1i I q (by simp))
  | int j=>obtain⟨t',rfl⟩:=ry;exact eq_int (Z1i I q Y6q)
  | str j=>obtain⟨t',rfl⟩:=ry;exact PySem.EqMixed.eq_int_str (Z1i I q (by simp))
  | _=>exact absurd (show false=true from hs) q0p
 | str i =>
  obtain⟨t,rfl⟩:=rx
  cases y with
  | non=>cases ry;exact PySem.EqNone.eq_str_none (Z1i I q (by simp))
  | bl j=>cases ry;exact PySem.EqMixed.eq_str_bool (Z1i I q (by simp))
  | int j=>obtain⟨t',rfl⟩:=ry;exact PySem.EqMixed.eq_str_int (Z1i I q (by simp))
  | str j=>obtain⟨t',rfl⟩:=ry;exact eq_str (Z1i I q Y6p)
  | _=>exact absurd (show false=true from hs) q0p
 | byt i =>
  obtain⟨t,rfl⟩:=rx
  cases y with
  | byt j=>obtain⟨t',rfl⟩:=ry;exact PySem.W.eq_bytes (Z1i I q Y6r)
  | _=>exact absurd (show false=true from hs) q0p
 | _=>cases y<;>exact absurd (show false=true from hs) q0p
theorem Z5m:OpR X (compareOp .NotEq) rNe:=by
 intro pins s σ H x y v u Q I rx ry h
 obtain⟨hs,q⟩:=h
 cases x with
 | non =>
  cases rx
  cases y with
  | non=>cases ry;exact PySem.EqNone.ne_none_none (Z1i I q (by simp))
  | bl j=>cases ry;exact PySem.EqNone.ne_none_bool (Z1i I q (by simp))
  | int j=>obtain⟨t',rfl⟩:=ry;exact PySem.EqNone.ne_none_int (Z1i I q (by simp))
  | str j=>obtain⟨t',rfl⟩:=ry;exact PySem.EqNone.ne_none_str (Z1i I q (by simp))
  | _=>exact absurd (show false=true from hs) q0p
 | bl i =>
  cases rx
  cases y with
  | non=>cases ry;exact PySem.EqNone.ne_bool_none (Z1i I q (by simp))
  | bl j=>cases ry;exact ne_bool (Z1i I q (congrArg not X1q))
  | str j=>obtain⟨t',rfl⟩:=ry;exact PySem.EqMixed.ne_bool_str (Z1i I q (by simp))
  | _=>exact absurd (show false=true from hs) q0p
 | int i =>
  obtain⟨t,rfl⟩:=rx
  cases y with
  | non=>cases ry;exact PySem.EqNone.ne_int_none (Z1i I q (by simp))
  | int j=>obtain⟨t',rfl⟩:=ry;exact ne_int (Z1i I q (congrArg not Y6q))
  | str j=>obtain⟨t',rfl⟩:=ry;exact PySem.EqMixed.ne_int_str (Z1i I q (by simp))
  | _=>exact absurd (show false=true from hs) q0p
 | str i =>
  obtain⟨t,rfl⟩:=rx
  cases y with
  | non=>cases ry;exact PySem.EqNone.ne_str_none (Z1i I q (by simp))
  | bl j=>cases ry;exact PySem.EqMixed.ne_str_bool (Z1i I q (by simp))
  | int j=>obtain⟨t',rfl⟩:=ry;exact PySem.EqMixed.ne_str_int (Z1i I q (by simp))
  | str j=>obtain⟨t',rfl⟩:=ry;exact ne_str (Z1i I q (congrArg not Y6p))
  | _=>exact absurd (show false=true from hs) q0p
 | byt i =>
  obtain⟨t,rfl⟩:=rx
  cases y with
  | byt j=>obtain⟨t',rfl⟩:=ry;exact PySem.W.ne_bytes (Z1i I q (congrArg not Y6r))
  | _=>exact absurd (show false=true from hs) q0p
 | _=>cases y<;>exact absurd (show false=true from hs) q0p
theorem Y0g:OpR X (compareOp .Lt) (rI0 λi j=>.bl (decide (i<j))):=opB0 λ_ _ _ _ _ _ _ q=>lt_int q
theorem X6p:OpR X (compareOp .LtE) (rI0 λi j=>.bl (decide (i<=j))):=opB0 λ_ _ _ _ _ _ _ q=>le_int q
theorem Y2v:OpR X (compareOp .Gt) (rI0 λi j=>.bl (decide (j<i))):=opB0 λ_ _ _ _ _ _ _ q=>gt_int q
theorem X3j:OpR X (compareOp .GtE) (rI0 λi j=>.bl (decide (j<=i))):=opB0 λ_ _ _ _ _ _ _ q=>ge_int q
theorem X3h:OpR X (compareOp .IsNot) (λx y H Q=>y=.non/\Q (.bl (!decide (x=.non))) H):=by
 intro pins s σ H x y v u Q I rx ry h
 obtain⟨rfl,q⟩:=h
 cases ry
 refine isnot_none_gen (Z1i I q ?_)
 cases x<;>first
  | (cases rx;rfl)
  | (obtain⟨t,rfl⟩:=rx;rfl)
theorem nomark (b:Expr){op:CmpOp}(h:op≠.In:=by decide)(h2:op≠.NotIn:=by decide):behindInMarks op b=false:=by
 have e1:(op == CmpOp.In)=false:=by cases op<;>first | rfl | exact absurd rfl h
 have e2:(op == CmpOp.NotIn)=false:=by cases op<;>first | rfl | exact absurd rfl h2
 cases b<;>simp[behindInMarks,e1,e2]
theorem Z1o {op:CmpOp}{r:R2}(ho:OpR X (compareOp op) r)(ha:PE X a ta)(hb:PE X b tb)(hm:behindInMarks op b=false):PE X (.Compare a [op] [b] pos) (tOp r ta tb):=by
 intro pins s σ H Q I h
 exact wpAny_Compare1 (binT ha hb I h λv u s2 x y H2 I2 rx ry q=>ho pins s2 σ H2 x y v u Q I2 rx ry q) hm
def tTest (t:TE):TT:=λσ H Q=>t σ H λx H'=>∃ k,x=.bl k/\Q k H'
theorem Z0q {op:CmpOp}{r:R2}(ho:OpR X (compareOp op) r)(ha:PE X a ta)(hb:PE X b tb)(hm:behindInMarks op b=false):PT X (.Compare a [op] [b] pos) (tTest (tOp r ta tb)):=by
 intro pins s σ H Q I h
 refine q7z (thn (ha pins s σ H _ I h) λv s1 ⟨x,H1,I1,r1,q1⟩=>thn (hb pins s1 σ H1 _ I1 q1) λu s2 ⟨y,H2,I2,r2,q2⟩ =>
  thn (ho pins s2 σ H2 x y v u _ I2 r1 r2 q2) λc s3 ⟨z,H3,I3,r3,k,e,q3⟩=>?_) hm
 subst e
 cases r3
 exact q2b ⟨H3,I3,q3⟩
def TruV (K:U0)(x:V)(H:Hp)(k:Bool):Prop :=
 match x with
 | .non=>k=false
 | .bl b=>k=b
 | .int i=>k=(i != 0)
 | .str y=>y.length<=sizeLine/\k=((y.length:Int) != 0)
 | .byt y=>y.size<=sizeLine/\k=((y.size:Int) != 0)
 | .ref p=>(∃ xs,SqL K H p xs/\k=!xs.isEmpty)∨(∃ xs,SqT K H p xs/\k=!xs.isEmpty)∨∃ kvs,H p=some (.dK kvs)/\k=!kvs.isEmpty
 | _=>False
theorem Y3i {κ:Type}{kvs:List (κ × V)}{vs:List (κ × Value)}(r:KV kvs vs):(!vs.isEmpty)=!kvs.isEmpty:=by
 cases r<;>rfl
theorem Z7f {xs:List V}{its:U5}(r:Vals xs its):(!its.toArray.isEmpty)=!xs.isEmpty:=by
 cases r<;>simp
theorem line63:(sizeLine:Nat)<2^63:=by rw[q8s];decide
theorem X5z:TruR X (λx H Q=>∃ k,TruV X.K x H k/\Q k H):=by
 intro pins s σ H x v Q I rx h
 obtain⟨k,e,q⟩:=h
 have hl:=line63
 have hs:sizeLine=16777216:=q8s
 cases x with
 | non =>
  cases rx
  have e':k=false:=e
  subst e'
  exact truthy_none ⟨H,I,q⟩
 | bl b =>
  cases rx
  have e':k=b:=e
  subst e'
  exact q2b ⟨H,I,q⟩
 | int i =>
  obtain⟨t,rfl⟩:=rx
  have e':k=(i != 0):=e
  subst e'
  exact PySem.P.truthy_int ⟨H,I,q⟩
 | str y =>
  obtain⟨t,rfl⟩:=rx
  obtain⟨hy,e'⟩:y.length<=sizeLine/\k=((y.length:Int) != 0):=e
  subst e'
  exact PySem.P.truthy_str (by omega) ⟨H,I.tok _,q⟩
 | byt y =>
  obtain⟨t,rfl⟩:=rx
  obtain⟨hy,e'⟩:y.size<=sizeLine/\k=((y.size:Int) != 0):=e
  subst e'
  exact PySem.W.truthy_bytes (by omega) ⟨H,I.tok _,q⟩
 | ref p =>
  cases rx
  have e':(∃ xs,SqL X.K H p xs/\k=!xs.isEmpty)∨(∃ xs,SqT X.K H p xs/\k=!xs.isEmpty)∨∃ kvs,H p=some (.dK kvs)/\k=!kvs.isEmpty:=e
  rcases e' with ⟨xs,hx,e'⟩ | ⟨xs,hx,e'⟩ | ⟨kvs,hx,e'⟩
  ·subst e'
   obtain⟨its,r,pl,hz⟩:=I.list hx
   have hlen:=r.length
   exact wpAny_truthy_list pl.isList (by simp only[q0h];omega) ⟨H,I.tok _,by rw[Z7f r];exact q⟩
  ·subst e'
   obtain⟨its,r,pl,hz⟩:=I.tuple hx
   have hlen:=r.length
   exact truthy_tuple pl (by simp only[q0h];omega) ⟨H,I.tok _,by rw[Z7f r];exact q⟩
  ·subst e'
   obtain⟨hz,hS,vs,r,m⟩:kvs.length<=sizeLine/\(p == sysModules)=false/\∃ vs,KV kvs vs/\s.heap.DictOf (Z1p X.prog X.w) p vs:=I.hok p _ hx
   have hlen:kvs.length=vs.length:=Paired.length r
   exact wpAny_truthy_dict hS m (by omega) ⟨H,I.tok _,by rw[Y3i r];exact q⟩
 | _=>exact(show False from e).elim
theorem vals1 {x:V}{us:U5}(r:Vals [x] us):∃ u,us=[u]/\RelV x u:=by
 cases r with
 | cons r1 r2=>cases r2;exact⟨_,rfl,r1⟩
theorem vals2 {x y:V}{us:U5}(r:Vals [x,y] us):∃ u w',us=[u,w']/\RelV x u/\RelV y w':=by
 cases r with
 | cons r1 r2 =>
  cases r2 with
  | cons r3 r4=>cases r4;exact⟨_,_,rfl,r1,r3⟩
theorem Z6q (hc:X.calm=true):CallR X (.builtin "max") (λxs H Q=>∃ i j,xs=[.int i,.int j]/\Q (.int (if j>i then j else i)) H):=by
 intro pins s σ H xs us Q I r h
 obtain⟨i,j,rfl,q⟩:=h
 obtain⟨u,w',rfl,⟨t,rfl⟩,⟨t',rfl⟩⟩:=vals2 r
 refine max_two_ints (I.ok.hd hc) λh' tk k=>⟨_,H,I.kept k,?_,q⟩
 by_cases hj:j>i
 ·rw[if_pos hj,if_pos hj];exact⟨_,Z⟩
 ·rw[if_neg hj,if_neg hj];exact⟨_,Z⟩
theorem Z9p (hc:X.calm=true):CallR X (.builtin "min") (λxs H Q=>∃ i j,xs=[.int i,.int j]/\Q (.int (if j<i then j else i)) H):=by
 intro pins s σ H xs us Q I r h
 obtain⟨i,j,rfl,q⟩:=h
 obtain⟨u,w',rfl,⟨t,rfl⟩,⟨t',rfl⟩⟩:=vals2 r
 refine min_two_ints (I.ok.hd hc) λh' tk k=>⟨_,H,I.kept k,?_,q⟩
 by_cases hj:j<i
 ·rw[if_pos hj,if_pos hj];exact⟨_,Z⟩
 ·rw[if_neg hj,if_neg hj];exact⟨_,Z⟩
theorem Z9r:CallR X (.type "int") (λxs H Q=>(∃ i,xs=[.int i]/\Q (.int i) H)∨∃ k,xs=[.bl k]/\Q (.int (if k then 1 else 0)) H):=by
 intro pins s σ H xs us Q I r h
 rcases h with ⟨i,rfl,q⟩ | ⟨k,rfl,q⟩
 ·obtain⟨u,rfl,t,rfl⟩:=vals1 r
  exact call_int_int ⟨.int i,H,I,⟨_,Z⟩,q⟩
 ·obtain⟨u,rfl,r1⟩:=vals1 r
  cases r1
  exact call_int_bool ⟨.int (if k then 1 else 0),H,I.tok _,⟨_,Z⟩,q⟩
end
structure ObjM (h:Heap) (x dx C:W9) (mA:U4):Prop where
 obj:h.get? x=some (PySem.W.instObj C dx)
 ns:h.Ns1 dx mA
 ne:dx≠x
theorem Z9h {h:Heap}{dx:W9}{mA:U4}(n:h.Ns1 dx mA):∃ od,h.get? dx=some od/\∀ name,PySem.W.lookIn name od=some (mA name):=by
 obtain⟨o,es,ep,ho,hd,hk,_,hm⟩:=n
 refine⟨o,ho,λname=>?_⟩
 have e:=hm name
 unfold nsFind findBy at e
 rw[<-Array.find?_toList] at e
 unfold PySem.W.lookIn
 rw[hd]
 dsimp only
 split
 ·rename_i y q
  rw[q] at e
  exact congrArg some e
 ·rename_i q
  rw[q] at e
  have a:es.toList.any (·.refKey)=false:=by
   rw[List.any_eq_false]
   intro y hy
   obtain⟨z,t,hkey⟩:=hk y (Array.mem_toList_iff.mp hy)
   simp[DictEntry.refKey,hkey]
  have a':¬ es.toList.any (·.refKey)=true:=by rw[a];exact q0p
  rw[if_neg a']
  exact congrArg some e
theorem ObjM.look {h:Heap}{x dx C:W9}{mA:U4}(I:ObjM h x dx C mA):∃ od,PySem.W.InstAt h x (PySem.W.instObj C dx) C (some od)/\∀ name,PySem.W.lookIn name od=some (mA name) :=
 let ⟨od,ho,hl⟩:=Z9h I.ns
 ⟨od,⟨I.obj,Z,Z,ho⟩,hl⟩
section
variable {prog:U8}{w:W1}{A:W6}{E:U2}{s:U7}{K:U0}{x dx C f:W9}{mA:U4}{name:Str}{v:W2}
end
theorem RelO.some_of {v:V}{o:Option Value}(r:RelO (some v) o):∃ u,o=some u/\RelV v u:=by
 cases o with
 | none=>exact(show False from r).elim
 | some u=>exact⟨u,rfl,r⟩
theorem Y6f {v:V}{u:W2}(r:RelV v u):PySem.W.handedIn u=true:=by
 cases v with
 | non=>cases (show u=Value.none from r);rfl
 | bl b=>cases (show u=Value.bool b from r);rfl
 | int i=>obtain⟨t,e⟩:=(show ∃ t,u=Value.int i t from r);cases e;rfl
 | str x=>obtain⟨t,e⟩:=(show ∃ t,u=Value.str x t from r);cases e;rfl
 | byt b=>obtain⟨t,e⟩:=(show ∃ t,u=Value.bytes b t from r);cases e;rfl
 | flt b=>obtain⟨t,e⟩:=(show ∃ t,u=Value.float b t from r);cases e;rfl
 | ref a=>cases (show u=Value.ref a from r);rfl
 | ty n=>cases (show u=Value.type n from r);rfl
section
variable {P:U8}{w:W1}{H H':Hp}{h h':Heap}{a C dx:W9}{fs fs':List (Str × V)}
theorem X4s (hok:HOk P w H h)(e:H a=some (.ins C dx fs)):∃ mA,ObjM h a dx C mA/\(∀ f,RelO (fs.lookup f) (mA f))/\PySem.Within mA (fs.map (·.1))/\fs.length<=1000/\H dx=some (.own a):=by
 obtain⟨d,z,ne,ob,mA,n,r,q⟩:=(show ObjOk P w H h a (.ins C dx fs) from hok a _ e)
 exact⟨mA,⟨ob,n,ne⟩,r,q,z,d⟩
end
structure Cls (K:U0) (C:W9):Prop where
 pg:PySem.W.plainGet K C Str.empty=true
 hd:PySem.W.hasDictIn K C=true
 po:PySem.W.plainOver K C=true
 sa:PySem.W.findIn K (.ref C) "__setattr__"=some (some (.builtin "object.__setattr__"))
theorem Cls.get {K:U0}{C:W9}(c:Cls K C)(f:Str):PySem.W.plainGet K C f=true:=c.pg
def NoAttr (K:U0)(C:W9)(f:Str):Prop:=PySem.W.findIn K (.ref C) f=some none
section
variable {X:Cx}{pins:U1}{σ:St}{H:Hp}{s:U7}{a C dx:W9}{fs:List (Str × V)}{f:Str}{v:V}{A:W6}{E:U2}
theorem X5b {prog:U8}{w:W1}{env:Env}{e:Expr}{f:Str}{pos:Pos}{s:U7}{Q:U2}(hb:attributeBase e f env (eval e env)=eval e env)
  (h:wpAny (model prog w) A (eval e env) (λo s₁=>wpAny (model prog w) A (getAttr o f true) Q E s₁) E s):wpAny (model prog w) A (eval (.Attribute e f pos) env) Q E s :=
 Attribute_any_ h (by rw[arm_eval_Attribute,hb])
end
section
variable {X:Cx}{o e value:Expr}{f:Str}{pos pos' tpos:Pos}{ta tv:TE}
end
section
variable {X:Cx}{pins:U1}{σ:St}{H:Hp}{s:U7}{A:W6}{E:U2}{Q:U2}{c:W2}{b:Bool}
inductive TyOf (K:U0) (H:Hp):V->Value->Prop where
 | non:TyOf K H .non (.type "NoneType")
 | bl (x:Bool):TyOf K H (.bl x) (.type "bool")
 | int (i:Int):TyOf K H (.int i) (.type "int")
 | str (x:Str):TyOf K H (.str x) (.type "str")
 | flt (x:UInt64):TyOf K H (.flt x) (.type "float")
 | lst {a:W9}{xs:List V} (e:H a=some (.lst xs)):TyOf K H (.ref a) (.type "list")
 | frz {a:W9}{o:Obj}{xs:List V} (e:H a=some (.frz o (.lst xs))):TyOf K H (.ref a) (.type "list")
 | tup {a:W9}{xs:List V} (e:H a=some (.tup xs)):TyOf K H (.ref a) (.type "tuple")
 | dK {a:W9}{kvs:List (Key × V)} (e:H a=some (.dK kvs)):TyOf K H (.ref a) (.type "dict")
 | dT {a:W9}{kvs:List (List Key × V)} (e:H a=some (.dT kvs)):TyOf K H (.ref a) (.type "dict")
 | ins {a C dx:W9}{fs:List (Str × V)} (e:H a=some (.ins C dx fs)) (cl:Cls K C) (ha:PySem.W.findIn K (.ref C) "__class__"=some (some (.builtin "object.__class__")))
   (hn:PySem.W.specialIn K (.builtin "object.__class__") "__get__"=some (some (.builtin "getset_descriptor.__get__"))) (htk:PySem.W.takesIn K (.builtin "object.__class__")=some true)
   (hm:PySem.W.mroIn K C (.type "object")=some true):TyOf K H (.ref a) (.ref C)
theorem Y6d {x:V}{u t:W2}(I:Inv X pins σ H s)(rx:RelV x u)(ty:TyOf X.K H x t)(e:PySem.W.kitOne X.K t c=some b)(h:∀ tk,Q (.bool b) { s with toks:=tk }) :
  wpAny (model X.prog X.w) A (call (.builtin "isinstance") [u,c]) Q E s:=by
 cases ty with
 | non=>cases (show u=Value.none from rx);exact q1s PySem.W.kitx_none I.kIn True.intro e (λz=>nomatch z) h
 | bl y=>cases (show u=Value.bool y from rx);exact q1s PySem.W.kitx_bool I.kIn True.intro e (λz=>nomatch z) h
 | int i=>obtain⟨t,q⟩:=(show ∃ t,u=Value.int i t from rx);cases q;exact q1s PySem.W.kitx_int I.kIn True.intro e (λz=>nomatch z) h
 | str y=>obtain⟨t,q⟩:=(show ∃ t,u=Value.str y t from rx);cases q;exact q1s PySem.W.kitx_str I.kIn True.intro e (λz=>nomatch z) h
 | flt y=>obtain⟨t,q⟩:=(show ∃ t,u=Value.float y t from rx);cases q;exact q1s PySem.W.kitx_float I.kIn True.intro e (λz=>nomatch z) h
 | @lst a xs ea =>
  cases (show u=Value.ref a from rx)
  obtain⟨_,_,n,_,h1⟩:=(show ObjOk X.prog X.w H s.heap a (.lst xs) from I.hok a _ ea)
  exact q1s PySem.W.kitx_list I.kIn ⟨_,h1,Z⟩ e (λz=>nomatch z) h
 | @frz a ob xs ea =>
  cases (show u=Value.ref a from rx)
  obtain⟨_,_,_,n,_,h1⟩:=(show ObjOk X.prog X.w H s.heap a (.frz ob (.lst xs)) from I.hok a _ ea)
  exact q1s PySem.W.kitx_list I.kIn ⟨_,h1,Z⟩ e (λz=>nomatch z) h
 | @tup a xs ea =>
  cases (show u=Value.ref a from rx)
  obtain⟨_,_,_,p⟩:=(show ObjOk X.prog X.w H s.heap a (.tup xs) from I.hok a _ ea)
  obtain⟨o,h1,h2,_⟩:=p
  exact q1s PySem.W.kitx_tuple I.kIn ⟨o,h1,h2⟩ e (λz=>nomatch z) h
 | @dK a kvs ea =>
  cases (show u=Value.ref a from rx)
  obtain⟨_,_,vs,_,p⟩:=(show ObjOk X.prog X.w H s.heap a (.dK kvs) from I.hok a _ ea)
  obtain⟨o,es,ep,h1,h2,_⟩:=p
  exact q1s PySem.W.kitx_dict I.kIn ⟨o,h1,h2.1⟩ e (λz=>nomatch z) h
 | @dT a kvs ea =>
  cases (show u=Value.ref a from rx)
  obtain⟨_,_,xs,_,o,es,ep,h1,h2,_⟩:=(show ObjOk X.prog X.w H s.heap a (.dT kvs) from I.hok a _ ea)
  exact q1s PySem.W.kitx_dict I.kIn ⟨o,h1,h2.1⟩ e (λz=>nomatch z) h
 | @ins a C dx fs ea cl ha hn htk hm =>
  cases (show u=Value.ref a from rx)
  obtain⟨mA,O,_⟩:=X4s I.hok ea
  obtain⟨od,J,_⟩:=O.look
  exact q1s (PySem.W.kitx_own (cl.get _) cl.hd ha hn htk hm) I.kIn J e (λz=>nomatch z) h
end
structure Room (k:Nat) (A:W6):Prop where
 hd:A.handled=none
 dp:A.depth+3*k+5<recursionLimit
 un:A.units+16*k+200<cLine
theorem Room.mono {j k:Nat}{A:W6}(r:Room k A)(h:j<=k):Room j A:=⟨r.hd,by have:=r.dp;omega,by have:=r.un;omega⟩
theorem Room.deeper {k:Nat}{A:W6}(r:Room (k+1) A)(env:Env):Room k (A.deeper env) :=
 ⟨r.hd,by have:=r.dp;show A.depth+1+3*k+5<_;omega,by have:=r.un;show A.units+3+16*k+200<_;omega⟩
theorem Y3e {A:W6}{C:W9}{us:U5}{kw:List (Str × Value)}:(A.under (.builtin "type.__call__" ⟨.ref C::us,kw⟩)).depth=A.depth+1:=by
 first | rfl | simp[Around.under,Code.weight,Code.isCreation,Code.isGuard,Code.isCaller,Code.frames,Code.isFrame,guardIds]
theorem Y3d {A:W6}{C:W9}{us:U5}{kw:List (Str × Value)}:(A.under (.builtin "type.__call__" ⟨.ref C::us,kw⟩)).units=A.units+1:=by
 first | rfl | simp[Around.under,Code.cUnits,Code.frames,Code.isFrame]
theorem Room.make {k:Nat}{A:W6}(r:Room (k+1) A)(C:W9)(us:U5)(kw:List (Str × Value)):Room k (A.under (.builtin "type.__call__" ⟨.ref C::us,kw⟩)) :=
 ⟨r.hd,by have:=r.dp;rw[Y3e];omega,by have:=r.un;rw[Y3d];omega⟩
theorem Room.depth {k:Nat}{A:W6}(r:Room k A):A.depth<recursionLimit:=by have:=r.dp;omega
theorem Room.units {k:Nat}{A:W6}(r:Room k A):A.units+64<cLine:=by have:=r.un;omega
def tNil:TA:=λ_ H Q=>Q [] H
def tCons (ta:TE)(tr:TA):TA:=λσ H Q=>ta σ H λx H1=>tr σ H1 λxs H2=>Q (x::xs) H2
section
variable {X:Cx}{e:Expr}{es:List Expr}{te:TE}{t:TA}{pos:Pos}
theorem Z0d:PA X [] tNil:=λ_ _ _ _ H Q I h=>Calls.spliced_nil ⟨[],H,I,.nil,h⟩
theorem Z0a (ha:PE X e te)(hr:PA X es t)(hs:starEach (e::es) X.env=(false,eval e X.env)::starEach es X.env:=by rfl):PA X (e::es) (tCons te t):=by
 intro pos pins s σ H Q I h
 rw[hs]
 show wpAny _ _ (spliced ((false,eval e X.env)::backTo pos (starEach es X.env))) _ _ s
 refine Calls.spliced_cons (thn (ha pins s σ H _ I h) λu s1 ⟨x,H1,I1,r1,q1⟩=>?_)
 exact thn (hr pos pins s1 σ H1 _ I1 q1) λus s2 ⟨xs,H2,I2,r2,q2⟩=>⟨x::xs,H2,I2,.cons r1 r2,q2⟩
def tTup (t:TA):TE:=λσ H Q=>t σ H λxs H1=>xs.length<=sizeLine/\∀ p,H1 p=none->Q (.ref p) (upd H1 p (.tup xs))
def tLst (t:TA):TE:=λσ H Q=>t σ H λxs H1=>xs.length<=sizeLine/\∀ p,H1 p=none->Q (.ref p) (upd H1 p (.lst xs))
theorem Z0y {x1}(h:PA X es t):PE X (.Tuple es x1 pos) (tTup t):=by
 intro pins s σ H Q I hq
 refine wpAny_Tuple_spliced (thn (h pos pins s σ H _ I hq) λus s1 ⟨xs,H1,I1,r,z,q⟩=>⟨by rw[<-r.length];exact z,?_⟩)
 have hf:H1 s1.heap.objs.size=none:=I1.hok.fresh (q0f _)
 refine⟨.ref s1.heap.objs.size,upd H1 s1.heap.objs.size (.tup xs),I1.laid (t':=s1.toks) (λb u e=>q0c _ e) (q0f _) ?_,Z,q _ hf⟩
 exact⟨z,us,r,⟨_,q0m _ rfl,Z,_,Z⟩⟩
theorem Z2r (h:PA X es t):PE X (.List es pos) (tLst t):=by
 intro pins s σ H Q I hq
 refine wpAny_List_spliced (thn (h pos pins s σ H _ I hq) λus s1 ⟨xs,H1,I1,r,z,q⟩=>⟨by rw[<-r.length];exact z,?_⟩)
 have hf:H1 s1.heap.objs.size=none:=I1.hok.fresh (q0f _)
 refine⟨.ref s1.heap.objs.size,upd H1 s1.heap.objs.size (.lst xs),I1.laid (t':=s1.toks) (λb u e=>q0c _ e) (q0f _) ?_,Z,q _ hf⟩
 exact⟨z,us,0,r,q0m _ rfl⟩
end
abbrev Sp:=List V->Hp->VK->XK->Prop
abbrev CXT:=List Env->Hp->Shared->XK->Value->Shared->Prop
structure Env0 (P:U8) (w:W1) (K:U0) (mg:U4) (base:Heap) (A:W6) (outer:List Env) (s:U7) (H:Hp):Prop where
 frames:A.frames=some outer
 mod:Mod K mg base
 bs:∀ b o,base.get? b=some o->s.heap.get? b=some o/\H b=none
 bsz:base.objs.size<=s.heap.objs.size
 funs:s.heap.FunFrames base outer
 frf:∀ b∈frs outer,H b=none
 hok:HOk P w H s.heap
 bare:AllBare s.gens
def CE (outer:List Env)(P:U8)(w:W1)(H:Hp)(s:U7)(Q:VK)(u:W2)(s':U7):Prop :=
 ∃ v H',s'.os=s.os/\AllBare s'.gens/\Un (frs outer) [] H H' s.heap s'.heap/\HOk P w H' s'.heap/\RelV v u/\Q v H'
def CR (CX:CXT)(outer:List Env)(P:U8)(w:W1)(H:Hp)(s:U7)(Q:VK)(E:XK)(r:Result)(s':U7):Prop :=
 match r with
 | .ok (.ret u)=>CE outer P w H s Q u s'
 | .ok _=>False
 | .error e=>CX outer H s E e s'
structure FnOk (P:U8) (w:W1) (K:U0) (mg:U4) (base:Heap) (CX:CXT) (k:Nat) (f:W9) (fd:FuncData) (ps:W0) (sp:Sp):Prop where
 len:∀ vs H Q E,sp vs H Q E->vs.length=ps.length
 run:∀ (A:W6) (outer:List Env) (s:U7) (H:Hp) (args:Args) (us:U5) (vs:List V) (Q:VK) (E:XK),Room k A->Env0 P w K mg base A outer s H->BindsTo s fd args (ps.zip us)->Vals vs us->sp vs H Q E →
  codeAny (model P w) A (.call (.ref f) args) (CR CX outer P w H s Q E) s
theorem FnOk.mono {P:U8}{w:W1}{K:U0}{mg:U4}{base:Heap}{CX:CXT}{j k:Nat}{f:W9}{fd:FuncData}{ps:W0}{sp:Sp}(F:FnOk P w K mg base CX j f fd ps sp)(h:j<=k) :
  FnOk P w K mg base CX k f fd ps sp:=⟨F.len,λA outer s H args us vs Q E hr=>F.run A outer s H args us vs Q E (hr.mono h)⟩
theorem Env0.make {P:U8}{w:W1}{K:U0}{mg:U4}{base:Heap}{A:W6}{outer:List Env}{s:U7}{H:Hp}(e:Env0 P w K mg base A outer s H)(C:W9)(us:U5)(kw:List (Str × Value)) :
  Env0 P w K mg base (A.under (.builtin "type.__call__" ⟨.ref C::us,kw⟩)) outer s H:=⟨by first | exact e.frames | (simpa [Around.under,Code.envs,Code.isFrame,pushEnvs] using e.frames),e.mod,e.bs,e.bsz,e.funs,e.frf,e.hok,e.bare⟩
section
variable {X:Cx}{pins:U1}{σ:St}{H:Hp}{s s':U7}
theorem Inv.env0 (I:Inv X pins σ H s):Env0 X.prog X.w X.K X.mg X.base X.A X.stack s H :=
 ⟨I.ok.frames,I.ok.mod,I.bs,q1m I.ok.bsz I.sz,I.stack,I.stkFree,I.hok,I.bare⟩
theorem Inv.after {Q:VK}{u:W2}(I:Inv X pins σ H s)(h:CE X.stack X.prog X.w H s Q u s'):EP X pins σ Q u s':=by
 obtain⟨v,H',os,bare,un,hok,r,q⟩:=h
 obtain⟨hh,g,d,t,os'⟩:=s'
 obtain rfl:os'=s.os:=os
 exact⟨v,H',I.call (h':=hh) (g':=g) (d':=d) (t':=t) (ch:=[]) un hok bare (λb z=>absurd z (by simp)),r,q⟩
end
def tCall (sp:Sp)(dvs:List V)(E:XK)(t:TA):TE:=λσ H Q=>t σ H λvs H1=>sp (vs++dvs) H1 Q E
def Binds (K:U0)(fd:FuncData)(ps:W0)(ds:U5):Prop :=
 ∀ (s:U7) (us:U5),K.In s.heap->(us++ds).length=ps.length->BindsTo s fd ⟨us,[]⟩ (ps.zip (us++ds))
theorem Binds.all {K:U0}{fd:FuncData}{ps:W0}(h:∀ us:List Value,us.length=ps.length->bindArgs fd ⟨us,[]⟩=pure (ps.zip us)):Binds K fd ps []:=λs us _ hl=>by
 rw[q3e] at hl ⊢
 exact .of_eq (h us hl)
def Passes (CX:CXT)(X:Cx)(E:XK):Prop:=∀ (pins:U1) (σ:St) (H:Hp) (s:U7) (e:W2) (s':U7),Inv X pins σ H s->CX X.stack H s E e s'->X.xe e s'
section
variable {X:Cx}{CX:CXT}{k:Nat}{f C:W9}{fd:FuncData}{ps:W0}{sp:Sp}{dvs:List V}{ds:U5}{E:XK}{x m:Str}{p pos apos:Pos}{e o:Expr}{es:List Expr}{ta:TE}{t:TA}
theorem X6f {pins:U1}{σ:St}{H:Hp}{s:U7}{Q:VK}{us:U5}{vs:List V}(F:FnOk X.prog X.w X.K X.mg X.base CX k f fd ps sp)(hr:Room k X.A)(hb:Binds X.K fd ps ds)(hd:Vals dvs ds)(hx:Passes CX X E)
  (I:Inv X pins σ H s) (r:Vals vs us) (h:sp (vs++dvs) H Q E):wpAny (model X.prog X.w) X.A (call (.ref f) us) (EP X pins σ Q) X.xe s:=by
 have r2:Vals (vs++dvs) (us++ds):=r.append hd
 have hl:(us++ds).length=ps.length:=by rw[<-r2.length];exact F.len _ _ _ _ h
 refine q5b (q3n (F.run X.A X.stack s H ⟨us,[]⟩ (us++ds) (vs++dvs) Q E hr I.env0 (hb s us I.kIn hl) r2 h) λr s' hq=>?_)
 cases r with
 | error e=>exact hx pins σ H s e s' I hq
 | ok fl =>
  cases fl with
  | ret u=>exact I.after hq
  | next=>exact False.elim hq
  | brk=>exact False.elim hq
  | cont=>exact False.elim hq
theorem Y4u (F:FnOk X.prog X.w X.K X.mg X.base CX k f fd ps sp)(hr:Room k X.A)(hg:Gl X x)(hm:X.mg x=some (.ref f))(hk:PySem.W.keepIn X.K (.ref f)=true)(hb:Binds X.K fd ps ds)(hd:Vals dvs ds)(hx:Passes CX X E)
  (ha:PA X (e::es) t) (hdb:(x == ("__debug__":Str))=false:=by decide) (he:starEach (e::es) X.env=(false,eval e X.env)::starEach es X.env:=by rfl) (hpl:(backTo pos (starEach es X.env)).any (·.1)=false:=by rfl) :
  PE X (.Call (.Name x p) (e::es) [] pos) (tCall sp dvs E t):=by
 intro pins s σ H Q I h
 refine q3f (Z4l I hg hm ?_ hdb)
 refine q5f (h₀:=X.base) I.ok.mod.kin hk (thn (ha pos pins s σ H _ I h) λus s1 ⟨vs,H1,I1,r,q⟩=>⟨I1.kIn,?_⟩) he hpl
 exact X6f F hr hb hd hx I1 r q
end
section
variable {X:Cx}{CX:CXT}{k:Nat}{f C:W9}{fd:FuncData}{ps ks:W0}{sp:Sp}{E:XK}{x m:Str}{p pos apos kpos:Pos}{e o:Expr}{es:List Expr}{kws:List Keyword}{te ta:TE}{t tk:TA}{nm:Option Str}
variable {g:List Value->List Value->List Value}{gV:List V->List V->List V}
end
structure FnScope (N P:W0) (sc:Scope):Prop where
 kind:sc.kind=.function
 co:sc.isCoroutine=false
 gen:sc.isGenerator=false
 nd:N.Nodup
 pre:N.take P.length=P
 par:∀ x∈P,sc.names.lookup x=some .local∨sc.names.lookup x=some .cell
 nofree:∀ y∈sc.names,y.2≠.free
theorem Z9s {kindOf:Str->Option NameKind}{x:Str}:∀ {binds:List (Str × Value)}{m:U4},(∀ v,(x,v) ∉ binds)->bindL kindOf binds m x=m x
 | [],_,_=>rfl
 | (n,v)::r,m,h=>by
  unfold bindL
  rw[Z9s λw hw=>h w (q2v _ hw)]
  split
  ·have:x≠n:=by rintro rfl;exact h v q3z
   simp[this]
  ·rfl
theorem Z9u {kindOf:Str->Option NameKind}{x:Str}:∀ {binds:List (Str × Value)}{m:U4},(∀ v,(x,v) ∉ binds)->bindC kindOf binds m x=m x
 | [],_,_=>rfl
 | (n,v)::r,m,h=>by
  unfold bindC
  rw[Z9u λw hw=>h w (q2v _ hw)]
  split
  ·rfl
  ·have:x≠n:=by rintro rfl;exact h v q3z
   simp[this]
theorem Z9t {kindOf:Str->Option NameKind}{x:Str}{v:W2}:∀ {P:W0}{vs:U5}{i:Nat}{m:U4},P.Nodup->P[i]?=some x->vs[i]?=some v->kindOf x=some .local →
  bindL kindOf (P.zip vs) m x=some v
 | [],_,_,_,_,h,_,_=>by simp at h
 | _::_,[],_,_,_,_,h,_=>by simp at h
 | p::P,w::vs,0,m,nd,h1,h2,hk=>by
  simp at h1 h2;subst h1;subst h2
  show bindL kindOf ((p,w)::P.zip vs) m p=_
  unfold bindL
  rw[Z9s λv hv=>(q5g.mp nd).1 (q6d hv).1,if_pos hk]
  simp
 | p::P,w::vs,i+1,m,nd,h1,h2,hk=>by
  show bindL kindOf ((p,w)::P.zip vs) m x=_
  unfold bindL
  exact Z9t (i:=i) (q5g.mp nd).2 (by simpa using h1) (by simpa using h2) hk
theorem Z9v {kindOf:Str->Option NameKind}{x:Str}{v:W2}:∀ {P:W0}{vs:U5}{i:Nat}{m:U4},P.Nodup->P[i]?=some x->vs[i]?=some v->kindOf x≠some .local →
  bindC kindOf (P.zip vs) m x=some v
 | [],_,_,_,_,h,_,_=>by simp at h
 | _::_,[],_,_,_,_,h,_=>by simp at h
 | p::P,w::vs,0,m,nd,h1,h2,hk=>by
  simp at h1 h2;subst h1;subst h2
  show bindC kindOf ((p,w)::P.zip vs) m p=_
  unfold bindC
  rw[Z9u λv hv=>(q5g.mp nd).1 (q6d hv).1,if_neg hk]
  simp
 | p::P,w::vs,i+1,m,nd,h1,h2,hk=>by
  show bindC kindOf ((p,w)::P.zip vs) m x=_
  unfold bindC
  exact Z9v (i:=i) (q5g.mp nd).2 (by simpa using h1) (by simpa using h2) hk
noncomputable def start (N:W0)(vs:List V):St:=vs.map some++List.replicate (N.length-vs.length) none
noncomputable def cxOf (CX:CXT)(P:U8)(w:W1)(K:U0)(mg:U4)(base:Heap)(N:W0)(qual:Str)(scope:Scope)(f:W9)(cd:W2)(A:W6)(outer:List Env)(s:U7)(H:Hp)(E:XK):Cx where
 prog:=P
 w:=w
 K:=K
 mg:=mg
 base:=base
 A:=A.deeper (envOfC qual scope s.heap.objs.size f cd)
 N:=N
 s₀:=s
 H₀:=H
 env:=envOfC qual scope s.heap.objs.size f cd
 outer:=outer
 stack:=envOfC qual scope s.heap.objs.size f cd::outer
 ex:=[]
 calm:=true
 fn:=λ_=>true
 pn:=[]
 xe:=λe s'=>wpAny (model P w) (A.deeper (envOfC qual scope s.heap.objs.size f cd)) (leaving (envOfC qual scope s.heap.objs.size f cd) e) (λ_ s''=>CX outer H s E e s'') (λe' s''=>CX outer H s E e' s'') s'
theorem Y2j {sc:Scope}{n:Nat}{x:Str}(h:sc.names.lookup x=some .cell):∃ c,(cellsFrom n sc.names []).lookup x=some c:=by
 have q:=q5k sc.names n [] (.inl h)
 exact q7a.mp q
theorem Z9j {CX:CXT}{P:U8}{w:W1}{K:U0}{mg:U4}{base:Heap}{N ps:W0}{qual:Str}{scope:Scope}{f:W9}{cd:W2}{A:W6}{outer:List Env}{s s1:U7}{H:Hp}{E:XK}{us:U5}{vs:List V}
  (S:FnScope N ps scope) (hd:A.handled=none) (e0:Env0 P w K mg base A outer s H) (hl:vs.length=ps.length) (r:Vals vs us)
  (x:InCallC s s.heap.objs.size (bindL (envOfC qual scope s.heap.objs.size f cd).kindOf (ps.zip us) λ_=>none) (cellsFrom (s.heap.objs.size+1) scope.names []) (bindC (envOfC qual scope s.heap.objs.size f cd).kindOf (ps.zip us) λ_=>none) s1) :
  Inv (cxOf CX P w K mg base N qual scope f cd A outer s H E) [] (start N vs) H s1:=by
 have hpl:ps.length<=N.length:=by have:=congrArg List.length S.pre;rw[q3v] at this;omega
 obtain⟨h1,tk,rfl,hk⟩:=x.done
 have noA:∀ b:Addr,b ∉ (cxOf CX P w K mg base N qual scope f cd A outer s H E).ex:=λb z=>absurd (show b∈([]:U3) from z) (by simp)
 refine⟨⟨e0.mod,S.kind,Z,Z,q0f _,λy z c h1 h2=>?_,λy hy=>?_,λy c _ h=>?_,λ_=>hd,Around.frames_deeper e0.frames,.inr ⟨Z,Z⟩,λb z=>absurd z (noA b),e0.bs,e0.bsz,λb _ _=>noA b,λb z=>absurd z (noA b),e0.funs,e0.frf⟩,
  rfl,e0.bare,Un.kept hk,⟨_,x.toInCall.ns,λi y v h1 h2 h3=>?_⟩,λy c h=>⟨_,x.cell y c h⟩,e0.hok.fresh (q0f _),λy c h=>?_,λp hp=>absurd (show p∈([]:U1) from hp) (by simp),e0.hok.kept hk,?_⟩
 ·exact name_of_addr x.apart (q2n h1) (q2n h2)
 ·have hy:scope.names.lookup y=some .cell∨scope.names.lookup y=some .free:=hy
  rcases hy with hy | hy
  ·exact Y2j hy
  ·exact absurd rfl (S.nofree _ (q2n hy))
 ·exact q8f (x.above y c (q2n h))
 ·have hi:i<vs.length:=by
   unfold start at h2
   by_cases hi:i<vs.length
   ·exact hi
   ·rw[q4m (by simpa using hi)] at h2
    rw[q5i] at h2
    split at h2<;>cases h2
  have ha:vs[i]?=some v:=by
   unfold start at h2
   rw[q4s (by simpa using hi),q0n] at h2
   cases e:vs[i]? with
   | none=>rw[e] at h2;cases h2
   | some a=>rw[e] at h2;cases h2;rfl
  obtain⟨u,hu,rv⟩:=r.get ha
  have hp:ps[i]?=some y:=by
   rw[<-S.pre,List.getElem?_take_of_lt (by omega)];exact h1
  have ndP:ps.Nodup:=by rw[<-S.pre];exact S.nd.sublist (List.take_sublist _ _)
  refine⟨u,rv,?_⟩
  rcases S.par y (q0w hp) with k | k
  ·exact .inl ⟨k,Z9t ndP hp hu k⟩
  ·obtain⟨c,e⟩:=Y2j (n:=s.heap.objs.size+1) k
   refine .inr ⟨.inl k,c,e,?_⟩
   have q:=x.cell y c e
   rw[Z9v ndP hp hu (by show scope.names.lookup y≠_;rw[k];decide)] at q
   exact q
 ·exact e0.hok.fresh (q8f (x.above y c (q2n h)))
 ·unfold start
  show _=N.length
  rw[q0x,q0a,q8j]
  omega
theorem Y9m {CX:CXT}{P:U8}{w:W1}{K:U0}{mg:U4}{base:Heap}{k:Nat}{f:W9}{name qual:Str}{params:Arguments}{body:W8}{scope:Scope}{dV kV doc pm cdv ct oc:W2}{an od:W5}
  {osl:W4}{N ps:W0}{sp:Sp} (lk:K.lookup f=some ⟨oc,od,.func (PySem.W.fnOf name qual params body scope dV kV doc pm an cdv ct),osl⟩) (hcd:PySem.W.codeIn K cdv qual=true) (S:FnScope N ps scope)
  (len:∀ vs H Q E,sp vs H Q E->vs.length=ps.length)
  (hbody:∀ (A:W6) (outer:List Env) (s:U7) (H:Hp) (vs:List V) (Q:VK) (E:XK),Room k (A.deeper (envOfC qual scope s.heap.objs.size f cdv))->sp vs H Q E →
   ∃ t,PSs (cxOf CX P w K mg base N qual scope f cdv A outer s H E) body t/\t { nx:=λ_ H'=>Q .non H',rt:=Q } (start N vs) H) :
  FnOk P w K mg base CX (k+1) f (PySem.W.fnOf name qual params body scope dV kV doc pm an cdv ct) ps sp:=by
 refine⟨len,λA outer s H args us vs Q E hr e0 hb r hsp=>?_⟩
 have hl:=len _ _ _ _ hsp
 have KX:K.In s.heap:=e0.mod.kin.keeps λb o e=>(e0.bs b o e).1
 have lim:s.heap.NoLimit:=e0.mod.nolimit.keeps λb o e=>(e0.bs b o e).1
 have hkind:∀ y∈ps.zip us,scope.names.lookup y.1=some .local∨(scope.names.lookup y.1=some .cell/\((cellsFrom (s.heap.objs.size+1) scope.names []).lookup y.1).isSome=true):=λ⟨n,v⟩ hy=>by
  rcases S.par n (q6d hy).1 with q | q
  ·exact .inl q
  ·exact .inr ⟨q,q5k _ _ _ (.inl q)⟩
 refine q8b hr.depth (KX _ _ lk) rfl S.co S.gen rfl (PySem.W.codeRec_of KX hcd) (hb _ _ _ _ ?_)
 refine q6h S.kind hkind λenv he s1 x=>?_
 subst he
 refine⟨lim.keeps x.toInCall.keep,codeAny_func ?_⟩
 obtain⟨t,ht,hq⟩:=hbody A outer s H vs Q E (hr.deeper _) hsp
 have I:Inv (cxOf CX P w K mg base N qual scope f cdv A outer s H E) [] (start N vs) H s1:=Z9j S hr.hd e0 hl r x
 refine q1i (ht [] s1 (start N vs) H _ I hq) (λfl s' hs=>?_) λe s' hs=>hs
 have fin:∀ {σ':St}{H':Hp}{v:V}{u:W2},Inv (cxOf CX P w K mg base N qual scope f cdv A outer s H E) [] σ' H' s'->RelV v u->Q v H'->CE outer P w H s Q u s' :=
  λ{σ' H' v u} J rv q=>⟨v,H',J.os,J.bare,J.base,J.hok,rv,q⟩
 cases fl with
 | ret u =>
  obtain⟨v,σ',H',J,rv,q⟩:=hs
  exact fin J rv q
 | next =>
  obtain⟨σ',H',J,q⟩:=hs
  exact fin (v:=V.non) (u:=Value.none) J rfl q
 | brk =>
  obtain⟨_,_,_,q⟩:=hs
  exact False.elim q
 | cont =>
  obtain⟨_,_,_,q⟩:=hs
  exact False.elim q
section
variable {X:Cx}{x:Str}{p pos:Pos}{e:Expr}{es:List Expr}{t:TA}{id T:String}{r:List V->Hp->VK->Prop}
def tCB (r:List V->Hp->VK->Prop)(t:TA):TE:=λσ H Q=>t σ H λvs H1=>r vs H1 Q
theorem Z0p (hc:CallR X (.builtin id) r)(hg:Gl X x)(hm:X.mg x=none)(hv:bootBuiltins x=some (.builtin id))(ha:PA X (e::es) t)(hn:x≠"__name__":=by decide)(hdb:(x == ("__debug__":Str))=false:=by decide)
  (he:starEach (e::es) X.env=(false,eval e X.env)::starEach es X.env:=by rfl) (hpl:(backTo pos (starEach es X.env)).any (·.1)=false:=by rfl):PE X (.Call (.Name x p) (e::es) [] pos) (tCB r t):=by
 intro pins s σ H Q I h
 refine q3f (Z5k I hg hm hv ?_ hn hdb)
 exact PyProof.Rows.callWith_builtin1 (thn (ha pos pins s σ H _ I h) λus s1 ⟨vs,H1,I1,r1,q1⟩=>hc pins s1 σ H1 vs us Q I1 r1 q1) he hpl
theorem Z2e (hc:CallR X (.type T) r)(hg:Gl X x)(hm:X.mg x=none)(hv:bootBuiltins x=some (.type T))(ha:PA X (e::es) t)(hn:x≠"__name__":=by decide)(hdb:(x == ("__debug__":Str))=false:=by decide)
  (he:starEach (e::es) X.env=(false,eval e X.env)::starEach es X.env:=by rfl) (hpl:(backTo pos (starEach es X.env)).any (·.1)=false:=by rfl):PE X (.Call (.Name x p) (e::es) [] pos) (tCB r t):=by
 intro pins s σ H Q I h
 refine q3f (Z5k I hg hm hv ?_ hn hdb)
 exact PyProof.Rows.callWith_type1 (thn (ha pos pins s σ H _ I h) λus s1 ⟨vs,H1,I1,r1,q1⟩=>hc pins s1 σ H1 vs us Q I1 r1 q1) he hpl
end
end L2
namespace HT
section
open PySem.SeqAt
open PySem.AutoSeq1 (wpAny_loadPart')
open PySem.MeetsSeq PySem.MeetsSeq2 PySem.MeetsSeq3
end
section
variable {prog:U8}{w:W1}{A:W6}{E:U2}{s:U7}
noncomputable def sIx (n d:Nat):Option Int->Nat
 | none=>d
 | some v=>if v<0 then (v+(n:Int)).toNat else min v.toNat n
theorem Z7w (n d k:Nat):sIx n d (some (k:Int))=min k n:=by
 show (if (k:Int)<0 then ((k:Int)+(n:Int)).toNat else min (k:Int).toNat n)=min k n
 rw[if_neg (by omega),q1o]
theorem X6e (n d:Nat)(hd:d<=n)(o:Option Int):sIx n d o<=n:=by
 cases o with
 | none=>exact hd
 | some v =>
  show (if v<0 then (v+(n:Int)).toNat else min v.toNat n)<=n
  by_cases hv:v<0
  ·rw[if_pos hv];omega
  ·rw[if_neg hv];exact Nat.min_le_right _ _
theorem Y6x (v:Int)(n d:Nat):(if v<0 then max (v+(n:Int)) 0 else min v (n:Int))=((sIx n d (some v):Nat):Int):=by
 show (if v<0 then max (v+(n:Int)) 0 else min v (n:Int))=(((if v<0 then (v+(n:Int)).toNat else min v.toNat n):Nat):Int)
 by_cases hv:v<0
 ·simp only[if_pos hv];omega
 ·simp only[if_neg hv];omega
theorem Y3m (lo hi:Option Int)(n:Nat):Builtin.Slice.sliceAdjust lo hi 1 (n:Int)=(((sIx n 0 lo:Nat):Int),((sIx n n hi:Nat):Int)):=by
 have h1:¬ ((1:Int)<0):=by omega
 unfold Builtin.Slice.sliceAdjust
 simp only[h1,q4u]
 refine Prod.ext ?_ ?_
 ·cases lo with
  | none=>rfl
  | some v=>exact Y6x v n 0
 ·cases hi with
  | none=>rfl
  | some v=>exact Y6x v n n
theorem Y2t (i j:Nat):Builtin.Slice.slicePlaces (i:Int) (j:Int) 1=j-i:=by
 unfold Builtin.Slice.slicePlaces
 have h1:(1:Int)>0:=by omega
 simp only[h1,q7e,Int.ediv_one]
 split<;>omega
theorem Z6z {v:W2}{o:Option Int}{Q:Option Int->Shared->Prop}(p:IsPart v o)(h:Q o s):wpAny (model prog w) A (Builtin.Slice.slicePartIndex v) Q E s:=by
 cases p with
 | none=>exact slicePart_none h
 | int i t=>exact slicePart_int h
theorem Z3g {sl:W9}{vl vu:W2}{lo hi:Option Int}{n:Nat}{Q:Int × Int × Nat->Shared->Prop}(hs:s.heap.IsSliceOf sl vl vu .none)(pl:IsPart vl lo)(pu:IsPart vu hi)
  (h:Q (((sIx n 0 lo:Nat):Int),1,sIx n n hi-sIx n 0 lo) s):wpAny (model prog w) A (Builtin.Slice.sliceApplied (.ref sl) (pure (n:Int))) Q E s:=by
 obtain⟨os,hos,hcs,hds⟩:=id hs
 unfold Builtin.Slice.sliceApplied Builtin.Slice.sliceFields
 refine q0b (q0b (q3b hos hds (x:=vl) rfl (q0b (q3b hos hds (x:=vu) rfl (q0b (q3b hos hds (x:=.none) rfl (q0g ?_)))))))
 refine q0b (slicePart_none ?_)
 show wpAny _ _ (if ((1:Int) == 0)=true then _ else _) _ _ s
 rw[if_neg (by decide)]
 refine q0b (Z6z pl (q0b (Z6z pu (q0b (q0g ?_)))))
 show wpAny _ _ (match Builtin.Slice.sliceAdjust lo hi 1 (n:Int) with | (lo,hi)=>pure (lo,(1:Int),Builtin.Slice.slicePlaces lo hi 1)) _ _ s
 rw[Y3m lo hi n]
 show wpAny _ _ (pure (((sIx n 0 lo:Nat):Int),(1:Int),Builtin.Slice.slicePlaces ((sIx n 0 lo:Nat):Int) ((sIx n n hi:Nat):Int) 1)) _ _ s
 rw[Y2t]
 exact q0g h
theorem Y8c (xs:U9)(i k:Nat):((List.range k).filterMap λ(m:Nat)=>xs[((i:Int)+(m:Int)*1).toNat]?).toArray=((xs.toList.drop i).take k).toArray:=by
 have e:(λ(m:Nat)=>xs[((i:Int)+(m:Int)*1).toNat]?)=λm=>xs[i+m]?:=by
  funext m
  have:((i:Int)+(m:Int)*1).toNat=i+m:=by omega
  rw[this]
 rw[e]
 have:=pick_run xs i k
 rw[List.filterMap_map] at this
 have e2:((λx=>xs[x]?) ∘ λx=>i+x)=λm=>xs[i+m]?:=rfl
 rw[e2] at this
 rw[this]
theorem Z5e {t sl:W9}{items:U9}{vl vu:W2}{lo hi:Option Int}{Q:U2}(ht:IsTup s.heap t items)(hs:s.heap.IsSliceOf sl vl vu .none)(pl:IsPart vl lo)(pu:IsPart vu hi)
  (hw:¬ (sIx items.size 0 lo=0/\sIx items.size items.size hi=items.size))
  (h:Q (.ref s.heap.objs.size) { s with heap:=s.heap.push { cls:=.type "tuple",data:=.seq ((items.toList.drop (sIx items.size 0 lo)).take (sIx items.size items.size hi-sIx items.size 0 lo)).toArray } })
  (hsz:items.size<=sizeLine):wpAny (model prog w) A (getItem (.ref t) (.ref sl)) Q E s:=by
 have htake:sizeOk (.seq ((items.toList.drop (sIx items.size 0 lo)).take (sIx items.size items.size hi-sIx items.size 0 lo)).toArray):=by
  show ((items.toList.drop (sIx items.size 0 lo)).take (sIx items.size items.size hi-sIx items.size 0 lo)).toArray.size<=sizeLine
  rw[q0h,q3v,List.length_drop,q0z]
  omega
 have hj:sIx items.size items.size hi<=items.size:=X6e _ _ (q0f _) hi
 obtain⟨os,hos,hcs,hds⟩:=id hs
 have hTs:s.TypeIs (.ref sl) "slice":=⟨os,hos,hcs⟩
 unfold getItem
 try with_reducible refine q1w ?_
 first | refine q0b (q0g ?_) | skip
 refine q0b (wpAny_sequenceKey ht.typeIs (by decide) ?_)
 refine q0b (q3q (name:=Str.ofString "__getitem__") ht.typeIs PyProof.Rows.slot_tuple_getitem
  (q3u PyProof.Rows.slot_tuple_getitem ht.typeIs entry_tuple_getitem ?_ (args_tuple_getitem _ _)))
 show wpAny _ _ (Builtin.Tuple.tupleItemsOf (.ref t) >>= _) _ _ s
 refine q0b (tupleItemsOf_ ht ?_)
 refine q0b (q7y hTs ?_)
 rw[if_pos (by decide)]
 refine q0b (Z3g hs pl pu ?_)
 have hno:¬ ((((sIx items.size 0 lo:Nat):Int) == 0 && (1:Int) == 1 && (sIx items.size items.size hi-sIx items.size 0 lo) == items.size)=true):=by
  intro q
  rw[q0y,q0y] at q
  have q1:((sIx items.size 0 lo:Nat):Int)=0:=q8v q.1.1
  have q2:sIx items.size items.size hi-sIx items.size 0 lo=items.size:=q8v q.2
  exact hw ⟨by omega,by omega⟩
 show wpAny _ _ (if (((sIx items.size 0 lo:Nat):Int) == 0 && (1:Int) == 1 && (sIx items.size items.size hi-sIx items.size 0 lo) == items.size)=true then _ else _) _ _ s
 rw[if_neg hno,Y8c]
 first
  | exact q0b (m:=Builtin.Tuple.tupleExact _) (q1t (q0g ⟨_,rfl,q0g h⟩) htake)
  | exact q0b (m:=Builtin.Tuple.tupleExact _) (q1t (q0b (q0g (q0g ⟨_,rfl,q0g h⟩))) htake)
  | exact q0b (q0b (m:=Builtin.Tuple.tupleExact _) (q1t (q0g (q0g ⟨_,rfl,q0g h⟩)) htake))
  | exact q0b (q0b (m:=Builtin.Tuple.tupleExact _) (q1t (q0g ⟨_,rfl,q0g h⟩) htake))
end
end HT
namespace L2
abbrev TO:=St->Hp->(Option Int->Hp->Prop)->Prop
def PO (X:Cx)(e:Option Expr)(t:TO):Prop :=
 ∀ (pins:U1) (s:U7) (σ:St) (H:Hp) (Q:Option Int->Hp->Prop),Inv X pins σ H s->t σ H Q →
  wpAny (model X.prog X.w) X.A (evalPart e X.env) (λu s'=>∃ o H',Inv X pins σ H' s'/\IsPart u o/\Q o H') X.xe s
def X2g:TO:=λ_ H Q=>Q none H
def tPart (t:TE):TO:=λσ H Q=>t σ H λx H1=>∃ i,x=.int i/\Q (some i) H1
theorem Z2a {ns:U6}:∀ {us:U5},Vals (ns.map V.int) us->IntsAre us ns:=by
 induction ns with
 | nil=>intro us r;rw[q8h] at r;cases r;exact .nil
 | cons n ns ih =>
  intro us r
  rw[q1k] at r
  cases r with
  | cons r1 r2 =>
   obtain⟨t,e⟩:=r1
   subst e
   exact .cons n t (ih r2)
section
variable {X:Cx}{e:Expr}{te:TE}{lo hi:Option Expr}{tl th:TO}{pos p2:Pos}
theorem Z2m:PO X none X2g:=by
 intro pins s σ H Q I h
 rw[evalPart_none]
 exact q0g ⟨none,H,I,.none,h⟩
theorem Z1v (h:PE X e te):PO X (some e) (tPart te):=by
 intro pins s σ H Q I hw
 rw[evalPart_some]
 refine thn (h pins s σ H _ I hw) λu s1 ⟨x,H1,I1,r1,q1⟩=>?_
 obtain⟨i,rfl,q⟩:=q1
 obtain⟨t,rfl⟩:=r1
 exact⟨some i,H1,I1,.int i t,q⟩
def SlR (X:Cx)(r:V->Option Int->Option Int->Hp->VK->Prop):Prop :=
 ∀ (pins:U1) (s:U7) (σ:St) (H:Hp) (x:V) (v vl vu:W2) (lo hi:Option Int) (sl:W9) (Q:VK),Inv X pins σ H s->RelV x v->s.heap.IsSliceOf sl vl vu .none->IsPart vl lo->IsPart vu hi->r x lo hi H Q →
  ∃ T id,typeLookup (.type T) "__getitem__"=pure (some (.builtin id))/\s.TypeIs v T/\wpAny (model X.prog X.w) X.A (getItem v (.ref sl)) (EP X pins σ Q) X.xe s
def tSl (r:V->Option Int->Option Int->Hp->VK->Prop)(te:TE)(tl th:TO):TE:=λσ H Q=>te σ H λx H1=>tl σ H1 λl H2=>th σ H2 λu H3=>r x l u H3 Q
theorem Z1s {r:V->Option Int->Option Int->Hp->VK->Prop}(hr:SlR X r)(he:PE X e te)(hl:PO X lo tl)(hu:PO X hi th):PE X (.Subscript e (.Slice lo hi none p2) pos) (tSl r te tl th):=by
 intro pins s σ H Q I h
 refine Subscript_ (thn (he pins s σ H _ I h) λv s1 ⟨x,H1,I1,r1,q1⟩=>?_)
 refine wpAny_Slice (thn (hl pins s1 σ H1 _ I1 q1) λvl s2 ⟨l,H2,I2,pl,q2⟩=>thn (hu pins s2 σ H2 _ I2 q2) λvu s3 ⟨u,H3,I3,pu,q3⟩=>?_)
 rw[evalPart_none]
 refine q0g ?_
 have I4:Inv X pins σ H3 { s3 with heap:=s3.heap.push { cls:=.type "slice",data:=.fields #[vl,vu,.none] } }:=I3.kept (t':=s3.toks) λb ob q=>q0c _ q
 obtain⟨T,id,hT,ht,hg⟩:=hr pins { s3 with heap:=s3.heap.push { cls:=.type "slice",data:=.fields #[vl,vu,.none] } } σ H3 x v vl vu l u s3.heap.objs.size Q I4 r1 (Heap.IsSliceOf.new ..) pl pu q3
 show wpAny (model X.prog X.w) X.A (subscriptTail e (.Slice lo hi none p2) v (.ref s3.heap.objs.size)) (EP X pins σ Q) X.xe { s3 with heap:=s3.heap.push { cls:=.type "slice",data:=.fields #[vl,vu,.none] } }
 exact tail_any (ops:=[.ref s3.heap.objs.size,v]) ht hT hg (by with_unfolding_all rfl)
noncomputable def cutV (xs:List V)(lo hi:Option Int):List V:=(xs.drop (HT.sIx xs.length 0 lo)).take (HT.sIx xs.length xs.length hi-HT.sIx xs.length 0 lo)
theorem Z6p (xs:List V)(lo hi:Option Int):(cutV xs lo hi).length<=xs.length:=by
 unfold cutV
 rw[q3v,List.length_drop]
 omega
def rSlT (K:U0):V->Option Int->Option Int->Hp->VK->Prop:=λx lo hi H Q=>∃ a xs,x=.ref a/\SqT K H a xs ∧
 ¬ (HT.sIx xs.length 0 lo=0/\HT.sIx xs.length xs.length hi=xs.length)/\∀ p,H p=none->Q (.ref p) (upd H p (.tup (cutV xs lo hi)))
theorem Z7a:SlR X (rSlT X.K):=by
 intro pins s σ H x v vl vu lo hi sl Q I rx hs pl pu h
 obtain⟨a,xs,rfl,hx,hw,q⟩:=h
 cases rx
 obtain⟨its,r,ht,hz⟩:=I.tuple hx
 have hlen:its.toArray.size=xs.length:=by rw[q0h];exact r.length.symm
 refine⟨"tuple",_,PyProof.Rows.slot_tuple_getitem.lookup,ht.typeIs,?_⟩
 refine HT.Z5e ht hs pl pu (by rw[hlen];exact hw) ?_ (by rw[hlen];exact hz)
 rw[hlen]
 refine⟨.ref s.heap.objs.size,_,I.laid (t':=s.toks) (o:=.tup (cutV xs lo hi)) (λb ob q=>q0c _ q) (q0f _) ?_,Z,q _ (I.hok.fresh (q0f _))⟩
 exact⟨q1m (Z6p xs lo hi) hz,_,(r.drop (HT.sIx xs.length 0 lo)).take (HT.sIx xs.length xs.length hi-HT.sIx xs.length 0 lo),IsTup.new _ _⟩
end
noncomputable def ixN (n:Nat)(i:Int):Option Nat:=if 0<=i then (if i<n then some i.toNat else none) else if -(n:Int)<=i then some (i+n).toNat else none
noncomputable def atI {α:Type}(xs:List α)(i:Int):Option α:=(ixN xs.length i).bind λj=>xs[j]?
theorem Y6a {n:Nat}{i:Int}{j:Nat}(h:ixN n i=some j):seqIndex? i n=some j/\j<n/\-(n:Int)<=i/\i<n:=by
 unfold ixN at h
 by_cases h0:0<=i
 ·rw[if_pos h0] at h
  by_cases h1:i<n
  ·rw[if_pos h1] at h
   have e:i.toNat=j:=Option.some.inj h
   exact⟨by rw[seqIndex_of h0 h1,e],by omega,by omega,h1⟩
  ·rw[if_neg h1] at h;cases h
 ·rw[if_neg h0] at h
  by_cases h1:-(n:Int)<=i
  ·rw[if_pos h1] at h
   have e:(i+n).toNat=j:=Option.some.inj h
   exact⟨by rw[q9a (by omega) h1,e],by omega,h1,by omega⟩
  ·rw[if_neg h1] at h;cases h
theorem Y7i {α:Type}{xs:List α}{i:Int}{v:α}(h:atI xs i=some v):∃ j,seqIndex? i xs.length=some j/\xs[j]?=some v/\j<xs.length/\-(xs.length:Int)<=i/\i<xs.length:=by
 unfold atI at h
 cases e:ixN xs.length i with
 | none=>rw[e] at h;cases h
 | some j =>
  rw[e] at h
  obtain⟨h1,h2,h3,h4⟩:=Y6a e
  exact⟨j,h1,h,h2,h3,h4⟩
theorem Z1y {α:Type}{xs:List α}{j:Nat}{v:α}(h:xs[j]?=some v):atI xs (j:Int)=some v:=by
 have hj:j<xs.length:=(q0o.mp h).1
 have e:ixN xs.length (j:Int)=some j:=by
  unfold ixN
  rw[if_pos (by omega),if_pos (by omega)];simp
 unfold atI;rw[e];exact h
def X5f (b:Expr):Prop:=∀ o i,subscripted b false o i=operate [o,i] (getItem o i)
def IxR (X:Cx)(r:R2):Prop :=
 ∀ (value slice:Expr) (pins:U1) (s:U7) (σ:St) (H:Hp) (x y:V) (v u:W2) (Q:VK),Inv X pins σ H s->RelV x v->RelV y u->r x y H Q →
  subscripted slice false v u=operate [v,u] (getItem v u)->wpAny (model X.prog X.w) X.A (subscriptTail value slice v u) (EP X pins σ Q) X.xe s
def MtR (X:Cx)(id:String)(r:V->List V->Hp->VK->Prop):Prop :=
 ∀ (pins:U1) (s:U7) (σ:St) (H:Hp) (x:V) (xs:List V) (v:W2) (us:U5) (Q:VK),Inv X pins σ H s->RelV x v->Vals xs us->r x xs H Q →
  wpAny (model X.prog X.w) X.A (call (.builtin id) (v::us)) (EP X pins σ Q) X.xe s
section
variable {X:Cx}{a b:Expr}{ta tb:TE}{pos:Pos}
theorem Z0k {r:R2}(hr:IxR X r)(ha:PE X a ta)(hb:PE X b tb)(hs:X5f b):PE X (.Subscript a b pos) (tOp r ta tb):=by
 intro pins s σ H Q I h
 exact Subscript_ (binT ha hb I h λv u s2 x y H2 I2 rx ry q=>hr a b pins s2 σ H2 x y v u Q I2 rx ry q (hs _ _))
def rIxL (K:U0):R2:=λx y H Q=>∃ p xs i v,x=.ref p/\y=.int i/\SqL K H p xs/\atI xs i=some v/\Q v H
def rIxT (K:U0):R2:=λx y H Q=>∃ p xs i v,x=.ref p/\y=.int i/\SqT K H p xs/\atI xs i=some v/\Q v H
theorem Z0w:IxR X (rIxL X.K):=by
 intro value slice pins s σ H x y v u Q I rx ry h hs
 obtain⟨p,xs,i,z,rfl,rfl,hq,he,q⟩:=h
 cases rx
 obtain⟨t,rfl⟩:=ry
 obtain⟨its,r,pl,hz⟩:=I.list hq
 obtain⟨j,h1,h2,h3,h4,h5⟩:=Y7i he
 obtain⟨w,ew,rw'⟩:=r.get h2
 have hl:=r.length
 have hn:=line63
 have fin:EP X pins σ Q w s:=⟨z,H,I,rw',q⟩
 by_cases h0:0<=i
 ·have hj:i.toNat=j:=by
   rw[seqIndex_of h0 h5] at h1
   exact Option.some.inj h1
  exact item_listR pl.isList h0 (by omega) (by rw[hj];simpa using ew) fin hs
 ·have hj:(i+(its.toArray.size:Int)).toNat=j:=by
   rw[q9a (by omega) h4] at h1
   rw[q0h,<-hl]
   exact Option.some.inj h1
  exact q7s (x:=w) pl.isList.typeIs slot_list_getitem.lookup
   (wpAny_getItem_list_neg (Q:=λr s'=>r=w/\EP X pins σ Q r s') pl.isList (by omega) (by rw[q0h]<;>omega) (by omega) (by rw[hj];simpa using ew) ⟨Z,fin⟩) hs
theorem Z0j:IxR X (rIxT X.K):=by
 intro value slice pins s σ H x y v u Q I rx ry h hs
 obtain⟨p,xs,i,z,rfl,rfl,hq,he,q⟩:=h
 cases rx
 obtain⟨t,rfl⟩:=ry
 obtain⟨its,r,pl,hz⟩:=I.tuple hq
 obtain⟨j,h1,h2,h3,h4,h5⟩:=Y7i he
 obtain⟨w,ew,rw'⟩:=r.get h2
 have hl:=r.length
 have hn:=line63
 have fin:EP X pins σ Q w s:=⟨z,H,I,rw',q⟩
 exact q7s (x:=w) pl.typeIs slot_tuple_getitem.lookup
  (getItem_tuple (j:=j) (Q:=λr s'=>r=w/\EP X pins σ Q r s') pl (by omega) (by omega) (by rw[q0h,<-hl];exact h1) (by simpa using ew) ⟨Z,fin⟩) hs
theorem Y3c (its:U5)(n j:Nat)(u:W2):Obj.mapSeq (·.setIfInBounds j u) { cls:=.type "list",data:=.seq its.toArray n }={ cls:=.type "list",data:=.seq (its.set j u).toArray n }:=by
 simp[Obj.mapSeq]
theorem Inv.lst {pins:U1}{σ:St}{H:Hp}{s:U7}{p:W9}{xs:List V}(I:Inv X pins σ H s)(h:H p=some (.lst xs)) :
  ∃ (its:U5) (n:Nat),Vals xs its/\s.heap.get? p=some { cls:=.type "list",data:=.seq its.toArray n }/\xs.length<=sizeLine:=by
 obtain⟨z,its,n,r,e⟩:=I.hok p _ h
 exact⟨its,n,r,e,z⟩
theorem Inv.lstUpd {pins:U1}{σ:St}{H:Hp}{s:U7}{p:W9}{xs ys:List V}{its its':U5}{n n':Nat}{f:Obj->Obj}(I:Inv X pins σ H s)(h:H p=some (.lst xs))
  (ho:s.heap.get? p=some { cls:=.type "list",data:=.seq its.toArray n }) (hf:f { cls:=.type "list",data:=.seq its.toArray n }={ cls:=.type "list",data:=.seq its'.toArray n' }) (r:Vals ys its') (hz:ys.length<=sizeLine) (t:Nat) :
  Inv X pins σ (upd H p (.lst ys)) { s with heap:=s.heap.update p f,toks:=t }:=by
 have e:(s.heap.update p f).get? p=some { cls:=.type "list",data:=.seq its'.toArray n' }:=by
  rw[q1v f ho (by rw[hf]<;>rfl),hf]
 refine I.write (x:=p) (e:=p) (by rw[h];trivial) (.inl rfl) (λb u hb q=>(q1y _ _ (Ne.symm hb)).trans q) ⟨_,e⟩ ?_
 exact⟨hz,its',n',r,e⟩
def rSetL:V->V->V->Hp->(Hp->Prop)->Prop:=λo i v H Q=>∃ p xs k j,o=.ref p/\i=.int k/\H p=some (.lst xs)/\ixN xs.length k=some j/\Q (upd H p (.lst (xs.set j v)))
theorem Z7v:PSet X rSetL:=by
 intro pins s σ H o i v ov iv u Q I ro ri rv h
 obtain⟨p,xs,k,j,rfl,rfl,hp,hj,q⟩:=h
 cases ro
 obtain⟨t,rfl⟩:=ri
 obtain⟨its,n,r,ho,hz⟩:=I.lst hp
 obtain⟨h1,h2,h3,h4⟩:=Y6a hj
 have hl:=r.length
 have hn:=line63
 have I':Inv X pins σ (upd H p (.lst (xs.set j v))) { s with heap:=s.heap.update p (Obj.mapSeq (·.setIfInBounds j u)) } :=
  I.lstUpd hp ho (Y3c its n j u) (r.set rv j) (by rw[q5h];exact hz) s.toks
 by_cases h0:0<=k
 ·have hk:k.toNat=j:=by
   rw[seqIndex_of h0 h4] at h1
   exact Option.some.inj h1
  exact PySem.W.ki_setAt ho h0 (by omega) (by rw[q0h,<-hl];exact h4) (by rw[hk];exact⟨_,I',q⟩)
 ·have hk:(k+(its.toArray.size:Int)).toNat=j:=by
   rw[q9a (by omega) h3] at h1
   rw[q0h,<-hl]
   exact Option.some.inj h1
  exact PySem.W.ki_setBack ho (by omega) (by rw[q0h,<-hl];exact h3) (by omega) (by rw[hk];exact⟨_,I',q⟩)
theorem Z9b (lo hi:Option Int)(n:Nat):(sliceBounds lo hi none n).1=((HT.sIx n 0 lo:Nat):Int)/\(sliceBounds lo hi none n).2.1=((HT.sIx n n hi:Nat):Int)/\(sliceBounds lo hi none n).2.2=1:=by
 refine⟨?_,?_,Z⟩
 ·cases lo with
  | none=>simp[sliceBounds,HT.sIx]
  | some i =>
   simp only[sliceBounds,HT.sIx,Option.getD_none,show (1:Int)>0 by decide,q7e]
   by_cases h:i<0
   ·simp only[h,q7e]<;>omega
   ·simp only[h,q4u]<;>omega
 ·cases hi with
  | none=>simp[sliceBounds,HT.sIx]
  | some i =>
   simp only[sliceBounds,HT.sIx,Option.getD_none,show (1:Int)>0 by decide,q7e]
   by_cases h:i<0
   ·simp only[h,q7e]<;>omega
   ·simp only[h,q4u]<;>omega
theorem Z7t (its:U5)(lo hi:Option Int):slicePick its.toArray lo hi none=((its.drop (HT.sIx its.length 0 lo)).take (HT.sIx its.length its.length hi-HT.sIx its.length 0 lo)).toArray:=by
 obtain⟨h1,h2,h3⟩:=Z9b lo hi its.toArray.size
 unfold slicePick
 rw[h1,h2,h3]
 simp only[sliceRange_one,pick_run,q0h]<;>rfl
def rSlL (K:U0):V->Option Int->Option Int->Hp->VK->Prop:=λx lo hi H Q=>∃ a xs,x=.ref a/\SqL K H a xs/\∀ p,H p=none->Q (.ref p) (upd H p (.lst (cutV xs lo hi)))
theorem X2m:SlR X (rSlL X.K):=by
 intro pins s σ H x v vl vu lo hi sl Q I rx hs pl pu h
 obtain⟨a,xs,rfl,hx,q⟩:=h
 cases rx
 obtain⟨its,r,ht,hz⟩:=I.list hx
 have hlen:=r.length
 refine⟨"list",_,slot_list_getitem.lookup,ht.isList.typeIs,?_⟩
 refine wpAny_getItem_list_slice ht.isList hs pl pu .none (by simp) ?_ (by rw[q0h]<;>omega)
 rw[Z7t,<-hlen]
 refine⟨.ref s.heap.objs.size,_,I.laid (t':=s.toks) (o:=.lst (cutV xs lo hi)) (λb ob q=>q0c _ q) (q0f _) ?_,Z,q _ (I.hok.fresh (q0f _))⟩
 exact⟨q1m (Z6p xs lo hi) hz,_,0,(r.drop (HT.sIx xs.length 0 lo)).take (HT.sIx xs.length xs.length hi-HT.sIx xs.length 0 lo),q0m _ rfl⟩
noncomputable def flatV:V->Bool
 | .non=>true
 | .bl _=>true
 | .int _=>true
 | .str _=>true
 | _=>false
noncomputable def eqV:V->V->Bool
 | .non,.non=>true
 | .bl a,.bl b=>a == b
 | .bl a,.int b=>(if a then 1 else 0) == b
 | .int a,.bl b=>a == (if b then 1 else 0)
 | .int a,.int b=>a == b
 | .str a,.str b=>a == b
 | _,_=>false
theorem X8a {A:W6}{s:U7}{y x:V}{u v:W2}(ry:RelV y u)(rx:RelV x v)(fy:flatV y=true)(fx:flatV x=true):SeqAt.EqAt A s u v (eqV y x):=by
 cases y with
 | non =>
  cases ry
  cases x with
  | non=>cases rx;exact SeqAt.EqAt.same _
  | bl b=>cases rx;exact SeqAt.EqAt.none_bool b
  | int b=>obtain⟨t,rfl⟩:=rx;exact SeqAt.EqAt.none_int b t
  | str b=>obtain⟨t,rfl⟩:=rx;exact SeqAt.EqAt.none_str b t
  | _=>exact absurd (show false=true from fx) q0p
 | bl a =>
  cases ry
  cases x with
  | non=>cases rx;exact SeqAt.EqAt.bool_none a
  | bl b=>cases rx;exact SeqAt.EqAt.bool_bool a b
  | int b=>obtain⟨t,rfl⟩:=rx;exact SeqAt.EqAt.bool_int a b t
  | str b=>obtain⟨t,rfl⟩:=rx;exact SeqAt.EqAt.bool_str a b t
  | _=>exact absurd (show false=true from fx) q0p
 | int a =>
  obtain⟨t',rfl⟩:=ry
  cases x with
  | non=>cases rx;exact SeqAt.EqAt.int_none a t'
  | bl b=>cases rx;exact SeqAt.EqAt.int_bool a t' b
  | int b=>obtain⟨t,rfl⟩:=rx;exact SeqAt.EqAt.int_int a t' b t
  | str b=>obtain⟨t,rfl⟩:=rx;exact SeqAt.EqAt.int_str a t' b t
  | _=>exact absurd (show false=true from fx) q0p
 | str a =>
  obtain⟨t',rfl⟩:=ry
  cases x with
  | non=>cases rx;exact SeqAt.EqAt.str_none a t'
  | bl b=>cases rx;exact SeqAt.EqAt.str_bool a t' b
  | int b=>obtain⟨t,rfl⟩:=rx;exact SeqAt.EqAt.str_int a t' b t
  | str b=>obtain⟨t,rfl⟩:=rx;exact SeqAt.EqAt.str_str a t' b t
  | _=>exact absurd (show false=true from fx) q0p
 | _=>exact absurd (show false=true from fy) q0p
noncomputable def eqU (x:V)(u:W2):Bool:=match u with
 | .none=>eqV .non x
 | .bool b=>eqV (.bl b) x
 | .int i _=>eqV (.int i) x
 | .str z _=>eqV (.str z) x
 | _=>false
theorem X1p {x y:V}{u:W2}(r:RelV y u)(f:flatV y=true):eqU x u=eqV y x:=by
 cases y with
 | non=>cases r;rfl
 | bl b=>cases r;rfl
 | int i=>obtain⟨t,rfl⟩:=r;rfl
 | str z=>obtain⟨t,rfl⟩:=r;rfl
 | _=>exact absurd (show false=true from f) q0p
theorem Y0t {x:V}:∀ {xs:List V}{us:U5},Vals xs us->xs.all flatV=true->us.any (eqU x)=xs.any λy=>eqV y x
 | _,_,.nil,_=>rfl
 | y::xs,u::us,.cons r t,f=>by
  rw[q7m,q0y] at f
  rw[q5j,q5j,X1p r f.1,Y0t t f.2]
theorem Z8g {A:W6}{s:U7}{x:V}{v:W2}(rx:RelV x v)(fx:flatV x=true):∀ {xs:List V}{us:U5},Vals xs us->xs.all flatV=true->∀ u∈us,SeqAt.EqAt A s u v (eqU x u)
 | _,_,.nil,_=>λu hu=>by cases hu
 | y::xs,u::us,.cons r t,f=>λu' hu=>by
  rw[q7m,q0y] at f
  rcases q0q.mp hu with rfl | hu
  ·rw[X1p r f.1];exact X8a r rx f.1 fx
  ·exact Z8g rx fx t f.2 u' hu
noncomputable def inV (x:V)(xs:List V):Bool:=xs.any λy=>eqV y x
def rIn (K:U0)(neg:Bool):R2:=λx y H Q=>∃ p xs,y=.ref p/\(SqL K H p xs∨SqT K H p xs)/\flatV x=true/\xs.all flatV=true/\Q (.bl (if neg then !inV x xs else inV x xs)) H
theorem Y5b:OpR X (compareOp .In) (rIn X.K false):=by
 intro pins s σ H x y v u Q I rx ry h
 obtain⟨p,xs,rfl,hq,fx,fs,q⟩:=h
 cases ry
 rcases hq with hq | hq
 ·obtain⟨its,r,pl,hz⟩:=I.list hq
  refine SeqAt.in_listAt (eqU x) pl.isList (λw hw=>Z8g rx fx r fs w (by simpa using hw)) ⟨.bl _,H,I,Z,?_⟩
  rw[show its.toArray.any (eqU x)=its.any (eqU x) by simp,Y0t r fs]
  exact q
 ·obtain⟨its,r,pl,hz⟩:=I.tuple hq
  refine SeqAt.in_tupleAt (eqU x) pl (λw hw=>Z8g rx fx r fs w (by simpa using hw)) ⟨.bl _,H,I,Z,?_⟩
  rw[show its.toArray.any (eqU x)=its.any (eqU x) by simp,Y0t r fs]
  exact q
theorem Z0s:CallR X (.builtin "len") (λxs H Q=>∃ p ys,xs=[.ref p]/\(SqL X.K H p ys∨SqT X.K H p ys)/\Q (.int ys.length) H):=by
 intro pins s σ H xs us Q I r h
 obtain⟨p,ys,rfl,hq,q⟩:=h
 obtain⟨u,rfl,rx⟩:=vals1 r
 cases rx
 have hn:=line63
 rcases hq with hq | hq
 ·obtain⟨its,r',pl,hz⟩:=I.list hq
  have hlen:=r'.length
  exact Calls.call_len_list pl.isList (by simp only[q0h]<;>omega) ⟨.int ys.length,H,I.tok _,⟨s.toks+1,by rw[q0h,hlen]⟩,q⟩
 ·obtain⟨its,r',pl,hz⟩:=I.tuple hq
  have hlen:=r'.length
  exact len_tuple pl (by simp only[q0h]<;>omega) ⟨.int ys.length,H,I.tok _,⟨s.toks+1,by rw[q0h,hlen]⟩,q⟩
theorem Z2b:CallR X (.type "list") (λxs H Q=>∃ p ys,xs=[.ref p]/\(SqL X.K H p ys∨SqT X.K H p ys)/\∀ l,H l=none->Q (.ref l) (upd H l (.lst ys))):=by
 intro pins s σ H xs us Q I r h
 obtain⟨p,ys,rfl,hq,q⟩:=h
 obtain⟨u,rfl,rx⟩:=vals1 r
 cases rx
 have fin:∀ (its:U5),Vals ys its->ys.length<=sizeLine->∀ (h':Heap) (c':Nat),(∀ b o',s.heap.get? b=some o'->h'.get? b=some o') →
   h'.get? s.heap.objs.size=some { cls:=.type "list",dict:=none,data:=.seq its.toArray c',slots:=#[] }->EP X pins σ Q (.ref s.heap.objs.size) { s with heap:=h' }:=λits r' hz h' c' kp e =>
  ⟨.ref s.heap.objs.size,_,I.laid (t':=s.toks) kp (q0f _) (show ObjOk X.prog X.w _ h' _ (.lst ys) from ⟨hz,its,c',r',e⟩),Z,q _ (I.hok.fresh (q0f _))⟩
 rcases hq with hq | hq
 ·obtain⟨its,r',pl,hz⟩:=I.list hq
  have hlen:=r'.length
  obtain⟨o,ho,hc,n,hd⟩:=pl.isList
  exact call_list_seq p (.inl rfl) ho hc hd (λh' c' kp e=>fin its r' hz h' c' kp e) (by simp only[q0h]<;>omega)
 ·obtain⟨its,r',pl,hz⟩:=I.tuple hq
  have hlen:=r'.length
  obtain⟨o,ho,hc,n,hd⟩:=pl
  exact call_list_seq p (.inr rfl) ho hc hd (λh' c' kp e=>fin its r' hz h' c' kp e) (by simp only[q0h]<;>omega)
def tyV (K:U0)(T:String)(x:V)(H:Hp):Prop:=match x with
 | .str _=>T="str"
 | .int _=>T="int"
 | .ref p=>(T="list"/\∃ xs,SqL K H p xs)∨(T="tuple"/\∃ o,K.lookup p=some o/\o.cls=.type "tuple"/\o.dict=none) ∨
   (T="dict"/\((∃ kvs,H p=some (.dK kvs))∨∃ kvs,H p=some (.dT kvs)))∨(T="set"/\∃ S n,H p=some (.set S n))
 | _=>False
theorem X0m {pins:U1}{σ:St}{H:Hp}{s:U7}{T:String}{x:V}{v:W2}(I:Inv X pins σ H s)(r:RelV x v)(ty:tyV X.K T x H) :
  s.TypeIs v T/\∀ a,v=.ref a->∃ ob,s.heap.get? a=some ob/\ob.dict=none:=by
 cases x with
 | str z =>
  obtain⟨t,rfl⟩:=r
  cases (show T="str" from ty)
  exact⟨typeIs_str s z t,λ_ e=>nomatch e⟩
 | int i =>
  obtain⟨t,rfl⟩:=r
  cases (show T="int" from ty)
  exact⟨q8x s i t,λ_ e=>nomatch e⟩
 | ref p =>
  cases r
  rcases ty with ⟨rfl,xs,hq⟩ | ⟨rfl,o,hk,hc,hd⟩ | ⟨rfl,hk⟩ | ⟨rfl,S,n,hk⟩
  ·obtain⟨its,_,pl,_⟩:=I.list hq
   refine⟨pl.isList.typeIs,λa e=>?_⟩
   cases e
   obtain⟨o,n,e,c,hd,_⟩:=pl
   exact⟨o,e,hd⟩
  ·refine⟨⟨o,I.kIn p o hk,hc⟩,λa e=>?_⟩
   cases e
   exact⟨o,I.kIn _ o hk,hd⟩
  ·have z:∃ o,s.heap.get? p=some o/\o.ExactDict:=by
    rcases hk with ⟨kvs,hk⟩ | ⟨kvs,hk⟩
    ·obtain⟨_,_,_,_,o,_,_,e,ex,_⟩:=I.hok p _ hk
     exact⟨o,e,ex⟩
    ·obtain⟨_,_,_,_,o,_,_,e,ex,_⟩:=I.hok p _ hk
     exact⟨o,e,ex⟩
   obtain⟨o,e,ex⟩:=z
   refine⟨⟨o,e,ex.1⟩,λa e2=>?_⟩
   cases e2
   exact⟨o,e,ex.2.1⟩
  ·obtain⟨o,_,_,_,e,ex,_⟩:=I.hok p _ hk
   refine⟨⟨o,e,ex.1⟩,λa e2=>?_⟩
   cases e2
   exact⟨o,e,ex.2.1⟩
 | _=>exact False.elim ty
def tBM0 (K:U0)(T:String)(r:V->List V->Hp->VK->Prop)(to:TE):TE:=λσ H Q=>to σ H λx H1=>tyV K T x H1/\r x [] H1 Q
def tBM (K:U0)(T:String)(r:V->List V->Hp->VK->Prop)(to:TE)(t:TA):TE:=λσ H Q=>to σ H λx H1=>tyV K T x H1/\t σ H1 λxs H2=>r x xs H2 Q
variable {o e:Expr}{es:List Expr}{to:TE}{t:TA}{name:Str}{apos cpos:Pos}{T id:String}{r:V->List V->Hp->VK->Prop}
theorem X0v (pa:PlainAttrs T)(slot:Slot T name id)(hty:typeOf (.builtin id)=pure (.type "method_descriptor"))(hm:MtR X id r)(ho:PE X o to)
  (hbase:attributeBase o name X.env (eval o X.env)=eval o X.env:=by rfl) (hline:(apos.endLine == cpos.line)=true:=by rfl):PE X (.Call (.Attribute o name apos) [] [] cpos) (tBM0 X.K T r to):=by
 intro pins s σ H Q I h
 refine wpAny_Call_method0_late hbase hline (thn (ho pins s σ H _ I h) λv s1 ⟨x,H1,I1,r1,ty,q1⟩=>?_)
 obtain⟨h1,h2⟩:=X0m I1 r1 ty
 exact⟨T,id,pa,slot,hty,h1,h2,Calls.callWith_builtin rfl (PySem.evalArgs_none (hm pins s1 σ H1 x [] v [] Q I1 r1 .nil q1))⟩
theorem Y2u (pa:PlainAttrs T)(slot:Slot T name id)(hty:typeOf (.builtin id)=pure (.type "method_descriptor"))(hm:MtR X id r)(ho:PE X o to)(ha:PA X (e::es) t)
  (hbase:attributeBase o name X.env (eval o X.env)=eval o X.env:=by rfl)
  (hfew:((backTo cpos (starEach (e::es) X.env)).all (λx=>!x.1) && (backToKw cpos (keywordEach [] X.env)).all (λx=>x.1.isSome)
   && decide ((e::es).length+([]:List Keyword).length+(if ([]:List Keyword).isEmpty then 0 else 1)<30))=true:=by rfl)
  (hline:(apos.endLine == cpos.line)=true:=by rfl) (hs:starEach (e::es) X.env=(false,eval e X.env)::starEach es X.env:=by rfl) (hplain:(backTo cpos (starEach es X.env)).any (·.1)=false:=by rfl) :
  PE X (.Call (.Attribute o name apos) (e::es) [] cpos) (tBM X.K T r to t):=by
 intro pins s σ H Q I h
 refine wpAny_Call_method_late hbase hfew hline rfl (thn (ho pins s σ H _ I h) λv s1 ⟨x,H1,I1,r1,ty,q1⟩=>?_)
 obtain⟨h1,h2⟩:=X0m I1 r1 ty
 refine⟨T,id,pa,slot,hty,h1,h2,?_⟩
 have hA:=ha cpos pins s1 σ H1 _ I1 q1
 rw[hs] at hA ⊢
 refine Calls.callWith_builtin (by show (false || (backTo cpos (starEach es X.env)).any (·.1))=false;rw[hplain]<;>rfl) (Calls.evalArgs_plain ?_)
 exact thn hA λus s2 ⟨vs,H2,I2,r2,q2⟩=>hm pins s2 σ H2 x vs v us Q I2 r1 r2 q2
end
def MtM (X:Cx)(id:String)(r:V->List V->Hp->VK->Prop):Prop :=
 ∀ (pins:U1) (s:U7) (σ:St) (H:Hp) (x:V) (xs:List V) (v:W2) (us:U5) (Q:VK),Inv X pins σ H s->RelV x v->Vals xs us->r x xs H Q →
  wpAny (model X.prog X.w) X.A (call (.builtin id) (v::us)) (EP X pins σ Q) X.xe s
theorem Vals.one {x:V}{us:U5}(h:Vals [x] us):∃ u,us=[u]/\RelV x u:=by
 cases h with
 | cons r t=>cases t;exact⟨_,rfl,r⟩
theorem Vals.two {x y:V}{us:U5}(h:Vals [x,y] us):∃ u v,us=[u,v]/\RelV x u/\RelV y v:=by
 cases h with
 | cons r t=>cases t with
  | cons q t=>cases t;exact⟨_,_,rfl,r,q⟩
theorem Vals.rep {xs:List V}{us:U5}(h:Vals xs us):∀ k:Nat,Vals (List.replicate k xs).flatten (List.replicate k us).flatten
 | 0=>.nil
 | k+1=>by
  rw[q2o,q2o,q4j,q4j]
  exact Vals.append h (Vals.rep h k)
theorem Z9l (its:U5):∀ (k:Nat) (acc:U5),
  List.foldl (λx1 x2=>x1++x2) acc.toArray (List.replicate k its.toArray)=(acc++(List.replicate k its).flatten).toArray
 | 0,acc=>by simp
 | k+1,acc=>by
  have e:acc.toArray++its.toArray=(acc++its).toArray:=by simp
  have e2:(acc++its)++(List.replicate k its).flatten=acc++(List.replicate (k+1) its).flatten:=by
   rw[q2o,q4j,List.append_assoc]
  rw[<-e2,<-Z9l its k (acc++its),<-e,q2o,List.foldl_cons]
section
variable {X:Cx}{pins:U1}{σ:St}{H:Hp}{s:U7}{l b:W9}{xs ys zs:List V}
theorem Inv.lset {its its':U5}{n:Nat}{f:Array Value->Array Value}{t':Nat}(I:Inv X pins σ H s)(hH:H l=some (.lst xs))
  (e:s.heap.get? l=some { cls:=.type "list",data:=.seq its.toArray n }) (hf:f its.toArray=its'.toArray) (hv:Vals ys its') (hz:ys.length<=sizeLine) :
  Inv X pins σ (upd H l (.lst ys)) { s with heap:=s.heap.update l (Obj.mapSeq f),toks:=t' }:=by
 have q:=PySem.IsL.update e f
 rw[hf] at q
 refine I.write (x:=l) (e:=l) (by rw[hH];exact trivial) (.inl rfl) (λb' u hb hu=>(q1y s.heap (Obj.mapSeq f) (Ne.symm hb)).trans hu) ⟨_,q⟩ ?_
 exact⟨hz,its',_,hv,q⟩
theorem Inv.lnew {its:U5}{t':Nat}(I:Inv X pins σ H s)(hv:Vals ys its)(hz:ys.length<=sizeLine) :
  Inv X pins σ (upd H s.heap.objs.size (.lst ys)) { s with heap:=s.heap.push { cls:=.type "list",data:=.seq its.toArray },toks:=t' } :=
 I.laid (λ_ _ q=>q0c _ q) (q0f _) ⟨hz,its,0,hv,q0m _ rfl⟩
theorem Inv.fresh (I:Inv X pins σ H s):H s.heap.objs.size=none:=I.hok.fresh (q0f _)
theorem Inv.lstM (I:Inv X pins σ H s)(hH:H l=some (.lst xs)):xs.length<=sizeLine/\∃ (its:U5) (n:Nat),Vals xs its/\xs.length=its.length/\s.heap.get? l=some { cls:=.type "list",data:=.seq its.toArray n }:=by
 obtain⟨z,its,n,r,e⟩:=I.hok l _ hH
 exact⟨z,its,n,r,r.length,e⟩
theorem Y1w {n:Nat}(h:n<=sizeLine):Builtin.List.listTooLong n=false:=by
 unfold Builtin.List.listTooLong
 exact q0j (by omega)
end
section
variable {X:Cx}
def X2t:V->List V->Hp->VK->Prop:=λx vs H Q=>∃ l xs y,x=.ref l/\vs=[y]/\H l=some (.lst xs)/\xs.length<sizeLine/\Q .non (upd H l (.lst (xs++[y])))
theorem Z2j:MtM X "list.append" X2t:=by
 intro pins s σ H x vs v us Q I rx rv h
 obtain⟨l,xs,y,rfl,rfl,hH,hz,q⟩:=h
 cases rx
 obtain⟨u,rfl,ru⟩:=rv.one
 obtain⟨z,its,n,r,hl,e⟩:=I.lstM hH
 refine q8y F.slot_list_append ⟨_,e,Z⟩ F.entry_list_append (F.args_list_append_2 _ _) (PySem.list_append l its.toArray n u (by rw[q0h];omega)) ⟨e,?_⟩
 refine⟨.non,_,I.lset (its':=its++[u]) hH e (by simp) (r.append (.cons ru .nil)) ?_,Z,q⟩
 rw[q0x,q8i]
 omega
def X2s:V->List V->Hp->VK->Prop:=λx vs H Q=>∃ l b xs zs,x=.ref l/\vs=[.ref b]/\H l=some (.lst xs)/\H b=some (.lst zs)/\xs.length+zs.length<=sizeLine/\Q .non (upd H l (.lst (xs++zs)))
theorem X7c:MtM X "list.extend" X2s:=by
 intro pins s σ H x vs v us Q I rx rv h
 obtain⟨l,b,xs,zs,rfl,rfl,hH,hB,hz,q⟩:=h
 cases rx
 obtain⟨u,rfl,ru⟩:=rv.one
 cases ru
 obtain⟨z,its,n,r,hl,e⟩:=I.lstM hH
 obtain⟨z2,its2,n2,r2,hl2,e2⟩:=I.lstM hB
 have hsz:its.toArray.size+its2.toArray.size<=sizeLine:=by rw[q0h,q0h];omega
 have hlong:¬ (!its.toArray.isEmpty && Builtin.List.listTooLong (its.toArray.size+its2.toArray.size))=true:=by
  rw[Y1w hsz,Bool.and_false]
  exact q0p
 refine q8y F.slot_list_extend ⟨_,e,Z⟩ F.entry_list_extend (F.args_list_extend_2 _ _)
  (AutoSeq1.list_extend_list_list_0 l its.toArray n b its2.toArray n2 hlong (by rw[q0h];omega) (by omega)) ⟨e,e2,?_⟩
 refine⟨.non,_,I.lset (its':=its++its2) hH e (by simp) (r.append r2) ?_,Z,q⟩
 rw[q0x]
 omega
def rCat:R2:=λx y H Q=>∃ l b xs zs,x=.ref l/\y=.ref b/\H l=some (.lst xs)/\H b=some (.lst zs)/\xs.length+zs.length<=sizeLine/\∀ p,H p=none->Q (.ref p) (upd H p (.lst (xs++zs)))
theorem X6r:OpR X (binaryOp .Add) rCat:=by
 intro pins s σ H x y v u Q I rx ry h
 obtain⟨l,b,xs,zs,rfl,rfl,hH,hB,hz,q⟩:=h
 cases rx
 cases ry
 obtain⟨z,its,n,r,hl,e⟩:=I.lstM hH
 obtain⟨z2,its2,n2,r2,hl2,e2⟩:=I.lstM hB
 refine PySem.P.add_list e e2 ?_ (by rw[q0h,q0h];omega)
 have ea:its.toArray++its2.toArray=(its++its2).toArray:=by simp
 rw[ea]
 exact⟨.ref _,_,I.lnew (t':=s.toks) (r.append r2) (by rw[q0x];omega),Z,q _ I.fresh⟩
def rRep:R2:=λx y H Q=>∃ l k xs,x=.ref l/\y=.int k/\H l=some (.lst xs)/\-(2^63)<=k/\k<2^63/\xs.length*k.toNat<=sizeLine ∧
 ∀ p,H p=none->Q (.ref p) (upd H p (.lst (List.replicate k.toNat xs).flatten))
theorem X4m {α:Type}(xs:List α)(k:Nat):(List.replicate k xs).flatten.length=k*xs.length:=by
 induction k with
 | zero=>simp
 | succ k ih=>rw[q2o,q4j,q0x,ih,Nat.succ_mul,q8g]
theorem X6o:OpR X (binaryOp .Mult) rRep:=by
 intro pins s σ H x y v u Q I rx ry h
 obtain⟨l,k,xs,rfl,rfl,hH,h1,h2,hz,q⟩:=h
 cases rx
 obtain⟨t,rfl⟩:=ry
 obtain⟨z,its,n,r,hl,e⟩:=I.lstM hH
 have hlen:its.toArray.size*k.toNat<=sizeLine:=by rw[q0h,<-hl];exact hz
 have hcap:¬ its.toArray.size*k.toNat>(2^63-1) / 8:=by
  have:(sizeLine:Nat)<=(2^63-1) / 8:=by decide
  omega
 have hfit:¬ (!Builtin.List.listFitsIndex k)=true:=by
  rw[fitsIndex_both h1 h2]
  exact q0p
 have hlong:¬ Builtin.List.listTooLong (its.toArray.size*k.toNat)=true:=by
  rw[Y1w hlen]
  exact q0p
 have hnew:List.foldl (λx1 x2=>x1++x2) #[] (List.replicate (if its.toArray.isEmpty=true then 0 else k.toNat) its.toArray)=(List.replicate k.toNat its).flatten.toArray:=by
  have f0:∀ m:Nat,List.foldl (λx1 x2=>x1++x2) #[] (List.replicate m its.toArray)=(List.replicate m its).flatten.toArray:=λm=>by
   have:=Z9l its m []
   rw[List.nil_append] at this
   exact this
  rw[f0]
  cases its with
  | nil=>simp
  | cons a r'=>rw[if_neg (by simp)]
 refine wpAny_binaryOp_repeat_ref (T:="list") (U:="int") (by decide) ⟨_,e,Z⟩ (λs'=>q8x s' k t) noFill_list_mul F.fills_int_mul F.slot_int_rmul repeat_list F.slot_int_index.lookup
  (q8y F.slot_int_rmul (q8x s k t) F.entry_int_rmul (F.args_int_rmul_2 _ _) (int___rmul___int_list k t l its.toArray n)
   ⟨e,Z,⟨_,e,Z⟩,q8y F.slot_list_mul ⟨_,e,Z⟩ F.entry_list_mul (F.args_list_mul_2 _ _) (AutoListH.list___mul___list_int_3 l its.toArray n k t hfit hcap hlong) ⟨e,?_⟩⟩)
 rw[hnew]
 exact⟨.ref _,_,I.lnew (t':=s.toks) (r.rep k.toNat) (by rw[X4m,Nat.mul_comm];exact hz),Z,q _ I.fresh⟩
end
section
variable {prog:U8}{w:W1}{A:W6}{E:U2}{s:U7}
end
section
variable {X:Cx}
end
end L2
namespace Att
open PySem.W PySem.Calls
theorem Z6l {P:Params}{h:Heap}:∀ (ns:U6) (vs:U5),WellAll P h vs (ns.map WData.int)->IntsAre vs ns:=by
 intro ns
 induction ns with
 | nil =>
  intro vs w
  rw[q8h] at w
  cases w
  exact .nil
 | cons n ns ih =>
  intro vs w
  rw[q1k] at w
  cases w with
  | cons a b =>
   cases a
   exact .cons _ _ (ih _ b)
theorem Y4j {l:OpenLaw}{n:Nat}(hn:l.most=some n){P:Params}{h:Heap}{args:List WData}{vals:U5}
  (hpre:l.row.toRowW.claim.pre args=true) (hwl:WellAll P h vals args) :
  ∃ a vs ns,vals=[Value.ref a]/\args=[WData.list (ns.map WData.int)]/\h.get? a=some { cls:=.type "list",data:=.seq vs.toArray }/\IntsAre vs ns/\ns.length<=n:=by
 have hsh:WShape.hasAll [] args [.list .int]=true:=(pre_splitW hpre).1
 have hc:l.pre.holds [] { args:=args }=true:=(pre_splitW hpre).2
 obtain⟨d,r,rfl,h1,h2⟩:=hasAllW_cons hsh
 obtain rfl:=hasAllW_nil h2
 obtain⟨xs,rfl,h3⟩:=hasW_list h1
 obtain⟨ns,rfl⟩:=items_int h3
 have hlen:ns.length<=n:=by
  unfold OpenLaw.pre at hc
  have h4:(WTm.not (.lt (.lit (.int (n:Int))) (.len (.arg 0)))).holds [] { args:=[.list (ns.map .int)] }=true:=by
   have h4:=(holds_andW hc).1
   rw[hn] at h4
   exact h4
  have h5:=condW_of h4 (w_not (w_lt w_lit (w_len_list (w_arg rfl))))
  rw[q0a] at h5
  refine q7o λq=>?_
  have q':(n:Int)<((ns.length:Nat):Int):=by omega
  first
   | (rw[q0t q'] at h5;exact absurd h5 (by decide))
   | (simp at h5;omega)
 cases hwl with
 | cons w1 w2 =>
  cases w2
  cases w1 with
  | list ho hall=>exact⟨_,_,ns,rfl,rfl,ho,Z6l ns _ hall,hlen⟩
theorem Y4p (l:OpenLaw)(args:List WData):l.row.toRowW.claim.post args (.bool true) args=true :=
 postW_of (r:=l.row.toRowW) (X:=(true == true))
  (show WShape.has [] (.bool true) .bool=true by first | rfl | decide | simp[WShape.has,WShape.arms,WShape.armsAll])
  (show (WTm.eq .res (.lit (.bool true))).value [] { args:=args,res:=some (.bool true),after:=args }=some (.bool (true == true)) from w_eq_bool (w_res rfl) w_lit) rfl
section
variable {prog:U8}{w:W1}{A:W6}{E:U2}{s:U7}{K:Frag}
end
end Att
namespace L2
theorem Z8p:∀ {vs:U5}{ns:U6},IntsAre vs ns->Vals (ns.map V.int) vs
 | _,_,.nil=>.nil
 | _,_,.cons n t h=>.cons ⟨t,rfl⟩ (Z8p h)
def Only (H:Hp):Prop:=∀ b,H b=none∨∃ o xs,H b=some (.frz o (.lst xs))
theorem Y9g {P:U8}{w:W1}{K:U0}{mg mb:U4}{CX:CXT}{k:Nat}{fa a:W9}{fd:FuncData}{x:Str}{sp:Sp}{s₁:U7}{vs:U5}{ns:U6}
  (KX:K.In s₁.heap) (hns:s₁.heap.Ns mainGlobals mg) (hb:s₁.heap.Ns builtinsNs mb) (hbb:∀ x:Str,x≠"__name__"->mb x=bootBuiltins x) (hlim:s₁.heap.NoLimit) (hg:s₁.gens=#[])
  (ha:s₁.heap.get? a=some { cls:=.type "list",data:=.seq vs.toArray }) (hi:IntsAre vs ns) (hl:ns.length<=sizeLine) (hr:Room k callerA)
  (F:∀ base:Heap,K.In base->base.Ns mainGlobals mg->FnOk P w K mg base CX k fa fd [x] sp) (hbind:∀ (s:U7) (u:W2),BindsTo s fd ⟨[u],[]⟩ [(x,u)])
  (hsp:∀ H:Hp,Only H->SqL K H a (ns.map V.int)->sp [.ref a] H (λv _=>v=.bl true) λ_ _ _=>False)
  (hCX:∀ H e s',CX [] H s₁ (λ_ _ _=>False) e s'->False) :
  codeAny (model P w) callerA (.call (.ref fa) ⟨[.ref a],[]⟩) (λr s'=>r=.ok (.ret (.bool true))/\OldK s₁.heap s'.heap/\s'.os=s₁.os/\AllBare s'.gens) s₁:=by
 have rv:=Z8p hi
 have lenV:=hi.length
 have core:∀ H:Hp,Only H->SqL K H a (ns.map V.int)->HOk P w H s₁.heap->(∀ b,H b≠none->b=a)->(H a≠none->K.lookup a=none) →
   codeAny (model P w) callerA (.call (.ref fa) ⟨[.ref a],[]⟩) (λr s'=>r=.ok (.ret (.bool true))/\OldK s₁.heap s'.heap/\s'.os=s₁.os/\AllBare s'.gens) s₁:=by
  intro H hO hS hok hA hK
  have base_of:∀ {b:W9}{o:Obj},s₁.heap.get? b=some o->H b=none->(hidT s₁.heap H).get? b=some o:=λe n=>Y9k e n
  have noA:∀ {b:W9}{o:Obj}{es:Array DictEntry}{ep:Nat},s₁.heap.get? b=some o->o.data=.dict es ep->H b=none:=λ{b o es ep} e d=>by
   cases q:H b with
   | none=>rfl
   | some u =>
    have e':b=a:=hA b (by rw[q];simp)
    subst e'
    rw[ha] at e;cases e
    have d':Data.seq vs.toArray _=Data.dict es ep:=d
    cases d'
  have nsK:∀ {b:W9}{m:U4},s₁.heap.Ns b m->(hidT s₁.heap H).Ns b m:=λ{b m} ⟨o,es,ep,e,d,r⟩=>⟨o,es,ep,base_of e (noA e d),d,r⟩
  have hKb:K.In (hidT s₁.heap H):=λb o e=>base_of (KX b o e) (by
   cases q:H b with
   | none=>rfl
   | some u =>
    have e':b=a:=hA b (by rw[q];simp)
    subst e'
    rw[hK (by rw[q];simp)] at e;cases e)
  have hM:Mod K mg (hidT s₁.heap H):=⟨hKb,nsK hns,⟨mb,nsK hb,hbb⟩,let ⟨mc,h1,h2⟩:=hlim;⟨mc,nsK h1,h2⟩⟩
  have e0:Env0 P w K mg (hidT s₁.heap H) callerA [] s₁ H:=⟨Z,hM,λb o e=>X4b e,Nat.le_of_eq (Y6e _ _),trivial,λb hb=>absurd (show b∈([]:U3) from hb) (by simp),hok,.of_eq hg⟩
  refine q3n ((F _ hKb (nsK hns)).run callerA [] s₁ H ⟨[.ref a],[]⟩ [.ref a] [.ref a] _ _ hr e0 (hbind s₁ (.ref a)) (.cons rfl .nil) (hsp H hO hS)) λr s' h=>?_
  cases r with
  | error e=>exact(hCX H e s' h).elim
  | ok fl =>
   cases fl with
   | next=>exact False.elim h
   | brk=>exact False.elim h
   | cont=>exact False.elim h
   | ret u =>
    obtain⟨v,H',os,bare,un,hok',r',q⟩:=h
    have q':v=.bl true:=q
    subst q'
    obtain rfl:u=Value.bool true:=r'
    refine⟨Z,OldK.of_keep λb o e=>?_,os,bare⟩
    cases q:H b with
    | none=>exact un.keep b o e q (by intro z;exact absurd (show b∈([]:U3) from z) (by simp)) (by simp)
    | some u =>
     rcases hO b with z | ⟨ob,xs,z⟩
     ·rw[q] at z;cases z
     ·have z2:=un.frzs b ob _ z
      obtain⟨e1,_⟩:=hok b _ z
      obtain⟨e2,_⟩:=hok' b _ z2
      rw[e] at e1;cases e1
      exact e2
 cases hk:K.lookup a with
 | some o =>
  have e:=KX a o hk
  rw[ha] at e
  cases e
  refine core (λ_=>none) (λ_=>.inl rfl) (.inr ⟨_,vs.toArray,_,hk,Z,Z,Z,by rw[q0h,lenV];exact hl,by simpa using rv⟩) (λb u z=>by have z':(none:Option HO)=some u:=z;cases z') (λb z=>absurd rfl z) λz=>absurd rfl z
 | none =>
  refine core (λb=>if b=a then some (.frz { cls:=.type "list",data:=.seq vs.toArray } (.lst (ns.map V.int))) else none) (λb=>?_) (.inl (.inr ⟨{ cls:=.type "list",data:=.seq vs.toArray },if_pos rfl⟩)) (λb u z=>?_) (λb z=>?_) λ_=>hk
  ·by_cases hb:b=a
   ·exact .inr ⟨_,_,if_pos hb⟩
   ·exact .inl (if_neg hb)
  ·by_cases hb:b=a
   ·have z':=(if_pos hb).symm.trans z
    cases z'
    subst hb
    exact⟨ha,by rw[q0a];exact hl,vs,_,rv,ha⟩
   ·have z':=(if_neg hb).symm.trans z
    cases z'
  ·by_cases hb:b=a
   ·exact hb
   ·exact absurd (if_neg hb) z
end L2
namespace L2
noncomputable def Z2h (s:Stmt)(j:Nat):Stmt:=match s with
 | .ClassDef _ _ _ body _ _ _ _ _ _ _=>body.getD j (.Pass ⟨0,0,0,0⟩)
 | _=>.Pass ⟨0,0,0,0⟩
noncomputable def Z1d (s:Stmt):Arguments:=match s with
 | .FunctionDef _ a _ _ _ _ _ _ _ _=>a
 | _=>{ posonlyargs:=[],args:=[],vararg:=none,kwonlyargs:=[],kw_defaults:=[],kwarg:=none,defaults:=[] }
noncomputable def Z0z (s:Stmt):List Stmt:=match s with
 | .FunctionDef _ _ b _ _ _ _ _ _ _=>b
 | _=>[]
noncomputable def Z0h (s:Stmt):Scope:=match s with
 | .FunctionDef _ _ _ _ _ _ sc _ _ _=>sc
 | _=>{ kind:=.function,names:=[],isGenerator:=false,isCoroutine:=false }
noncomputable abbrev CX0:CXT:=λ_ _ _ _ _ _=>False
abbrev E0:XK:=λ_ _ _=>False
theorem pass0 {X:Cx}:Passes CX0 X E0:=λ_ _ _ _ _ _ _ h=>h.elim
structure Fun (K:U0) (x qual:Str) (st:Stmt) (f:W9) (fd:FuncData):Prop where
 ex:∃ (oc:W2) (od:W5) (kV doc pm:W2) (an:W5) (cdv ct:W2) (osl:W4),
  fd=PySem.W.fnOf x qual (Z1d st) (Z0z st) (Z0h st) .none kV doc pm an cdv ct/\K.lookup f=some ⟨oc,od,.func fd,osl⟩/\PySem.W.codeIn K cdv qual=true
 kp:PySem.W.keepIn K (.ref f)=true
section
variable {P:U8}{w:W1}{K:U0}{mg:U4}{base:Heap}
theorem Fun.ok {x qual:Str}{st:Stmt}{f:W9}{fd:FuncData}{N ps:W0}{k:Nat}{sp:Sp}(F:Fun K x qual st f fd)(S:FnScope N ps (Z0h st))(len:∀ vs H Q E,sp vs H Q E->vs.length=ps.length)
  (hbody:∀ (cdv:W2) (A:W6) (outer:List Env) (s:U7) (H:Hp) (vs:List V) (Q:VK) (E:XK),Room k (A.deeper (envOfC qual (Z0h st) s.heap.objs.size f cdv))->sp vs H Q E →
   ∃ t,PSs (cxOf CX0 P w K mg base N qual (Z0h st) f cdv A outer s H E).nox (Z0z st) t/\t { nx:=λ_ H'=>Q .non H',rt:=Q } (start N vs) H):FnOk P w K mg base CX0 (k+1) f fd ps sp:=by
 obtain⟨oc,od,kV,doc,pm,an,cdv,ct,osl,rfl,lk,hcd⟩:=F.ex
 refine Y9m lk hcd S len λA outer s H vs Q E hr hsp=>?_
 obtain⟨t,h,q⟩:=hbody cdv A outer s H vs Q E hr hsp
 exact⟨t,h.nox,q⟩
theorem X7y {x qual:Str}{st:Stmt}{f:W9}{oc:W2}{od an:W5}{osl:W4}{kV doc pm cdv ct:W2}(l:K.lookup f=some ⟨oc,od,.func (PySem.W.fnOf x qual (Z1d st) (Z0z st) (Z0h st) .none kV doc pm an cdv ct),osl⟩)
  (c:PySem.W.codeIn K cdv qual=true) (k:PySem.W.keepIn K (.ref f)=true):Fun K x qual st f (PySem.W.fnOf x qual (Z1d st) (Z0z st) (Z0h st) .none kV doc pm an cdv ct):=⟨⟨oc,od,kV,doc,pm,an,cdv,ct,osl,Z,l,c⟩,k⟩
end
theorem Y9j {A:W6}{k:Nat}(hr:Room k A):A.units+1<cLine:=q3h (Nat.add_le_add_left (by decide:1<=64) _) hr.units
section
variable {X:Cx}
theorem pv (i:Nat){x:Str}{pos:Pos}(hN:X.N[i]?=some x:=by rfl)(hv:Vis X.env.scope x:=by first | exact Or.inl rfl | exact Or.inr (Or.inl rfl) | exact Or.inr (Or.inr rfl))(hd:(x == ("__debug__":Str))=false:=by decide)
  (hcd:(x == ("__classdict__":Str))=false:=by decide):PE X (.Name x pos) (tVar i):=X6k hN hv hd hcd
end
theorem iteF {A B:Prop}(h:B):if false=true then A else B:=by
 rw[if_neg q0p]
 exact h
theorem iteT {A B:Prop}(h:A):if true=true then A else B:=by
 rw[if_pos rfl]
 exact h
def Same (H H':Hp):Prop:=∀ b o,H b=some o->H' b=some o
theorem Same.refl (H:Hp):Same H H:=λ_ _ h=>h
theorem Same.trans {H H1 H2:Hp}(a:Same H H1)(b:Same H1 H2):Same H H2:=λc o h=>b c o (a c o h)
theorem Same.free {H H':Hp}(e:Same H H'){l:W9}(h:H' l=Option.none):H l=Option.none:=by
 cases q:H l with
 | none=>rfl
 | some o =>
  rw[e l o q] at h
  cases h
theorem Same.seq {K:U0}{H H':Hp}{a:W9}{xs:List V}(e:Same H H')(h:SqL K H a xs):SqL K H' a xs:=by
 rcases h with (h | ⟨o,h⟩) | h
 ·exact .inl (.inl (e _ _ h))
 ·exact .inl (.inr ⟨o,e _ _ h⟩)
 ·exact .inr h
end L2
set_option maxHeartbeats 4000000
namespace L2
def Sz (k:Nat)(x:Int):Prop:=x.natAbs<2^k
instance (k:Nat) (x:Int):Decidable (Sz k x):=by unfold Sz;infer_instance
theorem Sz.mono {j k:Nat}{x:Int}(h:Sz j x)(hjk:j<=k):Sz k x:=q0s h (q1x (by decide) hjk)
theorem Sz.le {k:Nat}{x y:Int}(h:Sz k x)(hy:y.natAbs<=x.natAbs):Sz k y:=q3h hy h
theorem Sz.mul {j k:Nat}{x y:Int}(h:Sz j x)(h':Sz k y):Sz (j+k) (x*y):=by
 unfold Sz at *
 rw[Int.natAbs_mul,Nat.pow_add]
 exact Nat.mul_lt_mul'' h h'
theorem Sz.neg {k:Nat}{x:Int}(h:Sz k x):Sz k (-x):=by unfold Sz at *;rwa [Int.natAbs_neg]
theorem Sz.add {j k:Nat}{x y:Int}(h:Sz j x)(h':Sz k y):Sz (max j k+1) (x+y):=by
 have h1:=h.mono (Nat.le_max_left j k)
 have h2:=h'.mono (Nat.le_max_right j k)
 unfold Sz at *
 rw[q8e]
 have:=Int.natAbs_add_le x y
 omega
theorem Sz.sub {j k:Nat}{x y:Int}(h:Sz j x)(h':Sz k y):Sz (max j k+1) (x-y):=by
 have:=h.add h'.neg
 rwa [<-q6r] at this
theorem Sz.bits {k:Nat}{x:Int}(h:Sz k x):Builtin.Int.intBits x<=k:=by
 unfold Builtin.Int.intBits
 split
 ·exact q1d _
 ·rename_i hx
  have hx':x≠0:=by simpa using hx
  have hn:x.natAbs≠0:=by omega
  exact(Nat.log2_lt hn).mpr h
theorem Sz.log2 {k:Nat}{x:Int}(h:Sz k x)(hk:0<k):x.natAbs.log2<k:=by
 by_cases hn:x.natAbs=0
 ·rw[hn];simpa using hk
 ·exact(Nat.log2_lt hn).mpr h
def CDivS (_i j:Int):Prop:=j≠0/\Sz 9000 j
section
variable {X:Cx}
theorem Y1u:OpR X (binaryOp .FloorDiv) (rI CDivS λi j=>.int (i.fdiv j)):=opI λ_ _ _ _ _ _ _ hc q=>floordiv_int hc.1 q (.inl (PyProof.noPylong_of_log2 (hc.2.log2 (by decide))))
theorem Z3w {h:Heap}{a:W9}{vs:U5}{ns:U6}(hl:IsTup h a vs.toArray)(hi:IntsAre vs ns):Reads h (.ref a) (.tuple (ns.map PyData.int)) []:=by
 obtain⟨o,ho,hc,n,hd⟩:=hl
 exact Reads.tuple ho hc hd (by simpa using q6z hi)
theorem Z3c (ns:U6):SeqAt.shaped (.tuple (ns.map PyData.int))=true:=by
 have h1:=q8d ns
 have h2:PyData.depth (.tuple (ns.map PyData.int))<=64:=by simp only[PyData.depth];omega
 show (PyData.canLay0 (.tuple (ns.map PyData.int)) && decide (PyData.depth (.tuple (ns.map PyData.int))<=64))=true
 rw[q0y]
 exact⟨by simp only[PyData.canLay0];exact q7g ns,q0t h2⟩
def rEqTI (K:U0)(neg:Bool):R2:=λx y H Q=>∃ (a b:W9) (ns ms:U6),x=.ref a/\y=.ref b/\SqT K H a (ns.map V.int)/\SqT K H b (ms.map V.int)/\Q (.bl (if neg then !decide (ns=ms) else decide (ns=ms))) H
theorem Y0h (hu:X.A.units+64<cLine):OpR X (compareOp .Eq) (rEqTI X.K false):=by
 intro pins s σ H x y v u Q I rx ry h
 obtain⟨a,b,ns,ms,rfl,rfl,h1,h2,q⟩:=h
 cases rx;cases ry
 obtain⟨its,rv,p,_⟩:=I.tuple h1
 obtain⟨its',rv',p',_⟩:=I.tuple h2
 refine eq_dataH_same (Z3w p (Z2a rv)) (Z3w p' (Z2a rv')) (Z3c ns) (Z3c ms) hu (by simp only[SeqAt.noMix];exact q6n ns ms) ?_
 refine⟨.bl (decide (ns=ms)),H,I,?_,q⟩
 show _=_
 simp only[PySem.Spec.same]
 rw[q6y]
theorem Y5a (hu:X.A.units+64<cLine):OpR X (compareOp .NotEq) (rEqTI X.K true):=by
 intro pins s σ H x y v u Q I rx ry h
 obtain⟨a,b,ns,ms,rfl,rfl,h1,h2,q⟩:=h
 cases rx;cases ry
 obtain⟨its,rv,p,_⟩:=I.tuple h1
 obtain⟨its',rv',p',_⟩:=I.tuple h2
 refine ne_dataH_same (Z3w p (Z2a rv)) (Z3w p' (Z2a rv')) (Z3c ns) (Z3c ms) hu (by simp only[SeqAt.noMix];exact q6n ns ms) ?_
 refine⟨.bl (!decide (ns=ms)),H,I,?_,q⟩
 show _=_
 simp only[PySem.Spec.same]
 rw[q6y]
theorem Z1k:CallR X (.builtin "isinstance") (λxs H Q=>∃ x T t b,xs=[x,.ty T]/\TyOf X.K H x t/\PySem.W.kitOne X.K t (.type T)=some b/\Q (.bl b) H):=by
 intro pins s σ H xs us Q I r h
 obtain⟨x,T,t,b,rfl,ty,e,q⟩:=h
 obtain⟨u,v,rfl,ru,rv⟩:=r.two
 cases rv
 exact Y6d I ru ty e λtk=>⟨.bl b,H,I.tok tk,Z,q⟩
end
section
variable {prog:U8}{w:W1}{A:W6}{E:U2}
end
section
variable {X:Cx}{pos:Pos}
end
section
variable {X:Cx}{tg:Expr}
end
end L2
namespace L2
theorem Z7g {α β:Type}{f:α->β->Sem (ForInStep β)}{g:β->α->β}:∀ (l:List α) (b:β),(∀ x∈l,∀ b,f x b=pure (.yield (g b x)))->forIn l b f=pure (l.foldl g b)
 | [],b,_=>rfl
 | x::r,b,h=>by
  rw[List.forIn_cons,h x q3z b,pure_bind]
  exact Z7g r (g b x) λy hy=>h y (q2v _ hy)
noncomputable def cloF (cells:List (Str × Addr))(cs:List (Str × Addr))(x:Str × NameKind):List (Str × Addr):=if x.2 == .free then (x.1,(cells.lookup x.1).getD 0)::cs else cs
noncomputable def clo (names:List (Str × NameKind))(cells:List (Str × Addr)):List (Str × Addr):=names.foldl (cloF cells) []
theorem Z5h {scope:Scope}{env:Env}(h:∀ x∈scope.names,x.2=.free->∃ c,env.cells.lookup x.1=some c):closureFor scope env=pure (clo scope.names env.cells):=by
 simp only[closureFor]
 unfold clo
 rw[Z7g (g:=cloF env.cells) scope.names [] (λx hx b=>by
  obtain⟨n,k⟩:=x
  unfold cloF
  by_cases hk:k=.free
  ·subst hk
   obtain⟨c,hc⟩:=h (n,.free) hx rfl
   have hc':env.cells.lookup n=some c:=hc
   simp[cellOf,hc']
  ·have hb:(k == NameKind.free)=false:=by simpa using hk
   simp[hb])]
 rfl
theorem Z4d {x n:Str}{c:W9}{l:List (Str × Addr)}:List.lookup x ((n,c)::l)=if x=n then some c else List.lookup x l:=by
 by_cases h:x=n
 ·subst h
  rw[if_pos rfl,List.lookup_cons_self]
 ·rw[if_neg h,q4v]
  have:(x == n)=false:=by simpa using h
  rw[this]
theorem Y6w {cells:List (Str × Addr)}:∀ (names:List (Str × NameKind)) (cs:List (Str × Addr)),(∀ x∈names,x.2=.free->∃ c,cells.lookup x.1=some c)->(∀ x c,cs.lookup x=some c->cells.lookup x=some c) →
  ∀ x c,(names.foldl (cloF cells) cs).lookup x=some c->cells.lookup x=some c
 | [],cs,_,h0=>h0
 | (n,k)::r,cs,h,h0=>by
  refine Y6w r _ (λy hy=>h y (q2v _ hy)) λx c e=>?_
  unfold cloF at e
  by_cases hk:k=.free
  ·subst hk
   obtain⟨c',hc'⟩:=h (n,.free) q3z rfl
   simp only[q5u,q7e] at e
   rw[Z4d] at e
   have hc':cells.lookup n=some c':=hc'
   by_cases hx:x=n
   ·subst hx
    rw[if_pos rfl,hc'] at e
    rw[hc']
    exact e
   ·rw[if_neg hx] at e
    exact h0 x c e
  ·have hb:(k == NameKind.free)=false:=by simpa using hk
   simp only[hb,q2s,q4u] at e
   exact h0 x c e
theorem Z8l {cells:List (Str × Addr)}:∀ (names:List (Str × NameKind)) (cs:List (Str × Addr)) (x:Str),((x,NameKind.free)∈names∨∃ c,cs.lookup x=some c)->∃ c,(names.foldl (cloF cells) cs).lookup x=some c
 | [],cs,x,h=>by
  rcases h with h | h
  ·cases h
  ·exact h
 | (n,k)::r,cs,x,h=>by
  refine Z8l r _ x ?_
  unfold cloF
  by_cases hk:k=.free
  ·subst hk
   simp only[q5u,q7e]
   rw[Z4d]
   by_cases hx:x=n
   ·exact .inr ⟨_,if_pos hx⟩
   ·rw[if_neg hx]
    rcases h with h | h
    ·rcases q0q.mp h with h | h
     ·exact absurd (congrArg Prod.fst h) hx
     ·exact .inl h
    ·exact .inr h
  ·have hb:(k == NameKind.free)=false:=by simpa using hk
   simp only[hb,q2s,q4u]
   rcases h with h | h
   ·rcases q0q.mp h with h | h
    ·exact absurd (congrArg Prod.snd h).symm hk
    ·exact .inl h
   ·exact .inr h
structure LcOk (N:W0) (osc sc:Scope) (Nc:W0) (mp:W7):Prop where
 kind:sc.kind=.function
 nocell:∀ y∈sc.names,y.2≠.cell
 names:∀ y∈sc.names,y.2=.local->sc.names.lookup y.1=some .local
 free:∀ y∈sc.names,y.2=.free->osc.names.lookup y.1=some .cell∨osc.names.lookup y.1=some .free
 len:mp.length=Nc.length
 map:∀ (i j:Nat),mp[i]?=some (some j)->∃ x,Nc[i]?=some x/\N[j]?=some x/\sc.names.lookup x=some .free
noncomputable def lcChk (N:W0)(osc sc:Scope)(Nc:W0)(mp:W7):Bool :=
 decide (sc.kind=.function) && sc.names.all (λy=>!decide (y.2=.cell) && (!decide (y.2=.local) || decide (sc.names.lookup y.1=some .local)) &&
  (!decide (y.2=.free) || decide (osc.names.lookup y.1=some .cell) || decide (osc.names.lookup y.1=some .free))) &&
 decide (mp.length=Nc.length) && (List.range mp.length).all λi=>match mp[i]? with
  | some (some j)=>match Nc[i]? with
   | some x=>decide (N[j]?=some x) && decide (sc.names.lookup x=some .free)
   | none=>false
  | _=>true
theorem LcOk.of {N:W0}{osc sc:Scope}{Nc:W0}{mp:W7}(h:lcChk N osc sc Nc mp=true):LcOk N osc sc Nc mp:=by
 unfold lcChk at h
 simp only[q0y,q1n,q2l,q3m,Bool.not_eq_true',decide_eq_false_iff_not] at h
 obtain⟨⟨⟨h1,h2⟩,h3⟩,h4⟩:=h
 refine⟨h1,λy hy=>(h2 y hy).1.1,λy hy e=>?_,λy hy e=>?_,h3,λi j e=>?_⟩
 ·rcases (h2 y hy).1.2 with q | q
  ·exact absurd e q
  ·exact q
 ·rcases (h2 y hy).2 with (q | q) | q
  ·exact absurd e q
  ·exact .inl q
  ·exact .inr q
 ·have hi:i<mp.length:=(q0o.mp e).1
  have q:=h4 i (q1q.mpr hi)
  rw[e] at q
  cases hx:Nc[i]? with
  | none=>rw[hx] at q;simp at q
  | some x =>
   rw[hx] at q
   simp only[q0y,q1n] at q
   exact⟨x,Z,q.1,q.2⟩
theorem Z3q {f:Str × NameKind->Str × NameKind}(h1:∀ p,(f p).1=p.1)(h2:∀ p,p.2=.free->(f p).2=.cell∨(f p).2=.free):∀ {names:List (Str × NameKind)}{x:Str},names.lookup x=some .free->(names.map f).lookup x=some .cell∨(names.map f).lookup x=some .free
 | [],_,h=>by simp at h
 | (n,k)::r,x,h=>by
  have ih:=@Z3q f h1 h2 r x
  rw[q1k]
  have q1:=h1 (n,k)
  have q2:=h2 (n,k)
  generalize f (n,k)=z at q1 q2
  obtain⟨n',k'⟩:=z
  have q1':n'=n:=q1
  subst q1'
  cases hx:x == n' with
  | true =>
   rw[q4v,hx] at h
   have hk:k=.free:=by simpa using h
   rw[q4v,hx]
   rcases q2 hk with e | e
   ·have e':k'=.cell:=e
    subst e'
    exact .inl rfl
   ·have e':k'=.free:=e
    subst e'
    exact .inr rfl
  | false =>
   rw[q4v,hx] at h
   rw[q4v,hx]
   exact ih h
theorem Z4k {env:Env}{names:List (Str × NameKind)}{x:Str}(h:names.lookup x=some .free) :
  (names.map λ(n,k)=>if (k == NameKind.free && env.scope.kind == .function && env.kindOf n == some .cell) then (n,NameKind.cell) else (n,k)).lookup x=some .cell ∨
  (names.map λ(n,k)=>if (k == NameKind.free && env.scope.kind == .function && env.kindOf n == some .cell) then (n,NameKind.cell) else (n,k)).lookup x=some .free:=by
 refine Z3q (λp=>?_) (λp hp=>?_) h
 ·obtain⟨n,k⟩:=p
  dsimp only
  split<;>rfl
 ·obtain⟨n,k⟩:=p
  dsimp only
  split
  ·exact .inl rfl
  ·exact .inr hp
theorem Z6a {env:Env}{names:List (Str × NameKind)}{x:Str}{k':NameKind}(hc:∀ y∈names,y.2≠.cell)(hk:k'=.cell∨k'=.free)
  (h:(names.map λ(n,k)=>if (k == NameKind.free && env.scope.kind == .function && env.kindOf n == some .cell) then (n,NameKind.cell) else (n,k)).lookup x=some k'):(x,NameKind.free)∈names:=by
 have m:=q2n h
 obtain⟨⟨n,k⟩,hm,e⟩:=q2j.mp m
 dsimp only at e
 by_cases hf:k=.free
 ·subst hf
  have e1:n=x:=by
   by_cases hc':(NameKind.free == NameKind.free && env.scope.kind == .function && env.kindOf n == some .cell)=true
   ·rw[if_pos hc'] at e
    exact congrArg Prod.fst e
   ·rw[if_neg hc'] at e
    exact congrArg Prod.fst e
  exact e1 ▸ hm
 ·have hb:(k == NameKind.free)=false:=by simpa using hf
  simp only[hb,Bool.false_and,q2s,q4u] at e
  cases e
  rcases hk with z | z
  ·exact absurd z (hc _ hm)
  ·exact absurd z hf
noncomputable def cxLc (X:Cx)(scope:Scope)(Nc:W0)(ex:U3)(pins:U1)(s:U7)(H:Hp):Cx where
 prog:=X.prog
 w:=X.w
 K:=X.K
 mg:=X.mg
 base:=X.base
 A:=X.A
 N:=Nc
 s₀:=s
 H₀:=H
 env:=compEnvC scope (clo scope.names X.env.cells) s.heap.objs.size X.env
 outer:=X.stack
 stack:=X.stack
 ex:=ex
 fn:=λ_=>false
 calm:=X.calm
 pn:=X.pn++pins
 xe:=λ_ _=>False
noncomputable def sub (mp:W7)(σ:St):St:=mp.map λo=>match o with | some j=>(σ[j]?).join | none=>none
theorem X2i {mp:W7}{σ:St}{i:Nat}{v:V}(h:(sub mp σ)[i]?=some (some v)):∃ j,mp[i]?=some (some j)/\σ[j]?=some (some v):=by
 unfold sub at h
 rw[q0n] at h
 cases e:mp[i]? with
 | none=>rw[e] at h;cases h
 | some o =>
  rw[e] at h
  cases o with
  | none=>cases h
  | some j =>
   refine⟨j,Z,?_⟩
   have h':(σ[j]?).join=some v:=Option.some.inj h
   cases q:σ[j]? with
   | none=>rw[q] at h';cases h'
   | some z=>rw[q] at h';exact congrArg some h'
section
variable {X:Cx}{pins:U1}{σ:St}{H:Hp}{s:U7}{scope:Scope}{Nc:W0}{mp:W7}{fp:U3}
theorem Z5t (I:Inv X pins σ H s)(S:LcOk X.N X.env.scope scope Nc mp):∀ x∈scope.names,x.2=.free->∃ c,X.env.cells.lookup x.1=some c:=λx hx e =>
 I.ok.has x.1 (S.free x hx e)
theorem Z5l (I:Inv X pins σ H s)(S:LcOk X.N X.env.scope scope Nc mp){x:Str}{c:W9}(h:(clo scope.names X.env.cells).lookup x=some c):X.env.cells.lookup x=some c :=
 Y6w scope.names [] (Z5t I S) (λ_ _ e=>by cases e) x c h
theorem X9f (I:Inv X pins σ H s)(S:LcOk X.N X.env.scope scope Nc mp)(hf:∀ b∈fp,FpOk X pins H b)(hl:∀ b∈fp,b<s.heap.objs.size):(cxLc X scope Nc fp pins s H).Ok where
 mod:=I.ok.mod
 kind:=S.kind
 glob:=I.ok.glob
 blt:=I.ok.blt
 above:=q0f _
 inj:=λx y c e1 e2=>I.ok.inj x y c (Z5l I S e1) (Z5l I S e2)
 has:=λx h=>by
  have hm:(x,NameKind.free)∈scope.names:=by
   rcases h with h | h
   ·exact Z6a S.nocell (.inl rfl) h
   ·exact Z6a S.nocell (.inr rfl) h
  exact Z8l scope.names [] x (.inl hm)
 cab:=λx c h _=>by cases h
 hd:=I.ok.hd
 frames:=I.ok.frames
 stk:=.inl rfl
 exf:=λb hb=>⟨q0r (hl b hb),λx c e=>(hf b hb).2.2.2.2.1 x c (Z5l I S e)⟩
 bs:=I.bs
 bsz:=q1m I.ok.bsz I.sz
 noex:=λb o e hb=>by
  rcases (hf b hb).2.2.2.1 with z | z
  ·exact I.ok.noex b o e z
  ·exact absurd (q0s (q0e e) (q1m I.ok.bsz z)) (q2x _)
 exfs:=λb hb z=>by
  rcases q0q.mp (I.stkSub b z) with e | e
  ·exact(hf b hb).2.1 e
  ·exact(hf b hb).2.2.1 e
 funs:=I.stack
 frf:=I.stkFree
theorem Y2a (I:Inv X pins σ H s)(S:LcOk X.N X.env.scope scope Nc mp)(hf:∀ b∈fp,FpOk X pins H b)(hl:∀ b∈fp,b<s.heap.objs.size){h₁:Heap}{m:U4}{tk:Nat}
  (hn:h₁.Ns s.heap.objs.size m) (k:∀ b o,s.heap.get? b=some o->h₁.get? b=some o):Inv (cxLc X scope Nc fp pins s H) [] (sub mp σ) H { s with heap:=h₁,toks:=tk }:=by
 refine⟨X9f I S hf hl,Z,I.bare,Un.kept k,⟨m,hn,λi x v e1 e2 _=>?_⟩,λx c e=>?_,I.hok.fresh (q0f _),λx c e=>I.freeC x c (Z5l I S e),λp hp=>?_,I.hok.kept k,?_⟩
 ·obtain⟨j,hj,hv⟩:=X2i e2
  obtain⟨y,y1,y2,y3⟩:=S.map i j hj
  have e1':Nc[i]?=some x:=e1
  rw[e1'] at y1
  cases y1
  have hm:=q2n y3
  have vis:Vis X.env.scope x:=.inr (S.free _ hm rfl)
  obtain⟨mo,_,hloc⟩:=I.loc
  obtain⟨u,ru,lk⟩:=hloc j x v y2 hv vis
  refine⟨u,ru,.inr ⟨Z4k y3,?_⟩⟩
  obtain⟨c,hc⟩:=Z8l (cells:=X.env.cells) scope.names [] x (.inl hm)
  have hc':=Z5l I S hc
  rcases lk with ⟨z,_⟩ | ⟨_,c',z,q⟩
  ·rcases S.free _ hm rfl with z' | z'<;>(have z'':X.env.scope.names.lookup x=some .local:=z;rw[z''] at z';cases z')
  ·rw[hc'] at z
   cases z
   obtain⟨o,ho,hd⟩:=q
   exact⟨c,hc,o,k c o ho,hd⟩
 ·obtain⟨v,o,ho,hd⟩:=I.cell x c (Z5l I S e)
  exact⟨v,o,k c o ho,hd⟩
 ·have hp':p∈X.pn++pins:=by
   have:p∈(X.pn++pins)++[]:=hp
   simpa using this
  obtain⟨e,n,ne,nf,d⟩:=I.pin p hp'
  refine⟨k _ _ e,n,q0r (q0e e),λz=>?_,d⟩
  rcases q0q.mp (I.stkSub p.1 z) with q | q
  ·exact ne q
  ·exact nf q
 ·show (sub mp σ).length=Nc.length
  unfold sub
  rw[q0a]
  exact S.len
theorem X1e (I:Inv X pins σ H s)(hf:∀ b∈fp,FpOk X pins H b){σ':St}{H':Hp}{s':U7}{pl:U1}(J:Inv (cxLc X scope Nc fp pins s H) pl σ' H' s'):Inv X pins σ H' s' :=
 I.call' J.os J.base J.hok J.bare λb hb=>⟨(hf b hb).2.2.2.1,(hf b hb).2.1,(hf b hb).2.2.2.2.1,(hf b hb).2.2.2.2.2⟩
theorem Inv.turnedNew (I:Inv X pins σ H s){C:W9}{h':Heap}{t':Nat}(k:∀ b o,b≠C->s.heap.get? b=some o->h'.get? b=some o)(hn:H C=none)(h1:X.s₀.heap.objs.size<=C)
  (hL:C≠X.env.locals) (hc:∀ x c,X.env.cells.lookup x=some c->c≠C) (hp:∀ p∈X.pn++pins,p.1≠C):Inv X pins σ H { s with heap:=h',toks:=t' } :=
 I.turned k hn hL (.inr h1) hc hp
end
section
variable {M:Model}{A:W6}{E:U2}
abbrev Calm:Value->Shared->Prop:=λ_ _=>False
theorem thenC {α β:Type}{m:Sem α}{f:α->Sem β}{P:α->Shared->Prop}{Q:β->Shared->Prop}{s:U7}(h:wpAny M A m P Calm s)(k:∀ x s',P x s'->wpAny M A (f x) Q E s'):wpAny M A (m >>= f) Q E s :=
 q0b (q1i h k λ_ _ z=>z.elim)
end
theorem Z8k {prog:U8}{w:W1}{A:W6}{R:Result->Shared->Prop}{s:U7}{e t i:Expr}{sc:Scope}{pos:Pos}{it acc:W2}{env:Env}(J:Nat->Shared->Prop)
  (turn:∀ n s,J n s->wpAny (model prog w) A (pyNext it) (λr s1=>(r=none->R (.ok .next) s1)/\∀ v,r=some v →
   wpAny (model prog w) A (letOwnedTupleGo t it v) (λ_ s2=>wpAny (model prog w) A (assign t env v) (λ_ s3=>wpAny (model prog w) A (eval e env) (λx s4 =>
    wpAny (model prog w) A (call (.builtin "list.append") [acc,x]) (λ_ s5=>∃ m,m<n/\J m s5) Calm s4) Calm s3) Calm s2) Calm s1) Calm s)
  (n:Nat) (h:J n s):codeAny (model prog w) A (.compLoop (.ListComp e [⟨t,i,[],0⟩] sc pos) 0 it acc env) R s:=by
 have eq:=compTurn_list1 e t i sc pos it acc env
 refine codeAny_loop rfl J (λn s j=>wpAny_noted (m:=compTurn (.ListComp e [⟨t,i,[],0⟩] sc pos) 0 it acc env) ?_) n h
 rw[eq]
 refine q0b (q4i (thenC (turn n s j) λr s1 q=>?_))
 match r,q with
 | none,q=>exact q0g (q.1 rfl)
 | some v,q=>exact thenC (q.2 v rfl) λ_ s2 q2=>thenC q2 λ_ s3 q3=>q0b (thenC q3 λx s4 q4=>thenC q4 λ_ s5 q5=>q0g (q0g ⟨rfl,q5⟩))
def LcW (J:It)(g:TG)(te:TE)(σ:St)(H:Hp)(acc:W9)(Q:VK):Prop:=∃ W:Nat->Nat->List V->St->Hp->Prop,(∃ m,W 0 m [] σ (upd H acc (.lst []))) ∧
 ∀ i m ys σ2 H2,W i m ys σ2 H2->(J.stop i H2/\Q (.ref acc) H2)∨(J.go i H2/\∀ x H3,J.yld i H2 x H3->g x σ2 H3 λσ4 H4=>te σ4 H4 λy H5 =>
  H5 acc=some (.lst ys)/\ys.length<sizeLine/\∃ m',m'<m/\W (i+1) m' (ys++[y]) σ4 (upd H5 acc (.lst (ys++[y]))))
def tLc (mp:W7)(wi:TI)(g:TG)(te:TE):TE:=λσ H Q=>wi σ H λJ H1=>∀ acc,H1 acc=none->LcW J g te (sub mp σ) H1 acc Q
section
variable {X:Cx}{elt tg iter:Expr}{scope:Scope}{pos:Pos}{wi:TI}{g:TG}{te:TE}{Nc:W0}{mp:W7}
noncomputable abbrev Z0u (s:U7):Shared:={ s with heap:=s.heap.push { cls:=.type "list",dict:=none,data:=.seq ([]:U5).toArray } }
theorem X1d (hc:X.calm=true)(S:LcOk X.N X.env.scope scope Nc mp)(hg:∀ ex pins s H,PG (cxLc X scope Nc ex pins s H) tg g)(he:∀ ex pins s H,PE (cxLc X scope Nc ex pins s H) elt te)
  {pins:U1}{σ:St}{H2:Hp}{s2:U7}{E:U2}{it:W9}{fp:U3}{tn:Nat->Heap->Prop}{J:It}{Q:VK}{RR:Value->Addr->Result->Shared->Prop}
  (I2:Inv X pins σ H2 s2) (T:Turn X.prog X.w X.K tg J fp it tn) (st2:tn 0 s2.heap) (f2:∀ b∈fp,FpOk X pins H2 b)
  (q:∀ acc,H2 acc=none->LcW J g te (sub mp σ) H2 acc Q)
  (fin:∀ acc C H' s' m',Q (.ref acc) H'->Inv X pins σ H' s'->s'.heap.Ns C m'->H' C=none->X.s₀.heap.objs.size<=C->C≠X.env.locals->(∀ x c,X.env.cells.lookup x=some c->c≠C)->(∀ p∈X.pn++pins,p.1≠C)->RR (.ref acc) C (.ok .next) s') :
  wpAny (model X.prog X.w) X.A (newList []) (λacc s₃=>wpAny (model X.prog X.w) X.A (newFunctionEnv scope X.env.globals (clo scope.names X.env.cells) [] X.env.qual none .none (some X.env)) (λcenv s₄ =>
   codeAny (model X.prog X.w) X.A (.compStart (.ListComp elt [⟨tg,iter,[],0⟩] scope pos) 0 (.ref it) acc { cenv with scope:=relabel scope X.env }) (RR acc cenv.locals) s₄) E s₃) E s2:=by
 refine q1t (wpAny_newFunctionEnv S.nocell (by intro y hy;simp at hy) (λh₁ hns₁ hsb₁=>?_) S.kind)
 dsimp only at hns₁ hsb₁ ⊢
 have I3:=I2.lnew (its:=[]) (ys:=[]) (t':=s2.toks) .nil (q1d _)
 have hacc:H2 s2.heap.objs.size=none:=I2.fresh
 obtain⟨W,⟨m0,w0⟩,turn⟩:=q s2.heap.objs.size hacc
 have hpush:(s2.heap.push { cls:=.type "list",dict:=none,data:=.seq ([]:U5).toArray }).objs.size=s2.heap.objs.size+1:=q1z ..
 have hlt:∀ b∈fp,b<s2.heap.objs.size:=λb hb=>by
  obtain⟨o,e,_⟩:=T.obj _ _ st2 b hb
  exact q0e e
 have f3:∀ b∈fp,FpOk X pins (upd H2 s2.heap.objs.size (.lst [])) b:=λb hb=>⟨by rw[Z0t (q0r (hlt b hb))];exact(f2 b hb).1,(f2 b hb).2⟩
 have I3':Inv X pins σ (upd H2 s2.heap.objs.size (.lst [])) (Z0u s2):=I3
 have hsz:(Z0u s2).heap.objs.size=s2.heap.objs.size+1:=hpush
 have hlt3:∀ b∈fp,b<(Z0u s2).heap.objs.size:=λb hb=>by rw[hsz];exact q3a (hlt b hb)
 have k3:∀ b o,(Z0u s2).heap.get? b=some o->h₁.get? b=some o:=λb o e=>hsb₁.extBut b o (q0r (q0e e)) (q0c _ e)
 have Ic:=Y2a (tk:=(Z0u s2).toks) I3' S f3 hlt3 hns₁ k3
 have st3:tn 0 h₁:=T.keep _ _ _ st2 λb hb o e=>k3 b o (q0c _ e)
 have cC:X.s₀.heap.objs.size<=(Z0u s2).heap.objs.size:=I3'.sz
 have cL:(Z0u s2).heap.objs.size≠X.env.locals:=q2y I3'.lt
 have cc:∀ x c,X.env.cells.lookup x=some c->c≠(Z0u s2).heap.objs.size:=λx c e=>by
  obtain⟨v,o,ho,_⟩:=I3'.cell x c e
  exact q0r (q0e ho)
 have cp:∀ p∈X.pn++pins,p.1≠(Z0u s2).heap.objs.size:=λp hp=>q0r (q0e (I3'.pin p hp).1)
 have stat:∀ {H':Hp},(∀ b∈fp,H' b=none)->∀ b∈fp,FpOk (cxLc X scope Nc fp pins (Z0u s2) (upd H2 s2.heap.objs.size (.lst []))) [] H' b:=λhn b hb =>
  ⟨hn b hb,q0r (hlt3 b hb),λz=>by
   rcases q0q.mp (I3'.stkSub b z) with e | e
   ·exact(f3 b hb).2.1 e
   ·exact(f3 b hb).2.2.1 e,.inl hb,λx c e=>(f3 b hb).2.2.2.2.1 x c (Z5l I3' S e),λp hp=>(f3 b hb).2.2.2.2.2 p (by
    have:p∈(X.pn++pins)++[]:=hp
    simpa using this)⟩
 have loop:∀ s4:Shared,s4={ (Z0u s2) with heap:=h₁,toks:=(Z0u s2).toks } →
   codeAny (model X.prog X.w) X.A (.compLoop (.ListComp elt [⟨tg,iter,[],0⟩] scope pos) 0 (.ref it) (.ref s2.heap.objs.size) (cxLc X scope Nc fp pins (Z0u s2) (upd H2 s2.heap.objs.size (.lst []))).env)
    (RR (.ref s2.heap.objs.size) (Z0u s2).heap.objs.size) s4:=by
  rintro s4 rfl
  refine Z8k (λn s'=>∃ i ys σ' H',Inv (cxLc X scope Nc fp pins (Z0u s2) (upd H2 s2.heap.objs.size (.lst []))) [] σ' H' s'/\tn i s'.heap/\(∀ b∈fp,H' b=none)/\W i n ys σ' H') ?_ m0
   ⟨0,[],sub mp σ,_,Ic,st3,λb hb=>(f3 b hb).1,w0⟩
  rintro n s5 ⟨i,ys,σ5,H5,I5,st5,fr5,w5⟩
  rcases turn i n ys σ5 H5 w5 with ⟨stop,qn⟩ | ⟨go,step⟩
  ·refine q1i (T.done (cxLc X scope Nc fp pins (Z0u s2) (upd H2 s2.heap.objs.size (.lst []))) rfl rfl rfl hc i [] s5 σ5 H5 (λ_ _=>False) I5 (stat fr5) st5 stop) (λr s6 ⟨hr,I6⟩=>?_) λ_ _ f=>f.elim
   subst hr
   obtain⟨m6,hn6,_⟩:=I6.loc
   refine⟨λ_=>?_,λ_ z=>nomatch z⟩
   exact fin _ _ H5 s6 m6 qn (X1e I3' f3 I6) hn6 I6.free cC cL cc cp
  ·refine q1i (T.item (cxLc X scope Nc fp pins (Z0u s2) (upd H2 s2.heap.objs.size (.lst []))) rfl rfl rfl hc i [] s5 σ5 H5 (λ_ _=>False) I5 (stat fr5) st5 go) (λr s6 ⟨u,hr,h6⟩=>?_) λ_ _ f=>f.elim
   subst hr
   refine⟨(λz=>by cases z),?_⟩
   rintro _ ⟨⟩
   refine q1i h6 (λ_ s7 ⟨x,H7,I7,r7,y7,st7,fr7⟩=>?_) λ_ _ f=>f.elim
   have I7':=I7.pinned (stat fr7) (T.obj _ _ st7)
   refine q1i (hg _ _ _ _ _ s7 σ5 H7 x u _ I7' r7 (step x H7 y7)) (λ_ s8 ⟨σ8,H8,I8,q8⟩=>?_) λ_ _ f=>f.elim
   refine q1i (he _ _ _ _ _ s8 σ8 H8 _ I8 q8) (λv s9 ⟨y,H9,I9,r9,a9,l9,m',hm',w9⟩=>?_) λ_ _ f=>f.elim
   refine q1i (Z2j (X:=cxLc X scope Nc fp pins (Z0u s2) (upd H2 s2.heap.objs.size (.lst []))) _ s9 σ8 H9 (.ref s2.heap.objs.size) [y] (.ref s2.heap.objs.size) [v] (λz Hz=>z=.non/\Hz=upd H9 s2.heap.objs.size (.lst (ys++[y]))) I9 rfl (.cons r9 .nil) ⟨_,ys,y,Z,Z,a9,l9,Z,Z⟩) (λv10 s10 ⟨z,H10,I10,_,_,e10⟩=>?_) λ_ _ f=>f.elim
   subst e10
   refine⟨m',hm',i+1,ys++[y],σ8,_,I10.unpinned,T.keep _ _ _ st7 λb hb o e=>(I10.pin (b,o) (q1b _ (q1b _ (Z2q hb e)))).1,λb hb=>?_,w9⟩
   obtain⟨o,e,d⟩:=T.obj _ _ st7 b hb
   exact(I10.pin (b,o) (q1b _ (q1b _ (Z2q hb e)))).2.1
 exact q7t (loop _ rfl) (T.self _ 0 _ _ _ st3 (loop _ rfl))
theorem Z4i (hc:X.calm=true)(S:LcOk X.N X.env.scope scope Nc mp)(hi:PI X tg iter wi)(hg:∀ ex pins s H,PG (cxLc X scope Nc ex pins s H) tg g)(he:∀ ex pins s H,PE (cxLc X scope Nc ex pins s H) elt te)
  (hf:∀ x,foldedSetIterable iter X.env x=pure x:=by intro _;rfl):PE X (.ListComp elt [⟨tg,iter,[],0⟩] scope pos) (tLc mp wi g te):=by
 intro pins s σ H Q I h
 rw[eval_ListComp]
 refine q5a (use:=none) rfl hf (Z5h (Z5t I S)) S.kind S.names (thn (hi pins s σ H _ I h) λv s1 h1=>thn h1 λitv s2 h2=>?_)
 obtain⟨it,fp,tn,J,H2,e,I2,T,st2,f2,q⟩:=h2
 subst e
 refine X1d (RR:=λacc C=>compPost (model X.prog X.w) X.A X.xe none (EP X pins σ Q) acc C) hc S hg he I2 T st2 f2 q ?_
 intro acc C H' s' m' qq I' hn hC c1 c2 c3 c4
 refine⟨m',hn,λh' hs=>⟨.ref acc,H',?_,Z,qq⟩⟩
 exact I'.turnedNew (t':=s'.toks) (λb o hb e=>hs.extBut b o hb e) hC c1 c2 c3 c4
theorem Z3x {i:Nat}{x:Str}{pos' spos:Pos}(hc:X.calm=true)(hN:X.N.Nodup)(hi':X.N[i]?=some x)(hx:X.env.scope.names.lookup x=some .local)(S:LcOk X.N X.env.scope scope Nc mp)(hi:PI X tg iter wi)
  (hg:∀ ex pins s H,PG (cxLc X scope Nc ex pins s H) tg g) (he:∀ ex pins s H,PE (cxLc X scope Nc ex pins s H) elt te)
  (hsw:swapsWith (.ListComp elt [⟨tg,iter,[],0⟩] scope pos) (some (.Name x pos')) spos.line X.env=pure true)
  (hf:∀ x,foldedSetIterable iter X.env x=pure x:=by intro _;rfl):PS X (.Assign [.Name x pos'] (.ListComp elt [⟨tg,iter,[],0⟩] scope pos) spos) (tAsg (tLc mp wi g te) (gName i)):=by
 intro pins s σ H D I h
 rw[q8a _ _ _ _ hsw]
 refine q0b (q4i (q0b ?_))
 show wpAny _ X.A (do let _ ← comprehension (.ListComp elt [⟨tg,iter,[],0⟩] scope pos) scope X.env _ (newList []) false (eval iter X.env) (some (assign (.Name x pos') X.env))) _ _ s
 refine q0b (q1i (q5a (use:=some (assign (.Name x pos') X.env)) (Q:=λ_ s'=>SP X pins D .next s') rfl hf (Z5h (Z5t I S)) S.kind S.names
  (thn (hi pins s σ H _ I h) λv s1 h1=>thn h1 λitv s2 h2=>?_)) (λ_ s' hq=>q0g (q0g hq)) λ_ _ e=>e)
 obtain⟨it,fp,tn,J,H2,e,I2,T,st2,f2,q⟩:=h2
 subst e
 refine X1d (Q:=λx H1=>gName i x σ H1 D.nx) (RR:=λacc C=>compPost (model X.prog X.w) X.A X.xe (some (assign (.Name x pos') X.env)) (λ_ s'=>SP X pins D .next s') acc C) hc S hg he I2 T st2 f2 q ?_
 intro acc C H' s' m' qq I' hn hC c1 c2 c3 c4
 show wpAny _ X.A (assign (.Name x pos') X.env (.ref acc)) _ _ _
 refine q6x (Z5z (v:=.ref acc) I' hN hi' (.inl hx) rfl (λs5 I5 ⟨a,hs5,ha⟩=>?_) (.inr hx))
 have hCa:C≠a:=by
  rcases ha with z | z
  ·rw[z];exact c2
  ·exact Ne.symm (c3 x a z)
 refine⟨m',hn.sameBut hs5 hCa,λh' hs=>⟨σ.set i (some (.ref acc)),H',?_,qq⟩⟩
 exact I5.turnedNew (t':=s5.toks) (λb o hb e=>hs.extBut b o hb e) hC c1 c2 c3 c4
end
theorem X4o {J:It}{n:Nat}{val:Nat->V}{te:TE}{fr:St}{H1:Hp}{acc:W9}{Q:VK}(Pv:Nat->List V->Hp->Prop)(hn:n<=sizeLine)(h0:Pv 0 [] (upd H1 acc (.lst [])))
  (hgo:∀ i ys H,i<n->Pv i ys H->J.go i H/\∀ x H',J.yld i H x H'->H'=H/\x=val i) (hst:∀ ys H,Pv n ys H->J.stop n H)
  (hs:∀ i ys H (N:V->Hp->Prop),i<n->ys.length=i->Pv i ys H->(∀ y H5,H5 acc=some (.lst ys)->Pv (i+1) (ys++[y]) (upd H5 acc (.lst (ys++[y])))->N y H5)->te (some (val i)::fr) H N)
  (hd:∀ ys H,ys.length=n->Pv n ys H->Q (.ref acc) H) :
  LcW (J) (gName 0) te (none::fr) H1 acc Q:=by
 refine⟨λi m ys σ2 H2=>m=n-i/\i<=n/\ys.length=i/\(∃ v,σ2=v::fr)/\Pv i ys H2,⟨n,by simp,q1d _,Z,⟨_,Z⟩,h0⟩,?_⟩
 rintro i m ys σ2 H2 ⟨rfl,hi,hl,⟨v,rfl⟩,p⟩
 by_cases hlt:i<n
 ·obtain⟨go,yl⟩:=hgo i ys H2 hlt p
  refine .inr ⟨go,λx H3 y3=>?_⟩
  obtain⟨e1,e2⟩:=yl x H3 y3
  subst e1 e2
  show te ((v::fr).set 0 (some (val i))) H3 _
  rw[List.set_cons_zero]
  refine hs i ys H3 _ hlt hl p λy H5 a5 p5=>⟨a5,by omega,n-(i+1),by omega,Z,hlt,by rw[q0x,hl];rfl,⟨_,Z⟩,p5⟩
 ·have e:i=n:=by omega
  subst e
  exact .inl ⟨hst ys H2 p,hd ys H2 hl p⟩
theorem Z5s {lo:Int}{n:Nat}{te:TE}{fr:St}{H1:Hp}{acc:W9}{Q:VK}(Pv:Nat->List V->Hp->Prop)(hn:n<=sizeLine)(h0:Pv 0 [] (upd H1 acc (.lst [])))
  (hs:∀ i ys H (N:V->Hp->Prop),i<n->ys.length=i->Pv i ys H->(∀ y H5,H5 acc=some (.lst ys)->Pv (i+1) (ys++[y]) (upd H5 acc (.lst (ys++[y])))->N y H5)->te (some (.int (lo+i))::fr) H N)
  (hd:∀ ys H,ys.length=n->Pv n ys H->Q (.ref acc) H) :
  LcW (Itr lo n) (gName 0) te (none::fr) H1 acc Q :=
 X4o (J:=Itr lo n) (val:=λi=>.int (lo+i)) Pv hn h0 (λi ys H hi p=>⟨hi,λx H' y=>y⟩) (λys H p=>q0f _) hs hd
theorem Z6j {K:U0}{a:W9}{xs:List V}{te:TE}{fr:St}{H1:Hp}{acc:W9}{Q:VK}(Pv:Nat->List V->Hp->Prop)(hn:xs.length<=sizeLine)(h0:Pv 0 [] (upd H1 acc (.lst [])))
  (hl:∀ i ys H,Pv i ys H->SqL K H a xs)
  (hs:∀ i x ys H (N:V->Hp->Prop),xs[i]?=some x->ys.length=i->Pv i ys H->(∀ y H5,H5 acc=some (.lst ys)->Pv (i+1) (ys++[y]) (upd H5 acc (.lst (ys++[y])))->N y H5)->te (some x::fr) H N)
  (hd:∀ ys H,ys.length=xs.length->Pv xs.length ys H->Q (.ref acc) H) :
  LcW (Itl K a) (gName 0) te (none::fr) H1 acc Q :=
 X4o (J:=Itl K a) (n:=xs.length) (val:=λi=>xs.getD i .non) Pv hn h0
  (λi ys H hi p=>⟨⟨xs,xs[i],hl i ys H p,by simp[hi]⟩,λx H' y=>⟨y.1,by
   have:=y.2 xs (hl i ys H p)
   rw[q0i,this];rfl⟩⟩)
  (λys H p=>⟨xs,hl _ ys H p,q0f _⟩)
  (λi ys H N hi hl' p k=>by
   have e:xs[i]?=some (xs.getD i .non):=by rw[q0i,q0d hi];rfl
   exact hs i _ ys H N e hl' p k) hd
end L2
namespace L2
structure Cal (P:U8) (w:W1) (K:U0) (mg:U4) (base:Heap) (k:Nat) (x:Str) (ps:W0) (sp:Sp):Prop where
 ex:∃ f fd,FnOk P w K mg base CX0 k f fd ps sp/\Binds K fd ps []/\PySem.W.keepIn K (.ref f)=true/\mg x=some (.ref f)
theorem Cal.mono {P:U8}{w:W1}{K:U0}{mg:U4}{base:Heap}{j k:Nat}{x:Str}{ps:W0}{sp:Sp}(c:Cal P w K mg base j x ps sp)(h:j<=k):Cal P w K mg base k x ps sp :=
 let ⟨f,fd,F,b,kp,m⟩:=c.ex
 ⟨f,fd,F.mono h,b,kp,m⟩
section
variable {X:Cx}{k:Nat}{x:Str}{ps:W0}{sp:Sp}{p pos:Pos}{e:Expr}{es:List Expr}{t:TA}
theorem Z0n (c:Cal X.prog X.w X.K X.mg X.base k x ps sp)(hr:Room k X.A)(hg:Gl X x)(ha:PA X (e::es) t)(hdb:(x == ("__debug__":Str))=false:=by decide)
  (he:starEach (e::es) X.env=(false,eval e X.env)::starEach es X.env:=by rfl) (hpl:(backTo pos (starEach es X.env)).any (·.1)=false:=by rfl):PE X (.Call (.Name x p) (e::es) [] pos) (tCall sp [] E0 t):=by
 obtain⟨f,fd,F,b,kp,m⟩:=c.ex
 exact Y4u F hr hg m kp b .nil pass0 ha hdb he hpl
end
structure FunAt (K:U0) (x:Str) (st:Stmt) (dV:W2):Prop where
 ex:∃ (f:W9) (oc:W2) (od:W5) (kV doc pm:W2) (an:W5) (cdv ct:W2) (osl:W4),
  K.lookup f=some ⟨oc,od,.func (PySem.W.fnOf x x (Z1d st) (Z0z st) (Z0h st) dV kV doc pm an cdv ct),osl⟩/\PySem.W.codeIn K cdv x=true/\PySem.W.keepIn K (.ref f)=true/\PySem.W.nsIn K mainGlobals x=some (some (.ref f))
theorem fat {K:U0}{x:Str}{st:Stmt}{f:W9}{oc:W2}{od an:W5}{osl:W4}{dV kV doc pm cdv ct:W2}(a:PySem.W.nsIn K mainGlobals x=some (some (.ref f)))
  (l:K.lookup f=some ⟨oc,od,.func (PySem.W.fnOf x x (Z1d st) (Z0z st) (Z0h st) dV kV doc pm an cdv ct),osl⟩) (c:PySem.W.codeIn K cdv x=true) (k:PySem.W.keepIn K (.ref f)=true):FunAt K x st dV :=
 ⟨f,oc,od,kV,doc,pm,an,cdv,ct,osl,l,c,k,a⟩
def Z2i (K:U0)(x:Str)(st:Stmt)(dV:W2)(ps:W0):Prop:=∀ (kV doc pm:W2) (an:W5) (cdv ct:W2),Binds K (PySem.W.fnOf x x (Z1d st) (Z0z st) (Z0h st) dV kV doc pm an cdv ct) ps []
theorem binds0 {K:U0}{x:Str}{st:Stmt}{ps:W0}
  (h:∀ (kV doc pm:W2) (an:W5) (cdv ct:W2) (us:U5),us.length=ps.length->bindArgs (PySem.W.fnOf x x (Z1d st) (Z0z st) (Z0h st) .none kV doc pm an cdv ct) ⟨us,[]⟩=pure (ps.zip us)):Z2i K x st .none ps :=
 λkV doc pm an cdv ct=>.all (h kV doc pm an cdv ct)
theorem bnd0 {K:U0}{nm:Str}{st:Stmt}(h:∀ (kV doc pm:W2) (an:W5) (cdv ct:W2),bindArgs (PySem.W.fnOf nm nm (Z1d st) (Z0z st) (Z0h st) .none kV doc pm an cdv ct) ⟨[],[]⟩=pure []):Z2i K nm st .none []:=binds0 λkV doc pm an cdv ct us hl=>by
 cases us with
 | nil=>exact h kV doc pm an cdv ct
 | cons=>cases hl
theorem bnd1 {K:U0}{nm:Str}{st:Stmt}{x0:Str}(h:∀ (kV doc pm:W2) (an:W5) (cdv ct:W2) (a0:W2),bindArgs (PySem.W.fnOf nm nm (Z1d st) (Z0z st) (Z0h st) .none kV doc pm an cdv ct) ⟨[a0],[]⟩=pure [(x0,a0)]):Z2i K nm st .none [x0]:=binds0 λkV doc pm an cdv ct us hl=>by
 cases us with
 | nil=>cases hl
 | cons b0 t0 =>
  cases t0 with
  | nil=>exact h kV doc pm an cdv ct b0
  | cons=>cases hl
theorem bnd2 {K:U0}{nm:Str}{st:Stmt}{x0 x1:Str}(h:∀ (kV doc pm:W2) (an:W5) (cdv ct:W2) (a0 a1:W2),bindArgs (PySem.W.fnOf nm nm (Z1d st) (Z0z st) (Z0h st) .none kV doc pm an cdv ct) ⟨[a0,a1],[]⟩=pure [(x0,a0),(x1,a1)]):Z2i K nm st .none [x0,x1]:=binds0 λkV doc pm an cdv ct us hl=>by
 cases us with
 | nil=>cases hl
 | cons b0 t0 =>
  cases t0 with
  | nil=>cases hl
  | cons b1 t1 =>
   cases t1 with
   | nil=>exact h kV doc pm an cdv ct b0 b1
   | cons=>cases hl
theorem bnd3 {K:U0}{nm:Str}{st:Stmt}{x0 x1 x2:Str}(h:∀ (kV doc pm:W2) (an:W5) (cdv ct:W2) (a0 a1 a2:W2),bindArgs (PySem.W.fnOf nm nm (Z1d st) (Z0z st) (Z0h st) .none kV doc pm an cdv ct) ⟨[a0,a1,a2],[]⟩=pure [(x0,a0),(x1,a1),(x2,a2)]):Z2i K nm st .none [x0,x1,x2]:=binds0 λkV doc pm an cdv ct us hl=>by
 cases us with
 | nil=>cases hl
 | cons b0 t0 =>
  cases t0 with
  | nil=>cases hl
  | cons b1 t1 =>
   cases t1 with
   | nil=>cases hl
   | cons b2 t2 =>
    cases t2 with
    | nil=>exact h kV doc pm an cdv ct b0 b1 b2
    | cons=>cases hl
theorem bnd4 {K:U0}{nm:Str}{st:Stmt}{x0 x1 x2 x3:Str}(h:∀ (kV doc pm:W2) (an:W5) (cdv ct:W2) (a0 a1 a2 a3:W2),bindArgs (PySem.W.fnOf nm nm (Z1d st) (Z0z st) (Z0h st) .none kV doc pm an cdv ct) ⟨[a0,a1,a2,a3],[]⟩=pure [(x0,a0),(x1,a1),(x2,a2),(x3,a3)]):Z2i K nm st .none [x0,x1,x2,x3]:=binds0 λkV doc pm an cdv ct us hl=>by
 cases us with
 | nil=>cases hl
 | cons b0 t0 =>
  cases t0 with
  | nil=>cases hl
  | cons b1 t1 =>
   cases t1 with
   | nil=>cases hl
   | cons b2 t2 =>
    cases t2 with
    | nil=>cases hl
    | cons b3 t3 =>
     cases t3 with
     | nil=>exact h kV doc pm an cdv ct b0 b1 b2 b3
     | cons=>cases hl
theorem bnd5 {K:U0}{nm:Str}{st:Stmt}{x0 x1 x2 x3 x4:Str}(h:∀ (kV doc pm:W2) (an:W5) (cdv ct:W2) (a0 a1 a2 a3 a4:W2),bindArgs (PySem.W.fnOf nm nm (Z1d st) (Z0z st) (Z0h st) .none kV doc pm an cdv ct) ⟨[a0,a1,a2,a3,a4],[]⟩=pure [(x0,a0),(x1,a1),(x2,a2),(x3,a3),(x4,a4)]):Z2i K nm st .none [x0,x1,x2,x3,x4]:=binds0 λkV doc pm an cdv ct us hl=>by
 cases us with
 | nil=>cases hl
 | cons b0 t0 =>
  cases t0 with
  | nil=>cases hl
  | cons b1 t1 =>
   cases t1 with
   | nil=>cases hl
   | cons b2 t2 =>
    cases t2 with
    | nil=>cases hl
    | cons b3 t3 =>
     cases t3 with
     | nil=>cases hl
     | cons b4 t4 =>
      cases t4 with
      | nil=>exact h kV doc pm an cdv ct b0 b1 b2 b3 b4
      | cons=>cases hl
section
variable {P:U8}{w:W1}{K:U0}{mg:U4}{base:Heap}
theorem FunAt.cal {x:Str}{st:Stmt}{dV:W2}{N ps:W0}{k:Nat}{sp:Sp}(F:FunAt K x st dV){h:Heap}(X:K.In h)(G:Ng h mg)(S:FnScope N ps (Z0h st))(bi:Z2i K x st dV ps)(len:∀ vs H Q E,sp vs H Q E->vs.length=ps.length)
  (hbody:∀ (f:W9) (cdv:W2) (A:W6) (outer:List Env) (s:U7) (H:Hp) (vs:List V) (Q:VK) (E:XK),Room k (A.deeper (envOfC x (Z0h st) s.heap.objs.size f cdv))->sp vs H Q E →
   ∃ t,PSs (cxOf CX0 P w K mg base N x (Z0h st) f cdv A outer s H E).nox (Z0z st) t/\t { nx:=λ_ H'=>Q .non H',rt:=Q } (start N vs) H):Cal P w K mg base (k+1) x ps sp:=by
 obtain⟨f,oc,od,kV,doc,pm,an,cdv,ct,osl,lk,hcd,kp,ns⟩:=F.ex
 refine⟨f,_,Y9m lk hcd S len λA outer s H vs Q E hr hsp=>?_,bi kV doc pm an cdv ct,kp,q1j X G ns⟩
 obtain⟨t,h,q⟩:=hbody f cdv A outer s H vs Q E hr hsp
 exact⟨t,h.nox,q⟩
end
theorem cxK {P:U8}{w:W1}{K:U0}{mg:U4}{base:Heap}{N:W0}{x:Str}{sc:Scope}{f:W9}{cdv:W2}{A:W6}{outer:List Env}{s:U7}{H:Hp}{E:XK}:(cxOf CX0 P w K mg base N x sc f cdv A outer s H E).nox.K=K:=rfl
theorem Z0f {H:Hp}{p:W9}(h:H p=none)(o:HO):Same H (upd H p o):=λb u q=>by rw[Z0t (Z2g q h)];exact q
theorem Y5w (K:U0):PySem.W.kitOne K (.type "int") (.type "int")=some true:=by unfold PySem.W.kitOne;rw[if_pos (by decide)]
theorem Y5x (K:U0):PySem.W.kitOne K (.type "int") (.type "bool")=some false:=by with_unfolding_all rfl
theorem eqI {a b:Int}{A B:Prop}(h1:a=b->A)(h2:a≠b->B):if decide (V.int a=V.int b)=true then A else B:=by
 by_cases h:a=b
 ·subst h
  rw[q0t rfl]
  exact iteT (h1 rfl)
 ·rw[q0j λe=>h (V.int.inj e)]
  exact iteF (h2 h)
theorem neI {a b:Int}{A B:Prop}(h1:a≠b->A)(h2:a=b->B):if (!decide (V.int a=V.int b))=true then A else B:=by
 by_cases h:a=b
 ·subst h
  rw[q0t rfl]
  exact iteF (h2 rfl)
 ·rw[q0j λe=>h (V.int.inj e)]
  exact iteT (h1 h)
theorem decI {p:Prop}[Decidable p]{A B:Prop}(h1:p->A)(h2:¬ p->B):if decide p=true then A else B:=by
 by_cases h:p
 ·rw[q0t h];exact iteT (h1 h)
 ·rw[q0j h];exact iteF (h2 h)
theorem blI {c:Bool}{A B:Prop}(h1:c=true->A)(h2:c=false->B):if c=true then A else B:=by
 cases c
 ·exact iteF (h2 rfl)
 ·exact iteT (h1 rfl)
theorem nblI {c:Bool}{A B:Prop}(h1:c=false->A)(h2:c=true->B):if (!c)=true then A else B:=by
 cases c
 ·exact iteT (h1 rfl)
 ·exact iteF (h2 rfl)
def tCut (t u:TS):TS:=λD σ H=>∃ Good:St->Hp->Prop,t { D with nx:=Good } σ H/\∀ σ' H',Good σ' H'->u D σ' H'
theorem Z1c {X:Cx}{st:Stmt}{rest:W8}{t u:TS}(h1:PS X st t)(h2:PSs X rest u):PSs X (st::rest) (tCut t u):=by
 intro pins s σ H D I h
 obtain⟨Good,ht,hu⟩:=h
 refine q7n (thn (h1 pins s σ H { D with nx:=Good } I ht) λf s1 q=>?_)
 cases f with
 | next =>
  obtain⟨σ',H',I',q⟩:=q
  exact h2 pins s1 σ' H' D I' (hu σ' H' q)
 | ret v=>exact q
 | brk=>exact q
 | cont=>exact q
theorem Z1a {H H':Hp}{p:W9}{o:HO}(h:Same H H')(hn:H p=none):Same H (upd H' p o):=λb u q=>by rw[Z0t (Z2g q hn)];exact h b u q
end L2
namespace Zo
open PySem.Sem (wp)
def Stop (h:Heap)(e:W9):Prop:=∃ o,h.get? e=some o/\o.cls=.type "StopIteration"
def Rest (S:U3)(h h':Heap):Prop:=∀ c o,c ∉ S->h.get? c=some o->h'.get? c=some o
theorem Rest.trans {S:U3}{h h1 h2:Heap}(a:Rest S h h1)(b:Rest S h1 h2):Rest S h h2:=λc o n e=>b c o n (a c o n e)
theorem Rest.sub {S T:U3}{h h1:Heap}(a:Rest S h h1)(q:∀ c,c∈S->c∈T):Rest T h h1:=λc o n e=>a c o (λz=>n (q c z)) e
theorem Rest.ext {S:U3}{h h1:Heap}{b:W9}(e:Heap.ExtBut b h h1)(q:b∈S):Rest S h h1:=λc o n x=>e c o (λz=>n (z ▸ q)) x
theorem Rest.but {S:U3}{h h1:Heap}{b:W9}(e:Heap.SameBut b h h1)(q:b∈S):Rest S h h1:=Rest.ext e.extBut q
theorem Rest.new {S:U3}{h:Heap}(o:Obj):Rest S h (h.push o):=λc u n x=>q0c _ x
def Stays (S:U3)(G:Heap->Prop):Prop:=∀ h h',Rest S h h'->G h->G h'
def Told (it:W9)(hp:Heap)(g:Array GenState)(d:Drawn)(tk:Nat)(os:OsState)(G:Heap->Prop)(ox:Option Value)(Q E:U2):Prop :=
 (∀ x h',ox=some x->G h'->Heap.SameBut it hp h'->Q x ⟨h',g,d,tk,os⟩) ∧
 (∀ e h',ox=none->Heap.ExtBut it hp h'->Stop h' e->E (.ref e) ⟨h',g,d,tk,os⟩)
def Pull (prog:U8)(w:W1)(A:W6)(it:W9)(G G':Heap->Prop)(ox:Option Value):Prop :=
 ∀ {Q E:U2}{hp:Heap}{g:Array GenState}{d:Drawn}{tk:Nat}{os:OsState},G hp->Told it hp g d tk os G' ox Q E →
  wpAny (model prog w) A (Builtin.SmallTypes.nextOf (.ref it)) Q E ⟨hp,g,d,tk,os⟩
section
variable {prog:U8}{w:W1}{A:W6}{E:U2}{hp:Heap}{g:Array GenState}{d:Drawn}{tk:Nat}{os:OsState}
theorem Pull.behind {it:W9}{G G':Heap->Prop}{ox:Option Value}(p:Pull prog w A it G G' ox)(hg:G hp){α:Type}{f:Value->Sem α}{k:Value->Sem Unit}{Q:α->Shared->Prop}
  (t:Told it hp g d tk os G' ox (λx s'=>wpAny (model prog w) A (f x) Q (λe s2=>wpAny (model prog w) A (k e) (λ_ s3=>E e s3) E s2) s') (λe s2=>wpAny (model prog w) A (k e) (λ_ s3=>E e s3) E s2)) :
  wpAny (model prog w) A ((Builtin.SmallTypes.nextOf (.ref it) >>= f).onRaise k) Q E ⟨hp,g,d,tk,os⟩:=wpAny_onRaise (q0b (p hg t))
theorem freed {z I O e:W9}{v:W2}{h:Heap}(gz:IsZip h z I O v)(st:Stop h e)(k:∀ h',Rest [z] h h'->Stop h' e->E (.ref e) ⟨h',g,d,tk,os⟩) :
  wpAny (model prog w) A (setField (.ref z) 0 .none) (λ_ s3=>E (.ref e) s3) E ⟨h,g,d,tk,os⟩:=by
 obtain⟨o,ho,hc⟩:=st
 have ne:e≠z:=by
  rintro rfl
  have q:=ho.symm.trans gz
  cases q
  exact absurd (Value.type.inj hc) (by decide)
 refine q3x gz rfl (by simp) (k _ (Rest.but (Heap.SameBut.update ..) (by simp)) ⟨o,(Heap.SameBut.update ..).extBut _ _ ne ho,hc⟩)
theorem step {z I O i j:W9}{ox oy:Option Value}{a b:W2}{G1 G1' G2 G2':Heap->Prop}{R:PySem.Fin->Shared->Prop}
  (gz:IsZip hp z I O .none) (gI:IsPair hp I (.ref i) (.ref j)) (gO:IsPair hp O a b) (ne:O≠z/\O≠i/\O≠j/\i≠z/\j≠z)
  (p1:Pull prog w A i G1 G1' ox) (p2:Pull prog w A j G2 G2' oy) (a1:G1 hp) (a2:G2 hp)
  (k1:Stays [z,O,j] G1) (k2:Stays [z,O,i] G2) (k3:Stays [z,O,j] G1') (k4:Stays [z,O,i] G2')
  (go:∀ x y h',ox=some x->oy=some y->IsZip h' z I O (rawInt hp.objs.size)->IsPair h' O x y->IsPair h' hp.objs.size x y->G1' h'->G2' h'->Rest [z,O,i,j] hp h'->R (.done (.ret (.ref hp.objs.size))) ⟨h',g,d,tk,os⟩)
  (stop:∀ e h',ox=none∨oy=none->Rest [z,O,i,j] hp h'->Stop h' e->E (.ref e) ⟨h',g,d,tk,os⟩) :
  wpAny (model prog w) A (Builtin.«zip.__next__» ⟨[.ref z],[]⟩) R E ⟨hp,g,d,tk,os⟩:=by
 obtain⟨n1,n2,n3,n4,n5⟩:=ne
 have c0:(#[Value.none,.bool false,.bool false,.ref I,.ref O]:U9)[0]?=some .none:=rfl
 have c2:(#[Value.none,.bool false,.bool false,.ref I,.ref O]:U9)[2]?=some (.bool false):=rfl
 have c3:(#[Value.none,.bool false,.bool false,.ref I,.ref O]:U9)[3]?=some (.ref I):=rfl
 have c4:(#[Value.none,.bool false,.bool false,.ref I,.ref O]:U9)[4]?=some (.ref O):=rfl
 have z0:0<(#[Value.none,.bool false,.bool false,.ref I,.ref O]:U9).size:=by simp
 wp_walk using q3b gz rfl c2,q3b gz rfl c3,q5p gI rfl,q3b gz rfl c0,q3b gz rfl c4,wpAny_setField_rec gz z0
 intro h1 z1 r1
 have q1:Rest [z] hp h1:=.but r1 (by simp)
 wp_walk
 refine p1.behind (f:=λx=>pure (some x)) (k:=λ_=>setField (.ref z) 0 .none) (k1 _ _ (q1.sub (by simp)) a1) ⟨λx h2 e2 b2 r2=>?_,λe h2 e2 r2 st=>?_⟩
 ·have O2:IsPair h2 O a b:=r2.extBut _ _ n2 (r1.extBut _ _ n1 gO)
  wp_walk using q5p O2 rfl,wpAny_updateSeq_pair O2
  intro h3 O3 r3
  wp_walk using wpAny_letGo
  have q3:Rest [z,O,i] hp h3:=((q1.sub (by simp)).trans (.but r2 (by simp))).trans (.but r3 (by simp))
  refine p2.behind (f:=λx=>pure (some x)) (k:=λ_=>setField (.ref z) 0 .none) (k2 _ _ q3 a2) ⟨λy h4 e4 b4 r4=>?_,λe h4 e4 r4 st=>?_⟩
  ·have O4:IsPair h4 O x b:=r4.extBut _ _ n3 O3
   wp_walk using q5p O4 rfl,wpAny_updateSeq_pair O4
   intro h5 O5 r5
   have O5':IsPair h5 O x y:=O5
   have q5:Rest [z,O,i,j] hp h5:=((q3.sub (by simp)).trans (.but r4 (by simp))).trans (.but r5 (by simp))
   have z5:IsZip h5 z I O .ellipsis:=r5.extBut _ _ n1.symm (r4.extBut _ _ n5.symm (r3.extBut _ _ n1.symm (r2.extBut _ _ n4.symm z1)))
   have sz:h5.objs.size=hp.objs.size:=(((r5.1.trans r4.1).trans r3.1).trans r2.1).trans r1.1
   have lt:z<h5.objs.size:=q0e z5
   have z6:IsZip (h5.push { cls:=.type "tuple",data:=.seq #[x,y].toList.toArray }) z I O .ellipsis:=q0c _ z5
   wp_walk using wpAny_letGo,q5p O5' rfl
   have z8:=q1v (Obj.mapFields λv=>v.setIfInBounds 1 (Value.bool false)) (q1v (Obj.mapFields λv=>v.setIfInBounds 0 (rawInt h5.objs.size)) z6 rfl) rfl
   have r8:Rest [z] (h5.push { cls:=.type "tuple",data:=.seq #[x,y].toList.toArray }) _:=(Rest.but (b:=z) (Heap.SameBut.update (f:=Obj.mapFields λv=>v.setIfInBounds 0 (rawInt h5.objs.size)) ..) (by simp)).trans (Rest.but (b:=z) (Heap.SameBut.update (f:=Obj.mapFields λv=>v.setIfInBounds 1 (Value.bool false)) ..) (by simp))
   have q8:=(Rest.new _).trans r8
   have T8:=r8 h5.objs.size _ (by simp;exact q2y lt) (q0m _ rfl)
   simp only[<-sz] at go
   exact go x y _ e2 e4 z8 (q8 _ _ (by simp[n1]) O5') T8 (k3 _ _ ((((Rest.but (S:=[z,O,j]) r3 (by simp)).trans (.but r4 (by simp))).trans (.but r5 (by simp))).trans (q8.sub (T:=[z,O,j]) (by simp))) b2)
    (k4 _ _ ((Rest.but (S:=[z,O,i]) r5 (by simp)).trans (q8.sub (T:=[z,O,i]) (by simp))) b4) (q5.trans (q8.sub (T:=[z,O,i,j]) (by simp)))
  ·exact freed (r4 _ _ n5.symm (r3.extBut _ _ n1.symm (r2.extBut _ _ n4.symm z1))) st λh5 r5 st' =>
    stop e h5 (.inr e4) (((q3.sub (by simp)).trans (.ext r4 (by simp))).trans (r5.sub (by simp))) st'
 ·exact freed (r2 _ _ n4.symm z1) st λh3 r3 st'=>stop e h3 (.inl e2) (((q1.sub (by simp)).trans (.ext r2 (by simp))).trans (r3.sub (by simp))) st'
end
end Zo
namespace Zn
open PySem.Sem (wp)
section
variable {prog:U8}{w:W1}{A:W6}{E:U2}{hp:Heap}{g:Array GenState}{d:Drawn}{tk:Nat}{os:OsState}{it l:W9}{i n:Nat}{its:U9}{oi ol:Obj}{R:PySem.Fin->Shared->Prop}
theorem Y7t (hh:its[i]?=none->A.handled=none)(gi:hp.get? it=some oi)(di:oi.data=.fields #[.ref l,.int i 0])(gl:hp.get? l=some ol)(dl:ol.data=.seq its n)
  (go:∀ x,its[i]?=some x->R (.done (.ret x)) ⟨hp.update it (Obj.mapFields (·.setIfInBounds 1 (rawInt (i+1)))),g,d,tk,os⟩)
  (stop:∀ h' e,its[i]?=none->Heap.ExtBut it hp h'->(∃ o,h'.get? e=some o/\o.cls=.type "StopIteration")->E (.ref e) ⟨h',g,d,tk,os⟩) :
  wpAny (model prog w) A (Builtin.«tuple_iterator.__next__» ⟨[.ref it],[]⟩) R E ⟨hp,g,d,tk,os⟩:=by
 have f0:(#[Value.ref l,.int i 0]:U9)[0]?=some (.ref l):=rfl
 have f1:(#[Value.ref l,.int i 0]:U9)[1]?=some (.int i 0):=rfl
 have z0:0<(#[Value.ref l,.int i 0]:U9).size:=by simp
 have z1:1<(#[Value.ref l,.int i 0]:U9).size:=by simp
 wp_walk using q3b gi di f0,q3b gi di f1,q5p gl dl
 rw[q1o]
 cases hx:its[i]? with
 | some x =>
  dsimp only
  wp_walk using q3x gi di z1
  exact go x hx
 | none =>
  dsimp only
  have h0:=hh hx
  wp_walk using q3x gi di z0
  exact wpAny_raiseNew_none h0 (stop _ _ hx (((Heap.SameBut.update ..).extBut.push _).push _) ⟨_,q0m _ rfl,Z⟩)
end
end Zn
namespace Zp
open Zo
open PySem.Sem (wp)
def Dat (t:Bool)(h:Heap)(l:W9)(xs:U9):Prop:=if t then h.IsTuple l xs else h.IsList l xs
def Itr (t:Bool)(h:Heap)(it l:W9)(i:Nat):Prop:=if t then h.IsTupleIter it l i else h.IsListIter it l i
theorem Dat.at {t:Bool}{h h':Heap}{l:W9}{xs:U9}(d:Dat t h l xs)(e:∀ o,h.get? l=some o->h'.get? l=some o):Dat t h' l xs:=by
 cases t<;>exact let ⟨o,q,r⟩:=d;⟨o,e o q,r⟩
theorem Itr.at {t:Bool}{h h':Heap}{it l:W9}{i:Nat}(d:Itr t h it l i)(e:∀ o,h.get? it=some o->h'.get? it=some o):Itr t h' it l i:=by
 cases t<;>exact let ⟨o,q,r⟩:=d;⟨o,e o q,r⟩
theorem Itr.obj {t:Bool}{h:Heap}{it l:W9}{i:Nat}(d:Itr t h it l i):∃ o,h.get? it=some o/\∀ v,o.data≠.cell v:=by
 cases t<;>exact let ⟨o,e,_,q⟩:=d;⟨o,e,λv z=>by rw[q] at z;cases z⟩
theorem Dat.push {t:Bool}{h:Heap}{l:W9}{xs:U9}(d:Dat t h l xs)(o:Obj):Dat t (h.push o) l xs:=d.at λ_ q=>q0c _ q
def Stand (t:Bool)(it l:W9)(k:Nat)(xs:U9)(h:Heap):Prop:=Itr t h it l k/\Dat t h l xs
theorem Stand.stays {t:Bool}{it l:W9}{k:Nat}{xs:U9}{S:U3}(a:it ∉ S)(b:l ∉ S):Stays S (Stand t it l k xs):=λh h' r d=>⟨d.1.at λo q=>r _ o a q,d.2.at λo q=>r _ o b q⟩
section
variable {prog:U8}{w:W1}{A:W6}
theorem via {E:U2}{T id:String}{f:Builtin}{a:W9}{s:U7}{Q:Option Value->Shared->Prop}(sl:Slot T (Str.ofString "__next__") id)(en:entryFor table id=some f)(ar:argsOk id ⟨[.ref a],[]⟩)(ty:s.TypeIs (.ref a) T)
  (h:wpAny (model prog w) A.in1 (f ⟨[.ref a],[]⟩) (λr s'=>∃ v,r=.done (.ret v)/\Q (some v) s') E s):wpAny (model prog w) A (callSpecial? (.ref a) (Str.ofString "__next__")) Q E s :=
 q3q ty sl (q3u sl ty en h ar)
theorem pull {t:Bool}{it l:W9}{k:Nat}{xs:U9}(hh:A.handled=none):Pull prog w A it (Stand t it l k xs) (Stand t it l (k+1) xs) xs[k]?:=by
 intro Q E hp g d tk os st td
 have nl:∀ {h'},Heap.SameBut it hp h'->l≠it->Dat t h' l xs:=λr n=>st.2.at λo q=>r.extBut _ _ n q
 cases t with
 | false =>
  obtain⟨a,b⟩:hp.IsListIter it l k/\hp.IsList l xs:=st
  have n:l≠it:=by
   rintro rfl
   obtain⟨o,q,_,r⟩:=a
   obtain⟨o',q',_,_,r'⟩:=b
   rw[q] at q';cases q';rw[r] at r';cases r'
  cases hx:xs[k]? with
  | some x=>exact wpAny_nextOf_list_item a b hx λh' i r=>td.1 x h' hx ⟨i,nl r n⟩ r
  | none=>exact wpAny_nextOf_list_end hh a b hx λh' e r s=>td.2 e h' hx r s
 | true =>
  obtain⟨a,b⟩:hp.IsTupleIter it l k/\hp.IsTuple l xs:=st
  have ty:(⟨hp,g,d,tk,os⟩:U7).TypeIs (.ref it) "tuple_iterator":=a.typeIs
  obtain⟨o,q,c,r⟩:=a
  obtain⟨o',q',c',m,r'⟩:=b
  have n:l≠it:=by rintro rfl;rw[q] at q';cases q';rw[r] at r';cases r'
  unfold Builtin.SmallTypes.nextOf
  refine q0b (via F.slot_tuple_iterator_next F.entry_tuple_iterator_next (F.args_tuple_iterator_next_1 _) ty (Zn.Y7t (λ_=>hh) q r q' r' (λx hx=>⟨x,Z,q0g (td.1 x _ hx ?_ (Heap.SameBut.update ..))⟩) λh' e hx ex s=>td.2 e h' hx ex s))
  refine⟨(⟨_,q1v _ q (Obj.isFreed_of_fields (Obj.data_mapFields r _)),(Obj.cls_mapFields ..).trans c,?_⟩:Heap.IsTupleIter _ it l (k+1)),nl (Heap.SameBut.update ..) n⟩
  rw[Obj.data_mapFields r]
  rfl
variable {E:U2}
theorem Y1x {t1 t2:Bool}{z I O i j l m:W9}{k1 k2:Nat}{xs ys:U9}{a b:W2}{Q:Option Value->Shared->Prop}{s:U7}(hh:A.handled=none)(D:ZipApart z I O i j l m)
  (gz:IsZip s.heap z I O .none) (gI:IsPair s.heap I (.ref i) (.ref j)) (gO:IsPair s.heap O a b) (d1:Stand t1 i l k1 xs s.heap) (d2:Stand t2 j m k2 ys s.heap)
  (go:∀ x y h',xs[k1]?=some x->ys[k2]?=some y->IsZip h' z I O (rawInt s.heap.objs.size)->IsPair h' O x y->IsPair h' s.heap.objs.size x y->Stand t1 i l (k1+1) xs h'->Stand t2 j m (k2+1) ys h' →
   Rest [z,O,i,j] s.heap h'->Q (some (.ref s.heap.objs.size)) ⟨h',s.gens,s.drawn,s.toks,s.os⟩)
  (stop:∀ h',xs[k1]?=none∨ys[k2]?=none->Rest [z,O,i,j] s.heap h'->Q none ⟨h',s.gens,s.drawn,s.toks,s.os⟩):wpAny (model prog w) A (pyNext (.ref z)) Q E s:=by
 obtain⟨hp,g,d,tk,os⟩:=s
 unfold pyNext
 refine q0b (q5y (via F.slot_zip_next F.entry_zip_next (F.args_zip_next_1 _) ⟨_,gz,Z⟩ (step gz gI gO ⟨D.TOz,D.TOi1,D.TOi2,D.i1z,D.i2z⟩ (pull (A:=A.in1) hh) (pull (A:=A.in1) hh) d1 d2 ?_ ?_ ?_ ?_ ?_ ?_)))
 ·exact Stand.stays (by simp[D.i1z,D.TOi1.symm,D.i12]) (by simp[D.l1z,D.l1TO,D.l1i2])
 ·exact Stand.stays (by simp[D.i2z,D.TOi2.symm,D.i12.symm]) (by simp[D.l2z,D.l2TO,D.l2i1])
 ·exact Stand.stays (by simp[D.i1z,D.TOi1.symm,D.i12]) (by simp[D.l1z,D.l1TO,D.l1i2])
 ·exact Stand.stays (by simp[D.i2z,D.TOi2.symm,D.i12.symm]) (by simp[D.l2z,D.l2TO,D.l2i1])
 ·exact λx y h' e1 e2 b1 b2 b3 b4 b5 b6=>⟨_,Z,q0g (go x y h' e1 e2 b1 b2 b3 b4 b5 b6)⟩
 ·rintro e h' n r ⟨o,q,c⟩
  exact q0b (wpAny_isInstance (b:=true) ⟨o,q,c⟩ isSubtype_stop (q0g (stop h' n r)))
end
noncomputable abbrev itObj (t:Bool)(l:W9):Obj:={ cls:=.type (if t then "tuple_iterator" else "list_iterator"),data:=.fields #[.ref l,.int 0 0] }
theorem Y6c {t:Bool}{h:Heap}{it l:W9}(e:h.get? it=some (itObj t l)):Itr t h it l 0:=by
 cases t<;>exact⟨_,e,Z,Z⟩
theorem push5 {h:Heap}{o0 o1 o2 o3 o4:Obj}(f0:o0.isFreed=false)(f1:o1.isFreed=false)(f2:o2.isFreed=false)(f3:o3.isFreed=false)(f4:o4.isFreed=false){H:Heap}(e:H=((((h.push o0).push o1).push o2).push o3).push o4) :
  H.get? h.objs.size=some o0/\H.get? (h.objs.size+1)=some o1/\H.get? (h.objs.size+2)=some o2/\H.get? (h.objs.size+3)=some o3/\H.get? (h.objs.size+4)=some o4/\∀ c o,h.get? c=some o->H.get? c=some o:=by
 subst e
 have w:∀ {h:Heap}{a:W9}{o o':Obj},h.get? a=some o->(h.push o').get? a=some o:=λq=>q0c _ q
 have s1:(h.push o0).objs.size=h.objs.size+1:=q1z ..
 have s2:((h.push o0).push o1).objs.size=h.objs.size+2:=by rw[q1z,s1]
 have s3:(((h.push o0).push o1).push o2).objs.size=h.objs.size+3:=by rw[q1z,s2]
 have s4:((((h.push o0).push o1).push o2).push o3).objs.size=h.objs.size+4:=by rw[q1z,s3]
 refine⟨w (w (w (w (q0m _ f0)))),?_,?_,?_,?_,λc o q=>w (w (w (w (w q))))⟩
 ·rw[<-s1];exact w (w (w (q0m _ f1)))
 ·rw[<-s2];exact w (w (q0m _ f2))
 ·rw[<-s3];exact w (q0m _ f3)
 ·rw[<-s4];exact q0m _ f4
structure New (t1 t2:Bool) (h h':Heap) (l m:W9):Prop where
 z:IsZip h' (h.objs.size+4) (h.objs.size+2) (h.objs.size+3) .none
 I:IsPair h' (h.objs.size+2) (.ref h.objs.size) (.ref (h.objs.size+1))
 O:IsPair h' (h.objs.size+3) .none .none
 i:Itr t1 h' h.objs.size l 0
 j:Itr t2 h' (h.objs.size+1) m 0
 k:Rest [] h h'
section
variable {prog:U8}{w:W1}{A:W6}{E:U2}{s:U7}
theorem Y2e {t:Bool}{l:W9}{xs:U9}{Q:U2}(hl:Dat t s.heap l xs)(h:Q (.ref s.heap.objs.size) { s with heap:=s.heap.push (itObj t l) }):wpAny (model prog w) A (pyIter (.ref l)) Q E s:=by
 cases t
 ·exact q5n (show s.heap.IsList l xs from hl) h
 ·exact q5d (show s.heap.IsTuple l xs from hl) h
theorem Y5s (t1 t2:Bool)(l m:W9)(xs ys:U9) :
  Meets (Builtin.«zip.__new__» ⟨[.type "zip",.ref l,.ref m],[]⟩) (λ_ R s=>Dat t1 s.heap l xs/\Dat t2 s.heap m ys ∧
   ∀ h',New t1 t2 s.heap h' l m->R (.ok (.ret (.ref (s.heap.objs.size+4)))) { s with heap:=h' }) :=
 .of_wp λprog w A R s h=>by
  rcases s with ⟨hp,g,d,tk,os⟩
  rcases h with ⟨b1,b2,h⟩
  have hsub:=sub_zip
  have L1:Dat t1 (Shared.heap ⟨hp,g,d,tk,os⟩) l xs:=b1
  have L2:Dat t2 (Shared.heap ⟨hp.push (itObj t1 l),g,d,tk,os⟩) m ys:=b2.push _
  wp_walk using Y2e L1,Y2e L2
  have key:∀ n1 n2 n3 n4,n1=hp.objs.size+1->n2=hp.objs.size+2->n3=hp.objs.size+3->n4=hp.objs.size+4 →
    R (.ok (.ret (.ref n4))) ⟨((((hp.push (itObj t1 l)).push (itObj t2 m)).push { cls:=.type "tuple",data:=.seq #[.ref hp.objs.size,.ref n1] }).push { cls:=.type "tuple",data:=.seq #[.none,.none] }).push
     { cls:=.type "zip",data:=.fields #[.none,.bool false,.bool false,.ref n2,.ref n3] },g,d,tk,os⟩:=by
   rintro _ _ _ _ rfl rfl rfl rfl
   obtain⟨a0,a1,a2,a3,a4,a5⟩:=push5 (h:=hp) (o0:=itObj t1 l) (o1:=itObj t2 m) (o2:={ cls:=.type "tuple",data:=.seq #[.ref hp.objs.size,.ref (hp.objs.size+1)] }) (o3:={ cls:=.type "tuple",data:=.seq #[.none,.none] })
    (o4:={ cls:=.type "zip",data:=.fields #[.none,.bool false,.bool false,.ref (hp.objs.size+2),.ref (hp.objs.size+3)] }) rfl rfl rfl rfl rfl rfl
   exact h _ ⟨a4,a2,a3,Y6c a0,Y6c a1,λc o _ q=>a5 c o q⟩
  exact⟨_,Z,key _ _ _ _ (by simp only[q1z]) (by simp only[q1z]) (by simp only[q1z]) (by simp only[q1z])⟩
theorem Y9u {t1 t2:Bool}{l m:W9}{xs ys:U9}{Q:U2}(b1:Dat t1 s.heap l xs)(b2:Dat t2 s.heap m ys)
  (k:∀ h',New t1 t2 s.heap h' l m->Q (.ref (s.heap.objs.size+4)) { s with heap:=h' }):wpAny (model prog w) A (call (.type "zip") [.ref l,.ref m]) Q E s :=
 callType_new F.called_zip (by decide) (F.typeCall_zip_2 _ _) (F.newCall_zip_2 _ _) (λo=>F.args_object_init_3 o _ _) F.entry_zip_new (Y5s t1 t2 l m xs ys) ⟨b1,b2,λh' n=>⟨⟨_,n.z,Z⟩,k h' n⟩⟩
end
end Zp
namespace L2
section
variable {X:Cx}{pins:U1}{σ:St}{H:Hp}{s:U7}{h':Heap}
theorem Inv.turnedL {t':Nat}{ch:U3}(I:Inv X pins σ H s)(k:∀ b o,b ∉ ch->s.heap.get? b=some o->h'.get? b=some o)(hf:∀ b∈ch,FpOk X pins H b):Inv X pins σ H { s with heap:=h',toks:=t' }:=by
 have nit:∀ b u,H b=some u->b ∉ ch:=λb u e z=>by rw[(hf b z).1] at e;cases e
 refine I.step (g':=s.gens) (d':=s.drawn) (ch:=ch) (λb hb=>⟨(hf b hb).2.2.2.1,(hf b hb).2.1,(hf b hb).2.2.2.2.1,(hf b hb).2.2.2.2.2⟩) (λb o _ _ hc e _=>k b o hc e) (λb o _ _ hc e _=>⟨o.slots,k b o hc e⟩) (λ_ _ _ _ n=>n)
  (λb o hc e=>⟨o,k b o hc e⟩) (λ_ _ e=>e) (λ_ _ _ e=>e) (λb ps e=>⟨#[],by rw[e];simp⟩) (λm hm=>?_) (λb u e=>?_) I.bare
 ·obtain⟨o,es,ep,ho,r⟩:=hm
  exact⟨o,es,ep,k _ o (λz=>(hf _ z).2.1 rfl) ho,r⟩
 ·refine(I.hok b u e).stay (λc v hc q=>k c v ?_ q) (λ_ q=>q) λ_ _ q=>q
  rcases hc with z | z
  ·rw[z];exact nit b u e
  ·exact nit c _ z
theorem Inv.turnedT {t':Nat}{ch:U3}{T:W9}{xs:List V}{its:U5}(I:Inv X pins σ H s)(k:∀ b o,b ∉ ch->s.heap.get? b=some o->h'.get? b=some o)(hf:∀ b∈ch,FpOk X pins H b)(hT:s.heap.objs.size<=T)(hv:Vals xs its)(hz:xs.length<=sizeLine)(ht:IsTup h' T its.toArray) :
  Inv X pins σ (upd H T (.tup xs)) { s with heap:=h',toks:=t' }:=by
 have nit:∀ b u,H b=some u->b ∉ ch:=λb u e z=>by rw[(hf b z).1] at e;cases e
 have hTn:H T=none:=I.hok.fresh hT
 have neT:∀ b o,s.heap.get? b=some o->b≠T:=λb o e=>q0r (q0s (q0e e) hT)
 have neH:∀ b u,H b=some u->b≠T:=λb u e z=>by rw[z,hTn] at e;cases e
 refine I.step (g':=s.gens) (d':=s.drawn) (ch:=ch) (λb hb=>⟨(hf b hb).2.2.2.1,(hf b hb).2.1,(hf b hb).2.2.2.2.1,(hf b hb).2.2.2.2.2⟩) (λb o _ _ hc e _=>k b o hc e) (λb o _ _ hc e _=>⟨o.slots,k b o hc e⟩)
  (λb o _ e n=>by rw[Z0t (neT b o e)];exact n)
  (λb o hc e=>⟨o,k b o hc e⟩) (λb ys e=>by rw[Z0t (neH b _ e)];exact e) (λb o u e=>by rw[Z0t (neH b _ e)];exact e) (λb ps e=>⟨#[],by rw[Z0t (neH b _ e),e];simp⟩) (λm hm=>?_) (λb u e=>?_) I.bare
 ·obtain⟨o,es,ep,ho,r⟩:=hm
  exact⟨o,es,ep,k _ o (λz=>(hf _ z).2.1 rfl) ho,r⟩
 ·by_cases hb:b=T
  ·subst hb
   rw[Z0c] at e
   cases e
   exact⟨hz,its,hv,ht⟩
  ·rw[Z0t hb] at e
   refine(I.hok b u e).stay (λc v hc q=>k c v ?_ q) (λc q=>by rw[Z0t (neH c _ q)];exact q) λc ys q=>by rw[Z0t (neH c _ q)];exact q
   rcases hc with z | z
   ·rw[z];exact nit b u e
   ·exact nit c _ z
end
def SqX (t:Bool)(K:U0)(H:Hp)(a:W9)(xs:List V):Prop:=if t then SqT K H a xs else SqL K H a xs
theorem Inv.sqx {X:Cx}{pins:U1}{σ:St}{H:Hp}{s:U7}{t:Bool}{a:W9}{xs:List V}(I:Inv X pins σ H s)(h:SqX t X.K H a xs):∃ its:List Value,Vals xs its/\Zp.Dat t s.heap a its.toArray/\xs.length<=sizeLine:=by
 cases t
 ·obtain⟨its,v,p,z⟩:=I.list (show SqL X.K H a xs from h)
  exact⟨its,v,p.isList,z⟩
 ·obtain⟨its,v,p,z⟩:=I.tuple (show SqT X.K H a xs from h)
  exact⟨its,v,p,z⟩
theorem Inv.sqx_inj {X:Cx}{pins:U1}{σ:St}{H:Hp}{s:U7}{t:Bool}{a:W9}{xs ys:List V}(I:Inv X pins σ H s)(h:SqX t X.K H a xs)(h':SqX t X.K H a ys):xs=ys:=by
 cases t
 ·exact I.list_inj (show SqL X.K H a xs from h) h'
 ·exact I.tuple_inj (show SqT X.K H a xs from h) h'
def Itz (t1 t2:Bool)(K:U0)(l1 l2:W9):It :=
 ⟨λi H=>∃ xs x ys y,SqX t1 K H l1 xs/\xs[i]?=some x/\SqX t2 K H l2 ys/\ys[i]?=some y,
 λi H v H'=>∃ T x y,v=.ref T/\H T=none/\H'=upd H T (.tup [x,y])/\(∀ xs,SqX t1 K H l1 xs->xs[i]?=some x)/\∀ ys,SqX t2 K H l2 ys->ys[i]?=some y,
 λi H=>∃ xs ys,SqX t1 K H l1 xs/\SqX t2 K H l2 ys/\(xs.length<=i∨ys.length<=i)⟩
theorem Y7r {P:U8}{w:W1}{K:U0}{es:List Expr}{kk:Nat}{tp:Pos}{t1 t2:Bool}{z TI TO i1 i2 l1 l2:W9}(D:ZipApart z TI TO i1 i2 l1 l2) :
  Turn P w K (.Tuple es kk tp) (Itz t1 t2 K l1 l2) [z,TI,TO,i1,i2] z (λi h=>IsZip h z TI TO .none/\IsPair h TI (.ref i1) (.ref i2)/\(∃ a b,IsPair h TO a b)/\Zp.Itr t1 h i1 l1 i/\Zp.Itr t2 h i2 l2 i) where
 mem:=by simp
 obj:=λi h st b hb=>by
  obtain⟨a1,a2,⟨x,y,a3⟩,a4,a5⟩:=st
  simp only[q0q,q0u,q2e] at hb
  rcases hb with rfl | rfl | rfl | rfl | rfl
  ·exact⟨_,a1,λv q=>by have q':Data.fields _=Data.cell v:=q;cases q'⟩
  ·exact⟨_,a2,λv q=>by have q':Data.seq _ _=Data.cell v:=q;cases q'⟩
  ·exact⟨_,a3,λv q=>by have q':Data.seq _ _=Data.cell v:=q;cases q'⟩
  ·exact a4.obj
  ·exact a5.obj
 keep:=λi h h' st k=>by
  obtain⟨a1,a2,⟨x,y,a3⟩,a4,a5⟩:=st
  exact⟨k z (by simp) _ a1,k TI (by simp) _ a2,⟨x,y,k TO (by simp) _ a3⟩,a4.at λo e=>k i1 (by simp) o e,a5.at λo e=>k i2 (by simp) o e⟩
 item:=by
  intro X hP hw hK hc i pins s σ H E I hf st hg
  subst hP hw hK
  obtain⟨xs,x,ys,y,q1,hx,q2,hy⟩:=hg
  obtain⟨a1,a2,⟨u1,u2,a3⟩,a4,a5⟩:=st
  obtain⟨its,rv,dt,hz⟩:=I.sqx q1
  obtain⟨its',rv',dt',hz'⟩:=I.sqx q2
  obtain⟨vx,hvx,rx⟩:=rv.get hx
  obtain⟨vy,hvy,ry⟩:=rv'.get hy
  refine Zp.Y1x (I.ok.hd hc) D a1 a2 a3 (d1:=⟨a4,dt⟩) (d2:=⟨a5,dt'⟩) (λwx wy h' f1 f2 b1 b2 b5 b3 b4 bk=>?_) (λh' n _=>?_)
  rotate_left
  ·exfalso
   rcases n with n | n
   ·rw[show its.toArray[i]?=some vx by simpa using hvx] at n;cases n
   ·rw[show its'.toArray[i]?=some vy by simpa using hvy] at n;cases n
  obtain rfl:vx=wx:=Option.some.inj ((show its.toArray[i]?=some vx by simpa using hvx).symm.trans f1)
  obtain rfl:vy=wy:=Option.some.inj ((show its'.toArray[i]?=some vy by simpa using hvy).symm.trans f2)
  refine⟨_,Z,wpAny_letOwnedTupleGo_zip b1 λh2 c1 sb=>?_⟩
  have zT:s.heap.objs.size≠z:=q2y (q0e a1)
  have k2:∀ b o,b ∉ [z,TI,TO,i1,i2]->s.heap.get? b=some o->h2.get? b=some o:=λb o hb e=>by
   simp only[q0q,q0u,q2e,not_or] at hb
   exact sb.extBut b o hb.1 (bk b o (by simp[hb]) e)
  have hT:IsTup h2 s.heap.objs.size ([vx,vy]:U5).toArray:=⟨_,sb.extBut _ _ zT b5,Z,_,Z⟩
  refine⟨.ref s.heap.objs.size,upd H s.heap.objs.size (.tup [x,y]),I.turnedT (t':=s.toks) k2 hf (q0f _) (.cons rx (.cons ry .nil)) (by show 2<=sizeLine;decide) hT,Z,⟨_,x,y,Z,I.hok.fresh (q0f _),Z,λxs' h1=>?_,λys' h1=>?_⟩,⟨c1,?_,⟨vx,vy,?_⟩,?_,?_⟩,λb hb=>?_⟩
  ·rw[I.sqx_inj h1 q1];exact hx
  ·rw[I.sqx_inj h1 q2];exact hy
  ·exact sb.extBut _ _ D.TIz (bk _ _ (by simp[D.TIz,D.TITO,D.TIi1,D.TIi2]) a2)
  ·exact sb.extBut _ _ D.TOz b2
  ·exact b3.1.at λo q=>sb.extBut _ _ D.i1z q
  ·exact b4.1.at λo q=>sb.extBut _ _ D.i2z q
  ·have hlt:b<s.heap.objs.size:=by
    simp only[q0q,q0u,q2e] at hb
    rcases hb with rfl | rfl | rfl | rfl | rfl
    ·exact q0e a1
    ·exact q0e a2
    ·exact q0e a3
    ·obtain⟨o,e,_⟩:=a4.obj;exact q0e e
    ·obtain⟨o,e,_⟩:=a5.obj;exact q0e e
   rw[Z0t (q0r hlt)]
   exact(hf b hb).1
 done:=by
  intro X hP hw hK hc i pins s σ H E I hf st hg
  subst hP hw hK
  obtain⟨xs,ys,q1,q2,hend⟩:=hg
  obtain⟨a1,a2,⟨u1,u2,a3⟩,a4,a5⟩:=st
  obtain⟨its,rv,dt,hz⟩:=I.sqx q1
  obtain⟨its',rv',dt',hz'⟩:=I.sqx q2
  have e1:=rv.length
  have e2:=rv'.length
  have hend':its.toArray[i]?=none∨its'.toArray[i]?=none:=by
   rcases hend with h | h
   ·left;simp;omega
   ·right;simp;omega
  refine Zp.Y1x (I.ok.hd hc) D a1 a2 a3 (d1:=⟨a4,dt⟩) (d2:=⟨a5,dt'⟩) (λwx wy h' f1 f2 b1 b2 b5 b3 b4 bk=>?_) (λh' n bk=>⟨Z,I.turnedL (t':=s.toks) (λb o hb e=>?_) hf⟩)
  ·exfalso
   rcases hend' with n | n
   ·rw[f1] at n;cases n
   ·rw[f2] at n;cases n
  ·simp only[q0q,q0u,q2e,not_or] at hb
   exact bk b o (by simp[hb]) e
 self:=λ_ _ _ _ _ st h=>wpAny_pyIter_zip st.1 h
section
variable {X:Cx}{es:List Expr}{kk:Nat}{tp:Pos}
def iZip (t1 t2:Bool)(K:U0)(ta:TA):TI:=λσ H R=>ta σ H λvs H1=>∃ l1 l2 xs ys,vs=[.ref l1,.ref l2]/\SqX t1 K H1 l1 xs/\SqX t2 K H1 l2 ys/\R (Itz t1 t2 K l1 l2) H1
theorem X0t (t1 t2:Bool){a b:Expr}{ta:TA}{p pos:Pos}(hg:Gl X "zip")(hm:X.mg "zip"=none)(ha:PA X [a,b] ta)(hs:starEach [a,b] X.env=[(false,eval a X.env),(false,eval b X.env)]:=by rfl)(hs2:starEach [b] X.env=[(false,eval b X.env)]:=by rfl) :
  PI X (.Tuple es kk tp) (.Call (.Name "zip" p) [a,b] [] pos) (iZip t1 t2 X.K ta):=by
 intro pins s σ H R I h
 refine Call_ (Z5k I hg hm boot_zip (PyProof.Rows.callWith_type1 (thn (ha pos pins s σ H _ I h) λus s1 ⟨vs,H1,I1,r1,q1⟩=>?_) (by rw[hs,hs2]) (by rw[hs2];rfl)))
 obtain⟨l1,l2,xs,ys,e,h1,h2,q⟩:=q1
 subst e
 cases r1 with
 | cons r rr =>
  cases rr with
  | cons r' rr =>
   cases rr
   cases r
   cases r'
   obtain⟨its,rv,dt,hz⟩:=I1.sqx h1
   obtain⟨its',rv',dt',hz'⟩:=I1.sqx h2
   refine Zp.Y9u dt dt' λh' ⟨z1,z2,z3,z4,z5,zk'⟩=>?_
   have zk:∀ c o,s1.heap.get? c=some o->h'.get? c=some o:=λc o q=>zk' c o (by simp) q
   have I2:Inv X pins σ H1 { s1 with heap:=h' }:=I1.kept (t':=s1.toks) zk
   have lt1:l1<s1.heap.objs.size:=by
    cases t1
    ·obtain⟨o,e,_⟩:=(show s1.heap.IsList l1 _ from dt);exact q0e e
    ·obtain⟨o,e,_⟩:=(show s1.heap.IsTuple l1 _ from dt);exact q0e e
   have lt2:l2<s1.heap.objs.size:=by
    cases t2
    ·obtain⟨o,e,_⟩:=(show s1.heap.IsList l2 _ from dt');exact q0e e
    ·obtain⟨o,e,_⟩:=(show s1.heap.IsTuple l2 _ from dt');exact q0e e
   have D:ZipApart (s1.heap.objs.size+4) (s1.heap.objs.size+2) (s1.heap.objs.size+3) s1.heap.objs.size (s1.heap.objs.size+1) l1 l2:=zipApart_new lt1 lt2
   refine wpAny_pyIter_zip z1 ⟨_,_,_,_,H1,Z,I2,Y7r D,⟨z1,z2,⟨_,_,z3⟩,z4,z5⟩,λb hb=>?_,q⟩
   have hge:s1.heap.objs.size<=b:=by
    simp only[q0q,q0u,q2e] at hb
    rcases hb with rfl | rfl | rfl | rfl | rfl
    ·exact q5w _ _
    ·exact q5w _ _
    ·exact q5w _ _
    ·exact q0f _
    ·exact q5w _ _
   exact I1.fpOk hge (I1.hok.fresh hge)
end
theorem X7d {t1 t2:Bool}{K:U0}{l1 l2:W9}{g:TG}{xs ys:List V}{te:TE}{fr:St}{H1:Hp}{acc:W9}{Q:VK}(Pv:Nat->List V->Hp->Prop)(hxy:xs.length=ys.length)(hn:xs.length<=sizeLine)(h0:Pv 0 [] (upd H1 acc (.lst [])))
  (hg:∀ {a:W9}{x y v1 v2:V}{w1 w2:Option V}{H:Hp}{Q:St->Hp->Prop},H a=some (.tup [x,y])->Q (some x::some y::fr) H->g (.ref a) (w1::w2::fr) H Q)
  (hl:∀ i zs H,Pv i zs H->SqX t1 K H l1 xs/\SqX t2 K H l2 ys)
  (hs:∀ i x y zs H T (N:V->Hp->Prop),xs[i]?=some x->ys[i]?=some y->zs.length=i->Pv i zs H->H T=none->(∀ z H5,H5 acc=some (.lst zs)->Pv (i+1) (zs++[z]) (upd H5 acc (.lst (zs++[z])))->N z H5)->te (some x::some y::fr) (upd H T (.tup [x,y])) N)
  (hd:∀ zs H,zs.length=xs.length->Pv xs.length zs H->Q (.ref acc) H):LcW (Itz t1 t2 K l1 l2) g te (none::none::fr) H1 acc Q:=by
 refine⟨λi m zs σ2 H2=>m=xs.length-i/\i<=xs.length/\zs.length=i/\(∃ v w,σ2=v::w::fr)/\Pv i zs H2,⟨xs.length,by simp,q1d _,Z,⟨_,_,Z⟩,h0⟩,?_⟩
 rintro i m zs σ2 H2 ⟨rfl,hi,hl2,⟨v,w,rfl⟩,p⟩
 obtain⟨s1,s2⟩:=hl i zs H2 p
 by_cases hlt:i<xs.length
 ·have e1:xs[i]?=some xs[i]:=by simp[hlt]
  have e2:ys[i]?=some (ys[i]'(by omega)):=by simp[show i<ys.length by omega]
  refine .inr ⟨⟨xs,_,ys,_,s1,e1,s2,e2⟩,λu H3 y3=>?_⟩
  obtain⟨T,x,y,rfl,hT,rfl,h1,h2⟩:=y3
  have hx:=h1 xs s1
  have hy:=h2 ys s2
  refine hg (v1:=x) (v2:=y) (Z0c) ?_
  refine hs i x y zs H2 T _ hx hy hl2 p hT λz H5 a5 p5=>⟨a5,by omega,xs.length-(i+1),by omega,Z,hlt,by rw[q0x,hl2];rfl,⟨_,_,Z⟩,p5⟩
 ·have e:i=xs.length:=by omega
  subst e
  exact .inl ⟨⟨xs,ys,s1,s2,.inl (q0f _)⟩,hd zs H2 hl2 p⟩
end L2
namespace Bt
theorem Y0k (x y:Nat):(x&&&y)=2*((x / 2)&&&(y / 2))+(x%2)*(y%2):=by
 have h1:(x&&&y) / 2=(x / 2)&&&(y / 2):=Nat.and_div_two
 have h2:(x&&&y)%2=1 ↔ x%2=1/\y%2=1:=Nat.and_mod_two_eq_one
 rcases q0v x with a | a<;>rcases q0v y with b | b<;>rw[a,b] at h2 ⊢<;>omega
theorem X6z (x y:Nat):(x ||| y)=2*((x / 2) ||| (y / 2))+(x%2+y%2-(x%2)*(y%2)):=by
 have h1:(x ||| y) / 2=(x / 2) ||| (y / 2):=Nat.or_div_two
 have h2:(x ||| y)%2=1 ↔ x%2=1∨y%2=1:=Nat.or_mod_two_eq_one
 rcases q0v x with a | a<;>rcases q0v y with b | b<;>rw[a,b] at h2 ⊢<;>omega
def Half (x y:Int):Prop:=Builtin.bitAnd x y=2*Builtin.bitAnd (x / 2) (y / 2)+(x%2)*(y%2)
theorem Half.swap {x y:Int}(h:Half x y):Half y x:=by
 unfold Half at h ⊢
 rw[bitAnd_comm y x,bitAnd_comm (y / 2),q6t (y%2)];exact h
theorem Half.flip {x y:Int}(h:Half x (Builtin.bitNot y)):Half x y:=by
 unfold Half at h ⊢
 have e:=bitAnd_not x (Builtin.bitNot y)
 have e2:=bitAnd_not (x / 2) (Builtin.bitNot (y / 2))
 rw[q7f] at e e2
 have q:Builtin.bitNot (y / 2)=Builtin.bitNot y / 2:=by unfold Builtin.bitNot;omega
 have p:x%2*(y%2)=x%2-x%2*(Builtin.bitNot y%2):=by
  rw[show y%2=1-Builtin.bitNot y%2 by unfold Builtin.bitNot;omega,Int.mul_sub,Int.mul_one]
 rw[e,e2,q,h,p];omega
theorem Half.pos {x y:Int}(hx:0<=x)(hy:0<=y):Half x y:=by
 have h:∀ {z:Int},0<=z->z.toNat / 2=(z / 2).toNat/\((z.toNat%2:Nat):Int)=z%2:=λh=>by omega
 unfold Half
 rw[bitAnd_pp hx hy,bitAnd_pp (Int.ediv_nonneg hx (by decide)) (Int.ediv_nonneg hy (by decide)),Y0k,(h hx).1,(h hy).1,<-(h hx).2,<-(h hy).2,Int.natCast_add,Int.natCast_mul,Int.natCast_mul];rfl
theorem Half.right {x:Int}(hx:0<=x)(y:Int):Half x y :=
 (Classical.em (0<=y)).elim (Half.pos hx) λhy=>(Half.pos hx (bitNot_nonneg.mpr hy)).flip
theorem Z8o (x y:Int):Builtin.bitAnd x y=2*Builtin.bitAnd (x / 2) (y / 2)+(x%2)*(y%2) :=
 (Classical.em (0<=x)).elim (λhx=>Half.right hx y) λhx=>(Half.right (bitNot_nonneg.mpr hx) y).swap.flip.swap
theorem X3f (x y:Int):Builtin.bitOr x y=2*Builtin.bitOr (x / 2) (y / 2)+(x%2+y%2-(x%2)*(y%2)):=by
 rw[bitOr_and,bitOr_and,Z8o]
 omega
theorem Z3k {v:Nat}{x:Int}:(2:Int)^(v+1) ∣ x ↔ x%2=0/\(2:Int)^v ∣ x / 2:=by
 constructor
 ·rintro ⟨k,rfl⟩
  have e:(2:Int)^(v+1)*k=2*(2^v*k):=by rw[q6s];grind
  rw[e]
  exact⟨by omega,⟨k,by omega⟩⟩
 ·rintro ⟨h0,k,hk⟩
  refine⟨k,?_⟩
  have e:(2:Int)^(v+1)*k=2*(2^v*k):=by rw[q6s];grind
  rw[e,<-hk]
  omega
theorem Z7c:∀ (v:Nat) (x y:Int),(2:Int)^v ∣ Builtin.bitOr x y ↔ (2:Int)^v ∣ x/\(2:Int)^v ∣ y
 | 0,x,y=>by simp
 | v+1,x,y=>by
  rw[Z3k,Z3k,Z3k]
  have e:=X3f x y
  have ih:=Z7c v (x / 2) (y / 2)
  have ex:=q8o x
  have ey:=q8o y
  rcases ex with a | a<;>rcases ey with b | b<;>rw[a,b] at e ⊢
  ·have e2:Builtin.bitOr x y / 2=Builtin.bitOr (x / 2) (y / 2):=by omega
   rw[e2,ih]
   have e3:Builtin.bitOr x y%2=0:=by omega
   simp[e3]
  all_goals
   have e3:Builtin.bitOr x y%2=1:=by omega
   simp[e3]
theorem Y3f (n:Nat):n<2^n:=Nat.lt_two_pow_self
theorem Z5w {x:Int}(h:∀ v:Nat,(2:Int)^v ∣ x):x=0:=by
 have h1:=h x.natAbs
 apply Classical.byContradiction
 intro hx
 have h2:=Int.natAbs_dvd_natAbs.mpr h1
 have h3:=Nat.le_of_dvd (by omega) h2
 rw[Int.natAbs_pow] at h3
 have:=Y3f x.natAbs
 have e:(2:Int).natAbs=2:=rfl
 rw[e] at h3
 omega
theorem Y0f {x y:Int}:Builtin.bitOr x y=0 ↔ x=0/\y=0:=by
 constructor
 ·intro h
  have hd:∀ v:Nat,(2:Int)^v ∣ Builtin.bitOr x y:=λv=>by rw[h];exact Int.dvd_zero _
  exact⟨Z5w λv=>((Z7c v x y).mp (hd v)).1,Z5w λv=>((Z7c v x y).mp (hd v)).2⟩
 ·rintro ⟨rfl,rfl⟩
  decide +kernel
theorem Y5t:∀ (n:Nat) (p:Int),p.natAbs<n->p≠0->∃ (v:Nat) (q:Int),p=2^v*q/\q%2=1/\Builtin.bitAnd p (-p)=((2^v:Nat):Int)
 | 0,p,h,_=>by omega
 | n+1,p,h,hp=>by
  rcases q8o p with h0 | h1
  ·obtain⟨v,q,e,o,b⟩:=Y5t n (p / 2) (by omega) (by omega)
   refine⟨v+1,q,?_,o,?_⟩
   ·have e2:(2:Int)^(v+1)*q=2*(2^v*q):=by rw[q6s];grind
    rw[e2,<-e];omega
   ·rw[Z8o,show (-p) / 2=-(p / 2) by omega,b,h0,q8e]
    omega
  ·refine⟨0,p,by simp,h1,?_⟩
   rw[Z8o,show (-p) / 2=Builtin.bitNot (p / 2) by unfold Builtin.bitNot;omega,bitAnd_not,bitAnd_self,h1,show (-p)%2=1 by omega]
   rw[Int.sub_self];rfl
theorem Z8n (v:Nat):Builtin.Int.intBits ((2^v:Nat):Int)=v+1:=by
 unfold Builtin.Int.intBits
 have hp:0<2^v:=q3c v
 have hne:((((2^v:Nat):Int)) == 0)=false:=by
  rw[beq_eq_false_iff_ne];omega
 rw[hne,Int.natAbs_natCast,Nat.log2_two_pow]
 rfl
end Bt
namespace L2
section
variable {X:Cx}
def CShl (i j:Int):Prop:=∃ a,Sz a i/\0<=j/\(a:Int)+j<=1048576
theorem Z1x:OpR X (binaryOp .LShift) (rI CShl λi j=>.int (i*2^j.toNat)):=opI λi j _ _ _ _ _ hc q=>by
 obtain⟨a,h1,h2,h3⟩:=hc
 have:=h1.bits
 exact lshift_int h2 (by omega) q
theorem Z9g:MtR X "int.bit_length" (λx xs H Q=>∃ i,x=.int i/\xs=[]/\Q (.int (Builtin.Int.intBits i:Nat)) H):=by
 intro pins s σ H x xs v us Q I rx rs h
 obtain⟨i,rfl,rfl,q⟩:=h
 obtain⟨t,rfl⟩:=rx
 cases rs
 refine call_gives q4a (q8x s i t) PySem.F.entry_int_bit_length (PySem.F.args_int_bit_length_1 _) (PySem.AutoIntG2.int_bit_length_int_0 i t) ?_
 exact⟨.int (Builtin.Int.intBits i:Nat),H,I.tok _,⟨_,Z⟩,q⟩
theorem Y7c (hc:X.calm=true):CallR X (.builtin "any") (λxs H Q=>∃ (p:W9) (bs:List Bool),xs=[.ref p]/\SqL X.K H p (bs.map V.bl)/\Q (.bl (bs.any id)) H):=by
 intro pins s σ H xs us Q I r h
 obtain⟨p,bs,rfl,hq,q⟩:=h
 obtain⟨u,rfl,ru⟩:=r.one
 cases ru
 obtain⟨its,rv,pl,hz⟩:=I.list hq
 have hlen:its.length=bs.length:=by rw[<-rv.length,q0a]
 refine call_any_walk (q5n pl.isList ?_)
 have W:=Walks.list (prog:=X.prog) (w:=X.w) (A:=X.A.in1) (show X.A.in1.handled=none from I.ok.hd hc) s.heap.objs.size p (by
  obtain⟨o,e,_⟩:=pl.isList
  exact q0r (q0e e)) its.toArray
 refine⟨s.heap.objs.size,_,_,_,_,_,λi=>bs.getD i false,Z,W,⟨⟨_,q0m _ rfl,Z,Z⟩,pl.isList.push _⟩,?_,λh' tk hk=>?_⟩
 ·intro i v s' Q' E' hv hQ
  have hv':its[i]?=some v:=by simpa using hv
  have hi:i<bs.length:=by rw[<-hlen];exact(q0o.mp hv').1
  have hb:(bs.map V.bl)[i]?=some (.bl (bs.getD i false)):=by
   rw[q0n,q0d hi,q0i,q0d hi];rfl
  obtain⟨u,hu,ru⟩:=rv.get hb
  rw[hv'] at hu
  cases hu
  cases ru
  exact q2b hQ
 ·have e:(List.range its.toArray.size).any (λi=>bs.getD i false)=bs.any id:=by
   rw[q0h,hlen]
   rw[q4h,q7r,q7r]
   constructor
   ·rintro ⟨i,hi,hb⟩
    have hi':i<bs.length:=q1q.mp hi
    rw[q0i,q0d hi'] at hb
    exact⟨bs[i],q3w hi',hb⟩
   ·rintro ⟨b,hb,hb'⟩
    obtain⟨i,hi,rfl⟩:=List.mem_iff_getElem.mp hb
    refine⟨i,q1q.mpr hi,?_⟩
    rw[q0i,q0d hi]
    exact hb'
  rw[e]
  refine⟨.bl (bs.any id),H,?_,Z,q⟩
  exact I.kept (t':=tk) λb o eo=>hk b o (by simp;exact q0r (q0e eo)) (q0c _ eo)
def rEqLI (K:U0)(neg:Bool):R2:=λx y H Q=>∃ (a b:W9) (ns ms:U6),x=.ref a/\y=.ref b/\SqL K H a (ns.map V.int)/\SqL K H b (ms.map V.int)/\Q (.bl (if neg then !decide (ns=ms) else decide (ns=ms))) H
theorem X3l (hu:X.A.units+64<cLine):OpR X (compareOp .Eq) (rEqLI X.K false):=by
 intro pins s σ H x y v u Q I rx ry h
 obtain⟨a,b,ns,ms,rfl,rfl,h1,h2,q⟩:=h
 cases rx;cases ry
 obtain⟨its,rv,p,_⟩:=I.list h1
 obtain⟨its',rv',p',_⟩:=I.list h2
 exact PySem.W.eq_intsK p.isList (Z2a rv) p'.isList (Z2a rv') hu ⟨.bl (decide (ns=ms)),H,I,Z,q⟩
end
end L2
namespace Am
noncomputable abbrev p2 (h:Int):Int:=2^h.toNat
theorem X6m (h:Int):0<p2 h:=Int.pow_pos (by decide)
theorem Z6s (h:Int):p2 h≠0:=by have:=X6m h;omega
theorem Z3o {a b:Int}(ha:0<=a)(hb:0<=b):p2 (a+b)=p2 a*p2 b:=by
 unfold p2
 rw[show (a+b).toNat=a.toNat+b.toNat by omega,Int.pow_add]
theorem Z4u {a b:Int}(hb:0<=b)(h:b<=a):p2 a=p2 (a-b)*p2 b:=by
 rw[<-Z3o (by omega) hb]
 congr 1
 omega
structure Amt (a b c d h:Int):Prop where
 nn:0<=h
 odd:h=0∨a%2=1∨b%2=1∨c%2=1∨d%2=1
def Eq2 (x h y g:Int):Prop:=x*p2 g=y*p2 h
structure Same4 (a b c d h a' b' c' d' h':Int):Prop where
 e1:Eq2 a h a' h'
 e2:Eq2 b h b' h'
 e3:Eq2 c h c' h'
 e4:Eq2 d h d' h'
theorem Same4.symm {a b c d h a' b' c' d' h':Int}(s:Same4 a b c d h a' b' c' d' h'):Same4 a' b' c' d' h' a b c d h:=⟨s.e1.symm,s.e2.symm,s.e3.symm,s.e4.symm⟩
theorem Eq2.trans {x h y g z k:Int}(a:Eq2 x h y g)(b:Eq2 y g z k):Eq2 x h z k:=by
 unfold Eq2 at *
 have h1:(x*p2 k)*p2 g=(z*p2 h)*p2 g:=by
  have e1:(x*p2 k)*p2 g=(x*p2 g)*p2 k:=by grind
  have e2:(z*p2 h)*p2 g=(z*p2 g)*p2 h:=by grind
  rw[e1,e2,a,<-b];grind
 exact q1l (Z6s g) h1
theorem Same4.trans {a b c d h a' b' c' d' h' a2 b2 c2 d2 h2:Int}(s:Same4 a b c d h a' b' c' d' h')(t:Same4 a' b' c' d' h' a2 b2 c2 d2 h2):Same4 a b c d h a2 b2 c2 d2 h2 :=
 ⟨s.e1.trans t.e1,s.e2.trans t.e2,s.e3.trans t.e3,s.e4.trans t.e4⟩
theorem Eq2.lift {x h y g:Int}(hh:0<=h)(hg:h<=g)(e:Eq2 x h y g):y=x*p2 (g-h):=by
 unfold Eq2 at e
 rw[Z4u hh hg] at e
 have:(x*p2 (g-h))*p2 h=y*p2 h:=by rw[<-e];grind
 exact(q1l (Z6s h) this).symm
theorem Z4x {x n:Int}(hn:0<n):(x*p2 n)%2=0:=by
 have e:p2 n=p2 (n-1)*2:=by
  rw[Z4u (a:=n) (b:=1) (by decide) (by omega)]
  rfl
 rw[e,<-q5z]
 omega
theorem Amt.unique_le {a b c d h a' b' c' d' h':Int}(x:Amt a b c d h)(y:Amt a' b' c' d' h')(s:Same4 a b c d h a' b' c' d' h')(hle:h<=h'):a=a'/\b=b'/\c=c'/\d=d'/\h=h':=by
 have e1:=s.e1.lift x.nn hle
 have e2:=s.e2.lift x.nn hle
 have e3:=s.e3.lift x.nn hle
 have e4:=s.e4.lift x.nn hle
 have he:h=h':=by
  apply Classical.byContradiction
  intro hne
  have hp:0<h'-h:=by omega
  have o:=y.odd
  rw[e1,e2,e3,e4,Z4x hp,Z4x hp,Z4x hp,Z4x hp] at o
  have:=x.nn
  omega
 subst he
 simp only[Int.sub_self,p2,Int.toNat_zero,Int.pow_zero,Int.mul_one] at e1 e2 e3 e4
 exact⟨e1.symm,e2.symm,e3.symm,e4.symm,Z⟩
theorem Amt.unique {a b c d h a' b' c' d' h':Int}(x:Amt a b c d h)(y:Amt a' b' c' d' h')(s:Same4 a b c d h a' b' c' d' h'):a=a'/\b=b'/\c=c'/\d=d'/\h=h':=by
 rcases Int.le_total h h' with hle | hle
 ·exact x.unique_le y s hle
 ·obtain⟨q1,q2,q3,q4,q5⟩:=y.unique_le x s.symm hle
  exact⟨q1.symm,q2.symm,q3.symm,q4.symm,q5.symm⟩
noncomputable abbrev orAll (a b c d:Int):Int:=Builtin.bitOr (Builtin.bitOr (Builtin.bitOr a b) c) d
theorem orAll_dvd {v:Nat}{a b c d:Int}:(2:Int)^v ∣ orAll a b c d ↔ ((2:Int)^v ∣ a/\(2:Int)^v ∣ b/\(2:Int)^v ∣ c/\(2:Int)^v ∣ d):=by
 unfold orAll
 rw[Bt.Z7c,Bt.Z7c,Bt.Z7c]
 constructor
 ·rintro ⟨⟨⟨h1,h2⟩,h3⟩,h4⟩;exact⟨h1,h2,h3,h4⟩
 ·rintro ⟨h1,h2,h3,h4⟩;exact⟨⟨⟨h1,h2⟩,h3⟩,h4⟩
theorem orAll_zero {a b c d:Int}:orAll a b c d=0 ↔ (a=0/\b=0/\c=0/\d=0):=by
 unfold orAll
 rw[Bt.Y0f,Bt.Y0f,Bt.Y0f]
 constructor
 ·rintro ⟨⟨⟨h1,h2⟩,h3⟩,h4⟩;exact⟨h1,h2,h3,h4⟩
 ·rintro ⟨h1,h2,h3,h4⟩;exact⟨⟨⟨h1,h2⟩,h3⟩,h4⟩
theorem lowest {a b c d:Int}(hp:orAll a b c d≠0):∃ v:Nat,((Builtin.Int.intBits (Builtin.bitAnd (orAll a b c d) (-(orAll a b c d))):Nat):Int)-1=v/\((2:Int)^v ∣ a/\(2:Int)^v ∣ b/\(2:Int)^v ∣ c/\(2:Int)^v ∣ d) ∧
  ¬ ((2:Int)^(v+1) ∣ a/\(2:Int)^(v+1) ∣ b/\(2:Int)^(v+1) ∣ c/\(2:Int)^(v+1) ∣ d):=by
 obtain⟨v,q,e,o,bb⟩:=Bt.Y5t _ (orAll a b c d) (q5v _) hp
 refine⟨v,by rw[bb,Bt.Z8n];omega,orAll_dvd.mp ⟨q,e⟩,λh=>?_⟩
 have h':=orAll_dvd.mpr h
 obtain⟨k,hk⟩:=h'
 rw[e,q6s,q5z] at hk
 have:=q2q (q4g (Int.pow_pos (by decide):(0:Int)<2^v)) hk
 omega
theorem Z5v {x h m:Int}(hm:0<=m)(hmh:m<=h)(hd:(2:Int)^m.toNat ∣ x):Eq2 x h (x / 2^m.toNat) (h-m)/\(x / 2^m.toNat).natAbs<=x.natAbs:=by
 obtain⟨k,rfl⟩:=hd
 have hne:(2:Int)^m.toNat≠0:=Z6s m
 rw[q7d _ hne]
 constructor
 ·unfold Eq2
  rw[Z4u hm hmh]
  show 2^m.toNat*k*p2 (h-m)=k*(p2 (h-m)*2^m.toNat)
  grind
 ·rw[Int.natAbs_mul]
  exact q7w _ (by omega)
theorem Y2h {x:Int}{m v:Nat}(h:m<=v)(hd:(2:Int)^v ∣ x):(2:Int)^m ∣ x:=by
 obtain⟨k,rfl⟩:=hd
 refine⟨2^(v-m)*k,?_⟩
 rw[<-q5z,<-Int.pow_add,show m+(v-m)=v by omega]
theorem halve {a b c d h:Int}(hh:0<=h){v:Nat}(hd:(2:Int)^v ∣ a/\(2:Int)^v ∣ b/\(2:Int)^v ∣ c/\(2:Int)^v ∣ d)
  (hn:¬ ((2:Int)^(v+1) ∣ a/\(2:Int)^(v+1) ∣ b/\(2:Int)^(v+1) ∣ c/\(2:Int)^(v+1) ∣ d)) {m:Int} (hm:m=if h<v then h else v) :
  0<=m/\m<=h/\Amt (a / 2^m.toNat) (b / 2^m.toNat) (c / 2^m.toNat) (d / 2^m.toNat) (h-m)/\Same4 a b c d h (a / 2^m.toNat) (b / 2^m.toNat) (c / 2^m.toNat) (d / 2^m.toNat) (h-m) ∧
  ((a / 2^m.toNat).natAbs<=a.natAbs/\(b / 2^m.toNat).natAbs<=b.natAbs/\(c / 2^m.toNat).natAbs<=c.natAbs/\(d / 2^m.toNat).natAbs<=d.natAbs):=by
 have m0:0<=m:=by rw[hm];split<;>omega
 have m1:m<=h:=by rw[hm];split<;>omega
 have mv:m.toNat<=v:=by rw[hm];split<;>omega
 obtain⟨d1,d2,d3,d4⟩:=hd
 have q1:=Z5v m0 m1 (Y2h mv d1)
 have q2:=Z5v m0 m1 (Y2h mv d2)
 have q3:=Z5v m0 m1 (Y2h mv d3)
 have q4:=Z5v m0 m1 (Y2h mv d4)
 refine⟨m0,m1,⟨by omega,?_⟩,⟨q1.1,q2.1,q3.1,q4.1⟩,q1.2,q2.2,q3.2,q4.2⟩
 by_cases hlt:h<v
 ·left
  rw[hm,if_pos hlt]
  omega
 ·right
  have hmv:m.toNat=v:=by rw[hm,if_neg hlt];omega
  rw[hmv]
  have tail:∀ x:Int,(2:Int)^v ∣ x->¬ (x / 2^v)%2=1->(2:Int)^(v+1) ∣ x:=by
   rintro x ⟨k,rfl⟩ ho
   have hne:(2:Int)^v≠0:=q4g (Int.pow_pos (by decide))
   rw[q7d _ hne] at ho
   refine⟨k / 2,?_⟩
   rw[q6s,q5z]
   congr 1
   omega
  apply Classical.byContradiction
  intro hno
  apply hn
  refine⟨tail a d1 λo=>hno (.inl o),tail b d2 λo=>hno (.inr (.inl o)),tail c d3 λo=>hno (.inr (.inr (.inl o))),tail d d4 λo=>hno (.inr (.inr (.inr o)))⟩
end Am
namespace Pc
noncomputable def pc (n:Nat):Nat:=if h:n=0 then 0 else n%2+pc (n / 2)
theorem Z8b:pc 0=0:=by unfold pc;simp
theorem Z5d (n:Nat):pc n=n%2+pc (n / 2):=by
 by_cases h:n=0
 ·subst h;rw[show (0 / 2:Nat)=0 from rfl,Z8b]
 ·conv=>lhs;unfold pc
  rw[dif_neg h]
theorem Y5o (x y:Nat):(x^^^y)=2*((x / 2)^^^(y / 2))+(x%2+y%2)%2:=by
 have h1:(x^^^y) / 2=(x / 2)^^^(y / 2):=Nat.xor_div_two
 have h2:(x^^^y)%2=(x%2+y%2)%2:=by
  have:=Nat.xor_mod_two_eq_one (a:=x) (b:=y)
  rcases q0v x with a | a<;>rcases q0v y with b | b<;>rcases q0v (x^^^y) with c | c<;>simp[a,b,c] at this ⊢
 omega
theorem Y4w:∀ (m n:Nat),n<m->n≠0->pc (n&&&(n-1))+1=pc n
 | 0,n,h,_=>by omega
 | m+1,n,h,hn=>by
  have e:=Bt.Y0k n (n-1)
  rw[Z5d n,Z5d (n&&&(n-1))]
  rcases q0v n with a | a
  ·have e1:(n-1) / 2=n / 2-1:=by omega
   rw[e1,a,Nat.zero_mul] at e
   have e2:(n&&&(n-1)) / 2=n / 2&&&(n / 2-1):=by omega
   have e3:(n&&&(n-1))%2=0:=by omega
   rw[e2,e3,a]
   have:=Y4w m (n / 2) (by omega) (by omega)
   omega
  ·have e1:(n-1) / 2=n / 2:=by omega
   have e0:(n-1)%2=0:=by omega
   rw[e1,e0,Nat.mul_zero,Nat.and_self] at e
   have e2:(n&&&(n-1)) / 2=n / 2:=by omega
   have e3:(n&&&(n-1))%2=0:=by omega
   rw[e2,e3,a]
   omega
theorem X0w:∀ (m x y:Nat),x<m->y<m->pc (x^^^y)%2=(pc x+pc y)%2
 | 0,x,y,h,_=>by omega
 | m+1,x,y,hx,hy=>by
  by_cases z:x=0/\y=0
  ·obtain⟨rfl,rfl⟩:=z
   rw[show (0^^^0:Nat)=0 from rfl,Z8b]
  ·have e:=Y5o x y
   rw[Z5d (x^^^y),Z5d x,Z5d y,show (x^^^y) / 2=x / 2^^^y / 2 by omega]
   by_cases q:x / 2<m/\y / 2<m
   ·have:=X0w m (x / 2) (y / 2) q.1 q.2
    omega
   ·exfalso;omega
theorem pcx (x y:Nat):pc (x^^^y)%2=(pc x+pc y)%2:=X0w (x+y+1) x y (by omega) (by omega)
theorem X3g:∀ (m x y:Nat),x<m->y<m->(x ||| y)=(x^^^y)+(x&&&y)
 | 0,x,y,h,_=>by omega
 | m+1,x,y,hx,hy=>by
  by_cases z:x=0/\y=0
  ·obtain⟨rfl,rfl⟩:=z;rfl
  ·have e:=Y5o x y
   have e1:=Bt.Y0k x y
   have e2:=Bt.X6z x y
   by_cases q:x / 2<m/\y / 2<m
   ·have:=X3g m (x / 2) (y / 2) q.1 q.2
    rcases q0v x with a | a<;>rcases q0v y with b | b<;>rw[a,b] at e e1 e2<;>omega
   ·exfalso;omega
theorem Z5n (x y:Nat):Builtin.bitAnd (x:Int) (y:Int)=((x&&&y:Nat):Int):=by rw[bitAnd_pp (by omega) (by omega)];simp
theorem Z9y (x y:Nat):Builtin.bitXor (x:Int) (y:Int)=((x^^^y:Nat):Int):=by
 have h:Builtin.bitXor (x:Int) (y:Int)=Builtin.bitOr x y-Builtin.bitAnd x y:=rfl
 have h2:Builtin.bitOr (x:Int) (y:Int)=((x ||| y:Nat):Int):=by
  unfold Builtin.bitOr
  rw[bitAnd_nn (by unfold Builtin.bitNot;omega) (by unfold Builtin.bitNot;omega),q7f,q7f,q7f]
  simp
 rw[h,h2,Z5n,X3g (x+y+1) x y (by omega) (by omega)]
 omega
end Pc
namespace L2
theorem Same.tup {K:U0}{H H':Hp}{a:W9}{xs:List V}(e:Same H H')(h:SqT K H a xs):SqT K H' a xs:=by
 rcases h with h | h
 ·rcases h with h | ⟨o,h⟩
  ·exact .inl (.inl (e _ _ h))
  ·exact .inl (.inr ⟨o,e _ _ h⟩)
 ·exact .inr h
theorem Same.sqx {t:Bool}{K:U0}{H H':Hp}{a:W9}{xs:List V}(e:Same H H')(h:SqX t K H a xs):SqX t K H' a xs:=by
 cases t
 ·exact e.seq (show SqL K H a xs from h)
 ·exact e.tup (show SqT K H a xs from h)
section
variable {X:Cx}{scope:Scope}{Nc:W0}{ex:U3}{pins:U1}{s:U7}{H:Hp}
theorem Z8i:IxR (cxLc X scope Nc ex pins s H) (rIxL X.K):=Z0w
theorem Y0p:IxR (cxLc X scope Nc ex pins s H) (rIxT X.K):=Z0j
theorem Z4t {x y:Str}{k:Nat}{p1 p2 pos:Pos}(hc:(cxLc X scope Nc ex pins s H).calm=true)(hN:Nc.Nodup)(h0:Nc[0]?=some x)(h1:Nc[1]?=some y)(l0:(cxLc X scope Nc ex pins s H).env.scope.names.lookup x=some .local)(l1:(cxLc X scope Nc ex pins s H).env.scope.names.lookup y=some .local) :
  PG (cxLc X scope Nc ex pins s H) (.Tuple [.Name x p1,.Name y p2] k pos) (gTup X.K 2 (gCons (gName 0) (gCons (gName 1) gNil))) :=
 Z2z (X:=cxLc X scope Nc ex pins s H) hc (Z0v (Z0m (i:=0) hN h0 (.inl l0) (.inr l0)) (Z0v (Z0m (i:=1) hN h1 (.inl l1) (.inr l1)) Z2f))
end
theorem Y5u {t1 t2:Bool}{K:U0}{l1 l2:W9}{g:TG}{ns ms:U6}{te:TE}{fr:St}{H1:Hp}{acc:W9}{Q:VK}(f:Int->Int->Int)(hxy:ns.length=ms.length)(hn:ns.length<=sizeLine)
  (h1:SqX t1 K H1 l1 (ns.map V.int)) (h2:SqX t2 K H1 l2 (ms.map V.int)) (hacc:H1 acc=none)
  (hg:∀ {a:W9}{x y:V}{w1 w2:Option V}{H:Hp}{Q:St->Hp->Prop},H a=some (.tup [x,y])->Q (some x::some y::fr) H->g (.ref a) (w1::w2::fr) H Q)
  (hs:∀ n m H (N:V->Hp->Prop),n∈ns->m∈ms->N (.int (f n m)) H->te (some (.int n)::some (.int m)::fr) H N)
  (hd:∀ H2,Same H1 H2->H2 acc=some (.lst ((List.zipWith f ns ms).map V.int))->Q (.ref acc) H2):LcW (Itz t1 t2 K l1 l2) g te (none::none::fr) H1 acc Q:=by
 refine X7d (xs:=ns.map V.int) (ys:=ms.map V.int) (λi zs H'=>Same H1 H'/\H' acc=some (.lst zs)/\zs=((List.zipWith f ns ms).take i).map V.int) (by simp[hxy]) (by simp;exact hn)
  ⟨Z0f hacc _,Z0c,Z⟩ (λha hQ=>hg ha hQ) (λi zs H p=>⟨p.1.sqx h1,p.1.sqx h2⟩) ?_ ?_
 ·rintro i x y zs H T N hx hy hl ⟨s2,a2,e2⟩ hT kN
  rw[q0n] at hx hy
  obtain⟨n,hn1,rfl⟩:=q0l.mp hx
  obtain⟨m,hm1,rfl⟩:=q0l.mp hy
  refine hs n m _ _ (q0w hn1) (q0w hm1) ?_
  have hTa:acc≠T:=λe=>by rw[<-e,a2] at hT;cases hT
  refine kN _ _ (by rw[Z0t hTa];exact a2) ⟨Z1a (s2.trans (Z0f hT _)) hacc,Z0c,?_⟩
  have:(List.zipWith f ns ms)[i]?=some (f n m):=by rw[List.getElem?_zipWith,hn1,hm1]
  rw[q1f,this,q0k,e2]
  rfl
 ·rintro zs H hl ⟨s2,a2,e2⟩
  refine hd H s2 ?_
  rw[a2,e2,List.take_of_length_le]
  simp only[List.length_zipWith,q0a]
  omega
section
variable {K:U0}{a:W9}{ns:U6}{te:TE}{fr:St}{H1:Hp}{acc:W9}{Q:VK}
theorem Y0o {J:It}{n:Nat}{val:Nat->V}(f:Nat->V)(hn:n<=sizeLine)(hacc:H1 acc=none)
  (hgo:∀ i H,i<n->Same H1 H->J.go i H/\∀ x H',J.yld i H x H'->H'=H/\x=val i) (hst:∀ H,Same H1 H->J.stop n H)
  (hs:∀ i H (N:V->Hp->Prop),i<n->Same H1 H->N (f i) H->te (some (val i)::fr) H N)
  (hd:∀ H2,Same H1 H2->H2 acc=some (.lst ((List.range n).map f))->Q (.ref acc) H2):LcW J (gName 0) te (none::fr) H1 acc Q:=by
 refine X4o (val:=val) (λi ys H'=>Same H1 H'/\H' acc=some (.lst ys)/\ys=(List.range i).map f) hn ⟨Z0f hacc _,Z0c,Z⟩ (λi ys H hi p=>hgo i H hi p.1) (λys H p=>hst H p.1) ?_ ?_
 ·rintro i ys H N hi hl ⟨s2,a2,e2⟩ kN
  refine hs i H N hi s2 (kN _ _ a2 ⟨Z1a s2 hacc,Z0c,?_⟩)
  rw[e2,q6c,q0k]
  rfl
 ·rintro ys H hl ⟨s2,a2,e2⟩
  exact hd H s2 (by rw[a2,e2])
theorem Z6b (ns:U6)(f:Int->V):(List.range ns.length).map (λi=>f (ns.getD i 0))=ns.map f:=by
 apply q7p
 ·simp
 ·intro i h1 h2
  simp at h1
  simp[h1]
theorem Z8h (f:Int->V)(hl:SqL K H1 a (ns.map V.int))(hn:ns.length<=sizeLine)(hacc:H1 acc=none)(hs:∀ n H (N:V->Hp->Prop),Same H1 H->N (f n) H->te (some (.int n)::fr) H N)
  (hd:∀ H2,Same H1 H2->H2 acc=some (.lst (ns.map f))->Q (.ref acc) H2):LcW (Itl K a) (gName 0) te (none::fr) H1 acc Q:=by
 refine Y0o (n:=ns.length) (val:=λi=>.int (ns.getD i 0)) (λi=>f (ns.getD i 0)) hn hacc (λi H hi s=>?_) (λH s=>⟨_,s.seq hl,by simp⟩) (λi H N hi s kN=>hs _ H N s kN) (λH2 s h=>hd H2 s (by rw[h,Z6b]))
 have e:(ns.map V.int)[i]?=some (.int (ns.getD i 0)):=by simp[hi]
 refine⟨⟨_,_,s.seq hl,e⟩,λx H' y=>⟨y.1,?_⟩⟩
 have:=y.2 _ (s.seq hl)
 rw[e] at this
 exact(Option.some.inj this).symm
end
section
variable {X:Cx}
end
section
variable {κ:Type} [DecidableEq κ]
noncomputable def valV (kvs:List (κ × V))(k:κ):Option V:=(kvs.find? λkv=>decide (kv.1=k)).map (·.2)
noncomputable def putK (kvs:List (κ × V))(k:κ)(v:V):List (κ × V) :=
 if (kvs.any λkv=>decide (kv.1=k))=true then kvs.map (λkv=>if kv.1=k then (kv.1,v) else kv) else kvs++[(k,v)]
theorem X8t {k:κ}:valV ([]:List (κ × V)) k=none:=rfl
theorem Z2c {p:κ × V}{r:List (κ × V)}{k:κ}(e:p.1=k):valV (p::r) k=some p.2:=by simp[valV,q4f,e]
theorem Z2d {p:κ × V}{r:List (κ × V)}{k:κ}(e:¬ p.1=k):valV (p::r) k=valV r k:=by simp[valV,q4f,e]
theorem Z3u (k:κ):∀ kvs:List (κ × V),(kvs.any λkv=>decide (kv.1=k))=(valV kvs k).isSome
 | []=>rfl
 | p::r=>by
  rw[q5j]
  by_cases e:p.1=k
  ·simp only[Z2c e,q0t e,Bool.true_or,Option.isSome_some]
  ·rw[Z2d e,q0j e,q4k];exact Z3u k r
theorem Y0y (k j:κ)(y:V):∀ kvs:List (κ × V),valV (kvs.map λkv=>if kv.1=k then (kv.1,y) else kv) j=(valV kvs j).map λx=>if j=k then y else x
 | []=>rfl
 | p::r=>by
  have ih:=Y0y k j y r
  rw[q1k]
  by_cases h:p.1=k
  ·rw[if_pos h]
   by_cases e:p.1=j
   ·rw[Z2c (p:=(p.1,y)) e,Z2c e,q4b,if_pos (e.symm.trans h)]
   ·rw[Z2d (p:=(p.1,y)) e,Z2d e,ih]
  ·rw[if_neg h]
   by_cases e:p.1=j
   ·rw[Z2c (p:=p) e,Z2c e,q4b,if_neg (λz=>h (e.trans z))]
   ·rw[Z2d (p:=p) e,Z2d e,ih]
theorem Z8q (k j:κ)(y:V):∀ kvs:List (κ × V),valV kvs k=none->valV (kvs++[(k,y)]) j=if j=k then some y else valV kvs j
 | [],_=>by
  by_cases e:k=j
  ·rw[if_pos e.symm];exact Z2c (p:=(k,y)) e
  ·rw[if_neg (λz=>e z.symm)];exact Z2d (p:=(k,y)) e
 | p::r,hn=>by
  rw[List.cons_append]
  have hk:¬ p.1=k:=λz=>by rw[Z2c z] at hn;cases hn
  rw[Z2d hk] at hn
  have ih:=Z8q k j y r hn
  by_cases e:p.1=j
  ·rw[Z2c e,Z2c e,if_neg (λz=>hk (e.trans z))]
  ·rw[Z2d e,Z2d e,ih]
theorem Y7q (kvs:List (κ × V))(k j:κ)(y:V):valV (putK kvs k y) j=if j=k then some y else valV kvs j:=by
 unfold putK
 by_cases a:(kvs.any λkv=>decide (kv.1=k))=true
 ·rw[if_pos a,Y0y]
  rw[Z3u] at a
  by_cases e:j=k
  ·obtain⟨x,hx⟩:=q7a.mp a
   rw[if_pos e,e,hx,q4b,if_pos rfl]
  ·rw[if_neg e]
   cases valV kvs j with
   | none=>rfl
   | some x=>rw[q4b,if_neg e]
 ·rw[if_neg a]
  refine Z8q k j y kvs ?_
  rw[Z3u] at a
  cases q:valV kvs k with
  | none=>rfl
  | some x=>rw[q] at a;exact(a rfl).elim
theorem Z6h (kvs:List (κ × V))(k:κ)(v:V):(putK kvs k v).length<=kvs.length+1:=by
 unfold putK
 split
 ·rw[q0a];omega
 ·rw[q0x,q2k,q8k];omega
theorem Y8b {kvs:List (κ × V)}{k:κ}(v:V)(h:valV kvs k=none):putK kvs k v=kvs++[(k,v)]:=by
 unfold putK
 rw[Z3u,h]
 exact if_neg (by decide)
theorem RelO.isSome_eq {o:Option V}{u:Option Value}(r:RelO o u):o.isSome=u.isSome:=by
 cases o with
 | none=>cases u with
  | none=>rfl
  | some _=>exact(show False from r).elim
 | some _=>cases u with
  | none=>exact(show False from r).elim
  | some _=>rfl
theorem RelO.getD {o:Option V}{u:Option Value}{d:V}{d':W2}(r:RelO o u)(rd:RelV d d'):RelV (o.getD d) (u.getD d'):=by
 cases o with
 | none=>cases u with
  | none=>exact rd
  | some _=>exact(show False from r).elim
 | some _=>cases u with
  | none=>exact(show False from r).elim
  | some _=>exact r
theorem KV.val {kvs:List (κ × V)}{vs:List (κ × Value)}(r:KV kvs vs)(k:κ):RelO (valV kvs k) (valueAt vs k):=by
 unfold KV at r
 induction r with
 | nil=>exact True.intro
 | @cons p q ps qs h t ih =>
  obtain⟨h1,h2⟩:=h
  by_cases e:p.1=k
  ·have e':q.1=k:=h1.symm.trans e
   have b:valueAt (q::qs) k=some q.2:=by simp[valueAt,q4f,e']
   rw[Z2c e,b];exact h2
  ·have e':¬ q.1=k:=λz=>e (h1.trans z)
   have b:valueAt (q::qs) k=valueAt qs k:=by simp[valueAt,q4f,e']
   rw[Z2d e,b];exact ih
theorem KV.any {kvs:List (κ × V)}{vs:List (κ × Value)}(r:KV kvs vs)(k:κ):(kvs.any λkv=>decide (kv.1=k))=vs.any λkv=>decide (kv.1=k):=by
 unfold KV at r
 induction r with
 | nil=>rfl
 | cons h t ih=>rw[q5j,q5j,ih,h.1]
theorem KV.repl {kvs:List (κ × V)}{vs:List (κ × Value)}(r:KV kvs vs)(k:κ){y:V}{u:W2}(ry:RelV y u) :
  KV (kvs.map λkv=>if kv.1=k then (kv.1,y) else kv) (vs.map λkv=>if kv.1=k then (kv.1,u) else kv):=by
 unfold KV at r ⊢
 induction r with
 | nil=>exact .nil
 | @cons p q ps qs h t ih =>
  rw[q1k,q1k]
  refine .cons ?_ ih
  obtain⟨h1,h2⟩:=h
  by_cases e:p.1=k
  ·rw[if_pos e,if_pos (h1.symm.trans e)];exact⟨h1,ry⟩
  ·rw[if_neg e,if_neg (λz=>e (h1.trans z))];exact⟨h1,h2⟩
theorem KV.put {kvs:List (κ × V)}{vs:List (κ × Value)}(r:KV kvs vs)(k:κ){y:V}{u:W2}(ry:RelV y u):KV (putK kvs k y) (stored vs k u):=by
 unfold putK stored
 rw[r.any k]
 by_cases e:(vs.any λkv=>decide (kv.1=k))=true
 ·rw[if_pos e,if_pos e];exact r.repl k ry
 ·rw[if_neg e,if_neg e];exact Paired.snoc r ⟨Z,ry⟩
theorem KV.keys {kvs:List (κ × V)}{vs:List (κ × Value)}(r:KV kvs vs):kvs.map (·.1)=vs.map (·.1):=by
 unfold KV at r
 induction r with
 | nil=>rfl
 | cons h t ih=>rw[q1k,q1k,ih,h.1]
theorem KV.length {kvs:List (κ × V)}{vs:List (κ × Value)}(r:KV kvs vs):kvs.length=vs.length:=Paired.length r
end
theorem Y3h {P:U8}{w:W1}{k:Key}{u:W2}(r:RelV (kV k) u):(Z1p P w).is k u=true:=by
 cases k with
 | inl i=>obtain⟨t,e⟩:=(show ∃ t,u=Value.int i t from r);subst e;exact Y0m P w i t
 | inr x=>obtain⟨t,e⟩:=(show ∃ t,u=Value.str x t from r);subst e;exact Y0l P w x t
theorem Z9i {P:U8}{w:W1}:∀ {ks:List Key}{us:U5},Vals (ks.map kV) us->ItemsAre (Z1p P w) ks us
 | [],_,r=>by rw[q8h] at r;cases r;exact .nil
 | k::ks,_,r=>by
  rw[q1k] at r
  cases r with
  | cons h t=>exact .cons (Y3h h) (Z9i t)
abbrev KT (H:Hp):List (List Key × V)->List (List Key × Addr × Value)->Prop:=Paired λp q=>p.1=q.1/\H q.2.1=some (.tup (p.1.map kV))/\RelV p.2 q.2.2
theorem KT.val {H:Hp}{kvs:List (List Key × V)}{xs:List (List Key × Addr × Value)}(r:KT H kvs xs)(k:List Key):RelO (valV kvs k) ((atKey xs k).map (·.2)):=by
 induction r with
 | nil=>exact True.intro
 | @cons p q ps qs h t ih =>
  obtain⟨h1,_,h2⟩:=h
  by_cases e:p.1=k
  ·have e':q.1=k:=h1.symm.trans e
   have b:atKey (q::qs) k=some q.2:=by simp[atKey,q4f,e']
   rw[Z2c e,b];exact h2
  ·have e':¬ q.1=k:=λz=>e (h1.trans z)
   have b:atKey (q::qs) k=atKey qs k:=by simp[atKey,q4f,e']
   rw[Z2d e,b];exact ih
theorem KT.repl {H:Hp}{kvs:List (List Key × V)}{xs:List (List Key × Addr × Value)}(r:KT H kvs xs)(k:List Key){y:V}{u:W2}(ry:RelV y u) :
  KT H (kvs.map λkv=>if kv.1=k then (kv.1,y) else kv) (xs.map (putAt k u)):=by
 induction r with
 | nil=>exact .nil
 | @cons p q ps qs h t ih =>
  rw[q1k,q1k]
  refine .cons ?_ ih
  obtain⟨h1,h2,h3⟩:=h
  unfold putAt
  by_cases e:p.1=k
  ·rw[if_pos e,if_pos (h1.symm.trans e)];exact⟨h1,h2,ry⟩
  ·rw[if_neg e,if_neg (λz=>e (h1.trans z))];exact⟨h1,h2,h3⟩
theorem KT.put {H:Hp}{kvs:List (List Key × V)}{xs:List (List Key × Addr × Value)}(r:KT H kvs xs)(k:List Key){b:W9}{y:V}{u:W2}(hb:H b=some (.tup (k.map kV)))(ry:RelV y u) :
  KT H (putK kvs k y) (storedH xs k b u):=by
 have e:(kvs.any λkv=>decide (kv.1=k))=(atKey xs k).isSome:=by
  rw[Z3u,(r.val k).isSome_eq,Option.isSome_map]
 unfold putK storedH
 rw[e]
 by_cases q:(atKey xs k).isSome=true
 ·rw[if_pos q,if_pos q];exact r.repl k ry
 ·rw[if_neg q,if_neg q];exact Paired.snoc r ⟨Z,hb,ry⟩
theorem KT.keeps {H H':Hp}{kvs:List (List Key × V)}{xs:List (List Key × Addr × Value)}(r:KT H kvs xs)(ht:∀ b ys,H b=some (.tup ys)->H' b=some (.tup ys)):KT H' kvs xs :=
 Paired.mapP r λ_ _ z=>⟨z.1,ht _ _ z.2.1,z.2.2⟩
section
variable {P:U8}{w:W1}{H:Hp}{h:Heap}{a:W9}
theorem X6g {u:HO}(ok:HOk P w H h)(e:Rd H a u):ObjOk P w H h a u:=e.ok ok
theorem Y6o {kvs:List (Key × V)}(ok:HOk P w H h)(e:Rd H a (.dK kvs)):kvs.length<=sizeLine/\(a == sysModules)=false/\∃ vs,KV kvs vs/\h.DictOf (Z1p P w) a vs :=
 show ObjOk P w H h a (.dK kvs) from X6g ok e
theorem W0j {kvs:List (Key × V)}(ok:HOk P w H h)(e:H a=some (.dK kvs)):kvs.length<=sizeLine/\(a == sysModules)=false/\∃ vs,KV kvs vs/\h.DictOf (Z1p P w) a vs:=Y6o ok (.inl e)
theorem Y2d {ks:List Key}(ok:HOk P w H h)(e:H a=some (.tup (ks.map kV))):(tupleKind (Z1p P w)).is h ks a:=by
 obtain⟨_,its,r,o,h1,h2,n,h3⟩:=(show ObjOk P w H h a (.tup (ks.map kV)) from ok a _ e)
 exact⟨o,its.toArray,n,h1,h2,h3,by simpa using Z9i r⟩
theorem Y6n {kvs:List (List Key × V)}(ok:HOk P w H h)(e:Rd H a (.dT kvs)):kvs.length<=sizeLine/\(a == sysModules)=false ∧
  ∃ xs,KT H kvs xs/\h.DictOfH (tupleKind (Z1p P w)) a xs:=by
 obtain⟨z,y,xs,r,o,es,ep,h1,h2,h3,h4,h5⟩:=(show ObjOk P w H h a (.dT kvs) from X6g ok e)
 refine⟨z,y,xs,r,o,es,ep,h1,h2,h3,h4,λx hx=>?_,h5⟩
 have all:∀ {l:List (List Key × V)}{m:List (List Key × Addr × Value)},KT H l m->∀ x∈m,(tupleKind (Z1p P w)).is h x.1 x.2.1:=by
  intro l m q
  induction q with
  | nil=>intro x hx;exact nomatch hx
  | @cons p q ps qs hq t ih =>
   intro x hx
   rcases q0q.mp hx with e | hx
   ·subst e
    exact Y2d ok (by rw[<-hq.1];exact hq.2.1)
   ·exact ih x hx
 exact all r x hx
theorem W0i {kvs:List (List Key × V)}(ok:HOk P w H h)(e:H a=some (.dT kvs)):kvs.length<=sizeLine/\(a == sysModules)=false ∧
  ∃ xs,KT H kvs xs/\h.DictOfH (tupleKind (Z1p P w)) a xs:=Y6n ok (.inl e)
end
def DGet (H:Hp)(a:W9)(y:V)(r:Option V):Prop :=
 (∃ kvs k,Rd H a (.dK kvs)/\y=kV k/\r=valV kvs k)∨∃ kvs k b,Rd H a (.dT kvs)/\y=.ref b/\H b=some (.tup (k.map kV))/\r=valV kvs k
def DPut (H:Hp)(a:W9)(y v:V)(H':Hp):Prop :=
 (∃ kvs k,H a=some (.dK kvs)/\y=kV k/\kvs.length<sizeLine/\H'=upd H a (.dK (putK kvs k v))) ∨
 ∃ kvs k b,H a=some (.dT kvs)/\y=.ref b/\H b=some (.tup (k.map kV))/\kvs.length<sizeLine/\H'=upd H a (.dT (putK kvs k v))
theorem DGet.t {H:Hp}{a b:W9}{kvs:List (List Key × V)}{k:List Key}(e:H a=some (.dT kvs))(eb:H b=some (.tup (k.map kV))):DGet H a (.ref b) (valV kvs k):=.inr ⟨kvs,k,b,.inl e,Z,eb,Z⟩
theorem DPut.t {H:Hp}{a b:W9}{kvs:List (List Key × V)}{k:List Key}{v:V}(e:H a=some (.dT kvs))(eb:H b=some (.tup (k.map kV)))(hl:kvs.length<sizeLine) :
  DPut H a (.ref b) v (upd H a (.dT (putK kvs k v))):=.inr ⟨kvs,k,b,e,Z,eb,hl,Z⟩
section
variable {X:Cx}{pins:U1}{σ:St}{H:Hp}{s:U7}{a:W9}{y v:V}{u r:W2}{o:Option V}{A:W6}{E:U2}
theorem Inv.big (I:Inv X pins σ H s):sysModules<s.heap.objs.size:=by
 have h:mainGlobals<s.heap.objs.size:=(I.mod.glob.keeps I.bk).lt
 exact Nat.lt_trans (by decide) h
theorem Y6u {Q:U2}(hu:A.units+1<cLine)(I:Inv X pins σ H s)(g:DGet H a y (some v))(ry:RelV y u)(h:∀ w' s',Inv X pins σ H s'->RelV v w'->Q w' s') :
  wpAny (model X.prog X.w) A (getItem (.ref a) u) Q E s:=by
 rcases g with ⟨kvs,k,e,ey,l⟩ | ⟨kvs,k,b,e,ey,eb,l⟩
 ·subst ey
  obtain⟨z,hd,vs,rel,dd⟩:=Y6o I.hok e
  obtain⟨w',hw,rw'⟩:=RelO.some_of (v:=v) (o:=valueAt vs k) (by rw[l];exact rel.val k)
  exact wpAny_getItem_of (Y3h ry) dd.mapOf hw (h w' _ (I.tok _) rw')
 ·subst ey
  cases (show u=Value.ref b from ry)
  obtain⟨z,hd,xs,rel,dd⟩:=Y6n I.hok e
  obtain⟨w',hw,rw'⟩:=RelO.some_of (v:=v) (o:=(atKey xs k).map (·.2)) (by rw[l];exact rel.val k)
  obtain⟨p,hp,hp2⟩:=q0l.mp hw
  refine wpAny_getItem_heap (q6l hu) (Y2d I.hok eb) dd hp ?_
  rw[hp2]
  exact h w' _ (I.tok _) rw'
theorem Y6s {h':Heap}{t':Nat}{ob:HO}(I:Inv X pins σ H s)(mu:Mut (H a))(hs:Heap.SameBut a s.heap h')(he:∃ q,h'.get? a=some q)(new:ObjOk X.prog X.w (upd H a ob) h' a ob) :
  Inv X pins σ (upd H a ob) { s with heap:=h',toks:=t' } :=
 I.write (x:=a) (e:=a) mu (.inl rfl) (λb q hb z=>(hs.2 b hb).trans z) he new
theorem X8d {P:U8}{w:W1}{H':Hp}{h':Heap}{kvs:List (Key × V)}{vs:List (Key × Value)}(z:kvs.length<=sizeLine)(hd:(a == sysModules)=false)(rel:KV kvs vs)(dd:h'.DictOf (Z1p P w) a vs) :
  ObjOk P w H' h' a (.dK kvs):=⟨z,hd,vs,rel,dd⟩
theorem Y6t {H':Hp}{Q:Unit->Shared->Prop}(hu:A.units+1<cLine)(I:Inv X pins σ H s)(g:DPut H a y v H')(ry:RelV y u)(rv:RelV v r)(h:∀ s',Inv X pins σ H' s'->Q () s') :
  wpAny (model X.prog X.w) A (setItem (.ref a) u r) Q E s:=by
 rcases g with ⟨kvs,k,e,ey,l,eH⟩ | ⟨kvs,k,b,e,ey,eb,l,eH⟩
 ·subst ey eH
  obtain⟨z,hd,vs,rel,dd⟩:=W0j I.hok e
  have hz:vs.length<=sizeLine:=by rw[<-rel.length];exact z
  have hl:(putK kvs k v).length<=sizeLine:=by have:=Z6h kvs k v;omega
  refine wpAny_setItem_pairs (hsz:=hz) (Y3h ry) dd λh' dd' hs=>h _ ?_
  have he:∃ q,h'.get? a=some q:=let ⟨q,_,_,hq,_⟩:=dd';⟨q,hq⟩
  exact Y6s I (by rw[e];exact True.intro) hs he (X8d hl hd (rel.put k rv) dd')
 ·subst ey eH
  cases (show u=Value.ref b from ry)
  obtain⟨z,hd,xs,rel,dd⟩:=W0i I.hok e
  have hz:xs.length<=sizeLine:=by rw[<-Paired.length rel];exact z
  have hl:(putK kvs k v).length<=sizeLine:=by have:=Z6h kvs k v;omega
  refine wpAny_setItem_heap (hsz:=hz) (q6l hu) (Y2d I.hok eb) dd λh' dd' hs=>h _ ?_
  obtain⟨q,es,ep,hq,h2,h3,h4,_,h5⟩:=dd'
  refine Y6s I (by rw[e];exact True.intro) hs ⟨q,hq⟩ ⟨hl,hd,_,(rel.put k eb rv).keeps λc ys ec=>?_,q,es,ep,hq,h2,h3,h4,h5⟩
  rw[Z0t (Z4v ec e (λz=>nomatch z))]
  exact ec
end
section
variable {X:Cx}{pins:U1}{σ:St}{H:Hp}{s:U7}{a:W9}{kvs:List (Key × V)}{k:Key}{u:W2}{A:W6}{E:U2}
end
def NoSl (i:Expr):Prop:=∀ ov iv,subscripted i false ov iv=operate [ov,iv] (getItem ov iv)
theorem Y3w {prog:U8}{w:W1}{A:W6}{E:U2}{s:U7}{env:Env}{value slice:Expr}{pos:Pos}{T id:String}{Q:U2}
  (hl:typeLookup (.type T) "__getitem__"=pure (some (.builtin id))) (hs:NoSl slice)
  (h:wpAny (model prog w) A (eval value env) (λo s₁=>wpAny (model prog w) A (eval slice env) (λi s₂=>s₂.TypeIs o T/\wpAny (model prog w) A (getItem o i) Q E s₂) E s₁) E s) :
  wpAny (model prog w) A (eval (.Subscript value slice pos) env) Q E s:=by
 refine Subscript_ (q1i h (λo s₁ h₁=>q1i h₁ (λi s₂ h₂=>?_) λ_ _ x=>x) λ_ _ x=>x)
 obtain⟨hT,h₂⟩:=h₂
 unfold subscriptTail
 refine q0b ?_
 rw[getitemInPython_of_ne hT.not_modules]
 refine q0b (wpAny_specialOf hT hl ?_)
 have fin:wpAny (model prog w) A (subscripted slice false o i) (λr s₃=>wpAny (model prog w) A (letTemporaryGo value o r >>= λ_=>pure r) Q E s₃) E s₂:=by
  rw[hs o i]
  exact wpAny_operating (q1i h₂ (λr s₃ h₃=>q0b (wpAny_letTemporaryGo (q0g h₃))) λ_ _ x=>x)
 first
  | exact q0g (q0b fin)
  | exact q0b (q0g (q0b fin))
  | exact q0b fin
theorem Y0s {X:Cx}{pins:U1}{σ:St}{H:Hp}{s:U7}{a:W9}{y:V}{o:Option V}(I:Inv X pins σ H s)(g:DGet H a y o):s.TypeIs (.ref a) "dict":=by
 rcases g with ⟨kvs,k,e,_,_⟩ | ⟨kvs,k,b,e,_,_,_⟩
 ·obtain⟨_,_,vs,_,dd⟩:=Y6o I.hok e
  exact dd.typeIs
 ·obtain⟨_,_,xs,_,dd⟩:=Y6n I.hok e
  exact dd.typeIs
def tDGet (td ty:TE):TE:=λσ H Q=>td σ H λx H1=>ty σ H1 λy H2=>∃ a v,x=.ref a/\DGet H2 a y (some v)/\Q v H2
def sDPut (td ty tv:TE):TS:=λD σ H=>tv σ H λv H1=>td σ H1 λx H2=>ty σ H2 λy H3=>∃ a H4,x=.ref a/\DPut H3 a y v H4/\D.nx σ H4
section
variable {X:Cx}{o i e value:Expr}{pos pos' tpos:Pos}{td ty tv:TE}
theorem Y4t (hu:X.A.units+1<cLine)(ho:PE X o td)(hi:PE X i ty)(hs:NoSl i):PE X (.Subscript o i pos) (tDGet td ty):=by
 intro pins s σ H Q I h
 refine Y3w q6v.lookup hs (thn (ho pins s σ H _ I h) λu s1 ⟨x,H1,I1,rx,q1⟩=>thn (hi pins s1 σ H1 _ I1 q1) λiv s2 ⟨y,H2,I2,ry,a,v,ex,g,q2⟩=>?_)
 subst ex
 obtain rfl:u=Value.ref a:=rx
 exact⟨Y0s I2 g,Y6u hu I2 g ry λw' s3 I3 rw'=>⟨v,H2,I3,rw',q2⟩⟩
theorem X2x (hu:X.A.units+1<cLine)(ho:PE X o td)(hi:PE X i ty)(hv:PE X value tv)(hs:swapsWith value (some (.Subscript o i pos')) pos.line X.env=pure false) :
  PS X (.Assign [.Subscript o i pos'] value pos) (sDPut td ty tv):=by
 intro pins s σ H D I h
 refine wpAny_Assign_Subscript (thn (hv pins s σ H _ I h) λr s1 ⟨v,H1,I1,rv,q1⟩=>thn (ho pins s1 σ H1 _ I1 q1) λu s2 ⟨x,H2,I2,rx,q2⟩=>thn (hi pins s2 σ H2 _ I2 q2) λiv s3 ⟨y,H3,I3,ry,a,H4,ex,g,q3⟩=>?_) hs
 subst ex
 obtain rfl:u=Value.ref a:=rx
 exact Y6t hu I3 g ry rv λs4 I4=>⟨σ,H4,I4,q3⟩
end
theorem Y9q {P:U8}{w:W1}{H:Hp}(h:Heap)(hb:sysModules<h.objs.size):ObjOk P w H (h.push { cls:=.type "dict",data:=.dict #[] }) h.objs.size (.dT []) :=
 ⟨q1d _,beq_eq_false_iff_ne.mpr (Ne.symm (q0r hb)),[],.nil,_,#[],0,q0m _ rfl,⟨Z,Z,Z⟩,Z,Z,List.nodup_nil⟩
def tDNewT:TE:=λ_ H Q=>∀ p,H p=none->Q (.ref p) (upd H p (.dT []))
section
variable {X:Cx}{pos:Pos}
theorem Y8d:PE X (.Dict [] [] pos) tDNewT:=λpins s σ H Q I h =>
 wpAny_Dict_empty ⟨.ref s.heap.objs.size,_,I.laid (a:=s.heap.objs.size) (o:=.dT []) (t':=s.toks) (λ_ _ q=>q0c _ q) (q0f _) (Y9q s.heap I.big),Z,h _ (I.hok.fresh (q0f _))⟩
end
structure M2 (X:Cx) (o:Expr) (m:Str) (apos:Pos) (e f:Expr) (cpos:Pos):Prop where
 base:attributeBase o m X.env (eval o X.env)=eval o X.env
 few:((backTo cpos (starEach [e,f] X.env)).all (λx=>!x.1) && (backToKw cpos (keywordEach [] X.env)).all (λx=>x.1.isSome)
  && decide (([e,f]:List Expr).length+([]:List Keyword).length+(if ([]:List Keyword).isEmpty then 0 else 1)<30))=true
 line:(apos.endLine == cpos.line)=true
 trees:backTo cpos (starEach [e,f] X.env)=[(false,eval e X.env),(false,eval f X.env)]
def IsD (H:Hp)(a:W9):Prop:=(∃ kvs,Rd H a (.dK kvs))∨∃ kvs,Rd H a (.dT kvs)
theorem X7w {X:Cx}{pins:U1}{σ:St}{H:Hp}{s:U7}{a:W9}(I:Inv X pins σ H s)(d:IsD H a) :
  s.TypeIs (.ref a) "dict"/\(∀ b,Value.ref a=.ref b->∃ ob,s.heap.get? b=some ob/\ob.dict=none)/\(a == sysModules)=false:=by
 rcases d with ⟨kvs,e⟩ | ⟨kvs,e⟩
 ·obtain⟨_,hd,vs,_,dd⟩:=Y6o I.hok e
  refine⟨dd.typeIs,λb q=>?_,hd⟩
  cases q
  obtain⟨ob,_,_,h1,h2,_⟩:=dd
  exact⟨ob,h1,h2.2.1⟩
 ·obtain⟨_,hd,xs,_,dd⟩:=Y6n I.hok e
  refine⟨dd.typeIs,λb q=>?_,hd⟩
  cases q
  obtain⟨ob,_,_,h1,h2,_⟩:=dd
  exact⟨ob,h1,h2.2.1⟩
section
variable {X:Cx}{pins:U1}{σ:St}{H:Hp}{s:U7}{a:W9}{y d:V}{u r:W2}{o:Option V}{A:W6}{E:U2}
theorem X8e {Q:U2}(hu:A.units+1<cLine)(I:Inv X pins σ H s)(g:DGet H a y o)(ry:RelV y u)(rd:RelV d r)(h:∀ w' s',Inv X pins σ H s'->RelV (o.getD d) w'->Q w' s') :
  wpAny (model X.prog X.w) A (call (.builtin "dict.get") [.ref a,u,r]) Q E s:=by
 rcases g with ⟨kvs,k,e,ey,l⟩ | ⟨kvs,k,b,e,ey,eb,l⟩
 ·subst ey
  obtain⟨z,hd,vs,rel,dd⟩:=Y6o I.hok e
  refine call_meetsIn q5r dd.typeIs q7v (q7i _ _ _) (meets_dict_get_default (Z1p X.prog X.w) a (Y3h ry) hd r) ⟨_,dd.mapOf,h _ _ (I.tok _) ?_⟩
  rw[l]
  exact(rel.val k).getD rd
 ·subst ey
  cases (show u=Value.ref b from ry)
  obtain⟨z,hd,xs,rel,dd⟩:=Y6n I.hok e
  refine call_meetsIn q5r dd.typeIs q7v (q7i _ _ _) (meetsH_dict_get_default (tupleKind (Z1p X.prog X.w)) a b hd r) ⟨q6l hu,k,xs,Y2d I.hok eb,dd,h _ _ (I.tok _) ?_⟩
  rw[l]
  exact(rel.val k).getD rd
end
def tDGet2 (td ty tx:TE):TE:=λσ H Q=>td σ H λx H1=>∃ a,x=.ref a/\IsD H1 a/\ty σ H1 λy H2=>tx σ H2 λz H3=>∃ o,DGet H3 a y o/\Q (o.getD z) H3
section
variable {X:Cx}{o e f:Expr}{apos cpos:Pos}{td ty tx:TE}
theorem Y8e (hu:X.A.units+1<cLine)(ho:PE X o td)(he:PE X e ty)(hf:PE X f tx)(m:M2 X o "get" apos e f cpos):PE X (.Call (.Attribute o "get" apos) [e,f] [] cpos) (tDGet2 td ty tx):=by
 intro pins s σ H Q I h
 refine wpAny_Call_method m.base m.few m.line PySem.F.plainAttrs_dict q5r PySem.F.type_dict_get (thn (ho pins s σ H _ I h) λu s1 ⟨x,H1,I1,rx,a,ex,d,q1⟩=>?_)
 subst ex
 obtain rfl:u=Value.ref a:=rx
 obtain⟨t1,t2,_⟩:=X7w I1 d
 refine⟨t1,t2,?_⟩
 rw[m.trees]
 refine Calls.callWith_builtin rfl (Calls.evalArgs_plain (Calls.spliced_cons (thn (he pins s1 σ H1 _ I1 q1) λiv s2 ⟨y,H2,I2,ry,q2⟩ =>
  Calls.spliced_cons (thn (hf pins s2 σ H2 _ I2 q2) λfv s3 ⟨z,H3,I3,rz,ov,g,q3⟩=>Calls.spliced_nil ?_))))
 exact X8e hu I3 g ry rz λw' s4 I4 rw'=>⟨_,H3,I4,rw',q3⟩
end
end L2
namespace L2
def CMulG (i j:Int):Prop:=∃ a b,Sz a i/\Sz b j/\a+b<=100000000
theorem CMulG.ok {i j:Int}(h:CMulG i j):IntMulOk i j:=by
 obtain⟨a,b,h1,h2,h3⟩:=h
 have e1:=h1.bits
 have e2:=h2.bits
 unfold IntMulOk
 rw[show Builtin.Int.intTooBig (Builtin.Int.intBits i+Builtin.Int.intBits j)=false by
  unfold Builtin.Int.intTooBig
  have:bitsLine=134217728:=rfl
  rw[this]
  exact q0j (by omega)]
 simp
section
variable {X:Cx}
theorem Z2x:OpR X (binaryOp .Mult) (rI CMulG λi j=>.int (i*j)):=opI λ_ _ _ _ _ _ _ hc q=>mul_int q hc.ok
theorem Z3a (hc:X.calm=true):CallR X (.builtin "all") (λxs H Q=>∃ (p:W9) (bs:List Bool),xs=[.ref p]/\SqL X.K H p (bs.map V.bl)/\Q (.bl (bs.all id)) H):=by
 intro pins s σ H xs us Q I r h
 obtain⟨p,bs,rfl,hq,q⟩:=h
 obtain⟨u,rfl,ru⟩:=r.one
 cases ru
 obtain⟨its,rv,pl,hz⟩:=I.list hq
 have hlen:its.length=bs.length:=by rw[<-rv.length,q0a]
 refine call_all_walk (q5n pl.isList ?_)
 have W:=Walks.list (prog:=X.prog) (w:=X.w) (A:=X.A.in1) (show X.A.in1.handled=none from I.ok.hd hc) s.heap.objs.size p (by
  obtain⟨o,e,_⟩:=pl.isList
  exact q0r (q0e e)) its.toArray
 refine⟨s.heap.objs.size,_,_,_,_,_,λi=>bs.getD i false,Z,W,⟨⟨_,q0m _ rfl,Z,Z⟩,pl.isList.push _⟩,?_,λh' tk hk=>?_⟩
 ·intro i v s' Q' E' hv hQ
  have hv':its[i]?=some v:=by simpa using hv
  have hi:i<bs.length:=by rw[<-hlen];exact(q0o.mp hv').1
  obtain⟨u,hu,ru⟩:=rv.get (show (bs.map V.bl)[i]?=some (.bl (bs.getD i false)) by simp[hi])
  rw[hv'] at hu
  cases hu
  cases ru
  exact q2b hQ
 ·have e:(List.range its.toArray.size).all (λi=>bs.getD i false)=bs.all id:=by
   rw[q0h,hlen,q4h,q2l,q2l]
   constructor
   ·intro z b hb
    obtain⟨i,hi,rfl⟩:=List.mem_iff_getElem.mp hb
    have:=z i (q1q.mpr hi)
    simpa [hi] using this
   ·intro z i hi
    have hi':i<bs.length:=q1q.mp hi
    have:=z bs[i] (q3w hi')
    simpa [hi'] using this
  rw[e]
  refine⟨.bl (bs.all id),H,?_,Z,q⟩
  exact I.kept (t':=tk) λb o eo=>hk b o (by simp;exact q0r (q0e eo)) (q0c _ eo)
end
section
variable {P:U8}{w:W1}{H:Hp}{h:Heap}
end
section
variable {X:Cx}
end
section
variable {X:Cx}{scope:Scope}{Nc:W0}{ex:U3}{pins:U1}{s:U7}{H:Hp}
theorem Y1v (hu:X.A.units+64<cLine):OpR (cxLc X scope Nc ex pins s H) (compareOp .Eq) (rEqTI X.K false):=Y0h hu
theorem Y8f (hu:X.A.units+64<cLine):OpR (cxLc X scope Nc ex pins s H) (compareOp .NotEq) (rEqTI X.K true):=Y5a hu
end
end L2
namespace L2
open PySem.W PySem.Calls
def Light (ns:U6):Prop:=∀ n∈ns,Sz 1048576 n
theorem Z5j:∀ {ns:U6}{W:Nat},WData.weightAll (ns.map WData.int)<=W->∀ n∈ns,Sz W n
 | m::r,W,h,n,hn=>by
  simp only[q1k,WData.weightAll,WData.weight] at h
  rcases q0q.mp hn with rfl | hn
  ·unfold Sz
   by_cases z:n=0
   ·subst z;exact q3c _
   ·have zb:(n == 0)=false:=by simpa using z
    rw[zb,if_neg (by simp)] at h
    have h1:n.natAbs.log2<W:=by omega
    exact(Nat.log2_lt (by omega)).mp h1
  ·exact Z5j (W:=W) (by omega) n hn
theorem Y9b {ns:U6}(h:WData.layableAll [WData.list (ns.map WData.int)]=true):Light ns:=by
 simp only[WData.layableAll,q7m,List.all_nil,Bool.and_true,WData.layable,q0y,q1n] at h
 exact Z5j (W:=1048576) (by have:=h.2;simpa [WData.weight] using this)
theorem Z9w {l:OpenLaw}{n:Nat}{q:U8}{loose:W0}{XP:(Str->Option Value)->Heap->Prop}{YP:World->Heap->Prop}{d:DefRec}
  (hn:l.most=some n) (hdf:d.params.defaults=[])
  (call:∀ (w:W1) (s₀ s₁:U7) (mg mb:U4) (fa:W9) (o:Obj) (pm cd doc:W2) (a:W9) (vs:U5) (ns:U6),Light ns →
   Ground q loose [] XP w s₀ mg mb s₁.heap->YP w s₁.heap →
   s₁.heap.get? fa=some o->o.data=.func (docDef d.name d.params d.body d.scope pm cd doc)->s₁.heap.CodeRec cd d.name->mg d.name=some (.ref fa) →
   s₁.heap.get? a=some { cls:=.type "list",data:=.seq vs.toArray }->IntsAre vs ns->ns.length<=n->s₁.gens=#[] →
   codeAny (model l.prog w) callerA (.call (.ref fa) ⟨[.ref a],[]⟩) (λr s'=>r=.ok (.ret (.bool true))/\OldK s₁.heap s'.heap/\s'.os=s₁.os/\AllBare s'.gens) s₁) :
  WalkO q loose XP YP l.row.toRowW d [] (λf vs=>PySem.call f vs):=by
 intro w s₀ s₁ mg mb G Y fa o pm cd doc dV kV ho hd hcd hD hmg hg args vals as hpre hlay hrd hwl hlo
 obtain rfl:dV=.none:=Dflts.none hD hdf
 obtain rfl:kV=.none:=Dflts.noKw hD
 obtain⟨a,vs,ns,rfl,rfl,hobj,hints,hlen⟩:=Att.Y4j hn hpre hwl
 refine enter_call (q3n (call w s₀ s₁ mg mb fa o pm cd doc a vs ns (Y9b hlay) G Y ho (fd_plain hd) hcd hmg hobj hints hlen hg) λr s' hq=>?_)
 obtain⟨rfl,h2,h3,h4⟩:=hq
 exact⟨.inl ⟨.bool true,.bool true,[],Z,λ_=>rfl,.bool true,Att.Y4p l _,λ_=>⟨List.Pairwise.nil,λ_ hm=>(nomatch hm)⟩⟩,h2,h3,h4⟩
theorem Y2m {l:PySem.W.OpenLaw}{n k:Nat}{q:U8}{loose:W0}{XP:(Str->Option Value)->Heap->Prop}{YP:World->Heap->Prop}{d:DefRec}{K:Params->U0}{CX:World->CXT}{sp:World->Sp}{x:Str}
  (hn:l.most=some n) (hn2:n<=sizeLine) (hdf:d.params.defaults=[]) (hr:Room k callerA)
  (hY:∀ (w:W1) (h:Heap),YP w h->(K w.params).In h)
  (F:∀ (w:W1) (mg:U4) (fa:W9) (h:Heap),(K w.params).In h->h.Ns mainGlobals mg->mg d.name=some (.ref fa) →
   ∃ fd:FuncData,(∀ (s:U7) (u:W2),BindsTo s fd ⟨[u],[]⟩ [(x,u)]) ∧
    ∀ base:Heap,(K w.params).In base->base.Ns mainGlobals mg->FnOk l.prog w (K w.params) mg base (CX w) k fa fd [x] (sp w))
  (hsp:∀ (w:W1) (H:Hp) (a:W9) (ns:U6),ns.length<=n->Light ns->SqL (K w.params) H a (ns.map V.int)->sp w [.ref a] H (λv _=>v=.bl true) λ_ _ _=>False)
  (hCX:∀ (w:W1) (H:Hp) (s:U7) (e:W2) (s':U7),CX w [] H s (λ_ _ _=>False) e s'->False) :
  PySem.W.WalkO q loose XP YP l.row.toRowW d [] (λf vs=>PySem.call f vs):=by
 refine Z9w hn hdf λw s₀ s₁ mg mb fa o pm cd doc a vs ns lt G Y ho hd hcd hmg hobj hints hlen hg=>?_
 have KX:=hY w _ Y
 obtain⟨fd,hb,hF⟩:=F w mg fa _ KX G.T.g hmg
 exact Y9g KX G.T.g G.T.b G.T.builtins G.T.nolimit hg hobj hints (q1m hlen hn2) hr hF hb (λH _ hS=>hsp w H a ns hlen lt hS) λH e s'=>hCX w H s₁ e s'
end L2
namespace Ba
open L2 Am Pc
noncomputable abbrev T5 (a b c d h:Int):HO:=.tup [.int a,.int b,.int c,.int d,.int h]
structure Red (a b c d h x y z u g:Int):Prop where
 amt:Amt x y z u g
 same:Same4 a b c d h x y z u g
 s1:x.natAbs<=a.natAbs
 s2:y.natAbs<=b.natAbs
 s3:z.natAbs<=c.natAbs
 s4:u.natAbs<=d.natAbs
 le:g<=h
structure Sz4 (n:Nat) (a b c d:Int):Prop where
 z1:Sz n a
 z2:Sz n b
 z3:Sz n c
 z4:Sz n d
theorem Red.sz {a b c d h x y z u g:Int}{n:Nat}(r:Red a b c d h x y z u g)(s:Sz4 n a b c d):Sz4 n x y z u:=⟨s.z1.le r.s1,s.z2.le r.s2,s.z3.le r.s3,s.z4.le r.s4⟩
theorem Sz4.mono {m n:Nat}{a b c d:Int}(s:Sz4 m a b c d)(h:m<=n):Sz4 n a b c d:=⟨s.z1.mono h,s.z2.mono h,s.z3.mono h,s.z4.mono h⟩
noncomputable def rot:Nat->Int × Int × Int × Int->Int × Int × Int × Int
 | 0,v=>v
 | n+1,v=>let (a,b,c,d):=rot n v;(-d,a,b,c)
noncomputable abbrev T4 (v:Int × Int × Int × Int)(h:Int):HO:=T5 v.1 v.2.1 v.2.2.1 v.2.2.2 h
abbrev A5:=(Int × Int × Int × Int) × Int
noncomputable abbrev tA (x:A5):HO:=T4 x.1 x.2
noncomputable def spin (x:A5)(k:Int):A5:=(rot (k%8).toNat x.1,x.2)
structure Ok5 (n:Nat) (m:Int) (x:A5):Prop where
 sz:Sz4 n x.1.1 x.1.2.1 x.1.2.2.1 x.1.2.2.2
 amt:Amt x.1.1 x.1.2.1 x.1.2.2.1 x.1.2.2.2 x.2
 le:x.2<=m
theorem Ok5.mono {n n':Nat}{m m':Int}{x:A5}(o:Ok5 n m x)(h:n<=n')(h':m<=m'):Ok5 n' m' x:=⟨o.sz.mono h,o.amt,q9c o.le h'⟩
theorem Z6f {n:Nat}{m:Int}{v:Int × Int × Int × Int}{h:Int}(o:Ok5 n m (v,h)):∀ k,Ok5 n m (rot k v,h)
 | 0=>o
 | k+1=>by
  have:=Z6f o k
  show Ok5 n m ((-(rot k v).2.2.2,(rot k v).1,(rot k v).2.1,(rot k v).2.2.1),h)
  refine⟨⟨this.sz.z4.neg,this.sz.z1,this.sz.z2,this.sz.z3⟩,⟨this.amt.nn,?_⟩,this.le⟩
  have o:h=0∨(rot k v).1%2=1∨(rot k v).2.1%2=1∨(rot k v).2.2.1%2=1∨(rot k v).2.2.2%2=1:=this.amt.odd
  show h=0∨(-(rot k v).2.2.2)%2=1∨(rot k v).1%2=1∨(rot k v).2.1%2=1∨(rot k v).2.2.1%2=1
  omega
def Vals5 (H:Hp)(ps:U3)(f:Nat->A5):Prop:=∀ i p,ps[i]?=some p->H p=some (tA (f i))
theorem Vals5.same {H H':Hp}{ps:U3}{f:Nat->A5}(v:Vals5 H ps f)(s:Same H H'):Vals5 H' ps f:=λi p e=>s _ _ (v i p e)
noncomputable def l5 (x:A5):List Int:=[x.1.1,x.1.2.1,x.1.2.2.1,x.1.2.2.2,x.2]
structure Hv (a b c d h x y z u g:Int):Prop where
 same:Same4 a b c d h x y z u g
 s1:x.natAbs<=a.natAbs
 s2:y.natAbs<=b.natAbs
 s3:z.natAbs<=c.natAbs
 s4:u.natAbs<=d.natAbs
 le:g<=h
 nn:0<=g
theorem Hv.red {a b c d h x y z u g:Int}(v:Hv a b c d h x y z u g)(o:g=0∨x%2=1∨y%2=1∨z%2=1∨u%2=1):Red a b c d h x y z u g:=⟨⟨v.nn,o⟩,v.same,v.s1,v.s2,v.s3,v.s4,v.le⟩
theorem Z8j {x g:Int}(hx:x%2=0)(hg:0<g):Eq2 x g (x / 2) (g-1):=by
 unfold Eq2
 have e:p2 g=p2 (g-1)*2:=by rw[Z4u (a:=g) (b:=1) (by decide) (by omega)];rfl
 rw[e]
 have:x=2*(x / 2):=by omega
 generalize x / 2=y at *
 subst this
 grind
theorem Hv.half {a b c d h x y z u g:Int}(v:Hv a b c d h x y z u g)(hg:0<g)(e:x%2=0/\y%2=0/\z%2=0/\u%2=0):Hv a b c d h (x / 2) (y / 2) (z / 2) (u / 2) (g-1):=by
 obtain⟨e1,e2,e3,e4⟩:=e
 have:=v.s1;have:=v.s2;have:=v.s3;have:=v.s4;have:=v.le
 exact⟨v.same.trans ⟨Z8j e1 hg,Z8j e2 hg,Z8j e3 hg,Z8j e4 hg⟩,by omega,by omega,by omega,by omega,by omega,by omega⟩
theorem all4 {a b c d:Int}:(([a,b,c,d].map λn=>decide (V.int (n%2)=V.int 0)).all id=true) ↔ (a%2=0/\b%2=0/\c%2=0/\d%2=0):=by
 have e:∀ n:Int,decide (V.int (n%2)=V.int 0)=true ↔ n%2=0:=λn=>by rw[decide_eq_true_iff];exact⟨λz=>V.int.inj z,λz=>by rw[z]⟩
 simp only[q1k,q8h,q7m,List.all_nil,id,Bool.and_true,q0y,e]
noncomputable abbrev M3 (q f s:Nat):HO:=.tup [.int q,.int f,.int s]
noncomputable def cell (ns:U6)(i:Int):Int:=if i<ns.length then ns.getD i.toNat 0 else 0
theorem X4x {ns:U6}(h:Light ns)(i:Int):Sz 1048576 (cell ns i):=by
 unfold cell
 have z0:Sz 1048576 0:=by unfold Sz;exact q3c _
 split
 ·rw[q0i]
  cases e:ns[i.toNat]? with
  | none=>exact z0
  | some n=>exact h n (q0w e)
 ·exact z0
def spSpin:Sp:=λvs H Q _=>∃ (p:W9) (x:A5) (k:Int),vs=[.ref p,.int k]/\H p=some (tA x)/\∀ (r:W9) (H':Hp),Same H H'->H' r=some (tA (spin x k))->Q (.ref r) H'
def spOnes:Sp:=λvs H Q _=>∃ n:Nat,vs=[.int n]/\Q (.int (pc n)) H
def spCell (K:U0):Sp:=λvs H Q _=>∃ (a:W9) (ns:U6) (i:Int),vs=[.ref a,.int i]/\SqL K H a (ns.map V.int)/\0<=i/\Q (.int (cell ns i)) H
def Z4f:Sp:=λvs H Q _=>∃ i:Int,vs=[.int i]/\Q (.bl true) H
def Y4d:Sp:=λvs H Q _=>∃ c:Int,vs=[.int c]/\∀ n:Nat,1<=n->n<=6->Q (.int n) H
def spLow:Sp:=λvs H Q _=>∃ (l:W9) (a b c d h:Int),vs=[.ref l,.int h]/\H l=some (.lst ([a,b,c,d].map V.int))/\0<=h/\∀ (p:W9) (H':Hp) (x y z u g:Int),Same H H'->H' p=some (T5 x y z u g)->Red a b c d h x y z u g->Q (.ref p) H'
def Y4g:Sp:=λvs H Q _=>∃ c:Int,vs=[.int c]/\Sz 1048600 c/\∀ (p:W9) (H':Hp) (x:A5),Same H H'->H' p=some (tA x)->Ok5 100 40 x->Q (.ref p) H'
def Y1h:Sp:=λvs H Q _=>∃ (c:Int) (n:Nat),vs=[.int c,.int n]/\n<=6/\∀ (r:W9) (H':Hp) (q f s:Nat),Same H H'->H' r=some (M3 q f s)->q<4->f<2^n->s<2^n->Q (.ref r) H'
def spLaw (K:U0)(n:Nat):Sp:=λvs H Q _=>∃ (a:W9) (ns:U6),vs=[.ref a]/\SqL K H a (ns.map V.int)/\ns.length<=n/\Light ns/\∀ H',Q (.bl true) H'
theorem Y7h {ns:U6}{i:Int}(h0:0<=i)(h:i<ns.length):atI (ns.map V.int) i=some (.int (ns.getD i.toNat 0)):=by
 have hk:i.toNat<ns.length:=by omega
 have ek:i=((i.toNat:Nat):Int):=by omega
 have q:atI (ns.map V.int) ((i.toNat:Nat):Int)=some (.int ns[i.toNat]):=Z1y (by rw[q0n,q0d hk]<;>rfl)
 rw[<-ek] at q
 rw[q,q0i,q0d hk]
 rfl
theorem Z3t {ps:U3}{i:Nat}{j:Int}(h:i<ps.length)(e:j=i):atI (ps.map V.ref) j=some (.ref ps[i]):=by
 subst e
 exact Z1y (by rw[q0n,q0d h];rfl)
theorem t2:2<=sizeLine:=by decide
theorem t3:3<=sizeLine:=by decide
theorem t4:4<=sizeLine:=by decide
theorem t5:5<=sizeLine:=by decide
theorem t64 {n:Nat}(h:n<=64):n<=sizeLine:=q1m h (by decide)
theorem pow6 {n:Nat}(h:n<=6):2^n<=64:=q1m (q1x (by decide) h) (by decide)
theorem ipow (n:Nat):(1:Int)*2^((n:Int).toNat)=((2^n:Nat):Int):=by simp
theorem sz1:Sz 1 1:=by decide +kernel
theorem p_2:(0:Int)<2:=by decide
theorem p_3:(0:Int)<3:=by decide
theorem p_4:(0:Int)<4:=by decide
theorem p_6:(0:Int)<6:=by decide
theorem p_7:(0:Int)<7:=by decide
theorem p_8:(0:Int)<8:=by decide
theorem p_11:(0:Int)<11:=by decide
theorem p_40:(0:Int)<40:=by decide
theorem X3d:(0:Int)<2147483647:=by decide
theorem X1h (K:U0):PySem.W.kitOne K (.type "tuple") (.type "tuple")=some true:=by unfold PySem.W.kitOne;rw[if_pos (by decide)]
theorem X1i (K:U0):PySem.W.kitOne K (.type "list") (.type "list")=some true:=by unfold PySem.W.kitOne;rw[if_pos (by decide)]
end Ba
namespace L2
theorem fS {N P:W0}{sc:Scope}(a:sc.kind=.function:=by exact rfl)(b:sc.isCoroutine=false:=by exact rfl)(c:sc.isGenerator=false:=by exact rfl)(d:N.Nodup:=by decide +kernel)(e:N.take P.length=P:=by exact rfl)(f:∀ x∈P,sc.names.lookup x=some .local∨sc.names.lookup x=some .cell:=by decide +kernel)(g:∀ y∈sc.names,y.2≠.free:=by decide +kernel):FnScope N P sc:=⟨a,b,c,d,e,f,g⟩
end L2
namespace K64
open L2 Am Pc Ba
noncomputable def top (i:Nat):Stmt:=PySem.Challenge.pw_spinboard_k64_whole_a_mark_ahead_of_a_ro.main.body.getD i (.Pass ⟨0,0,0,0⟩)
structure Bs (mg:U4):Prop where
 isinstance:mg "isinstance"=none
 int:mg "int"=none
 bool:mg "bool"=none
 tuple:mg "tuple"=none
 list:mg "list"=none
 len:mg "len"=none
 range:mg "range"=none
 all:mg "all"=none
 any:mg "any"=none
 max:mg "max"=none
 min:mg "min"=none
 zip:mg "zip"=none
 set:mg "set"=none
 str:mg "str"=none
 enumerate:mg "enumerate"=none
 reversed:mg "reversed"=none
 sorted:mg "sorted"=none
section
variable {P:U8}{w:W1}{K:U0}{mg:U4}{base:Heap}{k:Nat}{h:Heap}
theorem sc_cell:FnScope ["_law_script","_law_k"] ["_law_script","_law_k"] (Z0h (top 61)):=fS
theorem X3x (F:FunAt K "_law_cell_at" (top 61) .none)(X:K.In h)(G:Ng h mg)(B:Bs mg):Cal P w K mg base (k+1) "_law_cell_at" ["_law_script","_law_k"] (spCell K):=by
 have nd:=sc_cell.nd
 refine F.cal X G sc_cell (bnd2 λ_ _ _ _ _ _ _ _=>rfl) (λvs H Q E h=>?_) (λf cdv A outer s H vs Q E hr h=>?_)
 ·obtain⟨a,ns,i,rfl,_⟩:=h;rfl
 obtain⟨a,ns,i,rfl,hS,h0,q⟩:=h
 refine⟨_,(@Z0e _ _ _ _ _ (Z1b (Z0q Y0g (pv 1) (Z0p Z0s rfl B.len q1c (Z0a (pv 0) Z0d)) (nomark _))
   (@Z0g _ _ _ (Z0l (Z0k Z0w (pv 0) (pv 1) (λ_ _=>rfl))))
   Z0r)
  (@Z0g _ _ _ (Z0l Z0b))),?_⟩
 try dsimp only[cxK]
 have hl:(ns.map V.int).length=ns.length:=q0a _
 refine⟨_,Z,_,Z,a,_,Z,.inl hS,_,_,Z,Z,_,Z,decI (λc=>?_) (λc=>?_)⟩
 ·rw[hl] at c
  refine⟨_,Z,_,Z,a,_,_,_,Z,Z,hS,Y7h h0 c,?_⟩
  unfold cell at q
  rw[if_pos c] at q
  exact q
 ·rw[hl] at c
  unfold cell at q
  rw[if_neg c] at q
  exact q
theorem sc_whole:FnScope ["_law_found"] ["_law_found"] (Z0h (top 62)):=fS
theorem Y8h (F:FunAt K "_law_whole" (top 62) .none)(X:K.In h)(G:Ng h mg)(B:Bs mg):Cal P w K mg base (k+1) "_law_whole" ["_law_found"] Z4f:=by
 have nd:=sc_whole.nd
 refine F.cal X G sc_whole (bnd1 λ_ _ _ _ _ _ _=>rfl) (λvs H Q E h=>?_) (λf cdv A outer s H vs Q E hr h=>?_)
 ·obtain⟨i,rfl,_⟩:=h;rfl
 obtain⟨i,rfl,q⟩:=h
 refine⟨_,(@Z0g _ _ _ (Z0l (Z4c (Z0p Z1k rfl B.isinstance q1g (Z0a (pv 0) (Z0a (Z1w (v:=.ty "int") rfl B.int q9e rfl) Z0d))) (Z3n (Y4s (Z0p Z1k rfl B.isinstance q1g (Z0a (pv 0) (Z0a (Z1w (v:=.ty "bool") rfl B.bool boot_bool rfl) Z0d)))))))),?_⟩
 try dsimp only[cxK]
 refine⟨_,Z,_,_,_,true,Z,TyOf.int i,Y5w K,_,Z,iteT ?_⟩
 exact⟨_,Z,_,_,_,false,Z,TyOf.int i,Y5x K,_,Z,q⟩
theorem sc_spin:FnScope ["_law_one","_law_k","_law_a","_law_b","_law_c","_law_d","_law_h","_law_j"] ["_law_one","_law_k"] (Z0h (top 65)):=fS
theorem X3n (F:FunAt K "_law_spin" (top 65) .none)(X:K.In h)(G:Ng h mg)(B:Bs mg):Cal P w K mg base (k+1) "_law_spin" ["_law_one","_law_k"] spSpin:=by
 have nd:=sc_spin.nd
 refine F.cal X G sc_spin (bnd2 λ_ _ _ _ _ _ _ _=>rfl) (λvs H Q E h=>?_) (λf cdv A outer s H vs Q E hr h=>?_)
 ·obtain⟨p,x,k,rfl,_⟩:=h;rfl
 obtain⟨p,x,k,rfl,hp,q⟩:=h
 refine⟨_,(@Z0e _ _ _ _ _ (Z4a (pv 0) (Z2z rfl (Z0v (Z0m (i:=2) nd rfl (Or.inl rfl)) (Z0v (Z0m (i:=3) nd rfl (Or.inl rfl)) (Z0v (Z0m (i:=4) nd rfl (Or.inl rfl)) (Z0v (Z0m (i:=5) nd rfl (Or.inl rfl)) (Z0v (Z0m (i:=6) nd rfl (Or.inl rfl)) Z2f)))))))
  (@Z0e _ _ _ _ _ (Z1u PassesOwn.never rfl (Z1e rfl B.range (Z0a (Z0i Z0x (pv 1) Z0b) Z0d)) (Z0m (i:=7) nd rfl (Or.inl rfl))
   (@Z0g _ _ _ (Z4a (@Z0y _ _ _ _ _ (Z0a (Z8a Z5x (pv 5)) (Z0a (pv 2) (Z0a (pv 3) (Z0a (pv 4) Z0d))))) (Z2z rfl (Z0v (Z0m (i:=2) nd rfl (Or.inl rfl)) (Z0v (Z0m (i:=3) nd rfl (Or.inl rfl)) (Z0v (Z0m (i:=4) nd rfl (Or.inl rfl)) (Z0v (Z0m (i:=5) nd rfl (Or.inl rfl)) Z2f))))))))
  (@Z0g _ _ _ (Z0l (@Z0y _ _ _ _ _ (Z0a (pv 2) (Z0a (pv 3) (Z0a (pv 4) (Z0a (pv 5) (Z0a (pv 6) Z0d)))))))))),?_⟩
 try dsimp only[cxK]
 refine⟨_,Z,p,_,Z,SqT.of hp,Z,_,_,Z,_,_,Z,_,_,Z,_,_,Z,_,_,Z,Z,?_⟩
 refine⟨_,Z,_,_,Z,Z,p_8,_,Z,by omega,by omega,Z1m (n:=(k%8).toNat) (λi σ H'=>Same H H'/\∃ v7,σ=[some (.ref p),some (.int k),some (.int (rot i x.1).1),some (.int (rot i x.1).2.1),some (.int (rot i x.1).2.2.1),some (.int (rot i x.1).2.2.2),some (.int x.2),v7]) ⟨Same.refl _,_,Z⟩ ?_ ?_⟩
 ·rintro i σ H' hi ⟨S',v7,rfl⟩
  refine⟨_,Z,_,Z,_,Z,_,Z,_,Z,t4,λt ht=>⟨t,_,Z,SqT.of Z0c,Z,_,_,Z,_,_,Z,_,_,Z,_,_,Z,Z,S'.trans (Z0f ht _),_,Z⟩⟩
 ·rintro σ H' ⟨S',v7,rfl⟩
  exact⟨_,Z,_,Z,_,Z,_,Z,_,Z,t5,λr hr=>q r _ (S'.trans (Z0f hr _)) Z0c⟩
end
end K64
noncomputable section
namespace K64
open L2 Ba
namespace Hd
open PySem.W
set_option maxHeartbeats 0
noncomputable abbrev pr:Program:=PySem.Challenge.pw_spinboard_k64_whole_a_mark_ahead_of_a_ro
abbrev kh:=PyData.keyHash
noncomputable def dPos (s:Stmt):Pos:=match s with
 | .FunctionDef _ _ _ _ _ _ _ _ _ p=>p
 | _=>⟨0,0,0,0⟩
noncomputable def life:Life:=(Life.mk [] [] [] 0 [] [] false #[] [] 0 false false false 0 [2000,10,10] false 0 true [] [] 0 false)
noncomputable def en:Env:={ scope:=pr.main.scope,locals:=mainNs,globals:=mainNs,cells:=[],code:=(.ref 13),frame:=some 14 }
noncomputable def dn (P:Params)(x:Str)(t:Nat)(v:W2):DictEntry:=DictEntry.mk (kh P x) (.str x t) v
noncomputable def cob (n:Str)(t1:Nat)(q:Str)(t2 t3:Nat)(i1 i2 i3 i4 i5:Int)(r1:W9)(b:Bool)(i6:Int)(r2:W9)(v1 v2 v3:W2)(i7 i8:Int)(t4:Nat):Obj:=Obj.mk (.type "code") none (Data.fields #[.str n t1,.str q t2,.str "/claim/cut.py" t3,.int i1 0,.int i2 0,.int i3 0,.int i4 0,.int i5 0,.ref r1,.bool b,.int i6 0,.ref r2,.none,v1,v2,v3,.int i7 0,.int i8 0,.str "/claim/cut.py" t4]) #[]
noncomputable def fo1 (n q:Str)(s:Stmt)(k j:Nat):Obj:=Obj.mk .none none (Data.func (FuncData.mk n q (Z1d s) (FuncBody.stmts (Z0z s)) (Z0h s) k [] .none .none .none .none none .none .none j)) #[]
noncomputable def fo2 (n q:Str)(s:Stmt)(k:Nat)(m:Str)(t:Nat)(c:W9)(j:Nat):Obj:=Obj.mk (.type "function") none (Data.func (FuncData.mk n q (Z1d s) (FuncBody.stmts (Z0z s)) (Z0h s) k [] .none .none .none (.str m t) none (.ref c) .none j)) #[]
noncomputable def sq0 (T:String)(n:Nat):Obj:=Obj.mk (.type T) none (Data.seq #[] n) #[]
noncomputable def tq (a:U9):Obj:=Obj.mk (.type "tuple") none (Data.seq a 0) #[]
noncomputable def nf0:Obj:=Obj.mk .none none (Data.fields #[]) #[]
abbrev Pz:=Params
noncomputable abbrev tz:Obj:=sq0 "tuple" 0
noncomputable def iL (t:BT):List (Nat × Obj)->BT
 | []=>t
 | x::l=>iL (t.ins x.1 x.2) l
noncomputable def iF (t:BT):Nat->List Obj->BT
 | _,[]=>t
 | n,x::l=>iF (t.ins n x) (n+1) l
noncomputable def ob3 (l:List DictEntry)(n:Nat):Obj:=Obj.mk (.type "dict") none (Data.dict (Array.mk l) n) #[]
noncomputable def ob12 (l:U5):Obj:=Obj.mk .none none (Data.fields (Array.mk l)) #[]
def j13(P:Pz):=(cob "<module>" 182 "<module>" 183 184 1 0 0 0 0 11 false 181 12 .none .none .none 185 1 186)
noncomputable def j14(P:Pz):=Obj.mk (.type "frame") none Data.plain #[(some (.ref 13)),(some (.ref 3)),(some (.ref 3)),none,(some (.str "__main__" 164)),none,(some (.ref 0))]
def Ha (P:Pz):Heap:=Heap.mk (Array.mk [boot_o_0 P,boot_o_1 P,boot_o_2 P,boot_o_3 P,boot_o_4 P,boot_o_5 P,boot_o_6 P,boot_o_7 P,boot_o_8 P,boot_o_9 P,boot_o_10 P,tz,nf0,j13 P,j14 P]) life
def T0 (P:Pz):BT:=(.node (boot_o_0 P) (.node (boot_o_1 P) (.node (boot_o_3 P) (.node (boot_o_7 P) .nil .nil) (.node tz .nil .nil)) (.node (boot_o_5 P) (.node (boot_o_9 P) .nil .nil) (.node (j13 P) .nil .nil))) (.node (boot_o_2 P) (.node (boot_o_4 P) (.node (boot_o_8 P) .nil .nil) (.node nf0 .nil .nil)) (.node (boot_o_6 P) (.node (boot_o_10 P) .nil .nil) (.node (j14 P) .nil .nil))))
noncomputable def l0:List Stmt:=[top 0,top 1]
noncomputable def l1:List Stmt:=[top 2]
noncomputable def l2:List Stmt:=[top 3]
noncomputable def l3:List Stmt:=[top 4]
noncomputable def l4:List Stmt:=[top 5]
noncomputable def l5:List Stmt:=[top 6]
noncomputable def l6:List Stmt:=[top 7]
noncomputable def l7:List Stmt:=[top 8]
noncomputable def l8:List Stmt:=[top 9]
noncomputable def l9:List Stmt:=[top 10]
noncomputable def l10:List Stmt:=[top 11]
noncomputable def l11:List Stmt:=[top 12,top 13,top 14,top 15,top 16,top 17,top 18]
noncomputable def l12:List Stmt:=[top 19,top 20,top 21,top 22,top 23,top 24,top 25,top 26,top 27,top 28,top 29,top 30,top 31,top 32]
noncomputable def l13:List Stmt:=[top 33,top 34,top 35,top 36,top 37,top 38,top 39,top 40,top 41,top 42,top 43]
noncomputable def l14:List Stmt:=[top 44,top 45,top 46,top 47,top 48,top 49,top 50,top 51,top 52,top 53,top 54,top 55,top 56,top 57,top 58]
noncomputable def l15:List Stmt:=[top 59,top 60,top 61,top 62,top 63,top 64,top 65,top 66,top 67,top 68,top 69,top 70,top 71]
noncomputable def l16:List Stmt:=[top 72,top 73,top 74,top 75,top 76,top 77,top 78,top 79,top 80,top 81,top 82,top 83]
noncomputable def bE:List Stmt:=l0++(l1++(l2++(l3++(l4++(l5++(l6++(l7++(l8++(l9++(l10++(l11++(l12++(l13++(l14++(l15++(l16++[]))))))))))))))))
noncomputable abbrev cE:Code:=Code.body bE en
noncomputable abbrev BB:List Frame:=[topFrame (Pos.mk 0 0 0 0)]
theorem pre_ (w:W1)(os:OsState):topGo treeTable pr w 11 (some (.ref 6)) 12 (Shared.mk (boot_heap w.params) (Array.mk []) boot_drawn boot_toks os) (topStub pr)=some (Shared.mk (Ha w.params) (Array.mk []) (Drawn.mk 0 0 0 0) 187 os,Thread.mk (denote treeTable cE) cE (Pos.mk 0 0 0 0) BB):=by rw[PySem.W.Fast.te15667345088766844465,PySem.W.Fast.te11892475500146522536,PySem.W.Fast.te14364793385576792824];kernel_rfl
theorem X8m (w:W1)(os:OsState):segRun treeTable pr w 11 (some (.ref 6)) 1 1 (Shared.mk (Ha w.params) (Array.mk []) (Drawn.mk 0 0 0 0) 187 os) (blockOf bE en cE (Pos.mk 0 0 0 0) BB)=some (Flow.next,(SharedT.mk (T0 w.params) 15 life (Array.mk []) (Drawn.mk 0 0 0 0) 187 os).abs,cE,(Pos.mk 0 0 0 0)):=by rw[PySem.W.Fast.te14374325043358763698,PySem.W.Fast.te14364793385576792824];kernel_rfl
noncomputable def y3_2(P:Pz):List DictEntry:=[(dn P "__doc__" 166 .none),(dn P "__package__" 167 .none),(dn P "__loader__" 168 (.builtin "__main__.__loader__#opaque")),(dn P "__spec__" 169 .none),(dn P "__annotations__" 170 (.ref 6)),(dn P "__builtins__" 171 (.ref 4)),(dn P "__file__" 173 (.str "/claim/cut.py" 172)),(dn P "__cached__" 174 .none),(dn P "BoardError" 206 (.ref 24))]
def j3_2(P:Pz):=ob3 ((dn P "__name__" 165 (.str "spinboard.errors" 187))::y3_2 P) 10
noncomputable def X5w(P:Pz):List Value:=[(.int 2 0),(.int 0 0),(.ref 20)]
def W0d(P:Pz):=ob12 (X5w P)
def j15(P:Pz):=tq #[(.type "ValueError")]
noncomputable def j16(P:Pz):=Obj.mk (.type "builtin_function_or_method") none (Data.fields #[(.builtin "type.__prepare__"),(.type "type")]) #[]
def j17(P:Pz):=ob3 [(dn P "__module__" 196 (.str "spinboard.errors" 187)),(dn P "__qualname__" 198 (.str "BoardError" 197)),(dn P "__firstlineno__" 200 (.int 2 199)),(dn P "__static_attributes__" 201 (.ref 22))] 4
def j20(P:Pz):=(cob "BoardError" 191 "BoardError" 192 193 2 0 0 0 0 18 false 181 19 .none .none .none 194 2 195)
noncomputable def j21(P:Pz):=Obj.mk (.type "frame") none Data.plain #[(some (.ref 20)),(some (.ref 3)),(some (.ref 17)),none,(some (.str "spinboard.errors" 187)),none,(some (.ref 0))]
def j23(P:Pz):=ob3 [(dn P "__module__" 196 (.str "spinboard.errors" 187)),(dn P "__firstlineno__" 200 (.int 2 199)),(dn P "__static_attributes__" 201 (.ref 22)),(dn P "__weakref__" 203 (.ref 25)),(dn P "__doc__" 204 .none)] 3
def X9v(P:Pz):=Obj.mk (.type "type") none (Data.cls (ClassData.mk "BoardError" [(.type "ValueError")] [(.ref 24),(.type "ValueError"),(.type "Exception"),(.type "BaseException"),(.type "object")] 23 "BoardError" true [] [] false none false)) #[(some (.ref 15)),none,(some (.str "BoardError" 189)),(some (.str "BoardError" 197)),(some (.builtin "ValueError.__new__")),(some (.bool true))]
noncomputable def j25(P:Pz):=Obj.mk (.type "getset_descriptor") none (Data.fields #[(.str "__weakref__" 202),(.ref 24),(.builtin "ExceptionGroup.__weakref__"),.none]) #[]
noncomputable def j26(P:Pz):=Obj.mk (.type "super") none (Data.fields #[(.ref 24),(.ref 24),(.ref 24)]) #[]
noncomputable def j27(P:Pz):=Obj.mk (.type "builtin_function_or_method") none (Data.fields #[(.builtin "object.__init_subclass__"),(.ref 24)]) #[]
def x1(P:Pz):List Obj:=[j15 P,j16 P,j17 P,tz,nf0,j20 P,j21 P,tz,j23 P,X9v P,j25 P,j26 P,j27 P]
def T1 (P:Pz):BT:=iF (iL (T0 P) [(3,j3_2 P),(12,W0d P)]) 15 (x1 P)
theorem g0 (p:U8)(b:W8)(w:W1)(os:OsState):segRunT treeTable p w 11 (some (.ref 6)) 1 196 (SharedT.mk (T0 w.params) 15 life (Array.mk []) (Drawn.mk 0 0 0 0) 187 os) (piecesOf l0 en (Code.body b en) (Pos.mk 0 0 0 0) BB)=some (Flow.next,(SharedT.mk (T1 w.params) 28 life (Array.mk []) (Drawn.mk 0 0 0 0) 207 os),Code.body b en,(Pos.mk 2 0 3 8)):=by rw[PySem.W.Fast.te10110043849684766642,PySem.W.Fast.te14364793385576792824];kernel_rfl
def y3_3(P:Pz):List DictEntry:=y3_2 P++[(dn P "NoShare" 222 (.ref 37))]
def j3_3(P:Pz):=ob3 ((dn P "__name__" 165 (.str "spinboard.errors" 187))::y3_3 P) 11
def X5v(P:Pz):List Value:=X5w P++[(.int 4 0),(.int 0 0),(.ref 33)]
def W0c(P:Pz):=ob12 (X5v P)
def X9u(P:Pz):=Obj.mk (.type "type") none (Data.cls (ClassData.mk "BoardError" [(.type "ValueError")] [(.ref 24),(.type "ValueError"),(.type "Exception"),(.type "BaseException"),(.type "object")] 23 "BoardError" true [] [(.ref 37)] false none false)) #[(some (.ref 15)),none,(some (.str "BoardError" 189)),(some (.str "BoardError" 197)),(some (.builtin "ValueError.__new__")),(some (.bool true))]
def j28(P:Pz):=tq #[(.ref 24)]
def j30(P:Pz):=ob3 [(dn P "__module__" 214 (.str "spinboard.errors" 187)),(dn P "__qualname__" 216 (.str "NoShare" 215)),(dn P "__firstlineno__" 218 (.int 4 217)),(dn P "__static_attributes__" 219 (.ref 35))] 4
def j33(P:Pz):=(cob "NoShare" 209 "NoShare" 210 211 4 0 0 0 0 31 false 181 32 .none .none .none 212 4 213)
noncomputable def j34(P:Pz):=Obj.mk (.type "frame") none Data.plain #[(some (.ref 33)),(some (.ref 3)),(some (.ref 30)),none,(some (.str "spinboard.errors" 187)),none,(some (.ref 0))]
def j36(P:Pz):=ob3 [(dn P "__module__" 214 (.str "spinboard.errors" 187)),(dn P "__firstlineno__" 218 (.int 4 217)),(dn P "__static_attributes__" 219 (.ref 35)),(dn P "__doc__" 220 .none)] 2
noncomputable def j37(P:Pz):=Obj.mk (.type "type") none (Data.cls (ClassData.mk "NoShare" [(.ref 24)] [(.ref 37),(.ref 24),(.type "ValueError"),(.type "Exception"),(.type "BaseException"),(.type "object")] 36 "NoShare" true [] [] false none false)) #[(some (.ref 28)),none,(some (.str "NoShare" 207)),(some (.str "NoShare" 215)),(some (.builtin "ValueError.__new__")),(some (.bool true))]
noncomputable def j38(P:Pz):=Obj.mk (.type "super") none (Data.fields #[(.ref 37),(.ref 37),(.ref 37)]) #[]
noncomputable def j39(P:Pz):=Obj.mk (.type "builtin_function_or_method") none (Data.fields #[(.builtin "object.__init_subclass__"),(.ref 37)]) #[]
def x2(P:Pz):List Obj:=[j28 P,j16 P,j30 P,tz,nf0,j33 P,j34 P,tz,j36 P,j37 P,j38 P,j39 P]
def T2 (P:Pz):BT:=iF (iL (T1 P) [(3,j3_3 P),(12,W0c P),(24,X9u P)]) 28 (x2 P)
theorem g1 (p:U8)(b:W8)(w:W1)(os:OsState):segRunT treeTable p w 11 (some (.ref 6)) 1 214 (SharedT.mk (T1 w.params) 28 life (Array.mk []) (Drawn.mk 0 0 0 0) 207 os) (piecesOf l1 en (Code.body b en) (Pos.mk 2 0 3 8) BB)=some (Flow.next,(SharedT.mk (T2 w.params) 40 life (Array.mk []) (Drawn.mk 0 0 0 0) 223 os),Code.body b en,(Pos.mk 4 0 5 8)):=by rw[PySem.W.Fast.te10110043849684766642,PySem.W.Fast.te14364793385576792824];kernel_rfl
def y3_4(P:Pz):List DictEntry:=y3_3 P++[(dn P "NoAmount" 238 (.ref 49))]
def j3_4(P:Pz):=ob3 ((dn P "__name__" 165 (.str "spinboard.errors" 187))::y3_4 P) 12
def X5u(P:Pz):List Value:=X5v P++[(.int 6 0),(.int 0 0),(.ref 45)]
def W0b(P:Pz):=ob12 (X5u P)
def X9t(P:Pz):=Obj.mk (.type "type") none (Data.cls (ClassData.mk "BoardError" [(.type "ValueError")] [(.ref 24),(.type "ValueError"),(.type "Exception"),(.type "BaseException"),(.type "object")] 23 "BoardError" true [] [(.ref 37),(.ref 49)] false none false)) #[(some (.ref 15)),none,(some (.str "BoardError" 189)),(some (.str "BoardError" 197)),(some (.builtin "ValueError.__new__")),(some (.bool true))]
def j42(P:Pz):=ob3 [(dn P "__module__" 230 (.str "spinboard.errors" 187)),(dn P "__qualname__" 232 (.str "NoAmount" 231)),(dn P "__firstlineno__" 234 (.int 6 233)),(dn P "__static_attributes__" 235 (.ref 47))] 4
def j45(P:Pz):=(cob "NoAmount" 225 "NoAmount" 226 227 6 0 0 0 0 43 false 181 44 .none .none .none 228 6 229)
noncomputable def j46(P:Pz):=Obj.mk (.type "frame") none Data.plain #[(some (.ref 45)),(some (.ref 3)),(some (.ref 42)),none,(some (.str "spinboard.errors" 187)),none,(some (.ref 0))]
def j48(P:Pz):=ob3 [(dn P "__module__" 230 (.str "spinboard.errors" 187)),(dn P "__firstlineno__" 234 (.int 6 233)),(dn P "__static_attributes__" 235 (.ref 47)),(dn P "__doc__" 236 .none)] 2
noncomputable def j49(P:Pz):=Obj.mk (.type "type") none (Data.cls (ClassData.mk "NoAmount" [(.ref 24)] [(.ref 49),(.ref 24),(.type "ValueError"),(.type "Exception"),(.type "BaseException"),(.type "object")] 48 "NoAmount" true [] [] false none false)) #[(some (.ref 40)),none,(some (.str "NoAmount" 223)),(some (.str "NoAmount" 231)),(some (.builtin "ValueError.__new__")),(some (.bool true))]
noncomputable def j50(P:Pz):=Obj.mk (.type "super") none (Data.fields #[(.ref 49),(.ref 49),(.ref 49)]) #[]
noncomputable def j51(P:Pz):=Obj.mk (.type "builtin_function_or_method") none (Data.fields #[(.builtin "object.__init_subclass__"),(.ref 49)]) #[]
def x3(P:Pz):List Obj:=[j28 P,j16 P,j42 P,tz,nf0,j45 P,j46 P,tz,j48 P,j49 P,j50 P,j51 P]
def T3 (P:Pz):BT:=iF (iL (T2 P) [(3,j3_4 P),(12,W0b P),(24,X9t P)]) 40 (x3 P)
theorem g2 (p:U8)(b:W8)(w:W1)(os:OsState):segRunT treeTable p w 11 (some (.ref 6)) 1 214 (SharedT.mk (T2 w.params) 40 life (Array.mk []) (Drawn.mk 0 0 0 0) 223 os) (piecesOf l2 en (Code.body b en) (Pos.mk 4 0 5 8) BB)=some (Flow.next,(SharedT.mk (T3 w.params) 52 life (Array.mk []) (Drawn.mk 0 0 0 0) 239 os),Code.body b en,(Pos.mk 6 0 7 8)):=by rw[PySem.W.Fast.te10110043849684766642,PySem.W.Fast.te14364793385576792824];kernel_rfl
def y3_5(P:Pz):List DictEntry:=y3_4 P++[(dn P "NoMark" 254 (.ref 61))]
def j3_5(P:Pz):=ob3 ((dn P "__name__" 165 (.str "spinboard.errors" 187))::y3_5 P) 13
def X5t(P:Pz):List Value:=X5u P++[(.int 8 0),(.int 0 0),(.ref 57)]
def W0a(P:Pz):=ob12 (X5t P)
def X9s(P:Pz):=Obj.mk (.type "type") none (Data.cls (ClassData.mk "BoardError" [(.type "ValueError")] [(.ref 24),(.type "ValueError"),(.type "Exception"),(.type "BaseException"),(.type "object")] 23 "BoardError" true [] [(.ref 37),(.ref 49),(.ref 61)] false none false)) #[(some (.ref 15)),none,(some (.str "BoardError" 189)),(some (.str "BoardError" 197)),(some (.builtin "ValueError.__new__")),(some (.bool true))]
def j54(P:Pz):=ob3 [(dn P "__module__" 246 (.str "spinboard.errors" 187)),(dn P "__qualname__" 248 (.str "NoMark" 247)),(dn P "__firstlineno__" 250 (.int 8 249)),(dn P "__static_attributes__" 251 (.ref 59))] 4
def j57(P:Pz):=(cob "NoMark" 241 "NoMark" 242 243 8 0 0 0 0 55 false 181 56 .none .none .none 244 8 245)
noncomputable def j58(P:Pz):=Obj.mk (.type "frame") none Data.plain #[(some (.ref 57)),(some (.ref 3)),(some (.ref 54)),none,(some (.str "spinboard.errors" 187)),none,(some (.ref 0))]
def j60(P:Pz):=ob3 [(dn P "__module__" 246 (.str "spinboard.errors" 187)),(dn P "__firstlineno__" 250 (.int 8 249)),(dn P "__static_attributes__" 251 (.ref 59)),(dn P "__doc__" 252 .none)] 2
noncomputable def j61(P:Pz):=Obj.mk (.type "type") none (Data.cls (ClassData.mk "NoMark" [(.ref 24)] [(.ref 61),(.ref 24),(.type "ValueError"),(.type "Exception"),(.type "BaseException"),(.type "object")] 60 "NoMark" true [] [] false none false)) #[(some (.ref 52)),none,(some (.str "NoMark" 239)),(some (.str "NoMark" 247)),(some (.builtin "ValueError.__new__")),(some (.bool true))]
noncomputable def j62(P:Pz):=Obj.mk (.type "super") none (Data.fields #[(.ref 61),(.ref 61),(.ref 61)]) #[]
noncomputable def j63(P:Pz):=Obj.mk (.type "builtin_function_or_method") none (Data.fields #[(.builtin "object.__init_subclass__"),(.ref 61)]) #[]
def x4(P:Pz):List Obj:=[j28 P,j16 P,j54 P,tz,nf0,j57 P,j58 P,tz,j60 P,j61 P,j62 P,j63 P]
def T4 (P:Pz):BT:=iF (iL (T3 P) [(3,j3_5 P),(12,W0a P),(24,X9s P)]) 52 (x4 P)
theorem g3 (p:U8)(b:W8)(w:W1)(os:OsState):segRunT treeTable p w 11 (some (.ref 6)) 1 214 (SharedT.mk (T3 w.params) 52 life (Array.mk []) (Drawn.mk 0 0 0 0) 239 os) (piecesOf l3 en (Code.body b en) (Pos.mk 6 0 7 8) BB)=some (Flow.next,(SharedT.mk (T4 w.params) 64 life (Array.mk []) (Drawn.mk 0 0 0 0) 255 os),Code.body b en,(Pos.mk 8 0 9 8)):=by rw[PySem.W.Fast.te10110043849684766642,PySem.W.Fast.te14364793385576792824];kernel_rfl
def y3_6(P:Pz):List DictEntry:=y3_5 P++[(dn P "NoBoard" 270 (.ref 73))]
def j3_6(P:Pz):=ob3 ((dn P "__name__" 165 (.str "spinboard.errors" 187))::y3_6 P) 14
def X5s(P:Pz):List Value:=X5t P++[(.int 10 0),(.int 0 0),(.ref 69)]
def X9z(P:Pz):=ob12 (X5s P)
def X9r(P:Pz):=Obj.mk (.type "type") none (Data.cls (ClassData.mk "BoardError" [(.type "ValueError")] [(.ref 24),(.type "ValueError"),(.type "Exception"),(.type "BaseException"),(.type "object")] 23 "BoardError" true [] [(.ref 37),(.ref 49),(.ref 61),(.ref 73)] false none false)) #[(some (.ref 15)),none,(some (.str "BoardError" 189)),(some (.str "BoardError" 197)),(some (.builtin "ValueError.__new__")),(some (.bool true))]
def j66(P:Pz):=ob3 [(dn P "__module__" 262 (.str "spinboard.errors" 187)),(dn P "__qualname__" 264 (.str "NoBoard" 263)),(dn P "__firstlineno__" 266 (.int 10 265)),(dn P "__static_attributes__" 267 (.ref 71))] 4
def j69(P:Pz):=(cob "NoBoard" 257 "NoBoard" 258 259 10 0 0 0 0 67 false 181 68 .none .none .none 260 10 261)
noncomputable def j70(P:Pz):=Obj.mk (.type "frame") none Data.plain #[(some (.ref 69)),(some (.ref 3)),(some (.ref 66)),none,(some (.str "spinboard.errors" 187)),none,(some (.ref 0))]
def j72(P:Pz):=ob3 [(dn P "__module__" 262 (.str "spinboard.errors" 187)),(dn P "__firstlineno__" 266 (.int 10 265)),(dn P "__static_attributes__" 267 (.ref 71)),(dn P "__doc__" 268 .none)] 2
noncomputable def j73(P:Pz):=Obj.mk (.type "type") none (Data.cls (ClassData.mk "NoBoard" [(.ref 24)] [(.ref 73),(.ref 24),(.type "ValueError"),(.type "Exception"),(.type "BaseException"),(.type "object")] 72 "NoBoard" true [] [] false none false)) #[(some (.ref 64)),none,(some (.str "NoBoard" 255)),(some (.str "NoBoard" 263)),(some (.builtin "ValueError.__new__")),(some (.bool true))]
noncomputable def j74(P:Pz):=Obj.mk (.type "super") none (Data.fields #[(.ref 73),(.ref 73),(.ref 73)]) #[]
noncomputable def j75(P:Pz):=Obj.mk (.type "builtin_function_or_method") none (Data.fields #[(.builtin "object.__init_subclass__"),(.ref 73)]) #[]
def x5(P:Pz):List Obj:=[j28 P,j16 P,j66 P,tz,nf0,j69 P,j70 P,tz,j72 P,j73 P,j74 P,j75 P]
def T5 (P:Pz):BT:=iF (iL (T4 P) [(3,j3_6 P),(12,X9z P),(24,X9r P)]) 64 (x5 P)
theorem g4 (p:U8)(b:W8)(w:W1)(os:OsState):segRunT treeTable p w 11 (some (.ref 6)) 1 214 (SharedT.mk (T4 w.params) 64 life (Array.mk []) (Drawn.mk 0 0 0 0) 255 os) (piecesOf l4 en (Code.body b en) (Pos.mk 8 0 9 8) BB)=some (Flow.next,(SharedT.mk (T5 w.params) 76 life (Array.mk []) (Drawn.mk 0 0 0 0) 271 os),Code.body b en,(Pos.mk 10 0 11 8)):=by rw[PySem.W.Fast.te10110043849684766642,PySem.W.Fast.te14364793385576792824];kernel_rfl
def y3_7(P:Pz):List DictEntry:=y3_6 P++[(dn P "NoMove" 286 (.ref 85))]
def j3_7(P:Pz):=ob3 ((dn P "__name__" 165 (.str "spinboard.errors" 187))::y3_7 P) 15
def X5r(P:Pz):List Value:=X5s P++[(.int 12 0),(.int 0 0),(.ref 81)]
def X9y(P:Pz):=ob12 (X5r P)
def X9q(P:Pz):=Obj.mk (.type "type") none (Data.cls (ClassData.mk "BoardError" [(.type "ValueError")] [(.ref 24),(.type "ValueError"),(.type "Exception"),(.type "BaseException"),(.type "object")] 23 "BoardError" true [] [(.ref 37),(.ref 49),(.ref 61),(.ref 73),(.ref 85)] false none false)) #[(some (.ref 15)),none,(some (.str "BoardError" 189)),(some (.str "BoardError" 197)),(some (.builtin "ValueError.__new__")),(some (.bool true))]
def j78(P:Pz):=ob3 [(dn P "__module__" 278 (.str "spinboard.errors" 187)),(dn P "__qualname__" 280 (.str "NoMove" 279)),(dn P "__firstlineno__" 282 (.int 12 281)),(dn P "__static_attributes__" 283 (.ref 83))] 4
def j81(P:Pz):=(cob "NoMove" 273 "NoMove" 274 275 12 0 0 0 0 79 false 181 80 .none .none .none 276 12 277)
noncomputable def j82(P:Pz):=Obj.mk (.type "frame") none Data.plain #[(some (.ref 81)),(some (.ref 3)),(some (.ref 78)),none,(some (.str "spinboard.errors" 187)),none,(some (.ref 0))]
def j84(P:Pz):=ob3 [(dn P "__module__" 278 (.str "spinboard.errors" 187)),(dn P "__firstlineno__" 282 (.int 12 281)),(dn P "__static_attributes__" 283 (.ref 83)),(dn P "__doc__" 284 .none)] 2
noncomputable def j85(P:Pz):=Obj.mk (.type "type") none (Data.cls (ClassData.mk "NoMove" [(.ref 24)] [(.ref 85),(.ref 24),(.type "ValueError"),(.type "Exception"),(.type "BaseException"),(.type "object")] 84 "NoMove" true [] [] false none false)) #[(some (.ref 76)),none,(some (.str "NoMove" 271)),(some (.str "NoMove" 279)),(some (.builtin "ValueError.__new__")),(some (.bool true))]
noncomputable def j86(P:Pz):=Obj.mk (.type "super") none (Data.fields #[(.ref 85),(.ref 85),(.ref 85)]) #[]
noncomputable def j87(P:Pz):=Obj.mk (.type "builtin_function_or_method") none (Data.fields #[(.builtin "object.__init_subclass__"),(.ref 85)]) #[]
def x6(P:Pz):List Obj:=[j28 P,j16 P,j78 P,tz,nf0,j81 P,j82 P,tz,j84 P,j85 P,j86 P,j87 P]
def T6 (P:Pz):BT:=iF (iL (T5 P) [(3,j3_7 P),(12,X9y P),(24,X9q P)]) 76 (x6 P)
theorem g5 (p:U8)(b:W8)(w:W1)(os:OsState):segRunT treeTable p w 11 (some (.ref 6)) 1 214 (SharedT.mk (T5 w.params) 76 life (Array.mk []) (Drawn.mk 0 0 0 0) 271 os) (piecesOf l5 en (Code.body b en) (Pos.mk 10 0 11 8) BB)=some (Flow.next,(SharedT.mk (T6 w.params) 88 life (Array.mk []) (Drawn.mk 0 0 0 0) 287 os),Code.body b en,(Pos.mk 12 0 13 8)):=by rw[PySem.W.Fast.te10110043849684766642,PySem.W.Fast.te14364793385576792824];kernel_rfl
def y3_8(P:Pz):List DictEntry:=y3_7 P++[(dn P "NoCell" 302 (.ref 97))]
def j3_8(P:Pz):=ob3 ((dn P "__name__" 165 (.str "spinboard.errors" 187))::y3_8 P) 16
def X5q(P:Pz):List Value:=X5r P++[(.int 14 0),(.int 0 0),(.ref 93)]
def X9x(P:Pz):=ob12 (X5q P)
def X9p(P:Pz):=Obj.mk (.type "type") none (Data.cls (ClassData.mk "BoardError" [(.type "ValueError")] [(.ref 24),(.type "ValueError"),(.type "Exception"),(.type "BaseException"),(.type "object")] 23 "BoardError" true [] [(.ref 37),(.ref 49),(.ref 61),(.ref 73),(.ref 85),(.ref 97)] false none false)) #[(some (.ref 15)),none,(some (.str "BoardError" 189)),(some (.str "BoardError" 197)),(some (.builtin "ValueError.__new__")),(some (.bool true))]
def j90(P:Pz):=ob3 [(dn P "__module__" 294 (.str "spinboard.errors" 187)),(dn P "__qualname__" 296 (.str "NoCell" 295)),(dn P "__firstlineno__" 298 (.int 14 297)),(dn P "__static_attributes__" 299 (.ref 95))] 4
def j93(P:Pz):=(cob "NoCell" 289 "NoCell" 290 291 14 0 0 0 0 91 false 181 92 .none .none .none 292 14 293)
noncomputable def j94(P:Pz):=Obj.mk (.type "frame") none Data.plain #[(some (.ref 93)),(some (.ref 3)),(some (.ref 90)),none,(some (.str "spinboard.errors" 187)),none,(some (.ref 0))]
def j96(P:Pz):=ob3 [(dn P "__module__" 294 (.str "spinboard.errors" 187)),(dn P "__firstlineno__" 298 (.int 14 297)),(dn P "__static_attributes__" 299 (.ref 95)),(dn P "__doc__" 300 .none)] 2
noncomputable def j97(P:Pz):=Obj.mk (.type "type") none (Data.cls (ClassData.mk "NoCell" [(.ref 24)] [(.ref 97),(.ref 24),(.type "ValueError"),(.type "Exception"),(.type "BaseException"),(.type "object")] 96 "NoCell" true [] [] false none false)) #[(some (.ref 88)),none,(some (.str "NoCell" 287)),(some (.str "NoCell" 295)),(some (.builtin "ValueError.__new__")),(some (.bool true))]
noncomputable def j98(P:Pz):=Obj.mk (.type "super") none (Data.fields #[(.ref 97),(.ref 97),(.ref 97)]) #[]
noncomputable def j99(P:Pz):=Obj.mk (.type "builtin_function_or_method") none (Data.fields #[(.builtin "object.__init_subclass__"),(.ref 97)]) #[]
def x7(P:Pz):List Obj:=[j28 P,j16 P,j90 P,tz,nf0,j93 P,j94 P,tz,j96 P,j97 P,j98 P,j99 P]
def T7 (P:Pz):BT:=iF (iL (T6 P) [(3,j3_8 P),(12,X9x P),(24,X9p P)]) 88 (x7 P)
theorem g6 (p:U8)(b:W8)(w:W1)(os:OsState):segRunT treeTable p w 11 (some (.ref 6)) 1 214 (SharedT.mk (T6 w.params) 88 life (Array.mk []) (Drawn.mk 0 0 0 0) 287 os) (piecesOf l6 en (Code.body b en) (Pos.mk 12 0 13 8) BB)=some (Flow.next,(SharedT.mk (T7 w.params) 100 life (Array.mk []) (Drawn.mk 0 0 0 0) 303 os),Code.body b en,(Pos.mk 14 0 15 8)):=by rw[PySem.W.Fast.te10110043849684766642,PySem.W.Fast.te14364793385576792824];kernel_rfl
def y3_9(P:Pz):List DictEntry:=y3_8 P++[(dn P "NeverSo" 318 (.ref 109))]
def j3_9(P:Pz):=ob3 ((dn P "__name__" 165 (.str "spinboard.errors" 187))::y3_9 P) 17
def X5p(P:Pz):List Value:=X5q P++[(.int 16 0),(.int 0 0),(.ref 105)]
def X9w(P:Pz):=ob12 (X5p P)
def X9o(P:Pz):=Obj.mk (.type "type") none (Data.cls (ClassData.mk "BoardError" [(.type "ValueError")] [(.ref 24),(.type "ValueError"),(.type "Exception"),(.type "BaseException"),(.type "object")] 23 "BoardError" true [] [(.ref 37),(.ref 49),(.ref 61),(.ref 73),(.ref 85),(.ref 97),(.ref 109)] false none false)) #[(some (.ref 15)),none,(some (.str "BoardError" 189)),(some (.str "BoardError" 197)),(some (.builtin "ValueError.__new__")),(some (.bool true))]
def j102(P:Pz):=ob3 [(dn P "__module__" 310 (.str "spinboard.errors" 187)),(dn P "__qualname__" 312 (.str "NeverSo" 311)),(dn P "__firstlineno__" 314 (.int 16 313)),(dn P "__static_attributes__" 315 (.ref 107))] 4
def j105(P:Pz):=(cob "NeverSo" 305 "NeverSo" 306 307 16 0 0 0 0 103 false 181 104 .none .none .none 308 16 309)
noncomputable def j106(P:Pz):=Obj.mk (.type "frame") none Data.plain #[(some (.ref 105)),(some (.ref 3)),(some (.ref 102)),none,(some (.str "spinboard.errors" 187)),none,(some (.ref 0))]
def j108(P:Pz):=ob3 [(dn P "__module__" 310 (.str "spinboard.errors" 187)),(dn P "__firstlineno__" 314 (.int 16 313)),(dn P "__static_attributes__" 315 (.ref 107)),(dn P "__doc__" 316 .none)] 2
noncomputable def j109(P:Pz):=Obj.mk (.type "type") none (Data.cls (ClassData.mk "NeverSo" [(.ref 24)] [(.ref 109),(.ref 24),(.type "ValueError"),(.type "Exception"),(.type "BaseException"),(.type "object")] 108 "NeverSo" true [] [] false none false)) #[(some (.ref 100)),none,(some (.str "NeverSo" 303)),(some (.str "NeverSo" 311)),(some (.builtin "ValueError.__new__")),(some (.bool true))]
noncomputable def j110(P:Pz):=Obj.mk (.type "super") none (Data.fields #[(.ref 109),(.ref 109),(.ref 109)]) #[]
noncomputable def j111(P:Pz):=Obj.mk (.type "builtin_function_or_method") none (Data.fields #[(.builtin "object.__init_subclass__"),(.ref 109)]) #[]
def x8(P:Pz):List Obj:=[j28 P,j16 P,j102 P,tz,nf0,j105 P,j106 P,tz,j108 P,j109 P,j110 P,j111 P]
def T8 (P:Pz):BT:=iF (iL (T7 P) [(3,j3_9 P),(12,X9w P),(24,X9o P)]) 100 (x8 P)
theorem g7 (p:U8)(b:W8)(w:W1)(os:OsState):segRunT treeTable p w 11 (some (.ref 6)) 1 214 (SharedT.mk (T7 w.params) 100 life (Array.mk []) (Drawn.mk 0 0 0 0) 303 os) (piecesOf l7 en (Code.body b en) (Pos.mk 14 0 15 8) BB)=some (Flow.next,(SharedT.mk (T8 w.params) 112 life (Array.mk []) (Drawn.mk 0 0 0 0) 319 os),Code.body b en,(Pos.mk 16 0 17 8)):=by rw[PySem.W.Fast.te10110043849684766642,PySem.W.Fast.te14364793385576792824];kernel_rfl
def X5o(P:Pz):List DictEntry:=y3_9 P++[(dn P "NoTable" 334 (.ref 121))]
def X9n(P:Pz):=ob3 ((dn P "__name__" 165 (.str "spinboard.errors" 187))::X5o P) 18
def X0h(P:Pz):List Value:=X5p P++[(.int 18 0),(.int 0 0),(.ref 117)]
def X7v(P:Pz):=ob12 (X0h P)
def X7n(P:Pz):=Obj.mk (.type "type") none (Data.cls (ClassData.mk "BoardError" [(.type "ValueError")] [(.ref 24),(.type "ValueError"),(.type "Exception"),(.type "BaseException"),(.type "object")] 23 "BoardError" true [] [(.ref 37),(.ref 49),(.ref 61),(.ref 73),(.ref 85),(.ref 97),(.ref 109),(.ref 121)] false none false)) #[(some (.ref 15)),none,(some (.str "BoardError" 189)),(some (.str "BoardError" 197)),(some (.builtin "ValueError.__new__")),(some (.bool true))]
def j114(P:Pz):=ob3 [(dn P "__module__" 326 (.str "spinboard.errors" 187)),(dn P "__qualname__" 328 (.str "NoTable" 327)),(dn P "__firstlineno__" 330 (.int 18 329)),(dn P "__static_attributes__" 331 (.ref 119))] 4
def j117(P:Pz):=(cob "NoTable" 321 "NoTable" 322 323 18 0 0 0 0 115 false 181 116 .none .none .none 324 18 325)
noncomputable def j118(P:Pz):=Obj.mk (.type "frame") none Data.plain #[(some (.ref 117)),(some (.ref 3)),(some (.ref 114)),none,(some (.str "spinboard.errors" 187)),none,(some (.ref 0))]
def j120(P:Pz):=ob3 [(dn P "__module__" 326 (.str "spinboard.errors" 187)),(dn P "__firstlineno__" 330 (.int 18 329)),(dn P "__static_attributes__" 331 (.ref 119)),(dn P "__doc__" 332 .none)] 2
noncomputable def j121(P:Pz):=Obj.mk (.type "type") none (Data.cls (ClassData.mk "NoTable" [(.ref 24)] [(.ref 121),(.ref 24),(.type "ValueError"),(.type "Exception"),(.type "BaseException"),(.type "object")] 120 "NoTable" true [] [] false none false)) #[(some (.ref 112)),none,(some (.str "NoTable" 319)),(some (.str "NoTable" 327)),(some (.builtin "ValueError.__new__")),(some (.bool true))]
noncomputable def j122(P:Pz):=Obj.mk (.type "super") none (Data.fields #[(.ref 121),(.ref 121),(.ref 121)]) #[]
noncomputable def j123(P:Pz):=Obj.mk (.type "builtin_function_or_method") none (Data.fields #[(.builtin "object.__init_subclass__"),(.ref 121)]) #[]
def x9(P:Pz):List Obj:=[j28 P,j16 P,j114 P,tz,nf0,j117 P,j118 P,tz,j120 P,j121 P,j122 P,j123 P]
def T9 (P:Pz):BT:=iF (iL (T8 P) [(3,X9n P),(12,X7v P),(24,X7n P)]) 112 (x9 P)
theorem g8 (p:U8)(b:W8)(w:W1)(os:OsState):segRunT treeTable p w 11 (some (.ref 6)) 1 214 (SharedT.mk (T8 w.params) 112 life (Array.mk []) (Drawn.mk 0 0 0 0) 319 os) (piecesOf l8 en (Code.body b en) (Pos.mk 16 0 17 8) BB)=some (Flow.next,(SharedT.mk (T9 w.params) 124 life (Array.mk []) (Drawn.mk 0 0 0 0) 335 os),Code.body b en,(Pos.mk 18 0 19 8)):=by rw[PySem.W.Fast.te10110043849684766642,PySem.W.Fast.te14364793385576792824];kernel_rfl
def X5n(P:Pz):List DictEntry:=X5o P++[(dn P "NoText" 359 (.ref 140))]
def X9m(P:Pz):=ob3 ((dn P "__name__" 165 (.str "spinboard.errors" 187))::X5n P) 19
def X0g(P:Pz):List Value:=X0h P++[(.int 20 0),(.int 0 0),(.ref 129)]
def X7u(P:Pz):=ob12 (X0g P)
def X7m(P:Pz):=Obj.mk (.type "type") none (Data.cls (ClassData.mk "BoardError" [(.type "ValueError")] [(.ref 24),(.type "ValueError"),(.type "Exception"),(.type "BaseException"),(.type "object")] 23 "BoardError" true [] [(.ref 37),(.ref 49),(.ref 61),(.ref 73),(.ref 85),(.ref 97),(.ref 109),(.ref 121),(.ref 140)] false none false)) #[(some (.ref 15)),none,(some (.str "BoardError" 189)),(some (.str "BoardError" 197)),(some (.builtin "ValueError.__new__")),(some (.bool true))]
def j126(P:Pz):=ob3 [(dn P "__module__" 342 (.str "spinboard.errors" 187)),(dn P "__qualname__" 344 (.str "NoText" 343)),(dn P "__firstlineno__" 346 (.int 20 345)),(dn P "__init__" 354 (.ref 137)),(dn P "__static_attributes__" 356 (.ref 138))] 5
noncomputable def j128(P:Pz):=Obj.mk .none none (Data.fields #[(.int 22 0),(.int 4 0),(.ref 136)]) #[]
def j129(P:Pz):=(cob "NoText" 337 "NoText" 338 339 20 0 0 0 0 127 false 181 128 .none .none .none 340 20 341)
noncomputable def j130(P:Pz):=Obj.mk (.type "frame") none Data.plain #[(some (.ref 129)),(some (.ref 3)),(some (.ref 126)),none,(some (.str "spinboard.errors" 187)),none,(some (.ref 0))]
def j133(P:Pz):=tq #[(.str "self" 350),(.str "place" 351)]
noncomputable def j135(P:Pz):=Obj.mk .none none (Data.func (FuncData.mk "__init__" "NoText.__init__" (Z1d (Z2h (top 10) 0)) (FuncBody.stmts (Z0z (Z2h (top 10) 0))) (Z0h (Z2h (top 11) 0)) 0 [] .none .none .none .none none .none .none 0)) #[]
def j136(P:Pz):=(cob "__init__" 347 "NoText.__init__" 348 349 22 2 0 0 3 131 true 181 132 (.ref 133) (.ref 134) (.ref 135) 352 22 353)
noncomputable def j137(P:Pz):=Obj.mk (.type "function") none (Data.func (FuncData.mk "__init__" "NoText.__init__" (Z1d (Z2h (top 10) 0)) (FuncBody.stmts (Z0z (Z2h (top 10) 0))) (Z0h (Z2h (top 11) 0)) 3 [] .none .none .none (.str "spinboard.errors" 187) none (.ref 136) .none 0)) #[]
def j138(P:Pz):=tq #[(.str "place" 355)]
def j139(P:Pz):=ob3 [(dn P "__module__" 342 (.str "spinboard.errors" 187)),(dn P "__firstlineno__" 346 (.int 20 345)),(dn P "__init__" 354 (.ref 137)),(dn P "__static_attributes__" 356 (.ref 138)),(dn P "__doc__" 357 .none)] 2
noncomputable def j140(P:Pz):=Obj.mk (.type "type") none (Data.cls (ClassData.mk "NoText" [(.ref 24)] [(.ref 140),(.ref 24),(.type "ValueError"),(.type "Exception"),(.type "BaseException"),(.type "object")] 139 "NoText" true [] [] false none false)) #[(some (.ref 124)),none,(some (.str "NoText" 335)),(some (.str "NoText" 343)),(some (.builtin "ValueError.__new__")),(some (.bool true))]
noncomputable def j141(P:Pz):=Obj.mk (.type "super") none (Data.fields #[(.ref 140),(.ref 140),(.ref 140)]) #[]
noncomputable def j142(P:Pz):=Obj.mk (.type "builtin_function_or_method") none (Data.fields #[(.builtin "object.__init_subclass__"),(.ref 140)]) #[]
def x10(P:Pz):List Obj:=[j28 P,j16 P,j126 P,tz,j128 P,j129 P,j130 P,tz,nf0,j133 P,tz,j135 P,j136 P,j137 P,j138 P,j139 P,j140 P,j141 P,j142 P]
def T10 (P:Pz):BT:=iF (iL (T9 P) [(3,X9m P),(12,X7u P),(24,X7m P)]) 124 (x10 P)
theorem g9 (p:U8)(b:W8)(w:W1)(os:OsState):segRunT treeTable p w 11 (some (.ref 6)) 1 246 (SharedT.mk (T9 w.params) 124 life (Array.mk []) (Drawn.mk 0 0 0 0) 335 os) (piecesOf l9 en (Code.body b en) (Pos.mk 18 0 19 8) BB)=some (Flow.next,(SharedT.mk (T10 w.params) 143 life (Array.mk []) (Drawn.mk 0 0 0 0) 360 os),Code.body b en,(Pos.mk 20 0 23 26)):=by rw[PySem.W.Fast.te10110043849684766642,PySem.W.Fast.te14364793385576792824];kernel_rfl
def X5m(P:Pz):List DictEntry:=X5n P++[(dn P "NotBorne" 384 (.ref 159))]
def X9l(P:Pz):=ob3 ((dn P "__name__" 165 (.str "spinboard.errors" 187))::X5m P) 20
def X0f(P:Pz):List Value:=X0g P++[(.int 24 0),(.int 0 0),(.ref 148)]
def X7t(P:Pz):=ob12 (X0f P)
def X7l(P:Pz):=Obj.mk (.type "type") none (Data.cls (ClassData.mk "BoardError" [(.type "ValueError")] [(.ref 24),(.type "ValueError"),(.type "Exception"),(.type "BaseException"),(.type "object")] 23 "BoardError" true [] [(.ref 37),(.ref 49),(.ref 61),(.ref 73),(.ref 85),(.ref 97),(.ref 109),(.ref 121),(.ref 140),(.ref 159)] false none false)) #[(some (.ref 15)),none,(some (.str "BoardError" 189)),(some (.str "BoardError" 197)),(some (.builtin "ValueError.__new__")),(some (.bool true))]
def j145(P:Pz):=ob3 [(dn P "__module__" 367 (.str "spinboard.errors" 187)),(dn P "__qualname__" 369 (.str "NotBorne" 368)),(dn P "__firstlineno__" 371 (.int 24 370)),(dn P "__init__" 379 (.ref 156)),(dn P "__static_attributes__" 381 (.ref 157))] 5
noncomputable def j147(P:Pz):=Obj.mk .none none (Data.fields #[(.int 26 0),(.int 4 0),(.ref 155)]) #[]
def j148(P:Pz):=(cob "NotBorne" 362 "NotBorne" 363 364 24 0 0 0 0 146 false 181 147 .none .none .none 365 24 366)
noncomputable def j149(P:Pz):=Obj.mk (.type "frame") none Data.plain #[(some (.ref 148)),(some (.ref 3)),(some (.ref 145)),none,(some (.str "spinboard.errors" 187)),none,(some (.ref 0))]
def j152(P:Pz):=tq #[(.str "self" 375),(.str "place" 376)]
def j154(P:Pz):=(fo1 "__init__" "NotBorne.__init__" (Z2h (top 11) 0) 0 0)
def j155(P:Pz):=(cob "__init__" 372 "NotBorne.__init__" 373 374 26 2 0 0 3 150 true 181 151 (.ref 152) (.ref 153) (.ref 154) 377 26 378)
def j156(P:Pz):=(fo2 "__init__" "NotBorne.__init__" (Z2h (top 11) 0) 3 "spinboard.errors" 187 155 0)
def j157(P:Pz):=tq #[(.str "place" 380)]
def j158(P:Pz):=ob3 [(dn P "__module__" 367 (.str "spinboard.errors" 187)),(dn P "__firstlineno__" 371 (.int 24 370)),(dn P "__init__" 379 (.ref 156)),(dn P "__static_attributes__" 381 (.ref 157)),(dn P "__doc__" 382 .none)] 2
noncomputable def j159(P:Pz):=Obj.mk (.type "type") none (Data.cls (ClassData.mk "NotBorne" [(.ref 24)] [(.ref 159),(.ref 24),(.type "ValueError"),(.type "Exception"),(.type "BaseException"),(.type "object")] 158 "NotBorne" true [] [] false none false)) #[(some (.ref 143)),none,(some (.str "NotBorne" 360)),(some (.str "NotBorne" 368)),(some (.builtin "ValueError.__new__")),(some (.bool true))]
noncomputable def j160(P:Pz):=Obj.mk (.type "super") none (Data.fields #[(.ref 159),(.ref 159),(.ref 159)]) #[]
noncomputable def j161(P:Pz):=Obj.mk (.type "builtin_function_or_method") none (Data.fields #[(.builtin "object.__init_subclass__"),(.ref 159)]) #[]
def x11(P:Pz):List Obj:=[j28 P,j16 P,j145 P,tz,j147 P,j148 P,j149 P,tz,nf0,j152 P,tz,j154 P,j155 P,j156 P,j157 P,j158 P,j159 P,j160 P,j161 P]
def T11 (P:Pz):BT:=iF (iL (T10 P) [(3,X9l P),(12,X7t P),(24,X7l P)]) 143 (x11 P)
theorem g10 (p:U8)(b:W8)(w:W1)(os:OsState):segRunT treeTable p w 11 (some (.ref 6)) 1 246 (SharedT.mk (T10 w.params) 143 life (Array.mk []) (Drawn.mk 0 0 0 0) 360 os) (piecesOf l10 en (Code.body b en) (Pos.mk 20 0 23 26) BB)=some (Flow.next,(SharedT.mk (T11 w.params) 162 life (Array.mk []) (Drawn.mk 0 0 0 0) 385 os),Code.body b en,(Pos.mk 24 0 27 26)):=by rw[PySem.W.Fast.te10110043849684766642,PySem.W.Fast.te14364793385576792824];kernel_rfl
def X5l(P:Pz):List DictEntry:=X5m P++[(dn P "Unguarded" 411 (.ref 178)),(dn P "is_whole" 420 (.ref 187)),(dn P "halved_out" 436 (.ref 194)),(dn P "plus" 442 (.ref 199)),(dn P "minus" 450 (.ref 206))]
def X9k(P:Pz):=ob3 ((dn P "__name__" 165 (.str "spinboard.amounts" 421))::X5l P) 25
def X0e(P:Pz):List Value:=X0f P++[(.int 28 0),(.int 0 0),(.ref 167),(.int 34 0),(.int 0 0),(.ref 186),(.int 37 0),(.int 0 0),(.ref 193),(.int 44 0),(.int 0 0),(.ref 198),(.int 50 0),(.int 0 0),(.ref 205)]
def X7s(P:Pz):=ob12 (X0e P)
def Y5z(P:Pz):=Obj.mk (.type "type") none (Data.cls (ClassData.mk "BoardError" [(.type "ValueError")] [(.ref 24),(.type "ValueError"),(.type "Exception"),(.type "BaseException"),(.type "object")] 23 "BoardError" true [] [(.ref 37),(.ref 49),(.ref 61),(.ref 73),(.ref 85),(.ref 97),(.ref 109),(.ref 121),(.ref 140),(.ref 159),(.ref 178)] false none false)) #[(some (.ref 15)),none,(some (.str "BoardError" 189)),(some (.str "BoardError" 197)),(some (.builtin "ValueError.__new__")),(some (.bool true))]
def j164(P:Pz):=ob3 [(dn P "__module__" 392 (.str "spinboard.errors" 187)),(dn P "__qualname__" 394 (.str "Unguarded" 393)),(dn P "__firstlineno__" 396 (.int 28 395)),(dn P "__init__" 405 (.ref 175)),(dn P "__static_attributes__" 408 (.ref 176))] 5
noncomputable def j166(P:Pz):=Obj.mk .none none (Data.fields #[(.int 30 0),(.int 4 0),(.ref 174)]) #[]
def j167(P:Pz):=(cob "Unguarded" 387 "Unguarded" 388 389 28 0 0 0 0 165 false 181 166 .none .none .none 390 28 391)
noncomputable def j168(P:Pz):=Obj.mk (.type "frame") none Data.plain #[(some (.ref 167)),(some (.ref 3)),(some (.ref 164)),none,(some (.str "spinboard.errors" 187)),none,(some (.ref 0))]
def j171(P:Pz):=tq #[(.str "self" 400),(.str "one" 401),(.str "other" 402)]
def j173(P:Pz):=(fo1 "__init__" "Unguarded.__init__" (Z2h (top 12) 0) 0 0)
def j174(P:Pz):=(cob "__init__" 397 "Unguarded.__init__" 398 399 30 3 0 0 3 169 true 181 170 (.ref 171) (.ref 172) (.ref 173) 403 30 404)
def j175(P:Pz):=(fo2 "__init__" "Unguarded.__init__" (Z2h (top 12) 0) 3 "spinboard.errors" 187 174 0)
def j176(P:Pz):=tq #[(.str "one" 406),(.str "other" 407)]
def j177(P:Pz):=ob3 [(dn P "__module__" 392 (.str "spinboard.errors" 187)),(dn P "__firstlineno__" 396 (.int 28 395)),(dn P "__init__" 405 (.ref 175)),(dn P "__static_attributes__" 408 (.ref 176)),(dn P "__doc__" 409 .none)] 2
noncomputable def j178(P:Pz):=Obj.mk (.type "type") none (Data.cls (ClassData.mk "Unguarded" [(.ref 24)] [(.ref 178),(.ref 24),(.type "ValueError"),(.type "Exception"),(.type "BaseException"),(.type "object")] 177 "Unguarded" true [] [] false none false)) #[(some (.ref 162)),none,(some (.str "Unguarded" 385)),(some (.str "Unguarded" 393)),(some (.builtin "ValueError.__new__")),(some (.bool true))]
noncomputable def j179(P:Pz):=Obj.mk (.type "super") none (Data.fields #[(.ref 178),(.ref 178),(.ref 178)]) #[]
noncomputable def j180(P:Pz):=Obj.mk (.type "builtin_function_or_method") none (Data.fields #[(.builtin "object.__init_subclass__"),(.ref 178)]) #[]
def j183(P:Pz):=tq #[(.str "thing" 417)]
def j185(P:Pz):=(fo1 "is_whole" "is_whole" (top 14) 0 0)
def j186(P:Pz):=(cob "is_whole" 414 "is_whole" 415 416 34 1 0 0 3 181 true 181 182 (.ref 183) (.ref 184) (.ref 185) 418 34 419)
def j187(P:Pz):=(fo2 "is_whole" "is_whole" (top 14) 3 "spinboard.shares" 412 186 0)
def j190(P:Pz):=tq #[(.str "a" 426),(.str "b" 427),(.str "c" 428),(.str "d" 429),(.str "h" 430),(.str "places" 431),(.str "lowest" 432),(.str "less" 433)]
def j192(P:Pz):=(fo1 "halved_out" "halved_out" (top 16) 0 0)
def j193(P:Pz):=(cob "halved_out" 423 "halved_out" 424 425 37 5 0 0 3 188 true 181 189 (.ref 190) (.ref 191) (.ref 192) 434 37 435)
def j194(P:Pz):=(fo2 "halved_out" "halved_out" (top 16) 3 "spinboard.amounts" 421 193 0)
def j197(P:Pz):=(fo1 "plus" "plus" (top 17) 0 0)
def j198(P:Pz):=(cob "plus" 437 "plus" 438 439 44 2 0 0 3 195 true 181 196 .none .none (.ref 197) 440 44 441)
def j199(P:Pz):=(fo2 "plus" "plus" (top 17) 3 "spinboard.amounts" 421 198 0)
def j202(P:Pz):=tq #[(.str "one" 446),(.str "other" 447)]
def j204(P:Pz):=(fo1 "minus" "minus" (top 18) 0 0)
def j205(P:Pz):=(cob "minus" 443 "minus" 444 445 50 2 0 0 3 200 true 181 201 (.ref 202) (.ref 203) (.ref 204) 448 50 449)
def j206(P:Pz):=(fo2 "minus" "minus" (top 18) 3 "spinboard.amounts" 421 205 0)
def x12(P:Pz):List Obj:=[j28 P,j16 P,j164 P,tz,j166 P,j167 P,j168 P,tz,nf0,j171 P,tz,j173 P,j174 P,j175 P,j176 P,j177 P,j178 P,j179 P,j180 P,tz,nf0,j183 P,tz,j185 P,j186 P,j187 P,tz,nf0,j190 P,tz,j192 P,j193 P,j194 P,tz,nf0,j197 P,j198 P,j199 P,tz,nf0,j202 P,tz,j204 P,j205 P,j206 P]
def T12 (P:Pz):BT:=iF (iL (T11 P) [(3,X9k P),(12,X7s P),(24,Y5z P)]) 162 (x12 P)
theorem g11 (p:U8)(b:W8)(w:W1)(os:OsState):segRunT treeTable p w 11 (some (.ref 6)) 1 387 (SharedT.mk (T11 w.params) 162 life (Array.mk []) (Drawn.mk 0 0 0 0) 385 os) (piecesOf l11 en (Code.body b en) (Pos.mk 24 0 27 26) BB)=some (Flow.next,(SharedT.mk (T12 w.params) 207 life (Array.mk []) (Drawn.mk 0 0 0 0) 451 os),Code.body b en,(Pos.mk 50 0 51 36)):=by rw[PySem.W.Fast.te10110043849684766642,PySem.W.Fast.te14364793385576792824];kernel_rfl
def X5k(P:Pz):List DictEntry:=X5l P++[(dn P "times" 456 (.ref 211)),(dn P "spun" 466 (.ref 218)),(dn P "spun_once" 473 (.ref 225)),(dn P "rooted" 480 (.ref 232)),(dn P "ones" 491 (.ref 239)),(dn P "turned_about" 498 (.ref 246)),(dn P "NOUGHT" 506 (.ref 247)),(dn P "ONE" 512 (.ref 248)),(dn P "cells_of" 519 (.ref 255)),(dn P "halved" 528 (.ref 262))]
def X9j(P:Pz):=ob3 ((dn P "__name__" 165 (.str "spinboard.moves" 529))::X5k P) 35
def X0d(P:Pz):List Value:=X0e P++[(.int 52 0),(.int 0 0),(.ref 210),(.int 59 0),(.int 0 0),(.ref 217),(.int 64 0),(.int 0 0),(.ref 224),(.int 66 0),(.int 0 0),(.ref 231),(.int 69 0),(.int 0 0),(.ref 238),(.int 76 0),(.int 0 0),(.ref 245),(.int 81 0),(.int 0 0),(.ref 254),(.int 84 0),(.int 0 0),(.ref 261)]
def X7r(P:Pz):=ob12 (X0d P)
def j209(P:Pz):=(fo1 "times" "times" (top 19) 0 0)
def j210(P:Pz):=(cob "times" 451 "times" 452 453 52 2 0 0 3 207 true 181 208 .none .none (.ref 209) 454 52 455)
def j211(P:Pz):=(fo2 "times" "times" (top 19) 3 "spinboard.amounts" 421 210 0)
def j214(P:Pz):=tq #[(.str "one" 460),(.str "k" 461),(.str "turning" 462),(.str "step" 463)]
def j216(P:Pz):=(fo1 "spun" "spun" (top 20) 0 0)
def j217(P:Pz):=(cob "spun" 457 "spun" 458 459 59 2 0 0 3 212 true 181 213 (.ref 214) (.ref 215) (.ref 216) 464 59 465)
def j218(P:Pz):=(fo2 "spun" "spun" (top 20) 3 "spinboard.amounts" 421 217 0)
def j221(P:Pz):=tq #[(.str "one" 470)]
def j223(P:Pz):=(fo1 "spun_once" "spun_once" (top 21) 0 0)
def j224(P:Pz):=(cob "spun_once" 467 "spun_once" 468 469 64 1 0 0 3 219 true 181 220 (.ref 221) (.ref 222) (.ref 223) 471 64 472)
def j225(P:Pz):=(fo2 "spun_once" "spun_once" (top 21) 3 "spinboard.amounts" 421 224 0)
def j228(P:Pz):=tq #[(.str "one" 477)]
noncomputable def j230(P:Pz):=Obj.mk .none none (Data.func (FuncData.mk "rooted" "rooted" (Z1d (top 22)) (FuncBody.stmts (Z0z (top 22))) (Z0h (top 31)) 0 [] .none .none .none .none none .none .none 0)) #[]
def j231(P:Pz):=(cob "rooted" 474 "rooted" 475 476 66 1 0 0 3 226 true 181 227 (.ref 228) (.ref 229) (.ref 230) 478 66 479)
noncomputable def j232(P:Pz):=Obj.mk (.type "function") none (Data.func (FuncData.mk "rooted" "rooted" (Z1d (top 22)) (FuncBody.stmts (Z0z (top 22))) (Z0h (top 31)) 3 [] .none .none .none (.str "spinboard.amounts" 421) none (.ref 231) .none 0)) #[]
def j235(P:Pz):=tq #[(.str "number" 486),(.str "many" 487),(.str "rest" 488)]
def j237(P:Pz):=(fo1 "ones" "ones" (top 24) 0 0)
def j238(P:Pz):=(cob "ones" 483 "ones" 484 485 69 1 0 0 3 233 true 181 234 (.ref 235) (.ref 236) (.ref 237) 489 69 490)
def j239(P:Pz):=(fo2 "ones" "ones" (top 24) 3 "spinboard.marks" 481 238 0)
def j242(P:Pz):=tq #[(.str "mark" 495)]
def j244(P:Pz):=(fo1 "turned_about" "turned_about" (top 25) 0 0)
def j245(P:Pz):=(cob "turned_about" 492 "turned_about" 493 494 76 1 0 0 3 240 true 181 241 (.ref 242) (.ref 243) (.ref 244) 496 76 497)
def j246(P:Pz):=(fo2 "turned_about" "turned_about" (top 25) 3 "spinboard.marks" 481 245 0)
def j247(P:Pz):=tq #[(.int 0 501),(.int 0 502),(.int 0 503),(.int 0 504),(.int 0 505)]
def j248(P:Pz):=tq #[(.int 1 507),(.int 0 508),(.int 0 509),(.int 0 510),(.int 0 511)]
def j251(P:Pz):=tq #[(.str "board" 516)]
def j253(P:Pz):=(fo1 "cells_of" "cells_of" (top 29) 0 0)
def j254(P:Pz):=(cob "cells_of" 513 "cells_of" 514 515 81 1 0 0 3 249 true 181 250 (.ref 251) (.ref 252) (.ref 253) 517 81 518)
def j255(P:Pz):=(fo2 "cells_of" "cells_of" (top 29) 3 "spinboard.boards" 499 254 0)
def j258(P:Pz):=tq #[(.str "one" 525)]
def j260(P:Pz):=(fo1 "halved" "halved" (top 31) 0 0)
def j261(P:Pz):=(cob "halved" 522 "halved" 523 524 84 1 0 0 3 256 true 181 257 (.ref 258) (.ref 259) (.ref 260) 526 84 527)
def j262(P:Pz):=(fo2 "halved" "halved" (top 31) 3 "spinboard.looks" 520 261 0)
def x13(P:Pz):List Obj:=[tz,nf0,j209 P,j210 P,j211 P,tz,nf0,j214 P,tz,j216 P,j217 P,j218 P,tz,nf0,j221 P,tz,j223 P,j224 P,j225 P,tz,nf0,j228 P,tz,j230 P,j231 P,j232 P,tz,nf0,j235 P,tz,j237 P,j238 P,j239 P,tz,nf0,j242 P,tz,j244 P,j245 P,j246 P,j247 P,j248 P,tz,nf0,j251 P,tz,j253 P,j254 P,j255 P,tz,nf0,j258 P,tz,j260 P,j261 P,j262 P]
def T13 (P:Pz):BT:=iF (iL (T12 P) [(3,X9j P),(12,X7r P)]) 207 (x13 P)
theorem g12 (p:U8)(b:W8)(w:W1)(os:OsState):segRunT treeTable p w 11 (some (.ref 6)) 1 301 (SharedT.mk (T12 w.params) 207 life (Array.mk []) (Drawn.mk 0 0 0 0) 451 os) (piecesOf l12 en (Code.body b en) (Pos.mk 50 0 51 36) BB)=some (Flow.next,(SharedT.mk (T13 w.params) 263 life (Array.mk []) (Drawn.mk 0 0 0 0) 531 os),Code.body b en,(Pos.mk 86 0 86 8)):=by rw[PySem.W.Fast.te10110043849684766642,PySem.W.Fast.te14364793385576792824];kernel_rfl
def X5j(P:Pz):List DictEntry:=X5k P++[(dn P "NUMBERS_BEHIND" 552 (.ref 263)),(dn P "check_move" 558 (.ref 268)),(dn P "has_move_form" 564 (.ref 273)),(dn P "named_cells" 571 (.ref 280)),(dn P "turned" 577 (.ref 285)),(dn P "mixed" 583 (.ref 290)),(dn P "mixed_at" 592 (.ref 297)),(dn P "spun_where" 598 (.ref 302)),(dn P "word_behind" 604 (.ref 307)),(dn P "exchanged" 614 (.ref 314)),(dn P "back_move" 621 (.ref 321))]
def X9i(P:Pz):=ob3 ((dn P "__name__" 165 (.str "spinboard.moves" 529))::X5j P) 46
def X0c(P:Pz):List Value:=X0d P++[(.int 88 0),(.int 0 0),(.ref 267),(.int 97 0),(.int 0 0),(.ref 272),(.int 107 0),(.int 0 0),(.ref 279),(.int 109 0),(.int 0 0),(.ref 284),(.int 118 0),(.int 0 0),(.ref 289),(.int 120 0),(.int 0 0),(.ref 296),(.int 124 0),(.int 0 0),(.ref 301),(.int 126 0),(.int 0 0),(.ref 306),(.int 137 0),(.int 0 0),(.ref 313),(.int 140 0),(.int 0 0),(.ref 320)]
def X7q(P:Pz):=ob12 (X0c P)
def j263(P:Pz):=ob3 [(dn P "flip" 531 (.int 1 532)),(dn P "mix" 533 (.int 1 534)),(dn P "turn" 535 (.int 2 536)),(dn P "if" 537 (.int 2 538)),(dn P "pair" 539 (.int 2 540)),(dn P "swap" 541 (.int 2 542)),(dn P "cross" 543 (.int 3 544))] 7
def j266(P:Pz):=(fo1 "check_move" "check_move" (top 34) 0 0)
def j267(P:Pz):=(cob "check_move" 553 "check_move" 554 555 88 2 0 0 3 264 true 181 265 .none .none (.ref 266) 556 88 557)
def j268(P:Pz):=(fo2 "check_move" "check_move" (top 34) 3 "spinboard.moves" 529 267 0)
def j271(P:Pz):=(fo1 "has_move_form" "has_move_form" (top 35) 0 0)
def j272(P:Pz):=(cob "has_move_form" 559 "has_move_form" 560 561 97 1 0 0 3 269 true 181 270 .none .none (.ref 271) 562 97 563)
def j273(P:Pz):=(fo2 "has_move_form" "has_move_form" (top 35) 3 "spinboard.moves" 529 272 0)
def j276(P:Pz):=tq #[(.str "move" 568)]
noncomputable def j278(P:Pz):=Obj.mk .none none (Data.func (FuncData.mk "named_cells" "named_cells" (Z1d (top 36)) (FuncBody.stmts (Z0z (top 36))) (Z0h (top 45)) 0 [] .none .none .none .none none .none .none 0)) #[]
def j279(P:Pz):=(cob "named_cells" 565 "named_cells" 566 567 107 1 0 0 3 274 true 181 275 (.ref 276) (.ref 277) (.ref 278) 569 107 570)
noncomputable def j280(P:Pz):=Obj.mk (.type "function") none (Data.func (FuncData.mk "named_cells" "named_cells" (Z1d (top 36)) (FuncBody.stmts (Z0z (top 36))) (Z0h (top 45)) 3 [] .none .none .none (.str "spinboard.moves" 529) none (.ref 279) .none 0)) #[]
def j283(P:Pz):=(fo1 "turned" "turned" (top 37) 0 0)
def j284(P:Pz):=(cob "turned" 572 "turned" 573 574 109 2 0 0 3 281 true 181 282 .none .none (.ref 283) 575 109 576)
def j285(P:Pz):=(fo2 "turned" "turned" (top 37) 3 "spinboard.moves" 529 284 0)
def j288(P:Pz):=(fo1 "mixed" "mixed" (top 38) 0 0)
def j289(P:Pz):=(cob "mixed" 578 "mixed" 579 580 118 2 0 0 3 286 true 181 287 .none .none (.ref 288) 581 118 582)
def j290(P:Pz):=(fo2 "mixed" "mixed" (top 38) 3 "spinboard.moves" 529 289 0)
def j293(P:Pz):=tq #[(.str "board" 587),(.str "word" 588),(.str "bit" 589)]
def j295(P:Pz):=(fo1 "mixed_at" "mixed_at" (top 39) 0 0)
def j296(P:Pz):=(cob "mixed_at" 584 "mixed_at" 585 586 120 3 0 0 3 291 true 181 292 (.ref 293) (.ref 294) (.ref 295) 590 120 591)
def j297(P:Pz):=(fo2 "mixed_at" "mixed_at" (top 39) 3 "spinboard.moves" 529 296 0)
def j300(P:Pz):=(fo1 "spun_where" "spun_where" (top 40) 0 0)
def j301(P:Pz):=(cob "spun_where" 593 "spun_where" 594 595 124 3 0 0 3 298 true 181 299 .none .none (.ref 300) 596 124 597)
def j302(P:Pz):=(fo2 "spun_where" "spun_where" (top 40) 3 "spinboard.moves" 529 301 0)
def j305(P:Pz):=(fo1 "word_behind" "word_behind" (top 41) 0 0)
def j306(P:Pz):=(cob "word_behind" 599 "word_behind" 600 601 126 2 0 0 3 303 true 181 304 .none .none (.ref 305) 602 126 603)
def j307(P:Pz):=(fo2 "word_behind" "word_behind" (top 41) 3 "spinboard.moves" 529 306 0)
def j310(P:Pz):=tq #[(.str "word" 608),(.str "bit" 609),(.str "other" 610),(.str "both" 611)]
def j312(P:Pz):=(fo1 "exchanged" "exchanged" (top 42) 0 0)
def j313(P:Pz):=(cob "exchanged" 605 "exchanged" 606 607 137 3 0 0 3 308 true 181 309 (.ref 310) (.ref 311) (.ref 312) 612 137 613)
def j314(P:Pz):=(fo2 "exchanged" "exchanged" (top 42) 3 "spinboard.moves" 529 313 0)
def j317(P:Pz):=tq #[(.str "move" 618)]
noncomputable def j319(P:Pz):=Obj.mk .none none (Data.func (FuncData.mk "back_move" "back_move" (Z1d (top 43)) (FuncBody.stmts (Z0z (top 43))) (Z0h (top 45)) 0 [] .none .none .none .none none .none .none 0)) #[]
def j320(P:Pz):=(cob "back_move" 615 "back_move" 616 617 140 1 0 0 3 315 true 181 316 (.ref 317) (.ref 318) (.ref 319) 619 140 620)
noncomputable def j321(P:Pz):=Obj.mk (.type "function") none (Data.func (FuncData.mk "back_move" "back_move" (Z1d (top 43)) (FuncBody.stmts (Z0z (top 43))) (Z0h (top 45)) 3 [] .none .none .none (.str "spinboard.moves" 529) none (.ref 320) .none 0)) #[]
def x14(P:Pz):List Obj:=[j263 P,tz,nf0,j266 P,j267 P,j268 P,tz,nf0,j271 P,j272 P,j273 P,tz,nf0,j276 P,tz,j278 P,j279 P,j280 P,tz,nf0,j283 P,j284 P,j285 P,tz,nf0,j288 P,j289 P,j290 P,tz,nf0,j293 P,tz,j295 P,j296 P,j297 P,tz,nf0,j300 P,j301 P,j302 P,tz,nf0,j305 P,j306 P,j307 P,tz,nf0,j310 P,tz,j312 P,j313 P,j314 P,tz,nf0,j317 P,tz,j319 P,j320 P,j321 P]
def T14 (P:Pz):BT:=iF (iL (T13 P) [(3,X9i P),(12,X7q P)]) 263 (x14 P)
theorem g13 (p:U8)(b:W8)(w:W1)(os:OsState):segRunT treeTable p w 11 (some (.ref 6)) 1 393 (SharedT.mk (T13 w.params) 263 life (Array.mk []) (Drawn.mk 0 0 0 0) 531 os) (piecesOf l13 en (Code.body b en) (Pos.mk 86 0 86 8) BB)=some (Flow.next,(SharedT.mk (T14 w.params) 322 life (Array.mk []) (Drawn.mk 0 0 0 0) 622 os),Code.body b en,(Pos.mk 140 0 143 15)) :=
 (byRow2 "special-get-raises" (P:=λw=>(λw:World=>segRunT treeTable p w 11 (some (.ref 6)) 1 393 (SharedT.mk (T13 w.params) 263 life (Array.mk []) (Drawn.mk 0 0 0 0) 531 os) (piecesOf l13 en (Code.body b en) (Pos.mk 86 0 86 8) BB)=some (Flow.next,(SharedT.mk (T14 w.params) 322 life (Array.mk []) (Drawn.mk 0 0 0 0) 622 os),Code.body b en,(Pos.mk 140 0 143 15))) w) (λw=>by show (λw:World=>segRunT treeTable p w 11 (some (.ref 6)) 1 393 (SharedT.mk (T13 w.params) 263 life (Array.mk []) (Drawn.mk 0 0 0 0) 531 os) (piecesOf l13 en (Code.body b en) (Pos.mk 86 0 86 8) BB)=some (Flow.next,(SharedT.mk (T14 w.params) 322 life (Array.mk []) (Drawn.mk 0 0 0 0) 622 os),Code.body b en,(Pos.mk 140 0 143 15))) (World.withFollow w "special-get-raises" false);rw[PySem.W.Fast.te10110043849684766642,PySem.W.Fast.te14364793385576792824];kernel_rfl) (λw=>by show (λw:World=>segRunT treeTable p w 11 (some (.ref 6)) 1 393 (SharedT.mk (T13 w.params) 263 life (Array.mk []) (Drawn.mk 0 0 0 0) 531 os) (piecesOf l13 en (Code.body b en) (Pos.mk 86 0 86 8) BB)=some (Flow.next,(SharedT.mk (T14 w.params) 322 life (Array.mk []) (Drawn.mk 0 0 0 0) 622 os),Code.body b en,(Pos.mk 140 0 143 15))) (World.withFollow w "special-get-raises" true);rw[PySem.W.Fast.te10110043849684766642,PySem.W.Fast.te14364793385576792824];kernel_rfl)) w
def X5i(P:Pz):List DictEntry:=X5j P++[(dn P "is_odd_turn" 630 (.ref 328)),(dn P "moved_by" 640 (.ref 335)),(dn P "moved_by_mix" 651 (.ref 342)),(dn P "moved_by_turn" 661 (.ref 349)),(dn P "moved_by_if" 672 (.ref 356)),(dn P "moved_by_pair" 683 (.ref 363)),(dn P "MOST_ODD_TURNS" 687 (.int 6 686)),(dn P "back_sum" 697 (.ref 370)),(dn P "check_summed" 707 (.ref 377)),(dn P "terms_ahead" 713 (.ref 382)),(dn P "terms_ahead_of_odd_turn" 727 (.ref 389)),(dn P "gathered" 733 (.ref 394))]
def X9h(P:Pz):=ob3 ((dn P "__name__" 165 (.str "spinboard.rows" 734))::X5i P) 58
def X0b(P:Pz):List Value:=X0c P++[(.int 145 0),(.int 0 0),(.ref 327),(.int 147 0),(.int 0 0),(.ref 334),(.int 161 0),(.int 0 0),(.ref 341),(.int 166 0),(.int 0 0),(.ref 348),(.int 171 0),(.int 0 0),(.ref 355),(.int 175 0),(.int 0 0),(.ref 362),(.int 185 0),(.int 0 0),(.ref 369),(.int 191 0),(.int 0 0),(.ref 376),(.int 198 0),(.int 0 0),(.ref 381),(.int 203 0),(.int 0 0),(.ref 388),(.int 214 0),(.int 0 0),(.ref 393)]
def X7p(P:Pz):=ob12 (X0b P)
def j324(P:Pz):=tq #[(.str "move" 627)]
def j326(P:Pz):=(fo1 "is_odd_turn" "is_odd_turn" (top 45) 0 0)
def j327(P:Pz):=(cob "is_odd_turn" 624 "is_odd_turn" 625 626 145 1 0 0 3 322 true 181 323 (.ref 324) (.ref 325) (.ref 326) 628 145 629)
def j328(P:Pz):=(fo2 "is_odd_turn" "is_odd_turn" (top 45) 3 "spinboard.tableturns" 622 327 0)
def j331(P:Pz):=tq #[(.str "mark" 634),(.str "move" 635),(.str "bit" 636),(.str "other" 637)]
def j333(P:Pz):=(fo1 "moved_by" "moved_by" (top 46) 0 0)
def j334(P:Pz):=(cob "moved_by" 631 "moved_by" 632 633 147 2 0 0 3 329 true 181 330 (.ref 331) (.ref 332) (.ref 333) 638 147 639)
def j335(P:Pz):=(fo2 "moved_by" "moved_by" (top 46) 3 "spinboard.tableturns" 622 334 0)
def j338(P:Pz):=tq #[(.str "mark" 644),(.str "bit" 645),(.str "flips" 646),(.str "signs" 647),(.str "moved" 648)]
def j340(P:Pz):=(fo1 "moved_by_mix" "moved_by_mix" (top 47) 0 0)
def j341(P:Pz):=(cob "moved_by_mix" 641 "moved_by_mix" 642 643 161 2 0 0 3 336 true 181 337 (.ref 338) (.ref 339) (.ref 340) 649 161 650)
def j342(P:Pz):=(fo2 "moved_by_mix" "moved_by_mix" (top 47) 3 "spinboard.tableturns" 622 341 0)
def j345(P:Pz):=tq #[(.str "mark" 655),(.str "bit" 656),(.str "k" 657),(.str "signs" 658)]
def j347(P:Pz):=(fo1 "moved_by_turn" "moved_by_turn" (top 48) 0 0)
def j348(P:Pz):=(cob "moved_by_turn" 652 "moved_by_turn" 653 654 166 3 0 0 3 343 true 181 344 (.ref 345) (.ref 346) (.ref 347) 659 166 660)
def j349(P:Pz):=(fo2 "moved_by_turn" "moved_by_turn" (top 48) 3 "spinboard.tableturns" 622 348 0)
def j352(P:Pz):=tq #[(.str "mark" 665),(.str "bit" 666),(.str "other" 667),(.str "flips" 668),(.str "signs" 669)]
def j354(P:Pz):=(fo1 "moved_by_if" "moved_by_if" (top 49) 0 0)
def j355(P:Pz):=(cob "moved_by_if" 662 "moved_by_if" 663 664 171 3 0 0 3 350 true 181 351 (.ref 352) (.ref 353) (.ref 354) 670 171 671)
def j356(P:Pz):=(fo2 "moved_by_if" "moved_by_if" (top 49) 3 "spinboard.tableturns" 622 355 0)
def j359(P:Pz):=tq #[(.str "mark" 676),(.str "bit" 677),(.str "other" 678),(.str "signs" 679),(.str "moved" 680)]
def j361(P:Pz):=(fo1 "moved_by_pair" "moved_by_pair" (top 50) 0 0)
def j362(P:Pz):=(cob "moved_by_pair" 673 "moved_by_pair" 674 675 175 3 0 0 3 357 true 181 358 (.ref 359) (.ref 360) (.ref 361) 681 175 682)
def j363(P:Pz):=(fo2 "moved_by_pair" "moved_by_pair" (top 50) 3 "spinboard.tableturns" 622 362 0)
def j366(P:Pz):=tq #[(.str "mark" 691),(.str "row" 692),(.str "terms" 693),(.str "move" 694)]
def j368(P:Pz):=(fo1 "back_sum" "back_sum" (top 53) 0 0)
def j369(P:Pz):=(cob "back_sum" 688 "back_sum" 689 690 185 2 0 0 3 364 true 181 365 (.ref 366) (.ref 367) (.ref 368) 695 185 696)
def j370(P:Pz):=(fo2 "back_sum" "back_sum" (top 53) 3 "spinboard.sums" 684 369 0)
def j373(P:Pz):=tq #[(.str "row" 701),(.str "odd_turns" 702),(.str "place" 703),(.str "move" 704)]
def j375(P:Pz):=(fo1 "check_summed" "check_summed" (top 54) 0 0)
def j376(P:Pz):=(cob "check_summed" 698 "check_summed" 699 700 191 1 0 0 3 371 true 181 372 (.ref 373) (.ref 374) (.ref 375) 705 191 706)
def j377(P:Pz):=(fo2 "check_summed" "check_summed" (top 54) 3 "spinboard.sums" 684 376 0)
def j380(P:Pz):=(fo1 "terms_ahead" "terms_ahead" (top 55) 0 0)
def j381(P:Pz):=(cob "terms_ahead" 708 "terms_ahead" 709 710 198 2 0 0 3 378 true 181 379 .none .none (.ref 380) 711 198 712)
def j382(P:Pz):=(fo2 "terms_ahead" "terms_ahead" (top 55) 3 "spinboard.sums" 684 381 0)
def j385(P:Pz):=tq #[(.str "terms" 717),(.str "bit" 718),(.str "k" 719),(.str "for_all" 720),(.str "for_sign" 721),(.str "ahead" 722),(.str "one" 723),(.str "mark" 724)]
def j387(P:Pz):=(fo1 "terms_ahead_of_odd_turn" "terms_ahead_of_odd_turn" (top 56) 0 0)
def j388(P:Pz):=(cob "terms_ahead_of_odd_turn" 714 "terms_ahead_of_odd_turn" 715 716 203 3 0 0 3 383 true 181 384 (.ref 385) (.ref 386) (.ref 387) 725 203 726)
def j389(P:Pz):=(fo2 "terms_ahead_of_odd_turn" "terms_ahead_of_odd_turn" (top 56) 3 "spinboard.sums" 684 388 0)
def j392(P:Pz):=(fo1 "gathered" "gathered" (top 57) 0 0)
def j393(P:Pz):=(cob "gathered" 728 "gathered" 729 730 214 1 0 0 3 390 true 181 391 .none .none (.ref 392) 731 214 732)
def j394(P:Pz):=(fo2 "gathered" "gathered" (top 57) 3 "spinboard.sums" 684 393 0)
def x15(P:Pz):List Obj:=[tz,nf0,j324 P,tz,j326 P,j327 P,j328 P,tz,nf0,j331 P,tz,j333 P,j334 P,j335 P,tz,nf0,j338 P,tz,j340 P,j341 P,j342 P,tz,nf0,j345 P,tz,j347 P,j348 P,j349 P,tz,nf0,j352 P,tz,j354 P,j355 P,j356 P,tz,nf0,j359 P,tz,j361 P,j362 P,j363 P,tz,nf0,j366 P,tz,j368 P,j369 P,j370 P,tz,nf0,j373 P,tz,j375 P,j376 P,j377 P,tz,nf0,j380 P,j381 P,j382 P,tz,nf0,j385 P,tz,j387 P,j388 P,j389 P,tz,nf0,j392 P,j393 P,j394 P]
def T15 (P:Pz):BT:=iF (iL (T14 P) [(3,X9h P),(12,X7p P)]) 322 (x15 P)
theorem g14 (p:U8)(b:W8)(w:W1)(os:OsState):segRunT treeTable p w 11 (some (.ref 6)) 1 381 (SharedT.mk (T14 w.params) 322 life (Array.mk []) (Drawn.mk 0 0 0 0) 622 os) (piecesOf l14 en (Code.body b en) (Pos.mk 140 0 143 15) BB)=some (Flow.next,(SharedT.mk (T15 w.params) 395 life (Array.mk []) (Drawn.mk 0 0 0 0) 736 os),Code.body b en,(Pos.mk 222 0 222 8)):=by rw[PySem.W.Fast.te10110043849684766642,PySem.W.Fast.te14364793385576792824];kernel_rfl
def X5h(P:Pz):List DictEntry:=X5i P++[(dn P "run" 745 (.ref 401)),(dn P "_law_cell_at" 755 (.ref 408)),(dn P "_law_whole" 762 (.ref 415)),(dn P "_law_cells_by" 769 (.ref 422)),(dn P "_law_low" 775 (.ref 427)),(dn P "_law_spin" 789 (.ref 434)),(dn P "_law_amount_by" 801 (.ref 441)),(dn P "_law_board_by" 807 (.ref 446)),(dn P "_law_amount_is" 816 (.ref 453)),(dn P "_law_board_is" 825 (.ref 460)),(dn P "_law_mark_by" 835 (.ref 467)),(dn P "_law_bits" 843 (.ref 474))]
def X9g(P:Pz):=ob3 ((dn P "__name__" 165 (.str "law_spinboard_k64_whole_a_mark_ahead_of_a_ro" 746))::X5h P) 70
def X0a(P:Pz):List Value:=X0b P++[(.int 223 0),(.int 0 0),(.ref 400),(.int 229 0),(.int 0 0),(.ref 407),(.int 233 0),(.int 0 0),(.ref 414),(.int 235 0),(.int 0 0),(.ref 421),(.int 239 0),(.int 0 0),(.ref 426),(.int 246 0),(.int 0 0),(.ref 433),(.int 251 0),(.int 0 0),(.ref 440),(.int 271 0),(.int 0 0),(.ref 445),(.int 278 0),(.int 0 0),(.ref 452),(.int 285 0),(.int 0 0),(.ref 459),(.int 292 0),(.int 0 0),(.ref 466),(.int 296 0),(.int 0 0),(.ref 473)]
def X7o(P:Pz):=ob12 (X0a P)
def j397(P:Pz):=tq #[(.str "board" 739),(.str "row" 740),(.str "behind" 741),(.str "move" 742)]
def j399(P:Pz):=(fo1 "run" "run" (top 59) 0 0)
def j400(P:Pz):=(cob "run" 736 "run" 737 738 223 2 0 0 3 395 true 181 396 (.ref 397) (.ref 398) (.ref 399) 743 223 744)
def j401(P:Pz):=(fo2 "run" "run" (top 59) 3 "spinboard.rows" 734 400 0)
def j404(P:Pz):=tq #[(.str "_law_script" 751),(.str "_law_k" 752)]
def j406(P:Pz):=(fo1 "_law_cell_at" "_law_cell_at" (top 61) 0 0)
def j407(P:Pz):=(cob "_law_cell_at" 748 "_law_cell_at" 749 750 229 2 0 0 3 402 true 181 403 (.ref 404) (.ref 405) (.ref 406) 753 229 754)
def j408(P:Pz):=(fo2 "_law_cell_at" "_law_cell_at" (top 61) 3 "law_spinboard_k64_whole_a_mark_ahead_of_a_ro" 746 407 0)
def j411(P:Pz):=tq #[(.str "_law_found" 759)]
def j413(P:Pz):=(fo1 "_law_whole" "_law_whole" (top 62) 0 0)
def j414(P:Pz):=(cob "_law_whole" 756 "_law_whole" 757 758 233 1 0 0 3 409 true 181 410 (.ref 411) (.ref 412) (.ref 413) 760 233 761)
def j415(P:Pz):=(fo2 "_law_whole" "_law_whole" (top 62) 3 "law_spinboard_k64_whole_a_mark_ahead_of_a_ro" 746 414 0)
def j418(P:Pz):=tq #[(.str "_law_cell" 766)]
def j420(P:Pz):=(fo1 "_law_cells_by" "_law_cells_by" (top 63) 0 0)
def j421(P:Pz):=(cob "_law_cells_by" 763 "_law_cells_by" 764 765 235 1 0 0 3 416 true 181 417 (.ref 418) (.ref 419) (.ref 420) 767 235 768)
def j422(P:Pz):=(fo2 "_law_cells_by" "_law_cells_by" (top 63) 3 "law_spinboard_k64_whole_a_mark_ahead_of_a_ro" 746 421 0)
def j425(P:Pz):=(fo1 "_law_low" "_law_low" (top 64) 0 0)
def j426(P:Pz):=(cob "_law_low" 770 "_law_low" 771 772 239 2 0 0 3 423 true 181 424 .none .none (.ref 425) 773 239 774)
def j427(P:Pz):=(fo2 "_law_low" "_law_low" (top 64) 3 "law_spinboard_k64_whole_a_mark_ahead_of_a_ro" 746 426 0)
def j430(P:Pz):=tq #[(.str "_law_one" 779),(.str "_law_k" 780),(.str "_law_a" 781),(.str "_law_b" 782),(.str "_law_c" 783),(.str "_law_d" 784),(.str "_law_h" 785),(.str "_law_j" 786)]
def j432(P:Pz):=(fo1 "_law_spin" "_law_spin" (top 65) 0 0)
def j433(P:Pz):=(cob "_law_spin" 776 "_law_spin" 777 778 246 2 0 0 3 428 true 181 429 (.ref 430) (.ref 431) (.ref 432) 787 246 788)
def j434(P:Pz):=(fo2 "_law_spin" "_law_spin" (top 65) 3 "law_spinboard_k64_whole_a_mark_ahead_of_a_ro" 746 433 0)
def j437(P:Pz):=tq #[(.str "_law_cell" 793),(.str "_law_far_here" 794),(.str "_law_size" 795),(.str "_law_parts" 796),(.str "_law_k" 797),(.str "_law_half" 798)]
def j439(P:Pz):=(fo1 "_law_amount_by" "_law_amount_by" (top 66) 0 0)
def j440(P:Pz):=(cob "_law_amount_by" 790 "_law_amount_by" 791 792 251 1 0 0 3 435 true 181 436 (.ref 437) (.ref 438) (.ref 439) 799 251 800)
def j441(P:Pz):=(fo2 "_law_amount_by" "_law_amount_by" (top 66) 3 "law_spinboard_k64_whole_a_mark_ahead_of_a_ro" 746 440 0)
def j444(P:Pz):=(fo1 "_law_board_by" "_law_board_by" (top 67) 0 0)
def j445(P:Pz):=(cob "_law_board_by" 802 "_law_board_by" 803 804 271 3 0 0 3 442 true 181 443 .none .none (.ref 444) 805 271 806)
def j446(P:Pz):=(fo2 "_law_board_by" "_law_board_by" (top 67) 3 "law_spinboard_k64_whole_a_mark_ahead_of_a_ro" 746 445 0)
def j449(P:Pz):=tq #[(.str "_law_found" 811),(.str "_law_due" 812),(.str "_law_k" 813)]
def j451(P:Pz):=(fo1 "_law_amount_is" "_law_amount_is" (top 68) 0 0)
def j452(P:Pz):=(cob "_law_amount_is" 808 "_law_amount_is" 809 810 278 2 0 0 3 447 true 181 448 (.ref 449) (.ref 450) (.ref 451) 814 278 815)
def j453(P:Pz):=(fo2 "_law_amount_is" "_law_amount_is" (top 68) 3 "law_spinboard_k64_whole_a_mark_ahead_of_a_ro" 746 452 0)
def j456(P:Pz):=tq #[(.str "_law_found" 820),(.str "_law_due" 821),(.str "_law_k" 822)]
def j458(P:Pz):=(fo1 "_law_board_is" "_law_board_is" (top 69) 0 0)
def j459(P:Pz):=(cob "_law_board_is" 817 "_law_board_is" 818 819 285 2 0 0 3 454 true 181 455 (.ref 456) (.ref 457) (.ref 458) 823 285 824)
def j460(P:Pz):=(fo2 "_law_board_is" "_law_board_is" (top 69) 3 "law_spinboard_k64_whole_a_mark_ahead_of_a_ro" 746 459 0)
def j463(P:Pz):=tq #[(.str "_law_cell" 829),(.str "_law_cells" 830),(.str "_law_mixed_up" 831),(.str "_law_size" 832)]
def j465(P:Pz):=(fo1 "_law_mark_by" "_law_mark_by" (top 70) 0 0)
def j466(P:Pz):=(cob "_law_mark_by" 826 "_law_mark_by" 827 828 292 2 0 0 3 461 true 181 462 (.ref 463) (.ref 464) (.ref 465) 833 292 834)
def j467(P:Pz):=(fo2 "_law_mark_by" "_law_mark_by" (top 70) 3 "law_spinboard_k64_whole_a_mark_ahead_of_a_ro" 746 466 0)
def j470(P:Pz):=tq #[(.str "_law_number" 839),(.str "_law_many" 840)]
def j472(P:Pz):=(fo1 "_law_bits" "_law_bits" (top 71) 0 0)
def j473(P:Pz):=(cob "_law_bits" 836 "_law_bits" 837 838 296 1 0 0 3 468 true 181 469 (.ref 470) (.ref 471) (.ref 472) 841 296 842)
def j474(P:Pz):=(fo2 "_law_bits" "_law_bits" (top 71) 3 "law_spinboard_k64_whole_a_mark_ahead_of_a_ro" 746 473 0)
def x16(P:Pz):List Obj:=[tz,nf0,j397 P,tz,j399 P,j400 P,j401 P,tz,nf0,j404 P,tz,j406 P,j407 P,j408 P,tz,nf0,j411 P,tz,j413 P,j414 P,j415 P,tz,nf0,j418 P,tz,j420 P,j421 P,j422 P,tz,nf0,j425 P,j426 P,j427 P,tz,nf0,j430 P,tz,j432 P,j433 P,j434 P,tz,nf0,j437 P,tz,j439 P,j440 P,j441 P,tz,nf0,j444 P,j445 P,j446 P,tz,nf0,j449 P,tz,j451 P,j452 P,j453 P,tz,nf0,j456 P,tz,j458 P,j459 P,j460 P,tz,nf0,j463 P,tz,j465 P,j466 P,j467 P,tz,nf0,j470 P,tz,j472 P,j473 P,j474 P]
def T16 (P:Pz):BT:=iF (iL (T15 P) [(3,X9g P),(12,X7o P)]) 395 (x16 P)
theorem g15 (p:U8)(b:W8)(w:W1)(os:OsState):segRunT treeTable p w 11 (some (.ref 6)) 1 376 (SharedT.mk (T15 w.params) 395 life (Array.mk []) (Drawn.mk 0 0 0 0) 736 os) (piecesOf l15 en (Code.body b en) (Pos.mk 222 0 222 8) BB)=some (Flow.next,(SharedT.mk (T16 w.params) 475 life (Array.mk []) (Drawn.mk 0 0 0 0) 844 os),Code.body b en,(Pos.mk 296 0 301 20)):=by rw[PySem.W.Fast.te10110043849684766642,PySem.W.Fast.te14364793385576792824];kernel_rfl
def X8u(P:Pz):List DictEntry:=X5h P++[(dn P "_law_times" 856 (.ref 481)),(dn P "_law_plus" 862 (.ref 486)),(dn P "_law_move_by" 868 (.ref 491)),(dn P "_law_lay" 881 (.ref 498)),(dn P "_law_far" 887 (.ref 503)),(dn P "_law_row_by" 901 (.ref 510)),(dn P "_law_place" 910 (.ref 517)),(dn P "_law_refused" 921 (.ref 524)),(dn P "_law_is_term" 927 (.ref 529)),(dn P "_law_are_terms" 933 (.ref 534)),(dn P "_law_summed" 939 (.ref 539)),(dn P "law" 945 (.ref 544))]
def X7k(P:Pz):=ob3 ((dn P "__name__" 165 (.str "law_spinboard_k64_whole_a_mark_ahead_of_a_ro" 746))::X8u P) 82
def X5x(P:Pz):List Value:=X0a P++[(.int 302 0),(.int 0 0),(.ref 480),(.int 310 0),(.int 0 0),(.ref 485),(.int 315 0),(.int 0 0),(.ref 490),(.int 331 0),(.int 0 0),(.ref 497),(.int 337 0),(.int 0 0),(.ref 502),(.int 344 0),(.int 0 0),(.ref 509),(.int 358 0),(.int 0 0),(.ref 516),(.int 365 0),(.int 0 0),(.ref 523),(.int 374 0),(.int 0 0),(.ref 528),(.int 387 0),(.int 0 0),(.ref 533),(.int 399 0),(.int 0 0),(.ref 538),(.int 405 0),(.int 0 0),(.ref 543)]
def X1j(P:Pz):=ob12 (X5x P)
def j477(P:Pz):=tq #[(.str "_law_one" 847),(.str "_law_other" 848),(.str "_law_parts" 849),(.str "_law_j" 850),(.str "_law_k" 851),(.str "_law_at" 852),(.str "_law_sign" 853)]
def j479(P:Pz):=(fo1 "_law_times" "_law_times" (top 72) 0 0)
def j480(P:Pz):=(cob "_law_times" 844 "_law_times" 845 846 302 2 0 0 3 475 true 181 476 (.ref 477) (.ref 478) (.ref 479) 854 302 855)
def j481(P:Pz):=(fo2 "_law_times" "_law_times" (top 72) 3 "law_spinboard_k64_whole_a_mark_ahead_of_a_ro" 746 480 0)
def j484(P:Pz):=(fo1 "_law_plus" "_law_plus" (top 73) 0 0)
def j485(P:Pz):=(cob "_law_plus" 857 "_law_plus" 858 859 310 3 0 0 3 482 true 181 483 .none .none (.ref 484) 860 310 861)
def j486(P:Pz):=(fo2 "_law_plus" "_law_plus" (top 73) 3 "law_spinboard_k64_whole_a_mark_ahead_of_a_ro" 746 485 0)
def j489(P:Pz):=(fo1 "_law_move_by" "_law_move_by" (top 74) 0 0)
def j490(P:Pz):=(cob "_law_move_by" 863 "_law_move_by" 864 865 315 2 0 0 3 487 true 181 488 .none .none (.ref 489) 866 315 867)
def j491(P:Pz):=(fo2 "_law_move_by" "_law_move_by" (top 74) 3 "law_spinboard_k64_whole_a_mark_ahead_of_a_ro" 746 490 0)
def j494(P:Pz):=tq #[(.str "_law_board" 872),(.str "_law_mark" 873),(.str "_law_q" 874),(.str "_law_f" 875),(.str "_law_s" 876),(.str "_law_due" 877),(.str "_law_word" 878)]
def j496(P:Pz):=(fo1 "_law_lay" "_law_lay" (top 75) 0 0)
def j497(P:Pz):=(cob "_law_lay" 869 "_law_lay" 870 871 331 2 0 0 3 492 true 181 493 (.ref 494) (.ref 495) (.ref 496) 879 331 880)
def j498(P:Pz):=(fo2 "_law_lay" "_law_lay" (top 75) 3 "law_spinboard_k64_whole_a_mark_ahead_of_a_ro" 746 497 0)
def j501(P:Pz):=(fo1 "_law_far" "_law_far" (top 76) 0 0)
def j502(P:Pz):=(cob "_law_far" 882 "_law_far" 883 884 337 1 0 0 3 499 true 181 500 .none .none (.ref 501) 885 337 886)
def j503(P:Pz):=(fo2 "_law_far" "_law_far" (top 76) 3 "law_spinboard_k64_whole_a_mark_ahead_of_a_ro" 746 502 0)
def j506(P:Pz):=tq #[(.str "_law_numbers" 891),(.str "_law_cells" 892),(.str "_law_wild" 893),(.str "_law_row" 894),(.str "_law_odd" 895),(.str "_law_most" 896),(.str "_law_number" 897),(.str "_law_move" 898)]
def j508(P:Pz):=(fo1 "_law_row_by" "_law_row_by" (top 77) 0 0)
def j509(P:Pz):=(cob "_law_row_by" 888 "_law_row_by" 889 890 344 3 0 0 3 504 true 181 505 (.ref 506) (.ref 507) (.ref 508) 899 344 900)
def j510(P:Pz):=(fo2 "_law_row_by" "_law_row_by" (top 77) 3 "law_spinboard_k64_whole_a_mark_ahead_of_a_ro" 746 509 0)
def j513(P:Pz):=tq #[(.str "_law_row" 905),(.str "_law_odd" 906),(.str "_law_k" 907)]
def j515(P:Pz):=(fo1 "_law_place" "_law_place" (top 78) 0 0)
def j516(P:Pz):=(cob "_law_place" 902 "_law_place" 903 904 358 1 0 0 3 511 true 181 512 (.ref 513) (.ref 514) (.ref 515) 908 358 909)
def j517(P:Pz):=(fo2 "_law_place" "_law_place" (top 78) 3 "law_spinboard_k64_whole_a_mark_ahead_of_a_ro" 746 516 0)
def j520(P:Pz):=tq #[(.str "_law_mark" 914),(.str "_law_row" 915),(.str "_law_place_here" 916),(.str "e" 917),(.str "_law_others" 918)]
def j522(P:Pz):=(fo1 "_law_refused" "_law_refused" (top 79) 0 0)
def j523(P:Pz):=(cob "_law_refused" 911 "_law_refused" 912 913 365 3 0 0 3 518 true 181 519 (.ref 520) (.ref 521) (.ref 522) 919 365 920)
def j524(P:Pz):=(fo2 "_law_refused" "_law_refused" (top 79) 3 "law_spinboard_k64_whole_a_mark_ahead_of_a_ro" 746 523 0)
def j527(P:Pz):=(fo1 "_law_is_term" "_law_is_term" (top 80) 0 0)
def j528(P:Pz):=(cob "_law_is_term" 922 "_law_is_term" 923 924 374 2 0 0 3 525 true 181 526 .none .none (.ref 527) 925 374 926)
def j529(P:Pz):=(fo2 "_law_is_term" "_law_is_term" (top 80) 3 "law_spinboard_k64_whole_a_mark_ahead_of_a_ro" 746 528 0)
def j532(P:Pz):=(fo1 "_law_are_terms" "_law_are_terms" (top 81) 0 0)
def j533(P:Pz):=(cob "_law_are_terms" 928 "_law_are_terms" 929 930 387 3 0 0 3 530 true 181 531 .none .none (.ref 532) 931 387 932)
def j534(P:Pz):=(fo2 "_law_are_terms" "_law_are_terms" (top 81) 3 "law_spinboard_k64_whole_a_mark_ahead_of_a_ro" 746 533 0)
def j537(P:Pz):=(fo1 "_law_summed" "_law_summed" (top 82) 0 0)
def j538(P:Pz):=(cob "_law_summed" 934 "_law_summed" 935 936 399 2 0 0 3 535 true 181 536 .none .none (.ref 537) 937 399 938)
def j539(P:Pz):=(fo2 "_law_summed" "_law_summed" (top 82) 3 "law_spinboard_k64_whole_a_mark_ahead_of_a_ro" 746 538 0)
def j542(P:Pz):=(fo1 "law" "law" (top 83) 0 0)
def j543(P:Pz):=(cob "law" 940 "law" 941 942 405 1 0 0 3 540 true 181 541 .none .none (.ref 542) 943 405 944)
def j544(P:Pz):=(fo2 "law" "law" (top 83) 3 "law_spinboard_k64_whole_a_mark_ahead_of_a_ro" 746 543 0)
def x17(P:Pz):List Obj:=[tz,nf0,j477 P,tz,j479 P,j480 P,j481 P,tz,nf0,j484 P,j485 P,j486 P,tz,nf0,j489 P,j490 P,j491 P,tz,nf0,j494 P,tz,j496 P,j497 P,j498 P,tz,nf0,j501 P,j502 P,j503 P,tz,nf0,j506 P,tz,j508 P,j509 P,j510 P,tz,nf0,j513 P,tz,j515 P,j516 P,j517 P,tz,nf0,j520 P,tz,j522 P,j523 P,j524 P,tz,nf0,j527 P,j528 P,j529 P,tz,nf0,j532 P,j533 P,j534 P,tz,nf0,j537 P,j538 P,j539 P,tz,nf0,j542 P,j543 P,j544 P]
def T17 (P:Pz):BT:=iF (iL (T16 P) [(3,X7k P),(12,X1j P)]) 475 (x17 P)
theorem g16 (p:U8)(b:W8)(w:W1)(os:OsState):segRunT treeTable p w 11 (some (.ref 6)) 1 353 (SharedT.mk (T16 w.params) 475 life (Array.mk []) (Drawn.mk 0 0 0 0) 844 os) (piecesOf l16 en (Code.body b en) (Pos.mk 296 0 301 20) BB)=some (Flow.next,(SharedT.mk (T17 w.params) 545 life (Array.mk []) (Drawn.mk 0 0 0 0) 946 os),Code.body b en,(Pos.mk 405 0 425 61)):=by rw[PySem.W.Fast.te10110043849684766642,PySem.W.Fast.te14364793385576792824];kernel_rfl
def Hl(P:Pz):List Obj:=[boot_o_0 P,boot_o_1 P,boot_o_2 P,X7k P,boot_o_4 P,boot_o_5 P,boot_o_6 P,boot_o_7 P,boot_o_8 P,boot_o_9 P,boot_o_10 P,tz,X1j P,j13 P,j14 P]++(((x1 P).set 9 (Y5z P))++((x2 P)++((x3 P)++((x4 P)++((x5 P)++((x6 P)++((x7 P)++((x8 P)++((x9 P)++((x10 P)++((x11 P)++((x12 P)++((x13 P)++((x14 P)++((x15 P)++((x16 P)++(x17 P)))))))))))))))))
def Hf (P:Pz):Heap:=Heap.mk (Array.mk (Hl P)) life
theorem fin_ (w:W1)(os:OsState):topRun treeTable pr w 11 (some (.ref 6)) 2 ((SharedT.mk (T17 w.params) 545 life (Array.mk []) (Drawn.mk 0 0 0 0) 946 os).abs) (Thread.mk (doneF .next) cE (Pos.mk 405 0 425 61) BB)=some (Shared.mk (Hf w.params) (Array.mk []) (Drawn.mk 0 0 0 0) 946 os):=by rw[PySem.W.Fast.te14082659384304107361,PySem.W.Fast.te14364793385576792824];kernel_rfl
noncomputable abbrev MM:Nat:=12+(1+(196+(214+(214+(214+(214+(214+(214+(214+(214+(246+(246+(387+(301+(393+(381+(376+(353+2))))))))))))))))))
theorem run_ (w:W1)(os:OsState):topRun treeTable pr w 11 (some (.ref 6)) MM (Shared.mk (boot_heap w.params) (Array.mk []) boot_drawn boot_toks os) (topStub pr)=some (Shared.mk (Hf w.params) (Array.mk []) (Drawn.mk 0 0 0 0) 946 os):=go_top (pre_ w os) (piece_block (X8m w os) (q2u (q2t (g0 _ _ w os)) (q2u (q2t (g1 _ _ w os)) (q2u (q2t (g2 _ _ w os)) (q2u (q2t (g3 _ _ w os)) (q2u (q2t (g4 _ _ w os)) (q2u (q2t (g5 _ _ w os)) (q2u (q2t (g6 _ _ w os)) (q2u (q2t (g7 _ _ w os)) (q2u (q2t (g8 _ _ w os)) (q2u (q2t (g9 _ _ w os)) (q2u (q2t (g10 _ _ w os)) (q2u (q2t (g11 _ _ w os)) (q2u (q2t (g12 _ _ w os)) (q2u (q2t (g13 _ _ w os)) (q2u (q2t (g14 _ _ w os)) (q2u (q2t (g15 _ _ w os)) (q2u (q2t (g16 _ _ w os)) (piece_nil (fin_ w os))))))))))))))))))))
noncomputable def qq:Program:={ pr with main:={ pr.main with body:=[top 1,top 2,top 3,top 4,top 5,top 6,top 7,top 8,top 9,top 10,top 11,top 12,top 14,top 16,top 17,top 18,top 19,top 20,top 21,top 22,top 24,top 25,top 27,top 28,top 29,top 31,top 33,top 34,top 35,top 36,top 37,top 38,top 39,top 40,top 41,top 42,top 43,top 45,top 46,top 47,top 48,top 49,top 50,top 52,top 53,top 54,top 55,top 56,top 57,top 59,top 61,top 62,top 63,top 64,top 65,top 66,top 67,top 68,top 69,top 70,top 71,top 72,top 73,top 74,top 75,top 76,top 77,top 78,top 79,top 80,top 81,top 82,top 83] } }
noncomputable def loose:List PySem.Str:=[Str.ofString "NUMBERS_BEHIND"]
noncomputable def lv:List (PySem.Str × WData):=[]
noncomputable abbrev NN:Nat:=9274
noncomputable def aa:List Addr:=[2,3,15,22,23,24,25,28,35,36,37,40,47,48,49,52,59,60,61,64,71,72,73,76,83,84,85,88,95,96,97,100,107,108,109,112,119,120,121,124,131,133,134,136,137,138,139,140,143,150,152,153,155,156,157,158,159,162,169,171,172,174,175,176,177,178,181,183,184,186,187,188,190,191,193,194,195,198,199,200,202,203,205,206,207,210,211,212,214,215,217,218,219,221,222,224,225,226,228,229,231,232,233,235,236,238,239,240,242,243,245,246,247,248,249,251,252,254,255,256,258,259,261,262,263,264,267,268,269,272,273,274,276,277,279,280,281,284,285,286,289,290,291,293,294,296,297,298,301,302,303,306,307,308,310,311,313,314,315,317,318,320,321,322,324,325,327,328,329,331,332,334,335,336,338,339,341,342,343,345,346,348,349,350,352,353,355,356,357,359,360,362,363,364,366,367,369,370,371,373,374,376,377,378,381,382,383,385,386,388,389,390,393,394,395,397,398,400,401,402,404,405,407,408,409,411,412,414,415,416,418,419,421,422,423,426,427,428,430,431,433,434,435,437,438,440,441,442,445,446,447,449,450,452,453,454,456,457,459,460,461,463,464,466,467,468,470,471,473,474,475,477,478,480,481,482,485,486,487,490,491,492,494,495,497,498,499,502,503,504,506,507,509,510,511,513,514,516,517,518,520,521,523,524,525,528,529,530,533,534,535,538,539,540,543,544]
def KK (P:Pz):Frag:=aa.map λa=>(a,(Hl P).getD a nf0)
theorem X8y:∀ w:World,(fencedOpening treeTable pr w NN).map (λs=>(s.heap,s.gens,s.drawn,s.toks))=some (boot_heap w.params,Array.mk [],boot_drawn,boot_toks) :=
 boot_open (p:=pr) (N:=NN) (by kernel_rfl) (by kernel_rfl) (λs=>by kernel_rfl)
theorem X8x (w:W1):((boot_heap w.params).isNs mainGlobals && (Array.mk []:Array GenState).size == 0,(boot_heap w.params).objs.size,(boot_heap w.params).nsMap mainGlobals "__annotations__")=(true,11,((some (.ref 6)):Option Value)):=by kernel_rfl
theorem le_:Nat.ble MM NN=true:=by kernel_rfl
noncomputable abbrev rr:OpenRow:=PySem.Challenge.rw_spinboard_k64_whole_a_mark_ahead_of_a_ro.row
noncomputable abbrev HH:Hook:=kHook KK aa (λ_=>by kernel_rfl)
noncomputable abbrev Xt (s:U7):Bool:=xlAt qq lv s && recOk (RowW.records rr.toRowW) s
noncomputable abbrev sf (w:W1)(os:OsState):Shared:=Shared.mk (Hf w.params) (Array.mk []) (Drawn.mk 0 0 0 0) 946 os
theorem lk1 (w:W1)(os:OsState):(staticsOk (importedModules pr.main.body) (boot_heap w.params) (Hf w.params) && namesBound pr (Hf w.params) && gensDone (sf w os) && laidKept (boot_heap w.params) (Hf w.params))=true:=by rw[PySem.W.Fast.te5923862056798008813];kernel_rfl
theorem lk2 (w:W1)(os:OsState):openSeen qq loose (importedModules pr.main.body) Xt true (sf w os)=openGood qq loose:=by rw[PySem.W.Fast.te4187177175401517315,PySem.W.Fast.te5923862056798008813];kernel_rfl
theorem lk3 (w:W1)(os:OsState):HH.obs (sf w os)=HH.val w:=by kernel_rfl
theorem left_:LeftO pr qq loose Xt HH.obs HH.val NN :=
 LeftO.of_pieces (H₀:=boot_heap) (H₁:=Hf) X8y X8x run_ le_ λw=>funext λos=>looks_pair (lk1 w os) (looks_pair (lk2 w os) (lk3 w os))
theorem said_:PySem.Challenge.rw_spinboard_k64_whole_a_mark_ahead_of_a_ro.wellSaid=true:=by rw[PySem.W.Fast.te9446332074065402090];kernel_rfl
theorem k544 (P:Pz):(KK P).lookup 544=some (j544 P):=by kernel_rfl
theorem k187 (P:Pz):(KK P).lookup 187=some (j187 P):=by kernel_rfl
theorem k194 (P:Pz):(KK P).lookup 194=some (j194 P):=by kernel_rfl
theorem k199 (P:Pz):(KK P).lookup 199=some (j199 P):=by kernel_rfl
theorem k206 (P:Pz):(KK P).lookup 206=some (j206 P):=by kernel_rfl
theorem k211 (P:Pz):(KK P).lookup 211=some (j211 P):=by kernel_rfl
theorem k218 (P:Pz):(KK P).lookup 218=some (j218 P):=by kernel_rfl
theorem k225 (P:Pz):(KK P).lookup 225=some (j225 P):=by kernel_rfl
theorem k232 (P:Pz):(KK P).lookup 232=some (j232 P):=by kernel_rfl
theorem k239 (P:Pz):(KK P).lookup 239=some (j239 P):=by kernel_rfl
theorem k246 (P:Pz):(KK P).lookup 246=some (j246 P):=by kernel_rfl
theorem k255 (P:Pz):(KK P).lookup 255=some (j255 P):=by kernel_rfl
theorem k262 (P:Pz):(KK P).lookup 262=some (j262 P):=by kernel_rfl
theorem k268 (P:Pz):(KK P).lookup 268=some (j268 P):=by kernel_rfl
theorem k273 (P:Pz):(KK P).lookup 273=some (j273 P):=by kernel_rfl
theorem k280 (P:Pz):(KK P).lookup 280=some (j280 P):=by kernel_rfl
theorem k285 (P:Pz):(KK P).lookup 285=some (j285 P):=by kernel_rfl
theorem k290 (P:Pz):(KK P).lookup 290=some (j290 P):=by kernel_rfl
theorem k297 (P:Pz):(KK P).lookup 297=some (j297 P):=by kernel_rfl
theorem k302 (P:Pz):(KK P).lookup 302=some (j302 P):=by kernel_rfl
theorem k307 (P:Pz):(KK P).lookup 307=some (j307 P):=by kernel_rfl
theorem k314 (P:Pz):(KK P).lookup 314=some (j314 P):=by kernel_rfl
theorem k321 (P:Pz):(KK P).lookup 321=some (j321 P):=by kernel_rfl
theorem k328 (P:Pz):(KK P).lookup 328=some (j328 P):=by kernel_rfl
theorem k335 (P:Pz):(KK P).lookup 335=some (j335 P):=by kernel_rfl
theorem k342 (P:Pz):(KK P).lookup 342=some (j342 P):=by kernel_rfl
theorem k349 (P:Pz):(KK P).lookup 349=some (j349 P):=by kernel_rfl
theorem k356 (P:Pz):(KK P).lookup 356=some (j356 P):=by kernel_rfl
theorem k363 (P:Pz):(KK P).lookup 363=some (j363 P):=by kernel_rfl
theorem k370 (P:Pz):(KK P).lookup 370=some (j370 P):=by kernel_rfl
theorem k377 (P:Pz):(KK P).lookup 377=some (j377 P):=by kernel_rfl
theorem k382 (P:Pz):(KK P).lookup 382=some (j382 P):=by kernel_rfl
theorem k389 (P:Pz):(KK P).lookup 389=some (j389 P):=by kernel_rfl
theorem k394 (P:Pz):(KK P).lookup 394=some (j394 P):=by kernel_rfl
theorem k401 (P:Pz):(KK P).lookup 401=some (j401 P):=by kernel_rfl
theorem k408 (P:Pz):(KK P).lookup 408=some (j408 P):=by kernel_rfl
theorem k415 (P:Pz):(KK P).lookup 415=some (j415 P):=by kernel_rfl
theorem k422 (P:Pz):(KK P).lookup 422=some (j422 P):=by kernel_rfl
theorem k427 (P:Pz):(KK P).lookup 427=some (j427 P):=by kernel_rfl
theorem k434 (P:Pz):(KK P).lookup 434=some (j434 P):=by kernel_rfl
theorem k441 (P:Pz):(KK P).lookup 441=some (j441 P):=by kernel_rfl
theorem k446 (P:Pz):(KK P).lookup 446=some (j446 P):=by kernel_rfl
theorem k453 (P:Pz):(KK P).lookup 453=some (j453 P):=by kernel_rfl
theorem k460 (P:Pz):(KK P).lookup 460=some (j460 P):=by kernel_rfl
theorem k467 (P:Pz):(KK P).lookup 467=some (j467 P):=by kernel_rfl
theorem k474 (P:Pz):(KK P).lookup 474=some (j474 P):=by kernel_rfl
theorem k481 (P:Pz):(KK P).lookup 481=some (j481 P):=by kernel_rfl
theorem k486 (P:Pz):(KK P).lookup 486=some (j486 P):=by kernel_rfl
theorem k491 (P:Pz):(KK P).lookup 491=some (j491 P):=by kernel_rfl
theorem k498 (P:Pz):(KK P).lookup 498=some (j498 P):=by kernel_rfl
theorem k503 (P:Pz):(KK P).lookup 503=some (j503 P):=by kernel_rfl
theorem k510 (P:Pz):(KK P).lookup 510=some (j510 P):=by kernel_rfl
theorem k517 (P:Pz):(KK P).lookup 517=some (j517 P):=by kernel_rfl
theorem k524 (P:Pz):(KK P).lookup 524=some (j524 P):=by kernel_rfl
theorem k529 (P:Pz):(KK P).lookup 529=some (j529 P):=by kernel_rfl
theorem k534 (P:Pz):(KK P).lookup 534=some (j534 P):=by kernel_rfl
theorem k539 (P:Pz):(KK P).lookup 539=some (j539 P):=by kernel_rfl
theorem k159 (P:Pz):(KK P).lookup 159=some (j159 P):=by kernel_rfl
theorem k156 (P:Pz):(KK P).lookup 156=some (j156 P):=by kernel_rfl
theorem k24 (P:Pz):(KK P).lookup 24=some (Y5z P):=by kernel_rfl
theorem k263 (P:Pz):(KK P).lookup 263=some (j263 P):=by kernel_rfl
theorem k248 (P:Pz):(KK P).lookup 248=some (j248 P):=by kernel_rfl
theorem k247 (P:Pz):(KK P).lookup 247=some (j247 P):=by kernel_rfl
theorem ft {K:U0}{x:Str}{st:Stmt}{f:W9}{oc:W2}{od an:W5}{osl:W4}{dV kV doc pm cdv ct:W2}
  (l:K.lookup f=some ⟨oc,od,.func (PySem.W.fnOf x x (Z1d st) (Z0z st) (Z0h st) dV kV doc pm an cdv ct),osl⟩) (a:PySem.W.nsIn K mainGlobals x=some (some (.ref f)):=by kernel_rfl) (c:PySem.W.codeIn K cdv x=true:=by kernel_rfl) (k:PySem.W.keepIn K (.ref f)=true:=by kernel_rfl):FunAt K x st dV:=fat a l c k
theorem f14 (P:Pz):FunAt (KK P) "is_whole" (top 14) .none:=ft (k187 P)
theorem f16 (P:Pz):FunAt (KK P) "halved_out" (top 16) .none:=ft (k194 P)
theorem f17 (P:Pz):FunAt (KK P) "plus" (top 17) .none:=ft (k199 P)
theorem f18 (P:Pz):FunAt (KK P) "minus" (top 18) .none:=ft (k206 P)
theorem f19 (P:Pz):FunAt (KK P) "times" (top 19) .none:=ft (k211 P)
theorem f20 (P:Pz):FunAt (KK P) "spun" (top 20) .none:=ft (k218 P)
theorem f21 (P:Pz):FunAt (KK P) "spun_once" (top 21) .none:=ft (k225 P)
theorem f22 (P:Pz):FunAt (KK P) "rooted" (top 22) .none:=ft (k232 P)
theorem f24 (P:Pz):FunAt (KK P) "ones" (top 24) .none:=ft (k239 P)
theorem f25 (P:Pz):FunAt (KK P) "turned_about" (top 25) .none:=ft (k246 P)
theorem f29 (P:Pz):FunAt (KK P) "cells_of" (top 29) .none:=ft (k255 P)
theorem f31 (P:Pz):FunAt (KK P) "halved" (top 31) .none:=ft (k262 P)
theorem f34 (P:Pz):FunAt (KK P) "check_move" (top 34) .none:=ft (k268 P)
theorem f35 (P:Pz):FunAt (KK P) "has_move_form" (top 35) .none:=ft (k273 P)
theorem f36 (P:Pz):FunAt (KK P) "named_cells" (top 36) .none:=ft (k280 P)
theorem f37 (P:Pz):FunAt (KK P) "turned" (top 37) .none:=ft (k285 P)
theorem f38 (P:Pz):FunAt (KK P) "mixed" (top 38) .none:=ft (k290 P)
theorem f39 (P:Pz):FunAt (KK P) "mixed_at" (top 39) .none:=ft (k297 P)
theorem f40 (P:Pz):FunAt (KK P) "spun_where" (top 40) .none:=ft (k302 P)
theorem f41 (P:Pz):FunAt (KK P) "word_behind" (top 41) .none:=ft (k307 P)
theorem f42 (P:Pz):FunAt (KK P) "exchanged" (top 42) .none:=ft (k314 P)
theorem f43 (P:Pz):FunAt (KK P) "back_move" (top 43) .none:=ft (k321 P)
theorem f45 (P:Pz):FunAt (KK P) "is_odd_turn" (top 45) .none:=ft (k328 P)
theorem f46 (P:Pz):FunAt (KK P) "moved_by" (top 46) .none:=ft (k335 P)
theorem f47 (P:Pz):FunAt (KK P) "moved_by_mix" (top 47) .none:=ft (k342 P)
theorem f48 (P:Pz):FunAt (KK P) "moved_by_turn" (top 48) .none:=ft (k349 P)
theorem f49 (P:Pz):FunAt (KK P) "moved_by_if" (top 49) .none:=ft (k356 P)
theorem f50 (P:Pz):FunAt (KK P) "moved_by_pair" (top 50) .none:=ft (k363 P)
theorem f53 (P:Pz):FunAt (KK P) "back_sum" (top 53) .none:=ft (k370 P)
theorem f54 (P:Pz):FunAt (KK P) "check_summed" (top 54) .none:=ft (k377 P)
theorem f55 (P:Pz):FunAt (KK P) "terms_ahead" (top 55) .none:=ft (k382 P)
theorem f56 (P:Pz):FunAt (KK P) "terms_ahead_of_odd_turn" (top 56) .none:=ft (k389 P)
theorem f57 (P:Pz):FunAt (KK P) "gathered" (top 57) .none:=ft (k394 P)
theorem f59 (P:Pz):FunAt (KK P) "run" (top 59) .none:=ft (k401 P)
theorem f61 (P:Pz):FunAt (KK P) "_law_cell_at" (top 61) .none:=ft (k408 P)
theorem f62 (P:Pz):FunAt (KK P) "_law_whole" (top 62) .none:=ft (k415 P)
theorem f63 (P:Pz):FunAt (KK P) "_law_cells_by" (top 63) .none:=ft (k422 P)
theorem f64 (P:Pz):FunAt (KK P) "_law_low" (top 64) .none:=ft (k427 P)
theorem f65 (P:Pz):FunAt (KK P) "_law_spin" (top 65) .none:=ft (k434 P)
theorem f66 (P:Pz):FunAt (KK P) "_law_amount_by" (top 66) .none:=ft (k441 P)
theorem f67 (P:Pz):FunAt (KK P) "_law_board_by" (top 67) .none:=ft (k446 P)
theorem f68 (P:Pz):FunAt (KK P) "_law_amount_is" (top 68) .none:=ft (k453 P)
theorem f69 (P:Pz):FunAt (KK P) "_law_board_is" (top 69) .none:=ft (k460 P)
theorem f70 (P:Pz):FunAt (KK P) "_law_mark_by" (top 70) .none:=ft (k467 P)
theorem f71 (P:Pz):FunAt (KK P) "_law_bits" (top 71) .none:=ft (k474 P)
theorem f72 (P:Pz):FunAt (KK P) "_law_times" (top 72) .none:=ft (k481 P)
theorem f73 (P:Pz):FunAt (KK P) "_law_plus" (top 73) .none:=ft (k486 P)
theorem f74 (P:Pz):FunAt (KK P) "_law_move_by" (top 74) .none:=ft (k491 P)
theorem f75 (P:Pz):FunAt (KK P) "_law_lay" (top 75) .none:=ft (k498 P)
theorem f76 (P:Pz):FunAt (KK P) "_law_far" (top 76) .none:=ft (k503 P)
theorem f77 (P:Pz):FunAt (KK P) "_law_row_by" (top 77) .none:=ft (k510 P)
theorem f78 (P:Pz):FunAt (KK P) "_law_place" (top 78) .none:=ft (k517 P)
theorem f79 (P:Pz):FunAt (KK P) "_law_refused" (top 79) .none:=ft (k524 P)
theorem f80 (P:Pz):FunAt (KK P) "_law_is_term" (top 80) .none:=ft (k529 P)
theorem f81 (P:Pz):FunAt (KK P) "_law_are_terms" (top 81) .none:=ft (k534 P)
theorem f82 (P:Pz):FunAt (KK P) "_law_summed" (top 82) .none:=ft (k539 P)
end Hd
end K64
end
set_option maxHeartbeats 4000000
namespace K64
open L2 Am Pc Ba
section
variable {P:U8}{w:W1}{K:U0}{mg:U4}{base:Heap}{k:Nat}{h:Heap}
def At5 (K:U0)(H:Hp)(p:W9)(x:A5):Prop:=SqT K H p ((l5 x).map V.int)
theorem At5.of {K:U0}{H:Hp}{p:W9}{x:A5}(h:H p=some (tA x)):At5 K H p x:=SqT.of h
theorem At5.same {K:U0}{H H':Hp}{p:W9}{x:A5}(h:At5 K H p x)(s:Same H H'):At5 K H' p x:=s.tup h
theorem At5.upd {K:U0}{H:Hp}{p l:W9}{x:A5}{xs ys:List V}(h:At5 K H p x)(e:H l=some (.lst xs)):At5 K (upd H l (.lst ys)) p x:=by
 rcases h with h | h
 ·rcases h with h | ⟨o,h⟩
  ·exact .inl (.inl (by rw[Z0t (Z4v h e (by intro z;cases z))];exact h))
  ·exact .inl (.inr ⟨o,by rw[Z0t (Z4v h e (by intro z;cases z))];exact h⟩)
 ·exact .inr h
def ValsK (K:U0)(H:Hp)(ps:U3)(f:Nat->A5):Prop:=∀ i p,ps[i]?=some p->At5 K H p (f i)
theorem ValsK.same {K:U0}{H H':Hp}{ps:U3}{f:Nat->A5}(v:ValsK K H ps f)(s:Same H H'):ValsK K H' ps f:=λi p e=>(v i p e).same s
theorem vals_push {K:U0}{H H':Hp}{ps:U3}{f:Nat->A5}{p:W9}{x:A5}(v:ValsK K H ps f)(s:Same H H')(e:At5 K H' p x):ValsK K H' (ps++[p]) (λj=>if j=ps.length then x else f j):=by
 intro i q hq
 by_cases hi:i<ps.length
 ·rw[q4s hi] at hq
  show At5 K H' q (if i=ps.length then x else f i)
  rw[if_neg (by omega)]
  exact(v i q hq).same s
 ·rw[q4m (by omega)] at hq
  have hi2:i=ps.length:=by
   have:=(q0o.mp hq).1
   simp at this
   omega
  subst hi2
  simp at hq
  subst hq
  show At5 K H' _ (if ps.length=ps.length then x else f ps.length)
  rw[if_pos rfl]
  exact e
theorem vals_upd {K:U0}{H:Hp}{ps:U3}{f:Nat->A5}{l:W9}{xs ys:List V}(v:ValsK K H ps f)(e:H l=some (.lst xs)):ValsK K (upd H l (.lst ys)) ps f:=λi q hq=>(v i q hq).upd e
theorem Z2k {X:Cx}:CallR X (.builtin "isinstance") (λxs H Q=>∃ a ys,xs=[.ref a,.ty "tuple"]/\SqT X.K H a ys/\Q (.bl true) H):=by
 intro pins s σ H xs us Q I r h
 obtain⟨a,ys,rfl,hx,q⟩:=h
 obtain⟨u,v,rfl,ru,rv⟩:=r.two
 cases ru
 cases rv
 obtain⟨its,_,⟨o,h1,h2,_⟩,_⟩:=I.tuple hx
 exact q1s PySem.W.kitx_tuple I.kIn ⟨o,h1,h2⟩ (X1h X.K) (λz=>nomatch z) λtk=>⟨.bl true,H,I.tok tk,Z,q⟩
def Y1m (K:U0):Sp:=λvs H Q _=>∃ (p q:W9) (x:A5),vs=[.ref p,.ref q]/\At5 K H p x/\At5 K H q x/\Q (.bl true) H
def Z5c (K:U0):Sp:=λvs H Q _=>∃ (l m:W9) (ps qs:U3) (f g:Nat->A5),vs=[.ref l,.ref m]/\H l=some (.lst (ps.map V.ref))/\H m=some (.lst (qs.map V.ref))/\ps.length=qs.length/\ps.length<=64/\ValsK K H ps f/\ValsK K H qs g/\(∀ i,i<ps.length->f i=g i)/\Q (.bl true) H
theorem sc_amtis:FnScope ["_law_found","_law_due","_law_k"] ["_law_found","_law_due"] (Z0h (top 68)):=fS
theorem Y8t (F:FunAt K "_law_amount_is" (top 68) .none)(X:K.In h)(G:Ng h mg)(B:Bs mg)(cK:Cal P w K mg base k "_law_whole" ["_law_found"] Z4f):Cal P w K mg base (k+1) "_law_amount_is" ["_law_found","_law_due"] (Y1m K):=by
 have nd:=sc_amtis.nd
 refine F.cal X G sc_amtis (bnd2 λ_ _ _ _ _ _ _ _=>rfl) (λvs H Q E h=>?_) (λf cdv A outer s H vs Q E hr h=>?_)
 ·obtain⟨p,r,x,rfl,_⟩:=h;rfl
 obtain⟨p,r,x,rfl,hp,hq,q⟩:=h
 have S:SqT K H p ((l5 x).map V.int):=hp
 have S':SqT K H r ((l5 x).map V.int):=hq
 refine⟨_,(@Z0e _ _ _ _ _ (Z1b (PW.pt (Z2y (Z1z (Z1l (Z0p Z2k rfl B.isinstance q1g (Z0a (pv 0) (Z0a (Z1w (v:=.ty "tuple") rfl B.tuple q8p rfl) Z0d))))) (Z2n (Z0q Z5m (Z0p Z0s rfl B.len q1c (Z0a (pv 0) Z0d)) Z0b (nomark _)))))
   (@Z0g _ _ _ (Z0l Z2w))
   Z0r)
  (@Z0e _ _ _ _ _ (Z1u PassesOwn.never rfl (Z1e rfl B.range (Z0a Z0b Z0d)) (Z0m (i:=2) nd rfl (Or.inl rfl))
   (@Z0g _ _ _ (Z1b (PW.pt (Z2y (Z1z (Z1l (Z0n cK hr rfl (Z0a (Z0k Z0j (pv 0) (pv 2) (λ_ _=>rfl)) Z0d)))) (Z2n (Z0q Z5m (Z0k Z0j (pv 0) (pv 2) (λ_ _=>rfl)) (Z0k Z0j (pv 1) (pv 2) (λ_ _=>rfl)) (nomark _)))))
    (@Z0g _ _ _ (Z0l Z2w))
    Z0r)))
  (@Z0g _ _ _ (Z0l Z2w)))),?_⟩
 try dsimp only[cxK]
 refine⟨_,Z,p,_,Z,S,_,Z,iteF ⟨_,Z,p,_,Z,.inr S,Z,_,Z,neI (λc=>absurd rfl c) (λ_=>?_)⟩⟩
 refine⟨5,Z,by decide,by decide,Z1m (n:=5) (λi σ H'=>H'=H/\∃ v,σ=[some (.ref p),some (.ref r),v]) ⟨Z,_,Z⟩ ?_ ?_⟩
 ·rintro i σ H' hi ⟨rfl,v,rfl⟩
  have e:=Y7h (ns:=l5 x) (i:=0+(i:Int)) (by omega) (by show 0+(i:Int)<5;omega)
  refine⟨_,Z,_,Z,p,_,_,_,Z,Z,S,e,_,Z,_,Z,iteF ⟨_,Z,_,Z,p,_,_,_,Z,Z,S,e,_,Z,_,Z,r,_,_,_,Z,Z,S',e,Z,_,Z,neI (λc=>absurd rfl c) (λ_=>⟨Z,_,Z⟩)⟩⟩
 ·rintro σ H' ⟨rfl,v,rfl⟩
  exact q
theorem sc_bdis:FnScope ["_law_found","_law_due","_law_k"] ["_law_found","_law_due"] (Z0h (top 69)):=fS
theorem X3z (F:FunAt K "_law_board_is" (top 69) .none)(X:K.In h)(G:Ng h mg)(B:Bs mg)(cS:Cal P w K mg base k "_law_amount_is" ["_law_found","_law_due"] (Y1m K)):Cal P w K mg base (k+1) "_law_board_is" ["_law_found","_law_due"] (Z5c K):=by
 have nd:=sc_bdis.nd
 refine F.cal X G sc_bdis (bnd2 λ_ _ _ _ _ _ _ _=>rfl) (λvs H Q E h=>?_) (λf cdv A outer s H vs Q E hr h=>?_)
 ·obtain⟨l,m,ps,qs,f,g,rfl,_⟩:=h;rfl
 obtain⟨l,m,ps,qs,f,g,rfl,h1,h2,len,l64,v1,v2,eq,q⟩:=h
 refine⟨_,(@Z0e _ _ _ _ _ (Z1b (PW.pt (Z2y (Z1z (Z1l (Z0p Z1k rfl B.isinstance q1g (Z0a (pv 0) (Z0a (Z1w (v:=.ty "list") rfl B.list q6a rfl) Z0d))))) (Z2n (Z0q Z5m (Z0p Z0s rfl B.len q1c (Z0a (pv 0) Z0d)) (Z0p Z0s rfl B.len q1c (Z0a (pv 1) Z0d)) (nomark _)))))
   (@Z0g _ _ _ (Z0l Z2w))
   Z0r)
  (@Z0e _ _ _ _ _ (Z1u PassesOwn.never rfl (Z1e rfl B.range (Z0a (Z0p Z0s rfl B.len q1c (Z0a (pv 1) Z0d)) Z0d)) (Z0m (i:=2) nd rfl (Or.inl rfl))
   (@Z0g _ _ _ (Z1b (Z1z (Z1l (Z0n cS hr rfl (Z0a (Z0k Z0w (pv 0) (pv 2) (λ_ _=>rfl)) (Z0a (Z0k Z0w (pv 1) (pv 2) (λ_ _=>rfl)) Z0d)))))
    (@Z0g _ _ _ (Z0l Z2w))
    Z0r)))
  (@Z0g _ _ _ (Z0l Z2w)))),?_⟩
 try dsimp only[cxK]
 refine⟨_,Z,_,_,_,true,Z,TyOf.lst h1,X1i K,_,Z,iteF ⟨_,Z,l,_,Z,.inl (SqL.of h1),_,Z,m,_,Z,.inl (SqL.of h2),Z,_,Z,neI (λc=>absurd (by rw[q0a,q0a,len]) c) (λ_=>?_)⟩⟩
 have hl:(((qs.map V.ref).length:Nat):Int).toNat=ps.length:=by rw[q0a,len];omega
 refine⟨_,Z,m,_,Z,.inl (SqL.of h2),_,Z,by rw[q0a];omega,by rw[q0a];omega,Z1m (n:=(((qs.map V.ref).length:Nat):Int).toNat) (λi σ H'=>H'=H/\∃ v,σ=[some (.ref l),some (.ref m),v]) ⟨Z,_,Z⟩ ?_ ?_⟩
 ·rintro i σ H' hi ⟨rfl,v,rfl⟩
  rw[hl] at hi
  have e1:=Z3t (ps:=ps) (j:=0+(i:Int)) hi (by omega)
  have e2:=Z3t (ps:=qs) (j:=0+(i:Int)) (show i<qs.length by omega) (by omega)
  refine⟨_,Z,_,Z,l,_,_,_,Z,Z,SqL.of h1,e1,_,Z,_,Z,m,_,_,_,Z,Z,SqL.of h2,e2,_,_,f i,Z,v1 i _ (q0d hi),?_,_,Z,iteF ⟨Z,_,Z⟩⟩
  rw[eq i hi]
  exact v2 i _ (q0d (show i<qs.length by omega))
 ·rintro σ H' ⟨rfl,v,rfl⟩
  exact q
theorem Z6i {K:U0}{a:W9}{ns:U6}{te:TE}{fr:L2.St}{H1:Hp}{acc:W9}{Q:VK}(f:Int->V)(hl:SqT K H1 a (ns.map V.int))(hn:ns.length<=sizeLine)(hacc:H1 acc=none)(hs:∀ n H (N:V->Hp->Prop),n∈ns->Same H1 H->N (f n) H->te (some (.int n)::fr) H N)
  (hd:∀ H2,Same H1 H2->H2 acc=some (.lst (ns.map f))->Q (.ref acc) H2):LcW (Itt K a) (gName 0) te (none::fr) H1 acc Q:=by
 refine Y0o (n:=ns.length) (val:=λi=>.int (ns.getD i 0)) (λi=>f (ns.getD i 0)) hn hacc (λi H hi s=>?_) (λH s=>⟨_,s.tup hl,by simp⟩) (λi H N hi s kN=>hs _ H N (by simp[hi]) s kN) (λH2 s h=>hd H2 s (by rw[h,Z6b]))
 have e:(ns.map V.int)[i]?=some (.int (ns.getD i 0)):=by simp[hi]
 refine⟨⟨_,_,s.tup hl,e⟩,λx H' y=>⟨y.1,?_⟩⟩
 have:=y.2 _ (s.tup hl)
 rw[e] at this
 exact(Option.some.inj this).symm
theorem cut54:¬ (HT.sIx 5 0 none=0/\HT.sIx 5 5 (some 4)=5):=by decide
def spHalf:Sp:=λvs H Q _=>∃ a b c d h:Int,vs=[.int a,.int b,.int c,.int d,.int h]/\0<=h/\∀ (p:W9) (H':Hp) (x y z u g:Int),Same H H'->H' p=some (T5 x y z u g)->Red a b c d h x y z u g->Q (.ref p) H'
def Y1f:Sp:=λvs H Q _=>∃ (p:W9) (a b c d h:Int),vs=[.ref p]/\H p=some (T5 a b c d h)/\0<=h/\∀ (r:W9) (H':Hp) (x y z u g:Int),Same H H'->H' r=some (T5 x y z u g)->Red (b-d) (a+c) (b+d) (c-a) (h+1) x y z u g->Q (.ref r) H'
def Z9z (K:U0):Sp:=λvs H Q _=>∃ (p:W9) (a b c d h:Int),vs=[.ref p]/\At5 K H p ((a,b,c,d),h)/\∀ (r:W9) (H':Hp),Same H H'->H' r=some (T5 (-d) a b c h)->Q (.ref r) H'
def Z3b (K:U0):Sp:=λvs H Q _=>∃ (p:W9) (a b c d h k:Int),vs=[.ref p,.int k]/\At5 K H p ((a,b,c,d),h)/\∀ (r:W9) (H':Hp),Same H H'->At5 K H' r (rot (k%8).toNat (a,b,c,d),h)->Q (.ref r) H'
theorem sc_half:FnScope ["a","b","c","d","h","places","lowest","less"] ["a","b","c","d","h"] (Z0h (top 16)):=fS
theorem X3t (F:FunAt K "halved_out" (top 16) .none)(X:K.In h)(G:Ng h mg)(B:Bs mg):Cal P w K mg base (k+1) "halved_out" ["a","b","c","d","h"] spHalf:=by
 have nd:=sc_half.nd
 refine F.cal X G sc_half (bnd5 λ_ _ _ _ _ _ _ _ _ _ _=>rfl) (λvs H Q E h=>?_) (λf cdv A outer s H vs Q E hr h=>?_)
 ·obtain⟨a,b,c,d,h,rfl,_⟩:=h;rfl
 obtain⟨a,b,c,d,h,rfl,h0,q⟩:=h
 refine⟨_,(@Z0e _ _ _ _ _ (@Z0o _ _ 5 _ _ _ _ nd rfl (Or.inl rfl) (Z0i Z9e (Z0i Z9e (Z0i Z9e (pv 0) (pv 1)) (pv 2)) (pv 3)) rfl (.inl rfl))
  (@Z0e _ _ _ _ _ (Z1b (Z0q Z1j (pv 5) Z0b (nomark _))
   (@Z0g _ _ _ (Z0l (@Z0y _ _ _ _ _ (Z0a Z0b (Z0a Z0b (Z0a Z0b (Z0a Z0b (Z0a Z0b Z0d))))))))
   Z0r)
  (@Z0e _ _ _ _ _ (@Z0o _ _ 6 _ _ _ _ nd rfl (Or.inl rfl) (Z0i Z1t (X0v q7u q4a q6b Z9g (Z0i Z1n (pv 5) (Z8a Z5x (pv 5)))) Z0b) rfl (.inl rfl))
  (@Z0e _ _ _ _ _ (@Z0o _ _ 7 _ _ _ _ nd rfl (Or.inl rfl) (Z0p (Z9p rfl) rfl B.min boot_min (Z0a (pv 6) (Z0a (pv 4) Z0d))) rfl (.inl rfl))
  (@Z0g _ _ _ (Z0l (@Z0y _ _ _ _ _ (Z0a (Z0i Y1t (pv 0) (pv 7)) (Z0a (Z0i Y1t (pv 1) (pv 7)) (Z0a (Z0i Y1t (pv 2) (pv 7)) (Z0a (Z0i Y1t (pv 3) (pv 7)) (Z0a (Z0i Z1t (pv 4) (pv 7)) Z0d)))))))))))),?_⟩
 try dsimp only[cxK]
 refine⟨_,Z,_,Z,_,_,Z,Z,_,Z,_,_,Z,Z,_,Z,_,_,Z,Z,?_⟩
 refine⟨_,Z,Z,_,Z,eqI (λe=>?_) (λe=>?_)⟩
 ·obtain⟨rfl,rfl,rfl,rfl⟩:=orAll_zero.mp e
  exact⟨by show 5<=sizeLine;decide,λp hp=>q p _ 0 0 0 0 0 (Z0f hp _) Z0c ⟨⟨by omega,.inl rfl⟩,⟨by simp[Eq2],by simp[Eq2],by simp[Eq2],by simp[Eq2]⟩,q0f _,q0f _,q0f _,q0f _,h0⟩⟩
 obtain⟨v,ev,hd,hn⟩:=lowest e
 obtain⟨m0,m1,ha,hs,b1,b2,b3,b4⟩:=halve h0 hd hn rfl
 have ev':((Builtin.Int.intBits (Builtin.bitAnd (Builtin.bitOr (Builtin.bitOr (Builtin.bitOr a b) c) d) (-(Builtin.bitOr (Builtin.bitOr (Builtin.bitOr a b) c) d))):Nat):Int)-1=v:=ev
 refine⟨_,Z,_,Z,_,Z,_,_,Z,Z,Z,_,Z,Z,_,_,Z,Z,?_⟩
 show tSeq _ _ _ (List.set _ 6 (some (V.int (((Builtin.Int.intBits (Builtin.bitAnd (Builtin.bitOr (Builtin.bitOr (Builtin.bitOr a b) c) d) (-(Builtin.bitOr (Builtin.bitOr (Builtin.bitOr a b) c) d))):Nat):Int)-1)))) H
 rw[ev']
 generalize hm:(if h<(v:Int) then h else (v:Int))=m at *
 refine⟨_,Z,_,Z,_,_,Z,?_⟩
 rw[hm]
 refine⟨_,Z,_,Z,_,_,Z,Z,m0,_,Z,_,Z,_,_,Z,Z,m0,_,Z,_,Z,_,_,Z,Z,m0,_,Z,_,Z,_,_,Z,Z,m0,_,Z,_,Z,_,_,Z,Z,(by show 5<=sizeLine;decide),λp hp=>?_⟩
 exact q p _ _ _ _ _ _ (Z0f hp _) Z0c ⟨ha,hs,b1,b2,b3,b4,by omega⟩
theorem sc_once:FnScope ["one"] ["one"] (Z0h (top 21)):=fS
theorem X3q (F:FunAt K "spun_once" (top 21) .none)(X:K.In h)(G:Ng h mg):Cal P w K mg base (k+1) "spun_once" ["one"] (Z9z K):=by
 have nd:=sc_once.nd
 refine F.cal X G sc_once (bnd1 λ_ _ _ _ _ _ _=>rfl) (λvs H Q E h=>?_) (λf cdv A outer s H vs Q E hr h=>?_)
 ·obtain⟨p,a,b,c,d,h,rfl,_⟩:=h;rfl
 obtain⟨p,a,b,c,d,h,rfl,hp,q⟩:=h
 have S:SqT K H p [.int a,.int b,.int c,.int d,.int h]:=hp
 refine⟨_,(@Z0g _ _ _ (Z0l (@Z0y _ _ _ _ _ (Z0a (Z8a Z5x (Z0k Z0j (pv 0) Z0b (λ_ _=>rfl))) (Z0a (Z0k Z0j (pv 0) Z0b (λ_ _=>rfl)) (Z0a (Z0k Z0j (pv 0) Z0b (λ_ _=>rfl)) (Z0a (Z0k Z0j (pv 0) Z0b (λ_ _=>rfl)) (Z0a (Z0k Z0j (pv 0) Z0b (λ_ _=>rfl)) Z0d)))))))),?_⟩
 try dsimp only[cxK]
 refine⟨_,Z,p,_,_,_,Z,Z,S,Z,_,Z,_,Z,p,_,_,_,Z,Z,S,Z,_,Z,p,_,_,_,Z,Z,S,Z,_,Z,p,_,_,_,Z,Z,S,Z,_,Z,p,_,_,_,Z,Z,S,Z,(by show 5<=sizeLine;decide),λr hr=>?_⟩
 exact q r _ (Z0f hr _) Z0c
theorem sc_rooted:FnScope ["one"] ["one"] (Z0h (top 22)):=fS
theorem Y5f (F:FunAt K "rooted" (top 22) .none)(X:K.In h)(G:Ng h mg)(c8:Cal P w K mg base k "halved_out" ["a","b","c","d","h"] spHalf):Cal P w K mg base (k+1) "rooted" ["one"] Y1f:=by
 have nd:=sc_rooted.nd
 refine F.cal X G sc_rooted (bnd1 λ_ _ _ _ _ _ _=>rfl) (λvs H Q E h=>?_) (λf cdv A outer s H vs Q E hr h=>?_)
 ·obtain⟨p,a,b,c,d,h,rfl,_⟩:=h;rfl
 obtain⟨p,a,b,c,d,h,rfl,hp,h0,q⟩:=h
 have S:SqT K H p [.int a,.int b,.int c,.int d,.int h]:=SqT.of hp
 refine⟨_,(@Z0g _ _ _ (Z0l (Z0n c8 hr rfl (Z0a (Z0i Z1t (Z0k Z0j (pv 0) Z0b (λ_ _=>rfl)) (Z0k Z0j (pv 0) Z0b (λ_ _=>rfl))) (Z0a (Z0i Z1f (Z0k Z0j (pv 0) Z0b (λ_ _=>rfl)) (Z0k Z0j (pv 0) Z0b (λ_ _=>rfl))) (Z0a (Z0i Z1f (Z0k Z0j (pv 0) Z0b (λ_ _=>rfl)) (Z0k Z0j (pv 0) Z0b (λ_ _=>rfl))) (Z0a (Z0i Z1t (Z0k Z0j (pv 0) Z0b (λ_ _=>rfl)) (Z0k Z0j (pv 0) Z0b (λ_ _=>rfl))) (Z0a (Z0i Z1f (Z0k Z0j (pv 0) Z0b (λ_ _=>rfl)) Z0b) Z0d)))))))),?_⟩
 try dsimp only[cxK]
 refine⟨_,Z,p,_,_,_,Z,Z,S,Z,_,Z,p,_,_,_,Z,Z,S,Z,_,_,Z,Z,_,Z,p,_,_,_,Z,Z,S,Z,_,Z,p,_,_,_,Z,Z,S,Z,_,_,Z,Z,
  _,Z,p,_,_,_,Z,Z,S,Z,_,Z,p,_,_,_,Z,Z,S,Z,_,_,Z,Z,_,Z,p,_,_,_,Z,Z,S,Z,_,Z,p,_,_,_,Z,Z,S,Z,_,_,Z,Z,_,Z,p,_,_,_,Z,Z,S,Z,_,_,Z,Z,?_⟩
 exact⟨_,_,_,_,_,Z,(by show 0<=h+1;omega),λr H' x y z u g s1 e1 r1=>q r H' x y z u g s1 e1 r1⟩
theorem sc_spun:FnScope ["one","k","turning","step"] ["one","k"] (Z0h (top 20)):=fS
theorem X3m (F:FunAt K "spun" (top 20) .none)(X:K.In h)(G:Ng h mg)(B:Bs mg)(cN:Cal P w K mg base k "spun_once" ["one"] (Z9z K)):Cal P w K mg base (k+1) "spun" ["one","k"] (Z3b K):=by
 have nd:=sc_spun.nd
 refine F.cal X G sc_spun (bnd2 λ_ _ _ _ _ _ _ _=>rfl) (λvs H Q E h=>?_) (λf cdv A outer s H vs Q E hr h=>?_)
 ·obtain⟨p,a,b,c,d,h,k,rfl,_⟩:=h;rfl
 obtain⟨p,a,b,c,d,h,j,rfl,hp,q⟩:=h
 have S:SqT K H p [.int a,.int b,.int c,.int d,.int h]:=hp
 refine⟨_,(@Z0e _ _ _ _ _ (@Z0o _ _ 2 _ _ _ _ nd rfl (Or.inl rfl) (pv 0) rfl (.inl rfl))
  (@Z0e _ _ _ _ _ (Z1u PassesOwn.never rfl (Z1e rfl B.range (Z0a (Z0i Z0x (pv 1) Z0b) Z0d)) (Z0m (i:=3) nd rfl (Or.inl rfl))
   (@Z0g _ _ _ (@Z0o _ _ 2 _ _ _ _ nd rfl (Or.inl rfl) (Z0n cN hr rfl (Z0a (pv 2) Z0d)) rfl (.inl rfl))))
  (@Z0g _ _ _ (Z0l (pv 2))))),?_⟩
 try dsimp only[cxK]
 have j0:=q2h j (show (8:Int)≠0 by decide)
 have j1:=q2i j (show (0:Int)<8 by decide)
 refine⟨_,Z,_,Z,_,_,Z,Z,(by show (0:Int)<8;decide),_,Z,(by omega),(by omega),Z1m (n:=(j%8).toNat) (λi σ H'=>Same H H'/\∃ t v,σ=[some (.ref p),some (.int j),some (.ref t),v]/\At5 K H' t (rot i (a,b,c,d),h)) ⟨Same.refl _,p,none,Z,hp⟩ ?_ ?_⟩
 ·rintro i σ H2 hi ⟨s2,t,v,rfl,ht⟩
  refine⟨_,Z,t,_,_,_,_,_,Z,ht,λr H' s3 e3=>?_⟩
  exact⟨s2.trans s3,r,_,Z,At5.of e3⟩
 ·rintro σ H2 ⟨s2,t,v,rfl,ht⟩
  exact⟨_,Z,q t H2 s2 ht⟩
structure Sum (a b c d h a' b' c' d' h' x y z u g:Int):Prop where
 amt:Amt x y z u g
 same:Same4 (a*p2 h'+a'*p2 h) (b*p2 h'+b'*p2 h) (c*p2 h'+c'*p2 h) (d*p2 h'+d'*p2 h) (h+h') x y z u g
 le:g<=max h h'
theorem Z8t {a a' h h' m:Int}(h0:0<=h)(h0':0<=h')(hm:h<=m)(hm':h'<=m):Eq2 (a*p2 h'+a'*p2 h) (h+h') (a*2^(m-h).toNat+a'*2^(m-h').toNat) m:=by
 unfold Eq2
 rw[Z3o h0 h0']
 show _=(a*p2 (m-h)+a'*p2 (m-h'))*(p2 h*p2 h')
 have e1:=Z4u h0 hm
 have e2:=Z4u h0' hm'
 have l1:(a*p2 h'+a'*p2 h)*p2 m=a*p2 h'*p2 m+a'*p2 h*p2 m:=Int.add_mul ..
 rw[l1,show a*p2 h'*p2 m=a*p2 h'*(p2 (m-h)*p2 h) by rw[<-e1],show a'*p2 h*p2 m=a'*p2 h*(p2 (m-h')*p2 h') by rw[<-e2]]
 grind
theorem Y3u (n:Nat):Sz (n+1) ((2:Int)^n):=by
 unfold Sz
 rw[Int.natAbs_pow]
 exact Nat.pow_lt_pow_right (by decide) (q5v n)
theorem Z8s {a a' h h' m:Int}{n N:Nat}(hm:m-h<=h'/\m-h'<=h)(z:Sz n a)(z':Sz n a')(hN:n+h.toNat+h'.toNat+2<=N):Sz N (a*2^(m-h).toNat+a'*2^(m-h').toNat):=by
 refine((z.mul (Y3u (m-h).toNat)).add (z'.mul (Y3u (m-h').toNat))).mono ?_
 omega
structure In2 (K:U0) (n:Nat) (vs:List V) (H:Hp) (p q:W9) (a b c d h a' b' c' d' h':Int):Prop where
 vs:vs=[.ref p,.ref q]
 one:At5 K H p ((a,b,c,d),h)
 other:At5 K H q ((a',b',c',d'),h')
 h0:0<=h
 h0':0<=h'
 hh:h+h'<=40000
 hn:n<=500000
 z:Sz4 n a b c d
 z':Sz4 n a' b' c' d'
def Z3i (K:U0):Sp:=λvs H Q _=>∃ n p q a b c d h a' b' c' d' h',In2 K n vs H p q a b c d h a' b' c' d' h'/\∀ (r:W9) (H':Hp) (x y z u g:Int),Same H H'->H' r=some (T5 x y z u g)->Sum a b c d h a' b' c' d' h' x y z u g->Sz4 (n+h.toNat+h'.toNat+2) x y z u->Q (.ref r) H'
def Z4n (K:U0):Sp:=λvs H Q _=>∃ n p q a b c d h a' b' c' d' h',In2 K n vs H p q a b c d h a' b' c' d' h'/\∀ (r:W9) (H':Hp) (x y z u g:Int),Same H H'->H' r=some (T5 x y z u g)->Sum a b c d h (-a') (-b') (-c') (-d') h' x y z u g->Sz4 (n+h.toNat+h'.toNat+2) x y z u->Q (.ref r) H'
theorem sc_plus:FnScope ["one","other","h","up","other_up","sums"] ["one","other"] (Z0h (top 17)):=fS
theorem X3o (F:FunAt K "plus" (top 17) .none)(X:K.In h)(G:Ng h mg)(B:Bs mg)(c8:Cal P w K mg base k "halved_out" ["a","b","c","d","h"] spHalf):Cal P w K mg base (k+1) "plus" ["one","other"] (Z3i K):=by
 have nd:=sc_plus.nd
 refine F.cal X G sc_plus (bnd2 λ_ _ _ _ _ _ _ _=>rfl) (λvs H Q E h=>?_) (λf cdv A outer s H vs Q E hr h=>?_)
 ·obtain⟨n,p,q,a,b,c,d,h,a',b',c',d',h',I,_⟩:=h;rw[I.vs];rfl
 obtain⟨n,p,q,a,b,c,d,h,a',b',c',d',h',⟨rfl,e1,e2,h0,h0',hh,hn,z,z'⟩,kq⟩:=h
 have S:SqT K H p [.int a,.int b,.int c,.int d,.int h]:=e1
 have S':SqT K H q [.int a',.int b',.int c',.int d',.int h']:=e2
 refine⟨_,(@Z0e _ _ _ _ _ (@Z0o _ _ 2 _ _ _ _ nd rfl (Or.inl rfl) (Z0p (Z6q rfl) rfl B.max boot_max (Z0a (Z0k Z0j (pv 0) Z0b (λ_ _=>rfl)) (Z0a (Z0k Z0j (pv 1) Z0b (λ_ _=>rfl)) Z0d))) rfl (.inl rfl))
  (@Z0e _ _ _ _ _ (@Z0o _ _ 3 _ _ _ _ nd rfl (Or.inr rfl) (Z0i Z1t (pv 2) (Z0k Z0j (pv 0) Z0b (λ_ _=>rfl))) rfl (.inl rfl))
  (@Z0e _ _ _ _ _ (@Z0o _ _ 4 _ _ _ _ nd rfl (Or.inr rfl) (Z0i Z1t (pv 2) (Z0k Z0j (pv 1) Z0b (λ_ _=>rfl))) rfl (.inl rfl))
  (@Z0e _ _ _ _ _ (Z3x (i:=5) rfl nd rfl rfl (LcOk.of (Nc:=["x","y","up","other_up"]) (mp:=[none,none,some 3,some 4]) (by kernel_rfl)) (X0t true true rfl B.zip (Z0a (Z1s Z7a (pv 0) Z2m (Z1v Z0b)) (Z0a (Z1s Z7a (pv 1) Z2m (Z1v Z0b)) Z0d))) (λ_ _ _ _=>(Z4t rfl (show (["x","y","up","other_up"]:W0).Nodup by decide +kernel) rfl rfl rfl rfl)) (λ_ _ _ _=>(Z0i Z1f (Z0i Z1x (pv 0) (pv 2)) (Z0i Z1x (pv 1) (pv 3)))) rfl)
  (@Z0g _ _ _ (Z0l (Z0n c8 hr rfl (Z0a (Z0k Z0w (pv 5) Z0b (λ_ _=>rfl)) (Z0a (Z0k Z0w (pv 5) Z0b (λ_ _=>rfl)) (Z0a (Z0k Z0w (pv 5) Z0b (λ_ _=>rfl)) (Z0a (Z0k Z0w (pv 5) Z0b (λ_ _=>rfl)) (Z0a (pv 2) Z0d)))))))))))),?_⟩
 try dsimp only[cxK]
 refine⟨_,Z,p,_,_,_,Z,Z,S,Z,_,Z,q,_,_,_,Z,Z,S',Z,_,_,Z,?_⟩
 generalize hm:(if h'>h then h' else h)=m
 have m1:h<=m:=by rw[<-hm];split<;>omega
 have m2:h'<=m:=by rw[<-hm];split<;>omega
 have m3:m-h<=h'/\m-h'<=h/\m<=h+h':=by rw[<-hm];split<;>omega
 refine⟨_,Z,_,Z,p,_,_,_,Z,Z,S,Z,_,_,Z,Z,?_⟩
 refine⟨_,Z,_,Z,q,_,_,_,Z,Z,S',Z,_,_,Z,Z,?_⟩
 refine⟨_,Z,4,Z,p,_,Z,S,cut54,λl1 hl1=>?_⟩
 refine⟨_,Z,4,Z,q,_,Z,(Z0f hl1 _).tup S',cut54,λl2 hl2=>?_⟩
 have s2:Same H (upd (upd H l1 (.tup ([a,b,c,d].map V.int))) l2 (.tup ([a',b',c',d'].map V.int))):=(Z0f hl1 _).trans (Z0f hl2 _)
 refine⟨l1,l2,[a,b,c,d].map V.int,[a',b',c',d'].map V.int,Z,(Z0f hl2 _).tup (SqT.of Z0c),SqT.of Z0c,λacc hacc=>?_⟩
 refine Y5u (K:=K) (ns:=[a,b,c,d]) (ms:=[a',b',c',d']) (fr:=[some (.int (m-h)),some (.int (m-h'))]) (λx y=>x*2^(m-h).toNat+y*2^(m-h').toNat) rfl (show 4<=sizeLine by decide) ((Z0f hl2 _).tup (SqT.of Z0c)) (SqT.of Z0c) hacc
  (λha hQ=>⟨_,_,Z,SqT.of ha,Z,_,_,Z,_,_,Z,Z,hQ⟩) ?_ ?_
 ·intro x y H2 N hx hy kN
  have zx:Sz n x:=by
   simp only[q0q,q0u,q2e] at hx
   rcases hx with rfl | rfl | rfl | rfl
   ·exact z.z1
   ·exact z.z2
   ·exact z.z3
   ·exact z.z4
  have zy:Sz n y:=by
   simp only[q0q,q0u,q2e] at hy
   rcases hy with rfl | rfl | rfl | rfl
   ·exact z'.z1
   ·exact z'.z2
   ·exact z'.z3
   ·exact z'.z4
  exact⟨_,Z,_,Z,_,_,Z,Z,⟨n,zx,(by omega),(by omega)⟩,_,Z,_,Z,_,_,Z,Z,⟨n,zy,(by omega),(by omega)⟩,_,_,Z,Z,kN⟩
 intro H2 s3 a3
 have SA:SqL K H2 acc ((List.zipWith (λx y=>x*2^(m-h).toNat+y*2^(m-h').toNat) [a,b,c,d] [a',b',c',d']).map V.int):=SqL.of a3
 refine⟨_,Z,acc,_,_,_,Z,Z,SA,Z,_,Z,acc,_,_,_,Z,Z,SA,Z,_,Z,acc,_,_,_,Z,Z,SA,Z,_,Z,acc,_,_,_,Z,Z,SA,Z,_,Z,_,_,_,_,_,Z,(by show 0<=m;omega),λr H' x y v u g s4 e4 r4=>?_⟩
 have hN:n+h.toNat+h'.toNat+2<=n+h.toNat+h'.toNat+2:=q0f _
 have m4:m-h<=h'/\m-h'<=h:=⟨m3.1,m3.2.1⟩
 refine kq r H' x y v u g (s2.trans (s3.trans s4)) e4 ⟨r4.amt,Same4.trans ⟨Z8t h0 h0' m1 m2,Z8t h0 h0' m1 m2,Z8t h0 h0' m1 m2,Z8t h0 h0' m1 m2⟩ r4.same,by have:=r4.le;rw[<-hm] at this;split at this<;>omega⟩ (r4.sz ⟨?_,?_,?_,?_⟩)
 ·exact Z8s m4 z.z1 z'.z1 hN
 ·exact Z8s m4 z.z2 z'.z2 hN
 ·exact Z8s m4 z.z3 z'.z3 hN
 ·exact Z8s m4 z.z4 z'.z4 hN
theorem sc_minus:FnScope ["one","other"] ["one","other"] (Z0h (top 18)):=fS
theorem Y8p (F:FunAt K "minus" (top 18) .none)(X:K.In h)(G:Ng h mg)(cM:Cal P w K mg base k "plus" ["one","other"] (Z3i K))(cG:Cal P w K mg base k "spun" ["one","k"] (Z3b K)):Cal P w K mg base (k+1) "minus" ["one","other"] (Z4n K):=by
 have nd:=sc_minus.nd
 refine F.cal X G sc_minus (bnd2 λ_ _ _ _ _ _ _ _=>rfl) (λvs H Q E h=>?_) (λf cdv A outer s H vs Q E hr h=>?_)
 ·obtain⟨n,p,q,a,b,c,d,h,a',b',c',d',h',I,_⟩:=h;rw[I.vs];rfl
 obtain⟨n,p,q,a,b,c,d,h,a',b',c',d',h',⟨rfl,e1,e2,h0,h0',hh,hn,z,z'⟩,kq⟩:=h
 refine⟨_,(@Z0g _ _ _ (Z0l (Z0n cM hr rfl (Z0a (pv 0) (Z0a (Z0n cG hr rfl (Z0a (pv 1) (Z0a Z0b Z0d))) Z0d))))),?_⟩
 try dsimp only[cxK]
 refine⟨_,Z,_,Z,q,_,_,_,_,_,_,Z,e2,λr H2 s2 er=>?_⟩
 have er':At5 K H2 r ((-a',-b',-c',-d'),h'):=er
 exact⟨n,p,r,a,b,c,d,h,-a',-b',-c',-d',h',⟨Z,e1.same s2,er',h0,h0',hh,hn,z,⟨z'.z1.neg,z'.z2.neg,z'.z3.neg,z'.z4.neg⟩⟩,λr' H3 x y v u g s3=>kq r' H3 x y v u g (s2.trans s3)⟩
end
end K64
namespace L2
def TEnt (P:Params)(e:DictEntry)(p:Str × Int):Prop:=∃ t u,e=⟨PyData.keyHash P p.1,.str p.1 t,.int p.2 u⟩
structure KDic (K:U0) (P:Params) (a:W9) (kvs:List (Str × Int)):Prop where
 ex:∃ o es ep,K.lookup a=some o/\o.ExactDict/\o.data=.dict es ep/\Paired (TEnt P) es.toList kvs
 nd:(kvs.map (·.1)).Nodup
 ns:(a == sysModules)=false
noncomputable def txt (p:Str × Int):Key × V:=(Sum.inr p.1,.int p.2)
theorem KDic.at {K:U0}{prog:U8}{w:W1}{a:W9}{kvs:List (Str × Int)}{h:Heap}(D:KDic K w.params a kvs)(X:K.In h):∃ vs,KV (kvs.map txt) vs/\h.DictOf (Z1p prog w) a vs:=by
 obtain⟨o,es,ep,hl,hx,hd,hp⟩:=D.ex
 have key:∀ {l:List DictEntry}{kvs:List (Str × Int)},Paired (TEnt w.params) l kvs->∃ vs:List (Key × Value),KV (kvs.map txt) vs/\Pairs (Z1p prog w) l vs:=by
  intro l kvs h
  induction h with
  | nil=>exact⟨[],.nil,.nil⟩
  | @cons e p l kvs he hr ih =>
   obtain⟨vs,a1,a2⟩:=ih
   obtain⟨t,u,rfl⟩:=he
   exact⟨(Sum.inr p.1,.int p.2 u)::vs,.cons ⟨Z,u,Z⟩ a1,.cons (Z6k p.1 t) rfl a2⟩
 have all:∀ {l:List DictEntry}{kvs:List (Str × Int)},Paired (TEnt w.params) l kvs->∀ e∈l,∃ p,TEnt w.params e p:=by
  intro l kvs h
  induction h with
  | nil=>intro e he;cases he
  | @cons e p l kvs he hr ih =>
   intro e' h'
   rcases q0q.mp h' with rfl | h'
   ·exact⟨p,he⟩
   ·exact ih e' h'
 obtain⟨vs,a1,a2⟩:=key hp
 refine⟨vs,a1,o,es,ep,X _ _ hl,hx,hd,?_,a2,?_⟩
 ·intro e he
  obtain⟨p,t,u,rfl⟩:=all hp e (Array.mem_toList_iff.mpr he)
  exact⟨Sum.inr p.1,Z6k p.1 t,Z⟩
 ·rw[<-a1.keys,q3p]
  have e:kvs.map ((λkv=>kv.1) ∘ txt)=(kvs.map (·.1)).map (Sum.inr:Str->Key):=by rw[q3p];rfl
  rw[e]
  exact q5o.mpr (D.nd.imp λh z=>h (Sum.inr.inj z))
noncomputable def numAt (kvs:List (Str × Int))(x:Str):Option V:=valV (kvs.map txt) (Sum.inr x)
def X2h (kvs:List (Str × Int))(ty:TE):TE:=λσ H Q=>ty σ H λy H1=>∃ x,y=.str x/\Q (.bl (!(numAt kvs x).isSome)) H1
def tKGet (kvs:List (Str × Int))(ty:TE):TE:=λσ H Q=>ty σ H λy H1=>∃ x v,y=.str x/\numAt kvs x=some v/\Q v H1
section
variable {X:Cx}{o i:Expr}{pos:Pos}{ty:TE}{aN:W9}{kvs:List (Str × Int)}
theorem Y4v (D:KDic X.K X.w.params aN kvs)(hi:PE X i ty)(ho:PE X o (tC (.ref aN))):PC X .NotIn i o (X2h kvs ty):=by
 intro pins s σ H Q I h
 refine thn (hi pins s σ H _ I h) λiv s1 ⟨y,H1,I1,ry,x,ey,q1⟩=>thn (ho pins s1 σ H1 (λv H2=>v=.ref aN/\H2=H1) I1 ⟨Z,Z⟩) λu s2 ⟨v,H2,I2,rv,ev,eh⟩=>?_
 subst ev eh ey
 cases rv
 obtain⟨vs,rel,dd⟩:=D.at (prog:=X.prog) (w:=X.w) I2.kIn
 refine wpAny_notIn_of (Y3h (k:=Sum.inr x) ry) D.ns dd.mapOf ?_
 rw[<-(rel.val (Sum.inr x)).isSome_eq]
 exact⟨.bl _,H2,I2.tok _,Z,q1⟩
theorem X2y (D:KDic X.K X.w.params aN kvs)(ho:PE X o (tC (.ref aN)))(hi:PE X i ty)(hs:NoSl i):PE X (.Subscript o i pos) (tKGet kvs ty):=by
 intro pins s σ H Q I h
 refine Y3w q6v.lookup hs (thn (ho pins s σ H (λv H2=>v=.ref aN/\H2=H) I ⟨Z,Z⟩) λu s1 ⟨v,H1,I1,rv,ev,eh⟩=>?_)
 subst ev eh
 cases rv
 refine thn (hi pins s1 σ H1 _ I1 h) λiv s2 ⟨y,H2,I2,ry,x,w',ey,g,q2⟩=>?_
 subst ey
 obtain⟨vs,rel,dd⟩:=D.at (prog:=X.prog) (w:=X.w) I2.kIn
 obtain⟨u,hw,ru⟩:=RelO.some_of (v:=w') (o:=valueAt vs (Sum.inr x)) (by rw[<-g];exact rel.val (Sum.inr x))
 exact⟨dd.typeIs,wpAny_getItem_of (Y3h (k:=Sum.inr x) ry) dd.mapOf hw ⟨w',H2,I2.tok _,ru,q2⟩⟩
end
end L2
namespace L2
noncomputable abbrev unlike (ns:U6):Nat:=(firstMet (λi=>ns.getD i 0) ns.length).length
noncomputable abbrev fresh0 (led:Bool):Obj:={ cls:=.type "set",dict:=none,data:=.set #[] 0 (.fresh 0 0 led) }
def SetEnd (prog:U8)(w:W1)(s:U7)(ns:U6)(S:Int->Bool)(s':U7):Prop :=
 ∃ h' tk,s'={ s with heap:=h',toks:=tk }/\h'.SetOf (intKind prog w) s.heap.objs.size S (unlike ns)/\∀ b o,s.heap.get? b=some o->h'.get? b=some o
section
variable {prog:U8}{w:W1}{A:W6}{E:U2}{s:U7}{p:W9}{its:U9}{ns:U6}
theorem Y9n (hh:A.handled=none)(ht:s.heap.IsTuple p its)(hi:IntsAre its.toList ns)(hb:ns.length+1<scanBound)(led:Bool){R:Result->Shared->Prop}
  (h:∀ s',SetEnd prog w s ns (λk=>(firstMet (λi=>ns.getD i 0) ns.length).any (· == k)) s'->R (.ok (.ret .none)) s') :
  codeAny (model prog w) A (.builtin "set.update.loop" ⟨[.ref s.heap.objs.size,.ref (s.heap.push (fresh0 led)).objs.size],[]⟩) R { s with heap:=(s.heap.push (fresh0 led)).push { cls:=.type "tuple_iterator",data:=.fields #[.ref p,.int 0 0] } }:=by
 obtain⟨o,ho,hc,n,hd⟩:=id ht
 have lt:p<s.heap.objs.size:=q0e ho
 have e1:(s.heap.push (fresh0 led)).objs.size=s.heap.objs.size+1:=q1z ..
 have hz:its.size=ns.length:=by rw[<-q0z];exact hi.length
 have W:=(Walks.tuple (prog:=prog) (w:=w) (A:=A.in1) (by simp[hh]) (s.heap.push (fresh0 led)).objs.size p (by rw[e1];exact q0r (q3a lt)) its).toS
 have t1:(s.heap.push (fresh0 led)).IsTuple p its:=⟨o,q0c _ ho,hc,n,hd⟩
 refine codeAny_set_update_loopS W s.heap.objs.size (by rw[e1];simp only[q0q,q0u,q2e,not_or];exact⟨q0r (q5v _),q2y lt⟩) (λi=>ns.getD i 0) (λi v q=>hi.int_at i v (by rw[q5t];exact q)) (by rw[hz];exact hb) its.size 0 _ rfl (q1d _)
  ⟨⟨_,q0m _ rfl,Z,Z⟩,t1.push _⟩ ?_ ?_
 ·have g:((s.heap.push (fresh0 led)).push { cls:=.type "tuple_iterator",data:=.fields #[.ref p,.int 0 0] }).get? s.heap.objs.size=some (fresh0 led):=q0c _ (q0m _ rfl)
  exact SetOf_congr ((setObjOf_fresh (knd:=intKind prog w) led).setOf g (by unfold scanBound;omega)) (λ_=>rfl) rfl
 ·intro s' hm hS
  rw[hz] at hS
  obtain⟨h',g',d',tk',os'⟩:=s'
  obtain rfl:g'=s.gens:=hm.gens
  obtain rfl:d'=s.drawn:=hm.drawn
  obtain rfl:os'=s.os:=hm.os
  refine h _ ⟨h',tk',Z,hS,λb o e=>?_⟩
  have lb:=q0e e
  exact hm.heap b o (by rw[e1];simp only[q0q,q0u,q2e,not_or];exact⟨q0r lb,q0r (q3a lb)⟩) (q0c _ (q0c _ e))
theorem Y9i (hh:A.handled=none)(ht:s.heap.IsTuple p its)(hi:IntsAre its.toList ns)(hb:ns.length+1<scanBound)(led:Bool){R:U2}
  (h:∀ s',SetEnd prog w s ns (λk=>(firstMet (λi=>ns.getD i 0) ns.length).any (· == k)) s'->R .none s') :
  codeAny (model prog w) A (.call (.builtin "set.__init__") ⟨[.ref s.heap.objs.size,.ref p],[]⟩) (wants R E) { s with heap:=s.heap.push (fresh0 led) }:=by
 have ty:Shared.TypeIs { s with heap:=s.heap.push (fresh0 led) } (.ref s.heap.objs.size) "set":=⟨_,q0m _ rfl,Z⟩
 obtain⟨o,ho,hc,n,hd⟩:=id ht
 obtain⟨ocls,odict,odata,oslots⟩:=o
 simp only at hc hd
 subst hc hd
 have ho1:(s.heap.push (fresh0 led)).get? p=some { cls:=.type "tuple",dict:=odict,data:=.seq its n,slots:=oslots }:=q0c _ ho
 have t1:(s.heap.push (fresh0 led)).IsTuple p its:=⟨_,ho1,Z,n,Z⟩
 have n1:=F.sub_tuple_set
 have n2:=F.sub_tuple_frozenset
 have n3:(Value.type "tuple" == Value.type "dict")=false:=by decide
 refine q4n F.called_set.init.plain F.entry_set_init (check_set_init_1 ty ?_)
 unfold Builtin.«set.__init__» noKeywords Builtin.Frozenset.updateFrom
 generalize hP:pyIter=PI
 wp_walk
 subst hP
 refine q5d t1 (q0b (wpAny_runValue (Y9n (by simp[hh]) ht hi hb led λs' e=>?_)))
 exact q0g (q0g (h _ e))
theorem X2n (hh:A.handled=none)(ht:s.heap.IsTuple p its)(hi:IntsAre its.toList ns)(hb:ns.length+1<scanBound){Q:U2}
  (h:∀ s',SetEnd prog w s ns (λk=>(firstMet (λi=>ns.getD i 0) ns.length).any (· == k)) s'->Q (.ref s.heap.objs.size) s'):wpAny (model prog w) A (call (.type "set") [.ref p]) Q E s:=by
 obtain⟨c,tl,hmro⟩:=F.called_set.mro
 have m1:=F.called_set.made
 have m2:=F.called_set.sub
 have m3:=F.called_set.notType
 have m4:=F.called_set.canCreate
 have m5:=F.typeCall_set_1 (.ref p)
 refine q5b (codeAny_of_tree ?_)
 show wpAny _ _ (callAny (.type "set") _) _ _ _
 refine q0g ⟨Code.quiet_builtin _ (by decide +kernel),q8c F.entry_type_call ?_⟩
 rw[Around.under_plain (weight_type_call_type "set" [.ref p] []) rfl]
 repeat any_goals first | assumption | wp_step
 refine q3n (code_set_new_1 (.ref p) (E:=E) (Q₁:=λob s₁=>∃ led:Bool,ob=.ref s.heap.objs.size/\s₁={ s with heap:=s.heap.push (fresh0 led) }) λled=>⟨led,Z,Z⟩) λr s₁ hr=>?_
 rcases r with e | fl
 ·exact hr
 cases fl with
 | ret ob =>
  obtain⟨led,rfl,rfl⟩:=hr
  have ty:Shared.TypeIs { s with heap:=s.heap.push (fresh0 led) } (.ref s.heap.objs.size) "set":=⟨_,q0m _ rfl,Z⟩
  have i1:=F.called_set.init.lookup
  have i2:=F.called_set.init.bind (.ref s.heap.objs.size)
  repeat any_goals first | assumption | wp_step
  refine q3n (Y9i (E:=E) (R:=λr s'=>r=.none/\SetEnd prog w s ns (λk=>(firstMet (λi=>ns.getD i 0) ns.length).any (· == k)) s') (by simp[hh]) ht hi hb led λs' e=>⟨Z,e⟩) λr₂ s₂ hr₂=>?_
  rcases r₂ with e | fl₂
  ·exact hr₂
  cases fl₂ with
  | ret r =>
   obtain⟨rfl,e⟩:=hr₂
   repeat any_goals first | assumption | wp_step
   exact h _ e
  | next=>exact hr₂.elim
  | brk=>exact hr₂.elim
  | cont=>exact hr₂.elim
 | next=>exact hr.elim
 | brk=>exact hr.elim
 | cont=>exact hr.elim
end
theorem Z9k:∀ {ns:U6}{us:U5},Vals (ns.map V.int) us->IntsAre us ns
 | [],_,.nil=>.nil
 | n::ns,_,.cons r rs=>by
  obtain⟨t,rfl⟩:=r
  exact .cons n t (Z9k rs)
section
variable {X:Cx}
theorem Y6y (hc:X.calm=true):CallR X (.type "set") (λxs H Q=>∃ (p:W9) (ns:U6),xs=[.ref p]/\SqT X.K H p (ns.map V.int)/\ns.length<64/\∀ (l:W9) (S:Int->Bool),H l=none->Q (.ref l) (upd H l (.set S (unlike ns)))):=by
 intro pins s σ H xs us Q I r h
 obtain⟨p,ns,rfl,hS,h64,q⟩:=h
 obtain⟨u,rfl,rx⟩:=vals1 r
 cases rx
 obtain⟨its,rv,ht,_⟩:=I.tuple hS
 obtain⟨o,ho,hcl,n,hd⟩:=ht
 refine X2n (I.ok.hd hc) ⟨o,ho,hcl,n,hd⟩ (ns:=ns) (Z9k (by simpa using rv)) (by unfold scanBound;omega) λs' ⟨h',tk,e,hs,hk⟩=>?_
 subst e
 exact⟨.ref s.heap.objs.size,_,I.laid (o:=.set _ (unlike ns)) (t':=tk) hk (q0f _) hs,Z,q _ _ (I.hok.fresh (q0f _))⟩
theorem Y7b:CallR X (.builtin "len") (λxs H Q=>∃ (p:W9) (S:Int->Bool) (n:Nat),xs=[.ref p]/\H p=some (.set S n)/\n<64/\Q (.int n) H):=by
 intro pins s σ H xs us Q I r h
 obtain⟨p,S,n,rfl,hp,h64,q⟩:=h
 obtain⟨u,rfl,rx⟩:=vals1 r
 cases rx
 have hs:s.heap.SetOf (intKind X.prog X.w) p S n:=I.hok p _ hp
 obtain⟨o,ho,hso⟩:=hs.objOf
 obtain⟨hex,es,ep,t,hd,_,_,hn,hf⟩:=hso
 subst hn
 exact call_len_set ho hex hd hf (by omega) ⟨.int es.size,H,(I.tok _).tok _,⟨_,Z⟩,q⟩
end
end L2
namespace L2
section
variable {X:Cx}{e st:Expr}{lo hi:Option Expr}{te:TE}{tl th ts:TO}{p2 pos:Pos}
end
end L2
namespace HT
section
variable {prog:U8}{w:W1}{A:W6}{E:U2}{s:U7}
theorem Z5f {t sl:W9}{items:U9}{vl vu:W2}{lo hi:Option Int}{Q:U2}(ht:IsTup s.heap t items)(hs:s.heap.IsSliceOf sl vl vu .none)(pl:IsPart vl lo)(pu:IsPart vu hi)
  (h1:sIx items.size 0 lo=0) (h2:sIx items.size items.size hi=items.size) (h:Q (.ref t) s):wpAny (model prog w) A (getItem (.ref t) (.ref sl)) Q E s:=by
 obtain⟨os,hos,hcs,hds⟩:=id hs
 have ty:s.TypeIs (.ref sl) "slice":=⟨os,hos,hcs⟩
 unfold getItem
 try with_reducible refine q1w ?_
 first | refine q0b (q0g ?_) | skip
 refine q0b (wpAny_sequenceKey ht.typeIs (by decide) (q0b (q3q (name:=Str.ofString "__getitem__") ht.typeIs PyProof.Rows.slot_tuple_getitem (q3u PyProof.Rows.slot_tuple_getitem ht.typeIs entry_tuple_getitem ?_ (args_tuple_getitem _ _)))))
 show wpAny _ _ (Builtin.Tuple.tupleItemsOf (.ref t) >>= _) _ _ s;refine q0b (tupleItemsOf_ ht (q0b (q7y ty ?_)));rw[if_pos (by decide)]
 refine q0b (Z3g hs pl pu ?_)
 show wpAny _ _ (if (((sIx items.size 0 lo:Nat):Int) == 0 && (1:Int) == 1 && (sIx items.size items.size hi-sIx items.size 0 lo) == items.size)=true then _ else _) _ _ s;rw[if_pos (by rw[h1,h2];simp)]
 refine q0b ?_
 unfold Builtin.Tuple.tupleIsExact
 refine q0b (q7y ht.typeIs (q0g ?_))
 rw[if_pos (by decide)]
 exact q0b (wpAny_rule (q0g ⟨_,Z,q0g h⟩))
end
end HT
namespace L2
section
variable {X:Cx}
def rSlA (K:U0):V->Option Int->Option Int->Hp->VK->Prop:=λx lo hi H Q=>∃ a xs,x=.ref a/\SqT K H a xs ∧
 ((HT.sIx xs.length 0 lo=0/\HT.sIx xs.length xs.length hi=xs.length)/\Q (.ref a) H∨¬ (HT.sIx xs.length 0 lo=0/\HT.sIx xs.length xs.length hi=xs.length)/\∀ p,H p=none->Q (.ref p) (upd H p (.tup (cutV xs lo hi))))
theorem Z3j:SlR X (rSlA X.K):=by
 intro pins s σ H x v vl vu lo hi sl Q I rx hs pl pu h
 obtain⟨a,xs,rfl,hx,⟨hw,q⟩ | ⟨hw,q⟩⟩:=h
 ·cases rx
  obtain⟨its,r,ht,hz⟩:=I.tuple hx
  have hlen:=r.length
  refine⟨"tuple",_,slot_tuple_getitem.lookup,ht.typeIs,HT.Z5f ht hs pl pu (by rw[q0h,<-hlen];exact hw.1) (by rw[q0h,<-hlen];exact hw.2) ⟨.ref a,H,I,Z,q⟩⟩
 ·exact Z7a pins s σ H _ v vl vu lo hi sl Q I rx hs pl pu ⟨a,xs,Z,hx,hw,q⟩
end
end L2
namespace L2
theorem Y3t {prog:U8}{w:W1}{A:W6}{env:Env}{c:Expr}{s:U7}{Q:Bool->Shared->Prop}(h:wpAny (model prog w) A (isTrue c env (eval c env)) Q Calm s) :
  wpAny (model prog w) A (forIn [c] true λc r=>if r=true then do let ok ← isTrue c env (eval c env);pure (ForInStep.yield ok) else pure (ForInStep.yield r)) Q Calm s:=wpAny_tests_one h
theorem Z6t {prog:U8}{w:W1}{A:W6}{R:Result->Shared->Prop}{s:U7}{e t i c:Expr}{sc:Scope}{pos:Pos}{it acc:W2}{env:Env}(J:Nat->Shared->Prop)
  (turn:∀ n s,J n s->wpAny (model prog w) A (pyNext it) (λr s1=>(r=none->R (.ok .next) s1)/\∀ v,r=some v →
   wpAny (model prog w) A (letOwnedTupleGo t it v) (λ_ s2=>wpAny (model prog w) A (assign t env v) (λ_ s3=>wpAny (model prog w) A (isTrue c env (eval c env)) (λok s3'=>if ok=true then wpAny (model prog w) A (eval e env) (λx s4 =>
    wpAny (model prog w) A (call (.builtin "list.append") [acc,x]) (λ_ s5=>∃ m,m<n/\J m s5) Calm s4) Calm s3' else ∃ m,m<n/\J m s3') Calm s3) Calm s2) Calm s1) Calm s)
  (n:Nat) (h:J n s):codeAny (model prog w) A (.compLoop (.ListComp e [⟨t,i,[c],0⟩] sc pos) 0 it acc env) R s:=by
 have eq:=compTurn_list e t i [c] sc pos it acc env
 refine codeAny_loop rfl J (λn s j=>wpAny_noted (m:=compTurn (.ListComp e [⟨t,i,[c],0⟩] sc pos) 0 it acc env) ?_) n h
 rw[eq]
 refine q0b (q4i (thenC (turn n s j) λr s1 q=>?_))
 match r,q with
 | none,q=>exact q0g (q.1 rfl)
 | some v,q =>
  refine thenC (q.2 v rfl) λ_ s2 q2=>thenC q2 λ_ s3 q3=>thenC (Y3t q3) λok s4 q4=>?_
  cases ok with
  | false=>exact q0g ⟨rfl,q4⟩
  | true=>exact q0b (thenC q4 λx s5 q5=>thenC q5 λ_ s6 q6=>q0g (q0g ⟨rfl,q6⟩))
def LcWF (J:It)(g:TG)(tc:TT)(te:TE)(σ:St)(H:Hp)(acc:W9)(Q:VK):Prop:=∃ W:Nat->Nat->List V->St->Hp->Prop,(∃ m,W 0 m [] σ (upd H acc (.lst []))) ∧
 ∀ i m ys σ2 H2,W i m ys σ2 H2->(J.stop i H2/\Q (.ref acc) H2)∨(J.go i H2/\∀ x H3,J.yld i H2 x H3->g x σ2 H3 λσ4 H4=>tc σ4 H4 λb H5 =>
  (b=true->te σ4 H5 λy H6=>H6 acc=some (.lst ys)/\ys.length<sizeLine/\∃ m',m'<m/\W (i+1) m' (ys++[y]) σ4 (upd H6 acc (.lst (ys++[y]))))/\(b=false->∃ m',m'<m/\W (i+1) m' ys σ4 H5))
def tLcF (mp:W7)(wi:TI)(g:TG)(tc:TT)(te:TE):TE:=λσ H Q=>wi σ H λJ H1=>∀ acc,H1 acc=none->LcWF J g tc te (sub mp σ) H1 acc Q
section
variable {X:Cx}{elt tg iter cond:Expr}{scope:Scope}{pos:Pos}{wi:TI}{g:TG}{tc:TT}{te:TE}{Nc:W0}{mp:W7}
theorem X4n (hc:X.calm=true)(S:LcOk X.N X.env.scope scope Nc mp)(hg:∀ ex pins s H,PG (cxLc X scope Nc ex pins s H) tg g)(ht:∀ ex pins s H,PT (cxLc X scope Nc ex pins s H) cond tc)(he:∀ ex pins s H,PE (cxLc X scope Nc ex pins s H) elt te)
  {pins:U1}{σ:St}{H2:Hp}{s2:U7}{E:U2}{it:W9}{fp:U3}{tn:Nat->Heap->Prop}{J:It}{Q:VK}{RR:Value->Addr->Result->Shared->Prop}
  (I2:Inv X pins σ H2 s2) (T:Turn X.prog X.w X.K tg J fp it tn) (st2:tn 0 s2.heap) (f2:∀ b∈fp,FpOk X pins H2 b)
  (q:∀ acc,H2 acc=none->LcWF J g tc te (sub mp σ) H2 acc Q)
  (fin:∀ acc C H' s' m',Q (.ref acc) H'->Inv X pins σ H' s'->s'.heap.Ns C m'->H' C=none->X.s₀.heap.objs.size<=C->C≠X.env.locals->(∀ x c,X.env.cells.lookup x=some c->c≠C)->(∀ p∈X.pn++pins,p.1≠C)->RR (.ref acc) C (.ok .next) s') :
  wpAny (model X.prog X.w) X.A (newList []) (λacc s₃=>wpAny (model X.prog X.w) X.A (newFunctionEnv scope X.env.globals (clo scope.names X.env.cells) [] X.env.qual none .none (some X.env)) (λcenv s₄ =>
   codeAny (model X.prog X.w) X.A (.compStart (.ListComp elt [⟨tg,iter,[cond],0⟩] scope pos) 0 (.ref it) acc { cenv with scope:=relabel scope X.env }) (RR acc cenv.locals) s₄) E s₃) E s2:=by
 refine q1t (wpAny_newFunctionEnv S.nocell (by intro y hy;simp at hy) (λh₁ hns₁ hsb₁=>?_) S.kind)
 dsimp only at hns₁ hsb₁ ⊢
 have I3:=I2.lnew (its:=[]) (ys:=[]) (t':=s2.toks) .nil (q1d _)
 have hacc:H2 s2.heap.objs.size=none:=I2.fresh
 obtain⟨W,⟨m0,w0⟩,turn⟩:=q s2.heap.objs.size hacc
 have hpush:(s2.heap.push { cls:=.type "list",dict:=none,data:=.seq ([]:U5).toArray }).objs.size=s2.heap.objs.size+1:=q1z ..
 have hlt:∀ b∈fp,b<s2.heap.objs.size:=λb hb=>by
  obtain⟨o,e,_⟩:=T.obj _ _ st2 b hb
  exact q0e e
 have f3:∀ b∈fp,FpOk X pins (upd H2 s2.heap.objs.size (.lst [])) b:=λb hb=>⟨by rw[Z0t (q0r (hlt b hb))];exact(f2 b hb).1,(f2 b hb).2⟩
 have I3':Inv X pins σ (upd H2 s2.heap.objs.size (.lst [])) (Z0u s2):=I3
 have hsz:(Z0u s2).heap.objs.size=s2.heap.objs.size+1:=hpush
 have hlt3:∀ b∈fp,b<(Z0u s2).heap.objs.size:=λb hb=>by rw[hsz];exact q3a (hlt b hb)
 have k3:∀ b o,(Z0u s2).heap.get? b=some o->h₁.get? b=some o:=λb o e=>hsb₁.extBut b o (q0r (q0e e)) (q0c _ e)
 have Ic:=Y2a (tk:=(Z0u s2).toks) I3' S f3 hlt3 hns₁ k3
 have st3:tn 0 h₁:=T.keep _ _ _ st2 λb hb o e=>k3 b o (q0c _ e)
 have cC:X.s₀.heap.objs.size<=(Z0u s2).heap.objs.size:=I3'.sz
 have cL:(Z0u s2).heap.objs.size≠X.env.locals:=q2y I3'.lt
 have cc:∀ x c,X.env.cells.lookup x=some c->c≠(Z0u s2).heap.objs.size:=λx c e=>by
  obtain⟨v,o,ho,_⟩:=I3'.cell x c e
  exact q0r (q0e ho)
 have cp:∀ p∈X.pn++pins,p.1≠(Z0u s2).heap.objs.size:=λp hp=>q0r (q0e (I3'.pin p hp).1)
 have stat:∀ {H':Hp},(∀ b∈fp,H' b=none)->∀ b∈fp,FpOk (cxLc X scope Nc fp pins (Z0u s2) (upd H2 s2.heap.objs.size (.lst []))) [] H' b:=λhn b hb =>
  ⟨hn b hb,q0r (hlt3 b hb),λz=>by
   rcases q0q.mp (I3'.stkSub b z) with e | e
   ·exact(f3 b hb).2.1 e
   ·exact(f3 b hb).2.2.1 e,.inl hb,λx c e=>(f3 b hb).2.2.2.2.1 x c (Z5l I3' S e),λp hp=>(f3 b hb).2.2.2.2.2 p (by
    have:p∈(X.pn++pins)++[]:=hp
    simpa using this)⟩
 have loop:∀ s4:Shared,s4={ (Z0u s2) with heap:=h₁,toks:=(Z0u s2).toks } →
   codeAny (model X.prog X.w) X.A (.compLoop (.ListComp elt [⟨tg,iter,[cond],0⟩] scope pos) 0 (.ref it) (.ref s2.heap.objs.size) (cxLc X scope Nc fp pins (Z0u s2) (upd H2 s2.heap.objs.size (.lst []))).env)
    (RR (.ref s2.heap.objs.size) (Z0u s2).heap.objs.size) s4:=by
  rintro s4 rfl
  refine Z6t (λn s'=>∃ i ys σ' H',Inv (cxLc X scope Nc fp pins (Z0u s2) (upd H2 s2.heap.objs.size (.lst []))) [] σ' H' s'/\tn i s'.heap/\(∀ b∈fp,H' b=none)/\W i n ys σ' H') ?_ m0
   ⟨0,[],sub mp σ,_,Ic,st3,λb hb=>(f3 b hb).1,w0⟩
  rintro n s5 ⟨i,ys,σ5,H5,I5,st5,fr5,w5⟩
  rcases turn i n ys σ5 H5 w5 with ⟨stop,qn⟩ | ⟨go,step⟩
  ·refine q1i (T.done (cxLc X scope Nc fp pins (Z0u s2) (upd H2 s2.heap.objs.size (.lst []))) rfl rfl rfl hc i [] s5 σ5 H5 (λ_ _=>False) I5 (stat fr5) st5 stop) (λr s6 ⟨hr,I6⟩=>?_) λ_ _ f=>f.elim
   subst hr
   obtain⟨m6,hn6,_⟩:=I6.loc
   refine⟨λ_=>?_,λ_ z=>nomatch z⟩
   exact fin _ _ H5 s6 m6 qn (X1e I3' f3 I6) hn6 I6.free cC cL cc cp
  ·refine q1i (T.item (cxLc X scope Nc fp pins (Z0u s2) (upd H2 s2.heap.objs.size (.lst []))) rfl rfl rfl hc i [] s5 σ5 H5 (λ_ _=>False) I5 (stat fr5) st5 go) (λr s6 ⟨u,hr,h6⟩=>?_) λ_ _ f=>f.elim
   subst hr
   refine⟨(λz=>by cases z),?_⟩
   rintro _ ⟨⟩
   refine q1i h6 (λ_ s7 ⟨x,H7,I7,r7,y7,st7,fr7⟩=>?_) λ_ _ f=>f.elim
   have I7':=I7.pinned (stat fr7) (T.obj _ _ st7)
   refine q1i (hg _ _ _ _ _ s7 σ5 H7 x u _ I7' r7 (step x H7 y7)) (λ_ s8 ⟨σ8,H8,I8,q8⟩=>?_) λ_ _ f=>f.elim
   refine q1i (ht _ _ _ _ _ s8 σ8 H8 _ I8 q8) (λbb s9 ⟨H9,I9,p9,n9⟩=>?_) λ_ _ f=>f.elim
   have keeps:∀ {H':Hp}{s':U7},Inv (cxLc X scope Nc fp pins (Z0u s2) (upd H2 s2.heap.objs.size (.lst []))) ([]++pinsAt fp s7.heap) σ8 H' s'->tn (i+1) s'.heap/\∀ b∈fp,H' b=none:=λ{H' s'} J' =>
    ⟨T.keep _ _ _ st7 λb hb o e=>(J'.pin (b,o) (q1b _ (q1b _ (Z2q hb e)))).1,λb hb=>by
     obtain⟨o,e,d⟩:=T.obj _ _ st7 b hb
     exact(J'.pin (b,o) (q1b _ (q1b _ (Z2q hb e)))).2.1⟩
   cases bb with
   | false =>
    obtain⟨m',hm',w9⟩:=n9 rfl
    rw[if_neg q0p]
    exact⟨m',hm',i+1,ys,σ8,H9,I9.unpinned,(keeps I9).1,(keeps I9).2,w9⟩
   | true =>
    rw[if_pos rfl]
    refine q1i (he _ _ _ _ _ s9 σ8 H9 _ I9 (p9 rfl)) (λv s10 ⟨y,H10,I10,r10,a10,l10,m',hm',w10⟩=>?_) λ_ _ f=>f.elim
    refine q1i (Z2j (X:=cxLc X scope Nc fp pins (Z0u s2) (upd H2 s2.heap.objs.size (.lst []))) _ s10 σ8 H10 (.ref s2.heap.objs.size) [y] (.ref s2.heap.objs.size) [v] (λz Hz=>z=.non/\Hz=upd H10 s2.heap.objs.size (.lst (ys++[y]))) I10 rfl (.cons r10 .nil) ⟨_,ys,y,Z,Z,a10,l10,Z,Z⟩) (λv11 s11 ⟨z,H11,I11,_,_,e11⟩=>?_) λ_ _ f=>f.elim
    subst e11
    exact⟨m',hm',i+1,ys++[y],σ8,_,I11.unpinned,(keeps I11).1,(keeps I11).2,w10⟩
 exact q7t (loop _ rfl) (T.self _ 0 _ _ _ st3 (loop _ rfl))
theorem Z6d {i:Nat}{x:Str}{pos' spos:Pos}(hc:X.calm=true)(hN:X.N.Nodup)(hi':X.N[i]?=some x)(hx:X.env.scope.names.lookup x=some .local)(S:LcOk X.N X.env.scope scope Nc mp)(hi:PI X tg iter wi)
  (hg:∀ ex pins s H,PG (cxLc X scope Nc ex pins s H) tg g) (ht:∀ ex pins s H,PT (cxLc X scope Nc ex pins s H) cond tc) (he:∀ ex pins s H,PE (cxLc X scope Nc ex pins s H) elt te)
  (hsw:swapsWith (.ListComp elt [⟨tg,iter,[cond],0⟩] scope pos) (some (.Name x pos')) spos.line X.env=pure true)
  (hf:∀ x,foldedSetIterable iter X.env x=pure x:=by intro _;rfl):PS X (.Assign [.Name x pos'] (.ListComp elt [⟨tg,iter,[cond],0⟩] scope pos) spos) (tAsg (tLcF mp wi g tc te) (gName i)):=by
 intro pins s σ H D I h
 rw[q8a _ _ _ _ hsw]
 refine q0b (q4i (q0b ?_))
 show wpAny _ X.A (do let _ ← comprehension (.ListComp elt [⟨tg,iter,[cond],0⟩] scope pos) scope X.env _ (newList []) false (eval iter X.env) (some (assign (.Name x pos') X.env))) _ _ s
 refine q0b (q1i (q5a (use:=some (assign (.Name x pos') X.env)) (Q:=λ_ s'=>SP X pins D .next s') rfl hf (Z5h (Z5t I S)) S.kind S.names
  (thn (hi pins s σ H _ I h) λv s1 h1=>thn h1 λitv s2 h2=>?_)) (λ_ s' hq=>q0g (q0g hq)) λ_ _ e=>e)
 obtain⟨it,fp,tn,J,H2,e,I2,T,st2,f2,q⟩:=h2
 subst e
 refine X4n (Q:=λx H1=>gName i x σ H1 D.nx) (RR:=λacc C=>compPost (model X.prog X.w) X.A X.xe (some (assign (.Name x pos') X.env)) (λ_ s'=>SP X pins D .next s') acc C) hc S hg ht he I2 T st2 f2 q ?_
 intro acc C H' s' m' qq I' hn hC c1 c2 c3 c4
 show wpAny _ X.A (assign (.Name x pos') X.env (.ref acc)) _ _ _
 refine q6x (Z5z (v:=.ref acc) I' hN hi' (.inl hx) rfl (λs5 I5 ⟨a,hs5,ha⟩=>?_) (.inr hx))
 have hCa:C≠a:=by
  rcases ha with z | z
  ·rw[z];exact c2
  ·exact Ne.symm (c3 x a z)
 refine⟨m',hn.sameBut hs5 hCa,λh' hs=>⟨σ.set i (some (.ref acc)),H',?_,qq⟩⟩
 exact I5.turnedNew (t':=s5.toks) (λb o hb e=>hs.extBut b o hb e) hC c1 c2 c3 c4
end
def tTruI (t:TE):TT:=λσ H Q=>t σ H λx H'=>∃ i,x=.int i/\Q (i != 0) H'
theorem Z2l {X:Cx}{a:Expr}{ta:TE}(ha:PE X a ta)(he:∀ whole,isTrue a X.env whole=(do let v ← whole;standAt a.pos;holding [v] (truthy v))):PT X a (tTruI ta):=by
 intro pins s σ H Q I h
 refine isTrue_plain (thn (ha pins s σ H _ I h) λv s1 ⟨x,H1,I1,r1,i,e,q1⟩=>?_) (he _)
 subst e
 exact X5z pins s1 σ H1 (.int i) v Q I1 r1 ⟨_,Z,q1⟩
theorem Y5v {lo:Int}{n:Nat}{tc:TT}{te:TE}{fr:St}{H1:Hp}{acc:W9}{Q:VK}(Pv:Nat->List V->Hp->Prop)(hn:n<=sizeLine)(h0:Pv 0 [] (upd H1 acc (.lst [])))
  (hs:∀ i ys H (N:Bool->Hp->Prop),i<n->ys.length<=i->Pv i ys H->(∀ b H5,(b=true->te (some (.int (lo+i))::fr) H5 λy H6=>H6 acc=some (.lst ys)/\Pv (i+1) (ys++[y]) (upd H6 acc (.lst (ys++[y]))))->(b=false->Pv (i+1) ys H5)->N b H5)->tc (some (.int (lo+i))::fr) H N)
  (mono:∀ {σ H}{R R':VK},(∀ v H,R v H->R' v H)->te σ H R->te σ H R')
  (hd:∀ ys H,Pv n ys H->Q (.ref acc) H):LcWF (Itr lo n) (gName 0) tc te (none::fr) H1 acc Q:=by
 refine⟨λi m ys σ2 H2=>m=n-i/\i<=n/\ys.length<=i/\(∃ v,σ2=v::fr)/\Pv i ys H2,⟨n,by simp,q1d _,q0f _,⟨_,Z⟩,h0⟩,?_⟩
 rintro i m ys σ2 H2 ⟨rfl,hi,hl,⟨v,rfl⟩,p⟩
 by_cases hlt:i<n
 ·refine .inr ⟨hlt,λx H3 y3=>?_⟩
  obtain⟨rfl,rfl⟩:=y3
  show tc ((v::fr).set 0 (some (.int (lo+i)))) _ _
  rw[List.set_cons_zero]
  refine hs i ys _ _ hlt hl p λb H5 ht hf=>⟨λe=>mono (λy H6 q=>?_) (ht e),λe=>⟨n-(i+1),by omega,Z,hlt,by omega,⟨_,Z⟩,hf e⟩⟩
  exact⟨q.1,by omega,n-(i+1),by omega,Z,hlt,by rw[q0x];simp;omega,⟨_,Z⟩,q.2⟩
 ·have e:i=n:=by omega
  subst e
  exact .inl ⟨q0f _,hd ys H2 p⟩
end L2
namespace K64
open L2 Am Pc Ba
theorem Z4r {X:Cx}{st:Stmt}:PS X st (λ_ _ _=>False):=λ_ _ _ _ _ _ h=>h.elim
theorem Z8r {ns:U6}(h:ns.Nodup):unlike ns=ns.length:=by
 have key:∀ i,i<=ns.length->(firstMet (λi=>ns.getD i 0) i).length=i:=by
  intro i
  induction i with
  | zero=>intro _;rfl
  | succ i ih =>
   intro hi
   rw[firstMet_succ,step_length,firstMet_any,if_neg,ih (by omega)]
   intro z
   obtain⟨y,hy,e⟩:=q7r.mp z
   obtain⟨j,hj,rfl⟩:=q2j.mp hy
   have hj:=q1q.mp hj
   have e:ns.getD j 0=ns.getD i 0:=by simpa using e
   rw[q0i,q0i,q0d (by omega),q0d (by omega)] at e
   have:=(List.getElem_inj h).mp e
   omega
 exact key _ (q0f _)
noncomputable abbrev NB:List (Str × Int):=[("flip",1),("mix",1),("turn",2),("if",2),("pair",2),("swap",2),("cross",3)]
noncomputable abbrev MvT (nm:Str)(ns:U6):HO:=.tup (.str nm::ns.map V.int)
noncomputable def named (nm:Str)(ns:U6):List Int:=if nm="turn" then ns.take 1 else ns
structure Form (nm:Str) (ns:U6):Prop where
 num:numAt NB nm=some (.int ns.length)
 len:ns.length<=3
 turn:nm="turn"->∃ a k,ns=[a,k]/\1<=k/\k<=7
structure Fits (nm:Str) (ns:U6) (c:Nat):Prop where
 form:Form nm ns
 low:∀ a∈named nm ns,0<=a/\a<c
 nd:(named nm ns).Nodup
def Z8z:Sp:=λvs H Q _=>∃ (p:W9) (nm:Str) (ns:U6),vs=[.ref p]/\H p=some (MvT nm ns)/\Form nm ns/\∀ H',Same H H'->Q (.bl true) H'
def Y0a:Sp:=λvs H Q _=>∃ (p:W9) (nm:Str) (ns:U6),vs=[.ref p]/\H p=some (MvT nm ns)/\Form nm ns/\∀ (r:W9) (H':Hp),Same H H'->H' r=some (.tup ((named nm ns).map V.int))->Q (.ref r) H'
def Y4c:Sp:=λvs H Q _=>∃ (p:W9) (nm:Str) (ns:U6) (c:Nat),vs=[.ref p,.int c]/\H p=some (MvT nm ns)/\Fits nm ns c/\∀ H',Same H H'->Q (.ref p) H'
def Z9a (K:U0):Sp:=λvs H Q _=>∃ (l:W9) (xs:List V) (c:Nat),vs=[.ref l]/\SqL K H l xs/\xs.length=2^c/\c<=6/\Q (.int c) H
theorem Z8n {c:Nat}(h:c<=6):Builtin.Int.intBits (((2^c:Nat):Int))=c+1:=by
 have:c=0∨c=1∨c=2∨c=3∨c=4∨c=5∨c=6:=by omega
 rcases this with rfl | rfl | rfl | rfl | rfl | rfl | rfl<;>decide +kernel
theorem at0 {x:V}{xs:List V}:atI (x::xs) 0=some x:=Z1y (show (x::xs)[0]?=some x from rfl)
theorem Z7e {x:V}{xs:List V}:HT.sIx (x::xs).length 0 (some 1)=1:=by
 have:=HT.Z7w (x::xs).length 0 1
 rw[show ((1:Nat):Int)=1 from rfl] at this
 rw[this]
 simp
theorem Z5g {x:V}{xs:List V}:cutV (x::xs) (some 1) none=xs:=by
 unfold cutV
 rw[Z7e]
 have e2:HT.sIx (x::xs).length (x::xs).length none=(x::xs).length:=rfl
 rw[e2]
 simp
theorem X7f (K:U0):PySem.W.kitOne K (.type "str") (.type "str")=some true:=by unfold PySem.W.kitOne;rw[if_pos (by decide)]
section
variable {P:U8}{w:W1}{K:U0}{mg:U4}{base:Heap}{k:Nat}{h:Heap}
theorem sc_iswhole:FnScope ["thing"] ["thing"] (Z0h (top 14)):=fS
theorem Y3a (F:FunAt K "is_whole" (top 14) .none)(X:K.In h)(G:Ng h mg)(B:Bs mg):Cal P w K mg base (k+1) "is_whole" ["thing"] Z4f:=by
 have nd:=sc_iswhole.nd
 refine F.cal X G sc_iswhole (bnd1 λ_ _ _ _ _ _ _=>rfl) (λvs H Q E h=>?_) (λf cdv A outer s H vs Q E hr h=>?_)
 ·obtain⟨i,rfl,_⟩:=h;rfl
 obtain⟨i,rfl,q⟩:=h
 refine⟨_,(@Z0g _ _ _ (Z0l (Z4c (Z0p Z1k rfl B.isinstance q1g (Z0a (pv 0) (Z0a (Z1w (v:=.ty "int") rfl B.int q9e rfl) Z0d))) (Z3n (Y4s (Z0p Z1k rfl B.isinstance q1g (Z0a (pv 0) (Z0a (Z1w (v:=.ty "bool") rfl B.bool boot_bool rfl) Z0d)))))))),?_⟩
 try dsimp only[cxK]
 refine⟨_,Z,_,_,_,true,Z,TyOf.int i,Y5w K,_,Z,iteT ?_⟩
 exact⟨_,Z,_,_,_,false,Z,TyOf.int i,Y5x K,_,Z,q⟩
theorem sc_cellsof:FnScope ["board"] ["board"] (Z0h (top 29)):=fS
theorem Y3b (F:FunAt K "cells_of" (top 29) .none)(X:K.In h)(G:Ng h mg)(B:Bs mg):Cal P w K mg base (k+1) "cells_of" ["board"] (Z9a K):=by
 have nd:=sc_cellsof.nd
 refine F.cal X G sc_cellsof (bnd1 λ_ _ _ _ _ _ _=>rfl) (λvs H Q E h=>?_) (λf cdv A outer s H vs Q E hr h=>?_)
 ·obtain⟨l,xs,c,rfl,_⟩:=h;rfl
 obtain⟨l,xs,c,rfl,hl,len,c6,q⟩:=h
 refine⟨_,(@Z0g _ _ _ (Z0l (Z0i Z1t (X0v q7u q4a q6b Z9g (Z0p Z0s rfl B.len q1c (Z0a (pv 0) Z0d))) Z0b))),?_⟩
 try dsimp only[cxK]
 refine⟨_,Z,l,_,Z,.inl hl,Z,_,Z,Z,_,_,Z,Z,?_⟩
 show Q (.int (((Builtin.Int.intBits ((xs.length:Nat):Int):Nat):Int)-1)) H
 rw[len,Z8n c6,show (((c+1:Nat):Int)-1)=(c:Int) by omega]
 exact q
theorem sc_named:FnScope ["move"] ["move"] (Z0h (top 36)):=fS
theorem Y8n (F:FunAt K "named_cells" (top 36) .none)(X:K.In h)(G:Ng h mg)(B:Bs mg):Cal P w K mg base (k+1) "named_cells" ["move"] Y0a:=by
 have nd:=sc_named.nd
 refine F.cal X G sc_named (bnd1 λ_ _ _ _ _ _ _=>rfl) (λvs H Q E h=>?_) (λf cdv A outer s H vs Q E hr h=>?_)
 ·obtain⟨p,nm,ns,rfl,_⟩:=h;rfl
 obtain⟨p,nm,ns,rfl,hp,FO,kq⟩:=h
 have SP:SqT K H p (.str nm::ns.map V.int):=SqT.of hp
 refine⟨_,(@Z0g _ _ _ (Z0l (Z2p (Z0q Z1j (Z0k Z0j (pv 0) Z0b (λ_ _=>rfl)) Z1h (nomark _)) (Z1s Z3j (pv 0) (Z1v Z0b) (Z1v Z0b)) (Z1s Z3j (pv 0) (Z1v Z0b) Z2m)))),?_⟩
 try dsimp only[cxK]
 refine⟨_,Z,p,_,_,.str nm,Z,Z,SP,at0,Z,_,Z,decI (λz=>?_) (λz=>?_)⟩
 ·have e:nm="turn":=V.str.inj z
  obtain⟨a,kk,rfl,_⟩:=FO.turn e
  refine⟨_,Z,_,Z,_,Z,p,_,Z,SP,.inr ⟨λc=>absurd c.1 (by rw[Z7e];decide),λr hr=>kq r _ (Z0f hr _) ?_⟩⟩
  rw[Z0c]
  unfold named
  rw[if_pos e]
  rfl
 ·have e:nm≠"turn":=λc=>z (by rw[c])
  refine⟨_,Z,_,Z,p,_,Z,SP,.inr ⟨λc=>absurd c.1 (by rw[Z7e];decide),λr hr=>kq r _ (Z0f hr _) ?_⟩⟩
  rw[Z0c,Z5g]
  unfold named
  rw[if_neg e]
theorem sc_form:FnScope ["thing"] ["thing"] (Z0h (top 35)):=fS
theorem X3v (F:FunAt K "has_move_form" (top 35) .none)(X:K.In h)(G:Ng h mg)(B:Bs mg){aN:W9}(gN:mg "NUMBERS_BEHIND"=some (.ref aN))(DN:KDic K w.params aN NB)(dW:Cal P w K mg base k "is_whole" ["thing"] Z4f) :
  Cal P w K mg base (k+1) "has_move_form" ["thing"] Z8z:=by
 have nd:=sc_form.nd
 refine F.cal X G sc_form (bnd1 λ_ _ _ _ _ _ _=>rfl) (λvs H Q E h=>?_) (λf cdv A outer s H vs Q E hr h=>?_)
 ·obtain⟨p,nm,ns,rfl,_⟩:=h;rfl
 obtain⟨p,nm,ns,rfl,hp,FO,kq⟩:=h
 have SP:SqT K H p (.str nm::ns.map V.int):=SqT.of hp
 have l3:=FO.len
 have lm:(V.str nm::ns.map V.int).length=ns.length+1:=by rw[q2k,q0a]
 refine⟨_,(@Z0e _ _ _ _ _ (Z1b (PW.pt (Z2y (Z1z (Z1l (Z0p Z1k rfl B.isinstance q1g (Z0a (pv 0) (Z0a (Z1w (v:=.ty "tuple") rfl B.tuple q8p rfl) Z0d))))) (Z2n (Z0q Z1j (Z0p Z0s rfl B.len q1c (Z0a (pv 0) Z0d)) Z0b (nomark _)))))
   (@Z0g _ _ _ (Z0l Z2w))
   Z0r)
  (@Z0e _ _ _ _ _ (Z1b (PW.pt (Z2y (Z1z (Z1l (Z0p Z1k rfl B.isinstance q1g (Z0a (Z0k Z0j (pv 0) Z0b (λ_ _=>rfl)) (Z0a (Z1w (v:=.ty "str") rfl B.str boot_str rfl) Z0d))))) (Z2n (X6i (Y4v DN (Z0k Z0j (pv 0) Z0b (λ_ _=>rfl)) (Z2s (v:=.ref aN) rfl gN rfl))))))
   (@Z0g _ _ _ (Z0l Z2w))
   Z0r)
  (@Z0e _ _ _ _ _ (Z1b (Z0q Z5m (Z0p Z0s rfl B.len q1c (Z0a (pv 0) Z0d)) (Z0i Z1f Z0b (X2y DN (Z2s (v:=.ref aN) rfl gN rfl) (Z0k Z0j (pv 0) Z0b (λ_ _=>rfl)) (λ_ _=>rfl))) (nomark _))
   (@Z0g _ _ _ (Z0l Z2w))
   Z0r)
  (@Z0e _ _ _ _ _ (Z1b (Z1z (Z1l (Z0p (Z3a rfl) rfl B.all q8w (Z0a (Z4i rfl (LcOk.of (Nc:=["number"]) (mp:=[none]) (by kernel_rfl)) (Z9d (Z1s Z3j (pv 0) (Z1v Z0b) Z2m)) (λ_ _ _ _=>(Z0m (i:=0) (show (["number"]:W0).Nodup by decide +kernel) rfl (Or.inl rfl))) (λ_ _ _ _=>(Z0n dW hr rfl (Z0a (pv 0) Z0d)))) Z0d))))
   (@Z0g _ _ _ (Z0l Z2w))
   Z0r)
  (@Z0g _ _ _ (Z0l (X6l (Z1o Z5m (Z0k Z0j (pv 0) Z0b (λ_ _=>rfl)) Z1h (nomark _)) (Z3n (Z4c (Z1o X3j (Z0k Z0j (pv 0) Z0b (λ_ _=>rfl)) Z0b (nomark _)) (Z3n (Z1o X6p (Z0k Z0j (pv 0) Z0b (λ_ _=>rfl)) Z0b (nomark _)))))))))))),?_⟩
 try dsimp only[cxK]
 refine⟨_,Z,_,_,_,true,Z,TyOf.tup hp,X1h K,_,Z,iteF ⟨_,Z,p,_,Z,.inr SP,Z,_,Z,eqI (λz=>absurd z (by rw[lm];omega)) (λ_=>?_)⟩⟩
 refine⟨_,Z,p,_,_,.str nm,Z,Z,SP,at0,_,_,_,true,Z,TyOf.str nm,X7f K,_,Z,iteF ⟨_,Z,p,_,_,.str nm,Z,Z,SP,at0,nm,Z,_,Z,?_⟩⟩
 rw[FO.num]
 refine iteF ⟨_,Z,p,_,Z,.inr SP,_,Z,p,_,_,.str nm,Z,Z,SP,at0,nm,_,Z,FO.num,_,_,Z,Z,Z,_,Z,neI (λz=>absurd (by rw[lm];omega) z) (λ_=>?_)⟩
 refine⟨_,Z,_,Z,p,_,Z,SP,.inr ⟨λc=>absurd c.1 (by rw[Z7e];decide),λr hr=>?_⟩⟩
 rw[Z5g]
 have s1:=Z0f hr (.tup (ns.map V.int))
 refine⟨r,Z,⟨_,SqT.of Z0c⟩,λacc hacc=>?_⟩
 refine Z6i (K:=K) (λ_=>.bl true) (SqT.of Z0c) (t64 (by omega)) hacc (λn H2 N hn S2 kN=>⟨_,Z,n,Z,kN⟩) (λH3 S3 a3=>?_)
 have e:ns.map (λ_=>V.bl true)=(ns.map λ_=>true).map V.bl:=by rw[q3p];rfl
 rw[e] at a3
 have S03:=s1.trans S3
 have SP3:SqT K H3 p (.str nm::ns.map V.int):=SqT.of (S03 _ _ hp)
 refine⟨acc,_,Z,SqL.of a3,_,Z,nblI (λz=>absurd z (by simp)) (λ_=>?_)⟩
 refine⟨_,Z,p,_,_,.str nm,Z,Z,SP3,at0,Z,_,Z,nblI (λ_=>kq _ S03) (λz=>?_)⟩
 obtain⟨a,kk,rfl,k1,k7⟩:=FO.turn (V.str.inj (q2m z))
 refine⟨_,Z,p,_,_,.int kk,Z,Z,SP3,Z,_,_,Z,Z,_,Z,decI (λ_=>?_) (λz=>absurd k1 z)⟩
 refine⟨_,Z,p,_,_,.int kk,Z,Z,SP3,Z,_,_,Z,Z,?_⟩
 show Q (.bl (decide (kk<=7))) H3
 rw[q0t k7]
 exact kq _ S03
theorem sc_check:FnScope ["move","cells","named"] ["move","cells"] (Z0h (top 34)):=fS
theorem Y8r (F:FunAt K "check_move" (top 34) .none)(X:K.In h)(G:Ng h mg)(B:Bs mg)(cX:Cal P w K mg base k "has_move_form" ["thing"] Z8z)(cI:Cal P w K mg base k "named_cells" ["move"] Y0a) :
  Cal P w K mg base (k+1) "check_move" ["move","cells"] Y4c:=by
 have nd:=sc_check.nd
 refine F.cal X G sc_check (bnd2 λ_ _ _ _ _ _ _ _=>rfl) (λvs H Q E h=>?_) (λf cdv A outer s H vs Q E hr h=>?_)
 ·obtain⟨p,nm,ns,c,rfl,_⟩:=h;rfl
 obtain⟨p,nm,ns,c,rfl,hp,FI,kq⟩:=h
 have l3:(named nm ns).length<=3:=by
  have:=FI.form.len
  unfold named
  split
  ·rw[q3v];omega
  ·exact this
 refine⟨_,(@Z0e _ _ _ _ _ (Z1b (Z1z (Z1l (Z0n cX hr rfl (Z0a (pv 0) Z0d))))
   (@Z0g _ _ _ Z4r)
   Z0r)
  (@Z0e _ _ _ _ _ (@Z0o _ _ 2 _ _ _ _ nd rfl (Or.inl rfl) (Z0n cI hr rfl (Z0a (pv 0) Z0d)) rfl (.inl rfl))
  (@Z0e _ _ _ _ _ (Z1b (Z1l (Z0p (Y7c rfl) rfl B.any boot_any (Z0a (Z4i rfl (LcOk.of (Nc:=["cell","cells"]) (mp:=[none,some 1]) (by kernel_rfl)) (Z9d (pv 2)) (λ_ _ _ _=>(Z0m (i:=0) (show (["cell","cells"]:W0).Nodup by decide +kernel) rfl (Or.inl rfl))) (λ_ _ _ _=>(X6l (Z1o Y0g (pv 0) Z0b (nomark _)) (Z3n (Z1o X3j (pv 0) (pv 1) (nomark _)))))) Z0d)))
   (@Z0g _ _ _ Z4r)
   Z0r)
  (@Z0e _ _ _ _ _ (Z1b (Z0q Z5m (Z0p Y7b rfl B.len q1c (Z0a (Z2e (Y6y rfl) rfl B.set boot_set (Z0a (pv 2) Z0d)) Z0d)) (Z0p Z0s rfl B.len q1c (Z0a (pv 2) Z0d)) (nomark _))
   (@Z0g _ _ _ Z4r)
   Z0r)
  (@Z0g _ _ _ (Z0l (pv 0))))))),?_⟩
 try dsimp only[cxK]
 refine⟨_,Z,p,nm,ns,Z,hp,FI.form,λH1 S1=>⟨_,Z,iteF ?_⟩⟩
 refine⟨_,Z,p,nm,ns,Z,S1 _ _ hp,FI.form,λr H2 S2 hr=>?_⟩
 have SR:SqT K H2 r ((named nm ns).map V.int):=SqT.of hr
 refine⟨_,Z,r,Z,⟨_,SR⟩,λacc hacc=>?_⟩
 refine Z6i (K:=K) (λ_=>.bl false) SR (t64 (by omega)) hacc (λn H2 N hn S2 kN=>?_) (λH3 S3 a3=>?_)
 ·obtain⟨n0,nc⟩:=FI.low n hn
  refine⟨_,Z,_,_,Z,Z,_,Z,decI (λz=>absurd z (by omega)) (λ_=>?_)⟩
  refine⟨_,Z,_,Z,_,_,Z,Z,?_⟩
  show N (.bl (decide ((c:Int)<=n))) _
  rw[q0j (by omega)]
  exact kN
 have e:(named nm ns).map (λ_=>V.bl false)=((named nm ns).map λ_=>false).map V.bl:=by rw[q3p];rfl
 rw[e] at a3
 refine⟨acc,_,Z,SqL.of a3,_,Z,?_⟩
 rw[show ((named nm ns).map λ_=>false).any id=false by simp]
 refine iteF ?_
 refine⟨_,Z,r,_,Z,S3.tup SR,by omega,λl S hl=>?_⟩
 have s4:=Z0f hl (.set S (unlike (named nm ns)))
 have un:=Z8r FI.nd
 refine⟨l,S,_,Z,Z0c,by omega,_,Z,r,_,Z,.inr (s4.tup (S3.tup SR)),Z,_,Z,neI (λz=>absurd (by rw[un,q0a]) z) (λ_=>?_)⟩
 exact⟨_,Z,kq _ (((S1.trans S2).trans S3).trans s4)⟩
end
inductive Mv where
 | flip (a:Nat)
 | turn (a k:Nat)
 | iff (a b:Nat)
 | pair (a b:Nat)
 | swap (a b:Nat)
 | cross (a b d:Nat)
noncomputable def exch (w a b:Nat):Nat:=if w&&&(2^a ||| 2^b)=2^a∨w&&&(2^a ||| 2^b)=2^b then w^^^(2^a ||| 2^b) else w
namespace Mv
noncomputable def nm:Mv->Str
 | flip _=>"flip"
 | turn _ _=>"turn"
 | iff _ _=>"if"
 | pair _ _=>"pair"
 | swap _ _=>"swap"
 | cross _ _ _=>"cross"
noncomputable def ns:Mv->List Int
 | flip a=>[(a:Int)]
 | turn a k=>[(a:Int),(k:Int)]
 | iff a b=>[(a:Int),(b:Int)]
 | pair a b=>[(a:Int),(b:Int)]
 | swap a b=>[(a:Int),(b:Int)]
 | cross a b d=>[(a:Int),(b:Int),(d:Int)]
def Ok (c:Nat):Mv->Prop
 | flip a=>a<c
 | turn a k=>a<c/\1<=k/\k<=7
 | iff a b=>a<c/\b<c/\a≠b
 | pair a b=>a<c/\b<c/\a≠b
 | swap a b=>a<c/\b<c/\a≠b
 | cross a b d=>a<c/\b<c/\d<c/\a≠b/\a≠d/\b≠d
noncomputable def to (w:Nat):Mv->Nat
 | flip a=>w^^^2^a
 | iff a b=>if w&&&2^a=0 then w else w^^^2^b
 | swap a b=>exch w a b
 | cross a b d=>if w&&&2^a=0 then w else exch w b d
 | _=>w
noncomputable def sp (w:Nat):Mv->Nat
 | turn a k=>if w&&&2^a=2^a then k else 0
 | pair a b=>if w&&&(2^a ||| 2^b)=(2^a ||| 2^b) then 4 else 0
 | _=>0
end Mv
noncomputable abbrev at2 (w a:Nat):Nat:=w / 2^a%2
noncomputable def c1 (c a w:Nat):Bool:=decide ((Mv.flip a).to w<2^c) && decide ((Mv.flip a).to ((Mv.flip a).to w)=w) && decide ((w:Int)+(1-2*(at2 w a:Int))*((2^a:Nat):Int)=((Mv.flip a).to w:Nat)) &&
 decide ((if w&&&2^a=2^a then 1 else 0)=at2 w a)
noncomputable def c2 (c a b w:Nat):Bool:=decide (a=b) || (decide ((Mv.iff a b).to w<2^c) && decide ((Mv.iff a b).to ((Mv.iff a b).to w)=w) && decide ((w:Int)+(at2 w a:Int)*(1-2*(at2 w b:Int))*((2^b:Nat):Int)=((Mv.iff a b).to w:Nat)) &&
 decide ((Mv.swap a b).to w<2^c) && decide ((Mv.swap a b).to ((Mv.swap a b).to w)=w) && decide ((w:Int)+((at2 w b:Int)-(at2 w a:Int))*(((2^a:Nat):Int)-((2^b:Nat):Int))=((Mv.swap a b).to w:Nat)) &&
 decide (4*at2 w a*at2 w b=(Mv.pair a b).sp w))
noncomputable def c3 (c a b d w:Nat):Bool:=decide (a=b) || decide (a=d) || decide (b=d) || (decide ((Mv.cross a b d).to w<2^c) && decide ((Mv.cross a b d).to ((Mv.cross a b d).to w)=w) &&
 decide ((w:Int)+(at2 w a:Int)*((at2 w d:Int)-(at2 w b:Int))*(((2^b:Nat):Int)-((2^d:Nat):Int))=((Mv.cross a b d).to w:Nat)))
theorem X8h:((List.range 7).all λc=>(List.range c).all λa=>(List.range (2^c)).all λw=>c1 c a w)=true:=by decide +kernel
theorem X8g:((List.range 7).all λc=>(List.range c).all λa=>(List.range c).all λb=>(List.range (2^c)).all λw=>c2 c a b w)=true:=by decide +kernel
theorem X8f:((List.range 7).all λc=>(List.range c).all λa=>(List.range c).all λb=>(List.range c).all λd=>(List.range (2^c)).all λw=>c3 c a b d w)=true:=by decide +kernel
theorem get1 {p:Nat->Bool}{n i:Nat}(h:(List.range n).all p=true)(hi:i<n):p i=true:=q2l.mp h i (q1q.mpr hi)
section
variable {c a b d w:Nat}
theorem W0m (hc:c<=6)(ha:a<c)(hw:w<2^c):c1 c a w=true:=get1 (get1 (get1 X8h (by omega:c<7)) ha) hw
theorem W0l (hc:c<=6)(ha:a<c)(hb:b<c)(hw:w<2^c):c2 c a b w=true:=get1 (get1 (get1 (get1 X8g (by omega:c<7)) ha) hb) hw
theorem W0k (hc:c<=6)(ha:a<c)(hb:b<c)(hd:d<c)(hw:w<2^c):c3 c a b d w=true:=get1 (get1 (get1 (get1 (get1 X8f (by omega:c<7)) ha) hb) hd) hw
theorem X1n (hc:c<=6)(ha:a<c)(hw:w<2^c):(Mv.flip a).to w<2^c/\(Mv.flip a).to ((Mv.flip a).to w)=w/\(w:Int)+(1-2*(at2 w a:Int))*((2^a:Nat):Int)=((Mv.flip a).to w:Nat)/\(if w&&&2^a=2^a then 1 else 0)=at2 w a:=by
 have:=W0m hc ha hw
 unfold c1 at this
 simp only[q0y,q1n] at this
 exact⟨this.1.1.1,this.1.1.2,this.1.2,this.2⟩
theorem Y9o (hc:c<=6)(ha:a<c)(hb:b<c)(n:a≠b)(hw:w<2^c):((Mv.iff a b).to w<2^c/\(Mv.iff a b).to ((Mv.iff a b).to w)=w/\(w:Int)+(at2 w a:Int)*(1-2*(at2 w b:Int))*((2^b:Nat):Int)=((Mv.iff a b).to w:Nat)) ∧
  ((Mv.swap a b).to w<2^c/\(Mv.swap a b).to ((Mv.swap a b).to w)=w/\(w:Int)+((at2 w b:Int)-(at2 w a:Int))*(((2^a:Nat):Int)-((2^b:Nat):Int))=((Mv.swap a b).to w:Nat))/\4*at2 w a*at2 w b=(Mv.pair a b).sp w:=by
 have:=W0l hc ha hb hw
 unfold c2 at this
 rw[q0j n,q4k] at this
 simp only[q0y,q1n] at this
 obtain⟨⟨⟨⟨⟨⟨h1,h2⟩,h3⟩,h4⟩,h5⟩,h6⟩,h7⟩:=this
 exact⟨⟨h1,h2,h3⟩,⟨h4,h5,h6⟩,h7⟩
theorem Y6j (hc:c<=6)(ha:a<c)(hb:b<c)(hd:d<c)(n1:a≠b)(n2:a≠d)(n3:b≠d)(hw:w<2^c):(Mv.cross a b d).to w<2^c/\(Mv.cross a b d).to ((Mv.cross a b d).to w)=w ∧
  (w:Int)+(at2 w a:Int)*((at2 w d:Int)-(at2 w b:Int))*(((2^b:Nat):Int)-((2^d:Nat):Int))=((Mv.cross a b d).to w:Nat):=by
 have:=W0k hc ha hb hd hw
 unfold c3 at this
 rw[q0j n1,q0j n2,q0j n3,q4k,q4k,q4k] at this
 simp only[q0y,q1n] at this
 exact⟨this.1.1,this.1.2,this.2⟩
end
theorem Mv.to_lt {v:Mv}{c w:Nat}(hc:c<=6)(h:v.Ok c)(hw:w<2^c):v.to w<2^c:=by
 cases v with
 | flip a=>exact(X1n hc h hw).1
 | turn a k=>exact hw
 | iff a b=>exact(Y9o hc h.1 h.2.1 h.2.2 hw).1.1
 | pair a b=>exact hw
 | swap a b=>exact(Y9o hc h.1 h.2.1 h.2.2 hw).2.1.1
 | cross a b d=>exact(Y6j hc h.1 h.2.1 h.2.2.1 h.2.2.2.1 h.2.2.2.2.1 h.2.2.2.2.2 hw).1
theorem Mv.to_to {v:Mv}{c w:Nat}(hc:c<=6)(h:v.Ok c)(hw:w<2^c):v.to (v.to w)=w:=by
 cases v with
 | flip a=>exact(X1n hc h hw).2.1
 | turn a k=>rfl
 | iff a b=>exact(Y9o hc h.1 h.2.1 h.2.2 hw).1.2.1
 | pair a b=>rfl
 | swap a b=>exact(Y9o hc h.1 h.2.1 h.2.2 hw).2.1.2.1
 | cross a b d=>exact(Y6j hc h.1 h.2.1 h.2.2.1 h.2.2.2.1 h.2.2.2.2.1 h.2.2.2.2.2 hw).2.1
theorem Mv.fits {v:Mv}{c:Nat}(h:v.Ok c):Fits v.nm v.ns c:=by
 cases v with
 | flip a =>
  have e:named "flip" [(a:Int)]=[(a:Int)]:=by unfold named;rw[if_neg (by decide +kernel)]
  have h:a<c:=h
  exact⟨⟨(show numAt NB "flip"=some (.int ((1:Nat):Int)) by decide +kernel),(show 1<=3 by decide),λz=>absurd (show ("flip":Str)="turn" from z) (by decide +kernel)⟩,by show ∀ x∈named "flip" [(a:Int)],_;rw[e];intro b hb;rw[q1e.mp hb];omega,by show (named "flip" [(a:Int)]).Nodup;rw[e];simp⟩
 | turn a k =>
  have e:named "turn" [(a:Int),(k:Int)]=[(a:Int)]:=by unfold named;rw[if_pos rfl];rfl
  have h:a<c/\1<=k/\k<=7:=h
  exact⟨⟨(show numAt NB "turn"=some (.int ((2:Nat):Int)) by decide +kernel),(show 2<=3 by decide),λ_=>⟨a,k,Z,by omega,by omega⟩⟩,by show ∀ x∈named "turn" [(a:Int),(k:Int)],_;rw[e];intro b hb;rw[q1e.mp hb];omega,by show (named "turn" [(a:Int),(k:Int)]).Nodup;rw[e];simp⟩
 | iff a b =>
  have e:named "if" [(a:Int),(b:Int)]=[(a:Int),(b:Int)]:=by unfold named;rw[if_neg (by decide +kernel)]
  have h:a<c/\b<c/\a≠b:=h
  exact⟨⟨(show numAt NB "if"=some (.int ((2:Nat):Int)) by decide +kernel),(show 2<=3 by decide),λz=>absurd (show ("if":Str)="turn" from z) (by decide +kernel)⟩,by show ∀ x∈named "if" [(a:Int),(b:Int)],_;rw[e];intro x hx;simp at hx;omega,by show (named "if" [(a:Int),(b:Int)]).Nodup;rw[e];simp;omega⟩
 | pair a b =>
  have e:named "pair" [(a:Int),(b:Int)]=[(a:Int),(b:Int)]:=by unfold named;rw[if_neg (by decide +kernel)]
  have h:a<c/\b<c/\a≠b:=h
  exact⟨⟨(show numAt NB "pair"=some (.int ((2:Nat):Int)) by decide +kernel),(show 2<=3 by decide),λz=>absurd (show ("pair":Str)="turn" from z) (by decide +kernel)⟩,by show ∀ x∈named "pair" [(a:Int),(b:Int)],_;rw[e];intro x hx;simp at hx;omega,by show (named "pair" [(a:Int),(b:Int)]).Nodup;rw[e];simp;omega⟩
 | swap a b =>
  have e:named "swap" [(a:Int),(b:Int)]=[(a:Int),(b:Int)]:=by unfold named;rw[if_neg (by decide +kernel)]
  have h:a<c/\b<c/\a≠b:=h
  exact⟨⟨(show numAt NB "swap"=some (.int ((2:Nat):Int)) by decide +kernel),(show 2<=3 by decide),λz=>absurd (show ("swap":Str)="turn" from z) (by decide +kernel)⟩,by show ∀ x∈named "swap" [(a:Int),(b:Int)],_;rw[e];intro x hx;simp at hx;omega,by show (named "swap" [(a:Int),(b:Int)]).Nodup;rw[e];simp;omega⟩
 | cross a b d =>
  have e:named "cross" [(a:Int),(b:Int),(d:Int)]=[(a:Int),(b:Int),(d:Int)]:=by unfold named;rw[if_neg (by decide +kernel)]
  have h:a<c/\b<c/\d<c/\a≠b/\a≠d/\b≠d:=h
  exact⟨⟨(show numAt NB "cross"=some (.int ((3:Nat):Int)) by decide +kernel),(show 3<=3 by decide),λz=>absurd (show ("cross":Str)="turn" from z) (by decide +kernel)⟩,by show ∀ x∈named "cross" [(a:Int),(b:Int),(d:Int)],_;rw[e];intro x hx;simp at hx;omega,by show (named "cross" [(a:Int),(b:Int),(d:Int)]).Nodup;rw[e];simp;omega⟩
end K64
namespace L2
def Gath (s:U7)(P:Nat->Value->Prop)(n:Nat)(q:Result)(s':U7):Prop:=q=.ok (.ret (.ref s.heap.objs.size))/\∃ h' tk,s'={ s with heap:=h',toks:=tk }/\(∀ b o,s.heap.get? b=some o->h'.get? b=some o) ∧
 ∃ acc c,ItemsOf P acc n/\h'.get? s.heap.objs.size=some { cls:=.type "list",dict:=none,data:=.seq acc c,slots:=#[] }
theorem gather {prog:U8}{w:W1}{A:W6}{E:U2}{s:U7}{T:String}{r d:W9}{n:Nat}{P:Nat->Value->Prop}{OK:Heap->Prop}{R:List Value->Shared->Prop}(K:PySem.W.KdlSrc prog w T r d n P OK)(hh:A.handled=none)(hok:OK s.heap)(hn:n<=sizeLine)
  (h:∀ (h':Heap) (tk:Nat) (acc:U9),(∀ b o,s.heap.get? b=some o->h'.get? b=some o)->s.heap.objs.size<h'.objs.size->ItemsOf P acc n->R acc.toList { s with heap:=h',toks:=tk }):wpAny (model prog w) A (collect (.ref r)) R E s:=by
 obtain⟨l1,l2⟩:=K.there _ hok
 have up:∀ b o,s.heap.get? b=some o->(s.heap.push { cls:=.type "list",data:=.seq ([]:U5).toArray }).get? b=some o:=λb o e=>q0c _ e
 have grown:=PySem.W.kdl_extend (A:=A) (s:={ s with heap:=s.heap.push { cls:=.type "list",data:=.seq ([]:U5).toArray } }) (R:=Gath s P n) K hh (K.keep _ _ hok λb _=>up b) s.heap.objs.size (q2y l1) (q2y l2) (.ref s.heap.objs.size) 0
  (q0m _ rfl) (λh' tk acc c hk hS hI=>⟨Z,h',tk,Z,λb o e=>hk b o (q0r (q0e e)) (up b o e),acc,c,hI,hS⟩) hn
 unfold collect;refine q0b (wpAny_runValue (q8c entry_proto_collect' ?_));rw[Around.under_plainId PySem.F.plain_proto_collect _]
 show wpAny _ A.in1 (newList [] >>= λl=>again (.builtin "list.__iadd__" ⟨[l,.ref r],[]⟩)) _ _ s;refine q0b (q1t (q0g ⟨plainId_quiet q7h _,q8c entry_list_iadd' ?_⟩))
 rw[Around.under_plainId q7h _];refine q1i grown (λf s' x=>?_) λe s' x=>by cases x.1
 cases f with
 | done f =>
  obtain⟨e,h',tk,rfl,hk,acc,c,hI,hS⟩:=x
  cases e
  exact q0b (wpAny_load hS (q0g (h h' tk acc hk (q0e hS) hI)))
 | again c =>
  refine⟨x.1,q3n x.2 λq s2 y=>?_⟩
  obtain⟨rfl,h',tk,rfl,hk,acc,c,hI,hS⟩:=y
  exact q0b (wpAny_load hS (q0g (h h' tk acc hk (q0e hS) hI)))
end L2
namespace Dk
open PySem.Sem (wp)
def Raw (h:Heap)(d:W9)(es:Array DictEntry)(ep:Nat):Prop:=∃ o,h.get? d=some o/\o.ExactDict/\o.data=.dict es ep
theorem Raw.at {h h':Heap}{d:W9}{es:Array DictEntry}{ep:Nat}(x:Raw h d es ep)(e:∀ o,h.get? d=some o->h'.get? d=some o):Raw h' d es ep:=let ⟨o,q,r⟩:=x;⟨o,e o q,r⟩
theorem Raw.type {s:U7}{d:W9}{es:Array DictEntry}{ep:Nat}(x:Raw s.heap d es ep):s.TypeIs (.ref d) "dict":=let ⟨o,q,r,_⟩:=x;⟨o,q,r.1⟩
section
variable {prog:U8}{w:W1}{A:W6}{E:U2}{s:U7}{d it:W9}{es:Array DictEntry}{i ep:Nat}
theorem iter {Q:U2}(lo:(d == sysModules)=false)(x:Raw s.heap d es ep)(q:Q (.ref s.heap.objs.size) { s with heap:=s.heap.push { cls:=.type "dict_keyiterator",data:=.fields #[.ref d,.int 0 0,.int es.size 0,.int ep 0] } }) :
  wpAny (model prog w) A (pyIter (.ref d)) Q E s:=by
 have ty:=x.type
 obtain⟨o,ho,hc,hd⟩:=x
 refine wpAny_pyIter_slot ty F.slot_dict_iter (q3u F.slot_dict_iter ty F.entry_dict_iter ?_ (F.args_dict_iter_1 _))
 unfold Builtin.«dict.__iter__» Builtin.Dict.dictSlotNone Builtin.Dict.showsAll
 refine q0b (q0b (wpAny_notOrdered_dict ty (q0g ?_)));refine q0b (m:=Builtin.Dict.addrOf (Value.ref d)) (q0g ?_);rw[if_neg (show ¬ ((d == sysModules)=true) by rw[lo];decide)]
 refine q0b (q0g (q0b (wpAny_dictEntries ho hd (q0b (wpAny_dictEpoch ho hd (q0b (q1t (q0g ⟨_,Z,"dict_keyiterator",_,⟨_,q0m _ rfl,Z⟩,F.slot_dict_keyiterator_next.lookup,?_⟩))))))))
 simpa [rawInt] using q
theorem step {Q:Option Value->Shared->Prop}(hh:es[i]?=none->A.handled=none)(hi:s.heap.IsKeyIter it d i es.size ep)(x:Raw s.heap d es ep)
  (go:∀ (hlt:i<es.size) h',h'.IsKeyIter it d (i+1) es.size ep->Heap.SameBut it s.heap h'->Q (some es[i].key) { s with heap:=h' })
  (stop:∀ h',es.size<=i->Heap.ExtBut it s.heap h'->Q none { s with heap:=h' }):wpAny (model prog w) A (pyNext (.ref it)) Q E s:=by
 have ty:=hi.typeIs
 obtain⟨o,ho,hc,hd⟩:=id hi
 obtain⟨od,hod,hcd,hdd⟩:=x
 unfold pyNext;refine q0b (q5y (q3q (name:=Str.ofString "__next__") ty F.slot_dict_keyiterator_next (q3u F.slot_dict_keyiterator_next ty F.entry_dict_keyiterator_next ?_ (F.args_dict_keyiterator_next_1 _))))
 refine q0b (q0g (q0b (q0b ?_)))
 first | refine q0b (q3t ty (q0g (q0b (wpAny_fieldsOf ho hd ?_)))) | refine q0b (q4z ty (q0g (q0b (wpAny_fieldsOf ho hd ?_))))
 simp only[show Builtin.Dict_items.ownsTuple "dict_keyiterator"=false by decide,q2s,q4u]
 show wpAny _ _ (if (Value.ref d == Value.none)=true then _ else _) _ _ s;rw[if_neg (show ¬ ((Value.ref d == Value.none)=true) from q0p)]
 refine q0b (q0g (q0b (wpAny_dictEntries hod hdd ?_)));rw[if_neg (by simp)]
 refine q0b (q0g (q0b (wpAny_dictEpoch hod hdd ?_)));rw[if_neg (by simp)]
 refine q0g ?_
 rcases Nat.lt_or_ge i es.size with c | c
 ·simp only[show ¬ ((i:Int)<0) by omega,q4u,q1o,Array.getElem?_eq_getElem c]
  refine q0b ?_
  first | refine q0b (q3t ty (q0g (q0b (q5q ty ?_)))) | refine q0b (q4z ty (q0g (q0b (q5q ty ?_))))
  show wpAny _ _ (setField (.ref it) 1 (rawInt ((i:Int)+1)) >>= _) _ _ s;refine q0b (q3x ho hd (by simp) ?_)
  have h2:(s.heap.update it (Obj.mapFields (·.setIfInBounds 1 (rawInt ((i:Int)+1))))).IsKeyIter it d (i+1) es.size ep:=⟨_,q1v _ ho (Obj.isFreed_of_fields (Obj.data_mapFields hd _)),(Obj.cls_mapFields ..).trans hc,by rw[Obj.data_mapFields hd];simp[rawInt]⟩
  refine q0b (q1w (q0b (q5q (s:={ s with heap:=s.heap.update it (Obj.mapFields (·.setIfInBounds 1 (rawInt ((i:Int)+1)))) }) h2.typeIs ?_)))
  exact q0g (q0g ⟨_,Z,q0g (go c _ h2 (Heap.SameBut.update ..))⟩)
 ·have h0:=hh (q7x c)
  simp only[show ¬ ((i:Int)<0) by omega,q4u,q1o,q7x c]
  refine q0b ?_
  first | refine q0b (q3t ty (q0g ?_)) | refine q0b (q4z ty (q0g ?_))
  show wpAny _ _ (setField (.ref it) 0 .none >>= _) _ _ s;refine q0b (q3x ho hd (by simp) ?_)
  show wpAny _ _ (newExc (.type "StopIteration") [] >>= _) _ _ _;refine q0b ?_
  simp only[newExc,newTuple];refine q0b (q1t ?_ (by size_fits));refine q0b (m:=firstArgMember _ _) (wpAny_of_eq (a:=Value.none) (by first | rfl | (simp only[firstArgMember];rfl)) ?_)
  refine q1t ?_ (by size_fits);simp only[raiseNew];refine q0b (wpAny_handled ?_);rw[show A.in1.handled=none from h0]
  refine q0b (q0g (wpAny_throw ?_));refine q0b (wpAny_isInstance (T:="StopIteration") (b:=true) ⟨_,q0m _ rfl,Z⟩ isSubtype_stop ?_)
  exact q0g (stop _ c (((Heap.SameBut.update ..).extBut.push _).push _))
theorem walks (hh:A.handled=none)(I d:W9)(hne:d≠I)(es:Array DictEntry)(ep:Nat) :
  Walks prog w A I [I,d] [I] es.size (λi v=>∃ e,es[i]?=some e/\v=e.key) (λi h=>h.IsKeyIter I d i es.size ep/\Raw h d es ep) where
 sub:=λb hb=>by simp at hb;simp[hb]
 frame:=λ_ _ _ st hk=>⟨st.1.at λo e=>hk I (by simp) o e,st.2.at λo e=>hk d (by simp) o e⟩
 item:=λi s Q E hi st hQ=>step (λ_=>hh) st.1 st.2 (λc h' k' sb=>hQ _ h' s.toks ⟨es[i],by simp[c],rfl⟩ ⟨k',st.2.at λo e=>sb.extBut _ _ hne e⟩ λb o hb e=>sb.extBut b o (λz=>hb (by simp[z])) e) λh' c _=>absurd hi (by omega)
 done:=λs Q E st hQ=>step (λ_=>hh) st.1 st.2 (λc=>absurd c (q2x _)) λh' c eb=>hQ h' s.toks λb o hb e=>eb b o (λz=>hb (by simp[z])) e
 self:=λ_ _ _ _ st hQ=>wpAny_pyIter_keyiter st.1 hQ
theorem src (lo:(d == sysModules)=false):PySem.W.KdlSrc prog w "dict" d d es.size (λi v=>∃ e,es[i]?=some e/\v=e.key) (λh=>Raw h d es ep) where
 type:=λ_ hm=>hm.type
 there:=λ_ hm=>let ⟨_,ho,_⟩:=hm;⟨q0e ho,q0e ho⟩
 keep:=λ_ _ hm hk=>hm.at λo e=>hk d (.inl rfl) o e
 notList:=by decide
 notTuple:=by decide
 hint:=λ_ _ _ _ hm hq=>PySem.W.kdl_hint_dict hm.type hq
 iter:=λ_ s hh hm=>⟨_,_,(λ_ _ hq=>iter lo hm hq),walks hh _ d (let ⟨_,ho,_⟩:=hm;q0r (q0e ho)) es ep,⟨⟨_,q0m _ rfl,Z,Z⟩,hm.at λo e=>q0c _ e⟩⟩
end
end Dk
namespace L2
end L2
namespace L2
end L2
namespace L2
def Ite (K:U0)(l:W9):It :=
 ⟨λi H=>∃ xs x,SqL K H l xs/\xs[i]?=some x,
 λi H v H'=>∃ T x,v=.ref T/\H T=none/\H'=upd H T (.tup [.int i,x])/\∀ xs,SqL K H l xs->xs[i]?=some x,
 λi H=>∃ xs,SqL K H l xs/\xs.length<=i⟩
theorem Y3q {P:U8}{w:W1}{K:U0}{es:List Expr}{kk:Nat}{tp:Pos}{e it l:W9}(ne:e≠it)(nl:l≠e) :
  Turn P w K (.Tuple es kk tp) (Ite K l) [e,it] e (λi h=>(∃ old,IsEnum h e it i old)/\h.IsListIter it l i) where
 mem:=by simp
 obj:=λi h st b hb=>by
  obtain⟨⟨old,a1⟩,o,a2,_,a3⟩:=st
  simp only[q0q,q0u,q2e] at hb
  rcases hb with rfl | rfl
  ·exact⟨_,a1,λv q=>by have q':Data.fields _=Data.cell v:=q;cases q'⟩
  ·exact⟨o,a2,λv z=>by rw[a3] at z;cases z⟩
 keep:=λi h h' st k=>by
  obtain⟨⟨old,a1⟩,a2⟩:=st
  exact⟨⟨old,k e (by simp) _ a1⟩,a2.at λo q=>k it (by simp) o q⟩
 item:=by
  intro X hP hw hK hc i pins s σ H E I hf st hg
  subst hP hw hK
  obtain⟨xs,x,q1,hx⟩:=hg
  obtain⟨⟨old,a1⟩,a2⟩:=st
  obtain⟨its,rv,p,hz⟩:=I.list q1
  obtain⟨vx,hvx,rx⟩:=rv.get hx
  refine wpAny_pyNext_enum_item a1 a2 p.isList (x:=vx) (by simpa using hvx) ne λh' b1 b2 b3 b4 b5=>?_
  refine⟨_,Z,wpAny_letOwnedTupleGo_enum b1 λh2 c1 sb=>?_⟩
  have zT:s.heap.objs.size≠e:=q2y (q0e a1)
  have k2:∀ b o,b ∉ [e,it]->s.heap.get? b=some o->h2.get? b=some o:=λb o hb q=>by
   simp only[q0q,q0u,q2e,not_or] at hb
   exact sb.extBut b o hb.1 (b5 b o hb.1 hb.2 q)
  have hT:IsTup h2 s.heap.objs.size ([.int i s.toks,vx]:U5).toArray:=⟨_,sb.extBut _ _ zT b3,Z,_,Z⟩
  refine⟨.ref s.heap.objs.size,upd H s.heap.objs.size (.tup [.int i,x]),I.turnedT (t':=s.toks+1) k2 hf (q0f _) (.cons ⟨_,Z⟩ (.cons rx .nil)) (by show 2<=sizeLine;decide) hT,Z,⟨_,x,Z,I.hok.fresh (q0f _),Z,λxs' h1=>?_⟩,⟨⟨vx,?_⟩,?_⟩,λb hb=>?_⟩
  ·rw[I.list_inj h1 q1];exact hx
  ·exact_mod_cast c1
  ·exact b2.at λo q=>sb.extBut _ _ ne.symm q
  ·have hlt:b<s.heap.objs.size:=by
    simp only[q0q,q0u,q2e] at hb
    rcases hb with rfl | rfl
    ·exact q0e a1
    ·obtain⟨o,q,_⟩:=a2;exact q0e q
   rw[Z0t (q0r hlt)]
   exact(hf b hb).1
 done:=by
  intro X hP hw hK hc i pins s σ H E I hf st hg
  subst hP hw hK
  obtain⟨xs,q1,hend⟩:=hg
  obtain⟨⟨old,a1⟩,a2⟩:=st
  obtain⟨its,rv,p,hz⟩:=I.list q1
  have e1:=rv.length
  refine wpAny_pyNext_enum_end (I.ok.hd hc) a1 a2 p.isList (by simp;omega) λh' eb=>⟨Z,I.turnedL (t':=s.toks) (ch:=[e,it]) (λb o hb q=>?_) hf⟩
  simp only[q0q,q0u,q2e,not_or] at hb
  exact eb b o hb.2 q
 self:=λ_ _ _ _ _ st h=>by
  obtain⟨⟨old,a1⟩,_⟩:=st
  exact wpAny_pyIter_enum a1 h
section
variable {X:Cx}{es:List Expr}{kk:Nat}{tp:Pos}
def iEnum (K:U0)(ta:TA):TI:=λσ H R=>ta σ H λvs H1=>∃ l xs,vs=[.ref l]/\SqL K H1 l xs/\R (Ite K l) H1
theorem Y0e {a:Expr}{ta:TA}{p pos:Pos}(hg:Gl X "enumerate")(hm:X.mg "enumerate"=none)(ha:PA X [a] ta)(hs:starEach [a] X.env=[(false,eval a X.env)]:=by rfl) :
  PI X (.Tuple es kk tp) (.Call (.Name "enumerate" p) [a] [] pos) (iEnum X.K ta):=by
 intro pins s σ H R I h
 refine Call_ (Z5k I hg hm boot_enumerate (PyProof.Rows.callWith_type1 (thn (ha pos pins s σ H _ I h) λus s1 ⟨vs,H1,I1,r1,q1⟩=>?_) (by rw[hs];rfl) (by rfl)))
 obtain⟨l,xs,e,h1,q⟩:=q1
 subst e
 cases r1 with
 | cons r rr =>
  cases rr
  cases r
  obtain⟨its,rv,pl,hz⟩:=I1.list h1
  refine call_enumerate_list pl.isList λh' z1 z2 z3 zk=>?_
  have I2:Inv X pins σ H1 { s1 with heap:=h' }:=I1.kept (t':=s1.toks) zk
  have lt1:l<s1.heap.objs.size:=by obtain⟨o,q,_⟩:=pl.isList;exact q0e q
  refine wpAny_pyIter_enum z1 ⟨_,[s1.heap.objs.size+1,s1.heap.objs.size],_,_,H1,Z,I2,Y3q (Nat.succ_ne_self _) (q0r (q3a lt1)),⟨⟨_,z1⟩,z2⟩,λb hb=>?_,q⟩
  have hge:s1.heap.objs.size<=b:=by
   simp only[q0q,q0u,q2e] at hb
   rcases hb with rfl | rfl
   ·exact Nat.le_succ _
   ·exact q0f _
  exact I1.fpOk hge (I1.hok.fresh hge)
end
theorem Y2g {K:U0}{a:W9}{xs:List V}{g:TG}{tb:TS}{D:Ends}{σ:St}{H:Hp}(Pv:Nat->St->Hp->Prop)(h0:Pv 0 σ H)(hl:∀ i σ H,i<=xs.length->Pv i σ H->SqL K H a xs)
  (hs:∀ i x σ H T,xs[i]?=some x->Pv i σ H->H T=none->g (.ref T) σ (upd H T (.tup [.int i,x])) λσ2 H2=>tb { D with nx:=Pv (i+1),ct:=Pv (i+1),bk:=D.nx } σ2 H2) (hd:∀ σ H,Pv xs.length σ H->D.nx σ H) :
  ∃ W:Nat->Nat->St->Hp->Prop,(∃ m,W 0 m σ H)/\∀ i m σ H,W i m σ H →
   ((Ite K a).stop i H/\D.nx σ H)∨((Ite K a).go i H/\∃ N:St->Hp->Prop,(∀ σ' H',N σ' H'->∃ m',m'<m/\W (i+1) m' σ' H')/\∀ x H',(Ite K a).yld i H x H'->g x σ H' λσ2 H2=>tb { D with nx:=N,ct:=N,bk:=D.nx } σ2 H2):=by
 refine⟨λi m σ H=>m=xs.length-i/\i<=xs.length/\Pv i σ H,⟨xs.length,by simp,q1d _,h0⟩,?_⟩
 rintro i m σ H ⟨rfl,hi,p⟩
 have q:=hl i σ H hi p
 by_cases hlt:i<xs.length
 ·refine .inr ⟨⟨xs,xs[i],q,by simp[hlt]⟩,Pv (i+1),λσ' H' p'=>⟨xs.length-(i+1),by omega,Z,hlt,p'⟩,λv H' y=>?_⟩
  obtain⟨T,x,rfl,hT,rfl,y⟩:=y
  exact hs i x σ H T (y xs q) p hT
 ·have e:i=xs.length:=by omega
  subst e
  exact .inl ⟨⟨xs,q,q0f _⟩,hd σ H p⟩
end L2
namespace L2
theorem Y9e {K:U0}{l:W9}{ns:U6}{tc:TT}{te:TE}{fr:St}{H1:Hp}{acc:W9}{Q:VK}(p:Int->Bool)(f:Int->Int)(hn:ns.length<=sizeLine)(hacc:H1 acc=none)(hl:SqL K H1 l (ns.map V.int))
  (hs:∀ n H (N:Bool->Hp->Prop),n∈ns->Same H1 H->N (p n) H->tc (some (.int n)::fr) H N)
  (ht:∀ n H (N:V->Hp->Prop),n∈ns->p n=true->Same H1 H->N (.int (f n)) H->te (some (.int n)::fr) H N)
  (hd:∀ H2,Same H1 H2->H2 acc=some (.lst (((ns.filter p).map f).map V.int))->Q (.ref acc) H2):LcWF (Itl K l) (gName 0) tc te (none::fr) H1 acc Q:=by
 refine⟨λi m zs σ2 H2=>m=ns.length-i/\i<=ns.length/\(∃ v,σ2=v::fr)/\Same H1 H2/\H2 acc=some (.lst zs)/\zs=(((ns.take i).filter p).map f).map V.int,⟨ns.length,by simp,q1d _,⟨_,Z⟩,Z0f hacc _,Z0c,by simp⟩,?_⟩
 rintro i m zs σ2 H2 ⟨rfl,hi,⟨v,rfl⟩,s2,a2,e2⟩
 by_cases hlt:i<ns.length
 ·have e1:ns[i]?=some ns[i]:=by simp[hlt]
  have e3:(ns.map V.int)[i]?=some (.int ns[i]):=by rw[q0n,e1];rfl
  have zl:zs.length<=i:=by
   rw[e2,q0a,q0a]
   exact q1m (q4e _ _) (by rw[q3v];omega)
  have mem:ns[i]∈ns:=q3w hlt
  refine .inr ⟨⟨_,_,s2.seq hl,e3⟩,λu H3 y3=>?_⟩
  obtain⟨rfl,y4⟩:=y3
  have:=y4 _ (s2.seq hl)
  rw[e3] at this
  cases this
  refine hs ns[i] _ _ mem s2 ⟨λhp=>ht ns[i] _ _ mem hp s2 ⟨a2,by omega,ns.length-(i+1),by omega,Z,hlt,⟨_,Z⟩,Z1a s2 hacc,Z0c,?_⟩,λhp=>⟨ns.length-(i+1),by omega,Z,hlt,⟨_,Z⟩,s2,a2,?_⟩⟩
  ·rw[q1f,e1,q3g,q3i,q0k,q0k,e2]
   simp[hp]
  ·rw[q1f,e1,q3g,q3i,q0k,q0k,e2]
   simp[hp]
 ·have e:i=ns.length:=by omega
  subst e
  exact .inl ⟨⟨_,s2.seq hl,by rw[q0a];exact q0f _⟩,hd H2 s2 (by rw[a2,e2,q2a])⟩
end L2
namespace K64
open L2 Am Pc Ba
theorem or_i (x y:Nat):Builtin.bitOr (x:Int) (y:Int)=((x ||| y:Nat):Int):=by
 have h:Builtin.bitXor (x:Int) (y:Int)=Builtin.bitOr x y-Builtin.bitAnd x y:=rfl
 rw[Z9y,Z5n] at h
 have e:=X3g (x+y+1) x y (by omega) (by omega)
 omega
theorem Y9c {K:U0}{l:W9}{g:TG}{xs:List V}{te:TE}{fr:L2.St}{H1:Hp}{acc:W9}{Q:VK}(Pv:Nat->List V->Hp->Prop)(hn:xs.length<=sizeLine)(h0:Pv 0 [] (upd H1 acc (.lst [])))
  (hl:∀ i ys H,Pv i ys H->SqL K H l xs)
  (hg:∀ {a:W9}{x y:V}{w1 w2:Option V}{H:Hp}{Q:L2.St->Hp->Prop},H a=some (.tup [x,y])->Q (some x::some y::fr) H->g (.ref a) (w1::w2::fr) H Q)
  (hs:∀ i x ys H (T:W9) (N:V->Hp->Prop),xs[i]?=some x->ys.length=i->Pv i ys H->H T=none->(∀ y H5,H5 acc=some (.lst ys)->Pv (i+1) (ys++[y]) (upd H5 acc (.lst (ys++[y])))->N y H5)->te (some (.int i)::some x::fr) (upd H T (.tup [.int i,x])) N)
  (hd:∀ ys H,ys.length=xs.length->Pv xs.length ys H->Q (.ref acc) H):LcW (Ite K l) g te (none::none::fr) H1 acc Q:=by
 refine⟨λi m zs σ2 H2=>m=xs.length-i/\i<=xs.length/\zs.length=i/\(∃ v w,σ2=v::w::fr)/\Pv i zs H2,⟨xs.length,by simp,q1d _,Z,⟨_,_,Z⟩,h0⟩,?_⟩
 rintro i m zs σ2 H2 ⟨rfl,hi,zl,⟨v,w,rfl⟩,p⟩
 have sl:=hl i zs H2 p
 by_cases hlt:i<xs.length
 ·have e1:xs[i]?=some xs[i]:=by simp[hlt]
  refine .inr ⟨⟨xs,_,sl,e1⟩,λu H3 y3=>?_⟩
  obtain⟨T,x,rfl,hT,rfl,h1⟩:=y3
  have hx:=h1 xs sl
  refine hg (x:=.int i) (y:=x) Z0c (hs i x zs H2 T _ hx zl p hT λy H5 a5 p5=>⟨a5,by omega,xs.length-(i+1),by omega,Z,hlt,by simp[zl],⟨_,_,Z⟩,p5⟩)
 ·have e:i=xs.length:=by omega
  subst e
  exact .inl ⟨⟨xs,sl,q0f _⟩,hd zs H2 zl p⟩
def spExch:Sp:=λvs H Q _=>∃ w a b:Nat,vs=[.int w,.int ((2^a:Nat):Int),.int ((2^b:Nat):Int)]/\∀ H',Same H H'->Q (.int (exch w a b:Nat)) H'
def Y1l:Sp:=λvs H Q _=>∃ (w:Nat) (p:W9) (v:Mv) (c:Nat),vs=[.int w,.ref p]/\H p=some (MvT v.nm v.ns)/\v.Ok c/\c<=6/\v.nm≠"turn"/\v.nm≠"pair"/\∀ H',Same H H'->Q (.int (v.to w:Nat)) H'
structure Bo (K:U0) (H:Hp) (l:W9) (ps:U3) (f:Nat->A5) (c:Nat):Prop where
 lst:H l=some (.lst (ps.map V.ref))
 len:ps.length=2^c
 vals:ValsK K H ps f
theorem Bo.same {K:U0}{H H':Hp}{l:W9}{ps:U3}{f:Nat->A5}{c:Nat}(b:Bo K H l ps f c)(s:Same H H'):Bo K H' l ps f c:=⟨s _ _ b.lst,b.len,b.vals.same s⟩
theorem Bo.at {K:U0}{H:Hp}{l:W9}{ps:U3}{f:Nat->A5}{c i:Nat}(b:Bo K H l ps f c)(hi:i<2^c):∃ p,ps[i]?=some p/\At5 K H p (f i)/\atI (ps.map V.ref) (i:Int)=some (.ref p):=by
 have hl:i<ps.length:=by rw[b.len];exact hi
 refine⟨ps[i],q0d hl,b.vals i _ (q0d hl),Z1y (by rw[q0n,q0d hl];rfl)⟩
def Y1d (K:U0):Sp:=λvs H Q _=>∃ (l:W9) (ps:U3) (f:Nat->A5) (c bits:Nat) (k:Int),vs=[.ref l,.int bits,.int k]/\Bo K H l ps f c/\c<=6 ∧
 ∀ (r:W9) (H':Hp) (qs:U3) (g:Nat->A5),H r=none->Same H H'->Bo K H' r qs g c->(∀ w,w<2^c->g w=if w&&&bits=bits then spin (f w) k else f w)->Q (.ref r) H'
theorem inV2 (x a b:Int):inV (.int x) [.int a,.int b]=(decide (a=x) || decide (b=x)):=by
 unfold inV
 simp only[q5j,List.any_nil,Bool.or_false,eqV]
 rfl
section
variable {P:U8}{w:W1}{K:U0}{mg:U4}{base:Heap}{k:Nat}{h:Heap}
theorem sc_exch:FnScope ["word","bit","other","both"] ["word","bit","other"] (Z0h (top 42)):=fS
theorem X3w (F:FunAt K "exchanged" (top 42) .none)(X:K.In h)(G:Ng h mg):Cal P w K mg base (k+1) "exchanged" ["word","bit","other"] spExch:=by
 have nd:=sc_exch.nd
 refine F.cal X G sc_exch (bnd3 λ_ _ _ _ _ _ _ _ _=>rfl) (λvs H Q E h=>?_) (λf cdv A outer s H vs Q E hr h=>?_)
 ·obtain⟨w,a,b,rfl,_⟩:=h;rfl
 obtain⟨x,a,b,rfl,q⟩:=h
 refine⟨_,(@Z0e _ _ _ _ _ (@Z0o _ _ 3 _ _ _ _ nd rfl (Or.inl rfl) (Z0i Z9e (pv 1) (pv 2)) rfl (.inl rfl))
  (@Z0g _ _ _ (Z0l (Z2p (Z0q Y5b (Z0i Z1n (pv 0) (pv 3)) (@Z0y _ _ _ _ _ (Z0a (pv 1) (Z0a (pv 2) Z0d))) rfl) (Z0i Z3p (pv 0) (pv 3)) (pv 0))))),?_⟩
 try dsimp only[cxK]
 refine⟨_,Z,_,Z,_,_,Z,Z,?_⟩
 refine⟨_,Z,_,Z,_,_,Z,Z,_,Z,_,Z,t2,λtp htp=>?_⟩
 refine⟨tp,_,Z,.inr (SqT.of Z0c),Z,Z,_,Z,?_⟩
 have s1:=Z0f htp (.tup [.int ((2^a:Nat):Int),.int ((2^b:Nat):Int)])
 have q1:=q _ s1
 unfold exch at q1
 show if (inV (.int (Builtin.bitAnd (x:Int) (Builtin.bitOr ((2^a:Nat):Int) ((2^b:Nat):Int)))) [.int ((2^a:Nat):Int),.int ((2^b:Nat):Int)])=true then _ else _
 rw[or_i,Z5n,inV2]
 by_cases c:x&&&(2^a ||| 2^b)=2^a∨x&&&(2^a ||| 2^b)=2^b
 ·rw[if_pos (by rw[q3m,q1n,q1n];omega)]
  rw[if_pos c] at q1
  refine⟨_,Z,_,Z,_,_,Z,Z,?_⟩
  show Q (.int (Builtin.bitXor (x:Int) (Builtin.bitOr ((2^a:Nat):Int) ((2^b:Nat):Int)))) _
  rw[or_i,Z9y]
  exact q1
 ·rw[if_neg (by rw[q3m,q1n,q1n];omega)]
  rw[if_neg c] at q1
  exact⟨_,Z,q1⟩
theorem sc_behind:FnScope ["word","move","bits"] ["word","move"] (Z0h (top 41)):=fS
theorem Y5m (F:FunAt K "word_behind" (top 41) .none)(X:K.In h)(G:Ng h mg)(cI:Cal P w K mg base k "named_cells" ["move"] Y0a)(cF:Cal P w K mg base k "exchanged" ["word","bit","other"] spExch) :
  Cal P w K mg base (k+1) "word_behind" ["word","move"] Y1l:=by
 have nd:=sc_behind.nd
 refine F.cal X G sc_behind (bnd2 λ_ _ _ _ _ _ _ _=>rfl) (λvs H Q E h=>?_) (λf cdv A outer s H vs Q E hr h=>?_)
 ·obtain⟨w,p,v,c,rfl,_⟩:=h;rfl
 obtain⟨x,p,v,c,rfl,hp,ok,c6,nt,np,q⟩:=h
 have FI:=Mv.fits ok
 have en:named v.nm v.ns=v.ns:=by unfold named;rw[if_neg nt]
 have hlen:v.ns.length<=3:=FI.form.len
 have low:∀ a∈v.ns,0<=a/\a<6:=λa ha=>by
  have:=FI.low a (by rw[en];exact ha)
  omega
 refine⟨_,(@Z0e _ _ _ _ _ (Z3x (i:=2) rfl nd rfl rfl (LcOk.of (Nc:=["cell"]) (mp:=[none]) (by kernel_rfl)) (Z9d (Z0n cI hr rfl (Z0a (pv 1) Z0d))) (λ_ _ _ _=>(Z0m (i:=0) (show (["cell"]:W0).Nodup by decide +kernel) rfl (Or.inl rfl))) (λ_ _ _ _=>(Z0i Z1x Z0b (pv 0))) rfl)
  (@Z0e _ _ _ _ _ (Z1b (Z0q Z1j (Z0k Z0j (pv 1) Z0b (λ_ _=>rfl)) Z1h (nomark _))
   (@Z0g _ _ _ (Z0l (Z0i Z3p (pv 0) (Z0k Z0w (pv 2) Z0b (λ_ _=>rfl)))))
   Z0r)
  (@Z0e _ _ _ _ _ (Z1b (Z0q Z1j (Z0k Z0j (pv 1) Z0b (λ_ _=>rfl)) Z1h (nomark _))
   (@Z0g _ _ _ (Z0l (Z0n cF hr rfl (Z0a (pv 0) (Z0a (Z0k Z0w (pv 2) Z0b (λ_ _=>rfl)) (Z0a (Z0k Z0w (pv 2) Z0b (λ_ _=>rfl)) Z0d))))))
   Z0r)
  (@Z0e _ _ _ _ _ (Z1b (Z1z (Z2l (Z0i Z1n (pv 0) (Z0k Z0w (pv 2) Z0b (λ_ _=>rfl))) (by intro _;rfl)))
   (@Z0g _ _ _ (Z0l (pv 0)))
   Z0r)
  (@Z0e _ _ _ _ _ (Z1b (Z0q Z1j (Z0k Z0j (pv 1) Z0b (λ_ _=>rfl)) Z1h (nomark _))
   (@Z0g _ _ _ (Z0l (Z0i Z3p (pv 0) (Z0k Z0w (pv 2) Z0b (λ_ _=>rfl)))))
   Z0r)
  (@Z0g _ _ _ (Z0l (Z0n cF hr rfl (Z0a (pv 0) (Z0a (Z0k Z0w (pv 2) Z0b (λ_ _=>rfl)) (Z0a (Z0k Z0w (pv 2) Z0b (λ_ _=>rfl)) Z0d))))))))))),?_⟩
 try dsimp only[cxK]
 refine⟨_,Z,p,v.nm,v.ns,Z,hp,FI.form,λr H1 S1 hr=>?_⟩
 rw[en] at hr
 refine⟨r,Z,⟨_,SqT.of hr⟩,λacc hacc=>?_⟩
 refine Z6i (K:=K) (λn=>.int (1*2^n.toNat)) (SqT.of hr) (t64 (by omega)) hacc (λn H2 N hn S2 kN=>⟨_,Z,_,_,Z,Z,⟨1,sz1,(low n hn).1,by have:=(low n hn).2;omega⟩,kN⟩) (λH3 S3 a3=>?_)
 have S03:=S1.trans S3
 have q3:=q H3 S03
 have SP:SqT K H3 p (.str v.nm::v.ns.map V.int):=SqT.of (S03 _ _ hp)
 have SL:SqL K H3 acc (v.ns.map λn=>V.int (1*2^n.toNat)):=SqL.of a3
 have ip:∀ a:Nat,(1:Int)*2^((a:Int)).toNat=((2^a:Nat):Int):=λa=>ipow a
 cases v with
 | flip a =>
  refine⟨_,Z,p,_,_,.str "flip",Z,Z,SP,at0,Z,_,Z,decI (λ_=>?_) (λz=>absurd rfl z)⟩
  refine⟨_,Z,_,Z,acc,_,_,.int (1*2^((a:Int)).toNat),Z,Z,SL,Z,_,_,Z,Z,?_⟩
  show Q (.int (Builtin.bitXor (x:Int) (1*2^((a:Int)).toNat))) H3
  rw[ip,Z9y]
  exact q3
 | turn a k=>exact absurd rfl nt
 | pair a b=>exact absurd rfl np
 | swap a b =>
  refine⟨_,Z,p,_,_,.str "swap",Z,Z,SP,at0,Z,_,Z,decI (λz=>absurd (V.str.inj z) (by decide +kernel)) (λ_=>?_)⟩
  refine⟨_,Z,p,_,_,.str "swap",Z,Z,SP,at0,Z,_,Z,decI (λ_=>?_) (λz=>absurd rfl z)⟩
  refine⟨_,Z,_,Z,acc,_,_,.int (1*2^((a:Int)).toNat),Z,Z,SL,Z,_,Z,acc,_,_,.int (1*2^((b:Int)).toNat),Z,Z,SL,Z,?_⟩
  exact⟨x,a,b,by show [V.int (x:Int),V.int (1*2^((a:Int)).toNat),V.int (1*2^((b:Int)).toNat)]=_;rw[ip,ip],λH4 S4=>q H4 (S03.trans S4)⟩
 | iff a b =>
  refine⟨_,Z,p,_,_,.str "if",Z,Z,SP,at0,Z,_,Z,decI (λz=>absurd (V.str.inj z) (by decide +kernel)) (λ_=>?_)⟩
  refine⟨_,Z,p,_,_,.str "if",Z,Z,SP,at0,Z,_,Z,decI (λz=>absurd (V.str.inj z) (by decide +kernel)) (λ_=>?_)⟩
  refine⟨_,Z,_,Z,acc,_,_,.int (1*2^((a:Int)).toNat),Z,Z,SL,Z,_,_,Z,Z,_,Z,?_⟩
  rw[ip,Z5n]
  have q4:Q (.int ((if x&&&2^a=0 then x else x^^^2^b:Nat):Int)) H3:=q3
  by_cases e:x&&&2^a=0
  ·rw[if_pos e] at q4
   rw[e]
   exact iteT ⟨_,Z,q4⟩
  ·rw[if_neg e] at q4
   rw[show ((((x&&&2^a:Nat):Int) != 0)=true) by simpa using e]
   refine iteF ⟨_,Z,p,_,_,.str "if",Z,Z,SP,at0,Z,_,Z,decI (λ_=>?_) (λz=>absurd rfl z)⟩
   refine⟨_,Z,_,Z,acc,_,_,.int (1*2^((b:Int)).toNat),Z,Z,SL,Z,_,_,Z,Z,?_⟩
   show Q (.int (Builtin.bitXor (x:Int) (1*2^((b:Int)).toNat))) H3
   rw[ip,Z9y]
   exact q4
 | cross a b d =>
  refine⟨_,Z,p,_,_,.str "cross",Z,Z,SP,at0,Z,_,Z,decI (λz=>absurd (V.str.inj z) (by decide +kernel)) (λ_=>?_)⟩
  refine⟨_,Z,p,_,_,.str "cross",Z,Z,SP,at0,Z,_,Z,decI (λz=>absurd (V.str.inj z) (by decide +kernel)) (λ_=>?_)⟩
  refine⟨_,Z,_,Z,acc,_,_,.int (1*2^((a:Int)).toNat),Z,Z,SL,Z,_,_,Z,Z,_,Z,?_⟩
  rw[ip,Z5n]
  have q4:∀ H',Same H H'->Q (.int ((if x&&&2^a=0 then x else exch x b d:Nat):Int)) H':=q
  by_cases e:x&&&2^a=0
  ·rw[if_pos e] at q4
   rw[e]
   exact iteT ⟨_,Z,q4 _ S03⟩
  ·rw[if_neg e] at q4
   rw[show ((((x&&&2^a:Nat):Int) != 0)=true) by simpa using e]
   refine iteF ⟨_,Z,p,_,_,.str "cross",Z,Z,SP,at0,Z,_,Z,decI (λz=>absurd (V.str.inj z) (by decide +kernel)) (λ_=>?_)⟩
   refine⟨_,Z,_,Z,acc,_,_,.int (1*2^((b:Int)).toNat),Z,Z,SL,Z,_,Z,acc,_,_,.int (1*2^((d:Int)).toNat),Z,Z,SL,Z,?_⟩
   exact⟨x,b,d,by show [V.int (x:Int),V.int (1*2^((b:Int)).toNat),V.int (1*2^((d:Int)).toNat)]=_;rw[ip,ip],λH4 S4=>q4 H4 (S03.trans S4)⟩
theorem X4d (v:Mv):v.nm≠"mix":=by
 cases v with
 | flip a=>exact(show ("flip":Str)≠"mix" by decide +kernel)
 | turn a k=>exact(show ("turn":Str)≠"mix" by decide +kernel)
 | iff a b=>exact(show ("if":Str)≠"mix" by decide +kernel)
 | pair a b=>exact(show ("pair":Str)≠"mix" by decide +kernel)
 | swap a b=>exact(show ("swap":Str)≠"mix" by decide +kernel)
 | cross a b d=>exact(show ("cross":Str)≠"mix" by decide +kernel)
theorem X4g {v:Mv}(h:v.nm="turn"):∃ a k,v=.turn a k:=by
 cases v with
 | flip a=>exact absurd h (show ("flip":Str)≠"turn" by decide +kernel)
 | turn a k=>exact⟨a,k,rfl⟩
 | iff a b=>exact absurd h (show ("if":Str)≠"turn" by decide +kernel)
 | pair a b=>exact absurd h (show ("pair":Str)≠"turn" by decide +kernel)
 | swap a b=>exact absurd h (show ("swap":Str)≠"turn" by decide +kernel)
 | cross a b d=>exact absurd h (show ("cross":Str)≠"turn" by decide +kernel)
theorem X4h {v:Mv}(h:v.nm="pair"):∃ a b,v=.pair a b:=by
 cases v with
 | flip a=>exact absurd h (show ("flip":Str)≠"pair" by decide +kernel)
 | turn a k=>exact absurd h (show ("turn":Str)≠"pair" by decide +kernel)
 | iff a b=>exact absurd h (show ("if":Str)≠"pair" by decide +kernel)
 | pair a b=>exact⟨a,b,rfl⟩
 | swap a b=>exact absurd h (show ("swap":Str)≠"pair" by decide +kernel)
 | cross a b d=>exact absurd h (show ("cross":Str)≠"pair" by decide +kernel)
theorem X2l {v:Mv}(h:v.nm≠"turn")(h':v.nm≠"pair")(w:Nat):v.sp w=0:=by
 cases v with
 | turn a k=>exact absurd rfl h
 | pair a b=>exact absurd rfl h'
 | flip a=>rfl
 | iff a b=>rfl
 | swap a b=>rfl
 | cross a b d=>rfl
theorem sc_where:FnScope ["board","bits","k"] ["board","bits","k"] (Z0h (top 40)):=fS
theorem Y8i (F:FunAt K "spun_where" (top 40) .none)(X:K.In h)(G:Ng h mg)(B:Bs mg)(cG:Cal P w K mg base k "spun" ["one","k"] (Z3b K)):Cal P w K mg base (k+1) "spun_where" ["board","bits","k"] (Y1d K):=by
 have nd:=sc_where.nd
 refine F.cal X G sc_where (bnd3 λ_ _ _ _ _ _ _ _ _=>rfl) (λvs H Q E h=>?_) (λf cdv A outer s H vs Q E hr h=>?_)
 ·obtain⟨l,ps,f,c,bits,k,rfl,_⟩:=h;rfl
 obtain⟨l,ps,g,c,bits,kk,rfl,BO,c6,kq⟩:=h
 have p6:=pow6 c6
 have SL:SqL K H l (ps.map V.ref):=SqL.of BO.lst
 have lps:(ps.map V.ref).length=2^c:=by rw[q0a,BO.len]
 refine⟨_,(@Z0g _ _ _ (Z0l (Z4i rfl (LcOk.of (Nc:=["word","one","bits","k"]) (mp:=[none,none,some 1,some 2]) (by kernel_rfl)) (Y0e rfl B.enumerate (Z0a (pv 0) Z0d)) (λ_ _ _ _=>(Z4t rfl (show (["word","one","bits","k"]:W0).Nodup by decide +kernel) rfl rfl rfl rfl)) (λ_ _ _ _=>(Z2p (Z0q Z1j (Z0i Z1n (pv 0) (pv 2)) (pv 2) (nomark _)) (Z0n cG hr rfl (Z0a (pv 1) (Z0a (pv 3) Z0d))) (pv 1)))))),?_⟩
 try dsimp only[cxK]
 refine⟨_,Z,l,_,Z,SL,λacc hacc=>?_⟩
 refine Y9c (K:=K) (l:=l) (xs:=ps.map V.ref) (fr:=[some (.int bits),some (.int kk)]) (λi ys H'=>∃ (qs:U3) (y:Nat->A5),Same H H'/\H' acc=some (.lst ys)/\ys=qs.map V.ref/\qs.length=i/\ValsK K H' qs y/\∀ j,j<i->y j=if j&&&bits=bits then spin (g j) kk else g j) (by rw[lps];exact t64 p6)
  ⟨[],λ_=>((0,0,0,0),0),Z0f hacc _,Z0c,Z,Z,(λ_ _ z=>by cases z),λj hj=>absurd hj (q3d _)⟩ (λi ys H' p=>by obtain⟨qs,y,s2,_⟩:=p;exact SqL.of (s2 _ _ BO.lst)) (λh q=>⟨_,_,Z,SqT.of h,Z,_,_,Z,_,_,Z,Z,q⟩) ?_ ?_
 ·rintro i x ys H2 T N hx hy ⟨qs,y,S2,a2,rfl,ql,v2,ok2⟩ hT kN
  rw[q0n] at hx
  obtain⟨p,hp,rfl⟩:=q0l.mp hx
  have pg:=(BO.vals i p hp).same S2
  have sT:=Z0f hT (.tup [.int i,.ref p])
  have fin:∀ (r:W9) (H5:Hp) (z:A5),Same (upd H2 T (.tup [.int i,.ref p])) H5->At5 K H5 r z->z=(if i&&&bits=bits then spin (g i) kk else g i)->N (.ref r) H5:=λr H5 z S5 hr hz=>by
   have S25:=sT.trans S5
   refine kN (.ref r) H5 (S25 _ _ a2) ⟨qs++[r],λj=>if j=qs.length then z else y j,Z1a (S2.trans S25) hacc,Z0c,by rw[q0k];rfl,by simp[ql],vals_upd (xs:=qs.map V.ref) (vals_push v2 S25 hr) (S25 _ _ a2),λj hj=>?_⟩
   show (if j=qs.length then z else y j)=_
   by_cases e:j=qs.length
   ·rw[if_pos e,hz,e,ql]
   ·rw[if_neg e]
    exact ok2 j (by omega)
  refine⟨_,Z,_,Z,_,_,Z,Z,_,Z,Z,_,Z,?_⟩
  show if decide (V.int (Builtin.bitAnd (i:Int) (bits:Int))=V.int (bits:Int))=true then _ else _
  rw[Z5n]
  by_cases e:i&&&bits=bits
  ·rw[q0t (by rw[e])]
   refine iteT ⟨_,Z,_,Z,p,_,_,_,_,_,_,Z,pg.same sT,λr H5 S5 hr=>fin r H5 (spin (g i) kk) S5 hr (by rw[if_pos e])⟩
  ·rw[q0j (λz=>e (by have:=V.int.inj z;omega))]
   exact iteF ⟨_,Z,fin p _ (g i) (Same.refl _) (pg.same sT) (by rw[if_neg e])⟩
 ·rintro ys H2 hy ⟨qs,y,S2,a2,rfl,ql,v2,ok2⟩
  rw[lps] at ql ok2
  exact kq acc H2 qs y hacc S2 ⟨a2,ql,v2⟩ ok2
noncomputable def wOk (c a w:Nat):Bool:=decide (w&&&2^a=0) == decide (w / 2^a%2=0) && if w / 2^a%2=0 then decide ((w ||| 2^a)=w+2^a) && decide (w+2^a<2^c) && decide ((w+2^a) / 2^a%2=1) else decide ((w^^^2^a)=w-2^a) && decide (2^a<=w) && decide ((w-2^a) / 2^a%2=0)
theorem X1u:((List.range 7).all λc=>(List.range c).all λa=>(List.range (2^c)).all λw=>wOk c a w)=true:=by decide +kernel
theorem wok {c a w:Nat}(hc:c<=6)(ha:a<c)(hw:w<2^c):wOk c a w=true :=
 q2l.mp (q2l.mp (q2l.mp X1u c (q1q.mpr (by omega))) a (q1q.mpr ha)) w (q1q.mpr hw)
theorem X1v {c a w:Nat}(hc:c<=6)(ha:a<c)(hw:w<2^c)(h:w / 2^a%2=0):w&&&2^a=0/\(w ||| 2^a)=w+2^a/\w+2^a<2^c/\(w+2^a) / 2^a%2=1:=by
 have:=wok hc ha hw
 unfold wOk at this
 rw[if_pos h,q0t h] at this
 simpa [and_assoc] using this
theorem X0i {c a w:Nat}(hc:c<=6)(ha:a<c)(hw:w<2^c)(h:¬ w / 2^a%2=0):w&&&2^a≠0/\(w^^^2^a)=w-2^a/\2^a<=w/\(w-2^a) / 2^a%2=0:=by
 have:=wok hc ha hw
 unfold wOk at this
 rw[if_neg h,q0j h] at this
 simpa [and_assoc] using this
structure Mix (s:Int) (x y z:A5):Prop where
 ex:∃ p:A5,Sum x.1.1 x.1.2.1 x.1.2.2.1 x.1.2.2.2 x.2 (s*y.1.1) (s*y.1.2.1) (s*y.1.2.2.1) (s*y.1.2.2.2) y.2 p.1.1 p.1.2.1 p.1.2.2.1 p.1.2.2.2 p.2 ∧
  Amt z.1.1 z.1.2.1 z.1.2.2.1 z.1.2.2.2 z.2/\Same4 (p.1.2.1-p.1.2.2.2) (p.1.1+p.1.2.2.1) (p.1.2.1+p.1.2.2.2) (p.1.2.2.1-p.1.1) (p.2+1) z.1.1 z.1.2.1 z.1.2.2.1 z.1.2.2.2 z.2
theorem X8q {x y:A5}(h:x.1.1=y.1.1/\x.1.2.1=y.1.2.1/\x.1.2.2.1=y.1.2.2.1/\x.1.2.2.2=y.1.2.2.2/\x.2=y.2):x=y:=by
 obtain⟨⟨a,b,c,d⟩,h1⟩:=x
 obtain⟨⟨a',b',c',d'⟩,h2⟩:=y
 obtain⟨rfl,rfl,rfl,rfl,rfl⟩:=h
 rfl
def MixAt (f:Nat->A5)(a w:Nat)(z:A5):Prop:=if w / 2^a%2=0 then Mix 1 (f w) (f (w+2^a)) z else Mix (-1) (f (w-2^a)) (f w) z
structure Bd5 (K:U0) (H:Hp) (l:W9) (ps:U3) (f:Nat->A5) (c n m:Nat):Prop where
 lst:H l=some (.lst (ps.map V.ref))
 len:ps.length=2^c
 vals:ValsK K H ps f
 ok:∀ i,i<2^c->Ok5 n m (f i)
theorem Bd5.same {K:U0}{H H':Hp}{l:W9}{ps:U3}{f:Nat->A5}{c n m:Nat}(b:Bd5 K H l ps f c n m)(s:Same H H'):Bd5 K H' l ps f c n m:=⟨s _ _ b.lst,b.len,b.vals.same s,b.ok⟩
theorem Bd5.at {K:U0}{H:Hp}{l:W9}{ps:U3}{f:Nat->A5}{c n m i:Nat}(b:Bd5 K H l ps f c n m)(hi:i<2^c):∃ p,ps[i]?=some p/\At5 K H p (f i)/\atI (ps.map V.ref) (i:Int)=some (.ref p):=by
 have hl:i<ps.length:=by rw[b.len];exact hi
 refine⟨ps[i],q0d hl,b.vals i _ (q0d hl),Z1y (by rw[q0n,q0d hl];rfl)⟩
def Z6v (K:U0):Sp:=λvs H Q _=>∃ (l:W9) (ps:U3) (f:Nat->A5) (c n m a wd:Nat),vs=[.ref l,.int wd,.int ((2^a:Nat):Int)]/\Bd5 K H l ps f c n m/\c<=6/\a<c/\wd<2^c/\n<=450000/\m<=10000 ∧
 ∀ (r:W9) (H':Hp) (z:A5),Same H H'->H' r=some (tA z)->Ok5 (n+2*m+3) (m+1:Nat) z->MixAt f a wd z->Q (.ref r) H'
def Y1g (K:U0):Sp:=λvs H Q _=>∃ (l:W9) (ps:U3) (f:Nat->A5) (c n m a:Nat),vs=[.ref l,.int ((2^a:Nat):Int)]/\Bd5 K H l ps f c n m/\c<=6/\a<c/\n<=450000/\m<=10000 ∧
 ∀ (r:W9) (H':Hp) (qs:U3) (g:Nat->A5),H r=none->Same H H'->Bd5 K H' r qs g c (n+2*m+3) (m+1)->(∀ w,w<2^c->MixAt f a w (g w))->Q (.ref r) H'
theorem X0z {n m:Nat}{x y z p:A5}(ox:Ok5 n m x)(oy:Ok5 n m y)(hp:p.2<=max x.2 y.2)(sp:Sz4 (n+x.2.toNat+y.2.toNat+2) p.1.1 p.1.2.1 p.1.2.2.1 p.1.2.2.2)
  (r:Red (p.1.2.1-p.1.2.2.2) (p.1.1+p.1.2.2.1) (p.1.2.1+p.1.2.2.2) (p.1.2.2.1-p.1.1) (p.2+1) z.1.1 z.1.2.1 z.1.2.2.1 z.1.2.2.2 z.2):Ok5 (n+2*m+3) (m+1:Nat) z:=by
 have hx:=ox.le
 have hy:=oy.le
 have hx0:=ox.amt.nn
 have hy0:=oy.amt.nn
 have s:Sz4 (n+2*m+2) p.1.1 p.1.2.1 p.1.2.2.1 p.1.2.2.2:=sp.mono (by omega)
 have neg:∀ {u v:Int},Sz (n+2*m+2) u->Sz (n+2*m+2) v->Sz (n+2*m+3) (u-v):=λhu hv=>by rw[q6r];exact(hu.add hv.neg).mono (by omega)
 have add:∀ {u v:Int},Sz (n+2*m+2) u->Sz (n+2*m+2) v->Sz (n+2*m+3) (u+v):=λhu hv=>(hu.add hv).mono (by omega)
 refine⟨r.sz ⟨neg s.z2 s.z4,add s.z1 s.z3,add s.z2 s.z4,neg s.z3 s.z1⟩,r.amt,?_⟩
 have:=r.le
 omega
theorem X1k {K:U0}{H:Hp}{p q:W9}{x y:A5}{n m:Nat}(hp:At5 K H p x)(hq:At5 K H q y)(ox:Ok5 n m x)(oy:Ok5 n m y)(hn:n<=450000)(hm:m<=10000):In2 K n [.ref p,.ref q] H p q x.1.1 x.1.2.1 x.1.2.2.1 x.1.2.2.2 x.2 y.1.1 y.1.2.1 y.1.2.2.1 y.1.2.2.2 y.2:=by
 have:=ox.le
 have:=oy.le
 exact⟨Z,hp,hq,ox.amt.nn,oy.amt.nn,by omega,by omega,ox.sz,oy.sz⟩
theorem sc_mixedat:FnScope ["board","word","bit"] ["board","word","bit"] (Z0h (top 39)):=fS
theorem Y2z (F:FunAt K "mixed_at" (top 39) .none)(X:K.In h)(G:Ng h mg)(dM:Cal P w K mg base k "rooted" ["one"] Y1f)(dA:Cal P w K mg base k "minus" ["one","other"] (Z4n K))(cM:Cal P w K mg base k "plus" ["one","other"] (Z3i K)) :
  Cal P w K mg base (k+1) "mixed_at" ["board","word","bit"] (Z6v K):=by
 have nd:=sc_mixedat.nd
 refine F.cal X G sc_mixedat (bnd3 λ_ _ _ _ _ _ _ _ _=>rfl) (λvs H Q E h=>?_) (λf cdv A outer s H vs Q E hr h=>?_)
 ·obtain⟨l,ps,f,c,n,m,a,wd,rfl,_⟩:=h;rfl
 obtain⟨l,ps,g,c,n,m,a,wd,rfl,BD,c6,ac,wc,n3,m1,kq⟩:=h
 have SL:SqL K H l (ps.map V.ref):=SqL.of BD.lst
 refine⟨_,(@Z0e _ _ _ _ _ (Z1b (Z2l (Z0i Z1n (pv 1) (pv 2)) (by intro _;rfl))
   (@Z0g _ _ _ (Z0l (Z0n dM hr rfl (Z0a (Z0n dA hr rfl (Z0a (Z0k Z0w (pv 0) (Z0i Z3p (pv 1) (pv 2)) (λ_ _=>rfl)) (Z0a (Z0k Z0w (pv 0) (pv 1) (λ_ _=>rfl)) Z0d))) Z0d))))
   Z0r)
  (@Z0g _ _ _ (Z0l (Z0n dM hr rfl (Z0a (Z0n cM hr rfl (Z0a (Z0k Z0w (pv 0) (pv 1) (λ_ _=>rfl)) (Z0a (Z0k Z0w (pv 0) (Z0i Z9e (pv 1) (pv 2)) (λ_ _=>rfl)) Z0d))) Z0d))))),?_⟩
 try dsimp only[cxK]
 by_cases hb:wd / 2^a%2=0
 ·obtain⟨e1,e2,e3,_⟩:=X1v c6 ac wc hb
  obtain⟨p,_,hp,ap⟩:=BD.at wc
  obtain⟨q,_,hq,aq⟩:=BD.at e3
  refine⟨_,Z,_,Z,_,_,Z,Z,_,Z,?_⟩
  rw[Z5n,e1]
  refine iteF ?_
  refine⟨_,Z,_,Z,l,_,_,_,Z,Z,SL,ap,_,Z,_,Z,_,Z,_,_,Z,Z,l,_,_,_,Z,Z,SL,(by rw[or_i,e2];exact aq),?_⟩
  have ox:=BD.ok _ wc
  have oy:=BD.ok _ e3
  refine⟨n,p,q,_,_,_,_,_,_,_,_,_,_,X1k hp hq ox oy n3 m1,λr1 H1 x y z u v S1 hr1 SU SZ=>?_⟩
  refine⟨r1,x,y,z,u,v,Z,hr1,SU.amt.nn,λr2 H2 x' y' z' u' v' S2 hr2 RE=>?_⟩
  refine kq r2 H2 ((x',y',z',u'),v') (S1.trans S2) hr2 (X0z (p:=((x,y,z,u),v)) ox oy SU.le SZ RE) ?_
  unfold MixAt
  rw[if_pos hb]
  exact⟨((x,y,z,u),v),by simpa only[q4y] using SU,RE.amt,RE.same⟩
 ·obtain⟨e1,e2,e3,_⟩:=X0i c6 ac wc hb
  obtain⟨p,_,hp,ap⟩:=BD.at (i:=wd-2^a) (q3h (q8z _ _) wc)
  obtain⟨q,_,hq,aq⟩:=BD.at wc
  have ox:=BD.ok (wd-2^a) (q3h (q8z _ _) wc)
  have oy:=BD.ok _ wc
  refine⟨_,Z,_,Z,_,_,Z,Z,_,Z,?_⟩
  rw[Z5n,show ((((wd&&&2^a:Nat):Int) != 0)=true) by simpa using e1]
  refine iteT ?_
  refine⟨_,Z,_,Z,_,Z,_,_,Z,Z,l,_,_,_,Z,Z,SL,(by rw[Z9y,e2];exact ap),_,Z,_,Z,l,_,_,_,Z,Z,SL,aq,?_⟩
  refine⟨n,p,q,_,_,_,_,_,_,_,_,_,_,X1k hp hq ox oy n3 m1,λr1 H1 x y z u v S1 hr1 SU SZ=>?_⟩
  refine⟨r1,x,y,z,u,v,Z,hr1,SU.amt.nn,λr2 H2 x' y' z' u' v' S2 hr2 RE=>?_⟩
  refine kq r2 H2 ((x',y',z',u'),v') (S1.trans S2) hr2 (X0z (p:=((x,y,z,u),v)) ox oy SU.le SZ RE) ?_
  unfold MixAt
  rw[if_neg hb]
  exact⟨((x,y,z,u),v),by simpa only[q8m] using SU,RE.amt,RE.same⟩
theorem sc_mixed:FnScope ["board","bit"] ["board","bit"] (Z0h (top 38)):=fS
theorem Y8o (F:FunAt K "mixed" (top 38) .none)(X:K.In h)(G:Ng h mg)(B:Bs mg)(dX:Cal P w K mg base k "mixed_at" ["board","word","bit"] (Z6v K)):Cal P w K mg base (k+1) "mixed" ["board","bit"] (Y1g K):=by
 have nd:=sc_mixed.nd
 refine F.cal X G sc_mixed (bnd2 λ_ _ _ _ _ _ _ _=>rfl) (λvs H Q E h=>?_) (λf cdv A outer s H vs Q E hr h=>?_)
 ·obtain⟨l,ps,f,c,n,m,a,rfl,_⟩:=h;rfl
 obtain⟨l,ps,g,c,n,m,a,rfl,BD,c6,ac,n3,m1,kq⟩:=h
 have p6:=pow6 c6
 have SL:SqL K H l (ps.map V.ref):=SqL.of BD.lst
 have hlen:(((ps.map V.ref).length:Nat):Int).toNat=2^c:=by rw[q0a,BD.len,q1o]
 refine⟨_,(@Z0g _ _ _ (Z0l (Z4i rfl (LcOk.of (Nc:=["word","board","bit"]) (mp:=[none,some 0,some 1]) (by kernel_rfl)) (Z1e rfl B.range (Z0a (Z0p Z0s rfl B.len q1c (Z0a (pv 0) Z0d)) Z0d)) (λ_ _ _ _=>(Z0m (i:=0) (show (["word","board","bit"]:W0).Nodup by decide +kernel) rfl (Or.inl rfl))) (λ_ _ _ _=>(Z0n dX hr rfl (Z0a (pv 1) (Z0a (pv 0) (Z0a (pv 2) Z0d)))))))),?_⟩
 try dsimp only[cxK]
 refine⟨_,Z,l,_,Z,.inl SL,_,Z,by rw[q0a,BD.len];omega,by rw[q0a,BD.len];omega,λacc hacc=>?_⟩
 rw[hlen]
 refine Z5s (n:=2^c) (fr:=[some (.ref l),some (.int ((2^a:Nat):Int))]) (λi ys H'=>∃ (qs:U3) (y:Nat->A5),Same H H'/\H' acc=some (.lst ys)/\ys=qs.map V.ref/\qs.length=i/\ValsK K H' qs y/\∀ j,j<i->Ok5 (n+2*m+3) (m+1:Nat) (y j)/\MixAt g a j (y j)) (t64 p6)
  ⟨[],λ_=>((0,0,0,0),0),Z0f hacc _,Z0c,Z,Z,(λ_ _ z=>by cases z),λj hj=>absurd hj (q3d _)⟩ ?_ ?_
 ·rintro i ys H2 N hi hy ⟨qs,y,S2,a2,rfl,ql,v2,ok2⟩ kN
  refine⟨_,Z,_,Z,_,Z,l,ps,g,c,n,m,a,i,(by show [V.ref l,V.int (0+(i:Int)),_]=_;rw[q5s]),BD.same S2,c6,ac,hi,n3,m1,λr H3 z S3 hr3 oz mz=>?_⟩
  refine kN (.ref r) H3 (S3 _ _ a2) ⟨qs++[r],λj=>if j=qs.length then z else y j,Z1a (S2.trans S3) hacc,Z0c,by rw[q0k];rfl,by simp[ql],vals_upd (xs:=qs.map V.ref) (vals_push v2 S3 (At5.of hr3)) (S3 _ _ a2),λj hj=>?_⟩
  by_cases e:j=qs.length
  ·show Ok5 _ _ (if j=qs.length then z else y j)/\MixAt g a j (if j=qs.length then z else y j)
   rw[if_pos e,e,ql]
   exact⟨oz,mz⟩
  ·show Ok5 _ _ (if j=qs.length then z else y j)/\MixAt g a j (if j=qs.length then z else y j)
   rw[if_neg e]
   exact ok2 j (by omega)
 ·rintro ys H2 hy ⟨qs,y,S2,a2,rfl,ql,v2,ok2⟩
  exact kq acc H2 qs y hacc S2 ⟨a2,ql,v2,λi hi=>(ok2 i hi).1⟩ λw hw=>(ok2 w hw).2
end
end K64
namespace L2
abbrev Mm:=Str × List Int
noncomputable abbrev mT (m:Mm):HO:=.tup (.str m.1::m.2.map V.int)
noncomputable abbrev mD (m:Mm):PyData:=.tuple (.str m.1::m.2.map PyData.int)
def RowsM (H:Hp):List Addr->List Mm->Prop:=Paired λp m=>H p=some (mT m)
theorem RowsM.same {H H':Hp}{ps:U3}{ms:List Mm}(h:RowsM H ps ms)(s:Same H H'):RowsM H' ps ms:=Paired.imp' (λ_ _ c=>s _ _ c) h
def AllOk (ms:List Mm):Prop:=∀ m∈ms,PyData.strOk m.1=true
section
variable {P:U8}{w:W1}{H:Hp}{h:Heap}
theorem X2r {a:W9}{m:Mm}{its:U5}(ht:IsTup h a its.toArray)(rv:Vals (.str m.1::m.2.map V.int) its):Reads h (.ref a) (mD m) []:=by
 cases rv with
 | cons r rs =>
  obtain⟨t,rfl⟩:=r
  obtain⟨o,ho,hc,n,hd⟩:=ht
  exact Reads.tuple ho hc hd (.cons (as:=[]) (bs:=[]) (Reads.str _ _) (q6z (Z2a rs)))
theorem Z7b (ok:HOk P w H h):∀ {ps:U3}{ms:List Mm}{us:U5},RowsM H ps ms->Vals (ps.map V.ref) us->∃ as,ReadsAll h us (ms.map mD) as
 | [],[],us,.nil,r=>by cases r;exact⟨[],.nil⟩
 | p::ps,m::ms,us,.cons e r,rv=>by
  cases rv with
  | cons ru rr =>
   cases ru
   obtain⟨as,ha⟩:=Z7b ok r rr
   obtain⟨_,its,rv',ht⟩:=(show ObjOk P w H h p (mT m) from ok p _ e)
   exact⟨_,.cons (X2r ht rv') ha⟩
end
theorem Y9t {m:Mm}(o:PyData.strOk m.1=true):PyData.canLay0 (mD m)=true:=by
 simp[PyData.canLay0,PyData.canLayAll0,o,q7g m.2]
theorem X4w (m:Mm):PyData.depth (mD m)<=2:=by
 have:=q8d m.2
 simp only[PyData.depth,PyData.depthAll]
 omega
theorem Z9n:∀ {ms:List Mm},AllOk ms->PyData.canLayAll0 (ms.map mD)=true
 | [],_=>by simp[PyData.canLayAll0]
 | m::r,h=>by
  have h1:=Y9t (h m (.head _))
  have h2:=Z9n (ms:=r) λx hx=>h x (.tail _ hx)
  simp only[q1k,PyData.canLayAll0,q0y]
  exact⟨h1,h2⟩
theorem Y2i:∀ ms:List Mm,PyData.depthAll (ms.map mD)<=2
 | []=>by simp[PyData.depthAll]
 | m::r=>by
  have h1:=Y2i r
  have h2:=X4w m
  simp only[q1k,PyData.depthAll]
  omega
theorem Z4p {ms:List Mm}(h:AllOk ms):SeqAt.shaped (.list (ms.map mD))=true:=by
 have:=Y2i ms
 show (PyData.canLay0 _ && decide _)=true
 rw[q0y]
 refine⟨by simp only[PyData.canLay0];exact Z9n h,q0t ?_⟩
 simp only[PyData.depth]
 omega
theorem X4e (m n:Mm):SeqAt.noMix (mD m) (mD n)=true:=by
 simp only[SeqAt.noMix,SeqAt.noMixAll,q0y]
 exact⟨by simp[SeqAt.noMix],q6n m.2 n.2⟩
theorem Z8e:∀ xs ys:List Mm,SeqAt.noMixAll (xs.map mD) (ys.map mD)=true
 | [],[]=>by simp[SeqAt.noMixAll]
 | [],_::_=>by simp[SeqAt.noMixAll]
 | _::_,[]=>by simp[SeqAt.noMixAll]
 | n::r,m::q=>by
  simp only[q1k,SeqAt.noMixAll,q0y]
  exact⟨X4e n m,Z8e r q⟩
theorem X6d (m n:Mm):PySem.Spec.same (mD m) (mD n)=decide (m=n):=by
 simp only[PySem.Spec.same,PySem.Spec.sameAll,q6y]
 obtain⟨a,b⟩:=m
 obtain⟨c,d⟩:=n
 by_cases e:a=c<;>by_cases f:b=d<;>simp[e,f]
theorem Y0c:∀ xs ys:List Mm,PySem.Spec.sameAll (xs.map mD) (ys.map mD)=decide (xs=ys)
 | [],[]=>by simp[PySem.Spec.sameAll]
 | [],_::_=>by simp[PySem.Spec.sameAll]
 | _::_,[]=>by simp[PySem.Spec.sameAll]
 | n::r,m::q=>by
  simp only[q1k,PySem.Spec.sameAll,X6d,Y0c r q]
  by_cases e:n=m<;>simp[e]
section
variable {X:Cx}
def rEqLM (neg:Bool):R2:=λx y H Q=>∃ (a b:W9) (ps qs:U3) (xs ys:List Mm),x=.ref a/\y=.ref b/\H a=some (.lst (ps.map V.ref))/\H b=some (.lst (qs.map V.ref))/\RowsM H ps xs/\RowsM H qs ys/\AllOk xs/\AllOk ys/\Q (.bl (if neg then !decide (xs=ys) else decide (xs=ys))) H
theorem Z4q {pins:U1}{σ:St}{H:Hp}{s:U7}(I:Inv X pins σ H s){a:W9}{ps:U3}{xs:List Mm}(h:H a=some (.lst (ps.map V.ref)))(r:RowsM H ps xs):∃ as,Reads s.heap (.ref a) (.list (xs.map mD)) as:=by
 obtain⟨its,rv,pl,_⟩:=I.list (SqL.of h)
 obtain⟨as,ha⟩:=Z7b I.hok r rv
 obtain⟨o,ho,hc,n,hd⟩:=pl.isList
 exact⟨_,Reads.list ho hc hd (by simpa using ha)⟩
theorem X3k (hu:X.A.units+64<cLine):OpR X (compareOp .Eq) (rEqLM false):=by
 intro pins s σ H x y v u Q I rx ry h
 obtain⟨a,b,ps,qs,xs,ys,rfl,rfl,h1,h2,r1,r2,o1,o2,q⟩:=h
 cases rx;cases ry
 obtain⟨as,ra⟩:=Z4q I h1 r1
 obtain⟨bs,rb⟩:=Z4q I h2 r2
 refine eq_dataH_same ra rb (Z4p o1) (Z4p o2) hu (by simp only[SeqAt.noMix];exact Z8e xs ys) ⟨.bl (decide (xs=ys)),H,I,?_,q⟩
 show _=_
 simp only[PySem.Spec.same]
 rw[Y0c]
theorem X3i (hu:X.A.units+64<cLine):OpR X (compareOp .NotEq) (rEqLM true):=by
 intro pins s σ H x y v u Q I rx ry h
 obtain⟨a,b,ps,qs,xs,ys,rfl,rfl,h1,h2,r1,r2,o1,o2,q⟩:=h
 cases rx;cases ry
 obtain⟨as,ra⟩:=Z4q I h1 r1
 obtain⟨bs,rb⟩:=Z4q I h2 r2
 refine ne_dataH_same ra rb (Z4p o1) (Z4p o2) hu (by simp only[SeqAt.noMix];exact Z8e xs ys) ⟨.bl (!decide (xs=ys)),H,I,?_,q⟩
 show _=_
 simp only[PySem.Spec.same]
 rw[Y0c]
end
end L2
namespace L2
theorem Y9v:bootBuiltins "reversed"=some (.type "reversed"):=by decide +kernel
def Itv (K:U0)(a:W9)(n:Nat):It :=
 ⟨λi H=>i<n/\∃ xs,SqL K H a xs/\xs.length=n,λi H x H'=>H'=H/\∀ xs,SqL K H a xs->xs[n-1-i]?=some x,λi _=>i=n⟩
theorem Y7s {P:U8}{w:W1}{K:U0}{tg:Expr}(a it:W9)(n:Nat):Turn P w K tg (Itv K a n) [it] it (λi h=>i<=n/\h.IsRevIter it a ((n:Int)-1-(i:Int))) where
 mem:=by simp
 obj:=λi h st b hb=>by
  cases q1e.mp hb
  obtain⟨_,o,e,c,d⟩:=st
  exact⟨o,e,λv z=>by rw[d] at z;cases z⟩
 keep:=λi h h' st k=>⟨st.1,st.2.at λo e=>k it (by simp) o e⟩
 item:=by
  intro X hP hw hK hc i pins s σ H E I hf st hg
  subst hP hw hK
  obtain⟨hi,xs,hq,hn⟩:=hg
  obtain⟨its,rv,p,hz⟩:=I.list hq
  have hlt:n-1-i<xs.length:=by omega
  obtain⟨u,hu,ru⟩:=rv.get (q0d hlt)
  obtain⟨f0,f1,f2,f3,f4,f5⟩:=hf it (by simp)
  have e1:(n:Int)-1-(i:Int)=((n-1-i:Nat):Int):=by omega
  have st2:=st.2
  rw[e1] at st2
  refine wpAny_pyNext_rev_item st2 p.isList (x:=u) (by simpa using hu) λh' st' sb=>?_
  have I1:Inv X pins σ H { s with heap:=h' }:=I.turned (t':=s.toks) (λb o hb e=>(sb.2 b hb).trans e) f0 f1 f3 f4 f5
  rw[show ((n-1-i:Nat):Int)-1=(n:Int)-1-((i+1:Nat):Int) by omega] at st'
  obtain⟨o,e,c,d⟩:=id st'
  refine⟨u,Z,Y9l (s:={ s with heap:=h' }) e c d (by decide) ⟨xs[n-1-i],H,I1,ru,⟨Z,λys hy=>?_⟩,⟨hi,st'⟩,λb hb=>(hf b hb).1⟩⟩
  rw[I.list_inj hy hq]
  exact q0d hlt
 done:=by
  intro X hP hw hK hc i pins s σ H E I hf st hg
  subst hP hw hK
  obtain⟨f0,f1,f2,f3,f4,f5⟩:=hf it (by simp)
  have hi:i=n:=hg
  have st2:=st.2
  rw[hi,show (n:Int)-1-(n:Int)=-1 by omega] at st2
  exact wpAny_pyNext_rev_end (I.ok.hd hc) st2 λh' eb=>⟨Z,I.turned (t':=s.toks) (λb o hb e=>eb b o hb e) f0 f1 f3 f4 f5⟩
 self:=λ_ _ _ _ _ st h=>wpAny_pyIter_revIter st.2 h
def iRev (K:U0)(ta:TA):TI:=λσ H R=>ta σ H λvs H1=>∃ (l:W9) (xs:List V),vs=[.ref l]/\SqL K H1 l xs/\R (Itv K l xs.length) H1
theorem X6j {X:Cx}{tg a:Expr}{ta:TA}{p pos:Pos}(hg:Gl X "reversed")(hm:X.mg "reversed"=none)(ha:PA X [a] ta)(hs:starEach [a] X.env=[(false,eval a X.env)]:=by rfl) :
  PI X tg (.Call (.Name "reversed" p) [a] [] pos) (iRev X.K ta):=by
 intro pins s σ H R I h
 refine Call_ (Z5k I hg hm Y9v (PyProof.Rows.callWith_type1 (thn (ha pos pins s σ H _ I h) λus s1 ⟨vs,H1,I1,r1,q1⟩=>?_) (by rw[hs];rfl) (by rfl)))
 obtain⟨l,xs,e,h1,q⟩:=q1
 subst e
 cases r1 with
 | cons r rr =>
  cases rr
  cases r
  obtain⟨its,rv,pl,hz⟩:=I1.list h1
  have el:=rv.length
  refine call_reversed_list pl.isList ?_
  have it0:(s1.heap.push (revObj l ((its.toArray.size:Int)-1))).IsRevIter s1.heap.objs.size l ((xs.length:Int)-1-((0:Nat):Int)):=⟨_,q0m _ rfl,Z,by rw[q0h,<-el];simp;rfl⟩
  refine wpAny_pyIter_revIter (s:={ s1 with heap:=s1.heap.push (revObj l ((its.toArray.size:Int)-1)) }) it0 ⟨s1.heap.objs.size,[s1.heap.objs.size],_,_,H1,Z,I1.kept (t':=s1.toks) λb o e=>q0c _ e,Y7s l _ xs.length,⟨q1d _,it0⟩,λb hb=>?_,q⟩
  cases q1e.mp hb
  exact I1.fpOk (q0f _) (I1.hok.fresh (q0f _))
end L2
namespace K64
open L2 Am Pc Ba
theorem Z7h {x h y g N:Int}(hh:0<=h)(hg:0<=g)(h1:h<=N)(h2:g<=N):Eq2 x h y g ↔ x*p2 (N-h)=y*p2 (N-g):=by
 unfold Eq2
 have e1:=Z4u hh h1
 have e2:=Z4u hg h2
 have n1:=Z6s h
 have n2:=Z6s g
 have n3:=Z6s (N-h)
 have n4:=Z6s (N-g)
 have n5:=Z6s N
 constructor
 ·intro z
  have:(x*p2 (N-h))*(p2 h*p2 g)=(y*p2 (N-g))*(p2 h*p2 g):=by
   have a1:(x*p2 (N-h))*(p2 h*p2 g)=(x*p2 g)*p2 N:=by rw[e1];grind
   have a2:(y*p2 (N-g))*(p2 h*p2 g)=(y*p2 h)*p2 N:=by rw[e2];grind
   rw[a1,a2,z]
  exact q1l (Int.mul_ne_zero n1 n2) this
 ·intro z
  have:(x*p2 g)*p2 N=(y*p2 h)*p2 N:=by
   have a1:(x*p2 (N-h))*(p2 h*p2 g)=(x*p2 g)*p2 N:=by rw[e1];grind
   have a2:(y*p2 (N-g))*(p2 h*p2 g)=(y*p2 h)*p2 N:=by rw[e2];grind
   rw[<-a1,<-a2,z]
  exact q1l n5 this
noncomputable def va (x:A5)(M:Int):Int:=x.1.1*p2 (M-x.2)
noncomputable def vb (x:A5)(M:Int):Int:=x.1.2.1*p2 (M-x.2)
noncomputable def vc (x:A5)(M:Int):Int:=x.1.2.2.1*p2 (M-x.2)
noncomputable def vd (x:A5)(M:Int):Int:=x.1.2.2.2*p2 (M-x.2)
theorem X3e {n:Int}(h:0<=n):p2 (n+2)=4*p2 n:=by
 rw[Z3o h (by decide),show p2 2=4 from rfl,q6t]
theorem Z7n {a a' u h h' g M:Int}(h0:0<=h)(h0':0<=h')(g0:0<=g)(l1:h+h'<=M)(l2:g<=M)(e:Eq2 (a*p2 h'+a'*p2 h) (h+h') u g):u*p2 (M-g)=a*p2 (M-h)+a'*p2 (M-h'):=by
 have z:=(Z7h (by omega) g0 l1 l2).mp e
 have e1:p2 (M-h)=p2 (M-(h+h'))*p2 h':=by rw[<-Z3o (by omega) h0'];congr 1;omega
 have e2:p2 (M-h')=p2 (M-(h+h'))*p2 h:=by rw[<-Z3o (by omega) h0];congr 1;omega
 rw[<-z,e1,e2]
 grind
theorem Z5r {u v h g M:Int}(h0:0<=h)(g0:0<=g)(l1:h<=M)(l2:g<=M+1)(e:Eq2 u (h+1) v g):v*p2 (M+1-g)=u*p2 (M-h):=by
 have z:=(Z7h (N:=M+1) (by omega) g0 (by omega) l2).mp e
 rw[<-z]
 congr 2
 omega
theorem Mix.vals {s:Int}{x y z:A5}(m:Mix s x y z)(hx:0<=x.2)(hy:0<=y.2):∃ M0:Int,∀ M,M0<=M →
  va z (M+1)=(vb x M+s*vb y M)-(vd x M+s*vd y M)/\vb z (M+1)=(va x M+s*va y M)+(vc x M+s*vc y M)/\vc z (M+1)=(vb x M+s*vb y M)+(vd x M+s*vd y M)/\vd z (M+1)=(vc x M+s*vc y M)-(va x M+s*va y M):=by
 obtain⟨p,S,az,R⟩:=m.ex
 have p0:=S.amt.nn
 have z0:=az.nn
 refine⟨x.2+y.2+p.2+z.2,λM hM=>?_⟩
 have l1:x.2+y.2<=M:=by omega
 have l2:p.2<=M:=by omega
 have l3:z.2<=M+1:=by omega
 have a1:=Z7n hx hy p0 l1 l2 S.same.e1
 have a2:=Z7n hx hy p0 l1 l2 S.same.e2
 have a3:=Z7n hx hy p0 l1 l2 S.same.e3
 have a4:=Z7n hx hy p0 l1 l2 S.same.e4
 have r1:=Z5r p0 z0 l2 l3 R.e1
 have r2:=Z5r p0 z0 l2 l3 R.e2
 have r3:=Z5r p0 z0 l2 l3 R.e3
 have r4:=Z5r p0 z0 l2 l3 R.e4
 unfold va vb vc vd
 rw[r1,r2,r3,r4,Int.sub_mul,Int.add_mul,Int.add_mul,Int.sub_mul,a1,a2,a3,a4]
 refine⟨?_,?_,?_,?_⟩<;>grind
theorem Z7l {x y:A5}{M:Int}(ax:Amt x.1.1 x.1.2.1 x.1.2.2.1 x.1.2.2.2 x.2)(ay:Amt y.1.1 y.1.2.1 y.1.2.2.1 y.1.2.2.2 y.2)(l1:x.2<=M)(l2:y.2<=M)(e1:va x M=va y M)(e2:vb x M=vb y M)(e3:vc x M=vc y M)(e4:vd x M=vd y M):x=y :=
 X8q (ax.unique ay ⟨(Z7h ax.nn ay.nn l1 l2).mpr e1,(Z7h ax.nn ay.nn l1 l2).mpr e2,(Z7h ax.nn ay.nn l1 l2).mpr e3,(Z7h ax.nn ay.nn l1 l2).mpr e4⟩)
theorem Y0x {x:A5}{M:Int}(l:x.2<=M):va x (M+2)=4*va x M/\vb x (M+2)=4*vb x M/\vc x (M+2)=4*vc x M/\vd x (M+2)=4*vd x M:=by
 unfold va vb vc vd
 rw[show M+2-x.2=(M-x.2)+2 by omega,X3e (by omega)]
 refine⟨?_,?_,?_,?_⟩<;>grind
theorem Mix.amt {s:Int}{x y z:A5}(m:Mix s x y z):Amt z.1.1 z.1.2.1 z.1.2.2.1 z.1.2.2.2 z.2:=by
 obtain⟨p,_,az,_⟩:=m.ex
 exact az
theorem X4j {x y z0 z1 x' y':A5}(ax:Amt x.1.1 x.1.2.1 x.1.2.2.1 x.1.2.2.2 x.2)(ay:Amt y.1.1 y.1.2.1 y.1.2.2.1 y.1.2.2.2 y.2)(m0:Mix 1 x y z0)(m1:Mix (-1) x y z1)(n0:Mix 1 z0 z1 x')(n1:Mix (-1) z0 z1 y'):x'=x/\y'=y:=by
 have a0:=m0.amt
 have a1:=m1.amt
 have b0:=n0.amt
 have b1:=n1.amt
 obtain⟨M1,h1⟩:=m0.vals ax.nn ay.nn
 obtain⟨M2,h2⟩:=m1.vals ax.nn ay.nn
 obtain⟨M3,h3⟩:=n0.vals a0.nn a1.nn
 obtain⟨M4,h4⟩:=n1.vals a0.nn a1.nn
 have nx:=ax.nn
 have ny:=ay.nn
 have nx':=b0.nn
 have ny':=b1.nn
 obtain⟨M,g1,g2,g3,g4,g5,g6,g7,g8⟩:∃ M:Int,M1<=M/\M2<=M/\M3<=M+1/\M4<=M+1/\x.2<=M/\y.2<=M/\x'.2<=M/\y'.2<=M :=
  ⟨max M1 0+max M2 0+max M3 0+max M4 0+x.2+y.2+x'.2+y'.2,by omega,by omega,by omega,by omega,by omega,by omega,by omega,by omega⟩
 obtain⟨p1,p2',p3,p4⟩:=h1 M g1
 obtain⟨q1,q2,q3,q4⟩:=h2 M g2
 obtain⟨r1,r2,r3,r4⟩:=h3 (M+1) g3
 obtain⟨s1,s2,s3,s4⟩:=h4 (M+1) g4
 obtain⟨x1,x2,x3,x4⟩:=Y0x g5
 obtain⟨y1,y2,y3,y4⟩:=Y0x g6
 rw[show M+1+1=M+2 by omega] at r1 r2 r3 r4 s1 s2 s3 s4
 constructor
 ·exact Z7l b0 ax (M:=M+2) (by omega) (by omega) (by omega) (by omega) (by omega) (by omega)
 ·exact Z7l b1 ay (M:=M+2) (by omega) (by omega) (by omega) (by omega) (by omega) (by omega)
inductive Gm where
 | mv (v:Mv)
 | mix (a:Nat)
namespace Gm
noncomputable def nm:Gm->Str
 | mv v=>v.nm
 | mix _=>"mix"
noncomputable def ns:Gm->List Int
 | mv v=>v.ns
 | mix a=>[(a:Int)]
def Ok (c:Nat):Gm->Prop
 | mv v=>v.Ok c
 | mix a=>a<c
noncomputable def back:Gm->Gm
 | mv (.turn a k)=>mv (.turn a (8-k))
 | m=>m
noncomputable abbrev mm (m:Gm):Mm:=(m.nm,m.ns)
end Gm
def Step (c:Nat):Gm->(Nat->A5)->(Nat->A5)->Prop
 | .mv v,f,g=>∀ w,w<2^c->g w=spin (f (v.to w)) (v.sp w:Nat)
 | .mix a,f,g=>∀ w,w<2^c->MixAt f a w (g w)
inductive Steps (c:Nat):List Gm->(Nat->A5)->(Nat->A5)->Prop
 | nil {f:Nat->A5}:Steps c [] f f
 | cons {m:Gm}{ms:List Gm}{f g h:Nat->A5}:Step c m f g->Steps c ms g h->Steps c (m::ms) f h
theorem Steps.snoc {c:Nat}:∀ {a:List Gm}{m:Gm}{f g h:Nat->A5},Steps c a f g->Step c m g h->Steps c (a++[m]) f h
 | _,_,_,_,_,.nil,s=>.cons s .nil
 | _,_,_,_,_,.cons s t,r=>.cons s (Steps.snoc t r)
abbrev Ams (c:Nat)(f:Nat->A5):Prop:=∀ w,w<2^c->Amt (f w).1.1 (f w).1.2.1 (f w).1.2.2.1 (f w).1.2.2.2 (f w).2
theorem Y0u {v:Int × Int × Int × Int}{h:Int}(o:Amt v.1 v.2.1 v.2.2.1 v.2.2.2 h):∀ k,Amt (rot k v).1 (rot k v).2.1 (rot k v).2.2.1 (rot k v).2.2.2 h
 | 0=>o
 | k+1=>by
  have:=Y0u o k
  refine⟨this.nn,?_⟩
  have o:h=0∨(rot k v).1%2=1∨(rot k v).2.1%2=1∨(rot k v).2.2.1%2=1∨(rot k v).2.2.2%2=1:=this.odd
  show h=0∨(-(rot k v).2.2.2)%2=1∨(rot k v).1%2=1∨(rot k v).2.1%2=1∨(rot k v).2.2.1%2=1
  omega
theorem Step.ams {c:Nat}{m:Gm}{f g:Nat->A5}(hc:c<=6)(ok:m.Ok c)(s:Step c m f g)(a:Ams c f):Ams c g:=by
 intro w hw
 cases m with
 | mv v =>
  have e:g w=spin (f (v.to w)) (v.sp w:Nat):=s w hw
  rw[e]
  exact Y0u (a _ (Mv.to_lt hc ok hw)) _
 | mix a =>
  have e:MixAt f a w (g w):=s w hw
  unfold MixAt at e
  split at e
  ·exact e.amt
  ·exact e.amt
theorem Z8u (x:A5){k:Nat}(h:k<=8):spin (spin x (k:Nat)) ((8-k:Nat):Int)=x:=by
 obtain⟨⟨a,b,c,d⟩,g⟩:=x
 have:k=0∨k=1∨k=2∨k=3∨k=4∨k=5∨k=6∨k=7∨k=8:=by omega
 rcases this with rfl | rfl | rfl | rfl | rfl | rfl | rfl | rfl | rfl<;>simp[spin,rot]
theorem Y3y {c:Nat}{m:Gm}{f g k h:Nat->A5}(hc:c<=6)(ok:m.Ok c)(af:Ams c f)(s:Step c m f g)(e:∀ w,w<2^c->k w=g w)(t:Step c m.back k h):∀ w,w<2^c->h w=f w:=by
 intro w hw
 cases m with
 | mix a =>
  have ok:a<c:=ok
  have s':∀ w,w<2^c->MixAt f a w (g w):=s
  have t':∀ w,w<2^c->MixAt k a w (h w):=t
  have key:∀ u,u<2^c->u / 2^a%2=0->h u=f u/\h (u+2^a)=f (u+2^a):=λu hu hb=>by
   obtain⟨_,_,l2,b2⟩:=X1v hc ok hu hb
   have m0:=s' u hu
   have m1:=s' (u+2^a) l2
   have n0:=t' u hu
   have n1:=t' (u+2^a) l2
   unfold MixAt at m0 m1 n0 n1
   rw[if_pos hb] at m0 n0
   rw[if_neg (by omega),Nat.add_sub_cancel] at m1 n1
   rw[e u hu,e _ l2] at n0 n1
   exact X4j (af u hu) (af _ l2) m0 m1 n0 n1
  by_cases hb:w / 2^a%2=0
  ·exact(key w hw hb).1
  ·obtain⟨_,_,l2,b2⟩:=X0i hc ok hw hb
   have:=(key (w-2^a) (q3h (q8z _ _) hw) b2).2
   rw[Nat.sub_add_cancel l2] at this
   exact this
 | mv v =>
  have s':∀ w,w<2^c->g w=spin (f (v.to w)) (v.sp w:Nat):=s
  cases v with
  | turn a kk =>
   have ok:a<c/\1<=kk/\kk<=7:=ok
   have t':∀ w,w<2^c->h w=spin (k w) ((if w&&&2^a=2^a then 8-kk else 0:Nat):Int):=t
   have s1:g w=spin (f w) ((if w&&&2^a=2^a then kk else 0:Nat):Int):=s' w hw
   rw[t' w hw,e w hw,s1]
   by_cases q:w&&&2^a=2^a
   ·rw[if_pos q,if_pos q]
    exact Z8u _ (by omega)
   ·rw[if_neg q,if_neg q]
    rfl
  | pair a b =>
   have t':∀ w,w<2^c->h w=spin (k w) ((if w&&&(2^a ||| 2^b)=(2^a ||| 2^b) then 4 else 0:Nat):Int):=t
   have s1:g w=spin (f w) ((if w&&&(2^a ||| 2^b)=(2^a ||| 2^b) then 4 else 0:Nat):Int):=s' w hw
   rw[t' w hw,e w hw,s1]
   by_cases q:w&&&(2^a ||| 2^b)=(2^a ||| 2^b)
   ·rw[if_pos q]
    exact Z8u _ (by decide)
   ·rw[if_neg q]
    rfl
  | flip a =>
   have t':∀ w,w<2^c->h w=k ((Mv.flip a).to w):=t
   have l:=Mv.to_lt (v:=.flip a) hc ok hw
   have s1:g ((Mv.flip a).to w)=f ((Mv.flip a).to ((Mv.flip a).to w)):=s' _ l
   rw[t' w hw,e _ l,s1,Mv.to_to (v:=.flip a) hc ok hw]
  | iff a b =>
   have t':∀ w,w<2^c->h w=k ((Mv.iff a b).to w):=t
   have l:=Mv.to_lt (v:=.iff a b) hc ok hw
   have s1:g ((Mv.iff a b).to w)=f ((Mv.iff a b).to ((Mv.iff a b).to w)):=s' _ l
   rw[t' w hw,e _ l,s1,Mv.to_to (v:=.iff a b) hc ok hw]
  | swap a b =>
   have t':∀ w,w<2^c->h w=k ((Mv.swap a b).to w):=t
   have l:=Mv.to_lt (v:=.swap a b) hc ok hw
   have s1:g ((Mv.swap a b).to w)=f ((Mv.swap a b).to ((Mv.swap a b).to w)):=s' _ l
   rw[t' w hw,e _ l,s1,Mv.to_to (v:=.swap a b) hc ok hw]
  | cross a b d =>
   have t':∀ w,w<2^c->h w=k ((Mv.cross a b d).to w):=t
   have l:=Mv.to_lt (v:=.cross a b d) hc ok hw
   have s1:g ((Mv.cross a b d).to w)=f ((Mv.cross a b d).to ((Mv.cross a b d).to w)):=s' _ l
   rw[t' w hw,e _ l,s1,Mv.to_to (v:=.cross a b d) hc ok hw]
theorem Gm.fits {m:Gm}{c:Nat}(h:m.Ok c):Fits m.nm m.ns c:=by
 cases m with
 | mv v=>exact Mv.fits h
 | mix a =>
  have e:named "mix" [(a:Int)]=[(a:Int)]:=by unfold named;rw[if_neg (by decide +kernel)]
  have h:a<c:=h
  exact⟨⟨(show numAt NB "mix"=some (.int ((1:Nat):Int)) by decide +kernel),(show 1<=3 by decide),λz=>absurd (show ("mix":Str)="turn" from z) (by decide +kernel)⟩,by show ∀ x∈named "mix" [(a:Int)],_;rw[e];intro b hb;rw[q1e.mp hb];omega,by show (named "mix" [(a:Int)]).Nodup;rw[e];simp⟩
theorem Z8c {n:Nat}{M:Int}{x:A5}{k:Int}(o:Ok5 n M x):Ok5 n M (spin x k):=Z6f o _
theorem Bd5.bo {K:U0}{H:Hp}{l:W9}{ps:U3}{f:Nat->A5}{c n m:Nat}(b:Bd5 K H l ps f c n m):Bo K H l ps f c:=⟨b.lst,b.len,b.vals⟩
def Z8v (K:U0):Sp:=λvs H Q _=>∃ (l p:W9) (ps:U3) (f:Nat->A5) (c n M:Nat) (m:Gm),vs=[.ref l,.ref p]/\H p=some (MvT m.nm m.ns)/\m.Ok c/\Bd5 K H l ps f c n M/\c<=6/\n<=450000/\M<=10000 ∧
 ∀ (r:W9) (H':Hp) (qs:U3) (g:Nat->A5),H r=none->Same H H'->Bd5 K H' r qs g c (n+2*M+3) (M+1)->Step c m f g->Q (.ref r) H'
section
variable {P:U8}{w:W1}{K:U0}{mg:U4}{base:Heap}{k:Nat}{h:Heap}
theorem sc_turned:FnScope ["board","move"] ["board","move"] (Z0h (top 37)):=fS
theorem Y5d (F:FunAt K "turned" (top 37) .none)(X:K.In h)(G:Ng h mg)(B:Bs mg)(dJ:Cal P w K mg base k "check_move" ["move","cells"] Y4c)(dS:Cal P w K mg base k "cells_of" ["board"] (Z9a K))(eB:Cal P w K mg base k "mixed" ["board","bit"] (Y1g K))(cQ:Cal P w K mg base k "spun_where" ["board","bits","k"] (Y1d K))
  (dG:Cal P w K mg base k "word_behind" ["word","move"] Y1l):Cal P w K mg base (k+1) "turned" ["board","move"] (Z8v K):=by
 have nd:=sc_turned.nd
 refine F.cal X G sc_turned (bnd2 λ_ _ _ _ _ _ _ _=>rfl) (λvs H Q E h=>?_) (λf cdv A outer s H vs Q E hr h=>?_)
 ·obtain⟨l,p,ps,f,c,n,M,m,rfl,_⟩:=h;rfl
 obtain⟨l,p,ps,g,c,n,M,m,rfl,hp,ok,BD,c6,n4,m1,kq0⟩:=h
 have p6:=pow6 c6
 have BO:=BD.bo
 have ip:∀ a:Nat,(1:Int)*2^((a:Int)).toNat=((2^a:Nat):Int):=λa=>ipow a
 refine⟨_,(@Z0e _ _ _ _ _ (Z2v (Z0n dJ hr rfl (Z0a (pv 1) (Z0a (Z0n dS hr rfl (Z0a (pv 0) Z0d)) Z0d))))
  (@Z0e _ _ _ _ _ (Z1b (Z0q Z1j (Z0k Z0j (pv 1) Z0b (λ_ _=>rfl)) Z1h (nomark _))
   (@Z0g _ _ _ (Z0l (Z0n eB hr rfl (Z0a (pv 0) (Z0a (Z0i Z1x Z0b (Z0k Z0j (pv 1) Z0b (λ_ _=>rfl))) Z0d)))))
   Z0r)
  (@Z0e _ _ _ _ _ (Z1b (Z0q Z1j (Z0k Z0j (pv 1) Z0b (λ_ _=>rfl)) Z1h (nomark _))
   (@Z0g _ _ _ (Z0l (Z0n cQ hr rfl (Z0a (pv 0) (Z0a (Z0i Z1x Z0b (Z0k Z0j (pv 1) Z0b (λ_ _=>rfl))) (Z0a (Z0k Z0j (pv 1) Z0b (λ_ _=>rfl)) Z0d))))))
   Z0r)
  (@Z0e _ _ _ _ _ (Z1b (Z0q Z1j (Z0k Z0j (pv 1) Z0b (λ_ _=>rfl)) Z1h (nomark _))
   (@Z0g _ _ _ (Z0l (Z0n cQ hr rfl (Z0a (pv 0) (Z0a (Z0i Z9e (Z0i Z1x Z0b (Z0k Z0j (pv 1) Z0b (λ_ _=>rfl))) (Z0i Z1x Z0b (Z0k Z0j (pv 1) Z0b (λ_ _=>rfl)))) (Z0a Z0b Z0d))))))
   Z0r)
  (@Z0g _ _ _ (Z0l (Z4i rfl (LcOk.of (Nc:=["word","board","move"]) (mp:=[none,some 0,some 1]) (by kernel_rfl)) (Z1e rfl B.range (Z0a (Z0p Z0s rfl B.len q1c (Z0a (pv 0) Z0d)) Z0d)) (λ_ _ _ _=>(Z0m (i:=0) (show (["word","board","move"]:W0).Nodup by decide +kernel) rfl (Or.inl rfl))) (λ_ _ _ _=>(Z0k Z8i (pv 1) (Z0n dG hr rfl (Z0a (pv 0) (Z0a (pv 2) Z0d))) (λ_ _=>rfl)))))))))),?_⟩
 try dsimp only[cxK]
 refine⟨_,Z,_,Z,l,_,c,Z,SqL.of BO.lst,by rw[q0a,BO.len],c6,p,m.nm,m.ns,c,Z,hp,Gm.fits ok,λH1 S1=>?_⟩
 have SP:SqT K H1 p (.str m.nm::m.ns.map V.int):=SqT.of (S1 _ _ hp)
 have B1:=BO.same S1
 have BD1:=BD.same S1
 cases m with
 | mix a =>
  have ac:a<c:=ok
  refine⟨_,Z,p,_,_,.str "mix",Z,Z,SP,at0,Z,_,Z,decI (λ_=>?_) (λz=>absurd rfl z)⟩
  refine⟨_,Z,_,Z,p,_,_,.int a,Z,Z,SP,Z,_,_,Z,Z,⟨1,sz1,by omega,by omega⟩,?_⟩
  exact⟨l,ps,g,c,n,M,a,congrArg (λz=>[V.ref l,V.int z]) (ip a),BD1,c6,ac,n4,m1,λr H2 qs y hr2 S2 B2 M2=>kq0 r H2 qs y (S1.free hr2) (S1.trans S2) B2 M2⟩
 | mv v =>
 have SP:SqT K H1 p (.str v.nm::v.ns.map V.int):=SP
 have ok:v.Ok c:=ok
 have hp:H p=some (MvT v.nm v.ns):=hp
 have kq:∀ (r:W9) (H':Hp) (qs:U3) (y:Nat->A5),H r=none->Same H H'->Bo K H' r qs y c->(∀ w,w<2^c->y w=spin (g (v.to w)) (v.sp w:Nat))->Q (.ref r) H':=λr H' qs y h1 h2 h3 h4 =>
  kq0 r H' qs y h1 h2 ⟨h3.lst,h3.len,h3.vals,λi hi=>by rw[h4 i hi];exact(Z8c (BD.ok _ (Mv.to_lt c6 ok hi))).mono (by omega) (by omega)⟩ h4
 refine⟨_,Z,p,_,_,.str v.nm,Z,Z,SP,at0,Z,_,Z,decI (λz=>absurd (V.str.inj z) (X4d v)) (λ_=>?_)⟩
 refine⟨_,Z,p,_,_,.str v.nm,Z,Z,SP,at0,Z,_,Z,decI (λz=>?_) (λzt=>?_)⟩
 ·obtain⟨a,kk,rfl⟩:=X4g (V.str.inj z)
  have ok:a<c/\1<=kk/\kk<=7:=ok
  refine⟨_,Z,_,Z,p,_,_,.int a,Z,Z,SP,Z,_,_,Z,Z,⟨1,sz1,by omega,by omega⟩,_,Z,p,_,_,.int kk,Z,Z,SP,Z,?_⟩
  refine⟨l,ps,g,c,2^a,kk,(by show [V.ref l,V.int (1*2^((a:Int)).toNat),V.int (kk:Int)]=_;rw[ip]),B1,c6,λr H2 qs y hr2 S2 B2 M2=>kq r H2 qs y (S1.free hr2) (S1.trans S2) B2 λw hw=>?_⟩
  rw[M2 w hw]
  show _=spin (g w) ((if w&&&2^a=2^a then kk else 0:Nat):Int)
  split
  ·rfl
  ·rfl
 refine⟨_,Z,p,_,_,.str v.nm,Z,Z,SP,at0,Z,_,Z,decI (λz=>?_) (λzp=>?_)⟩
 ·obtain⟨a,b,rfl⟩:=X4h (V.str.inj z)
  have ok:a<c/\b<c/\a≠b:=ok
  refine⟨_,Z,_,Z,p,_,_,.int a,Z,Z,SP,Z,_,_,Z,Z,⟨1,sz1,by omega,by omega⟩,_,Z,p,_,_,.int b,Z,Z,SP,Z,_,_,Z,Z,⟨1,sz1,by omega,by omega⟩,_,_,Z,Z,?_⟩
  refine⟨l,ps,g,c,2^a ||| 2^b,4,(by show [V.ref l,V.int (Builtin.bitOr (1*2^((a:Int)).toNat) (1*2^((b:Int)).toNat)),V.int 4]=_;rw[ip,ip,or_i]),B1,c6,λr H2 qs y hr2 S2 B2 M2=>kq r H2 qs y (S1.free hr2) (S1.trans S2) B2 λw hw=>?_⟩
  rw[M2 w hw]
  show _=spin (g w) ((if w&&&(2^a ||| 2^b)=(2^a ||| 2^b) then 4 else 0:Nat):Int)
  split
  ·rfl
  ·rfl
 have nt:v.nm≠"turn":=λe=>zt (by rw[e])
 have np:v.nm≠"pair":=λe=>zp (by rw[e])
 have hlen:(((ps.map V.ref).length:Nat):Int).toNat=2^c:=by rw[q0a,BO.len,q1o]
 have SL:SqL K H1 l (ps.map V.ref):=SqL.of B1.lst
 refine⟨_,Z,l,_,Z,.inl SL,_,Z,by rw[q0a,BO.len];omega,by rw[q0a,BO.len];omega,λacc hacc=>?_⟩
 rw[hlen]
 refine Z5s (n:=2^c) (fr:=[some (.ref l),some (.ref p)]) (λi ys H'=>∃ (qs:U3) (y:Nat->A5),Same H1 H'/\H' acc=some (.lst ys)/\ys=qs.map V.ref/\qs.length=i/\ValsK K H' qs y/\∀ j,j<i->y j=g (v.to j)) (t64 p6)
  ⟨[],λ_=>((0,0,0,0),0),Z0f hacc _,Z0c,Z,Z,(λ_ _ z=>by cases z),λj hj=>absurd hj (q3d _)⟩ ?_ ?_
 ·rintro i ys H2 N hi hy ⟨qs,y,S2,a2,rfl,ql,v2,ok2⟩ kN
  refine⟨_,Z,_,Z,_,Z,i,p,v,c,(by show [V.int (0+(i:Int)),V.ref p]=_;rw[q5s]),S2 _ _ (S1 _ _ hp),ok,c6,nt,np,λH3 S3=>?_⟩
  obtain⟨q,_,hq,aq⟩:=((B1.same S2).same S3).at (Mv.to_lt c6 ok hi)
  refine⟨l,_,_,_,Z,Z,SqL.of (S3 _ _ (S2 _ _ B1.lst)),aq,?_⟩
  refine kN (.ref q) H3 (S3 _ _ a2) ⟨qs++[q],λj=>if j=qs.length then g (v.to i) else y j,Z1a (S2.trans S3) hacc,Z0c,by rw[q0k];rfl,by simp[ql],vals_upd (xs:=qs.map V.ref) (vals_push v2 S3 hq) (S3 _ _ a2),λj hj=>?_⟩
  show (if j=qs.length then g (v.to i) else y j)=_
  by_cases e:j=qs.length
  ·rw[if_pos e,e,ql]
  ·rw[if_neg e]
   exact ok2 j (by omega)
 ·rintro ys H2 hy ⟨qs,y,S2,a2,rfl,ql,v2,ok2⟩
  refine kq acc H2 qs y (S1.free hacc) (S1.trans S2) ⟨a2,ql,v2⟩ λw hw=>?_
  rw[ok2 w hw,X2l nt np w]
  rfl
def Mvs (H:Hp)(ps:U3)(ms:List Gm):Prop:=RowsM H ps (ms.map Gm.mm)
theorem Mvs.same {H H':Hp}{ps:U3}{ms:List Gm}(h:Mvs H ps ms)(s:Same H H'):Mvs H' ps ms:=RowsM.same h s
theorem Mvs.length {H:Hp}{ps:U3}{ms:List Gm}(h:Mvs H ps ms):ps.length=ms.length:=by
 have:=Paired.length h
 rw[q0a] at this
 exact this
theorem Mvs.get {H:Hp}:∀ {ps:U3}{ms:List Gm}{i:Nat}{p:W9},Mvs H ps ms->ps[i]?=some p->∃ m,ms[i]?=some m/\H p=some (MvT m.nm m.ns)
 | p'::ps,m::ms,0,p,.cons a r,h=>by
  have:p'=p:=by simpa using h
  subst this
  exact⟨m,Z,a⟩
 | p'::ps,m::ms,i+1,p,.cons a r,h=>by
  obtain⟨m',b,c⟩:=Mvs.get (ps:=ps) (ms:=ms) (i:=i) (p:=p) r (by simpa using h)
  exact⟨m',b,c⟩
structure Rw (H:Hp) (l:W9) (ps:U3) (ms:List Gm) (c:Nat):Prop where
 lst:H l=some (.lst (ps.map V.ref))
 mvs:Mvs H ps ms
 ok:∀ m∈ms,m.Ok c
 len:ms.length<=200
theorem Rw.same {H H':Hp}{l:W9}{ps:U3}{ms:List Gm}{c:Nat}(r:Rw H l ps ms c)(s:Same H H'):Rw H' l ps ms c:=⟨s _ _ r.lst,r.mvs.same s,r.ok,r.len⟩
def spRunK (K:U0):Sp:=λvs H Q _=>∃ (l lr:W9) (ps rp:U3) (f:Nat->A5) (c n M:Nat) (ms:List Gm),vs=[.ref l,.ref lr]/\Rw H lr rp ms c/\Bd5 K H l ps f c n M/\c<=6/\M<=1300/\n<=300000/\ms.length<=30 ∧
 ∀ (r:W9) (H':Hp) (qs:U3) (g:Nat->A5),H r=none->Same H H'->Bd5 K H' r qs g c (n+2670*ms.length) (M+ms.length)->Steps c ms f g->Q (.ref r) H'
theorem sc_run:FnScope ["board","row","behind","move"] ["board","row"] (Z0h (top 59)):=fS
theorem X6s (F:FunAt K "run" (top 59) .none)(X:K.In h)(G:Ng h mg)(B:Bs mg)(e9:Cal P w K mg base k "turned" ["board","move"] (Z8v K)):Cal P w K mg base (k+1) "run" ["board","row"] (spRunK K):=by
 have nd:=sc_run.nd
 refine F.cal X G sc_run (bnd2 λ_ _ _ _ _ _ _ _=>rfl) (λvs H Q E h=>?_) (λf cdv A outer s H vs Q E hr h=>?_)
 ·obtain⟨l,lr,ps,rp,f,c,n,M,ms,rfl,_⟩:=h;rfl
 obtain⟨l,lr,ps,rp,g,c,n,M,ms,rfl,RW,BD,c6,M3,n2,l30,kq⟩:=h
 have l200:=RW.len
 have lps:=RW.mvs.length
 have SR:SqL K H lr (rp.map V.ref):=SqL.of RW.lst
 refine⟨_,(@Z0e _ _ _ _ _ (@Z0o _ _ 2 _ _ _ _ nd rfl (Or.inl rfl) (Z2e Z2b rfl B.list q6a (Z0a (pv 0) Z0d)) rfl (.inl rfl))
  (@Z0e _ _ _ _ _ (Z1u PassesOwn.never rfl (Z1r (pv 1)) (Z0m (i:=3) nd rfl (Or.inl rfl))
   (@Z0g _ _ _ (@Z0o _ _ 2 _ _ _ _ nd rfl (Or.inl rfl) (Z0n e9 hr rfl (Z0a (pv 2) (Z0a (pv 3) Z0d))) rfl (.inl rfl))))
  (@Z0g _ _ _ (Z0l (pv 2))))),?_⟩
 try dsimp only[cxK]
 refine⟨_,Z,l,_,Z,.inl (SqL.of BD.lst),λb0 hb0=>?_⟩
 have s0:=Z0f hb0 (.lst (ps.map V.ref))
 refine⟨_,Z,lr,Z,⟨_,s0.seq SR⟩,Z3y (K:=K) (a:=lr) (xs:=rp.map V.ref) (λi σ H'=>Same H H'/\∃ (b:W9) (qs:U3) (y:Nat->A5) (v3:Option V),H b=none/\Bd5 K H' b qs y c (n+2670*i) (M+i)/\Steps c (ms.take i) g y/\σ=[some (.ref l),some (.ref lr),some (.ref b),v3])
  ⟨s0,b0,ps,g,none,hb0,⟨Z0c,BD.len,BD.vals.same s0,BD.ok⟩,by rw[q8q];exact .nil,Z⟩ (λi σ H' _ e=>e.1.seq SR) ?_ ?_⟩
 ·rintro i x σ H1 hx ⟨S1,b,qs,y,v3,hb,B1,ST,rfl⟩
  have ilt:i<ms.length:=by
   have:=(q0o.mp hx).1
   rw[q0a] at this
   omega
  rw[q0n] at hx
  obtain⟨p,hp,rfl⟩:=q0l.mp hx
  obtain⟨m,hm,p0⟩:=RW.mvs.get hp
  refine⟨_,Z,_,Z,b,p,qs,y,c,_,_,m,Z,S1 _ _ p0,RW.ok m (q0w hm),B1,c6,by omega,by omega,λr H2 rs z hr S2 B2 st=>?_⟩
  refine⟨S1.trans S2,r,rs,z,_,S1.free hr,⟨B2.lst,B2.len,B2.vals,λj hj=>(B2.ok j hj).mono (by omega) (by omega)⟩,?_,Z⟩
  rw[q1f,hm]
  exact ST.snoc st
 ·rintro σ H1 ⟨S1,b,qs,y,v3,hb,B1,ST,rfl⟩
  rw[q0a,lps] at B1 ST
  rw[q2a] at ST
  exact⟨_,Z,kq b H1 qs y hb S1 B1 ST⟩
end
end K64
namespace M71
inductive Mv where
 | flip (a:Int)
 | mix (a:Int)
 | turn (a k:Int)
 | iff (a b:Int)
 | pair (a b:Int)
 | swap (a b:Int)
 | cross (a b d:Int)
deriving DecidableEq
namespace Mv
noncomputable def cells:Mv->List Int
 | flip a=>[a]
 | mix a=>[a]
 | turn a _=>[a]
 | iff a b=>[a,b]
 | pair a b=>[a,b]
 | swap a b=>[a,b]
 | cross a b d=>[a,b,d]
end Mv
open Mv
end M71
set_option maxHeartbeats 1000000
namespace M72
open M71 M71.Mv
abbrev V4:=Int × Int × Int × Int
noncomputable def add (x y:V4):V4:=(x.1+y.1,x.2.1+y.2.1,x.2.2.1+y.2.2.1,x.2.2.2+y.2.2.2)
noncomputable def sm (n:Int)(x:V4):V4:=(n*x.1,n*x.2.1,n*x.2.2.1,n*x.2.2.2)
noncomputable def E (x:V4):V4:=(-x.2.2.2,x.1,x.2.1,x.2.2.1)
noncomputable def En:Nat->V4->V4
 | 0,x=>x
 | n+1,x=>E (En n x)
noncomputable def root (x:V4):V4:=(x.2.1-x.2.2.2,x.1+x.2.2.1,x.2.1+x.2.2.2,x.2.2.1-x.1)
theorem ext {x y:V4}(h1:x.1=y.1)(h2:x.2.1=y.2.1)(h3:x.2.2.1=y.2.2.1)(h4:x.2.2.2=y.2.2.2):x=y:=by
 obtain⟨a,b,c,d⟩:=x
 obtain⟨a',b',c',d'⟩:=y
 simp only at h1 h2 h3 h4
 rw[h1,h2,h3,h4]
theorem W0q (x y:V4):E (add x y)=add (E x) (E y):=by apply ext<;>simp only[E,add]<;>omega
theorem E_sm (n:Int)(x:V4):E (sm n x)=sm n (E x):=by apply ext<;>simp only[E,sm]<;>grind
theorem X8s (x:V4):E (root x)=root (E x):=by apply ext<;>simp only[E,root]<;>omega
theorem Y8a (x y:V4):root (add x y)=add (root x) (root y):=by apply ext<;>simp only[root,add]<;>omega
theorem X0p (n:Int)(x y:V4):sm n (add x y)=add (sm n x) (sm n y):=by apply ext<;>simp only[sm,add]<;>grind
theorem Y2s (m n:Int)(x:V4):sm m (sm n x)=sm (m*n) x:=by apply ext<;>simp only[sm]<;>grind
theorem Z6x (x:V4):sm 1 x=x:=by apply ext<;>simp only[sm]<;>omega
theorem add_comm (x y:V4):add x y=add y x:=by apply ext<;>simp only[add]<;>omega
theorem X1t (n:Nat)(x y:V4):En n (add x y)=add (En n x) (En n y):=by
 induction n with
 | zero=>rfl
 | succ n ih=>simp only[En,ih,W0q]
theorem Y9y (n:Nat)(k:Int)(x:V4):En n (sm k x)=sm k (En n x):=by
 induction n with
 | zero=>rfl
 | succ n ih=>simp only[En,ih,E_sm]
theorem X5g (n:Nat)(x:V4):En n (root x)=root (En n x):=by
 induction n with
 | zero=>rfl
 | succ n ih=>simp only[En,ih,X8s]
theorem Z9x (m n:Nat)(x:V4):En m (En n x)=En (m+n) x:=by
 induction m with
 | zero=>rw[q3o];rfl
 | succ m ih=>rw[Nat.succ_add];simp only[En,ih]
theorem En4 (x:V4):En 4 x=sm (-1) x:=by apply ext<;>simp only[En,E,sm]<;>omega
theorem En8 (x:V4):En 8 x=x:=by apply ext<;>simp only[En,E]<;>omega
theorem X1s (n:Nat)(x:V4):En n x=En (n%8) x:=by
 have:∀ q r,En (8*q+r) x=En r x:=by
  intro q r
  induction q with
  | zero=>rw[Nat.mul_zero,q3o]
  | succ q ih=>rw[show 8*(q+1)+r=8+(8*q+r) by omega,<-Z9x 8,En8,ih]
 conv=>lhs;rw[<-Nat.div_add_mod n 8]
 exact this _ _
noncomputable def fl (w a:Nat):Nat:=w^^^2^a
noncomputable def sw (w a b:Nat):Nat:=if w.testBit a=w.testBit b then w else fl (fl w a) b
theorem Y2k (w a j:Nat):(fl w a).testBit j=(w.testBit j ^^ decide (a=j)):=by
 unfold fl
 rw[q1h,q3s]
theorem Y0q (w a:Nat):fl (fl w a) a=w:=by
 unfold fl
 rw[q2w,q6p,q6o]
theorem Z2t (w a b j:Nat)(h:a≠b):(sw w a b).testBit j=if j=a then w.testBit b else if j=b then w.testBit a else w.testBit j:=by
 unfold sw
 by_cases e:w.testBit a=w.testBit b
 ·rw[if_pos e]
  split
  ·rename_i z;rw[z,e]
  ·split
   ·rename_i z;rw[z,e]
   ·rfl
 ·rw[if_neg e,Y2k,Y2k]
  by_cases ja:j=a
  ·rw[if_pos ja,ja,q0t rfl,q0j (λz=>h z.symm)]
   revert e
   cases w.testBit a<;>cases w.testBit b<;>simp
  ·rw[if_neg ja]
   by_cases jb:j=b
   ·rw[if_pos jb,jb,q0t (rfl:b=b),q0j h]
    revert e
    cases w.testBit a<;>cases w.testBit b<;>simp
   ·rw[if_neg jb,q0j (λz=>ja z.symm),q0j (λz=>jb z.symm)]
    simp
theorem Z7j {w v:Nat}(h:∀ j,w.testBit j=v.testBit j):w=v:=q5x h
noncomputable def to:Mv->Nat->Nat
 | .flip a,w=>fl w a.toNat
 | iff a b,w=>if w.testBit a.toNat then fl w b.toNat else w
 | swap a b,w=>sw w a.toNat b.toNat
 | cross a b d,w=>if w.testBit a.toNat then sw w b.toNat d.toNat else w
 | _,w=>w
noncomputable def sp:Mv->Nat->Nat
 | turn a k,w=>if w.testBit a.toNat then k.toNat else 0
 | pair a b,w=>if w.testBit a.toNat && w.testBit b.toNat then 4 else 0
 | _,_=>0
noncomputable def sg (w a:Nat):Int:=if w.testBit a then -1 else 1
abbrev Bv:=Nat->V4
noncomputable def op:Mv->Bv->Bv
 | mix a,F=>λw=>root (add (sm (sg w a.toNat) (F w)) (F (fl w a.toNat)))
 | m,F=>λw=>sm 2 (En (sp m w) (F (to m w)))
def Ok:Mv->Prop
 | .flip a=>0<=a
 | mix a=>0<=a
 | turn a k=>0<=a/\1<=k/\k<=7
 | iff a b=>0<=a/\0<=b/\a≠b
 | pair a b=>0<=a/\0<=b/\a≠b
 | swap a b=>0<=a/\0<=b/\a≠b
 | cross a b d=>0<=a/\0<=b/\0<=d/\a≠b/\a≠d/\b≠d
noncomputable def isMix:Mv->Bool
 | mix _=>true
 | _=>false
theorem Z4j {m:Mv}(h:isMix m=false)(F:Bv)(w:Nat):op m F w=sm 2 (En (sp m w) (F (to m w))):=by
 cases m<;>first | rfl | cases h
theorem Ok.nn {m:Mv}(ok:Ok m):∀ c∈m.cells,0<=c:=by
 cases m<;>simp only[Ok,cells] at*<;> simp<;>omega
end M72
namespace M75
open M71 M71.Mv M72 Pc
noncomputable def bn (b:Bool):Nat:=if b then 1 else 0
noncomputable def bp (x:Nat):Bool:=decide (pc x%2=1)
theorem Y7e (x y:Nat):bp (x^^^y)=(bp x ^^ bp y):=by
 unfold bp
 have:=pcx x y
 have c:pc (x^^^y)%2=(pc x%2+pc y%2)%2:=by omega
 rw[c]
 rcases q0v (pc x) with a | a<;>rcases q0v (pc y) with b | b<;>rw[a,b]<;>rfl
theorem X0x (a:Nat):pc (2^a)=1:=by
 induction a with
 | zero=>decide +kernel
 | succ n ih =>
  have h0:(2:Nat)^(n+1)≠0:=q2y (q3c _)
  unfold pc
  rw[dif_neg h0,q8e,Nat.mul_mod_left,Nat.mul_div_cancel _ (by decide),ih]
theorem X4z:bp 0=false:=by decide +kernel
theorem X8l (s a:Nat):bp (2^a&&&s)=s.testBit a:=by
 have e:(2^a&&&s)=if s.testBit a then 2^a else 0:=by
  apply q5x
  intro j
  rw[q3l,q3s]
  by_cases h:a=j
  ·subst h
   cases hb:s.testBit a<;>simp
  ·cases hb:s.testBit a<;>simp[h,q3s]
 rw[e]
 cases s.testBit a
 ·exact X4z
 ·show bp (2^a)=true
  unfold bp
  rw[X0x]
  rfl
theorem Z7i (x s a:Nat):bp (fl x a&&&s)=(bp (x&&&s) ^^ s.testBit a):=by
 unfold fl
 rw[Nat.and_xor_distrib_right,Y7e,X8l]
theorem Z4m (x s a:Nat):bp (x&&&fl s a)=(bp (x&&&s) ^^ x.testBit a):=by
 rw[Nat.and_comm,Z7i,Nat.and_comm s]
theorem W0n (x a b:Nat):bp (sw x a b)=bp x:=by
 unfold sw
 split
 ·rfl
 ·unfold fl
  rw[Y7e,Y7e]
  have h:∀ j,bp (2^j)=true:=λj=>by unfold bp;rw[X0x];rfl
  rw[h,h]
  cases bp x<;>rfl
abbrev Mk:=Nat × Nat × Nat
noncomputable def lay (m:Mk)(F:Bv):Bv:=λw=>En (2*m.1+4*bn (bp ((w^^^m.2.1)&&&m.2.2))) (F (w^^^m.2.1))
noncomputable def mvd:Mv->Mk->Mk
 | .flip a,(k,f,s)=>(if s.testBit a.toNat then (k+2)%4 else k,f,s)
 | mix a,(k,f,s)=>(if f.testBit a.toNat && s.testBit a.toNat then (k+2)%4 else k,if f.testBit a.toNat=s.testBit a.toNat then f else fl f a.toNat,if f.testBit a.toNat=s.testBit a.toNat then s else fl s a.toNat)
 | turn a j,(k,f,s)=>if f.testBit a.toNat then ((k+j.toNat / 2)%4,f,if j.toNat%4=2 then fl s a.toNat else s) else (k,f,s)
 | iff a b,(k,f,s)=>(k,if f.testBit a.toNat then fl f b.toNat else f,if s.testBit b.toNat then fl s a.toNat else s)
 | pair a b,(k,f,s)=>(if f.testBit a.toNat && f.testBit b.toNat then (k+2)%4 else k,f,(if f.testBit b.toNat then fl (if f.testBit a.toNat then fl s b.toNat else s) a.toNat else if f.testBit a.toNat then fl s b.toNat else s))
 | swap a b,(k,f,s)=>(k,sw f a.toNat b.toNat,sw s a.toNat b.toNat)
 | _,m=>m
def Br:Mv->Prop
 | cross _ _ _=>False
 | turn _ j=>j.toNat%2=0
 | _=>True
theorem Y9z {m n:Nat}(h:m%8=n%8)(x:V4):En m x=En n x:=by rw[X1s m,X1s n,h]
theorem Z5b {m:Mv}(hm:isMix m=false){F:Bv}{w:Nat}{p q:Mk}(h1:to m w^^^p.2.1=to m (w^^^q.2.1))
  (h2:(sp m w+(2*p.1+4*bn (bp ((to m w^^^p.2.1)&&&p.2.2))))%8=(2*q.1+4*bn (bp ((w^^^q.2.1)&&&q.2.2))+sp m (w^^^q.2.1))%8):op m (lay p F) w=lay q (op m F) w:=by
 unfold lay
 rw[Z4j hm,Z4j hm,Y9y,Z9x,Z9x,h1]
 congr 1
 rw[<-h1]
 exact Y9z h2 _
theorem Z9m (w f a:Nat):fl w a^^^f=fl (w^^^f) a:=by
 unfold fl
 rw[q2w,Nat.xor_comm (2^a),<-q2w]
theorem Y0w (w f a:Nat):w^^^fl f a=fl (w^^^f) a:=by
 unfold fl
 rw[q2w]
theorem Y7x {a:Int}(F:Bv)(w:Nat)(p:Mk):op (.flip a) (lay p F) w=lay (mvd (.flip a) p) (op (.flip a) F) w:=by
 obtain⟨k,f,s⟩:=p
 refine Z5b rfl (Z9m _ _ _) ?_
 show (0+(2*k+4*bn (bp ((fl w a.toNat^^^f)&&&s))))%8=(2*(if s.testBit a.toNat then (k+2)%4 else k)+4*bn (bp ((w^^^f)&&&s))+0)%8
 rw[Z9m,Z7i]
 cases s.testBit a.toNat<;>cases bp ((w^^^f)&&&s)<;>simp[bn]<;>omega
theorem Y7u {a j:Int}(he:j.toNat%2=0)(hj:j.toNat<=7)(F:Bv)(w:Nat)(p:Mk):op (turn a j) (lay p F) w=lay (mvd (turn a j) p) (op (turn a j) F) w:=by
 obtain⟨k,f,s⟩:=p
 generalize hJ:j.toNat=J at he hj
 by_cases hf:f.testBit a.toNat=true
 ·have e:mvd (turn a j) (k,f,s)=((k+J / 2)%4,f,if J%4=2 then fl s a.toNat else s):=by
   show (if _ then _ else _)=_
   rw[if_pos hf,hJ]
  rw[e]
  refine Z5b rfl rfl ?_
  show ((if w.testBit a.toNat then j.toNat else 0)+(2*k+4*bn (bp ((w^^^f)&&&s))))%8=(2*((k+J / 2)%4)+4*bn (bp ((w^^^f)&&&if J%4=2 then fl s a.toNat else s))+(if (w^^^f).testBit a.toNat then j.toNat else 0))%8
  have hx:(w^^^f).testBit a.toNat=!w.testBit a.toNat:=by rw[q1h,hf];cases w.testBit a.toNat<;>rfl
  rw[hx,hJ]
  have:J=0∨J=2∨J=4∨J=6:=by omega
  rcases this with rfl | rfl | rfl | rfl
  ·rw[if_neg (show ¬ (0:Nat)%4=2 by decide)]
   generalize bn (bp ((w^^^f)&&&s))=Z
   cases w.testBit a.toNat<;>simp<;>omega
  ·rw[if_pos (show (2:Nat)%4=2 by decide),Z4m,hx]
   cases w.testBit a.toNat<;>cases bp ((w^^^f)&&&s)<;>simp[bn]<;>omega
  ·rw[if_neg (show ¬ (4:Nat)%4=2 by decide)]
   generalize bn (bp ((w^^^f)&&&s))=Z
   cases w.testBit a.toNat<;>simp<;>omega
  ·rw[if_pos (show (6:Nat)%4=2 by decide),Z4m,hx]
   cases w.testBit a.toNat<;>cases bp ((w^^^f)&&&s)<;>simp[bn]<;>omega
 ·have e:mvd (turn a j) (k,f,s)=(k,f,s):=by
   show (if _ then _ else _)=_
   rw[if_neg hf]
  rw[e]
  refine Z5b rfl rfl ?_
  show ((if w.testBit a.toNat then j.toNat else 0)+_)%8=(_+(if (w^^^f).testBit a.toNat then j.toNat else 0))%8
  have hx:(w^^^f).testBit a.toNat=w.testBit a.toNat:=by
   rw[q1h,(by simpa using hf:f.testBit a.toNat=false)]
   cases w.testBit a.toNat<;>rfl
  rw[hx,q8g]
  rfl
theorem Z3s {w a b:Nat}(h:a≠b):(fl w b).testBit a=w.testBit a:=by
 rw[Y2k,q0j (λz:b=a=>h z.symm)]
 cases w.testBit a<;>rfl
theorem Z6r (w a:Nat):(fl w a).testBit a=!w.testBit a:=by
 rw[Y2k]
 simp
theorem X2d {a b:Int}(ne:a.toNat≠b.toNat)(F:Bv)(w:Nat)(p:Mk):op (iff a b) (lay p F) w=lay (mvd (iff a b) p) (op (iff a b) F) w:=by
 obtain⟨k,f,s⟩:=p
 generalize hA:a.toNat=A at ne
 generalize hB:b.toNat=B at ne
 have t:∀ v,to (iff a b) v=if v.testBit A then fl v B else v:=λv=>by show (if _ then _ else _)=_;rw[hA,hB]
 have e:mvd (iff a b) (k,f,s)=(k,if f.testBit A then fl f B else f,if s.testBit B then fl s A else s):=by
  show (_,(if _ then _ else _),(if _ then _ else _))=_
  rw[hA,hB]
 rw[e]
 have h1:to (iff a b) w^^^f=to (iff a b) (w^^^if f.testBit A then fl f B else f):=by
  rw[t,t]
  cases hf:f.testBit A<;>cases hw:w.testBit A<;>simp[hf,hw,q1h,Y0w,Z9m,Z3s ne,Y0q]
 refine Z5b rfl h1 ?_
 show (0+(2*k+4*bn (bp ((to (iff a b) w^^^f)&&&s))))%8=(2*k+4*bn (bp ((w^^^if f.testBit A then fl f B else f)&&&if s.testBit B then fl s A else s))+0)%8
 rw[q3o,q5c]
 congr 3
 congr 1
 rw[t]
 cases hf:f.testBit A<;>cases hw:w.testBit A<;>cases hs:s.testBit B<;>simp[Y0w,Z9m,Z7i,Z4m,q1h,hf,hw,hs,Z3s ne,Z3s (Ne.symm ne)]
theorem Y7w {a b:Int}(ne:a.toNat≠b.toNat)(F:Bv)(w:Nat)(p:Mk):op (pair a b) (lay p F) w=lay (mvd (pair a b) p) (op (pair a b) F) w:=by
 obtain⟨k,f,s⟩:=p
 refine Z5b rfl rfl ?_
 show ((if w.testBit a.toNat && w.testBit b.toNat then 4 else 0)+(2*k+4*bn (bp ((w^^^f)&&&s))))%8=(2*(if f.testBit a.toNat && f.testBit b.toNat then (k+2)%4 else k)+4*bn (bp ((w^^^f)&&&(if f.testBit b.toNat then fl (if f.testBit a.toNat then fl s b.toNat else s) a.toNat else if f.testBit a.toNat then fl s b.toNat else s)))+(if (w^^^f).testBit a.toNat && (w^^^f).testBit b.toNat then 4 else 0))%8
 rw[q1h,q1h]
 generalize a.toNat=A at *
 generalize b.toNat=B at *
 cases hfa:f.testBit A<;>cases hfb:f.testBit B<;>cases hwa:w.testBit A<;>cases hwb:w.testBit B<;>simp[Z4m,q1h,hfa,hfb,hwa,hwb]<;>cases bp ((w^^^f)&&&s)<;>simp[bn]<;>omega
theorem Y7v {a b:Int}(ne:a.toNat≠b.toNat)(F:Bv)(w:Nat)(p:Mk):op (swap a b) (lay p F) w=lay (mvd (swap a b) p) (op (swap a b) F) w:=by
 obtain⟨k,f,s⟩:=p
 have h1:sw w a.toNat b.toNat^^^f=sw (w^^^sw f a.toNat b.toNat) a.toNat b.toNat:=by
  apply Z7j
  intro j
  rw[q1h,Z2t _ _ _ _ ne,Z2t _ _ _ _ ne,q1h,q1h,q1h,Z2t _ _ _ _ ne,Z2t _ _ _ _ ne,Z2t _ _ _ _ ne]
  by_cases ja:j=a.toNat
  ·subst ja;simp[Ne.symm ne]
  ·by_cases jb:j=b.toNat
   ·subst jb;simp[Ne.symm ne]
   ·simp[ja,jb]
 refine Z5b rfl h1 ?_
 show (0+(2*k+4*bn (bp ((sw w a.toNat b.toNat^^^f)&&&s))))%8=(2*k+4*bn (bp ((w^^^sw f a.toNat b.toNat)&&&sw s a.toNat b.toNat))+0)%8
 have e:((sw w a.toNat b.toNat^^^f)&&&s)=sw ((w^^^sw f a.toNat b.toNat)&&&sw s a.toNat b.toNat) a.toNat b.toNat:=by
  rw[h1]
  apply Z7j
  intro j
  rw[q3l,Z2t _ _ _ _ ne,Z2t _ _ _ _ ne,q3l,q3l,q3l,Z2t s _ _ _ ne,Z2t s _ _ _ ne,Z2t s _ _ _ ne]
  by_cases ja:j=a.toNat
  ·subst ja;simp[Ne.symm ne]
  ·by_cases jb:j=b.toNat
   ·subst jb;simp[Ne.symm ne]
   ·simp[ja,jb]
 rw[e,W0n,q3o,q5c]
noncomputable def sgB (b:Bool):Int:=if b then -1 else 1
theorem Y0v (n:Nat)(b:Bool)(x:V4):En (n+4*bn b) x=sm (sgB b) (En n x):=by
 cases b
 ·show En (n+0) x=sm 1 (En n x)
  rw[Z6x,q5c]
 ·show En (n+4) x=sm (-1) (En n x)
  rw[q8g,<-Z9x,En4]
theorem X6c (w a:Nat):sg w a=sgB (w.testBit a):=by
 unfold sg sgB
 cases w.testBit a<;>rfl
theorem Z7u (a b:Bool):sgB a*sgB b=sgB (a ^^ b):=by cases a<;>cases b<;>rfl
theorem X2c {a:Int}(F:Bv)(w:Nat)(p:Mk):op (mix a) (lay p F) w=lay (mvd (mix a) p) (op (mix a) F) w:=by
 obtain⟨k,f,s⟩:=p
 generalize hA:a.toNat=A
 have eL:∀ G:Bv,∀ v,op (mix a) G v=root (add (sm (sgB (v.testBit A)) (G v)) (G (fl v A))):=λG v=>by
  show root (add (sm (sg v a.toNat) (G v)) (G (fl v a.toNat)))=_
  rw[hA,X6c]
 have e:mvd (mix a) (k,f,s)=(if f.testBit A && s.testBit A then (k+2)%4 else k,if f.testBit A=s.testBit A then f else fl f A,if f.testBit A=s.testBit A then s else fl s A):=by
  show ((if _ then _ else _),(if _ then _ else _),(if _ then _ else _))=_
  rw[hA]
 rw[e,eL]
 unfold lay
 simp only[]
 rw[eL,X5g,X1t,Y9y,Y0v,Y0v,Y0v,Y0v,Y2s,Y2s,Z7u,Z7u,Z9m,Z7i]
 have k2:∀ x:V4,En (2*((k+2)%4)) x=sm (sgB true) (En (2*k) x):=λx=>by
  rw[<-Y0v]
  exact Y9z (by show (2*((k+2)%4))%8=(2*k+4*1)%8;omega) x
 cases hf:f.testBit A<;>cases hs:s.testBit A
 ·simp[q1h,hf,hs]
 ·simp[q1h,hf,hs,Y0w,Z7i,Z4m,Y0q,Z6r]
  rw[add_comm]
  cases w.testBit A<;>cases bp ((w^^^f)&&&s)<;>simp[sgB]
 ·simp[q1h,hf,hs,Y0w,Z7i,Z4m,Y0q,Z6r]
  rw[add_comm]
  cases w.testBit A<;>cases bp ((w^^^f)&&&s)<;>simp[sgB]
 ·simp[q1h,hf,hs,k2,Y2s,Z7u]
theorem X2b {m:Mv}(o:Ok m)(b:Br m)(F:Bv)(p:Mk):op m (lay p F)=lay (mvd m p) (op m F):=by
 funext w
 cases m with
 | flip a=>exact Y7x F w p
 | mix a=>exact X2c F w p
 | turn a j=>exact Y7u b (by have:0<=a/\1<=j/\j<=7:=o;omega) F w p
 | iff a c=>exact X2d (by have:0<=a/\0<=c/\a≠c:=o;omega) F w p
 | pair a c=>exact Y7w (by have:0<=a/\0<=c/\a≠c:=o;omega) F w p
 | swap a c=>exact Y7v (by have:0<=a/\0<=c/\a≠c:=o;omega) F w p
 | cross a c d=>exact absurd b id
end M75
namespace M72
open M71 M71.Mv
noncomputable def rowop:List Mv->Bv->Bv
 | [],F=>F
 | m::ms,F=>rowop ms (op m F)
theorem X0o {n:Int}(h:n≠0){x y:V4}(e:sm n x=sm n y):x=y:=by
 have e1:=congrArg (λt:V4=>t.1) e
 have e2:=congrArg (λt:V4=>t.2.1) e
 have e3:=congrArg (λt:V4=>t.2.2.1) e
 have e4:=congrArg (λt:V4=>t.2.2.2) e
 exact ext (q2q h e1) (q2q h e2) (q2q h e3) (q2q h e4)
theorem X8w {w a b:Nat}(n:a≠b):sw (sw w a b) a b=w:=by
 apply Z7j
 intro j
 rw[Z2t _ _ _ _ n]
 by_cases ja:j=a
 ·rw[if_pos ja,Z2t _ _ _ _ n,if_neg (λz=>n z.symm),if_pos rfl,ja]
 ·rw[if_neg ja]
  by_cases jb:j=b
  ·rw[if_pos jb,Z2t _ _ _ _ n,if_pos rfl,jb]
  ·rw[if_neg jb,Z2t _ _ _ _ n,if_neg ja,if_neg jb]
def VOk (c:Nat)(m:Mv):Prop:=Ok m/\∀ x∈m.cells,x<(c:Int)
end M72
set_option maxHeartbeats 4000000
namespace L2
section
variable {X:Cx}
end
end L2
namespace L2
end L2
namespace L2
section
variable {prog:U8}{w:W1}{A:W6}{E:U2}{s:U7}{l:W9}
theorem Y0z {vs:U9}{Q:U2}(ht:s.heap.IsTuple l vs)
  (h:∀ hp:Heap,hp=s.heap.push { cls:=.type "tuple_iterator",data:=.fields #[.ref l,.int 0 0] }->hp.IsTupleIter s.heap.objs.size l 0/\hp.IsTuple l vs->(∀ b∈[s.heap.objs.size,l],b<hp.objs.size)->l≠s.heap.objs.size →
   (∀ h':Heap,(∀ b o,b ∉ [s.heap.objs.size]->hp.get? b=some o->h'.get? b=some o)->∀ b o,s.heap.get? b=some o->h'.get? b=some o)->Q (.ref s.heap.objs.size) { s with heap:=hp }) :
  wpAny (model prog w) A (pyIter (.ref l)) Q E s:=by
 have low:l<s.heap.objs.size:=by obtain⟨_,e,_⟩:=ht;exact q0e e
 refine q5d ht (h _ rfl ⟨⟨_,q0m _ rfl,Z,Z⟩,ht.push _⟩ (λb hb=>?_) (q0r low) λh' hk b o e=>?_)
 ·rw[q1z]
  simp only[q0q,q0u,q2e] at hb
  rcases hb with rfl | rfl
  ·exact q5v _
  ·exact q3a low
 ·have:=q0e e
  exact hk b o (by simp only[q0q,q0u,q2e];exact q0r this) (q0c _ e)
theorem X4k {xs:Array (Int × Tok)}{Q:U2}(hh:A.handled=none)(ht:s.heap.IsTuple l (intItems xs))(hne:0<xs.size)
  (h:∀ (v:W2) (h':Heap) (tk:Nat),(intItems xs)[argBest (λi j=>decide (PySem.numAt xs i<PySem.numAt xs j)) (xs.size-1)]?=some v->(∀ b o,s.heap.get? b=some o->h'.get? b=some o)->Q v { s with heap:=h',toks:=tk }) :
  wpAny (model prog w) A (call (.builtin "min") [.ref l]) Q E s:=by
 refine call_min_walk (Y0z ht λhp e st hf hl old=>?_)
 have z:(intItems xs).size=xs.size:=by simp[intItems]
 refine⟨_,_,_,_,_,_,_,Z,Walks.tuple (A:=A.in1) hh _ l hl (intItems xs),st,hf,by rw[z];exact hne,CmpOf.ints_lt (PySem.numAt xs) (λ_ _=>q8t),λv h' tk hP hk=>?_⟩
 rw[z] at hP
 exact h v h' tk hP (old h' hk)
theorem X4l {xs:Array (Int × Tok)}{Q:U2}(hh:A.handled=none)(ht:s.heap.IsTuple l (intItems xs))(hne:0<xs.size)
  (h:∀ (v:W2) (h':Heap) (tk:Nat),(intItems xs)[argBest (λi j=>decide (PySem.numAt xs i>PySem.numAt xs j)) (xs.size-1)]?=some v->(∀ b o,s.heap.get? b=some o->h'.get? b=some o)->Q v { s with heap:=h',toks:=tk }) :
  wpAny (model prog w) A (call (.builtin "max") [.ref l]) Q E s:=by
 refine call_max_walk (Y0z ht λhp e st hf hl old=>?_)
 have z:(intItems xs).size=xs.size:=by simp[intItems]
 refine⟨_,_,_,_,_,_,_,Z,Walks.tuple (A:=A.in1) hh _ l hl (intItems xs),st,hf,by rw[z];exact hne,CmpOf.ints_gt (PySem.numAt xs) (λ_ _=>q8t),λv h' tk hP hk=>?_⟩
 rw[z] at hP
 exact h v h' tk hP (old h' hk)
end
section
variable {X:Cx}
theorem Y2f {its:U5}{ns:U6}(rv:Vals (ns.map V.int) its):∃ xs:Array (Int × Tok),its.toArray=intItems xs/\ns=xs.toList.map (·.1):=by
 have hi:=Z2a rv
 obtain⟨xs,e⟩:=hi.allInts.items
 exact⟨xs,e,by rw[<-hi.numsOf,<-nums_intItems,<-e]⟩
theorem Y6z (hc:X.calm=true):CallR X (.builtin "min") (λxs H Q=>∃ (p:W9) (ns:U6),xs=[.ref p]/\SqT X.K H p (ns.map V.int)/\0<ns.length/\∀ M,M∈ns->(∀ a,a∈ns->M<=a)->Q (.int M) H):=by
 intro pins s σ H xs us Q I r h
 obtain⟨p,ns,rfl,hq,hn,q⟩:=h
 obtain⟨u,rfl,ru⟩:=r.one
 cases ru
 obtain⟨its,rv,pl,hz⟩:=I.tuple hq
 obtain⟨xs,e,hns⟩:=Y2f rv
 have hsz:0<xs.size:=by rw[hns,q0a,q0z] at hn;exact hn
 rw[e] at pl
 refine X4k (show X.A.handled=none from I.ok.hd hc) pl hsz λv h' tk hv hk=>?_
 obtain⟨t,rfl⟩:=q8t hv
 obtain⟨h1,h2⟩:=argBest_lt (PySem.numAt xs) (xs.size-1)
 refine⟨.int (PySem.numAt xs (argBest (λi j=>decide (PySem.numAt xs i<PySem.numAt xs j)) (xs.size-1))),H,I.kept (t':=tk) hk,⟨_,Z⟩,q _ ?_ λa ha=>?_⟩
 ·rw[hns,numAt_eq];exact getD_mem (by rw[q0a,q0z];omega)
 ·rw[hns] at ha
  obtain⟨j,hj,rfl⟩:=mem_getD ha
  rw[q0a,q0z] at hj
  rw[<-numAt_eq];exact h2 j (by omega)
theorem Y7a (hc:X.calm=true):CallR X (.builtin "max") (λxs H Q=>∃ (p:W9) (ns:U6),xs=[.ref p]/\SqT X.K H p (ns.map V.int)/\0<ns.length/\∀ M,M∈ns->(∀ a,a∈ns->a<=M)->Q (.int M) H):=by
 intro pins s σ H xs us Q I r h
 obtain⟨p,ns,rfl,hq,hn,q⟩:=h
 obtain⟨u,rfl,ru⟩:=r.one
 cases ru
 obtain⟨its,rv,pl,hz⟩:=I.tuple hq
 obtain⟨xs,e,hns⟩:=Y2f rv
 have hsz:0<xs.size:=by rw[hns,q0a,q0z] at hn;exact hn
 rw[e] at pl
 refine X4l (show X.A.handled=none from I.ok.hd hc) pl hsz λv h' tk hv hk=>?_
 obtain⟨t,rfl⟩:=q8t hv
 obtain⟨h1,h2⟩:=argBest_gt (PySem.numAt xs) (xs.size-1)
 refine⟨.int (PySem.numAt xs (argBest (λi j=>decide (PySem.numAt xs i>PySem.numAt xs j)) (xs.size-1))),H,I.kept (t':=tk) hk,⟨_,Z⟩,q _ ?_ λa ha=>?_⟩
 ·rw[hns,numAt_eq];exact getD_mem (by rw[q0a,q0z];omega)
 ·rw[hns] at ha
  obtain⟨j,hj,rfl⟩:=mem_getD ha
  rw[q0a,q0z] at hj
  rw[<-numAt_eq];exact h2 j (by omega)
end
end L2
namespace K55S
open L2 Ba M71
open K64 (top Bs)
noncomputable def nm:Mv->Str
 | .flip _=>"flip"
 | .mix _=>"mix"
 | .turn _ _=>"turn"
 | .iff _ _=>"if"
 | .pair _ _=>"pair"
 | .swap _ _=>"swap"
 | .cross _ _ _=>"cross"
noncomputable def ns:Mv->List Int
 | .flip a=>[a]
 | .mix a=>[a]
 | .turn a k=>[a,k]
 | .iff a b=>[a,b]
 | .pair a b=>[a,b]
 | .swap a b=>[a,b]
 | .cross a b d=>[a,b,d]
noncomputable def hd:Mv->Int
 | .flip a=>a
 | .mix a=>a
 | .turn a _=>a
 | .iff a _=>a
 | .pair a _=>a
 | .swap a _=>a
 | .cross a _ _=>a
noncomputable def code:Mv->Nat
 | .flip _=>0
 | .mix _=>1
 | .turn _ _=>2
 | .iff _ _=>3
 | .pair _ _=>4
 | .swap _ _=>5
 | .cross _ _ _=>6
noncomputable def nms:List Str:=["flip","mix","turn","if","pair","swap","cross"]
theorem Y0j (m:Mv):nm m=nms.getD (code m) "":=by cases m<;>rfl
theorem X4f:∀ i,i<7->∀ j,j<7->nms.getD i ""=nms.getD j ""->i=j:=by decide +kernel
theorem Y6v (m:Mv):code m<7:=by cases m<;>simp[code]
theorem X6y {x:Mv}{i:Nat}(hi:i<7):nm x=nms.getD i "" ↔ code x=i:=⟨λh=>X4f _ (Y6v x) _ hi (by rw[<-Y0j,h]),λh=>by rw[Y0j,h]⟩
noncomputable abbrev mm (m:Mv):Mm:=(nm m,ns m)
theorem ok7:∀ i,i<7->PyData.strOk (nms.getD i "")=true:=by decide +kernel
theorem okS (m:Mv):PyData.strOk (mm m).1=true:=by
 show PyData.strOk (nm m)=true
 rw[Y0j]
 exact ok7 _ (Y6v m)
theorem X4c (m:Mv):∃ r,ns m=hd m::r:=by cases m<;>exact⟨_,Z⟩
theorem at0m (m:Mv):atI (.str (nm m)::(ns m).map V.int) 0=some (.str (nm m)):=L2.Z1y (show (V.str (nm m)::(ns m).map V.int)[0]?=some _ from rfl)
theorem at1m (m:Mv):atI (.str (nm m)::(ns m).map V.int) 1=some (.int (hd m)):=by
 obtain⟨r,e⟩:=X4c m
 rw[e]
 exact L2.Z1y (show (V.str (nm m)::V.int (hd m)::r.map V.int)[1]?=some _ from rfl)
theorem X4r (m:Mv):nm m="turn" ↔ code m=2:=X6y (i:=2) (by decide)
theorem Y9h (m:Mv):nm m="cross" ↔ code m=6:=X6y (i:=6) (by decide)
theorem Y3l (m:Mv):∃ r,m.cells=hd m::r:=by cases m<;>exact⟨_,Z⟩
theorem Z5u {H H':Hp}{l:W9}(s:Same H H')(h:H' l=none):H l=none:=by
 cases e:H l with
 | none=>rfl
 | some o=>rw[s _ _ e] at h;cases h
def RowAt (H:Hp)(l:W9)(row:List Mv):Prop:=∃ ps,H l=some (.lst (ps.map V.ref))/\RowsM H ps (row.map mm)
theorem RowAt.same {H H':Hp}{l:W9}{row:List Mv}(h:RowAt H l row)(s:Same H H'):RowAt H' l row:=by
 obtain⟨ps,a,b⟩:=h
 exact⟨ps,s _ _ a,b.same s⟩
theorem Z7e {x:V}{xs:List V}:HT.sIx (x::xs).length 0 (some 1)=1:=by
 have:=HT.Z7w (x::xs).length 0 1
 rw[show ((1:Nat):Int)=1 from rfl] at this
 rw[this]
 simp
theorem Z5g {x:V}{xs:List V}:cutV (x::xs) (some 1) none=xs:=by
 unfold cutV
 rw[Z7e]
 have e2:HT.sIx (x::xs).length (x::xs).length none=(x::xs).length:=rfl
 rw[e2]
 simp
end K55S
namespace K55S
open L2 Ba Am M71
open K64 (top Bs va vb vc vd Gm Step Steps Ams Mix MixAt)
open M72 (V4 sm add root E En fl sw sg rowop op VOk)
def Vl (m:Nat)(v:V4)(x:A5):Prop:=∃ M0:Int,∀ M,M0<=M->va x M=v.1*p2 (M-m)/\vb x M=v.2.1*p2 (M-m)/\vc x M=v.2.2.1*p2 (M-m)/\vd x M=v.2.2.2*p2 (M-m)
theorem Vl.once {m:Nat}{v x:V4}{h:Int}(l:Vl m v (x,h)):Vl m (E v) (E x,h):=by
 obtain⟨M0,l⟩:=l
 refine⟨M0,λM hM=>?_⟩
 obtain⟨l1,l2,l3,l4⟩:=l M hM
 unfold va at l1
 unfold vb at l2
 unfold vc at l3
 unfold vd at l4
 unfold va vb vc vd
 simp only[E] at l1 l2 l3 l4 ⊢
 rw[Int.neg_mul,Int.neg_mul,l4]
 exact⟨Z,l1,l2,l3⟩
theorem Vl.rot {m:Nat}{v x:V4}{h:Int}(l:Vl m v (x,h)):∀ j,Vl m (En j v) (Ba.rot j x,h)
 | 0=>l
 | j+1=>(Vl.rot l j).once
theorem Vl.up {m:Nat}{v:V4}{x:A5}(l:Vl m v x)(n:Nat):Vl (m+n) (sm (2^n) v) x:=by
 obtain⟨M0,l⟩:=l
 refine⟨max M0 0+m+n,λM hM=>?_⟩
 obtain⟨l1,l2,l3,l4⟩:=l M (by omega)
 have e:p2 (M-m)=2^n*p2 (M-((m+n:Nat):Int)):=by
  rw[Z4u (a:=M-m) (b:=(n:Int)) (by omega) (by omega),q6t]
  congr 1
  unfold p2
  congr 1
  omega
 rw[l1,l2,l3,l4,e]
 simp only[sm]
 refine⟨?_,?_,?_,?_⟩<;>grind
theorem Vl.mix {m:Nat}{s:Int}{v u:V4}{x y z:A5}(l:Vl m v x)(l':Vl m u y)(mx:Mix s x y z)(x0:0<=x.2)(y0:0<=y.2):Vl (m+1) (root (add v (sm s u))) z:=by
 obtain⟨M1,l⟩:=l
 obtain⟨M2,l'⟩:=l'
 obtain⟨M3,h3⟩:=mx.vals x0 y0
 refine⟨max M1 0+max M2 0+max M3 0+1,λN hN=>?_⟩
 obtain⟨M,rfl⟩:∃ M,N=M+1:=⟨N-1,by omega⟩
 obtain⟨a1,a2,a3,a4⟩:=l M (by omega)
 obtain⟨b1,b2,b3,b4⟩:=l' M (by omega)
 obtain⟨c1,c2,c3,c4⟩:=h3 M (by omega)
 have e:M+1-((m+1:Nat):Int)=M-m:=by omega
 rw[c1,c2,c3,c4,a1,a2,a3,a4,b1,b2,b3,b4,e]
 simp only[root,add,sm]
 refine⟨?_,?_,?_,?_⟩<;>grind
theorem Vl.same {m:Nat}{v:V4}{x y:A5}(l:Vl m v x)(l':Vl m v y)(ax:Amt x.1.1 x.1.2.1 x.1.2.2.1 x.1.2.2.2 x.2)(ay:Amt y.1.1 y.1.2.1 y.1.2.2.1 y.1.2.2.2 y.2):x=y:=by
 obtain⟨M1,l⟩:=l
 obtain⟨M2,l'⟩:=l'
 have x0:=ax.nn
 have y0:=ay.nn
 obtain⟨M,g1,g2,g3,g4⟩:∃ M:Int,M1<=M/\M2<=M/\x.2<=M/\y.2<=M:=⟨max M1 0+max M2 0+x.2+y.2,by omega,by omega,by omega,by omega⟩
 obtain⟨a1,a2,a3,a4⟩:=l M g1
 obtain⟨b1,b2,b3,b4⟩:=l' M g2
 exact K64.Z7l ax ay g3 g4 (by rw[a1,b1]) (by rw[a2,b2]) (by rw[a3,b3]) (by rw[a4,b4])
theorem Vl.of {x:A5}{N:Nat}(h0:0<=x.2)(h:x.2<=(N:Int)):Vl N (sm (2^(N-x.2.toNat)) x.1) x:=by
 have b:Vl x.2.toNat x.1 x:=by
  refine⟨0,λM _=>?_⟩
  have:((x.2.toNat:Nat):Int)=x.2:=q4x h0
  rw[this]
  exact⟨Z,Z,Z,Z⟩
 have:=b.up (N-x.2.toNat)
 rw[show x.2.toNat+(N-x.2.toNat)=N by omega] at this
 exact this
noncomputable def e1 (a w:Nat):Bool:=(decide (w&&&2^a=0) == !w.testBit a) && (decide (w&&&2^a=2^a) == w.testBit a) && (decide (w / 2^a%2=0) == !w.testBit a) && (w.testBit a || decide (fl w a=w+2^a)) && (!w.testBit a || decide (fl w a=w-2^a))
noncomputable def e2 (a b w:Nat):Bool:=decide (a=b) || (decide (K64.exch w a b=sw w a b) && (decide (w&&&(2^a ||| 2^b)=(2^a ||| 2^b)) == (w.testBit a && w.testBit b)))
theorem X8c:((List.range 6).all λa=>(List.range 64).all λw=>e1 a w)=true:=by decide +kernel
theorem X8b:((List.range 6).all λa=>(List.range 6).all λb=>(List.range 64).all λw=>e2 a b w)=true:=by decide +kernel
theorem w64 {c w:Nat}(hc:c<=6)(hw:w<2^c):w<64:=q0s hw (q1x (by decide) hc:2^c<=2^6)
theorem Y0r {c a w:Nat}(hc:c<=6)(ha:a<c)(hw:w<2^c):(w&&&2^a=0 ↔ w.testBit a=false)/\(w&&&2^a=2^a ↔ w.testBit a=true)/\(w / 2^a%2=0 ↔ w.testBit a=false)/\(w.testBit a=false->fl w a=w+2^a)/\(w.testBit a=true->fl w a=w-2^a):=by
 have h:=K64.get1 (K64.get1 X8c (show a<6 by omega)) (w64 hc hw)
 unfold e1 at h
 simp only[q0y,q3m,beq_iff_eq,q1n] at h
 obtain⟨⟨⟨⟨h1,h2⟩,h3⟩,h4⟩,h5⟩:=h
 cases hb:w.testBit a
 ·rw[hb] at h1 h2 h3 h4 h5
  simp at h1 h2 h3 h4 h5
  exact⟨⟨λ_=>rfl,λ_=>h1⟩,⟨λz=>absurd z h2,λz=>by cases z⟩,⟨λ_=>rfl,λ_=>h3⟩,λ_=>h4,λz=>by cases z⟩
 ·rw[hb] at h1 h2 h3 h4 h5
  simp at h1 h2 h3 h4 h5
  exact⟨⟨λz=>absurd z h1,λz=>by cases z⟩,⟨λ_=>rfl,λ_=>h2⟩,⟨λz=>absurd z (by omega),λz=>by cases z⟩,(λz=>by cases z),λ_=>h5⟩
theorem Y3j {c a b w:Nat}(hc:c<=6)(ha:a<c)(hb:b<c)(n:a≠b)(hw:w<2^c):K64.exch w a b=sw w a b/\(w&&&(2^a ||| 2^b)=(2^a ||| 2^b) ↔ (w.testBit a && w.testBit b)=true):=by
 have h:=K64.get1 (K64.get1 (K64.get1 X8b (show a<6 by omega)) (show b<6 by omega)) (w64 hc hw)
 unfold e2 at h
 simp only[q0y,q3m,beq_iff_eq,q1n] at h
 rcases h with h | ⟨h1,h2⟩
 ·exact absurd h n
 ·refine⟨h1,?_⟩
  rw[<-h2]
  simp
noncomputable def gm:Mv->Gm
 | .flip a=>.mv (.flip a.toNat)
 | .mix a=>.mix a.toNat
 | .turn a k=>.mv (.turn a.toNat k.toNat)
 | .iff a b=>.mv (.iff a.toNat b.toNat)
 | .pair a b=>.mv (.pair a.toNat b.toNat)
 | .swap a b=>.mv (.swap a.toNat b.toNat)
 | .cross a b d=>.mv (.cross a.toNat b.toNat d.toNat)
theorem tn {a:Int}(h:0<=a):((a.toNat:Nat):Int)=a:=q4x h
theorem W0e {c:Nat}{m:Mv}(o:VOk c m):(gm m).mm=mm m:=by
 obtain⟨o,_⟩:=o
 cases m with
 | flip a=>show (_,[((a.toNat:Nat):Int)])=_;rw[tn o];rfl
 | mix a=>show (_,[((a.toNat:Nat):Int)])=_;rw[tn o];rfl
 | turn a k=>show (_,[((a.toNat:Nat):Int),((k.toNat:Nat):Int)])=_;rw[tn o.1,tn (show 0<=k by have:=o.2.1;omega)];rfl
 | iff a b=>show (_,[((a.toNat:Nat):Int),((b.toNat:Nat):Int)])=_;rw[tn o.1,tn o.2.1];rfl
 | pair a b=>show (_,[((a.toNat:Nat):Int),((b.toNat:Nat):Int)])=_;rw[tn o.1,tn o.2.1];rfl
 | swap a b=>show (_,[((a.toNat:Nat):Int),((b.toNat:Nat):Int)])=_;rw[tn o.1,tn o.2.1];rfl
 | cross a b d=>show (_,[((a.toNat:Nat):Int),((b.toNat:Nat):Int),((d.toNat:Nat):Int)])=_;rw[tn o.1,tn o.2.1,tn o.2.2.1];rfl
theorem Y6h {c:Nat}{m:Mv}(o:VOk c m):(gm m).Ok c:=by
 obtain⟨o,x⟩:=o
 cases m with
 | flip a=>have h:=x a (by simp[Mv.cells]);have o:0<=a:=o;show a.toNat<c;omega
 | mix a=>have h:=x a (by simp[Mv.cells]);have o:0<=a:=o;show a.toNat<c;omega
 | turn a k=>have h:=x a (by simp[Mv.cells]);have o:0<=a/\1<=k/\k<=7:=o;show a.toNat<c/\1<=k.toNat/\k.toNat<=7;omega
 | iff a b=>have h:=x a (by simp[Mv.cells]);have h2:=x b (by simp[Mv.cells]);have o:0<=a/\0<=b/\a≠b:=o;show a.toNat<c/\b.toNat<c/\a.toNat≠b.toNat;omega
 | pair a b=>have h:=x a (by simp[Mv.cells]);have h2:=x b (by simp[Mv.cells]);have o:0<=a/\0<=b/\a≠b:=o;show a.toNat<c/\b.toNat<c/\a.toNat≠b.toNat;omega
 | swap a b=>have h:=x a (by simp[Mv.cells]);have h2:=x b (by simp[Mv.cells]);have o:0<=a/\0<=b/\a≠b:=o;show a.toNat<c/\b.toNat<c/\a.toNat≠b.toNat;omega
 | cross a b d=>have h:=x a (by simp[Mv.cells]);have h2:=x b (by simp[Mv.cells]);have h3:=x d (by simp[Mv.cells]);have o:0<=a/\0<=b/\0<=d/\a≠b/\a≠d/\b≠d:=o;show a.toNat<c/\b.toNat<c/\d.toNat<c/\a.toNat≠b.toNat/\a.toNat≠d.toNat/\b.toNat≠d.toNat;omega
theorem Y2o {c n w k:Nat}{F:M72.Bv}{f:Nat->A5}{z:A5}{v:K64.Mv}{t:Nat}(hl:v.to w<2^c)(h:∀ w,w<2^c->Vl n (F w) (f w))(et:v.to w=t)(es:v.sp w=k)(k8:k<8)(e:z=spin (f (v.to w)) (v.sp w:Nat)):Vl (n+1) (sm 2 (En k (F t))) z:=by
 subst et es
 rw[e]
 have q:=(h _ hl).rot (v.sp w)
 have e2:(((v.sp w:Nat):Int)%8).toNat=v.sp w:=by omega
 unfold spin
 rw[e2]
 exact q.up 1
theorem X2j {c n:Nat}{m:Mv}{F:M72.Bv}{f f':Nat->A5}(hc:c<=6)(o:VOk c m)(af:Ams c f)(h:∀ w,w<2^c->Vl n (F w) (f w))(s:Step c (gm m) f f'):∀ w,w<2^c->Vl (n+1) (op m F w) (f' w):=by
 intro w hw
 have ok:=Y6h o
 cases m with
 | flip a=>exact Y2o (v:=.flip a.toNat) (K64.Mv.to_lt hc ok hw) h rfl rfl (show 0<8 by decide) (s w hw)
 | turn a j =>
  have ok:a.toNat<c/\1<=j.toNat/\j.toNat<=7:=ok
  refine Y2o (v:=.turn a.toNat j.toNat) hw h rfl ?_ ?_ (s w hw)
  ·show (if _ then _ else _)=(if _ then _ else _)
   by_cases b:w.testBit a.toNat=true
   ·rw[if_pos b,if_pos ((Y0r hc ok.1 hw).2.1.mpr b)]
   ·rw[if_neg b,if_neg (λz=>b ((Y0r hc ok.1 hw).2.1.mp z))]
  ·show (if w.testBit a.toNat then j.toNat else 0)<8
   split<;>omega
 | iff a b =>
  have ok':a.toNat<c/\b.toNat<c/\a.toNat≠b.toNat:=ok
  refine Y2o (v:=.iff a.toNat b.toNat) (K64.Mv.to_lt hc ok hw) h ?_ rfl (show 0<8 by decide) (s w hw)
  show (if _ then _ else _)=(if _ then _ else _)
  by_cases b:w.testBit a.toNat=true
  ·rw[if_pos b,if_neg (λz=>by rw[(Y0r hc ok'.1 hw).1.mp z] at b;cases b)]
   rfl
  ·rw[if_neg b,if_pos ((Y0r hc ok'.1 hw).1.mpr (by simpa using b))]
 | pair a b =>
  have ok':a.toNat<c/\b.toNat<c/\a.toNat≠b.toNat:=ok
  refine Y2o (v:=.pair a.toNat b.toNat) hw h rfl ?_ ?_ (s w hw)
  ·show (if _ then _ else _)=(if _ then _ else _)
   by_cases b':(w.testBit a.toNat && w.testBit b.toNat)=true
   ·rw[if_pos b',if_pos ((Y3j hc ok'.1 ok'.2.1 ok'.2.2 hw).2.mpr b')]
   ·rw[if_neg b',if_neg (λz=>b' ((Y3j hc ok'.1 ok'.2.1 ok'.2.2 hw).2.mp z))]
  ·show (if _ then _ else _)<8
   split<;>omega
 | swap a b =>
  have ok':a.toNat<c/\b.toNat<c/\a.toNat≠b.toNat:=ok
  exact Y2o (v:=.swap a.toNat b.toNat) (K64.Mv.to_lt hc ok hw) h (Y3j hc ok'.1 ok'.2.1 ok'.2.2 hw).1 rfl (show 0<8 by decide) (s w hw)
 | cross a b d =>
  have ok':a.toNat<c/\b.toNat<c/\d.toNat<c/\a.toNat≠b.toNat/\a.toNat≠d.toNat/\b.toNat≠d.toNat:=ok
  refine Y2o (v:=.cross a.toNat b.toNat d.toNat) (K64.Mv.to_lt hc ok hw) h ?_ rfl (show 0<8 by decide) (s w hw)
  show (if _ then _ else _)=(if _ then _ else _)
  by_cases b:w.testBit a.toNat=true
  ·rw[if_pos b,if_neg (λz=>by rw[(Y0r hc ok'.1 hw).1.mp z] at b;cases b)]
   exact(Y3j hc ok'.2.1 ok'.2.2.1 ok'.2.2.2.2.2 hw).1
  ·rw[if_neg b,if_pos ((Y0r hc ok'.1 hw).1.mpr (by simpa using b))]
 | mix a =>
  have ac:a.toNat<c:=ok
  have e:=s w hw
  have e:MixAt f a.toNat w (f' w):=e
  unfold MixAt at e
  obtain⟨_,_,h3,h4,h5⟩:=Y0r hc ac hw
  show Vl (n+1) (root (add (sm (sg w a.toNat) (F w)) (F (fl w a.toNat)))) (f' w)
  unfold sg
  by_cases hb:w.testBit a.toNat=false
  ·have z:=h3.mpr hb
   obtain⟨_,_,l2,_⟩:=K64.X1v hc ac hw z
   rw[if_pos z] at e
   rw[if_neg (by rw[hb];decide),h4 hb,M72.Z6x]
   have:=(h _ hw).mix (h _ l2) e (af _ hw).nn (af _ l2).nn
   rw[M72.Z6x] at this
   exact this
  ·have hb':w.testBit a.toNat=true:=by simpa using hb
   have z:¬ w / 2^a.toNat%2=0:=λz=>hb (h3.mp z)
   have l2:w-2^a.toNat<2^c:=q3h (q8z _ _) hw
   rw[if_neg z] at e
   rw[if_pos hb',h5 hb',M72.add_comm]
   exact(h _ l2).mix (h _ hw) e (af _ l2).nn (af _ hw).nn
theorem Z5o {c:Nat}(hc:c<=6):∀ {row:List Mv}{n:Nat}{F:M72.Bv}{f f':Nat->A5},(∀ m∈row,VOk c m)->Ams c f->(∀ w,w<2^c->Vl n (F w) (f w))->Steps c (row.map gm) f f'->(∀ w,w<2^c->Vl (n+row.length) (rowop row F w) (f' w))/\Ams c f'
 | [],n,F,f,f',_,af,h,a=>by
  cases a
  exact⟨h,af⟩
 | m::row,n,F,f,f',ok,af,h,a=>by
  cases a with
  | cons a a' =>
   have okm:=ok m (.head _)
   have:=Z5o hc (row:=row) (λx hx=>ok x (.tail _ hx)) (a.ams hc (Y6h okm) af) (X2j hc okm af h a) a'
   rw[q2k,show n+(row.length+1)=n+1+row.length by omega]
   exact this
theorem X0q {c:Nat}{H:Hp}{l:W9}{row:List Mv}(h:RowAt H l row)(ok:∀ m∈row,VOk c m)(len:row.length<=200):∃ ps,K64.Rw H l ps (row.map gm) c:=by
 obtain⟨ps,hl,hr⟩:=h
 refine⟨ps,hl,?_,?_,by rw[q0a];exact len⟩
 ·show RowsM H ps ((row.map gm).map Gm.mm)
  have e:(row.map gm).map Gm.mm=row.map mm:=by
   rw[q3p]
   exact q6e λm hm=>W0e (ok m hm)
  rw[e]
  exact hr
 ·intro m hm
  obtain⟨x,hx,rfl⟩:=q2j.mp hm
  exact Y6h (ok x hx)
end K55S
namespace K55S
open L2 Ba Am Pc M71
open K64 (top Bs)
open M72 (fl sw VOk)
open M75 (Mk mvd Br)
noncomputable abbrev mkL (m:Mk):List V:=[.int (m.1:Nat),.int (m.2.1:Nat),.int (m.2.2:Nat)]
structure OkK (c:Nat) (m:Mk):Prop where
 k:m.1<4
 f:m.2.1<2^c
 s:m.2.2<2^c
theorem X5c (f a:Nat):(f&&&2^a)=if f.testBit a then 2^a else 0:=by
 apply q5x
 intro j
 rw[q3l,q3s]
 by_cases h:a=j
 ·subst h
  cases hb:f.testBit a<;>simp
 ·cases hb:f.testBit a<;>simp[h,q3s]
theorem tb (f a:Nat):(Builtin.bitAnd (f:Int) ((2^a:Nat):Int) != 0)=f.testBit a:=by
 rw[Z5n,X5c]
 cases f.testBit a
 ·rfl
 ·have h0:=q3c a
  have:((2^a:Nat):Int)≠0:=by omega
  exact bne_iff_ne.mpr this
theorem xb (f a:Nat):Builtin.bitXor (f:Int) ((2^a:Nat):Int)=((fl f a:Nat):Int):=Z9y f (2^a)
noncomputable abbrev mxF (a f s:Nat):Nat:=if f.testBit a=s.testBit a then f else fl f a
noncomputable abbrev mxS (a f s:Nat):Nat:=if f.testBit a=s.testBit a then s else fl s a
noncomputable abbrev mxI (f s b:Int):Int:=Builtin.bitOr (Builtin.bitAnd f (Builtin.bitNot b)) (Builtin.bitAnd s b)
noncomputable def mxOk (a f s:Nat):Bool :=
 decide (mxI f s ((2^a:Nat):Int)=(mxF a f s:Int)) && decide (mxI s f ((2^a:Nat):Int)=(mxS a f s:Int)) &&
 decide (((mxF a f s).testBit a && (mxS a f s).testBit a)=(f.testBit a && s.testBit a))
theorem X7a:((List.range 6).all λa=>(List.range 64).all λf=>(List.range 64).all λs=>mxOk a f s)=true:=by decide +kernel
theorem X9b {c a f s:Nat}(hc:c<=6)(ha:a<c)(hf:f<2^c)(hs:s<2^c):mxI f s ((2^a:Nat):Int)=(mxF a f s:Int)/\mxI s f ((2^a:Nat):Int)=(mxS a f s:Int)/\((mxF a f s).testBit a && (mxS a f s).testBit a)=(f.testBit a && s.testBit a):=by
 have h:=K64.get1 (K64.get1 (K64.get1 X7a (show a<6 by omega)) (w64 hc hf)) (w64 hc hs)
 unfold mxOk at h
 rw[q0y,q0y] at h
 exact⟨q2m h.1.1,q2m h.1.2,q2m h.2⟩
theorem tb2 (f s a:Nat):(Builtin.bitAnd (Builtin.bitAnd (f:Int) (s:Int)) ((2^a:Nat):Int) != 0)=(f.testBit a && s.testBit a):=by
 rw[Z5n,tb,q3l]
theorem Z6m {c f a:Nat}(hf:f<2^c)(ha:a<c):fl f a<2^c:=q2r hf (Nat.pow_lt_pow_right (by decide) ha)
theorem X6a {c f a b:Nat}(hf:f<2^c)(ha:a<c)(hb:b<c):sw f a b<2^c:=by
 unfold sw
 split
 ·exact hf
 ·exact Z6m (Z6m hf ha) hb
theorem X7b {c:Nat}{x:Mv}{m:Mk}(o:VOk c x)(h:OkK c m):OkK c (mvd x m):=by
 obtain⟨k,f,s⟩:=m
 obtain⟨hk,hf,hs⟩:=h
 have ok:=Y6h o
 have k4:∀ n:Nat,n%4<4:=λn=>q7b _ (by decide)
 cases x with
 | flip a=>exact⟨by show (if _ then _ else _)<4;split;exact k4 _;exact hk,hf,hs⟩
 | mix a =>
  have ac:a.toNat<c:=ok
  exact⟨by show (if _ then _ else _)<4;split;exact k4 _;exact hk,by show (if _ then _ else _)<2^c;split;exact hf;exact Z6m hf ac,by show (if _ then _ else _)<2^c;split;exact hs;exact Z6m hs ac⟩
 | turn a j =>
  have ac:a.toNat<c/\_:=ok
  show OkK c (if _ then _ else _)
  split
  ·exact⟨k4 _,hf,by show (if _ then _ else _)<2^c;split;exact Z6m hs ac.1;exact hs⟩
  ·exact⟨hk,hf,hs⟩
 | iff a b =>
  have ac:a.toNat<c/\b.toNat<c/\_:=ok
  exact⟨hk,by show (if _ then _ else _)<2^c;split;exact Z6m hf ac.2.1;exact hf,by show (if _ then _ else _)<2^c;split;exact Z6m hs ac.1;exact hs⟩
 | pair a b =>
  have ac:a.toNat<c/\b.toNat<c/\_:=ok
  refine⟨by show (if _ then _ else _)<4;split;exact k4 _;exact hk,hf,?_⟩
  show (if _ then _ else _)<2^c
  split
  ·refine Z6m ?_ ac.1
   split
   ·exact Z6m hs ac.2.1
   ·exact hs
  ·split
   ·exact Z6m hs ac.2.1
   ·exact hs
 | swap a b =>
  have ac:a.toNat<c/\b.toNat<c/\_:=ok
  exact⟨hk,X6a hf ac.1 ac.2.1,X6a hs ac.1 ac.2.1⟩
 | cross a b d=>exact⟨hk,hf,hs⟩
abbrev Mkr (K:U0)(H:Hp)(Q:VK)(m:Mk):Prop:=∀ (r:W9) (H':Hp),Same H H'->SqT K H' r (mkL m)->Q (.ref r) H'
def Z7s (K:U0):Sp:=λvs H Q _=>∃ (p:W9) (m:Mk),vs=[.ref p]/\SqT K H p (mkL m)/\Mkr K H Q ((m.1+2)%4,m.2.1,m.2.2)
def Y4e (K:U0):Sp:=λvs H Q _=>∃ (p:W9) (m:Mk) (c a:Nat),vs=[.ref p,.int ((2^a:Nat):Int)]/\SqT K H p (mkL m)/\OkK c m/\c<=6/\a<c/\Mkr K H Q (mvd (.mix (a:Int)) m)
def Y1j (K:U0):Sp:=λvs H Q _=>∃ (p:W9) (m:Mk) (a j:Nat),vs=[.ref p,.int ((2^a:Nat):Int),.int (j:Int)]/\SqT K H p (mkL m)/\Mkr K H Q (mvd (.turn (a:Int) (j:Int)) m)
def spByIf (K:U0):Sp:=λvs H Q _=>∃ (p:W9) (m:Mk) (a b:Nat),vs=[.ref p,.int ((2^a:Nat):Int),.int ((2^b:Nat):Int)]/\SqT K H p (mkL m)/\Mkr K H Q (mvd (.iff (a:Int) (b:Int)) m)
def Y1k (K:U0):Sp:=λvs H Q _=>∃ (p:W9) (m:Mk) (a b:Nat),vs=[.ref p,.int ((2^a:Nat):Int),.int ((2^b:Nat):Int)]/\SqT K H p (mkL m)/\Mkr K H Q (mvd (.pair (a:Int) (b:Int)) m)
theorem k0 {x y z:V}:atI [x,y,z] 0=some x:=rfl
theorem k1 {x y z:V}:atI [x,y,z] 1=some y:=rfl
theorem k2 {x y z:V}:atI [x,y,z] 2=some z:=rfl
theorem Y5p (a k f s:Nat):mvd (.mix (a:Int)) (k,f,s)=(if f.testBit a && s.testBit a then (k+2)%4 else k,mxF a f s,mxS a f s):=rfl
theorem Y8x (a j k f s:Nat):mvd (.turn (a:Int) (j:Int)) (k,f,s)=if f.testBit a then ((k+j / 2)%4,f,if j%4=2 then fl s a else s) else (k,f,s):=rfl
theorem X4i (a b k f s:Nat):mvd (.iff (a:Int) (b:Int)) (k,f,s)=(k,if f.testBit a then fl f b else f,if s.testBit b then fl s a else s):=rfl
noncomputable abbrev prS (a b f s:Nat):Nat:=if f.testBit b then fl (if f.testBit a then fl s b else s) a else if f.testBit a then fl s b else s
theorem Y8y (a b k f s:Nat):mvd (.pair (a:Int) (b:Int)) (k,f,s)=(if f.testBit a && f.testBit b then (k+2)%4 else k,f,prS a b f s):=rfl
section
variable {P:U8}{w:W1}{K:U0}{mg:U4}{base:Heap}{k:Nat}{h:Heap}
theorem sc_about:FnScope ["mark"] ["mark"] (Z0h (top 25)):=fS
theorem Y8w (F:FunAt K "turned_about" (top 25) .none)(X:K.In h)(G:Ng h mg):Cal P w K mg base (k+1) "turned_about" ["mark"] (Z7s K):=by
 have nd:=sc_about.nd
 refine F.cal X G sc_about (bnd1 λ_ _ _ _ _ _ _=>rfl) (λvs H Q E h=>?_) (λf cdv A outer s H vs Q E hr h=>?_)
 ·obtain⟨p,m,rfl,_⟩:=h;rfl
 obtain⟨p,⟨k,f,s⟩,rfl,S,q⟩:=h
 refine⟨_,(@Z0g _ _ _ (Z0l (@Z0y _ _ _ _ _ (Z0a (Z0i Z0x (Z0i Z1f (Z0k Z0j (pv 0) Z0b (λ_ _=>rfl)) Z0b) Z0b) (Z0a (Z0k Z0j (pv 0) Z0b (λ_ _=>rfl)) (Z0a (Z0k Z0j (pv 0) Z0b (λ_ _=>rfl)) Z0d)))))),?_⟩
 try dsimp only[cxK]
 refine⟨_,Z,p,_,_,.int k,Z,Z,S,k0,_,_,Z,Z,_,_,Z,Z,(by show (0:Int)<_;decide),_,Z,p,_,_,.int f,Z,Z,S,k1,_,Z,p,_,_,.int s,Z,Z,S,k2,t3,λr hr=>q r _ (Z0f hr _) (SqT.of ?_)⟩
 rw[Z0c]
 have e:((k:Int)+2)%4=(((k+2)%4:Nat):Int):=by omega
 show some (HO.tup [.int (((k:Int)+2)%4),.int f,.int s])=_
 rw[e]
theorem sc_bymix:FnScope ["mark","bit","flips","signs","moved"] ["mark","bit"] (Z0h (top 47)):=fS
theorem Y8s (F:FunAt K "moved_by_mix" (top 47) .none)(X:K.In h)(G:Ng h mg)(cA:Cal P w K mg base k "turned_about" ["mark"] (Z7s K)):Cal P w K mg base (k+1) "moved_by_mix" ["mark","bit"] (Y4e K):=by
 have nd:=sc_bymix.nd
 refine F.cal X G sc_bymix (bnd2 λ_ _ _ _ _ _ _ _=>rfl) (λvs H Q E h=>?_) (λf cdv A outer s H vs Q E hr h=>?_)
 ·obtain⟨p,m,c,a,rfl,_⟩:=h;rfl
 obtain⟨p,⟨k,f,s⟩,c,a,rfl,S,o,c6,ac,q⟩:=h
 obtain⟨e1,e2,e3⟩:=X9b (f:=f) (s:=s) c6 ac o.f o.s
 refine⟨_,(@Z1c _ _ _ _ _ (@Z0o _ _ 2 _ _ _ _ nd rfl (Or.inl rfl) (Z0i Z9e (Z0i Z1n (Z0k Z0j (pv 0) Z0b (λ_ _=>rfl)) (Z8a X0l (pv 1))) (Z0i Z1n (Z0k Z0j (pv 0) Z0b (λ_ _=>rfl)) (pv 1))) rfl (.inl rfl))
  (@Z1c _ _ _ _ _ (@Z0o _ _ 3 _ _ _ _ nd rfl (Or.inl rfl) (Z0i Z9e (Z0i Z1n (Z0k Z0j (pv 0) Z0b (λ_ _=>rfl)) (Z8a X0l (pv 1))) (Z0i Z1n (Z0k Z0j (pv 0) Z0b (λ_ _=>rfl)) (pv 1))) rfl (.inl rfl))
  (@Z0e _ _ _ _ _ (@Z0o _ _ 4 _ _ _ _ nd rfl (Or.inl rfl) (@Z0y _ _ _ _ _ (Z0a (Z0k Z0j (pv 0) Z0b (λ_ _=>rfl)) (Z0a (pv 2) (Z0a (pv 3) Z0d)))) rfl (.inl rfl))
  (@Z0g _ _ _ (Z0l (Z2p (Z2l (Z0i Z1n (Z0i Z1n (pv 2) (pv 3)) (pv 1)) (by intro _;rfl)) (Z0n cA hr rfl (Z0a (pv 4) Z0d)) (pv 4))))))),?_⟩
 try dsimp only[cxK]
 refine⟨λσ' H'=>H=H'/\σ'=[some (.ref p),some (.int ((2^a:Nat):Int)),some (.int (mxF a f s:Nat)),none,none],?_,?_⟩
 ·exact⟨_,Z,p,_,_,.int f,Z,Z,S,k1,_,Z,_,Z,_,_,Z,Z,_,Z,p,_,_,.int s,Z,Z,S,k2,_,Z,_,_,Z,Z,_,_,Z,Z,Z,by rw[<-e1];rfl⟩
 rintro σ' _ ⟨rfl,rfl⟩
 refine⟨λσ' H'=>H=H'/\σ'=[some (.ref p),some (.int ((2^a:Nat):Int)),some (.int (mxF a f s:Nat)),some (.int (mxS a f s:Nat)),none],?_,?_⟩
 ·exact⟨_,Z,p,_,_,.int s,Z,Z,S,k2,_,Z,_,Z,_,_,Z,Z,_,Z,p,_,_,.int f,Z,Z,S,k1,_,Z,_,_,Z,Z,_,_,Z,Z,Z,by rw[<-e2];rfl⟩
 rintro σ' _ ⟨rfl,rfl⟩
 refine⟨_,Z,p,_,_,.int k,Z,Z,S,k0,_,Z,_,Z,t3,λt ht=>?_⟩
 have S1:=Z0f ht (.tup (mkL (k,mxF a f s,mxS a f s)))
 have q1:SqT K (upd H t (.tup (mkL (k,mxF a f s,mxS a f s)))) t (mkL (k,mxF a f s,mxS a f s)):=SqT.of Z0c
 refine⟨_,Z,_,Z,_,_,Z,Z,_,Z,_,_,Z,Z,_,Z,?_⟩
 rw[tb2,e3]
 refine blI (λz=>?_) (λz=>?_)
 ·refine⟨_,Z,t,(k,mxF a f s,mxS a f s),Z,q1,λr H2 S2 h2=>q r H2 (S1.trans S2) ?_⟩
  have:mvd (.mix (a:Int)) (k,f,s)=((k+2)%4,mxF a f s,mxS a f s):=by
   rw[Y5p,if_pos z]
  rw[this]
  exact h2
 ·refine⟨_,Z,q t _ S1 ?_⟩
  have:mvd (.mix (a:Int)) (k,f,s)=(k,mxF a f s,mxS a f s):=by
   rw[Y5p,if_neg (by rw[z];decide)]
  rw[this]
  exact q1
theorem sc_byturn:FnScope ["mark","bit","k","signs"] ["mark","bit","k"] (Z0h (top 48)):=fS
theorem Y5k (F:FunAt K "moved_by_turn" (top 48) .none)(X:K.In h)(G:Ng h mg):Cal P w K mg base (k+1) "moved_by_turn" ["mark","bit","k"] (Y1j K):=by
 have nd:=sc_byturn.nd
 refine F.cal X G sc_byturn (bnd3 λ_ _ _ _ _ _ _ _ _=>rfl) (λvs H Q E h=>?_) (λf cdv A outer s H vs Q E hr h=>?_)
 ·obtain⟨p,m,a,j,rfl,_⟩:=h;rfl
 obtain⟨p,⟨k,f,s⟩,a,j,rfl,S,q⟩:=h
 refine⟨_,(@Z0e _ _ _ _ _ (Z1b (Z1z (Z2l (Z0i Z1n (Z0k Z0j (pv 0) Z0b (λ_ _=>rfl)) (pv 1)) (by intro _;rfl)))
   (@Z0g _ _ _ (Z0l (pv 0)))
   Z0r)
  (@Z1c _ _ _ _ _ (@Z0o _ _ 3 _ _ _ _ nd rfl (Or.inl rfl) (Z2p (Z0q Z1j (Z0i Z0x (pv 2) Z0b) Z0b (nomark _)) (Z0i Z3p (Z0k Z0j (pv 0) Z0b (λ_ _=>rfl)) (pv 1)) (Z0k Z0j (pv 0) Z0b (λ_ _=>rfl))) rfl (.inl rfl))
  (@Z0g _ _ _ (Z0l (@Z0y _ _ _ _ _ (Z0a (Z0i Z0x (Z0i Z1f (Z0k Z0j (pv 0) Z0b (λ_ _=>rfl)) (Z0i Z1g (pv 2) Z0b)) Z0b) (Z0a (Z0k Z0j (pv 0) Z0b (λ_ _=>rfl)) (Z0a (pv 3) Z0d)))))))),?_⟩
 try dsimp only[cxK]
 refine⟨_,Z,p,_,_,.int f,Z,Z,S,k1,_,Z,_,_,Z,Z,_,Z,?_⟩
 rw[tb]
 rw[Y8x] at q
 refine nblI (λz=>?_) (λz=>?_)
 ·rw[if_neg (by rw[z];decide)] at q
  exact⟨_,Z,q p H (Same.refl _) S⟩
 rw[if_pos z] at q
 refine⟨λσ' H'=>H=H'/\σ'=[some (.ref p),some (.int ((2^a:Nat):Int)),some (.int (j:Int)),some (.int ((if j%4=2 then fl s a else s:Nat):Int))],?_,?_⟩
 ·refine⟨_,Z,_,_,Z,Z,(by show (0:Int)<_;decide),Z,_,Z,eqI (λy=>?_) (λy=>?_)⟩
  ·exact⟨_,Z,p,_,_,.int s,Z,Z,S,k2,_,Z,_,_,Z,Z,Z,by rw[if_pos (by omega),<-xb];rfl⟩
  ·exact⟨_,Z,p,_,_,.int s,Z,Z,S,k2,Z,by rw[if_neg (by omega)];rfl⟩
 rintro σ' _ ⟨rfl,rfl⟩
 refine⟨_,Z,p,_,_,.int k,Z,Z,S,k0,_,Z,_,_,Z,Z,⟨by decide,by decide⟩,_,_,Z,Z,_,_,Z,Z,(by show (0:Int)<_;decide),_,Z,p,_,_,.int f,Z,Z,S,k1,_,Z,t3,λr hr=>q r _ (Z0f hr _) (SqT.of ?_)⟩
 rw[Z0c]
 have e:((k:Int)+(j:Int) / 2)%4=(((k+j / 2)%4:Nat):Int):=by omega
 show some (HO.tup [.int (((k:Int)+(j:Int) / 2)%4),.int f,.int ((if j%4=2 then fl s a else s:Nat):Int)])=_
 rw[e]
theorem sc_byif:FnScope ["mark","bit","other","flips","signs"] ["mark","bit","other"] (Z0h (top 49)):=fS
theorem X3y (F:FunAt K "moved_by_if" (top 49) .none)(X:K.In h)(G:Ng h mg):Cal P w K mg base (k+1) "moved_by_if" ["mark","bit","other"] (spByIf K):=by
 have nd:=sc_byif.nd
 refine F.cal X G sc_byif (bnd3 λ_ _ _ _ _ _ _ _ _=>rfl) (λvs H Q E h=>?_) (λf cdv A outer s H vs Q E hr h=>?_)
 ·obtain⟨p,m,a,j,rfl,_⟩:=h;rfl
 obtain⟨p,⟨k,f,s⟩,a,b,rfl,S,q⟩:=h
 rw[X4i] at q
 refine⟨_,(@Z1c _ _ _ _ _ (@Z0o _ _ 3 _ _ _ _ nd rfl (Or.inl rfl) (Z2p (Z2l (Z0i Z1n (Z0k Z0j (pv 0) Z0b (λ_ _=>rfl)) (pv 1)) (by intro _;rfl)) (Z0i Z3p (Z0k Z0j (pv 0) Z0b (λ_ _=>rfl)) (pv 2)) (Z0k Z0j (pv 0) Z0b (λ_ _=>rfl))) rfl (.inl rfl))
  (@Z1c _ _ _ _ _ (@Z0o _ _ 4 _ _ _ _ nd rfl (Or.inl rfl) (Z2p (Z2l (Z0i Z1n (Z0k Z0j (pv 0) Z0b (λ_ _=>rfl)) (pv 2)) (by intro _;rfl)) (Z0i Z3p (Z0k Z0j (pv 0) Z0b (λ_ _=>rfl)) (pv 1)) (Z0k Z0j (pv 0) Z0b (λ_ _=>rfl))) rfl (.inl rfl))
  (@Z0g _ _ _ (Z0l (@Z0y _ _ _ _ _ (Z0a (Z0k Z0j (pv 0) Z0b (λ_ _=>rfl)) (Z0a (pv 3) (Z0a (pv 4) Z0d)))))))),?_⟩
 try dsimp only[cxK]
 refine⟨λσ' H'=>H=H'/\σ'=[some (.ref p),some (.int ((2^a:Nat):Int)),some (.int ((2^b:Nat):Int)),some (.int ((if f.testBit a then fl f b else f:Nat):Int)),none],?_,?_⟩
 ·refine⟨_,Z,p,_,_,.int f,Z,Z,S,k1,_,Z,_,_,Z,Z,_,Z,?_⟩
  rw[tb]
  refine blI (λz=>?_) (λz=>?_)
  ·exact⟨_,Z,p,_,_,.int f,Z,Z,S,k1,_,Z,_,_,Z,Z,Z,by rw[if_pos z,<-xb];rfl⟩
  ·exact⟨_,Z,p,_,_,.int f,Z,Z,S,k1,Z,by rw[if_neg (by rw[z];decide)];rfl⟩
 rintro σ' _ ⟨rfl,rfl⟩
 refine⟨λσ' H'=>H=H'/\σ'=[some (.ref p),some (.int ((2^a:Nat):Int)),some (.int ((2^b:Nat):Int)),some (.int ((if f.testBit a then fl f b else f:Nat):Int)),some (.int ((if s.testBit b then fl s a else s:Nat):Int))],?_,?_⟩
 ·refine⟨_,Z,p,_,_,.int s,Z,Z,S,k2,_,Z,_,_,Z,Z,_,Z,?_⟩
  rw[tb]
  refine blI (λz=>?_) (λz=>?_)
  ·exact⟨_,Z,p,_,_,.int s,Z,Z,S,k2,_,Z,_,_,Z,Z,Z,by rw[if_pos z,<-xb];rfl⟩
  ·exact⟨_,Z,p,_,_,.int s,Z,Z,S,k2,Z,by rw[if_neg (show ¬ s.testBit b=true by rw[z];decide)];rfl⟩
 rintro σ' _ ⟨rfl,rfl⟩
 exact⟨_,Z,p,_,_,.int k,Z,Z,S,k0,_,Z,_,Z,t3,λr hr=>q r _ (Z0f hr _) (SqT.of Z0c)⟩
theorem sc_bypair:FnScope ["mark","bit","other","signs","moved"] ["mark","bit","other"] (Z0h (top 50)):=fS
theorem Y5l (F:FunAt K "moved_by_pair" (top 50) .none)(X:K.In h)(G:Ng h mg)(cA:Cal P w K mg base k "turned_about" ["mark"] (Z7s K)):Cal P w K mg base (k+1) "moved_by_pair" ["mark","bit","other"] (Y1k K):=by
 have nd:=sc_bypair.nd
 refine F.cal X G sc_bypair (bnd3 λ_ _ _ _ _ _ _ _ _=>rfl) (λvs H Q E h=>?_) (λf cdv A outer s H vs Q E hr h=>?_)
 ·obtain⟨p,m,a,j,rfl,_⟩:=h;rfl
 obtain⟨p,⟨k,f,s⟩,a,b,rfl,S,q⟩:=h
 rw[Y8y] at q
 refine⟨_,(@Z0e _ _ _ _ _ (@Z0o _ _ 3 _ _ _ _ nd rfl (Or.inl rfl) (Z0k Z0j (pv 0) Z0b (λ_ _=>rfl)) rfl (.inl rfl))
  (@Z1c _ _ _ _ _ (Z1b (Z2l (Z0i Z1n (Z0k Z0j (pv 0) Z0b (λ_ _=>rfl)) (pv 1)) (by intro _;rfl))
   (@Z0g _ _ _ (@Z0o _ _ 3 _ _ _ _ nd rfl (Or.inl rfl) (Z0i Z3p (pv 3) (pv 2)) rfl (.inl rfl)))
   Z0r)
  (@Z1c _ _ _ _ _ (Z1b (Z2l (Z0i Z1n (Z0k Z0j (pv 0) Z0b (λ_ _=>rfl)) (pv 2)) (by intro _;rfl))
   (@Z0g _ _ _ (@Z0o _ _ 3 _ _ _ _ nd rfl (Or.inl rfl) (Z0i Z3p (pv 3) (pv 1)) rfl (.inl rfl)))
   Z0r)
  (@Z0e _ _ _ _ _ (@Z0o _ _ 4 _ _ _ _ nd rfl (Or.inl rfl) (@Z0y _ _ _ _ _ (Z0a (Z0k Z0j (pv 0) Z0b (λ_ _=>rfl)) (Z0a (Z0k Z0j (pv 0) Z0b (λ_ _=>rfl)) (Z0a (pv 3) Z0d)))) rfl (.inl rfl))
  (@Z0g _ _ _ (Z0l (Z2p (PW.pt (Z6c (Z2l (Z0i Z1n (Z0k Z0j (pv 0) Z0b (λ_ _=>rfl)) (pv 1)) (by intro _;rfl)) (Z4g (Z2l (Z0i Z1n (Z0k Z0j (pv 0) Z0b (λ_ _=>rfl)) (pv 2)) (by intro _;rfl))))) (Z0n cA hr rfl (Z0a (pv 4) Z0d)) (pv 4)))))))),?_⟩
 try dsimp only[cxK]
 refine⟨_,Z,p,_,_,.int s,Z,Z,S,k2,?_⟩
 refine⟨λσ' H'=>H=H'/\σ'=[some (.ref p),some (.int ((2^a:Nat):Int)),some (.int ((2^b:Nat):Int)),some (.int ((if f.testBit a then fl s b else s:Nat):Int)),none],?_,?_⟩
 ·refine⟨_,Z,p,_,_,.int f,Z,Z,S,k1,_,Z,_,_,Z,Z,_,Z,?_⟩
  rw[tb]
  refine blI (λz=>?_) (λz=>?_)
  ·exact⟨_,Z,_,Z,_,_,Z,Z,Z,by rw[if_pos z,<-xb];rfl⟩
  ·exact⟨Z,by rw[if_neg (by rw[z];decide)];rfl⟩
 rintro σ' _ ⟨rfl,rfl⟩
 refine⟨λσ' H'=>H=H'/\σ'=[some (.ref p),some (.int ((2^a:Nat):Int)),some (.int ((2^b:Nat):Int)),some (.int (prS a b f s:Nat)),none],?_,?_⟩
 ·refine⟨_,Z,p,_,_,.int f,Z,Z,S,k1,_,Z,_,_,Z,Z,_,Z,?_⟩
  rw[tb]
  refine blI (λz=>?_) (λz=>?_)
  ·exact⟨_,Z,_,Z,_,_,Z,Z,Z,by rw[prS,if_pos z,<-xb];rfl⟩
  ·exact⟨Z,by rw[prS,if_neg (show ¬ f.testBit b=true by rw[z];decide)]⟩
 rintro σ' _ ⟨rfl,rfl⟩
 refine⟨_,Z,p,_,_,.int k,Z,Z,S,k0,_,Z,p,_,_,.int f,Z,Z,S,k1,_,Z,t3,λt ht=>?_⟩
 have S1:=Z0f ht (.tup (mkL (k,f,prS a b f s)))
 have q1:SqT K (upd H t (.tup (mkL (k,f,prS a b f s)))) t (mkL (k,f,prS a b f s)):=SqT.of Z0c
 have SS:=S1.tup S
 refine⟨_,Z,p,_,_,.int f,Z,Z,SS,k1,_,Z,_,_,Z,Z,_,Z,?_⟩
 rw[tb]
 refine blI (λz=>?_) (λz=>?_)
 ·refine⟨_,Z,p,_,_,.int f,Z,Z,SS,k1,_,Z,_,_,Z,Z,_,Z,?_⟩
  rw[tb]
  refine blI (λy=>?_) (λy=>?_)
  ·rw[if_pos (by rw[z,y];rfl)] at q
   exact⟨_,Z,t,(k,f,prS a b f s),Z,q1,λr H2 S2 h2=>q r H2 (S1.trans S2) h2⟩
  ·rw[if_neg (by rw[z,y];decide)] at q
   exact⟨_,Z,q t _ S1 q1⟩
 ·rw[if_neg (by rw[z];simp)] at q
  exact iteF ⟨_,Z,q t _ S1 q1⟩
end
end K55S
namespace K55S
open L2 Ba Am Pc M71
open K64 (top Bs spExch)
open M72 (fl sw VOk)
open M75 (Mk mvd Br)
def Z8y (K:U0):Sp:=λvs H Q _=>∃ (p q:W9) (m:Mk) (x:Mv) (c:Nat),vs=[.ref p,.ref q]/\SqT K H p (mkL m)/\H q=some (mT (mm x))/\OkK c m/\c<=6/\VOk c x/\Br x/\Mkr K H Q (mvd x m)
theorem at0 {x:V}{xs:List V}:atI (x::xs) 0=some x:=L2.Z1y (j:=0) rfl
theorem Y1n {a:Int}(h0:0<=a):(1:Int)*2^a.toNat=((2^a.toNat:Nat):Int):=by simp
theorem Y8z (a k f s:Nat):mvd (.flip (a:Int)) (k,f,s)=(if s.testBit a then (k+2)%4 else k,f,s):=rfl
theorem Z3d {H:Hp}:∀ {ps:U3}{ms:List Mm},RowsM H ps ms->ps.length=ms.length
 | [],[],.nil=>rfl
 | _::_,_::_,.cons _ r=>by rw[q2k,q2k,Z3d r]
theorem Z3v {H:Hp}:∀ {ps:U3}{row:List Mv}{i:Nat}{p:W9},RowsM H ps (row.map mm)->ps[i]?=some p->∃ m,row[i]?=some m/\H p=some (mT (mm m))
 | p'::ps,m::ms,0,p,.cons a r,h=>by
  have:p'=p:=by simpa using h
  subst this
  exact⟨m,Z,a⟩
 | p'::ps,m::ms,i+1,p,.cons a r,h=>by
  obtain⟨m',b,c⟩:=Z3v (ps:=ps) (row:=ms) (i:=i) (p:=p) r (by simpa using h)
  exact⟨m',b,c⟩
section
variable {P:U8}{w:W1}{K:U0}{mg:U4}{base:Heap}{k:Nat}{h:Heap}
theorem sc_movedby:FnScope ["mark","move","bit","other"] ["mark","move"] (Z0h (top 46)):=fS
theorem Y2y (F:FunAt K "moved_by" (top 46) .none)(X:K.In h)(G:Ng h mg)(cA:Cal P w K mg base k "turned_about" ["mark"] (Z7s K))(dB:Cal P w K mg base k "moved_by_mix" ["mark","bit"] (Y4e K))(cZ:Cal P w K mg base k "moved_by_turn" ["mark","bit","k"] (Y1j K))
  (dE:Cal P w K mg base k "moved_by_if" ["mark","bit","other"] (spByIf K)) (cY:Cal P w K mg base k "moved_by_pair" ["mark","bit","other"] (Y1k K)) (cF:Cal P w K mg base k "exchanged" ["word","bit","other"] spExch):Cal P w K mg base (k+1) "moved_by" ["mark","move"] (Z8y K):=by
 have nd:=sc_movedby.nd
 refine F.cal X G sc_movedby (bnd2 λ_ _ _ _ _ _ _ _=>rfl) (λvs H Q E h=>?_) (λf cdv A outer s H vs Q E hr h=>?_)
 ·obtain⟨p,q,m,x,c,rfl,_⟩:=h;rfl
 obtain⟨p,q,⟨k,f,s⟩,x,c,rfl,S,hq,o,c6,ok,br,kq⟩:=h
 have SP:SqT K H q (.str (nm x)::(ns x).map V.int):=SqT.of hq
 obtain⟨g0,g1⟩:0<=hd x/\hd x<(c:Int):=by
  obtain⟨r,e⟩:=Y3l x
  have hm:hd x∈x.cells:=by rw[e];exact .head _
  exact⟨ok.1.nn _ hm,ok.2 _ hm⟩
 refine⟨_,(@Z1c _ _ _ _ _ (@Z0o _ _ 2 _ _ _ _ nd rfl (Or.inl rfl) (Z0i Z1x Z0b (Z0k Z0j (pv 1) Z0b (λ_ _=>rfl))) rfl (.inl rfl))
  (@Z0e _ _ _ _ _ (Z1b (Z0q Z1j (Z0k Z0j (pv 1) Z0b (λ_ _=>rfl)) Z1h (nomark _))
   (@Z0g _ _ _ (Z0l (Z2p (Z2l (Z0i Z1n (Z0k Z0j (pv 0) Z0b (λ_ _=>rfl)) (pv 2)) (by intro _;rfl)) (Z0n cA hr rfl (Z0a (pv 0) Z0d)) (pv 0))))
   Z0r)
  (@Z0e _ _ _ _ _ (Z1b (Z0q Z1j (Z0k Z0j (pv 1) Z0b (λ_ _=>rfl)) Z1h (nomark _))
   (@Z0g _ _ _ (Z0l (Z0n dB hr rfl (Z0a (pv 0) (Z0a (pv 2) Z0d)))))
   Z0r)
  (@Z0e _ _ _ _ _ (Z1b (Z0q Z1j (Z0k Z0j (pv 1) Z0b (λ_ _=>rfl)) Z1h (nomark _))
   (@Z0g _ _ _ (Z0l (Z0n cZ hr rfl (Z0a (pv 0) (Z0a (pv 2) (Z0a (Z0k Z0j (pv 1) Z0b (λ_ _=>rfl)) Z0d))))))
   Z0r)
  (@Z1c _ _ _ _ _ (@Z0o _ _ 3 _ _ _ _ nd rfl (Or.inl rfl) (Z0i Z1x Z0b (Z0k Z0j (pv 1) Z0b (λ_ _=>rfl))) rfl (.inl rfl))
  (@Z0e _ _ _ _ _ (Z1b (Z0q Z1j (Z0k Z0j (pv 1) Z0b (λ_ _=>rfl)) Z1h (nomark _))
   (@Z0g _ _ _ (Z0l (Z0n dE hr rfl (Z0a (pv 0) (Z0a (pv 2) (Z0a (pv 3) Z0d))))))
   Z0r)
  (@Z0e _ _ _ _ _ (Z1b (Z0q Z1j (Z0k Z0j (pv 1) Z0b (λ_ _=>rfl)) Z1h (nomark _))
   (@Z0g _ _ _ (Z0l (Z0n cY hr rfl (Z0a (pv 0) (Z0a (pv 2) (Z0a (pv 3) Z0d))))))
   Z0r)
  (@Z0g _ _ _ (Z0l (@Z0y _ _ _ _ _ (Z0a (Z0k Z0j (pv 0) Z0b (λ_ _=>rfl)) (Z0a (Z0n cF hr rfl (Z0a (Z0k Z0j (pv 0) Z0b (λ_ _=>rfl)) (Z0a (pv 2) (Z0a (pv 3) Z0d)))) (Z0a (Z0n cF hr rfl (Z0a (Z0k Z0j (pv 0) Z0b (λ_ _=>rfl)) (Z0a (pv 2) (Z0a (pv 3) Z0d)))) Z0d))))))))))))),?_⟩
 try dsimp only[cxK]
 refine⟨λσ' H'=>H=H'/\σ'=[some (.ref p),some (.ref q),some (.int ((2^(hd x).toNat:Nat):Int)),none],?_,?_⟩
 ·exact⟨_,Z,q,_,_,.int (hd x),Z,Z,SP,at1m x,_,_,Z,Z,⟨1,sz1,by omega,by omega⟩,Z,by rw[<-Y1n g0];rfl⟩
 rintro σ' _ ⟨rfl,rfl⟩
 cases x with
 | flip a =>
  obtain⟨A,rfl⟩:∃ A:Nat,a=(A:Int):=⟨a.toNat,(tn g0).symm⟩
  rw[Y8z] at kq
  refine⟨_,Z,q,_,_,.str "flip",Z,Z,SP,at0,Z,_,Z,decI (λ_=>?_) (λz=>absurd rfl z)⟩
  refine⟨_,Z,p,_,_,.int s,Z,Z,S,k2,_,Z,_,_,Z,Z,_,Z,?_⟩
  show (if (Builtin.bitAnd (s:Int) ((2^A:Nat):Int) != 0)=true then _ else _)
  rw[tb]
  refine blI (λz=>?_) (λz=>?_)
  ·rw[if_pos z] at kq
   exact⟨_,Z,p,(k,f,s),Z,S,kq⟩
  ·rw[if_neg (by rw[z];decide)] at kq
   exact⟨_,Z,kq p H (Same.refl _) S⟩
 | mix a =>
  obtain⟨A,rfl⟩:∃ A:Nat,a=(A:Int):=⟨a.toNat,(tn g0).symm⟩
  refine⟨_,Z,q,_,_,.str "mix",Z,Z,SP,at0,Z,_,Z,decI (λz=>absurd (V.str.inj z) (by decide)) (λ_=>?_)⟩
  refine⟨_,Z,q,_,_,.str "mix",Z,Z,SP,at0,Z,_,Z,decI (λ_=>?_) (λz=>absurd rfl z)⟩
  exact⟨_,Z,_,Z,p,(k,f,s),c,A,Z,S,o,c6,by have:(A:Int)<c:=g1;omega,kq⟩
 | turn a j =>
  have okj:0<=a/\1<=j/\j<=7:=ok.1
  obtain⟨A,rfl⟩:∃ A:Nat,a=(A:Int):=⟨a.toNat,(tn g0).symm⟩
  obtain⟨J,rfl⟩:∃ J:Nat,j=(J:Int):=⟨j.toNat,(tn (by omega)).symm⟩
  refine⟨_,Z,q,_,_,.str "turn",Z,Z,SP,at0,Z,_,Z,decI (λz=>absurd (V.str.inj z) (by decide)) (λ_=>?_)⟩
  refine⟨_,Z,q,_,_,.str "turn",Z,Z,SP,at0,Z,_,Z,decI (λz=>absurd (V.str.inj z) (by decide)) (λ_=>?_)⟩
  refine⟨_,Z,q,_,_,.str "turn",Z,Z,SP,at0,Z,_,Z,decI (λ_=>?_) (λz=>absurd rfl z)⟩
  exact⟨_,Z,_,Z,_,Z,q,_,_,.int J,Z,Z,SP,k2,p,(k,f,s),A,J,Z,S,kq⟩
 | iff a b =>
  have okj:0<=a/\0<=b/\a≠b:=ok.1
  have hb:b<(c:Int):=ok.2 b (by simp[Mv.cells])
  obtain⟨A,rfl⟩:∃ A:Nat,a=(A:Int):=⟨a.toNat,(tn g0).symm⟩
  obtain⟨J,rfl⟩:∃ J:Nat,b=(J:Int):=⟨b.toNat,(tn okj.2.1).symm⟩
  refine⟨_,Z,q,_,_,.str "if",Z,Z,SP,at0,Z,_,Z,decI (λz=>absurd (V.str.inj z) (by decide)) (λ_=>?_)⟩
  refine⟨_,Z,q,_,_,.str "if",Z,Z,SP,at0,Z,_,Z,decI (λz=>absurd (V.str.inj z) (by decide)) (λ_=>?_)⟩
  refine⟨_,Z,q,_,_,.str "if",Z,Z,SP,at0,Z,_,Z,decI (λz=>absurd (V.str.inj z) (by decide)) (λ_=>?_)⟩
  refine⟨λσ' H'=>H=H'/\σ'=[some (.ref p),some (.ref q),some (.int ((2^A:Nat):Int)),some (.int ((2^J:Nat):Int))],?_,?_⟩
  ·exact⟨_,Z,q,_,_,.int J,Z,Z,SP,k2,_,_,Z,Z,⟨1,sz1,by omega,by omega⟩,Z,by rw[<-ipow J];rfl⟩
  rintro σ' _ ⟨rfl,rfl⟩
  refine⟨_,Z,q,_,_,.str "if",Z,Z,SP,at0,Z,_,Z,decI (λ_=>?_) (λz=>absurd rfl z)⟩
  exact⟨_,Z,_,Z,_,Z,p,(k,f,s),A,J,Z,S,kq⟩
 | pair a b =>
  have okj:0<=a/\0<=b/\a≠b:=ok.1
  have hb:b<(c:Int):=ok.2 b (by simp[Mv.cells])
  obtain⟨A,rfl⟩:∃ A:Nat,a=(A:Int):=⟨a.toNat,(tn g0).symm⟩
  obtain⟨J,rfl⟩:∃ J:Nat,b=(J:Int):=⟨b.toNat,(tn okj.2.1).symm⟩
  refine⟨_,Z,q,_,_,.str "pair",Z,Z,SP,at0,Z,_,Z,decI (λz=>absurd (V.str.inj z) (by decide)) (λ_=>?_)⟩
  refine⟨_,Z,q,_,_,.str "pair",Z,Z,SP,at0,Z,_,Z,decI (λz=>absurd (V.str.inj z) (by decide)) (λ_=>?_)⟩
  refine⟨_,Z,q,_,_,.str "pair",Z,Z,SP,at0,Z,_,Z,decI (λz=>absurd (V.str.inj z) (by decide)) (λ_=>?_)⟩
  refine⟨λσ' H'=>H=H'/\σ'=[some (.ref p),some (.ref q),some (.int ((2^A:Nat):Int)),some (.int ((2^J:Nat):Int))],?_,?_⟩
  ·exact⟨_,Z,q,_,_,.int J,Z,Z,SP,k2,_,_,Z,Z,⟨1,sz1,by omega,by omega⟩,Z,by rw[<-ipow J];rfl⟩
  rintro σ' _ ⟨rfl,rfl⟩
  refine⟨_,Z,q,_,_,.str "pair",Z,Z,SP,at0,Z,_,Z,decI (λz=>absurd (V.str.inj z) (by decide)) (λ_=>?_)⟩
  refine⟨_,Z,q,_,_,.str "pair",Z,Z,SP,at0,Z,_,Z,decI (λ_=>?_) (λz=>absurd rfl z)⟩
  exact⟨_,Z,_,Z,_,Z,p,(k,f,s),A,J,Z,S,kq⟩
 | swap a b =>
  have okj:0<=a/\0<=b/\a≠b:=ok.1
  have hb:b<(c:Int):=ok.2 b (by simp[Mv.cells])
  obtain⟨A,rfl⟩:∃ A:Nat,a=(A:Int):=⟨a.toNat,(tn g0).symm⟩
  obtain⟨J,rfl⟩:∃ J:Nat,b=(J:Int):=⟨b.toNat,(tn okj.2.1).symm⟩
  refine⟨_,Z,q,_,_,.str "swap",Z,Z,SP,at0,Z,_,Z,decI (λz=>absurd (V.str.inj z) (by decide)) (λ_=>?_)⟩
  refine⟨_,Z,q,_,_,.str "swap",Z,Z,SP,at0,Z,_,Z,decI (λz=>absurd (V.str.inj z) (by decide)) (λ_=>?_)⟩
  refine⟨_,Z,q,_,_,.str "swap",Z,Z,SP,at0,Z,_,Z,decI (λz=>absurd (V.str.inj z) (by decide)) (λ_=>?_)⟩
  refine⟨λσ' H'=>H=H'/\σ'=[some (.ref p),some (.ref q),some (.int ((2^A:Nat):Int)),some (.int ((2^J:Nat):Int))],?_,?_⟩
  ·exact⟨_,Z,q,_,_,.int J,Z,Z,SP,k2,_,_,Z,Z,⟨1,sz1,by omega,by omega⟩,Z,by rw[<-ipow J];rfl⟩
  rintro σ' _ ⟨rfl,rfl⟩
  refine⟨_,Z,q,_,_,.str "swap",Z,Z,SP,at0,Z,_,Z,decI (λz=>absurd (V.str.inj z) (by decide)) (λ_=>?_)⟩
  refine⟨_,Z,q,_,_,.str "swap",Z,Z,SP,at0,Z,_,Z,decI (λz=>absurd (V.str.inj z) (by decide)) (λ_=>?_)⟩
  have ac:A<c:=by have:(A:Int)<c:=g1;omega
  have bc:J<c:=by omega
  have ne:A≠J:=λz=>okj.2.2 (by rw[z])
  refine⟨_,Z,p,_,_,.int k,Z,Z,S,k0,_,Z,p,_,_,.int f,Z,Z,S,k1,_,Z,_,Z,f,A,J,Z,λH1 S1=>?_⟩
  refine⟨_,Z,p,_,_,.int s,Z,Z,S1.tup S,k2,_,Z,_,Z,s,A,J,Z,λH2 S2=>⟨t3,λr hr=>kq r _ ((S1.trans S2).trans (Z0f hr _)) (SqT.of ?_)⟩⟩
  rw[Z0c,(Y3j c6 ac bc ne o.f).1,(Y3j c6 ac bc ne o.s).1]
  rfl
 | cross a b d=>exact absurd br id
end
end K55S
namespace K55S
open L2 Ba Am Pc M71
open K64 (top Bs)
open M72 (fl sw VOk)
open M75 (Mk mvd Br)
noncomputable def oddT:Mv->Bool
 | .turn _ j=>decide (V.int (j%2)=V.int 1)
 | _=>false
noncomputable def brB:Mv->Bool
 | .cross _ _ _=>false
 | x=>!oddT x
def spOdd:Sp:=λvs H Q _=>∃ (p:W9) (x:Mv),vs=[.ref p]/\H p=some (mT (mm x))/\Q (.bl (oddT x)) H
theorem Z5a {x:Mv}(e:nm x="turn"):∃ a j,x=.turn a j:=by
 have:=(X4r x).mp e
 cases x<;>first | exact⟨_,_,Z⟩ | simp[code] at this
theorem Z6g {x:Mv}(e:nm x≠"turn"):oddT x=false:=by cases x<;>first | rfl | exact absurd rfl e
theorem X8j {x:Mv}(e:nm x≠"cross"):brB x=!oddT x:=by cases x<;>first | rfl | exact absurd rfl e
theorem X8k {x:Mv}(o:M72.Ok x):brB x=true ↔ Br x:=by
 cases x with
 | turn a j =>
  have:0<=a/\1<=j/\j<=7:=o
  show (!decide (V.int (j%2)=V.int 1))=true ↔ j.toNat%2=0
  by_cases h:j%2=1
  ·rw[q0t (by rw[h])]
   simp
   omega
  ·rw[q0j (λz=>h (V.int.inj z))]
   simp
   omega
 | cross a b d=>exact⟨λz=>(nomatch z),λz=>z.elim⟩
 | _=>exact⟨λ_=>trivial,λ_=>rfl⟩
noncomputable def oV:Option Nat->V
 | none=>.non
 | some n=>.int n
section
variable {P:U8}{w:W1}{K:U0}{mg:U4}{base:Heap}{k:Nat}{h:Heap}
theorem sc_odd:FnScope ["move"] ["move"] (Z0h (top 45)):=fS
theorem X6t (F:FunAt K "is_odd_turn" (top 45) .none)(X:K.In h)(G:Ng h mg):Cal P w K mg base (k+1) "is_odd_turn" ["move"] spOdd:=by
 have nd:=sc_odd.nd
 refine F.cal X G sc_odd (bnd1 λ_ _ _ _ _ _ _=>rfl) (λvs H Q E h=>?_) (λf cdv A outer s H vs Q E hr h=>?_)
 ·obtain⟨p,x,rfl,_⟩:=h;rfl
 obtain⟨p,x,rfl,hp,q⟩:=h
 have SP:SqT K H p (.str (nm x)::(ns x).map V.int):=SqT.of hp
 refine⟨_,(@Z0g _ _ _ (Z0l (Z4c (Z1o Z1j (Z0k Z0j (pv 0) Z0b (λ_ _=>rfl)) Z1h (nomark _)) (Z3n (Z1o Z1j (Z0i Z0x (Z0k Z0j (pv 0) Z0b (λ_ _=>rfl)) Z0b) Z0b (nomark _)))))),?_⟩
 try dsimp only[cxK]
 refine⟨_,Z,p,_,_,.str (nm x),Z,Z,SP,at0m x,Z,?_⟩
 by_cases e:nm x="turn"
 ·obtain⟨a,j,rfl⟩:=Z5a e
  exact⟨_,Z,decI (λ_=>⟨_,Z,p,_,_,.int j,Z,Z,SP,k2,_,_,Z,Z,(by show (0:Int)<_;decide),Z,q⟩) (λz=>absurd rfl z)⟩
 ·refine⟨_,Z,decI (λz=>absurd (V.str.inj z) e) (λ_=>?_)⟩
  rw[Z6g e] at q
  exact q
end
end K55S
namespace K55S
open L2 Ba Am Pc M71
open K64 (top Bs Bd5 ValsK At5 Z3b vals_push vals_upd Ams Z8c)
open M72 (fl sw VOk V4 En sm rowop)
open M75 (Mk mvd Br lay bn bp)
noncomputable abbrev layW (m:Mk)(f:Nat->A5)(w:Nat):A5:=spin (f (w^^^m.2.1)) ((2*m.1+4*pc ((w^^^m.2.1)&&&m.2.2):Nat):Int)
def spLayK (K:U0):Sp:=λvs H Q _=>∃ (l p:W9) (ps:U3) (f:Nat->A5) (c n M:Nat) (m:Mk),vs=[.ref l,.ref p]/\Bd5 K H l ps f c n M/\c<=6/\SqT K H p (mkL m)/\OkK c m ∧
 ∀ (r:W9) (H':Hp) (qs:U3),H r=none->Same H H'->Bd5 K H' r qs (layW m f) c n M->Q (.ref r) H'
theorem X2p (n:Nat)(x:V4):Ba.rot n x=En n x:=by
 induction n with
 | zero=>rfl
 | succ n ih=>show M72.E (Ba.rot n x)=M72.E (En n x);rw[ih]
theorem X1f {c n:Nat}{m:Mk}{F:M72.Bv}{f:Nat->A5}(o:OkK c m)(h:∀ w,w<2^c->Vl n (F w) (f w)):∀ w,w<2^c->Vl n (lay m F w) (layW m f w):=by
 intro w hw
 have hx:=h (w^^^m.2.1) (q2r hw o.f)
 have q:=hx.rot ((((2*m.1+4*pc ((w^^^m.2.1)&&&m.2.2):Nat):Int)%8).toNat)
 have e:lay m F w=En ((((2*m.1+4*pc ((w^^^m.2.1)&&&m.2.2):Nat):Int)%8).toNat) (F (w^^^m.2.1)):=by
  unfold lay
  refine M75.Y9z ?_ _
  have hb:bn (bp ((w^^^m.2.1)&&&m.2.2))=pc ((w^^^m.2.1)&&&m.2.2)%2:=by
   unfold bp bn
   rcases q0v (pc ((w^^^m.2.1)&&&m.2.2)) with a | a<;>rw[a]<;>rfl
  rw[hb]
  omega
 rw[e]
 exact q
theorem Z6e {x y:Nat}:[V.int (Builtin.bitAnd (x:Int) (y:Int))]=[V.int ((x&&&y:Nat):Int)]:=by rw[Z5n]
section
variable {P:U8}{w:W1}{K:U0}{mg:U4}{base:Heap}{k:Nat}{h:Heap}
theorem sc_ones:FnScope ["number","many","rest"] ["number"] (Z0h (top 24)):=fS
theorem X3p (F:FunAt K "ones" (top 24) .none)(X:K.In h)(G:Ng h mg):Cal P w K mg base (k+1) "ones" ["number"] spOnes:=by
 have nd:=sc_ones.nd
 refine F.cal X G sc_ones (bnd1 λ_ _ _ _ _ _ _=>rfl) (λvs H Q E h=>?_) (λf cdv A outer s H vs Q E hr h=>?_)
 ·obtain⟨n,rfl,_⟩:=h;rfl
 obtain⟨n,rfl,q⟩:=h
 refine⟨_,(@Z0e _ _ _ _ _ (@Z0o _ _ 1 _ _ _ _ nd rfl (Or.inl rfl) Z0b rfl (.inl rfl))
  (@Z0e _ _ _ _ _ (@Z0o _ _ 2 _ _ _ _ nd rfl (Or.inl rfl) (pv 0) rfl (.inl rfl))
  (@Z0e _ _ _ _ _ (Z7y PassesOwn.never (Z0q Z5m (pv 2) Z0b (nomark _))
   (@Z0e _ _ _ _ _ (@Z0o _ _ 2 _ _ _ _ nd rfl (Or.inl rfl) (Z0i Z1n (pv 2) (Z0i Z1t (pv 2) Z0b)) rfl (.inl rfl))
   (@Z0g _ _ _ (@Z0o _ _ 1 _ _ _ _ nd rfl (Or.inl rfl) (Z0i Z1f (pv 1) Z0b) rfl (.inl rfl)))))
  (@Z0g _ _ _ (Z0l (pv 1)))))),?_⟩
 try dsimp only[cxK]
 refine⟨_,Z,λm σ H'=>H'=H/\∃ j r:Nat,m=pc r/\j+pc r=pc n/\σ=[some (.int n),some (.int j),some (.int r)],⟨_,Z,0,n,Z,q3o _,Z⟩,?_⟩
 rintro m σ H' ⟨rfl,j,r,rfl,hj,rfl⟩
 refine⟨_,Z,Z,_,Z,neI (λhr0=>?_) (λhr0=>?_)⟩
 ·have r0:r≠0:=by omega
  have e:=Y4w (r+1) r (by omega) r0
  refine⟨_,λσ' H' x=>x,?_⟩
  refine⟨_,Z,_,Z,_,_,Z,Z,_,_,Z,Z,?_⟩
  refine⟨_,Z,_,_,Z,Z,⟨pc (r&&&(r-1)),by omega,Z,j+1,r&&&(r-1),Z,by omega,?_⟩⟩
  have e2:Builtin.bitAnd (r:Int) ((r:Int)-1)=((r&&&(r-1):Nat):Int):=by rw[show (r:Int)-1=((r-1:Nat):Int) by omega,Z5n]
  show [some (V.int n),some (V.int ((j:Int)+1)),some (V.int (Builtin.bitAnd (r:Int) ((r:Int)-1)))]=_
  rw[e2]
  rfl
 ·have r0:r=0:=by omega
  subst r0
  rw[Z8b,q5c] at hj
  subst hj
  exact⟨_,Z,q⟩
end
end K55S
set_option maxHeartbeats 1000000
namespace M75
open M71 M71.Mv M72 Pc
end M75
namespace M77
open M71 Mv M72 M75
noncomputable def bk:Mv->Mv
 | .turn a j=>.turn a (8-j)
 | x=>x
theorem mod4 {k:Nat}(h:k<4):((k+2)%4+2)%4=k:=by omega
theorem Y5q {x:Mv}(o:Ok x)(b:Br x){m:Mk}(h:m.1<4):mvd (bk x) (mvd x m)=m:=by
 obtain⟨k,f,s⟩:=m
 have h:k<4:=h
 cases x with
 | flip a =>
  show (if s.testBit a.toNat then ((if s.testBit a.toNat then (k+2)%4 else k)+2)%4 else (if s.testBit a.toNat then (k+2)%4 else k),f,s)=_
  by_cases c:s.testBit a.toNat=true
  ·simp only[c,q7e];rw[mod4 h]
  ·simp only[c,q4u];simp
 | mix a =>
  by_cases c:f.testBit a.toNat=true<;>by_cases d:s.testBit a.toNat=true<;>simp[bk,mvd,c,d,Z6r,M72.Y0q,mod4 h]
 | turn a j =>
  obtain⟨a0,j1,j7⟩:0<=a/\1<=j/\j<=7:=o
  have b:j.toNat%2=0:=b
  have hj:j=2∨j=4∨j=6:=by omega
  by_cases c:f.testBit a.toNat=true
  ·rcases hj with rfl | rfl | rfl<;>simp[bk,mvd,c,M72.Y0q]<;>omega
  ·simp[bk,mvd,c]
 | iff a b' =>
  obtain⟨a0,b0,n⟩:0<=a/\0<=b'/\a≠b':=o
  have n':a.toNat≠b'.toNat:=by omega
  by_cases c:f.testBit a.toNat=true<;>by_cases d:s.testBit b'.toNat=true<;>simp[bk,mvd,c,d,Z3s n',Z3s n'.symm,M72.Y0q]
 | pair a b' =>
  obtain⟨a0,b0,n⟩:0<=a/\0<=b'/\a≠b':=o
  have fc:∀ w,fl (fl w a.toNat) b'.toNat=fl (fl w b'.toNat) a.toNat:=λw=>by
   unfold fl
   rw[q2w,Nat.xor_comm (2^a.toNat),<-q2w]
  by_cases c:f.testBit a.toNat=true<;>by_cases d:f.testBit b'.toNat=true<;>simp[bk,mvd,c,d,M72.Y0q,fc,mod4 h]
 | swap a b' =>
  obtain⟨a0,b0,n⟩:0<=a/\0<=b'/\a≠b':=o
  have n':a.toNat≠b'.toNat:=by omega
  simp[bk,mvd,X8w n']
 | cross a b' d=>exact b.elim
theorem Y9w {c:Nat}{x:Mv}(o:VOk c x):VOk c (bk x):=by
 cases x with
 | turn a j =>
  obtain⟨⟨a0,j1,j7⟩,h⟩:=o
  exact⟨⟨a0,by omega,by omega⟩,h⟩
 | _=>exact o
theorem Y7f {x:Mv}(o:Ok x)(b:Br x):Br (bk x):=by
 cases x with
 | turn a j =>
  obtain⟨a0,j1,j7⟩:0<=a/\1<=j/\j<=7:=o
  have b:j.toNat%2=0:=b
  show (8-j).toNat%2=0
  omega
 | _=>exact b
end M77
namespace M84
open M71 Mv M72 M75 M77 Pc
noncomputable def mul (x y:V4):V4:=(x.1*y.1-x.2.1*y.2.2.2-x.2.2.1*y.2.2.1-x.2.2.2*y.2.1,x.1*y.2.1+x.2.1*y.1-x.2.2.1*y.2.2.2-x.2.2.2*y.2.2.1,
 x.1*y.2.2.1+x.2.1*y.2.1+x.2.2.1*y.1-x.2.2.2*y.2.2.2,x.1*y.2.2.2+x.2.1*y.2.2.1+x.2.2.1*y.2.1+x.2.2.2*y.1)
noncomputable def z0:V4:=(0,0,0,0)
noncomputable def one:V4:=(1,0,0,0)
theorem Y5r (v x y:V4):mul v (add x y)=add (mul v x) (mul v y):=by apply ext<;>simp only[mul,add]<;>grind
theorem add_mul (v x y:V4):mul (add x y) v=add (mul x v) (mul y v):=by apply ext<;>simp only[mul,add]<;>grind
theorem Z5i (n:Int)(v x:V4):mul v (sm n x)=sm n (mul v x):=by apply ext<;>simp only[mul,sm]<;>grind
theorem Z6y (n:Int)(v x:V4):mul (sm n v) x=sm n (mul v x):=by apply ext<;>simp only[mul,sm]<;>grind
theorem X9e (v x:V4):mul v (E x)=E (mul v x):=by apply ext<;>simp only[mul,E]<;>grind
theorem W0p (v x:V4):mul (E v) x=E (mul v x):=by apply ext<;>simp only[mul,E]<;>grind
theorem Y9a (v x:V4):mul v (root x)=root (mul v x):=by apply ext<;>simp only[mul,root]<;>grind
theorem mul_assoc (x y v:V4):mul (mul x y) v=mul x (mul y v):=by apply ext<;>simp only[mul]<;>grind
theorem Y1y (v x:V4):∀ n,mul v (En n x)=En n (mul v x)
 | 0=>rfl
 | n+1=>by show mul v (E (En n x))=E (En n (mul v x));rw[X9e,Y1y v x n]
theorem Y2l (v x:V4):∀ n,mul (En n v) x=En n (mul v x)
 | 0=>rfl
 | n+1=>by show mul (E (En n v)) x=E (En n (mul v x));rw[W0p,Y2l v x n]
theorem one_mul (x:V4):mul one x=x:=by apply ext<;>simp only[mul,one]<;>omega
theorem Y7l (x:V4):mul z0 x=z0:=by apply ext<;>simp only[mul,z0]<;>omega
theorem Y3n (x:V4):add x z0=x:=by apply ext<;>simp only[add,z0]<;>omega
theorem Y7m (x:V4):add z0 x=x:=by apply ext<;>simp only[add,z0]<;>omega
theorem Z4z (x y v:V4):add (add x y) v=add x (add y v):=by apply ext<;>simp only[add]<;>omega
theorem Y9x (x y v:V4):add x (add y v)=add y (add x v):=by apply ext<;>simp only[add]<;>omega
abbrev Te:=V4 × Mk
noncomputable def ts:List Te->Bv->Bv
 | [],_=>λ_=>z0
 | t::r,F=>λw=>add (mul t.1 (lay t.2 F w)) (ts r F w)
theorem Z5y (F:Bv)(w:Nat):∀ a b:List Te,ts (a++b) F w=add (ts a F w) (ts b F w)
 | [],b=>(Y7m _).symm
 | t::a,b=>by
  show add _ (ts (a++b) F w)=add (add _ (ts a F w)) (ts b F w)
  rw[Z5y F w a b,Z4z]
theorem X2a (F:Bv)(w:Nat){a b:List Te}(p:a.Perm b):ts a F w=ts b F w:=by
 induction p with
 | nil=>rfl
 | cons x _ ih=>show add _ _=add _ _;rw[ih]
 | swap x y l=>show add _ (add _ _)=add _ (add _ _);rw[Y9x]
 | trans _ _ h1 h2=>rw[h1,h2]
theorem Z1f (x:Mv)(G G':Bv)(w:Nat):op x (λw=>add (G w) (G' w)) w=add (op x G w) (op x G' w):=by
 by_cases h:isMix x=true
 ·cases x with
  | mix a =>
   show root (add (sm _ (add _ _)) (add _ _))=add (root (add _ _)) (root (add _ _))
   rw[<-Y8a]
   congr 1
   apply ext<;>simp only[add,sm]<;>grind
  | _=>cases h
 ·have h:isMix x=false:=by simpa using h
  rw[Z4j h,Z4j h,Z4j h,X1t,X0p]
theorem Z3h (x:Mv)(v:V4)(G:Bv)(w:Nat):op x (λw=>mul v (G w)) w=mul v (op x G w):=by
 by_cases h:isMix x=true
 ·cases x with
  | mix a =>
   show root (add (sm _ (mul v _)) (mul v _))=mul v (root (add _ _))
   rw[Y9a,Y5r,Z5i]
  | _=>cases h
 ·have h:isMix x=false:=by simpa using h
  rw[Z4j h,Z4j h,Z5i,Y1y]
theorem op_z (x:Mv)(w:Nat):op x (λ_=>z0) w=z0:=by
 have:=Z3h x z0 (λ_=>z0) w
 rw[Y7l] at this
 rw[this,Y7l]
theorem X6n (x:Mv)(F:Bv)(w:Nat)(t:Te)(r:List Te):op x (ts (t::r) F) w=add (mul t.1 (op x (lay t.2 F) w)) (op x (ts r F) w):=by
 show op x (λw=>add ((λw=>mul t.1 (lay t.2 F w)) w) (ts r F w)) w=_
 rw[Z1f,Z3h]
theorem W0o {x:Mv}(o:Ok x):bk (bk x)=x:=by
 cases x with
 | turn a j =>
  show turn a (8-(8-j))=turn a j
  rw[show 8-(8-j)=j by omega]
 | _=>rfl
theorem okb {x:Mv}(o:Ok x):Ok (bk x):=by
 cases x with
 | turn a j =>
  have:0<=a/\1<=j/\j<=7:=o
  exact⟨this.1,by omega,by omega⟩
 | _=>exact o
theorem Y1s {x:Mv}(o:Ok x)(b:Br x)(F:Bv):∀ T:List Te,(∀ t∈T,t.2.1<4)->op x (ts (T.map λt=>(t.1,mvd (bk x) t.2)) F)=ts T (op x F)
 | [],_=>by funext w;exact op_z x w
 | t::T,h=>by
  funext w
  rw[q1k,X6n,Y1s o b F T λx hx=>h x (.tail _ hx)]
  show add (mul t.1 (op x (lay (mvd (bk x) t.2) F) w)) _=add (mul t.1 (lay t.2 (op x F) w)) _
  rw[X2b o b]
  have e:=Y5q (okb o) (Y7f o b) (h t (.head _))
  rw[W0o o] at e
  rw[e]
noncomputable def fa (J:Nat):V4:=add (En (8-J) one) (En J one)
noncomputable def fs (J:Nat):V4:=add (En (8-J) one) (sm (-1) (En J one))
inductive Od (A J:Nat):List Te->List Te->Prop
 | nil:Od A J [] []
 | flip {T T':List Te}{v y z:V4}{m:Mk}:Od A J T T'->m.2.1.testBit A=true->sm 2 y=mul v (fa J)->sm 2 z=mul v (fs J)->Od A J (T++[(v,m)]) (T'++[(y,m),(z,(m.1,m.2.1,fl m.2.2 A))])
 | keep {T T':List Te}{v:V4}{m:Mk}:Od A J T T'->m.2.1.testBit A=false->Od A J (T++[(v,m)]) (T'++[(v,m)])
theorem Y9f (m:Mk)(A:Nat)(F:Bv)(w:Nat):lay (m.1,m.2.1,fl m.2.2 A) F w=sm (sgB ((w^^^m.2.1).testBit A)) (lay m F w):=by
 show En (2*m.1+4*bn (bp ((w^^^m.2.1)&&&fl m.2.2 A))) _=sm _ (En (2*m.1+4*bn (bp ((w^^^m.2.1)&&&m.2.2))) _)
 rw[Z4m,Y0v,Y0v,Y2s]
 congr 1
 rw[Z7u,Bool.xor_comm]
theorem Y4y (a j:Int)(G:Bv)(w:Nat):op (turn a j) G w=sm 2 (En (if w.testBit a.toNat then j.toNat else 0) (G w)):=rfl
theorem Y2c (a j:Int)(m:Mk)(F:Bv)(w:Nat):lay m (op (turn a j) F) w=sm 2 (En (if (w^^^m.2.1).testBit a.toNat then j.toNat else 0) (lay m F w)):=by
 show En _ (sm 2 (En _ _))=sm 2 (En _ (En _ _))
 rw[Y9y,Z9x,Z9x,q8g]
 rfl
theorem sm_2 {x y:V4}(h:sm 2 x=sm 2 y):x=y:=X0o (by decide) h
theorem X0y (x:Mv)(a b:List Te)(F:Bv)(w:Nat):op x (ts (a++b) F) w=add (op x (ts a F) w) (op x (ts b F) w):=by
 have e:ts (a++b) F=λw=>add (ts a F w) (ts b F w):=funext λw=>Z5y F w a b
 rw[e,Z1f]
theorem Y4z {a j:Int}(hj:1<=j/\j<=7){T T':List Te}(h:Od a.toNat j.toNat T T')(F:Bv):op (turn a j) (ts T' F)=ts T (op (turn a j) F):=by
 funext w
 induction h with
 | nil=>exact op_z _ w
 | @keep T T' v m _ hb ih =>
  rw[X0y,ih,Z5y]
  congr 1
  show op _ (ts [(v,m)] F) w=add (mul v (lay m (op (turn a j) F) w)) z0
  rw[X6n,Y2c,Y4y,q1h,hb,Bool.xor_false]
  show add _ (op _ (λ_=>z0) w)=_
  rw[op_z]
 | @flip T T' v y z m _ hb hy hz ih =>
  rw[X0y,ih,Z5y]
  congr 1
  have eg:∀ L:V4,∀ s:Int,sm 2 (add (mul y L) (mul z (sm s L)))=mul v (mul (add (fa j.toNat) (sm s (fs j.toNat))) L):=λL s=>by
   rw[X0p,<-Z6y,hy,Z5i,Y2s,q6t,<-Y2s,<-Z6y,hz,add_mul,Y5r,Z6y,mul_assoc,mul_assoc,Z5i]
  have e1:add (fa j.toNat) (sm 1 (fs j.toNat))=sm 2 (En (8-j.toNat) one):=by unfold fa fs;apply ext<;>simp only[add,sm]<;>omega
  have e2:add (fa j.toNat) (sm (-1) (fs j.toNat))=sm 2 (En j.toNat one):=by unfold fa fs;apply ext<;>simp only[add,sm]<;>omega
  have key:op (turn a j) (λw=>add (mul y (lay m F w)) (mul z (lay (m.1,m.2.1,fl m.2.2 a.toNat) F w))) w=mul v (lay m (op (turn a j) F) w):=by
   rw[Y4y,Y2c,Y9f]
   have x1:(w^^^m.2.1).testBit a.toNat=!w.testBit a.toNat:=by rw[q1h,hb,Bool.xor_true]
   rw[x1]
   by_cases c:w.testBit a.toNat=true
   ·rw[c]
    have g:add (mul y (lay m F w)) (mul z (sm (sgB (!true)) (lay m F w)))=mul v (En (8-j.toNat) (lay m F w)):=by
     apply sm_2
     rw[eg,show sgB (!true)=1 from rfl,e1,Z6y,Y2l,one_mul,Z5i]
    rw[g,if_pos rfl,if_neg (by decide)]
    show sm 2 (En j.toNat (mul v (En (8-j.toNat) (lay m F w))))=mul v (sm 2 (lay m F w))
    rw[Y1y,Z9x,show j.toNat+(8-j.toNat)=8 by omega,En8,Z5i]
   ·have c:w.testBit a.toNat=false:=by simpa using c
    rw[c]
    have g:add (mul y (lay m F w)) (mul z (sm (sgB (!false)) (lay m F w)))=mul v (En j.toNat (lay m F w)):=by
     apply sm_2
     rw[eg,show sgB (!false)=-1 from rfl,e2,Z6y,Y2l,one_mul,Z5i]
    rw[g,if_neg (by decide),if_pos (by decide)]
    show sm 2 (mul v (En j.toNat (lay m F w)))=_
    rw[Z5i]
  have e3:ts [(y,m),(z,(m.1,m.2.1,fl m.2.2 a.toNat))] F=λw=>add (mul y (lay m F w)) (mul z (lay (m.1,m.2.1,fl m.2.2 a.toNat) F w)):=by
   funext w
   show add _ (add _ z0)=_
   rw[Y3n]
  rw[e3,key]
  show _=add (mul v (lay m (op (turn a j) F) w)) z0
  rw[Y3n]
def Ah (x:Mv)(T T':List Te):Prop:=(Br x/\T'=T.map λt=>(t.1,mvd (bk x) t.2))∨∃ a j,x=turn a j/\Od a.toNat j.toNat T T'
theorem X5e {x:Mv}{T T':List Te}(o:Ok x)(h:Ah x T T')(m4:∀ t∈T,t.2.1<4)(F:Bv):op x (ts T' F)=ts T (op x F):=by
 rcases h with ⟨b,rfl⟩ | ⟨a,j,rfl,od⟩
 ·exact Y1s o b F T m4
 ·exact Y4z (by have:0<=a/\1<=j/\j<=7:=o;exact this.2) od F
def Sums (N:Nat)(m:Mk)(row:List Mv)(T:List Te):Prop:=∀ (F:Bv) (w:Nat),rowop row (ts T F) w=sm (2^N) (lay m (rowop row F) w)
theorem Y7y (N:Nat)(m:Mk):Sums N m [] [(sm (2^N) one,m)]:=λF w=>by
 show add (mul (sm (2^N) one) (lay m F w)) z0=sm (2^N) (lay m F w)
 rw[Y3n,Z6y,one_mul]
theorem Y3v {N:Nat}{m:Mk}{x:Mv}{row:List Mv}{T T':List Te}(o:Ok x)(s:Sums N m row T)(h:Ah x T T')(m4:∀ t∈T,t.2.1<4):Sums N m (x::row) T':=λF w=>by
 show rowop row (op x (ts T' F)) w=sm (2^N) (lay m (rowop row (op x F)) w)
 rw[X5e o h m4]
 exact s (op x F) w
noncomputable def nmk (k:Nat × Nat):Mk:=(pc (k.1&&&k.2)%4,k.1,k.2)
noncomputable abbrev gt (val:Nat × Nat->V4)(ks:List (Nat × Nat)):List Te:=ks.map λk=>(val k,nmk k)
theorem X4p {q f s j:Nat}(h:(j+2*(pc (f&&&s)%4))%8=2*q%8)(v:V4)(F:Bv)(w:Nat):mul (En j v) (lay (nmk (f,s)) F w)=mul v (lay (q,f,s) F w):=by
 rw[Y2l,<-Y1y]
 congr 1
 show En j (En (2*(pc (f&&&s)%4)+4*bn (bp ((w^^^f)&&&s))) (F (w^^^f)))=En (2*q+4*bn (bp ((w^^^f)&&&s))) (F (w^^^f))
 rw[Z9x]
 exact Y9z (by omega) _
theorem Y6g {val val':Nat × Nat->V4}:∀ {ks:List (Nat × Nat)},(∀ k∈ks,val k=val' k)->gt val ks=gt val' ks:=λh=>q6e λk hk=>by rw[h k hk]
theorem X7x {val val':Nat × Nat->V4}{ks:List (Nat × Nat)}{k0:Nat × Nat}(n:k0 ∉ ks)(h:∀ k,k≠k0->val' k=val k)(F:Bv)(w:Nat):ts (gt val' (ks++[k0])) F w=add (ts (gt val ks) F w) (mul (val' k0) (lay (nmk k0) F w)):=by
 rw[gt,q0k,Z5y,show ks.map (λk=>(val' k,nmk k))=gt val ks from Y6g λk hk=>h k λe=>n (by rw[<-e];exact hk)]
 show add _ (add _ z0)=_
 rw[Y3n]
theorem X1l {val val':Nat × Nat->V4}{u:V4}{k0:Nat × Nat}(h:∀ k,k≠k0->val' k=val k)(h0:val' k0=add (val k0) u)(F:Bv)(w:Nat):∀ {ks:List (Nat × Nat)},ks.Nodup->k0∈ks->ts (gt val' ks) F w=add (ts (gt val ks) F w) (mul u (lay (nmk k0) F w))
 | [],_,m=>nomatch m
 | k::ks,nd,m=>by
  obtain⟨n1,n2⟩:=q5g.mp nd
  show add (mul (val' k) (lay (nmk k) F w)) (ts (gt val' ks) F w)=add (add (mul (val k) (lay (nmk k) F w)) (ts (gt val ks) F w)) _
  by_cases e:k=k0
  ·subst e
   rw[show gt val' ks=gt val ks from Y6g λj hj=>h j λe=>n1 (by rw[<-e];exact hj),h0,add_mul,Z4z,Z4z,add_comm (mul u _)]
  ·rw[h k e,X1l h h0 F w n2 (by rcases q0q.mp m with q | q;exact absurd q.symm e;exact q),Z4z]
end M84
set_option maxHeartbeats 4000000
namespace K64
open L2 Am Pc Ba
noncomputable def sm (fs:U6)(v:Int × Int × Int × Int):Nat->Int × Int × Int × Int
 | 0=>(0,0,0,0)
 | i+1=>let (a,b,c,d):=sm fs v i;let (x,y,z,u):=rot i v;let f:=fs.getD i 0;(a+f*x,b+f*y,c+f*z,d+f*u)
abbrev Q4 (n:Nat)(v:Int × Int × Int × Int):Prop:=Sz4 n v.1 v.2.1 v.2.2.1 v.2.2.2
theorem Y4l {n:Nat}{v:Int × Int × Int × Int}(h:Q4 n v):∀ i,Q4 n (rot i v)
 | 0=>h
 | i+1=>let r:=Y4l h i;⟨r.z4.neg,r.z1,r.z2,r.z3⟩
theorem X6b {n n':Nat}{fs:U6}{v:Int × Int × Int × Int}(h:Q4 n v)(hf:∀ f∈fs,Sz n' f):∀ i,Q4 (n+n'+i) (sm fs v i)
 | 0=>⟨q4c (by decide),q4c (by decide),q4c (by decide),q4c (by decide)⟩
 | i+1=>by
  have r:=Y4l h i
  have s:=X6b h hf i
  have f0:Sz n' (fs.getD i 0):=by
   rw[q0i]
   cases e:fs[i]? with
   | none=>exact q4c (by decide)
   | some f=>exact hf f (q0w e)
  exact⟨(s.z1.add (f0.mul r.z1)).mono (by omega),(s.z2.add (f0.mul r.z2)).mono (by omega),(s.z3.add (f0.mul r.z3)).mono (by omega),(s.z4.add (f0.mul r.z4)).mono (by omega)⟩
noncomputable abbrev L4 (v:Int × Int × Int × Int):List Int:=[v.1,v.2.1,v.2.2.1,v.2.2.2]
structure Prd (x y z:A5):Prop where
 amt:Amt z.1.1 z.1.2.1 z.1.2.2.1 z.1.2.2.2 z.2
 same:Same4 (x.1.1*y.1.1-x.1.2.1*y.1.2.2.2-x.1.2.2.1*y.1.2.2.1-x.1.2.2.2*y.1.2.1) (x.1.1*y.1.2.1+x.1.2.1*y.1.1-x.1.2.2.1*y.1.2.2.2-x.1.2.2.2*y.1.2.2.1)
  (x.1.1*y.1.2.2.1+x.1.2.1*y.1.2.1+x.1.2.2.1*y.1.1-x.1.2.2.2*y.1.2.2.2) (x.1.1*y.1.2.2.2+x.1.2.1*y.1.2.2.1+x.1.2.2.1*y.1.2.1+x.1.2.2.2*y.1.1) (x.2+y.2) z.1.1 z.1.2.1 z.1.2.2.1 z.1.2.2.2 z.2
 le:z.2<=x.2+y.2
def Z5p (K:U0):Sp:=λvs H Q _=>∃ (p q:W9) (x y:A5) (n n':Nat) (m m':Int),vs=[.ref p,.ref q]/\At5 K H p x/\At5 K H q y/\Ok5 n m x/\Ok5 n' m' y/\n+n'<=100000 ∧
 ∀ (r:W9) (H':Hp) (z:A5),Same H H'->H' r=some (tA z)->Prd x y z->Ok5 (n+n'+4) (m+m') z->Q (.ref r) H'
def Z4o:Sp:=λvs H Q _=>∃ (p:W9) (a b c d h:Int),vs=[.ref p]/\H p=some (T5 a b c d h)/\0<=h/\∀ (r:W9) (H':Hp) (x y z u g:Int),Same H H'->H' r=some (T5 x y z u g)->Red a b c d (h+1) x y z u g->Q (.ref r) H'
section
variable {P:U8}{w:W1}{K:U0}{mg:U4}{base:Heap}{k:Nat}{h:Heap}
theorem sc_times:FnScope ["one","other","sums","turning","factor"] ["one","other"] (Z0h (top 19)):=fS
theorem Y8j (F:FunAt K "times" (top 19) .none)(X:K.In h)(G:Ng h mg)(B:Bs mg)(c8:Cal P w K mg base k "halved_out" ["a","b","c","d","h"] spHalf)(cN:Cal P w K mg base k "spun_once" ["one"] (Z9z K)):Cal P w K mg base (k+1) "times" ["one","other"] (Z5p K):=by
 have nd:=sc_times.nd
 refine F.cal X G sc_times (bnd2 λ_ _ _ _ _ _ _ _=>rfl) (λvs H Q E h=>?_) (λf cdv A outer s H vs Q E hr h=>?_)
 ·obtain⟨p,q,x,y,n,n',m,m',rfl,_⟩:=h;rfl
 obtain⟨p,q,⟨⟨a,b,c,d⟩,h⟩,⟨⟨a',b',c',d'⟩,h'⟩,n,n',m,m',rfl,e1,e2,ox,oy,hn,kq⟩:=h
 have h0:0<=h:=ox.amt.nn
 have h0':0<=h':=oy.amt.nn
 have z:=ox.sz
 have z':=oy.sz
 have hl1:h<=m:=ox.le
 have hl2:h'<=m':=oy.le
 have S:SqT K H p [.int a,.int b,.int c,.int d,.int h]:=e1
 have S':SqT K H q [.int a',.int b',.int c',.int d',.int h']:=e2
 have hz:Q4 n (a,b,c,d):=z
 have hf:∀ f∈[a',b',c',d'],Sz n' f:=by
  intro f hx
  simp only[q0q,q0u,q2e] at hx
  rcases hx with rfl | rfl | rfl | rfl
  ·exact z'.z1
  ·exact z'.z2
  ·exact z'.z3
  ·exact z'.z4
 refine⟨_,(@Z0e _ _ _ _ _ (@Z0o _ _ 2 _ _ _ _ nd rfl (Or.inl rfl) (@Z2r _ _ _ _ (Z0a Z0b (Z0a Z0b (Z0a Z0b (Z0a Z0b Z0d))))) rfl (.inl rfl))
  (@Z0e _ _ _ _ _ (@Z0o _ _ 3 _ _ _ _ nd rfl (Or.inl rfl) (pv 0) rfl (.inl rfl))
  (@Z0e _ _ _ _ _ (Z1u PassesOwn.never rfl (Z9d (Z1s Z7a (pv 1) Z2m (Z1v Z0b))) (Z0m (i:=4) nd rfl (Or.inr rfl))
   (@Z0e _ _ _ _ _ (Z3x (i:=2) rfl nd rfl rfl (LcOk.of (Nc:=["x","y","factor"]) (mp:=[none,none,some 4]) (by kernel_rfl)) (X0t false true rfl B.zip (Z0a (pv 2) (Z0a (Z1s Z7a (pv 3) Z2m (Z1v Z0b)) Z0d))) (λ_ _ _ _=>(Z4t rfl (show (["x","y","factor"]:W0).Nodup by decide +kernel) rfl rfl rfl rfl)) (λ_ _ _ _=>(Z0i Z1f (pv 0) (Z0i Z2x (pv 2) (pv 1)))) rfl)
   (@Z0g _ _ _ (@Z0o _ _ 3 _ _ _ _ nd rfl (Or.inl rfl) (Z0n cN hr rfl (Z0a (pv 3) Z0d)) rfl (.inl rfl)))))
  (@Z0g _ _ _ (Z0l (Z0n c8 hr rfl (Z0a (Z0k Z0w (pv 2) Z0b (λ_ _=>rfl)) (Z0a (Z0k Z0w (pv 2) Z0b (λ_ _=>rfl)) (Z0a (Z0k Z0w (pv 2) Z0b (λ_ _=>rfl)) (Z0a (Z0k Z0w (pv 2) Z0b (λ_ _=>rfl)) (Z0a (Z0i Z1f (Z0k Z0j (pv 0) Z0b (λ_ _=>rfl)) (Z0k Z0j (pv 1) Z0b (λ_ _=>rfl))) Z0d))))))))))),?_⟩
 try dsimp only[cxK]
 refine⟨(by show 4<=sizeLine;decide),λl0 hl0=>?_⟩
 have s1:=Z0f hl0 (.lst [.int 0,.int 0,.int 0,.int 0])
 refine⟨_,Z,?_⟩
 refine⟨_,Z,4,Z,q,_,Z,s1.tup S',cut54,λl1 hl1=>⟨l1,Z,⟨_,SqT.of Z0c⟩,?_⟩⟩
 have s2:=s1.trans (Z0f hl1 (.tup ([a',b',c',d'].map V.int)))
 refine X4t (K:=K) (a:=l1) (xs:=[a',b',c',d'].map V.int) (λi σ H'=>Same (upd (upd H l0 (.lst [.int 0,.int 0,.int 0,.int 0])) l1 (.tup ([a',b',c',d'].map V.int))) H'/\∃ l t v,σ=[some (.ref p),some (.ref q),some (.ref l),some (.ref t),v] ∧
   H' l=some (.lst ((L4 (sm [a',b',c',d'] (a,b,c,d) i)).map V.int))/\At5 K H' t (rot i (a,b,c,d),h))
  ⟨Same.refl _,l0,p,none,Z,?_,e1.same s2⟩ (λi σ H' _ p=>p.1.tup (SqT.of Z0c)) ?_ ?_
 ·rw[Z0t (λe=>by rw[<-e,Z0c] at hl1;cases hl1),Z0c];rfl
 ·rintro i x σ H2 hx ⟨s3,l,t,v,rfl,hl,ht⟩
  rw[q0n] at hx
  obtain⟨fa,hfa,rfl⟩:=q0l.mp hx
  have zf:=hf fa (q0w hfa)
  have zr:=Y4l hz i
  have ef:[a',b',c',d'].getD i 0=fa:=by rw[q0i,hfa];rfl
  refine⟨_,Z,_,Z,4,Z,t,_,Z,ht,cut54,λl2 hl2=>?_⟩
  refine⟨l,l2,_,(L4 (rot i (a,b,c,d))).map V.int,Z,(Z0f hl2 _).seq (SqL.of hl),SqT.of Z0c,λacc hacc=>?_⟩
  refine Y5u (K:=K) (ns:=L4 (sm [a',b',c',d'] (a,b,c,d) i)) (ms:=L4 (rot i (a,b,c,d))) (fr:=[some (.int fa)]) (λx y=>x+fa*y) rfl (show 4<=sizeLine by decide) ((Z0f hl2 _).seq (SqL.of hl)) (SqT.of Z0c) hacc
   (λha hQ=>⟨_,_,Z,SqT.of ha,Z,_,_,Z,_,_,Z,Z,hQ⟩) ?_ ?_
  ·intro x y H2 N hx hy kN
   have zy:Sz n y:=by
    simp only[q0q,q0u,q2e] at hy
    rcases hy with rfl | rfl | rfl | rfl
    ·exact zr.z1
    ·exact zr.z2
    ·exact zr.z3
    ·exact zr.z4
   exact⟨_,Z,_,Z,_,Z,_,_,Z,Z,⟨n',n,zf,zy,by omega⟩,_,_,Z,Z,kN⟩
  intro H3 s4 a4
  have s5:=(Z0f hl2 (.tup ((L4 (rot i (a,b,c,d))).map V.int))).trans s4
  refine⟨_,Z,t,_,_,_,_,_,Z,ht.same s5,λr H4 s6 e6=>?_⟩
  refine⟨s3.trans (s5.trans s6),acc,r,_,Z,?_,At5.of e6⟩
  rw[s6 _ _ a4,<-ef]
  rfl
 ·rintro σ H2 ⟨s3,l,t,v,rfl,hl,ht⟩
  have S2:=s2.trans s3
  have hl':SqL K H2 l ((L4 (sm [a',b',c',d'] (a,b,c,d) 4)).map V.int):=SqL.of hl
  have zz:Q4 (n+n'+4) (sm [a',b',c',d'] (a,b,c,d) 4):=X6b hz hf 4
  refine⟨_,Z,l,_,_,_,Z,Z,hl',Z,_,Z,l,_,_,_,Z,Z,hl',Z,_,Z,l,_,_,_,Z,Z,hl',Z,_,Z,l,_,_,_,Z,Z,hl',Z,_,Z,p,_,_,_,Z,Z,S2.tup S,Z,_,Z,q,_,_,_,Z,Z,S2.tup S',Z,_,_,Z,Z,?_⟩
  refine⟨_,_,_,_,_,Z,(by show 0<=h+h';omega),λr H' x y v u g s4 e4 r4=>?_⟩
  refine kq r H' ((x,y,v,u),g) (S2.trans s4) e4 ⟨r4.amt,?_,r4.le⟩ ⟨r4.sz zz,r4.amt,(by have:=r4.le;show g<=m+m';omega)⟩
  show Same4 (a*a'-b*d'-c*c'-d*b') (a*b'+b*a'-c*d'-d*c') (a*c'+b*b'+c*a'-d*d') (a*d'+b*c'+c*b'+d*a') (h+h') x y v u g
  have hs:=r4.same
  have q1:(sm [a',b',c',d'] (a,b,c,d) 4).1=a*a'-b*d'-c*c'-d*b':=by
   show 0+a'*a+b'*-d+c'*-c+d'*-b=_
   grind
  have q2:(sm [a',b',c',d'] (a,b,c,d) 4).2.1=a*b'+b*a'-c*d'-d*c':=by
   show 0+a'*b+b'*a+c'*-d+d'*-c=_
   grind
  have q3:(sm [a',b',c',d'] (a,b,c,d) 4).2.2.1=a*c'+b*b'+c*a'-d*d':=by
   show 0+a'*c+b'*b+c'*a+d'*-d=_
   grind
  have q4:(sm [a',b',c',d'] (a,b,c,d) 4).2.2.2=a*d'+b*c'+c*b'+d*a':=by
   show 0+a'*d+b'*c+c'*b+d'*a=_
   grind
  rw[<-q1,<-q2,<-q3,<-q4]
  exact hs
theorem sc_halved:FnScope ["one"] ["one"] (Z0h (top 31)):=fS
theorem Y5j (F:FunAt K "halved" (top 31) .none)(X:K.In h)(G:Ng h mg)(c8:Cal P w K mg base k "halved_out" ["a","b","c","d","h"] spHalf):Cal P w K mg base (k+1) "halved" ["one"] Z4o:=by
 have nd:=sc_halved.nd
 refine F.cal X G sc_halved (bnd1 λ_ _ _ _ _ _ _=>rfl) (λvs H Q E' h=>?_) (λf cdv A outer s H vs Q E' hr h=>?_)
 ·obtain⟨p,a,b,c,d,h,rfl,_⟩:=h;rfl
 obtain⟨p,a,b,c,d,h,rfl,hp,h0,q⟩:=h
 have S:SqT K H p [.int a,.int b,.int c,.int d,.int h]:=SqT.of hp
 refine⟨_,(@Z0g _ _ _ (Z0l (Z0n c8 hr rfl (Z0a (Z0k Z0j (pv 0) Z0b (λ_ _=>rfl)) (Z0a (Z0k Z0j (pv 0) Z0b (λ_ _=>rfl)) (Z0a (Z0k Z0j (pv 0) Z0b (λ_ _=>rfl)) (Z0a (Z0k Z0j (pv 0) Z0b (λ_ _=>rfl)) (Z0a (Z0i Z1f (Z0k Z0j (pv 0) Z0b (λ_ _=>rfl)) Z0b) Z0d)))))))),?_⟩
 try dsimp only[cxK]
 exact⟨_,Z,p,_,_,_,Z,Z,S,Z,_,Z,p,_,_,_,Z,Z,S,Z,_,Z,p,_,_,_,Z,Z,S,Z,_,Z,p,_,_,_,Z,Z,S,Z,_,Z,p,_,_,_,Z,Z,S,Z,_,_,Z,Z,a,b,c,d,h+1,Z,by omega,q⟩
end
end K64
namespace L2
theorem X6h {prog:U8}{w:W1}{A:W6}{E:U2}{s:U7}{a b:Int}{t u:Tok}{Q:U2}(h:Q (.bool (decide (a>=b))) s):wpAny (model prog w) A (richCompare .GtE (.int a t) (.int b u)) Q E s :=
 (ge_int h:wpAny (model prog w) A (compareOp .GtE (.int a t) (.int b u)) Q E s)
theorem Y3k {M:Model}{A:W6}{E:U2}{s:U7}{a b:W2}{Q:U2}(h:wpAny M A (richCompare .GtE a b) Q E s):wpAny M A (compareOp .GtE a b) Q E s:=h
theorem Y3r (l b:W9)(x x' y y':Int)(t t' u u':Tok)(n n2:Nat)(dd dd2:W5)(sl sl2:W4)(hlt:x<y∨(x=y/\x'<y')) :
  Meets (Builtin.«tuple.__ge__» ⟨[.ref l,.ref b],[]⟩)
   (λA R s=>s.heap.get? l=some { cls:=.type "tuple",dict:=dd,data:=.seq #[.int x t,.int x' t'] n,slots:=sl }/\s.heap.get? b=some { cls:=.type "tuple",dict:=dd2,data:=.seq #[.int y u,.int y' u'] n2,slots:=sl2 } ∧
    R (.ok (.ret (.bool false))) s) :=
 .of_wp λprog w A R s h=>by
  obtain⟨hp,g,d,tk,os⟩:=s;obtain⟨hl,hb,h⟩:=h
  have f2:=AutoSeq1.sub_tuple_tuple
  wp_walk using wpAny_loadPart' hl,wpAny_loadPart' hb,wpAny_forIn_list _ (λrest b s'=>b.1=none/\s'=⟨hp,g,d,tk,os⟩/\R (.ok (.ret (.bool false))) ⟨hp,g,d,tk,os⟩ ∧
   (rest=[(Value.int x t,Value.int y u),(Value.int x' t',Value.int y' u')]∨(x=y/\rest=[(Value.int x' t',Value.int y' u')]))) _
  case turn =>
   rintro ⟨p,q⟩ rest b s' ⟨hb',rfl,hR,hz⟩
   rcases hz with hz | ⟨e,hz⟩
   ·injection hz with h1 h2
    injection h1 with h3 h4
    subst h3 h4
    refine q0b (q4t ?_)
    by_cases c:x=y
    ·rw[show (x == y)=true from by simp[c]]
     wp_walk
     exact⟨Z,Z,hR,.inr ⟨c,h2⟩⟩
    ·rw[show (x == y)=false from by simp[c]]
     have k:decide (x>=y)=false:=q0j (by omega)
     wp_walk using X6h
     rw[k]
     exact⟨_,Z,hR⟩
   ·injection hz with h1 h2
    injection h1 with h3 h4
    subst h3 h4
    refine q0b (q4t ?_)
    rw[show (x' == y')=false from by simp;omega]
    have k:decide (x'>=y')=false:=q0j (by omega)
    wp_walk using X6h
    rw[k]
    exact⟨_,rfl,hR⟩
  case fin =>
   rintro ⟨b1,b2⟩ s' ⟨hb',rfl,hR,hz⟩
   rcases hz with hz | ⟨_,hz⟩<;>cases hz
  case h=>exact⟨Z,Z,h,.inl rfl⟩
def rGeT (K:U0):R2:=λx y H Q=>∃ (a b:W9) (p p' q q':Int),x=.ref a/\y=.ref b/\SqT K H a [.int p,.int p']/\SqT K H b [.int q,.int q']/\(p<q∨(p=q/\p'<q'))/\Q (.bl false) H
theorem X6q {X:Cx}(hu:X.A.units+64<cLine):OpR X (compareOp .GtE) (rGeT X.K):=by
 intro pins s σ H x y v u Q I rx ry h
 obtain⟨a,b,p,p',q,q',rfl,rfl,h1,h2,lt,k⟩:=h
 cases rx;cases ry
 obtain⟨its,rv,pl,_⟩:=I.tuple h1
 obtain⟨its',rv',pl',_⟩:=I.tuple h2
 obtain⟨u1,u2,rfl,r1,r2⟩:=Vals.two rv
 obtain⟨w1,w2,rfl,r3,r4⟩:=Vals.two rv'
 obtain⟨t1,rfl⟩:=r1
 obtain⟨t2,rfl⟩:=r2
 obtain⟨t3,rfl⟩:=r3
 obtain⟨t4,rfl⟩:=r4
 obtain⟨⟨c1,d1,dt1,sl1⟩,g1,g2,n1,g3⟩:=pl
 obtain⟨⟨c2,d2,dt2,sl2⟩,k1,k2,n2,k3⟩:=pl'
 cases g2;cases k2;cases g3;cases k3
 refine Y3k (richCompare_meets_room (T:="tuple") ⟨_,g1,Z⟩ ⟨_,k1,Z⟩ F.slot_tuple_ge F.entry_tuple_ge (F.args_tuple_ge_2 _ _) (Y3r a b p p' q q' t1 t2 t3 t4 n1 n2 d1 d2 sl1 sl2 lt) ⟨g1,k1,?_⟩ (by omega))
 exact⟨(λz=>nomatch z),V.bl false,H,I,Z,k⟩
theorem X4u {K:U0}{a:W9}{xs:List V}{g:TG}{tb:TS}{D:Ends}{σ:St}{H:Hp}(Pv:Nat->St->Hp->Prop)(h0:Pv 0 σ H)(hl:∀ i σ H,i<=xs.length->Pv i σ H->SqL K H a xs)
  (hs:∀ i x σ H,xs.reverse[i]?=some x->Pv i σ H->g x σ H λσ2 H2=>tb { D with nx:=Pv (i+1),ct:=Pv (i+1),bk:=D.nx } σ2 H2) (hd:∀ σ H,Pv xs.length σ H->D.nx σ H) :
  ∃ W:Nat->Nat->St->Hp->Prop,(∃ m,W 0 m σ H)/\∀ i m σ H,W i m σ H →
   ((Itv K a xs.length).stop i H/\D.nx σ H)∨((Itv K a xs.length).go i H/\∃ N:St->Hp->Prop,(∀ σ' H',N σ' H'->∃ m',m'<m/\W (i+1) m' σ' H')/\∀ x H',(Itv K a xs.length).yld i H x H'->g x σ H' λσ2 H2=>tb { D with nx:=N,ct:=N,bk:=D.nx } σ2 H2):=by
 refine⟨λi m σ H=>m=xs.length-i/\i<=xs.length/\Pv i σ H,⟨xs.length,by simp,q1d _,h0⟩,?_⟩
 rintro i m σ H ⟨rfl,hi,p⟩
 have q:=hl i σ H hi p
 by_cases hlt:i<xs.length
 ·refine .inr ⟨⟨hlt,xs,q,Z⟩,Pv (i+1),λσ' H' p'=>⟨xs.length-(i+1),by omega,Z,hlt,p'⟩,λx H' y=>?_⟩
  obtain⟨e,y⟩:=y
  subst e
  exact hs i x σ _ (by rw[q8l hlt];exact y xs q) p
 ·have e:i=xs.length:=by omega
  subst e
  exact .inl ⟨Z,hd σ H p⟩
theorem Y2b {K:U0}{a:W9}{xs:List V}{g:TG}{te:TE}{fr:St}{H1:Hp}{acc:W9}{Q:VK}(Pv:Nat->List V->Hp->Prop)(hn:xs.length<=sizeLine)(h0:Pv 0 [] (upd H1 acc (.lst [])))
  (hl:∀ i ys H,Pv i ys H->SqL K H a xs)
  (hs:∀ i x ys H (N:St->V->Hp->Prop) (w1 w2:Option V),xs[i]?=some x->ys.length=i->Pv i ys H->(∀ v1 v2 y H5,H5 acc=some (.lst ys)->Pv (i+1) (ys++[y]) (upd H5 acc (.lst (ys++[y])))->N (v1::v2::fr) y H5)->g x (w1::w2::fr) H λσ4 H4=>te σ4 H4 (N σ4))
  (hd:∀ ys H,ys.length=xs.length->Pv xs.length ys H->Q (.ref acc) H):LcW (Itl K a) g te (none::none::fr) H1 acc Q:=by
 refine⟨λi m ys σ2 H2=>m=xs.length-i/\i<=xs.length/\ys.length=i/\(∃ v1 v2,σ2=v1::v2::fr)/\Pv i ys H2,⟨xs.length,by simp,q1d _,Z,⟨_,_,Z⟩,h0⟩,?_⟩
 rintro i m ys σ2 H2 ⟨rfl,hi,hy,⟨v1,v2,rfl⟩,p⟩
 by_cases hlt:i<xs.length
 ·have e1:xs[i]?=some xs[i]:=by simp[hlt]
  refine .inr ⟨⟨xs,_,hl i ys H2 p,e1⟩,λx H3 y3=>?_⟩
  obtain⟨rfl,q⟩:=y3
  exact hs i x ys _ (λσ4 y H5=>H5 acc=some (.lst ys)/\ys.length<sizeLine/\∃ m',m'<xs.length-i/\_) _ _ (q xs (hl i ys _ p)) hy p λu1 u2 y H5 a5 p5=>⟨a5,by omega,xs.length-(i+1),by omega,Z,hlt,by simp[hy],⟨_,_,Z⟩,p5⟩
 ·have e:i=xs.length:=by omega
  subst e
  exact .inl ⟨⟨xs,hl _ ys H2 p,q0f _⟩,hd ys H2 hy p⟩
theorem Y9d {K:U0}{l:W9}{xs:List V}{tc:TT}{te:TE}{fr:L2.St}{H1:Hp}{acc:W9}{Q:VK}(Pv:Nat->List V->Hp->Prop)(hn:xs.length<=sizeLine)(h0:Pv 0 [] (upd H1 acc (.lst [])))(hl:∀ i ys H,Pv i ys H->SqL K H l xs)
  (hs:∀ i x ys H (N:Bool->Hp->Prop),xs[i]?=some x->ys.length<=i->Pv i ys H->(∀ b H5,(b=true->te (some x::fr) H5 λy H6=>H6 acc=some (.lst ys)/\Pv (i+1) (ys++[y]) (upd H6 acc (.lst (ys++[y]))))->(b=false->Pv (i+1) ys H5)->N b H5)->tc (some x::fr) H N)
  (mono:∀ {σ H}{R R':VK},(∀ v H,R v H->R' v H)->te σ H R->te σ H R')
  (hd:∀ ys H,Pv xs.length ys H->Q (.ref acc) H):LcWF (Itl K l) (gName 0) tc te (none::fr) H1 acc Q:=by
 refine⟨λi m ys σ2 H2=>m=xs.length-i/\i<=xs.length/\ys.length<=i/\(∃ v,σ2=v::fr)/\Pv i ys H2,⟨xs.length,by simp,q1d _,q0f _,⟨_,Z⟩,h0⟩,?_⟩
 rintro i m ys σ2 H2 ⟨rfl,hi,hyl,⟨v,rfl⟩,p⟩
 have sq:=hl i ys H2 p
 by_cases hlt:i<xs.length
 ·have e3:xs[i]?=some xs[i]:=by simp[hlt]
  refine .inr ⟨⟨_,_,sq,e3⟩,λu H3 y3=>?_⟩
  obtain⟨rfl,y4⟩:=y3
  have:=y4 _ sq
  rw[e3] at this
  cases this
  refine hs i _ ys _ _ e3 hyl p λb H5 ht hf=>⟨λe=>mono (λy H6 q=>?_) (ht e),λe=>⟨xs.length-(i+1),by omega,Z,hlt,by omega,⟨_,Z⟩,hf e⟩⟩
  exact⟨q.1,by omega,xs.length-(i+1),by omega,Z,hlt,by rw[q0x];simp;omega,⟨_,Z⟩,q.2⟩
 ·have e:i=xs.length:=by omega
  subst e
  exact .inl ⟨⟨_,sq,q0f _⟩,hd ys H2 p⟩
end L2
namespace Sr
open PySem.W
variable {cmp:Nat->Nat->(Bool->Shared->Prop)->Shared->Prop}{z:Nat->Int}{n:Nat}{s:U7}{p:Array Nat}
def Ora (cmp:Nat->Nat->(Bool->Shared->Prop)->Shared->Prop)(z:Nat->Int)(n:Nat)(s:U7):Prop:=∀ i j C,i<n->j<n->C (decide (z i<z j)) s->cmp i j C s
noncomputable def kz (z:Nat->Int)(p:Array Nat)(i:Nat):Int:=z (p.getD i 0)
structure Pm (p:Array Nat) (n:Nat):Prop where
 size:p.size=n
 perm:p.toList.Perm (List.range n)
theorem Z4w {i:Nat}(h:i<p.size):p.getD i 0=p[i]:=by simp[Array.getD,h]
theorem Pm.lt (h:Pm p n){i:Nat}(hi:i<n):p.getD i 0<n:=by
 have hs:i<p.size:=by rw[h.size];exact hi
 rw[Z4w hs]
 exact q1q.mp (h.perm.mem_iff.mp (Array.getElem_mem_toList hs))
theorem Pm.inj (h:Pm p n){i j:Nat}(hi:i<n)(hj:j<n)(e:p.getD i 0=p.getD j 0):i=j:=by
 have h1:i<p.size:=by rw[h.size];exact hi
 have h2:j<p.size:=by rw[h.size];exact hj
 rw[Z4w h1,Z4w h2,<-q4r,<-q4r] at e
 have nd:p.toList.Nodup:=h.perm.nodup_iff.mpr List.nodup_range
 have g:=q2p.mp nd
 rcases q7c i j with q | q | q
 ·exact absurd e (g i j _ _ q)
 ·exact q
 ·exact absurd e.symm (g j i _ _ q)
def Up (z:Nat->Int)(p:Array Nat)(m:Nat):Prop:=∀ i j,i<j->j<m->kz z p i<kz z p j
def Dn (z:Nat->Int)(p:Array Nat)(m:Nat):Prop:=∀ i j,i<j->j<m->kz z p j<kz z p i
def Dis (z:Nat->Int)(n:Nat):Prop:=∀ i j,i<n->j<n->z i=z j->i=j
theorem kne (d:Dis z n)(h:Pm p n){i j:Nat}(hi:i<n)(hj:j<n)(ij:i≠j):kz z p i≠kz z p j:=λe=>ij (h.inj hi hj (d _ _ (h.lt hi) (h.lt hj) e))
theorem asc (o:Ora cmp z n s)(d:Dis z n)(h:Pm p n){Q:Nat->Shared->Prop}:∀ f a,1<=a->a+f<=n->Up z p a->(∀ m,a<=m->m<=a+f->Up z p m->(m=a+f∨kz z p m<kz z p (m-1))->Q m s)->(kas_asc p f a).kasWp cmp Q s
 | 0,a,_,_,u,q=>q a (q0f _) (q0f _) u (.inl rfl)
 | f+1,a,a1,an,u,q=>by
  refine o _ _ _ (h.lt (by omega)) (h.lt (by omega)) ?_
  by_cases c:z (p.getD a 0)<z (p.getD (a-1) 0)
  ·rw[q0t c]
   exact q a (q0f _) (by omega) u (.inr c)
  ·rw[q0j c]
   refine asc o d h f (a+1) (by omega) (by omega) (λi j ij hj=>?_) (λm h1 h2 h3 h4=>q m (by omega) (by omega) h3 (by rw[show a+(f+1)=a+1+f by omega];exact h4))
   by_cases e:j=a
   ·subst e
    have k1:=kne d h (i:=j) (j:=j-1) (by omega) (by omega) (by omega)
    have c':¬ kz z p j<kz z p (j-1):=c
    by_cases e2:i=j-1
    ·subst e2;omega
    ·have:=u i (j-1) (by omega) (by omega);omega
   ·exact u i j ij (by omega)
theorem desc (o:Ora cmp z n s)(d:Dis z n)(h:Pm p n){Q:Array Nat × Nat × Nat->Shared->Prop}:∀ f a,1<=a->a+f<=n->Dn z p a->(∀ m,a<=m->m<=a+f->Dn z p m->Q (p,m,0) s)->(kas_desc f p a 0).kasWp cmp Q s
 | 0,a,_,_,u,q=>q a (q0f _) (q0f _) u
 | f+1,a,a1,an,u,q=>by
  refine o _ _ _ (h.lt (by omega)) (h.lt (by omega)) ?_
  have k1:=kne d h (i:=a) (j:=a-1) (by omega) (by omega) (by omega)
  by_cases c:z (p.getD a 0)<z (p.getD (a-1) 0)
  ·rw[q0t c]
   refine desc o d h f (a+1) (by omega) (by omega) (λi j ij hj=>?_) (λm h1 h2 h3=>q m (by omega) (by omega) h3)
   by_cases e:j=a
   ·subst e
    have c':kz z p j<kz z p (j-1):=c
    by_cases e2:i=j-1
    ·subst e2;omega
    ·have:=u i (j-1) (by omega) (by omega);omega
   ·exact u i j ij (by omega)
  ·rw[q0j c]
   refine o _ _ _ (h.lt (by omega)) (h.lt (by omega)) ?_
   have c':¬ kz z p a<kz z p (a-1):=c
   have c2:z (p.getD (a-1) 0)<z (p.getD a 0):=(show kz z p (a-1)<kz z p a by omega)
   rw[q0t c2]
   exact q a (q0f _) (by omega) u
theorem X0s {m i:Nat}(hm:m<=p.size):(kas_rev p 0 m).getD i 0=if i<m then p.getD (m-1-i) 0 else p.getD i 0:=by
 have e:=getElem?_mirror_all (i:=0) hm i
 unfold kas_rev
 rw[q1p,e]
 by_cases h:i<m
 ·rw[if_pos ⟨q1d _,h⟩,if_pos h,<-q1p,q3o]
 ·rw[if_neg (λq=>h q.2),if_neg h,<-q1p]
theorem X0r {m:Nat}(h:Pm p n):Pm (kas_rev p 0 m) n:=⟨(mirror_size _ _ _ _).trans h.size,(q6j.mp (mirror_perm p 0 m _)).trans h.perm⟩
theorem tail (o:Ora cmp z n s)(d:Dis z n)(h:Pm p n){m:Nat}(m1:1<=m)(mn:m<=n)(u:Dn z p m){Q:Nat × Array Nat->Shared->Prop}(q:∀ r p',Pm p' n->1<=r->r<=n->Up z p' r->Q (r,p') s):(kas_tail3 m n p).kasWp cmp Q s:=by
 unfold kas_tail3
 rw[KasT.kasWp_bind]
 have hm:m<=p.size:=by rw[h.size];exact mn
 refine asc o d (X0r h) (n-m) m m1 (by omega) (λi j ij hj=>?_) (λr h1 h2 h3 _=>q r _ (X0r h) (by omega) (by omega) h3)
 unfold kz
 rw[X0s hm,X0s hm,if_pos (by omega),if_pos hj]
 exact u (m-1-j) (m-1-i) (by omega) (by omega)
theorem count (o:Ora cmp z n s)(d:Dis z n)(h:Pm p n)(n2:2<=n){Q:Nat × Array Nat->Shared->Prop}(q:∀ r p',Pm p' n->1<=r->r<=n->Up z p' r->Q (r,p') s):(kas_count n p).kasWp cmp Q s:=by
 unfold kas_count
 rw[KasT.kasWp_bind]
 refine asc o d h (n-1) 1 (q0f _) (by omega) (λi j ij hj=>by omega) (λm h1 h2 h3 h4=>?_)
 by_cases e:(m == n)=true
 ·rw[if_pos e]
  exact q m p h h1 (by omega) h3
 rw[if_neg e]
 have mn:m≠n:=λx=>e (by rw[x];exact q5u n)
 by_cases g:m>1
 ·rw[if_pos g]
  refine o _ _ _ (h.lt (by omega)) (h.lt (by omega)) ?_
  rw[q0t (show z (p.getD 0 0)<z (p.getD (m-1) 0) from h3 0 (m-1) (by omega) (by omega))]
  exact q m p h h1 (by omega) h3
 rw[if_neg g]
 have m1:m=1:=by omega
 subst m1
 have lt:kz z p 1<kz z p 0:=by
  rcases h4 with h4 | h4
  ·omega
  ·exact h4
 unfold kas_descPart
 rw[KasT.kasWp_bind]
 refine desc o d h (n-(1+1)) (1+1) (by omega) (by omega) (λi j ij hj=>?_) (λm h1 h2 h3=>?_)
 ·have e1:i=0:=by omega
  have e2:j=1:=by omega
  rw[e1,e2];exact lt
 ·show (if (0:Nat)>0 then _ else kas_tail3 m n p).kasWp cmp Q s
  rw[if_neg (by omega)]
  exact tail o d h (by omega) (by omega) h3 q
theorem place (o:Ora cmp z n s)(d:Dis z n)(h:Pm p n){k:Nat}(kn:k<n)(u:Up z p k){Q:Nat->Shared->Prop}:∀ f l r,r-l<=f->l<=r->r<=k->(∀ i,i<l->kz z p i<kz z p k)->(∀ i,r<=i->i<k->kz z p k<kz z p i) →
  (∀ l,l<=k->(∀ i,i<l->kz z p i<kz z p k)->(∀ i,l<=i->i<k->kz z p k<kz z p i)->Q l s)->(kas_place p k f l r).kasWp cmp Q s
 | 0,l,r,f0,lr,rk,a,b,q=>q l (by omega) a (λi hi=>b i (by omega))
 | f+1,l,r,f0,lr,rk,a,b,q=>by
  unfold kas_place
  by_cases e:l>=r
  ·rw[if_pos e]
   exact q l (by omega) a (λi hi=>b i (by omega))
  rw[if_neg e]
  refine o _ _ _ (h.lt kn) (h.lt (by omega)) ?_
  have k1:=kne d h (i:=k) (j:=(l+r) / 2) kn (by omega) (by omega)
  by_cases c:z (p.getD k 0)<z (p.getD ((l+r) / 2) 0)
  ·rw[q0t c]
   have c':kz z p k<kz z p ((l+r) / 2):=c
   refine place o d h kn u f l ((l+r) / 2) (by omega) (by omega) (by omega) a (λi h1 h2=>?_) q
   by_cases e2:i=(l+r) / 2
   ·rw[e2];exact c'
   ·have:=u ((l+r) / 2) i (by omega) h2;omega
  ·rw[q0j c]
   have c':¬ kz z p k<kz z p ((l+r) / 2):=c
   refine place o d h kn u f ((l+r) / 2+1) r (by omega) (by omega) rk (λi h1=>?_) b q
   by_cases e2:i=(l+r) / 2
   ·rw[e2];omega
   ·have:=u i ((l+r) / 2) (by omega) (by omega);omega
theorem X1r {k l i:Nat}(hk:k<p.size)(hl:l<=k):(bubble p k (k-l)).getD i 0=if i=l then p.getD k 0 else if l<i/\i<=k then p.getD (i-1) 0 else p.getD i 0:=by
 have e:=getElem?_bubble hk (k-l) (by omega) i
 rw[show k-(k-l)=l by omega] at e
 rw[q1p,e]
 by_cases h1:i=l
 ·rw[if_pos h1,if_pos h1,<-q1p]
 ·rw[if_neg h1,if_neg h1]
  by_cases h2:l<i/\i<=k
  ·rw[if_pos h2,if_pos h2,<-q1p]
  ·rw[if_neg h2,if_neg h2,<-q1p]
theorem X8i {k l:Nat}(h:Pm p n):Pm (bubble p k l) n:=⟨(bubble_size _ _ _).trans h.size,(q6j.mp (bubble_perm p k l)).trans h.perm⟩
theorem bin (o:Ora cmp z n s)(d:Dis z n){Q:Array Nat->Shared->Prop}(q:∀ p',Pm p' n->Up z p' n->Q p' s):∀ f (p:Array Nat) k,Pm p n->k+f=n->Up z p k->(kas_bin f p k).kasWp cmp Q s
 | 0,p,k,h,e,u=>q p h (by rw[<-e];exact u)
 | f+1,p,k,h,e,u=>by
  unfold kas_bin
  rw[KasT.kasWp_bind]
  refine place o d h (by omega) u k 0 k (by omega) (by omega) (q0f _) (λi hi=>by omega) (λi h1 h2=>by omega) (λl lk a b=>?_)
  refine bin o d q f _ (k+1) (X8i h) (by omega) (λi j ij hj=>?_)
  have hk:k<p.size:=by rw[h.size];omega
  unfold kz
  rw[X1r hk lk,X1r hk lk]
  by_cases i1:i=l
  ·rw[if_pos i1,if_neg (by omega),if_pos (by omega)]
   exact b (j-1) (by omega) (by omega)
  ·rw[if_neg i1]
   by_cases j1:j=l
   ·rw[if_pos j1,if_neg (by omega)]
    exact a i (by omega)
   ·rw[if_neg j1]
    by_cases i2:l<i/\i<=k
    ·rw[if_pos i2,if_pos (by omega)]
     exact u (i-1) (j-1) (by omega) (by omega)
    ·rw[if_neg i2]
     by_cases j2:l<j/\j<=k
     ·rw[if_pos j2]
      by_cases e3:i=j-1
      ·omega
      ·exact u i (j-1) (by omega) (by omega)
     ·rw[if_neg j2]
      exact u i j ij (by omega)
theorem Y1p (n:Nat):Pm (List.toArray (List.range n)) n:=⟨by simp,by simp⟩
theorem sort (o:Ora cmp z n s)(d:Dis z n)(n2:2<=n){Q:Array Nat->Shared->Prop}(q:∀ p',Pm p' n->Up z p' n->Q p' s):(kas_sort n).kasWp cmp Q s:=by
 unfold kas_sort
 rw[KasT.kasWp_bind]
 refine count o d (Y1p n) n2 (λr p' h1 r1 rn u=>?_)
 show (if r<n then kas_bin (n-max r 1) p' (max r 1) else .ret p').kasWp cmp Q s
 by_cases e:r<n
 ·rw[if_pos e,show max r 1=r by omega]
  exact bin o d q _ p' r h1 (by omega) u
 ·rw[if_neg e]
  have:r=n:=by omega
  subst this
  exact q p' h1 u
end Sr
namespace L2
open PySem.W
def Two (h:Heap)(us:U5)(x y:Nat->Int):Prop:=∀ (j:Nat) u,us[j]?=some u->∃ b o t t' n,u=Value.ref b/\h.get? b=some o/\o.cls=.type "tuple"/\o.data=.seq #[.int (x j) t,.int (y j) t'] n
theorem Two.keep {h h':Heap}{us:U5}{x y:Nat->Int}(T:Two h us x y)(k:∀ b o,o.cls=.type "tuple"->h.get? b=some o->h'.get? b=some o):Two h' us x y:=λj u e=>by
 obtain⟨b,o,t,t',n,h1,h2,h3,h4⟩:=T j u e
 exact⟨b,o,t,t',n,h1,k b o h3 h2,h3,h4⟩
theorem Z6u {h:Heap}:∀ {us:U5}{x y:Nat->Int},Two h us x y->∃ fs,KatTups h us fs/\fs.length=us.length/\∀ v∈fs,∃ i t,v=Value.int i t
 | [],_,_,_=>⟨[],trivial,rfl,λv hv=>nomatch hv⟩
 | u::us,x,y,T=>by
  obtain⟨b,o,t,t',n,rfl,h2,h3,h4⟩:=T 0 u rfl
  obtain⟨fs,k,l,a⟩:=Z6u (us:=us) (x:=λj=>x (j+1)) (y:=λj=>y (j+1)) λj u e=>T (j+1) u e
  refine⟨Value.int (x 0) t::fs,.cons h2 h3 h4 rfl k,by simp[l],λv hv=>?_⟩
  rcases q0q.mp hv with rfl | hv
  ·exact⟨_,_,Z⟩
  ·exact a v hv
section
variable {prog:U8}{w:W1}{A:W6}{E:U2}{s:U7}
theorem X1z {us:U5}{x y z:Nat->Int}(T:Two s.heap us x y)(hz:∀ i j,i<us.length->j<us.length->(z i<z j ↔ x i<x j∨x i=x j/\y i<y j)):Sr.Ora (kas_ask prog w A (tuples' true) us) z us.length s:=by
 intro i j C hi hj q
 unfold kas_ask
 have ei:us.getD i Value.none=us[i]:=by simp[hi]
 have ej:us.getD j Value.none=us[j]:=by simp[hj]
 rw[ei,ej]
 obtain⟨b,o,t,t',n,h1,h2,h3,h4⟩:=T i us[i] (q0d hi)
 obtain⟨b',o',u,u',n',g1,g2,g3,g4⟩:=T j us[j] (q0d hj)
 rw[h1,g1]
 refine kat_lt h2 h4 g2 g4 (kat_cons (q4t ?_))
 have hz':=hz i j hi hj
 refine kat_go (λe=>kat_yes (kat_cons (q4t (kat_go (λe'=>kat_yes (kat_nil ?_)) λe'=>kat_no ?_)))) (λe=>kat_no (oneLt_int ?_))
 ·have e:=q8v e
  have e':=q8v e'
  rw[show decide (z i<z j)=false from q0j (by rw[hz'];omega)] at q
  exact q
 ·have e:=q8v e
  refine kat_one _ _ (wpAny_lt_int ?_)
  rw[show decide (z i<z j)=decide (y i<y j) from decide_eq_decide.mpr (by rw[hz'];omega)] at q
  exact q
 ·have e:x i≠x j:=λz=>by rw[z] at e;simp at e
  rw[show decide (z i<z j)=decide (x i<x j) from decide_eq_decide.mpr (by rw[hz'];omega)] at q
  exact q
theorem lsort2 {a:W9}{us:U5}{n:Nat}{x y z:Nat->Int}{P:PySem.Fin->Shared->Prop}(ho:s.heap.get? a=some (seqObj "list" us.toArray n))(h64:us.length<64)(T:Two s.heap us x y)
  (hz:∀ i j,i<us.length->j<us.length->(z i<z j ↔ x i<x j∨x i=x j/\y i<y j)) (d:Sr.Dis z us.length)
  (h:∀ p,Sr.Pm p us.length->Sr.Up z p us.length->P (.done (.ret .none)) { s with heap:=sortedHeap s.heap a us (List.toArray (p.toList.map λi=>us.getD i Value.none)) }) :
  wpAny (model prog w) A (Builtin.«list.sort» ⟨[.ref a],[]⟩) P E s:=by
 have la:a<s.heap.objs.size:=q0e ho
 have l64:us.length<=sizeLine:=by rw[q8s];omega
 rw[list_sort_plain]
 refine q0b (listItems_at ho rfl (q0b (q8u ho rfl ?_ (by rw[q0h];omega) (q1d _))))
 obtain⟨e1,ho1⟩:∃ e1,(s.heap.update a (Obj.mapSeq λ_=>(#[]:U9))).get? a=some (seqObj "list" #[] e1):=⟨_,get?_update_seq ho λ_=>#[]⟩
 refine q0b (seqEpoch_at ho1 rfl (q0b (wpAny_newTuple (q0b (wpAny_newList (q1w ?_) (q1d _))) (by show us.length<=_;omega))))
 have nE:∀ b o,b≠a->s.heap.get? b=some o->(((s.heap.update a (Obj.mapSeq λ_=>(#[]:U9))).push (seqObj "tuple" us.toArray 0)).push (seqObj "list" #[] 0)).get? b=some o:=λb o hb e =>
  q0c _ (q0c _ (by rw[q6g _ _ _ _ hb];exact e))
 have ho6:(((s.heap.update a (Obj.mapSeq λ_=>(#[]:U9))).push (seqObj "tuple" us.toArray 0)).push (seqObj "list" #[] 0)).get? a=some (seqObj "list" #[] e1):=q0c _ (q0c _ ho1)
 show wpAny (model prog w) A _ P E { s with heap:=((s.heap.update a (Obj.mapSeq λ_=>(#[]:U9))).push (seqObj "tuple" us.toArray 0)).push (seqObj "list" #[] 0) }
 dsimp only
 by_cases h2:us.toArray.size<2
 ·rw[if_pos h2,if_pos h2]
  refine q0b (q0g ?_)
  rw[StateT.run_pure]
  refine q0b (q0g ?_)
  dsimp only
  refine q0b (seqEpoch_at ho6 rfl (q0b (q8u ho6 rfl ?_ (q1d _) (by rw[Array.size_map];show (us.toArray.zip us.toArray).size<=_;rw[Array.size_zip,Nat.min_self,q0h];omega))))
  simp only[bne_self_eq_false,q2s,q4u]
  refine q0g ?_
  have k:=h _ (Sr.Y1p us.length) (λi j ij hj=>by rw[q0h] at h2;omega)
  have e:(List.toArray ((List.toArray (List.range us.length)).toList.map λi=>us.getD i Value.none))=(us.toArray.zip us.toArray).map (·.2):=by
   apply Array.toList_inj.mp
   simp only[Array.toList_map,Array.toList_zip]
   apply q7p
   ·simp
   ·intro i q1 q2
    have:i<us.length:=by simpa using q1
    simp[this]
  rw[e] at k
  exact k
 ·rw[if_neg h2,if_neg h2]
  rw[q0h] at h2
  have T':Two (((s.heap.update a (Obj.mapSeq λ_=>(#[]:U9))).push (seqObj "tuple" us.toArray 0)).push (seqObj "list" #[] 0)) us x y:=T.keep λb o hc e=>nE b o (λq=>by rw[q,ho] at e;cases e;exact absurd hc (by simp[seqObj])) e
  obtain⟨fs,k1,k2,k3⟩:=Z6u T'
  refine q0b (kat_kind k1 (by omega) (T:=.type "int") (λv hv=>by obtain⟨i,t,rfl⟩:=k3 v hv;exact .now) (by decide) ?_)
  rw[show (Value.type "int" != Value.type "tuple")=true by decide]
  refine q0b (q1i (kat_run (Q:=λst' s'=>∃ p:Array Nat,arrOf st'=p.map (kas_item (us.toArray.zip us.toArray))/\failedOf st'=none/\s'={ s with heap:=((s.heap.update a (Obj.mapSeq λ_=>(#[]:U9))).push (seqObj "tuple" us.toArray 0)).push (seqObj "list" #[] 0) }/\Sr.Pm p us.length/\Sr.Up z p us.length)
   (G:=λp s'=>s'={ s with heap:=((s.heap.update a (Obj.mapSeq λ_=>(#[]:U9))).push (seqObj "tuple" us.toArray 0)).push (seqObj "list" #[] 0) }/\Sr.Pm p us.length/\Sr.Up z p us.length) rfl (by omega) h64 (λp st' s' _ a2 a3 a4=>⟨p,a2,a3,a4⟩) (Sr.sort (X1z T' hz) d (by omega) λp g1 g2=>⟨Z,g1,g2⟩)) ?_ λ_ _ e=>e)
  rintro ⟨⟨⟩,st'⟩ s' ⟨p,har,hf,rfl,pm,up⟩
  dsimp only
  have hout:=kat_snds rfl har
  rw[hout]
  refine q0b (seqEpoch_at ho6 rfl (q0b (q8u ho6 rfl ?_ (q1d _) (by rw[q0h,q0a,q0z,pm.size];omega))))
  rw[hf]
  simp only[bne_self_eq_false,q2s,q4u]
  exact q0g (h p pm up)
end
end L2
namespace L2
open PySem.W
noncomputable abbrev kk (k:Nat × Nat):List Key:=[Sum.inl (k.1:Int),Sum.inl (k.2:Int)]
theorem Y7n {f s:Int}{its:U5}(r:Vals [V.int f,V.int s] its):∃ t t',its=[Value.int f t,Value.int s t']:=by
 obtain⟨u,v,rfl,ru,rv⟩:=Vals.two r
 obtain⟨t,rfl⟩:=ru
 obtain⟨t',rfl⟩:=rv
 exact⟨_,_,Z⟩
theorem Z9o {X:Cx}(hc:X.calm=true):CallR X (.builtin "sorted") (λxs H Q=>∃ (p:W9) (kvs:List (List Key × V)) (ks:List (Nat × Nat)),xs=[.ref p]/\H p=some (.dT kvs)/\kvs.map (·.1)=ks.map kk/\kvs.length<64/\(∀ k∈ks,k.2<64) ∧
  ∀ (l:W9) (bs:U3) (ks':List (Nat × Nat)),H l=none->ks'.Perm ks->ks'.Pairwise (λa b=>a.1*64+a.2<b.1*64+b.2)->Paired (λb (k:Nat × Nat)=>H b=some (.tup [.int (k.1:Int),.int (k.2:Int)])) bs ks'->Q (.ref l) (upd H l (.lst (bs.map V.ref)))):=by
 intro pins s σ H xs us Q I r h
 obtain⟨p,kvs,ks,rfl,hp,hk,hn,k64,q⟩:=h
 obtain⟨u,rfl,rx⟩:=vals1 r
 cases rx
 obtain⟨z,lo,es',rel,o,es,ep,ho,he,hd,hes,nd⟩:kvs.length<=sizeLine/\(p == sysModules)=false/\∃ xs:List (List Key × Addr × Value),
   Paired (λ(p:List Key × V) (q:List Key × Addr × Value)=>p.1=q.1/\H q.2.1=some (.tup (p.1.map kV))/\RelV p.2 q.2.2) kvs xs ∧
   ∃ o es ep,s.heap.get? p=some o/\o.ExactDict/\o.data=.dict es ep/\es.toList=xs.map (entryOfKey (tupleKind (Z1p X.prog X.w)))/\(xs.map λx:List Key × Addr × Value=>x.1).Nodup:=I.hok p _ hp
 have hl:kvs.length=es'.length:=Paired.length rel
 have hsz:es.size=es'.length:=by rw[<-q0z,hes,q0a]
 have hkl:ks.length=es'.length:=by have:=congrArg List.length hk;simp at this;omega
 have l64:(64:Nat)<=sizeLine:=by decide
 have each:∀ (i:Nat) (e:List Key × Addr × Value),es'[i]?=some e->∃ k,ks[i]?=some k/\e.1=kk k/\H e.2.1=some (.tup [.int (k.1:Int),.int (k.2:Int)]):=by
  clear hes nd hsz hkl z hn hp q k64 l64 hl
  induction rel generalizing ks with
  | nil=>intro i e x;cases x
  | @cons a b as bs ab t ih =>
   intro i e x
   cases ks with
   | nil=>cases hk
   | cons k ks =>
    rw[q1k,q1k] at hk
    injection hk with k1 k2
    cases i with
    | zero =>
     cases x
     refine⟨k,Z,by rw[<-ab.1,k1],?_⟩
     rw[ab.2.1,k1];rfl
    | succ i=>exact ih ks k2 i e x
 have ndk:ks.Nodup:=by
  have e:(es'.map λx:List Key × Addr × Value=>x.1)=ks.map kk:=by
   apply List.ext_getElem?
   intro i
   rw[q0n,q0n]
   cases c:es'[i]? with
   | none =>
    have:ks[i]?=none:=by rw[List.getElem?_eq_none_iff] at c ⊢;omega
    rw[this];rfl
   | some e =>
    obtain⟨k,k1,k2,_⟩:=each i e c
    rw[k1,q4b,q4b,k2]
  rw[e] at nd
  exact(q5o.mp nd).imp λh e=>h (by rw[e])
 refine Calls.call_function_entry kind_sorted plain_sorted entry_sorted (args_sorted1 _) ?_
 unfold Builtin.«sorted»
 refine q0b (m:=checkCount "sorted" 1 1 _) (q0g (q0b (gather (A:=X.A.in1) (Dk.src (es:=es) (ep:=ep) lo) (I.ok.hd hc) ⟨o,ho,he,hd⟩ (by omega) λh' tk acc hk' hlt' hacc=>?_)))
 have hsz':=q8f hlt'
 have hal:acc.toList.length=es'.length:=by rw[q0z,hacc.1,hsz]
 have item:∀ (j:Nat) (u:W2),acc.toList[j]?=some u->∃ e,es'[j]?=some e/\u=Value.ref e.2.1:=λj u hu=>by
  obtain⟨e,e1,e2⟩:=hacc.2 j u (by rw[<-q5t];exact hu)
  rw[<-q5t,hes,q0n] at e1
  obtain⟨k,c1,c2⟩:=q0l.mp e1
  exact⟨k,c1,by rw[e2,<-c2];rfl⟩
 refine q0b (wpAny_newList ?_ (by omega))
 have hoL:(h'.push (seqObj "list" acc.toList.toArray 0)).get? h'.objs.size=some (seqObj "list" acc.toList.toArray 0):=q0m _ rfl
 have TW:Two (h'.push (seqObj "list" acc.toList.toArray 0)) acc.toList (λj=>((ks.getD j (0,0)).1:Int)) (λj=>((ks.getD j (0,0)).2:Int)):=λj u hu=>by
  obtain⟨e,e1,e2⟩:=item j u hu
  obtain⟨k,k1,k2,k3⟩:=each j e e1
  obtain⟨_,its,r,o,h1,h2,n,h3⟩:=(show ObjOk X.prog X.w H s.heap e.2.1 (.tup [.int (k.1:Int),.int (k.2:Int)]) from I.hok _ _ k3)
  obtain⟨t,t',rfl⟩:=Y7n r
  refine⟨e.2.1,o,t,t',n,e2,q0c _ (hk' _ _ h1),h2,?_⟩
  show _=Data.seq #[Value.int ((ks.getD j (0,0)).1:Int) t,Value.int ((ks.getD j (0,0)).2:Int) t'] n
  rw[h3,q0i,k1];rfl
 have sm:∀ j,j<acc.toList.length->(ks.getD j (0,0)).2<64:=λj hj=>by
  have:j<ks.length:=by omega
  rw[q0i,q0d this]
  exact k64 _ (q3w this)
 refine q0b (q1w (q3u slot_list_sort ⟨_,hoL,Z⟩ entry_list_sort (lsort2 (z:=λj=>((ks.getD j (0,0)).1:Int)*64+((ks.getD j (0,0)).2:Int)) hoL (by omega) TW (λi j hi hj=>?_) (λi j hi hj e=>?_) λpm h1 h2=>⟨_,Z,?_⟩) (args_list_sort _)))
 ·have:=sm i hi
  have:=sm j hj
  omega
 ·have a1:=sm i hi
  have a2:=sm j hj
  have i1:i<ks.length:=by omega
  have j1:j<ks.length:=by omega
  have e:((ks.getD i (0,0)).1:Int)*64+((ks.getD i (0,0)).2:Int)=((ks.getD j (0,0)).1:Int)*64+((ks.getD j (0,0)).2:Int):=e
  have e':ks.getD i (0,0)=ks.getD j (0,0):=by
   apply Prod.ext<;>omega
  rw[q0i,q0i,q0d i1,q0d j1] at e'
  have g:=q2p.mp ndk
  rcases q7c i j with q | q | q
  ·exact absurd e' (g i j _ _ q)
  ·exact q
  ·exact absurd e'.symm (g j i _ _ q)
 refine q0g ⟨_,Z,?_⟩
 have hoT:(h'.push (seqObj "list" acc.toList.toArray 0)).get? h'.objs.size=some (seqObj "list" acc.toList.toArray 0):=hoL
 obtain⟨e,hee⟩:=sortedHeap_at (out:=List.toArray (pm.toList.map λi=>acc.toList.getD i Value.none)) hoT
 have kp:∀ b o,s.heap.get? b=some o->(sortedHeap (h'.push (seqObj "list" acc.toList.toArray 0)) h'.objs.size acc.toList (List.toArray (pm.toList.map λi=>acc.toList.getD i Value.none))).get? b=some o:=λb o x=>by
  have lt:=q0e (hk' b o x)
  rw[sortedHeap_old (q0r lt) (by rw[size_push'];exact q3a lt)]
  exact q0c _ (hk' b o x)
 have pl:∀ i∈pm.toList,i<es'.length:=λi hi=>by rw[<-hal];exact q1q.mp (h1.perm.mem_iff.mp hi)
 have hvs:∀ l:List Nat,(∀ i∈l,i<es'.length)->Vals ((l.map λi=>(es'.getD i ([],0,Value.none)).2.1).map V.ref) (l.map λi=>acc.toList.getD i Value.none):=by
  intro l
  induction l with
  | nil=>intro _;exact .nil
  | cons i l ih =>
   intro hl
   refine .cons ?_ (ih λj hj=>hl j (.tail _ hj))
   have hi:=hl i (.head _)
   have ha:i<acc.toList.length:=by omega
   obtain⟨e,e1,e2⟩:=item i acc.toList[i] (q0d ha)
   show RelV (V.ref (es'.getD i ([],0,Value.none)).2.1) (acc.toList.getD i Value.none)
   rw[q0i,e1,q0i,q0d ha]
   exact e2
 have hvp:∀ l:List Nat,(∀ i∈l,i<es'.length)->Paired (λb (k:Nat × Nat)=>H b=some (.tup [.int (k.1:Int),.int (k.2:Int)])) (l.map λi=>(es'.getD i ([],0,Value.none)).2.1) (l.map λi=>ks.getD i (0,0)):=by
  intro l
  induction l with
  | nil=>intro _;exact .nil
  | cons i l ih =>
   intro hl
   refine .cons ?_ (ih λj hj=>hl j (.tail _ hj))
   have hi:=hl i (.head _)
   obtain⟨k,k1,k2,k3⟩:=each i es'[i] (q0d hi)
   show H (es'.getD i ([],0,Value.none)).2.1=some (.tup [.int ((ks.getD i (0,0)).1:Int),.int ((ks.getD i (0,0)).2:Int)])
   rw[q0i,q0d hi,q0i,k1]
   exact k3
 have hlen:pm.toList.length=es'.length:=by rw[q0z,h1.size,hal]
 refine⟨.ref h'.objs.size,_,I.laid (t':=tk) kp hsz' (show ObjOk X.prog X.w _ _ _ (.lst ((pm.toList.map λi=>(es'.getD i ([],0,Value.none)).2.1).map V.ref)) from ⟨by rw[q0a,q0a,hlen];omega,_,e,hvs _ pl,hee⟩),Z,q _ _ (pm.toList.map λi=>ks.getD i (0,0)) (I.hok.fresh hsz') ?_ ?_ (hvp _ pl)⟩
 ·have e:(List.range acc.toList.length).map (λi=>ks.getD i (0,0))=ks:=by
   rw[hal,<-hkl]
   apply q7p
   ·simp
   ·intro i q1 q2
    simp[q2]
  rw[<-e]
  rw[e]
  have:=h1.perm.map (λi=>ks.getD i (0,0))
  rw[e] at this
  exact this
 ·rw[q5o]
  refine q2p.mpr λi j hi hj ij=>?_
  have hs:pm.size=acc.toList.length:=h1.size
  have up:=h2 i j ij (by rw[q0z] at hj;omega)
  unfold Sr.kz at up
  rw[Sr.Z4w (by rw[q0z] at hi;exact hi),Sr.Z4w (by rw[q0z] at hj;exact hj)] at up
  rw[q4r,q4r]
  have up:((ks.getD pm[i] (0,0)).1:Int)*64+((ks.getD pm[i] (0,0)).2:Int)<((ks.getD pm[j] (0,0)).1:Int)*64+((ks.getD pm[j] (0,0)).2:Int):=up
  omega
end L2
namespace K55S
open L2 Ba Am Pc M71
open K64 (top Bs At5 ValsK va vb vc vd Prd Z5p Z4o Z3b Z3i Z4n In2)
open M72 (V4 sm add E En fl sw VOk)
open M75 (Mk mvd Br)
open M77 (bk)
open M84 (mul one fa fs z0)
theorem Vl.uniq {m:Nat}{v u:V4}{x:A5}(l:Vl m v x)(l':Vl m u x):v=u:=by
 obtain⟨M1,l⟩:=l
 obtain⟨M2,l'⟩:=l'
 obtain⟨a1,a2,a3,a4⟩:=l (max M1 M2) (by omega)
 obtain⟨b1,b2,b3,b4⟩:=l' (max M1 M2) (by omega)
 have p:=Z6s (max M1 M2-m)
 apply M72.ext
 ·exact q1l p (by rw[<-a1,<-b1])
 ·exact q1l p (by rw[<-a2,<-b2])
 ·exact q1l p (by rw[<-a3,<-b3])
 ·exact q1l p (by rw[<-a4,<-b4])
theorem Z8f {P x1 x2 x3 x4 y1 y2 y3 y4 v1 v2 v3 v4 u1 u2 u3 u4 A B A' B':Int}(h1:x1*A=v1*A')(h2:x2*A=v2*A')(h3:x3*A=v3*A')(h4:x4*A=v4*A')(g1:y1*B=u1*B')(g2:y2*B=u2*B')(g3:y3*B=u3*B')(g4:y4*B=u4*B')(s2 s3 s4:Int)
  (e:P=x1*y1+s2*(x2*y2)+s3*(x3*y3)+s4*(x4*y4)):P*(A*B)=(v1*u1+s2*(v2*u2)+s3*(v3*u3)+s4*(v4*u4))*(A'*B'):=by
 have e1:P*(A*B)=(x1*A)*(y1*B)+s2*((x2*A)*(y2*B))+s3*((x3*A)*(y3*B))+s4*((x4*A)*(y4*B)):=by rw[e];grind
 rw[e1,h1,h2,h3,h4,g1,g2,g3,g4]
 grind
theorem Z3e {P z h g M:Int}(h0:0<=h)(g0:0<=g)(hM:h+g<=M)(e:Eq2 P h z g):z*p2 (M-g)=P*p2 (M-h):=by
 unfold Eq2 at e
 have e1:p2 (M-g)=p2 (M-g-h)*p2 h:=by rw[<-Z3o (by omega) h0];congr 1;omega
 have e2:p2 (M-h)=p2 (M-g-h)*p2 g:=by rw[<-Z3o (by omega) g0];congr 1;omega
 rw[e1,e2]
 have:z*(p2 (M-g-h)*p2 h)=p2 (M-g-h)*(z*p2 h):=by grind
 rw[this,<-e]
 grind
theorem Vl.mul {m n:Nat}{v u:V4}{x y z:A5}(l:Vl m v x)(l':Vl n u y)(p:Prd x y z)(x0:0<=x.2)(y0:0<=y.2):Vl (m+n) (M84.mul v u) z:=by
 obtain⟨M1,l⟩:=l
 obtain⟨M2,l'⟩:=l'
 have z0:=p.amt.nn
 refine⟨max M1 0+max M2 0+m+n+x.2+y.2+z.2,λM hM=>?_⟩
 obtain⟨N1,N2,rfl,c1,c2,c3,c4,c5,c6⟩:∃ N1 N2:Int,M=N1+N2/\M1<=N1/\M2<=N2/\m+x.2<=N1/\n+y.2<=N2/\0<=N1/\0<=N2:=⟨max M1 0+m+x.2,M-(max M1 0+m+x.2),by omega,by omega,by omega,by omega,by omega,by omega,by omega⟩
 obtain⟨a1,a2,a3,a4⟩:=l N1 c1
 obtain⟨b1,b2,b3,b4⟩:=l' N2 c2
 have e1:p2 (N1+N2-(x.2+y.2))=p2 (N1-x.2)*p2 (N2-y.2):=by rw[<-Z3o (by omega) (by omega)];congr 1;omega
 have e2:p2 (N1+N2-((m+n:Nat):Int))=p2 (N1-m)*p2 (N2-n):=by rw[<-Z3o (by omega) (by omega)];congr 1;omega
 have s:=p.same
 unfold va at a1 b1
 unfold vb at a2 b2
 unfold vc at a3 b3
 unfold vd at a4 b4
 unfold va vb vc vd
 have hM':x.2+y.2+z.2<=N1+N2:=by omega
 refine⟨?_,?_,?_,?_⟩
 ·rw[Z3e (by omega) z0 hM' s.e1,e1,e2,Z8f a1 a2 a3 a4 b1 b4 b3 b2 (-1) (-1) (-1) (by grind)]
  simp only[M84.mul];grind
 ·rw[Z3e (by omega) z0 hM' s.e2,e1,e2,Z8f a1 a2 a3 a4 b2 b1 b4 b3 1 (-1) (-1) (by grind)]
  simp only[M84.mul];grind
 ·rw[Z3e (by omega) z0 hM' s.e3,e1,e2,Z8f a1 a2 a3 a4 b3 b2 b1 b4 1 1 (-1) (by grind)]
  simp only[M84.mul];grind
 ·rw[Z3e (by omega) z0 hM' s.e4,e1,e2,Z8f a1 a2 a3 a4 b4 b3 b2 b1 1 1 1 (by grind)]
  simp only[M84.mul];grind
theorem Vl.add {m:Nat}{v u:V4}{x y z:A5}{s:Int}(l:Vl m v x)(l':Vl m u y)(x0:0<=x.2)(y0:0<=y.2)(am:Amt z.1.1 z.1.2.1 z.1.2.2.1 z.1.2.2.2 z.2)
  (sm4:Same4 (x.1.1*p2 y.2+s*y.1.1*p2 x.2) (x.1.2.1*p2 y.2+s*y.1.2.1*p2 x.2) (x.1.2.2.1*p2 y.2+s*y.1.2.2.1*p2 x.2) (x.1.2.2.2*p2 y.2+s*y.1.2.2.2*p2 x.2) (x.2+y.2) z.1.1 z.1.2.1 z.1.2.2.1 z.1.2.2.2 z.2):Vl m (M72.add v (sm s u)) z:=by
 obtain⟨M1,l⟩:=l
 obtain⟨M2,l'⟩:=l'
 have z0:=am.nn
 refine⟨max M1 0+max M2 0+x.2+y.2+z.2,λM hM=>?_⟩
 obtain⟨a1,a2,a3,a4⟩:=l M (by omega)
 obtain⟨b1,b2,b3,b4⟩:=l' M (by omega)
 unfold va at a1 b1
 unfold vb at a2 b2
 unfold vc at a3 b3
 unfold vd at a4 b4
 have key:∀ {a b zz u1 v1:Int},Eq2 (a*p2 y.2+s*b*p2 x.2) (x.2+y.2) zz z.2->a*p2 (M-x.2)=v1*p2 (M-m)->b*p2 (M-y.2)=u1*p2 (M-m)->zz*p2 (M-z.2)=(v1+s*u1)*p2 (M-m):=λ{a b zz u1 v1} e ha hb=>by
  rw[Z3e (by omega) z0 (by omega) e]
  have e1:p2 (M-x.2)=p2 y.2*p2 (M-(x.2+y.2)):=by rw[<-Z3o y0 (by omega)];congr 1;omega
  have e2:p2 (M-y.2)=p2 x.2*p2 (M-(x.2+y.2)):=by rw[<-Z3o x0 (by omega)];congr 1;omega
  rw[e1] at ha
  rw[e2] at hb
  have:(a*p2 y.2+s*b*p2 x.2)*p2 (M-(x.2+y.2))=a*(p2 y.2*p2 (M-(x.2+y.2)))+s*(b*(p2 x.2*p2 (M-(x.2+y.2)))):=by grind
  rw[this,ha,hb]
  grind
 unfold va vb vc vd
 exact⟨key sm4.e1 a1 b1,key sm4.e2 a2 b2,key sm4.e3 a3 b3,key sm4.e4 a4 b4⟩
theorem Vl.half {m:Nat}{v:V4}{a b c d h x y z u g:Int}(l:Vl m v ((a,b,c,d),h))(h0:0<=h)(r:Red a b c d (h+1) x y z u g):Vl (m+1) v ((x,y,z,u),g):=by
 obtain⟨M1,l⟩:=l
 have z0:=r.amt.nn
 refine⟨max M1 0+m+1+h+1+g+1,λM hM=>?_⟩
 obtain⟨a1,a2,a3,a4⟩:=l (M-1) (by omega)
 have s:=r.same
 have e:p2 (M-((m+1:Nat):Int))=p2 (M-1-m):=by congr 1;omega
 have e':p2 (M-(h+1))=p2 (M-1-h):=by congr 1;omega
 unfold va at a1
 unfold vb at a2
 unfold vc at a3
 unfold vd at a4
 unfold va vb vc vd
 refine⟨?_,?_,?_,?_⟩
 ·show x*p2 (M-g)=_
  rw[Z3e (by omega) z0 (by omega) s.e1,e',e];exact a1
 ·show y*p2 (M-g)=_
  rw[Z3e (by omega) z0 (by omega) s.e2,e',e];exact a2
 ·show z*p2 (M-g)=_
  rw[Z3e (by omega) z0 (by omega) s.e3,e',e];exact a3
 ·show u*p2 (M-g)=_
  rw[Z3e (by omega) z0 (by omega) s.e4,e',e];exact a4
theorem Vl.one (N:Nat):Vl N (sm (2^N) one) ((1,0,0,0),0):=by
 have:=Vl.of (x:=((1,0,0,0),0)) (N:=N) (q1r 0) (by show (0:Int)<=N;omega)
 exact this
end K55S
namespace K55S
open L2 Ba Am Pc M71
open K64 (top Bs Bd5 ValsK At5 Ams Z8c Steps spRunK)
open M72 (fl sw VOk V4 En sm rowop)
open M75 (Mk mvd Br lay bn bp)
theorem X4q {c:Nat}{m:Mk}{f:Nat->A5}(o:OkK c m)(a:Ams c f):Ams c (layW m f):=λw hw=>K64.Y0u (a _ (q2r hw o.f)) _
theorem Z4b {α:Type}{F:Addr->α->Prop}:∀ {ps:U3}{ms:List α},Paired F ps ms->ps.length=ms.length
 | [],[],.nil=>rfl
 | _::_,_::_,.cons _ r=>by rw[q2k,q2k,Z4b r]
theorem Z3l {α:Type}{F:Addr->α->Prop}:∀ {ps:U3}{ms:List α}{i:Nat}{p:W9},Paired F ps ms->ps[i]?=some p->∃ m,ms[i]?=some m/\F p m
 | p'::ps,m::ms,0,p,.cons a r,h=>by
  have:p'=p:=by simpa using h
  subst this
  exact⟨m,Z,a⟩
 | p'::ps,m::ms,i+1,p,.cons a r,h=>by
  obtain⟨m',b,c⟩:=Z3l (ps:=ps) (ms:=ms) (i:=i) (p:=p) r (by simpa using h)
  exact⟨m',by simpa using b,c⟩
theorem Z4h {α:Type}{F:Addr->α->Prop}{a:W9}{b:α}:∀ {l:U3}{m:List α},Paired F l m->F a b->Paired F (l++[a]) (m++[b])
 | _,_,.nil,h=>.cons h .nil
 | _,_,.cons x r,h=>.cons x (Z4h r h)
theorem Z4s {α:Type}{F G:Addr->α->Prop}(f:∀ a b,F a b->G a b):∀ {l:U3}{m:List α},Paired F l m->Paired G l m
 | _,_,.nil=>.nil
 | _,_,.cons x r=>.cons (f _ _ x) (Z4s f r)
theorem X2k {K:U0}{H:Hp}{p l:W9}{zs:List V}{xs ys:List V}(h:SqT K H p zs)(e:H l=some (.lst xs)):SqT K (upd H l (.lst ys)) p zs:=by
 rcases h with h | h
 ·left
  rcases h with h | ⟨o,h⟩
  ·exact .inl (by rw[Z0t (Z4v h e (by intro z;cases z))];exact h)
  ·exact .inr ⟨o,by rw[Z0t (Z4v h e (by intro z;cases z))];exact h⟩
 ·exact .inr h
section
variable {P:U8}{w:W1}{K:U0}{mg:U4}{base:Heap}{k:Nat}{h:Heap}
end
end K55S
set_option maxHeartbeats 1000000
namespace K55S
open L2 Ba Am Pc M71
open K64 (top Bs At5 ValsK Prd Z5p Z4o Z3b Z3i Z4n In2 spHalf)
open M72 (V4 sm add En fl sw VOk)
open M75 (Mk mvd Br)
open M77 (bk)
open M84 (mul one fa fs z0 Te Od Ah)
abbrev Tm:=A5 × Mk
noncomputable def vv (x:A5):V4:=sm (2^(60-x.2.toNat)) x.1
noncomputable def tv (t:Tm):Te:=(vv t.1,t.2)
theorem Y2n {x:A5}(h0:0<=x.2)(h:x.2<=60):Vl 60 (vv x) x:=Vl.of (N:=60) h0 h
def TmAt (K:U0)(H:Hp)(p:W9)(t:Tm):Prop:=∃ a b,H p=some (.tup [.ref a,.ref b])/\At5 K H a t.1/\SqT K H b (mkL t.2)
theorem TmAt.same {K:U0}{H H':Hp}{p:W9}{t:Tm}(h:TmAt K H p t)(s:Same H H'):TmAt K H' p t:=by
 obtain⟨a,b,h1,h2,h3⟩:=h
 exact⟨a,b,s _ _ h1,h2.same s,s.tup h3⟩
theorem TmAt.upd {K:U0}{H:Hp}{p l:W9}{t:Tm}{xs ys:List V}(h:TmAt K H p t)(e:H l=some (.lst xs)):TmAt K (upd H l (.lst ys)) p t:=by
 obtain⟨a,b,h1,h2,h3⟩:=h
 exact⟨a,b,by rw[Z0t (Z4v h1 e (by intro z;cases z))];exact h1,h2.upd e,X2k h3 e⟩
structure Tms (K:U0) (H:Hp) (l:W9) (ps:U3) (T:List Tm):Prop where
 lst:H l=some (.lst (ps.map V.ref))
 tms:Paired (TmAt K H) ps T
theorem Tms.same {K:U0}{H H':Hp}{l:W9}{ps:U3}{T:List Tm}(h:Tms K H l ps T)(s:Same H H'):Tms K H' l ps T:=⟨s _ _ h.lst,Z4s (λ_ _ x=>x.same s) h.tms⟩
theorem Tms.push {K:U0}{H H':Hp}{l p:W9}{ps:U3}{T:List Tm}{t:Tm}(h:Tms K H l ps T)(s:Same H H')(e:TmAt K H' p t):Tms K (upd H' l (.lst (ps.map V.ref++[V.ref p]))) l (ps++[p]) (T++[t]) :=
 ⟨by rw[Z0c,q0k];rfl,Z4h (Z4s (λ_ _ x=>(x.same s).upd (s _ _ h.lst)) h.tms) (e.upd (s _ _ h.lst))⟩
structure OkT (c i:Nat) (z:Prop) (T:List Tm):Prop where
 ok:∀ t∈T,Ok5 (1+7*i) ((i:Nat):Int) t.1/\OkK c t.2
 ky:∀ t∈T,t.2.2=(0,0) ↔ z
theorem OkT.app {c i:Nat}{z:Prop}{T T':List Tm}(h:OkT c i z T)(h':OkT c i z T'):OkT c i z (T++T'):=⟨λt ht=>by
 rcases q2g.mp ht with q | q
 ·exact h.ok t q
 ·exact h'.ok t q,λt ht=>by
 rcases q2g.mp ht with q | q
 ·exact h.ky t q
 ·exact h'.ky t q⟩
theorem OkT.one {c i:Nat}{z:Prop}{t:Tm}(h:Ok5 (1+7*i) ((i:Nat):Int) t.1)(k:OkK c t.2)(y:t.2.2=(0,0) ↔ z):OkT c i z [t]:=⟨λu hu=>by rw[q1e.mp hu];exact⟨h,k⟩,λu hu=>by rw[q1e.mp hu];exact y⟩
theorem X1a {x y z:A5}{u:V4}(p:Prd x y z)(x0:0<=x.2)(x60:x.2<=60)(y0:0<=y.2)(z60:z.2<=60)(l:Vl 1 u y):sm 2 (vv z)=mul (vv x) u :=
 ((Y2n p.amt.nn z60).up 1).uniq ((Y2n x0 x60).mul l p x0 y0)
theorem Z7k (n:Nat):Vl 0 (En n one) (rot n (1,0,0,0),0):=by
 have:=(Vl.one 0).rot n
 rw[show sm (2^0) one=one from rfl] at this
 exact this
theorem W0h {a b x y z u g x' y' z' u' g':Int}{v v':V4}{J:Nat}(s:K64.Sum v.1 v.2.1 v.2.2.1 v.2.2.2 0 v'.1 v'.2.1 v'.2.2.1 v'.2.2.2 0 x y z u g)(r:Red x y z u (g+1) x' y' z' u' g')(l:Vl 0 (En (8-J) one) (v,0))(l':Vl 0 (En J one) (v',0)):Vl 1 (fa J) ((x',y',z',u'),g'):=by
 have h:=Vl.add (s:=1) (z:=((x,y,z,u),g)) l l' (q1r 0) (q1r 0) s.amt (by have:=s.same;simp only[q4y];exact this)
 rw[show sm 1 (En J one)=En J one from M72.Z6x _] at h
 exact h.half s.amt.nn r
theorem W0g {a b x y z u g x' y' z' u' g':Int}{v v':V4}{J:Nat}(s:K64.Sum v.1 v.2.1 v.2.2.1 v.2.2.2 0 (-v'.1) (-v'.2.1) (-v'.2.2.1) (-v'.2.2.2) 0 x y z u g)(r:Red x y z u (g+1) x' y' z' u' g')(l:Vl 0 (En (8-J) one) (v,0))(l':Vl 0 (En J one) (v',0)):Vl 1 (fs J) ((x',y',z',u'),g'):=by
 have h:=Vl.add (s:=-1) (z:=((x,y,z,u),g)) l l' (q1r 0) (q1r 0) s.amt (by have:=s.same;simp only[q8m];exact this)
 exact h.half s.amt.nn r
theorem Y0d:∀ n,Sz4 1 (rot n (1,0,0,0)).1 (rot n (1,0,0,0)).2.1 (rot n (1,0,0,0)).2.2.1 (rot n (1,0,0,0)).2.2.2
 | 0=>⟨by decide +kernel,by decide +kernel,by decide +kernel,by decide +kernel⟩
 | n+1=>let r:=Y0d n;⟨r.z4.neg,r.z1,r.z2,r.z3⟩
def spBk:Sp:=λvs H Q _=>∃ (p:W9) (x:Mv),vs=[.ref p]/\H p=some (mT (mm x))/\∀ (t:W9) (H':Hp),Same H H'->H' t=some (mT (mm (bk x)))->Q (.ref t) H'
def Y4i (K:U0):Sp:=λvs H Q _=>∃ (l:W9) (ps:U3) (T:List Tm) (A J c i:Nat) (z:Prop),vs=[.ref l,.int ((2^A:Nat):Int),.int (J:Int)]/\Tms K H l ps T/\T.length<=100/\OkT c i z T/\i<=40/\A<c/\1<=J/\J<=7 ∧
 ∀ (r:W9) (H':Hp) (qs:U3) (T':List Tm),Same H H'->Tms K H' r qs T'->OkT c (i+1) z T'->T'.length<=2*T.length->Od A J (T.map tv) (T'.map tv)->Q (.ref r) H'
theorem ky_f {f s A:Nat}(h:f.testBit A=true):¬ (f,s)=(0,0):=λz=>by
 injection z with z1 z2
 rw[z1] at h
 simp at h
section
variable {P:U8}{w:W1}{K:U0}{mg:U4}{base:Heap}{k:Nat}{h:Heap}
theorem sc_bkm:FnScope ["move"] ["move"] (Z0h (top 43)):=fS
theorem X6w (F:FunAt K "back_move" (top 43) .none)(X:K.In h)(G:Ng h mg):Cal P w K mg base (k+1) "back_move" ["move"] spBk:=by
 have nd:=sc_bkm.nd
 refine F.cal X G sc_bkm (bnd1 λ_ _ _ _ _ _ _=>rfl) (λvs H Q E h=>?_) (λf cdv A outer s H vs Q E hr h=>?_)
 ·obtain⟨p,x,rfl,_⟩:=h;rfl
 obtain⟨p,x,rfl,hp,q⟩:=h
 have SP:SqT K H p (.str (nm x)::(ns x).map V.int):=SqT.of hp
 refine⟨_,(@Z0e _ _ _ _ _ (Z1b (Z0q Z1j (Z0k Z0j (pv 0) Z0b (λ_ _=>rfl)) Z1h (nomark _))
   (@Z0g _ _ _ (Z0l (@Z0y _ _ _ _ _ (Z0a Z1h (Z0a (Z0k Z0j (pv 0) Z0b (λ_ _=>rfl)) (Z0a (Z0i Z1t Z0b (Z0k Z0j (pv 0) Z0b (λ_ _=>rfl))) Z0d))))))
   Z0r)
  (@Z0g _ _ _ (Z0l (pv 0)))),?_⟩
 try dsimp only[cxK]
 refine⟨_,Z,p,_,_,.str (nm x),Z,Z,SP,at0m x,Z,?_⟩
 by_cases e:nm x="turn"
 ·obtain⟨a,j,rfl⟩:=Z5a e
  exact⟨_,Z,decI (λ_=>⟨_,Z,p,_,_,.int a,Z,Z,SP,k1,_,Z,p,_,_,.int j,Z,Z,SP,k2,_,_,Z,Z,t3,λt ht=>q t _ (Z0f ht _) Z0c⟩) (λz=>absurd rfl z)⟩
 ·refine⟨_,Z,decI (λz=>absurd (V.str.inj z) e) (λ_=>?_)⟩
  refine⟨_,Z,q p H (Same.refl _) ?_⟩
  have:bk x=x:=by cases x<;>first | rfl | exact absurd rfl e
  rw[this]
  exact hp
theorem sc_ahodd:FnScope ["terms","bit","k","for_all","for_sign","ahead","one","mark"] ["terms","bit","k"] (Z0h (top 56)):=fS
theorem Y8u (F:FunAt K "terms_ahead_of_odd_turn" (top 56) .none)(X:K.In h)(G:Ng h mg){aO:W9}(gO:mg "ONE"=some (.ref aO))(kO:∀ H,At5 K H aO ((1,0,0,0),0))(dL:Cal P w K mg base k "halved" ["one"] Z4o)(cM:Cal P w K mg base k "plus" ["one","other"] (Z3i K))(dA:Cal P w K mg base k "minus" ["one","other"] (Z4n K))
  (cG:Cal P w K mg base k "spun" ["one","k"] (Z3b K)) (dP:Cal P w K mg base k "times" ["one","other"] (Z5p K)):Cal P w K mg base (k+1) "terms_ahead_of_odd_turn" ["terms","bit","k"] (Y4i K):=by
 have nd:=sc_ahodd.nd
 refine F.cal X G sc_ahodd (bnd3 λ_ _ _ _ _ _ _ _ _=>rfl) (λvs H Q E h=>?_) (λf cdv A outer s H vs Q E hr h=>?_)
 ·obtain⟨l,ps,T,A,J,c,i,z,rfl,_⟩:=h;rfl
 obtain⟨l,ps,T,A',J,c,i,z,rfl,TM,T100,OT,i40,Ac,J1,J7,kq⟩:=h
 refine⟨_,(@Z0e _ _ _ _ _ (@Z0o _ _ 3 _ _ _ _ nd rfl (Or.inl rfl) (Z0n dL hr rfl (Z0a (Z0n cM hr rfl (Z0a (Z0n cG hr rfl (Z0a (Z2s (v:=.ref aO) rfl gO rfl) (Z0a (Z8a Z5x (pv 2)) Z0d))) (Z0a (Z0n cG hr rfl (Z0a (Z2s (v:=.ref aO) rfl gO rfl) (Z0a (pv 2) Z0d))) Z0d))) Z0d)) rfl (.inl rfl))
  (@Z0e _ _ _ _ _ (@Z0o _ _ 4 _ _ _ _ nd rfl (Or.inl rfl) (Z0n dL hr rfl (Z0a (Z0n dA hr rfl (Z0a (Z0n cG hr rfl (Z0a (Z2s (v:=.ref aO) rfl gO rfl) (Z0a (Z8a Z5x (pv 2)) Z0d))) (Z0a (Z0n cG hr rfl (Z0a (Z2s (v:=.ref aO) rfl gO rfl) (Z0a (pv 2) Z0d))) Z0d))) Z0d)) rfl (.inl rfl))
  (@Z0e _ _ _ _ _ (@Z0o _ _ 5 _ _ _ _ nd rfl (Or.inl rfl) (@Z2r _ _ _ _ Z0d) rfl (.inl rfl))
  (@Z0e _ _ _ _ _ (Z1u PassesOwn.never rfl (Z1r (pv 0)) (@Z2z _ _ _ _ _ _ rfl (@Z0v _ _ _ _ _ (@Z0m _ _ 6 _ nd rfl (Or.inl rfl) (by first | exact .inl rfl | exact .inr rfl)) (@Z0v _ _ _ _ _ (@Z0m _ _ 7 _ nd rfl (Or.inl rfl) (by first | exact .inl rfl | exact .inr rfl)) Z2f rfl) rfl) rfl rfl)
   (@Z0g _ _ _ (Z1b (Z2l (Z0i Z1n (Z0k Z0j (pv 7) Z0b (λ_ _=>rfl)) (pv 1)) (by intro _;rfl))
    (@Z0e _ _ _ _ _ (Z2v (Y2u q2f q2d q2c Z2j (pv 5) (Z0a (@Z0y _ _ _ _ _ (Z0a (Z0n dP hr rfl (Z0a (pv 6) (Z0a (pv 3) Z0d))) (Z0a (pv 7) Z0d))) Z0d)))
    (@Z0g _ _ _ (Z2v (Y2u q2f q2d q2c Z2j (pv 5) (Z0a (@Z0y _ _ _ _ _ (Z0a (Z0n dP hr rfl (Z0a (pv 6) (Z0a (pv 4) Z0d))) (Z0a (@Z0y _ _ _ _ _ (Z0a (Z0k Z0j (pv 7) Z0b (λ_ _=>rfl)) (Z0a (Z0k Z0j (pv 7) Z0b (λ_ _=>rfl)) (Z0a (Z0i Z3p (Z0k Z0j (pv 7) Z0b (λ_ _=>rfl)) (pv 1)) Z0d)))) Z0d))) Z0d)))))
    (@Z0g _ _ _ (Z2v (Y2u q2f q2d q2c Z2j (pv 5) (Z0a (@Z0y _ _ _ _ _ (Z0a (pv 6) (Z0a (pv 7) Z0d))) Z0d)))))))
  (@Z0g _ _ _ (Z0l (pv 5))))))),?_⟩
 try dsimp only[cxK]
 have eJ:((-(J:Int))%8).toNat=8-J:=by omega
 have eJ':((J:Int)%8).toNat=J:=by omega
 have mk2:∀ {H1:Hp}{p q:W9}{m n:Nat},At5 K H1 p (rot m (1,0,0,0),0)->At5 K H1 q (rot n (1,0,0,0),0)->In2 K 1 [.ref p,.ref q] H1 p q (rot m (1,0,0,0)).1 (rot m (1,0,0,0)).2.1 (rot m (1,0,0,0)).2.2.1 (rot m (1,0,0,0)).2.2.2 0 (rot n (1,0,0,0)).1 (rot n (1,0,0,0)).2.1 (rot n (1,0,0,0)).2.2.1 (rot n (1,0,0,0)).2.2.2 0 :=
  λ{H1 p q m n} hp hq=>⟨Z,hp,hq,q1r 0,q1r 0,by decide,by decide,Y0d m,Y0d n⟩
 refine⟨_,Z,_,Z,aO,1,0,0,0,0,_,Z,kO _,λr1 H1 S1 e1=>⟨_,Z,aO,1,0,0,0,0,_,Z,kO _,λr2 H2 S2 e2=>?_⟩⟩
 rw[eJ] at e1
 rw[eJ'] at e2
 refine⟨1,r1,r2,_,_,_,_,_,_,_,_,_,_,mk2 (e1.same S2) e2,λr3 H3 x3 y3 z3 u3 g3 S3 e3 s3 q3=>⟨r3,_,_,_,_,_,Z,e3,s3.amt.nn,λr4 H4 x4 y4 z4 u4 g4 S4 e4 s4=>?_⟩⟩
 have F4:Vl 1 (fa J) ((x4,y4,z4,u4),g4):=W0h (a:=0) (b:=0) s3 s4 (Z7k _) (Z7k _)
 have O4:Ok5 3 1 ((x4,y4,z4,u4),g4):=⟨s4.sz q3,s4.amt,by have:=s4.le;have:=s3.le;show g4<=1;omega⟩
 have S04:=((S1.trans S2).trans S3).trans S4
 clear e1 e2 e3 q3 s3 s4 S1 S2 S3 S4
 refine⟨_,Z,_,Z,aO,1,0,0,0,0,_,Z,kO _,λr5 H5 S5 e5=>⟨_,Z,aO,1,0,0,0,0,_,Z,kO _,λr6 H6 S6 e6=>?_⟩⟩
 rw[eJ] at e5
 rw[eJ'] at e6
 refine⟨1,r5,r6,_,_,_,_,_,_,_,_,_,_,mk2 (e5.same S6) e6,λr7 H7 x7 y7 z7 u7 g7 S7 e7 s7 q7=>⟨r7,_,_,_,_,_,Z,e7,s7.amt.nn,λr8 H8 x8 y8 z8 u8 g8 S8 e8 s8=>?_⟩⟩
 have F8:Vl 1 (fs J) ((x8,y8,z8,u8),g8):=W0g (a:=0) (b:=0) s7 s8 (Z7k _) (Z7k _)
 have O8:Ok5 3 1 ((x8,y8,z8,u8),g8):=⟨s8.sz q7,s8.amt,by have:=s8.le;have:=s7.le;show g8<=1;omega⟩
 have S48:=((S5.trans S6).trans S7).trans S8
 have S08:=S04.trans S48
 have E4:=S48 _ _ e4
 clear e5 e6 e7 q7 s7 s8 S5 S6 S7 S8 S04 S48 e4
 refine⟨q1d _,λla hla=>?_⟩
 have s9:=Z0f hla (.lst [])
 have a9:upd H8 la (.lst []) la=some (.lst []):=Z0c
 generalize upd H8 la (.lst [])=H9 at s9 a9 ⊢
 have big:(1000:Nat)<sizeLine:=by decide
 have lp:=Z4b TM.tms
 refine⟨_,Z,l,Z,⟨_,(S08.trans s9).seq (SqL.of TM.lst)⟩,Z3y (K:=K) (a:=l) (xs:=ps.map V.ref) (λj σ H'=>Same H8 H'/\∃ (qs:U3) (T':List Tm) (v6 v7:Option V),Tms K H' la qs T'/\OkT c (i+1) z T'/\T'.length<=2*j/\Od A' J ((T.take j).map tv) (T'.map tv)/\σ=[some (.ref l),some (.int ((2^A':Nat):Int)),some (.int (J:Int)),some (.ref r4),some (.ref r8),some (.ref la),v6,v7])
  ⟨s9,[],[],none,none,⟨a9,.nil⟩,⟨(λt ht=>by cases ht),λt ht=>by cases ht⟩,q1d _,.nil,Z⟩ (λj σ H' _ e=>(S08.trans e.1).seq (SqL.of TM.lst)) ?_ ?_⟩
 ·rintro j x σ H1 hx ⟨S1,qs,T',v6,v7,TM1,OT1,l1,od,rfl⟩
  rw[q0n] at hx
  obtain⟨p,hp,rfl⟩:=q0l.mp hx
  obtain⟨t,ht,pa,pb,ep,ea,eb⟩:=Z3l TM.tms hp
  have tm:=q0w ht
  have jl:j<T.length:=(q0o.mp ht).1
  have tk:T.take (j+1)=T.take j++[t]:=by rw[q1f,ht];rfl
  have lq:=Z4b TM1.tms
  obtain⟨x1,kk,ff,ss⟩:=t
  obtain⟨ok1,ok2⟩:Ok5 (1+7*i) ((i:Nat):Int) x1/\OkK c (kk,ff,ss):=OT.ok _ tm
  have ky:(ff,ss)=(0,0) ↔ z:=OT.ky _ tm
  have S01:=S08.trans S1
  have ea1:At5 K H1 pa x1:=ea.same S01
  have eb1:SqT K H1 pb (mkL (kk,ff,ss)):=S01.tup eb
  have xl:x1.2<=((i:Nat):Int):=ok1.le
  have x60:x1.2<=60:=by omega
  refine⟨p,_,Z,SqT.of (S01 _ _ ep),Z,_,_,Z,_,_,Z,Z,?_⟩
  refine⟨_,Z,pb,_,_,.int ff,Z,Z,eb1,k1,_,Z,_,_,Z,Z,_,Z,?_⟩
  show (if (Builtin.bitAnd (ff:Int) ((2^A':Nat):Int) != 0)=true then _ else _)
  rw[tb]
  refine blI (λhb=>?_) (λhb=>?_)
  ·refine⟨_,Z,.inl ⟨Z,_,SqL.of TM1.lst⟩,_,Z,_,Z,pa,r4,x1,((x4,y4,z4,u4),g4),_,3,_,1,Z,ea1,At5.of (S1 _ _ E4),ok1,O4,by omega,λr2 H2 y2 S2 e2 p2 o2=>⟨_,Z,t2,λtp htp=>⟨la,_,_,Z,Z,(S2.trans (Z0f htp _)) _ _ TM1.lst,(by rw[q0a];omega),?_⟩⟩⟩
   have s3:=S2.trans (Z0f htp (.tup [.ref r2,.ref pb]))
   have ty:TmAt K (upd H2 tp (.tup [.ref r2,.ref pb])) tp (y2,(kk,ff,ss)):=⟨r2,pb,Z0c,At5.of ((Z0f htp _) _ _ e2),s3.tup eb1⟩
   have TM2:=TM1.push s3 ty
   have sU:Same H8 (upd (upd H2 tp (.tup [.ref r2,.ref pb])) la (.lst (qs.map V.ref++[V.ref tp]))):=Z1a (S1.trans s3) hla
   have y60:y2.2<=60:=by have:=o2.le;omega
   generalize upd (upd H2 tp (.tup [.ref r2,.ref pb])) la (.lst (qs.map V.ref++[V.ref tp]))=H3 at TM2 sU ⊢
   have S03:=S08.trans sU
   refine⟨_,Z,.inl ⟨Z,_,SqL.of TM2.lst⟩,_,Z,_,Z,pa,r8,x1,((x8,y8,z8,u8),g8),_,3,_,1,Z,ea.same S03,At5.of (sU _ _ e8),ok1,O8,by omega,λr4' H4' y4' S4' e4' p4' o4'=>?_⟩
   have eb4:SqT K H4' pb (mkL (kk,ff,ss)):=(S03.trans S4').tup eb
   refine⟨_,Z,pb,_,_,.int kk,Z,Z,eb4,k0,_,Z,pb,_,_,.int ff,Z,Z,eb4,k1,_,Z,pb,_,_,.int ss,Z,Z,eb4,k2,_,Z,_,_,Z,Z,t3,λtm' htm=>?_⟩
   have e5:[V.int (kk:Int),V.int (ff:Int),V.int (Builtin.bitXor (ss:Int) ((2^A':Nat):Int))]=mkL (kk,ff,fl ss A'):=by rw[xb]
   have s5:=S4'.trans (Z0f htm (.tup (mkL (kk,ff,fl ss A'))))
   have q5:upd H4' tm' (.tup (mkL (kk,ff,fl ss A'))) tm'=some (.tup (mkL (kk,ff,fl ss A'))):=Z0c
   have q5':upd H4' tm' (.tup (mkL (kk,ff,fl ss A'))) r4'=some (tA y4'):=(Z0f htm _) _ _ e4'
   rw[show upd H4' tm' (.tup [V.int (kk:Int),V.int (ff:Int),V.int (Builtin.bitXor (ss:Int) ((2^A':Nat):Int))])=upd H4' tm' (.tup (mkL (kk,ff,fl ss A'))) by rw[e5]]
   generalize upd H4' tm' (.tup (mkL (kk,ff,fl ss A')))=H5 at s5 q5 q5' ⊢
   refine⟨t2,λtq htq=>⟨la,_,_,Z,Z,(s5.trans (Z0f htq _)) _ _ TM2.lst,(by rw[q0a,q0x,q8i];omega),?_⟩⟩
   have s6:=s5.trans (Z0f htq (.tup [.ref r4',.ref tm']))
   have ty4:TmAt K (upd H5 tq (.tup [.ref r4',.ref tm'])) tq (y4',(kk,ff,fl ss A')):=⟨r4',tm',Z0c,At5.of ((Z0f htq _) _ _ q5'),SqT.of ((Z0f htq _) _ _ q5)⟩
   have TM4:=TM2.push s6 ty4
   have y460:y4'.2<=60:=by have:=o4'.le;omega
   refine⟨Z1a (sU.trans s6) hla,_,_,_,_,TM4,(OT1.app (OkT.one (o2.mono (by omega) (by omega)) ok2 ky)).app (OkT.one (o4'.mono (by omega) (by omega)) ⟨ok2.k,ok2.f,Z6m ok2.s Ac⟩ ⟨λq=>absurd q (ky_f hb),λq=>absurd (ky.mpr q) (ky_f hb)⟩),by simp;omega,?_,Z⟩
   rw[tk,q0k,List.append_assoc,q0k]
   exact Od.flip od hb (X1a p2 ok1.amt.nn x60 O4.amt.nn y60 F4) (X1a p4' ok1.amt.nn x60 O8.amt.nn y460 F8)
  ·refine⟨_,Z,.inl ⟨Z,_,SqL.of TM1.lst⟩,_,Z,_,Z,t2,λtp htp=>⟨la,_,_,Z,Z,(Z0f htp _) _ _ TM1.lst,(by rw[q0a];omega),?_⟩⟩
   have s3:=Z0f htp (.tup [.ref pa,.ref pb])
   have ty:TmAt K (upd H1 tp (.tup [.ref pa,.ref pb])) tp (x1,(kk,ff,ss)):=⟨pa,pb,Z0c,ea1.same s3,s3.tup eb1⟩
   refine⟨Z1a (S1.trans s3) hla,_,_,_,_,TM1.push s3 ty,OT1.app (OkT.one (ok1.mono (by omega) (by omega)) ok2 ky),by simp;omega,?_,Z⟩
   rw[tk,q0k,q0k]
   exact Od.keep od hb
 ·rintro σ H1 ⟨S1,qs,T',v6,v7,TM1,OT1,l1,od,rfl⟩
  rw[q0a,lp] at l1
  rw[q0a,lp,q2a] at od
  exact⟨_,Z,kq la H1 qs T' (S08.trans S1) TM1 OT1 l1 od⟩
end
end K55S
namespace K55S
open L2 Ba Am Pc M71
open K64 (top Bs At5 ValsK)
open M72 (V4 sm add En fl sw VOk)
open M75 (Mk mvd Br)
open M77 (bk Y9w Y7f Y5q)
open M84 (mul one z0 Te Od Ah)
theorem X1c {x:Mv}(b:Br x)(k:Nat):(mvd x (k,0,0)).2=(0,0):=by
 cases x with
 | cross a b' d=>exact b.elim
 | _=>simp[mvd,sw]
theorem X9c {x:Mv}{m:Mk}(o:M72.Ok x)(b:Br x)(h:m.1<4):(mvd x m).2=(0,0) ↔ m.2=(0,0):=by
 constructor
 ·intro e
  have q:=Y5q o b h
  have z:=X1c (Y7f o b) (mvd x m).1
  rw[<-e,show ((mvd x m).1,(mvd x m).2)=mvd x m from rfl,q] at z
  exact z.trans e
 ·intro e
  have z:=X1c b m.1
  rw[<-e] at z
  exact z.trans e
noncomputable def cO (row:List Mv):Nat:=(row.filter oddT).length
noncomputable def isX (x:Mv):Bool:=decide (nm x="cross")
noncomputable abbrev o1 (x:Mv):Nat:=if oddT x then 1 else 0
noncomputable def plc:Nat->List Mv->Option Nat
 | _,[]=>none
 | o,x::r=>if isX x || decide (6<o+o1 x) then some 0 else (plc (o+o1 x) r).map (·+1)
theorem Z3f (r:List Mv)(x:Mv):cO (r++[x])=cO r+o1 x:=by
 unfold cO
 rw[q3i,q0x]
 cases h:oddT x<;>simp[h]
theorem Y7d (r:List Mv)(x:Mv):cO (x::r)=o1 x+cO r:=by
 unfold cO o1
 cases h:oddT x<;>simp[h]
 omega
structure NS (row:List Mv) (i:Nat):Prop where
 le:cO (row.take i)<=6
 eq:plc 0 row=(plc (cO (row.take i)) (row.drop i)).map (·+i)
theorem NS.zero (row:List Mv):NS row 0:=⟨by simp[cO],by simp[cO]⟩
theorem NS.at {row:List Mv}{i:Nat}{x:Mv}(n:NS row i)(hx:row[i]?=some x):plc 0 row=if isX x || decide (6<cO (row.take i)+o1 x) then some i else (plc (cO (row.take i)+o1 x) (row.drop (i+1))).map (·+(i+1)):=by
 obtain⟨hl,he⟩:=q0o.mp hx
 rw[n.eq,q6w hl,he]
 show (if _ then _ else _:Option Nat).map _=_
 split
 ·simp
 ·rw[Option.map_map]
  congr 1
  funext y
  show y+1+i=y+(i+1)
  omega
theorem NS.stop {row:List Mv}{i:Nat}{x:Mv}(n:NS row i)(hx:row[i]?=some x)(s:(isX x || decide (6<cO (row.take i)+o1 x))=true):plc 0 row=some i:=by rw[n.at hx,if_pos s]
theorem NS.next {row:List Mv}{i:Nat}{x:Mv}(n:NS row i)(hx:row[i]?=some x)(s:(isX x || decide (6<cO (row.take i)+o1 x))=false):NS row (i+1):=by
 have e:=n.at hx
 rw[if_neg (by rw[s];decide)] at e
 have t:cO (row.take (i+1))=cO (row.take i)+o1 x:=by rw[q1f,hx];exact Z3f _ _
 rw[<-t] at e
 refine⟨?_,e⟩
 rw[q4q] at s
 have:=q3y s.2
 omega
theorem NS.fin {row:List Mv}(n:NS row row.length):plc 0 row=none:=by
 rw[n.eq,q7q]
 rfl
theorem Z7z:∀ {row:List Mv}{o:Nat},plc o row=none->o<=6->(∀ x∈row,nm x≠"cross")/\o+cO row<=6
 | [],o,_,h=>⟨(λx hx=>nomatch hx),by simpa [cO] using h⟩
 | x::r,o,e,h=>by
  have e:(if isX x || decide (6<o+o1 x) then some 0 else (plc (o+o1 x) r).map (·+1))=none:=e
  cases s:(isX x || decide (6<o+o1 x)) with
  | true=>rw[if_pos s] at e;cases e
  | false =>
   rw[if_neg (by rw[s];decide)] at e
   rw[q4q] at s
   have s2:=q3y s.2
   have:=Z7z (row:=r) (o:=o+o1 x) (by cases q:plc (o+o1 x) r with | none=>rfl | some v=>rw[q] at e;cases e) (by omega)
   refine⟨λy hy=>?_,by rw[Y7d];omega⟩
   rcases q0q.mp hy with rfl | hy
   ·exact q3y s.1
   ·exact this.1 y hy
def Y4h (K:U0):Sp:=λvs H Q _=>∃ (l q:W9) (ps:U3) (T:List Tm) (x:Mv) (c i:Nat) (z:Prop),vs=[.ref l,.ref q]/\Tms K H l ps T/\T.length<=100/\OkT c i z T/\i<=40/\c<=6/\H q=some (mT (mm x))/\VOk c x/\nm x≠"cross" ∧
 ∀ (r:W9) (H':Hp) (qs:U3) (T':List Tm),Same H H'->Tms K H' r qs T'->OkT c (i+1) z T'->T'.length<=2^o1 x*T.length->Ah x (T.map tv) (T'.map tv)->Q (.ref r) H'
def Y1e:Sp:=λvs H Q _=>∃ (l:W9) (row:List Mv),vs=[.ref l]/\RowAt H l row/\row.length<=200/\plc 0 row=none/\∀ H',Same H H'->Q .non H'
section
variable {P:U8}{w:W1}{K:U0}{mg:U4}{base:Heap}{k:Nat}{h:Heap}
theorem sc_ahead:FnScope ["terms","move","back"] ["terms","move"] (Z0h (top 55)):=fS
theorem Y8v (F:FunAt K "terms_ahead" (top 55) .none)(X:K.In h)(G:Ng h mg)(cB:Cal P w K mg base k "is_odd_turn" ["move"] spOdd)(cJ:Cal P w K mg base k "terms_ahead_of_odd_turn" ["terms","bit","k"] (Y4i K))(dO:Cal P w K mg base k "back_move" ["move"] spBk)(dY:Cal P w K mg base k "moved_by" ["mark","move"] (Z8y K)) :
  Cal P w K mg base (k+1) "terms_ahead" ["terms","move"] (Y4h K):=by
 have nd:=sc_ahead.nd
 refine F.cal X G sc_ahead (bnd2 λ_ _ _ _ _ _ _ _=>rfl) (λvs H Q E h=>?_) (λf cdv A outer s H vs Q E hr h=>?_)
 ·obtain⟨l,q,ps,T,x,c,i,z,rfl,_⟩:=h;rfl
 obtain⟨l,q,ps,T,x,c,i,z,rfl,TM,T100,OT,i40,c6,hq,vo,nx,kq⟩:=h
 have SP:SqT K H q (.str (nm x)::(ns x).map V.int):=SqT.of hq
 refine⟨_,(@Z0e _ _ _ _ _ (Z1b (Z1l (Z0n cB hr rfl (Z0a (pv 1) Z0d)))
   (@Z0g _ _ _ (Z0l (Z0n cJ hr rfl (Z0a (pv 0) (Z0a (Z0i Z1x Z0b (Z0k Z0j (pv 1) Z0b (λ_ _=>rfl))) (Z0a (Z0k Z0j (pv 1) Z0b (λ_ _=>rfl)) Z0d))))))
   Z0r)
  (@Z0e _ _ _ _ _ (@Z0o _ _ 2 _ _ _ _ nd rfl (Or.inr rfl) (Z0n dO hr rfl (Z0a (pv 1) Z0d)) rfl (.inl rfl))
  (@Z0g _ _ _ (Z0l (Z4i rfl (LcOk.of (Nc:=["one","mark","back"]) (mp:=[none,none,some 2]) (by kernel_rfl)) (Z1r (pv 0)) (λ_ _ _ _=>(Z4t rfl (show (["one","mark","back"]:W0).Nodup by decide +kernel) rfl rfl rfl rfl)) (λ_ _ _ _=>(@Z0y _ _ _ _ _ (Z0a (pv 0) (Z0a (Z0n dY hr rfl (Z0a (pv 1) (Z0a (pv 2) Z0d))) Z0d))))))))),?_⟩
 try dsimp only[cxK]
 refine⟨_,Z,q,x,Z,hq,_,Z,blI (λho=>?_) (λho=>?_)⟩
 ·have et:nm x="turn":=Classical.byContradiction λe=>by rw[Z6g e] at ho;cases ho
  obtain⟨a,j,rfl⟩:=Z5a et
  obtain⟨a0,j1,j7⟩:0<=a/\1<=j/\j<=7:=vo.1
  have ac:a<(c:Int):=vo.2 a (by simp[Mv.cells])
  refine⟨_,Z,_,Z,q,_,_,.int a,Z,Z,SP,k1,_,_,Z,Z,⟨1,sz1,by omega,by omega⟩,_,Z,q,_,_,.int j,Z,Z,SP,k2,?_⟩
  refine⟨l,ps,T,a.toNat,j.toNat,c,i,z,?_,TM,T100,OT,i40,by omega,by omega,by omega,λr H' qs T' S' TM' OT' l' od=>kq r H' qs T' S' TM' OT' ?_ (.inr ⟨a,j,Z,od⟩)⟩
  ·show [V.ref l,V.int (1*2^a.toNat),V.int j]=_
   rw[Y1n a0,tn (show 0<=j by omega)]
  ·show _<=2^(if oddT (.turn a j) then 1 else 0)*_
   rw[if_pos ho]
   exact l'
 ·have br:Br x:=(X8k vo.1).mp (by rw[X8j nx,ho];rfl)
  refine⟨_,Z,q,x,Z,hq,λt H1 S1 ht=>?_⟩
  have lp:=Z4b TM.tms
  have sl:(100:Nat)<=sizeLine:=by decide
  have T1:=TM.same S1
  refine⟨_,Z,l,Z,⟨_,SqL.of T1.lst⟩,λacc hacc=>?_⟩
  refine Y2b (K:=K) (a:=l) (xs:=ps.map V.ref) (fr:=[some (.ref t)]) (λj ys H'=>Same H1 H'/\H' acc=some (.lst ys)/\∃ qs,ys=qs.map V.ref/\Paired (TmAt K H') qs ((T.take j).map λt=>(t.1,mvd (bk x) t.2))) (by rw[q0a];omega) ⟨Z0f hacc _,Z0c,[],Z,.nil⟩ (λj ys H' e=>e.1.seq (SqL.of T1.lst)) ?_ ?_
  ·rintro j v ys H2 N w1 w2 hx hy ⟨S2,a2,qs,rfl,P2⟩ kN
   rw[q0n] at hx
   obtain⟨p,hp,rfl⟩:=q0l.mp hx
   obtain⟨u,hu,pa,pb,ep,ea,eb⟩:=Z3l T1.tms hp
   have ok:=OT.ok u (q0w hu)
   refine⟨p,_,Z,SqT.of (S2 _ _ ep),Z,_,_,Z,_,_,Z,Z,?_⟩
   refine⟨_,Z,_,Z,_,Z,pb,t,u.2,bk x,c,Z,S2.tup eb,S2 _ _ ht,ok.2,c6,Y9w vo,Y7f vo.1 br,λr H3 S3 e3=>⟨t2,λtp htp=>?_⟩⟩
   have s4:=Z0f htp (.tup [.ref pa,.ref r])
   have S13:=S2.trans (S3.trans s4)
   have q4:=(S3.trans s4) _ _ a2
   have e4:TmAt K (upd H3 tp (.tup [.ref pa,.ref r])) tp (u.1,mvd (bk x) u.2):=⟨pa,r,Z0c,ea.same S13,s4.tup e3⟩
   refine kN _ _ _ _ q4 ⟨Z1a S13 hacc,Z0c,qs++[tp],by rw[q0k];rfl,?_⟩
   rw[q1f,hu,q3g,q0k]
   exact Z4h (Z4s (λ_ _ y=>(y.same (S3.trans s4)).upd q4) P2) (e4.upd q4)
  ·rintro ys H2 hy ⟨S2,a2,qs,rfl,P2⟩
   rw[q0a,lp,q2a] at P2
   refine kq acc H2 qs _ (S1.trans S2) ⟨a2,P2⟩ ⟨λu hu=>?_,λu hu=>?_⟩ ?_ (.inl ⟨br,?_⟩)
   ·obtain⟨y,hy,rfl⟩:=q2j.mp hu
    have ok:=OT.ok y hy
    exact⟨ok.1.mono (by omega) (by omega),X7b (Y9w vo) ok.2⟩
   ·obtain⟨y,hy,rfl⟩:=q2j.mp hu
    exact(X9c (Y9w vo).1 (Y7f vo.1 br) (OT.ok y hy).2.k).trans (OT.ky y hy)
   ·rw[q0a]
    exact q7w _ (q3c _)
   ·rw[q3p,q3p]
    rfl
theorem sc_summed:FnScope ["row","odd_turns","place","move"] ["row"] (Z0h (top 54)):=fS
theorem Y5e (F:FunAt K "check_summed" (top 54) .none)(X:K.In h)(G:Ng h mg)(B:Bs mg)(gM:mg "MOST_ODD_TURNS"=some (.int 6 tM))(cB:Cal P w K mg base k "is_odd_turn" ["move"] spOdd):Cal P w K mg base (k+1) "check_summed" ["row"] Y1e:=by
 have nd:=sc_summed.nd
 refine F.cal X G sc_summed (bnd1 λ_ _ _ _ _ _ _=>rfl) (λvs H Q E h=>?_) (λf cdv A outer s H vs Q E hr h=>?_)
 ·obtain⟨l,row,rfl,_⟩:=h;rfl
 obtain⟨l,row,rfl,⟨ps,hl,hrow⟩,l200,pn,kq⟩:=h
 have SL:SqL K H l (ps.map V.ref):=SqL.of hl
 have pl:ps.length=row.length:=by have:=Z3d hrow;rw[q0a] at this;exact this
 refine⟨_,(@Z0e _ _ _ _ _ (@Z0o _ _ 1 _ _ _ _ nd rfl (Or.inl rfl) Z0b rfl (.inl rfl))
  (@Z0g _ _ _ (Z1u PassesOwn.never rfl (Y0e rfl B.enumerate (Z0a (pv 0) Z0d)) (@Z2z _ _ _ _ _ _ rfl (@Z0v _ _ _ _ _ (@Z0m _ _ 2 _ nd rfl (Or.inl rfl) (by first | exact .inl rfl | exact .inr rfl)) (@Z0v _ _ _ _ _ (@Z0m _ _ 3 _ nd rfl (Or.inl rfl) (by first | exact .inl rfl | exact .inr rfl)) Z2f rfl) rfl) rfl rfl)
   (@Z1c _ _ _ _ _ (Z1b (Z1l (Z0n cB hr rfl (Z0a (pv 3) Z0d)))
    (@Z0g _ _ _ (@Z0o _ _ 1 _ _ _ _ nd rfl (Or.inl rfl) (Z0i Z1f (pv 1) Z0b) rfl (.inl rfl)))
    Z0r)
   (@Z0g _ _ _ (Z1b (PW.pt (Z2y (Z0q Z1j (Z0k Z0j (pv 3) Z0b (λ_ _=>rfl)) Z1h (nomark _)) (Z2n (Z0q Y2v (pv 1) (Z2s (v:=.int 6) rfl gM ⟨_,Z⟩) (nomark _)))))
    (@Z0g _ _ _ Z4r)
    Z0r)))))),?_⟩
 try dsimp only[cxK]
 refine⟨_,Z,l,_,Z,SL,Y2g (K:=K) (a:=l) (xs:=ps.map V.ref) (λi σ H'=>Same H H'/\NS row i/\∃ (v1 v2:Option V),σ=[some (.ref l),some (.int ((cO (row.take i):Nat):Int)),v1,v2])
  ⟨Same.refl _,NS.zero _,none,none,Z⟩ (λi σ H' _ e=>e.1.seq SL) ?_ ?_⟩
 ·rintro i x σ H1 T hx ⟨S1,hn,v1,v2,rfl⟩ hT
  rw[q0n] at hx
  obtain⟨q,hq,rfl⟩:=q0l.mp hx
  obtain⟨y,hy,ey⟩:=Z3v hrow hq
  have S2:=S1.trans (Z0f hT (.tup [.int i,.ref q]))
  refine⟨T,_,Z,SqT.of Z0c,Z,_,_,Z,_,_,Z,Z,?_⟩
  generalize upd H1 T (.tup [.int i,.ref q])=H2 at S2 ⊢
  have t1:cO (row.take (i+1))=cO (row.take i)+o1 y:=by rw[q1f,hy];exact Z3f _ _
  have ns1:(isX y || decide (6<cO (row.take i)+o1 y))=false:=by
   cases e:(isX y || decide (6<cO (row.take i)+o1 y)) with
   | false=>rfl
   | true=>rw[hn.stop hy e] at pn;cases pn
  have nx:=hn.next hy ns1
  refine⟨λσ' H'=>H2=H'/\σ'=[some (.ref l),some (.int ((cO (row.take (i+1)):Nat):Int)),some (.int i),some (.ref q)],?_,?_⟩
  ·refine⟨_,Z,q,y,Z,S2 _ _ ey,_,Z,blI (λho=>⟨_,Z,_,_,Z,Z,Z,?_⟩) (λho=>⟨Z,?_⟩)⟩
   ·rw[t1,o1,if_pos ho]
    rfl
   ·rw[t1,o1,if_neg (by rw[ho];decide)]
    rfl
  rintro σ' _ ⟨rfl,rfl⟩
  have SP:SqT K H2 q (.str (nm y)::(ns y).map V.int):=SqT.of (S2 _ _ ey)
  rw[q4q] at ns1
  refine⟨_,Z,q,_,_,.str (nm y),Z,Z,SP,at0m y,Z,_,Z,decI (λe=>absurd (V.str.inj e) (q3y ns1.1)) (λ_=>?_)⟩
  refine⟨_,Z,_,_,Z,Z,_,Z,decI (λe=>?_) (λ_=>⟨S2,nx,_,_,Z⟩)⟩
  have:=nx.le
  omega
 ·rintro σ H1 ⟨S1,hn,v1,v2,rfl⟩
  exact kq _ S1
end
end K55S
set_option maxHeartbeats 4000000
namespace K51
open Pc
end K51
namespace M54
open Pc K51
end M54
namespace M57
open Pc K51 M54
end M57
namespace M53
open Pc K51 M54 M57
end M53
namespace M82
open Pc K51 M54 M57 Ba
abbrev V4:=Int × Int × Int × Int
noncomputable def nx (v:V4):V4:=(-v.2.2.2,v.1,v.2.1,v.2.2.1)
variable {c:Nat}{f:Nat->A5}
theorem php:∀ (m n:Nat) (g:Nat->Nat),(∀ i,i<n->g i<m)->(∀ i j,i<n->j<n->g i=g j->i=j)->n<=m
 | 0,n,g,h,_=>by
  apply q7o
  intro hn
  exact absurd (h 0 hn) (q3d _)
 | m+1,n,g,h,inj=>by
  by_cases ex:∃ i,i<n/\g i=m
  ·obtain⟨i0,hi,e⟩:=ex
   have:=php m (n-1) (λi=>g (if i<i0 then i else i+1)) (λi hi'=>by
    show g (if i<i0 then i else i+1)<m
    have l:(if i<i0 then i else i+1)<n:=by split<;>omega
    have ne:(if i<i0 then i else i+1)≠i0:=by split<;>omega
    have a:=h _ l
    have b:g (if i<i0 then i else i+1)≠m:=λz=>ne (inj _ _ l hi (z.trans e.symm))
    omega) (λi j hi' hj' z=>by
    have l:(if i<i0 then i else i+1)<n:=by split<;>omega
    have l':(if j<i0 then j else j+1)<n:=by split<;>omega
    have:=inj _ _ l l' z
    split at this<;>split at this<;>omega)
   omega
  ·have:=php m n g (λi hi=>by
    have a:=h i hi
    have b:g i≠m:=λz=>ex ⟨i,hi,z⟩
    omega) inj
   omega
end M82
set_option maxHeartbeats 1000000
namespace K55S
open L2 Ba Am Pc M71
open K64 (top Bs At5 ValsK Z3b Z3i In2)
open M72 (V4 sm add En fl sw VOk)
open M75 (Mk)
open M84 (mul one z0 Te ts gt nmk)
noncomputable abbrev Zz:A5:=((0,0,0,0),0)
theorem Y1c {K:U0}{H:Hp}{p l:W9}{zs:List V}{kvs:List (List Key × V)}{o:HO}(h:SqT K H p zs)(e:H l=some (.dT kvs)):SqT K (upd H l o) p zs:=by
 rcases h with h | h
 ·left
  rcases h with h | ⟨o,h⟩
  ·exact .inl (by rw[Z0t (Z4v h e (by intro z;cases z))];exact h)
  ·exact .inr ⟨o,by rw[Z0t (Z4v h e (by intro z;cases z))];exact h⟩
 ·exact .inr h
theorem X1g {a b:Nat × Nat}(h:kk a=kk b):a=b:=by
 unfold kk at h
 injection h with h1 h2
 injection h2 with h2 _
 injection h1 with h1
 injection h2 with h2
 exact Prod.ext (by omega) (by omega)
theorem Y7p {kvs:List (List Key × V)}{k:List Key}(h:k ∉ kvs.map (·.1)):valV kvs k=none:=by
 unfold valV
 rw[Option.map_eq_none_iff,List.find?_eq_none]
 intro x hx z
 exact h (by rw[<-q2m z];exact q2j.mpr ⟨x,hx,Z⟩)
structure Dic (K:U0) (H:Hp) (kvs:List (List Key × V)) (ks:List (Nat × Nat)) (va:Nat × Nat->A5):Prop where
 keys:kvs.map (·.1)=ks.map kk
 vals:∀ k∈ks,∃ p,valV kvs (kk k)=some (.ref p)/\At5 K H p (va k)
theorem Dic.none {K:U0}{H:Hp}{kvs:List (List Key × V)}{ks:List (Nat × Nat)}{va:Nat × Nat->A5}(d:Dic K H kvs ks va){k:Nat × Nat}(h:k ∉ ks):valV kvs (kk k)=none:=Y7p (by
 rw[d.keys]
 intro z
 obtain⟨y,hy,e⟩:=q2j.mp z
 rw[X1g e] at hy
 exact h hy)
theorem Dic.same {K:U0}{H H':Hp}{kvs:List (List Key × V)}{ks:List (Nat × Nat)}{va:Nat × Nat->A5}(d:Dic K H kvs ks va)(s:Same H H'):Dic K H' kvs ks va:=⟨d.keys,λk hk=>by
 obtain⟨p,a,b⟩:=d.vals k hk
 exact⟨p,a,b.same s⟩⟩
theorem Dic.len {K:U0}{H:Hp}{kvs:List (List Key × V)}{ks:List (Nat × Nat)}{va:Nat × Nat->A5}(d:Dic K H kvs ks va):kvs.length=ks.length:=by
 have:=congrArg List.length d.keys
 rw[q0a,q0a] at this
 exact this
theorem Dic.vput {K:U0}{H:Hp}{kvs:List (List Key × V)}{ks:List (Nat × Nat)}{va:Nat × Nat->A5}{t p:W9}{kvs0:List (List Key × V)}{k0:Nat × Nat}{z:A5}{o:HO}(d:Dic K H kvs ks va)(ht:H t=some (.dT kvs0))(e:At5 K H p z){k:Nat × Nat}(hk:k∈ks∨k=k0) :
  ∃ q,valV (putK kvs (kk k0) (.ref p)) (kk k)=some (.ref q)/\At5 K (upd H t o) q (if k=k0 then z else va k):=by
 rw[Y7q]
 by_cases c:k=k0
 ·rw[if_pos (by rw[c]),if_pos c]
  exact⟨p,Z,Y1c e ht⟩
 ·rw[if_neg (λe=>c (X1g e)),if_neg c]
  rcases hk with hk | hk
  ·obtain⟨q,a,b⟩:=d.vals k hk
   exact⟨q,a,Y1c b ht⟩
  ·exact absurd hk c
theorem Dic.put {K:U0}{H:Hp}{kvs:List (List Key × V)}{ks:List (Nat × Nat)}{va:Nat × Nat->A5}{t p:W9}{kvs0:List (List Key × V)}{k0:Nat × Nat}{z:A5}{o:HO}(d:Dic K H kvs ks va)(ht:H t=some (.dT kvs0))(e:At5 K H p z) :
  Dic K (upd H t o) (putK kvs (kk k0) (.ref p)) (if k0∈ks then ks else ks++[k0]) (λk=>if k=k0 then z else va k):=by
 by_cases c:k0∈ks
 ·rw[if_pos c]
  refine⟨?_,λk hk=>d.vput ht e (.inl hk)⟩
  unfold putK
  obtain⟨q,a,_⟩:=d.vals k0 c
  rw[Z3u,a,if_pos (show (some (V.ref q)).isSome=true from rfl),q3p,<-d.keys]
  apply q6e
  intro kv _
  show (if kv.1=kk k0 then (kv.1,V.ref p) else kv).1=kv.1
  split<;>rfl
 ·rw[if_neg c]
  refine⟨?_,λk hk=>d.vput ht e ?_⟩
  ·rw[Y8b _ (d.none c),q0k,d.keys,q0k]
   rfl
  ·rcases q2g.mp hk with q | q
   ·exact .inl q
   ·exact .inr (q1e.mp q)
theorem X5y (n:Nat)(v:V4)(h:Int):vv (rot n v,h)=En n (vv (v,h)):=by
 show sm _ (rot n v)=En n (sm _ v)
 rw[X2p,M72.Y9y]
theorem X1w:vv Zz=z0:=rfl
theorem X1x {x y z:A5}(s:K64.Sum x.1.1 x.1.2.1 x.1.2.2.1 x.1.2.2.2 x.2 y.1.1 y.1.2.1 y.1.2.2.1 y.1.2.2.2 y.2 z.1.1 z.1.2.1 z.1.2.2.1 z.1.2.2.2 z.2)(x0:0<=x.2)(y0:0<=y.2)(x1:x.2<=60)(y1:y.2<=60):vv z=add (vv x) (vv y):=by
 have z1:z.2<=60:=by have:=s.le;omega
 have h:=Vl.add (s:=1) (Y2n x0 x1) (Y2n y0 y1) x0 y0 s.amt (by have:=s.same;simp only[q4y];exact this)
 rw[M72.Z6x] at h
 exact(Y2n s.amt.nn z1).uniq h
structure Gs (c j:Nat) (z:Prop) (T:List Tm) (ks:List (Nat × Nat)) (va:Nat × Nat->A5):Prop where
 nd:ks.Nodup
 len:ks.length<=j
 key:∀ k∈ks,k.1<2^c/\k.2<2^c/\(k=(0,0) ↔ z)
 ok:∀ k∈ks,Ok5 (300+85*j) 40 (va k)
 sum:∀ F w,ts (gt (λk=>vv (va k)) ks) F w=ts ((T.take j).map tv) F w
theorem X1b {kk' ff ss:Nat}{x:A5}(F:M72.Bv)(w:Nat):mul (vv (rot ((2*((kk':Int)-(pc (ff&&&ss):Nat)))%8).toNat x.1,x.2)) (M75.lay (nmk (ff,ss)) F w)=mul (vv x) (M75.lay (kk',ff,ss) F w):=by
 rw[X5y]
 exact M84.X4p (by omega) _ F w
theorem Gs.step {c j:Nat}{z:Prop}{T:List Tm}{ks:List (Nat × Nat)}{va:Nat × Nat->A5}(g:Gs c j z T ks va){x y:A5}{kk' ff ss:Nat}(ht:T[j]?=some (x,(kk',ff,ss)))(k4:ff<2^c/\ss<2^c/\((ff,ss)=(0,0) ↔ z))(oy:Ok5 (300+85*(j+1)) 40 y)
  (e:vv y=add (if (ff,ss)∈ks then vv (va (ff,ss)) else z0) (vv (rot ((2*((kk':Int)-(pc (ff&&&ss):Nat)))%8).toNat x.1,x.2))) :
  Gs c (j+1) z T (if (ff,ss)∈ks then ks else ks++[(ff,ss)]) (λk=>if k=(ff,ss) then y else va k):=by
 have tk:(T.take (j+1)).map tv=(T.take j).map tv++[tv (x,(kk',ff,ss))]:=by rw[q1f,ht,q0k];rfl
 have ts1:∀ F w,ts ((T.take (j+1)).map tv) F w=add (ts ((T.take j).map tv) F w) (mul (vv x) (M75.lay (kk',ff,ss) F w)):=λF w=>by
  rw[tk,M84.Z5y]
  show add _ (add _ z0)=_
  rw[M84.Y3n]
  rfl
 have oth:∀ k,k≠(ff,ss)->vv (if k=(ff,ss) then y else va k)=vv (va k):=λk hk=>by rw[if_neg hk]
 have own:∀ k,k=(ff,ss)∨k∈ks->Ok5 (300+85*(j+1)) 40 (if k=(ff,ss) then y else va k):=λk hk=>by
  by_cases q:k=(ff,ss)
  ·rw[if_pos q];exact oy
  ·rw[if_neg q]
   rcases hk with hk | hk
   ·exact absurd hk q
   ·exact(g.ok k hk).mono (by omega) (by omega)
 by_cases m:(ff,ss)∈ks
 ·rw[if_pos m] at e ⊢
  refine⟨g.nd,by have:=g.len;omega,g.key,λk hk=>own k (.inr hk),λF w=>?_⟩
  rw[ts1,<-g.sum,<-X1b F w]
  refine M84.X1l (val:=λk=>vv (va k)) oth ?_ F w g.nd m
  show vv (if (ff,ss)=(ff,ss) then y else va (ff,ss))=_
  rw[if_pos rfl,e]
 ·rw[if_neg m] at e ⊢
  refine⟨List.nodup_append.mpr ⟨g.nd,by simp,λa ha b hb=>by rw[q1e.mp hb];exact λq=>m (by rw[<-q];exact ha)⟩,by have:=g.len;simp;omega,λk hk=>?_,λk hk=>own k ?_,λF w=>?_⟩
  ·rcases q2g.mp hk with q | q
   ·exact g.key k q
   ·rw[q1e.mp q];exact k4
  ·rcases q2g.mp hk with q | q
   ·exact .inr q
   ·exact .inl (q1e.mp q)
  ·rw[ts1,<-g.sum,<-X1b F w,M84.X7x (val:=λk=>vv (va k)) m oth]
   congr 2
   show vv (if (ff,ss)=(ff,ss) then y else va (ff,ss))=_
   rw[if_pos rfl,e,M84.Y7m]
theorem few {c j:Nat}{z:Prop}{T:List Tm}{ks:List (Nat × Nat)}{va:Nat × Nat->A5}(g:Gs c j z T ks va)(h:c<=3∨j<=4):ks.length<64:=by
 have gl:=g.len
 rcases h with h | h
 ·have p8:2^c<=8:=q1x (by decide) h
  have get:∀ i,(hi:i<ks.length)->ks.getD i (0,0)=ks[i]:=λi hi=>by rw[q0i,q0d hi];rfl
  have inj:∀ i j,i<ks.length->j<ks.length->ks.getD i (0,0)=ks.getD j (0,0)->i=j:=λi j hi hj e=>by
   rw[get i hi,get j hj] at e
   have pw:=q2p.mp g.nd
   rcases q7c i j with q | q | q
   ·exact absurd e (pw i j _ _ q)
   ·exact q
   ·exact absurd e.symm (pw j i _ _ q)
  have bd:∀ i,i<ks.length->(ks.getD i (0,0)).1<8/\(ks.getD i (0,0)).2<8/\(ks.getD i (0,0)=(0,0) ↔ z):=λi hi=>by
   rw[get i hi]
   obtain⟨a,b,c⟩:=g.key _ (q3w hi)
   exact⟨by omega,by omega,c⟩
  by_cases hz:z
  ·have:=M82.php 1 ks.length (λi=>(ks.getD i (0,0)).1) (λi hi=>by have:=(bd i hi).2.2.mpr hz;show (ks.getD i (0,0)).1<1;rw[this];decide) (λi j hi hj _=>inj i j hi hj (by rw[(bd i hi).2.2.mpr hz,(bd j hj).2.2.mpr hz]))
   omega
  ·have nz:∀ i,i<ks.length->0<(ks.getD i (0,0)).1*8+(ks.getD i (0,0)).2:=λi hi=>by
    apply Nat.pos_of_ne_zero
    intro q
    exact hz ((bd i hi).2.2.mp (Prod.ext (by show (ks.getD i (0,0)).1=0;omega) (by show (ks.getD i (0,0)).2=0;omega)))
   have:=M82.php 63 ks.length (λi=>(ks.getD i (0,0)).1*8+(ks.getD i (0,0)).2-1) (λi hi=>by have:=bd i hi;show (ks.getD i (0,0)).1*8+(ks.getD i (0,0)).2-1<63;omega) (λi j hi hj e=>inj i j hi hj (by
    have a:=bd i hi
    have b:=bd j hj
    have n1:=nz i hi
    have n2:=nz j hj
    have e:(ks.getD i (0,0)).1*8+(ks.getD i (0,0)).2-1=(ks.getD j (0,0)).1*8+(ks.getD j (0,0)).2-1:=e
    exact Prod.ext (by omega) (by omega)))
   omega
 ·omega
noncomputable abbrev key (k:Nat × Nat):Nat:=k.1*64+k.2
structure Gd (c:Nat) (T R:List Tm):Prop where
 up:R.Pairwise λa b=>key a.2.2<key b.2.2
 ok:∀ t∈R,Ok5 6000 40 t.1/\OkK c t.2/\t.1≠Zz/\t.2.1=pc (t.2.2.1&&&t.2.2.2)%4
 len:R.length<=T.length
 sum:∀ F w,ts (R.map tv) F w=ts (T.map tv) F w
def spGath (K:U0):Sp:=λvs H Q _=>∃ (l:W9) (ps:U3) (T:List Tm) (c i:Nat) (z:Prop),vs=[.ref l]/\Tms K H l ps T/\OkT c i z T/\i<=40/\c<=6/\T.length<=64/\(c<=3∨T.length<=4) ∧
 ∀ (r:W9) (H':Hp) (qs:U3) (R:List Tm),H r=none->Same H H'->Tms K H' r qs R->Gd c T R->Q (.ref r) H'
theorem W0f {c:Nat}{z:Prop}{T:List Tm}{ks ks':List (Nat × Nat)}{va:Nat × Nat->A5}(c6:c<=6)(g:Gs c T.length z T ks va)(l64:T.length<=64)(p:ks'.Perm ks)(up:ks'.Pairwise λa b=>a.1*64+a.2<b.1*64+b.2):Gd c T ((ks'.filter λk=>decide (va k≠Zz)).map λk=>(va k,nmk k)):=by
 refine⟨?_,λt ht=>?_,?_,λF w=>?_⟩
 ·rw[q5o]
  exact up.filter _
 ·obtain⟨k,hk,rfl⟩:=q2j.mp ht
  obtain⟨m,nz⟩:=q4d.mp hk
  have mk:=p.mem_iff.mp m
  obtain⟨a,b,_⟩:=g.key k mk
  exact⟨(g.ok k mk).mono (by omega) (by decide),⟨q7b _ (by decide),a,b⟩,q2m nz,Z⟩
 ·rw[q0a]
  exact q1m (q4e _ _) (by rw[p.length_eq];exact g.len)
 ·have e:=g.sum F w
  rw[q2a] at e
  rw[<-e,<-M84.X2a F w (p.map λk=>(vv (va k),nmk k)),q3p]
  show ts ((ks'.filter λk=>decide (va k≠Zz)).map λk=>(vv (va k),nmk k)) F w=_
  clear e up p
  induction ks' with
  | nil=>rfl
  | cons k r ih =>
   by_cases q:va k=Zz
   ·rw[q7l (by simpa using q),ih]
    show _=add (mul (vv (va k)) _) _
    rw[q,X1w,M84.Y7l,M84.Y7m]<;>rfl
   ·rw[q7k (by simpa using q)]
    show add _ _=add _ _
    rw[ih]<;>rfl
abbrev KyAt (H:Hp)(b:W9)(k:Nat × Nat):Prop:=H b=some (.tup [.int (k.1:Int),.int (k.2:Int)])
theorem l5_zz {x:A5}:l5 x=[0,0,0,0,0] ↔ x=Zz:=by
 obtain⟨⟨a,b,c,d⟩,h⟩:=x
 constructor
 ·intro e
  have e:[a,b,c,d,h]=[0,0,0,0,0]:=e
  injection e with e1 e
  injection e with e2 e
  injection e with e3 e
  injection e with e4 e
  injection e with e5 _
  subst e1 e2 e3 e4 e5
  rfl
 ·intro e
  rw[e]
  rfl
theorem cut13 (a b c:V):¬ (HT.sIx [a,b,c].length 0 (some 1)=0/\HT.sIx [a,b,c].length [a,b,c].length none=[a,b,c].length):=by
 show ¬ (HT.sIx 3 0 (some 1)=0/\HT.sIx 3 3 none=3)
 decide
section
variable {P:U8}{w:W1}{K:U0}{mg:U4}{base:Heap}{k:Nat}{h:Heap}
theorem sc_gath:FnScope ["terms","totals","one","mark","words","unspun","left"] ["terms"] (Z0h (top 57)):=fS
theorem X3u (F:FunAt K "gathered" (top 57) .none)(X:K.In h)(G:Ng h mg)(B:Bs mg){aZ:W9}(gZ:mg "NOUGHT"=some (.ref aZ))(kZ:∀ H,At5 K H aZ ((0,0,0,0),0))(cG:Cal P w K mg base k "spun" ["one","k"] (Z3b K))(dZ:Cal P w K mg base k "ones" ["number"] spOnes)(cM:Cal P w K mg base k "plus" ["one","other"] (Z3i K)) :
  Cal P w K mg base (k+1) "gathered" ["terms"] (spGath K):=by
 have nd:=sc_gath.nd
 refine F.cal X G sc_gath (bnd1 λ_ _ _ _ _ _ _=>rfl) (λvs H Q E h=>?_) (λf cdv A outer s H vs Q E hr h=>?_)
 ·obtain⟨l,ps,T,c,i,z,rfl,_⟩:=h;rfl
 obtain⟨l,ps,T,c,i,z,rfl,TM,OT,i40,c6,T64,c3,kq⟩:=h
 have lp:=Z4b TM.tms
 have sl:(100:Nat)<sizeLine:=by decide
 have oz:Ok5 1 0 Zz:=⟨⟨by decide +kernel,by decide +kernel,by decide +kernel,by decide +kernel⟩,⟨q1r 0,.inl rfl⟩,q1r 0⟩
 refine⟨_,(@Z0e _ _ _ _ _ (@Z0o _ _ 1 _ _ _ _ nd rfl (Or.inr rfl) Y8d rfl (.inl rfl))
  (@Z0e _ _ _ _ _ (Z1u PassesOwn.never rfl (Z1r (pv 0)) (@Z2z _ _ _ _ _ _ rfl (@Z0v _ _ _ _ _ (@Z0m _ _ 2 _ nd rfl (Or.inl rfl) (by first | exact .inl rfl | exact .inr rfl)) (@Z0v _ _ _ _ _ (@Z0m _ _ 3 _ nd rfl (Or.inl rfl) (by first | exact .inl rfl | exact .inr rfl)) Z2f rfl) rfl) rfl rfl)
   (@Z0e _ _ _ _ _ (@Z0o _ _ 4 _ _ _ _ nd rfl (Or.inl rfl) (Z1s Z3j (pv 3) (Z1v Z0b) Z2m) rfl (.inl rfl))
   (@Z0e _ _ _ _ _ (@Z0o _ _ 5 _ _ _ _ nd rfl (Or.inl rfl) (Z0n cG hr rfl (Z0a (pv 2) (Z0a (Z0i Z3h Z0b (Z0i Z1t (Z0k Z0j (pv 3) Z0b (λ_ _=>rfl)) (Z0n dZ hr rfl (Z0a (Z0i Z1n (Z0k Z0j (pv 3) Z0b (λ_ _=>rfl)) (Z0k Z0j (pv 3) Z0b (λ_ _=>rfl))) Z0d)))) Z0d))) rfl (.inl rfl))
   (@Z0g _ _ _ (X2x (Y9j hr) (pv 1) (pv 4) (Z0n cM hr rfl (Z0a (Y8e (Y9j hr) (pv 1) (pv 4) (Z2s (v:=.ref aZ) rfl gZ rfl) ⟨Z,Z,Z,Z⟩) (Z0a (pv 5) Z0d))) rfl)))))
  (@Z0e _ _ _ _ _ (Z6d (i:=6) rfl nd rfl rfl (LcOk.of (Nc:=["words","totals"]) (mp:=[none,some 1]) (by kernel_rfl)) (Z1r (Z0p (Z9o rfl) rfl B.sorted boot_sorted (Z0a (pv 1) Z0d))) (λ_ _ _ _=>(Z0m (i:=0) (show (["words","totals"]:W0).Nodup by decide +kernel) rfl (Or.inl rfl))) (λ_ _ _ _=>(Z0q (Y8f hr.units) (Y4t (Y9j hr) (pv 1) (pv 0) (λ_ _=>rfl)) (Z2s (v:=.ref aZ) rfl gZ rfl) (nomark _))) (λ_ _ _ _=>(pv 0)) rfl)
  (@Z0g _ _ _ (Z0l (Z4i rfl (LcOk.of (Nc:=["f","s","totals"]) (mp:=[none,none,some 1]) (by kernel_rfl)) (Z1r (pv 6)) (λ_ _ _ _=>(Z4t rfl (show (["f","s","totals"]:W0).Nodup by decide +kernel) rfl rfl rfl rfl)) (λ_ _ _ _=>(@Z0y _ _ _ _ _ (Z0a (Y4t (Y9j hr) (pv 2) (@Z0y _ _ _ _ _ (Z0a (pv 0) (Z0a (pv 1) Z0d))) (λ_ _=>rfl)) (Z0a (@Z0y _ _ _ _ _ (Z0a (Z0i Z0x (Z0n dZ hr rfl (Z0a (Z0i Z1n (pv 0) (pv 1)) Z0d)) Z0b) (Z0a (pv 0) (Z0a (pv 1) Z0d)))) Z0d)))))))))),?_⟩
 try dsimp only[cxK]
 refine λtd htd=>?_
 have s0:=Z0f htd (.dT [])
 refine⟨_,Z,l,Z,⟨_,s0.seq (SqL.of TM.lst)⟩,Z3y (K:=K) (a:=l) (xs:=ps.map V.ref) (λj σ H'=>Same H H'/\∃ (kvs:List (List Key × V)) (ks:List (Nat × Nat)) (va:Nat × Nat->A5) (v2 v3 v4 v5:Option V),H' td=some (.dT kvs)/\Dic K H' kvs ks va/\Gs c j z T ks va/\σ=[some (.ref l),some (.ref td),v2,v3,v4,v5,none])
  ⟨s0,[],[],(λ_=>Zz),none,none,none,none,Z0c,⟨Z,λk hk=>by cases hk⟩,⟨List.nodup_nil,q1d _,(λk hk=>by cases hk),(λk hk=>by cases hk),λF w=>by rw[q8q];rfl⟩,Z⟩ (λj σ H' _ e=>e.1.seq (SqL.of TM.lst)) ?_ ?_⟩
 ·rintro j x σ H1 hx ⟨S1,kvs,ks,va,v2,v3,v4,v5,hd1,D1,G1,rfl⟩
  rw[q0n] at hx
  obtain⟨p,hp,rfl⟩:=q0l.mp hx
  obtain⟨t,ht,pa,pb,ep,ea,eb⟩:=Z3l TM.tms hp
  have tm:=q0w ht
  have jl:j<T.length:=(q0o.mp ht).1
  obtain⟨x1,kk',ff,ss⟩:=t
  obtain⟨ok1,ok2⟩:Ok5 (1+7*i) ((i:Nat):Int) x1/\OkK c (kk',ff,ss):=OT.ok _ tm
  have ky:(ff,ss)=(0,0) ↔ z:=OT.ky _ tm
  have eb1:SqT K H1 pb (mkL (kk',ff,ss)):=S1.tup eb
  have xl:x1.2<=((i:Nat):Int):=ok1.le
  refine⟨p,_,Z,SqT.of (S1 _ _ ep),Z,_,_,Z,_,_,Z,Z,?_⟩
  refine⟨_,Z,1,Z,pb,_,Z,eb1,.inr ⟨cut13 _ _ _,λtw htw=>?_⟩⟩
  rw[Z5g]
  have s2:=Z0f htw (.tup [V.int (ff:Int),V.int (ss:Int)])
  have q2:upd H1 tw (.tup [V.int (ff:Int),V.int (ss:Int)]) tw=some (.tup ((kk (ff,ss)).map kV)):=Z0c
  have hd2:=s2 _ _ hd1
  generalize upd H1 tw (.tup [V.int (ff:Int),V.int (ss:Int)])=H2 at s2 q2 hd2 ⊢
  have eb2:=s2.tup eb1
  refine⟨_,Z,_,Z,pb,_,_,.int kk',Z,Z,eb2,k0,_,Z,pb,_,_,.int ff,Z,Z,eb2,k1,_,Z,pb,_,_,.int ss,Z,Z,eb2,k2,_,_,Z,Z,ff&&&ss,Z6e,_,_,Z,Z,_,_,Z,Z,.inl ⟨by decide,by decide⟩,?_⟩
  refine⟨pa,x1.1.1,x1.1.2.1,x1.1.2.2.1,x1.1.2.2.2,x1.2,_,Z,ea.same (S1.trans s2),λr3 H3 S3 e3=>?_⟩
  have hd3:=S3 _ _ hd2
  have D3:=(D1.same s2).same S3
  obtain⟨pO,xO,eO,aO,oO,vO⟩:∃ (pO:W9) (xO:A5),(valV kvs (kk (ff,ss))).getD (.ref aZ)=.ref pO/\At5 K H3 pO xO/\Ok5 (300+85*j) 40 xO/\vv xO=(if (ff,ss)∈ks then vv (va (ff,ss)) else z0):=by
   by_cases m:(ff,ss)∈ks
   ·obtain⟨p,a,b⟩:=D3.vals _ m
    exact⟨p,_,by rw[a];rfl,b,G1.ok _ m,by rw[if_pos m]⟩
   ·exact⟨aZ,Zz,by rw[D3.none m];rfl,kZ _,oz.mono (by omega) (by decide),by rw[if_neg m];rfl⟩
  have hy:∀ y,y=rot ((2*((kk':Int)-(pc (ff&&&ss):Nat)))%8).toNat x1.1->At5 K H3 r3 (y,x1.2):=λy e=>by rw[e];exact e3
  have o3:Ok5 (1+7*i) ((i:Nat):Int) (rot ((2*((kk':Int)-(pc (ff&&&ss):Nat)))%8).toNat x1.1,x1.2):=Z6f ok1 _
  refine⟨_,Z,td,Z,.inr ⟨_,.inl hd3⟩,_,Z,_,DGet.t hd3 (S3 _ _ q2),_,Z,?_⟩
  rw[eO]
  have oOl:xO.2<=40:=oO.le
  have oOn:=oO.amt.nn
  have o3n:0<=x1.2:=ok1.amt.nn
  refine⟨300+85*j,pO,r3,xO.1.1,xO.1.2.1,xO.1.2.2.1,xO.1.2.2.2,xO.2,_,_,_,_,x1.2,⟨Z,aO,e3,oOn,o3n,by omega,by omega,oO.sz,o3.sz.mono (by omega)⟩,λr4 H4 a4 b4 c4 d4 g4 S4 e4 s4 z4=>?_⟩
  have o4:Ok5 (300+85*(j+1)) 40 ((a4,b4,c4,d4),g4):=⟨z4.mono (by omega),s4.amt,by have:=s4.le;show g4<=40;omega⟩
  have hd4:=S4 _ _ hd3
  refine⟨_,Z,_,Z,td,_,Z,DPut.t hd4 (S4 _ _ (S3 _ _ q2)) (by rw[D1.len];have:=G1.len;omega),?_⟩
  have S14:=(s2.trans S3).trans S4
  refine⟨Z1a (S1.trans S14) htd,_,_,_,_,_,_,_,Z0c,(D3.same S4).put (z:=((a4,b4,c4,d4),g4)) hd4 (At5.of e4),G1.step ht ⟨ok2.f,ok2.s,ky⟩ o4 ?_,Z⟩
  rw[<-vO]
  exact X1x (x:=xO) (y:=(rot ((2*((kk':Int)-(pc (ff&&&ss):Nat)))%8).toNat x1.1,x1.2)) (z:=((a4,b4,c4,d4),g4)) s4 oOn o3n (by omega) (by show x1.2<=60;omega)
 ·rintro σ H1 ⟨S1,kvs,ks,va,v2,v3,v4,v5,hd1,D1,G1,rfl⟩
  rw[q0a,lp] at G1
  have k64:=few G1 c3
  have p6:=pow6 c6
  refine⟨_,Z,td,kvs,ks,Z,hd1,D1.keys,by rw[D1.len];exact k64,(λk hk=>by have:=(G1.key k hk).2.1;omega),λls bs ks' hls pm up pb=>?_⟩
  have s2:=Z0f hls (.lst (bs.map V.ref))
  have q2:upd H1 ls (.lst (bs.map V.ref)) ls=some (.lst (bs.map V.ref)):=Z0c
  have lb:=Z4b pb
  have kl:ks'.length=ks.length:=pm.length_eq
  have P2:Paired (KyAt (upd H1 ls (.lst (bs.map V.ref)))) bs ks':=Z4s (λ_ _ e=>s2 _ _ e) pb
  generalize upd H1 ls (.lst (bs.map V.ref))=H2 at s2 q2 P2 ⊢
  have D2:=D1.same s2
  have hd2:=s2 _ _ hd1
  refine⟨ls,Z,⟨_,SqL.of q2⟩,λacc hacc=>?_⟩
  refine Y9d (K:=K) (l:=ls) (xs:=bs.map V.ref) (fr:=[some (.ref td)]) (λi ys H'=>Same H2 H'/\H' acc=some (.lst ys)/\∃ cs:List Addr,ys=cs.map V.ref/\Paired (KyAt H') cs ((ks'.take i).filter λk=>decide (va k≠Zz))) (by rw[q0a];omega) ⟨Z0f hacc _,Z0c,[],Z,.nil⟩ (λi ys H' e=>e.1.seq (SqL.of q2)) ?_ (λ{σ H R R'} m q=>by obtain⟨v,a,b⟩:=q;exact⟨v,a,m _ _ b⟩) ?_
  ·rintro i x ys H3 N hx hy ⟨S3,a3,cs,rfl,P3⟩ kN
   rw[q0n] at hx
   obtain⟨b,hb,rfl⟩:=q0l.mp hx
   obtain⟨kx,hk,ek⟩:=Z3l P2 hb
   have mk:=pm.mem_iff.mp (q0w hk)
   obtain⟨pv',hv,av⟩:=D2.vals kx mk
   have ek3:H3 b=some (.tup ((kk kx).map kV)):=S3 _ _ ek
   refine⟨_,Z,_,Z,td,.ref pv',Z,?_,?_⟩
   ·rw[<-hv]
    exact DGet.t (S3 _ _ hd2) ek3
   refine⟨pv',aZ,l5 (va kx),l5 Zz,Z,Z,av.same S3,kZ _,_,Z,?_⟩
   have tk:ks'.take (i+1)=ks'.take i++[kx]:=by rw[q1f,hk];rfl
   refine kN _ _ (λhb'=>⟨_,Z,a3,Z1a S3 hacc,Z0c,cs++[b],by rw[q0k];rfl,?_⟩) (λhb'=>⟨S3,a3,cs,Z,?_⟩)
   ·have nz:va kx≠Zz:=λe=>by rw[e] at hb';exact absurd hb' (by decide)
    rw[tk,q3i,q7k (by simpa using nz)]
    exact Z4h (Z4s (λ_ _ e=>by show upd _ _ _ _=_;rw[Z0t (Z4v e a3 (by intro z;cases z))];exact e) P3) (by show upd _ _ _ _=_;rw[Z0t (Z4v ek3 a3 (by intro z;cases z))];exact ek3)
   ·have nz:va kx=Zz:=Classical.byContradiction λe=>by
     have:decide (l5 (va kx)=l5 Zz)=false:=q0j λq=>e (l5_zz.mp q)
     rw[this] at hb'
     exact absurd hb' (by decide)
    rw[tk,q3i,q7l (by simpa using nz),List.filter_nil,q3e]
    exact P3
  ·rintro ys H3 ⟨S3,a3,cs,rfl,P3⟩
   rw[q0a,lb,q2a] at P3
   have lc:=Z4b P3
   have lf:(ks'.filter λk=>decide (va k≠Zz)).length<=ks'.length:=q4e _ _
   have D3:=D2.same S3
   have hd3:=S3 _ _ hd2
   refine⟨_,Z,acc,Z,⟨_,SqL.of a3⟩,λac2 hac2=>?_⟩
   refine Y2b (K:=K) (a:=acc) (xs:=cs.map V.ref) (fr:=[some (.ref td)]) (λj ys H'=>Same H3 H'/\H' ac2=some (.lst ys)/\∃ qs,ys=qs.map V.ref/\Paired (TmAt K H') qs ((((ks'.filter λk=>decide (va k≠Zz))).take j).map λk=>(va k,nmk k))) (by rw[q0a];omega) ⟨Z0f hac2 _,Z0c,[],Z,.nil⟩ (λj ys H' e=>e.1.seq (SqL.of a3)) ?_ ?_
   ·rintro j v ys H4 N w1 w2 hx hy ⟨S4,a4,qs,rfl,P4⟩ kN
    rw[q0n] at hx
    obtain⟨b,hb,rfl⟩:=q0l.mp hx
    obtain⟨kx,hk,ek⟩:=Z3l P3 hb
    have mk:=pm.mem_iff.mp (q4d.mp (q0w hk)).1
    obtain⟨pv',hv,av⟩:=D3.vals kx mk
    refine⟨b,_,Z,SqT.of (S4 _ _ ek),Z,_,_,Z,_,_,Z,Z,?_⟩
    refine⟨_,Z,_,Z,_,Z,t2,λtq htq=>?_⟩
    have s5:=Z0f htq (.tup [V.int (kx.1:Int),V.int (kx.2:Int)])
    have q5:upd H4 tq (.tup [V.int (kx.1:Int),V.int (kx.2:Int)]) tq=some (.tup ((kk kx).map kV)):=Z0c
    generalize upd H4 tq (.tup [V.int (kx.1:Int),V.int (kx.2:Int)])=H5 at s5 q5 ⊢
    have S35:=S4.trans s5
    refine⟨td,.ref pv',Z,?_,?_⟩
    ·rw[<-hv]
     exact DGet.t (S35 _ _ hd3) q5
    refine⟨_,Z,_,Z,_,_,Z,Z,kx.1&&&kx.2,Z6e,_,_,Z,Z,(by decide:(0:Int)<4),_,Z,_,Z,t3,λtm htm=>⟨t2,λtp htp=>?_⟩⟩
    have s6:=Z0f htm (.tup (mkL (nmk kx)))
    have s7:=Z0f htp (.tup [.ref pv',.ref tm])
    have S57:=s6.trans s7
    have S37:=S35.trans S57
    have q7:=(s5.trans S57) _ _ a4
    have e7:TmAt K (upd (upd H5 tm (.tup (mkL (nmk kx)))) tp (.tup [.ref pv',.ref tm])) tp (va kx,nmk kx):=⟨pv',tm,Z0c,av.same S37,SqT.of (s7 _ _ Z0c)⟩
    refine kN _ _ _ _ q7 ⟨Z1a S37 hac2,Z0c,qs++[tp],by rw[q0k];rfl,?_⟩
    rw[q1f,hk,q3g,q0k]
    exact Z4h (Z4s (λ_ _ y=>(y.same (s5.trans S57)).upd q7) P4) (e7.upd q7)
   ·rintro ys H4 hy ⟨S4,a4,qs,rfl,P4⟩
    rw[q0a,lc,q2a] at P4
    exact kq ac2 H4 qs _ (Z5u (((S1.trans s2).trans S3)) hac2) (((S1.trans s2).trans S3).trans S4) ⟨a4,P4⟩ (W0f c6 G1 T64 pm up)
end
end K55S
namespace K55S
open L2 Ba Am Pc M71
open K64 (top Bs At5 ValsK)
open M72 (V4 sm add En fl sw VOk)
open M75 (Mk)
open M84 (mul one z0 Te ts gt nmk Sums)
def spBack (K:U0):Sp:=λvs H Q _=>∃ (pm l:W9) (m:Mk) (row:List Mv) (c:Nat),vs=[.ref pm,.ref l]/\SqT K H pm (mkL m)/\RowAt H l row/\OkK c m/\c<=6/\(∀ x∈row,VOk c x)/\row.length<=30/\plc 0 row=none/\(c<=3∨cO row<=2) ∧
 ∀ (r:W9) (H':Hp) (qs:U3) (R T:List Tm),H r=none->Same H H'->Tms K H' r qs R->Gd c T R->Sums 60 m row (T.map tv)->T.length<=2^cO row->Q (.ref r) H'
theorem X4v {row:List Mv}{i:Nat}{x:Mv}(h:i<row.length)(hx:row[row.length-1-i]?=some x):row.drop (row.length-(i+1))=x::row.drop (row.length-i):=by
 have e:row.length-(i+1)=row.length-1-i:=by omega
 obtain⟨hl,he⟩:=q0o.mp hx
 rw[e,q6w hl,he]
 congr 2
 omega
theorem X4y (row:List Mv)(n:Nat):cO (row.drop n)<=cO row:=by
 have e:row=row.take n++row.drop n:=(List.take_append_drop n row).symm
 unfold cO
 conv=>rhs;rw[e]
 rw[q3i,q0x]
 omega
section
variable {P:U8}{w:W1}{K:U0}{mg:U4}{base:Heap}{k:Nat}{h:Heap}
theorem sc_back:FnScope ["mark","row","terms","move"] ["mark","row"] (Z0h (top 53)):=fS
theorem X4a (F:FunAt K "back_sum" (top 53) .none)(X:K.In h)(G:Ng h mg)(B:Bs mg){aO:W9}(gO:mg "ONE"=some (.ref aO))(kO:∀ H,At5 K H aO ((1,0,0,0),0))(d9:Cal P w K mg base k "check_summed" ["row"] Y1e)(dF:Cal P w K mg base k "terms_ahead" ["terms","move"] (Y4h K))(dU:Cal P w K mg base k "gathered" ["terms"] (spGath K)) :
  Cal P w K mg base (k+1) "back_sum" ["mark","row"] (spBack K):=by
 have nd:=sc_back.nd
 refine F.cal X G sc_back (bnd2 λ_ _ _ _ _ _ _ _=>rfl) (λvs H Q E h=>?_) (λf cdv A outer s H vs Q E hr h=>?_)
 ·obtain⟨pm,l,m,row,c,rfl,_⟩:=h;rfl
 obtain⟨pm,l,m,row,c,rfl,hm,R0,om,c6,vo,l30,pn,c3,kq⟩:=h
 obtain⟨nx,o6⟩:=Z7z pn (q1d _)
 rw[q3o] at o6
 obtain⟨rp,hl,hrow⟩:=id R0
 have lr:rp.length=row.length:=by have:=Z3d hrow;rw[q0a] at this;exact this
 refine⟨_,(@Z0e _ _ _ _ _ (Z2v (Z0n d9 hr rfl (Z0a (pv 1) Z0d)))
  (@Z0e _ _ _ _ _ (@Z0o _ _ 2 _ _ _ _ nd rfl (Or.inl rfl) (@Z2r _ _ _ _ (Z0a (@Z0y _ _ _ _ _ (Z0a (Z2s (v:=.ref aO) rfl gO rfl) (Z0a (pv 0) Z0d))) Z0d)) rfl (.inl rfl))
  (@Z0e _ _ _ _ _ (Z1u PassesOwn.never rfl (X6j rfl B.reversed (Z0a (pv 1) Z0d)) (Z0m (i:=3) nd rfl (Or.inl rfl))
   (@Z0g _ _ _ (@Z0o _ _ 2 _ _ _ _ nd rfl (Or.inl rfl) (Z0n dF hr rfl (Z0a (pv 2) (Z0a (pv 3) Z0d))) rfl (.inl rfl))))
  (@Z0g _ _ _ (Z0l (Z0n dU hr rfl (Z0a (pv 2) Z0d))))))),?_⟩
 try dsimp only[cxK]
 refine⟨_,Z,l,row,Z,R0,by omega,pn,λH1 S1=>?_⟩
 refine⟨_,Z,t2,λtp htp=>⟨(show 1<=sizeLine by decide),λl2 hl2=>?_⟩⟩
 have s2:=Z0f htp (.tup [.ref aO,.ref pm])
 have s3:=s2.trans (Z0f hl2 (.lst [V.ref tp]))
 have q3:upd (upd H1 tp (.tup [.ref aO,.ref pm])) l2 (.lst [V.ref tp]) l2=some (.lst [V.ref tp]):=Z0c
 have e3:TmAt K (upd (upd H1 tp (.tup [.ref aO,.ref pm])) l2 (.lst [V.ref tp])) tp (((1,0,0,0),0),m):=⟨aO,pm,(Z0f hl2 _) _ _ Z0c,kO _,(S1.trans s3).tup hm⟩
 generalize upd (upd H1 tp (.tup [.ref aO,.ref pm])) l2 (.lst [V.ref tp])=H3 at s3 q3 e3 ⊢
 have S3:=S1.trans s3
 have o1':Ok5 1 0 (((1,0,0,0),0):A5):=⟨⟨by decide +kernel,by decide +kernel,by decide +kernel,by decide +kernel⟩,⟨q1r 0,.inl rfl⟩,q1r 0⟩
 refine⟨_,Z,l,_,Z,SqL.of (S3 _ _ hl),X4u (K:=K) (a:=l) (xs:=rp.map V.ref) (λi σ H'=>Same H H'/\∃ (lt:W9) (ps:U3) (T:List Tm) (v3:Option V),Tms K H' lt ps T/\OkT c i (m.2=(0,0)) T/\T.length<=2^cO (row.drop (row.length-i))/\Sums 60 m (row.drop (row.length-i)) (T.map tv)/\σ=[some (.ref pm),some (.ref l),some (.ref lt),v3])
  ⟨S3,l2,[tp],[(((1,0,0,0),0),m)],none,⟨q3,.cons e3 .nil⟩,OkT.one o1' om Iff.rfl,?_,?_,Z⟩ (λi σ H' _ e=>e.1.seq (SqL.of hl)) ?_ ?_⟩
 ·rw[Nat.sub_zero,q7q]
  exact q0f 1
 ·rw[Nat.sub_zero,q7q]
  exact M84.Y7y 60 m
 ·rintro i x σ H4 hx ⟨S4,lt,ps,T,v3,TM,OT,lT,SU,rfl⟩
  have ilt:i<row.length:=by
   have:=(q0o.mp hx).1
   rw[List.length_reverse,q0a] at this
   omega
  rw[q8l (by rw[q0a];omega),q0n,q0a,lr] at hx
  obtain⟨p,hp,rfl⟩:=q0l.mp hx
  obtain⟨y,hy,ey⟩:=Z3v hrow hp
  have dr:=X4v ilt hy
  have my:=q0w hy
  have t64:2^cO (row.drop (row.length-i))<=2^6:=q1x (by decide) (q1m (X4y _ _) o6)
  refine⟨_,Z,_,Z,lt,p,ps,T,y,c,i,_,Z,TM,by omega,OT,by omega,c6,S4 _ _ ey,vo y my,nx y my,λr H5 qs T' S5 TM5 OT5 l5 ah=>?_⟩
  refine⟨S4.trans S5,r,qs,T',_,TM5,OT5,?_,?_,Z⟩
  ·rw[dr,Y7d,Nat.pow_add]
   exact q1m l5 (Nat.mul_le_mul (q0f _) lT)
  ·rw[dr]
   exact M84.Y3v (vo y my).1 SU ah λt ht=>by
    obtain⟨u,hu,rfl⟩:=q2j.mp ht
    exact(OT.ok u hu).2.k
 ·rintro σ H4 ⟨S4,lt,ps,T,v3,TM,OT,lT,SU,rfl⟩
  rw[q0a,lr] at OT lT SU
  rw[Nat.sub_self,List.drop_zero] at lT SU
  have t64:2^cO row<=2^6:=q1x (by decide) o6
  refine⟨_,Z,lt,ps,T,c,row.length,_,Z,TM,OT,by omega,c6,by omega,?_,λr H5 qs R hr5 S5 TM5 gd=>kq r H5 qs R T (Z5u S4 hr5) (S4.trans S5) TM5 gd SU lT⟩
  rcases c3 with c3 | c3
  ·exact .inl c3
  ·exact .inr (q1m lT (q1x (by decide) c3))
end
end K55S
set_option maxHeartbeats 4000000
namespace Fx
def Tr (di:W5)(e T:W9)(cls fl:W2)(h:Heap):Prop:=∃ oe vs oT ts,h.get? e=some oe/\(oe.cls=cls/\oe.dict=di)/\oe.data=.fields vs/\(vs[1]?=some (.ref T)/\vs[2]?=some .none)/\T≠e/\h.get? T=some oT/\oT.data=.fields ts/\ts[3]?=some fl/\3<ts.size
structure Kp (fs xs:U3) (h h':Heap):Prop where
 keep:∀ b o,h.get? b=some o->b ∉ fs->b ∉ xs->h'.get? b=some o
 slot:∀ b o,h.get? b=some o->b ∉ xs->∃ sl,h'.get? b=some { o with slots:=sl }
 there:∀ b o,h.get? b=some o->∃ o',h'.get? b=some o'
section
variable {fs xs:U3}{h h1 h2:Heap}
theorem Kp.trans (p:Kp fs xs h h1)(q:Kp fs xs h1 h2):Kp fs xs h h2 where
 keep:=λb o e n m=>q.keep b o (p.keep b o e n m) n m
 slot:=λb o e m=>by
  obtain⟨sl,e1⟩:=p.slot b o e m
  obtain⟨sl2,e2⟩:=q.slot b _ e1 m
  exact⟨sl2,e2⟩
 there:=λb o e=>by
  obtain⟨o1,e1⟩:=p.there b o e
  exact q.there b o1 e1
theorem Kp.same (k:∀ b o,h.get? b=some o->h1.get? b=some o):Kp fs xs h h1:=⟨λb o e _ _=>k b o e,λb o e _=>⟨o.slots,k b o e⟩,λb o e=>⟨o,k b o e⟩⟩
theorem Kp.new (o:Obj):Kp fs xs h (h.push o):=.same λ_ _ e=>q0c _ e
theorem Kp.slots (p:Heap.SlotsOnly fs h h1):Kp fs xs h h1 where
 keep:=λb o e n _=>(p.2.1 b n).trans e
 slot:=λb o e _=>p.2.2 b o e
 there:=λb o e=>let ⟨_,q⟩:=p.2.2 b o e;⟨_,q⟩
theorem Kp.field {a:W9}{o:Obj}{vs:U9}{f:Array Value->Array Value}(ha:a∈xs)(e:h.get? a=some o)(d:o.data=.fields vs):Kp fs xs h (h.update a (Obj.mapFields f)):=by
 have k:∀ b u,b≠a->h.get? b=some u->(h.update a (Obj.mapFields f)).get? b=some u:=λb u n q=>(q1y _ _ n.symm).trans q
 have at_a:=q1v (Obj.mapFields f) e (Obj.isFreed_of_fields (Obj.data_mapFields d f))
 exact⟨λb u q _ m=>k b u (λz=>m (z ▸ ha)) q,λb u q m=>⟨u.slots,k b u (λz=>m (z ▸ ha)) q⟩,λb u q=>(Classical.em (b=a)).elim (λz=>⟨o.mapFields f,by rw[z];exact at_a⟩) λz=>⟨u,k b u z q⟩⟩
theorem Kp.fresh (p:Kp fs xs h h1){b:W9}(e:h1.get? b=none):h.get? b=none:=by
 cases q:h.get? b with
 | none=>rfl
 | some o=>obtain⟨o',e'⟩:=p.there b o q;rw[e] at e';cases e'
end
def Rec (h:Heap)(a:W9)(o:Obj)(vs:U9):Prop:=h.get? a=some o/\o.data=.fields vs
theorem Rec.put {h:Heap}{a:W9}{o:Obj}{vs:U9}(r:Rec h a o vs)(f:Array Value->Array Value):Rec (h.update a (Obj.mapFields f)) a (o.mapFields f) (f vs) :=
 ⟨q1v _ r.1 (Obj.isFreed_of_fields (Obj.data_mapFields r.2 f)),Obj.data_mapFields r.2 f⟩
theorem Rec.off {h:Heap}{a b:W9}{o:Obj}{vs:U9}(r:Rec h a o vs)(n:a≠b)(f:Obj->Obj):Rec (h.update b f) a o vs:=⟨(q1y _ _ n.symm).trans r.1,r.2⟩
theorem X2u (o:Obj)(f:Array Value->Array Value):(o.mapFields f).cls=o.cls/\(o.mapFields f).dict=o.dict:=by
 obtain⟨c,d,dt,sl⟩:=o
 cases dt<;>exact⟨Z,Z⟩
theorem Tr.of {h:Heap}{e T:W9}{oe oT:Obj}{vs ts:U9}{cls fl:W2}(r:Rec h e oe vs)(c:oe.cls=cls/\oe.dict=di)(r':Rec h T oT ts)(n:T≠e)(v:vs[1]?=some (.ref T)/\vs[2]?=some .none)(t:ts[3]?=some fl)(z:3<ts.size):Tr di e T cls fl h :=
 ⟨oe,vs,oT,ts,r.1,c,r.2,v,n,r'.1,r'.2,t,z⟩
section
variable {M:Model}{A:W6}{E:U2}{s:U7}
theorem hung {base:Heap}{env:Env}{outer:List Env}{L e:W9}{oe:Obj}{vs:U9}{head:W2}{b:Bool}{xs:U3}{Q:Unit->Shared->Prop}
  (ha:A.frames=some (env::outer)) (hf:s.heap.FunFrames base (env::outer)) (hl:env.frame=some L) (r:Rec s.heap e oe vs) (hd:oe.dict=di) (two:1<vs.size) (ctx:vs[2]?=some .none) (he:e∈xs)
  (k:∀ h' T,s.heap.get? T=none->Tr di e T oe.cls .none h'->Kp ((env::outer).filterMap (·.frame)) xs s.heap h'->Q () { s with heap:=h' }) :
  wpAny M A (do let a ← frameOf env;let pl ← entryPlaceOf L b;let t ← EntryCells.newEntry head a .none (rawInt L) .none pl;setField (.ref e) 1 t) (λ_ s'=>wpAny M A (setFlight (.ref e) none) Q E s') E s:=by
 have nf:e ∉ (env::outer).filterMap (·.frame):=λz=>by
  obtain⟨_,o,q,n⟩:=hf.mem z
  exact n vs (Option.some.inj (r.1.symm.trans q) ▸ r.2)
 refine q0b (wpAny_frameOf_fun ha hf hl λh1 sl=>q0b (wpAny_entryPlaceOf λpl place=>q0b ?_))
 have p1:Kp ((env::outer).filterMap (·.frame)) xs s.heap h1:=.slots sl
 have r1:Rec h1 e oe vs:=⟨(sl.2.1 e nf).trans r.1,r.2⟩
 have ne:h1.objs.size≠e:=q2y (q0e r1.1)
 have new:s.heap.get? h1.objs.size=none:=p1.fresh (q4p (q0f _))
 simp only[EntryCells.newEntry,newFields]
 refine q1t ?_ (place.sizeOk5 _ _ _ _ _)
 obtain⟨o,ho,ts,d,t3,tz⟩:∃ o:Obj,o={ cls:=.type "traceback",dict:=none,data:=.fields ([head,.ref L,.none,rawInt L,.none]++(if pl.isEmpty then List.replicate 6 Value.none else pl)).toArray }/\∃ ts:Array Value,o.data=.fields ts/\ts[3]?=some (rawInt L)/\3<ts.size:=by
  refine⟨_,Z,_,Z,?_,?_⟩
  ·rcases place with rfl | ⟨_,_,_,_,_,_,_,rfl⟩<;>simp
  ·simp only[q0h,q0x,q2k,q8k];omega
 rw[<-ho]
 have r2:Rec (h1.push o) e oe vs:=⟨q0c _ r1.1,r1.2⟩
 have n2:Rec (h1.push o) h1.objs.size o ts:=⟨q0m _ (Obj.isFreed_of_fields d),d⟩
 have p2:=p1.trans (Kp.new o)
 refine q3x r2.1 r2.2 two ?_
 have r3:=r2.put (·.setIfInBounds 1 (Value.ref h1.objs.size))
 have n3:=n2.off ne (Obj.mapFields (·.setIfInBounds 1 (Value.ref h1.objs.size)))
 have p3:=p2.trans (Kp.field (f:=(·.setIfInBounds 1 (Value.ref h1.objs.size))) he r2.1 r2.2)
 have v1:(vs.setIfInBounds 1 (Value.ref h1.objs.size))[1]?=some (.ref h1.objs.size):=by simp[two]
 refine wpAny_setFlight_none r3.1 r3.2 v1 n3.1 n3.2 tz (k _ h1.objs.size new ?_ ?_)
 ·have c:=X2u oe (·.setIfInBounds 1 (Value.ref h1.objs.size))
  exact Tr.of (r3.off ne.symm _) ⟨c.1,c.2.trans hd⟩ (n3.put _) ne ⟨v1,by rw[Array.getElem?_setIfInBounds_ne (by decide)];exact ctx⟩ (by simp[tz]) (by simpa using tz)
 ·have q:∀ b u,b≠h1.objs.size->Heap.get? ((h1.push o).update e (Obj.mapFields (·.setIfInBounds 1 (Value.ref h1.objs.size)))) b=some u->Heap.get? (((h1.push o).update e (Obj.mapFields (·.setIfInBounds 1 (Value.ref h1.objs.size)))).update h1.objs.size (Obj.mapFields (·.setIfInBounds 3 .none))) b=some u:=λb u n z=>(q1y _ _ n.symm).trans z
  have old:∀ b u,s.heap.get? b=some u->b≠h1.objs.size:=λb u z w=>by rw[w,new] at z;cases z
  exact⟨λb u z n m=>q b u (old b u z) (p3.keep b u z n m),λb u z m=>let ⟨sl,w⟩:=p3.slot b u z m;⟨sl,q b _ (old b u z) w⟩,λb u z=>let ⟨u',w⟩:=p3.there b u z;⟨u',q b u' (old b u z) w⟩⟩
theorem flight {e T:W9}{cls fl:W2}{Q:Unit->Shared->Prop}(t:Tr di e T cls fl s.heap)(k:∀ h',Tr di e T cls .none h'->(∀ b,b≠T->h'.get? b=s.heap.get? b)->Q () { s with heap:=h' }):wpAny M A (setFlight (.ref e) none) Q E s:=by
 obtain⟨oe,vs,oT,ts,e1,c,e2,v,n,t1,t2,-,z⟩:=t
 have r:Rec s.heap e oe vs:=⟨e1,e2⟩
 have r':Rec s.heap T oT ts:=⟨t1,t2⟩
 exact wpAny_setFlight_none e1 e2 v.1 t1 t2 z (k _ (Tr.of (r.off n.symm _) c (r'.put _) n v (by simp[z]) (by simpa using z)) λb m=>q1y _ _ m.symm)
theorem Y0n {base:Heap}{env:Env}{outer:List Env}{L e:W9}{oe:Obj}{vs:U9}{Q:Unit->Shared->Prop}
  (ha:A.frames=some (env::outer)) (hf:s.heap.FunFrames base (env::outer)) (hl:env.frame=some L) (e1:s.heap.get? e=some oe) (hd:oe.dict=di) (e2:oe.data=.fields vs) (one:vs[1]?=some .none) (ctx:vs[2]?=some .none)
  (k:∀ h' T,s.heap.get? T=none->Tr di e T oe.cls .none h'->Kp ((env::outer).filterMap (·.frame)) [e] s.heap h'->Q () { s with heap:=h' }):wpAny M A (leaving env (.ref e)) Q E s:=by
 have r:Rec s.heap e oe vs:=⟨e1,e2⟩
 unfold leaving noteFrame
 simp only[hl]
 exact q0b (q0b (q3b e1 e2 one (hung ha hf hl r hd (q6k.mp one).1 ctx (by simp) k)))
theorem Z9f {base:Heap}{env:Env}{outer:List Env}{L e T0:W9}{cls:W2}{Q:Unit->Shared->Prop}
  (ha:A.frames=some (env::outer)) (hf:s.heap.FunFrames base (env::outer)) (hl:env.frame=some L) (ht:Tr di e T0 cls .none s.heap)
  (k:∀ h' T,s.heap.get? T=none->Tr di e T cls .none h'->Kp ((env::outer).filterMap (·.frame)) [e,T0] s.heap h'->Q () { s with heap:=h' }):wpAny M A (noteFrame (.ref e) env) (λ_ s'=>wpAny M A (setFlight (.ref e) none) Q E s') E s:=by
 obtain⟨oe,vs,oT,ts,e1,⟨c,hd⟩,e2,⟨one,ctx⟩,n,t1,t2,three,room⟩:=ht
 have r:Rec s.heap e oe vs:=⟨e1,e2⟩
 have r':Rec s.heap T0 oT ts:=⟨t1,t2⟩
 have p:Kp ((env::outer).filterMap (·.frame)) [e,T0] s.heap (s.heap.update T0 (Obj.mapFields (·.setIfInBounds 3 Value.none))):=.field (by simp) t1 t2
 have fr:Heap.FunFrames (s.heap.update T0 (Obj.mapFields (·.setIfInBounds 3 Value.none))) base (env::outer):=hf.of_keeps λb o q nf=>⟨o,(q1y _ _ λz=>by
  rw[<-z,t1] at q;exact nf ts (Option.some.inj q ▸ t2)).trans q,Z⟩
 unfold noteFrame
 simp only[hl]
 refine q0b (q3b e1 e2 one ?_)
 simp only[show (Value.ref T0 != Value.none)=true from rfl,q7e]
 refine q0b (q3b t1 t2 three ?_)
 simp only[show (Value.none == rawInt L)=false from rfl,q2s,q4u]
 refine q0b (q3x t1 t2 room ?_)
 refine hung (s:={ s with heap:=s.heap.update T0 (Obj.mapFields (·.setIfInBounds 3 Value.none)) }) (xs:=[e,T0]) ha fr hl (r.off n.symm _) hd (q6k.mp one).1 ctx (.head _) λh' T nw tr q=>?_
 rw[c] at tr
 exact k h' T (p.fresh nw) tr (p.trans q)
theorem Y3g {base:Heap}{env:Env}{outer:List Env}{L e T0:W9}{cls:W2}{Q:Unit->Shared->Prop}
  (ha:A.frames=some (env::outer)) (hf:s.heap.FunFrames base (env::outer)) (hl:env.frame=some L) (ht:Tr di e T0 cls .none s.heap)
  (k:∀ h' T,s.heap.get? T=none->Tr di e T cls .none h'->Kp ((env::outer).filterMap (·.frame)) [e,T0] s.heap h'->Q () { s with heap:=h' }):wpAny M A (leaving env (.ref e)) Q E s :=
 q0b (Z9f ha hf hl ht k)
end
end Fx
namespace L2
open Fx
noncomputable def CX2 (P:U8)(w:W1):CXT:=λouter H s E e s'=>∃ (a T:W9) (cls:W2) (di:W5) (H':Hp),e=.ref a/\s'.os=s.os/\AllBare s'.gens/\Un (frs outer) [] H H' s.heap s'.heap/\HOk P w H' s'.heap ∧
 Tr di a T cls .none s'.heap/\s.heap.get? a=none/\s.heap.get? T=none/\H' a=none/\H' T=none/\E cls di H'
theorem ObjOk.get {P:U8}{w:W1}{H:Hp}{h:Heap}{a:W9}{o:HO}(x:ObjOk P w H h a o):∃ ob,h.get? a=some ob:=by
 cases o with
 | lst xs=>obtain⟨_,_,_,_,e⟩:=x;exact⟨_,e⟩
 | tup xs=>obtain⟨_,_,_,ob,e,_⟩:=x;exact⟨_,e⟩
 | dK kvs=>obtain⟨_,_,_,_,o,_,_,e,_⟩:=x;exact⟨_,e⟩
 | dT kvs=>obtain⟨_,_,_,_,o,_,_,e,_⟩:=x;exact⟨_,e⟩
 | set S n=>obtain⟨o,_,_,_,e,_⟩:=x;exact⟨_,e⟩
 | ins C dx fs=>obtain⟨_,_,_,e,_⟩:=x;exact⟨_,e⟩
 | own y=>obtain⟨_,e⟩:=x;exact⟨_,e⟩
 | xd fs=>obtain⟨_,⟨_,_,_,e,_⟩,_⟩:=x;exact⟨_,e⟩
 | rng lo hi=>obtain⟨_,_,_,e⟩:=x;exact⟨_,e⟩
 | frz ob u=>obtain⟨e,_⟩:=x;exact⟨_,e⟩
 | tbl ps=>exact⟨_,x⟩
 | met f y=>exact⟨_,x⟩
 | ext φ=>obtain⟨_,⟨_,e⟩,_⟩:=x;exact⟨_,e⟩
structure Flies (X:Cx) (E:XK):Prop where
 xe:∀ e s',wpAny (model X.prog X.w) X.A (leaving X.env e) (λ_ s''=>CX2 X.prog X.w X.outer X.H₀ X.s₀ E e s'') (λe' s''=>CX2 X.prog X.w X.outer X.H₀ X.s₀ E e' s'') s'->X.xe e s'
 stk:X.stack=X.env::X.outer/\X.env.frame=some X.env.locals
 ex:X.ex=[]
section
variable {X:Cx}{pins:U1}{σ:St}{H:Hp}{s:U7}{E:XK}
theorem Inv.new0 (I:Inv X pins σ H s)(F:Flies X E){b:W9}(hb:s.heap.get? b=none):X.s₀.heap.get? b=none:=by
 cases q:X.s₀.heap.get? b with
 | none=>rfl
 | some o =>
  obtain⟨o',e'⟩:=I.base.there b o q (by rw[F.ex];intro z;cases z)
  rw[hb] at e';cases e'
theorem Inv.newH (I:Inv X pins σ H s){b:W9}(hb:s.heap.get? b=none):H b=none:=by
 cases q:H b with
 | none=>rfl
 | some o =>
  obtain⟨ob,e'⟩:=ObjOk.get (I.hok b o q)
  rw[hb] at e';cases e'
theorem Inv.left {h1 h':Heap}{e T:W9}{xs:U3}{cls:W2}{di:W5}(I:Inv X pins σ H s)(F:Flies X E)(k1:∀ b o,s.heap.get? b=some o->h1.get? b=some o)(hxs:∀ b∈xs,X.s₀.heap.get? b=none/\H b=none)
  (kp:Kp ((X.env::X.outer).filterMap (·.frame)) xs h1 h') (he:X.s₀.heap.get? e=none/\H e=none) (hT:X.s₀.heap.get? T=none/\H T=none) (tr:Tr di e T cls .none h') (q:E cls di H):CX2 X.prog X.w X.outer X.H₀ X.s₀ E (.ref e) { s with heap:=h' }:=by
 have hfs:∀ b,b∈(X.env::X.outer).filterMap (·.frame)->b=X.env.locals∨b∈X.fs:=λb hb=>by
  have:=I.stkSub b (by rw[F.stk.1];exact hb)
  exact q0q.mp this
 have old:∀ b o,X.s₀.heap.get? b=some o->b≠X.env.locals:=λb o hb z=>by
  have h1:=q0e hb
  have h2:=I.ok.above
  rw[z] at h1
  exact q2x _ (q0s h1 h2)
 have nex:∀ b,b ∉ X.ex:=λb hb=>by rw[F.ex] at hb;cases hb
 have nxs:∀ b o,X.s₀.heap.get? b=some o->b ∉ xs:=λb o hb hm=>by rw[(hxs b hm).1] at hb;cases hb
 refine⟨e,T,cls,di,H,Z,I.os,I.bare,⟨λb o hb hn hf _=>?_,λb o hb hn hf _=>?_,λb o hb hn _=>I.base.free b o hb hn (nex b),λb o hb _=>?_,I.base.tups,I.base.frzs,I.base.tbls⟩,λa o ha=>?_,tr,he.1,hT.1,he.2,hT.2,q⟩
 ·have q1:=I.base.keep b o hb hn hf (nex b)
  exact kp.keep b o (k1 b o q1) (λhm=>(hfs b hm).elim (old b o hb) hf) (nxs b o hb)
 ·obtain⟨sl,q1⟩:=I.base.slot b o hb hn hf (nex b)
  obtain⟨sl2,q2⟩:=kp.slot b _ (k1 b _ q1) (nxs b o hb)
  exact⟨sl2,q2⟩
 ·obtain⟨o',q1⟩:=I.base.there b o hb (nex b)
  exact kp.there b o' (k1 b o' q1)
 ·refine(I.hok a o ha).stay (λc v hc q=>?_) (λ_ q=>q) λ_ _ q=>q
  have hcn:∃ u,H c=some u:=by
   rcases hc with z | z
   ·rw[z];exact⟨_,ha⟩
   ·exact⟨_,z⟩
  obtain⟨u,hu⟩:=hcn
  refine kp.keep c v (k1 c v q) (λhm=>?_) (λhm=>by rw[(hxs c hm).2] at hu;cases hu)
  have:=I.stkFree c (by rw[F.stk.1];exact hm)
  rw[hu] at this;cases this
theorem Inv.flyOn {E':XK}{e:W2}{s':U7}(I:Inv X pins σ H s)(F:Flies X E)(c:CX2 X.prog X.w X.stack H s E' e s')(hE:∀ cls di H',E' cls di H'->E cls di H'):X.xe e s':=by
 obtain⟨a,T,cls,di,H1,rfl,os,bare,un,hok,tr,na,nT,ha,hT,q⟩:=c
 have I1:Inv X pins σ H1 s':=I.call' (ch:=[]) os un hok bare (λb hb=>by cases hb)
 refine F.xe _ _ ?_
 refine Y3g (base:=X.base) (outer:=X.outer) (by rw[I.ok.frames,F.stk.1]) (by rw[<-F.stk.1];exact I1.stack) F.stk.2 tr λh' T' nT' tr' kp=>?_
 refine Inv.left (s:=s') (h1:=s'.heap) (h':=h') I1 F (λb o hb=>hb) (λb hb=>?_) kp ⟨I.new0 F na,ha⟩ ⟨I1.new0 F nT',I1.newH nT'⟩ tr' (hE _ _ _ q)
 simp only[q0q,q0u,q2e] at hb
 rcases hb with rfl | rfl
 ·exact⟨I.new0 F na,ha⟩
 ·exact⟨I.new0 F nT,hT⟩
theorem Flies.passes {E':XK}(F:Flies X E)(hE:∀ cls di H',E' cls di H'->E cls di H'):Passes (CX2 X.prog X.w) X E':=λpins σ H s e s' I c=>I.flyOn F c hE
theorem flies_of {P:U8}{w:W1}{K:U0}{mg:U4}{base:Heap}{N:W0}{qual:Str}{scope:Scope}{f:W9}{cd:W2}{A:W6}{outer:List Env}{s:U7}{H:Hp}{E:XK} :
  Flies (cxOf (CX2 P w) P w K mg base N qual scope f cd A outer s H E) E:=⟨λ_ _ h=>h,⟨Z,Z⟩,Z⟩
end
noncomputable abbrev bmVE:List Value:=[.type "ValueError",.type "Exception",.type "BaseException",.type "object"]
structure ExcAt (K:U0) (C:W9) (bm:U5):Prop where
 ex:∃ N nm q bs hdct sn sub ab col dd k0 k1 k2 k3 k5,K.lookup C=some (excClassObj nm q C N bs bm hdct sn sub ab col dd k0 k1 k2 k3 k5 "ValueError.__new__")/\PySem.W.nsOkIn K N=true/\PySem.W.nsIn K N "__init__"=some none
 tail:PySem.W.tailIn K bmVE bm=true
theorem excAt {K:U0}{C N:W9}{nm q:Str}{bs bm:U5}{hdct:Bool}{sn:W0}{sub:U5}{ab:Bool}{col:Option Bool}{dd:W5}{k0 k1 k2 k3 k5:Option Value}
  (l:K.lookup C=some (excClassObj nm q C N bs bm hdct sn sub ab col dd k0 k1 k2 k3 k5 "ValueError.__new__")) (o:PySem.W.nsOkIn K N=true) (n:PySem.W.nsIn K N "__init__"=some none) (t:PySem.W.tailIn K bmVE bm=true):ExcAt K C bm :=
 ⟨⟨N,nm,q,bs,hdct,sn,sub,ab,col,dd,k0,k1,k2,k3,k5,l,o,n⟩,t⟩
section
variable {X:Cx}{E:XK}{x:Str}{C:W9}{e:Expr}{es:List Expr}{t:TA}{np cpos pos:Pos}{bm:U5}
end
end L2
namespace PySem
section
variable {M:Model}{A:W6}{E:U2}
theorem Z6n {h:Heap}{g:Array GenState}{d:Drawn}{t:Nat}{os:OsState}{e C D:W9}{oe:Obj}{Q:Bool->Shared->Prop}
  {nm q:Str}{N:W9}{bs bm:U5}{hdct:Bool}{sn:W0}{sub:U5}{ab:Bool}{col:Option Bool}{dd:W5}{k0 k1 k2 k3 k5:Option Value}{newId:String}
  {nm' q':Str}{N':W9}{bs' bm':U5}{hdct':Bool}{sn':W0}{sub':U5}{ab':Bool}{col':Option Bool}{dd':W5}{k0' k1' k2' k3' k5':Option Value}{newId':String}
  (hC:h.get? C=some (excClassObj nm q C N bs bm hdct sn sub ab col dd k0 k1 k2 k3 k5 newId)) (hD:h.get? D=some (excClassObj nm' q' D N' bs' bm' hdct' sn' sub' ab' col' dd' k0' k1' k2' k3' k5' newId'))
  (he:h.get? e=some oe) (hcls:oe.cls=.ref C) (hbase:bm'.contains (.type "BaseException")=true) (hsub:(Value.ref C::bm).contains (.ref D)=true)
  (hq:Q true ⟨h,g,d,t,os⟩):wpAny M A (excMatches (.ref e) (.ref D)) Q E ⟨h,g,d,t,os⟩:=by
 have hcB:(Value.ref D::bm').contains (.type "BaseException")=true:=by rw[q6q,hbase,q9d]
 have f:=tc_notTuple
 unfold excMatches
 repeat (first | (with_reducible refine q2z he ?_;rw[hcls]) | with_reducible refine q2z hD ?_ | (with_reducible refine q4w hD ?_;rw[hcB]) | (with_reducible refine q4w hC ?_;rw[hsub]) | wp_step)
 exact hq
end
end PySem
namespace L2
open Fx
noncomputable def ExcO (di:W5)(a:W9)(cls:W2):HO:=.ext λh=>∃ o vs,h.get? a=some o/\(o.cls=cls/\o.dict=di)/\o.data=.fields vs/\vs[2]?=some .none
noncomputable def Xt (X:Cx)(pins:U1)(σ0:St)(E:XK):Cx:={ X with pn:=X.pn++pins,xe:=λe s'=>∃ H1 s1,Inv X pins σ0 H1 s1/\CX2 X.prog X.w X.stack H1 s1 E e s' }
theorem Inv.ofXt {X:Cx}{pins p2:U1}{σ0 σ:St}{E:XK}{H:Hp}{s:U7}(I:Inv (Xt X pins σ0 E) p2 σ H s):Inv X pins σ H s :=
 ⟨⟨I.ok.mod,I.ok.kind,I.ok.glob,I.ok.blt,I.ok.above,I.ok.inj,I.ok.has,I.ok.cab,I.ok.hd,I.ok.frames,I.ok.stk,I.ok.exf,I.ok.bs,I.ok.bsz,I.ok.noex,I.ok.exfs,I.ok.funs,I.ok.frf⟩,
  I.os,I.bare,I.base,I.loc,I.cell,I.free,I.freeC,λp hp=>I.pin p (q4o _ hp),I.hok,I.len⟩
theorem Inv.toXt {X:Cx}{pins:U1}{σ0 σ:St}{E:XK}{H:Hp}{s:U7}(I:Inv X pins σ H s):Inv (Xt X pins σ0 E) [] σ H s :=
 ⟨⟨I.ok.mod,I.ok.kind,I.ok.glob,I.ok.blt,I.ok.above,I.ok.inj,I.ok.has,I.ok.cab,I.ok.hd,I.ok.frames,I.ok.stk,I.ok.exf,I.ok.bs,I.ok.bsz,I.ok.noex,I.ok.exfs,I.ok.funs,I.ok.frf⟩,
  I.os,I.bare,I.base,I.loc,I.cell,I.free,I.freeC,λp hp=>I.pin p (by rw[q3e] at hp;exact hp),I.hok,I.len⟩
noncomputable def Xh (X:Cx)(a:W9):Cx:={ X with A:=X.A.mark (some (.ref a)),calm:=false,xe:=λ_ _=>False }
theorem Inv.toXh {X:Cx}{pins:U1}{σ:St}{a:W9}{H:Hp}{s:U7}(I:Inv X pins σ H s):Inv (Xh X a) pins σ H s :=
 ⟨⟨I.ok.mod,I.ok.kind,I.ok.glob,I.ok.blt,I.ok.above,I.ok.inj,I.ok.has,I.ok.cab,(λz=>by cases z),I.ok.frames,I.ok.stk,I.ok.exf,I.ok.bs,I.ok.bsz,I.ok.noex,I.ok.exfs,I.ok.funs,I.ok.frf⟩,
  I.os,I.bare,I.base,I.loc,I.cell,I.free,I.freeC,I.pin,I.hok,I.len⟩
theorem Inv.ofXh {X:Cx}{pins:U1}{σ:St}{a:W9}{H:Hp}{s:U7}(ok:X.Ok)(I:Inv (Xh X a) pins σ H s):Inv X pins σ H s :=
 ⟨ok,I.os,I.bare,I.base,I.loc,I.cell,I.free,I.freeC,I.pin,I.hok,I.len⟩
theorem Inv.landed {X:Cx}{pins:U1}{σ:St}{H1 H':Hp}{s1 s':U7}{a T T':W9}{cls:W2}{h':Heap}(I:Inv X pins σ H1 s1)(os:s'.os=s1.os)(bare:AllBare s'.gens)(un:Un (frs X.stack) [] H1 H' s1.heap s'.heap)(hok:HOk X.prog X.w H' s'.heap)
  (kp:Kp (frs X.stack) [a,T] s'.heap h') (na:s1.heap.get? a=none) (nT:s1.heap.get? T=none) (ha:H' a=none) (hT:H' T=none) (tr:Tr di a T' cls .none h'):Inv X pins σ (upd H' a (ExcO di a cls)) { s' with heap:=h' }:=by
 obtain⟨oe,vs,oT,ts,he,hc,hd,h1,hTe,hT',hdT,h3,hz⟩:=tr
 have nx:∀ b o,s1.heap.get? b=some o->b ∉ [a,T]:=λb o hb hm=>by
  simp only[q0q,q0u,q2e] at hm
  rcases hm with rfl | rfl
  ·rw[na] at hb;cases hb
  ·rw[nT] at hb;cases hb
 have nea:∀ b u,H' b=some u->b≠a:=λb u hb z=>by rw[z,ha] at hb;cases hb
 have frn:∀ b,b∈frs X.stack->H' b=none:=λb hb=>by
  obtain⟨_,o,ho,_⟩:=I.stack.mem hb
  exact un.free b o ho (I.stkFree b hb) (by intro z;cases z)
 refine I.call' (ch:=[]) (s':={ s' with heap:=h' }) os ⟨λb o hb hn hf ox=>?_,λb o hb hn hf ox=>?_,λb o hb hn ox=>?_,λb o hb ox=>?_,λb xs hb=>?_,λb o u hb=>?_,λb ps hb=>?_⟩ (λc o hc'=>?_) bare (λb hb=>by cases hb)
 ·exact kp.keep b o (un.keep b o hb hn hf ox) hf (nx b o hb)
 ·obtain⟨sl,q⟩:=un.slot b o hb hn hf ox
  obtain⟨sl2,q2⟩:=kp.slot b _ q (nx b o hb)
  exact⟨sl2,q2⟩
 ·rw[Z0t (λz=>nx b o hb (by simp[z]))];exact un.free b o hb hn ox
 ·obtain⟨o',q⟩:=un.there b o hb ox
  exact kp.there b o' q
 ·have:=un.tups b xs hb
  rw[Z0t (nea b _ this)];exact this
 ·have:=un.frzs b o u hb
  rw[Z0t (nea b _ this)];exact this
 ·obtain⟨more,this⟩:=un.tbls b ps hb
  exact⟨more,by rw[Z0t (nea b _ this)];exact this⟩
 ·by_cases hca:c=a
  ·subst hca
   rw[Z0c] at hc'
   cases hc'
   exact⟨⟨oe,vs,he,hc,hd,h1.2⟩,⟨oe,he⟩,λh1 h2 ⟨o,vs,q1,q2,q3⟩ k=>⟨o,vs,k o q1,q2,q3⟩⟩
  ·rw[Z0t hca] at hc'
   refine(hok c o hc').stay (λd v hd' q=>?_) (λb q=>by rw[Z0t (nea b _ q)];exact q) λb xs q=>by rw[Z0t (nea b _ q)];exact q
   have hdn:∃ u,H' d=some u:=by
    rcases hd' with z | z
    ·rw[z];exact⟨_,hc'⟩
    ·exact⟨_,z⟩
   obtain⟨u,hu⟩:=hdn
   refine kp.keep d v q (λhm=>?_) (λhm=>?_)
   ·rw[frn d hm] at hu;cases hu
   ·simp only[q0q,q0u,q2e] at hm
    rcases hm with rfl | rfl
    ·rw[ha] at hu;cases hu
    ·rw[hT] at hu;cases hu
theorem Inv.blank {X:Cx}{pins:U1}{σ:St}{H:Hp}{s:U7}{h':Heap}{m':U4}{tk:Nat}(I:Inv X pins σ H s)(hn:h'.Ns X.env.locals m')(hs:Heap.SameBut X.env.locals s.heap h'):Inv X pins (List.replicate X.N.length none) H { s with heap:=h',toks:=tk }:=by
 have offL:∀ b o,X.s₀.heap.get? b=some o->b≠X.env.locals:=λb o e=>q0r (q0s (q0e e) I.ok.above)
 refine⟨I.ok,I.os,I.bare,⟨λb o e n hb nx=>?_,λb o e n hb nx=>?_,I.base.free,λb o e nx=>?_,I.base.tups,I.base.frzs,I.base.tbls⟩,⟨m',hn,λi x v k1 e2 e3=>?_⟩,λx c e=>?_,I.free,I.freeC,λp hp=>?_,λb ob e=>?_,by simp⟩
 ·exact(hs.2 b (offL b o e)).trans (I.base.keep b o e n hb nx)
 ·obtain⟨sl,k1⟩:=I.base.slot b o e n hb nx
  exact⟨sl,(hs.2 b (offL b o e)).trans k1⟩
 ·obtain⟨o',k1⟩:=I.base.there b o e nx
  exact⟨o',(hs.2 b (offL b o e)).trans k1⟩
 ·rw[q5i] at e2
  split at e2<;>cases e2
 ·obtain⟨v,o,ho,hd⟩:=I.cell x c e
  exact⟨v,o,(hs.2 c (I.cne x c e)).trans ho,hd⟩
 ·obtain⟨q1,q2,q3,q4,q5⟩:=I.pin p hp
  exact⟨(hs.2 _ q3).trans q1,q2,q3,q4,q5⟩
 ·refine(I.hok b ob e).stay (λc w' hc q=>(hs.2 c ?_).trans q) (λ_ q=>q) λ_ _ q=>q
  rintro rfl
  rcases hc with rfl | hc
  ·rw[I.free] at e;cases e
  ·rw[I.free] at hc;cases hc
section
variable {X:Cx}{E:XK}
end
end L2
namespace PySem.W
open PySem.Calls Builtin Builtin.ObjectAttr
noncomputable def overVE:List Value->Bool
 | .ref _::r=>overVE r
 | [.type a,.type b,.type c,.type d]=>a == "ValueError" && b == "Exception" && c == "BaseException" && d == "object"
 | _=>false
theorem X0k {l:U5}(e:overVE l=true):(∃ c r,l=.ref c::r/\overVE r=true)∨l=[.type "ValueError",.type "Exception",.type "BaseException",.type "object"]:=by
 unfold overVE at e
 split at e
 ·exact .inl ⟨_,_,Z,e⟩
 ·simp only[q0y,beq_iff_eq] at e
  obtain⟨⟨⟨rfl,rfl⟩,rfl⟩,rfl⟩:=e
  exact .inr rfl
 ·cases e
theorem Z9c (self:W2):∀ {l:U5},overVE l=true->refuseLoop self "__setattr__" l=pure ()
 | [],e=>by cases e
 | v::r,e=>by
  rcases X0k e with ⟨c,r',q,e'⟩ | q
  ·obtain⟨rfl,rfl⟩:=List.cons.inj q
   rw[refuseLoop_ref];exact Z9c self e'
  ·rw[q];exact PySem.F.store_ValueError.passes self
theorem X0j:∀ {l:U5},overVE l=true->l.contains (.type "object")=true
 | [],e=>by cases e
 | v::r,e=>by
  rcases X0k e with ⟨c,r',q,e'⟩ | q
  ·obtain⟨rfl,rfl⟩:=List.cons.inj q
   rw[q6q,X0j e',q9d]
  ·rw[q];rfl
section
variable {prog:U8}{w:W1}{A:W6}{E:U2}{K:Frag}{x C:W9}{s:U7}{R:Result->Shared->Prop}
theorem Y4x {ox:Obj}{od:Option Obj}{name:Str}{tk:Tok}{v:W2}(X:K.In s.heap)(I:InstAt s.heap x ox C od)(hp:((clsIn K C).any λcd=>overVE cd.mro)=true)(ht:findIn K (.ref C) name=some none)
  (h:∀ b,wpAny (model prog w) A.in1 (storeInOwnDict (.ref x) (.ref C) (.str name tk) name v b)
   (λfin s'=>match fin with | .done f=>R (.ok f) s' | .again c'=>c'.quiet=true/\codeAny (model prog w) A c' R s') (λe s'=>R (.error e) s') s) :
  codeAny (model prog w) A (.call (.builtin "object.__setattr__") ⟨[.ref x,.str name tk,v],[]⟩) R s:=by
 have SF:=PySem.F.store_object
 obtain⟨cd,hc,ho⟩:=any_some hp
 have ne:cd.mro.isEmpty=false:=by cases q:cd.mro with | nil=>rw[q] at ho;cases ho | cons _ _=>rfl
 have sub:Looks (model prog w) s.heap (isInstance (.ref x) (.type "object")) true:=I.type.andThen (looks_mroIn X (by unfold mroIn;rw[hc,Option.bind_some,if_neg (by rw[ne];decide),X0j ho]))
 refine q4n SF.slot.plain SF.entry (@check_slot (model prog w) _ _ s "object.__setattr__" "object" "__setattr__" (.ref x) [.str name tk,v] [] _ SF.kind SF.split sub (SF.args (.ref x) (.str name tk) v) ?_)
 have hm:Looks (model prog w) s.heap (mroOf (.ref C)) cd.mro:=(looks_clsIn X hc).andThen .now
 rw[osa_eq,refuse_eq]
 refine q0b (q0b (I.type.here (q0b (hm.here ?_))))
 rw[Z9c _ ho]
 have L3:Looks (model prog w) s.heap (storeTaker? none) none:=.now
 refine q0g (q0b (I.type.here (q0b ((q6m X ht).here (q0b (L3.here ?_))))))
 exact h _
theorem set_first {ox:Obj}{name:Str}{v:W2}{Q:Unit->Shared->Prop}(X:K.In s.heap)(I:InstAt s.heap x ox C none)(hd:ox.dict=none)(hf:ox.isFreed=false)
  (hs:findIn K (.ref C) "__setattr__"=some (some (.builtin "object.__setattr__"))) (hp:((clsIn K C).any λcd=>overVE cd.mro)=true) (ht:findIn K (.ref C) name=some none) (hh:hasDictIn K C=true)
  (h:∀ h':Heap,h'.get? x=some { ox with dict:=some s.heap.objs.size }->h'.Ns1 s.heap.objs.size (λy=>if y=name then some v else none)->(∀ b o,b≠x->s.heap.get? b=some o->h'.get? b=some o)->Q () { s with heap:=h',toks:=s.toks+2 }) :
  wpAny (model prog w) A (setAttr (.ref x) name v) Q E s:=by
 refine set_plain X I hs (Y4x (s:={ s with toks:=s.toks+1 }) X I hp ht λb=>?_)
 obtain⟨cd,hc,hd'⟩:=any_some hh
 have hx:=I.at_
 have hn:=I.no
 obtain⟨hp',g,d,t,os⟩:=s
 obtain⟨oc,odi,oda,osl⟩:=ox
 cases hd
 cases (show oc=Value.ref C from I.cls)
 have hxs:x≠hp'.objs.size:=q0r (q0e hx)
 have hx₁:(hp'.push { cls:=.type "dict",data:=.dict #[] }).get? x=some ⟨.ref C,none,oda,osl⟩:=q0c _ hx
 have hgd:((hp'.push { cls:=.type "dict",data:=.dict #[] }).update x λo=>{ cls:=o.cls,dict:=some hp'.objs.size,data:=o.data,slots:=o.slots }).get? hp'.objs.size=some { cls:=.type "dict",data:=.dict #[] } :=
  (q6g _ _ _ _ hxs.symm).trans (Heap.get?_push_at rfl rfl)
 have hnd:((hp'.push { cls:=.type "dict",data:=.dict #[] }).update x λo=>{ cls:=o.cls,dict:=some hp'.objs.size,data:=o.data,slots:=o.slots }).Ns hp'.objs.size (λ_=>none) :=
  ⟨_,#[],_,hgd,Z,λe he=>absurd he (by simp),λ_=>rfl⟩
 refine q0b (q0g (q0b (q0b (wpAny_loadPart hx (q0b (Looks.here (s:=⟨hp',g,d,t+1,os⟩) (looks_clsIn X hc) ?_))))))
 rw[hd',if_neg (by decide),if_neg (by simp[typeHasDict])]
 have fin:wpAny (model prog w) A.in1 (do
   let d ← alloc { cls:=Value.type "dict",data:=Data.dict #[] }
   update x λo=>{ cls:=o.cls,dict:=some d,data:=o.data,slots:=o.slots }
   dictMade (Value.ref C) x d) (λa s'=>wpAny (model prog w) A.in1 (match a with
    | some d_1=>storeInDict d_1 (Value.str name t) name v
    | none=>noDictFor (Value.ref x) (Value.ref C) name b)
    (λfin s'=>match fin with
     | Fin.done f=>(match (Except.ok f:Result) with
      | Except.ok (Flow.ret v)=>Q () s'
      | Except.ok a=>False
      | Except.error e=>E e s')
     | Fin.again c'=>c'.quiet=true/\codeAny (model prog w) A c' (λr s'=>match r with
         | Except.ok (Flow.ret v)=>Q () s'
         | Except.ok a=>False
         | Except.error e=>E e s') s') (λe s'=>E e s') s') (λe s'=>E e s') ⟨hp',g,d,t+1,os⟩:=by
  refine q0b (wpAny_alloc' (q0b (wpAny_update' hx₁ (q0g ?_))))
  show wpAny _ _ (storeInDict hp'.objs.size (.str name t) name v) _ _ _
  unfold storeInDict newKeyGuard
  refine q0b (q0g (q0b (wpAny_nsSet1 (Heap.Ns1.of_empty hnd) λh' hn' hs=>?_)))
  obtain⟨oD,esD,epD,hoD,hdD,hcD⟩:=hn'.count (Within.cons name v Within.nil)
  refine q0b (wpAny_lookBehind hoD (by rw[hdD];exact pastItsLine_dict (q1m hcD (by rw[q2k,q8k,q8s];omega))) ?_)
  refine q0g (h h' ?_ hn' λb o hbx hb=>?_)
  ·refine(hs.2 x hxs).trans (q1v _ hx₁ ?_)
   cases oda<;>first | rfl | exact hf
  ·exact(hs.2 b (q0r (q0e hb))).trans ((q6g _ _ _ _ hbx).trans (q0c _ hb))
 cases oda<;>first | exact fin | cases hn
end
end PySem.W
namespace PySem.W
open PySem.Calls
structure ExcG (K:Frag) (D:W9):Prop where
 ga:findIn K (.ref D) "__getattribute__"=some (some (.builtin "BaseException.__getattribute__"))
 gt:findIn K (.ref D) "__getattr__"=some none
 ff:∀ od,findObj K D od "__class__"=some (.bind (.builtin "getset_descriptor.__get__") (.builtin "object.__class__"))
 ob:mroIn K D (.type "object")=some true
 be:kitCls K (.ref D) (.type "BaseException")=some true
 me:kitCls K (.ref D) (.ref D)=some true
 dc:hasDictIn K D=true
section
variable {prog:U8}{w:W1}{A:W6}{E:U2}{K:Frag}{x D:W9}{ox:Obj}{od:Option Obj}
theorem Y9p {tk:Tok}{s:U7}{Q:Fin->Shared->Prop}(g:ExcG K D)(X:K.In s.heap)(I:InstAt s.heap x ox D od)(q:Q (.done (.ret (.ref D))) s) :
  wpAny (model prog w) A (Builtin.«object.__getattribute__» ⟨[.ref x,.str "__class__" tk],[]⟩) Q E s:=by
 have L0:=I.type (M:=model prog w)
 have L1:=looks_find (M:=model prog w) X I (g.ff od)
 unfold Builtin.«object.__getattribute__»
 refine q0b (q0g (q0b (q0g (q0b (L0.at (q0b (L1.at ?_)))))))
 show wpAny _ _ (Builtin.ObjectAttr.bindTo _ _ _ _) _ _ _
 unfold Builtin.ObjectAttr.bindTo
 show wpAny _ _ (holding [Value.builtin "object.__class__"] (call (Value.builtin "getset_descriptor.__get__") [Value.builtin "object.__class__",Value.ref x,Value.ref D]) >>= ret) _ _ _
 exact q0b (q1w (q5b (class_get (ox:=ox) (od:=od) X I g.ob (q0g q))))
theorem Y6k {name:Str}{v:W2}{tk:Tok}{s:U7}{Q:Fin->Shared->Prop}(X:K.In s.heap)(I:InstAt s.heap x ox D od)(hf:findObj K D od name=some (.value v))(q:Q (.done (.ret v)) s) :
  wpAny (model prog w) A (Builtin.«object.__getattribute__» ⟨[.ref x,.str name tk],[]⟩) Q E s:=by
 have L0:=I.type (M:=model prog w)
 have L1:=looks_find (M:=model prog w) X I hf
 unfold Builtin.«object.__getattribute__»
 refine q0b (q0g (q0b (q0g (q0b (L0.at (q0b (L1.at ?_)))))))
 exact q0g q
theorem Y6l {s:U7}{Q:Option Value->Shared->Prop}(g:ExcG K D)(X:K.In s.heap)(I:InstAt s.heap x ox D od)(q:Q (some (.ref D)) { s with toks:=s.toks+1 }):wpAny (model prog w) A (getAttr? (.ref x) "__class__") Q E s:=by
 have L0:=I.type (M:=model prog w)
 have L1:=q6m (M:=model prog w) X g.ga
 have L2:=q6m (M:=model prog w) X g.gt
 have L3:=(kit_cls (M:=model prog w) X g.be).2.2
 have fb:=q3r.ga.bind (.ref x)
 unfold getAttr? getAttrBy? getAttrBy
 refine q0b (wpAny_mkText (q0b (q5y (q1w (q0b (L0.at (q0b (L1.at ?_))))))))
 show wpAny _ _ (getAttrByItsOwn _ _ _ _ _ _) _ _ _
 unfold getAttrByItsOwn
 refine q0b (L2.at (q0b (q5y (q1w ?_))))
 show wpAny _ _ (boundAndCalled _ _ _) _ _ _
 unfold boundAndCalled
 rw[fb]
 refine q0b (q0g (q5b (q4n q3r.ga.plain F.entry_bexc_ga ?_)))
 have hk:builtinKind "BaseException.__getattribute__"=some .slot:=by decide +kernel
 have hsplit:splitId "BaseException.__getattribute__"=some ("BaseException","__getattribute__"):=by decide +kernel
 have ha:=F.args_bexc_ga (.ref x) (.str "__class__" s.toks)
 simp only[checkBuiltinCall,hk,hsplit]
 refine q0b (q0b (L0.at (L3.at ?_)))
 refine wpAny_of_eq (a:=()) ha ?_
 exact Y9p (s:={ s with toks:=s.toks+1 }) g X I (handed_on rfl (q0g q))
theorem exc_get {name:Str}{v:W2}{expr:Bool}{s:U7}{Q:U2}(g:ExcG K D)(X:K.In s.heap)(I:InstAt s.heap x ox D od)(hf:findObj K D od name=some (.value v))(hh:handedIn v=true)(q:Q v { s with toks:=s.toks+1 }) :
  wpAny (model prog w) A (getAttr (.ref x) name expr) Q E s:=by
 have L0:=I.type (M:=model prog w)
 have L1:=q6m (M:=model prog w) X g.ga
 have L2:=q6m (M:=model prog w) X g.gt
 have L3:=(kit_cls (M:=model prog w) X g.be).2.2
 have fb:=q3r.ga.bind (.ref x)
 unfold getAttr getAttrBy
 refine q0b (wpAny_mkText (q1w (q0b (L0.at (q0b (L1.at ?_))))))
 show wpAny _ _ (getAttrByItsOwn _ _ _ _ _ _) _ _ _
 unfold getAttrByItsOwn
 refine q0b (L2.at (q0b (q5y (q1w ?_))))
 have hx0:(expr && onTheHeap (Value.builtin "BaseException.__getattribute__"))=false:=by cases expr<;>rfl
 unfold callGetattribute
 rw[hx0]
 show wpAny _ _ (boundAndCalled _ _ _) _ _ _
 unfold boundAndCalled
 rw[fb]
 refine q0b (q0g (q5b (q4n q3r.ga.plain F.entry_bexc_ga ?_)))
 have hk:builtinKind "BaseException.__getattribute__"=some .slot:=by decide +kernel
 have hsplit:splitId "BaseException.__getattribute__"=some ("BaseException","__getattribute__"):=by decide +kernel
 have ha:=F.args_bexc_ga (.ref x) (.str name s.toks)
 simp only[checkBuiltinCall,hk,hsplit]
 refine q0b (q0b (L0.at (L3.at ?_)))
 refine wpAny_of_eq (a:=()) ha ?_
 refine Y6k (s:={ s with toks:=s.toks+1 }) X I hf ?_
 show wpAny _ _ (handedOut v) _ _ _
 rw[handedOut_of hh]
 exact q0g q
theorem kitx_excG (g:ExcG K D):KitX K (.ref x) (.ref D) (λh=>∃ ox od,InstAt h x ox D od) where
 ty:=λ_ _ _ p=>p.elim λ_ p=>p.elim λ_ I=>I.type
 it:=λ_ _ X _=>(kit_cls X g.me).2.1
 ne:=λh tp dd its n sl X htp=>by
  refine Bool.eq_false_iff.mpr λq=>?_
  obtain rfl:D=tp:=Value.ref.inj (beq_iff_eq.mp q)
  obtain⟨cd,hc,_⟩:=any_some g.dc
  unfold clsIn at hc
  split at hc
  ·rename_i c' d' cd' sl' ho
   cases (X _ _ ho).symm.trans htp
  ·cases hc
 ca:=λX p k=>p.elim λ_ p=>p.elim λ_ I=>Y6l g X I k
end
end PySem.W
namespace L2
noncomputable def clV:V->Option Value
 | .ty T=>some (.type T)
 | .ref D=>some (.ref D)
 | _=>none
def Dx (H:Hp)(di:W5):Prop:=∀ dx,di=some dx->∃ fs,H dx=some (.xd fs)
section
variable {X:Cx}{pins:U1}{σ:St}{H:Hp}{s:U7}
theorem X1o {a C:W9}{di:W5}(I:Inv X pins σ H s)(hH:H a=some (ExcO di a (.ref C)))(hd:Dx H di):∃ o od,PySem.W.InstAt s.heap a o C od/\o.dict=di:=by
 obtain⟨⟨o,vs,q1,⟨q2,q3⟩,q4,_⟩,_,_⟩:=(show ObjOk X.prog X.w H s.heap a (ExcO di a (.ref C)) from I.hok a _ hH)
 have nc:PySem.W.notCls o=true:=by unfold PySem.W.notCls;rw[q4]
 cases di with
 | none=>exact⟨o,none,⟨q1,q2,nc,by rw[q3];trivial⟩,q3⟩
 | some dx =>
  obtain⟨fs,hx⟩:=hd dx rfl
  obtain⟨mA,⟨od,es,ep,e1,_⟩,_⟩:=(show ObjOk X.prog X.w H s.heap dx (.xd fs) from I.hok dx _ hx)
  exact⟨o,some od,⟨q1,q2,nc,by rw[q3];exact e1⟩,q3⟩
theorem Z9q:CallR X (.builtin "isinstance") (λxs H Q=>∃ a di C c cv b,xs=[.ref a,c]/\H a=some (ExcO di a (.ref C))/\Dx H di/\PySem.W.ExcG X.K C/\clV c=some cv/\PySem.W.kitOne X.K (.ref C) cv=some b/\Q (.bl b) H):=by
 intro pins s σ H xs us Q I r h
 obtain⟨a,di,C,c,cv,b,rfl,hH,hd,kx,hc,e,q⟩:=h
 obtain⟨u,v,rfl,ru,rv⟩:=r.two
 cases ru
 have hv:v=cv:=by
  cases c<;>first | (cases hc;cases rv;rfl) | cases hc
 subst hv
 obtain⟨o,od,J,_⟩:=X1o I hH hd
 exact q1s (PySem.W.kitx_excG kx) I.kIn ⟨o,od,J⟩ e (λz=>nomatch z) λtk=>⟨.bl b,H,I.tok tk,Z,q⟩
def tFldE (K:U0)(ta:TE)(f:Str):TE:=λσ H Q=>ta σ H λx H1=>∃ a dx C fs v,x=.ref a/\H1 a=some (ExcO (some dx) a (.ref C))/\H1 dx=some (.xd fs)/\PySem.W.ExcG K C/\NoAttr K C f/\fs.lookup f=some v/\Q v H1
theorem X2z {e:Expr}{f:Str}{pos:Pos}{ta:TE}(he:PE X e ta)(hb:attributeBase e f X.env (eval e X.env)=eval e X.env):PE X (.Attribute e f pos) (tFldE X.K ta f):=by
 intro pins s σ H Q I h
 refine X5b hb (thn (he pins s σ H _ I h) λu s1 ⟨x,H1,I1,rx,a,dx,C,fs,v,ex,ea,ed,g,n,l,q⟩=>?_)
 subst ex
 obtain rfl:u=Value.ref a:=rx
 obtain⟨⟨o,vs,q1,⟨q2,q3⟩,q4,_⟩,_,_⟩:=(show ObjOk X.prog X.w H1 s1.heap a (ExcO (some dx) a (.ref C)) from I1.hok a _ ea)
 obtain⟨mA,ns,rl⟩:=(show ObjOk X.prog X.w H1 s1.heap dx (.xd fs) from I1.hok dx _ ed)
 obtain⟨w,hw,rw'⟩:=RelO.some_of (v:=v) (o:=mA f) (by rw[<-l];exact rl f)
 have nc:PySem.W.notCls o=true:=by unfold PySem.W.notCls;rw[q4]
 obtain⟨od,e1,hl⟩:=Z9h ns
 have J:PySem.W.InstAt s1.heap a o C (some od):=⟨q1,q2,nc,by rw[q3];exact e1⟩
 exact PySem.W.exc_get g I1.kIn J (PySem.W.findObj_own g.dc n rfl (by rw[hl,hw])) (Y6f rw') ⟨v,H1,I1.tok _,rw',q⟩
end
end L2
namespace PySem
open PySem.Sem (wp)
section
variable {prog:U8}{w:W1}{A:W6}{E:U2}{h:Heap}{g:Array GenState}{d:Drawn}{t:Nat}{os:OsState}
variable {nm q:Str}{C N:W9}{bs bm bmB:U5}{hdct:Bool}{sn:W0}{sub:U5}{ab:Bool}{col:Option Bool}{dd:W5}{k0 k1 k2 k3 k5:Option Value}{B newId initId:String}
theorem Z2u (F:ExcBaseFacts B newId initId bmB)(T:OwnTail h bmB bm){mN:U4}{rest:U5}{fI:W9}{oI:Obj}{Q:Fin->Shared->Prop}
  (hC:h.get? C=some (excClassObj nm q C N bs bm hdct sn sub ab col dd k0 k1 k2 k3 k5 newId)) (hn:h.Ns N mN) (hi:mN "__init__"=some (.ref fI))
  (hfI:h.get? fI=some oI) (hfc:oI.cls=.type "function")
  (hq:∀ h' e,Heap.MadeExcOf h h' e (.ref C) rest →
   wpAny (model prog w) A (call (.ref fI) (.ref e::rest)) (λr s'=>r=.none/\Q (.done (.ret (.ref e))) s') E ⟨h',g,d,t,os⟩) (hrest:rest.length<=sizeLine:=by size_fits) :
  wpAny (model prog w) A (Builtin.«type.__call__» ⟨.ref C::rest,[]⟩) Q E ⟨h,g,d,t,os⟩:=by
 repeat (first | with_reducible refine q2z hC ?_ | with_reducible refine wpAny_madeBy_exc hC ?_ | wp_step)
 refine codeAny_call_builtin_code (Code.quiet_builtin _ F.quiet) (wpAny_check_new_subT F T hC ?_)
 refine codeAny_exc_new_subT F T hC ?_ hrest
 show wpAny _ _ _ _ _ _
 have hC₁:=q0c { cls:=.ref C,data:=.fields #[.ref h.objs.size,.none,.none,.none,.bool false,.none] }
  (q0c { cls:=.type "tuple",data:=.seq rest.toArray } hC)
 have hfI₁:=q0c { cls:=.ref C,data:=.fields #[.ref h.objs.size,.none,.none,.none,.bool false,.none] }
  (q0c { cls:=.type "tuple",data:=.seq rest.toArray } hfI)
 have hn₁:((h.push { cls:=.type "tuple",data:=.seq rest.toArray }).push { cls:=.ref C,data:=.fields #[.ref h.objs.size,.none,.none,.none,.bool false,.none] }).Ns N mN :=
  let ⟨o,es,ep,e,r⟩:=hn;⟨o,es,ep,q0c _ (q0c _ e),r⟩
 have hget:((h.push { cls:=.type "tuple",data:=.seq rest.toArray }).push
   { cls:=.ref C,data:=.fields #[.ref h.objs.size,.none,.none,.none,.bool false,.none] }).get? (h.objs.size+1)=some
   { cls:=.ref C,data:=.fields #[.ref h.objs.size,.none,.none,.none,.bool false,.none] }:=by heap_get
 have hcC:(Value.ref C::bm).contains (.ref C)=true:=by simp
 have T₁:=T.keeps (h':=(h.push { cls:=.type "tuple",data:=.seq rest.toArray }).push { cls:=.ref C,data:=.fields #[.ref h.objs.size,.none,.none,.none,.bool false,.none] })
  λb o e=>q0c _ (q0c _ e)
 unfold isInstance
 repeat (first | with_reducible refine q2z hget ?_ | (with_reducible refine q4w hC₁ ?_;rw[hcC]) | wp_step)
 show wpAny _ _ (typeLookup (.ref C) _) _ _ _
 refine wpAny_typeLookup_tail hC₁ hn₁ T₁ F.mroIs F.init.lookup ?_
 rw[hi]
 refine q1w (q0b ?_)
 unfold bindSpecial
 refine q0b (q7y (T:="function") ⟨_,hfI₁,hfc⟩ ?_)
 rw[if_pos (by decide)]
 refine q0g (q0b (q1i (hq _ (h.objs.size+1) ⟨λb o hb=>q0c _ (q0c _ hb),q4p (Nat.le_succ _),h.objs.size,hget,q4p (q0f _),?_⟩) (λr s' hr=>?_) λ_ _ x=>x))
 ·exact q0c _ (Heap.get?_push_at rfl rfl)
 ·obtain⟨rfl,hQ⟩:=hr
  wp_walk
  exact hQ
theorem Z3z (F:ExcBaseFacts B newId initId bmB)(T:OwnTail h bmB bm){mN:U4}{rest:U5}{fI:W9}{oI:Obj}{Q:U2}
  (hC:h.get? C=some (excClassObj nm q C N bs bm hdct sn sub ab col dd k0 k1 k2 k3 k5 newId)) (hn:h.Ns N mN) (hi:mN "__init__"=some (.ref fI))
  (hfI:h.get? fI=some oI) (hfc:oI.cls=.type "function")
  (hq:∀ h' e,Heap.MadeExcOf h h' e (.ref C) rest →
   wpAny (model prog w) (A.under (.builtin "type.__call__" ⟨.ref C::rest,[]⟩)) (call (.ref fI) (.ref e::rest)) (λr s'=>r=.none/\Q (.ref e) s') E ⟨h',g,d,t,os⟩) (hrest:rest.length<=sizeLine:=by size_fits) :
  wpAny (model prog w) A (call (.ref C) rest) Q E ⟨h,g,d,t,os⟩:=by
 have f1:=tc_lookup
 have f2:=tc_bind (.ref C)
 have hT:(⟨h,g,d,t,os⟩:U7).TypeIs (.ref C) "type":=⟨_,hC,Z⟩
 refine q5b (codeAny_of_tree ?_)
 show wpAny _ _ (callAny (.ref C) _) _ _ _
 repeat (any_goals (first | assumption | with_reducible refine q2z hC ?_ | wp_step))
 refine⟨Z,?_⟩
 refine codeAny_call_builtin_at (Code.quiet_builtin _ (by decide +kernel)) entry_typeCall (wpAny_check_type_call_sub hC (Z2u (hrest:=hrest) F T hC hn hi hfI hfc λh' e hm=>?_))
 exact hq h' e hm
end
end PySem
namespace PySem
section
variable {M:Model}{A:W6}{E:U2}{env:Env}
variable {nm q:Str}{C N:W9}{bs bm:U5}{hdct:Bool}{sn:W0}{sub:U5}{ab:Bool}{col:Option Bool}{dd:W5}{k0 k1 k2 k3 k5:Option Value}{newId:String}
theorem Z7x {s:U7}{x:Sem Value}{Q:Flow->Shared->Prop}(hbase:bm.contains (.type "BaseException")=true)(hh:A.handled=none)
  (h:wpAny M A x (λv s₁=>∃ e o,v=.ref e/\s₁.heap.get? C=some (excClassObj nm q C N bs bm hdct sn sub ab col dd k0 k1 k2 k3 k5 newId) ∧
   s₁.heap.get? e=some o/\o.cls=.ref C/\(∃ vs,o.data=.fields vs/\vs[1]?=some .none)/\E (.ref e) s₁) E s) :
  wpAny M A (raiseStmt env (some x) none) Q E s:=by
 have hcB:(Value.ref C::bm).contains (.type "BaseException")=true:=by rw[q6q,hbase,q9d]
 unfold raiseStmt
 refine q0b (q1i h (λv s₁ h₁=>?_) λ_ _ x=>x)
 obtain⟨e,⟨cl,di,da,sl⟩,rfl,hC,he,hcl,⟨vs,hda,hv⟩,hE⟩:=h₁
 cases hcl
 cases hda
 obtain⟨hp,g,d,tk,os⟩:=s₁
 repeat (first | with_reducible refine q2z he ?_ | with_reducible refine q2z hC ?_ | (with_reducible refine q4w hC ?_;rw[hcB]) | wp_step)
 rw[hv]
 refine q0g ?_
 rw[if_neg (by decide)]
 exact q0g (wpAny_raiseNew_none hh hE)
end
end PySem
namespace L2
open Fx
structure InitAt (K:U0) (C f:W9) (qual:Str) (st:Stmt) (bm:U5):Prop where
 cl:∃ N nm q bs hdct sn sub ab col dd k0 k1 k2 k3 k5,K.lookup C=some (excClassObj nm q C N bs bm hdct sn sub ab col dd k0 k1 k2 k3 k5 "ValueError.__new__")/\PySem.W.nsOkIn K N=true/\PySem.W.nsIn K N "__init__"=some (some (.ref f))
 tail:PySem.W.tailIn K bmVE bm=true
 fn:∃ od kV doc pm an cdv ct osl,K.lookup f=some ⟨.type "function",od,.func (PySem.W.fnOf "__init__" qual (Z1d st) (Z0z st) (Z0h st) .none kV doc pm an cdv ct),osl⟩/\PySem.W.codeIn K cdv qual=true
 kp:PySem.W.keepIn K (.ref C)=true
 sa:PySem.W.findIn K (.ref C) "__setattr__"=some (some (.builtin "object.__setattr__"))
 po:((PySem.W.clsIn K C).any λcd=>PySem.W.overVE cd.mro)=true
 g:PySem.W.ExcG K C
theorem initAt {K:U0}{C f N:W9}{qual:Str}{st:Stmt}{bm:U5}{nm q:Str}{bs:U5}{hdct:Bool}{sn:W0}{sub:U5}{ab:Bool}{col:Option Bool}{dd od an:W5}{k0 k1 k2 k3 k5:Option Value}{kV doc pm cdv ct:W2}{osl:W4}
  (l:K.lookup C=some (excClassObj nm q C N bs bm hdct sn sub ab col dd k0 k1 k2 k3 k5 "ValueError.__new__")) (o:PySem.W.nsOkIn K N=true) (n:PySem.W.nsIn K N "__init__"=some (some (.ref f))) (t:PySem.W.tailIn K bmVE bm=true)
  (lf:K.lookup f=some ⟨.type "function",od,.func (PySem.W.fnOf "__init__" qual (Z1d st) (Z0z st) (Z0h st) .none kV doc pm an cdv ct),osl⟩) (c:PySem.W.codeIn K cdv qual=true)
  (kp:PySem.W.keepIn K (.ref C)=true) (sa:PySem.W.findIn K (.ref C) "__setattr__"=some (some (.builtin "object.__setattr__"))) (po:((PySem.W.clsIn K C).any λcd=>PySem.W.overVE cd.mro)=true) (g:PySem.W.ExcG K C):InitAt K C f qual st bm :=
 ⟨⟨N,nm,q,bs,hdct,sn,sub,ab,col,dd,k0,k1,k2,k3,k5,l,o,n⟩,t,⟨od,kV,doc,pm,an,cdv,ct,osl,lf,c⟩,kp,sa,po,g⟩
noncomputable def ExcN (di:W5)(a C:W9):HO:=.ext λh=>∃ o vs,h.get? a=some o/\(o.cls=.ref C/\o.dict=di)/\o.data=.fields vs/\vs[1]?=some .none/\vs[2]?=some .none
noncomputable def drop (H:Hp)(a:W9):Hp:=λb=>if b=a then none else H b
theorem Z3r {H:Hp}{a b:W9}(h:b≠a):drop H a b=H b:=by unfold drop;rw[if_neg h]
theorem Z6o {H:Hp}{a:W9}:drop H a a=none:=by unfold drop;rw[if_pos rfl]
section
variable {X:Cx}{pins:U1}{σ:St}{H:Hp}{s:U7}
theorem Y6m {P:U8}{w:W1}{h:Heap}{di:W5}{a C:W9}{o:Obj}{vs:U9}(e:h.get? a=some o)(c:o.cls=.ref C/\o.dict=di)(d:o.data=.fields vs)(v:vs[1]?=some .none/\vs[2]?=some .none):ObjOk P w H h a (ExcN di a C) :=
 ⟨⟨o,vs,e,c,d,v⟩,⟨o,e⟩,λh1 h2 ⟨o,vs,q1,q2,q3⟩ k=>⟨o,vs,k o q1,q2,q3⟩⟩
theorem Inv.drop {a:W9}{φ:Heap->Prop}(I:Inv X pins σ H s)(e:H a=some (.ext φ)):Inv X pins σ (L2.drop H a) s:=by
 have ne:∀ b u,H b=some u->(∀ φ,u≠.ext φ)->b≠a:=λb u hb hu z=>by subst z;rw[e] at hb;exact hu φ (Option.some.inj hb).symm
 refine I.call' (ch:=[]) rfl ⟨λb o hb hn _ _=>hb,λb o hb hn _ _=>⟨o.slots,hb⟩,λb o hb hn _=>?_,λb o hb _=>⟨o,hb⟩,λb xs hb=>?_,λb o u hb=>?_,λb ps hb=>?_⟩ (λc o hc=>?_) I.bare (λb hb=>by cases hb)
 ·by_cases z:b=a
  ·subst z;exact Z6o
  ·rw[Z3r z];exact hn
 ·rw[Z3r (ne b _ hb (by intro φ z;cases z))];exact hb
 ·rw[Z3r (ne b _ hb (by intro φ z;cases z))];exact hb
 ·exact⟨#[],by rw[Z3r (ne b _ hb (by intro φ z;cases z)),hb,q6u]⟩
 ·have z:c≠a:=λz=>by subst z;rw[Z6o] at hc;cases hc
  rw[Z3r z] at hc
  exact(I.hok c o hc).stay (λd v hd q=>q) (λb q=>by rw[Z3r (ne b _ q (by intro φ z;cases z))];exact q) λb xs q=>by rw[Z3r (ne b _ q (by intro φ z;cases z))];exact q
theorem Inv.madeExc {h1:Heap}{a C:W9}{args:U5}(I:Inv X pins σ H s)(m:Heap.MadeExcOf s.heap h1 a (.ref C) args):Inv X pins σ (upd H a (ExcN none a C)) { s with heap:=h1 }:=by
 obtain⟨t,he,_,_⟩:=m.there
 have na:=I.newH m.new
 have nea:∀ b u,H b=some u->b≠a:=λb u hb z=>by rw[z,na] at hb;cases hb
 refine I.call' (s':={ s with heap:=h1 }) (ch:=[]) rfl ⟨λb o hb hn _ _=>m.keeps b o hb,λb o hb hn _ _=>⟨o.slots,m.keeps b o hb⟩,λb o hb hn _=>?_,λb o hb _=>⟨o,m.keeps b o hb⟩,λb xs hb=>?_,λb o u hb=>?_,λb ps hb=>?_⟩ (λc o hc=>?_) I.bare (λb hb=>by cases hb)
 ·rw[Z0t (λz=>by rw[z,m.new] at hb;cases hb)];exact hn
 ·rw[Z0t (nea b _ hb)];exact hb
 ·rw[Z0t (nea b _ hb)];exact hb
 ·exact⟨#[],by rw[Z0t (nea b _ hb),hb,q6u]⟩
 ·by_cases hca:c=a
  ·subst hca
   rw[Z0c] at hc
   cases hc
   exact Y6m he ⟨Z,Z⟩ rfl ⟨Z,Z⟩
  ·rw[Z0t hca] at hc
   exact(I.hok c o hc).stay (λd v _ q=>m.keeps d v q) (λb q=>by rw[Z0t (nea b _ q)];exact q) λb xs q=>by rw[Z0t (nea b _ q)];exact q
end
theorem X9a {K:U0}{h:Heap}{N:W9}{m:U4}{n:Str}{v:W2}(X:K.In h)(G:h.Ns N m)(e:PySem.W.nsIn K N n=some (some v)):m n=some v:=by
 obtain⟨o,es,ep,ho,hd,_,hf⟩:=G
 unfold PySem.W.nsIn at e
 split at e
 ·rename_i c d es' n' sl q
  have:=X _ _ q
  rw[ho] at this
  cases this
  cases hd
  split at e
  ·rename_i en he
   cases e
   rw[<-hf]
   unfold nsFind findBy
   rw[<-Array.find?_toList,he]
   rfl
  ·split at e<;>cases e
 ·cases e
def sFld1 (C:W9)(ta tv:TE)(f:Str):TS:=λD σ H=>tv σ H λy H1=>ta σ H1 λx H2=>∃ a,x=.ref a/\H2 a=some (ExcN none a C)/\∀ dx,H2 dx=none->dx≠a->D.nx σ (upd (upd H2 dx (.xd [(f,y)])) a (ExcN (some dx) a C))
section
variable {X:Cx}{pins:U1}{σ:St}{H:Hp}{s:U7}
theorem Inv.firstDict {s':U7}{a C dx:W9}{f:Str}{y:V}{u:W2}{o':Obj}{vs:U9}(I:Inv X pins σ H s)(e:H a=some (ExcN none a C))(hos:s'.os=s.os)(hb:AllBare s'.gens)(hd:dx=s.heap.objs.size)(ha:s'.heap.get? a=some o')(hc:o'.cls=.ref C/\o'.dict=some dx)(hv:o'.data=.fields vs/\vs[1]?=some .none/\vs[2]?=some .none)
  (hn:s'.heap.Ns1 dx (λz=>if z=f then some u else none)) (ru:RelV y u) (k:∀ b o,b≠a->s.heap.get? b=some o->s'.heap.get? b=some o) :
  Inv X pins σ (upd (upd H dx (.xd [(f,y)])) a (ExcN (some dx) a C)) s':=by
 have nd:H dx=none:=by rw[hd];exact I.hok.fresh (q0f _)
 have nea:∀ b u,H b=some u->(∀ φ,u≠.ext φ)->b≠a:=λb u hb hu z=>by subst z;rw[e] at hb;exact hu _ (Option.some.inj hb).symm
 have ned:∀ b u,H b=some u->b≠dx:=λb u hb z=>by rw[z,nd] at hb;cases hb
 have up:∀ b u,H b=some u->(∀ φ,u≠.ext φ)->upd (upd H dx (.xd [(f,y)])) a (ExcN (some dx) a C) b=some u:=λb u hb hu=>by rw[Z0t (nea b u hb hu),Z0t (ned b u hb)];exact hb
 have off:∀ b o,s.heap.get? b=some o->b≠dx:=λb o q z=>by rw[z,hd] at q;exact q2x _ (q0e q)
 have nb:∀ b,H b=none->b≠a:=λb hb z=>by rw[z,e] at hb;cases hb
 refine I.call' (s':=s') (ch:=[]) hos ⟨λb o hb hn _ _=>k b o (nb b hn) hb,λb o hb hn _ _=>⟨o.slots,k b o (nb b hn) hb⟩,λb o hb hn _=>?_,λb o hb _=>?_,λb xs hb=>up b _ hb (by intro φ z;cases z),λb o u hb=>up b _ hb (by intro φ z;cases z),λb ps hb=>⟨#[],by rw[up b _ hb (by intro φ z;cases z),q6u]⟩⟩ (λc o hc'=>?_) hb (λb hb=>by cases hb)
 ·rw[Z0t (nb b hn),Z0t (off b o hb)];exact hn
 ·by_cases z:b=a
  ·subst z;exact⟨_,ha⟩
  ·exact⟨o,k b o z hb⟩
 ·by_cases hca:c=a
  ·subst hca
   rw[Z0c] at hc'
   cases hc'
   exact Y6m ha hc hv.1 hv.2
  ·rw[Z0t hca] at hc'
   by_cases hcd:c=dx
   ·subst hcd
    rw[Z0c] at hc'
    cases hc'
    refine⟨_,hn,λg=>?_⟩
    by_cases hg:g=f
    ·subst hg
     simp only[List.lookup,q5u,q7e]
     exact ru
    ·simp only[List.lookup,beq_eq_false_iff_ne.mpr hg,if_neg hg]
     trivial
   ·rw[Z0t hcd] at hc'
    refine(I.hok c o hc').stay (λd v hd' q=>k d v ?_ q) (λb q=>up b _ q (by intro φ z;cases z)) λb xs q=>up b _ q (by intro φ z;cases z)
    rcases hd' with rfl | q'
    ·exact hca
    ·exact nea d _ q' (by intro φ z;cases z)
theorem X2w {o value:Expr}{f:Str}{pos pos':Pos}{ta tv:TE}{C:W9}(hs':PySem.W.findIn X.K (.ref C) "__setattr__"=some (some (.builtin "object.__setattr__")))(hp:((PySem.W.clsIn X.K C).any λcd=>PySem.W.overVE cd.mro)=true)(hh:PySem.W.hasDictIn X.K C=true)(hn:NoAttr X.K C f)
  (ha:PE X o ta) (hv:PE X value tv) (hs:swapsWith value (some (.Attribute o f pos')) pos.line X.env=pure false):PS X (.Assign [.Attribute o f pos'] value pos) (sFld1 C ta tv f):=by
 intro pins s σ H D I h
 refine plainObj_wpAny_Assign_Attribute (thn (hv pins s σ H _ I h) λu s1 ⟨y,H1,I1,ry,q⟩=>thn (ha pins s1 σ H1 _ I1 q) λov s2 ⟨x,H2,I2,rx,a,ex,ea,q2⟩=>?_) hs
 subst ex
 obtain rfl:ov=Value.ref a:=rx
 obtain⟨⟨o,vs,q1,⟨q2',q3⟩,q4,q5⟩,_,_⟩:=(show ObjOk X.prog X.w H2 s2.heap a (ExcN none a C) from I2.hok a _ ea)
 have nc:PySem.W.notCls o=true:=by unfold PySem.W.notCls;rw[q4]
 have J:PySem.W.InstAt s2.heap a o C none:=⟨q1,q2',nc,by rw[q3];trivial⟩
 refine PySem.W.set_first I2.kIn J q3 (Obj.isFreed_of_fields q4) hs' hp hn hh λh' e1 e2 e3=>?_
 refine⟨σ,_,Inv.firstDict (s':={ s2 with heap:=h',toks:=s2.toks+2 }) I2 ea rfl I2.bare rfl e1 ⟨q2',Z⟩ ⟨q4,q5⟩ e2 ry e3,q2 _ (I2.hok.fresh (q0f _)) λz=>?_⟩
 have:=q0e q1
 rw[<-z] at this
 exact q2x _ this
end
def spInit (C:W9)(f:Str):Sp:=λvs H Q _=>∃ a y,vs=[.ref a,y]/\H a=some (ExcN none a C)/\∀ dx,H dx=none->dx≠a->Q .non (upd (upd H dx (.xd [(f,y)])) a (ExcN (some dx) a C))
structure InitCal (P:U8) (w:W1) (K:U0) (mg:U4) (base:Heap) (k:Nat) (C:W9) (bm:U5) (f:Str):Prop where
 ex:∃ (fi:W9) (qual:Str) (st:Stmt) (fd:FuncData) (ps:W0),InitAt K C fi qual st bm/\FnOk P w K mg base CX0 k fi fd ps (spInit C f)/\Binds K fd ps []
 na:NoAttr K C f
theorem InitAt.cal {P:U8}{w:W1}{K:U0}{mg:U4}{base:Heap}{k:Nat}{C fi:W9}{qual:Str}{st:Stmt}{bm:U5}{f x0 x1:Str}{N:W0}(x:InitAt K C fi qual st bm)(na:NoAttr K C f)(S:FnScope N [x0,x1] (Z0h st))
  (bi:∀ (kV doc pm:W2) (an:W5) (cdv ct:W2) (a0 a1:W2),bindArgs (PySem.W.fnOf "__init__" qual (Z1d st) (Z0z st) (Z0h st) .none kV doc pm an cdv ct) ⟨[a0,a1],[]⟩=pure [(x0,a0),(x1,a1)])
  (hbody:∀ (f':W9) (cdv:W2) (A:W6) (outer:List Env) (s:U7) (H:Hp) (vs:List V) (Q:VK) (E:XK),spInit C f vs H Q E →
   ∃ t,PSs (cxOf CX0 P w K mg base N qual (Z0h st) f' cdv A outer s H E).nox (Z0z st) t/\t { nx:=λ_ H'=>Q .non H',rt:=Q } (start N vs) H):InitCal P w K mg base (k+1) C bm f:=by
 obtain⟨od,kV,doc,pm,an,cdv,ct,osl,lk,hcd⟩:=x.fn
 refine⟨⟨fi,qual,st,_,_,x,Y9m lk hcd S (λvs H Q E h=>?_) λA outer s H vs Q E hr hsp=>?_,.all λus hl=>?_⟩,na⟩
 ·obtain⟨a,y,rfl,_⟩:=h;rfl
 ·obtain⟨t,h,q⟩:=hbody fi cdv A outer s H vs Q E hsp
  exact⟨t,h.nox,q⟩
 ·match us,hl with
  | [a0,a1],_=>exact bi kV doc pm an cdv ct a0 a1
section
variable {X:Cx}{E:XK}{x f:Str}{C:W9}{e:Expr}{es:List Expr}{t:TA}{np cpos pos:Pos}{bm:U5}{k:Nat}
def X2f (E:XK)(C:W9)(f:Str)(t:TA):TS:=λ_ σ H=>t σ H λvs H1=>∃ y,vs=[y]/\∀ dx,H1 dx=none->E (.ref C) (some dx) (upd H1 dx (.xd [(f,y)]))
theorem Y4o (c:InitCal X.prog X.w X.K X.mg X.base k C bm f)(hr:Room (k+1) X.A)(F:Flies X E)(hc:X.calm=true)(hg:Gl X x)(hm:X.mg x=some (.ref C))(ha:PA X (e::es) t)(hdb:(x == ("__debug__":Str))=false:=by decide)
  (he:starEach (e::es) X.env=(false,eval e X.env)::starEach es X.env:=by rfl) (hpl:(backTo cpos (starEach es X.env)).any (·.1)=false:=by rfl) :
  PS X (.Raise (some (.Call (.Name x np) (e::es) [] cpos)) none pos) (X2f E C f t):=by
 intro pins s σ H D I h
 obtain⟨⟨fi,qual,st,fd,ps,ia,fo,bi⟩,na⟩:=c
 obtain⟨N,nm,q,bs,hdct,sn,sub,ab,col,dd,k0,k1,k2,k3,k5,lk,ok,ni⟩:=ia.cl
 obtain⟨od,kV,doc,pm,an,cdv,ct,osl,lf,_⟩:=ia.fn
 have KX:=I.ok.mod.kin
 have hC:=KX _ _ lk
 have hF:=KX _ _ lf
 have hN:X.base.Ns N _:=.of_isNs (PySem.W.isNs_of_in KX ok)
 have hni:=X9a KX hN ni
 have T:=PySem.W.tail_of_in KX ia.tail
 have call:wpAny (model X.prog X.w) X.A (eval (.Call (.Name x np) (e::es) [] cpos) X.env) (λv s₁=>∃ e o,v=.ref e/\s₁.heap.get? C=some (excClassObj nm q C N bs bm hdct sn sub ab col dd k0 k1 k2 k3 k5 "ValueError.__new__") ∧
   s₁.heap.get? e=some o/\o.cls=.ref C/\(∃ vs,o.data=.fields vs/\vs[1]?=some .none)/\X.xe (.ref e) s₁) X.xe s:=by
  refine q3f (Z4l I hg hm ?_ hdb)
  refine q5f (h₀:=X.base) I.ok.mod.kin ia.kp (thn (ha cpos pins s σ H _ I h) λus s1 ⟨vs,H1,I1,r,y,ey,q1⟩=>⟨I1.kIn,?_⟩) he hpl
  subst ey
  obtain⟨u,rfl,ru⟩:∃ u,us=[u]/\RelV y u:=by
   cases r with
   | cons r0 rn=>cases rn with
    | nil=>exact⟨_,rfl,r0⟩
  obtain⟨hp1,g1,d1,t1,os1⟩:=s1
  refine Z3z q4l (T.keeps I1.bk) (I1.bk _ _ hC) (hN.keeps I1.bk) hni (I1.bk _ _ hF) rfl (λh' a m=>?_) (by show 1<=sizeLine;decide)
  have I2:=I1.madeExc m
  have nH:H1 a=none:=I1.newH m.new
  have r2:Vals [V.ref a,y] ([Value.ref a,u]++[]):=.cons rfl (.cons ru .nil)
  have hsp:spInit C f [.ref a,y] (upd H1 a (ExcN none a C)) (λv H2=>v=.non/\∃ dx,H1 dx=none/\dx≠a/\H2=upd (upd (upd H1 a (ExcN none a C)) dx (.xd [(f,y)])) a (ExcN (some dx) a C)) E0 :=
   ⟨a,y,Z,Z0c,λdx hd nd=>⟨Z,dx,by rw[Z0t nd] at hd;exact hd,nd,Z⟩⟩
  have hl:([Value.ref a,u]++[]).length=ps.length:=by rw[<-r2.length];exact fo.len _ _ _ _ hsp
  refine q5b (q3n (fo.run _ X.stack _ _ ⟨[Value.ref a,u],[]⟩ ([Value.ref a,u]++[]) _ _ E0 (hr.make C [u] []) (I2.env0.make C [u] []) (bi _ [Value.ref a,u] I2.kIn hl) r2 hsp) λrr s' hq'=>?_)
  cases rr with
  | error e=>exact False.elim hq'
  | ok fl =>
   cases fl with
   | next=>exact False.elim hq'
   | brk=>exact False.elim hq'
   | cont=>exact False.elim hq'
   | ret uu =>
    obtain⟨v,H2,I3,rv,ev,dx,hdx,ndx,eH⟩:=I2.after hq'
    subst ev
    subst eH
    obtain⟨⟨o,vs',q1',⟨q2',q3⟩,q4,q5⟩,_,_⟩:=(show ObjOk X.prog X.w _ s'.heap a (ExcN (some dx) a C) from I3.hok a _ Z0c)
    have I4:=I3.drop (a:=a) Z0c
    have eD:L2.drop (upd (upd (upd H1 a (ExcN none a C)) dx (.xd [(f,y)])) a (ExcN (some dx) a C)) a=upd H1 dx (.xd [(f,y)]):=by
     funext b
     by_cases z:b=a
     ·subst z;rw[Z6o,Z0t (Ne.symm ndx),nH]
     ·rw[Z3r z,Z0t z]
      by_cases z2:b=dx
      ·subst z2;rw[Z0c,Z0c]
      ·rw[Z0t z2,Z0t z2,Z0t z]
    rw[eD] at I4
    refine⟨rv,a,o,Z,I3.bk _ _ hC,q1',q2',⟨vs',q4,q5.1⟩,?_⟩
    have ne:X.s₀.heap.get? a=none/\(upd H1 dx (.xd [(f,y)])) a=none:=⟨I1.new0 F m.new,by rw[Z0t (Ne.symm ndx)];exact nH⟩
    refine F.xe _ _ ?_
    refine Y0n (base:=X.base) (outer:=X.outer) (s:=s') (by rw[I.ok.frames,F.stk.1]) (by rw[<-F.stk.1];exact I4.stack) F.stk.2 q1' q3 q4 q5.1 q5.2 λh' T' nT tr kp=>?_
    rw[q2'] at tr
    exact Inv.left (s:=s') (h1:=s'.heap) (h':=h') I4 F (λ_ _ e=>e) (λb hb=>by rw[q1e.mp hb];exact ne) kp ne ⟨I4.new0 F nT,I4.newH nT⟩ tr (q1 dx hdx)
 rw[arm_exec_Raise]
 refine q0b (q4i (Z7x (C:=C) (nm:=nm) (q:=q) (N:=N) (bs:=bs) (bm:=bm) (hdct:=hdct) (sn:=sn) (sub:=sub) (ab:=ab) (col:=col) (dd:=dd) (k0:=k0) (k1:=k1) (k2:=k2) (k3:=k3) (k5:=k5) (newId:="ValueError.__new__") (T.hasType q4l.hasBase) (I.ok.hd hc) (q0b (q1i call (λv s₃ h₃=>q0b (q4i (q0g h₃))) λ_ _ x=>x))))
end
section
variable {X:Cx}
theorem Z3m {x:Str}{C:W9}{pos:Pos}(hg:Gl X x)(hm:X.mg x=some (.ref C))(hd:(x == ("__debug__":Str))=false:=by decide):PE X (.Name x pos) (tC (.ref C)) :=
 λ_ _ _ H _ I h=>Z4l I hg hm ⟨.ref C,H,I,Z,h⟩ hd
end
structure CalX (P:U8) (w:W1) (K:U0) (mg:U4) (base:Heap) (k:Nat) (x:Str) (ps:W0) (sp:Sp):Prop where
 ex:∃ f fd,FnOk P w K mg base (CX2 P w) k f fd ps sp/\Binds K fd ps []/\PySem.W.keepIn K (.ref f)=true/\mg x=some (.ref f)
section
variable {X:Cx}{k:Nat}{x:Str}{ps:W0}{sp:Sp}{p pos:Pos}{e:Expr}{es:List Expr}{t:TA}{E:XK}
theorem X3a (c:CalX X.prog X.w X.K X.mg X.base k x ps sp)(hx:Passes (CX2 X.prog X.w) X E)(hr:Room k X.A)(hg:Gl X x)(ha:PA X (e::es) t)(hdb:(x == ("__debug__":Str))=false:=by decide)
  (he:starEach (e::es) X.env=(false,eval e X.env)::starEach es X.env:=by rfl) (hpl:(backTo pos (starEach es X.env)).any (·.1)=false:=by rfl):PE X (.Call (.Name x p) (e::es) [] pos) (tCall sp [] E t):=by
 obtain⟨f,fd,F,b,kp,m⟩:=c.ex
 exact Y4u F hr hg m kp b .nil hx ha hdb he hpl
def tCallT (σ0:St)(sp:Sp)(E:XK)(t:TA):TE:=λσ H Q=>t σ H λvs H1=>σ=σ0/\sp vs H1 Q E
theorem X3b {pins:U1}{σ0:St}(c:CalX X.prog X.w X.K X.mg X.base k x ps sp)(hr:Room k X.A)(hg:Gl X x)(ha:PA (Xt X pins σ0 E) (e::es) t)(hdb:(x == ("__debug__":Str))=false:=by decide)
  (he:starEach (e::es) X.env=(false,eval e X.env)::starEach es X.env:=by rfl) (hpl:(backTo pos (starEach es X.env)).any (·.1)=false:=by rfl):PE (Xt X pins σ0 E) (.Call (.Name x p) (e::es) [] pos) (tCallT σ0 sp E t):=by
 obtain⟨f,fd,F,b,kp,m⟩:=c.ex
 intro p2 s σ H Q I h
 refine q3f (Z4l I hg m ?_ hdb)
 refine q5f (h₀:=X.base) I.ok.mod.kin kp (thn (ha pos p2 s σ H _ I h) λus s1 ⟨vs,H1,I1,r,e1,q⟩=>⟨I1.kIn,?_⟩) he hpl
 subst e1
 have hl:us.length=ps.length:=by rw[<-r.length];exact F.len _ _ _ _ q
 have b2:=b s1 us I1.kIn (by rw[q3e];exact hl)
 rw[q3e] at b2
 refine q5b (q3n (F.run X.A X.stack s1 H1 ⟨us,[]⟩ us vs Q E hr I1.env0 b2 r q) λr s' hq=>?_)
 cases r with
 | error e=>exact⟨H1,s1,I1.ofXt,hq⟩
 | ok fl =>
  cases fl with
  | ret u=>exact I1.after hq
  | next=>exact False.elim hq
  | brk=>exact False.elim hq
  | cont=>exact False.elim hq
end
section
variable {P:U8}{w:W1}{K:U0}{mg:U4}{base:Heap}
theorem FunAt.calX {x:Str}{st:Stmt}{dV:W2}{N ps:W0}{k:Nat}{sp:Sp}(F:FunAt K x st dV){h:Heap}(X:K.In h)(G:Ng h mg)(S:FnScope N ps (Z0h st))(bi:Z2i K x st dV ps)(len:∀ vs H Q E,sp vs H Q E->vs.length=ps.length)
  (hbody:∀ (f:W9) (cdv:W2) (A:W6) (outer:List Env) (s:U7) (H:Hp) (vs:List V) (Q:VK) (E:XK),Room k (A.deeper (envOfC x (Z0h st) s.heap.objs.size f cdv))->sp vs H Q E →
   ∃ t,PSs (cxOf (CX2 P w) P w K mg base N x (Z0h st) f cdv A outer s H E) (Z0z st) t/\t { nx:=λ_ H'=>Q .non H',rt:=Q } (start N vs) H):CalX P w K mg base (k+1) x ps sp:=by
 obtain⟨f,oc,od,kV,doc,pm,an,cdv,ct,osl,lk,hcd,kp,ns⟩:=F.ex
 exact⟨f,_,Y9m lk hcd S len λA outer s H vs Q E hr hsp=>hbody f cdv A outer s H vs Q E hr hsp,bi kV doc pm an cdv ct,kp,q1j X G ns⟩
end
def ClsAt (K:U0)(C:W9)(bm:U5):Prop:=∃ N nm q bs hdct sn sub ab col dd k0 k1 k2 k3 k5,K.lookup C=some (excClassObj nm q C N bs bm hdct sn sub ab col dd k0 k1 k2 k3 k5 "ValueError.__new__")
theorem InitCal.cls {P:U8}{w:W1}{K:U0}{mg:U4}{base:Heap}{k:Nat}{C:W9}{bm:U5}{f:Str}(c:InitCal P w K mg base k C bm f):ClsAt K C bm:=by
 obtain⟨fi,qual,st,fd,ps,x,_⟩:=c.ex
 obtain⟨N,nm,q,bs,hdct,sn,sub,ab,col,dd,k0,k1,k2,k3,k5,l,_⟩:=x.cl
 exact⟨N,nm,q,bs,hdct,sn,sub,ab,col,dd,k0,k1,k2,k3,k5,l⟩
theorem InitCal.g {P:U8}{w:W1}{K:U0}{mg:U4}{base:Heap}{k:Nat}{C:W9}{bm:U5}{f:Str}(c:InitCal P w K mg base k C bm f):PySem.W.ExcG K C:=by
 obtain⟨fi,qual,st,fd,ps,x,_⟩:=c.ex
 exact x.g
section
variable {X:Cx}{E:XK}{pins:U1}{σ:St}{H:Hp}{s:U7}
theorem Inv.unset {h':Heap}{m:U4}{v:Option Value}{tk i:Nat}{n:Str}(I:Inv X pins σ H s)(hN:X.N.Nodup)(hi:X.N[i]?=some n)(hm:s.heap.Ns X.env.locals m)
  (hl:∀ (i:Nat) (x:Str) (v:V),X.N[i]?=some x->σ[i]?=some (some v)->Vis X.env.scope x->∃ u,RelV v u/\Look X.env s.heap m x u)
  (hn:h'.Ns X.env.locals (λx=>if x=n then v else m x)) (hs:Heap.SameBut X.env.locals s.heap h'):Inv X pins (σ.set i none) H { s with heap:=h',toks:=tk }:=by
 have offL:∀ b o,X.s₀.heap.get? b=some o->b≠X.env.locals:=λb o e=>q0r (q0s (q0e e) I.ok.above)
 have cne:=I.cne
 refine⟨I.ok,I.os,I.bare,⟨λb o e n hb nx=>?_,λb o e n hb nx=>?_,I.base.free,λb o e nx=>?_,I.base.tups,I.base.frzs,I.base.tbls⟩,⟨_,hn,λj y v' e1 e2 e3=>?_⟩,λx c e=>?_,I.free,I.freeC,λp hp=>?_,λb ob e=>?_,by rw[q5h];exact I.len⟩
 ·exact(hs.2 b (offL b o e)).trans (I.base.keep b o e n hb nx)
 ·obtain⟨sl,k1⟩:=I.base.slot b o e n hb nx
  exact⟨sl,(hs.2 b (offL b o e)).trans k1⟩
 ·obtain⟨o',k1⟩:=I.base.there b o e nx
  exact⟨o',(hs.2 b (offL b o e)).trans k1⟩
 ·by_cases hj:j=i
  ·subst hj
   by_cases hz:j<σ.length
   ·rw[q5m hz] at e2;cases e2
   ·rw[List.getElem?_eq_none (by rw[q5h];omega)] at e2;cases e2
  ·rw[q3j (Ne.symm hj)] at e2
   obtain⟨u',r',q⟩:=hl j y v' e1 e2 e3
   refine⟨u',r',?_⟩
   rcases q with ⟨k,e⟩ | ⟨k,c,e,z⟩
   ·refine .inl ⟨k,?_⟩
    have:y≠n:=λe=>hj (Z8d hN e1 (e ▸ hi))
    simp[this,e]
   ·exact .inr ⟨k,c,e,z.sameBut hs (cne y c e)⟩
 ·obtain⟨v,o,ho,hd⟩:=I.cell x c e
  exact⟨v,o,(hs.2 c (I.cne x c e)).trans ho,hd⟩
 ·obtain⟨q1,q2,q3,q4,q5⟩:=I.pin p hp
  exact⟨(hs.2 _ q3).trans q1,q2,q3,q4,q5⟩
 ·refine(I.hok b ob e).stay (λc w' hc q=>(hs.2 c ?_).trans q) (λ_ q=>q) λ_ _ q=>q
  rintro rfl
  rcases hc with rfl | hc
  ·rw[I.free] at e;cases e
  ·rw[I.free] at hc;cases hc
def tTryN (E:XK)(tb:St->TS)(th:Addr->TS)(i:Nat):TS:=λD σ H=>tb σ D σ H/\∀ a cls di H',E cls di H'->H' a=none->th a { nx:=λσ' H''=>D.nx (σ'.set i none) H'',rt:=D.rt } (σ.set i (some (.ref a))) (upd H' a (ExcO di a cls))
theorem X2v {st b₀:Stmt}{suite:W8}{cx n:Str}{C D:W9}{i:Nat}{np hpos pos:Pos}{tb:St->TS}{th:Addr->TS}{bm bm':U5}(hst:X.stack=X.env::X.outer/\X.env.frame=some X.env.locals)(hN:X.N.Nodup)(hi:X.N[i]?=some n)(hloc:X.env.scope.names.lookup n=some .local)
  (hg:Gl X cx) (hm:X.mg cx=some (.ref D)) (hC:ClsAt X.K C bm) (hD:ExcAt X.K D bm') (hsub:(Value.ref C::bm).contains (.ref D)=true) (hE:∀ cls di H',E cls di H'->cls=.ref C)
  (hb:∀ pins σ,PSs (Xt X pins σ E) [st] (tb σ)) (hh:∀ a,PSs (Xh X a) (b₀::suite) (th a)) (hdb:(cx == ("__debug__":Str))=false:=by decide) :
  PS X (.Try [st] [.ExceptHandler (some (.Name cx np)) (some n) (b₀::suite) hpos] [] [] pos) (tTryN E tb th i):=by
 intro pins s σ H D' I h
 obtain⟨h1,h2⟩:=h
 refine wpAny_Try_except (q1i (hb pins σ [] s σ H D' I.toXt h1) (λf s1 q=>?_) (λe s1 q=>?_))
 ·cases f with
  | next=>obtain⟨σ',H',I',q⟩:=q;exact q5e ⟨σ',H',I'.ofXt,q⟩
  | brk=>obtain⟨σ',H',I',q⟩:=q;exact⟨σ',H',I'.ofXt,q⟩
  | cont=>obtain⟨σ',H',I',q⟩:=q;exact⟨σ',H',I'.ofXt,q⟩
  | ret u=>obtain⟨v,σ',H',I',r,q⟩:=q;exact⟨v,σ',H',I'.ofXt,r,q⟩
 obtain⟨H1,s0,I0,a,T,cls,di,H',rfl,os,bare,un,nsOk,tr,na,nT,ha,hT,q⟩:=q
 obtain rfl:=hE cls di H' q
 have I1:Inv X pins σ H' s1:=I0.call' (ch:=[]) os un nsOk bare (λb hb=>by cases hb)
 have hcls:X.env.kindOf n=some .local:=hloc
 refine Z9f (base:=X.base) (outer:=X.outer) (by rw[I.ok.frames,hst.1]) (by rw[<-hst.1];exact I1.stack) hst.2 tr λh' T' nT' tr' kp=>?_
 have kp':Kp (frs X.stack) [a,T] s1.heap h':=by rw[hst.1];exact kp
 have I2:Inv X pins σ (upd H' a (ExcO di a (.ref C))) { s1 with heap:=h' }:=I0.landed os bare un nsOk kp' na nT ha hT tr'
 obtain⟨_,_,_,_,_,_,_,_,_,_,_,_,_,_,_,lC⟩:=hC
 obtain⟨_,_,_,_,_,_,_,_,_,_,_,_,_,_,_,lD,_,_⟩:=hD.ex
 have TD:=PySem.W.tail_of_in I2.kIn hD.tail
 obtain⟨oe,vs,oT,ts,he,⟨hc,_⟩,_⟩:=id tr'
 refine wpAny_handleBy_cons (codeAny_handlers_test (Z4l (X:=Xh X a) (I2.toXh (a:=a)) hg hm ?_ hdb)) (by intro q;cases q)
 refine Z6n (I2.kIn _ _ lC) (I2.kIn _ _ lD) he hc (TD.hasType q4l.hasBase) hsub ?_
 refine codeAny_handlers_suite_as ?_
 refine flight (s:={ s1 with heap:=h' }) tr' λh3 tr3 same=>?_
 have kp3:Kp (frs X.stack) [a,T] s1.heap h3:=by
  have ne:∀ b o,s1.heap.get? b=some o->b≠T':=λb o hb z=>by rw[z,nT'] at hb;cases hb
  exact⟨λb o hb hf hx=>(same b (ne b o hb)).trans (kp'.keep b o hb hf hx),λb o hb hx=>let ⟨slo,e⟩:=kp'.slot b o hb hx;⟨slo,(same b (ne b o hb)).trans e⟩,λb o hb=>let ⟨o',e⟩:=kp'.there b o hb;⟨o',(same b (ne b o hb)).trans e⟩⟩
 have I3:Inv X pins σ (upd H' a (ExcO di a (.ref C))) { s1 with heap:=h3 }:=I0.landed os bare un nsOk kp3 na nT ha hT tr3
 refine Z7o (X:=Xh X a) (v:=.ref a) (I3.toXh (a:=a)) hN hi (.inl hloc) rfl (λs4 I4=>?_) (.inr hloc)
 refine q1i (hh a pins s4 _ _ _ I4 (h2 a _ di H' q ha)) (λf s5 q5=>?_) (λx s5 z=>z.elim)
 cases f with
 | next =>
  obtain⟨σ',H5,I5,q6⟩:=q5
  obtain⟨m,hn,hl⟩:=id I5.loc
  refine wpAny_nameGoes_keeps hcls hn (by rw[I.ok.kind];rfl) λh6 v6 hn6 hs6=>?_
  exact⟨_,H5,(I5.ofXh I.ok).unset hN hi hn hl hn6 hs6,q6⟩
 | brk=>obtain⟨_,_,_,z⟩:=q5;exact z.elim
 | cont=>obtain⟨_,_,_,z⟩:=q5;exact z.elim
 | ret u =>
  obtain⟨v,σ',H5,I5,r,q6⟩:=q5
  obtain⟨m,hn,_⟩:=id I5.loc
  refine wpAny_nameGoes hcls hn (by rw[I.ok.kind];rfl) λh6 m6 hn6 hs6=>?_
  exact⟨v,_,H5,(I5.ofXh I.ok).blank hn6 hs6,r,q6⟩
end
theorem Z4y {X:Cx}{e:W9}:CallR (Xh X e) (.builtin "isinstance") (λxs H Q=>∃ a di C c cv b,xs=[.ref a,c]/\H a=some (ExcO di a (.ref C))/\Dx H di/\PySem.W.ExcG X.K C/\clV c=some cv/\PySem.W.kitOne X.K (.ref C) cv=some b/\Q (.bl b) H):=Z9q
theorem Y1r {X:Cx}{a:W9}{e:Expr}{f:Str}{pos:Pos}{ta:TE}(he:PE (Xh X a) e ta)(hb:attributeBase e f X.env (eval e X.env)=eval e X.env):PE (Xh X a) (.Attribute e f pos) (tFldE X.K ta f):=X2z he hb
end L2
namespace PySem
section
variable {M:Model}{A:W6}{E:U2}
end
end PySem
namespace L2
open Fx
section
variable {X:Cx}{E:XK}
end
end L2
namespace L2
theorem Y4m:∀ {cs:U3}{its:U5},Vals (cs.map V.ref) its->its=cs.map Value.ref
 | [],_,.nil=>rfl
 | c::r,_,.cons h hs=>by
  cases h
  rw[Y4m hs]
  rfl
section
variable {X:Cx}
theorem Z8m:CallR X (.builtin "isinstance") (λxs H Q=>∃ (a:W9) (di:W5) (C p:W9) (cs:U3) (b:Bool),xs=[.ref a,.ref p]/\H a=some (ExcO di a (.ref C))/\Dx H di/\PySem.W.ExcG X.K C/\SqT X.K H p (cs.map V.ref)/\PySem.W.kitAny X.K (.ref C) (cs.map Value.ref)=some b/\Q (.bl b) H):=by
 intro pins s σ H xs us Q I r h
 obtain⟨a,di,C,p,cs,b,rfl,hH,hdx,kx,hp,e,q⟩:=h
 obtain⟨u,v,rfl,ru,rv⟩:=r.two
 cases ru
 cases rv
 obtain⟨its,rr,⟨o',e',hc,n,hd⟩,_⟩:=I.tuple hp
 have:=Y4m rr
 subst this
 obtain⟨c,dd,dt,sl⟩:=o'
 replace hc:c=.type "tuple":=hc
 replace hd:dt=.seq (cs.map Value.ref).toArray n:=hd
 subst hc hd
 obtain⟨o,od,inst,_⟩:=X1o I hH hdx
 exact PySem.W.kia_tup (PySem.W.kitx_excG kx) I.kIn ⟨o,od,inst⟩ e' e (λz=>nomatch z) λtk=>⟨.bl b,H,I.tok tk,Z,q⟩
theorem Z4e {e:W9}:CallR (Xh X e) (.builtin "isinstance") (λxs H Q=>∃ (a:W9) (di:W5) (C p:W9) (cs:U3) (b:Bool),xs=[.ref a,.ref p]/\H a=some (ExcO di a (.ref C))/\Dx H di/\PySem.W.ExcG X.K C/\SqT X.K H p (cs.map V.ref)/\PySem.W.kitAny X.K (.ref C) (cs.map Value.ref)=some b/\Q (.bl b) H):=Z8m
end
end L2
namespace L2
open Fx
structure RoomH (g:W9) (k:Nat) (A:W6):Prop where
 dp:A.depth+3*k+5<recursionLimit
 un:A.units+16*k+200<cLine
 hd:A.handled=some (.ref g)
theorem Room.h {k:Nat}{A:W6}(r:Room k A)(g:W9):RoomH g k (A.mark (some (.ref g))):=⟨r.dp,r.un,Z⟩
theorem RoomH.deeper {k:Nat}{A:W6}(r:RoomH g (k+1) A)(env:Env):RoomH g k (A.deeper env) :=
 ⟨by have:=r.dp;show A.depth+1+3*k+5<_;omega,by have:=r.un;show A.units+3+16*k+200<_;omega,r.hd⟩
noncomputable def cxH (P:U8)(w:W1)(K:U0)(mg:U4)(base:Heap)(N:W0)(qual:Str)(scope:Scope)(f:W9)(cd:W2)(A:W6)(outer:List Env)(s:U7)(H:Hp):Cx :=
 { (cxOf CX0 P w K mg base N qual scope f cd A outer s H E0).nox with calm:=false }
structure FnOkH (g:W9) (P:U8) (w:W1) (K:U0) (mg:U4) (base:Heap) (k:Nat) (f:W9) (fd:FuncData) (ps:W0) (sp:Sp):Prop where
 len:∀ vs H Q E,sp vs H Q E->vs.length=ps.length
 run:∀ (A:W6) (outer:List Env) (s:U7) (H:Hp) (args:Args) (us:U5) (vs:List V) (Q:VK) (E:XK),RoomH g k A->Env0 P w K mg base A outer s H->BindsTo s fd args (ps.zip us)->Vals vs us->sp vs H Q E →
  codeAny (model P w) A (.call (.ref f) args) (CR CX0 outer P w H s Q E) s
theorem startH {P:U8}{w:W1}{K:U0}{mg:U4}{base:Heap}{N ps:W0}{qual:Str}{scope:Scope}{f:W9}{cd:W2}{A:W6}{outer:List Env}{s s1:U7}{H:Hp}{us:U5}{vs:List V}
  (S:FnScope N ps scope) (en:Env0 P w K mg base A outer s H) (hl:vs.length=ps.length) (r:Vals vs us)
  (x:InCallC s s.heap.objs.size (bindL (envOfC qual scope s.heap.objs.size f cd).kindOf (ps.zip us) λ_=>none) (cellsFrom (s.heap.objs.size+1) scope.names []) (bindC (envOfC qual scope s.heap.objs.size f cd).kindOf (ps.zip us) λ_=>none) s1) :
  Inv (cxH P w K mg base N qual scope f cd A outer s H) [] (start N vs) H s1:=by
 have en1:Env0 P w K mg base { A with handled:=none } outer s H:=⟨en.frames,en.mod,en.bs,en.bsz,en.funs,en.frf,en.hok,en.bare⟩
 have I0:Inv (cxOf CX0 P w K mg base N qual scope f cd { A with handled:=none } outer s H E0) [] (start N vs) H s1:=Z9j S rfl en1 hl r x
 exact⟨⟨I0.ok.mod,I0.ok.kind,I0.ok.glob,I0.ok.blt,I0.ok.above,I0.ok.inj,I0.ok.has,I0.ok.cab,(λz=>by cases z),I0.ok.frames,I0.ok.stk,I0.ok.exf,I0.ok.bs,I0.ok.bsz,I0.ok.noex,I0.ok.exfs,I0.ok.funs,I0.ok.frf⟩,
  I0.os,I0.bare,I0.base,I0.loc,I0.cell,I0.free,I0.freeC,I0.pin,I0.hok,I0.len⟩
theorem X7z {P:U8}{w:W1}{K:U0}{mg:U4}{base:Heap}{k:Nat}{f:W9}{name qual:Str}{params:Arguments}{body:W8}{scope:Scope}{dV kV doc pm cdv ct oc:W2}{an od:W5}
  {osl:W4}{N ps:W0}{sp:Sp} (lk:K.lookup f=some ⟨oc,od,.func (PySem.W.fnOf name qual params body scope dV kV doc pm an cdv ct),osl⟩) (hcd:PySem.W.codeIn K cdv qual=true) (S:FnScope N ps scope)
  (len:∀ vs H Q E,sp vs H Q E->vs.length=ps.length)
  (hbody:∀ (A:W6) (outer:List Env) (s:U7) (H:Hp) (vs:List V) (Q:VK) (E:XK),RoomH g k (A.deeper (envOfC qual scope s.heap.objs.size f cdv))->sp vs H Q E →
   ∃ t,PSs (cxH P w K mg base N qual scope f cdv A outer s H) body t/\t { nx:=λ_ H'=>Q .non H',rt:=Q } (start N vs) H) :
  FnOkH g P w K mg base (k+1) f (PySem.W.fnOf name qual params body scope dV kV doc pm an cdv ct) ps sp:=by
 refine⟨len,λA outer s H args us vs Q E hr e0 hb r hsp=>?_⟩
 have hl:=len _ _ _ _ hsp
 have KX:K.In s.heap:=e0.mod.kin.keeps λb o e=>(e0.bs b o e).1
 have lim:s.heap.NoLimit:=e0.mod.nolimit.keeps λb o e=>(e0.bs b o e).1
 have hkind:∀ y∈ps.zip us,scope.names.lookup y.1=some .local∨(scope.names.lookup y.1=some .cell/\((cellsFrom (s.heap.objs.size+1) scope.names []).lookup y.1).isSome=true):=λ⟨n,v⟩ hy=>by
  rcases S.par n (q6d hy).1 with q | q
  ·exact .inl q
  ·exact .inr ⟨q,q5k _ _ _ (.inl q)⟩
 refine q8b (by have:=hr.dp;omega) (KX _ _ lk) rfl S.co S.gen rfl (PySem.W.codeRec_of KX hcd) (hb _ _ _ _ ?_)
 refine q6h S.kind hkind λenv he s1 x=>?_
 subst he
 refine⟨lim.keeps x.toInCall.keep,codeAny_func ?_⟩
 obtain⟨t,ht,hq⟩:=hbody A outer s H vs Q E (hr.deeper _) hsp
 have I:Inv (cxH P w K mg base N qual scope f cdv A outer s H) [] (start N vs) H s1:=startH S e0 hl r x
 refine q1i (ht [] s1 (start N vs) H _ I hq) (λfl s' hs=>?_) λe s' hs=>False.elim hs
 have fin:∀ {σ':St}{H':Hp}{v:V}{u:W2},Inv (cxH P w K mg base N qual scope f cdv A outer s H) [] σ' H' s'->RelV v u->Q v H'->CE outer P w H s Q u s' :=
  λ{σ' H' v u} J rv q=>⟨v,H',J.os,J.bare,J.base,J.hok,rv,q⟩
 cases fl with
 | ret u =>
  obtain⟨v,σ',H',J,rv,q⟩:=hs
  exact fin J rv q
 | next =>
  obtain⟨σ',H',J,q⟩:=hs
  exact fin (v:=V.non) (u:=Value.none) J rfl q
 | brk =>
  obtain⟨_,_,_,q⟩:=hs
  exact False.elim q
 | cont =>
  obtain⟨_,_,_,q⟩:=hs
  exact False.elim q
structure CalH (g:W9) (P:U8) (w:W1) (K:U0) (mg:U4) (base:Heap) (k:Nat) (x:Str) (ps:W0) (sp:Sp):Prop where
 ex:∃ f fd,FnOkH g P w K mg base k f fd ps sp/\Binds K fd ps []/\PySem.W.keepIn K (.ref f)=true/\mg x=some (.ref f)
section
variable {X:Cx}{k:Nat}{x:Str}{ps:W0}{sp:Sp}{p pos:Pos}{e:Expr}{es:List Expr}{t:TA}{E:XK}
theorem X3c (c:CalH g X.prog X.w X.K X.mg X.base k x ps sp)(hr:RoomH g k X.A)(hg:Gl X x)(ha:PA X (e::es) t)(hdb:(x == ("__debug__":Str))=false:=by decide)
  (he:starEach (e::es) X.env=(false,eval e X.env)::starEach es X.env:=by rfl) (hpl:(backTo pos (starEach es X.env)).any (·.1)=false:=by rfl):PE X (.Call (.Name x p) (e::es) [] pos) (tCall sp [] E0 t):=by
 obtain⟨f,fd,F,b,kp,m⟩:=c.ex
 intro p2 s σ H Q I h
 refine q3f (Z4l I hg m ?_ hdb)
 refine q5f (h₀:=X.base) I.ok.mod.kin kp (thn (ha pos p2 s σ H _ I h) λus s1 ⟨vs,H1,I1,r,q⟩=>⟨I1.kIn,?_⟩) he hpl
 have q':sp vs H1 Q E0:=by have q2:sp (vs++[]) H1 Q E0:=q;rw[q3e] at q2;exact q2
 have hl:us.length=ps.length:=by rw[<-r.length];exact F.len _ _ _ _ q'
 have b2:=b s1 us I1.kIn (by rw[q3e];exact hl)
 rw[q3e] at b2
 refine q5b (q3n (F.run X.A X.stack s1 H1 ⟨us,[]⟩ us vs Q E0 hr I1.env0 b2 r q') λr s' hq=>?_)
 cases r with
 | error e=>exact False.elim hq
 | ok fl =>
  cases fl with
  | ret u=>exact I1.after hq
  | next=>exact False.elim hq
  | brk=>exact False.elim hq
  | cont=>exact False.elim hq
end
theorem FunAt.calH {P:U8}{w:W1}{K:U0}{mg:U4}{base:Heap}{x:Str}{st:Stmt}{dV:W2}{N ps:W0}{k:Nat}{sp:Sp}(F:FunAt K x st dV){h:Heap}(X:K.In h)(G:Ng h mg)(S:FnScope N ps (Z0h st))(bi:Z2i K x st dV ps)(len:∀ vs H Q E,sp vs H Q E->vs.length=ps.length)
  (hbody:∀ (f:W9) (cdv:W2) (A:W6) (outer:List Env) (s:U7) (H:Hp) (vs:List V) (Q:VK) (E:XK),RoomH g k (A.deeper (envOfC x (Z0h st) s.heap.objs.size f cdv))->sp vs H Q E →
   ∃ t,PSs (cxH P w K mg base N x (Z0h st) f cdv A outer s H) (Z0z st) t/\t { nx:=λ_ H'=>Q .non H',rt:=Q } (start N vs) H):CalH g P w K mg base (k+1) x ps sp:=by
 obtain⟨f,oc,od,kV,doc,pm,an,cdv,ct,osl,lk,hcd,kp,ns⟩:=F.ex
 exact⟨f,_,X7z lk hcd S len λA outer s H vs Q E hr hsp=>hbody f cdv A outer s H vs Q E hr hsp,bi kV doc pm an cdv ct,kp,q1j X G ns⟩
end L2
set_option maxHeartbeats 1000000
namespace K55S
open L2 Ba Am Pc M71
open K64 (top Bs At5 ValsK)
open M72 (VOk)
open M75 (Mk)
theorem X5a:bootBuiltins "ValueError"=some (.type "ValueError"):=by decide +kernel
set_option genInjectivity false in
set_option genSizeOf false in
structure Exs (K:U0) (mg:U4) (C D:W9) (bm bm':U5) where
 mD:mg "BoardError"=some (.ref D)
 mV:mg "ValueError"=none
 mC:mg "NotBorne"=some (.ref C)
 hC:ClsAt K C bm
 xD:ExcAt K D bm'
 sub:(Value.ref C::bm).contains (.ref D)=true
 gC:PySem.W.ExcG K C
 na:NoAttr K C "place"
 ve:PySem.W.kitOne K (.ref C) (.type "ValueError")=some true
 own:PySem.W.kitOne K (.ref C) (.ref C)=some true
 a_NeverSo:Addr
 mo_NeverSo:mg "NeverSo"=some (.ref a_NeverSo)
 a_NoAmount:Addr
 mo_NoAmount:mg "NoAmount"=some (.ref a_NoAmount)
 a_NoBoard:Addr
 mo_NoBoard:mg "NoBoard"=some (.ref a_NoBoard)
 a_NoCell:Addr
 mo_NoCell:mg "NoCell"=some (.ref a_NoCell)
 a_NoMark:Addr
 mo_NoMark:mg "NoMark"=some (.ref a_NoMark)
 a_NoMove:Addr
 mo_NoMove:mg "NoMove"=some (.ref a_NoMove)
 a_NoShare:Addr
 mo_NoShare:mg "NoShare"=some (.ref a_NoShare)
 a_NoTable:Addr
 mo_NoTable:mg "NoTable"=some (.ref a_NoTable)
 a_NoText:Addr
 mo_NoText:mg "NoText"=some (.ref a_NoText)
 a_Unguarded:Addr
 mo_Unguarded:mg "Unguarded"=some (.ref a_Unguarded)
 k1:PySem.W.kitAny K (.ref C) [.ref a_NeverSo,.ref a_NoAmount,.ref a_NoBoard,.ref a_NoCell,.ref a_NoMark,.ref a_NoMove,.ref a_NoShare]=some false
 k2:PySem.W.kitAny K (.ref C) [.ref a_NoTable,.ref a_NoText,.ref a_Unguarded]=some false
def Z8w (C:W9):Sp:=λvs H _ E=>∃ (l:W9) (row:List Mv) (i:Nat),vs=[.ref l]/\RowAt H l row/\row.length<=200/\plc 0 row=some i/\∀ (H':Hp) (dx:W9),Same H H'->H' dx=some (.xd [("place",.int i)])->E (.ref C) (some dx) H'
def Y4f (C:W9):Sp:=λvs H _ E=>∃ (v:V) (l:W9) (row:List Mv) (i:Nat),vs=[v,.ref l]/\RowAt H l row/\row.length<=200/\plc 0 row=some i/\∀ (H':Hp) (dx:W9),Same H H'->H' dx=some (.xd [("place",.int i)])->E (.ref C) (some dx) H'
def Z8x:Sp:=λvs H Q _=>∃ (v:V) (l:W9) (row:List Mv) (i:Nat),vs=[v,.ref l,.int i]/\RowAt H l row/\row.length<=200/\plc 0 row=some i/\∀ H':Hp,Same H H'->Q (.bl true) H'
section
variable {P:U8}{w:W1}{K:U0}{mg:U4}{base:Heap}{k:Nat}{h:Heap}{C D fi:W9}{bm bm':U5}{qual:Str}
theorem X2o:FnScope ["self","place"] ["self","place"] (Z0h (Z2h (top 11) 0)):=fS
theorem X3s (x:InitAt K C fi qual (Z2h (top 11) 0) bm)(na:NoAttr K C "place"):InitCal P w K mg base (k+1) C bm "place":=by
 refine x.cal na X2o (λ_ _ _ _ _ _ _ _=>rfl) λf' cdv A outer s H vs Q E h=>?_
 obtain⟨a,y,rfl,ha,q⟩:=h
 refine⟨_,@Z0g _ _ _ (X2w (C:=C) x.sa x.po x.g.dc na (pv 0) (pv 1) rfl),?_⟩
 exact⟨_,Z,_,Z,a,Z,ha,λdx h1 h2=>q dx h1 h2⟩
theorem Y2w {tM:Tok}(F:FunAt K "check_summed" (top 54) .none)(X:K.In h)(G:Ng h mg)(B:Bs mg)(mI:mg "NotBorne"=some (.ref C))(gM:mg "MOST_ODD_TURNS"=some (.int 6 tM))(eC:InitCal P w K mg base k C bm "place")(cB:Cal P w K mg base (k+1) "is_odd_turn" ["move"] spOdd):CalX P w K mg base (k+2) "check_summed" ["row"] (Z8w C):=by
 have nd:=sc_summed.nd
 refine F.calX X G sc_summed (bnd1 λ_ _ _ _ _ _ _=>rfl) (λvs H Q E h=>?_) (λf cdv A outer s H vs Q E hr h=>?_)
 ·obtain⟨l,row,i,rfl,_⟩:=h;rfl
 obtain⟨l,row,pi,rfl,⟨ps,hl,hrow⟩,l200,pn,kq⟩:=h
 have SL:SqL K H l (ps.map V.ref):=SqL.of hl
 have pl:ps.length=row.length:=by have:=Z3d hrow;rw[q0a] at this;exact this
 refine⟨_,(@Z0e _ _ _ _ _ (@Z0o _ _ 1 _ _ _ _ nd rfl (Or.inl rfl) Z0b rfl (.inl rfl))
  (@Z0g _ _ _ (Z1u PassesOwn.leaving rfl (Y0e rfl B.enumerate (Z0a (pv 0) Z0d)) (@Z2z _ _ _ _ _ _ rfl (@Z0v _ _ _ _ _ (@Z0m _ _ 2 _ nd rfl (Or.inl rfl) (by first | exact .inl rfl | exact .inr rfl)) (@Z0v _ _ _ _ _ (@Z0m _ _ 3 _ nd rfl (Or.inl rfl) (by first | exact .inl rfl | exact .inr rfl)) Z2f rfl) rfl) rfl rfl)
   (@Z1c _ _ _ _ _ (Z1b (Z1l (Z0n cB hr rfl (Z0a (pv 3) Z0d)))
    (@Z0g _ _ _ (@Z0o _ _ 1 _ _ _ _ nd rfl (Or.inl rfl) (Z0i Z1f (pv 1) Z0b) rfl (.inl rfl)))
    Z0r)
   (@Z0g _ _ _ (Z1b (PW.pt (Z2y (Z0q Z1j (Z0k Z0j (pv 3) Z0b (λ_ _=>rfl)) Z1h (nomark _)) (Z2n (Z0q Y2v (pv 1) (Z2s (v:=.int 6) rfl gM ⟨_,Z⟩) (nomark _)))))
    (@Z0g _ _ _ (Y4o eC hr flies_of rfl rfl mI (Z0a (pv 2) Z0d)))
    Z0r)))))),?_⟩
 try dsimp only[cxK]
 refine⟨_,Z,l,_,Z,SL,Y2g (K:=K) (a:=l) (xs:=ps.map V.ref) (λi σ H'=>Same H H'/\NS row i/\∃ (v1 v2:Option V),σ=[some (.ref l),some (.int ((cO (row.take i):Nat):Int)),v1,v2])
  ⟨Same.refl _,NS.zero _,none,none,Z⟩ (λi σ H' _ e=>e.1.seq SL) ?_ ?_⟩
 ·rintro i x σ H1 T hx ⟨S1,hn,v1,v2,rfl⟩ hT
  rw[q0n] at hx
  obtain⟨q,hq,rfl⟩:=q0l.mp hx
  obtain⟨y,hy,ey⟩:=Z3v hrow hq
  have S2:=S1.trans (Z0f hT (.tup [.int i,.ref q]))
  refine⟨T,_,Z,SqT.of Z0c,Z,_,_,Z,_,_,Z,Z,?_⟩
  generalize upd H1 T (.tup [.int i,.ref q])=H2 at S2 ⊢
  have t1:cO (row.take (i+1))=cO (row.take i)+o1 y:=by rw[q1f,hy];exact Z3f _ _
  refine⟨λσ' H'=>H2=H'/\σ'=[some (.ref l),some (.int ((cO (row.take (i+1)):Nat):Int)),some (.int i),some (.ref q)],?_,?_⟩
  ·refine⟨_,Z,q,y,Z,S2 _ _ ey,_,Z,blI (λho=>⟨_,Z,_,_,Z,Z,Z,?_⟩) (λho=>⟨Z,?_⟩)⟩
   ·rw[t1,o1,if_pos ho]
    rfl
   ·rw[t1,o1,if_neg (by rw[ho];decide)]
    rfl
  rintro σ' _ ⟨rfl,rfl⟩
  have SP:SqT K H2 q (.str (nm y)::(ns y).map V.int):=SqT.of (S2 _ _ ey)
  have go:(isX y || decide (6<cO (row.take i)+o1 y))=true->pi=i:=λe=>by
   rw[hn.stop hy e] at pn
   exact(Option.some.inj pn).symm
  refine⟨_,Z,q,_,_,.str (nm y),Z,Z,SP,at0m y,Z,_,Z,decI (λe=>?_) (λe=>?_)⟩
  ·have:=go (by rw[show isX y=true from q0t (V.str.inj e)];rfl)
   subst this
   exact⟨_,Z,_,Z,λdx hd=>kq _ dx (S2.trans (Z0f hd _)) Z0c⟩
  ·have ix:isX y=false:=q0j λz=>e (by rw[z])
   refine⟨_,Z,_,_,Z,Z,_,Z,decI (λe=>?_) (λe=>⟨S2,hn.next hy (by rw[ix,q4k];exact q0j (by omega)),_,_,Z⟩)⟩
   have:=go (by rw[ix,q4k];exact q0t (by omega))
   subst this
   exact⟨_,Z,_,Z,λdx hd=>kq _ dx (S2.trans (Z0f hd _)) Z0c⟩
 ·rintro σ H1 ⟨S1,hn,v1,v2,rfl⟩
  rw[q0a,pl] at hn
  rw[hn.fin] at pn
  cases pn
theorem Y8g (F:FunAt K "back_sum" (top 53) .none)(X:K.In h)(G:Ng h mg)(x_summed:CalX P w K mg base k "check_summed" ["row"] (Z8w C)):CalX P w K mg base (k+1) "back_sum" ["mark","row"] (Y4f C):=by
 have nd:=sc_back.nd
 refine F.calX X G sc_back (bnd2 λ_ _ _ _ _ _ _ _=>rfl) (λvs H Q E h=>?_) (λf cdv A outer s H vs Q E hr h=>?_)
 ·obtain⟨v,l,row,i,rfl,_⟩:=h;rfl
 obtain⟨v,l,row,i,rfl,R,l200,fi,kq⟩:=h
 refine⟨_,(@Z0e _ _ _ _ _ (Z2v (X3a x_summed (flies_of.passes λ_ _ _ z=>z) hr rfl (Z0a (pv 1) Z0d))) Y4n),?_⟩
 try dsimp only[cxK]
 exact⟨_,Z,l,row,i,Z,R,l200,fi,kq⟩
theorem Y5c (g:W9)(F:FunAt K "_law_whole" (top 62) .none)(X:K.In h)(G:Ng h mg)(B:Bs mg):CalH g P w K mg base (k+1) "_law_whole" ["_law_found"] Z4f:=by
 have nd:=K64.sc_whole.nd
 refine F.calH X G K64.sc_whole (bnd1 λ_ _ _ _ _ _ _=>rfl) (λvs H Q E h=>?_) (λf cdv A outer s H vs Q E hr h=>?_)
 ·obtain⟨i,rfl,_⟩:=h;rfl
 obtain⟨i,rfl,q⟩:=h
 refine⟨_,(@Z0g _ _ _ (Z0l (Z4c (Z0p Z1k rfl B.isinstance q1g (Z0a (pv 0) (Z0a (Z1w (v:=.ty "int") rfl B.int q9e rfl) Z0d))) (Z3n (Y4s (Z0p Z1k rfl B.isinstance q1g (Z0a (pv 0) (Z0a (Z1w (v:=.ty "bool") rfl B.bool boot_bool rfl) Z0d)))))))),?_⟩
 try dsimp only[cxK]
 exact⟨_,Z,_,_,_,true,Z,TyOf.int i,Y5w K,_,Z,iteT ⟨_,Z,_,_,_,false,Z,TyOf.int i,Y5x K,_,Z,q⟩⟩
theorem sc_refused:FnScope ["_law_mark","_law_row","_law_place_here","e","_law_others"] ["_law_mark","_law_row","_law_place_here"] (Z0h (top 79)):=fS
theorem Y2x (F:FunAt K "_law_refused" (top 79) .none)(X:K.In h)(G:Ng h mg)(B:Bs mg)(x:Exs K mg C D bm bm')(x_back:CalX P w K mg base k "back_sum" ["mark","row"] (Y4f C))(h_whole:∀ g,CalH g P w K mg base k "_law_whole" ["_law_found"] Z4f) :
  Cal P w K mg base (k+1) "_law_refused" ["_law_mark","_law_row","_law_place_here"] Z8x:=by
 have nd:=sc_refused.nd
 refine F.cal X G sc_refused (bnd3 λ_ _ _ _ _ _ _ _ _=>rfl) (λvs H Q E h=>?_) (λf cdv A outer s H vs Q E hr h=>?_)
 ·obtain⟨v,l,row,i,rfl,_⟩:=h;rfl
 obtain⟨v,l,row,i,rfl,R,l200,fi,kq⟩:=h
 refine⟨_,(@Z0e _ _ _ _ _ (X2v (E:=λcls di H1=>cls=.ref C/\Same H H1/\∃ dx,di=some dx/\H1 dx=some (.xd [("place",.int ((i:Nat):Int))])) (i:=3) ⟨Z,Z⟩ nd rfl rfl rfl x.mD x.hC x.xD x.sub (λ_ _ _ z=>z.1)
   (λpins σ=>@Z0g _ _ _ (Z2v (X3b (σ0:=σ) x_back hr rfl (Z0a (pv 0) (Z0a (pv 1) Z0d)))))
   (λa=>@Z0e _ _ _ _ _ (@Z0o _ _ 4 _ _ _ _ nd rfl (Or.inl rfl) (Z0p Z4e rfl B.isinstance q1g (Z0a (pv 3) (Z0a (@Z0y _ _ _ _ _ (Z0a (Z3m rfl (x.mo_NeverSo)) (Z0a (Z3m rfl (x.mo_NoAmount)) (Z0a (Z3m rfl (x.mo_NoBoard)) (Z0a (Z3m rfl (x.mo_NoCell)) (Z0a (Z3m rfl (x.mo_NoMark)) (Z0a (Z3m rfl (x.mo_NoMove)) (Z0a (Z3m rfl (x.mo_NoShare)) Z0d)))))))) Z0d))) rfl (.inl rfl))
    (@Z0e _ _ _ _ _ (Z1b (PW.pt (Z2y (Z1l (pv 4)) (Z2y (Z1l (Z0p Z4e rfl B.isinstance q1g (Z0a (pv 3) (Z0a (@Z0y _ _ _ _ _ (Z0a (Z3m rfl (x.mo_NoTable)) (Z0a (Z3m rfl (x.mo_NoText)) (Z0a (Z3m rfl (x.mo_Unguarded)) Z0d)))) Z0d)))) (Z2n (Z1z (Z1l (Z0p Z4y rfl B.isinstance q1g (Z0a (pv 3) (Z0a (Z1w (v:=.ty "ValueError") rfl x.mV X5a rfl) Z0d))))))))) (@Z0g _ _ _ (Z0l Z2w)) Z0r)
    (@Z0g _ _ _ (Z0l (Z4c (Z0p Z4y rfl B.isinstance q1g (Z0a (pv 3) (Z0a (Z3m rfl (x.mC)) Z0d))) (Z4c (X3c (h_whole a) (hr.h a) rfl (Z0a (Y1r (pv 3) rfl) Z0d)) (Z3n (Z1o Z1j (Y1r (pv 3) rfl) (pv 2) (nomark _))))))))))
  (@Z0g _ _ _ (Z0l Z2w))),?_⟩
 try dsimp only[cxK]
 refine⟨?_,?_⟩
 ·exact⟨_,Z,_,Z,Z,v,l,row,i,Z,R,l200,fi,λH' dx S hd=>⟨Z,S,dx,Z,hd⟩⟩
 ·rintro ea cls di H2 ⟨rfl,S2,dx,rfl,hd⟩ hea
  have e0:upd H2 ea (ExcO (some dx) ea (.ref C)) ea=some (ExcO (some dx) ea (.ref C)):=Z0c
  have S3:=S2.trans (Z0f hea (ExcO (some dx) ea (.ref C)))
  have d0:upd H2 ea (ExcO (some dx) ea (.ref C)) dx=some (.xd [("place",.int i)]):=Z0f hea _ _ _ hd
  generalize upd H2 ea (ExcO (some dx) ea (.ref C))=H3 at e0 S3 d0 ⊢
  have dxx:∀ {H':Hp},Same H3 H'->Dx H' (some dx):=λS d e=>by cases e;exact⟨_,S _ _ d0⟩
  refine⟨_,Z,(show 7<=sizeLine by decide),λt1 f1=>?_⟩
  have s1:=Z0f f1 (.tup ([x.a_NeverSo,x.a_NoAmount,x.a_NoBoard,x.a_NoCell,x.a_NoMark,x.a_NoMove,x.a_NoShare].map V.ref))
  refine⟨ea,some dx,C,t1,[x.a_NeverSo,x.a_NoAmount,x.a_NoBoard,x.a_NoCell,x.a_NoMark,x.a_NoMove,x.a_NoShare],false,Z,s1 _ _ e0,dxx s1,x.gC,SqT.of Z0c,x.k1,?_⟩
  refine⟨_,Z,_,Z,iteF ⟨_,Z,(show 3<=sizeLine by decide),λt2' f2=>?_⟩⟩
  have s2:=s1.trans (Z0f f2 (.tup ([x.a_NoTable,x.a_NoText,x.a_Unguarded].map V.ref)))
  refine⟨ea,some dx,C,t2',[x.a_NoTable,x.a_NoText,x.a_Unguarded],false,Z,s2 _ _ e0,dxx s2,x.gC,SqT.of Z0c,x.k2,_,Z,iteF ?_⟩
  refine⟨_,Z,ea,some dx,C,_,_,true,Z,s2 _ _ e0,dxx s2,x.gC,Z,x.ve,_,Z,iteF ?_⟩
  refine⟨_,Z,ea,some dx,C,_,_,true,Z,s2 _ _ e0,dxx s2,x.gC,Z,x.own,_,Z,iteT ?_⟩
  refine⟨_,Z,ea,dx,C,_,_,Z,s2 _ _ e0,s2 _ _ d0,x.gC,x.na,Z,i,Z,_,Z,iteT ?_⟩
  refine⟨_,Z,ea,dx,C,_,_,Z,s2 _ _ e0,s2 _ _ d0,x.gC,x.na,Z,_,Z,Z,?_⟩
  show Q (.bl (decide (V.int (i:Nat)=V.int (i:Nat)))) _
  rw[q0t rfl]
  exact kq _ (S3.trans s2)
end
end K55S
set_option maxHeartbeats 4000000
namespace K64
open L2 Am Pc Ba
def Z5q:Sp:=λvs H Q _=>∃ (cl:Int) (c:Nat),vs=[.int cl,.int c]/\1<=c/\c<=6/\∀ (r:W9) (H':Hp) (nm:Str) (ns:U6),Same H H'->H' r=some (MvT nm ns)->((nm="mix"/\∃ a:Nat,a<c/\ns=[(a:Int)])∨∃ v:Mv,v.Ok c/\nm=v.nm/\ns=v.ns)->Q (.ref r) H'
theorem pick {L:U6}{i:Int}(h0:0<=i)(h1:i<L.length):∃ e∈L,atI (L.map V.int) i=some (.int e):=by
 refine⟨L.getD i.toNat 0,?_,Y7h h0 h1⟩
 rw[q0i,q0d (by omega)]
 exact q3w _
structure Rest (c:Nat) (no:List Nat) (R:U6):Prop where
 only:∀ e∈R,∃ j:Nat,e=(j:Int)/\j<c/\j ∉ no
 all:∀ j:Nat,j<c->j ∉ no->(j:Int)∈R
 len:R.length<=6
theorem Rest.pos1 {c a:Nat}{R:U6}(r:Rest c [a] R)(h:2<=c):0<R.length:=by
 by_cases e:a=0
 ·exact q5l (r.all 1 (by omega) (by simp;omega))
 ·exact q5l (r.all 0 (by omega) (by simp;omega))
theorem Rest.pos2 {c a b:Nat}{R:U6}(r:Rest c [a,b] R)(h:3<=c):0<R.length:=by
 have:∃ j:Nat,j<3/\j≠a/\j≠b:=by
  by_cases h0:0≠a/\0≠b
  ·exact⟨0,by decide,h0.1,h0.2⟩
  ·by_cases h1:1≠a/\1≠b
   ·exact⟨1,by decide,h1.1,h1.2⟩
   ·exact⟨2,by decide,by omega,by omega⟩
 obtain⟨j,j3,ja,jb⟩:=this
 exact q5l (r.all j (by omega) (by simp;omega))
theorem Rest.filter {c a b:Nat}{R:U6}(r:Rest c [a] R){p:Int->Bool}(hp:∀ e,p e=!decide (V.int e=V.int b)):Rest c [a,b] ((R.filter p).map id):=by
 rw[List.map_id]
 refine⟨λe he=>?_,λj hj hn=>?_,q1m (q4e _ _) r.len⟩
 ·obtain⟨h1,h2⟩:=q4d.mp he
  obtain⟨j,rfl,jc,ja⟩:=r.only e h1
  refine⟨j,Z,jc,?_⟩
  rw[hp] at h2
  have h3:¬ (V.int (j:Int)=V.int (b:Int)):=by simpa using h2
  have h4:j≠b:=λz=>h3 (by rw[z])
  have h5:j≠a:=by simpa using ja
  simp
  exact⟨h5,h4⟩
 ·simp at hn
  refine q4d.mpr ⟨r.all j hj (by simp;exact hn.1),?_⟩
  rw[hp,q0j (λz=>hn.2 (by have:=V.int.inj z;omega))]
  rfl
section
variable {P:U8}{w:W1}{K:U0}{mg:U4}{base:Heap}{k:Nat}{h:Heap}
theorem sc_moveby:FnScope ["_law_cell","_law_cells","_law_far_here","_law_kind","_law_a","_law_rest","_law_b"] ["_law_cell","_law_cells"] (Z0h (top 74)):=fS
theorem Y5g (F:FunAt K "_law_move_by" (top 74) .none)(X:K.In h)(G:Ng h mg)(B:Bs mg):Cal P w K mg base (k+1) "_law_move_by" ["_law_cell","_law_cells"] Z5q:=by
 have nd:=sc_moveby.nd
 refine F.cal X G sc_moveby (bnd2 λ_ _ _ _ _ _ _ _=>rfl) (λvs H Q E h=>?_) (λf cdv A outer s H vs Q E hr h=>?_)
 ·obtain⟨cl,c,rfl,_⟩:=h;rfl
 obtain⟨cl,c,rfl,c1,c6,kq⟩:=h
 have cpos:(0:Int)<(c:Int):=by omega
 refine⟨_,(@Z1c _ _ _ _ _ (@Z0o _ _ 2 _ _ _ _ nd rfl (Or.inl rfl) (Z0i Z0x (Z0i Z3h (pv 0) Z0b) Z0b) rfl (.inl rfl))
  (@Z1c _ _ _ _ _ (@Z0o _ _ 3 _ _ _ _ nd rfl (Or.inl rfl) (Z0i Z0x (pv 2) Z0b) rfl (.inl rfl))
  (@Z1c _ _ _ _ _ (Z1b (PW.pt (Z2y (Z0q Z1j (pv 1) Z0b (nomark _)) (Z2n (PW.pt (Z6c (Z0q Z1j (pv 1) Z0b (nomark _)) (Z4g (Z0q Z1j (pv 3) Z0b (nomark _))))))))
   (@Z0g _ _ _ (@Z0o _ _ 3 _ _ _ _ nd rfl (Or.inl rfl) (Z0i Z0x (pv 3) Z0b) rfl (.inl rfl)))
   Z0r)
  (@Z1c _ _ _ _ _ (@Z0o _ _ 4 _ _ _ _ nd rfl (Or.inr rfl) (Z0i Z0x (Z0i Z1g (pv 2) Z0b) (pv 1)) rfl (.inl rfl))
  (@Z0e _ _ _ _ _ (Z1b (Z0q Z1j (pv 3) Z0b (nomark _))
   (@Z0g _ _ _ (Z0l (@Z0y _ _ _ _ _ (Z0a Z1h (Z0a (pv 4) (Z0a (Z0i Z1f Z0b (Z0i Z0x (Z0i Z1g (pv 2) Z0b) Z0b)) Z0d))))))
   Z0r)
  (@Z0e _ _ _ _ _ (Z1b (Z0q Y0g (pv 3) Z0b (nomark _))
   (@Z0g _ _ _ (Z0l (@Z0y _ _ _ _ _ (Z0a (Z0k Z0w (@Z2r _ _ _ _ (Z0a Z1h (Z0a Z1h Z0d))) (pv 3) (λ_ _=>rfl)) (Z0a (pv 4) Z0d)))))
   Z0r)
  (@Z1c _ _ _ _ _ (Z6d (i:=5) rfl nd rfl rfl (LcOk.of (Nc:=["_law_c","_law_a"]) (mp:=[none,some 4]) (by kernel_rfl)) (Z1e rfl B.range (Z0a (pv 1) Z0d)) (λ_ _ _ _=>(Z0m (i:=0) (show (["_law_c","_law_a"]:W0).Nodup by decide +kernel) rfl (Or.inl rfl))) (λ_ _ _ _=>(Z0q Z5m (pv 0) (pv 1) (nomark _))) (λ_ _ _ _=>(pv 0)) rfl)
  (@Z1c _ _ _ _ _ (@Z0o _ _ 6 _ _ _ _ nd rfl (Or.inr rfl) (Z0k Z0w (pv 5) (Z0i Z0x (Z0i Z1g (pv 2) Z0b) (Z0p Z0s rfl B.len q1c (Z0a (pv 5) Z0d))) (λ_ _=>rfl)) rfl (.inl rfl))
  (@Z0e _ _ _ _ _ (Z1b (Z0q Y0g (pv 3) Z0b (nomark _))
   (@Z0g _ _ _ (Z0l (@Z0y _ _ _ _ _ (Z0a (Z0k Z0w (@Z2r _ _ _ _ (Z0a Z1h (Z0a Z1h (Z0a Z1h Z0d)))) (Z0i Z1t (pv 3) Z0b) (λ_ _=>rfl)) (Z0a (pv 4) (Z0a (pv 6) Z0d))))))
   Z0r)
  (@Z1c _ _ _ _ _ (Z6d (i:=5) rfl nd rfl rfl (LcOk.of (Nc:=["_law_c","_law_b"]) (mp:=[none,some 6]) (by kernel_rfl)) (Z1r (pv 5)) (λ_ _ _ _=>(Z0m (i:=0) (show (["_law_c","_law_b"]:W0).Nodup by decide +kernel) rfl (Or.inl rfl))) (λ_ _ _ _=>(Z0q Z5m (pv 0) (pv 1) (nomark _))) (λ_ _ _ _=>(pv 0)) rfl)
  (@Z0g _ _ _ (Z0l (@Z0y _ _ _ _ _ (Z0a Z1h (Z0a (pv 4) (Z0a (pv 6) (Z0a (Z0k Z0w (pv 5) (Z0i Z0x (Z0i Z1g (pv 2) Z0b) (Z0p Z0s rfl B.len q1c (Z0a (pv 5) Z0d))) (λ_ _=>rfl)) Z0d))))))))))))))))),?_⟩
 try dsimp only[cxK]
 refine⟨λσ H'=>H'=H/\∃ n:Nat,σ=[some (.int cl),some (.int c),some (.int n),none,none,none,none],?_,?_⟩
 ·refine⟨_,Z,_,_,Z,Z,.inr ⟨by decide,by decide⟩,_,_,Z,Z,X3d,Z,?_⟩
  have h0:=q2h (cl*48271) (q4g X3d)
  refine⟨(cl*48271%2147483647).toNat,?_⟩
  rw[q4x h0]
  rfl
 rintro σ1 H1 ⟨rfl,n,rfl⟩
 refine⟨λσ H'=>H'=H1/\∃ t:Nat,t<7/\σ=[some (.int cl),some (.int c),some (.int n),some (.int t),none,none,none],?_,?_⟩
 ·refine⟨_,Z,_,_,Z,Z,p_7,Z,n%7,q7b _ (by decide),?_⟩
  rfl
 rintro σ2 H2 ⟨rfl,t,t7,rfl⟩
 refine⟨λσ H'=>H'=H2/\∃ t:Nat,t<7/\(c=1->t<3)/\(c=2->t≠6)/\σ=[some (.int cl),some (.int c),some (.int n),some (.int t),none,none,none],?_,?_⟩
 ·have mod:∃ t':Nat,t'<7/\(c=1->t'<3)/\(c=2->t'≠6)/\[some (V.int cl),some (V.int c),some (V.int n),some (V.int ((t:Int)%3)),none,none,none]=[some (V.int cl),some (V.int c),some (V.int n),some (V.int t'),none,none,none]:=⟨t%3,by omega,by omega,by omega,Z⟩
  refine⟨_,Z,Z,_,Z,eqI (λ_=>?_) (λhc1=>?_)⟩
  ·exact⟨_,Z,_,_,Z,Z,p_3,Z,mod⟩
  ·refine⟨_,Z,Z,_,Z,eqI (λ_=>⟨_,Z,Z,_,Z,eqI (λ_=>⟨_,Z,_,_,Z,Z,p_3,Z,mod⟩) (λh6=>⟨Z,t,t7,λz=>absurd (by rw[z];rfl) hc1,λ_ z=>h6 (by rw[z];rfl),Z⟩)⟩) (λhc2=>⟨Z,t,t7,λz=>absurd (by rw[z];rfl) hc1,λz=>absurd (by rw[z];rfl) hc2,Z⟩)⟩
 rintro σ3 H3 ⟨rfl,t,t7,t1,t2',rfl⟩
 refine⟨λσ H'=>H'=H3/\∃ a:Nat,a<c/\σ=[some (.int cl),some (.int c),some (.int n),some (.int t),some (.int a),none,none],?_,?_⟩
 ·refine⟨_,Z,_,_,Z,Z,⟨by decide,by decide⟩,_,Z,_,_,Z,Z,cpos,Z,n / 7%c,q7b _ (by omega),?_⟩
  rfl
 rintro σ4 H4 ⟨rfl,a,ac,rfl⟩
 refine⟨_,Z,Z,_,Z,eqI (λ_=>?_) (λn2=>?_)⟩
 ·refine⟨_,Z,_,Z,_,_,Z,Z,⟨by decide,by decide⟩,_,_,Z,Z,p_7,_,_,Z,Z,t3,λr hr=>?_⟩
  refine kq r _ "turn" [(a:Int),((1+n / 49%7:Nat):Int)] (Z0f hr _) ?_ (.inr ⟨.turn a (1+n / 49%7),⟨ac,by omega,by omega⟩,Z,Z⟩)
  rw[Z0c]
  rfl
 refine⟨_,Z,_,_,Z,Z,_,Z,decI (λl2=>?_) (λl2=>?_)⟩
 ·refine⟨t2,λlq hlq=>?_⟩
  have s1:=Z0f hlq (.lst [.str "flip",.str "mix"])
  have tt:t=0∨t=1:=by omega
  rcases tt with rfl | rfl
  ·refine⟨_,Z,lq,_,_,.str "flip",Z,Z,SqL.of Z0c,Z,_,Z,t2,λr hr=>?_⟩
   exact kq r _ "flip" [(a:Int)] (s1.trans (Z0f hr _)) Z0c (.inr ⟨.flip a,ac,Z,Z⟩)
  ·refine⟨_,Z,lq,_,_,.str "mix",Z,Z,SqL.of Z0c,Z,_,Z,t2,λr hr=>?_⟩
   exact kq r _ "mix" [(a:Int)] (s1.trans (Z0f hr _)) Z0c (.inl ⟨Z,a,ac,Z⟩)
 have t3':3<=t:=by omega
 have c2:2<=c:=by omega
 refine⟨λσ H'=>Same H4 H'/\∃ (l:W9) (R:U6),H' l=some (.lst (R.map V.int))/\Rest c [a] R/\σ=[some (.int cl),some (.int c),some (.int n),some (.int t),some (.int a),some (.ref l),none],?_,?_⟩
 ·refine⟨_,Z,_,Z,by omega,by omega,λacc hacc=>?_⟩
  rw[q1o]
  refine Y5v (n:=c) (fr:=[some (.int a)]) (λi ys H'=>Same H4 H'/\H' acc=some (.lst ys)/\∃ R:List Int,ys=R.map V.int/\Rest i [a] R/\R.length<=i) (t64 (by omega)) ⟨Z0f hacc _,Z0c,[],Z,⟨λe he=>(nomatch he),λj hj=>absurd hj (q3d _),by decide⟩,q0f _⟩ ?_ (λhm z=>?_) ?_
  ·rintro i ys H5 N hi hl ⟨S5,a5,R,rfl,RR,lR⟩ kN
   have z0:(0:Int)+(i:Int)=(i:Int):=q5s _
   refine⟨_,Z,_,Z,Z,_,Z,kN _ _ (λhb=>?_) (λhb=>?_)⟩
   ·have ne:i≠a:=λz=>by
     subst z
     rw[z0,q0t rfl] at hb
     cases hb
    refine⟨_,Z,a5,Z1a S5 hacc,Z0c,R++[(i:Int)],by rw[q0k,z0];rfl,⟨λe he=>?_,λj hj hn=>?_,by rw[q0x];simp;omega⟩,by rw[q0x];simp;omega⟩
    ·rcases q2g.mp he with h | h
     ·obtain⟨j,e1,e2,e3⟩:=RR.only e h
      exact⟨j,e1,by omega,e3⟩
     ·exact⟨i,q1e.mp h,by omega,by simp;exact ne⟩
    ·by_cases e:j=i
     ·rw[e];exact q1b _ (q1e.mpr rfl)
     ·exact q4o _ (RR.all j (by omega) hn)
   ·have eq:i=a:=by
     rw[z0] at hb
     have:((i:Int))=(a:Int):=by
      have h2:decide (V.int (i:Int)=V.int (a:Int))=true:=by simpa using hb
      exact V.int.inj (q2m h2)
     omega
    exact⟨S5,a5,R,Z,⟨λe he=>by obtain⟨j,e1,e2,e3⟩:=RR.only e he;exact⟨j,e1,by omega,e3⟩,λj hj hn=>RR.all j (by have:j≠i:=(λz=>hn (by simp;omega));omega) hn,RR.len⟩,by omega⟩
  ·obtain⟨v,e,z⟩:=z
   exact⟨v,e,hm _ _ z⟩
  ·rintro ys H5 ⟨S5,a5,R,rfl,RR,lR⟩
   exact⟨S5,acc,R,a5,RR,Z⟩
 rintro σ5 H5 ⟨S5,l,R,hl,RR,rfl⟩
 have posR:=RR.pos1 c2
 have SL:SqL K H5 l (R.map V.int):=SqL.of hl
 have lenR:(R.map V.int).length=R.length:=q0a _
 refine⟨λσ H'=>H'=H5/\∃ b:Nat,b<c/\b≠a/\σ=[some (.int cl),some (.int c),some (.int n),some (.int t),some (.int a),some (.ref l),some (.int b)],?_,?_⟩
 ·obtain⟨e,he,ae⟩:=pick (L:=R) (i:=((n:Int) / 49)%((R.map V.int).length:Int)) (q2h _ (by rw[lenR];omega)) (by rw[lenR];exact q2i _ (by omega))
  obtain⟨b,rfl,bc,ba⟩:=RR.only e he
  refine⟨_,Z,_,Z,_,_,Z,Z,⟨by decide,by decide⟩,_,Z,l,_,Z,.inl SL,_,_,Z,Z,(by rw[lenR];omega),l,_,_,_,Z,Z,SL,ae,Z,b,bc,by simpa using ba,Z⟩
 rintro σ6 H6 ⟨rfl,b,bc,ba,rfl⟩
 refine⟨_,Z,_,_,Z,Z,_,Z,decI (λl6=>?_) (λl6=>?_)⟩
 ·refine⟨t3,λlq hlq=>?_⟩
  have s1:=Z0f hlq (.lst [.str "if",.str "pair",.str "swap"])
  have tt:t=3∨t=4∨t=5:=by omega
  rcases tt with rfl | rfl | rfl
  ·refine⟨_,Z,_,_,Z,Z,lq,_,_,.str "if",Z,Z,SqL.of Z0c,Z,_,Z,_,Z,t3,λr hr=>?_⟩
   exact kq r _ "if" [(a:Int),(b:Int)] ((S5.trans s1).trans (Z0f hr _)) Z0c (.inr ⟨.iff a b,⟨ac,bc,Ne.symm ba⟩,Z,Z⟩)
  ·refine⟨_,Z,_,_,Z,Z,lq,_,_,.str "pair",Z,Z,SqL.of Z0c,Z,_,Z,_,Z,t3,λr hr=>?_⟩
   exact kq r _ "pair" [(a:Int),(b:Int)] ((S5.trans s1).trans (Z0f hr _)) Z0c (.inr ⟨.pair a b,⟨ac,bc,Ne.symm ba⟩,Z,Z⟩)
  ·refine⟨_,Z,_,_,Z,Z,lq,_,_,.str "swap",Z,Z,SqL.of Z0c,Z,_,Z,_,Z,t3,λr hr=>?_⟩
   exact kq r _ "swap" [(a:Int),(b:Int)] ((S5.trans s1).trans (Z0f hr _)) Z0c (.inr ⟨.swap a b,⟨ac,bc,Ne.symm ba⟩,Z,Z⟩)
 have c3:3<=c:=by omega
 refine⟨λσ H'=>Same H6 H'/\∃ (l:W9) (R:U6),H' l=some (.lst (R.map V.int))/\Rest c [a,b] R/\σ=[some (.int cl),some (.int c),some (.int n),some (.int t),some (.int a),some (.ref l),some (.int b)],?_,?_⟩
 ·refine⟨_,Z,l,Z,⟨_,SL⟩,λacc hacc=>?_⟩
  have lr:=RR.len
  refine Y9e (K:=K) (l:=l) (ns:=R) (fr:=[some (.int b)]) (λe=>!decide (V.int e=V.int b)) id (t64 (by omega)) hacc SL (λe H7 N he S7 kN=>⟨_,Z,_,Z,Z,_,Z,kN⟩) (λe H7 N he hp S7 kN=>⟨_,Z,kN⟩) (λH7 S7 a7=>?_)
  exact⟨S7,acc,_,a7,RR.filter λ_=>rfl,Z⟩
 rintro σ7 H7 ⟨S7,l2,R2,hl2,RR2,rfl⟩
 have posR2:=RR2.pos2 c3
 have SL2:SqL K H7 l2 (R2.map V.int):=SqL.of hl2
 have lenR2:(R2.map V.int).length=R2.length:=q0a _
 obtain⟨e,he,ae⟩:=pick (L:=R2) (i:=((n:Int) / 343)%((R2.map V.int).length:Int)) (q2h _ (by rw[lenR2];omega)) (by rw[lenR2];exact q2i _ (by omega))
 obtain⟨d,rfl,dc,dn⟩:=RR2.only e he
 have dn':d≠a/\d≠b:=by simpa using dn
 refine⟨_,Z,_,Z,_,Z,_,Z,_,_,Z,Z,⟨by decide,by decide⟩,_,Z,l2,_,Z,.inl SL2,_,_,Z,Z,(by rw[lenR2];omega),l2,_,_,_,Z,Z,SL2,ae,t4,λr hr=>?_⟩
 exact kq r _ "cross" [(a:Int),(b:Int),(d:Int)] ((S5.trans S7).trans (Z0f hr _)) Z0c (.inr ⟨.cross a b d,⟨ac,bc,dc,Ne.symm ba,Ne.symm dn'.1,Ne.symm dn'.2⟩,Z,Z⟩)
def Z7p (K:U0):Sp:=λvs H Q _=>∃ (p:W9) (x:A5) (k:Int),vs=[.ref p,.int k]/\At5 K H p x/\∀ (r:W9) (H':Hp),Same H H'->H' r=some (tA (spin x k))->Q (.ref r) H'
theorem sc_spinK:FnScope ["_law_one","_law_k","_law_a","_law_b","_law_c","_law_d","_law_h","_law_j"] ["_law_one","_law_k"] (Z0h (top 65)):=fS
theorem Y8k (F:FunAt K "_law_spin" (top 65) .none)(X:K.In h)(G:Ng h mg)(B:Bs mg):Cal P w K mg base (k+1) "_law_spin" ["_law_one","_law_k"] (Z7p K):=by
 have nd:=sc_spinK.nd
 refine F.cal X G sc_spinK (bnd2 λ_ _ _ _ _ _ _ _=>rfl) (λvs H Q E h=>?_) (λf cdv A outer s H vs Q E hr h=>?_)
 ·obtain⟨p,x,k,rfl,_⟩:=h;rfl
 obtain⟨p,x,k,rfl,hp,q⟩:=h
 refine⟨_,(@Z0e _ _ _ _ _ (Z4a (pv 0) (Z2z rfl (Z0v (Z0m (i:=2) nd rfl (Or.inl rfl)) (Z0v (Z0m (i:=3) nd rfl (Or.inl rfl)) (Z0v (Z0m (i:=4) nd rfl (Or.inl rfl)) (Z0v (Z0m (i:=5) nd rfl (Or.inl rfl)) (Z0v (Z0m (i:=6) nd rfl (Or.inl rfl)) Z2f)))))))
  (@Z0e _ _ _ _ _ (Z1u PassesOwn.never rfl (Z1e rfl B.range (Z0a (Z0i Z0x (pv 1) Z0b) Z0d)) (Z0m (i:=7) nd rfl (Or.inl rfl))
   (@Z0g _ _ _ (Z4a (@Z0y _ _ _ _ _ (Z0a (Z8a Z5x (pv 5)) (Z0a (pv 2) (Z0a (pv 3) (Z0a (pv 4) Z0d))))) (Z2z rfl (Z0v (Z0m (i:=2) nd rfl (Or.inl rfl)) (Z0v (Z0m (i:=3) nd rfl (Or.inl rfl)) (Z0v (Z0m (i:=4) nd rfl (Or.inl rfl)) (Z0v (Z0m (i:=5) nd rfl (Or.inl rfl)) Z2f))))))))
  (@Z0g _ _ _ (Z0l (@Z0y _ _ _ _ _ (Z0a (pv 2) (Z0a (pv 3) (Z0a (pv 4) (Z0a (pv 5) (Z0a (pv 6) Z0d)))))))))),?_⟩
 try dsimp only[cxK]
 refine⟨_,Z,p,_,Z,hp,Z,_,_,Z,_,_,Z,_,_,Z,_,_,Z,_,_,Z,Z,?_⟩
 refine⟨_,Z,_,_,Z,Z,p_8,_,Z,by omega,by omega,Z1m (n:=(k%8).toNat) (λi σ H'=>Same H H'/\∃ v7,σ=[some (.ref p),some (.int k),some (.int (rot i x.1).1),some (.int (rot i x.1).2.1),some (.int (rot i x.1).2.2.1),some (.int (rot i x.1).2.2.2),some (.int x.2),v7]) ⟨Same.refl _,_,Z⟩ ?_ ?_⟩
 ·rintro i σ H' hi ⟨S',v7,rfl⟩
  refine⟨_,Z,_,Z,_,Z,_,Z,_,Z,t4,λt ht=>⟨t,_,Z,SqT.of Z0c,Z,_,_,Z,_,_,Z,_,_,Z,_,_,Z,Z,S'.trans (Z0f ht _),_,Z⟩⟩
 ·rintro σ H' ⟨S',v7,rfl⟩
  exact⟨_,Z,_,Z,_,Z,_,Z,_,Z,t5,λr hr=>q r _ (S'.trans (Z0f hr _)) Z0c⟩
end
end K64
namespace K64.V
open L2 Am Pc Ba
section
variable {P:U8}{w:W1}{K:U0}{mg:U4}{base:Heap}{k:Nat}{h:Heap}
theorem sc_cells:FnScope ["_law_cell"] ["_law_cell"] (Z0h (top 63)):=fS
theorem ok_cells (F:FunAt K "_law_cells_by" (top 63) .none)(X:K.In h)(G:Ng h mg):Cal P w K mg base (k+1) "_law_cells_by" ["_law_cell"] Y4d:=by
 have nd:=sc_cells.nd
 refine F.cal X G sc_cells (bnd1 λ_ _ _ _ _ _ _=>rfl) (λvs H Q E h=>?_) (λf cdv A outer s H vs Q E hr h=>?_)
 ·obtain⟨c,rfl,_⟩:=h;rfl
 obtain⟨c,rfl,q⟩:=h
 refine⟨_,(@Z0e _ _ _ _ _ (Z1b (Z0q Z1j (Z0i Z0x (Z0i Z1g (pv 0) Z0b) Z0b) Z0b (nomark _))
   (@Z0g _ _ _ (Z0l (Z0i Z1f Z0b (Z0i Z0x (Z0i Z1g (pv 0) Z0b) Z0b))))
   Z0r)
  (@Z0g _ _ _ (Z0l (Z0i Z1f Z0b (Z0i Z0x (pv 0) Z0b))))),?_⟩
 try dsimp only[cxK]
 refine⟨_,Z,_,_,Z,Z,⟨by decide,by decide⟩,_,_,Z,Z,p_8,Z,_,Z,eqI (λ_=>?_) (λ_=>?_)⟩
 ·refine⟨_,Z,_,_,Z,Z,⟨by decide,by decide⟩,_,_,Z,Z,p_3,_,_,Z,Z,?_⟩
  have:=q (4+c / 24%3).toNat (by omega) (by omega)
  rw[show (((4+c / 24%3).toNat:Nat):Int)=4+c / 24%3 by omega] at this
  exact this
 ·refine⟨_,Z,_,_,Z,Z,p_3,_,_,Z,Z,?_⟩
  have:=q (1+c%3).toNat (by omega) (by omega)
  rw[show (((1+c%3).toNat:Nat):Int)=1+c%3 by omega] at this
  exact this
theorem sc_low:FnScope ["_law_parts","_law_h"] ["_law_parts","_law_h"] (Z0h (top 64)):=fS
theorem ok_low (F:FunAt K "_law_low" (top 64) .none)(X:K.In h)(G:Ng h mg)(B:Bs mg):Cal P w K mg base (k+1) "_law_low" ["_law_parts","_law_h"] spLow:=by
 have nd:=sc_low.nd
 refine F.cal X G sc_low (bnd2 λ_ _ _ _ _ _ _ _=>rfl) (λvs H Q E h=>?_) (λf cdv A outer s H vs Q E hr h=>?_)
 ·obtain⟨l,a,b,c,d,h,rfl,_⟩:=h;rfl
 obtain⟨l,a,b,c,d,h,rfl,hl,h0,q⟩:=h
 refine⟨_,(@Z0e _ _ _ _ _ (Z1b (Z0q (X3l hr.units) (pv 0) (@Z2r _ _ _ _ (Z0a Z0b (Z0a Z0b (Z0a Z0b (Z0a Z0b Z0d))))) (nomark _))
   (@Z0g _ _ _ (Z0l (@Z0y _ _ _ _ _ (Z0a Z0b (Z0a Z0b (Z0a Z0b (Z0a Z0b (Z0a Z0b Z0d))))))))
   Z0r)
  (@Z0e _ _ _ _ _ (Z7y PassesOwn.never (PW.pt (Z6c (Z0q Y2v (pv 1) Z0b (nomark _)) (Z4g (Z1l (Z0p (Z3a rfl) rfl B.all q8w (Z0a (Z4i rfl (LcOk.of (Nc:=["_law_part"]) (mp:=[none]) (by kernel_rfl)) (Z1r (pv 0)) (λ_ _ _ _=>(Z0m (i:=0) (show (["_law_part"]:W0).Nodup by decide +kernel) rfl (Or.inl rfl))) (λ_ _ _ _=>(Z1o Z1j (Z0i Z0x (pv 0) Z0b) Z0b (nomark _)))) Z0d))))))
   (@Z0e _ _ _ _ _ (Z3x (i:=0) rfl nd rfl rfl (LcOk.of (Nc:=["_law_part"]) (mp:=[none]) (by kernel_rfl)) (Z1r (pv 0)) (λ_ _ _ _=>(Z0m (i:=0) (show (["_law_part"]:W0).Nodup by decide +kernel) rfl (Or.inl rfl))) (λ_ _ _ _=>(Z0i Z1g (pv 0) Z0b)) rfl)
   (@Z0g _ _ _ (@Z0o _ _ 1 _ _ _ _ nd rfl (Or.inl rfl) (Z0i Z1t (pv 1) Z0b) rfl (.inl rfl)))))
  (@Z0g _ _ _ (Z0l (@Z0y _ _ _ _ _ (Z0a (Z0k Z0w (pv 0) Z0b (λ_ _=>rfl)) (Z0a (Z0k Z0w (pv 0) Z0b (λ_ _=>rfl)) (Z0a (Z0k Z0w (pv 0) Z0b (λ_ _=>rfl)) (Z0a (Z0k Z0w (pv 0) Z0b (λ_ _=>rfl)) (Z0a (pv 1) Z0d)))))))))),?_⟩
 try dsimp only[cxK]
 refine⟨_,Z,t4,λz hz=>⟨l,z,[a,b,c,d],[0,0,0,0],Z,Z,SqL.of (Z0f hz _ _ _ hl),SqL.of Z0c,_,Z,decI (λcz=>?_) (λcz=>?_)⟩⟩
 ·cases cz
  refine⟨t5,λp hp=>q p _ 0 0 0 0 0 ((Z0f hz _).trans (Z0f hp _)) Z0c ⟨⟨by omega,.inl rfl⟩,⟨by simp[Eq2],by simp[Eq2],by simp[Eq2],by simp[Eq2]⟩,q0f _,q0f _,q0f _,q0f _,h0⟩⟩
 refine⟨λm σ H'=>∃ l' x y u v g,m=g.toNat/\σ=[some (.ref l'),some (.int g)]/\Same H H'/\H' l'=some (.lst ([x,y,u,v].map V.int))/\Hv a b c d h x y u v g,⟨_,l,a,b,c,d,h,Z,Z,Z0f hz _,Z0f hz _ _ _ hl,⟨Z,Z,Z,Z⟩,q0f _,q0f _,q0f _,q0f _,q1r _,h0⟩,?_⟩
 rintro m σ H2 ⟨l',x,y,u,v,g,rfl,rfl,s2,l2,hv⟩
 refine⟨_,Z,_,_,Z,Z,_,Z,decI (λcg=>?_) (λcg=>?_)⟩
 ·refine⟨_,Z,l',Z,⟨_,SqL.of l2⟩,λacc hacc=>?_⟩
  refine Z8h (ns:=[x,y,u,v]) (fr:=[]) (λn=>.bl (decide (V.int (n%2)=V.int 0))) (SqL.of l2) t4 hacc (λn H3 N _ kN=>?_) (λH3 s3 a3=>?_)
  ·exact⟨_,Z,_,_,Z,Z,p_2,Z,kN⟩
  refine⟨acc,[x,y,u,v].map λn=>decide (V.int (n%2)=V.int 0),Z,SqL.of (by rw[a3];rfl),_,Z,blI (λc=>?_) (λc=>?_)⟩
  ·have l3:=s3 _ _ l2
   refine⟨_,λ_ _ h=>h,_,Z,l',Z,⟨_,SqL.of l3⟩,λac hac=>?_⟩
   refine Z8h (ns:=[x,y,u,v]) (fr:=[]) (λn=>.int (n / 2)) (SqL.of l3) t4 hac (λn H3 N _ kN=>?_) (λH4 s4 a4=>?_)
   ·exact⟨_,Z,_,_,Z,Z,⟨by decide,by decide⟩,kN⟩
   refine⟨_,Z,_,_,Z,Z,?_⟩
   refine⟨(g-1).toNat,by omega,ac,x / 2,y / 2,u / 2,v / 2,g-1,Z,Z,s2.trans (s3.trans s4),a4,hv.half cg (all4.mp c)⟩
  ·have l3:SqL K H3 l' ([x,y,u,v].map V.int):=SqL.of (s3 _ _ l2)
   have o:x%2=1∨y%2=1∨u%2=1∨v%2=1:=by
    have:¬ (x%2=0/\y%2=0/\u%2=0/\v%2=0):=λz=>by rw[all4.mpr z] at c;cases c
    omega
   refine⟨_,Z,l',_,_,_,Z,Z,l3,Z,_,Z,l',_,_,_,Z,Z,l3,Z,_,Z,l',_,_,_,Z,Z,l3,Z,_,Z,l',_,_,_,Z,Z,l3,Z,_,Z,t5,λt ht=>?_⟩
   exact q t _ x y u v g (s2.trans (s3.trans (Z0f ht _))) Z0c (hv.red (.inr o))
 ·have l3:SqL K H2 l' ([x,y,u,v].map V.int):=SqL.of l2
  refine⟨_,Z,l',_,_,_,Z,Z,l3,Z,_,Z,l',_,_,_,Z,Z,l3,Z,_,Z,l',_,_,_,Z,Z,l3,Z,_,Z,l',_,_,_,Z,Z,l3,Z,_,Z,t5,λt ht=>?_⟩
  exact q t _ x y u v g (s2.trans (Z0f ht _)) Z0c (hv.red (.inl (by have:=hv.nn;omega)))
theorem Z2o {x:Int}(h1:-16<x)(h2:x<16):Sz 100 x:=Sz.mono (j:=5) (by unfold Sz;omega) (by decide)
theorem s_0:Sz 100 0:=Z2o (by decide) (by decide)
theorem s_1:Sz 100 1:=Z2o (by decide) (by decide)
theorem s_m:Sz 100 (-1):=Z2o (by decide) (by decide)
theorem forty:(0:Int)<=40:=by decide
theorem ten29:(0:Int)<10^(29:Int).toNat:=by decide +kernel
theorem X8v {x:Int}:Sz 100 (x%10^(29:Int).toNat-10^(29:Int).toNat / 2):=by
 have h1:=q2h x (q4g ten29)
 have h2:=q2i x ten29
 have h3:(10:Int)^(29:Int).toNat<2^100:=by decide +kernel
 generalize x%10^(29:Int).toNat=y at *
 generalize (10:Int)^(29:Int).toNat=t at *
 unfold Sz
 omega
theorem sc_amtby:FnScope ["_law_cell","_law_far_here","_law_size","_law_parts","_law_k","_law_half"] ["_law_cell"] (Z0h (top 66)):=fS
theorem ok_amtby (F:FunAt K "_law_amount_by" (top 66) .none)(X:K.In h)(G:Ng h mg)(B:Bs mg)(c7:Cal P w K mg base k "_law_low" ["_law_parts","_law_h"] spLow)(cH:Cal P w K mg base k "_law_spin" ["_law_one","_law_k"] spSpin) :
  Cal P w K mg base (k+1) "_law_amount_by" ["_law_cell"] Y4g:=by
 have nd:=sc_amtby.nd
 refine F.cal X G sc_amtby (bnd1 λ_ _ _ _ _ _ _=>rfl) (λvs H Q E h=>?_) (λf cdv A outer s H vs Q E hr h=>?_)
 ·obtain⟨c,rfl,_⟩:=h;rfl
 obtain⟨c,rfl,szc,q⟩:=h
 refine⟨_,(@Z1c _ _ _ _ _ (@Z0o _ _ 1 _ _ _ _ nd rfl (Or.inl rfl) (Z0i Z0x (Z0i Z1f (Z0i Z2x (Z0i Z1g (pv 0) Z0b) (Z0i Z7d Z0b Z0b)) (Z0i Z7d Z0b Z0b)) (Z0i Z2x (Z0i Z7d Z0b Z0b) (Z0i Z7d Z0b Z0b))) rfl (.inl rfl))
  (@Z0e _ _ _ _ _ (@Z0o _ _ 2 _ _ _ _ nd rfl (Or.inl rfl) (Z0i Z7d Z0b Z0b) rfl (.inl rfl))
  (@Z0e _ _ _ _ _ (Z1b (Z0q Z1j (Z0i Z0x (pv 0) Z0b) Z0b (nomark _))
   (@Z0g _ _ _ (Z0l (Z0n cH hr rfl (Z0a (@Z0y _ _ _ _ _ (Z0a Z0b (Z0a Z0b (Z0a Z0b (Z0a Z0b (Z0a Z0b Z0d)))))) (Z0a (Z0i Z0x (pv 1) Z0b) Z0d)))))
   Z0r)
  (@Z0e _ _ _ _ _ (Z1b (Z0q Z1j (Z0i Z0x (pv 0) Z0b) Z0b (nomark _))
   (@Z0e _ _ _ _ _ (@Z0o _ _ 3 _ _ _ _ nd rfl (Or.inl rfl) (@Z2r _ _ _ _ (Z0a (Z0i Z1t (Z0i Z0x (pv 1) Z0b) Z0b) (Z0a (Z0i Z1t (Z0i Z0x (Z0i Z1g (pv 1) Z0b) Z0b) Z0b) (Z0a (Z0i Z1t (Z0i Z0x (Z0i Z1g (pv 1) Z0b) Z0b) Z0b) (Z0a (Z0i Z1t (Z0i Z0x (Z0i Z1g (pv 1) Z0b) Z0b) Z0b) Z0d))))) rfl (.inl rfl))
   (@Z0g _ _ _ (Z0l (Z0n c7 hr rfl (Z0a (pv 3) (Z0a (Z0i Z0x (Z0i Z1g (pv 1) Z0b) Z0b) Z0d))))))
   Z0r)
  (@Z0e _ _ _ _ _ (Z1b (Z0q Z1j (Z0i Z0x (pv 0) Z0b) Z0b (nomark _))
   (@Z0e _ _ _ _ _ (@Z0o _ _ 3 _ _ _ _ nd rfl (Or.inl rfl) (@Z2r _ _ _ _ Z0d) rfl (.inl rfl))
   (@Z0e _ _ _ _ _ (Z1u PassesOwn.never rfl (Z1e rfl B.range (Z0a Z0b Z0d)) (Z0m (i:=4) nd rfl (Or.inl rfl))
    (@Z0e _ _ _ _ _ (Z2v (Y2u q2f q2d q2c Z2j (pv 3) (Z0a (Z0i Z1t (Z0i Z0x (pv 1) (pv 2)) (Z0i Z1g (pv 2) Z0b)) Z0d)))
    (@Z0g _ _ _ (@Z0o _ _ 1 _ _ _ _ nd rfl (Or.inl rfl) (Z0i Y1u (pv 1) (pv 2)) rfl (.inl rfl)))))
   (@Z0g _ _ _ (Z0l (Z0n c7 hr rfl (Z0a (pv 3) (Z0a (Z0i Z0x (pv 1) Z0b) Z0d)))))))
   Z0r)
  (@Z0e _ _ _ _ _ (Z1b (Z0q Z1j (Z0i Z0x (pv 0) Z0b) Z0b (nomark _))
   (@Z0e _ _ _ _ _ (@Z0o _ _ 5 _ _ _ _ nd rfl (Or.inl rfl) (Z0i Z0x (pv 1) Z0b) rfl (.inl rfl))
   (@Z0g _ _ _ (Z0l (Z0n cH hr rfl (Z0a (Z0k Z0w (@Z2r _ _ _ _ (Z0a (@Z0y _ _ _ _ _ (Z0a Z0b (Z0a Z0b (Z0a Z0b (Z0a Z0b (Z0a (pv 5) Z0d)))))) (Z0a (@Z0y _ _ _ _ _ (Z0a Z0b (Z0a Z0b (Z0a Z0b (Z0a (Z8a Z5x Z0b) (Z0a (Z0i Z1f (pv 5) Z0b) Z0d)))))) Z0d))) (Z0i Z0x (Z0i Z1g (pv 1) Z0b) Z0b) (λ_ _=>rfl)) (Z0a (Z0i Z0x (Z0i Z1g (pv 1) Z0b) Z0b) Z0d))))))
   Z0r)
  (@Z0e _ _ _ _ _ (Z1b (Z0q Z1j (Z0i Z0x (pv 0) Z0b) Z0b (nomark _))
   (@Z0g _ _ _ (Z0l (@Z0y _ _ _ _ _ (Z0a (Z0i Z1t (Z0i Z0x (pv 1) Z0b) Z0b) (Z0a Z0b (Z0a (Z0i Z1t (Z0i Z0x (Z0i Z1g (pv 1) Z0b) Z0b) Z0b) (Z0a Z0b (Z0a Z0b Z0d))))))))
   Z0r)
  (@Z0g _ _ _ (Z0l (@Z0y _ _ _ _ _ (Z0a Z0b (Z0a Z0b (Z0a Z0b (Z0a Z0b (Z0a Z0b Z0d))))))))))))))),?_⟩
 try dsimp only[cxK]
 have pM:(0:Int)<10^(60:Int).toNat*10^(60:Int).toNat:=by decide +kernel
 have szc6:Sz 1048600 (c / 6):=szc.le (by omega)
 have s63:Sz 400 ((63:Int)^(64:Int).toNat):=by decide +kernel
 have s60:Sz 200 ((10:Int)^(60:Int).toNat):=by decide +kernel
 refine⟨λσ' H'=>H'=H/\∃ F:Int,0<=F/\σ'=[some (.int c),some (.int F),none,none,none,none],?_,?_⟩
 ·exact⟨_,Z,_,_,Z,Z,⟨by decide,by decide⟩,_,_,Z,Z,⟨by decide,by decide,by decide⟩,_,_,Z,Z,⟨1048600,400,szc6,s63,by decide⟩,_,_,Z,Z,⟨by decide,by decide,by decide⟩,_,_,Z,Z,_,_,Z,Z,⟨by decide,by decide,by decide⟩,_,_,Z,Z,⟨by decide,by decide,by decide⟩,_,_,Z,Z,⟨200,200,s60,s60,by decide⟩,_,_,Z,Z,pM,Z,_,q2h _ (q4g pM),Z⟩
 rintro σ1 H1 ⟨rfl,F,F0,rfl⟩
 refine⟨_,_,Z,Z,⟨by decide,by decide,by decide⟩,?_⟩
 have one:Ok5 100 40 ((1,0,0,0),0):=⟨⟨s_1,s_0,s_0,s_0⟩,⟨q1r 0,.inl rfl⟩,forty⟩
 refine⟨_,Z,_,_,Z,Z,p_6,Z,_,Z,eqI (λ_=>?_) (λ_=>?_)⟩
 ·exact⟨t5,λt ht=>⟨_,Z,_,_,Z,Z,p_8,t,((1,0,0,0),0),_,Z,Z0c,λr H' s' e'=>q r H' _ ((Z0f ht _).trans s') e' (Z6f one _)⟩⟩
 refine⟨_,Z,_,_,Z,Z,p_6,Z,_,Z,eqI (λ_=>?_) (λ_=>?_)⟩
 ·refine⟨_,Z,_,_,Z,Z,p_7,_,_,Z,Z,_,Z,_,_,Z,Z,⟨by decide,by decide⟩,_,_,Z,Z,p_7,_,_,Z,Z,_,Z,_,_,Z,Z,⟨by decide,by decide⟩,_,_,Z,Z,p_7,_,_,Z,Z,_,Z,_,_,Z,Z,⟨by decide,by decide⟩,_,_,Z,Z,p_7,_,_,Z,Z,t4,λl hl=>?_⟩
  refine⟨_,Z,_,Z,_,_,Z,Z,⟨by decide,by decide⟩,_,_,Z,Z,p_4,l,_,_,_,_,_,Z,Z0c,(by show 0<=F / 2401%4;omega),λp H' x y z u g s' e' r'=>q p H' ((x,y,z,u),g) ((Z0f hl _).trans s') e' ⟨r'.sz ⟨?_,?_,?_,?_⟩,r'.amt,?_⟩⟩
  ·show Sz 100 (F%7-3)
   exact Z2o (by omega) (by omega)
  ·show Sz 100 (F / 7%7-3)
   exact Z2o (by omega) (by omega)
  ·show Sz 100 (F / 49%7-3)
   exact Z2o (by omega) (by omega)
  ·show Sz 100 (F / 343%7-3)
   exact Z2o (by omega) (by omega)
  ·have:=r'.le
   have h2:g<=F / 2401%4:=this
   show g<=40
   omega
 refine⟨_,Z,_,_,Z,Z,p_6,Z,_,Z,eqI (λ_=>?_) (λ_=>?_)⟩
 ·refine⟨q1d _,λl hl=>?_⟩
  refine⟨4,Z,by decide,by decide,Z1m (n:=4) (λi σ H'=>∃ (xs:U6) (g:Int) (v4:Option V),xs.length=i/\(∀ x∈xs,Sz 100 x)/\0<=g/\Same H1 H'/\H' l=some (.lst (xs.map V.int))/\σ=[some (.int c),some (.int g),some (.int (10^(29:Int).toNat)),some (.ref l),v4,none]) ⟨[],F,_,Z,(λ_ z=>by cases z),F0,Z0f hl _,Z0c,Z⟩ ?_ ?_⟩
  ·rintro i σ H' hi ⟨xs,g,v4,hx,hz,g0,S',hl',rfl⟩
   refine⟨_,Z,.inl ⟨Z,_,SqL.of hl'⟩,_,Z,_,Z,_,_,Z,Z,ten29,_,Z,_,_,Z,Z,⟨by decide,by decide⟩,_,_,Z,Z,l,_,_,Z,Z,hl',(by rw[q0a,hx];exact q0s hi t4),?_⟩
   refine⟨_,Z,_,Z,_,_,Z,Z,⟨q4g ten29,by decide +kernel⟩,⟨xs++[g%10^(29:Int).toNat-10^(29:Int).toNat / 2],g.fdiv (10^(29:Int).toNat),some (.int (0+i)),by simp[hx],?_,Int.fdiv_nonneg g0 (Int.le_of_lt ten29),Z1a S' hl,?_,Z⟩⟩
   ·intro x hx'
    rcases q2g.mp hx' with z | z
    ·exact hz x z
    ·rw[q1e.mp z];exact X8v
   ·rw[Z0c,q0k];rfl
  ·rintro σ H' ⟨xs,g,v4,hx,hz,g0,S',hl',rfl⟩
   obtain⟨x1,x2,x3,x4,rfl⟩:∃ x1 x2 x3 x4,xs=[x1,x2,x3,x4]:=by
    match xs,hx with
    | [x1,x2,x3,x4],_=>exact⟨x1,x2,x3,x4,rfl⟩
   refine⟨_,Z,_,Z,_,_,Z,Z,p_40,l,x1,x2,x3,x4,_,Z,hl',(by show 0<=g%40;omega),λp H2 x y z u m s' e' r'=>q p H2 ((x,y,z,u),m) (S'.trans s') e' ⟨r'.sz ⟨hz _ (by simp),hz _ (by simp),hz _ (by simp),hz _ (by simp)⟩,r'.amt,?_⟩⟩
   have h2:m<=g%40:=r'.le
   show m<=40
   omega
 refine⟨_,Z,_,_,Z,Z,p_6,Z,_,Z,eqI (λ_=>?_) (λ_=>?_)⟩
 ·refine⟨_,Z,_,_,Z,Z,p_6,?_⟩
  refine⟨_,Z,t5,λr1 h1=>?_⟩
  refine⟨_,Z,_,Z,_,_,Z,Z,t5,λr2 h2=>⟨t2,λl hl=>?_⟩⟩
  have f0:0<=F%6/\F%6<6:=by omega
  have z2:=Z0f h2 (tA ((0,1,0,-1),F%6+1))
  have z3:=Z0f hl (.lst [.ref r1,.ref r2])
  have Y:=(Z0f h1 (tA ((1,0,0,0),F%6))).trans (z2.trans z3)
  have e1:=z3 _ _ (z2 _ _ (Z0c (H:=H1) (a:=r1) (o:=tA ((1,0,0,0),F%6))))
  have e2:=z3 _ _ (Z0c (H:=upd H1 r1 (tA ((1,0,0,0),F%6))) (a:=r2) (o:=tA ((0,1,0,-1),F%6+1)))
  have o1:Ok5 100 40 ((1,0,0,0),F%6):=⟨one.sz,⟨f0.1,.inr (.inl rfl)⟩,by show F%6<=40;omega⟩
  have o2:Ok5 100 40 ((0,1,0,-1),F%6+1):=⟨⟨s_0,s_1,s_0,s_m⟩,⟨by show 0<=F%6+1;omega,.inr (.inr (.inl rfl))⟩,by show F%6+1<=40;omega⟩
  have cc:F / 6%2=0∨F / 6%2=1:=by omega
  rcases cc with cc | cc
  ·exact⟨_,Z,_,_,Z,Z,⟨by decide,by decide⟩,_,_,Z,Z,p_2,l,[.ref r1,.ref r2],_,.ref r1,Z,Z,SqL.of Z0c,(by show atI _ (F / 6%2)=_;rw[cc];rfl),_,Z,_,_,Z,Z,⟨by decide,by decide⟩,_,_,Z,Z,p_8,r1,_,_,Z,e1,λr H' s' e'=>q r H' _ (Y.trans s') e' (Z6f o1 _)⟩
  ·exact⟨_,Z,_,_,Z,Z,⟨by decide,by decide⟩,_,_,Z,Z,p_2,l,[.ref r1,.ref r2],_,.ref r2,Z,Z,SqL.of Z0c,(by show atI _ (F / 6%2)=_;rw[cc];rfl),_,Z,_,_,Z,Z,⟨by decide,by decide⟩,_,_,Z,Z,p_8,r2,_,_,Z,e2,λr H' s' e'=>q r H' _ (Y.trans s') e' (Z6f o2 _)⟩
 refine⟨_,Z,_,_,Z,Z,p_6,Z,_,Z,eqI (λ_=>?_) (λ_=>?_)⟩
 ·refine⟨_,Z,_,_,Z,Z,p_11,_,_,Z,Z,_,Z,_,_,Z,Z,⟨by decide,by decide⟩,_,_,Z,Z,p_11,_,_,Z,Z,t5,λt ht=>?_⟩
  refine q t _ ((F%11-5,0,F / 11%11-5,0),0) (Z0f ht _) Z0c ⟨⟨?_,s_0,?_,s_0⟩,⟨q1r 0,.inl rfl⟩,forty⟩
  ·exact Z2o (by show -16<F%11-5;omega) (by show F%11-5<16;omega)
  ·exact Z2o (by show -16<F / 11%11-5;omega) (by show F / 11%11-5<16;omega)
 ·exact⟨t5,λt ht=>q t _ ((0,0,0,0),0) (Z0f ht _) Z0c ⟨⟨s_0,s_0,s_0,s_0⟩,⟨q1r 0,.inl rfl⟩,forty⟩⟩
theorem vals_push {H H':Hp}{ps:U3}{f:Nat->A5}{p:W9}{x:A5}(v:Vals5 H ps f)(s:Same H H')(e:H' p=some (tA x)):Vals5 H' (ps++[p]) (λj=>if j=ps.length then x else f j):=by
 intro i q hq
 by_cases hi:i<ps.length
 ·rw[q4s hi] at hq
  show H' q=some (tA (if i=ps.length then x else f i))
  rw[if_neg (by omega)]
  exact s _ _ (v i q hq)
 ·rw[q4m (by omega)] at hq
  have hi2:i=ps.length:=by
   have:=(q0o.mp hq).1
   simp at this
   omega
  subst hi2
  simp at hq
  subst hq
  show H' _=some (tA (if ps.length=ps.length then x else f ps.length))
  rw[if_pos rfl]
  exact e
theorem vals_upd {H:Hp}{ps:U3}{f:Nat->A5}{l:W9}{xs ys:List V}(v:Vals5 H ps f)(e:H l=some (.lst xs)):Vals5 (upd H l (.lst ys)) ps f:=λi q hq=>by
 have:=v i q hq
 rw[Z0t (Z4v this e (by intro z;cases z))]
 exact this
theorem Y7o {H:Hp}{ps:U3}{f:Nat->A5}{p:W9}{x:A5}{j:Nat}(v:Vals5 H ps f)(e:H p=some (tA x)):Vals5 H (ps.set j p) (λi=>if i=j then x else f i):=by
 intro i q hq
 by_cases hi:i=j
 ·subst hi
  rw[q7j] at hq
  show H q=some (tA (if i=i then x else f i))
  rw[if_pos rfl]
  cases h:ps[i]? with
  | none=>rw[h] at hq;cases hq
  | some r=>rw[h] at hq;cases hq;exact e
 ·rw[q3j (λz=>hi z.symm)] at hq
  show H q=some (tA (if i=j then x else f i))
  rw[if_neg hi]
  exact v i q hq
def Nz (c:Nat)(f:Nat->A5):Prop:=∃ w,w<2^c/\f w≠((0,0,0,0),0)
def Z7r (K:U0):Sp:=λvs H Q _=>∃ (a:W9) (ns:U6) (i:Int) (c:Nat),vs=[.ref a,.int i,.int c]/\SqL K H a (ns.map V.int)/\Light ns/\0<=i/\1<=c/\c<=6 ∧
 ∀ (l:W9) (H':Hp) (ps:U3) (f:Nat->A5),H l=none->Same H H'->H' l=some (.lst (ps.map V.ref))->ps.length=2^c->Vals5 H' ps f->(∀ i,Ok5 100 40 (f i))->Nz c f->Q (.ref l) H'
theorem X8z {n:Nat}{f:Nat->A5}(h:¬ (((List.range n).map λj=>decide (l5 (f j)=[0,0,0,0,0])).all id=true)):∃ w,w<n/\f w≠((0,0,0,0),0):=by
 apply Classical.byContradiction
 intro no
 apply h
 rw[q2l]
 intro b hb
 obtain⟨j,hj,rfl⟩:=q2j.mp hb
 have e:f j=((0,0,0,0),0):=Classical.byContradiction λz=>no ⟨j,q1q.mp hj,z⟩
 show decide (l5 (f j)=_)=true
 rw[e]
 rfl
theorem sc_bdby:FnScope ["_law_script","_law_at","_law_cells","_law_board","_law_k"] ["_law_script","_law_at","_law_cells"] (Z0h (top 67)):=fS
theorem ok_bdby (F:FunAt K "_law_board_by" (top 67) .none)(X:K.In h)(G:Ng h mg)(B:Bs mg)(c9:Cal P w K mg base k "_law_cell_at" ["_law_script","_law_k"] (spCell K))(cR:Cal P w K mg base k "_law_amount_by" ["_law_cell"] Y4g) :
  Cal P w K mg base (k+1) "_law_board_by" ["_law_script","_law_at","_law_cells"] (Z7r K):=by
 have nd:=sc_bdby.nd
 refine F.cal X G sc_bdby (bnd3 λ_ _ _ _ _ _ _ _ _=>rfl) (λvs H Q E h=>?_) (λf cdv A outer s H vs Q E hr h=>?_)
 ·obtain⟨a,ns,i,c,rfl,_⟩:=h;rfl
 obtain⟨a,ns,i,c,rfl,hS,lt,i0,c1,c6,q⟩:=h
 refine⟨_,(@Z0e _ _ _ _ _ (@Z0o _ _ 3 _ _ _ _ nd rfl (Or.inl rfl) (@Z2r _ _ _ _ Z0d) rfl (.inl rfl))
  (@Z0e _ _ _ _ _ (Z1u PassesOwn.never rfl (Z1e rfl B.range (Z0a (Z0i Z1x Z0b (pv 2)) Z0d)) (Z0m (i:=4) nd rfl (Or.inl rfl))
   (@Z0g _ _ _ (Z2v (Y2u q2f q2d q2c Z2j (pv 3) (Z0a (Z0n cR hr rfl (Z0a (Z0i Z1f (Z0n c9 hr rfl (Z0a (pv 0) (Z0a (Z0i Z1f (pv 1) (Z0i Z0x (pv 4) Z0b)) Z0d))) (Z0i Z3h (Z0i Z1g (pv 4) Z0b) Z0b)) Z0d)) Z0d)))))
  (@Z1c _ _ _ _ _ (Z1b (Z1l (Z0p (Z3a rfl) rfl B.all q8w (Z0a (Z4i rfl (LcOk.of (Nc:=["_law_one"]) (mp:=[none]) (by kernel_rfl)) (Z1r (pv 3)) (λ_ _ _ _=>(Z0m (i:=0) (show (["_law_one"]:W0).Nodup by decide +kernel) rfl (Or.inl rfl))) (λ_ _ _ _=>(Z1o (Y1v hr.units) (pv 0) (@Z0y _ _ _ _ _ (Z0a Z0b (Z0a Z0b (Z0a Z0b (Z0a Z0b (Z0a Z0b Z0d)))))) (nomark _)))) Z0d)))
   (@Z0g _ _ _ (Z4a (@Z0y _ _ _ _ _ (Z0a Z0b (Z0a Z0b (Z0a Z0b (Z0a Z0b (Z0a Z0b Z0d)))))) (Y4r (pv 3) (Z0i Z0x (Z0n c9 hr rfl (Z0a (pv 0) (Z0a (pv 1) Z0d))) (Z0p Z0s rfl B.len q1c (Z0a (pv 3) Z0d))) Z7v)))
   Z0r)
  (@Z0g _ _ _ (Z0l (pv 3)))))),?_⟩
 try dsimp only[cxK]
 refine⟨q1d _,λl hl=>?_⟩
 have hN:(1:Int)*2^((c:Int).toNat)=((2^c:Nat):Int):=ipow c
 have hM:(1*2^((c:Int).toNat):Int).toNat=2^c:=by rw[hN,q1o]
 have p6:=pow6 c6
 have p0:0<2^c:=q3c c
 refine⟨_,Z,_,_,Z,Z,⟨1,sz1,by omega,by omega⟩,_,Z,by rw[hN];omega,?_,Z1m (n:=(1*2^((c:Int).toNat):Int).toNat) (λj σ H'=>∃ (ps:U3) (f:Nat->A5) (v:Option V),Same H H'/\H' l=some (.lst (ps.map V.ref))/\ps.length=j/\Vals5 H' ps f/\(∀ i,Ok5 100 40 (f i))/\σ=[some (.ref a),some (.int i),some (.int c),some (.ref l),v])
  ⟨[],λ_=>((0,0,0,0),0),_,Z0f hl _,Z0c,Z,(λ_ _ z=>by cases z),(λ_=>⟨⟨s_0,s_0,s_0,s_0⟩,⟨q1r 0,.inl rfl⟩,forty⟩),Z⟩ ?_ ?_⟩
 ·rw[hN];omega
 ·rintro j σ H1 hj ⟨ps,f,v,S1,h1,hlen,hv,ok,rfl⟩
  rw[hM] at hj
  have hS1:=S1.seq hS
  have sz8:Sz 1048600 (cell ns (i+(0+(j:Int))%8)+(0+(j:Int)) / 8*7919):=((X4x lt _).add (show Sz 20 ((0+(j:Int)) / 8*7919) by unfold Sz;omega)).mono (by decide)
  refine⟨_,Z,.inl ⟨Z,_,SqL.of h1⟩,_,Z,_,Z,_,Z,_,_,Z,Z,p_8,_,_,Z,Z,a,ns,_,Z,hS1,(by show 0<=i+(0+(j:Int))%8;omega),_,Z,_,_,Z,Z,⟨by decide,by decide⟩,_,_,Z,Z,.inr ⟨by decide,by decide⟩,_,_,Z,Z,_,Z,sz8,λp H2 x s2 e2 o2=>?_⟩
  refine⟨l,_,_,Z,Z,s2 _ _ h1,(by rw[q0a,hlen];exact q0s (q0s hj p6) (by decide)),?_⟩
  refine⟨ps++[p],λi=>if i=ps.length then x else f i,some (.int (0+j)),Z1a (S1.trans s2) hl,?_,by simp[hlen],vals_upd (vals_push hv s2 e2) (s2 _ _ h1),λi=>?_,Z⟩
  ·rw[Z0c,q0k];rfl
  ·show Ok5 100 40 (if i=ps.length then x else f i)
   split
   ·exact o2
   ·exact ok i
 ·rintro σ H1 ⟨ps,f,v,S1,h1,hlen,hv,ok,rfl⟩
  rw[hM] at hlen
  have hS1:=S1.seq hS
  refine⟨λσ' H'=>∃ (ps:U3) (f:Nat->A5),Same H H'/\H' l=some (.lst (ps.map V.ref))/\ps.length=2^c/\Vals5 H' ps f/\(∀ i,Ok5 100 40 (f i))/\Nz c f/\σ'=[some (.ref a),some (.int i),some (.int c),some (.ref l),v],?_,?_⟩
  ·refine⟨_,Z,l,Z,⟨_,SqL.of h1⟩,λacc hacc=>?_⟩
   refine Z6j (K:=K) (a:=l) (xs:=ps.map V.ref) (fr:=[]) (λi ys H'=>Same H1 H'/\H' acc=some (.lst ys)/\ys=((List.range i).map λj=>decide (l5 (f j)=[0,0,0,0,0])).map V.bl) (by rw[q0a,hlen];exact t64 p6) ⟨Z0f hacc _,Z0c,Z⟩ (λi ys H' p=>SqL.of (p.1 _ _ h1)) ?_ ?_
   ·rintro i x ys H2 N hx hy ⟨s2,a2,rfl⟩ kN
    rw[q0n] at hx
    obtain⟨p,hp,rfl⟩:=q0l.mp hx
    have ep:=s2 _ _ (hv i p hp)
    refine⟨_,Z,t5,λt ht=>⟨p,t,l5 (f i),[0,0,0,0,0],Z,Z,SqT.of (Z0f ht _ _ _ ep),SqT.of Z0c,kN _ _ (Z0f ht _ _ _ a2) ⟨Z1a (s2.trans (Z0f ht _)) hacc,Z0c,?_⟩⟩⟩
    rw[q6c,q0k,q0k];rfl
   ·rintro ys H2 hl2 ⟨s2,a2,rfl⟩
    refine⟨acc,_,Z,SqL.of a2,_,Z,blI (λ_=>?_) (λeb=>?_)⟩
    ·refine⟨t5,λt ht=>?_⟩
     have S3:=s2.trans (Z0f ht (tA ((1,0,0,0),0)))
     have h3:=S3 _ _ h1
     have lp:(0:Int)<((ps.map V.ref).length:Nat):=by rw[q0a,hlen];omega
     have e0:=q2h (cell ns i) (q4g lp)
     have e1:=q2i (cell ns i) lp
     refine⟨_,Z,_,Z,_,Z,a,ns,_,Z,S3.seq hS1,i0,_,Z,l,_,Z,.inl (SqL.of h3),_,_,Z,Z,lp,l,_,_,(cell ns i%((ps.map V.ref).length:Nat)).toNat,Z,Z,h3,?_,?_⟩
     ·unfold ixN
      rw[if_pos e0,if_pos e1]
     refine⟨ps.set (cell ns i%((ps.map V.ref).length:Nat)).toNat t,λj=>if j=(cell ns i%((ps.map V.ref).length:Nat)).toNat then ((1,0,0,0),0) else f j,Z1a (S1.trans S3) hl,?_,by simp[hlen],vals_upd (Y7o (hv.same S3) Z0c) h3,λj=>?_,⟨(cell ns i%((ps.map V.ref).length:Nat)).toNat,?_,?_⟩,Z⟩
     ·rw[Z0c,q9b]
     ·show Ok5 100 40 (if j=_ then _ else f j)
      split
      ·exact⟨⟨s_1,s_0,s_0,s_0⟩,⟨q1r 0,.inl rfl⟩,forty⟩
      ·exact ok j
     ·show (cell ns i%((ps.map V.ref).length:Nat)).toNat<2^c
      rw[q0a,hlen] at *
      omega
     ·show (if _=_ then ((1,0,0,0),0) else f _)≠_
      rw[if_pos rfl]
      intro z
      cases z
    ·refine⟨ps,f,S1.trans s2,s2 _ _ h1,hlen,hv.same s2,ok,?_,Z⟩
     rw[q0a,hlen] at eb
     exact X8z (by rw[eb];exact q0p)
  rintro σ' H2 ⟨qs,g,S2,h2,l2,v2,o2,nz,rfl⟩
  exact⟨_,Z,q l H2 qs g hl S2 h2 l2 v2 o2 nz⟩
theorem Z6i {K:U0}{a:W9}{ns:U6}{te:TE}{fr:L2.St}{H1:Hp}{acc:W9}{Q:VK}(f:Int->V)(hl:SqT K H1 a (ns.map V.int))(hn:ns.length<=sizeLine)(hacc:H1 acc=none)(hs:∀ n H (N:V->Hp->Prop),n∈ns->Same H1 H->N (f n) H->te (some (.int n)::fr) H N)
  (hd:∀ H2,Same H1 H2->H2 acc=some (.lst (ns.map f))->Q (.ref acc) H2):LcW (Itt K a) (gName 0) te (none::fr) H1 acc Q:=by
 refine Y0o (n:=ns.length) (val:=λi=>.int (ns.getD i 0)) (λi=>f (ns.getD i 0)) hn hacc (λi H hi s=>?_) (λH s=>⟨_,s.tup hl,by simp⟩) (λi H N hi s kN=>hs _ H N (by simp[hi]) s kN) (λH2 s h=>hd H2 s (by rw[h,Z6b]))
 have e:(ns.map V.int)[i]?=some (.int (ns.getD i 0)):=by simp[hi]
 refine⟨⟨_,_,s.tup hl,e⟩,λx H' y=>⟨y.1,?_⟩⟩
 have:=y.2 _ (s.tup hl)
 rw[e] at this
 exact(Option.some.inj this).symm
theorem cut54:¬ (HT.sIx 5 0 none=0/\HT.sIx 5 5 (some 4)=5):=by decide
def spFarN:Sp:=λvs H Q _=>∃ (p:W9) (x:A5),vs=[.ref p]/\H p=some (tA x)/\Ok5 100 40 x/\∀ (r:W9) (H':Hp) (y:A5),Same H H'->H' r=some (tA y)->Ok5 3300 940 y->(y=((0,0,0,0),0)->x=((0,0,0,0),0))->Q (.ref r) H'
theorem X6x {a b c d h A:Int}(o:Amt a b c d h)(hA:A≠0){g x y z u k:Int}(s:Same4 (a*A) (b*A) (c*A) (d*A) g x y z u k)(e:((x,y,z,u),k)=(((0,0,0,0),0):A5)):((a,b,c,d),h)=(((0,0,0,0),0):A5):=by
 cases e
 have z:∀ {t:Int},Eq2 (t*A) g 0 0->t=0:=λ{t} q=>by
  unfold Eq2 at q
  rw[Int.zero_mul] at q
  rcases q8n.mp q with q | q
  ·rcases q8n.mp q with q | q
   ·exact q
   ·exact absurd q hA
  ·exact absurd q (Z6s 0)
 have e1:=z s.e1
 have e2:=z s.e2
 have e3:=z s.e3
 have e4:=z s.e4
 subst e1 e2 e3 e4
 rcases o.odd with q | q | q | q | q
 ·rw[q]
 all_goals exact absurd q (by decide)
noncomputable def far17:Nat->Int
 | 0=>1
 | i+1=>far17 i*7^(64:Int).toNat
theorem X1m:∀ i,far17 i≠0
 | 0=>by decide
 | i+1=>λz=>by
  rcases q8n.mp z with q | q
  ·exact X1m i q
  ·exact absurd q (by decide +kernel)
theorem Y6i:∀ i,Sz (180*i+1) (far17 i)
 | 0=>by decide +kernel
 | i+1=>((Y6i i).mul (show Sz 180 ((7:Int)^(64:Int).toNat) by decide +kernel)).mono (by omega)
theorem sc_far:FnScope ["_law_one","_law_far_here","_law_k"] ["_law_one"] (Z0h (top 76)):=fS
theorem ok_far (F:FunAt K "_law_far" (top 76) .none)(X:K.In h)(G:Ng h mg)(B:Bs mg)(c7:Cal P w K mg base k "_law_low" ["_law_parts","_law_h"] spLow):Cal P w K mg base (k+1) "_law_far" ["_law_one"] spFarN:=by
 have nd:=sc_far.nd
 refine F.cal X G sc_far (bnd1 λ_ _ _ _ _ _ _=>rfl) (λvs H Q E h=>?_) (λf cdv A outer s H vs Q E hr h=>?_)
 ·obtain⟨p,x,rfl,_⟩:=h;rfl
 obtain⟨p,x,rfl,hp,ok,q⟩:=h
 refine⟨_,(@Z0e _ _ _ _ _ (Z1b (Z0q (Y0h hr.units) (pv 0) (@Z0y _ _ _ _ _ (Z0a Z0b (Z0a Z0b (Z0a Z0b (Z0a Z0b (Z0a Z0b Z0d)))))) (nomark _))
   (@Z0g _ _ _ (Z0l (pv 0)))
   Z0r)
  (@Z0e _ _ _ _ _ (@Z0o _ _ 1 _ _ _ _ nd rfl (Or.inr rfl) Z0b rfl (.inl rfl))
  (@Z0e _ _ _ _ _ (Z1u PassesOwn.never rfl (Z1e rfl B.range (Z0a Z0b Z0d)) (Z0m (i:=2) nd rfl (Or.inl rfl))
   (@Z0g _ _ _ (@Z0o _ _ 1 _ _ _ _ nd rfl (Or.inr rfl) (Z0i Z2x (pv 1) (Z0i Z7d Z0b Z0b)) rfl (.inl rfl))))
  (@Z0g _ _ _ (Z0l (Z0n c7 hr rfl (Z0a (Z4i rfl (LcOk.of (Nc:=["_law_part","_law_far_here"]) (mp:=[none,some 1]) (by kernel_rfl)) (Z9d (Z1s Z7a (pv 0) Z2m (Z1v Z0b))) (λ_ _ _ _=>(Z0m (i:=0) (show (["_law_part","_law_far_here"]:W0).Nodup by decide +kernel) rfl (Or.inl rfl))) (λ_ _ _ _=>(Z0i Z2x (pv 0) (pv 1)))) (Z0a (Z0i Z1f (Z0k Z0j (pv 0) Z0b (λ_ _=>rfl)) Z0b) Z0d)))))))),?_⟩
 try dsimp only[cxK]
 refine⟨_,Z,t5,λt ht=>⟨p,t,l5 x,[0,0,0,0,0],Z,Z,SqT.of (Z0f ht _ _ _ hp),SqT.of Z0c,_,Z,decI (λ_=>⟨_,Z,q p _ x (Z0f ht _) (Z0f ht _ _ _ hp) (ok.mono (by decide) (by decide)) id⟩) (λ_=>?_)⟩⟩
 have S1:=Z0f ht (.tup [.int 0,.int 0,.int 0,.int 0,.int 0])
 have hp1:=S1 _ _ hp
 generalize upd H t (.tup [.int 0,.int 0,.int 0,.int 0,.int 0])=H1 at *
 refine⟨17,Z,by decide,by decide,Z1m (n:=17) (λi σ H'=>H'=H1/\∃ v,σ=[some (.ref p),some (.int (far17 i)),v]) ⟨Z,_,Z⟩ ?_ ?_⟩
 ·rintro i σ H' hi ⟨rfl,v,rfl⟩
  exact⟨_,Z,_,_,Z,Z,⟨by decide,by decide,by decide⟩,_,_,Z,Z,⟨180*i+1,180,Y6i i,show Sz 180 ((7:Int)^(64:Int).toNat) by decide +kernel,by omega⟩,Z,_,Z⟩
 ·rintro σ H' ⟨rfl,v,rfl⟩
  have S:SqT K H' p ((l5 x).map V.int):=SqT.of hp1
  refine⟨_,Z,4,Z,p,_,Z,S,cut54,λl1 hl1=>?_⟩
  have S2:=Z0f hl1 (.tup ([x.1.1,x.1.2.1,x.1.2.2.1,x.1.2.2.2].map V.int))
  refine⟨l1,Z,⟨_,SqT.of Z0c⟩,λacc hacc=>?_⟩
  have zf:Sz 3061 (far17 17):=Y6i 17
  refine Z6i (ns:=[x.1.1,x.1.2.1,x.1.2.2.1,x.1.2.2.2]) (fr:=[some (.int (far17 17))]) (λn=>V.int (n*far17 17)) (SqT.of Z0c) t4 hacc (λn H3 N hn _ kN=>?_) (λH3 s3 a3=>?_)
  ·have zn:Sz 100 n:=by
    simp only[q0q,q0u,q2e] at hn
    rcases hn with rfl | rfl | rfl | rfl
    ·exact ok.sz.z1
    ·exact ok.sz.z2
    ·exact ok.sz.z3
    ·exact ok.sz.z4
   exact⟨_,Z,_,Z,_,_,Z,Z,⟨100,3061,zn,zf,by decide⟩,kN⟩
  have nn:=ok.amt.nn
  have le:=ok.le
  refine⟨_,Z,p,_,_,_,Z,Z,(S2.trans s3).tup S,Z,_,_,Z,Z,acc,_,_,_,_,_,Z,a3,(by show 0<=x.2+900;omega),λr H4 a b c d g s4 e4 r4=>q r H4 ((a,b,c,d),g) (S1.trans (S2.trans (s3.trans s4))) e4 ⟨(r4.sz ⟨ok.sz.z1.mul zf,ok.sz.z2.mul zf,ok.sz.z3.mul zf,ok.sz.z4.mul zf⟩).mono (by decide),r4.amt,?_⟩ (X6x ok.amt (X1m 17) r4.same)⟩
  have h2:g<=x.2+900:=r4.le
  show g<=940
  omega
theorem sc_markby:FnScope ["_law_cell","_law_cells","_law_mixed_up","_law_size"] ["_law_cell","_law_cells"] (Z0h (top 70)):=fS
theorem ok_markby (F:FunAt K "_law_mark_by" (top 70) .none)(X:K.In h)(G:Ng h mg):Cal P w K mg base (k+1) "_law_mark_by" ["_law_cell","_law_cells"] Y1h:=by
 have nd:=sc_markby.nd
 refine F.cal X G sc_markby (bnd2 λ_ _ _ _ _ _ _ _=>rfl) (λvs H Q E h=>?_) (λf cdv A outer s H vs Q E hr h=>?_)
 ·obtain⟨c,n,rfl,_⟩:=h;rfl
 obtain⟨c,n,rfl,hn,kq⟩:=h
 refine⟨_,(@Z0e _ _ _ _ _ (@Z0o _ _ 2 _ _ _ _ nd rfl (Or.inl rfl) (Z0i Z0x (Z0i Z3h (pv 0) Z0b) Z0b) rfl (.inl rfl))
  (@Z0e _ _ _ _ _ (@Z0o _ _ 3 _ _ _ _ nd rfl (Or.inl rfl) (Z0i Z1x Z0b (pv 1)) rfl (.inl rfl))
  (@Z0g _ _ _ (Z0l (@Z0y _ _ _ _ _ (Z0a (Z0i Z0x (pv 2) Z0b) (Z0a (Z0i Z0x (Z0i Z1g (pv 2) Z0b) (pv 3)) (Z0a (Z0i Z0x (Z0i Y1u (Z0i Z1g (pv 2) Z0b) (pv 3)) (pv 3)) Z0d)))))))),?_⟩
 try dsimp only[cxK]
 have p6:=pow6 hn
 have p0:0<2^n:=q3c n
 have hN:(1:Int)*2^((n:Int).toNat)=((2^n:Nat):Int):=ipow n
 have N0:(0:Int)<1*2^((n:Int).toNat):=by rw[hN];omega
 refine⟨_,Z,_,_,Z,Z,.inr ⟨by decide,by decide⟩,_,_,Z,Z,X3d,?_⟩
 refine⟨_,Z,_,_,Z,Z,⟨1,by decide +kernel,by omega,by omega⟩,?_⟩
 refine⟨_,Z,_,_,Z,Z,p_4,_,Z,_,_,Z,Z,⟨by decide,by decide⟩,_,Z,_,_,Z,Z,N0,?_⟩
 refine⟨_,Z,_,_,Z,Z,⟨by decide,by decide⟩,_,Z,_,_,Z,Z,⟨q4g N0,?_⟩,_,Z,_,_,Z,Z,N0,(by show 3<=sizeLine;decide),λr hr=>?_⟩
 ·rw[hN]
  exact(show Sz 7 ((2^n:Nat):Int) by unfold Sz;rw[Int.natAbs_natCast];omega).mono (by decide)
 generalize hm:c*48271%2147483647=m
 have m0:0<=m:=by omega
 have d0:0<=m / 4:=by omega
 have e1:(m%4).toNat<4:=by omega
 have l1:0<=m / 4%((2^n:Nat):Int)/\m / 4%((2^n:Nat):Int)<((2^n:Nat):Int):=⟨q2h _ (by omega),q2i _ (by omega)⟩
 have l2:0<=(m / 4).fdiv ((2^n:Nat):Int)%((2^n:Nat):Int)/\(m / 4).fdiv ((2^n:Nat):Int)%((2^n:Nat):Int)<((2^n:Nat):Int):=⟨q2h _ (by omega),q2i _ (by omega)⟩
 refine kq r _ (m%4).toNat (m / 4%((2^n:Nat):Int)).toNat ((m / 4).fdiv ((2^n:Nat):Int)%((2^n:Nat):Int)).toNat (Z0f hr _) ?_ e1 (by omega) (by omega)
 rw[Z0c]
 have t:∀ z:Int,0<=z->((z.toNat:Nat):Int)=z:=λz hz=>by omega
 show some (HO.tup [.int (m%4),.int (m / 4%(1*2^((n:Int).toNat))),.int ((m / 4).fdiv (1*2^((n:Int).toNat))%(1*2^((n:Int).toNat)))])=some (HO.tup [.int _,.int _,.int _])
 rw[hN,t _ (by omega),t _ l1.1,t _ l2.1]
theorem sc_bits:FnScope ["_law_number","_law_many"] ["_law_number"] (Z0h (top 71)):=fS
theorem ok_bits (F:FunAt K "_law_bits" (top 71) .none)(X:K.In h)(G:Ng h mg):Cal P w K mg base (k+1) "_law_bits" ["_law_number"] spOnes:=by
 have nd:=sc_bits.nd
 refine F.cal X G sc_bits (bnd1 λ_ _ _ _ _ _ _=>rfl) (λvs H Q E h=>?_) (λf cdv A outer s H vs Q E hr h=>?_)
 ·obtain⟨n,rfl,_⟩:=h;rfl
 obtain⟨n,rfl,q⟩:=h
 refine⟨_,(@Z0e _ _ _ _ _ (@Z0o _ _ 1 _ _ _ _ nd rfl (Or.inl rfl) Z0b rfl (.inl rfl))
  (@Z0e _ _ _ _ _ (Z7y PassesOwn.never (Z0q Y2v (pv 0) Z0b (nomark _))
   (@Z0e _ _ _ _ _ (@Z0o _ _ 1 _ _ _ _ nd rfl (Or.inl rfl) (Z0i Z1f (pv 1) (Z0i Z0x (pv 0) Z0b)) rfl (.inl rfl))
   (@Z0g _ _ _ (@Z0o _ _ 0 _ _ _ _ nd rfl (Or.inl rfl) (Z0i Z1g (pv 0) Z0b) rfl (.inl rfl)))))
  (@Z0g _ _ _ (Z0l (pv 1))))),?_⟩
 try dsimp only[cxK]
 refine⟨λm σ H'=>H'=H/\∃ j:Nat,j+pc m=pc n/\σ=[some (.int m),some (.int j)],⟨n,Z,0,q3o _,Z⟩,?_⟩
 rintro m σ H' ⟨rfl,j,hj,rfl⟩
 refine⟨_,Z,_,_,Z,Z,_,Z,decI (λhr0=>?_) (λhr0=>?_)⟩
 ·have hm:0<m:=by omega
  have e:=Z5d m
  refine⟨_,λσ' H' x=>x,?_⟩
  refine⟨_,Z,_,Z,_,_,Z,Z,p_2,_,_,Z,Z,?_⟩
  refine⟨_,Z,_,_,Z,Z,⟨by decide,by decide⟩,⟨m / 2,by omega,Z,j+m%2,by omega,Z⟩⟩
 ·have r0:m=0:=by omega
  subst r0
  rw[Z8b,q5c] at hj
  subst hj
  exact⟨_,Z,q⟩
end
end K64.V
namespace K64
open L2 Am Pc Ba
def Y0b (K:U0):Sp:=λvs H Q _=>∃ (p q:W9) (x y:A5) (s:Int) (n m:Nat),vs=[.ref p,.ref q,.int s]/\(s=1∨s=-1)/\At5 K H p x/\At5 K H q y/\Ok5 n m x/\Ok5 n m y/\n<=300000/\m<=10000 ∧
 ∀ (r:W9) (H':Hp) (z:A5),Same H H'->H' r=some (tA z)->Sum x.1.1 x.1.2.1 x.1.2.2.1 x.1.2.2.2 x.2 (s*y.1.1) (s*y.1.2.1) (s*y.1.2.2.1) (s*y.1.2.2.2) y.2 z.1.1 z.1.2.1 z.1.2.2.1 z.1.2.2.2 z.2 →
  Sz4 (n+x.2.toNat+y.2.toNat+2) z.1.1 z.1.2.1 z.1.2.2.1 z.1.2.2.2->Q (.ref r) H'
def Z7q (K:U0):Sp:=λvs H Q _=>∃ (p q:W9) (x y:A5) (n m n2 m2:Nat),vs=[.ref p,.ref q]/\At5 K H p x/\At5 K H q y/\Ok5 n m x/\Ok5 n2 m2 y/\n+n2<=200000 ∧
 ∀ (r:W9) (H':Hp) (z:A5),Same H H'->H' r=some (tA z)->Prd x y z->Ok5 (n+n2+4) (m+m2:Nat) z->Q (.ref r) H'
noncomputable def tstep (x y:U6)(j k:Nat)(l:U6):List Int:=l.set ((j+k)%4) (l.getD ((j+k)%4) 0+(1-2*(((j+k) / 4:Nat):Int))*x.getD j 0*y.getD k 0)
noncomputable def trow (x y:U6)(j:Nat):Nat->List Int->List Int
 | 0,l=>l
 | k+1,l=>tstep x y j k (trow x y j k l)
noncomputable def tall (x y:U6):Nat->List Int
 | 0=>[0,0,0,0]
 | j+1=>trow x y j 4 (tall x y j)
theorem Y3s (x y:U6)(j k:Nat)(l:U6):(tstep x y j k l).length=l.length:=q5h
theorem Z7m (x y:U6)(j:Nat):∀ (k:Nat) (l:U6),(trow x y j k l).length=l.length
 | 0,l=>rfl
 | k+1,l=>by
  show (tstep x y j k (trow x y j k l)).length=_
  rw[Y3s,Z7m]
theorem Y1a (x y:U6):∀ j,(tall x y j).length=4
 | 0=>rfl
 | j+1=>by
  show (trow x y j 4 (tall x y j)).length=_
  rw[Z7m,Y1a]
theorem X2e (a b c d a' b' c' d':Int):tall [a,b,c,d] [a',b',c',d'] 4=[a*a'-b*d'-c*c'-d*b',a*b'+b*a'-c*d'-d*c',a*c'+b*b'+c*a'-d*d',a*d'+b*c'+c*b'+d*a']:=by
 simp[tall,trow,tstep,Int.neg_mul,q6r]
theorem Y6b {n i:Nat}(h:i<n):ixN n (i:Int)=some i:=by
 unfold ixN
 rw[if_pos (by omega),if_pos (by omega),q1o]
theorem Z1y {l:U6}{i:Nat}(h:i<l.length):atI (l.map V.int) (i:Int)=some (.int (l.getD i 0)):=by
 unfold atI
 rw[Y6b (by rw[q0a];exact h),Option.bind_some,q0n,q0d h]
 simp[List.getD,q0d h]
section
variable {P:U8}{w:W1}{K:U0}{mg:U4}{base:Heap}{k:Nat}{h:Heap}
theorem sc_lplus:FnScope ["_law_one","_law_other","_law_sign","_law_most","_law_here","_law_there"] ["_law_one","_law_other","_law_sign"] (Z0h (top 73)):=fS
theorem Y8q (F:FunAt K "_law_plus" (top 73) .none)(X:K.In h)(G:Ng h mg)(B:Bs mg)(c7:Cal P w K mg base k "_law_low" ["_law_parts","_law_h"] spLow):Cal P w K mg base (k+1) "_law_plus" ["_law_one","_law_other","_law_sign"] (Y0b K):=by
 have nd:=sc_lplus.nd
 refine F.cal X G sc_lplus (bnd3 λ_ _ _ _ _ _ _ _ _=>rfl) (λvs H Q E h=>?_) (λf cdv A outer s H vs Q E hr h=>?_)
 ·obtain⟨p,q,x,y,s,n,m,rfl,_⟩:=h;rfl
 obtain⟨p,q,x,y,sg,n,m,rfl,hs,hp,hq,ox,oy,n3,m1,kq⟩:=h
 obtain⟨⟨a,b,c,d⟩,h⟩:=x
 obtain⟨⟨a',b',c',d'⟩,h'⟩:=y
 have hx0:0<=h:=ox.amt.nn
 have hy0:0<=h':=oy.amt.nn
 have hx1:h<=m:=ox.le
 have hy1:h'<=m:=oy.le
 have S1:SqT K H p [.int a,.int b,.int c,.int d,.int h]:=hp
 have S2:SqT K H q [.int a',.int b',.int c',.int d',.int h']:=hq
 refine⟨_,(@Z0e _ _ _ _ _ (@Z0o _ _ 3 _ _ _ _ nd rfl (Or.inl rfl) (Z0p (Z6q rfl) rfl B.max boot_max (Z0a (Z0k Z0j (pv 0) Z0b (λ_ _=>rfl)) (Z0a (Z0k Z0j (pv 1) Z0b (λ_ _=>rfl)) Z0d))) rfl (.inl rfl))
  (@Z0e _ _ _ _ _ (@Z0o _ _ 4 _ _ _ _ nd rfl (Or.inr rfl) (Z0i Z1x Z0b (Z0i Z1t (pv 3) (Z0k Z0j (pv 0) Z0b (λ_ _=>rfl)))) rfl (.inl rfl))
  (@Z0e _ _ _ _ _ (@Z0o _ _ 5 _ _ _ _ nd rfl (Or.inr rfl) (Z0i Z2x (pv 2) (Z0i Z1x Z0b (Z0i Z1t (pv 3) (Z0k Z0j (pv 1) Z0b (λ_ _=>rfl))))) rfl (.inl rfl))
  (@Z0g _ _ _ (Z0l (Z0n c7 hr rfl (Z0a (Z4i rfl (LcOk.of (Nc:=["_law_k","_law_one","_law_other","_law_here","_law_there"]) (mp:=[none,some 0,some 1,some 4,some 5]) (by kernel_rfl)) (Z1e rfl B.range (Z0a Z0b Z0d)) (λ_ _ _ _=>(Z0m (i:=0) (show (["_law_k","_law_one","_law_other","_law_here","_law_there"]:W0).Nodup by decide +kernel) rfl (Or.inl rfl))) (λ_ _ _ _=>(Z0i Z1f (Z0i Z2x (Z0k Y0p (pv 1) (pv 0) (λ_ _=>rfl)) (pv 3)) (Z0i Z2x (Z0k Y0p (pv 2) (pv 0) (λ_ _=>rfl)) (pv 4))))) (Z0a (pv 3) Z0d)))))))),?_⟩
 try dsimp only[cxK]
 refine⟨_,Z,p,_,_,_,Z,Z,S1,Z,_,Z,q,_,_,_,Z,Z,S2,Z,_,_,Z,?_⟩
 generalize hm:(if h'>h then h' else h)=M
 have e1:h<=M:=by rw[<-hm];split<;>omega
 have e2:h'<=M:=by rw[<-hm];split<;>omega
 have e3:M-h<=h'/\M-h'<=h/\M<=max h h':=by rw[<-hm];split<;>omega
 refine⟨_,Z,_,Z,p,_,_,_,Z,Z,S1,Z,_,_,Z,Z,_,_,Z,Z,⟨1,sz1,by omega,by omega⟩,?_⟩
 have zs:Sz 2 sg:=by rcases hs with rfl | rfl<;>decide +kernel
 have zp:∀ j:Nat,Sz (j+1) (1*2^j):=λj=>by rw[q4y];exact Y3u j
 refine⟨_,Z,_,Z,_,Z,q,_,_,_,Z,Z,S2,Z,_,_,Z,Z,_,_,Z,Z,⟨1,sz1,by omega,by omega⟩,_,_,Z,Z,?_,?_⟩
 ·exact⟨2,_,zs,zp _,by omega⟩
 have zh:=zp (M-h).toNat
 have zt:Sz (2+((M-h').toNat+1)) (sg*(1*2^(M-h').toNat)):=zs.mul (zp (M-h').toNat)
 have eh:(1:Int)*2^(M-h).toNat=2^(M-h).toNat:=q4y _
 have et:sg*((1:Int)*2^(M-h').toNat)=sg*2^(M-h').toNat:=by rw[q4y]
 refine⟨_,Z,by decide,by decide,λacc hacc=>?_⟩
 refine Z5s (lo:=0) (n:=4) (fr:=[some (.ref p),some (.ref q),some (.int ((1:Int)*2^(M-h).toNat)),some (.int (sg*((1:Int)*2^(M-h').toNat)))]) (λi ys H'=>Same H H'/\H' acc=some (.lst ys)/\ys=((List.range i).map λj=>[a,b,c,d].getD j 0*((1:Int)*2^(M-h).toNat)+[a',b',c',d'].getD j 0*(sg*((1:Int)*2^(M-h').toNat))).map V.int) t4 ⟨Z0f hacc _,Z0c,Z⟩ ?_ ?_
 ·rintro i ys H2 N hi hy ⟨s2,a2,rfl⟩ kN
  have g1:atI [V.int a,.int b,.int c,.int d,.int h] (0+(i:Int))=some (.int ([a,b,c,d].getD i 0))/\atI [V.int a',.int b',.int c',.int d',.int h'] (0+(i:Int))=some (.int ([a',b',c',d'].getD i 0))/\Sz n ([a,b,c,d].getD i 0)/\Sz n ([a',b',c',d'].getD i 0):=by
   have:i=0∨i=1∨i=2∨i=3:=by omega
   rcases this with rfl | rfl | rfl | rfl
   ·exact⟨Z,Z,ox.sz.z1,oy.sz.z1⟩
   ·exact⟨Z,Z,ox.sz.z2,oy.sz.z2⟩
   ·exact⟨Z,Z,ox.sz.z3,oy.sz.z3⟩
   ·exact⟨Z,Z,ox.sz.z4,oy.sz.z4⟩
  obtain⟨ga,gb,za,zb⟩:=g1
  refine⟨_,Z,_,Z,p,_,_,_,Z,Z,s2.tup S1,ga,_,Z,_,_,Z,Z,⟨_,_,za,zh,by omega⟩,_,Z,_,Z,q,_,_,_,Z,Z,s2.tup S2,gb,_,Z,_,_,Z,Z,⟨_,_,zb,zt,by omega⟩,_,_,Z,Z,?_⟩
  refine kN _ _ a2 ⟨Z1a s2 hacc,Z0c,?_⟩
  rw[q6c,q0k,q0k]
  rfl
 ·rintro ys H2 hy ⟨s2,a2,rfl⟩
  refine⟨_,Z,acc,_,_,_,_,_,Z,a2,by omega,λr H3 x' y' z' u' v' s3 hr3 RE=>?_⟩
  have key:∀ {u u':Int},u*((1:Int)*2^(M-h).toNat)+u'*(sg*((1:Int)*2^(M-h').toNat))=u*2^(M-h).toNat+(sg*u')*2^(M-h').toNat:=λ{u u'}=>by rw[eh,et,q6t sg u',q5z]
  have SE:∀ {u u':Int},Eq2 (u*p2 h'+(sg*u')*p2 h) (h+h') (u*((1:Int)*2^(M-h).toNat)+u'*(sg*((1:Int)*2^(M-h').toNat))) M:=λ{u u'}=>by rw[key];exact Z8t hx0 hy0 e1 e2
  have zsg:∀ {u':Int},Sz n u'->Sz n (sg*u'):=λ{u'} z=>by
   rcases hs with rfl | rfl
   ·rw[q4y];exact z
   ·rw[q8m];exact z.neg
  have SZ:∀ {u u':Int},Sz n u->Sz n u'->Sz (n+h.toNat+h'.toNat+2) (u*((1:Int)*2^(M-h).toNat)+u'*(sg*((1:Int)*2^(M-h').toNat))):=λ{u u'} z z'=>by rw[key];exact Z8s ⟨e3.1,e3.2.1⟩ z (zsg z') (q0f _)
  refine kq r H3 ((x',y',z',u'),v') (s2.trans s3) hr3 ⟨RE.amt,Same4.trans ⟨SE,SE,SE,SE⟩ RE.same,?_⟩ (RE.sz ⟨SZ ox.sz.z1 oy.sz.z1,SZ ox.sz.z2 oy.sz.z2,SZ ox.sz.z3 oy.sz.z3,SZ ox.sz.z4 oy.sz.z4⟩)
  have:=RE.le
  exact q9c this e3.2.2
theorem sc_ltimes:FnScope ["_law_one","_law_other","_law_parts","_law_j","_law_k","_law_at","_law_sign"] ["_law_one","_law_other"] (Z0h (top 72)):=fS
theorem Y5h (F:FunAt K "_law_times" (top 72) .none)(X:K.In h)(G:Ng h mg)(B:Bs mg)(c7:Cal P w K mg base k "_law_low" ["_law_parts","_law_h"] spLow):Cal P w K mg base (k+1) "_law_times" ["_law_one","_law_other"] (Z7q K):=by
 have nd:=sc_ltimes.nd
 refine F.cal X G sc_ltimes (bnd2 λ_ _ _ _ _ _ _ _=>rfl) (λvs H Q E h=>?_) (λf cdv A outer s H vs Q E hr h=>?_)
 ·obtain⟨p,q,x,y,n,m,n2,m2,rfl,_⟩:=h;rfl
 obtain⟨p,q,x,y,n,m,n2,m2,rfl,hp,hq,ox,oy,n1,kq⟩:=h
 obtain⟨⟨a,b,c,d⟩,h⟩:=x
 obtain⟨⟨a',b',c',d'⟩,h'⟩:=y
 have hx0:0<=h:=ox.amt.nn
 have hy0:0<=h':=oy.amt.nn
 have S1:SqT K H p [.int a,.int b,.int c,.int d,.int h]:=hp
 have S2:SqT K H q [.int a',.int b',.int c',.int d',.int h']:=hq
 have gx:∀ i:Nat,i<4->atI [V.int a,.int b,.int c,.int d,.int h] (0+(i:Int))=some (.int ([a,b,c,d].getD i 0))/\Sz n ([a,b,c,d].getD i 0):=λi hi=>by
  have:i=0∨i=1∨i=2∨i=3:=by omega
  rcases this with rfl | rfl | rfl | rfl
  ·exact⟨Z,ox.sz.z1⟩
  ·exact⟨Z,ox.sz.z2⟩
  ·exact⟨Z,ox.sz.z3⟩
  ·exact⟨Z,ox.sz.z4⟩
 have gy:∀ i:Nat,i<4->atI [V.int a',.int b',.int c',.int d',.int h'] (0+(i:Int))=some (.int ([a',b',c',d'].getD i 0))/\Sz n2 ([a',b',c',d'].getD i 0):=λi hi=>by
  have:i=0∨i=1∨i=2∨i=3:=by omega
  rcases this with rfl | rfl | rfl | rfl
  ·exact⟨Z,oy.sz.z1⟩
  ·exact⟨Z,oy.sz.z2⟩
  ·exact⟨Z,oy.sz.z3⟩
  ·exact⟨Z,oy.sz.z4⟩
 refine⟨_,(@Z0e _ _ _ _ _ (@Z0o _ _ 2 _ _ _ _ nd rfl (Or.inl rfl) (@Z2r _ _ _ _ (Z0a Z0b (Z0a Z0b (Z0a Z0b (Z0a Z0b Z0d))))) rfl (.inl rfl))
  (@Z0e _ _ _ _ _ (Z1u PassesOwn.never rfl (Z1e rfl B.range (Z0a Z0b Z0d)) (Z0m (i:=3) nd rfl (Or.inl rfl))
   (@Z0g _ _ _ (Z1u PassesOwn.never rfl (Z1e rfl B.range (Z0a Z0b Z0d)) (Z0m (i:=4) nd rfl (Or.inl rfl))
    (@Z0e _ _ _ _ _ (@Z0o _ _ 5 _ _ _ _ nd rfl (Or.inl rfl) (Z0i Z0x (Z0i Z1f (pv 3) (pv 4)) Z0b) rfl (.inl rfl))
    (@Z0e _ _ _ _ _ (@Z0o _ _ 6 _ _ _ _ nd rfl (Or.inl rfl) (Z0i Z1t Z0b (Z0i Z3h Z0b (Z0i Z1g (Z0i Z1f (pv 3) (pv 4)) Z0b))) rfl (.inl rfl))
    (@Z0g _ _ _ (Z4a (Z0i Z1f (Z0k Z0w (pv 2) (pv 5) (λ_ _=>rfl)) (Z0i Z2x (Z0i Z2x (pv 6) (Z0k Z0j (pv 0) (pv 3) (λ_ _=>rfl))) (Z0k Z0j (pv 1) (pv 4) (λ_ _=>rfl)))) (Y4r (pv 2) (pv 5) Z7v))))))))
  (@Z0g _ _ _ (Z0l (Z0n c7 hr rfl (Z0a (pv 2) (Z0a (Z0i Z1f (Z0k Z0j (pv 0) Z0b (λ_ _=>rfl)) (Z0k Z0j (pv 1) Z0b (λ_ _=>rfl))) Z0d))))))),?_⟩
 try dsimp only[cxK]
 refine⟨t4,λlp hlp=>?_⟩
 refine⟨_,Z,by decide,by decide,?_⟩
 refine Z1m (n:=4) (λj σ H'=>Same H H'/\H' lp=some (.lst ((tall [a,b,c,d] [a',b',c',d'] j).map V.int))/\∃ v3 v4 v5 v6,σ=[some (.ref p),some (.ref q),some (.ref lp),v3,v4,v5,v6]) ⟨Z0f hlp _,Z0c,_,_,_,_,Z⟩ ?_ ?_
 ·rintro j σ H1 hj ⟨s1,a1,v3,v4,v5,v6,rfl⟩
  refine⟨_,Z,by decide,by decide,?_⟩
  refine Z1m (n:=4) (λk σ H'=>Same H H'/\H' lp=some (.lst ((trow [a,b,c,d] [a',b',c',d'] j k (tall [a,b,c,d] [a',b',c',d'] j)).map V.int))/\∃ v4 v5 v6,σ=[some (.ref p),some (.ref q),some (.ref lp),some (.int (0+(j:Int))),v4,v5,v6]) ⟨s1,a1,_,_,_,Z⟩ ?_ ?_
  ·rintro k σ H2 hk ⟨s2,a2,v4,v5,v6,rfl⟩
   obtain⟨ga,za⟩:=gx j hj
   obtain⟨gb,zb⟩:=gy k hk
   have e1:((0+(j:Int))+(0+(k:Int)))%4=(((j+k)%4:Nat):Int):=by omega
   have e2:((0+(j:Int))+(0+(k:Int))) / 4=(((j+k) / 4:Nat):Int):=by omega
   have L:(trow [a,b,c,d] [a',b',c',d'] j k (tall [a,b,c,d] [a',b',c',d'] j)).length=4:=by rw[Z7m,Y1a]
   have zs:Sz 2 (1-2*(((j+k) / 4:Nat):Int)):=by
    have:(j+k) / 4=0∨(j+k) / 4=1:=by omega
    rcases this with z | z<;>rw[z]<;>decide +kernel
   refine⟨_,Z,_,Z,_,_,Z,Z,_,_,Z,Z,(by decide:(0:Int)<4),?_⟩
   refine⟨_,Z,_,Z,_,_,Z,Z,_,_,Z,Z,⟨by decide,by decide⟩,_,_,Z,Z,.inl ⟨by decide,by decide⟩,_,_,Z,Z,?_⟩
   refine⟨_,Z,_,Z,lp,_,_,_,Z,Z,SqL.of a2,(by rw[e1];exact Z1y (by rw[L];exact q7b _ (by decide))),_,Z,_,Z,_,Z,p,_,_,_,Z,Z,s2.tup S1,ga,_,_,Z,Z,(by rw[e2];exact⟨_,_,zs,za,by omega⟩),_,Z,_,Z,q,_,_,_,Z,Z,s2.tup S2,gb,_,_,Z,Z,(by rw[e2];exact⟨_,_,zs.mul za,zb,by omega⟩),_,_,Z,Z,?_⟩
   refine⟨_,Z,_,Z,lp,_,_,_,Z,Z,a2,(by rw[e1];exact Y6b (by rw[q0a,L];exact q7b _ (by decide))),Z1a s2 hlp,?_,_,_,_,Z⟩
   rw[Z0c,e2]
   show _=some (HO.lst ((tstep _ _ j k _).map V.int))
   unfold tstep
   rw[q9b]
  ·rintro σ H2 ⟨s2,a2,v4,v5,v6,rfl⟩
   exact⟨s2,a2,_,_,_,_,Z⟩
 ·rintro σ H1 ⟨s1,a1,v3,v4,v5,v6,rfl⟩
  rw[X2e] at a1
  refine⟨_,Z,_,Z,p,_,_,_,Z,Z,s1.tup S1,Z,_,Z,q,_,_,_,Z,Z,s1.tup S2,Z,_,_,Z,Z,?_⟩
  refine⟨lp,_,_,_,_,_,Z,a1,by omega,λr H' x' y' z' u' v' S' hr' RE=>?_⟩
  have o1:h<=m:=ox.le
  have o2:h'<=m2:=oy.le
  have o3:v'<=h+h':=RE.le
  have zx:=ox.sz
  have zy:=oy.sz
  refine kq r H' ((x',y',z',u'),v') (s1.trans S') hr' ⟨RE.amt,RE.same,o3⟩ ⟨RE.sz ⟨?_,?_,?_,?_⟩,RE.amt,by show v'<=_;omega⟩
  ·exact((((zx.z1.mul zy.z1).sub (zx.z2.mul zy.z4)).sub (zx.z3.mul zy.z3)).sub (zx.z4.mul zy.z2)).mono (by omega)
  ·exact((((zx.z1.mul zy.z2).add (zx.z2.mul zy.z1)).sub (zx.z3.mul zy.z4)).sub (zx.z4.mul zy.z3)).mono (by omega)
  ·exact((((zx.z1.mul zy.z3).add (zx.z2.mul zy.z2)).add (zx.z3.mul zy.z1)).sub (zx.z4.mul zy.z4)).mono (by omega)
  ·exact((((zx.z1.mul zy.z4).add (zx.z2.mul zy.z3)).add (zx.z3.mul zy.z2)).add (zx.z4.mul zy.z1)).mono (by omega)
end
end K64
set_option maxHeartbeats 1000000
namespace K55S
open L2 Ba Am Pc M71
open K64 (top Bs At5 ValsK Bd5 Z5q Z7p MvT)
open M72 (V4 sm add En fl sw VOk)
open M75 (Mk)
theorem X9d {c:Nat}{nm':Str}{ns':U6}(h:(nm'="mix"/\∃ a:Nat,a<c/\ns'=[(a:Int)])∨∃ v:K64.Mv,v.Ok c/\nm'=v.nm/\ns'=v.ns):∃ x:Mv,VOk c x/\MvT nm' ns'=mT (mm x):=by
 have ci:∀ {a:Nat},a<c->(0:Int)<=(a:Int)/\(a:Int)<(c:Int):=λ{a} h=>⟨by omega,by omega⟩
 rcases h with ⟨rfl,a,ha,rfl⟩ | ⟨v,ok,rfl,rfl⟩
 ·exact⟨.mix a,⟨(ci ha).1,λy hy=>by simp[Mv.cells] at hy;omega⟩,Z⟩
 ·cases v with
  | flip a=>have ok:a<c:=ok;exact⟨.flip a,⟨(ci ok).1,λy hy=>by simp[Mv.cells] at hy;omega⟩,rfl⟩
  | turn a k=>have ok:a<c/\1<=k/\k<=7:=ok;exact⟨.turn a k,⟨⟨by omega,by omega,by omega⟩,λy hy=>by simp[Mv.cells] at hy;omega⟩,rfl⟩
  | iff a b=>have ok:a<c/\b<c/\a≠b:=ok;exact⟨.iff a b,⟨⟨by omega,by omega,by omega⟩,λy hy=>by simp[Mv.cells] at hy;omega⟩,rfl⟩
  | pair a b=>have ok:a<c/\b<c/\a≠b:=ok;exact⟨.pair a b,⟨⟨by omega,by omega,by omega⟩,λy hy=>by simp[Mv.cells] at hy;omega⟩,rfl⟩
  | swap a b=>have ok:a<c/\b<c/\a≠b:=ok;exact⟨.swap a b,⟨⟨by omega,by omega,by omega⟩,λy hy=>by simp[Mv.cells] at hy;omega⟩,rfl⟩
  | cross a b d=>have ok:a<c/\b<c/\d<c/\a≠b/\a≠d/\b≠d:=ok;exact⟨.cross a b d,⟨⟨by omega,by omega,by omega,by omega,by omega,by omega⟩,λy hy=>by simp[Mv.cells] at hy;omega⟩,rfl⟩
theorem Y9s {x:Mv}(e:nm x="cross"):∃ a b d,x=.cross a b d:=by
 have:=(Y9h x).mp e
 cases x<;>first | exact⟨_,_,_,Z⟩ | simp[code] at this
def Y4a (K:U0):Sp:=λvs H Q _=>∃ (a:W9) (ns:U6) (c:Nat) (wl:Bool),vs=[.ref a,.int c,.bl wl]/\SqL K H a (ns.map V.int)/\ns.length<=63/\1<=c/\c<=6 ∧
 ∀ (l:W9) (H':Hp) (row:List Mv),H l=none->Same H H'->RowAt H' l row->row.length=ns.length->(∀ x∈row,VOk c x)->(wl=false->3<c->cO row<=2)->Q (.ref l) H'
def Y4b:Sp:=λvs H Q _=>∃ (l:W9) (row:List Mv),vs=[.ref l]/\RowAt H l row/\row.length<=200/\Q (oV (plc 0 row)) H
theorem Y3o {K:U0}{H:Hp}{ps:U3}{f:Nat->A5}{p:W9}{x:A5}{j:Nat}(v:ValsK K H ps f)(e:At5 K H p x):ValsK K H (ps.set j p) (λi=>if i=j then x else f i):=by
 intro i q hq
 by_cases hi:i=j
 ·subst hi
  rw[q7j] at hq
  show At5 K H q (if i=i then x else f i)
  rw[if_pos rfl]
  cases h:ps[i]? with
  | none=>rw[h] at hq;cases hq
  | some r=>rw[h] at hq;cases hq;exact e
 ·rw[q3j (λz=>hi z.symm)] at hq
  show At5 K H q (if i=j then x else f i)
  rw[if_neg hi]
  exact v i q hq
section
variable {P:U8}{w:W1}{K:U0}{mg:U4}{base:Heap}{k:Nat}{h:Heap}
theorem sc_rowby:FnScope ["_law_numbers","_law_cells","_law_wild","_law_row","_law_odd","_law_most","_law_number","_law_move"] ["_law_numbers","_law_cells","_law_wild"] (Z0h (top 77)):=fS
theorem Y8l (F:FunAt K "_law_row_by" (top 77) .none)(X:K.In h)(G:Ng h mg)(B:Bs mg)(d7:Cal P w K mg base k "_law_move_by" ["_law_cell","_law_cells"] Z5q):Cal P w K mg base (k+1) "_law_row_by" ["_law_numbers","_law_cells","_law_wild"] (Y4a K):=by
 have nd:=sc_rowby.nd
 refine F.cal X G sc_rowby (bnd3 λ_ _ _ _ _ _ _ _ _=>rfl) (λvs H Q E h=>?_) (λf cdv A outer s H vs Q E hr h=>?_)
 ·obtain⟨a,nl,c,wl,rfl,_⟩:=h;rfl
 obtain⟨a,nl,c,wl,rfl,hS,l63,c1,c6,kq⟩:=h
 have big:(1000:Nat)<sizeLine:=by decide
 refine⟨_,(@Z0e _ _ _ _ _ (@Z0o _ _ 3 _ _ _ _ nd rfl (Or.inl rfl) (@Z2r _ _ _ _ Z0d) rfl (.inl rfl))
  (@Z0e _ _ _ _ _ (@Z0o _ _ 4 _ _ _ _ nd rfl (Or.inl rfl) Z0b rfl (.inl rfl))
  (@Z0e _ _ _ _ _ (@Z0o _ _ 5 _ _ _ _ nd rfl (Or.inl rfl) (Z0k Z0w (@Z2r _ _ _ _ (Z0a Z0b (Z0a Z0b Z0d))) (Z2e Z9r rfl B.int q9e (Z0a (Z1o Y2v (pv 1) Z0b (nomark _)) Z0d)) (λ_ _=>rfl)) rfl (.inl rfl))
  (@Z0e _ _ _ _ _ (Z1u PassesOwn.never rfl (Z1r (pv 0)) (Z0m (i:=6) nd rfl (Or.inl rfl))
   (@Z0e _ _ _ _ _ (@Z0o _ _ 7 _ _ _ _ nd rfl (Or.inl rfl) (Z0n d7 hr rfl (Z0a (pv 6) (Z0a (pv 1) Z0d))) rfl (.inl rfl))
   (@Z1c _ _ _ _ _ (Z1b (PW.pt (Z6c (Z0q Z1j (Z0k Z0j (pv 7) Z0b (λ_ _=>rfl)) Z1h (nomark _)) (Z4g (Z1z (Z1l (pv 2))))))
    (@Z0g _ _ _ (@Z0o _ _ 7 _ _ _ _ nd rfl (Or.inl rfl) (@Z0y _ _ _ _ _ (Z0a Z1h (Z0a (Z0k Z0j (pv 7) Z0b (λ_ _=>rfl)) (Z0a (Z0k Z0j (pv 7) Z0b (λ_ _=>rfl)) Z0d)))) rfl (.inl rfl)))
    Z0r)
   (@Z1c _ _ _ _ _ (Z1b (PW.pt (Z6c (Z0q Z1j (Z0k Z0j (pv 7) Z0b (λ_ _=>rfl)) Z1h (nomark _)) (Z4g (Z0q Z1j (Z0i Z0x (Z0k Z0j (pv 7) Z0b (λ_ _=>rfl)) Z0b) Z0b (nomark _)))))
    (@Z0e _ _ _ _ _ (@Z0o _ _ 4 _ _ _ _ nd rfl (Or.inl rfl) (Z0i Z1f (pv 4) Z0b) rfl (.inl rfl))
    (@Z0g _ _ _ (Z1b (PW.pt (Z6c (Z0q Y2v (pv 4) (pv 5) (nomark _)) (Z4g (Z1z (Z1l (pv 2))))))
     (@Z0g _ _ _ (@Z0o _ _ 7 _ _ _ _ nd rfl (Or.inl rfl) (@Z0y _ _ _ _ _ (Z0a Z1h (Z0a (Z0k Z0j (pv 7) Z0b (λ_ _=>rfl)) (Z0a Z0b Z0d)))) rfl (.inl rfl)))
     Z0r)))
    Z0r)
   (@Z0g _ _ _ (Z2v (Y2u q2f q2d q2c Z2j (pv 3) (Z0a (pv 7) Z0d))))))))
  (@Z0g _ _ _ (Z0l (pv 3))))))),?_⟩
 try dsimp only[cxK]
 refine⟨q1d _,λlr hlr=>?_⟩
 have s0:=Z0f hlr (.lst [])
 have q0:upd H lr (.lst []) lr=some (.lst []):=Z0c
 generalize upd H lr (.lst [])=H0 at s0 q0 ⊢
 refine⟨t2,λlq hlq=>?_⟩
 have s4:=Z0f hlq (.lst [.int 6,.int 2])
 have q4:upd H0 lq (.lst [.int 6,.int 2]) lq=some (.lst [.int 6,.int 2]):=Z0c
 have q0':=s4 _ _ q0
 generalize upd H0 lq (.lst [.int 6,.int 2])=H4 at s4 q4 q0' ⊢
 obtain⟨mo,hm,e⟩:∃ mo:Nat,(3<c->mo=2)/\atI [V.int 6,V.int 2] (if decide ((c:Int)>3) then 1 else 0)=some (.int mo):=by
  by_cases c3:(c:Int)>3
  ·exact⟨2,λ_=>rfl,by rw[q0t c3];rfl⟩
  ·exact⟨6,λz=>absurd z (by omega),by rw[q0j c3];rfl⟩
 refine⟨_,Z,_,_,Z,Z,.inr ⟨_,Z,lq,_,_,.int mo,Z,Z,SqL.of q4,e,?_⟩⟩
 have S4:=s0.trans s4
 refine⟨_,Z,a,Z,⟨_,S4.seq hS⟩,Z3y (K:=K) (a:=a) (xs:=nl.map V.int) (λj σ H'=>Same H H'/\∃ (rp:U3) (row:List Mv) (o:Nat) (v6 v7:Option V),H' lr=some (.lst (rp.map V.ref))/\RowsM H' rp (row.map mm)/\(∀ x∈row,VOk c x)/\row.length=j/\cO row<=o/\(wl=false->cO row<=mo)/\σ=[some (.ref a),some (.int c),some (.bl wl),some (.ref lr),some (.int o),some (.int mo),v6,v7])
  ⟨S4,[],[],0,none,none,q0',.nil,(λx hx=>nomatch hx),Z,q0f _,λ_=>q1d _,Z⟩ (λj σ H' _ e=>e.1.seq hS) ?_ ?_⟩
 ·rintro j x σ H1 hx ⟨S1,rp,row,o,v6,v7,a1,R1,O1,l1,co,cm,rfl⟩
  rw[q0n] at hx
  obtain⟨n,hn,rfl⟩:=q0l.mp hx
  have jl:j<nl.length:=(q0o.mp hn).1
  refine⟨_,Z,_,Z,n,c,Z,c1,c6,λr H2 nm' ns' S2 e2 h2=>?_⟩
  obtain⟨x,vo,ex⟩:=X9d h2
  rw[ex] at e2
  clear h2 ex
  refine⟨λσ H'=>Same H2 H'/\∃ (r:W9) (x:Mv),H' r=some (mT (mm x))/\VOk c x/\σ=[some (.ref a),some (.int c),some (.bl wl),some (.ref lr),some (.int o),some (.int mo),some (.int n),some (.ref r)],?_,?_⟩
  ·have SP:SqT K H2 r (.str (nm x)::(ns x).map V.int):=SqT.of e2
   refine⟨_,Z,r,_,_,.str (nm x),Z,Z,SP,at0m x,Z,_,Z,decI (λez=>?_) (λ_=>⟨Same.refl _,r,x,e2,vo,Z⟩)⟩
   refine⟨_,Z,_,Z,nblI (λ_=>?_) (λ_=>⟨Same.refl _,r,x,e2,vo,Z⟩)⟩
   obtain⟨a',b',d',rfl⟩:=Y9s (V.str.inj ez)
   refine⟨_,Z,r,_,_,.int a',Z,Z,SP,L2.Z1y (j:=1) rfl,_,Z,r,_,_,.int b',Z,Z,SP,L2.Z1y (j:=2) rfl,t3,λr2 hr2=>⟨Z0f hr2 _,r2,.swap a' b',Z0c,?_,Z⟩⟩
   obtain⟨ok,cl⟩:=vo
   have ok:0<=a'/\0<=b'/\0<=d'/\a'≠b'/\a'≠d'/\b'≠d':=ok
   exact⟨⟨ok.1,ok.2.1,ok.2.2.2.1⟩,λy hy=>cl y (by simp[Mv.cells] at hy ⊢;omega)⟩
  rintro σ H3 ⟨S3,r3,x3,e3,vo3,rfl⟩
  clear e2 vo
  refine⟨λσ H'=>Same H3 H'/\∃ (r:W9) (x:Mv) (o':Nat),H' r=some (mT (mm x))/\VOk c x/\cO (row++[x])<=o'/\(wl=false->cO (row++[x])<=mo)/\σ=[some (.ref a),some (.int c),some (.bl wl),some (.ref lr),some (.int o'),some (.int mo),some (.int n),some (.ref r)],?_,?_⟩
  ·have SP:SqT K H3 r3 (.str (nm x3)::(ns x3).map V.int):=SqT.of e3
   have no:oddT x3=false->Same H3 H3/\∃ (r:W9) (x:Mv) (o':Nat),H3 r=some (mT (mm x))/\VOk c x/\cO (row++[x])<=o'/\(wl=false->cO (row++[x])<=mo)/\[some (V.ref a),some (.int c),some (.bl wl),some (.ref lr),some (.int o),some (.int mo),some (.int n),some (.ref r3)]=[some (.ref a),some (.int c),some (.bl wl),some (.ref lr),some (.int o'),some (.int mo),some (.int n),some (.ref r)]:=λz=>by
    have e:cO (row++[x3])=cO row:=by rw[Z3f,o1,if_neg (by rw[z];decide),q5c]
    exact⟨Same.refl _,r3,x3,o,e3,vo3,by rw[e];exact co,by rw[e];exact cm,Z⟩
   refine⟨_,Z,r3,_,_,.str (nm x3),Z,Z,SP,at0m x3,Z,_,Z,decI (λez=>?_) (λez=>no (Z6g λz=>ez (by rw[z])))⟩
   obtain⟨a',j',rfl⟩:=Z5a (V.str.inj ez)
   refine⟨_,Z,r3,_,_,.int j',Z,Z,SP,k2,_,_,Z,Z,(by show (0:Int)<_;decide),Z,_,Z,decI (λeo=>?_) (λeo=>no (q0j eo))⟩
   have od:oddT (.turn a' j')=true:=q0t eo
   have e1:cO (row++[.turn a' j'])=cO row+1:=by rw[Z3f,o1,if_pos od]
   have eo1:V.int ((o:Int)+1)=V.int ((o+1:Nat):Int):=rfl
   refine⟨_,Z,_,_,Z,Z,?_⟩
   refine⟨_,Z,_,Z,_,_,Z,Z,_,Z,decI (λgt=>?_) (λgt=>⟨Same.refl _,r3,_,o+1,e3,vo3,by omega,λ_=>by omega,Z⟩)⟩
   refine⟨_,Z,_,Z,nblI (λwf=>?_) (λwt=>⟨Same.refl _,r3,_,o+1,e3,vo3,by omega,λz=>(by rw[z] at wt;cases wt),Z⟩)⟩
   refine⟨_,Z,r3,_,_,.int a',Z,Z,SP,k1,t3,λr4 hr4=>⟨Z0f hr4 _,r4,.turn a' 4,o+1,Z0c,?_,?_,?_,Z⟩⟩
   ·obtain⟨ok,cl⟩:=vo3
    have ok:0<=a'/\1<=j'/\j'<=7:=ok
    exact⟨⟨ok.1,by decide,by decide⟩,λy hy=>cl y hy⟩
   ·rw[Z3f,show o1 (.turn a' 4)=0 from rfl]
    omega
   ·intro z
    rw[Z3f,show o1 (.turn a' 4)=0 from rfl]
    exact cm z
  rintro σ H5 ⟨S5,r5,x5,o',e5,vo5,co5,cm5,rfl⟩
  have S15:=(S2.trans S3).trans S5
  have a5:=S15 _ _ a1
  have lrp:rp.length=row.length:=by have:=Z3d R1;rw[q0a] at this;exact this
  refine⟨_,Z,.inl ⟨Z,_,SqL.of a5⟩,_,Z,lr,_,_,Z,Z,a5,(by rw[q0a];omega),?_⟩
  refine⟨Z1a (S1.trans S15) hlr,rp++[r5],row++[x5],o',_,_,by rw[Z0c,q0k];rfl,?_,λy hy=>?_,by rw[q0x,l1];rfl,co5,cm5,Z⟩
  ·rw[q0k]
   exact Z4s (λ_ _ e=>by rw[Z0t (Z4v e a5 (by intro z;cases z))];exact e) (Z4h (R1.same S15) e5)
  ·rcases q2g.mp hy with q | q
   ·exact O1 y q
   ·rw[q1e.mp q];exact vo5
 ·rintro σ H1 ⟨S1,rp,row,o,v6,v7,a1,R1,O1,l1,co,cm,rfl⟩
  rw[q0a] at l1
  exact⟨_,Z,kq lr H1 row hlr S1 ⟨rp,a1,R1⟩ l1 O1 λw3 c3=>by rw[<-hm c3];exact cm w3⟩
theorem sc_place:FnScope ["_law_row","_law_odd","_law_k"] ["_law_row"] (Z0h (top 78)):=fS
theorem Y8m (F:FunAt K "_law_place" (top 78) .none)(X:K.In h)(G:Ng h mg)(B:Bs mg):Cal P w K mg base (k+1) "_law_place" ["_law_row"] Y4b:=by
 have nd:=sc_place.nd
 refine F.cal X G sc_place (bnd1 λ_ _ _ _ _ _ _=>rfl) (λvs H Q E h=>?_) (λf cdv A outer s H vs Q E hr h=>?_)
 ·obtain⟨l,row,rfl,_⟩:=h;rfl
 obtain⟨l,row,rfl,⟨ps,hl,hrow⟩,l200,kq⟩:=h
 have SL:SqL K H l (ps.map V.ref):=SqL.of hl
 have pl:ps.length=row.length:=by have:=Z3d hrow;rw[q0a] at this;exact this
 refine⟨_,(@Z0e _ _ _ _ _ (@Z0o _ _ 1 _ _ _ _ nd rfl (Or.inl rfl) Z0b rfl (.inl rfl))
  (@Z0e _ _ _ _ _ (Z1u PassesOwn.never rfl (Z1e rfl B.range (Z0a (Z0p Z0s rfl B.len q1c (Z0a (pv 0) Z0d)) Z0d)) (Z0m (i:=2) nd rfl (Or.inl rfl))
   (@Z1c _ _ _ _ _ (@Z0o _ _ 1 _ _ _ _ nd rfl (Or.inl rfl) (Z0i Z1f (pv 1) (Z2e Z9r rfl B.int q9e (Z0a (Z4c (Z1o Z1j (Z0k Z0j (Z0k Z0w (pv 0) (pv 2) (λ_ _=>rfl)) Z0b (λ_ _=>rfl)) Z1h (nomark _)) (Z3n (Z1o Z1j (Z0i Z0x (Z0k Z0j (Z0k Z0w (pv 0) (pv 2) (λ_ _=>rfl)) Z0b (λ_ _=>rfl)) Z0b) Z0b (nomark _)))) Z0d))) rfl (.inl rfl))
   (@Z0g _ _ _ (Z1b (PW.pt (Z2y (Z0q Z1j (pv 1) Z0b (nomark _)) (Z2n (Z0q Z1j (Z0k Z0j (Z0k Z0w (pv 0) (pv 2) (λ_ _=>rfl)) Z0b (λ_ _=>rfl)) Z1h (nomark _)))))
    (@Z0g _ _ _ (Z0l (pv 2)))
    Z0r))))
  (@Z0g _ _ _ (Z0l X0u)))),?_⟩
 try dsimp only[cxK]
 have hn:(((ps.map V.ref).length:Nat):Int).toNat=row.length:=by rw[q0a,pl];rfl
 refine⟨_,Z,l,_,Z,.inl SL,_,Z,by omega,by rw[q0a];omega,?_⟩
 rw[hn]
 refine Z1m (n:=row.length) (λi σ H'=>H'=H/\NS row i/\∃ v:Option V,σ=[some (.ref l),some (.int ((cO (row.take i):Nat):Int)),v]) ⟨Z,NS.zero _,none,Z⟩ ?_ ?_
 ·rintro i σ H1 hi ⟨rfl,hn',v,rfl⟩
  have hy:row[i]?=some row[i]:=q0d hi
  generalize row[i]=y at hy
  have hi':i<ps.length:=by omega
  obtain⟨y',hy',ey⟩:=Z3v hrow (q0d hi')
  rw[hy] at hy'
  cases hy'
  have at1:=Z3t (ps:=ps) (j:=0+(i:Int)) hi' (by omega)
  have SP:SqT K H1 ps[i] (.str (nm y)::(ns y).map V.int):=SqT.of ey
  have t1:cO (row.take (i+1))=cO (row.take i)+o1 y:=by rw[q1f,hy];exact Z3f _ _
  have key:∀ b:Bool,b=oddT y->((cO (row.take i):Nat):Int)+(if b then 1 else 0)=((cO (row.take (i+1)):Nat):Int):=λb e=>by
   rw[t1,o1,e]
   split<;>simp
  have le6:=hn'.le
  have o1le:o1 y<=1:=by unfold o1;split<;>omega
  refine⟨λσ' H'=>H1=H'/\σ'=[some (.ref l),some (.int ((cO (row.take (i+1)):Nat):Int)),some (.int (0+(i:Int)))],?_,?_⟩
  ·refine⟨_,Z,_,Z,_,Z,l,_,_,.ref ps[i],Z,Z,SL,at1,ps[i],_,_,.str (nm y),Z,Z,SP,at0m y,Z,?_⟩
   by_cases e:nm y="turn"
   ·obtain⟨a,j,rfl⟩:=Z5a e
    refine⟨_,Z,decI (λ_=>?_) (λz=>absurd rfl z)⟩
    refine⟨_,Z,_,Z,l,_,_,.ref ps[i],Z,Z,SL,at1,ps[i],_,_,.int j,Z,Z,SP,k2,_,_,Z,Z,(by show (0:Int)<_;decide),Z,.inr ⟨_,Z,_,_,Z,Z,Z,?_⟩⟩
    rw[<-key _ rfl]
    rfl
   ·refine⟨_,Z,decI (λz=>absurd (V.str.inj z) e) (λ_=>.inr ⟨_,Z,_,_,Z,Z,Z,?_⟩)⟩
    rw[<-key false (Z6g e).symm]
    rfl
  rintro σ' _ ⟨rfl,rfl⟩
  refine⟨_,Z,Z,_,Z,eqI (λe7=>?_) (λn7=>?_)⟩
  ·rw[hn'.stop hy (by rw[q3m];right;exact q0t (by omega))] at kq
   rw[show (0:Int)+(i:Int)=(i:Int) from q5s _]
   exact⟨_,Z,kq⟩
  ·refine⟨_,Z,_,Z,l,_,_,.ref ps[i],Z,Z,SL,at1,ps[i],_,_,.str (nm y),Z,Z,SP,at0m y,Z,_,Z,decI (λe=>?_) (λe=>?_)⟩
   ·rw[hn'.stop hy (by rw[q3m];left;exact q0t (V.str.inj e))] at kq
    rw[show (0:Int)+(i:Int)=(i:Int) from q5s _]
    exact⟨_,Z,kq⟩
   ·exact⟨Z,hn'.next hy (by rw[q4q];exact⟨q0j λz=>e (by rw[z]),q0j (by omega)⟩),_,Z⟩
 ·rintro σ H1 ⟨rfl,hn',v,rfl⟩
  rw[hn'.fin] at kq
  exact kq
end
end K55S
set_option maxHeartbeats 4000000
namespace L2
section
variable {X:Cx}{scope:Scope}{Nc:W0}{ex:U3}{pins:U1}{s:U7}{H:Hp}
theorem Y7z:SlR (cxLc X scope Nc ex pins s H) (rSlA X.K):=Z3j
end
end L2
set_option maxHeartbeats 1000000
namespace K55S
open L2 Ba Am Pc M71
open K64 (top Bs At5 ValsK Bd5 Z5q Z7p Z2k)
open M72 (V4 sm add En fl sw VOk)
open M75 (Mk)
def Y1i (K:U0):Sp:=λvs H Q _=>∃ (p:W9) (t:Tm) (c n m:Nat),vs=[.ref p,.int ((2^c:Nat):Int)]/\TmAt K H p t/\Ok5 n m t.1/\OkK c t.2/\t.1≠Zz/\t.2.1=pc (t.2.2.1&&&t.2.2.2)%4/\∀ H',Same H H'->Q (.bl true) H'
def Z6w (K:U0):Sp:=λvs H Q _=>∃ (l lr:W9) (ps:U3) (R T:List Tm) (row:List Mv) (c:Nat),vs=[.ref l,.int ((2^c:Nat):Int),.ref lr]/\Tms K H l ps R/\Gd c T R/\c<=6/\RowAt H lr row/\row.length<=200/\T.length<=2^cO row/\R.length<=64/\∀ H',Same H H'->Q (.bl true) H'
section
variable {P:U8}{w:W1}{K:U0}{mg:U4}{base:Heap}{k:Nat}{h:Heap}
theorem sc_lay:FnScope ["_law_board","_law_mark","_law_q","_law_f","_law_s","_law_due","_law_word"] ["_law_board","_law_mark"] (Z0h (top 75)):=fS
theorem X6u (F:FunAt K "_law_lay" (top 75) .none)(X:K.In h)(G:Ng h mg)(B:Bs mg)(cH:Cal P w K mg base k "_law_spin" ["_law_one","_law_k"] (Z7p K))(cD:Cal P w K mg base k "_law_bits" ["_law_number"] spOnes):Cal P w K mg base (k+1) "_law_lay" ["_law_board","_law_mark"] (spLayK K):=by
 have nd:=sc_lay.nd
 refine F.cal X G sc_lay (bnd2 λ_ _ _ _ _ _ _ _=>rfl) (λvs H Q E h=>?_) (λf cdv A outer s H vs Q E hr h=>?_)
 ·obtain⟨l,p,ps,f,c,n,M,m,rfl,_⟩:=h;rfl
 obtain⟨l,p,ps,fb,c,n,M,⟨kk',ff,ss⟩,rfl,BD,c6,hm,om,kq⟩:=h
 have p6:=pow6 c6
 refine⟨_,(@Z0e _ _ _ _ _ (Z4a (pv 1) (Z2z rfl (Z0v (Z0m (i:=2) nd rfl (Or.inl rfl)) (Z0v (Z0m (i:=3) nd rfl (Or.inl rfl)) (Z0v (Z0m (i:=4) nd rfl (Or.inl rfl)) Z2f)))))
  (@Z0e _ _ _ _ _ (@Z0o _ _ 5 _ _ _ _ nd rfl (Or.inl rfl) (Z2e Z2b rfl B.list q6a (Z0a (pv 0) Z0d)) rfl (.inl rfl))
  (@Z0e _ _ _ _ _ (Z1u PassesOwn.never rfl (Z1e rfl B.range (Z0a (Z0p Z0s rfl B.len q1c (Z0a (pv 0) Z0d)) Z0d)) (Z0m (i:=6) nd rfl (Or.inl rfl))
   (@Z0g _ _ _ (Z4a (Z0n cH hr rfl (Z0a (Z0k Z0w (pv 0) (pv 6) (λ_ _=>rfl)) (Z0a (Z0i Z1f (Z0i Z3h Z0b (pv 2)) (Z0i Z3h Z0b (Z0n cD hr rfl (Z0a (Z0i Z1n (pv 6) (pv 4)) Z0d)))) Z0d))) (Y4r (pv 5) (Z0i Z3p (pv 6) (pv 3)) Z7v))))
  (@Z0g _ _ _ (Z0l (pv 5)))))),?_⟩
 try dsimp only[cxK]
 refine⟨_,Z,p,_,Z,hm,Z,_,_,Z,_,_,Z,_,_,Z,Z,?_⟩
 refine⟨_,Z,l,_,Z,.inl (SqL.of BD.lst),λld hld=>?_⟩
 have s0:=Z0f hld (.lst (ps.map V.ref))
 have q0:upd H ld (.lst (ps.map V.ref)) ld=some (.lst (ps.map V.ref)):=Z0c
 generalize upd H ld (.lst (ps.map V.ref))=H0 at s0 q0 ⊢
 have hn:(((ps.map V.ref).length:Nat):Int).toNat=2^c:=by rw[q0a,BD.len];rfl
 have lps:=BD.len
 refine⟨_,Z,l,_,Z,.inl (SqL.of (s0 _ _ BD.lst)),_,Z,by omega,by rw[q0a];omega,?_⟩
 rw[hn]
 refine Z1m (n:=2^c) (λi σ H'=>Same H H'/\∃ (qs:U3) (v:Option V),H' ld=some (.lst (qs.map V.ref))/\qs.length=2^c/\ValsK K H' qs (λw=>if (w^^^ff)<i then layW (kk',ff,ss) fb w else fb w)/\σ=[some (.ref l),some (.ref p),some (.int kk'),some (.int ff),some (.int ss),some (.ref ld),v]) ⟨s0,ps,none,q0,lps,λi q hq=>by show At5 K H0 q (if (i^^^ff)<0 then _ else _);rw[if_neg (q3d _)];exact(BD.vals i q hq).same s0,Z⟩ ?_ ?_
 ·rintro i σ H1 hi ⟨S1,qs,v,a1,l1,V1,rfl⟩
  have hi':i<ps.length:=by omega
  have at1:=Z3t (ps:=ps) (j:=0+(i:Int)) hi' (by omega)
  have e0:(0:Int)+(i:Int)=(i:Int):=q5s _
  have ax:=(BD.vals i _ (q0d hi')).same S1
  have tw:(i^^^ff)<2^c:=q2r hi om.f
  refine⟨_,Z,_,Z,l,_,_,.ref ps[i],Z,Z,SqL.of (S1 _ _ BD.lst),at1,_,Z,_,_,Z,Z,.inl ⟨by decide,by decide⟩,_,Z,_,Z,_,_,Z,Z,i&&&ss,by rw[e0];exact Z6e,_,_,Z,Z,.inl ⟨by decide,by decide⟩,_,_,Z,Z,?_⟩
  refine⟨ps[i],fb i,_,Z,ax,λr H2 S2 e2=>?_⟩
  have a2:=S2 _ _ a1
  refine⟨_,Z,_,Z,_,Z,_,_,Z,Z,ld,_,_,i^^^ff,Z,Z,a2,?_,?_⟩
  ·show ixN (qs.map V.ref).length (Builtin.bitXor (0+(i:Int)) (ff:Int))=some (i^^^ff)
   rw[e0,Z9y]
   unfold ixN
   rw[if_pos (by omega),q0a,l1,if_pos (by omega),q1o]
  refine⟨Z1a (S1.trans S2) hld,qs.set (i^^^ff) r,_,by rw[Z0c,q9b],by rw[q5h];exact l1,?_,Z⟩
  have V2:=Y3o (j:=i^^^ff) (V1.same S2) (At5.of e2)
  have V3:ValsK K (upd H2 ld (.lst ((qs.map V.ref).set (i^^^ff) (V.ref r)))) (qs.set (i^^^ff) r) _:=K64.vals_upd V2 a2
  intro w q hq
  have:=V3 w q hq
  have e:(if w=i^^^ff then spin (fb i) (2*(kk':Int)+4*((pc (i&&&ss):Nat):Int)) else if (w^^^ff)<i then layW (kk',ff,ss) fb w else fb w)=(if (w^^^ff)<i+1 then layW (kk',ff,ss) fb w else fb w):=by
   by_cases c1:w=i^^^ff
   ·have c2:w^^^ff=i:=by rw[c1,q2w,q6p,q6o]
    rw[if_pos c1,if_pos (by omega)]
    show _=spin (fb (w^^^ff)) ((2*kk'+4*pc ((w^^^ff)&&&ss):Nat):Int)
    rw[c2]
    congr 1
   ·have c2:w^^^ff≠i:=λz=>c1 (by rw[<-z,q2w,q6p,q6o])
    rw[if_neg c1]
    by_cases c3:(w^^^ff)<i
    ·rw[if_pos c3,if_pos (by omega)]
    ·rw[if_neg c3,if_neg (by omega)]
  show At5 K _ q (if (w^^^ff)<i+1 then layW (kk',ff,ss) fb w else fb w)
  rw[<-e]
  exact this
 ·rintro σ H1 ⟨S1,qs,v,a1,l1,V1,rfl⟩
  refine⟨_,Z,kq ld H1 qs hld S1 ⟨a1,l1,λw q hq=>?_,λw hw=>Z6f (BD.ok _ (q2r hw om.f)) _⟩⟩
  have hw:w<2^c:=by rw[<-l1];exact(q0o.mp hq).1
  have:At5 K H1 q (if (w^^^ff)<2^c then layW (kk',ff,ss) fb w else fb w):=V1 w q hq
  rw[if_pos (show (w^^^ff)<2^c from q2r hw om.f)] at this
  exact this
theorem sc_isterm:FnScope ["_law_term","_law_size","_law_one","_law_mark"] ["_law_term","_law_size"] (Z0h (top 80)):=fS
theorem Y5i (F:FunAt K "_law_is_term" (top 80) .none)(X:K.In h)(G:Ng h mg)(B:Bs mg)(cK:Cal P w K mg base k "_law_whole" ["_law_found"] Z4f)(c7:Cal P w K mg base k "_law_low" ["_law_parts","_law_h"] spLow)(cD:Cal P w K mg base k "_law_bits" ["_law_number"] spOnes):Cal P w K mg base (k+1) "_law_is_term" ["_law_term","_law_size"] (Y1i K):=by
 have nd:=sc_isterm.nd
 refine F.cal X G sc_isterm (bnd2 λ_ _ _ _ _ _ _ _=>rfl) (λvs H Q E h=>?_) (λf cdv A outer s H vs Q E hr h=>?_)
 ·obtain⟨p,t,c,n,m,rfl,_⟩:=h;rfl
 obtain⟨p,⟨⟨⟨a,b,c,d⟩,g⟩,kk',ff,ss⟩,cc,n,m,rfl,⟨pa,pb,hp,ha,hb⟩,ox,om,nz,ev,kq⟩:=h
 have SP:SqT K H p [.ref pa,.ref pb]:=SqT.of hp
 have SA:SqT K H pa ([a,b,c,d,g].map V.int):=ha
 have SB:SqT K H pb ([(kk':Int),(ff:Int),(ss:Int)].map V.int):=hb
 have g0:0<=g:=ox.amt.nn
 refine⟨_,(@Z0e _ _ _ _ _ (Z1b (PW.pt (Z2y (Z1z (Z1l (Z0p Z2k rfl B.isinstance q1g (Z0a (pv 0) (Z0a (Z1w (v:=.ty "tuple") rfl B.tuple q8p rfl) Z0d))))) (Z2y (Z0q Z5m (Z0p Z0s rfl B.len q1c (Z0a (pv 0) Z0d)) Z0b (nomark _)) (Z2y (Z1z (Z1l (Z0p Z2k rfl B.isinstance q1g (Z0a (Z0k Z0j (pv 0) Z0b (λ_ _=>rfl)) (Z0a (Z1w (v:=.ty "tuple") rfl B.tuple q8p rfl) Z0d))))) (Z2n (Z0q Z5m (Z0p Z0s rfl B.len q1c (Z0a (Z0k Z0j (pv 0) Z0b (λ_ _=>rfl)) Z0d)) Z0b (nomark _)))))))
   (@Z0g _ _ _ (Z0l Z2w))
   Z0r)
  (@Z0e _ _ _ _ _ (Z4a (pv 0) (Z2z rfl (Z0v (Z0m (i:=2) nd rfl (Or.inl rfl)) (Z0v (Z0m (i:=3) nd rfl (Or.inl rfl)) Z2f))))
  (@Z0e _ _ _ _ _ (Z1b (PW.pt (Z2y (Z1z (Z1l (Z0p Z2k rfl B.isinstance q1g (Z0a (pv 2) (Z0a (Z1w (v:=.ty "tuple") rfl B.tuple q8p rfl) Z0d))))) (Z2n (Z0q Z5m (Z0p Z0s rfl B.len q1c (Z0a (pv 2) Z0d)) Z0b (nomark _)))))
   (@Z0g _ _ _ (Z0l Z2w))
   Z0r)
  (@Z0e _ _ _ _ _ (Z1b (Z1z (Z1l (Z0p (Z3a rfl) rfl B.all q8w (Z0a (Z4i rfl (LcOk.of (Nc:=["_law_part"]) (mp:=[none]) (by kernel_rfl)) (Z1r (Z0i X6r (Z2e Z2b rfl B.list q6a (Z0a (pv 2) Z0d)) (Z2e Z2b rfl B.list q6a (Z0a (pv 3) Z0d)))) (λ_ _ _ _=>(Z0m (i:=0) (show (["_law_part"]:W0).Nodup by decide +kernel) rfl (Or.inl rfl))) (λ_ _ _ _=>(Z0n cK hr rfl (Z0a (pv 0) Z0d)))) Z0d))))
   (@Z0g _ _ _ (Z0l Z2w))
   Z0r)
  (@Z0e _ _ _ _ _ (Z1b (PW.pt (Z2y (Z0q Y0g (Z0k Z0j (pv 2) Z0b (λ_ _=>rfl)) Z0b (nomark _)) (Z2y (Z0q (Y5a hr.units) (Z0n c7 hr rfl (Z0a (Z2e Z2b rfl B.list q6a (Z0a (Z1s Z3j (pv 2) Z2m (Z1v Z0b)) Z0d)) (Z0a (Z0k Z0j (pv 2) Z0b (λ_ _=>rfl)) Z0d))) (pv 2) (nomark _)) (Z2n (Z0q (Y0h hr.units) (pv 2) (@Z0y _ _ _ _ _ (Z0a Z0b (Z0a Z0b (Z0a Z0b (Z0a Z0b (Z0a Z0b Z0d)))))) (nomark _))))))
   (@Z0g _ _ _ (Z0l Z2w))
   Z0r)
  (@Z0e _ _ _ _ _ (Z1b (PW.pt (Z2y (Z0q Y0g (Z0p (Y6z rfl) rfl B.min boot_min (Z0a (pv 3) Z0d)) Z0b (nomark _)) (Z2n (Z0q X3j (Z0p (Y7a rfl) rfl B.max boot_max (Z0a (Z1s Z3j (pv 3) (Z1v Z0b) Z2m) Z0d)) (pv 1) (nomark _)))))
   (@Z0g _ _ _ (Z0l Z2w))
   Z0r)
  (@Z0g _ _ _ (Z0l (Z1o Z1j (Z0k Z0j (pv 3) Z0b (λ_ _=>rfl)) (Z0i Z0x (Z0n cD hr rfl (Z0a (Z0i Z1n (Z0k Z0j (pv 3) Z0b (λ_ _=>rfl)) (Z0k Z0j (pv 3) Z0b (λ_ _=>rfl))) Z0d)) Z0b) (nomark _)))))))))),?_⟩
 try dsimp only[cxK]
 refine⟨_,Z,p,_,Z,SP,_,Z,iteF ⟨_,Z,p,_,Z,.inr SP,Z,_,Z,neI (λz=>absurd rfl z) (λ_=>?_)⟩⟩
 refine⟨_,Z,p,_,_,.ref pb,Z,Z,SP,L2.Z1y (j:=1) rfl,pb,_,Z,SB,_,Z,iteF ⟨_,Z,p,_,_,.ref pb,Z,Z,SP,L2.Z1y (j:=1) rfl,pb,_,Z,.inr SB,Z,_,Z,neI (λz=>absurd rfl z) (λ_=>?_)⟩⟩
 refine⟨_,Z,p,_,Z,SP,Z,_,_,Z,_,_,Z,Z,?_⟩
 refine⟨_,Z,pa,_,Z,SA,_,Z,iteF ⟨_,Z,pa,_,Z,.inr SA,Z,_,Z,neI (λz=>absurd rfl z) (λ_=>?_)⟩⟩
 refine⟨_,Z,pa,_,Z,.inr SA,λl1 h1=>?_⟩
 have s1:=Z0f h1 (.lst ([a,b,c,d,g].map V.int))
 have q1:upd H l1 (.lst ([a,b,c,d,g].map V.int)) l1=some (.lst ([a,b,c,d,g].map V.int)):=Z0c
 generalize upd H l1 (.lst ([a,b,c,d,g].map V.int))=H1 at s1 q1 ⊢
 refine⟨_,Z,pb,_,Z,.inr (s1.tup SB),λl2 h2=>?_⟩
 have s2:=Z0f h2 (.lst ([(kk':Int),(ff:Int),(ss:Int)].map V.int))
 have q2:upd H1 l2 (.lst ([(kk':Int),(ff:Int),(ss:Int)].map V.int)) l2=some (.lst ([(kk':Int),(ff:Int),(ss:Int)].map V.int)):=Z0c
 have q1':=s2 _ _ q1
 generalize upd H1 l2 (.lst ([(kk':Int),(ff:Int),(ss:Int)].map V.int))=H2 at s2 q2 q1' ⊢
 refine⟨l1,l2,_,_,Z,Z,q1',q2,(show 8<=sizeLine by decide),λl3 h3=>?_⟩
 have s3:=Z0f h3 (.lst ([a,b,c,d,g].map V.int++[(kk':Int),(ff:Int),(ss:Int)].map V.int))
 have q3:upd H2 l3 (.lst ([a,b,c,d,g].map V.int++[(kk':Int),(ff:Int),(ss:Int)].map V.int)) l3=some (.lst ([a,b,c,d,g,(kk':Int),(ff:Int),(ss:Int)].map V.int)):=Z0c
 generalize upd H2 l3 (.lst ([a,b,c,d,g].map V.int++[(kk':Int),(ff:Int),(ss:Int)].map V.int))=H3 at s3 q3 ⊢
 refine⟨l3,Z,⟨_,SqL.of q3⟩,λacc hacc=>?_⟩
 refine Z8h (ns:=[a,b,c,d,g,(kk':Int),(ff:Int),(ss:Int)]) (fr:=[]) (λ_=>.bl true) (SqL.of q3) (show 8<=sizeLine by decide) hacc (λn H4 N _ kN=>⟨_,Z,n,Z,kN⟩) (λH4 s4 a4=>?_)
 refine⟨acc,[true,true,true,true,true,true,true,true],Z,SqL.of (by rw[a4];rfl),_,Z,iteF ?_⟩
 have S4:=((s1.trans s2).trans s3).trans s4
 have SA4:=S4.tup SA
 have SB4:=S4.tup SB
 clear s1 s2 s3 s4 q1 q2 q3 q1' a4 hacc h1 h2 h3
 refine⟨_,Z,pa,_,_,.int g,Z,Z,SA4,Z,_,_,Z,Z,_,Z,decI (λz=>absurd z (by omega)) (λ_=>?_)⟩
 refine⟨_,Z,4,Z,pa,_,Z,SA4,.inr ⟨K64.cut54,λt5' h5=>?_⟩⟩
 have s5:=Z0f h5 (.tup ([a,b,c,d].map V.int))
 refine⟨t5',_,Z,.inr (SqT.of Z0c),λl6 h6=>?_⟩
 have s6:=s5.trans (Z0f h6 (.lst ([a,b,c,d].map V.int)))
 have q6:upd (upd H4 t5' (.tup ([a,b,c,d].map V.int))) l6 (.lst ([a,b,c,d].map V.int)) l6=some (.lst ([a,b,c,d].map V.int)):=Z0c
 refine⟨_,Z,pa,_,_,.int g,Z,Z,s6.tup SA4,Z,l6,a,b,c,d,g,Z,q6,g0,λr H7 x y z u v S7 e7 RE=>?_⟩
 obtain⟨rfl,rfl,rfl,rfl,rfl⟩:=RE.amt.unique ox.amt RE.same.symm
 have S47:=s6.trans S7
 have SA7:=S47.tup SA4
 refine⟨_,Z,r,pa,[x,y,z,u,v],[x,y,z,u,v],Z,Z,SqT.of e7,SA7,_,Z,?_⟩
 rw[q0t rfl]
 refine iteF ?_
 refine⟨_,Z,t5,λt0 h0=>⟨pa,t0,[x,y,z,u,v],[0,0,0,0,0],Z,Z,(Z0f h0 _).tup SA7,SqT.of Z0c,_,Z,decI (λe=>absurd ((l5_zz (x:=((x,y,z,u),v))).mp e) nz) (λ_=>?_)⟩⟩
 have S48:=S47.trans (Z0f h0 (.tup [.int 0,.int 0,.int 0,.int 0,.int 0]))
 generalize upd H7 t0 (.tup [.int 0,.int 0,.int 0,.int 0,.int 0])=H8 at S48 ⊢
 have SB8:=S48.tup SB4
 refine⟨_,Z,pb,_,Z,SB8,(show 0<3 by decide),λM hM _=>?_⟩
 have M0:¬ M<0:=by
  simp only[q0q,q0u,q2e] at hM
  omega
 refine⟨_,_,Z,Z,_,Z,decI (λz=>absurd z M0) (λ_=>?_)⟩
 refine⟨_,Z,1,Z,pb,_,Z,SB8,.inr ⟨cut13 _ _ _,λt9 h9=>?_⟩⟩
 have s9:=Z0f h9 (.tup (cutV ([(kk':Int),(ff:Int),(ss:Int)].map V.int) (some 1) none))
 have q9:upd H8 t9 (.tup (cutV ([(kk':Int),(ff:Int),(ss:Int)].map V.int) (some 1) none)) t9=some (.tup ([(ff:Int),(ss:Int)].map V.int)):=Z0c
 generalize upd H8 t9 (.tup (cutV ([(kk':Int),(ff:Int),(ss:Int)].map V.int) (some 1) none))=H9 at s9 q9 ⊢
 refine⟨t9,_,Z,SqT.of q9,(show 0<2 by decide),λM2 hM2 _=>?_⟩
 have hf:=om.f
 have hs:=om.s
 have M2l:¬ M2>=((2^cc:Nat):Int):=by
  simp only[q0q,q0u,q2e] at hM2
  have hf:ff<2^cc:=hf
  have hs:ss<2^cc:=hs
  omega
 have SB9:=s9.tup SB8
 refine⟨_,Z,_,_,Z,Z,_,Z,decI (λz=>absurd z M2l) (λ_=>?_)⟩
 refine⟨_,Z,pb,_,_,.int kk',Z,Z,SB9,k0,_,Z,pb,_,_,.int ff,Z,Z,SB9,k1,_,Z,pb,_,_,.int ss,Z,Z,SB9,k2,_,_,Z,Z,ff&&&ss,Z6e,_,_,Z,Z,(by decide:(0:Int)<4),Z,?_⟩
 have ev:kk'=pc (ff&&&ss)%4:=ev
 show Q (.bl (decide (V.int (kk':Int)=V.int (((pc (ff&&&ss):Nat):Int)%4)))) H9
 rw[q0t (by rw[ev];rfl)]
 exact kq _ ((S4.trans S48).trans s9)
end
end K55S
namespace K55S
open L2 Ba Am Pc M71
open K64 (top Bs At5 ValsK Bd5)
open M72 (V4 sm add En fl sw VOk)
open M75 (Mk)
theorem X7e {bs:List Bool}(n:Nat):((List.replicate n true).map V.bl++[V.bl true])=(List.replicate (n+1) true).map V.bl:=by
 rw[List.replicate_succ',q0k]
 rfl
theorem X5d (n:Nat):(List.replicate n true).all id=true:=by
 rw[q2l]
 intro x hx
 exact(List.mem_replicate.mp hx).2
section
variable {P:U8}{w:W1}{K:U0}{mg:U4}{base:Heap}{k:Nat}{h:Heap}
theorem sc_areterms:FnScope ["_law_found","_law_size","_law_row","_law_keys","_law_k","_law_most","_law_move"] ["_law_found","_law_size","_law_row"] (Z0h (top 81)):=fS
theorem Y0i (F:FunAt K "_law_are_terms" (top 81) .none)(X:K.In h)(G:Ng h mg)(B:Bs mg)(d5:Cal P w K mg base k "_law_is_term" ["_law_term","_law_size"] (Y1i K)):Cal P w K mg base (k+1) "_law_are_terms" ["_law_found","_law_size","_law_row"] (Z6w K):=by
 have nd:=sc_areterms.nd
 refine F.cal X G sc_areterms (bnd3 λ_ _ _ _ _ _ _ _ _=>rfl) (λvs H Q E h=>?_) (λf cdv A outer s H vs Q E hr h=>?_)
 ·obtain⟨l,lr,ps,R,T,row,c,rfl,_⟩:=h;rfl
 obtain⟨l,lr,ps,R,T,row,c,rfl,TM,gd,c6,R0,l200,Tl,R64,kq⟩:=h
 have lp:=Z4b TM.tms
 have sl:(300:Nat)<sizeLine:=by decide
 refine⟨_,(@Z0e _ _ _ _ _ (Z1b (PW.pt (Z2y (Z1z (Z1l (Z0p Z1k rfl B.isinstance q1g (Z0a (pv 0) (Z0a (Z1w (v:=.ty "list") rfl B.list q6a rfl) Z0d))))) (Z2n (Z1z (Z1l (Z0p (Z3a rfl) rfl B.all q8w (Z0a (Z4i rfl (LcOk.of (Nc:=["_law_term","_law_size"]) (mp:=[none,some 1]) (by kernel_rfl)) (Z1r (pv 0)) (λ_ _ _ _=>(Z0m (i:=0) (show (["_law_term","_law_size"]:W0).Nodup by decide +kernel) rfl (Or.inl rfl))) (λ_ _ _ _=>(Z0n d5 hr rfl (Z0a (pv 0) (Z0a (pv 1) Z0d))))) Z0d)))))))
   (@Z0g _ _ _ (Z0l Z2w))
   Z0r)
  (@Z0e _ _ _ _ _ (Z3x (i:=3) rfl nd rfl rfl (LcOk.of (Nc:=["_law_term"]) (mp:=[none]) (by kernel_rfl)) (Z1r (pv 0)) (λ_ _ _ _=>(Z0m (i:=0) (show (["_law_term"]:W0).Nodup by decide +kernel) rfl (Or.inl rfl))) (λ_ _ _ _=>(Z1s Y7z (Z0k Y0p (pv 0) Z0b (λ_ _=>rfl)) (Z1v Z0b) Z2m)) rfl)
  (@Z0e _ _ _ _ _ (Z1u PassesOwn.never rfl (Y4q rfl B.range (Z0a Z0b (Z0a (Z0p Z0s rfl B.len q1c (Z0a (pv 3) Z0d)) Z0d))) (Z0m (i:=4) nd rfl (Or.inl rfl))
   (@Z0g _ _ _ (Z1b (Z0q (X6q hr.units) (Z0k Z0w (pv 3) (Z0i Z1t (pv 4) Z0b) (λ_ _=>rfl)) (Z0k Z0w (pv 3) (pv 4) (λ_ _=>rfl)) (nomark _))
    (@Z0g _ _ _ (Z0l Z2w))
    Z0r)))
  (@Z0e _ _ _ _ _ (@Z0o _ _ 5 _ _ _ _ nd rfl (Or.inl rfl) Z0b rfl (.inl rfl))
  (@Z0e _ _ _ _ _ (Z1u PassesOwn.never rfl (Z1r (pv 2)) (Z0m (i:=6) nd rfl (Or.inl rfl))
   (@Z0g _ _ _ (Z1b (PW.pt (Z6c (Z0q Z1j (Z0k Z0j (pv 6) Z0b (λ_ _=>rfl)) Z1h (nomark _)) (Z4g (Z0q Z1j (Z0i Z0x (Z0k Z0j (pv 6) Z0b (λ_ _=>rfl)) Z0b) Z0b (nomark _)))))
    (@Z0g _ _ _ (@Z0o _ _ 5 _ _ _ _ nd rfl (Or.inl rfl) (Z0i Z3h Z0b (pv 5)) rfl (.inl rfl)))
    Z0r)))
  (@Z0g _ _ _ (Z0l (Z1o X6p (Z0p Z0s rfl B.len q1c (Z0a (pv 0) Z0d)) (pv 5) (nomark _))))))))),?_⟩
 try dsimp only[cxK]
 refine⟨_,Z,_,_,_,true,Z,TyOf.lst TM.lst,X1i K,_,Z,iteF ⟨_,Z,l,Z,⟨_,SqL.of TM.lst⟩,λacc hacc=>?_⟩⟩
 refine Z6j (K:=K) (a:=l) (xs:=ps.map V.ref) (fr:=[some (.int ((2^c:Nat):Int))]) (λi ys H'=>Same H H'/\H' acc=some (.lst ys)/\ys=(List.replicate i true).map V.bl) (by rw[q0a];omega) ⟨Z0f hacc _,Z0c,Z⟩ (λi ys H' e=>e.1.seq (SqL.of TM.lst)) ?_ ?_
 ·rintro i x ys H1 N hx hy ⟨S1,a1,rfl⟩ kN
  rw[q0n] at hx
  obtain⟨p,hp,rfl⟩:=q0l.mp hx
  obtain⟨t,ht,et⟩:=Z3l TM.tms hp
  obtain⟨o1',o2,o3,o4⟩:=gd.ok t (q0w ht)
  refine⟨_,Z,_,Z,p,t,c,6000,40,Z,et.same S1,o1',o2,o3,o4,λH2 S2=>?_⟩
  exact kN _ _ (S2 _ _ a1) ⟨Z1a (S1.trans S2) hacc,Z0c,X7e (bs:=[]) i⟩
 ·rintro ys H1 hy ⟨S1,a1,rfl⟩
  refine⟨acc,_,Z,SqL.of a1,_,Z,?_⟩
  rw[X5d]
  refine iteF ?_
  have T1:=TM.same S1
  refine⟨_,Z,l,Z,⟨_,SqL.of T1.lst⟩,λak hak=>?_⟩
  refine Z6j (K:=K) (a:=l) (xs:=ps.map V.ref) (fr:=[]) (λi ys H'=>Same H1 H'/\H' ak=some (.lst ys)/\∃ ks:List Addr,ys=ks.map V.ref/\Paired (KyAt H') ks ((R.take i).map λt=>t.2.2)) (by rw[q0a];omega) ⟨Z0f hak _,Z0c,[],Z,.nil⟩ (λi ys H' e=>e.1.seq (SqL.of T1.lst)) ?_ ?_
  ·rintro i x ys H2 N hx hy ⟨S2,a2,ks,rfl,P2⟩ kN
   rw[q0n] at hx
   obtain⟨p,hp,rfl⟩:=q0l.mp hx
   obtain⟨⟨x1,kk',ff,ss⟩,ht,pa,pb,ep,ea,eb⟩:=Z3l T1.tms hp
   refine⟨_,Z,p,_,_,.ref pb,Z,Z,SqT.of (S2 _ _ ep),L2.Z1y (j:=1) rfl,1,Z,pb,_,Z,S2.tup eb,.inr ⟨cut13 _ _ _,λt ht'=>?_⟩⟩
   rw[Z5g]
   have s3:=Z0f ht' (.tup [V.int (ff:Int),V.int (ss:Int)])
   have a3:=s3 _ _ a2
   refine kN _ _ a3 ⟨Z1a (S2.trans s3) hak,Z0c,ks++[t],by rw[q0k];rfl,?_⟩
   rw[q1f,ht,q3g,q0k]
   exact Z4h (Z4s (λ_ _ e=>by show upd _ _ _ _=_;rw[Z0t (Z4v (s3 _ _ e) a3 (by intro z;cases z))];exact s3 _ _ e) P2) (by show upd _ _ _ _=_;rw[Z0t (Z4v (show upd H2 t _ t=some (.tup [V.int (ff:Int),V.int (ss:Int)]) from Z0c) a3 (by intro z;cases z))];exact Z0c)
  ·rintro ys H2 hy ⟨S2,a2,ks,rfl,P2⟩
   rw[q0a,lp,q2a] at P2
   have lk:=Z4b P2
   rw[q0a] at lk
   have S12:=S1.trans S2
   have S2K:SqL K H2 ak (ks.map V.ref):=SqL.of a2
   obtain⟨rp,hl,hrow⟩:=R0.same S12
   have lr':rp.length=row.length:=by have:=Z3d hrow;rw[q0a] at this;exact this
   have SR:SqL K H2 lr (rp.map V.ref):=SqL.of hl
   refine⟨_,Z,ak,_,Z,.inl S2K,_,_,Z,⟨by decide,by decide,by omega,by rw[q0a];omega⟩,?_⟩
   refine Z1m (lo:=1) (n:=((((ks.map V.ref).length:Nat):Int)-1).toNat) (λi σ H'=>H'=H2/\∃ v:Option V,σ=[some (.ref l),some (.int ((2^c:Nat):Int)),some (.ref lr),some (.ref ak),v,none,none]) ⟨Z,none,Z⟩ ?_ ?_
   ·rintro i σ H3 hi ⟨rfl,v,rfl⟩
    rw[q0a] at hi
    have h0:i<ks.length:=by omega
    have h1:i+1<ks.length:=by omega
    have a0:=Z3t (ps:=ks) (j:=(1+(i:Int))-1) h0 (by omega)
    have a1':=Z3t (ps:=ks) (j:=1+(i:Int)) h1 (by omega)
    obtain⟨k0',e0,y0⟩:=Z3l P2 (q0d h0)
    obtain⟨k1',e1,y1⟩:=Z3l P2 (q0d h1)
    rw[q0n] at e0 e1
    obtain⟨t0,f0,g0⟩:=q0l.mp e0
    obtain⟨t1,f1,g1⟩:=q0l.mp e1
    subst g0 g1
    have lt:key t0.2.2<key t1.2.2:=by
     obtain⟨q0,r0⟩:=q0o.mp f0
     obtain⟨q1,r1⟩:=q0o.mp f1
     rw[<-r0,<-r1]
     exact q2p.mp gd.up i (i+1) q0 q1 (by omega)
    have b0:=(gd.ok t0 (q0w f0)).2.1.s
    have b1:=(gd.ok t1 (q0w f1)).2.1.s
    have p6:=pow6 c6
    refine⟨_,Z,_,Z,_,_,Z,Z,ak,_,_,.ref ks[i],Z,Z,S2K,a0,_,Z,_,Z,ak,_,_,.ref ks[i+1],Z,Z,S2K,a1',ks[i],ks[i+1],_,_,_,_,Z,Z,SqT.of y0,SqT.of y1,?_,_,Z,iteF ⟨Z,_,Z⟩⟩
    have lt:t0.2.2.1*64+t0.2.2.2<t1.2.2.1*64+t1.2.2.2:=lt
    have b0:t0.2.2.2<2^c:=b0
    have b1:t1.2.2.2<2^c:=b1
    show ((t0.2.2.1:Int)<(t1.2.2.1:Int))∨((t0.2.2.1:Int)=(t1.2.2.1:Int)/\(t0.2.2.2:Int)<(t1.2.2.2:Int))
    omega
   ·rintro σ H3 ⟨rfl,v,rfl⟩
    refine⟨_,Z,lr,Z,⟨_,SR⟩,Z3y (K:=K) (a:=lr) (xs:=rp.map V.ref) (λi σ H'=>H'=H3/\∃ v6:Option V,σ=[some (.ref l),some (.int ((2^c:Nat):Int)),some (.ref lr),some (.ref ak),v,some (.int ((2^cO (row.take i):Nat):Int)),v6]) ⟨Z,none,Z⟩ (λi σ H' _ e=>by rw[e.1];exact SR) ?_ ?_⟩
    ·rintro i x σ H4 hx ⟨rfl,v6,rfl⟩
     rw[q0n] at hx
     obtain⟨q,hq,rfl⟩:=q0l.mp hx
     obtain⟨y,hy,ey⟩:=Z3v hrow hq
     have SP:SqT K H4 q (.str (nm y)::(ns y).map V.int):=SqT.of ey
     have t1:cO (row.take (i+1))=cO (row.take i)+o1 y:=by rw[q1f,hy];exact Z3f _ _
     have no:oddT y=false->2^cO (row.take (i+1))=2^cO (row.take i):=λz=>by rw[t1,o1,if_neg (by rw[z];decide),q5c]
     refine⟨_,Z,q,_,_,.str (nm y),Z,Z,SP,at0m y,Z,_,Z,decI (λe=>?_) (λe=>⟨Z,_,by rw[no (Z6g λz=>e (by rw[z]))];rfl⟩)⟩
     obtain⟨a,j,rfl⟩:=Z5a (V.str.inj e)
     refine⟨_,Z,q,_,_,.int j,Z,Z,SP,k2,_,_,Z,Z,(by show (0:Int)<_;decide),Z,_,Z,decI (λeo=>?_) (λeo=>⟨Z,_,by rw[no (q0j eo)];rfl⟩)⟩
     have od:oddT (.turn a j)=true:=q0t eo
     refine⟨_,Z,_,_,Z,Z,.inl ⟨by decide,by decide⟩,Z,some (.ref q),?_⟩
     rw[t1,o1,if_pos od,q8e,Nat.mul_comm]
     rfl
    ·rintro σ H4 ⟨rfl,v6,rfl⟩
     rw[q0a,lr',q2a]
     refine⟨_,Z,l,_,Z,.inl (SqL.of (S12 _ _ TM.lst)),_,Z,_,_,Z,Z,?_⟩
     have:=gd.len
     show Q (.bl (decide ((((ps.map V.ref).length:Nat):Int)<=((2^cO row:Nat):Int)))) H4
     rw[q0t (by rw[q0a];omega)]
     exact kq _ S12
end
end K55S
namespace K64
open L2 Am Pc Ba
noncomputable abbrev Zz:A5:=((0,0,0,0),0)
theorem kept5 {K:U0}{a:W9}{od:W5}{sl:W4}{n:Nat}{v1 v2 v3 v4 v5:Int}{t1 t2 t3 t4 t5:Tok}(h:K.lookup a=some ⟨.type "tuple",od,.seq #[.int v1 t1,.int v2 t2,.int v3 t3,.int v4 t4,.int v5 t5] n,sl⟩)(H:Hp):At5 K H a ((v1,v2,v3,v4),v5) :=
 .inr ⟨_,_,_,h,Z,Z,(show 5<=sizeLine by decide),.cons ⟨_,Z⟩ (.cons ⟨_,Z⟩ (.cons ⟨_,Z⟩ (.cons ⟨_,Z⟩ (.cons ⟨_,Z⟩ .nil))))⟩
theorem Y1o:∀ k,rot k (0,0,0,0)=(0,0,0,0)
 | 0=>rfl
 | k+1=>by
  have e:rot (k+1) (0,0,0,0)=M82.nx (rot k (0,0,0,0)):=rfl
  rw[e,Y1o k]
  rfl
theorem Y3z (k:Int):spin Zz k=Zz:=by unfold spin;rw[Y1o]
theorem Y7j:Amt 0 0 0 0 0:=⟨q1r 0,.inl rfl⟩
theorem Y1z (s:Int):Mix s Zz Zz Zz:=by
 refine⟨Zz,⟨Y7j,⟨?_,?_,?_,?_⟩,by decide⟩,Y7j,⟨?_,?_,?_,?_⟩⟩<;>(unfold Eq2;simp)
theorem Y3x (c:Nat)(m:Gm):Step c m (λ_=>Zz) (λ_=>Zz):=by
 cases m with
 | mv v=>exact λw _=>(Y3z _).symm
 | mix a =>
  intro w _
  unfold MixAt
  split
  ·exact Y1z 1
  ·exact Y1z (-1)
theorem Y1b {c:Nat}(hc:c<=6):∀ {ms:List Gm}{f g:Nat->A5},(∀ m∈ms,m.Ok c)->Ams c f->Steps c ms f g->(∀ w,w<2^c->g w=Zz)->∀ w,w<2^c->f w=Zz
 | [],_,_,_,_,.nil,z=>z
 | m::ms,f,h,ok,af,.cons (g:=g) s r,z=>by
  have okm:=ok m (.head _)
  have ih:=Y1b hc (λx hx=>ok x (.tail _ hx)) (s.ams hc okm af) r z
  intro w hw
  exact(Y3y hc okm af s (k:=λ_=>Zz) (h:=λ_=>Zz) (λw hw=>(ih w hw).symm) (Y3x c m.back) w hw).symm
end K64
namespace K55S
open L2 Ba Am Pc M71
open K64 (top Bs At5 ValsK Bd5 Y0b Z7q Steps Ams Prd)
open M72 (V4 sm add En fl sw VOk rowop)
open M75 (Mk lay)
open M84 (mul one z0 Te ts Sums)
theorem mul_comm (x y:V4):mul x y=mul y x:=by apply M72.ext<;>simp only[mul]<;>grind
theorem X2q (t:W9)(n:Nat):(List.replicate n [V.ref t]).flatten=(List.replicate n t).map V.ref:=by
 induction n with
 | zero=>rfl
 | succ n ih=>rw[q2o,q4j,ih,q2o,q1k];rfl
theorem Y4k:∀ row:List Mv,rowop row (λ_=>z0)=λ_=>z0
 | []=>rfl
 | x::r=>by
  show rowop r (M72.op x (λ_=>z0))=_
  rw[show M72.op x (λ_=>z0)=λ_=>z0 from funext λw=>M84.op_z x w]
  exact Y4k r
theorem X1y (n:Nat):Vl n z0 Zz:=⟨0,λM _=>⟨by show (0:Int)*_=0*_;simp,by show (0:Int)*_=0*_;simp,by show (0:Int)*_=0*_;simp,by show (0:Int)*_=0*_;simp⟩⟩
theorem X8n:Amt Zz.1.1 Zz.1.2.1 Zz.1.2.2.1 Zz.1.2.2.2 Zz.2:=⟨q1r 0,.inl rfl⟩
theorem ahead {c:Nat}(hc:c<=6){row:List Mv}{f fb g gb:Nat->A5}{m:Mk}{F:M72.Bv}{R T:List Tm}(om:OkK c m)(vo:∀ x∈row,VOk c x)(af:Ams c f)(ag:Ams c g)(lf:∀ w,w<2^c->Vl 940 (F w) (f w))(lg:∀ w,w<2^c->Vl 1000 (ts (R.map tv) F w) (g w))
  (gd:Gd c T R) (su:Sums 60 m row (T.map tv)) (s1:Steps c (row.map gm) f fb) (s2:Steps c (row.map gm) g gb):∀ w,w<2^c->gb w=layW m fb w:=by
 intro w hw
 obtain⟨h1,a1⟩:=Z5o hc vo af lf s1
 obtain⟨h2,a2⟩:=Z5o hc vo ag (F:=ts (R.map tv) F) lg s2
 have q1:=(X1f om h1 w hw).up 60
 have q2:=h2 w hw
 rw[show ts (R.map tv) F=ts (T.map tv) F from funext λw=>gd.sum F w,su F w] at q2
 rw[show 940+row.length+60=1000+row.length by omega] at q1
 exact q2.same q1 (a2 w hw) (X4q om a1 w hw)
def spLSum (K:U0):Sp:=λvs H Q _=>∃ (l lt:W9) (ps us:U3) (f:Nat->A5) (F:M72.Bv) (R:List Tm) (c:Nat),vs=[.ref l,.ref lt]/\Bd5 K H l ps f c 3300 940/\c<=6/\Tms K H lt us R/\R.length<=64/\(∀ t∈R,Ok5 6000 40 t.1/\OkK c t.2)/\(∀ w,w<2^c->Vl 940 (F w) (f w)) ∧
 ∀ (r:W9) (H':Hp) (qs:U3) (g:Nat->A5),H r=none->Same H H'->Bd5 K H' r qs g c 140000 980->(∀ w,w<2^c->Vl 1000 (ts (R.map tv) F w) (g w))->Q (.ref r) H'
section
variable {P:U8}{w:W1}{K:U0}{mg:U4}{base:Heap}{k:Nat}{h:Heap}
theorem sc_lsum:FnScope ["_law_board","_law_terms","_law_due","_law_one","_law_mark","_law_led"] ["_law_board","_law_terms"] (Z0h (top 82)):=fS
theorem X3r (F:FunAt K "_law_summed" (top 82) .none)(X:K.In h)(G:Ng h mg)(B:Bs mg)(cP:Cal P w K mg base k "_law_lay" ["_law_board","_law_mark"] (spLayK K))(dN:Cal P w K mg base k "_law_plus" ["_law_one","_law_other","_law_sign"] (Y0b K))(dI:Cal P w K mg base k "_law_times" ["_law_one","_law_other"] (Z7q K)):Cal P w K mg base (k+1) "_law_summed" ["_law_board","_law_terms"] (spLSum K):=by
 have nd:=sc_lsum.nd
 refine F.cal X G sc_lsum (bnd2 λ_ _ _ _ _ _ _ _=>rfl) (λvs H Q E h=>?_) (λf cdv A outer s H vs Q E hr h=>?_)
 ·obtain⟨l,lt,ps,us,f,F,R,c,rfl,_⟩:=h;rfl
 obtain⟨l,lt,ps,us,fb,FF,R,c,rfl,BD,c6,TM,R64,OR,LF,kq⟩:=h
 have p6:=pow6 c6
 have lp:=Z4b TM.tms
 have lps:=BD.len
 have sl:(100:Nat)<sizeLine:=by decide
 refine⟨_,(@Z0e _ _ _ _ _ (@Z0o _ _ 2 _ _ _ _ nd rfl (Or.inr rfl) (Z0i X6o (@Z2r _ _ _ _ (Z0a (@Z0y _ _ _ _ _ (Z0a Z0b (Z0a Z0b (Z0a Z0b (Z0a Z0b (Z0a Z0b Z0d)))))) Z0d)) (Z0p Z0s rfl B.len q1c (Z0a (pv 0) Z0d))) rfl (.inl rfl))
  (@Z0e _ _ _ _ _ (Z1u PassesOwn.never rfl (Z1r (pv 1)) (@Z2z _ _ _ _ _ _ rfl (@Z0v _ _ _ _ _ (@Z0m _ _ 3 _ nd rfl (Or.inr rfl) (by first | exact .inl rfl | exact .inr rfl)) (@Z0v _ _ _ _ _ (@Z0m _ _ 4 _ nd rfl (Or.inl rfl) (by first | exact .inl rfl | exact .inr rfl)) Z2f rfl) rfl) rfl rfl)
   (@Z0e _ _ _ _ _ (@Z0o _ _ 5 _ _ _ _ nd rfl (Or.inr rfl) (Z0n cP hr rfl (Z0a (pv 0) (Z0a (pv 4) Z0d))) rfl (.inl rfl))
   (@Z0g _ _ _ (@Z0o _ _ 2 _ _ _ _ nd rfl (Or.inr rfl) (Z4i rfl (LcOk.of (Nc:=["_law_k","_law_due","_law_one","_law_led"]) (mp:=[none,some 2,some 3,some 5]) (by kernel_rfl)) (Z1e rfl B.range (Z0a (Z0p Z0s rfl B.len q1c (Z0a (pv 0) Z0d)) Z0d)) (λ_ _ _ _=>(Z0m (i:=0) (show (["_law_k","_law_due","_law_one","_law_led"]:W0).Nodup by decide +kernel) rfl (Or.inl rfl))) (λ_ _ _ _=>(Z0n dN hr rfl (Z0a (Z0k Z8i (pv 1) (pv 0) (λ_ _=>rfl)) (Z0a (Z0n dI hr rfl (Z0a (Z0k Z8i (pv 3) (pv 0) (λ_ _=>rfl)) (Z0a (pv 2) Z0d))) (Z0a Z0b Z0d)))))) rfl (.inl rfl)))))
  (@Z0g _ _ _ (Z0l (pv 2))))),?_⟩
 try dsimp only[cxK]
 refine⟨t5,λt ht=>⟨(show (1:Nat)<=sizeLine by decide),λlo hlo=>⟨_,Z,l,_,Z,.inl (SqL.of (((Z0f ht _).trans (Z0f hlo _)) _ _ BD.lst)),lo,_,_,Z,Z,Z0c,by omega,by rw[q0a];omega,by rw[q1o,q0a];simp;omega,λl2 hl2=>?_⟩⟩⟩
 have s1:=Z0f ht (tA Zz)
 have s2:=s1.trans (Z0f hlo (.lst [V.ref t]))
 have s3:=s2.trans (Z0f hl2 (.lst (List.replicate (((ps.map V.ref).length:Nat):Int).toNat [V.ref t]).flatten))
 have n2:H l2=none:=Z5u s2 hl2
 have B3:Bd5 K (upd (upd (upd H t (tA Zz)) lo (.lst [V.ref t])) l2 (.lst (List.replicate (((ps.map V.ref).length:Nat):Int).toNat [V.ref t]).flatten)) l2 (List.replicate (2^c) t) (λ_=>Zz) c 9400 980:=by
  refine⟨by rw[Z0c,q1o,q0a,lps,X2q],q8j,λi q hq=>?_,λ_ _=>⟨⟨q4c (by decide),q4c (by decide),q4c (by decide),q4c (by decide)⟩,X8n,by show (0:Int)<=_;omega⟩⟩
  rw[q5i] at hq
  split at hq
  ·cases hq
   exact At5.of (Z0f hl2 _ _ _ (Z0f hlo _ _ _ Z0c))
  ·cases hq
 generalize upd (upd (upd H t (tA Zz)) lo (.lst [V.ref t])) l2 (.lst (List.replicate (((ps.map V.ref).length:Nat):Int).toNat [V.ref t]).flatten)=H3 at s3 B3 ⊢
 refine⟨_,Z,lt,Z,⟨_,s3.seq (SqL.of TM.lst)⟩,Z3y (K:=K) (a:=lt) (xs:=us.map V.ref) (λj σ H'=>Same H H'/\∃ (ld:W9) (qs:U3) (g:Nat->A5) (v3 v4 v5:Option V),H ld=none/\Bd5 K H' ld qs g c (9400+1965*j) 980/\(∀ w,w<2^c->Vl 1000 (ts ((R.take j).map tv) FF w) (g w))/\σ=[some (.ref l),some (.ref lt),some (.ref ld),v3,v4,v5])
  ⟨s3,l2,_,_,none,none,none,n2,B3,λw hw=>by rw[q8q];exact X1y _,Z⟩ (λj σ H' _ e=>e.1.seq (SqL.of TM.lst)) ?_ ?_⟩
 ·rintro j x σ H4 hx ⟨S4,ld,qs,g,v3,v4,v5,nl,B4,V4',rfl⟩
  rw[q0n] at hx
  obtain⟨p,hp,rfl⟩:=q0l.mp hx
  obtain⟨⟨y,m⟩,hy,pa,pb,ep,ea,eb⟩:=Z3l TM.tms hp
  obtain⟨oy,om⟩:Ok5 6000 40 y/\OkK c m:=OR _ (q0w hy)
  have jl:j<R.length:=(q0o.mp hy).1
  refine⟨p,_,Z,SqT.of (S4 _ _ ep),Z,_,_,Z,_,_,Z,Z,?_⟩
  refine⟨_,Z,_,Z,l,pb,ps,fb,c,3300,940,m,Z,BD.same S4,c6,S4.tup eb,om,λll H5 ql fr5 S5 B5=>?_⟩
  have S05:=S4.trans S5
  have B4':=B4.same S5
  have lq:=B4.len
  have lql:=B5.len
  have hn:(((ps.map V.ref).length:Nat):Int).toNat=2^c:=by rw[q0a,lps];rfl
  refine⟨_,Z,l,_,Z,.inl (SqL.of (S05 _ _ BD.lst)),_,Z,by omega,by rw[q0a];omega,λacc hacc=>?_⟩
  rw[hn]
  have ea5:At5 K H5 pa y:=ea.same S05
  have y60:y.2<=60:=q9c oy.le (by decide)
  have dn:ts ((R.take (j+1)).map tv) FF=λw=>add (ts ((R.take j).map tv) FF w) (mul (vv y) (lay m FF w)):=funext λw=>by
   rw[q1f,hy,q3g,q0k,M84.Z5y]
   show add _ (add _ z0)=_
   rw[M84.Y3n]
   rfl
  refine Z5s (lo:=0) (n:=2^c) (fr:=[some (.ref ld),some (.ref pa),some (.ref ll)]) (λi ys H'=>Same H5 H'/\H' acc=some (.lst ys)/\∃ (rs:U3) (z:Nat->A5),ys=rs.map V.ref/\rs.length=i/\ValsK K H' rs z/\(∀ w,w<i->Ok5 (9400+1965*(j+1)) 980 (z w)/\Vl 1000 (add (ts ((R.take j).map tv) FF w) (mul (vv y) (lay m FF w))) (z w))) (by omega) ⟨Z0f hacc _,Z0c,[],(λ_=>Zz),Z,Z,(λi q hq=>nomatch hq),λw hw=>absurd hw (q3d _)⟩ ?_ ?_
  ·rintro i ys H6 N hi hyl ⟨S6,a6,rs,z,rfl,lr,V6,O6⟩ kN
   have a1:=Z3t (ps:=qs) (j:=0+(i:Int)) (show i<qs.length by omega) (by omega)
   have a2:=Z3t (ps:=ql) (j:=0+(i:Int)) (show i<ql.length by omega) (by omega)
   have b1:=(B4'.vals i _ (q0d (show i<qs.length by omega))).same S6
   have b2:=(B5.vals i _ (q0d (show i<ql.length by omega))).same S6
   have ob:=B5.ok i hi
   have og:=B4.ok i hi
   refine⟨_,Z,_,Z,ld,_,_,_,Z,Z,SqL.of (S6 _ _ B4'.lst),a1,_,Z,_,Z,ll,_,_,_,Z,Z,SqL.of (S6 _ _ B5.lst),a2,_,Z,?_⟩
   refine⟨_,pa,layW m fb i,y,3300,940,6000,40,Z,b2,ea5.same S6,ob,oy,by decide,λr H7 x7 S7 e7 p7 o7=>?_⟩
   refine⟨_,r,g i,x7,1,9400+1965*j,980,Z,.inl rfl,b1.same S7,At5.of e7,og,o7.mono (by omega) (by decide),by omega,by decide,λr8 H8 x8 S8 e8 s8 z8=>?_⟩
   have a8:=(S7.trans S8) _ _ a6
   have S68:=S6.trans (S7.trans S8)
   have n1:=og.amt.nn
   have n2':=o7.amt.nn
   have m1:(g i).2<=980:=og.le
   have m2:x7.2<=980:=o7.le
   have v1:=V4' i hi
   have v2:Vl 1000 (mul (lay m FF i) (vv y)) x7:=(X1f om LF i hi).mul (Y2n oy.amt.nn y60) p7 ob.amt.nn oy.amt.nn
   have v8:=Vl.add (s:=1) v1 v2 n1 n2' s8.amt (by have:=s8.same;simp only[q4y] at this ⊢;exact this)
   rw[M72.Z6x,mul_comm] at v8
   have o8:Ok5 (9400+1965*(j+1)) 980 x8:=⟨z8.mono (by omega),s8.amt,by have:=s8.le;omega⟩
   refine kN _ _ a8 ⟨Z1a S68 hacc,Z0c,rs++[r8],(λw=>if w=rs.length then x8 else z w),by rw[q0k];rfl,by rw[q0x,lr];rfl,K64.vals_upd (K64.vals_push V6 (S7.trans S8) (At5.of e8)) a8,λw hw=>?_⟩
   show Ok5 _ _ (if w=rs.length then x8 else z w)/\Vl 1000 _ (if w=rs.length then x8 else z w)
   by_cases e:w=rs.length
   ·rw[if_pos e]
    rw[e,lr]
    exact⟨o8,v8⟩
   ·rw[if_neg e]
    exact O6 w (by omega)
  ·rintro ys H6 hyl ⟨S6,a6,rs,z,rfl,lr,V6,O6⟩
   refine⟨S05.trans S6,acc,rs,z,_,_,_,Z5u S05 hacc,⟨a6,lr,V6,λw hw=>(O6 w hw).1⟩,λw hw=>?_,Z⟩
   rw[dn]
   exact(O6 w hw).2
 ·rintro σ H4 ⟨S4,ld,qs,g,v3,v4,v5,nl,B4,V4',rfl⟩
  rw[q0a,lp] at B4 V4'
  rw[q2a] at V4'
  exact⟨_,Z,kq ld H4 qs g nl S4 ⟨B4.lst,B4.len,B4.vals,λw hw=>(B4.ok w hw).mono (by omega) (by omega)⟩ V4'⟩
end
end K55S
namespace K55S
open L2 Ba Am Pc M71
open K64 (top Bs At5 ValsK Bd5 Steps Ams spRunK Z5c)
open K64.V (Z7r spFarN Nz)
open M72 (V4 sm add En fl sw VOk rowop)
open M75 (Mk lay)
open M84 (ts Sums)
theorem Y9r (ns:U6)(a b:Nat)(h:a<=b):∃ nl:List Int,cutV (ns.map V.int) (some (a:Int)) (some (b:Int))=nl.map V.int/\nl.length<=b-a:=by
 unfold cutV
 rw[HT.Z7w,HT.Z7w]
 refine⟨(ns.drop (min a (ns.map V.int).length)).take (min b (ns.map V.int).length-min a (ns.map V.int).length),by rw[List.map_take,List.map_drop],?_⟩
 rw[q3v]
 omega
theorem X8o {n:Nat}{f:Nat->A5}(h:∃ w,w<n/\f w≠Zz):((List.range n).map λj=>decide (l5 (f j)=[0,0,0,0,0])).all id=false:=by
 obtain⟨w,hw,nz⟩:=h
 rw[List.all_eq_false]
 refine⟨false,?_,by simp⟩
 exact q2j.mpr ⟨w,q1q.mpr hw,q0j λz=>nz (l5_zz.mp z)⟩
theorem E_z {v:V4}(h:M72.E v=M84.z0):v=M84.z0:=by
 obtain⟨a,b,c,d⟩:=v
 have e1:-d=0:=congrArg (λx:V4=>x.1) h
 have e2:a=0:=congrArg (λx:V4=>x.2.1) h
 have e3:b=0:=congrArg (λx:V4=>x.2.2.1) h
 have e4:c=0:=congrArg (λx:V4=>x.2.2.2) h
 have e5:d=0:=by omega
 rw[e2,e3,e4,e5]
 rfl
theorem En_z {v:V4}:∀ {n:Nat},En n v=M84.z0->v=M84.z0
 | 0,h=>h
 | n+1,h=>En_z (n:=n) (E_z h)
theorem X8r:∀ n:Nat,En n M84.z0=M84.z0
 | 0=>rfl
 | n+1=>by show M72.E (En n M84.z0)=_;rw[X8r n];rfl
theorem X0n {c:Nat}{F:M72.Bv}(hF:∀ w,2^c<=w->F w=M84.z0){w:Nat}(hw:2^c<=w):∀ {R:List Tm},(∀ t∈R,OkK c t.2)->ts (R.map tv) F w=M84.z0
 | [],_=>rfl
 | t::R,h=>by
  have ih:=X0n hF hw (R:=R) λu hu=>h u (.tail _ hu)
  have ht:=(h t (.head _)).f
  have g:2^c<=w^^^t.2.2.1:=q7o λq=>by
   have:=q2r q ht
   rw[q2w,q6p,q6o] at this
   omega
  show add (M84.mul (vv t.1) (En _ (F (w^^^t.2.2.1)))) (ts (R.map tv) F w)=_
  rw[ih,hF _ g,X8r,mul_comm,M84.Y7l,M84.Y7m]
theorem Y7k {c:Nat}(hc:c<=6){row:List Mv}{f fb g:Nat->A5}{m:Mk}{F:M72.Bv}{R T:List Tm}(om:OkK c m)(vo:∀ x∈row,VOk c x)(af:Ams c f)(nz:∃ w,w<2^c/\f w≠Zz)(hF:∀ w,2^c<=w->F w=M84.z0)(lf:∀ w,w<2^c->Vl 940 (F w) (f w))(lg:∀ w,w<2^c->Vl 1000 (ts (R.map tv) F w) (g w))
  (gd:Gd c T R) (su:Sums 60 m row (T.map tv)) (s1:Steps c (row.map gm) f fb):∃ w,w<2^c/\g w≠Zz:=by
 apply Classical.byContradiction
 intro no
 have z:∀ w,w<2^c->g w=Zz:=λw hw=>Classical.byContradiction λq=>no ⟨w,hw,q⟩
 have G:ts (R.map tv) F=λ_=>M84.z0:=funext λw=>by
  by_cases hw:w<2^c
  ·have q:=lg w hw
   rw[z w hw] at q
   exact q.uniq (X1y 1000)
  ·exact X0n hF (by omega) λt ht=>(gd.ok t ht).2.1
 have rz:∀ w,rowop row F w=M84.z0:=λw=>by
  have q:=su F (w^^^m.2.1)
  rw[show ts (T.map tv) F=λ_=>M84.z0 from G ▸ funext λw=>(gd.sum F w).symm,Y4k] at q
  have q:M84.z0=sm (2^60) (En _ (rowop row F ((w^^^m.2.1)^^^m.2.1))):=q
  rw[q2w,q6p,q6o] at q
  exact En_z (M72.X0o (n:=2^60) (by decide) (q.symm.trans (by rfl)))
 obtain⟨h1,a1⟩:=Z5o hc vo af lf s1
 have fz:∀ w,w<2^c->fb w=Zz:=λw hw=>by
  have q:=h1 w hw
  rw[rz] at q
  exact q.same (X1y _) (a1 w hw) X8n
 obtain⟨w,hw,nw⟩:=nz
 exact nw (K64.Y1b hc (λx hx=>by obtain⟨y,hy,rfl⟩:=q2j.mp hx;exact Y6h (vo y hy)) af s1 fz w hw)
theorem Y7g {K:U0}{H:Hp}{l:W9}{ps:U3}{f:Nat->A5}{c n m:Nat}(b:Bd5 K H l ps f c n m):Ams c f:=λw hw=>(b.ok w hw).amt
section
variable {P:U8}{w:W1}{K:U0}{mg:U4}{base:Heap}{k:Nat}{h:Heap}
theorem sc_law:FnScope ["_law_script","_law_head","_law_cells","_law_f","_law_s","_law_mark","_law_board","_law_row","_law_kept","_law_place_here","_law_terms","_law_due","_law_ahead"] ["_law_script"] (Z0h (top 83)):=fS
theorem X6v {n:Nat}(hn:n<=63){f:W9}{fd:FuncData}(F:Fun K "law" "law" (top 83) f fd)(B:Bs mg)(c9:Cal P w K mg base k "_law_cell_at" ["_law_script","_law_k"] (spCell K))(cW:Cal P w K mg base k "_law_cells_by" ["_law_cell"] Y4d)(d6:Cal P w K mg base k "_law_mark_by" ["_law_cell","_law_cells"] Y1h)(cD:Cal P w K mg base k "_law_bits" ["_law_number"] spOnes)
  (cU:Cal P w K mg base k "_law_board_by" ["_law_script","_law_at","_law_cells"] (Z7r K)) (dQ:Cal P w K mg base k "_law_far" ["_law_one"] spFarN) (dC:Cal P w K mg base k "_law_row_by" ["_law_numbers","_law_cells","_law_wild"] (Y4a K)) (dH:Cal P w K mg base k "_law_place" ["_law_row"] Y4b)
  (d8:Cal P w K mg base k "_law_refused" ["_law_mark","_law_row","_law_place_here"] Z8x) (dR:Cal P w K mg base k "back_sum" ["mark","row"] (spBack K)) (cT:Cal P w K mg base k "_law_are_terms" ["_law_found","_law_size","_law_row"] (Z6w K)) (cP:Cal P w K mg base k "_law_lay" ["_law_board","_law_mark"] (spLayK K))
  (eA:Cal P w K mg base k "run" ["board","row"] (spRunK K)) (dD:Cal P w K mg base k "_law_summed" ["_law_board","_law_terms"] (spLSum K)) (cV:Cal P w K mg base k "_law_board_is" ["_law_found","_law_due"] (Z5c K)) :
  FnOk P w K mg base CX0 (k+1) f fd ["_law_script"] (spLaw K n):=by
 have nd:=sc_law.nd
 refine F.ok sc_law (λvs H Q E h=>?_) (λcdv A outer s H vs Q E hr h=>?_)
 ·obtain⟨a,ns,rfl,_⟩:=h;rfl
 obtain⟨sa,nl,rfl,hS,h63,lt,kk⟩:=h
 have sl:(1000:Nat)<sizeLine:=by decide
 refine⟨_,(@Z1c _ _ _ _ _ (@Z0o _ _ 1 _ _ _ _ nd rfl (Or.inl rfl) (Z0n c9 hr rfl (Z0a (pv 0) (Z0a Z0b Z0d))) rfl (.inl rfl))
  (@Z1c _ _ _ _ _ (@Z0o _ _ 2 _ _ _ _ nd rfl (Or.inl rfl) (Z0n cW hr rfl (Z0a (pv 1) Z0d)) rfl (.inl rfl))
  (@Z1c _ _ _ _ _ (Z4a (Z1s Z3j (Z0n d6 hr rfl (Z0a (Z0n c9 hr rfl (Z0a (pv 0) (Z0a Z0b Z0d))) (Z0a (pv 2) Z0d))) (Z1v Z0b) Z2m) (Z2z rfl (Z0v (Z0m (i:=3) nd rfl (Or.inl rfl)) (Z0v (Z0m (i:=4) nd rfl (Or.inl rfl)) Z2f))))
  (@Z1c _ _ _ _ _ (@Z0o _ _ 5 _ _ _ _ nd rfl (Or.inl rfl) (@Z0y _ _ _ _ _ (Z0a (Z0i Z0x (Z0i Z1f (Z0n cD hr rfl (Z0a (Z0i Z1n (pv 3) (pv 4)) Z0d)) (Z0i Z3h Z0b (Z0i Z0x (Z0i Z1g (pv 1) Z0b) Z0b))) Z0b) (Z0a (pv 3) (Z0a (pv 4) Z0d)))) rfl (.inl rfl))
  (@Z1c _ _ _ _ _ (@Z0o _ _ 6 _ _ _ _ nd rfl (Or.inl rfl) (Z0n cU hr rfl (Z0a (pv 0) (Z0a Z0b (Z0a (pv 2) Z0d)))) rfl (.inl rfl))
  (@Z1c _ _ _ _ _ (Z1b (Z0q Z1j (Z0i Z0x (Z0i Z1g (pv 1) Z0b) Z0b) Z0b (nomark _))
   (@Z0g _ _ _ (Z3x (i:=6) rfl nd rfl rfl (LcOk.of (Nc:=["_law_one"]) (mp:=[none]) (by kernel_rfl)) (Z1r (pv 6)) (λ_ _ _ _=>(Z0m (i:=0) (show (["_law_one"]:W0).Nodup by decide +kernel) rfl (Or.inl rfl))) (λ_ _ _ _=>(Z0n dQ hr rfl (Z0a (pv 0) Z0d))) rfl))
   Z0r)
  (@Z1c _ _ _ _ _ (@Z0o _ _ 7 _ _ _ _ nd rfl (Or.inl rfl) (Z0n dC hr rfl (Z0a (Z1s X2m (pv 0) (Z1v Z0b) (Z1v (Z0i Z1f Z0b (@Z0k _ _ _ _ _ _ _ Z0w (@Z2r _ _ _ _ (@Z0a _ _ _ _ _ Z0b (@Z0a _ _ _ _ _ Z0b (@Z0a _ _ _ _ _ Z0b Z0d rfl) rfl) rfl)) (Z0p (Z6q rfl) rfl B.max boot_max (@Z0a _ _ _ _ _ Z0b (@Z0a _ _ _ _ _ (Z0i Z1t (Z0p (Z9p rfl) rfl B.min boot_min (@Z0a _ _ _ _ _ (pv 2) (@Z0a _ _ _ _ _ Z0b Z0d rfl) rfl)) Z0b) Z0d rfl) rfl)) (λ_ _=>rfl))))) (Z0a (pv 2) (Z0a (Z4c (Z1o Y0g (pv 2) Z0b (nomark _)) (Z3n (Z1o Z1j (Z0i Z0x (Z0i Z1g (pv 1) Z0b) Z0b) Z0b (nomark _)))) Z0d)))) rfl (.inl rfl))
  (@Z0e _ _ _ _ _ (@Z0o _ _ 8 _ _ _ _ nd rfl (Or.inl rfl) (Z2e Z2b rfl B.list q6a (Z0a (pv 7) Z0d)) rfl (.inl rfl))
  (@Z0e _ _ _ _ _ (@Z0o _ _ 9 _ _ _ _ nd rfl (Or.inl rfl) (Z0n dH hr rfl (Z0a (pv 7) Z0d)) rfl (.inl rfl))
  (@Z0e _ _ _ _ _ (Z1b (Z0q X3h (pv 9) X0u (nomark _))
   (@Z0g _ _ _ (Z0l (Z4c (Z0n d8 hr rfl (Z0a (pv 5) (Z0a (pv 7) (Z0a (pv 9) Z0d)))) (Z3n (Z1o (X3k hr.units) (pv 7) (pv 8) (nomark _))))))
   Z0r)
  (@Z0e _ _ _ _ _ (@Z0o _ _ 10 _ _ _ _ nd rfl (Or.inl rfl) (Z0n dR hr rfl (Z0a (pv 5) (Z0a (pv 7) Z0d))) rfl (.inl rfl))
  (@Z0e _ _ _ _ _ (Z1b (PW.pt (Z2y (Z1z (Z1l (Z0n cT hr rfl (Z0a (pv 10) (Z0a (Z0i Z1x Z0b (pv 2)) (Z0a (pv 8) Z0d)))))) (Z2n (Z0q (X3i hr.units) (pv 7) (pv 8) (nomark _)))))
   (@Z0g _ _ _ (Z0l Z2w))
   Z0r)
  (@Z0e _ _ _ _ _ (@Z0o _ _ 11 _ _ _ _ nd rfl (Or.inl rfl) (Z0n cP hr rfl (Z0a (Z0n eA hr rfl (Z0a (pv 6) (Z0a (pv 7) Z0d))) (Z0a (pv 5) Z0d))) rfl (.inl rfl))
  (@Z0e _ _ _ _ _ (@Z0o _ _ 12 _ _ _ _ nd rfl (Or.inl rfl) (Z0n dD hr rfl (Z0a (pv 6) (Z0a (pv 10) Z0d))) rfl (.inl rfl))
  (@Z0e _ _ _ _ _ (Z1b (Z1l (Z0p (Z3a rfl) rfl B.all q8w (Z0a (Z4i rfl (LcOk.of (Nc:=["_law_one"]) (mp:=[none]) (by kernel_rfl)) (Z1r (pv 12)) (λ_ _ _ _=>(Z0m (i:=0) (show (["_law_one"]:W0).Nodup by decide +kernel) rfl (Or.inl rfl))) (λ_ _ _ _=>(Z1o (Y1v hr.units) (pv 0) (@Z0y _ _ _ _ _ (Z0a Z0b (Z0a Z0b (Z0a Z0b (Z0a Z0b (Z0a Z0b Z0d)))))) (nomark _)))) Z0d)))
   (@Z0g _ _ _ (Z0l Z2w))
   Z0r)
  (@Z0g _ _ _ (Z0l (Z0n cV hr rfl (Z0a (Z0n eA hr rfl (Z0a (pv 12) (Z0a (pv 7) Z0d))) (Z0a (pv 11) Z0d)))))))))))))))))))),?_⟩
 try dsimp only[cxK]
 refine⟨λσ H'=>H=H'/\∃ hd:Int,σ=[some (.ref sa),some (.int hd),none,none,none,none,none,none,none,none,none,none,none],⟨_,Z,sa,nl,0,Z,hS,q1r 0,Z,_,Z⟩,?_⟩
 rintro σ _ ⟨rfl,hd,rfl⟩
 refine⟨λσ H'=>H=H'/\∃ c:Nat,1<=c/\c<=6/\σ=[some (.ref sa),some (.int hd),some (.int c),none,none,none,none,none,none,none,none,none,none],⟨_,Z,hd,Z,λc c1 c6=>⟨Z,c,c1,c6,Z⟩⟩,?_⟩
 rintro σ _ ⟨rfl,c,c1,c6,rfl⟩
 refine⟨λσ H'=>Same H H'/\∃ ff ss:Nat,ff<2^c/\ss<2^c/\σ=[some (.ref sa),some (.int hd),some (.int c),some (.int ff),some (.int ss),none,none,none,none,none,none,none,none],?_,?_⟩
 ·refine⟨_,Z,sa,nl,1,Z,hS,by decide,_,Z,_,c,Z,c6,λr H1 q ff ss S1 e1 q4 hf hs=>?_⟩
  refine⟨1,Z,r,_,Z,SqT.of e1,.inr ⟨cut13 _ _ _,λt ht=>?_⟩⟩
  rw[Z5g]
  exact⟨t,_,Z,SqT.of Z0c,Z,_,_,Z,_,_,Z,Z,S1.trans (Z0f ht _),ff,ss,hf,hs,Z⟩
 rintro σ H1 ⟨S1,ff,ss,hf,hs,rfl⟩
 refine⟨λσ H'=>Same H H'/\∃ (pm:W9) (m:Mk),SqT K H' pm (mkL m)/\OkK c m/\σ=[some (.ref sa),some (.int hd),some (.int c),some (.int ff),some (.int ss),some (.ref pm),none,none,none,none,none,none,none],?_,?_⟩
 ·refine⟨_,Z,_,Z,_,_,Z,Z,ff&&&ss,Z6e,_,Z,_,_,Z,Z,⟨by decide,by decide⟩,_,_,Z,Z,(by decide:(0:Int)<2),_,_,Z,Z,.inl ⟨by decide,by decide⟩,_,_,Z,Z,_,_,Z,Z,(by decide:(0:Int)<4),_,Z,_,Z,t3,λpm hpm=>?_⟩
  have a0:=q2h (((pc (ff&&&ss):Nat):Int)+2*(hd / 144%2)) (show (4:Int)≠0 by decide)
  have a1:=q2i (((pc (ff&&&ss):Nat):Int)+2*(hd / 144%2)) (show (0:Int)<4 by decide)
  refine⟨S1.trans (Z0f hpm _),pm,((((pc (ff&&&ss):Nat):Int)+2*(hd / 144%2))%4 |>.toNat,ff,ss),SqT.of ?_,⟨by show Int.toNat _<4;omega,hf,hs⟩,Z⟩
  rw[Z0c]
  show some (HO.tup [V.int _,_,_])=some (HO.tup [V.int ((Int.toNat _:Nat):Int),_,_])
  rw[q4x a0]<;>rfl
 rintro σ H2 ⟨S2,pm,m,em,om,rfl⟩
 refine⟨λσ H'=>Same H2 H'/\∃ (lb:W9) (ps:U3) (fb:Nat->A5),H' lb=some (.lst (ps.map V.ref))/\ps.length=2^c/\Vals5 H' ps fb/\(∀ i,Ok5 100 40 (fb i))/\Nz c fb/\σ=[some (.ref sa),some (.int hd),some (.int c),some (.int ff),some (.int ss),some (.ref pm),some (.ref lb),none,none,none,none,none,none],?_,?_⟩
 ·exact⟨_,Z,_,Z,sa,nl,2,c,Z,S2.seq hS,lt,by decide,c1,c6,λl H' ps fb hl S' e1 e2 e3 e4 e5=>⟨S',l,ps,fb,e1,e2,e3,e4,e5,Z⟩⟩
 rintro σ H3 ⟨S23,lb0,ps0,f0,eb0,lb0l,vb0,ob0,nz0,rfl⟩
 have p6:=pow6 c6
 refine⟨λσ H'=>Same H3 H'/\∃ (lb:W9) (ps:U3) (fb:Nat->A5),Bd5 K H' lb ps fb c 3300 940/\Nz c fb/\σ=[some (.ref sa),some (.int hd),some (.int c),some (.int ff),some (.int ss),some (.ref pm),some (.ref lb),none,none,none,none,none,none],?_,?_⟩
 ·refine⟨_,Z,_,_,Z,Z,⟨by decide,by decide⟩,_,_,Z,Z,(by decide:(0:Int)<5),Z,_,Z,eqI (λ_=>?_) (λ_=>⟨Same.refl _,lb0,ps0,f0,⟨eb0,lb0l,λi q hq=>At5.of (vb0 i q hq),λi _=>(ob0 i).mono (by decide) (by decide)⟩,nz0,Z⟩)⟩
  refine⟨_,Z,lb0,Z,⟨_,SqL.of eb0⟩,λacc hacc=>?_⟩
  refine Z6j (K:=K) (a:=lb0) (xs:=ps0.map V.ref) (fr:=[]) (λi ys H'=>Same H3 H'/\H' acc=some (.lst ys)/\∃ (rs:U3) (z:Nat->A5),ys=rs.map V.ref/\rs.length=i/\Vals5 H' rs z/\(∀ w,w<i->Ok5 3300 940 (z w)/\(z w=Zz->f0 w=Zz))) (by rw[q0a];omega) ⟨Z0f hacc _,Z0c,[],(λ_=>Zz),Z,Z,(λi q hq=>nomatch hq),λw hw=>absurd hw (q3d _)⟩ (λi ys H' e=>e.1.seq (SqL.of eb0)) ?_ ?_
  ·rintro i x ys H4 N hx hy ⟨S4,a4,rs,z,rfl,lr,V4',O4⟩ kN
   rw[q0n] at hx
   obtain⟨p,hp,rfl⟩:=q0l.mp hx
   refine⟨_,Z,p,f0 i,Z,S4 _ _ (vb0 i p hp),ob0 i,λr H5 y S5 e5 o5 z5=>?_⟩
   have a5:=S5 _ _ a4
   refine kN _ _ a5 ⟨Z1a (S4.trans S5) hacc,Z0c,rs++[r],(λw=>if w=rs.length then y else z w),by rw[q0k];rfl,by rw[q0x,lr];rfl,K64.V.vals_upd (K64.V.vals_push V4' S5 e5) a5,λw hw=>?_⟩
   show Ok5 _ _ (if w=rs.length then y else z w)/\((if w=rs.length then y else z w)=Zz->_)
   by_cases e:w=rs.length
   ·rw[if_pos e,e,lr]
    exact⟨o5,z5⟩
   ·rw[if_neg e]
    exact O4 w (by omega)
  ·rintro ys H4 hy ⟨S4,a4,rs,z,rfl,lr,V4',O4⟩
   rw[q0a,lb0l] at lr O4
   obtain⟨w0,hw0,n0⟩:=nz0
   exact⟨S4,acc,rs,z,⟨a4,lr,λi q hq=>At5.of (V4' i q hq),λw hw=>(O4 w hw).1⟩,⟨w0,hw0,λe=>n0 ((O4 w0 hw0).2 e)⟩,Z⟩
 rintro σ H4 ⟨S34,lb,ps,fb,BD,nz,rfl⟩
 have S24:=S23.trans S34
 have S4:=S2.trans S24
 have em4:=S24.tup em
 clear vb0 ob0 nz0 eb0 lb0l em
 refine⟨λσ H'=>Same H4 H'/\∃ (lr:W9) (row:List Mv),RowAt H' lr row/\row.length<=24/\(∀ x∈row,VOk c x)/\(3<c->cO row<=2)/\σ=[some (.ref sa),some (.int hd),some (.int c),some (.int ff),some (.int ss),some (.ref pm),some (.ref lb),some (.ref lr),none,none,none,none,none],?_,?_⟩
 ·refine⟨_,Z,10,Z,t3,λlq hlq=>?_⟩
  have s5:=Z0f hlq (.lst [.int 24,.int 12,.int 6])
  have q5:upd H4 lq (.lst [.int 24,.int 12,.int 6]) lq=some (.lst [.int 24,.int 12,.int 6]):=Z0c
  generalize upd H4 lq (.lst [.int 24,.int 12,.int 6])=H5 at s5 q5 ⊢
  obtain⟨mo,hm,e⟩:∃ mo:Nat,mo<=24/\atI [V.int 24,V.int 12,V.int 6] (if (if (5:Int)<(c:Int) then (5:Int) else (c:Int))-3>0 then (if (5:Int)<(c:Int) then (5:Int) else (c:Int))-3 else 0)=some (.int mo):=by
   have:c=1∨c=2∨c=3∨c=4∨c=5∨c=6:=by omega
   rcases this with rfl | rfl | rfl | rfl | rfl | rfl
   ·exact⟨24,by decide,Z⟩
   ·exact⟨24,by decide,Z⟩
   ·exact⟨24,by decide,Z⟩
   ·exact⟨12,by decide,Z⟩
   ·exact⟨6,by decide,Z⟩
   ·exact⟨6,by decide,Z⟩
  refine⟨_,Z,_,_,Z,_,_,Z,Z,_,_,Z,lq,_,_,.int mo,Z,Z,SqL.of q5,e,_,_,Z,Z,_,Z,sa,_,Z,(S4.trans s5).seq hS,λcp hcp=>?_⟩
  obtain⟨nn,en,ln⟩:=Y9r nl 10 (10+mo) (by omega)
  have en:cutV (nl.map V.int) (some 10) (some (10+(mo:Int)))=nn.map V.int:=en
  rw[en]
  have s6:=Z0f hcp (.lst (nn.map V.int))
  have q6:upd H5 cp (.lst (nn.map V.int)) cp=some (.lst (nn.map V.int)):=Z0c
  generalize upd H5 cp (.lst (nn.map V.int))=H6 at s6 q6 ⊢
  have S46:=s5.trans s6
  refine⟨_,Z,_,Z,_,_,Z,Z,_,Z,decI (λc4=>?_) (λc4=>?_)⟩
  ·refine⟨_,Z,_,_,Z,Z,⟨by decide,by decide⟩,_,_,Z,Z,(by decide:(0:Int)<4),Z,?_⟩
   exact⟨cp,nn,c,_,Z,SqL.of q6,by omega,c1,c6,λl H' row fr S' R' l' ok' co=>⟨S46.trans S',l,row,R',by omega,ok',λc3=>absurd c3 (by omega),Z⟩⟩
  ·exact⟨cp,nn,c,false,Z,SqL.of q6,by omega,c1,c6,λl H' row fr S' R' l' ok' co=>⟨S46.trans S',l,row,R',by omega,ok',λc3=>co rfl c3,Z⟩⟩
 rintro σ H5 ⟨S45,lr,row,R5,l24,vo,c3,rfl⟩
 have S5:=S4.trans S45
 obtain⟨rp,hl5,hr5⟩:=id R5
 have aok:AllOk (row.map mm):=λm hm=>by
  obtain⟨x,_,rfl⟩:=q2j.mp hm
  exact okS x
 refine⟨_,Z,lr,_,Z,.inl (SqL.of hl5),λlk hlk=>?_⟩
 have s6:=Z0f hlk (.lst (rp.map V.ref))
 have q6:upd H5 lk (.lst (rp.map V.ref)) lk=some (.lst (rp.map V.ref)):=Z0c
 generalize upd H5 lk (.lst (rp.map V.ref))=H6 at s6 q6 ⊢
 have R6:=R5.same s6
 have hl6:=s6 _ _ hl5
 have hr6:=hr5.same s6
 have S46:=S45.trans s6
 have em6:=S46.tup em4
 refine⟨_,Z,lr,row,Z,R6,by omega,?_⟩
 cases pl:plc 0 row with
 | some i =>
  refine⟨_,Z,Z,_,Z,nblI (λ_=>?_) (λz=>absurd (q2m z) (by intro z;cases z))⟩
  refine⟨_,Z,_,Z,_,Z,_,lr,row,i,Z,R6,by omega,pl,λH7 S7=>⟨_,Z,iteT ?_⟩⟩
  refine⟨_,Z,_,Z,lr,lk,rp,rp,row.map mm,row.map mm,Z,Z,S7 _ _ hl6,S7 _ _ q6,hr6.same S7,hr6.same S7,aok,aok,?_⟩
  rw[q0t rfl]
  exact kk _
 | none =>
  refine⟨_,Z,Z,_,Z,nblI (λz=>absurd rfl (q3y z)) (λ_=>?_)⟩
  obtain⟨_,o6⟩:=Z7z pl (q1d _)
  rw[q3o] at o6
  have c36:c<=3∨cO row<=2:=by
   by_cases q:c<=3
   ·exact .inl q
   ·exact .inr (c3 (by omega))
  refine⟨_,Z,_,Z,pm,lr,m,row,c,Z,em6,R6,om,c6,vo,by omega,pl,c36,λlt H7 us R T fr7 S7 TM gd su Tl=>?_⟩
  have T64:2^cO row<=2^6:=q1x (by decide) o6
  have gl:=gd.len
  have kR:RowAt H7 lk row:=⟨rp,S7 _ _ q6,hr6.same S7⟩
  refine⟨_,Z,_,Z,_,_,Z,Z,⟨1,sz1,by omega,by omega⟩,_,Z,lt,lk,us,R,T,row,c,by rw[<-ipow c];rfl,TM,gd,c6,kR,by omega,Tl,by omega,λH8 S8=>⟨_,Z,iteF ?_⟩⟩
  have S68:=S7.trans S8
  refine⟨_,Z,_,Z,lr,lk,rp,rp,row.map mm,row.map mm,Z,Z,S68 _ _ hl6,S68 _ _ q6,hr6.same S68,hr6.same S68,aok,aok,_,Z,?_⟩
  rw[q0t rfl]
  refine iteF ?_
  have S48:=S46.trans S68
  have B8:=BD.same S48
  have ml:(row.map gm).length=row.length:=q0a _
  obtain⟨rp8,rw8⟩:=X0q (R6.same S68) vo (by omega)
  refine⟨_,Z,_,Z,lb,lr,ps,rp8,fb,c,3300,940,row.map gm,Z,rw8,B8,c6,by decide,by decide,by omega,λl9 H9 q9 f9 fr9 S9 B9 T9=>?_⟩
  rw[ml] at B9
  refine⟨_,Z,l9,pm,q9,f9,c,_,_,m,Z,B9,c6,(S68.trans S9).tup em6,om,λld H10 qd frd S10 B10=>?_⟩
  have S610:=(S68.trans S9).trans S10
  have S810:=S9.trans S10
  have lf:∀ w,w<2^c->Vl 940 ((λw=>if w<2^c then sm (2^(940-(fb w).2.toNat)) (fb w).1 else M84.z0) w) (fb w):=λw hw=>by
   show Vl 940 (if w<2^c then _ else _) _
   rw[if_pos hw]
   exact Vl.of (BD.ok w hw).amt.nn (BD.ok w hw).le
  refine⟨_,Z,_,Z,lb,lt,ps,us,fb,_,R,c,Z,B8.same S810,c6,(TM.same S8).same S810,by omega,λt ht=>⟨(gd.ok t ht).1,(gd.ok t ht).2.1⟩,lf,λla H11 qa g fra S11 B11 L11=>?_⟩
  obtain⟨rp11,rw11⟩:=X0q (R6.same (S610.trans S11)) vo (by omega)
  have nzg:=Y7k c6 om vo (Y7g BD) nz (λw hw=>if_neg (by omega)) lf L11 gd su T9
  refine⟨_,Z,la,Z,⟨_,SqL.of B11.lst⟩,λacc hacc=>?_⟩
  refine Z6j (K:=K) (a:=la) (xs:=qa.map V.ref) (fr:=[]) (λi ys H'=>Same H11 H'/\H' acc=some (.lst ys)/\ys=((List.range i).map λj=>decide (l5 (g j)=[0,0,0,0,0])).map V.bl) (by rw[q0a,B11.len];omega) ⟨Z0f hacc _,Z0c,Z⟩ (λi ys H' e=>e.1.seq (SqL.of B11.lst)) ?_ ?_
  ·rintro i x ys H12 N hx hy ⟨S12,a12,rfl⟩ kN
   rw[q0n] at hx
   obtain⟨p,hp,rfl⟩:=q0l.mp hx
   refine⟨_,Z,t5,λt ht=>⟨p,t,l5 (g i),[0,0,0,0,0],Z,Z,(B11.vals i p hp).same (S12.trans (Z0f ht _)),SqT.of Z0c,?_⟩⟩
   refine kN _ _ (Z0f ht _ _ _ a12) ⟨Z1a (S12.trans (Z0f ht _)) hacc,Z0c,?_⟩
   rw[q6c,q0k,q0k]
   rfl
  ·rintro ys H12 hy ⟨S12,a12,rfl⟩
   rw[q0a,B11.len] at a12
   refine⟨acc,_,Z,SqL.of a12,_,Z,?_⟩
   rw[X8o nzg]
   refine iteF ?_
   have B12:=B11.same S12
   refine⟨_,Z,_,Z,la,lr,qa,rp11,g,c,140000,980,row.map gm,Z,rw11.same S12,B12,c6,by decide,by decide,by omega,λlg H13 qg gb frg S13 B13 T13=>?_⟩
   have S1013:=(S11.trans S12).trans S13
   have B10':=B10.same S1013
   refine⟨_,Z,lg,ld,qg,qd,gb,layW m f9,Z,B13.lst,B10'.lst,by rw[B13.len,B10'.len],by rw[B13.len];exact p6,B13.vals,B10'.vals,λw hw=>ahead c6 om vo (Y7g BD) (Y7g B11) lf L11 gd su T9 T13 w (by rw[<-B13.len];exact hw),kk _⟩
end
end K55S
noncomputable section
namespace K64
open L2 Ba
theorem X8p {l:PySem.W.OpenLaw}{w:W1}{K:U0}{h:Heap}{mg:U4}{fa f:W9}(X:K.In h)(G:Ng h mg)(hfa:mg "law"=some (.ref fa))
  {od an:W5}{sl:W4}{oc kV dc pm cd ct:W2}{C D fi aN aO aZ A_NeverSo A_NoAmount A_NoBoard A_NoCell A_NoMark A_NoMove A_NoShare A_NoTable A_NoText A_Unguarded:W9}{bm bm2:U5}{odO odZ:W5}{slO slZ:W4}{nO nZ nN:Nat}{o1 o2 o3 o4 o5 y1 y2 y3 y4 y5 a1 a2 a3 a4 a5 a6 a7 b1 b2 b3 b4 b5 b6 b7 tM:Tok}
  (aL:PySem.W.nsIn K mainGlobals "law"=some (some (.ref f))) (lL:K.lookup f=some ⟨oc,od,.func (PySem.W.fnOf "law" "law" (Z1d (top 83)) (Z0z (top 83)) (Z0h (top 83)) .none kV dc pm an cd ct),sl⟩) (cL:PySem.W.codeIn K cd "law"=true) (kL:PySem.W.keepIn K (.ref f)=true)
  (t14:FunAt K "is_whole" (top 14) .none)
  (t16:FunAt K "halved_out" (top 16) .none)
  (t17:FunAt K "plus" (top 17) .none)
  (t18:FunAt K "minus" (top 18) .none)
  (t19:FunAt K "times" (top 19) .none)
  (t20:FunAt K "spun" (top 20) .none)
  (t21:FunAt K "spun_once" (top 21) .none)
  (t22:FunAt K "rooted" (top 22) .none)
  (t24:FunAt K "ones" (top 24) .none)
  (t25:FunAt K "turned_about" (top 25) .none)
  (t29:FunAt K "cells_of" (top 29) .none)
  (t31:FunAt K "halved" (top 31) .none)
  (t34:FunAt K "check_move" (top 34) .none)
  (t35:FunAt K "has_move_form" (top 35) .none)
  (t36:FunAt K "named_cells" (top 36) .none)
  (t37:FunAt K "turned" (top 37) .none)
  (t38:FunAt K "mixed" (top 38) .none)
  (t39:FunAt K "mixed_at" (top 39) .none)
  (t40:FunAt K "spun_where" (top 40) .none)
  (t41:FunAt K "word_behind" (top 41) .none)
  (t42:FunAt K "exchanged" (top 42) .none)
  (t43:FunAt K "back_move" (top 43) .none)
  (t45:FunAt K "is_odd_turn" (top 45) .none)
  (t46:FunAt K "moved_by" (top 46) .none)
  (t47:FunAt K "moved_by_mix" (top 47) .none)
  (t48:FunAt K "moved_by_turn" (top 48) .none)
  (t49:FunAt K "moved_by_if" (top 49) .none)
  (t50:FunAt K "moved_by_pair" (top 50) .none)
  (t53:FunAt K "back_sum" (top 53) .none)
  (t54:FunAt K "check_summed" (top 54) .none)
  (t55:FunAt K "terms_ahead" (top 55) .none)
  (t56:FunAt K "terms_ahead_of_odd_turn" (top 56) .none)
  (t57:FunAt K "gathered" (top 57) .none)
  (t59:FunAt K "run" (top 59) .none)
  (t61:FunAt K "_law_cell_at" (top 61) .none)
  (t62:FunAt K "_law_whole" (top 62) .none)
  (t63:FunAt K "_law_cells_by" (top 63) .none)
  (t64:FunAt K "_law_low" (top 64) .none)
  (t65:FunAt K "_law_spin" (top 65) .none)
  (t66:FunAt K "_law_amount_by" (top 66) .none)
  (t67:FunAt K "_law_board_by" (top 67) .none)
  (t68:FunAt K "_law_amount_is" (top 68) .none)
  (t69:FunAt K "_law_board_is" (top 69) .none)
  (t70:FunAt K "_law_mark_by" (top 70) .none)
  (t71:FunAt K "_law_bits" (top 71) .none)
  (t72:FunAt K "_law_times" (top 72) .none)
  (t73:FunAt K "_law_plus" (top 73) .none)
  (t74:FunAt K "_law_move_by" (top 74) .none)
  (t75:FunAt K "_law_lay" (top 75) .none)
  (t76:FunAt K "_law_far" (top 76) .none)
  (t77:FunAt K "_law_row_by" (top 77) .none)
  (t78:FunAt K "_law_place" (top 78) .none)
  (t79:FunAt K "_law_refused" (top 79) .none)
  (t80:FunAt K "_law_is_term" (top 80) .none)
  (t81:FunAt K "_law_are_terms" (top 81) .none)
  (t82:FunAt K "_law_summed" (top 82) .none)
  (z0:PySem.W.nsIn K mainGlobals "isinstance"=some none)
  (z1:PySem.W.nsIn K mainGlobals "int"=some none)
  (z2:PySem.W.nsIn K mainGlobals "bool"=some none)
  (z3:PySem.W.nsIn K mainGlobals "tuple"=some none)
  (z4:PySem.W.nsIn K mainGlobals "list"=some none)
  (z5:PySem.W.nsIn K mainGlobals "len"=some none)
  (z6:PySem.W.nsIn K mainGlobals "range"=some none)
  (z7:PySem.W.nsIn K mainGlobals "all"=some none)
  (z8:PySem.W.nsIn K mainGlobals "any"=some none)
  (z9:PySem.W.nsIn K mainGlobals "max"=some none)
  (z10:PySem.W.nsIn K mainGlobals "min"=some none)
  (z11:PySem.W.nsIn K mainGlobals "zip"=some none)
  (z12:PySem.W.nsIn K mainGlobals "set"=some none)
  (z13:PySem.W.nsIn K mainGlobals "str"=some none)
  (z14:PySem.W.nsIn K mainGlobals "enumerate"=some none)
  (z15:PySem.W.nsIn K mainGlobals "reversed"=some none)
  (z16:PySem.W.nsIn K mainGlobals "sorted"=some none)
  (gO0:PySem.W.nsIn K mainGlobals "ONE"=some (some (.ref aO)))
  (tO:K.lookup aO=some ⟨.type "tuple",odO,.seq #[.int 1 o1,.int 0 o2,.int 0 o3,.int 0 o4,.int 0 o5] nO,slO⟩)
  (gZ0:PySem.W.nsIn K mainGlobals "NOUGHT"=some (some (.ref aZ)))
  (tZ:K.lookup aZ=some ⟨.type "tuple",odZ,.seq #[.int 0 y1,.int 0 y2,.int 0 y3,.int 0 y4,.int 0 y5] nZ,slZ⟩)
  (gN0:PySem.W.nsIn K mainGlobals "NUMBERS_BEHIND"=some (some (.ref aN)))
  (tN:K.lookup aN=some ⟨.type "dict",none,.dict #[⟨PyData.keyHash w.params "flip",.str "flip" a1,.int 1 b1⟩,⟨PyData.keyHash w.params "mix",.str "mix" a2,.int 1 b2⟩,⟨PyData.keyHash w.params "turn",.str "turn" a3,.int 2 b3⟩,⟨PyData.keyHash w.params "if",.str "if" a4,.int 2 b4⟩,⟨PyData.keyHash w.params "pair",.str "pair" a5,.int 2 b5⟩,⟨PyData.keyHash w.params "swap",.str "swap" a6,.int 2 b6⟩,⟨PyData.keyHash w.params "cross",.str "cross" a7,.int 3 b7⟩] nN,#[]⟩)
  (nN0:(aN == sysModules)=false)
  (gM0:PySem.W.nsIn K mainGlobals "MOST_ODD_TURNS"=some (some (.int 6 tM)))
  (aC:PySem.W.nsIn K mainGlobals "NotBorne"=some (some (.ref C)))
  (aD:PySem.W.nsIn K mainGlobals "BoardError"=some (some (.ref D)))
  (zV:PySem.W.nsIn K mainGlobals "ValueError"=some none)
  (ia:InitAt K C fi "NotBorne.__init__" (Z2h (top 11) 0) bm)
  (na:NoAttr K C "place")
  (xD:ExcAt K D bm2)
  (sub:(Value.ref C::bm).contains (.ref D)=true)
  (own:PySem.W.kitOne K (.ref C) (.ref C)=some true)
  (ve:PySem.W.kitOne K (.ref C) (.type "ValueError")=some true)
  (n_NeverSo:PySem.W.nsIn K mainGlobals "NeverSo"=some (some (.ref A_NeverSo)))
  (n_NoAmount:PySem.W.nsIn K mainGlobals "NoAmount"=some (some (.ref A_NoAmount)))
  (n_NoBoard:PySem.W.nsIn K mainGlobals "NoBoard"=some (some (.ref A_NoBoard)))
  (n_NoCell:PySem.W.nsIn K mainGlobals "NoCell"=some (some (.ref A_NoCell)))
  (n_NoMark:PySem.W.nsIn K mainGlobals "NoMark"=some (some (.ref A_NoMark)))
  (n_NoMove:PySem.W.nsIn K mainGlobals "NoMove"=some (some (.ref A_NoMove)))
  (n_NoShare:PySem.W.nsIn K mainGlobals "NoShare"=some (some (.ref A_NoShare)))
  (n_NoTable:PySem.W.nsIn K mainGlobals "NoTable"=some (some (.ref A_NoTable)))
  (n_NoText:PySem.W.nsIn K mainGlobals "NoText"=some (some (.ref A_NoText)))
  (n_Unguarded:PySem.W.nsIn K mainGlobals "Unguarded"=some (some (.ref A_Unguarded)))
  (kA:PySem.W.kitAny K (.ref C) [.ref A_NeverSo,.ref A_NoAmount,.ref A_NoBoard,.ref A_NoCell,.ref A_NoMark,.ref A_NoMove,.ref A_NoShare]=some false)
  (kB:PySem.W.kitAny K (.ref C) [.ref A_NoTable,.ref A_NoText,.ref A_Unguarded]=some false)
  : ∃ fd:FuncData,(∀ (s:U7) (v:W2),BindsTo s fd ⟨[v],[]⟩ [("_law_script",v)])/\∀ base:Heap,K.In base->base.Ns mainGlobals mg->FnOk l.prog w K mg base CX0 9 fa fd ["_law_script"] (spLaw K 63):=by
 have e:=hfa.symm.trans (q1j X G aL)
 cases e
 have F:=X7y (st:=top 83) lL cL kL
 have B:Bs mg:=⟨q1a X G z0,q1a X G z1,q1a X G z2,q1a X G z3,q1a X G z4,q1a X G z5,q1a X G z6,q1a X G z7,q1a X G z8,q1a X G z9,q1a X G z10,q1a X G z11,q1a X G z12,q1a X G z13,q1a X G z14,q1a X G z15,q1a X G z16⟩
 refine⟨PySem.W.fnOf "law" "law" (Z1d (top 83)) (Z0z (top 83)) (Z0h (top 83)) .none kV dc pm an cd ct,λs v=>.of_eq rfl,λbase _ _=>?_⟩
 have gN:=q1j X G gN0
 have DN:KDic K w.params aN NB:=⟨⟨_,_,_,tN,⟨Z,Z,Z⟩,Z,.cons ⟨_,_,Z⟩ (.cons ⟨_,_,Z⟩ (.cons ⟨_,_,Z⟩ (.cons ⟨_,_,Z⟩ (.cons ⟨_,_,Z⟩ (.cons ⟨_,_,Z⟩ (.cons ⟨_,_,Z⟩ .nil))))))⟩,by decide +kernel,nN0⟩
 have c16:=X3t (P:=l.prog) (w:=w) (base:=base) (k:=0) t16 X G B
 have c21:=X3q (P:=l.prog) (w:=w) (base:=base) (k:=0) t21 X G
 have c22:=Y5f t22 X G c16
 have c20:=X3m t20 X G B c21
 have c17:=X3o t17 X G B c16
 have c18:=Y8p t18 X G c17 c20
 have c14:=Y3a (P:=l.prog) (w:=w) (base:=base) (k:=0) t14 X G B
 have c29:=Y3b (P:=l.prog) (w:=w) (base:=base) (k:=0) t29 X G B
 have c36:=Y8n (P:=l.prog) (w:=w) (base:=base) (k:=0) t36 X G B
 have c35:=X3v t35 X G B gN DN c14
 have c34:=Y8r t34 X G B c35 (c36.mono (by decide))
 have c39:=Y2z t39 X G (c22.mono (by decide)) c18 (c17.mono (by decide))
 have c38:=Y8o t38 X G B c39
 have c42:=X3w (P:=l.prog) (w:=w) (base:=base) (k:=0) t42 X G
 have c41:=Y5m t41 X G c36 c42
 have c40:=Y8i t40 X G B c20
 have c37:=Y5d (k:=5) t37 X G B (c34.mono (by decide)) (c29.mono (by decide)) c38 (c40.mono (by decide)) (c41.mono (by decide))
 have c59:=X6s t59 X G B c37
 have c61:=X3x (P:=l.prog) (w:=w) (base:=base) (k:=0) t61 X G B
 have c62:=Y8h (P:=l.prog) (w:=w) (base:=base) (k:=0) t62 X G B
 have c68:=Y8t t68 X G B c62
 have c69:=X3z t69 X G B c68
 have gO:=q1j X G gO0
 have gZ:=q1j X G gZ0
 have kO:=K64.kept5 tO
 have kZ:=K64.kept5 tZ
 have gM:=q1j X G gM0
 have ci:InitCal l.prog w K mg base 2 C bm "place":=K55S.X3s ia na
 have ex:K55S.Exs K mg C D bm bm2:=⟨q1j X G aD,q1a X G zV,q1j X G aC,ci.cls,xD,sub,ci.g,na,ve,own,A_NeverSo,q1j X G n_NeverSo,A_NoAmount,q1j X G n_NoAmount,A_NoBoard,q1j X G n_NoBoard,A_NoCell,q1j X G n_NoCell,A_NoMark,q1j X G n_NoMark,A_NoMove,q1j X G n_NoMove,A_NoShare,q1j X G n_NoShare,A_NoTable,q1j X G n_NoTable,A_NoText,q1j X G n_NoText,A_Unguarded,q1j X G n_Unguarded,kA,kB⟩
 have c19:=Y8j t19 X G B c16 c21
 have c31:=Y5j t31 X G c16
 have c25:=K55S.Y8w (P:=l.prog) (w:=w) (base:=base) (k:=0) t25 X G
 have c47:=K55S.Y8s t47 X G c25
 have c48:=K55S.Y5k (P:=l.prog) (w:=w) (base:=base) (k:=0) t48 X G
 have c49:=K55S.X3y (P:=l.prog) (w:=w) (base:=base) (k:=0) t49 X G
 have c50:=K55S.Y5l t50 X G c25
 have c46:=K55S.Y2y (k:=2) t46 X G (c25.mono (by decide)) (c47.mono (by decide)) (c48.mono (by decide)) (c49.mono (by decide)) (c50.mono (by decide)) (c42.mono (by decide))
 have c45:=K55S.X6t (P:=l.prog) (w:=w) (base:=base) (k:=0) t45 X G
 have c24:=K55S.X3p (P:=l.prog) (w:=w) (base:=base) (k:=0) t24 X G
 have c43:=K55S.X6w (P:=l.prog) (w:=w) (base:=base) (k:=0) t43 X G
 have c56:=K55S.Y8u (k:=3) t56 X G gO kO (c31.mono (by decide)) (c17.mono (by decide)) c18 (c20.mono (by decide)) (c19.mono (by decide))
 have c55:=K55S.Y8v (k:=4) t55 X G (c45.mono (by decide)) c56 (c43.mono (by decide)) (c46.mono (by decide))
 have c54:=K55S.Y5e t54 X G B gM c45
 have c57:=K55S.X3u (k:=2) t57 X G B gZ kZ c20 (c24.mono (by decide)) c17
 have c53:=K55S.X4a (k:=5) t53 X G B gO kO (c54.mono (by decide)) c55 (c57.mono (by decide))
 have x1:=K55S.Y2w (k:=2) t54 X G B (q1j X G aC) gM ci (c45.mono (by decide))
 have x2:=K55S.Y8g t53 X G x1
 have c79:=K55S.Y2x t79 X G B ex x2 (λg=>K55S.Y5c (k:=4) g t62 X G B)
 have c65:=X3n (P:=l.prog) (w:=w) (base:=base) (k:=0) t65 X G B
 have spK:=Y8k (P:=l.prog) (w:=w) (base:=base) (k:=0) t65 X G B
 have c63:=K64.V.ok_cells (P:=l.prog) (w:=w) (base:=base) (k:=0) t63 X G
 have c64:=K64.V.ok_low (P:=l.prog) (w:=w) (base:=base) (k:=0) t64 X G B
 have c66:=K64.V.ok_amtby t66 X G B c64 c65
 have c67:=K64.V.ok_bdby t67 X G B (c61.mono (by decide)) c66
 have c76:=K64.V.ok_far t76 X G B c64
 have c70:=K64.V.ok_markby (P:=l.prog) (w:=w) (base:=base) (k:=0) t70 X G
 have c71:=K64.V.ok_bits (P:=l.prog) (w:=w) (base:=base) (k:=0) t71 X G
 have c73:=Y8q t73 X G B c64
 have c72:=Y5h t72 X G B c64
 have c74:=Y5g (P:=l.prog) (w:=w) (base:=base) (k:=0) t74 X G B
 have c77:=K55S.Y8l t77 X G B c74
 have c78:=K55S.Y8m (P:=l.prog) (w:=w) (base:=base) (k:=0) t78 X G B
 have c75:=K55S.X6u t75 X G B spK c71
 have c80:=K55S.Y5i t80 X G B c62 c64 c71
 have c81:=K55S.Y0i t81 X G B c80
 have c82:=K55S.X3r t82 X G B c75 c73 c72
 exact K55S.X6v (k:=8) (by decide) F B (c61.mono (by decide)) (c63.mono (by decide)) (c70.mono (by decide)) (c71.mono (by decide)) (c67.mono (by decide)) (c76.mono (by decide)) (c77.mono (by decide)) (c78.mono (by decide)) (c79.mono (by decide)) (c53.mono (by decide)) (c81.mono (by decide)) (c75.mono (by decide)) (c59.mono (by decide)) (c82.mono (by decide)) (c69.mono (by decide))
theorem walk {l:PySem.W.OpenLaw}{q:U8}{loose:W0}{XP:(Str->Option Value)->Heap->Prop}{YP:World->Heap->Prop}{d:DefRec}{K:Params->U0}(hn:l.most=some 63)(hdf:d.params.defaults=[])
  (hY:∀ (w:W1) (h:Heap),YP w h->(K w.params).In h)
  (F:∀ (w:W1) (mg:U4) (fa:W9) (h:Heap),(K w.params).In h->h.Ns mainGlobals mg->mg d.name=some (.ref fa) →
   ∃ fd:FuncData,(∀ (s:U7) (u:W2),BindsTo s fd ⟨[u],[]⟩ [("_law_script",u)])/\∀ base:Heap,(K w.params).In base->base.Ns mainGlobals mg->FnOk l.prog w (K w.params) mg base CX0 9 fa fd ["_law_script"] (spLaw (K w.params) 63)) :
  PySem.W.WalkO q loose XP YP l.row.toRowW d [] (λf vs=>PySem.call f vs) :=
 L2.Y2m (n:=63) (k:=9) (x:="_law_script") (CX:=λ_=>CX0) (sp:=λw=>spLaw (K w.params) 63) hn (by decide) hdf ⟨Z,by decide,by decide⟩ hY F (λ_ _ a ns hl lt hS=>⟨a,ns,Z,hS,hl,lt,λ_=>rfl⟩) λ_ _ _ _ _ z=>z
end K64
open PySem.W
set_option maxRecDepth 100000 in
set_option maxHeartbeats 0 in
theorem PySem.Challenge.cw_spinboard_k64_whole_a_mark_ahead_of_a_ro_holds : PySem.Challenge.rw_spinboard_k64_whole_a_mark_ahead_of_a_ro.Holds := by
 refine holds_law K64.Hd.said_ λsaid=>?_
 refine holds_open (q:=K64.Hd.qq) (loose:=K64.Hd.loose) (Xt:=K64.Hd.Xt) (XP:=XL K64.Hd.qq K64.Hd.lv) (Yf:=K64.Hd.HH.obs) (Ya:=K64.Hd.HH.val) (YP:=K64.Hd.HH.says) (d:=⟨"law",L2.Z1d (K64.top 83),L2.Z0z (K64.top 83),L2.Z0h (K64.top 83),K64.Hd.dPos (K64.top 83)⟩) (kwd:=[]) (N:=K64.Hd.NN) K64.Hd.left_ K64.Hd.HH.of K64.Hd.HH.keeps (λs e=>xl_of s (Bool.and_eq_true_iff.mp e).1) XL.keeps (by kernel_rfl) (by kernel_rfl) (by kernel_rfl) (λs e=>recFacts_of (Bool.and_eq_true_iff.mp e).2) (by kernel_rfl) said (by kernel_rfl) ⟨Z,Z,Z,Z,Z,by decide +kernel⟩ ?hw ?hc
 case hw=>w_witness2
 refine K64.walk (l:=PySem.Challenge.rw_spinboard_k64_whole_a_mark_ahead_of_a_ro) rfl rfl (λw h Y=>PySem.W.kIn_of Y) ?F
 case F =>
  intro w mg fa h KX G hmg
  refine' K64.X8p (K:=K64.Hd.KK w.params) (f:=544) (C:=159) (D:=24) (fi:=156) (aN:=263) (aO:=248) (aZ:=247) (A_NeverSo:=109) (A_NoAmount:=49) (A_NoBoard:=73) (A_NoCell:=97) (A_NoMark:=61) (A_NoMove:=85) (A_NoShare:=37) (A_NoTable:=121) (A_NoText:=140) (A_Unguarded:=178) (tM:=686) KX G hmg ?aL (K64.Hd.k544 _) ?cL ?kL (K64.Hd.f14 _) (K64.Hd.f16 _) (K64.Hd.f17 _) (K64.Hd.f18 _) (K64.Hd.f19 _) (K64.Hd.f20 _) (K64.Hd.f21 _) (K64.Hd.f22 _) (K64.Hd.f24 _) (K64.Hd.f25 _) (K64.Hd.f29 _) (K64.Hd.f31 _) (K64.Hd.f34 _) (K64.Hd.f35 _) (K64.Hd.f36 _) (K64.Hd.f37 _) (K64.Hd.f38 _) (K64.Hd.f39 _) (K64.Hd.f40 _) (K64.Hd.f41 _) (K64.Hd.f42 _) (K64.Hd.f43 _) (K64.Hd.f45 _) (K64.Hd.f46 _) (K64.Hd.f47 _) (K64.Hd.f48 _) (K64.Hd.f49 _) (K64.Hd.f50 _) (K64.Hd.f53 _) (K64.Hd.f54 _) (K64.Hd.f55 _) (K64.Hd.f56 _) (K64.Hd.f57 _) (K64.Hd.f59 _) (K64.Hd.f61 _) (K64.Hd.f62 _) (K64.Hd.f63 _) (K64.Hd.f64 _) (K64.Hd.f65 _) (K64.Hd.f66 _) (K64.Hd.f67 _) (K64.Hd.f68 _) (K64.Hd.f69 _) (K64.Hd.f70 _) (K64.Hd.f71 _) (K64.Hd.f72 _) (K64.Hd.f73 _) (K64.Hd.f74 _) (K64.Hd.f75 _) (K64.Hd.f76 _) (K64.Hd.f77 _) (K64.Hd.f78 _) (K64.Hd.f79 _) (K64.Hd.f80 _) (K64.Hd.f81 _) (K64.Hd.f82 _) ?z0 ?z1 ?z2 ?z3 ?z4 ?z5 ?z6 ?z7 ?z8 ?z9 ?z10 ?z11 ?z12 ?z13 ?z14 ?z15 ?z16 ?gO0 ?tO ?gZ0 ?tZ ?gN0 ?tN ?nN0 ?gM0 ?aC ?aD ?zV (L2.initAt ?i1 ?i2 ?i3 ?i4 ?i5 ?i6 ?i7 ?i8 ?i9 ⟨?e1,?e2,?e3,?e4,?e5,?e6,?e7⟩) ?na (L2.excAt ?xd1 ?xd2 ?xd3 ?xd4) ?sub ?own ?ve ?n_NeverSo ?n_NoAmount ?n_NoBoard ?n_NoCell ?n_NoMark ?n_NoMove ?n_NoShare ?n_NoTable ?n_NoText ?n_Unguarded ?kA ?kB
  (case aL=>kernel_rfl);(case cL=>kernel_rfl);(case kL=>kernel_rfl)
  (case z0=>kernel_rfl);(case z1=>kernel_rfl);(case z2=>kernel_rfl);(case z3=>kernel_rfl);(case z4=>kernel_rfl);(case z5=>kernel_rfl);(case z6=>kernel_rfl);(case z7=>kernel_rfl);(case z8=>kernel_rfl);(case z9=>kernel_rfl);(case z10=>kernel_rfl);(case z11=>kernel_rfl);(case z12=>kernel_rfl);(case z13=>kernel_rfl);(case z14=>kernel_rfl);(case z15=>kernel_rfl);(case z16=>kernel_rfl)
  (case gN0=>kernel_rfl);(case tN=>exact K64.Hd.k263 _);(case nN0=>decide);(case gM0=>kernel_rfl);(case gO0=>kernel_rfl);(case tO=>exact K64.Hd.k248 _);(case gZ0=>kernel_rfl);(case tZ=>exact K64.Hd.k247 _)
  (case aC=>kernel_rfl);(case aD=>kernel_rfl);(case zV=>kernel_rfl)
  (case i1=>exact K64.Hd.k159 _);(case i2=>kernel_rfl);(case i3=>kernel_rfl);(case i4=>kernel_rfl)
  (case i5=>exact K64.Hd.k156 _);(case i6=>kernel_rfl);(case i7=>kernel_rfl);(case i8=>kernel_rfl);(case i9=>kernel_rfl)
  (case e1=>kernel_rfl);(case e2=>kernel_rfl);(case e3=>(intro od;kernel_rfl));(case e4=>kernel_rfl);(case e5=>kernel_rfl);(case e6=>kernel_rfl);(case e7=>kernel_rfl)
  (case na=>(unfold L2.NoAttr;kernel_rfl))
  (case xd1=>exact K64.Hd.k24 _);(case xd2=>kernel_rfl);(case xd3=>kernel_rfl);(case xd4=>kernel_rfl)
  (case sub=>kernel_rfl)
  (case own=>kernel_rfl);(case ve=>kernel_rfl)
  (case n_NeverSo=>kernel_rfl)
  (case n_NoAmount=>kernel_rfl)
  (case n_NoBoard=>kernel_rfl)
  (case n_NoCell=>kernel_rfl)
  (case n_NoMark=>kernel_rfl)
  (case n_NoMove=>kernel_rfl)
  (case n_NoShare=>kernel_rfl)
  (case n_NoTable=>kernel_rfl)
  (case n_NoText=>kernel_rfl)
  (case n_Unguarded=>kernel_rfl)
  (case kA=>kernel_rfl);(case kB=>kernel_rfl)
