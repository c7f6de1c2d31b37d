import PyProof.Rows.All
import Wide.All
import OpenK.AllK
import Wide.FinOn
import Lean
import PyProof.EqAt
import PyProof.EqKinds
import PyProof.TupleCall
import PyProof.Rows.BitMore
import PyProof.ConsumeWalk
import PyProof.Rows.SetFrom
import PyProof.WalksMore
import PyProof.FactsAll.subtypes_4
import PyProof.Rows.SortWalk
import PyProof.Rows.TupDisplay
import PyProof.EnumMake
import PyProof.Rows.EnumRows
import PyProof.SumAny
import PyProof.Rows.MinMaxN
import PyProof.StrLawsIdx
import PyProof.StationsW
import PyProof.ExcClass3
import PyProof.ExcBaseAll.ValueError
import PyProof.RulesAs
import PyProof.ExcArgsOwn
import PyProof.ExcAttrAll.ValueError
import PyProof.InstStoreFacts
import PyProof.ExcClass2
import PyProof.ExcInit
import PyProof.NsDelKeeps
import PyProof.Seq
import PyProof.Walks
import PySem.Challenge.RW_spinboard_k76_laid
noncomputable section
open PySem PySem.Spec PyProof.Rows
theorem U {α:Sort u}{a:α}:a=a:=rfl
abbrev U0:=PySem.W.Frag
abbrev U1:=List (Addr × Obj)
abbrev U2:=Value->Shared->Prop
abbrev U3:=List Addr
abbrev U4:=Str->Option Value
abbrev U5:=List Value
abbrev U6:=List Int
abbrev U7:=Shared
abbrev U8:=Program
abbrev U9:=Array Value
abbrev W0:=List Str
abbrev W1:=World
abbrev W2:=Value
abbrev W3:=List Nat
abbrev W4:=Array (Option Value)
abbrev W5:=Option Addr
abbrev W6:=Around
abbrev W7:=List (Option Nat)
abbrev W8:=List Stmt
abbrev W9:=Addr
noncomputable abbrev Ng (h:Heap)(m:Str->Option Value):=h.Ns mainGlobals m
set_option linter.all false
section
open PySem.W
def q0a:=@List.length_map
def q0b:=@List.getD_eq_getElem?_getD
def q0c:=@wpAny_bind
def q0d:=@List.getElem?_eq_getElem
def q0e:=@Heap.get?_push_of_some
def q0f:=@Nat.lt_of_lt_of_le
def q0g:=@List.getElem?_map
def q0h:=@Heap.lt_size
def q0i:=@List.map_append
def q0j:=@List.length_append
def q0k:=@decide_eq_false
def q0l:=@Nat.le_refl
def q0m:=@wpAny_pure
def q0n:=@Heap.get?_push_size
def q0o:=@List.getElem?_eq_some_iff
def q0p:=@Option.map_eq_some_iff
def q0q:=@decide_eq_true
def q0r:=@List.size_toArray
def q0s:=@List.mem_cons
def q0t:=@Nat.ne_of_lt
def q0u:=@Bool.and_eq_true
def q0v:=@Nat.pow_le_pow_right
def q0w:=@Nat.two_pow_pos
def q0x:=@Int.toNat_natCast
def q0y:=@Bool.false_ne_true
def q0z:=@Nat.mod_two_eq_zero_or_one
def q1a:=@List.mem_singleton
def q1b:=@Nat.le_trans
def q1c:=@List.mem_range
def q1d:=@Nat.testBit_xor
def q1e:=@List.all_eq_true
def q1f:=@decide_eq_true_eq
def q1g:=@List.mem_of_getElem?
def q1h:=@List.mem_append_right
def q1i:=@List.not_mem_nil
def q1j:=@PySem.W.mg_none_of
def q1k:=@PySem.boot_len
def q1l:=@boot_isinstance
def q1m:=@PySem.F.slot_int_bit_length
def q1n:=@List.mem_append
def q1o:=@Nat.zero_le
def q1p:=@Nat.pow_lt_pow_right
def q1q:=@List.length_take
def q1r:=@PySem.F.type_int_bit_length
def q1s:=@List.take_add_one
def q1t:=@of_decide_eq_true
def q1u:=@Option.toList_some
def q1v:=@List.map_cons
def q1w:=@Nat.eq_of_testBit_eq
def q1x:=@List.mem_cons_of_mem
def q1y:=@wpAny_mono
def q1z:=@Nat.xor_assoc
def q2a:=@Nat.testBit_two_pow
def q2b:=@Nat.testBit_eq_decide_div_mod_eq
def q2c:=@PySem.F.plainAttrs_int
def q2d:=@List.mem_append_left
def q2e:=@List.take_length
def q2f:=@Nat.testBit_and
def q2g:=@List.length_singleton
def q2h:=@Array.length_toList
def q2i:=@List.length_cons
def q2j:=@wpAny_newObj_type
def q2k:=@List.mem_map
def q2l:=@Nat.xor_lt_two_pow
def q2m:=@List.mem_cons_self
def q2n:=@PySem.W.kia_one
def q2o:=@List.append_nil
def q2p:=@PySem.W.mg_of
def q2q:=@Nat.pow_succ'
def q2r:=@Nat.mod_lt
def q2s:=@List.getElem?_append_right
def q2t:=@Nat.lt_of_le_of_lt
def q2u:=@Bool.false_eq_true
def q2v:=@List.getElem?_append_left
def q2w:=@Heap.size_push
def q2x:=@Bool.or_eq_true
def q2y:=@Nat.mod_eq_of_lt
def q2z:=@wpAny_truthy_bool
def q3a:=@Nat.zero_testBit
def q3b:=@Nat.lt_succ_self
def q3c:=@or_false
def q3d:=@Int.fdiv_eq_ediv_of_nonneg
def q3e:=@Heap.get?_update_other
def q3f:=@PySem.mem_of_lookup
def q3g:=@Nat.add_zero
def q3h:=@Heap.get?_update_self
def q3i:=@List.filter_append
def q3j:=@List.any_eq_true
def q3k:=@List.mem_iff_getElem
def q3l:=@PySem.F.plainAttrs_list
def q3m:=@Nat.lt_irrefl
def q3n:=@Nat.pow_succ
def q3o:=@Nat.ne_of_gt
def q3p:=@Nat.lt_succ_of_lt
def q3q:=@List.append_assoc
def q3r:=@wpAny_field
def q3s:=@Int.eq_of_mul_eq_mul_right
def q3t:=@Nat.div_eq_of_lt
def q3u:=@of_decide_eq_false
def q3v:=@Nat.xor_self
def q3w:=@List.map_map
def q3x:=@Int.zero_add
def q3y:=@Bool.false_and
def q3z:=@if_false
def q4a:=@wpAny_passesOwn
def q4b:=@wpAny_comprehension_free
def q4c:=@segRun_of
def q4d:=@piece_app
def q4e:=@Nat.and_xor_distrib_left
def q4f:=@Nat.zero_add
def q4g:=@Nat.xor_comm
def q4h:=@Nat.and_comm
def q4i:=@wpAny_callSpecial?_slot
def q4j:=@wpAny_typeNameOfWhole_keyiter
def q4k:=@wpAny_call_entry
def q4l:=@List.getElem_mem
def q4m:=@wpAny_setField
def q4n:=@Nat.testBit_shiftRight
def q4p:=@Int.natAbs_natCast
def q4q:=@List.range_succ
def q4r:=@List.nodup_cons
def q4s:=@List.find?_cons
def q4t:=@Bool.eq_iff_iff
def q4u:=@Array.getElem?_toList
def q4v:=@wpAny_holding
def q4w:=@List.foldl_append
def q4x:=@Bool.false_or
def q4y:=@PySem.F.excBase_ValueError
def q5a:=@Nat.and_xor_distrib_right
def q5b:=@List.take_zero
def q5c:=@decide_eq_decide
def q5d:=@List.lookup_cons
def q5e:=@List.length_drop
def q5f:=@List.map_congr_left
def q5g:=@wpAny_typeNameOf_keyiter
def q5h:=@codeAny_mono
def q5i:=@PySem.F.type_list_append
def q5j:=@PySem.F.slot_list_append
def q5k:=@Option.isSome_iff_exists
def q5l:=@Nat.lt_trans
def q5m:=@wpAny_pyIter_tuple
def q5n:=@wpAny_execs_nil
def q5o:=@wpAny_Call_Name_kw
def q5p:=@tupleKind_room_in1
def q5q:=@if_true
def q5r:=@Nat.not_lt_zero
def q5s:=@List.any_cons
def q5t:=@Int.emod_nonneg
def q5u:=@Int.emod_lt_of_pos
def q5v:=@List.take_of_length_le
def q5w:=@List.getElem?_set_self
def q5x:=@wpAny_pyIter_list
def q5y:=@List.length_range
def q5z:=@wpAny_seqItems
def q6a:=@wpAny_isOneOf_keyiter
def q6b:=@List.length_filter_le
def q6c:=@List.getElem?_reverse
def q6d:=@Nat.le_add_right
def q6e:=@List.mem_of_mem_take
def q6f:=@List.getElem?_set_ne
def q6g:=@Bool.true_and
def q6h:=@Option.map_some
def q6i:=@Nat.pow_add
def q6j:=@Nat.min_eq_left
def q6k:=@Nat.log2_lt
def q6l:=@List.length_reverse
def q6m:=@List.filterMap_cons
def q6n:=@Array.getElem?_eq_some_iff
def q6o:=@boot_all
def q6p:=@Nat.and_one_is_mod
def q6q:=@List.getElem?_take
def q6r:=@List.all_map
def q6s:=@Int.pow_succ
def q6t:=@Int.ne_of_gt
def q6u:=@PySem.F.slot_dict_getitem
def q6v:=@Nat.shiftRight_eq_div_pow
def q6w:=@wpAny_assign_Name
def q6x:=@boot_list
def q6y:=@PySem.F.type_list_extend
def q6z:=@PySem.F.slot_list_extend
def q7a:=@Option.isSome_map
def q7b:=@List.flatMap_cons
def q7c:=@Int.mul_ediv_cancel_left
def q7d:=@wpAny_standAt
def q7e:=@wpAny_attempt
def q7f:=@bitNot_bitNot
def q7g:=@PySem.W.canLayAll0_ints
def q7h:=@PySem.F.plain_list_iadd
def q7i:=@PySem.F.attr_ValueError
def q7j:=@Nat.one_mul
def q7k:=@List.take_nil
def q7l:=@List.getElem?_replicate
def q7m:=@Int.mul_assoc
def q7n:=@wpAny_execs_cons
def q7o:=@subscriptTail_builtinR
def q7p:=@codeAny_compStart_list
def q7q:=@PySem.W.cellsFrom_some
def q7r:=@Nat.testBit_lt_two_pow
def q7s:=@Nat.div_div_eq_div_mul
def q7t:=@Array.getElem?_eq_none
def q7u:=@wpAny_isTrue_Compare1
def q7v:=@exec_Assign_Name_used
def q7w:=@codeAny_builtin
def q7x:=@PySem.W.depthAll_ints
def q7y:=@Nat.sub_self
def q7z:=@Nat.le_of_lt
def q8a:=@Nat.add_comm
def q8b:=@List.sum_append
def q8c:=@List.of_mem_zip
def q8d:=@List.mem_filter
def q8e:=@Int.emod_two_eq
def q8f:=@wpAny_call
def q8g:=@Nat.mul_le_mul
def q8h:=@Nat.mod_one
def q8i:=@Int.pow_pos
def q8j:=@Int.one_mul
def q8k:=@Nat.add_assoc
def q8l:=@List.map_take
def q8m:=@List.all_cons
def q8n:=@boot_tuple
def q8o:=@beq_iff_eq
def q8p:=@wpAny_typeOf
def q8q:=@Nat.zero_mul
def q8r:=@Nat.zero_and
def q8s:=@Nat.xor_zero
def q8t:=@Nat.pow_zero
def q8u:=@Nat.mul_zero
def q8v:=@Nat.lt_or_ge
def q8w:=@Nat.and_zero
def q8x:=@List.map_nil
def q8y:=@boot_bool
end
set_option Elab.async false
set_option maxRecDepth 100000
namespace L2
abbrev Key:=Sum Int Str
noncomputable def keyIs:Key->Value->Bool
 | .inl k,v=>Value.isInt k v
 | .inr x,v=>Value.isStrOf x v
noncomputable def keyH (w:W1):Key->Int
 | .inl k=>hashInt k
 | .inr x=>hashStr w x
theorem Z1n:∀ {k:Key}{v:W2},keyIs k v=true->(∃ i t,k=Sum.inl i/\v=Value.int i t)∨(∃ x t,k=Sum.inr x/\v=Value.str x t)
 | .inl i,v,h=>by
  obtain⟨t,e⟩:=Value.isInt_shape (k:=i) (v:=v) h
  exact .inl ⟨i,t,U,e⟩
 | .inr x,v,h=>by
  obtain⟨t,e⟩:=Value.isStrOf_shape (x:=x) (v:=v) h
  exact .inr ⟨x,t,U,e⟩
theorem Y8a (i:Int)(t:Tok):keyIs (.inl i) (.int i t)=true:=by simp[keyIs,Value.isInt]
theorem Z7i (x:Str)(t:Tok):keyIs (.inr x) (.str x t)=true:=by simp[keyIs,Value.isStrOf]
theorem X9w (a b:Int):decide ((Sum.inl a:Key)=Sum.inl b)=(a == b):=by
 by_cases e:a=b
 ·subst e;simp
 ·have h:¬ (Sum.inl a:Key)=Sum.inl b:=λq=>e (Sum.inl.inj q)
  rw[q0k h]
  exact(beq_eq_false_iff_ne.mpr e).symm
theorem X9t (a b:Str):decide ((Sum.inr a:Key)=Sum.inr b)=decide (a=b):=by
 by_cases e:a=b
 ·subst e;simp
 ·have h:¬ (Sum.inr a:Key)=Sum.inr b:=λq=>e (Sum.inr.inj q)
  rw[q0k h,q0k e]
theorem X9v (a:Int)(b:Str):decide ((Sum.inl a:Key)=Sum.inr b)=false:=q0k (λq=>nomatch q)
theorem X9u (a:Str)(b:Int):decide ((Sum.inr a:Key)=Sum.inl b)=false:=q0k (λq=>nomatch q)
noncomputable def Z1q (prog:U8)(w:W1):PySem.KeyKind prog w Key where
 is:=keyIs
 hash:=keyH w
 inj:=λv a b ha hb=>by
  rcases Z1n ha with ⟨i,t,rfl,rfl⟩ | ⟨x,t,rfl,rfl⟩
  ·rcases Z1n hb with ⟨j,u,rfl,e⟩ | ⟨y,u,rfl,e⟩
   ·injection e with e1 _;rw[e1]
   ·exact nomatch e
  ·rcases Z1n hb with ⟨j,u,rfl,e⟩ | ⟨y,u,rfl,e⟩
   ·exact nomatch e
   ·injection e with e1 _;rw[e1]
 byValue:=λk v h=>by
  rcases Z1n h with ⟨i,t,rfl,rfl⟩ | ⟨x,t,rfl,rfl⟩<;>rfl
 pyHash:=λhv h=>by
  rcases Z1n hv with ⟨i,t,rfl,rfl⟩ | ⟨x,t,rfl,rfl⟩
  ·exact wpAny_pyHash_int h
  ·exact wpAny_pyHash_str h
 eqBool:=λhu hv h=>by
  rcases Z1n hu with ⟨i,t,rfl,rfl⟩ | ⟨x,t,rfl,rfl⟩
  ·rcases Z1n hv with ⟨j,u,rfl,rfl⟩ | ⟨y,u,rfl,rfl⟩
   ·rw[X9w] at h;exact wpAny_eqBool_int h
   ·rw[X9v] at h;exact SeqAt.EqAt.int_str i t y u _ _ _ _ h
  ·rcases Z1n hv with ⟨j,u,rfl,rfl⟩ | ⟨y,u,rfl,rfl⟩
   ·rw[X9u] at h;exact SeqAt.EqAt.str_int x t j u _ _ _ _ h
   ·rw[X9t] at h;exact wpAny_eqBool_str h
 «strs»:=λk x t v h=>by
  rcases Z1n h with ⟨i,u,rfl,e⟩ | ⟨y,u,rfl,e⟩
  ·exact nomatch e
  ·injection e with e1 _
   subst e1
   cases v<;>rfl
theorem Y1p (prog:U8)(w:W1)(i:Int)(t:Tok):(Z1q prog w).is (.inl i) (.int i t)=true:=Y8a i t
theorem Y1o (prog:U8)(w:W1)(x:Str)(t:Tok):(Z1q prog w).is (.inr x) (.str x t)=true:=Z7i x t
inductive V where
 | non | bl (b:Bool) | int (i:Int) | str (x:Str) | byt (b:Array UInt8) | flt (b:UInt64) | ref (a:W9) | ty (n:String)
 deriving DecidableEq
def RelV:V->Value->Prop
 | .non,u=>u=Value.none
 | .bl b,u=>u=Value.bool b
 | .int i,u=>∃ t,u=Value.int i t
 | .str x,u=>∃ t,u=Value.str x t
 | .byt b,u=>∃ t,u=Value.bytes b t
 | .flt b,u=>∃ t,u=Value.float b t
 | .ref a,u=>u=Value.ref a
 | .ty n,u=>u=Value.type n
abbrev Vals:List V->List Value->Prop:=Paired RelV
theorem Vals.length {xs:List V}{us:U5}(r:Vals xs us):xs.length=us.length:=Paired.length r
theorem Vals.get:∀ {xs:List V}{us:U5}{i:Nat}{x:V},Vals xs us->xs[i]?=some x->∃ u,us[i]?=some u/\RelV x u
 | _,_,_,_,.nil,e=>by simp at e
 | _,_,0,_,.cons r _,e=>by simp at e;subst e;exact⟨_,rfl,r⟩
 | _,_,i+1,x,.cons _ t,e=>by
  obtain⟨u,h1,h2⟩:=Vals.get (i:=i) (x:=x) t (by simpa using e)
  exact⟨u,by simpa using h1,h2⟩
theorem Vals.append:∀ {xs ys:List V}{us ws:U5},Vals xs us->Vals ys ws->Vals (xs++ys) (us++ws)
 | _,_,_,_,.nil,s=>s
 | _,_,_,_,.cons r t,s=>.cons r (Vals.append t s)
theorem Vals.take:∀ {xs:List V}{us:U5} (n:Nat),Vals xs us->Vals (xs.take n) (us.take n)
 | _,_,0,_=>.nil
 | _,_,_+1,.nil=>.nil
 | _,_,n+1,.cons r t=>.cons r (Vals.take n t)
theorem Vals.drop:∀ {xs:List V}{us:U5} (n:Nat),Vals xs us->Vals (xs.drop n) (us.drop n)
 | _,_,0,r=>r
 | _,_,_+1,.nil=>.nil
 | _,_,n+1,.cons _ t=>Vals.drop n t
def RelO:Option V->Option Value->Prop
 | some v,some u=>RelV v u
 | none,none=>True
 | _,_=>False
def KV {κ:Type}:List (κ × V)->List (κ × Value)->Prop:=Paired λ(p:κ × V) (q:κ × Value)=>p.1=q.1/\RelV p.2 q.2
noncomputable def kV:Key->V
 | .inl i=>.int i
 | .inr x=>.str x
inductive HO where
 | lst (xs:List V)
 | tup (xs:List V)
 | dK (kvs:List (Key × V)) | dT (kvs:List (List Key × V))
 | set (S:Int->Bool) (n:Nat)
 | ins (C dx:W9) (fs:List (Str × V))
 | own (x:W9)
 | xd (fs:List (Str × V))
 | met (f x:W9)
 | rng (lo hi:Int)
 | frz (o:Obj) (u:HO)
 | tbl (ps:U9)
 | ext (φ:Heap->Prop)
abbrev Hp:=Addr->Option HO
noncomputable def upd (H:Hp)(a:W9)(o:HO):Hp:=λb=>if b=a then some o else H b
theorem Z0d {H:Hp}{a:W9}{o:HO}:upd H a o a=some o:=by unfold upd;rw[if_pos rfl]
theorem Z0u {H:Hp}{a b:W9}{o:HO}(h:b≠a):upd H a o b=H b:=by unfold upd;rw[if_neg h]
theorem Z5f {H:Hp}{a b:W9}{o u:HO}(h:H a=some o)(h':H b=some u)(d:o≠u):a≠b:=by
 intro e;subst e;rw[h] at h';exact d (Option.some.inj h')
theorem Z1s {H:Hp}{a b:W9}{o:HO}(h:H a=some o)(h':H b=none):a≠b:=by
 intro e;subst e;rw[h] at h';cases h'
section
variable (P:U8) (w:W1)
def ObjOk (H:Hp)(h:Heap)(a:W9):HO->Prop
 | .lst xs=>xs.length<=sizeLine/\∃ (its:U5) (n:Nat),Vals xs its/\h.get? a=some { cls:=.type "list",data:=.seq its.toArray n }
 | .tup xs=>xs.length<=sizeLine/\∃ its:List Value,Vals xs its/\IsTup h a its.toArray
 | .dK kvs=>kvs.length<=sizeLine/\(a == sysModules)=false/\∃ vs,KV kvs vs/\h.DictOf (Z1q P w) a vs
 | .dT kvs=>kvs.length<=sizeLine/\(a == sysModules)=false/\∃ xs:List (List Key × Addr × Value),
   Paired (λ(p:List Key × V) (q:List Key × Addr × Value)=>p.1=q.1/\H q.2.1=some (.tup (p.1.map kV))/\RelV p.2 q.2.2) kvs xs ∧
   ∃ o es ep,h.get? a=some o/\o.ExactDict/\o.data=.dict es ep/\es.toList=xs.map (entryOfKey (tupleKind (Z1q P w)))/\(xs.map (·.1)).Nodup
 | .set S n=>h.SetOf (intKind P w) a S n
 | .ins C dx fs=>H dx=some (.own a)/\fs.length<=1000/\dx≠a/\h.get? a=some (PySem.W.instObj C dx) ∧
   ∃ mA,h.Ns1 dx mA/\(∀ f,RelO (fs.lookup f) (mA f))/\PySem.Within mA (fs.map (·.1))
 | .own _=>∃ o,h.get? a=some o
 | .xd fs=>∃ mA,h.Ns1 a mA/\∀ f,RelO (fs.lookup f) (mA f)
 | .rng lo hi=>∃ t u v,h.get? a=some { cls:=.type "range",data:=.fields #[.int lo t,.int hi u,.int 1 v] }
 | .frz o u=>h.get? a=some o/\ObjOk H h a u
 | .tbl ps=>h.get? a=some { cls:=.none,data:=.fields ps }
 | .met f x=>h.get? a=some (PySem.W.methodObj (.ref f) (.ref x))
 | .ext φ=>φ h/\(∃ o,h.get? a=some o)/\∀ h1 h2:Heap,φ h1->(∀ o,h1.get? a=some o->h2.get? a=some o)->φ h2
def HOk (H:Hp)(h:Heap):Prop:=∀ a o,H a=some o->ObjOk P w H h a o
end
section
variable {P:U8}{w:W1}{H H':Hp}{h h':Heap}{a:W9}{o:HO}
theorem ObjOk.lt (x:ObjOk P w H h a o):a<h.objs.size:=by
 cases o with
 | lst xs=>obtain⟨_,_,_,_,e⟩:=x;exact q0h e
 | tup xs=>obtain⟨_,_,_,p⟩:=x;exact p.lt
 | dK kvs=>obtain⟨_,_,_,_,o,_,_,e,_⟩:=x;exact q0h e
 | dT kvs=>obtain⟨_,_,_,_,o,_,_,e,_⟩:=x;exact q0h e
 | set S n=>obtain⟨o,_,_,_,e,_⟩:=x;exact q0h e
 | ins C dx fs=>obtain⟨_,_,_,e,_⟩:=x;exact q0h e
 | own y=>obtain⟨_,e⟩:=x;exact q0h e
 | xd fs=>obtain⟨_,⟨_,_,_,e,_⟩,_⟩:=x;exact q0h e
 | rng lo hi=>obtain⟨_,_,_,e⟩:=x;exact q0h e
 | frz ob u=>obtain⟨e,_⟩:=x;exact q0h e
 | tbl ps=>exact q0h (show h.get? a=some _ from x)
 | met f y=>exact q0h (show h.get? a=some _ from x)
 | ext φ=>obtain⟨_,⟨_,e⟩,_⟩:=x;exact q0h e
theorem Paired.mapP {α β:Type}{F G:α->β->Prop}:∀ {l₁:List α}{l₂:List β},Paired F l₁ l₂->(∀ a b,F a b->G a b)->Paired G l₁ l₂
 | _,_,.nil,_=>.nil
 | _,_,.cons r t,f=>.cons (f _ _ r) (Paired.mapP t f)
theorem Paired.imp' {α β:Type}{F G:α->β->Prop}(f:∀ a b,F a b->G a b){l₁:List α}{l₂:List β}(r:Paired F l₁ l₂):Paired G l₁ l₂:=Paired.mapP r f
theorem ObjOk.stay (x:ObjOk P w H h a o)(k:∀ b u,(b=a∨H b=some (.own a))->h.get? b=some u->h'.get? b=some u)
  (ho:∀ b,H b=some (.own a)->H' b=some (.own a)) (ht:∀ b xs,H b=some (.tup xs)->H' b=some (.tup xs)):ObjOk P w H' h' a o:=by
 induction o with
 | lst xs=>obtain⟨z,its,n,r,e⟩:=x;exact⟨z,its,n,r,k _ _ (.inl rfl) e⟩
 | tup xs=>obtain⟨z,its,r,ob,e,c⟩:=x;exact⟨z,its,r,ob,k _ _ (.inl rfl) e,c⟩
 | dK kvs=>obtain⟨z,y,vs,r,ob,es,ep,e,c⟩:=x;exact⟨z,y,vs,r,ob,es,ep,k _ _ (.inl rfl) e,c⟩
 | dT kvs =>
  obtain⟨z,y,xs,r,ob,es,ep,e,c⟩:=x
  exact⟨z,y,xs,Paired.mapP r λp q z=>⟨z.1,ht _ _ z.2.1,z.2.2⟩,ob,es,ep,k _ _ (.inl rfl) e,c⟩
 | set S n=>obtain⟨ob,es,ep,t,e,c⟩:=x;exact⟨ob,es,ep,t,k _ _ (.inl rfl) e,c⟩
 | ins C dx fs =>
  obtain⟨d,z,ne,e,mA,⟨od,es,ep,e2,c⟩,r⟩:=x
  exact⟨ho _ d,z,ne,k _ _ (.inl rfl) e,mA,⟨od,es,ep,k _ _ (.inr d) e2,c⟩,r⟩
 | own y=>obtain⟨ob,e⟩:=x;exact⟨ob,k _ _ (.inl rfl) e⟩
 | xd fs=>obtain⟨mA,⟨od,es,ep,e,c⟩,r⟩:=x;exact⟨mA,⟨od,es,ep,k _ _ (.inl rfl) e,c⟩,r⟩
 | rng lo hi=>obtain⟨t,u,v,e⟩:=x;exact⟨t,u,v,k _ _ (.inl rfl) e⟩
 | frz ob u ih=>obtain⟨e,q⟩:=x;exact⟨k _ _ (.inl rfl) e,ih q⟩
 | tbl ps =>
  have e:h.get? a=some { cls:=.none,data:=.fields ps }:=x
  show h'.get? a=some { cls:=.none,data:=.fields ps }
  exact k a _ (.inl rfl) e
 | met f y =>
  have e:h.get? a=some (PySem.W.methodObj (.ref f) (.ref y)):=x
  show h'.get? a=some (PySem.W.methodObj (.ref f) (.ref y))
  exact k a _ (.inl rfl) e
 | ext φ=>obtain⟨p,⟨o,e⟩,st⟩:=x;exact⟨st _ _ p λo q=>k _ _ (.inl rfl) q,⟨o,k _ _ (.inl rfl) e⟩,st⟩
theorem HOk.lt (x:HOk P w H h)(e:H a=some o):a<h.objs.size:=(x a o e).lt
theorem HOk.fresh (x:HOk P w H h)(e:h.objs.size<=a):H a=none:=by
 cases q:H a with
 | none=>rfl
 | some u=>exact absurd (q0f (x.lt q) e) (q3m _)
theorem HOk.kept (x:HOk P w H h)(k:∀ b u,h.get? b=some u->h'.get? b=some u):HOk P w H h':=λa o e =>
 (x a o e).stay (λb u _ q=>k b u q) (λ_ q=>q) λ_ _ q=>q
theorem HOk.laid (x:HOk P w H h)(k:∀ b u,h.get? b=some u->h'.get? b=some u)(hp:h.objs.size<=a)(new:ObjOk P w (upd H a o) h' a o):HOk P w (upd H a o) h':=λb u e=>by
 have hn:=x.fresh hp
 by_cases hb:b=a
 ·subst hb;rw[Z0d] at e;cases e;exact new
 ·rw[Z0u hb] at e
  exact(x b u e).stay (λc v _ q=>k c v q) (λc q=>by rw[Z0u (Z1s q hn)];exact q) λc xs q=>by rw[Z0u (Z1s q hn)];exact q
end
def Rd (H:Hp)(a:W9)(u:HO):Prop:=H a=some u∨∃ o,H a=some (.frz o u)
theorem Rd.ok {P:U8}{w:W1}{H:Hp}{h:Heap}{a:W9}{u:HO}(r:Rd H a u)(x:HOk P w H h):ObjOk P w H h a u:=by
 rcases r with r | ⟨o,r⟩
 ·exact x a u r
 ·obtain⟨_,q⟩:=x a _ r
  exact q
def Mut:Option HO->Prop
 | some (.lst _)=>True
 | some (.dK _)=>True
 | some (.dT _)=>True
 | some (.set _ _)=>True
 | some (.ins _ _ _)=>True
 | some (.ext _)=>True
 | _=>False
section
variable {P:U8}{w:W1}{H:Hp}{h h':Heap}{x e:W9}{o':HO}
theorem HOk.write (ok:HOk P w H h)(mu:Mut (H x))(he:e=x∨H e=some (.own x))(k:∀ b u,b≠e->h.get? b=some u->h'.get? b=some u)(heo:∃ u,h'.get? e=some u)
  (new:ObjOk P w (upd H x o') h' x o'):HOk P w (upd H x o') h':=λb u q=>by
 have nown:∀ c y,H c=some (.own y)->c≠x:=λc y r z=>by subst z;rw[r] at mu;exact mu
 have ntup:∀ c xs,H c=some (.tup xs)->c≠x:=λc xs r z=>by subst z;rw[r] at mu;exact mu
 by_cases hb:b=x
 ·subst hb;rw[Z0d] at q;cases q;exact new
 ·rw[Z0u hb] at q
  by_cases hbe:b=e
  ·have q':H b=some (.own x):=by
    rcases he with z | z
    ·exact absurd (hbe.trans z) hb
    ·rw[hbe];exact z
   rw[q] at q';cases q'
   obtain⟨v,hv⟩:=heo
   exact⟨v,by rw[hbe];exact hv⟩
  ·refine(ok b u q).stay (λc v hc r=>k c v ?_ r) (λc r=>by rw[Z0u (nown c b r)];exact r) λc xs r=>by rw[Z0u (ntup c xs r)];exact r
   rcases hc with rfl | hc
   ·exact hbe
   ·rintro rfl
    rcases he with z | z
    ·exact nown c b hc z
    ·rw[hc] at z;cases z;exact hb rfl
end
structure Un (fs ex:U3) (H H':Hp) (h h':Heap):Prop where
 keep:∀ b o,h.get? b=some o->H b=none->b ∉ fs->b ∉ ex->h'.get? b=some o
 slot:∀ b o,h.get? b=some o->H b=none->b∈fs->b ∉ ex->∃ sl,h'.get? b=some { o with slots:=sl }
 free:∀ b o,h.get? b=some o->H b=none->b ∉ ex->H' b=none
 there:∀ b o,h.get? b=some o->b ∉ ex->∃ o',h'.get? b=some o'
 tups:∀ b xs,H b=some (.tup xs)->H' b=some (.tup xs)
 frzs:∀ b o u,H b=some (.frz o u)->H' b=some (.frz o u)
 tbls:∀ b ps,H b=some (.tbl ps)->∃ more,H' b=some (.tbl (ps++more))
section
variable {fs fs' ex ex':U3}{H H1 H2:Hp}{h h1 h2 h':Heap}{a x e:W9}{o:HO}
theorem Un.any (u:Un fs ex H H1 h h1){b:W9}{ob:Obj}(q:h.get? b=some ob)(n:H b=none)(hx:b ∉ ex):∃ sl,h1.get? b=some { ob with slots:=sl }:=by
 by_cases hb:b∈fs
 ·exact u.slot b ob q n hb hx
 ·exact⟨ob.slots,u.keep b ob q n hb hx⟩
theorem Un.kept (k:∀ b u,h.get? b=some u->h'.get? b=some u):Un fs ex H H h h' :=
 ⟨λb ob q _ _ _=>k b ob q,λb ob q _ _ _=>⟨ob.slots,k b ob q⟩,λ_ _ _ n _=>n,λb ob q _=>⟨ob,k b ob q⟩,λ_ _ q=>q,λ_ _ _ q=>q,λ_ ps q=>⟨#[],by rw[q];simp⟩⟩
theorem Un.refl:Un fs ex H H h h:=Un.kept λ_ _ q=>q
theorem Un.laid (k:∀ b u,h.get? b=some u->h'.get? b=some u)(hp:h.objs.size<=a)(hn:H a=none):Un fs ex H (upd H a o) h h' where
 keep:=λb u q _ _ _=>k b u q
 slot:=λb u q _ _ _=>⟨u.slots,k b u q⟩
 free:=λb u q n _=>by rw[Z0u (q0t (q0f (q0h q) hp))];exact n
 there:=λb u q _=>⟨u,k b u q⟩
 tups:=λb xs q=>by rw[Z0u (Z1s q hn)];exact q
 frzs:=λb u xs q=>by rw[Z0u (Z1s q hn)];exact q
 tbls:=λb ps q=>⟨#[],by rw[Z0u (Z1s q hn),q];simp⟩
theorem Un.write (mu:Mut (H x))(he:e=x∨H e=some (.own x))(k:∀ b u,b≠e->h.get? b=some u->h'.get? b=some u)(heo:∃ u,h'.get? e=some u):Un fs ex H (upd H x o) h h':=by
 have hx:∀ b,H b=none->b≠x:=λb n z=>by subst z;rw[n] at mu;exact mu
 have hb:∀ b,H b=none->b≠e:=λb n z=>by
  subst z
  rcases he with r | r
  ·exact hx b n r
  ·rw[n] at r;cases r
 have hm:∀ b u,H b=some u->¬ Mut (some u)->b≠x:=λb u q nm z=>by subst z;rw[q] at mu;exact nm mu
 refine⟨λb u q n _ _=>k b u (hb b n) q,λb u q n _ _=>⟨u.slots,k b u (hb b n) q⟩,λb u q n _=>by rw[Z0u (hx b n)];exact n,λb u q _=>?_,
  λb xs q=>by rw[Z0u (hm b _ q λz=>z)];exact q,λb u xs q=>by rw[Z0u (hm b _ q λz=>z)];exact q,λb ps q=>⟨#[],by rw[Z0u (hm b _ q λz=>z),q];simp⟩⟩
 by_cases hbe:b=e
 ·subst hbe;exact heo
 ·exact⟨u,k b u hbe q⟩
end
noncomputable def trk (h:Heap)(H:Hp):List Addr:=(List.range h.objs.size).filter λa=>(H a).isSome
noncomputable def hidT (h:Heap)(H:Hp):Heap:=PySem.W.hideAll h (trk h H)
theorem Y8f (h:Heap)(H:Hp):(hidT h H).objs.size=h.objs.size:=PySem.W.hideAll_size _ _
theorem X1k {h:Heap}{H:Hp}{b:W9}{o:Obj}(e:h.get? b=some o)(n:H b=none):(hidT h H).get? b=some o :=
 PySem.W.hideAll_get _ e λhm=>by
  have q:(H b).isSome=true:=(q8d.mp hm).2
  rw[n] at q;simp at q
theorem X5i {h:Heap}{H:Hp}{b:W9}{o:Obj}(e:(hidT h H).get? b=some o):h.get? b=some o/\H b=none:=by
 have e':h.get? b=some o:=PySem.W.of_hideAll (trk h H) e
 refine⟨e',?_⟩
 cases q:H b with
 | none=>rfl
 | some x =>
  have hm:b∈trk h H:=q8d.mpr ⟨q1c.mpr (q0h e'),by simp[q]⟩
  have z:(hidT h H).get? b=none:=PySem.W.hideAll_none (trk h H) hm
  rw[z] at e;cases e
structure Mod (K:U0) (mg:U4) (base:Heap):Prop where
 kin:K.In base
 glob:base.Ns mainGlobals mg
 blt:∃ mb,base.Ns builtinsNs mb/\∀ x:Str,x≠"__name__"->mb x=bootBuiltins x
 nolimit:base.NoLimit
structure Cx where
 prog:Program
 w:World
 K:U0
 mg:Str->Option Value
 base:Heap
 A:Around
 N:List Str
 s₀:Shared
 H₀:Hp
 env:Env
 outer:List Env
 stack:List Env
 ex:List Addr
 fn:Str->Bool
 calm:Bool
 pn:List (Addr × Obj)
 xe:Value->Shared->Prop
noncomputable def frs (l:List Env):List Addr:=l.filterMap (·.frame)
noncomputable abbrev Cx.fs (X:Cx):List Addr:=frs X.outer
def Vis (sc:Scope)(x:Str):Prop:=sc.names.lookup x=some .local∨sc.names.lookup x=some .cell∨sc.names.lookup x=some .free
def Loc (sc:Scope)(x:Str):Prop:=sc.names.lookup x=some .local∨sc.names.lookup x=some .cell
def Look (env:Env)(h:Heap)(m:U4)(x:Str)(u:W2):Prop :=
 (env.kindOf x=some .local/\m x=some u)∨((env.kindOf x=some .cell∨env.kindOf x=some .free)/\∃ c,env.cells.lookup x=some c/\h.IsCell c (some u))
structure Cx.Ok (X:Cx):Prop where
 mod:Mod X.K X.mg X.base
 kind:X.env.scope.kind=.function
 glob:X.env.globals=mainGlobals
 blt:X.env.builtins=builtinsNs
 above:X.s₀.heap.objs.size<=X.env.locals
 inj:∀ x y c,X.env.cells.lookup x=some c->X.env.cells.lookup y=some c->x=y
 has:∀ x,(X.env.kindOf x=some .cell∨X.env.kindOf x=some .free)->∃ c,X.env.cells.lookup x=some c
 cab:∀ x c,X.fn x=true->X.env.cells.lookup x=some c->X.s₀.heap.objs.size<=c
 hd:X.calm=true->X.A.handled=none
 frames:X.A.frames=some X.stack
 stk:X.stack=X.outer∨(X.stack=X.env::X.outer/\X.env.frame=some X.env.locals)
 exf:∀ b∈X.ex,b≠X.env.locals/\∀ x c,X.env.cells.lookup x=some c->c≠b
 bs:∀ b o,X.base.get? b=some o->X.s₀.heap.get? b=some o/\X.H₀ b=none
 bsz:X.base.objs.size<=X.s₀.heap.objs.size
 noex:∀ b o,X.base.get? b=some o->b ∉ X.ex
 exfs:∀ b∈X.ex,b ∉ X.fs
 funs:X.s₀.heap.FunFrames X.base X.outer
 frf:∀ b∈X.fs,X.H₀ b=none
structure Inv (X:Cx) (pins:U1) (σ:List (Option V)) (H:Hp) (s:U7):Prop where
 ok:X.Ok
 os:s.os=X.s₀.os
 bare:AllBare s.gens
 base:Un X.fs X.ex X.H₀ H X.s₀.heap s.heap
 loc:∃ m,s.heap.Ns X.env.locals m/\∀ (i:Nat) (x:Str) (v:V),X.N[i]?=some x->σ[i]?=some (some v)->Vis X.env.scope x->∃ u,RelV v u/\Look X.env s.heap m x u
 cell:∀ x c,X.env.cells.lookup x=some c->∃ v,s.heap.IsCell c v
 free:H X.env.locals=none
 freeC:∀ x c,X.env.cells.lookup x=some c->H c=none
 pin:∀ p∈X.pn++pins,s.heap.get? p.1=some p.2/\H p.1=none/\p.1≠X.env.locals/\p.1 ∉ X.fs/\∀ v,p.2.data≠.cell v
 hok:HOk X.prog X.w H s.heap
 len:σ.length=X.N.length
section
variable {X:Cx}{pins:U1}{σ:List (Option V)}{H H':Hp}{s:U7}{h':Heap}
theorem Cx.Ok.nofr (ok:X.Ok){b:W9}{o:Obj}(e:X.base.get? b=some o):b ∉ X.fs:=λhb=>by
 have:=(ok.funs.mem hb).1
 rw[e] at this;cases this
theorem Inv.bs (I:Inv X pins σ H s):∀ b o,X.base.get? b=some o->s.heap.get? b=some o/\H b=none:=λb o e =>
 ⟨I.base.keep b o (I.ok.bs b o e).1 (I.ok.bs b o e).2 (I.ok.nofr e) (I.ok.noex b o e),I.base.free b o (I.ok.bs b o e).1 (I.ok.bs b o e).2 (I.ok.noex b o e)⟩
theorem Inv.bk (I:Inv X pins σ H s):∀ b o,X.base.get? b=some o->s.heap.get? b=some o:=λb o e=>(I.bs b o e).1
theorem Inv.mod (I:Inv X pins σ H s):Mod X.K X.mg X.base:=I.ok.mod
theorem Inv.kIn (I:Inv X pins σ H s):X.K.In s.heap:=I.ok.mod.kin.keeps I.bk
theorem Inv.lt (I:Inv X pins σ H s):X.env.locals<s.heap.objs.size:=let ⟨_,hn,_⟩:=I.loc;hn.lt
theorem Inv.sz (I:Inv X pins σ H s):X.s₀.heap.objs.size<=s.heap.objs.size:=q1b I.ok.above (q7z I.lt)
theorem Inv.nofs (I:Inv X pins σ H s){a:W9}(h:s.heap.objs.size<=a):a ∉ X.fs:=λhb=>by
 obtain⟨_,o,ho,_⟩:=I.ok.funs.mem hb
 exact absurd (q0f (q0h ho) (q1b I.sz h)) (q3m _)
theorem Inv.cne (I:Inv X pins σ H s):∀ x c,X.env.cells.lookup x=some c->c≠X.env.locals:=λx c e z=>by
 obtain⟨v,o,ho,hd⟩:=I.cell x c e
 obtain⟨m,⟨o',es,ep,ho',hd',_⟩,_⟩:=I.loc
 rw[z,ho'] at ho;cases ho;rw[hd'] at hd;cases hd
theorem Inv.funs (I:Inv X pins σ H s):s.heap.FunFrames X.base X.outer:=by
 have all:∀ (l:List Env),(∀ b∈frs l,b∈X.fs)->X.s₀.heap.FunFrames X.base l->s.heap.FunFrames X.base l:=by
  intro l
  induction l with
  | nil=>intro _ _;trivial
  | cons env r ih =>
   intro hs hl
   obtain⟨hk,⟨L,o,hf,hn,ho,hd⟩,hr⟩:=hl
   have hL:L∈X.fs:=hs L (by unfold frs;rw[q6m,hf];exact q2m)
   obtain⟨sl,e⟩:=I.base.slot L o ho (I.ok.frf L hL) hL λz=>I.ok.exfs L z hL
   exact⟨hk,⟨L,_,hf,hn,e,hd⟩,ih (λb hb=>hs b (by unfold frs;rw[q6m,hf];exact q1x _ hb)) hr⟩
 exact all X.outer (λ_ hb=>hb) I.ok.funs
theorem Inv.stack (I:Inv X pins σ H s):s.heap.FunFrames X.base X.stack:=by
 rcases I.ok.stk with e | ⟨e,hf⟩
 ·rw[e];exact I.funs
 ·rw[e]
  obtain⟨m,hn,_⟩:=I.loc
  refine .cons (by rw[I.ok.kind];decide) hf hn ?_ I.funs
  exact Heap.get?_none_of_le (q1b I.ok.bsz I.ok.above)
theorem Inv.stkSub (I:Inv X pins σ H s):∀ b∈frs X.stack,b∈X.env.locals::X.fs:=λb hb=>by
 rcases I.ok.stk with e | ⟨e,hf⟩
 ·rw[e] at hb;exact q1x _ hb
 ·rw[e] at hb
  unfold frs at hb
  rw[q6m,hf] at hb
  exact hb
theorem Inv.stkFree (I:Inv X pins σ H s):∀ b∈frs X.stack,H b=none:=λb hb=>by
 rcases q0s.mp (I.stkSub b hb) with e | hb
 ·rw[e];exact I.free
 ·obtain⟨_,o,ho,_⟩:=I.ok.funs.mem hb
  exact I.base.free b o ho (I.ok.frf b hb) λz=>I.ok.exfs b z hb
theorem Inv.step {g':Array GenState}{t':Nat}{d':Drawn}{ch:U3}(I:Inv X pins σ H s)
  (hch:∀ b∈ch,(b∈X.ex∨X.s₀.heap.objs.size<=b)/\b≠X.env.locals/\(∀ x c,X.env.cells.lookup x=some c->c≠b)/\∀ p∈X.pn++pins,p.1≠b)
  (keep:∀ b o,b≠X.env.locals->b ∉ X.fs->b ∉ ch->s.heap.get? b=some o->H b=none->h'.get? b=some o)
  (slot:∀ b o,b≠X.env.locals->b∈X.fs->b ∉ ch->s.heap.get? b=some o->H b=none->∃ sl,h'.get? b=some { o with slots:=sl }) (free:∀ b o,b ∉ ch->s.heap.get? b=some o->H b=none->H' b=none)
  (there:∀ b o,b ∉ ch->s.heap.get? b=some o->∃ o',h'.get? b=some o')
  (tups:∀ b xs,H b=some (.tup xs)->H' b=some (.tup xs)) (frzs:∀ b o u,H b=some (.frz o u)->H' b=some (.frz o u)) (tbls:∀ b ps,H b=some (.tbl ps)->∃ more,H' b=some (.tbl (ps++more)))
  (ns:∀ m,s.heap.Ns X.env.locals m->h'.Ns X.env.locals m) (hok:HOk X.prog X.w H' h') (hg:AllBare g') :
  Inv X pins σ H' { s with heap:=h',gens:=g',drawn:=d',toks:=t' }:=by
 have neL:∀ b o,X.s₀.heap.get? b=some o->b≠X.env.locals:=λb o e=>q0t (q0f (q0h e) I.ok.above)
 have neC:∀ b o,X.s₀.heap.get? b=some o->b ∉ X.ex->b ∉ ch:=λb o e hx hb=>by
  rcases (hch b hb).1 with z | z
  ·exact hx z
  ·exact absurd (q0f (q0h e) z) (q3m _)
 have cellK:∀ x c,X.env.cells.lookup x=some c->∀ v,s.heap.IsCell c v->h'.IsCell c v:=λx c e v ⟨o,ho,hd⟩=>by
  have nch:c ∉ ch:=λz=>(hch c z).2.2.1 x c e rfl
  by_cases hc:c∈X.fs
  ·obtain⟨sl,q⟩:=slot c o (I.cne x c e) hc nch ho (I.freeC x c e)
   exact⟨_,q,hd⟩
  ·exact⟨o,keep c o (I.cne x c e) hc nch ho (I.freeC x c e),hd⟩
 refine⟨I.ok,I.os,hg,⟨λb o e n hb hx=>?_,λb o e n hb hx=>?_,λb o e n hx=>?_,λb o e hx=>?_,λb xs e=>tups b xs (I.base.tups b xs e),λb o xs e=>frzs b o xs (I.base.frzs b o xs e),λb ps e=>?_⟩,?_,λx c e=>?_,?_,λx c e=>?_,λp hp=>?_,hok,I.len⟩
 ·exact keep b o (neL b o e) hb (neC b o e hx) (I.base.keep b o e n hb hx) (I.base.free b o e n hx)
 ·obtain⟨sl,e1⟩:=I.base.slot b o e n hb hx
  obtain⟨sl',e2⟩:=slot b _ (neL b o e) hb (neC b o e hx) e1 (I.base.free b o e n hx)
  exact⟨sl',e2⟩
 ·obtain⟨o',e1⟩:=I.base.there b o e hx
  exact free b o' (neC b o e hx) e1 (I.base.free b o e n hx)
 ·obtain⟨o',e1⟩:=I.base.there b o e hx
  exact there b o' (neC b o e hx) e1
 ·obtain⟨m1,e1⟩:=I.base.tbls b ps e
  obtain⟨m2,e2⟩:=tbls b _ e1
  exact⟨m1++m2,by rw[e2,Array.append_assoc]⟩
 ·obtain⟨m,hn,hl⟩:=I.loc
  refine⟨m,ns m hn,λi x v e1 e2 e3=>?_⟩
  obtain⟨u,r,l⟩:=hl i x v e1 e2 e3
  refine⟨u,r,?_⟩
  rcases l with l | ⟨k,c,e,z⟩
  ·exact .inl l
  ·exact .inr ⟨k,c,e,cellK x c e _ z⟩
 ·obtain⟨v,z⟩:=I.cell x c e
  exact⟨v,cellK x c e v z⟩
 ·obtain⟨m,⟨o,_,_,ho,_⟩,_⟩:=I.loc
  exact free _ o (λz=>(hch _ z).2.1 rfl) ho I.free
 ·obtain⟨v,o,ho,hd⟩:=I.cell x c e
  exact free c o (λz=>(hch c z).2.2.1 x c e rfl) ho (I.freeC x c e)
 ·obtain⟨e,n,ne,nf,d⟩:=I.pin p hp
  have nch:p.1 ∉ ch:=λz=>(hch p.1 z).2.2.2 p hp rfl
  exact⟨keep p.1 p.2 ne nf nch e n,free p.1 p.2 nch e n,ne,nf,d⟩
theorem Inv.un {t':Nat}(I:Inv X pins σ H s)(u:Un X.fs [] H H' s.heap h')(hok:HOk X.prog X.w H' h'):Inv X pins σ H' { s with heap:=h',toks:=t' }:=by
 obtain⟨m,⟨o,es,ep,ho,r⟩,_⟩:=id I.loc
 obtain⟨sl,hL⟩:=u.any ho I.free (by simp)
 exact I.step (g':=s.gens) (d':=s.drawn) (ch:=[]) (λ_ z=>nomatch z) (λb o _ hb _ e n=>u.keep b o e n hb (by simp)) (λb o _ hb _ e n=>u.slot b o e n hb (by simp)) (λb o _ e n=>u.free b o e n (by simp)) (λb o _ e=>u.there b o e (by simp)) u.tups u.frzs u.tbls (λm' hm=>by
  obtain⟨o',es',ep',ho',r'⟩:=hm
  rw[ho] at ho';cases ho'
  exact⟨_,es',ep',hL,r'⟩) hok I.bare
theorem Inv.call {g':Array GenState}{t':Nat}{d':Drawn}{ch:U3}(I:Inv X pins σ H s)(u:Un (frs X.stack) ch H H' s.heap h')(hok:HOk X.prog X.w H' h')(hg:AllBare g')
  (hch:∀ b∈ch,(b∈X.ex∨X.s₀.heap.objs.size<=b)/\b≠X.env.locals/\(∀ x c,X.env.cells.lookup x=some c->c≠b)/\∀ p∈X.pn++pins,p.1≠b) :
  Inv X pins σ H' { s with heap:=h',gens:=g',drawn:=d',toks:=t' }:=by
 obtain⟨m,⟨o,es,ep,ho,r⟩,_⟩:=id I.loc
 obtain⟨sl,hL⟩:=u.any ho I.free λz=>(hch _ z).2.1 rfl
 exact I.step (ch:=ch) hch (λb o hL hb hc e n=>u.keep b o e n (λz=>(q0s.mp (I.stkSub b z)).elim hL hb) hc) (λb o _ _ hc e n=>u.any e n hc) (λb o hc e n=>u.free b o e n hc) (λb o hc e=>u.there b o e hc) u.tups u.frzs u.tbls (λm' hm=>by
  obtain⟨o',es',ep',ho',r'⟩:=hm
  rw[ho] at ho';cases ho'
  exact⟨_,es',ep',hL,r'⟩) hok hg
theorem Inv.turned {t':Nat}{it:W9}(I:Inv X pins σ H s)(k:∀ b o,b≠it->s.heap.get? b=some o->h'.get? b=some o)(hn:H it=none)(hL:it≠X.env.locals)
  (h1:it∈X.ex∨X.s₀.heap.objs.size<=it) (h2:∀ x c,X.env.cells.lookup x=some c->c≠it) (h3:∀ p∈X.pn++pins,p.1≠it):Inv X pins σ H { s with heap:=h',toks:=t' }:=by
 have nit:∀ b u,H b=some u->b≠it:=λb u e z=>by rw[z,hn] at e;cases e
 refine I.step (g':=s.gens) (d':=s.drawn) (ch:=[it]) (λb hb=>?_) (λb o _ _ hc e _=>k b o (λz=>hc (by simp[z])) e) (λb o _ _ hc e _=>⟨o.slots,k b o (λz=>hc (by simp[z])) e⟩) (λ_ _ _ _ n=>n)
  (λb o hc e=>⟨o,k b o (λz=>hc (by simp[z])) e⟩) (λ_ _ e=>e) (λ_ _ _ e=>e) (λb ps e=>⟨#[],by rw[e];simp⟩) (λm hm=>?_) (λb u e=>?_) I.bare
 ·have e:b=it:=by simpa using hb
  subst e
  exact⟨h1,hL,h2,h3⟩
 ·obtain⟨o,es,ep,ho,r⟩:=hm
  exact⟨o,es,ep,k _ o (Ne.symm hL) ho,r⟩
 ·refine(I.hok b u e).stay (λc v hc q=>k c v ?_ q) (λ_ q=>q) λ_ _ q=>q
  rcases hc with z | z
  ·rw[z];exact nit b u e
  ·exact nit c _ z
theorem Inv.tok (I:Inv X pins σ H s)(t:Nat):Inv X pins σ H { s with toks:=t }:=I.un (h':=s.heap) (t':=t) Un.refl I.hok
theorem Inv.kept {t':Nat}(I:Inv X pins σ H s)(k:∀ b u,s.heap.get? b=some u->h'.get? b=some u):Inv X pins σ H { s with heap:=h',toks:=t' }:=I.un (Un.kept k) (I.hok.kept k)
theorem Inv.laid {a:W9}{o:HO}{t':Nat}(I:Inv X pins σ H s)(k:∀ b u,s.heap.get? b=some u->h'.get? b=some u)(hp:s.heap.objs.size<=a)(new:ObjOk X.prog X.w (upd H a o) h' a o) :
  Inv X pins σ (upd H a o) { s with heap:=h',toks:=t' }:=I.un (Un.laid k hp (I.hok.fresh hp)) (I.hok.laid k hp new)
theorem Inv.write {x e:W9}{o:HO}{t':Nat}(I:Inv X pins σ H s)(mu:Mut (H x))(he:e=x∨H e=some (.own x))(k:∀ b u,b≠e->s.heap.get? b=some u->h'.get? b=some u)(heo:∃ u,h'.get? e=some u)
  (new:ObjOk X.prog X.w (upd H x o) h' x o):Inv X pins σ (upd H x o) { s with heap:=h',toks:=t' }:=I.un (Un.write mu he k heo) (I.hok.write mu he k heo new)
theorem Inv.pins_of {pins':U1}(I:Inv X pins σ H s)(h:∀ p∈pins',s.heap.get? p.1=some p.2/\H p.1=none/\p.1≠X.env.locals/\p.1 ∉ X.fs/\∀ v,p.2.data≠.cell v):Inv X pins' σ H s :=
 ⟨I.ok,I.os,I.bare,I.base,I.loc,I.cell,I.free,I.freeC,λp hp=>(q1n.mp hp).elim (λz=>I.pin p (q2d _ z)) (h p),I.hok,I.len⟩
theorem Z8r {N:W0}(hN:N.Nodup){i j:Nat}{x:Str}(a:N[i]?=some x)(b:N[j]?=some x):i=j:=by
 obtain⟨h1,e1⟩:=q0o.mp a
 obtain⟨h2,e2⟩:=q0o.mp b
 exact(List.getElem_inj hN).mp (e1.trans e2.symm)
theorem Z6u {M:Model}{A:W6}{E:U2}{i:Nat}{x:Str}{v:V}{u:W2}{Q:Unit->Shared->Prop}(I:Inv X pins σ H s)(hN:X.N.Nodup)(hi:X.N[i]?=some x)(hx:Loc X.env.scope x)(r:RelV v u)
  (h:∀ s',Inv X pins (σ.set i (some v)) H s'->(∃ a,Heap.SameBut a s.heap s'.heap/\(a=X.env.locals∨X.env.cells.lookup x=some a))->Q () s') (hf:X.fn x=true∨X.env.scope.names.lookup x=some .local:=by first | exact .inl rfl | exact .inr rfl | assumption):wpAny M A (storeName X.env x u) Q E s:=by
 obtain⟨m,hn,hl⟩:=id I.loc
 have hcls:(X.env.scope.kind == .class || (X.env.scope.kind == .module && X.env.locals != X.env.globals))=false:=by rw[I.ok.kind];rfl
 have hiσ:i<σ.length:=by rw[I.len];exact(q0o.mp hi).1
 have cne:=I.cne
 have tracked:∀ {a:W9}{h':Heap},(∃ o,s.heap.get? a=some o/\H a=none)->Heap.SameBut a s.heap h'->HOk X.prog X.w H h':=λ{a h'} ha hs b ob e=>by
  obtain⟨_,_,hfree⟩:=ha
  refine(I.hok b ob e).stay (λc w' hc q=>(hs.2 c ?_).trans q) (λ_ q=>q) λ_ _ q=>q
  rintro rfl
  rcases hc with rfl | hc
  ·rw[hfree] at e;cases e
  ·rw[hfree] at hc;cases hc
 rcases hx with hk | hk
 ·refine wpAny_storeName_local hk hn (λh' hn' hs=>?_) hcls
  obtain⟨oL,_,_,hoL,_⟩:=id hn
  refine h _ ⟨I.ok,I.os,I.bare,⟨λb o e n hb hx=>?_,λb o e n hb hx=>?_,I.base.free,λb o e hx=>?_,I.base.tups,I.base.frzs,I.base.tbls⟩,⟨_,hn',λj y v' e1 e2 e3=>?_⟩,λy c e=>?_,I.free,I.freeC,λp hp=>?_,tracked ⟨oL,hoL,I.free⟩ hs,by simpa using I.len⟩ ⟨_,hs,.inl rfl⟩
  ·exact(hs.2 b (q0t (q0f (q0h e) I.ok.above))).trans (I.base.keep b o e n hb hx)
  ·obtain⟨sl,e1⟩:=I.base.slot b o e n hb hx
   exact⟨sl,(hs.2 b (q0t (q0f (q0h e) I.ok.above))).trans e1⟩
  ·obtain⟨o',e1⟩:=I.base.there b o e hx
   exact⟨o',(hs.2 b (q0t (q0f (q0h e) I.ok.above))).trans e1⟩
  ·by_cases hj:j=i
   ·subst hj
    rw[hi] at e1;cases e1
    rw[q5w hiσ] at e2
    cases e2
    exact⟨u,r,.inl ⟨hk,by simp⟩⟩
   ·rw[q6f (Ne.symm hj)] at e2
    obtain⟨u',r',q⟩:=hl j y v' e1 e2 e3
    refine⟨u',r',?_⟩
    rcases q with ⟨k,e⟩ | ⟨k,c,e,z⟩
    ·refine .inl ⟨k,?_⟩
     have:y≠x:=λe=>hj (Z8r hN e1 (e ▸ hi))
     simp[this,e]
    ·exact .inr ⟨k,c,e,z.sameBut hs (cne y c e)⟩
  ·obtain⟨w',z⟩:=I.cell y c e
   exact⟨w',z.sameBut hs (cne y c e)⟩
  ·obtain⟨e,n,ne,nf,d⟩:=I.pin p hp
   exact⟨(hs.2 p.1 ne).trans e,n,ne,nf,d⟩
 ·have hfn:X.fn x=true:=by
   rcases hf with z | z
   ·exact z
   ·rw[z] at hk;cases hk
  obtain⟨c,hc⟩:=I.ok.has x (.inl hk)
  obtain⟨w',z⟩:=I.cell x c hc
  refine wpAny_storeName_cell I.ok.kind hk hc z (λh' hc' hs=>?_)
  obtain⟨oc,hoc,hocd⟩:=id z
  refine h { s with heap:=h' } ⟨I.ok,I.os,I.bare,⟨λb o e n hb hx=>?_,λb o e n hb hx=>?_,I.base.free,λb o e hx=>?_,I.base.tups,I.base.frzs,I.base.tbls⟩,⟨m,hn.sameBut hs (Ne.symm (cne x c hc)),λj y v' e1 e2 e3=>?_⟩,λy c' e=>?_,I.free,I.freeC,λp hp=>?_,tracked ⟨oc,hoc,I.freeC x c hc⟩ hs,by simpa using I.len⟩ ⟨c,hs,.inr hc⟩
  ·exact(hs.2 b (q0t (q0f (q0h e) (I.ok.cab x c hfn hc)))).trans (I.base.keep b o e n hb hx)
  ·obtain⟨sl,e1⟩:=I.base.slot b o e n hb hx
   exact⟨sl,(hs.2 b (q0t (q0f (q0h e) (I.ok.cab x c hfn hc)))).trans e1⟩
  ·obtain⟨o',e1⟩:=I.base.there b o e hx
   exact⟨o',(hs.2 b (q0t (q0f (q0h e) (I.ok.cab x c hfn hc)))).trans e1⟩
  ·by_cases hj:j=i
   ·subst hj
    rw[hi] at e1;cases e1
    rw[q5w hiσ] at e2
    cases e2
    exact⟨u,r,.inr ⟨.inl hk,c,hc,hc'⟩⟩
   ·rw[q6f (Ne.symm hj)] at e2
    obtain⟨u',r',q⟩:=hl j y v' e1 e2 e3
    refine⟨u',r',?_⟩
    rcases q with q | ⟨k,c',e,z'⟩
    ·exact .inl q
    ·refine .inr ⟨k,c',e,z'.sameBut hs ?_⟩
     rintro rfl
     exact hj (Z8r hN e1 (I.ok.inj _ _ _ e hc ▸ hi))
  ·by_cases hcc:c'=c
   ·subst hcc;exact⟨_,hc'⟩
   ·obtain⟨w2,z2⟩:=I.cell y c' e
    exact⟨w2,z2.sameBut hs hcc⟩
  ·obtain⟨e,n,ne,nf,d⟩:=I.pin p hp
   refine⟨(hs.2 p.1 ?_).trans e,n,ne,nf,d⟩
   intro q
   rw[q,hoc] at e
   have q':oc=p.2:=Option.some.inj e
   exact d w' (by rw[<-q'];exact hocd)
theorem Z8j {M:Model}{A:W6}{E:U2}{i:Nat}{x:Str}{v:V}{u:W2}{Q:Unit->Shared->Prop}(I:Inv X pins σ H s)(hN:X.N.Nodup)(hi:X.N[i]?=some x)(hx:Loc X.env.scope x)(r:RelV v u)
  (h:∀ s',Inv X pins (σ.set i (some v)) H s'->Q () s') (hf:X.fn x=true∨X.env.scope.names.lookup x=some .local:=by first | exact .inl rfl | exact .inr rfl | assumption):wpAny M A (storeName X.env x u) Q E s :=
 Z6u I hN hi hx r (λs' I' _=>h s' I') hf
theorem Inv.call' {s':U7}{ch:U3}(I:Inv X pins σ H s)(ho:s'.os=s.os)(u:Un (frs X.stack) ch H H' s.heap s'.heap)(hok:HOk X.prog X.w H' s'.heap)(hg:AllBare s'.gens)
  (hch:∀ b∈ch,(b∈X.ex∨X.s₀.heap.objs.size<=b)/\b≠X.env.locals/\(∀ x c,X.env.cells.lookup x=some c->c≠b)/\∀ p∈X.pn++pins,p.1≠b):Inv X pins σ H' s':=by
 obtain⟨h',g',d',t',o'⟩:=s'
 have e:o'=s.os:=ho
 subst e
 exact I.call (g':=g') (t':=t') (d':=d') u hok hg hch
end
abbrev XK:=Value->Option Addr->Hp->Prop
abbrev St:=List (Option V)
abbrev VK:=V->Hp->Prop
abbrev TE:=St->Hp->VK->Prop
abbrev TT:=St->Hp->(Bool->Hp->Prop)->Prop
abbrev TA:=St->Hp->(List V->Hp->Prop)->Prop
structure Ends where
 nx:St->Hp->Prop
 rt:VK
 bk:St->Hp->Prop:=λ_ _=>False
 ct:St->Hp->Prop:=λ_ _=>False
abbrev TS:=Ends->St->Hp->Prop
def EP (X:Cx)(pins:U1)(σ:St)(Q:VK)(u:W2)(s':U7):Prop:=∃ v H',Inv X pins σ H' s'/\RelV v u/\Q v H'
def TP (X:Cx)(pins:U1)(σ:St)(Q:Bool->Hp->Prop)(b:Bool)(s':U7):Prop:=∃ H',Inv X pins σ H' s'/\Q b H'
def AP (X:Cx)(pins:U1)(σ:St)(Q:List V->Hp->Prop)(us:U5)(s':U7):Prop:=∃ vs H',Inv X pins σ H' s'/\Vals vs us/\Q vs H'
def SP (X:Cx)(pins:U1)(D:Ends)(f:Flow)(s':U7):Prop :=
 match f with
 | .next=>∃ σ' H',Inv X pins σ' H' s'/\D.nx σ' H'
 | .brk=>∃ σ' H',Inv X pins σ' H' s'/\D.bk σ' H'
 | .cont=>∃ σ' H',Inv X pins σ' H' s'/\D.ct σ' H'
 | .ret u=>∃ v σ' H',Inv X pins σ' H' s'/\RelV v u/\D.rt v H'
def PE (X:Cx)(e:Expr)(t:TE):Prop :=
 ∀ (pins:U1) (s:U7) (σ:St) (H:Hp) (Q:VK),Inv X pins σ H s->t σ H Q->wpAny (model X.prog X.w) X.A (eval e X.env) (EP X pins σ Q) X.xe s
def PT (X:Cx)(e:Expr)(t:TT):Prop :=
 ∀ (pins:U1) (s:U7) (σ:St) (H:Hp) (Q:Bool->Hp->Prop),Inv X pins σ H s->t σ H Q->wpAny (model X.prog X.w) X.A (isTrue e X.env (eval e X.env)) (TP X pins σ Q) X.xe s
def PW (X:Cx)(e:Expr)(t:TT):Prop :=
 ∀ (whole:Sem Value) (pins:U1) (s:U7) (σ:St) (H:Hp) (Q:Bool->Hp->Prop),Inv X pins σ H s->t σ H Q->wpAny (model X.prog X.w) X.A (isTrue e X.env whole) (TP X pins σ Q) X.xe s
theorem PW.pt {X:Cx}{e:Expr}{t:TT}(h:PW X e t):PT X e t:=h _
def PA (X:Cx)(es:List Expr)(t:TA):Prop :=
 ∀ (pos:Pos) (pins:U1) (s:U7) (σ:St) (H:Hp) (Q:List V->Hp->Prop),Inv X pins σ H s->t σ H Q->wpAny (model X.prog X.w) X.A (spliced (backTo pos (starEach es X.env))) (AP X pins σ Q) X.xe s
def PS (X:Cx)(st:Stmt)(t:TS):Prop :=
 ∀ (pins:U1) (s:U7) (σ:St) (H:Hp) (D:Ends),Inv X pins σ H s->t D σ H->wpAny (model X.prog X.w) X.A (exec st X.env) (SP X pins D) X.xe s
def PSs (X:Cx)(st:W8)(t:TS):Prop :=
 ∀ (pins:U1) (s:U7) (σ:St) (H:Hp) (D:Ends),Inv X pins σ H s->t D σ H->wpAny (model X.prog X.w) X.A (execs st X.env) (SP X pins D) X.xe s
theorem thn {α:Type}{t:Sem α}{Q Q':α->Shared->Prop}{M:Model}{A:W6}{E:U2}{s:U7}(h:wpAny M A t Q E s)(hQ:∀ a s,Q a s->Q' a s):wpAny M A t Q' E s:=q1y h hQ λ_ _ x=>x
section
variable {X:Cx}
theorem bin {a b:Expr}{ta tb:TE}(ha:PE X a ta)(hb:PE X b tb){pins:U1}{s:U7}{σ:St}{H:Hp}{R:V->V->Hp->Prop}(I:Inv X pins σ H s)(h:ta σ H λx H1=>tb σ H1 λy H2=>R x y H2)
  {α:Type}{Q:α->Shared->Prop}{f:Value->Value->Sem α}
  (hf:∀ v u s2 x y H2,Inv X pins σ H2 s2->RelV x v->RelV y u->R x y H2->wpAny (model X.prog X.w) X.A (f v u) Q X.xe s2) :
  wpAny (model X.prog X.w) X.A (eval a X.env) (λv s₁=>wpAny (model X.prog X.w) X.A (eval b X.env) (λu s₂=>wpAny (model X.prog X.w) X.A (f v u) Q X.xe s₂) X.xe s₁) X.xe s:=by
 refine thn (ha pins s σ H _ I h) λv s1 ⟨x,H1,I1,r1,q1⟩=>?_
 refine thn (hb pins s1 σ H1 _ I1 q1) λu s2 ⟨y,H2,I2,r2,q2⟩=>?_
 exact hf v u s2 x y H2 I2 r1 r2 q2
def tVar (i:Nat):TE:=λσ H Q=>∃ v,σ[i]?=some (some v)/\Q v H
def tC (v:V):TE:=λ_ H Q=>Q v H
theorem X8g {i:Nat}{x:Str}{pos:Pos}(hN:X.N[i]?=some x)(hv:Vis X.env.scope x)(hd:(x == ("__debug__":Str))=false:=by decide)(hcd:(x == ("__classdict__":Str))=false:=by decide):PE X (.Name x pos) (tVar i):=by
 intro pins s σ H Q I h
 obtain⟨v,e,h⟩:=h
 obtain⟨m,hn,hl⟩:=I.loc
 obtain⟨u,r,l⟩:=hl i x v hN e hv
 have fin:EP X pins σ Q u s:=⟨v,H,I,r,h⟩
 rcases l with ⟨hk,hm⟩ | ⟨hk,c,hc,hcell⟩
 ·exact wpAny_Name (wpAny_loadName_local I.ok.kind hk hn hm fin) hd
 ·rcases hk with hk | hk
  ·exact wpAny_Name (wpAny_loadName_cell I.ok.kind hk hc hcell fin) hd
  ·exact wpAny_Name (wpAny_loadName_free I.ok.kind hk hc hcell fin hcd) hd
theorem Z0b {i j pos}:PE X (.Constant (.int i) j pos) (tC (.int i)):=λ_ _ _ H _ I h=>wpAny_Constant_int ⟨.int i,H,I.tok _,⟨_,U⟩,h⟩
theorem Z2k {b j pos}:PE X (.Constant (.bool b) j pos) (tC (.bl b)):=λ_ _ _ H _ I h=>Constant_bool ⟨.bl b,H,I,U,h⟩
theorem Z7e {j pos}:PE X (.Constant .none j pos) (tC .non):=λ_ _ _ H _ I h=>Constant_none ⟨.non,H,I,U,h⟩
theorem Z0y {x j pos}:PE X (.Constant (.str x) j pos) (tC (.str x)):=λ_ _ _ H _ I h=>Calls.Constant_str ⟨.str x,H,I.tok _,⟨_,U⟩,h⟩
def Gl (X:Cx)(x:Str):Prop:=X.env.kindOf x=some .globalImplicit
theorem Z5v {E:U2}{pins:U1}{s:U7}{σ:St}{H:Hp}{x:Str}{u:W2}{pos:Pos}{Q:U2}(I:Inv X pins σ H s)(hg:Gl X x)(hm:X.mg x=some u)(h:Q u s)
  (hd:(x == ("__debug__":Str))=false:=by decide):wpAny (model X.prog X.w) X.A (eval (.Name x pos) X.env) Q E s :=
 Calls.Name_function_global I.ok.kind hg (Calls.loadGlobal_global (by rw[I.ok.glob];exact I.mod.glob.keeps I.bk) hm h) hd
theorem Z6d {E:U2}{pins:U1}{s:U7}{σ:St}{H:Hp}{x:Str}{u:W2}{pos:Pos}{Q:U2}(I:Inv X pins σ H s)(hg:Gl X x)(hm:X.mg x=none)(hv:bootBuiltins x=some u)(h:Q u s)
  (hn:x≠"__name__":=by decide) (hd:(x == ("__debug__":Str))=false:=by decide):wpAny (model X.prog X.w) X.A (eval (.Name x pos) X.env) Q E s:=by
 obtain⟨mb,h1,h2⟩:=I.mod.blt
 exact Calls.Name_function_global I.ok.kind hg (Calls.loadGlobal_builtin (by rw[I.ok.glob];exact I.mod.glob.keeps I.bk) hm (by rw[I.ok.blt];exact h1.keeps I.bk) ((h2 x hn).trans hv) h) hd
theorem Z4p {x:Str}{v:V}{u:W2}{pos:Pos}(hg:Gl X x)(hm:X.mg x=some u)(r:RelV v u)(hd:(x == ("__debug__":Str))=false:=by decide):PE X (.Name x pos) (tC v) :=
 λ_ _ _ H _ I h=>Z5v I hg hm ⟨v,H,I,r,h⟩ hd
theorem Z1w {x:Str}{v:V}{u:W2}{pos:Pos}(hg:Gl X x)(hm:X.mg x=none)(hv:bootBuiltins x=some u)(r:RelV v u)(hn:x≠"__name__":=by decide)(hd:(x == ("__debug__":Str))=false:=by decide):PE X (.Name x pos) (tC v) :=
 λ_ _ _ H _ I h=>Z6d I hg hm hv ⟨v,H,I,r,h⟩ hn hd
variable {a b:Expr}{ta tb:TE}{pos:Pos}
def PC (X:Cx)(op:CmpOp)(a b:Expr)(t:TE):Prop :=
 ∀ (pins:U1) (s:U7) (σ:St) (H:Hp) (Q:VK),Inv X pins σ H s->t σ H Q →
  wpAny (model X.prog X.w) X.A (eval a X.env) (λv s₁=>wpAny (model X.prog X.w) X.A (eval b X.env) (λu s₂=>wpAny (model X.prog X.w) X.A (compareOp op v u) (EP X pins σ Q) X.xe s₂) X.xe s₁) X.xe s
def tB (t:TE):TT:=λσ H Q=>t σ H λx H1=>∃ c,x=.bl c/\Q c H1
theorem X8h {op:CmpOp}{t:TE}(h:PC X op a b t)(h1:behindInMarks op b=false:=by first | exact nobehind _ (by decide) (by decide) | rfl):PE X (.Compare a [op] [b] pos) t:=λpins s σ H Q I hw=>wpAny_Compare1 (h pins s σ H Q I hw) h1
theorem X2o {op:CmpOp}{t:TE}(h:PC X op a b t)(h1:behindInMarks op b=false:=by first | exact nobehind _ (by decide) (by decide) | rfl):PT X (.Compare a [op] [b] pos) (tB t):=by
 intro pins s σ H Q I hw
 refine q7u (thn (h pins s σ H _ I hw) λv s1 h1=>thn h1 λu s2 h2=>thn h2 λc s3 ⟨x,H1,I1,r1,q1⟩=>?_) h1
 obtain⟨d,rfl,q⟩:=q1
 cases r1
 exact q2z ⟨H1,I1,q⟩
theorem Z1d {e:Expr}{t:TE}(h:PE X e t)(he:∀ whole,isTrue e X.env whole=(do let v ← whole;standAt e.pos;holding [v] (truthy v)):=by intro _;rfl):PT X e (tB t):=by
 intro pins s σ H Q I hw
 refine isTrue_plain (thn (h pins s σ H _ I hw) λv s1 ⟨x,H1,I1,r1,q1⟩=>?_) (he _)
 obtain⟨d,rfl,q⟩:=q1
 cases r1
 exact q2z ⟨H1,I1,q⟩
variable {tA tB':TT}{rest:List Expr}
def tAnd (t u:TT):TT:=λσ H Q=>t σ H λc H1=>if c=true then u σ H1 Q else Q false H1
def tOr (t u:TT):TT:=λσ H Q=>t σ H λc H1=>if c=true then Q true H1 else u σ H1 Q
def tNot (t:TT):TT:=λσ H Q=>t σ H λc H1=>Q (!c) H1
theorem Z3w (ha:PT X a tA):PW X (.BoolOp .And [a] pos) tA:=by
 intro wh pins s σ H Q I h
 refine isTrue_and (thn (ha pins s σ H Q I h) λc s1 e=>?_)
 cases c with
 | true=>exact isTrue_and_nil e
 | false=>exact e
theorem Z3r (ha:PT X a tA):PW X (.BoolOp .Or [a] pos) tA:=by
 intro wh pins s σ H Q I h
 refine isTrue_or (thn (ha pins s σ H Q I h) λc s1 e=>?_)
 cases c with
 | false=>exact isTrue_or_nil e
 | true=>exact e
theorem Z4y (ha:PT X a tA)(hb:PW X (.BoolOp .And (b::rest) pos) tB'):PW X (.BoolOp .And (a::b::rest) pos) (tAnd tA tB'):=by
 intro wh pins s σ H Q I h
 refine isTrue_and (thn (ha pins s σ H _ I h) λc s1 ⟨H1,I1,q1⟩=>?_)
 cases c with
 | true=>exact hb wh pins s1 σ H1 Q I1 q1
 | false=>exact⟨H1,I1,q1⟩
theorem Z3n (ha:PT X a tA)(hb:PW X (.BoolOp .Or (b::rest) pos) tB'):PW X (.BoolOp .Or (a::b::rest) pos) (tOr tA tB'):=by
 intro wh pins s σ H Q I h
 refine isTrue_or (thn (ha pins s σ H _ I h) λc s1 ⟨H1,I1,q1⟩=>?_)
 cases c with
 | true=>exact⟨H1,I1,q1⟩
 | false=>exact hb wh pins s1 σ H1 Q I1 q1
theorem Z1h (ha:PT X a tA):PT X (.UnaryOp .Not a pos) (tNot tA):=by
 intro pins s σ H Q I h
 exact isTrue_not (ha pins s σ H (λc H1=>Q (!c) H1) I h)
def tAndV (ta tb:TE):TE:=λσ H Q=>ta σ H λx H1=>∃ c,x=.bl c/\if c=true then tb σ H1 Q else Q (.bl false) H1
def tOrV (ta tb:TE):TE:=λσ H Q=>ta σ H λx H1=>∃ c,x=.bl c/\if c=true then Q (.bl true) H1 else tb σ H1 Q
def tNotV (ta:TE):TE:=λσ H Q=>ta σ H λx H1=>∃ c,x=.bl c/\Q (.bl (!c)) H1
theorem Z2j {op}{t:TE}(h:PE X a t):PE X (.BoolOp op [a] pos) t:=λpins s σ H Q I hw=>BoolOp_one (h pins s σ H Q I hw)
theorem Z2o (ha:PE X a ta)(hb:PE X (.BoolOp .And (b::rest) pos) tb):PE X (.BoolOp .And (a::b::rest) pos) (tAndV ta tb):=by
 intro pins s σ H Q I h
 refine BoolOp_and (thn (ha pins s σ H _ I h) λv s1 ⟨x,H1,I1,r1,q1⟩=>?_)
 obtain⟨c,rfl,q1⟩:=q1
 cases r1
 refine q2z ?_
 cases c with
 | true=>exact hb pins s1 σ H1 Q I1 q1
 | false=>exact⟨.bl false,H1,I1,rfl,q1⟩
theorem Y6n (ha:PE X a ta)(hb:PE X (.BoolOp .Or (b::rest) pos) tb):PE X (.BoolOp .Or (a::b::rest) pos) (tOrV ta tb):=by
 intro pins s σ H Q I h
 refine BoolOp_or (thn (ha pins s σ H _ I h) λv s1 ⟨x,H1,I1,r1,q1⟩=>?_)
 obtain⟨c,rfl,q1⟩:=q1
 cases r1
 refine q2z ?_
 cases c with
 | false=>exact hb pins s1 σ H1 Q I1 q1
 | true=>exact⟨.bl true,H1,I1,rfl,q1⟩
theorem Z6b (ha:PE X a ta):PE X (.UnaryOp .Not a pos) (tNotV ta):=by
 intro pins s σ H Q I h
 refine UnaryOp_ (thn (ha pins s σ H _ I h) λv s1 ⟨x,H1,I1,r1,q1⟩=>?_)
 obtain⟨c,rfl,q1⟩:=q1
 cases r1
 exact not_of (q2z ⟨.bl (!c),H1,I1,U,q1⟩)
def tIf (t:TT)(ta tb:TE):TE:=λσ H Q=>t σ H λc H1=>if c=true then ta σ H1 Q else tb σ H1 Q
theorem Z2d {c:Expr}(hc:PT X c tA)(ha:PE X a ta)(hb:PE X b tb):PE X (.IfExp c a b pos) (tIf tA ta tb):=by
 intro pins s σ H Q I h
 refine wpAny_IfExp (thn (hc pins s σ H _ I h) λd s1 ⟨H1,I1,q1⟩=>?_)
 cases d with
 | true=>exact ha pins s1 σ H1 Q I1 q1
 | false=>exact hb pins s1 σ H1 Q I1 q1
end
def SqL (K:U0)(H:Hp)(a:W9)(xs:List V):Prop :=
 Rd H a (.lst xs) ∨
  ∃ (o:Obj) (its:U9) (n:Nat),K.lookup a=some o/\o.cls=.type "list"/\o.dict=none/\o.data=.seq its n/\its.size<=sizeLine/\Vals xs its.toList
def SqT (K:U0)(H:Hp)(a:W9)(xs:List V):Prop :=
 Rd H a (.tup xs) ∨
  ∃ (o:Obj) (its:U9) (n:Nat),K.lookup a=some o/\o.cls=.type "tuple"/\o.data=.seq its n/\its.size<=sizeLine/\Vals xs its.toList
noncomputable def absV:Value->Option V
 | .none=>some .non
 | .bool b=>some (.bl b)
 | .int i _=>some (.int i)
 | .str x _=>some (.str x)
 | .bytes b _=>some (.byt b)
 | .float b _=>some (.flt b)
 | .ref a=>some (.ref a)
 | .type n=>some (.ty n)
 | _=>none
theorem RelV.abs {x:V}{u:W2}(r:RelV x u):absV u=some x:=by
 cases x with
 | non=>cases r;rfl
 | bl _=>cases r;rfl
 | int _=>obtain⟨t,rfl⟩:=r;rfl
 | str _=>obtain⟨t,rfl⟩:=r;rfl
 | byt _=>obtain⟨t,rfl⟩:=r;rfl
 | flt _=>obtain⟨t,rfl⟩:=r;rfl
 | ref _=>cases r;rfl
 | ty _=>cases r;rfl
theorem RelV.inj {x y:V}{u:W2}(r:RelV x u)(q:RelV y u):x=y:=Option.some.inj (r.abs.symm.trans q.abs)
theorem Vals.inj {xs ys:List V}{us:U5}(h:Vals xs us)(h':Vals ys us):xs=ys:=by
 induction h generalizing ys with
 | nil=>cases h';rfl
 | cons r t ih=>cases h' with
  | cons r' t'=>rw[r.inj r',ih t']
section
variable {X:Cx}{pins:U1}{σ:St}{H:Hp}{s:U7}{a:W9}{xs ys:List V}
theorem SqL.of {K:U0}(h:H a=some (.lst xs)):SqL K H a xs:=.inl (.inl h)
theorem SqT.of {K:U0}(h:H a=some (.tup xs)):SqT K H a xs:=.inl (.inl h)
theorem Inv.list (I:Inv X pins σ H s)(h:SqL X.K H a xs):∃ its:List Value,Vals xs its/\PlainL s.heap a its.toArray/\xs.length<=sizeLine:=by
 rcases h with h | ⟨o,its,n,hk,hc,hd,hs,hz,r⟩
 ·obtain⟨z,its,n,r,e⟩:=h.ok I.hok
  exact⟨its,r,⟨_,n,e,U,U,U⟩,z⟩
 ·refine⟨its.toList,r,⟨o,n,I.kIn a o hk,hc,hd,by simpa using hs⟩,?_⟩
  have e:=r.length
  simp only[q2h] at e
  omega
theorem Inv.tuple (I:Inv X pins σ H s)(h:SqT X.K H a xs):∃ its:List Value,Vals xs its/\IsTup s.heap a its.toArray/\xs.length<=sizeLine:=by
 rcases h with h | ⟨o,its,n,hk,hc,hs,hz,r⟩
 ·obtain⟨z,its,r,p⟩:=h.ok I.hok
  exact⟨its,r,p,z⟩
 ·refine⟨its.toList,r,⟨o,I.kIn a o hk,hc,n,by simpa using hs⟩,?_⟩
  have e:=r.length
  simp only[q2h] at e
  omega
theorem Inv.list_inj (I:Inv X pins σ H s)(h:SqL X.K H a xs)(h':SqL X.K H a ys):xs=ys:=by
 obtain⟨its,r,⟨o,n,e,_,_,d⟩,_⟩:=I.list h
 obtain⟨its',r',⟨o',n',e',_,_,d'⟩,_⟩:=I.list h'
 rw[e] at e';cases e'
 rw[d] at d'
 injection d' with d1 _
 have:its=its':=by simpa using congrArg Array.toList d1
 subst this
 exact r.inj r'
theorem Inv.tuple_inj (I:Inv X pins σ H s)(h:SqT X.K H a xs)(h':SqT X.K H a ys):xs=ys:=by
 obtain⟨its,r,⟨o,e,_,n,d⟩,_⟩:=I.tuple h
 obtain⟨its',r',⟨o',e',_,n',d'⟩,_⟩:=I.tuple h'
 rw[e] at e';cases e'
 rw[d] at d'
 injection d' with d1 _
 have:its=its':=by simpa using congrArg Array.toList d1
 subst this
 exact r.inj r'
end
noncomputable abbrev Cx.wish (X:Cx)(E:U2):Cx:={ X with xe:=E }
noncomputable abbrev Cx.nox (X:Cx):Cx:=X.wish λ_ _=>False
theorem Cx.Ok.wish {X:Cx}(ok:X.Ok)(E:U2):(X.wish E).Ok :=
 ⟨ok.mod,ok.kind,ok.glob,ok.blt,ok.above,ok.inj,ok.has,ok.cab,ok.hd,ok.frames,ok.stk,ok.exf,ok.bs,ok.bsz,ok.noex,ok.exfs,ok.funs,ok.frf⟩
theorem Cx.Ok.unwish {X:Cx}{E:U2}(ok:(X.wish E).Ok):X.Ok :=
 ⟨ok.mod,ok.kind,ok.glob,ok.blt,ok.above,ok.inj,ok.has,ok.cab,ok.hd,ok.frames,ok.stk,ok.exf,ok.bs,ok.bsz,ok.noex,ok.exfs,ok.funs,ok.frf⟩
section
variable {X:Cx}{pins:U1}{σ:St}{H:Hp}{s:U7}{E:U2}
theorem Inv.wish (I:Inv X pins σ H s)(E:U2):Inv (X.wish E) pins σ H s:=⟨I.ok.wish E,I.os,I.bare,I.base,I.loc,I.cell,I.free,I.freeC,I.pin,I.hok,I.len⟩
theorem Inv.unwish (I:Inv (X.wish E) pins σ H s):Inv X pins σ H s:=⟨I.ok.unwish,I.os,I.bare,I.base,I.loc,I.cell,I.free,I.freeC,I.pin,I.hok,I.len⟩
theorem SP.unwish {D:Ends}{f:Flow}{s':U7}(h:SP (X.wish E) pins D f s'):SP X pins D f s':=by
 cases f with
 | next=>obtain⟨σ',H',I,q⟩:=h;exact⟨σ',H',I.unwish,q⟩
 | brk=>obtain⟨σ',H',I,q⟩:=h;exact⟨σ',H',I.unwish,q⟩
 | cont=>obtain⟨σ',H',I,q⟩:=h;exact⟨σ',H',I.unwish,q⟩
 | ret u=>obtain⟨v,σ',H',I,r,q⟩:=h;exact⟨v,σ',H',I.unwish,r,q⟩
theorem PSs.nox {st:W8}{t:TS}(h:PSs X.nox st t):PSs X st t:=λpins s σ H D I hw =>
 q1y (h pins s σ H D (I.wish _) hw) (λ_ _ q=>q.unwish) λ_ _ z=>False.elim z
end
section
variable {X:Cx}{st:Stmt}{rest:W8}{t u:TS}{e:Expr}{te:TE}{pos:Pos}
def tNext:TS:=λD σ H=>D.nx σ H
def tSeq (t u:TS):TS:=λD σ H=>t { D with nx:=u D } σ H
theorem Z0o:PSs X [] tNext:=λ_ _ σ H _ I h=>q5n ⟨σ,H,I,h⟩
theorem Z0g (h1:PS X st t)(h2:PSs X rest u):PSs X (st::rest) (tSeq t u):=by
 intro pins s σ H D I h
 refine q7n (thn (h1 pins s σ H { D with nx:=u D } I h) λf s1 q=>?_)
 cases f with
 | next =>
  obtain⟨σ',H',I',q⟩:=q
  exact h2 pins s1 σ' H' D I' q
 | ret v=>exact q
 | brk=>exact q
 | cont=>exact q
theorem Z0e (h1:PS X st t):PSs X [st] t:=by
 intro pins s σ H D I h
 refine q7n (thn (h1 pins s σ H D I h) λf s1 q=>?_)
 cases f with
 | next=>exact q5n q
 | ret v=>exact q
 | brk=>exact q
 | cont=>exact q
theorem Inv.quiet {pins:U1}{σ:St}{H:Hp}{s:U7}(I:Inv X pins σ H s):interactive X.env=false:=by simp[interactive,I.ok.kind]
def tDrop (te:TE):TS:=λD σ H=>te σ H λ_ H1=>D.nx σ H1
theorem Z2x (he:PE X e te)(hs:swapsWith e none pos.line X.env=pure false:=by rfl):PS X (.Expr e pos) (tDrop te):=by
 intro pins s σ H D I h
 exact wpAny_Expr_any (thn (he pins s σ H _ I h) λv s1 ⟨x,H1,I1,r1,q1⟩=>⟨σ,H1,I1,q1⟩) I.quiet hs
def tRet (te:TE):TS:=λD σ H=>te σ H D.rt
theorem Z0k (he:PE X e te):PS X (.Return (some e) pos) (tRet te):=by
 intro pins s σ H D I h
 exact wpAny_Return_some (thn (he pins s σ H _ I h) λv s1 ⟨x,H1,I1,r1,q1⟩=>⟨x,σ,H1,I1,r1,q1⟩)
def tIfS (c:TT)(t u:TS):TS:=λD σ H=>c σ H λb H1=>if b=true then t D σ H1 else u D σ H1
theorem Z0w {c:Expr}{a b:W8}{tc:TT}(hc:PT X c tc)(ha:PSs X a t)(hb:PSs X b u):PS X (.If c a b pos) (tIfS tc t u):=by
 intro pins s σ H D I h
 refine wpAny_If (thn (hc pins s σ H _ I h) λd s1 ⟨H1,I1,q1⟩=>?_)
 cases d with
 | true=>exact ha pins s1 σ H1 D I1 q1
 | false=>exact hb pins s1 σ H1 D I1 q1
def tNever:TS:=λ_ _ _=>False
theorem Z2s:PS X st tNever:=λ_ _ _ _ _ _ h=>h.elim
theorem Y6e {sts:W8}:PSs X sts tNever:=λ_ _ _ _ _ _ h=>h.elim
end
abbrev TG:=V->St->Hp->(St->Hp->Prop)->Prop
abbrev TGs:=List V->St->Hp->(St->Hp->Prop)->Prop
def PG (X:Cx)(target:Expr)(t:TG):Prop :=
 ∀ (pins:U1) (s:U7) (σ:St) (H:Hp) (v:V) (u:W2) (Q:St->Hp->Prop),Inv X pins σ H s->RelV v u->t v σ H Q →
  wpAny (model X.prog X.w) X.A (assign target X.env u) (λ_ s'=>∃ σ' H',Inv X pins σ' H' s'/\Q σ' H') X.xe s
def PGs (X:Cx)(ts:List Expr)(t:TGs):Prop :=
 ∀ (pins:U1) (s:U7) (σ:St) (H:Hp) (vs:List V) (us:U5) (Q:St->Hp->Prop),Inv X pins σ H s->Vals vs us->t vs σ H Q →
  wpAny (model X.prog X.w) X.A (assignInOrder ((assignEach ts X.env).map (·.2)) us) (λ_ s'=>∃ σ' H',Inv X pins σ' H' s'/\Q σ' H') X.xe s
section
variable {X:Cx}{pos:Pos}
def gName (i:Nat):TG:=λv σ H Q=>Q (σ.set i (some v)) H
theorem Z0t {i:Nat}{x:Str}(hN:X.N.Nodup)(hi:X.N[i]?=some x)(hx:Loc X.env.scope x)(hf:X.fn x=true∨X.env.scope.names.lookup x=some .local:=by first | exact .inl rfl | exact .inr rfl | assumption):PG X (.Name x pos) (gName i):=by
 intro pins s σ H v u Q I r h
 exact q6w (Z8j I hN hi hx r (λs' I'=>⟨_,H,I',h⟩) hf)
def gNil:TGs:=λvs σ H Q=>vs=[]/\Q σ H
def gCons (t:TG)(u:TGs):TGs:=λvs σ H Q=>∃ v r,vs=v::r/\t v σ H λσ' H'=>u r σ' H' Q
theorem Z7d:PGs X [] gNil:=by
 intro pins s σ H vs us Q I r h
 obtain⟨e,h⟩:=h
 subst e
 cases r
 exact assignInOrder_nil ⟨σ,H,I,h⟩
theorem Z2m {e:Expr}{es:List Expr}{t:TG}{u:TGs}(h1:PG X e t)(h2:PGs X es u)
  (hs:(assignEach (e::es) X.env).map (·.2)=assign e X.env::(assignEach es X.env).map (·.2):=by rfl):PGs X (e::es) (gCons t u):=by
 intro pins s σ H vs us Q I r h
 obtain⟨v,vr,e1,h⟩:=h
 subst e1
 cases r with
 | cons r rr =>
  rw[hs]
  refine assignInOrder_cons (thn (h1 pins s σ H _ _ _ I r h) λ_ s1 ⟨σ1,H1,I1,q1⟩=>?_)
  exact h2 pins s1 σ1 H1 _ _ Q I1 rr q1
def gTup (K:U0)(n:Nat)(t:TGs):TG:=λv σ H Q=>∃ a xs,v=.ref a/\SqT K H a xs/\xs.length=n/\t xs σ H Q
theorem Z9v {es:List Expr}{k:Nat}{t:TGs}{n:Nat}(hc:X.calm=true)(h:PGs X es t)
  (hn:(assignEach es X.env).length=n:=by rfl) (hst:(assignEach es X.env).findIdx? (·.1)=none:=by rfl):PG X (.Tuple es k pos) (gTup X.K n t):=by
 intro pins s σ H v u Q I r hw
 obtain⟨a,xs,e1,hq,hl,hw⟩:=hw
 subst e1
 cases r
 obtain⟨its,rv,ht,hz⟩:=I.tuple hq
 refine assign_Tuple_tuple (I.ok.hd hc) ht (by simp[hn,<-hl,rv.length]) hst λh' hx=>?_
 have I1:Inv X pins σ H { s with heap:=h' }:=I.kept (t':=s.toks) λb o e=>hx b o (q0t (q0h e)) e
 exact h pins _ σ H xs _ Q I1 (by simpa using rv) hw
def tAsg (te:TE)(g:TG):TS:=λD σ H=>te σ H λx H1=>g x σ H1 D.nx
theorem Z0q {i:Nat}{x:Str}{e:Expr}{te:TE}{pos':Pos}(hN:X.N.Nodup)(hi:X.N[i]?=some x)(hx:Loc X.env.scope x)(he:PE X e te)(hs:swapsWith e (some (.Name x pos')) pos.line X.env=pure false:=by rfl)(hf:X.fn x=true∨X.env.scope.names.lookup x=some .local:=by first | exact .inl rfl | exact .inr rfl | assumption) :
  PS X (.Assign [.Name x pos'] e pos) (tAsg te (gName i)):=by
 intro pins s σ H D I h
 refine wpAny_Assign_Name (thn (he pins s σ H _ I h) λv s1 ⟨y,H1,I1,r1,q1⟩=>?_) hs
 exact Z8j I1 hN hi hx r1 (λs2 I2=>⟨_,H1,I2,q1⟩) hf
end
section
variable {X:Cx}{pos:Pos}
def tWhile (c:TT)(tb:TS):TS:=λD σ H=>∃ W:Nat->St->Hp->Prop,(∃ m,W m σ H)/\∀ m σ H,W m σ H →
 c σ H λb H1=>if b=true then ∃ N:St->Hp->Prop,(∀ σ' H',N σ' H'->∃ m',m'<m/\W m' σ' H')/\tb { D with nx:=N,ct:=N,bk:=D.nx } σ H1 else D.nx σ H1
theorem Z4z {c:Expr}{body:W8}{tc:TT}{tb:TS}(hp:PassesOwn (model X.prog X.w) X.A X.env X.xe)(hc:PT X c tc)(hb:PSs X body tb):PS X (.While c body [] pos) (tWhile tc tb):=by
 intro pins s σ H D I h
 obtain⟨W,⟨m0,w0⟩,turn⟩:=h
 refine wpAny_While (codeAny_whileLoop (λn s'=>∃ σ' H',Inv X pins σ' H' s'/\W n σ' H') ?_ m0 ⟨σ,H,I,w0⟩)
 rintro n s1 ⟨σ1,H1,I1,w1⟩
 refine q4a hp (thn (hc pins s1 σ1 H1 _ I1 (turn n σ1 H1 w1)) λb s2 ⟨H2,I2,q2⟩=>?_)
 cases b with
 | true =>
  obtain⟨N,hN,q2⟩:=q2
  rw[if_pos rfl]
  refine q4a hp (thn (hb pins s2 σ1 H2 _ I2 q2) λf s3 q3=>?_)
  cases f with
  | next =>
   obtain⟨σ3,H3,I3,n3⟩:=q3
   obtain⟨m',hm,w3⟩:=hN σ3 H3 n3
   exact⟨m',hm,σ3,H3,I3,w3⟩
  | cont =>
   obtain⟨σ3,H3,I3,n3⟩:=q3
   obtain⟨m',hm,w3⟩:=hN σ3 H3 n3
   exact⟨m',hm,σ3,H3,I3,w3⟩
  | brk=>exact q3
  | ret v=>exact q3
 | false =>
  rw[if_neg q0y]
  exact q5n ⟨σ1,H2,I2,q2⟩
end
structure It where
 go:Nat->Hp->Prop
 yld:Nat->Hp->V->Hp->Prop
 stop:Nat->Hp->Prop
def FpOk (X:Cx)(pins:U1)(H:Hp)(b:W9):Prop :=
 H b=none/\b≠X.env.locals/\b ∉ X.fs/\(b∈X.ex∨X.s₀.heap.objs.size<=b)/\(∀ x c,X.env.cells.lookup x=some c->c≠b)/\∀ p∈X.pn++pins,p.1≠b
theorem Inv.fpOk {X:Cx}{pins:U1}{σ:St}{H H':Hp}{s:U7}{b:W9}(I:Inv X pins σ H s)(hb:s.heap.objs.size<=b)(hn:H' b=none):FpOk X pins H' b:=by
 refine⟨hn,q3o (q0f I.lt hb),I.nofs hb,.inr (q1b I.sz hb),λx c e z=>?_,λp hp z=>?_⟩
 ·obtain⟨v,q⟩:=I.cell x c e
  exact absurd (q0f q.lt (by rw[z];exact hb)) (q3m _)
 ·exact absurd (q0f (q0h (I.pin p hp).1) (by rw[z];exact hb)) (q3m _)
structure Turn (P:U8) (w:W1) (K:U0) (tg:Expr) (J:It) (fp:U3) (it:W9) (tn:Nat->Heap->Prop):Prop where
 mem:it∈fp
 obj:∀ i h,tn i h->∀ b∈fp,∃ o,h.get? b=some o/\∀ v,o.data≠.cell v
 keep:∀ i h h',tn i h->(∀ b∈fp,∀ o,h.get? b=some o->h'.get? b=some o)->tn i h'
 item:∀ (X:Cx),X.prog=P->X.w=w->X.K=K->X.calm=true->∀ (i:Nat) (pins:U1) (s:U7) (σ:St) (H:Hp) (E:U2),Inv X pins σ H s->(∀ b∈fp,FpOk X pins H b)->tn i s.heap->J.go i H →
  wpAny (model P w) X.A (pyNext (.ref it)) (λr s1=>∃ u,r=some u ∧
   wpAny (model P w) X.A (letOwnedTupleGo tg (.ref it) u) (λ_ s2=>∃ x H',Inv X pins σ H' s2/\RelV x u/\J.yld i H x H'/\tn (i+1) s2.heap/\∀ b∈fp,H' b=none) E s1) E s
 done:∀ (X:Cx),X.prog=P->X.w=w->X.K=K->X.calm=true->∀ (i:Nat) (pins:U1) (s:U7) (σ:St) (H:Hp) (E:U2),Inv X pins σ H s->(∀ b∈fp,FpOk X pins H b)->tn i s.heap->J.stop i H →
  wpAny (model P w) X.A (pyNext (.ref it)) (λr s1=>r=none/\Inv X pins σ H s1) E s
 self:∀ (A:W6) (i:Nat) (s:U7) (Q:U2) (E:U2),tn i s.heap->Q (.ref it) s->wpAny (model P w) A (pyIter (.ref it)) Q E s
abbrev TI:=St->Hp->(It->Hp->Prop)->Prop
def PIE (X:Cx)(pins:U1)(σ:St)(tg:Expr)(R:It->Hp->Prop)(itv:W2)(s2:U7):Prop :=
 ∃ (it:W9) (fp:U3) (tn:Nat->Heap->Prop) (J:It) (H':Hp),itv=.ref it/\Inv X pins σ H' s2/\Turn X.prog X.w X.K tg J fp it tn/\tn 0 s2.heap/\(∀ b∈fp,FpOk X pins H' b)/\R J H'
def PI (X:Cx)(tg iter:Expr)(wi:TI):Prop :=
 ∀ (pins:U1) (s:U7) (σ:St) (H:Hp) (R:It->Hp->Prop),Inv X pins σ H s->wi σ H R →
  wpAny (model X.prog X.w) X.A (eval iter X.env) (λv s1=>wpAny (model X.prog X.w) X.A (pyIter v) (PIE X pins σ tg R) X.xe s1) X.xe s
theorem X1l {M:Model}{A:W6}{E:U2}{s:U7}{tg:Expr}{it:W9}{u:W2}{o:Obj}{n:String}{vs:U9}{Q:Unit->Shared->Prop}(ho:s.heap.get? it=some o)(hc:o.cls=.type n)(hd:o.data=.fields vs)
  (hn:["enumerate","zip","dict_itemiterator","dict_reverseitemiterator","odict_iterator","itertools.zip_longest","itertools.pairwise"].contains n=false) (hQ:Q () s):wpAny M A (letOwnedTupleGo tg (.ref it) u) Q E s:=by
 unfold letOwnedTupleGo
 cases tg<;>first
  | exact q0m hQ
  | (cases u<;>first
    | exact q0m hQ
    | (refine q0c (wpAny_load ho ?_);rw[hc,hd];show wpAny M A (if (["enumerate","zip","dict_itemiterator","dict_reverseitemiterator","odict_iterator","itertools.zip_longest","itertools.pairwise"].contains n && vs[0]? == some (rawInt _))=true then _ else _) Q E s;rw[if_neg (by intro h;rw[hn,q3y] at h;cases h)];exact q0m hQ))
def Itl (K:U0)(a:W9):It :=
 ⟨λi H=>∃ xs x,SqL K H a xs/\xs[i]?=some x,λi H x H'=>H'=H/\∀ xs,SqL K H a xs->xs[i]?=some x,λi H=>∃ xs,SqL K H a xs/\xs.length<=i⟩
def Itt (K:U0)(a:W9):It :=
 ⟨λi H=>∃ xs x,SqT K H a xs/\xs[i]?=some x,λi H x H'=>H'=H/\∀ xs,SqT K H a xs->xs[i]?=some x,λi H=>∃ xs,SqT K H a xs/\xs.length<=i⟩
def Itr (lo:Int)(n:Nat):It:=⟨λi _=>i<n,λi H x H'=>H'=H/\x=.int (lo+i),λi _=>n<=i⟩
theorem Y5h {P:U8}{w:W1}{K:U0}{tg:Expr}(a it:W9):Turn P w K tg (Itl K a) [it] it (λi h=>h.IsListIter it a i) where
 mem:=by simp
 obj:=λi h st b hb=>by
  have e:b=it:=by simpa using hb
  subst e
  obtain⟨o,e,c,d⟩:=st
  exact⟨o,e,λv z=>by rw[d] at z;cases z⟩
 keep:=λi h h' st k=>st.at λo e=>k it (by simp) o e
 item:=by
  intro X hP hw hK hc i pins s σ H E I hf st hg
  subst hP hw hK
  obtain⟨xs,x,hq,hx⟩:=hg
  obtain⟨its,rv,p,hz⟩:=I.list hq
  obtain⟨u,hu,ru⟩:=rv.get hx
  obtain⟨f0,f1,f2,f3,f4,f5⟩:=hf it (by simp)
  refine wpAny_pyNext_list_item st p.isList (x:=u) (by simpa using hu) λh' st' sb=>?_
  have I1:Inv X pins σ H { s with heap:=h' }:=I.turned (t':=s.toks) (λb o hb e=>(sb.2 b hb).trans e) f0 f1 f3 f4 f5
  obtain⟨o,e,c,d⟩:=id st'
  exact⟨u,U,X1l (s:={ s with heap:=h' }) e c d (by decide) ⟨x,H,I1,ru,⟨U,λys hy=>by rw[I.list_inj hy hq];exact hx⟩,st',λb hb=>(hf b hb).1⟩⟩
 done:=by
  intro X hP hw hK hc i pins s σ H E I hf st hg
  subst hP hw hK
  obtain⟨xs,hq,hx⟩:=hg
  obtain⟨its,rv,p,hz⟩:=I.list hq
  obtain⟨f0,f1,f2,f3,f4,f5⟩:=hf it (by simp)
  have hl:=rv.length
  exact wpAny_pyNext_list_end (I.ok.hd hc) st p.isList (by simp;omega) λh' eb=>⟨U,I.turned (t':=s.toks) (λb o hb e=>eb b o hb e) f0 f1 f3 f4 f5⟩
 self:=λ_ _ _ _ _ st h=>wpAny_pyIter_listiter st h
theorem Y4d {P:U8}{w:W1}{K:U0}{tg:Expr}(a it:W9):Turn P w K tg (Itt K a) [it] it (λi h=>h.IsTupleIter it a i) where
 mem:=by simp
 obj:=λi h st b hb=>by
  have e:b=it:=by simpa using hb
  subst e
  obtain⟨o,e,c,d⟩:=st
  exact⟨o,e,λv z=>by rw[d] at z;cases z⟩
 keep:=λi h h' st k=>st.at λo e=>k it (by simp) o e
 item:=by
  intro X hP hw hK hc i pins s σ H E I hf st hg
  subst hP hw hK
  obtain⟨xs,x,hq,hx⟩:=hg
  obtain⟨its,rv,p,hz⟩:=I.tuple hq
  obtain⟨u,hu,ru⟩:=rv.get hx
  obtain⟨f0,f1,f2,f3,f4,f5⟩:=hf it (by simp)
  refine wpAny_pyNext_tuple_item st (show s.heap.IsTuple a its.toArray from p) (x:=u) (by simpa using hu) λh' st' sb=>?_
  have I1:Inv X pins σ H { s with heap:=h' }:=I.turned (t':=s.toks) (λb o hb e=>(sb.2 b hb).trans e) f0 f1 f3 f4 f5
  obtain⟨o,e,c,d⟩:=id st'
  exact⟨u,U,X1l (s:={ s with heap:=h' }) e c d (by decide) ⟨x,H,I1,ru,⟨U,λys hy=>by rw[I.tuple_inj hy hq];exact hx⟩,st',λb hb=>(hf b hb).1⟩⟩
 done:=by
  intro X hP hw hK hc i pins s σ H E I hf st hg
  subst hP hw hK
  obtain⟨xs,hq,hx⟩:=hg
  obtain⟨its,rv,p,hz⟩:=I.tuple hq
  obtain⟨f0,f1,f2,f3,f4,f5⟩:=hf it (by simp)
  have hl:=rv.length
  exact wpAny_pyNext_tuple_end (I.ok.hd hc) st (show s.heap.IsTuple a its.toArray from p) (by simp;omega) λh' eb=>⟨U,I.turned (t':=s.toks) (λb o hb e=>eb b o hb e) f0 f1 f3 f4 f5⟩
 self:=λ_ _ _ _ _ st h=>wpAny_pyIter_tupleiter st h
theorem Y4e {P:U8}{w:W1}{K:U0}{tg:Expr}(it:W9)(lo:Int)(n:Nat):Turn P w K tg (Itr lo n) [it] it (λi h=>IsRangeIter h it (lo+(i:Nat)*1) ((n:Int)-(i:Nat)) 1) where
 mem:=by simp
 obj:=λi h st b hb=>by
  have e:b=it:=by simpa using hb
  subst e
  exact⟨_,st,λv z=>by
   have z':Data.fields _=Data.cell v:=z
   cases z'⟩
 keep:=λi h h' st k=>k it (by simp) _ st
 item:=by
  intro X hP hw hK hc i pins s σ H E I hf st hg
  subst hP hw hK
  obtain⟨f0,f1,f2,f3,f4,f5⟩:=hf it (by simp)
  have W:=Walks.range (prog:=X.prog) (w:=X.w) (I.ok.hd hc) it lo 1 n
  refine W.item i s _ _ hg st λv h' tk hv st' kk=>?_
  obtain⟨t,rfl⟩:=hv
  have I1:Inv X pins σ H { s with heap:=h',toks:=tk }:=I.turned (λb o hb e=>kk b o (by simpa using hb) e) f0 f1 f3 f4 f5
  refine⟨_,U,X1l (s:={ s with heap:=h',toks:=tk }) (n:="range_iterator") st' rfl rfl (by decide) ⟨.int (lo+i),H,I1,⟨t,?_⟩,⟨U,U⟩,st',λb hb=>(hf b hb).1⟩⟩
  rw[Int.mul_one]
 done:=by
  intro X hP hw hK hc i pins s σ H E I hf st hg
  subst hP hw hK
  obtain⟨f0,f1,f2,f3,f4,f5⟩:=hf it (by simp)
  exact wpAny_pyNext_range_end (I.ok.hd hc) st (by have:n<=i:=hg;omega) λh' eb=>⟨U,I.turned (t':=s.toks) (λb o hb e=>eb b o hb e) f0 f1 f3 f4 f5⟩
 self:=λ_ _ _ _ _ st h=>wpAny_pyIter_rangeiter st h
section
variable {X:Cx}{tg:Expr}
def iList (K:U0)(tl:TE):TI:=λσ H R=>tl σ H λx H1=>∃ a,x=.ref a/\(∃ xs,SqL K H1 a xs)/\R (Itl K a) H1
def iTup (K:U0)(tl:TE):TI:=λσ H R=>tl σ H λx H1=>∃ a,x=.ref a/\(∃ xs,SqT K H1 a xs)/\R (Itt K a) H1
theorem Z1p {l:Expr}{tl:TE}(hl:PE X l tl):PI X tg l (iList X.K tl):=by
 intro pins s σ H R I h
 refine thn (hl pins s σ H _ I h) λv s1 ⟨x,H1,I1,r1,q1⟩=>?_
 obtain⟨a,e,⟨xs,hq⟩,q⟩:=q1
 subst e
 cases r1
 obtain⟨its,rv,p,hz⟩:=I1.list hq
 refine q5x p.isList ?_
 refine⟨s1.heap.objs.size,[s1.heap.objs.size],_,_,H1,U,I1.kept (t':=s1.toks) λb o e=>q0e _ e,Y5h a _,⟨_,q0n _ rfl,U,U⟩,λb hb=>?_,q⟩
 have e:b=s1.heap.objs.size:=by simpa using hb
 subst e
 exact I1.fpOk (q0l _) (I1.hok.fresh (q0l _))
theorem Y2x {l:Expr}{tl:TE}(hl:PE X l tl):PI X tg l (iTup X.K tl):=by
 intro pins s σ H R I h
 refine thn (hl pins s σ H _ I h) λv s1 ⟨x,H1,I1,r1,q1⟩=>?_
 obtain⟨a,e,⟨xs,hq⟩,q⟩:=q1
 subst e
 cases r1
 obtain⟨its,rv,p,hz⟩:=I1.tuple hq
 refine q5m (show s1.heap.IsTuple a its.toArray from p) ?_
 refine⟨s1.heap.objs.size,[s1.heap.objs.size],_,_,H1,U,I1.kept (t':=s1.toks) λb o e=>q0e _ e,Y4d a _,⟨_,q0n _ rfl,U,U⟩,λb hb=>?_,q⟩
 have e:b=s1.heap.objs.size:=by simpa using hb
 subst e
 exact I1.fpOk (q0l _) (I1.hok.fresh (q0l _))
theorem Y2w {pins:U1}{σ:St}{H:Hp}{s:U7}{R:It->Hp->Prop}{E:U2}{lo hi:Int}{t u v:Tok}{tk:Nat}(I:Inv X pins σ H s)(h1:-(2^62)<=lo)(h2:lo<2^62)(h3:-(2^62)<=hi)(h4:hi<2^62)
  (q:R (Itr lo (hi-lo).toNat) H):wpAny (model X.prog X.w) X.A (pyIter (.ref s.heap.objs.size)) (PIE X pins σ tg R) E { s with heap:=s.heap.push { cls:=.type "range",data:=.fields #[.int lo t,.int hi u,.int 1 v] },toks:=tk }:=by
 refine wpAny_pyIter_range (IsRange.new ..) (small_one h1 h2 h3 h4) ?_
 have I1:Inv X pins σ H { s with heap:=s.heap.push { cls:=.type "range",data:=.fields #[.int lo t,.int hi u,.int 1 v] },toks:=tk }:=I.kept λb o e=>q0e _ e
 refine⟨(s.heap.push { cls:=.type "range",data:=.fields #[.int lo t,.int hi u,.int 1 v] }).objs.size,[(s.heap.push { cls:=.type "range",data:=.fields #[.int lo t,.int hi u,.int 1 v] }).objs.size],_,_,H,U,
  I1.kept (t':=tk) λb o e=>q0e _ e,Y4e _ lo (hi-lo).toNat,?_,λb hb=>?_,q⟩
 ·have e1:lo+((0:Nat):Int)*1=lo:=by simp
  have e2:(((hi-lo).toNat:Nat):Int)-((0:Nat):Int)=Builtin.Range.rangeSize lo hi 1:=by rw[rangeSize_one];split<;>omega
  show IsRangeIter _ _ (lo+((0:Nat):Int)*1) ((((hi-lo).toNat:Nat):Int)-((0:Nat):Int)) 1
  rw[e1,e2]
  exact q0n _ rfl
 ·have e:b=(s.heap.push { cls:=.type "range",data:=.fields #[.int lo t,.int hi u,.int 1 v] }).objs.size:=by simpa using hb
  subst e
  exact I1.fpOk (q0l _) (I1.hok.fresh (q0l _))
def iRng1 (ta:TA):TI:=λσ H R=>ta σ H λvs H1=>∃ j:Int,vs=[.int j]/\-(2^62)<=j/\j<2^62/\R (Itr 0 j.toNat) H1
def iRng2 (ta:TA):TI:=λσ H R=>ta σ H λvs H1=>∃ i j:Int,vs=[.int i,.int j]/\(-(2^62)<=i/\i<2^62/\-(2^62)<=j/\j<2^62)/\R (Itr i (j-i).toNat) H1
theorem Z1v {a:Expr}{ta:TA}{p pos:Pos}(hg:Gl X "range")(hm:X.mg "range"=none)(ha:PA X [a] ta)(hs:starEach [a] X.env=[(false,eval a X.env)]:=by rfl):PI X tg (.Call (.Name "range" p) [a] [] pos) (iRng1 ta):=by
 intro pins s σ H R I h
 refine Call_ (Z6d I hg hm boot_range (PyProof.Rows.callWith_type1 (thn (ha pos pins s σ H _ I h) λus s1 ⟨vs,H1,I1,r1,q1⟩=>?_) hs rfl))
 obtain⟨j,e,q1,q2,q⟩:=q1
 subst e
 cases r1 with
 | cons r rr =>
  cases rr
  obtain⟨t,rfl⟩:=r
  exact call_range_1 (Y2w I1 (by omega) (by omega) q1 q2 (by simpa using q))
theorem Y6l {a b:Expr}{ta:TA}{p pos:Pos}(hg:Gl X "range")(hm:X.mg "range"=none)(ha:PA X [a,b] ta)(hs:starEach [a,b] X.env=[(false,eval a X.env),(false,eval b X.env)]:=by rfl)(hs2:starEach [b] X.env=[(false,eval b X.env)]:=by rfl) :
  PI X tg (.Call (.Name "range" p) [a,b] [] pos) (iRng2 ta):=by
 intro pins s σ H R I h
 refine Call_ (Z6d I hg hm boot_range (PyProof.Rows.callWith_type1 (thn (ha pos pins s σ H _ I h) λus s1 ⟨vs,H1,I1,r1,q1⟩=>?_) (by rw[hs,hs2]) (by rw[hs2];rfl)))
 obtain⟨i,j,e,⟨q1,q2,q3,q4⟩,q⟩:=q1
 subst e
 cases r1 with
 | cons r rr =>
  cases rr with
  | cons r' rr =>
   cases rr
   obtain⟨t,rfl⟩:=r
   obtain⟨t',rfl⟩:=r'
   exact call_range_2 (Y2w I1 q1 q2 q3 q4 q)
def tFor (wi:TI)(g:TG)(tb:TS):TS:=λD σ H=>wi σ H λJ H1=>∃ W:Nat->Nat->St->Hp->Prop,(∃ m,W 0 m σ H1)/\∀ i m σ H,W i m σ H →
 (J.stop i H/\D.nx σ H)∨(J.go i H/\∃ N:St->Hp->Prop,(∀ σ' H',N σ' H'->∃ m',m'<m/\W (i+1) m' σ' H')/\∀ x H',J.yld i H x H'->g x σ H' λσ2 H2=>tb { D with nx:=N,ct:=N,bk:=D.nx } σ2 H2)
noncomputable def pinsAt (fp:U3)(h:Heap):List (Addr × Obj):=fp.filterMap λb=>(h.get? b).map λo=>(b,o)
theorem Z2t {fp:U3}{h:Heap}{b:W9}{o:Obj}(hb:b∈fp)(e:h.get? b=some o):(b,o)∈pinsAt fp h:=List.mem_filterMap.mpr ⟨b,hb,by rw[e];rfl⟩
theorem Y7n {fp:U3}{h:Heap}{p:Addr × Obj}(hp:p∈pinsAt fp h):p.1∈fp/\h.get? p.1=some p.2:=by
 obtain⟨b,hb,e⟩:=List.mem_filterMap.mp hp
 cases q:h.get? b with
 | none=>rw[q] at e;cases e
 | some o =>
  rw[q] at e
  have e':(b,o)=p:=Option.some.inj e
  subst e'
  exact⟨hb,q⟩
theorem Inv.pinned {pins:U1}{σ:St}{H:Hp}{s:U7}{fp:U3}(I:Inv X pins σ H s)(hf:∀ b∈fp,FpOk X pins H b)(ho:∀ b∈fp,∃ o,s.heap.get? b=some o/\∀ v,o.data≠.cell v):Inv X (pins++pinsAt fp s.heap) σ H s :=
 I.pins_of λp hp=>(q1n.mp hp).elim (λz=>I.pin p (q1h _ z)) λz=>by
  obtain⟨hb,e⟩:=Y7n z
  obtain⟨f0,f1,f2,_⟩:=hf p.1 hb
  obtain⟨o,e',d⟩:=ho p.1 hb
  rw[e] at e';cases e'
  exact⟨e,f0,f1,f2,d⟩
theorem Inv.unpinned {pins pl:U1}{σ:St}{H:Hp}{s:U7}(I:Inv X (pins++pl) σ H s):Inv X pins σ H s:=I.pins_of λp hp=>I.pin p (q1h _ (q2d _ hp))
theorem Z2w {iter:Expr}{body:W8}{wi:TI}{g:TG}{tb:TS}{pos:Pos}(hp:PassesOwn (model X.prog X.w) X.A X.env X.xe)(hc:X.calm=true)(hi:PI X tg iter wi)(hg:PG X tg g)(hb:PSs X body tb)
  (hs:∀ x,foldedSetIterable iter X.env x=pure x:=by intro _;rfl):PS X (.For tg iter body [] pos) (tFor wi g tb):=by
 intro pins s σ H D I h
 refine wpAny_For (thn (hi pins s σ H _ I h) λv s1 h1=>thn h1 λitv s2 h2=>?_) hs
 obtain⟨it,fp,tn,J,H2,e,I2,T,st2,f2,W,⟨m0,w0⟩,turn⟩:=h2
 subst e
 have stat:∀ {H':Hp},(∀ b∈fp,H' b=none)->∀ b∈fp,FpOk X pins H' b:=λhn b hb=>⟨hn b hb,(f2 b hb).2⟩
 refine codeAny_forLoop_any (λn s'=>∃ i σ' H',Inv X pins σ' H' s'/\tn i s'.heap/\(∀ b∈fp,H' b=none)/\W i n σ' H') ?_ m0 ⟨0,σ,H2,I2,st2,λb hb=>(f2 b hb).1,w0⟩
 rintro n s3 ⟨i,σ3,H3,I3,st3,fr3,w3⟩
 rcases turn i n σ3 H3 w3 with ⟨stop,qn⟩ | ⟨go,N,hN,step⟩
 ·refine q4a hp (thn (T.done X rfl rfl rfl hc i pins s3 σ3 H3 X.xe I3 (stat fr3) st3 stop) λr s4 ⟨hr,I4⟩=>?_)
  subst hr
  exact q5n ⟨σ3,H3,I4,qn⟩
 ·refine q4a hp (thn (T.item X rfl rfl rfl hc i pins s3 σ3 H3 X.xe I3 (stat fr3) st3 go) λr s4 ⟨u,hr,h4⟩=>?_)
  subst hr
  refine q4a hp (thn h4 λ_ s5 ⟨x,H5,I5,r5,y5,st5,fr5⟩=>?_)
  have I5':=I5.pinned (stat fr5) (T.obj _ _ st5)
  refine q4a hp (thn (hg _ s5 σ3 H5 x u _ I5' r5 (step x H5 y5)) λ_ s6 ⟨σ6,H6,I6,q6⟩=>?_)
  refine q4a hp (thn (hb _ s6 σ6 H6 _ I6 q6) λf s7 q7=>?_)
  have again:∀ {σ7:St}{H7:Hp},Inv X (pins++pinsAt fp s5.heap) σ7 H7 s7->N σ7 H7->∃ m,m<n/\∃ i σ' H',Inv X pins σ' H' s7/\tn i s7.heap/\(∀ b∈fp,H' b=none)/\W i m σ' H':=λ{σ7 H7} I7 n7=>by
   obtain⟨m',hm,w7⟩:=hN σ7 H7 n7
   refine⟨m',hm,i+1,σ7,H7,I7.unpinned,T.keep _ _ _ st5 λb hb o e=>(I7.pin (b,o) (q1h _ (q1h _ (Z2t hb e)))).1,λb hb=>?_,w7⟩
   obtain⟨o,e,d⟩:=T.obj _ _ st5 b hb
   exact(I7.pin (b,o) (q1h _ (q1h _ (Z2t hb e)))).2.1
  cases f with
  | next=>obtain⟨σ7,H7,I7,n7⟩:=q7;exact again I7 n7
  | cont=>obtain⟨σ7,H7,I7,n7⟩:=q7;exact again I7 n7
  | brk=>obtain⟨σ7,H7,I7,q7⟩:=q7;exact⟨σ7,H7,I7.unpinned,q7⟩
  | ret v=>obtain⟨x7,σ7,H7,I7,r7,q7⟩:=q7;exact⟨x7,σ7,H7,I7.unpinned,r7,q7⟩
end
theorem Z3d {K:U0}{a:W9}{xs:List V}{g:TG}{tb:TS}{D:Ends}{σ:St}{H:Hp}(Pv:Nat->St->Hp->Prop)(h0:Pv 0 σ H)(hl:∀ i σ H,i<=xs.length->Pv i σ H->SqL K H a xs)
  (hs:∀ i x σ H,xs[i]?=some x->Pv i σ H->g x σ H λσ2 H2=>tb { D with nx:=Pv (i+1),ct:=Pv (i+1),bk:=D.nx } σ2 H2) (hd:∀ σ H,Pv xs.length σ H->D.nx σ H) :
  ∃ W:Nat->Nat->St->Hp->Prop,(∃ m,W 0 m σ H)/\∀ i m σ H,W i m σ H →
   ((Itl K a).stop i H/\D.nx σ H)∨((Itl K a).go i H/\∃ N:St->Hp->Prop,(∀ σ' H',N σ' H'->∃ m',m'<m/\W (i+1) m' σ' H')/\∀ x H',(Itl K a).yld i H x H'->g x σ H' λσ2 H2=>tb { D with nx:=N,ct:=N,bk:=D.nx } σ2 H2):=by
 refine⟨λi m σ H=>m=xs.length-i/\i<=xs.length/\Pv i σ H,⟨xs.length,by simp,q1o _,h0⟩,?_⟩
 rintro i m σ H ⟨rfl,hi,p⟩
 have q:=hl i σ H hi p
 by_cases hlt:i<xs.length
 ·refine .inr ⟨⟨xs,xs[i],q,by simp[hlt]⟩,Pv (i+1),λσ' H' p'=>⟨xs.length-(i+1),by omega,U,hlt,p'⟩,λx H' y=>?_⟩
  obtain⟨e,y⟩:=y
  subst e
  exact hs i x σ _ (y xs q) p
 ·have e:i=xs.length:=by omega
  subst e
  exact .inl ⟨⟨xs,q,q0l _⟩,hd σ H p⟩
theorem X6k {K:U0}{a:W9}{xs:List V}{g:TG}{tb:TS}{D:Ends}{σ:St}{H:Hp}(Pv:Nat->St->Hp->Prop)(h0:Pv 0 σ H)(hl:∀ i σ H,i<=xs.length->Pv i σ H->SqT K H a xs)
  (hs:∀ i x σ H,xs[i]?=some x->Pv i σ H->g x σ H λσ2 H2=>tb { D with nx:=Pv (i+1),ct:=Pv (i+1),bk:=D.nx } σ2 H2) (hd:∀ σ H,Pv xs.length σ H->D.nx σ H) :
  ∃ W:Nat->Nat->St->Hp->Prop,(∃ m,W 0 m σ H)/\∀ i m σ H,W i m σ H →
   ((Itt K a).stop i H/\D.nx σ H)∨((Itt K a).go i H/\∃ N:St->Hp->Prop,(∀ σ' H',N σ' H'->∃ m',m'<m/\W (i+1) m' σ' H')/\∀ x H',(Itt K a).yld i H x H'->g x σ H' λσ2 H2=>tb { D with nx:=N,ct:=N,bk:=D.nx } σ2 H2):=by
 refine⟨λi m σ H=>m=xs.length-i/\i<=xs.length/\Pv i σ H,⟨xs.length,by simp,q1o _,h0⟩,?_⟩
 rintro i m σ H ⟨rfl,hi,p⟩
 have q:=hl i σ H hi p
 by_cases hlt:i<xs.length
 ·refine .inr ⟨⟨xs,xs[i],q,by simp[hlt]⟩,Pv (i+1),λσ' H' p'=>⟨xs.length-(i+1),by omega,U,hlt,p'⟩,λx H' y=>?_⟩
  obtain⟨e,y⟩:=y
  subst e
  exact hs i x σ _ (y xs q) p
 ·have e:i=xs.length:=by omega
  subst e
  exact .inl ⟨⟨xs,q,q0l _⟩,hd σ H p⟩
theorem Z7k {lo:Int}{n:Nat}{g:TG}{tb:TS}{D:Ends}{σ:St}{H:Hp}(Pv:Nat->St->Hp->Prop)(h0:Pv 0 σ H)
  (hs:∀ i σ H,i<n->Pv i σ H->g (.int (lo+i)) σ H λσ2 H2=>tb { D with nx:=Pv (i+1),ct:=Pv (i+1),bk:=D.nx } σ2 H2) (hd:∀ σ H,Pv n σ H->D.nx σ H) :
  ∃ W:Nat->Nat->St->Hp->Prop,(∃ m,W 0 m σ H)/\∀ i m σ H,W i m σ H →
   ((Itr lo n).stop i H/\D.nx σ H)∨((Itr lo n).go i H/\∃ N:St->Hp->Prop,(∀ σ' H',N σ' H'->∃ m',m'<m/\W (i+1) m' σ' H')/\∀ x H',(Itr lo n).yld i H x H'->g x σ H' λσ2 H2=>tb { D with nx:=N,ct:=N,bk:=D.nx } σ2 H2):=by
 refine⟨λi m σ H=>m=n-i/\i<=n/\Pv i σ H,⟨n,by simp,q1o _,h0⟩,?_⟩
 rintro i m σ H ⟨rfl,hi,p⟩
 by_cases hlt:i<n
 ·refine .inr ⟨hlt,Pv (i+1),λσ' H' p'=>⟨n-(i+1),by omega,U,hlt,p'⟩,λx H' y=>?_⟩
  obtain⟨e,y⟩:=y
  subst e y
  exact hs i σ _ hlt p
 ·have e:i=n:=by omega
  subst e
  exact .inl ⟨q0l _,hd σ H p⟩
abbrev R2:=V->V->Hp->VK->Prop
def OpR (X:Cx)(f:Value->Value->Sem Value)(r:R2):Prop :=
 ∀ (pins:U1) (s:U7) (σ:St) (H:Hp) (x y:V) (v u:W2) (Q:VK),Inv X pins σ H s->RelV x v->RelV y u->r x y H Q →
  wpAny (model X.prog X.w) X.A (f v u) (EP X pins σ Q) X.xe s
def UnR (X:Cx)(f:Value->Sem Value)(r:V->Hp->VK->Prop):Prop :=
 ∀ (pins:U1) (s:U7) (σ:St) (H:Hp) (x:V) (v:W2) (Q:VK),Inv X pins σ H s->RelV x v->r x H Q →
  wpAny (model X.prog X.w) X.A (f v) (EP X pins σ Q) X.xe s
def CallR (X:Cx)(f:W2)(r:List V->Hp->VK->Prop):Prop :=
 ∀ (pins:U1) (s:U7) (σ:St) (H:Hp) (xs:List V) (us:U5) (Q:VK),Inv X pins σ H s->Vals xs us->r xs H Q →
  wpAny (model X.prog X.w) X.A (call f us) (EP X pins σ Q) X.xe s
def TruR (X:Cx)(r:V->Hp->(Bool->Hp->Prop)->Prop):Prop :=
 ∀ (pins:U1) (s:U7) (σ:St) (H:Hp) (x:V) (v:W2) (Q:Bool->Hp->Prop),Inv X pins σ H s->RelV x v->r x H Q →
  wpAny (model X.prog X.w) X.A (truthy v) (TP X pins σ Q) X.xe s
def tOp (r:R2)(ta tb:TE):TE:=λσ H Q=>ta σ H λx H1=>tb σ H1 λy H2=>r x y H2 Q
def tUn (r:V->Hp->VK->Prop)(ta:TE):TE:=λσ H Q=>ta σ H λx H1=>r x H1 Q
def rI (C:Int->Int->Prop)(g:Int->Int->V):R2:=λx y H Q=>∃ i j,x=.int i/\y=.int j/\C i j/\Q (g i j) H
def rI0 (g:Int->Int->V):R2:=λx y H Q=>∃ i j,x=.int i/\y=.int j/\Q (g i j) H
def rU (g:Int->V):V->Hp->VK->Prop:=λx H Q=>∃ i,x=.int i/\Q (g i) H
section
variable {X:Cx}{a b c:Expr}{ta tb tc:TE}{pos:Pos}
theorem binT (ha:PE X a ta)(hb:PE X b tb){pins:U1}{s:U7}{σ:St}{H:Hp}{R:V->V->Hp->Prop}(I:Inv X pins σ H s)
  (h:ta σ H λx H1=>tb σ H1 λy H2=>R x y H2) {Q:U2}{f:Value->Value->Sem Value}
  (hf:∀ v u s2 x y H2,Inv X pins σ H2 s2->RelV x v->RelV y u->R x y H2->wpAny (model X.prog X.w) X.A (f v u) Q X.xe s2) :
  wpAny (model X.prog X.w) X.A (eval a X.env) (λv s₁=>wpAny (model X.prog X.w) X.A (eval b X.env) (λu s₂=>wpAny (model X.prog X.w) X.A (f v u) Q X.xe s₂) X.xe s₁) X.xe s:=by
 refine thn (ha pins s σ H _ I h) λv s1 ⟨x,H1,I1,r1,q1⟩=>?_
 refine thn (hb pins s1 σ H1 _ I1 q1) λu s2 ⟨y,H2,I2,r2,q2⟩=>?_
 exact hf v u s2 x y H2 I2 r1 r2 q2
theorem Z0j {op:Operator}{r:R2}(ho:OpR X (binaryOp op) r)(ha:PE X a ta)(hb:PE X b tb):PE X (.BinOp a op b pos) (tOp r ta tb):=by
 intro pins s σ H Q I h
 exact wpAny_BinOp (binT ha hb I h λv u s2 x y H2 I2 rx ry q=>ho pins s2 σ H2 x y v u Q I2 rx ry q)
theorem Y6m {op:UnaryOp}{r:V->Hp->VK->Prop}(ho:UnR X (unaryOp op) r)(ha:PE X a ta):PE X (.UnaryOp op a pos) (tUn r ta):=by
 intro pins s σ H Q I h
 exact UnaryOp_ (thn (ha pins s σ H _ I h) λv s1 ⟨x,H1,I1,r1,q1⟩=>ho pins s1 σ H1 x v Q I1 r1 q1)
theorem opI {f:Value->Value->Sem Value}{C:Int->Int->Prop}{g:Int->Int->Int}
  (rule:∀ (i j:Int) (t u:Tok) (s:U7) (Q:U2) (E:U2),C i j->Q (.int (g i j) s.toks) { s with toks:=s.toks+1 }->wpAny (model X.prog X.w) X.A (f (.int i t) (.int j u)) Q E s) :
  OpR X f (rI C λi j=>.int (g i j)):=by
 intro pins s σ H x y v u Q I rx ry h
 obtain⟨i,j,rfl,rfl,hc,q⟩:=h
 obtain⟨t,rfl⟩:=rx
 obtain⟨t',rfl⟩:=ry
 exact rule i j t t' s _ _ hc ⟨.int (g i j),H,I.tok _,⟨_,U⟩,q⟩
theorem opI0 {f:Value->Value->Sem Value}{g:Int->Int->Int}
  (rule:∀ (i j:Int) (t u:Tok) (s:U7) (Q:U2) (E:U2),Q (.int (g i j) s.toks) { s with toks:=s.toks+1 }->wpAny (model X.prog X.w) X.A (f (.int i t) (.int j u)) Q E s) :
  OpR X f (rI0 λi j=>.int (g i j)):=by
 intro pins s σ H x y v u Q I rx ry h
 obtain⟨i,j,rfl,rfl,q⟩:=h
 obtain⟨t,rfl⟩:=rx
 obtain⟨t',rfl⟩:=ry
 exact rule i j t t' s _ _ ⟨.int (g i j),H,I.tok _,⟨_,U⟩,q⟩
theorem opB0 {f:Value->Value->Sem Value}{g:Int->Int->Bool}
  (rule:∀ (i j:Int) (t u:Tok) (s:U7) (Q:U2) (E:U2),Q (.bool (g i j)) s->wpAny (model X.prog X.w) X.A (f (.int i t) (.int j u)) Q E s) :
  OpR X f (rI0 λi j=>.bl (g i j)):=by
 intro pins s σ H x y v u Q I rx ry h
 obtain⟨i,j,rfl,rfl,q⟩:=h
 obtain⟨t,rfl⟩:=rx
 obtain⟨t',rfl⟩:=ry
 exact rule i j t t' s _ _ ⟨.bl (g i j),H,I,U,q⟩
def CDiv (i j:Int):Prop:=0<j/\j<1073741824
def CPow (i j:Int):Prop:=0<=j/\j<=1000000/\i.natAbs<2^64
def CMul (i j:Int):Prop:=(-(2^64)<i/\i<2^64)∨(-(2^64)<j/\j<2^64)
theorem CMul.ok {i j:Int}(h:CMul i j):IntMulOk i j:=by
 rcases h with ⟨h1,h2⟩ | ⟨h1,h2⟩
 ·exact .of_left (intBits_le_64 h1 h2)
 ·exact .of_right (intBits_le_64 h1 h2)
theorem Y4c (k:Nat):(0:Int)<=2^k:=by
 rw[two_pow_cast]
 exact Int.natCast_nonneg _
theorem Z1r:OpR X (binaryOp .Add) (rI0 λi j=>.int (i+j)):=opI0 λ_ _ _ _ _ _ _ q=>add_int q
theorem Z3c:OpR X (binaryOp .Sub) (rI0 λi j=>.int (i-j)):=opI0 λ_ _ _ _ _ _ _ q=>sub_int q
theorem Z4b:OpR X (binaryOp .Mult) (rI CMul λi j=>.int (i*j)):=opI λ_ _ _ _ _ _ _ hc q=>mul_int q hc.ok
theorem Z2r:OpR X (binaryOp .FloorDiv) (rI CDiv λi j=>.int (i / j)):=opI λi j _ _ _ _ _ hc q=>by
 have h1:(0:Int)<j:=hc.1
 have h2:j<1073741824:=hc.2
 exact floordiv_int (by omega) (by rw[q3d i (by omega)];exact q) (.inl (PyProof.noPylong_small (by omega)))
theorem Z1e:OpR X (binaryOp .Mod) (rI (λ_ j=>0<j) λi j=>.int (i%j)):=opI λi j _ _ _ _ _ hc q=>by
 have h1:(0:Int)<j:=hc
 exact mod_int' (by omega) (by rw[Int.fmod_eq_emod_of_nonneg i (by omega)];exact q)
theorem X2s:OpR X (binaryOp .Pow) (rI CPow λi j=>.int (i^j.toNat)):=opI λ_ _ _ _ _ _ _ hc q=>pow_int_small hc.1 hc.2.1 hc.2.2 q
theorem Z3i:OpR X (binaryOp .RShift) (rI (λ_ j=>0<=j) λi j=>.int (i / 2^j.toNat)):=opI λi j _ _ _ _ _ hc q =>
 rshift_int hc (by rw[q3d i (Y4c _)];exact q)
theorem Z0z:OpR X (binaryOp .BitAnd) (rI0 λi j=>.int (Builtin.bitAnd i j)):=opI0 λ_ _ _ _ _ _ _ q=>and_int q
theorem Z8q:OpR X (binaryOp .BitOr) (rI0 λi j=>.int (Builtin.bitOr i j)):=opI0 λ_ _ _ _ _ _ _ q=>or_int q
theorem Z2e:OpR X (binaryOp .BitXor) (rI0 λi j=>.int (Builtin.bitXor i j)):=opI0 λ_ _ _ _ _ _ _ q=>xor_int q
theorem unI {f:Value->Sem Value}{g:Int->Int}
  (rule:∀ (i:Int) (t:Tok) (s:U7) (Q:U2) (E:U2),Q (.int (g i) s.toks) { s with toks:=s.toks+1 }->wpAny (model X.prog X.w) X.A (f (.int i t)) Q E s) :
  UnR X f (rU λi=>.int (g i)):=by
 intro pins s σ H x v Q I rx h
 obtain⟨i,rfl,q⟩:=h
 obtain⟨t,rfl⟩:=rx
 exact rule i t s _ _ ⟨.int (g i),H,I.tok _,⟨_,U⟩,q⟩
theorem Y5f:UnR X (unaryOp .USub) (rU λi=>.int (-i)):=unI λ_ _ _ _ _ q=>neg_int q
theorem X2j:UnR X (unaryOp .Invert) (rU λi=>.int (Builtin.bitNot i)):=unI λ_ _ _ _ _ q=>invert_int q
end
noncomputable def scal:V->V->Bool
 | .non,.non=>true | .non,.int _=>true | .int _,.non=>true | .non,.bl _=>true | .bl _,.non=>true | .non,.str _=>true | .str _,.non=>true
 | .int _,.int _=>true | .bl _,.bl _=>true | .str _,.str _=>true | .byt _,.byt _=>true
 | .int _,.str _=>true | .str _,.int _=>true | .bl _,.str _=>true | .str _,.bl _=>true
 | _,_=>false
def rEq:R2:=λx y H Q=>scal x y=true/\Q (.bl (decide (x=y))) H
def rNe:R2:=λx y H Q=>scal x y=true/\Q (.bl (!decide (x=y))) H
theorem Y8l {i j:Int}:decide (V.int i=V.int j)=(i == j):=by
 rw[q4t]
 simp
theorem X3i {i j:Bool}:decide (V.bl i=V.bl j)=(i == j):=by
 rw[q4t]
 simp
theorem Y8k {i j:Str}:decide (V.str i=V.str j)=(i == j):=by
 rw[q4t]
 simp
theorem Y8m {i j:Array UInt8}:decide (V.byt i=V.byt j)=(i.toList == j.toList):=by
 rw[q4t]
 cases i
 cases j
 simp
section
variable {X:Cx}{a b c:Expr}{ta tb tc:TE}{pos:Pos}
theorem Z1i {pins:U1}{σ:St}{H:Hp}{s:U7}{Q:VK}{k k':Bool}(I:Inv X pins σ H s)(q:Q (.bl k) H)(e:k=k'):EP X pins σ Q (.bool k') s:=by
 subst e
 exact⟨.bl k,H,I,U,q⟩
theorem Z1m:OpR X (compareOp .Eq) rEq:=by
 intro pins s σ H x y v u Q I rx ry h
 obtain⟨hs,q⟩:=h
 cases x with
 | non =>
  cases rx
  cases y with
  | non=>cases ry;exact PySem.EqNone.eq_none_none (Z1i I q (by simp))
  | bl j=>cases ry;exact PySem.EqNone.eq_none_bool (Z1i I q (by simp))
  | int j=>obtain⟨t',rfl⟩:=ry;exact PySem.EqNone.eq_none_int (Z1i I q (by simp))
  | str j=>obtain⟨t',rfl⟩:=ry;exact PySem.EqNone.eq_none_str (Z1i I q (by simp))
  | _=>exact absurd (show false=true from hs) q0y
 | bl i =>
  cases rx
  cases y with
  | non=>cases ry;exact PySem.EqNone.eq_bool_none (Z1i I q (by simp))
  | bl j=>cases ry;exact eq_bool (Z1i I q X3i)
  | str j=>obtain⟨t',rfl⟩:=ry;exact PySem.EqMixed.eq_bool_str (Z1i I q (by simp))
  | _=>exact absurd (show false=true from hs) q0y
 | int i =>
  obtain⟨t,rfl⟩:=rx
  cases y with
  | non=>cases ry;exact PySem.EqNone.eq_int_none (Z1i I q (by simp))
  | int j=>obtain⟨t',rfl⟩:=ry;exact eq_int (Z1i I q Y8l)
  | str j=>obtain⟨t',rfl⟩:=ry;exact PySem.EqMixed.eq_int_str (Z1i I q (by simp))
  | _=>exact absurd (show false=true from hs) q0y
 | str i =>
  obtain⟨t,rfl⟩:=rx
  cases y with
  | non=>cases ry;exact PySem.EqNone.eq_str_none (Z1i I q (by simp))
  | bl j=>cases ry;exact PySem.EqMixed.eq_str_bool (Z1i I q (by simp))
  | int j=>obtain⟨t',rfl⟩:=ry;exact PySem.EqMixed.eq_str_int (Z1i I q (by simp))
  | str j=>obtain⟨t',rfl⟩:=ry;exact eq_str (Z1i I q Y8k)
  | _=>exact absurd (show false=true from hs) q0y
 | byt i =>
  obtain⟨t,rfl⟩:=rx
  cases y with
  | byt j=>obtain⟨t',rfl⟩:=ry;exact PySem.W.eq_bytes (Z1i I q Y8m)
  | _=>exact absurd (show false=true from hs) q0y
 | _=>cases y<;>exact absurd (show false=true from hs) q0y
theorem Z5r:OpR X (compareOp .NotEq) rNe:=by
 intro pins s σ H x y v u Q I rx ry h
 obtain⟨hs,q⟩:=h
 cases x with
 | non =>
  cases rx
  cases y with
  | non=>cases ry;exact PySem.EqNone.ne_none_none (Z1i I q (by simp))
  | bl j=>cases ry;exact PySem.EqNone.ne_none_bool (Z1i I q (by simp))
  | int j=>obtain⟨t',rfl⟩:=ry;exact PySem.EqNone.ne_none_int (Z1i I q (by simp))
  | str j=>obtain⟨t',rfl⟩:=ry;exact PySem.EqNone.ne_none_str (Z1i I q (by simp))
  | _=>exact absurd (show false=true from hs) q0y
 | bl i =>
  cases rx
  cases y with
  | non=>cases ry;exact PySem.EqNone.ne_bool_none (Z1i I q (by simp))
  | bl j=>cases ry;exact ne_bool (Z1i I q (congrArg not X3i))
  | str j=>obtain⟨t',rfl⟩:=ry;exact PySem.EqMixed.ne_bool_str (Z1i I q (by simp))
  | _=>exact absurd (show false=true from hs) q0y
 | int i =>
  obtain⟨t,rfl⟩:=rx
  cases y with
  | non=>cases ry;exact PySem.EqNone.ne_int_none (Z1i I q (by simp))
  | int j=>obtain⟨t',rfl⟩:=ry;exact ne_int (Z1i I q (congrArg not Y8l))
  | str j=>obtain⟨t',rfl⟩:=ry;exact PySem.EqMixed.ne_int_str (Z1i I q (by simp))
  | _=>exact absurd (show false=true from hs) q0y
 | str i =>
  obtain⟨t,rfl⟩:=rx
  cases y with
  | non=>cases ry;exact PySem.EqNone.ne_str_none (Z1i I q (by simp))
  | bl j=>cases ry;exact PySem.EqMixed.ne_str_bool (Z1i I q (by simp))
  | int j=>obtain⟨t',rfl⟩:=ry;exact PySem.EqMixed.ne_str_int (Z1i I q (by simp))
  | str j=>obtain⟨t',rfl⟩:=ry;exact ne_str (Z1i I q (congrArg not Y8k))
  | _=>exact absurd (show false=true from hs) q0y
 | byt i =>
  obtain⟨t,rfl⟩:=rx
  cases y with
  | byt j=>obtain⟨t',rfl⟩:=ry;exact PySem.W.ne_bytes (Z1i I q (congrArg not Y8m))
  | _=>exact absurd (show false=true from hs) q0y
 | _=>cases y<;>exact absurd (show false=true from hs) q0y
theorem Z5b:OpR X (compareOp .Lt) (rI0 λi j=>.bl (decide (i<j))):=opB0 λ_ _ _ _ _ _ _ q=>lt_int q
theorem X4t:OpR X (compareOp .LtE) (rI0 λi j=>.bl (decide (i<=j))):=opB0 λ_ _ _ _ _ _ _ q=>le_int q
theorem Y4g:OpR X (compareOp .Gt) (rI0 λi j=>.bl (decide (j<i))):=opB0 λ_ _ _ _ _ _ _ q=>gt_int q
theorem Y6z:OpR X (compareOp .GtE) (rI0 λi j=>.bl (decide (j<=i))):=opB0 λ_ _ _ _ _ _ _ q=>ge_int q
theorem X8m:OpR X (compareOp .Is) (λx y H Q=>y=.non/\Q (.bl (decide (x=.non))) H):=by
 intro pins s σ H x y v u Q I rx ry h
 obtain⟨rfl,q⟩:=h
 cases ry
 refine is_none_gen (Z1i I q ?_)
 cases x<;>first
  | (cases rx;rfl)
  | (obtain⟨t,rfl⟩:=rx;rfl)
theorem X4s:OpR X (compareOp .IsNot) (λx y H Q=>y=.non/\Q (.bl (!decide (x=.non))) H):=by
 intro pins s σ H x y v u Q I rx ry h
 obtain⟨rfl,q⟩:=h
 cases ry
 refine isnot_none_gen (Z1i I q ?_)
 cases x<;>first
  | (cases rx;rfl)
  | (obtain⟨t,rfl⟩:=rx;rfl)
theorem nomark (b:Expr){op:CmpOp}(h:op≠.In:=by decide)(h2:op≠.NotIn:=by decide):behindInMarks op b=false:=by
 have e1:(op == CmpOp.In)=false:=by cases op<;>first | rfl | exact absurd rfl h
 have e2:(op == CmpOp.NotIn)=false:=by cases op<;>first | rfl | exact absurd rfl h2
 cases b<;>simp[behindInMarks,e1,e2]
theorem Z1b {op:CmpOp}{r:R2}(ho:OpR X (compareOp op) r)(ha:PE X a ta)(hb:PE X b tb)(hm:behindInMarks op b=false):PE X (.Compare a [op] [b] pos) (tOp r ta tb):=by
 intro pins s σ H Q I h
 exact wpAny_Compare1 (binT ha hb I h λv u s2 x y H2 I2 rx ry q=>ho pins s2 σ H2 x y v u Q I2 rx ry q) hm
def tTest (t:TE):TT:=λσ H Q=>t σ H λx H'=>∃ k,x=.bl k/\Q k H'
theorem Z0p {op:CmpOp}{r:R2}(ho:OpR X (compareOp op) r)(ha:PE X a ta)(hb:PE X b tb)(hm:behindInMarks op b=false):PT X (.Compare a [op] [b] pos) (tTest (tOp r ta tb)):=by
 intro pins s σ H Q I h
 refine q7u (thn (ha pins s σ H _ I h) λv s1 ⟨x,H1,I1,r1,q1⟩=>thn (hb pins s1 σ H1 _ I1 q1) λu s2 ⟨y,H2,I2,r2,q2⟩ =>
  thn (ho pins s2 σ H2 x y v u _ I2 r1 r2 q2) λc s3 ⟨z,H3,I3,r3,k,e,q3⟩=>?_) hm
 subst e
 cases r3
 exact q2z ⟨H3,I3,q3⟩
def TruV (K:U0)(x:V)(H:Hp)(k:Bool):Prop :=
 match x with
 | .non=>k=false
 | .bl b=>k=b
 | .int i=>k=(i != 0)
 | .str y=>y.length<=sizeLine/\k=((y.length:Int) != 0)
 | .byt y=>y.size<=sizeLine/\k=((y.size:Int) != 0)
 | .ref p=>(∃ xs,SqL K H p xs/\k=!xs.isEmpty)∨(∃ xs,SqT K H p xs/\k=!xs.isEmpty)∨∃ kvs,H p=some (.dK kvs)/\k=!kvs.isEmpty
 | _=>False
theorem Y4w {κ:Type}{kvs:List (κ × V)}{vs:List (κ × Value)}(r:KV kvs vs):(!vs.isEmpty)=!kvs.isEmpty:=by
 cases r<;>rfl
theorem Z8c {xs:List V}{its:U5}(r:Vals xs its):(!its.toArray.isEmpty)=!xs.isEmpty:=by
 cases r<;>simp
theorem line63:(sizeLine:Nat)<2^63:=by rw[sizeLine_eq];decide
theorem X7v:TruR X (λx H Q=>∃ k,TruV X.K x H k/\Q k H):=by
 intro pins s σ H x v Q I rx h
 obtain⟨k,e,q⟩:=h
 have hl:=line63
 have hs:sizeLine=16777216:=sizeLine_eq
 cases x with
 | non =>
  cases rx
  have e':k=false:=e
  subst e'
  exact truthy_none ⟨H,I,q⟩
 | bl b =>
  cases rx
  have e':k=b:=e
  subst e'
  exact q2z ⟨H,I,q⟩
 | int i =>
  obtain⟨t,rfl⟩:=rx
  have e':k=(i != 0):=e
  subst e'
  exact PySem.P.truthy_int ⟨H,I,q⟩
 | str y =>
  obtain⟨t,rfl⟩:=rx
  obtain⟨hy,e'⟩:y.length<=sizeLine/\k=((y.length:Int) != 0):=e
  subst e'
  exact PySem.P.truthy_str (by omega) ⟨H,I.tok _,q⟩
 | byt y =>
  obtain⟨t,rfl⟩:=rx
  obtain⟨hy,e'⟩:y.size<=sizeLine/\k=((y.size:Int) != 0):=e
  subst e'
  exact PySem.W.truthy_bytes (by omega) ⟨H,I.tok _,q⟩
 | ref p =>
  cases rx
  have e':(∃ xs,SqL X.K H p xs/\k=!xs.isEmpty)∨(∃ xs,SqT X.K H p xs/\k=!xs.isEmpty)∨∃ kvs,H p=some (.dK kvs)/\k=!kvs.isEmpty:=e
  rcases e' with ⟨xs,hx,e'⟩ | ⟨xs,hx,e'⟩ | ⟨kvs,hx,e'⟩
  ·subst e'
   obtain⟨its,r,pl,hz⟩:=I.list hx
   have hlen:=r.length
   exact wpAny_truthy_list pl.isList (by simp only[q0r];omega) ⟨H,I.tok _,by rw[Z8c r];exact q⟩
  ·subst e'
   obtain⟨its,r,pl,hz⟩:=I.tuple hx
   have hlen:=r.length
   exact truthy_tuple pl (by simp only[q0r];omega) ⟨H,I.tok _,by rw[Z8c r];exact q⟩
  ·subst e'
   obtain⟨hz,hS,vs,r,m⟩:kvs.length<=sizeLine/\(p == sysModules)=false/\∃ vs,KV kvs vs/\s.heap.DictOf (Z1q X.prog X.w) p vs:=I.hok p _ hx
   have hlen:kvs.length=vs.length:=Paired.length r
   exact wpAny_truthy_dict hS m (by omega) ⟨H,I.tok _,by rw[Y4w r];exact q⟩
 | _=>exact(show False from e).elim
theorem vals1 {x:V}{us:U5}(r:Vals [x] us):∃ u,us=[u]/\RelV x u:=by
 cases r with
 | cons r1 r2=>cases r2;exact⟨_,rfl,r1⟩
theorem vals2 {x y:V}{us:U5}(r:Vals [x,y] us):∃ u w',us=[u,w']/\RelV x u/\RelV y w':=by
 cases r with
 | cons r1 r2 =>
  cases r2 with
  | cons r3 r4=>cases r4;exact⟨_,_,rfl,r1,r3⟩
theorem Y8w (hc:X.calm=true):CallR X (.builtin "max") (λxs H Q=>∃ i j,xs=[.int i,.int j]/\Q (.int (if j>i then j else i)) H):=by
 intro pins s σ H xs us Q I r h
 obtain⟨i,j,rfl,q⟩:=h
 obtain⟨u,w',rfl,⟨t,rfl⟩,⟨t',rfl⟩⟩:=vals2 r
 refine max_two_ints (I.ok.hd hc) λh' tk k=>⟨_,H,I.kept k,?_,q⟩
 by_cases hj:j>i
 ·rw[if_pos hj,if_pos hj];exact⟨_,U⟩
 ·rw[if_neg hj,if_neg hj];exact⟨_,U⟩
theorem Y8u (hc:X.calm=true):CallR X (.builtin "min") (λxs H Q=>∃ i j,xs=[.int i,.int j]/\Q (.int (if j<i then j else i)) H):=by
 intro pins s σ H xs us Q I r h
 obtain⟨i,j,rfl,q⟩:=h
 obtain⟨u,w',rfl,⟨t,rfl⟩,⟨t',rfl⟩⟩:=vals2 r
 refine min_two_ints (I.ok.hd hc) λh' tk k=>⟨_,H,I.kept k,?_,q⟩
 by_cases hj:j<i
 ·rw[if_pos hj,if_pos hj];exact⟨_,U⟩
 ·rw[if_neg hj,if_neg hj];exact⟨_,U⟩
end
structure ObjM (h:Heap) (x dx C:W9) (mA:U4):Prop where
 obj:h.get? x=some (PySem.W.instObj C dx)
 ns:h.Ns1 dx mA
 ne:dx≠x
theorem Y7u {h:Heap}{dx:W9}{mA:U4}(n:h.Ns1 dx mA):∃ od,h.get? dx=some od/\∀ name,PySem.W.lookIn name od=some (mA name):=by
 obtain⟨o,es,ep,ho,hd,hk,_,hm⟩:=n
 refine⟨o,ho,λname=>?_⟩
 have e:=hm name
 unfold nsFind findBy at e
 rw[<-Array.find?_toList] at e
 unfold PySem.W.lookIn
 rw[hd]
 dsimp only
 split
 ·rename_i y q
  rw[q] at e
  exact congrArg some e
 ·rename_i q
  rw[q] at e
  have a:es.toList.any (·.refKey)=false:=by
   rw[List.any_eq_false]
   intro y hy
   obtain⟨z,t,hkey⟩:=hk y (Array.mem_toList_iff.mp hy)
   simp[DictEntry.refKey,hkey]
  have a':¬ es.toList.any (·.refKey)=true:=by rw[a];exact q0y
  rw[if_neg a']
  exact congrArg some e
theorem ObjM.look {h:Heap}{x dx C:W9}{mA:U4}(I:ObjM h x dx C mA):∃ od,PySem.W.InstAt h x (PySem.W.instObj C dx) C (some od)/\∀ name,PySem.W.lookIn name od=some (mA name) :=
 let ⟨od,ho,hl⟩:=Y7u I.ns
 ⟨od,⟨I.obj,U,U,ho⟩,hl⟩
section
variable {prog:U8}{w:W1}{A:W6}{E:U2}{s:U7}{K:U0}{x dx C f:W9}{mA:U4}{name:Str}{v:W2}
end
theorem RelO.some_of {v:V}{o:Option Value}(r:RelO (some v) o):∃ u,o=some u/\RelV v u:=by
 cases o with
 | none=>exact(show False from r).elim
 | some u=>exact⟨u,rfl,r⟩
section
variable {P:U8}{w:W1}{H H':Hp}{h h':Heap}{a C dx:W9}{fs fs':List (Str × V)}
theorem X6g (hok:HOk P w H h)(e:H a=some (.ins C dx fs)):∃ mA,ObjM h a dx C mA/\(∀ f,RelO (fs.lookup f) (mA f))/\PySem.Within mA (fs.map (·.1))/\fs.length<=1000/\H dx=some (.own a):=by
 obtain⟨d,z,ne,ob,mA,n,r,q⟩:=(show ObjOk P w H h a (.ins C dx fs) from hok a _ e)
 exact⟨mA,⟨ob,n,ne⟩,r,q,z,d⟩
end
structure Cls (K:U0) (C:W9):Prop where
 pg:PySem.W.plainGet K C Str.empty=true
 hd:PySem.W.hasDictIn K C=true
 po:PySem.W.plainOver K C=true
 sa:PySem.W.findIn K (.ref C) "__setattr__"=some (some (.builtin "object.__setattr__"))
theorem Cls.get {K:U0}{C:W9}(c:Cls K C)(f:Str):PySem.W.plainGet K C f=true:=c.pg
section
variable {X:Cx}{pins:U1}{σ:St}{H:Hp}{s:U7}{a C dx:W9}{fs:List (Str × V)}{f:Str}{v:V}{A:W6}{E:U2}
end
section
variable {X:Cx}{o e value:Expr}{f:Str}{pos pos' tpos:Pos}{ta tv:TE}
end
section
variable {X:Cx}{pins:U1}{σ:St}{H:Hp}{s:U7}{A:W6}{E:U2}{Q:U2}{c:W2}{b:Bool}
inductive TyOf (K:U0) (H:Hp):V->Value->Prop where
 | non:TyOf K H .non (.type "NoneType")
 | bl (x:Bool):TyOf K H (.bl x) (.type "bool")
 | int (i:Int):TyOf K H (.int i) (.type "int")
 | str (x:Str):TyOf K H (.str x) (.type "str")
 | flt (x:UInt64):TyOf K H (.flt x) (.type "float")
 | lst {a:W9}{xs:List V} (e:H a=some (.lst xs)):TyOf K H (.ref a) (.type "list")
 | frz {a:W9}{o:Obj}{xs:List V} (e:H a=some (.frz o (.lst xs))):TyOf K H (.ref a) (.type "list")
 | tup {a:W9}{xs:List V} (e:H a=some (.tup xs)):TyOf K H (.ref a) (.type "tuple")
 | dK {a:W9}{kvs:List (Key × V)} (e:H a=some (.dK kvs)):TyOf K H (.ref a) (.type "dict")
 | dT {a:W9}{kvs:List (List Key × V)} (e:H a=some (.dT kvs)):TyOf K H (.ref a) (.type "dict")
 | ins {a C dx:W9}{fs:List (Str × V)} (e:H a=some (.ins C dx fs)) (cl:Cls K C) (ha:PySem.W.findIn K (.ref C) "__class__"=some (some (.builtin "object.__class__")))
   (hn:PySem.W.specialIn K (.builtin "object.__class__") "__get__"=some (some (.builtin "getset_descriptor.__get__"))) (htk:PySem.W.takesIn K (.builtin "object.__class__")=some true)
   (hm:PySem.W.mroIn K C (.type "object")=some true):TyOf K H (.ref a) (.ref C)
theorem Y8c {x:V}{u t:W2}(I:Inv X pins σ H s)(rx:RelV x u)(ty:TyOf X.K H x t)(e:PySem.W.kitOne X.K t c=some b)(h:∀ tk,Q (.bool b) { s with toks:=tk }) :
  wpAny (model X.prog X.w) A (call (.builtin "isinstance") [u,c]) Q E s:=by
 cases ty with
 | non=>cases (show u=Value.none from rx);exact q2n PySem.W.kitx_none I.kIn True.intro e (λz=>nomatch z) h
 | bl y=>cases (show u=Value.bool y from rx);exact q2n PySem.W.kitx_bool I.kIn True.intro e (λz=>nomatch z) h
 | int i=>obtain⟨t,q⟩:=(show ∃ t,u=Value.int i t from rx);cases q;exact q2n PySem.W.kitx_int I.kIn True.intro e (λz=>nomatch z) h
 | str y=>obtain⟨t,q⟩:=(show ∃ t,u=Value.str y t from rx);cases q;exact q2n PySem.W.kitx_str I.kIn True.intro e (λz=>nomatch z) h
 | flt y=>obtain⟨t,q⟩:=(show ∃ t,u=Value.float y t from rx);cases q;exact q2n PySem.W.kitx_float I.kIn True.intro e (λz=>nomatch z) h
 | @lst a xs ea =>
  cases (show u=Value.ref a from rx)
  obtain⟨_,_,n,_,h1⟩:=(show ObjOk X.prog X.w H s.heap a (.lst xs) from I.hok a _ ea)
  exact q2n PySem.W.kitx_list I.kIn ⟨_,h1,U⟩ e (λz=>nomatch z) h
 | @frz a ob xs ea =>
  cases (show u=Value.ref a from rx)
  obtain⟨_,_,_,n,_,h1⟩:=(show ObjOk X.prog X.w H s.heap a (.frz ob (.lst xs)) from I.hok a _ ea)
  exact q2n PySem.W.kitx_list I.kIn ⟨_,h1,U⟩ e (λz=>nomatch z) h
 | @tup a xs ea =>
  cases (show u=Value.ref a from rx)
  obtain⟨_,_,_,p⟩:=(show ObjOk X.prog X.w H s.heap a (.tup xs) from I.hok a _ ea)
  obtain⟨o,h1,h2,_⟩:=p
  exact q2n PySem.W.kitx_tuple I.kIn ⟨o,h1,h2⟩ e (λz=>nomatch z) h
 | @dK a kvs ea =>
  cases (show u=Value.ref a from rx)
  obtain⟨_,_,vs,_,p⟩:=(show ObjOk X.prog X.w H s.heap a (.dK kvs) from I.hok a _ ea)
  obtain⟨o,es,ep,h1,h2,_⟩:=p
  exact q2n PySem.W.kitx_dict I.kIn ⟨o,h1,h2.1⟩ e (λz=>nomatch z) h
 | @dT a kvs ea =>
  cases (show u=Value.ref a from rx)
  obtain⟨_,_,xs,_,o,es,ep,h1,h2,_⟩:=(show ObjOk X.prog X.w H s.heap a (.dT kvs) from I.hok a _ ea)
  exact q2n PySem.W.kitx_dict I.kIn ⟨o,h1,h2.1⟩ e (λz=>nomatch z) h
 | @ins a C dx fs ea cl ha hn htk hm =>
  cases (show u=Value.ref a from rx)
  obtain⟨mA,O,_⟩:=X6g I.hok ea
  obtain⟨od,J,_⟩:=O.look
  exact q2n (PySem.W.kitx_own (cl.get _) cl.hd ha hn htk hm) I.kIn J e (λz=>nomatch z) h
end
structure Room (k:Nat) (A:W6):Prop where
 hd:A.handled=none
 dp:A.depth+3*k+5<recursionLimit
 un:A.units+16*k+200<cLine
theorem Room.mono {j k:Nat}{A:W6}(r:Room k A)(h:j<=k):Room j A:=⟨r.hd,by have:=r.dp;omega,by have:=r.un;omega⟩
theorem Room.deeper {k:Nat}{A:W6}(r:Room (k+1) A)(env:Env):Room k (A.deeper env) :=
 ⟨r.hd,by have:=r.dp;show A.depth+1+3*k+5<_;omega,by have:=r.un;show A.units+3+16*k+200<_;omega⟩
theorem Room.depth {k:Nat}{A:W6}(r:Room k A):A.depth<recursionLimit:=by have:=r.dp;omega
theorem Room.units {k:Nat}{A:W6}(r:Room k A):A.units+64<cLine:=by have:=r.un;omega
def tNil:TA:=λ_ H Q=>Q [] H
def tCons (ta:TE)(tr:TA):TA:=λσ H Q=>ta σ H λx H1=>tr σ H1 λxs H2=>Q (x::xs) H2
section
variable {X:Cx}{e:Expr}{es:List Expr}{te:TE}{t:TA}{pos:Pos}
theorem Z0c:PA X [] tNil:=λ_ _ _ _ H Q I h=>Calls.spliced_nil ⟨[],H,I,.nil,h⟩
theorem Z0a (ha:PE X e te)(hr:PA X es t)(hs:starEach (e::es) X.env=(false,eval e X.env)::starEach es X.env:=by rfl):PA X (e::es) (tCons te t):=by
 intro pos pins s σ H Q I h
 rw[hs]
 show wpAny _ _ (spliced ((false,eval e X.env)::backTo pos (starEach es X.env))) _ _ s
 refine Calls.spliced_cons (thn (ha pins s σ H _ I h) λu s1 ⟨x,H1,I1,r1,q1⟩=>?_)
 exact thn (hr pos pins s1 σ H1 _ I1 q1) λus s2 ⟨xs,H2,I2,r2,q2⟩=>⟨x::xs,H2,I2,.cons r1 r2,q2⟩
def tTup (t:TA):TE:=λσ H Q=>t σ H λxs H1=>xs.length<=sizeLine/\∀ p,H1 p=none->Q (.ref p) (upd H1 p (.tup xs))
def tLst (t:TA):TE:=λσ H Q=>t σ H λxs H1=>xs.length<=sizeLine/\∀ p,H1 p=none->Q (.ref p) (upd H1 p (.lst xs))
theorem Z1a {x1}(h:PA X es t):PE X (.Tuple es x1 pos) (tTup t):=by
 intro pins s σ H Q I hq
 refine wpAny_Tuple_spliced (thn (h pos pins s σ H _ I hq) λus s1 ⟨xs,H1,I1,r,z,q⟩=>⟨by rw[<-r.length];exact z,?_⟩)
 have hf:H1 s1.heap.objs.size=none:=I1.hok.fresh (q0l _)
 refine⟨.ref s1.heap.objs.size,upd H1 s1.heap.objs.size (.tup xs),I1.laid (t':=s1.toks) (λb u e=>q0e _ e) (q0l _) ?_,U,q _ hf⟩
 exact⟨z,us,r,⟨_,q0n _ rfl,U,_,U⟩⟩
theorem Z3s (h:PA X es t):PE X (.List es pos) (tLst t):=by
 intro pins s σ H Q I hq
 refine wpAny_List_spliced (thn (h pos pins s σ H _ I hq) λus s1 ⟨xs,H1,I1,r,z,q⟩=>⟨by rw[<-r.length];exact z,?_⟩)
 have hf:H1 s1.heap.objs.size=none:=I1.hok.fresh (q0l _)
 refine⟨.ref s1.heap.objs.size,upd H1 s1.heap.objs.size (.lst xs),I1.laid (t':=s1.toks) (λb u e=>q0e _ e) (q0l _) ?_,U,q _ hf⟩
 exact⟨z,us,0,r,q0n _ rfl⟩
end
abbrev Sp:=List V->Hp->VK->XK->Prop
abbrev CXT:=List Env->Hp->Shared->XK->Value->Shared->Prop
structure Env0 (P:U8) (w:W1) (K:U0) (mg:U4) (base:Heap) (A:W6) (outer:List Env) (s:U7) (H:Hp):Prop where
 frames:A.frames=some outer
 mod:Mod K mg base
 bs:∀ b o,base.get? b=some o->s.heap.get? b=some o/\H b=none
 bsz:base.objs.size<=s.heap.objs.size
 funs:s.heap.FunFrames base outer
 frf:∀ b∈frs outer,H b=none
 hok:HOk P w H s.heap
 bare:AllBare s.gens
def CE (outer:List Env)(P:U8)(w:W1)(H:Hp)(s:U7)(Q:VK)(u:W2)(s':U7):Prop :=
 ∃ v H',s'.os=s.os/\AllBare s'.gens/\Un (frs outer) [] H H' s.heap s'.heap/\HOk P w H' s'.heap/\RelV v u/\Q v H'
def CR (CX:CXT)(outer:List Env)(P:U8)(w:W1)(H:Hp)(s:U7)(Q:VK)(E:XK)(r:Result)(s':U7):Prop :=
 match r with
 | .ok (.ret u)=>CE outer P w H s Q u s'
 | .ok _=>False
 | .error e=>CX outer H s E e s'
structure FnOk (P:U8) (w:W1) (K:U0) (mg:U4) (base:Heap) (CX:CXT) (k:Nat) (f:W9) (fd:FuncData) (ps:W0) (sp:Sp):Prop where
 len:∀ vs H Q E,sp vs H Q E->vs.length=ps.length
 run:∀ (A:W6) (outer:List Env) (s:U7) (H:Hp) (args:Args) (us:U5) (vs:List V) (Q:VK) (E:XK),Room k A->Env0 P w K mg base A outer s H->BindsTo s fd args (ps.zip us)->Vals vs us->sp vs H Q E →
  codeAny (model P w) A (.call (.ref f) args) (CR CX outer P w H s Q E) s
theorem FnOk.mono {P:U8}{w:W1}{K:U0}{mg:U4}{base:Heap}{CX:CXT}{j k:Nat}{f:W9}{fd:FuncData}{ps:W0}{sp:Sp}(F:FnOk P w K mg base CX j f fd ps sp)(h:j<=k) :
  FnOk P w K mg base CX k f fd ps sp:=⟨F.len,λA outer s H args us vs Q E hr=>F.run A outer s H args us vs Q E (hr.mono h)⟩
theorem FnOk.imp {P:U8}{w:W1}{K:U0}{mg:U4}{base:Heap}{CX:CXT}{k:Nat}{f:W9}{fd:FuncData}{ps:W0}{sp sp':Sp}(F:FnOk P w K mg base CX k f fd ps sp)
  (h:∀ vs H Q E,sp' vs H Q E->sp vs H Q E):FnOk P w K mg base CX k f fd ps sp' :=
 ⟨λvs H Q E q=>F.len vs H Q E (h _ _ _ _ q),λA outer s H args us vs Q E hr he hb hv hs=>F.run A outer s H args us vs Q E hr he hb hv (h _ _ _ _ hs)⟩
section
variable {X:Cx}{pins:U1}{σ:St}{H:Hp}{s s':U7}
theorem Inv.env0 (I:Inv X pins σ H s):Env0 X.prog X.w X.K X.mg X.base X.A X.stack s H :=
 ⟨I.ok.frames,I.ok.mod,I.bs,q1b I.ok.bsz I.sz,I.stack,I.stkFree,I.hok,I.bare⟩
theorem Inv.after {Q:VK}{u:W2}(I:Inv X pins σ H s)(h:CE X.stack X.prog X.w H s Q u s'):EP X pins σ Q u s':=by
 obtain⟨v,H',os,bare,un,hok,r,q⟩:=h
 obtain⟨hh,g,d,t,os'⟩:=s'
 obtain rfl:os'=s.os:=os
 exact⟨v,H',I.call (h':=hh) (g':=g) (d':=d) (t':=t) (ch:=[]) un hok bare (λb z=>absurd z (by simp)),r,q⟩
end
def tCall (sp:Sp)(dvs:List V)(E:XK)(t:TA):TE:=λσ H Q=>t σ H λvs H1=>sp (vs++dvs) H1 Q E
def Binds (K:U0)(fd:FuncData)(ps:W0)(ds:U5):Prop :=
 ∀ (s:U7) (us:U5),K.In s.heap->(us++ds).length=ps.length->BindsTo s fd ⟨us,[]⟩ (ps.zip (us++ds))
theorem Binds.all {K:U0}{fd:FuncData}{ps:W0}(h:∀ us:List Value,us.length=ps.length->bindArgs fd ⟨us,[]⟩=pure (ps.zip us)):Binds K fd ps []:=λs us _ hl=>by
 rw[q2o] at hl ⊢
 exact .of_eq (h us hl)
def Passes (CX:CXT)(X:Cx)(E:XK):Prop:=∀ (pins:U1) (σ:St) (H:Hp) (s:U7) (e:W2) (s':U7),Inv X pins σ H s->CX X.stack H s E e s'->X.xe e s'
section
variable {X:Cx}{CX:CXT}{k:Nat}{f C:W9}{fd:FuncData}{ps:W0}{sp:Sp}{dvs:List V}{ds:U5}{E:XK}{x m:Str}{p pos apos:Pos}{e o:Expr}{es:List Expr}{ta:TE}{t:TA}
theorem X7z {pins:U1}{σ:St}{H:Hp}{s:U7}{Q:VK}{us:U5}{vs:List V}(F:FnOk X.prog X.w X.K X.mg X.base CX k f fd ps sp)(hr:Room k X.A)(hb:Binds X.K fd ps ds)(hd:Vals dvs ds)(hx:Passes CX X E)
  (I:Inv X pins σ H s) (r:Vals vs us) (h:sp (vs++dvs) H Q E):wpAny (model X.prog X.w) X.A (call (.ref f) us) (EP X pins σ Q) X.xe s:=by
 have r2:Vals (vs++dvs) (us++ds):=r.append hd
 have hl:(us++ds).length=ps.length:=by rw[<-r2.length];exact F.len _ _ _ _ h
 refine q8f (q5h (F.run X.A X.stack s H ⟨us,[]⟩ (us++ds) (vs++dvs) Q E hr I.env0 (hb s us I.kIn hl) r2 h) λr s' hq=>?_)
 cases r with
 | error e=>exact hx pins σ H s e s' I hq
 | ok fl =>
  cases fl with
  | ret u=>exact I.after hq
  | next=>exact False.elim hq
  | brk=>exact False.elim hq
  | cont=>exact False.elim hq
theorem Y6p (F:FnOk X.prog X.w X.K X.mg X.base CX k f fd ps sp)(hr:Room k X.A)(hg:Gl X x)(hm:X.mg x=some (.ref f))(hk:PySem.W.keepIn X.K (.ref f)=true)(hb:Binds X.K fd ps ds)(hd:Vals dvs ds)(hx:Passes CX X E)
  (ha:PA X (e::es) t) (hdb:(x == ("__debug__":Str))=false:=by decide) (he:starEach (e::es) X.env=(false,eval e X.env)::starEach es X.env:=by rfl) (hpl:(backTo pos (starEach es X.env)).any (·.1)=false:=by rfl) :
  PE X (.Call (.Name x p) (e::es) [] pos) (tCall sp dvs E t):=by
 intro pins s σ H Q I h
 refine q5o (Z5v I hg hm ?_ hdb)
 refine PySem.W.callWith_K (h₀:=X.base) I.ok.mod.kin hk (thn (ha pos pins s σ H _ I h) λus s1 ⟨vs,H1,I1,r,q⟩=>⟨I1.kIn,?_⟩) he hpl
 exact X7z F hr hb hd hx I1 r q
end
section
variable {X:Cx}{CX:CXT}{k:Nat}{f C:W9}{fd:FuncData}{ps ks:W0}{sp:Sp}{E:XK}{x m:Str}{p pos apos kpos:Pos}{e o:Expr}{es:List Expr}{kws:List Keyword}{te ta:TE}{t tk:TA}{nm:Option Str}
variable {g:List Value->List Value->List Value}{gV:List V->List V->List V}
end
structure FnScope (N P:W0) (sc:Scope):Prop where
 kind:sc.kind=.function
 co:sc.isCoroutine=false
 gen:sc.isGenerator=false
 nd:N.Nodup
 pre:N.take P.length=P
 par:∀ x∈P,sc.names.lookup x=some .local∨sc.names.lookup x=some .cell
 nofree:∀ y∈sc.names,y.2≠.free
theorem Y0m {kindOf:Str->Option NameKind}{x:Str}:∀ {binds:List (Str × Value)}{m:U4},(∀ v,(x,v) ∉ binds)->bindL kindOf binds m x=m x
 | [],_,_=>rfl
 | (n,v)::r,m,h=>by
  unfold bindL
  rw[Y0m λw hw=>h w (q1x _ hw)]
  split
  ·have:x≠n:=by rintro rfl;exact h v q2m
   simp[this]
  ·rfl
theorem Y0o {kindOf:Str->Option NameKind}{x:Str}:∀ {binds:List (Str × Value)}{m:U4},(∀ v,(x,v) ∉ binds)->bindC kindOf binds m x=m x
 | [],_,_=>rfl
 | (n,v)::r,m,h=>by
  unfold bindC
  rw[Y0o λw hw=>h w (q1x _ hw)]
  split
  ·rfl
  ·have:x≠n:=by rintro rfl;exact h v q2m
   simp[this]
theorem Y0n {kindOf:Str->Option NameKind}{x:Str}{v:W2}:∀ {P:W0}{vs:U5}{i:Nat}{m:U4},P.Nodup->P[i]?=some x->vs[i]?=some v->kindOf x=some .local →
  bindL kindOf (P.zip vs) m x=some v
 | [],_,_,_,_,h,_,_=>by simp at h
 | _::_,[],_,_,_,_,h,_=>by simp at h
 | p::P,w::vs,0,m,nd,h1,h2,hk=>by
  simp at h1 h2;subst h1;subst h2
  show bindL kindOf ((p,w)::P.zip vs) m p=_
  unfold bindL
  rw[Y0m λv hv=>(q4r.mp nd).1 (q8c hv).1,if_pos hk]
  simp
 | p::P,w::vs,i+1,m,nd,h1,h2,hk=>by
  show bindL kindOf ((p,w)::P.zip vs) m x=_
  unfold bindL
  exact Y0n (i:=i) (q4r.mp nd).2 (by simpa using h1) (by simpa using h2) hk
theorem Y0p {kindOf:Str->Option NameKind}{x:Str}{v:W2}:∀ {P:W0}{vs:U5}{i:Nat}{m:U4},P.Nodup->P[i]?=some x->vs[i]?=some v->kindOf x≠some .local →
  bindC kindOf (P.zip vs) m x=some v
 | [],_,_,_,_,h,_,_=>by simp at h
 | _::_,[],_,_,_,_,h,_=>by simp at h
 | p::P,w::vs,0,m,nd,h1,h2,hk=>by
  simp at h1 h2;subst h1;subst h2
  show bindC kindOf ((p,w)::P.zip vs) m p=_
  unfold bindC
  rw[Y0o λv hv=>(q4r.mp nd).1 (q8c hv).1,if_neg hk]
  simp
 | p::P,w::vs,i+1,m,nd,h1,h2,hk=>by
  show bindC kindOf ((p,w)::P.zip vs) m x=_
  unfold bindC
  exact Y0p (i:=i) (q4r.mp nd).2 (by simpa using h1) (by simpa using h2) hk
noncomputable def start (N:W0)(vs:List V):St:=vs.map some++List.replicate (N.length-vs.length) none
noncomputable def cxOf (CX:CXT)(P:U8)(w:W1)(K:U0)(mg:U4)(base:Heap)(N:W0)(qual:Str)(scope:Scope)(f:W9)(cd:W2)(A:W6)(outer:List Env)(s:U7)(H:Hp)(E:XK):Cx where
 prog:=P
 w:=w
 K:=K
 mg:=mg
 base:=base
 A:=A.deeper (envOfC qual scope s.heap.objs.size f cd)
 N:=N
 s₀:=s
 H₀:=H
 env:=envOfC qual scope s.heap.objs.size f cd
 outer:=outer
 stack:=envOfC qual scope s.heap.objs.size f cd::outer
 ex:=[]
 calm:=true
 fn:=λ_=>true
 pn:=[]
 xe:=λe s'=>wpAny (model P w) (A.deeper (envOfC qual scope s.heap.objs.size f cd)) (leaving (envOfC qual scope s.heap.objs.size f cd) e) (λ_ s''=>CX outer H s E e s'') (λe' s''=>CX outer H s E e' s'') s'
theorem Y3w {sc:Scope}{n:Nat}{x:Str}(h:sc.names.lookup x=some .cell):∃ c,(cellsFrom n sc.names []).lookup x=some c:=by
 have q:=q7q sc.names n [] (.inl h)
 exact q5k.mp q
theorem Y8d {CX:CXT}{P:U8}{w:W1}{K:U0}{mg:U4}{base:Heap}{N ps:W0}{qual:Str}{scope:Scope}{f:W9}{cd:W2}{A:W6}{outer:List Env}{s s1:U7}{H:Hp}{E:XK}{us:U5}{vs:List V}
  (S:FnScope N ps scope) (hd:A.handled=none) (e0:Env0 P w K mg base A outer s H) (hl:vs.length=ps.length) (r:Vals vs us)
  (x:InCallC s s.heap.objs.size (bindL (envOfC qual scope s.heap.objs.size f cd).kindOf (ps.zip us) λ_=>none) (cellsFrom (s.heap.objs.size+1) scope.names []) (bindC (envOfC qual scope s.heap.objs.size f cd).kindOf (ps.zip us) λ_=>none) s1) :
  Inv (cxOf CX P w K mg base N qual scope f cd A outer s H E) [] (start N vs) H s1:=by
 have hpl:ps.length<=N.length:=by have:=congrArg List.length S.pre;rw[q1q] at this;omega
 obtain⟨h1,tk,rfl,hk⟩:=x.done
 have noA:∀ b:Addr,b ∉ (cxOf CX P w K mg base N qual scope f cd A outer s H E).ex:=λb z=>absurd (show b∈([]:U3) from z) (by simp)
 refine⟨⟨e0.mod,S.kind,U,U,q0l _,λy z c h1 h2=>?_,λy hy=>?_,λy c _ h=>?_,λ_=>hd,Around.frames_deeper e0.frames,.inr ⟨U,U⟩,λb z=>absurd z (noA b),e0.bs,e0.bsz,λb _ _=>noA b,λb z=>absurd z (noA b),e0.funs,e0.frf⟩,
  rfl,e0.bare,Un.kept hk,⟨_,x.toInCall.ns,λi y v h1 h2 h3=>?_⟩,λy c h=>⟨_,x.cell y c h⟩,e0.hok.fresh (q0l _),λy c h=>?_,λp hp=>absurd (show p∈([]:U1) from hp) (by simp),e0.hok.kept hk,?_⟩
 ·exact name_of_addr x.apart (q3f h1) (q3f h2)
 ·have hy:scope.names.lookup y=some .cell∨scope.names.lookup y=some .free:=hy
  rcases hy with hy | hy
  ·exact Y3w hy
  ·exact absurd rfl (S.nofree _ (q3f hy))
 ·exact q7z (x.above y c (q3f h))
 ·have hi:i<vs.length:=by
   unfold start at h2
   by_cases hi:i<vs.length
   ·exact hi
   ·rw[q2s (by simpa using hi)] at h2
    rw[q7l] at h2
    split at h2<;>cases h2
  have ha:vs[i]?=some v:=by
   unfold start at h2
   rw[q2v (by simpa using hi),q0g] at h2
   cases e:vs[i]? with
   | none=>rw[e] at h2;cases h2
   | some a=>rw[e] at h2;cases h2;rfl
  obtain⟨u,hu,rv⟩:=r.get ha
  have hp:ps[i]?=some y:=by
   rw[<-S.pre,List.getElem?_take_of_lt (by omega)];exact h1
  have ndP:ps.Nodup:=by rw[<-S.pre];exact S.nd.sublist (List.take_sublist _ _)
  refine⟨u,rv,?_⟩
  rcases S.par y (q1g hp) with k | k
  ·exact .inl ⟨k,Y0n ndP hp hu k⟩
  ·obtain⟨c,e⟩:=Y3w (n:=s.heap.objs.size+1) k
   refine .inr ⟨.inl k,c,e,?_⟩
   have q:=x.cell y c e
   rw[Y0p ndP hp hu (by show scope.names.lookup y≠_;rw[k];decide)] at q
   exact q
 ·exact e0.hok.fresh (q7z (x.above y c (q3f h)))
 ·unfold start
  show _=N.length
  rw[q0j,q0a,List.length_replicate]
  omega
theorem X6l {CX:CXT}{P:U8}{w:W1}{K:U0}{mg:U4}{base:Heap}{k:Nat}{f:W9}{name qual:Str}{params:Arguments}{body:W8}{scope:Scope}{dV kV doc pm cdv ct oc:W2}{an od:W5}
  {osl:W4}{N ps:W0}{sp:Sp} (lk:K.lookup f=some ⟨oc,od,.func (PySem.W.fnOf name qual params body scope dV kV doc pm an cdv ct),osl⟩) (hcd:PySem.W.codeIn K cdv qual=true) (S:FnScope N ps scope)
  (len:∀ vs H Q E,sp vs H Q E->vs.length=ps.length)
  (hbody:∀ (A:W6) (outer:List Env) (s:U7) (H:Hp) (vs:List V) (Q:VK) (E:XK),Room k (A.deeper (envOfC qual scope s.heap.objs.size f cdv))->sp vs H Q E →
   ∃ t,PSs (cxOf CX P w K mg base N qual scope f cdv A outer s H E) body t/\t { nx:=λ_ H'=>Q .non H',rt:=Q } (start N vs) H) :
  FnOk P w K mg base CX (k+1) f (PySem.W.fnOf name qual params body scope dV kV doc pm an cdv ct) ps sp:=by
 refine⟨len,λA outer s H args us vs Q E hr e0 hb r hsp=>?_⟩
 have hl:=len _ _ _ _ hsp
 have KX:K.In s.heap:=e0.mod.kin.keeps λb o e=>(e0.bs b o e).1
 have lim:s.heap.NoLimit:=e0.mod.nolimit.keeps λb o e=>(e0.bs b o e).1
 have hkind:∀ y∈ps.zip us,scope.names.lookup y.1=some .local∨(scope.names.lookup y.1=some .cell/\((cellsFrom (s.heap.objs.size+1) scope.names []).lookup y.1).isSome=true):=λ⟨n,v⟩ hy=>by
  rcases S.par n (q8c hy).1 with q | q
  ·exact .inl q
  ·exact .inr ⟨q,q7q _ _ _ (.inl q)⟩
 refine codeAny_call_function hr.depth (KX _ _ lk) rfl S.co S.gen rfl (PySem.W.codeRec_of KX hcd) (hb _ _ _ _ ?_)
 refine wpAny_newFunctionEnv_cells S.kind hkind λenv he s1 x=>?_
 subst he
 refine⟨lim.keeps x.toInCall.keep,codeAny_func ?_⟩
 obtain⟨t,ht,hq⟩:=hbody A outer s H vs Q E (hr.deeper _) hsp
 have I:Inv (cxOf CX P w K mg base N qual scope f cdv A outer s H E) [] (start N vs) H s1:=Y8d S hr.hd e0 hl r x
 refine q1y (ht [] s1 (start N vs) H _ I hq) (λfl s' hs=>?_) λe s' hs=>hs
 have fin:∀ {σ':St}{H':Hp}{v:V}{u:W2},Inv (cxOf CX P w K mg base N qual scope f cdv A outer s H E) [] σ' H' s'->RelV v u->Q v H'->CE outer P w H s Q u s' :=
  λ{σ' H' v u} J rv q=>⟨v,H',J.os,J.bare,J.base,J.hok,rv,q⟩
 cases fl with
 | ret u =>
  obtain⟨v,σ',H',J,rv,q⟩:=hs
  exact fin J rv q
 | next =>
  obtain⟨σ',H',J,q⟩:=hs
  exact fin (v:=V.non) (u:=Value.none) J rfl q
 | brk =>
  obtain⟨_,_,_,q⟩:=hs
  exact False.elim q
 | cont =>
  obtain⟨_,_,_,q⟩:=hs
  exact False.elim q
section
variable {X:Cx}{x:Str}{p pos:Pos}{e:Expr}{es:List Expr}{t:TA}{id T:String}{r:List V->Hp->VK->Prop}
def tCB (r:List V->Hp->VK->Prop)(t:TA):TE:=λσ H Q=>t σ H λvs H1=>r vs H1 Q
theorem Z0n (hc:CallR X (.builtin id) r)(hg:Gl X x)(hm:X.mg x=none)(hv:bootBuiltins x=some (.builtin id))(ha:PA X (e::es) t)(hn:x≠"__name__":=by decide)(hdb:(x == ("__debug__":Str))=false:=by decide)
  (he:starEach (e::es) X.env=(false,eval e X.env)::starEach es X.env:=by rfl) (hpl:(backTo pos (starEach es X.env)).any (·.1)=false:=by rfl):PE X (.Call (.Name x p) (e::es) [] pos) (tCB r t):=by
 intro pins s σ H Q I h
 refine q5o (Z6d I hg hm hv ?_ hn hdb)
 exact PyProof.Rows.callWith_builtin1 (thn (ha pos pins s σ H _ I h) λus s1 ⟨vs,H1,I1,r1,q1⟩=>hc pins s1 σ H1 vs us Q I1 r1 q1) he hpl
theorem Z3z (hc:CallR X (.type T) r)(hg:Gl X x)(hm:X.mg x=none)(hv:bootBuiltins x=some (.type T))(ha:PA X (e::es) t)(hn:x≠"__name__":=by decide)(hdb:(x == ("__debug__":Str))=false:=by decide)
  (he:starEach (e::es) X.env=(false,eval e X.env)::starEach es X.env:=by rfl) (hpl:(backTo pos (starEach es X.env)).any (·.1)=false:=by rfl):PE X (.Call (.Name x p) (e::es) [] pos) (tCB r t):=by
 intro pins s σ H Q I h
 refine q5o (Z6d I hg hm hv ?_ hn hdb)
 exact PyProof.Rows.callWith_type1 (thn (ha pos pins s σ H _ I h) λus s1 ⟨vs,H1,I1,r1,q1⟩=>hc pins s1 σ H1 vs us Q I1 r1 q1) he hpl
end
end L2
namespace HT
section
open PySem.SeqAt
open PySem.AutoSeq1 (wpAny_loadPart')
open PySem.MeetsSeq PySem.MeetsSeq2 PySem.MeetsSeq3
end
section
variable {prog:U8}{w:W1}{A:W6}{E:U2}{s:U7}
noncomputable def sIx (n d:Nat):Option Int->Nat
 | none=>d
 | some v=>if v<0 then (v+(n:Int)).toNat else min v.toNat n
theorem Z8p (n d k:Nat):sIx n d (some (k:Int))=min k n:=by
 show (if (k:Int)<0 then ((k:Int)+(n:Int)).toNat else min (k:Int).toNat n)=min k n
 rw[if_neg (by omega),q0x]
theorem X7y (n d:Nat)(hd:d<=n)(o:Option Int):sIx n d o<=n:=by
 cases o with
 | none=>exact hd
 | some v =>
  show (if v<0 then (v+(n:Int)).toNat else min v.toNat n)<=n
  by_cases hv:v<0
  ·rw[if_pos hv];omega
  ·rw[if_neg hv];exact Nat.min_le_right _ _
theorem Y8r (v:Int)(n d:Nat):(if v<0 then max (v+(n:Int)) 0 else min v (n:Int))=((sIx n d (some v):Nat):Int):=by
 show (if v<0 then max (v+(n:Int)) 0 else min v (n:Int))=(((if v<0 then (v+(n:Int)).toNat else min v.toNat n):Nat):Int)
 by_cases hv:v<0
 ·simp only[if_pos hv];omega
 ·simp only[if_neg hv];omega
theorem Y5c (lo hi:Option Int)(n:Nat):Builtin.Slice.sliceAdjust lo hi 1 (n:Int)=(((sIx n 0 lo:Nat):Int),((sIx n n hi:Nat):Int)):=by
 have h1:¬ ((1:Int)<0):=by omega
 unfold Builtin.Slice.sliceAdjust
 simp only[h1,q3z]
 refine Prod.ext ?_ ?_
 ·cases lo with
  | none=>rfl
  | some v=>exact Y8r v n 0
 ·cases hi with
  | none=>rfl
  | some v=>exact Y8r v n n
theorem Y4f (i j:Nat):Builtin.Slice.slicePlaces (i:Int) (j:Int) 1=j-i:=by
 unfold Builtin.Slice.slicePlaces
 have h1:(1:Int)>0:=by omega
 simp only[h1,q5q,Int.ediv_one]
 split<;>omega
theorem Z7y {v:W2}{o:Option Int}{Q:Option Int->Shared->Prop}(p:IsPart v o)(h:Q o s):wpAny (model prog w) A (Builtin.Slice.slicePartIndex v) Q E s:=by
 cases p with
 | none=>exact slicePart_none h
 | int i t=>exact slicePart_int h
theorem Z3q {sl:W9}{vl vu:W2}{lo hi:Option Int}{n:Nat}{Q:Int × Int × Nat->Shared->Prop}(hs:s.heap.IsSliceOf sl vl vu .none)(pl:IsPart vl lo)(pu:IsPart vu hi)
  (h:Q (((sIx n 0 lo:Nat):Int),1,sIx n n hi-sIx n 0 lo) s):wpAny (model prog w) A (Builtin.Slice.sliceApplied (.ref sl) (pure (n:Int))) Q E s:=by
 obtain⟨os,hos,hcs,hds⟩:=id hs
 unfold Builtin.Slice.sliceApplied Builtin.Slice.sliceFields
 refine q0c (q0c (q3r hos hds (x:=vl) rfl (q0c (q3r hos hds (x:=vu) rfl (q0c (q3r hos hds (x:=.none) rfl (q0m ?_)))))))
 refine q0c (slicePart_none ?_)
 show wpAny _ _ (if ((1:Int) == 0)=true then _ else _) _ _ s
 rw[if_neg (by decide)]
 refine q0c (Z7y pl (q0c (Z7y pu (q0c (q0m ?_)))))
 show wpAny _ _ (match Builtin.Slice.sliceAdjust lo hi 1 (n:Int) with | (lo,hi)=>pure (lo,(1:Int),Builtin.Slice.slicePlaces lo hi 1)) _ _ s
 rw[Y5c lo hi n]
 show wpAny _ _ (pure (((sIx n 0 lo:Nat):Int),(1:Int),Builtin.Slice.slicePlaces ((sIx n 0 lo:Nat):Int) ((sIx n n hi:Nat):Int) 1)) _ _ s
 rw[Y4f]
 exact q0m h
theorem Y9x (xs:U9)(i k:Nat):((List.range k).filterMap λ(m:Nat)=>xs[((i:Int)+(m:Int)*1).toNat]?).toArray=((xs.toList.drop i).take k).toArray:=by
 have e:(λ(m:Nat)=>xs[((i:Int)+(m:Int)*1).toNat]?)=λm=>xs[i+m]?:=by
  funext m
  have:((i:Int)+(m:Int)*1).toNat=i+m:=by omega
  rw[this]
 rw[e]
 have:=pick_run xs i k
 rw[List.filterMap_map] at this
 have e2:((λx=>xs[x]?) ∘ λx=>i+x)=λm=>xs[i+m]?:=rfl
 rw[e2] at this
 rw[this]
theorem Z5w {t sl:W9}{items:U9}{vl vu:W2}{lo hi:Option Int}{Q:U2}(ht:IsTup s.heap t items)(hs:s.heap.IsSliceOf sl vl vu .none)(pl:IsPart vl lo)(pu:IsPart vu hi)
  (hw:¬ (sIx items.size 0 lo=0/\sIx items.size items.size hi=items.size))
  (h:Q (.ref s.heap.objs.size) { s with heap:=s.heap.push { cls:=.type "tuple",data:=.seq ((items.toList.drop (sIx items.size 0 lo)).take (sIx items.size items.size hi-sIx items.size 0 lo)).toArray } })
  (hsz:items.size<=sizeLine):wpAny (model prog w) A (getItem (.ref t) (.ref sl)) Q E s:=by
 have htake:sizeOk (.seq ((items.toList.drop (sIx items.size 0 lo)).take (sIx items.size items.size hi-sIx items.size 0 lo)).toArray):=by
  show ((items.toList.drop (sIx items.size 0 lo)).take (sIx items.size items.size hi-sIx items.size 0 lo)).toArray.size<=sizeLine
  rw[q0r,q1q,q5e,q2h]
  omega
 have hj:sIx items.size items.size hi<=items.size:=X7y _ _ (q0l _) hi
 obtain⟨os,hos,hcs,hds⟩:=id hs
 have hTs:s.TypeIs (.ref sl) "slice":=⟨os,hos,hcs⟩
 unfold getItem
 try with_reducible refine q4v ?_
 first | refine q0c (q0m ?_) | skip
 refine q0c (wpAny_sequenceKey ht.typeIs (by decide) ?_)
 refine q0c (q4i (name:=Str.ofString "__getitem__") ht.typeIs PyProof.Rows.slot_tuple_getitem
  (q4k PyProof.Rows.slot_tuple_getitem ht.typeIs entry_tuple_getitem ?_ (args_tuple_getitem _ _)))
 show wpAny _ _ (Builtin.Tuple.tupleItemsOf (.ref t) >>= _) _ _ s
 refine q0c (tupleItemsOf_ ht ?_)
 refine q0c (q8p hTs ?_)
 rw[if_pos (by decide)]
 refine q0c (Z3q hs pl pu ?_)
 have hno:¬ ((((sIx items.size 0 lo:Nat):Int) == 0 && (1:Int) == 1 && (sIx items.size items.size hi-sIx items.size 0 lo) == items.size)=true):=by
  intro q
  rw[q0u,q0u] at q
  have q1:((sIx items.size 0 lo:Nat):Int)=0:=eq_of_beq q.1.1
  have q2:sIx items.size items.size hi-sIx items.size 0 lo=items.size:=eq_of_beq q.2
  exact hw ⟨by omega,by omega⟩
 show wpAny _ _ (if (((sIx items.size 0 lo:Nat):Int) == 0 && (1:Int) == 1 && (sIx items.size items.size hi-sIx items.size 0 lo) == items.size)=true then _ else _) _ _ s
 rw[if_neg hno,Y9x]
 first
  | exact q0c (m:=Builtin.Tuple.tupleExact _) (q2j (q0m ⟨_,rfl,q0m h⟩) htake)
  | exact q0c (m:=Builtin.Tuple.tupleExact _) (q2j (q0c (q0m (q0m ⟨_,rfl,q0m h⟩))) htake)
  | exact q0c (q0c (m:=Builtin.Tuple.tupleExact _) (q2j (q0m (q0m ⟨_,rfl,q0m h⟩)) htake))
  | exact q0c (q0c (m:=Builtin.Tuple.tupleExact _) (q2j (q0m ⟨_,rfl,q0m h⟩) htake))
end
end HT
namespace L2
abbrev TO:=St->Hp->(Option Int->Hp->Prop)->Prop
def PO (X:Cx)(e:Option Expr)(t:TO):Prop :=
 ∀ (pins:U1) (s:U7) (σ:St) (H:Hp) (Q:Option Int->Hp->Prop),Inv X pins σ H s->t σ H Q →
  wpAny (model X.prog X.w) X.A (evalPart e X.env) (λu s'=>∃ o H',Inv X pins σ H' s'/\IsPart u o/\Q o H') X.xe s
def X3u:TO:=λ_ H Q=>Q none H
def tPart (t:TE):TO:=λσ H Q=>t σ H λx H1=>∃ i,x=.int i/\Q (some i) H1
theorem Z3j {ns:U6}:∀ {us:U5},Vals (ns.map V.int) us->IntsAre us ns:=by
 induction ns with
 | nil=>intro us r;rw[q8x] at r;cases r;exact .nil
 | cons n ns ih =>
  intro us r
  rw[q1v] at r
  cases r with
  | cons r1 r2 =>
   obtain⟨t,e⟩:=r1
   subst e
   exact .cons n t (ih r2)
section
variable {X:Cx}{e:Expr}{te:TE}{lo hi:Option Expr}{tl th:TO}{pos p2:Pos}
theorem Z2y:PO X none X3u:=by
 intro pins s σ H Q I h
 rw[evalPart_none]
 exact q0m ⟨none,H,I,.none,h⟩
theorem Z2a (h:PE X e te):PO X (some e) (tPart te):=by
 intro pins s σ H Q I hw
 rw[evalPart_some]
 refine thn (h pins s σ H _ I hw) λu s1 ⟨x,H1,I1,r1,q1⟩=>?_
 obtain⟨i,rfl,q⟩:=q1
 obtain⟨t,rfl⟩:=r1
 exact⟨some i,H1,I1,.int i t,q⟩
def SlR (X:Cx)(r:V->Option Int->Option Int->Hp->VK->Prop):Prop :=
 ∀ (pins:U1) (s:U7) (σ:St) (H:Hp) (x:V) (v vl vu:W2) (lo hi:Option Int) (sl:W9) (Q:VK),Inv X pins σ H s->RelV x v->s.heap.IsSliceOf sl vl vu .none->IsPart vl lo->IsPart vu hi->r x lo hi H Q →
  ∃ T id,typeLookup (.type T) "__getitem__"=pure (some (.builtin id))/\s.TypeIs v T/\wpAny (model X.prog X.w) X.A (getItem v (.ref sl)) (EP X pins σ Q) X.xe s
def tSl (r:V->Option Int->Option Int->Hp->VK->Prop)(te:TE)(tl th:TO):TE:=λσ H Q=>te σ H λx H1=>tl σ H1 λl H2=>th σ H2 λu H3=>r x l u H3 Q
theorem Z1y {r:V->Option Int->Option Int->Hp->VK->Prop}(hr:SlR X r)(he:PE X e te)(hl:PO X lo tl)(hu:PO X hi th):PE X (.Subscript e (.Slice lo hi none p2) pos) (tSl r te tl th):=by
 intro pins s σ H Q I h
 refine Subscript_ (thn (he pins s σ H _ I h) λv s1 ⟨x,H1,I1,r1,q1⟩=>?_)
 refine wpAny_Slice (thn (hl pins s1 σ H1 _ I1 q1) λvl s2 ⟨l,H2,I2,pl,q2⟩=>thn (hu pins s2 σ H2 _ I2 q2) λvu s3 ⟨u,H3,I3,pu,q3⟩=>?_)
 rw[evalPart_none]
 refine q0m ?_
 have I4:Inv X pins σ H3 { s3 with heap:=s3.heap.push { cls:=.type "slice",data:=.fields #[vl,vu,.none] } }:=I3.kept (t':=s3.toks) λb ob q=>q0e _ q
 obtain⟨T,id,hT,ht,hg⟩:=hr pins { s3 with heap:=s3.heap.push { cls:=.type "slice",data:=.fields #[vl,vu,.none] } } σ H3 x v vl vu l u s3.heap.objs.size Q I4 r1 (Heap.IsSliceOf.new ..) pl pu q3
 show wpAny (model X.prog X.w) X.A (subscriptTail e (.Slice lo hi none p2) v (.ref s3.heap.objs.size)) (EP X pins σ Q) X.xe { s3 with heap:=s3.heap.push { cls:=.type "slice",data:=.fields #[vl,vu,.none] } }
 exact tail_any (ops:=[.ref s3.heap.objs.size,v]) ht hT hg (by with_unfolding_all rfl)
noncomputable def cutV (xs:List V)(lo hi:Option Int):List V:=(xs.drop (HT.sIx xs.length 0 lo)).take (HT.sIx xs.length xs.length hi-HT.sIx xs.length 0 lo)
theorem Z7m (xs:List V)(lo hi:Option Int):(cutV xs lo hi).length<=xs.length:=by
 unfold cutV
 rw[q1q,q5e]
 omega
def rSlT (K:U0):V->Option Int->Option Int->Hp->VK->Prop:=λx lo hi H Q=>∃ a xs,x=.ref a/\SqT K H a xs ∧
 ¬ (HT.sIx xs.length 0 lo=0/\HT.sIx xs.length xs.length hi=xs.length)/\∀ p,H p=none->Q (.ref p) (upd H p (.tup (cutV xs lo hi)))
theorem Y6b:SlR X (rSlT X.K):=by
 intro pins s σ H x v vl vu lo hi sl Q I rx hs pl pu h
 obtain⟨a,xs,rfl,hx,hw,q⟩:=h
 cases rx
 obtain⟨its,r,ht,hz⟩:=I.tuple hx
 have hlen:its.toArray.size=xs.length:=by rw[q0r];exact r.length.symm
 refine⟨"tuple",_,PyProof.Rows.slot_tuple_getitem.lookup,ht.typeIs,?_⟩
 refine HT.Z5w ht hs pl pu (by rw[hlen];exact hw) ?_ (by rw[hlen];exact hz)
 rw[hlen]
 refine⟨.ref s.heap.objs.size,_,I.laid (t':=s.toks) (o:=.tup (cutV xs lo hi)) (λb ob q=>q0e _ q) (q0l _) ?_,U,q _ (I.hok.fresh (q0l _))⟩
 exact⟨q1b (Z7m xs lo hi) hz,_,(r.drop (HT.sIx xs.length 0 lo)).take (HT.sIx xs.length xs.length hi-HT.sIx xs.length 0 lo),IsTup.new _ _⟩
end
noncomputable def ixN (n:Nat)(i:Int):Option Nat:=if 0<=i then (if i<n then some i.toNat else none) else if -(n:Int)<=i then some (i+n).toNat else none
noncomputable def atI {α:Type}(xs:List α)(i:Int):Option α:=(ixN xs.length i).bind λj=>xs[j]?
theorem X6b {n:Nat}{i:Int}{j:Nat}(h:ixN n i=some j):seqIndex? i n=some j/\j<n/\-(n:Int)<=i/\i<n:=by
 unfold ixN at h
 by_cases h0:0<=i
 ·rw[if_pos h0] at h
  by_cases h1:i<n
  ·rw[if_pos h1] at h
   have e:i.toNat=j:=Option.some.inj h
   exact⟨by rw[seqIndex_of h0 h1,e],by omega,by omega,h1⟩
  ·rw[if_neg h1] at h;cases h
 ·rw[if_neg h0] at h
  by_cases h1:-(n:Int)<=i
  ·rw[if_pos h1] at h
   have e:(i+n).toNat=j:=Option.some.inj h
   exact⟨by rw[seqIndex_neg (by omega) h1,e],by omega,h1,by omega⟩
  ·rw[if_neg h1] at h;cases h
theorem Y2f {α:Type}{xs:List α}{i:Int}{v:α}(h:atI xs i=some v):∃ j,seqIndex? i xs.length=some j/\xs[j]?=some v/\j<xs.length/\-(xs.length:Int)<=i/\i<xs.length:=by
 unfold atI at h
 cases e:ixN xs.length i with
 | none=>rw[e] at h;cases h
 | some j =>
  rw[e] at h
  obtain⟨h1,h2,h3,h4⟩:=X6b e
  exact⟨j,h1,h,h2,h3,h4⟩
theorem Z3b {α:Type}{xs:List α}{j:Nat}{v:α}(h:xs[j]?=some v):atI xs (j:Int)=some v:=by
 have hj:j<xs.length:=(q0o.mp h).1
 have e:ixN xs.length (j:Int)=some j:=by
  unfold ixN
  rw[if_pos (by omega),if_pos (by omega)];simp
 unfold atI;rw[e];exact h
def X6z (b:Expr):Prop:=∀ o i,subscripted b false o i=operate [o,i] (getItem o i)
def IxR (X:Cx)(r:R2):Prop :=
 ∀ (value slice:Expr) (pins:U1) (s:U7) (σ:St) (H:Hp) (x y:V) (v u:W2) (Q:VK),Inv X pins σ H s->RelV x v->RelV y u->r x y H Q →
  subscripted slice false v u=operate [v,u] (getItem v u)->wpAny (model X.prog X.w) X.A (subscriptTail value slice v u) (EP X pins σ Q) X.xe s
def MtR (X:Cx)(id:String)(r:V->List V->Hp->VK->Prop):Prop :=
 ∀ (pins:U1) (s:U7) (σ:St) (H:Hp) (x:V) (xs:List V) (v:W2) (us:U5) (Q:VK),Inv X pins σ H s->RelV x v->Vals xs us->r x xs H Q →
  wpAny (model X.prog X.w) X.A (call (.builtin id) (v::us)) (EP X pins σ Q) X.xe s
section
variable {X:Cx}{a b:Expr}{ta tb:TE}{pos:Pos}
theorem Z0l {r:R2}(hr:IxR X r)(ha:PE X a ta)(hb:PE X b tb)(hs:X6z b):PE X (.Subscript a b pos) (tOp r ta tb):=by
 intro pins s σ H Q I h
 exact Subscript_ (binT ha hb I h λv u s2 x y H2 I2 rx ry q=>hr a b pins s2 σ H2 x y v u Q I2 rx ry q (hs _ _))
def rIxL (K:U0):R2:=λx y H Q=>∃ p xs i v,x=.ref p/\y=.int i/\SqL K H p xs/\atI xs i=some v/\Q v H
def rIxT (K:U0):R2:=λx y H Q=>∃ p xs i v,x=.ref p/\y=.int i/\SqT K H p xs/\atI xs i=some v/\Q v H
def rIxS:R2:=λx y H Q=>∃ z i c,x=.str z/\y=.int i/\z.length<=sizeLine/\atI z.cps.toList i=some c/\Q (.str ⟨#[c]⟩) H
theorem Z1k:IxR X (rIxL X.K):=by
 intro value slice pins s σ H x y v u Q I rx ry h hs
 obtain⟨p,xs,i,z,rfl,rfl,hq,he,q⟩:=h
 cases rx
 obtain⟨t,rfl⟩:=ry
 obtain⟨its,r,pl,hz⟩:=I.list hq
 obtain⟨j,h1,h2,h3,h4,h5⟩:=Y2f he
 obtain⟨w,ew,rw'⟩:=r.get h2
 have hl:=r.length
 have hn:=line63
 have fin:EP X pins σ Q w s:=⟨z,H,I,rw',q⟩
 by_cases h0:0<=i
 ·have hj:i.toNat=j:=by
   rw[seqIndex_of h0 h5] at h1
   exact Option.some.inj h1
  exact item_listR pl.isList h0 (by omega) (by rw[hj];simpa using ew) fin hs
 ·have hj:(i+(its.toArray.size:Int)).toNat=j:=by
   rw[seqIndex_neg (by omega) h4] at h1
   rw[q0r,<-hl]
   exact Option.some.inj h1
  exact q7o (x:=w) pl.isList.typeIs slot_list_getitem.lookup
   (wpAny_getItem_list_neg (Q:=λr s'=>r=w/\EP X pins σ Q r s') pl.isList (by omega) (by rw[q0r]<;>omega) (by omega) (by rw[hj];simpa using ew) ⟨U,fin⟩) hs
theorem Z0i:IxR X (rIxT X.K):=by
 intro value slice pins s σ H x y v u Q I rx ry h hs
 obtain⟨p,xs,i,z,rfl,rfl,hq,he,q⟩:=h
 cases rx
 obtain⟨t,rfl⟩:=ry
 obtain⟨its,r,pl,hz⟩:=I.tuple hq
 obtain⟨j,h1,h2,h3,h4,h5⟩:=Y2f he
 obtain⟨w,ew,rw'⟩:=r.get h2
 have hl:=r.length
 have hn:=line63
 have fin:EP X pins σ Q w s:=⟨z,H,I,rw',q⟩
 exact q7o (x:=w) pl.typeIs slot_tuple_getitem.lookup
  (getItem_tuple (j:=j) (Q:=λr s'=>r=w/\EP X pins σ Q r s') pl (by omega) (by omega) (by rw[q0r,<-hl];exact h1) (by simpa using ew) ⟨U,fin⟩) hs
theorem W0d:IxR X rIxS:=by
 intro value slice pins s σ H x y v u Q I rx ry h hs
 obtain⟨z,i,c,rfl,rfl,hz,he,q⟩:=h
 obtain⟨t,rfl⟩:=rx
 obtain⟨t',rfl⟩:=ry
 obtain⟨j,h1,h2,h3,h4,h5⟩:=Y2f he
 have hl:z.cps.toList.length=z.length:=by simp[Str.length]
 rw[hl] at h1 h4 h5
 have hn:=line63
 exact tail_any (typeIs_str s z t) slot_str_getitem.lookup (getItem_str (c:=c) (by
  have e1:decide (i < -(2^63:Int))=false:=q0k (by omega)
  have e2:decide (i>=2^63)=false:=q0k (by omega)
  rw[e1,e2,Bool.or_false]) (by rw[h1];simpa using h2) ⟨.str ⟨#[c]⟩,H,I.tok _,⟨_,U⟩,q⟩) hs
theorem Z9q (lo hi:Option Int)(n:Nat):(sliceBounds lo hi none n).1=((HT.sIx n 0 lo:Nat):Int)/\(sliceBounds lo hi none n).2.1=((HT.sIx n n hi:Nat):Int)/\(sliceBounds lo hi none n).2.2=1:=by
 refine⟨?_,?_,U⟩
 ·cases lo with
  | none=>simp[sliceBounds,HT.sIx]
  | some i =>
   simp only[sliceBounds,HT.sIx,Option.getD_none,show (1:Int)>0 by decide,q5q]
   by_cases h:i<0
   ·simp only[h,q5q]<;>omega
   ·simp only[h,q3z]<;>omega
 ·cases hi with
  | none=>simp[sliceBounds,HT.sIx]
  | some i =>
   simp only[sliceBounds,HT.sIx,Option.getD_none,show (1:Int)>0 by decide,q5q]
   by_cases h:i<0
   ·simp only[h,q5q]<;>omega
   ·simp only[h,q3z]<;>omega
theorem Z8m (its:U5)(lo hi:Option Int):slicePick its.toArray lo hi none=((its.drop (HT.sIx its.length 0 lo)).take (HT.sIx its.length its.length hi-HT.sIx its.length 0 lo)).toArray:=by
 obtain⟨h1,h2,h3⟩:=Z9q lo hi its.toArray.size
 unfold slicePick
 rw[h1,h2,h3]
 simp only[sliceRange_one,pick_run,q0r]<;>rfl
def rSlL (K:U0):V->Option Int->Option Int->Hp->VK->Prop:=λx lo hi H Q=>∃ a xs,x=.ref a/\SqL K H a xs/\∀ p,H p=none->Q (.ref p) (upd H p (.lst (cutV xs lo hi)))
theorem Z8o:SlR X (rSlL X.K):=by
 intro pins s σ H x v vl vu lo hi sl Q I rx hs pl pu h
 obtain⟨a,xs,rfl,hx,q⟩:=h
 cases rx
 obtain⟨its,r,ht,hz⟩:=I.list hx
 have hlen:=r.length
 refine⟨"list",_,slot_list_getitem.lookup,ht.isList.typeIs,?_⟩
 refine wpAny_getItem_list_slice ht.isList hs pl pu .none (by simp) ?_ (by rw[q0r]<;>omega)
 rw[Z8m,<-hlen]
 refine⟨.ref s.heap.objs.size,_,I.laid (t':=s.toks) (o:=.lst (cutV xs lo hi)) (λb ob q=>q0e _ q) (q0l _) ?_,U,q _ (I.hok.fresh (q0l _))⟩
 exact⟨q1b (Z7m xs lo hi) hz,_,0,(r.drop (HT.sIx xs.length 0 lo)).take (HT.sIx xs.length xs.length hi-HT.sIx xs.length 0 lo),q0n _ rfl⟩
noncomputable def flatV:V->Bool
 | .non=>true
 | .bl _=>true
 | .int _=>true
 | .str _=>true
 | _=>false
noncomputable def eqV:V->V->Bool
 | .non,.non=>true
 | .bl a,.bl b=>a == b
 | .bl a,.int b=>(if a then 1 else 0) == b
 | .int a,.bl b=>a == (if b then 1 else 0)
 | .int a,.int b=>a == b
 | .str a,.str b=>a == b
 | _,_=>false
theorem W0l {A:W6}{s:U7}{y x:V}{u v:W2}(ry:RelV y u)(rx:RelV x v)(fy:flatV y=true)(fx:flatV x=true):SeqAt.EqAt A s u v (eqV y x):=by
 cases y with
 | non =>
  cases ry
  cases x with
  | non=>cases rx;exact SeqAt.EqAt.same _
  | bl b=>cases rx;exact SeqAt.EqAt.none_bool b
  | int b=>obtain⟨t,rfl⟩:=rx;exact SeqAt.EqAt.none_int b t
  | str b=>obtain⟨t,rfl⟩:=rx;exact SeqAt.EqAt.none_str b t
  | _=>exact absurd (show false=true from fx) q0y
 | bl a =>
  cases ry
  cases x with
  | non=>cases rx;exact SeqAt.EqAt.bool_none a
  | bl b=>cases rx;exact SeqAt.EqAt.bool_bool a b
  | int b=>obtain⟨t,rfl⟩:=rx;exact SeqAt.EqAt.bool_int a b t
  | str b=>obtain⟨t,rfl⟩:=rx;exact SeqAt.EqAt.bool_str a b t
  | _=>exact absurd (show false=true from fx) q0y
 | int a =>
  obtain⟨t',rfl⟩:=ry
  cases x with
  | non=>cases rx;exact SeqAt.EqAt.int_none a t'
  | bl b=>cases rx;exact SeqAt.EqAt.int_bool a t' b
  | int b=>obtain⟨t,rfl⟩:=rx;exact SeqAt.EqAt.int_int a t' b t
  | str b=>obtain⟨t,rfl⟩:=rx;exact SeqAt.EqAt.int_str a t' b t
  | _=>exact absurd (show false=true from fx) q0y
 | str a =>
  obtain⟨t',rfl⟩:=ry
  cases x with
  | non=>cases rx;exact SeqAt.EqAt.str_none a t'
  | bl b=>cases rx;exact SeqAt.EqAt.str_bool a t' b
  | int b=>obtain⟨t,rfl⟩:=rx;exact SeqAt.EqAt.str_int a t' b t
  | str b=>obtain⟨t,rfl⟩:=rx;exact SeqAt.EqAt.str_str a t' b t
  | _=>exact absurd (show false=true from fx) q0y
 | _=>exact absurd (show false=true from fy) q0y
noncomputable def eqU (x:V)(u:W2):Bool:=match u with
 | .none=>eqV .non x
 | .bool b=>eqV (.bl b) x
 | .int i _=>eqV (.int i) x
 | .str z _=>eqV (.str z) x
 | _=>false
theorem X3h {x y:V}{u:W2}(r:RelV y u)(f:flatV y=true):eqU x u=eqV y x:=by
 cases y with
 | non=>cases r;rfl
 | bl b=>cases r;rfl
 | int i=>obtain⟨t,rfl⟩:=r;rfl
 | str z=>obtain⟨t,rfl⟩:=r;rfl
 | _=>exact absurd (show false=true from f) q0y
theorem Z7q {x:V}:∀ {xs:List V}{us:U5},Vals xs us->xs.all flatV=true->us.any (eqU x)=xs.any λy=>eqV y x
 | _,_,.nil,_=>rfl
 | y::xs,u::us,.cons r t,f=>by
  rw[q8m,q0u] at f
  rw[q5s,q5s,X3h r f.1,Z7q t f.2]
theorem Z5g {A:W6}{s:U7}{x:V}{v:W2}(rx:RelV x v)(fx:flatV x=true):∀ {xs:List V}{us:U5},Vals xs us->xs.all flatV=true->∀ u∈us,SeqAt.EqAt A s u v (eqU x u)
 | _,_,.nil,_=>λu hu=>by cases hu
 | y::xs,u::us,.cons r t,f=>λu' hu=>by
  rw[q8m,q0u] at f
  rcases q0s.mp hu with rfl | hu
  ·rw[X3h r f.1];exact W0l r rx f.1 fx
  ·exact Z5g rx fx t f.2 u' hu
noncomputable def inV (x:V)(xs:List V):Bool:=xs.any λy=>eqV y x
def rIn (K:U0)(neg:Bool):R2:=λx y H Q=>∃ p xs,y=.ref p/\(SqL K H p xs∨SqT K H p xs)/\flatV x=true/\xs.all flatV=true/\Q (.bl (if neg then !inV x xs else inV x xs)) H
theorem Z5c:OpR X (compareOp .In) (rIn X.K false):=by
 intro pins s σ H x y v u Q I rx ry h
 obtain⟨p,xs,rfl,hq,fx,fs,q⟩:=h
 cases ry
 rcases hq with hq | hq
 ·obtain⟨its,r,pl,hz⟩:=I.list hq
  refine SeqAt.in_listAt (eqU x) pl.isList (λw hw=>Z5g rx fx r fs w (by simpa using hw)) ⟨.bl _,H,I,U,?_⟩
  rw[show its.toArray.any (eqU x)=its.any (eqU x) by simp,Z7q r fs]
  exact q
 ·obtain⟨its,r,pl,hz⟩:=I.tuple hq
  refine SeqAt.in_tupleAt (eqU x) pl (λw hw=>Z5g rx fx r fs w (by simpa using hw)) ⟨.bl _,H,I,U,?_⟩
  rw[show its.toArray.any (eqU x)=its.any (eqU x) by simp,Z7q r fs]
  exact q
theorem Z9x:OpR X (compareOp .NotIn) (rIn X.K true):=by
 intro pins s σ H x y v u Q I rx ry h
 obtain⟨p,xs,rfl,hq,fx,fs,q⟩:=h
 cases ry
 rcases hq with hq | hq
 ·obtain⟨its,r,pl,hz⟩:=I.list hq
  refine SeqAt.notIn_listAt (eqU x) pl.isList (λw hw=>Z5g rx fx r fs w (by simpa using hw)) ⟨.bl _,H,I,U,?_⟩
  rw[show its.toArray.any (eqU x)=its.any (eqU x) by simp,Z7q r fs]
  exact q
 ·obtain⟨its,r,pl,hz⟩:=I.tuple hq
  refine SeqAt.notIn_tupleAt (eqU x) pl (λw hw=>Z5g rx fx r fs w (by simpa using hw)) ⟨.bl _,H,I,U,?_⟩
  rw[show its.toArray.any (eqU x)=its.any (eqU x) by simp,Z7q r fs]
  exact q
theorem Z0r:CallR X (.builtin "len") (λxs H Q=>∃ p ys,xs=[.ref p]/\(SqL X.K H p ys∨SqT X.K H p ys)/\Q (.int ys.length) H):=by
 intro pins s σ H xs us Q I r h
 obtain⟨p,ys,rfl,hq,q⟩:=h
 obtain⟨u,rfl,rx⟩:=vals1 r
 cases rx
 have hn:=line63
 rcases hq with hq | hq
 ·obtain⟨its,r',pl,hz⟩:=I.list hq
  have hlen:=r'.length
  exact Calls.call_len_list pl.isList (by simp only[q0r]<;>omega) ⟨.int ys.length,H,I.tok _,⟨s.toks+1,by rw[q0r,hlen]⟩,q⟩
 ·obtain⟨its,r',pl,hz⟩:=I.tuple hq
  have hlen:=r'.length
  exact len_tuple pl (by simp only[q0r]<;>omega) ⟨.int ys.length,H,I.tok _,⟨s.toks+1,by rw[q0r,hlen]⟩,q⟩
theorem Z6f:CallR X (.type "list") (λxs H Q=>∃ p ys,xs=[.ref p]/\(SqL X.K H p ys∨SqT X.K H p ys)/\∀ l,H l=none->Q (.ref l) (upd H l (.lst ys))):=by
 intro pins s σ H xs us Q I r h
 obtain⟨p,ys,rfl,hq,q⟩:=h
 obtain⟨u,rfl,rx⟩:=vals1 r
 cases rx
 have fin:∀ (its:U5),Vals ys its->ys.length<=sizeLine->∀ (h':Heap) (c':Nat),(∀ b o',s.heap.get? b=some o'->h'.get? b=some o') →
   h'.get? s.heap.objs.size=some { cls:=.type "list",dict:=none,data:=.seq its.toArray c',slots:=#[] }->EP X pins σ Q (.ref s.heap.objs.size) { s with heap:=h' }:=λits r' hz h' c' kp e =>
  ⟨.ref s.heap.objs.size,_,I.laid (t':=s.toks) kp (q0l _) (show ObjOk X.prog X.w _ h' _ (.lst ys) from ⟨hz,its,c',r',e⟩),U,q _ (I.hok.fresh (q0l _))⟩
 rcases hq with hq | hq
 ·obtain⟨its,r',pl,hz⟩:=I.list hq
  have hlen:=r'.length
  obtain⟨o,ho,hc,n,hd⟩:=pl.isList
  exact call_list_seq p (.inl rfl) ho hc hd (λh' c' kp e=>fin its r' hz h' c' kp e) (by simp only[q0r]<;>omega)
 ·obtain⟨its,r',pl,hz⟩:=I.tuple hq
  have hlen:=r'.length
  obtain⟨o,ho,hc,n,hd⟩:=pl
  exact call_list_seq p (.inr rfl) ho hc hd (λh' c' kp e=>fin its r' hz h' c' kp e) (by simp only[q0r]<;>omega)
theorem Z9c:CallR X (.type "tuple") (λxs H Q=>∃ p ys,xs=[.ref p]/\((SqL X.K H p ys/\∀ l,H l=none->Q (.ref l) (upd H l (.tup ys)))∨(SqT X.K H p ys/\Q (.ref p) H))):=by
 intro pins s σ H xs us Q I r h
 obtain⟨p,ys,rfl,h⟩:=h
 obtain⟨u,rfl,rx⟩:=vals1 r
 cases rx
 rcases h with ⟨hq,q⟩ | ⟨hq,q⟩
 ·obtain⟨its,r',pl,hz⟩:=I.list hq
  have hlen:=r'.length
  refine call_tuple_list pl.isList (λh' kp=>?_) (by simp only[q0r]<;>omega)
  have I1:Inv X pins σ H { s with heap:=h' }:=I.kept (t':=s.toks) kp
  have I2:Inv X pins σ (upd H h'.objs.size (.tup ys)) { s with heap:=h'.push { cls:=.type "tuple",data:=.seq its.toArray } } :=
   I1.laid (t':=s.toks) (λb o e=>q0e _ e) (q0l _) (show ObjOk X.prog X.w _ _ _ (.tup ys) from ⟨hz,its,r',IsTup.new _ _⟩)
  exact⟨.ref h'.objs.size,_,I2,U,q _ (I1.hok.fresh (q0l _))⟩
 ·obtain⟨its,r',pl,hz⟩:=I.tuple hq
  exact call_tuple_same pl ⟨.ref p,H,I,U,q⟩
def tyV (K:U0)(T:String)(x:V)(H:Hp):Prop:=match x with
 | .str _=>T="str"
 | .int _=>T="int"
 | .ref p=>(T="list"/\∃ xs,SqL K H p xs)∨(T="tuple"/\∃ o,K.lookup p=some o/\o.cls=.type "tuple"/\o.dict=none) ∨
   (T="dict"/\((∃ kvs,H p=some (.dK kvs))∨∃ kvs,H p=some (.dT kvs)))∨(T="set"/\∃ S n,H p=some (.set S n))
 | _=>False
theorem X2k {pins:U1}{σ:St}{H:Hp}{s:U7}{T:String}{x:V}{v:W2}(I:Inv X pins σ H s)(r:RelV x v)(ty:tyV X.K T x H) :
  s.TypeIs v T/\∀ a,v=.ref a->∃ ob,s.heap.get? a=some ob/\ob.dict=none:=by
 cases x with
 | str z =>
  obtain⟨t,rfl⟩:=r
  cases (show T="str" from ty)
  exact⟨typeIs_str s z t,λ_ e=>nomatch e⟩
 | int i =>
  obtain⟨t,rfl⟩:=r
  cases (show T="int" from ty)
  exact⟨typeIs_int s i t,λ_ e=>nomatch e⟩
 | ref p =>
  cases r
  rcases ty with ⟨rfl,xs,hq⟩ | ⟨rfl,o,hk,hc,hd⟩ | ⟨rfl,hk⟩ | ⟨rfl,S,n,hk⟩
  ·obtain⟨its,_,pl,_⟩:=I.list hq
   refine⟨pl.isList.typeIs,λa e=>?_⟩
   cases e
   obtain⟨o,n,e,c,hd,_⟩:=pl
   exact⟨o,e,hd⟩
  ·refine⟨⟨o,I.kIn p o hk,hc⟩,λa e=>?_⟩
   cases e
   exact⟨o,I.kIn _ o hk,hd⟩
  ·have z:∃ o,s.heap.get? p=some o/\o.ExactDict:=by
    rcases hk with ⟨kvs,hk⟩ | ⟨kvs,hk⟩
    ·obtain⟨_,_,_,_,o,_,_,e,ex,_⟩:=I.hok p _ hk
     exact⟨o,e,ex⟩
    ·obtain⟨_,_,_,_,o,_,_,e,ex,_⟩:=I.hok p _ hk
     exact⟨o,e,ex⟩
   obtain⟨o,e,ex⟩:=z
   refine⟨⟨o,e,ex.1⟩,λa e2=>?_⟩
   cases e2
   exact⟨o,e,ex.2.1⟩
  ·obtain⟨o,_,_,_,e,ex,_⟩:=I.hok p _ hk
   refine⟨⟨o,e,ex.1⟩,λa e2=>?_⟩
   cases e2
   exact⟨o,e,ex.2.1⟩
 | _=>exact False.elim ty
def tBM0 (K:U0)(T:String)(r:V->List V->Hp->VK->Prop)(to:TE):TE:=λσ H Q=>to σ H λx H1=>tyV K T x H1/\r x [] H1 Q
def tBM (K:U0)(T:String)(r:V->List V->Hp->VK->Prop)(to:TE)(t:TA):TE:=λσ H Q=>to σ H λx H1=>tyV K T x H1/\t σ H1 λxs H2=>r x xs H2 Q
variable {o e:Expr}{es:List Expr}{to:TE}{t:TA}{name:Str}{apos cpos:Pos}{T id:String}{r:V->List V->Hp->VK->Prop}
theorem Z5a (pa:PlainAttrs T)(slot:Slot T name id)(hty:typeOf (.builtin id)=pure (.type "method_descriptor"))(hm:MtR X id r)(ho:PE X o to)
  (hbase:attributeBase o name X.env (eval o X.env)=eval o X.env:=by rfl) (hline:(apos.endLine == cpos.line)=true:=by rfl):PE X (.Call (.Attribute o name apos) [] [] cpos) (tBM0 X.K T r to):=by
 intro pins s σ H Q I h
 refine wpAny_Call_method0_late hbase hline (thn (ho pins s σ H _ I h) λv s1 ⟨x,H1,I1,r1,ty,q1⟩=>?_)
 obtain⟨h1,h2⟩:=X2k I1 r1 ty
 exact⟨T,id,pa,slot,hty,h1,h2,Calls.callWith_builtin rfl (PySem.evalArgs_none (hm pins s1 σ H1 x [] v [] Q I1 r1 .nil q1))⟩
theorem Y6q (pa:PlainAttrs T)(slot:Slot T name id)(hty:typeOf (.builtin id)=pure (.type "method_descriptor"))(hm:MtR X id r)(ho:PE X o to)(ha:PA X (e::es) t)
  (hbase:attributeBase o name X.env (eval o X.env)=eval o X.env:=by rfl)
  (hfew:((backTo cpos (starEach (e::es) X.env)).all (λx=>!x.1) && (backToKw cpos (keywordEach [] X.env)).all (λx=>x.1.isSome)
   && decide ((e::es).length+([]:List Keyword).length+(if ([]:List Keyword).isEmpty then 0 else 1)<30))=true:=by rfl)
  (hline:(apos.endLine == cpos.line)=true:=by rfl) (hs:starEach (e::es) X.env=(false,eval e X.env)::starEach es X.env:=by rfl) (hplain:(backTo cpos (starEach es X.env)).any (·.1)=false:=by rfl) :
  PE X (.Call (.Attribute o name apos) (e::es) [] cpos) (tBM X.K T r to t):=by
 intro pins s σ H Q I h
 refine wpAny_Call_method_late hbase hfew hline rfl (thn (ho pins s σ H _ I h) λv s1 ⟨x,H1,I1,r1,ty,q1⟩=>?_)
 obtain⟨h1,h2⟩:=X2k I1 r1 ty
 refine⟨T,id,pa,slot,hty,h1,h2,?_⟩
 have hA:=ha cpos pins s1 σ H1 _ I1 q1
 rw[hs] at hA ⊢
 refine Calls.callWith_builtin (by show (false || (backTo cpos (starEach es X.env)).any (·.1))=false;rw[hplain]<;>rfl) (Calls.evalArgs_plain ?_)
 exact thn hA λus s2 ⟨vs,H2,I2,r2,q2⟩=>hm pins s2 σ H2 x vs v us Q I2 r1 r2 q2
end
def MtM (X:Cx)(id:String)(r:V->List V->Hp->VK->Prop):Prop :=
 ∀ (pins:U1) (s:U7) (σ:St) (H:Hp) (x:V) (xs:List V) (v:W2) (us:U5) (Q:VK),Inv X pins σ H s->RelV x v->Vals xs us->r x xs H Q →
  wpAny (model X.prog X.w) X.A (call (.builtin id) (v::us)) (EP X pins σ Q) X.xe s
theorem Vals.one {x:V}{us:U5}(h:Vals [x] us):∃ u,us=[u]/\RelV x u:=by
 cases h with
 | cons r t=>cases t;exact⟨_,rfl,r⟩
theorem Vals.two {x y:V}{us:U5}(h:Vals [x,y] us):∃ u v,us=[u,v]/\RelV x u/\RelV y v:=by
 cases h with
 | cons r t=>cases t with
  | cons q t=>cases t;exact⟨_,_,rfl,r,q⟩
section
variable {X:Cx}{pins:U1}{σ:St}{H:Hp}{s:U7}{l b:W9}{xs ys zs:List V}
theorem Inv.lset {its its':U5}{n:Nat}{f:Array Value->Array Value}{t':Nat}(I:Inv X pins σ H s)(hH:H l=some (.lst xs))
  (e:s.heap.get? l=some { cls:=.type "list",data:=.seq its.toArray n }) (hf:f its.toArray=its'.toArray) (hv:Vals ys its') (hz:ys.length<=sizeLine) :
  Inv X pins σ (upd H l (.lst ys)) { s with heap:=s.heap.update l (Obj.mapSeq f),toks:=t' }:=by
 have q:=PySem.IsL.update e f
 rw[hf] at q
 refine I.write (x:=l) (e:=l) (by rw[hH];exact trivial) (.inl rfl) (λb' u hb hu=>(q3e s.heap (Obj.mapSeq f) (Ne.symm hb)).trans hu) ⟨_,q⟩ ?_
 exact⟨hz,its',_,hv,q⟩
theorem Inv.lnew {its:U5}{t':Nat}(I:Inv X pins σ H s)(hv:Vals ys its)(hz:ys.length<=sizeLine) :
  Inv X pins σ (upd H s.heap.objs.size (.lst ys)) { s with heap:=s.heap.push { cls:=.type "list",data:=.seq its.toArray },toks:=t' } :=
 I.laid (λ_ _ q=>q0e _ q) (q0l _) ⟨hz,its,0,hv,q0n _ rfl⟩
theorem Inv.fresh (I:Inv X pins σ H s):H s.heap.objs.size=none:=I.hok.fresh (q0l _)
theorem Inv.lstM (I:Inv X pins σ H s)(hH:H l=some (.lst xs)):xs.length<=sizeLine/\∃ (its:U5) (n:Nat),Vals xs its/\xs.length=its.length/\s.heap.get? l=some { cls:=.type "list",data:=.seq its.toArray n }:=by
 obtain⟨z,its,n,r,e⟩:=I.hok l _ hH
 exact⟨z,its,n,r,r.length,e⟩
theorem X0w {n:Nat}(h:n<=sizeLine):Builtin.List.listTooLong n=false:=by
 unfold Builtin.List.listTooLong
 exact q0k (by omega)
end
section
variable {X:Cx}
def X4k:V->List V->Hp->VK->Prop:=λx vs H Q=>∃ l xs y,x=.ref l/\vs=[y]/\H l=some (.lst xs)/\xs.length<sizeLine/\Q .non (upd H l (.lst (xs++[y])))
theorem Z4c:MtM X "list.append" X4k:=by
 intro pins s σ H x vs v us Q I rx rv h
 obtain⟨l,xs,y,rfl,rfl,hH,hz,q⟩:=h
 cases rx
 obtain⟨u,rfl,ru⟩:=rv.one
 obtain⟨z,its,n,r,hl,e⟩:=I.lstM hH
 refine call_meets F.slot_list_append ⟨_,e,U⟩ F.entry_list_append (F.args_list_append_2 _ _) (PySem.list_append l its.toArray n u (by rw[q0r];omega)) ⟨e,?_⟩
 refine⟨.non,_,I.lset (its':=its++[u]) hH e (by simp) (r.append (.cons ru .nil)) ?_,U,q⟩
 rw[q0j,q2g]
 omega
def X4j:V->List V->Hp->VK->Prop:=λx vs H Q=>∃ l b xs zs,x=.ref l/\vs=[.ref b]/\H l=some (.lst xs)/\H b=some (.lst zs)/\xs.length+zs.length<=sizeLine/\Q .non (upd H l (.lst (xs++zs)))
theorem Y0b:MtM X "list.extend" X4j:=by
 intro pins s σ H x vs v us Q I rx rv h
 obtain⟨l,b,xs,zs,rfl,rfl,hH,hB,hz,q⟩:=h
 cases rx
 obtain⟨u,rfl,ru⟩:=rv.one
 cases ru
 obtain⟨z,its,n,r,hl,e⟩:=I.lstM hH
 obtain⟨z2,its2,n2,r2,hl2,e2⟩:=I.lstM hB
 have hsz:its.toArray.size+its2.toArray.size<=sizeLine:=by rw[q0r,q0r];omega
 have hlong:¬ (!its.toArray.isEmpty && Builtin.List.listTooLong (its.toArray.size+its2.toArray.size))=true:=by
  rw[X0w hsz,Bool.and_false]
  exact q0y
 refine call_meets F.slot_list_extend ⟨_,e,U⟩ F.entry_list_extend (F.args_list_extend_2 _ _)
  (AutoSeq1.list_extend_list_list_0 l its.toArray n b its2.toArray n2 hlong (by rw[q0r];omega) (by omega)) ⟨e,e2,?_⟩
 refine⟨.non,_,I.lset (its':=its++its2) hH e (by simp) (r.append r2) ?_,U,q⟩
 rw[q0j]
 omega
def rCat:R2:=λx y H Q=>∃ l b xs zs,x=.ref l/\y=.ref b/\H l=some (.lst xs)/\H b=some (.lst zs)/\xs.length+zs.length<=sizeLine/\∀ p,H p=none->Q (.ref p) (upd H p (.lst (xs++zs)))
theorem Y3e:OpR X (binaryOp .Add) rCat:=by
 intro pins s σ H x y v u Q I rx ry h
 obtain⟨l,b,xs,zs,rfl,rfl,hH,hB,hz,q⟩:=h
 cases rx
 cases ry
 obtain⟨z,its,n,r,hl,e⟩:=I.lstM hH
 obtain⟨z2,its2,n2,r2,hl2,e2⟩:=I.lstM hB
 refine PySem.P.add_list e e2 ?_ (by rw[q0r,q0r];omega)
 have ea:its.toArray++its2.toArray=(its++its2).toArray:=by simp
 rw[ea]
 exact⟨.ref _,_,I.lnew (t':=s.toks) (r.append r2) (by rw[q0j];omega),U,q _ I.fresh⟩
end
section
variable {prog:U8}{w:W1}{A:W6}{E:U2}{s:U7}
end
section
variable {X:Cx}
end
end L2
namespace Att
open PySem.W PySem.Calls
theorem Z7j {P:Params}{h:Heap}:∀ (ns:U6) (vs:U5),WellAll P h vs (ns.map WData.int)->IntsAre vs ns:=by
 intro ns
 induction ns with
 | nil =>
  intro vs w
  rw[q8x] at w
  cases w
  exact .nil
 | cons n ns ih =>
  intro vs w
  rw[q1v] at w
  cases w with
  | cons a b =>
   cases a
   exact .cons _ _ (ih _ b)
theorem Y6c {l:OpenLaw}{n:Nat}(hn:l.most=some n){P:Params}{h:Heap}{args:List WData}{vals:U5}
  (hpre:l.row.toRowW.claim.pre args=true) (hwl:WellAll P h vals args) :
  ∃ a vs ns,vals=[Value.ref a]/\args=[WData.list (ns.map WData.int)]/\h.get? a=some { cls:=.type "list",data:=.seq vs.toArray }/\IntsAre vs ns/\ns.length<=n:=by
 have hsh:WShape.hasAll [] args [.list .int]=true:=(pre_splitW hpre).1
 have hc:l.pre.holds [] { args:=args }=true:=(pre_splitW hpre).2
 obtain⟨d,r,rfl,h1,h2⟩:=hasAllW_cons hsh
 obtain rfl:=hasAllW_nil h2
 obtain⟨xs,rfl,h3⟩:=hasW_list h1
 obtain⟨ns,rfl⟩:=items_int h3
 have hlen:ns.length<=n:=by
  unfold OpenLaw.pre at hc
  have h4:(WTm.not (.lt (.lit (.int (n:Int))) (.len (.arg 0)))).holds [] { args:=[.list (ns.map .int)] }=true:=by
   have h4:=(holds_andW hc).1
   rw[hn] at h4
   exact h4
  have h5:=condW_of h4 (w_not (w_lt w_lit (w_len_list (w_arg rfl))))
  rw[q0a] at h5
  refine Nat.le_of_not_lt λq=>?_
  have q':(n:Int)<((ns.length:Nat):Int):=by omega
  first
   | (rw[q0q q'] at h5;exact absurd h5 (by decide))
   | (simp at h5;omega)
 cases hwl with
 | cons w1 w2 =>
  cases w2
  cases w1 with
  | list ho hall=>exact⟨_,_,ns,rfl,rfl,ho,Z7j ns _ hall,hlen⟩
theorem Y6i (l:OpenLaw)(args:List WData):l.row.toRowW.claim.post args (.bool true) args=true :=
 postW_of (r:=l.row.toRowW) (X:=(true == true))
  (show WShape.has [] (.bool true) .bool=true by first | rfl | decide | simp[WShape.has,WShape.arms,WShape.armsAll])
  (show (WTm.eq .res (.lit (.bool true))).value [] { args:=args,res:=some (.bool true),after:=args }=some (.bool (true == true)) from w_eq_bool (w_res rfl) w_lit) rfl
theorem Y2e {l:OpenLaw}{n:Nat}{q:U8}{loose:W0}{XP:(Str->Option Value)->Heap->Prop}{YP:World->Heap->Prop}{d:DefRec}
  (hn:l.most=some n) (hdf:d.params.defaults=[])
  (call:∀ (w:W1) (s₀ s₁:U7) (mg mb:U4) (fa:W9) (o:Obj) (pm cd doc:W2) (a:W9) (vs:U5) (ns:U6),
   Ground q loose [] XP w s₀ mg mb s₁.heap->YP w s₁.heap →
   s₁.heap.get? fa=some o->o.data=.func (docDef d.name d.params d.body d.scope pm cd doc)->s₁.heap.CodeRec cd d.name->mg d.name=some (.ref fa) →
   s₁.heap.get? a=some { cls:=.type "list",data:=.seq vs.toArray }->IntsAre vs ns->ns.length<=n->s₁.gens=#[] →
   codeAny (model l.prog w) callerA (.call (.ref fa) ⟨[.ref a],[]⟩) (λr s'=>r=.ok (.ret (.bool true))/\OldK s₁.heap s'.heap/\s'.os=s₁.os/\AllBare s'.gens) s₁) :
  WalkO q loose XP YP l.row.toRowW d [] (λf vs=>PySem.call f vs):=by
 intro w s₀ s₁ mg mb G Y fa o pm cd doc dV kV ho hd hcd hD hmg hg args vals as hpre hlay hrd hwl hlo
 obtain rfl:dV=.none:=Dflts.none hD hdf
 obtain rfl:kV=.none:=Dflts.noKw hD
 obtain⟨a,vs,ns,rfl,rfl,hobj,hints,hlen⟩:=Y6c hn hpre hwl
 refine enter_call (q5h (call w s₀ s₁ mg mb fa o pm cd doc a vs ns G Y ho (fd_plain hd) hcd hmg hobj hints hlen hg) λr s' hq=>?_)
 obtain⟨rfl,h2,h3,h4⟩:=hq
 exact⟨.inl ⟨.bool true,.bool true,[],U,λ_=>rfl,.bool true,Y6i l _,λ_=>⟨List.Pairwise.nil,λ_ hm=>(nomatch hm)⟩⟩,h2,h3,h4⟩
section
variable {prog:U8}{w:W1}{A:W6}{E:U2}{s:U7}{K:Frag}
end
end Att
namespace L2
theorem Z6t:∀ {vs:U5}{ns:U6},IntsAre vs ns->Vals (ns.map V.int) vs
 | _,_,.nil=>.nil
 | _,_,.cons n t h=>.cons ⟨t,rfl⟩ (Z6t h)
def Only (H:Hp):Prop:=∀ b,H b=none∨∃ o xs,H b=some (.frz o (.lst xs))
theorem X1e {P:U8}{w:W1}{K:U0}{mg mb:U4}{CX:CXT}{k:Nat}{fa a:W9}{fd:FuncData}{x:Str}{sp:Sp}{s₁:U7}{vs:U5}{ns:U6}
  (KX:K.In s₁.heap) (hns:s₁.heap.Ns mainGlobals mg) (hb:s₁.heap.Ns builtinsNs mb) (hbb:∀ x:Str,x≠"__name__"->mb x=bootBuiltins x) (hlim:s₁.heap.NoLimit) (hg:s₁.gens=#[])
  (ha:s₁.heap.get? a=some { cls:=.type "list",data:=.seq vs.toArray }) (hi:IntsAre vs ns) (hl:ns.length<=sizeLine) (hr:Room k callerA)
  (F:∀ base:Heap,K.In base->base.Ns mainGlobals mg->FnOk P w K mg base CX k fa fd [x] sp) (hbind:∀ (s:U7) (u:W2),BindsTo s fd ⟨[u],[]⟩ [(x,u)])
  (hsp:∀ H:Hp,Only H->SqL K H a (ns.map V.int)->sp [.ref a] H (λv _=>v=.bl true) λ_ _ _=>False)
  (hCX:∀ H e s',CX [] H s₁ (λ_ _ _=>False) e s'->False) :
  codeAny (model P w) callerA (.call (.ref fa) ⟨[.ref a],[]⟩) (λr s'=>r=.ok (.ret (.bool true))/\OldK s₁.heap s'.heap/\s'.os=s₁.os/\AllBare s'.gens) s₁:=by
 have rv:=Z6t hi
 have lenV:=hi.length
 have core:∀ H:Hp,Only H->SqL K H a (ns.map V.int)->HOk P w H s₁.heap->(∀ b,H b≠none->b=a)->(H a≠none->K.lookup a=none) →
   codeAny (model P w) callerA (.call (.ref fa) ⟨[.ref a],[]⟩) (λr s'=>r=.ok (.ret (.bool true))/\OldK s₁.heap s'.heap/\s'.os=s₁.os/\AllBare s'.gens) s₁:=by
  intro H hO hS hok hA hK
  have base_of:∀ {b:W9}{o:Obj},s₁.heap.get? b=some o->H b=none->(hidT s₁.heap H).get? b=some o:=λe n=>X1k e n
  have noA:∀ {b:W9}{o:Obj}{es:Array DictEntry}{ep:Nat},s₁.heap.get? b=some o->o.data=.dict es ep->H b=none:=λ{b o es ep} e d=>by
   cases q:H b with
   | none=>rfl
   | some u =>
    have e':b=a:=hA b (by rw[q];simp)
    subst e'
    rw[ha] at e;cases e
    have d':Data.seq vs.toArray _=Data.dict es ep:=d
    cases d'
  have nsK:∀ {b:W9}{m:U4},s₁.heap.Ns b m->(hidT s₁.heap H).Ns b m:=λ{b m} ⟨o,es,ep,e,d,r⟩=>⟨o,es,ep,base_of e (noA e d),d,r⟩
  have hKb:K.In (hidT s₁.heap H):=λb o e=>base_of (KX b o e) (by
   cases q:H b with
   | none=>rfl
   | some u =>
    have e':b=a:=hA b (by rw[q];simp)
    subst e'
    rw[hK (by rw[q];simp)] at e;cases e)
  have hM:Mod K mg (hidT s₁.heap H):=⟨hKb,nsK hns,⟨mb,nsK hb,hbb⟩,let ⟨mc,h1,h2⟩:=hlim;⟨mc,nsK h1,h2⟩⟩
  have e0:Env0 P w K mg (hidT s₁.heap H) callerA [] s₁ H:=⟨U,hM,λb o e=>X5i e,Nat.le_of_eq (Y8f _ _),trivial,λb hb=>absurd (show b∈([]:U3) from hb) (by simp),hok,.of_eq hg⟩
  refine q5h ((F _ hKb (nsK hns)).run callerA [] s₁ H ⟨[.ref a],[]⟩ [.ref a] [.ref a] _ _ hr e0 (hbind s₁ (.ref a)) (.cons rfl .nil) (hsp H hO hS)) λr s' h=>?_
  cases r with
  | error e=>exact(hCX H e s' h).elim
  | ok fl =>
   cases fl with
   | next=>exact False.elim h
   | brk=>exact False.elim h
   | cont=>exact False.elim h
   | ret u =>
    obtain⟨v,H',os,bare,un,hok',r',q⟩:=h
    have q':v=.bl true:=q
    subst q'
    obtain rfl:u=Value.bool true:=r'
    refine⟨U,OldK.of_keep λb o e=>?_,os,bare⟩
    cases q:H b with
    | none=>exact un.keep b o e q (by intro z;exact absurd (show b∈([]:U3) from z) (by simp)) (by simp)
    | some u =>
     rcases hO b with z | ⟨ob,xs,z⟩
     ·rw[q] at z;cases z
     ·have z2:=un.frzs b ob _ z
      obtain⟨e1,_⟩:=hok b _ z
      obtain⟨e2,_⟩:=hok' b _ z2
      rw[e] at e1;cases e1
      exact e2
 cases hk:K.lookup a with
 | some o =>
  have e:=KX a o hk
  rw[ha] at e
  cases e
  refine core (λ_=>none) (λ_=>.inl rfl) (.inr ⟨_,vs.toArray,_,hk,U,U,U,by rw[q0r,lenV];exact hl,by simpa using rv⟩) (λb u z=>by have z':(none:Option HO)=some u:=z;cases z') (λb z=>absurd rfl z) λz=>absurd rfl z
 | none =>
  refine core (λb=>if b=a then some (.frz { cls:=.type "list",data:=.seq vs.toArray } (.lst (ns.map V.int))) else none) (λb=>?_) (.inl (.inr ⟨{ cls:=.type "list",data:=.seq vs.toArray },if_pos rfl⟩)) (λb u z=>?_) (λb z=>?_) λ_=>hk
  ·by_cases hb:b=a
   ·exact .inr ⟨_,_,if_pos hb⟩
   ·exact .inl (if_neg hb)
  ·by_cases hb:b=a
   ·have z':=(if_pos hb).symm.trans z
    cases z'
    subst hb
    exact⟨ha,by rw[q0a];exact hl,vs,_,rv,ha⟩
   ·have z':=(if_neg hb).symm.trans z
    cases z'
  ·by_cases hb:b=a
   ·exact hb
   ·exact absurd (if_neg hb) z
theorem X3o {l:PySem.W.OpenLaw}{n k:Nat}{q:U8}{loose:W0}{XP:(Str->Option Value)->Heap->Prop}{YP:World->Heap->Prop}{d:DefRec}{K:Params->U0}{CX:World->CXT}{sp:World->Sp}{x:Str}
  (hn:l.most=some n) (hn2:n<=sizeLine) (hdf:d.params.defaults=[]) (hr:Room k callerA)
  (hY:∀ (w:W1) (h:Heap),YP w h->(K w.params).In h)
  (F:∀ (w:W1) (mg:U4) (fa:W9) (h:Heap),(K w.params).In h->h.Ns mainGlobals mg->mg d.name=some (.ref fa) →
   ∃ fd:FuncData,(∀ (s:U7) (u:W2),BindsTo s fd ⟨[u],[]⟩ [(x,u)]) ∧
    ∀ base:Heap,(K w.params).In base->base.Ns mainGlobals mg->FnOk l.prog w (K w.params) mg base (CX w) k fa fd [x] (sp w))
  (hsp:∀ (w:W1) (H:Hp) (a:W9) (ns:U6),ns.length<=n->Only H->SqL (K w.params) H a (ns.map V.int)->sp w [.ref a] H (λv _=>v=.bl true) λ_ _ _=>False)
  (hCX:∀ (w:W1) (H:Hp) (s:U7) (e:W2) (s':U7),CX w [] H s (λ_ _ _=>False) e s'->False) :
  PySem.W.WalkO q loose XP YP l.row.toRowW d [] (λf vs=>PySem.call f vs):=by
 refine Att.Y2e hn hdf λw s₀ s₁ mg mb fa o pm cd doc a vs ns G Y ho hd hcd hmg hobj hints hlen hg=>?_
 have KX:=hY w _ Y
 obtain⟨fd,hb,hF⟩:=F w mg fa _ KX G.T.g hmg
 exact X1e KX G.T.g G.T.b G.T.builtins G.T.nolimit hg hobj hints (q1b hlen hn2) hr hF hb (λH hO hS=>hsp w H a ns hlen hO hS) λH e s'=>hCX w H s₁ e s'
end L2
namespace L2
noncomputable def Z4f (s:Stmt)(j:Nat):Stmt:=match s with
 | .ClassDef _ _ _ body _ _ _ _ _ _ _=>body.getD j (.Pass ⟨0,0,0,0⟩)
 | _=>.Pass ⟨0,0,0,0⟩
noncomputable def Z1f (s:Stmt):Arguments:=match s with
 | .FunctionDef _ a _ _ _ _ _ _ _ _=>a
 | _=>{ posonlyargs:=[],args:=[],vararg:=none,kwonlyargs:=[],kw_defaults:=[],kwarg:=none,defaults:=[] }
noncomputable def Z1c (s:Stmt):List Stmt:=match s with
 | .FunctionDef _ _ b _ _ _ _ _ _ _=>b
 | _=>[]
noncomputable def Z0h (s:Stmt):Scope:=match s with
 | .FunctionDef _ _ _ _ _ _ sc _ _ _=>sc
 | _=>{ kind:=.function,names:=[],isGenerator:=false,isCoroutine:=false }
noncomputable abbrev CX0:CXT:=λ_ _ _ _ _ _=>False
abbrev E0:XK:=λ_ _ _=>False
theorem pass0 {X:Cx}:Passes CX0 X E0:=λ_ _ _ _ _ _ _ h=>h.elim
structure Fun (K:U0) (x qual:Str) (st:Stmt) (f:W9) (fd:FuncData):Prop where
 ex:∃ (oc:W2) (od:W5) (kV doc pm:W2) (an:W5) (cdv ct:W2) (osl:W4),
  fd=PySem.W.fnOf x qual (Z1f st) (Z1c st) (Z0h st) .none kV doc pm an cdv ct/\K.lookup f=some ⟨oc,od,.func fd,osl⟩/\PySem.W.codeIn K cdv qual=true
 kp:PySem.W.keepIn K (.ref f)=true
section
variable {P:U8}{w:W1}{K:U0}{mg:U4}{base:Heap}
theorem Fun.ok {x qual:Str}{st:Stmt}{f:W9}{fd:FuncData}{N ps:W0}{k:Nat}{sp:Sp}(F:Fun K x qual st f fd)(S:FnScope N ps (Z0h st))(len:∀ vs H Q E,sp vs H Q E->vs.length=ps.length)
  (hbody:∀ (cdv:W2) (A:W6) (outer:List Env) (s:U7) (H:Hp) (vs:List V) (Q:VK) (E:XK),Room k (A.deeper (envOfC qual (Z0h st) s.heap.objs.size f cdv))->sp vs H Q E →
   ∃ t,PSs (cxOf CX0 P w K mg base N qual (Z0h st) f cdv A outer s H E).nox (Z1c st) t/\t { nx:=λ_ H'=>Q .non H',rt:=Q } (start N vs) H):FnOk P w K mg base CX0 (k+1) f fd ps sp:=by
 obtain⟨oc,od,kV,doc,pm,an,cdv,ct,osl,rfl,lk,hcd⟩:=F.ex
 refine X6l lk hcd S len λA outer s H vs Q E hr hsp=>?_
 obtain⟨t,h,q⟩:=hbody cdv A outer s H vs Q E hr hsp
 exact⟨t,h.nox,q⟩
theorem W0g {x qual:Str}{st:Stmt}{f:W9}{oc:W2}{od an:W5}{osl:W4}{kV doc pm cdv ct:W2}(l:K.lookup f=some ⟨oc,od,.func (PySem.W.fnOf x qual (Z1f st) (Z1c st) (Z0h st) .none kV doc pm an cdv ct),osl⟩)
  (c:PySem.W.codeIn K cdv qual=true) (k:PySem.W.keepIn K (.ref f)=true):Fun K x qual st f (PySem.W.fnOf x qual (Z1f st) (Z1c st) (Z0h st) .none kV doc pm an cdv ct):=⟨⟨oc,od,kV,doc,pm,an,cdv,ct,osl,U,l,c⟩,k⟩
end
theorem Y1t {A:W6}{k:Nat}(hr:Room k A):A.units+1<cLine:=q2t (Nat.add_le_add_left (by decide:1<=64) _) hr.units
section
variable {X:Cx}
theorem pv (i:Nat){x:Str}{pos:Pos}(hN:X.N[i]?=some x:=by rfl)(hv:Vis X.env.scope x:=by first | exact Or.inl rfl | exact Or.inr (Or.inl rfl) | exact Or.inr (Or.inr rfl))(hd:(x == ("__debug__":Str))=false:=by decide)
  (hcd:(x == ("__classdict__":Str))=false:=by decide):PE X (.Name x pos) (tVar i):=X8g hN hv hd hcd
end
theorem iteF {A B:Prop}(h:B):if false=true then A else B:=by
 rw[if_neg q0y]
 exact h
theorem iteT {A B:Prop}(h:A):if true=true then A else B:=by
 rw[if_pos rfl]
 exact h
def Same (H H':Hp):Prop:=∀ b o,H b=some o->H' b=some o
theorem Same.refl (H:Hp):Same H H:=λ_ _ h=>h
theorem Same.trans {H H1 H2:Hp}(a:Same H H1)(b:Same H1 H2):Same H H2:=λc o h=>b c o (a c o h)
theorem Same.free {H H':Hp}(e:Same H H'){l:W9}(h:H' l=Option.none):H l=Option.none:=by
 cases q:H l with
 | none=>rfl
 | some o =>
  rw[e l o q] at h
  cases h
theorem Same.seq {K:U0}{H H':Hp}{a:W9}{xs:List V}(e:Same H H')(h:SqL K H a xs):SqL K H' a xs:=by
 rcases h with (h | ⟨o,h⟩) | h
 ·exact .inl (.inl (e _ _ h))
 ·exact .inl (.inr ⟨o,e _ _ h⟩)
 ·exact .inr h
end L2
set_option maxHeartbeats 4000000
namespace L2
def Sz (k:Nat)(x:Int):Prop:=x.natAbs<2^k
instance (k:Nat) (x:Int):Decidable (Sz k x):=by unfold Sz;infer_instance
theorem Sz.mono {j k:Nat}{x:Int}(h:Sz j x)(hjk:j<=k):Sz k x:=q0f h (q0v (by decide) hjk)
theorem Sz.le {k:Nat}{x y:Int}(h:Sz k x)(hy:y.natAbs<=x.natAbs):Sz k y:=q2t hy h
theorem Sz.mul {j k:Nat}{x y:Int}(h:Sz j x)(h':Sz k y):Sz (j+k) (x*y):=by
 unfold Sz at *
 rw[Int.natAbs_mul,q6i]
 exact Nat.mul_lt_mul'' h h'
theorem Sz.neg {k:Nat}{x:Int}(h:Sz k x):Sz k (-x):=by unfold Sz at *;rwa [Int.natAbs_neg]
theorem Sz.add {j k:Nat}{x y:Int}(h:Sz j x)(h':Sz k y):Sz (max j k+1) (x+y):=by
 have h1:=h.mono (Nat.le_max_left j k)
 have h2:=h'.mono (Nat.le_max_right j k)
 unfold Sz at *
 rw[q3n]
 have:=Int.natAbs_add_le x y
 omega
theorem Sz.bits {k:Nat}{x:Int}(h:Sz k x):Builtin.Int.intBits x<=k:=by
 unfold Builtin.Int.intBits
 split
 ·exact q1o _
 ·rename_i hx
  have hx':x≠0:=by simpa using hx
  have hn:x.natAbs≠0:=by omega
  exact(q6k hn).mpr h
theorem Sz.log2 {k:Nat}{x:Int}(h:Sz k x)(hk:0<k):x.natAbs.log2<k:=by
 by_cases hn:x.natAbs=0
 ·rw[hn];simpa using hk
 ·exact(q6k hn).mpr h
def CDivS (_i j:Int):Prop:=j≠0/\Sz 9000 j
section
variable {X:Cx}
theorem Y3d:OpR X (binaryOp .FloorDiv) (rI CDivS λi j=>.int (i.fdiv j)):=opI λ_ _ _ _ _ _ _ hc q=>floordiv_int hc.1 q (.inl (PyProof.noPylong_of_log2 (hc.2.log2 (by decide))))
theorem Z5p {h:Heap}{a:W9}{vs:U5}{ns:U6}(hl:IsTup h a vs.toArray)(hi:IntsAre vs ns):Reads h (.ref a) (.tuple (ns.map PyData.int)) []:=by
 obtain⟨o,ho,hc,n,hd⟩:=hl
 exact Reads.tuple ho hc hd (by simpa using PySem.W.readsAll_of_ints hi)
theorem Z6y (ns:U6):SeqAt.shaped (.tuple (ns.map PyData.int))=true:=by
 have h1:=q7x ns
 have h2:PyData.depth (.tuple (ns.map PyData.int))<=64:=by simp only[PyData.depth];omega
 show (PyData.canLay0 (.tuple (ns.map PyData.int)) && decide (PyData.depth (.tuple (ns.map PyData.int))<=64))=true
 rw[q0u]
 exact⟨by simp only[PyData.canLay0];exact q7g ns,q0q h2⟩
def rEqTI (K:U0)(neg:Bool):R2:=λx y H Q=>∃ (a b:W9) (ns ms:U6),x=.ref a/\y=.ref b/\SqT K H a (ns.map V.int)/\SqT K H b (ms.map V.int)/\Q (.bl (if neg then !decide (ns=ms) else decide (ns=ms))) H
theorem Y6w (hu:X.A.units+64<cLine):OpR X (compareOp .NotEq) (rEqTI X.K true):=by
 intro pins s σ H x y v u Q I rx ry h
 obtain⟨a,b,ns,ms,rfl,rfl,h1,h2,q⟩:=h
 cases rx;cases ry
 obtain⟨its,rv,p,_⟩:=I.tuple h1
 obtain⟨its',rv',p',_⟩:=I.tuple h2
 refine ne_dataH_same (Z5p p (Z3j rv)) (Z5p p' (Z3j rv')) (Z6y ns) (Z6y ms) hu (by simp only[SeqAt.noMix];exact PySem.W.noMix_ints ns ms) ?_
 refine⟨.bl (!decide (ns=ms)),H,I,?_,q⟩
 show _=_
 simp only[PySem.Spec.same]
 rw[PySem.W.same_ints]
theorem Z0x:CallR X (.builtin "isinstance") (λxs H Q=>∃ x T t b,xs=[x,.ty T]/\TyOf X.K H x t/\PySem.W.kitOne X.K t (.type T)=some b/\Q (.bl b) H):=by
 intro pins s σ H xs us Q I r h
 obtain⟨x,T,t,b,rfl,ty,e,q⟩:=h
 obtain⟨u,v,rfl,ru,rv⟩:=r.two
 cases rv
 exact Y8c I ru ty e λtk=>⟨.bl b,H,I.tok tk,U,q⟩
end
section
variable {prog:U8}{w:W1}{A:W6}{E:U2}
end
section
variable {X:Cx}{pos:Pos}
end
section
variable {X:Cx}{tg:Expr}
end
end L2
namespace L2
theorem Z8d {α β:Type}{f:α->β->Sem (ForInStep β)}{g:β->α->β}:∀ (l:List α) (b:β),(∀ x∈l,∀ b,f x b=pure (.yield (g b x)))->forIn l b f=pure (l.foldl g b)
 | [],b,_=>rfl
 | x::r,b,h=>by
  rw[List.forIn_cons,h x q2m b,pure_bind]
  exact Z8d r (g b x) λy hy=>h y (q1x _ hy)
noncomputable def cloF (cells:List (Str × Addr))(cs:List (Str × Addr))(x:Str × NameKind):List (Str × Addr):=if x.2 == .free then (x.1,(cells.lookup x.1).getD 0)::cs else cs
noncomputable def clo (names:List (Str × NameKind))(cells:List (Str × Addr)):List (Str × Addr):=names.foldl (cloF cells) []
theorem Z4l {scope:Scope}{env:Env}(h:∀ x∈scope.names,x.2=.free->∃ c,env.cells.lookup x.1=some c):closureFor scope env=pure (clo scope.names env.cells):=by
 simp only[closureFor]
 unfold clo
 rw[Z8d (g:=cloF env.cells) scope.names [] (λx hx b=>by
  obtain⟨n,k⟩:=x
  unfold cloF
  by_cases hk:k=.free
  ·subst hk
   obtain⟨c,hc⟩:=h (n,.free) hx rfl
   have hc':env.cells.lookup n=some c:=hc
   simp[cellOf,hc']
  ·have hb:(k == NameKind.free)=false:=by simpa using hk
   simp[hb])]
 rfl
theorem Z4o {x n:Str}{c:W9}{l:List (Str × Addr)}:List.lookup x ((n,c)::l)=if x=n then some c else List.lookup x l:=by
 by_cases h:x=n
 ·subst h
  rw[if_pos rfl,List.lookup_cons_self]
 ·rw[if_neg h,q5d]
  have:(x == n)=false:=by simpa using h
  rw[this]
theorem Y8q {cells:List (Str × Addr)}:∀ (names:List (Str × NameKind)) (cs:List (Str × Addr)),(∀ x∈names,x.2=.free->∃ c,cells.lookup x.1=some c)->(∀ x c,cs.lookup x=some c->cells.lookup x=some c) →
  ∀ x c,(names.foldl (cloF cells) cs).lookup x=some c->cells.lookup x=some c
 | [],cs,_,h0=>h0
 | (n,k)::r,cs,h,h0=>by
  refine Y8q r _ (λy hy=>h y (q1x _ hy)) λx c e=>?_
  unfold cloF at e
  by_cases hk:k=.free
  ·subst hk
   obtain⟨c',hc'⟩:=h (n,.free) q2m rfl
   simp only[beq_self_eq_true,q5q] at e
   rw[Z4o] at e
   have hc':cells.lookup n=some c':=hc'
   by_cases hx:x=n
   ·subst hx
    rw[if_pos rfl,hc'] at e
    rw[hc']
    exact e
   ·rw[if_neg hx] at e
    exact h0 x c e
  ·have hb:(k == NameKind.free)=false:=by simpa using hk
   simp only[hb,q2u,q3z] at e
   exact h0 x c e
theorem Z9b {cells:List (Str × Addr)}:∀ (names:List (Str × NameKind)) (cs:List (Str × Addr)) (x:Str),((x,NameKind.free)∈names∨∃ c,cs.lookup x=some c)->∃ c,(names.foldl (cloF cells) cs).lookup x=some c
 | [],cs,x,h=>by
  rcases h with h | h
  ·cases h
  ·exact h
 | (n,k)::r,cs,x,h=>by
  refine Z9b r _ x ?_
  unfold cloF
  by_cases hk:k=.free
  ·subst hk
   simp only[beq_self_eq_true,q5q]
   rw[Z4o]
   by_cases hx:x=n
   ·exact .inr ⟨_,if_pos hx⟩
   ·rw[if_neg hx]
    rcases h with h | h
    ·rcases q0s.mp h with h | h
     ·exact absurd (congrArg Prod.fst h) hx
     ·exact .inl h
    ·exact .inr h
  ·have hb:(k == NameKind.free)=false:=by simpa using hk
   simp only[hb,q2u,q3z]
   rcases h with h | h
   ·rcases q0s.mp h with h | h
    ·exact absurd (congrArg Prod.snd h).symm hk
    ·exact .inl h
   ·exact .inr h
structure LcOk (N:W0) (osc sc:Scope) (Nc:W0) (mp:W7):Prop where
 kind:sc.kind=.function
 nocell:∀ y∈sc.names,y.2≠.cell
 names:∀ y∈sc.names,y.2=.local->sc.names.lookup y.1=some .local
 free:∀ y∈sc.names,y.2=.free->osc.names.lookup y.1=some .cell∨osc.names.lookup y.1=some .free
 len:mp.length=Nc.length
 map:∀ (i j:Nat),mp[i]?=some (some j)->∃ x,Nc[i]?=some x/\N[j]?=some x/\sc.names.lookup x=some .free
noncomputable def lcChk (N:W0)(osc sc:Scope)(Nc:W0)(mp:W7):Bool :=
 decide (sc.kind=.function) && sc.names.all (λy=>!decide (y.2=.cell) && (!decide (y.2=.local) || decide (sc.names.lookup y.1=some .local)) &&
  (!decide (y.2=.free) || decide (osc.names.lookup y.1=some .cell) || decide (osc.names.lookup y.1=some .free))) &&
 decide (mp.length=Nc.length) && (List.range mp.length).all λi=>match mp[i]? with
  | some (some j)=>match Nc[i]? with
   | some x=>decide (N[j]?=some x) && decide (sc.names.lookup x=some .free)
   | none=>false
  | _=>true
theorem LcOk.of {N:W0}{osc sc:Scope}{Nc:W0}{mp:W7}(h:lcChk N osc sc Nc mp=true):LcOk N osc sc Nc mp:=by
 unfold lcChk at h
 simp only[q0u,q1f,q1e,q2x,Bool.not_eq_true',decide_eq_false_iff_not] at h
 obtain⟨⟨⟨h1,h2⟩,h3⟩,h4⟩:=h
 refine⟨h1,λy hy=>(h2 y hy).1.1,λy hy e=>?_,λy hy e=>?_,h3,λi j e=>?_⟩
 ·rcases (h2 y hy).1.2 with q | q
  ·exact absurd e q
  ·exact q
 ·rcases (h2 y hy).2 with (q | q) | q
  ·exact absurd e q
  ·exact .inl q
  ·exact .inr q
 ·have hi:i<mp.length:=(q0o.mp e).1
  have q:=h4 i (q1c.mpr hi)
  rw[e] at q
  cases hx:Nc[i]? with
  | none=>rw[hx] at q;simp at q
  | some x =>
   rw[hx] at q
   simp only[q0u,q1f] at q
   exact⟨x,U,q.1,q.2⟩
theorem Z4d {f:Str × NameKind->Str × NameKind}(h1:∀ p,(f p).1=p.1)(h2:∀ p,p.2=.free->(f p).2=.cell∨(f p).2=.free):∀ {names:List (Str × NameKind)}{x:Str},names.lookup x=some .free->(names.map f).lookup x=some .cell∨(names.map f).lookup x=some .free
 | [],_,h=>by simp at h
 | (n,k)::r,x,h=>by
  have ih:=@Z4d f h1 h2 r x
  rw[q1v]
  have q1:=h1 (n,k)
  have q2:=h2 (n,k)
  generalize f (n,k)=z at q1 q2
  obtain⟨n',k'⟩:=z
  have q1':n'=n:=q1
  subst q1'
  cases hx:x == n' with
  | true =>
   rw[q5d,hx] at h
   have hk:k=.free:=by simpa using h
   rw[q5d,hx]
   rcases q2 hk with e | e
   ·have e':k'=.cell:=e
    subst e'
    exact .inl rfl
   ·have e':k'=.free:=e
    subst e'
    exact .inr rfl
  | false =>
   rw[q5d,hx] at h
   rw[q5d,hx]
   exact ih h
theorem Z4q {env:Env}{names:List (Str × NameKind)}{x:Str}(h:names.lookup x=some .free) :
  (names.map λ(n,k)=>if (k == NameKind.free && env.scope.kind == .function && env.kindOf n == some .cell) then (n,NameKind.cell) else (n,k)).lookup x=some .cell ∨
  (names.map λ(n,k)=>if (k == NameKind.free && env.scope.kind == .function && env.kindOf n == some .cell) then (n,NameKind.cell) else (n,k)).lookup x=some .free:=by
 refine Z4d (λp=>?_) (λp hp=>?_) h
 ·obtain⟨n,k⟩:=p
  dsimp only
  split<;>rfl
 ·obtain⟨n,k⟩:=p
  dsimp only
  split
  ·exact .inl rfl
  ·exact .inr hp
theorem Z7b {env:Env}{names:List (Str × NameKind)}{x:Str}{k':NameKind}(hc:∀ y∈names,y.2≠.cell)(hk:k'=.cell∨k'=.free)
  (h:(names.map λ(n,k)=>if (k == NameKind.free && env.scope.kind == .function && env.kindOf n == some .cell) then (n,NameKind.cell) else (n,k)).lookup x=some k'):(x,NameKind.free)∈names:=by
 have m:=q3f h
 obtain⟨⟨n,k⟩,hm,e⟩:=q2k.mp m
 dsimp only at e
 by_cases hf:k=.free
 ·subst hf
  have e1:n=x:=by
   by_cases hc':(NameKind.free == NameKind.free && env.scope.kind == .function && env.kindOf n == some .cell)=true
   ·rw[if_pos hc'] at e
    exact congrArg Prod.fst e
   ·rw[if_neg hc'] at e
    exact congrArg Prod.fst e
  exact e1 ▸ hm
 ·have hb:(k == NameKind.free)=false:=by simpa using hf
  simp only[hb,q3y,q2u,q3z] at e
  cases e
  rcases hk with z | z
  ·exact absurd z (hc _ hm)
  ·exact absurd z hf
noncomputable def cxLc (X:Cx)(scope:Scope)(Nc:W0)(ex:U3)(pins:U1)(s:U7)(H:Hp):Cx where
 prog:=X.prog
 w:=X.w
 K:=X.K
 mg:=X.mg
 base:=X.base
 A:=X.A
 N:=Nc
 s₀:=s
 H₀:=H
 env:=compEnvC scope (clo scope.names X.env.cells) s.heap.objs.size X.env
 outer:=X.stack
 stack:=X.stack
 ex:=ex
 fn:=λ_=>false
 calm:=X.calm
 pn:=X.pn++pins
 xe:=λ_ _=>False
noncomputable def sub (mp:W7)(σ:St):St:=mp.map λo=>match o with | some j=>(σ[j]?).join | none=>none
theorem X3x {mp:W7}{σ:St}{i:Nat}{v:V}(h:(sub mp σ)[i]?=some (some v)):∃ j,mp[i]?=some (some j)/\σ[j]?=some (some v):=by
 unfold sub at h
 rw[q0g] at h
 cases e:mp[i]? with
 | none=>rw[e] at h;cases h
 | some o =>
  rw[e] at h
  cases o with
  | none=>cases h
  | some j =>
   refine⟨j,U,?_⟩
   have h':(σ[j]?).join=some v:=Option.some.inj h
   cases q:σ[j]? with
   | none=>rw[q] at h';cases h'
   | some z=>rw[q] at h';exact congrArg some h'
section
variable {X:Cx}{pins:U1}{σ:St}{H:Hp}{s:U7}{scope:Scope}{Nc:W0}{mp:W7}{fp:U3}
theorem Z5h (I:Inv X pins σ H s)(S:LcOk X.N X.env.scope scope Nc mp):∀ x∈scope.names,x.2=.free->∃ c,X.env.cells.lookup x.1=some c:=λx hx e =>
 I.ok.has x.1 (S.free x hx e)
theorem Z6e (I:Inv X pins σ H s)(S:LcOk X.N X.env.scope scope Nc mp){x:Str}{c:W9}(h:(clo scope.names X.env.cells).lookup x=some c):X.env.cells.lookup x=some c :=
 Y8q scope.names [] (Z5h I S) (λ_ _ e=>by cases e) x c h
theorem W1u (I:Inv X pins σ H s)(S:LcOk X.N X.env.scope scope Nc mp)(hf:∀ b∈fp,FpOk X pins H b)(hl:∀ b∈fp,b<s.heap.objs.size):(cxLc X scope Nc fp pins s H).Ok where
 mod:=I.ok.mod
 kind:=S.kind
 glob:=I.ok.glob
 blt:=I.ok.blt
 above:=q0l _
 inj:=λx y c e1 e2=>I.ok.inj x y c (Z6e I S e1) (Z6e I S e2)
 has:=λx h=>by
  have hm:(x,NameKind.free)∈scope.names:=by
   rcases h with h | h
   ·exact Z7b S.nocell (.inl rfl) h
   ·exact Z7b S.nocell (.inr rfl) h
  exact Z9b scope.names [] x (.inl hm)
 cab:=λx c h _=>by cases h
 hd:=I.ok.hd
 frames:=I.ok.frames
 stk:=.inl rfl
 exf:=λb hb=>⟨q0t (hl b hb),λx c e=>(hf b hb).2.2.2.2.1 x c (Z6e I S e)⟩
 bs:=I.bs
 bsz:=q1b I.ok.bsz I.sz
 noex:=λb o e hb=>by
  rcases (hf b hb).2.2.2.1 with z | z
  ·exact I.ok.noex b o e z
  ·exact absurd (q0f (q0h e) (q1b I.ok.bsz z)) (q3m _)
 exfs:=λb hb z=>by
  rcases q0s.mp (I.stkSub b z) with e | e
  ·exact(hf b hb).2.1 e
  ·exact(hf b hb).2.2.1 e
 funs:=I.stack
 frf:=I.stkFree
theorem Y3h (I:Inv X pins σ H s)(S:LcOk X.N X.env.scope scope Nc mp)(hf:∀ b∈fp,FpOk X pins H b)(hl:∀ b∈fp,b<s.heap.objs.size){h₁:Heap}{m:U4}{tk:Nat}
  (hn:h₁.Ns s.heap.objs.size m) (k:∀ b o,s.heap.get? b=some o->h₁.get? b=some o):Inv (cxLc X scope Nc fp pins s H) [] (sub mp σ) H { s with heap:=h₁,toks:=tk }:=by
 refine⟨W1u I S hf hl,U,I.bare,Un.kept k,⟨m,hn,λi x v e1 e2 _=>?_⟩,λx c e=>?_,I.hok.fresh (q0l _),λx c e=>I.freeC x c (Z6e I S e),λp hp=>?_,I.hok.kept k,?_⟩
 ·obtain⟨j,hj,hv⟩:=X3x e2
  obtain⟨y,y1,y2,y3⟩:=S.map i j hj
  have e1':Nc[i]?=some x:=e1
  rw[e1'] at y1
  cases y1
  have hm:=q3f y3
  have vis:Vis X.env.scope x:=.inr (S.free _ hm rfl)
  obtain⟨mo,_,hloc⟩:=I.loc
  obtain⟨u,ru,lk⟩:=hloc j x v y2 hv vis
  refine⟨u,ru,.inr ⟨Z4q y3,?_⟩⟩
  obtain⟨c,hc⟩:=Z9b (cells:=X.env.cells) scope.names [] x (.inl hm)
  have hc':=Z6e I S hc
  rcases lk with ⟨z,_⟩ | ⟨_,c',z,q⟩
  ·rcases S.free _ hm rfl with z' | z'<;>(have z'':X.env.scope.names.lookup x=some .local:=z;rw[z''] at z';cases z')
  ·rw[hc'] at z
   cases z
   obtain⟨o,ho,hd⟩:=q
   exact⟨c,hc,o,k c o ho,hd⟩
 ·obtain⟨v,o,ho,hd⟩:=I.cell x c (Z6e I S e)
  exact⟨v,o,k c o ho,hd⟩
 ·have hp':p∈X.pn++pins:=by
   have:p∈(X.pn++pins)++[]:=hp
   simpa using this
  obtain⟨e,n,ne,nf,d⟩:=I.pin p hp'
  refine⟨k _ _ e,n,q0t (q0h e),λz=>?_,d⟩
  rcases q0s.mp (I.stkSub p.1 z) with q | q
  ·exact ne q
  ·exact nf q
 ·show (sub mp σ).length=Nc.length
  unfold sub
  rw[q0a]
  exact S.len
theorem X2z (I:Inv X pins σ H s)(hf:∀ b∈fp,FpOk X pins H b){σ':St}{H':Hp}{s':U7}{pl:U1}(J:Inv (cxLc X scope Nc fp pins s H) pl σ' H' s'):Inv X pins σ H' s' :=
 I.call' J.os J.base J.hok J.bare λb hb=>⟨(hf b hb).2.2.2.1,(hf b hb).2.1,(hf b hb).2.2.2.2.1,(hf b hb).2.2.2.2.2⟩
theorem Inv.turnedNew (I:Inv X pins σ H s){C:W9}{h':Heap}{t':Nat}(k:∀ b o,b≠C->s.heap.get? b=some o->h'.get? b=some o)(hn:H C=none)(h1:X.s₀.heap.objs.size<=C)
  (hL:C≠X.env.locals) (hc:∀ x c,X.env.cells.lookup x=some c->c≠C) (hp:∀ p∈X.pn++pins,p.1≠C):Inv X pins σ H { s with heap:=h',toks:=t' } :=
 I.turned k hn hL (.inr h1) hc hp
end
section
variable {M:Model}{A:W6}{E:U2}
abbrev Calm:Value->Shared->Prop:=λ_ _=>False
theorem thenC {α β:Type}{m:Sem α}{f:α->Sem β}{P:α->Shared->Prop}{Q:β->Shared->Prop}{s:U7}(h:wpAny M A m P Calm s)(k:∀ x s',P x s'->wpAny M A (f x) Q E s'):wpAny M A (m >>= f) Q E s :=
 q0c (q1y h k λ_ _ z=>z.elim)
end
theorem Z8y {prog:U8}{w:W1}{A:W6}{R:Result->Shared->Prop}{s:U7}{e t i:Expr}{sc:Scope}{pos:Pos}{it acc:W2}{env:Env}(J:Nat->Shared->Prop)
  (turn:∀ n s,J n s->wpAny (model prog w) A (pyNext it) (λr s1=>(r=none->R (.ok .next) s1)/\∀ v,r=some v →
   wpAny (model prog w) A (letOwnedTupleGo t it v) (λ_ s2=>wpAny (model prog w) A (assign t env v) (λ_ s3=>wpAny (model prog w) A (eval e env) (λx s4 =>
    wpAny (model prog w) A (call (.builtin "list.append") [acc,x]) (λ_ s5=>∃ m,m<n/\J m s5) Calm s4) Calm s3) Calm s2) Calm s1) Calm s)
  (n:Nat) (h:J n s):codeAny (model prog w) A (.compLoop (.ListComp e [⟨t,i,[],0⟩] sc pos) 0 it acc env) R s:=by
 have eq:=compTurn_list1 e t i sc pos it acc env
 refine codeAny_loop rfl J (λn s j=>wpAny_noted (m:=compTurn (.ListComp e [⟨t,i,[],0⟩] sc pos) 0 it acc env) ?_) n h
 rw[eq]
 refine q0c (q7d (thenC (turn n s j) λr s1 q=>?_))
 match r,q with
 | none,q=>exact q0m (q.1 rfl)
 | some v,q=>exact thenC (q.2 v rfl) λ_ s2 q2=>thenC q2 λ_ s3 q3=>q0c (thenC q3 λx s4 q4=>thenC q4 λ_ s5 q5=>q0m (q0m ⟨rfl,q5⟩))
def LcW (J:It)(g:TG)(te:TE)(σ:St)(H:Hp)(acc:W9)(Q:VK):Prop:=∃ W:Nat->Nat->List V->St->Hp->Prop,(∃ m,W 0 m [] σ (upd H acc (.lst []))) ∧
 ∀ i m ys σ2 H2,W i m ys σ2 H2->(J.stop i H2/\Q (.ref acc) H2)∨(J.go i H2/\∀ x H3,J.yld i H2 x H3->g x σ2 H3 λσ4 H4=>te σ4 H4 λy H5 =>
  H5 acc=some (.lst ys)/\ys.length<sizeLine/\∃ m',m'<m/\W (i+1) m' (ys++[y]) σ4 (upd H5 acc (.lst (ys++[y]))))
def tLc (mp:W7)(wi:TI)(g:TG)(te:TE):TE:=λσ H Q=>wi σ H λJ H1=>∀ acc,H1 acc=none->LcW J g te (sub mp σ) H1 acc Q
section
variable {X:Cx}{elt tg iter:Expr}{scope:Scope}{pos:Pos}{wi:TI}{g:TG}{te:TE}{Nc:W0}{mp:W7}
noncomputable abbrev Z0s (s:U7):Shared:={ s with heap:=s.heap.push { cls:=.type "list",dict:=none,data:=.seq ([]:U5).toArray } }
theorem X2y (hc:X.calm=true)(S:LcOk X.N X.env.scope scope Nc mp)(hg:∀ ex pins s H,PG (cxLc X scope Nc ex pins s H) tg g)(he:∀ ex pins s H,PE (cxLc X scope Nc ex pins s H) elt te)
  {pins:U1}{σ:St}{H2:Hp}{s2:U7}{E:U2}{it:W9}{fp:U3}{tn:Nat->Heap->Prop}{J:It}{Q:VK}{RR:Value->Addr->Result->Shared->Prop}
  (I2:Inv X pins σ H2 s2) (T:Turn X.prog X.w X.K tg J fp it tn) (st2:tn 0 s2.heap) (f2:∀ b∈fp,FpOk X pins H2 b)
  (q:∀ acc,H2 acc=none->LcW J g te (sub mp σ) H2 acc Q)
  (fin:∀ acc C H' s' m',Q (.ref acc) H'->Inv X pins σ H' s'->s'.heap.Ns C m'->H' C=none->X.s₀.heap.objs.size<=C->C≠X.env.locals->(∀ x c,X.env.cells.lookup x=some c->c≠C)->(∀ p∈X.pn++pins,p.1≠C)->RR (.ref acc) C (.ok .next) s') :
  wpAny (model X.prog X.w) X.A (newList []) (λacc s₃=>wpAny (model X.prog X.w) X.A (newFunctionEnv scope X.env.globals (clo scope.names X.env.cells) [] X.env.qual none .none (some X.env)) (λcenv s₄ =>
   codeAny (model X.prog X.w) X.A (.compStart (.ListComp elt [⟨tg,iter,[],0⟩] scope pos) 0 (.ref it) acc { cenv with scope:=relabel scope X.env }) (RR acc cenv.locals) s₄) E s₃) E s2:=by
 refine q2j (wpAny_newFunctionEnv S.nocell (by intro y hy;simp at hy) (λh₁ hns₁ hsb₁=>?_) S.kind)
 dsimp only at hns₁ hsb₁ ⊢
 have I3:=I2.lnew (its:=[]) (ys:=[]) (t':=s2.toks) .nil (q1o _)
 have hacc:H2 s2.heap.objs.size=none:=I2.fresh
 obtain⟨W,⟨m0,w0⟩,turn⟩:=q s2.heap.objs.size hacc
 have hpush:(s2.heap.push { cls:=.type "list",dict:=none,data:=.seq ([]:U5).toArray }).objs.size=s2.heap.objs.size+1:=q2w ..
 have hlt:∀ b∈fp,b<s2.heap.objs.size:=λb hb=>by
  obtain⟨o,e,_⟩:=T.obj _ _ st2 b hb
  exact q0h e
 have f3:∀ b∈fp,FpOk X pins (upd H2 s2.heap.objs.size (.lst [])) b:=λb hb=>⟨by rw[Z0u (q0t (hlt b hb))];exact(f2 b hb).1,(f2 b hb).2⟩
 have I3':Inv X pins σ (upd H2 s2.heap.objs.size (.lst [])) (Z0s s2):=I3
 have hsz:(Z0s s2).heap.objs.size=s2.heap.objs.size+1:=hpush
 have hlt3:∀ b∈fp,b<(Z0s s2).heap.objs.size:=λb hb=>by rw[hsz];exact q3p (hlt b hb)
 have k3:∀ b o,(Z0s s2).heap.get? b=some o->h₁.get? b=some o:=λb o e=>hsb₁.extBut b o (q0t (q0h e)) (q0e _ e)
 have Ic:=Y3h (tk:=(Z0s s2).toks) I3' S f3 hlt3 hns₁ k3
 have st3:tn 0 h₁:=T.keep _ _ _ st2 λb hb o e=>k3 b o (q0e _ e)
 have cC:X.s₀.heap.objs.size<=(Z0s s2).heap.objs.size:=I3'.sz
 have cL:(Z0s s2).heap.objs.size≠X.env.locals:=q3o I3'.lt
 have cc:∀ x c,X.env.cells.lookup x=some c->c≠(Z0s s2).heap.objs.size:=λx c e=>by
  obtain⟨v,o,ho,_⟩:=I3'.cell x c e
  exact q0t (q0h ho)
 have cp:∀ p∈X.pn++pins,p.1≠(Z0s s2).heap.objs.size:=λp hp=>q0t (q0h (I3'.pin p hp).1)
 have stat:∀ {H':Hp},(∀ b∈fp,H' b=none)->∀ b∈fp,FpOk (cxLc X scope Nc fp pins (Z0s s2) (upd H2 s2.heap.objs.size (.lst []))) [] H' b:=λhn b hb =>
  ⟨hn b hb,q0t (hlt3 b hb),λz=>by
   rcases q0s.mp (I3'.stkSub b z) with e | e
   ·exact(f3 b hb).2.1 e
   ·exact(f3 b hb).2.2.1 e,.inl hb,λx c e=>(f3 b hb).2.2.2.2.1 x c (Z6e I3' S e),λp hp=>(f3 b hb).2.2.2.2.2 p (by
    have:p∈(X.pn++pins)++[]:=hp
    simpa using this)⟩
 have loop:∀ s4:Shared,s4={ (Z0s s2) with heap:=h₁,toks:=(Z0s s2).toks } →
   codeAny (model X.prog X.w) X.A (.compLoop (.ListComp elt [⟨tg,iter,[],0⟩] scope pos) 0 (.ref it) (.ref s2.heap.objs.size) (cxLc X scope Nc fp pins (Z0s s2) (upd H2 s2.heap.objs.size (.lst []))).env)
    (RR (.ref s2.heap.objs.size) (Z0s s2).heap.objs.size) s4:=by
  rintro s4 rfl
  refine Z8y (λn s'=>∃ i ys σ' H',Inv (cxLc X scope Nc fp pins (Z0s s2) (upd H2 s2.heap.objs.size (.lst []))) [] σ' H' s'/\tn i s'.heap/\(∀ b∈fp,H' b=none)/\W i n ys σ' H') ?_ m0
   ⟨0,[],sub mp σ,_,Ic,st3,λb hb=>(f3 b hb).1,w0⟩
  rintro n s5 ⟨i,ys,σ5,H5,I5,st5,fr5,w5⟩
  rcases turn i n ys σ5 H5 w5 with ⟨stop,qn⟩ | ⟨go,step⟩
  ·refine q1y (T.done (cxLc X scope Nc fp pins (Z0s s2) (upd H2 s2.heap.objs.size (.lst []))) rfl rfl rfl hc i [] s5 σ5 H5 (λ_ _=>False) I5 (stat fr5) st5 stop) (λr s6 ⟨hr,I6⟩=>?_) λ_ _ f=>f.elim
   subst hr
   obtain⟨m6,hn6,_⟩:=I6.loc
   refine⟨λ_=>?_,λ_ z=>nomatch z⟩
   exact fin _ _ H5 s6 m6 qn (X2z I3' f3 I6) hn6 I6.free cC cL cc cp
  ·refine q1y (T.item (cxLc X scope Nc fp pins (Z0s s2) (upd H2 s2.heap.objs.size (.lst []))) rfl rfl rfl hc i [] s5 σ5 H5 (λ_ _=>False) I5 (stat fr5) st5 go) (λr s6 ⟨u,hr,h6⟩=>?_) λ_ _ f=>f.elim
   subst hr
   refine⟨(λz=>by cases z),?_⟩
   rintro _ ⟨⟩
   refine q1y h6 (λ_ s7 ⟨x,H7,I7,r7,y7,st7,fr7⟩=>?_) λ_ _ f=>f.elim
   have I7':=I7.pinned (stat fr7) (T.obj _ _ st7)
   refine q1y (hg _ _ _ _ _ s7 σ5 H7 x u _ I7' r7 (step x H7 y7)) (λ_ s8 ⟨σ8,H8,I8,q8⟩=>?_) λ_ _ f=>f.elim
   refine q1y (he _ _ _ _ _ s8 σ8 H8 _ I8 q8) (λv s9 ⟨y,H9,I9,r9,a9,l9,m',hm',w9⟩=>?_) λ_ _ f=>f.elim
   refine q1y (Z4c (X:=cxLc X scope Nc fp pins (Z0s s2) (upd H2 s2.heap.objs.size (.lst []))) _ s9 σ8 H9 (.ref s2.heap.objs.size) [y] (.ref s2.heap.objs.size) [v] (λz Hz=>z=.non/\Hz=upd H9 s2.heap.objs.size (.lst (ys++[y]))) I9 rfl (.cons r9 .nil) ⟨_,ys,y,U,U,a9,l9,U,U⟩) (λv10 s10 ⟨z,H10,I10,_,_,e10⟩=>?_) λ_ _ f=>f.elim
   subst e10
   refine⟨m',hm',i+1,ys++[y],σ8,_,I10.unpinned,T.keep _ _ _ st7 λb hb o e=>(I10.pin (b,o) (q1h _ (q1h _ (Z2t hb e)))).1,λb hb=>?_,w9⟩
   obtain⟨o,e,d⟩:=T.obj _ _ st7 b hb
   exact(I10.pin (b,o) (q1h _ (q1h _ (Z2t hb e)))).2.1
 exact q7p (loop _ rfl) (T.self _ 0 _ _ _ st3 (loop _ rfl))
theorem Z3e (hc:X.calm=true)(S:LcOk X.N X.env.scope scope Nc mp)(hi:PI X tg iter wi)(hg:∀ ex pins s H,PG (cxLc X scope Nc ex pins s H) tg g)(he:∀ ex pins s H,PE (cxLc X scope Nc ex pins s H) elt te)
  (hf:∀ x,foldedSetIterable iter X.env x=pure x:=by intro _;rfl):PE X (.ListComp elt [⟨tg,iter,[],0⟩] scope pos) (tLc mp wi g te):=by
 intro pins s σ H Q I h
 rw[eval_ListComp]
 refine q4b (use:=none) rfl hf (Z4l (Z5h I S)) S.kind S.names (thn (hi pins s σ H _ I h) λv s1 h1=>thn h1 λitv s2 h2=>?_)
 obtain⟨it,fp,tn,J,H2,e,I2,T,st2,f2,q⟩:=h2
 subst e
 refine X2y (RR:=λacc C=>compPost (model X.prog X.w) X.A X.xe none (EP X pins σ Q) acc C) hc S hg he I2 T st2 f2 q ?_
 intro acc C H' s' m' qq I' hn hC c1 c2 c3 c4
 refine⟨m',hn,λh' hs=>⟨.ref acc,H',?_,U,qq⟩⟩
 exact I'.turnedNew (t':=s'.toks) (λb o hb e=>hs.extBut b o hb e) hC c1 c2 c3 c4
theorem Z6j {i:Nat}{x:Str}{pos' spos:Pos}(hc:X.calm=true)(hN:X.N.Nodup)(hi':X.N[i]?=some x)(hx:X.env.scope.names.lookup x=some .local)(S:LcOk X.N X.env.scope scope Nc mp)(hi:PI X tg iter wi)
  (hg:∀ ex pins s H,PG (cxLc X scope Nc ex pins s H) tg g) (he:∀ ex pins s H,PE (cxLc X scope Nc ex pins s H) elt te)
  (hsw:swapsWith (.ListComp elt [⟨tg,iter,[],0⟩] scope pos) (some (.Name x pos')) spos.line X.env=pure true)
  (hf:∀ x,foldedSetIterable iter X.env x=pure x:=by intro _;rfl):PS X (.Assign [.Name x pos'] (.ListComp elt [⟨tg,iter,[],0⟩] scope pos) spos) (tAsg (tLc mp wi g te) (gName i)):=by
 intro pins s σ H D I h
 rw[q7v _ _ _ _ hsw]
 refine q0c (q7d (q0c ?_))
 show wpAny _ X.A (do let _ ← comprehension (.ListComp elt [⟨tg,iter,[],0⟩] scope pos) scope X.env _ (newList []) false (eval iter X.env) (some (assign (.Name x pos') X.env))) _ _ s
 refine q0c (q1y (q4b (use:=some (assign (.Name x pos') X.env)) (Q:=λ_ s'=>SP X pins D .next s') rfl hf (Z4l (Z5h I S)) S.kind S.names
  (thn (hi pins s σ H _ I h) λv s1 h1=>thn h1 λitv s2 h2=>?_)) (λ_ s' hq=>q0m (q0m hq)) λ_ _ e=>e)
 obtain⟨it,fp,tn,J,H2,e,I2,T,st2,f2,q⟩:=h2
 subst e
 refine X2y (Q:=λx H1=>gName i x σ H1 D.nx) (RR:=λacc C=>compPost (model X.prog X.w) X.A X.xe (some (assign (.Name x pos') X.env)) (λ_ s'=>SP X pins D .next s') acc C) hc S hg he I2 T st2 f2 q ?_
 intro acc C H' s' m' qq I' hn hC c1 c2 c3 c4
 show wpAny _ X.A (assign (.Name x pos') X.env (.ref acc)) _ _ _
 refine q6w (Z6u (v:=.ref acc) I' hN hi' (.inl hx) rfl (λs5 I5 ⟨a,hs5,ha⟩=>?_) (.inr hx))
 have hCa:C≠a:=by
  rcases ha with z | z
  ·rw[z];exact c2
  ·exact Ne.symm (c3 x a z)
 refine⟨m',hn.sameBut hs5 hCa,λh' hs=>⟨σ.set i (some (.ref acc)),H',?_,qq⟩⟩
 exact I5.turnedNew (t':=s5.toks) (λb o hb e=>hs.extBut b o hb e) hC c1 c2 c3 c4
end
theorem X1d {J:It}{n:Nat}{val:Nat->V}{te:TE}{fr:St}{H1:Hp}{acc:W9}{Q:VK}(Pv:Nat->List V->Hp->Prop)(hn:n<=sizeLine)(h0:Pv 0 [] (upd H1 acc (.lst [])))
  (hgo:∀ i ys H,i<n->Pv i ys H->J.go i H/\∀ x H',J.yld i H x H'->H'=H/\x=val i) (hst:∀ ys H,Pv n ys H->J.stop n H)
  (hs:∀ i ys H (N:V->Hp->Prop),i<n->ys.length=i->Pv i ys H->(∀ y H5,H5 acc=some (.lst ys)->Pv (i+1) (ys++[y]) (upd H5 acc (.lst (ys++[y])))->N y H5)->te (some (val i)::fr) H N)
  (hd:∀ ys H,ys.length=n->Pv n ys H->Q (.ref acc) H) :
  LcW (J) (gName 0) te (none::fr) H1 acc Q:=by
 refine⟨λi m ys σ2 H2=>m=n-i/\i<=n/\ys.length=i/\(∃ v,σ2=v::fr)/\Pv i ys H2,⟨n,by simp,q1o _,U,⟨_,U⟩,h0⟩,?_⟩
 rintro i m ys σ2 H2 ⟨rfl,hi,hl,⟨v,rfl⟩,p⟩
 by_cases hlt:i<n
 ·obtain⟨go,yl⟩:=hgo i ys H2 hlt p
  refine .inr ⟨go,λx H3 y3=>?_⟩
  obtain⟨e1,e2⟩:=yl x H3 y3
  subst e1 e2
  show te ((v::fr).set 0 (some (val i))) H3 _
  rw[List.set_cons_zero]
  refine hs i ys H3 _ hlt hl p λy H5 a5 p5=>⟨a5,by omega,n-(i+1),by omega,U,hlt,by rw[q0j,hl];rfl,⟨_,U⟩,p5⟩
 ·have e:i=n:=by omega
  subst e
  exact .inl ⟨hst ys H2 p,hd ys H2 hl p⟩
theorem Z4i {lo:Int}{n:Nat}{te:TE}{fr:St}{H1:Hp}{acc:W9}{Q:VK}(Pv:Nat->List V->Hp->Prop)(hn:n<=sizeLine)(h0:Pv 0 [] (upd H1 acc (.lst [])))
  (hs:∀ i ys H (N:V->Hp->Prop),i<n->ys.length=i->Pv i ys H->(∀ y H5,H5 acc=some (.lst ys)->Pv (i+1) (ys++[y]) (upd H5 acc (.lst (ys++[y])))->N y H5)->te (some (.int (lo+i))::fr) H N)
  (hd:∀ ys H,ys.length=n->Pv n ys H->Q (.ref acc) H) :
  LcW (Itr lo n) (gName 0) te (none::fr) H1 acc Q :=
 X1d (J:=Itr lo n) (val:=λi=>.int (lo+i)) Pv hn h0 (λi ys H hi p=>⟨hi,λx H' y=>y⟩) (λys H p=>q0l _) hs hd
theorem Z7g {K:U0}{a:W9}{xs:List V}{te:TE}{fr:St}{H1:Hp}{acc:W9}{Q:VK}(Pv:Nat->List V->Hp->Prop)(hn:xs.length<=sizeLine)(h0:Pv 0 [] (upd H1 acc (.lst [])))
  (hl:∀ i ys H,Pv i ys H->SqL K H a xs)
  (hs:∀ i x ys H (N:V->Hp->Prop),xs[i]?=some x->ys.length=i->Pv i ys H->(∀ y H5,H5 acc=some (.lst ys)->Pv (i+1) (ys++[y]) (upd H5 acc (.lst (ys++[y])))->N y H5)->te (some x::fr) H N)
  (hd:∀ ys H,ys.length=xs.length->Pv xs.length ys H->Q (.ref acc) H) :
  LcW (Itl K a) (gName 0) te (none::fr) H1 acc Q :=
 X1d (J:=Itl K a) (n:=xs.length) (val:=λi=>xs.getD i .non) Pv hn h0
  (λi ys H hi p=>⟨⟨xs,xs[i],hl i ys H p,by simp[hi]⟩,λx H' y=>⟨y.1,by
   have:=y.2 xs (hl i ys H p)
   rw[q0b,this];rfl⟩⟩)
  (λys H p=>⟨xs,hl _ ys H p,q0l _⟩)
  (λi ys H N hi hl' p k=>by
   have e:xs[i]?=some (xs.getD i .non):=by rw[q0b,q0d hi];rfl
   exact hs i _ ys H N e hl' p k) hd
end L2
namespace L2
structure Cal (P:U8) (w:W1) (K:U0) (mg:U4) (base:Heap) (k:Nat) (x:Str) (ps:W0) (sp:Sp):Prop where
 ex:∃ f fd,FnOk P w K mg base CX0 k f fd ps sp/\Binds K fd ps []/\PySem.W.keepIn K (.ref f)=true/\mg x=some (.ref f)
theorem Cal.mono {P:U8}{w:W1}{K:U0}{mg:U4}{base:Heap}{j k:Nat}{x:Str}{ps:W0}{sp:Sp}(c:Cal P w K mg base j x ps sp)(h:j<=k):Cal P w K mg base k x ps sp :=
 let ⟨f,fd,F,b,kp,m⟩:=c.ex
 ⟨f,fd,F.mono h,b,kp,m⟩
section
variable {X:Cx}{k:Nat}{x:Str}{ps:W0}{sp:Sp}{p pos:Pos}{e:Expr}{es:List Expr}{t:TA}
theorem Z0m (c:Cal X.prog X.w X.K X.mg X.base k x ps sp)(hr:Room k X.A)(hg:Gl X x)(ha:PA X (e::es) t)(hdb:(x == ("__debug__":Str))=false:=by decide)
  (he:starEach (e::es) X.env=(false,eval e X.env)::starEach es X.env:=by rfl) (hpl:(backTo pos (starEach es X.env)).any (·.1)=false:=by rfl):PE X (.Call (.Name x p) (e::es) [] pos) (tCall sp [] E0 t):=by
 obtain⟨f,fd,F,b,kp,m⟩:=c.ex
 exact Y6p F hr hg m kp b .nil pass0 ha hdb he hpl
end
structure FunAt (K:U0) (x:Str) (st:Stmt) (dV:W2):Prop where
 ex:∃ (f:W9) (oc:W2) (od:W5) (kV doc pm:W2) (an:W5) (cdv ct:W2) (osl:W4),
  K.lookup f=some ⟨oc,od,.func (PySem.W.fnOf x x (Z1f st) (Z1c st) (Z0h st) dV kV doc pm an cdv ct),osl⟩/\PySem.W.codeIn K cdv x=true/\PySem.W.keepIn K (.ref f)=true/\PySem.W.nsIn K mainGlobals x=some (some (.ref f))
theorem fat {K:U0}{x:Str}{st:Stmt}{f:W9}{oc:W2}{od an:W5}{osl:W4}{dV kV doc pm cdv ct:W2}(a:PySem.W.nsIn K mainGlobals x=some (some (.ref f)))
  (l:K.lookup f=some ⟨oc,od,.func (PySem.W.fnOf x x (Z1f st) (Z1c st) (Z0h st) dV kV doc pm an cdv ct),osl⟩) (c:PySem.W.codeIn K cdv x=true) (k:PySem.W.keepIn K (.ref f)=true):FunAt K x st dV :=
 ⟨f,oc,od,kV,doc,pm,an,cdv,ct,osl,l,c,k,a⟩
def Z2i (K:U0)(x:Str)(st:Stmt)(dV:W2)(ps:W0):Prop:=∀ (kV doc pm:W2) (an:W5) (cdv ct:W2),Binds K (PySem.W.fnOf x x (Z1f st) (Z1c st) (Z0h st) dV kV doc pm an cdv ct) ps []
theorem binds0 {K:U0}{x:Str}{st:Stmt}{ps:W0}
  (h:∀ (kV doc pm:W2) (an:W5) (cdv ct:W2) (us:U5),us.length=ps.length->bindArgs (PySem.W.fnOf x x (Z1f st) (Z1c st) (Z0h st) .none kV doc pm an cdv ct) ⟨us,[]⟩=pure (ps.zip us)):Z2i K x st .none ps :=
 λkV doc pm an cdv ct=>.all (h kV doc pm an cdv ct)
theorem bnd0 {K:U0}{nm:Str}{st:Stmt}(h:∀ (kV doc pm:W2) (an:W5) (cdv ct:W2),bindArgs (PySem.W.fnOf nm nm (Z1f st) (Z1c st) (Z0h st) .none kV doc pm an cdv ct) ⟨[],[]⟩=pure []):Z2i K nm st .none []:=binds0 λkV doc pm an cdv ct us hl=>by
 cases us with
 | nil=>exact h kV doc pm an cdv ct
 | cons=>cases hl
theorem bnd1 {K:U0}{nm:Str}{st:Stmt}{x0:Str}(h:∀ (kV doc pm:W2) (an:W5) (cdv ct:W2) (a0:W2),bindArgs (PySem.W.fnOf nm nm (Z1f st) (Z1c st) (Z0h st) .none kV doc pm an cdv ct) ⟨[a0],[]⟩=pure [(x0,a0)]):Z2i K nm st .none [x0]:=binds0 λkV doc pm an cdv ct us hl=>by
 cases us with
 | nil=>cases hl
 | cons b0 t0 =>
  cases t0 with
  | nil=>exact h kV doc pm an cdv ct b0
  | cons=>cases hl
theorem bnd2 {K:U0}{nm:Str}{st:Stmt}{x0 x1:Str}(h:∀ (kV doc pm:W2) (an:W5) (cdv ct:W2) (a0 a1:W2),bindArgs (PySem.W.fnOf nm nm (Z1f st) (Z1c st) (Z0h st) .none kV doc pm an cdv ct) ⟨[a0,a1],[]⟩=pure [(x0,a0),(x1,a1)]):Z2i K nm st .none [x0,x1]:=binds0 λkV doc pm an cdv ct us hl=>by
 cases us with
 | nil=>cases hl
 | cons b0 t0 =>
  cases t0 with
  | nil=>cases hl
  | cons b1 t1 =>
   cases t1 with
   | nil=>exact h kV doc pm an cdv ct b0 b1
   | cons=>cases hl
theorem bnd3 {K:U0}{nm:Str}{st:Stmt}{x0 x1 x2:Str}(h:∀ (kV doc pm:W2) (an:W5) (cdv ct:W2) (a0 a1 a2:W2),bindArgs (PySem.W.fnOf nm nm (Z1f st) (Z1c st) (Z0h st) .none kV doc pm an cdv ct) ⟨[a0,a1,a2],[]⟩=pure [(x0,a0),(x1,a1),(x2,a2)]):Z2i K nm st .none [x0,x1,x2]:=binds0 λkV doc pm an cdv ct us hl=>by
 cases us with
 | nil=>cases hl
 | cons b0 t0 =>
  cases t0 with
  | nil=>cases hl
  | cons b1 t1 =>
   cases t1 with
   | nil=>cases hl
   | cons b2 t2 =>
    cases t2 with
    | nil=>exact h kV doc pm an cdv ct b0 b1 b2
    | cons=>cases hl
theorem bnd4 {K:U0}{nm:Str}{st:Stmt}{x0 x1 x2 x3:Str}(h:∀ (kV doc pm:W2) (an:W5) (cdv ct:W2) (a0 a1 a2 a3:W2),bindArgs (PySem.W.fnOf nm nm (Z1f st) (Z1c st) (Z0h st) .none kV doc pm an cdv ct) ⟨[a0,a1,a2,a3],[]⟩=pure [(x0,a0),(x1,a1),(x2,a2),(x3,a3)]):Z2i K nm st .none [x0,x1,x2,x3]:=binds0 λkV doc pm an cdv ct us hl=>by
 cases us with
 | nil=>cases hl
 | cons b0 t0 =>
  cases t0 with
  | nil=>cases hl
  | cons b1 t1 =>
   cases t1 with
   | nil=>cases hl
   | cons b2 t2 =>
    cases t2 with
    | nil=>cases hl
    | cons b3 t3 =>
     cases t3 with
     | nil=>exact h kV doc pm an cdv ct b0 b1 b2 b3
     | cons=>cases hl
theorem bnd5 {K:U0}{nm:Str}{st:Stmt}{x0 x1 x2 x3 x4:Str}(h:∀ (kV doc pm:W2) (an:W5) (cdv ct:W2) (a0 a1 a2 a3 a4:W2),bindArgs (PySem.W.fnOf nm nm (Z1f st) (Z1c st) (Z0h st) .none kV doc pm an cdv ct) ⟨[a0,a1,a2,a3,a4],[]⟩=pure [(x0,a0),(x1,a1),(x2,a2),(x3,a3),(x4,a4)]):Z2i K nm st .none [x0,x1,x2,x3,x4]:=binds0 λkV doc pm an cdv ct us hl=>by
 cases us with
 | nil=>cases hl
 | cons b0 t0 =>
  cases t0 with
  | nil=>cases hl
  | cons b1 t1 =>
   cases t1 with
   | nil=>cases hl
   | cons b2 t2 =>
    cases t2 with
    | nil=>cases hl
    | cons b3 t3 =>
     cases t3 with
     | nil=>cases hl
     | cons b4 t4 =>
      cases t4 with
      | nil=>exact h kV doc pm an cdv ct b0 b1 b2 b3 b4
      | cons=>cases hl
section
variable {P:U8}{w:W1}{K:U0}{mg:U4}{base:Heap}
theorem FunAt.cal {x:Str}{st:Stmt}{dV:W2}{N ps:W0}{k:Nat}{sp:Sp}(F:FunAt K x st dV){h:Heap}(X:K.In h)(G:Ng h mg)(S:FnScope N ps (Z0h st))(bi:Z2i K x st dV ps)(len:∀ vs H Q E,sp vs H Q E->vs.length=ps.length)
  (hbody:∀ (f:W9) (cdv:W2) (A:W6) (outer:List Env) (s:U7) (H:Hp) (vs:List V) (Q:VK) (E:XK),Room k (A.deeper (envOfC x (Z0h st) s.heap.objs.size f cdv))->sp vs H Q E →
   ∃ t,PSs (cxOf CX0 P w K mg base N x (Z0h st) f cdv A outer s H E).nox (Z1c st) t/\t { nx:=λ_ H'=>Q .non H',rt:=Q } (start N vs) H):Cal P w K mg base (k+1) x ps sp:=by
 obtain⟨f,oc,od,kV,doc,pm,an,cdv,ct,osl,lk,hcd,kp,ns⟩:=F.ex
 refine⟨f,_,X6l lk hcd S len λA outer s H vs Q E hr hsp=>?_,bi kV doc pm an cdv ct,kp,q2p X G ns⟩
 obtain⟨t,h,q⟩:=hbody f cdv A outer s H vs Q E hr hsp
 exact⟨t,h.nox,q⟩
end
theorem cxK {P:U8}{w:W1}{K:U0}{mg:U4}{base:Heap}{N:W0}{x:Str}{sc:Scope}{f:W9}{cdv:W2}{A:W6}{outer:List Env}{s:U7}{H:Hp}{E:XK}:(cxOf CX0 P w K mg base N x sc f cdv A outer s H E).nox.K=K:=rfl
theorem Z0f {H:Hp}{p:W9}(h:H p=none)(o:HO):Same H (upd H p o):=λb u q=>by rw[Z0u (Z1s q h)];exact q
theorem Y3j (K:U0):PySem.W.kitOne K (.type "int") (.type "int")=some true:=by unfold PySem.W.kitOne;rw[if_pos (by decide)]
theorem Y3k (K:U0):PySem.W.kitOne K (.type "int") (.type "bool")=some false:=by with_unfolding_all rfl
theorem eqI {a b:Int}{A B:Prop}(h1:a=b->A)(h2:a≠b->B):if decide (V.int a=V.int b)=true then A else B:=by
 by_cases h:a=b
 ·subst h
  rw[q0q rfl]
  exact iteT (h1 rfl)
 ·rw[q0k λe=>h (V.int.inj e)]
  exact iteF (h2 h)
theorem neI {a b:Int}{A B:Prop}(h1:a≠b->A)(h2:a=b->B):if (!decide (V.int a=V.int b))=true then A else B:=by
 by_cases h:a=b
 ·subst h
  rw[q0q rfl]
  exact iteF (h2 rfl)
 ·rw[q0k λe=>h (V.int.inj e)]
  exact iteT (h1 h)
theorem decI {p:Prop}[Decidable p]{A B:Prop}(h1:p->A)(h2:¬ p->B):if decide p=true then A else B:=by
 by_cases h:p
 ·rw[q0q h];exact iteT (h1 h)
 ·rw[q0k h];exact iteF (h2 h)
theorem blI {c:Bool}{A B:Prop}(h1:c=true->A)(h2:c=false->B):if c=true then A else B:=by
 cases c
 ·exact iteF (h2 rfl)
 ·exact iteT (h1 rfl)
theorem nblI {c:Bool}{A B:Prop}(h1:c=false->A)(h2:c=true->B):if (!c)=true then A else B:=by
 cases c
 ·exact iteT (h1 rfl)
 ·exact iteF (h2 rfl)
def tCut (t u:TS):TS:=λD σ H=>∃ Good:St->Hp->Prop,t { D with nx:=Good } σ H/\∀ σ' H',Good σ' H'->u D σ' H'
theorem Z1g {X:Cx}{st:Stmt}{rest:W8}{t u:TS}(h1:PS X st t)(h2:PSs X rest u):PSs X (st::rest) (tCut t u):=by
 intro pins s σ H D I h
 obtain⟨Good,ht,hu⟩:=h
 refine q7n (thn (h1 pins s σ H { D with nx:=Good } I ht) λf s1 q=>?_)
 cases f with
 | next =>
  obtain⟨σ',H',I',q⟩:=q
  exact h2 pins s1 σ' H' D I' (hu σ' H' q)
 | ret v=>exact q
 | brk=>exact q
 | cont=>exact q
theorem Z0v {H H':Hp}{p:W9}{o:HO}(h:Same H H')(hn:H p=none):Same H (upd H' p o):=λb u q=>by rw[Z0u (Z1s q hn)];exact h b u q
end L2
namespace Zo
open PySem.Sem (wp)
def Stop (h:Heap)(e:W9):Prop:=∃ o,h.get? e=some o/\o.cls=.type "StopIteration"
def Rest (S:U3)(h h':Heap):Prop:=∀ c o,c ∉ S->h.get? c=some o->h'.get? c=some o
theorem Rest.trans {S:U3}{h h1 h2:Heap}(a:Rest S h h1)(b:Rest S h1 h2):Rest S h h2:=λc o n e=>b c o n (a c o n e)
theorem Rest.sub {S T:U3}{h h1:Heap}(a:Rest S h h1)(q:∀ c,c∈S->c∈T):Rest T h h1:=λc o n e=>a c o (λz=>n (q c z)) e
theorem Rest.ext {S:U3}{h h1:Heap}{b:W9}(e:Heap.ExtBut b h h1)(q:b∈S):Rest S h h1:=λc o n x=>e c o (λz=>n (z ▸ q)) x
theorem Rest.but {S:U3}{h h1:Heap}{b:W9}(e:Heap.SameBut b h h1)(q:b∈S):Rest S h h1:=Rest.ext e.extBut q
theorem Rest.new {S:U3}{h:Heap}(o:Obj):Rest S h (h.push o):=λc u n x=>q0e _ x
def Stays (S:U3)(G:Heap->Prop):Prop:=∀ h h',Rest S h h'->G h->G h'
def Told (it:W9)(hp:Heap)(g:Array GenState)(d:Drawn)(tk:Nat)(os:OsState)(G:Heap->Prop)(ox:Option Value)(Q E:U2):Prop :=
 (∀ x h',ox=some x->G h'->Heap.SameBut it hp h'->Q x ⟨h',g,d,tk,os⟩) ∧
 (∀ e h',ox=none->Heap.ExtBut it hp h'->Stop h' e->E (.ref e) ⟨h',g,d,tk,os⟩)
def Pull (prog:U8)(w:W1)(A:W6)(it:W9)(G G':Heap->Prop)(ox:Option Value):Prop :=
 ∀ {Q E:U2}{hp:Heap}{g:Array GenState}{d:Drawn}{tk:Nat}{os:OsState},G hp->Told it hp g d tk os G' ox Q E →
  wpAny (model prog w) A (Builtin.SmallTypes.nextOf (.ref it)) Q E ⟨hp,g,d,tk,os⟩
section
variable {prog:U8}{w:W1}{A:W6}{E:U2}{hp:Heap}{g:Array GenState}{d:Drawn}{tk:Nat}{os:OsState}
theorem Pull.behind {it:W9}{G G':Heap->Prop}{ox:Option Value}(p:Pull prog w A it G G' ox)(hg:G hp){α:Type}{f:Value->Sem α}{k:Value->Sem Unit}{Q:α->Shared->Prop}
  (t:Told it hp g d tk os G' ox (λx s'=>wpAny (model prog w) A (f x) Q (λe s2=>wpAny (model prog w) A (k e) (λ_ s3=>E e s3) E s2) s') (λe s2=>wpAny (model prog w) A (k e) (λ_ s3=>E e s3) E s2)) :
  wpAny (model prog w) A ((Builtin.SmallTypes.nextOf (.ref it) >>= f).onRaise k) Q E ⟨hp,g,d,tk,os⟩:=wpAny_onRaise (q0c (p hg t))
theorem freed {z I O e:W9}{v:W2}{h:Heap}(gz:IsZip h z I O v)(st:Stop h e)(k:∀ h',Rest [z] h h'->Stop h' e->E (.ref e) ⟨h',g,d,tk,os⟩) :
  wpAny (model prog w) A (setField (.ref z) 0 .none) (λ_ s3=>E (.ref e) s3) E ⟨h,g,d,tk,os⟩:=by
 obtain⟨o,ho,hc⟩:=st
 have ne:e≠z:=by
  rintro rfl
  have q:=ho.symm.trans gz
  cases q
  exact absurd (Value.type.inj hc) (by decide)
 refine q4m gz rfl (by simp) (k _ (Rest.but (Heap.SameBut.update ..) (by simp)) ⟨o,(Heap.SameBut.update ..).extBut _ _ ne ho,hc⟩)
theorem step {z I O i j:W9}{ox oy:Option Value}{a b:W2}{G1 G1' G2 G2':Heap->Prop}{R:PySem.Fin->Shared->Prop}
  (gz:IsZip hp z I O .none) (gI:IsPair hp I (.ref i) (.ref j)) (gO:IsPair hp O a b) (ne:O≠z/\O≠i/\O≠j/\i≠z/\j≠z)
  (p1:Pull prog w A i G1 G1' ox) (p2:Pull prog w A j G2 G2' oy) (a1:G1 hp) (a2:G2 hp)
  (k1:Stays [z,O,j] G1) (k2:Stays [z,O,i] G2) (k3:Stays [z,O,j] G1') (k4:Stays [z,O,i] G2')
  (go:∀ x y h',ox=some x->oy=some y->IsZip h' z I O (rawInt hp.objs.size)->IsPair h' O x y->IsPair h' hp.objs.size x y->G1' h'->G2' h'->Rest [z,O,i,j] hp h'->R (.done (.ret (.ref hp.objs.size))) ⟨h',g,d,tk,os⟩)
  (stop:∀ e h',ox=none∨oy=none->Rest [z,O,i,j] hp h'->Stop h' e->E (.ref e) ⟨h',g,d,tk,os⟩) :
  wpAny (model prog w) A (Builtin.«zip.__next__» ⟨[.ref z],[]⟩) R E ⟨hp,g,d,tk,os⟩:=by
 obtain⟨n1,n2,n3,n4,n5⟩:=ne
 have c0:(#[Value.none,.bool false,.bool false,.ref I,.ref O]:U9)[0]?=some .none:=rfl
 have c2:(#[Value.none,.bool false,.bool false,.ref I,.ref O]:U9)[2]?=some (.bool false):=rfl
 have c3:(#[Value.none,.bool false,.bool false,.ref I,.ref O]:U9)[3]?=some (.ref I):=rfl
 have c4:(#[Value.none,.bool false,.bool false,.ref I,.ref O]:U9)[4]?=some (.ref O):=rfl
 have z0:0<(#[Value.none,.bool false,.bool false,.ref I,.ref O]:U9).size:=by simp
 wp_walk using q3r gz rfl c2,q3r gz rfl c3,q5z gI rfl,q3r gz rfl c0,q3r gz rfl c4,wpAny_setField_rec gz z0
 intro h1 z1 r1
 have q1:Rest [z] hp h1:=.but r1 (by simp)
 wp_walk
 refine p1.behind (f:=λx=>pure (some x)) (k:=λ_=>setField (.ref z) 0 .none) (k1 _ _ (q1.sub (by simp)) a1) ⟨λx h2 e2 b2 r2=>?_,λe h2 e2 r2 st=>?_⟩
 ·have O2:IsPair h2 O a b:=r2.extBut _ _ n2 (r1.extBut _ _ n1 gO)
  wp_walk using q5z O2 rfl,wpAny_updateSeq_pair O2
  intro h3 O3 r3
  wp_walk using wpAny_letGo
  have q3:Rest [z,O,i] hp h3:=((q1.sub (by simp)).trans (.but r2 (by simp))).trans (.but r3 (by simp))
  refine p2.behind (f:=λx=>pure (some x)) (k:=λ_=>setField (.ref z) 0 .none) (k2 _ _ q3 a2) ⟨λy h4 e4 b4 r4=>?_,λe h4 e4 r4 st=>?_⟩
  ·have O4:IsPair h4 O x b:=r4.extBut _ _ n3 O3
   wp_walk using q5z O4 rfl,wpAny_updateSeq_pair O4
   intro h5 O5 r5
   have O5':IsPair h5 O x y:=O5
   have q5:Rest [z,O,i,j] hp h5:=((q3.sub (by simp)).trans (.but r4 (by simp))).trans (.but r5 (by simp))
   have z5:IsZip h5 z I O .ellipsis:=r5.extBut _ _ n1.symm (r4.extBut _ _ n5.symm (r3.extBut _ _ n1.symm (r2.extBut _ _ n4.symm z1)))
   have sz:h5.objs.size=hp.objs.size:=(((r5.1.trans r4.1).trans r3.1).trans r2.1).trans r1.1
   have lt:z<h5.objs.size:=q0h z5
   have z6:IsZip (h5.push { cls:=.type "tuple",data:=.seq #[x,y].toList.toArray }) z I O .ellipsis:=q0e _ z5
   wp_walk using wpAny_letGo,q5z O5' rfl
   have z8:=q3h (Obj.mapFields λv=>v.setIfInBounds 1 (Value.bool false)) (q3h (Obj.mapFields λv=>v.setIfInBounds 0 (rawInt h5.objs.size)) z6 rfl) rfl
   have r8:Rest [z] (h5.push { cls:=.type "tuple",data:=.seq #[x,y].toList.toArray }) _:=(Rest.but (b:=z) (Heap.SameBut.update (f:=Obj.mapFields λv=>v.setIfInBounds 0 (rawInt h5.objs.size)) ..) (by simp)).trans (Rest.but (b:=z) (Heap.SameBut.update (f:=Obj.mapFields λv=>v.setIfInBounds 1 (Value.bool false)) ..) (by simp))
   have q8:=(Rest.new _).trans r8
   have T8:=r8 h5.objs.size _ (by simp;exact q3o lt) (q0n _ rfl)
   simp only[<-sz] at go
   exact go x y _ e2 e4 z8 (q8 _ _ (by simp[n1]) O5') T8 (k3 _ _ ((((Rest.but (S:=[z,O,j]) r3 (by simp)).trans (.but r4 (by simp))).trans (.but r5 (by simp))).trans (q8.sub (T:=[z,O,j]) (by simp))) b2)
    (k4 _ _ ((Rest.but (S:=[z,O,i]) r5 (by simp)).trans (q8.sub (T:=[z,O,i]) (by simp))) b4) (q5.trans (q8.sub (T:=[z,O,i,j]) (by simp)))
  ·exact freed (r4 _ _ n5.symm (r3.extBut _ _ n1.symm (r2.extBut _ _ n4.symm z1))) st λh5 r5 st' =>
    stop e h5 (.inr e4) (((q3.sub (by simp)).trans (.ext r4 (by simp))).trans (r5.sub (by simp))) st'
 ·exact freed (r2 _ _ n4.symm z1) st λh3 r3 st'=>stop e h3 (.inl e2) (((q1.sub (by simp)).trans (.ext r2 (by simp))).trans (r3.sub (by simp))) st'
end
end Zo
namespace Zn
open PySem.Sem (wp)
section
variable {prog:U8}{w:W1}{A:W6}{E:U2}{hp:Heap}{g:Array GenState}{d:Drawn}{tk:Nat}{os:OsState}{it l:W9}{i n:Nat}{its:U9}{oi ol:Obj}{R:PySem.Fin->Shared->Prop}
theorem Y9l (hh:its[i]?=none->A.handled=none)(gi:hp.get? it=some oi)(di:oi.data=.fields #[.ref l,.int i 0])(gl:hp.get? l=some ol)(dl:ol.data=.seq its n)
  (go:∀ x,its[i]?=some x->R (.done (.ret x)) ⟨hp.update it (Obj.mapFields (·.setIfInBounds 1 (rawInt (i+1)))),g,d,tk,os⟩)
  (stop:∀ h' e,its[i]?=none->Heap.ExtBut it hp h'->(∃ o,h'.get? e=some o/\o.cls=.type "StopIteration")->E (.ref e) ⟨h',g,d,tk,os⟩) :
  wpAny (model prog w) A (Builtin.«tuple_iterator.__next__» ⟨[.ref it],[]⟩) R E ⟨hp,g,d,tk,os⟩:=by
 have f0:(#[Value.ref l,.int i 0]:U9)[0]?=some (.ref l):=rfl
 have f1:(#[Value.ref l,.int i 0]:U9)[1]?=some (.int i 0):=rfl
 have z0:0<(#[Value.ref l,.int i 0]:U9).size:=by simp
 have z1:1<(#[Value.ref l,.int i 0]:U9).size:=by simp
 wp_walk using q3r gi di f0,q3r gi di f1,q5z gl dl
 rw[q0x]
 cases hx:its[i]? with
 | some x =>
  dsimp only
  wp_walk using q4m gi di z1
  exact go x hx
 | none =>
  dsimp only
  have h0:=hh hx
  wp_walk using q4m gi di z0
  exact wpAny_raiseNew_none h0 (stop _ _ hx (((Heap.SameBut.update ..).extBut.push _).push _) ⟨_,q0n _ rfl,U⟩)
end
end Zn
namespace Zp
open Zo
open PySem.Sem (wp)
def Dat (t:Bool)(h:Heap)(l:W9)(xs:U9):Prop:=if t then h.IsTuple l xs else h.IsList l xs
def Itr (t:Bool)(h:Heap)(it l:W9)(i:Nat):Prop:=if t then h.IsTupleIter it l i else h.IsListIter it l i
theorem Dat.at {t:Bool}{h h':Heap}{l:W9}{xs:U9}(d:Dat t h l xs)(e:∀ o,h.get? l=some o->h'.get? l=some o):Dat t h' l xs:=by
 cases t<;>exact let ⟨o,q,r⟩:=d;⟨o,e o q,r⟩
theorem Itr.at {t:Bool}{h h':Heap}{it l:W9}{i:Nat}(d:Itr t h it l i)(e:∀ o,h.get? it=some o->h'.get? it=some o):Itr t h' it l i:=by
 cases t<;>exact let ⟨o,q,r⟩:=d;⟨o,e o q,r⟩
theorem Itr.obj {t:Bool}{h:Heap}{it l:W9}{i:Nat}(d:Itr t h it l i):∃ o,h.get? it=some o/\∀ v,o.data≠.cell v:=by
 cases t<;>exact let ⟨o,e,_,q⟩:=d;⟨o,e,λv z=>by rw[q] at z;cases z⟩
theorem Dat.push {t:Bool}{h:Heap}{l:W9}{xs:U9}(d:Dat t h l xs)(o:Obj):Dat t (h.push o) l xs:=d.at λ_ q=>q0e _ q
def Stand (t:Bool)(it l:W9)(k:Nat)(xs:U9)(h:Heap):Prop:=Itr t h it l k/\Dat t h l xs
theorem Stand.stays {t:Bool}{it l:W9}{k:Nat}{xs:U9}{S:U3}(a:it ∉ S)(b:l ∉ S):Stays S (Stand t it l k xs):=λh h' r d=>⟨d.1.at λo q=>r _ o a q,d.2.at λo q=>r _ o b q⟩
section
variable {prog:U8}{w:W1}{A:W6}
theorem via {E:U2}{T id:String}{f:Builtin}{a:W9}{s:U7}{Q:Option Value->Shared->Prop}(sl:Slot T (Str.ofString "__next__") id)(en:entryFor table id=some f)(ar:argsOk id ⟨[.ref a],[]⟩)(ty:s.TypeIs (.ref a) T)
  (h:wpAny (model prog w) A.in1 (f ⟨[.ref a],[]⟩) (λr s'=>∃ v,r=.done (.ret v)/\Q (some v) s') E s):wpAny (model prog w) A (callSpecial? (.ref a) (Str.ofString "__next__")) Q E s :=
 q4i ty sl (q4k sl ty en h ar)
theorem pull {t:Bool}{it l:W9}{k:Nat}{xs:U9}(hh:A.handled=none):Pull prog w A it (Stand t it l k xs) (Stand t it l (k+1) xs) xs[k]?:=by
 intro Q E hp g d tk os st td
 have nl:∀ {h'},Heap.SameBut it hp h'->l≠it->Dat t h' l xs:=λr n=>st.2.at λo q=>r.extBut _ _ n q
 cases t with
 | false =>
  obtain⟨a,b⟩:hp.IsListIter it l k/\hp.IsList l xs:=st
  have n:l≠it:=by
   rintro rfl
   obtain⟨o,q,_,r⟩:=a
   obtain⟨o',q',_,_,r'⟩:=b
   rw[q] at q';cases q';rw[r] at r';cases r'
  cases hx:xs[k]? with
  | some x=>exact wpAny_nextOf_list_item a b hx λh' i r=>td.1 x h' hx ⟨i,nl r n⟩ r
  | none=>exact wpAny_nextOf_list_end hh a b hx λh' e r s=>td.2 e h' hx r s
 | true =>
  obtain⟨a,b⟩:hp.IsTupleIter it l k/\hp.IsTuple l xs:=st
  have ty:(⟨hp,g,d,tk,os⟩:U7).TypeIs (.ref it) "tuple_iterator":=a.typeIs
  obtain⟨o,q,c,r⟩:=a
  obtain⟨o',q',c',m,r'⟩:=b
  have n:l≠it:=by rintro rfl;rw[q] at q';cases q';rw[r] at r';cases r'
  unfold Builtin.SmallTypes.nextOf
  refine q0c (via F.slot_tuple_iterator_next F.entry_tuple_iterator_next (F.args_tuple_iterator_next_1 _) ty (Zn.Y9l (λ_=>hh) q r q' r' (λx hx=>⟨x,U,q0m (td.1 x _ hx ?_ (Heap.SameBut.update ..))⟩) λh' e hx ex s=>td.2 e h' hx ex s))
  refine⟨(⟨_,q3h _ q (Obj.isFreed_of_fields (Obj.data_mapFields r _)),(Obj.cls_mapFields ..).trans c,?_⟩:Heap.IsTupleIter _ it l (k+1)),nl (Heap.SameBut.update ..) n⟩
  rw[Obj.data_mapFields r]
  rfl
variable {E:U2}
theorem Y3f {t1 t2:Bool}{z I O i j l m:W9}{k1 k2:Nat}{xs ys:U9}{a b:W2}{Q:Option Value->Shared->Prop}{s:U7}(hh:A.handled=none)(D:ZipApart z I O i j l m)
  (gz:IsZip s.heap z I O .none) (gI:IsPair s.heap I (.ref i) (.ref j)) (gO:IsPair s.heap O a b) (d1:Stand t1 i l k1 xs s.heap) (d2:Stand t2 j m k2 ys s.heap)
  (go:∀ x y h',xs[k1]?=some x->ys[k2]?=some y->IsZip h' z I O (rawInt s.heap.objs.size)->IsPair h' O x y->IsPair h' s.heap.objs.size x y->Stand t1 i l (k1+1) xs h'->Stand t2 j m (k2+1) ys h' →
   Rest [z,O,i,j] s.heap h'->Q (some (.ref s.heap.objs.size)) ⟨h',s.gens,s.drawn,s.toks,s.os⟩)
  (stop:∀ h',xs[k1]?=none∨ys[k2]?=none->Rest [z,O,i,j] s.heap h'->Q none ⟨h',s.gens,s.drawn,s.toks,s.os⟩):wpAny (model prog w) A (pyNext (.ref z)) Q E s:=by
 obtain⟨hp,g,d,tk,os⟩:=s
 unfold pyNext
 refine q0c (q7e (via F.slot_zip_next F.entry_zip_next (F.args_zip_next_1 _) ⟨_,gz,U⟩ (step gz gI gO ⟨D.TOz,D.TOi1,D.TOi2,D.i1z,D.i2z⟩ (pull (A:=A.in1) hh) (pull (A:=A.in1) hh) d1 d2 ?_ ?_ ?_ ?_ ?_ ?_)))
 ·exact Stand.stays (by simp[D.i1z,D.TOi1.symm,D.i12]) (by simp[D.l1z,D.l1TO,D.l1i2])
 ·exact Stand.stays (by simp[D.i2z,D.TOi2.symm,D.i12.symm]) (by simp[D.l2z,D.l2TO,D.l2i1])
 ·exact Stand.stays (by simp[D.i1z,D.TOi1.symm,D.i12]) (by simp[D.l1z,D.l1TO,D.l1i2])
 ·exact Stand.stays (by simp[D.i2z,D.TOi2.symm,D.i12.symm]) (by simp[D.l2z,D.l2TO,D.l2i1])
 ·exact λx y h' e1 e2 b1 b2 b3 b4 b5 b6=>⟨_,U,q0m (go x y h' e1 e2 b1 b2 b3 b4 b5 b6)⟩
 ·rintro e h' n r ⟨o,q,c⟩
  exact q0c (wpAny_isInstance (b:=true) ⟨o,q,c⟩ isSubtype_stop (q0m (stop h' n r)))
end
noncomputable abbrev itObj (t:Bool)(l:W9):Obj:={ cls:=.type (if t then "tuple_iterator" else "list_iterator"),data:=.fields #[.ref l,.int 0 0] }
theorem Y8b {t:Bool}{h:Heap}{it l:W9}(e:h.get? it=some (itObj t l)):Itr t h it l 0:=by
 cases t<;>exact⟨_,e,U,U⟩
theorem push5 {h:Heap}{o0 o1 o2 o3 o4:Obj}(f0:o0.isFreed=false)(f1:o1.isFreed=false)(f2:o2.isFreed=false)(f3:o3.isFreed=false)(f4:o4.isFreed=false){H:Heap}(e:H=((((h.push o0).push o1).push o2).push o3).push o4) :
  H.get? h.objs.size=some o0/\H.get? (h.objs.size+1)=some o1/\H.get? (h.objs.size+2)=some o2/\H.get? (h.objs.size+3)=some o3/\H.get? (h.objs.size+4)=some o4/\∀ c o,h.get? c=some o->H.get? c=some o:=by
 subst e
 have w:∀ {h:Heap}{a:W9}{o o':Obj},h.get? a=some o->(h.push o').get? a=some o:=λq=>q0e _ q
 have s1:(h.push o0).objs.size=h.objs.size+1:=q2w ..
 have s2:((h.push o0).push o1).objs.size=h.objs.size+2:=by rw[q2w,s1]
 have s3:(((h.push o0).push o1).push o2).objs.size=h.objs.size+3:=by rw[q2w,s2]
 have s4:((((h.push o0).push o1).push o2).push o3).objs.size=h.objs.size+4:=by rw[q2w,s3]
 refine⟨w (w (w (w (q0n _ f0)))),?_,?_,?_,?_,λc o q=>w (w (w (w (w q))))⟩
 ·rw[<-s1];exact w (w (w (q0n _ f1)))
 ·rw[<-s2];exact w (w (q0n _ f2))
 ·rw[<-s3];exact w (q0n _ f3)
 ·rw[<-s4];exact q0n _ f4
structure New (t1 t2:Bool) (h h':Heap) (l m:W9):Prop where
 z:IsZip h' (h.objs.size+4) (h.objs.size+2) (h.objs.size+3) .none
 I:IsPair h' (h.objs.size+2) (.ref h.objs.size) (.ref (h.objs.size+1))
 O:IsPair h' (h.objs.size+3) .none .none
 i:Itr t1 h' h.objs.size l 0
 j:Itr t2 h' (h.objs.size+1) m 0
 k:Rest [] h h'
section
variable {prog:U8}{w:W1}{A:W6}{E:U2}{s:U7}
theorem Y3n {t:Bool}{l:W9}{xs:U9}{Q:U2}(hl:Dat t s.heap l xs)(h:Q (.ref s.heap.objs.size) { s with heap:=s.heap.push (itObj t l) }):wpAny (model prog w) A (pyIter (.ref l)) Q E s:=by
 cases t
 ·exact q5x (show s.heap.IsList l xs from hl) h
 ·exact q5m (show s.heap.IsTuple l xs from hl) h
theorem Y7s (t1 t2:Bool)(l m:W9)(xs ys:U9) :
  Meets (Builtin.«zip.__new__» ⟨[.type "zip",.ref l,.ref m],[]⟩) (λ_ R s=>Dat t1 s.heap l xs/\Dat t2 s.heap m ys ∧
   ∀ h',New t1 t2 s.heap h' l m->R (.ok (.ret (.ref (s.heap.objs.size+4)))) { s with heap:=h' }) :=
 .of_wp λprog w A R s h=>by
  rcases s with ⟨hp,g,d,tk,os⟩
  rcases h with ⟨b1,b2,h⟩
  have hsub:=sub_zip
  have L1:Dat t1 (Shared.heap ⟨hp,g,d,tk,os⟩) l xs:=b1
  have L2:Dat t2 (Shared.heap ⟨hp.push (itObj t1 l),g,d,tk,os⟩) m ys:=b2.push _
  wp_walk using Y3n L1,Y3n L2
  have key:∀ n1 n2 n3 n4,n1=hp.objs.size+1->n2=hp.objs.size+2->n3=hp.objs.size+3->n4=hp.objs.size+4 →
    R (.ok (.ret (.ref n4))) ⟨((((hp.push (itObj t1 l)).push (itObj t2 m)).push { cls:=.type "tuple",data:=.seq #[.ref hp.objs.size,.ref n1] }).push { cls:=.type "tuple",data:=.seq #[.none,.none] }).push
     { cls:=.type "zip",data:=.fields #[.none,.bool false,.bool false,.ref n2,.ref n3] },g,d,tk,os⟩:=by
   rintro _ _ _ _ rfl rfl rfl rfl
   obtain⟨a0,a1,a2,a3,a4,a5⟩:=push5 (h:=hp) (o0:=itObj t1 l) (o1:=itObj t2 m) (o2:={ cls:=.type "tuple",data:=.seq #[.ref hp.objs.size,.ref (hp.objs.size+1)] }) (o3:={ cls:=.type "tuple",data:=.seq #[.none,.none] })
    (o4:={ cls:=.type "zip",data:=.fields #[.none,.bool false,.bool false,.ref (hp.objs.size+2),.ref (hp.objs.size+3)] }) rfl rfl rfl rfl rfl rfl
   exact h _ ⟨a4,a2,a3,Y8b a0,Y8b a1,λc o _ q=>a5 c o q⟩
  exact⟨_,U,key _ _ _ _ (by simp only[q2w]) (by simp only[q2w]) (by simp only[q2w]) (by simp only[q2w])⟩
theorem X1s {t1 t2:Bool}{l m:W9}{xs ys:U9}{Q:U2}(b1:Dat t1 s.heap l xs)(b2:Dat t2 s.heap m ys)
  (k:∀ h',New t1 t2 s.heap h' l m->Q (.ref (s.heap.objs.size+4)) { s with heap:=h' }):wpAny (model prog w) A (call (.type "zip") [.ref l,.ref m]) Q E s :=
 callType_new F.called_zip (by decide) (F.typeCall_zip_2 _ _) (F.newCall_zip_2 _ _) (λo=>F.args_object_init_3 o _ _) F.entry_zip_new (Y7s t1 t2 l m xs ys) ⟨b1,b2,λh' n=>⟨⟨_,n.z,U⟩,k h' n⟩⟩
end
end Zp
namespace L2
section
variable {X:Cx}{pins:U1}{σ:St}{H:Hp}{s:U7}{h':Heap}
theorem Inv.turnedL {t':Nat}{ch:U3}(I:Inv X pins σ H s)(k:∀ b o,b ∉ ch->s.heap.get? b=some o->h'.get? b=some o)(hf:∀ b∈ch,FpOk X pins H b):Inv X pins σ H { s with heap:=h',toks:=t' }:=by
 have nit:∀ b u,H b=some u->b ∉ ch:=λb u e z=>by rw[(hf b z).1] at e;cases e
 refine I.step (g':=s.gens) (d':=s.drawn) (ch:=ch) (λb hb=>⟨(hf b hb).2.2.2.1,(hf b hb).2.1,(hf b hb).2.2.2.2.1,(hf b hb).2.2.2.2.2⟩) (λb o _ _ hc e _=>k b o hc e) (λb o _ _ hc e _=>⟨o.slots,k b o hc e⟩) (λ_ _ _ _ n=>n)
  (λb o hc e=>⟨o,k b o hc e⟩) (λ_ _ e=>e) (λ_ _ _ e=>e) (λb ps e=>⟨#[],by rw[e];simp⟩) (λm hm=>?_) (λb u e=>?_) I.bare
 ·obtain⟨o,es,ep,ho,r⟩:=hm
  exact⟨o,es,ep,k _ o (λz=>(hf _ z).2.1 rfl) ho,r⟩
 ·refine(I.hok b u e).stay (λc v hc q=>k c v ?_ q) (λ_ q=>q) λ_ _ q=>q
  rcases hc with z | z
  ·rw[z];exact nit b u e
  ·exact nit c _ z
theorem Inv.turnedT {t':Nat}{ch:U3}{T:W9}{xs:List V}{its:U5}(I:Inv X pins σ H s)(k:∀ b o,b ∉ ch->s.heap.get? b=some o->h'.get? b=some o)(hf:∀ b∈ch,FpOk X pins H b)(hT:s.heap.objs.size<=T)(hv:Vals xs its)(hz:xs.length<=sizeLine)(ht:IsTup h' T its.toArray) :
  Inv X pins σ (upd H T (.tup xs)) { s with heap:=h',toks:=t' }:=by
 have nit:∀ b u,H b=some u->b ∉ ch:=λb u e z=>by rw[(hf b z).1] at e;cases e
 have hTn:H T=none:=I.hok.fresh hT
 have neT:∀ b o,s.heap.get? b=some o->b≠T:=λb o e=>q0t (q0f (q0h e) hT)
 have neH:∀ b u,H b=some u->b≠T:=λb u e z=>by rw[z,hTn] at e;cases e
 refine I.step (g':=s.gens) (d':=s.drawn) (ch:=ch) (λb hb=>⟨(hf b hb).2.2.2.1,(hf b hb).2.1,(hf b hb).2.2.2.2.1,(hf b hb).2.2.2.2.2⟩) (λb o _ _ hc e _=>k b o hc e) (λb o _ _ hc e _=>⟨o.slots,k b o hc e⟩)
  (λb o _ e n=>by rw[Z0u (neT b o e)];exact n)
  (λb o hc e=>⟨o,k b o hc e⟩) (λb ys e=>by rw[Z0u (neH b _ e)];exact e) (λb o u e=>by rw[Z0u (neH b _ e)];exact e) (λb ps e=>⟨#[],by rw[Z0u (neH b _ e),e];simp⟩) (λm hm=>?_) (λb u e=>?_) I.bare
 ·obtain⟨o,es,ep,ho,r⟩:=hm
  exact⟨o,es,ep,k _ o (λz=>(hf _ z).2.1 rfl) ho,r⟩
 ·by_cases hb:b=T
  ·subst hb
   rw[Z0d] at e
   cases e
   exact⟨hz,its,hv,ht⟩
  ·rw[Z0u hb] at e
   refine(I.hok b u e).stay (λc v hc q=>k c v ?_ q) (λc q=>by rw[Z0u (neH c _ q)];exact q) λc ys q=>by rw[Z0u (neH c _ q)];exact q
   rcases hc with z | z
   ·rw[z];exact nit b u e
   ·exact nit c _ z
end
def SqX (t:Bool)(K:U0)(H:Hp)(a:W9)(xs:List V):Prop:=if t then SqT K H a xs else SqL K H a xs
theorem Inv.sqx {X:Cx}{pins:U1}{σ:St}{H:Hp}{s:U7}{t:Bool}{a:W9}{xs:List V}(I:Inv X pins σ H s)(h:SqX t X.K H a xs):∃ its:List Value,Vals xs its/\Zp.Dat t s.heap a its.toArray/\xs.length<=sizeLine:=by
 cases t
 ·obtain⟨its,v,p,z⟩:=I.list (show SqL X.K H a xs from h)
  exact⟨its,v,p.isList,z⟩
 ·obtain⟨its,v,p,z⟩:=I.tuple (show SqT X.K H a xs from h)
  exact⟨its,v,p,z⟩
theorem Inv.sqx_inj {X:Cx}{pins:U1}{σ:St}{H:Hp}{s:U7}{t:Bool}{a:W9}{xs ys:List V}(I:Inv X pins σ H s)(h:SqX t X.K H a xs)(h':SqX t X.K H a ys):xs=ys:=by
 cases t
 ·exact I.list_inj (show SqL X.K H a xs from h) h'
 ·exact I.tuple_inj (show SqT X.K H a xs from h) h'
def Itz (t1 t2:Bool)(K:U0)(l1 l2:W9):It :=
 ⟨λi H=>∃ xs x ys y,SqX t1 K H l1 xs/\xs[i]?=some x/\SqX t2 K H l2 ys/\ys[i]?=some y,
 λi H v H'=>∃ T x y,v=.ref T/\H T=none/\H'=upd H T (.tup [x,y])/\(∀ xs,SqX t1 K H l1 xs->xs[i]?=some x)/\∀ ys,SqX t2 K H l2 ys->ys[i]?=some y,
 λi H=>∃ xs ys,SqX t1 K H l1 xs/\SqX t2 K H l2 ys/\(xs.length<=i∨ys.length<=i)⟩
theorem Y9j {P:U8}{w:W1}{K:U0}{es:List Expr}{kk:Nat}{tp:Pos}{t1 t2:Bool}{z TI TO i1 i2 l1 l2:W9}(D:ZipApart z TI TO i1 i2 l1 l2) :
  Turn P w K (.Tuple es kk tp) (Itz t1 t2 K l1 l2) [z,TI,TO,i1,i2] z (λi h=>IsZip h z TI TO .none/\IsPair h TI (.ref i1) (.ref i2)/\(∃ a b,IsPair h TO a b)/\Zp.Itr t1 h i1 l1 i/\Zp.Itr t2 h i2 l2 i) where
 mem:=by simp
 obj:=λi h st b hb=>by
  obtain⟨a1,a2,⟨x,y,a3⟩,a4,a5⟩:=st
  simp only[q0s,q1i,q3c] at hb
  rcases hb with rfl | rfl | rfl | rfl | rfl
  ·exact⟨_,a1,λv q=>by have q':Data.fields _=Data.cell v:=q;cases q'⟩
  ·exact⟨_,a2,λv q=>by have q':Data.seq _ _=Data.cell v:=q;cases q'⟩
  ·exact⟨_,a3,λv q=>by have q':Data.seq _ _=Data.cell v:=q;cases q'⟩
  ·exact a4.obj
  ·exact a5.obj
 keep:=λi h h' st k=>by
  obtain⟨a1,a2,⟨x,y,a3⟩,a4,a5⟩:=st
  exact⟨k z (by simp) _ a1,k TI (by simp) _ a2,⟨x,y,k TO (by simp) _ a3⟩,a4.at λo e=>k i1 (by simp) o e,a5.at λo e=>k i2 (by simp) o e⟩
 item:=by
  intro X hP hw hK hc i pins s σ H E I hf st hg
  subst hP hw hK
  obtain⟨xs,x,ys,y,q1,hx,q2,hy⟩:=hg
  obtain⟨a1,a2,⟨u1,u2,a3⟩,a4,a5⟩:=st
  obtain⟨its,rv,dt,hz⟩:=I.sqx q1
  obtain⟨its',rv',dt',hz'⟩:=I.sqx q2
  obtain⟨vx,hvx,rx⟩:=rv.get hx
  obtain⟨vy,hvy,ry⟩:=rv'.get hy
  refine Zp.Y3f (I.ok.hd hc) D a1 a2 a3 (d1:=⟨a4,dt⟩) (d2:=⟨a5,dt'⟩) (λwx wy h' f1 f2 b1 b2 b5 b3 b4 bk=>?_) (λh' n _=>?_)
  rotate_left
  ·exfalso
   rcases n with n | n
   ·rw[show its.toArray[i]?=some vx by simpa using hvx] at n;cases n
   ·rw[show its'.toArray[i]?=some vy by simpa using hvy] at n;cases n
  obtain rfl:vx=wx:=Option.some.inj ((show its.toArray[i]?=some vx by simpa using hvx).symm.trans f1)
  obtain rfl:vy=wy:=Option.some.inj ((show its'.toArray[i]?=some vy by simpa using hvy).symm.trans f2)
  refine⟨_,U,wpAny_letOwnedTupleGo_zip b1 λh2 c1 sb=>?_⟩
  have zT:s.heap.objs.size≠z:=q3o (q0h a1)
  have k2:∀ b o,b ∉ [z,TI,TO,i1,i2]->s.heap.get? b=some o->h2.get? b=some o:=λb o hb e=>by
   simp only[q0s,q1i,q3c,not_or] at hb
   exact sb.extBut b o hb.1 (bk b o (by simp[hb]) e)
  have hT:IsTup h2 s.heap.objs.size ([vx,vy]:U5).toArray:=⟨_,sb.extBut _ _ zT b5,U,_,U⟩
  refine⟨.ref s.heap.objs.size,upd H s.heap.objs.size (.tup [x,y]),I.turnedT (t':=s.toks) k2 hf (q0l _) (.cons rx (.cons ry .nil)) (by show 2<=sizeLine;decide) hT,U,⟨_,x,y,U,I.hok.fresh (q0l _),U,λxs' h1=>?_,λys' h1=>?_⟩,⟨c1,?_,⟨vx,vy,?_⟩,?_,?_⟩,λb hb=>?_⟩
  ·rw[I.sqx_inj h1 q1];exact hx
  ·rw[I.sqx_inj h1 q2];exact hy
  ·exact sb.extBut _ _ D.TIz (bk _ _ (by simp[D.TIz,D.TITO,D.TIi1,D.TIi2]) a2)
  ·exact sb.extBut _ _ D.TOz b2
  ·exact b3.1.at λo q=>sb.extBut _ _ D.i1z q
  ·exact b4.1.at λo q=>sb.extBut _ _ D.i2z q
  ·have hlt:b<s.heap.objs.size:=by
    simp only[q0s,q1i,q3c] at hb
    rcases hb with rfl | rfl | rfl | rfl | rfl
    ·exact q0h a1
    ·exact q0h a2
    ·exact q0h a3
    ·obtain⟨o,e,_⟩:=a4.obj;exact q0h e
    ·obtain⟨o,e,_⟩:=a5.obj;exact q0h e
   rw[Z0u (q0t hlt)]
   exact(hf b hb).1
 done:=by
  intro X hP hw hK hc i pins s σ H E I hf st hg
  subst hP hw hK
  obtain⟨xs,ys,q1,q2,hend⟩:=hg
  obtain⟨a1,a2,⟨u1,u2,a3⟩,a4,a5⟩:=st
  obtain⟨its,rv,dt,hz⟩:=I.sqx q1
  obtain⟨its',rv',dt',hz'⟩:=I.sqx q2
  have e1:=rv.length
  have e2:=rv'.length
  have hend':its.toArray[i]?=none∨its'.toArray[i]?=none:=by
   rcases hend with h | h
   ·left;simp;omega
   ·right;simp;omega
  refine Zp.Y3f (I.ok.hd hc) D a1 a2 a3 (d1:=⟨a4,dt⟩) (d2:=⟨a5,dt'⟩) (λwx wy h' f1 f2 b1 b2 b5 b3 b4 bk=>?_) (λh' n bk=>⟨U,I.turnedL (t':=s.toks) (λb o hb e=>?_) hf⟩)
  ·exfalso
   rcases hend' with n | n
   ·rw[f1] at n;cases n
   ·rw[f2] at n;cases n
  ·simp only[q0s,q1i,q3c,not_or] at hb
   exact bk b o (by simp[hb]) e
 self:=λ_ _ _ _ _ st h=>wpAny_pyIter_zip st.1 h
section
variable {X:Cx}{es:List Expr}{kk:Nat}{tp:Pos}
def iZip (t1 t2:Bool)(K:U0)(ta:TA):TI:=λσ H R=>ta σ H λvs H1=>∃ l1 l2 xs ys,vs=[.ref l1,.ref l2]/\SqX t1 K H1 l1 xs/\SqX t2 K H1 l2 ys/\R (Itz t1 t2 K l1 l2) H1
theorem X8e (t1 t2:Bool){a b:Expr}{ta:TA}{p pos:Pos}(hg:Gl X "zip")(hm:X.mg "zip"=none)(ha:PA X [a,b] ta)(hs:starEach [a,b] X.env=[(false,eval a X.env),(false,eval b X.env)]:=by rfl)(hs2:starEach [b] X.env=[(false,eval b X.env)]:=by rfl) :
  PI X (.Tuple es kk tp) (.Call (.Name "zip" p) [a,b] [] pos) (iZip t1 t2 X.K ta):=by
 intro pins s σ H R I h
 refine Call_ (Z6d I hg hm boot_zip (PyProof.Rows.callWith_type1 (thn (ha pos pins s σ H _ I h) λus s1 ⟨vs,H1,I1,r1,q1⟩=>?_) (by rw[hs,hs2]) (by rw[hs2];rfl)))
 obtain⟨l1,l2,xs,ys,e,h1,h2,q⟩:=q1
 subst e
 cases r1 with
 | cons r rr =>
  cases rr with
  | cons r' rr =>
   cases rr
   cases r
   cases r'
   obtain⟨its,rv,dt,hz⟩:=I1.sqx h1
   obtain⟨its',rv',dt',hz'⟩:=I1.sqx h2
   refine Zp.X1s dt dt' λh' ⟨z1,z2,z3,z4,z5,zk'⟩=>?_
   have zk:∀ c o,s1.heap.get? c=some o->h'.get? c=some o:=λc o q=>zk' c o (by simp) q
   have I2:Inv X pins σ H1 { s1 with heap:=h' }:=I1.kept (t':=s1.toks) zk
   have lt1:l1<s1.heap.objs.size:=by
    cases t1
    ·obtain⟨o,e,_⟩:=(show s1.heap.IsList l1 _ from dt);exact q0h e
    ·obtain⟨o,e,_⟩:=(show s1.heap.IsTuple l1 _ from dt);exact q0h e
   have lt2:l2<s1.heap.objs.size:=by
    cases t2
    ·obtain⟨o,e,_⟩:=(show s1.heap.IsList l2 _ from dt');exact q0h e
    ·obtain⟨o,e,_⟩:=(show s1.heap.IsTuple l2 _ from dt');exact q0h e
   have D:ZipApart (s1.heap.objs.size+4) (s1.heap.objs.size+2) (s1.heap.objs.size+3) s1.heap.objs.size (s1.heap.objs.size+1) l1 l2:=zipApart_new lt1 lt2
   refine wpAny_pyIter_zip z1 ⟨_,_,_,_,H1,U,I2,Y9j D,⟨z1,z2,⟨_,_,z3⟩,z4,z5⟩,λb hb=>?_,q⟩
   have hge:s1.heap.objs.size<=b:=by
    simp only[q0s,q1i,q3c] at hb
    rcases hb with rfl | rfl | rfl | rfl | rfl
    ·exact q6d _ _
    ·exact q6d _ _
    ·exact q6d _ _
    ·exact q0l _
    ·exact q6d _ _
   exact I1.fpOk hge (I1.hok.fresh hge)
end
theorem X9l {t1 t2:Bool}{K:U0}{l1 l2:W9}{g:TG}{xs ys:List V}{te:TE}{fr:St}{H1:Hp}{acc:W9}{Q:VK}(Pv:Nat->List V->Hp->Prop)(hxy:xs.length=ys.length)(hn:xs.length<=sizeLine)(h0:Pv 0 [] (upd H1 acc (.lst [])))
  (hg:∀ {a:W9}{x y v1 v2:V}{w1 w2:Option V}{H:Hp}{Q:St->Hp->Prop},H a=some (.tup [x,y])->Q (some x::some y::fr) H->g (.ref a) (w1::w2::fr) H Q)
  (hl:∀ i zs H,Pv i zs H->SqX t1 K H l1 xs/\SqX t2 K H l2 ys)
  (hs:∀ i x y zs H T (N:V->Hp->Prop),xs[i]?=some x->ys[i]?=some y->zs.length=i->Pv i zs H->H T=none->(∀ z H5,H5 acc=some (.lst zs)->Pv (i+1) (zs++[z]) (upd H5 acc (.lst (zs++[z])))->N z H5)->te (some x::some y::fr) (upd H T (.tup [x,y])) N)
  (hd:∀ zs H,zs.length=xs.length->Pv xs.length zs H->Q (.ref acc) H):LcW (Itz t1 t2 K l1 l2) g te (none::none::fr) H1 acc Q:=by
 refine⟨λi m zs σ2 H2=>m=xs.length-i/\i<=xs.length/\zs.length=i/\(∃ v w,σ2=v::w::fr)/\Pv i zs H2,⟨xs.length,by simp,q1o _,U,⟨_,_,U⟩,h0⟩,?_⟩
 rintro i m zs σ2 H2 ⟨rfl,hi,hl2,⟨v,w,rfl⟩,p⟩
 obtain⟨s1,s2⟩:=hl i zs H2 p
 by_cases hlt:i<xs.length
 ·have e1:xs[i]?=some xs[i]:=by simp[hlt]
  have e2:ys[i]?=some (ys[i]'(by omega)):=by simp[show i<ys.length by omega]
  refine .inr ⟨⟨xs,_,ys,_,s1,e1,s2,e2⟩,λu H3 y3=>?_⟩
  obtain⟨T,x,y,rfl,hT,rfl,h1,h2⟩:=y3
  have hx:=h1 xs s1
  have hy:=h2 ys s2
  refine hg (v1:=x) (v2:=y) (Z0d) ?_
  refine hs i x y zs H2 T _ hx hy hl2 p hT λz H5 a5 p5=>⟨a5,by omega,xs.length-(i+1),by omega,U,hlt,by rw[q0j,hl2];rfl,⟨_,_,U⟩,p5⟩
 ·have e:i=xs.length:=by omega
  subst e
  exact .inl ⟨⟨xs,ys,s1,s2,.inl (q0l _)⟩,hd zs H2 hl2 p⟩
end L2
namespace Bt
theorem Y1k (x y:Nat):(x&&&y)=2*((x / 2)&&&(y / 2))+(x%2)*(y%2):=by
 have h1:(x&&&y) / 2=(x / 2)&&&(y / 2):=Nat.and_div_two
 have h2:(x&&&y)%2=1 ↔ x%2=1/\y%2=1:=Nat.and_mod_two_eq_one
 rcases q0z x with a | a<;>rcases q0z y with b | b<;>rw[a,b] at h2 ⊢<;>omega
theorem X9d (x y:Nat):(x ||| y)=2*((x / 2) ||| (y / 2))+(x%2+y%2-(x%2)*(y%2)):=by
 have h1:(x ||| y) / 2=(x / 2) ||| (y / 2):=Nat.or_div_two
 have h2:(x ||| y)%2=1 ↔ x%2=1∨y%2=1:=Nat.or_mod_two_eq_one
 rcases q0z x with a | a<;>rcases q0z y with b | b<;>rw[a,b] at h2 ⊢<;>omega
def Half (x y:Int):Prop:=Builtin.bitAnd x y=2*Builtin.bitAnd (x / 2) (y / 2)+(x%2)*(y%2)
theorem Half.swap {x y:Int}(h:Half x y):Half y x:=by
 unfold Half at h ⊢
 rw[bitAnd_comm y x,bitAnd_comm (y / 2),Int.mul_comm (y%2)];exact h
theorem Half.flip {x y:Int}(h:Half x (Builtin.bitNot y)):Half x y:=by
 unfold Half at h ⊢
 have e:=bitAnd_not x (Builtin.bitNot y)
 have e2:=bitAnd_not (x / 2) (Builtin.bitNot (y / 2))
 rw[q7f] at e e2
 have q:Builtin.bitNot (y / 2)=Builtin.bitNot y / 2:=by unfold Builtin.bitNot;omega
 have p:x%2*(y%2)=x%2-x%2*(Builtin.bitNot y%2):=by
  rw[show y%2=1-Builtin.bitNot y%2 by unfold Builtin.bitNot;omega,Int.mul_sub,Int.mul_one]
 rw[e,e2,q,h,p];omega
theorem Half.pos {x y:Int}(hx:0<=x)(hy:0<=y):Half x y:=by
 have h:∀ {z:Int},0<=z->z.toNat / 2=(z / 2).toNat/\((z.toNat%2:Nat):Int)=z%2:=λh=>by omega
 unfold Half
 rw[bitAnd_pp hx hy,bitAnd_pp (Int.ediv_nonneg hx (by decide)) (Int.ediv_nonneg hy (by decide)),Y1k,(h hx).1,(h hy).1,<-(h hx).2,<-(h hy).2,Int.natCast_add,Int.natCast_mul,Int.natCast_mul];rfl
theorem Half.right {x:Int}(hx:0<=x)(y:Int):Half x y :=
 (Classical.em (0<=y)).elim (Half.pos hx) λhy=>(Half.pos hx (bitNot_nonneg.mpr hy)).flip
theorem Z9g (x y:Int):Builtin.bitAnd x y=2*Builtin.bitAnd (x / 2) (y / 2)+(x%2)*(y%2) :=
 (Classical.em (0<=x)).elim (λhx=>Half.right hx y) λhx=>(Half.right (bitNot_nonneg.mpr hx) y).swap.flip.swap
theorem X4r (x y:Int):Builtin.bitOr x y=2*Builtin.bitOr (x / 2) (y / 2)+(x%2+y%2-(x%2)*(y%2)):=by
 rw[bitOr_and,bitOr_and,Z9g]
 omega
theorem Z3x {v:Nat}{x:Int}:(2:Int)^(v+1) ∣ x ↔ x%2=0/\(2:Int)^v ∣ x / 2:=by
 constructor
 ·rintro ⟨k,rfl⟩
  have e:(2:Int)^(v+1)*k=2*(2^v*k):=by rw[q6s];grind
  rw[e]
  exact⟨by omega,⟨k,by omega⟩⟩
 ·rintro ⟨h0,k,hk⟩
  refine⟨k,?_⟩
  have e:(2:Int)^(v+1)*k=2*(2^v*k):=by rw[q6s];grind
  rw[e,<-hk]
  omega
theorem Z7z:∀ (v:Nat) (x y:Int),(2:Int)^v ∣ Builtin.bitOr x y ↔ (2:Int)^v ∣ x/\(2:Int)^v ∣ y
 | 0,x,y=>by simp
 | v+1,x,y=>by
  rw[Z3x,Z3x,Z3x]
  have e:=X4r x y
  have ih:=Z7z v (x / 2) (y / 2)
  have ex:=q8e x
  have ey:=q8e y
  rcases ex with a | a<;>rcases ey with b | b<;>rw[a,b] at e ⊢
  ·have e2:Builtin.bitOr x y / 2=Builtin.bitOr (x / 2) (y / 2):=by omega
   rw[e2,ih]
   have e3:Builtin.bitOr x y%2=0:=by omega
   simp[e3]
  all_goals
   have e3:Builtin.bitOr x y%2=1:=by omega
   simp[e3]
theorem Y4u (n:Nat):n<2^n:=Nat.lt_two_pow_self
theorem Z6s {x:Int}(h:∀ v:Nat,(2:Int)^v ∣ x):x=0:=by
 have h1:=h x.natAbs
 apply Classical.byContradiction
 intro hx
 have h2:=Int.natAbs_dvd_natAbs.mpr h1
 have h3:=Nat.le_of_dvd (by omega) h2
 rw[Int.natAbs_pow] at h3
 have:=Y4u x.natAbs
 have e:(2:Int).natAbs=2:=rfl
 rw[e] at h3
 omega
theorem Y1b {x y:Int}:Builtin.bitOr x y=0 ↔ x=0/\y=0:=by
 constructor
 ·intro h
  have hd:∀ v:Nat,(2:Int)^v ∣ Builtin.bitOr x y:=λv=>by rw[h];exact Int.dvd_zero _
  exact⟨Z6s λv=>((Z7z v x y).mp (hd v)).1,Z6s λv=>((Z7z v x y).mp (hd v)).2⟩
 ·rintro ⟨rfl,rfl⟩
  decide +kernel
theorem Z8t:∀ (n:Nat) (p:Int),p.natAbs<n->p≠0->∃ (v:Nat) (q:Int),p=2^v*q/\q%2=1/\Builtin.bitAnd p (-p)=((2^v:Nat):Int)
 | 0,p,h,_=>by omega
 | n+1,p,h,hp=>by
  rcases q8e p with h0 | h1
  ·obtain⟨v,q,e,o,b⟩:=Z8t n (p / 2) (by omega) (by omega)
   refine⟨v+1,q,?_,o,?_⟩
   ·have e2:(2:Int)^(v+1)*q=2*(2^v*q):=by rw[q6s];grind
    rw[e2,<-e];omega
   ·rw[Z9g,show (-p) / 2=-(p / 2) by omega,b,h0,q3n]
    omega
  ·refine⟨0,p,by simp,h1,?_⟩
   rw[Z9g,show (-p) / 2=Builtin.bitNot (p / 2) by unfold Builtin.bitNot;omega,bitAnd_not,bitAnd_self,h1,show (-p)%2=1 by omega]
   rw[Int.sub_self];rfl
theorem Z9d (v:Nat):Builtin.Int.intBits ((2^v:Nat):Int)=v+1:=by
 unfold Builtin.Int.intBits
 have hp:0<2^v:=q0w v
 have hne:((((2^v:Nat):Int)) == 0)=false:=by
  rw[beq_eq_false_iff_ne];omega
 rw[hne,q4p,Nat.log2_two_pow]
 rfl
end Bt
namespace L2
section
variable {X:Cx}
def CShl (i j:Int):Prop:=∃ a,Sz a i/\0<=j/\(a:Int)+j<=1048576
theorem Z1j:OpR X (binaryOp .LShift) (rI CShl λi j=>.int (i*2^j.toNat)):=opI λi j _ _ _ _ _ hc q=>by
 obtain⟨a,h1,h2,h3⟩:=hc
 have:=h1.bits
 exact lshift_int h2 (by omega) q
theorem Z2f:MtR X "int.bit_length" (λx xs H Q=>∃ i,x=.int i/\xs=[]/\Q (.int (Builtin.Int.intBits i:Nat)) H):=by
 intro pins s σ H x xs v us Q I rx rs h
 obtain⟨i,rfl,rfl,q⟩:=h
 obtain⟨t,rfl⟩:=rx
 cases rs
 refine call_gives q1m (typeIs_int s i t) PySem.F.entry_int_bit_length (PySem.F.args_int_bit_length_1 _) (PySem.AutoIntG2.int_bit_length_int_0 i t) ?_
 exact⟨.int (Builtin.Int.intBits i:Nat),H,I.tok _,⟨_,U⟩,q⟩
theorem Z5k (hc:X.calm=true):CallR X (.builtin "any") (λxs H Q=>∃ (p:W9) (bs:List Bool),xs=[.ref p]/\SqL X.K H p (bs.map V.bl)/\Q (.bl (bs.any id)) H):=by
 intro pins s σ H xs us Q I r h
 obtain⟨p,bs,rfl,hq,q⟩:=h
 obtain⟨u,rfl,ru⟩:=r.one
 cases ru
 obtain⟨its,rv,pl,hz⟩:=I.list hq
 have hlen:its.length=bs.length:=by rw[<-rv.length,q0a]
 refine call_any_walk (q5x pl.isList ?_)
 have W:=Walks.list (prog:=X.prog) (w:=X.w) (A:=X.A.in1) (show X.A.in1.handled=none from I.ok.hd hc) s.heap.objs.size p (by
  obtain⟨o,e,_⟩:=pl.isList
  exact q0t (q0h e)) its.toArray
 refine⟨s.heap.objs.size,_,_,_,_,_,λi=>bs.getD i false,U,W,⟨⟨_,q0n _ rfl,U,U⟩,pl.isList.push _⟩,?_,λh' tk hk=>?_⟩
 ·intro i v s' Q' E' hv hQ
  have hv':its[i]?=some v:=by simpa using hv
  have hi:i<bs.length:=by rw[<-hlen];exact(q0o.mp hv').1
  have hb:(bs.map V.bl)[i]?=some (.bl (bs.getD i false)):=by
   rw[q0g,q0d hi,q0b,q0d hi];rfl
  obtain⟨u,hu,ru⟩:=rv.get hb
  rw[hv'] at hu
  cases hu
  cases ru
  exact q2z hQ
 ·have e:(List.range its.toArray.size).any (λi=>bs.getD i false)=bs.any id:=by
   rw[q0r,hlen]
   rw[q4t,q3j,q3j]
   constructor
   ·rintro ⟨i,hi,hb⟩
    have hi':i<bs.length:=q1c.mp hi
    rw[q0b,q0d hi'] at hb
    exact⟨bs[i],q4l hi',hb⟩
   ·rintro ⟨b,hb,hb'⟩
    obtain⟨i,hi,rfl⟩:=q3k.mp hb
    refine⟨i,q1c.mpr hi,?_⟩
    rw[q0b,q0d hi]
    exact hb'
  rw[e]
  refine⟨.bl (bs.any id),H,?_,U,q⟩
  exact I.kept (t':=tk) λb o eo=>hk b o (by simp;exact q0t (q0h eo)) (q0e _ eo)
end
end L2
namespace Am
noncomputable abbrev p2 (h:Int):Int:=2^h.toNat
theorem X8l (h:Int):0<p2 h:=q8i (by decide)
theorem Z9w (h:Int):p2 h≠0:=by have:=X8l h;omega
theorem Y3a {a b:Int}(ha:0<=a)(hb:0<=b):p2 (a+b)=p2 a*p2 b:=by
 unfold p2
 rw[show (a+b).toNat=a.toNat+b.toNat by omega,Int.pow_add]
theorem Z6c {a b:Int}(hb:0<=b)(h:b<=a):p2 a=p2 (a-b)*p2 b:=by
 rw[<-Y3a (by omega) hb]
 congr 1
 omega
structure Amt (a b c d h:Int):Prop where
 nn:0<=h
 odd:h=0∨a%2=1∨b%2=1∨c%2=1∨d%2=1
def Eq2 (x h y g:Int):Prop:=x*p2 g=y*p2 h
structure Same4 (a b c d h a' b' c' d' h':Int):Prop where
 e1:Eq2 a h a' h'
 e2:Eq2 b h b' h'
 e3:Eq2 c h c' h'
 e4:Eq2 d h d' h'
theorem Same4.symm {a b c d h a' b' c' d' h':Int}(s:Same4 a b c d h a' b' c' d' h'):Same4 a' b' c' d' h' a b c d h:=⟨s.e1.symm,s.e2.symm,s.e3.symm,s.e4.symm⟩
theorem Eq2.trans {x h y g z k:Int}(a:Eq2 x h y g)(b:Eq2 y g z k):Eq2 x h z k:=by
 unfold Eq2 at *
 have h1:(x*p2 k)*p2 g=(z*p2 h)*p2 g:=by
  have e1:(x*p2 k)*p2 g=(x*p2 g)*p2 k:=by grind
  have e2:(z*p2 h)*p2 g=(z*p2 g)*p2 h:=by grind
  rw[e1,e2,a,<-b];grind
 exact q3s (Z9w g) h1
theorem Same4.trans {a b c d h a' b' c' d' h' a2 b2 c2 d2 h2:Int}(s:Same4 a b c d h a' b' c' d' h')(t:Same4 a' b' c' d' h' a2 b2 c2 d2 h2):Same4 a b c d h a2 b2 c2 d2 h2 :=
 ⟨s.e1.trans t.e1,s.e2.trans t.e2,s.e3.trans t.e3,s.e4.trans t.e4⟩
theorem Eq2.lift {x h y g:Int}(hh:0<=h)(hg:h<=g)(e:Eq2 x h y g):y=x*p2 (g-h):=by
 unfold Eq2 at e
 rw[Z6c hh hg] at e
 have:(x*p2 (g-h))*p2 h=y*p2 h:=by rw[<-e];grind
 exact(q3s (Z9w h) this).symm
theorem Z5i {x n:Int}(hn:0<n):(x*p2 n)%2=0:=by
 have e:p2 n=p2 (n-1)*2:=by
  rw[Z6c (a:=n) (b:=1) (by decide) (by omega)]
  rfl
 rw[e,<-q7m]
 omega
theorem Amt.unique_le {a b c d h a' b' c' d' h':Int}(x:Amt a b c d h)(y:Amt a' b' c' d' h')(s:Same4 a b c d h a' b' c' d' h')(hle:h<=h'):a=a'/\b=b'/\c=c'/\d=d'/\h=h':=by
 have e1:=s.e1.lift x.nn hle
 have e2:=s.e2.lift x.nn hle
 have e3:=s.e3.lift x.nn hle
 have e4:=s.e4.lift x.nn hle
 have he:h=h':=by
  apply Classical.byContradiction
  intro hne
  have hp:0<h'-h:=by omega
  have o:=y.odd
  rw[e1,e2,e3,e4,Z5i hp,Z5i hp,Z5i hp,Z5i hp] at o
  have:=x.nn
  omega
 subst he
 simp only[Int.sub_self,p2,Int.toNat_zero,Int.pow_zero,Int.mul_one] at e1 e2 e3 e4
 exact⟨e1.symm,e2.symm,e3.symm,e4.symm,U⟩
theorem Amt.unique {a b c d h a' b' c' d' h':Int}(x:Amt a b c d h)(y:Amt a' b' c' d' h')(s:Same4 a b c d h a' b' c' d' h'):a=a'/\b=b'/\c=c'/\d=d'/\h=h':=by
 rcases Int.le_total h h' with hle | hle
 ·exact x.unique_le y s hle
 ·obtain⟨q1,q2,q3,q4,q5⟩:=y.unique_le x s.symm hle
  exact⟨q1.symm,q2.symm,q3.symm,q4.symm,q5.symm⟩
noncomputable abbrev orAll (a b c d:Int):Int:=Builtin.bitOr (Builtin.bitOr (Builtin.bitOr a b) c) d
theorem orAll_dvd {v:Nat}{a b c d:Int}:(2:Int)^v ∣ orAll a b c d ↔ ((2:Int)^v ∣ a/\(2:Int)^v ∣ b/\(2:Int)^v ∣ c/\(2:Int)^v ∣ d):=by
 unfold orAll
 rw[Bt.Z7z,Bt.Z7z,Bt.Z7z]
 constructor
 ·rintro ⟨⟨⟨h1,h2⟩,h3⟩,h4⟩;exact⟨h1,h2,h3,h4⟩
 ·rintro ⟨h1,h2,h3,h4⟩;exact⟨⟨⟨h1,h2⟩,h3⟩,h4⟩
theorem orAll_zero {a b c d:Int}:orAll a b c d=0 ↔ (a=0/\b=0/\c=0/\d=0):=by
 unfold orAll
 rw[Bt.Y1b,Bt.Y1b,Bt.Y1b]
 constructor
 ·rintro ⟨⟨⟨h1,h2⟩,h3⟩,h4⟩;exact⟨h1,h2,h3,h4⟩
 ·rintro ⟨h1,h2,h3,h4⟩;exact⟨⟨⟨h1,h2⟩,h3⟩,h4⟩
theorem lowest {a b c d:Int}(hp:orAll a b c d≠0):∃ v:Nat,((Builtin.Int.intBits (Builtin.bitAnd (orAll a b c d) (-(orAll a b c d))):Nat):Int)-1=v/\((2:Int)^v ∣ a/\(2:Int)^v ∣ b/\(2:Int)^v ∣ c/\(2:Int)^v ∣ d) ∧
  ¬ ((2:Int)^(v+1) ∣ a/\(2:Int)^(v+1) ∣ b/\(2:Int)^(v+1) ∣ c/\(2:Int)^(v+1) ∣ d):=by
 obtain⟨v,q,e,o,bb⟩:=Bt.Z8t _ (orAll a b c d) (q3b _) hp
 refine⟨v,by rw[bb,Bt.Z9d];omega,orAll_dvd.mp ⟨q,e⟩,λh=>?_⟩
 have h':=orAll_dvd.mpr h
 obtain⟨k,hk⟩:=h'
 rw[e,q6s,q7m] at hk
 have:=Int.eq_of_mul_eq_mul_left (q6t (q8i (by decide):(0:Int)<2^v)) hk
 omega
theorem Z6q {x h m:Int}(hm:0<=m)(hmh:m<=h)(hd:(2:Int)^m.toNat ∣ x):Eq2 x h (x / 2^m.toNat) (h-m)/\(x / 2^m.toNat).natAbs<=x.natAbs:=by
 obtain⟨k,rfl⟩:=hd
 have hne:(2:Int)^m.toNat≠0:=Z9w m
 rw[q7c _ hne]
 constructor
 ·unfold Eq2
  rw[Z6c hm hmh]
  show 2^m.toNat*k*p2 (h-m)=k*(p2 (h-m)*2^m.toNat)
  grind
 ·rw[Int.natAbs_mul]
  exact Nat.le_mul_of_pos_left _ (by omega)
theorem Y3r {x:Int}{m v:Nat}(h:m<=v)(hd:(2:Int)^v ∣ x):(2:Int)^m ∣ x:=by
 obtain⟨k,rfl⟩:=hd
 refine⟨2^(v-m)*k,?_⟩
 rw[<-q7m,<-Int.pow_add,show m+(v-m)=v by omega]
theorem halve {a b c d h:Int}(hh:0<=h){v:Nat}(hd:(2:Int)^v ∣ a/\(2:Int)^v ∣ b/\(2:Int)^v ∣ c/\(2:Int)^v ∣ d)
  (hn:¬ ((2:Int)^(v+1) ∣ a/\(2:Int)^(v+1) ∣ b/\(2:Int)^(v+1) ∣ c/\(2:Int)^(v+1) ∣ d)) {m:Int} (hm:m=if h<v then h else v) :
  0<=m/\m<=h/\Amt (a / 2^m.toNat) (b / 2^m.toNat) (c / 2^m.toNat) (d / 2^m.toNat) (h-m)/\Same4 a b c d h (a / 2^m.toNat) (b / 2^m.toNat) (c / 2^m.toNat) (d / 2^m.toNat) (h-m) ∧
  ((a / 2^m.toNat).natAbs<=a.natAbs/\(b / 2^m.toNat).natAbs<=b.natAbs/\(c / 2^m.toNat).natAbs<=c.natAbs/\(d / 2^m.toNat).natAbs<=d.natAbs):=by
 have m0:0<=m:=by rw[hm];split<;>omega
 have m1:m<=h:=by rw[hm];split<;>omega
 have mv:m.toNat<=v:=by rw[hm];split<;>omega
 obtain⟨d1,d2,d3,d4⟩:=hd
 have q1:=Z6q m0 m1 (Y3r mv d1)
 have q2:=Z6q m0 m1 (Y3r mv d2)
 have q3:=Z6q m0 m1 (Y3r mv d3)
 have q4:=Z6q m0 m1 (Y3r mv d4)
 refine⟨m0,m1,⟨by omega,?_⟩,⟨q1.1,q2.1,q3.1,q4.1⟩,q1.2,q2.2,q3.2,q4.2⟩
 by_cases hlt:h<v
 ·left
  rw[hm,if_pos hlt]
  omega
 ·right
  have hmv:m.toNat=v:=by rw[hm,if_neg hlt];omega
  rw[hmv]
  have tail:∀ x:Int,(2:Int)^v ∣ x->¬ (x / 2^v)%2=1->(2:Int)^(v+1) ∣ x:=by
   rintro x ⟨k,rfl⟩ ho
   have hne:(2:Int)^v≠0:=q6t (q8i (by decide))
   rw[q7c _ hne] at ho
   refine⟨k / 2,?_⟩
   rw[q6s,q7m]
   congr 1
   omega
  apply Classical.byContradiction
  intro hno
  apply hn
  refine⟨tail a d1 λo=>hno (.inl o),tail b d2 λo=>hno (.inr (.inl o)),tail c d3 λo=>hno (.inr (.inr (.inl o))),tail d d4 λo=>hno (.inr (.inr (.inr o)))⟩
end Am
namespace Pc
noncomputable def pc (n:Nat):Nat:=if h:n=0 then 0 else n%2+pc (n / 2)
theorem Z1x:pc 0=0:=by unfold pc;simp
theorem Z4a (n:Nat):pc n=n%2+pc (n / 2):=by
 by_cases h:n=0
 ·subst h;rw[show (0 / 2:Nat)=0 from rfl,Z1x]
 ·conv=>lhs;unfold pc
  rw[dif_neg h]
theorem Z3o (x y:Nat):(x^^^y)=2*((x / 2)^^^(y / 2))+(x%2+y%2)%2:=by
 have h1:(x^^^y) / 2=(x / 2)^^^(y / 2):=Nat.xor_div_two
 have h2:(x^^^y)%2=(x%2+y%2)%2:=by
  have:=Nat.xor_mod_two_eq_one (a:=x) (b:=y)
  rcases q0z x with a | a<;>rcases q0z y with b | b<;>rcases q0z (x^^^y) with c | c<;>simp[a,b,c] at this ⊢
 omega
theorem Y1a:∀ (m n:Nat),n<m->n≠0->pc (n&&&(n-1))+1=pc n
 | 0,n,h,_=>by omega
 | m+1,n,h,hn=>by
  have e:=Bt.Y1k n (n-1)
  rw[Z4a n,Z4a (n&&&(n-1))]
  rcases q0z n with a | a
  ·have e1:(n-1) / 2=n / 2-1:=by omega
   rw[e1,a,q8q] at e
   have e2:(n&&&(n-1)) / 2=n / 2&&&(n / 2-1):=by omega
   have e3:(n&&&(n-1))%2=0:=by omega
   rw[e2,e3,a]
   have:=Y1a m (n / 2) (by omega) (by omega)
   omega
  ·have e1:(n-1) / 2=n / 2:=by omega
   have e0:(n-1)%2=0:=by omega
   rw[e1,e0,q8u,Nat.and_self] at e
   have e2:(n&&&(n-1)) / 2=n / 2:=by omega
   have e3:(n&&&(n-1))%2=0:=by omega
   rw[e2,e3,a]
   omega
theorem X2q:∀ (m x y:Nat),x<m->y<m->pc (x^^^y)%2=(pc x+pc y)%2
 | 0,x,y,h,_=>by omega
 | m+1,x,y,hx,hy=>by
  by_cases z:x=0/\y=0
  ·obtain⟨rfl,rfl⟩:=z
   rw[show (0^^^0:Nat)=0 from rfl,Z1x]
  ·have e:=Z3o x y
   rw[Z4a (x^^^y),Z4a x,Z4a y,show (x^^^y) / 2=x / 2^^^y / 2 by omega]
   by_cases q:x / 2<m/\y / 2<m
   ·have:=X2q m (x / 2) (y / 2) q.1 q.2
    omega
   ·exfalso;omega
theorem pcx (x y:Nat):pc (x^^^y)%2=(pc x+pc y)%2:=X2q (x+y+1) x y (by omega) (by omega)
theorem Y6v:∀ (m x y:Nat),x<m->y<m->(x ||| y)=(x^^^y)+(x&&&y)
 | 0,x,y,h,_=>by omega
 | m+1,x,y,hx,hy=>by
  by_cases z:x=0/\y=0
  ·obtain⟨rfl,rfl⟩:=z;rfl
  ·have e:=Z3o x y
   have e1:=Bt.Y1k x y
   have e2:=Bt.X9d x y
   by_cases q:x / 2<m/\y / 2<m
   ·have:=Y6v m (x / 2) (y / 2) q.1 q.2
    rcases q0z x with a | a<;>rcases q0z y with b | b<;>rw[a,b] at e e1 e2<;>omega
   ·exfalso;omega
theorem Z3t (x y:Nat):Builtin.bitAnd (x:Int) (y:Int)=((x&&&y:Nat):Int):=by rw[bitAnd_pp (by omega) (by omega)];simp
theorem Z3u (x y:Nat):Builtin.bitXor (x:Int) (y:Int)=((x^^^y:Nat):Int):=by
 have h:Builtin.bitXor (x:Int) (y:Int)=Builtin.bitOr x y-Builtin.bitAnd x y:=rfl
 have h2:Builtin.bitOr (x:Int) (y:Int)=((x ||| y:Nat):Int):=by
  unfold Builtin.bitOr
  rw[bitAnd_nn (by unfold Builtin.bitNot;omega) (by unfold Builtin.bitNot;omega),q7f,q7f,q7f]
  simp
 rw[h,h2,Z3t,Y6v (x+y+1) x y (by omega) (by omega)]
 omega
end Pc
namespace L2
theorem Same.tup {K:U0}{H H':Hp}{a:W9}{xs:List V}(e:Same H H')(h:SqT K H a xs):SqT K H' a xs:=by
 rcases h with h | h
 ·rcases h with h | ⟨o,h⟩
  ·exact .inl (.inl (e _ _ h))
  ·exact .inl (.inr ⟨o,e _ _ h⟩)
 ·exact .inr h
theorem Same.sqx {t:Bool}{K:U0}{H H':Hp}{a:W9}{xs:List V}(e:Same H H')(h:SqX t K H a xs):SqX t K H' a xs:=by
 cases t
 ·exact e.seq (show SqL K H a xs from h)
 ·exact e.tup (show SqT K H a xs from h)
section
variable {X:Cx}{scope:Scope}{Nc:W0}{ex:U3}{pins:U1}{s:U7}{H:Hp}
theorem Y3m:IxR (cxLc X scope Nc ex pins s H) (rIxL X.K):=Z1k
theorem Z4e:IxR (cxLc X scope Nc ex pins s H) (rIxT X.K):=Z0i
theorem Z4h {x y:Str}{k:Nat}{p1 p2 pos:Pos}(hc:(cxLc X scope Nc ex pins s H).calm=true)(hN:Nc.Nodup)(h0:Nc[0]?=some x)(h1:Nc[1]?=some y)(l0:(cxLc X scope Nc ex pins s H).env.scope.names.lookup x=some .local)(l1:(cxLc X scope Nc ex pins s H).env.scope.names.lookup y=some .local) :
  PG (cxLc X scope Nc ex pins s H) (.Tuple [.Name x p1,.Name y p2] k pos) (gTup X.K 2 (gCons (gName 0) (gCons (gName 1) gNil))) :=
 Z9v (X:=cxLc X scope Nc ex pins s H) hc (Z2m (Z0t (i:=0) hN h0 (.inl l0) (.inr l0)) (Z2m (Z0t (i:=1) hN h1 (.inl l1) (.inr l1)) Z7d))
end
theorem X5y {t1 t2:Bool}{K:U0}{l1 l2:W9}{g:TG}{ns ms:U6}{te:TE}{fr:St}{H1:Hp}{acc:W9}{Q:VK}(f:Int->Int->Int)(hxy:ns.length=ms.length)(hn:ns.length<=sizeLine)
  (h1:SqX t1 K H1 l1 (ns.map V.int)) (h2:SqX t2 K H1 l2 (ms.map V.int)) (hacc:H1 acc=none)
  (hg:∀ {a:W9}{x y:V}{w1 w2:Option V}{H:Hp}{Q:St->Hp->Prop},H a=some (.tup [x,y])->Q (some x::some y::fr) H->g (.ref a) (w1::w2::fr) H Q)
  (hs:∀ n m H (N:V->Hp->Prop),n∈ns->m∈ms->N (.int (f n m)) H->te (some (.int n)::some (.int m)::fr) H N)
  (hd:∀ H2,Same H1 H2->H2 acc=some (.lst ((List.zipWith f ns ms).map V.int))->Q (.ref acc) H2):LcW (Itz t1 t2 K l1 l2) g te (none::none::fr) H1 acc Q:=by
 refine X9l (xs:=ns.map V.int) (ys:=ms.map V.int) (λi zs H'=>Same H1 H'/\H' acc=some (.lst zs)/\zs=((List.zipWith f ns ms).take i).map V.int) (by simp[hxy]) (by simp;exact hn)
  ⟨Z0f hacc _,Z0d,U⟩ (λha hQ=>hg ha hQ) (λi zs H p=>⟨p.1.sqx h1,p.1.sqx h2⟩) ?_ ?_
 ·rintro i x y zs H T N hx hy hl ⟨s2,a2,e2⟩ hT kN
  rw[q0g] at hx hy
  obtain⟨n,hn1,rfl⟩:=q0p.mp hx
  obtain⟨m,hm1,rfl⟩:=q0p.mp hy
  refine hs n m _ _ (q1g hn1) (q1g hm1) ?_
  have hTa:acc≠T:=λe=>by rw[<-e,a2] at hT;cases hT
  refine kN _ _ (by rw[Z0u hTa];exact a2) ⟨Z0v (s2.trans (Z0f hT _)) hacc,Z0d,?_⟩
  have:(List.zipWith f ns ms)[i]?=some (f n m):=by rw[List.getElem?_zipWith,hn1,hm1]
  rw[q1s,this,q0i,e2]
  rfl
 ·rintro zs H hl ⟨s2,a2,e2⟩
  refine hd H s2 ?_
  rw[a2,e2,q5v]
  simp only[List.length_zipWith,q0a]
  omega
section
variable {K:U0}{a:W9}{ns:U6}{te:TE}{fr:St}{H1:Hp}{acc:W9}{Q:VK}
theorem Y7w {J:It}{n:Nat}{val:Nat->V}(f:Nat->V)(hn:n<=sizeLine)(hacc:H1 acc=none)
  (hgo:∀ i H,i<n->Same H1 H->J.go i H/\∀ x H',J.yld i H x H'->H'=H/\x=val i) (hst:∀ H,Same H1 H->J.stop n H)
  (hs:∀ i H (N:V->Hp->Prop),i<n->Same H1 H->N (f i) H->te (some (val i)::fr) H N)
  (hd:∀ H2,Same H1 H2->H2 acc=some (.lst ((List.range n).map f))->Q (.ref acc) H2):LcW J (gName 0) te (none::fr) H1 acc Q:=by
 refine X1d (val:=val) (λi ys H'=>Same H1 H'/\H' acc=some (.lst ys)/\ys=(List.range i).map f) hn ⟨Z0f hacc _,Z0d,U⟩ (λi ys H hi p=>hgo i H hi p.1) (λys H p=>hst H p.1) ?_ ?_
 ·rintro i ys H N hi hl ⟨s2,a2,e2⟩ kN
  refine hs i H N hi s2 (kN _ _ a2 ⟨Z0v s2 hacc,Z0d,?_⟩)
  rw[e2,q4q,q0i]
  rfl
 ·rintro ys H hl ⟨s2,a2,e2⟩
  exact hd H s2 (by rw[a2,e2])
theorem Z9s (ns:U6)(f:Int->V):(List.range ns.length).map (λi=>f (ns.getD i 0))=ns.map f:=by
 apply List.ext_getElem
 ·simp
 ·intro i h1 h2
  simp at h1
  simp[h1]
end
section
variable {X:Cx}
end
theorem X1c {K:U0}{a:W9}{ns:U6}{te:TE}{fr:St}{H1:Hp}{acc:W9}{Q:VK}(f:Int->V)(hl:SqL K H1 a (ns.map V.int))(hn:ns.length<=sizeLine)(hacc:H1 acc=none)(hs:∀ n H (N:V->Hp->Prop),n∈ns->Same H1 H->N (f n) H->te (some (.int n)::fr) H N)
  (hd:∀ H2,Same H1 H2->H2 acc=some (.lst (ns.map f))->Q (.ref acc) H2):LcW (Itl K a) (gName 0) te (none::fr) H1 acc Q:=by
 refine Y7w (n:=ns.length) (val:=λi=>.int (ns.getD i 0)) (λi=>f (ns.getD i 0)) hn hacc (λi H hi s=>?_) (λH s=>⟨_,s.seq hl,by simp⟩) (λi H N hi s kN=>hs _ H N (by simp[hi]) s kN) (λH2 s h=>hd H2 s (by rw[h,Z9s]))
 have e:(ns.map V.int)[i]?=some (.int (ns.getD i 0)):=by simp[hi]
 refine⟨⟨_,_,s.seq hl,e⟩,λx H' y=>⟨y.1,?_⟩⟩
 have:=y.2 _ (s.seq hl)
 rw[e] at this
 exact(Option.some.inj this).symm
section
variable {κ:Type} [DecidableEq κ]
noncomputable def valV (kvs:List (κ × V))(k:κ):Option V:=(kvs.find? λkv=>decide (kv.1=k)).map (·.2)
noncomputable def putK (kvs:List (κ × V))(k:κ)(v:V):List (κ × V) :=
 if (kvs.any λkv=>decide (kv.1=k))=true then kvs.map (λkv=>if kv.1=k then (kv.1,v) else kv) else kvs++[(k,v)]
theorem Y9i {k:κ}:valV ([]:List (κ × V)) k=none:=rfl
theorem Z1o {p:κ × V}{r:List (κ × V)}{k:κ}(e:p.1=k):valV (p::r) k=some p.2:=by simp[valV,q4s,e]
theorem Z1t {p:κ × V}{r:List (κ × V)}{k:κ}(e:¬ p.1=k):valV (p::r) k=valV r k:=by simp[valV,q4s,e]
theorem Z3l (k:κ):∀ kvs:List (κ × V),(kvs.any λkv=>decide (kv.1=k))=(valV kvs k).isSome
 | []=>rfl
 | p::r=>by
  rw[q5s]
  by_cases e:p.1=k
  ·simp only[Z1o e,q0q e,Bool.true_or,Option.isSome_some]
  ·rw[Z1t e,q0k e,q4x];exact Z3l k r
theorem Y2h (k j:κ)(y:V):∀ kvs:List (κ × V),valV (kvs.map λkv=>if kv.1=k then (kv.1,y) else kv) j=(valV kvs j).map λx=>if j=k then y else x
 | []=>rfl
 | p::r=>by
  have ih:=Y2h k j y r
  rw[q1v]
  by_cases h:p.1=k
  ·rw[if_pos h]
   by_cases e:p.1=j
   ·rw[Z1o (p:=(p.1,y)) e,Z1o e,q6h,if_pos (e.symm.trans h)]
   ·rw[Z1t (p:=(p.1,y)) e,Z1t e,ih]
  ·rw[if_neg h]
   by_cases e:p.1=j
   ·rw[Z1o (p:=p) e,Z1o e,q6h,if_neg (λz=>h (e.trans z))]
   ·rw[Z1t (p:=p) e,Z1t e,ih]
theorem Z9h (k j:κ)(y:V):∀ kvs:List (κ × V),valV kvs k=none->valV (kvs++[(k,y)]) j=if j=k then some y else valV kvs j
 | [],_=>by
  by_cases e:k=j
  ·rw[if_pos e.symm];exact Z1o (p:=(k,y)) e
  ·rw[if_neg (λz=>e z.symm)];exact Z1t (p:=(k,y)) e
 | p::r,hn=>by
  rw[List.cons_append]
  have hk:¬ p.1=k:=λz=>by rw[Z1o z] at hn;cases hn
  rw[Z1t hk] at hn
  have ih:=Z9h k j y r hn
  by_cases e:p.1=j
  ·rw[Z1o e,Z1o e,if_neg (λz=>hk (e.trans z))]
  ·rw[Z1t e,Z1t e,ih]
theorem Z8h (kvs:List (κ × V))(k j:κ)(y:V):valV (putK kvs k y) j=if j=k then some y else valV kvs j:=by
 unfold putK
 by_cases a:(kvs.any λkv=>decide (kv.1=k))=true
 ·rw[if_pos a,Y2h]
  rw[Z3l] at a
  by_cases e:j=k
  ·obtain⟨x,hx⟩:=q5k.mp a
   rw[if_pos e,e,hx,q6h,if_pos rfl]
  ·rw[if_neg e]
   cases valV kvs j with
   | none=>rfl
   | some x=>rw[q6h,if_neg e]
 ·rw[if_neg a]
  refine Z9h k j y kvs ?_
  rw[Z3l] at a
  cases q:valV kvs k with
  | none=>rfl
  | some x=>rw[q] at a;exact(a rfl).elim
theorem Z4r (kvs:List (κ × V))(k:κ)(v:V):(putK kvs k v).length<=kvs.length+1:=by
 unfold putK
 split
 ·rw[q0a];omega
 ·rw[q0j,q2i,List.length_nil];omega
theorem Y9u {kvs:List (κ × V)}{k:κ}(v:V)(h:valV kvs k=none):putK kvs k v=kvs++[(k,v)]:=by
 unfold putK
 rw[Z3l,h]
 exact if_neg (by decide)
theorem RelO.isSome_eq {o:Option V}{u:Option Value}(r:RelO o u):o.isSome=u.isSome:=by
 cases o with
 | none=>cases u with
  | none=>rfl
  | some _=>exact(show False from r).elim
 | some _=>cases u with
  | none=>exact(show False from r).elim
  | some _=>rfl
theorem KV.val {kvs:List (κ × V)}{vs:List (κ × Value)}(r:KV kvs vs)(k:κ):RelO (valV kvs k) (valueAt vs k):=by
 unfold KV at r
 induction r with
 | nil=>exact True.intro
 | @cons p q ps qs h t ih =>
  obtain⟨h1,h2⟩:=h
  by_cases e:p.1=k
  ·have e':q.1=k:=h1.symm.trans e
   have b:valueAt (q::qs) k=some q.2:=by simp[valueAt,q4s,e']
   rw[Z1o e,b];exact h2
  ·have e':¬ q.1=k:=λz=>e (h1.trans z)
   have b:valueAt (q::qs) k=valueAt qs k:=by simp[valueAt,q4s,e']
   rw[Z1t e,b];exact ih
theorem KV.any {kvs:List (κ × V)}{vs:List (κ × Value)}(r:KV kvs vs)(k:κ):(kvs.any λkv=>decide (kv.1=k))=vs.any λkv=>decide (kv.1=k):=by
 unfold KV at r
 induction r with
 | nil=>rfl
 | cons h t ih=>rw[q5s,q5s,ih,h.1]
theorem KV.repl {kvs:List (κ × V)}{vs:List (κ × Value)}(r:KV kvs vs)(k:κ){y:V}{u:W2}(ry:RelV y u) :
  KV (kvs.map λkv=>if kv.1=k then (kv.1,y) else kv) (vs.map λkv=>if kv.1=k then (kv.1,u) else kv):=by
 unfold KV at r ⊢
 induction r with
 | nil=>exact .nil
 | @cons p q ps qs h t ih =>
  rw[q1v,q1v]
  refine .cons ?_ ih
  obtain⟨h1,h2⟩:=h
  by_cases e:p.1=k
  ·rw[if_pos e,if_pos (h1.symm.trans e)];exact⟨h1,ry⟩
  ·rw[if_neg e,if_neg (λz=>e (h1.trans z))];exact⟨h1,h2⟩
theorem KV.put {kvs:List (κ × V)}{vs:List (κ × Value)}(r:KV kvs vs)(k:κ){y:V}{u:W2}(ry:RelV y u):KV (putK kvs k y) (stored vs k u):=by
 unfold putK stored
 rw[r.any k]
 by_cases e:(vs.any λkv=>decide (kv.1=k))=true
 ·rw[if_pos e,if_pos e];exact r.repl k ry
 ·rw[if_neg e,if_neg e];exact Paired.snoc r ⟨U,ry⟩
theorem KV.keys {kvs:List (κ × V)}{vs:List (κ × Value)}(r:KV kvs vs):kvs.map (·.1)=vs.map (·.1):=by
 unfold KV at r
 induction r with
 | nil=>rfl
 | cons h t ih=>rw[q1v,q1v,ih,h.1]
theorem KV.length {kvs:List (κ × V)}{vs:List (κ × Value)}(r:KV kvs vs):kvs.length=vs.length:=Paired.length r
end
theorem Y1s {P:U8}{w:W1}{k:Key}{u:W2}(r:RelV (kV k) u):(Z1q P w).is k u=true:=by
 cases k with
 | inl i=>obtain⟨t,e⟩:=(show ∃ t,u=Value.int i t from r);subst e;exact Y1p P w i t
 | inr x=>obtain⟨t,e⟩:=(show ∃ t,u=Value.str x t from r);subst e;exact Y1o P w x t
theorem Y0d {P:U8}{w:W1}:∀ {ks:List Key}{us:U5},Vals (ks.map kV) us->ItemsAre (Z1q P w) ks us
 | [],_,r=>by rw[q8x] at r;cases r;exact .nil
 | k::ks,_,r=>by
  rw[q1v] at r
  cases r with
  | cons h t=>exact .cons (Y1s h) (Y0d t)
abbrev KT (H:Hp):List (List Key × V)->List (List Key × Addr × Value)->Prop:=Paired λp q=>p.1=q.1/\H q.2.1=some (.tup (p.1.map kV))/\RelV p.2 q.2.2
theorem KT.val {H:Hp}{kvs:List (List Key × V)}{xs:List (List Key × Addr × Value)}(r:KT H kvs xs)(k:List Key):RelO (valV kvs k) ((atKey xs k).map (·.2)):=by
 induction r with
 | nil=>exact True.intro
 | @cons p q ps qs h t ih =>
  obtain⟨h1,_,h2⟩:=h
  by_cases e:p.1=k
  ·have e':q.1=k:=h1.symm.trans e
   have b:atKey (q::qs) k=some q.2:=by simp[atKey,q4s,e']
   rw[Z1o e,b];exact h2
  ·have e':¬ q.1=k:=λz=>e (h1.trans z)
   have b:atKey (q::qs) k=atKey qs k:=by simp[atKey,q4s,e']
   rw[Z1t e,b];exact ih
theorem KT.repl {H:Hp}{kvs:List (List Key × V)}{xs:List (List Key × Addr × Value)}(r:KT H kvs xs)(k:List Key){y:V}{u:W2}(ry:RelV y u) :
  KT H (kvs.map λkv=>if kv.1=k then (kv.1,y) else kv) (xs.map (putAt k u)):=by
 induction r with
 | nil=>exact .nil
 | @cons p q ps qs h t ih =>
  rw[q1v,q1v]
  refine .cons ?_ ih
  obtain⟨h1,h2,h3⟩:=h
  unfold putAt
  by_cases e:p.1=k
  ·rw[if_pos e,if_pos (h1.symm.trans e)];exact⟨h1,h2,ry⟩
  ·rw[if_neg e,if_neg (λz=>e (h1.trans z))];exact⟨h1,h2,h3⟩
theorem KT.put {H:Hp}{kvs:List (List Key × V)}{xs:List (List Key × Addr × Value)}(r:KT H kvs xs)(k:List Key){b:W9}{y:V}{u:W2}(hb:H b=some (.tup (k.map kV)))(ry:RelV y u) :
  KT H (putK kvs k y) (storedH xs k b u):=by
 have e:(kvs.any λkv=>decide (kv.1=k))=(atKey xs k).isSome:=by
  rw[Z3l,(r.val k).isSome_eq,q7a]
 unfold putK storedH
 rw[e]
 by_cases q:(atKey xs k).isSome=true
 ·rw[if_pos q,if_pos q];exact r.repl k ry
 ·rw[if_neg q,if_neg q];exact Paired.snoc r ⟨U,hb,ry⟩
theorem KT.keeps {H H':Hp}{kvs:List (List Key × V)}{xs:List (List Key × Addr × Value)}(r:KT H kvs xs)(ht:∀ b ys,H b=some (.tup ys)->H' b=some (.tup ys)):KT H' kvs xs :=
 Paired.mapP r λ_ _ z=>⟨z.1,ht _ _ z.2.1,z.2.2⟩
section
variable {P:U8}{w:W1}{H:Hp}{h:Heap}{a:W9}
theorem X8d {u:HO}(ok:HOk P w H h)(e:Rd H a u):ObjOk P w H h a u:=e.ok ok
theorem Y8j {kvs:List (Key × V)}(ok:HOk P w H h)(e:Rd H a (.dK kvs)):kvs.length<=sizeLine/\(a == sysModules)=false/\∃ vs,KV kvs vs/\h.DictOf (Z1q P w) a vs :=
 show ObjOk P w H h a (.dK kvs) from X8d ok e
theorem W0p {kvs:List (Key × V)}(ok:HOk P w H h)(e:H a=some (.dK kvs)):kvs.length<=sizeLine/\(a == sysModules)=false/\∃ vs,KV kvs vs/\h.DictOf (Z1q P w) a vs:=Y8j ok (.inl e)
theorem Z8b {ks:List Key}(ok:HOk P w H h)(e:H a=some (.tup (ks.map kV))):(tupleKind (Z1q P w)).is h ks a:=by
 obtain⟨_,its,r,o,h1,h2,n,h3⟩:=(show ObjOk P w H h a (.tup (ks.map kV)) from ok a _ e)
 exact⟨o,its.toArray,n,h1,h2,h3,by simpa using Y0d r⟩
theorem Y8i {kvs:List (List Key × V)}(ok:HOk P w H h)(e:Rd H a (.dT kvs)):kvs.length<=sizeLine/\(a == sysModules)=false ∧
  ∃ xs,KT H kvs xs/\h.DictOfH (tupleKind (Z1q P w)) a xs:=by
 obtain⟨z,y,xs,r,o,es,ep,h1,h2,h3,h4,h5⟩:=(show ObjOk P w H h a (.dT kvs) from X8d ok e)
 refine⟨z,y,xs,r,o,es,ep,h1,h2,h3,h4,λx hx=>?_,h5⟩
 have all:∀ {l:List (List Key × V)}{m:List (List Key × Addr × Value)},KT H l m->∀ x∈m,(tupleKind (Z1q P w)).is h x.1 x.2.1:=by
  intro l m q
  induction q with
  | nil=>intro x hx;exact nomatch hx
  | @cons p q ps qs hq t ih =>
   intro x hx
   rcases q0s.mp hx with e | hx
   ·subst e
    exact Z8b ok (by rw[<-hq.1];exact hq.2.1)
   ·exact ih x hx
 exact all r x hx
theorem W0o {kvs:List (List Key × V)}(ok:HOk P w H h)(e:H a=some (.dT kvs)):kvs.length<=sizeLine/\(a == sysModules)=false ∧
  ∃ xs,KT H kvs xs/\h.DictOfH (tupleKind (Z1q P w)) a xs:=Y8i ok (.inl e)
end
def DGet (H:Hp)(a:W9)(y:V)(r:Option V):Prop :=
 (∃ kvs k,Rd H a (.dK kvs)/\y=kV k/\r=valV kvs k)∨∃ kvs k b,Rd H a (.dT kvs)/\y=.ref b/\H b=some (.tup (k.map kV))/\r=valV kvs k
def DPut (H:Hp)(a:W9)(y v:V)(H':Hp):Prop :=
 (∃ kvs k,H a=some (.dK kvs)/\y=kV k/\kvs.length<sizeLine/\H'=upd H a (.dK (putK kvs k v))) ∨
 ∃ kvs k b,H a=some (.dT kvs)/\y=.ref b/\H b=some (.tup (k.map kV))/\kvs.length<sizeLine/\H'=upd H a (.dT (putK kvs k v))
theorem DGet.k {H:Hp}{a:W9}{kvs:List (Key × V)}{k:Key}(e:H a=some (.dK kvs)):DGet H a (kV k) (valV kvs k):=.inl ⟨kvs,k,.inl e,U,U⟩
theorem DGet.t {H:Hp}{a b:W9}{kvs:List (List Key × V)}{k:List Key}(e:H a=some (.dT kvs))(eb:H b=some (.tup (k.map kV))):DGet H a (.ref b) (valV kvs k):=.inr ⟨kvs,k,b,.inl e,U,eb,U⟩
theorem DPut.k {H:Hp}{a:W9}{kvs:List (Key × V)}{k:Key}{v:V}(e:H a=some (.dK kvs))(hl:kvs.length<sizeLine):DPut H a (kV k) v (upd H a (.dK (putK kvs k v))):=.inl ⟨kvs,k,e,U,hl,U⟩
theorem DPut.t {H:Hp}{a b:W9}{kvs:List (List Key × V)}{k:List Key}{v:V}(e:H a=some (.dT kvs))(eb:H b=some (.tup (k.map kV)))(hl:kvs.length<sizeLine) :
  DPut H a (.ref b) v (upd H a (.dT (putK kvs k v))):=.inr ⟨kvs,k,b,e,U,eb,hl,U⟩
section
variable {X:Cx}{pins:U1}{σ:St}{H:Hp}{s:U7}{a:W9}{y v:V}{u r:W2}{o:Option V}{A:W6}{E:U2}
theorem Inv.big (I:Inv X pins σ H s):sysModules<s.heap.objs.size:=by
 have h:mainGlobals<s.heap.objs.size:=(I.mod.glob.keeps I.bk).lt
 exact q5l (by decide) h
theorem Y8o {Q:U2}(hu:A.units+1<cLine)(I:Inv X pins σ H s)(g:DGet H a y (some v))(ry:RelV y u)(h:∀ w' s',Inv X pins σ H s'->RelV v w'->Q w' s') :
  wpAny (model X.prog X.w) A (getItem (.ref a) u) Q E s:=by
 rcases g with ⟨kvs,k,e,ey,l⟩ | ⟨kvs,k,b,e,ey,eb,l⟩
 ·subst ey
  obtain⟨z,hd,vs,rel,dd⟩:=Y8j I.hok e
  obtain⟨w',hw,rw'⟩:=RelO.some_of (v:=v) (o:=valueAt vs k) (by rw[l];exact rel.val k)
  exact wpAny_getItem_of (Y1s ry) dd.mapOf hw (h w' _ (I.tok _) rw')
 ·subst ey
  cases (show u=Value.ref b from ry)
  obtain⟨z,hd,xs,rel,dd⟩:=Y8i I.hok e
  obtain⟨w',hw,rw'⟩:=RelO.some_of (v:=v) (o:=(atKey xs k).map (·.2)) (by rw[l];exact rel.val k)
  obtain⟨p,hp,hp2⟩:=q0p.mp hw
  refine wpAny_getItem_heap (q5p hu) (Z8b I.hok eb) dd hp ?_
  rw[hp2]
  exact h w' _ (I.tok _) rw'
theorem d_in {Q:U2}(hu:A.units+1<cLine)(I:Inv X pins σ H s)(g:DGet H a y o)(ry:RelV y u)(h:∀ s',Inv X pins σ H s'->Q (.bool o.isSome) s') :
  wpAny (model X.prog X.w) A (compareOp .In u (.ref a)) Q E s:=by
 rcases g with ⟨kvs,k,e,ey,l⟩ | ⟨kvs,k,b,e,ey,eb,l⟩
 ·subst ey
  obtain⟨z,hd,vs,rel,dd⟩:=Y8j I.hok e
  refine wpAny_in_of (Y1s ry) hd dd.mapOf ?_
  rw[<-(rel.val k).isSome_eq,<-l]
  exact h _ (I.tok _)
 ·subst ey
  cases (show u=Value.ref b from ry)
  obtain⟨z,hd,xs,rel,dd⟩:=Y8i I.hok e
  refine wpAny_in_heap (q5p hu) (Z8b I.hok eb) hd dd ?_
  have q:=(rel.val k).isSome_eq
  rw[q7a] at q
  rw[<-q,<-l]
  exact h _ (I.tok _)
theorem X6o {Q:U2}(hu:A.units+1<cLine)(I:Inv X pins σ H s)(g:DGet H a y o)(ry:RelV y u)(h:∀ s',Inv X pins σ H s'->Q (.bool (!o.isSome)) s') :
  wpAny (model X.prog X.w) A (compareOp .NotIn u (.ref a)) Q E s:=by
 rcases g with ⟨kvs,k,e,ey,l⟩ | ⟨kvs,k,b,e,ey,eb,l⟩
 ·subst ey
  obtain⟨z,hd,vs,rel,dd⟩:=Y8j I.hok e
  refine wpAny_notIn_of (Y1s ry) hd dd.mapOf ?_
  rw[<-(rel.val k).isSome_eq,<-l]
  exact h _ (I.tok _)
 ·subst ey
  cases (show u=Value.ref b from ry)
  obtain⟨z,hd,xs,rel,dd⟩:=Y8i I.hok e
  refine wpAny_notIn_heap (q5p hu) (Z8b I.hok eb) hd dd ?_
  have q:=(rel.val k).isSome_eq
  rw[q7a] at q
  rw[<-q,<-l]
  exact h _ (I.tok _)
theorem Y1x {h':Heap}{t':Nat}{ob:HO}(I:Inv X pins σ H s)(mu:Mut (H a))(hs:Heap.SameBut a s.heap h')(he:∃ q,h'.get? a=some q)(new:ObjOk X.prog X.w (upd H a ob) h' a ob) :
  Inv X pins σ (upd H a ob) { s with heap:=h',toks:=t' } :=
 I.write (x:=a) (e:=a) mu (.inl rfl) (λb q hb z=>(hs.2 b hb).trans z) he new
theorem W0q {P:U8}{w:W1}{H':Hp}{h':Heap}{kvs:List (Key × V)}{vs:List (Key × Value)}(z:kvs.length<=sizeLine)(hd:(a == sysModules)=false)(rel:KV kvs vs)(dd:h'.DictOf (Z1q P w) a vs) :
  ObjOk P w H' h' a (.dK kvs):=⟨z,hd,vs,rel,dd⟩
theorem Y8n {H':Hp}{Q:Unit->Shared->Prop}(hu:A.units+1<cLine)(I:Inv X pins σ H s)(g:DPut H a y v H')(ry:RelV y u)(rv:RelV v r)(h:∀ s',Inv X pins σ H' s'->Q () s') :
  wpAny (model X.prog X.w) A (setItem (.ref a) u r) Q E s:=by
 rcases g with ⟨kvs,k,e,ey,l,eH⟩ | ⟨kvs,k,b,e,ey,eb,l,eH⟩
 ·subst ey eH
  obtain⟨z,hd,vs,rel,dd⟩:=W0p I.hok e
  have hz:vs.length<=sizeLine:=by rw[<-rel.length];exact z
  have hl:(putK kvs k v).length<=sizeLine:=by have:=Z4r kvs k v;omega
  refine wpAny_setItem_pairs (hsz:=hz) (Y1s ry) dd λh' dd' hs=>h _ ?_
  have he:∃ q,h'.get? a=some q:=let ⟨q,_,_,hq,_⟩:=dd';⟨q,hq⟩
  exact Y1x I (by rw[e];exact True.intro) hs he (W0q hl hd (rel.put k rv) dd')
 ·subst ey eH
  cases (show u=Value.ref b from ry)
  obtain⟨z,hd,xs,rel,dd⟩:=W0o I.hok e
  have hz:xs.length<=sizeLine:=by rw[<-Paired.length rel];exact z
  have hl:(putK kvs k v).length<=sizeLine:=by have:=Z4r kvs k v;omega
  refine wpAny_setItem_heap (hsz:=hz) (q5p hu) (Z8b I.hok eb) dd λh' dd' hs=>h _ ?_
  obtain⟨q,es,ep,hq,h2,h3,h4,_,h5⟩:=dd'
  refine Y1x I (by rw[e];exact True.intro) hs ⟨q,hq⟩ ⟨hl,hd,_,(rel.put k eb rv).keeps λc ys ec=>?_,q,es,ep,hq,h2,h3,h4,h5⟩
  rw[Z0u (Z5f ec e (λz=>nomatch z))]
  exact ec
end
section
variable {X:Cx}{pins:U1}{σ:St}{H:Hp}{s:U7}{a:W9}{kvs:List (Key × V)}{k:Key}{u:W2}{A:W6}{E:U2}
end
def NoSl (i:Expr):Prop:=∀ ov iv,subscripted i false ov iv=operate [ov,iv] (getItem ov iv)
theorem Y5m {prog:U8}{w:W1}{A:W6}{E:U2}{s:U7}{env:Env}{value slice:Expr}{pos:Pos}{T id:String}{Q:U2}
  (hl:typeLookup (.type T) "__getitem__"=pure (some (.builtin id))) (hs:NoSl slice)
  (h:wpAny (model prog w) A (eval value env) (λo s₁=>wpAny (model prog w) A (eval slice env) (λi s₂=>s₂.TypeIs o T/\wpAny (model prog w) A (getItem o i) Q E s₂) E s₁) E s) :
  wpAny (model prog w) A (eval (.Subscript value slice pos) env) Q E s:=by
 refine Subscript_ (q1y h (λo s₁ h₁=>q1y h₁ (λi s₂ h₂=>?_) λ_ _ x=>x) λ_ _ x=>x)
 obtain⟨hT,h₂⟩:=h₂
 unfold subscriptTail
 refine q0c ?_
 rw[getitemInPython_of_ne hT.not_modules]
 refine q0c (wpAny_specialOf hT hl ?_)
 have fin:wpAny (model prog w) A (subscripted slice false o i) (λr s₃=>wpAny (model prog w) A (letTemporaryGo value o r >>= λ_=>pure r) Q E s₃) E s₂:=by
  rw[hs o i]
  exact wpAny_operating (q1y h₂ (λr s₃ h₃=>q0c (wpAny_letTemporaryGo (q0m h₃))) λ_ _ x=>x)
 first
  | exact q0m (q0c fin)
  | exact q0c (q0m (q0c fin))
  | exact q0c fin
theorem Y1w {X:Cx}{pins:U1}{σ:St}{H:Hp}{s:U7}{a:W9}{y:V}{o:Option V}(I:Inv X pins σ H s)(g:DGet H a y o):s.TypeIs (.ref a) "dict":=by
 rcases g with ⟨kvs,k,e,_,_⟩ | ⟨kvs,k,b,e,_,_,_⟩
 ·obtain⟨_,_,vs,_,dd⟩:=Y8j I.hok e
  exact dd.typeIs
 ·obtain⟨_,_,xs,_,dd⟩:=Y8i I.hok e
  exact dd.typeIs
def tDGet (td ty:TE):TE:=λσ H Q=>td σ H λx H1=>ty σ H1 λy H2=>∃ a v,x=.ref a/\DGet H2 a y (some v)/\Q v H2
def tDIn (ty td:TE):TE:=λσ H Q=>ty σ H λy H1=>td σ H1 λx H2=>∃ a o,x=.ref a/\DGet H2 a y o/\Q (.bl o.isSome) H2
def X3w (ty td:TE):TE:=λσ H Q=>ty σ H λy H1=>td σ H1 λx H2=>∃ a o,x=.ref a/\DGet H2 a y o/\Q (.bl (!o.isSome)) H2
def sDPut (td ty tv:TE):TS:=λD σ H=>tv σ H λv H1=>td σ H1 λx H2=>ty σ H2 λy H3=>∃ a H4,x=.ref a/\DPut H3 a y v H4/\D.nx σ H4
section
variable {X:Cx}{o i e value:Expr}{pos pos' tpos:Pos}{td ty tv:TE}
theorem Y6o (hu:X.A.units+1<cLine)(ho:PE X o td)(hi:PE X i ty)(hs:NoSl i):PE X (.Subscript o i pos) (tDGet td ty):=by
 intro pins s σ H Q I h
 refine Y5m q6u.lookup hs (thn (ho pins s σ H _ I h) λu s1 ⟨x,H1,I1,rx,q1⟩=>thn (hi pins s1 σ H1 _ I1 q1) λiv s2 ⟨y,H2,I2,ry,a,v,ex,g,q2⟩=>?_)
 subst ex
 obtain rfl:u=Value.ref a:=rx
 exact⟨Y1w I2 g,Y8o hu I2 g ry λw' s3 I3 rw'=>⟨v,H2,I3,rw',q2⟩⟩
theorem X8j (hu:X.A.units+1<cLine)(hi:PE X i ty)(ho:PE X o td):PC X .In i o (tDIn ty td):=by
 intro pins s σ H Q I h
 refine thn (hi pins s σ H _ I h) λiv s1 ⟨y,H1,I1,ry,q1⟩=>thn (ho pins s1 σ H1 _ I1 q1) λu s2 ⟨x,H2,I2,rx,a,ov,ex,g,q2⟩=>?_
 subst ex
 obtain rfl:u=Value.ref a:=rx
 exact d_in hu I2 g ry λs3 I3=>⟨.bl ov.isSome,H2,I3,U,q2⟩
theorem Y6u (hu:X.A.units+1<cLine)(hi:PE X i ty)(ho:PE X o td):PC X .NotIn i o (X3w ty td):=by
 intro pins s σ H Q I h
 refine thn (hi pins s σ H _ I h) λiv s1 ⟨y,H1,I1,ry,q1⟩=>thn (ho pins s1 σ H1 _ I1 q1) λu s2 ⟨x,H2,I2,rx,a,ov,ex,g,q2⟩=>?_
 subst ex
 obtain rfl:u=Value.ref a:=rx
 exact X6o hu I2 g ry λs3 I3=>⟨.bl (!ov.isSome),H2,I3,U,q2⟩
theorem Y6g (hu:X.A.units+1<cLine)(ho:PE X o td)(hi:PE X i ty)(hv:PE X value tv)(hs:swapsWith value (some (.Subscript o i pos')) pos.line X.env=pure false) :
  PS X (.Assign [.Subscript o i pos'] value pos) (sDPut td ty tv):=by
 intro pins s σ H D I h
 refine wpAny_Assign_Subscript (thn (hv pins s σ H _ I h) λr s1 ⟨v,H1,I1,rv,q1⟩=>thn (ho pins s1 σ H1 _ I1 q1) λu s2 ⟨x,H2,I2,rx,q2⟩=>thn (hi pins s2 σ H2 _ I2 q2) λiv s3 ⟨y,H3,I3,ry,a,H4,ex,g,q3⟩=>?_) hs
 subst ex
 obtain rfl:u=Value.ref a:=rx
 exact Y8n hu I3 g ry rv λs4 I4=>⟨σ,H4,I4,q3⟩
end
theorem X1q {P:U8}{w:W1}{H:Hp}(h:Heap)(hb:sysModules<h.objs.size):ObjOk P w H (h.push { cls:=.type "dict",data:=.dict #[] }) h.objs.size (.dK []) :=
 ⟨q1o _,beq_eq_false_iff_ne.mpr (Ne.symm (q0t hb)),[],.nil,Heap.DictOf.new h⟩
theorem X1p {P:U8}{w:W1}{H:Hp}(h:Heap)(hb:sysModules<h.objs.size):ObjOk P w H (h.push { cls:=.type "dict",data:=.dict #[] }) h.objs.size (.dT []) :=
 ⟨q1o _,beq_eq_false_iff_ne.mpr (Ne.symm (q0t hb)),[],.nil,_,#[],0,q0n _ rfl,⟨U,U,U⟩,U,U,List.nodup_nil⟩
def tDNewK:TE:=λ_ H Q=>∀ p,H p=none->Q (.ref p) (upd H p (.dK []))
section
variable {X:Cx}{pos:Pos}
theorem Y9y:PE X (.Dict [] [] pos) tDNewK:=λpins s σ H Q I h =>
 wpAny_Dict_empty ⟨.ref s.heap.objs.size,_,I.laid (a:=s.heap.objs.size) (o:=.dK []) (t':=s.toks) (λ_ _ q=>q0e _ q) (q0l _) (X1q s.heap I.big),U,h _ (I.hok.fresh (q0l _))⟩
end
def tPairs:List (TE × TE)->St->Hp->(List (V × V)->Hp->Prop)->Prop
 | [],_,H,Q=>Q [] H
 | (tk,tv)::r,σ,H,Q=>tk σ H λx H1=>tv σ H1 λy H2=>tPairs r σ H2 λps H3=>Q ((x,y)::ps) H3
abbrev VV:List (V × V)->List (Value × Value)->Prop:=Paired λp q=>RelV p.1 q.1/\RelV p.2 q.2
def PPs (X:Cx)(pos:Pos)(keys:List (Option Expr))(values:List Expr)(trs:List (TE × TE)):Prop :=
 ∀ (pins:U1) (s:U7) (σ:St) (H:Hp) (Q:List (V × V)->Hp->Prop),Inv X pins σ H s->tPairs trs σ H Q →
  wpAny (model X.prog X.w) X.A (evalPairs (pairTrees keys values X.env pos)) (λvs s'=>∃ ps H',Inv X pins σ H' s'/\VV ps vs/\Q ps H') X.xe s
theorem X4n {X:Cx}{pos:Pos}:PPs X pos [] [] []:=λpins s σ H Q I h=>pairTrees_nil_walk ⟨[],H,I,.nil,h⟩
theorem Y9w {X:Cx}{pos:Pos}{k v:Expr}{ks:List (Option Expr)}{vs:List Expr}{tk tv:TE}{trs:List (TE × TE)}(hk:PE X k tk)(hv:PE X v tv)(hr:PPs X pos ks vs trs) :
  PPs X pos (some k::ks) (v::vs) ((tk,tv)::trs):=λpins s σ H Q I h =>
 pairTrees_cons_walk (thn (hk pins s σ H _ I h) λu s1 ⟨x,H1,I1,rx,q1⟩=>thn (hv pins s1 σ H1 _ I1 q1) λw2 s2 ⟨y,H2,I2,ry,q2⟩ =>
  thn (hr pins s2 σ H2 _ I2 q2) λws s3 ⟨ps,H3,I3,rel,q3⟩=>⟨(x,y)::ps,H3,I3,.cons ⟨rx,ry⟩ rel,q3⟩)
section
variable {X:Cx}{pins:U1}{σ:St}{H:Hp}{s:U7}{a:W9}{y d:V}{u r:W2}{o:Option V}{A:W6}{E:U2}
end
section
variable {X:Cx}{o e f:Expr}{apos cpos:Pos}{td ty tx:TE}
end
end L2
namespace L2
def CMulG (i j:Int):Prop:=∃ a b,Sz a i/\Sz b j/\a+b<=100000000
theorem CMulG.ok {i j:Int}(h:CMulG i j):IntMulOk i j:=by
 obtain⟨a,b,h1,h2,h3⟩:=h
 have e1:=h1.bits
 have e2:=h2.bits
 unfold IntMulOk
 rw[show Builtin.Int.intTooBig (Builtin.Int.intBits i+Builtin.Int.intBits j)=false by
  unfold Builtin.Int.intTooBig
  have:bitsLine=134217728:=rfl
  rw[this]
  exact q0k (by omega)]
 simp
section
variable {X:Cx}
theorem Y6x:OpR X (binaryOp .Mult) (rI CMulG λi j=>.int (i*j)):=opI λ_ _ _ _ _ _ _ hc q=>mul_int q hc.ok
theorem Z2h (hc:X.calm=true):CallR X (.builtin "all") (λxs H Q=>∃ (p:W9) (bs:List Bool),xs=[.ref p]/\SqL X.K H p (bs.map V.bl)/\Q (.bl (bs.all id)) H):=by
 intro pins s σ H xs us Q I r h
 obtain⟨p,bs,rfl,hq,q⟩:=h
 obtain⟨u,rfl,ru⟩:=r.one
 cases ru
 obtain⟨its,rv,pl,hz⟩:=I.list hq
 have hlen:its.length=bs.length:=by rw[<-rv.length,q0a]
 refine call_all_walk (q5x pl.isList ?_)
 have W:=Walks.list (prog:=X.prog) (w:=X.w) (A:=X.A.in1) (show X.A.in1.handled=none from I.ok.hd hc) s.heap.objs.size p (by
  obtain⟨o,e,_⟩:=pl.isList
  exact q0t (q0h e)) its.toArray
 refine⟨s.heap.objs.size,_,_,_,_,_,λi=>bs.getD i false,U,W,⟨⟨_,q0n _ rfl,U,U⟩,pl.isList.push _⟩,?_,λh' tk hk=>?_⟩
 ·intro i v s' Q' E' hv hQ
  have hv':its[i]?=some v:=by simpa using hv
  have hi:i<bs.length:=by rw[<-hlen];exact(q0o.mp hv').1
  obtain⟨u,hu,ru⟩:=rv.get (show (bs.map V.bl)[i]?=some (.bl (bs.getD i false)) by simp[hi])
  rw[hv'] at hu
  cases hu
  cases ru
  exact q2z hQ
 ·have e:(List.range its.toArray.size).all (λi=>bs.getD i false)=bs.all id:=by
   rw[q0r,hlen,q4t,q1e,q1e]
   constructor
   ·intro z b hb
    obtain⟨i,hi,rfl⟩:=q3k.mp hb
    have:=z i (q1c.mpr hi)
    simpa [hi] using this
   ·intro z i hi
    have hi':i<bs.length:=q1c.mp hi
    have:=z bs[i] (q4l hi')
    simpa [hi'] using this
  rw[e]
  refine⟨.bl (bs.all id),H,?_,U,q⟩
  exact I.kept (t':=tk) λb o eo=>hk b o (by simp;exact q0t (q0h eo)) (q0e _ eo)
end
section
variable {P:U8}{w:W1}{H:Hp}{h:Heap}
end
section
variable {X:Cx}
theorem Z7o:∀ xs:List (List Int),PyData.canLayAll0 (xs.map λns=>PyData.tuple (ns.map PyData.int))=true
 | []=>by simp[PyData.canLayAll0]
 | n::r=>by simp[PyData.canLayAll0,PyData.canLay0,Z7o r,q7g n]
theorem Z8f:∀ xs:List (List Int),PyData.depthAll (xs.map λns=>PyData.tuple (ns.map PyData.int))<=2
 | []=>by simp[PyData.depthAll]
 | n::r=>by
  have h1:=Z8f r
  have h2:=q7x n
  simp only[q1v,PyData.depthAll,PyData.depth]
  omega
theorem Z6z (xs:List (List Int)):SeqAt.shaped (.list (xs.map λns=>PyData.tuple (ns.map PyData.int)))=true:=by
 have h2:PyData.depth (.list (xs.map λns=>PyData.tuple (ns.map PyData.int)))<=64:=by
  have:=Z8f xs
  simp only[PyData.depth]
  omega
 show (PyData.canLay0 _ && decide _)=true
 rw[q0u]
 exact⟨by simp only[PyData.canLay0];exact Z7o xs,q0q h2⟩
theorem Z8a:∀ xs ys:List (List Int),SeqAt.noMixAll (xs.map λns=>PyData.tuple (ns.map PyData.int)) (ys.map λns=>PyData.tuple (ns.map PyData.int))=true
 | [],[]=>by simp[SeqAt.noMixAll]
 | [],_::_=>by simp[SeqAt.noMixAll]
 | _::_,[]=>by simp[SeqAt.noMixAll]
 | n::r,m::q=>by
  simp only[q1v,SeqAt.noMixAll,SeqAt.noMix,q0u]
  exact⟨PySem.W.noMix_ints n m,Z8a r q⟩
theorem Z9r:∀ xs ys:List (List Int),PySem.Spec.sameAll (xs.map λns=>PyData.tuple (ns.map PyData.int)) (ys.map λns=>PyData.tuple (ns.map PyData.int))=decide (xs=ys)
 | [],[]=>by simp[PySem.Spec.sameAll]
 | [],_::_=>by simp[PySem.Spec.sameAll]
 | _::_,[]=>by simp[PySem.Spec.sameAll]
 | n::r,m::q=>by
  simp only[q1v,PySem.Spec.sameAll,PySem.Spec.same,PySem.W.same_ints,Z9r r q]
  by_cases e:n=m<;>simp[e]
end
section
variable {X:Cx}{scope:Scope}{Nc:W0}{ex:U3}{pins:U1}{s:U7}{H:Hp}
end
end L2
namespace L2
open PySem.W PySem.Calls
end L2
namespace Ba
open L2 Am Pc
noncomputable abbrev T5 (a b c d h:Int):HO:=.tup [.int a,.int b,.int c,.int d,.int h]
structure Red (a b c d h x y z u g:Int):Prop where
 amt:Amt x y z u g
 same:Same4 a b c d h x y z u g
 s1:x.natAbs<=a.natAbs
 s2:y.natAbs<=b.natAbs
 s3:z.natAbs<=c.natAbs
 s4:u.natAbs<=d.natAbs
 le:g<=h
structure Sz4 (n:Nat) (a b c d:Int):Prop where
 z1:Sz n a
 z2:Sz n b
 z3:Sz n c
 z4:Sz n d
theorem Red.sz {a b c d h x y z u g:Int}{n:Nat}(r:Red a b c d h x y z u g)(s:Sz4 n a b c d):Sz4 n x y z u:=⟨s.z1.le r.s1,s.z2.le r.s2,s.z3.le r.s3,s.z4.le r.s4⟩
theorem Sz4.mono {m n:Nat}{a b c d:Int}(s:Sz4 m a b c d)(h:m<=n):Sz4 n a b c d:=⟨s.z1.mono h,s.z2.mono h,s.z3.mono h,s.z4.mono h⟩
noncomputable def rot:Nat->Int × Int × Int × Int->Int × Int × Int × Int
 | 0,v=>v
 | n+1,v=>let (a,b,c,d):=rot n v;(-d,a,b,c)
noncomputable abbrev T4 (v:Int × Int × Int × Int)(h:Int):HO:=T5 v.1 v.2.1 v.2.2.1 v.2.2.2 h
abbrev A5:=(Int × Int × Int × Int) × Int
noncomputable abbrev tA (x:A5):HO:=T4 x.1 x.2
noncomputable def spin (x:A5)(k:Int):A5:=(rot (k%8).toNat x.1,x.2)
structure Ok5 (n:Nat) (m:Int) (x:A5):Prop where
 sz:Sz4 n x.1.1 x.1.2.1 x.1.2.2.1 x.1.2.2.2
 amt:Amt x.1.1 x.1.2.1 x.1.2.2.1 x.1.2.2.2 x.2
 le:x.2<=m
theorem Ok5.mono {n n':Nat}{m m':Int}{x:A5}(o:Ok5 n m x)(h:n<=n')(h':m<=m'):Ok5 n' m' x:=⟨o.sz.mono h,o.amt,Int.le_trans o.le h'⟩
theorem X2t {n:Nat}{m:Int}{v:Int × Int × Int × Int}{h:Int}(o:Ok5 n m (v,h)):∀ k,Ok5 n m (rot k v,h)
 | 0=>o
 | k+1=>by
  have:=X2t o k
  show Ok5 n m ((-(rot k v).2.2.2,(rot k v).1,(rot k v).2.1,(rot k v).2.2.1),h)
  refine⟨⟨this.sz.z4.neg,this.sz.z1,this.sz.z2,this.sz.z3⟩,⟨this.amt.nn,?_⟩,this.le⟩
  have o:h=0∨(rot k v).1%2=1∨(rot k v).2.1%2=1∨(rot k v).2.2.1%2=1∨(rot k v).2.2.2%2=1:=this.amt.odd
  show h=0∨(-(rot k v).2.2.2)%2=1∨(rot k v).1%2=1∨(rot k v).2.1%2=1∨(rot k v).2.2.1%2=1
  omega
noncomputable def l5 (x:A5):List Int:=[x.1.1,x.1.2.1,x.1.2.2.1,x.1.2.2.2,x.2]
noncomputable def cell (ns:U6)(i:Int):Int:=if i<ns.length then ns.getD i.toNat 0 else 0
def spOnes:Sp:=λvs H Q _=>∃ n:Nat,vs=[.int n]/\Q (.int (pc n)) H
def spCell (K:U0):Sp:=λvs H Q _=>∃ (a:W9) (ns:U6) (i:Int),vs=[.ref a,.int i]/\SqL K H a (ns.map V.int)/\0<=i/\Q (.int (cell ns i)) H
def Z3m:Sp:=λvs H Q _=>∃ i:Int,vs=[.int i]/\Q (.bl true) H
theorem W1c {ns:U6}{i:Int}(h0:0<=i)(h:i<ns.length):atI (ns.map V.int) i=some (.int (ns.getD i.toNat 0)):=by
 have hk:i.toNat<ns.length:=by omega
 have ek:i=((i.toNat:Nat):Int):=by omega
 have q:atI (ns.map V.int) ((i.toNat:Nat):Int)=some (.int ns[i.toNat]):=Z3b (by rw[q0g,q0d hk]<;>rfl)
 rw[<-ek] at q
 rw[q,q0b,q0d hk]
 rfl
theorem t2:2<=sizeLine:=by decide
theorem t3:3<=sizeLine:=by decide
theorem t64 {n:Nat}(h:n<=64):n<=sizeLine:=q1b h (by decide)
theorem pow6 {n:Nat}(h:n<=6):2^n<=64:=q1b (q0v (by decide) h) (by decide)
theorem ipow (n:Nat):(1:Int)*2^((n:Int).toNat)=((2^n:Nat):Int):=by simp
theorem sz1:Sz 1 1:=by decide +kernel
theorem Y0c (K:U0):PySem.W.kitOne K (.type "tuple") (.type "tuple")=some true:=by unfold PySem.W.kitOne;rw[if_pos (by decide)]
end Ba
namespace L2
theorem fS {N P:W0}{sc:Scope}(a:sc.kind=.function:=by exact rfl)(b:sc.isCoroutine=false:=by exact rfl)(c:sc.isGenerator=false:=by exact rfl)(d:N.Nodup:=by decide +kernel)(e:N.take P.length=P:=by exact rfl)(f:∀ x∈P,sc.names.lookup x=some .local∨sc.names.lookup x=some .cell:=by decide +kernel)(g:∀ y∈sc.names,y.2≠.free:=by decide +kernel):FnScope N P sc:=⟨a,b,c,d,e,f,g⟩
end L2
namespace K76
open L2 Am Pc Ba
noncomputable def top (i:Nat):Stmt:=PySem.Challenge.pw_spinboard_k76_laid.main.body.getD i (.Pass ⟨0,0,0,0⟩)
structure Bs (mg:U4):Prop where
 isinstance:mg "isinstance"=none
 int:mg "int"=none
 bool:mg "bool"=none
 tuple:mg "tuple"=none
 list:mg "list"=none
 len:mg "len"=none
 range:mg "range"=none
 all:mg "all"=none
 any:mg "any"=none
 max:mg "max"=none
 min:mg "min"=none
 zip:mg "zip"=none
 set:mg "set"=none
 str:mg "str"=none
 enumerate:mg "enumerate"=none
 reversed:mg "reversed"=none
section
variable {P:U8}{w:W1}{K:U0}{mg:U4}{base:Heap}{k:Nat}{h:Heap}
theorem sc_cell:FnScope ["_law_script","_law_k"] ["_law_script","_law_k"] (Z0h (top 85)):=fS
theorem X5g (F:FunAt K "_law_cell_at" (top 85) .none)(X:K.In h)(G:Ng h mg)(B:Bs mg):Cal P w K mg base (k+1) "_law_cell_at" ["_law_script","_law_k"] (spCell K):=by
 have nd:=sc_cell.nd
 refine F.cal X G sc_cell (bnd2 λ_ _ _ _ _ _ _ _=>rfl) (λvs H Q E h=>?_) (λf cdv A outer s H vs Q E hr h=>?_)
 ·obtain⟨a,ns,i,rfl,_⟩:=h;rfl
 obtain⟨a,ns,i,rfl,hS,h0,q⟩:=h
 refine⟨_,(@Z0g _ _ _ _ _ (Z0w (Z0p Z5b (pv 1) (Z0n Z0r rfl B.len q1k (Z0a (pv 0) Z0c)) (nomark _))
   (@Z0e _ _ _ (Z0k (Z0l Z1k (pv 0) (pv 1) (λ_ _=>rfl))))
   Z0o)
  (@Z0e _ _ _ (Z0k Z0b))),?_⟩
 try dsimp only[cxK]
 have hl:(ns.map V.int).length=ns.length:=q0a _
 refine⟨_,U,_,U,a,_,U,.inl hS,_,_,U,U,_,U,decI (λc=>?_) (λc=>?_)⟩
 ·rw[hl] at c
  refine⟨_,U,_,U,a,_,_,_,U,U,hS,W1c h0 c,?_⟩
  unfold cell at q
  rw[if_pos c] at q
  exact q
 ·rw[hl] at c
  unfold cell at q
  rw[if_neg c] at q
  exact q
end
end K76
noncomputable section
namespace K76
open L2
namespace Hd
open PySem.W
set_option maxHeartbeats 0
noncomputable abbrev pr:Program:=PySem.Challenge.pw_spinboard_k76_laid
abbrev kh:=PyData.keyHash
noncomputable def dPos (s:Stmt):Pos:=match s with
 | .FunctionDef _ _ _ _ _ _ _ _ _ p=>p
 | _=>⟨0,0,0,0⟩
noncomputable def life:Life:=(Life.mk [] [] [] 0 [] [] false #[] [] 0 false false false 0 [2000,10,10] false 0 true [] [] 0 false)
noncomputable def en:Env:={ scope:=pr.main.scope,locals:=mainNs,globals:=mainNs,cells:=[],code:=(.ref 13),frame:=some 14 }
noncomputable def dn (P:Params)(x:Str)(t:Nat)(v:W2):DictEntry:=DictEntry.mk (kh P x) (.str x t) v
noncomputable def cob (n:Str)(t1:Nat)(q:Str)(t2 t3:Nat)(i1 i2 i3 i4 i5:Int)(r1:W9)(b:Bool)(i6:Int)(r2:W9)(v1 v2 v3:W2)(i7 i8:Int)(t4:Nat):Obj:=Obj.mk (.type "code") none (Data.fields #[.str n t1,.str q t2,.str "/claim/cut.py" t3,.int i1 0,.int i2 0,.int i3 0,.int i4 0,.int i5 0,.ref r1,.bool b,.int i6 0,.ref r2,.none,v1,v2,v3,.int i7 0,.int i8 0,.str "/claim/cut.py" t4]) #[]
noncomputable def fo1 (n q:Str)(s:Stmt)(k j:Nat):Obj:=Obj.mk .none none (Data.func (FuncData.mk n q (Z1f s) (FuncBody.stmts (Z1c s)) (Z0h s) k [] .none .none .none .none none .none .none j)) #[]
noncomputable def fo2 (n q:Str)(s:Stmt)(k:Nat)(m:Str)(t:Nat)(c:W9)(j:Nat):Obj:=Obj.mk (.type "function") none (Data.func (FuncData.mk n q (Z1f s) (FuncBody.stmts (Z1c s)) (Z0h s) k [] .none .none .none (.str m t) none (.ref c) .none j)) #[]
noncomputable def sq0 (T:String)(n:Nat):Obj:=Obj.mk (.type T) none (Data.seq #[] n) #[]
noncomputable def tq (a:U9):Obj:=Obj.mk (.type "tuple") none (Data.seq a 0) #[]
noncomputable def nf0:Obj:=Obj.mk .none none (Data.fields #[]) #[]
abbrev Pz:=Params
noncomputable abbrev tz:Obj:=sq0 "tuple" 0
noncomputable def iL (t:BT):List (Nat × Obj)->BT
 | []=>t
 | x::l=>iL (t.ins x.1 x.2) l
noncomputable def iF (t:BT):Nat->List Obj->BT
 | _,[]=>t
 | n,x::l=>iF (t.ins n x) (n+1) l
noncomputable def ob3 (l:List DictEntry)(n:Nat):Obj:=Obj.mk (.type "dict") none (Data.dict (Array.mk l) n) #[]
noncomputable def ob12 (l:U5):Obj:=Obj.mk .none none (Data.fields (Array.mk l)) #[]
def j13(P:Pz):=(cob "<module>" 182 "<module>" 183 184 1 0 0 0 0 11 false 181 12 .none .none .none 185 1 186)
noncomputable def j14(P:Pz):=Obj.mk (.type "frame") none Data.plain #[(some (.ref 13)),(some (.ref 3)),(some (.ref 3)),none,(some (.str "__main__" 164)),none,(some (.ref 0))]
def Ha (P:Pz):Heap:=Heap.mk (Array.mk [boot_o_0 P,boot_o_1 P,boot_o_2 P,boot_o_3 P,boot_o_4 P,boot_o_5 P,boot_o_6 P,boot_o_7 P,boot_o_8 P,boot_o_9 P,boot_o_10 P,tz,nf0,j13 P,j14 P]) life
def T0 (P:Pz):BT:=(.node (boot_o_0 P) (.node (boot_o_1 P) (.node (boot_o_3 P) (.node (boot_o_7 P) .nil .nil) (.node tz .nil .nil)) (.node (boot_o_5 P) (.node (boot_o_9 P) .nil .nil) (.node (j13 P) .nil .nil))) (.node (boot_o_2 P) (.node (boot_o_4 P) (.node (boot_o_8 P) .nil .nil) (.node nf0 .nil .nil)) (.node (boot_o_6 P) (.node (boot_o_10 P) .nil .nil) (.node (j14 P) .nil .nil))))
noncomputable def l0:List Stmt:=[top 0,top 1]
noncomputable def l1:List Stmt:=[top 2]
noncomputable def l2:List Stmt:=[top 3]
noncomputable def l3:List Stmt:=[top 4]
noncomputable def l4:List Stmt:=[top 5]
noncomputable def l5:List Stmt:=[top 6]
noncomputable def l6:List Stmt:=[top 7]
noncomputable def l7:List Stmt:=[top 8,top 9,top 10,top 11,top 12,top 13,top 14,top 15]
noncomputable def l8:List Stmt:=[top 16,top 17,top 18,top 19,top 20,top 21,top 22,top 23,top 24,top 25,top 26,top 27,top 28,top 29,top 30]
noncomputable def l9:List Stmt:=[top 31,top 32,top 33,top 34,top 35,top 36,top 37,top 38,top 39,top 40,top 41,top 42,top 43]
noncomputable def l10:List Stmt:=[top 44,top 45,top 46,top 47,top 48,top 49,top 50,top 51,top 52,top 53,top 54,top 55,top 56,top 57,top 58]
noncomputable def l11:List Stmt:=[top 59,top 60,top 61,top 62,top 63,top 64,top 65,top 66,top 67,top 68,top 69,top 70,top 71,top 72]
noncomputable def l12:List Stmt:=[top 73,top 74,top 75,top 76,top 77,top 78,top 79,top 80,top 81,top 82,top 83,top 84,top 85,top 86,top 87]
noncomputable def l13:List Stmt:=[top 88,top 89,top 90,top 91,top 92,top 93,top 94,top 95,top 96,top 97,top 98,top 99]
noncomputable def bE:List Stmt:=l0++(l1++(l2++(l3++(l4++(l5++(l6++(l7++(l8++(l9++(l10++(l11++(l12++(l13++[])))))))))))))
noncomputable abbrev cE:Code:=Code.body bE en
noncomputable abbrev BB:List Frame:=[topFrame (Pos.mk 0 0 0 0)]
theorem pre_ (w:W1)(os:OsState):topGo treeTable pr w 11 (some (.ref 6)) 12 (Shared.mk (boot_heap w.params) (Array.mk []) boot_drawn boot_toks os) (topStub pr)=some (Shared.mk (Ha w.params) (Array.mk []) (Drawn.mk 0 0 0 0) 187 os,Thread.mk (denote treeTable cE) cE (Pos.mk 0 0 0 0) BB):=by rw[PySem.W.Fast.te15667345088766844465,PySem.W.Fast.te11892475500146522536,PySem.W.Fast.te14364793385576792824];kernel_rfl
theorem W1b (w:W1)(os:OsState):segRun treeTable pr w 11 (some (.ref 6)) 1 1 (Shared.mk (Ha w.params) (Array.mk []) (Drawn.mk 0 0 0 0) 187 os) (blockOf bE en cE (Pos.mk 0 0 0 0) BB)=some (Flow.next,(SharedT.mk (T0 w.params) 15 life (Array.mk []) (Drawn.mk 0 0 0 0) 187 os).abs,cE,(Pos.mk 0 0 0 0)):=by rw[PySem.W.Fast.te14374325043358763698,PySem.W.Fast.te14364793385576792824];kernel_rfl
noncomputable def y3_2(P:Pz):List DictEntry:=[(dn P "__doc__" 166 .none),(dn P "__package__" 167 .none),(dn P "__loader__" 168 (.builtin "__main__.__loader__#opaque")),(dn P "__spec__" 169 .none),(dn P "__annotations__" 170 (.ref 6)),(dn P "__builtins__" 171 (.ref 4)),(dn P "__file__" 173 (.str "/claim/cut.py" 172)),(dn P "__cached__" 174 .none),(dn P "BoardError" 206 (.ref 24))]
def j3_2(P:Pz):=ob3 ((dn P "__name__" 165 (.str "spinboard.errors" 187))::y3_2 P) 10
noncomputable def X7p(P:Pz):List Value:=[(.int 2 0),(.int 0 0),(.ref 20)]
def W2p(P:Pz):=ob12 (X7p P)
def j15(P:Pz):=tq #[(.type "ValueError")]
noncomputable def j16(P:Pz):=Obj.mk (.type "builtin_function_or_method") none (Data.fields #[(.builtin "type.__prepare__"),(.type "type")]) #[]
def j17(P:Pz):=ob3 [(dn P "__module__" 196 (.str "spinboard.errors" 187)),(dn P "__qualname__" 198 (.str "BoardError" 197)),(dn P "__firstlineno__" 200 (.int 2 199)),(dn P "__static_attributes__" 201 (.ref 22))] 4
def j20(P:Pz):=(cob "BoardError" 191 "BoardError" 192 193 2 0 0 0 0 18 false 181 19 .none .none .none 194 2 195)
noncomputable def j21(P:Pz):=Obj.mk (.type "frame") none Data.plain #[(some (.ref 20)),(some (.ref 3)),(some (.ref 17)),none,(some (.str "spinboard.errors" 187)),none,(some (.ref 0))]
def j23(P:Pz):=ob3 [(dn P "__module__" 196 (.str "spinboard.errors" 187)),(dn P "__firstlineno__" 200 (.int 2 199)),(dn P "__static_attributes__" 201 (.ref 22)),(dn P "__weakref__" 203 (.ref 25)),(dn P "__doc__" 204 .none)] 3
def W2h(P:Pz):=Obj.mk (.type "type") none (Data.cls (ClassData.mk "BoardError" [(.type "ValueError")] [(.ref 24),(.type "ValueError"),(.type "Exception"),(.type "BaseException"),(.type "object")] 23 "BoardError" true [] [] false none false)) #[(some (.ref 15)),none,(some (.str "BoardError" 189)),(some (.str "BoardError" 197)),(some (.builtin "ValueError.__new__")),(some (.bool true))]
noncomputable def j25(P:Pz):=Obj.mk (.type "getset_descriptor") none (Data.fields #[(.str "__weakref__" 202),(.ref 24),(.builtin "ExceptionGroup.__weakref__"),.none]) #[]
noncomputable def j26(P:Pz):=Obj.mk (.type "super") none (Data.fields #[(.ref 24),(.ref 24),(.ref 24)]) #[]
noncomputable def j27(P:Pz):=Obj.mk (.type "builtin_function_or_method") none (Data.fields #[(.builtin "object.__init_subclass__"),(.ref 24)]) #[]
def x1(P:Pz):List Obj:=[j15 P,j16 P,j17 P,tz,nf0,j20 P,j21 P,tz,j23 P,W2h P,j25 P,j26 P,j27 P]
def T1 (P:Pz):BT:=iF (iL (T0 P) [(3,j3_2 P),(12,W2p P)]) 15 (x1 P)
theorem g0 (p:U8)(b:W8)(w:W1)(os:OsState):segRunT treeTable p w 11 (some (.ref 6)) 1 196 (SharedT.mk (T0 w.params) 15 life (Array.mk []) (Drawn.mk 0 0 0 0) 187 os) (piecesOf l0 en (Code.body b en) (Pos.mk 0 0 0 0) BB)=some (Flow.next,(SharedT.mk (T1 w.params) 28 life (Array.mk []) (Drawn.mk 0 0 0 0) 207 os),Code.body b en,(Pos.mk 2 0 3 8)):=by rw[PySem.W.Fast.te10110043849684766642,PySem.W.Fast.te14364793385576792824];kernel_rfl
def y3_3(P:Pz):List DictEntry:=y3_2 P++[(dn P "NoMark" 222 (.ref 37))]
def j3_3(P:Pz):=ob3 ((dn P "__name__" 165 (.str "spinboard.errors" 187))::y3_3 P) 11
def X7o(P:Pz):List Value:=X7p P++[(.int 4 0),(.int 0 0),(.ref 33)]
def W2o(P:Pz):=ob12 (X7o P)
def W2g(P:Pz):=Obj.mk (.type "type") none (Data.cls (ClassData.mk "BoardError" [(.type "ValueError")] [(.ref 24),(.type "ValueError"),(.type "Exception"),(.type "BaseException"),(.type "object")] 23 "BoardError" true [] [(.ref 37)] false none false)) #[(some (.ref 15)),none,(some (.str "BoardError" 189)),(some (.str "BoardError" 197)),(some (.builtin "ValueError.__new__")),(some (.bool true))]
def j28(P:Pz):=tq #[(.ref 24)]
def j30(P:Pz):=ob3 [(dn P "__module__" 214 (.str "spinboard.errors" 187)),(dn P "__qualname__" 216 (.str "NoMark" 215)),(dn P "__firstlineno__" 218 (.int 4 217)),(dn P "__static_attributes__" 219 (.ref 35))] 4
def j33(P:Pz):=(cob "NoMark" 209 "NoMark" 210 211 4 0 0 0 0 31 false 181 32 .none .none .none 212 4 213)
noncomputable def j34(P:Pz):=Obj.mk (.type "frame") none Data.plain #[(some (.ref 33)),(some (.ref 3)),(some (.ref 30)),none,(some (.str "spinboard.errors" 187)),none,(some (.ref 0))]
def j36(P:Pz):=ob3 [(dn P "__module__" 214 (.str "spinboard.errors" 187)),(dn P "__firstlineno__" 218 (.int 4 217)),(dn P "__static_attributes__" 219 (.ref 35)),(dn P "__doc__" 220 .none)] 2
noncomputable def j37(P:Pz):=Obj.mk (.type "type") none (Data.cls (ClassData.mk "NoMark" [(.ref 24)] [(.ref 37),(.ref 24),(.type "ValueError"),(.type "Exception"),(.type "BaseException"),(.type "object")] 36 "NoMark" true [] [] false none false)) #[(some (.ref 28)),none,(some (.str "NoMark" 207)),(some (.str "NoMark" 215)),(some (.builtin "ValueError.__new__")),(some (.bool true))]
noncomputable def j38(P:Pz):=Obj.mk (.type "super") none (Data.fields #[(.ref 37),(.ref 37),(.ref 37)]) #[]
noncomputable def j39(P:Pz):=Obj.mk (.type "builtin_function_or_method") none (Data.fields #[(.builtin "object.__init_subclass__"),(.ref 37)]) #[]
def x2(P:Pz):List Obj:=[j28 P,j16 P,j30 P,tz,nf0,j33 P,j34 P,tz,j36 P,j37 P,j38 P,j39 P]
def T2 (P:Pz):BT:=iF (iL (T1 P) [(3,j3_3 P),(12,W2o P),(24,W2g P)]) 28 (x2 P)
theorem g1 (p:U8)(b:W8)(w:W1)(os:OsState):segRunT treeTable p w 11 (some (.ref 6)) 1 214 (SharedT.mk (T1 w.params) 28 life (Array.mk []) (Drawn.mk 0 0 0 0) 207 os) (piecesOf l1 en (Code.body b en) (Pos.mk 2 0 3 8) BB)=some (Flow.next,(SharedT.mk (T2 w.params) 40 life (Array.mk []) (Drawn.mk 0 0 0 0) 223 os),Code.body b en,(Pos.mk 4 0 5 8)):=by rw[PySem.W.Fast.te10110043849684766642,PySem.W.Fast.te14364793385576792824];kernel_rfl
def y3_4(P:Pz):List DictEntry:=y3_3 P++[(dn P "NoBoard" 238 (.ref 49))]
def j3_4(P:Pz):=ob3 ((dn P "__name__" 165 (.str "spinboard.errors" 187))::y3_4 P) 12
def X7n(P:Pz):List Value:=X7o P++[(.int 6 0),(.int 0 0),(.ref 45)]
def W2n(P:Pz):=ob12 (X7n P)
def W2f(P:Pz):=Obj.mk (.type "type") none (Data.cls (ClassData.mk "BoardError" [(.type "ValueError")] [(.ref 24),(.type "ValueError"),(.type "Exception"),(.type "BaseException"),(.type "object")] 23 "BoardError" true [] [(.ref 37),(.ref 49)] false none false)) #[(some (.ref 15)),none,(some (.str "BoardError" 189)),(some (.str "BoardError" 197)),(some (.builtin "ValueError.__new__")),(some (.bool true))]
def j42(P:Pz):=ob3 [(dn P "__module__" 230 (.str "spinboard.errors" 187)),(dn P "__qualname__" 232 (.str "NoBoard" 231)),(dn P "__firstlineno__" 234 (.int 6 233)),(dn P "__static_attributes__" 235 (.ref 47))] 4
def j45(P:Pz):=(cob "NoBoard" 225 "NoBoard" 226 227 6 0 0 0 0 43 false 181 44 .none .none .none 228 6 229)
noncomputable def j46(P:Pz):=Obj.mk (.type "frame") none Data.plain #[(some (.ref 45)),(some (.ref 3)),(some (.ref 42)),none,(some (.str "spinboard.errors" 187)),none,(some (.ref 0))]
def j48(P:Pz):=ob3 [(dn P "__module__" 230 (.str "spinboard.errors" 187)),(dn P "__firstlineno__" 234 (.int 6 233)),(dn P "__static_attributes__" 235 (.ref 47)),(dn P "__doc__" 236 .none)] 2
noncomputable def j49(P:Pz):=Obj.mk (.type "type") none (Data.cls (ClassData.mk "NoBoard" [(.ref 24)] [(.ref 49),(.ref 24),(.type "ValueError"),(.type "Exception"),(.type "BaseException"),(.type "object")] 48 "NoBoard" true [] [] false none false)) #[(some (.ref 40)),none,(some (.str "NoBoard" 223)),(some (.str "NoBoard" 231)),(some (.builtin "ValueError.__new__")),(some (.bool true))]
noncomputable def j50(P:Pz):=Obj.mk (.type "super") none (Data.fields #[(.ref 49),(.ref 49),(.ref 49)]) #[]
noncomputable def j51(P:Pz):=Obj.mk (.type "builtin_function_or_method") none (Data.fields #[(.builtin "object.__init_subclass__"),(.ref 49)]) #[]
def x3(P:Pz):List Obj:=[j28 P,j16 P,j42 P,tz,nf0,j45 P,j46 P,tz,j48 P,j49 P,j50 P,j51 P]
def T3 (P:Pz):BT:=iF (iL (T2 P) [(3,j3_4 P),(12,W2n P),(24,W2f P)]) 40 (x3 P)
theorem g2 (p:U8)(b:W8)(w:W1)(os:OsState):segRunT treeTable p w 11 (some (.ref 6)) 1 214 (SharedT.mk (T2 w.params) 40 life (Array.mk []) (Drawn.mk 0 0 0 0) 223 os) (piecesOf l2 en (Code.body b en) (Pos.mk 4 0 5 8) BB)=some (Flow.next,(SharedT.mk (T3 w.params) 52 life (Array.mk []) (Drawn.mk 0 0 0 0) 239 os),Code.body b en,(Pos.mk 6 0 7 8)):=by rw[PySem.W.Fast.te10110043849684766642,PySem.W.Fast.te14364793385576792824];kernel_rfl
def y3_5(P:Pz):List DictEntry:=y3_4 P++[(dn P "NoMove" 254 (.ref 61))]
def j3_5(P:Pz):=ob3 ((dn P "__name__" 165 (.str "spinboard.errors" 187))::y3_5 P) 13
def X7m(P:Pz):List Value:=X7n P++[(.int 8 0),(.int 0 0),(.ref 57)]
def W2m(P:Pz):=ob12 (X7m P)
def W2e(P:Pz):=Obj.mk (.type "type") none (Data.cls (ClassData.mk "BoardError" [(.type "ValueError")] [(.ref 24),(.type "ValueError"),(.type "Exception"),(.type "BaseException"),(.type "object")] 23 "BoardError" true [] [(.ref 37),(.ref 49),(.ref 61)] false none false)) #[(some (.ref 15)),none,(some (.str "BoardError" 189)),(some (.str "BoardError" 197)),(some (.builtin "ValueError.__new__")),(some (.bool true))]
def j54(P:Pz):=ob3 [(dn P "__module__" 246 (.str "spinboard.errors" 187)),(dn P "__qualname__" 248 (.str "NoMove" 247)),(dn P "__firstlineno__" 250 (.int 8 249)),(dn P "__static_attributes__" 251 (.ref 59))] 4
def j57(P:Pz):=(cob "NoMove" 241 "NoMove" 242 243 8 0 0 0 0 55 false 181 56 .none .none .none 244 8 245)
noncomputable def j58(P:Pz):=Obj.mk (.type "frame") none Data.plain #[(some (.ref 57)),(some (.ref 3)),(some (.ref 54)),none,(some (.str "spinboard.errors" 187)),none,(some (.ref 0))]
def j60(P:Pz):=ob3 [(dn P "__module__" 246 (.str "spinboard.errors" 187)),(dn P "__firstlineno__" 250 (.int 8 249)),(dn P "__static_attributes__" 251 (.ref 59)),(dn P "__doc__" 252 .none)] 2
noncomputable def j61(P:Pz):=Obj.mk (.type "type") none (Data.cls (ClassData.mk "NoMove" [(.ref 24)] [(.ref 61),(.ref 24),(.type "ValueError"),(.type "Exception"),(.type "BaseException"),(.type "object")] 60 "NoMove" true [] [] false none false)) #[(some (.ref 52)),none,(some (.str "NoMove" 239)),(some (.str "NoMove" 247)),(some (.builtin "ValueError.__new__")),(some (.bool true))]
noncomputable def j62(P:Pz):=Obj.mk (.type "super") none (Data.fields #[(.ref 61),(.ref 61),(.ref 61)]) #[]
noncomputable def j63(P:Pz):=Obj.mk (.type "builtin_function_or_method") none (Data.fields #[(.builtin "object.__init_subclass__"),(.ref 61)]) #[]
def x4(P:Pz):List Obj:=[j28 P,j16 P,j54 P,tz,nf0,j57 P,j58 P,tz,j60 P,j61 P,j62 P,j63 P]
def T4 (P:Pz):BT:=iF (iL (T3 P) [(3,j3_5 P),(12,W2m P),(24,W2e P)]) 52 (x4 P)
theorem g3 (p:U8)(b:W8)(w:W1)(os:OsState):segRunT treeTable p w 11 (some (.ref 6)) 1 214 (SharedT.mk (T3 w.params) 52 life (Array.mk []) (Drawn.mk 0 0 0 0) 239 os) (piecesOf l3 en (Code.body b en) (Pos.mk 6 0 7 8) BB)=some (Flow.next,(SharedT.mk (T4 w.params) 64 life (Array.mk []) (Drawn.mk 0 0 0 0) 255 os),Code.body b en,(Pos.mk 8 0 9 8)):=by rw[PySem.W.Fast.te10110043849684766642,PySem.W.Fast.te14364793385576792824];kernel_rfl
def y3_6(P:Pz):List DictEntry:=y3_5 P++[(dn P "NoCell" 270 (.ref 73))]
def j3_6(P:Pz):=ob3 ((dn P "__name__" 165 (.str "spinboard.errors" 187))::y3_6 P) 14
def X7l(P:Pz):List Value:=X7m P++[(.int 10 0),(.int 0 0),(.ref 69)]
def W2l(P:Pz):=ob12 (X7l P)
def W2d(P:Pz):=Obj.mk (.type "type") none (Data.cls (ClassData.mk "BoardError" [(.type "ValueError")] [(.ref 24),(.type "ValueError"),(.type "Exception"),(.type "BaseException"),(.type "object")] 23 "BoardError" true [] [(.ref 37),(.ref 49),(.ref 61),(.ref 73)] false none false)) #[(some (.ref 15)),none,(some (.str "BoardError" 189)),(some (.str "BoardError" 197)),(some (.builtin "ValueError.__new__")),(some (.bool true))]
def j66(P:Pz):=ob3 [(dn P "__module__" 262 (.str "spinboard.errors" 187)),(dn P "__qualname__" 264 (.str "NoCell" 263)),(dn P "__firstlineno__" 266 (.int 10 265)),(dn P "__static_attributes__" 267 (.ref 71))] 4
def j69(P:Pz):=(cob "NoCell" 257 "NoCell" 258 259 10 0 0 0 0 67 false 181 68 .none .none .none 260 10 261)
noncomputable def j70(P:Pz):=Obj.mk (.type "frame") none Data.plain #[(some (.ref 69)),(some (.ref 3)),(some (.ref 66)),none,(some (.str "spinboard.errors" 187)),none,(some (.ref 0))]
def j72(P:Pz):=ob3 [(dn P "__module__" 262 (.str "spinboard.errors" 187)),(dn P "__firstlineno__" 266 (.int 10 265)),(dn P "__static_attributes__" 267 (.ref 71)),(dn P "__doc__" 268 .none)] 2
noncomputable def j73(P:Pz):=Obj.mk (.type "type") none (Data.cls (ClassData.mk "NoCell" [(.ref 24)] [(.ref 73),(.ref 24),(.type "ValueError"),(.type "Exception"),(.type "BaseException"),(.type "object")] 72 "NoCell" true [] [] false none false)) #[(some (.ref 64)),none,(some (.str "NoCell" 255)),(some (.str "NoCell" 263)),(some (.builtin "ValueError.__new__")),(some (.bool true))]
noncomputable def j74(P:Pz):=Obj.mk (.type "super") none (Data.fields #[(.ref 73),(.ref 73),(.ref 73)]) #[]
noncomputable def j75(P:Pz):=Obj.mk (.type "builtin_function_or_method") none (Data.fields #[(.builtin "object.__init_subclass__"),(.ref 73)]) #[]
def x5(P:Pz):List Obj:=[j28 P,j16 P,j66 P,tz,nf0,j69 P,j70 P,tz,j72 P,j73 P,j74 P,j75 P]
def T5 (P:Pz):BT:=iF (iL (T4 P) [(3,j3_6 P),(12,W2l P),(24,W2d P)]) 64 (x5 P)
theorem g4 (p:U8)(b:W8)(w:W1)(os:OsState):segRunT treeTable p w 11 (some (.ref 6)) 1 214 (SharedT.mk (T4 w.params) 64 life (Array.mk []) (Drawn.mk 0 0 0 0) 255 os) (piecesOf l4 en (Code.body b en) (Pos.mk 8 0 9 8) BB)=some (Flow.next,(SharedT.mk (T5 w.params) 76 life (Array.mk []) (Drawn.mk 0 0 0 0) 271 os),Code.body b en,(Pos.mk 10 0 11 8)):=by rw[PySem.W.Fast.te10110043849684766642,PySem.W.Fast.te14364793385576792824];kernel_rfl
def y3_7(P:Pz):List DictEntry:=y3_6 P++[(dn P "NoTable" 286 (.ref 85))]
def j3_7(P:Pz):=ob3 ((dn P "__name__" 165 (.str "spinboard.errors" 187))::y3_7 P) 15
def X7k(P:Pz):List Value:=X7l P++[(.int 12 0),(.int 0 0),(.ref 81)]
def W2k(P:Pz):=ob12 (X7k P)
def W2c(P:Pz):=Obj.mk (.type "type") none (Data.cls (ClassData.mk "BoardError" [(.type "ValueError")] [(.ref 24),(.type "ValueError"),(.type "Exception"),(.type "BaseException"),(.type "object")] 23 "BoardError" true [] [(.ref 37),(.ref 49),(.ref 61),(.ref 73),(.ref 85)] false none false)) #[(some (.ref 15)),none,(some (.str "BoardError" 189)),(some (.str "BoardError" 197)),(some (.builtin "ValueError.__new__")),(some (.bool true))]
def j78(P:Pz):=ob3 [(dn P "__module__" 278 (.str "spinboard.errors" 187)),(dn P "__qualname__" 280 (.str "NoTable" 279)),(dn P "__firstlineno__" 282 (.int 12 281)),(dn P "__static_attributes__" 283 (.ref 83))] 4
def j81(P:Pz):=(cob "NoTable" 273 "NoTable" 274 275 12 0 0 0 0 79 false 181 80 .none .none .none 276 12 277)
noncomputable def j82(P:Pz):=Obj.mk (.type "frame") none Data.plain #[(some (.ref 81)),(some (.ref 3)),(some (.ref 78)),none,(some (.str "spinboard.errors" 187)),none,(some (.ref 0))]
def j84(P:Pz):=ob3 [(dn P "__module__" 278 (.str "spinboard.errors" 187)),(dn P "__firstlineno__" 282 (.int 12 281)),(dn P "__static_attributes__" 283 (.ref 83)),(dn P "__doc__" 284 .none)] 2
noncomputable def j85(P:Pz):=Obj.mk (.type "type") none (Data.cls (ClassData.mk "NoTable" [(.ref 24)] [(.ref 85),(.ref 24),(.type "ValueError"),(.type "Exception"),(.type "BaseException"),(.type "object")] 84 "NoTable" true [] [] false none false)) #[(some (.ref 76)),none,(some (.str "NoTable" 271)),(some (.str "NoTable" 279)),(some (.builtin "ValueError.__new__")),(some (.bool true))]
noncomputable def j86(P:Pz):=Obj.mk (.type "super") none (Data.fields #[(.ref 85),(.ref 85),(.ref 85)]) #[]
noncomputable def j87(P:Pz):=Obj.mk (.type "builtin_function_or_method") none (Data.fields #[(.builtin "object.__init_subclass__"),(.ref 85)]) #[]
def x6(P:Pz):List Obj:=[j28 P,j16 P,j78 P,tz,nf0,j81 P,j82 P,tz,j84 P,j85 P,j86 P,j87 P]
def T6 (P:Pz):BT:=iF (iL (T5 P) [(3,j3_7 P),(12,W2k P),(24,W2c P)]) 76 (x6 P)
theorem g5 (p:U8)(b:W8)(w:W1)(os:OsState):segRunT treeTable p w 11 (some (.ref 6)) 1 214 (SharedT.mk (T5 w.params) 76 life (Array.mk []) (Drawn.mk 0 0 0 0) 271 os) (piecesOf l5 en (Code.body b en) (Pos.mk 10 0 11 8) BB)=some (Flow.next,(SharedT.mk (T6 w.params) 88 life (Array.mk []) (Drawn.mk 0 0 0 0) 287 os),Code.body b en,(Pos.mk 12 0 13 8)):=by rw[PySem.W.Fast.te10110043849684766642,PySem.W.Fast.te14364793385576792824];kernel_rfl
def y3_8(P:Pz):List DictEntry:=y3_7 P++[(dn P "NoText" 311 (.ref 104))]
def j3_8(P:Pz):=ob3 ((dn P "__name__" 165 (.str "spinboard.errors" 187))::y3_8 P) 16
def X7j(P:Pz):List Value:=X7k P++[(.int 14 0),(.int 0 0),(.ref 93)]
def W2j(P:Pz):=ob12 (X7j P)
def W2b(P:Pz):=Obj.mk (.type "type") none (Data.cls (ClassData.mk "BoardError" [(.type "ValueError")] [(.ref 24),(.type "ValueError"),(.type "Exception"),(.type "BaseException"),(.type "object")] 23 "BoardError" true [] [(.ref 37),(.ref 49),(.ref 61),(.ref 73),(.ref 85),(.ref 104)] false none false)) #[(some (.ref 15)),none,(some (.str "BoardError" 189)),(some (.str "BoardError" 197)),(some (.builtin "ValueError.__new__")),(some (.bool true))]
def j90(P:Pz):=ob3 [(dn P "__module__" 294 (.str "spinboard.errors" 187)),(dn P "__qualname__" 296 (.str "NoText" 295)),(dn P "__firstlineno__" 298 (.int 14 297)),(dn P "__init__" 306 (.ref 101)),(dn P "__static_attributes__" 308 (.ref 102))] 5
noncomputable def j92(P:Pz):=Obj.mk .none none (Data.fields #[(.int 16 0),(.int 4 0),(.ref 100)]) #[]
def j93(P:Pz):=(cob "NoText" 289 "NoText" 290 291 14 0 0 0 0 91 false 181 92 .none .none .none 292 14 293)
noncomputable def j94(P:Pz):=Obj.mk (.type "frame") none Data.plain #[(some (.ref 93)),(some (.ref 3)),(some (.ref 90)),none,(some (.str "spinboard.errors" 187)),none,(some (.ref 0))]
def j97(P:Pz):=tq #[(.str "self" 302),(.str "place" 303)]
noncomputable def j99(P:Pz):=Obj.mk .none none (Data.func (FuncData.mk "__init__" "NoText.__init__" (Z1f (Z4f (top 7) 0)) (FuncBody.stmts (Z1c (Z4f (top 7) 0))) (Z0h (Z4f (top 8) 0)) 0 [] .none .none .none .none none .none .none 0)) #[]
def j100(P:Pz):=(cob "__init__" 299 "NoText.__init__" 300 301 16 2 0 0 3 95 true 181 96 (.ref 97) (.ref 98) (.ref 99) 304 16 305)
noncomputable def j101(P:Pz):=Obj.mk (.type "function") none (Data.func (FuncData.mk "__init__" "NoText.__init__" (Z1f (Z4f (top 7) 0)) (FuncBody.stmts (Z1c (Z4f (top 7) 0))) (Z0h (Z4f (top 8) 0)) 3 [] .none .none .none (.str "spinboard.errors" 187) none (.ref 100) .none 0)) #[]
def j102(P:Pz):=tq #[(.str "place" 307)]
def j103(P:Pz):=ob3 [(dn P "__module__" 294 (.str "spinboard.errors" 187)),(dn P "__firstlineno__" 298 (.int 14 297)),(dn P "__init__" 306 (.ref 101)),(dn P "__static_attributes__" 308 (.ref 102)),(dn P "__doc__" 309 .none)] 2
noncomputable def j104(P:Pz):=Obj.mk (.type "type") none (Data.cls (ClassData.mk "NoText" [(.ref 24)] [(.ref 104),(.ref 24),(.type "ValueError"),(.type "Exception"),(.type "BaseException"),(.type "object")] 103 "NoText" true [] [] false none false)) #[(some (.ref 88)),none,(some (.str "NoText" 287)),(some (.str "NoText" 295)),(some (.builtin "ValueError.__new__")),(some (.bool true))]
noncomputable def j105(P:Pz):=Obj.mk (.type "super") none (Data.fields #[(.ref 104),(.ref 104),(.ref 104)]) #[]
noncomputable def j106(P:Pz):=Obj.mk (.type "builtin_function_or_method") none (Data.fields #[(.builtin "object.__init_subclass__"),(.ref 104)]) #[]
def x7(P:Pz):List Obj:=[j28 P,j16 P,j90 P,tz,j92 P,j93 P,j94 P,tz,nf0,j97 P,tz,j99 P,j100 P,j101 P,j102 P,j103 P,j104 P,j105 P,j106 P]
def T7 (P:Pz):BT:=iF (iL (T6 P) [(3,j3_8 P),(12,W2j P),(24,W2b P)]) 88 (x7 P)
theorem g6 (p:U8)(b:W8)(w:W1)(os:OsState):segRunT treeTable p w 11 (some (.ref 6)) 1 246 (SharedT.mk (T6 w.params) 88 life (Array.mk []) (Drawn.mk 0 0 0 0) 287 os) (piecesOf l6 en (Code.body b en) (Pos.mk 12 0 13 8) BB)=some (Flow.next,(SharedT.mk (T7 w.params) 107 life (Array.mk []) (Drawn.mk 0 0 0 0) 312 os),Code.body b en,(Pos.mk 14 0 17 26)):=by rw[PySem.W.Fast.te10110043849684766642,PySem.W.Fast.te14364793385576792824];kernel_rfl
def y3_9(P:Pz):List DictEntry:=y3_8 P++[(dn P "NotBorne" 336 (.ref 123)),(dn P "is_whole" 345 (.ref 132)),(dn P "CELL_SIGNS" 349 (.str ".fsb" 348)),(dn P "ones" 358 (.ref 139)),(dn P "is_word" 366 (.ref 146)),(dn P "is_mark" 374 (.ref 153))]
def j3_9(P:Pz):=ob3 ((dn P "__name__" 165 (.str "spinboard.marks" 346))::y3_9 P) 22
def X7i(P:Pz):List Value:=X7j P++[(.int 18 0),(.int 0 0),(.ref 112),(.int 23 0),(.int 0 0),(.ref 131),(.int 27 0),(.int 0 0),(.ref 138),(.int 34 0),(.int 0 0),(.ref 145),(.int 38 0),(.int 0 0),(.ref 152)]
def W2i(P:Pz):=ob12 (X7i P)
def X6a(P:Pz):=Obj.mk (.type "type") none (Data.cls (ClassData.mk "BoardError" [(.type "ValueError")] [(.ref 24),(.type "ValueError"),(.type "Exception"),(.type "BaseException"),(.type "object")] 23 "BoardError" true [] [(.ref 37),(.ref 49),(.ref 61),(.ref 73),(.ref 85),(.ref 104),(.ref 123)] false none false)) #[(some (.ref 15)),none,(some (.str "BoardError" 189)),(some (.str "BoardError" 197)),(some (.builtin "ValueError.__new__")),(some (.bool true))]
def j109(P:Pz):=ob3 [(dn P "__module__" 319 (.str "spinboard.errors" 187)),(dn P "__qualname__" 321 (.str "NotBorne" 320)),(dn P "__firstlineno__" 323 (.int 18 322)),(dn P "__init__" 331 (.ref 120)),(dn P "__static_attributes__" 333 (.ref 121))] 5
noncomputable def j111(P:Pz):=Obj.mk .none none (Data.fields #[(.int 20 0),(.int 4 0),(.ref 119)]) #[]
def j112(P:Pz):=(cob "NotBorne" 314 "NotBorne" 315 316 18 0 0 0 0 110 false 181 111 .none .none .none 317 18 318)
noncomputable def j113(P:Pz):=Obj.mk (.type "frame") none Data.plain #[(some (.ref 112)),(some (.ref 3)),(some (.ref 109)),none,(some (.str "spinboard.errors" 187)),none,(some (.ref 0))]
def j116(P:Pz):=tq #[(.str "self" 327),(.str "place" 328)]
def j118(P:Pz):=(fo1 "__init__" "NotBorne.__init__" (Z4f (top 8) 0) 0 0)
def j119(P:Pz):=(cob "__init__" 324 "NotBorne.__init__" 325 326 20 2 0 0 3 114 true 181 115 (.ref 116) (.ref 117) (.ref 118) 329 20 330)
def j120(P:Pz):=(fo2 "__init__" "NotBorne.__init__" (Z4f (top 8) 0) 3 "spinboard.errors" 187 119 0)
def j121(P:Pz):=tq #[(.str "place" 332)]
def j122(P:Pz):=ob3 [(dn P "__module__" 319 (.str "spinboard.errors" 187)),(dn P "__firstlineno__" 323 (.int 18 322)),(dn P "__init__" 331 (.ref 120)),(dn P "__static_attributes__" 333 (.ref 121)),(dn P "__doc__" 334 .none)] 2
noncomputable def j123(P:Pz):=Obj.mk (.type "type") none (Data.cls (ClassData.mk "NotBorne" [(.ref 24)] [(.ref 123),(.ref 24),(.type "ValueError"),(.type "Exception"),(.type "BaseException"),(.type "object")] 122 "NotBorne" true [] [] false none false)) #[(some (.ref 107)),none,(some (.str "NotBorne" 312)),(some (.str "NotBorne" 320)),(some (.builtin "ValueError.__new__")),(some (.bool true))]
noncomputable def j124(P:Pz):=Obj.mk (.type "super") none (Data.fields #[(.ref 123),(.ref 123),(.ref 123)]) #[]
noncomputable def j125(P:Pz):=Obj.mk (.type "builtin_function_or_method") none (Data.fields #[(.builtin "object.__init_subclass__"),(.ref 123)]) #[]
def j128(P:Pz):=tq #[(.str "thing" 342)]
def j130(P:Pz):=(fo1 "is_whole" "is_whole" (top 10) 0 0)
def j131(P:Pz):=(cob "is_whole" 339 "is_whole" 340 341 23 1 0 0 3 126 true 181 127 (.ref 128) (.ref 129) (.ref 130) 343 23 344)
def j132(P:Pz):=(fo2 "is_whole" "is_whole" (top 10) 3 "spinboard.shares" 337 131 0)
def j135(P:Pz):=tq #[(.str "number" 353),(.str "many" 354),(.str "rest" 355)]
def j137(P:Pz):=(fo1 "ones" "ones" (top 13) 0 0)
def j138(P:Pz):=(cob "ones" 350 "ones" 351 352 27 1 0 0 3 133 true 181 134 (.ref 135) (.ref 136) (.ref 137) 356 27 357)
def j139(P:Pz):=(fo2 "ones" "ones" (top 13) 3 "spinboard.marks" 346 138 0)
def j142(P:Pz):=tq #[(.str "thing" 362),(.str "cells" 363)]
def j144(P:Pz):=(fo1 "is_word" "is_word" (top 14) 0 0)
def j145(P:Pz):=(cob "is_word" 359 "is_word" 360 361 34 2 0 0 3 140 true 181 141 (.ref 142) (.ref 143) (.ref 144) 364 34 365)
def j146(P:Pz):=(fo2 "is_word" "is_word" (top 14) 3 "spinboard.marks" 346 145 0)
def j149(P:Pz):=tq #[(.str "thing" 370),(.str "cells" 371)]
def j151(P:Pz):=(fo1 "is_mark" "is_mark" (top 15) 0 0)
def j152(P:Pz):=(cob "is_mark" 367 "is_mark" 368 369 38 2 0 0 3 147 true 181 148 (.ref 149) (.ref 150) (.ref 151) 372 38 373)
def j153(P:Pz):=(fo2 "is_mark" "is_mark" (top 15) 3 "spinboard.marks" 346 152 0)
def x8(P:Pz):List Obj:=[j28 P,j16 P,j109 P,tz,j111 P,j112 P,j113 P,tz,nf0,j116 P,tz,j118 P,j119 P,j120 P,j121 P,j122 P,j123 P,j124 P,j125 P,tz,nf0,j128 P,tz,j130 P,j131 P,j132 P,tz,nf0,j135 P,tz,j137 P,j138 P,j139 P,tz,nf0,j142 P,tz,j144 P,j145 P,j146 P,tz,nf0,j149 P,tz,j151 P,j152 P,j153 P]
def T8 (P:Pz):BT:=iF (iL (T7 P) [(3,j3_9 P),(12,W2i P),(24,X6a P)]) 107 (x8 P)
theorem g7 (p:U8)(b:W8)(w:W1)(os:OsState):segRunT treeTable p w 11 (some (.ref 6)) 1 393 (SharedT.mk (T7 w.params) 107 life (Array.mk []) (Drawn.mk 0 0 0 0) 312 os) (piecesOf l7 en (Code.body b en) (Pos.mk 14 0 17 26) BB)=some (Flow.next,(SharedT.mk (T8 w.params) 154 life (Array.mk []) (Drawn.mk 0 0 0 0) 375 os),Code.body b en,(Pos.mk 38 0 43 64)):=by rw[PySem.W.Fast.te10110043849684766642,PySem.W.Fast.te14364793385576792824];kernel_rfl
def X7h(P:Pz):List DictEntry:=y3_9 P++[(dn P "is_even" 381 (.ref 160)),(dn P "is_even_mark" 389 (.ref 167)),(dn P "commute" 397 (.ref 174)),(dn P "product" 406 (.ref 181)),(dn P "turned_about" 413 (.ref 188)),(dn P "cell_sign" 423 (.ref 195)),(dn P "halved_out" 439 (.ref 202)),(dn P "plus" 445 (.ref 207)),(dn P "minus" 453 (.ref 214)),(dn P "spun" 463 (.ref 221)),(dn P "spun_once" 470 (.ref 228)),(dn P "rooted" 477 (.ref 235)),(dn P "NOUGHT" 485 (.ref 236))]
def W2a(P:Pz):=ob3 ((dn P "__name__" 165 (.str "spinboard.boards" 478))::X7h P) 35
def X2g(P:Pz):List Value:=X7i P++[(.int 44 0),(.int 0 0),(.ref 159),(.int 46 0),(.int 0 0),(.ref 166),(.int 48 0),(.int 0 0),(.ref 173),(.int 50 0),(.int 0 0),(.ref 180),(.int 53 0),(.int 0 0),(.ref 187),(.int 55 0),(.int 0 0),(.ref 194),(.int 60 0),(.int 0 0),(.ref 201),(.int 67 0),(.int 0 0),(.ref 206),(.int 73 0),(.int 0 0),(.ref 213),(.int 75 0),(.int 0 0),(.ref 220),(.int 80 0),(.int 0 0),(.ref 227),(.int 82 0),(.int 0 0),(.ref 234)]
def W0c(P:Pz):=ob12 (X2g P)
def j156(P:Pz):=tq #[(.str "mark" 378)]
def j158(P:Pz):=(fo1 "is_even" "is_even" (top 16) 0 0)
def j159(P:Pz):=(cob "is_even" 375 "is_even" 376 377 44 1 0 0 3 154 true 181 155 (.ref 156) (.ref 157) (.ref 158) 379 44 380)
def j160(P:Pz):=(fo2 "is_even" "is_even" (top 16) 3 "spinboard.marks" 346 159 0)
def j163(P:Pz):=tq #[(.str "thing" 385),(.str "cells" 386)]
def j165(P:Pz):=(fo1 "is_even_mark" "is_even_mark" (top 17) 0 0)
def j166(P:Pz):=(cob "is_even_mark" 382 "is_even_mark" 383 384 46 2 0 0 3 161 true 181 162 (.ref 163) (.ref 164) (.ref 165) 387 46 388)
def j167(P:Pz):=(fo2 "is_even_mark" "is_even_mark" (top 17) 3 "spinboard.marks" 346 166 0)
def j170(P:Pz):=tq #[(.str "one" 393),(.str "other" 394)]
def j172(P:Pz):=(fo1 "commute" "commute" (top 18) 0 0)
def j173(P:Pz):=(cob "commute" 390 "commute" 391 392 48 2 0 0 3 168 true 181 169 (.ref 170) (.ref 171) (.ref 172) 395 48 396)
def j174(P:Pz):=(fo2 "commute" "commute" (top 18) 3 "spinboard.marks" 346 173 0)
def j177(P:Pz):=tq #[(.str "one" 401),(.str "other" 402),(.str "met" 403)]
def j179(P:Pz):=(fo1 "product" "product" (top 19) 0 0)
def j180(P:Pz):=(cob "product" 398 "product" 399 400 50 2 0 0 3 175 true 181 176 (.ref 177) (.ref 178) (.ref 179) 404 50 405)
def j181(P:Pz):=(fo2 "product" "product" (top 19) 3 "spinboard.marks" 346 180 0)
def j184(P:Pz):=tq #[(.str "mark" 410)]
def j186(P:Pz):=(fo1 "turned_about" "turned_about" (top 20) 0 0)
def j187(P:Pz):=(cob "turned_about" 407 "turned_about" 408 409 53 1 0 0 3 182 true 181 183 (.ref 184) (.ref 185) (.ref 186) 411 53 412)
def j188(P:Pz):=(fo2 "turned_about" "turned_about" (top 20) 3 "spinboard.marks" 346 187 0)
def j191(P:Pz):=tq #[(.str "mark" 417),(.str "cell" 418),(.str "flip" 419),(.str "sign" 420)]
def j193(P:Pz):=(fo1 "cell_sign" "cell_sign" (top 21) 0 0)
def j194(P:Pz):=(cob "cell_sign" 414 "cell_sign" 415 416 55 2 0 0 3 189 true 181 190 (.ref 191) (.ref 192) (.ref 193) 421 55 422)
def j195(P:Pz):=(fo2 "cell_sign" "cell_sign" (top 21) 3 "spinboard.marks" 346 194 0)
def j198(P:Pz):=tq #[(.str "a" 429),(.str "b" 430),(.str "c" 431),(.str "d" 432),(.str "h" 433),(.str "places" 434),(.str "lowest" 435),(.str "less" 436)]
def j200(P:Pz):=(fo1 "halved_out" "halved_out" (top 23) 0 0)
def j201(P:Pz):=(cob "halved_out" 426 "halved_out" 427 428 60 5 0 0 3 196 true 181 197 (.ref 198) (.ref 199) (.ref 200) 437 60 438)
def j202(P:Pz):=(fo2 "halved_out" "halved_out" (top 23) 3 "spinboard.amounts" 424 201 0)
def j205(P:Pz):=(fo1 "plus" "plus" (top 24) 0 0)
def j206(P:Pz):=(cob "plus" 440 "plus" 441 442 67 2 0 0 3 203 true 181 204 .none .none (.ref 205) 443 67 444)
def j207(P:Pz):=(fo2 "plus" "plus" (top 24) 3 "spinboard.amounts" 424 206 0)
def j210(P:Pz):=tq #[(.str "one" 449),(.str "other" 450)]
def j212(P:Pz):=(fo1 "minus" "minus" (top 25) 0 0)
def j213(P:Pz):=(cob "minus" 446 "minus" 447 448 73 2 0 0 3 208 true 181 209 (.ref 210) (.ref 211) (.ref 212) 451 73 452)
def j214(P:Pz):=(fo2 "minus" "minus" (top 25) 3 "spinboard.amounts" 424 213 0)
def j217(P:Pz):=tq #[(.str "one" 457),(.str "k" 458),(.str "turning" 459),(.str "step" 460)]
def j219(P:Pz):=(fo1 "spun" "spun" (top 26) 0 0)
def j220(P:Pz):=(cob "spun" 454 "spun" 455 456 75 2 0 0 3 215 true 181 216 (.ref 217) (.ref 218) (.ref 219) 461 75 462)
def j221(P:Pz):=(fo2 "spun" "spun" (top 26) 3 "spinboard.amounts" 424 220 0)
def j224(P:Pz):=tq #[(.str "one" 467)]
def j226(P:Pz):=(fo1 "spun_once" "spun_once" (top 27) 0 0)
def j227(P:Pz):=(cob "spun_once" 464 "spun_once" 465 466 80 1 0 0 3 222 true 181 223 (.ref 224) (.ref 225) (.ref 226) 468 80 469)
def j228(P:Pz):=(fo2 "spun_once" "spun_once" (top 27) 3 "spinboard.amounts" 424 227 0)
def j231(P:Pz):=tq #[(.str "one" 474)]
def j233(P:Pz):=(fo1 "rooted" "rooted" (top 28) 0 0)
def j234(P:Pz):=(cob "rooted" 471 "rooted" 472 473 82 1 0 0 3 229 true 181 230 (.ref 231) (.ref 232) (.ref 233) 475 82 476)
def j235(P:Pz):=(fo2 "rooted" "rooted" (top 28) 3 "spinboard.amounts" 424 234 0)
def j236(P:Pz):=tq #[(.int 0 480),(.int 0 481),(.int 0 482),(.int 0 483),(.int 0 484)]
def x9(P:Pz):List Obj:=[tz,nf0,j156 P,tz,j158 P,j159 P,j160 P,tz,nf0,j163 P,tz,j165 P,j166 P,j167 P,tz,nf0,j170 P,tz,j172 P,j173 P,j174 P,tz,nf0,j177 P,tz,j179 P,j180 P,j181 P,tz,nf0,j184 P,tz,j186 P,j187 P,j188 P,tz,nf0,j191 P,tz,j193 P,j194 P,j195 P,tz,nf0,j198 P,tz,j200 P,j201 P,j202 P,tz,nf0,j205 P,j206 P,j207 P,tz,nf0,j210 P,tz,j212 P,j213 P,j214 P,tz,nf0,j217 P,tz,j219 P,j220 P,j221 P,tz,nf0,j224 P,tz,j226 P,j227 P,j228 P,tz,nf0,j231 P,tz,j233 P,j234 P,j235 P,j236 P]
def T9 (P:Pz):BT:=iF (iL (T8 P) [(3,W2a P),(12,W0c P)]) 154 (x9 P)
theorem g8 (p:U8)(b:W8)(w:W1)(os:OsState):segRunT treeTable p w 11 (some (.ref 6)) 1 397 (SharedT.mk (T8 w.params) 154 life (Array.mk []) (Drawn.mk 0 0 0 0) 375 os) (piecesOf l8 en (Code.body b en) (Pos.mk 38 0 43 64) BB)=some (Flow.next,(SharedT.mk (T9 w.params) 237 life (Array.mk []) (Drawn.mk 0 0 0 0) 486 os),Code.body b en,(Pos.mk 85 0 85 6)):=by rw[PySem.W.Fast.te10110043849684766642,PySem.W.Fast.te14364793385576792824];kernel_rfl
def X7g(P:Pz):List DictEntry:=X7h P++[(dn P "ONE" 491 (.ref 237)),(dn P "MOST_CELLS" 493 (.int 6 492)),(dn P "start" 500 (.ref 243)),(dn P "check_beginning" 508 (.ref 250)),(dn P "cells_of" 515 (.ref 257)),(dn P "laid_on" 521 (.ref 262)),(dn P "spun_by_mark" 530 (.ref 269)),(dn P "NUMBERS_BEHIND" 554 (.ref 270)),(dn P "check_move" 560 (.ref 275)),(dn P "has_move_form" 566 (.ref 280)),(dn P "named_cells" 573 (.ref 287)),(dn P "turned" 579 (.ref 292))]
def W1z(P:Pz):=ob3 ((dn P "__name__" 165 (.str "spinboard.moves" 531))::X7g P) 47
def X2f(P:Pz):List Value:=X2g P++[(.int 88 0),(.int 0 0),(.ref 242),(.int 91 0),(.int 0 0),(.ref 249),(.int 96 0),(.int 0 0),(.ref 256),(.int 98 0),(.int 0 0),(.ref 261),(.int 100 0),(.int 0 0),(.ref 268),(.int 104 0),(.int 0 0),(.ref 274),(.int 113 0),(.int 0 0),(.ref 279),(.int 123 0),(.int 0 0),(.ref 286),(.int 125 0),(.int 0 0),(.ref 291)]
def W0b(P:Pz):=ob12 (X2f P)
def j237(P:Pz):=tq #[(.int 1 486),(.int 0 487),(.int 0 488),(.int 0 489),(.int 0 490)]
def j238(P:Pz):=tq #[(.int 0 494)]
def j241(P:Pz):=(fo1 "start" "start" (top 33) 0 0)
def j242(P:Pz):=(cob "start" 495 "start" 496 497 88 2 0 0 3 239 true 181 240 .none .none (.ref 241) 498 88 499)
noncomputable def j243(P:Pz):=Obj.mk (.type "function") none (Data.func (FuncData.mk "start" "start" (Z1f (top 33)) (FuncBody.stmts (Z1c (top 33))) (Z0h (top 33)) 3 [] (.ref 238) .none .none (.str "spinboard.boards" 478) none (.ref 242) .none 0)) #[]
def j246(P:Pz):=tq #[(.str "cells" 504),(.str "word" 505)]
def j248(P:Pz):=(fo1 "check_beginning" "check_beginning" (top 34) 0 0)
def j249(P:Pz):=(cob "check_beginning" 501 "check_beginning" 502 503 91 2 0 0 3 244 true 181 245 (.ref 246) (.ref 247) (.ref 248) 506 91 507)
def j250(P:Pz):=(fo2 "check_beginning" "check_beginning" (top 34) 3 "spinboard.boards" 478 249 0)
def j253(P:Pz):=tq #[(.str "board" 512)]
def j255(P:Pz):=(fo1 "cells_of" "cells_of" (top 35) 0 0)
def j256(P:Pz):=(cob "cells_of" 509 "cells_of" 510 511 96 1 0 0 3 251 true 181 252 (.ref 253) (.ref 254) (.ref 255) 513 96 514)
def j257(P:Pz):=(fo2 "cells_of" "cells_of" (top 35) 3 "spinboard.boards" 478 256 0)
def j260(P:Pz):=(fo1 "laid_on" "laid_on" (top 36) 0 0)
def j261(P:Pz):=(cob "laid_on" 516 "laid_on" 517 518 98 2 0 0 3 258 true 181 259 .none .none (.ref 260) 519 98 520)
def j262(P:Pz):=(fo2 "laid_on" "laid_on" (top 36) 3 "spinboard.boards" 478 261 0)
def j265(P:Pz):=tq #[(.str "board" 525),(.str "word" 526),(.str "mark" 527)]
def j267(P:Pz):=(fo1 "spun_by_mark" "spun_by_mark" (top 37) 0 0)
def j268(P:Pz):=(cob "spun_by_mark" 522 "spun_by_mark" 523 524 100 3 0 0 3 263 true 181 264 (.ref 265) (.ref 266) (.ref 267) 528 100 529)
def j269(P:Pz):=(fo2 "spun_by_mark" "spun_by_mark" (top 37) 3 "spinboard.boards" 478 268 0)
def j270(P:Pz):=ob3 [(dn P "flip" 533 (.int 1 534)),(dn P "mix" 535 (.int 1 536)),(dn P "turn" 537 (.int 2 538)),(dn P "if" 539 (.int 2 540)),(dn P "pair" 541 (.int 2 542)),(dn P "swap" 543 (.int 2 544)),(dn P "cross" 545 (.int 3 546))] 7
def j273(P:Pz):=(fo1 "check_move" "check_move" (top 40) 0 0)
def j274(P:Pz):=(cob "check_move" 555 "check_move" 556 557 104 2 0 0 3 271 true 181 272 .none .none (.ref 273) 558 104 559)
def j275(P:Pz):=(fo2 "check_move" "check_move" (top 40) 3 "spinboard.moves" 531 274 0)
def j278(P:Pz):=(fo1 "has_move_form" "has_move_form" (top 41) 0 0)
def j279(P:Pz):=(cob "has_move_form" 561 "has_move_form" 562 563 113 1 0 0 3 276 true 181 277 .none .none (.ref 278) 564 113 565)
def j280(P:Pz):=(fo2 "has_move_form" "has_move_form" (top 41) 3 "spinboard.moves" 531 279 0)
def j283(P:Pz):=tq #[(.str "move" 570)]
noncomputable def j285(P:Pz):=Obj.mk .none none (Data.func (FuncData.mk "named_cells" "named_cells" (Z1f (top 42)) (FuncBody.stmts (Z1c (top 42))) (Z0h (top 68)) 0 [] .none .none .none .none none .none .none 0)) #[]
def j286(P:Pz):=(cob "named_cells" 567 "named_cells" 568 569 123 1 0 0 3 281 true 181 282 (.ref 283) (.ref 284) (.ref 285) 571 123 572)
noncomputable def j287(P:Pz):=Obj.mk (.type "function") none (Data.func (FuncData.mk "named_cells" "named_cells" (Z1f (top 42)) (FuncBody.stmts (Z1c (top 42))) (Z0h (top 68)) 3 [] .none .none .none (.str "spinboard.moves" 531) none (.ref 286) .none 0)) #[]
def j290(P:Pz):=(fo1 "turned" "turned" (top 43) 0 0)
def j291(P:Pz):=(cob "turned" 574 "turned" 575 576 125 2 0 0 3 288 true 181 289 .none .none (.ref 290) 577 125 578)
def j292(P:Pz):=(fo2 "turned" "turned" (top 43) 3 "spinboard.moves" 531 291 0)
def x10(P:Pz):List Obj:=[j237 P,j238 P,tz,nf0,j241 P,j242 P,j243 P,tz,nf0,j246 P,tz,j248 P,j249 P,j250 P,tz,nf0,j253 P,tz,j255 P,j256 P,j257 P,tz,nf0,j260 P,j261 P,j262 P,tz,nf0,j265 P,tz,j267 P,j268 P,j269 P,j270 P,tz,nf0,j273 P,j274 P,j275 P,tz,nf0,j278 P,j279 P,j280 P,tz,nf0,j283 P,tz,j285 P,j286 P,j287 P,tz,nf0,j290 P,j291 P,j292 P]
def T10 (P:Pz):BT:=iF (iL (T9 P) [(3,W1z P),(12,W0b P)]) 237 (x10 P)
theorem g9 (p:U8)(b:W8)(w:W1)(os:OsState):segRunT treeTable p w 11 (some (.ref 6)) 1 400 (SharedT.mk (T9 w.params) 237 life (Array.mk []) (Drawn.mk 0 0 0 0) 486 os) (piecesOf l9 en (Code.body b en) (Pos.mk 85 0 85 6) BB)=some (Flow.next,(SharedT.mk (T10 w.params) 293 life (Array.mk []) (Drawn.mk 0 0 0 0) 580 os),Code.body b en,(Pos.mk 125 0 133 73)) :=
 (byRow2 "special-get-raises" (P:=λw=>(λw:World=>segRunT treeTable p w 11 (some (.ref 6)) 1 400 (SharedT.mk (T9 w.params) 237 life (Array.mk []) (Drawn.mk 0 0 0 0) 486 os) (piecesOf l9 en (Code.body b en) (Pos.mk 85 0 85 6) BB)=some (Flow.next,(SharedT.mk (T10 w.params) 293 life (Array.mk []) (Drawn.mk 0 0 0 0) 580 os),Code.body b en,(Pos.mk 125 0 133 73))) w) (λw=>by show (λw:World=>segRunT treeTable p w 11 (some (.ref 6)) 1 400 (SharedT.mk (T9 w.params) 237 life (Array.mk []) (Drawn.mk 0 0 0 0) 486 os) (piecesOf l9 en (Code.body b en) (Pos.mk 85 0 85 6) BB)=some (Flow.next,(SharedT.mk (T10 w.params) 293 life (Array.mk []) (Drawn.mk 0 0 0 0) 580 os),Code.body b en,(Pos.mk 125 0 133 73))) (World.withFollow w "special-get-raises" false);rw[PySem.W.Fast.te10110043849684766642,PySem.W.Fast.te14364793385576792824];kernel_rfl) (λw=>by show (λw:World=>segRunT treeTable p w 11 (some (.ref 6)) 1 400 (SharedT.mk (T9 w.params) 237 life (Array.mk []) (Drawn.mk 0 0 0 0) 486 os) (piecesOf l9 en (Code.body b en) (Pos.mk 85 0 85 6) BB)=some (Flow.next,(SharedT.mk (T10 w.params) 293 life (Array.mk []) (Drawn.mk 0 0 0 0) 580 os),Code.body b en,(Pos.mk 125 0 133 73))) (World.withFollow w "special-get-raises" true);rw[PySem.W.Fast.te10110043849684766642,PySem.W.Fast.te14364793385576792824];kernel_rfl)) w
def X7f(P:Pz):List DictEntry:=X7g P++[(dn P "mixed" 585 (.ref 297)),(dn P "mixed_at" 594 (.ref 304)),(dn P "spun_where" 600 (.ref 309)),(dn P "word_behind" 606 (.ref 314)),(dn P "exchanged" 616 (.ref 321)),(dn P "back_move" 623 (.ref 328)),(dn P "solved" 636 (.ref 335)),(dn P "cleared" 646 (.ref 342)),(dn P "places_at_one" 652 (.ref 347)),(dn P "solution" 662 (.ref 354)),(dn P "PRODUCT_OF_NONE" 668 (.ref 355)),(dn P "is_table" 674 (.ref 360)),(dn P "commutes_with_all" 680 (.ref 365))]
def W1y(P:Pz):=ob3 ((dn P "__name__" 165 (.str "spinboard.tables" 663))::X7f P) 60
def X2e(P:Pz):List Value:=X2f P++[(.int 134 0),(.int 0 0),(.ref 296),(.int 136 0),(.int 0 0),(.ref 303),(.int 140 0),(.int 0 0),(.ref 308),(.int 142 0),(.int 0 0),(.ref 313),(.int 153 0),(.int 0 0),(.ref 320),(.int 156 0),(.int 0 0),(.ref 327),(.int 161 0),(.int 0 0),(.ref 334),(.int 170 0),(.int 0 0),(.ref 341),(.int 176 0),(.int 0 0),(.ref 346),(.int 178 0),(.int 0 0),(.ref 353),(.int 187 0),(.int 0 0),(.ref 359),(.int 195 0),(.int 0 0),(.ref 364)]
def W0a(P:Pz):=ob12 (X2e P)
def j295(P:Pz):=(fo1 "mixed" "mixed" (top 44) 0 0)
def j296(P:Pz):=(cob "mixed" 580 "mixed" 581 582 134 2 0 0 3 293 true 181 294 .none .none (.ref 295) 583 134 584)
def j297(P:Pz):=(fo2 "mixed" "mixed" (top 44) 3 "spinboard.moves" 531 296 0)
def j300(P:Pz):=tq #[(.str "board" 589),(.str "word" 590),(.str "bit" 591)]
def j302(P:Pz):=(fo1 "mixed_at" "mixed_at" (top 45) 0 0)
def j303(P:Pz):=(cob "mixed_at" 586 "mixed_at" 587 588 136 3 0 0 3 298 true 181 299 (.ref 300) (.ref 301) (.ref 302) 592 136 593)
def j304(P:Pz):=(fo2 "mixed_at" "mixed_at" (top 45) 3 "spinboard.moves" 531 303 0)
def j307(P:Pz):=(fo1 "spun_where" "spun_where" (top 46) 0 0)
def j308(P:Pz):=(cob "spun_where" 595 "spun_where" 596 597 140 3 0 0 3 305 true 181 306 .none .none (.ref 307) 598 140 599)
def j309(P:Pz):=(fo2 "spun_where" "spun_where" (top 46) 3 "spinboard.moves" 531 308 0)
def j312(P:Pz):=(fo1 "word_behind" "word_behind" (top 47) 0 0)
def j313(P:Pz):=(cob "word_behind" 601 "word_behind" 602 603 142 2 0 0 3 310 true 181 311 .none .none (.ref 312) 604 142 605)
def j314(P:Pz):=(fo2 "word_behind" "word_behind" (top 47) 3 "spinboard.moves" 531 313 0)
def j317(P:Pz):=tq #[(.str "word" 610),(.str "bit" 611),(.str "other" 612),(.str "both" 613)]
def j319(P:Pz):=(fo1 "exchanged" "exchanged" (top 48) 0 0)
def j320(P:Pz):=(cob "exchanged" 607 "exchanged" 608 609 153 3 0 0 3 315 true 181 316 (.ref 317) (.ref 318) (.ref 319) 614 153 615)
def j321(P:Pz):=(fo2 "exchanged" "exchanged" (top 48) 3 "spinboard.moves" 531 320 0)
def j324(P:Pz):=tq #[(.str "move" 620)]
noncomputable def j326(P:Pz):=Obj.mk .none none (Data.func (FuncData.mk "back_move" "back_move" (Z1f (top 49)) (FuncBody.stmts (Z1c (top 49))) (Z0h (top 68)) 0 [] .none .none .none .none none .none .none 0)) #[]
def j327(P:Pz):=(cob "back_move" 617 "back_move" 618 619 156 1 0 0 3 322 true 181 323 (.ref 324) (.ref 325) (.ref 326) 621 156 622)
noncomputable def j328(P:Pz):=Obj.mk (.type "function") none (Data.func (FuncData.mk "back_move" "back_move" (Z1f (top 49)) (FuncBody.stmts (Z1c (top 49))) (Z0h (top 68)) 3 [] .none .none .none (.str "spinboard.moves" 531) none (.ref 327) .none 0)) #[]
def j331(P:Pz):=tq #[(.str "equations" 629),(.str "kept" 630),(.str "place" 631),(.str "equation" 632),(.str "left" 633)]
def j333(P:Pz):=(fo1 "solved" "solved" (top 51) 0 0)
def j334(P:Pz):=(cob "solved" 626 "solved" 627 628 161 1 0 0 3 329 true 181 330 (.ref 331) (.ref 332) (.ref 333) 634 161 635)
def j335(P:Pz):=(fo2 "solved" "solved" (top 51) 3 "spinboard.bits" 624 334 0)
def j338(P:Pz):=tq #[(.str "equation" 640),(.str "kept" 641),(.str "left" 642),(.str "other" 643)]
def j340(P:Pz):=(fo1 "cleared" "cleared" (top 52) 0 0)
def j341(P:Pz):=(cob "cleared" 637 "cleared" 638 639 170 2 0 0 3 336 true 181 337 (.ref 338) (.ref 339) (.ref 340) 644 170 645)
def j342(P:Pz):=(fo2 "cleared" "cleared" (top 52) 3 "spinboard.bits" 624 341 0)
def j345(P:Pz):=(fo1 "places_at_one" "places_at_one" (top 53) 0 0)
def j346(P:Pz):=(cob "places_at_one" 647 "places_at_one" 648 649 176 1 0 0 3 343 true 181 344 .none .none (.ref 345) 650 176 651)
def j347(P:Pz):=(fo2 "places_at_one" "places_at_one" (top 53) 3 "spinboard.bits" 624 346 0)
def j350(P:Pz):=tq #[(.str "kept" 656),(.str "x" 657),(.str "height" 658),(.str "equation" 659)]
def j352(P:Pz):=(fo1 "solution" "solution" (top 54) 0 0)
def j353(P:Pz):=(cob "solution" 653 "solution" 654 655 178 1 0 0 3 348 true 181 349 (.ref 350) (.ref 351) (.ref 352) 660 178 661)
def j354(P:Pz):=(fo2 "solution" "solution" (top 54) 3 "spinboard.bits" 624 353 0)
def j355(P:Pz):=tq #[(.int 0 665),(.int 0 666),(.int 0 667)]
def j358(P:Pz):=(fo1 "is_table" "is_table" (top 57) 0 0)
def j359(P:Pz):=(cob "is_table" 669 "is_table" 670 671 187 2 0 0 3 356 true 181 357 .none .none (.ref 358) 672 187 673)
def j360(P:Pz):=(fo2 "is_table" "is_table" (top 57) 3 "spinboard.tables" 663 359 0)
def j363(P:Pz):=(fo1 "commutes_with_all" "commutes_with_all" (top 58) 0 0)
def j364(P:Pz):=(cob "commutes_with_all" 675 "commutes_with_all" 676 677 195 2 0 0 3 361 true 181 362 .none .none (.ref 363) 678 195 679)
def j365(P:Pz):=(fo2 "commutes_with_all" "commutes_with_all" (top 58) 3 "spinboard.tables" 663 364 0)
def x11(P:Pz):List Obj:=[tz,nf0,j295 P,j296 P,j297 P,tz,nf0,j300 P,tz,j302 P,j303 P,j304 P,tz,nf0,j307 P,j308 P,j309 P,tz,nf0,j312 P,j313 P,j314 P,tz,nf0,j317 P,tz,j319 P,j320 P,j321 P,tz,nf0,j324 P,tz,j326 P,j327 P,j328 P,tz,nf0,j331 P,tz,j333 P,j334 P,j335 P,tz,nf0,j338 P,tz,j340 P,j341 P,j342 P,tz,nf0,j345 P,j346 P,j347 P,tz,nf0,j350 P,tz,j352 P,j353 P,j354 P,j355 P,tz,nf0,j358 P,j359 P,j360 P,tz,nf0,j363 P,j364 P,j365 P]
def T11 (P:Pz):BT:=iF (iL (T10 P) [(3,W1y P),(12,W0a P)]) 293 (x11 P)
theorem g10 (p:U8)(b:W8)(w:W1)(os:OsState):segRunT treeTable p w 11 (some (.ref 6)) 1 377 (SharedT.mk (T10 w.params) 293 life (Array.mk []) (Drawn.mk 0 0 0 0) 580 os) (piecesOf l10 en (Code.body b en) (Pos.mk 125 0 133 73) BB)=some (Flow.next,(SharedT.mk (T11 w.params) 366 life (Array.mk []) (Drawn.mk 0 0 0 0) 681 os),Code.body b en,(Pos.mk 195 0 196 52)):=by rw[PySem.W.Fast.te10110043849684766642,PySem.W.Fast.te14364793385576792824];kernel_rfl
def X7e(P:Pz):List DictEntry:=X7f P++[(dn P "check_table" 688 (.ref 372)),(dn P "least_cell" 695 (.ref 379)),(dn P "made_of" 701 (.ref 384)),(dn P "rows_with" 707 (.ref 389)),(dn P "product_of" 716 (.ref 396)),(dn P "apart_by" 722 (.ref 401)),(dn P "borne" 733 (.ref 408)),(dn P "is_borne" 740 (.ref 415)),(dn P "is_odd_turn" 747 (.ref 422)),(dn P "moved_mark" 755 (.ref 429)),(dn P "check_borne" 763 (.ref 436)),(dn P "moved_through" 773 (.ref 443)),(dn P "moved_by" 783 (.ref 450))]
def W1x(P:Pz):=ob3 ((dn P "__name__" 165 (.str "spinboard.tableturns" 723))::X7e P) 73
def X2d(P:Pz):List Value:=X2e P++[(.int 197 0),(.int 0 0),(.ref 371),(.int 200 0),(.int 0 0),(.ref 378),(.int 202 0),(.int 0 0),(.ref 383),(.int 211 0),(.int 0 0),(.ref 388),(.int 213 0),(.int 0 0),(.ref 395),(.int 218 0),(.int 0 0),(.ref 400),(.int 223 0),(.int 0 0),(.ref 407),(.int 228 0),(.int 0 0),(.ref 414),(.int 230 0),(.int 0 0),(.ref 421),(.int 232 0),(.int 0 0),(.ref 428),(.int 235 0),(.int 0 0),(.ref 435),(.int 239 0),(.int 0 0),(.ref 442),(.int 244 0),(.int 0 0),(.ref 449)]
def X9z(P:Pz):=ob12 (X2d P)
def j368(P:Pz):=tq #[(.str "rows" 684),(.str "cells" 685)]
def j370(P:Pz):=(fo1 "check_table" "check_table" (top 59) 0 0)
def j371(P:Pz):=(cob "check_table" 681 "check_table" 682 683 197 2 0 0 3 366 true 181 367 (.ref 368) (.ref 369) (.ref 370) 686 197 687)
def j372(P:Pz):=(fo2 "check_table" "check_table" (top 59) 3 "spinboard.tables" 663 371 0)
def j375(P:Pz):=tq #[(.str "word" 692)]
def j377(P:Pz):=(fo1 "least_cell" "least_cell" (top 60) 0 0)
def j378(P:Pz):=(cob "least_cell" 689 "least_cell" 690 691 200 1 0 0 3 373 true 181 374 (.ref 375) (.ref 376) (.ref 377) 693 200 694)
def j379(P:Pz):=(fo2 "least_cell" "least_cell" (top 60) 3 "spinboard.tables" 663 378 0)
def j382(P:Pz):=(fo1 "made_of" "made_of" (top 61) 0 0)
def j383(P:Pz):=(cob "made_of" 696 "made_of" 697 698 202 3 0 0 3 380 true 181 381 .none .none (.ref 382) 699 202 700)
def j384(P:Pz):=(fo2 "made_of" "made_of" (top 61) 3 "spinboard.tables" 663 383 0)
def j387(P:Pz):=(fo1 "rows_with" "rows_with" (top 62) 0 0)
def j388(P:Pz):=(cob "rows_with" 702 "rows_with" 703 704 211 3 0 0 3 385 true 181 386 .none .none (.ref 387) 705 211 706)
def j389(P:Pz):=(fo2 "rows_with" "rows_with" (top 62) 3 "spinboard.tables" 663 388 0)
def j392(P:Pz):=tq #[(.str "marks" 711),(.str "made" 712),(.str "mark" 713)]
def j394(P:Pz):=(fo1 "product_of" "product_of" (top 63) 0 0)
def j395(P:Pz):=(cob "product_of" 708 "product_of" 709 710 213 1 0 0 3 390 true 181 391 (.ref 392) (.ref 393) (.ref 394) 714 213 715)
def j396(P:Pz):=(fo2 "product_of" "product_of" (top 63) 3 "spinboard.tables" 663 395 0)
def j399(P:Pz):=(fo1 "apart_by" "apart_by" (top 64) 0 0)
def j400(P:Pz):=(cob "apart_by" 717 "apart_by" 718 719 218 2 0 0 3 397 true 181 398 .none .none (.ref 399) 720 218 721)
def j401(P:Pz):=(fo2 "apart_by" "apart_by" (top 64) 3 "spinboard.tables" 663 400 0)
def j404(P:Pz):=tq #[(.str "row" 728),(.str "place" 729),(.str "move" 730)]
def j406(P:Pz):=(fo1 "borne" "borne" (top 66) 0 0)
def j407(P:Pz):=(cob "borne" 725 "borne" 726 727 223 1 0 0 3 402 true 181 403 (.ref 404) (.ref 405) (.ref 406) 731 223 732)
def j408(P:Pz):=(fo2 "borne" "borne" (top 66) 3 "spinboard.tableturns" 723 407 0)
def j411(P:Pz):=tq #[(.str "move" 737)]
def j413(P:Pz):=(fo1 "is_borne" "is_borne" (top 67) 0 0)
def j414(P:Pz):=(cob "is_borne" 734 "is_borne" 735 736 228 1 0 0 3 409 true 181 410 (.ref 411) (.ref 412) (.ref 413) 738 228 739)
def j415(P:Pz):=(fo2 "is_borne" "is_borne" (top 67) 3 "spinboard.tableturns" 723 414 0)
def j418(P:Pz):=tq #[(.str "move" 744)]
def j420(P:Pz):=(fo1 "is_odd_turn" "is_odd_turn" (top 68) 0 0)
def j421(P:Pz):=(cob "is_odd_turn" 741 "is_odd_turn" 742 743 230 1 0 0 3 416 true 181 417 (.ref 418) (.ref 419) (.ref 420) 745 230 746)
def j422(P:Pz):=(fo2 "is_odd_turn" "is_odd_turn" (top 68) 3 "spinboard.tableturns" 723 421 0)
def j425(P:Pz):=tq #[(.str "mark" 751),(.str "row" 752)]
def j427(P:Pz):=(fo1 "moved_mark" "moved_mark" (top 69) 0 0)
def j428(P:Pz):=(cob "moved_mark" 748 "moved_mark" 749 750 232 2 0 0 3 423 true 181 424 (.ref 425) (.ref 426) (.ref 427) 753 232 754)
def j429(P:Pz):=(fo2 "moved_mark" "moved_mark" (top 69) 3 "spinboard.tableturns" 723 428 0)
def j432(P:Pz):=tq #[(.str "row" 759),(.str "place" 760)]
def j434(P:Pz):=(fo1 "check_borne" "check_borne" (top 70) 0 0)
def j435(P:Pz):=(cob "check_borne" 756 "check_borne" 757 758 235 1 0 0 3 430 true 181 431 (.ref 432) (.ref 433) (.ref 434) 761 235 762)
def j436(P:Pz):=(fo2 "check_borne" "check_borne" (top 70) 3 "spinboard.tableturns" 723 435 0)
def j439(P:Pz):=tq #[(.str "mark" 767),(.str "row" 768),(.str "behind" 769),(.str "move" 770)]
def j441(P:Pz):=(fo1 "moved_through" "moved_through" (top 71) 0 0)
def j442(P:Pz):=(cob "moved_through" 764 "moved_through" 765 766 239 2 0 0 3 437 true 181 438 (.ref 439) (.ref 440) (.ref 441) 771 239 772)
def j443(P:Pz):=(fo2 "moved_through" "moved_through" (top 71) 3 "spinboard.tableturns" 723 442 0)
def j446(P:Pz):=tq #[(.str "mark" 777),(.str "move" 778),(.str "bit" 779),(.str "other" 780)]
def j448(P:Pz):=(fo1 "moved_by" "moved_by" (top 72) 0 0)
def j449(P:Pz):=(cob "moved_by" 774 "moved_by" 775 776 244 2 0 0 3 444 true 181 445 (.ref 446) (.ref 447) (.ref 448) 781 244 782)
def j450(P:Pz):=(fo2 "moved_by" "moved_by" (top 72) 3 "spinboard.tableturns" 723 449 0)
def x12(P:Pz):List Obj:=[tz,nf0,j368 P,tz,j370 P,j371 P,j372 P,tz,nf0,j375 P,tz,j377 P,j378 P,j379 P,tz,nf0,j382 P,j383 P,j384 P,tz,nf0,j387 P,j388 P,j389 P,tz,nf0,j392 P,tz,j394 P,j395 P,j396 P,tz,nf0,j399 P,j400 P,j401 P,tz,nf0,j404 P,tz,j406 P,j407 P,j408 P,tz,nf0,j411 P,tz,j413 P,j414 P,j415 P,tz,nf0,j418 P,tz,j420 P,j421 P,j422 P,tz,nf0,j425 P,tz,j427 P,j428 P,j429 P,tz,nf0,j432 P,tz,j434 P,j435 P,j436 P,tz,nf0,j439 P,tz,j441 P,j442 P,j443 P,tz,nf0,j446 P,tz,j448 P,j449 P,j450 P]
def T12 (P:Pz):BT:=iF (iL (T11 P) [(3,W1x P),(12,X9z P)]) 366 (x12 P)
theorem g11 (p:U8)(b:W8)(w:W1)(os:OsState):segRunT treeTable p w 11 (some (.ref 6)) 1 391 (SharedT.mk (T11 w.params) 366 life (Array.mk []) (Drawn.mk 0 0 0 0) 681 os) (piecesOf l11 en (Code.body b en) (Pos.mk 195 0 196 52) BB)=some (Flow.next,(SharedT.mk (T12 w.params) 451 life (Array.mk []) (Drawn.mk 0 0 0 0) 784 os),Code.body b en,(Pos.mk 244 0 257 84)):=by rw[PySem.W.Fast.te10110043849684766642,PySem.W.Fast.te14364793385576792824];kernel_rfl
def X7d(P:Pz):List DictEntry:=X7e P++[(dn P "moved_by_mix" 794 (.ref 457)),(dn P "moved_by_turn" 804 (.ref 464)),(dn P "moved_by_if" 815 (.ref 471)),(dn P "moved_by_pair" 826 (.ref 478)),(dn P "run" 838 (.ref 485)),(dn P "backward" 844 (.ref 490)),(dn P "laid" 857 (.ref 497)),(dn P "layer_to_sign" 863 (.ref 502)),(dn P "moves_to_sign" 871 (.ref 509)),(dn P "_law_cell_at" 881 (.ref 516)),(dn P "_law_whole" 888 (.ref 523)),(dn P "_law_ones" 896 (.ref 530))]
def W1w(P:Pz):=ob3 ((dn P "__name__" 165 (.str "law_spinboard_k76_laid" 872))::X7d P) 85
def X2c(P:Pz):List Value:=X2d P++[(.int 258 0),(.int 0 0),(.ref 456),(.int 263 0),(.int 0 0),(.ref 463),(.int 268 0),(.int 0 0),(.ref 470),(.int 272 0),(.int 0 0),(.ref 477),(.int 281 0),(.int 0 0),(.ref 484),(.int 286 0),(.int 0 0),(.ref 489),(.int 289 0),(.int 0 0),(.ref 496),(.int 295 0),(.int 0 0),(.ref 501),(.int 307 0),(.int 0 0),(.ref 508),(.int 312 0),(.int 0 0),(.ref 515),(.int 316 0),(.int 0 0),(.ref 522),(.int 318 0),(.int 0 0),(.ref 529)]
def X9y(P:Pz):=ob12 (X2c P)
def j453(P:Pz):=tq #[(.str "mark" 787),(.str "bit" 788),(.str "flips" 789),(.str "signs" 790),(.str "moved" 791)]
def j455(P:Pz):=(fo1 "moved_by_mix" "moved_by_mix" (top 73) 0 0)
def j456(P:Pz):=(cob "moved_by_mix" 784 "moved_by_mix" 785 786 258 2 0 0 3 451 true 181 452 (.ref 453) (.ref 454) (.ref 455) 792 258 793)
def j457(P:Pz):=(fo2 "moved_by_mix" "moved_by_mix" (top 73) 3 "spinboard.tableturns" 723 456 0)
def j460(P:Pz):=tq #[(.str "mark" 798),(.str "bit" 799),(.str "k" 800),(.str "signs" 801)]
def j462(P:Pz):=(fo1 "moved_by_turn" "moved_by_turn" (top 74) 0 0)
def j463(P:Pz):=(cob "moved_by_turn" 795 "moved_by_turn" 796 797 263 3 0 0 3 458 true 181 459 (.ref 460) (.ref 461) (.ref 462) 802 263 803)
def j464(P:Pz):=(fo2 "moved_by_turn" "moved_by_turn" (top 74) 3 "spinboard.tableturns" 723 463 0)
def j467(P:Pz):=tq #[(.str "mark" 808),(.str "bit" 809),(.str "other" 810),(.str "flips" 811),(.str "signs" 812)]
def j469(P:Pz):=(fo1 "moved_by_if" "moved_by_if" (top 75) 0 0)
def j470(P:Pz):=(cob "moved_by_if" 805 "moved_by_if" 806 807 268 3 0 0 3 465 true 181 466 (.ref 467) (.ref 468) (.ref 469) 813 268 814)
def j471(P:Pz):=(fo2 "moved_by_if" "moved_by_if" (top 75) 3 "spinboard.tableturns" 723 470 0)
def j474(P:Pz):=tq #[(.str "mark" 819),(.str "bit" 820),(.str "other" 821),(.str "signs" 822),(.str "moved" 823)]
def j476(P:Pz):=(fo1 "moved_by_pair" "moved_by_pair" (top 76) 0 0)
def j477(P:Pz):=(cob "moved_by_pair" 816 "moved_by_pair" 817 818 272 3 0 0 3 472 true 181 473 (.ref 474) (.ref 475) (.ref 476) 824 272 825)
def j478(P:Pz):=(fo2 "moved_by_pair" "moved_by_pair" (top 76) 3 "spinboard.tableturns" 723 477 0)
def j481(P:Pz):=tq #[(.str "board" 832),(.str "row" 833),(.str "behind" 834),(.str "move" 835)]
def j483(P:Pz):=(fo1 "run" "run" (top 78) 0 0)
def j484(P:Pz):=(cob "run" 829 "run" 830 831 281 2 0 0 3 479 true 181 480 (.ref 481) (.ref 482) (.ref 483) 836 281 837)
def j485(P:Pz):=(fo2 "run" "run" (top 78) 3 "spinboard.rows" 827 484 0)
def j488(P:Pz):=(fo1 "backward" "backward" (top 79) 0 0)
def j489(P:Pz):=(cob "backward" 839 "backward" 840 841 286 1 0 0 3 486 true 181 487 .none .none (.ref 488) 842 286 843)
def j490(P:Pz):=(fo2 "backward" "backward" (top 79) 3 "spinboard.rows" 827 489 0)
def j493(P:Pz):=tq #[(.str "rows" 850),(.str "cells" 851),(.str "row" 852),(.str "cell" 853),(.str "mark" 854)]
def j495(P:Pz):=(fo1 "laid" "laid" (top 81) 0 0)
def j496(P:Pz):=(cob "laid" 847 "laid" 848 849 289 2 0 0 3 491 true 181 492 (.ref 493) (.ref 494) (.ref 495) 855 289 856)
def j497(P:Pz):=(fo2 "laid" "laid" (top 81) 3 "spinboard.layers" 845 496 0)
def j500(P:Pz):=(fo1 "layer_to_sign" "layer_to_sign" (top 82) 0 0)
def j501(P:Pz):=(cob "layer_to_sign" 858 "layer_to_sign" 859 860 295 3 0 0 3 498 true 181 499 .none .none (.ref 500) 861 295 862)
def j502(P:Pz):=(fo2 "layer_to_sign" "layer_to_sign" (top 82) 3 "spinboard.layers" 845 501 0)
def j505(P:Pz):=tq #[(.str "letter" 867),(.str "cell" 868)]
def j507(P:Pz):=(fo1 "moves_to_sign" "moves_to_sign" (top 83) 0 0)
def j508(P:Pz):=(cob "moves_to_sign" 864 "moves_to_sign" 865 866 307 2 0 0 3 503 true 181 504 (.ref 505) (.ref 506) (.ref 507) 869 307 870)
def j509(P:Pz):=(fo2 "moves_to_sign" "moves_to_sign" (top 83) 3 "spinboard.layers" 845 508 0)
def j512(P:Pz):=tq #[(.str "_law_script" 877),(.str "_law_k" 878)]
def j514(P:Pz):=(fo1 "_law_cell_at" "_law_cell_at" (top 85) 0 0)
def j515(P:Pz):=(cob "_law_cell_at" 874 "_law_cell_at" 875 876 312 2 0 0 3 510 true 181 511 (.ref 512) (.ref 513) (.ref 514) 879 312 880)
def j516(P:Pz):=(fo2 "_law_cell_at" "_law_cell_at" (top 85) 3 "law_spinboard_k76_laid" 872 515 0)
def j519(P:Pz):=tq #[(.str "_law_found" 885)]
def j521(P:Pz):=(fo1 "_law_whole" "_law_whole" (top 86) 0 0)
def j522(P:Pz):=(cob "_law_whole" 882 "_law_whole" 883 884 316 1 0 0 3 517 true 181 518 (.ref 519) (.ref 520) (.ref 521) 886 316 887)
def j523(P:Pz):=(fo2 "_law_whole" "_law_whole" (top 86) 3 "law_spinboard_k76_laid" 872 522 0)
def j526(P:Pz):=tq #[(.str "_law_number" 892),(.str "_law_found" 893)]
def j528(P:Pz):=(fo1 "_law_ones" "_law_ones" (top 87) 0 0)
def j529(P:Pz):=(cob "_law_ones" 889 "_law_ones" 890 891 318 1 0 0 3 524 true 181 525 (.ref 526) (.ref 527) (.ref 528) 894 318 895)
def j530(P:Pz):=(fo2 "_law_ones" "_law_ones" (top 87) 3 "law_spinboard_k76_laid" 872 529 0)
def x13(P:Pz):List Obj:=[tz,nf0,j453 P,tz,j455 P,j456 P,j457 P,tz,nf0,j460 P,tz,j462 P,j463 P,j464 P,tz,nf0,j467 P,tz,j469 P,j470 P,j471 P,tz,nf0,j474 P,tz,j476 P,j477 P,j478 P,tz,nf0,j481 P,tz,j483 P,j484 P,j485 P,tz,nf0,j488 P,j489 P,j490 P,tz,nf0,j493 P,tz,j495 P,j496 P,j497 P,tz,nf0,j500 P,j501 P,j502 P,tz,nf0,j505 P,tz,j507 P,j508 P,j509 P,tz,nf0,j512 P,tz,j514 P,j515 P,j516 P,tz,nf0,j519 P,tz,j521 P,j522 P,j523 P,tz,nf0,j526 P,tz,j528 P,j529 P,j530 P]
def T13 (P:Pz):BT:=iF (iL (T12 P) [(3,W1w P),(12,X9y P)]) 451 (x13 P)
theorem g12 (p:U8)(b:W8)(w:W1)(os:OsState):segRunT treeTable p w 11 (some (.ref 6)) 1 395 (SharedT.mk (T12 w.params) 451 life (Array.mk []) (Drawn.mk 0 0 0 0) 784 os) (piecesOf l12 en (Code.body b en) (Pos.mk 244 0 257 84) BB)=some (Flow.next,(SharedT.mk (T13 w.params) 531 life (Array.mk []) (Drawn.mk 0 0 0 0) 897 os),Code.body b en,(Pos.mk 318 0 323 21)):=by rw[PySem.W.Fast.te10110043849684766642,PySem.W.Fast.te14364793385576792824];kernel_rfl
def W1l(P:Pz):List DictEntry:=X7d P++[(dn P "_law_product" 905 (.ref 537)),(dn P "_law_commute" 913 (.ref 544)),(dn P "_law_even_mark" 924 (.ref 551)),(dn P "_law_fits" 934 (.ref 558)),(dn P "_law_table" 949 (.ref 565)),(dn P "_law_least" 957 (.ref 572)),(dn P "_law_bad_row" 968 (.ref 579)),(dn P "_law_none_by" 978 (.ref 586)),(dn P "_law_refused" 989 (.ref 593)),(dn P "_law_is_move" 998 (.ref 600)),(dn P "_law_begun" 1010 (.ref 607)),(dn P "law" 1016 (.ref 612))]
def X9x(P:Pz):=ob3 ((dn P "__name__" 165 (.str "law_spinboard_k76_laid" 872))::W1l P) 97
def X7q(P:Pz):List Value:=X2c P++[(.int 324 0),(.int 0 0),(.ref 536),(.int 327 0),(.int 0 0),(.ref 543),(.int 329 0),(.int 0 0),(.ref 550),(.int 334 0),(.int 0 0),(.ref 557),(.int 339 0),(.int 0 0),(.ref 564),(.int 349 0),(.int 0 0),(.ref 571),(.int 354 0),(.int 0 0),(.ref 578),(.int 366 0),(.int 0 0),(.ref 585),(.int 373 0),(.int 0 0),(.ref 592),(.int 382 0),(.int 0 0),(.ref 599),(.int 393 0),(.int 0 0),(.ref 606),(.int 399 0),(.int 0 0),(.ref 611)]
def X3a(P:Pz):=ob12 (X7q P)
def j533(P:Pz):=tq #[(.str "_law_one" 900),(.str "_law_other" 901),(.str "_law_turns" 902)]
def j535(P:Pz):=(fo1 "_law_product" "_law_product" (top 88) 0 0)
def j536(P:Pz):=(cob "_law_product" 897 "_law_product" 898 899 324 2 0 0 3 531 true 181 532 (.ref 533) (.ref 534) (.ref 535) 903 324 904)
def j537(P:Pz):=(fo2 "_law_product" "_law_product" (top 88) 3 "law_spinboard_k76_laid" 872 536 0)
def j540(P:Pz):=tq #[(.str "_law_one" 909),(.str "_law_other" 910)]
def j542(P:Pz):=(fo1 "_law_commute" "_law_commute" (top 89) 0 0)
def j543(P:Pz):=(cob "_law_commute" 906 "_law_commute" 907 908 327 2 0 0 3 538 true 181 539 (.ref 540) (.ref 541) (.ref 542) 911 327 912)
def j544(P:Pz):=(fo2 "_law_commute" "_law_commute" (top 89) 3 "law_spinboard_k76_laid" 872 543 0)
def j547(P:Pz):=tq #[(.str "_law_cell" 917),(.str "_law_cells" 918),(.str "_law_number" 919),(.str "_law_f" 920),(.str "_law_s" 921)]
def j549(P:Pz):=(fo1 "_law_even_mark" "_law_even_mark" (top 90) 0 0)
def j550(P:Pz):=(cob "_law_even_mark" 914 "_law_even_mark" 915 916 329 2 0 0 3 545 true 181 546 (.ref 547) (.ref 548) (.ref 549) 922 329 923)
def j551(P:Pz):=(fo2 "_law_even_mark" "_law_even_mark" (top 90) 3 "law_spinboard_k76_laid" 872 550 0)
def j554(P:Pz):=tq #[(.str "_law_rows" 928),(.str "_law_known" 929),(.str "_law_mark" 930),(.str "_law_row" 931)]
def j556(P:Pz):=(fo1 "_law_fits" "_law_fits" (top 91) 0 0)
def j557(P:Pz):=(cob "_law_fits" 925 "_law_fits" 926 927 334 3 0 0 3 552 true 181 553 (.ref 554) (.ref 555) (.ref 556) 932 334 933)
def j558(P:Pz):=(fo2 "_law_fits" "_law_fits" (top 91) 3 "law_spinboard_k76_laid" 872 557 0)
def j561(P:Pz):=tq #[(.str "_law_drawn" 938),(.str "_law_cells" 939),(.str "_law_most" 940),(.str "_law_rows" 941),(.str "_law_known" 942),(.str "_law_cell" 943),(.str "_law_mark" 944),(.str "_law_f" 945),(.str "_law_s" 946)]
def j563(P:Pz):=(fo1 "_law_table" "_law_table" (top 92) 0 0)
def j564(P:Pz):=(cob "_law_table" 935 "_law_table" 936 937 339 3 0 0 3 559 true 181 560 (.ref 561) (.ref 562) (.ref 563) 947 339 948)
def j565(P:Pz):=(fo2 "_law_table" "_law_table" (top 92) 3 "law_spinboard_k76_laid" 872 564 0)
def j568(P:Pz):=tq #[(.str "_law_word" 953),(.str "_law_found" 954)]
def j570(P:Pz):=(fo1 "_law_least" "_law_least" (top 93) 0 0)
def j571(P:Pz):=(cob "_law_least" 950 "_law_least" 951 952 349 1 0 0 3 566 true 181 567 (.ref 568) (.ref 569) (.ref 570) 955 349 956)
def j572(P:Pz):=(fo2 "_law_least" "_law_least" (top 93) 3 "law_spinboard_k76_laid" 872 571 0)
def j575(P:Pz):=tq #[(.str "_law_rows" 961),(.str "_law_cells" 962),(.str "_law_far" 963),(.str "_law_one" 964),(.str "_law_other" 965)]
def j577(P:Pz):=(fo1 "_law_bad_row" "_law_bad_row" (top 94) 0 0)
def j578(P:Pz):=(cob "_law_bad_row" 958 "_law_bad_row" 959 960 354 3 0 0 3 573 true 181 574 (.ref 575) (.ref 576) (.ref 577) 966 354 967)
def j579(P:Pz):=(fo2 "_law_bad_row" "_law_bad_row" (top 94) 3 "law_spinboard_k76_laid" 872 578 0)
def j582(P:Pz):=tq #[(.str "_law_rows" 972),(.str "_law_cells" 973),(.str "_law_far" 974),(.str "_law_at" 975)]
def j584(P:Pz):=(fo1 "_law_none_by" "_law_none_by" (top 95) 0 0)
def j585(P:Pz):=(cob "_law_none_by" 969 "_law_none_by" 970 971 366 3 0 0 3 580 true 181 581 (.ref 582) (.ref 583) (.ref 584) 976 366 977)
def j586(P:Pz):=(fo2 "_law_none_by" "_law_none_by" (top 95) 3 "law_spinboard_k76_laid" 872 585 0)
def j589(P:Pz):=tq #[(.str "_law_rows" 982),(.str "_law_cells" 983),(.str "_law_told" 984),(.str "e" 985),(.str "_law_others" 986)]
def j591(P:Pz):=(fo1 "_law_refused" "_law_refused" (top 96) 0 0)
def j592(P:Pz):=(cob "_law_refused" 979 "_law_refused" 980 981 373 2 0 0 3 587 true 181 588 (.ref 589) (.ref 590) (.ref 591) 987 373 988)
def j593(P:Pz):=(fo2 "_law_refused" "_law_refused" (top 96) 3 "law_spinboard_k76_laid" 872 592 0)
def j596(P:Pz):=tq #[(.str "_law_move" 993),(.str "_law_cells" 994),(.str "_law_number" 995)]
def j598(P:Pz):=(fo1 "_law_is_move" "_law_is_move" (top 97) 0 0)
def j599(P:Pz):=(cob "_law_is_move" 990 "_law_is_move" 991 992 382 2 0 0 3 594 true 181 595 (.ref 596) (.ref 597) (.ref 598) 996 382 997)
def j600(P:Pz):=(fo2 "_law_is_move" "_law_is_move" (top 97) 3 "law_spinboard_k76_laid" 872 599 0)
def j603(P:Pz):=tq #[(.str "_law_rows" 1002),(.str "_law_cells" 1003),(.str "_law_word" 1004),(.str "_law_row" 1005),(.str "_law_board" 1006),(.str "_law_mark" 1007)]
def j605(P:Pz):=(fo1 "_law_begun" "_law_begun" (top 98) 0 0)
def j606(P:Pz):=(cob "_law_begun" 999 "_law_begun" 1000 1001 393 4 0 0 3 601 true 181 602 (.ref 603) (.ref 604) (.ref 605) 1008 393 1009)
def j607(P:Pz):=(fo2 "_law_begun" "_law_begun" (top 98) 3 "law_spinboard_k76_laid" 872 606 0)
def j610(P:Pz):=(fo1 "law" "law" (top 99) 0 0)
def j611(P:Pz):=(cob "law" 1011 "law" 1012 1013 399 1 0 0 3 608 true 181 609 .none .none (.ref 610) 1014 399 1015)
def j612(P:Pz):=(fo2 "law" "law" (top 99) 3 "law_spinboard_k76_laid" 872 611 0)
def x14(P:Pz):List Obj:=[tz,nf0,j533 P,tz,j535 P,j536 P,j537 P,tz,nf0,j540 P,tz,j542 P,j543 P,j544 P,tz,nf0,j547 P,tz,j549 P,j550 P,j551 P,tz,nf0,j554 P,tz,j556 P,j557 P,j558 P,tz,nf0,j561 P,tz,j563 P,j564 P,j565 P,tz,nf0,j568 P,tz,j570 P,j571 P,j572 P,tz,nf0,j575 P,tz,j577 P,j578 P,j579 P,tz,nf0,j582 P,tz,j584 P,j585 P,j586 P,tz,nf0,j589 P,tz,j591 P,j592 P,j593 P,tz,nf0,j596 P,tz,j598 P,j599 P,j600 P,tz,nf0,j603 P,tz,j605 P,j606 P,j607 P,tz,nf0,j610 P,j611 P,j612 P]
def T14 (P:Pz):BT:=iF (iL (T13 P) [(3,X9x P),(12,X3a P)]) 531 (x14 P)
theorem g13 (p:U8)(b:W8)(w:W1)(os:OsState):segRunT treeTable p w 11 (some (.ref 6)) 1 383 (SharedT.mk (T13 w.params) 531 life (Array.mk []) (Drawn.mk 0 0 0 0) 897 os) (piecesOf l13 en (Code.body b en) (Pos.mk 318 0 323 21) BB)=some (Flow.next,(SharedT.mk (T14 w.params) 613 life (Array.mk []) (Drawn.mk 0 0 0 0) 1017 os),Code.body b en,(Pos.mk 399 0 414 122)):=by rw[PySem.W.Fast.te10110043849684766642,PySem.W.Fast.te14364793385576792824];kernel_rfl
def Hl(P:Pz):List Obj:=[boot_o_0 P,boot_o_1 P,boot_o_2 P,X9x P,boot_o_4 P,boot_o_5 P,boot_o_6 P,boot_o_7 P,boot_o_8 P,boot_o_9 P,boot_o_10 P,tz,X3a P,j13 P,j14 P]++(((x1 P).set 9 (X6a P))++((x2 P)++((x3 P)++((x4 P)++((x5 P)++((x6 P)++((x7 P)++((x8 P)++((x9 P)++((x10 P)++((x11 P)++((x12 P)++((x13 P)++(x14 P))))))))))))))
def Hf (P:Pz):Heap:=Heap.mk (Array.mk (Hl P)) life
theorem fin_ (w:W1)(os:OsState):topRun treeTable pr w 11 (some (.ref 6)) 2 ((SharedT.mk (T14 w.params) 613 life (Array.mk []) (Drawn.mk 0 0 0 0) 1017 os).abs) (Thread.mk (doneF .next) cE (Pos.mk 399 0 414 122) BB)=some (Shared.mk (Hf w.params) (Array.mk []) (Drawn.mk 0 0 0 0) 1017 os):=by rw[PySem.W.Fast.te14082659384304107361,PySem.W.Fast.te14364793385576792824];kernel_rfl
noncomputable abbrev MM:Nat:=12+(1+(196+(214+(214+(214+(214+(214+(246+(393+(397+(400+(377+(391+(395+(383+2)))))))))))))))
theorem run_ (w:W1)(os:OsState):topRun treeTable pr w 11 (some (.ref 6)) MM (Shared.mk (boot_heap w.params) (Array.mk []) boot_drawn boot_toks os) (topStub pr)=some (Shared.mk (Hf w.params) (Array.mk []) (Drawn.mk 0 0 0 0) 1017 os):=go_top (pre_ w os) (piece_block (W1b w os) (q4d (q4c (g0 _ _ w os)) (q4d (q4c (g1 _ _ w os)) (q4d (q4c (g2 _ _ w os)) (q4d (q4c (g3 _ _ w os)) (q4d (q4c (g4 _ _ w os)) (q4d (q4c (g5 _ _ w os)) (q4d (q4c (g6 _ _ w os)) (q4d (q4c (g7 _ _ w os)) (q4d (q4c (g8 _ _ w os)) (q4d (q4c (g9 _ _ w os)) (q4d (q4c (g10 _ _ w os)) (q4d (q4c (g11 _ _ w os)) (q4d (q4c (g12 _ _ w os)) (q4d (q4c (g13 _ _ w os)) (piece_nil (fin_ w os)))))))))))))))))
noncomputable def qq:Program:={ pr with main:={ pr.main with body:=[top 1,top 2,top 3,top 4,top 5,top 6,top 7,top 8,top 10,top 12,top 13,top 14,top 15,top 16,top 17,top 18,top 19,top 20,top 21,top 23,top 24,top 25,top 26,top 27,top 28,top 30,top 31,top 32,top 34,top 35,top 36,top 37,top 39,top 40,top 41,top 42,top 43,top 44,top 45,top 46,top 47,top 48,top 49,top 51,top 52,top 53,top 54,top 56,top 57,top 58,top 59,top 60,top 61,top 62,top 63,top 64,top 66,top 67,top 68,top 69,top 70,top 71,top 72,top 73,top 74,top 75,top 76,top 78,top 79,top 81,top 82,top 83,top 85,top 86,top 87,top 88,top 89,top 90,top 91,top 92,top 93,top 94,top 95,top 96,top 97,top 98,top 99] } }
noncomputable def loose:List PySem.Str:=[Str.ofString "start",Str.ofString "NUMBERS_BEHIND"]
noncomputable def lv:List (PySem.Str × WData):=[]
noncomputable abbrev NN:Nat:=8594
noncomputable def aa:List Addr:=[2,3,15,22,23,24,25,28,35,36,37,40,47,48,49,52,59,60,61,64,71,72,73,76,83,84,85,88,95,97,98,100,101,102,103,104,107,114,116,117,119,120,121,122,123,126,128,129,131,132,133,135,136,138,139,140,142,143,145,146,147,149,150,152,153,154,156,157,159,160,161,163,164,166,167,168,170,171,173,174,175,177,178,180,181,182,184,185,187,188,189,191,192,194,195,196,198,199,201,202,203,206,207,208,210,211,213,214,215,217,218,220,221,222,224,225,227,228,229,231,232,234,235,236,237,238,239,242,243,244,246,247,249,250,251,253,254,256,257,258,261,262,263,265,266,268,269,270,271,274,275,276,279,280,281,283,284,286,287,288,291,292,293,296,297,298,300,301,303,304,305,308,309,310,313,314,315,317,318,320,321,322,324,325,327,328,329,331,332,334,335,336,338,339,341,342,343,346,347,348,350,351,353,354,355,356,359,360,361,364,365,366,368,369,371,372,373,375,376,378,379,380,383,384,385,388,389,390,392,393,395,396,397,400,401,402,404,405,407,408,409,411,412,414,415,416,418,419,421,422,423,425,426,428,429,430,432,433,435,436,437,439,440,442,443,444,446,447,449,450,451,453,454,456,457,458,460,461,463,464,465,467,468,470,471,472,474,475,477,478,479,481,482,484,485,486,489,490,491,493,494,496,497,498,501,502,503,505,506,508,509,510,512,513,515,516,517,519,520,522,523,524,526,527,529,530,531,533,534,536,537,538,540,541,543,544,545,547,548,550,551,552,554,555,557,558,559,561,562,564,565,566,568,569,571,572,573,575,576,578,579,580,582,583,585,586,587,589,590,592,593,594,596,597,599,600,601,603,604,606,607,608,611,612]
def KK (P:Pz):Frag:=aa.map λa=>(a,(Hl P).getD a nf0)
theorem W1r:∀ w:World,(fencedOpening treeTable pr w NN).map (λs=>(s.heap,s.gens,s.drawn,s.toks))=some (boot_heap w.params,Array.mk [],boot_drawn,boot_toks) :=
 boot_open (p:=pr) (N:=NN) (by kernel_rfl) (by kernel_rfl) (λs=>by kernel_rfl)
theorem W1n (w:W1):((boot_heap w.params).isNs mainGlobals && (Array.mk []:Array GenState).size == 0,(boot_heap w.params).objs.size,(boot_heap w.params).nsMap mainGlobals "__annotations__")=(true,11,((some (.ref 6)):Option Value)):=by kernel_rfl
theorem le_:Nat.ble MM NN=true:=by kernel_rfl
noncomputable abbrev rr:OpenRow:=PySem.Challenge.rw_spinboard_k76_laid.row
noncomputable abbrev HH:Hook:=kHook KK aa (λ_=>by kernel_rfl)
noncomputable abbrev Xt (s:U7):Bool:=xlAt qq lv s && recOk (RowW.records rr.toRowW) s
noncomputable abbrev sf (w:W1)(os:OsState):Shared:=Shared.mk (Hf w.params) (Array.mk []) (Drawn.mk 0 0 0 0) 1017 os
theorem lk1 (w:W1)(os:OsState):(staticsOk (importedModules pr.main.body) (boot_heap w.params) (Hf w.params) && namesBound pr (Hf w.params) && gensDone (sf w os) && laidKept (boot_heap w.params) (Hf w.params))=true:=by rw[PySem.W.Fast.te5923862056798008813];kernel_rfl
theorem lk2 (w:W1)(os:OsState):openSeen qq loose (importedModules pr.main.body) Xt true (sf w os)=openGood qq loose:=by rw[PySem.W.Fast.te4187177175401517315,PySem.W.Fast.te5923862056798008813];kernel_rfl
theorem lk3 (w:W1)(os:OsState):HH.obs (sf w os)=HH.val w:=by kernel_rfl
theorem left_:LeftO pr qq loose Xt HH.obs HH.val NN :=
 LeftO.of_pieces (H₀:=boot_heap) (H₁:=Hf) W1r W1n run_ le_ λw=>funext λos=>looks_pair (lk1 w os) (looks_pair (lk2 w os) (lk3 w os))
theorem said_:PySem.Challenge.rw_spinboard_k76_laid.wellSaid=true:=by rw[PySem.W.Fast.te9446332074065402090];kernel_rfl
theorem k612 (P:Pz):(KK P).lookup 612=some (j612 P):=by kernel_rfl
theorem k132 (P:Pz):(KK P).lookup 132=some (j132 P):=by kernel_rfl
theorem k139 (P:Pz):(KK P).lookup 139=some (j139 P):=by kernel_rfl
theorem k146 (P:Pz):(KK P).lookup 146=some (j146 P):=by kernel_rfl
theorem k153 (P:Pz):(KK P).lookup 153=some (j153 P):=by kernel_rfl
theorem k160 (P:Pz):(KK P).lookup 160=some (j160 P):=by kernel_rfl
theorem k167 (P:Pz):(KK P).lookup 167=some (j167 P):=by kernel_rfl
theorem k174 (P:Pz):(KK P).lookup 174=some (j174 P):=by kernel_rfl
theorem k181 (P:Pz):(KK P).lookup 181=some (j181 P):=by kernel_rfl
theorem k188 (P:Pz):(KK P).lookup 188=some (j188 P):=by kernel_rfl
theorem k195 (P:Pz):(KK P).lookup 195=some (j195 P):=by kernel_rfl
theorem k202 (P:Pz):(KK P).lookup 202=some (j202 P):=by kernel_rfl
theorem k207 (P:Pz):(KK P).lookup 207=some (j207 P):=by kernel_rfl
theorem k214 (P:Pz):(KK P).lookup 214=some (j214 P):=by kernel_rfl
theorem k221 (P:Pz):(KK P).lookup 221=some (j221 P):=by kernel_rfl
theorem k228 (P:Pz):(KK P).lookup 228=some (j228 P):=by kernel_rfl
theorem k235 (P:Pz):(KK P).lookup 235=some (j235 P):=by kernel_rfl
theorem k243 (P:Pz):(KK P).lookup 243=some (j243 P):=by kernel_rfl
theorem k250 (P:Pz):(KK P).lookup 250=some (j250 P):=by kernel_rfl
theorem k257 (P:Pz):(KK P).lookup 257=some (j257 P):=by kernel_rfl
theorem k262 (P:Pz):(KK P).lookup 262=some (j262 P):=by kernel_rfl
theorem k269 (P:Pz):(KK P).lookup 269=some (j269 P):=by kernel_rfl
theorem k275 (P:Pz):(KK P).lookup 275=some (j275 P):=by kernel_rfl
theorem k280 (P:Pz):(KK P).lookup 280=some (j280 P):=by kernel_rfl
theorem k287 (P:Pz):(KK P).lookup 287=some (j287 P):=by kernel_rfl
theorem k292 (P:Pz):(KK P).lookup 292=some (j292 P):=by kernel_rfl
theorem k297 (P:Pz):(KK P).lookup 297=some (j297 P):=by kernel_rfl
theorem k304 (P:Pz):(KK P).lookup 304=some (j304 P):=by kernel_rfl
theorem k309 (P:Pz):(KK P).lookup 309=some (j309 P):=by kernel_rfl
theorem k314 (P:Pz):(KK P).lookup 314=some (j314 P):=by kernel_rfl
theorem k321 (P:Pz):(KK P).lookup 321=some (j321 P):=by kernel_rfl
theorem k328 (P:Pz):(KK P).lookup 328=some (j328 P):=by kernel_rfl
theorem k335 (P:Pz):(KK P).lookup 335=some (j335 P):=by kernel_rfl
theorem k342 (P:Pz):(KK P).lookup 342=some (j342 P):=by kernel_rfl
theorem k347 (P:Pz):(KK P).lookup 347=some (j347 P):=by kernel_rfl
theorem k354 (P:Pz):(KK P).lookup 354=some (j354 P):=by kernel_rfl
theorem k360 (P:Pz):(KK P).lookup 360=some (j360 P):=by kernel_rfl
theorem k365 (P:Pz):(KK P).lookup 365=some (j365 P):=by kernel_rfl
theorem k372 (P:Pz):(KK P).lookup 372=some (j372 P):=by kernel_rfl
theorem k379 (P:Pz):(KK P).lookup 379=some (j379 P):=by kernel_rfl
theorem k384 (P:Pz):(KK P).lookup 384=some (j384 P):=by kernel_rfl
theorem k389 (P:Pz):(KK P).lookup 389=some (j389 P):=by kernel_rfl
theorem k396 (P:Pz):(KK P).lookup 396=some (j396 P):=by kernel_rfl
theorem k401 (P:Pz):(KK P).lookup 401=some (j401 P):=by kernel_rfl
theorem k408 (P:Pz):(KK P).lookup 408=some (j408 P):=by kernel_rfl
theorem k415 (P:Pz):(KK P).lookup 415=some (j415 P):=by kernel_rfl
theorem k422 (P:Pz):(KK P).lookup 422=some (j422 P):=by kernel_rfl
theorem k429 (P:Pz):(KK P).lookup 429=some (j429 P):=by kernel_rfl
theorem k436 (P:Pz):(KK P).lookup 436=some (j436 P):=by kernel_rfl
theorem k443 (P:Pz):(KK P).lookup 443=some (j443 P):=by kernel_rfl
theorem k450 (P:Pz):(KK P).lookup 450=some (j450 P):=by kernel_rfl
theorem k457 (P:Pz):(KK P).lookup 457=some (j457 P):=by kernel_rfl
theorem k464 (P:Pz):(KK P).lookup 464=some (j464 P):=by kernel_rfl
theorem k471 (P:Pz):(KK P).lookup 471=some (j471 P):=by kernel_rfl
theorem k478 (P:Pz):(KK P).lookup 478=some (j478 P):=by kernel_rfl
theorem k485 (P:Pz):(KK P).lookup 485=some (j485 P):=by kernel_rfl
theorem k490 (P:Pz):(KK P).lookup 490=some (j490 P):=by kernel_rfl
theorem k497 (P:Pz):(KK P).lookup 497=some (j497 P):=by kernel_rfl
theorem k502 (P:Pz):(KK P).lookup 502=some (j502 P):=by kernel_rfl
theorem k509 (P:Pz):(KK P).lookup 509=some (j509 P):=by kernel_rfl
theorem k516 (P:Pz):(KK P).lookup 516=some (j516 P):=by kernel_rfl
theorem k523 (P:Pz):(KK P).lookup 523=some (j523 P):=by kernel_rfl
theorem k530 (P:Pz):(KK P).lookup 530=some (j530 P):=by kernel_rfl
theorem k537 (P:Pz):(KK P).lookup 537=some (j537 P):=by kernel_rfl
theorem k544 (P:Pz):(KK P).lookup 544=some (j544 P):=by kernel_rfl
theorem k551 (P:Pz):(KK P).lookup 551=some (j551 P):=by kernel_rfl
theorem k558 (P:Pz):(KK P).lookup 558=some (j558 P):=by kernel_rfl
theorem k565 (P:Pz):(KK P).lookup 565=some (j565 P):=by kernel_rfl
theorem k572 (P:Pz):(KK P).lookup 572=some (j572 P):=by kernel_rfl
theorem k579 (P:Pz):(KK P).lookup 579=some (j579 P):=by kernel_rfl
theorem k586 (P:Pz):(KK P).lookup 586=some (j586 P):=by kernel_rfl
theorem k593 (P:Pz):(KK P).lookup 593=some (j593 P):=by kernel_rfl
theorem k600 (P:Pz):(KK P).lookup 600=some (j600 P):=by kernel_rfl
theorem k607 (P:Pz):(KK P).lookup 607=some (j607 P):=by kernel_rfl
theorem k238 (P:Pz):(KK P).lookup 238=some (j238 P):=by kernel_rfl
theorem k237 (P:Pz):(KK P).lookup 237=some (j237 P):=by kernel_rfl
theorem k236 (P:Pz):(KK P).lookup 236=some (j236 P):=by kernel_rfl
theorem k270 (P:Pz):(KK P).lookup 270=some (j270 P):=by kernel_rfl
theorem k85 (P:Pz):(KK P).lookup 85=some (j85 P):=by kernel_rfl
theorem k24 (P:Pz):(KK P).lookup 24=some (X6a P):=by kernel_rfl
theorem k355 (P:Pz):(KK P).lookup 355=some (j355 P):=by kernel_rfl
theorem ft {K:U0}{x:Str}{st:Stmt}{f:W9}{oc:W2}{od an:W5}{osl:W4}{dV kV doc pm cdv ct:W2}
  (l:K.lookup f=some ⟨oc,od,.func (PySem.W.fnOf x x (Z1f st) (Z1c st) (Z0h st) dV kV doc pm an cdv ct),osl⟩) (a:PySem.W.nsIn K mainGlobals x=some (some (.ref f)):=by kernel_rfl) (c:PySem.W.codeIn K cdv x=true:=by kernel_rfl) (k:PySem.W.keepIn K (.ref f)=true:=by kernel_rfl):FunAt K x st dV:=fat a l c k
theorem f10 (P:Pz):FunAt (KK P) "is_whole" (top 10) .none:=ft (k132 P)
theorem f13 (P:Pz):FunAt (KK P) "ones" (top 13) .none:=ft (k139 P)
theorem f14 (P:Pz):FunAt (KK P) "is_word" (top 14) .none:=ft (k146 P)
theorem f15 (P:Pz):FunAt (KK P) "is_mark" (top 15) .none:=ft (k153 P)
theorem f16 (P:Pz):FunAt (KK P) "is_even" (top 16) .none:=ft (k160 P)
theorem f17 (P:Pz):FunAt (KK P) "is_even_mark" (top 17) .none:=ft (k167 P)
theorem f18 (P:Pz):FunAt (KK P) "commute" (top 18) .none:=ft (k174 P)
theorem f19 (P:Pz):FunAt (KK P) "product" (top 19) .none:=ft (k181 P)
theorem f20 (P:Pz):FunAt (KK P) "turned_about" (top 20) .none:=ft (k188 P)
theorem f21 (P:Pz):FunAt (KK P) "cell_sign" (top 21) .none:=ft (k195 P)
theorem f23 (P:Pz):FunAt (KK P) "halved_out" (top 23) .none:=ft (k202 P)
theorem f24 (P:Pz):FunAt (KK P) "plus" (top 24) .none:=ft (k207 P)
theorem f25 (P:Pz):FunAt (KK P) "minus" (top 25) .none:=ft (k214 P)
theorem f26 (P:Pz):FunAt (KK P) "spun" (top 26) .none:=ft (k221 P)
theorem f27 (P:Pz):FunAt (KK P) "spun_once" (top 27) .none:=ft (k228 P)
theorem f28 (P:Pz):FunAt (KK P) "rooted" (top 28) .none:=ft (k235 P)
theorem f33 (P:Pz):FunAt (KK P) "start" (top 33) (.ref 238):=ft (k243 P)
theorem f34 (P:Pz):FunAt (KK P) "check_beginning" (top 34) .none:=ft (k250 P)
theorem f35 (P:Pz):FunAt (KK P) "cells_of" (top 35) .none:=ft (k257 P)
theorem f36 (P:Pz):FunAt (KK P) "laid_on" (top 36) .none:=ft (k262 P)
theorem f37 (P:Pz):FunAt (KK P) "spun_by_mark" (top 37) .none:=ft (k269 P)
theorem f40 (P:Pz):FunAt (KK P) "check_move" (top 40) .none:=ft (k275 P)
theorem f41 (P:Pz):FunAt (KK P) "has_move_form" (top 41) .none:=ft (k280 P)
theorem f42 (P:Pz):FunAt (KK P) "named_cells" (top 42) .none:=ft (k287 P)
theorem f43 (P:Pz):FunAt (KK P) "turned" (top 43) .none:=ft (k292 P)
theorem f44 (P:Pz):FunAt (KK P) "mixed" (top 44) .none:=ft (k297 P)
theorem f45 (P:Pz):FunAt (KK P) "mixed_at" (top 45) .none:=ft (k304 P)
theorem f46 (P:Pz):FunAt (KK P) "spun_where" (top 46) .none:=ft (k309 P)
theorem f47 (P:Pz):FunAt (KK P) "word_behind" (top 47) .none:=ft (k314 P)
theorem f48 (P:Pz):FunAt (KK P) "exchanged" (top 48) .none:=ft (k321 P)
theorem f49 (P:Pz):FunAt (KK P) "back_move" (top 49) .none:=ft (k328 P)
theorem f51 (P:Pz):FunAt (KK P) "solved" (top 51) .none:=ft (k335 P)
theorem f52 (P:Pz):FunAt (KK P) "cleared" (top 52) .none:=ft (k342 P)
theorem f53 (P:Pz):FunAt (KK P) "places_at_one" (top 53) .none:=ft (k347 P)
theorem f54 (P:Pz):FunAt (KK P) "solution" (top 54) .none:=ft (k354 P)
theorem f57 (P:Pz):FunAt (KK P) "is_table" (top 57) .none:=ft (k360 P)
theorem f58 (P:Pz):FunAt (KK P) "commutes_with_all" (top 58) .none:=ft (k365 P)
theorem f59 (P:Pz):FunAt (KK P) "check_table" (top 59) .none:=ft (k372 P)
theorem f60 (P:Pz):FunAt (KK P) "least_cell" (top 60) .none:=ft (k379 P)
theorem f61 (P:Pz):FunAt (KK P) "made_of" (top 61) .none:=ft (k384 P)
theorem f62 (P:Pz):FunAt (KK P) "rows_with" (top 62) .none:=ft (k389 P)
theorem f63 (P:Pz):FunAt (KK P) "product_of" (top 63) .none:=ft (k396 P)
theorem f64 (P:Pz):FunAt (KK P) "apart_by" (top 64) .none:=ft (k401 P)
theorem f66 (P:Pz):FunAt (KK P) "borne" (top 66) .none:=ft (k408 P)
theorem f67 (P:Pz):FunAt (KK P) "is_borne" (top 67) .none:=ft (k415 P)
theorem f68 (P:Pz):FunAt (KK P) "is_odd_turn" (top 68) .none:=ft (k422 P)
theorem f69 (P:Pz):FunAt (KK P) "moved_mark" (top 69) .none:=ft (k429 P)
theorem f70 (P:Pz):FunAt (KK P) "check_borne" (top 70) .none:=ft (k436 P)
theorem f71 (P:Pz):FunAt (KK P) "moved_through" (top 71) .none:=ft (k443 P)
theorem f72 (P:Pz):FunAt (KK P) "moved_by" (top 72) .none:=ft (k450 P)
theorem f73 (P:Pz):FunAt (KK P) "moved_by_mix" (top 73) .none:=ft (k457 P)
theorem f74 (P:Pz):FunAt (KK P) "moved_by_turn" (top 74) .none:=ft (k464 P)
theorem f75 (P:Pz):FunAt (KK P) "moved_by_if" (top 75) .none:=ft (k471 P)
theorem f76 (P:Pz):FunAt (KK P) "moved_by_pair" (top 76) .none:=ft (k478 P)
theorem f78 (P:Pz):FunAt (KK P) "run" (top 78) .none:=ft (k485 P)
theorem f79 (P:Pz):FunAt (KK P) "backward" (top 79) .none:=ft (k490 P)
theorem f81 (P:Pz):FunAt (KK P) "laid" (top 81) .none:=ft (k497 P)
theorem f82 (P:Pz):FunAt (KK P) "layer_to_sign" (top 82) .none:=ft (k502 P)
theorem f83 (P:Pz):FunAt (KK P) "moves_to_sign" (top 83) .none:=ft (k509 P)
theorem f85 (P:Pz):FunAt (KK P) "_law_cell_at" (top 85) .none:=ft (k516 P)
theorem f86 (P:Pz):FunAt (KK P) "_law_whole" (top 86) .none:=ft (k523 P)
theorem f87 (P:Pz):FunAt (KK P) "_law_ones" (top 87) .none:=ft (k530 P)
theorem f88 (P:Pz):FunAt (KK P) "_law_product" (top 88) .none:=ft (k537 P)
theorem f89 (P:Pz):FunAt (KK P) "_law_commute" (top 89) .none:=ft (k544 P)
theorem f90 (P:Pz):FunAt (KK P) "_law_even_mark" (top 90) .none:=ft (k551 P)
theorem f91 (P:Pz):FunAt (KK P) "_law_fits" (top 91) .none:=ft (k558 P)
theorem f92 (P:Pz):FunAt (KK P) "_law_table" (top 92) .none:=ft (k565 P)
theorem f93 (P:Pz):FunAt (KK P) "_law_least" (top 93) .none:=ft (k572 P)
theorem f94 (P:Pz):FunAt (KK P) "_law_bad_row" (top 94) .none:=ft (k579 P)
theorem f95 (P:Pz):FunAt (KK P) "_law_none_by" (top 95) .none:=ft (k586 P)
theorem f96 (P:Pz):FunAt (KK P) "_law_refused" (top 96) .none:=ft (k593 P)
theorem f97 (P:Pz):FunAt (KK P) "_law_is_move" (top 97) .none:=ft (k600 P)
theorem f98 (P:Pz):FunAt (KK P) "_law_begun" (top 98) .none:=ft (k607 P)
end Hd
end K76
end
set_option maxHeartbeats 4000000
namespace K76
open L2 Am Pc Ba
section
variable {P:U8}{w:W1}{K:U0}{mg:U4}{base:Heap}{k:Nat}{h:Heap}
theorem Y2i {x:Int}(h1:-16<x)(h2:x<16):Sz 100 x:=Sz.mono (j:=5) (by unfold Sz;omega) (by decide)
theorem s_0:Sz 100 0:=Y2i (by decide) (by decide)
theorem s_1:Sz 100 1:=Y2i (by decide) (by decide)
theorem forty:(0:Int)<=40:=by decide
def At5 (K:U0)(H:Hp)(p:W9)(x:A5):Prop:=SqT K H p ((l5 x).map V.int)
theorem At5.of {K:U0}{H:Hp}{p:W9}{x:A5}(h:H p=some (tA x)):At5 K H p x:=SqT.of h
theorem At5.same {K:U0}{H H':Hp}{p:W9}{x:A5}(h:At5 K H p x)(s:Same H H'):At5 K H' p x:=s.tup h
theorem At5.upd {K:U0}{H:Hp}{p l:W9}{x:A5}{xs ys:List V}(h:At5 K H p x)(e:H l=some (.lst xs)):At5 K (upd H l (.lst ys)) p x:=by
 rcases h with h | h
 ·rcases h with h | ⟨o,h⟩
  ·exact .inl (.inl (by rw[Z0u (Z5f h e (by intro z;cases z))];exact h))
  ·exact .inl (.inr ⟨o,by rw[Z0u (Z5f h e (by intro z;cases z))];exact h⟩)
 ·exact .inr h
def ValsK (K:U0)(H:Hp)(ps:U3)(f:Nat->A5):Prop:=∀ i p,ps[i]?=some p->At5 K H p (f i)
theorem ValsK.same {K:U0}{H H':Hp}{ps:U3}{f:Nat->A5}(v:ValsK K H ps f)(s:Same H H'):ValsK K H' ps f:=λi p e=>(v i p e).same s
theorem Z3g {K:U0}{H H':Hp}{ps:U3}{f:Nat->A5}{p:W9}{x:A5}(v:ValsK K H ps f)(s:Same H H')(e:At5 K H' p x):ValsK K H' (ps++[p]) (λj=>if j=ps.length then x else f j):=by
 intro i q hq
 by_cases hi:i<ps.length
 ·rw[q2v hi] at hq
  show At5 K H' q (if i=ps.length then x else f i)
  rw[if_neg (by omega)]
  exact(v i q hq).same s
 ·rw[q2s (by omega)] at hq
  have hi2:i=ps.length:=by
   have:=(q0o.mp hq).1
   simp at this
   omega
  subst hi2
  simp at hq
  subst hq
  show At5 K H' _ (if ps.length=ps.length then x else f ps.length)
  rw[if_pos rfl]
  exact e
theorem Z4g {K:U0}{H:Hp}{ps:U3}{f:Nat->A5}{l:W9}{xs ys:List V}(v:ValsK K H ps f)(e:H l=some (.lst xs)):ValsK K (upd H l (.lst ys)) ps f:=λi q hq=>(v i q hq).upd e
theorem Y1r {K:U0}{a:W9}{ns:U6}{te:TE}{fr:L2.St}{H1:Hp}{acc:W9}{Q:VK}(f:Int->V)(hl:SqT K H1 a (ns.map V.int))(hn:ns.length<=sizeLine)(hacc:H1 acc=none)(hs:∀ n H (N:V->Hp->Prop),n∈ns->Same H1 H->N (f n) H->te (some (.int n)::fr) H N)
  (hd:∀ H2,Same H1 H2->H2 acc=some (.lst (ns.map f))->Q (.ref acc) H2):LcW (Itt K a) (gName 0) te (none::fr) H1 acc Q:=by
 refine Y7w (n:=ns.length) (val:=λi=>.int (ns.getD i 0)) (λi=>f (ns.getD i 0)) hn hacc (λi H hi s=>?_) (λH s=>⟨_,s.tup hl,by simp⟩) (λi H N hi s kN=>hs _ H N (by simp[hi]) s kN) (λH2 s h=>hd H2 s (by rw[h,Z9s]))
 have e:(ns.map V.int)[i]?=some (.int (ns.getD i 0)):=by simp[hi]
 refine⟨⟨_,_,s.tup hl,e⟩,λx H' y=>⟨y.1,?_⟩⟩
 have:=y.2 _ (s.tup hl)
 rw[e] at this
 exact(Option.some.inj this).symm
theorem cut54:¬ (HT.sIx 5 0 none=0/\HT.sIx 5 5 (some 4)=5):=by decide
def spHalf:Sp:=λvs H Q _=>∃ a b c d h:Int,vs=[.int a,.int b,.int c,.int d,.int h]/\0<=h/\∀ (p:W9) (H':Hp) (x y z u g:Int),Same H H'->H' p=some (T5 x y z u g)->Red a b c d h x y z u g->Q (.ref p) H'
def Y2o:Sp:=λvs H Q _=>∃ (p:W9) (a b c d h:Int),vs=[.ref p]/\H p=some (T5 a b c d h)/\0<=h/\∀ (r:W9) (H':Hp) (x y z u g:Int),Same H H'->H' r=some (T5 x y z u g)->Red (b-d) (a+c) (b+d) (c-a) (h+1) x y z u g->Q (.ref r) H'
def Y5p (K:U0):Sp:=λvs H Q _=>∃ (p:W9) (a b c d h:Int),vs=[.ref p]/\At5 K H p ((a,b,c,d),h)/\∀ (r:W9) (H':Hp),Same H H'->H' r=some (T5 (-d) a b c h)->Q (.ref r) H'
def Z6v (K:U0):Sp:=λvs H Q _=>∃ (p:W9) (a b c d h k:Int),vs=[.ref p,.int k]/\At5 K H p ((a,b,c,d),h)/\∀ (r:W9) (H':Hp),Same H H'->At5 K H' r (rot (k%8).toNat (a,b,c,d),h)->Q (.ref r) H'
theorem sc_half:FnScope ["a","b","c","d","h","places","lowest","less"] ["a","b","c","d","h"] (Z0h (top 23)):=fS
theorem X5d (F:FunAt K "halved_out" (top 23) .none)(X:K.In h)(G:Ng h mg)(B:Bs mg):Cal P w K mg base (k+1) "halved_out" ["a","b","c","d","h"] spHalf:=by
 have nd:=sc_half.nd
 refine F.cal X G sc_half (bnd5 λ_ _ _ _ _ _ _ _ _ _ _=>rfl) (λvs H Q E h=>?_) (λf cdv A outer s H vs Q E hr h=>?_)
 ·obtain⟨a,b,c,d,h,rfl,_⟩:=h;rfl
 obtain⟨a,b,c,d,h,rfl,h0,q⟩:=h
 refine⟨_,(@Z0g _ _ _ _ _ (@Z0q _ _ 5 _ _ _ _ nd rfl (Or.inl rfl) (Z0j Z8q (Z0j Z8q (Z0j Z8q (pv 0) (pv 1)) (pv 2)) (pv 3)) rfl (.inl rfl))
  (@Z0g _ _ _ _ _ (Z0w (Z0p Z1m (pv 5) Z0b (nomark _))
   (@Z0e _ _ _ (Z0k (@Z1a _ _ _ _ _ (Z0a Z0b (Z0a Z0b (Z0a Z0b (Z0a Z0b (Z0a Z0b Z0c))))))))
   Z0o)
  (@Z0g _ _ _ _ _ (@Z0q _ _ 6 _ _ _ _ nd rfl (Or.inl rfl) (Z0j Z3c (Z5a q2c q1m q1r Z2f (Z0j Z0z (pv 5) (Y6m Y5f (pv 5)))) Z0b) rfl (.inl rfl))
  (@Z0g _ _ _ _ _ (@Z0q _ _ 7 _ _ _ _ nd rfl (Or.inl rfl) (Z0n (Y8u rfl) rfl B.min boot_min (Z0a (pv 6) (Z0a (pv 4) Z0c))) rfl (.inl rfl))
  (@Z0e _ _ _ (Z0k (@Z1a _ _ _ _ _ (Z0a (Z0j Z3i (pv 0) (pv 7)) (Z0a (Z0j Z3i (pv 1) (pv 7)) (Z0a (Z0j Z3i (pv 2) (pv 7)) (Z0a (Z0j Z3i (pv 3) (pv 7)) (Z0a (Z0j Z3c (pv 4) (pv 7)) Z0c)))))))))))),?_⟩
 try dsimp only[cxK]
 refine⟨_,U,_,U,_,_,U,U,_,U,_,_,U,U,_,U,_,_,U,U,?_⟩
 refine⟨_,U,U,_,U,eqI (λe=>?_) (λe=>?_)⟩
 ·obtain⟨rfl,rfl,rfl,rfl⟩:=orAll_zero.mp e
  exact⟨by show 5<=sizeLine;decide,λp hp=>q p _ 0 0 0 0 0 (Z0f hp _) Z0d ⟨⟨by omega,.inl rfl⟩,⟨by simp[Eq2],by simp[Eq2],by simp[Eq2],by simp[Eq2]⟩,q0l _,q0l _,q0l _,q0l _,h0⟩⟩
 obtain⟨v,ev,hd,hn⟩:=lowest e
 obtain⟨m0,m1,ha,hs,b1,b2,b3,b4⟩:=halve h0 hd hn rfl
 have ev':((Builtin.Int.intBits (Builtin.bitAnd (Builtin.bitOr (Builtin.bitOr (Builtin.bitOr a b) c) d) (-(Builtin.bitOr (Builtin.bitOr (Builtin.bitOr a b) c) d))):Nat):Int)-1=v:=ev
 refine⟨_,U,_,U,_,U,_,_,U,U,U,_,U,U,_,_,U,U,?_⟩
 show tSeq _ _ _ (List.set _ 6 (some (V.int (((Builtin.Int.intBits (Builtin.bitAnd (Builtin.bitOr (Builtin.bitOr (Builtin.bitOr a b) c) d) (-(Builtin.bitOr (Builtin.bitOr (Builtin.bitOr a b) c) d))):Nat):Int)-1)))) H
 rw[ev']
 generalize hm:(if h<(v:Int) then h else (v:Int))=m at *
 refine⟨_,U,_,U,_,_,U,?_⟩
 rw[hm]
 refine⟨_,U,_,U,_,_,U,U,m0,_,U,_,U,_,_,U,U,m0,_,U,_,U,_,_,U,U,m0,_,U,_,U,_,_,U,U,m0,_,U,_,U,_,_,U,U,(by show 5<=sizeLine;decide),λp hp=>?_⟩
 exact q p _ _ _ _ _ _ (Z0f hp _) Z0d ⟨ha,hs,b1,b2,b3,b4,by omega⟩
theorem sc_once:FnScope ["one"] ["one"] (Z0h (top 27)):=fS
theorem X4x (F:FunAt K "spun_once" (top 27) .none)(X:K.In h)(G:Ng h mg):Cal P w K mg base (k+1) "spun_once" ["one"] (Y5p K):=by
 have nd:=sc_once.nd
 refine F.cal X G sc_once (bnd1 λ_ _ _ _ _ _ _=>rfl) (λvs H Q E h=>?_) (λf cdv A outer s H vs Q E hr h=>?_)
 ·obtain⟨p,a,b,c,d,h,rfl,_⟩:=h;rfl
 obtain⟨p,a,b,c,d,h,rfl,hp,q⟩:=h
 have S:SqT K H p [.int a,.int b,.int c,.int d,.int h]:=hp
 refine⟨_,(@Z0e _ _ _ (Z0k (@Z1a _ _ _ _ _ (Z0a (Y6m Y5f (Z0l Z0i (pv 0) Z0b (λ_ _=>rfl))) (Z0a (Z0l Z0i (pv 0) Z0b (λ_ _=>rfl)) (Z0a (Z0l Z0i (pv 0) Z0b (λ_ _=>rfl)) (Z0a (Z0l Z0i (pv 0) Z0b (λ_ _=>rfl)) (Z0a (Z0l Z0i (pv 0) Z0b (λ_ _=>rfl)) Z0c)))))))),?_⟩
 try dsimp only[cxK]
 refine⟨_,U,p,_,_,_,U,U,S,U,_,U,_,U,p,_,_,_,U,U,S,U,_,U,p,_,_,_,U,U,S,U,_,U,p,_,_,_,U,U,S,U,_,U,p,_,_,_,U,U,S,U,(by show 5<=sizeLine;decide),λr hr=>?_⟩
 exact q r _ (Z0f hr _) Z0d
theorem sc_rooted:FnScope ["one"] ["one"] (Z0h (top 28)):=fS
theorem Y7d (F:FunAt K "rooted" (top 28) .none)(X:K.In h)(G:Ng h mg)(cN:Cal P w K mg base k "halved_out" ["a","b","c","d","h"] spHalf):Cal P w K mg base (k+1) "rooted" ["one"] Y2o:=by
 have nd:=sc_rooted.nd
 refine F.cal X G sc_rooted (bnd1 λ_ _ _ _ _ _ _=>rfl) (λvs H Q E h=>?_) (λf cdv A outer s H vs Q E hr h=>?_)
 ·obtain⟨p,a,b,c,d,h,rfl,_⟩:=h;rfl
 obtain⟨p,a,b,c,d,h,rfl,hp,h0,q⟩:=h
 have S:SqT K H p [.int a,.int b,.int c,.int d,.int h]:=SqT.of hp
 refine⟨_,(@Z0e _ _ _ (Z0k (Z0m cN hr rfl (Z0a (Z0j Z3c (Z0l Z0i (pv 0) Z0b (λ_ _=>rfl)) (Z0l Z0i (pv 0) Z0b (λ_ _=>rfl))) (Z0a (Z0j Z1r (Z0l Z0i (pv 0) Z0b (λ_ _=>rfl)) (Z0l Z0i (pv 0) Z0b (λ_ _=>rfl))) (Z0a (Z0j Z1r (Z0l Z0i (pv 0) Z0b (λ_ _=>rfl)) (Z0l Z0i (pv 0) Z0b (λ_ _=>rfl))) (Z0a (Z0j Z3c (Z0l Z0i (pv 0) Z0b (λ_ _=>rfl)) (Z0l Z0i (pv 0) Z0b (λ_ _=>rfl))) (Z0a (Z0j Z1r (Z0l Z0i (pv 0) Z0b (λ_ _=>rfl)) Z0b) Z0c)))))))),?_⟩
 try dsimp only[cxK]
 refine⟨_,U,p,_,_,_,U,U,S,U,_,U,p,_,_,_,U,U,S,U,_,_,U,U,_,U,p,_,_,_,U,U,S,U,_,U,p,_,_,_,U,U,S,U,_,_,U,U,
  _,U,p,_,_,_,U,U,S,U,_,U,p,_,_,_,U,U,S,U,_,_,U,U,_,U,p,_,_,_,U,U,S,U,_,U,p,_,_,_,U,U,S,U,_,_,U,U,_,U,p,_,_,_,U,U,S,U,_,_,U,U,?_⟩
 exact⟨_,_,_,_,_,U,(by show 0<=h+1;omega),λr H' x y z u g s1 e1 r1=>q r H' x y z u g s1 e1 r1⟩
theorem sc_spun:FnScope ["one","k","turning","step"] ["one","k"] (Z0h (top 26)):=fS
theorem X4v (F:FunAt K "spun" (top 26) .none)(X:K.In h)(G:Ng h mg)(B:Bs mg)(eA:Cal P w K mg base k "spun_once" ["one"] (Y5p K)):Cal P w K mg base (k+1) "spun" ["one","k"] (Z6v K):=by
 have nd:=sc_spun.nd
 refine F.cal X G sc_spun (bnd2 λ_ _ _ _ _ _ _ _=>rfl) (λvs H Q E h=>?_) (λf cdv A outer s H vs Q E hr h=>?_)
 ·obtain⟨p,a,b,c,d,h,k,rfl,_⟩:=h;rfl
 obtain⟨p,a,b,c,d,h,j,rfl,hp,q⟩:=h
 have S:SqT K H p [.int a,.int b,.int c,.int d,.int h]:=hp
 refine⟨_,(@Z0g _ _ _ _ _ (@Z0q _ _ 2 _ _ _ _ nd rfl (Or.inl rfl) (pv 0) rfl (.inl rfl))
  (@Z0g _ _ _ _ _ (Z2w PassesOwn.never rfl (Z1v rfl B.range (Z0a (Z0j Z1e (pv 1) Z0b) Z0c)) (Z0t (i:=3) nd rfl (Or.inl rfl))
   (@Z0e _ _ _ (@Z0q _ _ 2 _ _ _ _ nd rfl (Or.inl rfl) (Z0m eA hr rfl (Z0a (pv 2) Z0c)) rfl (.inl rfl))))
  (@Z0e _ _ _ (Z0k (pv 2))))),?_⟩
 try dsimp only[cxK]
 have j0:=q5t j (show (8:Int)≠0 by decide)
 have j1:=q5u j (show (0:Int)<8 by decide)
 refine⟨_,U,_,U,_,_,U,U,(by show (0:Int)<8;decide),_,U,(by omega),(by omega),Z7k (n:=(j%8).toNat) (λi σ H'=>Same H H'/\∃ t v,σ=[some (.ref p),some (.int j),some (.ref t),v]/\At5 K H' t (rot i (a,b,c,d),h)) ⟨Same.refl _,p,none,U,hp⟩ ?_ ?_⟩
 ·rintro i σ H2 hi ⟨s2,t,v,rfl,ht⟩
  refine⟨_,U,t,_,_,_,_,_,U,ht,λr H' s3 e3=>?_⟩
  exact⟨s2.trans s3,r,_,U,At5.of e3⟩
 ·rintro σ H2 ⟨s2,t,v,rfl,ht⟩
  exact⟨_,U,q t H2 s2 ht⟩
structure Sum (a b c d h a' b' c' d' h' x y z u g:Int):Prop where
 amt:Amt x y z u g
 same:Same4 (a*p2 h'+a'*p2 h) (b*p2 h'+b'*p2 h) (c*p2 h'+c'*p2 h) (d*p2 h'+d'*p2 h) (h+h') x y z u g
 le:g<=max h h'
theorem Y2k {a a' h h' m:Int}(h0:0<=h)(h0':0<=h')(hm:h<=m)(hm':h'<=m):Eq2 (a*p2 h'+a'*p2 h) (h+h') (a*2^(m-h).toNat+a'*2^(m-h').toNat) m:=by
 unfold Eq2
 rw[Y3a h0 h0']
 show _=(a*p2 (m-h)+a'*p2 (m-h'))*(p2 h*p2 h')
 have e1:=Z6c h0 hm
 have e2:=Z6c h0' hm'
 have l1:(a*p2 h'+a'*p2 h)*p2 m=a*p2 h'*p2 m+a'*p2 h*p2 m:=Int.add_mul ..
 rw[l1,show a*p2 h'*p2 m=a*p2 h'*(p2 (m-h)*p2 h) by rw[<-e1],show a'*p2 h*p2 m=a'*p2 h*(p2 (m-h')*p2 h') by rw[<-e2]]
 grind
theorem X2l (n:Nat):Sz (n+1) ((2:Int)^n):=by
 unfold Sz
 rw[Int.natAbs_pow]
 exact q1p (by decide) (q3b n)
theorem Y2j {a a' h h' m:Int}{n N:Nat}(hm:m-h<=h'/\m-h'<=h)(z:Sz n a)(z':Sz n a')(hN:n+h.toNat+h'.toNat+2<=N):Sz N (a*2^(m-h).toNat+a'*2^(m-h').toNat):=by
 refine((z.mul (X2l (m-h).toNat)).add (z'.mul (X2l (m-h').toNat))).mono ?_
 omega
structure In2 (K:U0) (n:Nat) (vs:List V) (H:Hp) (p q:W9) (a b c d h a' b' c' d' h':Int):Prop where
 vs:vs=[.ref p,.ref q]
 one:At5 K H p ((a,b,c,d),h)
 other:At5 K H q ((a',b',c',d'),h')
 h0:0<=h
 h0':0<=h'
 hh:h+h'<=40000
 hn:n<=500000
 z:Sz4 n a b c d
 z':Sz4 n a' b' c' d'
def Y0w (K:U0):Sp:=λvs H Q _=>∃ n p q a b c d h a' b' c' d' h',In2 K n vs H p q a b c d h a' b' c' d' h'/\∀ (r:W9) (H':Hp) (x y z u g:Int),Same H H'->H' r=some (T5 x y z u g)->Sum a b c d h a' b' c' d' h' x y z u g->Sz4 (n+h.toNat+h'.toNat+2) x y z u->Q (.ref r) H'
def Y2r (K:U0):Sp:=λvs H Q _=>∃ n p q a b c d h a' b' c' d' h',In2 K n vs H p q a b c d h a' b' c' d' h'/\∀ (r:W9) (H':Hp) (x y z u g:Int),Same H H'->H' r=some (T5 x y z u g)->Sum a b c d h (-a') (-b') (-c') (-d') h' x y z u g->Sz4 (n+h.toNat+h'.toNat+2) x y z u->Q (.ref r) H'
theorem sc_plus:FnScope ["one","other","h","up","other_up","sums"] ["one","other"] (Z0h (top 24)):=fS
theorem X4w (F:FunAt K "plus" (top 24) .none)(X:K.In h)(G:Ng h mg)(B:Bs mg)(cN:Cal P w K mg base k "halved_out" ["a","b","c","d","h"] spHalf):Cal P w K mg base (k+1) "plus" ["one","other"] (Y0w K):=by
 have nd:=sc_plus.nd
 refine F.cal X G sc_plus (bnd2 λ_ _ _ _ _ _ _ _=>rfl) (λvs H Q E h=>?_) (λf cdv A outer s H vs Q E hr h=>?_)
 ·obtain⟨n,p,q,a,b,c,d,h,a',b',c',d',h',I,_⟩:=h;rw[I.vs];rfl
 obtain⟨n,p,q,a,b,c,d,h,a',b',c',d',h',⟨rfl,e1,e2,h0,h0',hh,hn,z,z'⟩,kq⟩:=h
 have S:SqT K H p [.int a,.int b,.int c,.int d,.int h]:=e1
 have S':SqT K H q [.int a',.int b',.int c',.int d',.int h']:=e2
 refine⟨_,(@Z0g _ _ _ _ _ (@Z0q _ _ 2 _ _ _ _ nd rfl (Or.inl rfl) (Z0n (Y8w rfl) rfl B.max boot_max (Z0a (Z0l Z0i (pv 0) Z0b (λ_ _=>rfl)) (Z0a (Z0l Z0i (pv 1) Z0b (λ_ _=>rfl)) Z0c))) rfl (.inl rfl))
  (@Z0g _ _ _ _ _ (@Z0q _ _ 3 _ _ _ _ nd rfl (Or.inr rfl) (Z0j Z3c (pv 2) (Z0l Z0i (pv 0) Z0b (λ_ _=>rfl))) rfl (.inl rfl))
  (@Z0g _ _ _ _ _ (@Z0q _ _ 4 _ _ _ _ nd rfl (Or.inr rfl) (Z0j Z3c (pv 2) (Z0l Z0i (pv 1) Z0b (λ_ _=>rfl))) rfl (.inl rfl))
  (@Z0g _ _ _ _ _ (Z6j (i:=5) rfl nd rfl rfl (LcOk.of (Nc:=["x","y","up","other_up"]) (mp:=[none,none,some 3,some 4]) (by kernel_rfl)) (X8e true true rfl B.zip (Z0a (Z1y Y6b (pv 0) Z2y (Z2a Z0b)) (Z0a (Z1y Y6b (pv 1) Z2y (Z2a Z0b)) Z0c))) (λ_ _ _ _=>(Z4h rfl (show (["x","y","up","other_up"]:W0).Nodup by decide +kernel) rfl rfl rfl rfl)) (λ_ _ _ _=>(Z0j Z1r (Z0j Z1j (pv 0) (pv 2)) (Z0j Z1j (pv 1) (pv 3)))) rfl)
  (@Z0e _ _ _ (Z0k (Z0m cN hr rfl (Z0a (Z0l Z1k (pv 5) Z0b (λ_ _=>rfl)) (Z0a (Z0l Z1k (pv 5) Z0b (λ_ _=>rfl)) (Z0a (Z0l Z1k (pv 5) Z0b (λ_ _=>rfl)) (Z0a (Z0l Z1k (pv 5) Z0b (λ_ _=>rfl)) (Z0a (pv 2) Z0c)))))))))))),?_⟩
 try dsimp only[cxK]
 refine⟨_,U,p,_,_,_,U,U,S,U,_,U,q,_,_,_,U,U,S',U,_,_,U,?_⟩
 generalize hm:(if h'>h then h' else h)=m
 have m1:h<=m:=by rw[<-hm];split<;>omega
 have m2:h'<=m:=by rw[<-hm];split<;>omega
 have m3:m-h<=h'/\m-h'<=h/\m<=h+h':=by rw[<-hm];split<;>omega
 refine⟨_,U,_,U,p,_,_,_,U,U,S,U,_,_,U,U,?_⟩
 refine⟨_,U,_,U,q,_,_,_,U,U,S',U,_,_,U,U,?_⟩
 refine⟨_,U,4,U,p,_,U,S,cut54,λl1 hl1=>?_⟩
 refine⟨_,U,4,U,q,_,U,(Z0f hl1 _).tup S',cut54,λl2 hl2=>?_⟩
 have s2:Same H (upd (upd H l1 (.tup ([a,b,c,d].map V.int))) l2 (.tup ([a',b',c',d'].map V.int))):=(Z0f hl1 _).trans (Z0f hl2 _)
 refine⟨l1,l2,[a,b,c,d].map V.int,[a',b',c',d'].map V.int,U,(Z0f hl2 _).tup (SqT.of Z0d),SqT.of Z0d,λacc hacc=>?_⟩
 refine X5y (K:=K) (ns:=[a,b,c,d]) (ms:=[a',b',c',d']) (fr:=[some (.int (m-h)),some (.int (m-h'))]) (λx y=>x*2^(m-h).toNat+y*2^(m-h').toNat) rfl (show 4<=sizeLine by decide) ((Z0f hl2 _).tup (SqT.of Z0d)) (SqT.of Z0d) hacc
  (λha hQ=>⟨_,_,U,SqT.of ha,U,_,_,U,_,_,U,U,hQ⟩) ?_ ?_
 ·intro x y H2 N hx hy kN
  have zx:Sz n x:=by
   simp only[q0s,q1i,q3c] at hx
   rcases hx with rfl | rfl | rfl | rfl
   ·exact z.z1
   ·exact z.z2
   ·exact z.z3
   ·exact z.z4
  have zy:Sz n y:=by
   simp only[q0s,q1i,q3c] at hy
   rcases hy with rfl | rfl | rfl | rfl
   ·exact z'.z1
   ·exact z'.z2
   ·exact z'.z3
   ·exact z'.z4
  exact⟨_,U,_,U,_,_,U,U,⟨n,zx,(by omega),(by omega)⟩,_,U,_,U,_,_,U,U,⟨n,zy,(by omega),(by omega)⟩,_,_,U,U,kN⟩
 intro H2 s3 a3
 have SA:SqL K H2 acc ((List.zipWith (λx y=>x*2^(m-h).toNat+y*2^(m-h').toNat) [a,b,c,d] [a',b',c',d']).map V.int):=SqL.of a3
 refine⟨_,U,acc,_,_,_,U,U,SA,U,_,U,acc,_,_,_,U,U,SA,U,_,U,acc,_,_,_,U,U,SA,U,_,U,acc,_,_,_,U,U,SA,U,_,U,_,_,_,_,_,U,(by show 0<=m;omega),λr H' x y v u g s4 e4 r4=>?_⟩
 have hN:n+h.toNat+h'.toNat+2<=n+h.toNat+h'.toNat+2:=q0l _
 have m4:m-h<=h'/\m-h'<=h:=⟨m3.1,m3.2.1⟩
 refine kq r H' x y v u g (s2.trans (s3.trans s4)) e4 ⟨r4.amt,Same4.trans ⟨Y2k h0 h0' m1 m2,Y2k h0 h0' m1 m2,Y2k h0 h0' m1 m2,Y2k h0 h0' m1 m2⟩ r4.same,by have:=r4.le;rw[<-hm] at this;split at this<;>omega⟩ (r4.sz ⟨?_,?_,?_,?_⟩)
 ·exact Y2j m4 z.z1 z'.z1 hN
 ·exact Y2j m4 z.z2 z'.z2 hN
 ·exact Y2j m4 z.z3 z'.z3 hN
 ·exact Y2j m4 z.z4 z'.z4 hN
theorem sc_minus:FnScope ["one","other"] ["one","other"] (Z0h (top 25)):=fS
theorem X0l (F:FunAt K "minus" (top 25) .none)(X:K.In h)(G:Ng h mg)(dW:Cal P w K mg base k "plus" ["one","other"] (Y0w K))(cS:Cal P w K mg base k "spun" ["one","k"] (Z6v K)):Cal P w K mg base (k+1) "minus" ["one","other"] (Y2r K):=by
 have nd:=sc_minus.nd
 refine F.cal X G sc_minus (bnd2 λ_ _ _ _ _ _ _ _=>rfl) (λvs H Q E h=>?_) (λf cdv A outer s H vs Q E hr h=>?_)
 ·obtain⟨n,p,q,a,b,c,d,h,a',b',c',d',h',I,_⟩:=h;rw[I.vs];rfl
 obtain⟨n,p,q,a,b,c,d,h,a',b',c',d',h',⟨rfl,e1,e2,h0,h0',hh,hn,z,z'⟩,kq⟩:=h
 refine⟨_,(@Z0e _ _ _ (Z0k (Z0m dW hr rfl (Z0a (pv 0) (Z0a (Z0m cS hr rfl (Z0a (pv 1) (Z0a Z0b Z0c))) Z0c))))),?_⟩
 try dsimp only[cxK]
 refine⟨_,U,_,U,q,_,_,_,_,_,_,U,e2,λr H2 s2 er=>?_⟩
 have er':At5 K H2 r ((-a',-b',-c',-d'),h'):=er
 exact⟨n,p,r,a,b,c,d,h,-a',-b',-c',-d',h',⟨U,e1.same s2,er',h0,h0',hh,hn,z,⟨z'.z1.neg,z'.z2.neg,z'.z3.neg,z'.z4.neg⟩⟩,λr' H3 x y v u g s3=>kq r' H3 x y v u g (s2.trans s3)⟩
end
end K76
namespace L2
def TEnt (P:Params)(e:DictEntry)(p:Str × Int):Prop:=∃ t u,e=⟨PyData.keyHash P p.1,.str p.1 t,.int p.2 u⟩
structure KDic (K:U0) (P:Params) (a:W9) (kvs:List (Str × Int)):Prop where
 ex:∃ o es ep,K.lookup a=some o/\o.ExactDict/\o.data=.dict es ep/\Paired (TEnt P) es.toList kvs
 nd:(kvs.map (·.1)).Nodup
 ns:(a == sysModules)=false
noncomputable def txt (p:Str × Int):Key × V:=(Sum.inr p.1,.int p.2)
theorem KDic.at {K:U0}{prog:U8}{w:W1}{a:W9}{kvs:List (Str × Int)}{h:Heap}(D:KDic K w.params a kvs)(X:K.In h):∃ vs,KV (kvs.map txt) vs/\h.DictOf (Z1q prog w) a vs:=by
 obtain⟨o,es,ep,hl,hx,hd,hp⟩:=D.ex
 have key:∀ {l:List DictEntry}{kvs:List (Str × Int)},Paired (TEnt w.params) l kvs->∃ vs:List (Key × Value),KV (kvs.map txt) vs/\Pairs (Z1q prog w) l vs:=by
  intro l kvs h
  induction h with
  | nil=>exact⟨[],.nil,.nil⟩
  | @cons e p l kvs he hr ih =>
   obtain⟨vs,a1,a2⟩:=ih
   obtain⟨t,u,rfl⟩:=he
   exact⟨(Sum.inr p.1,.int p.2 u)::vs,.cons ⟨U,u,U⟩ a1,.cons (Z7i p.1 t) rfl a2⟩
 have all:∀ {l:List DictEntry}{kvs:List (Str × Int)},Paired (TEnt w.params) l kvs->∀ e∈l,∃ p,TEnt w.params e p:=by
  intro l kvs h
  induction h with
  | nil=>intro e he;cases he
  | @cons e p l kvs he hr ih =>
   intro e' h'
   rcases q0s.mp h' with rfl | h'
   ·exact⟨p,he⟩
   ·exact ih e' h'
 obtain⟨vs,a1,a2⟩:=key hp
 refine⟨vs,a1,o,es,ep,X _ _ hl,hx,hd,?_,a2,?_⟩
 ·intro e he
  obtain⟨p,t,u,rfl⟩:=all hp e (Array.mem_toList_iff.mpr he)
  exact⟨Sum.inr p.1,Z7i p.1 t,U⟩
 ·rw[<-a1.keys,q3w]
  have e:kvs.map ((λkv=>kv.1) ∘ txt)=(kvs.map (·.1)).map (Sum.inr:Str->Key):=by rw[q3w];rfl
  rw[e]
  exact List.pairwise_map.mpr (D.nd.imp λh z=>h (Sum.inr.inj z))
noncomputable def numAt (kvs:List (Str × Int))(x:Str):Option V:=valV (kvs.map txt) (Sum.inr x)
def X3v (kvs:List (Str × Int))(ty:TE):TE:=λσ H Q=>ty σ H λy H1=>∃ x,y=.str x/\Q (.bl (!(numAt kvs x).isSome)) H1
def tKGet (kvs:List (Str × Int))(ty:TE):TE:=λσ H Q=>ty σ H λy H1=>∃ x v,y=.str x/\numAt kvs x=some v/\Q v H1
section
variable {X:Cx}{o i:Expr}{pos:Pos}{ty:TE}{aN:W9}{kvs:List (Str × Int)}
theorem Y6t (D:KDic X.K X.w.params aN kvs)(hi:PE X i ty)(ho:PE X o (tC (.ref aN))):PC X .NotIn i o (X3v kvs ty):=by
 intro pins s σ H Q I h
 refine thn (hi pins s σ H _ I h) λiv s1 ⟨y,H1,I1,ry,x,ey,q1⟩=>thn (ho pins s1 σ H1 (λv H2=>v=.ref aN/\H2=H1) I1 ⟨U,U⟩) λu s2 ⟨v,H2,I2,rv,ev,eh⟩=>?_
 subst ev eh ey
 cases rv
 obtain⟨vs,rel,dd⟩:=D.at (prog:=X.prog) (w:=X.w) I2.kIn
 refine wpAny_notIn_of (Y1s (k:=Sum.inr x) ry) D.ns dd.mapOf ?_
 rw[<-(rel.val (Sum.inr x)).isSome_eq]
 exact⟨.bl _,H2,I2.tok _,U,q1⟩
theorem X4o (D:KDic X.K X.w.params aN kvs)(ho:PE X o (tC (.ref aN)))(hi:PE X i ty)(hs:NoSl i):PE X (.Subscript o i pos) (tKGet kvs ty):=by
 intro pins s σ H Q I h
 refine Y5m q6u.lookup hs (thn (ho pins s σ H (λv H2=>v=.ref aN/\H2=H) I ⟨U,U⟩) λu s1 ⟨v,H1,I1,rv,ev,eh⟩=>?_)
 subst ev eh
 cases rv
 refine thn (hi pins s1 σ H1 _ I1 h) λiv s2 ⟨y,H2,I2,ry,x,w',ey,g,q2⟩=>?_
 subst ey
 obtain⟨vs,rel,dd⟩:=D.at (prog:=X.prog) (w:=X.w) I2.kIn
 obtain⟨u,hw,ru⟩:=RelO.some_of (v:=w') (o:=valueAt vs (Sum.inr x)) (by rw[<-g];exact rel.val (Sum.inr x))
 exact⟨dd.typeIs,wpAny_getItem_of (Y1s (k:=Sum.inr x) ry) dd.mapOf hw ⟨w',H2,I2.tok _,ru,q2⟩⟩
end
end L2
namespace L2
noncomputable abbrev unlike (ns:U6):Nat:=(firstMet (λi=>ns.getD i 0) ns.length).length
noncomputable abbrev fresh0 (led:Bool):Obj:={ cls:=.type "set",dict:=none,data:=.set #[] 0 (.fresh 0 0 led) }
def SetEnd (prog:U8)(w:W1)(s:U7)(ns:U6)(S:Int->Bool)(s':U7):Prop :=
 ∃ h' tk,s'={ s with heap:=h',toks:=tk }/\h'.SetOf (intKind prog w) s.heap.objs.size S (unlike ns)/\∀ b o,s.heap.get? b=some o->h'.get? b=some o
section
variable {prog:U8}{w:W1}{A:W6}{E:U2}{s:U7}{p:W9}{its:U9}{ns:U6}
theorem X1n (hh:A.handled=none)(ht:s.heap.IsTuple p its)(hi:IntsAre its.toList ns)(hb:ns.length+1<scanBound)(led:Bool){R:Result->Shared->Prop}
  (h:∀ s',SetEnd prog w s ns (λk=>(firstMet (λi=>ns.getD i 0) ns.length).any (· == k)) s'->R (.ok (.ret .none)) s') :
  codeAny (model prog w) A (.builtin "set.update.loop" ⟨[.ref s.heap.objs.size,.ref (s.heap.push (fresh0 led)).objs.size],[]⟩) R { s with heap:=(s.heap.push (fresh0 led)).push { cls:=.type "tuple_iterator",data:=.fields #[.ref p,.int 0 0] } }:=by
 obtain⟨o,ho,hc,n,hd⟩:=id ht
 have lt:p<s.heap.objs.size:=q0h ho
 have e1:(s.heap.push (fresh0 led)).objs.size=s.heap.objs.size+1:=q2w ..
 have hz:its.size=ns.length:=by rw[<-q2h];exact hi.length
 have W:=(Walks.tuple (prog:=prog) (w:=w) (A:=A.in1) (by simp[hh]) (s.heap.push (fresh0 led)).objs.size p (by rw[e1];exact q0t (q3p lt)) its).toS
 have t1:(s.heap.push (fresh0 led)).IsTuple p its:=⟨o,q0e _ ho,hc,n,hd⟩
 refine codeAny_set_update_loopS W s.heap.objs.size (by rw[e1];simp only[q0s,q1i,q3c,not_or];exact⟨q0t (q3b _),q3o lt⟩) (λi=>ns.getD i 0) (λi v q=>hi.int_at i v (by rw[q4u];exact q)) (by rw[hz];exact hb) its.size 0 _ rfl (q1o _)
  ⟨⟨_,q0n _ rfl,U,U⟩,t1.push _⟩ ?_ ?_
 ·have g:((s.heap.push (fresh0 led)).push { cls:=.type "tuple_iterator",data:=.fields #[.ref p,.int 0 0] }).get? s.heap.objs.size=some (fresh0 led):=q0e _ (q0n _ rfl)
  exact SetOf_congr ((setObjOf_fresh (knd:=intKind prog w) led).setOf g (by unfold scanBound;omega)) (λ_=>rfl) rfl
 ·intro s' hm hS
  rw[hz] at hS
  obtain⟨h',g',d',tk',os'⟩:=s'
  obtain rfl:g'=s.gens:=hm.gens
  obtain rfl:d'=s.drawn:=hm.drawn
  obtain rfl:os'=s.os:=hm.os
  refine h _ ⟨h',tk',U,hS,λb o e=>?_⟩
  have lb:=q0h e
  exact hm.heap b o (by rw[e1];simp only[q0s,q1i,q3c,not_or];exact⟨q0t lb,q0t (q3p lb)⟩) (q0e _ (q0e _ e))
theorem X1j (hh:A.handled=none)(ht:s.heap.IsTuple p its)(hi:IntsAre its.toList ns)(hb:ns.length+1<scanBound)(led:Bool){R:U2}
  (h:∀ s',SetEnd prog w s ns (λk=>(firstMet (λi=>ns.getD i 0) ns.length).any (· == k)) s'->R .none s') :
  codeAny (model prog w) A (.call (.builtin "set.__init__") ⟨[.ref s.heap.objs.size,.ref p],[]⟩) (wants R E) { s with heap:=s.heap.push (fresh0 led) }:=by
 have ty:Shared.TypeIs { s with heap:=s.heap.push (fresh0 led) } (.ref s.heap.objs.size) "set":=⟨_,q0n _ rfl,U⟩
 obtain⟨o,ho,hc,n,hd⟩:=id ht
 obtain⟨ocls,odict,odata,oslots⟩:=o
 simp only at hc hd
 subst hc hd
 have ho1:(s.heap.push (fresh0 led)).get? p=some { cls:=.type "tuple",dict:=odict,data:=.seq its n,slots:=oslots }:=q0e _ ho
 have t1:(s.heap.push (fresh0 led)).IsTuple p its:=⟨_,ho1,U,n,U⟩
 have n1:=F.sub_tuple_set
 have n2:=F.sub_tuple_frozenset
 have n3:(Value.type "tuple" == Value.type "dict")=false:=by decide
 refine codeAny_call_builtin F.called_set.init.plain F.entry_set_init (check_set_init_1 ty ?_)
 unfold Builtin.«set.__init__» noKeywords Builtin.Frozenset.updateFrom
 generalize hP:pyIter=PI
 wp_walk
 subst hP
 refine q5m t1 (q0c (wpAny_runValue (X1n (by simp[hh]) ht hi hb led λs' e=>?_)))
 exact q0m (q0m (h _ e))
theorem X4d (hh:A.handled=none)(ht:s.heap.IsTuple p its)(hi:IntsAre its.toList ns)(hb:ns.length+1<scanBound){Q:U2}
  (h:∀ s',SetEnd prog w s ns (λk=>(firstMet (λi=>ns.getD i 0) ns.length).any (· == k)) s'->Q (.ref s.heap.objs.size) s'):wpAny (model prog w) A (call (.type "set") [.ref p]) Q E s:=by
 obtain⟨c,tl,hmro⟩:=F.called_set.mro
 have m1:=F.called_set.made
 have m2:=F.called_set.sub
 have m3:=F.called_set.notType
 have m4:=F.called_set.canCreate
 have m5:=F.typeCall_set_1 (.ref p)
 refine q8f (codeAny_of_tree ?_)
 show wpAny _ _ (callAny (.type "set") _) _ _ _
 refine q0m ⟨Code.quiet_builtin _ (by decide +kernel),q7w F.entry_type_call ?_⟩
 rw[Around.under_plain (weight_type_call_type "set" [.ref p] []) rfl]
 repeat any_goals first | assumption | wp_step
 refine q5h (code_set_new_1 (.ref p) (E:=E) (Q₁:=λob s₁=>∃ led:Bool,ob=.ref s.heap.objs.size/\s₁={ s with heap:=s.heap.push (fresh0 led) }) λled=>⟨led,U,U⟩) λr s₁ hr=>?_
 rcases r with e | fl
 ·exact hr
 cases fl with
 | ret ob =>
  obtain⟨led,rfl,rfl⟩:=hr
  have ty:Shared.TypeIs { s with heap:=s.heap.push (fresh0 led) } (.ref s.heap.objs.size) "set":=⟨_,q0n _ rfl,U⟩
  have i1:=F.called_set.init.lookup
  have i2:=F.called_set.init.bind (.ref s.heap.objs.size)
  repeat any_goals first | assumption | wp_step
  refine q5h (X1j (E:=E) (R:=λr s'=>r=.none/\SetEnd prog w s ns (λk=>(firstMet (λi=>ns.getD i 0) ns.length).any (· == k)) s') (by simp[hh]) ht hi hb led λs' e=>⟨U,e⟩) λr₂ s₂ hr₂=>?_
  rcases r₂ with e | fl₂
  ·exact hr₂
  cases fl₂ with
  | ret r =>
   obtain⟨rfl,e⟩:=hr₂
   repeat any_goals first | assumption | wp_step
   exact h _ e
  | next=>exact hr₂.elim
  | brk=>exact hr₂.elim
  | cont=>exact hr₂.elim
 | next=>exact hr.elim
 | brk=>exact hr.elim
 | cont=>exact hr.elim
end
theorem Y0e:∀ {ns:U6}{us:U5},Vals (ns.map V.int) us->IntsAre us ns
 | [],_,.nil=>.nil
 | n::ns,_,.cons r rs=>by
  obtain⟨t,rfl⟩:=r
  exact .cons n t (Y0e rs)
section
variable {X:Cx}
theorem Y8t (hc:X.calm=true):CallR X (.type "set") (λxs H Q=>∃ (p:W9) (ns:U6),xs=[.ref p]/\SqT X.K H p (ns.map V.int)/\ns.length<64/\∀ (l:W9) (S:Int->Bool),H l=none->Q (.ref l) (upd H l (.set S (unlike ns)))):=by
 intro pins s σ H xs us Q I r h
 obtain⟨p,ns,rfl,hS,h64,q⟩:=h
 obtain⟨u,rfl,rx⟩:=vals1 r
 cases rx
 obtain⟨its,rv,ht,_⟩:=I.tuple hS
 obtain⟨o,ho,hcl,n,hd⟩:=ht
 refine X4d (I.ok.hd hc) ⟨o,ho,hcl,n,hd⟩ (ns:=ns) (Y0e (by simpa using rv)) (by unfold scanBound;omega) λs' ⟨h',tk,e,hs,hk⟩=>?_
 subst e
 exact⟨.ref s.heap.objs.size,_,I.laid (o:=.set _ (unlike ns)) (t':=tk) hk (q0l _) hs,U,q _ _ (I.hok.fresh (q0l _))⟩
theorem Y8x:CallR X (.builtin "len") (λxs H Q=>∃ (p:W9) (S:Int->Bool) (n:Nat),xs=[.ref p]/\H p=some (.set S n)/\n<64/\Q (.int n) H):=by
 intro pins s σ H xs us Q I r h
 obtain⟨p,S,n,rfl,hp,h64,q⟩:=h
 obtain⟨u,rfl,rx⟩:=vals1 r
 cases rx
 have hs:s.heap.SetOf (intKind X.prog X.w) p S n:=I.hok p _ hp
 obtain⟨o,ho,hso⟩:=hs.objOf
 obtain⟨hex,es,ep,t,hd,_,_,hn,hf⟩:=hso
 subst hn
 exact call_len_set ho hex hd hf (by omega) ⟨.int es.size,H,(I.tok _).tok _,⟨_,U⟩,q⟩
end
end L2
namespace L2
section
variable {X:Cx}{e st:Expr}{lo hi:Option Expr}{te:TE}{tl th ts:TO}{p2 pos:Pos}
end
end L2
namespace HT
section
variable {prog:U8}{w:W1}{A:W6}{E:U2}{s:U7}
theorem Z5x {t sl:W9}{items:U9}{vl vu:W2}{lo hi:Option Int}{Q:U2}(ht:IsTup s.heap t items)(hs:s.heap.IsSliceOf sl vl vu .none)(pl:IsPart vl lo)(pu:IsPart vu hi)
  (h1:sIx items.size 0 lo=0) (h2:sIx items.size items.size hi=items.size) (h:Q (.ref t) s):wpAny (model prog w) A (getItem (.ref t) (.ref sl)) Q E s:=by
 obtain⟨os,hos,hcs,hds⟩:=id hs
 have ty:s.TypeIs (.ref sl) "slice":=⟨os,hos,hcs⟩
 unfold getItem
 try with_reducible refine q4v ?_
 first | refine q0c (q0m ?_) | skip
 refine q0c (wpAny_sequenceKey ht.typeIs (by decide) (q0c (q4i (name:=Str.ofString "__getitem__") ht.typeIs PyProof.Rows.slot_tuple_getitem (q4k PyProof.Rows.slot_tuple_getitem ht.typeIs entry_tuple_getitem ?_ (args_tuple_getitem _ _)))))
 show wpAny _ _ (Builtin.Tuple.tupleItemsOf (.ref t) >>= _) _ _ s;refine q0c (tupleItemsOf_ ht (q0c (q8p ty ?_)));rw[if_pos (by decide)]
 refine q0c (Z3q hs pl pu ?_)
 show wpAny _ _ (if (((sIx items.size 0 lo:Nat):Int) == 0 && (1:Int) == 1 && (sIx items.size items.size hi-sIx items.size 0 lo) == items.size)=true then _ else _) _ _ s;rw[if_pos (by rw[h1,h2];simp)]
 refine q0c ?_
 unfold Builtin.Tuple.tupleIsExact
 refine q0c (q8p ht.typeIs (q0m ?_))
 rw[if_pos (by decide)]
 exact q0c (wpAny_rule (q0m ⟨_,U,q0m h⟩))
end
end HT
namespace L2
section
variable {X:Cx}
def rSlA (K:U0):V->Option Int->Option Int->Hp->VK->Prop:=λx lo hi H Q=>∃ a xs,x=.ref a/\SqT K H a xs ∧
 ((HT.sIx xs.length 0 lo=0/\HT.sIx xs.length xs.length hi=xs.length)/\Q (.ref a) H∨¬ (HT.sIx xs.length 0 lo=0/\HT.sIx xs.length xs.length hi=xs.length)/\∀ p,H p=none->Q (.ref p) (upd H p (.tup (cutV xs lo hi))))
theorem Z6x:SlR X (rSlA X.K):=by
 intro pins s σ H x v vl vu lo hi sl Q I rx hs pl pu h
 obtain⟨a,xs,rfl,hx,⟨hw,q⟩ | ⟨hw,q⟩⟩:=h
 ·cases rx
  obtain⟨its,r,ht,hz⟩:=I.tuple hx
  have hlen:=r.length
  refine⟨"tuple",_,slot_tuple_getitem.lookup,ht.typeIs,HT.Z5x ht hs pl pu (by rw[q0r,<-hlen];exact hw.1) (by rw[q0r,<-hlen];exact hw.2) ⟨.ref a,H,I,U,q⟩⟩
 ·exact Y6b pins s σ H _ v vl vu lo hi sl Q I rx hs pl pu ⟨a,xs,U,hx,hw,q⟩
end
end L2
namespace L2
theorem Y5k {prog:U8}{w:W1}{A:W6}{env:Env}{c:Expr}{s:U7}{Q:Bool->Shared->Prop}(h:wpAny (model prog w) A (isTrue c env (eval c env)) Q Calm s) :
  wpAny (model prog w) A (forIn [c] true λc r=>if r=true then do let ok ← isTrue c env (eval c env);pure (ForInStep.yield ok) else pure (ForInStep.yield r)) Q Calm s:=wpAny_tests_one h
theorem Z7s {prog:U8}{w:W1}{A:W6}{R:Result->Shared->Prop}{s:U7}{e t i c:Expr}{sc:Scope}{pos:Pos}{it acc:W2}{env:Env}(J:Nat->Shared->Prop)
  (turn:∀ n s,J n s->wpAny (model prog w) A (pyNext it) (λr s1=>(r=none->R (.ok .next) s1)/\∀ v,r=some v →
   wpAny (model prog w) A (letOwnedTupleGo t it v) (λ_ s2=>wpAny (model prog w) A (assign t env v) (λ_ s3=>wpAny (model prog w) A (isTrue c env (eval c env)) (λok s3'=>if ok=true then wpAny (model prog w) A (eval e env) (λx s4 =>
    wpAny (model prog w) A (call (.builtin "list.append") [acc,x]) (λ_ s5=>∃ m,m<n/\J m s5) Calm s4) Calm s3' else ∃ m,m<n/\J m s3') Calm s3) Calm s2) Calm s1) Calm s)
  (n:Nat) (h:J n s):codeAny (model prog w) A (.compLoop (.ListComp e [⟨t,i,[c],0⟩] sc pos) 0 it acc env) R s:=by
 have eq:=compTurn_list e t i [c] sc pos it acc env
 refine codeAny_loop rfl J (λn s j=>wpAny_noted (m:=compTurn (.ListComp e [⟨t,i,[c],0⟩] sc pos) 0 it acc env) ?_) n h
 rw[eq]
 refine q0c (q7d (thenC (turn n s j) λr s1 q=>?_))
 match r,q with
 | none,q=>exact q0m (q.1 rfl)
 | some v,q =>
  refine thenC (q.2 v rfl) λ_ s2 q2=>thenC q2 λ_ s3 q3=>thenC (Y5k q3) λok s4 q4=>?_
  cases ok with
  | false=>exact q0m ⟨rfl,q4⟩
  | true=>exact q0c (thenC q4 λx s5 q5=>thenC q5 λ_ s6 q6=>q0m (q0m ⟨rfl,q6⟩))
def LcWF (J:It)(g:TG)(tc:TT)(te:TE)(σ:St)(H:Hp)(acc:W9)(Q:VK):Prop:=∃ W:Nat->Nat->List V->St->Hp->Prop,(∃ m,W 0 m [] σ (upd H acc (.lst []))) ∧
 ∀ i m ys σ2 H2,W i m ys σ2 H2->(J.stop i H2/\Q (.ref acc) H2)∨(J.go i H2/\∀ x H3,J.yld i H2 x H3->g x σ2 H3 λσ4 H4=>tc σ4 H4 λb H5 =>
  (b=true->te σ4 H5 λy H6=>H6 acc=some (.lst ys)/\ys.length<sizeLine/\∃ m',m'<m/\W (i+1) m' (ys++[y]) σ4 (upd H6 acc (.lst (ys++[y]))))/\(b=false->∃ m',m'<m/\W (i+1) m' ys σ4 H5))
def tLcF (mp:W7)(wi:TI)(g:TG)(tc:TT)(te:TE):TE:=λσ H Q=>wi σ H λJ H1=>∀ acc,H1 acc=none->LcWF J g tc te (sub mp σ) H1 acc Q
section
variable {X:Cx}{elt tg iter cond:Expr}{scope:Scope}{pos:Pos}{wi:TI}{g:TG}{tc:TT}{te:TE}{Nc:W0}{mp:W7}
theorem Y7v (hc:X.calm=true)(S:LcOk X.N X.env.scope scope Nc mp)(hg:∀ ex pins s H,PG (cxLc X scope Nc ex pins s H) tg g)(ht:∀ ex pins s H,PT (cxLc X scope Nc ex pins s H) cond tc)(he:∀ ex pins s H,PE (cxLc X scope Nc ex pins s H) elt te)
  {pins:U1}{σ:St}{H2:Hp}{s2:U7}{E:U2}{it:W9}{fp:U3}{tn:Nat->Heap->Prop}{J:It}{Q:VK}{RR:Value->Addr->Result->Shared->Prop}
  (I2:Inv X pins σ H2 s2) (T:Turn X.prog X.w X.K tg J fp it tn) (st2:tn 0 s2.heap) (f2:∀ b∈fp,FpOk X pins H2 b)
  (q:∀ acc,H2 acc=none->LcWF J g tc te (sub mp σ) H2 acc Q)
  (fin:∀ acc C H' s' m',Q (.ref acc) H'->Inv X pins σ H' s'->s'.heap.Ns C m'->H' C=none->X.s₀.heap.objs.size<=C->C≠X.env.locals->(∀ x c,X.env.cells.lookup x=some c->c≠C)->(∀ p∈X.pn++pins,p.1≠C)->RR (.ref acc) C (.ok .next) s') :
  wpAny (model X.prog X.w) X.A (newList []) (λacc s₃=>wpAny (model X.prog X.w) X.A (newFunctionEnv scope X.env.globals (clo scope.names X.env.cells) [] X.env.qual none .none (some X.env)) (λcenv s₄ =>
   codeAny (model X.prog X.w) X.A (.compStart (.ListComp elt [⟨tg,iter,[cond],0⟩] scope pos) 0 (.ref it) acc { cenv with scope:=relabel scope X.env }) (RR acc cenv.locals) s₄) E s₃) E s2:=by
 refine q2j (wpAny_newFunctionEnv S.nocell (by intro y hy;simp at hy) (λh₁ hns₁ hsb₁=>?_) S.kind)
 dsimp only at hns₁ hsb₁ ⊢
 have I3:=I2.lnew (its:=[]) (ys:=[]) (t':=s2.toks) .nil (q1o _)
 have hacc:H2 s2.heap.objs.size=none:=I2.fresh
 obtain⟨W,⟨m0,w0⟩,turn⟩:=q s2.heap.objs.size hacc
 have hpush:(s2.heap.push { cls:=.type "list",dict:=none,data:=.seq ([]:U5).toArray }).objs.size=s2.heap.objs.size+1:=q2w ..
 have hlt:∀ b∈fp,b<s2.heap.objs.size:=λb hb=>by
  obtain⟨o,e,_⟩:=T.obj _ _ st2 b hb
  exact q0h e
 have f3:∀ b∈fp,FpOk X pins (upd H2 s2.heap.objs.size (.lst [])) b:=λb hb=>⟨by rw[Z0u (q0t (hlt b hb))];exact(f2 b hb).1,(f2 b hb).2⟩
 have I3':Inv X pins σ (upd H2 s2.heap.objs.size (.lst [])) (Z0s s2):=I3
 have hsz:(Z0s s2).heap.objs.size=s2.heap.objs.size+1:=hpush
 have hlt3:∀ b∈fp,b<(Z0s s2).heap.objs.size:=λb hb=>by rw[hsz];exact q3p (hlt b hb)
 have k3:∀ b o,(Z0s s2).heap.get? b=some o->h₁.get? b=some o:=λb o e=>hsb₁.extBut b o (q0t (q0h e)) (q0e _ e)
 have Ic:=Y3h (tk:=(Z0s s2).toks) I3' S f3 hlt3 hns₁ k3
 have st3:tn 0 h₁:=T.keep _ _ _ st2 λb hb o e=>k3 b o (q0e _ e)
 have cC:X.s₀.heap.objs.size<=(Z0s s2).heap.objs.size:=I3'.sz
 have cL:(Z0s s2).heap.objs.size≠X.env.locals:=q3o I3'.lt
 have cc:∀ x c,X.env.cells.lookup x=some c->c≠(Z0s s2).heap.objs.size:=λx c e=>by
  obtain⟨v,o,ho,_⟩:=I3'.cell x c e
  exact q0t (q0h ho)
 have cp:∀ p∈X.pn++pins,p.1≠(Z0s s2).heap.objs.size:=λp hp=>q0t (q0h (I3'.pin p hp).1)
 have stat:∀ {H':Hp},(∀ b∈fp,H' b=none)->∀ b∈fp,FpOk (cxLc X scope Nc fp pins (Z0s s2) (upd H2 s2.heap.objs.size (.lst []))) [] H' b:=λhn b hb =>
  ⟨hn b hb,q0t (hlt3 b hb),λz=>by
   rcases q0s.mp (I3'.stkSub b z) with e | e
   ·exact(f3 b hb).2.1 e
   ·exact(f3 b hb).2.2.1 e,.inl hb,λx c e=>(f3 b hb).2.2.2.2.1 x c (Z6e I3' S e),λp hp=>(f3 b hb).2.2.2.2.2 p (by
    have:p∈(X.pn++pins)++[]:=hp
    simpa using this)⟩
 have loop:∀ s4:Shared,s4={ (Z0s s2) with heap:=h₁,toks:=(Z0s s2).toks } →
   codeAny (model X.prog X.w) X.A (.compLoop (.ListComp elt [⟨tg,iter,[cond],0⟩] scope pos) 0 (.ref it) (.ref s2.heap.objs.size) (cxLc X scope Nc fp pins (Z0s s2) (upd H2 s2.heap.objs.size (.lst []))).env)
    (RR (.ref s2.heap.objs.size) (Z0s s2).heap.objs.size) s4:=by
  rintro s4 rfl
  refine Z7s (λn s'=>∃ i ys σ' H',Inv (cxLc X scope Nc fp pins (Z0s s2) (upd H2 s2.heap.objs.size (.lst []))) [] σ' H' s'/\tn i s'.heap/\(∀ b∈fp,H' b=none)/\W i n ys σ' H') ?_ m0
   ⟨0,[],sub mp σ,_,Ic,st3,λb hb=>(f3 b hb).1,w0⟩
  rintro n s5 ⟨i,ys,σ5,H5,I5,st5,fr5,w5⟩
  rcases turn i n ys σ5 H5 w5 with ⟨stop,qn⟩ | ⟨go,step⟩
  ·refine q1y (T.done (cxLc X scope Nc fp pins (Z0s s2) (upd H2 s2.heap.objs.size (.lst []))) rfl rfl rfl hc i [] s5 σ5 H5 (λ_ _=>False) I5 (stat fr5) st5 stop) (λr s6 ⟨hr,I6⟩=>?_) λ_ _ f=>f.elim
   subst hr
   obtain⟨m6,hn6,_⟩:=I6.loc
   refine⟨λ_=>?_,λ_ z=>nomatch z⟩
   exact fin _ _ H5 s6 m6 qn (X2z I3' f3 I6) hn6 I6.free cC cL cc cp
  ·refine q1y (T.item (cxLc X scope Nc fp pins (Z0s s2) (upd H2 s2.heap.objs.size (.lst []))) rfl rfl rfl hc i [] s5 σ5 H5 (λ_ _=>False) I5 (stat fr5) st5 go) (λr s6 ⟨u,hr,h6⟩=>?_) λ_ _ f=>f.elim
   subst hr
   refine⟨(λz=>by cases z),?_⟩
   rintro _ ⟨⟩
   refine q1y h6 (λ_ s7 ⟨x,H7,I7,r7,y7,st7,fr7⟩=>?_) λ_ _ f=>f.elim
   have I7':=I7.pinned (stat fr7) (T.obj _ _ st7)
   refine q1y (hg _ _ _ _ _ s7 σ5 H7 x u _ I7' r7 (step x H7 y7)) (λ_ s8 ⟨σ8,H8,I8,q8⟩=>?_) λ_ _ f=>f.elim
   refine q1y (ht _ _ _ _ _ s8 σ8 H8 _ I8 q8) (λbb s9 ⟨H9,I9,p9,n9⟩=>?_) λ_ _ f=>f.elim
   have keeps:∀ {H':Hp}{s':U7},Inv (cxLc X scope Nc fp pins (Z0s s2) (upd H2 s2.heap.objs.size (.lst []))) ([]++pinsAt fp s7.heap) σ8 H' s'->tn (i+1) s'.heap/\∀ b∈fp,H' b=none:=λ{H' s'} J' =>
    ⟨T.keep _ _ _ st7 λb hb o e=>(J'.pin (b,o) (q1h _ (q1h _ (Z2t hb e)))).1,λb hb=>by
     obtain⟨o,e,d⟩:=T.obj _ _ st7 b hb
     exact(J'.pin (b,o) (q1h _ (q1h _ (Z2t hb e)))).2.1⟩
   cases bb with
   | false =>
    obtain⟨m',hm',w9⟩:=n9 rfl
    rw[if_neg q0y]
    exact⟨m',hm',i+1,ys,σ8,H9,I9.unpinned,(keeps I9).1,(keeps I9).2,w9⟩
   | true =>
    rw[if_pos rfl]
    refine q1y (he _ _ _ _ _ s9 σ8 H9 _ I9 (p9 rfl)) (λv s10 ⟨y,H10,I10,r10,a10,l10,m',hm',w10⟩=>?_) λ_ _ f=>f.elim
    refine q1y (Z4c (X:=cxLc X scope Nc fp pins (Z0s s2) (upd H2 s2.heap.objs.size (.lst []))) _ s10 σ8 H10 (.ref s2.heap.objs.size) [y] (.ref s2.heap.objs.size) [v] (λz Hz=>z=.non/\Hz=upd H10 s2.heap.objs.size (.lst (ys++[y]))) I10 rfl (.cons r10 .nil) ⟨_,ys,y,U,U,a10,l10,U,U⟩) (λv11 s11 ⟨z,H11,I11,_,_,e11⟩=>?_) λ_ _ f=>f.elim
    subst e11
    exact⟨m',hm',i+1,ys++[y],σ8,_,I11.unpinned,(keeps I11).1,(keeps I11).2,w10⟩
 exact q7p (loop _ rfl) (T.self _ 0 _ _ _ st3 (loop _ rfl))
theorem Y2z (hc:X.calm=true)(S:LcOk X.N X.env.scope scope Nc mp)(hi:PI X tg iter wi)(hg:∀ ex pins s H,PG (cxLc X scope Nc ex pins s H) tg g)(ht:∀ ex pins s H,PT (cxLc X scope Nc ex pins s H) cond tc)(he:∀ ex pins s H,PE (cxLc X scope Nc ex pins s H) elt te)
  (hf:∀ x,foldedSetIterable iter X.env x=pure x:=by intro _;rfl):PE X (.ListComp elt [⟨tg,iter,[cond],0⟩] scope pos) (tLcF mp wi g tc te):=by
 intro pins s σ H Q I h
 rw[eval_ListComp]
 refine q4b (use:=none) rfl hf (Z4l (Z5h I S)) S.kind S.names (thn (hi pins s σ H _ I h) λv s1 h1=>thn h1 λitv s2 h2=>?_)
 obtain⟨it,fp,tn,J,H2,e,I2,T,st2,f2,q⟩:=h2
 subst e
 refine Y7v (RR:=λacc C=>compPost (model X.prog X.w) X.A X.xe none (EP X pins σ Q) acc C) hc S hg ht he I2 T st2 f2 q ?_
 intro acc C H' s' m' qq I' hn hC c1 c2 c3 c4
 refine⟨m',hn,λh' hs=>⟨.ref acc,H',?_,U,qq⟩⟩
 exact I'.turnedNew (t':=s'.toks) (λb o hb e=>hs.extBut b o hb e) hC c1 c2 c3 c4
theorem Y6f {i:Nat}{x:Str}{pos' spos:Pos}(hc:X.calm=true)(hN:X.N.Nodup)(hi':X.N[i]?=some x)(hx:X.env.scope.names.lookup x=some .local)(S:LcOk X.N X.env.scope scope Nc mp)(hi:PI X tg iter wi)
  (hg:∀ ex pins s H,PG (cxLc X scope Nc ex pins s H) tg g) (ht:∀ ex pins s H,PT (cxLc X scope Nc ex pins s H) cond tc) (he:∀ ex pins s H,PE (cxLc X scope Nc ex pins s H) elt te)
  (hsw:swapsWith (.ListComp elt [⟨tg,iter,[cond],0⟩] scope pos) (some (.Name x pos')) spos.line X.env=pure true)
  (hf:∀ x,foldedSetIterable iter X.env x=pure x:=by intro _;rfl):PS X (.Assign [.Name x pos'] (.ListComp elt [⟨tg,iter,[cond],0⟩] scope pos) spos) (tAsg (tLcF mp wi g tc te) (gName i)):=by
 intro pins s σ H D I h
 rw[q7v _ _ _ _ hsw]
 refine q0c (q7d (q0c ?_))
 show wpAny _ X.A (do let _ ← comprehension (.ListComp elt [⟨tg,iter,[cond],0⟩] scope pos) scope X.env _ (newList []) false (eval iter X.env) (some (assign (.Name x pos') X.env))) _ _ s
 refine q0c (q1y (q4b (use:=some (assign (.Name x pos') X.env)) (Q:=λ_ s'=>SP X pins D .next s') rfl hf (Z4l (Z5h I S)) S.kind S.names
  (thn (hi pins s σ H _ I h) λv s1 h1=>thn h1 λitv s2 h2=>?_)) (λ_ s' hq=>q0m (q0m hq)) λ_ _ e=>e)
 obtain⟨it,fp,tn,J,H2,e,I2,T,st2,f2,q⟩:=h2
 subst e
 refine Y7v (Q:=λx H1=>gName i x σ H1 D.nx) (RR:=λacc C=>compPost (model X.prog X.w) X.A X.xe (some (assign (.Name x pos') X.env)) (λ_ s'=>SP X pins D .next s') acc C) hc S hg ht he I2 T st2 f2 q ?_
 intro acc C H' s' m' qq I' hn hC c1 c2 c3 c4
 show wpAny _ X.A (assign (.Name x pos') X.env (.ref acc)) _ _ _
 refine q6w (Z6u (v:=.ref acc) I' hN hi' (.inl hx) rfl (λs5 I5 ⟨a,hs5,ha⟩=>?_) (.inr hx))
 have hCa:C≠a:=by
  rcases ha with z | z
  ·rw[z];exact c2
  ·exact Ne.symm (c3 x a z)
 refine⟨m',hn.sameBut hs5 hCa,λh' hs=>⟨σ.set i (some (.ref acc)),H',?_,qq⟩⟩
 exact I5.turnedNew (t':=s5.toks) (λb o hb e=>hs.extBut b o hb e) hC c1 c2 c3 c4
end
def tTruI (t:TE):TT:=λσ H Q=>t σ H λx H'=>∃ i,x=.int i/\Q (i != 0) H'
theorem Z2c {X:Cx}{a:Expr}{ta:TE}(ha:PE X a ta)(he:∀ whole,isTrue a X.env whole=(do let v ← whole;standAt a.pos;holding [v] (truthy v))):PT X a (tTruI ta):=by
 intro pins s σ H Q I h
 refine isTrue_plain (thn (ha pins s σ H _ I h) λv s1 ⟨x,H1,I1,r1,i,e,q1⟩=>?_) (he _)
 subst e
 exact X7v pins s1 σ H1 (.int i) v Q I1 r1 ⟨_,U,q1⟩
theorem Z7h {lo:Int}{n:Nat}{tc:TT}{te:TE}{fr:St}{H1:Hp}{acc:W9}{Q:VK}(Pv:Nat->List V->Hp->Prop)(hn:n<=sizeLine)(h0:Pv 0 [] (upd H1 acc (.lst [])))
  (hs:∀ i ys H (N:Bool->Hp->Prop),i<n->ys.length<=i->Pv i ys H->(∀ b H5,(b=true->te (some (.int (lo+i))::fr) H5 λy H6=>H6 acc=some (.lst ys)/\Pv (i+1) (ys++[y]) (upd H6 acc (.lst (ys++[y]))))->(b=false->Pv (i+1) ys H5)->N b H5)->tc (some (.int (lo+i))::fr) H N)
  (mono:∀ {σ H}{R R':VK},(∀ v H,R v H->R' v H)->te σ H R->te σ H R')
  (hd:∀ ys H,Pv n ys H->Q (.ref acc) H):LcWF (Itr lo n) (gName 0) tc te (none::fr) H1 acc Q:=by
 refine⟨λi m ys σ2 H2=>m=n-i/\i<=n/\ys.length<=i/\(∃ v,σ2=v::fr)/\Pv i ys H2,⟨n,by simp,q1o _,q0l _,⟨_,U⟩,h0⟩,?_⟩
 rintro i m ys σ2 H2 ⟨rfl,hi,hl,⟨v,rfl⟩,p⟩
 by_cases hlt:i<n
 ·refine .inr ⟨hlt,λx H3 y3=>?_⟩
  obtain⟨rfl,rfl⟩:=y3
  show tc ((v::fr).set 0 (some (.int (lo+i)))) _ _
  rw[List.set_cons_zero]
  refine hs i ys _ _ hlt hl p λb H5 ht hf=>⟨λe=>mono (λy H6 q=>?_) (ht e),λe=>⟨n-(i+1),by omega,U,hlt,by omega,⟨_,U⟩,hf e⟩⟩
  exact⟨q.1,by omega,n-(i+1),by omega,U,hlt,by rw[q0j];simp;omega,⟨_,U⟩,q.2⟩
 ·have e:i=n:=by omega
  subst e
  exact .inl ⟨q0l _,hd ys H2 p⟩
end L2
namespace K76
open L2 Am Pc Ba
theorem Z2s {X:Cx}{st:Stmt}:PS X st (λ_ _ _=>False):=λ_ _ _ _ _ _ h=>h.elim
theorem Z9i {ns:U6}(h:ns.Nodup):unlike ns=ns.length:=by
 have key:∀ i,i<=ns.length->(firstMet (λi=>ns.getD i 0) i).length=i:=by
  intro i
  induction i with
  | zero=>intro _;rfl
  | succ i ih =>
   intro hi
   rw[firstMet_succ,step_length,firstMet_any,if_neg,ih (by omega)]
   intro z
   obtain⟨y,hy,e⟩:=q3j.mp z
   obtain⟨j,hj,rfl⟩:=q2k.mp hy
   have hj:=q1c.mp hj
   have e:ns.getD j 0=ns.getD i 0:=by simpa using e
   rw[q0b,q0b,q0d (by omega),q0d (by omega)] at e
   have:=(List.getElem_inj h).mp e
   omega
 exact key _ (q0l _)
noncomputable abbrev NB:List (Str × Int):=[("flip",1),("mix",1),("turn",2),("if",2),("pair",2),("swap",2),("cross",3)]
noncomputable abbrev MvT (nm:Str)(ns:U6):HO:=.tup (.str nm::ns.map V.int)
noncomputable def named (nm:Str)(ns:U6):List Int:=if nm="turn" then ns.take 1 else ns
structure Form (nm:Str) (ns:U6):Prop where
 num:numAt NB nm=some (.int ns.length)
 len:ns.length<=3
 turn:nm="turn"->∃ a k,ns=[a,k]/\1<=k/\k<=7
structure Fits (nm:Str) (ns:U6) (c:Nat):Prop where
 form:Form nm ns
 low:∀ a∈named nm ns,0<=a/\a<c
 nd:(named nm ns).Nodup
def Z9m:Sp:=λvs H Q _=>∃ (p:W9) (nm:Str) (ns:U6),vs=[.ref p]/\H p=some (MvT nm ns)/\Form nm ns/\∀ H',Same H H'->Q (.bl true) H'
def Y0x:Sp:=λvs H Q _=>∃ (p:W9) (nm:Str) (ns:U6),vs=[.ref p]/\H p=some (MvT nm ns)/\Form nm ns/\∀ (r:W9) (H':Hp),Same H H'->H' r=some (.tup ((named nm ns).map V.int))->Q (.ref r) H'
def Y5u:Sp:=λvs H Q _=>∃ (p:W9) (nm:Str) (ns:U6) (c:Nat),vs=[.ref p,.int c]/\H p=some (MvT nm ns)/\Fits nm ns c/\∀ H',Same H H'->Q (.ref p) H'
def Z9p (K:U0):Sp:=λvs H Q _=>∃ (l:W9) (xs:List V) (c:Nat),vs=[.ref l]/\SqL K H l xs/\xs.length=2^c/\c<=6/\Q (.int c) H
theorem Z9d {c:Nat}(h:c<=6):Builtin.Int.intBits (((2^c:Nat):Int))=c+1:=by
 have:c=0∨c=1∨c=2∨c=3∨c=4∨c=5∨c=6:=by omega
 rcases this with rfl | rfl | rfl | rfl | rfl | rfl | rfl<;>decide +kernel
theorem at0 {x:V}{xs:List V}:atI (x::xs) 0=some x:=Z3b (show (x::xs)[0]?=some x from rfl)
theorem Z4n {x:V}{xs:List V}:HT.sIx (x::xs).length 0 (some 1)=1:=by
 have:=HT.Z8p (x::xs).length 0 1
 rw[show ((1:Nat):Int)=1 from rfl] at this
 rw[this]
 simp
theorem Z4s {x:V}{xs:List V}:cutV (x::xs) (some 1) none=xs:=by
 unfold cutV
 rw[Z4n]
 have e2:HT.sIx (x::xs).length (x::xs).length none=(x::xs).length:=rfl
 rw[e2]
 simp
theorem X9q (K:U0):PySem.W.kitOne K (.type "str") (.type "str")=some true:=by unfold PySem.W.kitOne;rw[if_pos (by decide)]
section
variable {P:U8}{w:W1}{K:U0}{mg:U4}{base:Heap}{k:Nat}{h:Heap}
theorem sc_iswhole:FnScope ["thing"] ["thing"] (Z0h (top 10)):=fS
theorem Z5t (F:FunAt K "is_whole" (top 10) .none)(X:K.In h)(G:Ng h mg)(B:Bs mg):Cal P w K mg base (k+1) "is_whole" ["thing"] Z3m:=by
 have nd:=sc_iswhole.nd
 refine F.cal X G sc_iswhole (bnd1 λ_ _ _ _ _ _ _=>rfl) (λvs H Q E h=>?_) (λf cdv A outer s H vs Q E hr h=>?_)
 ·obtain⟨i,rfl,_⟩:=h;rfl
 obtain⟨i,rfl,q⟩:=h
 refine⟨_,(@Z0e _ _ _ (Z0k (Z2o (Z0n Z0x rfl B.isinstance q1l (Z0a (pv 0) (Z0a (Z1w (v:=.ty "int") rfl B.int boot_int rfl) Z0c))) (Z2j (Z6b (Z0n Z0x rfl B.isinstance q1l (Z0a (pv 0) (Z0a (Z1w (v:=.ty "bool") rfl B.bool q8y rfl) Z0c)))))))),?_⟩
 try dsimp only[cxK]
 refine⟨_,U,_,_,_,true,U,TyOf.int i,Y3j K,_,U,iteT ?_⟩
 exact⟨_,U,_,_,_,false,U,TyOf.int i,Y3k K,_,U,q⟩
theorem sc_cellsof:FnScope ["board"] ["board"] (Z0h (top 35)):=fS
theorem Y4r (F:FunAt K "cells_of" (top 35) .none)(X:K.In h)(G:Ng h mg)(B:Bs mg):Cal P w K mg base (k+1) "cells_of" ["board"] (Z9p K):=by
 have nd:=sc_cellsof.nd
 refine F.cal X G sc_cellsof (bnd1 λ_ _ _ _ _ _ _=>rfl) (λvs H Q E h=>?_) (λf cdv A outer s H vs Q E hr h=>?_)
 ·obtain⟨l,xs,c,rfl,_⟩:=h;rfl
 obtain⟨l,xs,c,rfl,hl,len,c6,q⟩:=h
 refine⟨_,(@Z0e _ _ _ (Z0k (Z0j Z3c (Z5a q2c q1m q1r Z2f (Z0n Z0r rfl B.len q1k (Z0a (pv 0) Z0c))) Z0b))),?_⟩
 try dsimp only[cxK]
 refine⟨_,U,l,_,U,.inl hl,U,_,U,U,_,_,U,U,?_⟩
 show Q (.int (((Builtin.Int.intBits ((xs.length:Nat):Int):Nat):Int)-1)) H
 rw[len,Z9d c6,show (((c+1:Nat):Int)-1)=(c:Int) by omega]
 exact q
theorem sc_named:FnScope ["move"] ["move"] (Z0h (top 42)):=fS
theorem X0i (F:FunAt K "named_cells" (top 42) .none)(X:K.In h)(G:Ng h mg)(B:Bs mg):Cal P w K mg base (k+1) "named_cells" ["move"] Y0x:=by
 have nd:=sc_named.nd
 refine F.cal X G sc_named (bnd1 λ_ _ _ _ _ _ _=>rfl) (λvs H Q E h=>?_) (λf cdv A outer s H vs Q E hr h=>?_)
 ·obtain⟨p,nm,ns,rfl,_⟩:=h;rfl
 obtain⟨p,nm,ns,rfl,hp,FO,kq⟩:=h
 have SP:SqT K H p (.str nm::ns.map V.int):=SqT.of hp
 refine⟨_,(@Z0e _ _ _ (Z0k (Z2d (Z0p Z1m (Z0l Z0i (pv 0) Z0b (λ_ _=>rfl)) Z0y (nomark _)) (Z1y Z6x (pv 0) (Z2a Z0b) (Z2a Z0b)) (Z1y Z6x (pv 0) (Z2a Z0b) Z2y)))),?_⟩
 try dsimp only[cxK]
 refine⟨_,U,p,_,_,.str nm,U,U,SP,at0,U,_,U,decI (λz=>?_) (λz=>?_)⟩
 ·have e:nm="turn":=V.str.inj z
  obtain⟨a,kk,rfl,_⟩:=FO.turn e
  refine⟨_,U,_,U,_,U,p,_,U,SP,.inr ⟨λc=>absurd c.1 (by rw[Z4n];decide),λr hr=>kq r _ (Z0f hr _) ?_⟩⟩
  rw[Z0d]
  unfold named
  rw[if_pos e]
  rfl
 ·have e:nm≠"turn":=λc=>z (by rw[c])
  refine⟨_,U,_,U,p,_,U,SP,.inr ⟨λc=>absurd c.1 (by rw[Z4n];decide),λr hr=>kq r _ (Z0f hr _) ?_⟩⟩
  rw[Z0d,Z4s]
  unfold named
  rw[if_neg e]
theorem sc_form:FnScope ["thing"] ["thing"] (Z0h (top 41)):=fS
theorem X5e (F:FunAt K "has_move_form" (top 41) .none)(X:K.In h)(G:Ng h mg)(B:Bs mg){aN:W9}(gN:mg "NUMBERS_BEHIND"=some (.ref aN))(DN:KDic K w.params aN NB)(c7:Cal P w K mg base k "is_whole" ["thing"] Z3m) :
  Cal P w K mg base (k+1) "has_move_form" ["thing"] Z9m:=by
 have nd:=sc_form.nd
 refine F.cal X G sc_form (bnd1 λ_ _ _ _ _ _ _=>rfl) (λvs H Q E h=>?_) (λf cdv A outer s H vs Q E hr h=>?_)
 ·obtain⟨p,nm,ns,rfl,_⟩:=h;rfl
 obtain⟨p,nm,ns,rfl,hp,FO,kq⟩:=h
 have SP:SqT K H p (.str nm::ns.map V.int):=SqT.of hp
 have l3:=FO.len
 have lm:(V.str nm::ns.map V.int).length=ns.length+1:=by rw[q2i,q0a]
 refine⟨_,(@Z0g _ _ _ _ _ (Z0w (PW.pt (Z3n (Z1h (Z1d (Z0n Z0x rfl B.isinstance q1l (Z0a (pv 0) (Z0a (Z1w (v:=.ty "tuple") rfl B.tuple q8n rfl) Z0c))))) (Z3r (Z0p Z1m (Z0n Z0r rfl B.len q1k (Z0a (pv 0) Z0c)) Z0b (nomark _)))))
   (@Z0e _ _ _ (Z0k Z2k))
   Z0o)
  (@Z0g _ _ _ _ _ (Z0w (PW.pt (Z3n (Z1h (Z1d (Z0n Z0x rfl B.isinstance q1l (Z0a (Z0l Z0i (pv 0) Z0b (λ_ _=>rfl)) (Z0a (Z1w (v:=.ty "str") rfl B.str boot_str rfl) Z0c))))) (Z3r (X2o (Y6t DN (Z0l Z0i (pv 0) Z0b (λ_ _=>rfl)) (Z4p (v:=.ref aN) rfl gN rfl))))))
   (@Z0e _ _ _ (Z0k Z2k))
   Z0o)
  (@Z0g _ _ _ _ _ (Z0w (Z0p Z5r (Z0n Z0r rfl B.len q1k (Z0a (pv 0) Z0c)) (Z0j Z1r Z0b (X4o DN (Z4p (v:=.ref aN) rfl gN rfl) (Z0l Z0i (pv 0) Z0b (λ_ _=>rfl)) (λ_ _=>rfl))) (nomark _))
   (@Z0e _ _ _ (Z0k Z2k))
   Z0o)
  (@Z0g _ _ _ _ _ (Z0w (Z1h (Z1d (Z0n (Z2h rfl) rfl B.all q6o (Z0a (Z3e rfl (LcOk.of (Nc:=["number"]) (mp:=[none]) (by kernel_rfl)) (Y2x (Z1y Z6x (pv 0) (Z2a Z0b) Z2y)) (λ_ _ _ _=>(Z0t (i:=0) (show (["number"]:W0).Nodup by decide +kernel) rfl (Or.inl rfl))) (λ_ _ _ _=>(Z0m c7 hr rfl (Z0a (pv 0) Z0c)))) Z0c))))
   (@Z0e _ _ _ (Z0k Z2k))
   Z0o)
  (@Z0e _ _ _ (Z0k (Y6n (Z1b Z5r (Z0l Z0i (pv 0) Z0b (λ_ _=>rfl)) Z0y (nomark _)) (Z2j (Z2o (Z1b Y6z (Z0l Z0i (pv 0) Z0b (λ_ _=>rfl)) Z0b (nomark _)) (Z2j (Z1b X4t (Z0l Z0i (pv 0) Z0b (λ_ _=>rfl)) Z0b (nomark _)))))))))))),?_⟩
 try dsimp only[cxK]
 refine⟨_,U,_,_,_,true,U,TyOf.tup hp,Y0c K,_,U,iteF ⟨_,U,p,_,U,.inr SP,U,_,U,eqI (λz=>absurd z (by rw[lm];omega)) (λ_=>?_)⟩⟩
 refine⟨_,U,p,_,_,.str nm,U,U,SP,at0,_,_,_,true,U,TyOf.str nm,X9q K,_,U,iteF ⟨_,U,p,_,_,.str nm,U,U,SP,at0,nm,U,_,U,?_⟩⟩
 rw[FO.num]
 refine iteF ⟨_,U,p,_,U,.inr SP,_,U,p,_,_,.str nm,U,U,SP,at0,nm,_,U,FO.num,_,_,U,U,U,_,U,neI (λz=>absurd (by rw[lm];omega) z) (λ_=>?_)⟩
 refine⟨_,U,_,U,p,_,U,SP,.inr ⟨λc=>absurd c.1 (by rw[Z4n];decide),λr hr=>?_⟩⟩
 rw[Z4s]
 have s1:=Z0f hr (.tup (ns.map V.int))
 refine⟨r,U,⟨_,SqT.of Z0d⟩,λacc hacc=>?_⟩
 refine Y1r (K:=K) (λ_=>.bl true) (SqT.of Z0d) (t64 (by omega)) hacc (λn H2 N hn S2 kN=>⟨_,U,n,U,kN⟩) (λH3 S3 a3=>?_)
 have e:ns.map (λ_=>V.bl true)=(ns.map λ_=>true).map V.bl:=by rw[q3w];rfl
 rw[e] at a3
 have S03:=s1.trans S3
 have SP3:SqT K H3 p (.str nm::ns.map V.int):=SqT.of (S03 _ _ hp)
 refine⟨acc,_,U,SqL.of a3,_,U,nblI (λz=>absurd z (by simp)) (λ_=>?_)⟩
 refine⟨_,U,p,_,_,.str nm,U,U,SP3,at0,U,_,U,nblI (λ_=>kq _ S03) (λz=>?_)⟩
 obtain⟨a,kk,rfl,k1,k7⟩:=FO.turn (V.str.inj (q1t z))
 refine⟨_,U,p,_,_,.int kk,U,U,SP3,U,_,_,U,U,_,U,decI (λ_=>?_) (λz=>absurd k1 z)⟩
 refine⟨_,U,p,_,_,.int kk,U,U,SP3,U,_,_,U,U,?_⟩
 show Q (.bl (decide (kk<=7))) H3
 rw[q0q k7]
 exact kq _ S03
theorem sc_check:FnScope ["move","cells","named"] ["move","cells"] (Z0h (top 40)):=fS
theorem X0p (F:FunAt K "check_move" (top 40) .none)(X:K.In h)(G:Ng h mg)(B:Bs mg)(cY:Cal P w K mg base k "has_move_form" ["thing"] Z9m)(cM:Cal P w K mg base k "named_cells" ["move"] Y0x) :
  Cal P w K mg base (k+1) "check_move" ["move","cells"] Y5u:=by
 have nd:=sc_check.nd
 refine F.cal X G sc_check (bnd2 λ_ _ _ _ _ _ _ _=>rfl) (λvs H Q E h=>?_) (λf cdv A outer s H vs Q E hr h=>?_)
 ·obtain⟨p,nm,ns,c,rfl,_⟩:=h;rfl
 obtain⟨p,nm,ns,c,rfl,hp,FI,kq⟩:=h
 have l3:(named nm ns).length<=3:=by
  have:=FI.form.len
  unfold named
  split
  ·rw[q1q];omega
  ·exact this
 refine⟨_,(@Z0g _ _ _ _ _ (Z0w (Z1h (Z1d (Z0m cY hr rfl (Z0a (pv 0) Z0c))))
   (@Z0e _ _ _ Z2s)
   Z0o)
  (@Z0g _ _ _ _ _ (@Z0q _ _ 2 _ _ _ _ nd rfl (Or.inl rfl) (Z0m cM hr rfl (Z0a (pv 0) Z0c)) rfl (.inl rfl))
  (@Z0g _ _ _ _ _ (Z0w (Z1d (Z0n (Z5k rfl) rfl B.any boot_any (Z0a (Z3e rfl (LcOk.of (Nc:=["cell","cells"]) (mp:=[none,some 1]) (by kernel_rfl)) (Y2x (pv 2)) (λ_ _ _ _=>(Z0t (i:=0) (show (["cell","cells"]:W0).Nodup by decide +kernel) rfl (Or.inl rfl))) (λ_ _ _ _=>(Y6n (Z1b Z5b (pv 0) Z0b (nomark _)) (Z2j (Z1b Y6z (pv 0) (pv 1) (nomark _)))))) Z0c)))
   (@Z0e _ _ _ Z2s)
   Z0o)
  (@Z0g _ _ _ _ _ (Z0w (Z0p Z5r (Z0n Y8x rfl B.len q1k (Z0a (Z3z (Y8t rfl) rfl B.set boot_set (Z0a (pv 2) Z0c)) Z0c)) (Z0n Z0r rfl B.len q1k (Z0a (pv 2) Z0c)) (nomark _))
   (@Z0e _ _ _ Z2s)
   Z0o)
  (@Z0e _ _ _ (Z0k (pv 0))))))),?_⟩
 try dsimp only[cxK]
 refine⟨_,U,p,nm,ns,U,hp,FI.form,λH1 S1=>⟨_,U,iteF ?_⟩⟩
 refine⟨_,U,p,nm,ns,U,S1 _ _ hp,FI.form,λr H2 S2 hr=>?_⟩
 have SR:SqT K H2 r ((named nm ns).map V.int):=SqT.of hr
 refine⟨_,U,r,U,⟨_,SR⟩,λacc hacc=>?_⟩
 refine Y1r (K:=K) (λ_=>.bl false) SR (t64 (by omega)) hacc (λn H2 N hn S2 kN=>?_) (λH3 S3 a3=>?_)
 ·obtain⟨n0,nc⟩:=FI.low n hn
  refine⟨_,U,_,_,U,U,_,U,decI (λz=>absurd z (by omega)) (λ_=>?_)⟩
  refine⟨_,U,_,U,_,_,U,U,?_⟩
  show N (.bl (decide ((c:Int)<=n))) _
  rw[q0k (by omega)]
  exact kN
 have e:(named nm ns).map (λ_=>V.bl false)=((named nm ns).map λ_=>false).map V.bl:=by rw[q3w];rfl
 rw[e] at a3
 refine⟨acc,_,U,SqL.of a3,_,U,?_⟩
 rw[show ((named nm ns).map λ_=>false).any id=false by simp]
 refine iteF ?_
 refine⟨_,U,r,_,U,S3.tup SR,by omega,λl S hl=>?_⟩
 have s4:=Z0f hl (.set S (unlike (named nm ns)))
 have un:=Z9i FI.nd
 refine⟨l,S,_,U,Z0d,by omega,_,U,r,_,U,.inr (s4.tup (S3.tup SR)),U,_,U,neI (λz=>absurd (by rw[un,q0a]) z) (λ_=>?_)⟩
 exact⟨_,U,kq _ (((S1.trans S2).trans S3).trans s4)⟩
end
inductive Mv where
 | flip (a:Nat)
 | turn (a k:Nat)
 | iff (a b:Nat)
 | pair (a b:Nat)
 | swap (a b:Nat)
 | cross (a b d:Nat)
noncomputable def exch (w a b:Nat):Nat:=if w&&&(2^a ||| 2^b)=2^a∨w&&&(2^a ||| 2^b)=2^b then w^^^(2^a ||| 2^b) else w
namespace Mv
noncomputable def nm:Mv->Str
 | flip _=>"flip"
 | turn _ _=>"turn"
 | iff _ _=>"if"
 | pair _ _=>"pair"
 | swap _ _=>"swap"
 | cross _ _ _=>"cross"
noncomputable def ns:Mv->List Int
 | flip a=>[(a:Int)]
 | turn a k=>[(a:Int),(k:Int)]
 | iff a b=>[(a:Int),(b:Int)]
 | pair a b=>[(a:Int),(b:Int)]
 | swap a b=>[(a:Int),(b:Int)]
 | cross a b d=>[(a:Int),(b:Int),(d:Int)]
def Ok (c:Nat):Mv->Prop
 | flip a=>a<c
 | turn a k=>a<c/\1<=k/\k<=7
 | iff a b=>a<c/\b<c/\a≠b
 | pair a b=>a<c/\b<c/\a≠b
 | swap a b=>a<c/\b<c/\a≠b
 | cross a b d=>a<c/\b<c/\d<c/\a≠b/\a≠d/\b≠d
noncomputable def to (w:Nat):Mv->Nat
 | flip a=>w^^^2^a
 | iff a b=>if w&&&2^a=0 then w else w^^^2^b
 | swap a b=>exch w a b
 | cross a b d=>if w&&&2^a=0 then w else exch w b d
 | _=>w
noncomputable def sp (w:Nat):Mv->Nat
 | turn a k=>if w&&&2^a=2^a then k else 0
 | pair a b=>if w&&&(2^a ||| 2^b)=(2^a ||| 2^b) then 4 else 0
 | _=>0
end Mv
noncomputable abbrev at2 (w a:Nat):Nat:=w / 2^a%2
noncomputable def c1 (c a w:Nat):Bool:=decide ((Mv.flip a).to w<2^c) && decide ((Mv.flip a).to ((Mv.flip a).to w)=w) && decide ((w:Int)+(1-2*(at2 w a:Int))*((2^a:Nat):Int)=((Mv.flip a).to w:Nat)) &&
 decide ((if w&&&2^a=2^a then 1 else 0)=at2 w a)
noncomputable def c2 (c a b w:Nat):Bool:=decide (a=b) || (decide ((Mv.iff a b).to w<2^c) && decide ((Mv.iff a b).to ((Mv.iff a b).to w)=w) && decide ((w:Int)+(at2 w a:Int)*(1-2*(at2 w b:Int))*((2^b:Nat):Int)=((Mv.iff a b).to w:Nat)) &&
 decide ((Mv.swap a b).to w<2^c) && decide ((Mv.swap a b).to ((Mv.swap a b).to w)=w) && decide ((w:Int)+((at2 w b:Int)-(at2 w a:Int))*(((2^a:Nat):Int)-((2^b:Nat):Int))=((Mv.swap a b).to w:Nat)) &&
 decide (4*at2 w a*at2 w b=(Mv.pair a b).sp w))
noncomputable def c3 (c a b d w:Nat):Bool:=decide (a=b) || decide (a=d) || decide (b=d) || (decide ((Mv.cross a b d).to w<2^c) && decide ((Mv.cross a b d).to ((Mv.cross a b d).to w)=w) &&
 decide ((w:Int)+(at2 w a:Int)*((at2 w d:Int)-(at2 w b:Int))*(((2^b:Nat):Int)-((2^d:Nat):Int))=((Mv.cross a b d).to w:Nat)))
theorem W0w:((List.range 7).all λc=>(List.range c).all λa=>(List.range (2^c)).all λw=>c1 c a w)=true:=by decide +kernel
theorem W0v:((List.range 7).all λc=>(List.range c).all λa=>(List.range c).all λb=>(List.range (2^c)).all λw=>c2 c a b w)=true:=by decide +kernel
theorem W0u:((List.range 7).all λc=>(List.range c).all λa=>(List.range c).all λb=>(List.range c).all λd=>(List.range (2^c)).all λw=>c3 c a b d w)=true:=by decide +kernel
theorem get1 {p:Nat->Bool}{n i:Nat}(h:(List.range n).all p=true)(hi:i<n):p i=true:=q1e.mp h i (q1c.mpr hi)
section
variable {c a b d w:Nat}
theorem W2w (hc:c<=6)(ha:a<c)(hw:w<2^c):c1 c a w=true:=get1 (get1 (get1 W0w (by omega:c<7)) ha) hw
theorem W2v (hc:c<=6)(ha:a<c)(hb:b<c)(hw:w<2^c):c2 c a b w=true:=get1 (get1 (get1 (get1 W0v (by omega:c<7)) ha) hb) hw
theorem W2u (hc:c<=6)(ha:a<c)(hb:b<c)(hd:d<c)(hw:w<2^c):c3 c a b d w=true:=get1 (get1 (get1 (get1 (get1 W0u (by omega:c<7)) ha) hb) hd) hw
theorem W0i (hc:c<=6)(ha:a<c)(hw:w<2^c):(Mv.flip a).to w<2^c/\(Mv.flip a).to ((Mv.flip a).to w)=w/\(w:Int)+(1-2*(at2 w a:Int))*((2^a:Nat):Int)=((Mv.flip a).to w:Nat)/\(if w&&&2^a=2^a then 1 else 0)=at2 w a:=by
 have:=W2w hc ha hw
 unfold c1 at this
 simp only[q0u,q1f] at this
 exact⟨this.1.1.1,this.1.1.2,this.1.2,this.2⟩
theorem W0h (hc:c<=6)(ha:a<c)(hb:b<c)(n:a≠b)(hw:w<2^c):((Mv.iff a b).to w<2^c/\(Mv.iff a b).to ((Mv.iff a b).to w)=w/\(w:Int)+(at2 w a:Int)*(1-2*(at2 w b:Int))*((2^b:Nat):Int)=((Mv.iff a b).to w:Nat)) ∧
  ((Mv.swap a b).to w<2^c/\(Mv.swap a b).to ((Mv.swap a b).to w)=w/\(w:Int)+((at2 w b:Int)-(at2 w a:Int))*(((2^a:Nat):Int)-((2^b:Nat):Int))=((Mv.swap a b).to w:Nat))/\4*at2 w a*at2 w b=(Mv.pair a b).sp w:=by
 have:=W2v hc ha hb hw
 unfold c2 at this
 rw[q0k n,q4x] at this
 simp only[q0u,q1f] at this
 obtain⟨⟨⟨⟨⟨⟨h1,h2⟩,h3⟩,h4⟩,h5⟩,h6⟩,h7⟩:=this
 exact⟨⟨h1,h2,h3⟩,⟨h4,h5,h6⟩,h7⟩
theorem X6m (hc:c<=6)(ha:a<c)(hb:b<c)(hd:d<c)(n1:a≠b)(n2:a≠d)(n3:b≠d)(hw:w<2^c):(Mv.cross a b d).to w<2^c/\(Mv.cross a b d).to ((Mv.cross a b d).to w)=w ∧
  (w:Int)+(at2 w a:Int)*((at2 w d:Int)-(at2 w b:Int))*(((2^b:Nat):Int)-((2^d:Nat):Int))=((Mv.cross a b d).to w:Nat):=by
 have:=W2u hc ha hb hd hw
 unfold c3 at this
 rw[q0k n1,q0k n2,q0k n3,q4x,q4x,q4x] at this
 simp only[q0u,q1f] at this
 exact⟨this.1.1,this.1.2,this.2⟩
end
theorem Mv.to_lt {v:Mv}{c w:Nat}(hc:c<=6)(h:v.Ok c)(hw:w<2^c):v.to w<2^c:=by
 cases v with
 | flip a=>exact(W0i hc h hw).1
 | turn a k=>exact hw
 | iff a b=>exact(W0h hc h.1 h.2.1 h.2.2 hw).1.1
 | pair a b=>exact hw
 | swap a b=>exact(W0h hc h.1 h.2.1 h.2.2 hw).2.1.1
 | cross a b d=>exact(X6m hc h.1 h.2.1 h.2.2.1 h.2.2.2.1 h.2.2.2.2.1 h.2.2.2.2.2 hw).1
theorem Mv.fits {v:Mv}{c:Nat}(h:v.Ok c):Fits v.nm v.ns c:=by
 cases v with
 | flip a =>
  have e:named "flip" [(a:Int)]=[(a:Int)]:=by unfold named;rw[if_neg (by decide +kernel)]
  have h:a<c:=h
  exact⟨⟨(show numAt NB "flip"=some (.int ((1:Nat):Int)) by decide +kernel),(show 1<=3 by decide),λz=>absurd (show ("flip":Str)="turn" from z) (by decide +kernel)⟩,by show ∀ x∈named "flip" [(a:Int)],_;rw[e];intro b hb;rw[q1a.mp hb];omega,by show (named "flip" [(a:Int)]).Nodup;rw[e];simp⟩
 | turn a k =>
  have e:named "turn" [(a:Int),(k:Int)]=[(a:Int)]:=by unfold named;rw[if_pos rfl];rfl
  have h:a<c/\1<=k/\k<=7:=h
  exact⟨⟨(show numAt NB "turn"=some (.int ((2:Nat):Int)) by decide +kernel),(show 2<=3 by decide),λ_=>⟨a,k,U,by omega,by omega⟩⟩,by show ∀ x∈named "turn" [(a:Int),(k:Int)],_;rw[e];intro b hb;rw[q1a.mp hb];omega,by show (named "turn" [(a:Int),(k:Int)]).Nodup;rw[e];simp⟩
 | iff a b =>
  have e:named "if" [(a:Int),(b:Int)]=[(a:Int),(b:Int)]:=by unfold named;rw[if_neg (by decide +kernel)]
  have h:a<c/\b<c/\a≠b:=h
  exact⟨⟨(show numAt NB "if"=some (.int ((2:Nat):Int)) by decide +kernel),(show 2<=3 by decide),λz=>absurd (show ("if":Str)="turn" from z) (by decide +kernel)⟩,by show ∀ x∈named "if" [(a:Int),(b:Int)],_;rw[e];intro x hx;simp at hx;omega,by show (named "if" [(a:Int),(b:Int)]).Nodup;rw[e];simp;omega⟩
 | pair a b =>
  have e:named "pair" [(a:Int),(b:Int)]=[(a:Int),(b:Int)]:=by unfold named;rw[if_neg (by decide +kernel)]
  have h:a<c/\b<c/\a≠b:=h
  exact⟨⟨(show numAt NB "pair"=some (.int ((2:Nat):Int)) by decide +kernel),(show 2<=3 by decide),λz=>absurd (show ("pair":Str)="turn" from z) (by decide +kernel)⟩,by show ∀ x∈named "pair" [(a:Int),(b:Int)],_;rw[e];intro x hx;simp at hx;omega,by show (named "pair" [(a:Int),(b:Int)]).Nodup;rw[e];simp;omega⟩
 | swap a b =>
  have e:named "swap" [(a:Int),(b:Int)]=[(a:Int),(b:Int)]:=by unfold named;rw[if_neg (by decide +kernel)]
  have h:a<c/\b<c/\a≠b:=h
  exact⟨⟨(show numAt NB "swap"=some (.int ((2:Nat):Int)) by decide +kernel),(show 2<=3 by decide),λz=>absurd (show ("swap":Str)="turn" from z) (by decide +kernel)⟩,by show ∀ x∈named "swap" [(a:Int),(b:Int)],_;rw[e];intro x hx;simp at hx;omega,by show (named "swap" [(a:Int),(b:Int)]).Nodup;rw[e];simp;omega⟩
 | cross a b d =>
  have e:named "cross" [(a:Int),(b:Int),(d:Int)]=[(a:Int),(b:Int),(d:Int)]:=by unfold named;rw[if_neg (by decide +kernel)]
  have h:a<c/\b<c/\d<c/\a≠b/\a≠d/\b≠d:=h
  exact⟨⟨(show numAt NB "cross"=some (.int ((3:Nat):Int)) by decide +kernel),(show 3<=3 by decide),λz=>absurd (show ("cross":Str)="turn" from z) (by decide +kernel)⟩,by show ∀ x∈named "cross" [(a:Int),(b:Int),(d:Int)],_;rw[e];intro x hx;simp at hx;omega,by show (named "cross" [(a:Int),(b:Int),(d:Int)]).Nodup;rw[e];simp;omega⟩
end K76
namespace L2
theorem intsBy:∀ {us:U5}{ks:U6},us.length=ks.length->(∀ (j:Nat) u,us[j]?=some u->∃ (k:Int) (t:Tok),ks[j]?=some k/\u=Value.int k t)->IntsAre us ks
 | [],[],_,_=>.nil
 | u::us,k::ks,hl,h=>by
  obtain⟨k',t,e,rfl⟩:=h 0 u rfl
  cases e
  exact .cons _ _ (intsBy (Nat.succ.inj hl) λj u q=>h (j+1) u q)
def Gath (s:U7)(P:Nat->Value->Prop)(n:Nat)(q:Result)(s':U7):Prop:=q=.ok (.ret (.ref s.heap.objs.size))/\∃ h' tk,s'={ s with heap:=h',toks:=tk }/\(∀ b o,s.heap.get? b=some o->h'.get? b=some o) ∧
 ∃ acc c,ItemsOf P acc n/\h'.get? s.heap.objs.size=some { cls:=.type "list",dict:=none,data:=.seq acc c,slots:=#[] }
theorem gather {prog:U8}{w:W1}{A:W6}{E:U2}{s:U7}{T:String}{r d:W9}{n:Nat}{P:Nat->Value->Prop}{OK:Heap->Prop}{R:List Value->Shared->Prop}(K:PySem.W.KdlSrc prog w T r d n P OK)(hh:A.handled=none)(hok:OK s.heap)(hn:n<=sizeLine)
  (h:∀ (h':Heap) (tk:Nat) (acc:U9),(∀ b o,s.heap.get? b=some o->h'.get? b=some o)->s.heap.objs.size<h'.objs.size->ItemsOf P acc n->R acc.toList { s with heap:=h',toks:=tk }):wpAny (model prog w) A (collect (.ref r)) R E s:=by
 obtain⟨l1,l2⟩:=K.there _ hok
 have up:∀ b o,s.heap.get? b=some o->(s.heap.push { cls:=.type "list",data:=.seq ([]:U5).toArray }).get? b=some o:=λb o e=>q0e _ e
 have grown:=PySem.W.kdl_extend (A:=A) (s:={ s with heap:=s.heap.push { cls:=.type "list",data:=.seq ([]:U5).toArray } }) (R:=Gath s P n) K hh (K.keep _ _ hok λb _=>up b) s.heap.objs.size (q3o l1) (q3o l2) (.ref s.heap.objs.size) 0
  (q0n _ rfl) (λh' tk acc c hk hS hI=>⟨U,h',tk,U,λb o e=>hk b o (q0t (q0h e)) (up b o e),acc,c,hI,hS⟩) hn
 unfold collect;refine q0c (wpAny_runValue (q7w entry_proto_collect' ?_));rw[Around.under_plainId PySem.F.plain_proto_collect _]
 show wpAny _ A.in1 (newList [] >>= λl=>again (.builtin "list.__iadd__" ⟨[l,.ref r],[]⟩)) _ _ s;refine q0c (q2j (q0m ⟨plainId_quiet q7h _,q7w entry_list_iadd' ?_⟩))
 rw[Around.under_plainId q7h _];refine q1y grown (λf s' x=>?_) λe s' x=>by cases x.1
 cases f with
 | done f =>
  obtain⟨e,h',tk,rfl,hk,acc,c,hI,hS⟩:=x
  cases e
  exact q0c (wpAny_load hS (q0m (h h' tk acc hk (q0h hS) hI)))
 | again c =>
  refine⟨x.1,q5h x.2 λq s2 y=>?_⟩
  obtain⟨rfl,h',tk,rfl,hk,acc,c,hI,hS⟩:=y
  exact q0c (wpAny_load hS (q0m (h h' tk acc hk (q0h hS) hI)))
theorem Y0k {X:Cx}(hc:X.calm=true):CallR X (.builtin "sorted") (λxs H Q=>∃ (p:W9) (kvs:List (Key × V)) (ks:U6),xs=[.ref p]/\H p=some (.dK kvs)/\kvs.map (·.1)=ks.map Sum.inl/\kvs.length<64 ∧
  ∀ (l:W9) (ks':U6),H l=none->ks'.Perm ks->ks'.Pairwise (·<=·)->Q (.ref l) (upd H l (.lst (ks'.map V.int)))):=by
 intro pins s σ H xs us Q I r h
 obtain⟨p,kvs,ks,rfl,hp,hk,hn,q⟩:=h
 obtain⟨u,rfl,rx⟩:=vals1 r
 cases rx
 obtain⟨z,lo,vs,kv,dd⟩:=W0p I.hok hp
 obtain⟨ep,hat⟩:=dd.dictAt
 have hl:kvs.length=vs.length:=kv.length
 have hkeys:kvs.map (·.1)=vs.map (·.1):=kv.keys
 rw[hk] at hkeys
 have hkl:ks.length=vs.length:=by have:=congrArg List.length hkeys;simpa using this
 have l64:(64:Nat)<=sizeLine:=by decide
 refine Calls.call_function_entry kind_sorted plain_sorted entry_sorted (args_sorted1 _) ?_
 unfold Builtin.«sorted»
 refine q0c (m:=checkCount "sorted" 1 1 _) (q0m ?_)
 refine q0c (gather (A:=X.A.in1) (PySem.W.kdl_dict (knd:=Z1q X.prog X.w) (kvs:=vs) (ep:=ep) lo) (I.ok.hd hc) hat (by omega) λh' tk acc hk' hlt' hacc=>?_)
 have hsz:=q7z hlt'
 have hal:acc.toList.length=vs.length:=by rw[q2h];exact hacc.1
 have hI:IntsAre acc.toList ks:=intsBy (hal.trans hkl.symm) λj u e=>by
  obtain⟨k,x,ek,is⟩:=hacc.2 j u (by rw[<-q4u];exact e)
  have e2:(ks.map Sum.inl:List Key)[j]?=some k:=by rw[hkeys,q0g,ek];rfl
  rw[q0g] at e2
  cases e3:ks[j]? with
  | none=>rw[e3] at e2;cases e2
  | some i =>
   rw[e3] at e2
   cases e2
   rcases Z1n (show keyIs (Sum.inl i) u=true from is) with ⟨i',t,e4,e5⟩ | ⟨x',t,e4,e5⟩
   ·cases e4
    exact⟨i,t,U,e5⟩
   ·cases e4
 refine q0c (wpAny_newList ?_ (by omega))
 have hoL:(h'.push (seqObj "list" acc.toList.toArray 0)).get? h'.objs.size=some (seqObj "list" acc.toList.toArray 0):=q0n _ rfl
 refine q0c (q4v (q4k slot_list_sort ⟨_,hoL,U⟩ entry_list_sort (list_sort_tree hoL hI (by omega) λout ns' a1 a2 a3=>⟨_,U,?_⟩) (args_list_sort _)))
 refine q0m ⟨_,U,?_⟩
 obtain⟨e,he⟩:=sortedHeap_at (out:=out) hoL
 have kp:∀ b o,s.heap.get? b=some o->(sortedHeap (h'.push (seqObj "list" acc.toList.toArray 0)) h'.objs.size acc.toList out).get? b=some o:=λb o x=>by
  have lt:=q0h (hk' b o x)
  rw[sortedHeap_old (q0t lt) (by rw[size_push'];exact q3p lt)]
  exact q0e _ (hk' b o x)
 have hlo:=a2.length_eq
 have hto:(out.toList).toArray=out:=Array.toArray_toList
 exact⟨.ref h'.objs.size,_,I.laid (t':=tk) kp hsz (show ObjOk X.prog X.w _ _ _ (.lst (ns'.map V.int)) from ⟨by rw[q0a];omega,out.toList,e,Z6t a1,by rw[hto];exact he⟩),U,q _ ns' (I.hok.fresh hsz) a2 a3⟩
end L2
namespace Dk
open PySem.Sem (wp)
def Raw (h:Heap)(d:W9)(es:Array DictEntry)(ep:Nat):Prop:=∃ o,h.get? d=some o/\o.ExactDict/\o.data=.dict es ep
theorem Raw.at {h h':Heap}{d:W9}{es:Array DictEntry}{ep:Nat}(x:Raw h d es ep)(e:∀ o,h.get? d=some o->h'.get? d=some o):Raw h' d es ep:=let ⟨o,q,r⟩:=x;⟨o,e o q,r⟩
theorem Raw.type {s:U7}{d:W9}{es:Array DictEntry}{ep:Nat}(x:Raw s.heap d es ep):s.TypeIs (.ref d) "dict":=let ⟨o,q,r,_⟩:=x;⟨o,q,r.1⟩
section
variable {prog:U8}{w:W1}{A:W6}{E:U2}{s:U7}{d it:W9}{es:Array DictEntry}{i ep:Nat}
theorem iter {Q:U2}(lo:(d == sysModules)=false)(x:Raw s.heap d es ep)(q:Q (.ref s.heap.objs.size) { s with heap:=s.heap.push { cls:=.type "dict_keyiterator",data:=.fields #[.ref d,.int 0 0,.int es.size 0,.int ep 0] } }) :
  wpAny (model prog w) A (pyIter (.ref d)) Q E s:=by
 have ty:=x.type
 obtain⟨o,ho,hc,hd⟩:=x
 refine wpAny_pyIter_slot ty F.slot_dict_iter (q4k F.slot_dict_iter ty F.entry_dict_iter ?_ (F.args_dict_iter_1 _))
 unfold Builtin.«dict.__iter__» Builtin.Dict.dictSlotNone Builtin.Dict.showsAll
 refine q0c (q0c (wpAny_notOrdered_dict ty (q0m ?_)));refine q0c (m:=Builtin.Dict.addrOf (Value.ref d)) (q0m ?_);rw[if_neg (show ¬ ((d == sysModules)=true) by rw[lo];decide)]
 refine q0c (q0m (q0c (wpAny_dictEntries ho hd (q0c (wpAny_dictEpoch ho hd (q0c (q2j (q0m ⟨_,U,"dict_keyiterator",_,⟨_,q0n _ rfl,U⟩,F.slot_dict_keyiterator_next.lookup,?_⟩))))))))
 simpa [rawInt] using q
theorem step {Q:Option Value->Shared->Prop}(hh:es[i]?=none->A.handled=none)(hi:s.heap.IsKeyIter it d i es.size ep)(x:Raw s.heap d es ep)
  (go:∀ (hlt:i<es.size) h',h'.IsKeyIter it d (i+1) es.size ep->Heap.SameBut it s.heap h'->Q (some es[i].key) { s with heap:=h' })
  (stop:∀ h',es.size<=i->Heap.ExtBut it s.heap h'->Q none { s with heap:=h' }):wpAny (model prog w) A (pyNext (.ref it)) Q E s:=by
 have ty:=hi.typeIs
 obtain⟨o,ho,hc,hd⟩:=id hi
 obtain⟨od,hod,hcd,hdd⟩:=x
 unfold pyNext;refine q0c (q7e (q4i (name:=Str.ofString "__next__") ty F.slot_dict_keyiterator_next (q4k F.slot_dict_keyiterator_next ty F.entry_dict_keyiterator_next ?_ (F.args_dict_keyiterator_next_1 _))))
 refine q0c (q0m (q0c (q0c ?_)))
 first | refine q0c (q4j ty (q0m (q0c (wpAny_fieldsOf ho hd ?_)))) | refine q0c (q5g ty (q0m (q0c (wpAny_fieldsOf ho hd ?_))))
 simp only[show Builtin.Dict_items.ownsTuple "dict_keyiterator"=false by decide,q2u,q3z]
 show wpAny _ _ (if (Value.ref d == Value.none)=true then _ else _) _ _ s;rw[if_neg (show ¬ ((Value.ref d == Value.none)=true) from q0y)]
 refine q0c (q0m (q0c (wpAny_dictEntries hod hdd ?_)));rw[if_neg (by simp)]
 refine q0c (q0m (q0c (wpAny_dictEpoch hod hdd ?_)));rw[if_neg (by simp)]
 refine q0m ?_
 rcases q8v i es.size with c | c
 ·simp only[show ¬ ((i:Int)<0) by omega,q3z,q0x,Array.getElem?_eq_getElem c]
  refine q0c ?_
  first | refine q0c (q4j ty (q0m (q0c (q6a ty ?_)))) | refine q0c (q5g ty (q0m (q0c (q6a ty ?_))))
  show wpAny _ _ (setField (.ref it) 1 (rawInt ((i:Int)+1)) >>= _) _ _ s;refine q0c (q4m ho hd (by simp) ?_)
  have h2:(s.heap.update it (Obj.mapFields (·.setIfInBounds 1 (rawInt ((i:Int)+1))))).IsKeyIter it d (i+1) es.size ep:=⟨_,q3h _ ho (Obj.isFreed_of_fields (Obj.data_mapFields hd _)),(Obj.cls_mapFields ..).trans hc,by rw[Obj.data_mapFields hd];simp[rawInt]⟩
  refine q0c (q4v (q0c (q6a (s:={ s with heap:=s.heap.update it (Obj.mapFields (·.setIfInBounds 1 (rawInt ((i:Int)+1)))) }) h2.typeIs ?_)))
  exact q0m (q0m ⟨_,U,q0m (go c _ h2 (Heap.SameBut.update ..))⟩)
 ·have h0:=hh (q7t c)
  simp only[show ¬ ((i:Int)<0) by omega,q3z,q0x,q7t c]
  refine q0c ?_
  first | refine q0c (q4j ty (q0m ?_)) | refine q0c (q5g ty (q0m ?_))
  show wpAny _ _ (setField (.ref it) 0 .none >>= _) _ _ s;refine q0c (q4m ho hd (by simp) ?_)
  show wpAny _ _ (newExc (.type "StopIteration") [] >>= _) _ _ _;refine q0c ?_
  simp only[newExc,newTuple];refine q0c (q2j ?_ (by size_fits));refine q0c (m:=firstArgMember _ _) (wpAny_of_eq (a:=Value.none) (by first | rfl | (simp only[firstArgMember];rfl)) ?_)
  refine q2j ?_ (by size_fits);simp only[raiseNew];refine q0c (wpAny_handled ?_);rw[show A.in1.handled=none from h0]
  refine q0c (q0m (wpAny_throw ?_));refine q0c (wpAny_isInstance (T:="StopIteration") (b:=true) ⟨_,q0n _ rfl,U⟩ isSubtype_stop ?_)
  exact q0m (stop _ c (((Heap.SameBut.update ..).extBut.push _).push _))
theorem walks (hh:A.handled=none)(I d:W9)(hne:d≠I)(es:Array DictEntry)(ep:Nat) :
  Walks prog w A I [I,d] [I] es.size (λi v=>∃ e,es[i]?=some e/\v=e.key) (λi h=>h.IsKeyIter I d i es.size ep/\Raw h d es ep) where
 sub:=λb hb=>by simp at hb;simp[hb]
 frame:=λ_ _ _ st hk=>⟨st.1.at λo e=>hk I (by simp) o e,st.2.at λo e=>hk d (by simp) o e⟩
 item:=λi s Q E hi st hQ=>step (λ_=>hh) st.1 st.2 (λc h' k' sb=>hQ _ h' s.toks ⟨es[i],by simp[c],rfl⟩ ⟨k',st.2.at λo e=>sb.extBut _ _ hne e⟩ λb o hb e=>sb.extBut b o (λz=>hb (by simp[z])) e) λh' c _=>absurd hi (by omega)
 done:=λs Q E st hQ=>step (λ_=>hh) st.1 st.2 (λc=>absurd c (q3m _)) λh' c eb=>hQ h' s.toks λb o hb e=>eb b o (λz=>hb (by simp[z])) e
 self:=λ_ _ _ _ st hQ=>wpAny_pyIter_keyiter st.1 hQ
theorem src (lo:(d == sysModules)=false):PySem.W.KdlSrc prog w "dict" d d es.size (λi v=>∃ e,es[i]?=some e/\v=e.key) (λh=>Raw h d es ep) where
 type:=λ_ hm=>hm.type
 there:=λ_ hm=>let ⟨_,ho,_⟩:=hm;⟨q0h ho,q0h ho⟩
 keep:=λ_ _ hm hk=>hm.at λo e=>hk d (.inl rfl) o e
 notList:=by decide
 notTuple:=by decide
 hint:=λ_ _ _ _ hm hq=>PySem.W.kdl_hint_dict hm.type hq
 iter:=λ_ s hh hm=>⟨_,_,(λ_ _ hq=>iter lo hm hq),walks hh _ d (let ⟨_,ho,_⟩:=hm;q0t (q0h ho)) es ep,⟨⟨_,q0n _ rfl,U,U⟩,hm.at λo e=>q0e _ e⟩⟩
end
end Dk
namespace L2
theorem Y5a {X:Cx}(hc:X.calm=true):CallR X (.type "list") (λxs H Q=>∃ (p:W9) (kvs:List (List Key × V)),xs=[.ref p]/\H p=some (.dT kvs) ∧
  ∀ (l:W9) (bs:U3),H l=none->Paired (λb (kv:List Key × V)=>H b=some (.tup (kv.1.map kV))) bs kvs->Q (.ref l) (upd H l (.lst (bs.map V.ref)))):=by
 intro pins s σ H xs us Q I r h
 obtain⟨p,kvs,rfl,hp,q⟩:=h
 obtain⟨u,rfl,rx⟩:=vals1 r
 cases rx
 obtain⟨z,lo,ks,rel,o,es,ep,ho,he,hd,hes,nd⟩:kvs.length<=sizeLine/\(p == sysModules)=false/\∃ xs:List (List Key × Addr × Value),
   Paired (λ(p:List Key × V) (q:List Key × Addr × Value)=>p.1=q.1/\H q.2.1=some (.tup (p.1.map kV))/\RelV p.2 q.2.2) kvs xs ∧
   ∃ o es ep,s.heap.get? p=some o/\o.ExactDict/\o.data=.dict es ep/\es.toList=xs.map (entryOfKey (tupleKind (Z1q X.prog X.w)))/\(xs.map λx:List Key × Addr × Value=>x.1).Nodup:=I.hok p _ hp
 have hl:kvs.length=ks.length:=Paired.length rel
 have hsz:es.size=ks.length:=by rw[<-q2h,hes,q0a]
 refine PySem.W.kdl_call (Dk.src (es:=es) (ep:=ep) lo) (I.ok.hd hc) ⟨o,ho,he,hd⟩ (by omega) λh' tk acc c hk hS hI=>?_
 have vals:∀ (ks:List (List Key × Addr × Value)) (us:U5),us.length=ks.length->(∀ (j:Nat) (u:W2),us[j]?=some u->∃ k,ks[j]?=some k/\u=Value.ref k.2.1)->Vals ((ks.map λk=>k.2.1).map V.ref) us:=by
  intro ks
  induction ks with
  | nil=>intro us e _;cases us with
   | nil=>exact .nil
   | cons=>cases e
  | cons k ks ih=>intro us e h;cases us with
   | nil=>cases e
   | cons u us =>
    obtain⟨k',e1,e2⟩:=h 0 u rfl
    cases e1
    exact .cons e2 (ih us (Nat.succ.inj e) λj u hu=>h (j+1) u hu)
 have hal:acc.toList.length=ks.length:=by rw[q2h,hI.1,hsz]
 have hv:=vals ks acc.toList hal λj u hu=>by
  obtain⟨e,e1,e2⟩:=hI.2 j u (by rw[<-q4u];exact hu)
  rw[<-q4u,hes,q0g] at e1
  obtain⟨k,k1,k2⟩:=q0p.mp e1
  exact⟨k,k1,by rw[e2,<-k2];rfl⟩
 have hto:(acc.toList).toArray=acc:=Array.toArray_toList
 refine⟨.ref s.heap.objs.size,_,I.laid (t':=tk) hk (q0l _) (show ObjOk X.prog X.w _ _ _ (.lst ((ks.map λk=>k.2.1).map V.ref)) from ⟨by rw[q0a,q0a];omega,acc.toList,c,hv,by rw[hto];exact hS⟩),U,q _ _ (I.hok.fresh (q0l _)) ?_⟩
 clear hv hal hes hsz hl nd q vals hp z
 induction rel with
 | nil=>exact .nil
 | cons a _ ih=>exact .cons a.2.1 ih
end L2
namespace L2
def tDispT (tk tv:TE):TE:=λσ H Q=>∀ p,H p=none->tPairs [(tk,tv)] σ (upd H p (.dT [])) λps H2=>H2 p=some (.dT [])/\∃ (b:W9) (k:List Key) (y:V),ps=[(.ref b,y)]/\H2 b=some (.tup (k.map kV))/\Q (.ref p) (upd H2 p (.dT [(k,y)]))
theorem Y9z {X:Cx}{pos:Pos}{k v:Expr}{tk tv:TE}(hu:X.A.units+1<cLine)(hk:PE X k tk)(hv:PE X v tv):PE X (.Dict [some k] [v] pos) (tDispT tk tv):=by
 intro pins s σ H Q I q
 have hn:=I.hok.fresh (q0l s.heap.objs.size)
 have I1:=I.laid (a:=s.heap.objs.size) (o:=.dT []) (h':=s.heap.push { cls:=.type "dict",data:=.dict #[] }) (t':=s.toks) (λ_ _ q=>q0e _ q) (q0l _) (X1p s.heap I.big)
 have ev:PPs X pos [some k] [v] [(tk,tv)]:=Y9w hk hv X4n
 refine wpAny_Dict_any rfl rfl (by simp) (by show 1<=15;decide) (thn (ev pins _ σ _ _ I1 (q _ hn)) λws s2 ⟨ps,H2,I2,rel,e,b,kk,y,eps,eb,q2⟩=>?_)
 ·subst eps
  cases rel with
  | @cons _ w1 _ _ h1 t1 =>
   cases t1
   obtain⟨u1,u2⟩:=w1
   cases (show u1=Value.ref b from h1.1)
   obtain⟨z,hd,xs,rl,dd⟩:=W0o I2.hok e
   cases rl
   unfold storeAll
   rw[List.forIn_cons];simp only[List.forIn_nil]
   refine q0c (q0c (wpAny_dictSet_heap (knd:=tupleKind (Z1q X.prog X.w)) (show X.A.units<cLine from Nat.lt_of_succ_lt hu) (Z8b I2.hok eb) dd (λh' dd' hs=>q0m (q0m ?_)) (q1o _)))
   obtain⟨o,es,ep,hq,h2,h3,h4,_,h5⟩:=dd'
   refine⟨.ref s.heap.objs.size,_,Y1x (ob:=.dT [(kk,y)]) I2 (by rw[e];exact True.intro) hs ⟨o,hq⟩ ⟨(by show 1<=sizeLine;decide),hd,_,?_,o,es,ep,hq,h2,h3,h4,h5⟩,U,q2⟩
   refine .cons ⟨U,?_,h1.2⟩ .nil
   show upd H2 s.heap.objs.size _ b=_
   rw[Z0u (Z5f eb e (λz=>nomatch z))]
   exact eb
end L2
namespace L2
def Ite (K:U0)(l:W9):It :=
 ⟨λi H=>∃ xs x,SqL K H l xs/\xs[i]?=some x,
 λi H v H'=>∃ T x,v=.ref T/\H T=none/\H'=upd H T (.tup [.int i,x])/\∀ xs,SqL K H l xs->xs[i]?=some x,
 λi H=>∃ xs,SqL K H l xs/\xs.length<=i⟩
theorem Y5i {P:U8}{w:W1}{K:U0}{es:List Expr}{kk:Nat}{tp:Pos}{e it l:W9}(ne:e≠it)(nl:l≠e) :
  Turn P w K (.Tuple es kk tp) (Ite K l) [e,it] e (λi h=>(∃ old,IsEnum h e it i old)/\h.IsListIter it l i) where
 mem:=by simp
 obj:=λi h st b hb=>by
  obtain⟨⟨old,a1⟩,o,a2,_,a3⟩:=st
  simp only[q0s,q1i,q3c] at hb
  rcases hb with rfl | rfl
  ·exact⟨_,a1,λv q=>by have q':Data.fields _=Data.cell v:=q;cases q'⟩
  ·exact⟨o,a2,λv z=>by rw[a3] at z;cases z⟩
 keep:=λi h h' st k=>by
  obtain⟨⟨old,a1⟩,a2⟩:=st
  exact⟨⟨old,k e (by simp) _ a1⟩,a2.at λo q=>k it (by simp) o q⟩
 item:=by
  intro X hP hw hK hc i pins s σ H E I hf st hg
  subst hP hw hK
  obtain⟨xs,x,q1,hx⟩:=hg
  obtain⟨⟨old,a1⟩,a2⟩:=st
  obtain⟨its,rv,p,hz⟩:=I.list q1
  obtain⟨vx,hvx,rx⟩:=rv.get hx
  refine wpAny_pyNext_enum_item a1 a2 p.isList (x:=vx) (by simpa using hvx) ne λh' b1 b2 b3 b4 b5=>?_
  refine⟨_,U,wpAny_letOwnedTupleGo_enum b1 λh2 c1 sb=>?_⟩
  have zT:s.heap.objs.size≠e:=q3o (q0h a1)
  have k2:∀ b o,b ∉ [e,it]->s.heap.get? b=some o->h2.get? b=some o:=λb o hb q=>by
   simp only[q0s,q1i,q3c,not_or] at hb
   exact sb.extBut b o hb.1 (b5 b o hb.1 hb.2 q)
  have hT:IsTup h2 s.heap.objs.size ([.int i s.toks,vx]:U5).toArray:=⟨_,sb.extBut _ _ zT b3,U,_,U⟩
  refine⟨.ref s.heap.objs.size,upd H s.heap.objs.size (.tup [.int i,x]),I.turnedT (t':=s.toks+1) k2 hf (q0l _) (.cons ⟨_,U⟩ (.cons rx .nil)) (by show 2<=sizeLine;decide) hT,U,⟨_,x,U,I.hok.fresh (q0l _),U,λxs' h1=>?_⟩,⟨⟨vx,?_⟩,?_⟩,λb hb=>?_⟩
  ·rw[I.list_inj h1 q1];exact hx
  ·exact_mod_cast c1
  ·exact b2.at λo q=>sb.extBut _ _ ne.symm q
  ·have hlt:b<s.heap.objs.size:=by
    simp only[q0s,q1i,q3c] at hb
    rcases hb with rfl | rfl
    ·exact q0h a1
    ·obtain⟨o,q,_⟩:=a2;exact q0h q
   rw[Z0u (q0t hlt)]
   exact(hf b hb).1
 done:=by
  intro X hP hw hK hc i pins s σ H E I hf st hg
  subst hP hw hK
  obtain⟨xs,q1,hend⟩:=hg
  obtain⟨⟨old,a1⟩,a2⟩:=st
  obtain⟨its,rv,p,hz⟩:=I.list q1
  have e1:=rv.length
  refine wpAny_pyNext_enum_end (I.ok.hd hc) a1 a2 p.isList (by simp;omega) λh' eb=>⟨U,I.turnedL (t':=s.toks) (ch:=[e,it]) (λb o hb q=>?_) hf⟩
  simp only[q0s,q1i,q3c,not_or] at hb
  exact eb b o hb.2 q
 self:=λ_ _ _ _ _ st h=>by
  obtain⟨⟨old,a1⟩,_⟩:=st
  exact wpAny_pyIter_enum a1 h
section
variable {X:Cx}{es:List Expr}{kk:Nat}{tp:Pos}
def iEnum (K:U0)(ta:TA):TI:=λσ H R=>ta σ H λvs H1=>∃ l xs,vs=[.ref l]/\SqL K H1 l xs/\R (Ite K l) H1
theorem Z3y {a:Expr}{ta:TA}{p pos:Pos}(hg:Gl X "enumerate")(hm:X.mg "enumerate"=none)(ha:PA X [a] ta)(hs:starEach [a] X.env=[(false,eval a X.env)]:=by rfl) :
  PI X (.Tuple es kk tp) (.Call (.Name "enumerate" p) [a] [] pos) (iEnum X.K ta):=by
 intro pins s σ H R I h
 refine Call_ (Z6d I hg hm boot_enumerate (PyProof.Rows.callWith_type1 (thn (ha pos pins s σ H _ I h) λus s1 ⟨vs,H1,I1,r1,q1⟩=>?_) (by rw[hs];rfl) (by rfl)))
 obtain⟨l,xs,e,h1,q⟩:=q1
 subst e
 cases r1 with
 | cons r rr =>
  cases rr
  cases r
  obtain⟨its,rv,pl,hz⟩:=I1.list h1
  refine call_enumerate_list pl.isList λh' z1 z2 z3 zk=>?_
  have I2:Inv X pins σ H1 { s1 with heap:=h' }:=I1.kept (t':=s1.toks) zk
  have lt1:l<s1.heap.objs.size:=by obtain⟨o,q,_⟩:=pl.isList;exact q0h q
  refine wpAny_pyIter_enum z1 ⟨_,[s1.heap.objs.size+1,s1.heap.objs.size],_,_,H1,U,I2,Y5i (Nat.succ_ne_self _) (q0t (q3p lt1)),⟨⟨_,z1⟩,z2⟩,λb hb=>?_,q⟩
  have hge:s1.heap.objs.size<=b:=by
   simp only[q0s,q1i,q3c] at hb
   rcases hb with rfl | rfl
   ·exact Nat.le_succ _
   ·exact q0l _
  exact I1.fpOk hge (I1.hok.fresh hge)
end
theorem Z8x {K:U0}{a:W9}{xs:List V}{g:TG}{tb:TS}{D:Ends}{σ:St}{H:Hp}(Pv:Nat->St->Hp->Prop)(h0:Pv 0 σ H)(hl:∀ i σ H,i<=xs.length->Pv i σ H->SqL K H a xs)
  (hs:∀ i x σ H T,xs[i]?=some x->Pv i σ H->H T=none->g (.ref T) σ (upd H T (.tup [.int i,x])) λσ2 H2=>tb { D with nx:=Pv (i+1),ct:=Pv (i+1),bk:=D.nx } σ2 H2) (hd:∀ σ H,Pv xs.length σ H->D.nx σ H) :
  ∃ W:Nat->Nat->St->Hp->Prop,(∃ m,W 0 m σ H)/\∀ i m σ H,W i m σ H →
   ((Ite K a).stop i H/\D.nx σ H)∨((Ite K a).go i H/\∃ N:St->Hp->Prop,(∀ σ' H',N σ' H'->∃ m',m'<m/\W (i+1) m' σ' H')/\∀ x H',(Ite K a).yld i H x H'->g x σ H' λσ2 H2=>tb { D with nx:=N,ct:=N,bk:=D.nx } σ2 H2):=by
 refine⟨λi m σ H=>m=xs.length-i/\i<=xs.length/\Pv i σ H,⟨xs.length,by simp,q1o _,h0⟩,?_⟩
 rintro i m σ H ⟨rfl,hi,p⟩
 have q:=hl i σ H hi p
 by_cases hlt:i<xs.length
 ·refine .inr ⟨⟨xs,xs[i],q,by simp[hlt]⟩,Pv (i+1),λσ' H' p'=>⟨xs.length-(i+1),by omega,U,hlt,p'⟩,λv H' y=>?_⟩
  obtain⟨T,x,rfl,hT,rfl,y⟩:=y
  exact hs i x σ H T (y xs q) p hT
 ·have e:i=xs.length:=by omega
  subst e
  exact .inl ⟨⟨xs,q,q0l _⟩,hd σ H p⟩
end L2
namespace L2
theorem Z7p {X:Cx}(hc:X.calm=true):CallR X (.builtin "sum") (λxs H Q=>∃ (p:W9) (ns:U6),xs=[.ref p]/\SqL X.K H p (ns.map V.int)/\Q (.int ns.sum) H):=by
 intro pins s σ H xs us Q I r h
 obtain⟨p,ns,rfl,hq,q⟩:=h
 obtain⟨u,rfl,ru⟩:=r.one
 cases ru
 obtain⟨its,rv,pl,hz⟩:=I.list hq
 have hi:=Z3j rv
 have hl:=pl.isList
 have hs:=hi.numsOf
 obtain⟨xs,e⟩:=hi.allInts.items
 have e2:its=(intItems xs).toList:=by rw[<-e]
 rw[e] at hl
 rw[e2,nums_intItems] at hs
 refine sum_intListG (show X.A.handled=none from I.ok.hd hc) hl λh' tk t' hk=>?_
 rw[preSum_eq,q5v (by simp),hs]
 exact⟨.int ns.sum,H,I.kept (t':=tk) hk,⟨_,U⟩,q⟩
theorem X5z {K:U0}{l:W9}{g:TG}{xs:List V}{te:TE}{fr:St}{H1:Hp}{acc:W9}{Q:VK}(f:Nat->V->V)(hn:xs.length<=sizeLine)(hacc:H1 acc=none)(hl:SqL K H1 l xs)
  (hg:∀ {a:W9}{x y:V}{w1 w2:Option V}{H:Hp}{Q:St->Hp->Prop},H a=some (.tup [x,y])->Q (some x::some y::fr) H->g (.ref a) (w1::w2::fr) H Q)
  (hs:∀ i x H (N:V->Hp->Prop),xs[i]?=some x->Same H1 H->N (f i x) H->te (some (.int i)::some x::fr) H N)
  (hd:∀ H2,Same H1 H2->H2 acc=some (.lst (xs.mapIdx f))->Q (.ref acc) H2):LcW (Ite K l) g te (none::none::fr) H1 acc Q:=by
 refine⟨λi m zs σ2 H2=>m=xs.length-i/\i<=xs.length/\(∃ v w,σ2=v::w::fr)/\Same H1 H2/\H2 acc=some (.lst zs)/\zs=(xs.take i).mapIdx f,⟨xs.length,by simp,q1o _,⟨_,_,U⟩,Z0f hacc _,Z0d,by simp⟩,?_⟩
 rintro i m zs σ2 H2 ⟨rfl,hi,⟨v,w,rfl⟩,s2,a2,e2⟩
 by_cases hlt:i<xs.length
 ·have e1:xs[i]?=some xs[i]:=by simp[hlt]
  refine .inr ⟨⟨xs,_,s2.seq hl,e1⟩,λu H3 y3=>?_⟩
  obtain⟨T,x,rfl,hT,rfl,h1⟩:=y3
  have hx:=h1 xs (s2.seq hl)
  have sT:=Z0f hT (.tup [.int i,x])
  have zl:zs.length=i:=by rw[e2,List.length_mapIdx,q1q];omega
  refine hg (x:=.int i) (y:=x) Z0d (hs i x _ _ hx (s2.trans sT) ⟨sT _ _ a2,by omega,xs.length-(i+1),by omega,U,hlt,⟨_,_,U⟩,Z0v (s2.trans sT) hacc,Z0d,?_⟩)
  rw[q1s,hx,q1u,List.mapIdx_append,e2]
  have:(xs.take i).length=i:=by rw[q1q];omega
  simp[this]
 ·have e:i=xs.length:=by omega
  subst e
  exact .inl ⟨⟨xs,s2.seq hl,q0l _⟩,hd H2 s2 (by rw[a2,e2,q2e])⟩
theorem Y3i {K:U0}{l:W9}{ns:U6}{tc:TT}{te:TE}{fr:St}{H1:Hp}{acc:W9}{Q:VK}(p:Int->Bool)(f:Int->Int)(hn:ns.length<=sizeLine)(hacc:H1 acc=none)(hl:SqL K H1 l (ns.map V.int))
  (hs:∀ n H (N:Bool->Hp->Prop),n∈ns->Same H1 H->N (p n) H->tc (some (.int n)::fr) H N)
  (ht:∀ n H (N:V->Hp->Prop),n∈ns->p n=true->Same H1 H->N (.int (f n)) H->te (some (.int n)::fr) H N)
  (hd:∀ H2,Same H1 H2->H2 acc=some (.lst (((ns.filter p).map f).map V.int))->Q (.ref acc) H2):LcWF (Itl K l) (gName 0) tc te (none::fr) H1 acc Q:=by
 refine⟨λi m zs σ2 H2=>m=ns.length-i/\i<=ns.length/\(∃ v,σ2=v::fr)/\Same H1 H2/\H2 acc=some (.lst zs)/\zs=(((ns.take i).filter p).map f).map V.int,⟨ns.length,by simp,q1o _,⟨_,U⟩,Z0f hacc _,Z0d,by simp⟩,?_⟩
 rintro i m zs σ2 H2 ⟨rfl,hi,⟨v,rfl⟩,s2,a2,e2⟩
 by_cases hlt:i<ns.length
 ·have e1:ns[i]?=some ns[i]:=by simp[hlt]
  have e3:(ns.map V.int)[i]?=some (.int ns[i]):=by rw[q0g,e1];rfl
  have zl:zs.length<=i:=by
   rw[e2,q0a,q0a]
   exact q1b (q6b _ _) (by rw[q1q];omega)
  have mem:ns[i]∈ns:=q4l hlt
  refine .inr ⟨⟨_,_,s2.seq hl,e3⟩,λu H3 y3=>?_⟩
  obtain⟨rfl,y4⟩:=y3
  have:=y4 _ (s2.seq hl)
  rw[e3] at this
  cases this
  refine hs ns[i] _ _ mem s2 ⟨λhp=>ht ns[i] _ _ mem hp s2 ⟨a2,by omega,ns.length-(i+1),by omega,U,hlt,⟨_,U⟩,Z0v s2 hacc,Z0d,?_⟩,λhp=>⟨ns.length-(i+1),by omega,U,hlt,⟨_,U⟩,s2,a2,?_⟩⟩
  ·rw[q1s,e1,q1u,q3i,q0i,q0i,e2]
   simp[hp]
  ·rw[q1s,e1,q1u,q3i,q0i,q0i,e2]
   simp[hp]
 ·have e:i=ns.length:=by omega
  subst e
  exact .inl ⟨⟨_,s2.seq hl,by rw[q0a];exact q0l _⟩,hd H2 s2 (by rw[a2,e2,q2e])⟩
end L2
namespace K76
open L2 Am Pc Ba
theorem or_i (x y:Nat):Builtin.bitOr (x:Int) (y:Int)=((x ||| y:Nat):Int):=by
 have h:Builtin.bitXor (x:Int) (y:Int)=Builtin.bitOr x y-Builtin.bitAnd x y:=rfl
 rw[Z3u,Z3t] at h
 have e:=Y6v (x+y+1) x y (by omega) (by omega)
 omega
theorem Z8u {K:U0}{l:W9}{g:TG}{xs:List V}{te:TE}{fr:L2.St}{H1:Hp}{acc:W9}{Q:VK}(Pv:Nat->List V->Hp->Prop)(hn:xs.length<=sizeLine)(h0:Pv 0 [] (upd H1 acc (.lst [])))
  (hl:∀ i ys H,Pv i ys H->SqL K H l xs)
  (hg:∀ {a:W9}{x y:V}{w1 w2:Option V}{H:Hp}{Q:L2.St->Hp->Prop},H a=some (.tup [x,y])->Q (some x::some y::fr) H->g (.ref a) (w1::w2::fr) H Q)
  (hs:∀ i x ys H (T:W9) (N:V->Hp->Prop),xs[i]?=some x->ys.length=i->Pv i ys H->H T=none->(∀ y H5,H5 acc=some (.lst ys)->Pv (i+1) (ys++[y]) (upd H5 acc (.lst (ys++[y])))->N y H5)->te (some (.int i)::some x::fr) (upd H T (.tup [.int i,x])) N)
  (hd:∀ ys H,ys.length=xs.length->Pv xs.length ys H->Q (.ref acc) H):LcW (Ite K l) g te (none::none::fr) H1 acc Q:=by
 refine⟨λi m zs σ2 H2=>m=xs.length-i/\i<=xs.length/\zs.length=i/\(∃ v w,σ2=v::w::fr)/\Pv i zs H2,⟨xs.length,by simp,q1o _,U,⟨_,_,U⟩,h0⟩,?_⟩
 rintro i m zs σ2 H2 ⟨rfl,hi,zl,⟨v,w,rfl⟩,p⟩
 have sl:=hl i zs H2 p
 by_cases hlt:i<xs.length
 ·have e1:xs[i]?=some xs[i]:=by simp[hlt]
  refine .inr ⟨⟨xs,_,sl,e1⟩,λu H3 y3=>?_⟩
  obtain⟨T,x,rfl,hT,rfl,h1⟩:=y3
  have hx:=h1 xs sl
  refine hg (x:=.int i) (y:=x) Z0d (hs i x zs H2 T _ hx zl p hT λy H5 a5 p5=>⟨a5,by omega,xs.length-(i+1),by omega,U,hlt,by simp[zl],⟨_,_,U⟩,p5⟩)
 ·have e:i=xs.length:=by omega
  subst e
  exact .inl ⟨⟨xs,sl,q0l _⟩,hd zs H2 zl p⟩
def spExch:Sp:=λvs H Q _=>∃ w a b:Nat,vs=[.int w,.int ((2^a:Nat):Int),.int ((2^b:Nat):Int)]/\∀ H',Same H H'->Q (.int (exch w a b:Nat)) H'
def Y2v:Sp:=λvs H Q _=>∃ (w:Nat) (p:W9) (v:Mv) (c:Nat),vs=[.int w,.ref p]/\H p=some (MvT v.nm v.ns)/\v.Ok c/\c<=6/\v.nm≠"turn"/\v.nm≠"pair"/\∀ H',Same H H'->Q (.int (v.to w:Nat)) H'
structure Bo (K:U0) (H:Hp) (l:W9) (ps:U3) (f:Nat->A5) (c:Nat):Prop where
 lst:H l=some (.lst (ps.map V.ref))
 len:ps.length=2^c
 vals:ValsK K H ps f
theorem Bo.same {K:U0}{H H':Hp}{l:W9}{ps:U3}{f:Nat->A5}{c:Nat}(b:Bo K H l ps f c)(s:Same H H'):Bo K H' l ps f c:=⟨s _ _ b.lst,b.len,b.vals.same s⟩
theorem Bo.at {K:U0}{H:Hp}{l:W9}{ps:U3}{f:Nat->A5}{c i:Nat}(b:Bo K H l ps f c)(hi:i<2^c):∃ p,ps[i]?=some p/\At5 K H p (f i)/\atI (ps.map V.ref) (i:Int)=some (.ref p):=by
 have hl:i<ps.length:=by rw[b.len];exact hi
 refine⟨ps[i],q0d hl,b.vals i _ (q0d hl),Z3b (by rw[q0g,q0d hl];rfl)⟩
def Y2m (K:U0):Sp:=λvs H Q _=>∃ (l:W9) (ps:U3) (f:Nat->A5) (c bits:Nat) (k:Int),vs=[.ref l,.int bits,.int k]/\Bo K H l ps f c/\c<=6 ∧
 ∀ (r:W9) (H':Hp) (qs:U3) (g:Nat->A5),H r=none->Same H H'->Bo K H' r qs g c->(∀ w,w<2^c->g w=if w&&&bits=bits then spin (f w) k else f w)->Q (.ref r) H'
theorem inV2 (x a b:Int):inV (.int x) [.int a,.int b]=(decide (a=x) || decide (b=x)):=by
 unfold inV
 simp only[q5s,List.any_nil,Bool.or_false,eqV]
 rfl
section
variable {P:U8}{w:W1}{K:U0}{mg:U4}{base:Heap}{k:Nat}{h:Heap}
theorem sc_exch:FnScope ["word","bit","other","both"] ["word","bit","other"] (Z0h (top 48)):=fS
theorem X5f (F:FunAt K "exchanged" (top 48) .none)(X:K.In h)(G:Ng h mg):Cal P w K mg base (k+1) "exchanged" ["word","bit","other"] spExch:=by
 have nd:=sc_exch.nd
 refine F.cal X G sc_exch (bnd3 λ_ _ _ _ _ _ _ _ _=>rfl) (λvs H Q E h=>?_) (λf cdv A outer s H vs Q E hr h=>?_)
 ·obtain⟨w,a,b,rfl,_⟩:=h;rfl
 obtain⟨x,a,b,rfl,q⟩:=h
 refine⟨_,(@Z0g _ _ _ _ _ (@Z0q _ _ 3 _ _ _ _ nd rfl (Or.inl rfl) (Z0j Z8q (pv 1) (pv 2)) rfl (.inl rfl))
  (@Z0e _ _ _ (Z0k (Z2d (Z0p Z5c (Z0j Z0z (pv 0) (pv 3)) (@Z1a _ _ _ _ _ (Z0a (pv 1) (Z0a (pv 2) Z0c))) rfl) (Z0j Z2e (pv 0) (pv 3)) (pv 0))))),?_⟩
 try dsimp only[cxK]
 refine⟨_,U,_,U,_,_,U,U,?_⟩
 refine⟨_,U,_,U,_,_,U,U,_,U,_,U,t2,λtp htp=>?_⟩
 refine⟨tp,_,U,.inr (SqT.of Z0d),U,U,_,U,?_⟩
 have s1:=Z0f htp (.tup [.int ((2^a:Nat):Int),.int ((2^b:Nat):Int)])
 have q1:=q _ s1
 unfold exch at q1
 show if (inV (.int (Builtin.bitAnd (x:Int) (Builtin.bitOr ((2^a:Nat):Int) ((2^b:Nat):Int)))) [.int ((2^a:Nat):Int),.int ((2^b:Nat):Int)])=true then _ else _
 rw[or_i,Z3t,inV2]
 by_cases c:x&&&(2^a ||| 2^b)=2^a∨x&&&(2^a ||| 2^b)=2^b
 ·rw[if_pos (by rw[q2x,q1f,q1f];omega)]
  rw[if_pos c] at q1
  refine⟨_,U,_,U,_,_,U,U,?_⟩
  show Q (.int (Builtin.bitXor (x:Int) (Builtin.bitOr ((2^a:Nat):Int) ((2^b:Nat):Int)))) _
  rw[or_i,Z3u]
  exact q1
 ·rw[if_neg (by rw[q2x,q1f,q1f];omega)]
  rw[if_neg c] at q1
  exact⟨_,U,q1⟩
theorem sc_behind:FnScope ["word","move","bits"] ["word","move"] (Z0h (top 47)):=fS
theorem Y7m (F:FunAt K "word_behind" (top 47) .none)(X:K.In h)(G:Ng h mg)(cM:Cal P w K mg base k "named_cells" ["move"] Y0x)(cH:Cal P w K mg base k "exchanged" ["word","bit","other"] spExch) :
  Cal P w K mg base (k+1) "word_behind" ["word","move"] Y2v:=by
 have nd:=sc_behind.nd
 refine F.cal X G sc_behind (bnd2 λ_ _ _ _ _ _ _ _=>rfl) (λvs H Q E h=>?_) (λf cdv A outer s H vs Q E hr h=>?_)
 ·obtain⟨w,p,v,c,rfl,_⟩:=h;rfl
 obtain⟨x,p,v,c,rfl,hp,ok,c6,nt,np,q⟩:=h
 have FI:=Mv.fits ok
 have en:named v.nm v.ns=v.ns:=by unfold named;rw[if_neg nt]
 have hlen:v.ns.length<=3:=FI.form.len
 have low:∀ a∈v.ns,0<=a/\a<6:=λa ha=>by
  have:=FI.low a (by rw[en];exact ha)
  omega
 refine⟨_,(@Z0g _ _ _ _ _ (Z6j (i:=2) rfl nd rfl rfl (LcOk.of (Nc:=["cell"]) (mp:=[none]) (by kernel_rfl)) (Y2x (Z0m cM hr rfl (Z0a (pv 1) Z0c))) (λ_ _ _ _=>(Z0t (i:=0) (show (["cell"]:W0).Nodup by decide +kernel) rfl (Or.inl rfl))) (λ_ _ _ _=>(Z0j Z1j Z0b (pv 0))) rfl)
  (@Z0g _ _ _ _ _ (Z0w (Z0p Z1m (Z0l Z0i (pv 1) Z0b (λ_ _=>rfl)) Z0y (nomark _))
   (@Z0e _ _ _ (Z0k (Z0j Z2e (pv 0) (Z0l Z1k (pv 2) Z0b (λ_ _=>rfl)))))
   Z0o)
  (@Z0g _ _ _ _ _ (Z0w (Z0p Z1m (Z0l Z0i (pv 1) Z0b (λ_ _=>rfl)) Z0y (nomark _))
   (@Z0e _ _ _ (Z0k (Z0m cH hr rfl (Z0a (pv 0) (Z0a (Z0l Z1k (pv 2) Z0b (λ_ _=>rfl)) (Z0a (Z0l Z1k (pv 2) Z0b (λ_ _=>rfl)) Z0c))))))
   Z0o)
  (@Z0g _ _ _ _ _ (Z0w (Z1h (Z2c (Z0j Z0z (pv 0) (Z0l Z1k (pv 2) Z0b (λ_ _=>rfl))) (by intro _;rfl)))
   (@Z0e _ _ _ (Z0k (pv 0)))
   Z0o)
  (@Z0g _ _ _ _ _ (Z0w (Z0p Z1m (Z0l Z0i (pv 1) Z0b (λ_ _=>rfl)) Z0y (nomark _))
   (@Z0e _ _ _ (Z0k (Z0j Z2e (pv 0) (Z0l Z1k (pv 2) Z0b (λ_ _=>rfl)))))
   Z0o)
  (@Z0e _ _ _ (Z0k (Z0m cH hr rfl (Z0a (pv 0) (Z0a (Z0l Z1k (pv 2) Z0b (λ_ _=>rfl)) (Z0a (Z0l Z1k (pv 2) Z0b (λ_ _=>rfl)) Z0c))))))))))),?_⟩
 try dsimp only[cxK]
 refine⟨_,U,p,v.nm,v.ns,U,hp,FI.form,λr H1 S1 hr=>?_⟩
 rw[en] at hr
 refine⟨r,U,⟨_,SqT.of hr⟩,λacc hacc=>?_⟩
 refine Y1r (K:=K) (λn=>.int (1*2^n.toNat)) (SqT.of hr) (t64 (by omega)) hacc (λn H2 N hn S2 kN=>⟨_,U,_,_,U,U,⟨1,sz1,(low n hn).1,by have:=(low n hn).2;omega⟩,kN⟩) (λH3 S3 a3=>?_)
 have S03:=S1.trans S3
 have q3:=q H3 S03
 have SP:SqT K H3 p (.str v.nm::v.ns.map V.int):=SqT.of (S03 _ _ hp)
 have SL:SqL K H3 acc (v.ns.map λn=>V.int (1*2^n.toNat)):=SqL.of a3
 have ip:∀ a:Nat,(1:Int)*2^((a:Int)).toNat=((2^a:Nat):Int):=λa=>ipow a
 cases v with
 | flip a =>
  refine⟨_,U,p,_,_,.str "flip",U,U,SP,at0,U,_,U,decI (λ_=>?_) (λz=>absurd rfl z)⟩
  refine⟨_,U,_,U,acc,_,_,.int (1*2^((a:Int)).toNat),U,U,SL,U,_,_,U,U,?_⟩
  show Q (.int (Builtin.bitXor (x:Int) (1*2^((a:Int)).toNat))) H3
  rw[ip,Z3u]
  exact q3
 | turn a k=>exact absurd rfl nt
 | pair a b=>exact absurd rfl np
 | swap a b =>
  refine⟨_,U,p,_,_,.str "swap",U,U,SP,at0,U,_,U,decI (λz=>absurd (V.str.inj z) (by decide +kernel)) (λ_=>?_)⟩
  refine⟨_,U,p,_,_,.str "swap",U,U,SP,at0,U,_,U,decI (λ_=>?_) (λz=>absurd rfl z)⟩
  refine⟨_,U,_,U,acc,_,_,.int (1*2^((a:Int)).toNat),U,U,SL,U,_,U,acc,_,_,.int (1*2^((b:Int)).toNat),U,U,SL,U,?_⟩
  exact⟨x,a,b,by show [V.int (x:Int),V.int (1*2^((a:Int)).toNat),V.int (1*2^((b:Int)).toNat)]=_;rw[ip,ip],λH4 S4=>q H4 (S03.trans S4)⟩
 | iff a b =>
  refine⟨_,U,p,_,_,.str "if",U,U,SP,at0,U,_,U,decI (λz=>absurd (V.str.inj z) (by decide +kernel)) (λ_=>?_)⟩
  refine⟨_,U,p,_,_,.str "if",U,U,SP,at0,U,_,U,decI (λz=>absurd (V.str.inj z) (by decide +kernel)) (λ_=>?_)⟩
  refine⟨_,U,_,U,acc,_,_,.int (1*2^((a:Int)).toNat),U,U,SL,U,_,_,U,U,_,U,?_⟩
  rw[ip,Z3t]
  have q4:Q (.int ((if x&&&2^a=0 then x else x^^^2^b:Nat):Int)) H3:=q3
  by_cases e:x&&&2^a=0
  ·rw[if_pos e] at q4
   rw[e]
   exact iteT ⟨_,U,q4⟩
  ·rw[if_neg e] at q4
   rw[show ((((x&&&2^a:Nat):Int) != 0)=true) by simpa using e]
   refine iteF ⟨_,U,p,_,_,.str "if",U,U,SP,at0,U,_,U,decI (λ_=>?_) (λz=>absurd rfl z)⟩
   refine⟨_,U,_,U,acc,_,_,.int (1*2^((b:Int)).toNat),U,U,SL,U,_,_,U,U,?_⟩
   show Q (.int (Builtin.bitXor (x:Int) (1*2^((b:Int)).toNat))) H3
   rw[ip,Z3u]
   exact q4
 | cross a b d =>
  refine⟨_,U,p,_,_,.str "cross",U,U,SP,at0,U,_,U,decI (λz=>absurd (V.str.inj z) (by decide +kernel)) (λ_=>?_)⟩
  refine⟨_,U,p,_,_,.str "cross",U,U,SP,at0,U,_,U,decI (λz=>absurd (V.str.inj z) (by decide +kernel)) (λ_=>?_)⟩
  refine⟨_,U,_,U,acc,_,_,.int (1*2^((a:Int)).toNat),U,U,SL,U,_,_,U,U,_,U,?_⟩
  rw[ip,Z3t]
  have q4:∀ H',Same H H'->Q (.int ((if x&&&2^a=0 then x else exch x b d:Nat):Int)) H':=q
  by_cases e:x&&&2^a=0
  ·rw[if_pos e] at q4
   rw[e]
   exact iteT ⟨_,U,q4 _ S03⟩
  ·rw[if_neg e] at q4
   rw[show ((((x&&&2^a:Nat):Int) != 0)=true) by simpa using e]
   refine iteF ⟨_,U,p,_,_,.str "cross",U,U,SP,at0,U,_,U,decI (λz=>absurd (V.str.inj z) (by decide +kernel)) (λ_=>?_)⟩
   refine⟨_,U,_,U,acc,_,_,.int (1*2^((b:Int)).toNat),U,U,SL,U,_,U,acc,_,_,.int (1*2^((d:Int)).toNat),U,U,SL,U,?_⟩
   exact⟨x,b,d,by show [V.int (x:Int),V.int (1*2^((b:Int)).toNat),V.int (1*2^((d:Int)).toNat)]=_;rw[ip,ip],λH4 S4=>q4 H4 (S03.trans S4)⟩
theorem X5l (v:Mv):v.nm≠"mix":=by
 cases v with
 | flip a=>exact(show ("flip":Str)≠"mix" by decide +kernel)
 | turn a k=>exact(show ("turn":Str)≠"mix" by decide +kernel)
 | iff a b=>exact(show ("if":Str)≠"mix" by decide +kernel)
 | pair a b=>exact(show ("pair":Str)≠"mix" by decide +kernel)
 | swap a b=>exact(show ("swap":Str)≠"mix" by decide +kernel)
 | cross a b d=>exact(show ("cross":Str)≠"mix" by decide +kernel)
theorem X5n {v:Mv}(h:v.nm="turn"):∃ a k,v=.turn a k:=by
 cases v with
 | flip a=>exact absurd h (show ("flip":Str)≠"turn" by decide +kernel)
 | turn a k=>exact⟨a,k,rfl⟩
 | iff a b=>exact absurd h (show ("if":Str)≠"turn" by decide +kernel)
 | pair a b=>exact absurd h (show ("pair":Str)≠"turn" by decide +kernel)
 | swap a b=>exact absurd h (show ("swap":Str)≠"turn" by decide +kernel)
 | cross a b d=>exact absurd h (show ("cross":Str)≠"turn" by decide +kernel)
theorem X5o {v:Mv}(h:v.nm="pair"):∃ a b,v=.pair a b:=by
 cases v with
 | flip a=>exact absurd h (show ("flip":Str)≠"pair" by decide +kernel)
 | turn a k=>exact absurd h (show ("turn":Str)≠"pair" by decide +kernel)
 | iff a b=>exact absurd h (show ("if":Str)≠"pair" by decide +kernel)
 | pair a b=>exact⟨a,b,rfl⟩
 | swap a b=>exact absurd h (show ("swap":Str)≠"pair" by decide +kernel)
 | cross a b d=>exact absurd h (show ("cross":Str)≠"pair" by decide +kernel)
theorem X4a {v:Mv}(h:v.nm≠"turn")(h':v.nm≠"pair")(w:Nat):v.sp w=0:=by
 cases v with
 | turn a k=>exact absurd rfl h
 | pair a b=>exact absurd rfl h'
 | flip a=>rfl
 | iff a b=>rfl
 | swap a b=>rfl
 | cross a b d=>rfl
theorem sc_where:FnScope ["board","bits","k"] ["board","bits","k"] (Z0h (top 46)):=fS
theorem X0d (F:FunAt K "spun_where" (top 46) .none)(X:K.In h)(G:Ng h mg)(B:Bs mg)(cS:Cal P w K mg base k "spun" ["one","k"] (Z6v K)):Cal P w K mg base (k+1) "spun_where" ["board","bits","k"] (Y2m K):=by
 have nd:=sc_where.nd
 refine F.cal X G sc_where (bnd3 λ_ _ _ _ _ _ _ _ _=>rfl) (λvs H Q E h=>?_) (λf cdv A outer s H vs Q E hr h=>?_)
 ·obtain⟨l,ps,f,c,bits,k,rfl,_⟩:=h;rfl
 obtain⟨l,ps,g,c,bits,kk,rfl,BO,c6,kq⟩:=h
 have p6:=pow6 c6
 have SL:SqL K H l (ps.map V.ref):=SqL.of BO.lst
 have lps:(ps.map V.ref).length=2^c:=by rw[q0a,BO.len]
 refine⟨_,(@Z0e _ _ _ (Z0k (Z3e rfl (LcOk.of (Nc:=["word","one","bits","k"]) (mp:=[none,none,some 1,some 2]) (by kernel_rfl)) (Z3y rfl B.enumerate (Z0a (pv 0) Z0c)) (λ_ _ _ _=>(Z4h rfl (show (["word","one","bits","k"]:W0).Nodup by decide +kernel) rfl rfl rfl rfl)) (λ_ _ _ _=>(Z2d (Z0p Z1m (Z0j Z0z (pv 0) (pv 2)) (pv 2) (nomark _)) (Z0m cS hr rfl (Z0a (pv 1) (Z0a (pv 3) Z0c))) (pv 1)))))),?_⟩
 try dsimp only[cxK]
 refine⟨_,U,l,_,U,SL,λacc hacc=>?_⟩
 refine Z8u (K:=K) (l:=l) (xs:=ps.map V.ref) (fr:=[some (.int bits),some (.int kk)]) (λi ys H'=>∃ (qs:U3) (y:Nat->A5),Same H H'/\H' acc=some (.lst ys)/\ys=qs.map V.ref/\qs.length=i/\ValsK K H' qs y/\∀ j,j<i->y j=if j&&&bits=bits then spin (g j) kk else g j) (by rw[lps];exact t64 p6)
  ⟨[],λ_=>((0,0,0,0),0),Z0f hacc _,Z0d,U,U,(λ_ _ z=>by cases z),λj hj=>absurd hj (q5r _)⟩ (λi ys H' p=>by obtain⟨qs,y,s2,_⟩:=p;exact SqL.of (s2 _ _ BO.lst)) (λh q=>⟨_,_,U,SqT.of h,U,_,_,U,_,_,U,U,q⟩) ?_ ?_
 ·rintro i x ys H2 T N hx hy ⟨qs,y,S2,a2,rfl,ql,v2,ok2⟩ hT kN
  rw[q0g] at hx
  obtain⟨p,hp,rfl⟩:=q0p.mp hx
  have pg:=(BO.vals i p hp).same S2
  have sT:=Z0f hT (.tup [.int i,.ref p])
  have fin:∀ (r:W9) (H5:Hp) (z:A5),Same (upd H2 T (.tup [.int i,.ref p])) H5->At5 K H5 r z->z=(if i&&&bits=bits then spin (g i) kk else g i)->N (.ref r) H5:=λr H5 z S5 hr hz=>by
   have S25:=sT.trans S5
   refine kN (.ref r) H5 (S25 _ _ a2) ⟨qs++[r],λj=>if j=qs.length then z else y j,Z0v (S2.trans S25) hacc,Z0d,by rw[q0i];rfl,by simp[ql],Z4g (xs:=qs.map V.ref) (Z3g v2 S25 hr) (S25 _ _ a2),λj hj=>?_⟩
   show (if j=qs.length then z else y j)=_
   by_cases e:j=qs.length
   ·rw[if_pos e,hz,e,ql]
   ·rw[if_neg e]
    exact ok2 j (by omega)
  refine⟨_,U,_,U,_,_,U,U,_,U,U,_,U,?_⟩
  show if decide (V.int (Builtin.bitAnd (i:Int) (bits:Int))=V.int (bits:Int))=true then _ else _
  rw[Z3t]
  by_cases e:i&&&bits=bits
  ·rw[q0q (by rw[e])]
   refine iteT ⟨_,U,_,U,p,_,_,_,_,_,_,U,pg.same sT,λr H5 S5 hr=>fin r H5 (spin (g i) kk) S5 hr (by rw[if_pos e])⟩
  ·rw[q0k (λz=>e (by have:=V.int.inj z;omega))]
   exact iteF ⟨_,U,fin p _ (g i) (Same.refl _) (pg.same sT) (by rw[if_neg e])⟩
 ·rintro ys H2 hy ⟨qs,y,S2,a2,rfl,ql,v2,ok2⟩
  rw[lps] at ql ok2
  exact kq acc H2 qs y hacc S2 ⟨a2,ql,v2⟩ ok2
noncomputable def wOk (c a w:Nat):Bool:=decide (w&&&2^a=0) == decide (w / 2^a%2=0) && if w / 2^a%2=0 then decide ((w ||| 2^a)=w+2^a) && decide (w+2^a<2^c) && decide ((w+2^a) / 2^a%2=1) else decide ((w^^^2^a)=w-2^a) && decide (2^a<=w) && decide ((w-2^a) / 2^a%2=0)
theorem X3n:((List.range 7).all λc=>(List.range c).all λa=>(List.range (2^c)).all λw=>wOk c a w)=true:=by decide +kernel
theorem wok {c a w:Nat}(hc:c<=6)(ha:a<c)(hw:w<2^c):wOk c a w=true :=
 q1e.mp (q1e.mp (q1e.mp X3n c (q1c.mpr (by omega))) a (q1c.mpr ha)) w (q1c.mpr hw)
theorem X7s {c a w:Nat}(hc:c<=6)(ha:a<c)(hw:w<2^c)(h:w / 2^a%2=0):w&&&2^a=0/\(w ||| 2^a)=w+2^a/\w+2^a<2^c/\(w+2^a) / 2^a%2=1:=by
 have:=wok hc ha hw
 unfold wOk at this
 rw[if_pos h,q0q h] at this
 simpa [and_assoc] using this
theorem X7t {c a w:Nat}(hc:c<=6)(ha:a<c)(hw:w<2^c)(h:¬ w / 2^a%2=0):w&&&2^a≠0/\(w^^^2^a)=w-2^a/\2^a<=w/\(w-2^a) / 2^a%2=0:=by
 have:=wok hc ha hw
 unfold wOk at this
 rw[if_neg h,q0k h] at this
 simpa [and_assoc] using this
structure Mix (s:Int) (x y z:A5):Prop where
 ex:∃ p:A5,Sum x.1.1 x.1.2.1 x.1.2.2.1 x.1.2.2.2 x.2 (s*y.1.1) (s*y.1.2.1) (s*y.1.2.2.1) (s*y.1.2.2.2) y.2 p.1.1 p.1.2.1 p.1.2.2.1 p.1.2.2.2 p.2 ∧
  Amt z.1.1 z.1.2.1 z.1.2.2.1 z.1.2.2.2 z.2/\Same4 (p.1.2.1-p.1.2.2.2) (p.1.1+p.1.2.2.1) (p.1.2.1+p.1.2.2.2) (p.1.2.2.1-p.1.1) (p.2+1) z.1.1 z.1.2.1 z.1.2.2.1 z.1.2.2.2 z.2
theorem W1f {x y:A5}(h:x.1.1=y.1.1/\x.1.2.1=y.1.2.1/\x.1.2.2.1=y.1.2.2.1/\x.1.2.2.2=y.1.2.2.2/\x.2=y.2):x=y:=by
 obtain⟨⟨a,b,c,d⟩,h1⟩:=x
 obtain⟨⟨a',b',c',d'⟩,h2⟩:=y
 obtain⟨rfl,rfl,rfl,rfl,rfl⟩:=h
 rfl
def MixAt (f:Nat->A5)(a w:Nat)(z:A5):Prop:=if w / 2^a%2=0 then Mix 1 (f w) (f (w+2^a)) z else Mix (-1) (f (w-2^a)) (f w) z
structure Bd5 (K:U0) (H:Hp) (l:W9) (ps:U3) (f:Nat->A5) (c n m:Nat):Prop where
 lst:H l=some (.lst (ps.map V.ref))
 len:ps.length=2^c
 vals:ValsK K H ps f
 ok:∀ i,i<2^c->Ok5 n m (f i)
theorem Bd5.same {K:U0}{H H':Hp}{l:W9}{ps:U3}{f:Nat->A5}{c n m:Nat}(b:Bd5 K H l ps f c n m)(s:Same H H'):Bd5 K H' l ps f c n m:=⟨s _ _ b.lst,b.len,b.vals.same s,b.ok⟩
theorem Bd5.at {K:U0}{H:Hp}{l:W9}{ps:U3}{f:Nat->A5}{c n m i:Nat}(b:Bd5 K H l ps f c n m)(hi:i<2^c):∃ p,ps[i]?=some p/\At5 K H p (f i)/\atI (ps.map V.ref) (i:Int)=some (.ref p):=by
 have hl:i<ps.length:=by rw[b.len];exact hi
 refine⟨ps[i],q0d hl,b.vals i _ (q0d hl),Z3b (by rw[q0g,q0d hl];rfl)⟩
def Z7w (K:U0):Sp:=λvs H Q _=>∃ (l:W9) (ps:U3) (f:Nat->A5) (c n m a wd:Nat),vs=[.ref l,.int wd,.int ((2^a:Nat):Int)]/\Bd5 K H l ps f c n m/\c<=6/\a<c/\wd<2^c/\n<=450000/\m<=10000 ∧
 ∀ (r:W9) (H':Hp) (z:A5),Same H H'->H' r=some (tA z)->Ok5 (n+2*m+3) (m+1:Nat) z->MixAt f a wd z->Q (.ref r) H'
def Y2q (K:U0):Sp:=λvs H Q _=>∃ (l:W9) (ps:U3) (f:Nat->A5) (c n m a:Nat),vs=[.ref l,.int ((2^a:Nat):Int)]/\Bd5 K H l ps f c n m/\c<=6/\a<c/\n<=450000/\m<=10000 ∧
 ∀ (r:W9) (H':Hp) (qs:U3) (g:Nat->A5),H r=none->Same H H'->Bd5 K H' r qs g c (n+2*m+3) (m+1)->(∀ w,w<2^c->MixAt f a w (g w))->Q (.ref r) H'
theorem X2u {n m:Nat}{x y z p:A5}(ox:Ok5 n m x)(oy:Ok5 n m y)(hp:p.2<=max x.2 y.2)(sp:Sz4 (n+x.2.toNat+y.2.toNat+2) p.1.1 p.1.2.1 p.1.2.2.1 p.1.2.2.2)
  (r:Red (p.1.2.1-p.1.2.2.2) (p.1.1+p.1.2.2.1) (p.1.2.1+p.1.2.2.2) (p.1.2.2.1-p.1.1) (p.2+1) z.1.1 z.1.2.1 z.1.2.2.1 z.1.2.2.2 z.2):Ok5 (n+2*m+3) (m+1:Nat) z:=by
 have hx:=ox.le
 have hy:=oy.le
 have hx0:=ox.amt.nn
 have hy0:=oy.amt.nn
 have s:Sz4 (n+2*m+2) p.1.1 p.1.2.1 p.1.2.2.1 p.1.2.2.2:=sp.mono (by omega)
 have neg:∀ {u v:Int},Sz (n+2*m+2) u->Sz (n+2*m+2) v->Sz (n+2*m+3) (u-v):=λhu hv=>by rw[Int.sub_eq_add_neg];exact(hu.add hv.neg).mono (by omega)
 have add:∀ {u v:Int},Sz (n+2*m+2) u->Sz (n+2*m+2) v->Sz (n+2*m+3) (u+v):=λhu hv=>(hu.add hv).mono (by omega)
 refine⟨r.sz ⟨neg s.z2 s.z4,add s.z1 s.z3,add s.z2 s.z4,neg s.z3 s.z1⟩,r.amt,?_⟩
 have:=r.le
 omega
theorem X3f {K:U0}{H:Hp}{p q:W9}{x y:A5}{n m:Nat}(hp:At5 K H p x)(hq:At5 K H q y)(ox:Ok5 n m x)(oy:Ok5 n m y)(hn:n<=450000)(hm:m<=10000):In2 K n [.ref p,.ref q] H p q x.1.1 x.1.2.1 x.1.2.2.1 x.1.2.2.2 x.2 y.1.1 y.1.2.1 y.1.2.2.1 y.1.2.2.2 y.2:=by
 have:=ox.le
 have:=oy.le
 exact⟨U,hp,hq,ox.amt.nn,oy.amt.nn,by omega,by omega,ox.sz,oy.sz⟩
theorem sc_mixedat:FnScope ["board","word","bit"] ["board","word","bit"] (Z0h (top 45)):=fS
theorem Y4o (F:FunAt K "mixed_at" (top 45) .none)(X:K.In h)(G:Ng h mg)(dY:Cal P w K mg base k "rooted" ["one"] Y2o)(eV:Cal P w K mg base k "minus" ["one","other"] (Y2r K))(dW:Cal P w K mg base k "plus" ["one","other"] (Y0w K)) :
  Cal P w K mg base (k+1) "mixed_at" ["board","word","bit"] (Z7w K):=by
 have nd:=sc_mixedat.nd
 refine F.cal X G sc_mixedat (bnd3 λ_ _ _ _ _ _ _ _ _=>rfl) (λvs H Q E h=>?_) (λf cdv A outer s H vs Q E hr h=>?_)
 ·obtain⟨l,ps,f,c,n,m,a,wd,rfl,_⟩:=h;rfl
 obtain⟨l,ps,g,c,n,m,a,wd,rfl,BD,c6,ac,wc,n3,m1,kq⟩:=h
 have SL:SqL K H l (ps.map V.ref):=SqL.of BD.lst
 refine⟨_,(@Z0g _ _ _ _ _ (Z0w (Z2c (Z0j Z0z (pv 1) (pv 2)) (by intro _;rfl))
   (@Z0e _ _ _ (Z0k (Z0m dY hr rfl (Z0a (Z0m eV hr rfl (Z0a (Z0l Z1k (pv 0) (Z0j Z2e (pv 1) (pv 2)) (λ_ _=>rfl)) (Z0a (Z0l Z1k (pv 0) (pv 1) (λ_ _=>rfl)) Z0c))) Z0c))))
   Z0o)
  (@Z0e _ _ _ (Z0k (Z0m dY hr rfl (Z0a (Z0m dW hr rfl (Z0a (Z0l Z1k (pv 0) (pv 1) (λ_ _=>rfl)) (Z0a (Z0l Z1k (pv 0) (Z0j Z8q (pv 1) (pv 2)) (λ_ _=>rfl)) Z0c))) Z0c))))),?_⟩
 try dsimp only[cxK]
 by_cases hb:wd / 2^a%2=0
 ·obtain⟨e1,e2,e3,_⟩:=X7s c6 ac wc hb
  obtain⟨p,_,hp,ap⟩:=BD.at wc
  obtain⟨q,_,hq,aq⟩:=BD.at e3
  refine⟨_,U,_,U,_,_,U,U,_,U,?_⟩
  rw[Z3t,e1]
  refine iteF ?_
  refine⟨_,U,_,U,l,_,_,_,U,U,SL,ap,_,U,_,U,_,U,_,_,U,U,l,_,_,_,U,U,SL,(by rw[or_i,e2];exact aq),?_⟩
  have ox:=BD.ok _ wc
  have oy:=BD.ok _ e3
  refine⟨n,p,q,_,_,_,_,_,_,_,_,_,_,X3f hp hq ox oy n3 m1,λr1 H1 x y z u v S1 hr1 SU SZ=>?_⟩
  refine⟨r1,x,y,z,u,v,U,hr1,SU.amt.nn,λr2 H2 x' y' z' u' v' S2 hr2 RE=>?_⟩
  refine kq r2 H2 ((x',y',z',u'),v') (S1.trans S2) hr2 (X2u (p:=((x,y,z,u),v)) ox oy SU.le SZ RE) ?_
  unfold MixAt
  rw[if_pos hb]
  exact⟨((x,y,z,u),v),by simpa only[q8j] using SU,RE.amt,RE.same⟩
 ·obtain⟨e1,e2,e3,_⟩:=X7t c6 ac wc hb
  obtain⟨p,_,hp,ap⟩:=BD.at (i:=wd-2^a) (q2t (Nat.sub_le _ _) wc)
  obtain⟨q,_,hq,aq⟩:=BD.at wc
  have ox:=BD.ok (wd-2^a) (q2t (Nat.sub_le _ _) wc)
  have oy:=BD.ok _ wc
  refine⟨_,U,_,U,_,_,U,U,_,U,?_⟩
  rw[Z3t,show ((((wd&&&2^a:Nat):Int) != 0)=true) by simpa using e1]
  refine iteT ?_
  refine⟨_,U,_,U,_,U,_,_,U,U,l,_,_,_,U,U,SL,(by rw[Z3u,e2];exact ap),_,U,_,U,l,_,_,_,U,U,SL,aq,?_⟩
  refine⟨n,p,q,_,_,_,_,_,_,_,_,_,_,X3f hp hq ox oy n3 m1,λr1 H1 x y z u v S1 hr1 SU SZ=>?_⟩
  refine⟨r1,x,y,z,u,v,U,hr1,SU.amt.nn,λr2 H2 x' y' z' u' v' S2 hr2 RE=>?_⟩
  refine kq r2 H2 ((x',y',z',u'),v') (S1.trans S2) hr2 (X2u (p:=((x,y,z,u),v)) ox oy SU.le SZ RE) ?_
  unfold MixAt
  rw[if_neg hb]
  exact⟨((x,y,z,u),v),by simpa only[Int.neg_one_mul] using SU,RE.amt,RE.same⟩
theorem sc_mixed:FnScope ["board","bit"] ["board","bit"] (Z0h (top 44)):=fS
theorem X0k (F:FunAt K "mixed" (top 44) .none)(X:K.In h)(G:Ng h mg)(B:Bs mg)(eG:Cal P w K mg base k "mixed_at" ["board","word","bit"] (Z7w K)):Cal P w K mg base (k+1) "mixed" ["board","bit"] (Y2q K):=by
 have nd:=sc_mixed.nd
 refine F.cal X G sc_mixed (bnd2 λ_ _ _ _ _ _ _ _=>rfl) (λvs H Q E h=>?_) (λf cdv A outer s H vs Q E hr h=>?_)
 ·obtain⟨l,ps,f,c,n,m,a,rfl,_⟩:=h;rfl
 obtain⟨l,ps,g,c,n,m,a,rfl,BD,c6,ac,n3,m1,kq⟩:=h
 have p6:=pow6 c6
 have SL:SqL K H l (ps.map V.ref):=SqL.of BD.lst
 have hlen:(((ps.map V.ref).length:Nat):Int).toNat=2^c:=by rw[q0a,BD.len,q0x]
 refine⟨_,(@Z0e _ _ _ (Z0k (Z3e rfl (LcOk.of (Nc:=["word","board","bit"]) (mp:=[none,some 0,some 1]) (by kernel_rfl)) (Z1v rfl B.range (Z0a (Z0n Z0r rfl B.len q1k (Z0a (pv 0) Z0c)) Z0c)) (λ_ _ _ _=>(Z0t (i:=0) (show (["word","board","bit"]:W0).Nodup by decide +kernel) rfl (Or.inl rfl))) (λ_ _ _ _=>(Z0m eG hr rfl (Z0a (pv 1) (Z0a (pv 0) (Z0a (pv 2) Z0c)))))))),?_⟩
 try dsimp only[cxK]
 refine⟨_,U,l,_,U,.inl SL,_,U,by rw[q0a,BD.len];omega,by rw[q0a,BD.len];omega,λacc hacc=>?_⟩
 rw[hlen]
 refine Z4i (n:=2^c) (fr:=[some (.ref l),some (.int ((2^a:Nat):Int))]) (λi ys H'=>∃ (qs:U3) (y:Nat->A5),Same H H'/\H' acc=some (.lst ys)/\ys=qs.map V.ref/\qs.length=i/\ValsK K H' qs y/\∀ j,j<i->Ok5 (n+2*m+3) (m+1:Nat) (y j)/\MixAt g a j (y j)) (t64 p6)
  ⟨[],λ_=>((0,0,0,0),0),Z0f hacc _,Z0d,U,U,(λ_ _ z=>by cases z),λj hj=>absurd hj (q5r _)⟩ ?_ ?_
 ·rintro i ys H2 N hi hy ⟨qs,y,S2,a2,rfl,ql,v2,ok2⟩ kN
  refine⟨_,U,_,U,_,U,l,ps,g,c,n,m,a,i,(by show [V.ref l,V.int (0+(i:Int)),_]=_;rw[q3x]),BD.same S2,c6,ac,hi,n3,m1,λr H3 z S3 hr3 oz mz=>?_⟩
  refine kN (.ref r) H3 (S3 _ _ a2) ⟨qs++[r],λj=>if j=qs.length then z else y j,Z0v (S2.trans S3) hacc,Z0d,by rw[q0i];rfl,by simp[ql],Z4g (xs:=qs.map V.ref) (Z3g v2 S3 (At5.of hr3)) (S3 _ _ a2),λj hj=>?_⟩
  by_cases e:j=qs.length
  ·show Ok5 _ _ (if j=qs.length then z else y j)/\MixAt g a j (if j=qs.length then z else y j)
   rw[if_pos e,e,ql]
   exact⟨oz,mz⟩
  ·show Ok5 _ _ (if j=qs.length then z else y j)/\MixAt g a j (if j=qs.length then z else y j)
   rw[if_neg e]
   exact ok2 j (by omega)
 ·rintro ys H2 hy ⟨qs,y,S2,a2,rfl,ql,v2,ok2⟩
  exact kq acc H2 qs y hacc S2 ⟨a2,ql,v2,λi hi=>(ok2 i hi).1⟩ λw hw=>(ok2 w hw).2
end
end K76
namespace L2
abbrev Mm:=Str × List Int
noncomputable abbrev mT (m:Mm):HO:=.tup (.str m.1::m.2.map V.int)
def RowsM (H:Hp):List Addr->List Mm->Prop:=Paired λp m=>H p=some (mT m)
theorem RowsM.same {H H':Hp}{ps:U3}{ms:List Mm}(h:RowsM H ps ms)(s:Same H H'):RowsM H' ps ms:=Paired.imp' (λ_ _ c=>s _ _ c) h
section
variable {P:U8}{w:W1}{H:Hp}{h:Heap}
end
section
variable {X:Cx}
end
end L2
namespace L2
theorem X1v:bootBuiltins "reversed"=some (.type "reversed"):=by decide +kernel
def Itv (K:U0)(a:W9)(n:Nat):It :=
 ⟨λi H=>i<n/\∃ xs,SqL K H a xs/\xs.length=n,λi H x H'=>H'=H/\∀ xs,SqL K H a xs->xs[n-1-i]?=some x,λi _=>i=n⟩
theorem Y9k {P:U8}{w:W1}{K:U0}{tg:Expr}(a it:W9)(n:Nat):Turn P w K tg (Itv K a n) [it] it (λi h=>i<=n/\h.IsRevIter it a ((n:Int)-1-(i:Int))) where
 mem:=by simp
 obj:=λi h st b hb=>by
  cases q1a.mp hb
  obtain⟨_,o,e,c,d⟩:=st
  exact⟨o,e,λv z=>by rw[d] at z;cases z⟩
 keep:=λi h h' st k=>⟨st.1,st.2.at λo e=>k it (by simp) o e⟩
 item:=by
  intro X hP hw hK hc i pins s σ H E I hf st hg
  subst hP hw hK
  obtain⟨hi,xs,hq,hn⟩:=hg
  obtain⟨its,rv,p,hz⟩:=I.list hq
  have hlt:n-1-i<xs.length:=by omega
  obtain⟨u,hu,ru⟩:=rv.get (q0d hlt)
  obtain⟨f0,f1,f2,f3,f4,f5⟩:=hf it (by simp)
  have e1:(n:Int)-1-(i:Int)=((n-1-i:Nat):Int):=by omega
  have st2:=st.2
  rw[e1] at st2
  refine wpAny_pyNext_rev_item st2 p.isList (x:=u) (by simpa using hu) λh' st' sb=>?_
  have I1:Inv X pins σ H { s with heap:=h' }:=I.turned (t':=s.toks) (λb o hb e=>(sb.2 b hb).trans e) f0 f1 f3 f4 f5
  rw[show ((n-1-i:Nat):Int)-1=(n:Int)-1-((i+1:Nat):Int) by omega] at st'
  obtain⟨o,e,c,d⟩:=id st'
  refine⟨u,U,X1l (s:={ s with heap:=h' }) e c d (by decide) ⟨xs[n-1-i],H,I1,ru,⟨U,λys hy=>?_⟩,⟨hi,st'⟩,λb hb=>(hf b hb).1⟩⟩
  rw[I.list_inj hy hq]
  exact q0d hlt
 done:=by
  intro X hP hw hK hc i pins s σ H E I hf st hg
  subst hP hw hK
  obtain⟨f0,f1,f2,f3,f4,f5⟩:=hf it (by simp)
  have hi:i=n:=hg
  have st2:=st.2
  rw[hi,show (n:Int)-1-(n:Int)=-1 by omega] at st2
  exact wpAny_pyNext_rev_end (I.ok.hd hc) st2 λh' eb=>⟨U,I.turned (t':=s.toks) (λb o hb e=>eb b o hb e) f0 f1 f3 f4 f5⟩
 self:=λ_ _ _ _ _ st h=>wpAny_pyIter_revIter st.2 h
def iRev (K:U0)(ta:TA):TI:=λσ H R=>ta σ H λvs H1=>∃ (l:W9) (xs:List V),vs=[.ref l]/\SqL K H1 l xs/\R (Itv K l xs.length) H1
theorem X8f {X:Cx}{tg a:Expr}{ta:TA}{p pos:Pos}(hg:Gl X "reversed")(hm:X.mg "reversed"=none)(ha:PA X [a] ta)(hs:starEach [a] X.env=[(false,eval a X.env)]:=by rfl) :
  PI X tg (.Call (.Name "reversed" p) [a] [] pos) (iRev X.K ta):=by
 intro pins s σ H R I h
 refine Call_ (Z6d I hg hm X1v (PyProof.Rows.callWith_type1 (thn (ha pos pins s σ H _ I h) λus s1 ⟨vs,H1,I1,r1,q1⟩=>?_) (by rw[hs];rfl) (by rfl)))
 obtain⟨l,xs,e,h1,q⟩:=q1
 subst e
 cases r1 with
 | cons r rr =>
  cases rr
  cases r
  obtain⟨its,rv,pl,hz⟩:=I1.list h1
  have el:=rv.length
  refine call_reversed_list pl.isList ?_
  have it0:(s1.heap.push (revObj l ((its.toArray.size:Int)-1))).IsRevIter s1.heap.objs.size l ((xs.length:Int)-1-((0:Nat):Int)):=⟨_,q0n _ rfl,U,by rw[q0r,<-el];simp;rfl⟩
  refine wpAny_pyIter_revIter (s:={ s1 with heap:=s1.heap.push (revObj l ((its.toArray.size:Int)-1)) }) it0 ⟨s1.heap.objs.size,[s1.heap.objs.size],_,_,H1,U,I1.kept (t':=s1.toks) λb o e=>q0e _ e,Y9k l _ xs.length,⟨q1o _,it0⟩,λb hb=>?_,q⟩
  cases q1a.mp hb
  exact I1.fpOk (q0l _) (I1.hok.fresh (q0l _))
theorem X9m {K:U0}{a:W9}{xs:List V}{te:TE}{fr:St}{H1:Hp}{acc:W9}{Q:VK}(Pv:Nat->List V->Hp->Prop)(hn:xs.length<=sizeLine)(h0:Pv 0 [] (upd H1 acc (.lst [])))
  (hl:∀ i ys H,Pv i ys H->SqL K H a xs)
  (hs:∀ i x ys H (N:V->Hp->Prop),xs.reverse[i]?=some x->ys.length=i->Pv i ys H->(∀ y H5,H5 acc=some (.lst ys)->Pv (i+1) (ys++[y]) (upd H5 acc (.lst (ys++[y])))->N y H5)->te (some x::fr) H N)
  (hd:∀ ys H,ys.length=xs.length->Pv xs.length ys H->Q (.ref acc) H) :
  LcW (Itv K a xs.length) (gName 0) te (none::fr) H1 acc Q:=by
 have rv:∀ i,i<xs.length->xs.reverse[i]?=some (xs.getD (xs.length-1-i) .non)/\xs[xs.length-1-i]?=some (xs.getD (xs.length-1-i) .non):=λi hi=>by
  have hj:xs.length-1-i<xs.length:=by omega
  have e:xs[xs.length-1-i]?=some (xs.getD (xs.length-1-i) .non):=by rw[q0b,q0d hj];rfl
  exact⟨by rw[q6c hi];exact e,e⟩
 refine X1d (J:=Itv K a xs.length) (n:=xs.length) (val:=λi=>xs.getD (xs.length-1-i) .non) Pv hn h0 (λi ys H hi p=>⟨⟨hi,xs,hl i ys H p,U⟩,λx H' y=>⟨y.1,?_⟩⟩) (λys H p=>rfl) (λi ys H N hi hy p kN=>hs i _ ys H N (rv i hi).1 hy p kN) hd
 have:=y.2 xs (hl i ys H p)
 rw[(rv i hi).2] at this
 exact(Option.some.inj this).symm
end L2
namespace K76
open L2 Am Pc Ba
theorem Z8e {x h y g N:Int}(hh:0<=h)(hg:0<=g)(h1:h<=N)(h2:g<=N):Eq2 x h y g ↔ x*p2 (N-h)=y*p2 (N-g):=by
 unfold Eq2
 have e1:=Z6c hh h1
 have e2:=Z6c hg h2
 have n1:=Z9w h
 have n2:=Z9w g
 have n3:=Z9w (N-h)
 have n4:=Z9w (N-g)
 have n5:=Z9w N
 constructor
 ·intro z
  have:(x*p2 (N-h))*(p2 h*p2 g)=(y*p2 (N-g))*(p2 h*p2 g):=by
   have a1:(x*p2 (N-h))*(p2 h*p2 g)=(x*p2 g)*p2 N:=by rw[e1];grind
   have a2:(y*p2 (N-g))*(p2 h*p2 g)=(y*p2 h)*p2 N:=by rw[e2];grind
   rw[a1,a2,z]
  exact q3s (Int.mul_ne_zero n1 n2) this
 ·intro z
  have:(x*p2 g)*p2 N=(y*p2 h)*p2 N:=by
   have a1:(x*p2 (N-h))*(p2 h*p2 g)=(x*p2 g)*p2 N:=by rw[e1];grind
   have a2:(y*p2 (N-g))*(p2 h*p2 g)=(y*p2 h)*p2 N:=by rw[e2];grind
   rw[<-a1,<-a2,z]
  exact q3s n5 this
noncomputable def va (x:A5)(M:Int):Int:=x.1.1*p2 (M-x.2)
noncomputable def vb (x:A5)(M:Int):Int:=x.1.2.1*p2 (M-x.2)
noncomputable def vc (x:A5)(M:Int):Int:=x.1.2.2.1*p2 (M-x.2)
noncomputable def vd (x:A5)(M:Int):Int:=x.1.2.2.2*p2 (M-x.2)
theorem Z8i {a a' u h h' g M:Int}(h0:0<=h)(h0':0<=h')(g0:0<=g)(l1:h+h'<=M)(l2:g<=M)(e:Eq2 (a*p2 h'+a'*p2 h) (h+h') u g):u*p2 (M-g)=a*p2 (M-h)+a'*p2 (M-h'):=by
 have z:=(Z8e (by omega) g0 l1 l2).mp e
 have e1:p2 (M-h)=p2 (M-(h+h'))*p2 h':=by rw[<-Y3a (by omega) h0'];congr 1;omega
 have e2:p2 (M-h')=p2 (M-(h+h'))*p2 h:=by rw[<-Y3a (by omega) h0];congr 1;omega
 rw[<-z,e1,e2]
 grind
theorem Z6i {u v h g M:Int}(h0:0<=h)(g0:0<=g)(l1:h<=M)(l2:g<=M+1)(e:Eq2 u (h+1) v g):v*p2 (M+1-g)=u*p2 (M-h):=by
 have z:=(Z8e (N:=M+1) (by omega) g0 (by omega) l2).mp e
 rw[<-z]
 congr 2
 omega
theorem Mix.vals {s:Int}{x y z:A5}(m:Mix s x y z)(hx:0<=x.2)(hy:0<=y.2):∃ M0:Int,∀ M,M0<=M →
  va z (M+1)=(vb x M+s*vb y M)-(vd x M+s*vd y M)/\vb z (M+1)=(va x M+s*va y M)+(vc x M+s*vc y M)/\vc z (M+1)=(vb x M+s*vb y M)+(vd x M+s*vd y M)/\vd z (M+1)=(vc x M+s*vc y M)-(va x M+s*va y M):=by
 obtain⟨p,S,az,R⟩:=m.ex
 have p0:=S.amt.nn
 have z0:=az.nn
 refine⟨x.2+y.2+p.2+z.2,λM hM=>?_⟩
 have l1:x.2+y.2<=M:=by omega
 have l2:p.2<=M:=by omega
 have l3:z.2<=M+1:=by omega
 have a1:=Z8i hx hy p0 l1 l2 S.same.e1
 have a2:=Z8i hx hy p0 l1 l2 S.same.e2
 have a3:=Z8i hx hy p0 l1 l2 S.same.e3
 have a4:=Z8i hx hy p0 l1 l2 S.same.e4
 have r1:=Z6i p0 z0 l2 l3 R.e1
 have r2:=Z6i p0 z0 l2 l3 R.e2
 have r3:=Z6i p0 z0 l2 l3 R.e3
 have r4:=Z6i p0 z0 l2 l3 R.e4
 unfold va vb vc vd
 rw[r1,r2,r3,r4,Int.sub_mul,Int.add_mul,Int.add_mul,Int.sub_mul,a1,a2,a3,a4]
 refine⟨?_,?_,?_,?_⟩<;>grind
theorem Y9h {x y:A5}{M:Int}(ax:Amt x.1.1 x.1.2.1 x.1.2.2.1 x.1.2.2.2 x.2)(ay:Amt y.1.1 y.1.2.1 y.1.2.2.1 y.1.2.2.2 y.2)(l1:x.2<=M)(l2:y.2<=M)(e1:va x M=va y M)(e2:vb x M=vb y M)(e3:vc x M=vc y M)(e4:vd x M=vd y M):x=y :=
 W1f (ax.unique ay ⟨(Z8e ax.nn ay.nn l1 l2).mpr e1,(Z8e ax.nn ay.nn l1 l2).mpr e2,(Z8e ax.nn ay.nn l1 l2).mpr e3,(Z8e ax.nn ay.nn l1 l2).mpr e4⟩)
theorem Mix.amt {s:Int}{x y z:A5}(m:Mix s x y z):Amt z.1.1 z.1.2.1 z.1.2.2.1 z.1.2.2.2 z.2:=by
 obtain⟨p,_,az,_⟩:=m.ex
 exact az
inductive Gm where
 | mv (v:Mv)
 | mix (a:Nat)
namespace Gm
noncomputable def nm:Gm->Str
 | mv v=>v.nm
 | mix _=>"mix"
noncomputable def ns:Gm->List Int
 | mv v=>v.ns
 | mix a=>[(a:Int)]
def Ok (c:Nat):Gm->Prop
 | mv v=>v.Ok c
 | mix a=>a<c
noncomputable abbrev mm (m:Gm):Mm:=(m.nm,m.ns)
end Gm
def Step (c:Nat):Gm->(Nat->A5)->(Nat->A5)->Prop
 | .mv v,f,g=>∀ w,w<2^c->g w=spin (f (v.to w)) (v.sp w:Nat)
 | .mix a,f,g=>∀ w,w<2^c->MixAt f a w (g w)
inductive Steps (c:Nat):List Gm->(Nat->A5)->(Nat->A5)->Prop
 | nil {f:Nat->A5}:Steps c [] f f
 | cons {m:Gm}{ms:List Gm}{f g h:Nat->A5}:Step c m f g->Steps c ms g h->Steps c (m::ms) f h
theorem Steps.snoc {c:Nat}:∀ {a:List Gm}{m:Gm}{f g h:Nat->A5},Steps c a f g->Step c m g h->Steps c (a++[m]) f h
 | _,_,_,_,_,.nil,s=>.cons s .nil
 | _,_,_,_,_,.cons s t,r=>.cons s (Steps.snoc t r)
abbrev Ams (c:Nat)(f:Nat->A5):Prop:=∀ w,w<2^c->Amt (f w).1.1 (f w).1.2.1 (f w).1.2.2.1 (f w).1.2.2.2 (f w).2
theorem Y9d {v:Int × Int × Int × Int}{h:Int}(o:Amt v.1 v.2.1 v.2.2.1 v.2.2.2 h):∀ k,Amt (rot k v).1 (rot k v).2.1 (rot k v).2.2.1 (rot k v).2.2.2 h
 | 0=>o
 | k+1=>by
  have:=Y9d o k
  refine⟨this.nn,?_⟩
  have o:h=0∨(rot k v).1%2=1∨(rot k v).2.1%2=1∨(rot k v).2.2.1%2=1∨(rot k v).2.2.2%2=1:=this.odd
  show h=0∨(-(rot k v).2.2.2)%2=1∨(rot k v).1%2=1∨(rot k v).2.1%2=1∨(rot k v).2.2.1%2=1
  omega
theorem Step.ams {c:Nat}{m:Gm}{f g:Nat->A5}(hc:c<=6)(ok:m.Ok c)(s:Step c m f g)(a:Ams c f):Ams c g:=by
 intro w hw
 cases m with
 | mv v =>
  have e:g w=spin (f (v.to w)) (v.sp w:Nat):=s w hw
  rw[e]
  exact Y9d (a _ (Mv.to_lt hc ok hw)) _
 | mix a =>
  have e:MixAt f a w (g w):=s w hw
  unfold MixAt at e
  split at e
  ·exact e.amt
  ·exact e.amt
theorem Gm.fits {m:Gm}{c:Nat}(h:m.Ok c):Fits m.nm m.ns c:=by
 cases m with
 | mv v=>exact Mv.fits h
 | mix a =>
  have e:named "mix" [(a:Int)]=[(a:Int)]:=by unfold named;rw[if_neg (by decide +kernel)]
  have h:a<c:=h
  exact⟨⟨(show numAt NB "mix"=some (.int ((1:Nat):Int)) by decide +kernel),(show 1<=3 by decide),λz=>absurd (show ("mix":Str)="turn" from z) (by decide +kernel)⟩,by show ∀ x∈named "mix" [(a:Int)],_;rw[e];intro b hb;rw[q1a.mp hb];omega,by show (named "mix" [(a:Int)]).Nodup;rw[e];simp⟩
theorem Z5e {n:Nat}{M:Int}{x:A5}{k:Int}(o:Ok5 n M x):Ok5 n M (spin x k):=X2t o _
theorem Bd5.bo {K:U0}{H:Hp}{l:W9}{ps:U3}{f:Nat->A5}{c n m:Nat}(b:Bd5 K H l ps f c n m):Bo K H l ps f c:=⟨b.lst,b.len,b.vals⟩
def Z9j (K:U0):Sp:=λvs H Q _=>∃ (l p:W9) (ps:U3) (f:Nat->A5) (c n M:Nat) (m:Gm),vs=[.ref l,.ref p]/\H p=some (MvT m.nm m.ns)/\m.Ok c/\Bd5 K H l ps f c n M/\c<=6/\n<=450000/\M<=10000 ∧
 ∀ (r:W9) (H':Hp) (qs:U3) (g:Nat->A5),H r=none->Same H H'->Bd5 K H' r qs g c (n+2*M+3) (M+1)->Step c m f g->Q (.ref r) H'
section
variable {P:U8}{w:W1}{K:U0}{mg:U4}{base:Heap}{k:Nat}{h:Heap}
theorem sc_turned:FnScope ["board","move"] ["board","move"] (Z0h (top 43)):=fS
theorem Y7b (F:FunAt K "turned" (top 43) .none)(X:K.In h)(G:Ng h mg)(B:Bs mg)(dQ:Cal P w K mg base k "check_move" ["move","cells"] Y5u)(eD:Cal P w K mg base k "cells_of" ["board"] (Z9p K))(eW:Cal P w K mg base k "mixed" ["board","bit"] (Y2q K))(cU:Cal P w K mg base k "spun_where" ["board","bits","k"] (Y2m K))
  (dM:Cal P w K mg base k "word_behind" ["word","move"] Y2v):Cal P w K mg base (k+1) "turned" ["board","move"] (Z9j K):=by
 have nd:=sc_turned.nd
 refine F.cal X G sc_turned (bnd2 λ_ _ _ _ _ _ _ _=>rfl) (λvs H Q E h=>?_) (λf cdv A outer s H vs Q E hr h=>?_)
 ·obtain⟨l,p,ps,f,c,n,M,m,rfl,_⟩:=h;rfl
 obtain⟨l,p,ps,g,c,n,M,m,rfl,hp,ok,BD,c6,n4,m1,kq0⟩:=h
 have p6:=pow6 c6
 have BO:=BD.bo
 have ip:∀ a:Nat,(1:Int)*2^((a:Int)).toNat=((2^a:Nat):Int):=λa=>ipow a
 refine⟨_,(@Z0g _ _ _ _ _ (Z2x (Z0m dQ hr rfl (Z0a (pv 1) (Z0a (Z0m eD hr rfl (Z0a (pv 0) Z0c)) Z0c))))
  (@Z0g _ _ _ _ _ (Z0w (Z0p Z1m (Z0l Z0i (pv 1) Z0b (λ_ _=>rfl)) Z0y (nomark _))
   (@Z0e _ _ _ (Z0k (Z0m eW hr rfl (Z0a (pv 0) (Z0a (Z0j Z1j Z0b (Z0l Z0i (pv 1) Z0b (λ_ _=>rfl))) Z0c)))))
   Z0o)
  (@Z0g _ _ _ _ _ (Z0w (Z0p Z1m (Z0l Z0i (pv 1) Z0b (λ_ _=>rfl)) Z0y (nomark _))
   (@Z0e _ _ _ (Z0k (Z0m cU hr rfl (Z0a (pv 0) (Z0a (Z0j Z1j Z0b (Z0l Z0i (pv 1) Z0b (λ_ _=>rfl))) (Z0a (Z0l Z0i (pv 1) Z0b (λ_ _=>rfl)) Z0c))))))
   Z0o)
  (@Z0g _ _ _ _ _ (Z0w (Z0p Z1m (Z0l Z0i (pv 1) Z0b (λ_ _=>rfl)) Z0y (nomark _))
   (@Z0e _ _ _ (Z0k (Z0m cU hr rfl (Z0a (pv 0) (Z0a (Z0j Z8q (Z0j Z1j Z0b (Z0l Z0i (pv 1) Z0b (λ_ _=>rfl))) (Z0j Z1j Z0b (Z0l Z0i (pv 1) Z0b (λ_ _=>rfl)))) (Z0a Z0b Z0c))))))
   Z0o)
  (@Z0e _ _ _ (Z0k (Z3e rfl (LcOk.of (Nc:=["word","board","move"]) (mp:=[none,some 0,some 1]) (by kernel_rfl)) (Z1v rfl B.range (Z0a (Z0n Z0r rfl B.len q1k (Z0a (pv 0) Z0c)) Z0c)) (λ_ _ _ _=>(Z0t (i:=0) (show (["word","board","move"]:W0).Nodup by decide +kernel) rfl (Or.inl rfl))) (λ_ _ _ _=>(Z0l Y3m (pv 1) (Z0m dM hr rfl (Z0a (pv 0) (Z0a (pv 2) Z0c))) (λ_ _=>rfl)))))))))),?_⟩
 try dsimp only[cxK]
 refine⟨_,U,_,U,l,_,c,U,SqL.of BO.lst,by rw[q0a,BO.len],c6,p,m.nm,m.ns,c,U,hp,Gm.fits ok,λH1 S1=>?_⟩
 have SP:SqT K H1 p (.str m.nm::m.ns.map V.int):=SqT.of (S1 _ _ hp)
 have B1:=BO.same S1
 have BD1:=BD.same S1
 cases m with
 | mix a =>
  have ac:a<c:=ok
  refine⟨_,U,p,_,_,.str "mix",U,U,SP,at0,U,_,U,decI (λ_=>?_) (λz=>absurd rfl z)⟩
  refine⟨_,U,_,U,p,_,_,.int a,U,U,SP,U,_,_,U,U,⟨1,sz1,by omega,by omega⟩,?_⟩
  exact⟨l,ps,g,c,n,M,a,congrArg (λz=>[V.ref l,V.int z]) (ip a),BD1,c6,ac,n4,m1,λr H2 qs y hr2 S2 B2 M2=>kq0 r H2 qs y (S1.free hr2) (S1.trans S2) B2 M2⟩
 | mv v =>
 have SP:SqT K H1 p (.str v.nm::v.ns.map V.int):=SP
 have ok:v.Ok c:=ok
 have hp:H p=some (MvT v.nm v.ns):=hp
 have kq:∀ (r:W9) (H':Hp) (qs:U3) (y:Nat->A5),H r=none->Same H H'->Bo K H' r qs y c->(∀ w,w<2^c->y w=spin (g (v.to w)) (v.sp w:Nat))->Q (.ref r) H':=λr H' qs y h1 h2 h3 h4 =>
  kq0 r H' qs y h1 h2 ⟨h3.lst,h3.len,h3.vals,λi hi=>by rw[h4 i hi];exact(Z5e (BD.ok _ (Mv.to_lt c6 ok hi))).mono (by omega) (by omega)⟩ h4
 refine⟨_,U,p,_,_,.str v.nm,U,U,SP,at0,U,_,U,decI (λz=>absurd (V.str.inj z) (X5l v)) (λ_=>?_)⟩
 refine⟨_,U,p,_,_,.str v.nm,U,U,SP,at0,U,_,U,decI (λz=>?_) (λzt=>?_)⟩
 ·obtain⟨a,kk,rfl⟩:=X5n (V.str.inj z)
  have ok:a<c/\1<=kk/\kk<=7:=ok
  refine⟨_,U,_,U,p,_,_,.int a,U,U,SP,U,_,_,U,U,⟨1,sz1,by omega,by omega⟩,_,U,p,_,_,.int kk,U,U,SP,U,?_⟩
  refine⟨l,ps,g,c,2^a,kk,(by show [V.ref l,V.int (1*2^((a:Int)).toNat),V.int (kk:Int)]=_;rw[ip]),B1,c6,λr H2 qs y hr2 S2 B2 M2=>kq r H2 qs y (S1.free hr2) (S1.trans S2) B2 λw hw=>?_⟩
  rw[M2 w hw]
  show _=spin (g w) ((if w&&&2^a=2^a then kk else 0:Nat):Int)
  split
  ·rfl
  ·rfl
 refine⟨_,U,p,_,_,.str v.nm,U,U,SP,at0,U,_,U,decI (λz=>?_) (λzp=>?_)⟩
 ·obtain⟨a,b,rfl⟩:=X5o (V.str.inj z)
  have ok:a<c/\b<c/\a≠b:=ok
  refine⟨_,U,_,U,p,_,_,.int a,U,U,SP,U,_,_,U,U,⟨1,sz1,by omega,by omega⟩,_,U,p,_,_,.int b,U,U,SP,U,_,_,U,U,⟨1,sz1,by omega,by omega⟩,_,_,U,U,?_⟩
  refine⟨l,ps,g,c,2^a ||| 2^b,4,(by show [V.ref l,V.int (Builtin.bitOr (1*2^((a:Int)).toNat) (1*2^((b:Int)).toNat)),V.int 4]=_;rw[ip,ip,or_i]),B1,c6,λr H2 qs y hr2 S2 B2 M2=>kq r H2 qs y (S1.free hr2) (S1.trans S2) B2 λw hw=>?_⟩
  rw[M2 w hw]
  show _=spin (g w) ((if w&&&(2^a ||| 2^b)=(2^a ||| 2^b) then 4 else 0:Nat):Int)
  split
  ·rfl
  ·rfl
 have nt:v.nm≠"turn":=λe=>zt (by rw[e])
 have np:v.nm≠"pair":=λe=>zp (by rw[e])
 have hlen:(((ps.map V.ref).length:Nat):Int).toNat=2^c:=by rw[q0a,BO.len,q0x]
 have SL:SqL K H1 l (ps.map V.ref):=SqL.of B1.lst
 refine⟨_,U,l,_,U,.inl SL,_,U,by rw[q0a,BO.len];omega,by rw[q0a,BO.len];omega,λacc hacc=>?_⟩
 rw[hlen]
 refine Z4i (n:=2^c) (fr:=[some (.ref l),some (.ref p)]) (λi ys H'=>∃ (qs:U3) (y:Nat->A5),Same H1 H'/\H' acc=some (.lst ys)/\ys=qs.map V.ref/\qs.length=i/\ValsK K H' qs y/\∀ j,j<i->y j=g (v.to j)) (t64 p6)
  ⟨[],λ_=>((0,0,0,0),0),Z0f hacc _,Z0d,U,U,(λ_ _ z=>by cases z),λj hj=>absurd hj (q5r _)⟩ ?_ ?_
 ·rintro i ys H2 N hi hy ⟨qs,y,S2,a2,rfl,ql,v2,ok2⟩ kN
  refine⟨_,U,_,U,_,U,i,p,v,c,(by show [V.int (0+(i:Int)),V.ref p]=_;rw[q3x]),S2 _ _ (S1 _ _ hp),ok,c6,nt,np,λH3 S3=>?_⟩
  obtain⟨q,_,hq,aq⟩:=((B1.same S2).same S3).at (Mv.to_lt c6 ok hi)
  refine⟨l,_,_,_,U,U,SqL.of (S3 _ _ (S2 _ _ B1.lst)),aq,?_⟩
  refine kN (.ref q) H3 (S3 _ _ a2) ⟨qs++[q],λj=>if j=qs.length then g (v.to i) else y j,Z0v (S2.trans S3) hacc,Z0d,by rw[q0i];rfl,by simp[ql],Z4g (xs:=qs.map V.ref) (Z3g v2 S3 hq) (S3 _ _ a2),λj hj=>?_⟩
  show (if j=qs.length then g (v.to i) else y j)=_
  by_cases e:j=qs.length
  ·rw[if_pos e,e,ql]
  ·rw[if_neg e]
   exact ok2 j (by omega)
 ·rintro ys H2 hy ⟨qs,y,S2,a2,rfl,ql,v2,ok2⟩
  refine kq acc H2 qs y (S1.free hacc) (S1.trans S2) ⟨a2,ql,v2⟩ λw hw=>?_
  rw[ok2 w hw,X4a nt np w]
  rfl
def Mvs (H:Hp)(ps:U3)(ms:List Gm):Prop:=RowsM H ps (ms.map Gm.mm)
theorem Mvs.same {H H':Hp}{ps:U3}{ms:List Gm}(h:Mvs H ps ms)(s:Same H H'):Mvs H' ps ms:=RowsM.same h s
theorem Mvs.length {H:Hp}{ps:U3}{ms:List Gm}(h:Mvs H ps ms):ps.length=ms.length:=by
 have:=Paired.length h
 rw[q0a] at this
 exact this
theorem Mvs.get {H:Hp}:∀ {ps:U3}{ms:List Gm}{i:Nat}{p:W9},Mvs H ps ms->ps[i]?=some p->∃ m,ms[i]?=some m/\H p=some (MvT m.nm m.ns)
 | p'::ps,m::ms,0,p,.cons a r,h=>by
  have:p'=p:=by simpa using h
  subst this
  exact⟨m,U,a⟩
 | p'::ps,m::ms,i+1,p,.cons a r,h=>by
  obtain⟨m',b,c⟩:=Mvs.get (ps:=ps) (ms:=ms) (i:=i) (p:=p) r (by simpa using h)
  exact⟨m',b,c⟩
structure Rw (H:Hp) (l:W9) (ps:U3) (ms:List Gm) (c:Nat):Prop where
 lst:H l=some (.lst (ps.map V.ref))
 mvs:Mvs H ps ms
 ok:∀ m∈ms,m.Ok c
 len:ms.length<=200
theorem Rw.same {H H':Hp}{l:W9}{ps:U3}{ms:List Gm}{c:Nat}(r:Rw H l ps ms c)(s:Same H H'):Rw H' l ps ms c:=⟨s _ _ r.lst,r.mvs.same s,r.ok,r.len⟩
def spRunK (K:U0):Sp:=λvs H Q _=>∃ (l lr:W9) (ps rp:U3) (f:Nat->A5) (c n M:Nat) (ms:List Gm),vs=[.ref l,.ref lr]/\Rw H lr rp ms c/\Bd5 K H l ps f c n M/\c<=6/\M<=300/\n<=210000 ∧
 ∀ (r:W9) (H':Hp) (qs:U3) (g:Nat->A5),H r=none->Same H H'->Bd5 K H' r qs g c (n+1010*ms.length) (M+ms.length)->Steps c ms f g->Q (.ref r) H'
theorem sc_run:FnScope ["board","row","behind","move"] ["board","row"] (Z0h (top 78)):=fS
theorem X8s (F:FunAt K "run" (top 78) .none)(X:K.In h)(G:Ng h mg)(B:Bs mg)(eT:Cal P w K mg base k "turned" ["board","move"] (Z9j K)):Cal P w K mg base (k+1) "run" ["board","row"] (spRunK K):=by
 have nd:=sc_run.nd
 refine F.cal X G sc_run (bnd2 λ_ _ _ _ _ _ _ _=>rfl) (λvs H Q E h=>?_) (λf cdv A outer s H vs Q E hr h=>?_)
 ·obtain⟨l,lr,ps,rp,f,c,n,M,ms,rfl,_⟩:=h;rfl
 obtain⟨l,lr,ps,rp,g,c,n,M,ms,rfl,RW,BD,c6,M3,n2,kq⟩:=h
 have l200:=RW.len
 have lps:=RW.mvs.length
 have SR:SqL K H lr (rp.map V.ref):=SqL.of RW.lst
 refine⟨_,(@Z0g _ _ _ _ _ (@Z0q _ _ 2 _ _ _ _ nd rfl (Or.inl rfl) (Z3z Z6f rfl B.list q6x (Z0a (pv 0) Z0c)) rfl (.inl rfl))
  (@Z0g _ _ _ _ _ (Z2w PassesOwn.never rfl (Z1p (pv 1)) (Z0t (i:=3) nd rfl (Or.inl rfl))
   (@Z0e _ _ _ (@Z0q _ _ 2 _ _ _ _ nd rfl (Or.inl rfl) (Z0m eT hr rfl (Z0a (pv 2) (Z0a (pv 3) Z0c))) rfl (.inl rfl))))
  (@Z0e _ _ _ (Z0k (pv 2))))),?_⟩
 try dsimp only[cxK]
 refine⟨_,U,l,_,U,.inl (SqL.of BD.lst),λb0 hb0=>?_⟩
 have s0:=Z0f hb0 (.lst (ps.map V.ref))
 refine⟨_,U,lr,U,⟨_,s0.seq SR⟩,Z3d (K:=K) (a:=lr) (xs:=rp.map V.ref) (λi σ H'=>Same H H'/\∃ (b:W9) (qs:U3) (y:Nat->A5) (v3:Option V),H b=none/\Bd5 K H' b qs y c (n+1010*i) (M+i)/\Steps c (ms.take i) g y/\σ=[some (.ref l),some (.ref lr),some (.ref b),v3])
  ⟨s0,b0,ps,g,none,hb0,⟨Z0d,BD.len,BD.vals.same s0,BD.ok⟩,by rw[q5b];exact .nil,U⟩ (λi σ H' _ e=>e.1.seq SR) ?_ ?_⟩
 ·rintro i x σ H1 hx ⟨S1,b,qs,y,v3,hb,B1,ST,rfl⟩
  have ilt:i<ms.length:=by
   have:=(q0o.mp hx).1
   rw[q0a] at this
   omega
  rw[q0g] at hx
  obtain⟨p,hp,rfl⟩:=q0p.mp hx
  obtain⟨m,hm,p0⟩:=RW.mvs.get hp
  refine⟨_,U,_,U,b,p,qs,y,c,_,_,m,U,S1 _ _ p0,RW.ok m (q1g hm),B1,c6,by omega,by omega,λr H2 rs z hr S2 B2 st=>?_⟩
  refine⟨S1.trans S2,r,rs,z,_,S1.free hr,⟨B2.lst,B2.len,B2.vals,λj hj=>(B2.ok j hj).mono (by omega) (by omega)⟩,?_,U⟩
  rw[q1s,hm]
  exact ST.snoc st
 ·rintro σ H1 ⟨S1,b,qs,y,v3,hb,B1,ST,rfl⟩
  rw[q0a,lps] at B1 ST
  rw[q2e] at ST
  exact⟨_,U,kq b H1 qs y hb S1 B1 ST⟩
end
end K76
namespace M71
inductive Mv where
 | flip (a:Int)
 | mix (a:Int)
 | turn (a k:Int)
 | iff (a b:Int)
 | pair (a b:Int)
 | swap (a b:Int)
 | cross (a b d:Int)
deriving DecidableEq
namespace Mv
noncomputable def cells:Mv->List Int
 | flip a=>[a]
 | mix a=>[a]
 | turn a _=>[a]
 | iff a b=>[a,b]
 | pair a b=>[a,b]
 | swap a b=>[a,b]
 | cross a b d=>[a,b,d]
end Mv
open Mv
end M71
set_option maxHeartbeats 1000000
namespace M72
open M71 M71.Mv
abbrev V4:=Int × Int × Int × Int
noncomputable def add (x y:V4):V4:=(x.1+y.1,x.2.1+y.2.1,x.2.2.1+y.2.2.1,x.2.2.2+y.2.2.2)
noncomputable def sm (n:Int)(x:V4):V4:=(n*x.1,n*x.2.1,n*x.2.2.1,n*x.2.2.2)
noncomputable def E (x:V4):V4:=(-x.2.2.2,x.1,x.2.1,x.2.2.1)
noncomputable def En:Nat->V4->V4
 | 0,x=>x
 | n+1,x=>E (En n x)
noncomputable def root (x:V4):V4:=(x.2.1-x.2.2.2,x.1+x.2.2.1,x.2.1+x.2.2.2,x.2.2.1-x.1)
theorem ext {x y:V4}(h1:x.1=y.1)(h2:x.2.1=y.2.1)(h3:x.2.2.1=y.2.2.1)(h4:x.2.2.2=y.2.2.2):x=y:=by
 obtain⟨a,b,c,d⟩:=x
 obtain⟨a',b',c',d'⟩:=y
 simp only at h1 h2 h3 h4
 rw[h1,h2,h3,h4]
theorem W2z (x y:V4):E (add x y)=add (E x) (E y):=by apply ext<;>simp only[E,add]<;>omega
theorem E_sm (n:Int)(x:V4):E (sm n x)=sm n (E x):=by apply ext<;>simp only[E,sm]<;>grind
theorem W1i (x:V4):E (root x)=root (E x):=by apply ext<;>simp only[E,root]<;>omega
theorem X4c (m n:Int)(x:V4):sm m (sm n x)=sm (m*n) x:=by apply ext<;>simp only[sm]<;>grind
theorem Y6a (x:V4):sm 1 x=x:=by apply ext<;>simp only[sm]<;>omega
theorem add_comm (x y:V4):add x y=add y x:=by apply ext<;>simp only[add]<;>omega
theorem W1h (n:Nat)(x y:V4):En n (add x y)=add (En n x) (En n y):=by
 induction n with
 | zero=>rfl
 | succ n ih=>simp only[En,ih,W2z]
theorem W1g (n:Nat)(k:Int)(x:V4):En n (sm k x)=sm k (En n x):=by
 induction n with
 | zero=>rfl
 | succ n ih=>simp only[En,ih,E_sm]
theorem X7a (n:Nat)(x:V4):En n (root x)=root (En n x):=by
 induction n with
 | zero=>rfl
 | succ n ih=>simp only[En,ih,W1i]
theorem X2a (m n:Nat)(x:V4):En m (En n x)=En (m+n) x:=by
 induction m with
 | zero=>rw[q4f];rfl
 | succ m ih=>rw[Nat.succ_add];simp only[En,ih]
theorem En4 (x:V4):En 4 x=sm (-1) x:=by apply ext<;>simp only[En,E,sm]<;>omega
theorem En8 (x:V4):En 8 x=x:=by apply ext<;>simp only[En,E]<;>omega
theorem X3m (n:Nat)(x:V4):En n x=En (n%8) x:=by
 have:∀ q r,En (8*q+r) x=En r x:=by
  intro q r
  induction q with
  | zero=>rw[q8u,q4f]
  | succ q ih=>rw[show 8*(q+1)+r=8+(8*q+r) by omega,<-X2a 8,En8,ih]
 conv=>lhs;rw[<-Nat.div_add_mod n 8]
 exact this _ _
noncomputable def fl (w a:Nat):Nat:=w^^^2^a
noncomputable def sw (w a b:Nat):Nat:=if w.testBit a=w.testBit b then w else fl (fl w a) b
theorem Y3y (w a j:Nat):(fl w a).testBit j=(w.testBit j ^^ decide (a=j)):=by
 unfold fl
 rw[q1d,q2a]
theorem Y0h (w a:Nat):fl (fl w a) a=w:=by
 unfold fl
 rw[q1z,q3v,q8s]
theorem Z2p (w a b j:Nat)(h:a≠b):(sw w a b).testBit j=if j=a then w.testBit b else if j=b then w.testBit a else w.testBit j:=by
 unfold sw
 by_cases e:w.testBit a=w.testBit b
 ·rw[if_pos e]
  split
  ·rename_i z;rw[z,e]
  ·split
   ·rename_i z;rw[z,e]
   ·rfl
 ·rw[if_neg e,Y3y,Y3y]
  by_cases ja:j=a
  ·rw[if_pos ja,ja,q0q rfl,q0k (λz=>h z.symm)]
   revert e
   cases w.testBit a<;>cases w.testBit b<;>simp
  ·rw[if_neg ja]
   by_cases jb:j=b
   ·rw[if_pos jb,jb,q0q (rfl:b=b),q0k h]
    revert e
    cases w.testBit a<;>cases w.testBit b<;>simp
   ·rw[if_neg jb,q0k (λz=>ja z.symm),q0k (λz=>jb z.symm)]
    simp
theorem Z6h {w v:Nat}(h:∀ j,w.testBit j=v.testBit j):w=v:=q1w h
noncomputable def to:Mv->Nat->Nat
 | .flip a,w=>fl w a.toNat
 | iff a b,w=>if w.testBit a.toNat then fl w b.toNat else w
 | swap a b,w=>sw w a.toNat b.toNat
 | cross a b d,w=>if w.testBit a.toNat then sw w b.toNat d.toNat else w
 | _,w=>w
noncomputable def sp:Mv->Nat->Nat
 | turn a k,w=>if w.testBit a.toNat then k.toNat else 0
 | pair a b,w=>if w.testBit a.toNat && w.testBit b.toNat then 4 else 0
 | _,_=>0
noncomputable def sg (w a:Nat):Int:=if w.testBit a then -1 else 1
abbrev Bv:=Nat->V4
noncomputable def op:Mv->Bv->Bv
 | mix a,F=>λw=>root (add (sm (sg w a.toNat) (F w)) (F (fl w a.toNat)))
 | m,F=>λw=>sm 2 (En (sp m w) (F (to m w)))
def Ok:Mv->Prop
 | .flip a=>0<=a
 | mix a=>0<=a
 | turn a k=>0<=a/\1<=k/\k<=7
 | iff a b=>0<=a/\0<=b/\a≠b
 | pair a b=>0<=a/\0<=b/\a≠b
 | swap a b=>0<=a/\0<=b/\a≠b
 | cross a b d=>0<=a/\0<=b/\0<=d/\a≠b/\a≠d/\b≠d
noncomputable def isMix:Mv->Bool
 | mix _=>true
 | _=>false
theorem Y6y {m:Mv}(h:isMix m=false)(F:Bv)(w:Nat):op m F w=sm 2 (En (sp m w) (F (to m w))):=by
 cases m<;>first | rfl | cases h
theorem Ok.nn {m:Mv}(ok:Ok m):∀ c∈m.cells,0<=c:=by
 cases m<;>simp only[Ok,cells] at*<;> simp<;>omega
end M72
namespace M75
open M71 M71.Mv M72 Pc
noncomputable def bn (b:Bool):Nat:=if b then 1 else 0
noncomputable def bp (x:Nat):Bool:=decide (pc x%2=1)
theorem Y8y (x y:Nat):bp (x^^^y)=(bp x ^^ bp y):=by
 unfold bp
 have:=pcx x y
 have c:pc (x^^^y)%2=(pc x%2+pc y%2)%2:=by omega
 rw[c]
 rcases q0z (pc x) with a | a<;>rcases q0z (pc y) with b | b<;>rw[a,b]<;>rfl
theorem X2r (a:Nat):pc (2^a)=1:=by
 induction a with
 | zero=>decide +kernel
 | succ n ih =>
  have h0:(2:Nat)^(n+1)≠0:=q3o (q0w _)
  unfold pc
  rw[dif_neg h0,q3n,Nat.mul_mod_left,Nat.mul_div_cancel _ (by decide),ih]
theorem Y1z:bp 0=false:=by decide +kernel
theorem Y8z (s a:Nat):bp (2^a&&&s)=s.testBit a:=by
 have e:(2^a&&&s)=if s.testBit a then 2^a else 0:=by
  apply q1w
  intro j
  rw[q2f,q2a]
  by_cases h:a=j
  ·subst h
   cases hb:s.testBit a<;>simp
  ·cases hb:s.testBit a<;>simp[h,q2a]
 rw[e]
 cases s.testBit a
 ·exact Y1z
 ·show bp (2^a)=true
  unfold bp
  rw[X2r]
  rfl
theorem Z3k (x s a:Nat):bp (fl x a&&&s)=(bp (x&&&s) ^^ s.testBit a):=by
 unfold fl
 rw[q5a,Y8y,Y8z]
theorem Z1z (x s a:Nat):bp (x&&&fl s a)=(bp (x&&&s) ^^ x.testBit a):=by
 rw[q4h,Z3k,q4h s]
theorem W1a (x a b:Nat):bp (sw x a b)=bp x:=by
 unfold sw
 split
 ·rfl
 ·unfold fl
  rw[Y8y,Y8y]
  have h:∀ j,bp (2^j)=true:=λj=>by unfold bp;rw[X2r];rfl
  rw[h,h]
  cases bp x<;>rfl
abbrev Mk:=Nat × Nat × Nat
noncomputable def lay (m:Mk)(F:Bv):Bv:=λw=>En (2*m.1+4*bn (bp ((w^^^m.2.1)&&&m.2.2))) (F (w^^^m.2.1))
noncomputable def mvd:Mv->Mk->Mk
 | .flip a,(k,f,s)=>(if s.testBit a.toNat then (k+2)%4 else k,f,s)
 | mix a,(k,f,s)=>(if f.testBit a.toNat && s.testBit a.toNat then (k+2)%4 else k,if f.testBit a.toNat=s.testBit a.toNat then f else fl f a.toNat,if f.testBit a.toNat=s.testBit a.toNat then s else fl s a.toNat)
 | turn a j,(k,f,s)=>if f.testBit a.toNat then ((k+j.toNat / 2)%4,f,if j.toNat%4=2 then fl s a.toNat else s) else (k,f,s)
 | iff a b,(k,f,s)=>(k,if f.testBit a.toNat then fl f b.toNat else f,if s.testBit b.toNat then fl s a.toNat else s)
 | pair a b,(k,f,s)=>(if f.testBit a.toNat && f.testBit b.toNat then (k+2)%4 else k,f,(if f.testBit b.toNat then fl (if f.testBit a.toNat then fl s b.toNat else s) a.toNat else if f.testBit a.toNat then fl s b.toNat else s))
 | swap a b,(k,f,s)=>(k,sw f a.toNat b.toNat,sw s a.toNat b.toNat)
 | _,m=>m
def Br:Mv->Prop
 | cross _ _ _=>False
 | turn _ j=>j.toNat%2=0
 | _=>True
theorem X7b {m n:Nat}(h:m%8=n%8)(x:V4):En m x=En n x:=by rw[X3m m,X3m n,h]
theorem Z5m {m:Mv}(hm:isMix m=false){F:Bv}{w:Nat}{p q:Mk}(h1:to m w^^^p.2.1=to m (w^^^q.2.1))
  (h2:(sp m w+(2*p.1+4*bn (bp ((to m w^^^p.2.1)&&&p.2.2))))%8=(2*q.1+4*bn (bp ((w^^^q.2.1)&&&q.2.2))+sp m (w^^^q.2.1))%8):op m (lay p F) w=lay q (op m F) w:=by
 unfold lay
 rw[Y6y hm,Y6y hm,W1g,X2a,X2a,h1]
 congr 1
 rw[<-h1]
 exact X7b h2 _
theorem Y0g (w f a:Nat):fl w a^^^f=fl (w^^^f) a:=by
 unfold fl
 rw[q1z,q4g (2^a),<-q1z]
theorem Y2g (w f a:Nat):w^^^fl f a=fl (w^^^f) a:=by
 unfold fl
 rw[q1z]
theorem Y9q {a:Int}(F:Bv)(w:Nat)(p:Mk):op (.flip a) (lay p F) w=lay (mvd (.flip a) p) (op (.flip a) F) w:=by
 obtain⟨k,f,s⟩:=p
 refine Z5m rfl (Y0g _ _ _) ?_
 show (0+(2*k+4*bn (bp ((fl w a.toNat^^^f)&&&s))))%8=(2*(if s.testBit a.toNat then (k+2)%4 else k)+4*bn (bp ((w^^^f)&&&s))+0)%8
 rw[Y0g,Z3k]
 cases s.testBit a.toNat<;>cases bp ((w^^^f)&&&s)<;>simp[bn]<;>omega
theorem Y9n {a j:Int}(he:j.toNat%2=0)(hj:j.toNat<=7)(F:Bv)(w:Nat)(p:Mk):op (turn a j) (lay p F) w=lay (mvd (turn a j) p) (op (turn a j) F) w:=by
 obtain⟨k,f,s⟩:=p
 generalize hJ:j.toNat=J at he hj
 by_cases hf:f.testBit a.toNat=true
 ·have e:mvd (turn a j) (k,f,s)=((k+J / 2)%4,f,if J%4=2 then fl s a.toNat else s):=by
   show (if _ then _ else _)=_
   rw[if_pos hf,hJ]
  rw[e]
  refine Z5m rfl rfl ?_
  show ((if w.testBit a.toNat then j.toNat else 0)+(2*k+4*bn (bp ((w^^^f)&&&s))))%8=(2*((k+J / 2)%4)+4*bn (bp ((w^^^f)&&&if J%4=2 then fl s a.toNat else s))+(if (w^^^f).testBit a.toNat then j.toNat else 0))%8
  have hx:(w^^^f).testBit a.toNat=!w.testBit a.toNat:=by rw[q1d,hf];cases w.testBit a.toNat<;>rfl
  rw[hx,hJ]
  have:J=0∨J=2∨J=4∨J=6:=by omega
  rcases this with rfl | rfl | rfl | rfl
  ·rw[if_neg (show ¬ (0:Nat)%4=2 by decide)]
   generalize bn (bp ((w^^^f)&&&s))=Z
   cases w.testBit a.toNat<;>simp<;>omega
  ·rw[if_pos (show (2:Nat)%4=2 by decide),Z1z,hx]
   cases w.testBit a.toNat<;>cases bp ((w^^^f)&&&s)<;>simp[bn]<;>omega
  ·rw[if_neg (show ¬ (4:Nat)%4=2 by decide)]
   generalize bn (bp ((w^^^f)&&&s))=Z
   cases w.testBit a.toNat<;>simp<;>omega
  ·rw[if_pos (show (6:Nat)%4=2 by decide),Z1z,hx]
   cases w.testBit a.toNat<;>cases bp ((w^^^f)&&&s)<;>simp[bn]<;>omega
 ·have e:mvd (turn a j) (k,f,s)=(k,f,s):=by
   show (if _ then _ else _)=_
   rw[if_neg hf]
  rw[e]
  refine Z5m rfl rfl ?_
  show ((if w.testBit a.toNat then j.toNat else 0)+_)%8=(_+(if (w^^^f).testBit a.toNat then j.toNat else 0))%8
  have hx:(w^^^f).testBit a.toNat=w.testBit a.toNat:=by
   rw[q1d,(by simpa using hf:f.testBit a.toNat=false)]
   cases w.testBit a.toNat<;>rfl
  rw[hx,q8a]
  rfl
theorem Z1l {w a b:Nat}(h:a≠b):(fl w b).testBit a=w.testBit a:=by
 rw[Y3y,q0k (λz:b=a=>h z.symm)]
 cases w.testBit a<;>rfl
theorem Z2q (w a:Nat):(fl w a).testBit a=!w.testBit a:=by
 rw[Y3y]
 simp
theorem X3s {a b:Int}(ne:a.toNat≠b.toNat)(F:Bv)(w:Nat)(p:Mk):op (iff a b) (lay p F) w=lay (mvd (iff a b) p) (op (iff a b) F) w:=by
 obtain⟨k,f,s⟩:=p
 generalize hA:a.toNat=A at ne
 generalize hB:b.toNat=B at ne
 have t:∀ v,to (iff a b) v=if v.testBit A then fl v B else v:=λv=>by show (if _ then _ else _)=_;rw[hA,hB]
 have e:mvd (iff a b) (k,f,s)=(k,if f.testBit A then fl f B else f,if s.testBit B then fl s A else s):=by
  show (_,(if _ then _ else _),(if _ then _ else _))=_
  rw[hA,hB]
 rw[e]
 have h1:to (iff a b) w^^^f=to (iff a b) (w^^^if f.testBit A then fl f B else f):=by
  rw[t,t]
  cases hf:f.testBit A<;>cases hw:w.testBit A<;>simp[hf,hw,q1d,Y2g,Y0g,Z1l ne,Y0h]
 refine Z5m rfl h1 ?_
 show (0+(2*k+4*bn (bp ((to (iff a b) w^^^f)&&&s))))%8=(2*k+4*bn (bp ((w^^^if f.testBit A then fl f B else f)&&&if s.testBit B then fl s A else s))+0)%8
 rw[q4f,q3g]
 congr 3
 congr 1
 rw[t]
 cases hf:f.testBit A<;>cases hw:w.testBit A<;>cases hs:s.testBit B<;>simp[Y2g,Y0g,Z3k,Z1z,q1d,hf,hw,hs,Z1l ne,Z1l (Ne.symm ne)]
theorem Y9p {a b:Int}(ne:a.toNat≠b.toNat)(F:Bv)(w:Nat)(p:Mk):op (pair a b) (lay p F) w=lay (mvd (pair a b) p) (op (pair a b) F) w:=by
 obtain⟨k,f,s⟩:=p
 refine Z5m rfl rfl ?_
 show ((if w.testBit a.toNat && w.testBit b.toNat then 4 else 0)+(2*k+4*bn (bp ((w^^^f)&&&s))))%8=(2*(if f.testBit a.toNat && f.testBit b.toNat then (k+2)%4 else k)+4*bn (bp ((w^^^f)&&&(if f.testBit b.toNat then fl (if f.testBit a.toNat then fl s b.toNat else s) a.toNat else if f.testBit a.toNat then fl s b.toNat else s)))+(if (w^^^f).testBit a.toNat && (w^^^f).testBit b.toNat then 4 else 0))%8
 rw[q1d,q1d]
 generalize a.toNat=A at *
 generalize b.toNat=B at *
 cases hfa:f.testBit A<;>cases hfb:f.testBit B<;>cases hwa:w.testBit A<;>cases hwb:w.testBit B<;>simp[Z1z,q1d,hfa,hfb,hwa,hwb]<;>cases bp ((w^^^f)&&&s)<;>simp[bn]<;>omega
theorem Y9o {a b:Int}(ne:a.toNat≠b.toNat)(F:Bv)(w:Nat)(p:Mk):op (swap a b) (lay p F) w=lay (mvd (swap a b) p) (op (swap a b) F) w:=by
 obtain⟨k,f,s⟩:=p
 have h1:sw w a.toNat b.toNat^^^f=sw (w^^^sw f a.toNat b.toNat) a.toNat b.toNat:=by
  apply Z6h
  intro j
  rw[q1d,Z2p _ _ _ _ ne,Z2p _ _ _ _ ne,q1d,q1d,q1d,Z2p _ _ _ _ ne,Z2p _ _ _ _ ne,Z2p _ _ _ _ ne]
  by_cases ja:j=a.toNat
  ·subst ja;simp[Ne.symm ne]
  ·by_cases jb:j=b.toNat
   ·subst jb;simp[Ne.symm ne]
   ·simp[ja,jb]
 refine Z5m rfl h1 ?_
 show (0+(2*k+4*bn (bp ((sw w a.toNat b.toNat^^^f)&&&s))))%8=(2*k+4*bn (bp ((w^^^sw f a.toNat b.toNat)&&&sw s a.toNat b.toNat))+0)%8
 have e:((sw w a.toNat b.toNat^^^f)&&&s)=sw ((w^^^sw f a.toNat b.toNat)&&&sw s a.toNat b.toNat) a.toNat b.toNat:=by
  rw[h1]
  apply Z6h
  intro j
  rw[q2f,Z2p _ _ _ _ ne,Z2p _ _ _ _ ne,q2f,q2f,q2f,Z2p s _ _ _ ne,Z2p s _ _ _ ne,Z2p s _ _ _ ne]
  by_cases ja:j=a.toNat
  ·subst ja;simp[Ne.symm ne]
  ·by_cases jb:j=b.toNat
   ·subst jb;simp[Ne.symm ne]
   ·simp[ja,jb]
 rw[e,W1a,q4f,q3g]
noncomputable def sgB (b:Bool):Int:=if b then -1 else 1
theorem Y5d (n:Nat)(b:Bool)(x:V4):En (n+4*bn b) x=sm (sgB b) (En n x):=by
 cases b
 ·show En (n+0) x=sm 1 (En n x)
  rw[Y6a,q3g]
 ·show En (n+4) x=sm (-1) (En n x)
  rw[q8a,<-X2a,En4]
theorem X7x (w a:Nat):sg w a=sgB (w.testBit a):=by
 unfold sg sgB
 cases w.testBit a<;>rfl
theorem Y0y (a b:Bool):sgB a*sgB b=sgB (a ^^ b):=by cases a<;>cases b<;>rfl
theorem X3r {a:Int}(F:Bv)(w:Nat)(p:Mk):op (mix a) (lay p F) w=lay (mvd (mix a) p) (op (mix a) F) w:=by
 obtain⟨k,f,s⟩:=p
 generalize hA:a.toNat=A
 have eL:∀ G:Bv,∀ v,op (mix a) G v=root (add (sm (sgB (v.testBit A)) (G v)) (G (fl v A))):=λG v=>by
  show root (add (sm (sg v a.toNat) (G v)) (G (fl v a.toNat)))=_
  rw[hA,X7x]
 have e:mvd (mix a) (k,f,s)=(if f.testBit A && s.testBit A then (k+2)%4 else k,if f.testBit A=s.testBit A then f else fl f A,if f.testBit A=s.testBit A then s else fl s A):=by
  show ((if _ then _ else _),(if _ then _ else _),(if _ then _ else _))=_
  rw[hA]
 rw[e,eL]
 unfold lay
 simp only[]
 rw[eL,X7a,W1h,W1g,Y5d,Y5d,Y5d,Y5d,X4c,X4c,Y0y,Y0y,Y0g,Z3k]
 have k2:∀ x:V4,En (2*((k+2)%4)) x=sm (sgB true) (En (2*k) x):=λx=>by
  rw[<-Y5d]
  exact X7b (by show (2*((k+2)%4))%8=(2*k+4*1)%8;omega) x
 cases hf:f.testBit A<;>cases hs:s.testBit A
 ·simp[q1d,hf,hs]
 ·simp[q1d,hf,hs,Y2g,Z3k,Z1z,Y0h,Z2q]
  rw[add_comm]
  cases w.testBit A<;>cases bp ((w^^^f)&&&s)<;>simp[sgB]
 ·simp[q1d,hf,hs,Y2g,Z3k,Z1z,Y0h,Z2q]
  rw[add_comm]
  cases w.testBit A<;>cases bp ((w^^^f)&&&s)<;>simp[sgB]
 ·simp[q1d,hf,hs,k2,X4c,Y0y]
noncomputable def mvds:List Mv->Mk->Mk
 | [],m=>m
 | x::r,m=>mvds r (mvd x m)
theorem X3q {m:Mv}(o:Ok m)(b:Br m)(F:Bv)(p:Mk):op m (lay p F)=lay (mvd m p) (op m F):=by
 funext w
 cases m with
 | flip a=>exact Y9q F w p
 | mix a=>exact X3r F w p
 | turn a j=>exact Y9n b (by have:0<=a/\1<=j/\j<=7:=o;omega) F w p
 | iff a c=>exact X3s (by have:0<=a/\0<=c/\a≠c:=o;omega) F w p
 | pair a c=>exact Y9p (by have:0<=a/\0<=c/\a≠c:=o;omega) F w p
 | swap a c=>exact Y9o (by have:0<=a/\0<=c/\a≠c:=o;omega) F w p
 | cross a c d=>exact absurd b id
end M75
namespace M72
open M71 M71.Mv
noncomputable def rowop:List Mv->Bv->Bv
 | [],F=>F
 | m::ms,F=>rowop ms (op m F)
theorem W1m {w a b:Nat}(n:a≠b):sw (sw w a b) a b=w:=by
 apply Z6h
 intro j
 rw[Z2p _ _ _ _ n]
 by_cases ja:j=a
 ·rw[if_pos ja,Z2p _ _ _ _ n,if_neg (λz=>n z.symm),if_pos rfl,ja]
 ·rw[if_neg ja]
  by_cases jb:j=b
  ·rw[if_pos jb,Z2p _ _ _ _ n,if_pos rfl,jb]
  ·rw[if_neg jb,Z2p _ _ _ _ n,if_neg ja,if_neg jb]
def VOk (c:Nat)(m:Mv):Prop:=Ok m/\∀ x∈m.cells,x<(c:Int)
end M72
set_option maxHeartbeats 4000000
namespace L2
def Rows5K (K:U0)(H:Hp):List Addr->List (List Int)->Prop:=Paired λp ns=>SqT K H p (ns.map V.int)
section
variable {X:Cx}
theorem Z4m {pins:U1}{σ:St}{H:Hp}{s:U7}(I:Inv X pins σ H s):∀ {ps:U3}{xs:List (List Int)}{us:U5},Rows5K X.K H ps xs->Vals (ps.map V.ref) us->∃ as,ReadsAll s.heap us (xs.map λns=>PyData.tuple (ns.map PyData.int)) as
 | [],[],us,.nil,r=>by cases r;exact⟨[],.nil⟩
 | p::ps,ns::xs,us,.cons e r,rv=>by
  cases rv with
  | cons ru rr =>
   cases ru
   obtain⟨as,ha⟩:=Z4m I r rr
   obtain⟨its,rv',ht,_⟩:=I.tuple e
   exact⟨_,.cons (Z5p ht (Z3j rv')) ha⟩
theorem Z6a {pins:U1}{σ:St}{H:Hp}{s:U7}(I:Inv X pins σ H s){a:W9}{ps:U3}{xs:List (List Int)}(h:H a=some (.lst (ps.map V.ref)))(r:Rows5K X.K H ps xs):∃ as,Reads s.heap (.ref a) (.list (xs.map λns=>PyData.tuple (ns.map PyData.int))) as:=by
 obtain⟨its,rv,pl,_⟩:=I.list (SqL.of h)
 obtain⟨as,ha⟩:=Z4m I r rv
 obtain⟨o,ho,hc,n,hd⟩:=pl.isList
 exact⟨_,Reads.list ho hc hd (by simpa using ha)⟩
def rEqLTK (K:U0)(neg:Bool):R2:=λx y H Q=>∃ (a b:W9) (ps qs:U3) (xs ys:List (List Int)),x=.ref a/\y=.ref b/\H a=some (.lst (ps.map V.ref))/\H b=some (.lst (qs.map V.ref))/\Rows5K K H ps xs/\Rows5K K H qs ys/\Q (.bl (if neg then !decide (xs=ys) else decide (xs=ys))) H
theorem Y3c (hu:X.A.units+64<cLine):OpR X (compareOp .NotEq) (rEqLTK X.K true):=by
 intro pins s σ H x y v u Q I rx ry h
 obtain⟨a,b,ps,qs,xs,ys,rfl,rfl,h1,h2,r1,r2,q⟩:=h
 cases rx;cases ry
 obtain⟨as,ra⟩:=Z6a I h1 r1
 obtain⟨bs,rb⟩:=Z6a I h2 r2
 refine ne_dataH_same ra rb (Z6z xs) (Z6z ys) hu (by simp only[SeqAt.noMix];exact Z8a xs ys) ⟨.bl (!decide (xs=ys)),H,I,?_,q⟩
 show _=_
 simp only[PySem.Spec.same]
 rw[Z9r]
end
end L2
namespace L2
end L2
namespace L2
section
variable {prog:U8}{w:W1}{A:W6}{E:U2}{s:U7}{l:W9}
theorem Y9m {vs:U9}{Q:U2}(ht:s.heap.IsTuple l vs)
  (h:∀ hp:Heap,hp=s.heap.push { cls:=.type "tuple_iterator",data:=.fields #[.ref l,.int 0 0] }->hp.IsTupleIter s.heap.objs.size l 0/\hp.IsTuple l vs->(∀ b∈[s.heap.objs.size,l],b<hp.objs.size)->l≠s.heap.objs.size →
   (∀ h':Heap,(∀ b o,b ∉ [s.heap.objs.size]->hp.get? b=some o->h'.get? b=some o)->∀ b o,s.heap.get? b=some o->h'.get? b=some o)->Q (.ref s.heap.objs.size) { s with heap:=hp }) :
  wpAny (model prog w) A (pyIter (.ref l)) Q E s:=by
 have low:l<s.heap.objs.size:=by obtain⟨_,e,_⟩:=ht;exact q0h e
 refine q5m ht (h _ rfl ⟨⟨_,q0n _ rfl,U,U⟩,ht.push _⟩ (λb hb=>?_) (q0t low) λh' hk b o e=>?_)
 ·rw[q2w]
  simp only[q0s,q1i,q3c] at hb
  rcases hb with rfl | rfl
  ·exact q3b _
  ·exact q3p low
 ·have:=q0h e
  exact hk b o (by simp only[q0s,q1i,q3c];exact q0t this) (q0e _ e)
theorem X5u {xs:Array (Int × Tok)}{Q:U2}(hh:A.handled=none)(ht:s.heap.IsTuple l (intItems xs))(hne:0<xs.size)
  (h:∀ (v:W2) (h':Heap) (tk:Nat),(intItems xs)[argBest (λi j=>decide (PySem.numAt xs i>PySem.numAt xs j)) (xs.size-1)]?=some v->(∀ b o,s.heap.get? b=some o->h'.get? b=some o)->Q v { s with heap:=h',toks:=tk }) :
  wpAny (model prog w) A (call (.builtin "max") [.ref l]) Q E s:=by
 refine call_max_walk (Y9m ht λhp e st hf hl old=>?_)
 have z:(intItems xs).size=xs.size:=by simp[intItems]
 refine⟨_,_,_,_,_,_,_,U,Walks.tuple (A:=A.in1) hh _ l hl (intItems xs),st,hf,by rw[z];exact hne,CmpOf.ints_gt (PySem.numAt xs) (λ_ _=>intItems_at),λv h' tk hP hk=>?_⟩
 rw[z] at hP
 exact h v h' tk hP (old h' hk)
end
section
variable {X:Cx}
theorem X1g {its:U5}{ns:U6}(rv:Vals (ns.map V.int) its):∃ xs:Array (Int × Tok),its.toArray=intItems xs/\ns=xs.toList.map (·.1):=by
 have hi:=Z3j rv
 obtain⟨xs,e⟩:=hi.allInts.items
 exact⟨xs,e,by rw[<-hi.numsOf,<-nums_intItems,<-e]⟩
theorem Y8v (hc:X.calm=true):CallR X (.builtin "max") (λxs H Q=>∃ (p:W9) (ns:U6),xs=[.ref p]/\SqT X.K H p (ns.map V.int)/\0<ns.length/\∀ M,M∈ns->(∀ a,a∈ns->a<=M)->Q (.int M) H):=by
 intro pins s σ H xs us Q I r h
 obtain⟨p,ns,rfl,hq,hn,q⟩:=h
 obtain⟨u,rfl,ru⟩:=r.one
 cases ru
 obtain⟨its,rv,pl,hz⟩:=I.tuple hq
 obtain⟨xs,e,hns⟩:=X1g rv
 have hsz:0<xs.size:=by rw[hns,q0a,q2h] at hn;exact hn
 rw[e] at pl
 refine X5u (show X.A.handled=none from I.ok.hd hc) pl hsz λv h' tk hv hk=>?_
 obtain⟨t,rfl⟩:=intItems_at hv
 obtain⟨h1,h2⟩:=argBest_gt (PySem.numAt xs) (xs.size-1)
 refine⟨.int (PySem.numAt xs (argBest (λi j=>decide (PySem.numAt xs i>PySem.numAt xs j)) (xs.size-1))),H,I.kept (t':=tk) hk,⟨_,U⟩,q _ ?_ λa ha=>?_⟩
 ·rw[hns,numAt_eq];exact getD_mem (by rw[q0a,q2h];omega)
 ·rw[hns] at ha
  obtain⟨j,hj,rfl⟩:=mem_getD ha
  rw[q0a,q2h] at hj
  rw[<-numAt_eq];exact h2 j (by omega)
end
end L2
namespace K55S
open L2 Ba M71
open K76 (top Bs)
noncomputable def nm:Mv->Str
 | .flip _=>"flip"
 | .mix _=>"mix"
 | .turn _ _=>"turn"
 | .iff _ _=>"if"
 | .pair _ _=>"pair"
 | .swap _ _=>"swap"
 | .cross _ _ _=>"cross"
noncomputable def ns:Mv->List Int
 | .flip a=>[a]
 | .mix a=>[a]
 | .turn a k=>[a,k]
 | .iff a b=>[a,b]
 | .pair a b=>[a,b]
 | .swap a b=>[a,b]
 | .cross a b d=>[a,b,d]
noncomputable def hd:Mv->Int
 | .flip a=>a
 | .mix a=>a
 | .turn a _=>a
 | .iff a _=>a
 | .pair a _=>a
 | .swap a _=>a
 | .cross a _ _=>a
noncomputable def code:Mv->Nat
 | .flip _=>0
 | .mix _=>1
 | .turn _ _=>2
 | .iff _ _=>3
 | .pair _ _=>4
 | .swap _ _=>5
 | .cross _ _ _=>6
noncomputable def nms:List Str:=["flip","mix","turn","if","pair","swap","cross"]
theorem Y7q (m:Mv):nm m=nms.getD (code m) "":=by cases m<;>rfl
theorem X5m:∀ i,i<7->∀ j,j<7->nms.getD i ""=nms.getD j ""->i=j:=by decide +kernel
theorem X6p (m:Mv):code m<7:=by cases m<;>simp[code]
theorem X9c {x:Mv}{i:Nat}(hi:i<7):nm x=nms.getD i "" ↔ code x=i:=⟨λh=>X5m _ (X6p x) _ hi (by rw[<-Y7q,h]),λh=>by rw[Y7q,h]⟩
noncomputable abbrev mm (m:Mv):Mm:=(nm m,ns m)
theorem X5k (m:Mv):∃ r,ns m=hd m::r:=by cases m<;>exact⟨_,U⟩
theorem at0m (m:Mv):atI (.str (nm m)::(ns m).map V.int) 0=some (.str (nm m)):=L2.Z3b (show (V.str (nm m)::(ns m).map V.int)[0]?=some _ from rfl)
theorem at1m (m:Mv):atI (.str (nm m)::(ns m).map V.int) 1=some (.int (hd m)):=by
 obtain⟨r,e⟩:=X5k m
 rw[e]
 exact L2.Z3b (show (V.str (nm m)::V.int (hd m)::r.map V.int)[1]?=some _ from rfl)
theorem X6c (m:Mv):nm m="turn" ↔ code m=2:=X9c (i:=2) (by decide)
theorem X1h (m:Mv):nm m="cross" ↔ code m=6:=X9c (i:=6) (by decide)
theorem Y4z (m:Mv):∃ r,m.cells=hd m::r:=by cases m<;>exact⟨_,U⟩
theorem Z8w {H H':Hp}{l:W9}(s:Same H H')(h:H' l=none):H l=none:=by
 cases e:H l with
 | none=>rfl
 | some o=>rw[s _ _ e] at h;cases h
def RowAt (H:Hp)(l:W9)(row:List Mv):Prop:=∃ ps,H l=some (.lst (ps.map V.ref))/\RowsM H ps (row.map mm)
theorem RowAt.same {H H':Hp}{l:W9}{row:List Mv}(h:RowAt H l row)(s:Same H H'):RowAt H' l row:=by
 obtain⟨ps,a,b⟩:=h
 exact⟨ps,s _ _ a,b.same s⟩
theorem Z4n {x:V}{xs:List V}:HT.sIx (x::xs).length 0 (some 1)=1:=by
 have:=HT.Z8p (x::xs).length 0 1
 rw[show ((1:Nat):Int)=1 from rfl] at this
 rw[this]
 simp
theorem Z4s {x:V}{xs:List V}:cutV (x::xs) (some 1) none=xs:=by
 unfold cutV
 rw[Z4n]
 have e2:HT.sIx (x::xs).length (x::xs).length none=(x::xs).length:=rfl
 rw[e2]
 simp
end K55S
namespace K55S
open L2 Ba Am M71
open K76 (top Bs va vb vc vd Gm Step Steps Ams Mix MixAt)
open M72 (V4 sm add root E En fl sw sg rowop op VOk)
def Vl (m:Nat)(v:V4)(x:A5):Prop:=∃ M0:Int,∀ M,M0<=M->va x M=v.1*p2 (M-m)/\vb x M=v.2.1*p2 (M-m)/\vc x M=v.2.2.1*p2 (M-m)/\vd x M=v.2.2.2*p2 (M-m)
theorem Vl.once {m:Nat}{v x:V4}{h:Int}(l:Vl m v (x,h)):Vl m (E v) (E x,h):=by
 obtain⟨M0,l⟩:=l
 refine⟨M0,λM hM=>?_⟩
 obtain⟨l1,l2,l3,l4⟩:=l M hM
 unfold va at l1
 unfold vb at l2
 unfold vc at l3
 unfold vd at l4
 unfold va vb vc vd
 simp only[E] at l1 l2 l3 l4 ⊢
 rw[Int.neg_mul,Int.neg_mul,l4]
 exact⟨U,l1,l2,l3⟩
theorem Vl.rot {m:Nat}{v x:V4}{h:Int}(l:Vl m v (x,h)):∀ j,Vl m (En j v) (Ba.rot j x,h)
 | 0=>l
 | j+1=>(Vl.rot l j).once
theorem Vl.up {m:Nat}{v:V4}{x:A5}(l:Vl m v x)(n:Nat):Vl (m+n) (sm (2^n) v) x:=by
 obtain⟨M0,l⟩:=l
 refine⟨max M0 0+m+n,λM hM=>?_⟩
 obtain⟨l1,l2,l3,l4⟩:=l M (by omega)
 have e:p2 (M-m)=2^n*p2 (M-((m+n:Nat):Int)):=by
  rw[Z6c (a:=M-m) (b:=(n:Int)) (by omega) (by omega),Int.mul_comm]
  congr 1
  unfold p2
  congr 1
  omega
 rw[l1,l2,l3,l4,e]
 simp only[sm]
 refine⟨?_,?_,?_,?_⟩<;>grind
theorem Vl.mix {m:Nat}{s:Int}{v u:V4}{x y z:A5}(l:Vl m v x)(l':Vl m u y)(mx:Mix s x y z)(x0:0<=x.2)(y0:0<=y.2):Vl (m+1) (root (add v (sm s u))) z:=by
 obtain⟨M1,l⟩:=l
 obtain⟨M2,l'⟩:=l'
 obtain⟨M3,h3⟩:=mx.vals x0 y0
 refine⟨max M1 0+max M2 0+max M3 0+1,λN hN=>?_⟩
 obtain⟨M,rfl⟩:∃ M,N=M+1:=⟨N-1,by omega⟩
 obtain⟨a1,a2,a3,a4⟩:=l M (by omega)
 obtain⟨b1,b2,b3,b4⟩:=l' M (by omega)
 obtain⟨c1,c2,c3,c4⟩:=h3 M (by omega)
 have e:M+1-((m+1:Nat):Int)=M-m:=by omega
 rw[c1,c2,c3,c4,a1,a2,a3,a4,b1,b2,b3,b4,e]
 simp only[root,add,sm]
 refine⟨?_,?_,?_,?_⟩<;>grind
theorem Vl.same {m:Nat}{v:V4}{x y:A5}(l:Vl m v x)(l':Vl m v y)(ax:Amt x.1.1 x.1.2.1 x.1.2.2.1 x.1.2.2.2 x.2)(ay:Amt y.1.1 y.1.2.1 y.1.2.2.1 y.1.2.2.2 y.2):x=y:=by
 obtain⟨M1,l⟩:=l
 obtain⟨M2,l'⟩:=l'
 have x0:=ax.nn
 have y0:=ay.nn
 obtain⟨M,g1,g2,g3,g4⟩:∃ M:Int,M1<=M/\M2<=M/\x.2<=M/\y.2<=M:=⟨max M1 0+max M2 0+x.2+y.2,by omega,by omega,by omega,by omega⟩
 obtain⟨a1,a2,a3,a4⟩:=l M g1
 obtain⟨b1,b2,b3,b4⟩:=l' M g2
 exact K76.Y9h ax ay g3 g4 (by rw[a1,b1]) (by rw[a2,b2]) (by rw[a3,b3]) (by rw[a4,b4])
theorem Vl.of {x:A5}{N:Nat}(h0:0<=x.2)(h:x.2<=(N:Int)):Vl N (sm (2^(N-x.2.toNat)) x.1) x:=by
 have b:Vl x.2.toNat x.1 x:=by
  refine⟨0,λM _=>?_⟩
  have:((x.2.toNat:Nat):Int)=x.2:=Int.toNat_of_nonneg h0
  rw[this]
  exact⟨U,U,U,U⟩
 have:=b.up (N-x.2.toNat)
 rw[show x.2.toNat+(N-x.2.toNat)=N by omega] at this
 exact this
noncomputable def e1 (a w:Nat):Bool:=(decide (w&&&2^a=0) == !w.testBit a) && (decide (w&&&2^a=2^a) == w.testBit a) && (decide (w / 2^a%2=0) == !w.testBit a) && (w.testBit a || decide (fl w a=w+2^a)) && (!w.testBit a || decide (fl w a=w-2^a))
noncomputable def e2 (a b w:Nat):Bool:=decide (a=b) || (decide (K76.exch w a b=sw w a b) && (decide (w&&&(2^a ||| 2^b)=(2^a ||| 2^b)) == (w.testBit a && w.testBit b)))
theorem W0n:((List.range 6).all λa=>(List.range 64).all λw=>e1 a w)=true:=by decide +kernel
theorem W0m:((List.range 6).all λa=>(List.range 6).all λb=>(List.range 64).all λw=>e2 a b w)=true:=by decide +kernel
theorem w64 {c w:Nat}(hc:c<=6)(hw:w<2^c):w<64:=q0f hw (q0v (by decide) hc:2^c<=2^6)
theorem Y1v {c a w:Nat}(hc:c<=6)(ha:a<c)(hw:w<2^c):(w&&&2^a=0 ↔ w.testBit a=false)/\(w&&&2^a=2^a ↔ w.testBit a=true)/\(w / 2^a%2=0 ↔ w.testBit a=false)/\(w.testBit a=false->fl w a=w+2^a)/\(w.testBit a=true->fl w a=w-2^a):=by
 have h:=K76.get1 (K76.get1 W0n (show a<6 by omega)) (w64 hc hw)
 unfold e1 at h
 simp only[q0u,q2x,q8o,q1f] at h
 obtain⟨⟨⟨⟨h1,h2⟩,h3⟩,h4⟩,h5⟩:=h
 cases hb:w.testBit a
 ·rw[hb] at h1 h2 h3 h4 h5
  simp at h1 h2 h3 h4 h5
  exact⟨⟨λ_=>rfl,λ_=>h1⟩,⟨λz=>absurd z h2,λz=>by cases z⟩,⟨λ_=>rfl,λ_=>h3⟩,λ_=>h4,λz=>by cases z⟩
 ·rw[hb] at h1 h2 h3 h4 h5
  simp at h1 h2 h3 h4 h5
  exact⟨⟨λz=>absurd z h1,λz=>by cases z⟩,⟨λ_=>rfl,λ_=>h2⟩,⟨λz=>absurd z (by omega),λz=>by cases z⟩,(λz=>by cases z),λ_=>h5⟩
theorem Y4y {c a b w:Nat}(hc:c<=6)(ha:a<c)(hb:b<c)(n:a≠b)(hw:w<2^c):K76.exch w a b=sw w a b/\(w&&&(2^a ||| 2^b)=(2^a ||| 2^b) ↔ (w.testBit a && w.testBit b)=true):=by
 have h:=K76.get1 (K76.get1 (K76.get1 W0m (show a<6 by omega)) (show b<6 by omega)) (w64 hc hw)
 unfold e2 at h
 simp only[q0u,q2x,q8o,q1f] at h
 rcases h with h | ⟨h1,h2⟩
 ·exact absurd h n
 ·refine⟨h1,?_⟩
  rw[<-h2]
  simp
noncomputable def gm:Mv->Gm
 | .flip a=>.mv (.flip a.toNat)
 | .mix a=>.mix a.toNat
 | .turn a k=>.mv (.turn a.toNat k.toNat)
 | .iff a b=>.mv (.iff a.toNat b.toNat)
 | .pair a b=>.mv (.pair a.toNat b.toNat)
 | .swap a b=>.mv (.swap a.toNat b.toNat)
 | .cross a b d=>.mv (.cross a.toNat b.toNat d.toNat)
theorem tn {a:Int}(h:0<=a):((a.toNat:Nat):Int)=a:=Int.toNat_of_nonneg h
theorem W2q {c:Nat}{m:Mv}(o:VOk c m):(gm m).mm=mm m:=by
 obtain⟨o,_⟩:=o
 cases m with
 | flip a=>show (_,[((a.toNat:Nat):Int)])=_;rw[tn o];rfl
 | mix a=>show (_,[((a.toNat:Nat):Int)])=_;rw[tn o];rfl
 | turn a k=>show (_,[((a.toNat:Nat):Int),((k.toNat:Nat):Int)])=_;rw[tn o.1,tn (show 0<=k by have:=o.2.1;omega)];rfl
 | iff a b=>show (_,[((a.toNat:Nat):Int),((b.toNat:Nat):Int)])=_;rw[tn o.1,tn o.2.1];rfl
 | pair a b=>show (_,[((a.toNat:Nat):Int),((b.toNat:Nat):Int)])=_;rw[tn o.1,tn o.2.1];rfl
 | swap a b=>show (_,[((a.toNat:Nat):Int),((b.toNat:Nat):Int)])=_;rw[tn o.1,tn o.2.1];rfl
 | cross a b d=>show (_,[((a.toNat:Nat):Int),((b.toNat:Nat):Int),((d.toNat:Nat):Int)])=_;rw[tn o.1,tn o.2.1,tn o.2.2.1];rfl
theorem X1m {c:Nat}{m:Mv}(o:VOk c m):(gm m).Ok c:=by
 obtain⟨o,x⟩:=o
 cases m with
 | flip a=>have h:=x a (by simp[Mv.cells]);have o:0<=a:=o;show a.toNat<c;omega
 | mix a=>have h:=x a (by simp[Mv.cells]);have o:0<=a:=o;show a.toNat<c;omega
 | turn a k=>have h:=x a (by simp[Mv.cells]);have o:0<=a/\1<=k/\k<=7:=o;show a.toNat<c/\1<=k.toNat/\k.toNat<=7;omega
 | iff a b=>have h:=x a (by simp[Mv.cells]);have h2:=x b (by simp[Mv.cells]);have o:0<=a/\0<=b/\a≠b:=o;show a.toNat<c/\b.toNat<c/\a.toNat≠b.toNat;omega
 | pair a b=>have h:=x a (by simp[Mv.cells]);have h2:=x b (by simp[Mv.cells]);have o:0<=a/\0<=b/\a≠b:=o;show a.toNat<c/\b.toNat<c/\a.toNat≠b.toNat;omega
 | swap a b=>have h:=x a (by simp[Mv.cells]);have h2:=x b (by simp[Mv.cells]);have o:0<=a/\0<=b/\a≠b:=o;show a.toNat<c/\b.toNat<c/\a.toNat≠b.toNat;omega
 | cross a b d=>have h:=x a (by simp[Mv.cells]);have h2:=x b (by simp[Mv.cells]);have h3:=x d (by simp[Mv.cells]);have o:0<=a/\0<=b/\0<=d/\a≠b/\a≠d/\b≠d:=o;show a.toNat<c/\b.toNat<c/\d.toNat<c/\a.toNat≠b.toNat/\a.toNat≠d.toNat/\b.toNat≠d.toNat;omega
theorem Y4b {c n w k:Nat}{F:M72.Bv}{f:Nat->A5}{z:A5}{v:K76.Mv}{t:Nat}(hl:v.to w<2^c)(h:∀ w,w<2^c->Vl n (F w) (f w))(et:v.to w=t)(es:v.sp w=k)(k8:k<8)(e:z=spin (f (v.to w)) (v.sp w:Nat)):Vl (n+1) (sm 2 (En k (F t))) z:=by
 subst et es
 rw[e]
 have q:=(h _ hl).rot (v.sp w)
 have e2:(((v.sp w:Nat):Int)%8).toNat=v.sp w:=by omega
 unfold spin
 rw[e2]
 exact q.up 1
theorem X3y {c n:Nat}{m:Mv}{F:M72.Bv}{f f':Nat->A5}(hc:c<=6)(o:VOk c m)(af:Ams c f)(h:∀ w,w<2^c->Vl n (F w) (f w))(s:Step c (gm m) f f'):∀ w,w<2^c->Vl (n+1) (op m F w) (f' w):=by
 intro w hw
 have ok:=X1m o
 cases m with
 | flip a=>exact Y4b (v:=.flip a.toNat) (K76.Mv.to_lt hc ok hw) h rfl rfl (show 0<8 by decide) (s w hw)
 | turn a j =>
  have ok:a.toNat<c/\1<=j.toNat/\j.toNat<=7:=ok
  refine Y4b (v:=.turn a.toNat j.toNat) hw h rfl ?_ ?_ (s w hw)
  ·show (if _ then _ else _)=(if _ then _ else _)
   by_cases b:w.testBit a.toNat=true
   ·rw[if_pos b,if_pos ((Y1v hc ok.1 hw).2.1.mpr b)]
   ·rw[if_neg b,if_neg (λz=>b ((Y1v hc ok.1 hw).2.1.mp z))]
  ·show (if w.testBit a.toNat then j.toNat else 0)<8
   split<;>omega
 | iff a b =>
  have ok':a.toNat<c/\b.toNat<c/\a.toNat≠b.toNat:=ok
  refine Y4b (v:=.iff a.toNat b.toNat) (K76.Mv.to_lt hc ok hw) h ?_ rfl (show 0<8 by decide) (s w hw)
  show (if _ then _ else _)=(if _ then _ else _)
  by_cases b:w.testBit a.toNat=true
  ·rw[if_pos b,if_neg (λz=>by rw[(Y1v hc ok'.1 hw).1.mp z] at b;cases b)]
   rfl
  ·rw[if_neg b,if_pos ((Y1v hc ok'.1 hw).1.mpr (by simpa using b))]
 | pair a b =>
  have ok':a.toNat<c/\b.toNat<c/\a.toNat≠b.toNat:=ok
  refine Y4b (v:=.pair a.toNat b.toNat) hw h rfl ?_ ?_ (s w hw)
  ·show (if _ then _ else _)=(if _ then _ else _)
   by_cases b':(w.testBit a.toNat && w.testBit b.toNat)=true
   ·rw[if_pos b',if_pos ((Y4y hc ok'.1 ok'.2.1 ok'.2.2 hw).2.mpr b')]
   ·rw[if_neg b',if_neg (λz=>b' ((Y4y hc ok'.1 ok'.2.1 ok'.2.2 hw).2.mp z))]
  ·show (if _ then _ else _)<8
   split<;>omega
 | swap a b =>
  have ok':a.toNat<c/\b.toNat<c/\a.toNat≠b.toNat:=ok
  exact Y4b (v:=.swap a.toNat b.toNat) (K76.Mv.to_lt hc ok hw) h (Y4y hc ok'.1 ok'.2.1 ok'.2.2 hw).1 rfl (show 0<8 by decide) (s w hw)
 | cross a b d =>
  have ok':a.toNat<c/\b.toNat<c/\d.toNat<c/\a.toNat≠b.toNat/\a.toNat≠d.toNat/\b.toNat≠d.toNat:=ok
  refine Y4b (v:=.cross a.toNat b.toNat d.toNat) (K76.Mv.to_lt hc ok hw) h ?_ rfl (show 0<8 by decide) (s w hw)
  show (if _ then _ else _)=(if _ then _ else _)
  by_cases b:w.testBit a.toNat=true
  ·rw[if_pos b,if_neg (λz=>by rw[(Y1v hc ok'.1 hw).1.mp z] at b;cases b)]
   exact(Y4y hc ok'.2.1 ok'.2.2.1 ok'.2.2.2.2.2 hw).1
  ·rw[if_neg b,if_pos ((Y1v hc ok'.1 hw).1.mpr (by simpa using b))]
 | mix a =>
  have ac:a.toNat<c:=ok
  have e:=s w hw
  have e:MixAt f a.toNat w (f' w):=e
  unfold MixAt at e
  obtain⟨_,_,h3,h4,h5⟩:=Y1v hc ac hw
  show Vl (n+1) (root (add (sm (sg w a.toNat) (F w)) (F (fl w a.toNat)))) (f' w)
  unfold sg
  by_cases hb:w.testBit a.toNat=false
  ·have z:=h3.mpr hb
   obtain⟨_,_,l2,_⟩:=K76.X7s hc ac hw z
   rw[if_pos z] at e
   rw[if_neg (by rw[hb];decide),h4 hb,M72.Y6a]
   have:=(h _ hw).mix (h _ l2) e (af _ hw).nn (af _ l2).nn
   rw[M72.Y6a] at this
   exact this
  ·have hb':w.testBit a.toNat=true:=by simpa using hb
   have z:¬ w / 2^a.toNat%2=0:=λz=>hb (h3.mp z)
   have l2:w-2^a.toNat<2^c:=q2t (Nat.sub_le _ _) hw
   rw[if_neg z] at e
   rw[if_pos hb',h5 hb',M72.add_comm]
   exact(h _ l2).mix (h _ hw) e (af _ l2).nn (af _ hw).nn
theorem Y2l {c:Nat}(hc:c<=6):∀ {row:List Mv}{n:Nat}{F:M72.Bv}{f f':Nat->A5},(∀ m∈row,VOk c m)->Ams c f->(∀ w,w<2^c->Vl n (F w) (f w))->Steps c (row.map gm) f f'->(∀ w,w<2^c->Vl (n+row.length) (rowop row F w) (f' w))/\Ams c f'
 | [],n,F,f,f',_,af,h,a=>by
  cases a
  exact⟨h,af⟩
 | m::row,n,F,f,f',ok,af,h,a=>by
  cases a with
  | cons a a' =>
   have okm:=ok m (.head _)
   have:=Y2l hc (row:=row) (λx hx=>ok x (.tail _ hx)) (a.ams hc (X1m okm) af) (X3y hc okm af h a) a'
   rw[q2i,show n+(row.length+1)=n+1+row.length by omega]
   exact this
theorem X8a {c:Nat}{H:Hp}{l:W9}{row:List Mv}(h:RowAt H l row)(ok:∀ m∈row,VOk c m)(len:row.length<=200):∃ ps,K76.Rw H l ps (row.map gm) c:=by
 obtain⟨ps,hl,hr⟩:=h
 refine⟨ps,hl,?_,?_,by rw[q0a];exact len⟩
 ·show RowsM H ps ((row.map gm).map Gm.mm)
  have e:(row.map gm).map Gm.mm=row.map mm:=by
   rw[q3w]
   exact q5f λm hm=>W2q (ok m hm)
  rw[e]
  exact hr
 ·intro m hm
  obtain⟨x,hx,rfl⟩:=q2k.mp hm
  exact X1m (ok x hx)
end K55S
namespace K55S
open L2 Ba Am Pc M71
open K76 (top Bs)
open M72 (fl sw VOk)
open M75 (Mk mvd Br)
noncomputable abbrev mkL (m:Mk):List V:=[.int (m.1:Nat),.int (m.2.1:Nat),.int (m.2.2:Nat)]
structure OkK (c:Nat) (m:Mk):Prop where
 k:m.1<4
 f:m.2.1<2^c
 s:m.2.2<2^c
theorem X6u (f a:Nat):(f&&&2^a)=if f.testBit a then 2^a else 0:=by
 apply q1w
 intro j
 rw[q2f,q2a]
 by_cases h:a=j
 ·subst h
  cases hb:f.testBit a<;>simp
 ·cases hb:f.testBit a<;>simp[h,q2a]
theorem tb (f a:Nat):(Builtin.bitAnd (f:Int) ((2^a:Nat):Int) != 0)=f.testBit a:=by
 rw[Z3t,X6u]
 cases f.testBit a
 ·rfl
 ·have h0:=q0w a
  have:((2^a:Nat):Int)≠0:=by omega
  exact bne_iff_ne.mpr this
theorem xb (f a:Nat):Builtin.bitXor (f:Int) ((2^a:Nat):Int)=((fl f a:Nat):Int):=Z3u f (2^a)
noncomputable abbrev mxF (a f s:Nat):Nat:=if f.testBit a=s.testBit a then f else fl f a
noncomputable abbrev mxS (a f s:Nat):Nat:=if f.testBit a=s.testBit a then s else fl s a
noncomputable abbrev mxI (f s b:Int):Int:=Builtin.bitOr (Builtin.bitAnd f (Builtin.bitNot b)) (Builtin.bitAnd s b)
noncomputable def mxOk (a f s:Nat):Bool :=
 decide (mxI f s ((2^a:Nat):Int)=(mxF a f s:Int)) && decide (mxI s f ((2^a:Nat):Int)=(mxS a f s:Int)) &&
 decide (((mxF a f s).testBit a && (mxS a f s).testBit a)=(f.testBit a && s.testBit a))
theorem X9f:((List.range 6).all λa=>(List.range 64).all λf=>(List.range 64).all λs=>mxOk a f s)=true:=by decide +kernel
theorem W1t {c a f s:Nat}(hc:c<=6)(ha:a<c)(hf:f<2^c)(hs:s<2^c):mxI f s ((2^a:Nat):Int)=(mxF a f s:Int)/\mxI s f ((2^a:Nat):Int)=(mxS a f s:Int)/\((mxF a f s).testBit a && (mxS a f s).testBit a)=(f.testBit a && s.testBit a):=by
 have h:=K76.get1 (K76.get1 (K76.get1 X9f (show a<6 by omega)) (w64 hc hf)) (w64 hc hs)
 unfold mxOk at h
 rw[q0u,q0u] at h
 exact⟨q1t h.1.1,q1t h.1.2,q1t h.2⟩
theorem tb2 (f s a:Nat):(Builtin.bitAnd (Builtin.bitAnd (f:Int) (s:Int)) ((2^a:Nat):Int) != 0)=(f.testBit a && s.testBit a):=by
 rw[Z3t,tb,q2f]
theorem Z7r {c f a:Nat}(hf:f<2^c)(ha:a<c):fl f a<2^c:=q2l hf (q1p (by decide) ha)
theorem X7w {c f a b:Nat}(hf:f<2^c)(ha:a<c)(hb:b<c):sw f a b<2^c:=by
 unfold sw
 split
 ·exact hf
 ·exact Z7r (Z7r hf ha) hb
theorem X2v {c:Nat}{x:Mv}{m:Mk}(o:VOk c x)(h:OkK c m):OkK c (mvd x m):=by
 obtain⟨k,f,s⟩:=m
 obtain⟨hk,hf,hs⟩:=h
 have ok:=X1m o
 have k4:∀ n:Nat,n%4<4:=λn=>q2r _ (by decide)
 cases x with
 | flip a=>exact⟨by show (if _ then _ else _)<4;split;exact k4 _;exact hk,hf,hs⟩
 | mix a =>
  have ac:a.toNat<c:=ok
  exact⟨by show (if _ then _ else _)<4;split;exact k4 _;exact hk,by show (if _ then _ else _)<2^c;split;exact hf;exact Z7r hf ac,by show (if _ then _ else _)<2^c;split;exact hs;exact Z7r hs ac⟩
 | turn a j =>
  have ac:a.toNat<c/\_:=ok
  show OkK c (if _ then _ else _)
  split
  ·exact⟨k4 _,hf,by show (if _ then _ else _)<2^c;split;exact Z7r hs ac.1;exact hs⟩
  ·exact⟨hk,hf,hs⟩
 | iff a b =>
  have ac:a.toNat<c/\b.toNat<c/\_:=ok
  exact⟨hk,by show (if _ then _ else _)<2^c;split;exact Z7r hf ac.2.1;exact hf,by show (if _ then _ else _)<2^c;split;exact Z7r hs ac.1;exact hs⟩
 | pair a b =>
  have ac:a.toNat<c/\b.toNat<c/\_:=ok
  refine⟨by show (if _ then _ else _)<4;split;exact k4 _;exact hk,hf,?_⟩
  show (if _ then _ else _)<2^c
  split
  ·refine Z7r ?_ ac.1
   split
   ·exact Z7r hs ac.2.1
   ·exact hs
  ·split
   ·exact Z7r hs ac.2.1
   ·exact hs
 | swap a b =>
  have ac:a.toNat<c/\b.toNat<c/\_:=ok
  exact⟨hk,X7w hf ac.1 ac.2.1,X7w hs ac.1 ac.2.1⟩
 | cross a b d=>exact⟨hk,hf,hs⟩
abbrev Mkr (K:U0)(H:Hp)(Q:VK)(m:Mk):Prop:=∀ (r:W9) (H':Hp),Same H H'->SqT K H' r (mkL m)->Q (.ref r) H'
def Z8l (K:U0):Sp:=λvs H Q _=>∃ (p:W9) (m:Mk),vs=[.ref p]/\SqT K H p (mkL m)/\Mkr K H Q ((m.1+2)%4,m.2.1,m.2.2)
def Y5v (K:U0):Sp:=λvs H Q _=>∃ (p:W9) (m:Mk) (c a:Nat),vs=[.ref p,.int ((2^a:Nat):Int)]/\SqT K H p (mkL m)/\OkK c m/\c<=6/\a<c/\Mkr K H Q (mvd (.mix (a:Int)) m)
def Y2t (K:U0):Sp:=λvs H Q _=>∃ (p:W9) (m:Mk) (a j:Nat),vs=[.ref p,.int ((2^a:Nat):Int),.int (j:Int)]/\SqT K H p (mkL m)/\Mkr K H Q (mvd (.turn (a:Int) (j:Int)) m)
def spByIf (K:U0):Sp:=λvs H Q _=>∃ (p:W9) (m:Mk) (a b:Nat),vs=[.ref p,.int ((2^a:Nat):Int),.int ((2^b:Nat):Int)]/\SqT K H p (mkL m)/\Mkr K H Q (mvd (.iff (a:Int) (b:Int)) m)
def Y2u (K:U0):Sp:=λvs H Q _=>∃ (p:W9) (m:Mk) (a b:Nat),vs=[.ref p,.int ((2^a:Nat):Int),.int ((2^b:Nat):Int)]/\SqT K H p (mkL m)/\Mkr K H Q (mvd (.pair (a:Int) (b:Int)) m)
theorem k0 {x y z:V}:atI [x,y,z] 0=some x:=rfl
theorem k1 {x y z:V}:atI [x,y,z] 1=some y:=rfl
theorem k2 {x y z:V}:atI [x,y,z] 2=some z:=rfl
theorem Y7r (a k f s:Nat):mvd (.mix (a:Int)) (k,f,s)=(if f.testBit a && s.testBit a then (k+2)%4 else k,mxF a f s,mxS a f s):=rfl
theorem X0x (a j k f s:Nat):mvd (.turn (a:Int) (j:Int)) (k,f,s)=if f.testBit a then ((k+j / 2)%4,f,if j%4=2 then fl s a else s) else (k,f,s):=rfl
theorem X5s (a b k f s:Nat):mvd (.iff (a:Int) (b:Int)) (k,f,s)=(k,if f.testBit a then fl f b else f,if s.testBit b then fl s a else s):=rfl
noncomputable abbrev prS (a b f s:Nat):Nat:=if f.testBit b then fl (if f.testBit a then fl s b else s) a else if f.testBit a then fl s b else s
theorem X0y (a b k f s:Nat):mvd (.pair (a:Int) (b:Int)) (k,f,s)=(if f.testBit a && f.testBit b then (k+2)%4 else k,f,prS a b f s):=rfl
section
variable {P:U8}{w:W1}{K:U0}{mg:U4}{base:Heap}{k:Nat}{h:Heap}
theorem sc_about:FnScope ["mark"] ["mark"] (Z0h (top 20)):=fS
theorem X0v (F:FunAt K "turned_about" (top 20) .none)(X:K.In h)(G:Ng h mg):Cal P w K mg base (k+1) "turned_about" ["mark"] (Z8l K):=by
 have nd:=sc_about.nd
 refine F.cal X G sc_about (bnd1 λ_ _ _ _ _ _ _=>rfl) (λvs H Q E h=>?_) (λf cdv A outer s H vs Q E hr h=>?_)
 ·obtain⟨p,m,rfl,_⟩:=h;rfl
 obtain⟨p,⟨k,f,s⟩,rfl,S,q⟩:=h
 refine⟨_,(@Z0e _ _ _ (Z0k (@Z1a _ _ _ _ _ (Z0a (Z0j Z1e (Z0j Z1r (Z0l Z0i (pv 0) Z0b (λ_ _=>rfl)) Z0b) Z0b) (Z0a (Z0l Z0i (pv 0) Z0b (λ_ _=>rfl)) (Z0a (Z0l Z0i (pv 0) Z0b (λ_ _=>rfl)) Z0c)))))),?_⟩
 try dsimp only[cxK]
 refine⟨_,U,p,_,_,.int k,U,U,S,k0,_,_,U,U,_,_,U,U,(by show (0:Int)<_;decide),_,U,p,_,_,.int f,U,U,S,k1,_,U,p,_,_,.int s,U,U,S,k2,t3,λr hr=>q r _ (Z0f hr _) (SqT.of ?_)⟩
 rw[Z0d]
 have e:((k:Int)+2)%4=(((k+2)%4:Nat):Int):=by omega
 show some (HO.tup [.int (((k:Int)+2)%4),.int f,.int s])=_
 rw[e]
theorem sc_bymix:FnScope ["mark","bit","flips","signs","moved"] ["mark","bit"] (Z0h (top 73)):=fS
theorem X0q (F:FunAt K "moved_by_mix" (top 73) .none)(X:K.In h)(G:Ng h mg)(c9:Cal P w K mg base k "turned_about" ["mark"] (Z8l K)):Cal P w K mg base (k+1) "moved_by_mix" ["mark","bit"] (Y5v K):=by
 have nd:=sc_bymix.nd
 refine F.cal X G sc_bymix (bnd2 λ_ _ _ _ _ _ _ _=>rfl) (λvs H Q E h=>?_) (λf cdv A outer s H vs Q E hr h=>?_)
 ·obtain⟨p,m,c,a,rfl,_⟩:=h;rfl
 obtain⟨p,⟨k,f,s⟩,c,a,rfl,S,o,c6,ac,q⟩:=h
 obtain⟨e1,e2,e3⟩:=W1t (f:=f) (s:=s) c6 ac o.f o.s
 refine⟨_,(@Z1g _ _ _ _ _ (@Z0q _ _ 2 _ _ _ _ nd rfl (Or.inl rfl) (Z0j Z8q (Z0j Z0z (Z0l Z0i (pv 0) Z0b (λ_ _=>rfl)) (Y6m X2j (pv 1))) (Z0j Z0z (Z0l Z0i (pv 0) Z0b (λ_ _=>rfl)) (pv 1))) rfl (.inl rfl))
  (@Z1g _ _ _ _ _ (@Z0q _ _ 3 _ _ _ _ nd rfl (Or.inl rfl) (Z0j Z8q (Z0j Z0z (Z0l Z0i (pv 0) Z0b (λ_ _=>rfl)) (Y6m X2j (pv 1))) (Z0j Z0z (Z0l Z0i (pv 0) Z0b (λ_ _=>rfl)) (pv 1))) rfl (.inl rfl))
  (@Z0g _ _ _ _ _ (@Z0q _ _ 4 _ _ _ _ nd rfl (Or.inl rfl) (@Z1a _ _ _ _ _ (Z0a (Z0l Z0i (pv 0) Z0b (λ_ _=>rfl)) (Z0a (pv 2) (Z0a (pv 3) Z0c)))) rfl (.inl rfl))
  (@Z0e _ _ _ (Z0k (Z2d (Z2c (Z0j Z0z (Z0j Z0z (pv 2) (pv 3)) (pv 1)) (by intro _;rfl)) (Z0m c9 hr rfl (Z0a (pv 4) Z0c)) (pv 4))))))),?_⟩
 try dsimp only[cxK]
 refine⟨λσ' H'=>H=H'/\σ'=[some (.ref p),some (.int ((2^a:Nat):Int)),some (.int (mxF a f s:Nat)),none,none],?_,?_⟩
 ·exact⟨_,U,p,_,_,.int f,U,U,S,k1,_,U,_,U,_,_,U,U,_,U,p,_,_,.int s,U,U,S,k2,_,U,_,_,U,U,_,_,U,U,U,by rw[<-e1];rfl⟩
 rintro σ' _ ⟨rfl,rfl⟩
 refine⟨λσ' H'=>H=H'/\σ'=[some (.ref p),some (.int ((2^a:Nat):Int)),some (.int (mxF a f s:Nat)),some (.int (mxS a f s:Nat)),none],?_,?_⟩
 ·exact⟨_,U,p,_,_,.int s,U,U,S,k2,_,U,_,U,_,_,U,U,_,U,p,_,_,.int f,U,U,S,k1,_,U,_,_,U,U,_,_,U,U,U,by rw[<-e2];rfl⟩
 rintro σ' _ ⟨rfl,rfl⟩
 refine⟨_,U,p,_,_,.int k,U,U,S,k0,_,U,_,U,t3,λt ht=>?_⟩
 have S1:=Z0f ht (.tup (mkL (k,mxF a f s,mxS a f s)))
 have q1:SqT K (upd H t (.tup (mkL (k,mxF a f s,mxS a f s)))) t (mkL (k,mxF a f s,mxS a f s)):=SqT.of Z0d
 refine⟨_,U,_,U,_,_,U,U,_,U,_,_,U,U,_,U,?_⟩
 rw[tb2,e3]
 refine blI (λz=>?_) (λz=>?_)
 ·refine⟨_,U,t,(k,mxF a f s,mxS a f s),U,q1,λr H2 S2 h2=>q r H2 (S1.trans S2) ?_⟩
  have:mvd (.mix (a:Int)) (k,f,s)=((k+2)%4,mxF a f s,mxS a f s):=by
   rw[Y7r,if_pos z]
  rw[this]
  exact h2
 ·refine⟨_,U,q t _ S1 ?_⟩
  have:mvd (.mix (a:Int)) (k,f,s)=(k,mxF a f s,mxS a f s):=by
   rw[Y7r,if_neg (by rw[z];decide)]
  rw[this]
  exact q1
theorem sc_byturn:FnScope ["mark","bit","k","signs"] ["mark","bit","k"] (Z0h (top 74)):=fS
theorem Y7k (F:FunAt K "moved_by_turn" (top 74) .none)(X:K.In h)(G:Ng h mg):Cal P w K mg base (k+1) "moved_by_turn" ["mark","bit","k"] (Y2t K):=by
 have nd:=sc_byturn.nd
 refine F.cal X G sc_byturn (bnd3 λ_ _ _ _ _ _ _ _ _=>rfl) (λvs H Q E h=>?_) (λf cdv A outer s H vs Q E hr h=>?_)
 ·obtain⟨p,m,a,j,rfl,_⟩:=h;rfl
 obtain⟨p,⟨k,f,s⟩,a,j,rfl,S,q⟩:=h
 refine⟨_,(@Z0g _ _ _ _ _ (Z0w (Z1h (Z2c (Z0j Z0z (Z0l Z0i (pv 0) Z0b (λ_ _=>rfl)) (pv 1)) (by intro _;rfl)))
   (@Z0e _ _ _ (Z0k (pv 0)))
   Z0o)
  (@Z1g _ _ _ _ _ (@Z0q _ _ 3 _ _ _ _ nd rfl (Or.inl rfl) (Z2d (Z0p Z1m (Z0j Z1e (pv 2) Z0b) Z0b (nomark _)) (Z0j Z2e (Z0l Z0i (pv 0) Z0b (λ_ _=>rfl)) (pv 1)) (Z0l Z0i (pv 0) Z0b (λ_ _=>rfl))) rfl (.inl rfl))
  (@Z0e _ _ _ (Z0k (@Z1a _ _ _ _ _ (Z0a (Z0j Z1e (Z0j Z1r (Z0l Z0i (pv 0) Z0b (λ_ _=>rfl)) (Z0j Z2r (pv 2) Z0b)) Z0b) (Z0a (Z0l Z0i (pv 0) Z0b (λ_ _=>rfl)) (Z0a (pv 3) Z0c)))))))),?_⟩
 try dsimp only[cxK]
 refine⟨_,U,p,_,_,.int f,U,U,S,k1,_,U,_,_,U,U,_,U,?_⟩
 rw[tb]
 rw[X0x] at q
 refine nblI (λz=>?_) (λz=>?_)
 ·rw[if_neg (by rw[z];decide)] at q
  exact⟨_,U,q p H (Same.refl _) S⟩
 rw[if_pos z] at q
 refine⟨λσ' H'=>H=H'/\σ'=[some (.ref p),some (.int ((2^a:Nat):Int)),some (.int (j:Int)),some (.int ((if j%4=2 then fl s a else s:Nat):Int))],?_,?_⟩
 ·refine⟨_,U,_,_,U,U,(by show (0:Int)<_;decide),U,_,U,eqI (λy=>?_) (λy=>?_)⟩
  ·exact⟨_,U,p,_,_,.int s,U,U,S,k2,_,U,_,_,U,U,U,by rw[if_pos (by omega),<-xb];rfl⟩
  ·exact⟨_,U,p,_,_,.int s,U,U,S,k2,U,by rw[if_neg (by omega)];rfl⟩
 rintro σ' _ ⟨rfl,rfl⟩
 refine⟨_,U,p,_,_,.int k,U,U,S,k0,_,U,_,_,U,U,⟨by decide,by decide⟩,_,_,U,U,_,_,U,U,(by show (0:Int)<_;decide),_,U,p,_,_,.int f,U,U,S,k1,_,U,t3,λr hr=>q r _ (Z0f hr _) (SqT.of ?_)⟩
 rw[Z0d]
 have e:((k:Int)+(j:Int) / 2)%4=(((k+j / 2)%4:Nat):Int):=by omega
 show some (HO.tup [.int (((k:Int)+(j:Int) / 2)%4),.int f,.int ((if j%4=2 then fl s a else s:Nat):Int)])=_
 rw[e]
theorem sc_byif:FnScope ["mark","bit","other","flips","signs"] ["mark","bit","other"] (Z0h (top 75)):=fS
theorem X5h (F:FunAt K "moved_by_if" (top 75) .none)(X:K.In h)(G:Ng h mg):Cal P w K mg base (k+1) "moved_by_if" ["mark","bit","other"] (spByIf K):=by
 have nd:=sc_byif.nd
 refine F.cal X G sc_byif (bnd3 λ_ _ _ _ _ _ _ _ _=>rfl) (λvs H Q E h=>?_) (λf cdv A outer s H vs Q E hr h=>?_)
 ·obtain⟨p,m,a,j,rfl,_⟩:=h;rfl
 obtain⟨p,⟨k,f,s⟩,a,b,rfl,S,q⟩:=h
 rw[X5s] at q
 refine⟨_,(@Z1g _ _ _ _ _ (@Z0q _ _ 3 _ _ _ _ nd rfl (Or.inl rfl) (Z2d (Z2c (Z0j Z0z (Z0l Z0i (pv 0) Z0b (λ_ _=>rfl)) (pv 1)) (by intro _;rfl)) (Z0j Z2e (Z0l Z0i (pv 0) Z0b (λ_ _=>rfl)) (pv 2)) (Z0l Z0i (pv 0) Z0b (λ_ _=>rfl))) rfl (.inl rfl))
  (@Z1g _ _ _ _ _ (@Z0q _ _ 4 _ _ _ _ nd rfl (Or.inl rfl) (Z2d (Z2c (Z0j Z0z (Z0l Z0i (pv 0) Z0b (λ_ _=>rfl)) (pv 2)) (by intro _;rfl)) (Z0j Z2e (Z0l Z0i (pv 0) Z0b (λ_ _=>rfl)) (pv 1)) (Z0l Z0i (pv 0) Z0b (λ_ _=>rfl))) rfl (.inl rfl))
  (@Z0e _ _ _ (Z0k (@Z1a _ _ _ _ _ (Z0a (Z0l Z0i (pv 0) Z0b (λ_ _=>rfl)) (Z0a (pv 3) (Z0a (pv 4) Z0c)))))))),?_⟩
 try dsimp only[cxK]
 refine⟨λσ' H'=>H=H'/\σ'=[some (.ref p),some (.int ((2^a:Nat):Int)),some (.int ((2^b:Nat):Int)),some (.int ((if f.testBit a then fl f b else f:Nat):Int)),none],?_,?_⟩
 ·refine⟨_,U,p,_,_,.int f,U,U,S,k1,_,U,_,_,U,U,_,U,?_⟩
  rw[tb]
  refine blI (λz=>?_) (λz=>?_)
  ·exact⟨_,U,p,_,_,.int f,U,U,S,k1,_,U,_,_,U,U,U,by rw[if_pos z,<-xb];rfl⟩
  ·exact⟨_,U,p,_,_,.int f,U,U,S,k1,U,by rw[if_neg (by rw[z];decide)];rfl⟩
 rintro σ' _ ⟨rfl,rfl⟩
 refine⟨λσ' H'=>H=H'/\σ'=[some (.ref p),some (.int ((2^a:Nat):Int)),some (.int ((2^b:Nat):Int)),some (.int ((if f.testBit a then fl f b else f:Nat):Int)),some (.int ((if s.testBit b then fl s a else s:Nat):Int))],?_,?_⟩
 ·refine⟨_,U,p,_,_,.int s,U,U,S,k2,_,U,_,_,U,U,_,U,?_⟩
  rw[tb]
  refine blI (λz=>?_) (λz=>?_)
  ·exact⟨_,U,p,_,_,.int s,U,U,S,k2,_,U,_,_,U,U,U,by rw[if_pos z,<-xb];rfl⟩
  ·exact⟨_,U,p,_,_,.int s,U,U,S,k2,U,by rw[if_neg (show ¬ s.testBit b=true by rw[z];decide)];rfl⟩
 rintro σ' _ ⟨rfl,rfl⟩
 exact⟨_,U,p,_,_,.int k,U,U,S,k0,_,U,_,U,t3,λr hr=>q r _ (Z0f hr _) (SqT.of Z0d)⟩
theorem sc_bypair:FnScope ["mark","bit","other","signs","moved"] ["mark","bit","other"] (Z0h (top 76)):=fS
theorem Y7l (F:FunAt K "moved_by_pair" (top 76) .none)(X:K.In h)(G:Ng h mg)(c9:Cal P w K mg base k "turned_about" ["mark"] (Z8l K)):Cal P w K mg base (k+1) "moved_by_pair" ["mark","bit","other"] (Y2u K):=by
 have nd:=sc_bypair.nd
 refine F.cal X G sc_bypair (bnd3 λ_ _ _ _ _ _ _ _ _=>rfl) (λvs H Q E h=>?_) (λf cdv A outer s H vs Q E hr h=>?_)
 ·obtain⟨p,m,a,j,rfl,_⟩:=h;rfl
 obtain⟨p,⟨k,f,s⟩,a,b,rfl,S,q⟩:=h
 rw[X0y] at q
 refine⟨_,(@Z0g _ _ _ _ _ (@Z0q _ _ 3 _ _ _ _ nd rfl (Or.inl rfl) (Z0l Z0i (pv 0) Z0b (λ_ _=>rfl)) rfl (.inl rfl))
  (@Z1g _ _ _ _ _ (Z0w (Z2c (Z0j Z0z (Z0l Z0i (pv 0) Z0b (λ_ _=>rfl)) (pv 1)) (by intro _;rfl))
   (@Z0e _ _ _ (@Z0q _ _ 3 _ _ _ _ nd rfl (Or.inl rfl) (Z0j Z2e (pv 3) (pv 2)) rfl (.inl rfl)))
   Z0o)
  (@Z1g _ _ _ _ _ (Z0w (Z2c (Z0j Z0z (Z0l Z0i (pv 0) Z0b (λ_ _=>rfl)) (pv 2)) (by intro _;rfl))
   (@Z0e _ _ _ (@Z0q _ _ 3 _ _ _ _ nd rfl (Or.inl rfl) (Z0j Z2e (pv 3) (pv 1)) rfl (.inl rfl)))
   Z0o)
  (@Z0g _ _ _ _ _ (@Z0q _ _ 4 _ _ _ _ nd rfl (Or.inl rfl) (@Z1a _ _ _ _ _ (Z0a (Z0l Z0i (pv 0) Z0b (λ_ _=>rfl)) (Z0a (Z0l Z0i (pv 0) Z0b (λ_ _=>rfl)) (Z0a (pv 3) Z0c)))) rfl (.inl rfl))
  (@Z0e _ _ _ (Z0k (Z2d (PW.pt (Z4y (Z2c (Z0j Z0z (Z0l Z0i (pv 0) Z0b (λ_ _=>rfl)) (pv 1)) (by intro _;rfl)) (Z3w (Z2c (Z0j Z0z (Z0l Z0i (pv 0) Z0b (λ_ _=>rfl)) (pv 2)) (by intro _;rfl))))) (Z0m c9 hr rfl (Z0a (pv 4) Z0c)) (pv 4)))))))),?_⟩
 try dsimp only[cxK]
 refine⟨_,U,p,_,_,.int s,U,U,S,k2,?_⟩
 refine⟨λσ' H'=>H=H'/\σ'=[some (.ref p),some (.int ((2^a:Nat):Int)),some (.int ((2^b:Nat):Int)),some (.int ((if f.testBit a then fl s b else s:Nat):Int)),none],?_,?_⟩
 ·refine⟨_,U,p,_,_,.int f,U,U,S,k1,_,U,_,_,U,U,_,U,?_⟩
  rw[tb]
  refine blI (λz=>?_) (λz=>?_)
  ·exact⟨_,U,_,U,_,_,U,U,U,by rw[if_pos z,<-xb];rfl⟩
  ·exact⟨U,by rw[if_neg (by rw[z];decide)];rfl⟩
 rintro σ' _ ⟨rfl,rfl⟩
 refine⟨λσ' H'=>H=H'/\σ'=[some (.ref p),some (.int ((2^a:Nat):Int)),some (.int ((2^b:Nat):Int)),some (.int (prS a b f s:Nat)),none],?_,?_⟩
 ·refine⟨_,U,p,_,_,.int f,U,U,S,k1,_,U,_,_,U,U,_,U,?_⟩
  rw[tb]
  refine blI (λz=>?_) (λz=>?_)
  ·exact⟨_,U,_,U,_,_,U,U,U,by rw[prS,if_pos z,<-xb];rfl⟩
  ·exact⟨U,by rw[prS,if_neg (show ¬ f.testBit b=true by rw[z];decide)]⟩
 rintro σ' _ ⟨rfl,rfl⟩
 refine⟨_,U,p,_,_,.int k,U,U,S,k0,_,U,p,_,_,.int f,U,U,S,k1,_,U,t3,λt ht=>?_⟩
 have S1:=Z0f ht (.tup (mkL (k,f,prS a b f s)))
 have q1:SqT K (upd H t (.tup (mkL (k,f,prS a b f s)))) t (mkL (k,f,prS a b f s)):=SqT.of Z0d
 have SS:=S1.tup S
 refine⟨_,U,p,_,_,.int f,U,U,SS,k1,_,U,_,_,U,U,_,U,?_⟩
 rw[tb]
 refine blI (λz=>?_) (λz=>?_)
 ·refine⟨_,U,p,_,_,.int f,U,U,SS,k1,_,U,_,_,U,U,_,U,?_⟩
  rw[tb]
  refine blI (λy=>?_) (λy=>?_)
  ·rw[if_pos (by rw[z,y];rfl)] at q
   exact⟨_,U,t,(k,f,prS a b f s),U,q1,λr H2 S2 h2=>q r H2 (S1.trans S2) h2⟩
  ·rw[if_neg (by rw[z,y];decide)] at q
   exact⟨_,U,q t _ S1 q1⟩
 ·rw[if_neg (by rw[z];simp)] at q
  exact iteF ⟨_,U,q t _ S1 q1⟩
end
end K55S
namespace K55S
open L2 Ba Am Pc M71
open K76 (top Bs spExch)
open M72 (fl sw VOk)
open M75 (Mk mvd mvds Br)
def Z9k (K:U0):Sp:=λvs H Q _=>∃ (p q:W9) (m:Mk) (x:Mv) (c:Nat),vs=[.ref p,.ref q]/\SqT K H p (mkL m)/\H q=some (mT (mm x))/\OkK c m/\c<=6/\VOk c x/\Br x/\Mkr K H Q (mvd x m)
def Z3h (K:U0):Sp:=λvs H Q _=>∃ (p l:W9) (m:Mk) (row:List Mv) (c:Nat),vs=[.ref p,.ref l]/\SqT K H p (mkL m)/\RowAt H l row/\OkK c m/\c<=6/\(∀ x∈row,VOk c x)/\(∀ x∈row,Br x)/\row.length<=200/\Mkr K H Q (mvds row m)
theorem at0 {x:V}{xs:List V}:atI (x::xs) 0=some x:=L2.Z3b (j:=0) rfl
theorem Y9s {a:Int}(h0:0<=a):(1:Int)*2^a.toNat=((2^a.toNat:Nat):Int):=by simp
theorem X0z (a k f s:Nat):mvd (.flip (a:Int)) (k,f,s)=(if s.testBit a then (k+2)%4 else k,f,s):=rfl
theorem Z2n:∀ (r t:List Mv) (m:Mk),mvds (r++t) m=mvds t (mvds r m)
 | [],_,_=>rfl
 | x::r,t,m=>Z2n r t (mvd x m)
theorem Y1l {c:Nat}:∀ {row:List Mv}{m:Mk},(∀ x∈row,VOk c x)->OkK c m->OkK c (mvds row m)
 | [],_,_,h=>h
 | x::r,m,o,h=>Y1l (row:=r) (λy hy=>o y (.tail _ hy)) (X2v (o x (.head _)) h)
theorem Z2b {H:Hp}:∀ {ps:U3}{ms:List Mm},RowsM H ps ms->ps.length=ms.length
 | [],[],.nil=>rfl
 | _::_,_::_,.cons _ r=>by rw[q2i,q2i,Z2b r]
theorem Z4w {H:Hp}:∀ {ps:U3}{row:List Mv}{i:Nat}{p:W9},RowsM H ps (row.map mm)->ps[i]?=some p->∃ m,row[i]?=some m/\H p=some (mT (mm m))
 | p'::ps,m::ms,0,p,.cons a r,h=>by
  have:p'=p:=by simpa using h
  subst this
  exact⟨m,U,a⟩
 | p'::ps,m::ms,i+1,p,.cons a r,h=>by
  obtain⟨m',b,c⟩:=Z4w (ps:=ps) (row:=ms) (i:=i) (p:=p) r (by simpa using h)
  exact⟨m',b,c⟩
section
variable {P:U8}{w:W1}{K:U0}{mg:U4}{base:Heap}{k:Nat}{h:Heap}
theorem sc_movedby:FnScope ["mark","move","bit","other"] ["mark","move"] (Z0h (top 72)):=fS
theorem Y4n (F:FunAt K "moved_by" (top 72) .none)(X:K.In h)(G:Ng h mg)(c9:Cal P w K mg base k "turned_about" ["mark"] (Z8l K))(dG:Cal P w K mg base k "moved_by_mix" ["mark","bit"] (Y5v K))(d7:Cal P w K mg base k "moved_by_turn" ["mark","bit","k"] (Y2t K))
  (dL:Cal P w K mg base k "moved_by_if" ["mark","bit","other"] (spByIf K)) (d6:Cal P w K mg base k "moved_by_pair" ["mark","bit","other"] (Y2u K)) (cH:Cal P w K mg base k "exchanged" ["word","bit","other"] spExch):Cal P w K mg base (k+1) "moved_by" ["mark","move"] (Z9k K):=by
 have nd:=sc_movedby.nd
 refine F.cal X G sc_movedby (bnd2 λ_ _ _ _ _ _ _ _=>rfl) (λvs H Q E h=>?_) (λf cdv A outer s H vs Q E hr h=>?_)
 ·obtain⟨p,q,m,x,c,rfl,_⟩:=h;rfl
 obtain⟨p,q,⟨k,f,s⟩,x,c,rfl,S,hq,o,c6,ok,br,kq⟩:=h
 have SP:SqT K H q (.str (nm x)::(ns x).map V.int):=SqT.of hq
 obtain⟨g0,g1⟩:0<=hd x/\hd x<(c:Int):=by
  obtain⟨r,e⟩:=Y4z x
  have hm:hd x∈x.cells:=by rw[e];exact .head _
  exact⟨ok.1.nn _ hm,ok.2 _ hm⟩
 refine⟨_,(@Z1g _ _ _ _ _ (@Z0q _ _ 2 _ _ _ _ nd rfl (Or.inl rfl) (Z0j Z1j Z0b (Z0l Z0i (pv 1) Z0b (λ_ _=>rfl))) rfl (.inl rfl))
  (@Z0g _ _ _ _ _ (Z0w (Z0p Z1m (Z0l Z0i (pv 1) Z0b (λ_ _=>rfl)) Z0y (nomark _))
   (@Z0e _ _ _ (Z0k (Z2d (Z2c (Z0j Z0z (Z0l Z0i (pv 0) Z0b (λ_ _=>rfl)) (pv 2)) (by intro _;rfl)) (Z0m c9 hr rfl (Z0a (pv 0) Z0c)) (pv 0))))
   Z0o)
  (@Z0g _ _ _ _ _ (Z0w (Z0p Z1m (Z0l Z0i (pv 1) Z0b (λ_ _=>rfl)) Z0y (nomark _))
   (@Z0e _ _ _ (Z0k (Z0m dG hr rfl (Z0a (pv 0) (Z0a (pv 2) Z0c)))))
   Z0o)
  (@Z0g _ _ _ _ _ (Z0w (Z0p Z1m (Z0l Z0i (pv 1) Z0b (λ_ _=>rfl)) Z0y (nomark _))
   (@Z0e _ _ _ (Z0k (Z0m d7 hr rfl (Z0a (pv 0) (Z0a (pv 2) (Z0a (Z0l Z0i (pv 1) Z0b (λ_ _=>rfl)) Z0c))))))
   Z0o)
  (@Z1g _ _ _ _ _ (@Z0q _ _ 3 _ _ _ _ nd rfl (Or.inl rfl) (Z0j Z1j Z0b (Z0l Z0i (pv 1) Z0b (λ_ _=>rfl))) rfl (.inl rfl))
  (@Z0g _ _ _ _ _ (Z0w (Z0p Z1m (Z0l Z0i (pv 1) Z0b (λ_ _=>rfl)) Z0y (nomark _))
   (@Z0e _ _ _ (Z0k (Z0m dL hr rfl (Z0a (pv 0) (Z0a (pv 2) (Z0a (pv 3) Z0c))))))
   Z0o)
  (@Z0g _ _ _ _ _ (Z0w (Z0p Z1m (Z0l Z0i (pv 1) Z0b (λ_ _=>rfl)) Z0y (nomark _))
   (@Z0e _ _ _ (Z0k (Z0m d6 hr rfl (Z0a (pv 0) (Z0a (pv 2) (Z0a (pv 3) Z0c))))))
   Z0o)
  (@Z0e _ _ _ (Z0k (@Z1a _ _ _ _ _ (Z0a (Z0l Z0i (pv 0) Z0b (λ_ _=>rfl)) (Z0a (Z0m cH hr rfl (Z0a (Z0l Z0i (pv 0) Z0b (λ_ _=>rfl)) (Z0a (pv 2) (Z0a (pv 3) Z0c)))) (Z0a (Z0m cH hr rfl (Z0a (Z0l Z0i (pv 0) Z0b (λ_ _=>rfl)) (Z0a (pv 2) (Z0a (pv 3) Z0c)))) Z0c))))))))))))),?_⟩
 try dsimp only[cxK]
 refine⟨λσ' H'=>H=H'/\σ'=[some (.ref p),some (.ref q),some (.int ((2^(hd x).toNat:Nat):Int)),none],?_,?_⟩
 ·exact⟨_,U,q,_,_,.int (hd x),U,U,SP,at1m x,_,_,U,U,⟨1,sz1,by omega,by omega⟩,U,by rw[<-Y9s g0];rfl⟩
 rintro σ' _ ⟨rfl,rfl⟩
 cases x with
 | flip a =>
  obtain⟨A,rfl⟩:∃ A:Nat,a=(A:Int):=⟨a.toNat,(tn g0).symm⟩
  rw[X0z] at kq
  refine⟨_,U,q,_,_,.str "flip",U,U,SP,at0,U,_,U,decI (λ_=>?_) (λz=>absurd rfl z)⟩
  refine⟨_,U,p,_,_,.int s,U,U,S,k2,_,U,_,_,U,U,_,U,?_⟩
  show (if (Builtin.bitAnd (s:Int) ((2^A:Nat):Int) != 0)=true then _ else _)
  rw[tb]
  refine blI (λz=>?_) (λz=>?_)
  ·rw[if_pos z] at kq
   exact⟨_,U,p,(k,f,s),U,S,kq⟩
  ·rw[if_neg (by rw[z];decide)] at kq
   exact⟨_,U,kq p H (Same.refl _) S⟩
 | mix a =>
  obtain⟨A,rfl⟩:∃ A:Nat,a=(A:Int):=⟨a.toNat,(tn g0).symm⟩
  refine⟨_,U,q,_,_,.str "mix",U,U,SP,at0,U,_,U,decI (λz=>absurd (V.str.inj z) (by decide)) (λ_=>?_)⟩
  refine⟨_,U,q,_,_,.str "mix",U,U,SP,at0,U,_,U,decI (λ_=>?_) (λz=>absurd rfl z)⟩
  exact⟨_,U,_,U,p,(k,f,s),c,A,U,S,o,c6,by have:(A:Int)<c:=g1;omega,kq⟩
 | turn a j =>
  have okj:0<=a/\1<=j/\j<=7:=ok.1
  obtain⟨A,rfl⟩:∃ A:Nat,a=(A:Int):=⟨a.toNat,(tn g0).symm⟩
  obtain⟨J,rfl⟩:∃ J:Nat,j=(J:Int):=⟨j.toNat,(tn (by omega)).symm⟩
  refine⟨_,U,q,_,_,.str "turn",U,U,SP,at0,U,_,U,decI (λz=>absurd (V.str.inj z) (by decide)) (λ_=>?_)⟩
  refine⟨_,U,q,_,_,.str "turn",U,U,SP,at0,U,_,U,decI (λz=>absurd (V.str.inj z) (by decide)) (λ_=>?_)⟩
  refine⟨_,U,q,_,_,.str "turn",U,U,SP,at0,U,_,U,decI (λ_=>?_) (λz=>absurd rfl z)⟩
  exact⟨_,U,_,U,_,U,q,_,_,.int J,U,U,SP,k2,p,(k,f,s),A,J,U,S,kq⟩
 | iff a b =>
  have okj:0<=a/\0<=b/\a≠b:=ok.1
  have hb:b<(c:Int):=ok.2 b (by simp[Mv.cells])
  obtain⟨A,rfl⟩:∃ A:Nat,a=(A:Int):=⟨a.toNat,(tn g0).symm⟩
  obtain⟨J,rfl⟩:∃ J:Nat,b=(J:Int):=⟨b.toNat,(tn okj.2.1).symm⟩
  refine⟨_,U,q,_,_,.str "if",U,U,SP,at0,U,_,U,decI (λz=>absurd (V.str.inj z) (by decide)) (λ_=>?_)⟩
  refine⟨_,U,q,_,_,.str "if",U,U,SP,at0,U,_,U,decI (λz=>absurd (V.str.inj z) (by decide)) (λ_=>?_)⟩
  refine⟨_,U,q,_,_,.str "if",U,U,SP,at0,U,_,U,decI (λz=>absurd (V.str.inj z) (by decide)) (λ_=>?_)⟩
  refine⟨λσ' H'=>H=H'/\σ'=[some (.ref p),some (.ref q),some (.int ((2^A:Nat):Int)),some (.int ((2^J:Nat):Int))],?_,?_⟩
  ·exact⟨_,U,q,_,_,.int J,U,U,SP,k2,_,_,U,U,⟨1,sz1,by omega,by omega⟩,U,by rw[<-ipow J];rfl⟩
  rintro σ' _ ⟨rfl,rfl⟩
  refine⟨_,U,q,_,_,.str "if",U,U,SP,at0,U,_,U,decI (λ_=>?_) (λz=>absurd rfl z)⟩
  exact⟨_,U,_,U,_,U,p,(k,f,s),A,J,U,S,kq⟩
 | pair a b =>
  have okj:0<=a/\0<=b/\a≠b:=ok.1
  have hb:b<(c:Int):=ok.2 b (by simp[Mv.cells])
  obtain⟨A,rfl⟩:∃ A:Nat,a=(A:Int):=⟨a.toNat,(tn g0).symm⟩
  obtain⟨J,rfl⟩:∃ J:Nat,b=(J:Int):=⟨b.toNat,(tn okj.2.1).symm⟩
  refine⟨_,U,q,_,_,.str "pair",U,U,SP,at0,U,_,U,decI (λz=>absurd (V.str.inj z) (by decide)) (λ_=>?_)⟩
  refine⟨_,U,q,_,_,.str "pair",U,U,SP,at0,U,_,U,decI (λz=>absurd (V.str.inj z) (by decide)) (λ_=>?_)⟩
  refine⟨_,U,q,_,_,.str "pair",U,U,SP,at0,U,_,U,decI (λz=>absurd (V.str.inj z) (by decide)) (λ_=>?_)⟩
  refine⟨λσ' H'=>H=H'/\σ'=[some (.ref p),some (.ref q),some (.int ((2^A:Nat):Int)),some (.int ((2^J:Nat):Int))],?_,?_⟩
  ·exact⟨_,U,q,_,_,.int J,U,U,SP,k2,_,_,U,U,⟨1,sz1,by omega,by omega⟩,U,by rw[<-ipow J];rfl⟩
  rintro σ' _ ⟨rfl,rfl⟩
  refine⟨_,U,q,_,_,.str "pair",U,U,SP,at0,U,_,U,decI (λz=>absurd (V.str.inj z) (by decide)) (λ_=>?_)⟩
  refine⟨_,U,q,_,_,.str "pair",U,U,SP,at0,U,_,U,decI (λ_=>?_) (λz=>absurd rfl z)⟩
  exact⟨_,U,_,U,_,U,p,(k,f,s),A,J,U,S,kq⟩
 | swap a b =>
  have okj:0<=a/\0<=b/\a≠b:=ok.1
  have hb:b<(c:Int):=ok.2 b (by simp[Mv.cells])
  obtain⟨A,rfl⟩:∃ A:Nat,a=(A:Int):=⟨a.toNat,(tn g0).symm⟩
  obtain⟨J,rfl⟩:∃ J:Nat,b=(J:Int):=⟨b.toNat,(tn okj.2.1).symm⟩
  refine⟨_,U,q,_,_,.str "swap",U,U,SP,at0,U,_,U,decI (λz=>absurd (V.str.inj z) (by decide)) (λ_=>?_)⟩
  refine⟨_,U,q,_,_,.str "swap",U,U,SP,at0,U,_,U,decI (λz=>absurd (V.str.inj z) (by decide)) (λ_=>?_)⟩
  refine⟨_,U,q,_,_,.str "swap",U,U,SP,at0,U,_,U,decI (λz=>absurd (V.str.inj z) (by decide)) (λ_=>?_)⟩
  refine⟨λσ' H'=>H=H'/\σ'=[some (.ref p),some (.ref q),some (.int ((2^A:Nat):Int)),some (.int ((2^J:Nat):Int))],?_,?_⟩
  ·exact⟨_,U,q,_,_,.int J,U,U,SP,k2,_,_,U,U,⟨1,sz1,by omega,by omega⟩,U,by rw[<-ipow J];rfl⟩
  rintro σ' _ ⟨rfl,rfl⟩
  refine⟨_,U,q,_,_,.str "swap",U,U,SP,at0,U,_,U,decI (λz=>absurd (V.str.inj z) (by decide)) (λ_=>?_)⟩
  refine⟨_,U,q,_,_,.str "swap",U,U,SP,at0,U,_,U,decI (λz=>absurd (V.str.inj z) (by decide)) (λ_=>?_)⟩
  have ac:A<c:=by have:(A:Int)<c:=g1;omega
  have bc:J<c:=by omega
  have ne:A≠J:=λz=>okj.2.2 (by rw[z])
  refine⟨_,U,p,_,_,.int k,U,U,S,k0,_,U,p,_,_,.int f,U,U,S,k1,_,U,_,U,f,A,J,U,λH1 S1=>?_⟩
  refine⟨_,U,p,_,_,.int s,U,U,S1.tup S,k2,_,U,_,U,s,A,J,U,λH2 S2=>⟨t3,λr hr=>kq r _ ((S1.trans S2).trans (Z0f hr _)) (SqT.of ?_)⟩⟩
  rw[Z0d,(Y4y c6 ac bc ne o.f).1,(Y4y c6 ac bc ne o.s).1]
  rfl
 | cross a b d=>exact absurd br id
theorem sc_through:FnScope ["mark","row","behind","move"] ["mark","row"] (Z0h (top 71)):=fS
theorem Y4l (F:FunAt K "moved_through" (top 71) .none)(X:K.In h)(G:Ng h mg)(eI:Cal P w K mg base k "moved_by" ["mark","move"] (Z9k K)):Cal P w K mg base (k+1) "moved_through" ["mark","row"] (Z3h K):=by
 have nd:=sc_through.nd
 refine F.cal X G sc_through (bnd2 λ_ _ _ _ _ _ _ _=>rfl) (λvs H Q E h=>?_) (λf cdv A outer s H vs Q E hr h=>?_)
 ·obtain⟨p,q,m,x,c,rfl,_⟩:=h;rfl
 obtain⟨p,l,m,row,c,rfl,S,⟨ps,hl,hrow⟩,o,c6,ok,br,l200,kq⟩:=h
 have SL:SqL K H l (ps.map V.ref):=SqL.of hl
 have pl:ps.length=row.length:=by have:=Z2b hrow;rw[q0a] at this;exact this
 refine⟨_,(@Z0g _ _ _ _ _ (@Z0q _ _ 2 _ _ _ _ nd rfl (Or.inl rfl) (pv 0) rfl (.inl rfl))
  (@Z0g _ _ _ _ _ (Z2w PassesOwn.never rfl (Z1p (pv 1)) (Z0t (i:=3) nd rfl (Or.inl rfl))
   (@Z0e _ _ _ (@Z0q _ _ 2 _ _ _ _ nd rfl (Or.inl rfl) (Z0m eI hr rfl (Z0a (pv 2) (Z0a (pv 3) Z0c))) rfl (.inl rfl))))
  (@Z0e _ _ _ (Z0k (pv 2))))),?_⟩
 try dsimp only[cxK]
 refine⟨_,U,_,U,l,U,⟨_,SL⟩,Z3d (K:=K) (a:=l) (xs:=ps.map V.ref) (λi σ H'=>Same H H'/\∃ (b:W9) (v3:Option V),SqT K H' b (mkL (mvds (row.take i) m))/\σ=[some (.ref p),some (.ref l),some (.ref b),v3])
  ⟨Same.refl _,p,none,by rw[q5b];exact S,U⟩ (λi σ H' _ e=>e.1.seq SL) ?_ ?_⟩
 ·rintro i x σ H1 hx ⟨S1,b,v3,hb,rfl⟩
  rw[q0g] at hx
  obtain⟨q,hq,rfl⟩:=q0p.mp hx
  obtain⟨y,hy,ey⟩:=Z4w hrow hq
  have hm:y∈row:=q1g hy
  refine⟨_,U,_,U,b,q,_,y,c,U,hb,S1 _ _ ey,Y1l (λz hz=>ok z (q6e hz)) o,c6,ok y hm,br y hm,λr H2 S2 h2=>⟨S1.trans S2,r,_,?_,U⟩⟩
  rw[q1s,hy,q1u,Z2n]
  exact h2
 ·rintro σ H1 ⟨S1,b,v3,hb,rfl⟩
  rw[q0a,pl,q2e] at hb
  exact⟨_,U,kq b H1 S1 hb⟩
end
end K55S
namespace K55S
open L2 Ba Am Pc M71
open K76 (top Bs)
open M72 (fl sw VOk)
open M75 (Mk mvd mvds Br)
noncomputable def oddT:Mv->Bool
 | .turn _ j=>decide (V.int (j%2)=V.int 1)
 | _=>false
noncomputable def brB:Mv->Bool
 | .cross _ _ _=>false
 | x=>!oddT x
def spOdd:Sp:=λvs H Q _=>∃ (p:W9) (x:Mv),vs=[.ref p]/\H p=some (mT (mm x))/\Q (.bl (oddT x)) H
def spIsBr:Sp:=λvs H Q _=>∃ (p:W9) (x:Mv),vs=[.ref p]/\H p=some (mT (mm x))/\Q (.bl (brB x)) H
theorem Y5g {x:Mv}(e:nm x="turn"):∃ a j,x=.turn a j:=by
 have:=(X6c x).mp e
 cases x<;>first | exact⟨_,_,U⟩ | simp[code] at this
theorem X5j {x:Mv}(e:nm x≠"turn"):oddT x=false:=by cases x<;>first | rfl | exact absurd rfl e
theorem X1t {x:Mv}(e:nm x="cross"):brB x=false:=by
 have:=(X1h x).mp e
 cases x<;>first | rfl | simp[code] at this
theorem W0x {x:Mv}(e:nm x≠"cross"):brB x=!oddT x:=by cases x<;>first | rfl | exact absurd rfl e
theorem W0y {x:Mv}(o:M72.Ok x):brB x=true ↔ Br x:=by
 cases x with
 | turn a j =>
  have:0<=a/\1<=j/\j<=7:=o
  show (!decide (V.int (j%2)=V.int 1))=true ↔ j.toNat%2=0
  by_cases h:j%2=1
  ·rw[q0q (by rw[h])]
   simp
   omega
  ·rw[q0k (λz=>h (V.int.inj z))]
   simp
   omega
 | cross a b d=>exact⟨λz=>(nomatch z),λz=>z.elim⟩
 | _=>exact⟨λ_=>trivial,λ_=>rfl⟩
noncomputable def fst:List Mv->Option Nat
 | []=>none
 | x::r=>if brB x then (fst r).map (·+1) else some 0
noncomputable def oV:Option Nat->V
 | none=>.non
 | some n=>.int n
def Y5w:Sp:=λvs H Q _=>∃ (l:W9) (row:List Mv),vs=[.ref l]/\RowAt H l row/\row.length<=200/\∀ H',Same H H'->Q (oV (fst row)) H'
theorem X3g:∀ {row:List Mv}{i:Nat}{x:Mv},(∀ y∈row.take i,brB y=true)->row[i]?=some x->brB x=false->fst row=some i
 | y::r,0,x,_,hx,hb=>by
  have:y=x:=by simpa using hx
  subst this
  show (if brB y then _ else some 0)=_
  rw[if_neg (by rw[hb];decide)]
 | y::r,i+1,x,h,hx,hb=>by
  have hy:=h y (by rw[List.take_succ_cons];exact .head _)
  show (if brB y then (fst r).map (·+1) else some 0)=_
  rw[if_pos hy,X3g (row:=r) (i:=i) (x:=x) (λz hz=>h z (by rw[List.take_succ_cons];exact .tail _ hz)) (by simpa using hx) hb]
  rfl
theorem Z8v:∀ {row:List Mv},(∀ y∈row,brB y=true)->fst row=none
 | [],_=>rfl
 | y::r,h=>by
  show (if brB y then (fst r).map (·+1) else some 0)=_
  rw[if_pos (h y (.head _)),Z8v λz hz=>h z (.tail _ hz)]
  rfl
section
variable {P:U8}{w:W1}{K:U0}{mg:U4}{base:Heap}{k:Nat}{h:Heap}
theorem sc_odd:FnScope ["move"] ["move"] (Z0h (top 68)):=fS
theorem X8u (F:FunAt K "is_odd_turn" (top 68) .none)(X:K.In h)(G:Ng h mg):Cal P w K mg base (k+1) "is_odd_turn" ["move"] spOdd:=by
 have nd:=sc_odd.nd
 refine F.cal X G sc_odd (bnd1 λ_ _ _ _ _ _ _=>rfl) (λvs H Q E h=>?_) (λf cdv A outer s H vs Q E hr h=>?_)
 ·obtain⟨p,x,rfl,_⟩:=h;rfl
 obtain⟨p,x,rfl,hp,q⟩:=h
 have SP:SqT K H p (.str (nm x)::(ns x).map V.int):=SqT.of hp
 refine⟨_,(@Z0e _ _ _ (Z0k (Z2o (Z1b Z1m (Z0l Z0i (pv 0) Z0b (λ_ _=>rfl)) Z0y (nomark _)) (Z2j (Z1b Z1m (Z0j Z1e (Z0l Z0i (pv 0) Z0b (λ_ _=>rfl)) Z0b) Z0b (nomark _)))))),?_⟩
 try dsimp only[cxK]
 refine⟨_,U,p,_,_,.str (nm x),U,U,SP,at0m x,U,?_⟩
 by_cases e:nm x="turn"
 ·obtain⟨a,j,rfl⟩:=Y5g e
  exact⟨_,U,decI (λ_=>⟨_,U,p,_,_,.int j,U,U,SP,k2,_,_,U,U,(by show (0:Int)<_;decide),U,q⟩) (λz=>absurd rfl z)⟩
 ·refine⟨_,U,decI (λz=>absurd (V.str.inj z) e) (λ_=>?_)⟩
  rw[X5j e] at q
  exact q
theorem sc_isbr:FnScope ["move"] ["move"] (Z0h (top 67)):=fS
theorem X5c (F:FunAt K "is_borne" (top 67) .none)(X:K.In h)(G:Ng h mg)(dJ:Cal P w K mg base k "is_odd_turn" ["move"] spOdd):Cal P w K mg base (k+1) "is_borne" ["move"] spIsBr:=by
 have nd:=sc_isbr.nd
 refine F.cal X G sc_isbr (bnd1 λ_ _ _ _ _ _ _=>rfl) (λvs H Q E h=>?_) (λf cdv A outer s H vs Q E hr h=>?_)
 ·obtain⟨p,x,rfl,_⟩:=h;rfl
 obtain⟨p,x,rfl,hp,q⟩:=h
 have SP:SqT K H p (.str (nm x)::(ns x).map V.int):=SqT.of hp
 refine⟨_,(@Z0e _ _ _ (Z0k (Z2o (Z1b Z5r (Z0l Z0i (pv 0) Z0b (λ_ _=>rfl)) Z0y (nomark _)) (Z2j (Z6b (Z0m dJ hr rfl (Z0a (pv 0) Z0c))))))),?_⟩
 try dsimp only[cxK]
 refine⟨_,U,p,_,_,.str (nm x),U,U,SP,at0m x,U,?_⟩
 by_cases e:nm x="cross"
 ·refine⟨_,U,nblI (λz=>absurd (by rw[e]) (q3u z)) (λ_=>?_)⟩
  rw[X1t e] at q
  exact q
 ·refine⟨_,U,nblI (λ_=>?_) (λz=>absurd (V.str.inj (q1t z)) e)⟩
  refine⟨_,U,p,x,U,hp,_,U,?_⟩
  rw[W0x e] at q
  exact q
theorem sc_borne:FnScope ["row","place","move"] ["row"] (Z0h (top 66)):=fS
theorem X0r (F:FunAt K "borne" (top 66) .none)(X:K.In h)(G:Ng h mg)(B:Bs mg)(eF:Cal P w K mg base k "is_borne" ["move"] spIsBr):Cal P w K mg base (k+1) "borne" ["row"] Y5w:=by
 have nd:=sc_borne.nd
 refine F.cal X G sc_borne (bnd1 λ_ _ _ _ _ _ _=>rfl) (λvs H Q E h=>?_) (λf cdv A outer s H vs Q E hr h=>?_)
 ·obtain⟨l,row,rfl,_⟩:=h;rfl
 obtain⟨l,row,rfl,⟨ps,hl,hrow⟩,l200,kq⟩:=h
 have SL:SqL K H l (ps.map V.ref):=SqL.of hl
 have pl:ps.length=row.length:=by have:=Z2b hrow;rw[q0a] at this;exact this
 refine⟨_,(@Z0g _ _ _ _ _ (Z2w PassesOwn.never rfl (Z3y rfl B.enumerate (Z0a (pv 0) Z0c)) (@Z9v _ _ _ _ _ _ rfl (@Z2m _ _ _ _ _ (@Z0t _ _ 1 _ nd rfl (Or.inl rfl) (by first | exact .inl rfl | exact .inr rfl)) (@Z2m _ _ _ _ _ (@Z0t _ _ 2 _ nd rfl (Or.inl rfl) (by first | exact .inl rfl | exact .inr rfl)) Z7d rfl) rfl) rfl rfl)
   (@Z0e _ _ _ (Z0w (Z1h (Z1d (Z0m eF hr rfl (Z0a (pv 2) Z0c))))
    (@Z0e _ _ _ (Z0k (pv 1)))
    Z0o)))
  (@Z0e _ _ _ (Z0k Z7e))),?_⟩
 try dsimp only[cxK]
 refine⟨_,U,l,_,U,SL,Z8x (K:=K) (a:=l) (xs:=ps.map V.ref) (λi σ H'=>Same H H'/\(∀ y∈row.take i,brB y=true)/\∃ (v1 v2:Option V),σ=[some (.ref l),v1,v2])
  ⟨Same.refl _,(λy hy=>by rw[q5b] at hy;cases hy),none,none,U⟩ (λi σ H' _ e=>e.1.seq SL) ?_ ?_⟩
 ·rintro i x σ H1 T hx ⟨S1,hb,v1,v2,rfl⟩ hT
  rw[q0g] at hx
  obtain⟨q,hq,rfl⟩:=q0p.mp hx
  obtain⟨y,hy,ey⟩:=Z4w hrow hq
  have S2:=S1.trans (Z0f hT (.tup [.int i,.ref q]))
  refine⟨T,_,U,SqT.of Z0d,U,_,_,U,_,_,U,U,?_⟩
  refine⟨_,U,q,y,U,S2 _ _ ey,_,U,nblI (λz=>?_) (λz=>?_)⟩
  ·have:=kq _ S2
   rw[X3g hb hy z] at this
   exact⟨_,U,this⟩
  ·refine⟨S2,λu hu=>?_,_,_,U⟩
   rw[q1s,hy,q1u] at hu
   rcases q1n.mp hu with hu | hu
   ·exact hb u hu
   ·rw[q1a.mp hu];exact z
 ·rintro σ H1 ⟨S1,hb,v1,v2,rfl⟩
  rw[q0a,pl,q2e] at hb
  have:=kq _ S1
  rw[Z8v hb] at this
  exact this
end
end K55S
namespace K55S
open L2 Ba Am Pc M71
open K76 (top Bs Bd5 ValsK At5 Z6v Z3g Z4g Ams Z5e)
open M72 (fl sw VOk V4 En sm rowop)
open M75 (Mk mvd mvds Br lay bn bp)
noncomputable abbrev layW (m:Mk)(f:Nat->A5)(w:Nat):A5:=spin (f (w^^^m.2.1)) ((2*m.1+4*pc ((w^^^m.2.1)&&&m.2.2):Nat):Int)
def Y5r (K:U0):Sp:=λvs H Q _=>∃ (l p:W9) (ps:U3) (f:Nat->A5) (c n M wd:Nat) (m:Mk),vs=[.ref l,.int wd,.ref p]/\Bd5 K H l ps f c n M/\wd<2^c/\SqT K H p (mkL m)/\OkK c m ∧
 ∀ (r:W9) (H':Hp),Same H H'->At5 K H' r (spin (f wd) ((2*m.1+4*pc (wd&&&m.2.2):Nat):Int))->Q (.ref r) H'
def spLayK (K:U0):Sp:=λvs H Q _=>∃ (l p:W9) (ps:U3) (f:Nat->A5) (c n M:Nat) (m:Mk),vs=[.ref l,.ref p]/\Bd5 K H l ps f c n M/\c<=6/\SqT K H p (mkL m)/\OkK c m ∧
 ∀ (r:W9) (H':Hp) (qs:U3),H r=none->Same H H'->Bd5 K H' r qs (layW m f) c n M->Q (.ref r) H'
theorem X9n {c n:Nat}{m:Mk}{F:M72.Bv}{f:Nat->A5}(o:OkK c m)(h:∀ w,w<2^c->Vl n (F w) (f w)):∀ w,w<2^c->Vl n (lay m F w) (layW m f w):=by
 intro w hw
 have hx:=h (w^^^m.2.1) (q2l hw o.f)
 have q:=hx.rot ((((2*m.1+4*pc ((w^^^m.2.1)&&&m.2.2):Nat):Int)%8).toNat)
 have e:lay m F w=En ((((2*m.1+4*pc ((w^^^m.2.1)&&&m.2.2):Nat):Int)%8).toNat) (F (w^^^m.2.1)):=by
  unfold lay
  refine M75.X7b ?_ _
  have hb:bn (bp ((w^^^m.2.1)&&&m.2.2))=pc ((w^^^m.2.1)&&&m.2.2)%2:=by
   unfold bp bn
   rcases q0z (pc ((w^^^m.2.1)&&&m.2.2)) with a | a<;>rw[a]<;>rfl
  rw[hb]
  omega
 rw[e]
 exact q
theorem Z5s {x y:Nat}:[V.int (Builtin.bitAnd (x:Int) (y:Int))]=[V.int ((x&&&y:Nat):Int)]:=by rw[Z3t]
section
variable {P:U8}{w:W1}{K:U0}{mg:U4}{base:Heap}{k:Nat}{h:Heap}
theorem sc_ones:FnScope ["number","many","rest"] ["number"] (Z0h (top 13)):=fS
theorem Y1h (F:FunAt K "ones" (top 13) .none)(X:K.In h)(G:Ng h mg):Cal P w K mg base (k+1) "ones" ["number"] spOnes:=by
 have nd:=sc_ones.nd
 refine F.cal X G sc_ones (bnd1 λ_ _ _ _ _ _ _=>rfl) (λvs H Q E h=>?_) (λf cdv A outer s H vs Q E hr h=>?_)
 ·obtain⟨n,rfl,_⟩:=h;rfl
 obtain⟨n,rfl,q⟩:=h
 refine⟨_,(@Z0g _ _ _ _ _ (@Z0q _ _ 1 _ _ _ _ nd rfl (Or.inl rfl) Z0b rfl (.inl rfl))
  (@Z0g _ _ _ _ _ (@Z0q _ _ 2 _ _ _ _ nd rfl (Or.inl rfl) (pv 0) rfl (.inl rfl))
  (@Z0g _ _ _ _ _ (Z4z PassesOwn.never (Z0p Z5r (pv 2) Z0b (nomark _))
   (@Z0g _ _ _ _ _ (@Z0q _ _ 2 _ _ _ _ nd rfl (Or.inl rfl) (Z0j Z0z (pv 2) (Z0j Z3c (pv 2) Z0b)) rfl (.inl rfl))
   (@Z0e _ _ _ (@Z0q _ _ 1 _ _ _ _ nd rfl (Or.inl rfl) (Z0j Z1r (pv 1) Z0b) rfl (.inl rfl)))))
  (@Z0e _ _ _ (Z0k (pv 1)))))),?_⟩
 try dsimp only[cxK]
 refine⟨_,U,λm σ H'=>H'=H/\∃ j r:Nat,m=pc r/\j+pc r=pc n/\σ=[some (.int n),some (.int j),some (.int r)],⟨_,U,0,n,U,q4f _,U⟩,?_⟩
 rintro m σ H' ⟨rfl,j,r,rfl,hj,rfl⟩
 refine⟨_,U,U,_,U,neI (λhr0=>?_) (λhr0=>?_)⟩
 ·have r0:r≠0:=by omega
  have e:=Y1a (r+1) r (by omega) r0
  refine⟨_,λσ' H' x=>x,?_⟩
  refine⟨_,U,_,U,_,_,U,U,_,_,U,U,?_⟩
  refine⟨_,U,_,_,U,U,⟨pc (r&&&(r-1)),by omega,U,j+1,r&&&(r-1),U,by omega,?_⟩⟩
  have e2:Builtin.bitAnd (r:Int) ((r:Int)-1)=((r&&&(r-1):Nat):Int):=by rw[show (r:Int)-1=((r-1:Nat):Int) by omega,Z3t]
  show [some (V.int n),some (V.int ((j:Int)+1)),some (V.int (Builtin.bitAnd (r:Int) ((r:Int)-1)))]=_
  rw[e2]
  rfl
 ·have r0:r=0:=by omega
  subst r0
  rw[Z1x,q3g] at hj
  subst hj
  exact⟨_,U,q⟩
theorem sc_smark:FnScope ["board","word","mark"] ["board","word","mark"] (Z0h (top 37)):=fS
theorem X0h (F:FunAt K "spun_by_mark" (top 37) .none)(X:K.In h)(G:Ng h mg)(cS:Cal P w K mg base k "spun" ["one","k"] (Z6v K))(cD:Cal P w K mg base k "ones" ["number"] spOnes):Cal P w K mg base (k+1) "spun_by_mark" ["board","word","mark"] (Y5r K):=by
 have nd:=sc_smark.nd
 refine F.cal X G sc_smark (bnd3 λ_ _ _ _ _ _ _ _ _=>rfl) (λvs H Q E h=>?_) (λf cdv A outer s H vs Q E hr h=>?_)
 ·obtain⟨l,p,ps,f,c,n,M,wd,m,rfl,_⟩:=h;rfl
 obtain⟨l,p,ps,f,c,n,M,wd,⟨k,fl,s⟩,rfl,BD,hw,S,o,kq⟩:=h
 have k4:=o.k
 obtain⟨q,_,hq,ae⟩:=BD.at hw
 refine⟨_,(@Z0e _ _ _ (Z0k (Z0m cS hr rfl (Z0a (Z0l Z1k (pv 0) (pv 1) (λ_ _=>rfl)) (Z0a (Z0j Z1r (Z0j Z4b Z0b (Z0l Z0i (pv 2) Z0b (λ_ _=>rfl))) (Z0j Z4b Z0b (Z0m cD hr rfl (Z0a (Z0j Z0z (pv 1) (Z0l Z0i (pv 2) Z0b (λ_ _=>rfl))) Z0c)))) Z0c))))),?_⟩
 try dsimp only[cxK]
 refine⟨_,U,_,U,l,_,_,_,U,U,SqL.of BD.lst,ae,?_⟩
 refine⟨_,U,p,_,_,_,U,U,S,k0,_,_,U,U,.inl ⟨by decide,by decide⟩,_,U,_,U,p,_,_,_,U,U,S,k2,_,_,U,U,wd&&&s,Z5s,_,_,U,U,.inl ⟨by decide,by decide⟩,_,_,U,U,?_⟩
 refine⟨q,(f wd).1.1,(f wd).1.2.1,(f wd).1.2.2.1,(f wd).1.2.2.2,(f wd).2,_,U,hq,λr H' S' e'=>kq r H' S' ?_⟩
 have e:(2*(k:Int)+4*(pc (wd&&&s):Int))=((2*k+4*pc (wd&&&s):Nat):Int):=by omega
 rw[<-e]
 exact e'
theorem sc_laid:FnScope ["board","mark"] ["board","mark"] (Z0h (top 36)):=fS
theorem X5a (F:FunAt K "laid_on" (top 36) .none)(X:K.In h)(G:Ng h mg)(B:Bs mg)(dH:Cal P w K mg base k "spun_by_mark" ["board","word","mark"] (Y5r K)):Cal P w K mg base (k+1) "laid_on" ["board","mark"] (spLayK K):=by
 have nd:=sc_laid.nd
 refine F.cal X G sc_laid (bnd2 λ_ _ _ _ _ _ _ _=>rfl) (λvs H Q E h=>?_) (λf cdv A outer s H vs Q E hr h=>?_)
 ·obtain⟨l,p,ps,f,c,n,M,m,rfl,_⟩:=h;rfl
 obtain⟨l,p,ps,f,c,n,M,m,rfl,BD,c6,S,o,kq⟩:=h
 have p6:=pow6 c6
 have SL:SqL K H l (ps.map V.ref):=SqL.of BD.lst
 have hlen:(((ps.map V.ref).length:Nat):Int).toNat=2^c:=by rw[q0a,BD.len,q0x]
 refine⟨_,(@Z0e _ _ _ (Z0k (Z3e rfl (LcOk.of (Nc:=["word","board","mark"]) (mp:=[none,some 0,some 1]) (by kernel_rfl)) (Z1v rfl B.range (Z0a (Z0n Z0r rfl B.len q1k (Z0a (pv 0) Z0c)) Z0c)) (λ_ _ _ _=>(Z0t (i:=0) (show (["word","board","mark"]:W0).Nodup by decide +kernel) rfl (Or.inl rfl))) (λ_ _ _ _=>(Z0m dH hr rfl (Z0a (pv 1) (Z0a (Z0j Z2e (pv 0) (Z0l Z4e (pv 2) Z0b (λ_ _=>rfl))) (Z0a (pv 2) Z0c)))))))),?_⟩
 try dsimp only[cxK]
 refine⟨_,U,l,_,U,.inl SL,_,U,by rw[q0a,BD.len];omega,by rw[q0a,BD.len];omega,λacc hacc=>?_⟩
 rw[hlen]
 refine Z4i (n:=2^c) (fr:=[some (.ref l),some (.ref p)]) (λi ys H'=>∃ qs:List Addr,Same H H'/\H' acc=some (.lst ys)/\ys=qs.map V.ref/\qs.length=i/\ValsK K H' qs (layW m f)) (t64 p6)
  ⟨[],Z0f hacc _,Z0d,U,U,(λ_ _ z=>by cases z)⟩ ?_ ?_
 ·rintro i ys H2 N hi hy ⟨qs,S2,a2,rfl,ql,v2⟩ kN
  refine⟨_,U,_,U,_,U,p,_,_,_,U,U,S2.tup S,k1,_,_,U,U,_,U,l,p,ps,f,c,n,M,i^^^m.2.1,m,?_,BD.same S2,q2l hi o.f,S2.tup S,o,λr H3 S3 hr3=>?_⟩
  ·show [V.ref l,V.int (Builtin.bitXor (0+(i:Int)) (m.2.1:Nat)),V.ref p]=_
   rw[q3x,Z3u]
  ·refine kN (.ref r) H3 (S3 _ _ a2) ⟨qs++[r],Z0v (S2.trans S3) hacc,Z0d,by rw[q0i];rfl,by simp[ql],?_⟩
   have:=Z4g (ys:=qs.map V.ref++[.ref r]) (xs:=qs.map V.ref) (Z3g v2 S3 hr3) (S3 _ _ a2)
   intro j q hj
   have t:=this j q hj
   have e:(if j=qs.length then spin (f (i^^^m.2.1)) ((2*m.1+4*pc ((i^^^m.2.1)&&&m.2.2):Nat):Int) else layW m f j)=layW m f j:=by
    by_cases e:j=qs.length
    ·rw[if_pos e,e,ql]
    ·rw[if_neg e]
   rw[<-e]
   exact t
 ·rintro ys H2 hy ⟨qs,S2,a2,rfl,ql,v2⟩
  exact kq acc H2 qs hacc S2 ⟨a2,ql,v2,λi hi=>Z5e (BD.ok _ (q2l hi o.f))⟩
end
end K55S
namespace K55S
open L2 Ba Am Pc M71
open K76 (top Bs Bd5 ValsK At5 Ams Z5e Steps spRunK)
open M72 (fl sw VOk V4 En sm rowop)
open M75 (Mk mvd mvds Br lay bn bp)
theorem Y7x {c:Nat}:∀ {row:List Mv} (F:M72.Bv) (m:Mk),(∀ x∈row,VOk c x)->(∀ x∈row,Br x)->rowop row (lay m F)=lay (mvds row m) (rowop row F)
 | [],_,_,_,_=>rfl
 | x::r,F,m,o,b=>by
  show rowop r (M72.op x (lay m F))=lay (mvds r (mvd x m)) (rowop r (M72.op x F))
  rw[M75.X3q (o x (.head _)).1 (b x (.head _))]
  exact Y7x (row:=r) _ _ (λy hy=>o y (.tail _ hy)) (λy hy=>b y (.tail _ hy))
def X4b (K:U0):Sp:=Z3h K
def spChk:Sp:=λvs H Q _=>∃ (l:W9) (row:List Mv),vs=[.ref l]/\RowAt H l row/\row.length<=200/\(∀ x∈row,brB x=true)/\∀ H',Same H H'->Q .non H'
theorem W0z {c:Nat}{row:List Mv}(ok:∀ x∈row,VOk c x)(br:∀ x∈row,Br x):∀ x∈row,brB x=true:=λx hx=>(W0y (ok x hx).1).mpr (br x hx)
theorem Y6j {α:Type}{F:Addr->α->Prop}{a:W9}{b:α}:∀ {l:U3}{m:List α},Paired F l m->F a b->Paired F (l++[a]) (m++[b])
 | _,_,.nil,h=>.cons h .nil
 | _,_,.cons x r,h=>.cons x (Y6j r h)
theorem Y6k {α:Type}{F G:Addr->α->Prop}(f:∀ a b,F a b->G a b):∀ {l:U3}{m:List α},Paired F l m->Paired G l m
 | _,_,.nil=>.nil
 | _,_,.cons x r=>.cons (f _ _ x) (Y6k f r)
section
variable {P:U8}{w:W1}{K:U0}{mg:U4}{base:Heap}{k:Nat}{h:Heap}
theorem sc_chk:FnScope ["row","place"] ["row"] (Z0h (top 70)):=fS
theorem X8x (F:FunAt K "check_borne" (top 70) .none)(X:K.In h)(G:Ng h mg)(eU:Cal P w K mg base k "borne" ["row"] Y5w):Cal P w K mg base (k+1) "check_borne" ["row"] spChk:=by
 have nd:=sc_chk.nd
 refine F.cal X G sc_chk (bnd1 λ_ _ _ _ _ _ _=>rfl) (λvs H Q E h=>?_) (λf cdv A outer s H vs Q E hr h=>?_)
 ·obtain⟨l,row,rfl,_⟩:=h;rfl
 obtain⟨l,row,rfl,R,l200,br,kq⟩:=h
 refine⟨_,(@Z0g _ _ _ _ _ (@Z0q _ _ 1 _ _ _ _ nd rfl (Or.inl rfl) (Z0m eU hr rfl (Z0a (pv 0) Z0c)) rfl (.inl rfl))
  (@Z0e _ _ _ (Z0w (Z0p X4s (pv 1) Z7e (nomark _))
   (@Z0e _ _ _ Z2s)
   Z0o))),?_⟩
 try dsimp only[cxK]
 refine⟨_,U,l,row,U,R,l200,λH1 S1=>?_⟩
 rw[Z8v br]
 refine⟨_,U,?_⟩
 exact⟨U,_,U,nblI (λz=>absurd rfl (q3u z)) (λ_=>kq H1 S1)⟩
theorem sc_mmark:FnScope ["mark","row"] ["mark","row"] (Z0h (top 69)):=fS
theorem X0j (F:FunAt K "moved_mark" (top 69) .none)(X:K.In h)(G:Ng h mg)(dI:Cal P w K mg base k "check_borne" ["row"] spChk)(c8:Cal P w K mg base k "moved_through" ["mark","row"] (Z3h K)):Cal P w K mg base (k+1) "moved_mark" ["mark","row"] (Z3h K):=by
 have nd:=sc_mmark.nd
 refine F.cal X G sc_mmark (bnd2 λ_ _ _ _ _ _ _ _=>rfl) (λvs H Q E h=>?_) (λf cdv A outer s H vs Q E hr h=>?_)
 ·obtain⟨p,q,m,x,c,rfl,_⟩:=h;rfl
 obtain⟨p,l,m,row,c,rfl,S,R,o,c6,ok,br,l200,kq⟩:=h
 refine⟨_,(@Z0g _ _ _ _ _ (Z2x (Z0m dI hr rfl (Z0a (pv 1) Z0c)))
  (@Z0e _ _ _ (Z0k (Z0m c8 hr rfl (Z0a (pv 0) (Z0a (pv 1) Z0c)))))),?_⟩
 try dsimp only[cxK]
 refine⟨_,U,l,row,U,R,l200,W0z ok br,λH1 S1=>?_⟩
 exact⟨_,U,_,U,p,l,m,row,c,U,S1.tup S,R.same S1,o,c6,ok,br,l200,λr H2 S2 h2=>kq r H2 (S1.trans S2) h2⟩
end
end K55S
set_option maxHeartbeats 1000000
namespace M75
open M71 M71.Mv M72 Pc
noncomputable def ev (m:Mk):Nat:=(m.1+bn (bp (m.2.1&&&m.2.2)))%2
theorem Z5y (k f s:Nat):ev (k,f,s)=(k+bn (bp (f&&&s)))%2:=rfl
theorem W0k {x:Mv}(o:Ok x)(b:Br x)(m:Mk):ev (mvd x m)=ev m:=by
 obtain⟨k,f,s⟩:=m
 cases x with
 | flip a =>
  show ev ((if s.testBit a.toNat then (k+2)%4 else k),f,s)=_
  rw[Z5y,Z5y]
  split<;>omega
 | mix a =>
  show ev (if f.testBit a.toNat && s.testBit a.toNat then (k+2)%4 else k,if f.testBit a.toNat=s.testBit a.toNat then f else fl f a.toNat,if f.testBit a.toNat=s.testBit a.toNat then s else fl s a.toNat)=_
  rw[Z5y,Z5y]
  cases hf:f.testBit a.toNat<;>cases hs:s.testBit a.toNat<;>simp[Z3k,Z1z,hf,hs,Z2q]
  ·omega
 | turn a j =>
  have hj:0<=a/\1<=j/\j<=7:=o
  have he:j.toNat%2=0:=b
  show ev (if f.testBit a.toNat then ((k+j.toNat / 2)%4,f,if j.toNat%4=2 then fl s a.toNat else s) else (k,f,s))=_
  generalize hJ:j.toNat=J at he
  have:J=2∨J=4∨J=6:=by omega
  cases hf:f.testBit a.toNat
  ·rfl
  ·rcases this with rfl | rfl | rfl
   ·simp[Z5y,Z1z,hf]
    cases bp (f&&&s)<;>simp[bn]<;>omega
   ·simp[Z5y]
    omega
   ·simp[Z5y,Z1z,hf]
    cases bp (f&&&s)<;>simp[bn]<;>omega
 | iff a c =>
  have ho:0<=a/\0<=c/\a≠c:=o
  have ne:a.toNat≠c.toNat:=by omega
  show ev (k,if f.testBit a.toNat then fl f c.toNat else f,if s.testBit c.toNat then fl s a.toNat else s)=_
  rw[Z5y,Z5y]
  generalize a.toNat=A at *
  generalize c.toNat=C at *
  cases hf:f.testBit A<;>cases hs:s.testBit C<;>simp[Z3k,Z1z,hf,hs,Z1l ne,Z1l (Ne.symm ne)]
 | pair a c =>
  have ho:0<=a/\0<=c/\a≠c:=o
  have ne:a.toNat≠c.toNat:=by omega
  show ev (if f.testBit a.toNat && f.testBit c.toNat then (k+2)%4 else k,f,(if f.testBit c.toNat then fl (if f.testBit a.toNat then fl s c.toNat else s) a.toNat else if f.testBit a.toNat then fl s c.toNat else s))=_
  rw[Z5y,Z5y]
  generalize a.toNat=A at *
  generalize c.toNat=C at *
  cases hf:f.testBit A<;>cases hs:f.testBit C<;>simp[Z1z,hf,hs]
  ·omega
 | swap a c =>
  have ho:0<=a/\0<=c/\a≠c:=o
  have ne:a.toNat≠c.toNat:=by omega
  show ev (k,sw f a.toNat c.toNat,sw s a.toNat c.toNat)=_
  rw[Z5y,Z5y]
  have e:(sw f a.toNat c.toNat&&&sw s a.toNat c.toNat)=sw (f&&&s) a.toNat c.toNat:=by
   apply Z6h
   intro j
   rw[q2f,Z2p _ _ _ _ ne,Z2p _ _ _ _ ne,Z2p _ _ _ _ ne,q2f,q2f,q2f]
   split
   ·rfl
   ·split<;>rfl
  rw[e,W1a]
 | cross a c d=>exact absurd b id
theorem Y1u:∀ {row:List Mv} (m:Mk),(∀ x∈row,Ok x)->(∀ x∈row,Br x)->ev (mvds row m)=ev m
 | [],_,_,_=>rfl
 | x::r,m,o,b=>(Y1u (row:=r) (mvd x m) (λy hy=>o y (.tail _ hy)) (λy hy=>b y (.tail _ hy))).trans (W0k (o x (.head _)) (b x (.head _)) m)
end M75
set_option maxHeartbeats 4000000
namespace K55S
open L2 Ba Am Pc M71
open K76 (top Bs Bd5 ValsK At5 Ams Z5e Steps spRunK)
open M72 (fl sw VOk V4 En sm rowop)
open M75 (Mk mvd mvds Br lay bn bp ev)
theorem rows5k {K:U0}{H:Hp}:∀ {ps:U3}{f:Nat->A5},ValsK K H ps f->Rows5K K H ps ((List.range ps.length).map λi=>l5 (f i))
 | [],f,_=>.nil
 | p::ps,f,v=>by
  have r:=rows5k (ps:=ps) (f:=λi=>f (i+1)) λi q hq=>v (i+1) q (by simpa using hq)
  rw[q2i,List.range_succ_eq_map,q1v,q3w]
  exact .cons (v 0 p rfl) r
theorem X2n {K:U0}{H:Hp}{l:W9}{ps:U3}{f:Nat->A5}{c n m:Nat}(b:Bd5 K H l ps f c n m):Rows5K K H ps ((List.range (2^c)).map λi=>l5 (f i)):=by
 have:=rows5k b.vals
 rw[b.len] at this
 exact this
section
variable {P:U8}{w:W1}{K:U0}{mg:U4}{base:Heap}{k:Nat}{h:Heap}
theorem sc_whole:FnScope ["_law_found"] ["_law_found"] (Z0h (top 86)):=fS
theorem X0c (F:FunAt K "_law_whole" (top 86) .none)(X:K.In h)(G:Ng h mg)(B:Bs mg):Cal P w K mg base (k+1) "_law_whole" ["_law_found"] Z3m:=by
 have nd:=sc_whole.nd
 refine F.cal X G sc_whole (bnd1 λ_ _ _ _ _ _ _=>rfl) (λvs H Q E h=>?_) (λf cdv A outer s H vs Q E hr h=>?_)
 ·obtain⟨i,rfl,_⟩:=h;rfl
 obtain⟨i,rfl,q⟩:=h
 refine⟨_,(@Z0e _ _ _ (Z0k (Z2o (Z0n Z0x rfl B.isinstance q1l (Z0a (pv 0) (Z0a (Z1w (v:=.ty "int") rfl B.int boot_int rfl) Z0c))) (Z2j (Z6b (Z0n Z0x rfl B.isinstance q1l (Z0a (pv 0) (Z0a (Z1w (v:=.ty "bool") rfl B.bool q8y rfl) Z0c)))))))),?_⟩
 try dsimp only[cxK]
 refine⟨_,U,_,_,_,true,U,TyOf.int i,Y3j K,_,U,iteT ?_⟩
 exact⟨_,U,_,_,_,false,U,TyOf.int i,Y3k K,_,U,q⟩
end
end K55S
namespace L2
section
variable {X:Cx}
end
end L2
namespace M77
open M71 Mv M72 M75
noncomputable def bk:Mv->Mv
 | .turn a j=>.turn a (8-j)
 | x=>x
theorem mod4 {k:Nat}(h:k<4):((k+2)%4+2)%4=k:=by omega
theorem X9g {x:Mv}(o:Ok x)(b:Br x){m:Mk}(h:m.1<4):mvd (bk x) (mvd x m)=m:=by
 obtain⟨k,f,s⟩:=m
 have h:k<4:=h
 cases x with
 | flip a =>
  show (if s.testBit a.toNat then ((if s.testBit a.toNat then (k+2)%4 else k)+2)%4 else (if s.testBit a.toNat then (k+2)%4 else k),f,s)=_
  by_cases c:s.testBit a.toNat=true
  ·simp only[c,q5q];rw[mod4 h]
  ·simp only[c,q3z];simp
 | mix a =>
  by_cases c:f.testBit a.toNat=true<;>by_cases d:s.testBit a.toNat=true<;>simp[bk,mvd,c,d,Z2q,M72.Y0h,mod4 h]
 | turn a j =>
  obtain⟨a0,j1,j7⟩:0<=a/\1<=j/\j<=7:=o
  have b:j.toNat%2=0:=b
  have hj:j=2∨j=4∨j=6:=by omega
  by_cases c:f.testBit a.toNat=true
  ·rcases hj with rfl | rfl | rfl<;>simp[bk,mvd,c,M72.Y0h]<;>omega
  ·simp[bk,mvd,c]
 | iff a b' =>
  obtain⟨a0,b0,n⟩:0<=a/\0<=b'/\a≠b':=o
  have n':a.toNat≠b'.toNat:=by omega
  by_cases c:f.testBit a.toNat=true<;>by_cases d:s.testBit b'.toNat=true<;>simp[bk,mvd,c,d,Z1l n',Z1l n'.symm,M72.Y0h]
 | pair a b' =>
  obtain⟨a0,b0,n⟩:0<=a/\0<=b'/\a≠b':=o
  have fc:∀ w,fl (fl w a.toNat) b'.toNat=fl (fl w b'.toNat) a.toNat:=λw=>by
   unfold fl
   rw[q1z,q4g (2^a.toNat),<-q1z]
  by_cases c:f.testBit a.toNat=true<;>by_cases d:f.testBit b'.toNat=true<;>simp[bk,mvd,c,d,M72.Y0h,fc,mod4 h]
 | swap a b' =>
  obtain⟨a0,b0,n⟩:0<=a/\0<=b'/\a≠b':=o
  have n':a.toNat≠b'.toNat:=by omega
  simp[bk,mvd,W1m n']
 | cross a b' d=>exact b.elim
theorem Z2n:∀ (r t:List Mv) (m:Mk),mvds (r++t) m=mvds t (mvds r m)
 | [],_,_=>rfl
 | x::r,t,m=>Z2n r t (mvd x m)
end M77
namespace K55S
open L2 Ba Am Pc M71
open K76 (top Bs)
open M72 (VOk)
open M75 (Mk mvd mvds Br)
open M77 (bk)
section
variable {P:U8}{w:W1}{K:U0}{mg:U4}{base:Heap}{k:Nat}{h:Heap}
end
end K55S
namespace M78
open M71 Mv M72 M75 M77
noncomputable def mts (m:Mk)(e:Nat):List Mv:=if m.2.1.testBit e then (if m.2.2.testBit e then [.turn (e:Int) 2,.mix (e:Int)] else [.mix (e:Int)]) else []
noncomputable def low:Nat->Nat->Nat
 | 0,_=>0
 | k+1,w=>if w%2=1 then 0 else low k (w / 2)+1
noncomputable def rg (j n:Nat):List Nat:=(List.range n).map (·+j)
noncomputable def ls1 (m:Mk)(j c:Nat):List Mv:=(rg j (c-j)).flatMap (mts m)
noncomputable def kpt (n:Mk)(j:Nat):Nat:=j+low 6 (n.2.2 >>> j)
noncomputable def s2 (n:Mk)(j c:Nat):List Mv:=((List.range c).filter λe=>decide (e≠kpt n j) && n.2.2.testBit e).map λ(e:Nat)=>Mv.iff (e:Int) (kpt n j:Int)
noncomputable def s3 (n:Mk)(j:Nat):List Mv:=if kpt n j=j then [] else [.swap (j:Int) (kpt n j:Int)]
noncomputable def s4 (n:Mk)(j c:Nat):List Mv:=if (mvds (s2 n j c++s3 n j) n).1=0 then [] else [.flip (j:Int)]
noncomputable def tailS (n:Mk)(j c:Nat):List Mv:=s2 n j c++s3 n j++s4 n j c
noncomputable def layS (m:Mk)(j c:Nat):List Mv:=ls1 m j c++tailS (mvds (ls1 m j c) m) j c
noncomputable def okb (j c:Nat):Mv->Bool
 | .flip a=>decide ((j:Int)<=a) && decide (a<(c:Int))
 | .mix a=>decide ((j:Int)<=a) && decide (a<(c:Int))
 | .turn a k=>decide ((j:Int)<=a) && decide (a<(c:Int)) && (decide (k=2) || decide (k=4) || decide (k=6))
 | .iff a b=>decide ((j:Int)<=a) && decide (a<(c:Int)) && decide ((j:Int)<=b) && decide (b<(c:Int)) && decide (a≠b)
 | .swap a b=>decide ((j:Int)<=a) && decide (a<(c:Int)) && decide ((j:Int)<=b) && decide (b<(c:Int)) && decide (a≠b)
 | _=>false
noncomputable def allM (n:Nat)(p:Nat->Nat->Bool):Bool:=(List.range 2).all λq=>(List.range n).all λw=>p q w
end M78
namespace M79
open M71 Mv M72 M75 M77 M78
noncomputable def cm (m n:Mk):Bool:=bp (m.2.1&&&n.2.2) ^^ bp (m.2.2&&&n.2.1)
theorem W0r {x:Mv}(o:Ok x)(b:Br x)(m n:Mk):cm (mvd x m) (mvd x n)=cm m n:=by
 obtain⟨k,f,s⟩:=m
 obtain⟨l,g,t⟩:=n
 cases x with
 | flip a=>rfl
 | mix a =>
  show (bp ((if f.testBit a.toNat=s.testBit a.toNat then f else fl f a.toNat)&&&(if g.testBit a.toNat=t.testBit a.toNat then t else fl t a.toNat)) ^^ bp ((if f.testBit a.toNat=s.testBit a.toNat then s else fl s a.toNat)&&&(if g.testBit a.toNat=t.testBit a.toNat then g else fl g a.toNat)))=(bp (f&&&t) ^^ bp (s&&&g))
  cases hf:f.testBit a.toNat<;>cases hs:s.testBit a.toNat<;>cases hg:g.testBit a.toNat<;>cases ht:t.testBit a.toNat<;>simp[Z3k,Z1z,Z2q,hf,hs,hg,ht]
 | turn a j =>
  show cm (if f.testBit a.toNat then _ else _) (if g.testBit a.toNat then _ else _)=_
  cases hf:f.testBit a.toNat<;>cases hg:g.testBit a.toNat<;>by_cases hj:j.toNat%4=2<;>simp[cm,hj,Z3k,Z1z,hf,hg]
 | iff a b' =>
  obtain⟨a0,b0,n⟩:0<=a/\0<=b'/\a≠b':=o
  have n':a.toNat≠b'.toNat:=by omega
  show (bp ((if f.testBit a.toNat then fl f b'.toNat else f)&&&(if t.testBit b'.toNat then fl t a.toNat else t)) ^^ bp ((if s.testBit b'.toNat then fl s a.toNat else s)&&&(if g.testBit a.toNat then fl g b'.toNat else g)))=(bp (f&&&t) ^^ bp (s&&&g))
  cases hf:f.testBit a.toNat<;>cases hs:s.testBit b'.toNat<;>cases hg:g.testBit a.toNat<;>cases ht:t.testBit b'.toNat<;>simp[Z3k,Z1z,Z1l n',Z1l n'.symm,hf,hs,hg,ht]
 | pair a b' =>
  show (bp (f&&&(if g.testBit b'.toNat then fl (if g.testBit a.toNat then fl t b'.toNat else t) a.toNat else if g.testBit a.toNat then fl t b'.toNat else t)) ^^ bp ((if f.testBit b'.toNat then fl (if f.testBit a.toNat then fl s b'.toNat else s) a.toNat else if f.testBit a.toNat then fl s b'.toNat else s)&&&g))=(bp (f&&&t) ^^ bp (s&&&g))
  cases hf:f.testBit a.toNat<;>cases hs:f.testBit b'.toNat<;>cases hg:g.testBit a.toNat<;>cases ht:g.testBit b'.toNat<;>simp[Z3k,Z1z,hf,hs,hg,ht]
 | swap a b' =>
  obtain⟨a0,b0,n⟩:0<=a/\0<=b'/\a≠b':=o
  have n':a.toNat≠b'.toNat:=by omega
  show (bp (sw f a.toNat b'.toNat&&&sw t a.toNat b'.toNat) ^^ bp (sw s a.toNat b'.toNat&&&sw g a.toNat b'.toNat))=(bp (f&&&t) ^^ bp (s&&&g))
  have sws:∀ x y:Nat,bp (sw x a.toNat b'.toNat&&&sw y a.toNat b'.toNat)=bp (x&&&y):=λx y=>by
   unfold sw
   cases hf:x.testBit a.toNat<;>cases hs:x.testBit b'.toNat<;>cases hg:y.testBit a.toNat<;>cases ht:y.testBit b'.toNat<;>simp[Z3k,Z1z,Z1l n',Z1l n'.symm,Z2q,hf,hs,hg,ht]
  rw[sws,sws]
 | cross a b' d=>exact b.elim
theorem Y8p:∀ {row:List Mv} (m n:Mk),(∀ x∈row,Ok x)->(∀ x∈row,Br x)->cm (mvds row m) (mvds row n)=cm m n
 | [],_,_,_,_=>rfl
 | x::r,m,n,o,b=>(Y8p (row:=r) (mvd x m) (mvd x n) (λy hy=>o y (.tail _ hy)) (λy hy=>b y (.tail _ hy))).trans (W0r (o x (.head _)) (b x (.head _)) m n)
theorem cm_s (m:Mk)(i:Nat):cm m (0,0,2^i)=m.2.1.testBit i:=by
 unfold cm
 show (bp (m.2.1&&&2^i) ^^ bp (m.2.2&&&0))=_
 rw[q4h,Y8z,q8w,Y1z,Bool.xor_false]
theorem Z5d {j c:Nat}{x:Mv}(h:okb j c x=true):VOk c x/\Br x/\∀ a∈x.cells,(j:Int)<=a:=by
 cases x<;>simp only[okb,q0u,q2x,q1f,q2u] at h
 ·exact⟨⟨by show (0:Int)<=_;omega,λy hy=>by simp[Mv.cells] at hy;omega⟩,trivial,λy hy=>by simp[Mv.cells] at hy;omega⟩
 ·exact⟨⟨by show (0:Int)<=_;omega,λy hy=>by simp[Mv.cells] at hy;omega⟩,trivial,λy hy=>by simp[Mv.cells] at hy;omega⟩
 ·rename_i a k
  obtain⟨⟨h1,h2⟩,h3⟩:=h
  refine⟨⟨⟨by omega,by omega,by omega⟩,λy hy=>by simp[Mv.cells] at hy;omega⟩,?_,λy hy=>by simp[Mv.cells] at hy;omega⟩
  show k.toNat%2=0
  omega
 ·exact⟨⟨⟨by omega,by omega,by omega⟩,λy hy=>by simp[Mv.cells] at hy;omega⟩,trivial,λy hy=>by simp[Mv.cells] at hy;omega⟩
 ·exact⟨⟨⟨by omega,by omega,by omega⟩,λy hy=>by simp[Mv.cells] at hy;omega⟩,trivial,λy hy=>by simp[Mv.cells] at hy;omega⟩
theorem X5q {x:Mv}{m:Mk}(h:∀ a∈x.cells,m.2.1.testBit a.toNat=false/\m.2.2.testBit a.toNat=false):mvd x m=m:=by
 obtain⟨k,f,s⟩:=m
 cases x with
 | flip a =>
  have:=h a (by simp[Mv.cells])
  simp[mvd,this.2]
 | mix a =>
  have:=h a (by simp[Mv.cells])
  simp[mvd,this.1,this.2]
 | turn a j =>
  have:=h a (by simp[Mv.cells])
  simp[mvd,this.1]
 | iff a b =>
  have h1:=h a (by simp[Mv.cells])
  have h2:=h b (by simp[Mv.cells])
  simp[mvd,h1.1,h2.2]
 | pair a b =>
  have h1:=h a (by simp[Mv.cells])
  have h2:=h b (by simp[Mv.cells])
  simp[mvd,h1.1,h2.1]
 | swap a b =>
  have h1:=h a (by simp[Mv.cells])
  have h2:=h b (by simp[Mv.cells])
  simp[mvd,sw,h1.1,h1.2,h2.1,h2.2]
 | cross a b d=>rfl
theorem Y3g {j c i:Nat}(hi:i<j){m:Mk}(hm:m=(0,0,2^i)∨m=(0,2^i,0)):∀ {row:List Mv},(∀ x∈row,okb j c x=true)->mvds row m=m
 | [],_=>rfl
 | x::r,h=>by
  have ox:=Z5d (h x (.head _))
  have:mvd x m=m:=X5q λa ha=>by
   have:=ox.2.2 a ha
   have ne:i≠a.toNat:=by omega
   rcases hm with rfl | rfl
   ·exact⟨q3a _,by show (2^i).testBit _=_;rw[q2a];exact q0k ne⟩
   ·exact⟨by show (2^i).testBit _=_;rw[q2a];exact q0k ne,q3a _⟩
  show mvds r (mvd x m)=m
  rw[this]
  exact Y3g hi hm λy hy=>h y (.tail _ hy)
noncomputable def bwd (row:List Mv):List Mv:=row.reverse.map bk
theorem Z9f:∀ {row:List Mv}{m:Mk},(∀ x∈row,Ok x)->(∀ x∈row,Br x)->m.1<4->(∀ x (n:Mk),x∈row->n.1<4->(mvd x n).1<4)->mvds (bwd row) (mvds row m)=m
 | [],_,_,_,_,_=>rfl
 | x::r,m,o,b,h,k=>by
  show mvds ((x::r).reverse.map bk) (mvds r (mvd x m))=m
  rw[List.reverse_cons,q0i,Z2n]
  rw[show mvds (r.reverse.map bk) (mvds r (mvd x m))=mvd x m from Z9f (λy hy=>o y (.tail _ hy)) (λy hy=>b y (.tail _ hy)) (k x m (.head _) h) λy n hy=>k y n (.tail _ hy)]
  exact X9g (o x (.head _)) (b x (.head _)) h
end M79
namespace M80
open M71 Mv M72 M75 M77 M78 M79
structure Bdm (c:Nat) (m:Mk):Prop where
 k:m.1<4
 f:m.2.1<2^c
 s:m.2.2<2^c
theorem X6x {n:Nat}{p:Nat->Nat->Bool}(h:allM n p=true){q w:Nat}(hq:q<2)(hw:w<n):p q w=true:=by
 unfold allM at h
 rw[q1e] at h
 have h1:=h q (q1c.mpr hq)
 rw[q1e] at h1
 exact h1 w (q1c.mpr hw)
def Sm (i:Nat)(m n:Mk):Prop:=m.2.1.testBit i=n.2.1.testBit i/\m.2.2.testBit i=n.2.2.testBit i
theorem X9i {m n:Mk}{e:Nat}(h:Sm e n m):(mvds (mts m e) n).2.1.testBit e=false/\(mvds (mts m e) n).2.2.testBit e=(m.2.1.testBit e || m.2.2.testBit e)/\∀ i,i≠e->Sm i (mvds (mts m e) n) n:=by
 obtain⟨k,f,s⟩:=n
 obtain⟨h1,h2⟩:f.testBit e=m.2.1.testBit e/\s.testBit e=m.2.2.testBit e:=h
 unfold mts
 cases hf:m.2.1.testBit e<;>cases hs:m.2.2.testBit e<;>rw[hf] at h1<;>rw[hs] at h2
 ·exact⟨h1,by show s.testBit e=_;rw[h2];rfl,λi hi=>⟨U,U⟩⟩
 ·exact⟨h1,by show s.testBit e=_;rw[h2];rfl,λi hi=>⟨U,U⟩⟩
 ·simp[mvds,mvd,h1,h2,Z2q,Sm]
  intro i hi
  rw[Z1l hi,Z1l hi]
  exact⟨U,U⟩
 ·simp[mvds,mvd,h1,h2,Z2q,Sm,M72.Y0h]
  intro i hi
  rw[Z1l hi]
theorem Y1n {m:Mk}:∀ {es:W3}{n:Mk},es.Nodup->(∀ e∈es,Sm e n m)->(∀ e∈es,(mvds (es.flatMap (mts m)) n).2.1.testBit e=false/\(mvds (es.flatMap (mts m)) n).2.2.testBit e=(m.2.1.testBit e || m.2.2.testBit e))/\∀ i,i ∉ es->Sm i (mvds (es.flatMap (mts m)) n) n
 | [],n,_,_=>⟨(λe he=>by cases he),λi _=>⟨rfl,rfl⟩⟩
 | x::es,n,nd,h=>by
  obtain⟨nx,nd⟩:=q4r.mp nd
  obtain⟨a1,a2,a3⟩:=X9i (h x (.head _))
  have ih:=Y1n (m:=m) (es:=es) (n:=mvds (mts m x) n) nd λe he=>by
   have ne:e≠x:=λz=>nx (z ▸ he)
   exact⟨(a3 e ne).1.trans (h e (.tail _ he)).1,(a3 e ne).2.trans (h e (.tail _ he)).2⟩
  rw[q7b,Z2n]
  refine⟨λe he=>?_,λi hi=>?_⟩
  ·rcases q0s.mp he with rfl | he
   ·have:=ih.2 e nx
    exact⟨this.1.trans a1,this.2.trans a2⟩
   ·exact ih.1 e he
  ·have h1:=ih.2 i λz=>hi (.tail _ z)
   have h2:=a3 i λz=>hi (z ▸ .head _)
   exact⟨h1.1.trans h2.1,h1.2.trans h2.2⟩
theorem rg_mem {j n e:Nat}:e∈rg j n ↔ j<=e/\e<j+n:=by
 unfold rg
 rw[q2k]
 constructor
 ·rintro ⟨a,ha,rfl⟩
  have:=q1c.mp ha
  omega
 ·rintro ⟨h1,h2⟩
  exact⟨e-j,q1c.mpr (by omega),by omega⟩
theorem X8c (j n:Nat):(rg j n).Nodup:=by
 unfold rg
 exact List.Pairwise.map _ (λa b h=>by omega) List.nodup_range
theorem Y8g {f:Nat->List Mv}{k:Nat}(h:∀ e,(f e).length<=k):∀ es:List Nat,(es.flatMap f).length<=k*es.length
 | []=>q1o _
 | x::es=>by
  have:=Y8g h es
  have:=h x
  rw[q7b,q0j,q2i,Nat.mul_add]
  omega
theorem W2r {f:Nat->List Mv}{j c:Nat}{es:W3}(h:∀ e,j<=e->e<c->∀ x∈f e,okb j c x=true)(he:∀ e∈es,j<=e/\e<c):∀ x∈es.flatMap f,okb j c x=true:=λx hx=>by
 obtain⟨e,h1,h2⟩:=List.mem_flatMap.mp hx
 exact h e (he e h1).1 (he e h1).2 x h2
theorem X9h {m:Mk}{j c e:Nat}(h1:j<=e)(h2:e<c):∀ x∈mts m e,okb j c x=true:=λx hx=>by
 unfold mts at hx
 have a:decide ((j:Int)<=(e:Int))=true:=q0q (by omega)
 have b:decide ((e:Int)<(c:Int))=true:=q0q (by omega)
 split at hx
 ·split at hx
  ·rcases q0s.mp hx with rfl | hx
   ·simp[okb,a,b];omega
   ·rw[q1a.mp hx];simp[okb];omega
  ·rw[q1a.mp hx];simp[okb];omega
 ·cases hx
theorem Y1m (m:Mk)(e:Nat):(mts m e).length<=2:=by
 unfold mts
 split
 ·split<;>simp
 ·exact q1o _
theorem Y2d {c:Nat}(hb:∀ (x:Mv) (m:Mk),VOk c x->Bdm c m->Bdm c (mvd x m)):∀ {row:List Mv}{m:Mk},(∀ x∈row,VOk c x)->Bdm c m->Bdm c (mvds row m)
 | [],_,_,h=>h
 | x::r,m,o,h=>Y2d hb (row:=r) (λy hy=>o y (.tail _ hy)) (hb x m (o x (.head _)) h)
section
variable {c j:Nat}{m:Mk} (c6:c<=6) (jc:j<c) (hb:∀ (x:Mv) (m:Mk),VOk c x->Bdm c m->Bdm c (mvd x m)) (b:Bdm c m) (e:ev m=0) (z:∀ i,i<j->m.2.1.testBit i=false/\m.2.2.testBit i=false)
include c6 jc hb b e z
end
end M80
namespace K55S
open L2 Ba Am Pc M71
open K76 (top Bs)
open M72 (VOk)
open M75 (Mk mvd mvds Br bn bp ev)
open M77 (bk)
open M79 (cm)
noncomputable def lt4 (f s:Bool):Str:=if f then (if s then "b" else "f") else (if s then "s" else ".")
def spSgn (K:U0):Sp:=λvs H Q _=>∃ (p:W9) (m:Mk) (i:Nat),vs=[.ref p,.int i]/\SqT K H p (mkL m)/\Q (.str (lt4 (m.2.1.testBit i) (m.2.2.testBit i))) H
def spLst:Sp:=λvs H Q _=>∃ w:Nat,vs=[.int w]/\w<64/\w≠0/\Q (.int (M78.low 6 w)) H
def spBk:Sp:=λvs H Q _=>∃ (p:W9) (x:Mv),vs=[.ref p]/\H p=some (mT (mm x))/\∀ (t:W9) (H':Hp),Same H H'->H' t=some (mT (mm (bk x)))->Q (.ref t) H'
def spBwd:Sp:=λvs H Q _=>∃ (l:W9) (row:List Mv),vs=[.ref l]/\RowAt H l row/\row.length<=300/\∀ (r:W9) (H':Hp),H r=none->Same H H'->RowAt H' r (M79.bwd row)->Q (.ref r) H'
def spMts:Sp:=λvs H Q _=>∃ (f s:Bool) (e:Nat) (m:Mk),vs=[.str (lt4 f s),.int e]/\m.2.1.testBit e=f/\m.2.2.testBit e=s/\∀ (r:W9) (H':Hp),H r=none->Same H H'->RowAt H' r (M78.mts m e)->Q (.ref r) H'
theorem X5x:((List.range 64).all λw=>decide (w=0) || decide (Builtin.Int.intBits (Builtin.bitAnd (w:Int) (-(w:Int)))=M78.low 6 w+1))=true:=by decide +kernel
theorem X9j {w:Nat}(h:w<64)(h0:w≠0):Builtin.Int.intBits (Builtin.bitAnd (w:Int) (-(w:Int)))=M78.low 6 w+1:=by
 have a:=q1e.mp X5x w (q1c.mpr h)
 rw[q0k h0,q4x] at a
 exact q1t a
section
variable {P:U8}{w:W1}{K:U0}{mg:U4}{base:Heap}{k:Nat}{h:Heap}
theorem sc_least:FnScope ["word"] ["word"] (Z0h (top 60)):=fS
theorem X0n (F:FunAt K "least_cell" (top 60) .none)(X:K.In h)(G:Ng h mg):Cal P w K mg base (k+1) "least_cell" ["word"] spLst:=by
 have nd:=sc_least.nd
 refine F.cal X G sc_least (bnd1 λ_ _ _ _ _ _ _=>rfl) (λvs H Q E' h=>?_) (λf cdv A outer s H vs Q E' hr h=>?_)
 ·obtain⟨n,rfl,_⟩:=h;rfl
 obtain⟨x,rfl,x64,x0,q⟩:=h
 have e:=X9j x64 x0
 refine⟨_,(@Z0e _ _ _ (Z0k (Z0j Z3c (Z5a q2c q1m q1r Z2f (Z0j Z0z (pv 0) (Y6m Y5f (pv 0)))) Z0b))),?_⟩
 try dsimp only[cxK]
 refine⟨_,U,_,U,_,U,_,_,U,U,U,_,U,U,_,_,U,U,?_⟩
 show Q (.int (((Builtin.Int.intBits (Builtin.bitAnd (x:Int) (-(x:Int))):Nat):Int)-1)) H
 rw[e,show (((M78.low 6 x+1:Nat):Int)-1)=(M78.low 6 x:Int) by omega]
 exact q
theorem sc_bkm:FnScope ["move"] ["move"] (Z0h (top 49)):=fS
theorem X8z (F:FunAt K "back_move" (top 49) .none)(X:K.In h)(G:Ng h mg):Cal P w K mg base (k+1) "back_move" ["move"] spBk:=by
 have nd:=sc_bkm.nd
 refine F.cal X G sc_bkm (bnd1 λ_ _ _ _ _ _ _=>rfl) (λvs H Q E h=>?_) (λf cdv A outer s H vs Q E hr h=>?_)
 ·obtain⟨p,x,rfl,_⟩:=h;rfl
 obtain⟨p,x,rfl,hp,q⟩:=h
 have SP:SqT K H p (.str (nm x)::(ns x).map V.int):=SqT.of hp
 refine⟨_,(@Z0g _ _ _ _ _ (Z0w (Z0p Z1m (Z0l Z0i (pv 0) Z0b (λ_ _=>rfl)) Z0y (nomark _))
   (@Z0e _ _ _ (Z0k (@Z1a _ _ _ _ _ (Z0a Z0y (Z0a (Z0l Z0i (pv 0) Z0b (λ_ _=>rfl)) (Z0a (Z0j Z3c Z0b (Z0l Z0i (pv 0) Z0b (λ_ _=>rfl))) Z0c))))))
   Z0o)
  (@Z0e _ _ _ (Z0k (pv 0)))),?_⟩
 try dsimp only[cxK]
 refine⟨_,U,p,_,_,.str (nm x),U,U,SP,at0m x,U,?_⟩
 by_cases e:nm x="turn"
 ·obtain⟨a,j,rfl⟩:=Y5g e
  exact⟨_,U,decI (λ_=>⟨_,U,p,_,_,.int a,U,U,SP,k1,_,U,p,_,_,.int j,U,U,SP,k2,_,_,U,U,t3,λt ht=>q t _ (Z0f ht _) Z0d⟩) (λz=>absurd rfl z)⟩
 ·refine⟨_,U,decI (λz=>absurd (V.str.inj z) e) (λ_=>?_)⟩
  refine⟨_,U,q p H (Same.refl _) ?_⟩
  have:bk x=x:=by cases x<;>first | rfl | exact absurd rfl e
  rw[this]
  exact hp
end
end K55S
namespace K55S
open L2 Ba Am Pc M71
open K76 (top Bs)
open M72 (VOk)
open M75 (Mk mvd mvds Br bn bp ev)
open M77 (bk)
theorem bt1 (x i:Nat):Builtin.bitAnd ((x:Int) / 2^(i:Int).toNat) 1=if x.testBit i then 1 else 0:=by
 have e:(x:Int) / 2^(i:Int).toNat=((x / 2^i:Nat):Int):=by rw[q0x];simp
 rw[e]
 have:=Z3t (x / 2^i) 1
 rw[q6p] at this
 have this:Builtin.bitAnd ((x / 2^i:Nat):Int) 1=((x / 2^i%2:Nat):Int):=this
 rw[this,q2b]
 have:x / 2^i%2=0∨x / 2^i%2=1:=by omega
 rcases this with a | a<;>rw[a]<;>rfl
theorem W2y (f s:Bool):∃ c:Nat,atI (Str.ofString ".fsb").cps.toList ((if f then 1 else 0)+2*(if s then 1 else 0))=some c/\lt4 f s=⟨#[c]⟩:=by
 cases f<;>cases s
 ·exact⟨46,by decide +kernel,by decide +kernel⟩
 ·exact⟨115,by decide +kernel,by decide +kernel⟩
 ·exact⟨102,by decide +kernel,by decide +kernel⟩
 ·exact⟨98,by decide +kernel,by decide +kernel⟩
theorem len4:(Str.ofString ".fsb").length=4:=by decide +kernel
section
variable {P:U8}{w:W1}{K:U0}{mg:U4}{base:Heap}{k:Nat}{h:Heap}
theorem sc_cs:FnScope ["mark","cell","flip","sign"] ["mark","cell"] (Z0h (top 21)):=fS
theorem W1s {tC:Tok}(gC:mg "CELL_SIGNS"=some (.str (Str.ofString ".fsb") tC))(F:FunAt K "cell_sign" (top 21) .none)(X:K.In h)(G:Ng h mg):Cal P w K mg base (k+1) "cell_sign" ["mark","cell"] (spSgn K):=by
 have nd:=sc_cs.nd
 refine F.cal X G sc_cs (bnd2 λ_ _ _ _ _ _ _ _=>rfl) (λvs H Q E h=>?_) (λfa cdv A outer s H vs Q E hr h=>?_)
 ·obtain⟨p,m,i,rfl,_⟩:=h;rfl
 obtain⟨p,m,i,rfl,M,q⟩:=h
 obtain⟨c,ix,e⟩:=W2y (m.2.1.testBit i) (m.2.2.testBit i)
 rw[<-bt1,<-bt1] at ix
 rw[e] at q
 refine⟨_,(@Z0g _ _ _ _ _ (@Z0q _ _ 2 _ _ _ _ nd rfl (Or.inl rfl) (Z0j Z0z (Z0j Z3i (Z0l Z0i (pv 0) Z0b (λ_ _=>rfl)) (pv 1)) Z0b) rfl (.inl rfl))
  (@Z0g _ _ _ _ _ (@Z0q _ _ 3 _ _ _ _ nd rfl (Or.inl rfl) (Z0j Z0z (Z0j Z3i (Z0l Z0i (pv 0) Z0b (λ_ _=>rfl)) (pv 1)) Z0b) rfl (.inl rfl))
  (@Z0e _ _ _ (Z0k (Z0l W0d (Z4p (v:=.str (Str.ofString ".fsb")) rfl gC ⟨_,U⟩) (Z0j Z1r (pv 2) (Z0j Z4b Z0b (pv 3))) (λ_ _=>rfl)))))),?_⟩
 try dsimp only[cxK]
 refine⟨_,U,p,_,_,_,U,U,M,k1,_,U,_,_,U,U,(by show (0:Int)<=(i:Int);omega),_,_,U,U,?_⟩
 refine⟨_,U,p,_,_,_,U,U,M,k2,_,U,_,_,U,U,(by show (0:Int)<=(i:Int);omega),_,_,U,U,?_⟩
 exact⟨_,U,_,U,_,_,U,U,.inl ⟨by decide,by decide⟩,_,_,U,U,_,_,_,U,U,(by rw[len4];decide),ix,q⟩
theorem sc_mts:FnScope ["letter","cell"] ["letter","cell"] (Z0h (top 83)):=fS
theorem X8v (F:FunAt K "moves_to_sign" (top 83) .none)(X:K.In h)(G:Ng h mg):Cal P w K mg base (k+1) "moves_to_sign" ["letter","cell"] spMts:=by
 have nd:=sc_mts.nd
 refine F.cal X G sc_mts (bnd2 λ_ _ _ _ _ _ _ _=>rfl) (λvs H Q E h=>?_) (λfa cdv A outer s H vs Q E hr h=>?_)
 ·obtain⟨f,s,e,m,rfl,_⟩:=h;rfl
 obtain⟨f,s,e,m,rfl,hf,hs,q⟩:=h
 unfold M78.mts at q
 rw[hf,hs] at q
 refine⟨_,(@Z0g _ _ _ _ _ (Z0w (Z0p Z1m (pv 0) Z0y (nomark _))
   (@Z0e _ _ _ (Z0k (@Z3s _ _ _ _ (Z0a (@Z1a _ _ _ _ _ (Z0a Z0y (Z0a (pv 1) (Z0a Z0b Z0c)))) (Z0a (@Z1a _ _ _ _ _ (Z0a Z0y (Z0a (pv 1) Z0c))) Z0c)))))
   Z0o)
  (@Z0e _ _ _ (Z0k (Z2d (Z0p Z1m (pv 0) Z0y (nomark _)) (@Z3s _ _ _ _ (Z0a (@Z1a _ _ _ _ _ (Z0a Z0y (Z0a (pv 1) Z0c))) Z0c)) (@Z3s _ _ _ _ Z0c))))),?_⟩
 try dsimp only[cxK]
 have nil:∀ (l:W9),H l=none->RowAt (upd H l (.lst [])) l []:=λl hl=>⟨[],Z0d,.nil⟩
 cases f<;>cases s
 ·refine⟨_,U,U,_,U,decI (λz=>absurd (V.str.inj z) (by decide)) (λ_=>?_)⟩
  exact⟨_,U,U,_,U,decI (λz=>absurd (V.str.inj z) (by decide)) (λ_=>⟨q1o _,λl hl=>q l _ hl (Z0f hl _) (nil l hl)⟩)⟩
 ·refine⟨_,U,U,_,U,decI (λz=>absurd (V.str.inj z) (by decide)) (λ_=>?_)⟩
  exact⟨_,U,U,_,U,decI (λz=>absurd (V.str.inj z) (by decide)) (λ_=>⟨q1o _,λl hl=>q l _ hl (Z0f hl _) (nil l hl)⟩)⟩
 ·refine⟨_,U,U,_,U,decI (λz=>absurd (V.str.inj z) (by decide)) (λ_=>?_)⟩
  refine⟨_,U,U,_,U,decI (λ_=>?_) (λz=>absurd rfl z)⟩
  refine⟨_,U,t2,λt ht=>⟨(show 1<=sizeLine by decide),λl hl=>?_⟩⟩
  have hl0:H l=none:=Z8w (Z0f ht _) hl
  exact q l _ hl0 ((Z0f ht _).trans (Z0f hl _)) ⟨[t],Z0d,.cons (Z0f hl _ _ _ Z0d) .nil⟩
 ·refine⟨_,U,U,_,U,decI (λ_=>?_) (λz=>absurd rfl z)⟩
  refine⟨_,U,t3,λt ht=>⟨_,U,t2,λu hu=>⟨t2,λl hl=>?_⟩⟩⟩
  have hl0:H l=none:=Z8w ((Z0f ht _).trans (Z0f hu _)) hl
  exact q l _ hl0 (((Z0f ht _).trans (Z0f hu _)).trans (Z0f hl _)) ⟨[t,u],Z0d,.cons (((Z0f hu _).trans (Z0f hl _)) _ _ Z0d) (.cons (Z0f hl _ _ _ Z0d) .nil)⟩
theorem sc_bwd:FnScope ["row"] ["row"] (Z0h (top 79)):=fS
theorem X8y (F:FunAt K "backward" (top 79) .none)(X:K.In h)(G:Ng h mg)(B:Bs mg)(e8:Cal P w K mg base k "back_move" ["move"] spBk):Cal P w K mg base (k+1) "backward" ["row"] spBwd:=by
 have nd:=sc_bwd.nd
 refine F.cal X G sc_bwd (bnd1 λ_ _ _ _ _ _ _=>rfl) (λvs H Q E h=>?_) (λfa cdv A outer s H vs Q E hr h=>?_)
 ·obtain⟨l,row,rfl,_⟩:=h;rfl
 obtain⟨l,row,rfl,⟨ps,hl,hr1⟩,l300,kq⟩:=h
 have lps:ps.length=row.length:=by have:=Z2b hr1;rw[q0a] at this;exact this
 have SL:SqL K H l (ps.map V.ref):=SqL.of hl
 refine⟨_,(@Z0e _ _ _ (Z0k (Z3e rfl (LcOk.of (Nc:=["move"]) (mp:=[none]) (by kernel_rfl)) (X8f rfl B.reversed (Z0a (pv 0) Z0c)) (λ_ _ _ _=>(Z0t (i:=0) (show (["move"]:W0).Nodup by decide +kernel) rfl (Or.inl rfl))) (λ_ _ _ _=>(Z0m e8 hr rfl (Z0a (pv 0) Z0c)))))),?_⟩
 try dsimp only[cxK]
 refine⟨_,U,l,_,U,SL,λacc hacc=>?_⟩
 refine X9m (K:=K) (a:=l) (xs:=ps.map V.ref) (fr:=[]) (λi ys H'=>∃ qs:List Addr,Same H H'/\H' acc=some (.lst ys)/\ys=qs.map V.ref/\RowsM H' qs (((row.reverse.take i).map bk).map mm)) (by rw[q0a,lps];exact q1b l300 (by decide)) ⟨[],Z0f hacc _,Z0d,U,.nil⟩
  (λi ys H' e=>by obtain⟨qs,s2,_⟩:=e;exact s2.seq SL) ?_ ?_
 ·rintro i x ys H1 N hx hy ⟨qs,S1,a1,rfl,M1⟩ kN
  have ilt:i<row.length:=by
   have:=(q0o.mp hx).1
   rw[q6l,q0a] at this
   omega
  rw[q6c (by rw[q0a];omega),q0g] at hx
  obtain⟨p,hp,rfl⟩:=q0p.mp hx
  obtain⟨m,hm,p0⟩:=Z4w hr1 hp
  rw[q0a,lps] at hm
  have hm':row.reverse[i]?=some m:=by rw[q6c ilt];exact hm
  refine⟨_,U,p,m,U,S1 _ _ p0,λr H2 S2 hr2=>?_⟩
  refine kN (.ref r) H2 (S2 _ _ a1) ⟨qs++[r],Z0v (S1.trans S2) hacc,Z0d,by rw[q0i];rfl,?_⟩
  rw[q1s,hm',q1u,q0i,q0i]
  have h2:=S2 _ _ a1
  exact Y6k (λ_ _ e=>by rw[Z0u (Z5f e h2 (by intro z;cases z))];exact e) (Y6j (M1.same S2) hr2)
 ·rintro ys H1 hy ⟨qs,S1,a1,rfl,M1⟩
  rw[q0a,lps,show row.length=row.reverse.length from q6l.symm,q2e] at M1
  exact kq acc H1 hacc S1 ⟨qs,a1,M1⟩
end
end K55S
set_option maxHeartbeats 1000000
namespace M84
open M71 Mv M72 M75 M77 Pc
end M84
namespace M85
open M71 Mv M72 M75 M77 M79 Pc
end M85
namespace M86
open M71 Mv M72 M75 M77 M79 M85 Pc
theorem W1v (i:Nat)(F:Bv)(w:Nat):lay (0,0,2^i) F w=sm (sgB (w.testBit i)) (F w):=by
 show En (2*0+4*bn (bp ((w^^^0)&&&2^i))) (F (w^^^0))=_
 rw[q8s,q4h,Y8z,Y5d]
 rfl
end M86
namespace M87
open M71 Mv M72 M75 M77 M79 M85 M86 Pc
theorem X2w (x:Mv)(n:Mk)(h:n.1<4):(mvd x n).1<4:=by
 obtain⟨k,f,s⟩:=n
 have h:k<4:=h
 cases x<;>simp only[mvd]<;>(repeat' split)<;>first | exact h | exact q2r _ (by decide)
end M87
set_option maxHeartbeats 4000000
namespace K51
open Pc
abbrev Eqn:=Nat × Nat
noncomputable def add (e f:Eqn):Eqn:=(e.1^^^f.1,e.2^^^f.2)
def sat (x:Nat)(e:Eqn):Prop:=pc (e.1&&&x)%2=e.2
noncomputable def bl (m:Nat):Nat:=if m=0 then 0 else m.log2+1
theorem bl_le {m n:Nat}:bl m<=n ↔ m<2^n:=by
 unfold bl
 by_cases h:m=0
 ·subst h;simp[q0w]
 ·rw[if_neg h,<-q6k h];omega
theorem bl_zero {m:Nat}:bl m=0 ↔ m=0:=by
 unfold bl
 by_cases h:m=0<;>simp[h]
theorem X1w (m:Nat):m<2^bl m:=bl_le.mp (q0l _)
theorem X1x {m k:Nat}(h:bl m=k+1):2^k<=m:=by
 rcases q8v m (2^k) with c | c
 ·have:=bl_le.mpr c;omega
 ·exact c
theorem Y5e:∀ (k m o:Nat),2^k<=m->m<2^(k+1)->2^k<=o->o<2^(k+1)->(m^^^o)<2^k
 | 0,m,o,a,b,c,d=>by
  obtain rfl:m=1:=by simp at a b;omega
  obtain rfl:o=1:=by simp at c d;omega
  decide
 | k+1,m,o,a,b,c,d=>by
  have e1:2^(k+1+1)=2*2^(k+1):=q2q
  have e2:2^(k+1)=2*2^k:=q2q
  have:=Y5e k (m / 2) (o / 2) (by omega) (by omega) (by omega) (by omega)
  have e:=Z3o m o
  omega
theorem Y9g {m o:Nat}(h:bl m=bl o)(h0:m≠0):(m^^^o)<m:=by
 cases e:bl m with
 | zero=>exact absurd (bl_zero.mp e) h0
 | succ k =>
  have a:=X1w m
  have b:=X1w o
  rw[<-h,e] at b
  rw[e] at a
  exact q0f (Y5e k m o (X1x e) a (X1x (h ▸ e)) b) (X1x e)
theorem X4g {x:Nat}{e f:Eqn}(he:sat x e)(hf:sat x f)(_:e.2<2)(_:f.2<2):sat x (add e f):=by
 unfold sat add at *
 dsimp only
 rw[q5a,pcx]
 have:=Z3o e.2 f.2
 have z:e.2 / 2=0:=by omega
 have z':f.2 / 2=0:=by omega
 rw[z,z'] at this
 have q:(0^^^0:Nat)=0:=rfl
 omega
theorem X6y (e f:Eqn):add (add e f) f=e:=by
 unfold add
 simp[q1z]
theorem Z3f {a b:Nat}(h1:a<2)(h2:b<2):(a^^^b)<2:=q2l (n:=1) h1 h2
noncomputable def comb:List Eqn->Nat->Eqn
 | [],_=>(0,0)
 | e::r,c=>if c%2=1 then add e (comb r (c / 2)) else comb r (c / 2)
theorem Y0r (e f:Eqn):add e f=add f e:=by unfold add;rw[q4g e.1,q4g e.2]
theorem Z2v (e f g:Eqn):add (add e f) g=add e (add f g):=by unfold add;simp[q1z]
theorem Y3t:∀ (es:List Eqn) (c d:Nat),comb es (c^^^d)=add (comb es c) (comb es d)
 | [],_,_=>by simp[comb,add]
 | e::r,c,d=>by
  have x:=Z3o c d
  have h1:(c^^^d) / 2=c / 2^^^d / 2:=by omega
  have h2:(c^^^d)%2=(c%2+d%2)%2:=by omega
  have ih:=Y3t r (c / 2) (d / 2)
  unfold comb
  rw[h1,h2,ih]
  rcases q0z c with a | a<;>rcases q0z d with b | b<;>rw[a,b]
  ·rfl
  ·simp only[show (0+1)%2=1 from rfl,q5q,show ¬ (0=1) by decide,q3z]
   rw[<-Z2v,<-Z2v,Y0r e]
  ·simp only[show (1+0)%2=1 from rfl,q5q,show ¬ (0=1) by decide,q3z]
   rw[Z2v]
  ·simp only[show ¬ ((1+1)%2=1) by decide,q5q,q3z]
   rw[Y0r e (comb r (c / 2)),Z2v,<-Z2v e e,show add e e=(0,0) by unfold add;simp,show add (0,0) (comb r (d / 2))=comb r (d / 2) by unfold add;simp]
theorem Y0i:∀ es:List Eqn,comb es 0=(0,0)
 | []=>rfl
 | e::r=>by unfold comb;simp[Y0i r]
theorem Y3u:∀ (es:List Eqn) (i:Nat) (e:Eqn),es[i]?=some e->comb es (2^i)=e
 | [],i,e,h=>by simp at h
 | f::r,0,e,h=>by
  have:f=e:=by simpa using h
  subst this
  unfold comb
  simp[Y0i,add]
 | f::r,i+1,e,h=>by
  have q:r[i]?=some e:=by simpa using h
  have e1:2^(i+1) / 2=2^i:=by rw[q2q];omega
  have e2:2^(i+1)%2=0:=by rw[q2q];omega
  unfold comb
  rw[e1,e2]
  simpa using Y3u r i e q
theorem Z5j:∀ (es:List Eqn) (c:Nat),(∀ e∈es,e.2<2)->(comb es c).2<2
 | [],_,_=>by unfold comb;decide
 | e::r,c,h=>by
  have ih:=Z5j r (c / 2) λf hf=>h f (q1x _ hf)
  unfold comb
  split
  ·exact Z3f (h e q2m) ih
  ·exact ih
theorem X6v {m k:Nat}(h1:2^k<=m)(h2:m<2^(k+1)):m&&&2^k=2^k:=by
 have e:m / 2^k=1:=by
  rw[q2q] at h2
  have p:=q0w k
  rw[Nat.div_eq_iff p]
  omega
 refine q1w λj=>?_
 rw[q2f,q2a]
 by_cases q:k=j
 ·subst q
  rw[q2b,e]
  simp
 ·simp[q]
theorem Y0q {m k:Nat}(h:m<2^k):m&&&2^k=0:=by
 refine q1w λj=>?_
 rw[q2f,q2a,q3a]
 by_cases q:k=j
 ·subst q
  rw[q7r h]
  rfl
 ·simp[q]
theorem Y6s:∀ k:Nat,pc (2^k)=1
 | 0=>by rw[Z4a];show 1%2+pc (1 / 2)=1;rw[show (1 / 2:Nat)=0 from rfl,Z1x]
 | k+1=>by
  have e1:2^(k+1) / 2=2^k:=by rw[q2q];omega
  have e2:2^(k+1)%2=0:=by rw[q2q];omega
  rw[Z4a,e1,e2,Y6s k]
theorem Y3b {x k:Nat}(h:x<2^k):(x ||| 2^k)=x^^^2^k:=by
 rw[Y6v (x+2^k+1) x (2^k) (by omega) (by omega),Y0q h,q3g]
theorem Y0s {x k:Nat}(h:x<2^k):(x^^^2^k)=x+2^k:=by
 have:=Nat.two_pow_add_eq_or_of_lt h 1
 rw[Nat.mul_one] at this
 rw[<-Y3b h,Nat.or_comm,<-this,q8a]
theorem X4f {x k:Nat}{e:Eqn}(hx:x<2^k)(hk:bl e.1=k+1)(hb:e.2<2)(n:¬ sat x e):sat (x ||| 2^k) e:=by
 have a:=X1w e.1
 rw[hk] at a
 unfold sat at *
 rw[Y3b hx,q4e,pcx,X6v (X1x hk) a,Y6s]
 omega
theorem Y9t {x k:Nat}{e:Eqn}(hx:x<2^k)(hk:bl e.1<=k)(h:sat x e):sat (x ||| 2^k) e:=by
 unfold sat at *
 rw[Y3b hx,q4e,pcx,Y0q (bl_le.mp hk),Z1x,q3g]
 exact h
theorem W1q {x k:Nat}(hx:x<2^k):(x ||| 2^k)<2^(k+1):=by
 rw[Y3b hx,Y0s hx,q2q]
 omega
noncomputable def places (c n:Nat):List Nat:=(List.range n).filter λj=>decide (c / 2^j%2=1)
theorem Z3a {c n p:Nat}(h:p∈places c n):p<n:=q1c.mp (q8d.mp h).1
theorem Z2z (c n:Nat):places c (n+1)=places c n++(if c / 2^n%2=1 then [n] else []):=by
 unfold places
 rw[q4q,q3i]
 by_cases h:c / 2^n%2=1<;>simp[h]
abbrev Ent:=Nat × Nat × Nat
noncomputable def eqOf (t:Ent):Eqn:=(t.1,t.2.1)
structure Good (es:List Eqn) (i:Nat) (ts:List Ent):Prop where
 nz:∀ t∈ts,t.1≠0
 com:∀ t∈ts,comb es t.2.2=eqOf t
 lt:∀ t∈ts,t.2.2<2^i
 nd:(ts.map λt=>bl t.1).Nodup
 len:ts.length<=i
 all:∀ x,(∀ t∈ts,sat x (eqOf t))->∀ j e,j<i->es[j]?=some e->sat x e
theorem Good.start (es:List Eqn):Good es 0 []:=⟨by simp,by simp,by simp,by simp,by simp,λ_ _ j e h=>by omega⟩
structure Left (es:List Eqn) (i:Nat) (ts:List Ent) (e:Eqn) (t:Ent):Prop where
 com:comb es t.2.2=eqOf t
 lt:t.2.2<2^(i+1)
 sat:∀ x,(∀ t∈ts,sat x (eqOf t))->sat x (eqOf t)->sat x e
theorem Left.start {es:List Eqn}{i:Nat}{ts:List Ent}{e:Eqn}(h:es[i]?=some e):Left es i ts e (e.1,e.2,2^i) :=
 ⟨Y3u es i e h,q1p (by decide) (q3b _),λ_ _ z=>z⟩
theorem Y3q (s t:Ent):eqOf (s.1^^^t.1,s.2.1^^^t.2.1,s.2.2^^^t.2.2)=add (eqOf s) (eqOf t):=rfl
theorem Left.step {es:List Eqn}{i:Nat}{ts:List Ent}{e:Eqn}{s t:Ent}(hb:∀ e∈es,e.2<2)(G:Good es i ts)(L:Left es i ts e s)(ht:t∈ts):Left es i ts e (s.1^^^t.1,s.2.1^^^t.2.1,s.2.2^^^t.2.2):=by
 refine⟨?_,?_,λx hx z=>L.sat x hx ?_⟩
 ·rw[Y3q]
  show comb es (s.2.2^^^t.2.2)=_
  rw[Y3t,L.com,G.com t ht]
 ·exact q2l L.lt (q5l (G.lt t ht) (q1p (by decide) (q3b _)))
 ·rw[Y3q] at z
  have b1:(eqOf s).2<2:=by rw[<-L.com];exact Z5j es _ hb
  have b2:(eqOf t).2<2:=by rw[<-G.com t ht];exact Z5j es _ hb
  have q:=X4g z (hx t ht) (Z3f b1 b2) b2
  rw[X6y] at q
  exact q
theorem Left.bit {es:List Eqn}{i:Nat}{ts:List Ent}{e:Eqn}{t:Ent}(hb:∀ e∈es,e.2<2)(L:Left es i ts e t):t.2.1<2:=by
 have:(eqOf t).2<2:=by rw[<-L.com];exact Z5j es _ hb
 exact this
theorem Z7c (i:Nat):2^i<2^(i+1):=q1p (by decide) (q3b _)
theorem Good.put {es:List Eqn}{i:Nat}{ts:List Ent}{e:Eqn}{t:Ent}(G:Good es i ts)(he:es[i]?=some e)(L:Left es i ts e t)(h0:t.1≠0)(hn:∀ s∈ts,bl s.1≠bl t.1):Good es (i+1) (ts++[t]) where
 nz:=λs hs=>by
  rcases q1n.mp hs with q | q
  ·exact G.nz s q
  ·rw[q1a.mp q];exact h0
 com:=λs hs=>by
  rcases q1n.mp hs with q | q
  ·exact G.com s q
  ·rw[q1a.mp q];exact L.com
 lt:=λs hs=>by
  rcases q1n.mp hs with q | q
  ·exact q5l (G.lt s q) (Z7c i)
  ·rw[q1a.mp q];exact L.lt
 nd:=by
  rw[q0i,List.nodup_append]
  refine⟨G.nd,by simp,λa ha b hb=>?_⟩
  obtain⟨s,hs,rfl⟩:=q2k.mp ha
  obtain rfl:b=bl t.1:=by simpa using hb
  exact hn s hs
 len:=by rw[q0j];have:=G.len;simp;omega
 all:=λx hx j f hj hf=>by
  have h1:∀ s∈ts,sat x (eqOf s):=λs hs=>hx s (q2d _ hs)
  by_cases hji:j<i
  ·exact G.all x h1 j f hji hf
  ·obtain rfl:j=i:=by omega
   rw[he] at hf
   cases hf
   exact L.sat x h1 (hx t (by simp))
theorem Good.skip {es:List Eqn}{i:Nat}{ts:List Ent}{e:Eqn}{t:Ent}(G:Good es i ts)(he:es[i]?=some e)(L:Left es i ts e t)(h0:t.1=0)(hb:t.2.1=0):Good es (i+1) ts where
 nz:=G.nz
 com:=G.com
 lt:=λs hs=>q5l (G.lt s hs) (Z7c i)
 nd:=G.nd
 len:=Nat.le_succ_of_le G.len
 all:=λx hx j f hj hf=>by
  by_cases hji:j<i
  ·exact G.all x hx j f hji hf
  ·obtain rfl:j=i:=by omega
   rw[he] at hf
   cases hf
   refine L.sat x hx ?_
   unfold sat eqOf
   rw[h0,hb,q8r,Z1x]
theorem Y0f {f:Ent->Nat}:∀ {ts:List Ent},(ts.map f).Nodup->∀ {s t},s∈ts->t∈ts->f s=f t->s=t
 | [],_,s,t,hs,_,_=>by cases hs
 | a::r,nd,s,t,hs,ht,e=>by
  rw[q1v,q4r] at nd
  rcases q0s.mp hs with h1 | h1<;>rcases q0s.mp ht with h2 | h2
  ·rw[h1,h2]
  ·exact absurd (q2k.mpr ⟨t,h2,by rw[<-e,h1]⟩) nd.1
  ·exact absurd (q2k.mpr ⟨s,h1,by rw[e,h2]⟩) nd.1
  ·exact Y0f nd.2 h1 h2 e
theorem X6i {ts:List Ent}{ks:U6}(nd:(ts.map λt=>bl t.1).Nodup)(p:ks.Perm (ts.map λt=>(bl t.1:Int)))(o:ks.Pairwise (·<=·)):ks.Pairwise (·<·):=by
 have n1:(ts.map λt=>(bl t.1:Int)).Nodup:=by
  rw[List.Nodup,List.pairwise_map] at nd ⊢
  exact nd.imp λh z=>h (Int.ofNat.inj z)
 have n2:ks.Nodup:=p.nodup_iff.mpr n1
 exact(o.and n2).imp λ⟨a,b⟩=>by omega
structure Sol (ts:List Ent) (ks:U6) (j x:Nat):Prop where
 done:∀ t∈ts,∀ i,i<j->ks[i]?=some (bl t.1:Int)->sat x (eqOf t)
 low:∀ h,ks[j]?=some h->x<2^(h.toNat-1)
theorem Sol.start (ts:List Ent)(ks:U6):Sol ts ks 0 0:=⟨λ_ _ i h=>by omega,λh _=>q0w _⟩
theorem rise {ks:U6}(o:ks.Pairwise (·<·)){i j:Nat}{a b:Int}(h:i<j)(ha:ks[i]?=some a)(hb:ks[j]?=some b):a<b:=by
 obtain⟨h1,rfl⟩:=q0o.mp ha
 obtain⟨h2,rfl⟩:=q0o.mp hb
 exact List.pairwise_iff_getElem.mp o i j h1 h2 h
theorem Sol.step {ts:List Ent}{ks:U6}{j x:Nat}{t:Ent}(S:Sol ts ks j x)(nd:(ts.map λt=>bl t.1).Nodup)(o:ks.Pairwise (·<·))(ht:t∈ts)(nz:t.1≠0)(hb:t.2.1<2)(hj:ks[j]?=some (bl t.1:Int)) :
  (sat x (eqOf t)->Sol ts ks (j+1) x)/\(¬ sat x (eqOf t)->Sol ts ks (j+1) (x ||| 2^(bl t.1-1))):=by
 have h0:bl t.1≠0:=λz=>nz (bl_zero.mp z)
 obtain⟨k,hk⟩:∃ k,bl t.1=k+1:=⟨bl t.1-1,by omega⟩
 have hx:=S.low _ hj
 rw[q0x,hk,Nat.add_sub_cancel] at hx
 have same:∀ s∈ts,ks[j]?=some (bl s.1:Int)->s=t:=λs hs e=>Y0f nd hs ht (by rw[e] at hj;exact Int.ofNat.inj (Option.some.inj hj))
 have next:∀ h,ks[j+1]?=some h->k+1<=h.toNat-1:=λh e=>by
  have:=rise o (q3b j) hj e
  omega
 rw[hk,Nat.add_sub_cancel]
 constructor
 ·intro z
  refine⟨λs hs i hi e=>?_,λh e=>?_⟩
  ·by_cases q:i<j
   ·exact S.done s hs i q e
   ·obtain rfl:i=j:=by omega
    rw[same s hs e]
    exact z
  ·exact q0f hx (q0v (by decide) (q1b (Nat.le_succ k) (next h e)))
 ·intro z
  refine⟨λs hs i hi e=>?_,λh e=>?_⟩
  ·by_cases q:i<j
   ·have:=rise o q e hj
    exact Y9t hx (by show bl s.1<=k;omega) (S.done s hs i q e)
   ·obtain rfl:i=j:=by omega
    rw[same s hs e]
    exact X4f hx hk hb z
  ·exact q0f (W1q hx) (q0v (by decide) (next h e))
theorem Sol.all {ts:List Ent}{ks:U6}{x:Nat}(S:Sol ts ks ks.length x)(p:ks.Perm (ts.map λt=>(bl t.1:Int))):∀ t∈ts,sat x (eqOf t):=λt ht=>by
 have m:(bl t.1:Int)∈ks:=p.mem_iff.mpr (q2k.mpr ⟨t,ht,U⟩)
 obtain⟨i,hi,e⟩:=q3k.mp m
 exact S.done t ht i hi (by rw[q0d hi,e])
end K51
namespace M54
open Pc K51
noncomputable def bit (v n:Nat):Nat:=v / 2^n%2
theorem Z1u (v n:Nat):bit v n<2:=q2r _ (by decide)
theorem Z5l (v n:Nat):bit v (n+1)=bit (v / 2) n:=by
 unfold bit
 rw[q2q,q7s]
theorem Z6r (n:Nat):bit 0 n=0:=by unfold bit;simp
theorem Z3f:∀ (n a b:Nat),bit (a^^^b) n=(bit a n+bit b n)%2
 | 0,a,b=>by
  have:=Z3o a b
  unfold bit
  simp only[q8t,Nat.div_one]
  omega
 | n+1,a,b=>by
  have:=Z3o a b
  rw[Z5l,Z5l,Z5l,show (a^^^b) / 2=a / 2^^^b / 2 by omega]
  exact Z3f n _ _
theorem Z4k:∀ (N a b:Nat),a<2^N->b<2^N->(∀ n,n<N->bit a n=bit b n)->a=b
 | 0,a,b,ha,hb,_=>by simp at ha hb;omega
 | N+1,a,b,ha,hb,h=>by
  rw[q2q] at ha hb
  have h0:=h 0 (Nat.succ_pos N)
  unfold bit at h0
  simp only[q8t,Nat.div_one] at h0
  have:=Z4k N (a / 2) (b / 2) (by omega) (by omega) λn hn=>by rw[<-Z5l,<-Z5l];exact h (n+1) (by omega)
  omega
theorem Z9e {a m n:Nat}(h:a<2^m)(hm:m<=n):bit a n=0:=by
 unfold bit
 rw[q3t (q0f h (q0v (by decide) hm))]
theorem X6t (m n:Nat):bit (2^m) n=if n=m then 1 else 0:=by
 unfold bit
 by_cases h:n=m
 ·subst h;rw[if_pos rfl,Nat.div_self (q0w n)]
 ·rw[if_neg h]
  rcases q8v n m with c | c
  ·obtain⟨d,rfl⟩:∃ d,m=n+(d+1):=⟨m-n-1,by omega⟩
   rw[q6i,Nat.mul_div_cancel_left _ (q0w n),q3n,Nat.mul_mod_left]
  ·rw[q3t (q1p (by decide) (by omega))]
theorem X6w (x m:Nat):x&&&2^m=bit x m*2^m:=by
 refine q1w λj=>?_
 rw[q2f,q2a]
 by_cases q:m=j
 ·subst q
  rw[q2b,q2b,Nat.mul_div_cancel _ (q0w m)]
  show (decide (bit x m=1) && decide (m=m))=decide (bit x m%2=1)
  rw[q2y (Z1u x m)]
  simp
 ·rcases (by have:=Z1u x m;omega:bit x m=0∨bit x m=1) with z | z<;>rw[z]<;>simp[q]
theorem Y6r {a m x b:Nat}(ha:a<2^m)(hb:b<2):pc ((a+b*2^m)&&&x)%2=(pc (a&&&x)+b*bit x m)%2:=by
 rcases (by omega:b=0∨b=1) with rfl | rfl
 ·simp
 ·rw[q7j,<-K51.Y0s ha,q5a,pcx,q4h (2^m),X6w]
  rcases (by have:=Z1u x m;omega:bit x m=0∨bit x m=1) with z | z<;>rw[z]
  ·rw[q8q,Z1x,q8u]
  ·rw[q7j,Y6s]
noncomputable def Wm (fs:W3)(n:Nat):Nat->Nat
 | 0=>0
 | m+1=>Wm fs n m+bit (fs.getD m 0) n*2^m
noncomputable def Xm (fs:W3)(x:Nat):Nat->Nat
 | 0=>0
 | m+1=>if bit x m=1 then Xm fs x m^^^fs.getD m 0 else Xm fs x m
theorem Y9e (fs:W3)(n:Nat):∀ m,Wm fs n m<2^m
 | 0=>by unfold Wm;decide
 | m+1=>by
  have h:=Y9e fs n m
  have b:=Z1u (fs.getD m 0) n
  unfold Wm
  rw[q2q]
  rcases (by omega:bit (fs.getD m 0) n=0∨bit (fs.getD m 0) n=1) with z | z<;>rw[z]<;>omega
theorem X1z {fs:W3}{x N:Nat}(h:∀ j,fs.getD j 0<2^N):∀ m,Xm fs x m<2^N
 | 0=>by unfold Xm;exact q0w N
 | m+1=>by
  unfold Xm
  split
  ·exact q2l (X1z h m) (h m)
  ·exact X1z h m
theorem X4e (fs:W3)(x n:Nat):∀ m,bit (Xm fs x m) n=pc (Wm fs n m&&&x)%2
 | 0=>by unfold Xm Wm;rw[Z6r,q8r,Z1x]
 | m+1=>by
  have ih:=X4e fs x n m
  have bl:=Z1u x m
  unfold Xm Wm
  rw[Y6r (Y9e fs n m) (Z1u _ _)]
  split
  ·rename_i z
   rw[Z3f,ih,z]
   omega
  ·rename_i z
   rw[ih,show bit x m=0 by omega]
   omega
theorem Y9f (fs:W3)(n:Nat):∀ m j,j<m->bit (Wm fs n m) j=bit (fs.getD j 0) n
 | 0,j,h=>by omega
 | m+1,j,h=>by
  have hw:=Y9e fs n m
  have b:=Z1u (fs.getD m 0) n
  unfold Wm
  rcases (by omega:bit (fs.getD m 0) n=0∨bit (fs.getD m 0) n=1) with z | z
  ·rw[z,q8q,q3g]
   by_cases q:j=m
   ·subst q;rw[z,Z9e hw (q0l _)]
   ·exact Y9f fs n m j (by omega)
  ·rw[z,q7j,<-K51.Y0s hw,Z3f,X6t]
   by_cases q:j=m
   ·subst q;rw[if_pos rfl,z,Z9e hw (q0l _)]
   ·rw[if_neg q,Y9f fs n m j (by omega),q3g,q2y (Z1u _ _)]
theorem X3l (fs:W3)(n:Nat):∀ m,m<=fs.length->((fs.take m).mapIdx λi v=>((bit v n:Nat):Int)*2^i).sum=((Wm fs n m:Nat):Int)
 | 0,_=>by simp[Wm]
 | m+1,h=>by
  have ih:=X3l fs n m (by omega)
  have e:fs[m]?=some (fs.getD m 0):=by rw[q0b,q0d (by omega)];rfl
  have l:(fs.take m).length=m:=by rw[q1q];omega
  unfold Wm
  rw[q1s,e,q1u,List.mapIdx_append,q8b,ih,l]
  simp
noncomputable def eqs (fs:W3)(v N:Nat):List Eqn:=(List.range N).map λn=>(Wm fs n fs.length,bit v n)
theorem Z5z (fs:W3)(v N:Nat):(eqs fs v N).length=N:=by unfold eqs;simp
theorem Z3p:∀ (l r:List Eqn) (c:Nat),comb (l++r) c=add (comb l c) (comb r (c / 2^l.length))
 | [],r,c=>by simp[comb,add]
 | e::l,r,c=>by
  have ih:=Z3p l r (c / 2)
  have e1:c / 2 / 2^l.length=c / 2^(e::l).length:=by rw[q2i,q2q,q7s]
  show (if c%2=1 then add e (comb (l++r) (c / 2)) else comb (l++r) (c / 2))=add (if c%2=1 then add e (comb l (c / 2)) else comb l (c / 2)) _
  rw[ih,e1]
  split
  ·rw[Z2v]
  ·rfl
theorem Z6p (fs:W3)(v N:Nat):eqs fs v (N+1)=eqs fs v N++[(Wm fs N fs.length,bit v N)]:=by
 unfold eqs;rw[q4q,q0i];rfl
theorem Z6m (c N:Nat):c%2^(N+1)=c%2^N+bit c N*2^N:=by rw[q3n,Nat.mod_mul];unfold bit;rw[Nat.mul_comm (2^N)]
theorem Y3v (e:Eqn)(c:Nat):comb [e] c=if c%2=1 then e else (0,0):=by
 unfold comb comb
 split<;>simp[add]
theorem Z8z (fs:W3)(v c:Nat):∀ N,(comb (eqs fs v N) c).2=pc (c%2^N&&&v)%2
 | 0=>by simp[eqs,comb,q8h,Z1x]
 | N+1=>by
  have ih:=Z8z fs v c N
  have hb:=Z1u c N
  have hv:=Z1u v N
  rw[Z6p,Z3p,Z5z,Y3v,Z6m,Y6r (q2r _ (q0w N)) hb]
  show (comb (eqs fs v N) c).2^^^(if c / 2^N%2=1 then (Wm fs N fs.length,bit v N) else (0,0)).2=_
  rw[ih]
  have nx:=Z3o (pc (c%2^N&&&v)%2) (bit v N)
  have z1:pc (c%2^N&&&v)%2 / 2=0:=by omega
  have z2:bit v N / 2=0:=by omega
  rw[z1,z2] at nx
  have q:(0^^^0:Nat)=0:=rfl
  rcases (by omega:bit c N=0∨bit c N=1) with z | z
  ·rw[if_neg (show ¬ c / 2^N%2=1 by have:c / 2^N%2=0:=z;omega),z]
   simp
  ·rw[if_pos (show c / 2^N%2=1 from z),z]
   show _^^^bit v N=_
   omega
theorem Z9a (fs:W3)(v c j:Nat)(hj:j<fs.length):∀ N,bit (comb (eqs fs v N) c).1 j=pc (c%2^N&&&fs.getD j 0)%2
 | 0=>by simp[eqs,comb,q8h,Z1x,Z6r]
 | N+1=>by
  have ih:=Z9a fs v c j hj N
  have hb:=Z1u c N
  have wb:=Y9f fs N fs.length j hj
  rw[Z6p,Z3p,Z5z,Y3v,Z6m,Y6r (q2r _ (q0w N)) hb]
  show bit ((comb (eqs fs v N) c).1^^^(if c / 2^N%2=1 then (Wm fs N fs.length,bit v N) else (0,0)).1) j=_
  rw[Z3f,ih]
  rcases (by omega:bit c N=0∨bit c N=1) with z | z
  ·rw[if_neg (show ¬ c / 2^N%2=1 by have:c / 2^N%2=0:=z;omega),z,Z6r]
   omega
  ·rw[if_pos (show c / 2^N%2=1 from z),z,wb]
   omega
abbrev Mk:=Nat × Nat × Nat
noncomputable def mul (a b:Mk):Mk:=((a.1+b.1+2*pc (a.2.2&&&b.2.1))%4,a.2.1^^^b.2.1,a.2.2^^^b.2.2)
noncomputable def prod (ms:List Mk):Mk:=ms.foldl mul (0,0,0)
theorem Y0a (k:Nat):∀ (ms:List Mk) (q f s:Nat),ms.foldl mul ((k+q)%4,f,s)=((k+(ms.foldl mul (q%4,f,s)).1)%4,(ms.foldl mul (q%4,f,s)).2)
 | [],q,f,s=>by
  show ((k+q)%4,f,s)=((k+q%4)%4,f,s)
  rw[Nat.add_mod_mod]
 | m::ms,q,f,s=>by
  rw[List.foldl_cons,List.foldl_cons]
  have h:=Y0a k ms (q+m.1+2*pc (s&&&m.2.1)) (f^^^m.2.1) (s^^^m.2.2)
  have e1:mul ((k+q)%4,f,s) m=((k+(q+m.1+2*pc (s&&&m.2.1)))%4,f^^^m.2.1,s^^^m.2.2):=by
   show (((k+q)%4+m.1+2*pc (s&&&m.2.1))%4,_,_)=_
   congr 1
   omega
  have e2:mul (q%4,f,s) m=((q+m.1+2*pc (s&&&m.2.1))%4,f^^^m.2.1,s^^^m.2.2):=by
   show ((q%4+m.1+2*pc (s&&&m.2.1))%4,_,_)=_
   congr 1
   omega
  rw[e1,e2]
  exact h
theorem Z5q {k:Nat}(hk:k<4)(ms:List Mk):ms.foldl mul (k,0,0)=((k+(prod ms).1)%4,(prod ms).2):=by
 have:=Y0a k ms 0 0 0
 rw[q3g,q2y hk] at this
 exact this
theorem Y6h:∀ (ms:List Mk) (a:Mk),a.1<4->(ms.foldl mul a).1<4
 | [],a,h=>h
 | m::ms,a,h=>Y6h ms (mul a m) (q2r _ (by decide))
noncomputable def chosen (rows:List Mk)(x m:Nat):List Mk:=(places x m).map λp=>rows.getD p (0,0,0)
theorem Z2l (rows:List Mk)(x m:Nat):chosen rows x (m+1)=chosen rows x m++(if bit x m=1 then [rows.getD m (0,0,0)] else []):=by
 unfold chosen
 rw[Z2z,q0i]
 show _++List.map _ (if bit x m=1 then [m] else [])=_
 split<;>rfl
theorem Z9u (rows:List Mk)(x:Nat):∀ m,(prod (chosen rows x m)).2.1=Xm (rows.map (·.2.1)) x m
 | 0=>rfl
 | m+1=>by
  have ih:=Z9u rows x m
  rw[Z2l]
  unfold prod at *
  rw[q4w]
  unfold Xm
  split
  ·show (mul _ _).2.1=_
   show (List.foldl mul (0,0,0) (chosen rows x m)).2.1^^^(rows.getD m (0,0,0)).2.1=_
   rw[ih,q0b,q0b,q0g]
   cases rows[m]?<;>rfl
  ·exact ih
theorem Z9t (rows:List Mk)(x:Nat):∀ m,(prod (chosen rows x m)).2.2=Xm (rows.map (·.2.2)) x m
 | 0=>rfl
 | m+1=>by
  have ih:=Z9t rows x m
  rw[Z2l]
  unfold prod at *
  rw[q4w]
  unfold Xm
  split
  ·show (List.foldl mul (0,0,0) (chosen rows x m)).2.2^^^(rows.getD m (0,0,0)).2.2=_
   rw[ih,q0b,q0b,q0g]
   cases rows[m]?<;>rfl
  ·exact ih
end M54
namespace M57
open Pc K51 M54
noncomputable def xs (fs:W3)(c:Nat->Bool):Nat->Nat
 | 0=>0
 | m+1=>if c m then xs fs c m^^^fs.getD m 0 else xs fs c m
theorem xs_X (fs:W3)(x:Nat):∀ m,Xm fs x m=xs fs (λj=>decide (bit x j=1)) m
 | 0=>rfl
 | m+1=>by
  unfold Xm xs
  rw[xs_X fs x m]
  by_cases h:bit x m=1<;>simp[h]
theorem Z6g {fs gs:W3}{c d:Nat->Bool}:∀ m,(∀ j,j<m->c j=d j/\fs.getD j 0=gs.getD j 0)->xs fs c m=xs gs d m
 | 0,_=>rfl
 | m+1,h=>by
  unfold xs
  rw[Z6g m λj hj=>h j (by omega),(h m (by omega)).1,(h m (by omega)).2]
noncomputable def fOf (ms:List Mk):List Nat:=ms.map (·.2.1)
noncomputable def sOf (ms:List Mk):List Nat:=ms.map (·.2.2)
def Indep (ms:List Mk):Prop:=∀ c:Nat->Bool,xs (fOf ms) c ms.length=0->xs (sOf ms) c ms.length=0->∀ j,j<ms.length->c j=false
theorem Y8e {ms:List Mk}(I:Indep ms){x y:Nat}(hx:x<2^ms.length)(hy:y<2^ms.length)(hf:Xm (fOf ms) x ms.length=Xm (fOf ms) y ms.length)(hs:Xm (sOf ms) x ms.length=Xm (sOf ms) y ms.length):x=y:=by
 have lin:∀ (fs:W3) m,Xm fs (x^^^y) m=Xm fs x m^^^Xm fs y m:=by
  intro fs m
  induction m with
  | zero=>show 0=0^^^0;simp
  | succ m ih =>
   have b:=M54.Z3f m x y
   have bx:=Z1u x m
   have b2:=Z1u y m
   unfold Xm
   rw[ih,b]
   rcases (by omega:bit x m=0∨bit x m=1) with z | z<;>rcases (by omega:bit y m=0∨bit y m=1) with u | u<;>rw[z,u]
   ·simp
   ·simp[q1z]
   ·simp only[show (1+0)%2=1 from rfl,q5q,show ¬ (0=1) by decide,q3z]
    rw[q1z,q1z,q4g (Xm fs y m)]
   ·simp only[show ¬ ((1+1)%2=1) by decide,q5q,q3z]
    rw[q1z,q4g (Xm fs y m) (fs.getD m 0),<-q1z (fs.getD m 0),q3v,Nat.zero_xor]
 have zf:Xm (fOf ms) (x^^^y) ms.length=0:=by rw[lin,hf,q3v]
 have zs:Xm (sOf ms) (x^^^y) ms.length=0:=by rw[lin,hs,q3v]
 rw[xs_X] at zf zs
 refine Z4k ms.length x y hx hy λn hn=>?_
 have h0:=q3u (I _ zf zs n hn)
 have b:=M54.Z3f n x y
 have b1:=Z1u x n
 have b2:=Z1u y n
 omega
end M57
set_option maxHeartbeats 1000000
namespace M88
open M71 Mv M72 M75 M77 M78 M79 M80
noncomputable def cT (j c q w:Nat):Bool :=
 let m:Mk:=(q*2,0,w)
 (w >>> j == 0) || (mvds (tailS m j c) m == (0,0,2^j) && (tailS m j c).all (okb 0 c) && decide ((tailS m j c).length<=c+1) && (List.range j).all λi=>mvds (tailS m j c) (0,0,2^i) == (0,0,2^i))
theorem W0t:((List.range 7).all λc=>(List.range c).all λj=>allM (2^c) (cT j c))=true:=by decide +kernel
theorem big {c x i:Nat}(h:x<2^c)(hi:c<=i):x.testBit i=false:=q7r (q0f h (q0v (by decide) hi))
theorem X8o {j c:Nat}{x:Mv}(h:okb j c x=true):okb 0 c x=true:=by
 cases x<;>simp only[okb,q0u,q2x,q1f,q2u] at h ⊢<;>omega
section
variable {c j:Nat}{m:Mk} (c6:c<=6) (jc:j<c) (hb:∀ (x:Mv) (m:Mk),VOk c x->Bdm c m->Bdm c (mvd x m)) (b:Bdm c m) (e:ev m=0) (z:∀ i,i<j->m.2.1.testBit i=false)
include c6 jc hb b e z
theorem X2x (nz:¬ (m.2.1=0/\m.2.2 >>> j=0)):(mvds (ls1 m j c) m).2.2 >>> j≠0:=by
 have A:=Y1n (m:=m) (n:=m) (X8c j (c-j)) λe _=>⟨U,U⟩
 have ins:∀ i,j<=i->i<c->(mvds (ls1 m j c) m).2.2.testBit i=(m.2.1.testBit i || m.2.2.testBit i):=λi h1 h2=>(A.1 i (rg_mem.mpr (by omega))).2
 intro h0
 have key:∀ i,j<=i->m.2.1.testBit i=false/\m.2.2.testBit i=false:=λi h1=>by
  by_cases h2:c<=i
  ·exact⟨big b.f h2,big b.s h2⟩
  ·have h3:=ins i h1 (by omega)
   have h4:((mvds (ls1 m j c) m).2.2 >>> j).testBit (i-j)=(mvds (ls1 m j c) m).2.2.testBit i:=by rw[q4n,show j+(i-j)=i by omega]
   rw[h0,q3a] at h4
   rw[<-h4] at h3
   exact Bool.or_eq_false_iff.mp h3.symm
 refine nz ⟨?_,?_⟩<;>apply q1w<;>intro i<;>rw[q3a]
 ·by_cases h1:i<j
  ·exact z i h1
  ·exact(key i (by omega)).1
 ·rw[q4n]
  exact(key (j+i) (by omega)).2
theorem layT (nz:¬ (m.2.1=0/\m.2.2 >>> j=0)):mvds (layS m j c) m=(0,0,2^j)/\(∀ x∈layS m j c,okb 0 c x=true)/\(layS m j c).length<=3*c+1/\∀ i,i<j->mvds (layS m j c) (0,0,2^i)=(0,0,2^i):=by
 have o1:∀ x∈ls1 m j c,okb j c x=true:=W2r (λe h1 h2=>X9h h1 h2) λe he=>by have:=rg_mem.mp he;omega
 have n1:=X2x c6 jc hb b e z nz
 have A:=Y1n (m:=m) (n:=m) (X8c j (c-j)) λe _=>⟨U,U⟩
 have bn:=Y2d hb (λx hx=>(Z5d (o1 x hx)).1) b
 have en:ev (mvds (ls1 m j c) m)=0:=(Y1u m (λx hx=>(Z5d (o1 x hx)).1.1) λx hx=>(Z5d (o1 x hx)).2.1).trans e
 have out:∀ i,i<j∨c<=i->(mvds (ls1 m j c) m).2.1.testBit i=false:=λi hi=>by
  have:=A.2 i λq=>by have:=rg_mem.mp q;omega
  exact this.1.trans (hi.elim (z i) λh=>big b.f h)
 have ins:∀ i,j<=i->i<c->(mvds (ls1 m j c) m).2.1.testBit i=false:=λi h1 h2=>(A.1 i (rg_mem.mpr (by omega))).1
 have off:∀ i,i<j->mvds (ls1 m j c) (0,0,2^i)=(0,0,2^i):=λi hi=>Y3g hi (.inl rfl) o1
 unfold layS
 have ll:(ls1 m j c).length<=2*(c-j):=by
  have:=Y8g (Y1m m) (rg j (c-j))
  have r:(rg j (c-j)).length=c-j:=by unfold rg;rw[q0a,q5y]
  rw[r] at this
  exact this
 rw[Z2n]
 generalize mvds (ls1 m j c) m=n at bn en out ins n1
 obtain⟨k,f,s⟩:=n
 have f0:f=0:=by
  apply q1w
  intro i
  rw[q3a]
  by_cases h:j<=i/\i<c
  ·exact ins i h.1 h.2
  ·exact out i (by omega)
 subst f0
 have k2:k%2=0:=by
  have en:(k+M75.bn (bp (0&&&s)))%2=0:=en
  rw[q8r,Y1z] at en
  exact en
 have k4:k<4:=bn.k
 have h:=W0t
 rw[q1e] at h
 have h:=h c (q1c.mpr (by omega))
 rw[q1e] at h
 have h:=X6x (h j (q1c.mpr jc)) (q:=k / 2) (w:=s) (by omega) bn.s
 unfold cT at h
 dsimp only at h
 rw[show k / 2*2=k by omega] at h
 rcases q2x _ _ ▸ h with h | h
 ·rw[q8o] at h
  exact absurd h n1
 ·rw[q0u,q0u,q0u,q8o,q1f,q1e,q1e] at h
  obtain⟨⟨⟨h1,h2⟩,h3⟩,h4⟩:=h
  refine⟨h1,λx hx=>(q1n.mp hx).elim (λq=>X8o (o1 x q)) (h2 x),by rw[q0j];omega,λi hi=>?_⟩
  rw[Z2n,off i hi]
  exact eq_of_beq (h4 i (q1c.mpr hi))
end
theorem xd (a d:Nat):a^^^d^^^d=a:=by rw[q1z,q3v,q8s]
theorem xl (a b d:Nat):a^^^d^^^b=a^^^b^^^d:=by rw[q1z,q4g d b,<-q1z]
theorem xr (a b d:Nat):a^^^(b^^^d)=a^^^b^^^d:=(q1z _ _ _).symm
theorem X2m (f g a b:Nat):sw (f^^^g) a b=sw f a b^^^sw g a b:=by
 unfold sw
 rw[q1d,q1d]
 cases f.testBit a<;>cases g.testBit a<;>cases f.testBit b<;>cases g.testBit b<;>simp[fl,xd,xl,xr]
theorem X5r (x:Mv)(k:Nat)(m n:Mk):(mvd x (k,m.2.1^^^n.2.1,m.2.2^^^n.2.2)).2=((mvd x m).2.1^^^(mvd x n).2.1,(mvd x m).2.2^^^(mvd x n).2.2):=by
 obtain⟨k1,f,s⟩:=m
 obtain⟨k2,g,t⟩:=n
 cases x with
 | flip a=>rfl
 | mix a =>
  unfold mvd
  dsimp only
  rw[q1d,q1d]
  cases f.testBit a.toNat<;>cases s.testBit a.toNat<;>cases g.testBit a.toNat<;>cases t.testBit a.toNat<;>simp[fl,xd,xl,xr]
 | turn a j =>
  unfold mvd
  dsimp only
  rw[q1d]
  by_cases h:j.toNat%4=2
  ·simp only[if_pos h]
   cases f.testBit a.toNat<;>cases g.testBit a.toNat<;>simp[fl,xd,xl,xr]
  ·simp only[if_neg h]
   cases f.testBit a.toNat<;>cases g.testBit a.toNat<;>simp
 | iff a b =>
  unfold mvd
  dsimp only
  rw[q1d,q1d]
  cases f.testBit a.toNat<;>cases g.testBit a.toNat<;>cases s.testBit b.toNat<;>cases t.testBit b.toNat<;>simp[fl,xd,xl,xr]
 | pair a b =>
  unfold mvd
  dsimp only
  rw[q1d,q1d]
  cases f.testBit a.toNat<;>cases g.testBit a.toNat<;>cases f.testBit b.toNat<;>cases g.testBit b.toNat<;>simp[fl,xd,xl,xr]
 | swap a b =>
  unfold mvd
  dsimp only
  rw[X2m,X2m]
 | cross a b d=>rfl
theorem X5p (x:Mv){m n:Mk}(h:m.2=n.2):(mvd x m).2=(mvd x n).2:=by
 obtain⟨k1,f,s⟩:=m
 obtain⟨k2,g,t⟩:=n
 cases (show f=g from congrArg Prod.fst h)
 cases (show s=t from congrArg Prod.snd h)
 cases x with
 | turn a j =>
  unfold mvd
  dsimp only
  cases f.testBit a.toNat<;>rfl
 | _=>rfl
theorem Z8s:∀ (r:List Mv) {m n:Mk},m.2=n.2->(mvds r m).2=(mvds r n).2
 | [],_,_,h=>h
 | x::r,_,_,h=>Z8s r (X5p x h)
theorem Z6l:∀ (r:List Mv) (k:Nat) (m n:Mk),(mvds r (k,m.2.1^^^n.2.1,m.2.2^^^n.2.2)).2=((mvds r m).2.1^^^(mvds r n).2.1,(mvds r m).2.2^^^(mvds r n).2.2)
 | [],_,_,_=>rfl
 | x::r,k,m,n=>by
  have h:=Z6l r k (mvd x m) (mvd x n)
  have e:=Z8s r (m:=mvd x (k,m.2.1^^^n.2.1,m.2.2^^^n.2.2)) (n:=(k,(mvd x m).2.1^^^(mvd x n).2.1,(mvd x m).2.2^^^(mvd x n).2.2)) (X5r x k m n)
  exact e.trans h
theorem Z9z (r:List Mv)(k:Nat):(mvds r (k,0,0)).2=(0,0):=by
 have h:=Z6l r k (k,0,0) (k,0,0)
 rw[q3v,q3v,q3v] at h
 exact h
noncomputable def lrow (ms:List Mk)(c:Nat):Nat->List Mv
 | 0=>[]
 | j+1=>lrow ms c j++layS (mvds (lrow ms c j) (ms.getD j (0,0,0))) j c
noncomputable def sg2 (cb:Nat->Bool):Nat->Nat
 | 0=>0
 | n+1=>if cb n then sg2 cb n^^^2^n else sg2 cb n
theorem Y8s (s:Nat):∀ n i,(sg2 (λk=>s.testBit k) n).testBit i=(decide (i<n) && s.testBit i)
 | 0,i=>by simp[sg2]
 | n+1,i=>by
  unfold sg2
  have ih:=Y8s s n i
  cases h:s.testBit n with
  | true =>
   rw[if_pos rfl,q1d,ih,q2a]
   by_cases e:n=i
   ·subst e
    simp[h]
   ·by_cases l:i<n
    ·rw[q0q l,q0q (show i<n+1 by omega),q0k e];simp
    ·rw[q0k l,q0k (show ¬ i<n+1 by omega),q0k e];simp
  | false =>
   rw[if_neg (by decide),ih]
   by_cases e:n=i
   ·subst e
    simp[h]
   ·by_cases l:i<n
    ·rw[q0q l,q0q (show i<n+1 by omega)]
    ·rw[q0k l,q0k (show ¬ i<n+1 by omega)]
theorem fget (ms:List Mk)(j:Nat):(M57.fOf ms).getD j 0=(ms.getD j (0,0,0)).2.1:=by
 unfold M57.fOf
 rw[q0b,q0b,q0g]
 cases ms[j]?<;>rfl
theorem sget (ms:List Mk)(j:Nat):(M57.sOf ms).getD j 0=(ms.getD j (0,0,0)).2.2:=by
 unfold M57.sOf
 rw[q0b,q0b,q0g]
 cases ms[j]?<;>rfl
theorem behind {ms:List Mk}{r:List Mv}(cb:Nat->Bool):∀ n,(∀ i,i<n->(mvds r (ms.getD i (0,0,0))).2=(0,2^i))->(mvds r (0,M57.xs (M57.fOf ms) cb n,M57.xs (M57.sOf ms) cb n)).2=(0,sg2 cb n)
 | 0,_=>Z9z r 0
 | n+1,h=>by
  have ih:=behind cb n λi hi=>h i (by omega)
  have hn:=h n (by omega)
  unfold M57.xs sg2
  cases cb n with
  | false=>exact ih
  | true =>
   rw[if_pos rfl,if_pos rfl,if_pos rfl,fget,sget]
   have:=Z6l r 0 (0,M57.xs (M57.fOf ms) cb n,M57.xs (M57.sOf ms) cb n) (ms.getD n (0,0,0))
   rw[ih,hn] at this
   rw[show (0:Nat)^^^0=0 from rfl] at this
   exact this
theorem X7r {fs:W3}{a b:Nat->Bool}:∀ n,(∀ i,i<n->a i=b i)->M57.xs fs a n=M57.xs fs b n:=λn h=>M57.Z6g n λj hj=>⟨h j hj,U⟩
theorem X2h {fs:W3}{a:Nat->Bool}{n:Nat}:∀ d,(∀ i,n<=i->a i=false)->M57.xs fs a (n+d)=M57.xs fs a n
 | 0,_=>rfl
 | d+1,h=>by
  show (if a (n+d) then M57.xs fs a (n+d)^^^fs.getD (n+d) 0 else M57.xs fs a (n+d))=_
  rw[h (n+d) (by omega),if_neg (by decide)]
  exact X2h d h
theorem Z6k {ms:List Mk}{r:List Mv}{j:Nat}(I:M57.Indep ms)(hj:j<ms.length)(inv:∀ m:Mk,m.1<4->(mvds r m).2=(0,0)->m.2=(0,0))(f:∀ i,i<j->(mvds r (ms.getD i (0,0,0))).2=(0,2^i)):¬ ((mvds r (ms.getD j (0,0,0))).2.1=0/\(mvds r (ms.getD j (0,0,0))).2.2 >>> j=0):=by
 rintro ⟨h1,h2⟩
 generalize hs:(mvds r (ms.getD j (0,0,0))).2.2=s at h2
 have e:(mvds r (ms.getD j (0,0,0))).2=(0,s):=Prod.ext h1 hs
 have b:=behind (ms:=ms) (r:=r) (λk=>s.testBit k) j f
 have es:sg2 (λk=>s.testBit k) j=s:=by
  apply q1w
  intro i
  rw[Y8s]
  by_cases l:i<j
  ·rw[q0q l];rfl
  ·rw[q0k l]
   have:=congrArg (λx=>x.testBit (i-j)) h2
   rw[q4n,q3a,show j+(i-j)=i by omega] at this
   rw[this];rfl
 rw[es] at b
 have l:=Z6l r 0 (0,M57.xs (M57.fOf ms) (λk=>s.testBit k) j,M57.xs (M57.sOf ms) (λk=>s.testBit k) j) (ms.getD j (0,0,0))
 rw[b,e] at l
 have z:=inv _ (show (0:Nat)<4 by decide) (l.trans (by rw[q3v,q3v]))
 have z1:M57.xs (M57.fOf ms) (λk=>s.testBit k) j^^^(ms.getD j (0,0,0)).2.1=0:=congrArg Prod.fst z
 have z2:M57.xs (M57.sOf ms) (λk=>s.testBit k) j^^^(ms.getD j (0,0,0)).2.2=0:=congrArg Prod.snd z
 have key:∀ fs:List Nat,M57.xs fs (λk=>if k<j then s.testBit k else decide (k=j)) ms.length=M57.xs fs (λk=>s.testBit k) j^^^fs.getD j 0:=λfs=>by
  obtain⟨d,hd⟩:∃ d,ms.length=j+1+d:=⟨ms.length-(j+1),by omega⟩
  rw[hd,X2h (n:=j+1) d λi hi=>by rw[if_neg (by omega),q0k (by omega)]]
  show (if (if j<j then s.testBit j else decide (j=j)) then M57.xs fs _ j^^^fs.getD j 0 else M57.xs fs _ j)=_
  rw[if_neg (q3m j),q0q rfl,if_pos rfl,X7r j λi hi=>by rw[if_pos hi]]
 have:=I (λk=>if k<j then s.testBit k else decide (k=j)) (by rw[key,fget];exact z1) (by rw[key,sget];exact z2) j hj
 rw[if_neg (q3m j),q0q rfl] at this
 cases this
structure Tbl (ms:List Mk) (c:Nat):Prop where
 bd:∀ m∈ms,Bdm c m
 ev:∀ m∈ms,M75.ev m=0
 cm:∀ m∈ms,∀ n∈ms,M79.cm m n=false
 ind:M57.Indep ms
theorem getD_mem {ms:List Mk}{j:Nat}(h:j<ms.length):ms.getD j (0,0,0)∈ms:=by
 rw[q0b,q0d h]
 exact q4l h
theorem rok {c:Nat}{row:List Mv}(h:∀ x∈row,okb 0 c x=true):(∀ x∈row,VOk c x)/\(∀ x∈row,Ok x)/\∀ x∈row,Br x:=⟨λx hx=>(Z5d (h x hx)).1,λx hx=>(Z5d (h x hx)).1.1,λx hx=>(Z5d (h x hx)).2.1⟩
theorem X6d {c:Nat}{r:List Mv}(h:∀ x∈r,okb 0 c x=true)(m:Mk)(m4:m.1<4)(e:(mvds r m).2=(0,0)):m.2=(0,0):=by
 have b:=Z9f (rok h).2.1 (rok h).2.2 m4 λx n _ q=>M87.X2w x n q
 rw[<-b]
 exact(Z8s (bwd r) (m:=mvds r m) (n:=((mvds r m).1,0,0)) e).trans (Z9z _ _)
structure Pre (m:Mk) (c j:Nat):Prop where
 bd:Bdm c m
 ev:M75.ev m=0
 z:∀ i,i<j->m.2.1.testBit i=false
 nz:¬ (m.2.1=0/\m.2.2 >>> j=0)
 jc:j<c
theorem X2p {ms:List Mk}{c j:Nat}{r:List Mv}(hb:∀ (x:Mv) (m:Mk),VOk c x->Bdm c m->Bdm c (mvd x m))(T:Tbl ms c)(hj:j<ms.length)(jc:j<=c)(ok:∀ x∈r,okb 0 c x=true)(fx:∀ i,i<j->mvds r (ms.getD i (0,0,0))=(0,0,2^i)):Pre (mvds r (ms.getD j (0,0,0))) c j:=by
 obtain⟨v,o,b⟩:=rok ok
 have bd:=Y2d hb v (T.bd _ (getD_mem hj))
 have z:∀ i,i<j->(mvds r (ms.getD j (0,0,0))).2.1.testBit i=false:=λi hi=>by
  have h:=Y8p (row:=r) (ms.getD j (0,0,0)) (ms.getD i (0,0,0)) o b
  rw[fx i hi,T.cm _ (getD_mem hj) _ (getD_mem (show i<ms.length by omega)),cm_s] at h
  exact h
 have nz:=Z6k T.ind hj (X6d ok) λi hi=>congrArg Prod.snd (fx i hi)
 refine⟨bd,(Y1u _ o b).trans (T.ev _ (getD_mem hj)),z,nz,Nat.lt_of_le_of_ne jc λe=>nz ⟨?_,?_⟩⟩
 ·apply q1w
  intro i
  rw[q3a]
  by_cases h:i<j
  ·exact z i h
  ·exact big bd.f (by omega)
 ·apply q1w
  intro i
  rw[q3a,q4n]
  exact big bd.s (by omega)
structure Lr (ms:List Mk) (c j:Nat):Prop where
 ok:∀ x∈lrow ms c j,okb 0 c x=true
 len:(lrow ms c j).length<=j*(3*c+1)
 fx:∀ i,i<j->mvds (lrow ms c j) (ms.getD i (0,0,0))=(0,0,2^i)
 jc:j<=c
theorem Z5u {ms:List Mk}{c:Nat}(c6:c<=6)(hb:∀ (x:Mv) (m:Mk),VOk c x->Bdm c m->Bdm c (mvd x m))(T:Tbl ms c):∀ j,j<=ms.length->Lr ms c j
 | 0,_=>⟨(λx hx=>by cases hx),q1o _,(λi hi=>absurd hi (by omega)),q1o _⟩
 | j+1,hj=>by
  have L:=Z5u c6 hb T j (by omega)
  have p:=X2p hb T hj L.jc L.ok L.fx
  obtain⟨l1,l2,l3,l4⟩:=layT c6 p.jc hb p.bd p.ev p.z p.nz
  refine⟨λx hx=>(q1n.mp hx).elim (L.ok x) (l2 x),?_,λi hi=>?_,p.jc⟩
  ·have:=L.len
   have e:(j+1)*(3*c+1)=j*(3*c+1)+(3*c+1):=Nat.succ_mul _ _
   show (lrow ms c j++_).length<=_
   rw[q0j]
   omega
  ·show mvds (lrow ms c j++_) _=_
   rw[Z2n]
   by_cases h:i<j
   ·rw[L.fx i h]
    exact l4 i h
   ·have:i=j:=by omega
    subst this
    exact l1
theorem X1a {ms:List Mk}{c j:Nat}(c6:c<=6)(hb:∀ (x:Mv) (m:Mk),VOk c x->Bdm c m->Bdm c (mvd x m))(T:Tbl ms c)(hj:j<ms.length):Pre (mvds (lrow ms c j) (ms.getD j (0,0,0))) c j :=
 have L:=Z5u c6 hb T j (by omega)
 X2p hb T hj L.jc L.ok L.fx
theorem Y7y {ms:List Mk}{c i:Nat}(c6:c<=6)(hb:∀ (x:Mv) (m:Mk),VOk c x->Bdm c m->Bdm c (mvd x m))(T:Tbl ms c)(hi:i<ms.length):mvds (bwd (lrow ms c ms.length)) (0,0,2^i)=ms.getD i (0,0,0):=by
 have L:=Z5u c6 hb T ms.length (q0l _)
 rw[<-L.fx i hi]
 exact Z9f (rok L.ok).2.1 (rok L.ok).2.2 (T.bd _ (getD_mem hi)).k λx n _ q=>M87.X2w x n q
end M88
set_option maxHeartbeats 4000000
namespace K55S
open L2 Ba Am Pc M71
open K76 (top Bs)
open M72 (VOk)
open M75 (Mk mvd mvds Br bn bp ev)
open M77 (bk)
open M78 (mts rg ls1 layS kpt okb)
theorem Z4x {H:Hp}:∀ {ps qs:U3}{xs ys:List Mm},RowsM H ps xs->RowsM H qs ys->RowsM H (ps++qs) (xs++ys)
 | [],_,[],_,.nil,h=>h
 | _::_,_,_::_,_,.cons a r,h=>.cons a (Z4x r h)
theorem Z7a {H:Hp}{l:W9}{xs ys:List V}{ps:U3}{ms:List Mm}(h:RowsM H ps ms)(hl:H l=some (.lst xs)):RowsM (upd H l (.lst ys)) ps ms :=
 Y6k (λ_ _ c=>by rw[Z0u (Z5f c hl (by intro z;cases z))];exact c) h
theorem Y6d {H:Hp}{l:W9}{ps qs:U3}{row more:List Mv}(hl:H l=some (.lst (ps.map V.ref)))(h1:RowsM H ps (row.map mm))(h2:RowsM H qs (more.map mm)):RowAt (upd H l (.lst (ps.map V.ref++qs.map V.ref))) l (row++more) :=
 ⟨ps++qs,by rw[Z0d,q0i],by rw[q0i];exact Z7a (Z4x h1 h2) hl⟩
theorem X4i (j i:Nat):rg j (i+1)=rg j i++[i+j]:=by
 unfold rg
 rw[q4q,q0i]
 rfl
theorem hbd {c:Nat}:∀ (x:Mv) (m:Mk),VOk c x->M80.Bdm c m->M80.Bdm c (mvd x m):=λx m o b=>by
 have:=X2v o (⟨b.k,b.f,b.s⟩:OkK c m)
 exact⟨this.k,this.f,this.s⟩
theorem Z5o {j c:Nat}{row:List Mv}(h:∀ x∈row,okb j c x=true):(∀ x∈row,VOk c x)/\∀ x∈row,Br x:=⟨λx hx=>(M79.Z5d (h x hx)).1,λx hx=>(M79.Z5d (h x hx)).2.1⟩
theorem W1o (x j:Nat):(x:Int) / 2^(j:Int).toNat=((x >>> j:Nat):Int):=by
 rw[q0x,q6v]
 simp
def spLayS (K:U0):Sp:=λvs H Q _=>∃ (p:W9) (m:Mk) (j c:Nat),vs=[.ref p,.int j,.int c]/\SqT K H p (mkL m)/\OkK c m/\c<=6/\j<c/\ev m=0/\(∀ i,i<j->m.2.1.testBit i=false)/\¬ (m.2.1=0/\m.2.2 >>> j=0) ∧
 ∀ (r:W9) (H':Hp),H r=none->Same H H'->RowAt H' r (layS m j c)->Q (.ref r) H'
section
variable {P:U8}{w:W1}{K:U0}{mg:U4}{base:Heap}{k:Nat}{h:Heap}
theorem sc_layS:FnScope ["mark","cell","cells","row","each","signs","kept"] ["mark","cell","cells"] (Z0h (top 82)):=fS
theorem X4z (F:FunAt K "layer_to_sign" (top 82) .none)(X:K.In h)(G:Ng h mg)(B:Bs mg)(d8:Cal P w K mg base k "moves_to_sign" ["letter","cell"] spMts)(e9:Cal P w K mg base k "cell_sign" ["mark","cell"] (spSgn K))(c8:Cal P w K mg base k "moved_through" ["mark","row"] (Z3h K))(dS:Cal P w K mg base k "least_cell" ["word"] spLst):Cal P w K mg base (k+1) "layer_to_sign" ["mark","cell","cells"] (spLayS K):=by
 have nd:=sc_layS.nd
 refine F.cal X G sc_layS (bnd3 λ_ _ _ _ _ _ _ _ _=>rfl) (λvs H Q E h=>?_) (λfa cdv A outer s H vs Q E hr h=>?_)
 ·obtain⟨p,m,j,c,rfl,_⟩:=h;rfl
 obtain⟨p,m,j,c,rfl,S,o,c6,jc,e,z,nz,q⟩:=h
 obtain⟨_,ly2,ly3,_⟩:=M88.layT c6 jc hbd (⟨o.k,o.f,o.s⟩:M80.Bdm c m) e z nz
 have o1:∀ x∈ls1 m j c,okb 0 c x=true:=λx hx=>ly2 x (q2d _ hx)
 obtain⟨v1,b1⟩:=Z5o o1
 have len1:(ls1 m j c).length<=200:=by
  unfold layS at ly3
  rw[q0j] at ly3
  omega
 have on:=Y1l v1 o
 refine⟨_,(@Z0g _ _ _ _ _ (@Z0q _ _ 3 _ _ _ _ nd rfl (Or.inl rfl) (@Z3s _ _ _ _ Z0c) rfl (.inl rfl))
  (@Z0g _ _ _ _ _ (Z2w PassesOwn.never rfl (Y6l rfl B.range (Z0a (pv 1) (Z0a (pv 2) Z0c))) (Z0t (i:=4) nd rfl (Or.inl rfl))
   (@Z0e _ _ _ (Z2x (Y6q q3l q6z q6y Y0b (pv 3) (Z0a (Z0m d8 hr rfl (Z0a (Z0m e9 hr rfl (Z0a (pv 0) (Z0a (pv 4) Z0c))) (Z0a (pv 4) Z0c))) Z0c)))))
  (@Z1g _ _ _ _ _ (@Z0q _ _ 5 _ _ _ _ nd rfl (Or.inr rfl) (Z0l Z0i (Z0m c8 hr rfl (Z0a (pv 0) (Z0a (pv 3) Z0c))) Z0b (λ_ _=>rfl)) rfl (.inl rfl))
  (@Z1g _ _ _ _ _ (@Z0q _ _ 6 _ _ _ _ nd rfl (Or.inr rfl) (Z0j Z1r (pv 1) (Z0m dS hr rfl (Z0a (Z0j Z3i (pv 5) (pv 1)) Z0c))) rfl (.inl rfl))
  (@Z1g _ _ _ _ _ (Z2x (Y6q q3l q6z q6y Y0b (pv 3) (Z0a (Y2z rfl (LcOk.of (Nc:=["each","signs","kept"]) (mp:=[none,some 5,some 6]) (by kernel_rfl)) (Z1v rfl B.range (Z0a (pv 2) Z0c)) (λ_ _ _ _=>(Z0t (i:=0) (show (["each","signs","kept"]:W0).Nodup by decide +kernel) rfl (Or.inl rfl))) (λ_ _ _ _=>(PW.pt (Z4y (Z0p Z5r (pv 0) (pv 2) (nomark _)) (Z3w (Z2c (Z0j Z0z (Z0j Z3i (pv 1) (pv 0)) Z0b) (by intro _;rfl)))))) (λ_ _ _ _=>(@Z1a _ _ _ _ _ (Z0a Z0y (Z0a (pv 0) (Z0a (pv 2) Z0c)))))) Z0c)))
  (@Z1g _ _ _ _ _ (Z0w (Z0p Z5r (pv 6) (pv 1) (nomark _))
   (@Z0e _ _ _ (Z2x (Y6q q3l q5j q5i Z4c (pv 3) (Z0a (@Z1a _ _ _ _ _ (Z0a Z0y (Z0a (pv 1) (Z0a (pv 6) Z0c)))) Z0c))))
   Z0o)
  (@Z1g _ _ _ _ _ (Z0w (Z0p Z5r (Z0l Z0i (Z0m c8 hr rfl (Z0a (pv 0) (Z0a (pv 3) Z0c))) Z0b (λ_ _=>rfl)) Z0b (nomark _))
   (@Z0e _ _ _ (Z2x (Y6q q3l q5j q5i Z4c (pv 3) (Z0a (@Z1a _ _ _ _ _ (Z0a Z0y (Z0a (pv 1) Z0c))) Z0c))))
   Z0o)
  (@Z0e _ _ _ (Z0k (pv 3)))))))))),?_⟩
 try dsimp only[cxK]
 refine⟨q1o _,λl hl=>?_⟩
 refine⟨_,U,_,U,_,_,U,⟨by omega,by omega,by omega,by omega⟩,?_⟩
 rw[show ((c:Int)-(j:Int)).toNat=c-j by omega]
 refine Z7k (lo:=(j:Int)) (n:=c-j) (λi σ H'=>∃ v:Option V,Same H H'/\RowAt H' l ((rg j i).flatMap (mts m))/\σ=[some (.ref p),some (.int j),some (.int c),some (.ref l),v,none,none])
  ⟨none,Z0f hl _,⟨[],Z0d,.nil⟩,U⟩ ?_ ?_
 ·rintro i σ H1 hi ⟨v,S1,⟨ps,h1,r1⟩,rfl⟩
  have ei:((j:Int)+(i:Int))=((i+j:Nat):Int):=by omega
  have pl:ps.length<=2*i:=by
   have:=Z2b r1
   rw[q0a] at this
   have r:=M80.Y8g (M80.Y1m m) (rg j i)
   have rl:(rg j i).length=i:=by unfold rg;rw[q0a,q5y]
   rw[rl] at r
   omega
  refine⟨_,U,.inl ⟨U,_,SqL.of h1⟩,_,U,_,U,p,m,i+j,by rw[ei];rfl,S1.tup S,_,U,m.2.1.testBit (i+j),m.2.2.testBit (i+j),i+j,m,by rw[ei];rfl,U,U,λr H2 nr S2 R2=>?_⟩
  obtain⟨qs,h2,r2⟩:=R2
  have ql:qs.length<=2:=by
   have:=Z2b r2
   rw[q0a] at this
   have:=M80.Y1m m (i+j)
   omega
  refine⟨l,r,_,_,U,U,S2 _ _ h1,h2,?_,?_⟩
  ·rw[q0a,q0a]
   exact q1b (show _<=100 by omega) (by decide)
  refine⟨_,Z0v (S1.trans S2) hl,?_,U⟩
  rw[X4i,List.flatMap_append]
  have:=Y6d (more:=[i+j].flatMap (mts m)) (S2 _ _ h1) (r1.same S2) (by rw[q7b,List.flatMap_nil,q2o];exact r2)
  exact this
 ·rintro σ H1 ⟨v,S1,R1,rfl⟩
  have R1:RowAt H1 l (ls1 m j c):=R1
  have nzn:=M88.X2x c6 jc hbd (⟨o.k,o.f,o.s⟩:M80.Bdm c m) e z nz
  obtain⟨n,en⟩:∃ n,mvds (ls1 m j c) m=n:=⟨_,U⟩
  rw[en] at on nzn
  have lay:layS m j c=ls1 m j c++M78.tailS n j c:=by unfold layS;rw[en]
  have n64:n.2.2 >>> j<64:=by
   rw[q6v]
   refine q2t (Nat.div_le_self _ _) (q0f on.s ?_)
   exact q0v (by decide) c6
  refine⟨λσ H'=>Same H1 H'/\σ=[some (.ref p),some (.int j),some (.int c),some (.ref l),v,some (.int (n.2.2:Nat)),none],?_,?_⟩
  ·refine⟨_,U,_,U,p,l,m,ls1 m j c,c,U,S1.tup S,R1,o,c6,v1,b1,len1,λr0 H2 S2 h2=>?_⟩
   rw[en] at h2
   exact⟨r0,_,_,.int (n.2.2:Nat),U,U,h2,k2,S2,U⟩
  rintro σ H2 ⟨S2,rfl⟩
  refine⟨λσ H'=>H2=H'/\σ=[some (.ref p),some (.int j),some (.int c),some (.ref l),v,some (.int (n.2.2:Nat)),some (.int (kpt n j:Nat))],?_,?_⟩
  ·refine⟨_,U,_,U,_,U,_,_,U,U,(by show (0:Int)<=(j:Int);omega),n.2.2 >>> j,?_,n64,nzn,_,_,U,U,U,?_⟩
   ·show [V.int ((n.2.2:Int) / 2^(j:Int).toNat)]++[]=_
    rw[W1o]
    rfl
   ·rfl
  rintro σ _ ⟨rfl,rfl⟩
  obtain⟨ps,h2,r2⟩:=R1.same S2
  have pl:ps.length=(ls1 m j c).length:=by have:=Z2b r2;rw[q0a] at this;exact this
  refine⟨λσ H'=>Same H H'/\RowAt H' l (ls1 m j c++M78.s2 n j c)/\σ=[some (.ref p),some (.int j),some (.int c),some (.ref l),v,some (.int (n.2.2:Nat)),some (.int (kpt n j:Nat))],?_,?_⟩
  ·refine⟨_,U,.inl ⟨U,_,SqL.of h2⟩,_,U,_,U,by omega,by omega,λacc hacc=>?_⟩
   rw[q0x]
   have ga:acc≠l:=λz=>by rw[z,h2] at hacc;cases hacc
   refine Z7h (n:=c) (fr:=[some (.int (n.2.2:Nat)),some (.int (kpt n j:Nat))]) (λi ys H'=>Same H2 H'/\H' acc=some (.lst ys)/\∃ qs:List Addr,ys=qs.map V.ref/\RowsM H' qs ((((List.range i).filter λe=>decide (e≠kpt n j) && n.2.2.testBit e).map λ(e:Nat)=>Mv.iff (e:Int) (kpt n j:Int)).map mm)/\qs.length<=i) (t64 (by omega)) ⟨Z0f hacc _,Z0d,[],U,.nil,q0l _⟩ ?_ (λhm z=>?_) ?_
   ·rintro i ys H5 N hi hly ⟨S5,a5,qs,rfl,M5,ql⟩ kN
    have z0:(0:Int)+(i:Int)=(i:Int):=q3x _
    have stay:(decide (i≠kpt n j) && n.2.2.testBit i)=false->Same H2 H5/\H5 acc=some (.lst (qs.map V.ref))/\∃ qs':List Addr,qs.map V.ref=qs'.map V.ref/\RowsM H5 qs' ((((List.range (i+1)).filter λe=>decide (e≠kpt n j) && n.2.2.testBit e).map λ(e:Nat)=>Mv.iff (e:Int) (kpt n j:Int)).map mm)/\qs'.length<=i+1:=λhP=>by
     refine⟨S5,a5,qs,U,?_,by omega⟩
     rw[q4q,q3i,List.filter_cons_of_neg (by rw[hP];decide),List.filter_nil,q2o]
     exact M5
    refine⟨_,U,_,U,U,_,U,neI (λne=>?_) (λeq=>kN _ _ (λz=>(nomatch z)) (λ_=>stay ?_))⟩
    ·refine⟨_,U,_,U,_,_,U,U,(by show (0:Int)<=0+(i:Int);omega),_,_,U,U,_,U,?_⟩
     show N (Builtin.bitAnd ((n.2.2:Int) / 2^(0+(i:Int)).toNat) 1 != 0) H5
     rw[z0,bt1]
     have ne':i≠kpt n j:=λz=>ne (by rw[z0,z])
     refine kN _ _ (λhb=>?_) (λhb=>stay ?_)
     ·have hP:(decide (i≠kpt n j) && n.2.2.testBit i)=true:=by
       rw[q0q ne',q6g]
       cases q:n.2.2.testBit i with
       | true=>rfl
       | false=>rw[q] at hb;cases hb
      refine⟨_,U,_,U,t3,λt ht=>⟨Z0f ht _ _ _ a5,Z0v (S5.trans (Z0f ht _)) hacc,Z0d,qs++[t],by rw[q0i];rfl,?_,by rw[q0j,q2g];omega⟩⟩
      rw[q4q,q3i,List.filter_cons_of_pos (p:=λe=>decide (e≠kpt n j) && n.2.2.testBit e) hP,List.filter_nil,q0i,q0i]
      refine Z7a (Z4x (M5.same (Z0f ht _)) (.cons ?_ .nil)) (Z0f ht _ _ _ a5)
      rw[Z0d,z0]
      rfl
     ·cases q:n.2.2.testBit i with
      | true=>rw[q] at hb;cases hb
      | false=>rw[Bool.and_false]
    ·have:i=kpt n j:=by rw[z0] at eq;omega
     rw[q0k (λz=>z this),q3y]
   ·obtain⟨u,e1,u2,e2,hl2,z⟩:=z
    exact⟨u,e1,u2,e2,hl2,λt ht=>hm _ _ (z t ht)⟩
   ·rintro ys H5 ⟨S5,a5,qs,rfl,M5,ql⟩
    refine⟨l,acc,_,_,U,U,S5 _ _ h2,a5,?_,Z0v ((S1.trans S2).trans S5) hl,Y6d (S5 _ _ h2) (r2.same S5) M5,U⟩
    rw[q0a,q0a]
    exact q1b (show _<=300 by omega) (by decide)
  rintro σ H3 ⟨S3,R3,rfl⟩
  have o3:∀ x∈ls1 m j c++M78.s2 n j c++M78.s3 n j,okb 0 c x=true:=λx hx=>ly2 x (by
   rw[lay]
   unfold M78.tailS
   rw[<-q3q,<-q3q]
   exact q2d _ hx)
  have lenL:(layS m j c).length<=20:=by omega
  have eL:layS m j c=ls1 m j c++M78.s2 n j c++M78.s3 n j++M78.s4 n j c:=by
   rw[lay]
   unfold M78.tailS
   rw[<-q3q,<-q3q]
  rw[eL,q0j,q0j,q0j] at lenL
  have add:∀ {H0:Hp}{row:List Mv}{x:Mv},Same H H0->RowAt H0 l row->row.length<=20->∀ (t:W9),H0 t=none->∃ ps0:List Addr,H0 l=some (.lst (ps0.map V.ref))/\ps0.length<=20/\RowAt (upd (upd H0 t (mT (mm x))) l (.lst (ps0.map V.ref++[V.ref t]))) l (row++[x])/\Same H (upd (upd H0 t (mT (mm x))) l (.lst (ps0.map V.ref++[V.ref t]))):=λ{H0 row x} S0 R0 l0 t ht=>by
   obtain⟨ps0,h0,r0⟩:=R0
   have pl0:ps0.length=row.length:=by have:=Z2b r0;rw[q0a] at this;exact this
   refine⟨ps0,h0,by omega,⟨ps0++[t],by rw[Z0d,q0i];rfl,?_⟩,Z0v (S0.trans (Z0f ht _)) hl⟩
   rw[q0i]
   exact Z7a (Z4x (r0.same (Z0f ht _)) (.cons Z0d .nil)) (Z0f ht _ _ _ h0)
  refine⟨λσ H'=>Same H H'/\RowAt H' l (ls1 m j c++M78.s2 n j c++M78.s3 n j)/\σ=[some (.ref p),some (.int j),some (.int c),some (.ref l),v,some (.int (n.2.2:Nat)),some (.int (kpt n j:Nat))],?_,?_⟩
  ·refine⟨_,U,_,U,U,_,U,neI (λne=>?_) (λeq=>⟨S3,?_,U⟩)⟩
   ·have ne':kpt n j≠j:=λz=>ne (by rw[z])
    have e3:M78.s3 n j=[.swap (j:Int) (kpt n j:Int)]:=by unfold M78.s3;rw[if_neg ne']
    obtain⟨ps3,h3,r3⟩:=id R3
    refine⟨_,U,.inl ⟨U,_,SqL.of h3⟩,_,U,_,U,t3,λt ht=>?_⟩
    obtain⟨ps0,h0,l0,R0,S0⟩:=add (x:=.swap (j:Int) (kpt n j:Int)) S3 R3 (by rw[q0j];omega) t ht
    refine⟨l,_,_,U,U,Z0f ht _ _ _ h0,?_,S0,?_,U⟩
    ·rw[q0a]
     exact q2t l0 (by decide)
    ·rw[e3]
     exact R0
   ·have eq':kpt n j=j:=by omega
    have e3:M78.s3 n j=[]:=by unfold M78.s3;rw[if_pos eq']
    rw[e3,q2o]
    exact R3
  rintro σ H4 ⟨S4,R4,rfl⟩
  obtain⟨v3,b3⟩:=Z5o o3
  have emv:mvds (ls1 m j c++M78.s2 n j c++M78.s3 n j) m=mvds (M78.s2 n j c++M78.s3 n j) n:=by rw[q3q,M77.Z2n,en]
  refine⟨λσ H'=>Same H H'/\RowAt H' l (layS m j c)/\σ=[some (.ref p),some (.int j),some (.int c),some (.ref l),v,some (.int (n.2.2:Nat)),some (.int (kpt n j:Nat))],?_,?_⟩
  ·refine⟨_,U,_,U,p,l,m,_,c,U,S4.tup S,R4,o,c6,v3,b3,by rw[q0j,q0j];omega,λr0 H5 S5 h5=>?_⟩
   rw[emv] at h5
   refine⟨r0,_,_,.int ((mvds (M78.s2 n j c++M78.s3 n j) n).1:Nat),U,U,h5,k0,U,_,U,neI (λne=>?_) (λeq=>⟨S4.trans S5,?_,U⟩)⟩
   ·have ne':(mvds (M78.s2 n j c++M78.s3 n j) n).1≠0:=λz=>ne (by rw[z];rfl)
    have e4:M78.s4 n j c=[.flip (j:Int)]:=by unfold M78.s4;rw[if_neg ne']
    have R5:=R4.same S5
    obtain⟨ps5,h5',r5⟩:=id R5
    refine⟨_,U,.inl ⟨U,_,SqL.of h5'⟩,_,U,t2,λt ht=>?_⟩
    obtain⟨ps0,h0,l0,R0,S0⟩:=add (x:=.flip (j:Int)) (S4.trans S5) R5 (by rw[q0j,q0j];omega) t ht
    refine⟨l,_,_,U,U,Z0f ht _ _ _ h0,?_,S0,?_,U⟩
    ·rw[q0a]
     exact q2t l0 (by decide)
    ·rw[eL,e4]
     exact R0
   ·have eq':(mvds (M78.s2 n j c++M78.s3 n j) n).1=0:=by omega
    have e4:M78.s4 n j c=[]:=by unfold M78.s4;rw[if_pos eq']
    rw[eL,e4,q2o]
    exact R4.same S5
  rintro σ H5 ⟨S5,R5,rfl⟩
  exact⟨_,U,q l H5 hl S5 R5⟩
end
end K55S
namespace K55S
open L2 Ba Am Pc M71
open K76 (top Bs Z4n Z4s)
open M78 (okb)
def spIsMv:Sp:=λvs H Q _=>∃ (p:W9) (x:Mv) (c:Nat),vs=[.ref p,.int c]/\H p=some (mT (mm x))/\okb 0 c x=true/\∀ H',Same H H'->Q (.bl true) H'
theorem X8q {x:Mv}{c:Nat}(h:okb 0 c x=true):∀ n∈ns x,0<=n:=λn hn=>by
 cases x<;>simp only[okb,ns,q0u,q2x,q1f,q2u,q0s,q1i,q3c] at h hn<;>omega
theorem X8p {x:Mv}{c:Nat}(h:okb 0 c x=true):inV (.str (nm x)) [.str "flip",.str "mix",.str "turn",.str "if",.str "pair",.str "swap"]=true:=by
 cases x with
 | cross a b d=>cases h
 | flip a=>exact(by decide +kernel:inV (.str "flip") [.str "flip",.str "mix",.str "turn",.str "if",.str "pair",.str "swap"]=true)
 | mix a=>exact(by decide +kernel:inV (.str "mix") [.str "flip",.str "mix",.str "turn",.str "if",.str "pair",.str "swap"]=true)
 | turn a j=>exact(by decide +kernel:inV (.str "turn") [.str "flip",.str "mix",.str "turn",.str "if",.str "pair",.str "swap"]=true)
 | iff a b=>exact(by decide +kernel:inV (.str "if") [.str "flip",.str "mix",.str "turn",.str "if",.str "pair",.str "swap"]=true)
 | pair a b=>exact(by decide +kernel:inV (.str "pair") [.str "flip",.str "mix",.str "turn",.str "if",.str "pair",.str "swap"]=true)
 | swap a b=>exact(by decide +kernel:inV (.str "swap") [.str "flip",.str "mix",.str "turn",.str "if",.str "pair",.str "swap"]=true)
theorem X9b (x:Mv):1<=(ns x).length:=by cases x<;>simp[ns]
theorem W0e (x:Str)(h:x="flip"∨x="mix"):inV (.str x) [.str "flip",.str "mix"]=true:=by rcases h with rfl | rfl<;>decide +kernel
theorem X3e (x:Str)(h:x="if"∨x="pair"∨x="swap"):inV (.str x) [.str "if",.str "pair",.str "swap"]=true:=by rcases h with rfl | rfl | rfl<;>decide +kernel
theorem W0f {j:Int}(h:j=2∨j=4∨j=6):inV (.int j) [.int 2,.int 4,.int 6]=true:=by rcases h with rfl | rfl | rfl<;>decide +kernel
section
variable {P:U8}{w:W1}{K:U0}{mg:U4}{base:Heap}{k:Nat}{h:Heap}
theorem sc_ismv:FnScope ["_law_move","_law_cells","_law_number"] ["_law_move","_law_cells"] (Z0h (top 97)):=fS
theorem X5b (F:FunAt K "_law_is_move" (top 97) .none)(X:K.In h)(G:Ng h mg)(B:Bs mg)(dP:Cal P w K mg base k "_law_whole" ["_law_found"] Z3m):Cal P w K mg base (k+1) "_law_is_move" ["_law_move","_law_cells"] spIsMv:=by
 have nd:=sc_ismv.nd
 refine F.cal X G sc_ismv (bnd2 λ_ _ _ _ _ _ _ _=>rfl) (λvs H Q E h=>?_) (λf cdv A outer s H vs Q E hr h=>?_)
 ·obtain⟨p,x,c,rfl,_⟩:=h;rfl
 obtain⟨p,x,c,rfl,hp,ob,kq⟩:=h
 have SP:SqT K H p (.str (nm x)::(ns x).map V.int):=SqT.of hp
 have lm:(V.str (nm x)::(ns x).map V.int).length=(ns x).length+1:=by rw[q2i,q0a]
 have ln:=X9b x
 have ge:=X8q ob
 refine⟨_,(@Z0g _ _ _ _ _ (Z0w (PW.pt (Z3n (Z1h (Z1d (Z0n Z0x rfl B.isinstance q1l (Z0a (pv 0) (Z0a (Z1w (v:=.ty "tuple") rfl B.tuple q8n rfl) Z0c))))) (Z3n (Z0p Z5b (Z0n Z0r rfl B.len q1k (Z0a (pv 0) Z0c)) Z0b (nomark _)) (Z3r (Z0p Z9x (Z0l Z0i (pv 0) Z0b (λ_ _=>rfl)) (@Z3s _ _ _ _ (Z0a Z0y (Z0a Z0y (Z0a Z0y (Z0a Z0y (Z0a Z0y (Z0a Z0y Z0c))))))) rfl)))))
   (@Z0e _ _ _ (Z0k Z2k))
   Z0o)
  (@Z0g _ _ _ _ _ (Z2w PassesOwn.never rfl (Y2x (Z1y Z6x (pv 0) (Z2a Z0b) Z2y)) (Z0t (i:=2) nd rfl (Or.inl rfl))
   (@Z0e _ _ _ (Z0w (PW.pt (Z3n (Z1h (Z1d (Z0m dP hr rfl (Z0a (pv 2) Z0c)))) (Z3r (Z0p Z5b (pv 2) Z0b (nomark _)))))
    (@Z0e _ _ _ (Z0k Z2k))
    Z0o)))
  (@Z0g _ _ _ _ _ (Z0w (Z0p Z1m (Z0l Z0i (pv 0) Z0b (λ_ _=>rfl)) Z0y (nomark _))
   (@Z0e _ _ _ (Z0k (Z2o (Z1b Z1m (Z0n Z0r rfl B.len q1k (Z0a (pv 0) Z0c)) Z0b (nomark _)) (Z2o (Z1b Z5b (Z0l Z0i (pv 0) Z0b (λ_ _=>rfl)) (pv 1) (nomark _)) (Z2j (Z1b Z5c (Z0l Z0i (pv 0) Z0b (λ_ _=>rfl)) (@Z3s _ _ _ _ (Z0a Z0b (Z0a Z0b (Z0a Z0b Z0c)))) rfl))))))
   Z0o)
  (@Z0g _ _ _ _ _ (Z0w (Z0p Z1m (Z0n Z0r rfl B.len q1k (Z0a (pv 0) Z0c)) Z0b (nomark _))
   (@Z0e _ _ _ (Z0k (Z2o (Z1b Z5c (Z0l Z0i (pv 0) Z0b (λ_ _=>rfl)) (@Z3s _ _ _ _ (Z0a Z0y (Z0a Z0y Z0c))) rfl) (Z2j (Z1b Z5b (Z0l Z0i (pv 0) Z0b (λ_ _=>rfl)) (pv 1) (nomark _))))))
   Z0o)
  (@Z0e _ _ _ (Z0k (Z2o (Z1b Z1m (Z0n Z0r rfl B.len q1k (Z0a (pv 0) Z0c)) Z0b (nomark _)) (Z2o (Z1b Z5c (Z0l Z0i (pv 0) Z0b (λ_ _=>rfl)) (@Z3s _ _ _ _ (Z0a Z0y (Z0a Z0y (Z0a Z0y Z0c)))) rfl) (Z2o (Z1b Z5r (Z0l Z0i (pv 0) Z0b (λ_ _=>rfl)) (Z0l Z0i (pv 0) Z0b (λ_ _=>rfl)) (nomark _)) (Z2j (Z1b Z5b (Z0n (Y8v rfl) rfl B.max boot_max (Z0a (Z1y Z6x (pv 0) (Z2a Z0b) Z2y) Z0c)) (pv 1) (nomark _)))))))))))),?_⟩
 try dsimp only[cxK]
 refine⟨_,U,_,_,_,true,U,TyOf.tup hp,Y0c K,_,U,iteF ⟨_,U,p,_,U,.inr SP,_,_,U,U,_,U,decI (λz=>absurd z (by rw[lm];omega)) (λ_=>⟨_,U,p,_,_,.str (nm x),U,U,SP,at0m x,(show 6<=sizeLine by decide),λls hls=>⟨ls,_,U,.inl (SqL.of Z0d),U,U,_,U,?_⟩⟩)⟩⟩
 rw[X8p ob]
 have S1:=Z0f hls (.lst [.str "flip",.str "mix",.str "turn",.str "if",.str "pair",.str "swap"])
 refine iteF ⟨_,U,_,U,p,_,U,S1.tup SP,.inr ⟨λc=>absurd c.1 (by rw[Z4n];decide),λr hr=>?_⟩⟩
 rw[Z4s]
 have s2:=Z0f hr (.tup ((ns x).map V.int))
 have S2:=S1.trans s2
 have R2:SqT K (upd (upd H ls (.lst [.str "flip",.str "mix",.str "turn",.str "if",.str "pair",.str "swap"])) r (.tup ((ns x).map V.int))) r ((ns x).map V.int):=SqT.of Z0d
 generalize upd (upd H ls (.lst [.str "flip",.str "mix",.str "turn",.str "if",.str "pair",.str "swap"])) r (.tup ((ns x).map V.int))=H2 at S2 R2 ⊢
 refine⟨r,U,⟨_,R2⟩,X6k (K:=K) (a:=r) (xs:=(ns x).map V.int) (λi σ H'=>H'=H2/\∃ v,σ=[some (.ref p),some (.int c),v]) ⟨U,none,U⟩ (λi σ H' _ e=>by rw[e.1];exact R2) ?_ ?_⟩
 ·rintro i v σ H3 hv ⟨rfl,v2,rfl⟩
  rw[q0g] at hv
  obtain⟨n,hn,rfl⟩:=q0p.mp hv
  have n0:=ge n (q1g hn)
  exact⟨_,U,n,U,_,U,iteF ⟨_,U,_,_,U,U,_,U,decI (λz=>absurd z (by omega)) (λ_=>⟨U,_,U⟩)⟩⟩
 rintro σ H3 ⟨rfl,v,rfl⟩
 have hp3:=S2 _ _ hp
 have SP3:=S2.tup SP
 clear SP R2 S1 s2
 cases x with
 | cross a b d=>cases ob
 | flip a =>
  simp only[okb,q0u,q1f] at ob
  refine⟨_,U,p,_,_,.str "flip",U,U,SP3,at0m _,U,_,U,decI (λz=>absurd (V.str.inj z) (by decide)) (λ_=>?_)⟩
  refine⟨_,U,p,_,U,.inr SP3,U,_,U,eqI (λ_=>?_) (λz=>absurd rfl z)⟩
  refine⟨_,U,p,_,_,.str "flip",U,U,SP3,at0m _,t2,λl2 h2=>⟨l2,_,U,.inl (SqL.of Z0d),U,U,_,U,?_⟩⟩
  rw[W0e "flip" (.inl rfl)]
  have S4:=S2.trans (Z0f h2 (.lst [.str "flip",.str "mix"]))
  refine iteT ⟨_,U,p,_,_,.int a,U,U,(Z0f h2 _).tup SP3,at1m (.flip a),_,U,_,_,U,U,?_⟩
  show Q (.bl (decide (a<(c:Int)))) _
  rw[q0q ob.2]
  exact kq _ S4
 | mix a =>
  simp only[okb,q0u,q1f] at ob
  refine⟨_,U,p,_,_,.str "mix",U,U,SP3,at0m _,U,_,U,decI (λz=>absurd (V.str.inj z) (by decide)) (λ_=>?_)⟩
  refine⟨_,U,p,_,U,.inr SP3,U,_,U,eqI (λ_=>?_) (λz=>absurd rfl z)⟩
  refine⟨_,U,p,_,_,.str "mix",U,U,SP3,at0m _,t2,λl2 h2=>⟨l2,_,U,.inl (SqL.of Z0d),U,U,_,U,?_⟩⟩
  rw[W0e "mix" (.inr rfl)]
  have S4:=S2.trans (Z0f h2 (.lst [.str "flip",.str "mix"]))
  refine iteT ⟨_,U,p,_,_,.int a,U,U,(Z0f h2 _).tup SP3,at1m (.mix a),_,U,_,_,U,U,?_⟩
  show Q (.bl (decide (a<(c:Int)))) _
  rw[q0q ob.2]
  exact kq _ S4
 | turn a j =>
  simp only[okb,q0u,q2x,q1f] at ob
  refine⟨_,U,p,_,_,.str "turn",U,U,SP3,at0m _,U,_,U,decI (λ_=>?_) (λz=>absurd rfl z)⟩
  refine⟨_,U,p,_,U,.inr SP3,U,_,U,eqI (λ_=>?_) (λz=>absurd rfl z)⟩
  refine⟨_,U,p,_,_,.int a,U,U,SP3,k1,_,U,_,_,U,U,_,U,decI (λ_=>?_) (λz=>absurd ob.1.2 z)⟩
  refine⟨_,U,p,_,_,.int j,U,U,SP3,k2,t3,λl2 h2=>⟨l2,_,U,.inl (SqL.of Z0d),U,U,?_⟩⟩
  show Q (.bl (inV (.int j) [.int 2,.int 4,.int 6])) _
  rw[W0f (by omega)]
  exact kq _ (S2.trans (Z0f h2 _))
 | pair a b=>cases ob
 | iff a b =>
  simp only[okb,q0u,q1f] at ob
  refine⟨_,U,p,_,_,.str "if",U,U,SP3,at0m _,U,_,U,decI (λz=>absurd (V.str.inj z) (by decide)) (λ_=>?_)⟩
  refine⟨_,U,p,_,U,.inr SP3,U,_,U,eqI (λz=>absurd z (show ¬ ((3:Int)=2) by decide)) (λ_=>?_)⟩
  refine⟨_,U,p,_,U,.inr SP3,U,_,U,eqI (λ_=>?_) (λz=>absurd rfl z)⟩
  refine⟨_,U,p,_,_,.str "if",U,U,SP3,at0m _,t3,λl2 h2=>⟨l2,_,U,.inl (SqL.of Z0d),U,U,_,U,?_⟩⟩
  rw[X3e "if" (.inl rfl)]
  have s4:=Z0f h2 (.lst [.str "if",.str "pair",.str "swap"])
  have SP4:=s4.tup SP3
  refine iteT ⟨_,U,p,_,_,.int a,U,U,SP4,k1,_,U,p,_,_,.int b,U,U,SP4,k2,U,_,U,neI (λ_=>?_) (λz=>absurd z ob.2)⟩
  refine⟨_,U,_,U,p,_,U,SP4,.inr ⟨λc=>absurd c.1 (by rw[Z4n];decide),λr3 hr3=>?_⟩⟩
  rw[Z4s]
  refine⟨r3,[a,b],U,SqT.of Z0d,Nat.zero_lt_succ _,λM hM _=>⟨_,U,_,_,U,U,?_⟩⟩
  show Q (.bl (decide (M<(c:Int)))) _
  have:M<(c:Int):=by
   simp only[q0s,q1i,q3c] at hM
   omega
  rw[q0q this]
  exact kq _ ((S2.trans s4).trans (Z0f hr3 _))
 | swap a b =>
  simp only[okb,q0u,q1f] at ob
  refine⟨_,U,p,_,_,.str "swap",U,U,SP3,at0m _,U,_,U,decI (λz=>absurd (V.str.inj z) (by decide)) (λ_=>?_)⟩
  refine⟨_,U,p,_,U,.inr SP3,U,_,U,eqI (λz=>absurd z (show ¬ ((3:Int)=2) by decide)) (λ_=>?_)⟩
  refine⟨_,U,p,_,U,.inr SP3,U,_,U,eqI (λ_=>?_) (λz=>absurd rfl z)⟩
  refine⟨_,U,p,_,_,.str "swap",U,U,SP3,at0m _,t3,λl2 h2=>⟨l2,_,U,.inl (SqL.of Z0d),U,U,_,U,?_⟩⟩
  rw[X3e "swap" (.inr (.inr rfl))]
  have s4:=Z0f h2 (.lst [.str "if",.str "pair",.str "swap"])
  have SP4:=s4.tup SP3
  refine iteT ⟨_,U,p,_,_,.int a,U,U,SP4,k1,_,U,p,_,_,.int b,U,U,SP4,k2,U,_,U,neI (λ_=>?_) (λz=>absurd z ob.2)⟩
  refine⟨_,U,_,U,p,_,U,SP4,.inr ⟨λc=>absurd c.1 (by rw[Z4n];decide),λr3 hr3=>?_⟩⟩
  rw[Z4s]
  refine⟨r3,[a,b],U,SqT.of Z0d,Nat.zero_lt_succ _,λM hM _=>⟨_,U,_,_,U,U,?_⟩⟩
  show Q (.bl (decide (M<(c:Int)))) _
  have:M<(c:Int):=by
   simp only[q0s,q1i,q3c] at hM
   omega
  rw[q0q this]
  exact kq _ ((S2.trans s4).trans (Z0f hr3 _))
end
end K55S
namespace K76
open L2 Am Pc Ba
theorem X1y:((List.range 7).all λc=>(List.range (2^c)).all λx=>decide (Builtin.Int.intBits ((x:Nat):Int)<=c))=true:=by decide +kernel
theorem Y2a {c x:Nat}(h:c<=6)(hx:x<2^c):Builtin.Int.intBits ((x:Nat):Int)<=c:=q1t (get1 (get1 X1y (by omega:c<7)) hx)
def spWord:Sp:=λvs H Q _=>∃ x c:Nat,vs=[.int x,.int c]/\c<=6/\x<2^c/\Q (.bl true) H
noncomputable def st (x w:Nat):A5:=if w=x then ((1,0,0,0),0) else ((0,0,0,0),0)
theorem X3z (x w:Nat):Ok5 100 40 (st x w):=by
 unfold st
 split
 ·exact⟨⟨s_1,s_0,s_0,s_0⟩,⟨Int.le_refl 0,.inl rfl⟩,forty⟩
 ·exact⟨⟨s_0,s_0,s_0,s_0⟩,⟨Int.le_refl 0,.inl rfl⟩,forty⟩
def Y0v (K:U0):Sp:=λvs H Q _=>∃ c x:Nat,vs=[.int c,.int x]/\1<=c/\c<=6/\x<2^c/\∀ (r:W9) (H':Hp) (qs:U3),H r=none->Same H H'->Bd5 K H' r qs (st x) c 100 40->Q (.ref r) H'
section
variable {P:U8}{w:W1}{K:U0}{mg:U4}{base:Heap}{k:Nat}{h:Heap}
theorem sc_isword:FnScope ["thing","cells"] ["thing","cells"] (Z0h (top 14)):=fS
theorem Y7i (F:FunAt K "is_word" (top 14) .none)(X:K.In h)(G:Ng h mg)(c7:Cal P w K mg base k "is_whole" ["thing"] Z3m):Cal P w K mg base (k+1) "is_word" ["thing","cells"] spWord:=by
 have nd:=sc_isword.nd
 refine F.cal X G sc_isword (bnd2 λ_ _ _ _ _ _ _ _=>rfl) (λvs H Q E h=>?_) (λf cdv A outer s H vs Q E hr h=>?_)
 ·obtain⟨x,N,rfl,_⟩:=h;rfl
 obtain⟨x,N,rfl,c6,lt,q⟩:=h
 refine⟨_,(@Z0g _ _ _ _ _ (Z0w (Z1h (PW.pt (Z4y (Z1d (Z0m c7 hr rfl (Z0a (pv 0) Z0c))) (Z3w (Z1d (Z0m c7 hr rfl (Z0a (pv 1) Z0c)))))))
   (@Z0e _ _ _ (Z0k Z2k))
   Z0o)
  (@Z0e _ _ _ (Z0k (Z2o (Z1b Y6z (pv 0) Z0b (nomark _)) (Z2j (Z1b X4t (Z5a q2c q1m q1r Z2f (pv 0)) (pv 1) (nomark _))))))),?_⟩
 try dsimp only[cxK]
 refine⟨_,U,_,U,_,U,iteT ⟨_,U,_,U,_,U,iteF ?_⟩⟩
 refine⟨_,U,_,_,U,U,_,U,decI (λ_=>?_) (λz=>absurd (show (x:Int)>=0 by omega) z)⟩
 refine⟨_,U,U,_,U,U,_,U,_,_,U,U,?_⟩
 have b:=Y2a c6 lt
 show Q (.bl (decide (((Builtin.Int.intBits ((x:Nat):Int):Nat):Int)<=(N:Int)))) H
 rw[q0q (by omega)]
 exact q
def Y5y:Sp:=λvs H Q _=>∃ c x:Nat,vs=[.int c,.int x]/\1<=c/\c<=6/\x<2^c/\Q .non H
theorem sc_begin:FnScope ["cells","word"] ["cells","word"] (Z0h (top 34)):=fS
theorem X0t {tM:Tok}(gM:mg "MOST_CELLS"=some (.int 6 tM))(F:FunAt K "check_beginning" (top 34) .none)(X:K.In h)(G:Ng h mg)(c7:Cal P w K mg base k "is_whole" ["thing"] Z3m)(cO:Cal P w K mg base k "is_word" ["thing","cells"] spWord):Cal P w K mg base (k+1) "check_beginning" ["cells","word"] Y5y:=by
 have nd:=sc_begin.nd
 refine F.cal X G sc_begin (bnd2 λ_ _ _ _ _ _ _ _=>rfl) (λvs H Q E h=>?_) (λf cdv A outer s H vs Q E hr h=>?_)
 ·obtain⟨c,x,rfl,_⟩:=h;rfl
 obtain⟨c,x,rfl,c1,c6,xc,kq⟩:=h
 refine⟨_,(@Z0g _ _ _ _ _ (Z0w (PW.pt (Z3n (Z1h (Z1d (Z0m c7 hr rfl (Z0a (pv 0) Z0c)))) (Z3n (Z0p Z5b (pv 0) Z0b (nomark _)) (Z3r (Z0p Y4g (pv 0) (Z4p (v:=.int 6) rfl gM ⟨tM,U⟩) (nomark _))))))
   (@Z0e _ _ _ Z2s)
   Z0o)
  (@Z0e _ _ _ (Z0w (Z1h (Z1d (Z0m cO hr rfl (Z0a (pv 1) (Z0a (pv 0) Z0c)))))
   (@Z0e _ _ _ Z2s)
   Z0o))),?_⟩
 try dsimp only[cxK]
 refine⟨_,U,_,U,_,U,iteF ⟨_,U,_,_,U,U,_,U,decI (λz=>absurd z (by omega)) (λ_=>⟨_,U,_,_,U,U,_,U,decI (λz=>absurd z (by omega)) (λ_=>?_)⟩)⟩⟩
 exact⟨_,U,_,U,x,c,U,c6,xc,_,U,iteF kq⟩
theorem sc_start:FnScope ["cells","word"] ["cells","word"] (Z0h (top 33)):=fS
theorem Y2c {D:W9}{oc:W2}{od:W5}{n:Nat}{sl:W4}{t0:Tok}(l:K.lookup D=some ⟨oc,od,.seq #[.int 0 t0] n,sl⟩):Z2i K "start" (top 33) (.ref D) ["cells","word"]:=by
 intro kV doc pm an cdv ct s us X hl
 match us,hl with
 | [a,b],_=>exact BindsTo.of_defaults rfl (X _ _ l) rfl rfl rfl
theorem X0g {dV:W2}(F:FunAt K "start" (top 33) dV)(bi:Z2i K "start" (top 33) dV ["cells","word"])(X:K.In h)(G:Ng h mg)(B:Bs mg){aO aZ:W9}(gO:mg "ONE"=some (.ref aO))(gZ:mg "NOUGHT"=some (.ref aZ))(kO:∀ H,At5 K H aO ((1,0,0,0),0))(kZ:∀ H,At5 K H aZ ((0,0,0,0),0))
  (cV:Cal P w K mg base k "check_beginning" ["cells","word"] Y5y):Cal P w K mg base (k+1) "start" ["cells","word"] (Y0v K):=by
 have nd:=sc_start.nd
 refine F.cal X G sc_start bi (λvs H Q E h=>?_) (λf cdv A outer s H vs Q E hr h=>?_)
 ·obtain⟨c,x,rfl,_⟩:=h;rfl
 obtain⟨c,x,rfl,c1,c6,xc,kq⟩:=h
 have p6:=pow6 c6
 have hN:(1:Int)*2^((c:Int).toNat)=((2^c:Nat):Int):=ipow c
 have hM:(1*2^((c:Int).toNat):Int).toNat=2^c:=by rw[hN,q0x]
 refine⟨_,(@Z0g _ _ _ _ _ (Z2x (Z0m cV hr rfl (Z0a (pv 0) (Z0a (pv 1) Z0c))))
  (@Z0e _ _ _ (Z0k (Z3e rfl (LcOk.of (Nc:=["place","word"]) (mp:=[none,some 1]) (by kernel_rfl)) (Z1v rfl B.range (Z0a (Z0j Z1j Z0b (pv 0)) Z0c)) (λ_ _ _ _=>(Z0t (i:=0) (show (["place","word"]:W0).Nodup by decide +kernel) rfl (Or.inl rfl))) (λ_ _ _ _=>(Z2d (Z0p Z1m (pv 0) (pv 1) (nomark _)) (Z4p (v:=.ref aO) rfl gO rfl) (Z4p (v:=.ref aZ) rfl gZ rfl))))))),?_⟩
 try dsimp only[cxK]
 refine⟨_,U,_,U,c,x,U,c1,c6,xc,?_⟩
 refine⟨_,U,_,_,U,U,⟨1,sz1,by omega,by omega⟩,_,U,by rw[hN];omega,by rw[hN];omega,λacc hacc=>?_⟩
 rw[hM]
 refine Z4i (n:=2^c) (fr:=[some (.int x)]) (λi ys H'=>∃ qs:List Addr,Same H H'/\H' acc=some (.lst ys)/\ys=qs.map V.ref/\qs.length=i/\ValsK K H' qs (st x)) (t64 p6)
  ⟨[],Z0f hacc _,Z0d,U,U,(λ_ _ z=>by cases z)⟩ ?_ ?_
 ·rintro i ys H2 N hi hy ⟨qs,S2,a2,rfl,ql,v2⟩ kN
  have fin:∀ (r:W9),At5 K H2 r (st x i)->N (.ref r) H2:=λr hr=>by
   refine kN (.ref r) H2 a2 ⟨qs++[r],Z0v S2 hacc,Z0d,by rw[q0i];rfl,by simp[ql],?_⟩
   have:=Z4g (ys:=qs.map V.ref++[.ref r]) (xs:=qs.map V.ref) (Z3g v2 (Same.refl _) hr) a2
   intro j p hj
   have q:=this j p hj
   have e:(if j=qs.length then st x i else st x j)=st x j:=by
    by_cases e:j=qs.length
    ·rw[if_pos e,e,ql]
    ·rw[if_neg e]
   rw[<-e]
   exact q
  refine⟨_,U,_,U,U,_,U,eqI (λe=>fin aO ?_) (λe=>fin aZ ?_)⟩
  ·have:st x i=((1,0,0,0),0):=by unfold st;rw[if_pos (by omega)]
   rw[this];exact kO _
  ·have:st x i=((0,0,0,0),0):=by unfold st;rw[if_neg (by omega)]
   rw[this];exact kZ _
 ·rintro ys H2 hy ⟨qs,S2,a2,rfl,ql,v2⟩
  exact kq acc H2 qs hacc S2 ⟨a2,ql,v2,λi _=>X3z x i⟩
end
end K76
namespace K76T
open L2 Pc K51
noncomputable def top (i:Nat):Stmt:=PySem.Challenge.pw_spinboard_k76_laid.main.body.getD i (.Pass ⟨0,0,0,0⟩)
structure Bs (mg:U4):Prop where
 isinstance:mg "isinstance"=none
 int:mg "int"=none
 bool:mg "bool"=none
 tuple:mg "tuple"=none
 list:mg "list"=none
 len:mg "len"=none
 range:mg "range"=none
 enumerate:mg "enumerate"=none
 sorted:mg "sorted"=none
 sum:mg "sum"=none
 str:mg "str"=none
 all:mg "all"=none
 any:mg "any"=none
 min:mg "min"=none
 max:mg "max"=none
theorem Y2b (m:Nat):Builtin.Int.intBits (m:Int)=bl m:=by
 unfold Builtin.Int.intBits bl
 by_cases h:m=0
 ·subst h;rfl
 ·have hb:((m:Int) == 0)=false:=by simpa using h
  rw[hb,if_neg h]
  simp
noncomputable abbrev T3 (t:Ent):HO:=.tup [.int t.1,.int t.2.1,.int t.2.2]
def Kept (H:Hp):List (Key × V)->List Ent->Prop:=Paired λkv t=>kv.1=Sum.inl (bl t.1:Int)/\∃ p,kv.2=.ref p/\H p=some (T3 t)
theorem Kept.same {H H':Hp}{kvs:List (Key × V)}{ts:List Ent}(h:Kept H kvs ts)(s:Same H H'):Kept H' kvs ts :=
 Paired.imp' (λ_ _ ⟨a,p,b,c⟩=>⟨a,p,b,s _ _ c⟩) h
theorem Kept.get {H:Hp}{k:Int}{v:V}:∀ {kvs:List (Key × V)}{ts:List Ent},Kept H kvs ts->valV kvs (Sum.inl k)=some v->∃ t∈ts,∃ p,(bl t.1:Int)=k/\v=.ref p/\H p=some (T3 t)
 | [],[],_,h=>by simp[Y9i] at h
 | kv::kvs,t::ts,.cons ⟨a,p,b,c⟩ r,h=>by
  by_cases e:kv.1=Sum.inl k
  ·rw[Z1o e] at h
   cases h
   rw[a] at e
   exact⟨t,q2m,p,Sum.inl.inj e,b,c⟩
  ·rw[Z1t e] at h
   obtain⟨t',m,q⟩:=Kept.get r h
   exact⟨t',q1x _ m,q⟩
theorem Kept.none {H:Hp}{k:Int}:∀ {kvs:List (Key × V)}{ts:List Ent},Kept H kvs ts->valV kvs (Sum.inl k)=none->∀ t∈ts,(bl t.1:Int)≠k
 | [],[],_,_,t,ht=>by cases ht
 | kv::kvs,t::ts,.cons ⟨a,p,b,c⟩ r,h,t',ht=>by
  by_cases e:kv.1=Sum.inl k
  ·rw[Z1o e] at h
   cases h
  ·rw[Z1t e] at h
   rcases q0s.mp ht with rfl | ht
   ·intro z
    rw[a,z] at e
    exact e rfl
   ·exact Kept.none r h t' ht
theorem Kept.snoc {H:Hp}{p:W9}{t:Ent}{kvs:List (Key × V)}{ts:List Ent}(h:Kept H kvs ts)(hp:H p=some (T3 t)):Kept H (kvs++[(Sum.inl (bl t.1:Int),.ref p)]) (ts++[t]) :=
 Paired.snoc h ⟨U,p,U,hp⟩
theorem Kept.keys {H:Hp}:∀ {kvs:List (Key × V)}{ts:List Ent},Kept H kvs ts->kvs.map (·.1)=(ts.map λt=>(bl t.1:Int)).map Sum.inl
 | [],[],_=>rfl
 | kv::kvs,t::ts,.cons ⟨a,_⟩ r=>by rw[q1v,q1v,q1v,Kept.keys r,a]
theorem Kept.length {H:Hp}{kvs:List (Key × V)}{ts:List Ent}(h:Kept H kvs ts):kvs.length=ts.length:=Paired.length h
noncomputable abbrev T2 (e:Eqn):HO:=.tup [.int e.1,.int e.2]
def Eqs (H:Hp):List Addr->List Eqn->Prop:=Paired λp e=>H p=some (T2 e)
theorem Eqs.same {H H':Hp}{ps:U3}{es:List Eqn}(h:Eqs H ps es)(s:Same H H'):Eqs H' ps es:=Paired.imp' (λ_ _ c=>s _ _ c) h
theorem Eqs.length {H:Hp}{ps:U3}{es:List Eqn}(h:Eqs H ps es):ps.length=es.length:=Paired.length h
theorem Eqs.get {H:Hp}:∀ {ps:U3}{es:List Eqn}{i:Nat}{p:W9},Eqs H ps es->ps[i]?=some p->∃ e,es[i]?=some e/\H p=some (T2 e)
 | p'::ps,e::es,0,p,.cons a r,h=>by
  have:p'=p:=by simpa using h
  subst this
  exact⟨e,U,a⟩
 | p'::ps,e::es,i+1,p,.cons a r,h=>by
  obtain⟨f,b,c⟩:=Eqs.get (ps:=ps) (es:=es) (i:=i) (p:=p) r (by simpa using h)
  exact⟨f,by simpa using b,c⟩
structure Fine (es:List Eqn):Prop where
 bit:∀ e∈es,e.2<2
 mask:∀ e∈es,e.1<2^200
theorem Y0j:∀ (es:List Eqn) (c:Nat),(∀ e∈es,e.1<2^200)->(comb es c).1<2^200
 | [],_,_=>by unfold comb;exact q0w 200
 | e::r,c,h=>by
  have ih:=Y0j r (c / 2) λf hf=>h f (q1x _ hf)
  unfold comb
  split
  ·exact q2l (h e q2m) ih
  ·exact ih
def spOnes:Sp:=λvs H Q _=>∃ n:Nat,vs=[.int n]/\Q (.int (pc n)) H
def Y2p:Sp:=λvs H Q _=>∃ c:Nat,vs=[.int c]/\c<2^64/\∀ (l:W9) (H':Hp),Same H H'->H' l=some (.lst ((places c (bl c)).map λp=>V.int (p:Nat)))->Q (.ref l) H'
def Z9o:Sp:=λvs H Q _=>∃ (p d:W9) (t:Ent) (kvs:List (Key × V)) (ts:List Ent) (es:List Eqn) (i:Nat) (e:Eqn),vs=[.ref p,.ref d]/\H p=some (T3 t)/\H d=some (.dK kvs)/\Kept H kvs ts/\Fine es/\Good es i ts/\Left es i ts e t ∧
 ∀ (p':W9) (H':Hp) (t':Ent),Same H H'->H' p'=some (T3 t')->Left es i ts e t'->(∀ s∈ts,bl s.1≠bl t'.1)->Q (.ref p') H'
section
variable {P:U8}{w:W1}{K:U0}{mg:U4}{base:Heap}{k:Nat}{h:Heap}
theorem sc_ones:FnScope ["number","many","rest"] ["number"] (Z0h (top 13)):=fS
theorem Y1h (F:FunAt K "ones" (top 13) .none)(X:K.In h)(G:Ng h mg):Cal P w K mg base (k+1) "ones" ["number"] spOnes:=by
 have nd:=sc_ones.nd
 refine F.cal X G sc_ones (bnd1 λ_ _ _ _ _ _ _=>rfl) (λvs H Q E h=>?_) (λf cdv A outer s H vs Q E hr h=>?_)
 ·obtain⟨n,rfl,_⟩:=h;rfl
 obtain⟨n,rfl,q⟩:=h
 refine⟨_,(@Z0g _ _ _ _ _ (@Z0q _ _ 1 _ _ _ _ nd rfl (Or.inl rfl) Z0b rfl (.inl rfl))
  (@Z0g _ _ _ _ _ (@Z0q _ _ 2 _ _ _ _ nd rfl (Or.inl rfl) (pv 0) rfl (.inl rfl))
  (@Z0g _ _ _ _ _ (Z4z PassesOwn.never (Z0p Z5r (pv 2) Z0b (nomark _))
   (@Z0g _ _ _ _ _ (@Z0q _ _ 2 _ _ _ _ nd rfl (Or.inl rfl) (Z0j Z0z (pv 2) (Z0j Z3c (pv 2) Z0b)) rfl (.inl rfl))
   (@Z0e _ _ _ (@Z0q _ _ 1 _ _ _ _ nd rfl (Or.inl rfl) (Z0j Z1r (pv 1) Z0b) rfl (.inl rfl)))))
  (@Z0e _ _ _ (Z0k (pv 1)))))),?_⟩
 try dsimp only[cxK]
 refine⟨_,U,λm σ H'=>H'=H/\∃ j r:Nat,m=pc r/\j+pc r=pc n/\σ=[some (.int n),some (.int j),some (.int r)],⟨_,U,0,n,U,q4f _,U⟩,?_⟩
 rintro m σ H' ⟨rfl,j,r,rfl,hj,rfl⟩
 refine⟨_,U,U,_,U,neI (λhr0=>?_) (λhr0=>?_)⟩
 ·have r0:r≠0:=by omega
  have e:=Y1a (r+1) r (by omega) r0
  refine⟨_,λσ' H' x=>x,?_⟩
  refine⟨_,U,_,U,_,_,U,U,_,_,U,U,?_⟩
  refine⟨_,U,_,_,U,U,⟨pc (r&&&(r-1)),by omega,U,j+1,r&&&(r-1),U,by omega,?_⟩⟩
  have e2:Builtin.bitAnd (r:Int) ((r:Int)-1)=((r&&&(r-1):Nat):Int):=by rw[show (r:Int)-1=((r-1:Nat):Int) by omega,Z3t]
  show [some (V.int n),some (V.int ((j:Int)+1)),some (V.int (Builtin.bitAnd (r:Int) ((r:Int)-1)))]=_
  rw[e2]
  rfl
 ·have r0:r=0:=by omega
  subst r0
  rw[Z1x,q3g] at hj
  subst hj
  exact⟨_,U,q⟩
theorem sc_cleared:FnScope ["equation","kept","left","other"] ["equation","kept"] (Z0h (top 52)):=fS
theorem Y4q (F:FunAt K "cleared" (top 52) .none)(X:K.In h)(G:Ng h mg):Cal P w K mg base (k+1) "cleared" ["equation","kept"] Z9o:=by
 have nd:=sc_cleared.nd
 refine F.cal X G sc_cleared (bnd2 λ_ _ _ _ _ _ _ _=>rfl) (λvs H Q E h=>?_) (λf cdv A outer s H vs Q E hr h=>?_)
 ·obtain⟨p,d,t,kvs,ts,es,i,e,rfl,_⟩:=h;rfl
 obtain⟨p,d,t,kvs,ts,es,i,e,rfl,hp,hd,hk,fine,gd,lf,kq⟩:=h
 refine⟨_,(@Z0g _ _ _ _ _ (@Z0q _ _ 2 _ _ _ _ nd rfl (Or.inl rfl) (pv 0) rfl (.inl rfl))
  (@Z0g _ _ _ _ _ (Z4z PassesOwn.never (X2o (X8j (Y1t hr) (Z5a q2c q1m q1r Z2f (Z0l Z0i (pv 2) Z0b (λ_ _=>rfl))) (pv 1)))
   (@Z0g _ _ _ _ _ (@Z0q _ _ 3 _ _ _ _ nd rfl (Or.inl rfl) (Y6o (Y1t hr) (pv 1) (Z5a q2c q1m q1r Z2f (Z0l Z0i (pv 2) Z0b (λ_ _=>rfl))) (λ_ _=>rfl)) rfl (.inl rfl))
   (@Z0e _ _ _ (@Z0q _ _ 2 _ _ _ _ nd rfl (Or.inl rfl) (@Z1a _ _ _ _ _ (Z0a (Z0j Z2e (Z0l Z0i (pv 2) Z0b (λ_ _=>rfl)) (Z0l Z0i (pv 3) Z0b (λ_ _=>rfl))) (Z0a (Z0j Z2e (Z0l Z0i (pv 2) Z0b (λ_ _=>rfl)) (Z0l Z0i (pv 3) Z0b (λ_ _=>rfl))) (Z0a (Z0j Z2e (Z0l Z0i (pv 2) Z0b (λ_ _=>rfl)) (Z0l Z0i (pv 3) Z0b (λ_ _=>rfl))) Z0c)))) rfl (.inl rfl)))))
  (@Z0e _ _ _ (Z0k (pv 2))))),?_⟩
 try dsimp only[cxK]
 refine⟨_,U,λm σ H'=>Same H H'/\∃ (q:W9) (u:Ent) (v:Option V),m=u.1/\H' q=some (T3 u)/\Left es i ts e u/\σ=[some (.ref p),some (.ref d),some (.ref q),v],⟨_,Same.refl _,p,t,none,U,hp,lf,U⟩,?_⟩
 rintro m σ H1 ⟨s1,q,u,v,rfl,hq,lu,rfl⟩
 have S:∀ {H'},Same H1 H'->SqT K H' q [.int u.1,.int u.2.1,.int u.2.2]:=λz=>SqT.of (z _ _ hq)
 have eb:=Y2b u.1
 refine⟨_,U,q,_,_,_,U,U,S (Same.refl _),U,U,_,U,U,?_⟩
 rw[eb]
 refine⟨_,U,d,_,U,DGet.k (k:=Sum.inl (bl u.1:Int)) (s1 _ _ hd),_,U,?_⟩
 cases hv:valV kvs (Sum.inl (bl u.1:Int)) with
 | none =>
  refine iteF ⟨_,rfl,?_⟩
  exact kq q H1 u s1 hq lu λs hs z=>hk.none hv s hs (by rw[z])
 | some x =>
  obtain⟨t',ht,p',eh,rfl,hp'⟩:=hk.get hv
  have hp1:=s1 _ _ hp'
  have S':∀ {H'},Same H1 H'->SqT K H' p' [.int t'.1,.int t'.2.1,.int t'.2.2]:=λz=>SqT.of (z _ _ hp1)
  refine iteT ⟨_,λσ' H' x=>x,?_⟩
  refine⟨_,U,_,U,q,_,_,_,U,U,S (Same.refl _),U,U,_,U,U,?_⟩
  rw[eb]
  refine⟨d,_,U,(by rw[<-hv];exact DGet.k (k:=Sum.inl (bl u.1:Int)) (s1 _ _ hd)),?_⟩
  refine⟨_,U,q,_,_,_,U,U,S (Same.refl _),U,_,U,p',_,_,_,U,U,S' (Same.refl _),U,_,_,U,U,_,U,q,_,_,_,U,U,S (Same.refl _),U,_,U,p',_,_,_,U,U,S' (Same.refl _),U,_,_,U,U,_,U,q,_,_,_,U,U,S (Same.refl _),U,_,U,p',_,_,_,U,U,S' (Same.refl _),U,_,_,U,U,(by show 3<=sizeLine;decide),λr hr=>?_⟩
  have eh':bl u.1=bl t'.1:=(Int.ofNat.inj eh).symm
  have u0:u.1≠0:=λz=>gd.nz t' ht (bl_zero.mp (by rw[<-eh',z];rfl))
  refine⟨u.1^^^t'.1,Y9g eh' u0,s1.trans (Z0f hr _),r,(u.1^^^t'.1,u.2.1^^^t'.2.1,u.2.2^^^t'.2.2),_,U,?_,lu.step fine.bit gd ht,U⟩
  rw[Z0d]
  show some (HO.tup [.int (Builtin.bitXor (u.1:Int) t'.1),.int (Builtin.bitXor (u.2.1:Int) t'.2.1),.int (Builtin.bitXor (u.2.2:Int) t'.2.2)])=_
  rw[Z3u,Z3u,Z3u]
def Z7u:Sp:=λvs H Q _=>∃ (d:W9) (kvs:List (Key × V)) (ts:List Ent) (es:List Eqn) (i:Nat),vs=[.ref d]/\H d=some (.dK kvs)/\Kept H kvs ts/\Fine es/\Good es i ts/\i<=60 ∧
 ∀ (x:Nat) (H':Hp),Same H H'->(∀ t∈ts,sat x (eqOf t))->Q (.int x) H'
def Told (es:List Eqn)(H:Hp)(r:W9):Prop:=(∃ x:Nat,H r=some (.tup [.int x,.non])/\∀ e∈es,sat x e) ∨
 ∃ (c:Nat) (q:W9),H r=some (.tup [.non,.ref q])/\H q=some (.lst ((places c (bl c)).map λp=>V.int (p:Nat)))/\c<2^es.length/\comb es c=(0,1)
def Y2n (K:U0):Sp:=λvs H Q _=>∃ (l:W9) (ps:U3) (es:List Eqn),vs=[.ref l]/\SqL K H l (ps.map V.ref)/\Eqs H ps es/\Fine es/\es.length<=60 ∧
 ∀ (r:W9) (H':Hp),Same H H'->Told es H' r->Q (.ref r) H'
theorem or_i (x y:Nat):Builtin.bitOr (x:Int) (y:Int)=((x ||| y:Nat):Int):=by
 have h:Builtin.bitXor (x:Int) (y:Int)=Builtin.bitOr x y-Builtin.bitAnd x y:=rfl
 rw[Z3u,Z3t] at h
 have e:=Y6v (x+y+1) x y (by omega) (by omega)
 omega
theorem Z7t (x y:Nat):[V.int (Builtin.bitAnd (x:Int) (y:Int))]=[V.int ((x&&&y:Nat):Int)]:=by rw[Z3t]
theorem Z3v:(0:Int)<2:=by decide
theorem sz1:Sz 1 1:=by decide +kernel
theorem Kept.upd {H:Hp}{d:W9}{kv0 kv1 kvs:List (Key × V)}{ts:List Ent}(h:Kept H kvs ts)(hd:H d=some (.dK kv0)):Kept (upd H d (.dK kv1)) kvs ts :=
 Paired.imp' (λ_ _ ⟨a,p,b,c⟩=>⟨a,p,b,by rw[Z0u (Z5f c hd (by intro z;cases z))];exact c⟩) h
theorem t2:2<=sizeLine:=by decide
theorem Z4j:(0:Int)<4:=by decide
theorem s64 {n:Nat}(h:n<=64):n<=sizeLine:=q1b h (by decide)
theorem sc_places:FnScope ["number"] ["number"] (Z0h (top 53)):=fS
theorem Y7f (F:FunAt K "places_at_one" (top 53) .none)(X:K.In h)(G:Ng h mg)(B:Bs mg):Cal P w K mg base (k+1) "places_at_one" ["number"] Y2p:=by
 have nd:=sc_places.nd
 refine F.cal X G sc_places (bnd1 λ_ _ _ _ _ _ _=>rfl) (λvs H Q E h=>?_) (λf cdv A outer s H vs Q E hr h=>?_)
 ·obtain⟨n,rfl,_⟩:=h;rfl
 obtain⟨c,rfl,hc,kq⟩:=h
 have hb:bl c<=64:=bl_le.mpr hc
 refine⟨_,(@Z0e _ _ _ (Z0k (Y2z rfl (LcOk.of (Nc:=["place","number"]) (mp:=[none,some 0]) (by kernel_rfl)) (Z1v rfl B.range (Z0a (Z5a q2c q1m q1r Z2f (pv 0)) Z0c)) (λ_ _ _ _=>(Z0t (i:=0) (show (["place","number"]:W0).Nodup by decide +kernel) rfl (Or.inl rfl))) (λ_ _ _ _=>(Z2c (Z0j Z0z (Z0j Z3i (pv 1) (pv 0)) Z0b) (by intro _;rfl))) (λ_ _ _ _=>(pv 0))))),?_⟩
 try dsimp only[cxK]
 refine⟨_,U,U,_,U,U,?_⟩
 rw[Y2b]
 refine⟨_,U,by omega,by omega,λacc hacc=>?_⟩
 rw[q0x]
 refine Z7h (n:=bl c) (fr:=[some (.int c)]) (λi ys H'=>Same H H'/\H' acc=some (.lst ys)/\ys=(places c i).map λp=>V.int (p:Nat)) (s64 hb) ⟨Z0f hacc _,Z0d,U⟩ ?_ (λhm z=>?_) ?_
 ·rintro i ys H2 N hi hl ⟨s2,a2,rfl⟩ kN
  refine⟨_,U,_,U,_,_,U,U,by omega,_,_,U,U,_,U,?_⟩
  have e0:(0:Int)+(i:Int)=(i:Int):=q3x _
  have e1:(c:Int) / 2^(0+(i:Int)).toNat=((c / 2^i:Nat):Int):=by rw[e0,q0x];simp
  have e2:Builtin.bitAnd ((c / 2^i:Nat):Int) 1=((c / 2^i%2:Nat):Int):=by
   have:=Z3t (c / 2^i) 1
   rw[q6p] at this
   exact this
  have ps:=Z2z c i
  rw[e1,e2]
  refine kN _ _ (λhb1=>?_) (λhb0=>?_)
  ·have h1:c / 2^i%2=1:=by
    have:c / 2^i%2≠0:=λz=>by rw[z] at hb1;cases hb1
    omega
   rw[if_pos h1] at ps
   refine⟨_,U,a2,Z0v s2 hacc,Z0d,?_⟩
   rw[ps,q0i,e0]
   rfl
  ·have h0:¬ c / 2^i%2=1:=λz=>by rw[z] at hb0;cases hb0
   rw[if_neg h0,q2o] at ps
   exact⟨s2,a2,by rw[ps]⟩
 ·obtain⟨v,e,q⟩:=z
  exact⟨v,e,hm _ _ q⟩
 ·rintro ys H2 ⟨s2,a2,rfl⟩
  exact kq acc H2 s2 a2
theorem sc_solution:FnScope ["kept","x","height","equation"] ["kept"] (Z0h (top 54)):=fS
theorem Y1e (F:FunAt K "solution" (top 54) .none)(X:K.In h)(G:Ng h mg)(B:Bs mg)(cD:Cal P w K mg base k "ones" ["number"] spOnes):Cal P w K mg base (k+1) "solution" ["kept"] Z7u:=by
 have nd:=sc_solution.nd
 refine F.cal X G sc_solution (bnd1 λ_ _ _ _ _ _ _=>rfl) (λvs H Q E h=>?_) (λf cdv A outer s H vs Q E hr h=>?_)
 ·obtain⟨d,kvs,ts,es,i,rfl,_⟩:=h;rfl
 obtain⟨d,kvs,ts,es,i,rfl,hd,hk,fine,gd,hi,kq⟩:=h
 have hlen:=hk.length
 have glen:=gd.len
 refine⟨_,(@Z0g _ _ _ _ _ (@Z0q _ _ 1 _ _ _ _ nd rfl (Or.inl rfl) Z0b rfl (.inl rfl))
  (@Z0g _ _ _ _ _ (Z2w PassesOwn.never rfl (Z1p (Z0n (Y0k rfl) rfl B.sorted boot_sorted (Z0a (pv 0) Z0c))) (Z0t (i:=2) nd rfl (Or.inl rfl))
   (@Z0g _ _ _ _ _ (@Z0q _ _ 3 _ _ _ _ nd rfl (Or.inl rfl) (Y6o (Y1t hr) (pv 0) (pv 2) (λ_ _=>rfl)) rfl (.inl rfl))
   (@Z0e _ _ _ (Z0w (Z0p Z5r (Z0j Z1e (Z0m cD hr rfl (Z0a (Z0j Z0z (Z0l Z0i (pv 3) Z0b (λ_ _=>rfl)) (pv 1)) Z0c)) Z0b) (Z0l Z0i (pv 3) Z0b (λ_ _=>rfl)) (nomark _))
    (@Z0e _ _ _ (@Z0q _ _ 1 _ _ _ _ nd rfl (Or.inl rfl) (Z0j Z8q (pv 1) (Z0j Z1j Z0b (Z0j Z3c (pv 2) Z0b))) rfl (.inl rfl)))
    Z0o))))
  (@Z0e _ _ _ (Z0k (pv 1))))),?_⟩
 try dsimp only[cxK]
 refine⟨_,U,d,kvs,_,U,hd,hk.keys,by omega,λl ks hl perm srt=>?_⟩
 have S0:=Z0f hl (.lst (ks.map V.int))
 have o:=X6i gd.nd perm srt
 refine⟨l,U,⟨_,SqL.of Z0d⟩,Z3d (K:=K) (a:=l) (xs:=ks.map V.int) (λj σ H'=>Same (upd H l (.lst (ks.map V.int))) H'/\∃ (x:Nat) (v2 v3:Option V),Sol ts ks j x/\σ=[some (.ref d),some (.int x),v2,v3]) ⟨Same.refl _,0,none,none,Sol.start ts ks,U⟩ (λj σ H' _ e=>SqL.of (e.1 _ _ Z0d)) ?_ ?_⟩
 ·rintro j xv σ H1 hx ⟨s1,x,v2,v3,S,rfl⟩
  rw[q0g] at hx
  obtain⟨hh,hj,rfl⟩:=q0p.mp hx
  have hm:hh∈ts.map λt=>(bl t.1:Int):=perm.mem_iff.mp (q1g hj)
  obtain⟨t0,ht0,rfl⟩:=q2k.mp hm
  have H1d:=s1 _ _ (S0 _ _ hd)
  have hk1:=(hk.same S0).same s1
  cases hv:valV kvs (Sum.inl (bl t0.1:Int)) with
  | none=>exact absurd rfl (hk1.none hv t0 ht0)
  | some v =>
   obtain⟨t,ht,p,eh,rfl,hp⟩:=hk1.get hv
   have hb:t.2.1<2:=by
    have:(eqOf t).2<2:=by rw[<-gd.com t ht];exact Z5j es _ fine.bit
    exact this
   have hmask:t.1<2^200:=by
    have:(eqOf t).1<2^200:=by rw[<-gd.com t ht];exact Y0j es _ fine.mask
    exact this
   have hbl:bl t.1<=200:=bl_le.mpr hmask
   have h0:bl t.1≠0:=λz=>gd.nz t ht (bl_zero.mp z)
   rw[<-eh] at hj hv ⊢
   have st:=S.step gd.nd o ht (gd.nz t ht) hb hj
   have ST:SqT K H1 p [.int t.1,.int t.2.1,.int t.2.2]:=SqT.of hp
   refine⟨_,U,_,U,d,_,U,(by rw[<-hv];exact DGet.k (k:=Sum.inl (bl t.1:Int)) H1d),?_⟩
   refine⟨_,U,p,_,_,_,U,U,ST,U,_,U,_,_,U,U,t.1&&&x,Z7t _ _,_,_,U,U,Z3v,_,U,p,_,_,_,U,U,ST,U,U,_,U,neI (λne=>?_) (λeq=>?_)⟩
   ·have hn:¬ sat x (eqOf t):=λz=>ne (by show ((pc (t.1&&&x):Nat):Int)%2=(t.2.1:Int);have:pc (t.1&&&x)%2=t.2.1:=z;omega)
    refine⟨_,U,_,U,_,_,U,U,_,_,U,U,⟨1,sz1,by omega,by omega⟩,_,_,U,U,s1,x ||| 2^(bl t.1-1),some (V.int (bl t.1:Int)),some (V.ref p),st.2 hn,?_⟩
    have e1:(1:Int)*2^((bl t.1:Int)-1).toNat=((2^(bl t.1-1):Nat):Int):=by
     rw[show ((bl t.1:Int)-1).toNat=bl t.1-1 by omega];simp
    show [some (V.ref d),some (V.int (Builtin.bitOr (x:Int) (1*2^((bl t.1:Int)-1).toNat))),some (V.int (bl t.1:Int)),some (V.ref p)]=_
    rw[e1,or_i]
   ·have hs:sat x (eqOf t):=by
     show pc (t.1&&&x)%2=t.2.1
     have:((pc (t.1&&&x):Nat):Int)%2=(t.2.1:Int):=eq
     omega
    exact⟨s1,x,_,_,st.1 hs,U⟩
 ·rintro σ H1 ⟨s1,x,v2,v3,S,rfl⟩
  rw[q0a] at S
  exact⟨_,U,kq x H1 (S0.trans s1) (S.all perm)⟩
theorem sc_solved:FnScope ["equations","kept","place","equation","left"] ["equations"] (Z0h (top 51)):=fS
theorem Y7c (F:FunAt K "solved" (top 51) .none)(X:K.In h)(G:Ng h mg)(B:Bs mg)(eK:Cal P w K mg base k "cleared" ["equation","kept"] Z9o)(d9:Cal P w K mg base k "places_at_one" ["number"] Y2p)(eJ:Cal P w K mg base k "solution" ["kept"] Z7u):Cal P w K mg base (k+1) "solved" ["equations"] (Y2n K):=by
 have nd:=sc_solved.nd
 refine F.cal X G sc_solved (bnd1 λ_ _ _ _ _ _ _=>rfl) (λvs H Q E h=>?_) (λf cdv A outer s H vs Q E hr h=>?_)
 ·obtain⟨l,ps,es,rfl,_⟩:=h;rfl
 obtain⟨l,ps,es,rfl,hS,he,fine,h60,kq⟩:=h
 have hlen:=he.length
 refine⟨_,(@Z0g _ _ _ _ _ (@Z0q _ _ 1 _ _ _ _ nd rfl (Or.inl rfl) Y9y rfl (.inl rfl))
  (@Z0g _ _ _ _ _ (Z2w PassesOwn.never rfl (Z3y rfl B.enumerate (Z0a (pv 0) Z0c)) (@Z9v _ _ _ _ _ _ rfl (@Z2m _ _ _ _ _ (@Z0t _ _ 2 _ nd rfl (Or.inl rfl) (by first | exact .inl rfl | exact .inr rfl)) (@Z2m _ _ _ _ _ (@Z0t _ _ 3 _ nd rfl (Or.inl rfl) (by first | exact .inl rfl | exact .inr rfl)) Z7d rfl) rfl) rfl rfl)
   (@Z0g _ _ _ _ _ (@Z0q _ _ 4 _ _ _ _ nd rfl (Or.inl rfl) (Z0m eK hr rfl (Z0a (@Z1a _ _ _ _ _ (Z0a (Z0l Z0i (pv 3) Z0b (λ_ _=>rfl)) (Z0a (Z0l Z0i (pv 3) Z0b (λ_ _=>rfl)) (Z0a (Z0j Z1j Z0b (pv 2)) Z0c)))) (Z0a (pv 1) Z0c))) rfl (.inl rfl))
   (@Z0e _ _ _ (Z0w (Z0p Z5r (Z0l Z0i (pv 4) Z0b (λ_ _=>rfl)) Z0b (nomark _))
    (@Z0e _ _ _ (Y6g (Y1t hr) (pv 1) (Z5a q2c q1m q1r Z2f (Z0l Z0i (pv 4) Z0b (λ_ _=>rfl))) (pv 4) rfl))
    (@Z0e _ _ _ (Z0w (Z0p Z1m (Z0l Z0i (pv 4) Z0b (λ_ _=>rfl)) Z0b (nomark _))
     (@Z0e _ _ _ (Z0k (@Z1a _ _ _ _ _ (Z0a Z7e (Z0a (Z0m d9 hr rfl (Z0a (Z0l Z0i (pv 4) Z0b (λ_ _=>rfl)) Z0c)) Z0c)))))
     Z0o))))))
  (@Z0e _ _ _ (Z0k (@Z1a _ _ _ _ _ (Z0a (Z0m eJ hr rfl (Z0a (pv 1) Z0c)) (Z0a Z7e Z0c))))))),?_⟩
 try dsimp only[cxK]
 refine λd hd=>?_
 refine⟨_,U,l,_,U,(Z0f hd _).seq hS,Z8x (K:=K) (a:=l) (xs:=ps.map V.ref) (λi σ H'=>Same H H'/\∃ (kvs:List (Key × V)) (ts:List Ent) (v2 v3 v4:Option V),H' d=some (.dK kvs)/\Kept H' kvs ts/\Good es i ts/\σ=[some (.ref l),some (.ref d),v2,v3,v4])
  ⟨Z0f hd _,[],[],none,none,none,Z0d,.nil,Good.start es,U⟩ (λi σ H' _ e=>e.1.seq hS) ?_ ?_⟩
 ·rintro i x σ H1 T hx ⟨s1,kvs,ts,v2,v3,v4,hd1,hk,gd,rfl⟩ hT
  rw[q0g] at hx
  obtain⟨p,hp,rfl⟩:=q0p.mp hx
  obtain⟨e,ei,hpe⟩:=he.get hp
  have ilt:i<es.length:=(q0o.mp ei).1
  have sT:=Z0f hT (.tup [.int i,.ref p])
  have hpe1:=sT _ _ (s1 _ _ hpe)
  have SP:SqT K (upd H1 T (.tup [.int i,.ref p])) p [.int e.1,.int e.2]:=SqT.of hpe1
  refine⟨T,_,U,SqT.of Z0d,U,_,_,U,_,_,U,U,?_⟩
  refine⟨_,U,p,_,_,_,U,U,SP,U,_,U,p,_,_,_,U,U,SP,U,_,U,_,_,U,U,⟨1,sz1,by omega,by omega⟩,(by show 3<=sizeLine;decide),λr hr=>?_⟩
  have sr:=Z0f hr (.tup [.int e.1,.int e.2,.int ((1:Int)*2^((i:Int)).toNat)])
  have e1:(1:Int)*2^((i:Int)).toNat=((2^i:Nat):Int):=by simp
  have hrt:upd (upd H1 T (.tup [.int i,.ref p])) r (.tup [.int e.1,.int e.2,.int ((1:Int)*2^((i:Int)).toNat)]) r=some (T3 (e.1,e.2,2^i)):=by rw[Z0d,e1]
  refine⟨_,U,r,d,(e.1,e.2,2^i),kvs,ts,es,i,e,U,hrt,sr _ _ (sT _ _ hd1),(hk.same sT).same sr,fine,gd,Left.start ei,λp' H2 t s2 hp' lf apart=>?_⟩
  have sH2:=((s1.trans sT).trans sr).trans s2
  have hd2:=s2 _ _ (sr _ _ (sT _ _ hd1))
  have hk2:=((hk.same sT).same sr).same s2
  have SL:SqT K H2 p' [.int t.1,.int t.2.1,.int t.2.2]:=SqT.of hp'
  refine⟨_,U,p',_,_,_,U,U,SL,U,U,_,U,neI (λne=>?_) (λeq=>?_)⟩
  ·have t0:t.1≠0:=λz=>ne (by rw[z];rfl)
   refine⟨_,U,_,U,_,U,p',_,_,_,U,U,SL,U,U,_,U,U,?_⟩
   rw[Y2b]
   have hn:valV kvs (Sum.inl (bl t.1:Int))=none:=by
    cases hv:valV kvs (Sum.inl (bl t.1:Int)) with
    | none=>rfl
    | some v =>
     obtain⟨u,hu,q,eh,_⟩:=hk2.get hv
     exact absurd (Int.ofNat.inj eh) (apart u hu)
   have hkl:=hk.length
   have hgl:=gd.len
   refine⟨d,_,U,DPut.k (k:=Sum.inl (bl t.1:Int)) hd2 (q0f (show kvs.length<64 by omega) (by decide)),Z0v sH2 hd,_,ts++[t],some (V.int i),some (V.ref p),some (V.ref p'),Z0d,?_,gd.put ei lf t0 apart,U⟩
   rw[Y9u _ hn]
   exact(hk2.upd hd2).snoc (by rw[Z0u (Z5f hp' hd2 (by intro z;cases z))];exact hp')
  ·have t0:t.1=0:=Int.ofNat.inj eq
   have tb:=lf.bit fine.bit
   refine⟨_,U,p',_,_,_,U,U,SL,U,U,_,U,eqI (λe1'=>?_) (λe1'=>?_)⟩
   ·have b1:t.2.1=1:=Int.ofNat.inj e1'
    have clt:t.2.2<2^es.length:=q0f lf.lt (q0v (by decide) ilt)
    refine⟨_,U,p',_,_,_,U,U,SL,U,t.2.2,U,q0f clt (q0v (by decide) (by omega)),λql H3 s3 hl3=>⟨t2,λrr hrr=>?_⟩⟩
    refine kq rr _ ((sH2.trans s3).trans (Z0f hrr _)) (.inr ⟨t.2.2,ql,Z0d,Z0f hrr _ _ _ hl3,clt,?_⟩)
    rw[lf.com]
    show (t.1,t.2.1)=_
    rw[t0,b1]
   ·have b0:t.2.1=0:=by
     have:¬ t.2.1=1:=λz=>e1' (by rw[z];rfl)
     omega
    exact⟨sH2,kvs,ts,some (V.int i),some (V.ref p),some (V.ref p'),hd2,hk2,gd.skip ei lf t0 b0,U⟩
 ·rintro σ H1 ⟨s1,kvs,ts,v2,v3,v4,hd1,hk,gd,rfl⟩
  rw[q0a,hlen] at gd
  refine⟨_,U,d,kvs,ts,es,es.length,U,hd1,hk,fine,gd,h60,λx H2 s2 hs=>⟨t2,λr hr=>?_⟩⟩
  refine kq r _ ((s1.trans s2).trans (Z0f hr _)) (.inl ⟨x,Z0d,λe he'=>?_⟩)
  obtain⟨j,hj,rfl⟩:=q3k.mp he'
  exact gd.all x hs j _ hj (q0d hj)
end
end K76T
namespace K76T
open L2 Pc K51 M54
def Mks (H:Hp):List Addr->List Mk->Prop:=Paired λp m=>H p=some (T3 m)
theorem Mks.same {H H':Hp}{ps:U3}{ms:List Mk}(h:Mks H ps ms)(s:Same H H'):Mks H' ps ms:=Paired.imp' (λ_ _ c=>s _ _ c) h
theorem Mks.length {H:Hp}{ps:U3}{ms:List Mk}(h:Mks H ps ms):ps.length=ms.length:=Paired.length h
theorem Mks.get {H:Hp}:∀ {ps:U3}{ms:List Mk}{i:Nat}{p:W9},Mks H ps ms->ps[i]?=some p->∃ e,ms[i]?=some e/\H p=some (T3 e)
 | p'::ps,e::es,0,p,.cons a r,h=>by
  have:p'=p:=by simpa using h
  subst this
  exact⟨e,U,a⟩
 | p'::ps,e::es,i+1,p,.cons a r,h=>by
  obtain⟨f,b,c⟩:=Mks.get (ps:=ps) (ms:=es) (i:=i) (p:=p) r (by simpa using h)
  exact⟨f,by simpa using b,c⟩
theorem Mks.at {H:Hp}{ps:U3}{ms:List Mk}{i:Nat}(h:Mks H ps ms)(hi:i<ms.length):∃ p,ps[i]?=some p/\H p=some (T3 (ms.getD i (0,0,0))):=by
 have hl:=h.length
 have e1:ps[i]?=some (ps[i]'(by omega)):=by simp[show i<ps.length by omega]
 obtain⟨e,e2,e3⟩:=h.get e1
 refine⟨_,e1,?_⟩
 rw[q0b,e2]
 exact e3
noncomputable abbrev L3 (m:Mk):List V:=[.int m.1,.int m.2.1,.int m.2.2]
def Z4u (K:U0):Sp:=λvs H Q _=>∃ (p p':W9) (m m':Mk),vs=[.ref p,.ref p']/\SqT K H p (L3 m)/\SqT K H p' (L3 m')/\∀ (r:W9) (H':Hp),Same H H'->H' r=some (T3 (mul m m'))->Q (.ref r) H'
def Z6w (K:U0):Sp:=λvs H Q _=>∃ (l:W9) (ps:U3) (ms:List Mk),vs=[.ref l]/\SqL K H l (ps.map V.ref)/\Mks H ps ms/\∀ (r:W9) (H':Hp),Same H H'->SqT K H' r (L3 (prod ms))->Q (.ref r) H'
def Z7v (K:U0):Sp:=λvs H Q _=>∃ (l:W9) (ps:U3) (ms:List Mk) (pt:Int) (fs:W3) (n:Nat),vs=[.ref l,.int pt,.int n]/\SqL K H l (ps.map V.ref)/\Mks H ps ms/\ms.length<=60 ∧
 (pt=1/\fs=ms.map (·.2.1)∨pt=2/\fs=ms.map (·.2.2))/\∀ H',Same H H'->Q (.int (Wm fs n fs.length:Nat)) H'
def Y5z (K:U0):Sp:=λvs H Q _=>∃ (l:W9) (c n:Nat),vs=[.ref l,.int n]/\SqL K H l ((places c (bl c)).map λp=>V.int (p:Nat))/\n<=6/\c<2^(n+n) ∧
 ∀ (r:W9) (H':Hp),Same H H'->H' r=some (T3 (pc (c / 2^n&&&c%2^n)%4,c / 2^n,c%2^n))->Q (.ref r) H'
theorem Y3p (c k:Nat):∀ N,((((places c N).map λp=>((p:Nat):Int)).filter λz:Int=>decide ((k:Int)<=z)).map λz:Int=>(1:Int)*2^(z-(k:Int)).toNat).sum=((c%2^N / 2^k:Nat):Int)
 | 0=>by simp[places,q8h]
 | N+1=>by
  have ih:=Y3p c k N
  have p:=q0w k
  rw[Z2z,q0i,q3i,q0i,q8b,ih,Z6m]
  show _+((((if bit c N=1 then [N] else []).map λp=>((p:Nat):Int)).filter λz:Int=>decide ((k:Int)<=z)).map λz:Int=>(1:Int)*2^(z-(k:Int)).toNat).sum=_
  have hl:c%2^N<2^N:=q2r _ (q0w N)
  rcases (by have:=Z1u c N;omega:bit c N=0∨bit c N=1) with z | z
  ·rw[z];simp
  ·rw[z,if_pos rfl,q7j]
   by_cases hk:k<=N
   ·obtain⟨d,rfl⟩:∃ d,N=k+d:=⟨N-k,by omega⟩
    have e:(c%2^(k+d)+2^(k+d)) / 2^k=c%2^(k+d) / 2^k+2^d:=by rw[q6i,Nat.add_mul_div_left _ _ p]
    rw[e]
    have hk2:(k:Int)<=(k:Int)+d:=by omega
    have e3:((k:Int)+d).toNat-k=d:=by omega
    simp[hk2,e3]
   ·have e:(c%2^N+2^N) / 2^k=0:=q3t (by
     have:=q0v (show 0<2 by decide) (show N+1<=k by omega)
     rw[q2q] at this
     omega)
    have e':c%2^N / 2^k=0:=q3t (q5l hl (q1p (by decide) (by omega)))
    rw[e,e']
    have nk:¬ ((k:Int)<=N):=by omega
    simp[nk]
theorem Y7t (c k:Nat):∀ N,((((places c N).map λp=>((p:Nat):Int)).filter λz=>decide (z<(k:Int))).map λz=>(1:Int)*2^z.toNat).sum=((c%2^N%2^k:Nat):Int)
 | 0=>by simp[places,q8h]
 | N+1=>by
  have ih:=Y7t c k N
  rw[Z2z,q0i,q3i,q0i,q8b,ih,Z6m]
  show _+((((if bit c N=1 then [N] else []).map λp=>((p:Nat):Int)).filter λz=>decide (z<(k:Int))).map λz=>(1:Int)*2^z.toNat).sum=_
  have hl:c%2^N<2^N:=q2r _ (q0w N)
  rcases (by have:=Z1u c N;omega:bit c N=0∨bit c N=1) with z | z
  ·rw[z];simp
  ·rw[z,if_pos rfl,q7j]
   by_cases hk:k<=N
   ·obtain⟨d,rfl⟩:∃ d,N=k+d:=⟨N-k,by omega⟩
    have e:(c%2^(k+d)+2^(k+d))%2^k=c%2^(k+d)%2^k:=by rw[q6i,Nat.add_mul_mod_self_left]
    rw[e]
    have nk:¬ ((k:Int)+d<k):=by omega
    simp[nk]
   ·have hp:2*2^N<=2^k:=by
     have:=q0v (show 0<2 by decide) (show N+1<=k by omega)
     rw[q2q] at this
     exact this
    rw[q2y (show c%2^N+2^N<2^k by omega),q2y (show c%2^N<2^k by omega)]
    simp[show N<k by omega]
theorem ipow (n:Nat):(1:Int)*2^((n:Int).toNat)=((2^n:Nat):Int):=by simp
theorem t3:3<=sizeLine:=by decide
theorem Z5s (x:Nat):Builtin.bitAnd (x:Int) 1=((x%2:Nat):Int):=by
 have:=Z3t x 1
 rw[q6p] at this
 exact this
section
variable {P:U8}{w:W1}{K:U0}{mg:U4}{base:Heap}{k:Nat}{h:Heap}
theorem sc_product:FnScope ["one","other","met"] ["one","other"] (Z0h (top 19)):=fS
theorem Y4m (F:FunAt K "product" (top 19) .none)(X:K.In h)(G:Ng h mg)(cD:Cal P w K mg base k "ones" ["number"] spOnes):Cal P w K mg base (k+1) "product" ["one","other"] (Z4u K):=by
 have nd:=sc_product.nd
 refine F.cal X G sc_product (bnd2 λ_ _ _ _ _ _ _ _=>rfl) (λvs H Q E h=>?_) (λf cdv A outer s H vs Q E hr h=>?_)
 ·obtain⟨p,p',m,m',rfl,_⟩:=h;rfl
 obtain⟨p,p',m,m',rfl,S1,S2,kq⟩:=h
 refine⟨_,(@Z0g _ _ _ _ _ (@Z0q _ _ 2 _ _ _ _ nd rfl (Or.inl rfl) (Z0m cD hr rfl (Z0a (Z0j Z0z (Z0l Z0i (pv 0) Z0b (λ_ _=>rfl)) (Z0l Z0i (pv 1) Z0b (λ_ _=>rfl))) Z0c)) rfl (.inl rfl))
  (@Z0e _ _ _ (Z0k (@Z1a _ _ _ _ _ (Z0a (Z0j Z1e (Z0j Z1r (Z0j Z1r (Z0l Z0i (pv 0) Z0b (λ_ _=>rfl)) (Z0l Z0i (pv 1) Z0b (λ_ _=>rfl))) (Z0j Z4b Z0b (pv 2))) Z0b) (Z0a (Z0j Z2e (Z0l Z0i (pv 0) Z0b (λ_ _=>rfl)) (Z0l Z0i (pv 1) Z0b (λ_ _=>rfl))) (Z0a (Z0j Z2e (Z0l Z0i (pv 0) Z0b (λ_ _=>rfl)) (Z0l Z0i (pv 1) Z0b (λ_ _=>rfl))) Z0c))))))),?_⟩
 try dsimp only[cxK]
 refine⟨_,U,p,_,_,_,U,U,S1,U,_,U,p',_,_,_,U,U,S2,U,_,_,U,U,m.2.2&&&m'.2.1,Z7t _ _,?_⟩
 refine⟨_,U,p,_,_,_,U,U,S1,U,_,U,p',_,_,_,U,U,S2,U,_,_,U,U,_,U,_,_,U,U,.inl ⟨by decide,by decide⟩,_,_,U,U,_,_,U,U,Z4j,?_⟩
 refine⟨_,U,p,_,_,_,U,U,S1,U,_,U,p',_,_,_,U,U,S2,U,_,_,U,U,_,U,p,_,_,_,U,U,S1,U,_,U,p',_,_,_,U,U,S2,U,_,_,U,U,t3,λr hr=>?_⟩
 refine kq r _ (Z0f hr _) ?_
 rw[Z0d]
 show some (HO.tup [.int (((m.1:Int)+m'.1+2*((pc (m.2.2&&&m'.2.1):Nat):Int))%4),.int (Builtin.bitXor (m.2.1:Int) m'.2.1),.int (Builtin.bitXor (m.2.2:Int) m'.2.2)])=_
 rw[Z3u,Z3u]
 rfl
theorem sc_prodof:FnScope ["marks","made","mark"] ["marks"] (Z0h (top 63)):=fS
theorem Y7e (F:FunAt K "product_of" (top 63) .none)(X:K.In h)(G:Ng h mg){aP:W9}(gP:mg "PRODUCT_OF_NONE"=some (.ref aP))(sP:∀ H:Hp,SqT K H aP (L3 (0,0,0)))
  (eR:Cal P w K mg base k "product" ["one","other"] (Z4u K)):Cal P w K mg base (k+1) "product_of" ["marks"] (Z6w K):=by
 have nd:=sc_prodof.nd
 refine F.cal X G sc_prodof (bnd1 λ_ _ _ _ _ _ _=>rfl) (λvs H Q E h=>?_) (λf cdv A outer s H vs Q E hr h=>?_)
 ·obtain⟨l,ps,ms,rfl,_⟩:=h;rfl
 obtain⟨l,ps,ms,rfl,hS,hm,kq⟩:=h
 have hlen:=hm.length
 refine⟨_,(@Z0g _ _ _ _ _ (@Z0q _ _ 1 _ _ _ _ nd rfl (Or.inl rfl) (Z4p (v:=.ref aP) rfl gP rfl) rfl (.inl rfl))
  (@Z0g _ _ _ _ _ (Z2w PassesOwn.never rfl (Z1p (pv 0)) (Z0t (i:=2) nd rfl (Or.inl rfl))
   (@Z0e _ _ _ (@Z0q _ _ 1 _ _ _ _ nd rfl (Or.inl rfl) (Z0m eR hr rfl (Z0a (pv 1) (Z0a (pv 2) Z0c))) rfl (.inl rfl))))
  (@Z0e _ _ _ (Z0k (pv 1))))),?_⟩
 try dsimp only[cxK]
 refine⟨_,U,l,U,⟨_,hS⟩,Z3d (K:=K) (a:=l) (xs:=ps.map V.ref) (λi σ H'=>Same H H'/\∃ (p:W9) (v:Option V),SqT K H' p (L3 ((ms.take i).foldl mul (0,0,0)))/\σ=[some (.ref l),some (.ref p),v]) ⟨Same.refl _,aP,none,sP H,U⟩ (λi σ H' _ e=>e.1.seq hS) ?_ ?_⟩
 ·rintro i x σ H1 hx ⟨s1,p,v,sp,rfl⟩
  rw[q0g] at hx
  obtain⟨p',hp',rfl⟩:=q0p.mp hx
  obtain⟨m,hmi,hpm⟩:=hm.get hp'
  refine⟨_,U,_,U,p,p',_,m,U,sp,SqT.of (s1 _ _ hpm),λr H2 s2 hr=>⟨s1.trans s2,r,_,?_,U⟩⟩
  rw[q1s,hmi,q1u,q4w]
  exact SqT.of hr
 ·rintro σ H1 ⟨s1,p,v,sp,rfl⟩
  rw[q0a,hlen,q2e] at sp
  exact⟨_,U,kq p H1 s1 sp⟩
theorem sc_rowswith:FnScope ["rows","part","cell"] ["rows","part","cell"] (Z0h (top 62)):=fS
theorem Y1f (F:FunAt K "rows_with" (top 62) .none)(X:K.In h)(G:Ng h mg)(B:Bs mg):Cal P w K mg base (k+1) "rows_with" ["rows","part","cell"] (Z7v K):=by
 have nd:=sc_rowswith.nd
 refine F.cal X G sc_rowswith (bnd3 λ_ _ _ _ _ _ _ _ _=>rfl) (λvs H Q E h=>?_) (λf cdv A outer s H vs Q E hr h=>?_)
 ·obtain⟨l,ps,ms,pt,fs,n,rfl,_⟩:=h;rfl
 obtain⟨l,ps,ms,pt,fs,n,rfl,hS,hm,h60,hpt,kq⟩:=h
 have hlen:=hm.length
 have fl:fs.length=ms.length:=by rcases hpt with ⟨_,rfl⟩ | ⟨_,rfl⟩<;>exact q0a _
 refine⟨_,(@Z0e _ _ _ (Z0k (Z0n (Z7p rfl) rfl B.sum boot_sum (Z0a (Z3e rfl (LcOk.of (Nc:=["place","row","part","cell"]) (mp:=[none,none,some 1,some 2]) (by kernel_rfl)) (Z3y rfl B.enumerate (Z0a (pv 0) Z0c)) (λ_ _ _ _=>(Z4h rfl (show (["place","row","part","cell"]:W0).Nodup by decide +kernel) rfl rfl rfl rfl)) (λ_ _ _ _=>(Z0j Z1j (Z0j Z0z (Z0j Z3i (Z0l Z4e (pv 1) (pv 2) (λ_ _=>rfl)) (pv 3)) Z0b) (pv 0)))) Z0c)))),?_⟩
 try dsimp only[cxK]
 refine⟨_,U,l,_,U,hS,λacc hacc=>?_⟩
 refine X5z (l:=l) (xs:=ps.map V.ref) (fr:=[some (.int pt),some (.int n)]) (λi _=>.int (((bit (fs.getD i 0) n:Nat):Int)*2^i)) (by rw[q0a];exact s64 (by omega)) hacc hS (λh q=>⟨_,_,U,SqT.of h,U,_,_,U,_,_,U,U,q⟩) ?_ ?_
 ·intro i x H2 N hx s2 kN
  rw[q0g] at hx
  obtain⟨p',hp',rfl⟩:=q0p.mp hx
  obtain⟨m,hmi,hpm⟩:=hm.get hp'
  have ilt:i<ms.length:=(q0o.mp hmi).1
  have S:SqT K H2 p' (L3 m):=SqT.of (s2 _ _ hpm)
  have at':atI (L3 m) pt=some (.int (fs.getD i 0:Nat)):=by
   rcases hpt with ⟨rfl,rfl⟩ | ⟨rfl,rfl⟩<;>rw[q0b,q0g,hmi]<;>rfl
  have b2:=Z1u (fs.getD i 0) n
  have e1:((fs.getD i 0:Nat):Int) / 2^((n:Int)).toNat=((fs.getD i 0 / 2^n:Nat):Int):=by rw[q0x];simp
  refine⟨_,U,_,U,p',_,_,_,U,U,S,at',_,U,_,_,U,U,by omega,_,_,U,U,_,U,?_⟩
  show rI CShl (λi j=>V.int (i*2^j.toNat)) (V.int (Builtin.bitAnd (((fs.getD i 0:Nat):Int) / 2^((n:Int)).toNat) 1)) (V.int (i:Int)) H2 N
  rw[e1,Z5s]
  refine⟨_,_,U,U,⟨1,?_,by omega,by omega⟩,?_⟩
  ·show ((bit (fs.getD i 0) n:Nat):Int).natAbs<2^1
   omega
  ·show N (.int (((bit (fs.getD i 0) n:Nat):Int)*2^((i:Int)).toNat)) H2
   rw[q0x]
   exact kN
 ·intro H2 s2 a2
  have e:((ps.map V.ref).mapIdx λi _=>V.int (((bit (fs.getD i 0) n:Nat):Int)*2^i))=(fs.mapIdx λi v=>((bit v n:Nat):Int)*2^i).map V.int:=by
   apply List.ext_getElem
   ·simp[hlen,fl]
   ·intro i h1 h2
    simp only[q0a,List.length_mapIdx] at h2
    simp[h2]
  rw[e] at a2
  refine⟨acc,_,U,SqL.of a2,?_⟩
  have:=X3l fs n fs.length (q0l _)
  rw[q2e] at this
  rw[this]
  exact kq H2 s2
theorem sc_apart:FnScope ["numbers","cells","flips","signs"] ["numbers","cells"] (Z0h (top 64)):=fS
theorem X0u (F:FunAt K "apart_by" (top 64) .none)(X:K.In h)(G:Ng h mg)(B:Bs mg)(cD:Cal P w K mg base k "ones" ["number"] spOnes):Cal P w K mg base (k+1) "apart_by" ["numbers","cells"] (Y5z K):=by
 have nd:=sc_apart.nd
 refine F.cal X G sc_apart (bnd2 λ_ _ _ _ _ _ _ _=>rfl) (λvs H Q E h=>?_) (λf cdv A outer s H vs Q E hr h=>?_)
 ·obtain⟨l,c,n,rfl,_⟩:=h;rfl
 obtain⟨l,c,n,rfl,hS,hn,hc,kq⟩:=h
 have em:((places c (bl c)).map λp=>V.int (p:Nat))=((places c (bl c)).map λp=>((p:Nat):Int)).map V.int:=by rw[q3w];rfl
 rw[em] at hS
 have hb:bl c<=n+n:=bl_le.mpr hc
 have hmem:∀ z∈(places c (bl c)).map λp=>((p:Nat):Int),∃ p:Nat,z=p/\p<12:=λz hz=>by
  obtain⟨p,hp,rfl⟩:=q2k.mp hz
  exact⟨p,U,by have:=Z3a hp;omega⟩
 have hlen:((places c (bl c)).map λp=>((p:Nat):Int)).length<=sizeLine:=by
  rw[q0a]
  exact s64 (q1b (q6b _ _) (by rw[q5y];omega))
 have hi:=Y3p c n (bl c)
 have lo:=Y7t c n (bl c)
 rw[q2y (X1w c)] at hi lo
 generalize ((places c (bl c)).map λp=>((p:Nat):Int))=ns at *
 refine⟨_,(@Z0g _ _ _ _ _ (@Z0q _ _ 2 _ _ _ _ nd rfl (Or.inl rfl) (Z0n (Z7p rfl) rfl B.sum boot_sum (Z0a (Y2z rfl (LcOk.of (Nc:=["number","cells"]) (mp:=[none,some 1]) (by kernel_rfl)) (Z1p (pv 0)) (λ_ _ _ _=>(Z0t (i:=0) (show (["number","cells"]:W0).Nodup by decide +kernel) rfl (Or.inl rfl))) (λ_ _ _ _=>(Z0p Y6z (pv 0) (pv 1) (nomark _))) (λ_ _ _ _=>(Z0j Z1j Z0b (Z0j Z3c (pv 0) (pv 1))))) Z0c)) rfl (.inl rfl))
  (@Z0g _ _ _ _ _ (@Z0q _ _ 3 _ _ _ _ nd rfl (Or.inl rfl) (Z0n (Z7p rfl) rfl B.sum boot_sum (Z0a (Y2z rfl (LcOk.of (Nc:=["number","cells"]) (mp:=[none,some 1]) (by kernel_rfl)) (Z1p (pv 0)) (λ_ _ _ _=>(Z0t (i:=0) (show (["number","cells"]:W0).Nodup by decide +kernel) rfl (Or.inl rfl))) (λ_ _ _ _=>(Z0p Z5b (pv 0) (pv 1) (nomark _))) (λ_ _ _ _=>(Z0j Z1j Z0b (pv 0)))) Z0c)) rfl (.inl rfl))
  (@Z0e _ _ _ (Z0k (@Z1a _ _ _ _ _ (Z0a (Z0j Z1e (Z0m cD hr rfl (Z0a (Z0j Z0z (pv 2) (pv 3)) Z0c)) Z0b) (Z0a (pv 2) (Z0a (pv 3) Z0c)))))))),?_⟩
 try dsimp only[cxK]
 refine⟨_,U,l,U,⟨_,hS⟩,λacc hacc=>?_⟩
 refine Y3i (l:=l) (ns:=ns) (fr:=[some (.int n)]) (λz=>decide ((n:Int)<=z)) (λz=>1*2^(z-n).toNat) hlen hacc hS (λz H2 N _ _ kN=>⟨_,U,_,U,_,_,U,U,_,U,kN⟩) (λz H2 N hz hp _ kN=>?_) ?_
 ·obtain⟨p,rfl,hp12⟩:=hmem z hz
  have hge:=q1t hp
  exact⟨_,U,_,U,_,_,U,U,_,_,U,U,⟨1,sz1,by omega,by omega⟩,kN⟩
 intro H2 s2 a2
 refine⟨acc,_,U,SqL.of a2,?_⟩
 rw[hi]
 refine⟨_,U,l,U,⟨_,s2.seq hS⟩,λacc' hacc'=>?_⟩
 refine Y3i (l:=l) (ns:=ns) (fr:=[some (.int n)]) (λz=>decide (z<(n:Int))) (λz=>1*2^z.toNat) hlen hacc' (s2.seq hS) (λz H2 N _ _ kN=>⟨_,U,_,U,_,_,U,U,_,U,kN⟩) (λz H2 N hz hp _ kN=>?_) ?_
 ·obtain⟨p,rfl,hp12⟩:=hmem z hz
  exact⟨_,U,_,_,U,U,⟨1,sz1,by omega,by omega⟩,kN⟩
 intro H3 s3 a3
 refine⟨acc',_,U,SqL.of a3,?_⟩
 rw[lo]
 refine⟨_,U,_,U,_,_,U,U,c / 2^n&&&c%2^n,Z7t _ _,_,_,U,U,Z4j,_,U,_,U,t3,λr hr=>?_⟩
 refine kq r _ ((s2.trans s3).trans (Z0f hr _)) ?_
 rw[Z0d]
 rfl
noncomputable def comm (a b:Mk):Nat:=(pc (a.2.1&&&b.2.2)+pc (a.2.2&&&b.2.1))%2
structure Okm (N:Nat) (m:Mk):Prop where
 q:m.1<4
 f:m.2.1<2^N
 s:m.2.2<2^N
def MadeT (ms:List Mk)(mark:Mk)(N:Nat)(H0 H:Hp)(r:W9):Prop :=
 (∃ (kk x:Nat) (l:W9),H0 l=none/\H r=some (.tup [.str "made",.int kk,.ref l])/\H l=some (.lst ((places x ms.length).map λp=>V.int (p:Nat)))/\kk<4/\(chosen ms x ms.length).foldl mul (kk,0,0)=mark) ∨
 ∃ (p:W9) (o:Mk),H r=some (.tup [.str "apart",.ref p])/\H p=some (T3 o)/\Okm N o/\(o.1+pc (o.2.1&&&o.2.2))%2=0/\comm o mark=1/\∀ m∈ms,comm o m=0
def Y2s (K:U0):Sp:=λvs H Q _=>∃ (l pm:W9) (ps:U3) (ms:List Mk) (mark:Mk) (N:Nat),vs=[.ref l,.ref pm,.int N]/\SqL K H l (ps.map V.ref)/\Mks H ps ms/\H pm=some (T3 mark)/\N<=6/\ms.length<=12/\(∀ m∈ms,Okm N m)/\Okm N mark ∧
 ∀ (r:W9) (H':Hp),Same H H'->MadeT ms mark N H H' r->Q (.ref r) H'
theorem Mks.pick {H:Hp}{ps:U3}{ms:List Mk}(h:Mks H ps ms):∀ (pl:W3),(∀ p∈pl,p<ms.length)->Mks H (pl.map λp=>ps.getD p 0) (pl.map λp=>ms.getD p (0,0,0))
 | [],_=>.nil
 | p::pl,hp=>by
  obtain⟨a,e1,e2⟩:=h.at (hp p q2m)
  refine .cons ?_ (Mks.pick h pl λq hq=>hp q (q1x _ hq))
  show H (ps.getD p 0)=_
  rw[q0b,e1]
  exact e2
theorem Z7f {α β:Type}{F:α->β->Prop}{l2:List α}{r2:List β}:∀ {l1:List α}{r1:List β},Paired F l1 r1->Paired F l2 r2->Paired F (l1++l2) (r1++r2)
 | [],[],_,h=>h
 | _::_,_::_,.cons a t,h=>.cons a (Z7f t h)
theorem X6j {ms:List Mk}{N:Nat}(h:∀ m∈ms,Okm N m)(j:Nat):(ms.map (·.2.1)).getD j 0<2^N/\(ms.map (·.2.2)).getD j 0<2^N:=by
 rw[q0b,q0b,q0g,q0g]
 cases e:ms[j]? with
 | none=>exact⟨q0w N,q0w N⟩
 | some m=>exact⟨(h m (q1g e)).f,(h m (q1g e)).s⟩
noncomputable abbrev both (ms:List Mk)(mark:Mk)(N:Nat):List Eqn:=eqs (ms.map (·.2.1)) mark.2.1 N++eqs (ms.map (·.2.2)) mark.2.2 N
theorem Y3x (ms:List Mk)(mark:Mk)(N:Nat):(both ms mark N).length=N+N:=by rw[q0j,Z5z,Z5z]
theorem X6n {fs:W3}{v N:Nat}{e:Eqn}(h:e∈eqs fs v N):∃ n,n<N/\e=(Wm fs n fs.length,bit v n):=by
 obtain⟨n,hn,rfl⟩:=q2k.mp h
 exact⟨n,q1c.mp hn,U⟩
theorem Y9a {ms:List Mk}{mark:Mk}{N:Nat}(h:ms.length<=12):Fine (both ms mark N):=by
 have key:∀ e∈both ms mark N,e.2<2/\e.1<2^12:=λe he=>by
  rcases q1n.mp he with q | q<;>obtain⟨n,_,rfl⟩:=X6n q
  ·exact⟨Z1u _ _,q0f (Y9e _ _ _) (q0v (by decide) (by rw[q0a];exact h))⟩
  ·exact⟨Z1u _ _,q0f (Y9e _ _ _) (q0v (by decide) (by rw[q0a];exact h))⟩
 exact⟨λe he=>(key e he).1,λe he=>q5l (key e he).2 (q1p (by decide) (by decide))⟩
theorem X1u {ms:List Mk}{mark:Mk}{N x:Nat}(hm:∀ m∈ms,Okm N m)(hk:Okm N mark)(h:∀ e∈both ms mark N,sat x e):(prod (chosen ms x ms.length)).2=mark.2:=by
 have g:=X6j hm
 have hf:(prod (chosen ms x ms.length)).2.1=mark.2.1:=by
  rw[Z9u]
  refine Z4k N _ _ (X1z (λj=>(g j).1) _) hk.f λn hn=>?_
  have:=h (Wm (ms.map (·.2.1)) n (ms.map (·.2.1)).length,bit mark.2.1 n) (q2d _ (q2k.mpr ⟨n,q1c.mpr hn,U⟩))
  rw[q0a] at this
  rw[X4e]
  exact this
 have hs:(prod (chosen ms x ms.length)).2.2=mark.2.2:=by
  rw[Z9t]
  refine Z4k N _ _ (X1z (λj=>(g j).2) _) hk.s λn hn=>?_
  have:=h (Wm (ms.map (·.2.2)) n (ms.map (·.2.2)).length,bit mark.2.2 n) (q1h _ (q2k.mpr ⟨n,q1c.mpr hn,U⟩))
  rw[q0a] at this
  rw[X4e]
  exact this
 exact Prod.ext hf hs
theorem Eqs.upd {H:Hp}{l:W9}{xs ys:List V}{ps:U3}{es:List Eqn}(h:Eqs H ps es)(hl:H l=some (.lst xs)):Eqs (upd H l (.lst ys)) ps es :=
 Paired.imp' (λ_ _ c=>by rw[Z0u (Z5f c hl (by intro z;cases z))];exact c) h
theorem xor01 {a b:Nat}(ha:a<2)(hb:b<2):a^^^b=(a+b)%2:=by
 have:=Z3o a b
 have z1:a / 2=0:=by omega
 have z2:b / 2=0:=by omega
 rw[z1,z2] at this
 have q:(0^^^0:Nat)=0:=rfl
 omega
theorem Y5b {ms:List Mk}{mark:Mk}{N c:Nat}(hc:c<2^(N+N))(h:comb (both ms mark N) c=(0,1)) :
  comm (pc (c / 2^N&&&c%2^N)%4,c / 2^N,c%2^N) mark=1/\∀ m∈ms,comm (pc (c / 2^N&&&c%2^N)%4,c / 2^N,c%2^N) m=0:=by
 rw[Z3p,Z5z] at h
 have hd:c / 2^N%2^N=c / 2^N:=q2y (by rw[q6i] at hc;exact Nat.div_lt_of_lt_mul hc)
 constructor
 ·have h2:(comb (eqs (ms.map (·.2.1)) mark.2.1 N) c).2^^^(comb (eqs (ms.map (·.2.2)) mark.2.2 N) (c / 2^N)).2=1:=congrArg Prod.snd h
  rw[Z8z,Z8z,hd,xor01 (q2r _ (by decide)) (q2r _ (by decide))] at h2
  unfold comm
  show (pc (c / 2^N&&&mark.2.2)+pc (c%2^N&&&mark.2.1))%2=1
  omega
 ·intro m hm
  obtain⟨j,hj,rfl⟩:=q3k.mp hm
  have h1:(comb (eqs (ms.map (·.2.1)) mark.2.1 N) c).1^^^(comb (eqs (ms.map (·.2.2)) mark.2.2 N) (c / 2^N)).1=0:=congrArg Prod.fst h
  have h3:bit ((comb (eqs (ms.map (·.2.1)) mark.2.1 N) c).1^^^(comb (eqs (ms.map (·.2.2)) mark.2.2 N) (c / 2^N)).1) j=bit 0 j:=by rw[h1]
  rw[M54.Z3f,Z9a _ _ _ _ (by rw[q0a];exact hj),Z9a _ _ _ _ (by rw[q0a];exact hj),hd,Z6r] at h3
  have e1:(ms.map (·.2.1)).getD j 0=ms[j].2.1:=by rw[q0b,q0g,q0d hj];rfl
  have e2:(ms.map (·.2.2)).getD j 0=ms[j].2.2:=by rw[q0b,q0g,q0d hj];rfl
  rw[e1,e2] at h3
  unfold comm
  show (pc (c / 2^N&&&ms[j].2.2)+pc (c%2^N&&&ms[j].2.1))%2=0
  omega
theorem sc_madeof:FnScope ["rows","mark","cells","flips","signs","told","numbers","made"] ["rows","mark","cells"] (Z0h (top 61)):=fS
theorem Y7g (F:FunAt K "made_of" (top 61) .none)(X:K.In h)(G:Ng h mg)(B:Bs mg)(cW:Cal P w K mg base k "rows_with" ["rows","part","cell"] (Z7v K))(eS:Cal P w K mg base k "solved" ["equations"] (Y2n K))
  (eB:Cal P w K mg base k "apart_by" ["numbers","cells"] (Y5z K)) (dX:Cal P w K mg base k "product_of" ["marks"] (Z6w K)):Cal P w K mg base (k+1) "made_of" ["rows","mark","cells"] (Y2s K):=by
 have nd:=sc_madeof.nd
 refine F.cal X G sc_madeof (bnd3 λ_ _ _ _ _ _ _ _ _=>rfl) (λvs H Q E h=>?_) (λf cdv A outer s H vs Q E hr h=>?_)
 ·obtain⟨l,pm,ps,ms,mark,N,rfl,_⟩:=h;rfl
 obtain⟨l,pm,ps,ms,mark,N,rfl,hS,hm,hpm,hN,h12,oks,okk,kq⟩:=h
 have hlen:=hm.length
 refine⟨_,(@Z0g _ _ _ _ _ (Z6j (i:=3) rfl nd rfl rfl (LcOk.of (Nc:=["cell","rows","mark"]) (mp:=[none,some 0,some 1]) (by kernel_rfl)) (Z1v rfl B.range (Z0a (pv 2) Z0c)) (λ_ _ _ _=>(Z0t (i:=0) (show (["cell","rows","mark"]:W0).Nodup by decide +kernel) rfl (Or.inl rfl))) (λ_ _ _ _=>(@Z1a _ _ _ _ _ (Z0a (Z0m cW hr rfl (Z0a (pv 1) (Z0a Z0b (Z0a (pv 0) Z0c)))) (Z0a (Z0j Z0z (Z0j Z3i (Z0l Z4e (pv 2) Z0b (λ_ _=>rfl)) (pv 0)) Z0b) Z0c)))) rfl)
  (@Z0g _ _ _ _ _ (Z6j (i:=4) rfl nd rfl rfl (LcOk.of (Nc:=["cell","rows","mark"]) (mp:=[none,some 0,some 1]) (by kernel_rfl)) (Z1v rfl B.range (Z0a (pv 2) Z0c)) (λ_ _ _ _=>(Z0t (i:=0) (show (["cell","rows","mark"]:W0).Nodup by decide +kernel) rfl (Or.inl rfl))) (λ_ _ _ _=>(@Z1a _ _ _ _ _ (Z0a (Z0m cW hr rfl (Z0a (pv 1) (Z0a Z0b (Z0a (pv 0) Z0c)))) (Z0a (Z0j Z0z (Z0j Z3i (Z0l Z4e (pv 2) Z0b (λ_ _=>rfl)) (pv 0)) Z0b) Z0c)))) rfl)
  (@Z0g _ _ _ _ _ (@Z0q _ _ 5 _ _ _ _ nd rfl (Or.inr rfl) (Z0m eS hr rfl (Z0a (Z0j Y3e (pv 3) (pv 4)) Z0c)) rfl (.inl rfl))
  (@Z0g _ _ _ _ _ (Z0w (Z0p X8m (Z0l Z0i (pv 5) Z0b (λ_ _=>rfl)) Z7e (nomark _))
   (@Z0e _ _ _ (Z0k (@Z1a _ _ _ _ _ (Z0a Z0y (Z0a (Z0m eB hr rfl (Z0a (Z0l Z0i (pv 5) Z0b (λ_ _=>rfl)) (Z0a (pv 2) Z0c))) Z0c)))))
   Z0o)
  (@Z0g _ _ _ _ _ (Y6f (i:=6) rfl nd rfl rfl (LcOk.of (Nc:=["place","told"]) (mp:=[none,some 5]) (by kernel_rfl)) (Z1v rfl B.range (Z0a (Z0n Z0r rfl B.len q1k (Z0a (pv 0) Z0c)) Z0c)) (λ_ _ _ _=>(Z0t (i:=0) (show (["place","told"]:W0).Nodup by decide +kernel) rfl (Or.inl rfl))) (λ_ _ _ _=>(Z2c (Z0j Z0z (Z0j Z3i (Z0l Z4e (pv 1) Z0b (λ_ _=>rfl)) (pv 0)) Z0b) (by intro _;rfl))) (λ_ _ _ _=>(pv 0)) rfl)
  (@Z0g _ _ _ _ _ (@Z0q _ _ 7 _ _ _ _ nd rfl (Or.inl rfl) (Z0m dX hr rfl (Z0a (Z3e rfl (LcOk.of (Nc:=["place","rows"]) (mp:=[none,some 0]) (by kernel_rfl)) (Z1p (pv 6)) (λ_ _ _ _=>(Z0t (i:=0) (show (["place","rows"]:W0).Nodup by decide +kernel) rfl (Or.inl rfl))) (λ_ _ _ _=>(Z0l Y3m (pv 1) (pv 0) (λ_ _=>rfl)))) Z0c)) rfl (.inl rfl))
  (@Z0e _ _ _ (Z0k (@Z1a _ _ _ _ _ (Z0a Z0y (Z0a (Z0j Z1e (Z0j Z3c (Z0l Z0i (pv 1) Z0b (λ_ _=>rfl)) (Z0l Z0i (pv 7) Z0b (λ_ _=>rfl))) Z0b) (Z0a (pv 6) Z0c)))))))))))),?_⟩
 try dsimp only[cxK]
 refine⟨_,U,_,U,by omega,by omega,λa1 ha1=>?_⟩
 rw[q0x]
 refine Z4i (n:=N) (fr:=[some (.ref l),some (.ref pm)]) (λi ys H'=>Same H H'/\H' a1=some (.lst ys)/\∃ qs:List Addr,ys=qs.map V.ref/\Eqs H' qs (eqs (ms.map (·.2.1)) mark.2.1 i)) (s64 (by omega)) ⟨Z0f ha1 _,Z0d,[],U,.nil⟩ ?_ ?_
 ·rintro i ys H2 NN hi hl ⟨s2,c2,qs,rfl,hq⟩ kN
  have e0:(0:Int)+(i:Int)=(i:Int):=q3x _
  refine⟨_,U,_,U,l,ps,ms,1,_,i,(by rw[e0];rfl),s2.seq hS,hm.same s2,by omega,.inl ⟨U,U⟩,λH3 s3=>?_⟩
  have S3:SqT K H3 pm (L3 mark):=SqT.of (s3 _ _ (s2 _ _ hpm))
  have e1:(mark.2.1:Int) / 2^(0+(i:Int)).toNat=((mark.2.1 / 2^i:Nat):Int):=by rw[e0,q0x];simp
  refine⟨_,U,pm,_,_,_,U,U,S3,U,_,U,_,_,U,U,by omega,_,_,U,U,t2,λr hr=>?_⟩
  have sr:=Z0f hr (.tup [.int (Wm (ms.map (·.2.1)) i (ms.map (·.2.1)).length:Nat),.int (Builtin.bitAnd ((mark.2.1:Int) / 2^(0+(i:Int)).toNat) 1)])
  have hn:a1≠r:=Z1s (s3 _ _ c2) hr
  refine kN _ _ (sr _ _ (s3 _ _ c2)) ⟨Z0v ((s2.trans s3).trans sr) ha1,Z0d,qs++[r],by rw[q0i];rfl,?_⟩
  rw[Z6p]
  refine Paired.snoc (((hq.same s3).same sr).upd (sr _ _ (s3 _ _ c2))) ?_
  rw[Z0u (Ne.symm hn),Z0d]
  show some (HO.tup [.int _,.int (Builtin.bitAnd ((mark.2.1:Int) / 2^(0+(i:Int)).toNat) 1)])=_
  rw[e1,Z5s]
  rfl
 rintro ys H1 hl1 ⟨S1,c1,qs1,rfl,hq1⟩
 refine⟨_,U,_,U,by omega,by omega,λa2 ha2=>?_⟩
 rw[q0x]
 refine Z4i (n:=N) (fr:=[some (.ref l),some (.ref pm)]) (λi ys H'=>Same H1 H'/\H' a2=some (.lst ys)/\∃ qs:List Addr,ys=qs.map V.ref/\Eqs H' qs (eqs (ms.map (·.2.2)) mark.2.2 i)) (s64 (by omega)) ⟨Z0f ha2 _,Z0d,[],U,.nil⟩ ?_ ?_
 ·rintro i ys H2 NN hi hl ⟨s2,c2,qs,rfl,hq⟩ kN
  have e0:(0:Int)+(i:Int)=(i:Int):=q3x _
  refine⟨_,U,_,U,l,ps,ms,2,_,i,(by rw[e0];rfl),s2.seq (S1.seq hS),(hm.same S1).same s2,by omega,.inr ⟨U,U⟩,λH3 s3=>?_⟩
  have S3:SqT K H3 pm (L3 mark):=SqT.of (s3 _ _ (s2 _ _ (S1 _ _ hpm)))
  have e1:(mark.2.2:Int) / 2^(0+(i:Int)).toNat=((mark.2.2 / 2^i:Nat):Int):=by rw[e0,q0x];simp
  refine⟨_,U,pm,_,_,_,U,U,S3,U,_,U,_,_,U,U,by omega,_,_,U,U,t2,λr hr=>?_⟩
  have sr:=Z0f hr (.tup [.int (Wm (ms.map (·.2.2)) i (ms.map (·.2.2)).length:Nat),.int (Builtin.bitAnd ((mark.2.2:Int) / 2^(0+(i:Int)).toNat) 1)])
  have hn:a2≠r:=Z1s (s3 _ _ c2) hr
  refine kN _ _ (sr _ _ (s3 _ _ c2)) ⟨Z0v ((s2.trans s3).trans sr) ha2,Z0d,qs++[r],by rw[q0i];rfl,?_⟩
  rw[Z6p]
  refine Paired.snoc (((hq.same s3).same sr).upd (sr _ _ (s3 _ _ c2))) ?_
  rw[Z0u (Ne.symm hn),Z0d]
  show some (HO.tup [.int _,.int (Builtin.bitAnd ((mark.2.2:Int) / 2^(0+(i:Int)).toNat) 1)])=_
  rw[e1,Z5s]
  rfl
 rintro ys H2 hl2 ⟨S2,c2,qs2,rfl,hq2⟩
 have S12:=S1.trans S2
 have lq1:=hq1.length
 have lq2:=hq2.length
 rw[Z5z] at lq1 lq2
 refine⟨_,U,_,U,a1,a2,_,_,U,U,S2 _ _ c1,c2,(by rw[q0a,q0a];exact s64 (by omega)),λcl hcl=>?_⟩
 have S3:=Z0f hcl (.lst (qs1.map V.ref++qs2.map V.ref))
 refine⟨cl,qs1++qs2,both ms mark N,U,?_,?_,Y9a h12,by rw[Y3x];omega,λrt H4 S4 told=>?_⟩
 ·rw[q0i];exact SqL.of Z0d
 ·exact Z7f ((hq1.same S2).same S3) (hq2.same S3)
 have SS:=S12.trans (S3.trans S4)
 rcases told with ⟨x,hr,hs⟩ | ⟨c,q,hr,hq,clt,hc⟩
 ·have ST:SqT K H4 rt [.int x,.non]:=SqT.of hr
  refine⟨_,U,rt,_,_,_,U,U,ST,U,U,_,U,blI (λz=>absurd (q1t z) (by intro z;cases z)) (λ_=>?_)⟩
  have lm:(ps.map V.ref).length=ms.length:=by rw[q0a,hlen]
  refine⟨_,U,l,_,U,.inl (SS.seq hS),_,U,by omega,by omega,λa5 ha5=>?_⟩
  rw[q0x,lm]
  refine Z7h (n:=ms.length) (fr:=[some (.ref rt)]) (λi ys H'=>Same H4 H'/\H' a5=some (.lst ys)/\ys=(places x i).map λp=>V.int (p:Nat)) (s64 (by omega)) ⟨Z0f ha5 _,Z0d,U⟩ ?_ (λhm z=>?_) ?_
  ·rintro i ys H5 NN hi hl ⟨s5,c5,rfl⟩ kN
   have e0:(0:Int)+(i:Int)=(i:Int):=q3x _
   have e1:(x:Int) / 2^(0+(i:Int)).toNat=((x / 2^i:Nat):Int):=by rw[e0,q0x];simp
   refine⟨_,U,rt,_,_,_,U,U,SqT.of (s5 _ _ hr),U,_,U,_,_,U,U,by omega,_,_,U,U,_,U,?_⟩
   have pss:=Z2z x i
   show NN (Builtin.bitAnd ((x:Int) / 2^(0+(i:Int)).toNat) 1 != 0) H5
   rw[e1,Z5s]
   refine kN _ _ (λhb1=>?_) (λhb0=>?_)
   ·have h1:x / 2^i%2=1:=by
     have:x / 2^i%2≠0:=λz=>by rw[z] at hb1;cases hb1
     omega
    rw[if_pos h1] at pss
    refine⟨_,U,c5,Z0v s5 ha5,Z0d,?_⟩
    rw[pss,q0i,e0]
    rfl
   ·have h0:¬ x / 2^i%2=1:=λz=>by rw[z] at hb0;cases hb0
    rw[if_neg h0,q2o] at pss
    exact⟨s5,c5,by rw[pss]⟩
  ·obtain⟨v,e,qq⟩:=z
   exact⟨v,e,hm _ _ qq⟩
  rintro ys H5 ⟨S5,c5,rfl⟩
  have S05:=SS.trans S5
  have em:((places x ms.length).map λp=>V.int (p:Nat))=((places x ms.length).map λp=>((p:Nat):Int)).map V.int:=by rw[q3w];rfl
  have c5':=c5
  rw[em] at c5'
  have plen:(places x ms.length).length<=12:=q1b (q6b _ _) (by rw[q5y];exact h12)
  refine⟨_,U,a5,U,⟨_,SqL.of c5'⟩,λa6 ha6=>?_⟩
  refine X1c (ns:=(places x ms.length).map λp=>((p:Nat):Int)) (fr:=[some (.ref l)]) (λz=>.ref (ps.getD z.toNat 0)) (SqL.of c5') (by rw[q0a];exact s64 (by omega)) ha6 (λz H6 NN hz s6 kN=>?_) ?_
  ·obtain⟨p,hp,rfl⟩:=q2k.mp hz
   obtain⟨pa,e1,_⟩:=hm.at (Z3a hp)
   have eg:ps.getD p 0=pa:=by rw[q0b,e1];rfl
   refine⟨_,U,_,U,l,_,_,_,U,U,s6.seq (S05.seq hS),Z3b (v:=.ref pa) (by rw[q0g,e1];rfl),?_⟩
   rw[q0x,eg] at kN
   exact kN
  intro H6 S6 c6
  have S06:=S05.trans S6
  refine⟨a6,(places x ms.length).map (λp=>ps.getD p 0),chosen ms x ms.length,U,?_,(hm.same S06).pick _ (λp hp=>Z3a hp),λrp H7 S7 sp=>?_⟩
  ·rw[q3w] at c6
   rw[q3w]
   exact SqL.of c6
  have S07:=S06.trans S7
  have SM:SqT K H7 pm (L3 mark):=SqT.of (S07 _ _ hpm)
  have pq:=Y6h (chosen ms x ms.length) (0,0,0) (by decide)
  have bs:=X1u oks okk hs
  have qk:=okk.q
  refine⟨_,U,pm,_,_,_,U,U,SM,U,_,U,rp,_,_,_,U,U,sp,U,_,_,U,U,_,_,U,U,Z4j,_,U,t3,λr hr7=>?_⟩
  have e7:(((mark.1:Int)-((prod (chosen ms x ms.length)).1:Nat))%4)=(((((mark.1:Int)-((prod (chosen ms x ms.length)).1:Nat))%4).toNat:Nat):Int):=by omega
  refine kq r _ (S07.trans (Z0f hr7 _)) (.inl ⟨(((mark.1:Int)-((prod (chosen ms x ms.length)).1:Nat))%4).toNat,x,a5,SS.free ha5,?_,Z0f hr7 _ _ _ (S7 _ _ (S6 _ _ c5)),by omega,?_⟩)
  ·rw[Z0d]
   show some (HO.tup [.str "made",.int (((mark.1:Int)-((prod (chosen ms x ms.length)).1:Nat))%4),.ref a5])=_
   rw[<-e7]
  ·rw[Z5q (by omega),bs]
   have pq':(prod (chosen ms x ms.length)).1<4:=pq
   refine Prod.ext ?_ rfl
   show ((((mark.1:Int)-((prod (chosen ms x ms.length)).1:Nat))%4).toNat+(prod (chosen ms x ms.length)).1)%4=mark.1
   omega
 ·have ST:SqT K H4 rt [.non,.ref q]:=SqT.of hr
  rw[Y3x] at clt
  refine⟨_,U,rt,_,_,_,U,U,ST,U,U,_,U,iteT ?_⟩
  refine⟨_,U,rt,_,_,_,U,U,ST,U,_,U,q,c,N,U,SqL.of hq,hN,clt,λra H5 S5 ha=>⟨t2,λr hr5=>?_⟩⟩
  obtain⟨b1,b2⟩:=Y5b clt hc
  refine kq r _ ((SS.trans S5).trans (Z0f hr5 _)) (.inr ⟨ra,_,Z0d,Z0f hr5 _ _ _ ha,⟨q2r _ (by decide),?_,q2r _ (q0w N)⟩,?_,b1,b2⟩)
  ·rw[q6i] at clt;exact Nat.div_lt_of_lt_mul clt
  ·show (pc (c / 2^N&&&c%2^N)%4+pc (c / 2^N&&&c%2^N))%2=0
   omega
theorem Y7z (K:U0):PySem.W.kitOne K (.type "list") (.type "list")=some true:=by unfold PySem.W.kitOne;rw[if_pos (by decide)]
theorem Y0c (K:U0):PySem.W.kitOne K (.type "tuple") (.type "tuple")=some true:=by unfold PySem.W.kitOne;rw[if_pos (by decide)]
def Z3m:Sp:=λvs H Q _=>∃ i:Int,vs=[.int i]/\Q (.bl true) H
def Z4v (K:U0):Sp:=λvs H Q _=>∃ (p p':W9) (m m':Mk),vs=[.ref p,.ref p']/\SqT K H p (L3 m)/\SqT K H p' (L3 m')/\Q (.bl (decide (comm m m'=0))) H
def Z7x:Sp:=λvs H Q _=>∃ (c:Int) (N:Nat),vs=[.int c,.int N]/\N<=6/\∀ (r:W9) (H':Hp) (m:Mk),Same H H'->H' r=some (T3 m)->Okm N m->(m.1+pc (m.2.1&&&m.2.2))%2=0->Q (.ref r) H'
theorem p15:(0:Int)<10^(15:Int).toNat:=by decide
theorem cp15:CPow 10 15:=⟨by decide,by decide,by decide⟩
theorem X9e {i:Int}(h:0<=i):∃ n:Nat,i=n:=⟨i.toNat,by omega⟩
theorem sc_lones:FnScope ["_law_number","_law_found"] ["_law_number"] (Z0h (top 87)):=fS
theorem X0m (F:FunAt K "_law_ones" (top 87) .none)(X:K.In h)(G:Ng h mg):Cal P w K mg base (k+1) "_law_ones" ["_law_number"] spOnes:=by
 have nd:=sc_lones.nd
 refine F.cal X G sc_lones (bnd1 λ_ _ _ _ _ _ _=>rfl) (λvs H Q E h=>?_) (λf cdv A outer s H vs Q E hr h=>?_)
 ·obtain⟨n,rfl,_⟩:=h;rfl
 obtain⟨n,rfl,q⟩:=h
 refine⟨_,(@Z0g _ _ _ _ _ (@Z0q _ _ 1 _ _ _ _ nd rfl (Or.inl rfl) Z0b rfl (.inl rfl))
  (@Z0g _ _ _ _ _ (Z4z PassesOwn.never (Z0p Y4g (pv 0) Z0b (nomark _))
   (@Z0g _ _ _ _ _ (@Z0q _ _ 1 _ _ _ _ nd rfl (Or.inl rfl) (Z0j Z1r (pv 1) (Z0j Z1e (pv 0) Z0b)) rfl (.inl rfl))
   (@Z0e _ _ _ (@Z0q _ _ 0 _ _ _ _ nd rfl (Or.inl rfl) (Z0j Z2r (pv 0) Z0b) rfl (.inl rfl)))))
  (@Z0e _ _ _ (Z0k (pv 1))))),?_⟩
 try dsimp only[cxK]
 refine⟨λm σ H'=>H'=H/\∃ j:Nat,j+pc m=pc n/\σ=[some (.int m),some (.int j)],⟨n,U,0,q4f _,U⟩,?_⟩
 rintro m σ H' ⟨rfl,j,hj,rfl⟩
 refine⟨_,U,_,_,U,U,_,U,decI (λhr0=>?_) (λhr0=>?_)⟩
 ·have hm:0<m:=by omega
  have e:=Z4a m
  refine⟨_,λσ' H' x=>x,?_⟩
  refine⟨_,U,_,U,_,_,U,U,Z3v,_,_,U,U,?_⟩
  refine⟨_,U,_,_,U,U,⟨by decide,by decide⟩,⟨m / 2,by omega,U,j+m%2,by omega,U⟩⟩
 ·have r0:m=0:=by omega
  subst r0
  rw[Z1x,q3g] at hj
  subst hj
  exact⟨_,U,q⟩
theorem sc_lproduct:FnScope ["_law_one","_law_other","_law_turns"] ["_law_one","_law_other"] (Z0h (top 88)):=fS
theorem Y1i (F:FunAt K "_law_product" (top 88) .none)(X:K.In h)(G:Ng h mg)(cF:Cal P w K mg base k "_law_ones" ["_law_number"] spOnes):Cal P w K mg base (k+1) "_law_product" ["_law_one","_law_other"] (Z4u K):=by
 have nd:=sc_lproduct.nd
 refine F.cal X G sc_lproduct (bnd2 λ_ _ _ _ _ _ _ _=>rfl) (λvs H Q E h=>?_) (λf cdv A outer s H vs Q E hr h=>?_)
 ·obtain⟨p,p',m,m',rfl,_⟩:=h;rfl
 obtain⟨p,p',m,m',rfl,S1,S2,kq⟩:=h
 refine⟨_,(@Z0g _ _ _ _ _ (@Z0q _ _ 2 _ _ _ _ nd rfl (Or.inl rfl) (Z0j Z1r (Z0j Z1r (Z0l Z0i (pv 0) Z0b (λ_ _=>rfl)) (Z0l Z0i (pv 1) Z0b (λ_ _=>rfl))) (Z0j Z4b Z0b (Z0m cF hr rfl (Z0a (Z0j Z0z (Z0l Z0i (pv 0) Z0b (λ_ _=>rfl)) (Z0l Z0i (pv 1) Z0b (λ_ _=>rfl))) Z0c)))) rfl (.inl rfl))
  (@Z0e _ _ _ (Z0k (@Z1a _ _ _ _ _ (Z0a (Z0j Z1e (pv 2) Z0b) (Z0a (Z0j Z2e (Z0l Z0i (pv 0) Z0b (λ_ _=>rfl)) (Z0l Z0i (pv 1) Z0b (λ_ _=>rfl))) (Z0a (Z0j Z2e (Z0l Z0i (pv 0) Z0b (λ_ _=>rfl)) (Z0l Z0i (pv 1) Z0b (λ_ _=>rfl))) Z0c))))))),?_⟩
 try dsimp only[cxK]
 refine⟨_,U,p,_,_,_,U,U,S1,U,_,U,p',_,_,_,U,U,S2,U,_,_,U,U,_,U,p,_,_,_,U,U,S1,U,_,U,p',_,_,_,U,U,S2,U,_,_,U,U,m.2.2&&&m'.2.1,Z7t _ _,_,_,U,U,.inl ⟨by decide,by decide⟩,_,_,U,U,?_⟩
 refine⟨_,U,_,_,U,U,Z4j,_,U,p,_,_,_,U,U,S1,U,_,U,p',_,_,_,U,U,S2,U,_,_,U,U,_,U,p,_,_,_,U,U,S1,U,_,U,p',_,_,_,U,U,S2,U,_,_,U,U,t3,λr hr=>?_⟩
 refine kq r _ (Z0f hr _) ?_
 rw[Z0d]
 show some (HO.tup [.int (((m.1:Int)+m'.1+2*((pc (m.2.2&&&m'.2.1):Nat):Int))%4),.int (Builtin.bitXor (m.2.1:Int) m'.2.1),.int (Builtin.bitXor (m.2.2:Int) m'.2.2)])=_
 rw[Z3u,Z3u]
 rfl
theorem sc_commute:FnScope ["_law_one","_law_other"] ["_law_one","_law_other"] (Z0h (top 89)):=fS
theorem Y4p (F:FunAt K "_law_commute" (top 89) .none)(X:K.In h)(G:Ng h mg)(cF:Cal P w K mg base k "_law_ones" ["_law_number"] spOnes):Cal P w K mg base (k+1) "_law_commute" ["_law_one","_law_other"] (Z4v K):=by
 have nd:=sc_commute.nd
 refine F.cal X G sc_commute (bnd2 λ_ _ _ _ _ _ _ _=>rfl) (λvs H Q E h=>?_) (λf cdv A outer s H vs Q E hr h=>?_)
 ·obtain⟨p,p',m,m',rfl,_⟩:=h;rfl
 obtain⟨p,p',m,m',rfl,S1,S2,q⟩:=h
 refine⟨_,(@Z0e _ _ _ (Z0k (Z1b Z1m (Z0j Z1e (Z0j Z1r (Z0m cF hr rfl (Z0a (Z0j Z0z (Z0l Z0i (pv 0) Z0b (λ_ _=>rfl)) (Z0l Z0i (pv 1) Z0b (λ_ _=>rfl))) Z0c)) (Z0m cF hr rfl (Z0a (Z0j Z0z (Z0l Z0i (pv 0) Z0b (λ_ _=>rfl)) (Z0l Z0i (pv 1) Z0b (λ_ _=>rfl))) Z0c))) Z0b) Z0b (nomark _)))),?_⟩
 try dsimp only[cxK]
 refine⟨_,U,p,_,_,_,U,U,S1,U,_,U,p',_,_,_,U,U,S2,U,_,_,U,U,m.2.1&&&m'.2.2,Z7t _ _,_,U,p,_,_,_,U,U,S1,U,_,U,p',_,_,_,U,U,S2,U,_,_,U,U,m.2.2&&&m'.2.1,Z7t _ _,_,_,U,U,_,_,U,U,Z3v,U,?_⟩
 have e:decide (V.int ((((pc (m.2.1&&&m'.2.2):Nat):Int)+((pc (m.2.2&&&m'.2.1):Nat):Int))%2)=V.int 0)=decide (comm m m'=0):=by
  rw[q5c]
  unfold comm
  constructor
  ·intro z
   have:=V.int.inj z
   omega
  ·intro z
   congr 1
   omega
 show Q (.bl (decide (V.int ((((pc (m.2.1&&&m'.2.2):Nat):Int)+((pc (m.2.2&&&m'.2.1):Nat):Int))%2)=V.int 0))) H
 rw[e]
 exact q
theorem sc_evenmark:FnScope ["_law_cell","_law_cells","_law_number","_law_f","_law_s"] ["_law_cell","_law_cells"] (Z0h (top 90)):=fS
theorem Y1j (F:FunAt K "_law_even_mark" (top 90) .none)(X:K.In h)(G:Ng h mg)(cF:Cal P w K mg base k "_law_ones" ["_law_number"] spOnes):Cal P w K mg base (k+1) "_law_even_mark" ["_law_cell","_law_cells"] Z7x:=by
 have nd:=sc_evenmark.nd
 refine F.cal X G sc_evenmark (bnd2 λ_ _ _ _ _ _ _ _=>rfl) (λvs H Q E h=>?_) (λf cdv A outer s H vs Q E hr h=>?_)
 ·obtain⟨c,N,rfl,_⟩:=h;rfl
 obtain⟨c,N,rfl,hN,kq⟩:=h
 refine⟨_,(@Z1g _ _ _ _ _ (@Z0q _ _ 2 _ _ _ _ nd rfl (Or.inl rfl) (Z0j Z1e (Z0j Z4b (pv 0) Z0b) (Z0j X2s Z0b Z0b)) rfl (.inl rfl))
  (@Z1g _ _ _ _ _ (@Z0q _ _ 3 _ _ _ _ nd rfl (Or.inl rfl) (Z0j Z1e (Z0j Z2r (pv 2) Z0b) (Z0j Z1j Z0b (pv 1))) rfl (.inl rfl))
  (@Z1g _ _ _ _ _ (@Z0q _ _ 4 _ _ _ _ nd rfl (Or.inl rfl) (Z0j Z1e (Z0j Z2r (pv 2) Z0b) (Z0j Z1j Z0b (pv 1))) rfl (.inl rfl))
  (@Z0e _ _ _ (Z0k (@Z1a _ _ _ _ _ (Z0a (Z0j Z1e (Z0j Z1r (Z0m cF hr rfl (Z0a (Z0j Z0z (pv 3) (pv 4)) Z0c)) (Z0j Z4b Z0b (Z0j Z1e (pv 2) Z0b))) Z0b) (Z0a (pv 3) (Z0a (pv 4) Z0c))))))))),?_⟩
 try dsimp only[cxK]
 refine⟨λσ H'=>H'=H/\∃ m:Nat,σ=[some (.int c),some (.int N),some (.int m),none,none],?_,?_⟩
 ·refine⟨_,U,_,_,U,U,.inr ⟨by decide,by decide⟩,_,_,U,U,cp15,_,_,U,U,p15,U,?_⟩
  obtain⟨m,hm⟩:=X9e (q5t (c*381966011250107) (q6t p15))
  refine⟨m,?_⟩
  rw[<-hm]
  rfl
 rintro σ1 H1 ⟨rfl,m,rfl⟩
 have eN:=ipow N
 have N0:(0:Int)<1*2^((N:Int)).toNat:=by rw[q8j];exact q8i (by decide)
 refine⟨λσ H'=>H'=H1/\∃ ff:Nat,ff<2^N/\σ=[some (.int c),some (.int N),some (.int m),some (.int ff),none],?_,?_⟩
 ·refine⟨_,U,_,_,U,U,⟨by decide,by decide⟩,_,U,_,_,U,U,⟨1,sz1,by omega,by omega⟩,_,_,U,U,N0,U,m / 2%2^N,q2r _ (q0w N),?_⟩
  show [_,_,_,some (V.int ((m:Int) / 2%(1*2^((N:Int)).toNat))),_]=_
  rw[eN]
  rfl
 rintro σ2 H2 ⟨rfl,ff,hff,rfl⟩
 refine⟨λσ H'=>H'=H2/\∃ ss:Nat,ss<2^N/\σ=[some (.int c),some (.int N),some (.int m),some (.int ff),some (.int ss)],?_,?_⟩
 ·refine⟨_,U,_,_,U,U,⟨by decide,by decide⟩,_,U,_,_,U,U,⟨1,sz1,by omega,by omega⟩,_,_,U,U,N0,U,m / 128%2^N,q2r _ (q0w N),?_⟩
  show [_,_,_,_,some (V.int ((m:Int) / 128%(1*2^((N:Int)).toNat)))]=_
  rw[eN]
  rfl
 rintro σ3 H3 ⟨rfl,ss,hss,rfl⟩
 refine⟨_,U,_,U,_,_,U,U,ff&&&ss,Z7t _ _,_,U,_,_,U,U,Z3v,_,_,U,U,.inl ⟨by decide,by decide⟩,_,_,U,U,_,_,U,U,Z4j,_,U,_,U,t3,λr hr=>?_⟩
 refine kq r _ ((pc (ff&&&ss)+2*(m%2))%4,ff,ss) (Z0f hr _) ?_ ⟨q2r _ (by decide),hff,hss⟩ (by show ((pc (ff&&&ss)+2*(m%2))%4+pc (ff&&&ss))%2=0;omega)
 rw[Z0d]
 rfl
end
end K76T
namespace M57
open Pc K51 M54
theorem Y0z {x y:Nat}(m:Nat)(h:∀ n,n<m->bit x n=bit y n):places x m=places y m:=by
 unfold places
 refine List.filter_congr λp hp=>?_
 have:=h p (q1c.mp hp)
 unfold bit at this
 simp only[this]
theorem Y1y (ms:List Mk){x y:Nat}(m:Nat)(h:∀ n,n<m->bit x n=bit y n):chosen ms x m=chosen ms y m:=by
 unfold chosen
 rw[Y0z m h]
theorem Y9b (x m:Nat){n:Nat}(h:n<m):bit (x%2^m) n=bit x n:=by
 have t:=Nat.testBit_mod_two_pow x m n
 rw[q2b,q2b,q0q h,q6g,q5c] at t
 have a:=Z1u (x%2^m) n
 have b:=Z1u x n
 unfold bit at *
 omega
theorem Z8g (ms:List Mk)(x m:Nat):chosen ms (x%2^m) m=chosen ms x m:=Y1y ms m λn hn=>Y9b x m hn
theorem Z2u (ms:List Mk){x i:Nat}(h:x<2^i):∀ d,chosen ms x (i+d)=chosen ms x i
 | 0=>rfl
 | d+1=>by
  rw[<-q8k,Z2l,if_neg (by rw[Z9e h (by omega)];decide),q2o]
  exact Z2u ms h d
noncomputable def E (ms:List Mk)(x:Nat):Mk:=prod (chosen ms x ms.length)
theorem Y3z (ms:List Mk):E ms 0=(0,0,0):=by
 unfold E
 have:=Z2u ms (x:=0) (i:=0) (by decide) ms.length
 rw[q4f] at this
 rw[this]
 rfl
theorem Y4a (ms:List Mk){x i:Nat}(hx:x<2^i)(hi:i<ms.length):E ms (x+2^i)=mul (E ms x) (ms.getD i (0,0,0)):=by
 obtain⟨d,hd⟩:∃ d,ms.length=i+1+d:=⟨ms.length-(i+1),by omega⟩
 have lt:x+2^i<2^(i+1):=by rw[q3n];omega
 have b1:bit (x+2^i) i=1:=by
  unfold bit
  rw[Nat.add_div_right _ (q0w i),q3t hx]
 have lo:chosen ms (x+2^i) i=chosen ms x i:=by
  rw[<-Z8g,Nat.add_mod_right,q2y hx]
 have e1:chosen ms (x+2^i) ms.length=chosen ms x i++[ms.getD i (0,0,0)]:=by
  rw[hd,Z2u ms lt d,Z2l,if_pos b1,lo]
 have e2:chosen ms x ms.length=chosen ms x i:=by
  rw[hd,q8k]
  exact Z2u ms hx _
 unfold E
 rw[e1,e2]
 unfold prod
 rw[q4w]
 rfl
theorem X7c (ms:List Mk){i:Nat}(hi:i<ms.length)(q:(ms.getD i (0,0,0)).1<4):E ms (2^i)=ms.getD i (0,0,0):=by
 have:=Y4a ms (x:=0) (q0w i) hi
 rw[q4f,Y3z] at this
 rw[this]
 revert q
 generalize ms.getD i (0,0,0)=z
 obtain⟨a,b,c⟩:=z
 intro q
 unfold mul
 simp[Z1x,q2y q]
theorem W1j {ms:List Mk}(I:Indep ms){x y:Nat}(hx:x<2^ms.length)(hy:y<2^ms.length)(h:(E ms x).2=(E ms y).2):x=y:=by
 refine Y8e I hx hy ?_ ?_
 ·have:=congrArg Prod.fst h
  unfold E at this
  rw[Z9u,Z9u] at this
  exact this
 ·have:=congrArg Prod.snd h
  unfold E at this
  rw[Z9t,Z9t] at this
  exact this
theorem fget (ms:List Mk)(j:Nat):(fOf ms).getD j 0=(ms.getD j (0,0,0)).2.1:=by
 unfold fOf
 rw[q0b,q0b,q0g]
 cases ms[j]?<;>rfl
theorem sget (ms:List Mk)(j:Nat):(sOf ms).getD j 0=(ms.getD j (0,0,0)).2.2:=by
 unfold sOf
 rw[q0b,q0b,q0g]
 cases ms[j]?<;>rfl
end M57
namespace M53
open Pc K51 M54 M57
noncomputable def cm (a b:Mk):Nat:=(pc (a.2.1&&&b.2.2)+pc (a.2.2&&&b.2.1))%2
def ev (a:Mk):Prop:=(a.1+pc (a.2.1&&&a.2.2))%2=0
theorem mul_comm {a b:Mk}(h:cm a b=0):mul a b=mul b a:=by
 unfold cm at h
 unfold mul
 refine Prod.ext ?_ (Prod.ext (q4g _ _) (q4g _ _))
 show (a.1+b.1+2*pc (a.2.2&&&b.2.1))%4=(b.1+a.1+2*pc (b.2.2&&&a.2.1))%4
 rw[q4h b.2.2 a.2.1]
 omega
theorem W0s (o a b:Mk):cm o (mul a b)=(cm o a+cm o b)%2:=by
 unfold cm mul
 show (pc (o.2.1&&&(a.2.2^^^b.2.2))+pc (o.2.2&&&(a.2.1^^^b.2.1)))%2=_
 rw[q4e,q4e]
 have h1:=pcx (o.2.1&&&a.2.2) (o.2.1&&&b.2.2)
 have h2:=pcx (o.2.2&&&a.2.1) (o.2.2&&&b.2.1)
 omega
theorem X6r (a b:Mk):cm a b=cm b a:=by
 unfold cm
 rw[q4h a.2.1,q4h a.2.2,q8a]
structure Nice (ms:List Mk):Prop where
 q:∀ m∈ms,m.1<4
 even:∀ m∈ms,ev m
 com:∀ m∈ms,∀ r∈ms,cm m r=0
structure V6 (m:Mk):Prop where
 f:m.2.1<2^6
 s:m.2.2<2^6
structure Tb (ms:List Mk):Prop where
 nice:Nice ms
 v6:∀ m∈ms,V6 m
 ind:Indep ms
theorem X3k {α:Type}{D:List α}{f z:α}{j:Nat}(h:j<D.length):(D++[f]).getD j z=D.getD j z:=by
 rw[q0b,q0b,q2v h]
theorem Y9c {α:Type}{D:List α}{f z:α}{j:Nat}(h:j=D.length):(D++[f]).getD j z=f:=by
 subst h
 rw[q0b,q2s (q0l _),q7y]
 rfl
theorem X2i {fs gs:W3}{c:Nat->Bool}:∀ m,(∀ j,j<m->fs.getD j 0=gs.getD j 0)->xs fs c m=xs gs c m:=λm h=>Z6g m λj hj=>⟨U,h j hj⟩
noncomputable def num (c:Nat->Bool):Nat->Nat
 | 0=>0
 | m+1=>num c m+(if c m then 2^m else 0)
theorem Y7o (c:Nat->Bool):∀ m,num c m<2^m
 | 0=>Nat.one_pos
 | m+1=>by
  have:=Y7o c m
  unfold num
  rw[q3n]
  split<;>omega
theorem Y7p (c:Nat->Bool):∀ m j,j<m->decide (bit (num c m) j=1)=c j
 | m+1,j,hj=>by
  have lt:=Y7o c m
  unfold num
  by_cases e:j=m
  ·subst e
   cases hc:c j
   ·simp[Z9e lt (q0l _)]
   ·simp only[q5q]
    have:bit (num c j+2^j) j=1:=by
     unfold bit
     rw[Nat.add_div_right _ (q0w j),q3t lt]
    rw[this];rfl
  ·have ih:=Y7p c m j (by omega)
   split
   ·have:bit (num c m+2^m) j=bit (num c m) j:=by
     rw[<-Y9b (num c m+2^m) m (by omega),Nat.add_mod_right,q2y lt]
    rw[this];exact ih
   ·rw[q3g];exact ih
theorem X2b (ms:List Mk)(c:Nat->Bool):(E ms (num c ms.length)).2=(xs (fOf ms) c ms.length,xs (sOf ms) c ms.length):=by
 have e:∀ fs:List Nat,Xm fs (num c ms.length) ms.length=xs fs c ms.length:=λfs=>by
  rw[xs_X]
  exact Z6g _ λj hj=>⟨Y7p c _ j hj,U⟩
 unfold E
 refine Prod.ext ?_ ?_
 ·show (prod (chosen ms (num c ms.length) ms.length)).2.1=_
  rw[Z9u];exact e _
 ·show (prod (chosen ms (num c ms.length) ms.length)).2.2=_
  rw[Z9t];exact e _
theorem Y4x {ms:List Mk}{m:Mk}(I:Indep ms)(h:∀ x,x<2^ms.length->(E ms x).2≠m.2):Indep (ms++[m]):=by
 intro c hf hs j hj
 have ll:(ms++[m]).length=ms.length+1:=by rw[q0j];rfl
 have ef:∀ k,k<ms.length->(fOf (ms++[m])).getD k 0=(fOf ms).getD k 0:=λk hk=>by rw[fget,fget,X3k hk]
 have es:∀ k,k<ms.length->(sOf (ms++[m])).getD k 0=(sOf ms).getD k 0:=λk hk=>by rw[sget,sget,X3k hk]
 have lf:(fOf (ms++[m])).getD ms.length 0=m.2.1:=by rw[fget,Y9c rfl]
 have lsn:(sOf (ms++[m])).getD ms.length 0=m.2.2:=by rw[sget,Y9c rfl]
 have xf:=X2i (fs:=fOf (ms++[m])) (gs:=fOf ms) (c:=c) ms.length ef
 have xsn:=X2i (fs:=sOf (ms++[m])) (gs:=sOf ms) (c:=c) ms.length es
 rw[ll] at hf hs hj
 unfold xs at hf hs
 rw[lf,xf] at hf
 rw[lsn,xsn] at hs
 have zx:∀ {a b:Nat},a^^^b=0->a=b:=λ{a b} z=>by
  have:=congrArg (·^^^b) z
  simpa [q1z] using this
 cases hc:c ms.length with
 | true =>
  rw[hc,if_pos rfl] at hf hs
  refine absurd ?_ (h (num c ms.length) (Y7o c _))
  rw[X2b,zx hf,zx hs]
 | false =>
  rw[hc,if_neg (by decide)] at hf hs
  by_cases e:j=ms.length
  ·rw[e];exact hc
  ·exact I c hf hs j (by omega)
end M53
namespace K76T
open L2 Pc K51 M54 M57
open M53 (V6)
section
variable {P:U8}{w:W1}{K:U0}{mg:U4}{base:Heap}{k:Nat}{h:Heap}
end
end K76T
namespace K76T
open L2 Pc K51 M54 M57
open M53 (V6 ev)
section
variable {P:U8}{w:W1}{K:U0}{mg:U4}{base:Heap}{k:Nat}{h:Heap}
theorem sc_iswhole:FnScope ["thing"] ["thing"] (Z0h (top 10)):=fS
theorem Z5t (F:FunAt K "is_whole" (top 10) .none)(X:K.In h)(G:Ng h mg)(B:Bs mg):Cal P w K mg base (k+1) "is_whole" ["thing"] Z3m:=by
 have nd:=sc_iswhole.nd
 refine F.cal X G sc_iswhole (bnd1 λ_ _ _ _ _ _ _=>rfl) (λvs H Q E h=>?_) (λf cdv A outer s H vs Q E hr h=>?_)
 ·obtain⟨i,rfl,_⟩:=h;rfl
 obtain⟨i,rfl,q⟩:=h
 refine⟨_,(@Z0e _ _ _ (Z0k (Z2o (Z0n Z0x rfl B.isinstance q1l (Z0a (pv 0) (Z0a (Z1w (v:=.ty "int") rfl B.int boot_int rfl) Z0c))) (Z2j (Z6b (Z0n Z0x rfl B.isinstance q1l (Z0a (pv 0) (Z0a (Z1w (v:=.ty "bool") rfl B.bool q8y rfl) Z0c)))))))),?_⟩
 try dsimp only[cxK]
 refine⟨_,U,_,_,_,true,U,TyOf.int i,Y3j K,_,U,iteT ?_⟩
 exact⟨_,U,_,_,_,false,U,TyOf.int i,Y3k K,_,U,q⟩
theorem sc_isword:FnScope ["thing","cells"] ["thing","cells"] (Z0h (top 14)):=fS
theorem sc_ismark:FnScope ["thing","cells"] ["thing","cells"] (Z0h (top 15)):=fS
theorem sc_iseven:FnScope ["mark"] ["mark"] (Z0h (top 16)):=fS
theorem sc_isevm:FnScope ["thing","cells"] ["thing","cells"] (Z0h (top 17)):=fS
theorem sc_pcommute:FnScope ["one","other"] ["one","other"] (Z0h (top 18)):=fS
theorem Y1g (F:FunAt K "commute" (top 18) .none)(X:K.In h)(G:Ng h mg)(cD:Cal P w K mg base k "ones" ["number"] spOnes):Cal P w K mg base (k+1) "commute" ["one","other"] (Z4v K):=by
 have nd:=sc_pcommute.nd
 refine F.cal X G sc_pcommute (bnd2 λ_ _ _ _ _ _ _ _=>rfl) (λvs H Q E h=>?_) (λf cdv A outer s H vs Q E hr h=>?_)
 ·obtain⟨p,p',m,m',rfl,_⟩:=h;rfl
 obtain⟨p,p',m,m',rfl,S1,S2,q⟩:=h
 refine⟨_,(@Z0e _ _ _ (Z0k (Z1b Z1m (Z0j Z1e (Z0j Z1r (Z0m cD hr rfl (Z0a (Z0j Z0z (Z0l Z0i (pv 0) Z0b (λ_ _=>rfl)) (Z0l Z0i (pv 1) Z0b (λ_ _=>rfl))) Z0c)) (Z0m cD hr rfl (Z0a (Z0j Z0z (Z0l Z0i (pv 0) Z0b (λ_ _=>rfl)) (Z0l Z0i (pv 1) Z0b (λ_ _=>rfl))) Z0c))) Z0b) Z0b (nomark _)))),?_⟩
 try dsimp only[cxK]
 refine⟨_,U,p,_,_,_,U,U,S1,U,_,U,p',_,_,_,U,U,S2,U,_,_,U,U,m.2.1&&&m'.2.2,Z7t _ _,_,U,p,_,_,_,U,U,S1,U,_,U,p',_,_,_,U,U,S2,U,_,_,U,U,m.2.2&&&m'.2.1,Z7t _ _,_,_,U,U,_,_,U,U,Z3v,U,?_⟩
 have e:decide (V.int ((((pc (m.2.1&&&m'.2.2):Nat):Int)+((pc (m.2.2&&&m'.2.1):Nat):Int))%2)=V.int 0)=decide (comm m m'=0):=by
  rw[q5c]
  unfold comm
  constructor
  ·intro z
   have:=V.int.inj z
   omega
  ·intro z
   congr 1
   omega
 show Q (.bl (decide (V.int ((((pc (m.2.1&&&m'.2.2):Nat):Int)+((pc (m.2.2&&&m'.2.1):Nat):Int))%2)=V.int 0))) H
 rw[e]
 exact q
theorem sc_comall:FnScope ["mark","rows"] ["mark","rows"] (Z0h (top 58)):=fS
theorem Z8n {X:Cx}{scope:Scope}{Nc:W0}{ex:U3}{pins:U1}{s:U7}{H:Hp}:SlR (cxLc X scope Nc ex pins s H) (rSlL X.K):=Z8o
theorem X3j {xs:List V}{i:Nat}(h:i<=xs.length):cutV xs none (some (i:Int))=xs.take i:=by
 unfold cutV
 have e1:HT.sIx xs.length 0 none=0:=rfl
 have e2:HT.sIx xs.length xs.length (some (i:Int))=i:=by rw[HT.Z8p];exact q6j h
 rw[e1,e2]
 rfl
theorem Mks.take {H:Hp}:∀ {ps:U3}{ms:List Mk} (i:Nat),Mks H ps ms->Mks H (ps.take i) (ms.take i)
 | [],[],_,.nil=>by rw[q7k,q7k];exact .nil
 | _::_,_::_,0,_=>.nil
 | _::_,_::_,i+1,.cons a r=>.cons a (Mks.take i r)
theorem Y0t {ms:List Mk}{x i:Nat}(hi:i<=ms.length):chosen (ms.take i) x i=chosen ms x i:=by
 unfold chosen
 refine q5f λp hp=>?_
 have:=Z3a hp
 rw[q0b,q0b,q6q,if_pos this]
theorem Z6k {ms:List Mk}(I:Indep ms){i kk x:Nat}(hi:i<ms.length)(q:(ms.getD i (0,0,0)).1<4)(k4:kk<4)(h:(chosen (ms.take i) x (ms.take i).length).foldl mul (kk,0,0)=ms.getD i (0,0,0)):False:=by
 have lt:(ms.take i).length=i:=by rw[q1q];omega
 rw[lt,Y0t (by omega),Z5q k4] at h
 have hx:=q2r x (q0w i)
 have eE:E ms (x%2^i)=prod (chosen ms x i):=by
  unfold E
  obtain⟨d,hd⟩:∃ d,ms.length=i+d:=⟨ms.length-i,by omega⟩
  rw[hd,Z2u ms hx d,Z8g]
 have e1:=X7c ms hi q
 have p2:2^i<2^ms.length:=q1p (by decide) hi
 have:=W1j I (q5l hx p2) p2 (by rw[eE,e1,<-h])
 omega
structure Tb3 (N:Nat) (H:Hp) (l:W9) (ps:U3) (ms:List Mk):Prop where
 lst:H l=some (.lst (ps.map V.ref))
 mks:Mks H ps ms
 ok:∀ m∈ms,Okm N m
 tb:M53.Tb ms
 len:ms.length<=6
theorem Tb3.same {N:Nat}{H H':Hp}{l:W9}{ps:U3}{ms:List Mk}(t:Tb3 N H l ps ms)(s:Same H H'):Tb3 N H' l ps ms:=⟨s _ _ t.lst,t.mks.same s,t.ok,t.tb,t.len⟩
def Z9l:Sp:=λvs H Q _=>∃ (l:W9) (ps:U3) (ms:List Mk) (N:Nat),vs=[.ref l,.int N]/\Tb3 N H l ps ms/\1<=N/\N<=6/\∀ H',Same H H'->Q (.bl true) H'
theorem am:¬ (V.str "apart"=V.str "made"):=λe=>absurd (V.str.inj e) (by decide +kernel)
theorem sc_istable:FnScope ["rows","cells"] ["rows","cells"] (Z0h (top 57)):=fS
end
theorem Mks.upd {H:Hp}{l:W9}{xs ys:List V}{ps:U3}{ms:List Mk}(h:Mks H ps ms)(hl:H l=some (.lst xs)):Mks (upd H l (.lst ys)) ps ms :=
 Paired.imp' (λ_ _ c=>by rw[Z0u (Z5f c hl (by intro z;cases z))];exact c) h
theorem X4u {N:Nat}{a b:Mk}(ha:Okm N a)(hb:Okm N b):Okm N (mul a b):=⟨q2r _ (by decide),q2l ha.f hb.f,q2l ha.s hb.s⟩
end K76T
namespace L2
section
variable {X:Cx}{pins:U1}{σ:St}{H:Hp}{s:U7}
end
end L2
namespace K76T
open L2 Pc K51 M54 M57
open M53 (V6 ev)
theorem Z2s {X:Cx}{st:Stmt}:PS X st (λ_ _ _=>False):=λ_ _ _ _ _ _ h=>h.elim
section
variable {P:U8}{w:W1}{K:U0}{mg:U4}{base:Heap}{k:Nat}{h:Heap}
def Z8k:Sp:=λvs H Q _=>∃ (l:W9) (ps:U3) (ms:List Mk) (N:Nat),vs=[.ref l,.int N]/\Tb3 N H l ps ms/\1<=N/\N<=6/\∀ H',Same H H'->Q .non H'
theorem sc_checkt:FnScope ["rows","cells"] ["rows","cells"] (Z0h (top 59)):=fS
theorem Y7j (F:FunAt K "check_table" (top 59) .none)(X:K.In h)(G:Ng h mg)(cP:Cal P w K mg base k "is_table" ["rows","cells"] Z9l):Cal P w K mg base (k+1) "check_table" ["rows","cells"] Z8k:=by
 have nd:=sc_checkt.nd
 refine F.cal X G sc_checkt (bnd2 λ_ _ _ _ _ _ _ _=>rfl) (λvs H Q E' h=>?_) (λf cdv A outer s H vs Q E' hr h=>?_)
 ·obtain⟨l,ps,ms,N,rfl,_⟩:=h;rfl
 obtain⟨l,ps,ms,N,rfl,T,N1,N6,kq⟩:=h
 refine⟨_,(@Z0e _ _ _ (Z0w (Z1h (Z1d (Z0m cP hr rfl (Z0a (pv 0) (Z0a (pv 1) Z0c)))))
   (@Z0e _ _ _ Z2s)
   Z0o)),?_⟩
 try dsimp only[cxK]
 exact⟨_,U,_,U,l,ps,ms,N,U,T,N1,N6,λH1 S1=>⟨_,U,iteF (kq H1 S1)⟩⟩
noncomputable def kk (m:Mk):List Key:=[Sum.inl (m.2.1:Int),Sum.inl (m.2.2:Int)]
theorem X9o {a b:Mk}(h:kk a=kk b):a.2=b.2:=by
 unfold kk at h
 injection h with h1 h2
 injection h2 with h2 _
 have h1:=Int.ofNat.inj (Sum.inl.inj h1)
 have h2:=Int.ofNat.inj (Sum.inl.inj h2)
 exact Prod.ext h1 h2
structure Full (ms:List Mk) (n:Nat) (kvs:List (List Key × V)):Prop where
 has:∀ x,x<2^n->valV kvs (kk (E ms x))=some (.bl true)
 only:∀ key v,valV kvs key=some v->∃ x,x<2^n/\key=kk (E ms x)/\v=.bl true
structure Half (ms:List Mk) (i:Nat) (kvs kvs':List (List Key × V)) (j:Nat):Prop where
 has:∀ x,x<2^i->valV kvs' (kk (E ms x))=some (.bl true)
 new:∀ j',j'<j->∀ kv,kvs[j']?=some kv->∀ x,x<2^i->kv.1=kk (E ms x)->valV kvs' (kk (E ms (x+2^i)))=some (.bl true)
 only:∀ key v,valV kvs' key=some v->∃ x,x<2^(i+1)/\key=kk (E ms x)/\v=.bl true
theorem Y4t {x i:Nat}(h:x<2^i):x<2^(i+1)/\x+2^i<2^(i+1):=by rw[q3n];omega
theorem X7u {x i n:Nat}(h:x<2^(i+1))(hi:i<n):x<2^n:=q0f h (q0v (by decide) hi)
theorem Half.start {ms:List Mk}{i:Nat}{kvs:List (List Key × V)}(F:Full ms i kvs):Half ms i kvs kvs 0 :=
 ⟨F.has,λj' h=>absurd h (q5r _),λkey v h=>let ⟨x,a,b⟩:=F.only key v h;⟨x,(Y4t a).1,b⟩⟩
theorem Half.next {ms:List Mk}{i:Nat}{kvs kvs':List (List Key × V)}{j:Nat}(I:Indep ms)(hi:i<ms.length)(h:Half ms i kvs kvs' j){kv:List Key × V}(hkv:kvs[j]?=some kv){x:Nat}(hx:x<2^i)(e:kv.1=kk (E ms x)) :
  Half ms i kvs (putK kvs' (kk (E ms (x+2^i))) (.bl true)) (j+1):=by
 have inj:∀ {y z:Nat},y<2^(i+1)->z<2^(i+1)->kk (E ms y)=kk (E ms z)->y=z:=λhy hz q=>W1j I (X7u hy hi) (X7u hz hi) (X9o q)
 refine⟨λy hy=>?_,λj' hj kv' hkv' y hy ey=>?_,λkey v hv=>?_⟩
 ·rw[Z8h,if_neg]
  ·exact h.has y hy
  ·intro q
   have:=inj (Y4t hy).1 (Y4t hx).2 q
   omega
 ·rw[Z8h]
  by_cases q:kk (E ms (y+2^i))=kk (E ms (x+2^i))
  ·rw[if_pos q]
  ·rw[if_neg q]
   by_cases ej:j'=j
   ·subst ej
    rw[hkv] at hkv'
    cases hkv'
    rw[e] at ey
    have:=inj (Y4t hx).1 (Y4t hy).1 ey
    subst this
    exact absurd rfl q
   ·exact h.new j' (by omega) kv' hkv' y hy ey
 ·rw[Z8h] at hv
  by_cases q:key=kk (E ms (x+2^i))
  ·rw[if_pos q] at hv
   exact⟨x+2^i,(Y4t hx).2,q,(Option.some.inj hv).symm⟩
  ·rw[if_neg q] at hv
   exact h.only key v hv
theorem X3p {kvs:List (List Key × V)}{k:List Key}{v:V}(h:valV kvs k=some v):∃ kv∈kvs,kv.1=k:=by
 have a:=Z3l k kvs
 rw[h,Option.isSome_some] at a
 obtain⟨kv,m,e⟩:=q3j.mp a
 exact⟨kv,m,q1t e⟩
theorem X5t {kvs:List (List Key × V)}{kv:List Key × V}(h:kv∈kvs):∃ v,valV kvs kv.1=some v:=by
 have a:=Z3l kv.1 kvs
 rw[q3j.mpr ⟨kv,h,q0q rfl⟩] at a
 exact q5k.mp a.symm
theorem Half.done {ms:List Mk}{i:Nat}{kvs kvs':List (List Key × V)}(F:Full ms i kvs)(h:Half ms i kvs kvs' kvs.length):Full ms (i+1) kvs':=by
 refine⟨λx hx=>?_,h.only⟩
 by_cases lo:x<2^i
 ·exact h.has x lo
 ·rw[q3n] at hx
  have hy:x-2^i<2^i:=by omega
  obtain⟨kv,m,e⟩:=X3p (F.has _ hy)
  obtain⟨j,hj,ej⟩:=q3k.mp m
  have:=h.new j hj kv (by rw[q0d hj,ej]) _ hy e
  rw[show x-2^i+2^i=x by omega] at this
  exact this
theorem Full.start (ms:List Mk):Full ms 0 [(kk (0,0,0),.bl true)]:=by
 refine⟨λx hx=>?_,λkey v h=>?_⟩
 ·have:x=0:=by rw[q8t] at hx;omega
  subst this
  rw[Y3z,Z1o rfl]
 ·refine⟨0,by decide,?_⟩
  by_cases e:kk (0,0,0)=key
  ·rw[Z1o e] at h
   rw[Y3z]
   exact⟨e.symm,(Option.some.inj h).symm⟩
  ·rw[Z1t e] at h
   cases h
def SB (d:W9)(H H':Hp):Prop:=∀ a o,a≠d->H a=some o->H' a=some o
theorem SB.refl (d:W9)(H:Hp):SB d H H:=λ_ _ _ h=>h
theorem Y3l {H:Hp}:∀ {bs:U3}{kvs:List (List Key × V)}{j:Nat}{b:W9},Paired (λb (kv:List Key × V)=>H b=some (.tup (kv.1.map kV))) bs kvs->bs[j]?=some b->∃ kv,kvs[j]?=some kv/\H b=some (.tup (kv.1.map kV))
 | b'::bs,kv::kvs,0,b,.cons a r,h=>by
  have:b'=b:=by simpa using h
  subst this
  exact⟨kv,U,a⟩
 | b'::bs,kv::kvs,j+1,b,.cons a r,h=>by
  obtain⟨kv',m,q⟩:=Y3l (bs:=bs) (kvs:=kvs) (j:=j) (b:=b) r (by simpa using h)
  exact⟨kv',m,q⟩
theorem Mks.sb {H H':Hp}{d:W9}{kvs:List (List Key × V)}{ps:U3}{ms:List Mk}(h:Mks H ps ms)(hd:H d=some (.dT kvs))(s:SB d H H'):Mks H' ps ms:=Paired.imp' (λ_ _ c=>s _ _ (Z5f c hd (by intro z;cases z)) c) h
theorem W1k {ms:List Mk}{m:Mk}{x:Nat}(hx:x<2^ms.length):E (ms++[m]) x=E ms x:=by
 unfold E
 rw[q0j,show [m].length=1 from rfl,Z2u (ms++[m]) hx 1]
 congr 1
 unfold chosen
 refine q5f λp hp=>?_
 have:=Z3a hp
 rw[q0b,q0b,q2v this]
theorem Full.app {ms:List Mk}{m:Mk}{kvs:List (List Key × V)}(F:Full ms ms.length kvs):Full (ms++[m]) ms.length kvs :=
 ⟨λx hx=>by rw[W1k hx];exact F.has x hx,λkey v h=>let ⟨x,a,b,c⟩:=F.only key v h;⟨x,a,by rw[W1k a];exact b,c⟩⟩
theorem X8n {N:Nat}{m:Mk}(h:Okm N m)(hN:N<=6):V6 m:=⟨q0f h.f (q0v (by decide) hN),q0f h.s (q0v (by decide) hN)⟩
theorem X6q (m:Mk):M53.cm m m=0:=by
 unfold M53.cm
 rw[q4h m.2.2 m.2.1]
 omega
theorem X3t {ms:List Mk}{m:Mk}{N:Nat}{kvs:List (List Key × V)}(T:M53.Tb ms)(hN:N<=6)(ok:Okm N m)(e:ev m)(c:∀ r∈ms,comm r m=0)(F:Full ms ms.length kvs)(no:valV kvs (kk m)=none):M53.Tb (ms++[m]):=by
 have cs:∀ r∈ms,M53.cm r m=0:=c
 refine⟨⟨λz hz=>?_,λz hz=>?_,λz hz y hy=>?_⟩,λz hz=>?_,M53.Y4x T.ind λx hx q=>?_⟩
 ·rcases q1n.mp hz with h | h
  ·exact T.nice.q z h
  ·rw[q1a.mp h];exact ok.q
 ·rcases q1n.mp hz with h | h
  ·exact T.nice.even z h
  ·rw[q1a.mp h];exact e
 ·rcases q1n.mp hz with h | h<;>rcases q1n.mp hy with h' | h'
  ·exact T.nice.com z h y h'
  ·rw[q1a.mp h'];exact cs z h
  ·rw[q1a.mp h,M53.X6r];exact cs y h'
  ·rw[q1a.mp h,q1a.mp h'];exact X6q m
 ·rcases q1n.mp hz with h | h
  ·exact T.v6 z h
  ·rw[q1a.mp h];exact X8n ok hN
 ·have:=F.has x hx
  rw[show kk (E ms x)=kk m by unfold kk;rw[q],no] at this
  cases this
def Y5o (K:U0):Sp:=λvs H Q _=>∃ (l d pm:W9) (ps:U3) (ms:List Mk) (kvs:List (List Key × V)) (m:Mk),vs=[.ref l,.ref d,.ref pm]/\SqL K H l (ps.map V.ref)/\Mks H ps ms/\H d=some (.dT kvs)/\H pm=some (T3 m) ∧
 ∀ (b:Bool) (H':Hp),Same H H'->(b=true->(∀ r∈ms,comm r m=0)/\valV kvs (kk m)=none)->Q (.bl b) H'
def Y0u (K:U0):Sp:=λvs H Q _=>∃ (la:W9) (ns:U6) (N:Nat) (mst:Int),vs=[.ref la,.int N,.int mst]/\SqL K H la (ns.map V.int)/\N<=6/\mst<=6 ∧
 ∀ (lr:W9) (H':Hp) (ps:U3) (ms:List Mk),H lr=none->Same H H'->Tb3 N H' lr ps ms->Q (.ref lr) H'
theorem sc_taken:FnScope ["_law_rows","_law_known","_law_mark","_law_row"] ["_law_rows","_law_known","_law_mark"] (Z0h (top 91)):=fS
theorem X0e (F:FunAt K "_law_fits" (top 91) .none)(X:K.In h)(G:Ng h mg)(dB:Cal P w K mg base k "_law_commute" ["_law_one","_law_other"] (Z4v K)):Cal P w K mg base (k+1) "_law_fits" ["_law_rows","_law_known","_law_mark"] (Y5o K):=by
 have nd:=sc_taken.nd
 refine F.cal X G sc_taken (bnd3 λ_ _ _ _ _ _ _ _ _=>rfl) (λvs H Q E' h=>?_) (λf cdv A outer s H vs Q E' hr h=>?_)
 ·obtain⟨l,d,pm,ps,ms,kvs,m,rfl,_⟩:=h;rfl
 obtain⟨l,d,pm,ps,ms,kvs,m,rfl,hS,hm,hd,hpm,kq⟩:=h
 have lps:=hm.length
 refine⟨_,(@Z0g _ _ _ _ _ (Z2w PassesOwn.never rfl (Z1p (pv 0)) (Z0t (i:=3) nd rfl (Or.inl rfl))
   (@Z0e _ _ _ (Z0w (Z1h (Z1d (Z0m dB hr rfl (Z0a (pv 3) (Z0a (pv 2) Z0c)))))
    (@Z0e _ _ _ (Z0k Z2k))
    Z0o)))
  (@Z0e _ _ _ (Z0k (X8h (Y6u (Y1t hr) (@Z1a _ _ _ _ _ (Z0a (Z0l Z0i (pv 2) Z0b (λ_ _=>rfl)) (Z0a (Z0l Z0i (pv 2) Z0b (λ_ _=>rfl)) Z0c))) (pv 1)))))),?_⟩
 try dsimp only[cxK]
 refine⟨_,U,l,U,⟨_,hS⟩,Z3d (K:=K) (a:=l) (xs:=ps.map V.ref) (λi σ H'=>H'=H/\(∀ r∈ms.take i,comm r m=0)/\∃ v,σ=[some (.ref l),some (.ref d),some (.ref pm),v]) ⟨U,by simp,none,U⟩ (λi σ H' _ e=>by rw[e.1];exact hS) ?_ ?_⟩
 ·rintro i x σ H1 hx ⟨rfl,ci,v,rfl⟩
  rw[q0g] at hx
  obtain⟨p',hp',rfl⟩:=q0p.mp hx
  obtain⟨m',hmi,hpm'⟩:=hm.get hp'
  refine⟨_,U,_,U,p',pm,m',m,U,SqT.of hpm',SqT.of hpm,_,U,nblI (λ_=>kq _ _ (Same.refl _) λz=>nomatch z) (λz=>⟨U,λr hr=>?_,_,U⟩)⟩
  rw[q1s,hmi,q1u] at hr
  rcases q1n.mp hr with h | h
  ·exact ci r h
  ·rw[q1a.mp h];exact q1t z
 ·rintro σ H1 ⟨rfl,ci,v,rfl⟩
  rw[q0a,lps,q2e] at ci
  have S:SqT K H1 pm (L3 m):=SqT.of hpm
  refine⟨_,U,pm,_,_,_,U,U,S,U,_,U,pm,_,_,_,U,U,S,U,t2,λkt hkt=>?_⟩
  refine⟨_,U,d,_,U,DGet.t (k:=kk m) (Z0f hkt _ _ _ hd) Z0d,kq _ _ (Z0f hkt _) λz=>⟨ci,?_⟩⟩
  cases q:valV kvs (kk m) with
  | none=>rfl
  | some v=>rw[q] at z;cases z
theorem sc_table:FnScope ["_law_drawn","_law_cells","_law_most","_law_rows","_law_known","_law_cell","_law_mark","_law_f","_law_s"] ["_law_drawn","_law_cells","_law_most"] (Z0h (top 92)):=fS
theorem X0f (F:FunAt K "_law_table" (top 92) .none)(X:K.In h)(G:Ng h mg)(B:Bs mg)(cX:Cal P w K mg base k "_law_even_mark" ["_law_cell","_law_cells"] Z7x)(dZ:Cal P w K mg base k "_law_fits" ["_law_rows","_law_known","_law_mark"] (Y5o K)) :
  Cal P w K mg base (k+1) "_law_table" ["_law_drawn","_law_cells","_law_most"] (Y0u K):=by
 have nd:=sc_table.nd
 refine F.cal X G sc_table (bnd3 λ_ _ _ _ _ _ _ _ _=>rfl) (λvs H Q E' h=>?_) (λf cdv A outer s H vs Q E' hr h=>?_)
 ·obtain⟨la,ns,N,mst,rfl,_⟩:=h;rfl
 obtain⟨la,ns,N,mst,rfl,hS,hN,hM,kq⟩:=h
 refine⟨_,(@Z0g _ _ _ _ _ (@Z0q _ _ 3 _ _ _ _ nd rfl (Or.inl rfl) (@Z3s _ _ _ _ Z0c) rfl (.inl rfl))
  (@Z0g _ _ _ _ _ (@Z0q _ _ 4 _ _ _ _ nd rfl (Or.inl rfl) (Y9z (Y1t hr) (@Z1a _ _ _ _ _ (Z0a Z0b (Z0a Z0b Z0c))) Z2k) rfl (.inl rfl))
  (@Z0g _ _ _ _ _ (Z2w PassesOwn.never rfl (Z1p (pv 0)) (Z0t (i:=5) nd rfl (Or.inl rfl))
   (@Z0g _ _ _ _ _ (@Z0q _ _ 6 _ _ _ _ nd rfl (Or.inl rfl) (Z0m cX hr rfl (Z0a (pv 5) (Z0a (pv 1) Z0c))) rfl (.inl rfl))
   (@Z0e _ _ _ (Z0w (PW.pt (Z4y (Z0p Z5b (Z0n Z0r rfl B.len q1k (Z0a (pv 3) Z0c)) (pv 2) (nomark _)) (Z3w (Z1d (Z0m dZ hr rfl (Z0a (pv 3) (Z0a (pv 4) (Z0a (pv 6) Z0c))))))))
    (@Z0g _ _ _ _ _ (Z2x (Y6q q3l q5j q5i Z4c (pv 3) (Z0a (pv 6) Z0c)))
    (@Z0e _ _ _ (Z2w PassesOwn.never rfl (Z1p (Z3z (Y5a rfl) rfl B.list q6x (Z0a (pv 4) Z0c))) (@Z9v _ _ _ _ _ _ rfl (@Z2m _ _ _ _ _ (@Z0t _ _ 7 _ nd rfl (Or.inl rfl) (by first | exact .inl rfl | exact .inr rfl)) (@Z2m _ _ _ _ _ (@Z0t _ _ 8 _ nd rfl (Or.inl rfl) (by first | exact .inl rfl | exact .inr rfl)) Z7d rfl) rfl) rfl rfl)
     (@Z0e _ _ _ (Y6g (Y1t hr) (pv 4) (@Z1a _ _ _ _ _ (Z0a (Z0j Z2e (pv 7) (Z0l Z0i (pv 6) Z0b (λ_ _=>rfl))) (Z0a (Z0j Z2e (pv 8) (Z0l Z0i (pv 6) Z0b (λ_ _=>rfl))) Z0c))) Z2k rfl)))))
    Z0o))))
  (@Z0e _ _ _ (Z0k (pv 3)))))),?_⟩
 try dsimp only[cxK]
 refine⟨s64 (by decide),λlr hlr=>?_⟩
 have s1:=Z0f hlr (.lst [])
 refine λd hd=>⟨t2,λkt hkt=>?_⟩
 have s2:=Z0f hd (.dT [])
 have hd0:H d=none:=s1.free hd
 have s3:=Z0f hkt (.tup [.int 0,.int 0])
 have ndl:lr≠d:=λz=>by rw[<-z,Z0d] at hd;cases hd
 refine⟨s3 _ _ Z0d,kt,[Sum.inl 0,Sum.inl 0],_,U,Z0d,?_⟩
 refine⟨_,U,la,U,⟨_,(Z0v ((s1.trans s2).trans s3) hd0).seq hS⟩,Z3d (K:=K) (a:=la) (xs:=ns.map V.int) (λi σ H'=>Same H H'/\∃ (ps:U3) (ms:List Mk) (kvs:List (List Key × V)) (v5 v6 v7 v8:Option V),Tb3 N H' lr ps ms/\H' d=some (.dT kvs)/\Full ms ms.length kvs/\kvs.length<=2^ms.length ∧
  σ=[some (.ref la),some (.int N),some (.int mst),some (.ref lr),some (.ref d),v5,v6,v7,v8]) ⟨Z0v ((s1.trans s2).trans s3) hd0,[],[],_,none,none,none,none,⟨?_,.nil,(by simp),⟨⟨by simp,by simp,by simp⟩,by simp,?_⟩,(by decide)⟩,Z0d,Full.start [],(by decide),U⟩ (λi σ H' _ e=>e.1.seq hS) ?_ ?_⟩
 ·rw[Z0u ndl]
  exact s3 _ _ (s2 _ _ Z0d)
 ·exact λc _ hs j hj=>absurd hj (q5r _)
 ·rintro i x σ H1 hx ⟨S1,ps,ms,kvs,v5,v6,v7,v8,T1,d1,FU,kl,rfl⟩
  rw[q0g] at hx
  obtain⟨c,hc,rfl⟩:=q0p.mp hx
  have hlen:=T1.mks.length
  have le6:=T1.len
  have lm:(ps.map V.ref).length=ms.length:=by rw[q0a,hlen]
  refine⟨_,U,_,U,c,N,U,hN,λpm H2 m S2 hpm okm evm=>?_⟩
  have stay:∀ {H':Hp},Same H2 H'->Same H H'/\∃ (ps:U3) (ms:List Mk) (kvs:List (List Key × V)) (u5 u6 u7 u8:Option V),Tb3 N H' lr ps ms/\H' d=some (.dT kvs)/\Full ms ms.length kvs/\kvs.length<=2^ms.length ∧
    [some (V.ref la),some (V.int N),some (V.int mst),some (V.ref lr),some (V.ref d),some (V.int c),some (V.ref pm),v7,v8]=[some (.ref la),some (.int N),some (.int mst),some (.ref lr),some (.ref d),u5,u6,u7,u8] :=
   λz=>⟨(S1.trans S2).trans z,ps,ms,kvs,_,_,_,_,T1.same (S2.trans z),z _ _ (S2 _ _ d1),FU,kl,U⟩
  refine⟨_,U,lr,_,U,.inl (SqL.of (S2 _ _ T1.lst)),_,U,_,_,U,U,_,U,decI (λlt=>?_) (λ_=>stay (Same.refl _))⟩
  rw[lm] at lt
  refine⟨_,U,_,U,_,U,lr,d,pm,ps,ms,kvs,m,U,SqL.of (S2 _ _ T1.lst),T1.mks.same S2,S2 _ _ d1,hpm,λb H3 S3 fits=>⟨_,U,blI (λeb=>?_) (λ_=>stay S3)⟩⟩
  obtain⟨com,no⟩:=fits eb
  have TB:=X3t T1.tb hN okm evm com FU no
  have FA:=FU.app (m:=m)
  have r3:=S3 _ _ (S2 _ _ T1.lst)
  have d3:=S3 _ _ (S2 _ _ d1)
  have p3:=S3 _ _ hpm
  have m3:=(T1.mks.same S2).same S3
  have hi:ms.length<(ms++[m]).length:=by rw[q0j];exact q3b _
  have em:(ms++[m]).getD ms.length (0,0,0)=m:=M53.Y9c rfl
  have p64:kvs.length<=32:=q1b kl (q1b (q0v (by decide) (show ms.length<=5 by omega)) (by decide))
  refine⟨_,U,.inl ⟨U,_,SqL.of r3⟩,_,U,lr,_,_,U,U,r3,(by rw[lm];exact q0f (show ms.length<64 by omega) (by decide)),?_⟩
  have d4:upd H3 lr (.lst (ps.map V.ref++[.ref pm])) d=some (.dT kvs):=by rw[Z0u (Ne.symm ndl)];exact d3
  have p4:upd H3 lr (.lst (ps.map V.ref++[.ref pm])) pm=some (T3 m):=by rw[Z0u (Z5f p3 r3 (by intro z;cases z))];exact p3
  have m4:=m3.upd (ys:=ps.map V.ref++[.ref pm]) r3
  have r4:upd H3 lr (.lst (ps.map V.ref++[.ref pm])) lr=some (.lst ((ps++[pm]).map V.ref)):=by rw[Z0d,q0i];rfl
  have S4:Same H (upd H3 lr (.lst (ps.map V.ref++[.ref pm]))):=Z0v ((S1.trans S2).trans S3) hlr
  generalize upd H3 lr (.lst (ps.map V.ref++[.ref pm]))=H4 at *
  refine⟨_,U,d,kvs,U,d4,λl2 bs hl2 hbs=>?_⟩
  have sl:=Z0f hl2 (.lst (bs.map V.ref))
  have nd2:l2≠d:=λz=>by rw[z,d4] at hl2;cases hl2
  have hbl:bs.length=kvs.length:=Paired.length hbs
  refine⟨l2,U,⟨_,SqL.of Z0d⟩,Z3d (K:=K) (a:=l2) (xs:=bs.map V.ref) (λj σ H'=>SB d (upd H4 l2 (.lst (bs.map V.ref))) H'/\∃ (kvs':List (List Key × V)) (v7 v8:Option V),H' d=some (.dT kvs')/\Half (ms++[m]) ms.length kvs kvs' j/\kvs'.length<=kvs.length+j ∧
   σ=[some (.ref la),some (.int N),some (.int mst),some (.ref lr),some (.ref d),some (.int c),some (.ref pm),v7,v8]) ⟨SB.refl _ _,kvs,_,_,sl _ _ d4,Half.start FA,by omega,U⟩ (λj σ H' _ e=>SqL.of (e.1 _ _ nd2 Z0d)) ?_ ?_⟩
  ·rintro j x σ H5 hx5 ⟨B5,kvs',w3,w4,d5,HF,kl5,rfl⟩
   rw[q0g] at hx5
   obtain⟨b',hb',rfl⟩:=q0p.mp hx5
   have jlt:j<bs.length:=(q0o.mp hb').1
   obtain⟨kv,hkv,eb⟩:=Y3l hbs hb'
   obtain⟨vv,hvv⟩:=X5t (q1g hkv)
   obtain⟨x,hx,ek,_⟩:=FA.only _ _ hvv
   have st:=Y4a (ms++[m]) hx hi
   rw[em] at st
   have nxt:=HF.next TB.ind hi hkv hx ek
   rw[ek] at eb
   rw[st] at nxt
   generalize eX:E (ms++[m]) x=mx at *
   have eb5:H5 b'=some (.tup [.int mx.2.1,.int mx.2.2]):=B5 _ _ (Z5f eb d4 (by intro z;cases z)) (sl _ _ eb)
   have pm5:H5 pm=some (T3 m):=B5 _ _ (Z5f p4 d4 (by intro z;cases z)) (sl _ _ p4)
   have SM:SqT K H5 pm (L3 m):=SqT.of pm5
   refine⟨b',_,U,SqT.of eb5,U,_,_,U,_,_,U,U,?_⟩
   refine⟨_,U,_,U,_,U,pm,_,_,_,U,U,SM,U,_,_,U,U,_,U,_,U,pm,_,_,_,U,U,SM,U,_,_,U,U,t2,λk2 hk2=>?_⟩
   have ekey:(HO.tup [.int (Builtin.bitXor (mx.2.1:Int) m.2.1),.int (Builtin.bitXor (mx.2.2:Int) m.2.2)])=.tup [.int (mul mx m).2.1,.int (mul mx m).2.2]:=by rw[Z3u,Z3u];rfl
   have sk2:=Z0f hk2 (.tup [.int (mul mx m).2.1,.int (mul mx m).2.2])
   refine⟨d,_,U,by
    have z:=DPut.t (k:=kk (mul mx m)) (v:=.bl true) (sk2 _ _ d5) Z0d (q0f (show kvs'.length<129 by omega) (by decide))
    rw[<-ekey] at z
    exact z,λa o na ha=>?_,_,_,_,Z0d,nxt,?_,U⟩
   ·rw[Z0u na]
    exact Z0f hk2 _ _ _ (B5 _ _ na ha)
   ·have:=Z4r kvs' (kk (mul mx m)) (V.bl true)
    exact q1b this (by omega)
  ·rintro σ H5 ⟨B5,kvs',w3,w4,d5,HF,kl5,rfl⟩
   rw[q0a,hbl] at kl5 HF
   have keep:∀ a o,a≠d->H4 a=some o->H5 a=some o:=λa o na ha=>B5 a o na (sl _ _ ha)
   have FD:=HF.done FA
   refine⟨λa o ha=>keep a o (Z1s ha hd0) (S4 a o ha),ps++[pm],ms++[m],kvs',_,_,_,_,⟨keep _ _ ndl r4,Mks.sb (Paired.snoc m4 p4) d4 keep,λz hz=>?_,TB,?_⟩,d5,?_,?_,U⟩
   ·rcases q1n.mp hz with q | q
    ·exact T1.ok z q
    ·rw[q1a.mp q];exact okm
   ·rw[q0j];simp;omega
   ·rw[q0j]
    exact FD
   ·rw[q0j,show ms.length+[m].length=ms.length+1 from rfl,q3n]
    omega
 ·rintro σ H1 ⟨S1,ps,ms,kvs,v5,v6,v7,v8,T1,d1,FU,kl,rfl⟩
  exact⟨_,U,kq lr H1 ps ms hlr S1 T1⟩
end
noncomputable def isI:V->Bool
 | .int _=>true
 | _=>false
structure Part (K:U0) (H:Hp) (v:V):Prop where
 ex:∃ t b1 b2,TyOf K H v t/\PySem.W.kitOne K t (.type "int")=some b1/\PySem.W.kitOne K t (.type "bool")=some b2/\(b1 && !b2)=isI v
section
variable {K:U0}{H:Hp}
theorem Part.int (i:Int):Part K H (.int i):=⟨_,true,false,.int i,Y3j K,Y3k K,U⟩
end
noncomputable def okQ:V->Bool
 | .int i=>decide (0<=i/\i<=3)
 | _=>false
noncomputable def okW (n:Nat):V->Bool
 | .int i=>decide (0<=i/\i<((2^n:Nat):Int))
 | _=>false
theorem TyOf.same {K:U0}{H H':Hp}{v:V}{t:W2}(ty:TyOf K H v t)(s:Same H H'):TyOf K H' v t:=by
 cases ty with
 | non=>exact .non
 | bl b=>exact .bl b
 | int i=>exact .int i
 | str x=>exact .str x
 | flt x=>exact .flt x
 | lst e=>exact .lst (s _ _ e)
 | frz e=>exact .frz (s _ _ e)
 | tup e=>exact .tup (s _ _ e)
 | dK e=>exact .dK (s _ _ e)
 | dT e=>exact .dT (s _ _ e)
 | ins e cl ha hn htk hm=>exact .ins (s _ _ e) cl ha hn htk hm
theorem Part.same {K:U0}{H H':Hp}{v:V}(p:Part K H v)(s:Same H H'):Part K H' v:=by
 obtain⟨t,b1,b2,ty,e1,e2,e3⟩:=p
 exact⟨t,b1,b2,TyOf.same ty s,e1,e2,e3⟩
inductive Tells (K:U0) (H:Hp) (n:Nat):V->Bool->Prop where
 | odd {v:V}{t:W2} (ty:TyOf K H v t) (e:PySem.W.kitOne K t (.type "tuple")=some false):Tells K H n v false
 | many {p:W9}{xs:List V} (e:H p=some (.tup xs)) (l:xs.length≠3):Tells K H n (.ref p) false
 | three {p:W9}{x y z:V} (e:H p=some (.tup [x,y,z])) (hx:Part K H x) (hy:Part K H y) (hz:Part K H z):Tells K H n (.ref p) (okQ x && (okW n y && okW n z))
theorem Tells.same {K:U0}{H H':Hp}{n:Nat}{v:V}{b:Bool}(t:Tells K H n v b)(s:Same H H'):Tells K H' n v b:=by
 cases t with
 | odd ty e=>exact .odd (TyOf.same ty s) e
 | many e l=>exact .many (s _ _ e) l
 | three e hx hy hz=>exact .three (s _ _ e) (hx.same s) (hy.same s) (hz.same s)
theorem Tells.mark {K:U0}{H:Hp}{n:Nat}{p:W9}{m:Mk}(e:H p=some (T3 m))(ok:Okm n m):Tells K H n (.ref p) true:=by
 have t:=Tells.three (K:=K) (n:=n) e (Part.int _) (Part.int _) (Part.int _)
 have q:=ok.q
 have f:=ok.f
 have s:=ok.s
 have e1:okQ (.int (m.1:Nat))=true:=q0q ⟨by omega,by omega⟩
 have e2:okW n (.int (m.2.1:Nat))=true:=q0q ⟨by omega,by omega⟩
 have e3:okW n (.int (m.2.2:Nat))=true:=q0q ⟨by omega,by omega⟩
 rw[e1,e2,e3] at t
 exact t
noncomputable def evB (m:Mk):Bool:=decide ((m.1+pc (m.2.1&&&m.2.2))%2=0)
theorem evB_iff {m:Mk}:evB m=true ↔ ev m:=by
 unfold evB ev
 exact decide_eq_true_iff
inductive TellE (K:U0) (H:Hp) (n:Nat):V->Bool->Prop where
 | no {v:V} (t:Tells K H n v false):TellE K H n v false
 | mark {p:W9}{m:Mk} (e:H p=some (T3 m)) (ok:Okm n m):TellE K H n (.ref p) (evB m)
theorem TellE.same {K:U0}{H H':Hp}{n:Nat}{v:V}{b:Bool}(t:TellE K H n v b)(s:Same H H'):TellE K H' n v b:=by
 cases t with
 | no t=>exact .no (t.same s)
 | mark e ok=>exact .mark (s _ _ e) ok
def Apart (ms:List Mk)(m:Mk):Prop:=∃ o:Mk,comm o m=1/\∀ r∈ms,comm o r=0
def Md (ms:List Mk)(m:Mk):Prop:=∃ kk x:Nat,kk<4/\(chosen ms x ms.length).foldl mul (kk,0,0)=m
def Tab (ms:List Mk)(b:Bool):Prop:=(b=true->(∀ m∈ms,ev m)/\(∀ m∈ms,∀ r∈ms,comm m r=0)/\∀ i m,ms[i]?=some m->Apart (ms.take i) m)/\(b=false->(∃ m∈ms,¬ ev m)∨(∃ m∈ms,∃ r∈ms,comm m r≠0)∨∃ i m,ms[i]?=some m/\Md (ms.take i) m)
def Z5n (K:U0):Sp:=λvs H Q _=>∃ v,vs=[v]/\Part K H v/\Q (.bl (isI v)) H
def Y5n (K:U0):Sp:=λvs H Q _=>∃ (v:V) (n:Nat),vs=[v,.int n]/\Part K H v/\Q (.bl (okW n v)) H
def Y5q (K:U0):Sp:=λvs H Q _=>∃ (v:V) (n:Nat) (b:Bool),vs=[v,.int n]/\Tells K H n v b/\Q (.bl b) H
def Y5t (K:U0):Sp:=λvs H Q _=>∃ (p:W9) (m:Mk),vs=[.ref p]/\SqT K H p (L3 m)/\Q (.bl (evB m)) H
def spEvMP (K:U0):Sp:=λvs H Q _=>∃ (v:V) (n:Nat) (b:Bool),vs=[v,.int n]/\TellE K H n v b/\Q (.bl b) H
def Z9n (K:U0):Sp:=λvs H Q _=>∃ (pm l:W9) (ps:U3) (ms:List Mk) (m:Mk),vs=[.ref pm,.ref l]/\H pm=some (T3 m)/\SqL K H l (ps.map V.ref)/\Mks H ps ms/\ms.length<=12/\∀ H',Same H H'->Q (.bl (ms.all λr=>decide (comm m r=0))) H'
theorem Y2a {i:Int}{n:Nat}(h:0<=i):((Builtin.Int.intBits i:Nat):Int)<=n ↔ i<((2^n:Nat):Int):=by
 unfold Builtin.Int.intBits
 by_cases h0:i=0
 ·subst h0
  have:=q0w n
  rw[show ((0:Int) == 0)=true from rfl,if_pos rfl]
  constructor<;>intro<;>omega
 ·have hb:(i == 0)=false:=by simpa using h0
  rw[hb]
  have hn:i.natAbs≠0:=by omega
  have:=q6k (k:=n) hn
  simp only[q2u,q3z]
  constructor
  ·intro z
   have:i.natAbs.log2<n:=by omega
   rw[q6k hn] at this
   omega
  ·intro z
   have:i.natAbs<2^n:=by omega
   rw[<-q6k hn] at this
   omega
theorem Z8u {K:U0}{l:W9}{g:TG}{xs:List V}{te:TE}{fr:L2.St}{H1:Hp}{acc:W9}{Q:VK}(Pv:Nat->List V->Prop)(hn:xs.length<=sizeLine)(hacc:H1 acc=none)(hl:SqL K H1 l xs)(h0:Pv 0 [])
  (hg:∀ {a:W9}{x y:V}{w1 w2:Option V}{H:Hp}{Q:L2.St->Hp->Prop},H a=some (.tup [x,y])->Q (some x::some y::fr) H->g (.ref a) (w1::w2::fr) H Q)
  (hs:∀ i x zs H (N:V->Hp->Prop),xs[i]?=some x->Same H1 H->Pv i zs->(∀ v H',Same H H'->Pv (i+1) (zs++[v])->N v H')->te (some (.int i)::some x::fr) H N)
  (hd:∀ zs H2,Same H1 H2->Pv xs.length zs->H2 acc=some (.lst zs)->Q (.ref acc) H2):LcW (Ite K l) g te (none::none::fr) H1 acc Q:=by
 refine⟨λi m zs σ2 H2=>m=xs.length-i/\i<=xs.length/\(∃ v w,σ2=v::w::fr)/\Same H1 H2/\H2 acc=some (.lst zs)/\zs.length=i/\Pv i zs,⟨xs.length,by simp,q1o _,⟨_,_,U⟩,Z0f hacc _,Z0d,U,h0⟩,?_⟩
 rintro i m zs σ2 H2 ⟨rfl,hi,⟨v,w,rfl⟩,s2,a2,zl,pv⟩
 by_cases hlt:i<xs.length
 ·have e1:xs[i]?=some xs[i]:=by simp[hlt]
  refine .inr ⟨⟨xs,_,s2.seq hl,e1⟩,λu H3 y3=>?_⟩
  obtain⟨T,x,rfl,hT,rfl,h1⟩:=y3
  have hx:=h1 xs (s2.seq hl)
  have sT:=Z0f hT (.tup [.int i,x])
  exact hg (x:=.int i) (y:=x) Z0d (hs i x zs _ _ hx (s2.trans sT) pv λv H' s' pv'=>⟨s' _ _ (sT _ _ a2),by omega,xs.length-(i+1),by omega,U,hlt,⟨_,_,U⟩,Z0v ((s2.trans sT).trans s') hacc,Z0d,by simp[zl],pv'⟩)
 ·have e:i=xs.length:=by omega
  subst e
  exact .inl ⟨⟨xs,s2.seq hl,q0l _⟩,hd zs H2 s2 pv a2⟩
theorem Y3s (o a b:Mk):comm o (mul a b)=(comm o a+comm o b)%2:=M53.W0s o a b
theorem Z7n {o:Mk}:∀ (ms:List Mk) (a:Mk),comm o a=0->(∀ m∈ms,comm o m=0)->comm o (ms.foldl mul a)=0
 | [],_,h,_=>h
 | m::ms,a,h,hm=>Z7n ms (mul a m) (by rw[Y3s,h,hm m q2m]) λn hn=>hm n (q1x _ hn)
section
variable {P:U8}{w:W1}{K:U0}{mg:U4}{base:Heap}{k:Nat}{h:Heap}
theorem Y1c (F:FunAt K "is_whole" (top 10) .none)(X:K.In h)(G:Ng h mg)(B:Bs mg):Cal P w K mg base (k+1) "is_whole" ["thing"] (Z5n K):=by
 have nd:=sc_iswhole.nd
 refine F.cal X G sc_iswhole (bnd1 λ_ _ _ _ _ _ _=>rfl) (λvs H Q E h=>?_) (λf cdv A outer s H vs Q E hr h=>?_)
 ·obtain⟨v,rfl,_⟩:=h;rfl
 obtain⟨v,rfl,⟨t,b1,b2,ty,e1,e2,e3⟩,q⟩:=h
 refine⟨_,(@Z0e _ _ _ (Z0k (Z2o (Z0n Z0x rfl B.isinstance q1l (Z0a (pv 0) (Z0a (Z1w (v:=.ty "int") rfl B.int boot_int rfl) Z0c))) (Z2j (Z6b (Z0n Z0x rfl B.isinstance q1l (Z0a (pv 0) (Z0a (Z1w (v:=.ty "bool") rfl B.bool q8y rfl) Z0c)))))))),?_⟩
 try dsimp only[cxK]
 refine⟨_,U,_,_,_,b1,U,ty,e1,_,U,blI (λz=>?_) (λz=>?_)⟩
 ·subst z
  refine⟨_,U,_,_,_,b2,U,ty,e2,_,U,?_⟩
  rw[q6g] at e3
  rw[e3]
  exact q
 ·subst z
  rw[q3y] at e3
  rw[e3]
  exact q
theorem X0b (F:FunAt K "is_word" (top 14) .none)(X:K.In h)(G:Ng h mg)(c7:Cal P w K mg base k "is_whole" ["thing"] (Z5n K)):Cal P w K mg base (k+1) "is_word" ["thing","cells"] (Y5n K):=by
 have nd:=sc_isword.nd
 refine F.cal X G sc_isword (bnd2 λ_ _ _ _ _ _ _ _=>rfl) (λvs H Q E h=>?_) (λf cdv A outer s H vs Q E hr h=>?_)
 ·obtain⟨v,n,rfl,_⟩:=h;rfl
 obtain⟨v,n,rfl,pt,q⟩:=h
 refine⟨_,(@Z0g _ _ _ _ _ (Z0w (Z1h (PW.pt (Z4y (Z1d (Z0m c7 hr rfl (Z0a (pv 0) Z0c))) (Z3w (Z1d (Z0m c7 hr rfl (Z0a (pv 1) Z0c)))))))
   (@Z0e _ _ _ (Z0k Z2k))
   Z0o)
  (@Z0e _ _ _ (Z0k (Z2o (Z1b Y6z (pv 0) Z0b (nomark _)) (Z2j (Z1b X4t (Z5a q2c q1m q1r Z2f (pv 0)) (pv 1) (nomark _))))))),?_⟩
 try dsimp only[cxK]
 refine⟨_,U,v,U,pt,_,U,blI (λz=>?_) (λz=>?_)⟩
 ·refine⟨_,U,_,U,Part.int n,_,U,iteF ?_⟩
  cases v with
  | int i =>
   refine⟨_,U,_,_,U,U,_,U,decI (λi0=>?_) (λi0=>?_)⟩
   ·refine⟨_,U,U,_,U,U,_,U,_,_,U,U,?_⟩
    have e:decide (((Builtin.Int.intBits i:Nat):Int)<=n)=okW n (.int i):=by
     show _=decide _
     rw[q5c,Y2a i0]
     exact⟨λz=>⟨i0,z⟩,λz=>z.2⟩
    show Q (.bl (decide (((Builtin.Int.intBits i:Nat):Int)<=n))) H
    rw[e]
    exact q
   ·have e:okW n (.int i)=false:=q0k λz=>i0 z.1
    rw[e] at q
    exact q
  | _=>cases z
 ·have e:okW n v=false:=by cases v<;>first | rfl | cases z
  rw[e] at q
  exact iteT q
theorem Y4i (F:FunAt K "is_mark" (top 15) .none)(X:K.In h)(G:Ng h mg)(B:Bs mg)(c7:Cal P w K mg base k "is_whole" ["thing"] (Z5n K))(cO:Cal P w K mg base k "is_word" ["thing","cells"] (Y5n K)):Cal P w K mg base (k+1) "is_mark" ["thing","cells"] (Y5q K):=by
 have nd:=sc_ismark.nd
 refine F.cal X G sc_ismark (bnd2 λ_ _ _ _ _ _ _ _=>rfl) (λvs H Q E h=>?_) (λf cdv A outer s H vs Q E hr h=>?_)
 ·obtain⟨v,n,b,rfl,_⟩:=h;rfl
 obtain⟨v,n,b,rfl,tl,q⟩:=h
 refine⟨_,(@Z0g _ _ _ _ _ (Z0w (PW.pt (Z3n (Z1h (Z1d (Z0n Z0x rfl B.isinstance q1l (Z0a (pv 0) (Z0a (Z1w (v:=.ty "tuple") rfl B.tuple q8n rfl) Z0c))))) (Z3r (Z0p Z5r (Z0n Z0r rfl B.len q1k (Z0a (pv 0) Z0c)) Z0b (nomark _)))))
   (@Z0e _ _ _ (Z0k Z2k))
   Z0o)
  (@Z0g _ _ _ _ _ (Z0w (PW.pt (Z3n (Z1h (Z1d (Z0m c7 hr rfl (Z0a (Z0l Z0i (pv 0) Z0b (λ_ _=>rfl)) Z0c)))) (Z3n (Z0p Z5b (Z0l Z0i (pv 0) Z0b (λ_ _=>rfl)) Z0b (nomark _)) (Z3r (Z0p Y4g (Z0l Z0i (pv 0) Z0b (λ_ _=>rfl)) Z0b (nomark _))))))
   (@Z0e _ _ _ (Z0k Z2k))
   Z0o)
  (@Z0e _ _ _ (Z0k (Z2o (Z0m cO hr rfl (Z0a (Z0l Z0i (pv 0) Z0b (λ_ _=>rfl)) (Z0a (pv 1) Z0c))) (Z2j (Z0m cO hr rfl (Z0a (Z0l Z0i (pv 0) Z0b (λ_ _=>rfl)) (Z0a (pv 1) Z0c))))))))),?_⟩
 try dsimp only[cxK]
 cases tl with
 | odd ty e=>exact⟨_,rfl,_,_,_,false,rfl,ty,e,_,rfl,iteT q⟩
 | @many p xs e l=>exact⟨_,rfl,_,_,_,true,rfl,TyOf.tup e,Y0c K,_,rfl,iteF ⟨_,rfl,p,_,rfl,.inr (SqT.of e),rfl,_,rfl,neI (λ_=>q) (λz=>absurd z (by omega))⟩⟩
 | @three p x y z e hx hy hz =>
  have S:SqT K H p [x,y,z]:=SqT.of e
  refine⟨_,U,_,_,_,true,U,TyOf.tup e,Y0c K,_,U,iteF ⟨_,U,p,_,U,.inr S,U,_,U,neI (λz=>absurd rfl z) (λ_=>?_)⟩⟩
  refine⟨_,U,p,_,_,_,U,U,S,U,x,U,hx,_,U,nblI (λc=>?_) (λc=>?_)⟩
  ·have e:okQ x=false:=by cases x<;>first | rfl | cases c
   rw[e,q3y] at q
   exact q
  cases x with
  | int i =>
   refine⟨_,U,p,_,_,_,U,U,S,U,_,_,U,U,_,U,decI (λi0=>?_) (λi0=>?_)⟩
   ·have e:okQ (.int i)=false:=q0k λz=>by omega
    rw[e,q3y] at q
    exact q
   refine⟨_,U,p,_,_,_,U,U,S,U,_,_,U,U,_,U,decI (λi3=>?_) (λi3=>?_)⟩
   ·have e:okQ (.int i)=false:=q0k λz=>by omega
    rw[e,q3y] at q
    exact q
   have e:okQ (.int i)=true:=q0q ⟨by omega,by omega⟩
   rw[e,q6g] at q
   refine⟨_,U,p,_,_,_,U,U,S,U,_,U,y,n,U,hy,_,U,blI (λc=>?_) (λc=>?_)⟩
   ·rw[c,q6g] at q
    exact⟨_,U,p,_,_,_,U,U,S,U,_,U,z,n,U,hz,q⟩
   ·rw[c,q3y] at q
    exact q
  | _=>cases c
theorem Y4j (F:FunAt K "is_even" (top 16) .none)(X:K.In h)(G:Ng h mg)(cD:Cal P w K mg base k "ones" ["number"] spOnes):Cal P w K mg base (k+1) "is_even" ["mark"] (Y5t K):=by
 have nd:=sc_iseven.nd
 refine F.cal X G sc_iseven (bnd1 λ_ _ _ _ _ _ _=>rfl) (λvs H Q E' h=>?_) (λf cdv A outer s H vs Q E' hr h=>?_)
 ·obtain⟨p,m,rfl,_⟩:=h;rfl
 obtain⟨p,m,rfl,SP,q⟩:=h
 refine⟨_,(@Z0e _ _ _ (Z0k (Z1b Z1m (Z0j Z1e (Z0j Z1r (Z0l Z0i (pv 0) Z0b (λ_ _=>rfl)) (Z0m cD hr rfl (Z0a (Z0j Z0z (Z0l Z0i (pv 0) Z0b (λ_ _=>rfl)) (Z0l Z0i (pv 0) Z0b (λ_ _=>rfl))) Z0c))) Z0b) Z0b (nomark _)))),?_⟩
 try dsimp only[cxK]
 refine⟨_,U,p,_,_,_,U,U,SP,U,_,U,p,_,_,_,U,U,SP,U,_,U,p,_,_,_,U,U,SP,U,_,_,U,U,m.2.1&&&m.2.2,Z7t _ _,_,_,U,U,_,_,U,U,Z3v,U,?_⟩
 show Q (.bl (decide (V.int (((m.1:Int)+((pc (m.2.1&&&m.2.2):Nat):Int))%2)=V.int 0))) H
 have e:decide (V.int (((m.1:Int)+((pc (m.2.1&&&m.2.2):Nat):Int))%2)=V.int 0)=evB m:=by
  unfold evB
  rw[q5c]
  constructor
  ·intro z
   have:=V.int.inj z
   omega
  ·intro z
   congr 1
   omega
 rw[e]
 exact q
theorem Y7a (F:FunAt K "is_even_mark" (top 17) .none)(X:K.In h)(G:Ng h mg)(eP:Cal P w K mg base k "is_mark" ["thing","cells"] (Y5q K))(eO:Cal P w K mg base k "is_even" ["mark"] (Y5t K)):Cal P w K mg base (k+1) "is_even_mark" ["thing","cells"] (spEvMP K):=by
 have nd:=sc_isevm.nd
 refine F.cal X G sc_isevm (bnd2 λ_ _ _ _ _ _ _ _=>rfl) (λvs H Q E' h=>?_) (λf cdv A outer s H vs Q E' hr h=>?_)
 ·obtain⟨v,n,b,rfl,_⟩:=h;rfl
 obtain⟨v,n,b,rfl,t,q⟩:=h
 refine⟨_,(@Z0e _ _ _ (Z0k (Z2o (Z0m eP hr rfl (Z0a (pv 0) (Z0a (pv 1) Z0c))) (Z2j (Z0m eO hr rfl (Z0a (pv 0) Z0c)))))),?_⟩
 try dsimp only[cxK]
 cases t with
 | no t=>exact⟨_,rfl,_,rfl,v,n,false,rfl,t,_,rfl,iteF q⟩
 | @mark p m e ok=>exact⟨_,rfl,_,rfl,_,n,true,rfl,Tells.mark e ok,_,rfl,iteT ⟨_,rfl,p,m,rfl,SqT.of e,q⟩⟩
theorem Y4k (F:FunAt K "commutes_with_all" (top 58) .none)(X:K.In h)(G:Ng h mg)(B:Bs mg)(eM:Cal P w K mg base k "commute" ["one","other"] (Z4v K)):Cal P w K mg base (k+1) "commutes_with_all" ["mark","rows"] (Z9n K):=by
 have nd:=sc_comall.nd
 refine F.cal X G sc_comall (bnd2 λ_ _ _ _ _ _ _ _=>rfl) (λvs H Q E' h=>?_) (λf cdv A outer s H vs Q E' hr h=>?_)
 ·obtain⟨pm,l,ps,ms,m,rfl,_⟩:=h;rfl
 obtain⟨pm,l,ps,ms,m,rfl,hpm,hS,hm,l12,kq⟩:=h
 have lps:(ps.map V.ref).length=ms.length:=by rw[q0a,hm.length]
 refine⟨_,(@Z0e _ _ _ (Z0k (Z0n (Z2h rfl) rfl B.all q6o (Z0a (Z3e rfl (LcOk.of (Nc:=["row","mark"]) (mp:=[none,some 0]) (by kernel_rfl)) (Z1p (pv 1)) (λ_ _ _ _=>(Z0t (i:=0) (show (["row","mark"]:W0).Nodup by decide +kernel) rfl (Or.inl rfl))) (λ_ _ _ _=>(Z0m eM hr rfl (Z0a (pv 1) (Z0a (pv 0) Z0c))))) Z0c)))),?_⟩
 try dsimp only[cxK]
 refine⟨_,U,l,U,⟨_,hS⟩,λacc hacc=>?_⟩
 refine Z7g (K:=K) (a:=l) (xs:=ps.map V.ref) (fr:=[some (.ref pm)]) (λi ys H'=>Same H H'/\H' acc=some (.lst ys)/\ys=((ms.take i).map λr=>decide (comm m r=0)).map V.bl) (by rw[lps];exact s64 (by omega)) ⟨Z0f hacc _,Z0d,U⟩ (λi ys H' e=>e.1.seq hS) ?_ ?_
 ·rintro i x ys HA NN hx hl ⟨SA,cA,rfl⟩ kN
  rw[q0g] at hx
  obtain⟨p,hp,rfl⟩:=q0p.mp hx
  obtain⟨r,hri,p0⟩:=hm.get hp
  refine⟨_,U,_,U,pm,p,m,r,U,SqT.of (SA _ _ hpm),SqT.of (SA _ _ p0),?_⟩
  refine kN _ _ cA ⟨Z0v SA hacc,Z0d,?_⟩
  rw[q1s,hri,q1u,q0i,q0i]
  rfl
 rintro ys HB hlB ⟨SB',cB,rfl⟩
 rw[lps,q2e] at cB
 refine⟨acc,_,U,SqL.of cB,?_⟩
 have e:(ms.map λr=>decide (comm m r=0)).all id=ms.all λr=>decide (comm m r=0):=by rw[q6r];rfl
 rw[e]
 exact kq HB SB'
theorem pget {α β:Type}{F:α->β->Prop}:∀ {l:List α}{r:List β}{i:Nat}{x:α},Paired F l r->l[i]?=some x->∃ y,r[i]?=some y/\F x y
 | _,_,i,_,.nil,h=>by simp at h
 | _::_,b::_,0,x,.cons e r,h=>by
  simp at h
  subst h
  exact⟨b,U,e⟩
 | _::_,_::_,i+1,x,.cons e r,h=>by
  obtain⟨y,h1,h2⟩:=pget (i:=i) r (by simpa using h)
  exact⟨y,by simpa using h1,h2⟩
theorem plen {α β:Type}{F:α->β->Prop}:∀ {l:List α}{r:List β},Paired F l r->l.length=r.length
 | _,_,.nil=>rfl
 | _,_,.cons e r=>by rw[q2i,q2i,plen r]
def spIsT (K:U0):Sp:=λvs H Q _=>∃ (v:V) (N:Nat),vs=[v,.int N]/\1<=N/\N<=6/\((∃ t,TyOf K H v t/\PySem.W.kitOne K t (.type "list")=some false/\Q (.bl false) H)∨(∃ (l:W9) (xs:List V) (bs:List Bool),v=.ref l/\H l=some (.lst xs)/\xs.length<=13/\Paired (TellE K H N) xs bs/\bs.all id=false/\∀ H',Same H H'->Q (.bl false) H') ∨
 ∃ (l:W9) (ps:U3) (ms:List Mk),v=.ref l/\H l=some (.lst (ps.map V.ref))/\Mks H ps ms/\ms.length<=12/\(∀ m∈ms,Okm N m)/\∀ b H',Same H H'->Tab ms b->Q (.bl b) H')
theorem Y1d (F:FunAt K "is_table" (top 57) .none)(X:K.In h)(G:Ng h mg)(B:Bs mg)(c7:Cal P w K mg base k "is_whole" ["thing"] Z3m)(cJ:Cal P w K mg base k "is_even_mark" ["thing","cells"] (spEvMP K))
  (cG:Cal P w K mg base k "commutes_with_all" ["mark","rows"] (Z9n K)) (cR:Cal P w K mg base k "made_of" ["rows","mark","cells"] (Y2s K)):Cal P w K mg base (k+1) "is_table" ["rows","cells"] (spIsT K):=by
 have nd:=sc_istable.nd
 refine F.cal X G sc_istable (bnd2 λ_ _ _ _ _ _ _ _=>rfl) (λvs H Q E' h=>?_) (λf cdv A outer s H vs Q E' hr h=>?_)
 ·obtain⟨v,N,rfl,_⟩:=h;rfl
 obtain⟨v,N,rfl,N1,N6,⟨t,ty,e,q⟩ | ⟨l,xs,bs,rfl,hl,l13,pr,no,q⟩ | ⟨l,ps,ms,rfl,hl,hm,l12,ok,q⟩⟩:=h
 ·refine⟨_,(@Z0g _ _ _ _ _ (Z0w (PW.pt (Z3n (Z1h (Z1d (Z0n Z0x rfl B.isinstance q1l (Z0a (pv 0) (Z0a (Z1w (v:=.ty "list") rfl B.list q6x rfl) Z0c))))) (Z3n (Z1h (Z1d (Z0m c7 hr rfl (Z0a (pv 1) Z0c)))) (Z3r (Z0p Z5b (pv 1) Z0b (nomark _))))))
   (@Z0e _ _ _ (Z0k Z2k))
   Z0o)
  (@Z0g _ _ _ _ _ (Z0w (Z1h (Z1d (Z0n (Z2h rfl) rfl B.all q6o (Z0a (Z3e rfl (LcOk.of (Nc:=["row","cells"]) (mp:=[none,some 1]) (by kernel_rfl)) (Z1p (pv 0)) (λ_ _ _ _=>(Z0t (i:=0) (show (["row","cells"]:W0).Nodup by decide +kernel) rfl (Or.inl rfl))) (λ_ _ _ _=>(Z0m cJ hr rfl (Z0a (pv 0) (Z0a (pv 1) Z0c))))) Z0c))))
   (@Z0e _ _ _ (Z0k Z2k))
   Z0o)
  (@Z0g _ _ _ _ _ (Z0w (Z1h (Z1d (Z0n (Z2h rfl) rfl B.all q6o (Z0a (Z3e rfl (LcOk.of (Nc:=["row","rows"]) (mp:=[none,some 0]) (by kernel_rfl)) (Z1p (pv 0)) (λ_ _ _ _=>(Z0t (i:=0) (show (["row","rows"]:W0).Nodup by decide +kernel) rfl (Or.inl rfl))) (λ_ _ _ _=>(Z0m cG hr rfl (Z0a (pv 0) (Z0a (pv 1) Z0c))))) Z0c))))
   (@Z0e _ _ _ (Z0k Z2k))
   Z0o)
  (@Z0e _ _ _ (Z0k (Z6b (Z0n (Z5k rfl) rfl B.any boot_any (Z0a (Z3e rfl (LcOk.of (Nc:=["place","row","rows","cells"]) (mp:=[none,none,some 0,some 1]) (by kernel_rfl)) (Z3y rfl B.enumerate (Z0a (pv 0) Z0c)) (λ_ _ _ _=>(Z4h rfl (show (["place","row","rows","cells"]:W0).Nodup by decide +kernel) rfl rfl rfl rfl)) (λ_ _ _ _=>(Z1b Z1m (Z0l Z4e (Z0m cR hr rfl (Z0a (Z1y Z8n (pv 2) Z2y (Z2a (pv 0))) (Z0a (pv 1) (Z0a (pv 3) Z0c)))) Z0b (λ_ _=>rfl)) Z0y (nomark _)))) Z0c)))))))),?_⟩
  exact⟨_,U,_,_,_,false,U,ty,e,_,U,iteT q⟩
 ·refine⟨_,(@Z0g _ _ _ _ _ (Z0w (PW.pt (Z3n (Z1h (Z1d (Z0n Z0x rfl B.isinstance q1l (Z0a (pv 0) (Z0a (Z1w (v:=.ty "list") rfl B.list q6x rfl) Z0c))))) (Z3n (Z1h (Z1d (Z0m c7 hr rfl (Z0a (pv 1) Z0c)))) (Z3r (Z0p Z5b (pv 1) Z0b (nomark _))))))
   (@Z0e _ _ _ (Z0k Z2k))
   Z0o)
  (@Z0g _ _ _ _ _ (Z0w (Z1h (Z1d (Z0n (Z2h rfl) rfl B.all q6o (Z0a (Z3e rfl (LcOk.of (Nc:=["row","cells"]) (mp:=[none,some 1]) (by kernel_rfl)) (Z1p (pv 0)) (λ_ _ _ _=>(Z0t (i:=0) (show (["row","cells"]:W0).Nodup by decide +kernel) rfl (Or.inl rfl))) (λ_ _ _ _=>(Z0m cJ hr rfl (Z0a (pv 0) (Z0a (pv 1) Z0c))))) Z0c))))
   (@Z0e _ _ _ (Z0k Z2k))
   Z0o)
  (@Z0g _ _ _ _ _ (Z0w (Z1h (Z1d (Z0n (Z2h rfl) rfl B.all q6o (Z0a (Z3e rfl (LcOk.of (Nc:=["row","rows"]) (mp:=[none,some 0]) (by kernel_rfl)) (Z1p (pv 0)) (λ_ _ _ _=>(Z0t (i:=0) (show (["row","rows"]:W0).Nodup by decide +kernel) rfl (Or.inl rfl))) (λ_ _ _ _=>(Z0m cG hr rfl (Z0a (pv 0) (Z0a (pv 1) Z0c))))) Z0c))))
   (@Z0e _ _ _ (Z0k Z2k))
   Z0o)
  (@Z0e _ _ _ (Z0k (Z6b (Z0n (Z5k rfl) rfl B.any boot_any (Z0a (Z3e rfl (LcOk.of (Nc:=["place","row","rows","cells"]) (mp:=[none,none,some 0,some 1]) (by kernel_rfl)) (Z3y rfl B.enumerate (Z0a (pv 0) Z0c)) (λ_ _ _ _=>(Z4h rfl (show (["place","row","rows","cells"]:W0).Nodup by decide +kernel) rfl rfl rfl rfl)) (λ_ _ _ _=>(Z1b Z1m (Z0l Z4e (Z0m cR hr rfl (Z0a (Z1y Z8n (pv 2) Z2y (Z2a (pv 0))) (Z0a (pv 1) (Z0a (pv 3) Z0c)))) Z0b (λ_ _=>rfl)) Z0y (nomark _)))) Z0c)))))))),?_⟩
  have hS:SqL K H l xs:=SqL.of hl
  have lx:=plen pr
  refine⟨_,U,_,_,_,true,U,TyOf.lst hl,Y7z K,_,U,iteF ⟨_,U,_,U,_,U,iteF ⟨_,U,_,_,U,U,_,U,decI (λz=>absurd z (by omega)) (λ_=>?_)⟩⟩⟩
  refine⟨_,U,l,U,⟨_,hS⟩,λacc hacc=>?_⟩
  refine Z7g (K:=K) (a:=l) (xs:=xs) (fr:=[some (.int N)]) (λi ys H'=>Same H H'/\H' acc=some (.lst ys)/\ys=(bs.take i).map V.bl) (s64 (by omega)) ⟨Z0f hacc _,Z0d,U⟩ (λi ys H' e=>e.1.seq hS) ?_ ?_
  ·rintro i x ys HA NN hx hly ⟨SA,cA,rfl⟩ kN
   obtain⟨b,hb,tb⟩:=pget pr hx
   refine⟨_,U,_,U,x,N,b,U,tb.same SA,?_⟩
   refine kN _ _ cA ⟨Z0v SA hacc,Z0d,?_⟩
   rw[q1s,hb,q1u,q0i]
   rfl
  rintro ys H1 hl1 ⟨S1,c1,rfl⟩
  rw[lx,q2e] at c1
  refine⟨acc,_,U,SqL.of c1,_,U,?_⟩
  rw[no]
  exact iteT (q H1 S1)
 ·refine⟨_,(@Z0g _ _ _ _ _ (Z0w (PW.pt (Z3n (Z1h (Z1d (Z0n Z0x rfl B.isinstance q1l (Z0a (pv 0) (Z0a (Z1w (v:=.ty "list") rfl B.list q6x rfl) Z0c))))) (Z3n (Z1h (Z1d (Z0m c7 hr rfl (Z0a (pv 1) Z0c)))) (Z3r (Z0p Z5b (pv 1) Z0b (nomark _))))))
   (@Z0e _ _ _ (Z0k Z2k))
   Z0o)
  (@Z0g _ _ _ _ _ (Z0w (Z1h (Z1d (Z0n (Z2h rfl) rfl B.all q6o (Z0a (Z3e rfl (LcOk.of (Nc:=["row","cells"]) (mp:=[none,some 1]) (by kernel_rfl)) (Z1p (pv 0)) (λ_ _ _ _=>(Z0t (i:=0) (show (["row","cells"]:W0).Nodup by decide +kernel) rfl (Or.inl rfl))) (λ_ _ _ _=>(Z0m cJ hr rfl (Z0a (pv 0) (Z0a (pv 1) Z0c))))) Z0c))))
   (@Z0e _ _ _ (Z0k Z2k))
   Z0o)
  (@Z0g _ _ _ _ _ (Z0w (Z1h (Z1d (Z0n (Z2h rfl) rfl B.all q6o (Z0a (Z3e rfl (LcOk.of (Nc:=["row","rows"]) (mp:=[none,some 0]) (by kernel_rfl)) (Z1p (pv 0)) (λ_ _ _ _=>(Z0t (i:=0) (show (["row","rows"]:W0).Nodup by decide +kernel) rfl (Or.inl rfl))) (λ_ _ _ _=>(Z0m cG hr rfl (Z0a (pv 0) (Z0a (pv 1) Z0c))))) Z0c))))
   (@Z0e _ _ _ (Z0k Z2k))
   Z0o)
  (@Z0e _ _ _ (Z0k (Z6b (Z0n (Z5k rfl) rfl B.any boot_any (Z0a (Z3e rfl (LcOk.of (Nc:=["place","row","rows","cells"]) (mp:=[none,none,some 0,some 1]) (by kernel_rfl)) (Z3y rfl B.enumerate (Z0a (pv 0) Z0c)) (λ_ _ _ _=>(Z4h rfl (show (["place","row","rows","cells"]:W0).Nodup by decide +kernel) rfl rfl rfl rfl)) (λ_ _ _ _=>(Z1b Z1m (Z0l Z4e (Z0m cR hr rfl (Z0a (Z1y Z8n (pv 2) Z2y (Z2a (pv 0))) (Z0a (pv 1) (Z0a (pv 3) Z0c)))) Z0b (λ_ _=>rfl)) Z0y (nomark _)))) Z0c)))))))),?_⟩
  have hS:SqL K H l (ps.map V.ref):=SqL.of hl
  have lps:(ps.map V.ref).length=ms.length:=by rw[q0a,hm.length]
  refine⟨_,U,_,_,_,true,U,TyOf.lst hl,Y7z K,_,U,iteF ⟨_,U,_,U,_,U,iteF ⟨_,U,_,_,U,U,_,U,decI (λz=>absurd z (by omega)) (λ_=>?_)⟩⟩⟩
  refine⟨_,U,l,U,⟨_,hS⟩,λacc hacc=>?_⟩
  refine Z7g (K:=K) (a:=l) (xs:=ps.map V.ref) (fr:=[some (.int N)]) (λi ys H'=>Same H H'/\H' acc=some (.lst ys)/\ys=((ms.take i).map evB).map V.bl) (by rw[lps];exact s64 (by omega)) ⟨Z0f hacc _,Z0d,U⟩ (λi ys H' e=>e.1.seq hS) ?_ ?_
  ·rintro i x ys HA NN hx hly ⟨SA,cA,rfl⟩ kN
   rw[q0g] at hx
   obtain⟨p,hp,rfl⟩:=q0p.mp hx
   obtain⟨r,hri,p0⟩:=hm.get hp
   refine⟨_,U,_,U,_,N,_,U,TellE.mark (SA _ _ p0) (ok r (q1g hri)),?_⟩
   refine kN _ _ cA ⟨Z0v SA hacc,Z0d,?_⟩
   rw[q1s,hri,q1u,q0i,q0i]
   rfl
  rintro ys H1 hl1 ⟨S1,c1,rfl⟩
  rw[lps,q2e] at c1
  refine⟨acc,_,U,SqL.of c1,_,U,nblI (λz=>?_) (λz=>?_)⟩
  ·refine q false H1 S1 ⟨(λz=>nomatch z),λ_=>.inl ?_⟩
   rw[q6r] at z
   refine Classical.byContradiction λhno=>?_
   have:ms.all (id ∘ evB)=true:=q1e.mpr λm hmm=>evB_iff.mpr (Classical.byContradiction λhe=>hno ⟨m,hmm,he⟩)
   rw[this] at z
   cases z
  have hev:∀ m∈ms,ev m:=λm hmm=>by
   rw[q6r] at z
   exact evB_iff.mp (q1e.mp z m hmm)
  refine⟨_,U,l,U,⟨_,S1.seq hS⟩,λacc2 hacc2=>?_⟩
  refine Z7g (K:=K) (a:=l) (xs:=ps.map V.ref) (fr:=[some (.ref l)]) (λi ys H'=>Same H1 H'/\H' acc2=some (.lst ys)/\ys=((ms.take i).map λm=>ms.all λr=>decide (comm m r=0)).map V.bl) (by rw[lps];exact s64 (by omega)) ⟨Z0f hacc2 _,Z0d,U⟩ (λi ys H' e=>(S1.trans e.1).seq hS) ?_ ?_
  ·rintro i x ys HA NN hx hly ⟨SA,cA,rfl⟩ kN
   rw[q0g] at hx
   obtain⟨p,hp,rfl⟩:=q0p.mp hx
   obtain⟨r,hri,p0⟩:=hm.get hp
   have SS:=S1.trans SA
   refine⟨_,U,_,U,p,l,ps,ms,r,U,SS _ _ p0,SS.seq hS,hm.same SS,l12,λHB SB=>?_⟩
   refine kN _ _ (SB _ _ cA) ⟨Z0v (SA.trans SB) hacc2,Z0d,?_⟩
   rw[q1s,hri,q1u,q0i,q0i]
   rfl
  rintro ys H2 hl2 ⟨S2,c2,rfl⟩
  rw[lps,q2e] at c2
  have S02:=S1.trans S2
  refine⟨acc2,_,U,SqL.of c2,_,U,nblI (λz=>?_) (λz=>?_)⟩
  ·refine q false H2 S02 ⟨(λz=>nomatch z),λ_=>.inr (.inl ?_)⟩
   rw[q6r] at z
   refine Classical.byContradiction λhno=>?_
   have:ms.all (id ∘ λm=>ms.all λr=>decide (comm m r=0))=true:=q1e.mpr λm hmm=>q1e.mpr λr hr=>q0q (Classical.byContradiction λhe=>hno ⟨m,hmm,r,hr,he⟩)
   rw[this] at z
   cases z
  have hcm:∀ m∈ms,∀ r∈ms,comm m r=0:=λm hmm r hr=>by
   rw[q6r] at z
   exact q1t (q1e.mp (q1e.mp z m hmm) r hr)
  refine⟨_,U,l,_,U,S02.seq hS,λacc3 hacc3=>?_⟩
  refine Z8u (l:=l) (xs:=ps.map V.ref) (fr:=[some (.ref l),some (.int N)]) (λi zs=>∃ bs:List Bool,zs=bs.map V.bl/\bs.length=i/\∀ (j:Nat) (b:Bool) (m:Mk),bs[j]?=some b->ms[j]?=some m->(b=true->Md (ms.take j) m)/\(b=false->Apart (ms.take j) m)) (by rw[lps];exact s64 (by omega)) hacc3 (S02.seq hS) ⟨[],U,U,λj b m hb=>by simp at hb⟩ (λh q=>⟨_,_,U,SqT.of h,U,_,_,U,_,_,U,U,q⟩) ?_ ?_
  ·rintro i x zs H3 NN hx S3 ⟨bs,rfl,bl,hbs⟩ kN
   have ilt:i<(ps.map V.ref).length:=(q0o.mp hx).1
   rw[q0g] at hx
   obtain⟨p,hp,rfl⟩:=q0p.mp hx
   obtain⟨r,hri,p0⟩:=hm.get hp
   have mem:=q1g hri
   have SS:=S02.trans S3
   have add:∀ c:Bool,((c=true->Md (ms.take i) r)/\(c=false->Apart (ms.take i) r))->∃ bs':List Bool,bs.map V.bl++[V.bl c]=bs'.map V.bl/\bs'.length=i+1/\∀ (j:Nat) (b:Bool) (m:Mk),bs'[j]?=some b->ms[j]?=some m->(b=true->Md (ms.take j) m)/\(b=false->Apart (ms.take j) m):=λc hc=>by
    refine⟨bs++[c],by rw[q0i];rfl,by rw[q0j,bl];rfl,λj b m hb hmj=>?_⟩
    by_cases hj:j<bs.length
    ·rw[q2v hj] at hb
     exact hbs j b m hb hmj
    ·have hji:j=i:=by
      have:=(q0o.mp hb).1
      rw[q0j,q2g] at this
      omega
     subst hji
     rw[q2s (by omega),bl,q7y] at hb
     have hb:c=b:=by simpa using hb
     rw[hri] at hmj
     have hmj:=Option.some.inj hmj
     subst hb
     subst hmj
     exact hc
   refine⟨_,U,_,U,_,U,l,_,U,SS.seq hS,λcp hcp=>?_⟩
   rw[X3j (by omega),<-q8l]
   have s4:=Z0f hcp (.lst ((ps.take i).map V.ref))
   refine⟨_,U,_,U,cp,p,ps.take i,ms.take i,r,N,U,SqL.of Z0d,((hm.same SS).same s4).take i,s4 _ _ (SS _ _ p0),N6,by rw[q1q];omega,λm hm=>ok m (q6e hm),ok r mem,λrt H5 S5 told=>?_⟩
   rcases told with ⟨k1,y,ln,_,hrt,_,k4,hf⟩ | ⟨pp,o,hrt,_,_,_,c1,c0⟩
   ·refine⟨rt,_,_,_,U,U,SqT.of hrt,U,U,?_⟩
    rw[q0q rfl]
    exact kN _ H5 (s4.trans S5) (add true ⟨λ_=>⟨k1,y,k4,hf⟩,λz=>nomatch z⟩)
   ·refine⟨rt,_,_,_,U,U,SqT.of hrt,U,U,?_⟩
    rw[q0k am]
    exact kN _ H5 (s4.trans S5) (add false ⟨(λz=>nomatch z),λ_=>⟨o,c1,c0⟩⟩)
  ·rintro zs H3 S3 ⟨bs,rfl,bl,hbs⟩ a3
   rw[lps] at bl
   refine⟨acc3,_,U,SqL.of a3,_,U,?_⟩
   cases ha:bs.any id with
   | true =>
    refine q false H3 (S02.trans S3) ⟨(λz=>nomatch z),λ_=>.inr (.inr ?_)⟩
    obtain⟨b,hb,eb⟩:=q3j.mp ha
    obtain⟨j,hj,ej⟩:=List.getElem_of_mem hb
    have hmj:ms[j]?=some (ms[j]'(by omega)):=q0d (by omega)
    exact⟨j,_,hmj,(hbs j b _ (by rw[q0d hj,ej]) hmj).1 eb⟩
   | false =>
    refine q true H3 (S02.trans S3) ⟨λ_=>⟨hev,hcm,λj m hmj=>?_⟩,λz=>nomatch z⟩
    have hj:j<bs.length:=by have:=(q0o.mp hmj).1;omega
    have hbj:=q0d hj
    have fb:bs[j]=false:=by
     cases hq:bs[j] with
     | false=>rfl
     | true =>
      have:bs.any id=true:=q3j.mpr ⟨bs[j],q4l hj,hq⟩
      rw[this] at ha
      cases ha
    exact(hbs j _ m hbj hmj).2 fb
end
theorem Y9r {N:Nat}{H:Hp}{l:W9}{ps:U3}{ms:List Mk}{b:Bool}(T:Tb3 N H l ps ms)(t:Tab ms b):b=true:=by
 cases b with
 | true=>rfl
 | false =>
  rcases t.2 rfl with ⟨m,hm,he⟩ | ⟨m,hm,r,hr,hc⟩ | ⟨i,m,hmi,kk,x,k4,hf⟩
  ·exact absurd (T.tb.nice.even m hm) he
  ·exact absurd (T.tb.nice.com m hm r hr) hc
  ·have il:i<ms.length:=(q0o.mp hmi).1
   have eg:ms.getD i (0,0,0)=m:=by rw[q0b,hmi];rfl
   rw[<-eg] at hf
   exact(Z6k T.tb.ind il (by rw[eg];exact T.tb.nice.q m (q1g hmi)) k4 hf).elim
theorem Cal.imp {P:U8}{w:W1}{K:U0}{mg:U4}{base:Heap}{k:Nat}{x:Str}{ps:W0}{sp sp':Sp}(c:Cal P w K mg base k x ps sp)(h:∀ vs H Q E,sp' vs H Q E->sp vs H Q E):Cal P w K mg base k x ps sp' :=
 let ⟨f,fd,F,b,kp,m⟩:=c.ex
 ⟨f,fd,F.imp h,b,kp,m⟩
theorem X1i {P:U8}{w:W1}{K:U0}{mg:U4}{base:Heap}{k:Nat}(c:Cal P w K mg base k "is_table" ["rows","cells"] (spIsT K)):Cal P w K mg base k "is_table" ["rows","cells"] Z9l :=
 Cal.imp c λvs H Q E h=>by
  obtain⟨l,ps,ms,N,rfl,T,N1,N6,kq⟩:=h
  refine⟨.ref l,N,U,N1,N6,.inr (.inr ⟨l,ps,ms,U,T.lst,T.mks,q1b T.len (by decide),T.ok,λb H' S' t=>?_⟩)⟩
  rw[Y9r T t]
  exact kq H' S'
noncomputable def ins {α:Type}(L:List α)(a:Nat)(m:α):List α:=L.take a++[m]++L.drop a
section
variable {α:Type}{L:List α}{a i:Nat}{m:α}
theorem X3b (ha:a<=L.length)(h:i<a):(ins L a m)[i]?=L[i]?:=by
 unfold ins
 rw[q3q,q2v (by rw[q1q];omega),q6q,if_pos h]
theorem X3d (ha:a<=L.length):(ins L a m)[a]?=some m:=by
 unfold ins
 rw[q3q,q2s (by rw[q1q];omega),q1q,q6j ha,q7y]
 rfl
theorem X3c (ha:a<=L.length)(h:a<=i):(ins L a m)[i+1]?=L[i]?:=by
 unfold ins
 rw[q2s (by rw[q0j,q1q,q2g];omega),q0j,q1q,q2g,q6j ha,List.getElem?_drop]
 congr 1
 omega
theorem X6e {x:α}(h:x∈L):x∈ins L a m:=by
 unfold ins
 rw[<-List.take_append_drop a L] at h
 rcases q1n.mp h with h | h
 ·exact q2d _ (q2d _ h)
 ·exact q1h _ h
theorem Y3o:m∈ins L a m:=q2d _ (q1h _ (q1a.mpr rfl))
theorem X6h {P:α->Prop}(h:∀ x∈L,P x)(hm:P m):∀ x∈ins L a m,P x:=λx hx=>by
 unfold ins at hx
 rcases q1n.mp hx with hx | hx
 ·rcases q1n.mp hx with hx | hx
  ·exact h x (q6e hx)
  ·rw[q1a.mp hx];exact hm
 ·exact h x (List.mem_of_mem_drop hx)
theorem X6f (ha:a<=L.length):(ins L a m).length=L.length+1:=by
 unfold ins
 rw[q0j,q0j,q1q,q5e,q2g]
 omega
theorem Z6n {x:α}{k:Nat}(h:L[i]?=some x)(hi:i<k):x∈L.take k:=q1g (i:=i) (by rw[q6q,if_pos hi];exact h)
end
theorem Z4t (ms:List Mk)(x a:Nat):∀ d,(∀ j,a<=j->j<a+d->bit x j=0)->chosen ms x (a+d)=chosen ms x a
 | 0,_=>rfl
 | d+1,h=>by
  rw[<-q8k,Z2l,h (a+d) (by omega) (by omega),if_neg (by decide),q2o]
  exact Z4t ms x a d λj h1 h2=>h j h1 (by omega)
theorem Y5j (x a:Nat):∀ d,(∃ j,a<=j/\j<a+d/\bit x j=1)->∃ jm,a<=jm/\jm<a+d/\bit x jm=1/\∀ j,jm<j->j<a+d->bit x j=0
 | 0,h=>by obtain⟨j,h1,h2,_⟩:=h;omega
 | d+1,h=>by
  by_cases e:bit x (a+d)=1
  ·exact⟨a+d,by omega,by omega,e,λj h1 h2=>by omega⟩
  ·obtain⟨j,h1,h2,h3⟩:=h
   have:j≠a+d:=λz=>e (z ▸ h3)
   obtain⟨jm,a1,a2,a3,a4⟩:=Y5j x a d ⟨j,h1,by omega,h3⟩
   refine⟨jm,a1,by omega,a3,λj b1 b2=>?_⟩
   by_cases ej:j=a+d
   ·have:=Z1u x (a+d)
    rw[ej]
    omega
   ·exact a4 j b1 (by omega)
theorem Z6o {ms:List Mk}{p:Nat}(h:p<ms.length):ms[p]?=some (ms.getD p (0,0,0)):=by
 rw[q0b,q0d h]
 rfl
theorem Y4s {ms:List Mk}{m:Mk}{q x a:Nat}{b:Bool}(hm:m=(chosen ms x ms.length).foldl mul (q,0,0))(ha:a<=ms.length)(t:Tab (ins ms a m) b):b=false:=by
 cases b with
 | false=>rfl
 | true =>
  exfalso
  obtain⟨_,_,ap⟩:=t.1 rfl
  have q0:∀ o:Mk,comm o (q,0,0)=0:=λo=>by unfold comm;simp[Z1x]
  obtain⟨d,hd⟩:∃ d,ms.length=a+d:=⟨ms.length-a,by omega⟩
  by_cases h:∃ j,a<=j/\j<a+d/\bit x j=1
  ·obtain⟨jm,h1,h2,h3,h4⟩:=Y5j x a d h
   have jl:jm<ms.length:=by omega
   obtain⟨o,o1,o0⟩:=ap (jm+1) (ms.getD jm (0,0,0)) (by rw[X3c ha h1];exact Z6o jl)
   have om:comm o m=0:=o0 m (Z6n (X3d ha) (by omega))
   have os:∀ p,p<jm->comm o (ms.getD p (0,0,0))=0:=λp hp=>by
    by_cases hpa:p<a
    ·exact o0 _ (Z6n (i:=p) (by rw[X3b ha hpa];exact Z6o (by omega)) (by omega))
    ·exact o0 _ (Z6n (i:=p+1) (by rw[X3c ha (by omega)];exact Z6o (by omega)) (by omega))
   have e:chosen ms x ms.length=chosen ms x jm++[ms.getD jm (0,0,0)]:=by
    have:=Z4t ms x (jm+1) (ms.length-(jm+1)) λj b1 b2=>h4 j (by omega) (by omega)
    rw[show jm+1+(ms.length-(jm+1))=ms.length by omega] at this
    rw[this,Z2l,if_pos h3]
   rw[hm,e,q4w] at om
   have e2:comm o (List.foldl mul (List.foldl mul (q,0,0) (chosen ms x jm)) [ms.getD jm (0,0,0)])=1:=by
    show comm o (mul _ _)=1
    rw[Y3s,o1,Z7n _ _ (q0 o) λr hr=>?_]
    unfold chosen at hr
    obtain⟨p,hp,rfl⟩:=q2k.mp hr
    exact os p (Z3a hp)
   rw[e2] at om
   cases om
  ·obtain⟨o,o1,o0⟩:=ap a m (X3d ha)
   have e:chosen ms x ms.length=chosen ms x a:=by
    rw[hd]
    refine Z4t ms x a d λj b1 b2=>?_
    have:=Z1u x j
    have:bit x j≠1:=λz=>h ⟨j,b1,b2,z⟩
    omega
   rw[hm,e,Z7n _ _ (q0 o) λr hr=>?_] at o1
   ·cases o1
   ·unfold chosen at hr
    obtain⟨p,hp,rfl⟩:=q2k.mp hr
    have pa:=Z3a hp
    exact o0 _ (Z6n (i:=p) (by rw[X3b ha pa];exact Z6o (by omega)) pa)
def Spoil (ms:List Mk)(m:Mk):Prop:=¬ ev m∨(∃ r∈ms,comm r m≠0)∨∃ q x,m=(chosen ms x ms.length).foldl mul (q,0,0)
theorem Spoil.no {ms:List Mk}{m:Mk}{a:Nat}{b:Bool}(s:Spoil ms m)(ha:a<=ms.length)(t:Tab (ins ms a m) b):b=false:=by
 rcases s with s | ⟨r,hr,s⟩ | ⟨q,x,s⟩
 ·cases b with
  | false=>rfl
  | true=>exact absurd ((t.1 rfl).1 m Y3o) s
 ·cases b with
  | false=>rfl
  | true=>exact absurd ((t.1 rfl).2.1 r (X6e hr) m Y3o) s
 ·exact Y4s s ha t
theorem X8b {N:Nat}{H:Hp}{l:W9}{ps:U3}{ms:List Mk}(T:Tb3 N H l ps ms){m:Mk}(hm:m∈ms):m.2≠(0,0):=λz=>by
 obtain⟨i,hi,e⟩:=List.getElem_of_mem hm
 have eg:ms.getD i (0,0,0)=m:=by rw[q0b,q0d hi,e];rfl
 refine Z6k T.tb.ind hi (kk:=m.1) (x:=0) (by rw[eg];exact T.tb.nice.q m hm) (T.tb.nice.q m hm) ?_
 rw[eg]
 have p0:∀ n,places 0 n=[]:=λn=>by
  unfold places
  rw[List.filter_eq_nil_iff]
  intro j _
  simp
 unfold chosen
 rw[p0]
 exact Prod.ext rfl z.symm
def spLstB:Sp:=λvs H Q _=>∃ w:Nat,vs=[.int w]/\w<64/\w≠0/\∀ j:Nat,j<6->bit w j=1->Q (.int (2^j:Nat)) H
theorem Z8t:((List.range 64).all λw=>decide (w=0) || (List.range 6).any λj=>decide (bit w j=1) && (List.range j).all λi=>decide (bit w i=0))=true:=by decide +kernel
theorem X9k {w:Nat}(h:w<64)(h0:w≠0):∃ j,j<6/\bit w j=1/\∀ i,i<j->bit w i=0:=by
 have a:=q1e.mp Z8t w (q1c.mpr h)
 rw[q0k h0,q4x] at a
 obtain⟨j,hj,b⟩:=q3j.mp a
 rw[q0u,q1f,q1e] at b
 exact⟨j,q1c.mp hj,b.1,λi hi=>q1t (b.2 i (q1c.mpr hi))⟩
theorem X8k:((List.range 64).all λw=>(List.range 6).all λj=>decide (bit w j=1->pc (w&&&2^j)%2=1))=true:=by decide +kernel
theorem X8i {w j:Nat}(h:w<64)(hj:j<6)(b:bit w j=1):pc (w&&&2^j)%2=1:=q1t (q1e.mp (q1e.mp X8k w (q1c.mpr h)) j (q1c.mpr hj)) b
section
variable {P:U8}{w:W1}{K:U0}{mg:U4}{base:Heap}{k:Nat}{h:Heap}
theorem sc_lleast:FnScope ["_law_word","_law_found"] ["_law_word"] (Z0h (top 93)):=fS
theorem Y7h (F:FunAt K "_law_least" (top 93) .none)(X:K.In h)(G:Ng h mg):Cal P w K mg base (k+1) "_law_least" ["_law_word"] spLstB:=by
 have nd:=sc_lleast.nd
 refine F.cal X G sc_lleast (bnd1 λ_ _ _ _ _ _ _=>rfl) (λvs H Q E h=>?_) (λf cdv A outer s H vs Q E hr h=>?_)
 ·obtain⟨w,rfl,_⟩:=h;rfl
 obtain⟨x,rfl,x64,x0,q⟩:=h
 obtain⟨j,j6,bj,lo⟩:=X9k x64 x0
 refine⟨_,(@Z0g _ _ _ _ _ (@Z0q _ _ 1 _ _ _ _ nd rfl (Or.inl rfl) Z0b rfl (.inl rfl))
  (@Z0g _ _ _ _ _ (Z4z PassesOwn.never (Z0p Z1m (Z0j Z1e (Z0j Y3d (pv 0) (pv 1)) Z0b) Z0b (nomark _))
   (@Z0e _ _ _ (@Z0q _ _ 1 _ _ _ _ nd rfl (Or.inl rfl) (Z0j Z4b (pv 1) Z0b) rfl (.inl rfl))))
  (@Z0e _ _ _ (Z0k (pv 1))))),?_⟩
 try dsimp only[cxK]
 refine⟨λm σ H'=>H'=H/\∃ t:Nat,t<=j/\m=j-t/\σ=[some (.int x),some (.int (2^t:Nat))],⟨j,U,0,q1o _,U,U⟩,?_⟩
 rintro m σ H' ⟨rfl,t,tj,rfl,rfl⟩
 have t0:(0:Int)<((2^t:Nat):Int):=by have:=q0w t;omega
 have t7:2^t<=64:=q1b (q0v (by decide) (show t<=6 by omega)) (by decide)
 have e:(((x:Int).fdiv ((2^t:Nat):Int))%2)=((bit x t:Nat):Int):=by
  rw[q3d _ (Int.le_of_lt t0)]
  unfold bit
  rfl
 refine⟨_,U,_,U,_,_,U,U,⟨q6t t0,(show Sz 7 ((2^t:Nat):Int) by unfold Sz;rw[q4p];omega).mono (by decide)⟩,_,_,U,U,Z3v,U,_,U,eqI (λc=>?_) (λc=>?_)⟩
 ·have c:(((x:Int).fdiv ((2^t:Nat):Int))%2)=0:=c
  rw[e] at c
  have tn:t≠j:=λz=>by rw[z,bj] at c;cases c
  refine⟨_,λσ' H' x=>x,?_⟩
  refine⟨_,U,_,_,U,U,.inr ⟨by decide,by decide⟩,⟨j-(t+1),by omega,U,t+1,by omega,U,?_⟩⟩
  rw[q3n]
  rfl
 ·have c:(((x:Int).fdiv ((2^t:Nat):Int))%2)≠0:=c
  rw[e] at c
  have te:t=j:=by
   refine Classical.byContradiction λz=>?_
   rw[lo t (by omega)] at c
   exact c rfl
  subst te
  exact⟨_,U,q t j6 bj⟩
end
end K76T
namespace L2
inductive FlV:V->PyData->Prop where
 | non:FlV .non .none
 | bl (b:Bool):FlV (.bl b) (.bool b)
 | int (i:Int):FlV (.int i) (.int i)
 | str (x:Str) (ok:PyData.canLay0 (.str x)=true):FlV (.str x) (.str x)
inductive RdV (H:Hp):V->PyData->Prop where
 | flat {v:V}{d:PyData} (f:FlV v d):RdV H v d
 | tup {p:W9}{xs:List V}{ds:List PyData} (e:H p=some (.tup xs)) (all:Paired FlV xs ds):RdV H (.ref p) (.tuple ds)
 | lst {p:W9}{xs:List V}{ds:List PyData} (e:H p=some (.lst xs)) (all:Paired FlV xs ds):RdV H (.ref p) (.list ds)
theorem RdV.same {H H':Hp}{v:V}{d:PyData}(r:RdV H v d)(s:Same H H'):RdV H' v d:=by
 cases r with
 | flat f=>exact .flat f
 | tup e all=>exact .tup (s _ _ e) all
 | lst e all=>exact .lst (s _ _ e) all
section
variable {X:Cx}{pins:U1}{σ:St}{H:Hp}{s:U7}
end
end L2
namespace K76T
open L2 Pc K51 M54 M57
open M53 (V6 ev)
theorem X9r (K:U0):PySem.W.kitOne K (.type "NoneType") (.type "tuple")=some false:=by with_unfolding_all rfl
theorem X9p (K:U0):PySem.W.kitOne K (.type "tuple") (.type "list")=some false:=by with_unfolding_all rfl
theorem X9s (K:U0):PySem.W.kitOne K (.type "NoneType") (.type "list")=some false:=by with_unfolding_all rfl
inductive NoTab (K:U0) (H:Hp) (N:Nat):V->Prop where
 | odd {v:V}{t:W2} (ty:TyOf K H v t) (e:PySem.W.kitOne K t (.type "list")=some false):NoTab K H N v
 | item {l:W9}{xs:List V}{bs:List Bool}{ds:List PyData} (hl:H l=some (.lst xs)) (l13:xs.length<=13) (pr:Paired (TellE K H N) xs bs) (no:bs.all id=false) (rd:Paired (RdV H) xs ds):NoTab K H N (.ref l)
 | marks {l:W9}{ps:U3}{ms:List Mk} (hl:H l=some (.lst (ps.map V.ref))) (hm:Mks H ps ms) (l12:ms.length<=12) (ok:∀ m∈ms,Okm N m) (no:∀ b,Tab ms b->b=false):NoTab K H N (.ref l)
theorem W2x {K:U0}{H:Hp}{n:Nat}{p:W9}{x y z:V}(e:H p=some (.tup [x,y,z]))(hx:Part K H x)(hy:Part K H y)(hz:Part K H z)(b:okQ x=false∨okW n y=false∨okW n z=false):Tells K H n (.ref p) false:=by
 have t:=Tells.three (n:=n) e hx hy hz
 have:(okQ x && (okW n y && okW n z))=false:=by rcases b with b | b | b<;>rw[b]<;>simp
 rwa [this] at t
theorem X1r {xs:List V}{p:Nat}{i:Int}(hi:i=p):cutV xs (some i) none=xs.drop p:=by
 subst hi
 unfold cutV
 rw[HT.Z8p]
 have e2:HT.sIx xs.length xs.length none=xs.length:=rfl
 rw[e2]
 by_cases h:p<=xs.length
 ·rw[q6j h,q5v (by rw[q5e];exact q0l _)]
 ·rw[Nat.min_eq_right (by omega),q7y,q5b,List.drop_eq_nil_of_le (by omega)]
theorem papp {α β:Type}{F:α->β->Prop}:∀ {l l':List α}{m m':List β},Paired F l m->Paired F l' m'->Paired F (l++l') (m++m')
 | _,_,_,_,.nil,h=>h
 | _,_,_,_,.cons x r,h=>.cons x (papp r h)
theorem ptake {α β:Type}{F:α->β->Prop}:∀ {l:List α}{m:List β} (n:Nat),Paired F l m->Paired F (l.take n) (m.take n)
 | _,_,0,_=>by rw[q5b,q5b];exact .nil
 | _,_,n+1,.nil=>by rw[q7k,q7k];exact .nil
 | _,_,n+1,.cons x r=>.cons x (ptake n r)
theorem pdrop {α β:Type}{F:α->β->Prop}:∀ {l:List α}{m:List β} (n:Nat),Paired F l m->Paired F (l.drop n) (m.drop n)
 | _,_,0,h=>h
 | _,_,n+1,.nil=>by rw[List.drop_nil,List.drop_nil];exact .nil
 | _,_,n+1,.cons x r=>pdrop n r
theorem pmark {K:U0}{H:Hp}{N:Nat}:∀ {ps:U3}{ms:List Mk},Mks H ps ms->(∀ m∈ms,Okm N m)->Paired (TellE K H N) (ps.map V.ref) (ms.map evB)
 | [],[],.nil,_=>.nil
 | _::_,_::_,.cons e r,ok=>.cons (.mark e (ok _ (.head _))) (pmark r λm hm=>ok m (.tail _ hm))
noncomputable def dT (m:Mk):PyData:=.tuple [.int (m.1:Nat),.int (m.2.1:Nat),.int (m.2.2:Nat)]
theorem rmark {H:Hp}:∀ {ps:U3}{ms:List Mk},Mks H ps ms->Paired (RdV H) (ps.map V.ref) (ms.map dT)
 | [],[],.nil=>.nil
 | _::_,_::_,.cons e r=>.cons (.tup e (.cons (.int _) (.cons (.int _) (.cons (.int _) .nil)))) (rmark r)
def Bad (K:U0)(N:Nat)(ms:List Mk)(H:Hp)(v:V):Prop:=(∃ (r:W9) (m:Mk),v=.ref r/\H r=some (T3 m)/\Okm N m/\Spoil ms m)∨(Tells K H N v false/\∃ d,RdV H v d)
def spBad (K:U0):Sp:=λvs H Q _=>∃ (l:W9) (ps:U3) (ms:List Mk) (N far:Nat),vs=[.ref l,.int N,.int far]/\Tb3 N H l ps ms/\1<=N/\N<=6/\∀ (v:V) (H':Hp),Same H H'->Bad K N ms H' v->Q v H'
theorem t5:5<=sizeLine:=by decide
theorem X5v {ms:List Mk}{x q:Nat}(q4:q<4){m:Mk}(h:m=((q+(M57.E ms x).1)%4,(M57.E ms x).2)):Spoil ms m:=.inr (.inr ⟨q,x,by rw[Z5q q4];exact h⟩)
section
variable {P:U8}{w:W1}{K:U0}{mg:U4}{base:Heap}{k:Nat}{h:Heap}
theorem sc_bad:FnScope ["_law_rows","_law_cells","_law_far","_law_one","_law_other"] ["_law_rows","_law_cells","_law_far"] (Z0h (top 94)):=fS
theorem X9a (F:FunAt K "_law_bad_row" (top 94) .none)(X:K.In h)(G:Ng h mg)(B:Bs mg)(cQ:Cal P w K mg base k "_law_least" ["_law_word"] spLstB)(dE:Cal P w K mg base k "_law_product" ["_law_one","_law_other"] (Z4u K)):Cal P w K mg base (k+1) "_law_bad_row" ["_law_rows","_law_cells","_law_far"] (spBad K):=by
 have nd:=sc_bad.nd
 refine F.cal X G sc_bad (bnd3 λ_ _ _ _ _ _ _ _ _=>rfl) (λvs H Q E h=>?_) (λf cdv A outer s H vs Q E hr h=>?_)
 ·obtain⟨l,ps,ms,N,far,rfl,_⟩:=h;rfl
 obtain⟨l,ps,ms,N,far,rfl,T,N1,N6,q⟩:=h
 have hS:SqL K H l (ps.map V.ref):=SqL.of T.lst
 have lps:(ps.map V.ref).length=ms.length:=by rw[q0a,T.mks.length]
 have l6:=T.len
 have p0:=q0w N
 have p6:2^N<=64:=q1b (q0v (by decide) N6) (by decide)
 have p1:1<2^N:=q0f (by decide) (q0v (by decide) N1)
 have eN:(1:Int)*2^((N:Int).toNat)=((2^N:Nat):Int):=ipow N
 have wN:okW N (.int ((2^N:Nat):Int))=false:=q0k λz=>Int.lt_irrefl _ z.2
 refine⟨_,(@Z0g _ _ _ _ _ (Z0w (PW.pt (Z3n (Z0p Z1m (Z0j Z1e (pv 2) Z0b) Z0b (nomark _)) (Z3r (Z0p Z1m (Z0n Z0r rfl B.len q1k (Z0a (pv 0) Z0c)) Z0b (nomark _)))))
   (@Z0e _ _ _ (Z0k (@Z0l _ _ _ _ _ _ _ Z1k (@Z3s _ _ _ _ (@Z0a _ _ _ _ _ (@Z1a _ _ _ _ _ (@Z0a _ _ _ _ _ Z0b (@Z0a _ _ _ _ _ Z0b (@Z0a _ _ _ _ _ Z0b Z0c rfl) rfl) rfl)) (@Z0a _ _ _ _ _ (@Z1a _ _ _ _ _ (@Z0a _ _ _ _ _ Z0b (@Z0a _ _ _ _ _ Z0b (@Z0a _ _ _ _ _ Z0b Z0c rfl) rfl) rfl)) (@Z0a _ _ _ _ _ (@Z1a _ _ _ _ _ (@Z0a _ _ _ _ _ Z0b (@Z0a _ _ _ _ _ (Z0j Z1j Z0b (pv 1)) (@Z0a _ _ _ _ _ Z0b Z0c rfl) rfl) rfl)) (@Z0a _ _ _ _ _ (@Z1a _ _ _ _ _ (@Z0a _ _ _ _ _ Z0b (@Z0a _ _ _ _ _ Z0b Z0c rfl) rfl)) (@Z0a _ _ _ _ _ Z7e Z0c rfl) rfl) rfl) rfl) rfl)) (Z0j Z1e (Z0j Z2r (pv 2) Z0b) Z0b) (λ_ _=>rfl))))
   Z0o)
  (@Z0g _ _ _ _ _ (@Z0q _ _ 3 _ _ _ _ nd rfl (Or.inl rfl) (Z0l Z1k (pv 0) (Z0j Z1e (Z0j Z2r (pv 2) Z0b) (Z0n Z0r rfl B.len q1k (Z0a (pv 0) Z0c))) (λ_ _=>rfl)) rfl (.inl rfl))
  (@Z0g _ _ _ _ _ (@Z0q _ _ 4 _ _ _ _ nd rfl (Or.inl rfl) (Z0l Z1k (pv 0) (Z0j Z1e (Z0j Z2r (pv 2) Z0b) (Z0n Z0r rfl B.len q1k (Z0a (pv 0) Z0c))) (λ_ _=>rfl)) rfl (.inl rfl))
  (@Z0g _ _ _ _ _ (Z0w (PW.pt (Z4y (Z0p Z1m (Z0j Z1e (pv 2) Z0b) Z0b (nomark _)) (Z3w (Z0p Y4g (Z0l Z0i (pv 3) Z0b (λ_ _=>rfl)) Z0b (nomark _)))))
   (@Z0e _ _ _ (Z0k (@Z1a _ _ _ _ _ (Z0a Z0b (Z0a Z0b (Z0a (Z0m cQ hr rfl (Z0a (Z0l Z0i (pv 3) Z0b (λ_ _=>rfl)) Z0c)) Z0c))))))
   Z0o)
  (@Z0g _ _ _ _ _ (Z0w (Z0p Z1m (Z0j Z1e (pv 2) Z0b) Z0b (nomark _))
   (@Z0e _ _ _ (Z0k (@Z1a _ _ _ _ _ (Z0a Z0b (Z0a (Z0m cQ hr rfl (Z0a (Z0l Z0i (pv 3) Z0b (λ_ _=>rfl)) Z0c)) (Z0a Z0b Z0c))))))
   Z0o)
  (@Z1g _ _ _ _ _ (Z0w (PW.pt (Z4y (Z0p Z1m (Z0j Z1e (pv 2) Z0b) Z0b (nomark _)) (Z3w (Z0p (Y6w hr.units) (pv 3) (pv 4) (nomark _)))))
   (@Z0e _ _ _ (@Z0q _ _ 3 _ _ _ _ nd rfl (Or.inl rfl) (Z0m dE hr rfl (Z0a (pv 3) (Z0a (pv 4) Z0c))) rfl (.inl rfl)))
   Z0o)
  (@Z0e _ _ _ (Z0k (@Z1a _ _ _ _ _ (Z0a (Z0j Z1e (Z0j Z1r (Z0l Z0i (pv 3) Z0b (λ_ _=>rfl)) (Z0j Z4b (Z0j Z1e (Z0j Z2r (pv 2) Z0b) Z0b) Z0b)) Z0b) (Z0a (Z0l Z0i (pv 3) Z0b (λ_ _=>rfl)) (Z0a (Z0l Z0i (pv 3) Z0b (λ_ _=>rfl)) Z0c)))))))))))),?_⟩
 try dsimp only[cxK]
 have C4:(0:Int)<4:=by decide
 refine⟨_,U,_,_,U,U,C4,U,_,U,eqI (λc0=>?_) (λc0=>⟨_,U,l,_,U,.inl hS,U,_,U,eqI (λc1=>?_) (λc1=>?_)⟩)⟩
 rotate_left 2
 ·have ne:ms.length≠0:=λz=>c1 (by rw[lps,z];rfl)
  have l0:0<ms.length:=by omega
  have get:∀ x:Nat,∃ (i:Nat) (p:W9) (m:Mk),x%ms.length=i/\i<ms.length/\ms.getD i (0,0,0)=m/\m∈ms/\H p=some (T3 m)/\atI (ps.map V.ref) ((x:Int)%(((ps.map V.ref).length:Nat):Int))=some (.ref p):=λx=>by
   have il:x%ms.length<ms.length:=q2r _ l0
   have ip:ps[x%ms.length]?=some (ps[x%ms.length]'(by rw[T.mks.length];exact il)):=q0d _
   obtain⟨m,hmi,p1⟩:=T.mks.get ip
   refine⟨_,_,m,U,il,by rw[q0b,hmi];rfl,q1g hmi,p1,?_⟩
   rw[lps,show (x:Int)%((ms.length:Nat):Int)=((x%ms.length:Nat):Int) from rfl]
   exact Z3b (by rw[q0g,ip];rfl)
  obtain⟨i,p,r,hi,il,gi,mem,pr,ati⟩:=get (far / 4)
  obtain⟨j,p',r',hj,jl,gj,mem',pr',atj⟩:=get (far / 32)
  have okr:=T.ok r mem
  have okr':=T.ok r' mem'
  have SP:SqT K H p (L3 r):=SqT.of pr
  have SP':SqT K H p' (L3 r'):=SqT.of pr'
  have nz:=X8b T mem
  refine⟨_,U,_,U,_,_,U,U,⟨by decide,by decide⟩,_,U,l,_,U,.inl hS,_,_,U,U,by rw[lps];omega,l,_,_,.ref p,U,U,hS,ati,?_⟩
  refine⟨_,U,_,U,_,_,U,U,⟨by decide,by decide⟩,_,U,l,_,U,.inl hS,_,_,U,U,by rw[lps];omega,l,_,_,.ref p',U,U,hS,atj,?_⟩
  have E1:M57.E ms (2^i)=r:=by rw[M57.X7c ms il (by rw[gi];exact okr.q),gi]
  have E2:M57.E ms (2^j)=r':=by rw[M57.X7c ms jl (by rw[gj];exact okr'.q),gj]
  have acr:∀ {w:Nat} (f:Nat->Mk),w<2^N->w≠0->(∀ j,bit w j=1->2^j<2^N->Okm N (f j))->(∀ j,j<6->bit w j=1->comm r (f j)≠0)->∀ j,j<6->bit w j=1->∀ t:Addr,H t=none->Q (.ref t) (upd H t (T3 (f j))):=λ{w} f hw w0 ho hc j j6 bj t ht=>by
   refine q _ _ (Z0f ht _) (.inl ⟨t,f j,U,Z0d,ho j bj (q1p (by decide) (Nat.lt_of_not_le λz=>?_)),.inr (.inl ⟨r,mem,hc j j6 bj⟩)⟩)
   have:bit w j=0:=by
    unfold bit
    rw[q3t (q0f hw (q0v (by decide) z))]
   rw[this] at bj
   cases bj
  refine⟨_,U,_,_,U,U,C4,U,_,U,eqI (λf1=>⟨_,U,p,_,_,_,U,U,SP,U,_,_,U,U,_,U,decI (λg=>?_) (λg=>?_)⟩) (λf1=>?_)⟩
  ·have r0:r.2.1≠0:=by omega
   refine⟨_,U,p,_,_,_,U,U,SP,U,r.2.1,U,q0f okr.f p6,r0,λj j6 bj=>⟨t3,λt ht=>acr (w:=r.2.1) (λj=>(0,0,2^j)) okr.f r0 (λj _ l=>⟨(show 0<4 by decide),p0,l⟩) (λj j6 bj=>?_) j j6 bj t ht⟩⟩
   unfold comm
   have:=X8i (q0f okr.f p6) j6 bj
   show (pc (r.2.1&&&2^j)+pc (r.2.2&&&0))%2≠0
   rw[q8w,Z1x]
   omega
  ·have r0:r.2.1=0:=by omega
   have s0:r.2.2≠0:=λz=>nz (Prod.ext r0 z)
   refine⟨_,U,_,_,U,U,C4,U,_,U,eqI (λ_=>?_) (λz=>absurd f1 z)⟩
   refine⟨_,U,p,_,_,_,U,U,SP,U,r.2.2,U,q0f okr.s p6,s0,λj j6 bj=>⟨t3,λt ht=>acr (w:=r.2.2) (λj=>(0,2^j,0)) okr.s s0 (λj _ l=>⟨(show 0<4 by decide),l,p0⟩) (λj j6 bj=>?_) j j6 bj t ht⟩⟩
   unfold comm
   have:=X8i (q0f okr.s p6) j6 bj
   show (pc (r.2.1&&&0)+pc (r.2.2&&&2^j))%2≠0
   rw[q8w,Z1x]
   omega
  refine⟨_,U,_,_,U,U,C4,U,_,U,eqI (λz=>absurd z f1) (λ_=>?_)⟩
  refine⟨λσ H'=>Same H H'/\∃ (pp:W9) (x:Nat),H' pp=some (T3 (M57.E ms x))/\Okm N (M57.E ms x)/\σ=[some (.ref l),some (.int N),some (.int far),some (.ref pp),some (.ref p')],?_,?_⟩
  ·have st:Same H H/\∃ (pp:W9) (x:Nat),H pp=some (T3 (M57.E ms x))/\Okm N (M57.E ms x)/\[some (.ref l),some (.int N),some (.int far),some (.ref p),some (.ref p')]=[some (.ref l),some (.int N),some (.int far),some (V.ref pp),some (.ref p')]:=⟨Same.refl _,p,2^i,by rw[E1];exact pr,by rw[E1];exact okr,U⟩
   refine⟨_,U,_,_,U,U,C4,U,_,U,eqI (λf2=>⟨_,U,_,U,p,p',[(r.1:Int),(r.2.1:Int),(r.2.2:Int)],[(r'.1:Int),(r'.2.1:Int),(r'.2.2:Int)],U,U,SP,SP',_,U,nblI (λne=>?_) (λ_=>st)⟩) (λ_=>st)⟩
   have ij:i≠j:=λz=>by
    subst z
    have:r=r':=gi.symm.trans gj
    subst this
    exact absurd rfl (q3u ne)
   have em:∃ x,M57.E ms x=mul r r':=by
    rcases Nat.lt_or_gt_of_ne ij with h | h
    ·refine⟨2^i+2^j,?_⟩
     rw[M57.Y4a ms (q1p (by decide) h) jl,E1,gj]
    ·refine⟨2^j+2^i,?_⟩
     rw[M57.Y4a ms (q1p (by decide) h) il,E2,gi]
     exact M53.mul_comm (T.tb.nice.com _ mem' _ mem)
   obtain⟨x,ex⟩:=em
   exact⟨_,U,_,U,p,p',r,r',U,SP,SP',λpp H1 S1 hpp=>⟨S1,pp,x,by rw[ex];exact hpp,by rw[ex];exact X4u okr okr',U⟩⟩
  rintro σ H1 ⟨S1,pp,x,hpp,okx,rfl⟩
  have SPP:SqT K H1 pp (L3 (M57.E ms x)):=SqT.of hpp
  refine⟨_,U,pp,_,_,_,U,U,SPP,U,_,U,_,_,U,U,⟨by decide,by decide⟩,_,_,U,U,Z3v,_,_,U,U,.inr ⟨by decide,by decide⟩,_,_,U,U,_,_,U,U,Z4j,_,U,pp,_,_,_,U,U,SPP,U,_,U,pp,_,_,_,U,U,SPP,U,t3,λt ht=>?_⟩
  refine q _ _ (S1.trans (Z0f ht _)) (.inl ⟨t,((far / 256%2*2+(M57.E ms x).1)%4,(M57.E ms x).2),U,?_,⟨q2r _ (by decide),okx.f,okx.s⟩,X5v (x:=x) (q:=far / 256%2*2) (by omega) rfl⟩)
  rw[Z0d]
  have e4:((((M57.E ms x).1:Nat):Int)+(far:Int) / 256%2*2)%4=(((far / 256%2*2+(M57.E ms x).1)%4:Nat):Int):=by omega
  show some (HO.tup [V.int (((((M57.E ms x).1:Nat):Int)+(far:Int) / 256%2*2)%4),V.int ((M57.E ms x).2.1:Nat),V.int ((M57.E ms x).2.2:Nat)])=_
  rw[e4]<;>rfl
 all_goals
  refine⟨t3,λa1 h1=>?_⟩
  have s1:=Z0f h1 (.tup [V.int 0,V.int 0,V.int 0])
  have e1:upd H a1 (.tup [V.int 0,V.int 0,V.int 0]) a1=some (T3 (0,0,0)):=Z0d
  generalize upd H a1 (.tup [V.int 0,V.int 0,V.int 0])=H1 at s1 e1 ⊢
  refine⟨t3,λa2 h2=>?_⟩
  have s2:=Z0f h2 (.tup [V.int 1,V.int 0,V.int 1])
  have e2:upd H1 a2 (.tup [V.int 1,V.int 0,V.int 1]) a2=some (T3 (1,0,1)):=Z0d
  generalize upd H1 a2 (.tup [V.int 1,V.int 0,V.int 1])=H2 at s2 e2 ⊢
  refine⟨_,U,_,_,U,U,⟨1,sz1,by omega,by omega⟩,t3,λa3 h3=>?_⟩
  have s3:=Z0f h3 (.tup [V.int 0,V.int (1*2^((N:Int).toNat)),V.int 0])
  have e3:upd H2 a3 (.tup [V.int 0,V.int (1*2^((N:Int).toNat)),V.int 0]) a3=some (.tup [V.int 0,V.int (1*2^((N:Int).toNat)),V.int 0]):=Z0d
  generalize upd H2 a3 (.tup [V.int 0,V.int (1*2^((N:Int).toNat)),V.int 0])=H3 at s3 e3 ⊢
  refine⟨t2,λa4 h4=>?_⟩
  have s4:=Z0f h4 (.tup [V.int 0,V.int 1])
  have e4:upd H3 a4 (.tup [V.int 0,V.int 1]) a4=some (.tup [V.int 0,V.int 1]):=Z0d
  generalize upd H3 a4 (.tup [V.int 0,V.int 1])=H4 at s4 e4 ⊢
  refine⟨t5,λl1 hl1=>?_⟩
  have s5:=Z0f hl1 (.lst [V.ref a1,V.ref a2,V.ref a3,V.ref a4,V.non])
  have e5:upd H4 l1 (.lst [V.ref a1,V.ref a2,V.ref a3,V.ref a4,V.non]) l1=some (.lst [V.ref a1,V.ref a2,V.ref a3,V.ref a4,V.non]):=Z0d
  generalize upd H4 l1 (.lst [V.ref a1,V.ref a2,V.ref a3,V.ref a4,V.non])=H5 at s5 e5 ⊢
  have S3:=(s3.trans s4).trans s5
  have S2:=s2.trans S3
  have all:∀ v∈[V.ref a1,V.ref a2,V.ref a3,V.ref a4,V.non],Bad K N ms H5 v:=λv hv=>by
   simp only[q0s,q1i,q3c] at hv
   rcases hv with rfl | rfl | rfl | rfl | rfl
   ·exact .inl ⟨a1,(0,0,0),U,S2 _ _ e1,⟨(show 0<4 by decide),p0,p0⟩,.inr (.inr ⟨0,0,(M57.Y3z ms).symm⟩)⟩
   ·exact .inl ⟨a2,(1,0,1),U,S3 _ _ e2,⟨(show 1<4 by decide),p0,p1⟩,.inl (by unfold ev;simp[Z1x])⟩
   ·exact .inr ⟨W2x ((s4.trans s5) _ _ e3) (Part.int _) (Part.int _) (Part.int _) (.inr (.inl (by rw[eN];exact wN))),_,.tup ((s4.trans s5) _ _ e3) (.cons (.int _) (.cons (.int _) (.cons (.int _) .nil)))⟩
   ·exact .inr ⟨.many (s5 _ _ e4) (by decide),_,.tup (s5 _ _ e4) (.cons (.int _) (.cons (.int _) .nil))⟩
   ·exact .inr ⟨.odd TyOf.non (X9r K),_,.flat .non⟩
  obtain⟨i,hi⟩:∃ i,far / 4%5=i:=⟨_,U⟩
  have i5:i<5:=by omega
  generalize hx:[V.ref a1,V.ref a2,V.ref a3,V.ref a4,V.non]=xs at all e5
  have lx:xs.length=5:=by rw[<-hx];rfl
  have ix:xs[i]?=some (xs[i]'(by omega)):=q0d (by omega)
  refine⟨_,U,_,_,U,U,⟨by decide,by decide⟩,_,_,U,U,(by decide:(0:Int)<5),l1,_,_,_,U,U,SqL.of e5,?_,q (xs[i]'(by omega)) H5 ((s1.trans s2).trans S3) (all _ (q4l _))⟩
  show atI xs ((far:Int) / 4%5)=_
  rw[show (far:Int) / 4%5=((far / 4%5:Nat):Int) from rfl,hi]
  exact Z3b ix
def spNone (K:U0):Sp:=λvs H Q _=>∃ (l:W9) (ps:U3) (ms:List Mk) (N far:Nat),vs=[.ref l,.int N,.int far]/\Tb3 N H l ps ms/\1<=N/\N<=6/\∀ (v:V) (H':Hp),Same H H'->NoTab K H' N v->Q v H'
theorem sc_none:FnScope ["_law_rows","_law_cells","_law_far","_law_at"] ["_law_rows","_law_cells","_law_far"] (Z0h (top 95)):=fS
theorem X4y (F:FunAt K "_law_none_by" (top 95) .none)(X:K.In h)(G:Ng h mg)(B:Bs mg)(dA:Cal P w K mg base k "_law_bad_row" ["_law_rows","_law_cells","_law_far"] (spBad K)):Cal P w K mg base (k+1) "_law_none_by" ["_law_rows","_law_cells","_law_far"] (spNone K):=by
 have nd:=sc_none.nd
 refine F.cal X G sc_none (bnd3 λ_ _ _ _ _ _ _ _ _=>rfl) (λvs H Q E h=>?_) (λf cdv A outer s H vs Q E hr h=>?_)
 ·obtain⟨l,ps,ms,N,far,rfl,_⟩:=h;rfl
 obtain⟨l,ps,ms,N,far,rfl,T,N1,N6,q⟩:=h
 have hS:SqL K H l (ps.map V.ref):=SqL.of T.lst
 have lms:=T.mks.length
 have lps:(ps.map V.ref).length=ms.length:=by rw[q0a,lms]
 have l6:=T.len
 have C8:(0:Int)<8:=by decide
 refine⟨_,(@Z0g _ _ _ _ _ (Z0w (Z0p Z1m (Z0j Z1e (pv 2) Z0b) Z0b (nomark _))
   (@Z0e _ _ _ (Z0k (Z3z Z9c rfl B.tuple q8n (Z0a (pv 0) Z0c))))
   Z0o)
  (@Z0g _ _ _ _ _ (Z0w (Z0p Z1m (Z0j Z1e (pv 2) Z0b) Z0b (nomark _))
   (@Z0e _ _ _ (Z0k Z7e))
   Z0o)
  (@Z1g _ _ _ _ _ (@Z0q _ _ 3 _ _ _ _ nd rfl (Or.inl rfl) (Z0j Z1e (Z0j Z2r (pv 2) Z0b) (Z0j Z1r (Z0n Z0r rfl B.len q1k (Z0a (pv 0) Z0c)) Z0b)) rfl (.inl rfl))
  (@Z0e _ _ _ (Z0k (Z0j Y3e (Z0j Y3e (Z1y Z8o (pv 0) Z2y (Z2a (pv 3))) (@Z3s _ _ _ _ (Z0a (Z0m dA hr rfl (Z0a (pv 0) (Z0a (pv 1) (Z0a (Z0j Z2r (pv 2) Z0b) Z0c)))) Z0c))) (Z1y Z8o (pv 0) (Z2a (pv 3)) Z2y))))))),?_⟩
 try dsimp only[cxK]
 refine⟨_,U,_,_,U,U,C8,U,_,U,eqI (λ_=>?_) (λw0=>⟨_,U,_,_,U,U,C8,U,_,U,eqI (λ_=>?_) (λw1=>?_)⟩)⟩
 ·exact⟨_,U,l,_,U,.inl ⟨hS,λt ht=>q (.ref t) _ (Z0f ht _) (.odd (TyOf.tup Z0d) (X9p K))⟩⟩
 ·exact q _ _ (Same.refl _) (.odd TyOf.non (X9s K))
 refine⟨λσ H'=>H'=H/\∃ a:Nat,a<=ms.length/\σ=[some (.ref l),some (.int N),some (.int far),some (.int a)],?_,?_⟩
 ·refine⟨_,U,_,_,U,U,⟨by decide,by decide⟩,_,U,l,_,U,.inl hS,_,_,U,U,_,_,U,U,by omega,U,far / 8%(ms.length+1),Nat.le_of_lt_succ (q2r _ (Nat.succ_pos _)),?_⟩
  show [_,_,_,some (V.int ((far:Int) / 8%((((ps.map V.ref).length:Nat):Int)+1)))]=_
  rw[lps]
  rfl
 rintro σ1 H ⟨rfl,a,ha,rfl⟩
 have tk:((ps.map V.ref).take a).length<=6:=by rw[q1q,lps];omega
 have dr:((ps.map V.ref).drop a).length<=6:=by rw[q5e,lps];omega
 refine⟨_,U,_,U,_,U,l,_,U,hS,λl1 h1=>?_⟩
 rw[X3j (by rw[lps];exact ha)]
 have s2:=Z0f h1 (.lst ((ps.map V.ref).take a))
 have e2:upd H l1 (.lst ((ps.map V.ref).take a)) l1=some (.lst ((ps.map V.ref).take a)):=Z0d
 generalize upd H l1 (.lst ((ps.map V.ref).take a))=H2 at s2 e2 ⊢
 refine⟨_,U,_,U,_,U,_,_,U,U,⟨by decide,by decide⟩,l,ps,ms,N,far / 64,U,T.same s2,N1,N6,λv H3 S3 bad=>⟨(show 1<=sizeLine by decide),λl2 h2=>?_⟩⟩
 have s4:=Z0f h2 (.lst [v])
 have SX:=(s2.trans S3).trans s4
 have E1:=s4 _ _ (S3 _ _ e2)
 have E2:upd H3 l2 (.lst [v]) l2=some (.lst [v]):=Z0d
 generalize upd H3 l2 (.lst [v])=HX at SX E1 E2 s4 ⊢
 refine⟨l1,l2,_,_,U,U,E1,E2,s64 (by rw[q2g];omega),λl3 h3=>?_⟩
 have s5:=Z0f h3 (.lst ((ps.map V.ref).take a++[v]))
 have e5:upd HX l3 (.lst ((ps.map V.ref).take a++[v])) l3=some (.lst ((ps.map V.ref).take a++[v])):=Z0d
 generalize upd HX l3 (.lst ((ps.map V.ref).take a++[v]))=H5 at s5 e5 ⊢
 refine⟨_,U,_,U,_,U,l,_,U,(SX.trans s5).seq hS,λl4 h4=>?_⟩
 rw[X1r (p:=a) rfl]
 have s6:=Z0f h4 (.lst ((ps.map V.ref).drop a))
 have e6:upd H5 l4 (.lst ((ps.map V.ref).drop a)) l4=some (.lst ((ps.map V.ref).drop a)):=Z0d
 generalize upd H5 l4 (.lst ((ps.map V.ref).drop a))=H6 at s6 e6 ⊢
 refine⟨l3,l4,_,_,U,U,s6 _ _ e5,e6,s64 (by rw[q0j,q2g];omega),λl5 h5'=>?_⟩
 have s7:=Z0f h5' (.lst ((ps.map V.ref).take a++[v]++(ps.map V.ref).drop a))
 have h5:upd H6 l5 (.lst ((ps.map V.ref).take a++[v]++(ps.map V.ref).drop a)) l5=some (.lst ((ps.map V.ref).take a++[v]++(ps.map V.ref).drop a)):=Z0d
 generalize upd H6 l5 (.lst ((ps.map V.ref).take a++[v]++(ps.map V.ref).drop a))=H' at s7 h5 ⊢
 have S':=(s5.trans s6).trans s7
 have SS:=SX.trans S'
 rcases bad with ⟨r,m,rfl,hr3,ok3,sp3⟩ | ⟨tv,dv,rdv⟩
 ·refine q _ H' SS (.marks (ps:=ins ps a r) (ms:=ins ms a m) ?_ ?_ (by rw[X6f ha];omega) (X6h T.ok ok3) (λb t=>sp3.no ha t))
  ·rw[h5]
   unfold ins
   rw[q0i,q0i,q8l,List.map_drop]
   rfl
  ·exact papp (papp (ptake a (T.mks.same SS)) (.cons (S' _ _ (s4 _ _ hr3)) .nil)) (pdrop a (T.mks.same SS))
 ·refine q _ H' SS (.item h5 (by rw[q0j,q0j,q2g];omega) (papp (papp (ptake a (pmark (T.mks.same SS) T.ok)) (.cons (.no (tv.same (s4.trans S'))) .nil)) (pdrop a (pmark (T.mks.same SS) T.ok))) ?_ (papp (papp (ptake a (rmark (T.mks.same SS))) (.cons (rdv.same (s4.trans S')) .nil)) (pdrop a (rmark (T.mks.same SS)))))
  rw[List.all_append,List.all_append]
  simp
end
end K76T
namespace Fx
def Tr (di:W5)(e T:W9)(cls fl:W2)(h:Heap):Prop:=∃ oe vs oT ts,h.get? e=some oe/\(oe.cls=cls/\oe.dict=di)/\oe.data=.fields vs/\(vs[1]?=some (.ref T)/\vs[2]?=some .none)/\T≠e/\h.get? T=some oT/\oT.data=.fields ts/\ts[3]?=some fl/\3<ts.size
structure Kp (fs xs:U3) (h h':Heap):Prop where
 keep:∀ b o,h.get? b=some o->b ∉ fs->b ∉ xs->h'.get? b=some o
 slot:∀ b o,h.get? b=some o->b ∉ xs->∃ sl,h'.get? b=some { o with slots:=sl }
 there:∀ b o,h.get? b=some o->∃ o',h'.get? b=some o'
section
variable {fs xs:U3}{h h1 h2:Heap}
theorem Kp.trans (p:Kp fs xs h h1)(q:Kp fs xs h1 h2):Kp fs xs h h2 where
 keep:=λb o e n m=>q.keep b o (p.keep b o e n m) n m
 slot:=λb o e m=>by
  obtain⟨sl,e1⟩:=p.slot b o e m
  obtain⟨sl2,e2⟩:=q.slot b _ e1 m
  exact⟨sl2,e2⟩
 there:=λb o e=>by
  obtain⟨o1,e1⟩:=p.there b o e
  exact q.there b o1 e1
theorem Kp.same (k:∀ b o,h.get? b=some o->h1.get? b=some o):Kp fs xs h h1:=⟨λb o e _ _=>k b o e,λb o e _=>⟨o.slots,k b o e⟩,λb o e=>⟨o,k b o e⟩⟩
theorem Kp.new (o:Obj):Kp fs xs h (h.push o):=.same λ_ _ e=>q0e _ e
theorem Kp.slots (p:Heap.SlotsOnly fs h h1):Kp fs xs h h1 where
 keep:=λb o e n _=>(p.2.1 b n).trans e
 slot:=λb o e _=>p.2.2 b o e
 there:=λb o e=>let ⟨_,q⟩:=p.2.2 b o e;⟨_,q⟩
theorem Kp.field {a:W9}{o:Obj}{vs:U9}{f:Array Value->Array Value}(ha:a∈xs)(e:h.get? a=some o)(d:o.data=.fields vs):Kp fs xs h (h.update a (Obj.mapFields f)):=by
 have k:∀ b u,b≠a->h.get? b=some u->(h.update a (Obj.mapFields f)).get? b=some u:=λb u n q=>(q3e _ _ n.symm).trans q
 have at_a:=q3h (Obj.mapFields f) e (Obj.isFreed_of_fields (Obj.data_mapFields d f))
 exact⟨λb u q _ m=>k b u (λz=>m (z ▸ ha)) q,λb u q m=>⟨u.slots,k b u (λz=>m (z ▸ ha)) q⟩,λb u q=>(Classical.em (b=a)).elim (λz=>⟨o.mapFields f,by rw[z];exact at_a⟩) λz=>⟨u,k b u z q⟩⟩
theorem Kp.fresh (p:Kp fs xs h h1){b:W9}(e:h1.get? b=none):h.get? b=none:=by
 cases q:h.get? b with
 | none=>rfl
 | some o=>obtain⟨o',e'⟩:=p.there b o q;rw[e] at e';cases e'
end
def Rec (h:Heap)(a:W9)(o:Obj)(vs:U9):Prop:=h.get? a=some o/\o.data=.fields vs
theorem Rec.put {h:Heap}{a:W9}{o:Obj}{vs:U9}(r:Rec h a o vs)(f:Array Value->Array Value):Rec (h.update a (Obj.mapFields f)) a (o.mapFields f) (f vs) :=
 ⟨q3h _ r.1 (Obj.isFreed_of_fields (Obj.data_mapFields r.2 f)),Obj.data_mapFields r.2 f⟩
theorem Rec.off {h:Heap}{a b:W9}{o:Obj}{vs:U9}(r:Rec h a o vs)(n:a≠b)(f:Obj->Obj):Rec (h.update b f) a o vs:=⟨(q3e _ _ n.symm).trans r.1,r.2⟩
theorem X4l (o:Obj)(f:Array Value->Array Value):(o.mapFields f).cls=o.cls/\(o.mapFields f).dict=o.dict:=by
 obtain⟨c,d,dt,sl⟩:=o
 cases dt<;>exact⟨U,U⟩
theorem Tr.of {h:Heap}{e T:W9}{oe oT:Obj}{vs ts:U9}{cls fl:W2}(r:Rec h e oe vs)(c:oe.cls=cls/\oe.dict=di)(r':Rec h T oT ts)(n:T≠e)(v:vs[1]?=some (.ref T)/\vs[2]?=some .none)(t:ts[3]?=some fl)(z:3<ts.size):Tr di e T cls fl h :=
 ⟨oe,vs,oT,ts,r.1,c,r.2,v,n,r'.1,r'.2,t,z⟩
section
variable {M:Model}{A:W6}{E:U2}{s:U7}
theorem hung {base:Heap}{env:Env}{outer:List Env}{L e:W9}{oe:Obj}{vs:U9}{head:W2}{b:Bool}{xs:U3}{Q:Unit->Shared->Prop}
  (ha:A.frames=some (env::outer)) (hf:s.heap.FunFrames base (env::outer)) (hl:env.frame=some L) (r:Rec s.heap e oe vs) (hd:oe.dict=di) (two:1<vs.size) (ctx:vs[2]?=some .none) (he:e∈xs)
  (k:∀ h' T,s.heap.get? T=none->Tr di e T oe.cls .none h'->Kp ((env::outer).filterMap (·.frame)) xs s.heap h'->Q () { s with heap:=h' }) :
  wpAny M A (do let a ← frameOf env;let pl ← entryPlaceOf L b;let t ← EntryCells.newEntry head a .none (rawInt L) .none pl;setField (.ref e) 1 t) (λ_ s'=>wpAny M A (setFlight (.ref e) none) Q E s') E s:=by
 have nf:e ∉ (env::outer).filterMap (·.frame):=λz=>by
  obtain⟨_,o,q,n⟩:=hf.mem z
  exact n vs (Option.some.inj (r.1.symm.trans q) ▸ r.2)
 refine q0c (wpAny_frameOf_fun ha hf hl λh1 sl=>q0c (wpAny_entryPlaceOf λpl place=>q0c ?_))
 have p1:Kp ((env::outer).filterMap (·.frame)) xs s.heap h1:=.slots sl
 have r1:Rec h1 e oe vs:=⟨(sl.2.1 e nf).trans r.1,r.2⟩
 have ne:h1.objs.size≠e:=q3o (q0h r1.1)
 have new:s.heap.get? h1.objs.size=none:=p1.fresh (Heap.get?_none_of_le (q0l _))
 simp only[EntryCells.newEntry,newFields]
 refine q2j ?_ (place.sizeOk5 _ _ _ _ _)
 obtain⟨o,ho,ts,d,t3,tz⟩:∃ o:Obj,o={ cls:=.type "traceback",dict:=none,data:=.fields ([head,.ref L,.none,rawInt L,.none]++(if pl.isEmpty then List.replicate 6 Value.none else pl)).toArray }/\∃ ts:Array Value,o.data=.fields ts/\ts[3]?=some (rawInt L)/\3<ts.size:=by
  refine⟨_,U,_,U,?_,?_⟩
  ·rcases place with rfl | ⟨_,_,_,_,_,_,_,rfl⟩<;>simp
  ·simp only[q0r,q0j,q2i,List.length_nil];omega
 rw[<-ho]
 have r2:Rec (h1.push o) e oe vs:=⟨q0e _ r1.1,r1.2⟩
 have n2:Rec (h1.push o) h1.objs.size o ts:=⟨q0n _ (Obj.isFreed_of_fields d),d⟩
 have p2:=p1.trans (Kp.new o)
 refine q4m r2.1 r2.2 two ?_
 have r3:=r2.put (·.setIfInBounds 1 (Value.ref h1.objs.size))
 have n3:=n2.off ne (Obj.mapFields (·.setIfInBounds 1 (Value.ref h1.objs.size)))
 have p3:=p2.trans (Kp.field (f:=(·.setIfInBounds 1 (Value.ref h1.objs.size))) he r2.1 r2.2)
 have v1:(vs.setIfInBounds 1 (Value.ref h1.objs.size))[1]?=some (.ref h1.objs.size):=by simp[two]
 refine wpAny_setFlight_none r3.1 r3.2 v1 n3.1 n3.2 tz (k _ h1.objs.size new ?_ ?_)
 ·have c:=X4l oe (·.setIfInBounds 1 (Value.ref h1.objs.size))
  exact Tr.of (r3.off ne.symm _) ⟨c.1,c.2.trans hd⟩ (n3.put _) ne ⟨v1,by rw[Array.getElem?_setIfInBounds_ne (by decide)];exact ctx⟩ (by simp[tz]) (by simpa using tz)
 ·have q:∀ b u,b≠h1.objs.size->Heap.get? ((h1.push o).update e (Obj.mapFields (·.setIfInBounds 1 (Value.ref h1.objs.size)))) b=some u->Heap.get? (((h1.push o).update e (Obj.mapFields (·.setIfInBounds 1 (Value.ref h1.objs.size)))).update h1.objs.size (Obj.mapFields (·.setIfInBounds 3 .none))) b=some u:=λb u n z=>(q3e _ _ n.symm).trans z
  have old:∀ b u,s.heap.get? b=some u->b≠h1.objs.size:=λb u z w=>by rw[w,new] at z;cases z
  exact⟨λb u z n m=>q b u (old b u z) (p3.keep b u z n m),λb u z m=>let ⟨sl,w⟩:=p3.slot b u z m;⟨sl,q b _ (old b u z) w⟩,λb u z=>let ⟨u',w⟩:=p3.there b u z;⟨u',q b u' (old b u z) w⟩⟩
theorem flight {e T:W9}{cls fl:W2}{Q:Unit->Shared->Prop}(t:Tr di e T cls fl s.heap)(k:∀ h',Tr di e T cls .none h'->(∀ b,b≠T->h'.get? b=s.heap.get? b)->Q () { s with heap:=h' }):wpAny M A (setFlight (.ref e) none) Q E s:=by
 obtain⟨oe,vs,oT,ts,e1,c,e2,v,n,t1,t2,-,z⟩:=t
 have r:Rec s.heap e oe vs:=⟨e1,e2⟩
 have r':Rec s.heap T oT ts:=⟨t1,t2⟩
 exact wpAny_setFlight_none e1 e2 v.1 t1 t2 z (k _ (Tr.of (r.off n.symm _) c (r'.put _) n v (by simp[z]) (by simpa using z)) λb m=>q3e _ _ m.symm)
theorem Y1q {base:Heap}{env:Env}{outer:List Env}{L e:W9}{oe:Obj}{vs:U9}{Q:Unit->Shared->Prop}
  (ha:A.frames=some (env::outer)) (hf:s.heap.FunFrames base (env::outer)) (hl:env.frame=some L) (e1:s.heap.get? e=some oe) (hd:oe.dict=di) (e2:oe.data=.fields vs) (one:vs[1]?=some .none) (ctx:vs[2]?=some .none)
  (k:∀ h' T,s.heap.get? T=none->Tr di e T oe.cls .none h'->Kp ((env::outer).filterMap (·.frame)) [e] s.heap h'->Q () { s with heap:=h' }):wpAny M A (leaving env (.ref e)) Q E s:=by
 have r:Rec s.heap e oe vs:=⟨e1,e2⟩
 unfold leaving noteFrame
 simp only[hl]
 exact q0c (q0c (q3r e1 e2 one (hung ha hf hl r hd (q6n.mp one).1 ctx (by simp) k)))
theorem Z9y {base:Heap}{env:Env}{outer:List Env}{L e T0:W9}{cls:W2}{Q:Unit->Shared->Prop}
  (ha:A.frames=some (env::outer)) (hf:s.heap.FunFrames base (env::outer)) (hl:env.frame=some L) (ht:Tr di e T0 cls .none s.heap)
  (k:∀ h' T,s.heap.get? T=none->Tr di e T cls .none h'->Kp ((env::outer).filterMap (·.frame)) [e,T0] s.heap h'->Q () { s with heap:=h' }):wpAny M A (noteFrame (.ref e) env) (λ_ s'=>wpAny M A (setFlight (.ref e) none) Q E s') E s:=by
 obtain⟨oe,vs,oT,ts,e1,⟨c,hd⟩,e2,⟨one,ctx⟩,n,t1,t2,three,room⟩:=ht
 have r:Rec s.heap e oe vs:=⟨e1,e2⟩
 have r':Rec s.heap T0 oT ts:=⟨t1,t2⟩
 have p:Kp ((env::outer).filterMap (·.frame)) [e,T0] s.heap (s.heap.update T0 (Obj.mapFields (·.setIfInBounds 3 Value.none))):=.field (by simp) t1 t2
 have fr:Heap.FunFrames (s.heap.update T0 (Obj.mapFields (·.setIfInBounds 3 Value.none))) base (env::outer):=hf.of_keeps λb o q nf=>⟨o,(q3e _ _ λz=>by
  rw[<-z,t1] at q;exact nf ts (Option.some.inj q ▸ t2)).trans q,U⟩
 unfold noteFrame
 simp only[hl]
 refine q0c (q3r e1 e2 one ?_)
 simp only[show (Value.ref T0 != Value.none)=true from rfl,q5q]
 refine q0c (q3r t1 t2 three ?_)
 simp only[show (Value.none == rawInt L)=false from rfl,q2u,q3z]
 refine q0c (q4m t1 t2 room ?_)
 refine hung (s:={ s with heap:=s.heap.update T0 (Obj.mapFields (·.setIfInBounds 3 Value.none)) }) (xs:=[e,T0]) ha fr hl (r.off n.symm _) hd (q6n.mp one).1 ctx (.head _) λh' T nw tr q=>?_
 rw[c] at tr
 exact k h' T (p.fresh nw) tr (p.trans q)
theorem Y4v {base:Heap}{env:Env}{outer:List Env}{L e T0:W9}{cls:W2}{Q:Unit->Shared->Prop}
  (ha:A.frames=some (env::outer)) (hf:s.heap.FunFrames base (env::outer)) (hl:env.frame=some L) (ht:Tr di e T0 cls .none s.heap)
  (k:∀ h' T,s.heap.get? T=none->Tr di e T cls .none h'->Kp ((env::outer).filterMap (·.frame)) [e,T0] s.heap h'->Q () { s with heap:=h' }):wpAny M A (leaving env (.ref e)) Q E s :=
 q0c (Z9y ha hf hl ht k)
end
end Fx
namespace L2
open Fx
noncomputable def CX2 (P:U8)(w:W1):CXT:=λouter H s E e s'=>∃ (a T:W9) (cls:W2) (di:W5) (H':Hp),e=.ref a/\s'.os=s.os/\AllBare s'.gens/\Un (frs outer) [] H H' s.heap s'.heap/\HOk P w H' s'.heap ∧
 Tr di a T cls .none s'.heap/\s.heap.get? a=none/\s.heap.get? T=none/\H' a=none/\H' T=none/\E cls di H'
theorem ObjOk.get {P:U8}{w:W1}{H:Hp}{h:Heap}{a:W9}{o:HO}(x:ObjOk P w H h a o):∃ ob,h.get? a=some ob:=by
 cases o with
 | lst xs=>obtain⟨_,_,_,_,e⟩:=x;exact⟨_,e⟩
 | tup xs=>obtain⟨_,_,_,ob,e,_⟩:=x;exact⟨_,e⟩
 | dK kvs=>obtain⟨_,_,_,_,o,_,_,e,_⟩:=x;exact⟨_,e⟩
 | dT kvs=>obtain⟨_,_,_,_,o,_,_,e,_⟩:=x;exact⟨_,e⟩
 | set S n=>obtain⟨o,_,_,_,e,_⟩:=x;exact⟨_,e⟩
 | ins C dx fs=>obtain⟨_,_,_,e,_⟩:=x;exact⟨_,e⟩
 | own y=>obtain⟨_,e⟩:=x;exact⟨_,e⟩
 | xd fs=>obtain⟨_,⟨_,_,_,e,_⟩,_⟩:=x;exact⟨_,e⟩
 | rng lo hi=>obtain⟨_,_,_,e⟩:=x;exact⟨_,e⟩
 | frz ob u=>obtain⟨e,_⟩:=x;exact⟨_,e⟩
 | tbl ps=>exact⟨_,x⟩
 | met f y=>exact⟨_,x⟩
 | ext φ=>obtain⟨_,⟨_,e⟩,_⟩:=x;exact⟨_,e⟩
structure Flies (X:Cx) (E:XK):Prop where
 xe:∀ e s',wpAny (model X.prog X.w) X.A (leaving X.env e) (λ_ s''=>CX2 X.prog X.w X.outer X.H₀ X.s₀ E e s'') (λe' s''=>CX2 X.prog X.w X.outer X.H₀ X.s₀ E e' s'') s'->X.xe e s'
 stk:X.stack=X.env::X.outer/\X.env.frame=some X.env.locals
 ex:X.ex=[]
section
variable {X:Cx}{pins:U1}{σ:St}{H:Hp}{s:U7}{E:XK}
theorem Inv.new0 (I:Inv X pins σ H s)(F:Flies X E){b:W9}(hb:s.heap.get? b=none):X.s₀.heap.get? b=none:=by
 cases q:X.s₀.heap.get? b with
 | none=>rfl
 | some o =>
  obtain⟨o',e'⟩:=I.base.there b o q (by rw[F.ex];intro z;cases z)
  rw[hb] at e';cases e'
theorem Inv.newH (I:Inv X pins σ H s){b:W9}(hb:s.heap.get? b=none):H b=none:=by
 cases q:H b with
 | none=>rfl
 | some o =>
  obtain⟨ob,e'⟩:=ObjOk.get (I.hok b o q)
  rw[hb] at e';cases e'
theorem Inv.left {h1 h':Heap}{e T:W9}{xs:U3}{cls:W2}{di:W5}(I:Inv X pins σ H s)(F:Flies X E)(k1:∀ b o,s.heap.get? b=some o->h1.get? b=some o)(hxs:∀ b∈xs,X.s₀.heap.get? b=none/\H b=none)
  (kp:Kp ((X.env::X.outer).filterMap (·.frame)) xs h1 h') (he:X.s₀.heap.get? e=none/\H e=none) (hT:X.s₀.heap.get? T=none/\H T=none) (tr:Tr di e T cls .none h') (q:E cls di H):CX2 X.prog X.w X.outer X.H₀ X.s₀ E (.ref e) { s with heap:=h' }:=by
 have hfs:∀ b,b∈(X.env::X.outer).filterMap (·.frame)->b=X.env.locals∨b∈X.fs:=λb hb=>by
  have:=I.stkSub b (by rw[F.stk.1];exact hb)
  exact q0s.mp this
 have old:∀ b o,X.s₀.heap.get? b=some o->b≠X.env.locals:=λb o hb z=>by
  have h1:=q0h hb
  have h2:=I.ok.above
  rw[z] at h1
  exact q3m _ (q0f h1 h2)
 have nex:∀ b,b ∉ X.ex:=λb hb=>by rw[F.ex] at hb;cases hb
 have nxs:∀ b o,X.s₀.heap.get? b=some o->b ∉ xs:=λb o hb hm=>by rw[(hxs b hm).1] at hb;cases hb
 refine⟨e,T,cls,di,H,U,I.os,I.bare,⟨λb o hb hn hf _=>?_,λb o hb hn hf _=>?_,λb o hb hn _=>I.base.free b o hb hn (nex b),λb o hb _=>?_,I.base.tups,I.base.frzs,I.base.tbls⟩,λa o ha=>?_,tr,he.1,hT.1,he.2,hT.2,q⟩
 ·have q1:=I.base.keep b o hb hn hf (nex b)
  exact kp.keep b o (k1 b o q1) (λhm=>(hfs b hm).elim (old b o hb) hf) (nxs b o hb)
 ·obtain⟨sl,q1⟩:=I.base.slot b o hb hn hf (nex b)
  obtain⟨sl2,q2⟩:=kp.slot b _ (k1 b _ q1) (nxs b o hb)
  exact⟨sl2,q2⟩
 ·obtain⟨o',q1⟩:=I.base.there b o hb (nex b)
  exact kp.there b o' (k1 b o' q1)
 ·refine(I.hok a o ha).stay (λc v hc q=>?_) (λ_ q=>q) λ_ _ q=>q
  have hcn:∃ u,H c=some u:=by
   rcases hc with z | z
   ·rw[z];exact⟨_,ha⟩
   ·exact⟨_,z⟩
  obtain⟨u,hu⟩:=hcn
  refine kp.keep c v (k1 c v q) (λhm=>?_) (λhm=>by rw[(hxs c hm).2] at hu;cases hu)
  have:=I.stkFree c (by rw[F.stk.1];exact hm)
  rw[hu] at this;cases this
theorem Inv.fly {h1:Heap}{e:W9}{cls:W2}{args:U5}(I:Inv X pins σ H s)(F:Flies X E)(m:Heap.MadeExcOf s.heap h1 e cls args)(q:E cls none H):X.xe (.ref e) { s with heap:=h1 }:=by
 refine F.xe _ _ ?_
 obtain⟨t,he,_,_⟩:=m.there
 have ne:X.s₀.heap.get? e=none/\H e=none:=⟨I.new0 F m.new,I.newH m.new⟩
 refine Y1q (base:=X.base) (outer:=X.outer) (s:={ s with heap:=h1 }) (by rw[I.ok.frames,F.stk.1]) ((by rw[<-F.stk.1];exact I.stack:s.heap.FunFrames X.base (X.env::X.outer)).of_keeps λb o hb _=>⟨o,m.keeps b o hb,U⟩) F.stk.2 he rfl rfl rfl rfl λh' T nT tr kp=>?_
 have nT':s.heap.get? T=none:=by
  cases q:s.heap.get? T with
  | none=>rfl
  | some o =>
   have nT2:h1.get? T=none:=nT
   rw[m.keeps T o q] at nT2;cases nT2
 exact Inv.left (s:=s) (h1:=h1) (h':=h') I F m.keeps (λb hb=>by rw[q1a.mp hb];exact ne) kp ne ⟨I.new0 F nT',I.newH nT'⟩ tr q
theorem Inv.flyOn {E':XK}{e:W2}{s':U7}(I:Inv X pins σ H s)(F:Flies X E)(c:CX2 X.prog X.w X.stack H s E' e s')(hE:∀ cls di H',E' cls di H'->E cls di H'):X.xe e s':=by
 obtain⟨a,T,cls,di,H1,rfl,os,bare,un,hok,tr,na,nT,ha,hT,q⟩:=c
 have I1:Inv X pins σ H1 s':=I.call' (ch:=[]) os un hok bare (λb hb=>by cases hb)
 refine F.xe _ _ ?_
 refine Y4v (base:=X.base) (outer:=X.outer) (by rw[I.ok.frames,F.stk.1]) (by rw[<-F.stk.1];exact I1.stack) F.stk.2 tr λh' T' nT' tr' kp=>?_
 refine Inv.left (s:=s') (h1:=s'.heap) (h':=h') I1 F (λb o hb=>hb) (λb hb=>?_) kp ⟨I.new0 F na,ha⟩ ⟨I1.new0 F nT',I1.newH nT'⟩ tr' (hE _ _ _ q)
 simp only[q0s,q1i,q3c] at hb
 rcases hb with rfl | rfl
 ·exact⟨I.new0 F na,ha⟩
 ·exact⟨I.new0 F nT,hT⟩
theorem Flies.passes {E':XK}(F:Flies X E)(hE:∀ cls di H',E' cls di H'->E cls di H'):Passes (CX2 X.prog X.w) X E':=λpins σ H s e s' I c=>I.flyOn F c hE
theorem flies_of {P:U8}{w:W1}{K:U0}{mg:U4}{base:Heap}{N:W0}{qual:Str}{scope:Scope}{f:W9}{cd:W2}{A:W6}{outer:List Env}{s:U7}{H:Hp}{E:XK} :
  Flies (cxOf (CX2 P w) P w K mg base N qual scope f cd A outer s H E) E:=⟨λ_ _ h=>h,⟨U,U⟩,U⟩
end
noncomputable abbrev bmVE:List Value:=[.type "ValueError",.type "Exception",.type "BaseException",.type "object"]
structure ExcAt (K:U0) (C:W9) (bm:U5):Prop where
 ex:∃ N nm q bs hdct sn sub ab col dd k0 k1 k2 k3 k5,K.lookup C=some (excClassObj nm q C N bs bm hdct sn sub ab col dd k0 k1 k2 k3 k5 "ValueError.__new__")/\PySem.W.nsOkIn K N=true/\PySem.W.nsIn K N "__init__"=some none
 tail:PySem.W.tailIn K bmVE bm=true
theorem excAt {K:U0}{C N:W9}{nm q:Str}{bs bm:U5}{hdct:Bool}{sn:W0}{sub:U5}{ab:Bool}{col:Option Bool}{dd:W5}{k0 k1 k2 k3 k5:Option Value}
  (l:K.lookup C=some (excClassObj nm q C N bs bm hdct sn sub ab col dd k0 k1 k2 k3 k5 "ValueError.__new__")) (o:PySem.W.nsOkIn K N=true) (n:PySem.W.nsIn K N "__init__"=some none) (t:PySem.W.tailIn K bmVE bm=true):ExcAt K C bm :=
 ⟨⟨N,nm,q,bs,hdct,sn,sub,ab,col,dd,k0,k1,k2,k3,k5,l,o,n⟩,t⟩
section
variable {X:Cx}{E:XK}{x:Str}{C:W9}{e:Expr}{es:List Expr}{t:TA}{np cpos pos:Pos}{bm:U5}
def tRaise (E:XK)(C:W9)(t:TA):TS:=λ_ σ H=>t σ H λvs H1=>vs.length<=sizeLine/\E (.ref C) none H1
theorem Y9v (F:Flies X E)(hc:X.calm=true)(hg:Gl X x)(hm:X.mg x=some (.ref C))(hx:ExcAt X.K C bm)(ha:PA X (e::es) t)(hdb:(x == ("__debug__":Str))=false:=by decide)
  (he:starEach (e::es) X.env=(false,eval e X.env)::starEach es X.env:=by rfl) (hpl:(backTo cpos (starEach es X.env)).any (·.1)=false:=by rfl) :
  PS X (.Raise (some (.Call (.Name x np) (e::es) [] cpos)) none pos) (tRaise E C t):=by
 intro pins s σ H D I h
 obtain⟨N,nm,q,bs,hdct,sn,sub,ab,col,dd,k0,k1,k2,k3,k5,lk,ok,ni⟩:=hx.ex
 have KX:=I.ok.mod.kin
 have hC:=KX _ _ lk
 have hN:X.base.Ns N _:=.of_isNs (PySem.W.isNs_of_in KX ok)
 have hni:=PySem.W.nsMap_none_of_in KX ok ni
 have T:=PySem.W.tail_of_in KX hx.tail
 refine wpAny_Raise_call_subT (C:=C) (nm:=nm) (q:=q) (N:=N) (bs:=bs) (bm:=bm) (hdct:=hdct) (sn:=sn) (sub:=sub) (ab:=ab) (col:=col) (dd:=dd) (k0:=k0) (k1:=k1) (k2:=k2) (k3:=k3) (k5:=k5)
  q4y (T.hasType q4y.hasBase) (I.ok.hd hc) (by rw[he];show (false || (backTo cpos (starEach es X.env)).any (·.1))=false;rw[hpl];rfl) hni (Z5v I hg hm ⟨U,?_⟩ hdb)
 have h2:=ha cpos pins s σ H _ I h
 rw[he] at h2 ⊢
 refine Calls.evalArgs_plain (q1y h2 (λus s1 ⟨vs,H1,I1,r1,hl,q1⟩=>⟨U,by rw[<-r1.length];exact hl,I1.bk _ _ hC,hN.keeps I1.bk,T.keeps I1.bk,λh' a m=>I1.fly F m q1⟩) λ_ _ y=>y)
end
end L2
namespace PySem
section
variable {M:Model}{A:W6}{E:U2}
theorem Z7l {h:Heap}{g:Array GenState}{d:Drawn}{t:Nat}{os:OsState}{e C D:W9}{oe:Obj}{Q:Bool->Shared->Prop}
  {nm q:Str}{N:W9}{bs bm:U5}{hdct:Bool}{sn:W0}{sub:U5}{ab:Bool}{col:Option Bool}{dd:W5}{k0 k1 k2 k3 k5:Option Value}{newId:String}
  {nm' q':Str}{N':W9}{bs' bm':U5}{hdct':Bool}{sn':W0}{sub':U5}{ab':Bool}{col':Option Bool}{dd':W5}{k0' k1' k2' k3' k5':Option Value}{newId':String}
  (hC:h.get? C=some (excClassObj nm q C N bs bm hdct sn sub ab col dd k0 k1 k2 k3 k5 newId)) (hD:h.get? D=some (excClassObj nm' q' D N' bs' bm' hdct' sn' sub' ab' col' dd' k0' k1' k2' k3' k5' newId'))
  (he:h.get? e=some oe) (hcls:oe.cls=.ref C) (hbase:bm'.contains (.type "BaseException")=true) (hsub:(Value.ref C::bm).contains (.ref D)=true)
  (hq:Q true ⟨h,g,d,t,os⟩):wpAny M A (excMatches (.ref e) (.ref D)) Q E ⟨h,g,d,t,os⟩:=by
 have hcB:(Value.ref D::bm').contains (.type "BaseException")=true:=by rw[List.contains_cons,hbase,Bool.or_true]
 have f:=tc_notTuple
 unfold excMatches
 repeat (first | (with_reducible refine wpAny_loadPart_at he ?_;rw[hcls]) | with_reducible refine wpAny_loadPart_at hD ?_ | (with_reducible refine wpAny_isSubtype_exc hD ?_;rw[hcB]) | (with_reducible refine wpAny_isSubtype_exc hC ?_;rw[hsub]) | wp_step)
 exact hq
end
end PySem
namespace L2
open Fx
noncomputable def ExcO (di:W5)(a:W9)(cls:W2):HO:=.ext λh=>∃ o vs,h.get? a=some o/\(o.cls=cls/\o.dict=di)/\o.data=.fields vs/\vs[2]?=some .none
noncomputable def Xt (X:Cx)(pins:U1)(σ0:St)(E:XK):Cx:={ X with pn:=X.pn++pins,xe:=λe s'=>∃ H1 s1,Inv X pins σ0 H1 s1/\CX2 X.prog X.w X.stack H1 s1 E e s' }
theorem Inv.ofXt {X:Cx}{pins p2:U1}{σ0 σ:St}{E:XK}{H:Hp}{s:U7}(I:Inv (Xt X pins σ0 E) p2 σ H s):Inv X pins σ H s :=
 ⟨⟨I.ok.mod,I.ok.kind,I.ok.glob,I.ok.blt,I.ok.above,I.ok.inj,I.ok.has,I.ok.cab,I.ok.hd,I.ok.frames,I.ok.stk,I.ok.exf,I.ok.bs,I.ok.bsz,I.ok.noex,I.ok.exfs,I.ok.funs,I.ok.frf⟩,
  I.os,I.bare,I.base,I.loc,I.cell,I.free,I.freeC,λp hp=>I.pin p (q2d _ hp),I.hok,I.len⟩
theorem Inv.toXt {X:Cx}{pins:U1}{σ0 σ:St}{E:XK}{H:Hp}{s:U7}(I:Inv X pins σ H s):Inv (Xt X pins σ0 E) [] σ H s :=
 ⟨⟨I.ok.mod,I.ok.kind,I.ok.glob,I.ok.blt,I.ok.above,I.ok.inj,I.ok.has,I.ok.cab,I.ok.hd,I.ok.frames,I.ok.stk,I.ok.exf,I.ok.bs,I.ok.bsz,I.ok.noex,I.ok.exfs,I.ok.funs,I.ok.frf⟩,
  I.os,I.bare,I.base,I.loc,I.cell,I.free,I.freeC,λp hp=>I.pin p (by rw[q2o] at hp;exact hp),I.hok,I.len⟩
noncomputable def Xh (X:Cx)(a:W9):Cx:={ X with A:=X.A.mark (some (.ref a)),calm:=false,xe:=λ_ _=>False }
theorem Inv.toXh {X:Cx}{pins:U1}{σ:St}{a:W9}{H:Hp}{s:U7}(I:Inv X pins σ H s):Inv (Xh X a) pins σ H s :=
 ⟨⟨I.ok.mod,I.ok.kind,I.ok.glob,I.ok.blt,I.ok.above,I.ok.inj,I.ok.has,I.ok.cab,(λz=>by cases z),I.ok.frames,I.ok.stk,I.ok.exf,I.ok.bs,I.ok.bsz,I.ok.noex,I.ok.exfs,I.ok.funs,I.ok.frf⟩,
  I.os,I.bare,I.base,I.loc,I.cell,I.free,I.freeC,I.pin,I.hok,I.len⟩
theorem Inv.ofXh {X:Cx}{pins:U1}{σ:St}{a:W9}{H:Hp}{s:U7}(ok:X.Ok)(I:Inv (Xh X a) pins σ H s):Inv X pins σ H s :=
 ⟨ok,I.os,I.bare,I.base,I.loc,I.cell,I.free,I.freeC,I.pin,I.hok,I.len⟩
theorem Inv.landed {X:Cx}{pins:U1}{σ:St}{H1 H':Hp}{s1 s':U7}{a T T':W9}{cls:W2}{h':Heap}(I:Inv X pins σ H1 s1)(os:s'.os=s1.os)(bare:AllBare s'.gens)(un:Un (frs X.stack) [] H1 H' s1.heap s'.heap)(hok:HOk X.prog X.w H' s'.heap)
  (kp:Kp (frs X.stack) [a,T] s'.heap h') (na:s1.heap.get? a=none) (nT:s1.heap.get? T=none) (ha:H' a=none) (hT:H' T=none) (tr:Tr di a T' cls .none h'):Inv X pins σ (upd H' a (ExcO di a cls)) { s' with heap:=h' }:=by
 obtain⟨oe,vs,oT,ts,he,hc,hd,h1,hTe,hT',hdT,h3,hz⟩:=tr
 have nx:∀ b o,s1.heap.get? b=some o->b ∉ [a,T]:=λb o hb hm=>by
  simp only[q0s,q1i,q3c] at hm
  rcases hm with rfl | rfl
  ·rw[na] at hb;cases hb
  ·rw[nT] at hb;cases hb
 have nea:∀ b u,H' b=some u->b≠a:=λb u hb z=>by rw[z,ha] at hb;cases hb
 have frn:∀ b,b∈frs X.stack->H' b=none:=λb hb=>by
  obtain⟨_,o,ho,_⟩:=I.stack.mem hb
  exact un.free b o ho (I.stkFree b hb) (by intro z;cases z)
 refine I.call' (ch:=[]) (s':={ s' with heap:=h' }) os ⟨λb o hb hn hf ox=>?_,λb o hb hn hf ox=>?_,λb o hb hn ox=>?_,λb o hb ox=>?_,λb xs hb=>?_,λb o u hb=>?_,λb ps hb=>?_⟩ (λc o hc'=>?_) bare (λb hb=>by cases hb)
 ·exact kp.keep b o (un.keep b o hb hn hf ox) hf (nx b o hb)
 ·obtain⟨sl,q⟩:=un.slot b o hb hn hf ox
  obtain⟨sl2,q2⟩:=kp.slot b _ q (nx b o hb)
  exact⟨sl2,q2⟩
 ·rw[Z0u (λz=>nx b o hb (by simp[z]))];exact un.free b o hb hn ox
 ·obtain⟨o',q⟩:=un.there b o hb ox
  exact kp.there b o' q
 ·have:=un.tups b xs hb
  rw[Z0u (nea b _ this)];exact this
 ·have:=un.frzs b o u hb
  rw[Z0u (nea b _ this)];exact this
 ·obtain⟨more,this⟩:=un.tbls b ps hb
  exact⟨more,by rw[Z0u (nea b _ this)];exact this⟩
 ·by_cases hca:c=a
  ·subst hca
   rw[Z0d] at hc'
   cases hc'
   exact⟨⟨oe,vs,he,hc,hd,h1.2⟩,⟨oe,he⟩,λh1 h2 ⟨o,vs,q1,q2,q3⟩ k=>⟨o,vs,k o q1,q2,q3⟩⟩
  ·rw[Z0u hca] at hc'
   refine(hok c o hc').stay (λd v hd' q=>?_) (λb q=>by rw[Z0u (nea b _ q)];exact q) λb xs q=>by rw[Z0u (nea b _ q)];exact q
   have hdn:∃ u,H' d=some u:=by
    rcases hd' with z | z
    ·rw[z];exact⟨_,hc'⟩
    ·exact⟨_,z⟩
   obtain⟨u,hu⟩:=hdn
   refine kp.keep d v q (λhm=>?_) (λhm=>?_)
   ·rw[frn d hm] at hu;cases hu
   ·simp only[q0s,q1i,q3c] at hm
    rcases hm with rfl | rfl
    ·rw[ha] at hu;cases hu
    ·rw[hT] at hu;cases hu
theorem Inv.blank {X:Cx}{pins:U1}{σ:St}{H:Hp}{s:U7}{h':Heap}{m':U4}{tk:Nat}(I:Inv X pins σ H s)(hn:h'.Ns X.env.locals m')(hs:Heap.SameBut X.env.locals s.heap h'):Inv X pins (List.replicate X.N.length none) H { s with heap:=h',toks:=tk }:=by
 have offL:∀ b o,X.s₀.heap.get? b=some o->b≠X.env.locals:=λb o e=>q0t (q0f (q0h e) I.ok.above)
 refine⟨I.ok,I.os,I.bare,⟨λb o e n hb nx=>?_,λb o e n hb nx=>?_,I.base.free,λb o e nx=>?_,I.base.tups,I.base.frzs,I.base.tbls⟩,⟨m',hn,λi x v k1 e2 e3=>?_⟩,λx c e=>?_,I.free,I.freeC,λp hp=>?_,λb ob e=>?_,by simp⟩
 ·exact(hs.2 b (offL b o e)).trans (I.base.keep b o e n hb nx)
 ·obtain⟨sl,k1⟩:=I.base.slot b o e n hb nx
  exact⟨sl,(hs.2 b (offL b o e)).trans k1⟩
 ·obtain⟨o',k1⟩:=I.base.there b o e nx
  exact⟨o',(hs.2 b (offL b o e)).trans k1⟩
 ·rw[q7l] at e2
  split at e2<;>cases e2
 ·obtain⟨v,o,ho,hd⟩:=I.cell x c e
  exact⟨v,o,(hs.2 c (I.cne x c e)).trans ho,hd⟩
 ·obtain⟨q1,q2,q3,q4,q5⟩:=I.pin p hp
  exact⟨(hs.2 _ q3).trans q1,q2,q3,q4,q5⟩
 ·refine(I.hok b ob e).stay (λc w' hc q=>(hs.2 c ?_).trans q) (λ_ q=>q) λ_ _ q=>q
  rintro rfl
  rcases hc with rfl | hc
  ·rw[I.free] at e;cases e
  ·rw[I.free] at hc;cases hc
section
variable {X:Cx}{E:XK}
end
end L2
namespace PySem.W
open PySem.Calls Builtin Builtin.ObjectAttr
section
variable {prog:U8}{w:W1}{A:W6}{E:U2}{K:Frag}{x C:W9}{s:U7}{R:Result->Shared->Prop}
end
end PySem.W
namespace PySem.W
open PySem.Calls
structure ExcG (K:Frag) (D:W9):Prop where
 ga:findIn K (.ref D) "__getattribute__"=some (some (.builtin "BaseException.__getattribute__"))
 gt:findIn K (.ref D) "__getattr__"=some none
 ff:∀ od,findObj K D od "__class__"=some (.bind (.builtin "getset_descriptor.__get__") (.builtin "object.__class__"))
 ob:mroIn K D (.type "object")=some true
 be:kitCls K (.ref D) (.type "BaseException")=some true
 me:kitCls K (.ref D) (.ref D)=some true
 dc:hasDictIn K D=true
section
variable {prog:U8}{w:W1}{A:W6}{E:U2}{K:Frag}{x D:W9}{ox:Obj}{od:Option Obj}
theorem X1o {tk:Tok}{s:U7}{Q:Fin->Shared->Prop}(g:ExcG K D)(X:K.In s.heap)(I:InstAt s.heap x ox D od)(q:Q (.done (.ret (.ref D))) s) :
  wpAny (model prog w) A (Builtin.«object.__getattribute__» ⟨[.ref x,.str "__class__" tk],[]⟩) Q E s:=by
 have L0:=I.type (M:=model prog w)
 have L1:=looks_find (M:=model prog w) X I (g.ff od)
 unfold Builtin.«object.__getattribute__»
 refine q0c (q0m (q0c (q0m (q0c (L0.at (q0c (L1.at ?_)))))))
 show wpAny _ _ (Builtin.ObjectAttr.bindTo _ _ _ _) _ _ _
 unfold Builtin.ObjectAttr.bindTo
 show wpAny _ _ (holding [Value.builtin "object.__class__"] (call (Value.builtin "getset_descriptor.__get__") [Value.builtin "object.__class__",Value.ref x,Value.ref D]) >>= ret) _ _ _
 exact q0c (q4v (q8f (class_get (ox:=ox) (od:=od) X I g.ob (q0m q))))
theorem Y8h {s:U7}{Q:Option Value->Shared->Prop}(g:ExcG K D)(X:K.In s.heap)(I:InstAt s.heap x ox D od)(q:Q (some (.ref D)) { s with toks:=s.toks+1 }):wpAny (model prog w) A (getAttr? (.ref x) "__class__") Q E s:=by
 have L0:=I.type (M:=model prog w)
 have L1:=looks_findIn (M:=model prog w) X g.ga
 have L2:=looks_findIn (M:=model prog w) X g.gt
 have L3:=(kit_cls (M:=model prog w) X g.be).2.2
 have fb:=q7i.ga.bind (.ref x)
 unfold getAttr? getAttrBy? getAttrBy
 refine q0c (wpAny_mkText (q0c (q7e (q4v (q0c (L0.at (q0c (L1.at ?_))))))))
 show wpAny _ _ (getAttrByItsOwn _ _ _ _ _ _) _ _ _
 unfold getAttrByItsOwn
 refine q0c (L2.at (q0c (q7e (q4v ?_))))
 show wpAny _ _ (boundAndCalled _ _ _) _ _ _
 unfold boundAndCalled
 rw[fb]
 refine q0c (q0m (q8f (codeAny_call_builtin q7i.ga.plain F.entry_bexc_ga ?_)))
 have hk:builtinKind "BaseException.__getattribute__"=some .slot:=by decide +kernel
 have hsplit:splitId "BaseException.__getattribute__"=some ("BaseException","__getattribute__"):=by decide +kernel
 have ha:=F.args_bexc_ga (.ref x) (.str "__class__" s.toks)
 simp only[checkBuiltinCall,hk,hsplit]
 refine q0c (q0c (L0.at (L3.at ?_)))
 refine wpAny_of_eq (a:=()) ha ?_
 exact X1o (s:={ s with toks:=s.toks+1 }) g X I (handed_on rfl (q0m q))
theorem kitx_excG (g:ExcG K D):KitX K (.ref x) (.ref D) (λh=>∃ ox od,InstAt h x ox D od) where
 ty:=λ_ _ _ p=>p.elim λ_ p=>p.elim λ_ I=>I.type
 it:=λ_ _ X _=>(kit_cls X g.me).2.1
 ne:=λh tp dd its n sl X htp=>by
  refine Bool.eq_false_iff.mpr λq=>?_
  obtain rfl:D=tp:=Value.ref.inj (beq_iff_eq.mp q)
  obtain⟨cd,hc,_⟩:=any_some g.dc
  unfold clsIn at hc
  split at hc
  ·rename_i c' d' cd' sl' ho
   cases (X _ _ ho).symm.trans htp
  ·cases hc
 ca:=λX p k=>p.elim λ_ p=>p.elim λ_ I=>Y8h g X I k
end
end PySem.W
namespace L2
noncomputable def clV:V->Option Value
 | .ty T=>some (.type T)
 | .ref D=>some (.ref D)
 | _=>none
def Dx (H:Hp)(di:W5):Prop:=∀ dx,di=some dx->∃ fs,H dx=some (.xd fs)
section
variable {X:Cx}{pins:U1}{σ:St}{H:Hp}{s:U7}
theorem W0j {a C:W9}{di:W5}(I:Inv X pins σ H s)(hH:H a=some (ExcO di a (.ref C)))(hd:Dx H di):∃ o od,PySem.W.InstAt s.heap a o C od/\o.dict=di:=by
 obtain⟨⟨o,vs,q1,⟨q2,q3⟩,q4,_⟩,_,_⟩:=(show ObjOk X.prog X.w H s.heap a (ExcO di a (.ref C)) from I.hok a _ hH)
 have nc:PySem.W.notCls o=true:=by unfold PySem.W.notCls;rw[q4]
 cases di with
 | none=>exact⟨o,none,⟨q1,q2,nc,by rw[q3];trivial⟩,q3⟩
 | some dx =>
  obtain⟨fs,hx⟩:=hd dx rfl
  obtain⟨mA,⟨od,es,ep,e1,_⟩,_⟩:=(show ObjOk X.prog X.w H s.heap dx (.xd fs) from I.hok dx _ hx)
  exact⟨o,some od,⟨q1,q2,nc,by rw[q3];exact e1⟩,q3⟩
theorem Y0l:CallR X (.builtin "isinstance") (λxs H Q=>∃ a di C c cv b,xs=[.ref a,c]/\H a=some (ExcO di a (.ref C))/\Dx H di/\PySem.W.ExcG X.K C/\clV c=some cv/\PySem.W.kitOne X.K (.ref C) cv=some b/\Q (.bl b) H):=by
 intro pins s σ H xs us Q I r h
 obtain⟨a,di,C,c,cv,b,rfl,hH,hd,kx,hc,e,q⟩:=h
 obtain⟨u,v,rfl,ru,rv⟩:=r.two
 cases ru
 have hv:v=cv:=by
  cases c<;>first | (cases hc;cases rv;rfl) | cases hc
 subst hv
 obtain⟨o,od,J,_⟩:=W0j I hH hd
 exact q2n (PySem.W.kitx_excG kx) I.kIn ⟨o,od,J⟩ e (λz=>nomatch z) λtk=>⟨.bl b,H,I.tok tk,U,q⟩
end
end L2
namespace PySem
open PySem.Sem (wp)
section
variable {prog:U8}{w:W1}{A:W6}{E:U2}{h:Heap}{g:Array GenState}{d:Drawn}{t:Nat}{os:OsState}
variable {nm q:Str}{C N:W9}{bs bm bmB:U5}{hdct:Bool}{sn:W0}{sub:U5}{ab:Bool}{col:Option Bool}{dd:W5}{k0 k1 k2 k3 k5:Option Value}{B newId initId:String}
end
end PySem
namespace PySem
section
variable {M:Model}{A:W6}{E:U2}{env:Env}
variable {nm q:Str}{C N:W9}{bs bm:U5}{hdct:Bool}{sn:W0}{sub:U5}{ab:Bool}{col:Option Bool}{dd:W5}{k0 k1 k2 k3 k5:Option Value}{newId:String}
end
end PySem
namespace L2
open Fx
section
variable {X:Cx}{pins:U1}{σ:St}{H:Hp}{s:U7}
end
section
variable {X:Cx}{pins:U1}{σ:St}{H:Hp}{s:U7}
end
section
variable {X:Cx}{E:XK}{x f:Str}{C:W9}{e:Expr}{es:List Expr}{t:TA}{np cpos pos:Pos}{bm:U5}{k:Nat}
end
section
variable {X:Cx}
theorem Y2y {x:Str}{C:W9}{pos:Pos}(hg:Gl X x)(hm:X.mg x=some (.ref C))(hd:(x == ("__debug__":Str))=false:=by decide):PE X (.Name x pos) (tC (.ref C)) :=
 λ_ _ _ H _ I h=>Z5v I hg hm ⟨.ref C,H,I,U,h⟩ hd
end
structure CalX (P:U8) (w:W1) (K:U0) (mg:U4) (base:Heap) (k:Nat) (x:Str) (ps:W0) (sp:Sp):Prop where
 ex:∃ f fd,FnOk P w K mg base (CX2 P w) k f fd ps sp/\Binds K fd ps []/\PySem.W.keepIn K (.ref f)=true/\mg x=some (.ref f)
section
variable {X:Cx}{k:Nat}{x:Str}{ps:W0}{sp:Sp}{p pos:Pos}{e:Expr}{es:List Expr}{t:TA}{E:XK}
theorem X4p (c:CalX X.prog X.w X.K X.mg X.base k x ps sp)(hx:Passes (CX2 X.prog X.w) X E)(hr:Room k X.A)(hg:Gl X x)(ha:PA X (e::es) t)(hdb:(x == ("__debug__":Str))=false:=by decide)
  (he:starEach (e::es) X.env=(false,eval e X.env)::starEach es X.env:=by rfl) (hpl:(backTo pos (starEach es X.env)).any (·.1)=false:=by rfl):PE X (.Call (.Name x p) (e::es) [] pos) (tCall sp [] E t):=by
 obtain⟨f,fd,F,b,kp,m⟩:=c.ex
 exact Y6p F hr hg m kp b .nil hx ha hdb he hpl
def tCallT (σ0:St)(sp:Sp)(E:XK)(t:TA):TE:=λσ H Q=>t σ H λvs H1=>σ=σ0/\sp vs H1 Q E
theorem X4q {pins:U1}{σ0:St}(c:CalX X.prog X.w X.K X.mg X.base k x ps sp)(hr:Room k X.A)(hg:Gl X x)(ha:PA (Xt X pins σ0 E) (e::es) t)(hdb:(x == ("__debug__":Str))=false:=by decide)
  (he:starEach (e::es) X.env=(false,eval e X.env)::starEach es X.env:=by rfl) (hpl:(backTo pos (starEach es X.env)).any (·.1)=false:=by rfl):PE (Xt X pins σ0 E) (.Call (.Name x p) (e::es) [] pos) (tCallT σ0 sp E t):=by
 obtain⟨f,fd,F,b,kp,m⟩:=c.ex
 intro p2 s σ H Q I h
 refine q5o (Z5v I hg m ?_ hdb)
 refine PySem.W.callWith_K (h₀:=X.base) I.ok.mod.kin kp (thn (ha pos p2 s σ H _ I h) λus s1 ⟨vs,H1,I1,r,e1,q⟩=>⟨I1.kIn,?_⟩) he hpl
 subst e1
 have hl:us.length=ps.length:=by rw[<-r.length];exact F.len _ _ _ _ q
 have b2:=b s1 us I1.kIn (by rw[q2o];exact hl)
 rw[q2o] at b2
 refine q8f (q5h (F.run X.A X.stack s1 H1 ⟨us,[]⟩ us vs Q E hr I1.env0 b2 r q) λr s' hq=>?_)
 cases r with
 | error e=>exact⟨H1,s1,I1.ofXt,hq⟩
 | ok fl =>
  cases fl with
  | ret u=>exact I1.after hq
  | next=>exact False.elim hq
  | brk=>exact False.elim hq
  | cont=>exact False.elim hq
end
section
variable {P:U8}{w:W1}{K:U0}{mg:U4}{base:Heap}
theorem FunAt.calX {x:Str}{st:Stmt}{dV:W2}{N ps:W0}{k:Nat}{sp:Sp}(F:FunAt K x st dV){h:Heap}(X:K.In h)(G:Ng h mg)(S:FnScope N ps (Z0h st))(bi:Z2i K x st dV ps)(len:∀ vs H Q E,sp vs H Q E->vs.length=ps.length)
  (hbody:∀ (f:W9) (cdv:W2) (A:W6) (outer:List Env) (s:U7) (H:Hp) (vs:List V) (Q:VK) (E:XK),Room k (A.deeper (envOfC x (Z0h st) s.heap.objs.size f cdv))->sp vs H Q E →
   ∃ t,PSs (cxOf (CX2 P w) P w K mg base N x (Z0h st) f cdv A outer s H E) (Z1c st) t/\t { nx:=λ_ H'=>Q .non H',rt:=Q } (start N vs) H):CalX P w K mg base (k+1) x ps sp:=by
 obtain⟨f,oc,od,kV,doc,pm,an,cdv,ct,osl,lk,hcd,kp,ns⟩:=F.ex
 exact⟨f,_,X6l lk hcd S len λA outer s H vs Q E hr hsp=>hbody f cdv A outer s H vs Q E hr hsp,bi kV doc pm an cdv ct,kp,q2p X G ns⟩
end
def ClsAt (K:U0)(C:W9)(bm:U5):Prop:=∃ N nm q bs hdct sn sub ab col dd k0 k1 k2 k3 k5,K.lookup C=some (excClassObj nm q C N bs bm hdct sn sub ab col dd k0 k1 k2 k3 k5 "ValueError.__new__")
theorem ExcAt.cls {K:U0}{C:W9}{bm:U5}(x:ExcAt K C bm):ClsAt K C bm:=by
 obtain⟨N,nm,q,bs,hdct,sn,sub,ab,col,dd,k0,k1,k2,k3,k5,l,_⟩:=x.ex
 exact⟨N,nm,q,bs,hdct,sn,sub,ab,col,dd,k0,k1,k2,k3,k5,l⟩
section
variable {X:Cx}{E:XK}{pins:U1}{σ:St}{H:Hp}{s:U7}
theorem Inv.unset {h':Heap}{m:U4}{v:Option Value}{tk i:Nat}{n:Str}(I:Inv X pins σ H s)(hN:X.N.Nodup)(hi:X.N[i]?=some n)(hm:s.heap.Ns X.env.locals m)
  (hl:∀ (i:Nat) (x:Str) (v:V),X.N[i]?=some x->σ[i]?=some (some v)->Vis X.env.scope x->∃ u,RelV v u/\Look X.env s.heap m x u)
  (hn:h'.Ns X.env.locals (λx=>if x=n then v else m x)) (hs:Heap.SameBut X.env.locals s.heap h'):Inv X pins (σ.set i none) H { s with heap:=h',toks:=tk }:=by
 have offL:∀ b o,X.s₀.heap.get? b=some o->b≠X.env.locals:=λb o e=>q0t (q0f (q0h e) I.ok.above)
 have cne:=I.cne
 refine⟨I.ok,I.os,I.bare,⟨λb o e n hb nx=>?_,λb o e n hb nx=>?_,I.base.free,λb o e nx=>?_,I.base.tups,I.base.frzs,I.base.tbls⟩,⟨_,hn,λj y v' e1 e2 e3=>?_⟩,λx c e=>?_,I.free,I.freeC,λp hp=>?_,λb ob e=>?_,by rw[List.length_set];exact I.len⟩
 ·exact(hs.2 b (offL b o e)).trans (I.base.keep b o e n hb nx)
 ·obtain⟨sl,k1⟩:=I.base.slot b o e n hb nx
  exact⟨sl,(hs.2 b (offL b o e)).trans k1⟩
 ·obtain⟨o',k1⟩:=I.base.there b o e nx
  exact⟨o',(hs.2 b (offL b o e)).trans k1⟩
 ·by_cases hj:j=i
  ·subst hj
   by_cases hz:j<σ.length
   ·rw[q5w hz] at e2;cases e2
   ·rw[List.getElem?_eq_none (by rw[List.length_set];omega)] at e2;cases e2
  ·rw[q6f (Ne.symm hj)] at e2
   obtain⟨u',r',q⟩:=hl j y v' e1 e2 e3
   refine⟨u',r',?_⟩
   rcases q with ⟨k,e⟩ | ⟨k,c,e,z⟩
   ·refine .inl ⟨k,?_⟩
    have:y≠n:=λe=>hj (Z8r hN e1 (e ▸ hi))
    simp[this,e]
   ·exact .inr ⟨k,c,e,z.sameBut hs (cne y c e)⟩
 ·obtain⟨v,o,ho,hd⟩:=I.cell x c e
  exact⟨v,o,(hs.2 c (I.cne x c e)).trans ho,hd⟩
 ·obtain⟨q1,q2,q3,q4,q5⟩:=I.pin p hp
  exact⟨(hs.2 _ q3).trans q1,q2,q3,q4,q5⟩
 ·refine(I.hok b ob e).stay (λc w' hc q=>(hs.2 c ?_).trans q) (λ_ q=>q) λ_ _ q=>q
  rintro rfl
  rcases hc with rfl | hc
  ·rw[I.free] at e;cases e
  ·rw[I.free] at hc;cases hc
def tTryN (E:XK)(tb:St->TS)(th:Addr->TS)(i:Nat):TS:=λD σ H=>tb σ D σ H/\∀ a cls di H',E cls di H'->H' a=none->th a { nx:=λσ' H''=>D.nx (σ'.set i none) H'',rt:=D.rt } (σ.set i (some (.ref a))) (upd H' a (ExcO di a cls))
theorem X4m {st b₀:Stmt}{suite:W8}{cx n:Str}{C D:W9}{i:Nat}{np hpos pos:Pos}{tb:St->TS}{th:Addr->TS}{bm bm':U5}(hst:X.stack=X.env::X.outer/\X.env.frame=some X.env.locals)(hN:X.N.Nodup)(hi:X.N[i]?=some n)(hloc:X.env.scope.names.lookup n=some .local)
  (hg:Gl X cx) (hm:X.mg cx=some (.ref D)) (hC:ClsAt X.K C bm) (hD:ExcAt X.K D bm') (hsub:(Value.ref C::bm).contains (.ref D)=true) (hE:∀ cls di H',E cls di H'->cls=.ref C)
  (hb:∀ pins σ,PSs (Xt X pins σ E) [st] (tb σ)) (hh:∀ a,PSs (Xh X a) (b₀::suite) (th a)) (hdb:(cx == ("__debug__":Str))=false:=by decide) :
  PS X (.Try [st] [.ExceptHandler (some (.Name cx np)) (some n) (b₀::suite) hpos] [] [] pos) (tTryN E tb th i):=by
 intro pins s σ H D' I h
 obtain⟨h1,h2⟩:=h
 refine wpAny_Try_except (q1y (hb pins σ [] s σ H D' I.toXt h1) (λf s1 q=>?_) (λe s1 q=>?_))
 ·cases f with
  | next=>obtain⟨σ',H',I',q⟩:=q;exact q5n ⟨σ',H',I'.ofXt,q⟩
  | brk=>obtain⟨σ',H',I',q⟩:=q;exact⟨σ',H',I'.ofXt,q⟩
  | cont=>obtain⟨σ',H',I',q⟩:=q;exact⟨σ',H',I'.ofXt,q⟩
  | ret u=>obtain⟨v,σ',H',I',r,q⟩:=q;exact⟨v,σ',H',I'.ofXt,r,q⟩
 obtain⟨H1,s0,I0,a,T,cls,di,H',rfl,os,bare,un,nsOk,tr,na,nT,ha,hT,q⟩:=q
 obtain rfl:=hE cls di H' q
 have I1:Inv X pins σ H' s1:=I0.call' (ch:=[]) os un nsOk bare (λb hb=>by cases hb)
 have hcls:X.env.kindOf n=some .local:=hloc
 refine Z9y (base:=X.base) (outer:=X.outer) (by rw[I.ok.frames,hst.1]) (by rw[<-hst.1];exact I1.stack) hst.2 tr λh' T' nT' tr' kp=>?_
 have kp':Kp (frs X.stack) [a,T] s1.heap h':=by rw[hst.1];exact kp
 have I2:Inv X pins σ (upd H' a (ExcO di a (.ref C))) { s1 with heap:=h' }:=I0.landed os bare un nsOk kp' na nT ha hT tr'
 obtain⟨_,_,_,_,_,_,_,_,_,_,_,_,_,_,_,lC⟩:=hC
 obtain⟨_,_,_,_,_,_,_,_,_,_,_,_,_,_,_,lD,_,_⟩:=hD.ex
 have TD:=PySem.W.tail_of_in I2.kIn hD.tail
 obtain⟨oe,vs,oT,ts,he,⟨hc,_⟩,_⟩:=id tr'
 refine wpAny_handleBy_cons (codeAny_handlers_test (Z5v (X:=Xh X a) (I2.toXh (a:=a)) hg hm ?_ hdb)) (by intro q;cases q)
 refine Z7l (I2.kIn _ _ lC) (I2.kIn _ _ lD) he hc (TD.hasType q4y.hasBase) hsub ?_
 refine codeAny_handlers_suite_as ?_
 refine flight (s:={ s1 with heap:=h' }) tr' λh3 tr3 same=>?_
 have kp3:Kp (frs X.stack) [a,T] s1.heap h3:=by
  have ne:∀ b o,s1.heap.get? b=some o->b≠T':=λb o hb z=>by rw[z,nT'] at hb;cases hb
  exact⟨λb o hb hf hx=>(same b (ne b o hb)).trans (kp'.keep b o hb hf hx),λb o hb hx=>let ⟨slo,e⟩:=kp'.slot b o hb hx;⟨slo,(same b (ne b o hb)).trans e⟩,λb o hb=>let ⟨o',e⟩:=kp'.there b o hb;⟨o',(same b (ne b o hb)).trans e⟩⟩
 have I3:Inv X pins σ (upd H' a (ExcO di a (.ref C))) { s1 with heap:=h3 }:=I0.landed os bare un nsOk kp3 na nT ha hT tr3
 refine Z8j (X:=Xh X a) (v:=.ref a) (I3.toXh (a:=a)) hN hi (.inl hloc) rfl (λs4 I4=>?_) (.inr hloc)
 refine q1y (hh a pins s4 _ _ _ I4 (h2 a _ di H' q ha)) (λf s5 q5=>?_) (λx s5 z=>z.elim)
 cases f with
 | next =>
  obtain⟨σ',H5,I5,q6⟩:=q5
  obtain⟨m,hn,hl⟩:=id I5.loc
  refine wpAny_nameGoes_keeps hcls hn (by rw[I.ok.kind];rfl) λh6 v6 hn6 hs6=>?_
  exact⟨_,H5,(I5.ofXh I.ok).unset hN hi hn hl hn6 hs6,q6⟩
 | brk=>obtain⟨_,_,_,z⟩:=q5;exact z.elim
 | cont=>obtain⟨_,_,_,z⟩:=q5;exact z.elim
 | ret u =>
  obtain⟨v,σ',H5,I5,r,q6⟩:=q5
  obtain⟨m,hn,_⟩:=id I5.loc
  refine wpAny_nameGoes hcls hn (by rw[I.ok.kind];rfl) λh6 m6 hn6 hs6=>?_
  exact⟨v,_,H5,(I5.ofXh I.ok).blank hn6 hs6,r,q6⟩
end
theorem Z2g {X:Cx}{e:W9}:CallR (Xh X e) (.builtin "isinstance") (λxs H Q=>∃ a di C c cv b,xs=[.ref a,c]/\H a=some (ExcO di a (.ref C))/\Dx H di/\PySem.W.ExcG X.K C/\clV c=some cv/\PySem.W.kitOne X.K (.ref C) cv=some b/\Q (.bl b) H):=Y0l
end L2
namespace L2
open Fx
section
variable {X:Cx}{k:Nat}{x:Str}{ps:W0}{sp:Sp}{p pos:Pos}{e:Expr}{es:List Expr}{t:TA}{E:XK}
end
end L2
namespace PySem
section
variable {prog:U8}{w:W1}{A:W6}{E:U2}{s:U7}
end
end PySem
namespace L2
open Fx
end L2
set_option maxHeartbeats 1000000
namespace K55S
open L2 Ba Am Pc M71
open K76 (top Bs)
open M72 (VOk)
open M75 (Mk mvd mvds Br)
open M78 (layS okb)
open M88 (lrow)
open K76T (Tb3 Mks NoTab Z8k spIsT T3 L3)
theorem W2s {m:Mk}(h:M53.ev m):M75.ev m=0:=by
 have h:(m.1+pc (m.2.1&&&m.2.2))%2=0:=h
 show (m.1+M75.bn (M75.bp (m.2.1&&&m.2.2)))%2=0
 unfold M75.bn M75.bp
 by_cases q:pc (m.2.1&&&m.2.2)%2=1
 ·rw[q0q q,if_pos rfl];omega
 ·rw[q0k q,if_neg (by decide)];omega
theorem W2t {m n:Mk}(h:M53.cm m n=0):M79.cm m n=false:=by
 have h:(pc (m.2.1&&&n.2.2)+pc (m.2.2&&&n.2.1))%2=0:=h
 unfold M79.cm M75.bp
 by_cases q:pc (m.2.1&&&n.2.2)%2=1
 ·rw[q0q q,q0q (show pc (m.2.2&&&n.2.1)%2=1 by omega)];rfl
 ·rw[q0k q,q0k (show ¬ pc (m.2.2&&&n.2.1)%2=1 by omega)];rfl
theorem Y5l {N:Nat}{H:Hp}{l:W9}{ps:U3}{ms:List Mk}(T:Tb3 N H l ps ms):M88.Tbl ms N:=⟨λm hm=>⟨(T.ok m hm).q,(T.ok m hm).f,(T.ok m hm).s⟩,λm hm=>W2s (T.tb.nice.even m hm),λm hm n hn=>W2t (T.tb.nice.com m hm n hn),T.tb.ind⟩
noncomputable def layRow (ms:List Mk)(c:Nat):List Mv:=M79.bwd (lrow ms c ms.length)
def Y5s:Sp:=λvs H Q _=>∃ (l:W9) (ps:U3) (ms:List Mk) (c:Nat),vs=[.ref l,.int c]/\Tb3 c H l ps ms/\1<=c/\c<=6/\∀ (r:W9) (H':Hp),H r=none->Same H H'->RowAt H' r (layRow ms c)->Q (.ref r) H'
set_option genInjectivity false in
set_option genSizeOf false in
structure Exs (K:U0) (mg:U4) (C D:W9) (bm bm':U5) where
 mC:mg "NoTable"=some (.ref C)
 mD:mg "BoardError"=some (.ref D)
 mV:mg "ValueError"=none
 xC:ExcAt K C bm
 xD:ExcAt K D bm'
 sub:(Value.ref C::bm).contains (.ref D)=true
 kC:PySem.W.ExcG K C
 own:PySem.W.kitOne K (.ref C) (.ref C)=some true
 ve:PySem.W.kitOne K (.ref C) (.type "ValueError")=some true
 a_NoMark:Addr
 mo_NoMark:mg "NoMark"=some (.ref a_NoMark)
 kn_NoMark:PySem.W.kitOne K (.ref C) (.ref a_NoMark)=some false
 a_NotBorne:Addr
 mo_NotBorne:mg "NotBorne"=some (.ref a_NotBorne)
 kn_NotBorne:PySem.W.kitOne K (.ref C) (.ref a_NotBorne)=some false
 a_NoText:Addr
 mo_NoText:mg "NoText"=some (.ref a_NoText)
 kn_NoText:PySem.W.kitOne K (.ref C) (.ref a_NoText)=some false
theorem X6s:bootBuiltins "ValueError"=some (.type "ValueError"):=by decide +kernel
def spChkX (K:U0)(C:W9):Sp:=λvs H _ E=>∃ (v:V) (N:Nat),vs=[v,.int N]/\1<=N/\N<=6/\NoTab K H N v/\∀ H',Same H H'->E (.ref C) none H'
def spRefd (K:U0):Sp:=λvs H Q _=>∃ (v:V) (N:Nat),vs=[v,.int N]/\1<=N/\N<=6/\NoTab K H N v/\∀ H',Same H H'->Q (.bl true) H'
section
variable {P:U8}{w:W1}{K:U0}{mg:U4}{base:Heap}{k:Nat}{h:Heap}{C D:W9}{bm bm':U5}
theorem sc_laidr:FnScope ["rows","cells","row","cell","mark"] ["rows","cells"] (Z0h (top 81)):=fS
theorem X0o (F:FunAt K "laid" (top 81) .none)(X:K.In h)(G:Ng h mg)(B:Bs mg)(cK:Cal P w K mg base k "check_table" ["rows","cells"] Z8k)(cZ:Cal P w K mg base k "layer_to_sign" ["mark","cell","cells"] (spLayS K))(c8:Cal P w K mg base k "moved_through" ["mark","row"] (Z3h K))(eC:Cal P w K mg base k "backward" ["row"] spBwd):Cal P w K mg base (k+1) "laid" ["rows","cells"] Y5s:=by
 have nd:=sc_laidr.nd
 refine F.cal X G sc_laidr (bnd2 λ_ _ _ _ _ _ _ _=>rfl) (λvs H Q E h=>?_) (λf cdv A outer s H vs Q E hr h=>?_)
 ·obtain⟨l,ps,ms,c,rfl,_⟩:=h;rfl
 obtain⟨l,ps,ms,c,rfl,T,c1,c6,q⟩:=h
 have TB:=Y5l T
 have lp:=T.mks.length
 have l6:=T.len
 have i19:3*c+1<=19:=by omega
 have i114:∀ j,j<=6->j*(3*c+1)<=114:=λj hj=>q1b (q8g hj i19) (by decide)
 refine⟨_,(@Z0g _ _ _ _ _ (Z2x (Z0m cK hr rfl (Z0a (pv 0) (Z0a (pv 1) Z0c))))
  (@Z0g _ _ _ _ _ (@Z0q _ _ 2 _ _ _ _ nd rfl (Or.inl rfl) (@Z3s _ _ _ _ Z0c) rfl (.inl rfl))
  (@Z0g _ _ _ _ _ (Z2w PassesOwn.never rfl (Z3y rfl B.enumerate (Z0a (pv 0) Z0c)) (@Z9v _ _ _ _ _ _ rfl (@Z2m _ _ _ _ _ (@Z0t _ _ 3 _ nd rfl (Or.inl rfl) (by first | exact .inl rfl | exact .inr rfl)) (@Z2m _ _ _ _ _ (@Z0t _ _ 4 _ nd rfl (Or.inl rfl) (by first | exact .inl rfl | exact .inr rfl)) Z7d rfl) rfl) rfl rfl)
   (@Z0e _ _ _ (@Z0q _ _ 2 _ _ _ _ nd rfl (Or.inl rfl) (Z0j Y3e (pv 2) (Z0m cZ hr rfl (Z0a (Z0m c8 hr rfl (Z0a (pv 4) (Z0a (pv 2) Z0c))) (Z0a (pv 3) (Z0a (pv 1) Z0c))))) rfl (.inl rfl))))
  (@Z0e _ _ _ (Z0k (Z0m eC hr rfl (Z0a (pv 2) Z0c))))))),?_⟩
 try dsimp only[cxK]
 refine⟨_,U,_,U,l,ps,ms,c,U,T,c1,c6,λH1 S1=>⟨q1o _,λr0 hr0=>?_⟩⟩
 refine⟨_,U,l,_,U,(S1.trans (Z0f hr0 _)).seq (SqL.of T.lst),Z8x (K:=K) (a:=l) (xs:=ps.map V.ref) (λj σ H'=>Same H H'/\∃ (r:W9) (v v':Option V),RowAt H' r (lrow ms c j)/\σ=[some (.ref l),some (.int c),some (.ref r),v,v'])
  ⟨S1.trans (Z0f hr0 _),r0,_,_,⟨[],Z0d,.nil⟩,U⟩ (λi σ H' _ p=>p.1.seq (SqL.of T.lst)) ?_ ?_⟩
 ·rintro j x σ H2 t hx ⟨S2,r,v,v',R2,rfl⟩ ht
  rw[q0g] at hx
  obtain⟨p,hp,rfl⟩:=q0p.mp hx
  obtain⟨m,hm,pm⟩:=T.mks.get hp
  have jl:j<ms.length:=(q0o.mp hm).1
  have gm:ms.getD j (0,0,0)=m:=by rw[q0b,hm];rfl
  have L:=M88.Z5u c6 hbd TB j (by omega)
  have PR:=M88.X1a c6 hbd TB jl
  rw[gm] at PR
  obtain⟨v0,b0⟩:=Z5o L.ok
  have s3:=Z0f ht (.tup [.int j,.ref p])
  have e3:upd H2 t (.tup [.int j,.ref p]) t=some (.tup [.int j,.ref p]):=Z0d
  generalize upd H2 t (.tup [.int j,.ref p])=H3 at s3 e3 ⊢
  have ln:=q1b L.len (i114 j (by omega))
  have om:OkK c m:=by have:=T.ok m (q1g hm);exact⟨this.q,this.f,this.s⟩
  obtain⟨pr,hr2,rr2⟩:=id (R2.same s3)
  have lr2:pr.length=(lrow ms c j).length:=by have:=Z2b rr2;rw[q0a] at this;exact this
  refine⟨t,_,U,SqT.of e3,U,_,_,U,_,_,U,U,?_⟩
  refine⟨_,U,_,U,_,U,p,r,m,lrow ms c j,c,U,SqT.of ((S2.trans s3) _ _ pm),R2.same s3,om,c6,v0,b0,by omega,λm1 H4 S4 h4=>?_⟩
  refine⟨_,U,_,U,m1,mvds (lrow ms c j) m,j,c,U,h4,⟨PR.bd.k,PR.bd.f,PR.bd.s⟩,c6,PR.jc,PR.ev,PR.z,PR.nz,λra H5 na S5 R5=>?_⟩
  obtain⟨qa,ha5,rr5⟩:=R5
  have hr5:=S5 _ _ (S4 _ _ hr2)
  have lq5:qa.length=(layS (mvds (lrow ms c j) m) j c).length:=by have:=Z2b rr5;rw[q0a] at this;exact this
  have l3:=(M88.layT c6 PR.jc hbd PR.bd PR.ev PR.z PR.nz).2.2.1
  refine⟨r,ra,_,_,U,U,hr5,ha5,?_,λr1 hr1=>?_⟩
  ·rw[q0a,q0a]
   exact q1b (show _<=200 by omega) (by decide)
  have s6:=Z0f hr1 (.lst (pr.map V.ref++qa.map V.ref))
  refine⟨((S2.trans s3).trans (S4.trans S5)).trans s6,r1,_,_,⟨pr++qa,by rw[Z0d,q0i],?_⟩,U⟩
  show RowsM _ (pr++qa) ((lrow ms c j++layS (mvds (lrow ms c j) (ms.getD j (0,0,0))) j c).map mm)
  rw[gm,q0i]
  exact(Z4x (rr2.same (S4.trans S5)) rr5).same s6
 ·rintro σ H2 ⟨S2,r,v,v',R2,rfl⟩
  rw[q0a,lp] at R2
  have L:=M88.Z5u c6 hbd TB ms.length (q0l _)
  have ln:=q1b L.len (i114 _ l6)
  exact⟨_,U,r,_,U,R2,by omega,λr' H3 nr S3 R3=>q r' H3 (Z8w S2 nr) (S2.trans S3) R3⟩
theorem Y4h (F:FunAt K "check_table" (top 59) .none)(X:K.In h)(G:Ng h mg)(x:Exs K mg C D bm bm')(cP:Cal P w K mg base k "is_table" ["rows","cells"] (spIsT K)):CalX P w K mg base (k+1) "check_table" ["rows","cells"] (spChkX K C):=by
 have nd:=K76T.sc_checkt.nd
 refine F.calX X G K76T.sc_checkt (bnd2 λ_ _ _ _ _ _ _ _=>rfl) (λvs H Q E h=>?_) (λf cdv A outer s H vs Q E hr h=>?_)
 ·obtain⟨v,N,rfl,_⟩:=h;rfl
 obtain⟨v,N,rfl,N1,N6,t,kx⟩:=h
 refine⟨_,(@Z0e _ _ _ (Z0w (Z1h (Z1d (Z0m cP hr rfl (Z0a (pv 0) (Z0a (pv 1) Z0c))))) (@Z0e _ _ _ (Y9v flies_of rfl rfl x.mC x.xC (Z0a Z0y Z0c))) Z0o)),?_⟩
 try dsimp only[cxK]
 refine⟨_,U,_,U,v,N,U,N1,N6,?_⟩
 cases t with
 | odd ty e=>exact .inl ⟨_,ty,e,_,rfl,iteT ⟨by decide,kx H (Same.refl _)⟩⟩
 | item hl l13 pr no rd=>exact .inr (.inl ⟨_,_,_,rfl,hl,l13,pr,no,λH' S'=>⟨_,rfl,iteT ⟨by decide,kx H' S'⟩⟩⟩)
 | marks hl hm l12 ok no=>exact .inr (.inr ⟨_,_,_,rfl,hl,hm,l12,ok,λb H' S' tt=>by rw[no b tt];exact⟨_,rfl,iteT ⟨by decide,kx H' S'⟩⟩⟩)
theorem X0a (F:FunAt K "laid" (top 81) .none)(X:K.In h)(G:Ng h mg)(cK:CalX P w K mg base k "check_table" ["rows","cells"] (spChkX K C)):CalX P w K mg base (k+1) "laid" ["rows","cells"] (spChkX K C):=by
 have nd:=sc_laidr.nd
 refine F.calX X G sc_laidr (bnd2 λ_ _ _ _ _ _ _ _=>rfl) (λvs H Q E h=>?_) (λf cdv A outer s H vs Q E hr h=>?_)
 ·obtain⟨v,N,rfl,_⟩:=h;rfl
 obtain⟨v,N,rfl,N1,N6,t,kx⟩:=h
 refine⟨_,(@Z0g _ _ _ _ _ (Z2x (X4p cK (flies_of.passes λ_ _ _ z=>z) hr rfl (Z0a (pv 0) (Z0a (pv 1) Z0c)))) Y6e),?_⟩
 try dsimp only[cxK]
 exact⟨_,U,_,U,v,N,U,N1,N6,t,kx⟩
theorem sc_ref:FnScope ["_law_rows","_law_cells","_law_told","e","_law_others"] ["_law_rows","_law_cells"] (Z0h (top 96)):=fS
theorem X8t (F:FunAt K "_law_refused" (top 96) .none)(X:K.In h)(G:Ng h mg)(B:Bs mg)(x:Exs K mg C D bm bm')(dR:CalX P w K mg base k "laid" ["rows","cells"] (spChkX K C)):Cal P w K mg base (k+1) "_law_refused" ["_law_rows","_law_cells"] (spRefd K):=by
 have nd:=sc_ref.nd
 refine F.cal X G sc_ref (bnd2 λ_ _ _ _ _ _ _ _=>rfl) (λvs H Q E h=>?_) (λf cdv A outer s H vs Q E hr h=>?_)
 ·obtain⟨v,N,rfl,_⟩:=h;rfl
 obtain⟨v,N,rfl,N1,N6,t,kq⟩:=h
 refine⟨_,(@Z0g _ _ _ _ _ (@Z0q _ _ 2 _ _ _ _ nd rfl (Or.inl rfl) Z0b rfl (.inl rfl))
  (@Z0g _ _ _ _ _ (X4m (E:=λcls di H'=>cls=.ref C/\Same H H'/\di=none) (i:=3) ⟨U,U⟩ nd rfl rfl rfl x.mD x.xC.cls x.xD x.sub (λ_ _ _ z=>z.1)
   (λpins σ=>@Z0e _ _ _ (Z2x (X4q (σ0:=σ) dR hr rfl (Z0a (pv 0) (Z0a (pv 1) Z0c)))))
   (λa=>@Z0g _ _ _ _ _ (@Z0q _ _ 4 _ _ _ _ nd rfl (Or.inl rfl) (Y6n (Z0n Z2g rfl B.isinstance q1l (Z0a (pv 3) (Z0a (Y2y rfl x.mo_NoMark) Z0c))) (Y6n (Z0n Z2g rfl B.isinstance q1l (Z0a (pv 3) (Z0a (Y2y rfl x.mo_NotBorne) Z0c))) (Z2j (Z0n Z2g rfl B.isinstance q1l (Z0a (pv 3) (Z0a (Y2y rfl x.mo_NoText) Z0c)))))) rfl (.inl rfl))
    (@Z0e _ _ _ (Z0w (PW.pt (Z4y (Z1d (Z0n Z2g rfl B.isinstance q1l (Z0a (pv 3) (Z0a (Y2y rfl x.mC) Z0c)))) (Z4y (Z1d (Z0n Z2g rfl B.isinstance q1l (Z0a (pv 3) (Z0a (Z1w (v:=.ty "ValueError") rfl x.mV X6s rfl) Z0c)))) (Z3w (Z1h (Z1d (pv 4)))))))
     (@Z0e _ _ _ (@Z0q _ _ 2 _ _ _ _ nd rfl (Or.inl rfl) Z0b rfl (.inl rfl)))
     Z0o))))
  (@Z0e _ _ _ (Z0k (Z1b Z1m (pv 2) Z0b (nomark _)))))),?_⟩
 try dsimp only[cxK]
 refine⟨⟨_,U,_,U,U,v,N,U,N1,N6,t,λH' S=>⟨U,S,U⟩⟩,?_⟩
 rintro a cls di H1 ⟨rfl,S1,rfl⟩ ha
 have ea:upd H1 a (ExcO none a (.ref C)) a=some (ExcO none a (.ref C)):=Z0d
 have S2:=S1.trans (Z0f ha (ExcO none a (.ref C)))
 generalize upd H1 a (ExcO none a (.ref C))=H2 at ea S2 ⊢
 have dxx:Dx H2 none:=λd e=>by cases e
 refine⟨_,U,a,none,C,_,_,false,U,ea,dxx,x.kC,U,x.kn_NoMark,_,U,iteF ⟨_,U,a,none,C,_,_,false,U,ea,dxx,x.kC,U,x.kn_NotBorne,_,U,iteF ⟨_,U,a,none,C,_,_,false,U,ea,dxx,x.kC,U,x.kn_NoText,?_⟩⟩⟩
 refine⟨_,U,a,none,C,_,_,true,U,ea,dxx,x.kC,U,x.own,_,U,iteT ⟨_,U,a,none,C,_,_,true,U,ea,dxx,x.kC,U,x.ve,_,U,iteT ⟨_,U,_,U,iteT ?_⟩⟩⟩
 exact⟨_,U,U,kq _ S2⟩
end
end K55S
namespace K55S
open L2 Ba Am Pc M71
open K76 (top Bs Bd5 At5 ValsK Ams Steps spRunK Y0v st)
open M72 (VOk V4 sm En rowop)
open M75 (Mk mvd mvds Br lay)
open M77 (bk)
open M78 (okb)
open M88 (lrow)
open K76T (Tb3 Mks T3 L3)
theorem X8r {c:Nat}{x:Mv}(h:okb 0 c x=true):okb 0 c (bk x)=true:=by
 cases x with
 | turn a j =>
  simp only[okb,bk,q0u,q2x,q1f] at h ⊢
  omega
 | cross a b d=>cases h
 | pair a b=>cases h
 | flip a=>exact h
 | mix a=>exact h
 | iff a b=>exact h
 | swap a b=>exact h
structure LR (ms:List Mk) (c:Nat):Prop where
 ok:∀ x∈layRow ms c,okb 0 c x=true
 len:(layRow ms c).length<=ms.length*(3*c+1)
 n:ms.length<=c
 mkd:∀ i,i<ms.length->mvds (layRow ms c) (0,0,2^i)=ms.getD i (0,0,0)
theorem X5w {ms:List Mk}{c:Nat}(c6:c<=6)(T:M88.Tbl ms c):LR ms c:=by
 have L:=M88.Z5u c6 hbd T ms.length (q0l _)
 refine⟨λx hx=>?_,?_,L.jc,λi hi=>M88.Y7y c6 hbd T hi⟩
 ·unfold layRow M79.bwd at hx
  obtain⟨y,hy,rfl⟩:=q2k.mp hx
  exact X8r (L.ok y (List.mem_reverse.mp hy))
 ·unfold layRow M79.bwd
  rw[q0a,q6l]
  exact L.len
noncomputable def sF (c x:Nat):M72.Bv:=λw=>if w<2^c then sm (2^(40-(st x w).2.toNat)) (st x w).1 else (0,0,0,0)
theorem W1p (c x:Nat):∀ w,w<2^c->Vl 40 (sF c x w) (st x w):=λw hw=>by
 unfold sF
 rw[if_pos hw]
 have o:=K76.X3z x w
 exact Vl.of o.amt.nn o.le
theorem X4h {c x i:Nat}(h:x.testBit i=false):lay (0,0,2^i) (sF c x)=sF c x:=funext λw=>by
 rw[M86.W1v]
 cases b:w.testBit i with
 | false=>show sm 1 _=_;simp[sm]
 | true =>
  have ne:w≠x:=λz=>by rw[z,h] at b;cases b
  have z:sF c x w=(0,0,0,0):=by
   unfold sF K76.st
   rw[if_neg ne]
   split<;>simp[sm]
  rw[z]
  simp[sm]
theorem X1f {c x i:Nat}{ms:List Mk}{g:Nat->A5}(c6:c<=6)(T:M88.Tbl ms c)(hi:i<ms.length)(hx:x.testBit i=false)(s:Steps c ((layRow ms c).map gm) (st x) g)(ag:Ams c (layW (ms.getD i (0,0,0)) g)):∀ w,w<2^c->layW (ms.getD i (0,0,0)) g w=g w:=by
 have L:=X5w c6 T
 obtain⟨v,b⟩:=Z5o L.ok
 have bd:=T.bd _ (M88.getD_mem hi)
 obtain⟨l1,a1⟩:=Y2l c6 v (λw hw=>(K76.X3z x w).amt) (W1p c x) s
 have l2:=X9n (m:=ms.getD i (0,0,0)) (⟨bd.k,bd.f,bd.s⟩:OkK c _) l1
 have e:=Y7x (c:=c) (row:=layRow ms c) (sF c x) (0,0,2^i) v b
 rw[X4h hx,L.mkd i hi] at e
 intro w hw
 have q:=l2 w hw
 rw[<-e] at q
 exact Vl.same q (l1 w hw) (ag w hw) (a1 w hw)
theorem X1b (w n i:Nat)(h:i<n):(w / 2^n*2^n).testBit i=false:=by
 rw[Nat.mul_comm,Nat.testBit_two_pow_mul,q0k (by omega)]
 rfl
def Y5x (K:U0):Sp:=λvs H Q _=>∃ (l lr:W9) (ps:U3) (ms:List Mk) (c wd:Nat),vs=[.ref l,.int c,.int wd,.ref lr]/\Tb3 c H l ps ms/\1<=c/\c<=6/\wd<2^c/\RowAt H lr (layRow ms c)/\∀ H',Same H H'->Q (.bl true) H'
section
variable {P:U8}{w:W1}{K:U0}{mg:U4}{base:Heap}{k:Nat}{h:Heap}
theorem sc_begun:FnScope ["_law_rows","_law_cells","_law_word","_law_row","_law_board","_law_mark"] ["_law_rows","_law_cells","_law_word","_law_row"] (Z0h (top 98)):=fS
theorem X0s (F:FunAt K "_law_begun" (top 98) .none)(X:K.In h)(G:Ng h mg)(B:Bs mg)(eY:Cal P w K mg base k "start" ["cells","word"] (Y0v K))(eZ:Cal P w K mg base k "run" ["board","row"] (spRunK K))(eQ:Cal P w K mg base k "laid_on" ["board","mark"] (spLayK K)):Cal P w K mg base (k+1) "_law_begun" ["_law_rows","_law_cells","_law_word","_law_row"] (Y5x K):=by
 have nd:=sc_begun.nd
 refine F.cal X G sc_begun (bnd4 λ_ _ _ _ _ _ _ _ _ _=>rfl) (λvs H Q E h=>?_) (λf cdv A outer s H vs Q E hr h=>?_)
 ·obtain⟨l,lr,ps,ms,c,wd,rfl,_⟩:=h;rfl
 obtain⟨l,lr,ps,ms,c,wd,rfl,T,c1,c6,hw,R,kq⟩:=h
 have TB:=Y5l T
 have L:=X5w c6 TB
 have hS:SqL K H l (ps.map V.ref):=SqL.of T.lst
 have lps:(ps.map V.ref).length=ms.length:=by rw[q0a,T.mks.length]
 have n6:ms.length<=6:=T.len
 have p6:=pow6 c6
 have pn:2^ms.length<=64:=pow6 n6
 have pn0:=q0w ms.length
 have ln:(layRow ms c).length<=200:=q1b L.len (q1b (q8g n6 (show 3*c+1<=19 by omega)) (by decide))
 obtain⟨v,b⟩:=Z5o L.ok
 obtain⟨rp,rw1⟩:=X8a R v ln
 have xlt:wd / 2^ms.length*2^ms.length<2^c:=q2t (Nat.div_mul_le_self _ _) hw
 have e1:(1:Int)*2^((((ps.map V.ref).length:Nat):Int)).toNat=((2^ms.length:Nat):Int):=by rw[lps];simp
 have ex:((wd:Int).fdiv ((1:Int)*2^((((ps.map V.ref).length:Nat):Int)).toNat))*((1:Int)*2^((((ps.map V.ref).length:Nat):Int)).toNat)=((wd / 2^ms.length*2^ms.length:Nat):Int):=by
  rw[e1,q3d _ (by omega)]
  simp
 refine⟨_,(@Z1g _ _ _ _ _ (@Z0q _ _ 4 _ _ _ _ nd rfl (Or.inl rfl) (Z0m eZ hr rfl (Z0a (Z0m eY hr rfl (Z0a (pv 1) (Z0a (Z0j Y6x (Z0j Y3d (pv 2) (Z0j Z1j Z0b (Z0n Z0r rfl B.len q1k (Z0a (pv 0) Z0c)))) (Z0j Z1j Z0b (Z0n Z0r rfl B.len q1k (Z0a (pv 0) Z0c)))) Z0c))) (Z0a (pv 3) Z0c))) rfl (.inl rfl))
  (@Z0g _ _ _ _ _ (Z2w PassesOwn.never rfl (Z1p (pv 0)) (Z0t (i:=5) nd rfl (Or.inl rfl))
   (@Z0e _ _ _ (Z0w (Z0p (Y3c hr.units) (Z0m eQ hr rfl (Z0a (pv 4) (Z0a (pv 5) Z0c))) (pv 4) (nomark _))
    (@Z0e _ _ _ (Z0k Z2k))
    Z0o)))
  (@Z0e _ _ _ (Z0k Z2k)))),?_⟩
 try dsimp only[cxK]
 refine⟨λσ H'=>Same H H'/\∃ (bo:W9) (qs:U3) (g:Nat->A5),Bd5 K H' bo qs g c (100+1010*((layRow ms c).map gm).length) (40+((layRow ms c).map gm).length)/\Steps c ((layRow ms c).map gm) (st (wd / 2^ms.length*2^ms.length)) g/\σ=[some (.ref l),some (.int c),some (.int wd),some (.ref lr),some (.ref bo),none],?_,?_⟩
 ·refine⟨_,U,_,U,_,U,l,_,U,.inl hS,_,_,U,U,⟨1,sz1,by omega,by rw[lps];omega⟩,_,_,U,U,⟨by rw[e1];omega,by rw[e1];exact(show Sz 7 ((2^ms.length:Nat):Int) by unfold Sz;rw[q4p];omega).mono (by decide)⟩,_,U,l,_,U,.inl hS,_,_,U,U,⟨1,sz1,by omega,by rw[lps];omega⟩,_,_,U,U,?_,?_⟩
  ·refine⟨7,7,?_,?_,by decide⟩
   ·show Sz 7 ((wd:Int).fdiv ((1:Int)*2^((((ps.map V.ref).length:Nat):Int)).toNat))
    rw[e1,q3d _ (by omega),show (wd:Int) / ((2^ms.length:Nat):Int)=((wd / 2^ms.length:Nat):Int) from rfl]
    unfold Sz
    rw[q4p]
    have:=Nat.div_le_self wd (2^ms.length)
    omega
   ·show Sz 7 ((1:Int)*2^((((ps.map V.ref).length:Nat):Int)).toNat)
    rw[e1]
    unfold Sz
    rw[q4p]
    omega
  refine⟨c,wd / 2^ms.length*2^ms.length,?_,c1,c6,xlt,λr1 H2 qs nr S2 B2=>?_⟩
  ·show [V.int c,V.int _]=_
   rw[<-ex]
  exact⟨_,U,r1,lr,qs,rp,_,c,100,40,(layRow ms c).map gm,U,rw1.same S2,B2,c6,by decide,by decide,λr H3 qs3 g nr3 S3 B3 st3=>⟨S2.trans S3,r,qs3,g,B3,st3,U⟩⟩
 rintro σ H1 ⟨S1,bo,qs,g,B1,st1,rfl⟩
 refine⟨_,U,l,U,⟨_,S1.seq hS⟩,Z3d (K:=K) (a:=l) (xs:=ps.map V.ref) (λi σ H'=>Same H1 H'/\∃ v:Option V,σ=[some (.ref l),some (.int c),some (.int wd),some (.ref lr),some (.ref bo),v])
  ⟨Same.refl _,none,U⟩ (λi σ H' _ e=>(S1.trans e.1).seq hS) ?_ ?_⟩
 ·rintro i x σ H2 hx ⟨S2,v2,rfl⟩
  rw[q0g] at hx
  obtain⟨p,hp,rfl⟩:=q0p.mp hx
  obtain⟨m,hm,pm⟩:=T.mks.get hp
  have il:i<ms.length:=(q0o.mp hm).1
  have em:ms.getD i (0,0,0)=m:=by rw[q0b,hm];rfl
  have om:=T.ok m (q1g hm)
  refine⟨_,U,_,U,bo,p,qs,g,c,_,_,m,U,B1.same S2,c6,SqT.of ((S1.trans S2) _ _ pm),⟨om.q,om.f,om.s⟩,λr H3 qs' nr S3 B3=>?_⟩
  have B13:=B1.same (S2.trans S3)
  have eq:=X1f c6 TB il (X1b wd ms.length i il) st1 (by rw[em];exact λw hw=>(B3.ok w hw).amt)
  rw[em] at eq
  have er:((List.range (2^c)).map λi=>l5 (layW m g i))=(List.range (2^c)).map λi=>l5 (g i):=q5f λi hi=>by rw[eq i (q1c.mp hi)]
  refine⟨_,U,r,bo,qs',qs,_,_,U,U,B3.lst,B13.lst,X2n B3,X2n B13,_,U,nblI (λz=>absurd er (q3u z)) (λ_=>⟨S2.trans S3,_,U⟩)⟩
 ·rintro σ H2 ⟨S2,v2,rfl⟩
  exact kq _ (S1.trans S2)
end
end K55S
namespace K76
open L2 Am Pc Ba
def spLaw (K:U0)(n:Nat):Sp:=λvs H Q _=>∃ (a:W9) (ns:U6),vs=[.ref a]/\SqL K H a (ns.map V.int)/\ns.length<=n/\∀ H',Q (.bl true) H'
theorem kept5 {K:U0}{a:W9}{od:W5}{sl:W4}{n:Nat}{v1 v2 v3 v4 v5:Int}{t1 t2 t3 t4 t5:Tok}(h:K.lookup a=some ⟨.type "tuple",od,.seq #[.int v1 t1,.int v2 t2,.int v3 t3,.int v4 t4,.int v5 t5] n,sl⟩)(H:Hp):At5 K H a ((v1,v2,v3,v4),v5) :=
 .inr ⟨_,_,_,h,U,U,(show 5<=sizeLine by decide),.cons ⟨_,U⟩ (.cons ⟨_,U⟩ (.cons ⟨_,U⟩ (.cons ⟨_,U⟩ (.cons ⟨_,U⟩ .nil))))⟩
end K76
namespace K55S
open L2 Ba Am Pc M71
open K76 (top Bs Bd5)
open M72 (VOk)
open M75 (Mk mvd mvds Br)
open M78 (okb)
open K76T (Tb3 Mks T3 L3 Y0u spNone NoTab)
noncomputable abbrev m3 (m:Mk):List Int:=[(m.1:Int),(m.2.1:Int),(m.2.2:Int)]
theorem rows3 {K:U0}{H:Hp}:∀ {ps:U3}{ms:List Mk},Mks H ps ms->Rows5K K H ps (ms.map m3)
 | [],[],.nil=>.nil
 | _::_,_::_,.cons e r=>.cons (SqT.of e) (rows3 r)
theorem p9':(0:Int)<10^(9:Int).toNat:=by decide
theorem sz4' {c:Nat}(c1:1<=c)(c6:c<=6):(4*c<2^6)/\c<2^3/\c*(3*c+1)<=4*c*c+8*c:=by
 have:c=1∨c=2∨c=3∨c=4∨c=5∨c=6:=by omega
 rcases this with rfl | rfl | rfl | rfl | rfl | rfl<;>decide
theorem W1d (n:Nat):(List.replicate n true).all id=true:=by
 induction n with
 | zero=>rfl
 | succ n ih=>rw[List.replicate_succ,q8m,ih];rfl
section
variable {P:U8}{w:W1}{K:U0}{mg:U4}{base:Heap}{k:Nat}{h:Heap}
theorem sc_law:FnScope ["_law_script","_law_head","_law_cells","_law_rows","_law_kept","_law_row","_law_place"] ["_law_script"] (Z0h (top 99)):=fS
theorem X8w {n:Nat}(hn:n<=63){f:W9}{fd:FuncData}(F:Fun K "law" "law" (top 99) f fd)(B:Bs mg)(cI:Cal P w K mg base k "_law_cell_at" ["_law_script","_law_k"] (spCell K))(dO:Cal P w K mg base k "_law_table" ["_law_drawn","_law_cells","_law_most"] (Y0u K))(dD:Cal P w K mg base k "_law_none_by" ["_law_rows","_law_cells","_law_far"] (spNone K))(dF:Cal P w K mg base k "_law_refused" ["_law_rows","_law_cells"] (spRefd K))(dR:Cal P w K mg base k "laid" ["rows","cells"] Y5s)(dC:Cal P w K mg base k "_law_is_move" ["_law_move","_law_cells"] spIsMv)(dU:Cal P w K mg base k "moved_mark" ["mark","row"] (X4b K))(dN:Cal P w K mg base k "_law_begun" ["_law_rows","_law_cells","_law_word","_law_row"] (Y5x K)) :
  FnOk P w K mg base CX0 (k+1) f fd ["_law_script"] (K76.spLaw K n):=by
 have nd:=sc_law.nd
 refine F.ok sc_law (λvs H Q E h=>?_) (λcdv A outer s H vs Q E hr h=>?_)
 ·obtain⟨a,ns,rfl,_⟩:=h;rfl
 obtain⟨sa,nl,rfl,hS,h63,kk⟩:=h
 refine⟨_,(@Z1g _ _ _ _ _ (@Z0q _ _ 1 _ _ _ _ nd rfl (Or.inl rfl) (Z0m cI hr rfl (Z0a (pv 0) (Z0a Z0b Z0c))) rfl (.inl rfl))
  (@Z1g _ _ _ _ _ (@Z0q _ _ 2 _ _ _ _ nd rfl (Or.inr rfl) (Z0j Z1r Z0b (Z0j Z1e (pv 1) Z0b)) rfl (.inl rfl))
  (@Z1g _ _ _ _ _ (@Z0q _ _ 3 _ _ _ _ nd rfl (Or.inl rfl) (Z0m dO hr rfl (Z0a (Z1y Z8o (pv 0) (Z2a Z0b) (Z2a Z0b)) (Z0a (pv 2) (Z0a (Z0j Z1e (Z0j Z2r (pv 1) Z0b) Z0b) Z0c)))) rfl (.inl rfl))
  (@Z0g _ _ _ _ _ (Z0w (Z0p Z1m (Z0j Z1e (Z0j Z2r (pv 1) Z0b) Z0b) Z0b (nomark _))
   (@Z0e _ _ _ (Z0k (Z0m dF hr rfl (Z0a (Z0m dD hr rfl (Z0a (pv 3) (Z0a (pv 2) (Z0a (Z0j Z1e (Z0m cI hr rfl (Z0a (pv 0) (Z0a Z0b Z0c))) (Z0j X2s Z0b Z0b)) Z0c)))) (Z0a (pv 2) Z0c)))))
   Z0o)
  (@Z1g _ _ _ _ _ (@Z0q _ _ 4 _ _ _ _ nd rfl (Or.inl rfl) (Z3z Z6f rfl B.list q6x (Z0a (pv 3) Z0c)) rfl (.inl rfl))
  (@Z1g _ _ _ _ _ (@Z0q _ _ 5 _ _ _ _ nd rfl (Or.inl rfl) (Z0m dR hr rfl (Z0a (pv 3) (Z0a (pv 2) Z0c))) rfl (.inl rfl))
  (@Z0g _ _ _ _ _ (Z0w (PW.pt (Z3n (Z0p (Y3c hr.units) (pv 3) (pv 4) (nomark _)) (Z3n (Z1h (Z1d (Z0n Z0x rfl B.isinstance q1l (Z0a (pv 5) (Z0a (Z1w (v:=.ty "list") rfl B.list q6x rfl) Z0c))))) (Z3r (Z0p Y4g (Z0n Z0r rfl B.len q1k (Z0a (pv 5) Z0c)) (Z0j Z1r (Z0j Y6x (Z0j Z4b Z0b (pv 2)) (pv 2)) (Z0j Z4b Z0b (pv 2))) (nomark _))))))
   (@Z0e _ _ _ (Z0k Z2k))
   Z0o)
  (@Z0g _ _ _ _ _ (Z0w (Z1h (Z1d (Z0n (Z2h rfl) rfl B.all q6o (Z0a (Z3e rfl (LcOk.of (Nc:=["_law_move","_law_cells"]) (mp:=[none,some 2]) (by kernel_rfl)) (Z1p (pv 5)) (λ_ _ _ _=>(Z0t (i:=0) (show (["_law_move","_law_cells"]:W0).Nodup by decide +kernel) rfl (Or.inl rfl))) (λ_ _ _ _=>(Z0m dC hr rfl (Z0a (pv 0) (Z0a (pv 1) Z0c))))) Z0c))))
   (@Z0e _ _ _ (Z0k Z2k))
   Z0o)
  (@Z0g _ _ _ _ _ (Z2w PassesOwn.never rfl (Z1v rfl B.range (Z0a (Z0n Z0r rfl B.len q1k (Z0a (pv 4) Z0c)) Z0c)) (Z0t (i:=6) nd rfl (Or.inl rfl))
   (@Z0e _ _ _ (Z0w (Z0p (Y6w hr.units) (Z0m dU hr rfl (Z0a (@Z1a _ _ _ _ _ (Z0a Z0b (Z0a Z0b (Z0a (Z0j Z1j Z0b (pv 6)) Z0c)))) (Z0a (pv 5) Z0c))) (Z0l Z1k (pv 4) (pv 6) (λ_ _=>rfl)) (nomark _))
    (@Z0e _ _ _ (Z0k Z2k))
    Z0o)))
  (@Z0e _ _ _ (Z0k (Y6n (Z1b Y4g (pv 2) Z0b (nomark _)) (Z2j (Z0m dN hr rfl (Z0a (pv 4) (Z0a (pv 2) (Z0a (Z0j Z1e (Z0m cI hr rfl (Z0a (pv 0) (Z0a Z0b Z0c))) (Z0j Z1j Z0b (pv 2))) (Z0a (pv 5) Z0c)))))))))))))))))),?_⟩
 try dsimp only[cxK]
 have C4:(0:Int)<4:=by decide
 refine⟨λσ H'=>H'=H/\∃ hd:Int,σ=[some (.ref sa),some (.int hd),none,none,none,none,none],⟨_,U,sa,nl,0,U,hS,Int.le_refl 0,U,_,U⟩,?_⟩
 rintro σ1 H ⟨rfl,hd,rfl⟩
 refine⟨λσ H'=>H'=H/\∃ N:Nat,1<=N/\N<=6/\σ=[some (.ref sa),some (.int hd),some (.int (N:Nat)),none,none,none,none],?_,?_⟩
 ·have e0:=q5t hd (show (6:Int)≠0 by decide)
  have e1:=q5u hd (show (0:Int)<6 by decide)
  obtain⟨N,eN⟩:∃ N:Nat,1+hd%6=(N:Int):=⟨(1+hd%6).toNat,by omega⟩
  refine⟨_,U,_,_,U,U,(by decide:(0:Int)<6),_,_,U,U,U,N,by omega,by omega,?_⟩
  rw[<-eN]
  rfl
 rintro σ2 H ⟨rfl,N,N1,N6,rfl⟩
 obtain⟨dr,edr⟩:∃ dr:List Int,cutV (nl.map V.int) (some 3) (some 63)=dr.map V.int:=by
  unfold cutV
  rw[<-List.map_drop,<-q8l]
  exact⟨_,U⟩
 refine⟨λσ H'=>Same H H'/\∃ (lr:W9) (ps:U3) (ms:List Mk),Tb3 N H' lr ps ms/\σ=[some (.ref sa),some (.int hd),some (.int (N:Nat)),some (.ref lr),none,none,none],?_,?_⟩
 ·refine⟨_,U,_,U,_,U,sa,_,U,hS,λcp hcp=>?_⟩
  rw[edr]
  have s1:=Z0f hcp (.lst (dr.map V.int))
  refine⟨_,U,_,U,_,_,U,U,⟨by decide,by decide⟩,_,_,U,U,(by decide:(0:Int)<7),cp,dr,N,_,U,SqL.of Z0d,N6,?_,λlr H' ps ms nr S' T=>⟨s1.trans S',lr,ps,ms,T,U⟩⟩
  have:=q5u (hd / 6) (show (0:Int)<7 by decide)
  show hd / 6%7<=6
  omega
 rintro σ3 H1 ⟨S1,lr,ps,ms,T1,rfl⟩
 refine⟨_,U,_,_,U,U,⟨by decide,by decide⟩,_,_,U,U,C4,U,_,U,eqI (λ_=>?_) (λ_=>?_)⟩
 ·obtain⟨far,ef⟩:∃ far:Nat,cell nl 2%10^(9:Int).toNat=far:=⟨(cell nl 2%10^(9:Int).toNat).toNat,by have:=q5t (cell nl 2) (q6t p9');omega⟩
  refine⟨_,U,_,U,_,U,sa,nl,2,U,S1.seq hS,by decide,_,_,U,U,⟨by decide,by decide,by decide⟩,_,_,U,U,p9',lr,ps,ms,N,far,?_,T1,N1,N6,λv H' S' t=>⟨_,U,v,N,U,N1,N6,t,λH'' _=>kk _⟩⟩
  show [V.ref lr,V.int (N:Nat),V.int (cell nl 2%10^(9:Int).toNat)]=_
  rw[ef]
 have TB:=Y5l T1
 have L:=X5w N6 TB
 have n6:ms.length<=6:=T1.len
 have lms:=T1.mks.length
 obtain⟨z1,z2,z3⟩:=sz4' N1 N6
 have ll:(layRow ms N).length<=4*N*N+8*N:=q1b L.len (q1b (Nat.mul_le_mul_right _ L.n) z3)
 have l200:(layRow ms N).length<=190:=q1b L.len (q1b (q8g n6 (show 3*N+1<=19 by omega)) (by decide))
 obtain⟨v1,b1⟩:=Z5o L.ok
 refine⟨λσ H'=>Same H1 H'/\∃ lk:Addr,Tb3 N H' lk ps ms/\σ=[some (.ref sa),some (.int hd),some (.int (N:Nat)),some (.ref lr),some (.ref lk),none,none],?_,?_⟩
 ·refine⟨_,U,lr,_,U,.inl (SqL.of T1.lst),λlk hlk=>?_⟩
  have s5:=Z0f hlk (.lst (ps.map V.ref))
  exact⟨s5,lk,⟨Z0d,T1.mks.same s5,T1.ok,T1.tb,T1.len⟩,U⟩
 rintro σ4 H2 ⟨S2,lk,K2,rfl⟩
 refine⟨λσ H'=>Same H2 H'/\∃ la:Addr,RowAt H' la (layRow ms N)/\σ=[some (.ref sa),some (.int hd),some (.int (N:Nat)),some (.ref lr),some (.ref lk),some (.ref la),none],?_,?_⟩
 ·exact⟨_,U,_,U,lr,ps,ms,N,U,T1.same S2,N1,N6,λr H' nr S' R'=>⟨S',r,R',U⟩⟩
 rintro σ5 H3 ⟨S3,la,R3,rfl⟩
 have T3':=T1.same (S2.trans S3)
 have K3:=K2.same S3
 have S03:=S1.trans (S2.trans S3)
 obtain⟨pr,hr6,rr6⟩:=id R3
 have lpr:pr.length=(layRow ms N).length:=by have:=Z2b rr6;rw[q0a] at this;exact this
 refine⟨_,U,_,U,lr,lk,ps,ps,_,_,U,U,T3'.lst,K3.lst,rows3 T3'.mks,rows3 K3.mks,_,U,?_⟩
 rw[q0q rfl]
 refine iteF ⟨_,U,_,_,_,true,U,TyOf.lst hr6,K76T.Y7z K,_,U,iteF ⟨_,U,la,_,U,.inl (SqL.of hr6),_,U,_,_,U,U,.inl ⟨by decide,by decide⟩,_,U,_,_,U,U,⟨6,3,?_,?_,by decide⟩,_,U,_,_,U,U,.inl ⟨by decide,by decide⟩,_,_,U,U,_,_,U,U,_,U,decI (λz=>absurd z ?_) (λ_=>?_)⟩⟩
 ·unfold Sz;omega
 ·unfold Sz;omega
 ·rw[q0a,lpr]
  have:((4*N*N+8*N:Nat):Int)=4*(N:Int)*(N:Int)+8*(N:Int):=by simp
  omega
 have SR:SqL K H3 la (pr.map V.ref):=SqL.of hr6
 refine⟨_,U,la,U,⟨_,SR⟩,λacc hacc=>?_⟩
 refine Z7g (K:=K) (a:=la) (xs:=pr.map V.ref) (fr:=[some (.int N)]) (λi ys H'=>Same H3 H'/\H' acc=some (.lst ys)/\ys=(List.replicate i true).map V.bl) (by rw[q0a];exact q1b (show _<=190 by omega) (by decide)) ⟨Z0f hacc _,Z0d,U⟩ (λi ys H' e=>e.1.seq SR) ?_ ?_
 ·rintro i x ys H7 N' hx hy ⟨s7,a7,rfl⟩ kN
  rw[q0g] at hx
  obtain⟨p,hp,rfl⟩:=q0p.mp hx
  obtain⟨x,hxm,ex⟩:=Z4w rr6 hp
  refine⟨_,U,_,U,p,x,N,U,s7 _ _ ex,L.ok x (q1g hxm),λH8 s8=>kN _ H8 (s8 _ _ a7) ⟨Z0v (s7.trans s8) hacc,Z0d,?_⟩⟩
  rw[List.replicate_succ',q0i]
  rfl
 rintro ys H4 hy ⟨S4,a4,rfl⟩
 refine⟨acc,_,U,SqL.of a4,_,U,?_⟩
 rw[W1d]
 refine iteF ?_
 have K4:=K3.same S4
 have R4:=R3.same S4
 refine⟨_,U,lk,_,U,.inl (SqL.of K4.lst),_,U,by omega,by rw[q0a,lms];omega,?_⟩
 rw[q0x,q0a,lms]
 refine Z7k (n:=ms.length) (λj σ H'=>Same H4 H'/\∃ v:Option V,σ=[some (.ref sa),some (.int hd),some (.int (N:Nat)),some (.ref lr),some (.ref lk),some (.ref la),v]) ⟨Same.refl _,none,U⟩ ?_ ?_
 ·rintro j σ H5 hj ⟨S5,v,rfl⟩
  have j0:((1:Int)*2^((0+(j:Int)).toNat))=((2^j:Nat):Int):=by rw[q3x,q8j,q0x,Int.natCast_pow];rfl
  have ip:ps[j]?=some (ps[j]'(by rw[lms];exact hj)):=q0d _
  generalize ps[j]'(by rw[lms];exact hj)=p at ip
  have K5:=K4.same S5
  obtain⟨m,hm,pm⟩:=K5.mks.get ip
  have em:ms.getD j (0,0,0)=m:=by rw[q0b,hm];rfl
  refine⟨_,U,_,_,U,U,⟨1,sz1,by omega,by omega⟩,(show 3<=sizeLine by decide),λt ht=>?_⟩
  have s6:=Z0f ht (.tup [V.int 0,V.int 0,V.int (1*2^((0+(j:Int)).toNat))])
  have e6:upd H5 t (.tup [V.int 0,V.int 0,V.int (1*2^((0+(j:Int)).toNat))]) t=some (T3 (0,0,2^j)):=by rw[Z0d,j0];rfl
  generalize upd H5 t (.tup [V.int 0,V.int 0,V.int (1*2^((0+(j:Int)).toNat))])=H6 at s6 e6 ⊢
  have S46:=S5.trans s6
  refine⟨_,U,t,la,(0,0,2^j),layRow ms N,N,U,SqT.of e6,R4.same S46,⟨(show 0<4 by decide),q0w N,q1p (by decide) (q0f hj L.n)⟩,N6,v1,b1,by omega,λr H7 S7 h7=>?_⟩
  rw[L.mkd j hj,em] at h7
  refine⟨_,U,_,U,lk,_,_,.ref p,U,U,SqL.of ((K4.same (S46.trans S7)).lst),by rw[q3x];exact L2.Z3b (by rw[q0g,ip];rfl),r,p,m3 m,m3 m,U,U,h7,SqT.of ((s6.trans S7) _ _ pm),_,U,nblI (λz=>absurd rfl (q3u z)) (λ_=>⟨S46.trans S7,_,U⟩)⟩
 rintro σ H5 ⟨S5,v,rfl⟩
 have K5:=K4.same S5
 have R5:=R4.same S5
 refine⟨_,U,_,_,U,U,_,U,decI (λ_=>kk _) (λ_=>?_)⟩
 have e1:(1:Int)*2^((N:Int).toNat)=((2^N:Nat):Int):=by rw[q8j,q0x,Int.natCast_pow];rfl
 have p0:=q0w N
 obtain⟨wd,ew⟩:∃ wd:Nat,cell nl 1%((1:Int)*2^((N:Int).toNat))=wd:=⟨(cell nl 1%((1:Int)*2^((N:Int).toNat))).toNat,by have:=q5t (cell nl 1) (show ((1:Int)*2^((N:Int).toNat))≠0 by rw[e1];omega);omega⟩
 have wl:wd<2^N:=by
  have:=q5u (cell nl 1) (show (0:Int)<((1:Int)*2^((N:Int).toNat)) by rw[e1];omega)
  rw[ew,e1] at this
  omega
 refine⟨_,U,_,U,_,U,sa,nl,1,U,(S03.trans (S4.trans S5)).seq hS,by decide,_,U,_,_,U,U,⟨1,sz1,by omega,by omega⟩,_,_,U,U,by rw[e1];omega,_,U,lk,la,ps,ms,N,wd,?_,K5,N1,N6,wl,R5,λH' _=>kk _⟩
 show [V.ref lk,V.int (N:Nat),V.int (cell nl 1%((1:Int)*2^((N:Int).toNat))),V.ref la]=_
 rw[ew]
end
end K55S
noncomputable section
namespace K76
open L2
theorem W1e {l:PySem.W.OpenLaw}{w:W1}{K:U0}{h:Heap}{mg:U4}{fa f:W9}(X:K.In h)(G:Ng h mg)(hfa:mg "law"=some (.ref fa))
  {od an:W5}{sl:W4}{oc kV dc pm cd ct:W2}{aN aO aZ Dd:W9}{odO odZ odD:W5}{slO slZ slD:W4}{ocD:W2}{nO nZ nD:Nat}{d0 o1 o2 o3 o4 o5 y1 y2 y3 y4 y5:Tok}{nN:Nat}{a1 a2 a3 a4 a5 a6 a7 b1 b2 b3 b4 b5 b6 b7 tM:Tok}{C D aP A_NoMark A_NotBorne A_NoText:W9}{bm bm2:U5}{odP:W5}{slP:W4}{nP:Nat}{e0 e1 e2 tC:Tok}
  (aL:PySem.W.nsIn K mainGlobals "law"=some (some (.ref f))) (lL:K.lookup f=some ⟨oc,od,.func (PySem.W.fnOf "law" "law" (Z1f (top 99)) (Z1c (top 99)) (Z0h (top 99)) .none kV dc pm an cd ct),sl⟩) (cL:PySem.W.codeIn K cd "law"=true) (kL:PySem.W.keepIn K (.ref f)=true)
  (t10:FunAt K "is_whole" (top 10) .none)
  (t13:FunAt K "ones" (top 13) .none)
  (t14:FunAt K "is_word" (top 14) .none)
  (t15:FunAt K "is_mark" (top 15) .none)
  (t16:FunAt K "is_even" (top 16) .none)
  (t17:FunAt K "is_even_mark" (top 17) .none)
  (t18:FunAt K "commute" (top 18) .none)
  (t19:FunAt K "product" (top 19) .none)
  (t20:FunAt K "turned_about" (top 20) .none)
  (t21:FunAt K "cell_sign" (top 21) .none)
  (t23:FunAt K "halved_out" (top 23) .none)
  (t24:FunAt K "plus" (top 24) .none)
  (t25:FunAt K "minus" (top 25) .none)
  (t26:FunAt K "spun" (top 26) .none)
  (t27:FunAt K "spun_once" (top 27) .none)
  (t28:FunAt K "rooted" (top 28) .none)
  (t33:FunAt K "start" (top 33) (.ref Dd))
  (t34:FunAt K "check_beginning" (top 34) .none)
  (t35:FunAt K "cells_of" (top 35) .none)
  (t36:FunAt K "laid_on" (top 36) .none)
  (t37:FunAt K "spun_by_mark" (top 37) .none)
  (t40:FunAt K "check_move" (top 40) .none)
  (t41:FunAt K "has_move_form" (top 41) .none)
  (t42:FunAt K "named_cells" (top 42) .none)
  (t43:FunAt K "turned" (top 43) .none)
  (t44:FunAt K "mixed" (top 44) .none)
  (t45:FunAt K "mixed_at" (top 45) .none)
  (t46:FunAt K "spun_where" (top 46) .none)
  (t47:FunAt K "word_behind" (top 47) .none)
  (t48:FunAt K "exchanged" (top 48) .none)
  (t49:FunAt K "back_move" (top 49) .none)
  (t51:FunAt K "solved" (top 51) .none)
  (t52:FunAt K "cleared" (top 52) .none)
  (t53:FunAt K "places_at_one" (top 53) .none)
  (t54:FunAt K "solution" (top 54) .none)
  (t57:FunAt K "is_table" (top 57) .none)
  (t58:FunAt K "commutes_with_all" (top 58) .none)
  (t59:FunAt K "check_table" (top 59) .none)
  (t60:FunAt K "least_cell" (top 60) .none)
  (t61:FunAt K "made_of" (top 61) .none)
  (t62:FunAt K "rows_with" (top 62) .none)
  (t63:FunAt K "product_of" (top 63) .none)
  (t64:FunAt K "apart_by" (top 64) .none)
  (t66:FunAt K "borne" (top 66) .none)
  (t67:FunAt K "is_borne" (top 67) .none)
  (t68:FunAt K "is_odd_turn" (top 68) .none)
  (t69:FunAt K "moved_mark" (top 69) .none)
  (t70:FunAt K "check_borne" (top 70) .none)
  (t71:FunAt K "moved_through" (top 71) .none)
  (t72:FunAt K "moved_by" (top 72) .none)
  (t73:FunAt K "moved_by_mix" (top 73) .none)
  (t74:FunAt K "moved_by_turn" (top 74) .none)
  (t75:FunAt K "moved_by_if" (top 75) .none)
  (t76:FunAt K "moved_by_pair" (top 76) .none)
  (t78:FunAt K "run" (top 78) .none)
  (t79:FunAt K "backward" (top 79) .none)
  (t81:FunAt K "laid" (top 81) .none)
  (t82:FunAt K "layer_to_sign" (top 82) .none)
  (t83:FunAt K "moves_to_sign" (top 83) .none)
  (t85:FunAt K "_law_cell_at" (top 85) .none)
  (t86:FunAt K "_law_whole" (top 86) .none)
  (t87:FunAt K "_law_ones" (top 87) .none)
  (t88:FunAt K "_law_product" (top 88) .none)
  (t89:FunAt K "_law_commute" (top 89) .none)
  (t90:FunAt K "_law_even_mark" (top 90) .none)
  (t91:FunAt K "_law_fits" (top 91) .none)
  (t92:FunAt K "_law_table" (top 92) .none)
  (t93:FunAt K "_law_least" (top 93) .none)
  (t94:FunAt K "_law_bad_row" (top 94) .none)
  (t95:FunAt K "_law_none_by" (top 95) .none)
  (t96:FunAt K "_law_refused" (top 96) .none)
  (t97:FunAt K "_law_is_move" (top 97) .none)
  (t98:FunAt K "_law_begun" (top 98) .none)
  (z0:PySem.W.nsIn K mainGlobals "isinstance"=some none)
  (z1:PySem.W.nsIn K mainGlobals "int"=some none)
  (z2:PySem.W.nsIn K mainGlobals "bool"=some none)
  (z3:PySem.W.nsIn K mainGlobals "tuple"=some none)
  (z4:PySem.W.nsIn K mainGlobals "list"=some none)
  (z5:PySem.W.nsIn K mainGlobals "len"=some none)
  (z6:PySem.W.nsIn K mainGlobals "range"=some none)
  (z7:PySem.W.nsIn K mainGlobals "all"=some none)
  (z8:PySem.W.nsIn K mainGlobals "any"=some none)
  (z9:PySem.W.nsIn K mainGlobals "max"=some none)
  (z10:PySem.W.nsIn K mainGlobals "min"=some none)
  (z11:PySem.W.nsIn K mainGlobals "zip"=some none)
  (z12:PySem.W.nsIn K mainGlobals "set"=some none)
  (z13:PySem.W.nsIn K mainGlobals "str"=some none)
  (z14:PySem.W.nsIn K mainGlobals "enumerate"=some none)
  (z15:PySem.W.nsIn K mainGlobals "reversed"=some none)
  (gM0:PySem.W.nsIn K mainGlobals "MOST_CELLS"=some (some (.int 6 tM)))
  (tD:K.lookup Dd=some ⟨ocD,odD,.seq #[.int 0 d0] nD,slD⟩)
  (gO0:PySem.W.nsIn K mainGlobals "ONE"=some (some (.ref aO)))
  (tO:K.lookup aO=some ⟨.type "tuple",odO,.seq #[.int 1 o1,.int 0 o2,.int 0 o3,.int 0 o4,.int 0 o5] nO,slO⟩)
  (gZ0:PySem.W.nsIn K mainGlobals "NOUGHT"=some (some (.ref aZ)))
  (tZ:K.lookup aZ=some ⟨.type "tuple",odZ,.seq #[.int 0 y1,.int 0 y2,.int 0 y3,.int 0 y4,.int 0 y5] nZ,slZ⟩)
  (gN0:PySem.W.nsIn K mainGlobals "NUMBERS_BEHIND"=some (some (.ref aN)))
  (tN:K.lookup aN=some ⟨.type "dict",none,.dict #[⟨PyData.keyHash w.params "flip",.str "flip" a1,.int 1 b1⟩,⟨PyData.keyHash w.params "mix",.str "mix" a2,.int 1 b2⟩,⟨PyData.keyHash w.params "turn",.str "turn" a3,.int 2 b3⟩,⟨PyData.keyHash w.params "if",.str "if" a4,.int 2 b4⟩,⟨PyData.keyHash w.params "pair",.str "pair" a5,.int 2 b5⟩,⟨PyData.keyHash w.params "swap",.str "swap" a6,.int 2 b6⟩,⟨PyData.keyHash w.params "cross",.str "cross" a7,.int 3 b7⟩] nN,#[]⟩)
  (nN0:(aN == sysModules)=false)
  (gP0:PySem.W.nsIn K mainGlobals "PRODUCT_OF_NONE"=some (some (.ref aP)))
  (tP:K.lookup aP=some ⟨.type "tuple",odP,.seq #[.int 0 e0,.int 0 e1,.int 0 e2] nP,slP⟩)
  (zS:PySem.W.nsIn K mainGlobals "sorted"=some none)
  (zU:PySem.W.nsIn K mainGlobals "sum"=some none)
  (gC0:PySem.W.nsIn K mainGlobals "CELL_SIGNS"=some (some (.str (Str.ofString ".fsb") tC)))
  (aC:PySem.W.nsIn K mainGlobals "NoTable"=some (some (.ref C)))
  (aD:PySem.W.nsIn K mainGlobals "BoardError"=some (some (.ref D)))
  (zV:PySem.W.nsIn K mainGlobals "ValueError"=some none)
  (xC:ExcAt K C bm)
  (xD:ExcAt K D bm2)
  (sub:(Value.ref C::bm).contains (.ref D)=true)
  (kC:PySem.W.ExcG K C)
  (own:PySem.W.kitOne K (.ref C) (.ref C)=some true)
  (ve:PySem.W.kitOne K (.ref C) (.type "ValueError")=some true)
  (n_NoMark:PySem.W.nsIn K mainGlobals "NoMark"=some (some (.ref A_NoMark)))
  (q_NoMark:PySem.W.kitOne K (.ref C) (.ref A_NoMark)=some false)
  (n_NotBorne:PySem.W.nsIn K mainGlobals "NotBorne"=some (some (.ref A_NotBorne)))
  (q_NotBorne:PySem.W.kitOne K (.ref C) (.ref A_NotBorne)=some false)
  (n_NoText:PySem.W.nsIn K mainGlobals "NoText"=some (some (.ref A_NoText)))
  (q_NoText:PySem.W.kitOne K (.ref C) (.ref A_NoText)=some false)
  : ∃ fd:FuncData,(∀ (s:U7) (v:W2),BindsTo s fd ⟨[v],[]⟩ [("_law_script",v)])/\∀ base:Heap,K.In base->base.Ns mainGlobals mg->FnOk l.prog w K mg base CX0 9 fa fd ["_law_script"] (spLaw K 63):=by
 have e:=hfa.symm.trans (q2p X G aL)
 cases e
 have F:=W0g (st:=top 99) lL cL kL
 have B:Bs mg:=⟨q1j X G z0,q1j X G z1,q1j X G z2,q1j X G z3,q1j X G z4,q1j X G z5,q1j X G z6,q1j X G z7,q1j X G z8,q1j X G z9,q1j X G z10,q1j X G z11,q1j X G z12,q1j X G z13,q1j X G z14,q1j X G z15⟩
 refine⟨PySem.W.fnOf "law" "law" (Z1f (top 99)) (Z1c (top 99)) (Z0h (top 99)) .none kV dc pm an cd ct,λs v=>.of_eq rfl,λbase _ _=>?_⟩
 have gN:=q2p X G gN0
 have DN:KDic K w.params aN NB:=⟨⟨_,_,_,tN,⟨U,U,U⟩,U,.cons ⟨_,_,U⟩ (.cons ⟨_,_,U⟩ (.cons ⟨_,_,U⟩ (.cons ⟨_,_,U⟩ (.cons ⟨_,_,U⟩ (.cons ⟨_,_,U⟩ (.cons ⟨_,_,U⟩ .nil))))))⟩,by decide +kernel,nN0⟩
 have c23:=X5d (P:=l.prog) (w:=w) (base:=base) (k:=0) t23 X G B
 have c27:=X4x (P:=l.prog) (w:=w) (base:=base) (k:=0) t27 X G
 have c28:=Y7d t28 X G c23
 have c26:=X4v t26 X G B c27
 have c24:=X4w t24 X G B c23
 have c25:=X0l t25 X G c24 c26
 have c10:=Z5t (P:=l.prog) (w:=w) (base:=base) (k:=0) t10 X G B
 have c35:=Y4r (P:=l.prog) (w:=w) (base:=base) (k:=0) t35 X G B
 have c42:=X0i (P:=l.prog) (w:=w) (base:=base) (k:=0) t42 X G B
 have c41:=X5e t41 X G B gN DN c10
 have c40:=X0p t40 X G B c41 (c42.mono (by decide))
 have c45:=Y4o t45 X G (c28.mono (by decide)) c25 (c24.mono (by decide))
 have c44:=X0k t44 X G B c45
 have c48:=X5f (P:=l.prog) (w:=w) (base:=base) (k:=0) t48 X G
 have c47:=Y7m t47 X G c42 c48
 have c46:=X0d t46 X G B c26
 have c43:=Y7b (k:=5) t43 X G B (c40.mono (by decide)) (c35.mono (by decide)) c44 (c46.mono (by decide)) (c47.mono (by decide))
 have c78:=X8s t78 X G B c43
 have c85:=X5g (P:=l.prog) (w:=w) (base:=base) (k:=0) t85 X G B
 have c14:=Y7i t14 X G c10
 have c34:=X0t (q2p X G gM0) t34 X G (c10.mono (by decide)) c14
 have c33:=X0g t33 (Y2c tD) X G B (q2p X G gO0) (q2p X G gZ0) (kept5 tO) (kept5 tZ) c34
 have ex:K55S.Exs K mg C D bm bm2:=⟨q2p X G aC,q2p X G aD,q1j X G zV,xC,xD,sub,kC,own,ve,A_NoMark,q2p X G n_NoMark,q_NoMark,A_NotBorne,q2p X G n_NotBorne,q_NotBorne,A_NoText,q2p X G n_NoText,q_NoText⟩
 have gC:=q2p X G gC0
 have c20:=K55S.X0v (P:=l.prog) (w:=w) (base:=base) (k:=0) t20 X G
 have c73:=K55S.X0q t73 X G c20
 have c74:=K55S.Y7k (P:=l.prog) (w:=w) (base:=base) (k:=0) t74 X G
 have c75:=K55S.X5h (P:=l.prog) (w:=w) (base:=base) (k:=0) t75 X G
 have c76:=K55S.Y7l t76 X G c20
 have c72:=K55S.Y4n (k:=2) t72 X G (c20.mono (by decide)) (c73.mono (by decide)) (c74.mono (by decide)) (c75.mono (by decide)) (c76.mono (by decide)) (c48.mono (by decide))
 have c71:=K55S.Y4l t71 X G c72
 have c68:=K55S.X8u (P:=l.prog) (w:=w) (base:=base) (k:=0) t68 X G
 have c67:=K55S.X5c t67 X G c68
 have c66:=K55S.X0r t66 X G B c67
 have c70:=K55S.X8x t70 X G c66
 have c69:=K55S.X0j (k:=4) t69 X G (c70.mono (by decide)) (c71.mono (by decide))
 have c13:=K55S.Y1h (P:=l.prog) (w:=w) (base:=base) (k:=0) t13 X G
 have c37:=K55S.X0h (k:=2) t37 X G (c26.mono (by decide)) (c13.mono (by decide))
 have c36:=K55S.X5a t36 X G B c37
 have c21:=K55S.W1s (P:=l.prog) (w:=w) (base:=base) (k:=0) gC t21 X G
 have c83:=K55S.X8v (P:=l.prog) (w:=w) (base:=base) (k:=0) t83 X G
 have c60:=K55S.X0n (P:=l.prog) (w:=w) (base:=base) (k:=0) t60 X G
 have c49:=K55S.X8z (P:=l.prog) (w:=w) (base:=base) (k:=0) t49 X G
 have c79:=K55S.X8y t79 X G B c49
 have c82:=K55S.X4z (k:=4) t82 X G B (c83.mono (by decide)) (c21.mono (by decide)) (c71.mono (by decide)) (c60.mono (by decide))
 have c86:=K55S.X0c (P:=l.prog) (w:=w) (base:=base) (k:=0) t86 X G B
 have BT:K76T.Bs mg:=⟨B.isinstance,B.int,B.bool,B.tuple,B.list,B.len,B.range,B.enumerate,q1j X G zS,q1j X G zU,B.str,B.all,B.any,B.min,B.max⟩
 have gP:=q2p X G gP0
 have sP:∀ H:Hp,SqT K H aP (K76T.L3 (0,0,0)):=λH=>.inr ⟨_,_,_,tP,U,U,(by show 3<=sizeLine;decide),.cons ⟨_,U⟩ (.cons ⟨_,U⟩ (.cons ⟨_,U⟩ .nil))⟩
 have on:=K76T.Y1h (P:=l.prog) (w:=w) (base:=base) (k:=0) t13 X G
 have c19:=K76T.Y4m t19 X G on
 have c52:=K76T.Y4q (P:=l.prog) (w:=w) (base:=base) (k:=0) t52 X G
 have c53:=K76T.Y7f (P:=l.prog) (w:=w) (base:=base) (k:=0) t53 X G BT
 have c54:=K76T.Y1e t54 X G BT on
 have c51:=K76T.Y7c (k:=2) t51 X G BT (c52.mono (by decide)) (c53.mono (by decide)) c54
 have c62:=K76T.Y1f (P:=l.prog) (w:=w) (base:=base) (k:=0) t62 X G BT
 have c63:=K76T.Y7e t63 X G gP sP c19
 have c64:=K76T.X0u t64 X G BT on
 have c61:=K76T.Y7g (k:=3) t61 X G BT (c62.mono (by decide)) c51 (c64.mono (by decide)) c63
 have iw:=K76T.Z5t (P:=l.prog) (w:=w) (base:=base) (k:=0) t10 X G BT
 have pW:=K76T.Y1c (P:=l.prog) (w:=w) (base:=base) (k:=0) t10 X G BT
 have wd:=K76T.X0b t14 X G pW
 have c15:=K76T.Y4i (k:=2) t15 X G BT (pW.mono (by decide)) wd
 have c16:=K76T.Y4j t16 X G on
 have c17:=K76T.Y7a (k:=3) t17 X G c15 (c16.mono (by decide))
 have c18:=K76T.Y1g t18 X G on
 have c58:=K76T.Y4k t58 X G BT c18
 have c57:=K76T.Y1d (k:=4) t57 X G BT (iw.mono (by decide)) c17 (c58.mono (by decide)) c61
 have c59:=K76T.Y7j t59 X G (K76T.X1i c57)
 have c81:=K55S.X0o (k:=6) t81 X G B (c59.mono (by decide)) (c82.mono (by decide)) (c71.mono (by decide)) (c79.mono (by decide))
 have x1:=K55S.Y4h t59 X G ex c57
 have x2:=K55S.X0a t81 X G x1
 have c96:=K55S.X8t t96 X G B ex x2
 have c87:=K76T.X0m (P:=l.prog) (w:=w) (base:=base) (k:=0) t87 X G
 have c88:=K76T.Y1i t88 X G c87
 have c89:=K76T.Y4p t89 X G c87
 have c90:=K76T.Y1j t90 X G c87
 have c91:=K76T.X0e t91 X G c89
 have c92:=K76T.X0f (k:=3) t92 X G BT (c90.mono (by decide)) c91
 have c93:=K76T.Y7h (P:=l.prog) (w:=w) (base:=base) (k:=0) t93 X G
 have c94:=K76T.X9a (k:=2) t94 X G BT (c93.mono (by decide)) c88
 have c95:=K76T.X4y t95 X G BT c94
 have c97:=K55S.X5b t97 X G B c86
 have c98:=K55S.X0s (k:=7) t98 X G B (c33.mono (by decide)) (c78.mono (by decide)) (c36.mono (by decide))
 exact K55S.X8w (k:=8) (by decide) F B (c85.mono (by decide)) (c92.mono (by decide)) (c95.mono (by decide)) (c96.mono (by decide)) (c81.mono (by decide)) (c97.mono (by decide)) (c69.mono (by decide)) (c98.mono (by decide))
theorem walk {l:PySem.W.OpenLaw}{q:U8}{loose:W0}{XP:(Str->Option Value)->Heap->Prop}{YP:World->Heap->Prop}{d:DefRec}{K:Params->U0}(hn:l.most=some 63)(hdf:d.params.defaults=[])
  (hY:∀ (w:W1) (h:Heap),YP w h->(K w.params).In h)
  (F:∀ (w:W1) (mg:U4) (fa:W9) (h:Heap),(K w.params).In h->h.Ns mainGlobals mg->mg d.name=some (.ref fa) →
   ∃ fd:FuncData,(∀ (s:U7) (u:W2),BindsTo s fd ⟨[u],[]⟩ [("_law_script",u)])/\∀ base:Heap,(K w.params).In base->base.Ns mainGlobals mg->FnOk l.prog w (K w.params) mg base CX0 9 fa fd ["_law_script"] (spLaw (K w.params) 63)) :
  PySem.W.WalkO q loose XP YP l.row.toRowW d [] (λf vs=>PySem.call f vs) :=
 L2.X3o (n:=63) (k:=9) (x:="_law_script") (CX:=λ_=>CX0) (sp:=λw=>spLaw (K w.params) 63) hn (by decide) hdf ⟨U,by decide,by decide⟩ hY F (λ_ _ a ns hl lt hS=>⟨a,ns,U,hS,hl,λ_=>rfl⟩) λ_ _ _ _ _ z=>z
end K76
open PySem.W
set_option maxRecDepth 100000 in
set_option maxHeartbeats 0 in
theorem PySem.Challenge.cw_spinboard_k76_laid_holds : PySem.Challenge.rw_spinboard_k76_laid.Holds := by
 refine holds_law K76.Hd.said_ λsaid=>?_
 refine holds_open (q:=K76.Hd.qq) (loose:=K76.Hd.loose) (Xt:=K76.Hd.Xt) (XP:=XL K76.Hd.qq K76.Hd.lv) (Yf:=K76.Hd.HH.obs) (Ya:=K76.Hd.HH.val) (YP:=K76.Hd.HH.says) (d:=⟨"law",L2.Z1f (K76.top 99),L2.Z1c (K76.top 99),L2.Z0h (K76.top 99),K76.Hd.dPos (K76.top 99)⟩) (kwd:=[]) (N:=K76.Hd.NN) K76.Hd.left_ K76.Hd.HH.of K76.Hd.HH.keeps (λs e=>xl_of s (Bool.and_eq_true_iff.mp e).1) XL.keeps (by kernel_rfl) (by kernel_rfl) (by kernel_rfl) (λs e=>recFacts_of (Bool.and_eq_true_iff.mp e).2) (by kernel_rfl) said (by kernel_rfl) ⟨U,U,U,U,U,by decide +kernel⟩ ?hw ?hc
 case hw=>w_witness2
 refine K76.walk (l:=PySem.Challenge.rw_spinboard_k76_laid) rfl rfl (λw h Y=>PySem.W.kIn_of Y) ?F
 case F =>
  intro w mg fa h KX G hmg
  refine' K76.W1e (K:=K76.Hd.KK w.params) (f:=612) (aN:=270) (aO:=237) (aZ:=236) (Dd:=238) (C:=85) (D:=24) (aP:=355) (A_NoMark:=37) (A_NotBorne:=123) (A_NoText:=104) (tM:=492) (tC:=348) KX G hmg ?aL (K76.Hd.k612 _) ?cL ?kL (K76.Hd.f10 _) (K76.Hd.f13 _) (K76.Hd.f14 _) (K76.Hd.f15 _) (K76.Hd.f16 _) (K76.Hd.f17 _) (K76.Hd.f18 _) (K76.Hd.f19 _) (K76.Hd.f20 _) (K76.Hd.f21 _) (K76.Hd.f23 _) (K76.Hd.f24 _) (K76.Hd.f25 _) (K76.Hd.f26 _) (K76.Hd.f27 _) (K76.Hd.f28 _) (K76.Hd.f33 _) (K76.Hd.f34 _) (K76.Hd.f35 _) (K76.Hd.f36 _) (K76.Hd.f37 _) (K76.Hd.f40 _) (K76.Hd.f41 _) (K76.Hd.f42 _) (K76.Hd.f43 _) (K76.Hd.f44 _) (K76.Hd.f45 _) (K76.Hd.f46 _) (K76.Hd.f47 _) (K76.Hd.f48 _) (K76.Hd.f49 _) (K76.Hd.f51 _) (K76.Hd.f52 _) (K76.Hd.f53 _) (K76.Hd.f54 _) (K76.Hd.f57 _) (K76.Hd.f58 _) (K76.Hd.f59 _) (K76.Hd.f60 _) (K76.Hd.f61 _) (K76.Hd.f62 _) (K76.Hd.f63 _) (K76.Hd.f64 _) (K76.Hd.f66 _) (K76.Hd.f67 _) (K76.Hd.f68 _) (K76.Hd.f69 _) (K76.Hd.f70 _) (K76.Hd.f71 _) (K76.Hd.f72 _) (K76.Hd.f73 _) (K76.Hd.f74 _) (K76.Hd.f75 _) (K76.Hd.f76 _) (K76.Hd.f78 _) (K76.Hd.f79 _) (K76.Hd.f81 _) (K76.Hd.f82 _) (K76.Hd.f83 _) (K76.Hd.f85 _) (K76.Hd.f86 _) (K76.Hd.f87 _) (K76.Hd.f88 _) (K76.Hd.f89 _) (K76.Hd.f90 _) (K76.Hd.f91 _) (K76.Hd.f92 _) (K76.Hd.f93 _) (K76.Hd.f94 _) (K76.Hd.f95 _) (K76.Hd.f96 _) (K76.Hd.f97 _) (K76.Hd.f98 _) ?z0 ?z1 ?z2 ?z3 ?z4 ?z5 ?z6 ?z7 ?z8 ?z9 ?z10 ?z11 ?z12 ?z13 ?z14 ?z15 ?gM0 ?tD ?gO0 ?tO ?gZ0 ?tZ ?gN0 ?tN ?nN0 ?gP0 ?tP ?zS ?zU ?gC0 ?aC ?aD ?zV (L2.excAt ?xc1 ?xc2 ?xc3 ?xc4) (L2.excAt ?xd1 ?xd2 ?xd3 ?xd4) ?sub ⟨?e1,?e2,?e3,?e4,?e5,?e6,?e7⟩ ?own ?ve ?n_NoMark ?q_NoMark ?n_NotBorne ?q_NotBorne ?n_NoText ?q_NoText
  (case aL=>kernel_rfl);(case cL=>kernel_rfl);(case kL=>kernel_rfl)
  (case z0=>kernel_rfl);(case z1=>kernel_rfl);(case z2=>kernel_rfl);(case z3=>kernel_rfl);(case z4=>kernel_rfl);(case z5=>kernel_rfl);(case z6=>kernel_rfl);(case z7=>kernel_rfl);(case z8=>kernel_rfl);(case z9=>kernel_rfl);(case z10=>kernel_rfl);(case z11=>kernel_rfl);(case z12=>kernel_rfl);(case z13=>kernel_rfl);(case z14=>kernel_rfl);(case z15=>kernel_rfl)
  (case gM0=>kernel_rfl)
  (case tD=>exact K76.Hd.k238 _);(case gO0=>kernel_rfl);(case tO=>exact K76.Hd.k237 _);(case gZ0=>kernel_rfl);(case tZ=>exact K76.Hd.k236 _)
  (case gN0=>kernel_rfl);(case tN=>exact K76.Hd.k270 _);(case nN0=>decide)
  (case gP0=>kernel_rfl);(case tP=>exact K76.Hd.k355 _);(case zS=>kernel_rfl);(case zU=>kernel_rfl)
  (case gC0=>kernel_rfl)
  (case aC=>kernel_rfl);(case aD=>kernel_rfl);(case zV=>kernel_rfl)
  (case xc1=>exact K76.Hd.k85 _);(case xc2=>kernel_rfl);(case xc3=>kernel_rfl);(case xc4=>kernel_rfl)
  (case xd1=>exact K76.Hd.k24 _);(case xd2=>kernel_rfl);(case xd3=>kernel_rfl);(case xd4=>kernel_rfl)
  (case sub=>kernel_rfl)
  (case e1=>kernel_rfl);(case e2=>kernel_rfl);(case e3=>(intro od;kernel_rfl));(case e4=>kernel_rfl);(case e5=>kernel_rfl);(case e6=>kernel_rfl);(case e7=>kernel_rfl)
  (case own=>kernel_rfl);(case ve=>kernel_rfl)
  (case n_NoMark=>kernel_rfl);(case q_NoMark=>kernel_rfl)
  (case n_NotBorne=>kernel_rfl);(case q_NotBorne=>kernel_rfl)
  (case n_NoText=>kernel_rfl);(case q_NoText=>kernel_rfl)
