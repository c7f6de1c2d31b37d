import PyProof.Rows.All
import Wide.All
import OpenK.AllK
import Wide.FinOn
import Lean
import PyProof.EqAt
import PyProof.EqKinds
import PyProof.TupleCall
import PyProof.Rows.BitMore
import PyProof.ConsumeWalk
import PyProof.Rows.SetFrom
import PyProof.WalksMore
import PyProof.FactsAll.subtypes_4
import PyProof.Rows.SortWalk
import PyProof.Rows.TupDisplay
import PyProof.EnumMake
import PyProof.Rows.EnumRows
import PyProof.SumAny
import PyProof.Rows.MinMaxN
import PyProof.StrLawsIdx
import PyProof.StationsW
import PyProof.ExcClass3
import PyProof.ExcBaseAll.ValueError
import PyProof.RulesAs
import PyProof.ExcArgsOwn
import PyProof.ExcAttrAll.ValueError
import PyProof.InstStoreFacts
import PyProof.ExcClass2
import PyProof.ExcInit
import PyProof.NsDelKeeps
import PyProof.ListMulRight
import PySem.Challenge.RW_spinboard_k75_whole_unlike
noncomputable section
open PySem PySem.Spec PyProof.Rows
theorem Z {α:Sort u}{a:α}:a=a:=rfl
abbrev U0:=PySem.W.Frag
abbrev U1:=List (Addr × Obj)
abbrev U2:=Value->Shared->Prop
abbrev U3:=List Addr
abbrev U4:=Str->Option Value
abbrev U5:=List Value
abbrev U6:=List Int
abbrev U7:=Shared
abbrev U8:=Program
abbrev U9:=Array Value
abbrev W0:=List Str
abbrev W1:=World
abbrev W2:=Value
abbrev W3:=List Nat
abbrev W4:=Array (Option Value)
abbrev W5:=Option Addr
abbrev W6:=Around
abbrev W7:=List (Option Nat)
abbrev W8:=List Stmt
abbrev W9:=Addr
noncomputable abbrev Ng (h:Heap)(m:Str->Option Value):=h.Ns mainGlobals m
set_option linter.all false
section
open PySem.W
def q0a:=@List.length_map
def q0b:=@List.map_append
def q0c:=@List.length_append
def q0d:=@List.getElem?_eq_getElem
def q0e:=@decide_eq_false
def q0f:=@Nat.le_refl
def q0g:=@Heap.get?_push_of_some
def q0h:=@Heap.lt_size
def q0i:=@List.size_toArray
def q0j:=@decide_eq_true
def q0k:=@List.getElem?_map
def q0l:=@Nat.lt_of_lt_of_le
def q0m:=@Bool.and_eq_true
def q0n:=@List.mem_singleton
def q0o:=@wpAny_bind
def q0p:=@List.mem_cons
def q0q:=@Bool.false_ne_true
def q0r:=@Heap.get?_push_size
def q0s:=@List.mem_range
def q0t:=@List.getElem?_eq_some_iff
def q0u:=@Nat.le_trans
def q0v:=@List.mem_append
def q0w:=@Nat.ne_of_lt
def q0x:=@Option.map_eq_some_iff
def q0y:=@Nat.mod_two_eq_zero_or_one
def q0z:=@wpAny_pure
def q1a:=@decide_eq_true_eq
def q1b:=@List.getD_eq_getElem?_getD
def q1c:=@List.all_eq_true
def q1d:=@List.take_of_length_le
def q1e:=@Nat.zero_le
def q1f:=@Int.emod_lt_of_pos
def q1g:=@List.mem_append_right
def q1h:=@Int.toNat_natCast
def q1i:=@Int.emod_nonneg
def q1j:=@PySem.W.mg_none_of
def q1k:=@PySem.F.plainAttrs_list
def q1l:=@List.not_mem_nil
def q1m:=@PySem.boot_len
def q1n:=@Nat.zero_testBit
def q1o:=@Nat.testBit_xor
def q1p:=@of_decide_eq_true
def q1q:=@List.length_take
def q1r:=@List.length_cons
def q1s:=@List.map_cons
def q1t:=@Nat.eq_of_testBit_eq
def q1u:=@List.append_assoc
def q1v:=@Nat.testBit_two_pow
def q1w:=@Array.length_toList
def q1x:=@PySem.W.kia_one
def q1y:=@List.take_add_one
def q1z:=@Nat.pow_le_pow_right
def q2a:=@wpAny_mono
def q2b:=@PySem.F.type_list_append
def q2c:=@PySem.F.slot_list_append
def q2d:=@Nat.lt_of_le_of_lt
def q2e:=@List.mem_map
def q2f:=@Nat.two_pow_pos
def q2g:=@Nat.testBit_and
def q2h:=@Heap.size_push
def q2i:=@List.length_drop
def q2j:=@wpAny_truthy_bool
def q2k:=@Int.mul_comm
def q2l:=@List.take_zero
def q2m:=@PySem.F.slot_int_bit_length
def q2n:=@Nat.xor_assoc
def q2o:=@List.range_succ
def q2p:=@Bool.or_eq_true
def q2q:=@Bool.eq_iff_iff
def q2r:=@List.mem_of_getElem?
def q2s:=@PySem.mem_of_lookup
def q2t:=@or_false
def q2u:=@Int.eq_of_mul_eq_mul_left
def q2v:=@boot_isinstance
def q2w:=@Nat.exists_ge_and_testBit_of_ge_two_pow
def q2x:=@Int.zero_add
def q2y:=@PySem.F.type_list_extend
def q2z:=@PySem.F.slot_list_extend
def q3a:=@Nat.min_eq_right
def q3b:=@List.mem_cons_of_mem
def q3c:=@List.mem_append_left
def q3d:=@PySem.F.type_int_bit_length
def q3e:=@List.nodup_cons
def q3f:=@List.append_nil
def q3g:=@Nat.testBit_lt_two_pow
def q3h:=@Int.eq_of_mul_eq_mul_right
def q3i:=@Int.pow_succ
def q3j:=@Bool.false_eq_true
def q3k:=@Nat.shiftRight_eq_div_pow
def q3l:=@List.getElem?_append_left
def q3m:=@Nat.pow_lt_pow_right
def q3n:=@List.mem_of_mem_take
def q3o:=@wpAny_passesOwn
def q3p:=@wpAny_newObj_type
def q3q:=@Nat.min_eq_left
def q3r:=@Nat.lt_succ_of_lt
def q3s:=@List.reverse_cons
def q3t:=@List.flatMap_cons
def q3u:=@Nat.zero_and
def q3v:=@List.map_map
def q3w:=@List.replicate_succ
def q3x:=@List.map_drop
def q3y:=@Nat.lt_of_not_le
def q3z:=@Bool.false_and
def q4a:=@PySem.F.plainAttrs_int
def q4b:=@List.drop_eq_nil_of_le
def q4c:=@Option.toList_some
def q4d:=@List.mem_cons_self
def q4e:=@wpAny_field
def q4f:=@Nat.not_lt_zero
def q4g:=@Nat.ne_of_gt
def q4h:=@Heap.get?_update_self
def q4i:=@Nat.lt_irrefl
def q4j:=@List.map_take
def q4k:=@List.getElem?_append_right
def q4l:=@List.mem_of_mem_drop
def q4m:=@segRun_of
def q4n:=@piece_app
def q4o:=@Nat.mul_le_mul
def q4p:=@List.drop_eq_getElem_cons
def q4q:=@Nat.lt_succ_self
def q4r:=@List.take_length
def q4s:=@List.mem_reverse
def q4t:=@List.lookup_cons
def q4u:=@List.take_succ_cons
def q4v:=@List.map_congr_left
def q4w:=@List.length_reverse
def q4x:=@wpAny_comprehension_free
def q4y:=@Int.ne_of_gt
def q4z:=@wpAny_pyIter_tuple
def q5a:=@wpAny_callSpecial?_slot
def q5b:=@of_decide_eq_false
def q5c:=@PySem.W.noMix_ints
def q5d:=@PySem.W.canLayAll0_ints
def q5e:=@List.filter_append
def q5f:=@Int.mul_assoc
def q5g:=@wpAny_pyIter_list
def q5h:=@beq_iff_eq
def q5i:=@PySem.W.same_ints
def q5j:=@List.length_range
def q5k:=@List.flatten_cons
def q5l:=@wpAny_seqItems
def q5m:=@PySem.W.depthAll_ints
def q5n:=@Nat.xor_zero
def q5o:=@Nat.xor_self
def q5p:=@Nat.succ_pos
def q5q:=@Nat.add_zero
def q5r:=@List.take_append_drop
def q5s:=@List.map_nil
def q5t:=@List.length_singleton
def q5u:=@List.getElem?_reverse
def q5v:=@Nat.le_of_not_lt
def q5w:=@Nat.le_add_right
def q5x:=@List.mem_nil_iff
def q5y:=@List.getElem_mem
def q5z:=@List.any_eq_true
def q6a:=@Nat.mul_le_mul_right
def q6b:=@List.getElem?_set_ne
def q6c:=@wpAny_holding
def q6d:=@List.take_nil
def q6e:=@Bool.true_and
def q6f:=@Bool.false_or
def q6g:=@wpAny_execs_nil
def q6h:=@List.find?_cons
def q6i:=@List.filter_nil
def q6j:=@List.filterMap_cons
def q6k:=@Int.toNat_of_nonneg
def q6l:=@Int.natCast_add
def q6m:=@Int.mul_one
def q6n:=@Int.fdiv_eq_ediv_of_nonneg
def q6o:=@wpAny_Call_Name_kw
def q6p:=@codeAny_mono
def q6q:=@PySem.W.kitx_tuple
def q6r:=@Nat.zero_add
def q6s:=@Nat.xor_lt_two_pow
def q6t:=@Nat.and_zero
def q6u:=@Nat.and_comm
def q6v:=@Nat.add_comm
def q6w:=@List.all_map
def q6x:=@Int.natCast_nonneg
def q6y:=@Bool.and_false
def q6z:=@wpAny_getItem_list_slice
def q7a:=@PySem.W.readsAll_of_ints
def q7b:=@Nat.succ_le_of_lt
def q7c:=@Int.mul_ediv_cancel_left
def q7d:=@wpAny_standAt
def q7e:=@if_false
def q7f:=@bitNot_bitNot
def q7g:=@PySem.W.mg_of
def q7h:=@List.filter_cons_of_pos
def q7i:=@List.filter_cons_of_neg
def q7j:=@List.drop_nil
def q7k:=@Int.pow_add
def q7l:=@wpAny_execs_cons
def q7m:=@wpAny_call_entry
def q7n:=@subscriptTail_builtinR
def q7o:=@codeAny_compStart_list
def q7p:=@PySem.W.cellsFrom_some
def q7q:=@Nat.testBit_shiftRight
def q7r:=@List.getElem?_set_self
def q7s:=@Heap.get?_update_other
def q7t:=@wpAny_isTrue_Compare1
def q7u:=@if_true
def q7v:=@Nat.xor_comm
def q7w:=@Nat.sub_self
def q7x:=@List.of_mem_zip
def q7y:=@List.nil_append
def q7z:=@List.length_set
def q8a:=@List.contains_iff_mem
def q8b:=@Int.emod_two_eq
def q8c:=@wpAny_setField
def q8d:=@intItems_at
def q8e:=@Int.le_refl
def q8f:=@ne_dataH_same
def q8g:=@eq_dataH_same
def q8h:=@boot_list
def q8i:=@boot_all
def q8j:=@List.sum_cons
def q8k:=@List.any_cons
def q8l:=@List.all_cons
def q8m:=@typeIs_int
def q8n:=@call_meets
def q8o:=@Nat.sub_le
def q8p:=@Nat.mod_lt
def q8q:=@wpAny_typeOf
def q8r:=@seqIndex_neg
def q8s:=@Nat.pow_succ
def q8t:=@Nat.le_of_lt
def q8u:=@boot_min
def q8v:=@boot_max
end
set_option Elab.async false
set_option maxRecDepth 100000
namespace L2
abbrev Key:=Sum Int Str
noncomputable def keyIs:Key->Value->Bool
 | .inl k,v=>Value.isInt k v
 | .inr x,v=>Value.isStrOf x v
noncomputable def keyH (w:W1):Key->Int
 | .inl k=>hashInt k
 | .inr x=>hashStr w x
theorem Z1x:∀ {k:Key}{v:W2},keyIs k v=true->(∃ i t,k=Sum.inl i/\v=Value.int i t)∨(∃ x t,k=Sum.inr x/\v=Value.str x t)
 | .inl i,v,h=>by
  obtain⟨t,e⟩:=Value.isInt_shape (k:=i) (v:=v) h
  exact .inl ⟨i,t,Z,e⟩
 | .inr x,v,h=>by
  obtain⟨t,e⟩:=Value.isStrOf_shape (x:=x) (v:=v) h
  exact .inr ⟨x,t,Z,e⟩
theorem Y7z (i:Int)(t:Tok):keyIs (.inl i) (.int i t)=true:=by simp[keyIs,Value.isInt]
theorem Z7e (x:Str)(t:Tok):keyIs (.inr x) (.str x t)=true:=by simp[keyIs,Value.isStrOf]
theorem X9p (a b:Int):decide ((Sum.inl a:Key)=Sum.inl b)=(a == b):=by
 by_cases e:a=b
 ·subst e;simp
 ·have h:¬ (Sum.inl a:Key)=Sum.inl b:=λq=>e (Sum.inl.inj q)
  rw[q0e h]
  exact(beq_eq_false_iff_ne.mpr e).symm
theorem X9m (a b:Str):decide ((Sum.inr a:Key)=Sum.inr b)=decide (a=b):=by
 by_cases e:a=b
 ·subst e;simp
 ·have h:¬ (Sum.inr a:Key)=Sum.inr b:=λq=>e (Sum.inr.inj q)
  rw[q0e h,q0e e]
theorem X9o (a:Int)(b:Str):decide ((Sum.inl a:Key)=Sum.inr b)=false:=q0e (λq=>nomatch q)
theorem X9n (a:Str)(b:Int):decide ((Sum.inr a:Key)=Sum.inl b)=false:=q0e (λq=>nomatch q)
noncomputable def Z4f (prog:U8)(w:W1):PySem.KeyKind prog w Key where
 is:=keyIs
 hash:=keyH w
 inj:=λv a b ha hb=>by
  rcases Z1x ha with ⟨i,t,rfl,rfl⟩ | ⟨x,t,rfl,rfl⟩
  ·rcases Z1x hb with ⟨j,u,rfl,e⟩ | ⟨y,u,rfl,e⟩
   ·injection e with e1 _;rw[e1]
   ·exact nomatch e
  ·rcases Z1x hb with ⟨j,u,rfl,e⟩ | ⟨y,u,rfl,e⟩
   ·exact nomatch e
   ·injection e with e1 _;rw[e1]
 byValue:=λk v h=>by
  rcases Z1x h with ⟨i,t,rfl,rfl⟩ | ⟨x,t,rfl,rfl⟩<;>rfl
 pyHash:=λhv h=>by
  rcases Z1x hv with ⟨i,t,rfl,rfl⟩ | ⟨x,t,rfl,rfl⟩
  ·exact wpAny_pyHash_int h
  ·exact wpAny_pyHash_str h
 eqBool:=λhu hv h=>by
  rcases Z1x hu with ⟨i,t,rfl,rfl⟩ | ⟨x,t,rfl,rfl⟩
  ·rcases Z1x hv with ⟨j,u,rfl,rfl⟩ | ⟨y,u,rfl,rfl⟩
   ·rw[X9p] at h;exact wpAny_eqBool_int h
   ·rw[X9o] at h;exact SeqAt.EqAt.int_str i t y u _ _ _ _ h
  ·rcases Z1x hv with ⟨j,u,rfl,rfl⟩ | ⟨y,u,rfl,rfl⟩
   ·rw[X9n] at h;exact SeqAt.EqAt.str_int x t j u _ _ _ _ h
   ·rw[X9m] at h;exact wpAny_eqBool_str h
 «strs»:=λk x t v h=>by
  rcases Z1x h with ⟨i,u,rfl,e⟩ | ⟨y,u,rfl,e⟩
  ·exact nomatch e
  ·injection e with e1 _
   subst e1
   cases v<;>rfl
theorem Y1v (prog:U8)(w:W1)(i:Int)(t:Tok):(Z4f prog w).is (.inl i) (.int i t)=true:=Y7z i t
theorem Y1u (prog:U8)(w:W1)(x:Str)(t:Tok):(Z4f prog w).is (.inr x) (.str x t)=true:=Z7e x t
inductive V where
 | non | bl (b:Bool) | int (i:Int) | str (x:Str) | byt (b:Array UInt8) | flt (b:UInt64) | ref (a:W9) | ty (n:String)
 deriving DecidableEq
def RelV:V->Value->Prop
 | .non,u=>u=Value.none
 | .bl b,u=>u=Value.bool b
 | .int i,u=>∃ t,u=Value.int i t
 | .str x,u=>∃ t,u=Value.str x t
 | .byt b,u=>∃ t,u=Value.bytes b t
 | .flt b,u=>∃ t,u=Value.float b t
 | .ref a,u=>u=Value.ref a
 | .ty n,u=>u=Value.type n
abbrev Vals:List V->List Value->Prop:=Paired RelV
theorem Vals.length {xs:List V}{us:U5}(r:Vals xs us):xs.length=us.length:=Paired.length r
theorem Vals.get:∀ {xs:List V}{us:U5}{i:Nat}{x:V},Vals xs us->xs[i]?=some x->∃ u,us[i]?=some u/\RelV x u
 | _,_,_,_,.nil,e=>by simp at e
 | _,_,0,_,.cons r _,e=>by simp at e;subst e;exact⟨_,rfl,r⟩
 | _,_,i+1,x,.cons _ t,e=>by
  obtain⟨u,h1,h2⟩:=Vals.get (i:=i) (x:=x) t (by simpa using e)
  exact⟨u,by simpa using h1,h2⟩
theorem Vals.set {x:V}{u:W2}(r:RelV x u):∀ {xs:List V}{us:U5} (i:Nat),Vals xs us->Vals (xs.set i x) (us.set i u)
 | _,_,_,.nil=>.nil
 | _,_,0,.cons _ t=>.cons r t
 | _,_,i+1,.cons q t=>.cons q (Vals.set r i t)
theorem Vals.append:∀ {xs ys:List V}{us ws:U5},Vals xs us->Vals ys ws->Vals (xs++ys) (us++ws)
 | _,_,_,_,.nil,s=>s
 | _,_,_,_,.cons r t,s=>.cons r (Vals.append t s)
theorem Vals.take:∀ {xs:List V}{us:U5} (n:Nat),Vals xs us->Vals (xs.take n) (us.take n)
 | _,_,0,_=>.nil
 | _,_,_+1,.nil=>.nil
 | _,_,n+1,.cons r t=>.cons r (Vals.take n t)
theorem Vals.drop:∀ {xs:List V}{us:U5} (n:Nat),Vals xs us->Vals (xs.drop n) (us.drop n)
 | _,_,0,r=>r
 | _,_,_+1,.nil=>.nil
 | _,_,n+1,.cons _ t=>Vals.drop n t
def RelO:Option V->Option Value->Prop
 | some v,some u=>RelV v u
 | none,none=>True
 | _,_=>False
def KV {κ:Type}:List (κ × V)->List (κ × Value)->Prop:=Paired λ(p:κ × V) (q:κ × Value)=>p.1=q.1/\RelV p.2 q.2
noncomputable def kV:Key->V
 | .inl i=>.int i
 | .inr x=>.str x
inductive HO where
 | lst (xs:List V)
 | tup (xs:List V)
 | dK (kvs:List (Key × V)) | dT (kvs:List (List Key × V))
 | set (S:Int->Bool) (n:Nat)
 | ins (C dx:W9) (fs:List (Str × V))
 | own (x:W9)
 | xd (fs:List (Str × V))
 | met (f x:W9)
 | rng (lo hi:Int)
 | frz (o:Obj) (u:HO)
 | tbl (ps:U9)
 | ext (φ:Heap->Prop)
abbrev Hp:=Addr->Option HO
noncomputable def upd (H:Hp)(a:W9)(o:HO):Hp:=λb=>if b=a then some o else H b
theorem Z0d {H:Hp}{a:W9}{o:HO}:upd H a o a=some o:=by unfold upd;rw[if_pos rfl]
theorem Z1d {H:Hp}{a b:W9}{o:HO}(h:b≠a):upd H a o b=H b:=by unfold upd;rw[if_neg h]
theorem Z7b {H:Hp}{a b:W9}{o u:HO}(h:H a=some o)(h':H b=some u)(d:o≠u):a≠b:=by
 intro e;subst e;rw[h] at h';exact d (Option.some.inj h')
theorem Z2h {H:Hp}{a b:W9}{o:HO}(h:H a=some o)(h':H b=none):a≠b:=by
 intro e;subst e;rw[h] at h';cases h'
section
variable (P:U8) (w:W1)
def ObjOk (H:Hp)(h:Heap)(a:W9):HO->Prop
 | .lst xs=>xs.length<=sizeLine/\∃ (its:U5) (n:Nat),Vals xs its/\h.get? a=some { cls:=.type "list",data:=.seq its.toArray n }
 | .tup xs=>xs.length<=sizeLine/\∃ its:List Value,Vals xs its/\IsTup h a its.toArray
 | .dK kvs=>kvs.length<=sizeLine/\(a == sysModules)=false/\∃ vs,KV kvs vs/\h.DictOf (Z4f P w) a vs
 | .dT kvs=>kvs.length<=sizeLine/\(a == sysModules)=false/\∃ xs:List (List Key × Addr × Value),
   Paired (λ(p:List Key × V) (q:List Key × Addr × Value)=>p.1=q.1/\H q.2.1=some (.tup (p.1.map kV))/\RelV p.2 q.2.2) kvs xs ∧
   ∃ o es ep,h.get? a=some o/\o.ExactDict/\o.data=.dict es ep/\es.toList=xs.map (entryOfKey (tupleKind (Z4f P w)))/\(xs.map (·.1)).Nodup
 | .set S n=>h.SetOf (intKind P w) a S n
 | .ins C dx fs=>H dx=some (.own a)/\fs.length<=1000/\dx≠a/\h.get? a=some (PySem.W.instObj C dx) ∧
   ∃ mA,h.Ns1 dx mA/\(∀ f,RelO (fs.lookup f) (mA f))/\PySem.Within mA (fs.map (·.1))
 | .own _=>∃ o,h.get? a=some o
 | .xd fs=>∃ mA,h.Ns1 a mA/\∀ f,RelO (fs.lookup f) (mA f)
 | .rng lo hi=>∃ t u v,h.get? a=some { cls:=.type "range",data:=.fields #[.int lo t,.int hi u,.int 1 v] }
 | .frz o u=>h.get? a=some o/\ObjOk H h a u
 | .tbl ps=>h.get? a=some { cls:=.none,data:=.fields ps }
 | .met f x=>h.get? a=some (PySem.W.methodObj (.ref f) (.ref x))
 | .ext φ=>φ h/\(∃ o,h.get? a=some o)/\∀ h1 h2:Heap,φ h1->(∀ o,h1.get? a=some o->h2.get? a=some o)->φ h2
def HOk (H:Hp)(h:Heap):Prop:=∀ a o,H a=some o->ObjOk P w H h a o
end
section
variable {P:U8}{w:W1}{H H':Hp}{h h':Heap}{a:W9}{o:HO}
theorem ObjOk.lt (x:ObjOk P w H h a o):a<h.objs.size:=by
 cases o with
 | lst xs=>obtain⟨_,_,_,_,e⟩:=x;exact q0h e
 | tup xs=>obtain⟨_,_,_,p⟩:=x;exact p.lt
 | dK kvs=>obtain⟨_,_,_,_,o,_,_,e,_⟩:=x;exact q0h e
 | dT kvs=>obtain⟨_,_,_,_,o,_,_,e,_⟩:=x;exact q0h e
 | set S n=>obtain⟨o,_,_,_,e,_⟩:=x;exact q0h e
 | ins C dx fs=>obtain⟨_,_,_,e,_⟩:=x;exact q0h e
 | own y=>obtain⟨_,e⟩:=x;exact q0h e
 | xd fs=>obtain⟨_,⟨_,_,_,e,_⟩,_⟩:=x;exact q0h e
 | rng lo hi=>obtain⟨_,_,_,e⟩:=x;exact q0h e
 | frz ob u=>obtain⟨e,_⟩:=x;exact q0h e
 | tbl ps=>exact q0h (show h.get? a=some _ from x)
 | met f y=>exact q0h (show h.get? a=some _ from x)
 | ext φ=>obtain⟨_,⟨_,e⟩,_⟩:=x;exact q0h e
theorem Paired.mapP {α β:Type}{F G:α->β->Prop}:∀ {l₁:List α}{l₂:List β},Paired F l₁ l₂->(∀ a b,F a b->G a b)->Paired G l₁ l₂
 | _,_,.nil,_=>.nil
 | _,_,.cons r t,f=>.cons (f _ _ r) (Paired.mapP t f)
theorem Paired.imp' {α β:Type}{F G:α->β->Prop}(f:∀ a b,F a b->G a b){l₁:List α}{l₂:List β}(r:Paired F l₁ l₂):Paired G l₁ l₂:=Paired.mapP r f
theorem ObjOk.stay (x:ObjOk P w H h a o)(k:∀ b u,(b=a∨H b=some (.own a))->h.get? b=some u->h'.get? b=some u)
  (ho:∀ b,H b=some (.own a)->H' b=some (.own a)) (ht:∀ b xs,H b=some (.tup xs)->H' b=some (.tup xs)):ObjOk P w H' h' a o:=by
 induction o with
 | lst xs=>obtain⟨z,its,n,r,e⟩:=x;exact⟨z,its,n,r,k _ _ (.inl rfl) e⟩
 | tup xs=>obtain⟨z,its,r,ob,e,c⟩:=x;exact⟨z,its,r,ob,k _ _ (.inl rfl) e,c⟩
 | dK kvs=>obtain⟨z,y,vs,r,ob,es,ep,e,c⟩:=x;exact⟨z,y,vs,r,ob,es,ep,k _ _ (.inl rfl) e,c⟩
 | dT kvs =>
  obtain⟨z,y,xs,r,ob,es,ep,e,c⟩:=x
  exact⟨z,y,xs,Paired.mapP r λp q z=>⟨z.1,ht _ _ z.2.1,z.2.2⟩,ob,es,ep,k _ _ (.inl rfl) e,c⟩
 | set S n=>obtain⟨ob,es,ep,t,e,c⟩:=x;exact⟨ob,es,ep,t,k _ _ (.inl rfl) e,c⟩
 | ins C dx fs =>
  obtain⟨d,z,ne,e,mA,⟨od,es,ep,e2,c⟩,r⟩:=x
  exact⟨ho _ d,z,ne,k _ _ (.inl rfl) e,mA,⟨od,es,ep,k _ _ (.inr d) e2,c⟩,r⟩
 | own y=>obtain⟨ob,e⟩:=x;exact⟨ob,k _ _ (.inl rfl) e⟩
 | xd fs=>obtain⟨mA,⟨od,es,ep,e,c⟩,r⟩:=x;exact⟨mA,⟨od,es,ep,k _ _ (.inl rfl) e,c⟩,r⟩
 | rng lo hi=>obtain⟨t,u,v,e⟩:=x;exact⟨t,u,v,k _ _ (.inl rfl) e⟩
 | frz ob u ih=>obtain⟨e,q⟩:=x;exact⟨k _ _ (.inl rfl) e,ih q⟩
 | tbl ps =>
  have e:h.get? a=some { cls:=.none,data:=.fields ps }:=x
  show h'.get? a=some { cls:=.none,data:=.fields ps }
  exact k a _ (.inl rfl) e
 | met f y =>
  have e:h.get? a=some (PySem.W.methodObj (.ref f) (.ref y)):=x
  show h'.get? a=some (PySem.W.methodObj (.ref f) (.ref y))
  exact k a _ (.inl rfl) e
 | ext φ=>obtain⟨p,⟨o,e⟩,st⟩:=x;exact⟨st _ _ p λo q=>k _ _ (.inl rfl) q,⟨o,k _ _ (.inl rfl) e⟩,st⟩
theorem HOk.lt (x:HOk P w H h)(e:H a=some o):a<h.objs.size:=(x a o e).lt
theorem HOk.fresh (x:HOk P w H h)(e:h.objs.size<=a):H a=none:=by
 cases q:H a with
 | none=>rfl
 | some u=>exact absurd (q0l (x.lt q) e) (q4i _)
theorem HOk.kept (x:HOk P w H h)(k:∀ b u,h.get? b=some u->h'.get? b=some u):HOk P w H h':=λa o e =>
 (x a o e).stay (λb u _ q=>k b u q) (λ_ q=>q) λ_ _ q=>q
theorem HOk.laid (x:HOk P w H h)(k:∀ b u,h.get? b=some u->h'.get? b=some u)(hp:h.objs.size<=a)(new:ObjOk P w (upd H a o) h' a o):HOk P w (upd H a o) h':=λb u e=>by
 have hn:=x.fresh hp
 by_cases hb:b=a
 ·subst hb;rw[Z0d] at e;cases e;exact new
 ·rw[Z1d hb] at e
  exact(x b u e).stay (λc v _ q=>k c v q) (λc q=>by rw[Z1d (Z2h q hn)];exact q) λc xs q=>by rw[Z1d (Z2h q hn)];exact q
end
def Rd (H:Hp)(a:W9)(u:HO):Prop:=H a=some u∨∃ o,H a=some (.frz o u)
theorem Rd.ok {P:U8}{w:W1}{H:Hp}{h:Heap}{a:W9}{u:HO}(r:Rd H a u)(x:HOk P w H h):ObjOk P w H h a u:=by
 rcases r with r | ⟨o,r⟩
 ·exact x a u r
 ·obtain⟨_,q⟩:=x a _ r
  exact q
def Mut:Option HO->Prop
 | some (.lst _)=>True
 | some (.dK _)=>True
 | some (.dT _)=>True
 | some (.set _ _)=>True
 | some (.ins _ _ _)=>True
 | some (.ext _)=>True
 | _=>False
section
variable {P:U8}{w:W1}{H:Hp}{h h':Heap}{x e:W9}{o':HO}
theorem HOk.write (ok:HOk P w H h)(mu:Mut (H x))(he:e=x∨H e=some (.own x))(k:∀ b u,b≠e->h.get? b=some u->h'.get? b=some u)(heo:∃ u,h'.get? e=some u)
  (new:ObjOk P w (upd H x o') h' x o'):HOk P w (upd H x o') h':=λb u q=>by
 have nown:∀ c y,H c=some (.own y)->c≠x:=λc y r z=>by subst z;rw[r] at mu;exact mu
 have ntup:∀ c xs,H c=some (.tup xs)->c≠x:=λc xs r z=>by subst z;rw[r] at mu;exact mu
 by_cases hb:b=x
 ·subst hb;rw[Z0d] at q;cases q;exact new
 ·rw[Z1d hb] at q
  by_cases hbe:b=e
  ·have q':H b=some (.own x):=by
    rcases he with z | z
    ·exact absurd (hbe.trans z) hb
    ·rw[hbe];exact z
   rw[q] at q';cases q'
   obtain⟨v,hv⟩:=heo
   exact⟨v,by rw[hbe];exact hv⟩
  ·refine(ok b u q).stay (λc v hc r=>k c v ?_ r) (λc r=>by rw[Z1d (nown c b r)];exact r) λc xs r=>by rw[Z1d (ntup c xs r)];exact r
   rcases hc with rfl | hc
   ·exact hbe
   ·rintro rfl
    rcases he with z | z
    ·exact nown c b hc z
    ·rw[hc] at z;cases z;exact hb rfl
end
structure Un (fs ex:U3) (H H':Hp) (h h':Heap):Prop where
 keep:∀ b o,h.get? b=some o->H b=none->b ∉ fs->b ∉ ex->h'.get? b=some o
 slot:∀ b o,h.get? b=some o->H b=none->b∈fs->b ∉ ex->∃ sl,h'.get? b=some { o with slots:=sl }
 free:∀ b o,h.get? b=some o->H b=none->b ∉ ex->H' b=none
 there:∀ b o,h.get? b=some o->b ∉ ex->∃ o',h'.get? b=some o'
 tups:∀ b xs,H b=some (.tup xs)->H' b=some (.tup xs)
 frzs:∀ b o u,H b=some (.frz o u)->H' b=some (.frz o u)
 tbls:∀ b ps,H b=some (.tbl ps)->∃ more,H' b=some (.tbl (ps++more))
section
variable {fs fs' ex ex':U3}{H H1 H2:Hp}{h h1 h2 h':Heap}{a x e:W9}{o:HO}
theorem Un.any (u:Un fs ex H H1 h h1){b:W9}{ob:Obj}(q:h.get? b=some ob)(n:H b=none)(hx:b ∉ ex):∃ sl,h1.get? b=some { ob with slots:=sl }:=by
 by_cases hb:b∈fs
 ·exact u.slot b ob q n hb hx
 ·exact⟨ob.slots,u.keep b ob q n hb hx⟩
theorem Un.kept (k:∀ b u,h.get? b=some u->h'.get? b=some u):Un fs ex H H h h' :=
 ⟨λb ob q _ _ _=>k b ob q,λb ob q _ _ _=>⟨ob.slots,k b ob q⟩,λ_ _ _ n _=>n,λb ob q _=>⟨ob,k b ob q⟩,λ_ _ q=>q,λ_ _ _ q=>q,λ_ ps q=>⟨#[],by rw[q];simp⟩⟩
theorem Un.refl:Un fs ex H H h h:=Un.kept λ_ _ q=>q
theorem Un.laid (k:∀ b u,h.get? b=some u->h'.get? b=some u)(hp:h.objs.size<=a)(hn:H a=none):Un fs ex H (upd H a o) h h' where
 keep:=λb u q _ _ _=>k b u q
 slot:=λb u q _ _ _=>⟨u.slots,k b u q⟩
 free:=λb u q n _=>by rw[Z1d (q0w (q0l (q0h q) hp))];exact n
 there:=λb u q _=>⟨u,k b u q⟩
 tups:=λb xs q=>by rw[Z1d (Z2h q hn)];exact q
 frzs:=λb u xs q=>by rw[Z1d (Z2h q hn)];exact q
 tbls:=λb ps q=>⟨#[],by rw[Z1d (Z2h q hn),q];simp⟩
theorem Un.write (mu:Mut (H x))(he:e=x∨H e=some (.own x))(k:∀ b u,b≠e->h.get? b=some u->h'.get? b=some u)(heo:∃ u,h'.get? e=some u):Un fs ex H (upd H x o) h h':=by
 have hx:∀ b,H b=none->b≠x:=λb n z=>by subst z;rw[n] at mu;exact mu
 have hb:∀ b,H b=none->b≠e:=λb n z=>by
  subst z
  rcases he with r | r
  ·exact hx b n r
  ·rw[n] at r;cases r
 have hm:∀ b u,H b=some u->¬ Mut (some u)->b≠x:=λb u q nm z=>by subst z;rw[q] at mu;exact nm mu
 refine⟨λb u q n _ _=>k b u (hb b n) q,λb u q n _ _=>⟨u.slots,k b u (hb b n) q⟩,λb u q n _=>by rw[Z1d (hx b n)];exact n,λb u q _=>?_,
  λb xs q=>by rw[Z1d (hm b _ q λz=>z)];exact q,λb u xs q=>by rw[Z1d (hm b _ q λz=>z)];exact q,λb ps q=>⟨#[],by rw[Z1d (hm b _ q λz=>z),q];simp⟩⟩
 by_cases hbe:b=e
 ·subst hbe;exact heo
 ·exact⟨u,k b u hbe q⟩
end
noncomputable def trk (h:Heap)(H:Hp):List Addr:=(List.range h.objs.size).filter λa=>(H a).isSome
noncomputable def hidT (h:Heap)(H:Hp):Heap:=PySem.W.hideAll h (trk h H)
theorem Y8k (h:Heap)(H:Hp):(hidT h H).objs.size=h.objs.size:=PySem.W.hideAll_size _ _
theorem X1t {h:Heap}{H:Hp}{b:W9}{o:Obj}(e:h.get? b=some o)(n:H b=none):(hidT h H).get? b=some o :=
 PySem.W.hideAll_get _ e λhm=>by
  have q:(H b).isSome=true:=(List.mem_filter.mp hm).2
  rw[n] at q;simp at q
theorem X5t {h:Heap}{H:Hp}{b:W9}{o:Obj}(e:(hidT h H).get? b=some o):h.get? b=some o/\H b=none:=by
 have e':h.get? b=some o:=PySem.W.of_hideAll (trk h H) e
 refine⟨e',?_⟩
 cases q:H b with
 | none=>rfl
 | some x =>
  have hm:b∈trk h H:=List.mem_filter.mpr ⟨q0s.mpr (q0h e'),by simp[q]⟩
  have z:(hidT h H).get? b=none:=PySem.W.hideAll_none (trk h H) hm
  rw[z] at e;cases e
structure Mod (K:U0) (mg:U4) (base:Heap):Prop where
 kin:K.In base
 glob:base.Ns mainGlobals mg
 blt:∃ mb,base.Ns builtinsNs mb/\∀ x:Str,x≠"__name__"->mb x=bootBuiltins x
 nolimit:base.NoLimit
structure Cx where
 prog:Program
 w:World
 K:U0
 mg:Str->Option Value
 base:Heap
 A:Around
 N:List Str
 s₀:Shared
 H₀:Hp
 env:Env
 outer:List Env
 stack:List Env
 ex:List Addr
 fn:Str->Bool
 calm:Bool
 pn:List (Addr × Obj)
 xe:Value->Shared->Prop
noncomputable def frs (l:List Env):List Addr:=l.filterMap (·.frame)
noncomputable abbrev Cx.fs (X:Cx):List Addr:=frs X.outer
def Vis (sc:Scope)(x:Str):Prop:=sc.names.lookup x=some .local∨sc.names.lookup x=some .cell∨sc.names.lookup x=some .free
def Loc (sc:Scope)(x:Str):Prop:=sc.names.lookup x=some .local∨sc.names.lookup x=some .cell
def Look (env:Env)(h:Heap)(m:U4)(x:Str)(u:W2):Prop :=
 (env.kindOf x=some .local/\m x=some u)∨((env.kindOf x=some .cell∨env.kindOf x=some .free)/\∃ c,env.cells.lookup x=some c/\h.IsCell c (some u))
structure Cx.Ok (X:Cx):Prop where
 mod:Mod X.K X.mg X.base
 kind:X.env.scope.kind=.function
 glob:X.env.globals=mainGlobals
 blt:X.env.builtins=builtinsNs
 above:X.s₀.heap.objs.size<=X.env.locals
 inj:∀ x y c,X.env.cells.lookup x=some c->X.env.cells.lookup y=some c->x=y
 has:∀ x,(X.env.kindOf x=some .cell∨X.env.kindOf x=some .free)->∃ c,X.env.cells.lookup x=some c
 cab:∀ x c,X.fn x=true->X.env.cells.lookup x=some c->X.s₀.heap.objs.size<=c
 hd:X.calm=true->X.A.handled=none
 frames:X.A.frames=some X.stack
 stk:X.stack=X.outer∨(X.stack=X.env::X.outer/\X.env.frame=some X.env.locals)
 exf:∀ b∈X.ex,b≠X.env.locals/\∀ x c,X.env.cells.lookup x=some c->c≠b
 bs:∀ b o,X.base.get? b=some o->X.s₀.heap.get? b=some o/\X.H₀ b=none
 bsz:X.base.objs.size<=X.s₀.heap.objs.size
 noex:∀ b o,X.base.get? b=some o->b ∉ X.ex
 exfs:∀ b∈X.ex,b ∉ X.fs
 funs:X.s₀.heap.FunFrames X.base X.outer
 frf:∀ b∈X.fs,X.H₀ b=none
structure Inv (X:Cx) (pins:U1) (σ:List (Option V)) (H:Hp) (s:U7):Prop where
 ok:X.Ok
 os:s.os=X.s₀.os
 bare:AllBare s.gens
 base:Un X.fs X.ex X.H₀ H X.s₀.heap s.heap
 loc:∃ m,s.heap.Ns X.env.locals m/\∀ (i:Nat) (x:Str) (v:V),X.N[i]?=some x->σ[i]?=some (some v)->Vis X.env.scope x->∃ u,RelV v u/\Look X.env s.heap m x u
 cell:∀ x c,X.env.cells.lookup x=some c->∃ v,s.heap.IsCell c v
 free:H X.env.locals=none
 freeC:∀ x c,X.env.cells.lookup x=some c->H c=none
 pin:∀ p∈X.pn++pins,s.heap.get? p.1=some p.2/\H p.1=none/\p.1≠X.env.locals/\p.1 ∉ X.fs/\∀ v,p.2.data≠.cell v
 hok:HOk X.prog X.w H s.heap
 len:σ.length=X.N.length
section
variable {X:Cx}{pins:U1}{σ:List (Option V)}{H H':Hp}{s:U7}{h':Heap}
theorem Cx.Ok.nofr (ok:X.Ok){b:W9}{o:Obj}(e:X.base.get? b=some o):b ∉ X.fs:=λhb=>by
 have:=(ok.funs.mem hb).1
 rw[e] at this;cases this
theorem Inv.bs (I:Inv X pins σ H s):∀ b o,X.base.get? b=some o->s.heap.get? b=some o/\H b=none:=λb o e =>
 ⟨I.base.keep b o (I.ok.bs b o e).1 (I.ok.bs b o e).2 (I.ok.nofr e) (I.ok.noex b o e),I.base.free b o (I.ok.bs b o e).1 (I.ok.bs b o e).2 (I.ok.noex b o e)⟩
theorem Inv.bk (I:Inv X pins σ H s):∀ b o,X.base.get? b=some o->s.heap.get? b=some o:=λb o e=>(I.bs b o e).1
theorem Inv.mod (I:Inv X pins σ H s):Mod X.K X.mg X.base:=I.ok.mod
theorem Inv.kIn (I:Inv X pins σ H s):X.K.In s.heap:=I.ok.mod.kin.keeps I.bk
theorem Inv.lt (I:Inv X pins σ H s):X.env.locals<s.heap.objs.size:=let ⟨_,hn,_⟩:=I.loc;hn.lt
theorem Inv.sz (I:Inv X pins σ H s):X.s₀.heap.objs.size<=s.heap.objs.size:=q0u I.ok.above (q8t I.lt)
theorem Inv.nofs (I:Inv X pins σ H s){a:W9}(h:s.heap.objs.size<=a):a ∉ X.fs:=λhb=>by
 obtain⟨_,o,ho,_⟩:=I.ok.funs.mem hb
 exact absurd (q0l (q0h ho) (q0u I.sz h)) (q4i _)
theorem Inv.cne (I:Inv X pins σ H s):∀ x c,X.env.cells.lookup x=some c->c≠X.env.locals:=λx c e z=>by
 obtain⟨v,o,ho,hd⟩:=I.cell x c e
 obtain⟨m,⟨o',es,ep,ho',hd',_⟩,_⟩:=I.loc
 rw[z,ho'] at ho;cases ho;rw[hd'] at hd;cases hd
theorem Inv.funs (I:Inv X pins σ H s):s.heap.FunFrames X.base X.outer:=by
 have all:∀ (l:List Env),(∀ b∈frs l,b∈X.fs)->X.s₀.heap.FunFrames X.base l->s.heap.FunFrames X.base l:=by
  intro l
  induction l with
  | nil=>intro _ _;trivial
  | cons env r ih =>
   intro hs hl
   obtain⟨hk,⟨L,o,hf,hn,ho,hd⟩,hr⟩:=hl
   have hL:L∈X.fs:=hs L (by unfold frs;rw[q6j,hf];exact q4d)
   obtain⟨sl,e⟩:=I.base.slot L o ho (I.ok.frf L hL) hL λz=>I.ok.exfs L z hL
   exact⟨hk,⟨L,_,hf,hn,e,hd⟩,ih (λb hb=>hs b (by unfold frs;rw[q6j,hf];exact q3b _ hb)) hr⟩
 exact all X.outer (λ_ hb=>hb) I.ok.funs
theorem Inv.stack (I:Inv X pins σ H s):s.heap.FunFrames X.base X.stack:=by
 rcases I.ok.stk with e | ⟨e,hf⟩
 ·rw[e];exact I.funs
 ·rw[e]
  obtain⟨m,hn,_⟩:=I.loc
  refine .cons (by rw[I.ok.kind];decide) hf hn ?_ I.funs
  exact Heap.get?_none_of_le (q0u I.ok.bsz I.ok.above)
theorem Inv.stkSub (I:Inv X pins σ H s):∀ b∈frs X.stack,b∈X.env.locals::X.fs:=λb hb=>by
 rcases I.ok.stk with e | ⟨e,hf⟩
 ·rw[e] at hb;exact q3b _ hb
 ·rw[e] at hb
  unfold frs at hb
  rw[q6j,hf] at hb
  exact hb
theorem Inv.stkFree (I:Inv X pins σ H s):∀ b∈frs X.stack,H b=none:=λb hb=>by
 rcases q0p.mp (I.stkSub b hb) with e | hb
 ·rw[e];exact I.free
 ·obtain⟨_,o,ho,_⟩:=I.ok.funs.mem hb
  exact I.base.free b o ho (I.ok.frf b hb) λz=>I.ok.exfs b z hb
theorem Inv.step {g':Array GenState}{t':Nat}{d':Drawn}{ch:U3}(I:Inv X pins σ H s)
  (hch:∀ b∈ch,(b∈X.ex∨X.s₀.heap.objs.size<=b)/\b≠X.env.locals/\(∀ x c,X.env.cells.lookup x=some c->c≠b)/\∀ p∈X.pn++pins,p.1≠b)
  (keep:∀ b o,b≠X.env.locals->b ∉ X.fs->b ∉ ch->s.heap.get? b=some o->H b=none->h'.get? b=some o)
  (slot:∀ b o,b≠X.env.locals->b∈X.fs->b ∉ ch->s.heap.get? b=some o->H b=none->∃ sl,h'.get? b=some { o with slots:=sl }) (free:∀ b o,b ∉ ch->s.heap.get? b=some o->H b=none->H' b=none)
  (there:∀ b o,b ∉ ch->s.heap.get? b=some o->∃ o',h'.get? b=some o')
  (tups:∀ b xs,H b=some (.tup xs)->H' b=some (.tup xs)) (frzs:∀ b o u,H b=some (.frz o u)->H' b=some (.frz o u)) (tbls:∀ b ps,H b=some (.tbl ps)->∃ more,H' b=some (.tbl (ps++more)))
  (ns:∀ m,s.heap.Ns X.env.locals m->h'.Ns X.env.locals m) (hok:HOk X.prog X.w H' h') (hg:AllBare g') :
  Inv X pins σ H' { s with heap:=h',gens:=g',drawn:=d',toks:=t' }:=by
 have neL:∀ b o,X.s₀.heap.get? b=some o->b≠X.env.locals:=λb o e=>q0w (q0l (q0h e) I.ok.above)
 have neC:∀ b o,X.s₀.heap.get? b=some o->b ∉ X.ex->b ∉ ch:=λb o e hx hb=>by
  rcases (hch b hb).1 with z | z
  ·exact hx z
  ·exact absurd (q0l (q0h e) z) (q4i _)
 have cellK:∀ x c,X.env.cells.lookup x=some c->∀ v,s.heap.IsCell c v->h'.IsCell c v:=λx c e v ⟨o,ho,hd⟩=>by
  have nch:c ∉ ch:=λz=>(hch c z).2.2.1 x c e rfl
  by_cases hc:c∈X.fs
  ·obtain⟨sl,q⟩:=slot c o (I.cne x c e) hc nch ho (I.freeC x c e)
   exact⟨_,q,hd⟩
  ·exact⟨o,keep c o (I.cne x c e) hc nch ho (I.freeC x c e),hd⟩
 refine⟨I.ok,I.os,hg,⟨λb o e n hb hx=>?_,λb o e n hb hx=>?_,λb o e n hx=>?_,λb o e hx=>?_,λb xs e=>tups b xs (I.base.tups b xs e),λb o xs e=>frzs b o xs (I.base.frzs b o xs e),λb ps e=>?_⟩,?_,λx c e=>?_,?_,λx c e=>?_,λp hp=>?_,hok,I.len⟩
 ·exact keep b o (neL b o e) hb (neC b o e hx) (I.base.keep b o e n hb hx) (I.base.free b o e n hx)
 ·obtain⟨sl,e1⟩:=I.base.slot b o e n hb hx
  obtain⟨sl',e2⟩:=slot b _ (neL b o e) hb (neC b o e hx) e1 (I.base.free b o e n hx)
  exact⟨sl',e2⟩
 ·obtain⟨o',e1⟩:=I.base.there b o e hx
  exact free b o' (neC b o e hx) e1 (I.base.free b o e n hx)
 ·obtain⟨o',e1⟩:=I.base.there b o e hx
  exact there b o' (neC b o e hx) e1
 ·obtain⟨m1,e1⟩:=I.base.tbls b ps e
  obtain⟨m2,e2⟩:=tbls b _ e1
  exact⟨m1++m2,by rw[e2,Array.append_assoc]⟩
 ·obtain⟨m,hn,hl⟩:=I.loc
  refine⟨m,ns m hn,λi x v e1 e2 e3=>?_⟩
  obtain⟨u,r,l⟩:=hl i x v e1 e2 e3
  refine⟨u,r,?_⟩
  rcases l with l | ⟨k,c,e,z⟩
  ·exact .inl l
  ·exact .inr ⟨k,c,e,cellK x c e _ z⟩
 ·obtain⟨v,z⟩:=I.cell x c e
  exact⟨v,cellK x c e v z⟩
 ·obtain⟨m,⟨o,_,_,ho,_⟩,_⟩:=I.loc
  exact free _ o (λz=>(hch _ z).2.1 rfl) ho I.free
 ·obtain⟨v,o,ho,hd⟩:=I.cell x c e
  exact free c o (λz=>(hch c z).2.2.1 x c e rfl) ho (I.freeC x c e)
 ·obtain⟨e,n,ne,nf,d⟩:=I.pin p hp
  have nch:p.1 ∉ ch:=λz=>(hch p.1 z).2.2.2 p hp rfl
  exact⟨keep p.1 p.2 ne nf nch e n,free p.1 p.2 nch e n,ne,nf,d⟩
theorem Inv.un {t':Nat}(I:Inv X pins σ H s)(u:Un X.fs [] H H' s.heap h')(hok:HOk X.prog X.w H' h'):Inv X pins σ H' { s with heap:=h',toks:=t' }:=by
 obtain⟨m,⟨o,es,ep,ho,r⟩,_⟩:=id I.loc
 obtain⟨sl,hL⟩:=u.any ho I.free (by simp)
 exact I.step (g':=s.gens) (d':=s.drawn) (ch:=[]) (λ_ z=>nomatch z) (λb o _ hb _ e n=>u.keep b o e n hb (by simp)) (λb o _ hb _ e n=>u.slot b o e n hb (by simp)) (λb o _ e n=>u.free b o e n (by simp)) (λb o _ e=>u.there b o e (by simp)) u.tups u.frzs u.tbls (λm' hm=>by
  obtain⟨o',es',ep',ho',r'⟩:=hm
  rw[ho] at ho';cases ho'
  exact⟨_,es',ep',hL,r'⟩) hok I.bare
theorem Inv.call {g':Array GenState}{t':Nat}{d':Drawn}{ch:U3}(I:Inv X pins σ H s)(u:Un (frs X.stack) ch H H' s.heap h')(hok:HOk X.prog X.w H' h')(hg:AllBare g')
  (hch:∀ b∈ch,(b∈X.ex∨X.s₀.heap.objs.size<=b)/\b≠X.env.locals/\(∀ x c,X.env.cells.lookup x=some c->c≠b)/\∀ p∈X.pn++pins,p.1≠b) :
  Inv X pins σ H' { s with heap:=h',gens:=g',drawn:=d',toks:=t' }:=by
 obtain⟨m,⟨o,es,ep,ho,r⟩,_⟩:=id I.loc
 obtain⟨sl,hL⟩:=u.any ho I.free λz=>(hch _ z).2.1 rfl
 exact I.step (ch:=ch) hch (λb o hL hb hc e n=>u.keep b o e n (λz=>(q0p.mp (I.stkSub b z)).elim hL hb) hc) (λb o _ _ hc e n=>u.any e n hc) (λb o hc e n=>u.free b o e n hc) (λb o hc e=>u.there b o e hc) u.tups u.frzs u.tbls (λm' hm=>by
  obtain⟨o',es',ep',ho',r'⟩:=hm
  rw[ho] at ho';cases ho'
  exact⟨_,es',ep',hL,r'⟩) hok hg
theorem Inv.turned {t':Nat}{it:W9}(I:Inv X pins σ H s)(k:∀ b o,b≠it->s.heap.get? b=some o->h'.get? b=some o)(hn:H it=none)(hL:it≠X.env.locals)
  (h1:it∈X.ex∨X.s₀.heap.objs.size<=it) (h2:∀ x c,X.env.cells.lookup x=some c->c≠it) (h3:∀ p∈X.pn++pins,p.1≠it):Inv X pins σ H { s with heap:=h',toks:=t' }:=by
 have nit:∀ b u,H b=some u->b≠it:=λb u e z=>by rw[z,hn] at e;cases e
 refine I.step (g':=s.gens) (d':=s.drawn) (ch:=[it]) (λb hb=>?_) (λb o _ _ hc e _=>k b o (λz=>hc (by simp[z])) e) (λb o _ _ hc e _=>⟨o.slots,k b o (λz=>hc (by simp[z])) e⟩) (λ_ _ _ _ n=>n)
  (λb o hc e=>⟨o,k b o (λz=>hc (by simp[z])) e⟩) (λ_ _ e=>e) (λ_ _ _ e=>e) (λb ps e=>⟨#[],by rw[e];simp⟩) (λm hm=>?_) (λb u e=>?_) I.bare
 ·have e:b=it:=by simpa using hb
  subst e
  exact⟨h1,hL,h2,h3⟩
 ·obtain⟨o,es,ep,ho,r⟩:=hm
  exact⟨o,es,ep,k _ o (Ne.symm hL) ho,r⟩
 ·refine(I.hok b u e).stay (λc v hc q=>k c v ?_ q) (λ_ q=>q) λ_ _ q=>q
  rcases hc with z | z
  ·rw[z];exact nit b u e
  ·exact nit c _ z
theorem Inv.tok (I:Inv X pins σ H s)(t:Nat):Inv X pins σ H { s with toks:=t }:=I.un (h':=s.heap) (t':=t) Un.refl I.hok
theorem Inv.kept {t':Nat}(I:Inv X pins σ H s)(k:∀ b u,s.heap.get? b=some u->h'.get? b=some u):Inv X pins σ H { s with heap:=h',toks:=t' }:=I.un (Un.kept k) (I.hok.kept k)
theorem Inv.laid {a:W9}{o:HO}{t':Nat}(I:Inv X pins σ H s)(k:∀ b u,s.heap.get? b=some u->h'.get? b=some u)(hp:s.heap.objs.size<=a)(new:ObjOk X.prog X.w (upd H a o) h' a o) :
  Inv X pins σ (upd H a o) { s with heap:=h',toks:=t' }:=I.un (Un.laid k hp (I.hok.fresh hp)) (I.hok.laid k hp new)
theorem Inv.write {x e:W9}{o:HO}{t':Nat}(I:Inv X pins σ H s)(mu:Mut (H x))(he:e=x∨H e=some (.own x))(k:∀ b u,b≠e->s.heap.get? b=some u->h'.get? b=some u)(heo:∃ u,h'.get? e=some u)
  (new:ObjOk X.prog X.w (upd H x o) h' x o):Inv X pins σ (upd H x o) { s with heap:=h',toks:=t' }:=I.un (Un.write mu he k heo) (I.hok.write mu he k heo new)
theorem Inv.pins_of {pins':U1}(I:Inv X pins σ H s)(h:∀ p∈pins',s.heap.get? p.1=some p.2/\H p.1=none/\p.1≠X.env.locals/\p.1 ∉ X.fs/\∀ v,p.2.data≠.cell v):Inv X pins' σ H s :=
 ⟨I.ok,I.os,I.bare,I.base,I.loc,I.cell,I.free,I.freeC,λp hp=>(q0v.mp hp).elim (λz=>I.pin p (q3c _ z)) (h p),I.hok,I.len⟩
theorem Y3l {N:W0}(hN:N.Nodup){i j:Nat}{x:Str}(a:N[i]?=some x)(b:N[j]?=some x):i=j:=by
 obtain⟨h1,e1⟩:=q0t.mp a
 obtain⟨h2,e2⟩:=q0t.mp b
 exact(List.getElem_inj hN).mp (e1.trans e2.symm)
theorem Z9n {M:Model}{A:W6}{E:U2}{i:Nat}{x:Str}{v:V}{u:W2}{Q:Unit->Shared->Prop}(I:Inv X pins σ H s)(hN:X.N.Nodup)(hi:X.N[i]?=some x)(hx:Loc X.env.scope x)(r:RelV v u)
  (h:∀ s',Inv X pins (σ.set i (some v)) H s'->(∃ a,Heap.SameBut a s.heap s'.heap/\(a=X.env.locals∨X.env.cells.lookup x=some a))->Q () s') (hf:X.fn x=true∨X.env.scope.names.lookup x=some .local:=by first | exact .inl rfl | exact .inr rfl | assumption):wpAny M A (storeName X.env x u) Q E s:=by
 obtain⟨m,hn,hl⟩:=id I.loc
 have hcls:(X.env.scope.kind == .class || (X.env.scope.kind == .module && X.env.locals != X.env.globals))=false:=by rw[I.ok.kind];rfl
 have hiσ:i<σ.length:=by rw[I.len];exact(q0t.mp hi).1
 have cne:=I.cne
 have tracked:∀ {a:W9}{h':Heap},(∃ o,s.heap.get? a=some o/\H a=none)->Heap.SameBut a s.heap h'->HOk X.prog X.w H h':=λ{a h'} ha hs b ob e=>by
  obtain⟨_,_,hfree⟩:=ha
  refine(I.hok b ob e).stay (λc w' hc q=>(hs.2 c ?_).trans q) (λ_ q=>q) λ_ _ q=>q
  rintro rfl
  rcases hc with rfl | hc
  ·rw[hfree] at e;cases e
  ·rw[hfree] at hc;cases hc
 rcases hx with hk | hk
 ·refine wpAny_storeName_local hk hn (λh' hn' hs=>?_) hcls
  obtain⟨oL,_,_,hoL,_⟩:=id hn
  refine h _ ⟨I.ok,I.os,I.bare,⟨λb o e n hb hx=>?_,λb o e n hb hx=>?_,I.base.free,λb o e hx=>?_,I.base.tups,I.base.frzs,I.base.tbls⟩,⟨_,hn',λj y v' e1 e2 e3=>?_⟩,λy c e=>?_,I.free,I.freeC,λp hp=>?_,tracked ⟨oL,hoL,I.free⟩ hs,by simpa using I.len⟩ ⟨_,hs,.inl rfl⟩
  ·exact(hs.2 b (q0w (q0l (q0h e) I.ok.above))).trans (I.base.keep b o e n hb hx)
  ·obtain⟨sl,e1⟩:=I.base.slot b o e n hb hx
   exact⟨sl,(hs.2 b (q0w (q0l (q0h e) I.ok.above))).trans e1⟩
  ·obtain⟨o',e1⟩:=I.base.there b o e hx
   exact⟨o',(hs.2 b (q0w (q0l (q0h e) I.ok.above))).trans e1⟩
  ·by_cases hj:j=i
   ·subst hj
    rw[hi] at e1;cases e1
    rw[q7r hiσ] at e2
    cases e2
    exact⟨u,r,.inl ⟨hk,by simp⟩⟩
   ·rw[q6b (Ne.symm hj)] at e2
    obtain⟨u',r',q⟩:=hl j y v' e1 e2 e3
    refine⟨u',r',?_⟩
    rcases q with ⟨k,e⟩ | ⟨k,c,e,z⟩
    ·refine .inl ⟨k,?_⟩
     have:y≠x:=λe=>hj (Y3l hN e1 (e ▸ hi))
     simp[this,e]
    ·exact .inr ⟨k,c,e,z.sameBut hs (cne y c e)⟩
  ·obtain⟨w',z⟩:=I.cell y c e
   exact⟨w',z.sameBut hs (cne y c e)⟩
  ·obtain⟨e,n,ne,nf,d⟩:=I.pin p hp
   exact⟨(hs.2 p.1 ne).trans e,n,ne,nf,d⟩
 ·have hfn:X.fn x=true:=by
   rcases hf with z | z
   ·exact z
   ·rw[z] at hk;cases hk
  obtain⟨c,hc⟩:=I.ok.has x (.inl hk)
  obtain⟨w',z⟩:=I.cell x c hc
  refine wpAny_storeName_cell I.ok.kind hk hc z (λh' hc' hs=>?_)
  obtain⟨oc,hoc,hocd⟩:=id z
  refine h { s with heap:=h' } ⟨I.ok,I.os,I.bare,⟨λb o e n hb hx=>?_,λb o e n hb hx=>?_,I.base.free,λb o e hx=>?_,I.base.tups,I.base.frzs,I.base.tbls⟩,⟨m,hn.sameBut hs (Ne.symm (cne x c hc)),λj y v' e1 e2 e3=>?_⟩,λy c' e=>?_,I.free,I.freeC,λp hp=>?_,tracked ⟨oc,hoc,I.freeC x c hc⟩ hs,by simpa using I.len⟩ ⟨c,hs,.inr hc⟩
  ·exact(hs.2 b (q0w (q0l (q0h e) (I.ok.cab x c hfn hc)))).trans (I.base.keep b o e n hb hx)
  ·obtain⟨sl,e1⟩:=I.base.slot b o e n hb hx
   exact⟨sl,(hs.2 b (q0w (q0l (q0h e) (I.ok.cab x c hfn hc)))).trans e1⟩
  ·obtain⟨o',e1⟩:=I.base.there b o e hx
   exact⟨o',(hs.2 b (q0w (q0l (q0h e) (I.ok.cab x c hfn hc)))).trans e1⟩
  ·by_cases hj:j=i
   ·subst hj
    rw[hi] at e1;cases e1
    rw[q7r hiσ] at e2
    cases e2
    exact⟨u,r,.inr ⟨.inl hk,c,hc,hc'⟩⟩
   ·rw[q6b (Ne.symm hj)] at e2
    obtain⟨u',r',q⟩:=hl j y v' e1 e2 e3
    refine⟨u',r',?_⟩
    rcases q with q | ⟨k,c',e,z'⟩
    ·exact .inl q
    ·refine .inr ⟨k,c',e,z'.sameBut hs ?_⟩
     rintro rfl
     exact hj (Y3l hN e1 (I.ok.inj _ _ _ e hc ▸ hi))
  ·by_cases hcc:c'=c
   ·subst hcc;exact⟨_,hc'⟩
   ·obtain⟨w2,z2⟩:=I.cell y c' e
    exact⟨w2,z2.sameBut hs hcc⟩
  ·obtain⟨e,n,ne,nf,d⟩:=I.pin p hp
   refine⟨(hs.2 p.1 ?_).trans e,n,ne,nf,d⟩
   intro q
   rw[q,hoc] at e
   have q':oc=p.2:=Option.some.inj e
   exact d w' (by rw[<-q'];exact hocd)
theorem Y2l {M:Model}{A:W6}{E:U2}{i:Nat}{x:Str}{v:V}{u:W2}{Q:Unit->Shared->Prop}(I:Inv X pins σ H s)(hN:X.N.Nodup)(hi:X.N[i]?=some x)(hx:Loc X.env.scope x)(r:RelV v u)
  (h:∀ s',Inv X pins (σ.set i (some v)) H s'->Q () s') (hf:X.fn x=true∨X.env.scope.names.lookup x=some .local:=by first | exact .inl rfl | exact .inr rfl | assumption):wpAny M A (storeName X.env x u) Q E s :=
 Z9n I hN hi hx r (λs' I' _=>h s' I') hf
theorem Inv.call' {s':U7}{ch:U3}(I:Inv X pins σ H s)(ho:s'.os=s.os)(u:Un (frs X.stack) ch H H' s.heap s'.heap)(hok:HOk X.prog X.w H' s'.heap)(hg:AllBare s'.gens)
  (hch:∀ b∈ch,(b∈X.ex∨X.s₀.heap.objs.size<=b)/\b≠X.env.locals/\(∀ x c,X.env.cells.lookup x=some c->c≠b)/\∀ p∈X.pn++pins,p.1≠b):Inv X pins σ H' s':=by
 obtain⟨h',g',d',t',o'⟩:=s'
 have e:o'=s.os:=ho
 subst e
 exact I.call (g':=g') (t':=t') (d':=d') u hok hg hch
end
abbrev XK:=Value->Option Addr->Hp->Prop
abbrev St:=List (Option V)
abbrev VK:=V->Hp->Prop
abbrev TE:=St->Hp->VK->Prop
abbrev TT:=St->Hp->(Bool->Hp->Prop)->Prop
abbrev TA:=St->Hp->(List V->Hp->Prop)->Prop
structure Ends where
 nx:St->Hp->Prop
 rt:VK
 bk:St->Hp->Prop:=λ_ _=>False
 ct:St->Hp->Prop:=λ_ _=>False
abbrev TS:=Ends->St->Hp->Prop
def EP (X:Cx)(pins:U1)(σ:St)(Q:VK)(u:W2)(s':U7):Prop:=∃ v H',Inv X pins σ H' s'/\RelV v u/\Q v H'
def TP (X:Cx)(pins:U1)(σ:St)(Q:Bool->Hp->Prop)(b:Bool)(s':U7):Prop:=∃ H',Inv X pins σ H' s'/\Q b H'
def AP (X:Cx)(pins:U1)(σ:St)(Q:List V->Hp->Prop)(us:U5)(s':U7):Prop:=∃ vs H',Inv X pins σ H' s'/\Vals vs us/\Q vs H'
def SP (X:Cx)(pins:U1)(D:Ends)(f:Flow)(s':U7):Prop :=
 match f with
 | .next=>∃ σ' H',Inv X pins σ' H' s'/\D.nx σ' H'
 | .brk=>∃ σ' H',Inv X pins σ' H' s'/\D.bk σ' H'
 | .cont=>∃ σ' H',Inv X pins σ' H' s'/\D.ct σ' H'
 | .ret u=>∃ v σ' H',Inv X pins σ' H' s'/\RelV v u/\D.rt v H'
def PE (X:Cx)(e:Expr)(t:TE):Prop :=
 ∀ (pins:U1) (s:U7) (σ:St) (H:Hp) (Q:VK),Inv X pins σ H s->t σ H Q->wpAny (model X.prog X.w) X.A (eval e X.env) (EP X pins σ Q) X.xe s
def PT (X:Cx)(e:Expr)(t:TT):Prop :=
 ∀ (pins:U1) (s:U7) (σ:St) (H:Hp) (Q:Bool->Hp->Prop),Inv X pins σ H s->t σ H Q->wpAny (model X.prog X.w) X.A (isTrue e X.env (eval e X.env)) (TP X pins σ Q) X.xe s
def PW (X:Cx)(e:Expr)(t:TT):Prop :=
 ∀ (whole:Sem Value) (pins:U1) (s:U7) (σ:St) (H:Hp) (Q:Bool->Hp->Prop),Inv X pins σ H s->t σ H Q->wpAny (model X.prog X.w) X.A (isTrue e X.env whole) (TP X pins σ Q) X.xe s
theorem PW.pt {X:Cx}{e:Expr}{t:TT}(h:PW X e t):PT X e t:=h _
def PA (X:Cx)(es:List Expr)(t:TA):Prop :=
 ∀ (pos:Pos) (pins:U1) (s:U7) (σ:St) (H:Hp) (Q:List V->Hp->Prop),Inv X pins σ H s->t σ H Q->wpAny (model X.prog X.w) X.A (spliced (backTo pos (starEach es X.env))) (AP X pins σ Q) X.xe s
def PS (X:Cx)(st:Stmt)(t:TS):Prop :=
 ∀ (pins:U1) (s:U7) (σ:St) (H:Hp) (D:Ends),Inv X pins σ H s->t D σ H->wpAny (model X.prog X.w) X.A (exec st X.env) (SP X pins D) X.xe s
def PSs (X:Cx)(st:W8)(t:TS):Prop :=
 ∀ (pins:U1) (s:U7) (σ:St) (H:Hp) (D:Ends),Inv X pins σ H s->t D σ H->wpAny (model X.prog X.w) X.A (execs st X.env) (SP X pins D) X.xe s
theorem thn {α:Type}{t:Sem α}{Q Q':α->Shared->Prop}{M:Model}{A:W6}{E:U2}{s:U7}(h:wpAny M A t Q E s)(hQ:∀ a s,Q a s->Q' a s):wpAny M A t Q' E s:=q2a h hQ λ_ _ x=>x
section
variable {X:Cx}
theorem bin {a b:Expr}{ta tb:TE}(ha:PE X a ta)(hb:PE X b tb){pins:U1}{s:U7}{σ:St}{H:Hp}{R:V->V->Hp->Prop}(I:Inv X pins σ H s)(h:ta σ H λx H1=>tb σ H1 λy H2=>R x y H2)
  {α:Type}{Q:α->Shared->Prop}{f:Value->Value->Sem α}
  (hf:∀ v u s2 x y H2,Inv X pins σ H2 s2->RelV x v->RelV y u->R x y H2->wpAny (model X.prog X.w) X.A (f v u) Q X.xe s2) :
  wpAny (model X.prog X.w) X.A (eval a X.env) (λv s₁=>wpAny (model X.prog X.w) X.A (eval b X.env) (λu s₂=>wpAny (model X.prog X.w) X.A (f v u) Q X.xe s₂) X.xe s₁) X.xe s:=by
 refine thn (ha pins s σ H _ I h) λv s1 ⟨x,H1,I1,r1,q1⟩=>?_
 refine thn (hb pins s1 σ H1 _ I1 q1) λu s2 ⟨y,H2,I2,r2,q2⟩=>?_
 exact hf v u s2 x y H2 I2 r1 r2 q2
def tVar (i:Nat):TE:=λσ H Q=>∃ v,σ[i]?=some (some v)/\Q v H
def tC (v:V):TE:=λ_ H Q=>Q v H
theorem X8b {i:Nat}{x:Str}{pos:Pos}(hN:X.N[i]?=some x)(hv:Vis X.env.scope x)(hd:(x == ("__debug__":Str))=false:=by decide)(hcd:(x == ("__classdict__":Str))=false:=by decide):PE X (.Name x pos) (tVar i):=by
 intro pins s σ H Q I h
 obtain⟨v,e,h⟩:=h
 obtain⟨m,hn,hl⟩:=I.loc
 obtain⟨u,r,l⟩:=hl i x v hN e hv
 have fin:EP X pins σ Q u s:=⟨v,H,I,r,h⟩
 rcases l with ⟨hk,hm⟩ | ⟨hk,c,hc,hcell⟩
 ·exact wpAny_Name (wpAny_loadName_local I.ok.kind hk hn hm fin) hd
 ·rcases hk with hk | hk
  ·exact wpAny_Name (wpAny_loadName_cell I.ok.kind hk hc hcell fin) hd
  ·exact wpAny_Name (wpAny_loadName_free I.ok.kind hk hc hcell fin hcd) hd
theorem Z0b {i j pos}:PE X (.Constant (.int i) j pos) (tC (.int i)):=λ_ _ _ H _ I h=>wpAny_Constant_int ⟨.int i,H,I.tok _,⟨_,Z⟩,h⟩
theorem Z5l {b j pos}:PE X (.Constant (.bool b) j pos) (tC (.bl b)):=λ_ _ _ H _ I h=>Constant_bool ⟨.bl b,H,I,Z,h⟩
theorem Z3a {j pos}:PE X (.Constant .none j pos) (tC .non):=λ_ _ _ H _ I h=>Constant_none ⟨.non,H,I,Z,h⟩
theorem Z0x {x j pos}:PE X (.Constant (.str x) j pos) (tC (.str x)):=λ_ _ _ H _ I h=>Calls.Constant_str ⟨.str x,H,I.tok _,⟨_,Z⟩,h⟩
def Gl (X:Cx)(x:Str):Prop:=X.env.kindOf x=some .globalImplicit
theorem Y7w {E:U2}{pins:U1}{s:U7}{σ:St}{H:Hp}{x:Str}{u:W2}{pos:Pos}{Q:U2}(I:Inv X pins σ H s)(hg:Gl X x)(hm:X.mg x=some u)(h:Q u s)
  (hd:(x == ("__debug__":Str))=false:=by decide):wpAny (model X.prog X.w) X.A (eval (.Name x pos) X.env) Q E s :=
 Calls.Name_function_global I.ok.kind hg (Calls.loadGlobal_global (by rw[I.ok.glob];exact I.mod.glob.keeps I.bk) hm h) hd
theorem Z5y {E:U2}{pins:U1}{s:U7}{σ:St}{H:Hp}{x:Str}{u:W2}{pos:Pos}{Q:U2}(I:Inv X pins σ H s)(hg:Gl X x)(hm:X.mg x=none)(hv:bootBuiltins x=some u)(h:Q u s)
  (hn:x≠"__name__":=by decide) (hd:(x == ("__debug__":Str))=false:=by decide):wpAny (model X.prog X.w) X.A (eval (.Name x pos) X.env) Q E s:=by
 obtain⟨mb,h1,h2⟩:=I.mod.blt
 exact Calls.Name_function_global I.ok.kind hg (Calls.loadGlobal_builtin (by rw[I.ok.glob];exact I.mod.glob.keeps I.bk) hm (by rw[I.ok.blt];exact h1.keeps I.bk) ((h2 x hn).trans hv) h) hd
theorem Y1j {x:Str}{v:V}{u:W2}{pos:Pos}(hg:Gl X x)(hm:X.mg x=some u)(r:RelV v u)(hd:(x == ("__debug__":Str))=false:=by decide):PE X (.Name x pos) (tC v) :=
 λ_ _ _ H _ I h=>Y7w I hg hm ⟨v,H,I,r,h⟩ hd
theorem Z3s {x:Str}{v:V}{u:W2}{pos:Pos}(hg:Gl X x)(hm:X.mg x=none)(hv:bootBuiltins x=some u)(r:RelV v u)(hn:x≠"__name__":=by decide)(hd:(x == ("__debug__":Str))=false:=by decide):PE X (.Name x pos) (tC v) :=
 λ_ _ _ H _ I h=>Z5y I hg hm hv ⟨v,H,I,r,h⟩ hn hd
variable {a b:Expr}{ta tb:TE}{pos:Pos}
def PC (X:Cx)(op:CmpOp)(a b:Expr)(t:TE):Prop :=
 ∀ (pins:U1) (s:U7) (σ:St) (H:Hp) (Q:VK),Inv X pins σ H s->t σ H Q →
  wpAny (model X.prog X.w) X.A (eval a X.env) (λv s₁=>wpAny (model X.prog X.w) X.A (eval b X.env) (λu s₂=>wpAny (model X.prog X.w) X.A (compareOp op v u) (EP X pins σ Q) X.xe s₂) X.xe s₁) X.xe s
def tB (t:TE):TT:=λσ H Q=>t σ H λx H1=>∃ c,x=.bl c/\Q c H1
theorem X7y {op:CmpOp}{t:TE}(h:PC X op a b t)(h1:behindInMarks op b=false:=by first | exact nobehind _ (by decide) (by decide) | rfl):PT X (.Compare a [op] [b] pos) (tB t):=by
 intro pins s σ H Q I hw
 refine q7t (thn (h pins s σ H _ I hw) λv s1 h1=>thn h1 λu s2 h2=>thn h2 λc s3 ⟨x,H1,I1,r1,q1⟩=>?_) h1
 obtain⟨d,rfl,q⟩:=q1
 cases r1
 exact q2j ⟨H1,I1,q⟩
theorem Z2b {e:Expr}{t:TE}(h:PE X e t)(he:∀ whole,isTrue e X.env whole=(do let v ← whole;standAt e.pos;holding [v] (truthy v)):=by intro _;rfl):PT X e (tB t):=by
 intro pins s σ H Q I hw
 refine isTrue_plain (thn (h pins s σ H _ I hw) λv s1 ⟨x,H1,I1,r1,q1⟩=>?_) (he _)
 obtain⟨d,rfl,q⟩:=q1
 cases r1
 exact q2j ⟨H1,I1,q⟩
variable {tA tB':TT}{rest:List Expr}
def tAnd (t u:TT):TT:=λσ H Q=>t σ H λc H1=>if c=true then u σ H1 Q else Q false H1
def tOr (t u:TT):TT:=λσ H Q=>t σ H λc H1=>if c=true then Q true H1 else u σ H1 Q
def tNot (t:TT):TT:=λσ H Q=>t σ H λc H1=>Q (!c) H1
theorem Z4a (ha:PT X a tA):PW X (.BoolOp .And [a] pos) tA:=by
 intro wh pins s σ H Q I h
 refine isTrue_and (thn (ha pins s σ H Q I h) λc s1 e=>?_)
 cases c with
 | true=>exact isTrue_and_nil e
 | false=>exact e
theorem Z5v (ha:PT X a tA):PW X (.BoolOp .Or [a] pos) tA:=by
 intro wh pins s σ H Q I h
 refine isTrue_or (thn (ha pins s σ H Q I h) λc s1 e=>?_)
 cases c with
 | false=>exact isTrue_or_nil e
 | true=>exact e
theorem Z5w (ha:PT X a tA)(hb:PW X (.BoolOp .And (b::rest) pos) tB'):PW X (.BoolOp .And (a::b::rest) pos) (tAnd tA tB'):=by
 intro wh pins s σ H Q I h
 refine isTrue_and (thn (ha pins s σ H _ I h) λc s1 ⟨H1,I1,q1⟩=>?_)
 cases c with
 | true=>exact hb wh pins s1 σ H1 Q I1 q1
 | false=>exact⟨H1,I1,q1⟩
theorem Z7l (ha:PT X a tA)(hb:PW X (.BoolOp .Or (b::rest) pos) tB'):PW X (.BoolOp .Or (a::b::rest) pos) (tOr tA tB'):=by
 intro wh pins s σ H Q I h
 refine isTrue_or (thn (ha pins s σ H _ I h) λc s1 ⟨H1,I1,q1⟩=>?_)
 cases c with
 | true=>exact⟨H1,I1,q1⟩
 | false=>exact hb wh pins s1 σ H1 Q I1 q1
theorem Z2v (ha:PT X a tA):PT X (.UnaryOp .Not a pos) (tNot tA):=by
 intro pins s σ H Q I h
 exact isTrue_not (ha pins s σ H (λc H1=>Q (!c) H1) I h)
def tAndV (ta tb:TE):TE:=λσ H Q=>ta σ H λx H1=>∃ c,x=.bl c/\if c=true then tb σ H1 Q else Q (.bl false) H1
def tOrV (ta tb:TE):TE:=λσ H Q=>ta σ H λx H1=>∃ c,x=.bl c/\if c=true then Q (.bl true) H1 else tb σ H1 Q
def tNotV (ta:TE):TE:=λσ H Q=>ta σ H λx H1=>∃ c,x=.bl c/\Q (.bl (!c)) H1
theorem Z2z {op}{t:TE}(h:PE X a t):PE X (.BoolOp op [a] pos) t:=λpins s σ H Q I hw=>BoolOp_one (h pins s σ H Q I hw)
theorem Z3v (ha:PE X a ta)(hb:PE X (.BoolOp .And (b::rest) pos) tb):PE X (.BoolOp .And (a::b::rest) pos) (tAndV ta tb):=by
 intro pins s σ H Q I h
 refine BoolOp_and (thn (ha pins s σ H _ I h) λv s1 ⟨x,H1,I1,r1,q1⟩=>?_)
 obtain⟨c,rfl,q1⟩:=q1
 cases r1
 refine q2j ?_
 cases c with
 | true=>exact hb pins s1 σ H1 Q I1 q1
 | false=>exact⟨.bl false,H1,I1,rfl,q1⟩
theorem X4p (ha:PE X a ta)(hb:PE X (.BoolOp .Or (b::rest) pos) tb):PE X (.BoolOp .Or (a::b::rest) pos) (tOrV ta tb):=by
 intro pins s σ H Q I h
 refine BoolOp_or (thn (ha pins s σ H _ I h) λv s1 ⟨x,H1,I1,r1,q1⟩=>?_)
 obtain⟨c,rfl,q1⟩:=q1
 cases r1
 refine q2j ?_
 cases c with
 | false=>exact hb pins s1 σ H1 Q I1 q1
 | true=>exact⟨.bl true,H1,I1,rfl,q1⟩
theorem Y6t (ha:PE X a ta):PE X (.UnaryOp .Not a pos) (tNotV ta):=by
 intro pins s σ H Q I h
 refine UnaryOp_ (thn (ha pins s σ H _ I h) λv s1 ⟨x,H1,I1,r1,q1⟩=>?_)
 obtain⟨c,rfl,q1⟩:=q1
 cases r1
 exact not_of (q2j ⟨.bl (!c),H1,I1,Z,q1⟩)
def tIf (t:TT)(ta tb:TE):TE:=λσ H Q=>t σ H λc H1=>if c=true then ta σ H1 Q else tb σ H1 Q
theorem Z1v {c:Expr}(hc:PT X c tA)(ha:PE X a ta)(hb:PE X b tb):PE X (.IfExp c a b pos) (tIf tA ta tb):=by
 intro pins s σ H Q I h
 refine wpAny_IfExp (thn (hc pins s σ H _ I h) λd s1 ⟨H1,I1,q1⟩=>?_)
 cases d with
 | true=>exact ha pins s1 σ H1 Q I1 q1
 | false=>exact hb pins s1 σ H1 Q I1 q1
end
def SqL (K:U0)(H:Hp)(a:W9)(xs:List V):Prop :=
 Rd H a (.lst xs) ∨
  ∃ (o:Obj) (its:U9) (n:Nat),K.lookup a=some o/\o.cls=.type "list"/\o.dict=none/\o.data=.seq its n/\its.size<=sizeLine/\Vals xs its.toList
def SqT (K:U0)(H:Hp)(a:W9)(xs:List V):Prop :=
 Rd H a (.tup xs) ∨
  ∃ (o:Obj) (its:U9) (n:Nat),K.lookup a=some o/\o.cls=.type "tuple"/\o.data=.seq its n/\its.size<=sizeLine/\Vals xs its.toList
noncomputable def absV:Value->Option V
 | .none=>some .non
 | .bool b=>some (.bl b)
 | .int i _=>some (.int i)
 | .str x _=>some (.str x)
 | .bytes b _=>some (.byt b)
 | .float b _=>some (.flt b)
 | .ref a=>some (.ref a)
 | .type n=>some (.ty n)
 | _=>none
theorem RelV.abs {x:V}{u:W2}(r:RelV x u):absV u=some x:=by
 cases x with
 | non=>cases r;rfl
 | bl _=>cases r;rfl
 | int _=>obtain⟨t,rfl⟩:=r;rfl
 | str _=>obtain⟨t,rfl⟩:=r;rfl
 | byt _=>obtain⟨t,rfl⟩:=r;rfl
 | flt _=>obtain⟨t,rfl⟩:=r;rfl
 | ref _=>cases r;rfl
 | ty _=>cases r;rfl
theorem RelV.inj {x y:V}{u:W2}(r:RelV x u)(q:RelV y u):x=y:=Option.some.inj (r.abs.symm.trans q.abs)
theorem Vals.inj {xs ys:List V}{us:U5}(h:Vals xs us)(h':Vals ys us):xs=ys:=by
 induction h generalizing ys with
 | nil=>cases h';rfl
 | cons r t ih=>cases h' with
  | cons r' t'=>rw[r.inj r',ih t']
section
variable {X:Cx}{pins:U1}{σ:St}{H:Hp}{s:U7}{a:W9}{xs ys:List V}
theorem SqL.of {K:U0}(h:H a=some (.lst xs)):SqL K H a xs:=.inl (.inl h)
theorem SqT.of {K:U0}(h:H a=some (.tup xs)):SqT K H a xs:=.inl (.inl h)
theorem Inv.list (I:Inv X pins σ H s)(h:SqL X.K H a xs):∃ its:List Value,Vals xs its/\PlainL s.heap a its.toArray/\xs.length<=sizeLine:=by
 rcases h with h | ⟨o,its,n,hk,hc,hd,hs,hz,r⟩
 ·obtain⟨z,its,n,r,e⟩:=h.ok I.hok
  exact⟨its,r,⟨_,n,e,Z,Z,Z⟩,z⟩
 ·refine⟨its.toList,r,⟨o,n,I.kIn a o hk,hc,hd,by simpa using hs⟩,?_⟩
  have e:=r.length
  simp only[q1w] at e
  omega
theorem Inv.tuple (I:Inv X pins σ H s)(h:SqT X.K H a xs):∃ its:List Value,Vals xs its/\IsTup s.heap a its.toArray/\xs.length<=sizeLine:=by
 rcases h with h | ⟨o,its,n,hk,hc,hs,hz,r⟩
 ·obtain⟨z,its,r,p⟩:=h.ok I.hok
  exact⟨its,r,p,z⟩
 ·refine⟨its.toList,r,⟨o,I.kIn a o hk,hc,n,by simpa using hs⟩,?_⟩
  have e:=r.length
  simp only[q1w] at e
  omega
theorem Inv.list_inj (I:Inv X pins σ H s)(h:SqL X.K H a xs)(h':SqL X.K H a ys):xs=ys:=by
 obtain⟨its,r,⟨o,n,e,_,_,d⟩,_⟩:=I.list h
 obtain⟨its',r',⟨o',n',e',_,_,d'⟩,_⟩:=I.list h'
 rw[e] at e';cases e'
 rw[d] at d'
 injection d' with d1 _
 have:its=its':=by simpa using congrArg Array.toList d1
 subst this
 exact r.inj r'
theorem Inv.tuple_inj (I:Inv X pins σ H s)(h:SqT X.K H a xs)(h':SqT X.K H a ys):xs=ys:=by
 obtain⟨its,r,⟨o,e,_,n,d⟩,_⟩:=I.tuple h
 obtain⟨its',r',⟨o',e',_,n',d'⟩,_⟩:=I.tuple h'
 rw[e] at e';cases e'
 rw[d] at d'
 injection d' with d1 _
 have:its=its':=by simpa using congrArg Array.toList d1
 subst this
 exact r.inj r'
end
noncomputable abbrev Cx.wish (X:Cx)(E:U2):Cx:={ X with xe:=E }
noncomputable abbrev Cx.nox (X:Cx):Cx:=X.wish λ_ _=>False
theorem Cx.Ok.wish {X:Cx}(ok:X.Ok)(E:U2):(X.wish E).Ok :=
 ⟨ok.mod,ok.kind,ok.glob,ok.blt,ok.above,ok.inj,ok.has,ok.cab,ok.hd,ok.frames,ok.stk,ok.exf,ok.bs,ok.bsz,ok.noex,ok.exfs,ok.funs,ok.frf⟩
theorem Cx.Ok.unwish {X:Cx}{E:U2}(ok:(X.wish E).Ok):X.Ok :=
 ⟨ok.mod,ok.kind,ok.glob,ok.blt,ok.above,ok.inj,ok.has,ok.cab,ok.hd,ok.frames,ok.stk,ok.exf,ok.bs,ok.bsz,ok.noex,ok.exfs,ok.funs,ok.frf⟩
section
variable {X:Cx}{pins:U1}{σ:St}{H:Hp}{s:U7}{E:U2}
theorem Inv.wish (I:Inv X pins σ H s)(E:U2):Inv (X.wish E) pins σ H s:=⟨I.ok.wish E,I.os,I.bare,I.base,I.loc,I.cell,I.free,I.freeC,I.pin,I.hok,I.len⟩
theorem Inv.unwish (I:Inv (X.wish E) pins σ H s):Inv X pins σ H s:=⟨I.ok.unwish,I.os,I.bare,I.base,I.loc,I.cell,I.free,I.freeC,I.pin,I.hok,I.len⟩
theorem SP.unwish {D:Ends}{f:Flow}{s':U7}(h:SP (X.wish E) pins D f s'):SP X pins D f s':=by
 cases f with
 | next=>obtain⟨σ',H',I,q⟩:=h;exact⟨σ',H',I.unwish,q⟩
 | brk=>obtain⟨σ',H',I,q⟩:=h;exact⟨σ',H',I.unwish,q⟩
 | cont=>obtain⟨σ',H',I,q⟩:=h;exact⟨σ',H',I.unwish,q⟩
 | ret u=>obtain⟨v,σ',H',I,r,q⟩:=h;exact⟨v,σ',H',I.unwish,r,q⟩
theorem PSs.nox {st:W8}{t:TS}(h:PSs X.nox st t):PSs X st t:=λpins s σ H D I hw =>
 q2a (h pins s σ H D (I.wish _) hw) (λ_ _ q=>q.unwish) λ_ _ z=>False.elim z
end
section
variable {X:Cx}{st:Stmt}{rest:W8}{t u:TS}{e:Expr}{te:TE}{pos:Pos}
def tNext:TS:=λD σ H=>D.nx σ H
def tSeq (t u:TS):TS:=λD σ H=>t { D with nx:=u D } σ H
theorem Z0p:PSs X [] tNext:=λ_ _ σ H _ I h=>q6g ⟨σ,H,I,h⟩
theorem Z0g (h1:PS X st t)(h2:PSs X rest u):PSs X (st::rest) (tSeq t u):=by
 intro pins s σ H D I h
 refine q7l (thn (h1 pins s σ H { D with nx:=u D } I h) λf s1 q=>?_)
 cases f with
 | next =>
  obtain⟨σ',H',I',q⟩:=q
  exact h2 pins s1 σ' H' D I' q
 | ret v=>exact q
 | brk=>exact q
 | cont=>exact q
theorem Z0f (h1:PS X st t):PSs X [st] t:=by
 intro pins s σ H D I h
 refine q7l (thn (h1 pins s σ H D I h) λf s1 q=>?_)
 cases f with
 | next=>exact q6g q
 | ret v=>exact q
 | brk=>exact q
 | cont=>exact q
def tBreak:TS:=λD σ H=>D.bk σ H
theorem X0j:PS X (.Break pos) tBreak:=λ_ _ σ H _ I h=>wpAny_Break ⟨σ,H,I,h⟩
theorem Inv.quiet {pins:U1}{σ:St}{H:Hp}{s:U7}(I:Inv X pins σ H s):interactive X.env=false:=by simp[interactive,I.ok.kind]
def tDrop (te:TE):TS:=λD σ H=>te σ H λ_ H1=>D.nx σ H1
theorem Z2i (he:PE X e te)(hs:swapsWith e none pos.line X.env=pure false:=by rfl):PS X (.Expr e pos) (tDrop te):=by
 intro pins s σ H D I h
 exact wpAny_Expr_any (thn (he pins s σ H _ I h) λv s1 ⟨x,H1,I1,r1,q1⟩=>⟨σ,H1,I1,q1⟩) I.quiet hs
def tRet (te:TE):TS:=λD σ H=>te σ H D.rt
theorem Z0j (he:PE X e te):PS X (.Return (some e) pos) (tRet te):=by
 intro pins s σ H D I h
 exact wpAny_Return_some (thn (he pins s σ H _ I h) λv s1 ⟨x,H1,I1,r1,q1⟩=>⟨x,σ,H1,I1,r1,q1⟩)
def tIfS (c:TT)(t u:TS):TS:=λD σ H=>c σ H λb H1=>if b=true then t D σ H1 else u D σ H1
theorem Z0y {c:Expr}{a b:W8}{tc:TT}(hc:PT X c tc)(ha:PSs X a t)(hb:PSs X b u):PS X (.If c a b pos) (tIfS tc t u):=by
 intro pins s σ H D I h
 refine wpAny_If (thn (hc pins s σ H _ I h) λd s1 ⟨H1,I1,q1⟩=>?_)
 cases d with
 | true=>exact ha pins s1 σ H1 D I1 q1
 | false=>exact hb pins s1 σ H1 D I1 q1
def tNever:TS:=λ_ _ _=>False
theorem Z4j:PS X st tNever:=λ_ _ _ _ _ _ h=>h.elim
end
abbrev TG:=V->St->Hp->(St->Hp->Prop)->Prop
abbrev TGs:=List V->St->Hp->(St->Hp->Prop)->Prop
def PG (X:Cx)(target:Expr)(t:TG):Prop :=
 ∀ (pins:U1) (s:U7) (σ:St) (H:Hp) (v:V) (u:W2) (Q:St->Hp->Prop),Inv X pins σ H s->RelV v u->t v σ H Q →
  wpAny (model X.prog X.w) X.A (assign target X.env u) (λ_ s'=>∃ σ' H',Inv X pins σ' H' s'/\Q σ' H') X.xe s
def PGs (X:Cx)(ts:List Expr)(t:TGs):Prop :=
 ∀ (pins:U1) (s:U7) (σ:St) (H:Hp) (vs:List V) (us:U5) (Q:St->Hp->Prop),Inv X pins σ H s->Vals vs us->t vs σ H Q →
  wpAny (model X.prog X.w) X.A (assignInOrder ((assignEach ts X.env).map (·.2)) us) (λ_ s'=>∃ σ' H',Inv X pins σ' H' s'/\Q σ' H') X.xe s
abbrev TSet:=V->V->V->Hp->(Hp->Prop)->Prop
def PSet (X:Cx)(t:TSet):Prop :=
 ∀ (pins:U1) (s:U7) (σ:St) (H:Hp) (o i v:V) (ov iv u:W2) (Q:Hp->Prop),Inv X pins σ H s->RelV o ov->RelV i iv->RelV v u->t o i v H Q →
  wpAny (model X.prog X.w) X.A (setItem ov iv u) (λ_ s'=>∃ H',Inv X pins σ H' s'/\Q H') X.xe s
section
variable {X:Cx}{pos:Pos}
def gName (i:Nat):TG:=λv σ H Q=>Q (σ.set i (some v)) H
theorem Z0w {i:Nat}{x:Str}(hN:X.N.Nodup)(hi:X.N[i]?=some x)(hx:Loc X.env.scope x)(hf:X.fn x=true∨X.env.scope.names.lookup x=some .local:=by first | exact .inl rfl | exact .inr rfl | assumption):PG X (.Name x pos) (gName i):=by
 intro pins s σ H v u Q I r h
 exact wpAny_assign_Name (Y2l I hN hi hx r (λs' I'=>⟨_,H,I',h⟩) hf)
def gNil:TGs:=λvs σ H Q=>vs=[]/\Q σ H
def gCons (t:TG)(u:TGs):TGs:=λvs σ H Q=>∃ v r,vs=v::r/\t v σ H λσ' H'=>u r σ' H' Q
theorem Y1h:PGs X [] gNil:=by
 intro pins s σ H vs us Q I r h
 obtain⟨e,h⟩:=h
 subst e
 cases r
 exact assignInOrder_nil ⟨σ,H,I,h⟩
theorem Z4k {e:Expr}{es:List Expr}{t:TG}{u:TGs}(h1:PG X e t)(h2:PGs X es u)
  (hs:(assignEach (e::es) X.env).map (·.2)=assign e X.env::(assignEach es X.env).map (·.2):=by rfl):PGs X (e::es) (gCons t u):=by
 intro pins s σ H vs us Q I r h
 obtain⟨v,vr,e1,h⟩:=h
 subst e1
 cases r with
 | cons r rr =>
  rw[hs]
  refine assignInOrder_cons (thn (h1 pins s σ H _ _ _ I r h) λ_ s1 ⟨σ1,H1,I1,q1⟩=>?_)
  exact h2 pins s1 σ1 H1 _ _ Q I1 rr q1
def gTup (K:U0)(n:Nat)(t:TGs):TG:=λv σ H Q=>∃ a xs,v=.ref a/\SqT K H a xs/\xs.length=n/\t xs σ H Q
theorem Y6r {es:List Expr}{k:Nat}{t:TGs}{n:Nat}(hc:X.calm=true)(h:PGs X es t)
  (hn:(assignEach es X.env).length=n:=by rfl) (hst:(assignEach es X.env).findIdx? (·.1)=none:=by rfl):PG X (.Tuple es k pos) (gTup X.K n t):=by
 intro pins s σ H v u Q I r hw
 obtain⟨a,xs,e1,hq,hl,hw⟩:=hw
 subst e1
 cases r
 obtain⟨its,rv,ht,hz⟩:=I.tuple hq
 refine assign_Tuple_tuple (I.ok.hd hc) ht (by simp[hn,<-hl,rv.length]) hst λh' hx=>?_
 have I1:Inv X pins σ H { s with heap:=h' }:=I.kept (t':=s.toks) λb o e=>hx b o (q0w (q0h e)) e
 exact h pins _ σ H xs _ Q I1 (by simpa using rv) hw
def gSub (to ti:TE)(t:TSet):TG:=λv σ H Q=>to σ H λo H1=>ti σ H1 λi H2=>t o i v H2 λH3=>Q σ H3
theorem Y3e {o i:Expr}{to ti:TE}{t:TSet}(ho:PE X o to)(hi:PE X i ti)(hs:PSet X t)
  (ha:∀ v,assign (.Subscript o i pos) X.env v=(do
   let ov ← holding [v] (eval o X.env)
   let iv ← holding [v,ov] (eval i X.env)
   standAt pos
   holding [v,ov,iv] (setItem ov iv v)
   release [v,ov,iv] []):=by intro _;rfl):PG X (.Subscript o i pos) (gSub to ti t):=by
 intro pins s σ H v u Q I r h
 rw[ha]
 refine q0o (q6c (thn (ho pins s σ H _ I h) λov s1 ⟨x,H1,I1,r1,q1⟩=>?_))
 refine q0o (q6c (thn (hi pins s1 σ H1 _ I1 q1) λiv s2 ⟨y,H2,I2,r2,q2⟩=>?_))
 refine q0o (q7d (q0o (q6c (thn (hs pins s2 σ H2 x y v ov iv u _ I2 r1 r2 r q2) λ_ s3 ⟨H3,I3,q3⟩=>?_))))
 exact wpAny_release ⟨σ,H3,I3,q3⟩
def tAsg (te:TE)(g:TG):TS:=λD σ H=>te σ H λx H1=>g x σ H1 D.nx
theorem Y3c {tg e:Expr}{te:TE}{g:TG}(he:PE X e te)(hg:PG X tg g)(hs:swapsWithSole [tg] e pos.line X.env=pure false:=by rfl)(hw:swappedStores [tg] e X.env=pure none:=by rfl)
  (h1:(assignEach [tg] X.env).map (·.2)=[assign tg X.env]:=by rfl):PS X (.Assign [tg] e pos) (tAsg te g):=by
 intro pins s σ H D I h
 refine wpAny_Assign_stores (thn (he pins s σ H _ I h) λv s1 ⟨x,H1,I1,r1,q1⟩=>?_) hs hw
 rw[h1]
 exact thn (hg pins s1 σ H1 x v _ I1 r1 q1) λ_ s2 q=>q
theorem Z0o {i:Nat}{x:Str}{e:Expr}{te:TE}{pos':Pos}(hN:X.N.Nodup)(hi:X.N[i]?=some x)(hx:Loc X.env.scope x)(he:PE X e te)(hs:swapsWith e (some (.Name x pos')) pos.line X.env=pure false:=by rfl)(hf:X.fn x=true∨X.env.scope.names.lookup x=some .local:=by first | exact .inl rfl | exact .inr rfl | assumption) :
  PS X (.Assign [.Name x pos'] e pos) (tAsg te (gName i)):=by
 intro pins s σ H D I h
 refine wpAny_Assign_Name (thn (he pins s σ H _ I h) λv s1 ⟨y,H1,I1,r1,q1⟩=>?_) hs
 exact Y2l I1 hN hi hx r1 (λs2 I2=>⟨_,H1,I2,q1⟩) hf
end
section
variable {X:Cx}{pos:Pos}
def tWhile (c:TT)(tb:TS):TS:=λD σ H=>∃ W:Nat->St->Hp->Prop,(∃ m,W m σ H)/\∀ m σ H,W m σ H →
 c σ H λb H1=>if b=true then ∃ N:St->Hp->Prop,(∀ σ' H',N σ' H'->∃ m',m'<m/\W m' σ' H')/\tb { D with nx:=N,ct:=N,bk:=D.nx } σ H1 else D.nx σ H1
theorem Z8q {c:Expr}{body:W8}{tc:TT}{tb:TS}(hp:PassesOwn (model X.prog X.w) X.A X.env X.xe)(hc:PT X c tc)(hb:PSs X body tb):PS X (.While c body [] pos) (tWhile tc tb):=by
 intro pins s σ H D I h
 obtain⟨W,⟨m0,w0⟩,turn⟩:=h
 refine wpAny_While (codeAny_whileLoop (λn s'=>∃ σ' H',Inv X pins σ' H' s'/\W n σ' H') ?_ m0 ⟨σ,H,I,w0⟩)
 rintro n s1 ⟨σ1,H1,I1,w1⟩
 refine q3o hp (thn (hc pins s1 σ1 H1 _ I1 (turn n σ1 H1 w1)) λb s2 ⟨H2,I2,q2⟩=>?_)
 cases b with
 | true =>
  obtain⟨N,hN,q2⟩:=q2
  rw[if_pos rfl]
  refine q3o hp (thn (hb pins s2 σ1 H2 _ I2 q2) λf s3 q3=>?_)
  cases f with
  | next =>
   obtain⟨σ3,H3,I3,n3⟩:=q3
   obtain⟨m',hm,w3⟩:=hN σ3 H3 n3
   exact⟨m',hm,σ3,H3,I3,w3⟩
  | cont =>
   obtain⟨σ3,H3,I3,n3⟩:=q3
   obtain⟨m',hm,w3⟩:=hN σ3 H3 n3
   exact⟨m',hm,σ3,H3,I3,w3⟩
  | brk=>exact q3
  | ret v=>exact q3
 | false =>
  rw[if_neg q0q]
  exact q6g ⟨σ1,H2,I2,q2⟩
end
structure It where
 go:Nat->Hp->Prop
 yld:Nat->Hp->V->Hp->Prop
 stop:Nat->Hp->Prop
def FpOk (X:Cx)(pins:U1)(H:Hp)(b:W9):Prop :=
 H b=none/\b≠X.env.locals/\b ∉ X.fs/\(b∈X.ex∨X.s₀.heap.objs.size<=b)/\(∀ x c,X.env.cells.lookup x=some c->c≠b)/\∀ p∈X.pn++pins,p.1≠b
theorem Inv.fpOk {X:Cx}{pins:U1}{σ:St}{H H':Hp}{s:U7}{b:W9}(I:Inv X pins σ H s)(hb:s.heap.objs.size<=b)(hn:H' b=none):FpOk X pins H' b:=by
 refine⟨hn,q4g (q0l I.lt hb),I.nofs hb,.inr (q0u I.sz hb),λx c e z=>?_,λp hp z=>?_⟩
 ·obtain⟨v,q⟩:=I.cell x c e
  exact absurd (q0l q.lt (by rw[z];exact hb)) (q4i _)
 ·exact absurd (q0l (q0h (I.pin p hp).1) (by rw[z];exact hb)) (q4i _)
structure Turn (P:U8) (w:W1) (K:U0) (tg:Expr) (J:It) (fp:U3) (it:W9) (tn:Nat->Heap->Prop):Prop where
 mem:it∈fp
 obj:∀ i h,tn i h->∀ b∈fp,∃ o,h.get? b=some o/\∀ v,o.data≠.cell v
 keep:∀ i h h',tn i h->(∀ b∈fp,∀ o,h.get? b=some o->h'.get? b=some o)->tn i h'
 item:∀ (X:Cx),X.prog=P->X.w=w->X.K=K->X.calm=true->∀ (i:Nat) (pins:U1) (s:U7) (σ:St) (H:Hp) (E:U2),Inv X pins σ H s->(∀ b∈fp,FpOk X pins H b)->tn i s.heap->J.go i H →
  wpAny (model P w) X.A (pyNext (.ref it)) (λr s1=>∃ u,r=some u ∧
   wpAny (model P w) X.A (letOwnedTupleGo tg (.ref it) u) (λ_ s2=>∃ x H',Inv X pins σ H' s2/\RelV x u/\J.yld i H x H'/\tn (i+1) s2.heap/\∀ b∈fp,H' b=none) E s1) E s
 done:∀ (X:Cx),X.prog=P->X.w=w->X.K=K->X.calm=true->∀ (i:Nat) (pins:U1) (s:U7) (σ:St) (H:Hp) (E:U2),Inv X pins σ H s->(∀ b∈fp,FpOk X pins H b)->tn i s.heap->J.stop i H →
  wpAny (model P w) X.A (pyNext (.ref it)) (λr s1=>r=none/\Inv X pins σ H s1) E s
 self:∀ (A:W6) (i:Nat) (s:U7) (Q:U2) (E:U2),tn i s.heap->Q (.ref it) s->wpAny (model P w) A (pyIter (.ref it)) Q E s
abbrev TI:=St->Hp->(It->Hp->Prop)->Prop
def PIE (X:Cx)(pins:U1)(σ:St)(tg:Expr)(R:It->Hp->Prop)(itv:W2)(s2:U7):Prop :=
 ∃ (it:W9) (fp:U3) (tn:Nat->Heap->Prop) (J:It) (H':Hp),itv=.ref it/\Inv X pins σ H' s2/\Turn X.prog X.w X.K tg J fp it tn/\tn 0 s2.heap/\(∀ b∈fp,FpOk X pins H' b)/\R J H'
def PI (X:Cx)(tg iter:Expr)(wi:TI):Prop :=
 ∀ (pins:U1) (s:U7) (σ:St) (H:Hp) (R:It->Hp->Prop),Inv X pins σ H s->wi σ H R →
  wpAny (model X.prog X.w) X.A (eval iter X.env) (λv s1=>wpAny (model X.prog X.w) X.A (pyIter v) (PIE X pins σ tg R) X.xe s1) X.xe s
theorem X1u {M:Model}{A:W6}{E:U2}{s:U7}{tg:Expr}{it:W9}{u:W2}{o:Obj}{n:String}{vs:U9}{Q:Unit->Shared->Prop}(ho:s.heap.get? it=some o)(hc:o.cls=.type n)(hd:o.data=.fields vs)
  (hn:["enumerate","zip","dict_itemiterator","dict_reverseitemiterator","odict_iterator","itertools.zip_longest","itertools.pairwise"].contains n=false) (hQ:Q () s):wpAny M A (letOwnedTupleGo tg (.ref it) u) Q E s:=by
 unfold letOwnedTupleGo
 cases tg<;>first
  | exact q0z hQ
  | (cases u<;>first
    | exact q0z hQ
    | (refine q0o (wpAny_load ho ?_);rw[hc,hd];show wpAny M A (if (["enumerate","zip","dict_itemiterator","dict_reverseitemiterator","odict_iterator","itertools.zip_longest","itertools.pairwise"].contains n && vs[0]? == some (rawInt _))=true then _ else _) Q E s;rw[if_neg (by intro h;rw[hn,q3z] at h;cases h)];exact q0z hQ))
def Itl (K:U0)(a:W9):It :=
 ⟨λi H=>∃ xs x,SqL K H a xs/\xs[i]?=some x,λi H x H'=>H'=H/\∀ xs,SqL K H a xs->xs[i]?=some x,λi H=>∃ xs,SqL K H a xs/\xs.length<=i⟩
def Itt (K:U0)(a:W9):It :=
 ⟨λi H=>∃ xs x,SqT K H a xs/\xs[i]?=some x,λi H x H'=>H'=H/\∀ xs,SqT K H a xs->xs[i]?=some x,λi H=>∃ xs,SqT K H a xs/\xs.length<=i⟩
def Itr (lo:Int)(n:Nat):It:=⟨λi _=>i<n,λi H x H'=>H'=H/\x=.int (lo+i),λi _=>n<=i⟩
theorem Y5l {P:U8}{w:W1}{K:U0}{tg:Expr}(a it:W9):Turn P w K tg (Itl K a) [it] it (λi h=>h.IsListIter it a i) where
 mem:=by simp
 obj:=λi h st b hb=>by
  have e:b=it:=by simpa using hb
  subst e
  obtain⟨o,e,c,d⟩:=st
  exact⟨o,e,λv z=>by rw[d] at z;cases z⟩
 keep:=λi h h' st k=>st.at λo e=>k it (by simp) o e
 item:=by
  intro X hP hw hK hc i pins s σ H E I hf st hg
  subst hP hw hK
  obtain⟨xs,x,hq,hx⟩:=hg
  obtain⟨its,rv,p,hz⟩:=I.list hq
  obtain⟨u,hu,ru⟩:=rv.get hx
  obtain⟨f0,f1,f2,f3,f4,f5⟩:=hf it (by simp)
  refine wpAny_pyNext_list_item st p.isList (x:=u) (by simpa using hu) λh' st' sb=>?_
  have I1:Inv X pins σ H { s with heap:=h' }:=I.turned (t':=s.toks) (λb o hb e=>(sb.2 b hb).trans e) f0 f1 f3 f4 f5
  obtain⟨o,e,c,d⟩:=id st'
  exact⟨u,Z,X1u (s:={ s with heap:=h' }) e c d (by decide) ⟨x,H,I1,ru,⟨Z,λys hy=>by rw[I.list_inj hy hq];exact hx⟩,st',λb hb=>(hf b hb).1⟩⟩
 done:=by
  intro X hP hw hK hc i pins s σ H E I hf st hg
  subst hP hw hK
  obtain⟨xs,hq,hx⟩:=hg
  obtain⟨its,rv,p,hz⟩:=I.list hq
  obtain⟨f0,f1,f2,f3,f4,f5⟩:=hf it (by simp)
  have hl:=rv.length
  exact wpAny_pyNext_list_end (I.ok.hd hc) st p.isList (by simp;omega) λh' eb=>⟨Z,I.turned (t':=s.toks) (λb o hb e=>eb b o hb e) f0 f1 f3 f4 f5⟩
 self:=λ_ _ _ _ _ st h=>wpAny_pyIter_listiter st h
theorem Y4n {P:U8}{w:W1}{K:U0}{tg:Expr}(a it:W9):Turn P w K tg (Itt K a) [it] it (λi h=>h.IsTupleIter it a i) where
 mem:=by simp
 obj:=λi h st b hb=>by
  have e:b=it:=by simpa using hb
  subst e
  obtain⟨o,e,c,d⟩:=st
  exact⟨o,e,λv z=>by rw[d] at z;cases z⟩
 keep:=λi h h' st k=>st.at λo e=>k it (by simp) o e
 item:=by
  intro X hP hw hK hc i pins s σ H E I hf st hg
  subst hP hw hK
  obtain⟨xs,x,hq,hx⟩:=hg
  obtain⟨its,rv,p,hz⟩:=I.tuple hq
  obtain⟨u,hu,ru⟩:=rv.get hx
  obtain⟨f0,f1,f2,f3,f4,f5⟩:=hf it (by simp)
  refine wpAny_pyNext_tuple_item st (show s.heap.IsTuple a its.toArray from p) (x:=u) (by simpa using hu) λh' st' sb=>?_
  have I1:Inv X pins σ H { s with heap:=h' }:=I.turned (t':=s.toks) (λb o hb e=>(sb.2 b hb).trans e) f0 f1 f3 f4 f5
  obtain⟨o,e,c,d⟩:=id st'
  exact⟨u,Z,X1u (s:={ s with heap:=h' }) e c d (by decide) ⟨x,H,I1,ru,⟨Z,λys hy=>by rw[I.tuple_inj hy hq];exact hx⟩,st',λb hb=>(hf b hb).1⟩⟩
 done:=by
  intro X hP hw hK hc i pins s σ H E I hf st hg
  subst hP hw hK
  obtain⟨xs,hq,hx⟩:=hg
  obtain⟨its,rv,p,hz⟩:=I.tuple hq
  obtain⟨f0,f1,f2,f3,f4,f5⟩:=hf it (by simp)
  have hl:=rv.length
  exact wpAny_pyNext_tuple_end (I.ok.hd hc) st (show s.heap.IsTuple a its.toArray from p) (by simp;omega) λh' eb=>⟨Z,I.turned (t':=s.toks) (λb o hb e=>eb b o hb e) f0 f1 f3 f4 f5⟩
 self:=λ_ _ _ _ _ st h=>wpAny_pyIter_tupleiter st h
theorem Y4o {P:U8}{w:W1}{K:U0}{tg:Expr}(it:W9)(lo:Int)(n:Nat):Turn P w K tg (Itr lo n) [it] it (λi h=>IsRangeIter h it (lo+(i:Nat)*1) ((n:Int)-(i:Nat)) 1) where
 mem:=by simp
 obj:=λi h st b hb=>by
  have e:b=it:=by simpa using hb
  subst e
  exact⟨_,st,λv z=>by
   have z':Data.fields _=Data.cell v:=z
   cases z'⟩
 keep:=λi h h' st k=>k it (by simp) _ st
 item:=by
  intro X hP hw hK hc i pins s σ H E I hf st hg
  subst hP hw hK
  obtain⟨f0,f1,f2,f3,f4,f5⟩:=hf it (by simp)
  have W:=Walks.range (prog:=X.prog) (w:=X.w) (I.ok.hd hc) it lo 1 n
  refine W.item i s _ _ hg st λv h' tk hv st' kk=>?_
  obtain⟨t,rfl⟩:=hv
  have I1:Inv X pins σ H { s with heap:=h',toks:=tk }:=I.turned (λb o hb e=>kk b o (by simpa using hb) e) f0 f1 f3 f4 f5
  refine⟨_,Z,X1u (s:={ s with heap:=h',toks:=tk }) (n:="range_iterator") st' rfl rfl (by decide) ⟨.int (lo+i),H,I1,⟨t,?_⟩,⟨Z,Z⟩,st',λb hb=>(hf b hb).1⟩⟩
  rw[q6m]
 done:=by
  intro X hP hw hK hc i pins s σ H E I hf st hg
  subst hP hw hK
  obtain⟨f0,f1,f2,f3,f4,f5⟩:=hf it (by simp)
  exact wpAny_pyNext_range_end (I.ok.hd hc) st (by have:n<=i:=hg;omega) λh' eb=>⟨Z,I.turned (t':=s.toks) (λb o hb e=>eb b o hb e) f0 f1 f3 f4 f5⟩
 self:=λ_ _ _ _ _ st h=>wpAny_pyIter_rangeiter st h
section
variable {X:Cx}{tg:Expr}
def iList (K:U0)(tl:TE):TI:=λσ H R=>tl σ H λx H1=>∃ a,x=.ref a/\(∃ xs,SqL K H1 a xs)/\R (Itl K a) H1
def iTup (K:U0)(tl:TE):TI:=λσ H R=>tl σ H λx H1=>∃ a,x=.ref a/\(∃ xs,SqT K H1 a xs)/\R (Itt K a) H1
theorem Z2x {l:Expr}{tl:TE}(hl:PE X l tl):PI X tg l (iList X.K tl):=by
 intro pins s σ H R I h
 refine thn (hl pins s σ H _ I h) λv s1 ⟨x,H1,I1,r1,q1⟩=>?_
 obtain⟨a,e,⟨xs,hq⟩,q⟩:=q1
 subst e
 cases r1
 obtain⟨its,rv,p,hz⟩:=I1.list hq
 refine q5g p.isList ?_
 refine⟨s1.heap.objs.size,[s1.heap.objs.size],_,_,H1,Z,I1.kept (t':=s1.toks) λb o e=>q0g _ e,Y5l a _,⟨_,q0r _ rfl,Z,Z⟩,λb hb=>?_,q⟩
 have e:b=s1.heap.objs.size:=by simpa using hb
 subst e
 exact I1.fpOk (q0f _) (I1.hok.fresh (q0f _))
theorem Y3d {l:Expr}{tl:TE}(hl:PE X l tl):PI X tg l (iTup X.K tl):=by
 intro pins s σ H R I h
 refine thn (hl pins s σ H _ I h) λv s1 ⟨x,H1,I1,r1,q1⟩=>?_
 obtain⟨a,e,⟨xs,hq⟩,q⟩:=q1
 subst e
 cases r1
 obtain⟨its,rv,p,hz⟩:=I1.tuple hq
 refine q4z (show s1.heap.IsTuple a its.toArray from p) ?_
 refine⟨s1.heap.objs.size,[s1.heap.objs.size],_,_,H1,Z,I1.kept (t':=s1.toks) λb o e=>q0g _ e,Y4n a _,⟨_,q0r _ rfl,Z,Z⟩,λb hb=>?_,q⟩
 have e:b=s1.heap.objs.size:=by simpa using hb
 subst e
 exact I1.fpOk (q0f _) (I1.hok.fresh (q0f _))
theorem Y3a {pins:U1}{σ:St}{H:Hp}{s:U7}{R:It->Hp->Prop}{E:U2}{lo hi:Int}{t u v:Tok}{tk:Nat}(I:Inv X pins σ H s)(h1:-(2^62)<=lo)(h2:lo<2^62)(h3:-(2^62)<=hi)(h4:hi<2^62)
  (q:R (Itr lo (hi-lo).toNat) H):wpAny (model X.prog X.w) X.A (pyIter (.ref s.heap.objs.size)) (PIE X pins σ tg R) E { s with heap:=s.heap.push { cls:=.type "range",data:=.fields #[.int lo t,.int hi u,.int 1 v] },toks:=tk }:=by
 refine wpAny_pyIter_range (IsRange.new ..) (small_one h1 h2 h3 h4) ?_
 have I1:Inv X pins σ H { s with heap:=s.heap.push { cls:=.type "range",data:=.fields #[.int lo t,.int hi u,.int 1 v] },toks:=tk }:=I.kept λb o e=>q0g _ e
 refine⟨(s.heap.push { cls:=.type "range",data:=.fields #[.int lo t,.int hi u,.int 1 v] }).objs.size,[(s.heap.push { cls:=.type "range",data:=.fields #[.int lo t,.int hi u,.int 1 v] }).objs.size],_,_,H,Z,
  I1.kept (t':=tk) λb o e=>q0g _ e,Y4o _ lo (hi-lo).toNat,?_,λb hb=>?_,q⟩
 ·have e1:lo+((0:Nat):Int)*1=lo:=by simp
  have e2:(((hi-lo).toNat:Nat):Int)-((0:Nat):Int)=Builtin.Range.rangeSize lo hi 1:=by rw[rangeSize_one];split<;>omega
  show IsRangeIter _ _ (lo+((0:Nat):Int)*1) ((((hi-lo).toNat:Nat):Int)-((0:Nat):Int)) 1
  rw[e1,e2]
  exact q0r _ rfl
 ·have e:b=(s.heap.push { cls:=.type "range",data:=.fields #[.int lo t,.int hi u,.int 1 v] }).objs.size:=by simpa using hb
  subst e
  exact I1.fpOk (q0f _) (I1.hok.fresh (q0f _))
def iRng1 (ta:TA):TI:=λσ H R=>ta σ H λvs H1=>∃ j:Int,vs=[.int j]/\-(2^62)<=j/\j<2^62/\R (Itr 0 j.toNat) H1
def iRng2 (ta:TA):TI:=λσ H R=>ta σ H λvs H1=>∃ i j:Int,vs=[.int i,.int j]/\(-(2^62)<=i/\i<2^62/\-(2^62)<=j/\j<2^62)/\R (Itr i (j-i).toNat) H1
theorem Z1k {a:Expr}{ta:TA}{p pos:Pos}(hg:Gl X "range")(hm:X.mg "range"=none)(ha:PA X [a] ta)(hs:starEach [a] X.env=[(false,eval a X.env)]:=by rfl):PI X tg (.Call (.Name "range" p) [a] [] pos) (iRng1 ta):=by
 intro pins s σ H R I h
 refine Call_ (Z5y I hg hm boot_range (PyProof.Rows.callWith_type1 (thn (ha pos pins s σ H _ I h) λus s1 ⟨vs,H1,I1,r1,q1⟩=>?_) hs rfl))
 obtain⟨j,e,q1,q2,q⟩:=q1
 subst e
 cases r1 with
 | cons r rr =>
  cases rr
  obtain⟨t,rfl⟩:=r
  exact call_range_1 (Y3a I1 (by omega) (by omega) q1 q2 (by simpa using q))
theorem Y0a {a b:Expr}{ta:TA}{p pos:Pos}(hg:Gl X "range")(hm:X.mg "range"=none)(ha:PA X [a,b] ta)(hs:starEach [a,b] X.env=[(false,eval a X.env),(false,eval b X.env)]:=by rfl)(hs2:starEach [b] X.env=[(false,eval b X.env)]:=by rfl) :
  PI X tg (.Call (.Name "range" p) [a,b] [] pos) (iRng2 ta):=by
 intro pins s σ H R I h
 refine Call_ (Z5y I hg hm boot_range (PyProof.Rows.callWith_type1 (thn (ha pos pins s σ H _ I h) λus s1 ⟨vs,H1,I1,r1,q1⟩=>?_) (by rw[hs,hs2]) (by rw[hs2];rfl)))
 obtain⟨i,j,e,⟨q1,q2,q3,q4⟩,q⟩:=q1
 subst e
 cases r1 with
 | cons r rr =>
  cases rr with
  | cons r' rr =>
   cases rr
   obtain⟨t,rfl⟩:=r
   obtain⟨t',rfl⟩:=r'
   exact call_range_2 (Y3a I1 q1 q2 q3 q4 q)
def tFor (wi:TI)(g:TG)(tb:TS):TS:=λD σ H=>wi σ H λJ H1=>∃ W:Nat->Nat->St->Hp->Prop,(∃ m,W 0 m σ H1)/\∀ i m σ H,W i m σ H →
 (J.stop i H/\D.nx σ H)∨(J.go i H/\∃ N:St->Hp->Prop,(∀ σ' H',N σ' H'->∃ m',m'<m/\W (i+1) m' σ' H')/\∀ x H',J.yld i H x H'->g x σ H' λσ2 H2=>tb { D with nx:=N,ct:=N,bk:=D.nx } σ2 H2)
noncomputable def pinsAt (fp:U3)(h:Heap):List (Addr × Obj):=fp.filterMap λb=>(h.get? b).map λo=>(b,o)
theorem Z2s {fp:U3}{h:Heap}{b:W9}{o:Obj}(hb:b∈fp)(e:h.get? b=some o):(b,o)∈pinsAt fp h:=List.mem_filterMap.mpr ⟨b,hb,by rw[e];rfl⟩
theorem Y7j {fp:U3}{h:Heap}{p:Addr × Obj}(hp:p∈pinsAt fp h):p.1∈fp/\h.get? p.1=some p.2:=by
 obtain⟨b,hb,e⟩:=List.mem_filterMap.mp hp
 cases q:h.get? b with
 | none=>rw[q] at e;cases e
 | some o =>
  rw[q] at e
  have e':(b,o)=p:=Option.some.inj e
  subst e'
  exact⟨hb,q⟩
theorem Inv.pinned {pins:U1}{σ:St}{H:Hp}{s:U7}{fp:U3}(I:Inv X pins σ H s)(hf:∀ b∈fp,FpOk X pins H b)(ho:∀ b∈fp,∃ o,s.heap.get? b=some o/\∀ v,o.data≠.cell v):Inv X (pins++pinsAt fp s.heap) σ H s :=
 I.pins_of λp hp=>(q0v.mp hp).elim (λz=>I.pin p (q1g _ z)) λz=>by
  obtain⟨hb,e⟩:=Y7j z
  obtain⟨f0,f1,f2,_⟩:=hf p.1 hb
  obtain⟨o,e',d⟩:=ho p.1 hb
  rw[e] at e';cases e'
  exact⟨e,f0,f1,f2,d⟩
theorem Inv.unpinned {pins pl:U1}{σ:St}{H:Hp}{s:U7}(I:Inv X (pins++pl) σ H s):Inv X pins σ H s:=I.pins_of λp hp=>I.pin p (q1g _ (q3c _ hp))
theorem Z2r {iter:Expr}{body:W8}{wi:TI}{g:TG}{tb:TS}{pos:Pos}(hp:PassesOwn (model X.prog X.w) X.A X.env X.xe)(hc:X.calm=true)(hi:PI X tg iter wi)(hg:PG X tg g)(hb:PSs X body tb)
  (hs:∀ x,foldedSetIterable iter X.env x=pure x:=by intro _;rfl):PS X (.For tg iter body [] pos) (tFor wi g tb):=by
 intro pins s σ H D I h
 refine wpAny_For (thn (hi pins s σ H _ I h) λv s1 h1=>thn h1 λitv s2 h2=>?_) hs
 obtain⟨it,fp,tn,J,H2,e,I2,T,st2,f2,W,⟨m0,w0⟩,turn⟩:=h2
 subst e
 have stat:∀ {H':Hp},(∀ b∈fp,H' b=none)->∀ b∈fp,FpOk X pins H' b:=λhn b hb=>⟨hn b hb,(f2 b hb).2⟩
 refine codeAny_forLoop_any (λn s'=>∃ i σ' H',Inv X pins σ' H' s'/\tn i s'.heap/\(∀ b∈fp,H' b=none)/\W i n σ' H') ?_ m0 ⟨0,σ,H2,I2,st2,λb hb=>(f2 b hb).1,w0⟩
 rintro n s3 ⟨i,σ3,H3,I3,st3,fr3,w3⟩
 rcases turn i n σ3 H3 w3 with ⟨stop,qn⟩ | ⟨go,N,hN,step⟩
 ·refine q3o hp (thn (T.done X rfl rfl rfl hc i pins s3 σ3 H3 X.xe I3 (stat fr3) st3 stop) λr s4 ⟨hr,I4⟩=>?_)
  subst hr
  exact q6g ⟨σ3,H3,I4,qn⟩
 ·refine q3o hp (thn (T.item X rfl rfl rfl hc i pins s3 σ3 H3 X.xe I3 (stat fr3) st3 go) λr s4 ⟨u,hr,h4⟩=>?_)
  subst hr
  refine q3o hp (thn h4 λ_ s5 ⟨x,H5,I5,r5,y5,st5,fr5⟩=>?_)
  have I5':=I5.pinned (stat fr5) (T.obj _ _ st5)
  refine q3o hp (thn (hg _ s5 σ3 H5 x u _ I5' r5 (step x H5 y5)) λ_ s6 ⟨σ6,H6,I6,q6⟩=>?_)
  refine q3o hp (thn (hb _ s6 σ6 H6 _ I6 q6) λf s7 q7=>?_)
  have again:∀ {σ7:St}{H7:Hp},Inv X (pins++pinsAt fp s5.heap) σ7 H7 s7->N σ7 H7->∃ m,m<n/\∃ i σ' H',Inv X pins σ' H' s7/\tn i s7.heap/\(∀ b∈fp,H' b=none)/\W i m σ' H':=λ{σ7 H7} I7 n7=>by
   obtain⟨m',hm,w7⟩:=hN σ7 H7 n7
   refine⟨m',hm,i+1,σ7,H7,I7.unpinned,T.keep _ _ _ st5 λb hb o e=>(I7.pin (b,o) (q1g _ (q1g _ (Z2s hb e)))).1,λb hb=>?_,w7⟩
   obtain⟨o,e,d⟩:=T.obj _ _ st5 b hb
   exact(I7.pin (b,o) (q1g _ (q1g _ (Z2s hb e)))).2.1
  cases f with
  | next=>obtain⟨σ7,H7,I7,n7⟩:=q7;exact again I7 n7
  | cont=>obtain⟨σ7,H7,I7,n7⟩:=q7;exact again I7 n7
  | brk=>obtain⟨σ7,H7,I7,q7⟩:=q7;exact⟨σ7,H7,I7.unpinned,q7⟩
  | ret v=>obtain⟨x7,σ7,H7,I7,r7,q7⟩:=q7;exact⟨x7,σ7,H7,I7.unpinned,r7,q7⟩
end
theorem Y3z {K:U0}{a:W9}{xs:List V}{g:TG}{tb:TS}{D:Ends}{σ:St}{H:Hp}(Pv:Nat->St->Hp->Prop)(h0:Pv 0 σ H)(hl:∀ i σ H,i<=xs.length->Pv i σ H->SqL K H a xs)
  (hs:∀ i x σ H,xs[i]?=some x->Pv i σ H->g x σ H λσ2 H2=>tb { D with nx:=Pv (i+1),ct:=Pv (i+1),bk:=D.nx } σ2 H2) (hd:∀ σ H,Pv xs.length σ H->D.nx σ H) :
  ∃ W:Nat->Nat->St->Hp->Prop,(∃ m,W 0 m σ H)/\∀ i m σ H,W i m σ H →
   ((Itl K a).stop i H/\D.nx σ H)∨((Itl K a).go i H/\∃ N:St->Hp->Prop,(∀ σ' H',N σ' H'->∃ m',m'<m/\W (i+1) m' σ' H')/\∀ x H',(Itl K a).yld i H x H'->g x σ H' λσ2 H2=>tb { D with nx:=N,ct:=N,bk:=D.nx } σ2 H2):=by
 refine⟨λi m σ H=>m=xs.length-i/\i<=xs.length/\Pv i σ H,⟨xs.length,by simp,q1e _,h0⟩,?_⟩
 rintro i m σ H ⟨rfl,hi,p⟩
 have q:=hl i σ H hi p
 by_cases hlt:i<xs.length
 ·refine .inr ⟨⟨xs,xs[i],q,by simp[hlt]⟩,Pv (i+1),λσ' H' p'=>⟨xs.length-(i+1),by omega,Z,hlt,p'⟩,λx H' y=>?_⟩
  obtain⟨e,y⟩:=y
  subst e
  exact hs i x σ _ (y xs q) p
 ·have e:i=xs.length:=by omega
  subst e
  exact .inl ⟨⟨xs,q,q0f _⟩,hd σ H p⟩
theorem Z1y {lo:Int}{n:Nat}{g:TG}{tb:TS}{D:Ends}{σ:St}{H:Hp}(Pv:Nat->St->Hp->Prop)(h0:Pv 0 σ H)
  (hs:∀ i σ H,i<n->Pv i σ H->g (.int (lo+i)) σ H λσ2 H2=>tb { D with nx:=Pv (i+1),ct:=Pv (i+1),bk:=D.nx } σ2 H2) (hd:∀ σ H,Pv n σ H->D.nx σ H) :
  ∃ W:Nat->Nat->St->Hp->Prop,(∃ m,W 0 m σ H)/\∀ i m σ H,W i m σ H →
   ((Itr lo n).stop i H/\D.nx σ H)∨((Itr lo n).go i H/\∃ N:St->Hp->Prop,(∀ σ' H',N σ' H'->∃ m',m'<m/\W (i+1) m' σ' H')/\∀ x H',(Itr lo n).yld i H x H'->g x σ H' λσ2 H2=>tb { D with nx:=N,ct:=N,bk:=D.nx } σ2 H2):=by
 refine⟨λi m σ H=>m=n-i/\i<=n/\Pv i σ H,⟨n,by simp,q1e _,h0⟩,?_⟩
 rintro i m σ H ⟨rfl,hi,p⟩
 by_cases hlt:i<n
 ·refine .inr ⟨hlt,Pv (i+1),λσ' H' p'=>⟨n-(i+1),by omega,Z,hlt,p'⟩,λx H' y=>?_⟩
  obtain⟨e,y⟩:=y
  subst e y
  exact hs i σ _ hlt p
 ·have e:i=n:=by omega
  subst e
  exact .inl ⟨q0f _,hd σ H p⟩
abbrev R2:=V->V->Hp->VK->Prop
def OpR (X:Cx)(f:Value->Value->Sem Value)(r:R2):Prop :=
 ∀ (pins:U1) (s:U7) (σ:St) (H:Hp) (x y:V) (v u:W2) (Q:VK),Inv X pins σ H s->RelV x v->RelV y u->r x y H Q →
  wpAny (model X.prog X.w) X.A (f v u) (EP X pins σ Q) X.xe s
def UnR (X:Cx)(f:Value->Sem Value)(r:V->Hp->VK->Prop):Prop :=
 ∀ (pins:U1) (s:U7) (σ:St) (H:Hp) (x:V) (v:W2) (Q:VK),Inv X pins σ H s->RelV x v->r x H Q →
  wpAny (model X.prog X.w) X.A (f v) (EP X pins σ Q) X.xe s
def CallR (X:Cx)(f:W2)(r:List V->Hp->VK->Prop):Prop :=
 ∀ (pins:U1) (s:U7) (σ:St) (H:Hp) (xs:List V) (us:U5) (Q:VK),Inv X pins σ H s->Vals xs us->r xs H Q →
  wpAny (model X.prog X.w) X.A (call f us) (EP X pins σ Q) X.xe s
def TruR (X:Cx)(r:V->Hp->(Bool->Hp->Prop)->Prop):Prop :=
 ∀ (pins:U1) (s:U7) (σ:St) (H:Hp) (x:V) (v:W2) (Q:Bool->Hp->Prop),Inv X pins σ H s->RelV x v->r x H Q →
  wpAny (model X.prog X.w) X.A (truthy v) (TP X pins σ Q) X.xe s
def tOp (r:R2)(ta tb:TE):TE:=λσ H Q=>ta σ H λx H1=>tb σ H1 λy H2=>r x y H2 Q
def tUn (r:V->Hp->VK->Prop)(ta:TE):TE:=λσ H Q=>ta σ H λx H1=>r x H1 Q
def rI (C:Int->Int->Prop)(g:Int->Int->V):R2:=λx y H Q=>∃ i j,x=.int i/\y=.int j/\C i j/\Q (g i j) H
def rI0 (g:Int->Int->V):R2:=λx y H Q=>∃ i j,x=.int i/\y=.int j/\Q (g i j) H
def rU (g:Int->V):V->Hp->VK->Prop:=λx H Q=>∃ i,x=.int i/\Q (g i) H
section
variable {X:Cx}{a b c:Expr}{ta tb tc:TE}{pos:Pos}
theorem binT (ha:PE X a ta)(hb:PE X b tb){pins:U1}{s:U7}{σ:St}{H:Hp}{R:V->V->Hp->Prop}(I:Inv X pins σ H s)
  (h:ta σ H λx H1=>tb σ H1 λy H2=>R x y H2) {Q:U2}{f:Value->Value->Sem Value}
  (hf:∀ v u s2 x y H2,Inv X pins σ H2 s2->RelV x v->RelV y u->R x y H2->wpAny (model X.prog X.w) X.A (f v u) Q X.xe s2) :
  wpAny (model X.prog X.w) X.A (eval a X.env) (λv s₁=>wpAny (model X.prog X.w) X.A (eval b X.env) (λu s₂=>wpAny (model X.prog X.w) X.A (f v u) Q X.xe s₂) X.xe s₁) X.xe s:=by
 refine thn (ha pins s σ H _ I h) λv s1 ⟨x,H1,I1,r1,q1⟩=>?_
 refine thn (hb pins s1 σ H1 _ I1 q1) λu s2 ⟨y,H2,I2,r2,q2⟩=>?_
 exact hf v u s2 x y H2 I2 r1 r2 q2
theorem Z0i {op:Operator}{r:R2}(ho:OpR X (binaryOp op) r)(ha:PE X a ta)(hb:PE X b tb):PE X (.BinOp a op b pos) (tOp r ta tb):=by
 intro pins s σ H Q I h
 exact wpAny_BinOp (binT ha hb I h λv u s2 x y H2 I2 rx ry q=>ho pins s2 σ H2 x y v u Q I2 rx ry q)
theorem Y1i {op:UnaryOp}{r:V->Hp->VK->Prop}(ho:UnR X (unaryOp op) r)(ha:PE X a ta):PE X (.UnaryOp op a pos) (tUn r ta):=by
 intro pins s σ H Q I h
 exact UnaryOp_ (thn (ha pins s σ H _ I h) λv s1 ⟨x,H1,I1,r1,q1⟩=>ho pins s1 σ H1 x v Q I1 r1 q1)
theorem opI {f:Value->Value->Sem Value}{C:Int->Int->Prop}{g:Int->Int->Int}
  (rule:∀ (i j:Int) (t u:Tok) (s:U7) (Q:U2) (E:U2),C i j->Q (.int (g i j) s.toks) { s with toks:=s.toks+1 }->wpAny (model X.prog X.w) X.A (f (.int i t) (.int j u)) Q E s) :
  OpR X f (rI C λi j=>.int (g i j)):=by
 intro pins s σ H x y v u Q I rx ry h
 obtain⟨i,j,rfl,rfl,hc,q⟩:=h
 obtain⟨t,rfl⟩:=rx
 obtain⟨t',rfl⟩:=ry
 exact rule i j t t' s _ _ hc ⟨.int (g i j),H,I.tok _,⟨_,Z⟩,q⟩
theorem opI0 {f:Value->Value->Sem Value}{g:Int->Int->Int}
  (rule:∀ (i j:Int) (t u:Tok) (s:U7) (Q:U2) (E:U2),Q (.int (g i j) s.toks) { s with toks:=s.toks+1 }->wpAny (model X.prog X.w) X.A (f (.int i t) (.int j u)) Q E s) :
  OpR X f (rI0 λi j=>.int (g i j)):=by
 intro pins s σ H x y v u Q I rx ry h
 obtain⟨i,j,rfl,rfl,q⟩:=h
 obtain⟨t,rfl⟩:=rx
 obtain⟨t',rfl⟩:=ry
 exact rule i j t t' s _ _ ⟨.int (g i j),H,I.tok _,⟨_,Z⟩,q⟩
theorem opB0 {f:Value->Value->Sem Value}{g:Int->Int->Bool}
  (rule:∀ (i j:Int) (t u:Tok) (s:U7) (Q:U2) (E:U2),Q (.bool (g i j)) s->wpAny (model X.prog X.w) X.A (f (.int i t) (.int j u)) Q E s) :
  OpR X f (rI0 λi j=>.bl (g i j)):=by
 intro pins s σ H x y v u Q I rx ry h
 obtain⟨i,j,rfl,rfl,q⟩:=h
 obtain⟨t,rfl⟩:=rx
 obtain⟨t',rfl⟩:=ry
 exact rule i j t t' s _ _ ⟨.bl (g i j),H,I,Z,q⟩
def CDiv (i j:Int):Prop:=0<j/\j<1073741824
def CPow (i j:Int):Prop:=0<=j/\j<=1000000/\i.natAbs<2^64
def CMul (i j:Int):Prop:=(-(2^64)<i/\i<2^64)∨(-(2^64)<j/\j<2^64)
theorem CMul.ok {i j:Int}(h:CMul i j):IntMulOk i j:=by
 rcases h with ⟨h1,h2⟩ | ⟨h1,h2⟩
 ·exact .of_left (intBits_le_64 h1 h2)
 ·exact .of_right (intBits_le_64 h1 h2)
theorem Y4m (k:Nat):(0:Int)<=2^k:=by
 rw[two_pow_cast]
 exact q6x _
theorem Z1b:OpR X (binaryOp .Add) (rI0 λi j=>.int (i+j)):=opI0 λ_ _ _ _ _ _ _ q=>add_int q
theorem Z2k:OpR X (binaryOp .Sub) (rI0 λi j=>.int (i-j)):=opI0 λ_ _ _ _ _ _ _ q=>sub_int q
theorem Z2d:OpR X (binaryOp .Mult) (rI CMul λi j=>.int (i*j)):=opI λ_ _ _ _ _ _ _ hc q=>mul_int q hc.ok
theorem Z1w:OpR X (binaryOp .FloorDiv) (rI CDiv λi j=>.int (i / j)):=opI λi j _ _ _ _ _ hc q=>by
 have h1:(0:Int)<j:=hc.1
 have h2:j<1073741824:=hc.2
 exact floordiv_int (by omega) (by rw[q6n i (by omega)];exact q) (.inl (PyProof.noPylong_small (by omega)))
theorem Z0z:OpR X (binaryOp .Mod) (rI (λ_ j=>0<j) λi j=>.int (i%j)):=opI λi j _ _ _ _ _ hc q=>by
 have h1:(0:Int)<j:=hc
 exact mod_int' (by omega) (by rw[Int.fmod_eq_emod_of_nonneg i (by omega)];exact q)
theorem Y0e:OpR X (binaryOp .Pow) (rI CPow λi j=>.int (i^j.toNat)):=opI λ_ _ _ _ _ _ _ hc q=>pow_int_small hc.1 hc.2.1 hc.2.2 q
theorem Z4z:OpR X (binaryOp .RShift) (rI (λ_ j=>0<=j) λi j=>.int (i / 2^j.toNat)):=opI λi j _ _ _ _ _ hc q =>
 rshift_int hc (by rw[q6n i (Y4m _)];exact q)
theorem Z1t:OpR X (binaryOp .BitAnd) (rI0 λi j=>.int (Builtin.bitAnd i j)):=opI0 λ_ _ _ _ _ _ _ q=>and_int q
theorem Y0f:OpR X (binaryOp .BitOr) (rI0 λi j=>.int (Builtin.bitOr i j)):=opI0 λ_ _ _ _ _ _ _ q=>or_int q
theorem Z4y:OpR X (binaryOp .BitXor) (rI0 λi j=>.int (Builtin.bitXor i j)):=opI0 λ_ _ _ _ _ _ _ q=>xor_int q
theorem unI {f:Value->Sem Value}{g:Int->Int}
  (rule:∀ (i:Int) (t:Tok) (s:U7) (Q:U2) (E:U2),Q (.int (g i) s.toks) { s with toks:=s.toks+1 }->wpAny (model X.prog X.w) X.A (f (.int i t)) Q E s) :
  UnR X f (rU λi=>.int (g i)):=by
 intro pins s σ H x v Q I rx h
 obtain⟨i,rfl,q⟩:=h
 obtain⟨t,rfl⟩:=rx
 exact rule i t s _ _ ⟨.int (g i),H,I.tok _,⟨_,Z⟩,q⟩
theorem Z9m:UnR X (unaryOp .USub) (rU λi=>.int (-i)):=unI λ_ _ _ _ _ q=>neg_int q
theorem X2j:UnR X (unaryOp .Invert) (rU λi=>.int (Builtin.bitNot i)):=unI λ_ _ _ _ _ q=>invert_int q
end
noncomputable def scal:V->V->Bool
 | .non,.non=>true | .non,.int _=>true | .int _,.non=>true | .non,.bl _=>true | .bl _,.non=>true | .non,.str _=>true | .str _,.non=>true
 | .int _,.int _=>true | .bl _,.bl _=>true | .str _,.str _=>true | .byt _,.byt _=>true
 | .int _,.str _=>true | .str _,.int _=>true | .bl _,.str _=>true | .str _,.bl _=>true
 | _,_=>false
def rEq:R2:=λx y H Q=>scal x y=true/\Q (.bl (decide (x=y))) H
def rNe:R2:=λx y H Q=>scal x y=true/\Q (.bl (!decide (x=y))) H
theorem Y8w {i j:Int}:decide (V.int i=V.int j)=(i == j):=by
 rw[q2q]
 simp
theorem X3l {i j:Bool}:decide (V.bl i=V.bl j)=(i == j):=by
 rw[q2q]
 simp
theorem Y8v {i j:Str}:decide (V.str i=V.str j)=(i == j):=by
 rw[q2q]
 simp
theorem Y8x {i j:Array UInt8}:decide (V.byt i=V.byt j)=(i.toList == j.toList):=by
 rw[q2q]
 cases i
 cases j
 simp
section
variable {X:Cx}{a b c:Expr}{ta tb tc:TE}{pos:Pos}
theorem Z1p {pins:U1}{σ:St}{H:Hp}{s:U7}{Q:VK}{k k':Bool}(I:Inv X pins σ H s)(q:Q (.bl k) H)(e:k=k'):EP X pins σ Q (.bool k') s:=by
 subst e
 exact⟨.bl k,H,I,Z,q⟩
theorem Z1o:OpR X (compareOp .Eq) rEq:=by
 intro pins s σ H x y v u Q I rx ry h
 obtain⟨hs,q⟩:=h
 cases x with
 | non =>
  cases rx
  cases y with
  | non=>cases ry;exact PySem.EqNone.eq_none_none (Z1p I q (by simp))
  | bl j=>cases ry;exact PySem.EqNone.eq_none_bool (Z1p I q (by simp))
  | int j=>obtain⟨t',rfl⟩:=ry;exact PySem.EqNone.eq_none_int (Z1p I q (by simp))
  | str j=>obtain⟨t',rfl⟩:=ry;exact PySem.EqNone.eq_none_str (Z1p I q (by simp))
  | _=>exact absurd (show false=true from hs) q0q
 | bl i =>
  cases rx
  cases y with
  | non=>cases ry;exact PySem.EqNone.eq_bool_none (Z1p I q (by simp))
  | bl j=>cases ry;exact eq_bool (Z1p I q X3l)
  | str j=>obtain⟨t',rfl⟩:=ry;exact PySem.EqMixed.eq_bool_str (Z1p I q (by simp))
  | _=>exact absurd (show false=true from hs) q0q
 | int i =>
  obtain⟨t,rfl⟩:=rx
  cases y with
  | non=>cases ry;exact PySem.EqNone.eq_int_none (Z1p I q (by simp))
  | int j=>obtain⟨t',rfl⟩:=ry;exact eq_int (Z1p I q Y8w)
  | str j=>obtain⟨t',rfl⟩:=ry;exact PySem.EqMixed.eq_int_str (Z1p I q (by simp))
  | _=>exact absurd (show false=true from hs) q0q
 | str i =>
  obtain⟨t,rfl⟩:=rx
  cases y with
  | non=>cases ry;exact PySem.EqNone.eq_str_none (Z1p I q (by simp))
  | bl j=>cases ry;exact PySem.EqMixed.eq_str_bool (Z1p I q (by simp))
  | int j=>obtain⟨t',rfl⟩:=ry;exact PySem.EqMixed.eq_str_int (Z1p I q (by simp))
  | str j=>obtain⟨t',rfl⟩:=ry;exact eq_str (Z1p I q Y8v)
  | _=>exact absurd (show false=true from hs) q0q
 | byt i =>
  obtain⟨t,rfl⟩:=rx
  cases y with
  | byt j=>obtain⟨t',rfl⟩:=ry;exact PySem.W.eq_bytes (Z1p I q Y8x)
  | _=>exact absurd (show false=true from hs) q0q
 | _=>cases y<;>exact absurd (show false=true from hs) q0q
theorem Z5a:OpR X (compareOp .NotEq) rNe:=by
 intro pins s σ H x y v u Q I rx ry h
 obtain⟨hs,q⟩:=h
 cases x with
 | non =>
  cases rx
  cases y with
  | non=>cases ry;exact PySem.EqNone.ne_none_none (Z1p I q (by simp))
  | bl j=>cases ry;exact PySem.EqNone.ne_none_bool (Z1p I q (by simp))
  | int j=>obtain⟨t',rfl⟩:=ry;exact PySem.EqNone.ne_none_int (Z1p I q (by simp))
  | str j=>obtain⟨t',rfl⟩:=ry;exact PySem.EqNone.ne_none_str (Z1p I q (by simp))
  | _=>exact absurd (show false=true from hs) q0q
 | bl i =>
  cases rx
  cases y with
  | non=>cases ry;exact PySem.EqNone.ne_bool_none (Z1p I q (by simp))
  | bl j=>cases ry;exact ne_bool (Z1p I q (congrArg not X3l))
  | str j=>obtain⟨t',rfl⟩:=ry;exact PySem.EqMixed.ne_bool_str (Z1p I q (by simp))
  | _=>exact absurd (show false=true from hs) q0q
 | int i =>
  obtain⟨t,rfl⟩:=rx
  cases y with
  | non=>cases ry;exact PySem.EqNone.ne_int_none (Z1p I q (by simp))
  | int j=>obtain⟨t',rfl⟩:=ry;exact ne_int (Z1p I q (congrArg not Y8w))
  | str j=>obtain⟨t',rfl⟩:=ry;exact PySem.EqMixed.ne_int_str (Z1p I q (by simp))
  | _=>exact absurd (show false=true from hs) q0q
 | str i =>
  obtain⟨t,rfl⟩:=rx
  cases y with
  | non=>cases ry;exact PySem.EqNone.ne_str_none (Z1p I q (by simp))
  | bl j=>cases ry;exact PySem.EqMixed.ne_str_bool (Z1p I q (by simp))
  | int j=>obtain⟨t',rfl⟩:=ry;exact PySem.EqMixed.ne_str_int (Z1p I q (by simp))
  | str j=>obtain⟨t',rfl⟩:=ry;exact ne_str (Z1p I q (congrArg not Y8v))
  | _=>exact absurd (show false=true from hs) q0q
 | byt i =>
  obtain⟨t,rfl⟩:=rx
  cases y with
  | byt j=>obtain⟨t',rfl⟩:=ry;exact PySem.W.ne_bytes (Z1p I q (congrArg not Y8x))
  | _=>exact absurd (show false=true from hs) q0q
 | _=>cases y<;>exact absurd (show false=true from hs) q0q
theorem Y4t:OpR X (compareOp .Lt) (rI0 λi j=>.bl (decide (i<j))):=opB0 λ_ _ _ _ _ _ _ q=>lt_int q
theorem X8g:OpR X (compareOp .LtE) (rI0 λi j=>.bl (decide (i<=j))):=opB0 λ_ _ _ _ _ _ _ q=>le_int q
theorem Y4u:OpR X (compareOp .Gt) (rI0 λi j=>.bl (decide (j<i))):=opB0 λ_ _ _ _ _ _ _ q=>gt_int q
theorem X4y:OpR X (compareOp .GtE) (rI0 λi j=>.bl (decide (j<=i))):=opB0 λ_ _ _ _ _ _ _ q=>ge_int q
theorem X8h:OpR X (compareOp .Is) (λx y H Q=>y=.non/\Q (.bl (decide (x=.non))) H):=by
 intro pins s σ H x y v u Q I rx ry h
 obtain⟨rfl,q⟩:=h
 cases ry
 refine is_none_gen (Z1p I q ?_)
 cases x<;>first
  | (cases rx;rfl)
  | (obtain⟨t,rfl⟩:=rx;rfl)
theorem Z8s:OpR X (compareOp .IsNot) (λx y H Q=>y=.non/\Q (.bl (!decide (x=.non))) H):=by
 intro pins s σ H x y v u Q I rx ry h
 obtain⟨rfl,q⟩:=h
 cases ry
 refine isnot_none_gen (Z1p I q ?_)
 cases x<;>first
  | (cases rx;rfl)
  | (obtain⟨t,rfl⟩:=rx;rfl)
theorem nomark (b:Expr){op:CmpOp}(h:op≠.In:=by decide)(h2:op≠.NotIn:=by decide):behindInMarks op b=false:=by
 have e1:(op == CmpOp.In)=false:=by cases op<;>first | rfl | exact absurd rfl h
 have e2:(op == CmpOp.NotIn)=false:=by cases op<;>first | rfl | exact absurd rfl h2
 cases b<;>simp[behindInMarks,e1,e2]
theorem Z1q {op:CmpOp}{r:R2}(ho:OpR X (compareOp op) r)(ha:PE X a ta)(hb:PE X b tb)(hm:behindInMarks op b=false):PE X (.Compare a [op] [b] pos) (tOp r ta tb):=by
 intro pins s σ H Q I h
 exact wpAny_Compare1 (binT ha hb I h λv u s2 x y H2 I2 rx ry q=>ho pins s2 σ H2 x y v u Q I2 rx ry q) hm
def tTest (t:TE):TT:=λσ H Q=>t σ H λx H'=>∃ k,x=.bl k/\Q k H'
theorem Z0n {op:CmpOp}{r:R2}(ho:OpR X (compareOp op) r)(ha:PE X a ta)(hb:PE X b tb)(hm:behindInMarks op b=false):PT X (.Compare a [op] [b] pos) (tTest (tOp r ta tb)):=by
 intro pins s σ H Q I h
 refine q7t (thn (ha pins s σ H _ I h) λv s1 ⟨x,H1,I1,r1,q1⟩=>thn (hb pins s1 σ H1 _ I1 q1) λu s2 ⟨y,H2,I2,r2,q2⟩ =>
  thn (ho pins s2 σ H2 x y v u _ I2 r1 r2 q2) λc s3 ⟨z,H3,I3,r3,k,e,q3⟩=>?_) hm
 subst e
 cases r3
 exact q2j ⟨H3,I3,q3⟩
def TruV (K:U0)(x:V)(H:Hp)(k:Bool):Prop :=
 match x with
 | .non=>k=false
 | .bl b=>k=b
 | .int i=>k=(i != 0)
 | .str y=>y.length<=sizeLine/\k=((y.length:Int) != 0)
 | .byt y=>y.size<=sizeLine/\k=((y.size:Int) != 0)
 | .ref p=>(∃ xs,SqL K H p xs/\k=!xs.isEmpty)∨(∃ xs,SqT K H p xs/\k=!xs.isEmpty)∨∃ kvs,H p=some (.dK kvs)/\k=!kvs.isEmpty
 | _=>False
theorem Y5e {κ:Type}{kvs:List (κ × V)}{vs:List (κ × Value)}(r:KV kvs vs):(!vs.isEmpty)=!kvs.isEmpty:=by
 cases r<;>rfl
theorem Z7x {xs:List V}{its:U5}(r:Vals xs its):(!its.toArray.isEmpty)=!xs.isEmpty:=by
 cases r<;>simp
theorem line63:(sizeLine:Nat)<2^63:=by rw[sizeLine_eq];decide
theorem X7p:TruR X (λx H Q=>∃ k,TruV X.K x H k/\Q k H):=by
 intro pins s σ H x v Q I rx h
 obtain⟨k,e,q⟩:=h
 have hl:=line63
 have hs:sizeLine=16777216:=sizeLine_eq
 cases x with
 | non =>
  cases rx
  have e':k=false:=e
  subst e'
  exact truthy_none ⟨H,I,q⟩
 | bl b =>
  cases rx
  have e':k=b:=e
  subst e'
  exact q2j ⟨H,I,q⟩
 | int i =>
  obtain⟨t,rfl⟩:=rx
  have e':k=(i != 0):=e
  subst e'
  exact PySem.P.truthy_int ⟨H,I,q⟩
 | str y =>
  obtain⟨t,rfl⟩:=rx
  obtain⟨hy,e'⟩:y.length<=sizeLine/\k=((y.length:Int) != 0):=e
  subst e'
  exact PySem.P.truthy_str (by omega) ⟨H,I.tok _,q⟩
 | byt y =>
  obtain⟨t,rfl⟩:=rx
  obtain⟨hy,e'⟩:y.size<=sizeLine/\k=((y.size:Int) != 0):=e
  subst e'
  exact PySem.W.truthy_bytes (by omega) ⟨H,I.tok _,q⟩
 | ref p =>
  cases rx
  have e':(∃ xs,SqL X.K H p xs/\k=!xs.isEmpty)∨(∃ xs,SqT X.K H p xs/\k=!xs.isEmpty)∨∃ kvs,H p=some (.dK kvs)/\k=!kvs.isEmpty:=e
  rcases e' with ⟨xs,hx,e'⟩ | ⟨xs,hx,e'⟩ | ⟨kvs,hx,e'⟩
  ·subst e'
   obtain⟨its,r,pl,hz⟩:=I.list hx
   have hlen:=r.length
   exact wpAny_truthy_list pl.isList (by simp only[q0i];omega) ⟨H,I.tok _,by rw[Z7x r];exact q⟩
  ·subst e'
   obtain⟨its,r,pl,hz⟩:=I.tuple hx
   have hlen:=r.length
   exact truthy_tuple pl (by simp only[q0i];omega) ⟨H,I.tok _,by rw[Z7x r];exact q⟩
  ·subst e'
   obtain⟨hz,hS,vs,r,m⟩:kvs.length<=sizeLine/\(p == sysModules)=false/\∃ vs,KV kvs vs/\s.heap.DictOf (Z4f X.prog X.w) p vs:=I.hok p _ hx
   have hlen:kvs.length=vs.length:=Paired.length r
   exact wpAny_truthy_dict hS m (by omega) ⟨H,I.tok _,by rw[Y5e r];exact q⟩
 | _=>exact(show False from e).elim
theorem vals1 {x:V}{us:U5}(r:Vals [x] us):∃ u,us=[u]/\RelV x u:=by
 cases r with
 | cons r1 r2=>cases r2;exact⟨_,rfl,r1⟩
theorem vals2 {x y:V}{us:U5}(r:Vals [x,y] us):∃ u w',us=[u,w']/\RelV x u/\RelV y w':=by
 cases r with
 | cons r1 r2 =>
  cases r2 with
  | cons r3 r4=>cases r4;exact⟨_,_,rfl,r1,r3⟩
theorem Z7k (hc:X.calm=true):CallR X (.builtin "max") (λxs H Q=>∃ i j,xs=[.int i,.int j]/\Q (.int (if j>i then j else i)) H):=by
 intro pins s σ H xs us Q I r h
 obtain⟨i,j,rfl,q⟩:=h
 obtain⟨u,w',rfl,⟨t,rfl⟩,⟨t',rfl⟩⟩:=vals2 r
 refine max_two_ints (I.ok.hd hc) λh' tk k=>⟨_,H,I.kept k,?_,q⟩
 by_cases hj:j>i
 ·rw[if_pos hj,if_pos hj];exact⟨_,Z⟩
 ·rw[if_neg hj,if_neg hj];exact⟨_,Z⟩
theorem Y9d (hc:X.calm=true):CallR X (.builtin "min") (λxs H Q=>∃ i j,xs=[.int i,.int j]/\Q (.int (if j<i then j else i)) H):=by
 intro pins s σ H xs us Q I r h
 obtain⟨i,j,rfl,q⟩:=h
 obtain⟨u,w',rfl,⟨t,rfl⟩,⟨t',rfl⟩⟩:=vals2 r
 refine min_two_ints (I.ok.hd hc) λh' tk k=>⟨_,H,I.kept k,?_,q⟩
 by_cases hj:j<i
 ·rw[if_pos hj,if_pos hj];exact⟨_,Z⟩
 ·rw[if_neg hj,if_neg hj];exact⟨_,Z⟩
end
structure ObjM (h:Heap) (x dx C:W9) (mA:U4):Prop where
 obj:h.get? x=some (PySem.W.instObj C dx)
 ns:h.Ns1 dx mA
 ne:dx≠x
theorem Y7v {h:Heap}{dx:W9}{mA:U4}(n:h.Ns1 dx mA):∃ od,h.get? dx=some od/\∀ name,PySem.W.lookIn name od=some (mA name):=by
 obtain⟨o,es,ep,ho,hd,hk,_,hm⟩:=n
 refine⟨o,ho,λname=>?_⟩
 have e:=hm name
 unfold nsFind findBy at e
 rw[<-Array.find?_toList] at e
 unfold PySem.W.lookIn
 rw[hd]
 dsimp only
 split
 ·rename_i y q
  rw[q] at e
  exact congrArg some e
 ·rename_i q
  rw[q] at e
  have a:es.toList.any (·.refKey)=false:=by
   rw[List.any_eq_false]
   intro y hy
   obtain⟨z,t,hkey⟩:=hk y (Array.mem_toList_iff.mp hy)
   simp[DictEntry.refKey,hkey]
  have a':¬ es.toList.any (·.refKey)=true:=by rw[a];exact q0q
  rw[if_neg a']
  exact congrArg some e
theorem ObjM.look {h:Heap}{x dx C:W9}{mA:U4}(I:ObjM h x dx C mA):∃ od,PySem.W.InstAt h x (PySem.W.instObj C dx) C (some od)/\∀ name,PySem.W.lookIn name od=some (mA name) :=
 let ⟨od,ho,hl⟩:=Y7v I.ns
 ⟨od,⟨I.obj,Z,Z,ho⟩,hl⟩
section
variable {prog:U8}{w:W1}{A:W6}{E:U2}{s:U7}{K:U0}{x dx C f:W9}{mA:U4}{name:Str}{v:W2}
end
theorem RelO.some_of {v:V}{o:Option Value}(r:RelO (some v) o):∃ u,o=some u/\RelV v u:=by
 cases o with
 | none=>exact(show False from r).elim
 | some u=>exact⟨u,rfl,r⟩
section
variable {P:U8}{w:W1}{H H':Hp}{h h':Heap}{a C dx:W9}{fs fs':List (Str × V)}
theorem X6m (hok:HOk P w H h)(e:H a=some (.ins C dx fs)):∃ mA,ObjM h a dx C mA/\(∀ f,RelO (fs.lookup f) (mA f))/\PySem.Within mA (fs.map (·.1))/\fs.length<=1000/\H dx=some (.own a):=by
 obtain⟨d,z,ne,ob,mA,n,r,q⟩:=(show ObjOk P w H h a (.ins C dx fs) from hok a _ e)
 exact⟨mA,⟨ob,n,ne⟩,r,q,z,d⟩
end
structure Cls (K:U0) (C:W9):Prop where
 pg:PySem.W.plainGet K C Str.empty=true
 hd:PySem.W.hasDictIn K C=true
 po:PySem.W.plainOver K C=true
 sa:PySem.W.findIn K (.ref C) "__setattr__"=some (some (.builtin "object.__setattr__"))
theorem Cls.get {K:U0}{C:W9}(c:Cls K C)(f:Str):PySem.W.plainGet K C f=true:=c.pg
section
variable {X:Cx}{pins:U1}{σ:St}{H:Hp}{s:U7}{a C dx:W9}{fs:List (Str × V)}{f:Str}{v:V}{A:W6}{E:U2}
end
section
variable {X:Cx}{o e value:Expr}{f:Str}{pos pos' tpos:Pos}{ta tv:TE}
end
section
variable {X:Cx}{pins:U1}{σ:St}{H:Hp}{s:U7}{A:W6}{E:U2}{Q:U2}{c:W2}{b:Bool}
inductive TyOf (K:U0) (H:Hp):V->Value->Prop where
 | non:TyOf K H .non (.type "NoneType")
 | bl (x:Bool):TyOf K H (.bl x) (.type "bool")
 | int (i:Int):TyOf K H (.int i) (.type "int")
 | str (x:Str):TyOf K H (.str x) (.type "str")
 | flt (x:UInt64):TyOf K H (.flt x) (.type "float")
 | lst {a:W9}{xs:List V} (e:H a=some (.lst xs)):TyOf K H (.ref a) (.type "list")
 | frz {a:W9}{o:Obj}{xs:List V} (e:H a=some (.frz o (.lst xs))):TyOf K H (.ref a) (.type "list")
 | tup {a:W9}{xs:List V} (e:H a=some (.tup xs)):TyOf K H (.ref a) (.type "tuple")
 | dK {a:W9}{kvs:List (Key × V)} (e:H a=some (.dK kvs)):TyOf K H (.ref a) (.type "dict")
 | dT {a:W9}{kvs:List (List Key × V)} (e:H a=some (.dT kvs)):TyOf K H (.ref a) (.type "dict")
 | ins {a C dx:W9}{fs:List (Str × V)} (e:H a=some (.ins C dx fs)) (cl:Cls K C) (ha:PySem.W.findIn K (.ref C) "__class__"=some (some (.builtin "object.__class__")))
   (hn:PySem.W.specialIn K (.builtin "object.__class__") "__get__"=some (some (.builtin "getset_descriptor.__get__"))) (htk:PySem.W.takesIn K (.builtin "object.__class__")=some true)
   (hm:PySem.W.mroIn K C (.type "object")=some true):TyOf K H (.ref a) (.ref C)
theorem Y8c {x:V}{u t:W2}(I:Inv X pins σ H s)(rx:RelV x u)(ty:TyOf X.K H x t)(e:PySem.W.kitOne X.K t c=some b)(h:∀ tk,Q (.bool b) { s with toks:=tk }) :
  wpAny (model X.prog X.w) A (call (.builtin "isinstance") [u,c]) Q E s:=by
 cases ty with
 | non=>cases (show u=Value.none from rx);exact q1x PySem.W.kitx_none I.kIn True.intro e (λz=>nomatch z) h
 | bl y=>cases (show u=Value.bool y from rx);exact q1x PySem.W.kitx_bool I.kIn True.intro e (λz=>nomatch z) h
 | int i=>obtain⟨t,q⟩:=(show ∃ t,u=Value.int i t from rx);cases q;exact q1x PySem.W.kitx_int I.kIn True.intro e (λz=>nomatch z) h
 | str y=>obtain⟨t,q⟩:=(show ∃ t,u=Value.str y t from rx);cases q;exact q1x PySem.W.kitx_str I.kIn True.intro e (λz=>nomatch z) h
 | flt y=>obtain⟨t,q⟩:=(show ∃ t,u=Value.float y t from rx);cases q;exact q1x PySem.W.kitx_float I.kIn True.intro e (λz=>nomatch z) h
 | @lst a xs ea =>
  cases (show u=Value.ref a from rx)
  obtain⟨_,_,n,_,h1⟩:=(show ObjOk X.prog X.w H s.heap a (.lst xs) from I.hok a _ ea)
  exact q1x PySem.W.kitx_list I.kIn ⟨_,h1,Z⟩ e (λz=>nomatch z) h
 | @frz a ob xs ea =>
  cases (show u=Value.ref a from rx)
  obtain⟨_,_,_,n,_,h1⟩:=(show ObjOk X.prog X.w H s.heap a (.frz ob (.lst xs)) from I.hok a _ ea)
  exact q1x PySem.W.kitx_list I.kIn ⟨_,h1,Z⟩ e (λz=>nomatch z) h
 | @tup a xs ea =>
  cases (show u=Value.ref a from rx)
  obtain⟨_,_,_,p⟩:=(show ObjOk X.prog X.w H s.heap a (.tup xs) from I.hok a _ ea)
  obtain⟨o,h1,h2,_⟩:=p
  exact q1x q6q I.kIn ⟨o,h1,h2⟩ e (λz=>nomatch z) h
 | @dK a kvs ea =>
  cases (show u=Value.ref a from rx)
  obtain⟨_,_,vs,_,p⟩:=(show ObjOk X.prog X.w H s.heap a (.dK kvs) from I.hok a _ ea)
  obtain⟨o,es,ep,h1,h2,_⟩:=p
  exact q1x PySem.W.kitx_dict I.kIn ⟨o,h1,h2.1⟩ e (λz=>nomatch z) h
 | @dT a kvs ea =>
  cases (show u=Value.ref a from rx)
  obtain⟨_,_,xs,_,o,es,ep,h1,h2,_⟩:=(show ObjOk X.prog X.w H s.heap a (.dT kvs) from I.hok a _ ea)
  exact q1x PySem.W.kitx_dict I.kIn ⟨o,h1,h2.1⟩ e (λz=>nomatch z) h
 | @ins a C dx fs ea cl ha hn htk hm =>
  cases (show u=Value.ref a from rx)
  obtain⟨mA,O,_⟩:=X6m I.hok ea
  obtain⟨od,J,_⟩:=O.look
  exact q1x (PySem.W.kitx_own (cl.get _) cl.hd ha hn htk hm) I.kIn J e (λz=>nomatch z) h
end
structure Room (k:Nat) (A:W6):Prop where
 hd:A.handled=none
 dp:A.depth+3*k+5<recursionLimit
 un:A.units+16*k+200<cLine
theorem Room.mono {j k:Nat}{A:W6}(r:Room k A)(h:j<=k):Room j A:=⟨r.hd,by have:=r.dp;omega,by have:=r.un;omega⟩
theorem Room.deeper {k:Nat}{A:W6}(r:Room (k+1) A)(env:Env):Room k (A.deeper env) :=
 ⟨r.hd,by have:=r.dp;show A.depth+1+3*k+5<_;omega,by have:=r.un;show A.units+3+16*k+200<_;omega⟩
theorem Room.depth {k:Nat}{A:W6}(r:Room k A):A.depth<recursionLimit:=by have:=r.dp;omega
theorem Room.units {k:Nat}{A:W6}(r:Room k A):A.units+64<cLine:=by have:=r.un;omega
def tNil:TA:=λ_ H Q=>Q [] H
def tCons (ta:TE)(tr:TA):TA:=λσ H Q=>ta σ H λx H1=>tr σ H1 λxs H2=>Q (x::xs) H2
section
variable {X:Cx}{e:Expr}{es:List Expr}{te:TE}{t:TA}{pos:Pos}
theorem Z0e:PA X [] tNil:=λ_ _ _ _ H Q I h=>Calls.spliced_nil ⟨[],H,I,.nil,h⟩
theorem Z0a (ha:PE X e te)(hr:PA X es t)(hs:starEach (e::es) X.env=(false,eval e X.env)::starEach es X.env:=by rfl):PA X (e::es) (tCons te t):=by
 intro pos pins s σ H Q I h
 rw[hs]
 show wpAny _ _ (spliced ((false,eval e X.env)::backTo pos (starEach es X.env))) _ _ s
 refine Calls.spliced_cons (thn (ha pins s σ H _ I h) λu s1 ⟨x,H1,I1,r1,q1⟩=>?_)
 exact thn (hr pos pins s1 σ H1 _ I1 q1) λus s2 ⟨xs,H2,I2,r2,q2⟩=>⟨x::xs,H2,I2,.cons r1 r2,q2⟩
def tTup (t:TA):TE:=λσ H Q=>t σ H λxs H1=>xs.length<=sizeLine/\∀ p,H1 p=none->Q (.ref p) (upd H1 p (.tup xs))
def tLst (t:TA):TE:=λσ H Q=>t σ H λxs H1=>xs.length<=sizeLine/\∀ p,H1 p=none->Q (.ref p) (upd H1 p (.lst xs))
theorem Z1a {x1}(h:PA X es t):PE X (.Tuple es x1 pos) (tTup t):=by
 intro pins s σ H Q I hq
 refine wpAny_Tuple_spliced (thn (h pos pins s σ H _ I hq) λus s1 ⟨xs,H1,I1,r,z,q⟩=>⟨by rw[<-r.length];exact z,?_⟩)
 have hf:H1 s1.heap.objs.size=none:=I1.hok.fresh (q0f _)
 refine⟨.ref s1.heap.objs.size,upd H1 s1.heap.objs.size (.tup xs),I1.laid (t':=s1.toks) (λb u e=>q0g _ e) (q0f _) ?_,Z,q _ hf⟩
 exact⟨z,us,r,⟨_,q0r _ rfl,Z,_,Z⟩⟩
theorem Z1s (h:PA X es t):PE X (.List es pos) (tLst t):=by
 intro pins s σ H Q I hq
 refine wpAny_List_spliced (thn (h pos pins s σ H _ I hq) λus s1 ⟨xs,H1,I1,r,z,q⟩=>⟨by rw[<-r.length];exact z,?_⟩)
 have hf:H1 s1.heap.objs.size=none:=I1.hok.fresh (q0f _)
 refine⟨.ref s1.heap.objs.size,upd H1 s1.heap.objs.size (.lst xs),I1.laid (t':=s1.toks) (λb u e=>q0g _ e) (q0f _) ?_,Z,q _ hf⟩
 exact⟨z,us,0,r,q0r _ rfl⟩
end
abbrev Sp:=List V->Hp->VK->XK->Prop
abbrev CXT:=List Env->Hp->Shared->XK->Value->Shared->Prop
structure Env0 (P:U8) (w:W1) (K:U0) (mg:U4) (base:Heap) (A:W6) (outer:List Env) (s:U7) (H:Hp):Prop where
 frames:A.frames=some outer
 mod:Mod K mg base
 bs:∀ b o,base.get? b=some o->s.heap.get? b=some o/\H b=none
 bsz:base.objs.size<=s.heap.objs.size
 funs:s.heap.FunFrames base outer
 frf:∀ b∈frs outer,H b=none
 hok:HOk P w H s.heap
 bare:AllBare s.gens
def CE (outer:List Env)(P:U8)(w:W1)(H:Hp)(s:U7)(Q:VK)(u:W2)(s':U7):Prop :=
 ∃ v H',s'.os=s.os/\AllBare s'.gens/\Un (frs outer) [] H H' s.heap s'.heap/\HOk P w H' s'.heap/\RelV v u/\Q v H'
def CR (CX:CXT)(outer:List Env)(P:U8)(w:W1)(H:Hp)(s:U7)(Q:VK)(E:XK)(r:Result)(s':U7):Prop :=
 match r with
 | .ok (.ret u)=>CE outer P w H s Q u s'
 | .ok _=>False
 | .error e=>CX outer H s E e s'
structure FnOk (P:U8) (w:W1) (K:U0) (mg:U4) (base:Heap) (CX:CXT) (k:Nat) (f:W9) (fd:FuncData) (ps:W0) (sp:Sp):Prop where
 len:∀ vs H Q E,sp vs H Q E->vs.length=ps.length
 run:∀ (A:W6) (outer:List Env) (s:U7) (H:Hp) (args:Args) (us:U5) (vs:List V) (Q:VK) (E:XK),Room k A->Env0 P w K mg base A outer s H->BindsTo s fd args (ps.zip us)->Vals vs us->sp vs H Q E →
  codeAny (model P w) A (.call (.ref f) args) (CR CX outer P w H s Q E) s
theorem FnOk.mono {P:U8}{w:W1}{K:U0}{mg:U4}{base:Heap}{CX:CXT}{j k:Nat}{f:W9}{fd:FuncData}{ps:W0}{sp:Sp}(F:FnOk P w K mg base CX j f fd ps sp)(h:j<=k) :
  FnOk P w K mg base CX k f fd ps sp:=⟨F.len,λA outer s H args us vs Q E hr=>F.run A outer s H args us vs Q E (hr.mono h)⟩
section
variable {X:Cx}{pins:U1}{σ:St}{H:Hp}{s s':U7}
theorem Inv.env0 (I:Inv X pins σ H s):Env0 X.prog X.w X.K X.mg X.base X.A X.stack s H :=
 ⟨I.ok.frames,I.ok.mod,I.bs,q0u I.ok.bsz I.sz,I.stack,I.stkFree,I.hok,I.bare⟩
theorem Inv.after {Q:VK}{u:W2}(I:Inv X pins σ H s)(h:CE X.stack X.prog X.w H s Q u s'):EP X pins σ Q u s':=by
 obtain⟨v,H',os,bare,un,hok,r,q⟩:=h
 obtain⟨hh,g,d,t,os'⟩:=s'
 obtain rfl:os'=s.os:=os
 exact⟨v,H',I.call (h':=hh) (g':=g) (d':=d) (t':=t) (ch:=[]) un hok bare (λb z=>absurd z (by simp)),r,q⟩
end
def tCall (sp:Sp)(dvs:List V)(E:XK)(t:TA):TE:=λσ H Q=>t σ H λvs H1=>sp (vs++dvs) H1 Q E
def Binds (K:U0)(fd:FuncData)(ps:W0)(ds:U5):Prop :=
 ∀ (s:U7) (us:U5),K.In s.heap->(us++ds).length=ps.length->BindsTo s fd ⟨us,[]⟩ (ps.zip (us++ds))
theorem Binds.all {K:U0}{fd:FuncData}{ps:W0}(h:∀ us:List Value,us.length=ps.length->bindArgs fd ⟨us,[]⟩=pure (ps.zip us)):Binds K fd ps []:=λs us _ hl=>by
 rw[q3f] at hl ⊢
 exact .of_eq (h us hl)
def Passes (CX:CXT)(X:Cx)(E:XK):Prop:=∀ (pins:U1) (σ:St) (H:Hp) (s:U7) (e:W2) (s':U7),Inv X pins σ H s->CX X.stack H s E e s'->X.xe e s'
section
variable {X:Cx}{CX:CXT}{k:Nat}{f C:W9}{fd:FuncData}{ps:W0}{sp:Sp}{dvs:List V}{ds:U5}{E:XK}{x m:Str}{p pos apos:Pos}{e o:Expr}{es:List Expr}{ta:TE}{t:TA}
theorem X7w {pins:U1}{σ:St}{H:Hp}{s:U7}{Q:VK}{us:U5}{vs:List V}(F:FnOk X.prog X.w X.K X.mg X.base CX k f fd ps sp)(hr:Room k X.A)(hb:Binds X.K fd ps ds)(hd:Vals dvs ds)(hx:Passes CX X E)
  (I:Inv X pins σ H s) (r:Vals vs us) (h:sp (vs++dvs) H Q E):wpAny (model X.prog X.w) X.A (call (.ref f) us) (EP X pins σ Q) X.xe s:=by
 have r2:Vals (vs++dvs) (us++ds):=r.append hd
 have hl:(us++ds).length=ps.length:=by rw[<-r2.length];exact F.len _ _ _ _ h
 refine wpAny_call (q6p (F.run X.A X.stack s H ⟨us,[]⟩ (us++ds) (vs++dvs) Q E hr I.env0 (hb s us I.kIn hl) r2 h) λr s' hq=>?_)
 cases r with
 | error e=>exact hx pins σ H s e s' I hq
 | ok fl =>
  cases fl with
  | ret u=>exact I.after hq
  | next=>exact False.elim hq
  | brk=>exact False.elim hq
  | cont=>exact False.elim hq
theorem X4r (F:FnOk X.prog X.w X.K X.mg X.base CX k f fd ps sp)(hr:Room k X.A)(hg:Gl X x)(hm:X.mg x=some (.ref f))(hk:PySem.W.keepIn X.K (.ref f)=true)(hb:Binds X.K fd ps ds)(hd:Vals dvs ds)(hx:Passes CX X E)
  (ha:PA X (e::es) t) (hdb:(x == ("__debug__":Str))=false:=by decide) (he:starEach (e::es) X.env=(false,eval e X.env)::starEach es X.env:=by rfl) (hpl:(backTo pos (starEach es X.env)).any (·.1)=false:=by rfl) :
  PE X (.Call (.Name x p) (e::es) [] pos) (tCall sp dvs E t):=by
 intro pins s σ H Q I h
 refine q6o (Y7w I hg hm ?_ hdb)
 refine PySem.W.callWith_K (h₀:=X.base) I.ok.mod.kin hk (thn (ha pos pins s σ H _ I h) λus s1 ⟨vs,H1,I1,r,q⟩=>⟨I1.kIn,?_⟩) he hpl
 exact X7w F hr hb hd hx I1 r q
end
section
variable {X:Cx}{CX:CXT}{k:Nat}{f C:W9}{fd:FuncData}{ps ks:W0}{sp:Sp}{E:XK}{x m:Str}{p pos apos kpos:Pos}{e o:Expr}{es:List Expr}{kws:List Keyword}{te ta:TE}{t tk:TA}{nm:Option Str}
variable {g:List Value->List Value->List Value}{gV:List V->List V->List V}
end
structure FnScope (N P:W0) (sc:Scope):Prop where
 kind:sc.kind=.function
 co:sc.isCoroutine=false
 gen:sc.isGenerator=false
 nd:N.Nodup
 pre:N.take P.length=P
 par:∀ x∈P,sc.names.lookup x=some .local∨sc.names.lookup x=some .cell
 nofree:∀ y∈sc.names,y.2≠.free
theorem Y0v {kindOf:Str->Option NameKind}{x:Str}:∀ {binds:List (Str × Value)}{m:U4},(∀ v,(x,v) ∉ binds)->bindL kindOf binds m x=m x
 | [],_,_=>rfl
 | (n,v)::r,m,h=>by
  unfold bindL
  rw[Y0v λw hw=>h w (q3b _ hw)]
  split
  ·have:x≠n:=by rintro rfl;exact h v q4d
   simp[this]
  ·rfl
theorem Y0x {kindOf:Str->Option NameKind}{x:Str}:∀ {binds:List (Str × Value)}{m:U4},(∀ v,(x,v) ∉ binds)->bindC kindOf binds m x=m x
 | [],_,_=>rfl
 | (n,v)::r,m,h=>by
  unfold bindC
  rw[Y0x λw hw=>h w (q3b _ hw)]
  split
  ·rfl
  ·have:x≠n:=by rintro rfl;exact h v q4d
   simp[this]
theorem Y0w {kindOf:Str->Option NameKind}{x:Str}{v:W2}:∀ {P:W0}{vs:U5}{i:Nat}{m:U4},P.Nodup->P[i]?=some x->vs[i]?=some v->kindOf x=some .local →
  bindL kindOf (P.zip vs) m x=some v
 | [],_,_,_,_,h,_,_=>by simp at h
 | _::_,[],_,_,_,_,h,_=>by simp at h
 | p::P,w::vs,0,m,nd,h1,h2,hk=>by
  simp at h1 h2;subst h1;subst h2
  show bindL kindOf ((p,w)::P.zip vs) m p=_
  unfold bindL
  rw[Y0v λv hv=>(q3e.mp nd).1 (q7x hv).1,if_pos hk]
  simp
 | p::P,w::vs,i+1,m,nd,h1,h2,hk=>by
  show bindL kindOf ((p,w)::P.zip vs) m x=_
  unfold bindL
  exact Y0w (i:=i) (q3e.mp nd).2 (by simpa using h1) (by simpa using h2) hk
theorem Y0y {kindOf:Str->Option NameKind}{x:Str}{v:W2}:∀ {P:W0}{vs:U5}{i:Nat}{m:U4},P.Nodup->P[i]?=some x->vs[i]?=some v->kindOf x≠some .local →
  bindC kindOf (P.zip vs) m x=some v
 | [],_,_,_,_,h,_,_=>by simp at h
 | _::_,[],_,_,_,_,h,_=>by simp at h
 | p::P,w::vs,0,m,nd,h1,h2,hk=>by
  simp at h1 h2;subst h1;subst h2
  show bindC kindOf ((p,w)::P.zip vs) m p=_
  unfold bindC
  rw[Y0x λv hv=>(q3e.mp nd).1 (q7x hv).1,if_neg hk]
  simp
 | p::P,w::vs,i+1,m,nd,h1,h2,hk=>by
  show bindC kindOf ((p,w)::P.zip vs) m x=_
  unfold bindC
  exact Y0y (i:=i) (q3e.mp nd).2 (by simpa using h1) (by simpa using h2) hk
noncomputable def start (N:W0)(vs:List V):St:=vs.map some++List.replicate (N.length-vs.length) none
noncomputable def cxOf (CX:CXT)(P:U8)(w:W1)(K:U0)(mg:U4)(base:Heap)(N:W0)(qual:Str)(scope:Scope)(f:W9)(cd:W2)(A:W6)(outer:List Env)(s:U7)(H:Hp)(E:XK):Cx where
 prog:=P
 w:=w
 K:=K
 mg:=mg
 base:=base
 A:=A.deeper (envOfC qual scope s.heap.objs.size f cd)
 N:=N
 s₀:=s
 H₀:=H
 env:=envOfC qual scope s.heap.objs.size f cd
 outer:=outer
 stack:=envOfC qual scope s.heap.objs.size f cd::outer
 ex:=[]
 calm:=true
 fn:=λ_=>true
 pn:=[]
 xe:=λe s'=>wpAny (model P w) (A.deeper (envOfC qual scope s.heap.objs.size f cd)) (leaving (envOfC qual scope s.heap.objs.size f cd) e) (λ_ s''=>CX outer H s E e s'') (λe' s''=>CX outer H s E e' s'') s'
theorem Y4e {sc:Scope}{n:Nat}{x:Str}(h:sc.names.lookup x=some .cell):∃ c,(cellsFrom n sc.names []).lookup x=some c:=by
 have q:=q7p sc.names n [] (.inl h)
 exact Option.isSome_iff_exists.mp q
theorem Y8e {CX:CXT}{P:U8}{w:W1}{K:U0}{mg:U4}{base:Heap}{N ps:W0}{qual:Str}{scope:Scope}{f:W9}{cd:W2}{A:W6}{outer:List Env}{s s1:U7}{H:Hp}{E:XK}{us:U5}{vs:List V}
  (S:FnScope N ps scope) (hd:A.handled=none) (e0:Env0 P w K mg base A outer s H) (hl:vs.length=ps.length) (r:Vals vs us)
  (x:InCallC s s.heap.objs.size (bindL (envOfC qual scope s.heap.objs.size f cd).kindOf (ps.zip us) λ_=>none) (cellsFrom (s.heap.objs.size+1) scope.names []) (bindC (envOfC qual scope s.heap.objs.size f cd).kindOf (ps.zip us) λ_=>none) s1) :
  Inv (cxOf CX P w K mg base N qual scope f cd A outer s H E) [] (start N vs) H s1:=by
 have hpl:ps.length<=N.length:=by have:=congrArg List.length S.pre;rw[q1q] at this;omega
 obtain⟨h1,tk,rfl,hk⟩:=x.done
 have noA:∀ b:Addr,b ∉ (cxOf CX P w K mg base N qual scope f cd A outer s H E).ex:=λb z=>absurd (show b∈([]:U3) from z) (by simp)
 refine⟨⟨e0.mod,S.kind,Z,Z,q0f _,λy z c h1 h2=>?_,λy hy=>?_,λy c _ h=>?_,λ_=>hd,Around.frames_deeper e0.frames,.inr ⟨Z,Z⟩,λb z=>absurd z (noA b),e0.bs,e0.bsz,λb _ _=>noA b,λb z=>absurd z (noA b),e0.funs,e0.frf⟩,
  rfl,e0.bare,Un.kept hk,⟨_,x.toInCall.ns,λi y v h1 h2 h3=>?_⟩,λy c h=>⟨_,x.cell y c h⟩,e0.hok.fresh (q0f _),λy c h=>?_,λp hp=>absurd (show p∈([]:U1) from hp) (by simp),e0.hok.kept hk,?_⟩
 ·exact name_of_addr x.apart (q2s h1) (q2s h2)
 ·have hy:scope.names.lookup y=some .cell∨scope.names.lookup y=some .free:=hy
  rcases hy with hy | hy
  ·exact Y4e hy
  ·exact absurd rfl (S.nofree _ (q2s hy))
 ·exact q8t (x.above y c (q2s h))
 ·have hi:i<vs.length:=by
   unfold start at h2
   by_cases hi:i<vs.length
   ·exact hi
   ·rw[q4k (by simpa using hi)] at h2
    rw[List.getElem?_replicate] at h2
    split at h2<;>cases h2
  have ha:vs[i]?=some v:=by
   unfold start at h2
   rw[q3l (by simpa using hi),q0k] at h2
   cases e:vs[i]? with
   | none=>rw[e] at h2;cases h2
   | some a=>rw[e] at h2;cases h2;rfl
  obtain⟨u,hu,rv⟩:=r.get ha
  have hp:ps[i]?=some y:=by
   rw[<-S.pre,List.getElem?_take_of_lt (by omega)];exact h1
  have ndP:ps.Nodup:=by rw[<-S.pre];exact S.nd.sublist (List.take_sublist _ _)
  refine⟨u,rv,?_⟩
  rcases S.par y (q2r hp) with k | k
  ·exact .inl ⟨k,Y0w ndP hp hu k⟩
  ·obtain⟨c,e⟩:=Y4e (n:=s.heap.objs.size+1) k
   refine .inr ⟨.inl k,c,e,?_⟩
   have q:=x.cell y c e
   rw[Y0y ndP hp hu (by show scope.names.lookup y≠_;rw[k];decide)] at q
   exact q
 ·exact e0.hok.fresh (q8t (x.above y c (q2s h)))
 ·unfold start
  show _=N.length
  rw[q0c,q0a,List.length_replicate]
  omega
theorem X9z {CX:CXT}{P:U8}{w:W1}{K:U0}{mg:U4}{base:Heap}{k:Nat}{f:W9}{name qual:Str}{params:Arguments}{body:W8}{scope:Scope}{dV kV doc pm cdv ct oc:W2}{an od:W5}
  {osl:W4}{N ps:W0}{sp:Sp} (lk:K.lookup f=some ⟨oc,od,.func (PySem.W.fnOf name qual params body scope dV kV doc pm an cdv ct),osl⟩) (hcd:PySem.W.codeIn K cdv qual=true) (S:FnScope N ps scope)
  (len:∀ vs H Q E,sp vs H Q E->vs.length=ps.length)
  (hbody:∀ (A:W6) (outer:List Env) (s:U7) (H:Hp) (vs:List V) (Q:VK) (E:XK),Room k (A.deeper (envOfC qual scope s.heap.objs.size f cdv))->sp vs H Q E →
   ∃ t,PSs (cxOf CX P w K mg base N qual scope f cdv A outer s H E) body t/\t { nx:=λ_ H'=>Q .non H',rt:=Q } (start N vs) H) :
  FnOk P w K mg base CX (k+1) f (PySem.W.fnOf name qual params body scope dV kV doc pm an cdv ct) ps sp:=by
 refine⟨len,λA outer s H args us vs Q E hr e0 hb r hsp=>?_⟩
 have hl:=len _ _ _ _ hsp
 have KX:K.In s.heap:=e0.mod.kin.keeps λb o e=>(e0.bs b o e).1
 have lim:s.heap.NoLimit:=e0.mod.nolimit.keeps λb o e=>(e0.bs b o e).1
 have hkind:∀ y∈ps.zip us,scope.names.lookup y.1=some .local∨(scope.names.lookup y.1=some .cell/\((cellsFrom (s.heap.objs.size+1) scope.names []).lookup y.1).isSome=true):=λ⟨n,v⟩ hy=>by
  rcases S.par n (q7x hy).1 with q | q
  ·exact .inl q
  ·exact .inr ⟨q,q7p _ _ _ (.inl q)⟩
 refine codeAny_call_function hr.depth (KX _ _ lk) rfl S.co S.gen rfl (PySem.W.codeRec_of KX hcd) (hb _ _ _ _ ?_)
 refine wpAny_newFunctionEnv_cells S.kind hkind λenv he s1 x=>?_
 subst he
 refine⟨lim.keeps x.toInCall.keep,codeAny_func ?_⟩
 obtain⟨t,ht,hq⟩:=hbody A outer s H vs Q E (hr.deeper _) hsp
 have I:Inv (cxOf CX P w K mg base N qual scope f cdv A outer s H E) [] (start N vs) H s1:=Y8e S hr.hd e0 hl r x
 refine q2a (ht [] s1 (start N vs) H _ I hq) (λfl s' hs=>?_) λe s' hs=>hs
 have fin:∀ {σ':St}{H':Hp}{v:V}{u:W2},Inv (cxOf CX P w K mg base N qual scope f cdv A outer s H E) [] σ' H' s'->RelV v u->Q v H'->CE outer P w H s Q u s' :=
  λ{σ' H' v u} J rv q=>⟨v,H',J.os,J.bare,J.base,J.hok,rv,q⟩
 cases fl with
 | ret u =>
  obtain⟨v,σ',H',J,rv,q⟩:=hs
  exact fin J rv q
 | next =>
  obtain⟨σ',H',J,q⟩:=hs
  exact fin (v:=V.non) (u:=Value.none) J rfl q
 | brk =>
  obtain⟨_,_,_,q⟩:=hs
  exact False.elim q
 | cont =>
  obtain⟨_,_,_,q⟩:=hs
  exact False.elim q
section
variable {X:Cx}{x:Str}{p pos:Pos}{e:Expr}{es:List Expr}{t:TA}{id T:String}{r:List V->Hp->VK->Prop}
def tCB (r:List V->Hp->VK->Prop)(t:TA):TE:=λσ H Q=>t σ H λvs H1=>r vs H1 Q
theorem Z0q (hc:CallR X (.builtin id) r)(hg:Gl X x)(hm:X.mg x=none)(hv:bootBuiltins x=some (.builtin id))(ha:PA X (e::es) t)(hn:x≠"__name__":=by decide)(hdb:(x == ("__debug__":Str))=false:=by decide)
  (he:starEach (e::es) X.env=(false,eval e X.env)::starEach es X.env:=by rfl) (hpl:(backTo pos (starEach es X.env)).any (·.1)=false:=by rfl):PE X (.Call (.Name x p) (e::es) [] pos) (tCB r t):=by
 intro pins s σ H Q I h
 refine q6o (Z5y I hg hm hv ?_ hn hdb)
 exact PyProof.Rows.callWith_builtin1 (thn (ha pos pins s σ H _ I h) λus s1 ⟨vs,H1,I1,r1,q1⟩=>hc pins s1 σ H1 vs us Q I1 r1 q1) he hpl
theorem Z4d (hc:CallR X (.type T) r)(hg:Gl X x)(hm:X.mg x=none)(hv:bootBuiltins x=some (.type T))(ha:PA X (e::es) t)(hn:x≠"__name__":=by decide)(hdb:(x == ("__debug__":Str))=false:=by decide)
  (he:starEach (e::es) X.env=(false,eval e X.env)::starEach es X.env:=by rfl) (hpl:(backTo pos (starEach es X.env)).any (·.1)=false:=by rfl):PE X (.Call (.Name x p) (e::es) [] pos) (tCB r t):=by
 intro pins s σ H Q I h
 refine q6o (Z5y I hg hm hv ?_ hn hdb)
 exact PyProof.Rows.callWith_type1 (thn (ha pos pins s σ H _ I h) λus s1 ⟨vs,H1,I1,r1,q1⟩=>hc pins s1 σ H1 vs us Q I1 r1 q1) he hpl
end
end L2
namespace HT
section
open PySem.SeqAt
open PySem.AutoSeq1 (wpAny_loadPart')
open PySem.MeetsSeq PySem.MeetsSeq2 PySem.MeetsSeq3
end
section
variable {prog:U8}{w:W1}{A:W6}{E:U2}{s:U7}
noncomputable def sIx (n d:Nat):Option Int->Nat
 | none=>d
 | some v=>if v<0 then (v+(n:Int)).toNat else min v.toNat n
theorem Z2t (n d k:Nat):sIx n d (some (k:Int))=min k n:=by
 show (if (k:Int)<0 then ((k:Int)+(n:Int)).toNat else min (k:Int).toNat n)=min k n
 rw[if_neg (by omega),q1h]
theorem X7u (n d:Nat)(hd:d<=n)(o:Option Int):sIx n d o<=n:=by
 cases o with
 | none=>exact hd
 | some v =>
  show (if v<0 then (v+(n:Int)).toNat else min v.toNat n)<=n
  by_cases hv:v<0
  ·rw[if_pos hv];omega
  ·rw[if_neg hv];exact Nat.min_le_right _ _
theorem Y9b (v:Int)(n d:Nat):(if v<0 then max (v+(n:Int)) 0 else min v (n:Int))=((sIx n d (some v):Nat):Int):=by
 show (if v<0 then max (v+(n:Int)) 0 else min v (n:Int))=(((if v<0 then (v+(n:Int)).toNat else min v.toNat n):Nat):Int)
 by_cases hv:v<0
 ·simp only[if_pos hv];omega
 ·simp only[if_neg hv];omega
theorem Y5h (lo hi:Option Int)(n:Nat):Builtin.Slice.sliceAdjust lo hi 1 (n:Int)=(((sIx n 0 lo:Nat):Int),((sIx n n hi:Nat):Int)):=by
 have h1:¬ ((1:Int)<0):=by omega
 unfold Builtin.Slice.sliceAdjust
 simp only[h1,q7e]
 refine Prod.ext ?_ ?_
 ·cases lo with
  | none=>rfl
  | some v=>exact Y9b v n 0
 ·cases hi with
  | none=>rfl
  | some v=>exact Y9b v n n
theorem Y4s (i j:Nat):Builtin.Slice.slicePlaces (i:Int) (j:Int) 1=j-i:=by
 unfold Builtin.Slice.slicePlaces
 have h1:(1:Int)>0:=by omega
 simp only[h1,q7u,Int.ediv_one]
 split<;>omega
theorem Z7o {v:W2}{o:Option Int}{Q:Option Int->Shared->Prop}(p:IsPart v o)(h:Q o s):wpAny (model prog w) A (Builtin.Slice.slicePartIndex v) Q E s:=by
 cases p with
 | none=>exact slicePart_none h
 | int i t=>exact slicePart_int h
theorem Z3u {sl:W9}{vl vu:W2}{lo hi:Option Int}{n:Nat}{Q:Int × Int × Nat->Shared->Prop}(hs:s.heap.IsSliceOf sl vl vu .none)(pl:IsPart vl lo)(pu:IsPart vu hi)
  (h:Q (((sIx n 0 lo:Nat):Int),1,sIx n n hi-sIx n 0 lo) s):wpAny (model prog w) A (Builtin.Slice.sliceApplied (.ref sl) (pure (n:Int))) Q E s:=by
 obtain⟨os,hos,hcs,hds⟩:=id hs
 unfold Builtin.Slice.sliceApplied Builtin.Slice.sliceFields
 refine q0o (q0o (q4e hos hds (x:=vl) rfl (q0o (q4e hos hds (x:=vu) rfl (q0o (q4e hos hds (x:=.none) rfl (q0z ?_)))))))
 refine q0o (slicePart_none ?_)
 show wpAny _ _ (if ((1:Int) == 0)=true then _ else _) _ _ s
 rw[if_neg (by decide)]
 refine q0o (Z7o pl (q0o (Z7o pu (q0o (q0z ?_)))))
 show wpAny _ _ (match Builtin.Slice.sliceAdjust lo hi 1 (n:Int) with | (lo,hi)=>pure (lo,(1:Int),Builtin.Slice.slicePlaces lo hi 1)) _ _ s
 rw[Y5h lo hi n]
 show wpAny _ _ (pure (((sIx n 0 lo:Nat):Int),(1:Int),Builtin.Slice.slicePlaces ((sIx n 0 lo:Nat):Int) ((sIx n n hi:Nat):Int) 1)) _ _ s
 rw[Y4s]
 exact q0z h
theorem X0k (xs:U9)(i k:Nat):((List.range k).filterMap λ(m:Nat)=>xs[((i:Int)+(m:Int)*1).toNat]?).toArray=((xs.toList.drop i).take k).toArray:=by
 have e:(λ(m:Nat)=>xs[((i:Int)+(m:Int)*1).toNat]?)=λm=>xs[i+m]?:=by
  funext m
  have:((i:Int)+(m:Int)*1).toNat=i+m:=by omega
  rw[this]
 rw[e]
 have:=pick_run xs i k
 rw[List.filterMap_map] at this
 have e2:((λx=>xs[x]?) ∘ λx=>i+x)=λm=>xs[i+m]?:=rfl
 rw[e2] at this
 rw[this]
theorem Z5o {t sl:W9}{items:U9}{vl vu:W2}{lo hi:Option Int}{Q:U2}(ht:IsTup s.heap t items)(hs:s.heap.IsSliceOf sl vl vu .none)(pl:IsPart vl lo)(pu:IsPart vu hi)
  (hw:¬ (sIx items.size 0 lo=0/\sIx items.size items.size hi=items.size))
  (h:Q (.ref s.heap.objs.size) { s with heap:=s.heap.push { cls:=.type "tuple",data:=.seq ((items.toList.drop (sIx items.size 0 lo)).take (sIx items.size items.size hi-sIx items.size 0 lo)).toArray } })
  (hsz:items.size<=sizeLine):wpAny (model prog w) A (getItem (.ref t) (.ref sl)) Q E s:=by
 have htake:sizeOk (.seq ((items.toList.drop (sIx items.size 0 lo)).take (sIx items.size items.size hi-sIx items.size 0 lo)).toArray):=by
  show ((items.toList.drop (sIx items.size 0 lo)).take (sIx items.size items.size hi-sIx items.size 0 lo)).toArray.size<=sizeLine
  rw[q0i,q1q,q2i,q1w]
  omega
 have hj:sIx items.size items.size hi<=items.size:=X7u _ _ (q0f _) hi
 obtain⟨os,hos,hcs,hds⟩:=id hs
 have hTs:s.TypeIs (.ref sl) "slice":=⟨os,hos,hcs⟩
 unfold getItem
 try with_reducible refine q6c ?_
 first | refine q0o (q0z ?_) | skip
 refine q0o (wpAny_sequenceKey ht.typeIs (by decide) ?_)
 refine q0o (q5a (name:=Str.ofString "__getitem__") ht.typeIs PyProof.Rows.slot_tuple_getitem
  (q7m PyProof.Rows.slot_tuple_getitem ht.typeIs entry_tuple_getitem ?_ (args_tuple_getitem _ _)))
 show wpAny _ _ (Builtin.Tuple.tupleItemsOf (.ref t) >>= _) _ _ s
 refine q0o (tupleItemsOf_ ht ?_)
 refine q0o (q8q hTs ?_)
 rw[if_pos (by decide)]
 refine q0o (Z3u hs pl pu ?_)
 have hno:¬ ((((sIx items.size 0 lo:Nat):Int) == 0 && (1:Int) == 1 && (sIx items.size items.size hi-sIx items.size 0 lo) == items.size)=true):=by
  intro q
  rw[q0m,q0m] at q
  have q1:((sIx items.size 0 lo:Nat):Int)=0:=eq_of_beq q.1.1
  have q2:sIx items.size items.size hi-sIx items.size 0 lo=items.size:=eq_of_beq q.2
  exact hw ⟨by omega,by omega⟩
 show wpAny _ _ (if (((sIx items.size 0 lo:Nat):Int) == 0 && (1:Int) == 1 && (sIx items.size items.size hi-sIx items.size 0 lo) == items.size)=true then _ else _) _ _ s
 rw[if_neg hno,X0k]
 first
  | exact q0o (m:=Builtin.Tuple.tupleExact _) (q3p (q0z ⟨_,rfl,q0z h⟩) htake)
  | exact q0o (m:=Builtin.Tuple.tupleExact _) (q3p (q0o (q0z (q0z ⟨_,rfl,q0z h⟩))) htake)
  | exact q0o (q0o (m:=Builtin.Tuple.tupleExact _) (q3p (q0z (q0z ⟨_,rfl,q0z h⟩)) htake))
  | exact q0o (q0o (m:=Builtin.Tuple.tupleExact _) (q3p (q0z ⟨_,rfl,q0z h⟩) htake))
end
end HT
namespace L2
abbrev TO:=St->Hp->(Option Int->Hp->Prop)->Prop
def PO (X:Cx)(e:Option Expr)(t:TO):Prop :=
 ∀ (pins:U1) (s:U7) (σ:St) (H:Hp) (Q:Option Int->Hp->Prop),Inv X pins σ H s->t σ H Q →
  wpAny (model X.prog X.w) X.A (evalPart e X.env) (λu s'=>∃ o H',Inv X pins σ H' s'/\IsPart u o/\Q o H') X.xe s
def X3v:TO:=λ_ H Q=>Q none H
def tPart (t:TE):TO:=λσ H Q=>t σ H λx H1=>∃ i,x=.int i/\Q (some i) H1
theorem Z2n {ns:U6}:∀ {us:U5},Vals (ns.map V.int) us->IntsAre us ns:=by
 induction ns with
 | nil=>intro us r;rw[q5s] at r;cases r;exact .nil
 | cons n ns ih =>
  intro us r
  rw[q1s] at r
  cases r with
  | cons r1 r2 =>
   obtain⟨t,e⟩:=r1
   subst e
   exact .cons n t (ih r2)
section
variable {X:Cx}{e:Expr}{te:TE}{lo hi:Option Expr}{tl th:TO}{pos p2:Pos}
theorem Z2e:PO X none X3v:=by
 intro pins s σ H Q I h
 rw[evalPart_none]
 exact q0z ⟨none,H,I,.none,h⟩
theorem Z1f (h:PE X e te):PO X (some e) (tPart te):=by
 intro pins s σ H Q I hw
 rw[evalPart_some]
 refine thn (h pins s σ H _ I hw) λu s1 ⟨x,H1,I1,r1,q1⟩=>?_
 obtain⟨i,rfl,q⟩:=q1
 obtain⟨t,rfl⟩:=r1
 exact⟨some i,H1,I1,.int i t,q⟩
def SlR (X:Cx)(r:V->Option Int->Option Int->Hp->VK->Prop):Prop :=
 ∀ (pins:U1) (s:U7) (σ:St) (H:Hp) (x:V) (v vl vu:W2) (lo hi:Option Int) (sl:W9) (Q:VK),Inv X pins σ H s->RelV x v->s.heap.IsSliceOf sl vl vu .none->IsPart vl lo->IsPart vu hi->r x lo hi H Q →
  ∃ T id,typeLookup (.type T) "__getitem__"=pure (some (.builtin id))/\s.TypeIs v T/\wpAny (model X.prog X.w) X.A (getItem v (.ref sl)) (EP X pins σ Q) X.xe s
def tSl (r:V->Option Int->Option Int->Hp->VK->Prop)(te:TE)(tl th:TO):TE:=λσ H Q=>te σ H λx H1=>tl σ H1 λl H2=>th σ H2 λu H3=>r x l u H3 Q
theorem Z1l {r:V->Option Int->Option Int->Hp->VK->Prop}(hr:SlR X r)(he:PE X e te)(hl:PO X lo tl)(hu:PO X hi th):PE X (.Subscript e (.Slice lo hi none p2) pos) (tSl r te tl th):=by
 intro pins s σ H Q I h
 refine Subscript_ (thn (he pins s σ H _ I h) λv s1 ⟨x,H1,I1,r1,q1⟩=>?_)
 refine wpAny_Slice (thn (hl pins s1 σ H1 _ I1 q1) λvl s2 ⟨l,H2,I2,pl,q2⟩=>thn (hu pins s2 σ H2 _ I2 q2) λvu s3 ⟨u,H3,I3,pu,q3⟩=>?_)
 rw[evalPart_none]
 refine q0z ?_
 have I4:Inv X pins σ H3 { s3 with heap:=s3.heap.push { cls:=.type "slice",data:=.fields #[vl,vu,.none] } }:=I3.kept (t':=s3.toks) λb ob q=>q0g _ q
 obtain⟨T,id,hT,ht,hg⟩:=hr pins { s3 with heap:=s3.heap.push { cls:=.type "slice",data:=.fields #[vl,vu,.none] } } σ H3 x v vl vu l u s3.heap.objs.size Q I4 r1 (Heap.IsSliceOf.new ..) pl pu q3
 show wpAny (model X.prog X.w) X.A (subscriptTail e (.Slice lo hi none p2) v (.ref s3.heap.objs.size)) (EP X pins σ Q) X.xe { s3 with heap:=s3.heap.push { cls:=.type "slice",data:=.fields #[vl,vu,.none] } }
 exact tail_any (ops:=[.ref s3.heap.objs.size,v]) ht hT hg (by with_unfolding_all rfl)
noncomputable def cutV (xs:List V)(lo hi:Option Int):List V:=(xs.drop (HT.sIx xs.length 0 lo)).take (HT.sIx xs.length xs.length hi-HT.sIx xs.length 0 lo)
theorem Z7i (xs:List V)(lo hi:Option Int):(cutV xs lo hi).length<=xs.length:=by
 unfold cutV
 rw[q1q,q2i]
 omega
def rSlT (K:U0):V->Option Int->Option Int->Hp->VK->Prop:=λx lo hi H Q=>∃ a xs,x=.ref a/\SqT K H a xs ∧
 ¬ (HT.sIx xs.length 0 lo=0/\HT.sIx xs.length xs.length hi=xs.length)/\∀ p,H p=none->Q (.ref p) (upd H p (.tup (cutV xs lo hi)))
theorem Y6f:SlR X (rSlT X.K):=by
 intro pins s σ H x v vl vu lo hi sl Q I rx hs pl pu h
 obtain⟨a,xs,rfl,hx,hw,q⟩:=h
 cases rx
 obtain⟨its,r,ht,hz⟩:=I.tuple hx
 have hlen:its.toArray.size=xs.length:=by rw[q0i];exact r.length.symm
 refine⟨"tuple",_,PyProof.Rows.slot_tuple_getitem.lookup,ht.typeIs,?_⟩
 refine HT.Z5o ht hs pl pu (by rw[hlen];exact hw) ?_ (by rw[hlen];exact hz)
 rw[hlen]
 refine⟨.ref s.heap.objs.size,_,I.laid (t':=s.toks) (o:=.tup (cutV xs lo hi)) (λb ob q=>q0g _ q) (q0f _) ?_,Z,q _ (I.hok.fresh (q0f _))⟩
 exact⟨q0u (Z7i xs lo hi) hz,_,(r.drop (HT.sIx xs.length 0 lo)).take (HT.sIx xs.length xs.length hi-HT.sIx xs.length 0 lo),IsTup.new _ _⟩
end
noncomputable def ixN (n:Nat)(i:Int):Option Nat:=if 0<=i then (if i<n then some i.toNat else none) else if -(n:Int)<=i then some (i+n).toNat else none
noncomputable def atI {α:Type}(xs:List α)(i:Int):Option α:=(ixN xs.length i).bind λj=>xs[j]?
theorem Y8a {n:Nat}{i:Int}{j:Nat}(h:ixN n i=some j):seqIndex? i n=some j/\j<n/\-(n:Int)<=i/\i<n:=by
 unfold ixN at h
 by_cases h0:0<=i
 ·rw[if_pos h0] at h
  by_cases h1:i<n
  ·rw[if_pos h1] at h
   have e:i.toNat=j:=Option.some.inj h
   exact⟨by rw[seqIndex_of h0 h1,e],by omega,by omega,h1⟩
  ·rw[if_neg h1] at h;cases h
 ·rw[if_neg h0] at h
  by_cases h1:-(n:Int)<=i
  ·rw[if_pos h1] at h
   have e:(i+n).toNat=j:=Option.some.inj h
   exact⟨by rw[q8r (by omega) h1,e],by omega,h1,by omega⟩
  ·rw[if_neg h1] at h;cases h
theorem Y2b {α:Type}{xs:List α}{i:Int}{v:α}(h:atI xs i=some v):∃ j,seqIndex? i xs.length=some j/\xs[j]?=some v/\j<xs.length/\-(xs.length:Int)<=i/\i<xs.length:=by
 unfold atI at h
 cases e:ixN xs.length i with
 | none=>rw[e] at h;cases h
 | some j =>
  rw[e] at h
  obtain⟨h1,h2,h3,h4⟩:=Y8a e
  exact⟨j,h1,h,h2,h3,h4⟩
theorem Z1e {α:Type}{xs:List α}{j:Nat}{v:α}(h:xs[j]?=some v):atI xs (j:Int)=some v:=by
 have hj:j<xs.length:=(q0t.mp h).1
 have e:ixN xs.length (j:Int)=some j:=by
  unfold ixN
  rw[if_pos (by omega),if_pos (by omega)];simp
 unfold atI;rw[e];exact h
def X6z (b:Expr):Prop:=∀ o i,subscripted b false o i=operate [o,i] (getItem o i)
def IxR (X:Cx)(r:R2):Prop :=
 ∀ (value slice:Expr) (pins:U1) (s:U7) (σ:St) (H:Hp) (x y:V) (v u:W2) (Q:VK),Inv X pins σ H s->RelV x v->RelV y u->r x y H Q →
  subscripted slice false v u=operate [v,u] (getItem v u)->wpAny (model X.prog X.w) X.A (subscriptTail value slice v u) (EP X pins σ Q) X.xe s
def MtR (X:Cx)(id:String)(r:V->List V->Hp->VK->Prop):Prop :=
 ∀ (pins:U1) (s:U7) (σ:St) (H:Hp) (x:V) (xs:List V) (v:W2) (us:U5) (Q:VK),Inv X pins σ H s->RelV x v->Vals xs us->r x xs H Q →
  wpAny (model X.prog X.w) X.A (call (.builtin id) (v::us)) (EP X pins σ Q) X.xe s
section
variable {X:Cx}{a b:Expr}{ta tb:TE}{pos:Pos}
theorem Z0m {r:R2}(hr:IxR X r)(ha:PE X a ta)(hb:PE X b tb)(hs:X6z b):PE X (.Subscript a b pos) (tOp r ta tb):=by
 intro pins s σ H Q I h
 exact Subscript_ (binT ha hb I h λv u s2 x y H2 I2 rx ry q=>hr a b pins s2 σ H2 x y v u Q I2 rx ry q (hs _ _))
def rIxL (K:U0):R2:=λx y H Q=>∃ p xs i v,x=.ref p/\y=.int i/\SqL K H p xs/\atI xs i=some v/\Q v H
def rIxT (K:U0):R2:=λx y H Q=>∃ p xs i v,x=.ref p/\y=.int i/\SqT K H p xs/\atI xs i=some v/\Q v H
def rIxS:R2:=λx y H Q=>∃ z i c,x=.str z/\y=.int i/\z.length<=sizeLine/\atI z.cps.toList i=some c/\Q (.str ⟨#[c]⟩) H
theorem Z0s:IxR X (rIxL X.K):=by
 intro value slice pins s σ H x y v u Q I rx ry h hs
 obtain⟨p,xs,i,z,rfl,rfl,hq,he,q⟩:=h
 cases rx
 obtain⟨t,rfl⟩:=ry
 obtain⟨its,r,pl,hz⟩:=I.list hq
 obtain⟨j,h1,h2,h3,h4,h5⟩:=Y2b he
 obtain⟨w,ew,rw'⟩:=r.get h2
 have hl:=r.length
 have hn:=line63
 have fin:EP X pins σ Q w s:=⟨z,H,I,rw',q⟩
 by_cases h0:0<=i
 ·have hj:i.toNat=j:=by
   rw[seqIndex_of h0 h5] at h1
   exact Option.some.inj h1
  exact item_listR pl.isList h0 (by omega) (by rw[hj];simpa using ew) fin hs
 ·have hj:(i+(its.toArray.size:Int)).toNat=j:=by
   rw[q8r (by omega) h4] at h1
   rw[q0i,<-hl]
   exact Option.some.inj h1
  exact q7n (x:=w) pl.isList.typeIs slot_list_getitem.lookup
   (wpAny_getItem_list_neg (Q:=λr s'=>r=w/\EP X pins σ Q r s') pl.isList (by omega) (by rw[q0i]<;>omega) (by omega) (by rw[hj];simpa using ew) ⟨Z,fin⟩) hs
theorem Z0l:IxR X (rIxT X.K):=by
 intro value slice pins s σ H x y v u Q I rx ry h hs
 obtain⟨p,xs,i,z,rfl,rfl,hq,he,q⟩:=h
 cases rx
 obtain⟨t,rfl⟩:=ry
 obtain⟨its,r,pl,hz⟩:=I.tuple hq
 obtain⟨j,h1,h2,h3,h4,h5⟩:=Y2b he
 obtain⟨w,ew,rw'⟩:=r.get h2
 have hl:=r.length
 have hn:=line63
 have fin:EP X pins σ Q w s:=⟨z,H,I,rw',q⟩
 exact q7n (x:=w) pl.typeIs slot_tuple_getitem.lookup
  (getItem_tuple (j:=j) (Q:=λr s'=>r=w/\EP X pins σ Q r s') pl (by omega) (by omega) (by rw[q0i,<-hl];exact h1) (by simpa using ew) ⟨Z,fin⟩) hs
theorem X9v:IxR X rIxS:=by
 intro value slice pins s σ H x y v u Q I rx ry h hs
 obtain⟨z,i,c,rfl,rfl,hz,he,q⟩:=h
 obtain⟨t,rfl⟩:=rx
 obtain⟨t',rfl⟩:=ry
 obtain⟨j,h1,h2,h3,h4,h5⟩:=Y2b he
 have hl:z.cps.toList.length=z.length:=by simp[Str.length]
 rw[hl] at h1 h4 h5
 have hn:=line63
 exact tail_any (typeIs_str s z t) slot_str_getitem.lookup (getItem_str (c:=c) (by
  have e1:decide (i < -(2^63:Int))=false:=q0e (by omega)
  have e2:decide (i>=2^63)=false:=q0e (by omega)
  rw[e1,e2,Bool.or_false]) (by rw[h1];simpa using h2) ⟨.str ⟨#[c]⟩,H,I.tok _,⟨_,Z⟩,q⟩) hs
theorem Y5b (its:U5)(n j:Nat)(u:W2):Obj.mapSeq (·.setIfInBounds j u) { cls:=.type "list",data:=.seq its.toArray n }={ cls:=.type "list",data:=.seq (its.set j u).toArray n }:=by
 simp[Obj.mapSeq]
theorem Inv.lst {pins:U1}{σ:St}{H:Hp}{s:U7}{p:W9}{xs:List V}(I:Inv X pins σ H s)(h:H p=some (.lst xs)) :
  ∃ (its:U5) (n:Nat),Vals xs its/\s.heap.get? p=some { cls:=.type "list",data:=.seq its.toArray n }/\xs.length<=sizeLine:=by
 obtain⟨z,its,n,r,e⟩:=I.hok p _ h
 exact⟨its,n,r,e,z⟩
theorem Inv.lstUpd {pins:U1}{σ:St}{H:Hp}{s:U7}{p:W9}{xs ys:List V}{its its':U5}{n n':Nat}{f:Obj->Obj}(I:Inv X pins σ H s)(h:H p=some (.lst xs))
  (ho:s.heap.get? p=some { cls:=.type "list",data:=.seq its.toArray n }) (hf:f { cls:=.type "list",data:=.seq its.toArray n }={ cls:=.type "list",data:=.seq its'.toArray n' }) (r:Vals ys its') (hz:ys.length<=sizeLine) (t:Nat) :
  Inv X pins σ (upd H p (.lst ys)) { s with heap:=s.heap.update p f,toks:=t }:=by
 have e:(s.heap.update p f).get? p=some { cls:=.type "list",data:=.seq its'.toArray n' }:=by
  rw[q4h f ho (by rw[hf]<;>rfl),hf]
 refine I.write (x:=p) (e:=p) (by rw[h];trivial) (.inl rfl) (λb u hb q=>(q7s _ _ (Ne.symm hb)).trans q) ⟨_,e⟩ ?_
 exact⟨hz,its',n',r,e⟩
def rSetL:V->V->V->Hp->(Hp->Prop)->Prop:=λo i v H Q=>∃ p xs k j,o=.ref p/\i=.int k/\H p=some (.lst xs)/\ixN xs.length k=some j/\Q (upd H p (.lst (xs.set j v)))
theorem Z6d:PSet X rSetL:=by
 intro pins s σ H o i v ov iv u Q I ro ri rv h
 obtain⟨p,xs,k,j,rfl,rfl,hp,hj,q⟩:=h
 cases ro
 obtain⟨t,rfl⟩:=ri
 obtain⟨its,n,r,ho,hz⟩:=I.lst hp
 obtain⟨h1,h2,h3,h4⟩:=Y8a hj
 have hl:=r.length
 have hn:=line63
 have I':Inv X pins σ (upd H p (.lst (xs.set j v))) { s with heap:=s.heap.update p (Obj.mapSeq (·.setIfInBounds j u)) } :=
  I.lstUpd hp ho (Y5b its n j u) (r.set rv j) (by rw[q7z];exact hz) s.toks
 by_cases h0:0<=k
 ·have hk:k.toNat=j:=by
   rw[seqIndex_of h0 h4] at h1
   exact Option.some.inj h1
  exact PySem.W.ki_setAt ho h0 (by omega) (by rw[q0i,<-hl];exact h4) (by rw[hk];exact⟨_,I',q⟩)
 ·have hk:(k+(its.toArray.size:Int)).toNat=j:=by
   rw[q8r (by omega) h3] at h1
   rw[q0i,<-hl]
   exact Option.some.inj h1
  exact PySem.W.ki_setBack ho (by omega) (by rw[q0i,<-hl];exact h3) (by omega) (by rw[hk];exact⟨_,I',q⟩)
theorem Z9t (lo hi:Option Int)(n:Nat):(sliceBounds lo hi none n).1=((HT.sIx n 0 lo:Nat):Int)/\(sliceBounds lo hi none n).2.1=((HT.sIx n n hi:Nat):Int)/\(sliceBounds lo hi none n).2.2=1:=by
 refine⟨?_,?_,Z⟩
 ·cases lo with
  | none=>simp[sliceBounds,HT.sIx]
  | some i =>
   simp only[sliceBounds,HT.sIx,Option.getD_none,show (1:Int)>0 by decide,q7u]
   by_cases h:i<0
   ·simp only[h,q7u]<;>omega
   ·simp only[h,q7e]<;>omega
 ·cases hi with
  | none=>simp[sliceBounds,HT.sIx]
  | some i =>
   simp only[sliceBounds,HT.sIx,Option.getD_none,show (1:Int)>0 by decide,q7u]
   by_cases h:i<0
   ·simp only[h,q7u]<;>omega
   ·simp only[h,q7e]<;>omega
theorem Z8m (its:U5)(lo hi:Option Int):slicePick its.toArray lo hi none=((its.drop (HT.sIx its.length 0 lo)).take (HT.sIx its.length its.length hi-HT.sIx its.length 0 lo)).toArray:=by
 obtain⟨h1,h2,h3⟩:=Z9t lo hi its.toArray.size
 unfold slicePick
 rw[h1,h2,h3]
 simp only[sliceRange_one,pick_run,q0i]<;>rfl
def rSlL (K:U0):V->Option Int->Option Int->Hp->VK->Prop:=λx lo hi H Q=>∃ a xs,x=.ref a/\SqL K H a xs/\∀ p,H p=none->Q (.ref p) (upd H p (.lst (cutV xs lo hi)))
theorem Z3p:SlR X (rSlL X.K):=by
 intro pins s σ H x v vl vu lo hi sl Q I rx hs pl pu h
 obtain⟨a,xs,rfl,hx,q⟩:=h
 cases rx
 obtain⟨its,r,ht,hz⟩:=I.list hx
 have hlen:=r.length
 refine⟨"list",_,slot_list_getitem.lookup,ht.isList.typeIs,?_⟩
 refine q6z ht.isList hs pl pu .none (by simp) ?_ (by rw[q0i]<;>omega)
 rw[Z8m,<-hlen]
 refine⟨.ref s.heap.objs.size,_,I.laid (t':=s.toks) (o:=.lst (cutV xs lo hi)) (λb ob q=>q0g _ q) (q0f _) ?_,Z,q _ (I.hok.fresh (q0f _))⟩
 exact⟨q0u (Z7i xs lo hi) hz,_,0,(r.drop (HT.sIx xs.length 0 lo)).take (HT.sIx xs.length xs.length hi-HT.sIx xs.length 0 lo),q0r _ rfl⟩
noncomputable def flatV:V->Bool
 | .non=>true
 | .bl _=>true
 | .int _=>true
 | .str _=>true
 | _=>false
noncomputable def eqV:V->V->Bool
 | .non,.non=>true
 | .bl a,.bl b=>a == b
 | .bl a,.int b=>(if a then 1 else 0) == b
 | .int a,.bl b=>a == (if b then 1 else 0)
 | .int a,.int b=>a == b
 | .str a,.str b=>a == b
 | _,_=>false
theorem W0d {A:W6}{s:U7}{y x:V}{u v:W2}(ry:RelV y u)(rx:RelV x v)(fy:flatV y=true)(fx:flatV x=true):SeqAt.EqAt A s u v (eqV y x):=by
 cases y with
 | non =>
  cases ry
  cases x with
  | non=>cases rx;exact SeqAt.EqAt.same _
  | bl b=>cases rx;exact SeqAt.EqAt.none_bool b
  | int b=>obtain⟨t,rfl⟩:=rx;exact SeqAt.EqAt.none_int b t
  | str b=>obtain⟨t,rfl⟩:=rx;exact SeqAt.EqAt.none_str b t
  | _=>exact absurd (show false=true from fx) q0q
 | bl a =>
  cases ry
  cases x with
  | non=>cases rx;exact SeqAt.EqAt.bool_none a
  | bl b=>cases rx;exact SeqAt.EqAt.bool_bool a b
  | int b=>obtain⟨t,rfl⟩:=rx;exact SeqAt.EqAt.bool_int a b t
  | str b=>obtain⟨t,rfl⟩:=rx;exact SeqAt.EqAt.bool_str a b t
  | _=>exact absurd (show false=true from fx) q0q
 | int a =>
  obtain⟨t',rfl⟩:=ry
  cases x with
  | non=>cases rx;exact SeqAt.EqAt.int_none a t'
  | bl b=>cases rx;exact SeqAt.EqAt.int_bool a t' b
  | int b=>obtain⟨t,rfl⟩:=rx;exact SeqAt.EqAt.int_int a t' b t
  | str b=>obtain⟨t,rfl⟩:=rx;exact SeqAt.EqAt.int_str a t' b t
  | _=>exact absurd (show false=true from fx) q0q
 | str a =>
  obtain⟨t',rfl⟩:=ry
  cases x with
  | non=>cases rx;exact SeqAt.EqAt.str_none a t'
  | bl b=>cases rx;exact SeqAt.EqAt.str_bool a t' b
  | int b=>obtain⟨t,rfl⟩:=rx;exact SeqAt.EqAt.str_int a t' b t
  | str b=>obtain⟨t,rfl⟩:=rx;exact SeqAt.EqAt.str_str a t' b t
  | _=>exact absurd (show false=true from fx) q0q
 | _=>exact absurd (show false=true from fy) q0q
noncomputable def eqU (x:V)(u:W2):Bool:=match u with
 | .none=>eqV .non x
 | .bool b=>eqV (.bl b) x
 | .int i _=>eqV (.int i) x
 | .str z _=>eqV (.str z) x
 | _=>false
theorem X3k {x y:V}{u:W2}(r:RelV y u)(f:flatV y=true):eqU x u=eqV y x:=by
 cases y with
 | non=>cases r;rfl
 | bl b=>cases r;rfl
 | int i=>obtain⟨t,rfl⟩:=r;rfl
 | str z=>obtain⟨t,rfl⟩:=r;rfl
 | _=>exact absurd (show false=true from f) q0q
theorem Y2c {x:V}:∀ {xs:List V}{us:U5},Vals xs us->xs.all flatV=true->us.any (eqU x)=xs.any λy=>eqV y x
 | _,_,.nil,_=>rfl
 | y::xs,u::us,.cons r t,f=>by
  rw[q8l,q0m] at f
  rw[q8k,q8k,X3k r f.1,Y2c t f.2]
theorem Z8u {A:W6}{s:U7}{x:V}{v:W2}(rx:RelV x v)(fx:flatV x=true):∀ {xs:List V}{us:U5},Vals xs us->xs.all flatV=true->∀ u∈us,SeqAt.EqAt A s u v (eqU x u)
 | _,_,.nil,_=>λu hu=>by cases hu
 | y::xs,u::us,.cons r t,f=>λu' hu=>by
  rw[q8l,q0m] at f
  rcases q0p.mp hu with rfl | hu
  ·rw[X3k r f.1];exact W0d r rx f.1 fx
  ·exact Z8u rx fx t f.2 u' hu
noncomputable def inV (x:V)(xs:List V):Bool:=xs.any λy=>eqV y x
def rIn (K:U0)(neg:Bool):R2:=λx y H Q=>∃ p xs,y=.ref p/\(SqL K H p xs∨SqT K H p xs)/\flatV x=true/\xs.all flatV=true/\Q (.bl (if neg then !inV x xs else inV x xs)) H
theorem Z6y:OpR X (compareOp .In) (rIn X.K false):=by
 intro pins s σ H x y v u Q I rx ry h
 obtain⟨p,xs,rfl,hq,fx,fs,q⟩:=h
 cases ry
 rcases hq with hq | hq
 ·obtain⟨its,r,pl,hz⟩:=I.list hq
  refine SeqAt.in_listAt (eqU x) pl.isList (λw hw=>Z8u rx fx r fs w (by simpa using hw)) ⟨.bl _,H,I,Z,?_⟩
  rw[show its.toArray.any (eqU x)=its.any (eqU x) by simp,Y2c r fs]
  exact q
 ·obtain⟨its,r,pl,hz⟩:=I.tuple hq
  refine SeqAt.in_tupleAt (eqU x) pl (λw hw=>Z8u rx fx r fs w (by simpa using hw)) ⟨.bl _,H,I,Z,?_⟩
  rw[show its.toArray.any (eqU x)=its.any (eqU x) by simp,Y2c r fs]
  exact q
theorem Z0u:CallR X (.builtin "len") (λxs H Q=>∃ p ys,xs=[.ref p]/\(SqL X.K H p ys∨SqT X.K H p ys)/\Q (.int ys.length) H):=by
 intro pins s σ H xs us Q I r h
 obtain⟨p,ys,rfl,hq,q⟩:=h
 obtain⟨u,rfl,rx⟩:=vals1 r
 cases rx
 have hn:=line63
 rcases hq with hq | hq
 ·obtain⟨its,r',pl,hz⟩:=I.list hq
  have hlen:=r'.length
  exact Calls.call_len_list pl.isList (by simp only[q0i]<;>omega) ⟨.int ys.length,H,I.tok _,⟨s.toks+1,by rw[q0i,hlen]⟩,q⟩
 ·obtain⟨its,r',pl,hz⟩:=I.tuple hq
  have hlen:=r'.length
  exact len_tuple pl (by simp only[q0i]<;>omega) ⟨.int ys.length,H,I.tok _,⟨s.toks+1,by rw[q0i,hlen]⟩,q⟩
theorem Z3b:CallR X (.type "list") (λxs H Q=>∃ p ys,xs=[.ref p]/\(SqL X.K H p ys∨SqT X.K H p ys)/\∀ l,H l=none->Q (.ref l) (upd H l (.lst ys))):=by
 intro pins s σ H xs us Q I r h
 obtain⟨p,ys,rfl,hq,q⟩:=h
 obtain⟨u,rfl,rx⟩:=vals1 r
 cases rx
 have fin:∀ (its:U5),Vals ys its->ys.length<=sizeLine->∀ (h':Heap) (c':Nat),(∀ b o',s.heap.get? b=some o'->h'.get? b=some o') →
   h'.get? s.heap.objs.size=some { cls:=.type "list",dict:=none,data:=.seq its.toArray c',slots:=#[] }->EP X pins σ Q (.ref s.heap.objs.size) { s with heap:=h' }:=λits r' hz h' c' kp e =>
  ⟨.ref s.heap.objs.size,_,I.laid (t':=s.toks) kp (q0f _) (show ObjOk X.prog X.w _ h' _ (.lst ys) from ⟨hz,its,c',r',e⟩),Z,q _ (I.hok.fresh (q0f _))⟩
 rcases hq with hq | hq
 ·obtain⟨its,r',pl,hz⟩:=I.list hq
  have hlen:=r'.length
  obtain⟨o,ho,hc,n,hd⟩:=pl.isList
  exact call_list_seq p (.inl rfl) ho hc hd (λh' c' kp e=>fin its r' hz h' c' kp e) (by simp only[q0i]<;>omega)
 ·obtain⟨its,r',pl,hz⟩:=I.tuple hq
  have hlen:=r'.length
  obtain⟨o,ho,hc,n,hd⟩:=pl
  exact call_list_seq p (.inr rfl) ho hc hd (λh' c' kp e=>fin its r' hz h' c' kp e) (by simp only[q0i]<;>omega)
def tyV (K:U0)(T:String)(x:V)(H:Hp):Prop:=match x with
 | .str _=>T="str"
 | .int _=>T="int"
 | .ref p=>(T="list"/\∃ xs,SqL K H p xs)∨(T="tuple"/\∃ o,K.lookup p=some o/\o.cls=.type "tuple"/\o.dict=none) ∨
   (T="dict"/\((∃ kvs,H p=some (.dK kvs))∨∃ kvs,H p=some (.dT kvs)))∨(T="set"/\∃ S n,H p=some (.set S n))
 | _=>False
theorem X2k {pins:U1}{σ:St}{H:Hp}{s:U7}{T:String}{x:V}{v:W2}(I:Inv X pins σ H s)(r:RelV x v)(ty:tyV X.K T x H) :
  s.TypeIs v T/\∀ a,v=.ref a->∃ ob,s.heap.get? a=some ob/\ob.dict=none:=by
 cases x with
 | str z =>
  obtain⟨t,rfl⟩:=r
  cases (show T="str" from ty)
  exact⟨typeIs_str s z t,λ_ e=>nomatch e⟩
 | int i =>
  obtain⟨t,rfl⟩:=r
  cases (show T="int" from ty)
  exact⟨q8m s i t,λ_ e=>nomatch e⟩
 | ref p =>
  cases r
  rcases ty with ⟨rfl,xs,hq⟩ | ⟨rfl,o,hk,hc,hd⟩ | ⟨rfl,hk⟩ | ⟨rfl,S,n,hk⟩
  ·obtain⟨its,_,pl,_⟩:=I.list hq
   refine⟨pl.isList.typeIs,λa e=>?_⟩
   cases e
   obtain⟨o,n,e,c,hd,_⟩:=pl
   exact⟨o,e,hd⟩
  ·refine⟨⟨o,I.kIn p o hk,hc⟩,λa e=>?_⟩
   cases e
   exact⟨o,I.kIn _ o hk,hd⟩
  ·have z:∃ o,s.heap.get? p=some o/\o.ExactDict:=by
    rcases hk with ⟨kvs,hk⟩ | ⟨kvs,hk⟩
    ·obtain⟨_,_,_,_,o,_,_,e,ex,_⟩:=I.hok p _ hk
     exact⟨o,e,ex⟩
    ·obtain⟨_,_,_,_,o,_,_,e,ex,_⟩:=I.hok p _ hk
     exact⟨o,e,ex⟩
   obtain⟨o,e,ex⟩:=z
   refine⟨⟨o,e,ex.1⟩,λa e2=>?_⟩
   cases e2
   exact⟨o,e,ex.2.1⟩
  ·obtain⟨o,_,_,_,e,ex,_⟩:=I.hok p _ hk
   refine⟨⟨o,e,ex.1⟩,λa e2=>?_⟩
   cases e2
   exact⟨o,e,ex.2.1⟩
 | _=>exact False.elim ty
def tBM0 (K:U0)(T:String)(r:V->List V->Hp->VK->Prop)(to:TE):TE:=λσ H Q=>to σ H λx H1=>tyV K T x H1/\r x [] H1 Q
def tBM (K:U0)(T:String)(r:V->List V->Hp->VK->Prop)(to:TE)(t:TA):TE:=λσ H Q=>to σ H λx H1=>tyV K T x H1/\t σ H1 λxs H2=>r x xs H2 Q
variable {o e:Expr}{es:List Expr}{to:TE}{t:TA}{name:Str}{apos cpos:Pos}{T id:String}{r:V->List V->Hp->VK->Prop}
theorem Y3f (pa:PlainAttrs T)(slot:Slot T name id)(hty:typeOf (.builtin id)=pure (.type "method_descriptor"))(hm:MtR X id r)(ho:PE X o to)
  (hbase:attributeBase o name X.env (eval o X.env)=eval o X.env:=by rfl) (hline:(apos.endLine == cpos.line)=true:=by rfl):PE X (.Call (.Attribute o name apos) [] [] cpos) (tBM0 X.K T r to):=by
 intro pins s σ H Q I h
 refine wpAny_Call_method0_late hbase hline (thn (ho pins s σ H _ I h) λv s1 ⟨x,H1,I1,r1,ty,q1⟩=>?_)
 obtain⟨h1,h2⟩:=X2k I1 r1 ty
 exact⟨T,id,pa,slot,hty,h1,h2,Calls.callWith_builtin rfl (PySem.evalArgs_none (hm pins s1 σ H1 x [] v [] Q I1 r1 .nil q1))⟩
theorem Z6a (pa:PlainAttrs T)(slot:Slot T name id)(hty:typeOf (.builtin id)=pure (.type "method_descriptor"))(hm:MtR X id r)(ho:PE X o to)(ha:PA X (e::es) t)
  (hbase:attributeBase o name X.env (eval o X.env)=eval o X.env:=by rfl)
  (hfew:((backTo cpos (starEach (e::es) X.env)).all (λx=>!x.1) && (backToKw cpos (keywordEach [] X.env)).all (λx=>x.1.isSome)
   && decide ((e::es).length+([]:List Keyword).length+(if ([]:List Keyword).isEmpty then 0 else 1)<30))=true:=by rfl)
  (hline:(apos.endLine == cpos.line)=true:=by rfl) (hs:starEach (e::es) X.env=(false,eval e X.env)::starEach es X.env:=by rfl) (hplain:(backTo cpos (starEach es X.env)).any (·.1)=false:=by rfl) :
  PE X (.Call (.Attribute o name apos) (e::es) [] cpos) (tBM X.K T r to t):=by
 intro pins s σ H Q I h
 refine wpAny_Call_method_late hbase hfew hline rfl (thn (ho pins s σ H _ I h) λv s1 ⟨x,H1,I1,r1,ty,q1⟩=>?_)
 obtain⟨h1,h2⟩:=X2k I1 r1 ty
 refine⟨T,id,pa,slot,hty,h1,h2,?_⟩
 have hA:=ha cpos pins s1 σ H1 _ I1 q1
 rw[hs] at hA ⊢
 refine Calls.callWith_builtin (by show (false || (backTo cpos (starEach es X.env)).any (·.1))=false;rw[hplain]<;>rfl) (Calls.evalArgs_plain ?_)
 exact thn hA λus s2 ⟨vs,H2,I2,r2,q2⟩=>hm pins s2 σ H2 x vs v us Q I2 r1 r2 q2
end
def MtM (X:Cx)(id:String)(r:V->List V->Hp->VK->Prop):Prop :=
 ∀ (pins:U1) (s:U7) (σ:St) (H:Hp) (x:V) (xs:List V) (v:W2) (us:U5) (Q:VK),Inv X pins σ H s->RelV x v->Vals xs us->r x xs H Q →
  wpAny (model X.prog X.w) X.A (call (.builtin id) (v::us)) (EP X pins σ Q) X.xe s
theorem Vals.one {x:V}{us:U5}(h:Vals [x] us):∃ u,us=[u]/\RelV x u:=by
 cases h with
 | cons r t=>cases t;exact⟨_,rfl,r⟩
theorem Vals.two {x y:V}{us:U5}(h:Vals [x,y] us):∃ u v,us=[u,v]/\RelV x u/\RelV y v:=by
 cases h with
 | cons r t=>cases t with
  | cons q t=>cases t;exact⟨_,_,rfl,r,q⟩
theorem Vals.rep {xs:List V}{us:U5}(h:Vals xs us):∀ k:Nat,Vals (List.replicate k xs).flatten (List.replicate k us).flatten
 | 0=>.nil
 | k+1=>by
  rw[q3w,q3w,q5k,q5k]
  exact Vals.append h (Vals.rep h k)
theorem Y0l (its:U5):∀ (k:Nat) (acc:U5),
  List.foldl (λx1 x2=>x1++x2) acc.toArray (List.replicate k its.toArray)=(acc++(List.replicate k its).flatten).toArray
 | 0,acc=>by simp
 | k+1,acc=>by
  have e:acc.toArray++its.toArray=(acc++its).toArray:=by simp
  have e2:(acc++its)++(List.replicate k its).flatten=acc++(List.replicate (k+1) its).flatten:=by
   rw[q3w,q5k,q1u]
  rw[<-e2,<-Y0l its k (acc++its),<-e,q3w,List.foldl_cons]
section
variable {X:Cx}{pins:U1}{σ:St}{H:Hp}{s:U7}{l b:W9}{xs ys zs:List V}
theorem Inv.lset {its its':U5}{n:Nat}{f:Array Value->Array Value}{t':Nat}(I:Inv X pins σ H s)(hH:H l=some (.lst xs))
  (e:s.heap.get? l=some { cls:=.type "list",data:=.seq its.toArray n }) (hf:f its.toArray=its'.toArray) (hv:Vals ys its') (hz:ys.length<=sizeLine) :
  Inv X pins σ (upd H l (.lst ys)) { s with heap:=s.heap.update l (Obj.mapSeq f),toks:=t' }:=by
 have q:=PySem.IsL.update e f
 rw[hf] at q
 refine I.write (x:=l) (e:=l) (by rw[hH];exact trivial) (.inl rfl) (λb' u hb hu=>(q7s s.heap (Obj.mapSeq f) (Ne.symm hb)).trans hu) ⟨_,q⟩ ?_
 exact⟨hz,its',_,hv,q⟩
theorem Inv.lnew {its:U5}{t':Nat}(I:Inv X pins σ H s)(hv:Vals ys its)(hz:ys.length<=sizeLine) :
  Inv X pins σ (upd H s.heap.objs.size (.lst ys)) { s with heap:=s.heap.push { cls:=.type "list",data:=.seq its.toArray },toks:=t' } :=
 I.laid (λ_ _ q=>q0g _ q) (q0f _) ⟨hz,its,0,hv,q0r _ rfl⟩
theorem Inv.fresh (I:Inv X pins σ H s):H s.heap.objs.size=none:=I.hok.fresh (q0f _)
theorem Inv.lstM (I:Inv X pins σ H s)(hH:H l=some (.lst xs)):xs.length<=sizeLine/\∃ (its:U5) (n:Nat),Vals xs its/\xs.length=its.length/\s.heap.get? l=some { cls:=.type "list",data:=.seq its.toArray n }:=by
 obtain⟨z,its,n,r,e⟩:=I.hok l _ hH
 exact⟨z,its,n,r,r.length,e⟩
theorem Y3k {n:Nat}(h:n<=sizeLine):Builtin.List.listTooLong n=false:=by
 unfold Builtin.List.listTooLong
 exact q0e (by omega)
end
section
variable {X:Cx}
def X4k:V->List V->Hp->VK->Prop:=λx vs H Q=>∃ l xs y,x=.ref l/\vs=[y]/\H l=some (.lst xs)/\xs.length<sizeLine/\Q .non (upd H l (.lst (xs++[y])))
theorem Z2j:MtM X "list.append" X4k:=by
 intro pins s σ H x vs v us Q I rx rv h
 obtain⟨l,xs,y,rfl,rfl,hH,hz,q⟩:=h
 cases rx
 obtain⟨u,rfl,ru⟩:=rv.one
 obtain⟨z,its,n,r,hl,e⟩:=I.lstM hH
 refine q8n F.slot_list_append ⟨_,e,Z⟩ F.entry_list_append (F.args_list_append_2 _ _) (PySem.list_append l its.toArray n u (by rw[q0i];omega)) ⟨e,?_⟩
 refine⟨.non,_,I.lset (its':=its++[u]) hH e (by simp) (r.append (.cons ru .nil)) ?_,Z,q⟩
 rw[q0c,q5t]
 omega
def X4j:V->List V->Hp->VK->Prop:=λx vs H Q=>∃ l b xs zs,x=.ref l/\vs=[.ref b]/\H l=some (.lst xs)/\H b=some (.lst zs)/\xs.length+zs.length<=sizeLine/\Q .non (upd H l (.lst (xs++zs)))
theorem Z4e:MtM X "list.extend" X4j:=by
 intro pins s σ H x vs v us Q I rx rv h
 obtain⟨l,b,xs,zs,rfl,rfl,hH,hB,hz,q⟩:=h
 cases rx
 obtain⟨u,rfl,ru⟩:=rv.one
 cases ru
 obtain⟨z,its,n,r,hl,e⟩:=I.lstM hH
 obtain⟨z2,its2,n2,r2,hl2,e2⟩:=I.lstM hB
 have hsz:its.toArray.size+its2.toArray.size<=sizeLine:=by rw[q0i,q0i];omega
 have hlong:¬ (!its.toArray.isEmpty && Builtin.List.listTooLong (its.toArray.size+its2.toArray.size))=true:=by
  rw[Y3k hsz,q6y]
  exact q0q
 refine q8n F.slot_list_extend ⟨_,e,Z⟩ F.entry_list_extend (F.args_list_extend_2 _ _)
  (AutoSeq1.list_extend_list_list_0 l its.toArray n b its2.toArray n2 hlong (by rw[q0i];omega) (by omega)) ⟨e,e2,?_⟩
 refine⟨.non,_,I.lset (its':=its++its2) hH e (by simp) (r.append r2) ?_,Z,q⟩
 rw[q0c]
 omega
def rCat:R2:=λx y H Q=>∃ l b xs zs,x=.ref l/\y=.ref b/\H l=some (.lst xs)/\H b=some (.lst zs)/\xs.length+zs.length<=sizeLine/\∀ p,H p=none->Q (.ref p) (upd H p (.lst (xs++zs)))
theorem Z6z:OpR X (binaryOp .Add) rCat:=by
 intro pins s σ H x y v u Q I rx ry h
 obtain⟨l,b,xs,zs,rfl,rfl,hH,hB,hz,q⟩:=h
 cases rx
 cases ry
 obtain⟨z,its,n,r,hl,e⟩:=I.lstM hH
 obtain⟨z2,its2,n2,r2,hl2,e2⟩:=I.lstM hB
 refine PySem.P.add_list e e2 ?_ (by rw[q0i,q0i];omega)
 have ea:its.toArray++its2.toArray=(its++its2).toArray:=by simp
 rw[ea]
 exact⟨.ref _,_,I.lnew (t':=s.toks) (r.append r2) (by rw[q0c];omega),Z,q _ I.fresh⟩
theorem X6h {α:Type}(xs:List α)(k:Nat):(List.replicate k xs).flatten.length=k*xs.length:=by
 induction k with
 | zero=>simp
 | succ k ih=>rw[q3w,q5k,q0c,ih,Nat.succ_mul,q6v]
end
section
variable {prog:U8}{w:W1}{A:W6}{E:U2}{s:U7}
end
section
variable {X:Cx}
end
end L2
namespace Att
open PySem.W PySem.Calls
theorem Z7g {P:Params}{h:Heap}:∀ (ns:U6) (vs:U5),WellAll P h vs (ns.map WData.int)->IntsAre vs ns:=by
 intro ns
 induction ns with
 | nil =>
  intro vs w
  rw[q5s] at w
  cases w
  exact .nil
 | cons n ns ih =>
  intro vs w
  rw[q1s] at w
  cases w with
  | cons a b =>
   cases a
   exact .cons _ _ (ih _ b)
theorem Y6g {l:OpenLaw}{n:Nat}(hn:l.most=some n){P:Params}{h:Heap}{args:List WData}{vals:U5}
  (hpre:l.row.toRowW.claim.pre args=true) (hwl:WellAll P h vals args) :
  ∃ a vs ns,vals=[Value.ref a]/\args=[WData.list (ns.map WData.int)]/\h.get? a=some { cls:=.type "list",data:=.seq vs.toArray }/\IntsAre vs ns/\ns.length<=n:=by
 have hsh:WShape.hasAll [] args [.list .int]=true:=(pre_splitW hpre).1
 have hc:l.pre.holds [] { args:=args }=true:=(pre_splitW hpre).2
 obtain⟨d,r,rfl,h1,h2⟩:=hasAllW_cons hsh
 obtain rfl:=hasAllW_nil h2
 obtain⟨xs,rfl,h3⟩:=hasW_list h1
 obtain⟨ns,rfl⟩:=items_int h3
 have hlen:ns.length<=n:=by
  unfold OpenLaw.pre at hc
  have h4:(WTm.not (.lt (.lit (.int (n:Int))) (.len (.arg 0)))).holds [] { args:=[.list (ns.map .int)] }=true:=by
   have h4:=(holds_andW hc).1
   rw[hn] at h4
   exact h4
  have h5:=condW_of h4 (w_not (w_lt w_lit (w_len_list (w_arg rfl))))
  rw[q0a] at h5
  refine q5v λq=>?_
  have q':(n:Int)<((ns.length:Nat):Int):=by omega
  first
   | (rw[q0j q'] at h5;exact absurd h5 (by decide))
   | (simp at h5;omega)
 cases hwl with
 | cons w1 w2 =>
  cases w2
  cases w1 with
  | list ho hall=>exact⟨_,_,ns,rfl,rfl,ho,Z7g ns _ hall,hlen⟩
theorem Y6q (l:OpenLaw)(args:List WData):l.row.toRowW.claim.post args (.bool true) args=true :=
 postW_of (r:=l.row.toRowW) (X:=(true == true))
  (show WShape.has [] (.bool true) .bool=true by first | rfl | decide | simp[WShape.has,WShape.arms,WShape.armsAll])
  (show (WTm.eq .res (.lit (.bool true))).value [] { args:=args,res:=some (.bool true),after:=args }=some (.bool (true == true)) from w_eq_bool (w_res rfl) w_lit) rfl
section
variable {prog:U8}{w:W1}{A:W6}{E:U2}{s:U7}{K:Frag}
end
end Att
namespace L2
theorem Z9k:∀ {vs:U5}{ns:U6},IntsAre vs ns->Vals (ns.map V.int) vs
 | _,_,.nil=>.nil
 | _,_,.cons n t h=>.cons ⟨t,rfl⟩ (Z9k h)
def Only (H:Hp):Prop:=∀ b,H b=none∨∃ o xs,H b=some (.frz o (.lst xs))
theorem X1q {P:U8}{w:W1}{K:U0}{mg mb:U4}{CX:CXT}{k:Nat}{fa a:W9}{fd:FuncData}{x:Str}{sp:Sp}{s₁:U7}{vs:U5}{ns:U6}
  (KX:K.In s₁.heap) (hns:s₁.heap.Ns mainGlobals mg) (hb:s₁.heap.Ns builtinsNs mb) (hbb:∀ x:Str,x≠"__name__"->mb x=bootBuiltins x) (hlim:s₁.heap.NoLimit) (hg:s₁.gens=#[])
  (ha:s₁.heap.get? a=some { cls:=.type "list",data:=.seq vs.toArray }) (hi:IntsAre vs ns) (hl:ns.length<=sizeLine) (hr:Room k callerA)
  (F:∀ base:Heap,K.In base->base.Ns mainGlobals mg->FnOk P w K mg base CX k fa fd [x] sp) (hbind:∀ (s:U7) (u:W2),BindsTo s fd ⟨[u],[]⟩ [(x,u)])
  (hsp:∀ H:Hp,Only H->SqL K H a (ns.map V.int)->sp [.ref a] H (λv _=>v=.bl true) λ_ _ _=>False)
  (hCX:∀ H e s',CX [] H s₁ (λ_ _ _=>False) e s'->False) :
  codeAny (model P w) callerA (.call (.ref fa) ⟨[.ref a],[]⟩) (λr s'=>r=.ok (.ret (.bool true))/\OldK s₁.heap s'.heap/\s'.os=s₁.os/\AllBare s'.gens) s₁:=by
 have rv:=Z9k hi
 have lenV:=hi.length
 have core:∀ H:Hp,Only H->SqL K H a (ns.map V.int)->HOk P w H s₁.heap->(∀ b,H b≠none->b=a)->(H a≠none->K.lookup a=none) →
   codeAny (model P w) callerA (.call (.ref fa) ⟨[.ref a],[]⟩) (λr s'=>r=.ok (.ret (.bool true))/\OldK s₁.heap s'.heap/\s'.os=s₁.os/\AllBare s'.gens) s₁:=by
  intro H hO hS hok hA hK
  have base_of:∀ {b:W9}{o:Obj},s₁.heap.get? b=some o->H b=none->(hidT s₁.heap H).get? b=some o:=λe n=>X1t e n
  have noA:∀ {b:W9}{o:Obj}{es:Array DictEntry}{ep:Nat},s₁.heap.get? b=some o->o.data=.dict es ep->H b=none:=λ{b o es ep} e d=>by
   cases q:H b with
   | none=>rfl
   | some u =>
    have e':b=a:=hA b (by rw[q];simp)
    subst e'
    rw[ha] at e;cases e
    have d':Data.seq vs.toArray _=Data.dict es ep:=d
    cases d'
  have nsK:∀ {b:W9}{m:U4},s₁.heap.Ns b m->(hidT s₁.heap H).Ns b m:=λ{b m} ⟨o,es,ep,e,d,r⟩=>⟨o,es,ep,base_of e (noA e d),d,r⟩
  have hKb:K.In (hidT s₁.heap H):=λb o e=>base_of (KX b o e) (by
   cases q:H b with
   | none=>rfl
   | some u =>
    have e':b=a:=hA b (by rw[q];simp)
    subst e'
    rw[hK (by rw[q];simp)] at e;cases e)
  have hM:Mod K mg (hidT s₁.heap H):=⟨hKb,nsK hns,⟨mb,nsK hb,hbb⟩,let ⟨mc,h1,h2⟩:=hlim;⟨mc,nsK h1,h2⟩⟩
  have e0:Env0 P w K mg (hidT s₁.heap H) callerA [] s₁ H:=⟨Z,hM,λb o e=>X5t e,Nat.le_of_eq (Y8k _ _),trivial,λb hb=>absurd (show b∈([]:U3) from hb) (by simp),hok,.of_eq hg⟩
  refine q6p ((F _ hKb (nsK hns)).run callerA [] s₁ H ⟨[.ref a],[]⟩ [.ref a] [.ref a] _ _ hr e0 (hbind s₁ (.ref a)) (.cons rfl .nil) (hsp H hO hS)) λr s' h=>?_
  cases r with
  | error e=>exact(hCX H e s' h).elim
  | ok fl =>
   cases fl with
   | next=>exact False.elim h
   | brk=>exact False.elim h
   | cont=>exact False.elim h
   | ret u =>
    obtain⟨v,H',os,bare,un,hok',r',q⟩:=h
    have q':v=.bl true:=q
    subst q'
    obtain rfl:u=Value.bool true:=r'
    refine⟨Z,OldK.of_keep λb o e=>?_,os,bare⟩
    cases q:H b with
    | none=>exact un.keep b o e q (by intro z;exact absurd (show b∈([]:U3) from z) (by simp)) (by simp)
    | some u =>
     rcases hO b with z | ⟨ob,xs,z⟩
     ·rw[q] at z;cases z
     ·have z2:=un.frzs b ob _ z
      obtain⟨e1,_⟩:=hok b _ z
      obtain⟨e2,_⟩:=hok' b _ z2
      rw[e] at e1;cases e1
      exact e2
 cases hk:K.lookup a with
 | some o =>
  have e:=KX a o hk
  rw[ha] at e
  cases e
  refine core (λ_=>none) (λ_=>.inl rfl) (.inr ⟨_,vs.toArray,_,hk,Z,Z,Z,by rw[q0i,lenV];exact hl,by simpa using rv⟩) (λb u z=>by have z':(none:Option HO)=some u:=z;cases z') (λb z=>absurd rfl z) λz=>absurd rfl z
 | none =>
  refine core (λb=>if b=a then some (.frz { cls:=.type "list",data:=.seq vs.toArray } (.lst (ns.map V.int))) else none) (λb=>?_) (.inl (.inr ⟨{ cls:=.type "list",data:=.seq vs.toArray },if_pos rfl⟩)) (λb u z=>?_) (λb z=>?_) λ_=>hk
  ·by_cases hb:b=a
   ·exact .inr ⟨_,_,if_pos hb⟩
   ·exact .inl (if_neg hb)
  ·by_cases hb:b=a
   ·have z':=(if_pos hb).symm.trans z
    cases z'
    subst hb
    exact⟨ha,by rw[q0a];exact hl,vs,_,rv,ha⟩
   ·have z':=(if_neg hb).symm.trans z
    cases z'
  ·by_cases hb:b=a
   ·exact hb
   ·exact absurd (if_neg hb) z
end L2
namespace L2
noncomputable def Y8g (s:Stmt)(j:Nat):Stmt:=match s with
 | .ClassDef _ _ _ body _ _ _ _ _ _ _=>body.getD j (.Pass ⟨0,0,0,0⟩)
 | _=>.Pass ⟨0,0,0,0⟩
noncomputable def Z1n (s:Stmt):Arguments:=match s with
 | .FunctionDef _ a _ _ _ _ _ _ _ _=>a
 | _=>{ posonlyargs:=[],args:=[],vararg:=none,kwonlyargs:=[],kw_defaults:=[],kwarg:=none,defaults:=[] }
noncomputable def Z1j (s:Stmt):List Stmt:=match s with
 | .FunctionDef _ _ b _ _ _ _ _ _ _=>b
 | _=>[]
noncomputable def Z0h (s:Stmt):Scope:=match s with
 | .FunctionDef _ _ _ _ _ _ sc _ _ _=>sc
 | _=>{ kind:=.function,names:=[],isGenerator:=false,isCoroutine:=false }
noncomputable abbrev CX0:CXT:=λ_ _ _ _ _ _=>False
abbrev E0:XK:=λ_ _ _=>False
theorem pass0 {X:Cx}:Passes CX0 X E0:=λ_ _ _ _ _ _ _ h=>h.elim
structure Fun (K:U0) (x qual:Str) (st:Stmt) (f:W9) (fd:FuncData):Prop where
 ex:∃ (oc:W2) (od:W5) (kV doc pm:W2) (an:W5) (cdv ct:W2) (osl:W4),
  fd=PySem.W.fnOf x qual (Z1n st) (Z1j st) (Z0h st) .none kV doc pm an cdv ct/\K.lookup f=some ⟨oc,od,.func fd,osl⟩/\PySem.W.codeIn K cdv qual=true
 kp:PySem.W.keepIn K (.ref f)=true
section
variable {P:U8}{w:W1}{K:U0}{mg:U4}{base:Heap}
theorem Fun.ok {x qual:Str}{st:Stmt}{f:W9}{fd:FuncData}{N ps:W0}{k:Nat}{sp:Sp}(F:Fun K x qual st f fd)(S:FnScope N ps (Z0h st))(len:∀ vs H Q E,sp vs H Q E->vs.length=ps.length)
  (hbody:∀ (cdv:W2) (A:W6) (outer:List Env) (s:U7) (H:Hp) (vs:List V) (Q:VK) (E:XK),Room k (A.deeper (envOfC qual (Z0h st) s.heap.objs.size f cdv))->sp vs H Q E →
   ∃ t,PSs (cxOf CX0 P w K mg base N qual (Z0h st) f cdv A outer s H E).nox (Z1j st) t/\t { nx:=λ_ H'=>Q .non H',rt:=Q } (start N vs) H):FnOk P w K mg base CX0 (k+1) f fd ps sp:=by
 obtain⟨oc,od,kV,doc,pm,an,cdv,ct,osl,rfl,lk,hcd⟩:=F.ex
 refine X9z lk hcd S len λA outer s H vs Q E hr hsp=>?_
 obtain⟨t,h,q⟩:=hbody cdv A outer s H vs Q E hr hsp
 exact⟨t,h.nox,q⟩
theorem X9y {x qual:Str}{st:Stmt}{f:W9}{oc:W2}{od an:W5}{osl:W4}{kV doc pm cdv ct:W2}(l:K.lookup f=some ⟨oc,od,.func (PySem.W.fnOf x qual (Z1n st) (Z1j st) (Z0h st) .none kV doc pm an cdv ct),osl⟩)
  (c:PySem.W.codeIn K cdv qual=true) (k:PySem.W.keepIn K (.ref f)=true):Fun K x qual st f (PySem.W.fnOf x qual (Z1n st) (Z1j st) (Z0h st) .none kV doc pm an cdv ct):=⟨⟨oc,od,kV,doc,pm,an,cdv,ct,osl,Z,l,c⟩,k⟩
end
section
variable {X:Cx}
theorem pv (i:Nat){x:Str}{pos:Pos}(hN:X.N[i]?=some x:=by rfl)(hv:Vis X.env.scope x:=by first | exact Or.inl rfl | exact Or.inr (Or.inl rfl) | exact Or.inr (Or.inr rfl))(hd:(x == ("__debug__":Str))=false:=by decide)
  (hcd:(x == ("__classdict__":Str))=false:=by decide):PE X (.Name x pos) (tVar i):=X8b hN hv hd hcd
end
theorem iteF {A B:Prop}(h:B):if false=true then A else B:=by
 rw[if_neg q0q]
 exact h
theorem iteT {A B:Prop}(h:A):if true=true then A else B:=by
 rw[if_pos rfl]
 exact h
def Same (H H':Hp):Prop:=∀ b o,H b=some o->H' b=some o
theorem Same.refl (H:Hp):Same H H:=λ_ _ h=>h
theorem Same.trans {H H1 H2:Hp}(a:Same H H1)(b:Same H1 H2):Same H H2:=λc o h=>b c o (a c o h)
theorem Same.free {H H':Hp}(e:Same H H'){l:W9}(h:H' l=Option.none):H l=Option.none:=by
 cases q:H l with
 | none=>rfl
 | some o =>
  rw[e l o q] at h
  cases h
theorem Same.seq {K:U0}{H H':Hp}{a:W9}{xs:List V}(e:Same H H')(h:SqL K H a xs):SqL K H' a xs:=by
 rcases h with (h | ⟨o,h⟩) | h
 ·exact .inl (.inl (e _ _ h))
 ·exact .inl (.inr ⟨o,e _ _ h⟩)
 ·exact .inr h
end L2
set_option maxHeartbeats 4000000
namespace L2
def Sz (k:Nat)(x:Int):Prop:=x.natAbs<2^k
instance (k:Nat) (x:Int):Decidable (Sz k x):=by unfold Sz;infer_instance
theorem Sz.mono {j k:Nat}{x:Int}(h:Sz j x)(hjk:j<=k):Sz k x:=q0l h (q1z (by decide) hjk)
theorem Sz.le {k:Nat}{x y:Int}(h:Sz k x)(hy:y.natAbs<=x.natAbs):Sz k y:=q2d hy h
theorem Sz.mul {j k:Nat}{x y:Int}(h:Sz j x)(h':Sz k y):Sz (j+k) (x*y):=by
 unfold Sz at *
 rw[Int.natAbs_mul,Nat.pow_add]
 exact Nat.mul_lt_mul'' h h'
theorem Sz.neg {k:Nat}{x:Int}(h:Sz k x):Sz k (-x):=by unfold Sz at *;rwa [Int.natAbs_neg]
theorem Sz.add {j k:Nat}{x y:Int}(h:Sz j x)(h':Sz k y):Sz (max j k+1) (x+y):=by
 have h1:=h.mono (Nat.le_max_left j k)
 have h2:=h'.mono (Nat.le_max_right j k)
 unfold Sz at *
 rw[q8s]
 have:=Int.natAbs_add_le x y
 omega
theorem Sz.bits {k:Nat}{x:Int}(h:Sz k x):Builtin.Int.intBits x<=k:=by
 unfold Builtin.Int.intBits
 split
 ·exact q1e _
 ·rename_i hx
  have hx':x≠0:=by simpa using hx
  have hn:x.natAbs≠0:=by omega
  exact(Nat.log2_lt hn).mpr h
theorem Sz.log2 {k:Nat}{x:Int}(h:Sz k x)(hk:0<k):x.natAbs.log2<k:=by
 by_cases hn:x.natAbs=0
 ·rw[hn];simpa using hk
 ·exact(Nat.log2_lt hn).mpr h
def CDivS (_i j:Int):Prop:=j≠0/\Sz 9000 j
section
variable {X:Cx}
theorem Y3h:OpR X (binaryOp .FloorDiv) (rI CDivS λi j=>.int (i.fdiv j)):=opI λ_ _ _ _ _ _ _ hc q=>floordiv_int hc.1 q (.inl (PyProof.noPylong_of_log2 (hc.2.log2 (by decide))))
theorem Z3i {h:Heap}{a:W9}{vs:U5}{ns:U6}(hl:IsTup h a vs.toArray)(hi:IntsAre vs ns):Reads h (.ref a) (.tuple (ns.map PyData.int)) []:=by
 obtain⟨o,ho,hc,n,hd⟩:=hl
 exact Reads.tuple ho hc hd (by simpa using q7a hi)
theorem Z3q (ns:U6):SeqAt.shaped (.tuple (ns.map PyData.int))=true:=by
 have h1:=q5m ns
 have h2:PyData.depth (.tuple (ns.map PyData.int))<=64:=by simp only[PyData.depth];omega
 show (PyData.canLay0 (.tuple (ns.map PyData.int)) && decide (PyData.depth (.tuple (ns.map PyData.int))<=64))=true
 rw[q0m]
 exact⟨by simp only[PyData.canLay0];exact q5d ns,q0j h2⟩
def rEqTI (K:U0)(neg:Bool):R2:=λx y H Q=>∃ (a b:W9) (ns ms:U6),x=.ref a/\y=.ref b/\SqT K H a (ns.map V.int)/\SqT K H b (ms.map V.int)/\Q (.bl (if neg then !decide (ns=ms) else decide (ns=ms))) H
theorem X4z (hu:X.A.units+64<cLine):OpR X (compareOp .Eq) (rEqTI X.K false):=by
 intro pins s σ H x y v u Q I rx ry h
 obtain⟨a,b,ns,ms,rfl,rfl,h1,h2,q⟩:=h
 cases rx;cases ry
 obtain⟨its,rv,p,_⟩:=I.tuple h1
 obtain⟨its',rv',p',_⟩:=I.tuple h2
 refine q8g (Z3i p (Z2n rv)) (Z3i p' (Z2n rv')) (Z3q ns) (Z3q ms) hu (by simp only[SeqAt.noMix];exact q5c ns ms) ?_
 refine⟨.bl (decide (ns=ms)),H,I,?_,q⟩
 show _=_
 simp only[PySem.Spec.same]
 rw[q5i]
theorem Y1m (hu:X.A.units+64<cLine):OpR X (compareOp .NotEq) (rEqTI X.K true):=by
 intro pins s σ H x y v u Q I rx ry h
 obtain⟨a,b,ns,ms,rfl,rfl,h1,h2,q⟩:=h
 cases rx;cases ry
 obtain⟨its,rv,p,_⟩:=I.tuple h1
 obtain⟨its',rv',p',_⟩:=I.tuple h2
 refine q8f (Z3i p (Z2n rv)) (Z3i p' (Z2n rv')) (Z3q ns) (Z3q ms) hu (by simp only[SeqAt.noMix];exact q5c ns ms) ?_
 refine⟨.bl (!decide (ns=ms)),H,I,?_,q⟩
 show _=_
 simp only[PySem.Spec.same]
 rw[q5i]
theorem Z2g:CallR X (.builtin "isinstance") (λxs H Q=>∃ x T t b,xs=[x,.ty T]/\TyOf X.K H x t/\PySem.W.kitOne X.K t (.type T)=some b/\Q (.bl b) H):=by
 intro pins s σ H xs us Q I r h
 obtain⟨x,T,t,b,rfl,ty,e,q⟩:=h
 obtain⟨u,v,rfl,ru,rv⟩:=r.two
 cases rv
 exact Y8c I ru ty e λtk=>⟨.bl b,H,I.tok tk,Z,q⟩
end
section
variable {prog:U8}{w:W1}{A:W6}{E:U2}
end
section
variable {X:Cx}{pos:Pos}
end
section
variable {X:Cx}{tg:Expr}
end
end L2
namespace L2
theorem Z7y {α β:Type}{f:α->β->Sem (ForInStep β)}{g:β->α->β}:∀ (l:List α) (b:β),(∀ x∈l,∀ b,f x b=pure (.yield (g b x)))->forIn l b f=pure (l.foldl g b)
 | [],b,_=>rfl
 | x::r,b,h=>by
  rw[List.forIn_cons,h x q4d b,pure_bind]
  exact Z7y r (g b x) λy hy=>h y (q3b _ hy)
noncomputable def cloF (cells:List (Str × Addr))(cs:List (Str × Addr))(x:Str × NameKind):List (Str × Addr):=if x.2 == .free then (x.1,(cells.lookup x.1).getD 0)::cs else cs
noncomputable def clo (names:List (Str × NameKind))(cells:List (Str × Addr)):List (Str × Addr):=names.foldl (cloF cells) []
theorem Z5r {scope:Scope}{env:Env}(h:∀ x∈scope.names,x.2=.free->∃ c,env.cells.lookup x.1=some c):closureFor scope env=pure (clo scope.names env.cells):=by
 simp only[closureFor]
 unfold clo
 rw[Z7y (g:=cloF env.cells) scope.names [] (λx hx b=>by
  obtain⟨n,k⟩:=x
  unfold cloF
  by_cases hk:k=.free
  ·subst hk
   obtain⟨c,hc⟩:=h (n,.free) hx rfl
   have hc':env.cells.lookup n=some c:=hc
   simp[cellOf,hc']
  ·have hb:(k == NameKind.free)=false:=by simpa using hk
   simp[hb])]
 rfl
theorem Z4p {x n:Str}{c:W9}{l:List (Str × Addr)}:List.lookup x ((n,c)::l)=if x=n then some c else List.lookup x l:=by
 by_cases h:x=n
 ·subst h
  rw[if_pos rfl,List.lookup_cons_self]
 ·rw[if_neg h,q4t]
  have:(x == n)=false:=by simpa using h
  rw[this]
theorem Y9a {cells:List (Str × Addr)}:∀ (names:List (Str × NameKind)) (cs:List (Str × Addr)),(∀ x∈names,x.2=.free->∃ c,cells.lookup x.1=some c)->(∀ x c,cs.lookup x=some c->cells.lookup x=some c) →
  ∀ x c,(names.foldl (cloF cells) cs).lookup x=some c->cells.lookup x=some c
 | [],cs,_,h0=>h0
 | (n,k)::r,cs,h,h0=>by
  refine Y9a r _ (λy hy=>h y (q3b _ hy)) λx c e=>?_
  unfold cloF at e
  by_cases hk:k=.free
  ·subst hk
   obtain⟨c',hc'⟩:=h (n,.free) q4d rfl
   simp only[beq_self_eq_true,q7u] at e
   rw[Z4p] at e
   have hc':cells.lookup n=some c':=hc'
   by_cases hx:x=n
   ·subst hx
    rw[if_pos rfl,hc'] at e
    rw[hc']
    exact e
   ·rw[if_neg hx] at e
    exact h0 x c e
  ·have hb:(k == NameKind.free)=false:=by simpa using hk
   simp only[hb,q3j,q7e] at e
   exact h0 x c e
theorem Z9e {cells:List (Str × Addr)}:∀ (names:List (Str × NameKind)) (cs:List (Str × Addr)) (x:Str),((x,NameKind.free)∈names∨∃ c,cs.lookup x=some c)->∃ c,(names.foldl (cloF cells) cs).lookup x=some c
 | [],cs,x,h=>by
  rcases h with h | h
  ·cases h
  ·exact h
 | (n,k)::r,cs,x,h=>by
  refine Z9e r _ x ?_
  unfold cloF
  by_cases hk:k=.free
  ·subst hk
   simp only[beq_self_eq_true,q7u]
   rw[Z4p]
   by_cases hx:x=n
   ·exact .inr ⟨_,if_pos hx⟩
   ·rw[if_neg hx]
    rcases h with h | h
    ·rcases q0p.mp h with h | h
     ·exact absurd (congrArg Prod.fst h) hx
     ·exact .inl h
    ·exact .inr h
  ·have hb:(k == NameKind.free)=false:=by simpa using hk
   simp only[hb,q3j,q7e]
   rcases h with h | h
   ·rcases q0p.mp h with h | h
    ·exact absurd (congrArg Prod.snd h).symm hk
    ·exact .inl h
   ·exact .inr h
structure LcOk (N:W0) (osc sc:Scope) (Nc:W0) (mp:W7):Prop where
 kind:sc.kind=.function
 nocell:∀ y∈sc.names,y.2≠.cell
 names:∀ y∈sc.names,y.2=.local->sc.names.lookup y.1=some .local
 free:∀ y∈sc.names,y.2=.free->osc.names.lookup y.1=some .cell∨osc.names.lookup y.1=some .free
 len:mp.length=Nc.length
 map:∀ (i j:Nat),mp[i]?=some (some j)->∃ x,Nc[i]?=some x/\N[j]?=some x/\sc.names.lookup x=some .free
noncomputable def lcChk (N:W0)(osc sc:Scope)(Nc:W0)(mp:W7):Bool :=
 decide (sc.kind=.function) && sc.names.all (λy=>!decide (y.2=.cell) && (!decide (y.2=.local) || decide (sc.names.lookup y.1=some .local)) &&
  (!decide (y.2=.free) || decide (osc.names.lookup y.1=some .cell) || decide (osc.names.lookup y.1=some .free))) &&
 decide (mp.length=Nc.length) && (List.range mp.length).all λi=>match mp[i]? with
  | some (some j)=>match Nc[i]? with
   | some x=>decide (N[j]?=some x) && decide (sc.names.lookup x=some .free)
   | none=>false
  | _=>true
theorem LcOk.of {N:W0}{osc sc:Scope}{Nc:W0}{mp:W7}(h:lcChk N osc sc Nc mp=true):LcOk N osc sc Nc mp:=by
 unfold lcChk at h
 simp only[q0m,q1a,q1c,q2p,Bool.not_eq_true',decide_eq_false_iff_not] at h
 obtain⟨⟨⟨h1,h2⟩,h3⟩,h4⟩:=h
 refine⟨h1,λy hy=>(h2 y hy).1.1,λy hy e=>?_,λy hy e=>?_,h3,λi j e=>?_⟩
 ·rcases (h2 y hy).1.2 with q | q
  ·exact absurd e q
  ·exact q
 ·rcases (h2 y hy).2 with (q | q) | q
  ·exact absurd e q
  ·exact .inl q
  ·exact .inr q
 ·have hi:i<mp.length:=(q0t.mp e).1
  have q:=h4 i (q0s.mpr hi)
  rw[e] at q
  cases hx:Nc[i]? with
  | none=>rw[hx] at q;simp at q
  | some x =>
   rw[hx] at q
   simp only[q0m,q1a] at q
   exact⟨x,Z,q.1,q.2⟩
theorem Z4g {f:Str × NameKind->Str × NameKind}(h1:∀ p,(f p).1=p.1)(h2:∀ p,p.2=.free->(f p).2=.cell∨(f p).2=.free):∀ {names:List (Str × NameKind)}{x:Str},names.lookup x=some .free->(names.map f).lookup x=some .cell∨(names.map f).lookup x=some .free
 | [],_,h=>by simp at h
 | (n,k)::r,x,h=>by
  have ih:=@Z4g f h1 h2 r x
  rw[q1s]
  have q1:=h1 (n,k)
  have q2:=h2 (n,k)
  generalize f (n,k)=z at q1 q2
  obtain⟨n',k'⟩:=z
  have q1':n'=n:=q1
  subst q1'
  cases hx:x == n' with
  | true =>
   rw[q4t,hx] at h
   have hk:k=.free:=by simpa using h
   rw[q4t,hx]
   rcases q2 hk with e | e
   ·have e':k'=.cell:=e
    subst e'
    exact .inl rfl
   ·have e':k'=.free:=e
    subst e'
    exact .inr rfl
  | false =>
   rw[q4t,hx] at h
   rw[q4t,hx]
   exact ih h
theorem Z4q {env:Env}{names:List (Str × NameKind)}{x:Str}(h:names.lookup x=some .free) :
  (names.map λ(n,k)=>if (k == NameKind.free && env.scope.kind == .function && env.kindOf n == some .cell) then (n,NameKind.cell) else (n,k)).lookup x=some .cell ∨
  (names.map λ(n,k)=>if (k == NameKind.free && env.scope.kind == .function && env.kindOf n == some .cell) then (n,NameKind.cell) else (n,k)).lookup x=some .free:=by
 refine Z4g (λp=>?_) (λp hp=>?_) h
 ·obtain⟨n,k⟩:=p
  dsimp only
  split<;>rfl
 ·obtain⟨n,k⟩:=p
  dsimp only
  split
  ·exact .inl rfl
  ·exact .inr hp
theorem Z6t {env:Env}{names:List (Str × NameKind)}{x:Str}{k':NameKind}(hc:∀ y∈names,y.2≠.cell)(hk:k'=.cell∨k'=.free)
  (h:(names.map λ(n,k)=>if (k == NameKind.free && env.scope.kind == .function && env.kindOf n == some .cell) then (n,NameKind.cell) else (n,k)).lookup x=some k'):(x,NameKind.free)∈names:=by
 have m:=q2s h
 obtain⟨⟨n,k⟩,hm,e⟩:=q2e.mp m
 dsimp only at e
 by_cases hf:k=.free
 ·subst hf
  have e1:n=x:=by
   by_cases hc':(NameKind.free == NameKind.free && env.scope.kind == .function && env.kindOf n == some .cell)=true
   ·rw[if_pos hc'] at e
    exact congrArg Prod.fst e
   ·rw[if_neg hc'] at e
    exact congrArg Prod.fst e
  exact e1 ▸ hm
 ·have hb:(k == NameKind.free)=false:=by simpa using hf
  simp only[hb,q3z,q3j,q7e] at e
  cases e
  rcases hk with z | z
  ·exact absurd z (hc _ hm)
  ·exact absurd z hf
noncomputable def cxLc (X:Cx)(scope:Scope)(Nc:W0)(ex:U3)(pins:U1)(s:U7)(H:Hp):Cx where
 prog:=X.prog
 w:=X.w
 K:=X.K
 mg:=X.mg
 base:=X.base
 A:=X.A
 N:=Nc
 s₀:=s
 H₀:=H
 env:=compEnvC scope (clo scope.names X.env.cells) s.heap.objs.size X.env
 outer:=X.stack
 stack:=X.stack
 ex:=ex
 fn:=λ_=>false
 calm:=X.calm
 pn:=X.pn++pins
 xe:=λ_ _=>False
noncomputable def sub (mp:W7)(σ:St):St:=mp.map λo=>match o with | some j=>(σ[j]?).join | none=>none
theorem X3x {mp:W7}{σ:St}{i:Nat}{v:V}(h:(sub mp σ)[i]?=some (some v)):∃ j,mp[i]?=some (some j)/\σ[j]?=some (some v):=by
 unfold sub at h
 rw[q0k] at h
 cases e:mp[i]? with
 | none=>rw[e] at h;cases h
 | some o =>
  rw[e] at h
  cases o with
  | none=>cases h
  | some j =>
   refine⟨j,Z,?_⟩
   have h':(σ[j]?).join=some v:=Option.some.inj h
   cases q:σ[j]? with
   | none=>rw[q] at h';cases h'
   | some z=>rw[q] at h';exact congrArg some h'
section
variable {X:Cx}{pins:U1}{σ:St}{H:Hp}{s:U7}{scope:Scope}{Nc:W0}{mp:W7}{fp:U3}
theorem Z6l (I:Inv X pins σ H s)(S:LcOk X.N X.env.scope scope Nc mp):∀ x∈scope.names,x.2=.free->∃ c,X.env.cells.lookup x.1=some c:=λx hx e =>
 I.ok.has x.1 (S.free x hx e)
theorem Z5z (I:Inv X pins σ H s)(S:LcOk X.N X.env.scope scope Nc mp){x:Str}{c:W9}(h:(clo scope.names X.env.cells).lookup x=some c):X.env.cells.lookup x=some c :=
 Y9a scope.names [] (Z6l I S) (λ_ _ e=>by cases e) x c h
theorem W1r (I:Inv X pins σ H s)(S:LcOk X.N X.env.scope scope Nc mp)(hf:∀ b∈fp,FpOk X pins H b)(hl:∀ b∈fp,b<s.heap.objs.size):(cxLc X scope Nc fp pins s H).Ok where
 mod:=I.ok.mod
 kind:=S.kind
 glob:=I.ok.glob
 blt:=I.ok.blt
 above:=q0f _
 inj:=λx y c e1 e2=>I.ok.inj x y c (Z5z I S e1) (Z5z I S e2)
 has:=λx h=>by
  have hm:(x,NameKind.free)∈scope.names:=by
   rcases h with h | h
   ·exact Z6t S.nocell (.inl rfl) h
   ·exact Z6t S.nocell (.inr rfl) h
  exact Z9e scope.names [] x (.inl hm)
 cab:=λx c h _=>by cases h
 hd:=I.ok.hd
 frames:=I.ok.frames
 stk:=.inl rfl
 exf:=λb hb=>⟨q0w (hl b hb),λx c e=>(hf b hb).2.2.2.2.1 x c (Z5z I S e)⟩
 bs:=I.bs
 bsz:=q0u I.ok.bsz I.sz
 noex:=λb o e hb=>by
  rcases (hf b hb).2.2.2.1 with z | z
  ·exact I.ok.noex b o e z
  ·exact absurd (q0l (q0h e) (q0u I.ok.bsz z)) (q4i _)
 exfs:=λb hb z=>by
  rcases q0p.mp (I.stkSub b z) with e | e
  ·exact(hf b hb).2.1 e
  ·exact(hf b hb).2.2.1 e
 funs:=I.stack
 frf:=I.stkFree
theorem Y3t (I:Inv X pins σ H s)(S:LcOk X.N X.env.scope scope Nc mp)(hf:∀ b∈fp,FpOk X pins H b)(hl:∀ b∈fp,b<s.heap.objs.size){h₁:Heap}{m:U4}{tk:Nat}
  (hn:h₁.Ns s.heap.objs.size m) (k:∀ b o,s.heap.get? b=some o->h₁.get? b=some o):Inv (cxLc X scope Nc fp pins s H) [] (sub mp σ) H { s with heap:=h₁,toks:=tk }:=by
 refine⟨W1r I S hf hl,Z,I.bare,Un.kept k,⟨m,hn,λi x v e1 e2 _=>?_⟩,λx c e=>?_,I.hok.fresh (q0f _),λx c e=>I.freeC x c (Z5z I S e),λp hp=>?_,I.hok.kept k,?_⟩
 ·obtain⟨j,hj,hv⟩:=X3x e2
  obtain⟨y,y1,y2,y3⟩:=S.map i j hj
  have e1':Nc[i]?=some x:=e1
  rw[e1'] at y1
  cases y1
  have hm:=q2s y3
  have vis:Vis X.env.scope x:=.inr (S.free _ hm rfl)
  obtain⟨mo,_,hloc⟩:=I.loc
  obtain⟨u,ru,lk⟩:=hloc j x v y2 hv vis
  refine⟨u,ru,.inr ⟨Z4q y3,?_⟩⟩
  obtain⟨c,hc⟩:=Z9e (cells:=X.env.cells) scope.names [] x (.inl hm)
  have hc':=Z5z I S hc
  rcases lk with ⟨z,_⟩ | ⟨_,c',z,q⟩
  ·rcases S.free _ hm rfl with z' | z'<;>(have z'':X.env.scope.names.lookup x=some .local:=z;rw[z''] at z';cases z')
  ·rw[hc'] at z
   cases z
   obtain⟨o,ho,hd⟩:=q
   exact⟨c,hc,o,k c o ho,hd⟩
 ·obtain⟨v,o,ho,hd⟩:=I.cell x c (Z5z I S e)
  exact⟨v,o,k c o ho,hd⟩
 ·have hp':p∈X.pn++pins:=by
   have:p∈(X.pn++pins)++[]:=hp
   simpa using this
  obtain⟨e,n,ne,nf,d⟩:=I.pin p hp'
  refine⟨k _ _ e,n,q0w (q0h e),λz=>?_,d⟩
  rcases q0p.mp (I.stkSub p.1 z) with q | q
  ·exact ne q
  ·exact nf q
 ·show (sub mp σ).length=Nc.length
  unfold sub
  rw[q0a]
  exact S.len
theorem X3c (I:Inv X pins σ H s)(hf:∀ b∈fp,FpOk X pins H b){σ':St}{H':Hp}{s':U7}{pl:U1}(J:Inv (cxLc X scope Nc fp pins s H) pl σ' H' s'):Inv X pins σ H' s' :=
 I.call' J.os J.base J.hok J.bare λb hb=>⟨(hf b hb).2.2.2.1,(hf b hb).2.1,(hf b hb).2.2.2.2.1,(hf b hb).2.2.2.2.2⟩
theorem Inv.turnedNew (I:Inv X pins σ H s){C:W9}{h':Heap}{t':Nat}(k:∀ b o,b≠C->s.heap.get? b=some o->h'.get? b=some o)(hn:H C=none)(h1:X.s₀.heap.objs.size<=C)
  (hL:C≠X.env.locals) (hc:∀ x c,X.env.cells.lookup x=some c->c≠C) (hp:∀ p∈X.pn++pins,p.1≠C):Inv X pins σ H { s with heap:=h',toks:=t' } :=
 I.turned k hn hL (.inr h1) hc hp
end
section
variable {M:Model}{A:W6}{E:U2}
abbrev Calm:Value->Shared->Prop:=λ_ _=>False
theorem thenC {α β:Type}{m:Sem α}{f:α->Sem β}{P:α->Shared->Prop}{Q:β->Shared->Prop}{s:U7}(h:wpAny M A m P Calm s)(k:∀ x s',P x s'->wpAny M A (f x) Q E s'):wpAny M A (m >>= f) Q E s :=
 q0o (q2a h k λ_ _ z=>z.elim)
end
theorem Z9c {prog:U8}{w:W1}{A:W6}{R:Result->Shared->Prop}{s:U7}{e t i:Expr}{sc:Scope}{pos:Pos}{it acc:W2}{env:Env}(J:Nat->Shared->Prop)
  (turn:∀ n s,J n s->wpAny (model prog w) A (pyNext it) (λr s1=>(r=none->R (.ok .next) s1)/\∀ v,r=some v →
   wpAny (model prog w) A (letOwnedTupleGo t it v) (λ_ s2=>wpAny (model prog w) A (assign t env v) (λ_ s3=>wpAny (model prog w) A (eval e env) (λx s4 =>
    wpAny (model prog w) A (call (.builtin "list.append") [acc,x]) (λ_ s5=>∃ m,m<n/\J m s5) Calm s4) Calm s3) Calm s2) Calm s1) Calm s)
  (n:Nat) (h:J n s):codeAny (model prog w) A (.compLoop (.ListComp e [⟨t,i,[],0⟩] sc pos) 0 it acc env) R s:=by
 have eq:=compTurn_list1 e t i sc pos it acc env
 refine codeAny_loop rfl J (λn s j=>wpAny_noted (m:=compTurn (.ListComp e [⟨t,i,[],0⟩] sc pos) 0 it acc env) ?_) n h
 rw[eq]
 refine q0o (q7d (thenC (turn n s j) λr s1 q=>?_))
 match r,q with
 | none,q=>exact q0z (q.1 rfl)
 | some v,q=>exact thenC (q.2 v rfl) λ_ s2 q2=>thenC q2 λ_ s3 q3=>q0o (thenC q3 λx s4 q4=>thenC q4 λ_ s5 q5=>q0z (q0z ⟨rfl,q5⟩))
def LcW (J:It)(g:TG)(te:TE)(σ:St)(H:Hp)(acc:W9)(Q:VK):Prop:=∃ W:Nat->Nat->List V->St->Hp->Prop,(∃ m,W 0 m [] σ (upd H acc (.lst []))) ∧
 ∀ i m ys σ2 H2,W i m ys σ2 H2->(J.stop i H2/\Q (.ref acc) H2)∨(J.go i H2/\∀ x H3,J.yld i H2 x H3->g x σ2 H3 λσ4 H4=>te σ4 H4 λy H5 =>
  H5 acc=some (.lst ys)/\ys.length<sizeLine/\∃ m',m'<m/\W (i+1) m' (ys++[y]) σ4 (upd H5 acc (.lst (ys++[y]))))
def tLc (mp:W7)(wi:TI)(g:TG)(te:TE):TE:=λσ H Q=>wi σ H λJ H1=>∀ acc,H1 acc=none->LcW J g te (sub mp σ) H1 acc Q
section
variable {X:Cx}{elt tg iter:Expr}{scope:Scope}{pos:Pos}{wi:TI}{g:TG}{te:TE}{Nc:W0}{mp:W7}
noncomputable abbrev Z0t (s:U7):Shared:={ s with heap:=s.heap.push { cls:=.type "list",dict:=none,data:=.seq ([]:U5).toArray } }
theorem X3b (hc:X.calm=true)(S:LcOk X.N X.env.scope scope Nc mp)(hg:∀ ex pins s H,PG (cxLc X scope Nc ex pins s H) tg g)(he:∀ ex pins s H,PE (cxLc X scope Nc ex pins s H) elt te)
  {pins:U1}{σ:St}{H2:Hp}{s2:U7}{E:U2}{it:W9}{fp:U3}{tn:Nat->Heap->Prop}{J:It}{Q:VK}{RR:Value->Addr->Result->Shared->Prop}
  (I2:Inv X pins σ H2 s2) (T:Turn X.prog X.w X.K tg J fp it tn) (st2:tn 0 s2.heap) (f2:∀ b∈fp,FpOk X pins H2 b)
  (q:∀ acc,H2 acc=none->LcW J g te (sub mp σ) H2 acc Q)
  (fin:∀ acc C H' s' m',Q (.ref acc) H'->Inv X pins σ H' s'->s'.heap.Ns C m'->H' C=none->X.s₀.heap.objs.size<=C->C≠X.env.locals->(∀ x c,X.env.cells.lookup x=some c->c≠C)->(∀ p∈X.pn++pins,p.1≠C)->RR (.ref acc) C (.ok .next) s') :
  wpAny (model X.prog X.w) X.A (newList []) (λacc s₃=>wpAny (model X.prog X.w) X.A (newFunctionEnv scope X.env.globals (clo scope.names X.env.cells) [] X.env.qual none .none (some X.env)) (λcenv s₄ =>
   codeAny (model X.prog X.w) X.A (.compStart (.ListComp elt [⟨tg,iter,[],0⟩] scope pos) 0 (.ref it) acc { cenv with scope:=relabel scope X.env }) (RR acc cenv.locals) s₄) E s₃) E s2:=by
 refine q3p (wpAny_newFunctionEnv S.nocell (by intro y hy;simp at hy) (λh₁ hns₁ hsb₁=>?_) S.kind)
 dsimp only at hns₁ hsb₁ ⊢
 have I3:=I2.lnew (its:=[]) (ys:=[]) (t':=s2.toks) .nil (q1e _)
 have hacc:H2 s2.heap.objs.size=none:=I2.fresh
 obtain⟨W,⟨m0,w0⟩,turn⟩:=q s2.heap.objs.size hacc
 have hpush:(s2.heap.push { cls:=.type "list",dict:=none,data:=.seq ([]:U5).toArray }).objs.size=s2.heap.objs.size+1:=q2h ..
 have hlt:∀ b∈fp,b<s2.heap.objs.size:=λb hb=>by
  obtain⟨o,e,_⟩:=T.obj _ _ st2 b hb
  exact q0h e
 have f3:∀ b∈fp,FpOk X pins (upd H2 s2.heap.objs.size (.lst [])) b:=λb hb=>⟨by rw[Z1d (q0w (hlt b hb))];exact(f2 b hb).1,(f2 b hb).2⟩
 have I3':Inv X pins σ (upd H2 s2.heap.objs.size (.lst [])) (Z0t s2):=I3
 have hsz:(Z0t s2).heap.objs.size=s2.heap.objs.size+1:=hpush
 have hlt3:∀ b∈fp,b<(Z0t s2).heap.objs.size:=λb hb=>by rw[hsz];exact q3r (hlt b hb)
 have k3:∀ b o,(Z0t s2).heap.get? b=some o->h₁.get? b=some o:=λb o e=>hsb₁.extBut b o (q0w (q0h e)) (q0g _ e)
 have Ic:=Y3t (tk:=(Z0t s2).toks) I3' S f3 hlt3 hns₁ k3
 have st3:tn 0 h₁:=T.keep _ _ _ st2 λb hb o e=>k3 b o (q0g _ e)
 have cC:X.s₀.heap.objs.size<=(Z0t s2).heap.objs.size:=I3'.sz
 have cL:(Z0t s2).heap.objs.size≠X.env.locals:=q4g I3'.lt
 have cc:∀ x c,X.env.cells.lookup x=some c->c≠(Z0t s2).heap.objs.size:=λx c e=>by
  obtain⟨v,o,ho,_⟩:=I3'.cell x c e
  exact q0w (q0h ho)
 have cp:∀ p∈X.pn++pins,p.1≠(Z0t s2).heap.objs.size:=λp hp=>q0w (q0h (I3'.pin p hp).1)
 have stat:∀ {H':Hp},(∀ b∈fp,H' b=none)->∀ b∈fp,FpOk (cxLc X scope Nc fp pins (Z0t s2) (upd H2 s2.heap.objs.size (.lst []))) [] H' b:=λhn b hb =>
  ⟨hn b hb,q0w (hlt3 b hb),λz=>by
   rcases q0p.mp (I3'.stkSub b z) with e | e
   ·exact(f3 b hb).2.1 e
   ·exact(f3 b hb).2.2.1 e,.inl hb,λx c e=>(f3 b hb).2.2.2.2.1 x c (Z5z I3' S e),λp hp=>(f3 b hb).2.2.2.2.2 p (by
    have:p∈(X.pn++pins)++[]:=hp
    simpa using this)⟩
 have loop:∀ s4:Shared,s4={ (Z0t s2) with heap:=h₁,toks:=(Z0t s2).toks } →
   codeAny (model X.prog X.w) X.A (.compLoop (.ListComp elt [⟨tg,iter,[],0⟩] scope pos) 0 (.ref it) (.ref s2.heap.objs.size) (cxLc X scope Nc fp pins (Z0t s2) (upd H2 s2.heap.objs.size (.lst []))).env)
    (RR (.ref s2.heap.objs.size) (Z0t s2).heap.objs.size) s4:=by
  rintro s4 rfl
  refine Z9c (λn s'=>∃ i ys σ' H',Inv (cxLc X scope Nc fp pins (Z0t s2) (upd H2 s2.heap.objs.size (.lst []))) [] σ' H' s'/\tn i s'.heap/\(∀ b∈fp,H' b=none)/\W i n ys σ' H') ?_ m0
   ⟨0,[],sub mp σ,_,Ic,st3,λb hb=>(f3 b hb).1,w0⟩
  rintro n s5 ⟨i,ys,σ5,H5,I5,st5,fr5,w5⟩
  rcases turn i n ys σ5 H5 w5 with ⟨stop,qn⟩ | ⟨go,step⟩
  ·refine q2a (T.done (cxLc X scope Nc fp pins (Z0t s2) (upd H2 s2.heap.objs.size (.lst []))) rfl rfl rfl hc i [] s5 σ5 H5 (λ_ _=>False) I5 (stat fr5) st5 stop) (λr s6 ⟨hr,I6⟩=>?_) λ_ _ f=>f.elim
   subst hr
   obtain⟨m6,hn6,_⟩:=I6.loc
   refine⟨λ_=>?_,λ_ z=>nomatch z⟩
   exact fin _ _ H5 s6 m6 qn (X3c I3' f3 I6) hn6 I6.free cC cL cc cp
  ·refine q2a (T.item (cxLc X scope Nc fp pins (Z0t s2) (upd H2 s2.heap.objs.size (.lst []))) rfl rfl rfl hc i [] s5 σ5 H5 (λ_ _=>False) I5 (stat fr5) st5 go) (λr s6 ⟨u,hr,h6⟩=>?_) λ_ _ f=>f.elim
   subst hr
   refine⟨(λz=>by cases z),?_⟩
   rintro _ ⟨⟩
   refine q2a h6 (λ_ s7 ⟨x,H7,I7,r7,y7,st7,fr7⟩=>?_) λ_ _ f=>f.elim
   have I7':=I7.pinned (stat fr7) (T.obj _ _ st7)
   refine q2a (hg _ _ _ _ _ s7 σ5 H7 x u _ I7' r7 (step x H7 y7)) (λ_ s8 ⟨σ8,H8,I8,q8⟩=>?_) λ_ _ f=>f.elim
   refine q2a (he _ _ _ _ _ s8 σ8 H8 _ I8 q8) (λv s9 ⟨y,H9,I9,r9,a9,l9,m',hm',w9⟩=>?_) λ_ _ f=>f.elim
   refine q2a (Z2j (X:=cxLc X scope Nc fp pins (Z0t s2) (upd H2 s2.heap.objs.size (.lst []))) _ s9 σ8 H9 (.ref s2.heap.objs.size) [y] (.ref s2.heap.objs.size) [v] (λz Hz=>z=.non/\Hz=upd H9 s2.heap.objs.size (.lst (ys++[y]))) I9 rfl (.cons r9 .nil) ⟨_,ys,y,Z,Z,a9,l9,Z,Z⟩) (λv10 s10 ⟨z,H10,I10,_,_,e10⟩=>?_) λ_ _ f=>f.elim
   subst e10
   refine⟨m',hm',i+1,ys++[y],σ8,_,I10.unpinned,T.keep _ _ _ st7 λb hb o e=>(I10.pin (b,o) (q1g _ (q1g _ (Z2s hb e)))).1,λb hb=>?_,w9⟩
   obtain⟨o,e,d⟩:=T.obj _ _ st7 b hb
   exact(I10.pin (b,o) (q1g _ (q1g _ (Z2s hb e)))).2.1
 exact q7o (loop _ rfl) (T.self _ 0 _ _ _ st3 (loop _ rfl))
theorem Z4l (hc:X.calm=true)(S:LcOk X.N X.env.scope scope Nc mp)(hi:PI X tg iter wi)(hg:∀ ex pins s H,PG (cxLc X scope Nc ex pins s H) tg g)(he:∀ ex pins s H,PE (cxLc X scope Nc ex pins s H) elt te)
  (hf:∀ x,foldedSetIterable iter X.env x=pure x:=by intro _;rfl):PE X (.ListComp elt [⟨tg,iter,[],0⟩] scope pos) (tLc mp wi g te):=by
 intro pins s σ H Q I h
 rw[eval_ListComp]
 refine q4x (use:=none) rfl hf (Z5r (Z6l I S)) S.kind S.names (thn (hi pins s σ H _ I h) λv s1 h1=>thn h1 λitv s2 h2=>?_)
 obtain⟨it,fp,tn,J,H2,e,I2,T,st2,f2,q⟩:=h2
 subst e
 refine X3b (RR:=λacc C=>compPost (model X.prog X.w) X.A X.xe none (EP X pins σ Q) acc C) hc S hg he I2 T st2 f2 q ?_
 intro acc C H' s' m' qq I' hn hC c1 c2 c3 c4
 refine⟨m',hn,λh' hs=>⟨.ref acc,H',?_,Z,qq⟩⟩
 exact I'.turnedNew (t':=s'.toks) (λb o hb e=>hs.extBut b o hb e) hC c1 c2 c3 c4
theorem Z4i {i:Nat}{x:Str}{pos' spos:Pos}(hc:X.calm=true)(hN:X.N.Nodup)(hi':X.N[i]?=some x)(hx:X.env.scope.names.lookup x=some .local)(S:LcOk X.N X.env.scope scope Nc mp)(hi:PI X tg iter wi)
  (hg:∀ ex pins s H,PG (cxLc X scope Nc ex pins s H) tg g) (he:∀ ex pins s H,PE (cxLc X scope Nc ex pins s H) elt te)
  (hsw:swapsWith (.ListComp elt [⟨tg,iter,[],0⟩] scope pos) (some (.Name x pos')) spos.line X.env=pure true)
  (hf:∀ x,foldedSetIterable iter X.env x=pure x:=by intro _;rfl):PS X (.Assign [.Name x pos'] (.ListComp elt [⟨tg,iter,[],0⟩] scope pos) spos) (tAsg (tLc mp wi g te) (gName i)):=by
 intro pins s σ H D I h
 rw[exec_Assign_Name_used _ _ _ _ hsw]
 refine q0o (q7d (q0o ?_))
 show wpAny _ X.A (do let _ ← comprehension (.ListComp elt [⟨tg,iter,[],0⟩] scope pos) scope X.env _ (newList []) false (eval iter X.env) (some (assign (.Name x pos') X.env))) _ _ s
 refine q0o (q2a (q4x (use:=some (assign (.Name x pos') X.env)) (Q:=λ_ s'=>SP X pins D .next s') rfl hf (Z5r (Z6l I S)) S.kind S.names
  (thn (hi pins s σ H _ I h) λv s1 h1=>thn h1 λitv s2 h2=>?_)) (λ_ s' hq=>q0z (q0z hq)) λ_ _ e=>e)
 obtain⟨it,fp,tn,J,H2,e,I2,T,st2,f2,q⟩:=h2
 subst e
 refine X3b (Q:=λx H1=>gName i x σ H1 D.nx) (RR:=λacc C=>compPost (model X.prog X.w) X.A X.xe (some (assign (.Name x pos') X.env)) (λ_ s'=>SP X pins D .next s') acc C) hc S hg he I2 T st2 f2 q ?_
 intro acc C H' s' m' qq I' hn hC c1 c2 c3 c4
 show wpAny _ X.A (assign (.Name x pos') X.env (.ref acc)) _ _ _
 refine wpAny_assign_Name (Z9n (v:=.ref acc) I' hN hi' (.inl hx) rfl (λs5 I5 ⟨a,hs5,ha⟩=>?_) (.inr hx))
 have hCa:C≠a:=by
  rcases ha with z | z
  ·rw[z];exact c2
  ·exact Ne.symm (c3 x a z)
 refine⟨m',hn.sameBut hs5 hCa,λh' hs=>⟨σ.set i (some (.ref acc)),H',?_,qq⟩⟩
 exact I5.turnedNew (t':=s5.toks) (λb o hb e=>hs.extBut b o hb e) hC c1 c2 c3 c4
end
theorem X1p {J:It}{n:Nat}{val:Nat->V}{te:TE}{fr:St}{H1:Hp}{acc:W9}{Q:VK}(Pv:Nat->List V->Hp->Prop)(hn:n<=sizeLine)(h0:Pv 0 [] (upd H1 acc (.lst [])))
  (hgo:∀ i ys H,i<n->Pv i ys H->J.go i H/\∀ x H',J.yld i H x H'->H'=H/\x=val i) (hst:∀ ys H,Pv n ys H->J.stop n H)
  (hs:∀ i ys H (N:V->Hp->Prop),i<n->ys.length=i->Pv i ys H->(∀ y H5,H5 acc=some (.lst ys)->Pv (i+1) (ys++[y]) (upd H5 acc (.lst (ys++[y])))->N y H5)->te (some (val i)::fr) H N)
  (hd:∀ ys H,ys.length=n->Pv n ys H->Q (.ref acc) H) :
  LcW (J) (gName 0) te (none::fr) H1 acc Q:=by
 refine⟨λi m ys σ2 H2=>m=n-i/\i<=n/\ys.length=i/\(∃ v,σ2=v::fr)/\Pv i ys H2,⟨n,by simp,q1e _,Z,⟨_,Z⟩,h0⟩,?_⟩
 rintro i m ys σ2 H2 ⟨rfl,hi,hl,⟨v,rfl⟩,p⟩
 by_cases hlt:i<n
 ·obtain⟨go,yl⟩:=hgo i ys H2 hlt p
  refine .inr ⟨go,λx H3 y3=>?_⟩
  obtain⟨e1,e2⟩:=yl x H3 y3
  subst e1 e2
  show te ((v::fr).set 0 (some (val i))) H3 _
  rw[List.set_cons_zero]
  refine hs i ys H3 _ hlt hl p λy H5 a5 p5=>⟨a5,by omega,n-(i+1),by omega,Z,hlt,by rw[q0c,hl];rfl,⟨_,Z⟩,p5⟩
 ·have e:i=n:=by omega
  subst e
  exact .inl ⟨hst ys H2 p,hd ys H2 hl p⟩
theorem Z6k {lo:Int}{n:Nat}{te:TE}{fr:St}{H1:Hp}{acc:W9}{Q:VK}(Pv:Nat->List V->Hp->Prop)(hn:n<=sizeLine)(h0:Pv 0 [] (upd H1 acc (.lst [])))
  (hs:∀ i ys H (N:V->Hp->Prop),i<n->ys.length=i->Pv i ys H->(∀ y H5,H5 acc=some (.lst ys)->Pv (i+1) (ys++[y]) (upd H5 acc (.lst (ys++[y])))->N y H5)->te (some (.int (lo+i))::fr) H N)
  (hd:∀ ys H,ys.length=n->Pv n ys H->Q (.ref acc) H) :
  LcW (Itr lo n) (gName 0) te (none::fr) H1 acc Q :=
 X1p (J:=Itr lo n) (val:=λi=>.int (lo+i)) Pv hn h0 (λi ys H hi p=>⟨hi,λx H' y=>y⟩) (λys H p=>q0f _) hs hd
theorem Z5m {K:U0}{a:W9}{xs:List V}{te:TE}{fr:St}{H1:Hp}{acc:W9}{Q:VK}(Pv:Nat->List V->Hp->Prop)(hn:xs.length<=sizeLine)(h0:Pv 0 [] (upd H1 acc (.lst [])))
  (hl:∀ i ys H,Pv i ys H->SqL K H a xs)
  (hs:∀ i x ys H (N:V->Hp->Prop),xs[i]?=some x->ys.length=i->Pv i ys H->(∀ y H5,H5 acc=some (.lst ys)->Pv (i+1) (ys++[y]) (upd H5 acc (.lst (ys++[y])))->N y H5)->te (some x::fr) H N)
  (hd:∀ ys H,ys.length=xs.length->Pv xs.length ys H->Q (.ref acc) H) :
  LcW (Itl K a) (gName 0) te (none::fr) H1 acc Q :=
 X1p (J:=Itl K a) (n:=xs.length) (val:=λi=>xs.getD i .non) Pv hn h0
  (λi ys H hi p=>⟨⟨xs,xs[i],hl i ys H p,by simp[hi]⟩,λx H' y=>⟨y.1,by
   have:=y.2 xs (hl i ys H p)
   rw[q1b,this];rfl⟩⟩)
  (λys H p=>⟨xs,hl _ ys H p,q0f _⟩)
  (λi ys H N hi hl' p k=>by
   have e:xs[i]?=some (xs.getD i .non):=by rw[q1b,q0d hi];rfl
   exact hs i _ ys H N e hl' p k) hd
end L2
namespace L2
structure Cal (P:U8) (w:W1) (K:U0) (mg:U4) (base:Heap) (k:Nat) (x:Str) (ps:W0) (sp:Sp):Prop where
 ex:∃ f fd,FnOk P w K mg base CX0 k f fd ps sp/\Binds K fd ps []/\PySem.W.keepIn K (.ref f)=true/\mg x=some (.ref f)
theorem Cal.mono {P:U8}{w:W1}{K:U0}{mg:U4}{base:Heap}{j k:Nat}{x:Str}{ps:W0}{sp:Sp}(c:Cal P w K mg base j x ps sp)(h:j<=k):Cal P w K mg base k x ps sp :=
 let ⟨f,fd,F,b,kp,m⟩:=c.ex
 ⟨f,fd,F.mono h,b,kp,m⟩
section
variable {X:Cx}{k:Nat}{x:Str}{ps:W0}{sp:Sp}{p pos:Pos}{e:Expr}{es:List Expr}{t:TA}
theorem Z0k (c:Cal X.prog X.w X.K X.mg X.base k x ps sp)(hr:Room k X.A)(hg:Gl X x)(ha:PA X (e::es) t)(hdb:(x == ("__debug__":Str))=false:=by decide)
  (he:starEach (e::es) X.env=(false,eval e X.env)::starEach es X.env:=by rfl) (hpl:(backTo pos (starEach es X.env)).any (·.1)=false:=by rfl):PE X (.Call (.Name x p) (e::es) [] pos) (tCall sp [] E0 t):=by
 obtain⟨f,fd,F,b,kp,m⟩:=c.ex
 exact X4r F hr hg m kp b .nil pass0 ha hdb he hpl
end
structure FunAt (K:U0) (x:Str) (st:Stmt) (dV:W2):Prop where
 ex:∃ (f:W9) (oc:W2) (od:W5) (kV doc pm:W2) (an:W5) (cdv ct:W2) (osl:W4),
  K.lookup f=some ⟨oc,od,.func (PySem.W.fnOf x x (Z1n st) (Z1j st) (Z0h st) dV kV doc pm an cdv ct),osl⟩/\PySem.W.codeIn K cdv x=true/\PySem.W.keepIn K (.ref f)=true/\PySem.W.nsIn K mainGlobals x=some (some (.ref f))
theorem fat {K:U0}{x:Str}{st:Stmt}{f:W9}{oc:W2}{od an:W5}{osl:W4}{dV kV doc pm cdv ct:W2}(a:PySem.W.nsIn K mainGlobals x=some (some (.ref f)))
  (l:K.lookup f=some ⟨oc,od,.func (PySem.W.fnOf x x (Z1n st) (Z1j st) (Z0h st) dV kV doc pm an cdv ct),osl⟩) (c:PySem.W.codeIn K cdv x=true) (k:PySem.W.keepIn K (.ref f)=true):FunAt K x st dV :=
 ⟨f,oc,od,kV,doc,pm,an,cdv,ct,osl,l,c,k,a⟩
def Z3d (K:U0)(x:Str)(st:Stmt)(dV:W2)(ps:W0):Prop:=∀ (kV doc pm:W2) (an:W5) (cdv ct:W2),Binds K (PySem.W.fnOf x x (Z1n st) (Z1j st) (Z0h st) dV kV doc pm an cdv ct) ps []
theorem binds0 {K:U0}{x:Str}{st:Stmt}{ps:W0}
  (h:∀ (kV doc pm:W2) (an:W5) (cdv ct:W2) (us:U5),us.length=ps.length->bindArgs (PySem.W.fnOf x x (Z1n st) (Z1j st) (Z0h st) .none kV doc pm an cdv ct) ⟨us,[]⟩=pure (ps.zip us)):Z3d K x st .none ps :=
 λkV doc pm an cdv ct=>.all (h kV doc pm an cdv ct)
theorem bnd0 {K:U0}{nm:Str}{st:Stmt}(h:∀ (kV doc pm:W2) (an:W5) (cdv ct:W2),bindArgs (PySem.W.fnOf nm nm (Z1n st) (Z1j st) (Z0h st) .none kV doc pm an cdv ct) ⟨[],[]⟩=pure []):Z3d K nm st .none []:=binds0 λkV doc pm an cdv ct us hl=>by
 cases us with
 | nil=>exact h kV doc pm an cdv ct
 | cons=>cases hl
theorem bnd1 {K:U0}{nm:Str}{st:Stmt}{x0:Str}(h:∀ (kV doc pm:W2) (an:W5) (cdv ct:W2) (a0:W2),bindArgs (PySem.W.fnOf nm nm (Z1n st) (Z1j st) (Z0h st) .none kV doc pm an cdv ct) ⟨[a0],[]⟩=pure [(x0,a0)]):Z3d K nm st .none [x0]:=binds0 λkV doc pm an cdv ct us hl=>by
 cases us with
 | nil=>cases hl
 | cons b0 t0 =>
  cases t0 with
  | nil=>exact h kV doc pm an cdv ct b0
  | cons=>cases hl
theorem bnd2 {K:U0}{nm:Str}{st:Stmt}{x0 x1:Str}(h:∀ (kV doc pm:W2) (an:W5) (cdv ct:W2) (a0 a1:W2),bindArgs (PySem.W.fnOf nm nm (Z1n st) (Z1j st) (Z0h st) .none kV doc pm an cdv ct) ⟨[a0,a1],[]⟩=pure [(x0,a0),(x1,a1)]):Z3d K nm st .none [x0,x1]:=binds0 λkV doc pm an cdv ct us hl=>by
 cases us with
 | nil=>cases hl
 | cons b0 t0 =>
  cases t0 with
  | nil=>cases hl
  | cons b1 t1 =>
   cases t1 with
   | nil=>exact h kV doc pm an cdv ct b0 b1
   | cons=>cases hl
theorem bnd3 {K:U0}{nm:Str}{st:Stmt}{x0 x1 x2:Str}(h:∀ (kV doc pm:W2) (an:W5) (cdv ct:W2) (a0 a1 a2:W2),bindArgs (PySem.W.fnOf nm nm (Z1n st) (Z1j st) (Z0h st) .none kV doc pm an cdv ct) ⟨[a0,a1,a2],[]⟩=pure [(x0,a0),(x1,a1),(x2,a2)]):Z3d K nm st .none [x0,x1,x2]:=binds0 λkV doc pm an cdv ct us hl=>by
 cases us with
 | nil=>cases hl
 | cons b0 t0 =>
  cases t0 with
  | nil=>cases hl
  | cons b1 t1 =>
   cases t1 with
   | nil=>cases hl
   | cons b2 t2 =>
    cases t2 with
    | nil=>exact h kV doc pm an cdv ct b0 b1 b2
    | cons=>cases hl
theorem bnd4 {K:U0}{nm:Str}{st:Stmt}{x0 x1 x2 x3:Str}(h:∀ (kV doc pm:W2) (an:W5) (cdv ct:W2) (a0 a1 a2 a3:W2),bindArgs (PySem.W.fnOf nm nm (Z1n st) (Z1j st) (Z0h st) .none kV doc pm an cdv ct) ⟨[a0,a1,a2,a3],[]⟩=pure [(x0,a0),(x1,a1),(x2,a2),(x3,a3)]):Z3d K nm st .none [x0,x1,x2,x3]:=binds0 λkV doc pm an cdv ct us hl=>by
 cases us with
 | nil=>cases hl
 | cons b0 t0 =>
  cases t0 with
  | nil=>cases hl
  | cons b1 t1 =>
   cases t1 with
   | nil=>cases hl
   | cons b2 t2 =>
    cases t2 with
    | nil=>cases hl
    | cons b3 t3 =>
     cases t3 with
     | nil=>exact h kV doc pm an cdv ct b0 b1 b2 b3
     | cons=>cases hl
theorem bnd5 {K:U0}{nm:Str}{st:Stmt}{x0 x1 x2 x3 x4:Str}(h:∀ (kV doc pm:W2) (an:W5) (cdv ct:W2) (a0 a1 a2 a3 a4:W2),bindArgs (PySem.W.fnOf nm nm (Z1n st) (Z1j st) (Z0h st) .none kV doc pm an cdv ct) ⟨[a0,a1,a2,a3,a4],[]⟩=pure [(x0,a0),(x1,a1),(x2,a2),(x3,a3),(x4,a4)]):Z3d K nm st .none [x0,x1,x2,x3,x4]:=binds0 λkV doc pm an cdv ct us hl=>by
 cases us with
 | nil=>cases hl
 | cons b0 t0 =>
  cases t0 with
  | nil=>cases hl
  | cons b1 t1 =>
   cases t1 with
   | nil=>cases hl
   | cons b2 t2 =>
    cases t2 with
    | nil=>cases hl
    | cons b3 t3 =>
     cases t3 with
     | nil=>cases hl
     | cons b4 t4 =>
      cases t4 with
      | nil=>exact h kV doc pm an cdv ct b0 b1 b2 b3 b4
      | cons=>cases hl
section
variable {P:U8}{w:W1}{K:U0}{mg:U4}{base:Heap}
theorem FunAt.cal {x:Str}{st:Stmt}{dV:W2}{N ps:W0}{k:Nat}{sp:Sp}(F:FunAt K x st dV){h:Heap}(X:K.In h)(G:Ng h mg)(S:FnScope N ps (Z0h st))(bi:Z3d K x st dV ps)(len:∀ vs H Q E,sp vs H Q E->vs.length=ps.length)
  (hbody:∀ (f:W9) (cdv:W2) (A:W6) (outer:List Env) (s:U7) (H:Hp) (vs:List V) (Q:VK) (E:XK),Room k (A.deeper (envOfC x (Z0h st) s.heap.objs.size f cdv))->sp vs H Q E →
   ∃ t,PSs (cxOf CX0 P w K mg base N x (Z0h st) f cdv A outer s H E).nox (Z1j st) t/\t { nx:=λ_ H'=>Q .non H',rt:=Q } (start N vs) H):Cal P w K mg base (k+1) x ps sp:=by
 obtain⟨f,oc,od,kV,doc,pm,an,cdv,ct,osl,lk,hcd,kp,ns⟩:=F.ex
 refine⟨f,_,X9z lk hcd S len λA outer s H vs Q E hr hsp=>?_,bi kV doc pm an cdv ct,kp,q7g X G ns⟩
 obtain⟨t,h,q⟩:=hbody f cdv A outer s H vs Q E hr hsp
 exact⟨t,h.nox,q⟩
end
theorem cxK {P:U8}{w:W1}{K:U0}{mg:U4}{base:Heap}{N:W0}{x:Str}{sc:Scope}{f:W9}{cdv:W2}{A:W6}{outer:List Env}{s:U7}{H:Hp}{E:XK}:(cxOf CX0 P w K mg base N x sc f cdv A outer s H E).nox.K=K:=rfl
theorem Z0c {H:Hp}{p:W9}(h:H p=none)(o:HO):Same H (upd H p o):=λb u q=>by rw[Z1d (Z2h q h)];exact q
theorem X3d (K:U0):PySem.W.kitOne K (.type "int") (.type "int")=some true:=by unfold PySem.W.kitOne;rw[if_pos (by decide)]
theorem X3e (K:U0):PySem.W.kitOne K (.type "int") (.type "bool")=some false:=by with_unfolding_all rfl
theorem eqI {a b:Int}{A B:Prop}(h1:a=b->A)(h2:a≠b->B):if decide (V.int a=V.int b)=true then A else B:=by
 by_cases h:a=b
 ·subst h
  rw[q0j rfl]
  exact iteT (h1 rfl)
 ·rw[q0e λe=>h (V.int.inj e)]
  exact iteF (h2 h)
theorem neI {a b:Int}{A B:Prop}(h1:a≠b->A)(h2:a=b->B):if (!decide (V.int a=V.int b))=true then A else B:=by
 by_cases h:a=b
 ·subst h
  rw[q0j rfl]
  exact iteF (h2 rfl)
 ·rw[q0e λe=>h (V.int.inj e)]
  exact iteT (h1 h)
theorem decI {p:Prop}[Decidable p]{A B:Prop}(h1:p->A)(h2:¬ p->B):if decide p=true then A else B:=by
 by_cases h:p
 ·rw[q0j h];exact iteT (h1 h)
 ·rw[q0e h];exact iteF (h2 h)
theorem blI {c:Bool}{A B:Prop}(h1:c=true->A)(h2:c=false->B):if c=true then A else B:=by
 cases c
 ·exact iteF (h2 rfl)
 ·exact iteT (h1 rfl)
theorem nblI {c:Bool}{A B:Prop}(h1:c=false->A)(h2:c=true->B):if (!c)=true then A else B:=by
 cases c
 ·exact iteT (h1 rfl)
 ·exact iteF (h2 rfl)
def tCut (t u:TS):TS:=λD σ H=>∃ Good:St->Hp->Prop,t { D with nx:=Good } σ H/\∀ σ' H',Good σ' H'->u D σ' H'
theorem Z0r {X:Cx}{st:Stmt}{rest:W8}{t u:TS}(h1:PS X st t)(h2:PSs X rest u):PSs X (st::rest) (tCut t u):=by
 intro pins s σ H D I h
 obtain⟨Good,ht,hu⟩:=h
 refine q7l (thn (h1 pins s σ H { D with nx:=Good } I ht) λf s1 q=>?_)
 cases f with
 | next =>
  obtain⟨σ',H',I',q⟩:=q
  exact h2 pins s1 σ' H' D I' (hu σ' H' q)
 | ret v=>exact q
 | brk=>exact q
 | cont=>exact q
theorem Z0v {H H':Hp}{p:W9}{o:HO}(h:Same H H')(hn:H p=none):Same H (upd H' p o):=λb u q=>by rw[Z1d (Z2h q hn)];exact h b u q
end L2
namespace Zo
open PySem.Sem (wp)
def Stop (h:Heap)(e:W9):Prop:=∃ o,h.get? e=some o/\o.cls=.type "StopIteration"
def Rest (S:U3)(h h':Heap):Prop:=∀ c o,c ∉ S->h.get? c=some o->h'.get? c=some o
theorem Rest.trans {S:U3}{h h1 h2:Heap}(a:Rest S h h1)(b:Rest S h1 h2):Rest S h h2:=λc o n e=>b c o n (a c o n e)
theorem Rest.sub {S T:U3}{h h1:Heap}(a:Rest S h h1)(q:∀ c,c∈S->c∈T):Rest T h h1:=λc o n e=>a c o (λz=>n (q c z)) e
theorem Rest.ext {S:U3}{h h1:Heap}{b:W9}(e:Heap.ExtBut b h h1)(q:b∈S):Rest S h h1:=λc o n x=>e c o (λz=>n (z ▸ q)) x
theorem Rest.but {S:U3}{h h1:Heap}{b:W9}(e:Heap.SameBut b h h1)(q:b∈S):Rest S h h1:=Rest.ext e.extBut q
theorem Rest.new {S:U3}{h:Heap}(o:Obj):Rest S h (h.push o):=λc u n x=>q0g _ x
def Stays (S:U3)(G:Heap->Prop):Prop:=∀ h h',Rest S h h'->G h->G h'
def Told (it:W9)(hp:Heap)(g:Array GenState)(d:Drawn)(tk:Nat)(os:OsState)(G:Heap->Prop)(ox:Option Value)(Q E:U2):Prop :=
 (∀ x h',ox=some x->G h'->Heap.SameBut it hp h'->Q x ⟨h',g,d,tk,os⟩) ∧
 (∀ e h',ox=none->Heap.ExtBut it hp h'->Stop h' e->E (.ref e) ⟨h',g,d,tk,os⟩)
def Pull (prog:U8)(w:W1)(A:W6)(it:W9)(G G':Heap->Prop)(ox:Option Value):Prop :=
 ∀ {Q E:U2}{hp:Heap}{g:Array GenState}{d:Drawn}{tk:Nat}{os:OsState},G hp->Told it hp g d tk os G' ox Q E →
  wpAny (model prog w) A (Builtin.SmallTypes.nextOf (.ref it)) Q E ⟨hp,g,d,tk,os⟩
section
variable {prog:U8}{w:W1}{A:W6}{E:U2}{hp:Heap}{g:Array GenState}{d:Drawn}{tk:Nat}{os:OsState}
theorem Pull.behind {it:W9}{G G':Heap->Prop}{ox:Option Value}(p:Pull prog w A it G G' ox)(hg:G hp){α:Type}{f:Value->Sem α}{k:Value->Sem Unit}{Q:α->Shared->Prop}
  (t:Told it hp g d tk os G' ox (λx s'=>wpAny (model prog w) A (f x) Q (λe s2=>wpAny (model prog w) A (k e) (λ_ s3=>E e s3) E s2) s') (λe s2=>wpAny (model prog w) A (k e) (λ_ s3=>E e s3) E s2)) :
  wpAny (model prog w) A ((Builtin.SmallTypes.nextOf (.ref it) >>= f).onRaise k) Q E ⟨hp,g,d,tk,os⟩:=wpAny_onRaise (q0o (p hg t))
theorem freed {z I O e:W9}{v:W2}{h:Heap}(gz:IsZip h z I O v)(st:Stop h e)(k:∀ h',Rest [z] h h'->Stop h' e->E (.ref e) ⟨h',g,d,tk,os⟩) :
  wpAny (model prog w) A (setField (.ref z) 0 .none) (λ_ s3=>E (.ref e) s3) E ⟨h,g,d,tk,os⟩:=by
 obtain⟨o,ho,hc⟩:=st
 have ne:e≠z:=by
  rintro rfl
  have q:=ho.symm.trans gz
  cases q
  exact absurd (Value.type.inj hc) (by decide)
 refine q8c gz rfl (by simp) (k _ (Rest.but (Heap.SameBut.update ..) (by simp)) ⟨o,(Heap.SameBut.update ..).extBut _ _ ne ho,hc⟩)
theorem step {z I O i j:W9}{ox oy:Option Value}{a b:W2}{G1 G1' G2 G2':Heap->Prop}{R:PySem.Fin->Shared->Prop}
  (gz:IsZip hp z I O .none) (gI:IsPair hp I (.ref i) (.ref j)) (gO:IsPair hp O a b) (ne:O≠z/\O≠i/\O≠j/\i≠z/\j≠z)
  (p1:Pull prog w A i G1 G1' ox) (p2:Pull prog w A j G2 G2' oy) (a1:G1 hp) (a2:G2 hp)
  (k1:Stays [z,O,j] G1) (k2:Stays [z,O,i] G2) (k3:Stays [z,O,j] G1') (k4:Stays [z,O,i] G2')
  (go:∀ x y h',ox=some x->oy=some y->IsZip h' z I O (rawInt hp.objs.size)->IsPair h' O x y->IsPair h' hp.objs.size x y->G1' h'->G2' h'->Rest [z,O,i,j] hp h'->R (.done (.ret (.ref hp.objs.size))) ⟨h',g,d,tk,os⟩)
  (stop:∀ e h',ox=none∨oy=none->Rest [z,O,i,j] hp h'->Stop h' e->E (.ref e) ⟨h',g,d,tk,os⟩) :
  wpAny (model prog w) A (Builtin.«zip.__next__» ⟨[.ref z],[]⟩) R E ⟨hp,g,d,tk,os⟩:=by
 obtain⟨n1,n2,n3,n4,n5⟩:=ne
 have c0:(#[Value.none,.bool false,.bool false,.ref I,.ref O]:U9)[0]?=some .none:=rfl
 have c2:(#[Value.none,.bool false,.bool false,.ref I,.ref O]:U9)[2]?=some (.bool false):=rfl
 have c3:(#[Value.none,.bool false,.bool false,.ref I,.ref O]:U9)[3]?=some (.ref I):=rfl
 have c4:(#[Value.none,.bool false,.bool false,.ref I,.ref O]:U9)[4]?=some (.ref O):=rfl
 have z0:0<(#[Value.none,.bool false,.bool false,.ref I,.ref O]:U9).size:=by simp
 wp_walk using q4e gz rfl c2,q4e gz rfl c3,q5l gI rfl,q4e gz rfl c0,q4e gz rfl c4,wpAny_setField_rec gz z0
 intro h1 z1 r1
 have q1:Rest [z] hp h1:=.but r1 (by simp)
 wp_walk
 refine p1.behind (f:=λx=>pure (some x)) (k:=λ_=>setField (.ref z) 0 .none) (k1 _ _ (q1.sub (by simp)) a1) ⟨λx h2 e2 b2 r2=>?_,λe h2 e2 r2 st=>?_⟩
 ·have O2:IsPair h2 O a b:=r2.extBut _ _ n2 (r1.extBut _ _ n1 gO)
  wp_walk using q5l O2 rfl,wpAny_updateSeq_pair O2
  intro h3 O3 r3
  wp_walk using wpAny_letGo
  have q3:Rest [z,O,i] hp h3:=((q1.sub (by simp)).trans (.but r2 (by simp))).trans (.but r3 (by simp))
  refine p2.behind (f:=λx=>pure (some x)) (k:=λ_=>setField (.ref z) 0 .none) (k2 _ _ q3 a2) ⟨λy h4 e4 b4 r4=>?_,λe h4 e4 r4 st=>?_⟩
  ·have O4:IsPair h4 O x b:=r4.extBut _ _ n3 O3
   wp_walk using q5l O4 rfl,wpAny_updateSeq_pair O4
   intro h5 O5 r5
   have O5':IsPair h5 O x y:=O5
   have q5:Rest [z,O,i,j] hp h5:=((q3.sub (by simp)).trans (.but r4 (by simp))).trans (.but r5 (by simp))
   have z5:IsZip h5 z I O .ellipsis:=r5.extBut _ _ n1.symm (r4.extBut _ _ n5.symm (r3.extBut _ _ n1.symm (r2.extBut _ _ n4.symm z1)))
   have sz:h5.objs.size=hp.objs.size:=(((r5.1.trans r4.1).trans r3.1).trans r2.1).trans r1.1
   have lt:z<h5.objs.size:=q0h z5
   have z6:IsZip (h5.push { cls:=.type "tuple",data:=.seq #[x,y].toList.toArray }) z I O .ellipsis:=q0g _ z5
   wp_walk using wpAny_letGo,q5l O5' rfl
   have z8:=q4h (Obj.mapFields λv=>v.setIfInBounds 1 (Value.bool false)) (q4h (Obj.mapFields λv=>v.setIfInBounds 0 (rawInt h5.objs.size)) z6 rfl) rfl
   have r8:Rest [z] (h5.push { cls:=.type "tuple",data:=.seq #[x,y].toList.toArray }) _:=(Rest.but (b:=z) (Heap.SameBut.update (f:=Obj.mapFields λv=>v.setIfInBounds 0 (rawInt h5.objs.size)) ..) (by simp)).trans (Rest.but (b:=z) (Heap.SameBut.update (f:=Obj.mapFields λv=>v.setIfInBounds 1 (Value.bool false)) ..) (by simp))
   have q8:=(Rest.new _).trans r8
   have T8:=r8 h5.objs.size _ (by simp;exact q4g lt) (q0r _ rfl)
   simp only[<-sz] at go
   exact go x y _ e2 e4 z8 (q8 _ _ (by simp[n1]) O5') T8 (k3 _ _ ((((Rest.but (S:=[z,O,j]) r3 (by simp)).trans (.but r4 (by simp))).trans (.but r5 (by simp))).trans (q8.sub (T:=[z,O,j]) (by simp))) b2)
    (k4 _ _ ((Rest.but (S:=[z,O,i]) r5 (by simp)).trans (q8.sub (T:=[z,O,i]) (by simp))) b4) (q5.trans (q8.sub (T:=[z,O,i,j]) (by simp)))
  ·exact freed (r4 _ _ n5.symm (r3.extBut _ _ n1.symm (r2.extBut _ _ n4.symm z1))) st λh5 r5 st' =>
    stop e h5 (.inr e4) (((q3.sub (by simp)).trans (.ext r4 (by simp))).trans (r5.sub (by simp))) st'
 ·exact freed (r2 _ _ n4.symm z1) st λh3 r3 st'=>stop e h3 (.inl e2) (((q1.sub (by simp)).trans (.ext r2 (by simp))).trans (r3.sub (by simp))) st'
end
end Zo
namespace Zn
open PySem.Sem (wp)
section
variable {prog:U8}{w:W1}{A:W6}{E:U2}{hp:Heap}{g:Array GenState}{d:Drawn}{tk:Nat}{os:OsState}{it l:W9}{i n:Nat}{its:U9}{oi ol:Obj}{R:PySem.Fin->Shared->Prop}
theorem Y9u (hh:its[i]?=none->A.handled=none)(gi:hp.get? it=some oi)(di:oi.data=.fields #[.ref l,.int i 0])(gl:hp.get? l=some ol)(dl:ol.data=.seq its n)
  (go:∀ x,its[i]?=some x->R (.done (.ret x)) ⟨hp.update it (Obj.mapFields (·.setIfInBounds 1 (rawInt (i+1)))),g,d,tk,os⟩)
  (stop:∀ h' e,its[i]?=none->Heap.ExtBut it hp h'->(∃ o,h'.get? e=some o/\o.cls=.type "StopIteration")->E (.ref e) ⟨h',g,d,tk,os⟩) :
  wpAny (model prog w) A (Builtin.«tuple_iterator.__next__» ⟨[.ref it],[]⟩) R E ⟨hp,g,d,tk,os⟩:=by
 have f0:(#[Value.ref l,.int i 0]:U9)[0]?=some (.ref l):=rfl
 have f1:(#[Value.ref l,.int i 0]:U9)[1]?=some (.int i 0):=rfl
 have z0:0<(#[Value.ref l,.int i 0]:U9).size:=by simp
 have z1:1<(#[Value.ref l,.int i 0]:U9).size:=by simp
 wp_walk using q4e gi di f0,q4e gi di f1,q5l gl dl
 rw[q1h]
 cases hx:its[i]? with
 | some x =>
  dsimp only
  wp_walk using q8c gi di z1
  exact go x hx
 | none =>
  dsimp only
  have h0:=hh hx
  wp_walk using q8c gi di z0
  exact wpAny_raiseNew_none h0 (stop _ _ hx (((Heap.SameBut.update ..).extBut.push _).push _) ⟨_,q0r _ rfl,Z⟩)
end
end Zn
namespace Zp
open Zo
open PySem.Sem (wp)
def Dat (t:Bool)(h:Heap)(l:W9)(xs:U9):Prop:=if t then h.IsTuple l xs else h.IsList l xs
def Itr (t:Bool)(h:Heap)(it l:W9)(i:Nat):Prop:=if t then h.IsTupleIter it l i else h.IsListIter it l i
theorem Dat.at {t:Bool}{h h':Heap}{l:W9}{xs:U9}(d:Dat t h l xs)(e:∀ o,h.get? l=some o->h'.get? l=some o):Dat t h' l xs:=by
 cases t<;>exact let ⟨o,q,r⟩:=d;⟨o,e o q,r⟩
theorem Itr.at {t:Bool}{h h':Heap}{it l:W9}{i:Nat}(d:Itr t h it l i)(e:∀ o,h.get? it=some o->h'.get? it=some o):Itr t h' it l i:=by
 cases t<;>exact let ⟨o,q,r⟩:=d;⟨o,e o q,r⟩
theorem Itr.obj {t:Bool}{h:Heap}{it l:W9}{i:Nat}(d:Itr t h it l i):∃ o,h.get? it=some o/\∀ v,o.data≠.cell v:=by
 cases t<;>exact let ⟨o,e,_,q⟩:=d;⟨o,e,λv z=>by rw[q] at z;cases z⟩
theorem Dat.push {t:Bool}{h:Heap}{l:W9}{xs:U9}(d:Dat t h l xs)(o:Obj):Dat t (h.push o) l xs:=d.at λ_ q=>q0g _ q
def Stand (t:Bool)(it l:W9)(k:Nat)(xs:U9)(h:Heap):Prop:=Itr t h it l k/\Dat t h l xs
theorem Stand.stays {t:Bool}{it l:W9}{k:Nat}{xs:U9}{S:U3}(a:it ∉ S)(b:l ∉ S):Stays S (Stand t it l k xs):=λh h' r d=>⟨d.1.at λo q=>r _ o a q,d.2.at λo q=>r _ o b q⟩
section
variable {prog:U8}{w:W1}{A:W6}
theorem via {E:U2}{T id:String}{f:Builtin}{a:W9}{s:U7}{Q:Option Value->Shared->Prop}(sl:Slot T (Str.ofString "__next__") id)(en:entryFor table id=some f)(ar:argsOk id ⟨[.ref a],[]⟩)(ty:s.TypeIs (.ref a) T)
  (h:wpAny (model prog w) A.in1 (f ⟨[.ref a],[]⟩) (λr s'=>∃ v,r=.done (.ret v)/\Q (some v) s') E s):wpAny (model prog w) A (callSpecial? (.ref a) (Str.ofString "__next__")) Q E s :=
 q5a ty sl (q7m sl ty en h ar)
theorem pull {t:Bool}{it l:W9}{k:Nat}{xs:U9}(hh:A.handled=none):Pull prog w A it (Stand t it l k xs) (Stand t it l (k+1) xs) xs[k]?:=by
 intro Q E hp g d tk os st td
 have nl:∀ {h'},Heap.SameBut it hp h'->l≠it->Dat t h' l xs:=λr n=>st.2.at λo q=>r.extBut _ _ n q
 cases t with
 | false =>
  obtain⟨a,b⟩:hp.IsListIter it l k/\hp.IsList l xs:=st
  have n:l≠it:=by
   rintro rfl
   obtain⟨o,q,_,r⟩:=a
   obtain⟨o',q',_,_,r'⟩:=b
   rw[q] at q';cases q';rw[r] at r';cases r'
  cases hx:xs[k]? with
  | some x=>exact wpAny_nextOf_list_item a b hx λh' i r=>td.1 x h' hx ⟨i,nl r n⟩ r
  | none=>exact wpAny_nextOf_list_end hh a b hx λh' e r s=>td.2 e h' hx r s
 | true =>
  obtain⟨a,b⟩:hp.IsTupleIter it l k/\hp.IsTuple l xs:=st
  have ty:(⟨hp,g,d,tk,os⟩:U7).TypeIs (.ref it) "tuple_iterator":=a.typeIs
  obtain⟨o,q,c,r⟩:=a
  obtain⟨o',q',c',m,r'⟩:=b
  have n:l≠it:=by rintro rfl;rw[q] at q';cases q';rw[r] at r';cases r'
  unfold Builtin.SmallTypes.nextOf
  refine q0o (via F.slot_tuple_iterator_next F.entry_tuple_iterator_next (F.args_tuple_iterator_next_1 _) ty (Zn.Y9u (λ_=>hh) q r q' r' (λx hx=>⟨x,Z,q0z (td.1 x _ hx ?_ (Heap.SameBut.update ..))⟩) λh' e hx ex s=>td.2 e h' hx ex s))
  refine⟨(⟨_,q4h _ q (Obj.isFreed_of_fields (Obj.data_mapFields r _)),(Obj.cls_mapFields ..).trans c,?_⟩:Heap.IsTupleIter _ it l (k+1)),nl (Heap.SameBut.update ..) n⟩
  rw[Obj.data_mapFields r]
  rfl
variable {E:U2}
theorem Y3n {t1 t2:Bool}{z I O i j l m:W9}{k1 k2:Nat}{xs ys:U9}{a b:W2}{Q:Option Value->Shared->Prop}{s:U7}(hh:A.handled=none)(D:ZipApart z I O i j l m)
  (gz:IsZip s.heap z I O .none) (gI:IsPair s.heap I (.ref i) (.ref j)) (gO:IsPair s.heap O a b) (d1:Stand t1 i l k1 xs s.heap) (d2:Stand t2 j m k2 ys s.heap)
  (go:∀ x y h',xs[k1]?=some x->ys[k2]?=some y->IsZip h' z I O (rawInt s.heap.objs.size)->IsPair h' O x y->IsPair h' s.heap.objs.size x y->Stand t1 i l (k1+1) xs h'->Stand t2 j m (k2+1) ys h' →
   Rest [z,O,i,j] s.heap h'->Q (some (.ref s.heap.objs.size)) ⟨h',s.gens,s.drawn,s.toks,s.os⟩)
  (stop:∀ h',xs[k1]?=none∨ys[k2]?=none->Rest [z,O,i,j] s.heap h'->Q none ⟨h',s.gens,s.drawn,s.toks,s.os⟩):wpAny (model prog w) A (pyNext (.ref z)) Q E s:=by
 obtain⟨hp,g,d,tk,os⟩:=s
 unfold pyNext
 refine q0o (wpAny_attempt (via F.slot_zip_next F.entry_zip_next (F.args_zip_next_1 _) ⟨_,gz,Z⟩ (step gz gI gO ⟨D.TOz,D.TOi1,D.TOi2,D.i1z,D.i2z⟩ (pull (A:=A.in1) hh) (pull (A:=A.in1) hh) d1 d2 ?_ ?_ ?_ ?_ ?_ ?_)))
 ·exact Stand.stays (by simp[D.i1z,D.TOi1.symm,D.i12]) (by simp[D.l1z,D.l1TO,D.l1i2])
 ·exact Stand.stays (by simp[D.i2z,D.TOi2.symm,D.i12.symm]) (by simp[D.l2z,D.l2TO,D.l2i1])
 ·exact Stand.stays (by simp[D.i1z,D.TOi1.symm,D.i12]) (by simp[D.l1z,D.l1TO,D.l1i2])
 ·exact Stand.stays (by simp[D.i2z,D.TOi2.symm,D.i12.symm]) (by simp[D.l2z,D.l2TO,D.l2i1])
 ·exact λx y h' e1 e2 b1 b2 b3 b4 b5 b6=>⟨_,Z,q0z (go x y h' e1 e2 b1 b2 b3 b4 b5 b6)⟩
 ·rintro e h' n r ⟨o,q,c⟩
  exact q0o (wpAny_isInstance (b:=true) ⟨o,q,c⟩ isSubtype_stop (q0z (stop h' n r)))
end
noncomputable abbrev itObj (t:Bool)(l:W9):Obj:={ cls:=.type (if t then "tuple_iterator" else "list_iterator"),data:=.fields #[.ref l,.int 0 0] }
theorem Y8b {t:Bool}{h:Heap}{it l:W9}(e:h.get? it=some (itObj t l)):Itr t h it l 0:=by
 cases t<;>exact⟨_,e,Z,Z⟩
theorem push5 {h:Heap}{o0 o1 o2 o3 o4:Obj}(f0:o0.isFreed=false)(f1:o1.isFreed=false)(f2:o2.isFreed=false)(f3:o3.isFreed=false)(f4:o4.isFreed=false){H:Heap}(e:H=((((h.push o0).push o1).push o2).push o3).push o4) :
  H.get? h.objs.size=some o0/\H.get? (h.objs.size+1)=some o1/\H.get? (h.objs.size+2)=some o2/\H.get? (h.objs.size+3)=some o3/\H.get? (h.objs.size+4)=some o4/\∀ c o,h.get? c=some o->H.get? c=some o:=by
 subst e
 have w:∀ {h:Heap}{a:W9}{o o':Obj},h.get? a=some o->(h.push o').get? a=some o:=λq=>q0g _ q
 have s1:(h.push o0).objs.size=h.objs.size+1:=q2h ..
 have s2:((h.push o0).push o1).objs.size=h.objs.size+2:=by rw[q2h,s1]
 have s3:(((h.push o0).push o1).push o2).objs.size=h.objs.size+3:=by rw[q2h,s2]
 have s4:((((h.push o0).push o1).push o2).push o3).objs.size=h.objs.size+4:=by rw[q2h,s3]
 refine⟨w (w (w (w (q0r _ f0)))),?_,?_,?_,?_,λc o q=>w (w (w (w (w q))))⟩
 ·rw[<-s1];exact w (w (w (q0r _ f1)))
 ·rw[<-s2];exact w (w (q0r _ f2))
 ·rw[<-s3];exact w (q0r _ f3)
 ·rw[<-s4];exact q0r _ f4
structure New (t1 t2:Bool) (h h':Heap) (l m:W9):Prop where
 z:IsZip h' (h.objs.size+4) (h.objs.size+2) (h.objs.size+3) .none
 I:IsPair h' (h.objs.size+2) (.ref h.objs.size) (.ref (h.objs.size+1))
 O:IsPair h' (h.objs.size+3) .none .none
 i:Itr t1 h' h.objs.size l 0
 j:Itr t2 h' (h.objs.size+1) m 0
 k:Rest [] h h'
section
variable {prog:U8}{w:W1}{A:W6}{E:U2}{s:U7}
theorem Y3u {t:Bool}{l:W9}{xs:U9}{Q:U2}(hl:Dat t s.heap l xs)(h:Q (.ref s.heap.objs.size) { s with heap:=s.heap.push (itObj t l) }):wpAny (model prog w) A (pyIter (.ref l)) Q E s:=by
 cases t
 ·exact q5g (show s.heap.IsList l xs from hl) h
 ·exact q4z (show s.heap.IsTuple l xs from hl) h
theorem Y7s (t1 t2:Bool)(l m:W9)(xs ys:U9) :
  Meets (Builtin.«zip.__new__» ⟨[.type "zip",.ref l,.ref m],[]⟩) (λ_ R s=>Dat t1 s.heap l xs/\Dat t2 s.heap m ys ∧
   ∀ h',New t1 t2 s.heap h' l m->R (.ok (.ret (.ref (s.heap.objs.size+4)))) { s with heap:=h' }) :=
 .of_wp λprog w A R s h=>by
  rcases s with ⟨hp,g,d,tk,os⟩
  rcases h with ⟨b1,b2,h⟩
  have hsub:=sub_zip
  have L1:Dat t1 (Shared.heap ⟨hp,g,d,tk,os⟩) l xs:=b1
  have L2:Dat t2 (Shared.heap ⟨hp.push (itObj t1 l),g,d,tk,os⟩) m ys:=b2.push _
  wp_walk using Y3u L1,Y3u L2
  have key:∀ n1 n2 n3 n4,n1=hp.objs.size+1->n2=hp.objs.size+2->n3=hp.objs.size+3->n4=hp.objs.size+4 →
    R (.ok (.ret (.ref n4))) ⟨((((hp.push (itObj t1 l)).push (itObj t2 m)).push { cls:=.type "tuple",data:=.seq #[.ref hp.objs.size,.ref n1] }).push { cls:=.type "tuple",data:=.seq #[.none,.none] }).push
     { cls:=.type "zip",data:=.fields #[.none,.bool false,.bool false,.ref n2,.ref n3] },g,d,tk,os⟩:=by
   rintro _ _ _ _ rfl rfl rfl rfl
   obtain⟨a0,a1,a2,a3,a4,a5⟩:=push5 (h:=hp) (o0:=itObj t1 l) (o1:=itObj t2 m) (o2:={ cls:=.type "tuple",data:=.seq #[.ref hp.objs.size,.ref (hp.objs.size+1)] }) (o3:={ cls:=.type "tuple",data:=.seq #[.none,.none] })
    (o4:={ cls:=.type "zip",data:=.fields #[.none,.bool false,.bool false,.ref (hp.objs.size+2),.ref (hp.objs.size+3)] }) rfl rfl rfl rfl rfl rfl
   exact h _ ⟨a4,a2,a3,Y8b a0,Y8b a1,λc o _ q=>a5 c o q⟩
  exact⟨_,Z,key _ _ _ _ (by simp only[q2h]) (by simp only[q2h]) (by simp only[q2h]) (by simp only[q2h])⟩
theorem X1y {t1 t2:Bool}{l m:W9}{xs ys:U9}{Q:U2}(b1:Dat t1 s.heap l xs)(b2:Dat t2 s.heap m ys)
  (k:∀ h',New t1 t2 s.heap h' l m->Q (.ref (s.heap.objs.size+4)) { s with heap:=h' }):wpAny (model prog w) A (call (.type "zip") [.ref l,.ref m]) Q E s :=
 callType_new F.called_zip (by decide) (F.typeCall_zip_2 _ _) (F.newCall_zip_2 _ _) (λo=>F.args_object_init_3 o _ _) F.entry_zip_new (Y7s t1 t2 l m xs ys) ⟨b1,b2,λh' n=>⟨⟨_,n.z,Z⟩,k h' n⟩⟩
end
end Zp
namespace L2
section
variable {X:Cx}{pins:U1}{σ:St}{H:Hp}{s:U7}{h':Heap}
theorem Inv.turnedL {t':Nat}{ch:U3}(I:Inv X pins σ H s)(k:∀ b o,b ∉ ch->s.heap.get? b=some o->h'.get? b=some o)(hf:∀ b∈ch,FpOk X pins H b):Inv X pins σ H { s with heap:=h',toks:=t' }:=by
 have nit:∀ b u,H b=some u->b ∉ ch:=λb u e z=>by rw[(hf b z).1] at e;cases e
 refine I.step (g':=s.gens) (d':=s.drawn) (ch:=ch) (λb hb=>⟨(hf b hb).2.2.2.1,(hf b hb).2.1,(hf b hb).2.2.2.2.1,(hf b hb).2.2.2.2.2⟩) (λb o _ _ hc e _=>k b o hc e) (λb o _ _ hc e _=>⟨o.slots,k b o hc e⟩) (λ_ _ _ _ n=>n)
  (λb o hc e=>⟨o,k b o hc e⟩) (λ_ _ e=>e) (λ_ _ _ e=>e) (λb ps e=>⟨#[],by rw[e];simp⟩) (λm hm=>?_) (λb u e=>?_) I.bare
 ·obtain⟨o,es,ep,ho,r⟩:=hm
  exact⟨o,es,ep,k _ o (λz=>(hf _ z).2.1 rfl) ho,r⟩
 ·refine(I.hok b u e).stay (λc v hc q=>k c v ?_ q) (λ_ q=>q) λ_ _ q=>q
  rcases hc with z | z
  ·rw[z];exact nit b u e
  ·exact nit c _ z
theorem Inv.turnedT {t':Nat}{ch:U3}{T:W9}{xs:List V}{its:U5}(I:Inv X pins σ H s)(k:∀ b o,b ∉ ch->s.heap.get? b=some o->h'.get? b=some o)(hf:∀ b∈ch,FpOk X pins H b)(hT:s.heap.objs.size<=T)(hv:Vals xs its)(hz:xs.length<=sizeLine)(ht:IsTup h' T its.toArray) :
  Inv X pins σ (upd H T (.tup xs)) { s with heap:=h',toks:=t' }:=by
 have nit:∀ b u,H b=some u->b ∉ ch:=λb u e z=>by rw[(hf b z).1] at e;cases e
 have hTn:H T=none:=I.hok.fresh hT
 have neT:∀ b o,s.heap.get? b=some o->b≠T:=λb o e=>q0w (q0l (q0h e) hT)
 have neH:∀ b u,H b=some u->b≠T:=λb u e z=>by rw[z,hTn] at e;cases e
 refine I.step (g':=s.gens) (d':=s.drawn) (ch:=ch) (λb hb=>⟨(hf b hb).2.2.2.1,(hf b hb).2.1,(hf b hb).2.2.2.2.1,(hf b hb).2.2.2.2.2⟩) (λb o _ _ hc e _=>k b o hc e) (λb o _ _ hc e _=>⟨o.slots,k b o hc e⟩)
  (λb o _ e n=>by rw[Z1d (neT b o e)];exact n)
  (λb o hc e=>⟨o,k b o hc e⟩) (λb ys e=>by rw[Z1d (neH b _ e)];exact e) (λb o u e=>by rw[Z1d (neH b _ e)];exact e) (λb ps e=>⟨#[],by rw[Z1d (neH b _ e),e];simp⟩) (λm hm=>?_) (λb u e=>?_) I.bare
 ·obtain⟨o,es,ep,ho,r⟩:=hm
  exact⟨o,es,ep,k _ o (λz=>(hf _ z).2.1 rfl) ho,r⟩
 ·by_cases hb:b=T
  ·subst hb
   rw[Z0d] at e
   cases e
   exact⟨hz,its,hv,ht⟩
  ·rw[Z1d hb] at e
   refine(I.hok b u e).stay (λc v hc q=>k c v ?_ q) (λc q=>by rw[Z1d (neH c _ q)];exact q) λc ys q=>by rw[Z1d (neH c _ q)];exact q
   rcases hc with z | z
   ·rw[z];exact nit b u e
   ·exact nit c _ z
end
def SqX (t:Bool)(K:U0)(H:Hp)(a:W9)(xs:List V):Prop:=if t then SqT K H a xs else SqL K H a xs
theorem Inv.sqx {X:Cx}{pins:U1}{σ:St}{H:Hp}{s:U7}{t:Bool}{a:W9}{xs:List V}(I:Inv X pins σ H s)(h:SqX t X.K H a xs):∃ its:List Value,Vals xs its/\Zp.Dat t s.heap a its.toArray/\xs.length<=sizeLine:=by
 cases t
 ·obtain⟨its,v,p,z⟩:=I.list (show SqL X.K H a xs from h)
  exact⟨its,v,p.isList,z⟩
 ·obtain⟨its,v,p,z⟩:=I.tuple (show SqT X.K H a xs from h)
  exact⟨its,v,p,z⟩
theorem Inv.sqx_inj {X:Cx}{pins:U1}{σ:St}{H:Hp}{s:U7}{t:Bool}{a:W9}{xs ys:List V}(I:Inv X pins σ H s)(h:SqX t X.K H a xs)(h':SqX t X.K H a ys):xs=ys:=by
 cases t
 ·exact I.list_inj (show SqL X.K H a xs from h) h'
 ·exact I.tuple_inj (show SqT X.K H a xs from h) h'
def Itz (t1 t2:Bool)(K:U0)(l1 l2:W9):It :=
 ⟨λi H=>∃ xs x ys y,SqX t1 K H l1 xs/\xs[i]?=some x/\SqX t2 K H l2 ys/\ys[i]?=some y,
 λi H v H'=>∃ T x y,v=.ref T/\H T=none/\H'=upd H T (.tup [x,y])/\(∀ xs,SqX t1 K H l1 xs->xs[i]?=some x)/\∀ ys,SqX t2 K H l2 ys->ys[i]?=some y,
 λi H=>∃ xs ys,SqX t1 K H l1 xs/\SqX t2 K H l2 ys/\(xs.length<=i∨ys.length<=i)⟩
theorem Y9s {P:U8}{w:W1}{K:U0}{es:List Expr}{kk:Nat}{tp:Pos}{t1 t2:Bool}{z TI TO i1 i2 l1 l2:W9}(D:ZipApart z TI TO i1 i2 l1 l2) :
  Turn P w K (.Tuple es kk tp) (Itz t1 t2 K l1 l2) [z,TI,TO,i1,i2] z (λi h=>IsZip h z TI TO .none/\IsPair h TI (.ref i1) (.ref i2)/\(∃ a b,IsPair h TO a b)/\Zp.Itr t1 h i1 l1 i/\Zp.Itr t2 h i2 l2 i) where
 mem:=by simp
 obj:=λi h st b hb=>by
  obtain⟨a1,a2,⟨x,y,a3⟩,a4,a5⟩:=st
  simp only[q0p,q1l,q2t] at hb
  rcases hb with rfl | rfl | rfl | rfl | rfl
  ·exact⟨_,a1,λv q=>by have q':Data.fields _=Data.cell v:=q;cases q'⟩
  ·exact⟨_,a2,λv q=>by have q':Data.seq _ _=Data.cell v:=q;cases q'⟩
  ·exact⟨_,a3,λv q=>by have q':Data.seq _ _=Data.cell v:=q;cases q'⟩
  ·exact a4.obj
  ·exact a5.obj
 keep:=λi h h' st k=>by
  obtain⟨a1,a2,⟨x,y,a3⟩,a4,a5⟩:=st
  exact⟨k z (by simp) _ a1,k TI (by simp) _ a2,⟨x,y,k TO (by simp) _ a3⟩,a4.at λo e=>k i1 (by simp) o e,a5.at λo e=>k i2 (by simp) o e⟩
 item:=by
  intro X hP hw hK hc i pins s σ H E I hf st hg
  subst hP hw hK
  obtain⟨xs,x,ys,y,q1,hx,q2,hy⟩:=hg
  obtain⟨a1,a2,⟨u1,u2,a3⟩,a4,a5⟩:=st
  obtain⟨its,rv,dt,hz⟩:=I.sqx q1
  obtain⟨its',rv',dt',hz'⟩:=I.sqx q2
  obtain⟨vx,hvx,rx⟩:=rv.get hx
  obtain⟨vy,hvy,ry⟩:=rv'.get hy
  refine Zp.Y3n (I.ok.hd hc) D a1 a2 a3 (d1:=⟨a4,dt⟩) (d2:=⟨a5,dt'⟩) (λwx wy h' f1 f2 b1 b2 b5 b3 b4 bk=>?_) (λh' n _=>?_)
  rotate_left
  ·exfalso
   rcases n with n | n
   ·rw[show its.toArray[i]?=some vx by simpa using hvx] at n;cases n
   ·rw[show its'.toArray[i]?=some vy by simpa using hvy] at n;cases n
  obtain rfl:vx=wx:=Option.some.inj ((show its.toArray[i]?=some vx by simpa using hvx).symm.trans f1)
  obtain rfl:vy=wy:=Option.some.inj ((show its'.toArray[i]?=some vy by simpa using hvy).symm.trans f2)
  refine⟨_,Z,wpAny_letOwnedTupleGo_zip b1 λh2 c1 sb=>?_⟩
  have zT:s.heap.objs.size≠z:=q4g (q0h a1)
  have k2:∀ b o,b ∉ [z,TI,TO,i1,i2]->s.heap.get? b=some o->h2.get? b=some o:=λb o hb e=>by
   simp only[q0p,q1l,q2t,not_or] at hb
   exact sb.extBut b o hb.1 (bk b o (by simp[hb]) e)
  have hT:IsTup h2 s.heap.objs.size ([vx,vy]:U5).toArray:=⟨_,sb.extBut _ _ zT b5,Z,_,Z⟩
  refine⟨.ref s.heap.objs.size,upd H s.heap.objs.size (.tup [x,y]),I.turnedT (t':=s.toks) k2 hf (q0f _) (.cons rx (.cons ry .nil)) (by show 2<=sizeLine;decide) hT,Z,⟨_,x,y,Z,I.hok.fresh (q0f _),Z,λxs' h1=>?_,λys' h1=>?_⟩,⟨c1,?_,⟨vx,vy,?_⟩,?_,?_⟩,λb hb=>?_⟩
  ·rw[I.sqx_inj h1 q1];exact hx
  ·rw[I.sqx_inj h1 q2];exact hy
  ·exact sb.extBut _ _ D.TIz (bk _ _ (by simp[D.TIz,D.TITO,D.TIi1,D.TIi2]) a2)
  ·exact sb.extBut _ _ D.TOz b2
  ·exact b3.1.at λo q=>sb.extBut _ _ D.i1z q
  ·exact b4.1.at λo q=>sb.extBut _ _ D.i2z q
  ·have hlt:b<s.heap.objs.size:=by
    simp only[q0p,q1l,q2t] at hb
    rcases hb with rfl | rfl | rfl | rfl | rfl
    ·exact q0h a1
    ·exact q0h a2
    ·exact q0h a3
    ·obtain⟨o,e,_⟩:=a4.obj;exact q0h e
    ·obtain⟨o,e,_⟩:=a5.obj;exact q0h e
   rw[Z1d (q0w hlt)]
   exact(hf b hb).1
 done:=by
  intro X hP hw hK hc i pins s σ H E I hf st hg
  subst hP hw hK
  obtain⟨xs,ys,q1,q2,hend⟩:=hg
  obtain⟨a1,a2,⟨u1,u2,a3⟩,a4,a5⟩:=st
  obtain⟨its,rv,dt,hz⟩:=I.sqx q1
  obtain⟨its',rv',dt',hz'⟩:=I.sqx q2
  have e1:=rv.length
  have e2:=rv'.length
  have hend':its.toArray[i]?=none∨its'.toArray[i]?=none:=by
   rcases hend with h | h
   ·left;simp;omega
   ·right;simp;omega
  refine Zp.Y3n (I.ok.hd hc) D a1 a2 a3 (d1:=⟨a4,dt⟩) (d2:=⟨a5,dt'⟩) (λwx wy h' f1 f2 b1 b2 b5 b3 b4 bk=>?_) (λh' n bk=>⟨Z,I.turnedL (t':=s.toks) (λb o hb e=>?_) hf⟩)
  ·exfalso
   rcases hend' with n | n
   ·rw[f1] at n;cases n
   ·rw[f2] at n;cases n
  ·simp only[q0p,q1l,q2t,not_or] at hb
   exact bk b o (by simp[hb]) e
 self:=λ_ _ _ _ _ st h=>wpAny_pyIter_zip st.1 h
section
variable {X:Cx}{es:List Expr}{kk:Nat}{tp:Pos}
def iZip (t1 t2:Bool)(K:U0)(ta:TA):TI:=λσ H R=>ta σ H λvs H1=>∃ l1 l2 xs ys,vs=[.ref l1,.ref l2]/\SqX t1 K H1 l1 xs/\SqX t2 K H1 l2 ys/\R (Itz t1 t2 K l1 l2) H1
theorem X2p (t1 t2:Bool){a b:Expr}{ta:TA}{p pos:Pos}(hg:Gl X "zip")(hm:X.mg "zip"=none)(ha:PA X [a,b] ta)(hs:starEach [a,b] X.env=[(false,eval a X.env),(false,eval b X.env)]:=by rfl)(hs2:starEach [b] X.env=[(false,eval b X.env)]:=by rfl) :
  PI X (.Tuple es kk tp) (.Call (.Name "zip" p) [a,b] [] pos) (iZip t1 t2 X.K ta):=by
 intro pins s σ H R I h
 refine Call_ (Z5y I hg hm boot_zip (PyProof.Rows.callWith_type1 (thn (ha pos pins s σ H _ I h) λus s1 ⟨vs,H1,I1,r1,q1⟩=>?_) (by rw[hs,hs2]) (by rw[hs2];rfl)))
 obtain⟨l1,l2,xs,ys,e,h1,h2,q⟩:=q1
 subst e
 cases r1 with
 | cons r rr =>
  cases rr with
  | cons r' rr =>
   cases rr
   cases r
   cases r'
   obtain⟨its,rv,dt,hz⟩:=I1.sqx h1
   obtain⟨its',rv',dt',hz'⟩:=I1.sqx h2
   refine Zp.X1y dt dt' λh' ⟨z1,z2,z3,z4,z5,zk'⟩=>?_
   have zk:∀ c o,s1.heap.get? c=some o->h'.get? c=some o:=λc o q=>zk' c o (by simp) q
   have I2:Inv X pins σ H1 { s1 with heap:=h' }:=I1.kept (t':=s1.toks) zk
   have lt1:l1<s1.heap.objs.size:=by
    cases t1
    ·obtain⟨o,e,_⟩:=(show s1.heap.IsList l1 _ from dt);exact q0h e
    ·obtain⟨o,e,_⟩:=(show s1.heap.IsTuple l1 _ from dt);exact q0h e
   have lt2:l2<s1.heap.objs.size:=by
    cases t2
    ·obtain⟨o,e,_⟩:=(show s1.heap.IsList l2 _ from dt');exact q0h e
    ·obtain⟨o,e,_⟩:=(show s1.heap.IsTuple l2 _ from dt');exact q0h e
   have D:ZipApart (s1.heap.objs.size+4) (s1.heap.objs.size+2) (s1.heap.objs.size+3) s1.heap.objs.size (s1.heap.objs.size+1) l1 l2:=zipApart_new lt1 lt2
   refine wpAny_pyIter_zip z1 ⟨_,_,_,_,H1,Z,I2,Y9s D,⟨z1,z2,⟨_,_,z3⟩,z4,z5⟩,λb hb=>?_,q⟩
   have hge:s1.heap.objs.size<=b:=by
    simp only[q0p,q1l,q2t] at hb
    rcases hb with rfl | rfl | rfl | rfl | rfl
    ·exact q5w _ _
    ·exact q5w _ _
    ·exact q5w _ _
    ·exact q0f _
    ·exact q5w _ _
   exact I1.fpOk hge (I1.hok.fresh hge)
end
theorem X2z {t1 t2:Bool}{K:U0}{l1 l2:W9}{g:TG}{xs ys:List V}{te:TE}{fr:St}{H1:Hp}{acc:W9}{Q:VK}(Pv:Nat->List V->Hp->Prop)(hxy:xs.length=ys.length)(hn:xs.length<=sizeLine)(h0:Pv 0 [] (upd H1 acc (.lst [])))
  (hg:∀ {a:W9}{x y v1 v2:V}{w1 w2:Option V}{H:Hp}{Q:St->Hp->Prop},H a=some (.tup [x,y])->Q (some x::some y::fr) H->g (.ref a) (w1::w2::fr) H Q)
  (hl:∀ i zs H,Pv i zs H->SqX t1 K H l1 xs/\SqX t2 K H l2 ys)
  (hs:∀ i x y zs H T (N:V->Hp->Prop),xs[i]?=some x->ys[i]?=some y->zs.length=i->Pv i zs H->H T=none->(∀ z H5,H5 acc=some (.lst zs)->Pv (i+1) (zs++[z]) (upd H5 acc (.lst (zs++[z])))->N z H5)->te (some x::some y::fr) (upd H T (.tup [x,y])) N)
  (hd:∀ zs H,zs.length=xs.length->Pv xs.length zs H->Q (.ref acc) H):LcW (Itz t1 t2 K l1 l2) g te (none::none::fr) H1 acc Q:=by
 refine⟨λi m zs σ2 H2=>m=xs.length-i/\i<=xs.length/\zs.length=i/\(∃ v w,σ2=v::w::fr)/\Pv i zs H2,⟨xs.length,by simp,q1e _,Z,⟨_,_,Z⟩,h0⟩,?_⟩
 rintro i m zs σ2 H2 ⟨rfl,hi,hl2,⟨v,w,rfl⟩,p⟩
 obtain⟨s1,s2⟩:=hl i zs H2 p
 by_cases hlt:i<xs.length
 ·have e1:xs[i]?=some xs[i]:=by simp[hlt]
  have e2:ys[i]?=some (ys[i]'(by omega)):=by simp[show i<ys.length by omega]
  refine .inr ⟨⟨xs,_,ys,_,s1,e1,s2,e2⟩,λu H3 y3=>?_⟩
  obtain⟨T,x,y,rfl,hT,rfl,h1,h2⟩:=y3
  have hx:=h1 xs s1
  have hy:=h2 ys s2
  refine hg (v1:=x) (v2:=y) (Z0d) ?_
  refine hs i x y zs H2 T _ hx hy hl2 p hT λz H5 a5 p5=>⟨a5,by omega,xs.length-(i+1),by omega,Z,hlt,by rw[q0c,hl2];rfl,⟨_,_,Z⟩,p5⟩
 ·have e:i=xs.length:=by omega
  subst e
  exact .inl ⟨⟨xs,ys,s1,s2,.inl (q0f _)⟩,hd zs H2 hl2 p⟩
end L2
namespace Bt
theorem Y1q (x y:Nat):(x&&&y)=2*((x / 2)&&&(y / 2))+(x%2)*(y%2):=by
 have h1:(x&&&y) / 2=(x / 2)&&&(y / 2):=Nat.and_div_two
 have h2:(x&&&y)%2=1 ↔ x%2=1/\y%2=1:=Nat.and_mod_two_eq_one
 rcases q0y x with a | a<;>rcases q0y y with b | b<;>rw[a,b] at h2 ⊢<;>omega
theorem X8w (x y:Nat):(x ||| y)=2*((x / 2) ||| (y / 2))+(x%2+y%2-(x%2)*(y%2)):=by
 have h1:(x ||| y) / 2=(x / 2) ||| (y / 2):=Nat.or_div_two
 have h2:(x ||| y)%2=1 ↔ x%2=1∨y%2=1:=Nat.or_mod_two_eq_one
 rcases q0y x with a | a<;>rcases q0y y with b | b<;>rw[a,b] at h2 ⊢<;>omega
def Half (x y:Int):Prop:=Builtin.bitAnd x y=2*Builtin.bitAnd (x / 2) (y / 2)+(x%2)*(y%2)
theorem Half.swap {x y:Int}(h:Half x y):Half y x:=by
 unfold Half at h ⊢
 rw[bitAnd_comm y x,bitAnd_comm (y / 2),q2k (y%2)];exact h
theorem Half.flip {x y:Int}(h:Half x (Builtin.bitNot y)):Half x y:=by
 unfold Half at h ⊢
 have e:=bitAnd_not x (Builtin.bitNot y)
 have e2:=bitAnd_not (x / 2) (Builtin.bitNot (y / 2))
 rw[q7f] at e e2
 have q:Builtin.bitNot (y / 2)=Builtin.bitNot y / 2:=by unfold Builtin.bitNot;omega
 have p:x%2*(y%2)=x%2-x%2*(Builtin.bitNot y%2):=by
  rw[show y%2=1-Builtin.bitNot y%2 by unfold Builtin.bitNot;omega,Int.mul_sub,q6m]
 rw[e,e2,q,h,p];omega
theorem Half.pos {x y:Int}(hx:0<=x)(hy:0<=y):Half x y:=by
 have h:∀ {z:Int},0<=z->z.toNat / 2=(z / 2).toNat/\((z.toNat%2:Nat):Int)=z%2:=λh=>by omega
 unfold Half
 rw[bitAnd_pp hx hy,bitAnd_pp (Int.ediv_nonneg hx (by decide)) (Int.ediv_nonneg hy (by decide)),Y1q,(h hx).1,(h hy).1,<-(h hx).2,<-(h hy).2,q6l,Int.natCast_mul,Int.natCast_mul];rfl
theorem Half.right {x:Int}(hx:0<=x)(y:Int):Half x y :=
 (Classical.em (0<=y)).elim (Half.pos hx) λhy=>(Half.pos hx (bitNot_nonneg.mpr hy)).flip
theorem Z9j (x y:Int):Builtin.bitAnd x y=2*Builtin.bitAnd (x / 2) (y / 2)+(x%2)*(y%2) :=
 (Classical.em (0<=x)).elim (λhx=>Half.right hx y) λhx=>(Half.right (bitNot_nonneg.mpr hx) y).swap.flip.swap
theorem X4v (x y:Int):Builtin.bitOr x y=2*Builtin.bitOr (x / 2) (y / 2)+(x%2+y%2-(x%2)*(y%2)):=by
 rw[bitOr_and,bitOr_and,Z9j]
 omega
theorem Z4b {v:Nat}{x:Int}:(2:Int)^(v+1) ∣ x ↔ x%2=0/\(2:Int)^v ∣ x / 2:=by
 constructor
 ·rintro ⟨k,rfl⟩
  have e:(2:Int)^(v+1)*k=2*(2^v*k):=by rw[q3i];grind
  rw[e]
  exact⟨by omega,⟨k,by omega⟩⟩
 ·rintro ⟨h0,k,hk⟩
  refine⟨k,?_⟩
  have e:(2:Int)^(v+1)*k=2*(2^v*k):=by rw[q3i];grind
  rw[e,<-hk]
  omega
theorem Z7s:∀ (v:Nat) (x y:Int),(2:Int)^v ∣ Builtin.bitOr x y ↔ (2:Int)^v ∣ x/\(2:Int)^v ∣ y
 | 0,x,y=>by simp
 | v+1,x,y=>by
  rw[Z4b,Z4b,Z4b]
  have e:=X4v x y
  have ih:=Z7s v (x / 2) (y / 2)
  have ex:=q8b x
  have ey:=q8b y
  rcases ex with a | a<;>rcases ey with b | b<;>rw[a,b] at e ⊢
  ·have e2:Builtin.bitOr x y / 2=Builtin.bitOr (x / 2) (y / 2):=by omega
   rw[e2,ih]
   have e3:Builtin.bitOr x y%2=0:=by omega
   simp[e3]
  all_goals
   have e3:Builtin.bitOr x y%2=1:=by omega
   simp[e3]
theorem Y5c (n:Nat):n<2^n:=Nat.lt_two_pow_self
theorem Z6o {x:Int}(h:∀ v:Nat,(2:Int)^v ∣ x):x=0:=by
 have h1:=h x.natAbs
 apply Classical.byContradiction
 intro hx
 have h2:=Int.natAbs_dvd_natAbs.mpr h1
 have h3:=Nat.le_of_dvd (by omega) h2
 rw[Int.natAbs_pow] at h3
 have:=Y5c x.natAbs
 have e:(2:Int).natAbs=2:=rfl
 rw[e] at h3
 omega
theorem Y1l {x y:Int}:Builtin.bitOr x y=0 ↔ x=0/\y=0:=by
 constructor
 ·intro h
  have hd:∀ v:Nat,(2:Int)^v ∣ Builtin.bitOr x y:=λv=>by rw[h];exact Int.dvd_zero _
  exact⟨Z6o λv=>((Z7s v x y).mp (hd v)).1,Z6o λv=>((Z7s v x y).mp (hd v)).2⟩
 ·rintro ⟨rfl,rfl⟩
  decide +kernel
theorem Y7u:∀ (n:Nat) (p:Int),p.natAbs<n->p≠0->∃ (v:Nat) (q:Int),p=2^v*q/\q%2=1/\Builtin.bitAnd p (-p)=((2^v:Nat):Int)
 | 0,p,h,_=>by omega
 | n+1,p,h,hp=>by
  rcases q8b p with h0 | h1
  ·obtain⟨v,q,e,o,b⟩:=Y7u n (p / 2) (by omega) (by omega)
   refine⟨v+1,q,?_,o,?_⟩
   ·have e2:(2:Int)^(v+1)*q=2*(2^v*q):=by rw[q3i];grind
    rw[e2,<-e];omega
   ·rw[Z9j,show (-p) / 2=-(p / 2) by omega,b,h0,q8s]
    omega
  ·refine⟨0,p,by simp,h1,?_⟩
   rw[Z9j,show (-p) / 2=Builtin.bitNot (p / 2) by unfold Builtin.bitNot;omega,bitAnd_not,bitAnd_self,h1,show (-p)%2=1 by omega]
   rw[Int.sub_self];rfl
theorem Z9f (v:Nat):Builtin.Int.intBits ((2^v:Nat):Int)=v+1:=by
 unfold Builtin.Int.intBits
 have hp:0<2^v:=q2f v
 have hne:((((2^v:Nat):Int)) == 0)=false:=by
  rw[beq_eq_false_iff_ne];omega
 rw[hne,Int.natAbs_natCast,Nat.log2_two_pow]
 rfl
end Bt
namespace L2
section
variable {X:Cx}
def CShl (i j:Int):Prop:=∃ a,Sz a i/\0<=j/\(a:Int)+j<=1048576
theorem Z2f:OpR X (binaryOp .LShift) (rI CShl λi j=>.int (i*2^j.toNat)):=opI λi j _ _ _ _ _ hc q=>by
 obtain⟨a,h1,h2,h3⟩:=hc
 have:=h1.bits
 exact lshift_int h2 (by omega) q
theorem Z5b:MtR X "int.bit_length" (λx xs H Q=>∃ i,x=.int i/\xs=[]/\Q (.int (Builtin.Int.intBits i:Nat)) H):=by
 intro pins s σ H x xs v us Q I rx rs h
 obtain⟨i,rfl,rfl,q⟩:=h
 obtain⟨t,rfl⟩:=rx
 cases rs
 refine call_gives q2m (q8m s i t) PySem.F.entry_int_bit_length (PySem.F.args_int_bit_length_1 _) (PySem.AutoIntG2.int_bit_length_int_0 i t) ?_
 exact⟨.int (Builtin.Int.intBits i:Nat),H,I.tok _,⟨_,Z⟩,q⟩
theorem Y0u (hc:X.calm=true):CallR X (.builtin "any") (λxs H Q=>∃ (p:W9) (bs:List Bool),xs=[.ref p]/\SqL X.K H p (bs.map V.bl)/\Q (.bl (bs.any id)) H):=by
 intro pins s σ H xs us Q I r h
 obtain⟨p,bs,rfl,hq,q⟩:=h
 obtain⟨u,rfl,ru⟩:=r.one
 cases ru
 obtain⟨its,rv,pl,hz⟩:=I.list hq
 have hlen:its.length=bs.length:=by rw[<-rv.length,q0a]
 refine call_any_walk (q5g pl.isList ?_)
 have W:=Walks.list (prog:=X.prog) (w:=X.w) (A:=X.A.in1) (show X.A.in1.handled=none from I.ok.hd hc) s.heap.objs.size p (by
  obtain⟨o,e,_⟩:=pl.isList
  exact q0w (q0h e)) its.toArray
 refine⟨s.heap.objs.size,_,_,_,_,_,λi=>bs.getD i false,Z,W,⟨⟨_,q0r _ rfl,Z,Z⟩,pl.isList.push _⟩,?_,λh' tk hk=>?_⟩
 ·intro i v s' Q' E' hv hQ
  have hv':its[i]?=some v:=by simpa using hv
  have hi:i<bs.length:=by rw[<-hlen];exact(q0t.mp hv').1
  have hb:(bs.map V.bl)[i]?=some (.bl (bs.getD i false)):=by
   rw[q0k,q0d hi,q1b,q0d hi];rfl
  obtain⟨u,hu,ru⟩:=rv.get hb
  rw[hv'] at hu
  cases hu
  cases ru
  exact q2j hQ
 ·have e:(List.range its.toArray.size).any (λi=>bs.getD i false)=bs.any id:=by
   rw[q0i,hlen]
   rw[q2q,q5z,q5z]
   constructor
   ·rintro ⟨i,hi,hb⟩
    have hi':i<bs.length:=q0s.mp hi
    rw[q1b,q0d hi'] at hb
    exact⟨bs[i],q5y hi',hb⟩
   ·rintro ⟨b,hb,hb'⟩
    obtain⟨i,hi,rfl⟩:=List.mem_iff_getElem.mp hb
    refine⟨i,q0s.mpr hi,?_⟩
    rw[q1b,q0d hi]
    exact hb'
  rw[e]
  refine⟨.bl (bs.any id),H,?_,Z,q⟩
  exact I.kept (t':=tk) λb o eo=>hk b o (by simp;exact q0w (q0h eo)) (q0g _ eo)
end
end L2
namespace Am
noncomputable abbrev p2 (h:Int):Int:=2^h.toNat
theorem X8c (h:Int):0<p2 h:=Int.pow_pos (by decide)
theorem Y0b (h:Int):p2 h≠0:=by have:=X8c h;omega
theorem Y0c {a b:Int}(ha:0<=a)(hb:0<=b):p2 (a+b)=p2 a*p2 b:=by
 unfold p2
 rw[show (a+b).toNat=a.toNat+b.toNat by omega,q7k]
theorem Z4x {a b:Int}(hb:0<=b)(h:b<=a):p2 a=p2 (a-b)*p2 b:=by
 rw[<-Y0c (by omega) hb]
 congr 1
 omega
structure Amt (a b c d h:Int):Prop where
 nn:0<=h
 odd:h=0∨a%2=1∨b%2=1∨c%2=1∨d%2=1
def Eq2 (x h y g:Int):Prop:=x*p2 g=y*p2 h
structure Same4 (a b c d h a' b' c' d' h':Int):Prop where
 e1:Eq2 a h a' h'
 e2:Eq2 b h b' h'
 e3:Eq2 c h c' h'
 e4:Eq2 d h d' h'
theorem Same4.symm {a b c d h a' b' c' d' h':Int}(s:Same4 a b c d h a' b' c' d' h'):Same4 a' b' c' d' h' a b c d h:=⟨s.e1.symm,s.e2.symm,s.e3.symm,s.e4.symm⟩
theorem Eq2.trans {x h y g z k:Int}(a:Eq2 x h y g)(b:Eq2 y g z k):Eq2 x h z k:=by
 unfold Eq2 at *
 have h1:(x*p2 k)*p2 g=(z*p2 h)*p2 g:=by
  have e1:(x*p2 k)*p2 g=(x*p2 g)*p2 k:=by grind
  have e2:(z*p2 h)*p2 g=(z*p2 g)*p2 h:=by grind
  rw[e1,e2,a,<-b];grind
 exact q3h (Y0b g) h1
theorem Same4.trans {a b c d h a' b' c' d' h' a2 b2 c2 d2 h2:Int}(s:Same4 a b c d h a' b' c' d' h')(t:Same4 a' b' c' d' h' a2 b2 c2 d2 h2):Same4 a b c d h a2 b2 c2 d2 h2 :=
 ⟨s.e1.trans t.e1,s.e2.trans t.e2,s.e3.trans t.e3,s.e4.trans t.e4⟩
theorem Eq2.lift {x h y g:Int}(hh:0<=h)(hg:h<=g)(e:Eq2 x h y g):y=x*p2 (g-h):=by
 unfold Eq2 at e
 rw[Z4x hh hg] at e
 have:(x*p2 (g-h))*p2 h=y*p2 h:=by rw[<-e];grind
 exact(q3h (Y0b h) this).symm
theorem Z5d {x n:Int}(hn:0<n):(x*p2 n)%2=0:=by
 have e:p2 n=p2 (n-1)*2:=by
  rw[Z4x (a:=n) (b:=1) (by decide) (by omega)]
  rfl
 rw[e,<-q5f]
 omega
theorem Amt.unique_le {a b c d h a' b' c' d' h':Int}(x:Amt a b c d h)(y:Amt a' b' c' d' h')(s:Same4 a b c d h a' b' c' d' h')(hle:h<=h'):a=a'/\b=b'/\c=c'/\d=d'/\h=h':=by
 have e1:=s.e1.lift x.nn hle
 have e2:=s.e2.lift x.nn hle
 have e3:=s.e3.lift x.nn hle
 have e4:=s.e4.lift x.nn hle
 have he:h=h':=by
  apply Classical.byContradiction
  intro hne
  have hp:0<h'-h:=by omega
  have o:=y.odd
  rw[e1,e2,e3,e4,Z5d hp,Z5d hp,Z5d hp,Z5d hp] at o
  have:=x.nn
  omega
 subst he
 simp only[Int.sub_self,p2,Int.toNat_zero,Int.pow_zero,q6m] at e1 e2 e3 e4
 exact⟨e1.symm,e2.symm,e3.symm,e4.symm,Z⟩
theorem Amt.unique {a b c d h a' b' c' d' h':Int}(x:Amt a b c d h)(y:Amt a' b' c' d' h')(s:Same4 a b c d h a' b' c' d' h'):a=a'/\b=b'/\c=c'/\d=d'/\h=h':=by
 rcases Int.le_total h h' with hle | hle
 ·exact x.unique_le y s hle
 ·obtain⟨q1,q2,q3,q4,q5⟩:=y.unique_le x s.symm hle
  exact⟨q1.symm,q2.symm,q3.symm,q4.symm,q5.symm⟩
noncomputable abbrev orAll (a b c d:Int):Int:=Builtin.bitOr (Builtin.bitOr (Builtin.bitOr a b) c) d
theorem orAll_dvd {v:Nat}{a b c d:Int}:(2:Int)^v ∣ orAll a b c d ↔ ((2:Int)^v ∣ a/\(2:Int)^v ∣ b/\(2:Int)^v ∣ c/\(2:Int)^v ∣ d):=by
 unfold orAll
 rw[Bt.Z7s,Bt.Z7s,Bt.Z7s]
 constructor
 ·rintro ⟨⟨⟨h1,h2⟩,h3⟩,h4⟩;exact⟨h1,h2,h3,h4⟩
 ·rintro ⟨h1,h2,h3,h4⟩;exact⟨⟨⟨h1,h2⟩,h3⟩,h4⟩
theorem orAll_zero {a b c d:Int}:orAll a b c d=0 ↔ (a=0/\b=0/\c=0/\d=0):=by
 unfold orAll
 rw[Bt.Y1l,Bt.Y1l,Bt.Y1l]
 constructor
 ·rintro ⟨⟨⟨h1,h2⟩,h3⟩,h4⟩;exact⟨h1,h2,h3,h4⟩
 ·rintro ⟨h1,h2,h3,h4⟩;exact⟨⟨⟨h1,h2⟩,h3⟩,h4⟩
theorem lowest {a b c d:Int}(hp:orAll a b c d≠0):∃ v:Nat,((Builtin.Int.intBits (Builtin.bitAnd (orAll a b c d) (-(orAll a b c d))):Nat):Int)-1=v/\((2:Int)^v ∣ a/\(2:Int)^v ∣ b/\(2:Int)^v ∣ c/\(2:Int)^v ∣ d) ∧
  ¬ ((2:Int)^(v+1) ∣ a/\(2:Int)^(v+1) ∣ b/\(2:Int)^(v+1) ∣ c/\(2:Int)^(v+1) ∣ d):=by
 obtain⟨v,q,e,o,bb⟩:=Bt.Y7u _ (orAll a b c d) (q4q _) hp
 refine⟨v,by rw[bb,Bt.Z9f];omega,orAll_dvd.mp ⟨q,e⟩,λh=>?_⟩
 have h':=orAll_dvd.mpr h
 obtain⟨k,hk⟩:=h'
 rw[e,q3i,q5f] at hk
 have:=q2u (q4y (Int.pow_pos (by decide):(0:Int)<2^v)) hk
 omega
theorem Z6m {x h m:Int}(hm:0<=m)(hmh:m<=h)(hd:(2:Int)^m.toNat ∣ x):Eq2 x h (x / 2^m.toNat) (h-m)/\(x / 2^m.toNat).natAbs<=x.natAbs:=by
 obtain⟨k,rfl⟩:=hd
 have hne:(2:Int)^m.toNat≠0:=Y0b m
 rw[q7c _ hne]
 constructor
 ·unfold Eq2
  rw[Z4x hm hmh]
  show 2^m.toNat*k*p2 (h-m)=k*(p2 (h-m)*2^m.toNat)
  grind
 ·rw[Int.natAbs_mul]
  exact Nat.le_mul_of_pos_left _ (by omega)
theorem Y4b {x:Int}{m v:Nat}(h:m<=v)(hd:(2:Int)^v ∣ x):(2:Int)^m ∣ x:=by
 obtain⟨k,rfl⟩:=hd
 refine⟨2^(v-m)*k,?_⟩
 rw[<-q5f,<-q7k,show m+(v-m)=v by omega]
theorem halve {a b c d h:Int}(hh:0<=h){v:Nat}(hd:(2:Int)^v ∣ a/\(2:Int)^v ∣ b/\(2:Int)^v ∣ c/\(2:Int)^v ∣ d)
  (hn:¬ ((2:Int)^(v+1) ∣ a/\(2:Int)^(v+1) ∣ b/\(2:Int)^(v+1) ∣ c/\(2:Int)^(v+1) ∣ d)) {m:Int} (hm:m=if h<v then h else v) :
  0<=m/\m<=h/\Amt (a / 2^m.toNat) (b / 2^m.toNat) (c / 2^m.toNat) (d / 2^m.toNat) (h-m)/\Same4 a b c d h (a / 2^m.toNat) (b / 2^m.toNat) (c / 2^m.toNat) (d / 2^m.toNat) (h-m) ∧
  ((a / 2^m.toNat).natAbs<=a.natAbs/\(b / 2^m.toNat).natAbs<=b.natAbs/\(c / 2^m.toNat).natAbs<=c.natAbs/\(d / 2^m.toNat).natAbs<=d.natAbs):=by
 have m0:0<=m:=by rw[hm];split<;>omega
 have m1:m<=h:=by rw[hm];split<;>omega
 have mv:m.toNat<=v:=by rw[hm];split<;>omega
 obtain⟨d1,d2,d3,d4⟩:=hd
 have q1:=Z6m m0 m1 (Y4b mv d1)
 have q2:=Z6m m0 m1 (Y4b mv d2)
 have q3:=Z6m m0 m1 (Y4b mv d3)
 have q4:=Z6m m0 m1 (Y4b mv d4)
 refine⟨m0,m1,⟨by omega,?_⟩,⟨q1.1,q2.1,q3.1,q4.1⟩,q1.2,q2.2,q3.2,q4.2⟩
 by_cases hlt:h<v
 ·left
  rw[hm,if_pos hlt]
  omega
 ·right
  have hmv:m.toNat=v:=by rw[hm,if_neg hlt];omega
  rw[hmv]
  have tail:∀ x:Int,(2:Int)^v ∣ x->¬ (x / 2^v)%2=1->(2:Int)^(v+1) ∣ x:=by
   rintro x ⟨k,rfl⟩ ho
   have hne:(2:Int)^v≠0:=q4y (Int.pow_pos (by decide))
   rw[q7c _ hne] at ho
   refine⟨k / 2,?_⟩
   rw[q3i,q5f]
   congr 1
   omega
  apply Classical.byContradiction
  intro hno
  apply hn
  refine⟨tail a d1 λo=>hno (.inl o),tail b d2 λo=>hno (.inr (.inl o)),tail c d3 λo=>hno (.inr (.inr (.inl o))),tail d d4 λo=>hno (.inr (.inr (.inr o)))⟩
end Am
namespace Pc
noncomputable def pc (n:Nat):Nat:=if h:n=0 then 0 else n%2+pc (n / 2)
theorem Y1k:pc 0=0:=by unfold pc;simp
theorem Z6w (n:Nat):pc n=n%2+pc (n / 2):=by
 by_cases h:n=0
 ·subst h;rw[show (0 / 2:Nat)=0 from rfl,Y1k]
 ·conv=>lhs;unfold pc
  rw[dif_neg h]
theorem Y7m (x y:Nat):(x^^^y)=2*((x / 2)^^^(y / 2))+(x%2+y%2)%2:=by
 have h1:(x^^^y) / 2=(x / 2)^^^(y / 2):=Nat.xor_div_two
 have h2:(x^^^y)%2=(x%2+y%2)%2:=by
  have:=Nat.xor_mod_two_eq_one (a:=x) (b:=y)
  rcases q0y x with a | a<;>rcases q0y y with b | b<;>rcases q0y (x^^^y) with c | c<;>simp[a,b,c] at this ⊢
 omega
theorem Y6v:∀ (m n:Nat),n<m->n≠0->pc (n&&&(n-1))+1=pc n
 | 0,n,h,_=>by omega
 | m+1,n,h,hn=>by
  have e:=Bt.Y1q n (n-1)
  rw[Z6w n,Z6w (n&&&(n-1))]
  rcases q0y n with a | a
  ·have e1:(n-1) / 2=n / 2-1:=by omega
   rw[e1,a,Nat.zero_mul] at e
   have e2:(n&&&(n-1)) / 2=n / 2&&&(n / 2-1):=by omega
   have e3:(n&&&(n-1))%2=0:=by omega
   rw[e2,e3,a]
   have:=Y6v m (n / 2) (by omega) (by omega)
   omega
  ·have e1:(n-1) / 2=n / 2:=by omega
   have e0:(n-1)%2=0:=by omega
   rw[e1,e0,Nat.mul_zero,Nat.and_self] at e
   have e2:(n&&&(n-1)) / 2=n / 2:=by omega
   have e3:(n&&&(n-1))%2=0:=by omega
   rw[e2,e3,a]
   omega
theorem X2r:∀ (m x y:Nat),x<m->y<m->pc (x^^^y)%2=(pc x+pc y)%2
 | 0,x,y,h,_=>by omega
 | m+1,x,y,hx,hy=>by
  by_cases z:x=0/\y=0
  ·obtain⟨rfl,rfl⟩:=z
   rw[show (0^^^0:Nat)=0 from rfl,Y1k]
  ·have e:=Y7m x y
   rw[Z6w (x^^^y),Z6w x,Z6w y,show (x^^^y) / 2=x / 2^^^y / 2 by omega]
   by_cases q:x / 2<m/\y / 2<m
   ·have:=X2r m (x / 2) (y / 2) q.1 q.2
    omega
   ·exfalso;omega
theorem pcx (x y:Nat):pc (x^^^y)%2=(pc x+pc y)%2:=X2r (x+y+1) x y (by omega) (by omega)
theorem X4w:∀ (m x y:Nat),x<m->y<m->(x ||| y)=(x^^^y)+(x&&&y)
 | 0,x,y,h,_=>by omega
 | m+1,x,y,hx,hy=>by
  by_cases z:x=0/\y=0
  ·obtain⟨rfl,rfl⟩:=z;rfl
  ·have e:=Y7m x y
   have e1:=Bt.Y1q x y
   have e2:=Bt.X8w x y
   by_cases q:x / 2<m/\y / 2<m
   ·have:=X4w m (x / 2) (y / 2) q.1 q.2
    rcases q0y x with a | a<;>rcases q0y y with b | b<;>rw[a,b] at e e1 e2<;>omega
   ·exfalso;omega
theorem Z5t (x y:Nat):Builtin.bitAnd (x:Int) (y:Int)=((x&&&y:Nat):Int):=by rw[bitAnd_pp (by omega) (by omega)];simp
theorem Y4j (x y:Nat):Builtin.bitXor (x:Int) (y:Int)=((x^^^y:Nat):Int):=by
 have h:Builtin.bitXor (x:Int) (y:Int)=Builtin.bitOr x y-Builtin.bitAnd x y:=rfl
 have h2:Builtin.bitOr (x:Int) (y:Int)=((x ||| y:Nat):Int):=by
  unfold Builtin.bitOr
  rw[bitAnd_nn (by unfold Builtin.bitNot;omega) (by unfold Builtin.bitNot;omega),q7f,q7f,q7f]
  simp
 rw[h,h2,Z5t,X4w (x+y+1) x y (by omega) (by omega)]
 omega
end Pc
namespace L2
theorem Same.tup {K:U0}{H H':Hp}{a:W9}{xs:List V}(e:Same H H')(h:SqT K H a xs):SqT K H' a xs:=by
 rcases h with h | h
 ·rcases h with h | ⟨o,h⟩
  ·exact .inl (.inl (e _ _ h))
  ·exact .inl (.inr ⟨o,e _ _ h⟩)
 ·exact .inr h
theorem Same.sqx {t:Bool}{K:U0}{H H':Hp}{a:W9}{xs:List V}(e:Same H H')(h:SqX t K H a xs):SqX t K H' a xs:=by
 cases t
 ·exact e.seq (show SqL K H a xs from h)
 ·exact e.tup (show SqT K H a xs from h)
section
variable {X:Cx}{scope:Scope}{Nc:W0}{ex:U3}{pins:U1}{s:U7}{H:Hp}
theorem Z8w:IxR (cxLc X scope Nc ex pins s H) (rIxL X.K):=Z0s
theorem Z7f:IxR (cxLc X scope Nc ex pins s H) (rIxT X.K):=Z0l
theorem Z8r {x y:Str}{k:Nat}{p1 p2 pos:Pos}(hc:(cxLc X scope Nc ex pins s H).calm=true)(hN:Nc.Nodup)(h0:Nc[0]?=some x)(h1:Nc[1]?=some y)(l0:(cxLc X scope Nc ex pins s H).env.scope.names.lookup x=some .local)(l1:(cxLc X scope Nc ex pins s H).env.scope.names.lookup y=some .local) :
  PG (cxLc X scope Nc ex pins s H) (.Tuple [.Name x p1,.Name y p2] k pos) (gTup X.K 2 (gCons (gName 0) (gCons (gName 1) gNil))) :=
 Y6r (X:=cxLc X scope Nc ex pins s H) hc (Z4k (Z0w (i:=0) hN h0 (.inl l0) (.inr l0)) (Z4k (Z0w (i:=1) hN h1 (.inl l1) (.inr l1)) Y1h))
end
theorem X6i {t1 t2:Bool}{K:U0}{l1 l2:W9}{g:TG}{ns ms:U6}{te:TE}{fr:St}{H1:Hp}{acc:W9}{Q:VK}(f:Int->Int->Int)(hxy:ns.length=ms.length)(hn:ns.length<=sizeLine)
  (h1:SqX t1 K H1 l1 (ns.map V.int)) (h2:SqX t2 K H1 l2 (ms.map V.int)) (hacc:H1 acc=none)
  (hg:∀ {a:W9}{x y:V}{w1 w2:Option V}{H:Hp}{Q:St->Hp->Prop},H a=some (.tup [x,y])->Q (some x::some y::fr) H->g (.ref a) (w1::w2::fr) H Q)
  (hs:∀ n m H (N:V->Hp->Prop),n∈ns->m∈ms->N (.int (f n m)) H->te (some (.int n)::some (.int m)::fr) H N)
  (hd:∀ H2,Same H1 H2->H2 acc=some (.lst ((List.zipWith f ns ms).map V.int))->Q (.ref acc) H2):LcW (Itz t1 t2 K l1 l2) g te (none::none::fr) H1 acc Q:=by
 refine X2z (xs:=ns.map V.int) (ys:=ms.map V.int) (λi zs H'=>Same H1 H'/\H' acc=some (.lst zs)/\zs=((List.zipWith f ns ms).take i).map V.int) (by simp[hxy]) (by simp;exact hn)
  ⟨Z0c hacc _,Z0d,Z⟩ (λha hQ=>hg ha hQ) (λi zs H p=>⟨p.1.sqx h1,p.1.sqx h2⟩) ?_ ?_
 ·rintro i x y zs H T N hx hy hl ⟨s2,a2,e2⟩ hT kN
  rw[q0k] at hx hy
  obtain⟨n,hn1,rfl⟩:=q0x.mp hx
  obtain⟨m,hm1,rfl⟩:=q0x.mp hy
  refine hs n m _ _ (q2r hn1) (q2r hm1) ?_
  have hTa:acc≠T:=λe=>by rw[<-e,a2] at hT;cases hT
  refine kN _ _ (by rw[Z1d hTa];exact a2) ⟨Z0v (s2.trans (Z0c hT _)) hacc,Z0d,?_⟩
  have:(List.zipWith f ns ms)[i]?=some (f n m):=by rw[List.getElem?_zipWith,hn1,hm1]
  rw[q1y,this,q0b,e2]
  rfl
 ·rintro zs H hl ⟨s2,a2,e2⟩
  refine hd H s2 ?_
  rw[a2,e2,q1d]
  simp only[List.length_zipWith,q0a]
  omega
section
variable {K:U0}{a:W9}{ns:U6}{te:TE}{fr:St}{H1:Hp}{acc:W9}{Q:VK}
theorem Z8v {J:It}{n:Nat}{val:Nat->V}(f:Nat->V)(hn:n<=sizeLine)(hacc:H1 acc=none)
  (hgo:∀ i H,i<n->Same H1 H->J.go i H/\∀ x H',J.yld i H x H'->H'=H/\x=val i) (hst:∀ H,Same H1 H->J.stop n H)
  (hs:∀ i H (N:V->Hp->Prop),i<n->Same H1 H->N (f i) H->te (some (val i)::fr) H N)
  (hd:∀ H2,Same H1 H2->H2 acc=some (.lst ((List.range n).map f))->Q (.ref acc) H2):LcW J (gName 0) te (none::fr) H1 acc Q:=by
 refine X1p (val:=val) (λi ys H'=>Same H1 H'/\H' acc=some (.lst ys)/\ys=(List.range i).map f) hn ⟨Z0c hacc _,Z0d,Z⟩ (λi ys H hi p=>hgo i H hi p.1) (λys H p=>hst H p.1) ?_ ?_
 ·rintro i ys H N hi hl ⟨s2,a2,e2⟩ kN
  refine hs i H N hi s2 (kN _ _ a2 ⟨Z0v s2 hacc,Z0d,?_⟩)
  rw[e2,q2o,q0b]
  rfl
 ·rintro ys H hl ⟨s2,a2,e2⟩
  exact hd H s2 (by rw[a2,e2])
theorem Y7x {lo:Int}{n:Nat}(f:Nat->V)(hn:n<=sizeLine)(hacc:H1 acc=none)(hs:∀ i H (N:V->Hp->Prop),i<n->Same H1 H->N (f i) H->te (some (.int (lo+i))::fr) H N)
  (hd:∀ H2,Same H1 H2->H2 acc=some (.lst ((List.range n).map f))->Q (.ref acc) H2):LcW (Itr lo n) (gName 0) te (none::fr) H1 acc Q :=
 Z8v (val:=λi=>.int (lo+i)) f hn hacc (λi H hi s=>⟨hi,λx H' y=>y⟩) (λH s=>q0f _) hs hd
theorem Z6v (ns:U6)(f:Int->V):(List.range ns.length).map (λi=>f (ns.getD i 0))=ns.map f:=by
 apply List.ext_getElem
 ·simp
 ·intro i h1 h2
  simp at h1
  simp[h1]
theorem X1n (f:Int->V)(hl:SqL K H1 a (ns.map V.int))(hn:ns.length<=sizeLine)(hacc:H1 acc=none)(hs:∀ n H (N:V->Hp->Prop),Same H1 H->N (f n) H->te (some (.int n)::fr) H N)
  (hd:∀ H2,Same H1 H2->H2 acc=some (.lst (ns.map f))->Q (.ref acc) H2):LcW (Itl K a) (gName 0) te (none::fr) H1 acc Q:=by
 refine Z8v (n:=ns.length) (val:=λi=>.int (ns.getD i 0)) (λi=>f (ns.getD i 0)) hn hacc (λi H hi s=>?_) (λH s=>⟨_,s.seq hl,by simp⟩) (λi H N hi s kN=>hs _ H N s kN) (λH2 s h=>hd H2 s (by rw[h,Z6v]))
 have e:(ns.map V.int)[i]?=some (.int (ns.getD i 0)):=by simp[hi]
 refine⟨⟨_,_,s.seq hl,e⟩,λx H' y=>⟨y.1,?_⟩⟩
 have:=y.2 _ (s.seq hl)
 rw[e] at this
 exact(Option.some.inj this).symm
theorem X6j (f:Int->V)(hl:SqT K H1 a (ns.map V.int))(hn:ns.length<=sizeLine)(hacc:H1 acc=none)(hs:∀ n H (N:V->Hp->Prop),Same H1 H->N (f n) H->te (some (.int n)::fr) H N)
  (hd:∀ H2,Same H1 H2->H2 acc=some (.lst (ns.map f))->Q (.ref acc) H2):LcW (Itt K a) (gName 0) te (none::fr) H1 acc Q:=by
 refine Z8v (n:=ns.length) (val:=λi=>.int (ns.getD i 0)) (λi=>f (ns.getD i 0)) hn hacc (λi H hi s=>?_) (λH s=>⟨_,s.tup hl,by simp⟩) (λi H N hi s kN=>hs _ H N s kN) (λH2 s h=>hd H2 s (by rw[h,Z6v]))
 have e:(ns.map V.int)[i]?=some (.int (ns.getD i 0)):=by simp[hi]
 refine⟨⟨_,_,s.tup hl,e⟩,λx H' y=>⟨y.1,?_⟩⟩
 have:=y.2 _ (s.tup hl)
 rw[e] at this
 exact(Option.some.inj this).symm
end
section
variable {X:Cx}
end
section
variable {κ:Type} [DecidableEq κ]
noncomputable def valV (kvs:List (κ × V))(k:κ):Option V:=(kvs.find? λkv=>decide (kv.1=k)).map (·.2)
theorem W1b {k:κ}:valV ([]:List (κ × V)) k=none:=rfl
theorem Y9q {p:κ × V}{r:List (κ × V)}{k:κ}(e:p.1=k):valV (p::r) k=some p.2:=by simp[valV,q6h,e]
theorem Y9r {p:κ × V}{r:List (κ × V)}{k:κ}(e:¬ p.1=k):valV (p::r) k=valV r k:=by simp[valV,q6h,e]
theorem RelO.isSome_eq {o:Option V}{u:Option Value}(r:RelO o u):o.isSome=u.isSome:=by
 cases o with
 | none=>cases u with
  | none=>rfl
  | some _=>exact(show False from r).elim
 | some _=>cases u with
  | none=>exact(show False from r).elim
  | some _=>rfl
theorem KV.val {kvs:List (κ × V)}{vs:List (κ × Value)}(r:KV kvs vs)(k:κ):RelO (valV kvs k) (valueAt vs k):=by
 unfold KV at r
 induction r with
 | nil=>exact True.intro
 | @cons p q ps qs h t ih =>
  obtain⟨h1,h2⟩:=h
  by_cases e:p.1=k
  ·have e':q.1=k:=h1.symm.trans e
   have b:valueAt (q::qs) k=some q.2:=by simp[valueAt,q6h,e']
   rw[Y9q e,b];exact h2
  ·have e':¬ q.1=k:=λz=>e (h1.trans z)
   have b:valueAt (q::qs) k=valueAt qs k:=by simp[valueAt,q6h,e']
   rw[Y9r e,b];exact ih
theorem KV.keys {kvs:List (κ × V)}{vs:List (κ × Value)}(r:KV kvs vs):kvs.map (·.1)=vs.map (·.1):=by
 unfold KV at r
 induction r with
 | nil=>rfl
 | cons h t ih=>rw[q1s,q1s,ih,h.1]
end
theorem X9q {P:U8}{w:W1}{k:Key}{u:W2}(r:RelV (kV k) u):(Z4f P w).is k u=true:=by
 cases k with
 | inl i=>obtain⟨t,e⟩:=(show ∃ t,u=Value.int i t from r);subst e;exact Y1v P w i t
 | inr x=>obtain⟨t,e⟩:=(show ∃ t,u=Value.str x t from r);subst e;exact Y1u P w x t
section
variable {P:U8}{w:W1}{H:Hp}{h:Heap}{a:W9}
end
section
variable {X:Cx}{pins:U1}{σ:St}{H:Hp}{s:U7}{a:W9}{y v:V}{u r:W2}{o:Option V}{A:W6}{E:U2}
end
section
variable {X:Cx}{pins:U1}{σ:St}{H:Hp}{s:U7}{a:W9}{kvs:List (Key × V)}{k:Key}{u:W2}{A:W6}{E:U2}
end
def NoSl (i:Expr):Prop:=∀ ov iv,subscripted i false ov iv=operate [ov,iv] (getItem ov iv)
theorem X3y {prog:U8}{w:W1}{A:W6}{E:U2}{s:U7}{env:Env}{value slice:Expr}{pos:Pos}{T id:String}{Q:U2}
  (hl:typeLookup (.type T) "__getitem__"=pure (some (.builtin id))) (hs:NoSl slice)
  (h:wpAny (model prog w) A (eval value env) (λo s₁=>wpAny (model prog w) A (eval slice env) (λi s₂=>s₂.TypeIs o T/\wpAny (model prog w) A (getItem o i) Q E s₂) E s₁) E s) :
  wpAny (model prog w) A (eval (.Subscript value slice pos) env) Q E s:=by
 refine Subscript_ (q2a h (λo s₁ h₁=>q2a h₁ (λi s₂ h₂=>?_) λ_ _ x=>x) λ_ _ x=>x)
 obtain⟨hT,h₂⟩:=h₂
 unfold subscriptTail
 refine q0o ?_
 rw[getitemInPython_of_ne hT.not_modules]
 refine q0o (wpAny_specialOf hT hl ?_)
 have fin:wpAny (model prog w) A (subscripted slice false o i) (λr s₃=>wpAny (model prog w) A (letTemporaryGo value o r >>= λ_=>pure r) Q E s₃) E s₂:=by
  rw[hs o i]
  exact wpAny_operating (q2a h₂ (λr s₃ h₃=>q0o (wpAny_letTemporaryGo (q0z h₃))) λ_ _ x=>x)
 first
  | exact q0z (q0o fin)
  | exact q0o (q0z (q0o fin))
  | exact q0o fin
section
variable {X:Cx}{o i e value:Expr}{pos pos' tpos:Pos}{td ty tv:TE}
end
section
variable {X:Cx}{pos:Pos}
end
section
variable {X:Cx}{pins:U1}{σ:St}{H:Hp}{s:U7}{a:W9}{y d:V}{u r:W2}{o:Option V}{A:W6}{E:U2}
end
section
variable {X:Cx}{o e f:Expr}{apos cpos:Pos}{td ty tx:TE}
end
end L2
namespace L2
def CMulG (i j:Int):Prop:=∃ a b,Sz a i/\Sz b j/\a+b<=100000000
theorem CMulG.ok {i j:Int}(h:CMulG i j):IntMulOk i j:=by
 obtain⟨a,b,h1,h2,h3⟩:=h
 have e1:=h1.bits
 have e2:=h2.bits
 unfold IntMulOk
 rw[show Builtin.Int.intTooBig (Builtin.Int.intBits i+Builtin.Int.intBits j)=false by
  unfold Builtin.Int.intTooBig
  have:bitsLine=134217728:=rfl
  rw[this]
  exact q0e (by omega)]
 simp
section
variable {X:Cx}
theorem Z3e:OpR X (binaryOp .Mult) (rI CMulG λi j=>.int (i*j)):=opI λ_ _ _ _ _ _ _ hc q=>mul_int q hc.ok
theorem Z3k (hc:X.calm=true):CallR X (.builtin "all") (λxs H Q=>∃ (p:W9) (bs:List Bool),xs=[.ref p]/\SqL X.K H p (bs.map V.bl)/\Q (.bl (bs.all id)) H):=by
 intro pins s σ H xs us Q I r h
 obtain⟨p,bs,rfl,hq,q⟩:=h
 obtain⟨u,rfl,ru⟩:=r.one
 cases ru
 obtain⟨its,rv,pl,hz⟩:=I.list hq
 have hlen:its.length=bs.length:=by rw[<-rv.length,q0a]
 refine call_all_walk (q5g pl.isList ?_)
 have W:=Walks.list (prog:=X.prog) (w:=X.w) (A:=X.A.in1) (show X.A.in1.handled=none from I.ok.hd hc) s.heap.objs.size p (by
  obtain⟨o,e,_⟩:=pl.isList
  exact q0w (q0h e)) its.toArray
 refine⟨s.heap.objs.size,_,_,_,_,_,λi=>bs.getD i false,Z,W,⟨⟨_,q0r _ rfl,Z,Z⟩,pl.isList.push _⟩,?_,λh' tk hk=>?_⟩
 ·intro i v s' Q' E' hv hQ
  have hv':its[i]?=some v:=by simpa using hv
  have hi:i<bs.length:=by rw[<-hlen];exact(q0t.mp hv').1
  obtain⟨u,hu,ru⟩:=rv.get (show (bs.map V.bl)[i]?=some (.bl (bs.getD i false)) by simp[hi])
  rw[hv'] at hu
  cases hu
  cases ru
  exact q2j hQ
 ·have e:(List.range its.toArray.size).all (λi=>bs.getD i false)=bs.all id:=by
   rw[q0i,hlen,q2q,q1c,q1c]
   constructor
   ·intro z b hb
    obtain⟨i,hi,rfl⟩:=List.mem_iff_getElem.mp hb
    have:=z i (q0s.mpr hi)
    simpa [hi] using this
   ·intro z i hi
    have hi':i<bs.length:=q0s.mp hi
    have:=z bs[i] (q5y hi')
    simpa [hi'] using this
  rw[e]
  refine⟨.bl (bs.all id),H,?_,Z,q⟩
  exact I.kept (t':=tk) λb o eo=>hk b o (by simp;exact q0w (q0h eo)) (q0g _ eo)
end
section
variable {P:U8}{w:W1}{H:Hp}{h:Heap}
end
section
variable {X:Cx}
theorem Z7j:∀ xs:List (List Int),PyData.canLayAll0 (xs.map λns=>PyData.tuple (ns.map PyData.int))=true
 | []=>by simp[PyData.canLayAll0]
 | n::r=>by simp[PyData.canLayAll0,PyData.canLay0,Z7j r,q5d n]
theorem Z8a:∀ xs:List (List Int),PyData.depthAll (xs.map λns=>PyData.tuple (ns.map PyData.int))<=2
 | []=>by simp[PyData.depthAll]
 | n::r=>by
  have h1:=Z8a r
  have h2:=q5m n
  simp only[q1s,PyData.depthAll,PyData.depth]
  omega
theorem Z6q (xs:List (List Int)):SeqAt.shaped (.list (xs.map λns=>PyData.tuple (ns.map PyData.int)))=true:=by
 have h2:PyData.depth (.list (xs.map λns=>PyData.tuple (ns.map PyData.int)))<=64:=by
  have:=Z8a xs
  simp only[PyData.depth]
  omega
 show (PyData.canLay0 _ && decide _)=true
 rw[q0m]
 exact⟨by simp only[PyData.canLay0];exact Z7j xs,q0j h2⟩
theorem Z7t:∀ xs ys:List (List Int),SeqAt.noMixAll (xs.map λns=>PyData.tuple (ns.map PyData.int)) (ys.map λns=>PyData.tuple (ns.map PyData.int))=true
 | [],[]=>by simp[SeqAt.noMixAll]
 | [],_::_=>by simp[SeqAt.noMixAll]
 | _::_,[]=>by simp[SeqAt.noMixAll]
 | n::r,m::q=>by
  simp only[q1s,SeqAt.noMixAll,SeqAt.noMix,q0m]
  exact⟨q5c n m,Z7t r q⟩
theorem Z9v:∀ xs ys:List (List Int),PySem.Spec.sameAll (xs.map λns=>PyData.tuple (ns.map PyData.int)) (ys.map λns=>PyData.tuple (ns.map PyData.int))=decide (xs=ys)
 | [],[]=>by simp[PySem.Spec.sameAll]
 | [],_::_=>by simp[PySem.Spec.sameAll]
 | _::_,[]=>by simp[PySem.Spec.sameAll]
 | n::r,m::q=>by
  simp only[q1s,PySem.Spec.sameAll,PySem.Spec.same,q5i,Z9v r q]
  by_cases e:n=m<;>simp[e]
end
section
variable {X:Cx}{scope:Scope}{Nc:W0}{ex:U3}{pins:U1}{s:U7}{H:Hp}
theorem Y3i (hu:X.A.units+64<cLine):OpR (cxLc X scope Nc ex pins s H) (compareOp .Eq) (rEqTI X.K false):=X4z hu
end
end L2
namespace L2
open PySem.W PySem.Calls
def Light (ns:U6):Prop:=∀ n∈ns,Sz 1048576 n
theorem Z5x:∀ {ns:U6}{W:Nat},WData.weightAll (ns.map WData.int)<=W->∀ n∈ns,Sz W n
 | m::r,W,h,n,hn=>by
  simp only[q1s,WData.weightAll,WData.weight] at h
  rcases q0p.mp hn with rfl | hn
  ·unfold Sz
   by_cases z:n=0
   ·subst z;exact q2f _
   ·have zb:(n == 0)=false:=by simpa using z
    rw[zb,if_neg (by simp)] at h
    have h1:n.natAbs.log2<W:=by omega
    exact(Nat.log2_lt (by omega)).mp h1
  ·exact Z5x (W:=W) (by omega) n hn
theorem X1k {ns:U6}(h:WData.layableAll [WData.list (ns.map WData.int)]=true):Light ns:=by
 simp only[WData.layableAll,q8l,List.all_nil,Bool.and_true,WData.layable,q0m,q1a] at h
 exact Z5x (W:=1048576) (by have:=h.2;simpa [WData.weight] using this)
theorem Y0z {l:OpenLaw}{n:Nat}{q:U8}{loose:W0}{XP:(Str->Option Value)->Heap->Prop}{YP:World->Heap->Prop}{d:DefRec}
  (hn:l.most=some n) (hdf:d.params.defaults=[])
  (call:∀ (w:W1) (s₀ s₁:U7) (mg mb:U4) (fa:W9) (o:Obj) (pm cd doc:W2) (a:W9) (vs:U5) (ns:U6),Light ns →
   Ground q loose [] XP w s₀ mg mb s₁.heap->YP w s₁.heap →
   s₁.heap.get? fa=some o->o.data=.func (docDef d.name d.params d.body d.scope pm cd doc)->s₁.heap.CodeRec cd d.name->mg d.name=some (.ref fa) →
   s₁.heap.get? a=some { cls:=.type "list",data:=.seq vs.toArray }->IntsAre vs ns->ns.length<=n->s₁.gens=#[] →
   codeAny (model l.prog w) callerA (.call (.ref fa) ⟨[.ref a],[]⟩) (λr s'=>r=.ok (.ret (.bool true))/\OldK s₁.heap s'.heap/\s'.os=s₁.os/\AllBare s'.gens) s₁) :
  WalkO q loose XP YP l.row.toRowW d [] (λf vs=>PySem.call f vs):=by
 intro w s₀ s₁ mg mb G Y fa o pm cd doc dV kV ho hd hcd hD hmg hg args vals as hpre hlay hrd hwl hlo
 obtain rfl:dV=.none:=Dflts.none hD hdf
 obtain rfl:kV=.none:=Dflts.noKw hD
 obtain⟨a,vs,ns,rfl,rfl,hobj,hints,hlen⟩:=Att.Y6g hn hpre hwl
 refine enter_call (q6p (call w s₀ s₁ mg mb fa o pm cd doc a vs ns (X1k hlay) G Y ho (fd_plain hd) hcd hmg hobj hints hlen hg) λr s' hq=>?_)
 obtain⟨rfl,h2,h3,h4⟩:=hq
 exact⟨.inl ⟨.bool true,.bool true,[],Z,λ_=>rfl,.bool true,Att.Y6q l _,λ_=>⟨List.Pairwise.nil,λ_ hm=>(nomatch hm)⟩⟩,h2,h3,h4⟩
theorem Y4k {l:PySem.W.OpenLaw}{n k:Nat}{q:U8}{loose:W0}{XP:(Str->Option Value)->Heap->Prop}{YP:World->Heap->Prop}{d:DefRec}{K:Params->U0}{CX:World->CXT}{sp:World->Sp}{x:Str}
  (hn:l.most=some n) (hn2:n<=sizeLine) (hdf:d.params.defaults=[]) (hr:Room k callerA)
  (hY:∀ (w:W1) (h:Heap),YP w h->(K w.params).In h)
  (F:∀ (w:W1) (mg:U4) (fa:W9) (h:Heap),(K w.params).In h->h.Ns mainGlobals mg->mg d.name=some (.ref fa) →
   ∃ fd:FuncData,(∀ (s:U7) (u:W2),BindsTo s fd ⟨[u],[]⟩ [(x,u)]) ∧
    ∀ base:Heap,(K w.params).In base->base.Ns mainGlobals mg->FnOk l.prog w (K w.params) mg base (CX w) k fa fd [x] (sp w))
  (hsp:∀ (w:W1) (H:Hp) (a:W9) (ns:U6),ns.length<=n->Light ns->SqL (K w.params) H a (ns.map V.int)->sp w [.ref a] H (λv _=>v=.bl true) λ_ _ _=>False)
  (hCX:∀ (w:W1) (H:Hp) (s:U7) (e:W2) (s':U7),CX w [] H s (λ_ _ _=>False) e s'->False) :
  PySem.W.WalkO q loose XP YP l.row.toRowW d [] (λf vs=>PySem.call f vs):=by
 refine Y0z hn hdf λw s₀ s₁ mg mb fa o pm cd doc a vs ns lt G Y ho hd hcd hmg hobj hints hlen hg=>?_
 have KX:=hY w _ Y
 obtain⟨fd,hb,hF⟩:=F w mg fa _ KX G.T.g hmg
 exact X1q KX G.T.g G.T.b G.T.builtins G.T.nolimit hg hobj hints (q0u hlen hn2) hr hF hb (λH _ hS=>hsp w H a ns hlen lt hS) λH e s'=>hCX w H s₁ e s'
end L2
namespace Ba
open L2 Am Pc
noncomputable abbrev T5 (a b c d h:Int):HO:=.tup [.int a,.int b,.int c,.int d,.int h]
structure Red (a b c d h x y z u g:Int):Prop where
 amt:Amt x y z u g
 same:Same4 a b c d h x y z u g
 s1:x.natAbs<=a.natAbs
 s2:y.natAbs<=b.natAbs
 s3:z.natAbs<=c.natAbs
 s4:u.natAbs<=d.natAbs
 le:g<=h
structure Sz4 (n:Nat) (a b c d:Int):Prop where
 z1:Sz n a
 z2:Sz n b
 z3:Sz n c
 z4:Sz n d
theorem Red.sz {a b c d h x y z u g:Int}{n:Nat}(r:Red a b c d h x y z u g)(s:Sz4 n a b c d):Sz4 n x y z u:=⟨s.z1.le r.s1,s.z2.le r.s2,s.z3.le r.s3,s.z4.le r.s4⟩
theorem Sz4.mono {m n:Nat}{a b c d:Int}(s:Sz4 m a b c d)(h:m<=n):Sz4 n a b c d:=⟨s.z1.mono h,s.z2.mono h,s.z3.mono h,s.z4.mono h⟩
noncomputable def rot:Nat->Int × Int × Int × Int->Int × Int × Int × Int
 | 0,v=>v
 | n+1,v=>let (a,b,c,d):=rot n v;(-d,a,b,c)
noncomputable abbrev T4 (v:Int × Int × Int × Int)(h:Int):HO:=T5 v.1 v.2.1 v.2.2.1 v.2.2.2 h
abbrev A5:=(Int × Int × Int × Int) × Int
noncomputable abbrev tA (x:A5):HO:=T4 x.1 x.2
noncomputable def spin (x:A5)(k:Int):A5:=(rot (k%8).toNat x.1,x.2)
structure Ok5 (n:Nat) (m:Int) (x:A5):Prop where
 sz:Sz4 n x.1.1 x.1.2.1 x.1.2.2.1 x.1.2.2.2
 amt:Amt x.1.1 x.1.2.1 x.1.2.2.1 x.1.2.2.2 x.2
 le:x.2<=m
theorem Ok5.mono {n n':Nat}{m m':Int}{x:A5}(o:Ok5 n m x)(h:n<=n')(h':m<=m'):Ok5 n' m' x:=⟨o.sz.mono h,o.amt,Int.le_trans o.le h'⟩
theorem Y7a {n:Nat}{m:Int}{v:Int × Int × Int × Int}{h:Int}(o:Ok5 n m (v,h)):∀ k,Ok5 n m (rot k v,h)
 | 0=>o
 | k+1=>by
  have:=Y7a o k
  show Ok5 n m ((-(rot k v).2.2.2,(rot k v).1,(rot k v).2.1,(rot k v).2.2.1),h)
  refine⟨⟨this.sz.z4.neg,this.sz.z1,this.sz.z2,this.sz.z3⟩,⟨this.amt.nn,?_⟩,this.le⟩
  have o:h=0∨(rot k v).1%2=1∨(rot k v).2.1%2=1∨(rot k v).2.2.1%2=1∨(rot k v).2.2.2%2=1:=this.amt.odd
  show h=0∨(-(rot k v).2.2.2)%2=1∨(rot k v).1%2=1∨(rot k v).2.1%2=1∨(rot k v).2.2.1%2=1
  omega
noncomputable def l5 (x:A5):List Int:=[x.1.1,x.1.2.1,x.1.2.2.1,x.1.2.2.2,x.2]
structure Hv (a b c d h x y z u g:Int):Prop where
 same:Same4 a b c d h x y z u g
 s1:x.natAbs<=a.natAbs
 s2:y.natAbs<=b.natAbs
 s3:z.natAbs<=c.natAbs
 s4:u.natAbs<=d.natAbs
 le:g<=h
 nn:0<=g
theorem Hv.red {a b c d h x y z u g:Int}(v:Hv a b c d h x y z u g)(o:g=0∨x%2=1∨y%2=1∨z%2=1∨u%2=1):Red a b c d h x y z u g:=⟨⟨v.nn,o⟩,v.same,v.s1,v.s2,v.s3,v.s4,v.le⟩
theorem Z8y {x g:Int}(hx:x%2=0)(hg:0<g):Eq2 x g (x / 2) (g-1):=by
 unfold Eq2
 have e:p2 g=p2 (g-1)*2:=by rw[Z4x (a:=g) (b:=1) (by decide) (by omega)];rfl
 rw[e]
 have:x=2*(x / 2):=by omega
 generalize x / 2=y at *
 subst this
 grind
theorem Hv.half {a b c d h x y z u g:Int}(v:Hv a b c d h x y z u g)(hg:0<g)(e:x%2=0/\y%2=0/\z%2=0/\u%2=0):Hv a b c d h (x / 2) (y / 2) (z / 2) (u / 2) (g-1):=by
 obtain⟨e1,e2,e3,e4⟩:=e
 have:=v.s1;have:=v.s2;have:=v.s3;have:=v.s4;have:=v.le
 exact⟨v.same.trans ⟨Z8y e1 hg,Z8y e2 hg,Z8y e3 hg,Z8y e4 hg⟩,by omega,by omega,by omega,by omega,by omega,by omega⟩
noncomputable def cell (ns:U6)(i:Int):Int:=if i<ns.length then ns.getD i.toNat 0 else 0
def spOnes:Sp:=λvs H Q _=>∃ n:Nat,vs=[.int n]/\Q (.int (pc n)) H
def spCell (K:U0):Sp:=λvs H Q _=>∃ (a:W9) (ns:U6) (i:Int),vs=[.ref a,.int i]/\SqL K H a (ns.map V.int)/\0<=i/\Q (.int (cell ns i)) H
def Z5i:Sp:=λvs H Q _=>∃ i:Int,vs=[.int i]/\Q (.bl true) H
def spLow:Sp:=λvs H Q _=>∃ (l:W9) (a b c d h:Int),vs=[.ref l,.int h]/\H l=some (.lst ([a,b,c,d].map V.int))/\0<=h/\∀ (p:W9) (H':Hp) (x y z u g:Int),Same H H'->H' p=some (T5 x y z u g)->Red a b c d h x y z u g->Q (.ref p) H'
def spLaw (K:U0)(n:Nat):Sp:=λvs H Q _=>∃ (a:W9) (ns:U6),vs=[.ref a]/\SqL K H a (ns.map V.int)/\ns.length<=n/\Light ns/\∀ H',Q (.bl true) H'
theorem W0v {ns:U6}{i:Int}(h0:0<=i)(h:i<ns.length):atI (ns.map V.int) i=some (.int (ns.getD i.toNat 0)):=by
 have hk:i.toNat<ns.length:=by omega
 have ek:i=((i.toNat:Nat):Int):=by omega
 have q:atI (ns.map V.int) ((i.toNat:Nat):Int)=some (.int ns[i.toNat]):=Z1e (by rw[q0k,q0d hk]<;>rfl)
 rw[<-ek] at q
 rw[q,q1b,q0d hk]
 rfl
theorem Y9h {ps:U3}{i:Nat}{j:Int}(h:i<ps.length)(e:j=i):atI (ps.map V.ref) j=some (.ref ps[i]):=by
 subst e
 exact Z1e (by rw[q0k,q0d h];rfl)
theorem t2:2<=sizeLine:=by decide
theorem t3:3<=sizeLine:=by decide
theorem t4:4<=sizeLine:=by decide
theorem t5:5<=sizeLine:=by decide
theorem t64 {n:Nat}(h:n<=64):n<=sizeLine:=q0u h (by decide)
theorem pow6 {n:Nat}(h:n<=6):2^n<=64:=q0u (q1z (by decide) h) (by decide)
theorem ipow (n:Nat):(1:Int)*2^((n:Int).toNat)=((2^n:Nat):Int):=by simp
theorem sz1:Sz 1 1:=by decide +kernel
theorem p_2:(0:Int)<2:=by decide
theorem p_4:(0:Int)<4:=by decide
theorem p_8:(0:Int)<8:=by decide
theorem Y7y (K:U0):PySem.W.kitOne K (.type "tuple") (.type "tuple")=some true:=by unfold PySem.W.kitOne;rw[if_pos (by decide)]
end Ba
namespace L2
theorem fS {N P:W0}{sc:Scope}(a:sc.kind=.function:=by exact rfl)(b:sc.isCoroutine=false:=by exact rfl)(c:sc.isGenerator=false:=by exact rfl)(d:N.Nodup:=by decide +kernel)(e:N.take P.length=P:=by exact rfl)(f:∀ x∈P,sc.names.lookup x=some .local∨sc.names.lookup x=some .cell:=by decide +kernel)(g:∀ y∈sc.names,y.2≠.free:=by decide +kernel):FnScope N P sc:=⟨a,b,c,d,e,f,g⟩
end L2
namespace K75
open L2 Am Pc Ba
noncomputable def top (i:Nat):Stmt:=PySem.Challenge.pw_spinboard_k75_whole_unlike.main.body.getD i (.Pass ⟨0,0,0,0⟩)
structure Bs (mg:U4):Prop where
 isinstance:mg "isinstance"=none
 int:mg "int"=none
 bool:mg "bool"=none
 tuple:mg "tuple"=none
 list:mg "list"=none
 len:mg "len"=none
 range:mg "range"=none
 all:mg "all"=none
 any:mg "any"=none
 max:mg "max"=none
 min:mg "min"=none
 zip:mg "zip"=none
 set:mg "set"=none
 str:mg "str"=none
 enumerate:mg "enumerate"=none
 reversed:mg "reversed"=none
section
variable {P:U8}{w:W1}{K:U0}{mg:U4}{base:Heap}{k:Nat}{h:Heap}
theorem sc_cell:FnScope ["_law_script","_law_k"] ["_law_script","_law_k"] (Z0h (top 78)):=fS
theorem X5p (F:FunAt K "_law_cell_at" (top 78) .none)(X:K.In h)(G:Ng h mg)(B:Bs mg):Cal P w K mg base (k+1) "_law_cell_at" ["_law_script","_law_k"] (spCell K):=by
 have nd:=sc_cell.nd
 refine F.cal X G sc_cell (bnd2 λ_ _ _ _ _ _ _ _=>rfl) (λvs H Q E h=>?_) (λf cdv A outer s H vs Q E hr h=>?_)
 ·obtain⟨a,ns,i,rfl,_⟩:=h;rfl
 obtain⟨a,ns,i,rfl,hS,h0,q⟩:=h
 refine⟨_,(@Z0g _ _ _ _ _ (Z0y (Z0n Y4t (pv 1) (Z0q Z0u rfl B.len q1m (Z0a (pv 0) Z0e)) (nomark _))
   (@Z0f _ _ _ (Z0j (Z0m Z0s (pv 0) (pv 1) (λ_ _=>rfl))))
   Z0p)
  (@Z0f _ _ _ (Z0j Z0b))),?_⟩
 try dsimp only[cxK]
 have hl:(ns.map V.int).length=ns.length:=q0a _
 refine⟨_,Z,_,Z,a,_,Z,.inl hS,_,_,Z,Z,_,Z,decI (λc=>?_) (λc=>?_)⟩
 ·rw[hl] at c
  refine⟨_,Z,_,Z,a,_,_,_,Z,Z,hS,W0v h0 c,?_⟩
  unfold cell at q
  rw[if_pos c] at q
  exact q
 ·rw[hl] at c
  unfold cell at q
  rw[if_neg c] at q
  exact q
end
end K75
noncomputable section
namespace K75
open L2 Ba
namespace Hd
open PySem.W
set_option maxHeartbeats 0
noncomputable abbrev pr:Program:=PySem.Challenge.pw_spinboard_k75_whole_unlike
abbrev kh:=PyData.keyHash
noncomputable def dPos (s:Stmt):Pos:=match s with
 | .FunctionDef _ _ _ _ _ _ _ _ _ p=>p
 | _=>⟨0,0,0,0⟩
noncomputable def life:Life:=(Life.mk [] [] [] 0 [] [] false #[] [] 0 false false false 0 [2000,10,10] false 0 true [] [] 0 false)
noncomputable def en:Env:={ scope:=pr.main.scope,locals:=mainNs,globals:=mainNs,cells:=[],code:=(.ref 13),frame:=some 14 }
noncomputable def dn (P:Params)(x:Str)(t:Nat)(v:W2):DictEntry:=DictEntry.mk (kh P x) (.str x t) v
noncomputable def cob (n:Str)(t1:Nat)(q:Str)(t2 t3:Nat)(i1 i2 i3 i4 i5:Int)(r1:W9)(b:Bool)(i6:Int)(r2:W9)(v1 v2 v3:W2)(i7 i8:Int)(t4:Nat):Obj:=Obj.mk (.type "code") none (Data.fields #[.str n t1,.str q t2,.str "/claim/cut.py" t3,.int i1 0,.int i2 0,.int i3 0,.int i4 0,.int i5 0,.ref r1,.bool b,.int i6 0,.ref r2,.none,v1,v2,v3,.int i7 0,.int i8 0,.str "/claim/cut.py" t4]) #[]
noncomputable def fo1 (n q:Str)(s:Stmt)(k j:Nat):Obj:=Obj.mk .none none (Data.func (FuncData.mk n q (Z1n s) (FuncBody.stmts (Z1j s)) (Z0h s) k [] .none .none .none .none none .none .none j)) #[]
noncomputable def fo2 (n q:Str)(s:Stmt)(k:Nat)(m:Str)(t:Nat)(c:W9)(j:Nat):Obj:=Obj.mk (.type "function") none (Data.func (FuncData.mk n q (Z1n s) (FuncBody.stmts (Z1j s)) (Z0h s) k [] .none .none .none (.str m t) none (.ref c) .none j)) #[]
noncomputable def sq0 (T:String)(n:Nat):Obj:=Obj.mk (.type T) none (Data.seq #[] n) #[]
noncomputable def tq (a:U9):Obj:=Obj.mk (.type "tuple") none (Data.seq a 0) #[]
noncomputable def nf0:Obj:=Obj.mk .none none (Data.fields #[]) #[]
abbrev Pz:=Params
noncomputable abbrev tz:Obj:=sq0 "tuple" 0
noncomputable def iL (t:BT):List (Nat × Obj)->BT
 | []=>t
 | x::l=>iL (t.ins x.1 x.2) l
noncomputable def iF (t:BT):Nat->List Obj->BT
 | _,[]=>t
 | n,x::l=>iF (t.ins n x) (n+1) l
noncomputable def ob3 (l:List DictEntry)(n:Nat):Obj:=Obj.mk (.type "dict") none (Data.dict (Array.mk l) n) #[]
noncomputable def ob12 (l:U5):Obj:=Obj.mk .none none (Data.fields (Array.mk l)) #[]
def j13(P:Pz):=(cob "<module>" 182 "<module>" 183 184 1 0 0 0 0 11 false 181 12 .none .none .none 185 1 186)
noncomputable def j14(P:Pz):=Obj.mk (.type "frame") none Data.plain #[(some (.ref 13)),(some (.ref 3)),(some (.ref 3)),none,(some (.str "__main__" 164)),none,(some (.ref 0))]
def Ha (P:Pz):Heap:=Heap.mk (Array.mk [boot_o_0 P,boot_o_1 P,boot_o_2 P,boot_o_3 P,boot_o_4 P,boot_o_5 P,boot_o_6 P,boot_o_7 P,boot_o_8 P,boot_o_9 P,boot_o_10 P,tz,nf0,j13 P,j14 P]) life
def T0 (P:Pz):BT:=(.node (boot_o_0 P) (.node (boot_o_1 P) (.node (boot_o_3 P) (.node (boot_o_7 P) .nil .nil) (.node tz .nil .nil)) (.node (boot_o_5 P) (.node (boot_o_9 P) .nil .nil) (.node (j13 P) .nil .nil))) (.node (boot_o_2 P) (.node (boot_o_4 P) (.node (boot_o_8 P) .nil .nil) (.node nf0 .nil .nil)) (.node (boot_o_6 P) (.node (boot_o_10 P) .nil .nil) (.node (j14 P) .nil .nil))))
noncomputable def l0:List Stmt:=[top 0,top 1]
noncomputable def l1:List Stmt:=[top 2]
noncomputable def l2:List Stmt:=[top 3]
noncomputable def l3:List Stmt:=[top 4]
noncomputable def l4:List Stmt:=[top 5,top 6,top 7,top 8,top 9,top 10,top 11,top 12]
noncomputable def l5:List Stmt:=[top 13,top 14,top 15,top 16,top 17,top 18,top 19,top 20,top 21,top 22,top 23,top 24,top 25,top 26,top 27]
noncomputable def l6:List Stmt:=[top 28,top 29,top 30,top 31,top 32,top 33,top 34,top 35,top 36,top 37,top 38]
noncomputable def l7:List Stmt:=[top 39,top 40,top 41,top 42,top 43,top 44,top 45,top 46,top 47,top 48,top 49,top 50,top 51,top 52,top 53]
noncomputable def l8:List Stmt:=[top 54,top 55,top 56,top 57,top 58,top 59,top 60,top 61,top 62,top 63,top 64,top 65,top 66,top 67,top 68]
noncomputable def l9:List Stmt:=[top 69,top 70,top 71,top 72,top 73,top 74,top 75,top 76,top 77,top 78,top 79,top 80,top 81,top 82]
noncomputable def l10:List Stmt:=[top 83,top 84,top 85,top 86,top 87,top 88,top 89,top 90,top 91,top 92]
noncomputable def bE:List Stmt:=l0++(l1++(l2++(l3++(l4++(l5++(l6++(l7++(l8++(l9++(l10++[]))))))))))
noncomputable abbrev cE:Code:=Code.body bE en
noncomputable abbrev BB:List Frame:=[topFrame (Pos.mk 0 0 0 0)]
theorem pre_ (w:W1)(os:OsState):topGo treeTable pr w 11 (some (.ref 6)) 12 (Shared.mk (boot_heap w.params) (Array.mk []) boot_drawn boot_toks os) (topStub pr)=some (Shared.mk (Ha w.params) (Array.mk []) (Drawn.mk 0 0 0 0) 187 os,Thread.mk (denote treeTable cE) cE (Pos.mk 0 0 0 0) BB):=by rw[PySem.W.Fast.te15667345088766844465,PySem.W.Fast.te11892475500146522536,PySem.W.Fast.te14364793385576792824];kernel_rfl
theorem W0r (w:W1)(os:OsState):segRun treeTable pr w 11 (some (.ref 6)) 1 1 (Shared.mk (Ha w.params) (Array.mk []) (Drawn.mk 0 0 0 0) 187 os) (blockOf bE en cE (Pos.mk 0 0 0 0) BB)=some (Flow.next,(SharedT.mk (T0 w.params) 15 life (Array.mk []) (Drawn.mk 0 0 0 0) 187 os).abs,cE,(Pos.mk 0 0 0 0)):=by rw[PySem.W.Fast.te14374325043358763698,PySem.W.Fast.te14364793385576792824];kernel_rfl
noncomputable def y3_2(P:Pz):List DictEntry:=[(dn P "__doc__" 166 .none),(dn P "__package__" 167 .none),(dn P "__loader__" 168 (.builtin "__main__.__loader__#opaque")),(dn P "__spec__" 169 .none),(dn P "__annotations__" 170 (.ref 6)),(dn P "__builtins__" 171 (.ref 4)),(dn P "__file__" 173 (.str "/claim/cut.py" 172)),(dn P "__cached__" 174 .none),(dn P "BoardError" 206 (.ref 24))]
def j3_2(P:Pz):=ob3 ((dn P "__name__" 165 (.str "spinboard.errors" 187))::y3_2 P) 10
noncomputable def X7j(P:Pz):List Value:=[(.int 2 0),(.int 0 0),(.ref 20)]
def W2f(P:Pz):=ob12 (X7j P)
def j15(P:Pz):=tq #[(.type "ValueError")]
noncomputable def j16(P:Pz):=Obj.mk (.type "builtin_function_or_method") none (Data.fields #[(.builtin "type.__prepare__"),(.type "type")]) #[]
def j17(P:Pz):=ob3 [(dn P "__module__" 196 (.str "spinboard.errors" 187)),(dn P "__qualname__" 198 (.str "BoardError" 197)),(dn P "__firstlineno__" 200 (.int 2 199)),(dn P "__static_attributes__" 201 (.ref 22))] 4
def j20(P:Pz):=(cob "BoardError" 191 "BoardError" 192 193 2 0 0 0 0 18 false 181 19 .none .none .none 194 2 195)
noncomputable def j21(P:Pz):=Obj.mk (.type "frame") none Data.plain #[(some (.ref 20)),(some (.ref 3)),(some (.ref 17)),none,(some (.str "spinboard.errors" 187)),none,(some (.ref 0))]
def j23(P:Pz):=ob3 [(dn P "__module__" 196 (.str "spinboard.errors" 187)),(dn P "__firstlineno__" 200 (.int 2 199)),(dn P "__static_attributes__" 201 (.ref 22)),(dn P "__weakref__" 203 (.ref 25)),(dn P "__doc__" 204 .none)] 3
def W1x(P:Pz):=Obj.mk (.type "type") none (Data.cls (ClassData.mk "BoardError" [(.type "ValueError")] [(.ref 24),(.type "ValueError"),(.type "Exception"),(.type "BaseException"),(.type "object")] 23 "BoardError" true [] [] false none false)) #[(some (.ref 15)),none,(some (.str "BoardError" 189)),(some (.str "BoardError" 197)),(some (.builtin "ValueError.__new__")),(some (.bool true))]
noncomputable def j25(P:Pz):=Obj.mk (.type "getset_descriptor") none (Data.fields #[(.str "__weakref__" 202),(.ref 24),(.builtin "ExceptionGroup.__weakref__"),.none]) #[]
noncomputable def j26(P:Pz):=Obj.mk (.type "super") none (Data.fields #[(.ref 24),(.ref 24),(.ref 24)]) #[]
noncomputable def j27(P:Pz):=Obj.mk (.type "builtin_function_or_method") none (Data.fields #[(.builtin "object.__init_subclass__"),(.ref 24)]) #[]
def x1(P:Pz):List Obj:=[j15 P,j16 P,j17 P,tz,nf0,j20 P,j21 P,tz,j23 P,W1x P,j25 P,j26 P,j27 P]
def T1 (P:Pz):BT:=iF (iL (T0 P) [(3,j3_2 P),(12,W2f P)]) 15 (x1 P)
theorem g0 (p:U8)(b:W8)(w:W1)(os:OsState):segRunT treeTable p w 11 (some (.ref 6)) 1 196 (SharedT.mk (T0 w.params) 15 life (Array.mk []) (Drawn.mk 0 0 0 0) 187 os) (piecesOf l0 en (Code.body b en) (Pos.mk 0 0 0 0) BB)=some (Flow.next,(SharedT.mk (T1 w.params) 28 life (Array.mk []) (Drawn.mk 0 0 0 0) 207 os),Code.body b en,(Pos.mk 2 0 3 8)):=by rw[PySem.W.Fast.te10110043849684766642,PySem.W.Fast.te14364793385576792824];kernel_rfl
def y3_3(P:Pz):List DictEntry:=y3_2 P++[(dn P "NoMove" 222 (.ref 37))]
def j3_3(P:Pz):=ob3 ((dn P "__name__" 165 (.str "spinboard.errors" 187))::y3_3 P) 11
def X7i(P:Pz):List Value:=X7j P++[(.int 4 0),(.int 0 0),(.ref 33)]
def W2e(P:Pz):=ob12 (X7i P)
def W1w(P:Pz):=Obj.mk (.type "type") none (Data.cls (ClassData.mk "BoardError" [(.type "ValueError")] [(.ref 24),(.type "ValueError"),(.type "Exception"),(.type "BaseException"),(.type "object")] 23 "BoardError" true [] [(.ref 37)] false none false)) #[(some (.ref 15)),none,(some (.str "BoardError" 189)),(some (.str "BoardError" 197)),(some (.builtin "ValueError.__new__")),(some (.bool true))]
def j28(P:Pz):=tq #[(.ref 24)]
def j30(P:Pz):=ob3 [(dn P "__module__" 214 (.str "spinboard.errors" 187)),(dn P "__qualname__" 216 (.str "NoMove" 215)),(dn P "__firstlineno__" 218 (.int 4 217)),(dn P "__static_attributes__" 219 (.ref 35))] 4
def j33(P:Pz):=(cob "NoMove" 209 "NoMove" 210 211 4 0 0 0 0 31 false 181 32 .none .none .none 212 4 213)
noncomputable def j34(P:Pz):=Obj.mk (.type "frame") none Data.plain #[(some (.ref 33)),(some (.ref 3)),(some (.ref 30)),none,(some (.str "spinboard.errors" 187)),none,(some (.ref 0))]
def j36(P:Pz):=ob3 [(dn P "__module__" 214 (.str "spinboard.errors" 187)),(dn P "__firstlineno__" 218 (.int 4 217)),(dn P "__static_attributes__" 219 (.ref 35)),(dn P "__doc__" 220 .none)] 2
noncomputable def j37(P:Pz):=Obj.mk (.type "type") none (Data.cls (ClassData.mk "NoMove" [(.ref 24)] [(.ref 37),(.ref 24),(.type "ValueError"),(.type "Exception"),(.type "BaseException"),(.type "object")] 36 "NoMove" true [] [] false none false)) #[(some (.ref 28)),none,(some (.str "NoMove" 207)),(some (.str "NoMove" 215)),(some (.builtin "ValueError.__new__")),(some (.bool true))]
noncomputable def j38(P:Pz):=Obj.mk (.type "super") none (Data.fields #[(.ref 37),(.ref 37),(.ref 37)]) #[]
noncomputable def j39(P:Pz):=Obj.mk (.type "builtin_function_or_method") none (Data.fields #[(.builtin "object.__init_subclass__"),(.ref 37)]) #[]
def x2(P:Pz):List Obj:=[j28 P,j16 P,j30 P,tz,nf0,j33 P,j34 P,tz,j36 P,j37 P,j38 P,j39 P]
def T2 (P:Pz):BT:=iF (iL (T1 P) [(3,j3_3 P),(12,W2e P),(24,W1w P)]) 28 (x2 P)
theorem g1 (p:U8)(b:W8)(w:W1)(os:OsState):segRunT treeTable p w 11 (some (.ref 6)) 1 214 (SharedT.mk (T1 w.params) 28 life (Array.mk []) (Drawn.mk 0 0 0 0) 207 os) (piecesOf l1 en (Code.body b en) (Pos.mk 2 0 3 8) BB)=some (Flow.next,(SharedT.mk (T2 w.params) 40 life (Array.mk []) (Drawn.mk 0 0 0 0) 223 os),Code.body b en,(Pos.mk 4 0 5 8)):=by rw[PySem.W.Fast.te10110043849684766642,PySem.W.Fast.te14364793385576792824];kernel_rfl
def y3_4(P:Pz):List DictEntry:=y3_3 P++[(dn P "NoCell" 238 (.ref 49))]
def j3_4(P:Pz):=ob3 ((dn P "__name__" 165 (.str "spinboard.errors" 187))::y3_4 P) 12
def X7h(P:Pz):List Value:=X7i P++[(.int 6 0),(.int 0 0),(.ref 45)]
def W2d(P:Pz):=ob12 (X7h P)
def W1v(P:Pz):=Obj.mk (.type "type") none (Data.cls (ClassData.mk "BoardError" [(.type "ValueError")] [(.ref 24),(.type "ValueError"),(.type "Exception"),(.type "BaseException"),(.type "object")] 23 "BoardError" true [] [(.ref 37),(.ref 49)] false none false)) #[(some (.ref 15)),none,(some (.str "BoardError" 189)),(some (.str "BoardError" 197)),(some (.builtin "ValueError.__new__")),(some (.bool true))]
def j42(P:Pz):=ob3 [(dn P "__module__" 230 (.str "spinboard.errors" 187)),(dn P "__qualname__" 232 (.str "NoCell" 231)),(dn P "__firstlineno__" 234 (.int 6 233)),(dn P "__static_attributes__" 235 (.ref 47))] 4
def j45(P:Pz):=(cob "NoCell" 225 "NoCell" 226 227 6 0 0 0 0 43 false 181 44 .none .none .none 228 6 229)
noncomputable def j46(P:Pz):=Obj.mk (.type "frame") none Data.plain #[(some (.ref 45)),(some (.ref 3)),(some (.ref 42)),none,(some (.str "spinboard.errors" 187)),none,(some (.ref 0))]
def j48(P:Pz):=ob3 [(dn P "__module__" 230 (.str "spinboard.errors" 187)),(dn P "__firstlineno__" 234 (.int 6 233)),(dn P "__static_attributes__" 235 (.ref 47)),(dn P "__doc__" 236 .none)] 2
noncomputable def j49(P:Pz):=Obj.mk (.type "type") none (Data.cls (ClassData.mk "NoCell" [(.ref 24)] [(.ref 49),(.ref 24),(.type "ValueError"),(.type "Exception"),(.type "BaseException"),(.type "object")] 48 "NoCell" true [] [] false none false)) #[(some (.ref 40)),none,(some (.str "NoCell" 223)),(some (.str "NoCell" 231)),(some (.builtin "ValueError.__new__")),(some (.bool true))]
noncomputable def j50(P:Pz):=Obj.mk (.type "super") none (Data.fields #[(.ref 49),(.ref 49),(.ref 49)]) #[]
noncomputable def j51(P:Pz):=Obj.mk (.type "builtin_function_or_method") none (Data.fields #[(.builtin "object.__init_subclass__"),(.ref 49)]) #[]
def x3(P:Pz):List Obj:=[j28 P,j16 P,j42 P,tz,nf0,j45 P,j46 P,tz,j48 P,j49 P,j50 P,j51 P]
def T3 (P:Pz):BT:=iF (iL (T2 P) [(3,j3_4 P),(12,W2d P),(24,W1v P)]) 40 (x3 P)
theorem g2 (p:U8)(b:W8)(w:W1)(os:OsState):segRunT treeTable p w 11 (some (.ref 6)) 1 214 (SharedT.mk (T2 w.params) 40 life (Array.mk []) (Drawn.mk 0 0 0 0) 223 os) (piecesOf l2 en (Code.body b en) (Pos.mk 4 0 5 8) BB)=some (Flow.next,(SharedT.mk (T3 w.params) 52 life (Array.mk []) (Drawn.mk 0 0 0 0) 239 os),Code.body b en,(Pos.mk 6 0 7 8)):=by rw[PySem.W.Fast.te10110043849684766642,PySem.W.Fast.te14364793385576792824];kernel_rfl
def y3_5(P:Pz):List DictEntry:=y3_4 P++[(dn P "NoTable" 254 (.ref 61))]
def j3_5(P:Pz):=ob3 ((dn P "__name__" 165 (.str "spinboard.errors" 187))::y3_5 P) 13
def X7g(P:Pz):List Value:=X7h P++[(.int 8 0),(.int 0 0),(.ref 57)]
def W2c(P:Pz):=ob12 (X7g P)
def W1u(P:Pz):=Obj.mk (.type "type") none (Data.cls (ClassData.mk "BoardError" [(.type "ValueError")] [(.ref 24),(.type "ValueError"),(.type "Exception"),(.type "BaseException"),(.type "object")] 23 "BoardError" true [] [(.ref 37),(.ref 49),(.ref 61)] false none false)) #[(some (.ref 15)),none,(some (.str "BoardError" 189)),(some (.str "BoardError" 197)),(some (.builtin "ValueError.__new__")),(some (.bool true))]
def j54(P:Pz):=ob3 [(dn P "__module__" 246 (.str "spinboard.errors" 187)),(dn P "__qualname__" 248 (.str "NoTable" 247)),(dn P "__firstlineno__" 250 (.int 8 249)),(dn P "__static_attributes__" 251 (.ref 59))] 4
def j57(P:Pz):=(cob "NoTable" 241 "NoTable" 242 243 8 0 0 0 0 55 false 181 56 .none .none .none 244 8 245)
noncomputable def j58(P:Pz):=Obj.mk (.type "frame") none Data.plain #[(some (.ref 57)),(some (.ref 3)),(some (.ref 54)),none,(some (.str "spinboard.errors" 187)),none,(some (.ref 0))]
def j60(P:Pz):=ob3 [(dn P "__module__" 246 (.str "spinboard.errors" 187)),(dn P "__firstlineno__" 250 (.int 8 249)),(dn P "__static_attributes__" 251 (.ref 59)),(dn P "__doc__" 252 .none)] 2
noncomputable def j61(P:Pz):=Obj.mk (.type "type") none (Data.cls (ClassData.mk "NoTable" [(.ref 24)] [(.ref 61),(.ref 24),(.type "ValueError"),(.type "Exception"),(.type "BaseException"),(.type "object")] 60 "NoTable" true [] [] false none false)) #[(some (.ref 52)),none,(some (.str "NoTable" 239)),(some (.str "NoTable" 247)),(some (.builtin "ValueError.__new__")),(some (.bool true))]
noncomputable def j62(P:Pz):=Obj.mk (.type "super") none (Data.fields #[(.ref 61),(.ref 61),(.ref 61)]) #[]
noncomputable def j63(P:Pz):=Obj.mk (.type "builtin_function_or_method") none (Data.fields #[(.builtin "object.__init_subclass__"),(.ref 61)]) #[]
def x4(P:Pz):List Obj:=[j28 P,j16 P,j54 P,tz,nf0,j57 P,j58 P,tz,j60 P,j61 P,j62 P,j63 P]
def T4 (P:Pz):BT:=iF (iL (T3 P) [(3,j3_5 P),(12,W2c P),(24,W1u P)]) 52 (x4 P)
theorem g3 (p:U8)(b:W8)(w:W1)(os:OsState):segRunT treeTable p w 11 (some (.ref 6)) 1 214 (SharedT.mk (T3 w.params) 52 life (Array.mk []) (Drawn.mk 0 0 0 0) 239 os) (piecesOf l3 en (Code.body b en) (Pos.mk 6 0 7 8) BB)=some (Flow.next,(SharedT.mk (T4 w.params) 64 life (Array.mk []) (Drawn.mk 0 0 0 0) 255 os),Code.body b en,(Pos.mk 8 0 9 8)):=by rw[PySem.W.Fast.te10110043849684766642,PySem.W.Fast.te14364793385576792824];kernel_rfl
def y3_6(P:Pz):List DictEntry:=y3_5 P++[(dn P "NotBorne" 279 (.ref 80)),(dn P "is_whole" 288 (.ref 89)),(dn P "CELL_SIGNS" 292 (.str ".fsb" 291)),(dn P "ones" 301 (.ref 96)),(dn P "is_word" 309 (.ref 103)),(dn P "is_mark" 317 (.ref 110))]
def j3_6(P:Pz):=ob3 ((dn P "__name__" 165 (.str "spinboard.marks" 289))::y3_6 P) 19
def X7f(P:Pz):List Value:=X7g P++[(.int 10 0),(.int 0 0),(.ref 69),(.int 15 0),(.int 0 0),(.ref 88),(.int 19 0),(.int 0 0),(.ref 95),(.int 26 0),(.int 0 0),(.ref 102),(.int 30 0),(.int 0 0),(.ref 109)]
def W2b(P:Pz):=ob12 (X7f P)
def X9s(P:Pz):=Obj.mk (.type "type") none (Data.cls (ClassData.mk "BoardError" [(.type "ValueError")] [(.ref 24),(.type "ValueError"),(.type "Exception"),(.type "BaseException"),(.type "object")] 23 "BoardError" true [] [(.ref 37),(.ref 49),(.ref 61),(.ref 80)] false none false)) #[(some (.ref 15)),none,(some (.str "BoardError" 189)),(some (.str "BoardError" 197)),(some (.builtin "ValueError.__new__")),(some (.bool true))]
def j66(P:Pz):=ob3 [(dn P "__module__" 262 (.str "spinboard.errors" 187)),(dn P "__qualname__" 264 (.str "NotBorne" 263)),(dn P "__firstlineno__" 266 (.int 10 265)),(dn P "__init__" 274 (.ref 77)),(dn P "__static_attributes__" 276 (.ref 78))] 5
noncomputable def j68(P:Pz):=Obj.mk .none none (Data.fields #[(.int 12 0),(.int 4 0),(.ref 76)]) #[]
def j69(P:Pz):=(cob "NotBorne" 257 "NotBorne" 258 259 10 0 0 0 0 67 false 181 68 .none .none .none 260 10 261)
noncomputable def j70(P:Pz):=Obj.mk (.type "frame") none Data.plain #[(some (.ref 69)),(some (.ref 3)),(some (.ref 66)),none,(some (.str "spinboard.errors" 187)),none,(some (.ref 0))]
def j73(P:Pz):=tq #[(.str "self" 270),(.str "place" 271)]
def j75(P:Pz):=(fo1 "__init__" "NotBorne.__init__" (Y8g (top 5) 0) 0 0)
def j76(P:Pz):=(cob "__init__" 267 "NotBorne.__init__" 268 269 12 2 0 0 3 71 true 181 72 (.ref 73) (.ref 74) (.ref 75) 272 12 273)
def j77(P:Pz):=(fo2 "__init__" "NotBorne.__init__" (Y8g (top 5) 0) 3 "spinboard.errors" 187 76 0)
def j78(P:Pz):=tq #[(.str "place" 275)]
def j79(P:Pz):=ob3 [(dn P "__module__" 262 (.str "spinboard.errors" 187)),(dn P "__firstlineno__" 266 (.int 10 265)),(dn P "__init__" 274 (.ref 77)),(dn P "__static_attributes__" 276 (.ref 78)),(dn P "__doc__" 277 .none)] 2
noncomputable def j80(P:Pz):=Obj.mk (.type "type") none (Data.cls (ClassData.mk "NotBorne" [(.ref 24)] [(.ref 80),(.ref 24),(.type "ValueError"),(.type "Exception"),(.type "BaseException"),(.type "object")] 79 "NotBorne" true [] [] false none false)) #[(some (.ref 64)),none,(some (.str "NotBorne" 255)),(some (.str "NotBorne" 263)),(some (.builtin "ValueError.__new__")),(some (.bool true))]
noncomputable def j81(P:Pz):=Obj.mk (.type "super") none (Data.fields #[(.ref 80),(.ref 80),(.ref 80)]) #[]
noncomputable def j82(P:Pz):=Obj.mk (.type "builtin_function_or_method") none (Data.fields #[(.builtin "object.__init_subclass__"),(.ref 80)]) #[]
def j85(P:Pz):=tq #[(.str "thing" 285)]
def j87(P:Pz):=(fo1 "is_whole" "is_whole" (top 7) 0 0)
def j88(P:Pz):=(cob "is_whole" 282 "is_whole" 283 284 15 1 0 0 3 83 true 181 84 (.ref 85) (.ref 86) (.ref 87) 286 15 287)
def j89(P:Pz):=(fo2 "is_whole" "is_whole" (top 7) 3 "spinboard.shares" 280 88 0)
def j92(P:Pz):=tq #[(.str "number" 296),(.str "many" 297),(.str "rest" 298)]
def j94(P:Pz):=(fo1 "ones" "ones" (top 10) 0 0)
def j95(P:Pz):=(cob "ones" 293 "ones" 294 295 19 1 0 0 3 90 true 181 91 (.ref 92) (.ref 93) (.ref 94) 299 19 300)
def j96(P:Pz):=(fo2 "ones" "ones" (top 10) 3 "spinboard.marks" 289 95 0)
def j99(P:Pz):=tq #[(.str "thing" 305),(.str "cells" 306)]
def j101(P:Pz):=(fo1 "is_word" "is_word" (top 11) 0 0)
def j102(P:Pz):=(cob "is_word" 302 "is_word" 303 304 26 2 0 0 3 97 true 181 98 (.ref 99) (.ref 100) (.ref 101) 307 26 308)
def j103(P:Pz):=(fo2 "is_word" "is_word" (top 11) 3 "spinboard.marks" 289 102 0)
def j106(P:Pz):=tq #[(.str "thing" 313),(.str "cells" 314)]
def j108(P:Pz):=(fo1 "is_mark" "is_mark" (top 12) 0 0)
def j109(P:Pz):=(cob "is_mark" 310 "is_mark" 311 312 30 2 0 0 3 104 true 181 105 (.ref 106) (.ref 107) (.ref 108) 315 30 316)
def j110(P:Pz):=(fo2 "is_mark" "is_mark" (top 12) 3 "spinboard.marks" 289 109 0)
def x5(P:Pz):List Obj:=[j28 P,j16 P,j66 P,tz,j68 P,j69 P,j70 P,tz,nf0,j73 P,tz,j75 P,j76 P,j77 P,j78 P,j79 P,j80 P,j81 P,j82 P,tz,nf0,j85 P,tz,j87 P,j88 P,j89 P,tz,nf0,j92 P,tz,j94 P,j95 P,j96 P,tz,nf0,j99 P,tz,j101 P,j102 P,j103 P,tz,nf0,j106 P,tz,j108 P,j109 P,j110 P]
def T5 (P:Pz):BT:=iF (iL (T4 P) [(3,j3_6 P),(12,W2b P),(24,X9s P)]) 64 (x5 P)
theorem g4 (p:U8)(b:W8)(w:W1)(os:OsState):segRunT treeTable p w 11 (some (.ref 6)) 1 393 (SharedT.mk (T4 w.params) 64 life (Array.mk []) (Drawn.mk 0 0 0 0) 255 os) (piecesOf l4 en (Code.body b en) (Pos.mk 8 0 9 8) BB)=some (Flow.next,(SharedT.mk (T5 w.params) 111 life (Array.mk []) (Drawn.mk 0 0 0 0) 318 os),Code.body b en,(Pos.mk 30 0 35 64)):=by rw[PySem.W.Fast.te10110043849684766642,PySem.W.Fast.te14364793385576792824];kernel_rfl
def y3_7(P:Pz):List DictEntry:=y3_6 P++[(dn P "is_even" 324 (.ref 117)),(dn P "is_even_mark" 332 (.ref 124)),(dn P "commute" 340 (.ref 131)),(dn P "turned_about" 347 (.ref 138)),(dn P "cell_sign" 357 (.ref 145)),(dn P "halved_out" 373 (.ref 152)),(dn P "plus" 379 (.ref 157)),(dn P "minus" 387 (.ref 164)),(dn P "spun" 397 (.ref 171)),(dn P "spun_once" 404 (.ref 178)),(dn P "rooted" 411 (.ref 185)),(dn P "cells_of" 420 (.ref 192))]
def j3_7(P:Pz):=ob3 ((dn P "__name__" 165 (.str "spinboard.moves" 421))::y3_7 P) 31
def X7e(P:Pz):List Value:=X7f P++[(.int 36 0),(.int 0 0),(.ref 116),(.int 38 0),(.int 0 0),(.ref 123),(.int 40 0),(.int 0 0),(.ref 130),(.int 42 0),(.int 0 0),(.ref 137),(.int 44 0),(.int 0 0),(.ref 144),(.int 49 0),(.int 0 0),(.ref 151),(.int 56 0),(.int 0 0),(.ref 156),(.int 62 0),(.int 0 0),(.ref 163),(.int 64 0),(.int 0 0),(.ref 170),(.int 69 0),(.int 0 0),(.ref 177),(.int 71 0),(.int 0 0),(.ref 184),(.int 74 0),(.int 0 0),(.ref 191)]
def W2a(P:Pz):=ob12 (X7e P)
def j113(P:Pz):=tq #[(.str "mark" 321)]
def j115(P:Pz):=(fo1 "is_even" "is_even" (top 13) 0 0)
def j116(P:Pz):=(cob "is_even" 318 "is_even" 319 320 36 1 0 0 3 111 true 181 112 (.ref 113) (.ref 114) (.ref 115) 322 36 323)
def j117(P:Pz):=(fo2 "is_even" "is_even" (top 13) 3 "spinboard.marks" 289 116 0)
def j120(P:Pz):=tq #[(.str "thing" 328),(.str "cells" 329)]
def j122(P:Pz):=(fo1 "is_even_mark" "is_even_mark" (top 14) 0 0)
def j123(P:Pz):=(cob "is_even_mark" 325 "is_even_mark" 326 327 38 2 0 0 3 118 true 181 119 (.ref 120) (.ref 121) (.ref 122) 330 38 331)
def j124(P:Pz):=(fo2 "is_even_mark" "is_even_mark" (top 14) 3 "spinboard.marks" 289 123 0)
def j127(P:Pz):=tq #[(.str "one" 336),(.str "other" 337)]
def j129(P:Pz):=(fo1 "commute" "commute" (top 15) 0 0)
def j130(P:Pz):=(cob "commute" 333 "commute" 334 335 40 2 0 0 3 125 true 181 126 (.ref 127) (.ref 128) (.ref 129) 338 40 339)
def j131(P:Pz):=(fo2 "commute" "commute" (top 15) 3 "spinboard.marks" 289 130 0)
def j134(P:Pz):=tq #[(.str "mark" 344)]
def j136(P:Pz):=(fo1 "turned_about" "turned_about" (top 16) 0 0)
def j137(P:Pz):=(cob "turned_about" 341 "turned_about" 342 343 42 1 0 0 3 132 true 181 133 (.ref 134) (.ref 135) (.ref 136) 345 42 346)
def j138(P:Pz):=(fo2 "turned_about" "turned_about" (top 16) 3 "spinboard.marks" 289 137 0)
def j141(P:Pz):=tq #[(.str "mark" 351),(.str "cell" 352),(.str "flip" 353),(.str "sign" 354)]
def j143(P:Pz):=(fo1 "cell_sign" "cell_sign" (top 17) 0 0)
def j144(P:Pz):=(cob "cell_sign" 348 "cell_sign" 349 350 44 2 0 0 3 139 true 181 140 (.ref 141) (.ref 142) (.ref 143) 355 44 356)
def j145(P:Pz):=(fo2 "cell_sign" "cell_sign" (top 17) 3 "spinboard.marks" 289 144 0)
def j148(P:Pz):=tq #[(.str "a" 363),(.str "b" 364),(.str "c" 365),(.str "d" 366),(.str "h" 367),(.str "places" 368),(.str "lowest" 369),(.str "less" 370)]
def j150(P:Pz):=(fo1 "halved_out" "halved_out" (top 19) 0 0)
def j151(P:Pz):=(cob "halved_out" 360 "halved_out" 361 362 49 5 0 0 3 146 true 181 147 (.ref 148) (.ref 149) (.ref 150) 371 49 372)
def j152(P:Pz):=(fo2 "halved_out" "halved_out" (top 19) 3 "spinboard.amounts" 358 151 0)
def j155(P:Pz):=(fo1 "plus" "plus" (top 20) 0 0)
def j156(P:Pz):=(cob "plus" 374 "plus" 375 376 56 2 0 0 3 153 true 181 154 .none .none (.ref 155) 377 56 378)
def j157(P:Pz):=(fo2 "plus" "plus" (top 20) 3 "spinboard.amounts" 358 156 0)
def j160(P:Pz):=tq #[(.str "one" 383),(.str "other" 384)]
def j162(P:Pz):=(fo1 "minus" "minus" (top 21) 0 0)
def j163(P:Pz):=(cob "minus" 380 "minus" 381 382 62 2 0 0 3 158 true 181 159 (.ref 160) (.ref 161) (.ref 162) 385 62 386)
def j164(P:Pz):=(fo2 "minus" "minus" (top 21) 3 "spinboard.amounts" 358 163 0)
def j167(P:Pz):=tq #[(.str "one" 391),(.str "k" 392),(.str "turning" 393),(.str "step" 394)]
def j169(P:Pz):=(fo1 "spun" "spun" (top 22) 0 0)
def j170(P:Pz):=(cob "spun" 388 "spun" 389 390 64 2 0 0 3 165 true 181 166 (.ref 167) (.ref 168) (.ref 169) 395 64 396)
def j171(P:Pz):=(fo2 "spun" "spun" (top 22) 3 "spinboard.amounts" 358 170 0)
def j174(P:Pz):=tq #[(.str "one" 401)]
def j176(P:Pz):=(fo1 "spun_once" "spun_once" (top 23) 0 0)
def j177(P:Pz):=(cob "spun_once" 398 "spun_once" 399 400 69 1 0 0 3 172 true 181 173 (.ref 174) (.ref 175) (.ref 176) 402 69 403)
def j178(P:Pz):=(fo2 "spun_once" "spun_once" (top 23) 3 "spinboard.amounts" 358 177 0)
def j181(P:Pz):=tq #[(.str "one" 408)]
def j183(P:Pz):=(fo1 "rooted" "rooted" (top 24) 0 0)
def j184(P:Pz):=(cob "rooted" 405 "rooted" 406 407 71 1 0 0 3 179 true 181 180 (.ref 181) (.ref 182) (.ref 183) 409 71 410)
def j185(P:Pz):=(fo2 "rooted" "rooted" (top 24) 3 "spinboard.amounts" 358 184 0)
def j188(P:Pz):=tq #[(.str "board" 417)]
def j190(P:Pz):=(fo1 "cells_of" "cells_of" (top 26) 0 0)
def j191(P:Pz):=(cob "cells_of" 414 "cells_of" 415 416 74 1 0 0 3 186 true 181 187 (.ref 188) (.ref 189) (.ref 190) 418 74 419)
def j192(P:Pz):=(fo2 "cells_of" "cells_of" (top 26) 3 "spinboard.boards" 412 191 0)
def x6(P:Pz):List Obj:=[tz,nf0,j113 P,tz,j115 P,j116 P,j117 P,tz,nf0,j120 P,tz,j122 P,j123 P,j124 P,tz,nf0,j127 P,tz,j129 P,j130 P,j131 P,tz,nf0,j134 P,tz,j136 P,j137 P,j138 P,tz,nf0,j141 P,tz,j143 P,j144 P,j145 P,tz,nf0,j148 P,tz,j150 P,j151 P,j152 P,tz,nf0,j155 P,j156 P,j157 P,tz,nf0,j160 P,tz,j162 P,j163 P,j164 P,tz,nf0,j167 P,tz,j169 P,j170 P,j171 P,tz,nf0,j174 P,tz,j176 P,j177 P,j178 P,tz,nf0,j181 P,tz,j183 P,j184 P,j185 P,tz,nf0,j188 P,tz,j190 P,j191 P,j192 P]
def T6 (P:Pz):BT:=iF (iL (T5 P) [(3,j3_7 P),(12,W2a P)]) 111 (x6 P)
theorem g5 (p:U8)(b:W8)(w:W1)(os:OsState):segRunT treeTable p w 11 (some (.ref 6)) 1 389 (SharedT.mk (T5 w.params) 111 life (Array.mk []) (Drawn.mk 0 0 0 0) 318 os) (piecesOf l5 en (Code.body b en) (Pos.mk 30 0 35 64) BB)=some (Flow.next,(SharedT.mk (T6 w.params) 193 life (Array.mk []) (Drawn.mk 0 0 0 0) 423 os),Code.body b en,(Pos.mk 76 0 76 8)):=by rw[PySem.W.Fast.te10110043849684766642,PySem.W.Fast.te14364793385576792824];kernel_rfl
def y3_8(P:Pz):List DictEntry:=y3_7 P++[(dn P "NUMBERS_BEHIND" 444 (.ref 193)),(dn P "check_move" 450 (.ref 198)),(dn P "has_move_form" 456 (.ref 203)),(dn P "named_cells" 463 (.ref 210)),(dn P "turned" 469 (.ref 215)),(dn P "mixed" 475 (.ref 220)),(dn P "mixed_at" 484 (.ref 227)),(dn P "spun_where" 490 (.ref 232)),(dn P "word_behind" 496 (.ref 237)),(dn P "exchanged" 506 (.ref 244)),(dn P "back_move" 513 (.ref 251))]
def j3_8(P:Pz):=ob3 ((dn P "__name__" 165 (.str "spinboard.moves" 421))::y3_8 P) 42
def X7d(P:Pz):List Value:=X7e P++[(.int 78 0),(.int 0 0),(.ref 197),(.int 87 0),(.int 0 0),(.ref 202),(.int 97 0),(.int 0 0),(.ref 209),(.int 99 0),(.int 0 0),(.ref 214),(.int 108 0),(.int 0 0),(.ref 219),(.int 110 0),(.int 0 0),(.ref 226),(.int 114 0),(.int 0 0),(.ref 231),(.int 116 0),(.int 0 0),(.ref 236),(.int 127 0),(.int 0 0),(.ref 243),(.int 130 0),(.int 0 0),(.ref 250)]
def W1z(P:Pz):=ob12 (X7d P)
def j193(P:Pz):=ob3 [(dn P "flip" 423 (.int 1 424)),(dn P "mix" 425 (.int 1 426)),(dn P "turn" 427 (.int 2 428)),(dn P "if" 429 (.int 2 430)),(dn P "pair" 431 (.int 2 432)),(dn P "swap" 433 (.int 2 434)),(dn P "cross" 435 (.int 3 436))] 7
def j196(P:Pz):=(fo1 "check_move" "check_move" (top 29) 0 0)
def j197(P:Pz):=(cob "check_move" 445 "check_move" 446 447 78 2 0 0 3 194 true 181 195 .none .none (.ref 196) 448 78 449)
def j198(P:Pz):=(fo2 "check_move" "check_move" (top 29) 3 "spinboard.moves" 421 197 0)
def j201(P:Pz):=(fo1 "has_move_form" "has_move_form" (top 30) 0 0)
def j202(P:Pz):=(cob "has_move_form" 451 "has_move_form" 452 453 87 1 0 0 3 199 true 181 200 .none .none (.ref 201) 454 87 455)
def j203(P:Pz):=(fo2 "has_move_form" "has_move_form" (top 30) 3 "spinboard.moves" 421 202 0)
def j206(P:Pz):=tq #[(.str "move" 460)]
noncomputable def j208(P:Pz):=Obj.mk .none none (Data.func (FuncData.mk "named_cells" "named_cells" (Z1n (top 31)) (FuncBody.stmts (Z1j (top 31))) (Z0h (top 44)) 0 [] .none .none .none .none none .none .none 0)) #[]
def j209(P:Pz):=(cob "named_cells" 457 "named_cells" 458 459 97 1 0 0 3 204 true 181 205 (.ref 206) (.ref 207) (.ref 208) 461 97 462)
noncomputable def j210(P:Pz):=Obj.mk (.type "function") none (Data.func (FuncData.mk "named_cells" "named_cells" (Z1n (top 31)) (FuncBody.stmts (Z1j (top 31))) (Z0h (top 44)) 3 [] .none .none .none (.str "spinboard.moves" 421) none (.ref 209) .none 0)) #[]
def j213(P:Pz):=(fo1 "turned" "turned" (top 32) 0 0)
def j214(P:Pz):=(cob "turned" 464 "turned" 465 466 99 2 0 0 3 211 true 181 212 .none .none (.ref 213) 467 99 468)
def j215(P:Pz):=(fo2 "turned" "turned" (top 32) 3 "spinboard.moves" 421 214 0)
def j218(P:Pz):=(fo1 "mixed" "mixed" (top 33) 0 0)
def j219(P:Pz):=(cob "mixed" 470 "mixed" 471 472 108 2 0 0 3 216 true 181 217 .none .none (.ref 218) 473 108 474)
def j220(P:Pz):=(fo2 "mixed" "mixed" (top 33) 3 "spinboard.moves" 421 219 0)
def j223(P:Pz):=tq #[(.str "board" 479),(.str "word" 480),(.str "bit" 481)]
def j225(P:Pz):=(fo1 "mixed_at" "mixed_at" (top 34) 0 0)
def j226(P:Pz):=(cob "mixed_at" 476 "mixed_at" 477 478 110 3 0 0 3 221 true 181 222 (.ref 223) (.ref 224) (.ref 225) 482 110 483)
def j227(P:Pz):=(fo2 "mixed_at" "mixed_at" (top 34) 3 "spinboard.moves" 421 226 0)
def j230(P:Pz):=(fo1 "spun_where" "spun_where" (top 35) 0 0)
def j231(P:Pz):=(cob "spun_where" 485 "spun_where" 486 487 114 3 0 0 3 228 true 181 229 .none .none (.ref 230) 488 114 489)
def j232(P:Pz):=(fo2 "spun_where" "spun_where" (top 35) 3 "spinboard.moves" 421 231 0)
def j235(P:Pz):=(fo1 "word_behind" "word_behind" (top 36) 0 0)
def j236(P:Pz):=(cob "word_behind" 491 "word_behind" 492 493 116 2 0 0 3 233 true 181 234 .none .none (.ref 235) 494 116 495)
def j237(P:Pz):=(fo2 "word_behind" "word_behind" (top 36) 3 "spinboard.moves" 421 236 0)
def j240(P:Pz):=tq #[(.str "word" 500),(.str "bit" 501),(.str "other" 502),(.str "both" 503)]
def j242(P:Pz):=(fo1 "exchanged" "exchanged" (top 37) 0 0)
def j243(P:Pz):=(cob "exchanged" 497 "exchanged" 498 499 127 3 0 0 3 238 true 181 239 (.ref 240) (.ref 241) (.ref 242) 504 127 505)
def j244(P:Pz):=(fo2 "exchanged" "exchanged" (top 37) 3 "spinboard.moves" 421 243 0)
def j247(P:Pz):=tq #[(.str "move" 510)]
noncomputable def j249(P:Pz):=Obj.mk .none none (Data.func (FuncData.mk "back_move" "back_move" (Z1n (top 38)) (FuncBody.stmts (Z1j (top 38))) (Z0h (top 44)) 0 [] .none .none .none .none none .none .none 0)) #[]
def j250(P:Pz):=(cob "back_move" 507 "back_move" 508 509 130 1 0 0 3 245 true 181 246 (.ref 247) (.ref 248) (.ref 249) 511 130 512)
noncomputable def j251(P:Pz):=Obj.mk (.type "function") none (Data.func (FuncData.mk "back_move" "back_move" (Z1n (top 38)) (FuncBody.stmts (Z1j (top 38))) (Z0h (top 44)) 3 [] .none .none .none (.str "spinboard.moves" 421) none (.ref 250) .none 0)) #[]
def x7(P:Pz):List Obj:=[j193 P,tz,nf0,j196 P,j197 P,j198 P,tz,nf0,j201 P,j202 P,j203 P,tz,nf0,j206 P,tz,j208 P,j209 P,j210 P,tz,nf0,j213 P,j214 P,j215 P,tz,nf0,j218 P,j219 P,j220 P,tz,nf0,j223 P,tz,j225 P,j226 P,j227 P,tz,nf0,j230 P,j231 P,j232 P,tz,nf0,j235 P,j236 P,j237 P,tz,nf0,j240 P,tz,j242 P,j243 P,j244 P,tz,nf0,j247 P,tz,j249 P,j250 P,j251 P]
def T7 (P:Pz):BT:=iF (iL (T6 P) [(3,j3_8 P),(12,W1z P)]) 193 (x7 P)
theorem g6 (p:U8)(b:W8)(w:W1)(os:OsState):segRunT treeTable p w 11 (some (.ref 6)) 1 393 (SharedT.mk (T6 w.params) 193 life (Array.mk []) (Drawn.mk 0 0 0 0) 423 os) (piecesOf l6 en (Code.body b en) (Pos.mk 76 0 76 8) BB)=some (Flow.next,(SharedT.mk (T7 w.params) 252 life (Array.mk []) (Drawn.mk 0 0 0 0) 514 os),Code.body b en,(Pos.mk 130 0 133 15)) :=
 (byRow2 "special-get-raises" (P:=λw=>(λw:World=>segRunT treeTable p w 11 (some (.ref 6)) 1 393 (SharedT.mk (T6 w.params) 193 life (Array.mk []) (Drawn.mk 0 0 0 0) 423 os) (piecesOf l6 en (Code.body b en) (Pos.mk 76 0 76 8) BB)=some (Flow.next,(SharedT.mk (T7 w.params) 252 life (Array.mk []) (Drawn.mk 0 0 0 0) 514 os),Code.body b en,(Pos.mk 130 0 133 15))) w) (λw=>by show (λw:World=>segRunT treeTable p w 11 (some (.ref 6)) 1 393 (SharedT.mk (T6 w.params) 193 life (Array.mk []) (Drawn.mk 0 0 0 0) 423 os) (piecesOf l6 en (Code.body b en) (Pos.mk 76 0 76 8) BB)=some (Flow.next,(SharedT.mk (T7 w.params) 252 life (Array.mk []) (Drawn.mk 0 0 0 0) 514 os),Code.body b en,(Pos.mk 130 0 133 15))) (World.withFollow w "special-get-raises" false);rw[PySem.W.Fast.te10110043849684766642,PySem.W.Fast.te14364793385576792824];kernel_rfl) (λw=>by show (λw:World=>segRunT treeTable p w 11 (some (.ref 6)) 1 393 (SharedT.mk (T6 w.params) 193 life (Array.mk []) (Drawn.mk 0 0 0 0) 423 os) (piecesOf l6 en (Code.body b en) (Pos.mk 76 0 76 8) BB)=some (Flow.next,(SharedT.mk (T7 w.params) 252 life (Array.mk []) (Drawn.mk 0 0 0 0) 514 os),Code.body b en,(Pos.mk 130 0 133 15))) (World.withFollow w "special-get-raises" true);rw[PySem.W.Fast.te10110043849684766642,PySem.W.Fast.te14364793385576792824];kernel_rfl)) w
def y3_9(P:Pz):List DictEntry:=y3_8 P++[(dn P "least_cell" 522 (.ref 258)),(dn P "borne" 533 (.ref 265)),(dn P "is_borne" 540 (.ref 272)),(dn P "is_odd_turn" 547 (.ref 279)),(dn P "moved_rows" 553 (.ref 284)),(dn P "check_borne" 561 (.ref 291)),(dn P "moved_through" 571 (.ref 298)),(dn P "moved_by" 581 (.ref 305)),(dn P "moved_by_mix" 592 (.ref 312)),(dn P "moved_by_turn" 602 (.ref 319)),(dn P "moved_by_if" 613 (.ref 326)),(dn P "moved_by_pair" 624 (.ref 333))]
def j3_9(P:Pz):=ob3 ((dn P "__name__" 165 (.str "spinboard.images" 625))::y3_9 P) 54
def X7c(P:Pz):List Value:=X7d P++[(.int 135 0),(.int 0 0),(.ref 257),(.int 138 0),(.int 0 0),(.ref 264),(.int 143 0),(.int 0 0),(.ref 271),(.int 145 0),(.int 0 0),(.ref 278),(.int 147 0),(.int 0 0),(.ref 283),(.int 150 0),(.int 0 0),(.ref 290),(.int 154 0),(.int 0 0),(.ref 297),(.int 159 0),(.int 0 0),(.ref 304),(.int 173 0),(.int 0 0),(.ref 311),(.int 178 0),(.int 0 0),(.ref 318),(.int 183 0),(.int 0 0),(.ref 325),(.int 187 0),(.int 0 0),(.ref 332)]
def W1y(P:Pz):=ob12 (X7c P)
def j254(P:Pz):=tq #[(.str "word" 519)]
def j256(P:Pz):=(fo1 "least_cell" "least_cell" (top 40) 0 0)
def j257(P:Pz):=(cob "least_cell" 516 "least_cell" 517 518 135 1 0 0 3 252 true 181 253 (.ref 254) (.ref 255) (.ref 256) 520 135 521)
def j258(P:Pz):=(fo2 "least_cell" "least_cell" (top 40) 3 "spinboard.tables" 514 257 0)
def j261(P:Pz):=tq #[(.str "row" 528),(.str "place" 529),(.str "move" 530)]
def j263(P:Pz):=(fo1 "borne" "borne" (top 42) 0 0)
def j264(P:Pz):=(cob "borne" 525 "borne" 526 527 138 1 0 0 3 259 true 181 260 (.ref 261) (.ref 262) (.ref 263) 531 138 532)
def j265(P:Pz):=(fo2 "borne" "borne" (top 42) 3 "spinboard.tableturns" 523 264 0)
def j268(P:Pz):=tq #[(.str "move" 537)]
def j270(P:Pz):=(fo1 "is_borne" "is_borne" (top 43) 0 0)
def j271(P:Pz):=(cob "is_borne" 534 "is_borne" 535 536 143 1 0 0 3 266 true 181 267 (.ref 268) (.ref 269) (.ref 270) 538 143 539)
def j272(P:Pz):=(fo2 "is_borne" "is_borne" (top 43) 3 "spinboard.tableturns" 523 271 0)
def j275(P:Pz):=tq #[(.str "move" 544)]
def j277(P:Pz):=(fo1 "is_odd_turn" "is_odd_turn" (top 44) 0 0)
def j278(P:Pz):=(cob "is_odd_turn" 541 "is_odd_turn" 542 543 145 1 0 0 3 273 true 181 274 (.ref 275) (.ref 276) (.ref 277) 545 145 546)
def j279(P:Pz):=(fo2 "is_odd_turn" "is_odd_turn" (top 44) 3 "spinboard.tableturns" 523 278 0)
def j282(P:Pz):=(fo1 "moved_rows" "moved_rows" (top 45) 0 0)
def j283(P:Pz):=(cob "moved_rows" 548 "moved_rows" 549 550 147 2 0 0 3 280 true 181 281 .none .none (.ref 282) 551 147 552)
def j284(P:Pz):=(fo2 "moved_rows" "moved_rows" (top 45) 3 "spinboard.tableturns" 523 283 0)
def j287(P:Pz):=tq #[(.str "row" 557),(.str "place" 558)]
def j289(P:Pz):=(fo1 "check_borne" "check_borne" (top 46) 0 0)
def j290(P:Pz):=(cob "check_borne" 554 "check_borne" 555 556 150 1 0 0 3 285 true 181 286 (.ref 287) (.ref 288) (.ref 289) 559 150 560)
def j291(P:Pz):=(fo2 "check_borne" "check_borne" (top 46) 3 "spinboard.tableturns" 523 290 0)
def j294(P:Pz):=tq #[(.str "mark" 565),(.str "row" 566),(.str "behind" 567),(.str "move" 568)]
def j296(P:Pz):=(fo1 "moved_through" "moved_through" (top 47) 0 0)
def j297(P:Pz):=(cob "moved_through" 562 "moved_through" 563 564 154 2 0 0 3 292 true 181 293 (.ref 294) (.ref 295) (.ref 296) 569 154 570)
def j298(P:Pz):=(fo2 "moved_through" "moved_through" (top 47) 3 "spinboard.tableturns" 523 297 0)
def j301(P:Pz):=tq #[(.str "mark" 575),(.str "move" 576),(.str "bit" 577),(.str "other" 578)]
def j303(P:Pz):=(fo1 "moved_by" "moved_by" (top 48) 0 0)
def j304(P:Pz):=(cob "moved_by" 572 "moved_by" 573 574 159 2 0 0 3 299 true 181 300 (.ref 301) (.ref 302) (.ref 303) 579 159 580)
def j305(P:Pz):=(fo2 "moved_by" "moved_by" (top 48) 3 "spinboard.tableturns" 523 304 0)
def j308(P:Pz):=tq #[(.str "mark" 585),(.str "bit" 586),(.str "flips" 587),(.str "signs" 588),(.str "moved" 589)]
def j310(P:Pz):=(fo1 "moved_by_mix" "moved_by_mix" (top 49) 0 0)
def j311(P:Pz):=(cob "moved_by_mix" 582 "moved_by_mix" 583 584 173 2 0 0 3 306 true 181 307 (.ref 308) (.ref 309) (.ref 310) 590 173 591)
def j312(P:Pz):=(fo2 "moved_by_mix" "moved_by_mix" (top 49) 3 "spinboard.tableturns" 523 311 0)
def j315(P:Pz):=tq #[(.str "mark" 596),(.str "bit" 597),(.str "k" 598),(.str "signs" 599)]
def j317(P:Pz):=(fo1 "moved_by_turn" "moved_by_turn" (top 50) 0 0)
def j318(P:Pz):=(cob "moved_by_turn" 593 "moved_by_turn" 594 595 178 3 0 0 3 313 true 181 314 (.ref 315) (.ref 316) (.ref 317) 600 178 601)
def j319(P:Pz):=(fo2 "moved_by_turn" "moved_by_turn" (top 50) 3 "spinboard.tableturns" 523 318 0)
def j322(P:Pz):=tq #[(.str "mark" 606),(.str "bit" 607),(.str "other" 608),(.str "flips" 609),(.str "signs" 610)]
def j324(P:Pz):=(fo1 "moved_by_if" "moved_by_if" (top 51) 0 0)
def j325(P:Pz):=(cob "moved_by_if" 603 "moved_by_if" 604 605 183 3 0 0 3 320 true 181 321 (.ref 322) (.ref 323) (.ref 324) 611 183 612)
def j326(P:Pz):=(fo2 "moved_by_if" "moved_by_if" (top 51) 3 "spinboard.tableturns" 523 325 0)
def j329(P:Pz):=tq #[(.str "mark" 617),(.str "bit" 618),(.str "other" 619),(.str "signs" 620),(.str "moved" 621)]
def j331(P:Pz):=(fo1 "moved_by_pair" "moved_by_pair" (top 52) 0 0)
def j332(P:Pz):=(cob "moved_by_pair" 614 "moved_by_pair" 615 616 187 3 0 0 3 327 true 181 328 (.ref 329) (.ref 330) (.ref 331) 622 187 623)
def j333(P:Pz):=(fo2 "moved_by_pair" "moved_by_pair" (top 52) 3 "spinboard.tableturns" 523 332 0)
def x8(P:Pz):List Obj:=[tz,nf0,j254 P,tz,j256 P,j257 P,j258 P,tz,nf0,j261 P,tz,j263 P,j264 P,j265 P,tz,nf0,j268 P,tz,j270 P,j271 P,j272 P,tz,nf0,j275 P,tz,j277 P,j278 P,j279 P,tz,nf0,j282 P,j283 P,j284 P,tz,nf0,j287 P,tz,j289 P,j290 P,j291 P,tz,nf0,j294 P,tz,j296 P,j297 P,j298 P,tz,nf0,j301 P,tz,j303 P,j304 P,j305 P,tz,nf0,j308 P,tz,j310 P,j311 P,j312 P,tz,nf0,j315 P,tz,j317 P,j318 P,j319 P,tz,nf0,j322 P,tz,j324 P,j325 P,j326 P,tz,nf0,j329 P,tz,j331 P,j332 P,j333 P]
def T8 (P:Pz):BT:=iF (iL (T7 P) [(3,j3_9 P),(12,W1y P)]) 252 (x8 P)
theorem g7 (p:U8)(b:W8)(w:W1)(os:OsState):segRunT treeTable p w 11 (some (.ref 6)) 1 397 (SharedT.mk (T7 w.params) 252 life (Array.mk []) (Drawn.mk 0 0 0 0) 514 os) (piecesOf l7 en (Code.body b en) (Pos.mk 130 0 133 15) BB)=some (Flow.next,(SharedT.mk (T8 w.params) 334 life (Array.mk []) (Drawn.mk 0 0 0 0) 627 os),Code.body b en,(Pos.mk 195 0 195 8)):=by rw[PySem.W.Fast.te10110043849684766642,PySem.W.Fast.te14364793385576792824];kernel_rfl
def X7b(P:Pz):List DictEntry:=y3_9 P++[(dn P "images" 634 (.ref 340)),(dn P "plain_marks" 643 (.ref 347)),(dn P "unlike" 656 (.ref 354)),(dn P "run" 668 (.ref 361)),(dn P "backward" 674 (.ref 366)),(dn P "rebuilt" 686 (.ref 373)),(dn P "are_images" 692 (.ref 378)),(dn P "commute_alike" 698 (.ref 383)),(dn P "layer_to_sign" 704 (.ref 388)),(dn P "moves_to_sign" 712 (.ref 395)),(dn P "layer_to_flip" 718 (.ref 400)),(dn P "moves_to_flip" 726 (.ref 407))]
def W1t(P:Pz):=ob3 ((dn P "__name__" 165 (.str "spinboard.shorts" 727))::X7b P) 66
def X2h(P:Pz):List Value:=X7c P++[(.int 196 0),(.int 0 0),(.ref 339),(.int 198 0),(.int 0 0),(.ref 346),(.int 203 0),(.int 0 0),(.ref 353),(.int 211 0),(.int 0 0),(.ref 360),(.int 216 0),(.int 0 0),(.ref 365),(.int 219 0),(.int 0 0),(.ref 372),(.int 227 0),(.int 0 0),(.ref 377),(.int 234 0),(.int 0 0),(.ref 382),(.int 236 0),(.int 0 0),(.ref 387),(.int 248 0),(.int 0 0),(.ref 394),(.int 252 0),(.int 0 0),(.ref 399),(.int 261 0),(.int 0 0),(.ref 406)]
def X9u(P:Pz):=ob12 (X2h P)
def j336(P:Pz):=tq #[(.str "row" 630),(.str "cells" 631)]
def j338(P:Pz):=(fo1 "images" "images" (top 54) 0 0)
def j339(P:Pz):=(cob "images" 627 "images" 628 629 196 2 0 0 3 334 true 181 335 (.ref 336) (.ref 337) (.ref 338) 632 196 633)
def j340(P:Pz):=(fo2 "images" "images" (top 54) 3 "spinboard.images" 625 339 0)
def j343(P:Pz):=tq #[(.str "cells" 638),(.str "marks" 639),(.str "cell" 640)]
def j345(P:Pz):=(fo1 "plain_marks" "plain_marks" (top 55) 0 0)
def j346(P:Pz):=(cob "plain_marks" 635 "plain_marks" 636 637 198 1 0 0 3 341 true 181 342 (.ref 343) (.ref 344) (.ref 345) 641 198 642)
def j347(P:Pz):=(fo2 "plain_marks" "plain_marks" (top 55) 3 "spinboard.images" 625 346 0)
def j350(P:Pz):=tq #[(.str "row" 647),(.str "other" 648),(.str "cells" 649),(.str "by_row" 650),(.str "by_other" 651),(.str "place" 652),(.str "mark" 653)]
def j352(P:Pz):=(fo1 "unlike" "unlike" (top 56) 0 0)
def j353(P:Pz):=(cob "unlike" 644 "unlike" 645 646 203 3 0 0 3 348 true 181 349 (.ref 350) (.ref 351) (.ref 352) 654 203 655)
def j354(P:Pz):=(fo2 "unlike" "unlike" (top 56) 3 "spinboard.images" 625 353 0)
def j357(P:Pz):=tq #[(.str "board" 662),(.str "row" 663),(.str "behind" 664),(.str "move" 665)]
def j359(P:Pz):=(fo1 "run" "run" (top 58) 0 0)
def j360(P:Pz):=(cob "run" 659 "run" 660 661 211 2 0 0 3 355 true 181 356 (.ref 357) (.ref 358) (.ref 359) 666 211 667)
def j361(P:Pz):=(fo2 "run" "run" (top 58) 3 "spinboard.rows" 657 360 0)
def j364(P:Pz):=(fo1 "backward" "backward" (top 59) 0 0)
def j365(P:Pz):=(cob "backward" 669 "backward" 670 671 216 1 0 0 3 362 true 181 363 .none .none (.ref 364) 672 216 673)
def j366(P:Pz):=(fo2 "backward" "backward" (top 59) 3 "spinboard.rows" 657 365 0)
def j369(P:Pz):=tq #[(.str "marks" 680),(.str "cells" 681),(.str "row" 682),(.str "cell" 683)]
def j371(P:Pz):=(fo1 "rebuilt" "rebuilt" (top 61) 0 0)
def j372(P:Pz):=(cob "rebuilt" 677 "rebuilt" 678 679 219 2 0 0 3 367 true 181 368 (.ref 369) (.ref 370) (.ref 371) 684 219 685)
def j373(P:Pz):=(fo2 "rebuilt" "rebuilt" (top 61) 3 "spinboard.layers" 675 372 0)
def j376(P:Pz):=(fo1 "are_images" "are_images" (top 62) 0 0)
def j377(P:Pz):=(cob "are_images" 687 "are_images" 688 689 227 2 0 0 3 374 true 181 375 .none .none (.ref 376) 690 227 691)
def j378(P:Pz):=(fo2 "are_images" "are_images" (top 62) 3 "spinboard.layers" 675 377 0)
def j381(P:Pz):=(fo1 "commute_alike" "commute_alike" (top 63) 0 0)
def j382(P:Pz):=(cob "commute_alike" 693 "commute_alike" 694 695 234 3 0 0 3 379 true 181 380 .none .none (.ref 381) 696 234 697)
def j383(P:Pz):=(fo2 "commute_alike" "commute_alike" (top 63) 3 "spinboard.layers" 675 382 0)
def j386(P:Pz):=(fo1 "layer_to_sign" "layer_to_sign" (top 64) 0 0)
def j387(P:Pz):=(cob "layer_to_sign" 699 "layer_to_sign" 700 701 236 3 0 0 3 384 true 181 385 .none .none (.ref 386) 702 236 703)
def j388(P:Pz):=(fo2 "layer_to_sign" "layer_to_sign" (top 64) 3 "spinboard.layers" 675 387 0)
def j391(P:Pz):=tq #[(.str "letter" 708),(.str "cell" 709)]
noncomputable def j393(P:Pz):=Obj.mk .none none (Data.func (FuncData.mk "moves_to_sign" "moves_to_sign" (Z1n (top 65)) (FuncBody.stmts (Z1j (top 65))) (Z0h (top 67)) 0 [] .none .none .none .none none .none .none 0)) #[]
def j394(P:Pz):=(cob "moves_to_sign" 705 "moves_to_sign" 706 707 248 2 0 0 3 389 true 181 390 (.ref 391) (.ref 392) (.ref 393) 710 248 711)
noncomputable def j395(P:Pz):=Obj.mk (.type "function") none (Data.func (FuncData.mk "moves_to_sign" "moves_to_sign" (Z1n (top 65)) (FuncBody.stmts (Z1j (top 65))) (Z0h (top 67)) 3 [] .none .none .none (.str "spinboard.layers" 675) none (.ref 394) .none 0)) #[]
def j398(P:Pz):=(fo1 "layer_to_flip" "layer_to_flip" (top 66) 0 0)
def j399(P:Pz):=(cob "layer_to_flip" 713 "layer_to_flip" 714 715 252 3 0 0 3 396 true 181 397 .none .none (.ref 398) 716 252 717)
def j400(P:Pz):=(fo2 "layer_to_flip" "layer_to_flip" (top 66) 3 "spinboard.layers" 675 399 0)
def j403(P:Pz):=tq #[(.str "letter" 722),(.str "cell" 723)]
def j405(P:Pz):=(fo1 "moves_to_flip" "moves_to_flip" (top 67) 0 0)
def j406(P:Pz):=(cob "moves_to_flip" 719 "moves_to_flip" 720 721 261 2 0 0 3 401 true 181 402 (.ref 403) (.ref 404) (.ref 405) 724 261 725)
def j407(P:Pz):=(fo2 "moves_to_flip" "moves_to_flip" (top 67) 3 "spinboard.layers" 675 406 0)
def x9(P:Pz):List Obj:=[tz,nf0,j336 P,tz,j338 P,j339 P,j340 P,tz,nf0,j343 P,tz,j345 P,j346 P,j347 P,tz,nf0,j350 P,tz,j352 P,j353 P,j354 P,tz,nf0,j357 P,tz,j359 P,j360 P,j361 P,tz,nf0,j364 P,j365 P,j366 P,tz,nf0,j369 P,tz,j371 P,j372 P,j373 P,tz,nf0,j376 P,j377 P,j378 P,tz,nf0,j381 P,j382 P,j383 P,tz,nf0,j386 P,j387 P,j388 P,tz,nf0,j391 P,tz,j393 P,j394 P,j395 P,tz,nf0,j398 P,j399 P,j400 P,tz,nf0,j403 P,tz,j405 P,j406 P,j407 P]
def T9 (P:Pz):BT:=iF (iL (T8 P) [(3,W1t P),(12,X9u P)]) 334 (x9 P)
theorem g8 (p:U8)(b:W8)(w:W1)(os:OsState):segRunT treeTable p w 11 (some (.ref 6)) 1 378 (SharedT.mk (T8 w.params) 334 life (Array.mk []) (Drawn.mk 0 0 0 0) 627 os) (piecesOf l8 en (Code.body b en) (Pos.mk 195 0 195 8) BB)=some (Flow.next,(SharedT.mk (T9 w.params) 408 life (Array.mk []) (Drawn.mk 0 0 0 0) 729 os),Code.body b en,(Pos.mk 265 0 265 8)):=by rw[PySem.W.Fast.te10110043849684766642,PySem.W.Fast.te14364793385576792824];kernel_rfl
def X7a(P:Pz):List DictEntry:=X7b P++[(dn P "shortened" 739 (.ref 414)),(dn P "step_at" 750 (.ref 421)),(dn P "put_for_two" 758 (.ref 428)),(dn P "is_turn_of" 766 (.ref 435)),(dn P "turns_joined" 774 (.ref 442)),(dn P "in_one_order" 781 (.ref 449)),(dn P "goes_ahead" 787 (.ref 454)),(dn P "put_for_three" 797 (.ref 461)),(dn P "_law_cell_at" 807 (.ref 468)),(dn P "_law_whole" 814 (.ref 475)),(dn P "_law_number" 824 (.ref 482)),(dn P "_law_lowest" 830 (.ref 487)),(dn P "_law_board" 836 (.ref 492))]
def W1s(P:Pz):=ob3 ((dn P "__name__" 165 (.str "law_spinboard_k75_whole_unlike" 798))::X7a P) 79
def X2g(P:Pz):List Value:=X2h P++[(.int 266 0),(.int 0 0),(.ref 413),(.int 279 0),(.int 0 0),(.ref 420),(.int 289 0),(.int 0 0),(.ref 427),(.int 297 0),(.int 0 0),(.ref 434),(.int 299 0),(.int 0 0),(.ref 441),(.int 301 0),(.int 0 0),(.ref 448),(.int 307 0),(.int 0 0),(.ref 453),(.int 314 0),(.int 0 0),(.ref 460),(.int 324 0),(.int 0 0),(.ref 467),(.int 328 0),(.int 0 0),(.ref 474),(.int 330 0),(.int 0 0),(.ref 481),(.int 337 0),(.int 0 0),(.ref 486),(.int 342 0),(.int 0 0),(.ref 491)]
def X9t(P:Pz):=ob12 (X2g P)
def j410(P:Pz):=tq #[(.str "row" 732),(.str "short" 733),(.str "steps" 734),(.str "place" 735),(.str "step" 736)]
def j412(P:Pz):=(fo1 "shortened" "shortened" (top 69) 0 0)
def j413(P:Pz):=(cob "shortened" 729 "shortened" 730 731 266 1 0 0 3 408 true 181 409 (.ref 410) (.ref 411) (.ref 412) 737 266 738)
def j414(P:Pz):=(fo2 "shortened" "shortened" (top 69) 3 "spinboard.shorts" 727 413 0)
def j417(P:Pz):=tq #[(.str "row" 743),(.str "place" 744),(.str "two" 745),(.str "put" 746),(.str "three" 747)]
def j419(P:Pz):=(fo1 "step_at" "step_at" (top 70) 0 0)
def j420(P:Pz):=(cob "step_at" 740 "step_at" 741 742 279 2 0 0 3 415 true 181 416 (.ref 417) (.ref 418) (.ref 419) 748 279 749)
def j421(P:Pz):=(fo2 "step_at" "step_at" (top 70) 3 "spinboard.shorts" 727 420 0)
def j424(P:Pz):=tq #[(.str "earlier" 754),(.str "later" 755)]
def j426(P:Pz):=(fo1 "put_for_two" "put_for_two" (top 71) 0 0)
def j427(P:Pz):=(cob "put_for_two" 751 "put_for_two" 752 753 289 2 0 0 3 422 true 181 423 (.ref 424) (.ref 425) (.ref 426) 756 289 757)
def j428(P:Pz):=(fo2 "put_for_two" "put_for_two" (top 71) 3 "spinboard.shorts" 727 427 0)
def j431(P:Pz):=tq #[(.str "move" 762),(.str "cell" 763)]
def j433(P:Pz):=(fo1 "is_turn_of" "is_turn_of" (top 72) 0 0)
def j434(P:Pz):=(cob "is_turn_of" 759 "is_turn_of" 760 761 297 2 0 0 3 429 true 181 430 (.ref 431) (.ref 432) (.ref 433) 764 297 765)
def j435(P:Pz):=(fo2 "is_turn_of" "is_turn_of" (top 72) 3 "spinboard.shorts" 727 434 0)
def j438(P:Pz):=tq #[(.str "cell" 770),(.str "k" 771)]
def j440(P:Pz):=(fo1 "turns_joined" "turns_joined" (top 73) 0 0)
def j441(P:Pz):=(cob "turns_joined" 767 "turns_joined" 768 769 299 2 0 0 3 436 true 181 437 (.ref 438) (.ref 439) (.ref 440) 772 299 773)
def j442(P:Pz):=(fo2 "turns_joined" "turns_joined" (top 73) 3 "spinboard.shorts" 727 441 0)
def j445(P:Pz):=tq #[(.str "move" 778)]
def j447(P:Pz):=(fo1 "in_one_order" "in_one_order" (top 74) 0 0)
def j448(P:Pz):=(cob "in_one_order" 775 "in_one_order" 776 777 301 1 0 0 3 443 true 181 444 (.ref 445) (.ref 446) (.ref 447) 779 301 780)
def j449(P:Pz):=(fo2 "in_one_order" "in_one_order" (top 74) 3 "spinboard.shorts" 727 448 0)
def j452(P:Pz):=(fo1 "goes_ahead" "goes_ahead" (top 75) 0 0)
def j453(P:Pz):=(cob "goes_ahead" 782 "goes_ahead" 783 784 307 2 0 0 3 450 true 181 451 .none .none (.ref 452) 785 307 786)
def j454(P:Pz):=(fo2 "goes_ahead" "goes_ahead" (top 75) 3 "spinboard.shorts" 727 453 0)
def j457(P:Pz):=tq #[(.str "first" 791),(.str "middle" 792),(.str "last" 793),(.str "cell" 794)]
def j459(P:Pz):=(fo1 "put_for_three" "put_for_three" (top 76) 0 0)
def j460(P:Pz):=(cob "put_for_three" 788 "put_for_three" 789 790 314 3 0 0 3 455 true 181 456 (.ref 457) (.ref 458) (.ref 459) 795 314 796)
def j461(P:Pz):=(fo2 "put_for_three" "put_for_three" (top 76) 3 "spinboard.shorts" 727 460 0)
def j464(P:Pz):=tq #[(.str "_law_script" 803),(.str "_law_k" 804)]
def j466(P:Pz):=(fo1 "_law_cell_at" "_law_cell_at" (top 78) 0 0)
def j467(P:Pz):=(cob "_law_cell_at" 800 "_law_cell_at" 801 802 324 2 0 0 3 462 true 181 463 (.ref 464) (.ref 465) (.ref 466) 805 324 806)
def j468(P:Pz):=(fo2 "_law_cell_at" "_law_cell_at" (top 78) 3 "law_spinboard_k75_whole_unlike" 798 467 0)
def j471(P:Pz):=tq #[(.str "_law_found" 811)]
def j473(P:Pz):=(fo1 "_law_whole" "_law_whole" (top 79) 0 0)
def j474(P:Pz):=(cob "_law_whole" 808 "_law_whole" 809 810 328 1 0 0 3 469 true 181 470 (.ref 471) (.ref 472) (.ref 473) 812 328 813)
def j475(P:Pz):=(fo2 "_law_whole" "_law_whole" (top 79) 3 "law_spinboard_k75_whole_unlike" 798 474 0)
def j478(P:Pz):=tq #[(.str "_law_script" 818),(.str "_law_k" 819),(.str "_law_cell" 820),(.str "_law_number_here" 821)]
def j480(P:Pz):=(fo1 "_law_number" "_law_number" (top 80) 0 0)
def j481(P:Pz):=(cob "_law_number" 815 "_law_number" 816 817 330 2 0 0 3 476 true 181 477 (.ref 478) (.ref 479) (.ref 480) 822 330 823)
def j482(P:Pz):=(fo2 "_law_number" "_law_number" (top 80) 3 "law_spinboard_k75_whole_unlike" 798 481 0)
def j485(P:Pz):=(fo1 "_law_lowest" "_law_lowest" (top 81) 0 0)
def j486(P:Pz):=(cob "_law_lowest" 825 "_law_lowest" 826 827 337 2 0 0 3 483 true 181 484 .none .none (.ref 485) 828 337 829)
def j487(P:Pz):=(fo2 "_law_lowest" "_law_lowest" (top 81) 3 "law_spinboard_k75_whole_unlike" 798 486 0)
def j490(P:Pz):=(fo1 "_law_board" "_law_board" (top 82) 0 0)
def j491(P:Pz):=(cob "_law_board" 831 "_law_board" 832 833 342 3 0 0 3 488 true 181 489 .none .none (.ref 490) 834 342 835)
def j492(P:Pz):=(fo2 "_law_board" "_law_board" (top 82) 3 "law_spinboard_k75_whole_unlike" 798 491 0)
def x10(P:Pz):List Obj:=[tz,nf0,j410 P,tz,j412 P,j413 P,j414 P,tz,nf0,j417 P,tz,j419 P,j420 P,j421 P,tz,nf0,j424 P,tz,j426 P,j427 P,j428 P,tz,nf0,j431 P,tz,j433 P,j434 P,j435 P,tz,nf0,j438 P,tz,j440 P,j441 P,j442 P,tz,nf0,j445 P,tz,j447 P,j448 P,j449 P,tz,nf0,j452 P,j453 P,j454 P,tz,nf0,j457 P,tz,j459 P,j460 P,j461 P,tz,nf0,j464 P,tz,j466 P,j467 P,j468 P,tz,nf0,j471 P,tz,j473 P,j474 P,j475 P,tz,nf0,j478 P,tz,j480 P,j481 P,j482 P,tz,nf0,j485 P,j486 P,j487 P,tz,nf0,j490 P,j491 P,j492 P]
def T10 (P:Pz):BT:=iF (iL (T9 P) [(3,W1s P),(12,X9t P)]) 408 (x10 P)
theorem g9 (p:U8)(b:W8)(w:W1)(os:OsState):segRunT treeTable p w 11 (some (.ref 6)) 1 396 (SharedT.mk (T9 w.params) 408 life (Array.mk []) (Drawn.mk 0 0 0 0) 729 os) (piecesOf l9 en (Code.body b en) (Pos.mk 265 0 265 8) BB)=some (Flow.next,(SharedT.mk (T10 w.params) 493 life (Array.mk []) (Drawn.mk 0 0 0 0) 837 os),Code.body b en,(Pos.mk 342 0 354 26)):=by rw[PySem.W.Fast.te10110043849684766642,PySem.W.Fast.te14364793385576792824];kernel_rfl
def W1c(P:Pz):List DictEntry:=X7a P++[(dn P "_law_board_by" 842 (.ref 497)),(dn P "_law_move_of" 852 (.ref 504)),(dn P "_law_move" 860 (.ref 511)),(dn P "_law_row_by" 875 (.ref 518)),(dn P "_law_other" 881 (.ref 523)),(dn P "_law_spun" 887 (.ref 528)),(dn P "_law_one_k" 896 (.ref 535)),(dn P "_law_basic" 903 (.ref 542)),(dn P "_law_first" 915 (.ref 549)),(dn P "law" 921 (.ref 554))]
def X9r(P:Pz):=ob3 ((dn P "__name__" 165 (.str "law_spinboard_k75_whole_unlike" 798))::W1c P) 89
def X7k(P:Pz):List Value:=X2g P++[(.int 355 0),(.int 0 0),(.ref 496),(.int 372 0),(.int 0 0),(.ref 503),(.int 380 0),(.int 0 0),(.ref 510),(.int 382 0),(.int 0 0),(.ref 517),(.int 394 0),(.int 0 0),(.ref 522),(.int 407 0),(.int 0 0),(.ref 527),(.int 411 0),(.int 0 0),(.ref 534),(.int 416 0),(.int 0 0),(.ref 541),(.int 420 0),(.int 0 0),(.ref 548),(.int 427 0),(.int 0 0),(.ref 553)]
def X3f(P:Pz):=ob12 (X7k P)
def j495(P:Pz):=(fo1 "_law_board_by" "_law_board_by" (top 83) 0 0)
def j496(P:Pz):=(cob "_law_board_by" 837 "_law_board_by" 838 839 355 3 0 0 3 493 true 181 494 .none .none (.ref 495) 840 355 841)
def j497(P:Pz):=(fo2 "_law_board_by" "_law_board_by" (top 83) 3 "law_spinboard_k75_whole_unlike" 798 496 0)
def j500(P:Pz):=tq #[(.str "_law_number_here" 846),(.str "_law_cells" 847),(.str "_law_one" 848),(.str "_law_other_here" 849)]
def j502(P:Pz):=(fo1 "_law_move_of" "_law_move_of" (top 84) 0 0)
def j503(P:Pz):=(cob "_law_move_of" 843 "_law_move_of" 844 845 372 2 0 0 3 498 true 181 499 (.ref 500) (.ref 501) (.ref 502) 850 372 851)
def j504(P:Pz):=(fo2 "_law_move_of" "_law_move_of" (top 84) 3 "law_spinboard_k75_whole_unlike" 798 503 0)
def j507(P:Pz):=tq #[(.str "_law_cell" 856),(.str "_law_cells" 857)]
def j509(P:Pz):=(fo1 "_law_move" "_law_move" (top 85) 0 0)
def j510(P:Pz):=(cob "_law_move" 853 "_law_move" 854 855 380 2 0 0 3 505 true 181 506 (.ref 507) (.ref 508) (.ref 509) 858 380 859)
def j511(P:Pz):=(fo2 "_law_move" "_law_move" (top 85) 3 "law_spinboard_k75_whole_unlike" 798 510 0)
def j514(P:Pz):=tq #[(.str "_law_script" 864),(.str "_law_at" 865),(.str "_law_cells" 866),(.str "_law_most" 867),(.str "_law_cell" 868),(.str "_law_row" 869),(.str "_law_many" 870),(.str "_law_k" 871),(.str "_law_digit" 872)]
def j516(P:Pz):=(fo1 "_law_row_by" "_law_row_by" (top 86) 0 0)
def j517(P:Pz):=(cob "_law_row_by" 861 "_law_row_by" 862 863 382 4 0 0 3 512 true 181 513 (.ref 514) (.ref 515) (.ref 516) 873 382 874)
def j518(P:Pz):=(fo2 "_law_row_by" "_law_row_by" (top 86) 3 "law_spinboard_k75_whole_unlike" 798 517 0)
def j521(P:Pz):=(fo1 "_law_other" "_law_other" (top 87) 0 0)
def j522(P:Pz):=(cob "_law_other" 876 "_law_other" 877 878 394 4 0 0 3 519 true 181 520 .none .none (.ref 521) 879 394 880)
def j523(P:Pz):=(fo2 "_law_other" "_law_other" (top 87) 3 "law_spinboard_k75_whole_unlike" 798 522 0)
def j526(P:Pz):=(fo1 "_law_spun" "_law_spun" (top 88) 0 0)
def j527(P:Pz):=(cob "_law_spun" 882 "_law_spun" 883 884 407 2 0 0 3 524 true 181 525 .none .none (.ref 526) 885 407 886)
def j528(P:Pz):=(fo2 "_law_spun" "_law_spun" (top 88) 3 "law_spinboard_k75_whole_unlike" 798 527 0)
def j531(P:Pz):=tq #[(.str "_law_here" 891),(.str "_law_there" 892),(.str "_law_k" 893)]
def j533(P:Pz):=(fo1 "_law_one_k" "_law_one_k" (top 89) 0 0)
def j534(P:Pz):=(cob "_law_one_k" 888 "_law_one_k" 889 890 411 2 0 0 3 529 true 181 530 (.ref 531) (.ref 532) (.ref 533) 894 411 895)
def j535(P:Pz):=(fo2 "_law_one_k" "_law_one_k" (top 89) 3 "law_spinboard_k75_whole_unlike" 798 534 0)
def j538(P:Pz):=tq #[(.str "_law_k" 900)]
def j540(P:Pz):=(fo1 "_law_basic" "_law_basic" (top 90) 0 0)
def j541(P:Pz):=(cob "_law_basic" 897 "_law_basic" 898 899 416 1 0 0 3 536 true 181 537 (.ref 538) (.ref 539) (.ref 540) 901 416 902)
def j542(P:Pz):=(fo2 "_law_basic" "_law_basic" (top 90) 3 "law_spinboard_k75_whole_unlike" 798 541 0)
def j545(P:Pz):=tq #[(.str "_law_row" 907),(.str "_law_other_here" 908),(.str "_law_cells" 909),(.str "_law_here" 910),(.str "_law_there" 911),(.str "_law_k" 912)]
def j547(P:Pz):=(fo1 "_law_first" "_law_first" (top 91) 0 0)
def j548(P:Pz):=(cob "_law_first" 904 "_law_first" 905 906 420 3 0 0 3 543 true 181 544 (.ref 545) (.ref 546) (.ref 547) 913 420 914)
def j549(P:Pz):=(fo2 "_law_first" "_law_first" (top 91) 3 "law_spinboard_k75_whole_unlike" 798 548 0)
def j552(P:Pz):=(fo1 "law" "law" (top 92) 0 0)
def j553(P:Pz):=(cob "law" 916 "law" 917 918 427 1 0 0 3 550 true 181 551 .none .none (.ref 552) 919 427 920)
def j554(P:Pz):=(fo2 "law" "law" (top 92) 3 "law_spinboard_k75_whole_unlike" 798 553 0)
def x11(P:Pz):List Obj:=[tz,nf0,j495 P,j496 P,j497 P,tz,nf0,j500 P,tz,j502 P,j503 P,j504 P,tz,nf0,j507 P,tz,j509 P,j510 P,j511 P,tz,nf0,j514 P,tz,j516 P,j517 P,j518 P,tz,nf0,j521 P,j522 P,j523 P,tz,nf0,j526 P,j527 P,j528 P,tz,nf0,j531 P,tz,j533 P,j534 P,j535 P,tz,nf0,j538 P,tz,j540 P,j541 P,j542 P,tz,nf0,j545 P,tz,j547 P,j548 P,j549 P,tz,nf0,j552 P,j553 P,j554 P]
def T11 (P:Pz):BT:=iF (iL (T10 P) [(3,X9r P),(12,X3f P)]) 493 (x11 P)
theorem g10 (p:U8)(b:W8)(w:W1)(os:OsState):segRunT treeTable p w 11 (some (.ref 6)) 1 298 (SharedT.mk (T10 w.params) 493 life (Array.mk []) (Drawn.mk 0 0 0 0) 837 os) (piecesOf l10 en (Code.body b en) (Pos.mk 342 0 354 26) BB)=some (Flow.next,(SharedT.mk (T11 w.params) 555 life (Array.mk []) (Drawn.mk 0 0 0 0) 922 os),Code.body b en,(Pos.mk 427 0 454 166)):=by rw[PySem.W.Fast.te10110043849684766642,PySem.W.Fast.te14364793385576792824];kernel_rfl
def Hl(P:Pz):List Obj:=[boot_o_0 P,boot_o_1 P,boot_o_2 P,X9r P,boot_o_4 P,boot_o_5 P,boot_o_6 P,boot_o_7 P,boot_o_8 P,boot_o_9 P,boot_o_10 P,tz,X3f P,j13 P,j14 P]++(((x1 P).set 9 (X9s P))++((x2 P)++((x3 P)++((x4 P)++((x5 P)++((x6 P)++((x7 P)++((x8 P)++((x9 P)++((x10 P)++(x11 P)))))))))))
def Hf (P:Pz):Heap:=Heap.mk (Array.mk (Hl P)) life
theorem fin_ (w:W1)(os:OsState):topRun treeTable pr w 11 (some (.ref 6)) 2 ((SharedT.mk (T11 w.params) 555 life (Array.mk []) (Drawn.mk 0 0 0 0) 922 os).abs) (Thread.mk (doneF .next) cE (Pos.mk 427 0 454 166) BB)=some (Shared.mk (Hf w.params) (Array.mk []) (Drawn.mk 0 0 0 0) 922 os):=by rw[PySem.W.Fast.te14082659384304107361,PySem.W.Fast.te14364793385576792824];kernel_rfl
noncomputable abbrev MM:Nat:=12+(1+(196+(214+(214+(214+(393+(389+(393+(397+(378+(396+(298+2))))))))))))
theorem run_ (w:W1)(os:OsState):topRun treeTable pr w 11 (some (.ref 6)) MM (Shared.mk (boot_heap w.params) (Array.mk []) boot_drawn boot_toks os) (topStub pr)=some (Shared.mk (Hf w.params) (Array.mk []) (Drawn.mk 0 0 0 0) 922 os):=go_top (pre_ w os) (piece_block (W0r w os) (q4n (q4m (g0 _ _ w os)) (q4n (q4m (g1 _ _ w os)) (q4n (q4m (g2 _ _ w os)) (q4n (q4m (g3 _ _ w os)) (q4n (q4m (g4 _ _ w os)) (q4n (q4m (g5 _ _ w os)) (q4n (q4m (g6 _ _ w os)) (q4n (q4m (g7 _ _ w os)) (q4n (q4m (g8 _ _ w os)) (q4n (q4m (g9 _ _ w os)) (q4n (q4m (g10 _ _ w os)) (piece_nil (fin_ w os))))))))))))))
noncomputable def qq:Program:={ pr with main:={ pr.main with body:=[top 1,top 2,top 3,top 4,top 5,top 7,top 9,top 10,top 11,top 12,top 13,top 14,top 15,top 16,top 17,top 19,top 20,top 21,top 22,top 23,top 24,top 26,top 28,top 29,top 30,top 31,top 32,top 33,top 34,top 35,top 36,top 37,top 38,top 40,top 42,top 43,top 44,top 45,top 46,top 47,top 48,top 49,top 50,top 51,top 52,top 54,top 55,top 56,top 58,top 59,top 61,top 62,top 63,top 64,top 65,top 66,top 67,top 69,top 70,top 71,top 72,top 73,top 74,top 75,top 76,top 78,top 79,top 80,top 81,top 82,top 83,top 84,top 85,top 86,top 87,top 88,top 89,top 90,top 91,top 92] } }
noncomputable def loose:List PySem.Str:=[Str.ofString "NUMBERS_BEHIND"]
noncomputable def lv:List (PySem.Str × WData):=[]
noncomputable abbrev NN:Nat:=7068
noncomputable def aa:List Addr:=[2,3,15,22,23,24,25,28,35,36,37,40,47,48,49,52,59,60,61,64,71,73,74,76,77,78,79,80,83,85,86,88,89,90,92,93,95,96,97,99,100,102,103,104,106,107,109,110,111,113,114,116,117,118,120,121,123,124,125,127,128,130,131,132,134,135,137,138,139,141,142,144,145,146,148,149,151,152,153,156,157,158,160,161,163,164,165,167,168,170,171,172,174,175,177,178,179,181,182,184,185,186,188,189,191,192,193,194,197,198,199,202,203,204,206,207,209,210,211,214,215,216,219,220,221,223,224,226,227,228,231,232,233,236,237,238,240,241,243,244,245,247,248,250,251,252,254,255,257,258,259,261,262,264,265,266,268,269,271,272,273,275,276,278,279,280,283,284,285,287,288,290,291,292,294,295,297,298,299,301,302,304,305,306,308,309,311,312,313,315,316,318,319,320,322,323,325,326,327,329,330,332,333,334,336,337,339,340,341,343,344,346,347,348,350,351,353,354,355,357,358,360,361,362,365,366,367,369,370,372,373,374,377,378,379,382,383,384,387,388,389,391,392,394,395,396,399,400,401,403,404,406,407,408,410,411,413,414,415,417,418,420,421,422,424,425,427,428,429,431,432,434,435,436,438,439,441,442,443,445,446,448,449,450,453,454,455,457,458,460,461,462,464,465,467,468,469,471,472,474,475,476,478,479,481,482,483,486,487,488,491,492,493,496,497,498,500,501,503,504,505,507,508,510,511,512,514,515,517,518,519,522,523,524,527,528,529,531,532,534,535,536,538,539,541,542,543,545,546,548,549,550,553,554]
def KK (P:Pz):Frag:=aa.map λa=>(a,(Hl P).getD a nf0)
theorem W1j:∀ w:World,(fencedOpening treeTable pr w NN).map (λs=>(s.heap,s.gens,s.drawn,s.toks))=some (boot_heap w.params,Array.mk [],boot_drawn,boot_toks) :=
 boot_open (p:=pr) (N:=NN) (by kernel_rfl) (by kernel_rfl) (λs=>by kernel_rfl)
theorem W1h (w:W1):((boot_heap w.params).isNs mainGlobals && (Array.mk []:Array GenState).size == 0,(boot_heap w.params).objs.size,(boot_heap w.params).nsMap mainGlobals "__annotations__")=(true,11,((some (.ref 6)):Option Value)):=by kernel_rfl
theorem le_:Nat.ble MM NN=true:=by kernel_rfl
noncomputable abbrev rr:OpenRow:=PySem.Challenge.rw_spinboard_k75_whole_unlike.row
noncomputable abbrev HH:Hook:=kHook KK aa (λ_=>by kernel_rfl)
noncomputable abbrev Xt (s:U7):Bool:=xlAt qq lv s && recOk (RowW.records rr.toRowW) s
noncomputable abbrev sf (w:W1)(os:OsState):Shared:=Shared.mk (Hf w.params) (Array.mk []) (Drawn.mk 0 0 0 0) 922 os
theorem lk1 (w:W1)(os:OsState):(staticsOk (importedModules pr.main.body) (boot_heap w.params) (Hf w.params) && namesBound pr (Hf w.params) && gensDone (sf w os) && laidKept (boot_heap w.params) (Hf w.params))=true:=by rw[PySem.W.Fast.te5923862056798008813];kernel_rfl
theorem lk2 (w:W1)(os:OsState):openSeen qq loose (importedModules pr.main.body) Xt true (sf w os)=openGood qq loose:=by rw[PySem.W.Fast.te4187177175401517315,PySem.W.Fast.te5923862056798008813];kernel_rfl
theorem lk3 (w:W1)(os:OsState):HH.obs (sf w os)=HH.val w:=by kernel_rfl
theorem left_:LeftO pr qq loose Xt HH.obs HH.val NN :=
 LeftO.of_pieces (H₀:=boot_heap) (H₁:=Hf) W1j W1h run_ le_ λw=>funext λos=>looks_pair (lk1 w os) (looks_pair (lk2 w os) (lk3 w os))
theorem said_:PySem.Challenge.rw_spinboard_k75_whole_unlike.wellSaid=true:=by rw[PySem.W.Fast.te9446332074065402090];kernel_rfl
theorem k554 (P:Pz):(KK P).lookup 554=some (j554 P):=by kernel_rfl
theorem k89 (P:Pz):(KK P).lookup 89=some (j89 P):=by kernel_rfl
theorem k96 (P:Pz):(KK P).lookup 96=some (j96 P):=by kernel_rfl
theorem k103 (P:Pz):(KK P).lookup 103=some (j103 P):=by kernel_rfl
theorem k110 (P:Pz):(KK P).lookup 110=some (j110 P):=by kernel_rfl
theorem k117 (P:Pz):(KK P).lookup 117=some (j117 P):=by kernel_rfl
theorem k124 (P:Pz):(KK P).lookup 124=some (j124 P):=by kernel_rfl
theorem k131 (P:Pz):(KK P).lookup 131=some (j131 P):=by kernel_rfl
theorem k138 (P:Pz):(KK P).lookup 138=some (j138 P):=by kernel_rfl
theorem k145 (P:Pz):(KK P).lookup 145=some (j145 P):=by kernel_rfl
theorem k152 (P:Pz):(KK P).lookup 152=some (j152 P):=by kernel_rfl
theorem k157 (P:Pz):(KK P).lookup 157=some (j157 P):=by kernel_rfl
theorem k164 (P:Pz):(KK P).lookup 164=some (j164 P):=by kernel_rfl
theorem k171 (P:Pz):(KK P).lookup 171=some (j171 P):=by kernel_rfl
theorem k178 (P:Pz):(KK P).lookup 178=some (j178 P):=by kernel_rfl
theorem k185 (P:Pz):(KK P).lookup 185=some (j185 P):=by kernel_rfl
theorem k192 (P:Pz):(KK P).lookup 192=some (j192 P):=by kernel_rfl
theorem k198 (P:Pz):(KK P).lookup 198=some (j198 P):=by kernel_rfl
theorem k203 (P:Pz):(KK P).lookup 203=some (j203 P):=by kernel_rfl
theorem k210 (P:Pz):(KK P).lookup 210=some (j210 P):=by kernel_rfl
theorem k215 (P:Pz):(KK P).lookup 215=some (j215 P):=by kernel_rfl
theorem k220 (P:Pz):(KK P).lookup 220=some (j220 P):=by kernel_rfl
theorem k227 (P:Pz):(KK P).lookup 227=some (j227 P):=by kernel_rfl
theorem k232 (P:Pz):(KK P).lookup 232=some (j232 P):=by kernel_rfl
theorem k237 (P:Pz):(KK P).lookup 237=some (j237 P):=by kernel_rfl
theorem k244 (P:Pz):(KK P).lookup 244=some (j244 P):=by kernel_rfl
theorem k251 (P:Pz):(KK P).lookup 251=some (j251 P):=by kernel_rfl
theorem k258 (P:Pz):(KK P).lookup 258=some (j258 P):=by kernel_rfl
theorem k265 (P:Pz):(KK P).lookup 265=some (j265 P):=by kernel_rfl
theorem k272 (P:Pz):(KK P).lookup 272=some (j272 P):=by kernel_rfl
theorem k279 (P:Pz):(KK P).lookup 279=some (j279 P):=by kernel_rfl
theorem k284 (P:Pz):(KK P).lookup 284=some (j284 P):=by kernel_rfl
theorem k291 (P:Pz):(KK P).lookup 291=some (j291 P):=by kernel_rfl
theorem k298 (P:Pz):(KK P).lookup 298=some (j298 P):=by kernel_rfl
theorem k305 (P:Pz):(KK P).lookup 305=some (j305 P):=by kernel_rfl
theorem k312 (P:Pz):(KK P).lookup 312=some (j312 P):=by kernel_rfl
theorem k319 (P:Pz):(KK P).lookup 319=some (j319 P):=by kernel_rfl
theorem k326 (P:Pz):(KK P).lookup 326=some (j326 P):=by kernel_rfl
theorem k333 (P:Pz):(KK P).lookup 333=some (j333 P):=by kernel_rfl
theorem k340 (P:Pz):(KK P).lookup 340=some (j340 P):=by kernel_rfl
theorem k347 (P:Pz):(KK P).lookup 347=some (j347 P):=by kernel_rfl
theorem k354 (P:Pz):(KK P).lookup 354=some (j354 P):=by kernel_rfl
theorem k361 (P:Pz):(KK P).lookup 361=some (j361 P):=by kernel_rfl
theorem k366 (P:Pz):(KK P).lookup 366=some (j366 P):=by kernel_rfl
theorem k373 (P:Pz):(KK P).lookup 373=some (j373 P):=by kernel_rfl
theorem k378 (P:Pz):(KK P).lookup 378=some (j378 P):=by kernel_rfl
theorem k383 (P:Pz):(KK P).lookup 383=some (j383 P):=by kernel_rfl
theorem k388 (P:Pz):(KK P).lookup 388=some (j388 P):=by kernel_rfl
theorem k395 (P:Pz):(KK P).lookup 395=some (j395 P):=by kernel_rfl
theorem k400 (P:Pz):(KK P).lookup 400=some (j400 P):=by kernel_rfl
theorem k407 (P:Pz):(KK P).lookup 407=some (j407 P):=by kernel_rfl
theorem k414 (P:Pz):(KK P).lookup 414=some (j414 P):=by kernel_rfl
theorem k421 (P:Pz):(KK P).lookup 421=some (j421 P):=by kernel_rfl
theorem k428 (P:Pz):(KK P).lookup 428=some (j428 P):=by kernel_rfl
theorem k435 (P:Pz):(KK P).lookup 435=some (j435 P):=by kernel_rfl
theorem k442 (P:Pz):(KK P).lookup 442=some (j442 P):=by kernel_rfl
theorem k449 (P:Pz):(KK P).lookup 449=some (j449 P):=by kernel_rfl
theorem k454 (P:Pz):(KK P).lookup 454=some (j454 P):=by kernel_rfl
theorem k461 (P:Pz):(KK P).lookup 461=some (j461 P):=by kernel_rfl
theorem k468 (P:Pz):(KK P).lookup 468=some (j468 P):=by kernel_rfl
theorem k475 (P:Pz):(KK P).lookup 475=some (j475 P):=by kernel_rfl
theorem k482 (P:Pz):(KK P).lookup 482=some (j482 P):=by kernel_rfl
theorem k487 (P:Pz):(KK P).lookup 487=some (j487 P):=by kernel_rfl
theorem k492 (P:Pz):(KK P).lookup 492=some (j492 P):=by kernel_rfl
theorem k497 (P:Pz):(KK P).lookup 497=some (j497 P):=by kernel_rfl
theorem k504 (P:Pz):(KK P).lookup 504=some (j504 P):=by kernel_rfl
theorem k511 (P:Pz):(KK P).lookup 511=some (j511 P):=by kernel_rfl
theorem k518 (P:Pz):(KK P).lookup 518=some (j518 P):=by kernel_rfl
theorem k523 (P:Pz):(KK P).lookup 523=some (j523 P):=by kernel_rfl
theorem k528 (P:Pz):(KK P).lookup 528=some (j528 P):=by kernel_rfl
theorem k535 (P:Pz):(KK P).lookup 535=some (j535 P):=by kernel_rfl
theorem k542 (P:Pz):(KK P).lookup 542=some (j542 P):=by kernel_rfl
theorem k549 (P:Pz):(KK P).lookup 549=some (j549 P):=by kernel_rfl
theorem k193 (P:Pz):(KK P).lookup 193=some (j193 P):=by kernel_rfl
theorem ft {K:U0}{x:Str}{st:Stmt}{f:W9}{oc:W2}{od an:W5}{osl:W4}{dV kV doc pm cdv ct:W2}
  (l:K.lookup f=some ⟨oc,od,.func (PySem.W.fnOf x x (Z1n st) (Z1j st) (Z0h st) dV kV doc pm an cdv ct),osl⟩) (a:PySem.W.nsIn K mainGlobals x=some (some (.ref f)):=by kernel_rfl) (c:PySem.W.codeIn K cdv x=true:=by kernel_rfl) (k:PySem.W.keepIn K (.ref f)=true:=by kernel_rfl):FunAt K x st dV:=fat a l c k
theorem f7 (P:Pz):FunAt (KK P) "is_whole" (top 7) .none:=ft (k89 P)
theorem f10 (P:Pz):FunAt (KK P) "ones" (top 10) .none:=ft (k96 P)
theorem f11 (P:Pz):FunAt (KK P) "is_word" (top 11) .none:=ft (k103 P)
theorem f12 (P:Pz):FunAt (KK P) "is_mark" (top 12) .none:=ft (k110 P)
theorem f13 (P:Pz):FunAt (KK P) "is_even" (top 13) .none:=ft (k117 P)
theorem f14 (P:Pz):FunAt (KK P) "is_even_mark" (top 14) .none:=ft (k124 P)
theorem f15 (P:Pz):FunAt (KK P) "commute" (top 15) .none:=ft (k131 P)
theorem f16 (P:Pz):FunAt (KK P) "turned_about" (top 16) .none:=ft (k138 P)
theorem f17 (P:Pz):FunAt (KK P) "cell_sign" (top 17) .none:=ft (k145 P)
theorem f19 (P:Pz):FunAt (KK P) "halved_out" (top 19) .none:=ft (k152 P)
theorem f20 (P:Pz):FunAt (KK P) "plus" (top 20) .none:=ft (k157 P)
theorem f21 (P:Pz):FunAt (KK P) "minus" (top 21) .none:=ft (k164 P)
theorem f22 (P:Pz):FunAt (KK P) "spun" (top 22) .none:=ft (k171 P)
theorem f23 (P:Pz):FunAt (KK P) "spun_once" (top 23) .none:=ft (k178 P)
theorem f24 (P:Pz):FunAt (KK P) "rooted" (top 24) .none:=ft (k185 P)
theorem f26 (P:Pz):FunAt (KK P) "cells_of" (top 26) .none:=ft (k192 P)
theorem f29 (P:Pz):FunAt (KK P) "check_move" (top 29) .none:=ft (k198 P)
theorem f30 (P:Pz):FunAt (KK P) "has_move_form" (top 30) .none:=ft (k203 P)
theorem f31 (P:Pz):FunAt (KK P) "named_cells" (top 31) .none:=ft (k210 P)
theorem f32 (P:Pz):FunAt (KK P) "turned" (top 32) .none:=ft (k215 P)
theorem f33 (P:Pz):FunAt (KK P) "mixed" (top 33) .none:=ft (k220 P)
theorem f34 (P:Pz):FunAt (KK P) "mixed_at" (top 34) .none:=ft (k227 P)
theorem f35 (P:Pz):FunAt (KK P) "spun_where" (top 35) .none:=ft (k232 P)
theorem f36 (P:Pz):FunAt (KK P) "word_behind" (top 36) .none:=ft (k237 P)
theorem f37 (P:Pz):FunAt (KK P) "exchanged" (top 37) .none:=ft (k244 P)
theorem f38 (P:Pz):FunAt (KK P) "back_move" (top 38) .none:=ft (k251 P)
theorem f40 (P:Pz):FunAt (KK P) "least_cell" (top 40) .none:=ft (k258 P)
theorem f42 (P:Pz):FunAt (KK P) "borne" (top 42) .none:=ft (k265 P)
theorem f43 (P:Pz):FunAt (KK P) "is_borne" (top 43) .none:=ft (k272 P)
theorem f44 (P:Pz):FunAt (KK P) "is_odd_turn" (top 44) .none:=ft (k279 P)
theorem f45 (P:Pz):FunAt (KK P) "moved_rows" (top 45) .none:=ft (k284 P)
theorem f46 (P:Pz):FunAt (KK P) "check_borne" (top 46) .none:=ft (k291 P)
theorem f47 (P:Pz):FunAt (KK P) "moved_through" (top 47) .none:=ft (k298 P)
theorem f48 (P:Pz):FunAt (KK P) "moved_by" (top 48) .none:=ft (k305 P)
theorem f49 (P:Pz):FunAt (KK P) "moved_by_mix" (top 49) .none:=ft (k312 P)
theorem f50 (P:Pz):FunAt (KK P) "moved_by_turn" (top 50) .none:=ft (k319 P)
theorem f51 (P:Pz):FunAt (KK P) "moved_by_if" (top 51) .none:=ft (k326 P)
theorem f52 (P:Pz):FunAt (KK P) "moved_by_pair" (top 52) .none:=ft (k333 P)
theorem f54 (P:Pz):FunAt (KK P) "images" (top 54) .none:=ft (k340 P)
theorem f55 (P:Pz):FunAt (KK P) "plain_marks" (top 55) .none:=ft (k347 P)
theorem f56 (P:Pz):FunAt (KK P) "unlike" (top 56) .none:=ft (k354 P)
theorem f58 (P:Pz):FunAt (KK P) "run" (top 58) .none:=ft (k361 P)
theorem f59 (P:Pz):FunAt (KK P) "backward" (top 59) .none:=ft (k366 P)
theorem f61 (P:Pz):FunAt (KK P) "rebuilt" (top 61) .none:=ft (k373 P)
theorem f62 (P:Pz):FunAt (KK P) "are_images" (top 62) .none:=ft (k378 P)
theorem f63 (P:Pz):FunAt (KK P) "commute_alike" (top 63) .none:=ft (k383 P)
theorem f64 (P:Pz):FunAt (KK P) "layer_to_sign" (top 64) .none:=ft (k388 P)
theorem f65 (P:Pz):FunAt (KK P) "moves_to_sign" (top 65) .none:=ft (k395 P)
theorem f66 (P:Pz):FunAt (KK P) "layer_to_flip" (top 66) .none:=ft (k400 P)
theorem f67 (P:Pz):FunAt (KK P) "moves_to_flip" (top 67) .none:=ft (k407 P)
theorem f69 (P:Pz):FunAt (KK P) "shortened" (top 69) .none:=ft (k414 P)
theorem f70 (P:Pz):FunAt (KK P) "step_at" (top 70) .none:=ft (k421 P)
theorem f71 (P:Pz):FunAt (KK P) "put_for_two" (top 71) .none:=ft (k428 P)
theorem f72 (P:Pz):FunAt (KK P) "is_turn_of" (top 72) .none:=ft (k435 P)
theorem f73 (P:Pz):FunAt (KK P) "turns_joined" (top 73) .none:=ft (k442 P)
theorem f74 (P:Pz):FunAt (KK P) "in_one_order" (top 74) .none:=ft (k449 P)
theorem f75 (P:Pz):FunAt (KK P) "goes_ahead" (top 75) .none:=ft (k454 P)
theorem f76 (P:Pz):FunAt (KK P) "put_for_three" (top 76) .none:=ft (k461 P)
theorem f78 (P:Pz):FunAt (KK P) "_law_cell_at" (top 78) .none:=ft (k468 P)
theorem f79 (P:Pz):FunAt (KK P) "_law_whole" (top 79) .none:=ft (k475 P)
theorem f80 (P:Pz):FunAt (KK P) "_law_number" (top 80) .none:=ft (k482 P)
theorem f81 (P:Pz):FunAt (KK P) "_law_lowest" (top 81) .none:=ft (k487 P)
theorem f82 (P:Pz):FunAt (KK P) "_law_board" (top 82) .none:=ft (k492 P)
theorem f83 (P:Pz):FunAt (KK P) "_law_board_by" (top 83) .none:=ft (k497 P)
theorem f84 (P:Pz):FunAt (KK P) "_law_move_of" (top 84) .none:=ft (k504 P)
theorem f85 (P:Pz):FunAt (KK P) "_law_move" (top 85) .none:=ft (k511 P)
theorem f86 (P:Pz):FunAt (KK P) "_law_row_by" (top 86) .none:=ft (k518 P)
theorem f87 (P:Pz):FunAt (KK P) "_law_other" (top 87) .none:=ft (k523 P)
theorem f88 (P:Pz):FunAt (KK P) "_law_spun" (top 88) .none:=ft (k528 P)
theorem f89 (P:Pz):FunAt (KK P) "_law_one_k" (top 89) .none:=ft (k535 P)
theorem f90 (P:Pz):FunAt (KK P) "_law_basic" (top 90) .none:=ft (k542 P)
theorem f91 (P:Pz):FunAt (KK P) "_law_first" (top 91) .none:=ft (k549 P)
end Hd
end K75
end
set_option maxHeartbeats 4000000
namespace K75
open L2 Am Pc Ba
section
variable {P:U8}{w:W1}{K:U0}{mg:U4}{base:Heap}{k:Nat}{h:Heap}
def At5 (K:U0)(H:Hp)(p:W9)(x:A5):Prop:=SqT K H p ((l5 x).map V.int)
theorem At5.of {K:U0}{H:Hp}{p:W9}{x:A5}(h:H p=some (tA x)):At5 K H p x:=SqT.of h
theorem At5.same {K:U0}{H H':Hp}{p:W9}{x:A5}(h:At5 K H p x)(s:Same H H'):At5 K H' p x:=s.tup h
theorem At5.upd {K:U0}{H:Hp}{p l:W9}{x:A5}{xs ys:List V}(h:At5 K H p x)(e:H l=some (.lst xs)):At5 K (upd H l (.lst ys)) p x:=by
 rcases h with h | h
 ·rcases h with h | ⟨o,h⟩
  ·exact .inl (.inl (by rw[Z1d (Z7b h e (by intro z;cases z))];exact h))
  ·exact .inl (.inr ⟨o,by rw[Z1d (Z7b h e (by intro z;cases z))];exact h⟩)
 ·exact .inr h
def ValsK (K:U0)(H:Hp)(ps:U3)(f:Nat->A5):Prop:=∀ i p,ps[i]?=some p->At5 K H p (f i)
theorem ValsK.same {K:U0}{H H':Hp}{ps:U3}{f:Nat->A5}(v:ValsK K H ps f)(s:Same H H'):ValsK K H' ps f:=λi p e=>(v i p e).same s
theorem Z3g {K:U0}{H H':Hp}{ps:U3}{f:Nat->A5}{p:W9}{x:A5}(v:ValsK K H ps f)(s:Same H H')(e:At5 K H' p x):ValsK K H' (ps++[p]) (λj=>if j=ps.length then x else f j):=by
 intro i q hq
 by_cases hi:i<ps.length
 ·rw[q3l hi] at hq
  show At5 K H' q (if i=ps.length then x else f i)
  rw[if_neg (by omega)]
  exact(v i q hq).same s
 ·rw[q4k (by omega)] at hq
  have hi2:i=ps.length:=by
   have:=(q0t.mp hq).1
   simp at this
   omega
  subst hi2
  simp at hq
  subst hq
  show At5 K H' _ (if ps.length=ps.length then x else f ps.length)
  rw[if_pos rfl]
  exact e
theorem Z3m {K:U0}{H:Hp}{ps:U3}{f:Nat->A5}{l:W9}{xs ys:List V}(v:ValsK K H ps f)(e:H l=some (.lst xs)):ValsK K (upd H l (.lst ys)) ps f:=λi q hq=>(v i q hq).upd e
theorem Z3c {X:Cx}:CallR X (.builtin "isinstance") (λxs H Q=>∃ a ys,xs=[.ref a,.ty "tuple"]/\SqT X.K H a ys/\Q (.bl true) H):=by
 intro pins s σ H xs us Q I r h
 obtain⟨a,ys,rfl,hx,q⟩:=h
 obtain⟨u,v,rfl,ru,rv⟩:=r.two
 cases ru
 cases rv
 obtain⟨its,_,⟨o,h1,h2,_⟩,_⟩:=I.tuple hx
 exact q1x q6q I.kIn ⟨o,h1,h2⟩ (Y7y X.K) (λz=>nomatch z) λtk=>⟨.bl true,H,I.tok tk,Z,q⟩
theorem Y1w {K:U0}{a:W9}{ns:U6}{te:TE}{fr:L2.St}{H1:Hp}{acc:W9}{Q:VK}(f:Int->V)(hl:SqT K H1 a (ns.map V.int))(hn:ns.length<=sizeLine)(hacc:H1 acc=none)(hs:∀ n H (N:V->Hp->Prop),n∈ns->Same H1 H->N (f n) H->te (some (.int n)::fr) H N)
  (hd:∀ H2,Same H1 H2->H2 acc=some (.lst (ns.map f))->Q (.ref acc) H2):LcW (Itt K a) (gName 0) te (none::fr) H1 acc Q:=by
 refine Z8v (n:=ns.length) (val:=λi=>.int (ns.getD i 0)) (λi=>f (ns.getD i 0)) hn hacc (λi H hi s=>?_) (λH s=>⟨_,s.tup hl,by simp⟩) (λi H N hi s kN=>hs _ H N (by simp[hi]) s kN) (λH2 s h=>hd H2 s (by rw[h,Z6v]))
 have e:(ns.map V.int)[i]?=some (.int (ns.getD i 0)):=by simp[hi]
 refine⟨⟨_,_,s.tup hl,e⟩,λx H' y=>⟨y.1,?_⟩⟩
 have:=y.2 _ (s.tup hl)
 rw[e] at this
 exact(Option.some.inj this).symm
theorem cut54:¬ (HT.sIx 5 0 none=0/\HT.sIx 5 5 (some 4)=5):=by decide
def spHalf:Sp:=λvs H Q _=>∃ a b c d h:Int,vs=[.int a,.int b,.int c,.int d,.int h]/\0<=h/\∀ (p:W9) (H':Hp) (x y z u g:Int),Same H H'->H' p=some (T5 x y z u g)->Red a b c d h x y z u g->Q (.ref p) H'
def Y2q:Sp:=λvs H Q _=>∃ (p:W9) (a b c d h:Int),vs=[.ref p]/\H p=some (T5 a b c d h)/\0<=h/\∀ (r:W9) (H':Hp) (x y z u g:Int),Same H H'->H' r=some (T5 x y z u g)->Red (b-d) (a+c) (b+d) (c-a) (h+1) x y z u g->Q (.ref r) H'
def Y5x (K:U0):Sp:=λvs H Q _=>∃ (p:W9) (a b c d h:Int),vs=[.ref p]/\At5 K H p ((a,b,c,d),h)/\∀ (r:W9) (H':Hp),Same H H'->H' r=some (T5 (-d) a b c h)->Q (.ref r) H'
def Z8i (K:U0):Sp:=λvs H Q _=>∃ (p:W9) (a b c d h k:Int),vs=[.ref p,.int k]/\At5 K H p ((a,b,c,d),h)/\∀ (r:W9) (H':Hp),Same H H'->At5 K H' r (rot (k%8).toNat (a,b,c,d),h)->Q (.ref r) H'
theorem sc_half:FnScope ["a","b","c","d","h","places","lowest","less"] ["a","b","c","d","h"] (Z0h (top 19)):=fS
theorem X5l (F:FunAt K "halved_out" (top 19) .none)(X:K.In h)(G:Ng h mg)(B:Bs mg):Cal P w K mg base (k+1) "halved_out" ["a","b","c","d","h"] spHalf:=by
 have nd:=sc_half.nd
 refine F.cal X G sc_half (bnd5 λ_ _ _ _ _ _ _ _ _ _ _=>rfl) (λvs H Q E h=>?_) (λf cdv A outer s H vs Q E hr h=>?_)
 ·obtain⟨a,b,c,d,h,rfl,_⟩:=h;rfl
 obtain⟨a,b,c,d,h,rfl,h0,q⟩:=h
 refine⟨_,(@Z0g _ _ _ _ _ (@Z0o _ _ 5 _ _ _ _ nd rfl (Or.inl rfl) (Z0i Y0f (Z0i Y0f (Z0i Y0f (pv 0) (pv 1)) (pv 2)) (pv 3)) rfl (.inl rfl))
  (@Z0g _ _ _ _ _ (Z0y (Z0n Z1o (pv 5) Z0b (nomark _))
   (@Z0f _ _ _ (Z0j (@Z1a _ _ _ _ _ (Z0a Z0b (Z0a Z0b (Z0a Z0b (Z0a Z0b (Z0a Z0b Z0e))))))))
   Z0p)
  (@Z0g _ _ _ _ _ (@Z0o _ _ 6 _ _ _ _ nd rfl (Or.inl rfl) (Z0i Z2k (Y3f q4a q2m q3d Z5b (Z0i Z1t (pv 5) (Y1i Z9m (pv 5)))) Z0b) rfl (.inl rfl))
  (@Z0g _ _ _ _ _ (@Z0o _ _ 7 _ _ _ _ nd rfl (Or.inl rfl) (Z0q (Y9d rfl) rfl B.min q8u (Z0a (pv 6) (Z0a (pv 4) Z0e))) rfl (.inl rfl))
  (@Z0f _ _ _ (Z0j (@Z1a _ _ _ _ _ (Z0a (Z0i Z4z (pv 0) (pv 7)) (Z0a (Z0i Z4z (pv 1) (pv 7)) (Z0a (Z0i Z4z (pv 2) (pv 7)) (Z0a (Z0i Z4z (pv 3) (pv 7)) (Z0a (Z0i Z2k (pv 4) (pv 7)) Z0e)))))))))))),?_⟩
 try dsimp only[cxK]
 refine⟨_,Z,_,Z,_,_,Z,Z,_,Z,_,_,Z,Z,_,Z,_,_,Z,Z,?_⟩
 refine⟨_,Z,Z,_,Z,eqI (λe=>?_) (λe=>?_)⟩
 ·obtain⟨rfl,rfl,rfl,rfl⟩:=orAll_zero.mp e
  exact⟨by show 5<=sizeLine;decide,λp hp=>q p _ 0 0 0 0 0 (Z0c hp _) Z0d ⟨⟨by omega,.inl rfl⟩,⟨by simp[Eq2],by simp[Eq2],by simp[Eq2],by simp[Eq2]⟩,q0f _,q0f _,q0f _,q0f _,h0⟩⟩
 obtain⟨v,ev,hd,hn⟩:=lowest e
 obtain⟨m0,m1,ha,hs,b1,b2,b3,b4⟩:=halve h0 hd hn rfl
 have ev':((Builtin.Int.intBits (Builtin.bitAnd (Builtin.bitOr (Builtin.bitOr (Builtin.bitOr a b) c) d) (-(Builtin.bitOr (Builtin.bitOr (Builtin.bitOr a b) c) d))):Nat):Int)-1=v:=ev
 refine⟨_,Z,_,Z,_,Z,_,_,Z,Z,Z,_,Z,Z,_,_,Z,Z,?_⟩
 show tSeq _ _ _ (List.set _ 6 (some (V.int (((Builtin.Int.intBits (Builtin.bitAnd (Builtin.bitOr (Builtin.bitOr (Builtin.bitOr a b) c) d) (-(Builtin.bitOr (Builtin.bitOr (Builtin.bitOr a b) c) d))):Nat):Int)-1)))) H
 rw[ev']
 generalize hm:(if h<(v:Int) then h else (v:Int))=m at *
 refine⟨_,Z,_,Z,_,_,Z,?_⟩
 rw[hm]
 refine⟨_,Z,_,Z,_,_,Z,Z,m0,_,Z,_,Z,_,_,Z,Z,m0,_,Z,_,Z,_,_,Z,Z,m0,_,Z,_,Z,_,_,Z,Z,m0,_,Z,_,Z,_,_,Z,Z,(by show 5<=sizeLine;decide),λp hp=>?_⟩
 exact q p _ _ _ _ _ _ (Z0c hp _) Z0d ⟨ha,hs,b1,b2,b3,b4,by omega⟩
theorem sc_once:FnScope ["one"] ["one"] (Z0h (top 23)):=fS
theorem X5e (F:FunAt K "spun_once" (top 23) .none)(X:K.In h)(G:Ng h mg):Cal P w K mg base (k+1) "spun_once" ["one"] (Y5x K):=by
 have nd:=sc_once.nd
 refine F.cal X G sc_once (bnd1 λ_ _ _ _ _ _ _=>rfl) (λvs H Q E h=>?_) (λf cdv A outer s H vs Q E hr h=>?_)
 ·obtain⟨p,a,b,c,d,h,rfl,_⟩:=h;rfl
 obtain⟨p,a,b,c,d,h,rfl,hp,q⟩:=h
 have S:SqT K H p [.int a,.int b,.int c,.int d,.int h]:=hp
 refine⟨_,(@Z0f _ _ _ (Z0j (@Z1a _ _ _ _ _ (Z0a (Y1i Z9m (Z0m Z0l (pv 0) Z0b (λ_ _=>rfl))) (Z0a (Z0m Z0l (pv 0) Z0b (λ_ _=>rfl)) (Z0a (Z0m Z0l (pv 0) Z0b (λ_ _=>rfl)) (Z0a (Z0m Z0l (pv 0) Z0b (λ_ _=>rfl)) (Z0a (Z0m Z0l (pv 0) Z0b (λ_ _=>rfl)) Z0e)))))))),?_⟩
 try dsimp only[cxK]
 refine⟨_,Z,p,_,_,_,Z,Z,S,Z,_,Z,_,Z,p,_,_,_,Z,Z,S,Z,_,Z,p,_,_,_,Z,Z,S,Z,_,Z,p,_,_,_,Z,Z,S,Z,_,Z,p,_,_,_,Z,Z,S,Z,(by show 5<=sizeLine;decide),λr hr=>?_⟩
 exact q r _ (Z0c hr _) Z0d
theorem sc_rooted:FnScope ["one"] ["one"] (Z0h (top 24)):=fS
theorem Y7b (F:FunAt K "rooted" (top 24) .none)(X:K.In h)(G:Ng h mg)(cP:Cal P w K mg base k "halved_out" ["a","b","c","d","h"] spHalf):Cal P w K mg base (k+1) "rooted" ["one"] Y2q:=by
 have nd:=sc_rooted.nd
 refine F.cal X G sc_rooted (bnd1 λ_ _ _ _ _ _ _=>rfl) (λvs H Q E h=>?_) (λf cdv A outer s H vs Q E hr h=>?_)
 ·obtain⟨p,a,b,c,d,h,rfl,_⟩:=h;rfl
 obtain⟨p,a,b,c,d,h,rfl,hp,h0,q⟩:=h
 have S:SqT K H p [.int a,.int b,.int c,.int d,.int h]:=SqT.of hp
 refine⟨_,(@Z0f _ _ _ (Z0j (Z0k cP hr rfl (Z0a (Z0i Z2k (Z0m Z0l (pv 0) Z0b (λ_ _=>rfl)) (Z0m Z0l (pv 0) Z0b (λ_ _=>rfl))) (Z0a (Z0i Z1b (Z0m Z0l (pv 0) Z0b (λ_ _=>rfl)) (Z0m Z0l (pv 0) Z0b (λ_ _=>rfl))) (Z0a (Z0i Z1b (Z0m Z0l (pv 0) Z0b (λ_ _=>rfl)) (Z0m Z0l (pv 0) Z0b (λ_ _=>rfl))) (Z0a (Z0i Z2k (Z0m Z0l (pv 0) Z0b (λ_ _=>rfl)) (Z0m Z0l (pv 0) Z0b (λ_ _=>rfl))) (Z0a (Z0i Z1b (Z0m Z0l (pv 0) Z0b (λ_ _=>rfl)) Z0b) Z0e)))))))),?_⟩
 try dsimp only[cxK]
 refine⟨_,Z,p,_,_,_,Z,Z,S,Z,_,Z,p,_,_,_,Z,Z,S,Z,_,_,Z,Z,_,Z,p,_,_,_,Z,Z,S,Z,_,Z,p,_,_,_,Z,Z,S,Z,_,_,Z,Z,
  _,Z,p,_,_,_,Z,Z,S,Z,_,Z,p,_,_,_,Z,Z,S,Z,_,_,Z,Z,_,Z,p,_,_,_,Z,Z,S,Z,_,Z,p,_,_,_,Z,Z,S,Z,_,_,Z,Z,_,Z,p,_,_,_,Z,Z,S,Z,_,_,Z,Z,?_⟩
 exact⟨_,_,_,_,_,Z,(by show 0<=h+1;omega),λr H' x y z u g s1 e1 r1=>q r H' x y z u g s1 e1 r1⟩
theorem sc_spun:FnScope ["one","k","turning","step"] ["one","k"] (Z0h (top 22)):=fS
theorem Y1o (F:FunAt K "spun" (top 22) .none)(X:K.In h)(G:Ng h mg)(B:Bs mg)(eB:Cal P w K mg base k "spun_once" ["one"] (Y5x K)):Cal P w K mg base (k+1) "spun" ["one","k"] (Z8i K):=by
 have nd:=sc_spun.nd
 refine F.cal X G sc_spun (bnd2 λ_ _ _ _ _ _ _ _=>rfl) (λvs H Q E h=>?_) (λf cdv A outer s H vs Q E hr h=>?_)
 ·obtain⟨p,a,b,c,d,h,k,rfl,_⟩:=h;rfl
 obtain⟨p,a,b,c,d,h,j,rfl,hp,q⟩:=h
 have S:SqT K H p [.int a,.int b,.int c,.int d,.int h]:=hp
 refine⟨_,(@Z0g _ _ _ _ _ (@Z0o _ _ 2 _ _ _ _ nd rfl (Or.inl rfl) (pv 0) rfl (.inl rfl))
  (@Z0g _ _ _ _ _ (Z2r PassesOwn.never rfl (Z1k rfl B.range (Z0a (Z0i Z0z (pv 1) Z0b) Z0e)) (Z0w (i:=3) nd rfl (Or.inl rfl))
   (@Z0f _ _ _ (@Z0o _ _ 2 _ _ _ _ nd rfl (Or.inl rfl) (Z0k eB hr rfl (Z0a (pv 2) Z0e)) rfl (.inl rfl))))
  (@Z0f _ _ _ (Z0j (pv 2))))),?_⟩
 try dsimp only[cxK]
 have j0:=q1i j (show (8:Int)≠0 by decide)
 have j1:=q1f j (show (0:Int)<8 by decide)
 refine⟨_,Z,_,Z,_,_,Z,Z,(by show (0:Int)<8;decide),_,Z,(by omega),(by omega),Z1y (n:=(j%8).toNat) (λi σ H'=>Same H H'/\∃ t v,σ=[some (.ref p),some (.int j),some (.ref t),v]/\At5 K H' t (rot i (a,b,c,d),h)) ⟨Same.refl _,p,none,Z,hp⟩ ?_ ?_⟩
 ·rintro i σ H2 hi ⟨s2,t,v,rfl,ht⟩
  refine⟨_,Z,t,_,_,_,_,_,Z,ht,λr H' s3 e3=>?_⟩
  exact⟨s2.trans s3,r,_,Z,At5.of e3⟩
 ·rintro σ H2 ⟨s2,t,v,rfl,ht⟩
  exact⟨_,Z,q t H2 s2 ht⟩
structure Sum (a b c d h a' b' c' d' h' x y z u g:Int):Prop where
 amt:Amt x y z u g
 same:Same4 (a*p2 h'+a'*p2 h) (b*p2 h'+b'*p2 h) (c*p2 h'+c'*p2 h) (d*p2 h'+d'*p2 h) (h+h') x y z u g
 le:g<=max h h'
theorem Y2k {a a' h h' m:Int}(h0:0<=h)(h0':0<=h')(hm:h<=m)(hm':h'<=m):Eq2 (a*p2 h'+a'*p2 h) (h+h') (a*2^(m-h).toNat+a'*2^(m-h').toNat) m:=by
 unfold Eq2
 rw[Y0c h0 h0']
 show _=(a*p2 (m-h)+a'*p2 (m-h'))*(p2 h*p2 h')
 have e1:=Z4x h0 hm
 have e2:=Z4x h0' hm'
 have l1:(a*p2 h'+a'*p2 h)*p2 m=a*p2 h'*p2 m+a'*p2 h*p2 m:=Int.add_mul ..
 rw[l1,show a*p2 h'*p2 m=a*p2 h'*(p2 (m-h)*p2 h) by rw[<-e1],show a'*p2 h*p2 m=a'*p2 h*(p2 (m-h')*p2 h') by rw[<-e2]]
 grind
theorem X2m (n:Nat):Sz (n+1) ((2:Int)^n):=by
 unfold Sz
 rw[Int.natAbs_pow]
 exact q3m (by decide) (q4q n)
theorem Y2j {a a' h h' m:Int}{n N:Nat}(hm:m-h<=h'/\m-h'<=h)(z:Sz n a)(z':Sz n a')(hN:n+h.toNat+h'.toNat+2<=N):Sz N (a*2^(m-h).toNat+a'*2^(m-h').toNat):=by
 refine((z.mul (X2m (m-h).toNat)).add (z'.mul (X2m (m-h').toNat))).mono ?_
 omega
structure In2 (K:U0) (n:Nat) (vs:List V) (H:Hp) (p q:W9) (a b c d h a' b' c' d' h':Int):Prop where
 vs:vs=[.ref p,.ref q]
 one:At5 K H p ((a,b,c,d),h)
 other:At5 K H q ((a',b',c',d'),h')
 h0:0<=h
 h0':0<=h'
 hh:h+h'<=40000
 hn:n<=500000
 z:Sz4 n a b c d
 z':Sz4 n a' b' c' d'
def Y1d (K:U0):Sp:=λvs H Q _=>∃ n p q a b c d h a' b' c' d' h',In2 K n vs H p q a b c d h a' b' c' d' h'/\∀ (r:W9) (H':Hp) (x y z u g:Int),Same H H'->H' r=some (T5 x y z u g)->Sum a b c d h a' b' c' d' h' x y z u g->Sz4 (n+h.toNat+h'.toNat+2) x y z u->Q (.ref r) H'
def Y2s (K:U0):Sp:=λvs H Q _=>∃ n p q a b c d h a' b' c' d' h',In2 K n vs H p q a b c d h a' b' c' d' h'/\∀ (r:W9) (H':Hp) (x y z u g:Int),Same H H'->H' r=some (T5 x y z u g)->Sum a b c d h (-a') (-b') (-c') (-d') h' x y z u g->Sz4 (n+h.toNat+h'.toNat+2) x y z u->Q (.ref r) H'
theorem sc_plus:FnScope ["one","other","h","up","other_up","sums"] ["one","other"] (Z0h (top 20)):=fS
theorem X5b (F:FunAt K "plus" (top 20) .none)(X:K.In h)(G:Ng h mg)(B:Bs mg)(cP:Cal P w K mg base k "halved_out" ["a","b","c","d","h"] spHalf):Cal P w K mg base (k+1) "plus" ["one","other"] (Y1d K):=by
 have nd:=sc_plus.nd
 refine F.cal X G sc_plus (bnd2 λ_ _ _ _ _ _ _ _=>rfl) (λvs H Q E h=>?_) (λf cdv A outer s H vs Q E hr h=>?_)
 ·obtain⟨n,p,q,a,b,c,d,h,a',b',c',d',h',I,_⟩:=h;rw[I.vs];rfl
 obtain⟨n,p,q,a,b,c,d,h,a',b',c',d',h',⟨rfl,e1,e2,h0,h0',hh,hn,z,z'⟩,kq⟩:=h
 have S:SqT K H p [.int a,.int b,.int c,.int d,.int h]:=e1
 have S':SqT K H q [.int a',.int b',.int c',.int d',.int h']:=e2
 refine⟨_,(@Z0g _ _ _ _ _ (@Z0o _ _ 2 _ _ _ _ nd rfl (Or.inl rfl) (Z0q (Z7k rfl) rfl B.max q8v (Z0a (Z0m Z0l (pv 0) Z0b (λ_ _=>rfl)) (Z0a (Z0m Z0l (pv 1) Z0b (λ_ _=>rfl)) Z0e))) rfl (.inl rfl))
  (@Z0g _ _ _ _ _ (@Z0o _ _ 3 _ _ _ _ nd rfl (Or.inr rfl) (Z0i Z2k (pv 2) (Z0m Z0l (pv 0) Z0b (λ_ _=>rfl))) rfl (.inl rfl))
  (@Z0g _ _ _ _ _ (@Z0o _ _ 4 _ _ _ _ nd rfl (Or.inr rfl) (Z0i Z2k (pv 2) (Z0m Z0l (pv 1) Z0b (λ_ _=>rfl))) rfl (.inl rfl))
  (@Z0g _ _ _ _ _ (Z4i (i:=5) rfl nd rfl rfl (LcOk.of (Nc:=["x","y","up","other_up"]) (mp:=[none,none,some 3,some 4]) (by kernel_rfl)) (X2p true true rfl B.zip (Z0a (Z1l Y6f (pv 0) Z2e (Z1f Z0b)) (Z0a (Z1l Y6f (pv 1) Z2e (Z1f Z0b)) Z0e))) (λ_ _ _ _=>(Z8r rfl (show (["x","y","up","other_up"]:W0).Nodup by decide +kernel) rfl rfl rfl rfl)) (λ_ _ _ _=>(Z0i Z1b (Z0i Z2f (pv 0) (pv 2)) (Z0i Z2f (pv 1) (pv 3)))) rfl)
  (@Z0f _ _ _ (Z0j (Z0k cP hr rfl (Z0a (Z0m Z0s (pv 5) Z0b (λ_ _=>rfl)) (Z0a (Z0m Z0s (pv 5) Z0b (λ_ _=>rfl)) (Z0a (Z0m Z0s (pv 5) Z0b (λ_ _=>rfl)) (Z0a (Z0m Z0s (pv 5) Z0b (λ_ _=>rfl)) (Z0a (pv 2) Z0e)))))))))))),?_⟩
 try dsimp only[cxK]
 refine⟨_,Z,p,_,_,_,Z,Z,S,Z,_,Z,q,_,_,_,Z,Z,S',Z,_,_,Z,?_⟩
 generalize hm:(if h'>h then h' else h)=m
 have m1:h<=m:=by rw[<-hm];split<;>omega
 have m2:h'<=m:=by rw[<-hm];split<;>omega
 have m3:m-h<=h'/\m-h'<=h/\m<=h+h':=by rw[<-hm];split<;>omega
 refine⟨_,Z,_,Z,p,_,_,_,Z,Z,S,Z,_,_,Z,Z,?_⟩
 refine⟨_,Z,_,Z,q,_,_,_,Z,Z,S',Z,_,_,Z,Z,?_⟩
 refine⟨_,Z,4,Z,p,_,Z,S,cut54,λl1 hl1=>?_⟩
 refine⟨_,Z,4,Z,q,_,Z,(Z0c hl1 _).tup S',cut54,λl2 hl2=>?_⟩
 have s2:Same H (upd (upd H l1 (.tup ([a,b,c,d].map V.int))) l2 (.tup ([a',b',c',d'].map V.int))):=(Z0c hl1 _).trans (Z0c hl2 _)
 refine⟨l1,l2,[a,b,c,d].map V.int,[a',b',c',d'].map V.int,Z,(Z0c hl2 _).tup (SqT.of Z0d),SqT.of Z0d,λacc hacc=>?_⟩
 refine X6i (K:=K) (ns:=[a,b,c,d]) (ms:=[a',b',c',d']) (fr:=[some (.int (m-h)),some (.int (m-h'))]) (λx y=>x*2^(m-h).toNat+y*2^(m-h').toNat) rfl (show 4<=sizeLine by decide) ((Z0c hl2 _).tup (SqT.of Z0d)) (SqT.of Z0d) hacc
  (λha hQ=>⟨_,_,Z,SqT.of ha,Z,_,_,Z,_,_,Z,Z,hQ⟩) ?_ ?_
 ·intro x y H2 N hx hy kN
  have zx:Sz n x:=by
   simp only[q0p,q1l,q2t] at hx
   rcases hx with rfl | rfl | rfl | rfl
   ·exact z.z1
   ·exact z.z2
   ·exact z.z3
   ·exact z.z4
  have zy:Sz n y:=by
   simp only[q0p,q1l,q2t] at hy
   rcases hy with rfl | rfl | rfl | rfl
   ·exact z'.z1
   ·exact z'.z2
   ·exact z'.z3
   ·exact z'.z4
  exact⟨_,Z,_,Z,_,_,Z,Z,⟨n,zx,(by omega),(by omega)⟩,_,Z,_,Z,_,_,Z,Z,⟨n,zy,(by omega),(by omega)⟩,_,_,Z,Z,kN⟩
 intro H2 s3 a3
 have SA:SqL K H2 acc ((List.zipWith (λx y=>x*2^(m-h).toNat+y*2^(m-h').toNat) [a,b,c,d] [a',b',c',d']).map V.int):=SqL.of a3
 refine⟨_,Z,acc,_,_,_,Z,Z,SA,Z,_,Z,acc,_,_,_,Z,Z,SA,Z,_,Z,acc,_,_,_,Z,Z,SA,Z,_,Z,acc,_,_,_,Z,Z,SA,Z,_,Z,_,_,_,_,_,Z,(by show 0<=m;omega),λr H' x y v u g s4 e4 r4=>?_⟩
 have hN:n+h.toNat+h'.toNat+2<=n+h.toNat+h'.toNat+2:=q0f _
 have m4:m-h<=h'/\m-h'<=h:=⟨m3.1,m3.2.1⟩
 refine kq r H' x y v u g (s2.trans (s3.trans s4)) e4 ⟨r4.amt,Same4.trans ⟨Y2k h0 h0' m1 m2,Y2k h0 h0' m1 m2,Y2k h0 h0' m1 m2,Y2k h0 h0' m1 m2⟩ r4.same,by have:=r4.le;rw[<-hm] at this;split at this<;>omega⟩ (r4.sz ⟨?_,?_,?_,?_⟩)
 ·exact Y2j m4 z.z1 z'.z1 hN
 ·exact Y2j m4 z.z2 z'.z2 hN
 ·exact Y2j m4 z.z3 z'.z3 hN
 ·exact Y2j m4 z.z4 z'.z4 hN
theorem sc_minus:FnScope ["one","other"] ["one","other"] (Z0h (top 21)):=fS
theorem X0v (F:FunAt K "minus" (top 21) .none)(X:K.In h)(G:Ng h mg)(dZ:Cal P w K mg base k "plus" ["one","other"] (Y1d K))(e7:Cal P w K mg base k "spun" ["one","k"] (Z8i K)):Cal P w K mg base (k+1) "minus" ["one","other"] (Y2s K):=by
 have nd:=sc_minus.nd
 refine F.cal X G sc_minus (bnd2 λ_ _ _ _ _ _ _ _=>rfl) (λvs H Q E h=>?_) (λf cdv A outer s H vs Q E hr h=>?_)
 ·obtain⟨n,p,q,a,b,c,d,h,a',b',c',d',h',I,_⟩:=h;rw[I.vs];rfl
 obtain⟨n,p,q,a,b,c,d,h,a',b',c',d',h',⟨rfl,e1,e2,h0,h0',hh,hn,z,z'⟩,kq⟩:=h
 refine⟨_,(@Z0f _ _ _ (Z0j (Z0k dZ hr rfl (Z0a (pv 0) (Z0a (Z0k e7 hr rfl (Z0a (pv 1) (Z0a Z0b Z0e))) Z0e))))),?_⟩
 try dsimp only[cxK]
 refine⟨_,Z,_,Z,q,_,_,_,_,_,_,Z,e2,λr H2 s2 er=>?_⟩
 have er':At5 K H2 r ((-a',-b',-c',-d'),h'):=er
 exact⟨n,p,r,a,b,c,d,h,-a',-b',-c',-d',h',⟨Z,e1.same s2,er',h0,h0',hh,hn,z,⟨z'.z1.neg,z'.z2.neg,z'.z3.neg,z'.z4.neg⟩⟩,λr' H3 x y v u g s3=>kq r' H3 x y v u g (s2.trans s3)⟩
end
end K75
namespace L2
def TEnt (P:Params)(e:DictEntry)(p:Str × Int):Prop:=∃ t u,e=⟨PyData.keyHash P p.1,.str p.1 t,.int p.2 u⟩
structure KDic (K:U0) (P:Params) (a:W9) (kvs:List (Str × Int)):Prop where
 ex:∃ o es ep,K.lookup a=some o/\o.ExactDict/\o.data=.dict es ep/\Paired (TEnt P) es.toList kvs
 nd:(kvs.map (·.1)).Nodup
 ns:(a == sysModules)=false
noncomputable def txt (p:Str × Int):Key × V:=(Sum.inr p.1,.int p.2)
theorem KDic.at {K:U0}{prog:U8}{w:W1}{a:W9}{kvs:List (Str × Int)}{h:Heap}(D:KDic K w.params a kvs)(X:K.In h):∃ vs,KV (kvs.map txt) vs/\h.DictOf (Z4f prog w) a vs:=by
 obtain⟨o,es,ep,hl,hx,hd,hp⟩:=D.ex
 have key:∀ {l:List DictEntry}{kvs:List (Str × Int)},Paired (TEnt w.params) l kvs->∃ vs:List (Key × Value),KV (kvs.map txt) vs/\Pairs (Z4f prog w) l vs:=by
  intro l kvs h
  induction h with
  | nil=>exact⟨[],.nil,.nil⟩
  | @cons e p l kvs he hr ih =>
   obtain⟨vs,a1,a2⟩:=ih
   obtain⟨t,u,rfl⟩:=he
   exact⟨(Sum.inr p.1,.int p.2 u)::vs,.cons ⟨Z,u,Z⟩ a1,.cons (Z7e p.1 t) rfl a2⟩
 have all:∀ {l:List DictEntry}{kvs:List (Str × Int)},Paired (TEnt w.params) l kvs->∀ e∈l,∃ p,TEnt w.params e p:=by
  intro l kvs h
  induction h with
  | nil=>intro e he;cases he
  | @cons e p l kvs he hr ih =>
   intro e' h'
   rcases q0p.mp h' with rfl | h'
   ·exact⟨p,he⟩
   ·exact ih e' h'
 obtain⟨vs,a1,a2⟩:=key hp
 refine⟨vs,a1,o,es,ep,X _ _ hl,hx,hd,?_,a2,?_⟩
 ·intro e he
  obtain⟨p,t,u,rfl⟩:=all hp e (Array.mem_toList_iff.mpr he)
  exact⟨Sum.inr p.1,Z7e p.1 t,Z⟩
 ·rw[<-a1.keys,q3v]
  have e:kvs.map ((λkv=>kv.1) ∘ txt)=(kvs.map (·.1)).map (Sum.inr:Str->Key):=by rw[q3v];rfl
  rw[e]
  exact List.pairwise_map.mpr (D.nd.imp λh z=>h (Sum.inr.inj z))
noncomputable def numAt (kvs:List (Str × Int))(x:Str):Option V:=valV (kvs.map txt) (Sum.inr x)
def X3w (kvs:List (Str × Int))(ty:TE):TE:=λσ H Q=>ty σ H λy H1=>∃ x,y=.str x/\Q (.bl (!(numAt kvs x).isSome)) H1
def tKGet (kvs:List (Str × Int))(ty:TE):TE:=λσ H Q=>ty σ H λy H1=>∃ x v,y=.str x/\numAt kvs x=some v/\Q v H1
section
variable {X:Cx}{o i:Expr}{pos:Pos}{ty:TE}{aN:W9}{kvs:List (Str × Int)}
theorem Y6u (D:KDic X.K X.w.params aN kvs)(hi:PE X i ty)(ho:PE X o (tC (.ref aN))):PC X .NotIn i o (X3w kvs ty):=by
 intro pins s σ H Q I h
 refine thn (hi pins s σ H _ I h) λiv s1 ⟨y,H1,I1,ry,x,ey,q1⟩=>thn (ho pins s1 σ H1 (λv H2=>v=.ref aN/\H2=H1) I1 ⟨Z,Z⟩) λu s2 ⟨v,H2,I2,rv,ev,eh⟩=>?_
 subst ev eh ey
 cases rv
 obtain⟨vs,rel,dd⟩:=D.at (prog:=X.prog) (w:=X.w) I2.kIn
 refine wpAny_notIn_of (X9q (k:=Sum.inr x) ry) D.ns dd.mapOf ?_
 rw[<-(rel.val (Sum.inr x)).isSome_eq]
 exact⟨.bl _,H2,I2.tok _,Z,q1⟩
theorem X4q (D:KDic X.K X.w.params aN kvs)(ho:PE X o (tC (.ref aN)))(hi:PE X i ty)(hs:NoSl i):PE X (.Subscript o i pos) (tKGet kvs ty):=by
 intro pins s σ H Q I h
 refine X3y PySem.F.slot_dict_getitem.lookup hs (thn (ho pins s σ H (λv H2=>v=.ref aN/\H2=H) I ⟨Z,Z⟩) λu s1 ⟨v,H1,I1,rv,ev,eh⟩=>?_)
 subst ev eh
 cases rv
 refine thn (hi pins s1 σ H1 _ I1 h) λiv s2 ⟨y,H2,I2,ry,x,w',ey,g,q2⟩=>?_
 subst ey
 obtain⟨vs,rel,dd⟩:=D.at (prog:=X.prog) (w:=X.w) I2.kIn
 obtain⟨u,hw,ru⟩:=RelO.some_of (v:=w') (o:=valueAt vs (Sum.inr x)) (by rw[<-g];exact rel.val (Sum.inr x))
 exact⟨dd.typeIs,wpAny_getItem_of (X9q (k:=Sum.inr x) ry) dd.mapOf hw ⟨w',H2,I2.tok _,ru,q2⟩⟩
end
end L2
namespace L2
noncomputable abbrev unlike (ns:U6):Nat:=(firstMet (λi=>ns.getD i 0) ns.length).length
noncomputable abbrev fresh0 (led:Bool):Obj:={ cls:=.type "set",dict:=none,data:=.set #[] 0 (.fresh 0 0 led) }
def SetEnd (prog:U8)(w:W1)(s:U7)(ns:U6)(S:Int->Bool)(s':U7):Prop :=
 ∃ h' tk,s'={ s with heap:=h',toks:=tk }/\h'.SetOf (intKind prog w) s.heap.objs.size S (unlike ns)/\∀ b o,s.heap.get? b=some o->h'.get? b=some o
section
variable {prog:U8}{w:W1}{A:W6}{E:U2}{s:U7}{p:W9}{its:U9}{ns:U6}
theorem X1v (hh:A.handled=none)(ht:s.heap.IsTuple p its)(hi:IntsAre its.toList ns)(hb:ns.length+1<scanBound)(led:Bool){R:Result->Shared->Prop}
  (h:∀ s',SetEnd prog w s ns (λk=>(firstMet (λi=>ns.getD i 0) ns.length).any (· == k)) s'->R (.ok (.ret .none)) s') :
  codeAny (model prog w) A (.builtin "set.update.loop" ⟨[.ref s.heap.objs.size,.ref (s.heap.push (fresh0 led)).objs.size],[]⟩) R { s with heap:=(s.heap.push (fresh0 led)).push { cls:=.type "tuple_iterator",data:=.fields #[.ref p,.int 0 0] } }:=by
 obtain⟨o,ho,hc,n,hd⟩:=id ht
 have lt:p<s.heap.objs.size:=q0h ho
 have e1:(s.heap.push (fresh0 led)).objs.size=s.heap.objs.size+1:=q2h ..
 have hz:its.size=ns.length:=by rw[<-q1w];exact hi.length
 have W:=(Walks.tuple (prog:=prog) (w:=w) (A:=A.in1) (by simp[hh]) (s.heap.push (fresh0 led)).objs.size p (by rw[e1];exact q0w (q3r lt)) its).toS
 have t1:(s.heap.push (fresh0 led)).IsTuple p its:=⟨o,q0g _ ho,hc,n,hd⟩
 refine codeAny_set_update_loopS W s.heap.objs.size (by rw[e1];simp only[q0p,q1l,q2t,not_or];exact⟨q0w (q4q _),q4g lt⟩) (λi=>ns.getD i 0) (λi v q=>hi.int_at i v (by rw[Array.getElem?_toList];exact q)) (by rw[hz];exact hb) its.size 0 _ rfl (q1e _)
  ⟨⟨_,q0r _ rfl,Z,Z⟩,t1.push _⟩ ?_ ?_
 ·have g:((s.heap.push (fresh0 led)).push { cls:=.type "tuple_iterator",data:=.fields #[.ref p,.int 0 0] }).get? s.heap.objs.size=some (fresh0 led):=q0g _ (q0r _ rfl)
  exact SetOf_congr ((setObjOf_fresh (knd:=intKind prog w) led).setOf g (by unfold scanBound;omega)) (λ_=>rfl) rfl
 ·intro s' hm hS
  rw[hz] at hS
  obtain⟨h',g',d',tk',os'⟩:=s'
  obtain rfl:g'=s.gens:=hm.gens
  obtain rfl:d'=s.drawn:=hm.drawn
  obtain rfl:os'=s.os:=hm.os
  refine h _ ⟨h',tk',Z,hS,λb o e=>?_⟩
  have lb:=q0h e
  exact hm.heap b o (by rw[e1];simp only[q0p,q1l,q2t,not_or];exact⟨q0w lb,q0w (q3r lb)⟩) (q0g _ (q0g _ e))
theorem X1r (hh:A.handled=none)(ht:s.heap.IsTuple p its)(hi:IntsAre its.toList ns)(hb:ns.length+1<scanBound)(led:Bool){R:U2}
  (h:∀ s',SetEnd prog w s ns (λk=>(firstMet (λi=>ns.getD i 0) ns.length).any (· == k)) s'->R .none s') :
  codeAny (model prog w) A (.call (.builtin "set.__init__") ⟨[.ref s.heap.objs.size,.ref p],[]⟩) (wants R E) { s with heap:=s.heap.push (fresh0 led) }:=by
 have ty:Shared.TypeIs { s with heap:=s.heap.push (fresh0 led) } (.ref s.heap.objs.size) "set":=⟨_,q0r _ rfl,Z⟩
 obtain⟨o,ho,hc,n,hd⟩:=id ht
 obtain⟨ocls,odict,odata,oslots⟩:=o
 simp only at hc hd
 subst hc hd
 have ho1:(s.heap.push (fresh0 led)).get? p=some { cls:=.type "tuple",dict:=odict,data:=.seq its n,slots:=oslots }:=q0g _ ho
 have t1:(s.heap.push (fresh0 led)).IsTuple p its:=⟨_,ho1,Z,n,Z⟩
 have n1:=F.sub_tuple_set
 have n2:=F.sub_tuple_frozenset
 have n3:(Value.type "tuple" == Value.type "dict")=false:=by decide
 refine codeAny_call_builtin F.called_set.init.plain F.entry_set_init (check_set_init_1 ty ?_)
 unfold Builtin.«set.__init__» noKeywords Builtin.Frozenset.updateFrom
 generalize hP:pyIter=PI
 wp_walk
 subst hP
 refine q4z t1 (q0o (wpAny_runValue (X1v (by simp[hh]) ht hi hb led λs' e=>?_)))
 exact q0z (q0z (h _ e))
theorem X4f (hh:A.handled=none)(ht:s.heap.IsTuple p its)(hi:IntsAre its.toList ns)(hb:ns.length+1<scanBound){Q:U2}
  (h:∀ s',SetEnd prog w s ns (λk=>(firstMet (λi=>ns.getD i 0) ns.length).any (· == k)) s'->Q (.ref s.heap.objs.size) s'):wpAny (model prog w) A (call (.type "set") [.ref p]) Q E s:=by
 obtain⟨c,tl,hmro⟩:=F.called_set.mro
 have m1:=F.called_set.made
 have m2:=F.called_set.sub
 have m3:=F.called_set.notType
 have m4:=F.called_set.canCreate
 have m5:=F.typeCall_set_1 (.ref p)
 refine wpAny_call (codeAny_of_tree ?_)
 show wpAny _ _ (callAny (.type "set") _) _ _ _
 refine q0z ⟨Code.quiet_builtin _ (by decide +kernel),codeAny_builtin F.entry_type_call ?_⟩
 rw[Around.under_plain (weight_type_call_type "set" [.ref p] []) rfl]
 repeat any_goals first | assumption | wp_step
 refine q6p (code_set_new_1 (.ref p) (E:=E) (Q₁:=λob s₁=>∃ led:Bool,ob=.ref s.heap.objs.size/\s₁={ s with heap:=s.heap.push (fresh0 led) }) λled=>⟨led,Z,Z⟩) λr s₁ hr=>?_
 rcases r with e | fl
 ·exact hr
 cases fl with
 | ret ob =>
  obtain⟨led,rfl,rfl⟩:=hr
  have ty:Shared.TypeIs { s with heap:=s.heap.push (fresh0 led) } (.ref s.heap.objs.size) "set":=⟨_,q0r _ rfl,Z⟩
  have i1:=F.called_set.init.lookup
  have i2:=F.called_set.init.bind (.ref s.heap.objs.size)
  repeat any_goals first | assumption | wp_step
  refine q6p (X1r (E:=E) (R:=λr s'=>r=.none/\SetEnd prog w s ns (λk=>(firstMet (λi=>ns.getD i 0) ns.length).any (· == k)) s') (by simp[hh]) ht hi hb led λs' e=>⟨Z,e⟩) λr₂ s₂ hr₂=>?_
  rcases r₂ with e | fl₂
  ·exact hr₂
  cases fl₂ with
  | ret r =>
   obtain⟨rfl,e⟩:=hr₂
   repeat any_goals first | assumption | wp_step
   exact h _ e
  | next=>exact hr₂.elim
  | brk=>exact hr₂.elim
  | cont=>exact hr₂.elim
 | next=>exact hr.elim
 | brk=>exact hr.elim
 | cont=>exact hr.elim
end
theorem Y0j:∀ {ns:U6}{us:U5},Vals (ns.map V.int) us->IntsAre us ns
 | [],_,.nil=>.nil
 | n::ns,_,.cons r rs=>by
  obtain⟨t,rfl⟩:=r
  exact .cons n t (Y0j rs)
section
variable {X:Cx}
theorem Y9c (hc:X.calm=true):CallR X (.type "set") (λxs H Q=>∃ (p:W9) (ns:U6),xs=[.ref p]/\SqT X.K H p (ns.map V.int)/\ns.length<64/\∀ (l:W9) (S:Int->Bool),H l=none->Q (.ref l) (upd H l (.set S (unlike ns)))):=by
 intro pins s σ H xs us Q I r h
 obtain⟨p,ns,rfl,hS,h64,q⟩:=h
 obtain⟨u,rfl,rx⟩:=vals1 r
 cases rx
 obtain⟨its,rv,ht,_⟩:=I.tuple hS
 obtain⟨o,ho,hcl,n,hd⟩:=ht
 refine X4f (I.ok.hd hc) ⟨o,ho,hcl,n,hd⟩ (ns:=ns) (Y0j (by simpa using rv)) (by unfold scanBound;omega) λs' ⟨h',tk,e,hs,hk⟩=>?_
 subst e
 exact⟨.ref s.heap.objs.size,_,I.laid (o:=.set _ (unlike ns)) (t':=tk) hk (q0f _) hs,Z,q _ _ (I.hok.fresh (q0f _))⟩
theorem Y9e:CallR X (.builtin "len") (λxs H Q=>∃ (p:W9) (S:Int->Bool) (n:Nat),xs=[.ref p]/\H p=some (.set S n)/\n<64/\Q (.int n) H):=by
 intro pins s σ H xs us Q I r h
 obtain⟨p,S,n,rfl,hp,h64,q⟩:=h
 obtain⟨u,rfl,rx⟩:=vals1 r
 cases rx
 have hs:s.heap.SetOf (intKind X.prog X.w) p S n:=I.hok p _ hp
 obtain⟨o,ho,hso⟩:=hs.objOf
 obtain⟨hex,es,ep,t,hd,_,_,hn,hf⟩:=hso
 subst hn
 exact call_len_set ho hex hd hf (by omega) ⟨.int es.size,H,(I.tok _).tok _,⟨_,Z⟩,q⟩
end
end L2
namespace L2
section
variable {X:Cx}{e st:Expr}{lo hi:Option Expr}{te:TE}{tl th ts:TO}{p2 pos:Pos}
def SlR3 (X:Cx)(r:V->Option Int->Option Int->Option Int->Hp->VK->Prop):Prop :=
 ∀ (pins:U1) (s:U7) (σ:St) (H:Hp) (x:V) (v vl vu vs:W2) (lo hi st:Option Int) (sl:W9) (Q:VK),Inv X pins σ H s->RelV x v->s.heap.IsSliceOf sl vl vu vs->IsPart vl lo->IsPart vu hi->IsPart vs st->r x lo hi st H Q →
  ∃ T id,typeLookup (.type T) "__getitem__"=pure (some (.builtin id))/\s.TypeIs v T/\wpAny (model X.prog X.w) X.A (getItem v (.ref sl)) (EP X pins σ Q) X.xe s
def tSl3 (r:V->Option Int->Option Int->Option Int->Hp->VK->Prop)(te:TE)(tl th ts:TO):TE:=λσ H Q=>te σ H λx H1=>tl σ H1 λl H2=>th σ H2 λu H3=>ts σ H3 λt H4=>r x l u t H4 Q
theorem Y6s {r:V->Option Int->Option Int->Option Int->Hp->VK->Prop}(hr:SlR3 X r)(he:PE X e te)(hl:PO X lo tl)(hu:PO X hi th)(ht:PO X (some st) ts){ops:Value->Value->List Value}(hsub:∀ v u,subscripted (.Slice lo hi (some st) p2) false v u=operate (ops v u) (getItem v u)):PE X (.Subscript e (.Slice lo hi (some st) p2) pos) (tSl3 r te tl th ts):=by
 intro pins s σ H Q I h
 refine Subscript_ (thn (he pins s σ H _ I h) λv s1 ⟨x,H1,I1,r1,q1⟩=>?_)
 refine wpAny_Slice (thn (hl pins s1 σ H1 _ I1 q1) λvl s2 ⟨l,H2,I2,pl,q2⟩=>thn (hu pins s2 σ H2 _ I2 q2) λvu s3 ⟨u,H3,I3,pu,q3⟩=>thn (ht pins s3 σ H3 _ I3 q3) λvs s4 ⟨t,H4,I4,ps,q4⟩=>?_)
 have I5:Inv X pins σ H4 { s4 with heap:=s4.heap.push { cls:=.type "slice",data:=.fields #[vl,vu,vs] } }:=I4.kept (t':=s4.toks) λb ob q=>q0g _ q
 obtain⟨T,id,hT,ht',hg⟩:=hr pins { s4 with heap:=s4.heap.push { cls:=.type "slice",data:=.fields #[vl,vu,vs] } } σ H4 x v vl vu vs l u t s4.heap.objs.size Q I5 r1 (Heap.IsSliceOf.new ..) pl pu ps q4
 show wpAny (model X.prog X.w) X.A (subscriptTail e (.Slice lo hi (some st) p2) v (.ref s4.heap.objs.size)) (EP X pins σ Q) X.xe { s4 with heap:=s4.heap.push { cls:=.type "slice",data:=.fields #[vl,vu,vs] } }
 exact tail_any (ops:=ops v (.ref s4.heap.objs.size)) ht' hT hg (hsub _ _)
theorem Vals.rev {xs:List V}{us:U5}(h:Vals xs us):Vals xs.reverse us.reverse:=by
 induction h with
 | nil=>exact .nil
 | cons a _ ih=>rw[q3s,q3s];exact Paired.snoc ih a
theorem X4c:SlR3 X (λx lo hi st H Q=>∃ (a:W9) (xs:List V),x=.ref a/\SqL X.K H a xs/\lo=none/\hi=none/\st=some (-1)/\∀ (p:W9),H p=none->Q (.ref p) (upd H p (.lst xs.reverse))):=by
 intro pins s σ H x v vl vu vs lo hi st sl Q I rx hs pl pu ps h
 obtain⟨a,xs,rfl,hx,rfl,rfl,rfl,q⟩:=h
 cases rx
 obtain⟨its,r,ht,hz⟩:=I.list hx
 have hlen:=r.length
 refine⟨"list",_,slot_list_getitem.lookup,ht.isList.typeIs,q6z ht.isList hs pl pu ps (by decide) ?_ (by rw[q0i];omega)⟩
 refine⟨.ref s.heap.objs.size,_,I.laid (t':=s.toks) (o:=.lst xs.reverse) (λb ob q=>q0g _ q) (q0f _) ⟨by rw[q4w];exact hz,_,0,r.rev,?_⟩,Z,q _ (I.hok.fresh (q0f _))⟩
 rw[PySem.W.krv_pick]
 exact q0r _ rfl
end
end L2
namespace HT
section
variable {prog:U8}{w:W1}{A:W6}{E:U2}{s:U7}
theorem Z5p {t sl:W9}{items:U9}{vl vu:W2}{lo hi:Option Int}{Q:U2}(ht:IsTup s.heap t items)(hs:s.heap.IsSliceOf sl vl vu .none)(pl:IsPart vl lo)(pu:IsPart vu hi)
  (h1:sIx items.size 0 lo=0) (h2:sIx items.size items.size hi=items.size) (h:Q (.ref t) s):wpAny (model prog w) A (getItem (.ref t) (.ref sl)) Q E s:=by
 obtain⟨os,hos,hcs,hds⟩:=id hs
 have ty:s.TypeIs (.ref sl) "slice":=⟨os,hos,hcs⟩
 unfold getItem
 try with_reducible refine q6c ?_
 first | refine q0o (q0z ?_) | skip
 refine q0o (wpAny_sequenceKey ht.typeIs (by decide) (q0o (q5a (name:=Str.ofString "__getitem__") ht.typeIs PyProof.Rows.slot_tuple_getitem (q7m PyProof.Rows.slot_tuple_getitem ht.typeIs entry_tuple_getitem ?_ (args_tuple_getitem _ _)))))
 show wpAny _ _ (Builtin.Tuple.tupleItemsOf (.ref t) >>= _) _ _ s;refine q0o (tupleItemsOf_ ht (q0o (q8q ty ?_)));rw[if_pos (by decide)]
 refine q0o (Z3u hs pl pu ?_)
 show wpAny _ _ (if (((sIx items.size 0 lo:Nat):Int) == 0 && (1:Int) == 1 && (sIx items.size items.size hi-sIx items.size 0 lo) == items.size)=true then _ else _) _ _ s;rw[if_pos (by rw[h1,h2];simp)]
 refine q0o ?_
 unfold Builtin.Tuple.tupleIsExact
 refine q0o (q8q ht.typeIs (q0z ?_))
 rw[if_pos (by decide)]
 exact q0o (wpAny_rule (q0z ⟨_,Z,q0z h⟩))
end
end HT
namespace L2
section
variable {X:Cx}
def rSlA (K:U0):V->Option Int->Option Int->Hp->VK->Prop:=λx lo hi H Q=>∃ a xs,x=.ref a/\SqT K H a xs ∧
 ((HT.sIx xs.length 0 lo=0/\HT.sIx xs.length xs.length hi=xs.length)/\Q (.ref a) H∨¬ (HT.sIx xs.length 0 lo=0/\HT.sIx xs.length xs.length hi=xs.length)/\∀ p,H p=none->Q (.ref p) (upd H p (.tup (cutV xs lo hi))))
theorem Z3o:SlR X (rSlA X.K):=by
 intro pins s σ H x v vl vu lo hi sl Q I rx hs pl pu h
 obtain⟨a,xs,rfl,hx,⟨hw,q⟩ | ⟨hw,q⟩⟩:=h
 ·cases rx
  obtain⟨its,r,ht,hz⟩:=I.tuple hx
  have hlen:=r.length
  refine⟨"tuple",_,slot_tuple_getitem.lookup,ht.typeIs,HT.Z5p ht hs pl pu (by rw[q0i,<-hlen];exact hw.1) (by rw[q0i,<-hlen];exact hw.2) ⟨.ref a,H,I,Z,q⟩⟩
 ·exact Y6f pins s σ H _ v vl vu lo hi sl Q I rx hs pl pu ⟨a,xs,Z,hx,hw,q⟩
end
end L2
namespace L2
theorem Y5o {prog:U8}{w:W1}{A:W6}{env:Env}{c:Expr}{s:U7}{Q:Bool->Shared->Prop}(h:wpAny (model prog w) A (isTrue c env (eval c env)) Q Calm s) :
  wpAny (model prog w) A (forIn [c] true λc r=>if r=true then do let ok ← isTrue c env (eval c env);pure (ForInStep.yield ok) else pure (ForInStep.yield r)) Q Calm s:=wpAny_tests_one h
theorem Z7m {prog:U8}{w:W1}{A:W6}{R:Result->Shared->Prop}{s:U7}{e t i c:Expr}{sc:Scope}{pos:Pos}{it acc:W2}{env:Env}(J:Nat->Shared->Prop)
  (turn:∀ n s,J n s->wpAny (model prog w) A (pyNext it) (λr s1=>(r=none->R (.ok .next) s1)/\∀ v,r=some v →
   wpAny (model prog w) A (letOwnedTupleGo t it v) (λ_ s2=>wpAny (model prog w) A (assign t env v) (λ_ s3=>wpAny (model prog w) A (isTrue c env (eval c env)) (λok s3'=>if ok=true then wpAny (model prog w) A (eval e env) (λx s4 =>
    wpAny (model prog w) A (call (.builtin "list.append") [acc,x]) (λ_ s5=>∃ m,m<n/\J m s5) Calm s4) Calm s3' else ∃ m,m<n/\J m s3') Calm s3) Calm s2) Calm s1) Calm s)
  (n:Nat) (h:J n s):codeAny (model prog w) A (.compLoop (.ListComp e [⟨t,i,[c],0⟩] sc pos) 0 it acc env) R s:=by
 have eq:=compTurn_list e t i [c] sc pos it acc env
 refine codeAny_loop rfl J (λn s j=>wpAny_noted (m:=compTurn (.ListComp e [⟨t,i,[c],0⟩] sc pos) 0 it acc env) ?_) n h
 rw[eq]
 refine q0o (q7d (thenC (turn n s j) λr s1 q=>?_))
 match r,q with
 | none,q=>exact q0z (q.1 rfl)
 | some v,q =>
  refine thenC (q.2 v rfl) λ_ s2 q2=>thenC q2 λ_ s3 q3=>thenC (Y5o q3) λok s4 q4=>?_
  cases ok with
  | false=>exact q0z ⟨rfl,q4⟩
  | true=>exact q0o (thenC q4 λx s5 q5=>thenC q5 λ_ s6 q6=>q0z (q0z ⟨rfl,q6⟩))
def LcWF (J:It)(g:TG)(tc:TT)(te:TE)(σ:St)(H:Hp)(acc:W9)(Q:VK):Prop:=∃ W:Nat->Nat->List V->St->Hp->Prop,(∃ m,W 0 m [] σ (upd H acc (.lst []))) ∧
 ∀ i m ys σ2 H2,W i m ys σ2 H2->(J.stop i H2/\Q (.ref acc) H2)∨(J.go i H2/\∀ x H3,J.yld i H2 x H3->g x σ2 H3 λσ4 H4=>tc σ4 H4 λb H5 =>
  (b=true->te σ4 H5 λy H6=>H6 acc=some (.lst ys)/\ys.length<sizeLine/\∃ m',m'<m/\W (i+1) m' (ys++[y]) σ4 (upd H6 acc (.lst (ys++[y]))))/\(b=false->∃ m',m'<m/\W (i+1) m' ys σ4 H5))
def tLcF (mp:W7)(wi:TI)(g:TG)(tc:TT)(te:TE):TE:=λσ H Q=>wi σ H λJ H1=>∀ acc,H1 acc=none->LcWF J g tc te (sub mp σ) H1 acc Q
section
variable {X:Cx}{elt tg iter cond:Expr}{scope:Scope}{pos:Pos}{wi:TI}{g:TG}{tc:TT}{te:TE}{Nc:W0}{mp:W7}
theorem X6k (hc:X.calm=true)(S:LcOk X.N X.env.scope scope Nc mp)(hg:∀ ex pins s H,PG (cxLc X scope Nc ex pins s H) tg g)(ht:∀ ex pins s H,PT (cxLc X scope Nc ex pins s H) cond tc)(he:∀ ex pins s H,PE (cxLc X scope Nc ex pins s H) elt te)
  {pins:U1}{σ:St}{H2:Hp}{s2:U7}{E:U2}{it:W9}{fp:U3}{tn:Nat->Heap->Prop}{J:It}{Q:VK}{RR:Value->Addr->Result->Shared->Prop}
  (I2:Inv X pins σ H2 s2) (T:Turn X.prog X.w X.K tg J fp it tn) (st2:tn 0 s2.heap) (f2:∀ b∈fp,FpOk X pins H2 b)
  (q:∀ acc,H2 acc=none->LcWF J g tc te (sub mp σ) H2 acc Q)
  (fin:∀ acc C H' s' m',Q (.ref acc) H'->Inv X pins σ H' s'->s'.heap.Ns C m'->H' C=none->X.s₀.heap.objs.size<=C->C≠X.env.locals->(∀ x c,X.env.cells.lookup x=some c->c≠C)->(∀ p∈X.pn++pins,p.1≠C)->RR (.ref acc) C (.ok .next) s') :
  wpAny (model X.prog X.w) X.A (newList []) (λacc s₃=>wpAny (model X.prog X.w) X.A (newFunctionEnv scope X.env.globals (clo scope.names X.env.cells) [] X.env.qual none .none (some X.env)) (λcenv s₄ =>
   codeAny (model X.prog X.w) X.A (.compStart (.ListComp elt [⟨tg,iter,[cond],0⟩] scope pos) 0 (.ref it) acc { cenv with scope:=relabel scope X.env }) (RR acc cenv.locals) s₄) E s₃) E s2:=by
 refine q3p (wpAny_newFunctionEnv S.nocell (by intro y hy;simp at hy) (λh₁ hns₁ hsb₁=>?_) S.kind)
 dsimp only at hns₁ hsb₁ ⊢
 have I3:=I2.lnew (its:=[]) (ys:=[]) (t':=s2.toks) .nil (q1e _)
 have hacc:H2 s2.heap.objs.size=none:=I2.fresh
 obtain⟨W,⟨m0,w0⟩,turn⟩:=q s2.heap.objs.size hacc
 have hpush:(s2.heap.push { cls:=.type "list",dict:=none,data:=.seq ([]:U5).toArray }).objs.size=s2.heap.objs.size+1:=q2h ..
 have hlt:∀ b∈fp,b<s2.heap.objs.size:=λb hb=>by
  obtain⟨o,e,_⟩:=T.obj _ _ st2 b hb
  exact q0h e
 have f3:∀ b∈fp,FpOk X pins (upd H2 s2.heap.objs.size (.lst [])) b:=λb hb=>⟨by rw[Z1d (q0w (hlt b hb))];exact(f2 b hb).1,(f2 b hb).2⟩
 have I3':Inv X pins σ (upd H2 s2.heap.objs.size (.lst [])) (Z0t s2):=I3
 have hsz:(Z0t s2).heap.objs.size=s2.heap.objs.size+1:=hpush
 have hlt3:∀ b∈fp,b<(Z0t s2).heap.objs.size:=λb hb=>by rw[hsz];exact q3r (hlt b hb)
 have k3:∀ b o,(Z0t s2).heap.get? b=some o->h₁.get? b=some o:=λb o e=>hsb₁.extBut b o (q0w (q0h e)) (q0g _ e)
 have Ic:=Y3t (tk:=(Z0t s2).toks) I3' S f3 hlt3 hns₁ k3
 have st3:tn 0 h₁:=T.keep _ _ _ st2 λb hb o e=>k3 b o (q0g _ e)
 have cC:X.s₀.heap.objs.size<=(Z0t s2).heap.objs.size:=I3'.sz
 have cL:(Z0t s2).heap.objs.size≠X.env.locals:=q4g I3'.lt
 have cc:∀ x c,X.env.cells.lookup x=some c->c≠(Z0t s2).heap.objs.size:=λx c e=>by
  obtain⟨v,o,ho,_⟩:=I3'.cell x c e
  exact q0w (q0h ho)
 have cp:∀ p∈X.pn++pins,p.1≠(Z0t s2).heap.objs.size:=λp hp=>q0w (q0h (I3'.pin p hp).1)
 have stat:∀ {H':Hp},(∀ b∈fp,H' b=none)->∀ b∈fp,FpOk (cxLc X scope Nc fp pins (Z0t s2) (upd H2 s2.heap.objs.size (.lst []))) [] H' b:=λhn b hb =>
  ⟨hn b hb,q0w (hlt3 b hb),λz=>by
   rcases q0p.mp (I3'.stkSub b z) with e | e
   ·exact(f3 b hb).2.1 e
   ·exact(f3 b hb).2.2.1 e,.inl hb,λx c e=>(f3 b hb).2.2.2.2.1 x c (Z5z I3' S e),λp hp=>(f3 b hb).2.2.2.2.2 p (by
    have:p∈(X.pn++pins)++[]:=hp
    simpa using this)⟩
 have loop:∀ s4:Shared,s4={ (Z0t s2) with heap:=h₁,toks:=(Z0t s2).toks } →
   codeAny (model X.prog X.w) X.A (.compLoop (.ListComp elt [⟨tg,iter,[cond],0⟩] scope pos) 0 (.ref it) (.ref s2.heap.objs.size) (cxLc X scope Nc fp pins (Z0t s2) (upd H2 s2.heap.objs.size (.lst []))).env)
    (RR (.ref s2.heap.objs.size) (Z0t s2).heap.objs.size) s4:=by
  rintro s4 rfl
  refine Z7m (λn s'=>∃ i ys σ' H',Inv (cxLc X scope Nc fp pins (Z0t s2) (upd H2 s2.heap.objs.size (.lst []))) [] σ' H' s'/\tn i s'.heap/\(∀ b∈fp,H' b=none)/\W i n ys σ' H') ?_ m0
   ⟨0,[],sub mp σ,_,Ic,st3,λb hb=>(f3 b hb).1,w0⟩
  rintro n s5 ⟨i,ys,σ5,H5,I5,st5,fr5,w5⟩
  rcases turn i n ys σ5 H5 w5 with ⟨stop,qn⟩ | ⟨go,step⟩
  ·refine q2a (T.done (cxLc X scope Nc fp pins (Z0t s2) (upd H2 s2.heap.objs.size (.lst []))) rfl rfl rfl hc i [] s5 σ5 H5 (λ_ _=>False) I5 (stat fr5) st5 stop) (λr s6 ⟨hr,I6⟩=>?_) λ_ _ f=>f.elim
   subst hr
   obtain⟨m6,hn6,_⟩:=I6.loc
   refine⟨λ_=>?_,λ_ z=>nomatch z⟩
   exact fin _ _ H5 s6 m6 qn (X3c I3' f3 I6) hn6 I6.free cC cL cc cp
  ·refine q2a (T.item (cxLc X scope Nc fp pins (Z0t s2) (upd H2 s2.heap.objs.size (.lst []))) rfl rfl rfl hc i [] s5 σ5 H5 (λ_ _=>False) I5 (stat fr5) st5 go) (λr s6 ⟨u,hr,h6⟩=>?_) λ_ _ f=>f.elim
   subst hr
   refine⟨(λz=>by cases z),?_⟩
   rintro _ ⟨⟩
   refine q2a h6 (λ_ s7 ⟨x,H7,I7,r7,y7,st7,fr7⟩=>?_) λ_ _ f=>f.elim
   have I7':=I7.pinned (stat fr7) (T.obj _ _ st7)
   refine q2a (hg _ _ _ _ _ s7 σ5 H7 x u _ I7' r7 (step x H7 y7)) (λ_ s8 ⟨σ8,H8,I8,q8⟩=>?_) λ_ _ f=>f.elim
   refine q2a (ht _ _ _ _ _ s8 σ8 H8 _ I8 q8) (λbb s9 ⟨H9,I9,p9,n9⟩=>?_) λ_ _ f=>f.elim
   have keeps:∀ {H':Hp}{s':U7},Inv (cxLc X scope Nc fp pins (Z0t s2) (upd H2 s2.heap.objs.size (.lst []))) ([]++pinsAt fp s7.heap) σ8 H' s'->tn (i+1) s'.heap/\∀ b∈fp,H' b=none:=λ{H' s'} J' =>
    ⟨T.keep _ _ _ st7 λb hb o e=>(J'.pin (b,o) (q1g _ (q1g _ (Z2s hb e)))).1,λb hb=>by
     obtain⟨o,e,d⟩:=T.obj _ _ st7 b hb
     exact(J'.pin (b,o) (q1g _ (q1g _ (Z2s hb e)))).2.1⟩
   cases bb with
   | false =>
    obtain⟨m',hm',w9⟩:=n9 rfl
    rw[if_neg q0q]
    exact⟨m',hm',i+1,ys,σ8,H9,I9.unpinned,(keeps I9).1,(keeps I9).2,w9⟩
   | true =>
    rw[if_pos rfl]
    refine q2a (he _ _ _ _ _ s9 σ8 H9 _ I9 (p9 rfl)) (λv s10 ⟨y,H10,I10,r10,a10,l10,m',hm',w10⟩=>?_) λ_ _ f=>f.elim
    refine q2a (Z2j (X:=cxLc X scope Nc fp pins (Z0t s2) (upd H2 s2.heap.objs.size (.lst []))) _ s10 σ8 H10 (.ref s2.heap.objs.size) [y] (.ref s2.heap.objs.size) [v] (λz Hz=>z=.non/\Hz=upd H10 s2.heap.objs.size (.lst (ys++[y]))) I10 rfl (.cons r10 .nil) ⟨_,ys,y,Z,Z,a10,l10,Z,Z⟩) (λv11 s11 ⟨z,H11,I11,_,_,e11⟩=>?_) λ_ _ f=>f.elim
    subst e11
    exact⟨m',hm',i+1,ys++[y],σ8,_,I11.unpinned,(keeps I11).1,(keeps I11).2,w10⟩
 exact q7o (loop _ rfl) (T.self _ 0 _ _ _ st3 (loop _ rfl))
theorem X2q (hc:X.calm=true)(S:LcOk X.N X.env.scope scope Nc mp)(hi:PI X tg iter wi)(hg:∀ ex pins s H,PG (cxLc X scope Nc ex pins s H) tg g)(ht:∀ ex pins s H,PT (cxLc X scope Nc ex pins s H) cond tc)(he:∀ ex pins s H,PE (cxLc X scope Nc ex pins s H) elt te)
  (hf:∀ x,foldedSetIterable iter X.env x=pure x:=by intro _;rfl):PE X (.ListComp elt [⟨tg,iter,[cond],0⟩] scope pos) (tLcF mp wi g tc te):=by
 intro pins s σ H Q I h
 rw[eval_ListComp]
 refine q4x (use:=none) rfl hf (Z5r (Z6l I S)) S.kind S.names (thn (hi pins s σ H _ I h) λv s1 h1=>thn h1 λitv s2 h2=>?_)
 obtain⟨it,fp,tn,J,H2,e,I2,T,st2,f2,q⟩:=h2
 subst e
 refine X6k (RR:=λacc C=>compPost (model X.prog X.w) X.A X.xe none (EP X pins σ Q) acc C) hc S hg ht he I2 T st2 f2 q ?_
 intro acc C H' s' m' qq I' hn hC c1 c2 c3 c4
 refine⟨m',hn,λh' hs=>⟨.ref acc,H',?_,Z,qq⟩⟩
 exact I'.turnedNew (t':=s'.toks) (λb o hb e=>hs.extBut b o hb e) hC c1 c2 c3 c4
end
def tTruI (t:TE):TT:=λσ H Q=>t σ H λx H'=>∃ i,x=.int i/\Q (i != 0) H'
theorem Z2l {X:Cx}{a:Expr}{ta:TE}(ha:PE X a ta)(he:∀ whole,isTrue a X.env whole=(do let v ← whole;standAt a.pos;holding [v] (truthy v))):PT X a (tTruI ta):=by
 intro pins s σ H Q I h
 refine isTrue_plain (thn (ha pins s σ H _ I h) λv s1 ⟨x,H1,I1,r1,i,e,q1⟩=>?_) (he _)
 subst e
 exact X7p pins s1 σ H1 (.int i) v Q I1 r1 ⟨_,Z,q1⟩
theorem Y0i {lo:Int}{n:Nat}{tc:TT}{te:TE}{fr:St}{H1:Hp}{acc:W9}{Q:VK}(Pv:Nat->List V->Hp->Prop)(hn:n<=sizeLine)(h0:Pv 0 [] (upd H1 acc (.lst [])))
  (hs:∀ i ys H (N:Bool->Hp->Prop),i<n->ys.length<=i->Pv i ys H->(∀ b H5,(b=true->te (some (.int (lo+i))::fr) H5 λy H6=>H6 acc=some (.lst ys)/\Pv (i+1) (ys++[y]) (upd H6 acc (.lst (ys++[y]))))->(b=false->Pv (i+1) ys H5)->N b H5)->tc (some (.int (lo+i))::fr) H N)
  (mono:∀ {σ H}{R R':VK},(∀ v H,R v H->R' v H)->te σ H R->te σ H R')
  (hd:∀ ys H,Pv n ys H->Q (.ref acc) H):LcWF (Itr lo n) (gName 0) tc te (none::fr) H1 acc Q:=by
 refine⟨λi m ys σ2 H2=>m=n-i/\i<=n/\ys.length<=i/\(∃ v,σ2=v::fr)/\Pv i ys H2,⟨n,by simp,q1e _,q0f _,⟨_,Z⟩,h0⟩,?_⟩
 rintro i m ys σ2 H2 ⟨rfl,hi,hl,⟨v,rfl⟩,p⟩
 by_cases hlt:i<n
 ·refine .inr ⟨hlt,λx H3 y3=>?_⟩
  obtain⟨rfl,rfl⟩:=y3
  show tc ((v::fr).set 0 (some (.int (lo+i)))) _ _
  rw[List.set_cons_zero]
  refine hs i ys _ _ hlt hl p λb H5 ht hf=>⟨λe=>mono (λy H6 q=>?_) (ht e),λe=>⟨n-(i+1),by omega,Z,hlt,by omega,⟨_,Z⟩,hf e⟩⟩
  exact⟨q.1,by omega,n-(i+1),by omega,Z,hlt,by rw[q0c];simp;omega,⟨_,Z⟩,q.2⟩
 ·have e:i=n:=by omega
  subst e
  exact .inl ⟨q0f _,hd ys H2 p⟩
end L2
namespace K75
open L2 Am Pc Ba
theorem Z4j {X:Cx}{st:Stmt}:PS X st (λ_ _ _=>False):=λ_ _ _ _ _ _ h=>h.elim
theorem Z9l {ns:U6}(h:ns.Nodup):unlike ns=ns.length:=by
 have key:∀ i,i<=ns.length->(firstMet (λi=>ns.getD i 0) i).length=i:=by
  intro i
  induction i with
  | zero=>intro _;rfl
  | succ i ih =>
   intro hi
   rw[firstMet_succ,step_length,firstMet_any,if_neg,ih (by omega)]
   intro z
   obtain⟨y,hy,e⟩:=q5z.mp z
   obtain⟨j,hj,rfl⟩:=q2e.mp hy
   have hj:=q0s.mp hj
   have e:ns.getD j 0=ns.getD i 0:=by simpa using e
   rw[q1b,q1b,q0d (by omega),q0d (by omega)] at e
   have:=(List.getElem_inj h).mp e
   omega
 exact key _ (q0f _)
noncomputable abbrev NB:List (Str × Int):=[("flip",1),("mix",1),("turn",2),("if",2),("pair",2),("swap",2),("cross",3)]
noncomputable abbrev MvT (nm:Str)(ns:U6):HO:=.tup (.str nm::ns.map V.int)
noncomputable def named (nm:Str)(ns:U6):List Int:=if nm="turn" then ns.take 1 else ns
structure Form (nm:Str) (ns:U6):Prop where
 num:numAt NB nm=some (.int ns.length)
 len:ns.length<=3
 turn:nm="turn"->∃ a k,ns=[a,k]/\1<=k/\k<=7
structure Fits (nm:Str) (ns:U6) (c:Nat):Prop where
 form:Form nm ns
 low:∀ a∈named nm ns,0<=a/\a<c
 nd:(named nm ns).Nodup
def Z9r:Sp:=λvs H Q _=>∃ (p:W9) (nm:Str) (ns:U6),vs=[.ref p]/\H p=some (MvT nm ns)/\Form nm ns/\∀ H',Same H H'->Q (.bl true) H'
def Z5j:Sp:=λvs H Q _=>∃ (p:W9) (nm:Str) (ns:U6),vs=[.ref p]/\H p=some (MvT nm ns)/\Form nm ns/\∀ (r:W9) (H':Hp),Same H H'->H' r=some (.tup ((named nm ns).map V.int))->Q (.ref r) H'
def Y5z:Sp:=λvs H Q _=>∃ (p:W9) (nm:Str) (ns:U6) (c:Nat),vs=[.ref p,.int c]/\H p=some (MvT nm ns)/\Fits nm ns c/\∀ H',Same H H'->Q (.ref p) H'
def Z9s (K:U0):Sp:=λvs H Q _=>∃ (l:W9) (xs:List V) (c:Nat),vs=[.ref l]/\SqL K H l xs/\xs.length=2^c/\c<=6/\Q (.int c) H
theorem Z9f {c:Nat}(h:c<=6):Builtin.Int.intBits (((2^c:Nat):Int))=c+1:=by
 have:c=0∨c=1∨c=2∨c=3∨c=4∨c=5∨c=6:=by omega
 rcases this with rfl | rfl | rfl | rfl | rfl | rfl | rfl<;>decide +kernel
theorem at0 {x:V}{xs:List V}:atI (x::xs) 0=some x:=Z1e (show (x::xs)[0]?=some x from rfl)
theorem Z4o {x:V}{xs:List V}:HT.sIx (x::xs).length 0 (some 1)=1:=by
 have:=HT.Z2t (x::xs).length 0 1
 rw[show ((1:Nat):Int)=1 from rfl] at this
 rw[this]
 simp
theorem Z5q {x:V}{xs:List V}:cutV (x::xs) (some 1) none=xs:=by
 unfold cutV
 rw[Z4o]
 have e2:HT.sIx (x::xs).length (x::xs).length none=(x::xs).length:=rfl
 rw[e2]
 simp
theorem X9k (K:U0):PySem.W.kitOne K (.type "str") (.type "str")=some true:=by unfold PySem.W.kitOne;rw[if_pos (by decide)]
section
variable {P:U8}{w:W1}{K:U0}{mg:U4}{base:Heap}{k:Nat}{h:Heap}
theorem sc_iswhole:FnScope ["thing"] ["thing"] (Z0h (top 7)):=fS
theorem Y4y (F:FunAt K "is_whole" (top 7) .none)(X:K.In h)(G:Ng h mg)(B:Bs mg):Cal P w K mg base (k+1) "is_whole" ["thing"] Z5i:=by
 have nd:=sc_iswhole.nd
 refine F.cal X G sc_iswhole (bnd1 λ_ _ _ _ _ _ _=>rfl) (λvs H Q E h=>?_) (λf cdv A outer s H vs Q E hr h=>?_)
 ·obtain⟨i,rfl,_⟩:=h;rfl
 obtain⟨i,rfl,q⟩:=h
 refine⟨_,(@Z0f _ _ _ (Z0j (Z3v (Z0q Z2g rfl B.isinstance q2v (Z0a (pv 0) (Z0a (Z3s (v:=.ty "int") rfl B.int boot_int rfl) Z0e))) (Z2z (Y6t (Z0q Z2g rfl B.isinstance q2v (Z0a (pv 0) (Z0a (Z3s (v:=.ty "bool") rfl B.bool boot_bool rfl) Z0e)))))))),?_⟩
 try dsimp only[cxK]
 refine⟨_,Z,_,_,_,true,Z,TyOf.int i,X3d K,_,Z,iteT ?_⟩
 exact⟨_,Z,_,_,_,false,Z,TyOf.int i,X3e K,_,Z,q⟩
theorem sc_cellsof:FnScope ["board"] ["board"] (Z0h (top 26)):=fS
theorem Y4z (F:FunAt K "cells_of" (top 26) .none)(X:K.In h)(G:Ng h mg)(B:Bs mg):Cal P w K mg base (k+1) "cells_of" ["board"] (Z9s K):=by
 have nd:=sc_cellsof.nd
 refine F.cal X G sc_cellsof (bnd1 λ_ _ _ _ _ _ _=>rfl) (λvs H Q E h=>?_) (λf cdv A outer s H vs Q E hr h=>?_)
 ·obtain⟨l,xs,c,rfl,_⟩:=h;rfl
 obtain⟨l,xs,c,rfl,hl,len,c6,q⟩:=h
 refine⟨_,(@Z0f _ _ _ (Z0j (Z0i Z2k (Y3f q4a q2m q3d Z5b (Z0q Z0u rfl B.len q1m (Z0a (pv 0) Z0e))) Z0b))),?_⟩
 try dsimp only[cxK]
 refine⟨_,Z,l,_,Z,.inl hl,Z,_,Z,Z,_,_,Z,Z,?_⟩
 show Q (.int (((Builtin.Int.intBits ((xs.length:Nat):Int):Nat):Int)-1)) H
 rw[len,Z9f c6,show (((c+1:Nat):Int)-1)=(c:Int) by omega]
 exact q
theorem sc_named:FnScope ["move"] ["move"] (Z0h (top 31)):=fS
theorem ok_named (F:FunAt K "named_cells" (top 31) .none)(X:K.In h)(G:Ng h mg)(B:Bs mg):Cal P w K mg base (k+1) "named_cells" ["move"] Z5j:=by
 have nd:=sc_named.nd
 refine F.cal X G sc_named (bnd1 λ_ _ _ _ _ _ _=>rfl) (λvs H Q E h=>?_) (λf cdv A outer s H vs Q E hr h=>?_)
 ·obtain⟨p,nm,ns,rfl,_⟩:=h;rfl
 obtain⟨p,nm,ns,rfl,hp,FO,kq⟩:=h
 have SP:SqT K H p (.str nm::ns.map V.int):=SqT.of hp
 refine⟨_,(@Z0f _ _ _ (Z0j (Z1v (Z0n Z1o (Z0m Z0l (pv 0) Z0b (λ_ _=>rfl)) Z0x (nomark _)) (Z1l Z3o (pv 0) (Z1f Z0b) (Z1f Z0b)) (Z1l Z3o (pv 0) (Z1f Z0b) Z2e)))),?_⟩
 try dsimp only[cxK]
 refine⟨_,Z,p,_,_,.str nm,Z,Z,SP,at0,Z,_,Z,decI (λz=>?_) (λz=>?_)⟩
 ·have e:nm="turn":=V.str.inj z
  obtain⟨a,kk,rfl,_⟩:=FO.turn e
  refine⟨_,Z,_,Z,_,Z,p,_,Z,SP,.inr ⟨λc=>absurd c.1 (by rw[Z4o];decide),λr hr=>kq r _ (Z0c hr _) ?_⟩⟩
  rw[Z0d]
  unfold named
  rw[if_pos e]
  rfl
 ·have e:nm≠"turn":=λc=>z (by rw[c])
  refine⟨_,Z,_,Z,p,_,Z,SP,.inr ⟨λc=>absurd c.1 (by rw[Z4o];decide),λr hr=>kq r _ (Z0c hr _) ?_⟩⟩
  rw[Z0d,Z5q]
  unfold named
  rw[if_neg e]
theorem sc_form:FnScope ["thing"] ["thing"] (Z0h (top 30)):=fS
theorem X5m (F:FunAt K "has_move_form" (top 30) .none)(X:K.In h)(G:Ng h mg)(B:Bs mg){aN:W9}(gN:mg "NUMBERS_BEHIND"=some (.ref aN))(DN:KDic K w.params aN NB)(cD:Cal P w K mg base k "is_whole" ["thing"] Z5i) :
  Cal P w K mg base (k+1) "has_move_form" ["thing"] Z9r:=by
 have nd:=sc_form.nd
 refine F.cal X G sc_form (bnd1 λ_ _ _ _ _ _ _=>rfl) (λvs H Q E h=>?_) (λf cdv A outer s H vs Q E hr h=>?_)
 ·obtain⟨p,nm,ns,rfl,_⟩:=h;rfl
 obtain⟨p,nm,ns,rfl,hp,FO,kq⟩:=h
 have SP:SqT K H p (.str nm::ns.map V.int):=SqT.of hp
 have l3:=FO.len
 have lm:(V.str nm::ns.map V.int).length=ns.length+1:=by rw[q1r,q0a]
 refine⟨_,(@Z0g _ _ _ _ _ (Z0y (PW.pt (Z7l (Z2v (Z2b (Z0q Z2g rfl B.isinstance q2v (Z0a (pv 0) (Z0a (Z3s (v:=.ty "tuple") rfl B.tuple boot_tuple rfl) Z0e))))) (Z5v (Z0n Z1o (Z0q Z0u rfl B.len q1m (Z0a (pv 0) Z0e)) Z0b (nomark _)))))
   (@Z0f _ _ _ (Z0j Z5l))
   Z0p)
  (@Z0g _ _ _ _ _ (Z0y (PW.pt (Z7l (Z2v (Z2b (Z0q Z2g rfl B.isinstance q2v (Z0a (Z0m Z0l (pv 0) Z0b (λ_ _=>rfl)) (Z0a (Z3s (v:=.ty "str") rfl B.str boot_str rfl) Z0e))))) (Z5v (X7y (Y6u DN (Z0m Z0l (pv 0) Z0b (λ_ _=>rfl)) (Y1j (v:=.ref aN) rfl gN rfl))))))
   (@Z0f _ _ _ (Z0j Z5l))
   Z0p)
  (@Z0g _ _ _ _ _ (Z0y (Z0n Z5a (Z0q Z0u rfl B.len q1m (Z0a (pv 0) Z0e)) (Z0i Z1b Z0b (X4q DN (Y1j (v:=.ref aN) rfl gN rfl) (Z0m Z0l (pv 0) Z0b (λ_ _=>rfl)) (λ_ _=>rfl))) (nomark _))
   (@Z0f _ _ _ (Z0j Z5l))
   Z0p)
  (@Z0g _ _ _ _ _ (Z0y (Z2v (Z2b (Z0q (Z3k rfl) rfl B.all q8i (Z0a (Z4l rfl (LcOk.of (Nc:=["number"]) (mp:=[none]) (by kernel_rfl)) (Y3d (Z1l Z3o (pv 0) (Z1f Z0b) Z2e)) (λ_ _ _ _=>(Z0w (i:=0) (show (["number"]:W0).Nodup by decide +kernel) rfl (Or.inl rfl))) (λ_ _ _ _=>(Z0k cD hr rfl (Z0a (pv 0) Z0e)))) Z0e))))
   (@Z0f _ _ _ (Z0j Z5l))
   Z0p)
  (@Z0f _ _ _ (Z0j (X4p (Z1q Z5a (Z0m Z0l (pv 0) Z0b (λ_ _=>rfl)) Z0x (nomark _)) (Z2z (Z3v (Z1q X4y (Z0m Z0l (pv 0) Z0b (λ_ _=>rfl)) Z0b (nomark _)) (Z2z (Z1q X8g (Z0m Z0l (pv 0) Z0b (λ_ _=>rfl)) Z0b (nomark _)))))))))))),?_⟩
 try dsimp only[cxK]
 refine⟨_,Z,_,_,_,true,Z,TyOf.tup hp,Y7y K,_,Z,iteF ⟨_,Z,p,_,Z,.inr SP,Z,_,Z,eqI (λz=>absurd z (by rw[lm];omega)) (λ_=>?_)⟩⟩
 refine⟨_,Z,p,_,_,.str nm,Z,Z,SP,at0,_,_,_,true,Z,TyOf.str nm,X9k K,_,Z,iteF ⟨_,Z,p,_,_,.str nm,Z,Z,SP,at0,nm,Z,_,Z,?_⟩⟩
 rw[FO.num]
 refine iteF ⟨_,Z,p,_,Z,.inr SP,_,Z,p,_,_,.str nm,Z,Z,SP,at0,nm,_,Z,FO.num,_,_,Z,Z,Z,_,Z,neI (λz=>absurd (by rw[lm];omega) z) (λ_=>?_)⟩
 refine⟨_,Z,_,Z,p,_,Z,SP,.inr ⟨λc=>absurd c.1 (by rw[Z4o];decide),λr hr=>?_⟩⟩
 rw[Z5q]
 have s1:=Z0c hr (.tup (ns.map V.int))
 refine⟨r,Z,⟨_,SqT.of Z0d⟩,λacc hacc=>?_⟩
 refine Y1w (K:=K) (λ_=>.bl true) (SqT.of Z0d) (t64 (by omega)) hacc (λn H2 N hn S2 kN=>⟨_,Z,n,Z,kN⟩) (λH3 S3 a3=>?_)
 have e:ns.map (λ_=>V.bl true)=(ns.map λ_=>true).map V.bl:=by rw[q3v];rfl
 rw[e] at a3
 have S03:=s1.trans S3
 have SP3:SqT K H3 p (.str nm::ns.map V.int):=SqT.of (S03 _ _ hp)
 refine⟨acc,_,Z,SqL.of a3,_,Z,nblI (λz=>absurd z (by simp)) (λ_=>?_)⟩
 refine⟨_,Z,p,_,_,.str nm,Z,Z,SP3,at0,Z,_,Z,nblI (λ_=>kq _ S03) (λz=>?_)⟩
 obtain⟨a,kk,rfl,k1,k7⟩:=FO.turn (V.str.inj (q1p z))
 refine⟨_,Z,p,_,_,.int kk,Z,Z,SP3,Z,_,_,Z,Z,_,Z,decI (λ_=>?_) (λz=>absurd k1 z)⟩
 refine⟨_,Z,p,_,_,.int kk,Z,Z,SP3,Z,_,_,Z,Z,?_⟩
 show Q (.bl (decide (kk<=7))) H3
 rw[q0j k7]
 exact kq _ S03
theorem sc_check:FnScope ["move","cells","named"] ["move","cells"] (Z0h (top 29)):=fS
theorem X0z (F:FunAt K "check_move" (top 29) .none)(X:K.In h)(G:Ng h mg)(B:Bs mg)(cZ:Cal P w K mg base k "has_move_form" ["thing"] Z9r)(c8:Cal P w K mg base k "named_cells" ["move"] Z5j) :
  Cal P w K mg base (k+1) "check_move" ["move","cells"] Y5z:=by
 have nd:=sc_check.nd
 refine F.cal X G sc_check (bnd2 λ_ _ _ _ _ _ _ _=>rfl) (λvs H Q E h=>?_) (λf cdv A outer s H vs Q E hr h=>?_)
 ·obtain⟨p,nm,ns,c,rfl,_⟩:=h;rfl
 obtain⟨p,nm,ns,c,rfl,hp,FI,kq⟩:=h
 have l3:(named nm ns).length<=3:=by
  have:=FI.form.len
  unfold named
  split
  ·rw[q1q];omega
  ·exact this
 refine⟨_,(@Z0g _ _ _ _ _ (Z0y (Z2v (Z2b (Z0k cZ hr rfl (Z0a (pv 0) Z0e))))
   (@Z0f _ _ _ Z4j)
   Z0p)
  (@Z0g _ _ _ _ _ (@Z0o _ _ 2 _ _ _ _ nd rfl (Or.inl rfl) (Z0k c8 hr rfl (Z0a (pv 0) Z0e)) rfl (.inl rfl))
  (@Z0g _ _ _ _ _ (Z0y (Z2b (Z0q (Y0u rfl) rfl B.any boot_any (Z0a (Z4l rfl (LcOk.of (Nc:=["cell","cells"]) (mp:=[none,some 1]) (by kernel_rfl)) (Y3d (pv 2)) (λ_ _ _ _=>(Z0w (i:=0) (show (["cell","cells"]:W0).Nodup by decide +kernel) rfl (Or.inl rfl))) (λ_ _ _ _=>(X4p (Z1q Y4t (pv 0) Z0b (nomark _)) (Z2z (Z1q X4y (pv 0) (pv 1) (nomark _)))))) Z0e)))
   (@Z0f _ _ _ Z4j)
   Z0p)
  (@Z0g _ _ _ _ _ (Z0y (Z0n Z5a (Z0q Y9e rfl B.len q1m (Z0a (Z4d (Y9c rfl) rfl B.set boot_set (Z0a (pv 2) Z0e)) Z0e)) (Z0q Z0u rfl B.len q1m (Z0a (pv 2) Z0e)) (nomark _))
   (@Z0f _ _ _ Z4j)
   Z0p)
  (@Z0f _ _ _ (Z0j (pv 0))))))),?_⟩
 try dsimp only[cxK]
 refine⟨_,Z,p,nm,ns,Z,hp,FI.form,λH1 S1=>⟨_,Z,iteF ?_⟩⟩
 refine⟨_,Z,p,nm,ns,Z,S1 _ _ hp,FI.form,λr H2 S2 hr=>?_⟩
 have SR:SqT K H2 r ((named nm ns).map V.int):=SqT.of hr
 refine⟨_,Z,r,Z,⟨_,SR⟩,λacc hacc=>?_⟩
 refine Y1w (K:=K) (λ_=>.bl false) SR (t64 (by omega)) hacc (λn H2 N hn S2 kN=>?_) (λH3 S3 a3=>?_)
 ·obtain⟨n0,nc⟩:=FI.low n hn
  refine⟨_,Z,_,_,Z,Z,_,Z,decI (λz=>absurd z (by omega)) (λ_=>?_)⟩
  refine⟨_,Z,_,Z,_,_,Z,Z,?_⟩
  show N (.bl (decide ((c:Int)<=n))) _
  rw[q0e (by omega)]
  exact kN
 have e:(named nm ns).map (λ_=>V.bl false)=((named nm ns).map λ_=>false).map V.bl:=by rw[q3v];rfl
 rw[e] at a3
 refine⟨acc,_,Z,SqL.of a3,_,Z,?_⟩
 rw[show ((named nm ns).map λ_=>false).any id=false by simp]
 refine iteF ?_
 refine⟨_,Z,r,_,Z,S3.tup SR,by omega,λl S hl=>?_⟩
 have s4:=Z0c hl (.set S (unlike (named nm ns)))
 have un:=Z9l FI.nd
 refine⟨l,S,_,Z,Z0d,by omega,_,Z,r,_,Z,.inr (s4.tup (S3.tup SR)),Z,_,Z,neI (λz=>absurd (by rw[un,q0a]) z) (λ_=>?_)⟩
 exact⟨_,Z,kq _ (((S1.trans S2).trans S3).trans s4)⟩
end
inductive Mv where
 | flip (a:Nat)
 | turn (a k:Nat)
 | iff (a b:Nat)
 | pair (a b:Nat)
 | swap (a b:Nat)
 | cross (a b d:Nat)
noncomputable def exch (w a b:Nat):Nat:=if w&&&(2^a ||| 2^b)=2^a∨w&&&(2^a ||| 2^b)=2^b then w^^^(2^a ||| 2^b) else w
namespace Mv
noncomputable def nm:Mv->Str
 | flip _=>"flip"
 | turn _ _=>"turn"
 | iff _ _=>"if"
 | pair _ _=>"pair"
 | swap _ _=>"swap"
 | cross _ _ _=>"cross"
noncomputable def ns:Mv->List Int
 | flip a=>[(a:Int)]
 | turn a k=>[(a:Int),(k:Int)]
 | iff a b=>[(a:Int),(b:Int)]
 | pair a b=>[(a:Int),(b:Int)]
 | swap a b=>[(a:Int),(b:Int)]
 | cross a b d=>[(a:Int),(b:Int),(d:Int)]
def Ok (c:Nat):Mv->Prop
 | flip a=>a<c
 | turn a k=>a<c/\1<=k/\k<=7
 | iff a b=>a<c/\b<c/\a≠b
 | pair a b=>a<c/\b<c/\a≠b
 | swap a b=>a<c/\b<c/\a≠b
 | cross a b d=>a<c/\b<c/\d<c/\a≠b/\a≠d/\b≠d
noncomputable def to (w:Nat):Mv->Nat
 | flip a=>w^^^2^a
 | iff a b=>if w&&&2^a=0 then w else w^^^2^b
 | swap a b=>exch w a b
 | cross a b d=>if w&&&2^a=0 then w else exch w b d
 | _=>w
noncomputable def sp (w:Nat):Mv->Nat
 | turn a k=>if w&&&2^a=2^a then k else 0
 | pair a b=>if w&&&(2^a ||| 2^b)=(2^a ||| 2^b) then 4 else 0
 | _=>0
end Mv
noncomputable abbrev at2 (w a:Nat):Nat:=w / 2^a%2
noncomputable def c1 (c a w:Nat):Bool:=decide ((Mv.flip a).to w<2^c) && decide ((Mv.flip a).to ((Mv.flip a).to w)=w) && decide ((w:Int)+(1-2*(at2 w a:Int))*((2^a:Nat):Int)=((Mv.flip a).to w:Nat)) &&
 decide ((if w&&&2^a=2^a then 1 else 0)=at2 w a)
noncomputable def c2 (c a b w:Nat):Bool:=decide (a=b) || (decide ((Mv.iff a b).to w<2^c) && decide ((Mv.iff a b).to ((Mv.iff a b).to w)=w) && decide ((w:Int)+(at2 w a:Int)*(1-2*(at2 w b:Int))*((2^b:Nat):Int)=((Mv.iff a b).to w:Nat)) &&
 decide ((Mv.swap a b).to w<2^c) && decide ((Mv.swap a b).to ((Mv.swap a b).to w)=w) && decide ((w:Int)+((at2 w b:Int)-(at2 w a:Int))*(((2^a:Nat):Int)-((2^b:Nat):Int))=((Mv.swap a b).to w:Nat)) &&
 decide (4*at2 w a*at2 w b=(Mv.pair a b).sp w))
noncomputable def c3 (c a b d w:Nat):Bool:=decide (a=b) || decide (a=d) || decide (b=d) || (decide ((Mv.cross a b d).to w<2^c) && decide ((Mv.cross a b d).to ((Mv.cross a b d).to w)=w) &&
 decide ((w:Int)+(at2 w a:Int)*((at2 w d:Int)-(at2 w b:Int))*(((2^b:Nat):Int)-((2^d:Nat):Int))=((Mv.cross a b d).to w:Nat)))
theorem W0m:((List.range 7).all λc=>(List.range c).all λa=>(List.range (2^c)).all λw=>c1 c a w)=true:=by decide +kernel
theorem W0l:((List.range 7).all λc=>(List.range c).all λa=>(List.range c).all λb=>(List.range (2^c)).all λw=>c2 c a b w)=true:=by decide +kernel
theorem W0k:((List.range 7).all λc=>(List.range c).all λa=>(List.range c).all λb=>(List.range c).all λd=>(List.range (2^c)).all λw=>c3 c a b d w)=true:=by decide +kernel
theorem get1 {p:Nat->Bool}{n i:Nat}(h:(List.range n).all p=true)(hi:i<n):p i=true:=q1c.mp h i (q0s.mpr hi)
section
variable {c a b d w:Nat}
theorem W2n (hc:c<=6)(ha:a<c)(hw:w<2^c):c1 c a w=true:=get1 (get1 (get1 W0m (by omega:c<7)) ha) hw
theorem W2m (hc:c<=6)(ha:a<c)(hb:b<c)(hw:w<2^c):c2 c a b w=true:=get1 (get1 (get1 (get1 W0l (by omega:c<7)) ha) hb) hw
theorem W2l (hc:c<=6)(ha:a<c)(hb:b<c)(hd:d<c)(hw:w<2^c):c3 c a b d w=true:=get1 (get1 (get1 (get1 (get1 W0k (by omega:c<7)) ha) hb) hd) hw
theorem X3j (hc:c<=6)(ha:a<c)(hw:w<2^c):(Mv.flip a).to w<2^c/\(Mv.flip a).to ((Mv.flip a).to w)=w/\(w:Int)+(1-2*(at2 w a:Int))*((2^a:Nat):Int)=((Mv.flip a).to w:Nat)/\(if w&&&2^a=2^a then 1 else 0)=at2 w a:=by
 have:=W2n hc ha hw
 unfold c1 at this
 simp only[q0m,q1a] at this
 exact⟨this.1.1.1,this.1.1.2,this.1.2,this.2⟩
theorem X1w (hc:c<=6)(ha:a<c)(hb:b<c)(n:a≠b)(hw:w<2^c):((Mv.iff a b).to w<2^c/\(Mv.iff a b).to ((Mv.iff a b).to w)=w/\(w:Int)+(at2 w a:Int)*(1-2*(at2 w b:Int))*((2^b:Nat):Int)=((Mv.iff a b).to w:Nat)) ∧
  ((Mv.swap a b).to w<2^c/\(Mv.swap a b).to ((Mv.swap a b).to w)=w/\(w:Int)+((at2 w b:Int)-(at2 w a:Int))*(((2^a:Nat):Int)-((2^b:Nat):Int))=((Mv.swap a b).to w:Nat))/\4*at2 w a*at2 w b=(Mv.pair a b).sp w:=by
 have:=W2m hc ha hb hw
 unfold c2 at this
 rw[q0e n,q6f] at this
 simp only[q0m,q1a] at this
 obtain⟨⟨⟨⟨⟨⟨h1,h2⟩,h3⟩,h4⟩,h5⟩,h6⟩,h7⟩:=this
 exact⟨⟨h1,h2,h3⟩,⟨h4,h5,h6⟩,h7⟩
theorem Y8s (hc:c<=6)(ha:a<c)(hb:b<c)(hd:d<c)(n1:a≠b)(n2:a≠d)(n3:b≠d)(hw:w<2^c):(Mv.cross a b d).to w<2^c/\(Mv.cross a b d).to ((Mv.cross a b d).to w)=w ∧
  (w:Int)+(at2 w a:Int)*((at2 w d:Int)-(at2 w b:Int))*(((2^b:Nat):Int)-((2^d:Nat):Int))=((Mv.cross a b d).to w:Nat):=by
 have:=W2l hc ha hb hd hw
 unfold c3 at this
 rw[q0e n1,q0e n2,q0e n3,q6f,q6f,q6f] at this
 simp only[q0m,q1a] at this
 exact⟨this.1.1,this.1.2,this.2⟩
end
theorem Mv.to_lt {v:Mv}{c w:Nat}(hc:c<=6)(h:v.Ok c)(hw:w<2^c):v.to w<2^c:=by
 cases v with
 | flip a=>exact(X3j hc h hw).1
 | turn a k=>exact hw
 | iff a b=>exact(X1w hc h.1 h.2.1 h.2.2 hw).1.1
 | pair a b=>exact hw
 | swap a b=>exact(X1w hc h.1 h.2.1 h.2.2 hw).2.1.1
 | cross a b d=>exact(Y8s hc h.1 h.2.1 h.2.2.1 h.2.2.2.1 h.2.2.2.2.1 h.2.2.2.2.2 hw).1
theorem Mv.Y1b {v:Mv}{c w:Nat}(hc:c<=6)(h:v.Ok c)(hw:w<2^c):v.to (v.to w)=w:=by
 cases v with
 | flip a=>exact(X3j hc h hw).2.1
 | turn a k=>rfl
 | iff a b=>exact(X1w hc h.1 h.2.1 h.2.2 hw).1.2.1
 | pair a b=>rfl
 | swap a b=>exact(X1w hc h.1 h.2.1 h.2.2 hw).2.1.2.1
 | cross a b d=>exact(Y8s hc h.1 h.2.1 h.2.2.1 h.2.2.2.1 h.2.2.2.2.1 h.2.2.2.2.2 hw).2.1
theorem Mv.fits {v:Mv}{c:Nat}(h:v.Ok c):Fits v.nm v.ns c:=by
 cases v with
 | flip a =>
  have e:named "flip" [(a:Int)]=[(a:Int)]:=by unfold named;rw[if_neg (by decide +kernel)]
  have h:a<c:=h
  exact⟨⟨(show numAt NB "flip"=some (.int ((1:Nat):Int)) by decide +kernel),(show 1<=3 by decide),λz=>absurd (show ("flip":Str)="turn" from z) (by decide +kernel)⟩,by show ∀ x∈named "flip" [(a:Int)],_;rw[e];intro b hb;rw[q0n.mp hb];omega,by show (named "flip" [(a:Int)]).Nodup;rw[e];simp⟩
 | turn a k =>
  have e:named "turn" [(a:Int),(k:Int)]=[(a:Int)]:=by unfold named;rw[if_pos rfl];rfl
  have h:a<c/\1<=k/\k<=7:=h
  exact⟨⟨(show numAt NB "turn"=some (.int ((2:Nat):Int)) by decide +kernel),(show 2<=3 by decide),λ_=>⟨a,k,Z,by omega,by omega⟩⟩,by show ∀ x∈named "turn" [(a:Int),(k:Int)],_;rw[e];intro b hb;rw[q0n.mp hb];omega,by show (named "turn" [(a:Int),(k:Int)]).Nodup;rw[e];simp⟩
 | iff a b =>
  have e:named "if" [(a:Int),(b:Int)]=[(a:Int),(b:Int)]:=by unfold named;rw[if_neg (by decide +kernel)]
  have h:a<c/\b<c/\a≠b:=h
  exact⟨⟨(show numAt NB "if"=some (.int ((2:Nat):Int)) by decide +kernel),(show 2<=3 by decide),λz=>absurd (show ("if":Str)="turn" from z) (by decide +kernel)⟩,by show ∀ x∈named "if" [(a:Int),(b:Int)],_;rw[e];intro x hx;simp at hx;omega,by show (named "if" [(a:Int),(b:Int)]).Nodup;rw[e];simp;omega⟩
 | pair a b =>
  have e:named "pair" [(a:Int),(b:Int)]=[(a:Int),(b:Int)]:=by unfold named;rw[if_neg (by decide +kernel)]
  have h:a<c/\b<c/\a≠b:=h
  exact⟨⟨(show numAt NB "pair"=some (.int ((2:Nat):Int)) by decide +kernel),(show 2<=3 by decide),λz=>absurd (show ("pair":Str)="turn" from z) (by decide +kernel)⟩,by show ∀ x∈named "pair" [(a:Int),(b:Int)],_;rw[e];intro x hx;simp at hx;omega,by show (named "pair" [(a:Int),(b:Int)]).Nodup;rw[e];simp;omega⟩
 | swap a b =>
  have e:named "swap" [(a:Int),(b:Int)]=[(a:Int),(b:Int)]:=by unfold named;rw[if_neg (by decide +kernel)]
  have h:a<c/\b<c/\a≠b:=h
  exact⟨⟨(show numAt NB "swap"=some (.int ((2:Nat):Int)) by decide +kernel),(show 2<=3 by decide),λz=>absurd (show ("swap":Str)="turn" from z) (by decide +kernel)⟩,by show ∀ x∈named "swap" [(a:Int),(b:Int)],_;rw[e];intro x hx;simp at hx;omega,by show (named "swap" [(a:Int),(b:Int)]).Nodup;rw[e];simp;omega⟩
 | cross a b d =>
  have e:named "cross" [(a:Int),(b:Int),(d:Int)]=[(a:Int),(b:Int),(d:Int)]:=by unfold named;rw[if_neg (by decide +kernel)]
  have h:a<c/\b<c/\d<c/\a≠b/\a≠d/\b≠d:=h
  exact⟨⟨(show numAt NB "cross"=some (.int ((3:Nat):Int)) by decide +kernel),(show 3<=3 by decide),λz=>absurd (show ("cross":Str)="turn" from z) (by decide +kernel)⟩,by show ∀ x∈named "cross" [(a:Int),(b:Int),(d:Int)],_;rw[e];intro x hx;simp at hx;omega,by show (named "cross" [(a:Int),(b:Int),(d:Int)]).Nodup;rw[e];simp;omega⟩
end K75
namespace L2
end L2
namespace Dk
open PySem.Sem (wp)
section
variable {prog:U8}{w:W1}{A:W6}{E:U2}{s:U7}{d it:W9}{es:Array DictEntry}{i ep:Nat}
end
end Dk
namespace L2
end L2
namespace L2
end L2
namespace L2
def Ite (K:U0)(l:W9):It :=
 ⟨λi H=>∃ xs x,SqL K H l xs/\xs[i]?=some x,
 λi H v H'=>∃ T x,v=.ref T/\H T=none/\H'=upd H T (.tup [.int i,x])/\∀ xs,SqL K H l xs->xs[i]?=some x,
 λi H=>∃ xs,SqL K H l xs/\xs.length<=i⟩
theorem Y5m {P:U8}{w:W1}{K:U0}{es:List Expr}{kk:Nat}{tp:Pos}{e it l:W9}(ne:e≠it)(nl:l≠e) :
  Turn P w K (.Tuple es kk tp) (Ite K l) [e,it] e (λi h=>(∃ old,IsEnum h e it i old)/\h.IsListIter it l i) where
 mem:=by simp
 obj:=λi h st b hb=>by
  obtain⟨⟨old,a1⟩,o,a2,_,a3⟩:=st
  simp only[q0p,q1l,q2t] at hb
  rcases hb with rfl | rfl
  ·exact⟨_,a1,λv q=>by have q':Data.fields _=Data.cell v:=q;cases q'⟩
  ·exact⟨o,a2,λv z=>by rw[a3] at z;cases z⟩
 keep:=λi h h' st k=>by
  obtain⟨⟨old,a1⟩,a2⟩:=st
  exact⟨⟨old,k e (by simp) _ a1⟩,a2.at λo q=>k it (by simp) o q⟩
 item:=by
  intro X hP hw hK hc i pins s σ H E I hf st hg
  subst hP hw hK
  obtain⟨xs,x,q1,hx⟩:=hg
  obtain⟨⟨old,a1⟩,a2⟩:=st
  obtain⟨its,rv,p,hz⟩:=I.list q1
  obtain⟨vx,hvx,rx⟩:=rv.get hx
  refine wpAny_pyNext_enum_item a1 a2 p.isList (x:=vx) (by simpa using hvx) ne λh' b1 b2 b3 b4 b5=>?_
  refine⟨_,Z,wpAny_letOwnedTupleGo_enum b1 λh2 c1 sb=>?_⟩
  have zT:s.heap.objs.size≠e:=q4g (q0h a1)
  have k2:∀ b o,b ∉ [e,it]->s.heap.get? b=some o->h2.get? b=some o:=λb o hb q=>by
   simp only[q0p,q1l,q2t,not_or] at hb
   exact sb.extBut b o hb.1 (b5 b o hb.1 hb.2 q)
  have hT:IsTup h2 s.heap.objs.size ([.int i s.toks,vx]:U5).toArray:=⟨_,sb.extBut _ _ zT b3,Z,_,Z⟩
  refine⟨.ref s.heap.objs.size,upd H s.heap.objs.size (.tup [.int i,x]),I.turnedT (t':=s.toks+1) k2 hf (q0f _) (.cons ⟨_,Z⟩ (.cons rx .nil)) (by show 2<=sizeLine;decide) hT,Z,⟨_,x,Z,I.hok.fresh (q0f _),Z,λxs' h1=>?_⟩,⟨⟨vx,?_⟩,?_⟩,λb hb=>?_⟩
  ·rw[I.list_inj h1 q1];exact hx
  ·exact_mod_cast c1
  ·exact b2.at λo q=>sb.extBut _ _ ne.symm q
  ·have hlt:b<s.heap.objs.size:=by
    simp only[q0p,q1l,q2t] at hb
    rcases hb with rfl | rfl
    ·exact q0h a1
    ·obtain⟨o,q,_⟩:=a2;exact q0h q
   rw[Z1d (q0w hlt)]
   exact(hf b hb).1
 done:=by
  intro X hP hw hK hc i pins s σ H E I hf st hg
  subst hP hw hK
  obtain⟨xs,q1,hend⟩:=hg
  obtain⟨⟨old,a1⟩,a2⟩:=st
  obtain⟨its,rv,p,hz⟩:=I.list q1
  have e1:=rv.length
  refine wpAny_pyNext_enum_end (I.ok.hd hc) a1 a2 p.isList (by simp;omega) λh' eb=>⟨Z,I.turnedL (t':=s.toks) (ch:=[e,it]) (λb o hb q=>?_) hf⟩
  simp only[q0p,q1l,q2t,not_or] at hb
  exact eb b o hb.2 q
 self:=λ_ _ _ _ _ st h=>by
  obtain⟨⟨old,a1⟩,_⟩:=st
  exact wpAny_pyIter_enum a1 h
section
variable {X:Cx}{es:List Expr}{kk:Nat}{tp:Pos}
def iEnum (K:U0)(ta:TA):TI:=λσ H R=>ta σ H λvs H1=>∃ l xs,vs=[.ref l]/\SqL K H1 l xs/\R (Ite K l) H1
theorem Y1g {a:Expr}{ta:TA}{p pos:Pos}(hg:Gl X "enumerate")(hm:X.mg "enumerate"=none)(ha:PA X [a] ta)(hs:starEach [a] X.env=[(false,eval a X.env)]:=by rfl) :
  PI X (.Tuple es kk tp) (.Call (.Name "enumerate" p) [a] [] pos) (iEnum X.K ta):=by
 intro pins s σ H R I h
 refine Call_ (Z5y I hg hm boot_enumerate (PyProof.Rows.callWith_type1 (thn (ha pos pins s σ H _ I h) λus s1 ⟨vs,H1,I1,r1,q1⟩=>?_) (by rw[hs];rfl) (by rfl)))
 obtain⟨l,xs,e,h1,q⟩:=q1
 subst e
 cases r1 with
 | cons r rr =>
  cases rr
  cases r
  obtain⟨its,rv,pl,hz⟩:=I1.list h1
  refine call_enumerate_list pl.isList λh' z1 z2 z3 zk=>?_
  have I2:Inv X pins σ H1 { s1 with heap:=h' }:=I1.kept (t':=s1.toks) zk
  have lt1:l<s1.heap.objs.size:=by obtain⟨o,q,_⟩:=pl.isList;exact q0h q
  refine wpAny_pyIter_enum z1 ⟨_,[s1.heap.objs.size+1,s1.heap.objs.size],_,_,H1,Z,I2,Y5m (Nat.succ_ne_self _) (q0w (q3r lt1)),⟨⟨_,z1⟩,z2⟩,λb hb=>?_,q⟩
  have hge:s1.heap.objs.size<=b:=by
   simp only[q0p,q1l,q2t] at hb
   rcases hb with rfl | rfl
   ·exact Nat.le_succ _
   ·exact q0f _
  exact I1.fpOk hge (I1.hok.fresh hge)
end
theorem Y4a {K:U0}{a:W9}{xs:List V}{g:TG}{tb:TS}{D:Ends}{σ:St}{H:Hp}(Pv:Nat->St->Hp->Prop)(h0:Pv 0 σ H)(hl:∀ i σ H,i<=xs.length->Pv i σ H->SqL K H a xs)
  (hs:∀ i x σ H T,xs[i]?=some x->Pv i σ H->H T=none->g (.ref T) σ (upd H T (.tup [.int i,x])) λσ2 H2=>tb { D with nx:=Pv (i+1),ct:=Pv (i+1),bk:=D.nx } σ2 H2) (hd:∀ σ H,Pv xs.length σ H->D.nx σ H) :
  ∃ W:Nat->Nat->St->Hp->Prop,(∃ m,W 0 m σ H)/\∀ i m σ H,W i m σ H →
   ((Ite K a).stop i H/\D.nx σ H)∨((Ite K a).go i H/\∃ N:St->Hp->Prop,(∀ σ' H',N σ' H'->∃ m',m'<m/\W (i+1) m' σ' H')/\∀ x H',(Ite K a).yld i H x H'->g x σ H' λσ2 H2=>tb { D with nx:=N,ct:=N,bk:=D.nx } σ2 H2):=by
 refine⟨λi m σ H=>m=xs.length-i/\i<=xs.length/\Pv i σ H,⟨xs.length,by simp,q1e _,h0⟩,?_⟩
 rintro i m σ H ⟨rfl,hi,p⟩
 have q:=hl i σ H hi p
 by_cases hlt:i<xs.length
 ·refine .inr ⟨⟨xs,xs[i],q,by simp[hlt]⟩,Pv (i+1),λσ' H' p'=>⟨xs.length-(i+1),by omega,Z,hlt,p'⟩,λv H' y=>?_⟩
  obtain⟨T,x,rfl,hT,rfl,y⟩:=y
  exact hs i x σ H T (y xs q) p hT
 ·have e:i=xs.length:=by omega
  subst e
  exact .inl ⟨⟨xs,q,q0f _⟩,hd σ H p⟩
end L2
namespace L2
end L2
namespace K75
open L2 Am Pc Ba
theorem or_i (x y:Nat):Builtin.bitOr (x:Int) (y:Int)=((x ||| y:Nat):Int):=by
 have h:Builtin.bitXor (x:Int) (y:Int)=Builtin.bitOr x y-Builtin.bitAnd x y:=rfl
 rw[Y4j,Z5t] at h
 have e:=X4w (x+y+1) x y (by omega) (by omega)
 omega
theorem X1o {K:U0}{l:W9}{g:TG}{xs:List V}{te:TE}{fr:L2.St}{H1:Hp}{acc:W9}{Q:VK}(Pv:Nat->List V->Hp->Prop)(hn:xs.length<=sizeLine)(h0:Pv 0 [] (upd H1 acc (.lst [])))
  (hl:∀ i ys H,Pv i ys H->SqL K H l xs)
  (hg:∀ {a:W9}{x y:V}{w1 w2:Option V}{H:Hp}{Q:L2.St->Hp->Prop},H a=some (.tup [x,y])->Q (some x::some y::fr) H->g (.ref a) (w1::w2::fr) H Q)
  (hs:∀ i x ys H (T:W9) (N:V->Hp->Prop),xs[i]?=some x->ys.length=i->Pv i ys H->H T=none->(∀ y H5,H5 acc=some (.lst ys)->Pv (i+1) (ys++[y]) (upd H5 acc (.lst (ys++[y])))->N y H5)->te (some (.int i)::some x::fr) (upd H T (.tup [.int i,x])) N)
  (hd:∀ ys H,ys.length=xs.length->Pv xs.length ys H->Q (.ref acc) H):LcW (Ite K l) g te (none::none::fr) H1 acc Q:=by
 refine⟨λi m zs σ2 H2=>m=xs.length-i/\i<=xs.length/\zs.length=i/\(∃ v w,σ2=v::w::fr)/\Pv i zs H2,⟨xs.length,by simp,q1e _,Z,⟨_,_,Z⟩,h0⟩,?_⟩
 rintro i m zs σ2 H2 ⟨rfl,hi,zl,⟨v,w,rfl⟩,p⟩
 have sl:=hl i zs H2 p
 by_cases hlt:i<xs.length
 ·have e1:xs[i]?=some xs[i]:=by simp[hlt]
  refine .inr ⟨⟨xs,_,sl,e1⟩,λu H3 y3=>?_⟩
  obtain⟨T,x,rfl,hT,rfl,h1⟩:=y3
  have hx:=h1 xs sl
  refine hg (x:=.int i) (y:=x) Z0d (hs i x zs H2 T _ hx zl p hT λy H5 a5 p5=>⟨a5,by omega,xs.length-(i+1),by omega,Z,hlt,by simp[zl],⟨_,_,Z⟩,p5⟩)
 ·have e:i=xs.length:=by omega
  subst e
  exact .inl ⟨⟨xs,sl,q0f _⟩,hd zs H2 zl p⟩
def spExch:Sp:=λvs H Q _=>∃ w a b:Nat,vs=[.int w,.int ((2^a:Nat):Int),.int ((2^b:Nat):Int)]/\∀ H',Same H H'->Q (.int (exch w a b:Nat)) H'
def Y2w:Sp:=λvs H Q _=>∃ (w:Nat) (p:W9) (v:Mv) (c:Nat),vs=[.int w,.ref p]/\H p=some (MvT v.nm v.ns)/\v.Ok c/\c<=6/\v.nm≠"turn"/\v.nm≠"pair"/\∀ H',Same H H'->Q (.int (v.to w:Nat)) H'
structure Bo (K:U0) (H:Hp) (l:W9) (ps:U3) (f:Nat->A5) (c:Nat):Prop where
 lst:H l=some (.lst (ps.map V.ref))
 len:ps.length=2^c
 vals:ValsK K H ps f
theorem Bo.same {K:U0}{H H':Hp}{l:W9}{ps:U3}{f:Nat->A5}{c:Nat}(b:Bo K H l ps f c)(s:Same H H'):Bo K H' l ps f c:=⟨s _ _ b.lst,b.len,b.vals.same s⟩
theorem Bo.at {K:U0}{H:Hp}{l:W9}{ps:U3}{f:Nat->A5}{c i:Nat}(b:Bo K H l ps f c)(hi:i<2^c):∃ p,ps[i]?=some p/\At5 K H p (f i)/\atI (ps.map V.ref) (i:Int)=some (.ref p):=by
 have hl:i<ps.length:=by rw[b.len];exact hi
 refine⟨ps[i],q0d hl,b.vals i _ (q0d hl),Z1e (by rw[q0k,q0d hl];rfl)⟩
def Y2n (K:U0):Sp:=λvs H Q _=>∃ (l:W9) (ps:U3) (f:Nat->A5) (c bits:Nat) (k:Int),vs=[.ref l,.int bits,.int k]/\Bo K H l ps f c/\c<=6 ∧
 ∀ (r:W9) (H':Hp) (qs:U3) (g:Nat->A5),H r=none->Same H H'->Bo K H' r qs g c->(∀ w,w<2^c->g w=if w&&&bits=bits then spin (f w) k else f w)->Q (.ref r) H'
theorem inV2 (x a b:Int):inV (.int x) [.int a,.int b]=(decide (a=x) || decide (b=x)):=by
 unfold inV
 simp only[q8k,List.any_nil,Bool.or_false,eqV]
 rfl
section
variable {P:U8}{w:W1}{K:U0}{mg:U4}{base:Heap}{k:Nat}{h:Heap}
theorem sc_exch:FnScope ["word","bit","other","both"] ["word","bit","other"] (Z0h (top 37)):=fS
theorem X5n (F:FunAt K "exchanged" (top 37) .none)(X:K.In h)(G:Ng h mg):Cal P w K mg base (k+1) "exchanged" ["word","bit","other"] spExch:=by
 have nd:=sc_exch.nd
 refine F.cal X G sc_exch (bnd3 λ_ _ _ _ _ _ _ _ _=>rfl) (λvs H Q E h=>?_) (λf cdv A outer s H vs Q E hr h=>?_)
 ·obtain⟨w,a,b,rfl,_⟩:=h;rfl
 obtain⟨x,a,b,rfl,q⟩:=h
 refine⟨_,(@Z0g _ _ _ _ _ (@Z0o _ _ 3 _ _ _ _ nd rfl (Or.inl rfl) (Z0i Y0f (pv 1) (pv 2)) rfl (.inl rfl))
  (@Z0f _ _ _ (Z0j (Z1v (Z0n Z6y (Z0i Z1t (pv 0) (pv 3)) (@Z1a _ _ _ _ _ (Z0a (pv 1) (Z0a (pv 2) Z0e))) rfl) (Z0i Z4y (pv 0) (pv 3)) (pv 0))))),?_⟩
 try dsimp only[cxK]
 refine⟨_,Z,_,Z,_,_,Z,Z,?_⟩
 refine⟨_,Z,_,Z,_,_,Z,Z,_,Z,_,Z,t2,λtp htp=>?_⟩
 refine⟨tp,_,Z,.inr (SqT.of Z0d),Z,Z,_,Z,?_⟩
 have s1:=Z0c htp (.tup [.int ((2^a:Nat):Int),.int ((2^b:Nat):Int)])
 have q1:=q _ s1
 unfold exch at q1
 show if (inV (.int (Builtin.bitAnd (x:Int) (Builtin.bitOr ((2^a:Nat):Int) ((2^b:Nat):Int)))) [.int ((2^a:Nat):Int),.int ((2^b:Nat):Int)])=true then _ else _
 rw[or_i,Z5t,inV2]
 by_cases c:x&&&(2^a ||| 2^b)=2^a∨x&&&(2^a ||| 2^b)=2^b
 ·rw[if_pos (by rw[q2p,q1a,q1a];omega)]
  rw[if_pos c] at q1
  refine⟨_,Z,_,Z,_,_,Z,Z,?_⟩
  show Q (.int (Builtin.bitXor (x:Int) (Builtin.bitOr ((2^a:Nat):Int) ((2^b:Nat):Int)))) _
  rw[or_i,Y4j]
  exact q1
 ·rw[if_neg (by rw[q2p,q1a,q1a];omega)]
  rw[if_neg c] at q1
  exact⟨_,Z,q1⟩
theorem sc_behind:FnScope ["word","move","bits"] ["word","move"] (Z0h (top 36)):=fS
theorem Y7i (F:FunAt K "word_behind" (top 36) .none)(X:K.In h)(G:Ng h mg)(c8:Cal P w K mg base k "named_cells" ["move"] Z5j)(cG:Cal P w K mg base k "exchanged" ["word","bit","other"] spExch) :
  Cal P w K mg base (k+1) "word_behind" ["word","move"] Y2w:=by
 have nd:=sc_behind.nd
 refine F.cal X G sc_behind (bnd2 λ_ _ _ _ _ _ _ _=>rfl) (λvs H Q E h=>?_) (λf cdv A outer s H vs Q E hr h=>?_)
 ·obtain⟨w,p,v,c,rfl,_⟩:=h;rfl
 obtain⟨x,p,v,c,rfl,hp,ok,c6,nt,np,q⟩:=h
 have FI:=Mv.fits ok
 have en:named v.nm v.ns=v.ns:=by unfold named;rw[if_neg nt]
 have hlen:v.ns.length<=3:=FI.form.len
 have low:∀ a∈v.ns,0<=a/\a<6:=λa ha=>by
  have:=FI.low a (by rw[en];exact ha)
  omega
 refine⟨_,(@Z0g _ _ _ _ _ (Z4i (i:=2) rfl nd rfl rfl (LcOk.of (Nc:=["cell"]) (mp:=[none]) (by kernel_rfl)) (Y3d (Z0k c8 hr rfl (Z0a (pv 1) Z0e))) (λ_ _ _ _=>(Z0w (i:=0) (show (["cell"]:W0).Nodup by decide +kernel) rfl (Or.inl rfl))) (λ_ _ _ _=>(Z0i Z2f Z0b (pv 0))) rfl)
  (@Z0g _ _ _ _ _ (Z0y (Z0n Z1o (Z0m Z0l (pv 1) Z0b (λ_ _=>rfl)) Z0x (nomark _))
   (@Z0f _ _ _ (Z0j (Z0i Z4y (pv 0) (Z0m Z0s (pv 2) Z0b (λ_ _=>rfl)))))
   Z0p)
  (@Z0g _ _ _ _ _ (Z0y (Z0n Z1o (Z0m Z0l (pv 1) Z0b (λ_ _=>rfl)) Z0x (nomark _))
   (@Z0f _ _ _ (Z0j (Z0k cG hr rfl (Z0a (pv 0) (Z0a (Z0m Z0s (pv 2) Z0b (λ_ _=>rfl)) (Z0a (Z0m Z0s (pv 2) Z0b (λ_ _=>rfl)) Z0e))))))
   Z0p)
  (@Z0g _ _ _ _ _ (Z0y (Z2v (Z2l (Z0i Z1t (pv 0) (Z0m Z0s (pv 2) Z0b (λ_ _=>rfl))) (by intro _;rfl)))
   (@Z0f _ _ _ (Z0j (pv 0)))
   Z0p)
  (@Z0g _ _ _ _ _ (Z0y (Z0n Z1o (Z0m Z0l (pv 1) Z0b (λ_ _=>rfl)) Z0x (nomark _))
   (@Z0f _ _ _ (Z0j (Z0i Z4y (pv 0) (Z0m Z0s (pv 2) Z0b (λ_ _=>rfl)))))
   Z0p)
  (@Z0f _ _ _ (Z0j (Z0k cG hr rfl (Z0a (pv 0) (Z0a (Z0m Z0s (pv 2) Z0b (λ_ _=>rfl)) (Z0a (Z0m Z0s (pv 2) Z0b (λ_ _=>rfl)) Z0e))))))))))),?_⟩
 try dsimp only[cxK]
 refine⟨_,Z,p,v.nm,v.ns,Z,hp,FI.form,λr H1 S1 hr=>?_⟩
 rw[en] at hr
 refine⟨r,Z,⟨_,SqT.of hr⟩,λacc hacc=>?_⟩
 refine Y1w (K:=K) (λn=>.int (1*2^n.toNat)) (SqT.of hr) (t64 (by omega)) hacc (λn H2 N hn S2 kN=>⟨_,Z,_,_,Z,Z,⟨1,sz1,(low n hn).1,by have:=(low n hn).2;omega⟩,kN⟩) (λH3 S3 a3=>?_)
 have S03:=S1.trans S3
 have q3:=q H3 S03
 have SP:SqT K H3 p (.str v.nm::v.ns.map V.int):=SqT.of (S03 _ _ hp)
 have SL:SqL K H3 acc (v.ns.map λn=>V.int (1*2^n.toNat)):=SqL.of a3
 have ip:∀ a:Nat,(1:Int)*2^((a:Int)).toNat=((2^a:Nat):Int):=λa=>ipow a
 cases v with
 | flip a =>
  refine⟨_,Z,p,_,_,.str "flip",Z,Z,SP,at0,Z,_,Z,decI (λ_=>?_) (λz=>absurd rfl z)⟩
  refine⟨_,Z,_,Z,acc,_,_,.int (1*2^((a:Int)).toNat),Z,Z,SL,Z,_,_,Z,Z,?_⟩
  show Q (.int (Builtin.bitXor (x:Int) (1*2^((a:Int)).toNat))) H3
  rw[ip,Y4j]
  exact q3
 | turn a k=>exact absurd rfl nt
 | pair a b=>exact absurd rfl np
 | swap a b =>
  refine⟨_,Z,p,_,_,.str "swap",Z,Z,SP,at0,Z,_,Z,decI (λz=>absurd (V.str.inj z) (by decide +kernel)) (λ_=>?_)⟩
  refine⟨_,Z,p,_,_,.str "swap",Z,Z,SP,at0,Z,_,Z,decI (λ_=>?_) (λz=>absurd rfl z)⟩
  refine⟨_,Z,_,Z,acc,_,_,.int (1*2^((a:Int)).toNat),Z,Z,SL,Z,_,Z,acc,_,_,.int (1*2^((b:Int)).toNat),Z,Z,SL,Z,?_⟩
  exact⟨x,a,b,by show [V.int (x:Int),V.int (1*2^((a:Int)).toNat),V.int (1*2^((b:Int)).toNat)]=_;rw[ip,ip],λH4 S4=>q H4 (S03.trans S4)⟩
 | iff a b =>
  refine⟨_,Z,p,_,_,.str "if",Z,Z,SP,at0,Z,_,Z,decI (λz=>absurd (V.str.inj z) (by decide +kernel)) (λ_=>?_)⟩
  refine⟨_,Z,p,_,_,.str "if",Z,Z,SP,at0,Z,_,Z,decI (λz=>absurd (V.str.inj z) (by decide +kernel)) (λ_=>?_)⟩
  refine⟨_,Z,_,Z,acc,_,_,.int (1*2^((a:Int)).toNat),Z,Z,SL,Z,_,_,Z,Z,_,Z,?_⟩
  rw[ip,Z5t]
  have q4:Q (.int ((if x&&&2^a=0 then x else x^^^2^b:Nat):Int)) H3:=q3
  by_cases e:x&&&2^a=0
  ·rw[if_pos e] at q4
   rw[e]
   exact iteT ⟨_,Z,q4⟩
  ·rw[if_neg e] at q4
   rw[show ((((x&&&2^a:Nat):Int) != 0)=true) by simpa using e]
   refine iteF ⟨_,Z,p,_,_,.str "if",Z,Z,SP,at0,Z,_,Z,decI (λ_=>?_) (λz=>absurd rfl z)⟩
   refine⟨_,Z,_,Z,acc,_,_,.int (1*2^((b:Int)).toNat),Z,Z,SL,Z,_,_,Z,Z,?_⟩
   show Q (.int (Builtin.bitXor (x:Int) (1*2^((b:Int)).toNat))) H3
   rw[ip,Y4j]
   exact q4
 | cross a b d =>
  refine⟨_,Z,p,_,_,.str "cross",Z,Z,SP,at0,Z,_,Z,decI (λz=>absurd (V.str.inj z) (by decide +kernel)) (λ_=>?_)⟩
  refine⟨_,Z,p,_,_,.str "cross",Z,Z,SP,at0,Z,_,Z,decI (λz=>absurd (V.str.inj z) (by decide +kernel)) (λ_=>?_)⟩
  refine⟨_,Z,_,Z,acc,_,_,.int (1*2^((a:Int)).toNat),Z,Z,SL,Z,_,_,Z,Z,_,Z,?_⟩
  rw[ip,Z5t]
  have q4:∀ H',Same H H'->Q (.int ((if x&&&2^a=0 then x else exch x b d:Nat):Int)) H':=q
  by_cases e:x&&&2^a=0
  ·rw[if_pos e] at q4
   rw[e]
   exact iteT ⟨_,Z,q4 _ S03⟩
  ·rw[if_neg e] at q4
   rw[show ((((x&&&2^a:Nat):Int) != 0)=true) by simpa using e]
   refine iteF ⟨_,Z,p,_,_,.str "cross",Z,Z,SP,at0,Z,_,Z,decI (λz=>absurd (V.str.inj z) (by decide +kernel)) (λ_=>?_)⟩
   refine⟨_,Z,_,Z,acc,_,_,.int (1*2^((b:Int)).toNat),Z,Z,SL,Z,_,Z,acc,_,_,.int (1*2^((d:Int)).toNat),Z,Z,SL,Z,?_⟩
   exact⟨x,b,d,by show [V.int (x:Int),V.int (1*2^((b:Int)).toNat),V.int (1*2^((d:Int)).toNat)]=_;rw[ip,ip],λH4 S4=>q4 H4 (S03.trans S4)⟩
theorem X5w (v:Mv):v.nm≠"mix":=by
 cases v with
 | flip a=>exact(show ("flip":Str)≠"mix" by decide +kernel)
 | turn a k=>exact(show ("turn":Str)≠"mix" by decide +kernel)
 | iff a b=>exact(show ("if":Str)≠"mix" by decide +kernel)
 | pair a b=>exact(show ("pair":Str)≠"mix" by decide +kernel)
 | swap a b=>exact(show ("swap":Str)≠"mix" by decide +kernel)
 | cross a b d=>exact(show ("cross":Str)≠"mix" by decide +kernel)
theorem X5x {v:Mv}(h:v.nm="turn"):∃ a k,v=.turn a k:=by
 cases v with
 | flip a=>exact absurd h (show ("flip":Str)≠"turn" by decide +kernel)
 | turn a k=>exact⟨a,k,rfl⟩
 | iff a b=>exact absurd h (show ("if":Str)≠"turn" by decide +kernel)
 | pair a b=>exact absurd h (show ("pair":Str)≠"turn" by decide +kernel)
 | swap a b=>exact absurd h (show ("swap":Str)≠"turn" by decide +kernel)
 | cross a b d=>exact absurd h (show ("cross":Str)≠"turn" by decide +kernel)
theorem X5y {v:Mv}(h:v.nm="pair"):∃ a b,v=.pair a b:=by
 cases v with
 | flip a=>exact absurd h (show ("flip":Str)≠"pair" by decide +kernel)
 | turn a k=>exact absurd h (show ("turn":Str)≠"pair" by decide +kernel)
 | iff a b=>exact absurd h (show ("if":Str)≠"pair" by decide +kernel)
 | pair a b=>exact⟨a,b,rfl⟩
 | swap a b=>exact absurd h (show ("swap":Str)≠"pair" by decide +kernel)
 | cross a b d=>exact absurd h (show ("cross":Str)≠"pair" by decide +kernel)
theorem X4a {v:Mv}(h:v.nm≠"turn")(h':v.nm≠"pair")(w:Nat):v.sp w=0:=by
 cases v with
 | turn a k=>exact absurd rfl h
 | pair a b=>exact absurd rfl h'
 | flip a=>rfl
 | iff a b=>rfl
 | swap a b=>rfl
 | cross a b d=>rfl
theorem sc_where:FnScope ["board","bits","k"] ["board","bits","k"] (Z0h (top 35)):=fS
theorem X0p (F:FunAt K "spun_where" (top 35) .none)(X:K.In h)(G:Ng h mg)(B:Bs mg)(e7:Cal P w K mg base k "spun" ["one","k"] (Z8i K)):Cal P w K mg base (k+1) "spun_where" ["board","bits","k"] (Y2n K):=by
 have nd:=sc_where.nd
 refine F.cal X G sc_where (bnd3 λ_ _ _ _ _ _ _ _ _=>rfl) (λvs H Q E h=>?_) (λf cdv A outer s H vs Q E hr h=>?_)
 ·obtain⟨l,ps,f,c,bits,k,rfl,_⟩:=h;rfl
 obtain⟨l,ps,g,c,bits,kk,rfl,BO,c6,kq⟩:=h
 have p6:=pow6 c6
 have SL:SqL K H l (ps.map V.ref):=SqL.of BO.lst
 have lps:(ps.map V.ref).length=2^c:=by rw[q0a,BO.len]
 refine⟨_,(@Z0f _ _ _ (Z0j (Z4l rfl (LcOk.of (Nc:=["word","one","bits","k"]) (mp:=[none,none,some 1,some 2]) (by kernel_rfl)) (Y1g rfl B.enumerate (Z0a (pv 0) Z0e)) (λ_ _ _ _=>(Z8r rfl (show (["word","one","bits","k"]:W0).Nodup by decide +kernel) rfl rfl rfl rfl)) (λ_ _ _ _=>(Z1v (Z0n Z1o (Z0i Z1t (pv 0) (pv 2)) (pv 2) (nomark _)) (Z0k e7 hr rfl (Z0a (pv 1) (Z0a (pv 3) Z0e))) (pv 1)))))),?_⟩
 try dsimp only[cxK]
 refine⟨_,Z,l,_,Z,SL,λacc hacc=>?_⟩
 refine X1o (K:=K) (l:=l) (xs:=ps.map V.ref) (fr:=[some (.int bits),some (.int kk)]) (λi ys H'=>∃ (qs:U3) (y:Nat->A5),Same H H'/\H' acc=some (.lst ys)/\ys=qs.map V.ref/\qs.length=i/\ValsK K H' qs y/\∀ j,j<i->y j=if j&&&bits=bits then spin (g j) kk else g j) (by rw[lps];exact t64 p6)
  ⟨[],λ_=>((0,0,0,0),0),Z0c hacc _,Z0d,Z,Z,(λ_ _ z=>by cases z),λj hj=>absurd hj (q4f _)⟩ (λi ys H' p=>by obtain⟨qs,y,s2,_⟩:=p;exact SqL.of (s2 _ _ BO.lst)) (λh q=>⟨_,_,Z,SqT.of h,Z,_,_,Z,_,_,Z,Z,q⟩) ?_ ?_
 ·rintro i x ys H2 T N hx hy ⟨qs,y,S2,a2,rfl,ql,v2,ok2⟩ hT kN
  rw[q0k] at hx
  obtain⟨p,hp,rfl⟩:=q0x.mp hx
  have pg:=(BO.vals i p hp).same S2
  have sT:=Z0c hT (.tup [.int i,.ref p])
  have fin:∀ (r:W9) (H5:Hp) (z:A5),Same (upd H2 T (.tup [.int i,.ref p])) H5->At5 K H5 r z->z=(if i&&&bits=bits then spin (g i) kk else g i)->N (.ref r) H5:=λr H5 z S5 hr hz=>by
   have S25:=sT.trans S5
   refine kN (.ref r) H5 (S25 _ _ a2) ⟨qs++[r],λj=>if j=qs.length then z else y j,Z0v (S2.trans S25) hacc,Z0d,by rw[q0b];rfl,by simp[ql],Z3m (xs:=qs.map V.ref) (Z3g v2 S25 hr) (S25 _ _ a2),λj hj=>?_⟩
   show (if j=qs.length then z else y j)=_
   by_cases e:j=qs.length
   ·rw[if_pos e,hz,e,ql]
   ·rw[if_neg e]
    exact ok2 j (by omega)
  refine⟨_,Z,_,Z,_,_,Z,Z,_,Z,Z,_,Z,?_⟩
  show if decide (V.int (Builtin.bitAnd (i:Int) (bits:Int))=V.int (bits:Int))=true then _ else _
  rw[Z5t]
  by_cases e:i&&&bits=bits
  ·rw[q0j (by rw[e])]
   refine iteT ⟨_,Z,_,Z,p,_,_,_,_,_,_,Z,pg.same sT,λr H5 S5 hr=>fin r H5 (spin (g i) kk) S5 hr (by rw[if_pos e])⟩
  ·rw[q0e (λz=>e (by have:=V.int.inj z;omega))]
   exact iteF ⟨_,Z,fin p _ (g i) (Same.refl _) (pg.same sT) (by rw[if_neg e])⟩
 ·rintro ys H2 hy ⟨qs,y,S2,a2,rfl,ql,v2,ok2⟩
  rw[lps] at ql ok2
  exact kq acc H2 qs y hacc S2 ⟨a2,ql,v2⟩ ok2
noncomputable def wOk (c a w:Nat):Bool:=decide (w&&&2^a=0) == decide (w / 2^a%2=0) && if w / 2^a%2=0 then decide ((w ||| 2^a)=w+2^a) && decide (w+2^a<2^c) && decide ((w+2^a) / 2^a%2=1) else decide ((w^^^2^a)=w-2^a) && decide (2^a<=w) && decide ((w-2^a) / 2^a%2=0)
theorem X3p:((List.range 7).all λc=>(List.range c).all λa=>(List.range (2^c)).all λw=>wOk c a w)=true:=by decide +kernel
theorem wok {c a w:Nat}(hc:c<=6)(ha:a<c)(hw:w<2^c):wOk c a w=true :=
 q1c.mp (q1c.mp (q1c.mp X3p c (q0s.mpr (by omega))) a (q0s.mpr ha)) w (q0s.mpr hw)
theorem X3r {c a w:Nat}(hc:c<=6)(ha:a<c)(hw:w<2^c)(h:w / 2^a%2=0):w&&&2^a=0/\(w ||| 2^a)=w+2^a/\w+2^a<2^c/\(w+2^a) / 2^a%2=1:=by
 have:=wok hc ha hw
 unfold wOk at this
 rw[if_pos h,q0j h] at this
 simpa [and_assoc] using this
theorem X2i {c a w:Nat}(hc:c<=6)(ha:a<c)(hw:w<2^c)(h:¬ w / 2^a%2=0):w&&&2^a≠0/\(w^^^2^a)=w-2^a/\2^a<=w/\(w-2^a) / 2^a%2=0:=by
 have:=wok hc ha hw
 unfold wOk at this
 rw[if_neg h,q0e h] at this
 simpa [and_assoc] using this
structure Mix (s:Int) (x y z:A5):Prop where
 ex:∃ p:A5,Sum x.1.1 x.1.2.1 x.1.2.2.1 x.1.2.2.2 x.2 (s*y.1.1) (s*y.1.2.1) (s*y.1.2.2.1) (s*y.1.2.2.2) y.2 p.1.1 p.1.2.1 p.1.2.2.1 p.1.2.2.2 p.2 ∧
  Amt z.1.1 z.1.2.1 z.1.2.2.1 z.1.2.2.2 z.2/\Same4 (p.1.2.1-p.1.2.2.2) (p.1.1+p.1.2.2.1) (p.1.2.1+p.1.2.2.2) (p.1.2.2.1-p.1.1) (p.2+1) z.1.1 z.1.2.1 z.1.2.2.1 z.1.2.2.2 z.2
theorem W0x {x y:A5}(h:x.1.1=y.1.1/\x.1.2.1=y.1.2.1/\x.1.2.2.1=y.1.2.2.1/\x.1.2.2.2=y.1.2.2.2/\x.2=y.2):x=y:=by
 obtain⟨⟨a,b,c,d⟩,h1⟩:=x
 obtain⟨⟨a',b',c',d'⟩,h2⟩:=y
 obtain⟨rfl,rfl,rfl,rfl,rfl⟩:=h
 rfl
def MixAt (f:Nat->A5)(a w:Nat)(z:A5):Prop:=if w / 2^a%2=0 then Mix 1 (f w) (f (w+2^a)) z else Mix (-1) (f (w-2^a)) (f w) z
structure Bd5 (K:U0) (H:Hp) (l:W9) (ps:U3) (f:Nat->A5) (c n m:Nat):Prop where
 lst:H l=some (.lst (ps.map V.ref))
 len:ps.length=2^c
 vals:ValsK K H ps f
 ok:∀ i,i<2^c->Ok5 n m (f i)
theorem Bd5.same {K:U0}{H H':Hp}{l:W9}{ps:U3}{f:Nat->A5}{c n m:Nat}(b:Bd5 K H l ps f c n m)(s:Same H H'):Bd5 K H' l ps f c n m:=⟨s _ _ b.lst,b.len,b.vals.same s,b.ok⟩
theorem Bd5.at {K:U0}{H:Hp}{l:W9}{ps:U3}{f:Nat->A5}{c n m i:Nat}(b:Bd5 K H l ps f c n m)(hi:i<2^c):∃ p,ps[i]?=some p/\At5 K H p (f i)/\atI (ps.map V.ref) (i:Int)=some (.ref p):=by
 have hl:i<ps.length:=by rw[b.len];exact hi
 refine⟨ps[i],q0d hl,b.vals i _ (q0d hl),Z1e (by rw[q0k,q0d hl];rfl)⟩
def Z7n (K:U0):Sp:=λvs H Q _=>∃ (l:W9) (ps:U3) (f:Nat->A5) (c n m a wd:Nat),vs=[.ref l,.int wd,.int ((2^a:Nat):Int)]/\Bd5 K H l ps f c n m/\c<=6/\a<c/\wd<2^c/\n<=450000/\m<=10000 ∧
 ∀ (r:W9) (H':Hp) (z:A5),Same H H'->H' r=some (tA z)->Ok5 (n+2*m+3) (m+1:Nat) z->MixAt f a wd z->Q (.ref r) H'
def Y2r (K:U0):Sp:=λvs H Q _=>∃ (l:W9) (ps:U3) (f:Nat->A5) (c n m a:Nat),vs=[.ref l,.int ((2^a:Nat):Int)]/\Bd5 K H l ps f c n m/\c<=6/\a<c/\n<=450000/\m<=10000 ∧
 ∀ (r:W9) (H':Hp) (qs:U3) (g:Nat->A5),H r=none->Same H H'->Bd5 K H' r qs g c (n+2*m+3) (m+1)->(∀ w,w<2^c->MixAt f a w (g w))->Q (.ref r) H'
theorem X2v {n m:Nat}{x y z p:A5}(ox:Ok5 n m x)(oy:Ok5 n m y)(hp:p.2<=max x.2 y.2)(sp:Sz4 (n+x.2.toNat+y.2.toNat+2) p.1.1 p.1.2.1 p.1.2.2.1 p.1.2.2.2)
  (r:Red (p.1.2.1-p.1.2.2.2) (p.1.1+p.1.2.2.1) (p.1.2.1+p.1.2.2.2) (p.1.2.2.1-p.1.1) (p.2+1) z.1.1 z.1.2.1 z.1.2.2.1 z.1.2.2.2 z.2):Ok5 (n+2*m+3) (m+1:Nat) z:=by
 have hx:=ox.le
 have hy:=oy.le
 have hx0:=ox.amt.nn
 have hy0:=oy.amt.nn
 have s:Sz4 (n+2*m+2) p.1.1 p.1.2.1 p.1.2.2.1 p.1.2.2.2:=sp.mono (by omega)
 have neg:∀ {u v:Int},Sz (n+2*m+2) u->Sz (n+2*m+2) v->Sz (n+2*m+3) (u-v):=λhu hv=>by rw[Int.sub_eq_add_neg];exact(hu.add hv.neg).mono (by omega)
 have add:∀ {u v:Int},Sz (n+2*m+2) u->Sz (n+2*m+2) v->Sz (n+2*m+3) (u+v):=λhu hv=>(hu.add hv).mono (by omega)
 refine⟨r.sz ⟨neg s.z2 s.z4,add s.z1 s.z3,add s.z2 s.z4,neg s.z3 s.z1⟩,r.amt,?_⟩
 have:=r.le
 omega
theorem X3g {K:U0}{H:Hp}{p q:W9}{x y:A5}{n m:Nat}(hp:At5 K H p x)(hq:At5 K H q y)(ox:Ok5 n m x)(oy:Ok5 n m y)(hn:n<=450000)(hm:m<=10000):In2 K n [.ref p,.ref q] H p q x.1.1 x.1.2.1 x.1.2.2.1 x.1.2.2.2 x.2 y.1.1 y.1.2.1 y.1.2.2.1 y.1.2.2.2 y.2:=by
 have:=ox.le
 have:=oy.le
 exact⟨Z,hp,hq,ox.amt.nn,oy.amt.nn,by omega,by omega,ox.sz,oy.sz⟩
theorem sc_mixedat:FnScope ["board","word","bit"] ["board","word","bit"] (Z0h (top 34)):=fS
theorem Y4x (F:FunAt K "mixed_at" (top 34) .none)(X:K.In h)(G:Ng h mg)(e6:Cal P w K mg base k "rooted" ["one"] Y2q)(eR:Cal P w K mg base k "minus" ["one","other"] (Y2s K))(dZ:Cal P w K mg base k "plus" ["one","other"] (Y1d K)) :
  Cal P w K mg base (k+1) "mixed_at" ["board","word","bit"] (Z7n K):=by
 have nd:=sc_mixedat.nd
 refine F.cal X G sc_mixedat (bnd3 λ_ _ _ _ _ _ _ _ _=>rfl) (λvs H Q E h=>?_) (λf cdv A outer s H vs Q E hr h=>?_)
 ·obtain⟨l,ps,f,c,n,m,a,wd,rfl,_⟩:=h;rfl
 obtain⟨l,ps,g,c,n,m,a,wd,rfl,BD,c6,ac,wc,n3,m1,kq⟩:=h
 have SL:SqL K H l (ps.map V.ref):=SqL.of BD.lst
 refine⟨_,(@Z0g _ _ _ _ _ (Z0y (Z2l (Z0i Z1t (pv 1) (pv 2)) (by intro _;rfl))
   (@Z0f _ _ _ (Z0j (Z0k e6 hr rfl (Z0a (Z0k eR hr rfl (Z0a (Z0m Z0s (pv 0) (Z0i Z4y (pv 1) (pv 2)) (λ_ _=>rfl)) (Z0a (Z0m Z0s (pv 0) (pv 1) (λ_ _=>rfl)) Z0e))) Z0e))))
   Z0p)
  (@Z0f _ _ _ (Z0j (Z0k e6 hr rfl (Z0a (Z0k dZ hr rfl (Z0a (Z0m Z0s (pv 0) (pv 1) (λ_ _=>rfl)) (Z0a (Z0m Z0s (pv 0) (Z0i Y0f (pv 1) (pv 2)) (λ_ _=>rfl)) Z0e))) Z0e))))),?_⟩
 try dsimp only[cxK]
 by_cases hb:wd / 2^a%2=0
 ·obtain⟨e1,e2,e3,_⟩:=X3r c6 ac wc hb
  obtain⟨p,_,hp,ap⟩:=BD.at wc
  obtain⟨q,_,hq,aq⟩:=BD.at e3
  refine⟨_,Z,_,Z,_,_,Z,Z,_,Z,?_⟩
  rw[Z5t,e1]
  refine iteF ?_
  refine⟨_,Z,_,Z,l,_,_,_,Z,Z,SL,ap,_,Z,_,Z,_,Z,_,_,Z,Z,l,_,_,_,Z,Z,SL,(by rw[or_i,e2];exact aq),?_⟩
  have ox:=BD.ok _ wc
  have oy:=BD.ok _ e3
  refine⟨n,p,q,_,_,_,_,_,_,_,_,_,_,X3g hp hq ox oy n3 m1,λr1 H1 x y z u v S1 hr1 SU SZ=>?_⟩
  refine⟨r1,x,y,z,u,v,Z,hr1,SU.amt.nn,λr2 H2 x' y' z' u' v' S2 hr2 RE=>?_⟩
  refine kq r2 H2 ((x',y',z',u'),v') (S1.trans S2) hr2 (X2v (p:=((x,y,z,u),v)) ox oy SU.le SZ RE) ?_
  unfold MixAt
  rw[if_pos hb]
  exact⟨((x,y,z,u),v),by simpa only[Int.one_mul] using SU,RE.amt,RE.same⟩
 ·obtain⟨e1,e2,e3,_⟩:=X2i c6 ac wc hb
  obtain⟨p,_,hp,ap⟩:=BD.at (i:=wd-2^a) (q2d (q8o _ _) wc)
  obtain⟨q,_,hq,aq⟩:=BD.at wc
  have ox:=BD.ok (wd-2^a) (q2d (q8o _ _) wc)
  have oy:=BD.ok _ wc
  refine⟨_,Z,_,Z,_,_,Z,Z,_,Z,?_⟩
  rw[Z5t,show ((((wd&&&2^a:Nat):Int) != 0)=true) by simpa using e1]
  refine iteT ?_
  refine⟨_,Z,_,Z,_,Z,_,_,Z,Z,l,_,_,_,Z,Z,SL,(by rw[Y4j,e2];exact ap),_,Z,_,Z,l,_,_,_,Z,Z,SL,aq,?_⟩
  refine⟨n,p,q,_,_,_,_,_,_,_,_,_,_,X3g hp hq ox oy n3 m1,λr1 H1 x y z u v S1 hr1 SU SZ=>?_⟩
  refine⟨r1,x,y,z,u,v,Z,hr1,SU.amt.nn,λr2 H2 x' y' z' u' v' S2 hr2 RE=>?_⟩
  refine kq r2 H2 ((x',y',z',u'),v') (S1.trans S2) hr2 (X2v (p:=((x,y,z,u),v)) ox oy SU.le SZ RE) ?_
  unfold MixAt
  rw[if_neg hb]
  exact⟨((x,y,z,u),v),by simpa only[Int.neg_one_mul] using SU,RE.amt,RE.same⟩
theorem sc_mixed:FnScope ["board","bit"] ["board","bit"] (Z0h (top 33)):=fS
theorem X0u (F:FunAt K "mixed" (top 33) .none)(X:K.In h)(G:Ng h mg)(B:Bs mg)(eF:Cal P w K mg base k "mixed_at" ["board","word","bit"] (Z7n K)):Cal P w K mg base (k+1) "mixed" ["board","bit"] (Y2r K):=by
 have nd:=sc_mixed.nd
 refine F.cal X G sc_mixed (bnd2 λ_ _ _ _ _ _ _ _=>rfl) (λvs H Q E h=>?_) (λf cdv A outer s H vs Q E hr h=>?_)
 ·obtain⟨l,ps,f,c,n,m,a,rfl,_⟩:=h;rfl
 obtain⟨l,ps,g,c,n,m,a,rfl,BD,c6,ac,n3,m1,kq⟩:=h
 have p6:=pow6 c6
 have SL:SqL K H l (ps.map V.ref):=SqL.of BD.lst
 have hlen:(((ps.map V.ref).length:Nat):Int).toNat=2^c:=by rw[q0a,BD.len,q1h]
 refine⟨_,(@Z0f _ _ _ (Z0j (Z4l rfl (LcOk.of (Nc:=["word","board","bit"]) (mp:=[none,some 0,some 1]) (by kernel_rfl)) (Z1k rfl B.range (Z0a (Z0q Z0u rfl B.len q1m (Z0a (pv 0) Z0e)) Z0e)) (λ_ _ _ _=>(Z0w (i:=0) (show (["word","board","bit"]:W0).Nodup by decide +kernel) rfl (Or.inl rfl))) (λ_ _ _ _=>(Z0k eF hr rfl (Z0a (pv 1) (Z0a (pv 0) (Z0a (pv 2) Z0e)))))))),?_⟩
 try dsimp only[cxK]
 refine⟨_,Z,l,_,Z,.inl SL,_,Z,by rw[q0a,BD.len];omega,by rw[q0a,BD.len];omega,λacc hacc=>?_⟩
 rw[hlen]
 refine Z6k (n:=2^c) (fr:=[some (.ref l),some (.int ((2^a:Nat):Int))]) (λi ys H'=>∃ (qs:U3) (y:Nat->A5),Same H H'/\H' acc=some (.lst ys)/\ys=qs.map V.ref/\qs.length=i/\ValsK K H' qs y/\∀ j,j<i->Ok5 (n+2*m+3) (m+1:Nat) (y j)/\MixAt g a j (y j)) (t64 p6)
  ⟨[],λ_=>((0,0,0,0),0),Z0c hacc _,Z0d,Z,Z,(λ_ _ z=>by cases z),λj hj=>absurd hj (q4f _)⟩ ?_ ?_
 ·rintro i ys H2 N hi hy ⟨qs,y,S2,a2,rfl,ql,v2,ok2⟩ kN
  refine⟨_,Z,_,Z,_,Z,l,ps,g,c,n,m,a,i,(by show [V.ref l,V.int (0+(i:Int)),_]=_;rw[q2x]),BD.same S2,c6,ac,hi,n3,m1,λr H3 z S3 hr3 oz mz=>?_⟩
  refine kN (.ref r) H3 (S3 _ _ a2) ⟨qs++[r],λj=>if j=qs.length then z else y j,Z0v (S2.trans S3) hacc,Z0d,by rw[q0b];rfl,by simp[ql],Z3m (xs:=qs.map V.ref) (Z3g v2 S3 (At5.of hr3)) (S3 _ _ a2),λj hj=>?_⟩
  by_cases e:j=qs.length
  ·show Ok5 _ _ (if j=qs.length then z else y j)/\MixAt g a j (if j=qs.length then z else y j)
   rw[if_pos e,e,ql]
   exact⟨oz,mz⟩
  ·show Ok5 _ _ (if j=qs.length then z else y j)/\MixAt g a j (if j=qs.length then z else y j)
   rw[if_neg e]
   exact ok2 j (by omega)
 ·rintro ys H2 hy ⟨qs,y,S2,a2,rfl,ql,v2,ok2⟩
  exact kq acc H2 qs y hacc S2 ⟨a2,ql,v2,λi hi=>(ok2 i hi).1⟩ λw hw=>(ok2 w hw).2
end
end K75
namespace L2
abbrev Mm:=Str × List Int
noncomputable abbrev mT (m:Mm):HO:=.tup (.str m.1::m.2.map V.int)
noncomputable abbrev mD (m:Mm):PyData:=.tuple (.str m.1::m.2.map PyData.int)
def RowsM (H:Hp):List Addr->List Mm->Prop:=Paired λp m=>H p=some (mT m)
theorem RowsM.same {H H':Hp}{ps:U3}{ms:List Mm}(h:RowsM H ps ms)(s:Same H H'):RowsM H' ps ms:=Paired.imp' (λ_ _ c=>s _ _ c) h
def AllOk (ms:List Mm):Prop:=∀ m∈ms,PyData.strOk m.1=true
section
variable {P:U8}{w:W1}{H:Hp}{h:Heap}
theorem Z6u {a:W9}{m:Mm}{its:U5}(ht:IsTup h a its.toArray)(rv:Vals (.str m.1::m.2.map V.int) its):Reads h (.ref a) (mD m) []:=by
 cases rv with
 | cons r rs =>
  obtain⟨t,rfl⟩:=r
  obtain⟨o,ho,hc,n,hd⟩:=ht
  exact Reads.tuple ho hc hd (.cons (as:=[]) (bs:=[]) (Reads.str _ _) (q7a (Z2n rs)))
theorem Z7q (ok:HOk P w H h):∀ {ps:U3}{ms:List Mm}{us:U5},RowsM H ps ms->Vals (ps.map V.ref) us->∃ as,ReadsAll h us (ms.map mD) as
 | [],[],us,.nil,r=>by cases r;exact⟨[],.nil⟩
 | p::ps,m::ms,us,.cons e r,rv=>by
  cases rv with
  | cons ru rr =>
   cases ru
   obtain⟨as,ha⟩:=Z7q ok r rr
   obtain⟨_,its,rv',ht⟩:=(show ObjOk P w H h p (mT m) from ok p _ e)
   exact⟨_,.cons (Z6u ht rv') ha⟩
end
theorem Y4f {m:Mm}(o:PyData.strOk m.1=true):PyData.canLay0 (mD m)=true:=by
 simp[PyData.canLay0,PyData.canLayAll0,o,q5d m.2]
theorem Y8u (m:Mm):PyData.depth (mD m)<=2:=by
 have:=q5m m.2
 simp only[PyData.depth,PyData.depthAll]
 omega
theorem Z6c {m:Mm}(o:PyData.strOk m.1=true):SeqAt.shaped (mD m)=true:=by
 have:=Y8u m
 show (PyData.canLay0 _ && decide _)=true
 rw[q0m]
 exact⟨Y4f o,q0j (by omega)⟩
theorem Y0s:∀ {ms:List Mm},AllOk ms->PyData.canLayAll0 (ms.map mD)=true
 | [],_=>by simp[PyData.canLayAll0]
 | m::r,h=>by
  have h1:=Y4f (h m (.head _))
  have h2:=Y0s (ms:=r) λx hx=>h x (.tail _ hx)
  simp only[q1s,PyData.canLayAll0,q0m]
  exact⟨h1,h2⟩
theorem Y4d:∀ ms:List Mm,PyData.depthAll (ms.map mD)<=2
 | []=>by simp[PyData.depthAll]
 | m::r=>by
  have h1:=Y4d r
  have h2:=Y8u m
  simp only[q1s,PyData.depthAll]
  omega
theorem Z9u {ms:List Mm}(h:AllOk ms):SeqAt.shaped (.list (ms.map mD))=true:=by
 have:=Y4d ms
 show (PyData.canLay0 _ && decide _)=true
 rw[q0m]
 refine⟨by simp only[PyData.canLay0];exact Y0s h,q0j ?_⟩
 simp only[PyData.depth]
 omega
theorem Y1p (m n:Mm):SeqAt.noMix (mD m) (mD n)=true:=by
 simp only[SeqAt.noMix,SeqAt.noMixAll,q0m]
 exact⟨by simp[SeqAt.noMix],q5c m.2 n.2⟩
theorem Y3m:∀ xs ys:List Mm,SeqAt.noMixAll (xs.map mD) (ys.map mD)=true
 | [],[]=>by simp[SeqAt.noMixAll]
 | [],_::_=>by simp[SeqAt.noMixAll]
 | _::_,[]=>by simp[SeqAt.noMixAll]
 | n::r,m::q=>by
  simp only[q1s,SeqAt.noMixAll,q0m]
  exact⟨Y1p n m,Y3m r q⟩
theorem Y6j (m n:Mm):PySem.Spec.same (mD m) (mD n)=decide (m=n):=by
 simp only[PySem.Spec.same,PySem.Spec.sameAll,q5i]
 obtain⟨a,b⟩:=m
 obtain⟨c,d⟩:=n
 by_cases e:a=c<;>by_cases f:b=d<;>simp[e,f]
theorem Y6i:∀ xs ys:List Mm,PySem.Spec.sameAll (xs.map mD) (ys.map mD)=decide (xs=ys)
 | [],[]=>by simp[PySem.Spec.sameAll]
 | [],_::_=>by simp[PySem.Spec.sameAll]
 | _::_,[]=>by simp[PySem.Spec.sameAll]
 | n::r,m::q=>by
  simp only[q1s,PySem.Spec.sameAll,Y6j,Y6i r q]
  by_cases e:n=m<;>simp[e]
section
variable {X:Cx}
def rEqM:R2:=λx y H Q=>∃ (a b:W9) (m n:Mm),x=.ref a/\y=.ref b/\H a=some (mT m)/\H b=some (mT n)/\PyData.strOk m.1=true/\PyData.strOk n.1=true/\Q (.bl (decide (m=n))) H
def rEqLM (neg:Bool):R2:=λx y H Q=>∃ (a b:W9) (ps qs:U3) (xs ys:List Mm),x=.ref a/\y=.ref b/\H a=some (.lst (ps.map V.ref))/\H b=some (.lst (qs.map V.ref))/\RowsM H ps xs/\RowsM H qs ys/\AllOk xs/\AllOk ys/\Q (.bl (if neg then !decide (xs=ys) else decide (xs=ys))) H
theorem Y6y (hu:X.A.units+64<cLine):OpR X (compareOp .Eq) rEqM:=by
 intro pins s σ H x y v u Q I rx ry h
 obtain⟨a,b,m,n,rfl,rfl,h1,h2,o1,o2,q⟩:=h
 cases rx;cases ry
 obtain⟨_,its,rv,pt⟩:=(show ObjOk X.prog X.w H s.heap a (mT m) from I.hok a _ h1)
 obtain⟨_,its',rv',pt'⟩:=(show ObjOk X.prog X.w H s.heap b (mT n) from I.hok b _ h2)
 refine q8g (Z6u pt rv) (Z6u pt' rv') (Z6c o1) (Z6c o2) hu (Y1p m n) ⟨.bl (decide (m=n)),H,I,?_,q⟩
 show _=_
 rw[Y6j]
theorem Z9y {pins:U1}{σ:St}{H:Hp}{s:U7}(I:Inv X pins σ H s){a:W9}{ps:U3}{xs:List Mm}(h:H a=some (.lst (ps.map V.ref)))(r:RowsM H ps xs):∃ as,Reads s.heap (.ref a) (.list (xs.map mD)) as:=by
 obtain⟨its,rv,pl,_⟩:=I.list (SqL.of h)
 obtain⟨as,ha⟩:=Z7q I.hok r rv
 obtain⟨o,ho,hc,n,hd⟩:=pl.isList
 exact⟨_,Reads.list ho hc hd (by simpa using ha)⟩
theorem Y6x (hu:X.A.units+64<cLine):OpR X (compareOp .NotEq) (rEqLM true):=by
 intro pins s σ H x y v u Q I rx ry h
 obtain⟨a,b,ps,qs,xs,ys,rfl,rfl,h1,h2,r1,r2,o1,o2,q⟩:=h
 cases rx;cases ry
 obtain⟨as,ra⟩:=Z9y I h1 r1
 obtain⟨bs,rb⟩:=Z9y I h2 r2
 refine q8f ra rb (Z9u o1) (Z9u o2) hu (by simp only[SeqAt.noMix];exact Y3m xs ys) ⟨.bl (!decide (xs=ys)),H,I,?_,q⟩
 show _=_
 simp only[PySem.Spec.same]
 rw[Y6i]
end
end L2
namespace L2
theorem X2b:bootBuiltins "reversed"=some (.type "reversed"):=by decide +kernel
def Itv (K:U0)(a:W9)(n:Nat):It :=
 ⟨λi H=>i<n/\∃ xs,SqL K H a xs/\xs.length=n,λi H x H'=>H'=H/\∀ xs,SqL K H a xs->xs[n-1-i]?=some x,λi _=>i=n⟩
theorem Y9t {P:U8}{w:W1}{K:U0}{tg:Expr}(a it:W9)(n:Nat):Turn P w K tg (Itv K a n) [it] it (λi h=>i<=n/\h.IsRevIter it a ((n:Int)-1-(i:Int))) where
 mem:=by simp
 obj:=λi h st b hb=>by
  cases q0n.mp hb
  obtain⟨_,o,e,c,d⟩:=st
  exact⟨o,e,λv z=>by rw[d] at z;cases z⟩
 keep:=λi h h' st k=>⟨st.1,st.2.at λo e=>k it (by simp) o e⟩
 item:=by
  intro X hP hw hK hc i pins s σ H E I hf st hg
  subst hP hw hK
  obtain⟨hi,xs,hq,hn⟩:=hg
  obtain⟨its,rv,p,hz⟩:=I.list hq
  have hlt:n-1-i<xs.length:=by omega
  obtain⟨u,hu,ru⟩:=rv.get (q0d hlt)
  obtain⟨f0,f1,f2,f3,f4,f5⟩:=hf it (by simp)
  have e1:(n:Int)-1-(i:Int)=((n-1-i:Nat):Int):=by omega
  have st2:=st.2
  rw[e1] at st2
  refine wpAny_pyNext_rev_item st2 p.isList (x:=u) (by simpa using hu) λh' st' sb=>?_
  have I1:Inv X pins σ H { s with heap:=h' }:=I.turned (t':=s.toks) (λb o hb e=>(sb.2 b hb).trans e) f0 f1 f3 f4 f5
  rw[show ((n-1-i:Nat):Int)-1=(n:Int)-1-((i+1:Nat):Int) by omega] at st'
  obtain⟨o,e,c,d⟩:=id st'
  refine⟨u,Z,X1u (s:={ s with heap:=h' }) e c d (by decide) ⟨xs[n-1-i],H,I1,ru,⟨Z,λys hy=>?_⟩,⟨hi,st'⟩,λb hb=>(hf b hb).1⟩⟩
  rw[I.list_inj hy hq]
  exact q0d hlt
 done:=by
  intro X hP hw hK hc i pins s σ H E I hf st hg
  subst hP hw hK
  obtain⟨f0,f1,f2,f3,f4,f5⟩:=hf it (by simp)
  have hi:i=n:=hg
  have st2:=st.2
  rw[hi,show (n:Int)-1-(n:Int)=-1 by omega] at st2
  exact wpAny_pyNext_rev_end (I.ok.hd hc) st2 λh' eb=>⟨Z,I.turned (t':=s.toks) (λb o hb e=>eb b o hb e) f0 f1 f3 f4 f5⟩
 self:=λ_ _ _ _ _ st h=>wpAny_pyIter_revIter st.2 h
def iRev (K:U0)(ta:TA):TI:=λσ H R=>ta σ H λvs H1=>∃ (l:W9) (xs:List V),vs=[.ref l]/\SqL K H1 l xs/\R (Itv K l xs.length) H1
theorem X8a {X:Cx}{tg a:Expr}{ta:TA}{p pos:Pos}(hg:Gl X "reversed")(hm:X.mg "reversed"=none)(ha:PA X [a] ta)(hs:starEach [a] X.env=[(false,eval a X.env)]:=by rfl) :
  PI X tg (.Call (.Name "reversed" p) [a] [] pos) (iRev X.K ta):=by
 intro pins s σ H R I h
 refine Call_ (Z5y I hg hm X2b (PyProof.Rows.callWith_type1 (thn (ha pos pins s σ H _ I h) λus s1 ⟨vs,H1,I1,r1,q1⟩=>?_) (by rw[hs];rfl) (by rfl)))
 obtain⟨l,xs,e,h1,q⟩:=q1
 subst e
 cases r1 with
 | cons r rr =>
  cases rr
  cases r
  obtain⟨its,rv,pl,hz⟩:=I1.list h1
  have el:=rv.length
  refine call_reversed_list pl.isList ?_
  have it0:(s1.heap.push (revObj l ((its.toArray.size:Int)-1))).IsRevIter s1.heap.objs.size l ((xs.length:Int)-1-((0:Nat):Int)):=⟨_,q0r _ rfl,Z,by rw[q0i,<-el];simp;rfl⟩
  refine wpAny_pyIter_revIter (s:={ s1 with heap:=s1.heap.push (revObj l ((its.toArray.size:Int)-1)) }) it0 ⟨s1.heap.objs.size,[s1.heap.objs.size],_,_,H1,Z,I1.kept (t':=s1.toks) λb o e=>q0g _ e,Y9t l _ xs.length,⟨q1e _,it0⟩,λb hb=>?_,q⟩
  cases q0n.mp hb
  exact I1.fpOk (q0f _) (I1.hok.fresh (q0f _))
theorem X9g {K:U0}{a:W9}{xs:List V}{te:TE}{fr:St}{H1:Hp}{acc:W9}{Q:VK}(Pv:Nat->List V->Hp->Prop)(hn:xs.length<=sizeLine)(h0:Pv 0 [] (upd H1 acc (.lst [])))
  (hl:∀ i ys H,Pv i ys H->SqL K H a xs)
  (hs:∀ i x ys H (N:V->Hp->Prop),xs.reverse[i]?=some x->ys.length=i->Pv i ys H->(∀ y H5,H5 acc=some (.lst ys)->Pv (i+1) (ys++[y]) (upd H5 acc (.lst (ys++[y])))->N y H5)->te (some x::fr) H N)
  (hd:∀ ys H,ys.length=xs.length->Pv xs.length ys H->Q (.ref acc) H) :
  LcW (Itv K a xs.length) (gName 0) te (none::fr) H1 acc Q:=by
 have rv:∀ i,i<xs.length->xs.reverse[i]?=some (xs.getD (xs.length-1-i) .non)/\xs[xs.length-1-i]?=some (xs.getD (xs.length-1-i) .non):=λi hi=>by
  have hj:xs.length-1-i<xs.length:=by omega
  have e:xs[xs.length-1-i]?=some (xs.getD (xs.length-1-i) .non):=by rw[q1b,q0d hj];rfl
  exact⟨by rw[q5u hi];exact e,e⟩
 refine X1p (J:=Itv K a xs.length) (n:=xs.length) (val:=λi=>xs.getD (xs.length-1-i) .non) Pv hn h0 (λi ys H hi p=>⟨⟨hi,xs,hl i ys H p,Z⟩,λx H' y=>⟨y.1,?_⟩⟩) (λys H p=>rfl) (λi ys H N hi hy p kN=>hs i _ ys H N (rv i hi).1 hy p kN) hd
 have:=y.2 xs (hl i ys H p)
 rw[(rv i hi).2] at this
 exact(Option.some.inj this).symm
end L2
namespace K75
open L2 Am Pc Ba
theorem Z7z {x h y g N:Int}(hh:0<=h)(hg:0<=g)(h1:h<=N)(h2:g<=N):Eq2 x h y g ↔ x*p2 (N-h)=y*p2 (N-g):=by
 unfold Eq2
 have e1:=Z4x hh h1
 have e2:=Z4x hg h2
 have n1:=Y0b h
 have n2:=Y0b g
 have n3:=Y0b (N-h)
 have n4:=Y0b (N-g)
 have n5:=Y0b N
 constructor
 ·intro z
  have:(x*p2 (N-h))*(p2 h*p2 g)=(y*p2 (N-g))*(p2 h*p2 g):=by
   have a1:(x*p2 (N-h))*(p2 h*p2 g)=(x*p2 g)*p2 N:=by rw[e1];grind
   have a2:(y*p2 (N-g))*(p2 h*p2 g)=(y*p2 h)*p2 N:=by rw[e2];grind
   rw[a1,a2,z]
  exact q3h (Int.mul_ne_zero n1 n2) this
 ·intro z
  have:(x*p2 g)*p2 N=(y*p2 h)*p2 N:=by
   have a1:(x*p2 (N-h))*(p2 h*p2 g)=(x*p2 g)*p2 N:=by rw[e1];grind
   have a2:(y*p2 (N-g))*(p2 h*p2 g)=(y*p2 h)*p2 N:=by rw[e2];grind
   rw[<-a1,<-a2,z]
  exact q3h n5 this
noncomputable def va (x:A5)(M:Int):Int:=x.1.1*p2 (M-x.2)
noncomputable def vb (x:A5)(M:Int):Int:=x.1.2.1*p2 (M-x.2)
noncomputable def vc (x:A5)(M:Int):Int:=x.1.2.2.1*p2 (M-x.2)
noncomputable def vd (x:A5)(M:Int):Int:=x.1.2.2.2*p2 (M-x.2)
theorem X4t {n:Int}(h:0<=n):p2 (n+2)=4*p2 n:=by
 rw[Y0c h (by decide),show p2 2=4 from rfl,q2k]
theorem Z8e {a a' u h h' g M:Int}(h0:0<=h)(h0':0<=h')(g0:0<=g)(l1:h+h'<=M)(l2:g<=M)(e:Eq2 (a*p2 h'+a'*p2 h) (h+h') u g):u*p2 (M-g)=a*p2 (M-h)+a'*p2 (M-h'):=by
 have z:=(Z7z (by omega) g0 l1 l2).mp e
 have e1:p2 (M-h)=p2 (M-(h+h'))*p2 h':=by rw[<-Y0c (by omega) h0'];congr 1;omega
 have e2:p2 (M-h')=p2 (M-(h+h'))*p2 h:=by rw[<-Y0c (by omega) h0];congr 1;omega
 rw[<-z,e1,e2]
 grind
theorem Z6g {u v h g M:Int}(h0:0<=h)(g0:0<=g)(l1:h<=M)(l2:g<=M+1)(e:Eq2 u (h+1) v g):v*p2 (M+1-g)=u*p2 (M-h):=by
 have z:=(Z7z (N:=M+1) (by omega) g0 (by omega) l2).mp e
 rw[<-z]
 congr 2
 omega
theorem Mix.vals {s:Int}{x y z:A5}(m:Mix s x y z)(hx:0<=x.2)(hy:0<=y.2):∃ M0:Int,∀ M,M0<=M →
  va z (M+1)=(vb x M+s*vb y M)-(vd x M+s*vd y M)/\vb z (M+1)=(va x M+s*va y M)+(vc x M+s*vc y M)/\vc z (M+1)=(vb x M+s*vb y M)+(vd x M+s*vd y M)/\vd z (M+1)=(vc x M+s*vc y M)-(va x M+s*va y M):=by
 obtain⟨p,S,az,R⟩:=m.ex
 have p0:=S.amt.nn
 have z0:=az.nn
 refine⟨x.2+y.2+p.2+z.2,λM hM=>?_⟩
 have l1:x.2+y.2<=M:=by omega
 have l2:p.2<=M:=by omega
 have l3:z.2<=M+1:=by omega
 have a1:=Z8e hx hy p0 l1 l2 S.same.e1
 have a2:=Z8e hx hy p0 l1 l2 S.same.e2
 have a3:=Z8e hx hy p0 l1 l2 S.same.e3
 have a4:=Z8e hx hy p0 l1 l2 S.same.e4
 have r1:=Z6g p0 z0 l2 l3 R.e1
 have r2:=Z6g p0 z0 l2 l3 R.e2
 have r3:=Z6g p0 z0 l2 l3 R.e3
 have r4:=Z6g p0 z0 l2 l3 R.e4
 unfold va vb vc vd
 rw[r1,r2,r3,r4,Int.sub_mul,Int.add_mul,Int.add_mul,Int.sub_mul,a1,a2,a3,a4]
 refine⟨?_,?_,?_,?_⟩<;>grind
theorem Z8d {x y:A5}{M:Int}(ax:Amt x.1.1 x.1.2.1 x.1.2.2.1 x.1.2.2.2 x.2)(ay:Amt y.1.1 y.1.2.1 y.1.2.2.1 y.1.2.2.2 y.2)(l1:x.2<=M)(l2:y.2<=M)(e1:va x M=va y M)(e2:vb x M=vb y M)(e3:vc x M=vc y M)(e4:vd x M=vd y M):x=y :=
 W0x (ax.unique ay ⟨(Z7z ax.nn ay.nn l1 l2).mpr e1,(Z7z ax.nn ay.nn l1 l2).mpr e2,(Z7z ax.nn ay.nn l1 l2).mpr e3,(Z7z ax.nn ay.nn l1 l2).mpr e4⟩)
theorem Y2h {x:A5}{M:Int}(l:x.2<=M):va x (M+2)=4*va x M/\vb x (M+2)=4*vb x M/\vc x (M+2)=4*vc x M/\vd x (M+2)=4*vd x M:=by
 unfold va vb vc vd
 rw[show M+2-x.2=(M-x.2)+2 by omega,X4t (by omega)]
 refine⟨?_,?_,?_,?_⟩<;>grind
theorem Mix.amt {s:Int}{x y z:A5}(m:Mix s x y z):Amt z.1.1 z.1.2.1 z.1.2.2.1 z.1.2.2.2 z.2:=by
 obtain⟨p,_,az,_⟩:=m.ex
 exact az
theorem X6b {x y z0 z1 x' y':A5}(ax:Amt x.1.1 x.1.2.1 x.1.2.2.1 x.1.2.2.2 x.2)(ay:Amt y.1.1 y.1.2.1 y.1.2.2.1 y.1.2.2.2 y.2)(m0:Mix 1 x y z0)(m1:Mix (-1) x y z1)(n0:Mix 1 z0 z1 x')(n1:Mix (-1) z0 z1 y'):x'=x/\y'=y:=by
 have a0:=m0.amt
 have a1:=m1.amt
 have b0:=n0.amt
 have b1:=n1.amt
 obtain⟨M1,h1⟩:=m0.vals ax.nn ay.nn
 obtain⟨M2,h2⟩:=m1.vals ax.nn ay.nn
 obtain⟨M3,h3⟩:=n0.vals a0.nn a1.nn
 obtain⟨M4,h4⟩:=n1.vals a0.nn a1.nn
 have nx:=ax.nn
 have ny:=ay.nn
 have nx':=b0.nn
 have ny':=b1.nn
 obtain⟨M,g1,g2,g3,g4,g5,g6,g7,g8⟩:∃ M:Int,M1<=M/\M2<=M/\M3<=M+1/\M4<=M+1/\x.2<=M/\y.2<=M/\x'.2<=M/\y'.2<=M :=
  ⟨max M1 0+max M2 0+max M3 0+max M4 0+x.2+y.2+x'.2+y'.2,by omega,by omega,by omega,by omega,by omega,by omega,by omega,by omega⟩
 obtain⟨p1,p2',p3,p4⟩:=h1 M g1
 obtain⟨q1,q2,q3,q4⟩:=h2 M g2
 obtain⟨r1,r2,r3,r4⟩:=h3 (M+1) g3
 obtain⟨s1,s2,s3,s4⟩:=h4 (M+1) g4
 obtain⟨x1,x2,x3,x4⟩:=Y2h g5
 obtain⟨y1,y2,y3,y4⟩:=Y2h g6
 rw[show M+1+1=M+2 by omega] at r1 r2 r3 r4 s1 s2 s3 s4
 constructor
 ·exact Z8d b0 ax (M:=M+2) (by omega) (by omega) (by omega) (by omega) (by omega) (by omega)
 ·exact Z8d b1 ay (M:=M+2) (by omega) (by omega) (by omega) (by omega) (by omega) (by omega)
inductive Gm where
 | mv (v:Mv)
 | mix (a:Nat)
namespace Gm
noncomputable def nm:Gm->Str
 | mv v=>v.nm
 | mix _=>"mix"
noncomputable def ns:Gm->List Int
 | mv v=>v.ns
 | mix a=>[(a:Int)]
def Ok (c:Nat):Gm->Prop
 | mv v=>v.Ok c
 | mix a=>a<c
noncomputable def back:Gm->Gm
 | mv (.turn a k)=>mv (.turn a (8-k))
 | m=>m
noncomputable abbrev mm (m:Gm):Mm:=(m.nm,m.ns)
end Gm
def Step (c:Nat):Gm->(Nat->A5)->(Nat->A5)->Prop
 | .mv v,f,g=>∀ w,w<2^c->g w=spin (f (v.to w)) (v.sp w:Nat)
 | .mix a,f,g=>∀ w,w<2^c->MixAt f a w (g w)
inductive Steps (c:Nat):List Gm->(Nat->A5)->(Nat->A5)->Prop
 | nil {f:Nat->A5}:Steps c [] f f
 | cons {m:Gm}{ms:List Gm}{f g h:Nat->A5}:Step c m f g->Steps c ms g h->Steps c (m::ms) f h
theorem Steps.snoc {c:Nat}:∀ {a:List Gm}{m:Gm}{f g h:Nat->A5},Steps c a f g->Step c m g h->Steps c (a++[m]) f h
 | _,_,_,_,_,.nil,s=>.cons s .nil
 | _,_,_,_,_,.cons s t,r=>.cons s (Steps.snoc t r)
abbrev Ams (c:Nat)(f:Nat->A5):Prop:=∀ w,w<2^c->Amt (f w).1.1 (f w).1.2.1 (f w).1.2.2.1 (f w).1.2.2.2 (f w).2
theorem Y2d {v:Int × Int × Int × Int}{h:Int}(o:Amt v.1 v.2.1 v.2.2.1 v.2.2.2 h):∀ k,Amt (rot k v).1 (rot k v).2.1 (rot k v).2.2.1 (rot k v).2.2.2 h
 | 0=>o
 | k+1=>by
  have:=Y2d o k
  refine⟨this.nn,?_⟩
  have o:h=0∨(rot k v).1%2=1∨(rot k v).2.1%2=1∨(rot k v).2.2.1%2=1∨(rot k v).2.2.2%2=1:=this.odd
  show h=0∨(-(rot k v).2.2.2)%2=1∨(rot k v).1%2=1∨(rot k v).2.1%2=1∨(rot k v).2.2.1%2=1
  omega
theorem Step.ams {c:Nat}{m:Gm}{f g:Nat->A5}(hc:c<=6)(ok:m.Ok c)(s:Step c m f g)(a:Ams c f):Ams c g:=by
 intro w hw
 cases m with
 | mv v =>
  have e:g w=spin (f (v.to w)) (v.sp w:Nat):=s w hw
  rw[e]
  exact Y2d (a _ (Mv.to_lt hc ok hw)) _
 | mix a =>
  have e:MixAt f a w (g w):=s w hw
  unfold MixAt at e
  split at e
  ·exact e.amt
  ·exact e.amt
theorem Z9o (x:A5){k:Nat}(h:k<=8):spin (spin x (k:Nat)) ((8-k:Nat):Int)=x:=by
 obtain⟨⟨a,b,c,d⟩,g⟩:=x
 have:k=0∨k=1∨k=2∨k=3∨k=4∨k=5∨k=6∨k=7∨k=8:=by omega
 rcases this with rfl | rfl | rfl | rfl | rfl | rfl | rfl | rfl | rfl<;>simp[spin,rot]
theorem Y5r {c:Nat}{m:Gm}{f g k h:Nat->A5}(hc:c<=6)(ok:m.Ok c)(af:Ams c f)(s:Step c m f g)(e:∀ w,w<2^c->k w=g w)(t:Step c m.back k h):∀ w,w<2^c->h w=f w:=by
 intro w hw
 cases m with
 | mix a =>
  have ok:a<c:=ok
  have s':∀ w,w<2^c->MixAt f a w (g w):=s
  have t':∀ w,w<2^c->MixAt k a w (h w):=t
  have key:∀ u,u<2^c->u / 2^a%2=0->h u=f u/\h (u+2^a)=f (u+2^a):=λu hu hb=>by
   obtain⟨_,_,l2,b2⟩:=X3r hc ok hu hb
   have m0:=s' u hu
   have m1:=s' (u+2^a) l2
   have n0:=t' u hu
   have n1:=t' (u+2^a) l2
   unfold MixAt at m0 m1 n0 n1
   rw[if_pos hb] at m0 n0
   rw[if_neg (by omega),Nat.add_sub_cancel] at m1 n1
   rw[e u hu,e _ l2] at n0 n1
   exact X6b (af u hu) (af _ l2) m0 m1 n0 n1
  by_cases hb:w / 2^a%2=0
  ·exact(key w hw hb).1
  ·obtain⟨_,_,l2,b2⟩:=X2i hc ok hw hb
   have:=(key (w-2^a) (q2d (q8o _ _) hw) b2).2
   rw[Nat.sub_add_cancel l2] at this
   exact this
 | mv v =>
  have s':∀ w,w<2^c->g w=spin (f (v.to w)) (v.sp w:Nat):=s
  cases v with
  | turn a kk =>
   have ok:a<c/\1<=kk/\kk<=7:=ok
   have t':∀ w,w<2^c->h w=spin (k w) ((if w&&&2^a=2^a then 8-kk else 0:Nat):Int):=t
   have s1:g w=spin (f w) ((if w&&&2^a=2^a then kk else 0:Nat):Int):=s' w hw
   rw[t' w hw,e w hw,s1]
   by_cases q:w&&&2^a=2^a
   ·rw[if_pos q,if_pos q]
    exact Z9o _ (by omega)
   ·rw[if_neg q,if_neg q]
    rfl
  | pair a b =>
   have t':∀ w,w<2^c->h w=spin (k w) ((if w&&&(2^a ||| 2^b)=(2^a ||| 2^b) then 4 else 0:Nat):Int):=t
   have s1:g w=spin (f w) ((if w&&&(2^a ||| 2^b)=(2^a ||| 2^b) then 4 else 0:Nat):Int):=s' w hw
   rw[t' w hw,e w hw,s1]
   by_cases q:w&&&(2^a ||| 2^b)=(2^a ||| 2^b)
   ·rw[if_pos q]
    exact Z9o _ (by decide)
   ·rw[if_neg q]
    rfl
  | flip a =>
   have t':∀ w,w<2^c->h w=k ((Mv.flip a).to w):=t
   have l:=Mv.to_lt (v:=.flip a) hc ok hw
   have s1:g ((Mv.flip a).to w)=f ((Mv.flip a).to ((Mv.flip a).to w)):=s' _ l
   rw[t' w hw,e _ l,s1,Mv.Y1b (v:=.flip a) hc ok hw]
  | iff a b =>
   have t':∀ w,w<2^c->h w=k ((Mv.iff a b).to w):=t
   have l:=Mv.to_lt (v:=.iff a b) hc ok hw
   have s1:g ((Mv.iff a b).to w)=f ((Mv.iff a b).to ((Mv.iff a b).to w)):=s' _ l
   rw[t' w hw,e _ l,s1,Mv.Y1b (v:=.iff a b) hc ok hw]
  | swap a b =>
   have t':∀ w,w<2^c->h w=k ((Mv.swap a b).to w):=t
   have l:=Mv.to_lt (v:=.swap a b) hc ok hw
   have s1:g ((Mv.swap a b).to w)=f ((Mv.swap a b).to ((Mv.swap a b).to w)):=s' _ l
   rw[t' w hw,e _ l,s1,Mv.Y1b (v:=.swap a b) hc ok hw]
  | cross a b d =>
   have t':∀ w,w<2^c->h w=k ((Mv.cross a b d).to w):=t
   have l:=Mv.to_lt (v:=.cross a b d) hc ok hw
   have s1:g ((Mv.cross a b d).to w)=f ((Mv.cross a b d).to ((Mv.cross a b d).to w)):=s' _ l
   rw[t' w hw,e _ l,s1,Mv.Y1b (v:=.cross a b d) hc ok hw]
theorem Gm.fits {m:Gm}{c:Nat}(h:m.Ok c):Fits m.nm m.ns c:=by
 cases m with
 | mv v=>exact Mv.fits h
 | mix a =>
  have e:named "mix" [(a:Int)]=[(a:Int)]:=by unfold named;rw[if_neg (by decide +kernel)]
  have h:a<c:=h
  exact⟨⟨(show numAt NB "mix"=some (.int ((1:Nat):Int)) by decide +kernel),(show 1<=3 by decide),λz=>absurd (show ("mix":Str)="turn" from z) (by decide +kernel)⟩,by show ∀ x∈named "mix" [(a:Int)],_;rw[e];intro b hb;rw[q0n.mp hb];omega,by show (named "mix" [(a:Int)]).Nodup;rw[e];simp⟩
theorem Z6i {n:Nat}{M:Int}{x:A5}{k:Int}(o:Ok5 n M x):Ok5 n M (spin x k):=Y7a o _
theorem Bd5.bo {K:U0}{H:Hp}{l:W9}{ps:U3}{f:Nat->A5}{c n m:Nat}(b:Bd5 K H l ps f c n m):Bo K H l ps f c:=⟨b.lst,b.len,b.vals⟩
def Z9p (K:U0):Sp:=λvs H Q _=>∃ (l p:W9) (ps:U3) (f:Nat->A5) (c n M:Nat) (m:Gm),vs=[.ref l,.ref p]/\H p=some (MvT m.nm m.ns)/\m.Ok c/\Bd5 K H l ps f c n M/\c<=6/\n<=450000/\M<=10000 ∧
 ∀ (r:W9) (H':Hp) (qs:U3) (g:Nat->A5),H r=none->Same H H'->Bd5 K H' r qs g c (n+2*M+3) (M+1)->Step c m f g->Q (.ref r) H'
section
variable {P:U8}{w:W1}{K:U0}{mg:U4}{base:Heap}{k:Nat}{h:Heap}
theorem sc_turned:FnScope ["board","move"] ["board","move"] (Z0h (top 32)):=fS
theorem Y6z (F:FunAt K "turned" (top 32) .none)(X:K.In h)(G:Ng h mg)(B:Bs mg)(dU:Cal P w K mg base k "check_move" ["move","cells"] Y5z)(eD:Cal P w K mg base k "cells_of" ["board"] (Z9s K))(eS:Cal P w K mg base k "mixed" ["board","bit"] (Y2r K))(cW:Cal P w K mg base k "spun_where" ["board","bits","k"] (Y2n K))
  (dN:Cal P w K mg base k "word_behind" ["word","move"] Y2w):Cal P w K mg base (k+1) "turned" ["board","move"] (Z9p K):=by
 have nd:=sc_turned.nd
 refine F.cal X G sc_turned (bnd2 λ_ _ _ _ _ _ _ _=>rfl) (λvs H Q E h=>?_) (λf cdv A outer s H vs Q E hr h=>?_)
 ·obtain⟨l,p,ps,f,c,n,M,m,rfl,_⟩:=h;rfl
 obtain⟨l,p,ps,g,c,n,M,m,rfl,hp,ok,BD,c6,n4,m1,kq0⟩:=h
 have p6:=pow6 c6
 have BO:=BD.bo
 have ip:∀ a:Nat,(1:Int)*2^((a:Int)).toNat=((2^a:Nat):Int):=λa=>ipow a
 refine⟨_,(@Z0g _ _ _ _ _ (Z2i (Z0k dU hr rfl (Z0a (pv 1) (Z0a (Z0k eD hr rfl (Z0a (pv 0) Z0e)) Z0e))))
  (@Z0g _ _ _ _ _ (Z0y (Z0n Z1o (Z0m Z0l (pv 1) Z0b (λ_ _=>rfl)) Z0x (nomark _))
   (@Z0f _ _ _ (Z0j (Z0k eS hr rfl (Z0a (pv 0) (Z0a (Z0i Z2f Z0b (Z0m Z0l (pv 1) Z0b (λ_ _=>rfl))) Z0e)))))
   Z0p)
  (@Z0g _ _ _ _ _ (Z0y (Z0n Z1o (Z0m Z0l (pv 1) Z0b (λ_ _=>rfl)) Z0x (nomark _))
   (@Z0f _ _ _ (Z0j (Z0k cW hr rfl (Z0a (pv 0) (Z0a (Z0i Z2f Z0b (Z0m Z0l (pv 1) Z0b (λ_ _=>rfl))) (Z0a (Z0m Z0l (pv 1) Z0b (λ_ _=>rfl)) Z0e))))))
   Z0p)
  (@Z0g _ _ _ _ _ (Z0y (Z0n Z1o (Z0m Z0l (pv 1) Z0b (λ_ _=>rfl)) Z0x (nomark _))
   (@Z0f _ _ _ (Z0j (Z0k cW hr rfl (Z0a (pv 0) (Z0a (Z0i Y0f (Z0i Z2f Z0b (Z0m Z0l (pv 1) Z0b (λ_ _=>rfl))) (Z0i Z2f Z0b (Z0m Z0l (pv 1) Z0b (λ_ _=>rfl)))) (Z0a Z0b Z0e))))))
   Z0p)
  (@Z0f _ _ _ (Z0j (Z4l rfl (LcOk.of (Nc:=["word","board","move"]) (mp:=[none,some 0,some 1]) (by kernel_rfl)) (Z1k rfl B.range (Z0a (Z0q Z0u rfl B.len q1m (Z0a (pv 0) Z0e)) Z0e)) (λ_ _ _ _=>(Z0w (i:=0) (show (["word","board","move"]:W0).Nodup by decide +kernel) rfl (Or.inl rfl))) (λ_ _ _ _=>(Z0m Z8w (pv 1) (Z0k dN hr rfl (Z0a (pv 0) (Z0a (pv 2) Z0e))) (λ_ _=>rfl)))))))))),?_⟩
 try dsimp only[cxK]
 refine⟨_,Z,_,Z,l,_,c,Z,SqL.of BO.lst,by rw[q0a,BO.len],c6,p,m.nm,m.ns,c,Z,hp,Gm.fits ok,λH1 S1=>?_⟩
 have SP:SqT K H1 p (.str m.nm::m.ns.map V.int):=SqT.of (S1 _ _ hp)
 have B1:=BO.same S1
 have BD1:=BD.same S1
 cases m with
 | mix a =>
  have ac:a<c:=ok
  refine⟨_,Z,p,_,_,.str "mix",Z,Z,SP,at0,Z,_,Z,decI (λ_=>?_) (λz=>absurd rfl z)⟩
  refine⟨_,Z,_,Z,p,_,_,.int a,Z,Z,SP,Z,_,_,Z,Z,⟨1,sz1,by omega,by omega⟩,?_⟩
  exact⟨l,ps,g,c,n,M,a,congrArg (λz=>[V.ref l,V.int z]) (ip a),BD1,c6,ac,n4,m1,λr H2 qs y hr2 S2 B2 M2=>kq0 r H2 qs y (S1.free hr2) (S1.trans S2) B2 M2⟩
 | mv v =>
 have SP:SqT K H1 p (.str v.nm::v.ns.map V.int):=SP
 have ok:v.Ok c:=ok
 have hp:H p=some (MvT v.nm v.ns):=hp
 have kq:∀ (r:W9) (H':Hp) (qs:U3) (y:Nat->A5),H r=none->Same H H'->Bo K H' r qs y c->(∀ w,w<2^c->y w=spin (g (v.to w)) (v.sp w:Nat))->Q (.ref r) H':=λr H' qs y h1 h2 h3 h4 =>
  kq0 r H' qs y h1 h2 ⟨h3.lst,h3.len,h3.vals,λi hi=>by rw[h4 i hi];exact(Z6i (BD.ok _ (Mv.to_lt c6 ok hi))).mono (by omega) (by omega)⟩ h4
 refine⟨_,Z,p,_,_,.str v.nm,Z,Z,SP,at0,Z,_,Z,decI (λz=>absurd (V.str.inj z) (X5w v)) (λ_=>?_)⟩
 refine⟨_,Z,p,_,_,.str v.nm,Z,Z,SP,at0,Z,_,Z,decI (λz=>?_) (λzt=>?_)⟩
 ·obtain⟨a,kk,rfl⟩:=X5x (V.str.inj z)
  have ok:a<c/\1<=kk/\kk<=7:=ok
  refine⟨_,Z,_,Z,p,_,_,.int a,Z,Z,SP,Z,_,_,Z,Z,⟨1,sz1,by omega,by omega⟩,_,Z,p,_,_,.int kk,Z,Z,SP,Z,?_⟩
  refine⟨l,ps,g,c,2^a,kk,(by show [V.ref l,V.int (1*2^((a:Int)).toNat),V.int (kk:Int)]=_;rw[ip]),B1,c6,λr H2 qs y hr2 S2 B2 M2=>kq r H2 qs y (S1.free hr2) (S1.trans S2) B2 λw hw=>?_⟩
  rw[M2 w hw]
  show _=spin (g w) ((if w&&&2^a=2^a then kk else 0:Nat):Int)
  split
  ·rfl
  ·rfl
 refine⟨_,Z,p,_,_,.str v.nm,Z,Z,SP,at0,Z,_,Z,decI (λz=>?_) (λzp=>?_)⟩
 ·obtain⟨a,b,rfl⟩:=X5y (V.str.inj z)
  have ok:a<c/\b<c/\a≠b:=ok
  refine⟨_,Z,_,Z,p,_,_,.int a,Z,Z,SP,Z,_,_,Z,Z,⟨1,sz1,by omega,by omega⟩,_,Z,p,_,_,.int b,Z,Z,SP,Z,_,_,Z,Z,⟨1,sz1,by omega,by omega⟩,_,_,Z,Z,?_⟩
  refine⟨l,ps,g,c,2^a ||| 2^b,4,(by show [V.ref l,V.int (Builtin.bitOr (1*2^((a:Int)).toNat) (1*2^((b:Int)).toNat)),V.int 4]=_;rw[ip,ip,or_i]),B1,c6,λr H2 qs y hr2 S2 B2 M2=>kq r H2 qs y (S1.free hr2) (S1.trans S2) B2 λw hw=>?_⟩
  rw[M2 w hw]
  show _=spin (g w) ((if w&&&(2^a ||| 2^b)=(2^a ||| 2^b) then 4 else 0:Nat):Int)
  split
  ·rfl
  ·rfl
 have nt:v.nm≠"turn":=λe=>zt (by rw[e])
 have np:v.nm≠"pair":=λe=>zp (by rw[e])
 have hlen:(((ps.map V.ref).length:Nat):Int).toNat=2^c:=by rw[q0a,BO.len,q1h]
 have SL:SqL K H1 l (ps.map V.ref):=SqL.of B1.lst
 refine⟨_,Z,l,_,Z,.inl SL,_,Z,by rw[q0a,BO.len];omega,by rw[q0a,BO.len];omega,λacc hacc=>?_⟩
 rw[hlen]
 refine Z6k (n:=2^c) (fr:=[some (.ref l),some (.ref p)]) (λi ys H'=>∃ (qs:U3) (y:Nat->A5),Same H1 H'/\H' acc=some (.lst ys)/\ys=qs.map V.ref/\qs.length=i/\ValsK K H' qs y/\∀ j,j<i->y j=g (v.to j)) (t64 p6)
  ⟨[],λ_=>((0,0,0,0),0),Z0c hacc _,Z0d,Z,Z,(λ_ _ z=>by cases z),λj hj=>absurd hj (q4f _)⟩ ?_ ?_
 ·rintro i ys H2 N hi hy ⟨qs,y,S2,a2,rfl,ql,v2,ok2⟩ kN
  refine⟨_,Z,_,Z,_,Z,i,p,v,c,(by show [V.int (0+(i:Int)),V.ref p]=_;rw[q2x]),S2 _ _ (S1 _ _ hp),ok,c6,nt,np,λH3 S3=>?_⟩
  obtain⟨q,_,hq,aq⟩:=((B1.same S2).same S3).at (Mv.to_lt c6 ok hi)
  refine⟨l,_,_,_,Z,Z,SqL.of (S3 _ _ (S2 _ _ B1.lst)),aq,?_⟩
  refine kN (.ref q) H3 (S3 _ _ a2) ⟨qs++[q],λj=>if j=qs.length then g (v.to i) else y j,Z0v (S2.trans S3) hacc,Z0d,by rw[q0b];rfl,by simp[ql],Z3m (xs:=qs.map V.ref) (Z3g v2 S3 hq) (S3 _ _ a2),λj hj=>?_⟩
  show (if j=qs.length then g (v.to i) else y j)=_
  by_cases e:j=qs.length
  ·rw[if_pos e,e,ql]
  ·rw[if_neg e]
   exact ok2 j (by omega)
 ·rintro ys H2 hy ⟨qs,y,S2,a2,rfl,ql,v2,ok2⟩
  refine kq acc H2 qs y (S1.free hacc) (S1.trans S2) ⟨a2,ql,v2⟩ λw hw=>?_
  rw[ok2 w hw,X4a nt np w]
  rfl
def Mvs (H:Hp)(ps:U3)(ms:List Gm):Prop:=RowsM H ps (ms.map Gm.mm)
theorem Mvs.same {H H':Hp}{ps:U3}{ms:List Gm}(h:Mvs H ps ms)(s:Same H H'):Mvs H' ps ms:=RowsM.same h s
theorem Mvs.length {H:Hp}{ps:U3}{ms:List Gm}(h:Mvs H ps ms):ps.length=ms.length:=by
 have:=Paired.length h
 rw[q0a] at this
 exact this
theorem Mvs.get {H:Hp}:∀ {ps:U3}{ms:List Gm}{i:Nat}{p:W9},Mvs H ps ms->ps[i]?=some p->∃ m,ms[i]?=some m/\H p=some (MvT m.nm m.ns)
 | p'::ps,m::ms,0,p,.cons a r,h=>by
  have:p'=p:=by simpa using h
  subst this
  exact⟨m,Z,a⟩
 | p'::ps,m::ms,i+1,p,.cons a r,h=>by
  obtain⟨m',b,c⟩:=Mvs.get (ps:=ps) (ms:=ms) (i:=i) (p:=p) r (by simpa using h)
  exact⟨m',b,c⟩
structure Rw (H:Hp) (l:W9) (ps:U3) (ms:List Gm) (c:Nat):Prop where
 lst:H l=some (.lst (ps.map V.ref))
 mvs:Mvs H ps ms
 ok:∀ m∈ms,m.Ok c
 len:ms.length<=200
theorem Rw.same {H H':Hp}{l:W9}{ps:U3}{ms:List Gm}{c:Nat}(r:Rw H l ps ms c)(s:Same H H'):Rw H' l ps ms c:=⟨s _ _ r.lst,r.mvs.same s,r.ok,r.len⟩
def spRunK (K:U0):Sp:=λvs H Q _=>∃ (l lr:W9) (ps rp:U3) (f:Nat->A5) (c n M:Nat) (ms:List Gm),vs=[.ref l,.ref lr]/\Rw H lr rp ms c/\Bd5 K H l ps f c n M/\c<=6/\M<=300/\n<=210000 ∧
 ∀ (r:W9) (H':Hp) (qs:U3) (g:Nat->A5),H r=none->Same H H'->Bd5 K H' r qs g c (n+1010*ms.length) (M+ms.length)->Steps c ms f g->Q (.ref r) H'
theorem sc_run:FnScope ["board","row","behind","move"] ["board","row"] (Z0h (top 58)):=fS
theorem X8l (F:FunAt K "run" (top 58) .none)(X:K.In h)(G:Ng h mg)(B:Bs mg)(eM:Cal P w K mg base k "turned" ["board","move"] (Z9p K)):Cal P w K mg base (k+1) "run" ["board","row"] (spRunK K):=by
 have nd:=sc_run.nd
 refine F.cal X G sc_run (bnd2 λ_ _ _ _ _ _ _ _=>rfl) (λvs H Q E h=>?_) (λf cdv A outer s H vs Q E hr h=>?_)
 ·obtain⟨l,lr,ps,rp,f,c,n,M,ms,rfl,_⟩:=h;rfl
 obtain⟨l,lr,ps,rp,g,c,n,M,ms,rfl,RW,BD,c6,M3,n2,kq⟩:=h
 have l200:=RW.len
 have lps:=RW.mvs.length
 have SR:SqL K H lr (rp.map V.ref):=SqL.of RW.lst
 refine⟨_,(@Z0g _ _ _ _ _ (@Z0o _ _ 2 _ _ _ _ nd rfl (Or.inl rfl) (Z4d Z3b rfl B.list q8h (Z0a (pv 0) Z0e)) rfl (.inl rfl))
  (@Z0g _ _ _ _ _ (Z2r PassesOwn.never rfl (Z2x (pv 1)) (Z0w (i:=3) nd rfl (Or.inl rfl))
   (@Z0f _ _ _ (@Z0o _ _ 2 _ _ _ _ nd rfl (Or.inl rfl) (Z0k eM hr rfl (Z0a (pv 2) (Z0a (pv 3) Z0e))) rfl (.inl rfl))))
  (@Z0f _ _ _ (Z0j (pv 2))))),?_⟩
 try dsimp only[cxK]
 refine⟨_,Z,l,_,Z,.inl (SqL.of BD.lst),λb0 hb0=>?_⟩
 have s0:=Z0c hb0 (.lst (ps.map V.ref))
 refine⟨_,Z,lr,Z,⟨_,s0.seq SR⟩,Y3z (K:=K) (a:=lr) (xs:=rp.map V.ref) (λi σ H'=>Same H H'/\∃ (b:W9) (qs:U3) (y:Nat->A5) (v3:Option V),H b=none/\Bd5 K H' b qs y c (n+1010*i) (M+i)/\Steps c (ms.take i) g y/\σ=[some (.ref l),some (.ref lr),some (.ref b),v3])
  ⟨s0,b0,ps,g,none,hb0,⟨Z0d,BD.len,BD.vals.same s0,BD.ok⟩,by rw[q2l];exact .nil,Z⟩ (λi σ H' _ e=>e.1.seq SR) ?_ ?_⟩
 ·rintro i x σ H1 hx ⟨S1,b,qs,y,v3,hb,B1,ST,rfl⟩
  have ilt:i<ms.length:=by
   have:=(q0t.mp hx).1
   rw[q0a] at this
   omega
  rw[q0k] at hx
  obtain⟨p,hp,rfl⟩:=q0x.mp hx
  obtain⟨m,hm,p0⟩:=RW.mvs.get hp
  refine⟨_,Z,_,Z,b,p,qs,y,c,_,_,m,Z,S1 _ _ p0,RW.ok m (q2r hm),B1,c6,by omega,by omega,λr H2 rs z hr S2 B2 st=>?_⟩
  refine⟨S1.trans S2,r,rs,z,_,S1.free hr,⟨B2.lst,B2.len,B2.vals,λj hj=>(B2.ok j hj).mono (by omega) (by omega)⟩,?_,Z⟩
  rw[q1y,hm]
  exact ST.snoc st
 ·rintro σ H1 ⟨S1,b,qs,y,v3,hb,B1,ST,rfl⟩
  rw[q0a,lps] at B1 ST
  rw[q4r] at ST
  exact⟨_,Z,kq b H1 qs y hb S1 B1 ST⟩
theorem atm {ns:U6}{z:Int}(h:0<ns.length):∃ i,i<ns.length/\atI (ns.map V.int) (z%((ns.map V.int).length:Nat))=some (.int (ns.getD i 0)):=by
 have l:(ns.map V.int).length=ns.length:=q0a ..
 have h0:=q1i z (show ((ns.map V.int).length:Int)≠0 by omega)
 have h1:=q1f z (show (0:Int)<((ns.map V.int).length:Nat) by omega)
 refine⟨(z%((ns.map V.int).length:Nat)).toNat,by omega,?_⟩
 have e:z%((ns.map V.int).length:Nat)=(((z%((ns.map V.int).length:Nat)).toNat:Nat):Int):=by omega
 rw[e]
 refine L2.Z1e ?_
 rw[q1h,q0k,q0d (by omega),q1b,q0d (by omega)]
 rfl
theorem X1l {ns:U6}(l:Light ns)(i:Nat):Sz 1048576 (ns.getD i 0):=by
 rw[q1b]
 by_cases h:i<ns.length
 ·rw[q0d h]
  exact l _ (q5y h)
 ·rw[List.getElem?_eq_none (by omega)]
  exact q2f _
def Z4v (K:U0):Sp:=λvs H Q _=>∃ (a:W9) (ns:U6) (z:Int),vs=[.ref a,.int z]/\SqL K H a (ns.map V.int)/\Light ns/\0<=z/\z<=1000/\∀ n:Int,0<=n->n<2147483549->Q (.int n) H
theorem all2 {x y u v:Int}:x%2+y%2+u%2+v%2=0 ↔ x%2=0/\y%2=0/\u%2=0/\v%2=0:=by omega
theorem sc_number:FnScope ["_law_script","_law_k","_law_cell","_law_number_here"] ["_law_script","_law_k"] (Z0h (top 80)):=fS
theorem Y7c (F:FunAt K "_law_number" (top 80) .none)(X:K.In h)(G:Ng h mg)(B:Bs mg):Cal P w K mg base (k+1) "_law_number" ["_law_script","_law_k"] (Z4v K):=by
 have nd:=sc_number.nd
 refine F.cal X G sc_number (bnd2 λ_ _ _ _ _ _ _ _=>rfl) (λvs H Q E h=>?_) (λf cdv A outer s H vs Q E hr h=>?_)
 ·obtain⟨a,ns,z,rfl,_⟩:=h;rfl
 obtain⟨a,ns,z,rfl,hS,lt,z0,z1,kq⟩:=h
 have sz:Sz 10 z:=by unfold Sz;omega
 refine⟨_,(@Z0g _ _ _ _ _ (@Z0o _ _ 2 _ _ _ _ nd rfl (Or.inl rfl) Z0b rfl (.inl rfl))
  (@Z0r _ _ _ _ _ (Z0y (Z0n Y4u (Z0q Z0u rfl B.len q1m (Z0a (pv 0) Z0e)) Z0b (nomark _))
   (@Z0f _ _ _ (@Z0o _ _ 2 _ _ _ _ nd rfl (Or.inl rfl) (Z0m Z0s (pv 0) (Z0i Z0z (pv 1) (Z0q Z0u rfl B.len q1m (Z0a (pv 0) Z0e))) (λ_ _=>rfl)) rfl (.inl rfl)))
   Z0p)
  (@Z0r _ _ _ _ _ (@Z0o _ _ 3 _ _ _ _ nd rfl (Or.inl rfl) (Z0i Z0z (Z0i Z1b (Z0i Z2d (pv 2) Z0b) (Z0i Z2d (Z0i Z1b (Z0i Z3e (Z0i Z3e (pv 1) (pv 1)) (pv 1)) Z0b) Z0b)) Z0b) rfl (.inl rfl))
  (@Z0r _ _ _ _ _ (@Z0o _ _ 3 _ _ _ _ nd rfl (Or.inl rfl) (Z0i Z0z (Z0i Z1b (Z0i Z0z (Z0i Z3e (pv 3) (pv 3)) Z0b) (Z0i Z2d (Z0i Z1b (Z0i Z3e (pv 1) (pv 1)) Z0b) Z0b)) Z0b) rfl (.inl rfl))
  (@Z0f _ _ _ (Z0j (Z0i Z0z (Z0i Z3e (pv 3) (pv 3)) Z0b))))))),?_⟩
 try dsimp only[cxK]
 refine⟨λσ' H'=>H'=H/\∃ c:Int,Sz 1048576 c/\σ'=[some (.ref a),some (.int z),some (.int c),none],?_,?_⟩
 ·refine⟨_,Z,a,_,Z,.inl hS,_,_,Z,Z,_,Z,decI (λhp=>?_) (λ_=>⟨Z,0,q2f _,Z⟩)⟩
  have l0:0<ns.length:=by rw[q0a] at hp;omega
  obtain⟨i,hi,e⟩:=atm (z:=z) l0
  exact⟨_,Z,_,Z,_,Z,a,_,Z,.inl hS,_,_,Z,Z,(by rw[q0a];omega),a,_,_,_,Z,Z,hS,e,Z,_,X1l lt i,Z⟩
 rintro σ' H1 ⟨rfl,c,sc,rfl⟩
 refine⟨λσ' H'=>H'=H1/\∃ n:Int,0<=n/\n<2147483647/\σ'=[some (.ref a),some (.int z),some (.int c),some (.int n)],?_,?_⟩
 ·exact⟨_,Z,_,_,Z,Z,.inr ⟨by decide,by decide⟩,_,Z,_,Z,_,_,Z,Z,⟨_,_,sz,sz,by decide⟩,_,Z,_,_,Z,Z,⟨_,_,sz.mul sz,sz,by decide⟩,_,_,Z,Z,_,_,Z,Z,.inr ⟨by decide,by decide⟩,_,_,Z,Z,_,_,Z,Z,(show (0:Int)<2147483647 by decide),Z,_,q1i _ (by decide),q1f _ (by decide),Z⟩
 rintro σ' H2 ⟨rfl,n,n0,n1,rfl⟩
 have sn:Sz 31 n:=by unfold Sz;omega
 refine⟨λσ' H'=>H'=H2/\∃ n:Int,0<=n/\n<2147483563/\σ'=[some (.ref a),some (.int z),some (.int c),some (.int n)],?_,?_⟩
 ·exact⟨_,Z,_,Z,_,_,Z,Z,⟨_,_,sn,sn,by decide⟩,_,_,Z,Z,(show (0:Int)<2147483629 by decide),_,Z,_,Z,_,_,Z,Z,⟨_,_,sz,sz,by decide⟩,_,_,Z,Z,_,_,Z,Z,.inr ⟨by decide,by decide⟩,_,_,Z,Z,_,_,Z,Z,(show (0:Int)<2147483563 by decide),Z,_,q1i _ (by decide),q1f _ (by decide),Z⟩
 rintro σ' H3 ⟨rfl,n,n0,n1,rfl⟩
 have sn:Sz 31 n:=by unfold Sz;omega
 exact⟨_,Z,_,Z,_,_,Z,Z,⟨_,_,sn,sn,by decide⟩,_,_,Z,Z,(show (0:Int)<2147483549 by decide),kq _ (q1i _ (by decide)) (q1f _ (by decide))⟩
theorem sc_lowest:FnScope ["_law_four","_law_halvings"] ["_law_four","_law_halvings"] (Z0h (top 81)):=fS
theorem Y7e (F:FunAt K "_law_lowest" (top 81) .none)(X:K.In h)(G:Ng h mg)(B:Bs mg):Cal P w K mg base (k+1) "_law_lowest" ["_law_four","_law_halvings"] spLow:=by
 have nd:=sc_lowest.nd
 refine F.cal X G sc_lowest (bnd2 λ_ _ _ _ _ _ _ _=>rfl) (λvs H Q E h=>?_) (λf cdv A outer s H vs Q E hr h=>?_)
 ·obtain⟨l,a,b,c,d,h,rfl,_⟩:=h;rfl
 obtain⟨l,a,b,c,d,h,rfl,hl,h0,q⟩:=h
 refine⟨_,(@Z0g _ _ _ _ _ (Z8q PassesOwn.never (PW.pt (Z5w (Z0n Y4u (pv 1) Z0b (nomark _)) (Z4a (Z0n Z1o (Z0i Z1b (Z0i Z1b (Z0i Z1b (Z0i Z0z (Z0m Z0s (pv 0) Z0b (λ_ _=>rfl)) Z0b) (Z0i Z0z (Z0m Z0s (pv 0) Z0b (λ_ _=>rfl)) Z0b)) (Z0i Z0z (Z0m Z0s (pv 0) Z0b (λ_ _=>rfl)) Z0b)) (Z0i Z0z (Z0m Z0s (pv 0) Z0b (λ_ _=>rfl)) Z0b)) Z0b (nomark _)))))
   (@Z0g _ _ _ _ _ (Z4i (i:=0) rfl nd rfl rfl (LcOk.of (Nc:=["_law_one"]) (mp:=[none]) (by kernel_rfl)) (Z2x (pv 0)) (λ_ _ _ _=>(Z0w (i:=0) (show (["_law_one"]:W0).Nodup by decide +kernel) rfl (Or.inl rfl))) (λ_ _ _ _=>(Z0i Z1w (pv 0) Z0b)) rfl)
   (@Z0f _ _ _ (@Z0o _ _ 1 _ _ _ _ nd rfl (Or.inl rfl) (Z0i Z2k (pv 1) Z0b) rfl (.inl rfl)))))
  (@Z0f _ _ _ (Z0j (@Z1a _ _ _ _ _ (Z0a (Z0m Z0s (pv 0) Z0b (λ_ _=>rfl)) (Z0a (Z0m Z0s (pv 0) Z0b (λ_ _=>rfl)) (Z0a (Z0m Z0s (pv 0) Z0b (λ_ _=>rfl)) (Z0a (Z0m Z0s (pv 0) Z0b (λ_ _=>rfl)) (Z0a (pv 1) Z0e))))))))),?_⟩
 try dsimp only[cxK]
 refine⟨λm σ H'=>∃ l' x y u v g,m=g.toNat/\σ=[some (.ref l'),some (.int g)]/\Same H H'/\H' l'=some (.lst ([x,y,u,v].map V.int))/\Hv a b c d h x y u v g,⟨_,l,a,b,c,d,h,Z,Z,Same.refl _,hl,⟨Z,Z,Z,Z⟩,q0f _,q0f _,q0f _,q0f _,q8e _,h0⟩,?_⟩
 rintro m σ H2 ⟨l',x,y,u,v,g,rfl,rfl,s2,l2,hv⟩
 have l3:SqL K H2 l' ([x,y,u,v].map V.int):=SqL.of l2
 refine⟨_,Z,_,_,Z,Z,_,Z,decI (λcg=>?_) (λcg=>?_)⟩
 ·refine⟨_,Z,l',_,_,_,Z,Z,l3,Z,_,_,Z,Z,p_2,_,Z,l',_,_,_,Z,Z,l3,Z,_,_,Z,Z,p_2,_,_,Z,Z,_,Z,l',_,_,_,Z,Z,l3,Z,_,_,Z,Z,p_2,_,_,Z,Z,_,Z,l',_,_,_,Z,Z,l3,Z,_,_,Z,Z,p_2,_,_,Z,Z,Z,_,Z,eqI (λc=>?_) (λc=>?_)⟩
  ·refine⟨_,λ_ _ h=>h,_,Z,l',Z,⟨_,l3⟩,λac hac=>?_⟩
   refine X1n (ns:=[x,y,u,v]) (fr:=[]) (λn=>.int (n / 2)) l3 t4 hac (λn H3 N _ kN=>⟨_,Z,_,_,Z,Z,⟨by decide,by decide⟩,kN⟩) (λH4 s4 a4=>?_)
   refine⟨_,Z,_,_,Z,Z,?_⟩
   exact⟨(g-1).toNat,by omega,ac,x / 2,y / 2,u / 2,v / 2,g-1,Z,Z,s2.trans s4,a4,hv.half cg (all2.mp c)⟩
  ·have o:x%2=1∨y%2=1∨u%2=1∨v%2=1:=by
    have:¬ (x%2=0/\y%2=0/\u%2=0/\v%2=0):=λz=>c (all2.mpr z)
    omega
   refine⟨_,Z,l',_,_,_,Z,Z,l3,Z,_,Z,l',_,_,_,Z,Z,l3,Z,_,Z,l',_,_,_,Z,Z,l3,Z,_,Z,l',_,_,_,Z,Z,l3,Z,_,Z,t5,λt ht=>?_⟩
   exact q t _ x y u v g (s2.trans (Z0c ht _)) Z0d (hv.red (.inr o))
 ·refine⟨_,Z,l',_,_,_,Z,Z,l3,Z,_,Z,l',_,_,_,Z,Z,l3,Z,_,Z,l',_,_,_,Z,Z,l3,Z,_,Z,l',_,_,_,Z,Z,l3,Z,_,Z,t5,λt ht=>?_⟩
  exact q t _ x y u v g (s2.trans (Z0c ht _)) Z0d (hv.red (.inl (by have:=hv.nn;omega)))
theorem s5z {x:Int}(h1:-16<x)(h2:x<16):Sz 100 x:=Sz.mono (j:=5) (by unfold Sz;omega) (by decide)
def F4 (H:Hp)(l:W9):Prop:=∃ xs:List Int,H l=some (.lst (xs.map V.int))/\xs.length=4/\∀ x∈xs,Sz 100 x
theorem ixn {N i:Nat}(h:i<N):ixN N (i:Int)=some i:=by
 unfold ixN
 rw[if_pos (q6x i),if_pos (by omega),q1h]
theorem W0b {H:Hp}{l:W9}{xs:U6}{j:Nat}{v:Int}(h:H l=some (.lst (xs.map V.int)))(hl:xs.length=4)(hz:∀ x∈xs,Sz 100 x)(hv:Sz 100 v):F4 (upd H l (.lst ((xs.map V.int).set j (.int v)))) l:=by
 refine⟨xs.set j v,by rw[Z0d,List.map_set],by rw[q7z,hl],λx hx=>?_⟩
 rcases List.mem_or_eq_of_mem_set hx with h | h
 ·exact hz x h
 ·rw[h];exact hv
theorem Y8o {xs:U6}(h:xs.length=4):∃ a b c d,xs=[a,b,c,d]:=by
 match xs,h with
 | [a,b,c,d],_=>exact⟨a,b,c,d,rfl⟩
theorem ten30:(0:Int)<10^(30:Int).toNat:=by decide +kernel
theorem W1g {x:Int}:Sz 100 (x%10^(30:Int).toNat-5*10^(29:Int).toNat):=by
 have h1:=q1i x (q4y ten30)
 have h2:=q1f x ten30
 have h3:(10:Int)^(30:Int).toNat<2^100:=by decide +kernel
 have h4:(5:Int)*10^(29:Int).toNat<10^(30:Int).toNat:=by decide +kernel
 have h5:(0:Int)<=5*10^(29:Int).toNat:=by decide +kernel
 generalize x%10^(30:Int).toNat=y at *
 generalize (10:Int)^(30:Int).toNat=t at *
 generalize (5:Int)*10^(29:Int).toNat=u at *
 unfold Sz
 omega
theorem Y3s {a b c d h:Int}{x y z u g:Int}(r:Red a b c d h x y z u g)(s:Sz4 100 a b c d)(h40:h<=40):Ok5 100 40 ((x,y,z,u),g):=⟨r.sz s,r.amt,Int.le_trans r.le h40⟩
theorem Y9p {K:U0}{H:Hp}{ps:U3}{f:Nat->A5}{p:W9}{x:A5}{j:Nat}(v:ValsK K H ps f)(e:At5 K H p x):ValsK K H (ps.set j p) (λi=>if i=j then x else f i):=by
 intro i q hq
 by_cases hi:i=j
 ·subst hi
  rw[List.getElem?_set_self'] at hq
  show At5 K H q (if i=i then x else f i)
  rw[if_pos rfl]
  cases h:ps[i]? with
  | none=>rw[h] at hq;cases hq
  | some r=>rw[h] at hq;cases hq;exact e
 ·rw[q6b (λz=>hi z.symm)] at hq
  show At5 K H q (if i=j then x else f i)
  rw[if_neg hi]
  exact v i q hq
theorem Bd5.put {K:U0}{H:Hp}{l p:W9}{ps:U3}{f:Nat->A5}{c n m j:Nat}{x:A5}(b:Bd5 K H l ps f c n m)(hp:At5 K H p x)(ox:Ok5 n m x):Bd5 K (upd H l (.lst ((ps.map V.ref).set j (.ref p)))) l (ps.set j p) (λi=>if i=j then x else f i) c n m:=by
 refine⟨by rw[Z0d,List.map_set],by rw[q7z,b.len],Z3m (Y9p b.vals hp) b.lst,λi hi=>?_⟩
 show Ok5 n m (if i=j then x else f i)
 split
 ·exact ox
 ·exact b.ok i hi
theorem one5 {m:Nat}:Ok5 100 (m:Int) ((1,0,0,0),0):=⟨⟨s5z (by decide) (by decide),s5z (by decide) (by decide),s5z (by decide) (by decide),s5z (by decide) (by decide)⟩,⟨q8e 0,.inl rfl⟩,q6x m⟩
end
end K75
namespace M71
inductive Mv where
 | flip (a:Int)
 | mix (a:Int)
 | turn (a k:Int)
 | iff (a b:Int)
 | pair (a b:Int)
 | swap (a b:Int)
 | cross (a b d:Int)
deriving DecidableEq
namespace Mv
noncomputable def cells:Mv->List Int
 | flip a=>[a]
 | mix a=>[a]
 | turn a _=>[a]
 | iff a b=>[a,b]
 | pair a b=>[a,b]
 | swap a b=>[a,b]
 | cross a b d=>[a,b,d]
noncomputable def low:Mv->Int
 | flip a=>a
 | mix a=>a
 | turn a _=>a
 | iff a b=>min a b
 | pair a b=>min a b
 | swap a b=>min a b
 | cross a b d=>min a (min b d)
noncomputable def ord:Mv->Mv
 | pair a b=>pair (min a b) (max a b)
 | swap a b=>swap (min a b) (max a b)
 | cross a b d=>cross a (min b d) (max b d)
 | m=>m
noncomputable def free:Mv->Mv->Bool
 | turn _ _,pair _ _=>true
 | turn a _,iff c _=>decide (c=a)
 | _,_=>false
noncomputable def apart (x y:Mv):Bool:=!(x.cells.any λc=>y.cells.contains c)
noncomputable def goes (later earlier:Mv):Bool:=if apart later earlier then decide (later.low<earlier.low) else free later earlier
noncomputable def joint:Mv->Mv->Option (Int × Int)
 | turn a j,turn b k=>if a=b then some (a,j+k) else none
 | _,_=>none
noncomputable def put2 (x y:Mv):Option (List Mv) :=
 match joint x y with
 | some (a,k)=>some (if k=8 then [] else [turn a (k%8)])
 | none=>if ord x=ord y then some [] else if goes y x then some [y,x] else none
noncomputable def put3 (x y z:Mv):Option (List Mv) :=
 match x with
 | mix c=>if z=mix c then (if y=flip c then some [turn c 4] else if y=turn c 4 then some [flip c] else none) else none
 | _=>none
theorem Y5g (x y:Mv):apart x y=apart y x:=by
 unfold apart
 congr 1
 rw[q2q]
 simp only[q5z,q8a]
 exact⟨λ⟨c,a,b⟩=>⟨c,b,a⟩,λ⟨c,a,b⟩=>⟨c,b,a⟩⟩
theorem Y8l {x y:Mv}(h:goes x y=true):goes y x=false:=by
 unfold goes at *
 rw[Y5g y x]
 by_cases e:apart x y=true
 ·rw[if_pos e] at *
  simp at *
  omega
 ·rw[if_neg e] at *
  cases x<;>cases y<;>simp_all [free]
end Mv
open Mv
noncomputable def inv:List Mv->Nat
 | []=>0
 | x::r=>r.countP (λy=>goes y x)+inv r
theorem Y8f:∀ r:List Mv,inv r<=r.length*r.length
 | []=>q0f _
 | x::r=>by
  have h1:=Y8f r
  have h2:r.countP (λy=>goes y x)<=r.length:=List.countP_le_length
  simp only[inv,q1r]
  have:(r.length+1)*(r.length+1)=r.length*r.length+2*r.length+1:=by
   rw[Nat.add_mul,Nat.mul_add];omega
  omega
theorem Y3w {x y:Mv}(h:goes y x=true):∀ l r:List Mv,inv (l++x::y::r)=inv (l++y::x::r)+1
 | [],r=>by
  have:=Y8l h
  simp only[q7y,inv,List.countP_cons,h,this]
  simp
  omega
 | z::l,r=>by
  have ih:=Y3w h l r
  simp only[List.cons_append,inv,ih]
  have:(l++x::y::r).countP (λu=>goes u z)=(l++y::x::r).countP (λu=>goes u z):=by
   simp only[List.countP_append,List.countP_cons]
   omega
  omega
noncomputable def st:Option Mv->Option Mv->Option Mv->Option (List Mv × List Mv)
 | some x,some y,z=>match put2 x y with
  | some u=>some ([x,y],u)
  | none=>match z with
   | some z=>(put3 x y z).map λu=>([x,y,z],u)
   | none=>none
 | _,_,_=>none
noncomputable def stepAt (row:List Mv)(p:Nat):Option (List Mv × List Mv):=st row[p]? row[p+1]? row[p+2]?
noncomputable def app (row:List Mv)(p n:Nat)(u:List Mv):List Mv:=row.take p++u++row.drop (p+n)
theorem Y9z {row:List Mv}{p:Nat}{x y:Mv}(h1:row[p]?=some x)(h2:row[p+1]?=some y):row=row.take p++x::y::row.drop (p+2):=by
 obtain⟨l1,e1⟩:=q0t.mp h1
 obtain⟨l2,e2⟩:=q0t.mp h2
 conv=>lhs;rw[<-q5r p row]
 rw[q4p l1,q4p l2,e1,e2]
theorem Z8p {x y:Mv}{u:List Mv}(h:put2 x y=some u):u.length<2∨(goes y x=true/\u=[y,x]):=by
 unfold put2 at h
 split at h
 ·cases h
  left
  split<;>simp
 ·split at h
  ·cases h;left;decide
  ·split at h
   ·cases h
    exact .inr ⟨by assumption,Z⟩
   ·cases h
theorem Y3b {x y z:Mv}{u:List Mv}(h:put3 x y z=some u):u.length=1:=by
 unfold put3 at h
 split at h
 ·split at h
  ·split at h
   ·cases h;rfl
   ·split at h<;>cases h
    rfl
  ·cases h
 ·cases h
noncomputable def ms (N:Nat)(row:List Mv):Nat:=row.length*(N*N+1)+inv row
theorem X9e {N:Nat}{r s:List Mv}(h:s.length<r.length)(hs:s.length<=N):ms N s<ms N r:=by
 unfold ms
 have h1:=Y8f s
 have h2:s.length*s.length<=N*N:=q4o hs hs
 have h3:(s.length+1)*(N*N+1)<=r.length*(N*N+1):=q6a _ h
 rw[Nat.add_mul] at h3
 omega
structure Did (row:List Mv) (p:Nat) (tk u:List Mv):Prop where
 two:2<=tk.length
 three:tk.length<=3
 fits:p+tk.length<=row.length
 eq:(row.drop p).take tk.length=tk
 due:(∃ x y,tk=[x,y]/\put2 x y=some u)∨(∃ x y z,tk=[x,y,z]/\put2 x y=none/\put3 x y z=some u)
 less:∀ N,row.length<=N->ms N (app row p tk.length u)<ms N row
 short:(app row p tk.length u).length<=row.length
theorem Y9i {row:List Mv}{p n:Nat}{u:List Mv}(h:p+n<=row.length):(app row p n u).length=row.length-n+u.length:=by
 unfold app
 simp only[q0c,q1q,q2i]
 omega
theorem Z8g {row tk u:List Mv}{p:Nat}(h:stepAt row p=some (tk,u)):Did row p tk u:=by
 unfold stepAt at h
 cases e1:row[p]? with
 | none=>rw[e1] at h;cases h
 | some x =>
  cases e2:row[p+1]? with
  | none=>rw[e1,e2] at h;cases h
  | some y =>
   rw[e1,e2] at h
   have t2:=Y9z e1 e2
   obtain⟨l2,_⟩:=q0t.mp e2
   have lp:(row.take p).length=p:=by rw[q1q];omega
   have d2:row.drop p=x::y::row.drop (p+2):=by
    conv=>lhs;rw[t2]
    rw[List.drop_append_of_le_length (by omega),q4b (by omega),q7y]
   simp only[st] at h
   split at h
   ·rename_i v hv
    cases h
    have f2:p+[x,y].length<=row.length:=by simp;omega
    have al:=Y9i (u:=u) f2
    refine⟨by simp,by simp,f2,by rw[d2];rfl,.inl ⟨x,y,Z,hv⟩,?_,?_⟩
    ·intro N hN
     rcases Z8p hv with hl | ⟨g,rfl⟩
     ·refine X9e ?_ ?_<;>rw[al]<;>simp<;>simp at f2<;>omega
     ·have:=Y3w g (row.take p) (row.drop (p+2))
      have e:app row p 2 [y,x]=row.take p++y::x::row.drop (p+2):=by unfold app;simp
      show ms N (app row p 2 [y,x])<ms N row
      unfold ms
      rw[<-t2] at this
      rw[this,e]
      have:(row.take p++y::x::row.drop (p+2)).length=row.length:=by
       rw[<-e];rw[show app row p 2 [y,x]=app row p [x,y].length [y,x] from rfl,al];simp;simp at f2;omega
      rw[this]
      omega
    ·rcases Z8p hv with hl | ⟨g,rfl⟩
     ·rw[al];simp;simp at f2;omega
     ·rw[al];simp;simp at f2;omega
   ·rename_i hv
    cases e3:row[p+2]? with
    | none=>rw[e3] at h;cases h
    | some z =>
     rw[e3] at h
     simp only[q0x] at h
     obtain⟨v,h3,h⟩:=h
     cases h
     obtain⟨l3,q3⟩:=q0t.mp e3
     have f3:p+[x,y,z].length<=row.length:=by simp;omega
     have al:=Y9i (u:=u) f3
     have u1:=Y3b h3
     refine⟨by simp,by simp,f3,?_,.inr ⟨x,y,z,Z,hv,h3⟩,?_,?_⟩
     ·rw[d2,q4p l3,q3];rfl
     ·intro N hN
      refine X9e ?_ ?_<;>rw[al,u1]<;>simp<;>simp at f3<;>omega
     ·rw[al,u1];simp;simp at f3;omega
theorem Y4p {row u:List Mv}{p n q:Nat}(hp:p<=row.length)(h:q+2<p):stepAt (app row p n u) q=stepAt row q:=by
 unfold stepAt app
 have key:∀ i,i<p->(row.take p++u++row.drop (p+n))[i]?=row[i]?:=by
  intro i hi
  have lp:(row.take p).length=p:=by rw[q1q];omega
  rw[q1u,q3l (by omega),List.getElem?_take,if_pos hi]
 rw[key q (by omega),key (q+1) (by omega),key (q+2) h]
theorem Y6m {row tk u:List Mv}{p:Nat}(h:stepAt row p=some (tk,u))(r:∀ q,q<p->stepAt row q=none):∀ q,q<p-2->stepAt (app row p tk.length u) q=none:=by
 intro q hq
 have d:=Z8g h
 have:=d.fits
 rw[Y4p (by omega) (by omega)]
 exact r q (by omega)
noncomputable def lm (N:Nat)(row:List Mv)(p:Nat):Nat:=ms N row*(N+1)+(row.length-p)
theorem X6f {N:Nat}{row tk u:List Mv}{p:Nat}(h:stepAt row p=some (tk,u))(hN:row.length<=N)(q:Nat):lm N (app row p tk.length u) q<lm N row p:=by
 have d:=Z8g h
 have h1:=d.less N hN
 have h2:=d.short
 unfold lm
 have h3:(ms N (app row p tk.length u)+1)*(N+1)<=ms N row*(N+1):=q6a _ h1
 rw[Nat.add_mul] at h3
 omega
theorem X6g {N:Nat}{row:List Mv}{p:Nat}(h:p<row.length):lm N row (p+1)<lm N row p:=by
 unfold lm
 omega
structure Stp where
 p:Nat
 tk:List Mv
 u:List Mv
def Stp.ok (row:List Mv)(s:Stp):Prop:=Did row s.p s.tk s.u
inductive Walk:List Mv->List Stp->List Mv->Prop
 | nil {r}:Walk r [] r
 | snoc {r ss r' s}:Walk r ss r'->s.ok r'->Walk r (ss++[s]) (app r' s.p s.tk.length s.u)
theorem Walk.len {r:List Mv}{ss:List Stp}{r':List Mv}(h:Walk r ss r'):r'.length<=r.length:=by
 induction h with
 | nil=>exact q0f _
 | snoc w o ih=>exact q0u o.short ih
theorem Walk.bound {N:Nat}{r:List Mv}{ss:List Stp}{r':List Mv}(h:Walk r ss r')(hN:r.length<=N):ms N r'+ss.length<=ms N r:=by
 induction h with
 | nil=>simp
 | @snoc ss r' s w o ih =>
  have h1:=o.less N (q0u w.len hN)
  have h2:=ih
  simp
  omega
theorem Y1c (row:List Mv)(p:Nat):stepAt row p=st (row.drop p)[0]? (row.drop p)[1]? (row.drop p)[2]?:=by
 unfold stepAt
 simp only[List.getElem?_drop,q5q]
theorem Y5d {a b j k:Int}:joint (.turn a j) (.turn b k)=if a=b then some (a,j+k) else none:=rfl
theorem Z7w {x y:Mv}(h:∀ a j k,¬ (x=.turn a j/\y=.turn a k)):joint x y=none:=by
 unfold joint
 split
 ·split
  ·subst_vars
   exact absurd ⟨Z,Z⟩ (h _ _ _)
  ·rfl
 ·rfl
theorem Y4q {a j k:Int}:put2 (.turn a j) (.turn a k)=some (if j+k=8 then [] else [.turn a ((j+k)%8)]):=by
 unfold put2
 rw[Y5d,if_pos rfl]
theorem Y4r {x y:Mv}(h:joint x y=none)(e:ord x=ord y):put2 x y=some []:=by
 unfold put2
 rw[h]
 simp only[if_pos e]
theorem Y6p {x y:Mv}(h:joint x y=none)(e:ord x≠ord y)(g:goes y x=true):put2 x y=some [y,x]:=by
 unfold put2
 rw[h]
 simp only[if_neg e,if_pos g]
theorem Y6o {x y:Mv}(h:joint x y=none)(e:ord x≠ord y)(g:goes y x=false):put2 x y=none:=by
 unfold put2
 rw[h]
 simp[if_neg e,g]
theorem X0g {c:Int}{y:Mv}:put3 (.mix c) y (.mix c)=if y=.flip c then some [.turn c 4] else if y=.turn c 4 then some [.flip c] else none:=by
 simp[put3]
theorem Z9z {x y z:Mv}(h:∀ c,¬ (x=.mix c/\z=.mix c)):put3 x y z=none:=by
 unfold put3
 split
 ·rename_i c
  rw[if_neg (λe=>h c ⟨Z,e⟩)]
 ·rfl
end M71
set_option maxHeartbeats 1000000
namespace M72
open M71 M71.Mv
abbrev V4:=Int × Int × Int × Int
noncomputable def add (x y:V4):V4:=(x.1+y.1,x.2.1+y.2.1,x.2.2.1+y.2.2.1,x.2.2.2+y.2.2.2)
noncomputable def sm (n:Int)(x:V4):V4:=(n*x.1,n*x.2.1,n*x.2.2.1,n*x.2.2.2)
noncomputable def E (x:V4):V4:=(-x.2.2.2,x.1,x.2.1,x.2.2.1)
noncomputable def En:Nat->V4->V4
 | 0,x=>x
 | n+1,x=>E (En n x)
noncomputable def root (x:V4):V4:=(x.2.1-x.2.2.2,x.1+x.2.2.1,x.2.1+x.2.2.2,x.2.2.1-x.1)
theorem ext {x y:V4}(h1:x.1=y.1)(h2:x.2.1=y.2.1)(h3:x.2.2.1=y.2.2.1)(h4:x.2.2.2=y.2.2.2):x=y:=by
 obtain⟨a,b,c,d⟩:=x
 obtain⟨a',b',c',d'⟩:=y
 simp only at h1 h2 h3 h4
 rw[h1,h2,h3,h4]
theorem W2t (x y:V4):E (add x y)=add (E x) (E y):=by apply ext<;>simp only[E,add]<;>omega
theorem E_sm (n:Int)(x:V4):E (sm n x)=sm n (E x):=by apply ext<;>simp only[E,sm]<;>grind
theorem W1a (x:V4):E (root x)=root (E x):=by apply ext<;>simp only[E,root]<;>omega
theorem Z6h (x y:V4):root (add x y)=add (root x) (root y):=by apply ext<;>simp only[root,add]<;>omega
theorem Z6s (n:Int)(x:V4):root (sm n x)=sm n (root x):=by apply ext<;>simp only[root,sm]<;>grind
theorem Y6e (n:Int)(x y:V4):sm n (add x y)=add (sm n x) (sm n y):=by apply ext<;>simp only[sm,add]<;>grind
theorem Z2o (m n:Int)(x:V4):sm m (sm n x)=sm (m*n) x:=by apply ext<;>simp only[sm]<;>grind
theorem Y6k (x:V4):root (root x)=sm 2 x:=by apply ext<;>simp only[root,sm]<;>omega
theorem Z4m (x:V4):sm 1 x=x:=by apply ext<;>simp only[sm]<;>omega
theorem add_comm (x y:V4):add x y=add y x:=by apply ext<;>simp only[add]<;>omega
theorem Y9n (n:Nat)(x y:V4):En n (add x y)=add (En n x) (En n y):=by
 induction n with
 | zero=>rfl
 | succ n ih=>simp only[En,ih,W2t]
theorem Z4s (n:Nat)(k:Int)(x:V4):En n (sm k x)=sm k (En n x):=by
 induction n with
 | zero=>rfl
 | succ n ih=>simp only[En,ih,E_sm]
theorem Y9m (n:Nat)(x:V4):En n (root x)=root (En n x):=by
 induction n with
 | zero=>rfl
 | succ n ih=>simp only[En,ih,W1a]
theorem Z5g (m n:Nat)(x:V4):En m (En n x)=En (m+n) x:=by
 induction m with
 | zero=>rw[q6r];rfl
 | succ m ih=>rw[Nat.succ_add];simp only[En,ih]
theorem En4 (x:V4):En 4 x=sm (-1) x:=by apply ext<;>simp only[En,E,sm]<;>omega
theorem En8 (x:V4):En 8 x=x:=by apply ext<;>simp only[En,E]<;>omega
theorem Y1a (n:Nat)(x:V4):En n x=En (n%8) x:=by
 have:∀ q r,En (8*q+r) x=En r x:=by
  intro q r
  induction q with
  | zero=>rw[Nat.mul_zero,q6r]
  | succ q ih=>rw[show 8*(q+1)+r=8+(8*q+r) by omega,<-Z5g 8,En8,ih]
 conv=>lhs;rw[<-Nat.div_add_mod n 8]
 exact this _ _
noncomputable def fl (w a:Nat):Nat:=w^^^2^a
noncomputable def sw (w a b:Nat):Nat:=if w.testBit a=w.testBit b then w else fl (fl w a) b
theorem Z2y (w a j:Nat):(fl w a).testBit j=(w.testBit j ^^ decide (a=j)):=by
 unfold fl
 rw[q1o,q1v]
theorem Z3j (w a:Nat):fl (fl w a) a=w:=by
 unfold fl
 rw[q2n,q5o,q5n]
theorem Y8r (w a b:Nat):fl (fl w a) b=fl (fl w b) a:=by
 unfold fl
 rw[q2n,q7v (2^a),<-q2n]
theorem Z1z (w a b j:Nat)(h:a≠b):(sw w a b).testBit j=if j=a then w.testBit b else if j=b then w.testBit a else w.testBit j:=by
 unfold sw
 by_cases e:w.testBit a=w.testBit b
 ·rw[if_pos e]
  split
  ·rename_i z;rw[z,e]
  ·split
   ·rename_i z;rw[z,e]
   ·rfl
 ·rw[if_neg e,Z2y,Z2y]
  by_cases ja:j=a
  ·rw[if_pos ja,ja,q0j rfl,q0e (λz=>h z.symm)]
   revert e
   cases w.testBit a<;>cases w.testBit b<;>simp
  ·rw[if_neg ja]
   by_cases jb:j=b
   ·rw[if_pos jb,jb,q0j (rfl:b=b),q0e h]
    revert e
    cases w.testBit a<;>cases w.testBit b<;>simp
   ·rw[if_neg jb,q0e (λz=>ja z.symm),q0e (λz=>jb z.symm)]
    simp
theorem Z4t {w v:Nat}(h:∀ j,w.testBit j=v.testBit j):w=v:=q1t h
noncomputable def to:Mv->Nat->Nat
 | .flip a,w=>fl w a.toNat
 | iff a b,w=>if w.testBit a.toNat then fl w b.toNat else w
 | swap a b,w=>sw w a.toNat b.toNat
 | cross a b d,w=>if w.testBit a.toNat then sw w b.toNat d.toNat else w
 | _,w=>w
noncomputable def sp:Mv->Nat->Nat
 | turn a k,w=>if w.testBit a.toNat then k.toNat else 0
 | pair a b,w=>if w.testBit a.toNat && w.testBit b.toNat then 4 else 0
 | _,_=>0
noncomputable def sg (w a:Nat):Int:=if w.testBit a then -1 else 1
abbrev Bv:=Nat->V4
noncomputable def op:Mv->Bv->Bv
 | mix a,F=>λw=>root (add (sm (sg w a.toNat) (F w)) (F (fl w a.toNat)))
 | m,F=>λw=>sm 2 (En (sp m w) (F (to m w)))
def Ok:Mv->Prop
 | .flip a=>0<=a
 | mix a=>0<=a
 | turn a k=>0<=a/\1<=k/\k<=7
 | iff a b=>0<=a/\0<=b/\a≠b
 | pair a b=>0<=a/\0<=b/\a≠b
 | swap a b=>0<=a/\0<=b/\a≠b
 | cross a b d=>0<=a/\0<=b/\0<=d/\a≠b/\a≠d/\b≠d
noncomputable def isMix:Mv->Bool
 | mix _=>true
 | _=>false
theorem Z1m {m:Mv}(h:isMix m=false)(F:Bv)(w:Nat):op m F w=sm 2 (En (sp m w) (F (to m w))):=by
 cases m<;>first | rfl | cases h
noncomputable def cl (m:Mv):List Nat:=m.cells.map Int.toNat
abbrev Ag (C:W3)(w v:Nat):Prop:=∀ j,j∈C->w.testBit j=v.testBit j
theorem Z4u {m:Mv}(ok:Ok m){w j:Nat}(h:j ∉ cl m):(to m w).testBit j=w.testBit j:=by
 cases m with
 | flip a =>
  simp only[cl,cells,q1s,q5s,q0n] at h
  show (fl w a.toNat).testBit j=_
  rw[Z2y,q0e (λz=>h z.symm)]
  simp
 | mix a=>rfl
 | turn a k=>rfl
 | pair a b=>rfl
 | iff a b =>
  simp only[cl,cells,q1s,q5s,q0p,q5x,q2t,not_or] at h
  show (if w.testBit a.toNat then fl w b.toNat else w).testBit j=_
  split
  ·rw[Z2y,q0e (λz=>h.2 z.symm)]
   simp
  ·rfl
 | swap a b =>
  obtain⟨a0,b0,n⟩:=ok
  simp only[cl,cells,q1s,q5s,q0p,q5x,q2t,not_or] at h
  show (sw w a.toNat b.toNat).testBit j=_
  rw[Z1z _ _ _ _ (by omega),if_neg h.1,if_neg h.2]
 | cross a b d =>
  obtain⟨a0,b0,d0,n1,n2,n3⟩:=ok
  simp only[cl,cells,q1s,q5s,q0p,q5x,q2t,not_or] at h
  show (if w.testBit a.toNat then sw w b.toNat d.toNat else w).testBit j=_
  split
  ·rw[Z1z _ _ _ _ (by omega),if_neg h.2.1,if_neg h.2.2]
  ·rfl
theorem X7q {m:Mv}(ok:Ok m){w v:Nat}(g:Ag (cl m) w v):Ag (cl m) (to m w) (to m v):=by
 intro j hj
 cases m with
 | flip a =>
  show (fl w a.toNat).testBit j=(fl v a.toNat).testBit j
  rw[Z2y,Z2y,g j hj]
 | mix a=>exact g j hj
 | turn a k=>exact g j hj
 | pair a b=>exact g j hj
 | iff a b =>
  have ga:=g a.toNat (by simp[cl,cells])
  show (if w.testBit a.toNat then fl w b.toNat else w).testBit j=(if v.testBit a.toNat then fl v b.toNat else v).testBit j
  rw[ga]
  split
  ·rw[Z2y,Z2y,g j hj]
  ·exact g j hj
 | swap a b =>
  obtain⟨a0,b0,n⟩:=ok
  have ga:=g a.toNat (by simp[cl,cells])
  have gb:=g b.toNat (by simp[cl,cells])
  show (sw w a.toNat b.toNat).testBit j=(sw v a.toNat b.toNat).testBit j
  rw[Z1z _ _ _ _ (by omega),Z1z _ _ _ _ (by omega),ga,gb,g j hj]
 | cross a b d =>
  obtain⟨a0,b0,d0,n1,n2,n3⟩:=ok
  have ga:=g a.toNat (by simp[cl,cells])
  have gb:=g b.toNat (by simp[cl,cells])
  have gd:=g d.toNat (by simp[cl,cells])
  show (if w.testBit a.toNat then sw w b.toNat d.toNat else w).testBit j=(if v.testBit a.toNat then sw v b.toNat d.toNat else v).testBit j
  rw[ga]
  split
  ·rw[Z1z _ _ _ _ (by omega),Z1z _ _ _ _ (by omega),gb,gd,g j hj]
  ·exact g j hj
theorem X4b {m:Mv}{w v:Nat}(g:Ag (cl m) w v):sp m w=sp m v:=by
 cases m with
 | turn a k =>
  have ga:=g a.toNat (by simp[cl,cells])
  show (if w.testBit a.toNat then k.toNat else 0)=_
  rw[ga]
  rfl
 | pair a b =>
  have ga:=g a.toNat (by simp[cl,cells])
  have gb:=g b.toNat (by simp[cl,cells])
  show (if w.testBit a.toNat && w.testBit b.toNat then 4 else 0)=_
  rw[ga,gb]
  rfl
 | _=>rfl
theorem Ok.nn {m:Mv}(ok:Ok m):∀ c∈m.cells,0<=c:=by
 cases m<;>simp only[Ok,cells] at*<;> simp<;>omega
def Dis (x y:Mv):Prop:=∀ j,j∈cl x->j ∉ cl y
theorem W0g {x y:Mv}(ox:Ok x)(oy:Ok y)(h:apart x y=true):Dis x y:=by
 intro j hx hy
 obtain⟨c,hc,e⟩:=q2e.mp hx
 obtain⟨d,hd,e'⟩:=q2e.mp hy
 have c0:=ox.nn c hc
 have d0:=oy.nn d hd
 have:c=d:=by omega
 subst this
 unfold apart at h
 rw[Bool.not_eq_true',List.any_eq_false] at h
 exact h c hc (by rw[q8a];exact hd)
theorem Dis.symm {x y:Mv}(d:Dis x y):Dis y x:=λj hy hx=>d j hx hy
theorem Y9l {x y:Mv}(oy:Ok y)(d:Dis x y)(w:Nat):Ag (cl x) (to y w) w:=λj hj=>Z4u oy (d j hj)
theorem Y5n {x y:Mv}(ox:Ok x)(oy:Ok y)(d:Dis x y)(w:Nat):to x (to y w)=to y (to x w):=by
 apply Z4t
 intro j
 by_cases hx:j∈cl x
 ·rw[X7q ox (Y9l oy d w) j hx,Z4u oy (d j hx)]
 ·rw[Z4u ox hx]
  by_cases hy:j∈cl y
  ·rw[X7q oy (Y9l ox d.symm w) j hy]
  ·rw[Z4u oy hy,Z4u oy hy,Z4u ox hx]
theorem X4e {a:Nat}{w v:Nat}(h:w.testBit a=v.testBit a):sg w a=sg v a:=by unfold sg;rw[h]
theorem X5a {x y:Mv}(ox:Ok x)(oy:Ok y)(d:Dis x y)(F:Bv)(w:Nat):op x (op y F) w=op y (op x F) w:=by
 have key:∀ {x y:Mv},Ok x->Ok y->Dis x y->isMix x=false->isMix y=false->op x (op y F) w=op y (op x F) w:=by
  intro x y ox oy d hx hy
  rw[Z1m hx,Z1m hy,Z1m hy,Z1m hx,X4b (Y9l ox d.symm w),X4b (Y9l oy d w),Y5n ox oy d,Z4s,Z4s,Z2o,Z2o,Z5g,Z5g,q6v]
 have mixd:∀ {a:Int}{y:Mv},Ok (mix a)->Ok y->Dis (mix a) y->isMix y=false->op (mix a) (op y F) w=op y (op (mix a) F) w:=by
  intro a y oa oy d hy
  have oa:0<=a:=oa
  have df:Dis (Mv.flip a) y:=d
  have c1:to y (fl w a.toNat)=fl (to y w) a.toNat:=(Y5n (x:=Mv.flip a) (y:=y) oa oy df w).symm
  have s1:sp y (fl w a.toNat)=sp y w:=X4b (Y9l (x:=y) (y:=Mv.flip a) oa df.symm w)
  have b1:(to y w).testBit a.toNat=w.testBit a.toNat:=Z4u oy (d _ (by simp[cl,cells]))
  show root (add (sm (sg w a.toNat) (op y F w)) (op y F (fl w a.toNat)))=_
  rw[Z1m hy,Z1m hy,Z1m hy]
  show _=sm 2 (En (sp y w) (root (add (sm (sg (to y w) a.toNat) (F (to y w))) (F (fl (to y w) a.toNat)))))
  rw[c1,s1,X4e b1,Y9m,Y9n,Z4s,<-Z6s,Y6e,Z2o,Z2o,q2k]
 cases hx:isMix x with
 | false =>
  cases hy:isMix y with
  | false=>exact key ox oy d hx hy
  | true =>
   cases y with
   | mix a=>exact(mixd oy ox d.symm hx).symm
   | _=>cases hy
 | true =>
  cases x with
  | mix a =>
   cases hy:isMix y with
   | false=>exact mixd ox oy d hy
   | true =>
    cases y with
    | mix b =>
     have n:a.toNat≠b.toNat:=λe=>d a.toNat (by simp[cl,cells]) (by simp[cl,cells,e])
     have s1:sg (fl w b.toNat) a.toNat=sg w a.toNat:=X4e (by rw[Z2y,q0e (λz=>n z.symm)];simp)
     have s2:sg (fl w a.toNat) b.toNat=sg w b.toNat:=X4e (by rw[Z2y,q0e n];simp)
     show root (add (sm (sg w a.toNat) (root (add (sm (sg w b.toNat) (F w)) (F (fl w b.toNat))))) (root (add (sm (sg (fl w a.toNat) b.toNat) (F (fl w a.toNat))) (F (fl (fl w a.toNat) b.toNat))))) =
      root (add (sm (sg w b.toNat) (root (add (sm (sg w a.toNat) (F w)) (F (fl w a.toNat))))) (root (add (sm (sg (fl w b.toNat) a.toNat) (F (fl w b.toNat))) (F (fl (fl w b.toNat) a.toNat)))))
     rw[s1,s2,Y8r w b.toNat a.toNat]
     congr 1
     rw[<-Z6s,<-Z6s,<-Z6h,<-Z6h]
     congr 1
     apply ext<;>simp only[add,sm]<;>grind
    | _=>cases hy
  | _=>cases hx
end M72
namespace M75
open M71 M71.Mv M72 Pc
noncomputable def bn (b:Bool):Nat:=if b then 1 else 0
noncomputable def bp (x:Nat):Bool:=decide (pc x%2=1)
theorem Y9g (x y:Nat):bp (x^^^y)=(bp x ^^ bp y):=by
 unfold bp
 have:=pcx x y
 have c:pc (x^^^y)%2=(pc x%2+pc y%2)%2:=by omega
 rw[c]
 rcases q0y (pc x) with a | a<;>rcases q0y (pc y) with b | b<;>rw[a,b]<;>rfl
theorem X2s (a:Nat):pc (2^a)=1:=by
 induction a with
 | zero=>decide +kernel
 | succ n ih =>
  have h0:(2:Nat)^(n+1)≠0:=q4g (q2f _)
  unfold pc
  rw[dif_neg h0,q8s,Nat.mul_mod_left,Nat.mul_div_cancel _ (by decide),ih]
theorem Z2q:bp 0=false:=by decide +kernel
theorem Z8b (s a:Nat):bp (2^a&&&s)=s.testBit a:=by
 have e:(2^a&&&s)=if s.testBit a then 2^a else 0:=by
  apply q1t
  intro j
  rw[q2g,q1v]
  by_cases h:a=j
  ·subst h
   cases hb:s.testBit a<;>simp
  ·cases hb:s.testBit a<;>simp[h,q1v]
 rw[e]
 cases s.testBit a
 ·exact Z2q
 ·show bp (2^a)=true
  unfold bp
  rw[X2s]
  rfl
theorem Z3l (x s a:Nat):bp (fl x a&&&s)=(bp (x&&&s) ^^ s.testBit a):=by
 unfold fl
 rw[Nat.and_xor_distrib_right,Y9g,Z8b]
theorem Z2c (x s a:Nat):bp (x&&&fl s a)=(bp (x&&&s) ^^ x.testBit a):=by
 rw[q6u,Z3l,q6u s]
theorem W0q (x a b:Nat):bp (sw x a b)=bp x:=by
 unfold sw
 split
 ·rfl
 ·unfold fl
  rw[Y9g,Y9g]
  have h:∀ j,bp (2^j)=true:=λj=>by unfold bp;rw[X2s];rfl
  rw[h,h]
  cases bp x<;>rfl
abbrev Mk:=Nat × Nat × Nat
noncomputable def lay (m:Mk)(F:Bv):Bv:=λw=>En (2*m.1+4*bn (bp ((w^^^m.2.1)&&&m.2.2))) (F (w^^^m.2.1))
noncomputable def mvd:Mv->Mk->Mk
 | .flip a,(k,f,s)=>(if s.testBit a.toNat then (k+2)%4 else k,f,s)
 | mix a,(k,f,s)=>(if f.testBit a.toNat && s.testBit a.toNat then (k+2)%4 else k,if f.testBit a.toNat=s.testBit a.toNat then f else fl f a.toNat,if f.testBit a.toNat=s.testBit a.toNat then s else fl s a.toNat)
 | turn a j,(k,f,s)=>if f.testBit a.toNat then ((k+j.toNat / 2)%4,f,if j.toNat%4=2 then fl s a.toNat else s) else (k,f,s)
 | iff a b,(k,f,s)=>(k,if f.testBit a.toNat then fl f b.toNat else f,if s.testBit b.toNat then fl s a.toNat else s)
 | pair a b,(k,f,s)=>(if f.testBit a.toNat && f.testBit b.toNat then (k+2)%4 else k,f,(if f.testBit b.toNat then fl (if f.testBit a.toNat then fl s b.toNat else s) a.toNat else if f.testBit a.toNat then fl s b.toNat else s))
 | swap a b,(k,f,s)=>(k,sw f a.toNat b.toNat,sw s a.toNat b.toNat)
 | _,m=>m
def Br:Mv->Prop
 | cross _ _ _=>False
 | turn _ j=>j.toNat%2=0
 | _=>True
theorem X2f {m n:Nat}(h:m%8=n%8)(x:V4):En m x=En n x:=by rw[Y1a m,Y1a n,h]
theorem Z5h {m:Mv}(hm:isMix m=false){F:Bv}{w:Nat}{p q:Mk}(h1:to m w^^^p.2.1=to m (w^^^q.2.1))
  (h2:(sp m w+(2*p.1+4*bn (bp ((to m w^^^p.2.1)&&&p.2.2))))%8=(2*q.1+4*bn (bp ((w^^^q.2.1)&&&q.2.2))+sp m (w^^^q.2.1))%8):op m (lay p F) w=lay q (op m F) w:=by
 unfold lay
 rw[Z1m hm,Z1m hm,Z4s,Z5g,Z5g,h1]
 congr 1
 rw[<-h1]
 exact X2f h2 _
theorem Y0n (w f a:Nat):fl w a^^^f=fl (w^^^f) a:=by
 unfold fl
 rw[q2n,q7v (2^a),<-q2n]
theorem Y2f (w f a:Nat):w^^^fl f a=fl (w^^^f) a:=by
 unfold fl
 rw[q2n]
theorem Y9y {a:Int}(F:Bv)(w:Nat)(p:Mk):op (.flip a) (lay p F) w=lay (mvd (.flip a) p) (op (.flip a) F) w:=by
 obtain⟨k,f,s⟩:=p
 refine Z5h rfl (Y0n _ _ _) ?_
 show (0+(2*k+4*bn (bp ((fl w a.toNat^^^f)&&&s))))%8=(2*(if s.testBit a.toNat then (k+2)%4 else k)+4*bn (bp ((w^^^f)&&&s))+0)%8
 rw[Y0n,Z3l]
 cases s.testBit a.toNat<;>cases bp ((w^^^f)&&&s)<;>simp[bn]<;>omega
theorem Y9v {a j:Int}(he:j.toNat%2=0)(hj:j.toNat<=7)(F:Bv)(w:Nat)(p:Mk):op (turn a j) (lay p F) w=lay (mvd (turn a j) p) (op (turn a j) F) w:=by
 obtain⟨k,f,s⟩:=p
 generalize hJ:j.toNat=J at he hj
 by_cases hf:f.testBit a.toNat=true
 ·have e:mvd (turn a j) (k,f,s)=((k+J / 2)%4,f,if J%4=2 then fl s a.toNat else s):=by
   show (if _ then _ else _)=_
   rw[if_pos hf,hJ]
  rw[e]
  refine Z5h rfl rfl ?_
  show ((if w.testBit a.toNat then j.toNat else 0)+(2*k+4*bn (bp ((w^^^f)&&&s))))%8=(2*((k+J / 2)%4)+4*bn (bp ((w^^^f)&&&if J%4=2 then fl s a.toNat else s))+(if (w^^^f).testBit a.toNat then j.toNat else 0))%8
  have hx:(w^^^f).testBit a.toNat=!w.testBit a.toNat:=by rw[q1o,hf];cases w.testBit a.toNat<;>rfl
  rw[hx,hJ]
  have:J=0∨J=2∨J=4∨J=6:=by omega
  rcases this with rfl | rfl | rfl | rfl
  ·rw[if_neg (show ¬ (0:Nat)%4=2 by decide)]
   generalize bn (bp ((w^^^f)&&&s))=Z
   cases w.testBit a.toNat<;>simp<;>omega
  ·rw[if_pos (show (2:Nat)%4=2 by decide),Z2c,hx]
   cases w.testBit a.toNat<;>cases bp ((w^^^f)&&&s)<;>simp[bn]<;>omega
  ·rw[if_neg (show ¬ (4:Nat)%4=2 by decide)]
   generalize bn (bp ((w^^^f)&&&s))=Z
   cases w.testBit a.toNat<;>simp<;>omega
  ·rw[if_pos (show (6:Nat)%4=2 by decide),Z2c,hx]
   cases w.testBit a.toNat<;>cases bp ((w^^^f)&&&s)<;>simp[bn]<;>omega
 ·have e:mvd (turn a j) (k,f,s)=(k,f,s):=by
   show (if _ then _ else _)=_
   rw[if_neg hf]
  rw[e]
  refine Z5h rfl rfl ?_
  show ((if w.testBit a.toNat then j.toNat else 0)+_)%8=(_+(if (w^^^f).testBit a.toNat then j.toNat else 0))%8
  have hx:(w^^^f).testBit a.toNat=w.testBit a.toNat:=by
   rw[q1o,(by simpa using hf:f.testBit a.toNat=false)]
   cases w.testBit a.toNat<;>rfl
  rw[hx,q6v]
  rfl
theorem Z1i {w a b:Nat}(h:a≠b):(fl w b).testBit a=w.testBit a:=by
 rw[Z2y,q0e (λz:b=a=>h z.symm)]
 cases w.testBit a<;>rfl
theorem Z2a (w a:Nat):(fl w a).testBit a=!w.testBit a:=by
 rw[Z2y]
 simp
theorem X3u {a b:Int}(ne:a.toNat≠b.toNat)(F:Bv)(w:Nat)(p:Mk):op (iff a b) (lay p F) w=lay (mvd (iff a b) p) (op (iff a b) F) w:=by
 obtain⟨k,f,s⟩:=p
 generalize hA:a.toNat=A at ne
 generalize hB:b.toNat=B at ne
 have t:∀ v,to (iff a b) v=if v.testBit A then fl v B else v:=λv=>by show (if _ then _ else _)=_;rw[hA,hB]
 have e:mvd (iff a b) (k,f,s)=(k,if f.testBit A then fl f B else f,if s.testBit B then fl s A else s):=by
  show (_,(if _ then _ else _),(if _ then _ else _))=_
  rw[hA,hB]
 rw[e]
 have h1:to (iff a b) w^^^f=to (iff a b) (w^^^if f.testBit A then fl f B else f):=by
  rw[t,t]
  cases hf:f.testBit A<;>cases hw:w.testBit A<;>simp[hf,hw,q1o,Y2f,Y0n,Z1i ne,Z3j]
 refine Z5h rfl h1 ?_
 show (0+(2*k+4*bn (bp ((to (iff a b) w^^^f)&&&s))))%8=(2*k+4*bn (bp ((w^^^if f.testBit A then fl f B else f)&&&if s.testBit B then fl s A else s))+0)%8
 rw[q6r,q5q]
 congr 3
 congr 1
 rw[t]
 cases hf:f.testBit A<;>cases hw:w.testBit A<;>cases hs:s.testBit B<;>simp[Y2f,Y0n,Z3l,Z2c,q1o,hf,hw,hs,Z1i ne,Z1i (Ne.symm ne)]
theorem Y9x {a b:Int}(ne:a.toNat≠b.toNat)(F:Bv)(w:Nat)(p:Mk):op (pair a b) (lay p F) w=lay (mvd (pair a b) p) (op (pair a b) F) w:=by
 obtain⟨k,f,s⟩:=p
 refine Z5h rfl rfl ?_
 show ((if w.testBit a.toNat && w.testBit b.toNat then 4 else 0)+(2*k+4*bn (bp ((w^^^f)&&&s))))%8=(2*(if f.testBit a.toNat && f.testBit b.toNat then (k+2)%4 else k)+4*bn (bp ((w^^^f)&&&(if f.testBit b.toNat then fl (if f.testBit a.toNat then fl s b.toNat else s) a.toNat else if f.testBit a.toNat then fl s b.toNat else s)))+(if (w^^^f).testBit a.toNat && (w^^^f).testBit b.toNat then 4 else 0))%8
 rw[q1o,q1o]
 generalize a.toNat=A at *
 generalize b.toNat=B at *
 cases hfa:f.testBit A<;>cases hfb:f.testBit B<;>cases hwa:w.testBit A<;>cases hwb:w.testBit B<;>simp[Z2c,q1o,hfa,hfb,hwa,hwb]<;>cases bp ((w^^^f)&&&s)<;>simp[bn]<;>omega
theorem Y9w {a b:Int}(ne:a.toNat≠b.toNat)(F:Bv)(w:Nat)(p:Mk):op (swap a b) (lay p F) w=lay (mvd (swap a b) p) (op (swap a b) F) w:=by
 obtain⟨k,f,s⟩:=p
 have h1:sw w a.toNat b.toNat^^^f=sw (w^^^sw f a.toNat b.toNat) a.toNat b.toNat:=by
  apply Z4t
  intro j
  rw[q1o,Z1z _ _ _ _ ne,Z1z _ _ _ _ ne,q1o,q1o,q1o,Z1z _ _ _ _ ne,Z1z _ _ _ _ ne,Z1z _ _ _ _ ne]
  by_cases ja:j=a.toNat
  ·subst ja;simp[Ne.symm ne]
  ·by_cases jb:j=b.toNat
   ·subst jb;simp[Ne.symm ne]
   ·simp[ja,jb]
 refine Z5h rfl h1 ?_
 show (0+(2*k+4*bn (bp ((sw w a.toNat b.toNat^^^f)&&&s))))%8=(2*k+4*bn (bp ((w^^^sw f a.toNat b.toNat)&&&sw s a.toNat b.toNat))+0)%8
 have e:((sw w a.toNat b.toNat^^^f)&&&s)=sw ((w^^^sw f a.toNat b.toNat)&&&sw s a.toNat b.toNat) a.toNat b.toNat:=by
  rw[h1]
  apply Z4t
  intro j
  rw[q2g,Z1z _ _ _ _ ne,Z1z _ _ _ _ ne,q2g,q2g,q2g,Z1z s _ _ _ ne,Z1z s _ _ _ ne,Z1z s _ _ _ ne]
  by_cases ja:j=a.toNat
  ·subst ja;simp[Ne.symm ne]
  ·by_cases jb:j=b.toNat
   ·subst jb;simp[Ne.symm ne]
   ·simp[ja,jb]
 rw[e,W0q,q6r,q5q]
noncomputable def sgB (b:Bool):Int:=if b then -1 else 1
theorem Y5i (n:Nat)(b:Bool)(x:V4):En (n+4*bn b) x=sm (sgB b) (En n x):=by
 cases b
 ·show En (n+0) x=sm 1 (En n x)
  rw[Z4m,q5q]
 ·show En (n+4) x=sm (-1) (En n x)
  rw[q6v,<-Z5g,En4]
theorem X7t (w a:Nat):sg w a=sgB (w.testBit a):=by
 unfold sg sgB
 cases w.testBit a<;>rfl
theorem Y1e (a b:Bool):sgB a*sgB b=sgB (a ^^ b):=by cases a<;>cases b<;>rfl
theorem X3t {a:Int}(F:Bv)(w:Nat)(p:Mk):op (mix a) (lay p F) w=lay (mvd (mix a) p) (op (mix a) F) w:=by
 obtain⟨k,f,s⟩:=p
 generalize hA:a.toNat=A
 have eL:∀ G:Bv,∀ v,op (mix a) G v=root (add (sm (sgB (v.testBit A)) (G v)) (G (fl v A))):=λG v=>by
  show root (add (sm (sg v a.toNat) (G v)) (G (fl v a.toNat)))=_
  rw[hA,X7t]
 have e:mvd (mix a) (k,f,s)=(if f.testBit A && s.testBit A then (k+2)%4 else k,if f.testBit A=s.testBit A then f else fl f A,if f.testBit A=s.testBit A then s else fl s A):=by
  show ((if _ then _ else _),(if _ then _ else _),(if _ then _ else _))=_
  rw[hA]
 rw[e,eL]
 unfold lay
 simp only[]
 rw[eL,Y9m,Y9n,Z4s,Y5i,Y5i,Y5i,Y5i,Z2o,Z2o,Y1e,Y1e,Y0n,Z3l]
 have k2:∀ x:V4,En (2*((k+2)%4)) x=sm (sgB true) (En (2*k) x):=λx=>by
  rw[<-Y5i]
  exact X2f (by show (2*((k+2)%4))%8=(2*k+4*1)%8;omega) x
 cases hf:f.testBit A<;>cases hs:s.testBit A
 ·simp[q1o,hf,hs]
 ·simp[q1o,hf,hs,Y2f,Z3l,Z2c,Z3j,Z2a]
  rw[add_comm]
  cases w.testBit A<;>cases bp ((w^^^f)&&&s)<;>simp[sgB]
 ·simp[q1o,hf,hs,Y2f,Z3l,Z2c,Z3j,Z2a]
  rw[add_comm]
  cases w.testBit A<;>cases bp ((w^^^f)&&&s)<;>simp[sgB]
 ·simp[q1o,hf,hs,k2,Z2o,Y1e]
noncomputable def mvds:List Mv->Mk->Mk
 | [],m=>m
 | x::r,m=>mvds r (mvd x m)
theorem X3s {m:Mv}(o:Ok m)(b:Br m)(F:Bv)(p:Mk):op m (lay p F)=lay (mvd m p) (op m F):=by
 funext w
 cases m with
 | flip a=>exact Y9y F w p
 | mix a=>exact X3t F w p
 | turn a j=>exact Y9v b (by have:0<=a/\1<=j/\j<=7:=o;omega) F w p
 | iff a c=>exact X3u (by have:0<=a/\0<=c/\a≠c:=o;omega) F w p
 | pair a c=>exact Y9x (by have:0<=a/\0<=c/\a≠c:=o;omega) F w p
 | swap a c=>exact Y9w (by have:0<=a/\0<=c/\a≠c:=o;omega) F w p
 | cross a c d=>exact absurd b id
end M75
namespace M72
open M71 M71.Mv
noncomputable def rowop:List Mv->Bv->Bv
 | [],F=>F
 | m::ms,F=>rowop ms (op m F)
theorem Z2u:∀ (l r:List Mv) (F:Bv),rowop (l++r) F=rowop r (rowop l F)
 | [],_,_=>rfl
 | m::l,r,F=>Z2u l r (op m F)
theorem W1l (m:Mv)(n:Int)(F:Bv)(w:Nat):op m (λv=>sm n (F v)) w=sm n (op m F w):=by
 cases h:isMix m with
 | false=>rw[Z1m h,Z1m h,Z4s,Z2o,Z2o,q2k]
 | true =>
  cases m with
  | mix a =>
   show root (add (sm (sg w a.toNat) (sm n (F w))) (sm n (F (fl w a.toNat))))=sm n (root (add (sm (sg w a.toNat) (F w)) (F (fl w a.toNat))))
   rw[<-Z6s,Y6e,Z2o,Z2o,q2k]
  | _=>cases h
theorem Z6f:∀ (r:List Mv) (n:Int) (F:Bv) (w:Nat),rowop r (λv=>sm n (F v)) w=sm n (rowop r F w)
 | [],_,_,_=>rfl
 | m::r,n,F,w=>by
  have e:op m (λv=>sm n (F v))=λv=>sm n (op m F v):=funext λv=>W1l m n F v
  show rowop r (op m (λv=>sm n (F v))) w=sm n (rowop r (op m F) w)
  rw[e]
  exact Z6f r n (op m F) w
def Eqv (r r':List Mv):Prop:=∀ (F:Bv) (w:Nat),sm (2^r'.length) (rowop r F w)=sm (2^r.length) (rowop r' F w)
theorem Eqv.refl (r:List Mv):Eqv r r:=λ_ _=>rfl
theorem Y2x {n:Int}(h:n≠0){x y:V4}(e:sm n x=sm n y):x=y:=by
 have e1:=congrArg (λt:V4=>t.1) e
 have e2:=congrArg (λt:V4=>t.2.1) e
 have e3:=congrArg (λt:V4=>t.2.2.1) e
 have e4:=congrArg (λt:V4=>t.2.2.2) e
 exact ext (q2u h e1) (q2u h e2) (q2u h e3) (q2u h e4)
theorem Y5j (n:Nat):(2:Int)^n≠0:=Int.pow_ne_zero (by decide)
theorem Eqv.trans {a b c:List Mv}(h:Eqv a b)(g:Eqv b c):Eqv a c:=by
 intro F w
 apply Y2x (Y5j b.length)
 have h1:=congrArg (sm (2^c.length)) (h F w)
 have g1:=congrArg (sm (2^a.length)) (g F w)
 rw[Z2o,Z2o] at h1 g1 ⊢
 rw[q2k (2^b.length),h1,q2k (2^c.length),g1,q2k]
theorem Eqv.ctx {r r':List Mv}(h:Eqv r r')(l t:List Mv):Eqv (l++r++t) (l++r'++t):=by
 intro F w
 rw[Z2u,Z2u,Z2u,Z2u]
 have e:(λv=>sm (2^r'.length) (rowop r (rowop l F) v))=λv=>sm (2^r.length) (rowop r' (rowop l F) v):=funext λv=>h (rowop l F) v
 have q:rowop t (λv=>sm (2^r'.length) (rowop r (rowop l F) v)) w=rowop t (λv=>sm (2^r.length) (rowop r' (rowop l F) v)) w:=congrArg (λG=>rowop t G w) e
 rw[Z6f,Z6f] at q
 have q':=congrArg (sm (2^(l.length+t.length))) q
 rw[Z2o,Z2o,<-q7k,<-q7k] at q'
 rw[q0c,q0c,q0c,q0c]
 rw[show l.length+r'.length+t.length=l.length+t.length+r'.length by omega,show l.length+r.length+t.length=l.length+t.length+r.length by omega]
 exact q'
theorem Z3t (a b c d:Int)(h1:min a b=min c d)(h2:max a b=max c d):(a=c/\b=d)∨(a=d/\b=c):=by omega
theorem Y5p (w a b:Nat):sw w a b=sw w b a:=by
 unfold sw
 by_cases e:w.testBit a=w.testBit b
 ·rw[if_pos e,if_pos e.symm]
 ·rw[if_neg e,if_neg (λz=>e z.symm),Y8r]
theorem X8f {x y:Mv}(h:ord x=ord y):op x=op y:=by
 cases x with
 | pair a b =>
  cases y with
  | pair c d =>
   simp only[ord,Mv.pair.injEq] at h
   rcases Z3t a b c d h.1 h.2 with ⟨rfl,rfl⟩ | ⟨rfl,rfl⟩
   ·rfl
   ·funext F w
    show sm 2 (En (if w.testBit a.toNat && w.testBit b.toNat then 4 else 0) (F w))=sm 2 (En (if w.testBit b.toNat && w.testBit a.toNat then 4 else 0) (F w))
    rw[Bool.and_comm]
  | _=>simp[ord] at h
 | swap a b =>
  cases y with
  | swap c d =>
   simp only[ord,Mv.swap.injEq] at h
   rcases Z3t a b c d h.1 h.2 with ⟨rfl,rfl⟩ | ⟨rfl,rfl⟩
   ·rfl
   ·funext F w
    show sm 2 (En 0 (F (sw w a.toNat b.toNat)))=sm 2 (En 0 (F (sw w b.toNat a.toNat)))
    rw[Y5p]
  | _=>simp[ord] at h
 | cross e a b =>
  cases y with
  | cross e' c d =>
   simp only[ord,Mv.cross.injEq] at h
   obtain⟨rfl,h1,h2⟩:=h
   rcases Z3t a b c d h1 h2 with ⟨rfl,rfl⟩ | ⟨rfl,rfl⟩
   ·rfl
   ·funext F w
    show sm 2 (En 0 (F (if w.testBit e.toNat then sw w a.toNat b.toNat else w)))=sm 2 (En 0 (F (if w.testBit e.toNat then sw w b.toNat a.toNat else w)))
    rw[Y5p]
  | _=>simp[ord] at h
 | flip a=>cases y<;>simp[ord] at h;rw[h]
 | mix a=>cases y<;>simp[ord] at h;rw[h]
 | turn a k=>cases y<;>simp[ord] at h;rw[h.1,h.2]
 | iff a b=>cases y<;>simp[ord] at h;rw[h.1,h.2]
theorem X0a {w a b:Nat}(n:a≠b):sw (sw w a b) a b=w:=by
 apply Z4t
 intro j
 rw[Z1z _ _ _ _ n]
 by_cases ja:j=a
 ·rw[if_pos ja,Z1z _ _ _ _ n,if_neg (λz=>n z.symm),if_pos rfl,ja]
 ·rw[if_neg ja]
  by_cases jb:j=b
  ·rw[if_pos jb,Z1z _ _ _ _ n,if_pos rfl,jb]
  ·rw[if_neg jb,Z1z _ _ _ _ n,if_neg ja,if_neg jb]
theorem X0e (w a:Nat):sg (fl w a) a=-sg w a:=by
 unfold sg
 rw[Z2y,q0j rfl]
 cases w.testBit a<;>rfl
theorem X0d (w a:Nat):sg w a*sg w a=1:=by
 unfold sg
 split<;>rfl
noncomputable def isTurn:Mv->Bool
 | turn _ _=>true
 | _=>false
theorem Y3g {x:Mv}(ok:Ok x)(nt:isTurn x=false)(F:Bv)(w:Nat):op x (op x F) w=sm 4 (F w):=by
 have mono:isMix x=false->to x (to x w)=w->En (sp x w+sp x (to x w)) (F w)=F w->op x (op x F) w=sm 4 (F w):=by
  intro h1 h2 h3
  rw[Z1m h1,Z1m h1,Z4s,Z2o,Z5g,h2,h3]
  rfl
 cases x with
 | flip a=>exact mono rfl (Z3j _ _) rfl
 | mix a =>
  show root (add (sm (sg w a.toNat) (root (add (sm (sg w a.toNat) (F w)) (F (fl w a.toNat))))) (root (add (sm (sg (fl w a.toNat) a.toNat) (F (fl w a.toNat))) (F (fl (fl w a.toNat) a.toNat)))))=_
  rw[Z3j,X0e,<-Z6s,<-Z6h,Y6k]
  have s:=X0d w a.toNat
  generalize sg w a.toNat=σ at s ⊢
  generalize F w=x
  generalize F (fl w a.toNat)=y
  apply ext<;>simp only[add,sm]<;>grind
 | turn a k=>cases nt
 | iff a b =>
  obtain⟨a0,b0,n⟩:=ok
  refine mono rfl ?_ rfl
  show (if (if w.testBit a.toNat then fl w b.toNat else w).testBit a.toNat then fl (if w.testBit a.toNat then fl w b.toNat else w) b.toNat else (if w.testBit a.toNat then fl w b.toNat else w))=w
  by_cases e:w.testBit a.toNat=true
  ·rw[if_pos e,Z2y,q0e (by omega),e]
   exact Z3j _ _
  ·rw[if_neg e,if_neg e]
 | pair a b =>
  refine mono rfl rfl ?_
  show En ((if w.testBit a.toNat && w.testBit b.toNat then 4 else 0)+(if w.testBit a.toNat && w.testBit b.toNat then 4 else 0)) (F w)=F w
  split
  ·exact En8 _
  ·rfl
 | swap a b =>
  obtain⟨a0,b0,n⟩:=ok
  exact mono rfl (X0a (by omega)) rfl
 | cross e a b =>
  obtain⟨e0,a0,b0,n1,n2,n3⟩:=ok
  refine mono rfl ?_ rfl
  show (if (if w.testBit e.toNat then sw w a.toNat b.toNat else w).testBit e.toNat then sw (if w.testBit e.toNat then sw w a.toNat b.toNat else w) a.toNat b.toNat else (if w.testBit e.toNat then sw w a.toNat b.toNat else w))=w
  by_cases z:w.testBit e.toNat=true
  ·have hb:(sw w a.toNat b.toNat).testBit e.toNat=true:=by
    rw[Z1z _ _ _ _ (by omega),if_neg (by omega),if_neg (by omega)]
    exact z
   rw[if_pos z,if_pos hb]
   exact X0a (by omega)
  ·rw[if_neg z,if_neg z]
theorem X0i {x y:Mv}{u:List Mv}(ox:Ok x)(oy:Ok y)(h:put2 x y=some u):Eqv [x,y] u:=by
 unfold put2 at h
 split at h
 ·rename_i a k hj
  cases x with
  | turn a1 j =>
   cases y with
   | turn b k1 =>
    simp only[joint] at hj
    split at hj
    ·rename_i hab
     subst hab
     simp only[Option.some.injEq,Prod.mk.injEq] at hj
     obtain⟨rfl,rfl⟩:=hj
     obtain⟨a0,j1,j7⟩:=ox
     obtain⟨_,k1',k7⟩:=oy
     cases h
     have two:∀ F w,rowop [turn a1 j,turn a1 k1] F w=sm 4 (En (if w.testBit a1.toNat then (j+k1).toNat else 0) (F w)):=by
      intro F w
      show sm 2 (En (if w.testBit a1.toNat then k1.toNat else 0) (sm 2 (En (if w.testBit a1.toNat then j.toNat else 0) (F w))))=_
      rw[Z4s,Z2o,Z5g]
      split
      ·rw[show k1.toNat+j.toNat=(j+k1).toNat by omega];rfl
      ·rfl
     by_cases e8:j+k1=8
     ·rw[if_pos e8]
      intro F w
      rw[two,e8]
      show sm 1 (sm 4 (En (if w.testBit a1.toNat then 8 else 0) (F w)))=sm 4 (F w)
      rw[Z4m]
      split
      ·rw[En8]
      ·rfl
     ·rw[if_neg e8]
      intro F w
      rw[two]
      show sm 2 (sm 4 (En (if w.testBit a1.toNat then (j+k1).toNat else 0) (F w)))=sm 4 (sm 2 (En (if w.testBit a1.toNat then ((j+k1)%8).toNat else 0) (F w)))
      rw[Z2o,Z2o]
      split
      ·rw[Y1a (j+k1).toNat,show (j+k1).toNat%8=((j+k1)%8).toNat by omega];rfl
      ·rfl
    ·cases hj
   | _=>simp[joint] at hj
  | _=>simp[joint] at hj
 ·rename_i hj
  split at h
  ·rename_i ho
   cases h
   have nt:isTurn x=false:=by
    cases x with
    | turn a k =>
     cases y<;>simp[ord] at ho
     obtain⟨rfl,rfl⟩:=ho
     simp[joint] at hj
    | _=>rfl
   intro F w
   show sm 1 (op y (op x F) w)=sm 4 (F w)
   rw[Z4m,<-X8f ho]
   exact Y3g ox nt F w
  ·split at h
   ·rename_i hg
    cases h
    intro F w
    show sm 4 (op y (op x F) w)=sm 4 (op x (op y F) w)
    congr 1
    unfold goes at hg
    by_cases ap:apart y x=true
    ·exact X5a oy ox (W0g oy ox ap) F w
    ·rw[if_neg ap] at hg
     cases y with
     | turn a k =>
      have key:isMix x=false->sp (turn a k) (to x w)=sp (turn a k) w->op (turn a k) (op x F) w=op x (op (turn a k) F) w:=by
       intro hx e
       rw[Z1m hx,Z1m (m:=turn a k) rfl,Z1m (m:=turn a k) rfl,Z1m hx,Z4s,Z4s,Z2o,Z2o,Z5g,Z5g,q6v,e]
       rfl
      cases x with
      | pair b c=>exact key rfl rfl
      | iff c b =>
       obtain⟨c0,b0,n⟩:=ox
       simp only[free,q1a] at hg
       subst hg
       refine key rfl ?_
       show (if (if w.testBit c.toNat then fl w b.toNat else w).testBit c.toNat then k.toNat else 0)=(if w.testBit c.toNat then k.toNat else 0)
       by_cases z:w.testBit c.toNat=true
       ·rw[if_pos z,Z2y,q0e (by omega),z];rfl
       ·rw[if_neg z]
      | _=>simp[free] at hg
     | _=>simp[free] at hg
   ·cases h
theorem X0h {x y z:Mv}{u:List Mv}(ox:Ok x)(h:put3 x y z=some u):Eqv [x,y,z] u:=by
 unfold put3 at h
 cases x with
 | mix c =>
  simp only at h
  split at h
  ·rename_i hz
   subst hz
   split at h
   ·rename_i hy
    subst hy
    cases h
    intro F w
    show sm 2 (root (add (sm (sg w c.toNat) (sm 2 (root (add (sm (sg (fl w c.toNat) c.toNat) (F (fl w c.toNat))) (F (fl (fl w c.toNat) c.toNat)))))) (sm 2 (root (add (sm (sg (fl (fl w c.toNat) c.toNat) c.toNat) (F (fl (fl w c.toNat) c.toNat))) (F (fl (fl (fl w c.toNat) c.toNat) c.toNat)))))))=sm 8 (sm 2 (En (if w.testBit c.toNat then 4 else 0) (F w)))
    rw[Z3j,X0e]
    have s:=X0d w c.toNat
    have e:En (if w.testBit c.toNat then 4 else 0) (F w)=sm (sg w c.toNat) (F w):=by
     unfold sg
     split
     ·exact En4 _
     ·exact(Z4m _).symm
    rw[e]
    generalize sg w c.toNat=σ at s ⊢
    generalize F w=x
    generalize F (fl w c.toNat)=y
    apply ext<;>simp only[add,sm,root]<;>grind
   ·split at h
    ·rename_i hy
     subst hy
     cases h
     intro F w
     have e:∀ v X,En (if v.testBit c.toNat then 4 else 0) X=sm (sg v c.toNat) X:=by
      intro v X
      unfold sg
      split
      ·exact En4 _
      ·exact(Z4m _).symm
     show sm 2 (root (add (sm (sg w c.toNat) (sm 2 (En (if w.testBit c.toNat then 4 else 0) (root (add (sm (sg w c.toNat) (F w)) (F (fl w c.toNat))))))) (sm 2 (En (if (fl w c.toNat).testBit c.toNat then 4 else 0) (root (add (sm (sg (fl w c.toNat) c.toNat) (F (fl w c.toNat))) (F (fl (fl w c.toNat) c.toNat))))))))=sm 8 (sm 2 (F (fl w c.toNat)))
     rw[e,e,Z3j,X0e]
     have s:=X0d w c.toNat
     generalize sg w c.toNat=σ at s ⊢
     generalize F w=x
     generalize F (fl w c.toNat)=y
     apply ext<;>simp only[add,sm,root]<;>grind
    ·cases h
  ·cases h
 | _=>simp at h
def VOk (c:Nat)(m:Mv):Prop:=Ok m/\∀ x∈m.cells,x<(c:Int)
theorem X4n {c:Nat}{x y:Mv}{u:List Mv}(ox:VOk c x)(oy:VOk c y)(h:put2 x y=some u):∀ m∈u,VOk c m:=by
 unfold put2 at h
 split at h
 ·rename_i a k hj
  cases x with
  | turn a1 j =>
   cases y with
   | turn b k1 =>
    simp only[joint] at hj
    split at hj
    ·rename_i hab
     subst hab
     simp only[Option.some.injEq,Prod.mk.injEq] at hj
     obtain⟨rfl,rfl⟩:=hj
     obtain⟨⟨a0,j1,j7⟩,hc⟩:=ox
     obtain⟨⟨_,k1',k7⟩,_⟩:=oy
     cases h
     by_cases e8:j+k1=8
     ·rw[if_pos e8];intro m hm;cases hm
     ·rw[if_neg e8]
      intro m hm
      rw[q0n] at hm
      subst hm
      exact⟨⟨a0,by omega,by omega⟩,hc⟩
    ·cases hj
   | _=>simp[joint] at hj
  | _=>simp[joint] at hj
 ·split at h
  ·cases h;intro m hm;cases hm
  ·split at h
   ·cases h
    intro m hm
    simp only[q0p,q5x,q2t] at hm
    rcases hm with rfl | rfl
    ·exact oy
    ·exact ox
   ·cases h
theorem X4l {c:Nat}{x y z:Mv}{u:List Mv}(ox:VOk c x)(h:put3 x y z=some u):∀ m∈u,VOk c m:=by
 unfold put3 at h
 cases x with
 | mix d =>
  obtain⟨d0,hc⟩:=ox
  have d0:0<=d:=d0
  have dc:d<(c:Int):=hc d (by simp[cells])
  simp only at h
  split at h
  ·split at h
   ·cases h
    intro m hm
    rw[q0n] at hm
    subst hm
    exact⟨⟨d0,by decide,by decide⟩,λx hx=>by simp[cells] at hx;omega⟩
   ·split at h
    ·cases h
     intro m hm
     rw[q0n] at hm
     subst hm
     exact⟨d0,λx hx=>by simp[cells] at hx;omega⟩
    ·cases h
  ·cases h
 | _=>simp at h
theorem Y0o {row tk u:List Mv}{p:Nat}(d:Did row p tk u):row=row.take p++tk++row.drop (p+tk.length):=by
 have e:=d.eq
 conv=>lhs;rw[<-q5r p row,<-q5r tk.length (row.drop p),e,List.drop_drop]
 rw[q1u]
theorem X6t {c:Nat}{row tk u:List Mv}{p:Nat}(d:Did row p tk u)(ok:∀ m∈row,VOk c m):Eqv row (app row p tk.length u)/\∀ m∈app row p tk.length u,VOk c m:=by
 have sp:=Y0o d
 have otk:∀ m∈tk,VOk c m:=λm hm=>ok m (by rw[sp];simp[hm])
 have key:Eqv tk u/\∀ m∈u,VOk c m:=by
  rcases d.due with ⟨x,y,rfl,h⟩ | ⟨x,y,z,rfl,_,h⟩
  ·have ox:=otk x (by simp)
   have oy:=otk y (by simp)
   exact⟨X0i ox.1 oy.1 h,X4n ox oy h⟩
  ·have ox:=otk x (by simp)
   exact⟨X0h ox.1 h,X4l ox h⟩
 constructor
 ·have:=key.1.ctx (row.take p) (row.drop (p+tk.length))
  rw[<-sp] at this
  exact this
 ·intro m hm
  unfold app at hm
  rw[q0v,q0v] at hm
  rcases hm with (h | h) | h
  ·exact ok m (q3n h)
  ·exact key.2 m h
  ·exact ok m (q4l h)
theorem Y2g {c:Nat}{row short:List Mv}{ss:List Stp}(h:Walk row ss short)(ok:∀ m∈row,VOk c m):Eqv row short/\∀ m∈short,VOk c m:=by
 induction h with
 | nil=>exact⟨Eqv.refl _,ok⟩
 | snoc w s ih =>
  obtain⟨e,o⟩:=ih
  obtain⟨e',o'⟩:=X6t s o
  exact⟨e.trans e',o'⟩
end M72
set_option maxHeartbeats 4000000
namespace L2
def Rows5K (K:U0)(H:Hp):List Addr->List (List Int)->Prop:=Paired λp ns=>SqT K H p (ns.map V.int)
section
variable {X:Cx}
theorem Z4n {pins:U1}{σ:St}{H:Hp}{s:U7}(I:Inv X pins σ H s):∀ {ps:U3}{xs:List (List Int)}{us:U5},Rows5K X.K H ps xs->Vals (ps.map V.ref) us->∃ as,ReadsAll s.heap us (xs.map λns=>PyData.tuple (ns.map PyData.int)) as
 | [],[],us,.nil,r=>by cases r;exact⟨[],.nil⟩
 | p::ps,ns::xs,us,.cons e r,rv=>by
  cases rv with
  | cons ru rr =>
   cases ru
   obtain⟨as,ha⟩:=Z4n I r rr
   obtain⟨its,rv',ht,_⟩:=I.tuple e
   exact⟨_,.cons (Z3i ht (Z2n rv')) ha⟩
theorem Z5u {pins:U1}{σ:St}{H:Hp}{s:U7}(I:Inv X pins σ H s){a:W9}{ps:U3}{xs:List (List Int)}(h:H a=some (.lst (ps.map V.ref)))(r:Rows5K X.K H ps xs):∃ as,Reads s.heap (.ref a) (.list (xs.map λns=>PyData.tuple (ns.map PyData.int))) as:=by
 obtain⟨its,rv,pl,_⟩:=I.list (SqL.of h)
 obtain⟨as,ha⟩:=Z4n I r rv
 obtain⟨o,ho,hc,n,hd⟩:=pl.isList
 exact⟨_,Reads.list ho hc hd (by simpa using ha)⟩
def rEqLTK (K:U0)(neg:Bool):R2:=λx y H Q=>∃ (a b:W9) (ps qs:U3) (xs ys:List (List Int)),x=.ref a/\y=.ref b/\H a=some (.lst (ps.map V.ref))/\H b=some (.lst (qs.map V.ref))/\Rows5K K H ps xs/\Rows5K K H qs ys/\Q (.bl (if neg then !decide (xs=ys) else decide (xs=ys))) H
theorem Y3j (hu:X.A.units+64<cLine):OpR X (compareOp .Eq) (rEqLTK X.K false):=by
 intro pins s σ H x y v u Q I rx ry h
 obtain⟨a,b,ps,qs,xs,ys,rfl,rfl,h1,h2,r1,r2,q⟩:=h
 cases rx;cases ry
 obtain⟨as,ra⟩:=Z5u I h1 r1
 obtain⟨bs,rb⟩:=Z5u I h2 r2
 refine q8g ra rb (Z6q xs) (Z6q ys) hu (by simp only[SeqAt.noMix];exact Z7t xs ys) ⟨.bl (decide (xs=ys)),H,I,?_,q⟩
 show _=_
 simp only[PySem.Spec.same]
 rw[Z9v]
end
end L2
namespace L2
end L2
namespace L2
section
variable {prog:U8}{w:W1}{A:W6}{E:U2}{s:U7}{l:W9}
theorem Y2i {vs:U9}{Q:U2}(ht:s.heap.IsTuple l vs)
  (h:∀ hp:Heap,hp=s.heap.push { cls:=.type "tuple_iterator",data:=.fields #[.ref l,.int 0 0] }->hp.IsTupleIter s.heap.objs.size l 0/\hp.IsTuple l vs->(∀ b∈[s.heap.objs.size,l],b<hp.objs.size)->l≠s.heap.objs.size →
   (∀ h':Heap,(∀ b o,b ∉ [s.heap.objs.size]->hp.get? b=some o->h'.get? b=some o)->∀ b o,s.heap.get? b=some o->h'.get? b=some o)->Q (.ref s.heap.objs.size) { s with heap:=hp }) :
  wpAny (model prog w) A (pyIter (.ref l)) Q E s:=by
 have low:l<s.heap.objs.size:=by obtain⟨_,e,_⟩:=ht;exact q0h e
 refine q4z ht (h _ rfl ⟨⟨_,q0r _ rfl,Z,Z⟩,ht.push _⟩ (λb hb=>?_) (q0w low) λh' hk b o e=>?_)
 ·rw[q2h]
  simp only[q0p,q1l,q2t] at hb
  rcases hb with rfl | rfl
  ·exact q4q _
  ·exact q3r low
 ·have:=q0h e
  exact hk b o (by simp only[q0p,q1l,q2t];exact q0w this) (q0g _ e)
theorem X6c {xs:Array (Int × Tok)}{Q:U2}(hh:A.handled=none)(ht:s.heap.IsTuple l (intItems xs))(hne:0<xs.size)
  (h:∀ (v:W2) (h':Heap) (tk:Nat),(intItems xs)[argBest (λi j=>decide (PySem.numAt xs i<PySem.numAt xs j)) (xs.size-1)]?=some v->(∀ b o,s.heap.get? b=some o->h'.get? b=some o)->Q v { s with heap:=h',toks:=tk }) :
  wpAny (model prog w) A (call (.builtin "min") [.ref l]) Q E s:=by
 refine call_min_walk (Y2i ht λhp e st hf hl old=>?_)
 have z:(intItems xs).size=xs.size:=by simp[intItems]
 refine⟨_,_,_,_,_,_,_,Z,Walks.tuple (A:=A.in1) hh _ l hl (intItems xs),st,hf,by rw[z];exact hne,CmpOf.ints_lt (PySem.numAt xs) (λ_ _=>q8d),λv h' tk hP hk=>?_⟩
 rw[z] at hP
 exact h v h' tk hP (old h' hk)
theorem X6d {xs:Array (Int × Tok)}{Q:U2}(hh:A.handled=none)(ht:s.heap.IsTuple l (intItems xs))(hne:0<xs.size)
  (h:∀ (v:W2) (h':Heap) (tk:Nat),(intItems xs)[argBest (λi j=>decide (PySem.numAt xs i>PySem.numAt xs j)) (xs.size-1)]?=some v->(∀ b o,s.heap.get? b=some o->h'.get? b=some o)->Q v { s with heap:=h',toks:=tk }) :
  wpAny (model prog w) A (call (.builtin "max") [.ref l]) Q E s:=by
 refine call_max_walk (Y2i ht λhp e st hf hl old=>?_)
 have z:(intItems xs).size=xs.size:=by simp[intItems]
 refine⟨_,_,_,_,_,_,_,Z,Walks.tuple (A:=A.in1) hh _ l hl (intItems xs),st,hf,by rw[z];exact hne,CmpOf.ints_gt (PySem.numAt xs) (λ_ _=>q8d),λv h' tk hP hk=>?_⟩
 rw[z] at hP
 exact h v h' tk hP (old h' hk)
end
section
variable {X:Cx}
theorem Y3v {its:U5}{ns:U6}(rv:Vals (ns.map V.int) its):∃ xs:Array (Int × Tok),its.toArray=intItems xs/\ns=xs.toList.map (·.1):=by
 have hi:=Z2n rv
 obtain⟨xs,e⟩:=hi.allInts.items
 exact⟨xs,e,by rw[<-hi.numsOf,<-nums_intItems,<-e]⟩
theorem Z5f (hc:X.calm=true):CallR X (.builtin "min") (λxs H Q=>∃ (p:W9) (ns:U6),xs=[.ref p]/\SqT X.K H p (ns.map V.int)/\0<ns.length/\∀ M,M∈ns->(∀ a,a∈ns->M<=a)->Q (.int M) H):=by
 intro pins s σ H xs us Q I r h
 obtain⟨p,ns,rfl,hq,hn,q⟩:=h
 obtain⟨u,rfl,ru⟩:=r.one
 cases ru
 obtain⟨its,rv,pl,hz⟩:=I.tuple hq
 obtain⟨xs,e,hns⟩:=Y3v rv
 have hsz:0<xs.size:=by rw[hns,q0a,q1w] at hn;exact hn
 rw[e] at pl
 refine X6c (show X.A.handled=none from I.ok.hd hc) pl hsz λv h' tk hv hk=>?_
 obtain⟨t,rfl⟩:=q8d hv
 obtain⟨h1,h2⟩:=argBest_lt (PySem.numAt xs) (xs.size-1)
 refine⟨.int (PySem.numAt xs (argBest (λi j=>decide (PySem.numAt xs i<PySem.numAt xs j)) (xs.size-1))),H,I.kept (t':=tk) hk,⟨_,Z⟩,q _ ?_ λa ha=>?_⟩
 ·rw[hns,numAt_eq];exact getD_mem (by rw[q0a,q1w];omega)
 ·rw[hns] at ha
  obtain⟨j,hj,rfl⟩:=mem_getD ha
  rw[q0a,q1w] at hj
  rw[<-numAt_eq];exact h2 j (by omega)
theorem Y0t (hc:X.calm=true):CallR X (.builtin "max") (λxs H Q=>∃ (p:W9) (ns:U6),xs=[.ref p]/\SqT X.K H p (ns.map V.int)/\0<ns.length/\∀ M,M∈ns->(∀ a,a∈ns->a<=M)->Q (.int M) H):=by
 intro pins s σ H xs us Q I r h
 obtain⟨p,ns,rfl,hq,hn,q⟩:=h
 obtain⟨u,rfl,ru⟩:=r.one
 cases ru
 obtain⟨its,rv,pl,hz⟩:=I.tuple hq
 obtain⟨xs,e,hns⟩:=Y3v rv
 have hsz:0<xs.size:=by rw[hns,q0a,q1w] at hn;exact hn
 rw[e] at pl
 refine X6d (show X.A.handled=none from I.ok.hd hc) pl hsz λv h' tk hv hk=>?_
 obtain⟨t,rfl⟩:=q8d hv
 obtain⟨h1,h2⟩:=argBest_gt (PySem.numAt xs) (xs.size-1)
 refine⟨.int (PySem.numAt xs (argBest (λi j=>decide (PySem.numAt xs i>PySem.numAt xs j)) (xs.size-1))),H,I.kept (t':=tk) hk,⟨_,Z⟩,q _ ?_ λa ha=>?_⟩
 ·rw[hns,numAt_eq];exact getD_mem (by rw[q0a,q1w];omega)
 ·rw[hns] at ha
  obtain⟨j,hj,rfl⟩:=mem_getD ha
  rw[q0a,q1w] at hj
  rw[<-numAt_eq];exact h2 j (by omega)
theorem X8i:OpR X (compareOp .In) (λx y H Q=>∃ p xs,y=.ref p/\(H p=some (.lst xs)∨H p=some (.tup xs))/\flatV x=true/\xs.all flatV=true/\Q (.bl (inV x xs)) H):=by
 intro pins s σ H x y v u Q I rx ry h
 obtain⟨p,xs,rfl,hq,fx,fs,q⟩:=h
 exact Z6y pins s σ H x _ v u Q I rx ry ⟨p,xs,Z,hq.imp SqL.of SqT.of,fx,fs,q⟩
def rNeM:R2:=λx y H Q=>∃ (a b:W9) (m n:Mm),x=.ref a/\y=.ref b/\H a=some (mT m)/\H b=some (mT n)/\PyData.strOk m.1=true/\PyData.strOk n.1=true/\Q (.bl (!decide (m=n))) H
theorem X2t (hu:X.A.units+64<cLine):OpR X (compareOp .NotEq) rNeM:=by
 intro pins s σ H x y v u Q I rx ry h
 obtain⟨a,b,m,n,rfl,rfl,h1,h2,o1,o2,q⟩:=h
 cases rx;cases ry
 obtain⟨_,its,rv,pt⟩:=(show ObjOk X.prog X.w H s.heap a (mT m) from I.hok a _ h1)
 obtain⟨_,its',rv',pt'⟩:=(show ObjOk X.prog X.w H s.heap b (mT n) from I.hok b _ h2)
 refine q8f (Z6u pt rv) (Z6u pt' rv') (Z6c o1) (Z6c o2) hu (Y1p m n) ⟨.bl (!decide (m=n)),H,I,?_,q⟩
 show _=_
 rw[Y6j]
end
end L2
namespace K55S
open L2 Ba M71
open K75 (top Bs)
noncomputable def nm:Mv->Str
 | .flip _=>"flip"
 | .mix _=>"mix"
 | .turn _ _=>"turn"
 | .iff _ _=>"if"
 | .pair _ _=>"pair"
 | .swap _ _=>"swap"
 | .cross _ _ _=>"cross"
noncomputable def ns:Mv->List Int
 | .flip a=>[a]
 | .mix a=>[a]
 | .turn a k=>[a,k]
 | .iff a b=>[a,b]
 | .pair a b=>[a,b]
 | .swap a b=>[a,b]
 | .cross a b d=>[a,b,d]
noncomputable def hd:Mv->Int
 | .flip a=>a
 | .mix a=>a
 | .turn a _=>a
 | .iff a _=>a
 | .pair a _=>a
 | .swap a _=>a
 | .cross a _ _=>a
noncomputable def code:Mv->Nat
 | .flip _=>0
 | .mix _=>1
 | .turn _ _=>2
 | .iff _ _=>3
 | .pair _ _=>4
 | .swap _ _=>5
 | .cross _ _ _=>6
noncomputable def nms:List Str:=["flip","mix","turn","if","pair","swap","cross"]
theorem Z7a (m:Mv):nm m=nms.getD (code m) "":=by cases m<;>rfl
theorem Y7k:∀ i,i<7->∀ j,j<7->nms.getD i ""=nms.getD j ""->i=j:=by decide +kernel
theorem Z9d (m:Mv):code m<7:=by cases m<;>simp[code]
theorem X8v {x y:Mv}(h:nm x=nm y):code x=code y:=Y7k _ (Z9d x) _ (Z9d y) (by rw[<-Z7a,<-Z7a,h])
theorem Y7l {x:Mv}{i:Nat}(hi:i<7):nm x=nms.getD i "" ↔ code x=i:=⟨λh=>Y7k _ (Z9d x) _ hi (by rw[<-Z7a,h]),λh=>by rw[Z7a,h]⟩
noncomputable abbrev mm (m:Mv):Mm:=(nm m,ns m)
theorem mm_inj {x y:Mv}:mm x=mm y ↔ x=y:=by
 constructor
 ·intro h
  have h1:nm x=nm y:=congrArg Prod.fst h
  have h2:ns x=ns y:=congrArg Prod.snd h
  have h3:=X8v h1
  cases x<;>cases y<;>first | (simp[code] at h3;done) | (simp only[ns,List.cons.injEq,and_true] at h2;simp only[Mv.flip.injEq,Mv.mix.injEq,Mv.turn.injEq,Mv.iff.injEq,Mv.pair.injEq,Mv.swap.injEq,Mv.cross.injEq];exact h2)
 ·rintro rfl;rfl
theorem ok7:∀ i,i<7->PyData.strOk (nms.getD i "")=true:=by decide +kernel
theorem okS (m:Mv):PyData.strOk (mm m).1=true:=by
 show PyData.strOk (nm m)=true
 rw[Z7a]
 exact ok7 _ (Z9d m)
theorem X5v (m:Mv):∃ r,ns m=hd m::r:=by cases m<;>exact⟨_,Z⟩
theorem at0m (m:Mv):atI (.str (nm m)::(ns m).map V.int) 0=some (.str (nm m)):=L2.Z1e (show (V.str (nm m)::(ns m).map V.int)[0]?=some _ from rfl)
theorem at1m (m:Mv):atI (.str (nm m)::(ns m).map V.int) 1=some (.int (hd m)):=by
 obtain⟨r,e⟩:=X5v m
 rw[e]
 exact L2.Z1e (show (V.str (nm m)::V.int (hd m)::r.map V.int)[1]?=some _ from rfl)
theorem Z5n (m:Mv):nm m="turn" ↔ code m=2:=Y7l (i:=2) (by decide)
theorem W2g (m:Mv):nm m="if" ↔ code m=3:=Y7l (i:=3) (by decide)
theorem Y1z (m:Mv):nm m="pair" ↔ code m=4:=Y7l (i:=4) (by decide)
theorem Y8d (m:Mv):nm m="swap" ↔ code m=5:=Y7l (i:=5) (by decide)
theorem Z8x (m:Mv):nm m="cross" ↔ code m=6:=Y7l (i:=6) (by decide)
theorem X1x (m:Mv):m.cells=if nm m="turn" then (ns m).take 1 else ns m:=by
 by_cases h:nm m="turn"
 ·rw[if_pos h]
  have:=(Z5n m).mp h
  cases m<;>first | rfl | (simp[code] at this;done)
 ·rw[if_neg h]
  cases m<;>first | rfl | (exact absurd rfl h)
theorem Z5s (m:Mv):∃ r,m.cells=hd m::r:=by cases m<;>exact⟨_,Z⟩
theorem Y0r (m:Mv):m.cells.length<=3:=by cases m<;>simp[Mv.cells]
theorem X2y {m:Mv}{M:Int}(h1:M∈m.cells)(h2:∀ a∈m.cells,M<=a):M=m.low:=by
 cases m<;>simp[Mv.cells,Mv.low] at*<;> omega
theorem X6r (x y:Mv):x.free y=(decide (nm x="turn") && (decide (nm y="pair") || (decide (nm y="if") && decide (hd y=hd x)))):=by
 simp only[Z5n,Y1z,W2g]
 cases x<;>cases y<;>simp[Mv.free,code,hd]<;>exact decide_eq_decide.mpr Iff.rfl
theorem X1s (c:Int)(ns:U6):inV (.int c) (ns.map V.int)=ns.contains c:=by
 induction ns with
 | nil=>rfl
 | cons a r ih =>
  have:inV (.int c) ((a::r).map V.int)=((a == c) || inV (.int c) (r.map V.int)):=rfl
  rw[this,ih,List.contains_cons]
  congr 1
  rw[q2q]
  simp
  exact eq_comm
theorem Y4g (x y:Mv):Mv.apart x y=!((x.cells.map λc=>inV (.int c) (y.cells.map V.int)).any id):=by
 unfold Mv.apart
 rw[List.any_map]
 congr 2
 funext c
 exact(X1s c _).symm
theorem Y8q (ns:U6):(ns.map V.int).all flatV=true:=by
 rw[q6w]
 simp[flatV]
theorem Z1r {H H':Hp}{l:W9}(s:Same H H')(h:H' l=none):H l=none:=by
 cases e:H l with
 | none=>rfl
 | some o=>rw[s _ _ e] at h;cases h
def RowAt (H:Hp)(l:W9)(row:List Mv):Prop:=∃ ps,H l=some (.lst (ps.map V.ref))/\RowsM H ps (row.map mm)
theorem RowAt.same {H H':Hp}{l:W9}{row:List Mv}(h:RowAt H l row)(s:Same H H'):RowAt H' l row:=by
 obtain⟨ps,a,b⟩:=h
 exact⟨ps,s _ _ a,b.same s⟩
def Z5j:Sp:=λvs H Q _=>∃ (p:W9) (m:Mv),vs=[.ref p]/\H p=some (mT (mm m))/\∀ (r:W9) (H':Hp),Same H H'->H' r=some (.tup (m.cells.map V.int))->Q (.ref r) H'
def Z8h:Sp:=λvs H Q _=>∃ (p:W9) (m:Mv) (c:Int),vs=[.ref p,.int c]/\H p=some (mT (mm m))/\∀ b:Bool,(b=true ↔ nm m="turn"/\hd m=c)->Q (.bl b) H
def Y2t:Sp:=λvs H Q _=>∃ c k:Int,vs=[.int c,.int k]/\∀ (l:W9) (H':Hp),Same H H'->H l=none->RowAt H' l (if k=8 then [] else [.turn c (k%8)])->Q (.ref l) H'
def spOrd:Sp:=λvs H Q _=>∃ (p:W9) (m:Mv),vs=[.ref p]/\H p=some (mT (mm m))/\∀ (r:W9) (H':Hp),Same H H'->H' r=some (mT (mm m.ord))->Q (.ref r) H'
def spGoes:Sp:=λvs H Q _=>∃ (p q:W9) (x y:Mv),vs=[.ref p,.ref q]/\H p=some (mT (mm x))/\H q=some (mT (mm y))/\∀ H',Same H H'->Q (.bl (Mv.goes x y)) H'
theorem Z4o {x:V}{xs:List V}:HT.sIx (x::xs).length 0 (some 1)=1:=by
 have:=HT.Z2t (x::xs).length 0 1
 rw[show ((1:Nat):Int)=1 from rfl] at this
 rw[this]
 simp
theorem Z5q {x:V}{xs:List V}:cutV (x::xs) (some 1) none=xs:=by
 unfold cutV
 rw[Z4o]
 have e2:HT.sIx (x::xs).length (x::xs).length none=(x::xs).length:=rfl
 rw[e2]
 simp
end K55S
namespace K55S
open L2 Ba Am M71
open K75 (top Bs va vb vc vd Gm Step Steps Ams Mix MixAt)
open M72 (V4 sm add root E En fl sw sg rowop op VOk)
def Vl (m:Nat)(v:V4)(x:A5):Prop:=∃ M0:Int,∀ M,M0<=M->va x M=v.1*p2 (M-m)/\vb x M=v.2.1*p2 (M-m)/\vc x M=v.2.2.1*p2 (M-m)/\vd x M=v.2.2.2*p2 (M-m)
theorem Vl.once {m:Nat}{v x:V4}{h:Int}(l:Vl m v (x,h)):Vl m (E v) (E x,h):=by
 obtain⟨M0,l⟩:=l
 refine⟨M0,λM hM=>?_⟩
 obtain⟨l1,l2,l3,l4⟩:=l M hM
 unfold va at l1
 unfold vb at l2
 unfold vc at l3
 unfold vd at l4
 unfold va vb vc vd
 simp only[E] at l1 l2 l3 l4 ⊢
 rw[Int.neg_mul,Int.neg_mul,l4]
 exact⟨Z,l1,l2,l3⟩
theorem Vl.rot {m:Nat}{v x:V4}{h:Int}(l:Vl m v (x,h)):∀ j,Vl m (En j v) (Ba.rot j x,h)
 | 0=>l
 | j+1=>(Vl.rot l j).once
theorem Vl.up {m:Nat}{v:V4}{x:A5}(l:Vl m v x)(n:Nat):Vl (m+n) (sm (2^n) v) x:=by
 obtain⟨M0,l⟩:=l
 refine⟨max M0 0+m+n,λM hM=>?_⟩
 obtain⟨l1,l2,l3,l4⟩:=l M (by omega)
 have e:p2 (M-m)=2^n*p2 (M-((m+n:Nat):Int)):=by
  rw[Z4x (a:=M-m) (b:=(n:Int)) (by omega) (by omega),q2k]
  congr 1
  unfold p2
  congr 1
  omega
 rw[l1,l2,l3,l4,e]
 simp only[sm]
 refine⟨?_,?_,?_,?_⟩<;>grind
theorem Vl.mix {m:Nat}{s:Int}{v u:V4}{x y z:A5}(l:Vl m v x)(l':Vl m u y)(mx:Mix s x y z)(x0:0<=x.2)(y0:0<=y.2):Vl (m+1) (root (add v (sm s u))) z:=by
 obtain⟨M1,l⟩:=l
 obtain⟨M2,l'⟩:=l'
 obtain⟨M3,h3⟩:=mx.vals x0 y0
 refine⟨max M1 0+max M2 0+max M3 0+1,λN hN=>?_⟩
 obtain⟨M,rfl⟩:∃ M,N=M+1:=⟨N-1,by omega⟩
 obtain⟨a1,a2,a3,a4⟩:=l M (by omega)
 obtain⟨b1,b2,b3,b4⟩:=l' M (by omega)
 obtain⟨c1,c2,c3,c4⟩:=h3 M (by omega)
 have e:M+1-((m+1:Nat):Int)=M-m:=by omega
 rw[c1,c2,c3,c4,a1,a2,a3,a4,b1,b2,b3,b4,e]
 simp only[root,add,sm]
 refine⟨?_,?_,?_,?_⟩<;>grind
theorem Vl.same {m:Nat}{v:V4}{x y:A5}(l:Vl m v x)(l':Vl m v y)(ax:Amt x.1.1 x.1.2.1 x.1.2.2.1 x.1.2.2.2 x.2)(ay:Amt y.1.1 y.1.2.1 y.1.2.2.1 y.1.2.2.2 y.2):x=y:=by
 obtain⟨M1,l⟩:=l
 obtain⟨M2,l'⟩:=l'
 have x0:=ax.nn
 have y0:=ay.nn
 obtain⟨M,g1,g2,g3,g4⟩:∃ M:Int,M1<=M/\M2<=M/\x.2<=M/\y.2<=M:=⟨max M1 0+max M2 0+x.2+y.2,by omega,by omega,by omega,by omega⟩
 obtain⟨a1,a2,a3,a4⟩:=l M g1
 obtain⟨b1,b2,b3,b4⟩:=l' M g2
 exact K75.Z8d ax ay g3 g4 (by rw[a1,b1]) (by rw[a2,b2]) (by rw[a3,b3]) (by rw[a4,b4])
theorem Vl.of {x:A5}{N:Nat}(h0:0<=x.2)(h:x.2<=(N:Int)):Vl N (sm (2^(N-x.2.toNat)) x.1) x:=by
 have b:Vl x.2.toNat x.1 x:=by
  refine⟨0,λM _=>?_⟩
  have:((x.2.toNat:Nat):Int)=x.2:=q6k h0
  rw[this]
  exact⟨Z,Z,Z,Z⟩
 have:=b.up (N-x.2.toNat)
 rw[show x.2.toNat+(N-x.2.toNat)=N by omega] at this
 exact this
noncomputable def e1 (a w:Nat):Bool:=(decide (w&&&2^a=0) == !w.testBit a) && (decide (w&&&2^a=2^a) == w.testBit a) && (decide (w / 2^a%2=0) == !w.testBit a) && (w.testBit a || decide (fl w a=w+2^a)) && (!w.testBit a || decide (fl w a=w-2^a))
noncomputable def e2 (a b w:Nat):Bool:=decide (a=b) || (decide (K75.exch w a b=sw w a b) && (decide (w&&&(2^a ||| 2^b)=(2^a ||| 2^b)) == (w.testBit a && w.testBit b)))
theorem W0f:((List.range 6).all λa=>(List.range 64).all λw=>e1 a w)=true:=by decide +kernel
theorem W0e:((List.range 6).all λa=>(List.range 6).all λb=>(List.range 64).all λw=>e2 a b w)=true:=by decide +kernel
theorem w64 {c w:Nat}(hc:c<=6)(hw:w<2^c):w<64:=q0l hw (q1z (by decide) hc:2^c<=2^6)
theorem Y2a {c a w:Nat}(hc:c<=6)(ha:a<c)(hw:w<2^c):(w&&&2^a=0 ↔ w.testBit a=false)/\(w&&&2^a=2^a ↔ w.testBit a=true)/\(w / 2^a%2=0 ↔ w.testBit a=false)/\(w.testBit a=false->fl w a=w+2^a)/\(w.testBit a=true->fl w a=w-2^a):=by
 have h:=K75.get1 (K75.get1 W0f (show a<6 by omega)) (w64 hc hw)
 unfold e1 at h
 simp only[q0m,q2p,q5h,q1a] at h
 obtain⟨⟨⟨⟨h1,h2⟩,h3⟩,h4⟩,h5⟩:=h
 cases hb:w.testBit a
 ·rw[hb] at h1 h2 h3 h4 h5
  simp at h1 h2 h3 h4 h5
  exact⟨⟨λ_=>rfl,λ_=>h1⟩,⟨λz=>absurd z h2,λz=>by cases z⟩,⟨λ_=>rfl,λ_=>h3⟩,λ_=>h4,λz=>by cases z⟩
 ·rw[hb] at h1 h2 h3 h4 h5
  simp at h1 h2 h3 h4 h5
  exact⟨⟨λz=>absurd z h1,λz=>by cases z⟩,⟨λ_=>rfl,λ_=>h2⟩,⟨λz=>absurd z (by omega),λz=>by cases z⟩,(λz=>by cases z),λ_=>h5⟩
theorem Y5f {c a b w:Nat}(hc:c<=6)(ha:a<c)(hb:b<c)(n:a≠b)(hw:w<2^c):K75.exch w a b=sw w a b/\(w&&&(2^a ||| 2^b)=(2^a ||| 2^b) ↔ (w.testBit a && w.testBit b)=true):=by
 have h:=K75.get1 (K75.get1 (K75.get1 W0e (show a<6 by omega)) (show b<6 by omega)) (w64 hc hw)
 unfold e2 at h
 simp only[q0m,q2p,q5h,q1a] at h
 rcases h with h | ⟨h1,h2⟩
 ·exact absurd h n
 ·refine⟨h1,?_⟩
  rw[<-h2]
  simp
noncomputable def gm:Mv->Gm
 | .flip a=>.mv (.flip a.toNat)
 | .mix a=>.mix a.toNat
 | .turn a k=>.mv (.turn a.toNat k.toNat)
 | .iff a b=>.mv (.iff a.toNat b.toNat)
 | .pair a b=>.mv (.pair a.toNat b.toNat)
 | .swap a b=>.mv (.swap a.toNat b.toNat)
 | .cross a b d=>.mv (.cross a.toNat b.toNat d.toNat)
theorem tn {a:Int}(h:0<=a):((a.toNat:Nat):Int)=a:=q6k h
theorem W2h {c:Nat}{m:Mv}(o:VOk c m):(gm m).mm=mm m:=by
 obtain⟨o,_⟩:=o
 cases m with
 | flip a=>show (_,[((a.toNat:Nat):Int)])=_;rw[tn o];rfl
 | mix a=>show (_,[((a.toNat:Nat):Int)])=_;rw[tn o];rfl
 | turn a k=>show (_,[((a.toNat:Nat):Int),((k.toNat:Nat):Int)])=_;rw[tn o.1,tn (show 0<=k by have:=o.2.1;omega)];rfl
 | iff a b=>show (_,[((a.toNat:Nat):Int),((b.toNat:Nat):Int)])=_;rw[tn o.1,tn o.2.1];rfl
 | pair a b=>show (_,[((a.toNat:Nat):Int),((b.toNat:Nat):Int)])=_;rw[tn o.1,tn o.2.1];rfl
 | swap a b=>show (_,[((a.toNat:Nat):Int),((b.toNat:Nat):Int)])=_;rw[tn o.1,tn o.2.1];rfl
 | cross a b d=>show (_,[((a.toNat:Nat):Int),((b.toNat:Nat):Int),((d.toNat:Nat):Int)])=_;rw[tn o.1,tn o.2.1,tn o.2.2.1];rfl
theorem Y8m {c:Nat}{m:Mv}(o:VOk c m):(gm m).Ok c:=by
 obtain⟨o,x⟩:=o
 cases m with
 | flip a=>have h:=x a (by simp[Mv.cells]);have o:0<=a:=o;show a.toNat<c;omega
 | mix a=>have h:=x a (by simp[Mv.cells]);have o:0<=a:=o;show a.toNat<c;omega
 | turn a k=>have h:=x a (by simp[Mv.cells]);have o:0<=a/\1<=k/\k<=7:=o;show a.toNat<c/\1<=k.toNat/\k.toNat<=7;omega
 | iff a b=>have h:=x a (by simp[Mv.cells]);have h2:=x b (by simp[Mv.cells]);have o:0<=a/\0<=b/\a≠b:=o;show a.toNat<c/\b.toNat<c/\a.toNat≠b.toNat;omega
 | pair a b=>have h:=x a (by simp[Mv.cells]);have h2:=x b (by simp[Mv.cells]);have o:0<=a/\0<=b/\a≠b:=o;show a.toNat<c/\b.toNat<c/\a.toNat≠b.toNat;omega
 | swap a b=>have h:=x a (by simp[Mv.cells]);have h2:=x b (by simp[Mv.cells]);have o:0<=a/\0<=b/\a≠b:=o;show a.toNat<c/\b.toNat<c/\a.toNat≠b.toNat;omega
 | cross a b d=>have h:=x a (by simp[Mv.cells]);have h2:=x b (by simp[Mv.cells]);have h3:=x d (by simp[Mv.cells]);have o:0<=a/\0<=b/\0<=d/\a≠b/\a≠d/\b≠d:=o;show a.toNat<c/\b.toNat<c/\d.toNat<c/\a.toNat≠b.toNat/\a.toNat≠d.toNat/\b.toNat≠d.toNat;omega
theorem Y4l {c n w k:Nat}{F:M72.Bv}{f:Nat->A5}{z:A5}{v:K75.Mv}{t:Nat}(hl:v.to w<2^c)(h:∀ w,w<2^c->Vl n (F w) (f w))(et:v.to w=t)(es:v.sp w=k)(k8:k<8)(e:z=spin (f (v.to w)) (v.sp w:Nat)):Vl (n+1) (sm 2 (En k (F t))) z:=by
 subst et es
 rw[e]
 have q:=(h _ hl).rot (v.sp w)
 have e2:(((v.sp w:Nat):Int)%8).toNat=v.sp w:=by omega
 unfold spin
 rw[e2]
 exact q.up 1
theorem X3z {c n:Nat}{m:Mv}{F:M72.Bv}{f f':Nat->A5}(hc:c<=6)(o:VOk c m)(af:Ams c f)(h:∀ w,w<2^c->Vl n (F w) (f w))(s:Step c (gm m) f f'):∀ w,w<2^c->Vl (n+1) (op m F w) (f' w):=by
 intro w hw
 have ok:=Y8m o
 cases m with
 | flip a=>exact Y4l (v:=.flip a.toNat) (K75.Mv.to_lt hc ok hw) h rfl rfl (show 0<8 by decide) (s w hw)
 | turn a j =>
  have ok:a.toNat<c/\1<=j.toNat/\j.toNat<=7:=ok
  refine Y4l (v:=.turn a.toNat j.toNat) hw h rfl ?_ ?_ (s w hw)
  ·show (if _ then _ else _)=(if _ then _ else _)
   by_cases b:w.testBit a.toNat=true
   ·rw[if_pos b,if_pos ((Y2a hc ok.1 hw).2.1.mpr b)]
   ·rw[if_neg b,if_neg (λz=>b ((Y2a hc ok.1 hw).2.1.mp z))]
  ·show (if w.testBit a.toNat then j.toNat else 0)<8
   split<;>omega
 | iff a b =>
  have ok':a.toNat<c/\b.toNat<c/\a.toNat≠b.toNat:=ok
  refine Y4l (v:=.iff a.toNat b.toNat) (K75.Mv.to_lt hc ok hw) h ?_ rfl (show 0<8 by decide) (s w hw)
  show (if _ then _ else _)=(if _ then _ else _)
  by_cases b:w.testBit a.toNat=true
  ·rw[if_pos b,if_neg (λz=>by rw[(Y2a hc ok'.1 hw).1.mp z] at b;cases b)]
   rfl
  ·rw[if_neg b,if_pos ((Y2a hc ok'.1 hw).1.mpr (by simpa using b))]
 | pair a b =>
  have ok':a.toNat<c/\b.toNat<c/\a.toNat≠b.toNat:=ok
  refine Y4l (v:=.pair a.toNat b.toNat) hw h rfl ?_ ?_ (s w hw)
  ·show (if _ then _ else _)=(if _ then _ else _)
   by_cases b':(w.testBit a.toNat && w.testBit b.toNat)=true
   ·rw[if_pos b',if_pos ((Y5f hc ok'.1 ok'.2.1 ok'.2.2 hw).2.mpr b')]
   ·rw[if_neg b',if_neg (λz=>b' ((Y5f hc ok'.1 ok'.2.1 ok'.2.2 hw).2.mp z))]
  ·show (if _ then _ else _)<8
   split<;>omega
 | swap a b =>
  have ok':a.toNat<c/\b.toNat<c/\a.toNat≠b.toNat:=ok
  exact Y4l (v:=.swap a.toNat b.toNat) (K75.Mv.to_lt hc ok hw) h (Y5f hc ok'.1 ok'.2.1 ok'.2.2 hw).1 rfl (show 0<8 by decide) (s w hw)
 | cross a b d =>
  have ok':a.toNat<c/\b.toNat<c/\d.toNat<c/\a.toNat≠b.toNat/\a.toNat≠d.toNat/\b.toNat≠d.toNat:=ok
  refine Y4l (v:=.cross a.toNat b.toNat d.toNat) (K75.Mv.to_lt hc ok hw) h ?_ rfl (show 0<8 by decide) (s w hw)
  show (if _ then _ else _)=(if _ then _ else _)
  by_cases b:w.testBit a.toNat=true
  ·rw[if_pos b,if_neg (λz=>by rw[(Y2a hc ok'.1 hw).1.mp z] at b;cases b)]
   exact(Y5f hc ok'.2.1 ok'.2.2.1 ok'.2.2.2.2.2 hw).1
  ·rw[if_neg b,if_pos ((Y2a hc ok'.1 hw).1.mpr (by simpa using b))]
 | mix a =>
  have ac:a.toNat<c:=ok
  have e:=s w hw
  have e:MixAt f a.toNat w (f' w):=e
  unfold MixAt at e
  obtain⟨_,_,h3,h4,h5⟩:=Y2a hc ac hw
  show Vl (n+1) (root (add (sm (sg w a.toNat) (F w)) (F (fl w a.toNat)))) (f' w)
  unfold sg
  by_cases hb:w.testBit a.toNat=false
  ·have z:=h3.mpr hb
   obtain⟨_,_,l2,_⟩:=K75.X3r hc ac hw z
   rw[if_pos z] at e
   rw[if_neg (by rw[hb];decide),h4 hb,M72.Z4m]
   have:=(h _ hw).mix (h _ l2) e (af _ hw).nn (af _ l2).nn
   rw[M72.Z4m] at this
   exact this
  ·have hb':w.testBit a.toNat=true:=by simpa using hb
   have z:¬ w / 2^a.toNat%2=0:=λz=>hb (h3.mp z)
   have l2:w-2^a.toNat<2^c:=q2d (q8o _ _) hw
   rw[if_neg z] at e
   rw[if_pos hb',h5 hb',M72.add_comm]
   exact(h _ l2).mix (h _ hw) e (af _ l2).nn (af _ hw).nn
theorem Z8f {c:Nat}(hc:c<=6):∀ {row:List Mv}{n:Nat}{F:M72.Bv}{f f':Nat->A5},(∀ m∈row,VOk c m)->Ams c f->(∀ w,w<2^c->Vl n (F w) (f w))->Steps c (row.map gm) f f'->(∀ w,w<2^c->Vl (n+row.length) (rowop row F w) (f' w))/\Ams c f'
 | [],n,F,f,f',_,af,h,a=>by
  cases a
  exact⟨h,af⟩
 | m::row,n,F,f,f',ok,af,h,a=>by
  cases a with
  | cons a a' =>
   have okm:=ok m (.head _)
   have:=Z8f hc (row:=row) (λx hx=>ok x (.tail _ hx)) (a.ams hc (Y8m okm) af) (X3z hc okm af h a) a'
   rw[q1r,show n+(row.length+1)=n+1+row.length by omega]
   exact this
theorem X2n {c:Nat}{H:Hp}{l:W9}{row:List Mv}(h:RowAt H l row)(ok:∀ m∈row,VOk c m)(len:row.length<=200):∃ ps,K75.Rw H l ps (row.map gm) c:=by
 obtain⟨ps,hl,hr⟩:=h
 refine⟨ps,hl,?_,?_,by rw[q0a];exact len⟩
 ·show RowsM H ps ((row.map gm).map Gm.mm)
  have e:(row.map gm).map Gm.mm=row.map mm:=by
   rw[q3v]
   exact q4v λm hm=>W2h (ok m hm)
  rw[e]
  exact hr
 ·intro m hm
  obtain⟨x,hx,rfl⟩:=q2e.mp hm
  exact Y8m (ok x hx)
end K55S
namespace K55S
open L2 Ba Am Pc M71
open K75 (top Bs)
open M72 (fl sw VOk)
open M75 (Mk mvd Br)
noncomputable abbrev mkL (m:Mk):List V:=[.int (m.1:Nat),.int (m.2.1:Nat),.int (m.2.2:Nat)]
structure OkK (c:Nat) (m:Mk):Prop where
 k:m.1<4
 f:m.2.1<2^c
 s:m.2.2<2^c
theorem X6x (f a:Nat):(f&&&2^a)=if f.testBit a then 2^a else 0:=by
 apply q1t
 intro j
 rw[q2g,q1v]
 by_cases h:a=j
 ·subst h
  cases hb:f.testBit a<;>simp
 ·cases hb:f.testBit a<;>simp[h,q1v]
theorem tb (f a:Nat):(Builtin.bitAnd (f:Int) ((2^a:Nat):Int) != 0)=f.testBit a:=by
 rw[Z5t,X6x]
 cases f.testBit a
 ·rfl
 ·have h0:=q2f a
  have:((2^a:Nat):Int)≠0:=by omega
  exact bne_iff_ne.mpr this
theorem xb (f a:Nat):Builtin.bitXor (f:Int) ((2^a:Nat):Int)=((fl f a:Nat):Int):=Y4j f (2^a)
noncomputable abbrev mxF (a f s:Nat):Nat:=if f.testBit a=s.testBit a then f else fl f a
noncomputable abbrev mxS (a f s:Nat):Nat:=if f.testBit a=s.testBit a then s else fl s a
noncomputable abbrev mxI (f s b:Int):Int:=Builtin.bitOr (Builtin.bitAnd f (Builtin.bitNot b)) (Builtin.bitAnd s b)
noncomputable def mxOk (a f s:Nat):Bool :=
 decide (mxI f s ((2^a:Nat):Int)=(mxF a f s:Int)) && decide (mxI s f ((2^a:Nat):Int)=(mxS a f s:Int)) &&
 decide (((mxF a f s).testBit a && (mxS a f s).testBit a)=(f.testBit a && s.testBit a))
theorem X8x:((List.range 6).all λa=>(List.range 64).all λf=>(List.range 64).all λs=>mxOk a f s)=true:=by decide +kernel
theorem W1p {c a f s:Nat}(hc:c<=6)(ha:a<c)(hf:f<2^c)(hs:s<2^c):mxI f s ((2^a:Nat):Int)=(mxF a f s:Int)/\mxI s f ((2^a:Nat):Int)=(mxS a f s:Int)/\((mxF a f s).testBit a && (mxS a f s).testBit a)=(f.testBit a && s.testBit a):=by
 have h:=K75.get1 (K75.get1 (K75.get1 X8x (show a<6 by omega)) (w64 hc hf)) (w64 hc hs)
 unfold mxOk at h
 rw[q0m,q0m] at h
 exact⟨q1p h.1.1,q1p h.1.2,q1p h.2⟩
theorem tb2 (f s a:Nat):(Builtin.bitAnd (Builtin.bitAnd (f:Int) (s:Int)) ((2^a:Nat):Int) != 0)=(f.testBit a && s.testBit a):=by
 rw[Z5t,tb,q2g]
theorem Z5c {c f a:Nat}(hf:f<2^c)(ha:a<c):fl f a<2^c:=q6s hf (q3m (by decide) ha)
theorem X7r {c f a b:Nat}(hf:f<2^c)(ha:a<c)(hb:b<c):sw f a b<2^c:=by
 unfold sw
 split
 ·exact hf
 ·exact Z5c (Z5c hf ha) hb
theorem Y7n {c:Nat}{x:Mv}{m:Mk}(o:VOk c x)(h:OkK c m):OkK c (mvd x m):=by
 obtain⟨k,f,s⟩:=m
 obtain⟨hk,hf,hs⟩:=h
 have ok:=Y8m o
 have k4:∀ n:Nat,n%4<4:=λn=>q8p _ (by decide)
 cases x with
 | flip a=>exact⟨by show (if _ then _ else _)<4;split;exact k4 _;exact hk,hf,hs⟩
 | mix a =>
  have ac:a.toNat<c:=ok
  exact⟨by show (if _ then _ else _)<4;split;exact k4 _;exact hk,by show (if _ then _ else _)<2^c;split;exact hf;exact Z5c hf ac,by show (if _ then _ else _)<2^c;split;exact hs;exact Z5c hs ac⟩
 | turn a j =>
  have ac:a.toNat<c/\_:=ok
  show OkK c (if _ then _ else _)
  split
  ·exact⟨k4 _,hf,by show (if _ then _ else _)<2^c;split;exact Z5c hs ac.1;exact hs⟩
  ·exact⟨hk,hf,hs⟩
 | iff a b =>
  have ac:a.toNat<c/\b.toNat<c/\_:=ok
  exact⟨hk,by show (if _ then _ else _)<2^c;split;exact Z5c hf ac.2.1;exact hf,by show (if _ then _ else _)<2^c;split;exact Z5c hs ac.1;exact hs⟩
 | pair a b =>
  have ac:a.toNat<c/\b.toNat<c/\_:=ok
  refine⟨by show (if _ then _ else _)<4;split;exact k4 _;exact hk,hf,?_⟩
  show (if _ then _ else _)<2^c
  split
  ·refine Z5c ?_ ac.1
   split
   ·exact Z5c hs ac.2.1
   ·exact hs
  ·split
   ·exact Z5c hs ac.2.1
   ·exact hs
 | swap a b =>
  have ac:a.toNat<c/\b.toNat<c/\_:=ok
  exact⟨hk,X7r hf ac.1 ac.2.1,X7r hs ac.1 ac.2.1⟩
 | cross a b d=>exact⟨hk,hf,hs⟩
abbrev Mkr (K:U0)(H:Hp)(Q:VK)(m:Mk):Prop:=∀ (r:W9) (H':Hp),Same H H'->SqT K H' r (mkL m)->Q (.ref r) H'
def Z8l (K:U0):Sp:=λvs H Q _=>∃ (p:W9) (m:Mk),vs=[.ref p]/\SqT K H p (mkL m)/\Mkr K H Q ((m.1+2)%4,m.2.1,m.2.2)
def Y6a (K:U0):Sp:=λvs H Q _=>∃ (p:W9) (m:Mk) (c a:Nat),vs=[.ref p,.int ((2^a:Nat):Int)]/\SqT K H p (mkL m)/\OkK c m/\c<=6/\a<c/\Mkr K H Q (mvd (.mix (a:Int)) m)
def Y2u (K:U0):Sp:=λvs H Q _=>∃ (p:W9) (m:Mk) (a j:Nat),vs=[.ref p,.int ((2^a:Nat):Int),.int (j:Int)]/\SqT K H p (mkL m)/\Mkr K H Q (mvd (.turn (a:Int) (j:Int)) m)
def spByIf (K:U0):Sp:=λvs H Q _=>∃ (p:W9) (m:Mk) (a b:Nat),vs=[.ref p,.int ((2^a:Nat):Int),.int ((2^b:Nat):Int)]/\SqT K H p (mkL m)/\Mkr K H Q (mvd (.iff (a:Int) (b:Int)) m)
def Y2v (K:U0):Sp:=λvs H Q _=>∃ (p:W9) (m:Mk) (a b:Nat),vs=[.ref p,.int ((2^a:Nat):Int),.int ((2^b:Nat):Int)]/\SqT K H p (mkL m)/\Mkr K H Q (mvd (.pair (a:Int) (b:Int)) m)
theorem k0 {x y z:V}:atI [x,y,z] 0=some x:=rfl
theorem k1 {x y z:V}:atI [x,y,z] 1=some y:=rfl
theorem k2 {x y z:V}:atI [x,y,z] 2=some z:=rfl
theorem Y7o (a k f s:Nat):mvd (.mix (a:Int)) (k,f,s)=(if f.testBit a && s.testBit a then (k+2)%4 else k,mxF a f s,mxS a f s):=rfl
theorem X1f (a j k f s:Nat):mvd (.turn (a:Int) (j:Int)) (k,f,s)=if f.testBit a then ((k+j / 2)%4,f,if j%4=2 then fl s a else s) else (k,f,s):=rfl
theorem X6a (a b k f s:Nat):mvd (.iff (a:Int) (b:Int)) (k,f,s)=(k,if f.testBit a then fl f b else f,if s.testBit b then fl s a else s):=rfl
noncomputable abbrev prS (a b f s:Nat):Nat:=if f.testBit b then fl (if f.testBit a then fl s b else s) a else if f.testBit a then fl s b else s
theorem X1g (a b k f s:Nat):mvd (.pair (a:Int) (b:Int)) (k,f,s)=(if f.testBit a && f.testBit b then (k+2)%4 else k,f,prS a b f s):=rfl
section
variable {P:U8}{w:W1}{K:U0}{mg:U4}{base:Heap}{k:Nat}{h:Heap}
theorem sc_about:FnScope ["mark"] ["mark"] (Z0h (top 16)):=fS
theorem X1e (F:FunAt K "turned_about" (top 16) .none)(X:K.In h)(G:Ng h mg):Cal P w K mg base (k+1) "turned_about" ["mark"] (Z8l K):=by
 have nd:=sc_about.nd
 refine F.cal X G sc_about (bnd1 λ_ _ _ _ _ _ _=>rfl) (λvs H Q E h=>?_) (λf cdv A outer s H vs Q E hr h=>?_)
 ·obtain⟨p,m,rfl,_⟩:=h;rfl
 obtain⟨p,⟨k,f,s⟩,rfl,S,q⟩:=h
 refine⟨_,(@Z0f _ _ _ (Z0j (@Z1a _ _ _ _ _ (Z0a (Z0i Z0z (Z0i Z1b (Z0m Z0l (pv 0) Z0b (λ_ _=>rfl)) Z0b) Z0b) (Z0a (Z0m Z0l (pv 0) Z0b (λ_ _=>rfl)) (Z0a (Z0m Z0l (pv 0) Z0b (λ_ _=>rfl)) Z0e)))))),?_⟩
 try dsimp only[cxK]
 refine⟨_,Z,p,_,_,.int k,Z,Z,S,k0,_,_,Z,Z,_,_,Z,Z,(by show (0:Int)<_;decide),_,Z,p,_,_,.int f,Z,Z,S,k1,_,Z,p,_,_,.int s,Z,Z,S,k2,t3,λr hr=>q r _ (Z0c hr _) (SqT.of ?_)⟩
 rw[Z0d]
 have e:((k:Int)+2)%4=(((k+2)%4:Nat):Int):=by omega
 show some (HO.tup [.int (((k:Int)+2)%4),.int f,.int s])=_
 rw[e]
theorem sc_bymix:FnScope ["mark","bit","flips","signs","moved"] ["mark","bit"] (Z0h (top 49)):=fS
theorem X1a (F:FunAt K "moved_by_mix" (top 49) .none)(X:K.In h)(G:Ng h mg)(cA:Cal P w K mg base k "turned_about" ["mark"] (Z8l K)):Cal P w K mg base (k+1) "moved_by_mix" ["mark","bit"] (Y6a K):=by
 have nd:=sc_bymix.nd
 refine F.cal X G sc_bymix (bnd2 λ_ _ _ _ _ _ _ _=>rfl) (λvs H Q E h=>?_) (λf cdv A outer s H vs Q E hr h=>?_)
 ·obtain⟨p,m,c,a,rfl,_⟩:=h;rfl
 obtain⟨p,⟨k,f,s⟩,c,a,rfl,S,o,c6,ac,q⟩:=h
 obtain⟨e1,e2,e3⟩:=W1p (f:=f) (s:=s) c6 ac o.f o.s
 refine⟨_,(@Z0r _ _ _ _ _ (@Z0o _ _ 2 _ _ _ _ nd rfl (Or.inl rfl) (Z0i Y0f (Z0i Z1t (Z0m Z0l (pv 0) Z0b (λ_ _=>rfl)) (Y1i X2j (pv 1))) (Z0i Z1t (Z0m Z0l (pv 0) Z0b (λ_ _=>rfl)) (pv 1))) rfl (.inl rfl))
  (@Z0r _ _ _ _ _ (@Z0o _ _ 3 _ _ _ _ nd rfl (Or.inl rfl) (Z0i Y0f (Z0i Z1t (Z0m Z0l (pv 0) Z0b (λ_ _=>rfl)) (Y1i X2j (pv 1))) (Z0i Z1t (Z0m Z0l (pv 0) Z0b (λ_ _=>rfl)) (pv 1))) rfl (.inl rfl))
  (@Z0g _ _ _ _ _ (@Z0o _ _ 4 _ _ _ _ nd rfl (Or.inl rfl) (@Z1a _ _ _ _ _ (Z0a (Z0m Z0l (pv 0) Z0b (λ_ _=>rfl)) (Z0a (pv 2) (Z0a (pv 3) Z0e)))) rfl (.inl rfl))
  (@Z0f _ _ _ (Z0j (Z1v (Z2l (Z0i Z1t (Z0i Z1t (pv 2) (pv 3)) (pv 1)) (by intro _;rfl)) (Z0k cA hr rfl (Z0a (pv 4) Z0e)) (pv 4))))))),?_⟩
 try dsimp only[cxK]
 refine⟨λσ' H'=>H=H'/\σ'=[some (.ref p),some (.int ((2^a:Nat):Int)),some (.int (mxF a f s:Nat)),none,none],?_,?_⟩
 ·exact⟨_,Z,p,_,_,.int f,Z,Z,S,k1,_,Z,_,Z,_,_,Z,Z,_,Z,p,_,_,.int s,Z,Z,S,k2,_,Z,_,_,Z,Z,_,_,Z,Z,Z,by rw[<-e1];rfl⟩
 rintro σ' _ ⟨rfl,rfl⟩
 refine⟨λσ' H'=>H=H'/\σ'=[some (.ref p),some (.int ((2^a:Nat):Int)),some (.int (mxF a f s:Nat)),some (.int (mxS a f s:Nat)),none],?_,?_⟩
 ·exact⟨_,Z,p,_,_,.int s,Z,Z,S,k2,_,Z,_,Z,_,_,Z,Z,_,Z,p,_,_,.int f,Z,Z,S,k1,_,Z,_,_,Z,Z,_,_,Z,Z,Z,by rw[<-e2];rfl⟩
 rintro σ' _ ⟨rfl,rfl⟩
 refine⟨_,Z,p,_,_,.int k,Z,Z,S,k0,_,Z,_,Z,t3,λt ht=>?_⟩
 have S1:=Z0c ht (.tup (mkL (k,mxF a f s,mxS a f s)))
 have q1:SqT K (upd H t (.tup (mkL (k,mxF a f s,mxS a f s)))) t (mkL (k,mxF a f s,mxS a f s)):=SqT.of Z0d
 refine⟨_,Z,_,Z,_,_,Z,Z,_,Z,_,_,Z,Z,_,Z,?_⟩
 rw[tb2,e3]
 refine blI (λz=>?_) (λz=>?_)
 ·refine⟨_,Z,t,(k,mxF a f s,mxS a f s),Z,q1,λr H2 S2 h2=>q r H2 (S1.trans S2) ?_⟩
  have:mvd (.mix (a:Int)) (k,f,s)=((k+2)%4,mxF a f s,mxS a f s):=by
   rw[Y7o,if_pos z]
  rw[this]
  exact h2
 ·refine⟨_,Z,q t _ S1 ?_⟩
  have:mvd (.mix (a:Int)) (k,f,s)=(k,mxF a f s,mxS a f s):=by
   rw[Y7o,if_neg (by rw[z];decide)]
  rw[this]
  exact q1
theorem sc_byturn:FnScope ["mark","bit","k","signs"] ["mark","bit","k"] (Z0h (top 50)):=fS
theorem Y7g (F:FunAt K "moved_by_turn" (top 50) .none)(X:K.In h)(G:Ng h mg):Cal P w K mg base (k+1) "moved_by_turn" ["mark","bit","k"] (Y2u K):=by
 have nd:=sc_byturn.nd
 refine F.cal X G sc_byturn (bnd3 λ_ _ _ _ _ _ _ _ _=>rfl) (λvs H Q E h=>?_) (λf cdv A outer s H vs Q E hr h=>?_)
 ·obtain⟨p,m,a,j,rfl,_⟩:=h;rfl
 obtain⟨p,⟨k,f,s⟩,a,j,rfl,S,q⟩:=h
 refine⟨_,(@Z0g _ _ _ _ _ (Z0y (Z2v (Z2l (Z0i Z1t (Z0m Z0l (pv 0) Z0b (λ_ _=>rfl)) (pv 1)) (by intro _;rfl)))
   (@Z0f _ _ _ (Z0j (pv 0)))
   Z0p)
  (@Z0r _ _ _ _ _ (@Z0o _ _ 3 _ _ _ _ nd rfl (Or.inl rfl) (Z1v (Z0n Z1o (Z0i Z0z (pv 2) Z0b) Z0b (nomark _)) (Z0i Z4y (Z0m Z0l (pv 0) Z0b (λ_ _=>rfl)) (pv 1)) (Z0m Z0l (pv 0) Z0b (λ_ _=>rfl))) rfl (.inl rfl))
  (@Z0f _ _ _ (Z0j (@Z1a _ _ _ _ _ (Z0a (Z0i Z0z (Z0i Z1b (Z0m Z0l (pv 0) Z0b (λ_ _=>rfl)) (Z0i Z1w (pv 2) Z0b)) Z0b) (Z0a (Z0m Z0l (pv 0) Z0b (λ_ _=>rfl)) (Z0a (pv 3) Z0e)))))))),?_⟩
 try dsimp only[cxK]
 refine⟨_,Z,p,_,_,.int f,Z,Z,S,k1,_,Z,_,_,Z,Z,_,Z,?_⟩
 rw[tb]
 rw[X1f] at q
 refine nblI (λz=>?_) (λz=>?_)
 ·rw[if_neg (by rw[z];decide)] at q
  exact⟨_,Z,q p H (Same.refl _) S⟩
 rw[if_pos z] at q
 refine⟨λσ' H'=>H=H'/\σ'=[some (.ref p),some (.int ((2^a:Nat):Int)),some (.int (j:Int)),some (.int ((if j%4=2 then fl s a else s:Nat):Int))],?_,?_⟩
 ·refine⟨_,Z,_,_,Z,Z,(by show (0:Int)<_;decide),Z,_,Z,eqI (λy=>?_) (λy=>?_)⟩
  ·exact⟨_,Z,p,_,_,.int s,Z,Z,S,k2,_,Z,_,_,Z,Z,Z,by rw[if_pos (by omega),<-xb];rfl⟩
  ·exact⟨_,Z,p,_,_,.int s,Z,Z,S,k2,Z,by rw[if_neg (by omega)];rfl⟩
 rintro σ' _ ⟨rfl,rfl⟩
 refine⟨_,Z,p,_,_,.int k,Z,Z,S,k0,_,Z,_,_,Z,Z,⟨by decide,by decide⟩,_,_,Z,Z,_,_,Z,Z,(by show (0:Int)<_;decide),_,Z,p,_,_,.int f,Z,Z,S,k1,_,Z,t3,λr hr=>q r _ (Z0c hr _) (SqT.of ?_)⟩
 rw[Z0d]
 have e:((k:Int)+(j:Int) / 2)%4=(((k+j / 2)%4:Nat):Int):=by omega
 show some (HO.tup [.int (((k:Int)+(j:Int) / 2)%4),.int f,.int ((if j%4=2 then fl s a else s:Nat):Int)])=_
 rw[e]
theorem sc_byif:FnScope ["mark","bit","other","flips","signs"] ["mark","bit","other"] (Z0h (top 51)):=fS
theorem X5r (F:FunAt K "moved_by_if" (top 51) .none)(X:K.In h)(G:Ng h mg):Cal P w K mg base (k+1) "moved_by_if" ["mark","bit","other"] (spByIf K):=by
 have nd:=sc_byif.nd
 refine F.cal X G sc_byif (bnd3 λ_ _ _ _ _ _ _ _ _=>rfl) (λvs H Q E h=>?_) (λf cdv A outer s H vs Q E hr h=>?_)
 ·obtain⟨p,m,a,j,rfl,_⟩:=h;rfl
 obtain⟨p,⟨k,f,s⟩,a,b,rfl,S,q⟩:=h
 rw[X6a] at q
 refine⟨_,(@Z0r _ _ _ _ _ (@Z0o _ _ 3 _ _ _ _ nd rfl (Or.inl rfl) (Z1v (Z2l (Z0i Z1t (Z0m Z0l (pv 0) Z0b (λ_ _=>rfl)) (pv 1)) (by intro _;rfl)) (Z0i Z4y (Z0m Z0l (pv 0) Z0b (λ_ _=>rfl)) (pv 2)) (Z0m Z0l (pv 0) Z0b (λ_ _=>rfl))) rfl (.inl rfl))
  (@Z0r _ _ _ _ _ (@Z0o _ _ 4 _ _ _ _ nd rfl (Or.inl rfl) (Z1v (Z2l (Z0i Z1t (Z0m Z0l (pv 0) Z0b (λ_ _=>rfl)) (pv 2)) (by intro _;rfl)) (Z0i Z4y (Z0m Z0l (pv 0) Z0b (λ_ _=>rfl)) (pv 1)) (Z0m Z0l (pv 0) Z0b (λ_ _=>rfl))) rfl (.inl rfl))
  (@Z0f _ _ _ (Z0j (@Z1a _ _ _ _ _ (Z0a (Z0m Z0l (pv 0) Z0b (λ_ _=>rfl)) (Z0a (pv 3) (Z0a (pv 4) Z0e)))))))),?_⟩
 try dsimp only[cxK]
 refine⟨λσ' H'=>H=H'/\σ'=[some (.ref p),some (.int ((2^a:Nat):Int)),some (.int ((2^b:Nat):Int)),some (.int ((if f.testBit a then fl f b else f:Nat):Int)),none],?_,?_⟩
 ·refine⟨_,Z,p,_,_,.int f,Z,Z,S,k1,_,Z,_,_,Z,Z,_,Z,?_⟩
  rw[tb]
  refine blI (λz=>?_) (λz=>?_)
  ·exact⟨_,Z,p,_,_,.int f,Z,Z,S,k1,_,Z,_,_,Z,Z,Z,by rw[if_pos z,<-xb];rfl⟩
  ·exact⟨_,Z,p,_,_,.int f,Z,Z,S,k1,Z,by rw[if_neg (by rw[z];decide)];rfl⟩
 rintro σ' _ ⟨rfl,rfl⟩
 refine⟨λσ' H'=>H=H'/\σ'=[some (.ref p),some (.int ((2^a:Nat):Int)),some (.int ((2^b:Nat):Int)),some (.int ((if f.testBit a then fl f b else f:Nat):Int)),some (.int ((if s.testBit b then fl s a else s:Nat):Int))],?_,?_⟩
 ·refine⟨_,Z,p,_,_,.int s,Z,Z,S,k2,_,Z,_,_,Z,Z,_,Z,?_⟩
  rw[tb]
  refine blI (λz=>?_) (λz=>?_)
  ·exact⟨_,Z,p,_,_,.int s,Z,Z,S,k2,_,Z,_,_,Z,Z,Z,by rw[if_pos z,<-xb];rfl⟩
  ·exact⟨_,Z,p,_,_,.int s,Z,Z,S,k2,Z,by rw[if_neg (show ¬ s.testBit b=true by rw[z];decide)];rfl⟩
 rintro σ' _ ⟨rfl,rfl⟩
 exact⟨_,Z,p,_,_,.int k,Z,Z,S,k0,_,Z,_,Z,t3,λr hr=>q r _ (Z0c hr _) (SqT.of Z0d)⟩
theorem sc_bypair:FnScope ["mark","bit","other","signs","moved"] ["mark","bit","other"] (Z0h (top 52)):=fS
theorem Y7h (F:FunAt K "moved_by_pair" (top 52) .none)(X:K.In h)(G:Ng h mg)(cA:Cal P w K mg base k "turned_about" ["mark"] (Z8l K)):Cal P w K mg base (k+1) "moved_by_pair" ["mark","bit","other"] (Y2v K):=by
 have nd:=sc_bypair.nd
 refine F.cal X G sc_bypair (bnd3 λ_ _ _ _ _ _ _ _ _=>rfl) (λvs H Q E h=>?_) (λf cdv A outer s H vs Q E hr h=>?_)
 ·obtain⟨p,m,a,j,rfl,_⟩:=h;rfl
 obtain⟨p,⟨k,f,s⟩,a,b,rfl,S,q⟩:=h
 rw[X1g] at q
 refine⟨_,(@Z0g _ _ _ _ _ (@Z0o _ _ 3 _ _ _ _ nd rfl (Or.inl rfl) (Z0m Z0l (pv 0) Z0b (λ_ _=>rfl)) rfl (.inl rfl))
  (@Z0r _ _ _ _ _ (Z0y (Z2l (Z0i Z1t (Z0m Z0l (pv 0) Z0b (λ_ _=>rfl)) (pv 1)) (by intro _;rfl))
   (@Z0f _ _ _ (@Z0o _ _ 3 _ _ _ _ nd rfl (Or.inl rfl) (Z0i Z4y (pv 3) (pv 2)) rfl (.inl rfl)))
   Z0p)
  (@Z0r _ _ _ _ _ (Z0y (Z2l (Z0i Z1t (Z0m Z0l (pv 0) Z0b (λ_ _=>rfl)) (pv 2)) (by intro _;rfl))
   (@Z0f _ _ _ (@Z0o _ _ 3 _ _ _ _ nd rfl (Or.inl rfl) (Z0i Z4y (pv 3) (pv 1)) rfl (.inl rfl)))
   Z0p)
  (@Z0g _ _ _ _ _ (@Z0o _ _ 4 _ _ _ _ nd rfl (Or.inl rfl) (@Z1a _ _ _ _ _ (Z0a (Z0m Z0l (pv 0) Z0b (λ_ _=>rfl)) (Z0a (Z0m Z0l (pv 0) Z0b (λ_ _=>rfl)) (Z0a (pv 3) Z0e)))) rfl (.inl rfl))
  (@Z0f _ _ _ (Z0j (Z1v (PW.pt (Z5w (Z2l (Z0i Z1t (Z0m Z0l (pv 0) Z0b (λ_ _=>rfl)) (pv 1)) (by intro _;rfl)) (Z4a (Z2l (Z0i Z1t (Z0m Z0l (pv 0) Z0b (λ_ _=>rfl)) (pv 2)) (by intro _;rfl))))) (Z0k cA hr rfl (Z0a (pv 4) Z0e)) (pv 4)))))))),?_⟩
 try dsimp only[cxK]
 refine⟨_,Z,p,_,_,.int s,Z,Z,S,k2,?_⟩
 refine⟨λσ' H'=>H=H'/\σ'=[some (.ref p),some (.int ((2^a:Nat):Int)),some (.int ((2^b:Nat):Int)),some (.int ((if f.testBit a then fl s b else s:Nat):Int)),none],?_,?_⟩
 ·refine⟨_,Z,p,_,_,.int f,Z,Z,S,k1,_,Z,_,_,Z,Z,_,Z,?_⟩
  rw[tb]
  refine blI (λz=>?_) (λz=>?_)
  ·exact⟨_,Z,_,Z,_,_,Z,Z,Z,by rw[if_pos z,<-xb];rfl⟩
  ·exact⟨Z,by rw[if_neg (by rw[z];decide)];rfl⟩
 rintro σ' _ ⟨rfl,rfl⟩
 refine⟨λσ' H'=>H=H'/\σ'=[some (.ref p),some (.int ((2^a:Nat):Int)),some (.int ((2^b:Nat):Int)),some (.int (prS a b f s:Nat)),none],?_,?_⟩
 ·refine⟨_,Z,p,_,_,.int f,Z,Z,S,k1,_,Z,_,_,Z,Z,_,Z,?_⟩
  rw[tb]
  refine blI (λz=>?_) (λz=>?_)
  ·exact⟨_,Z,_,Z,_,_,Z,Z,Z,by rw[prS,if_pos z,<-xb];rfl⟩
  ·exact⟨Z,by rw[prS,if_neg (show ¬ f.testBit b=true by rw[z];decide)]⟩
 rintro σ' _ ⟨rfl,rfl⟩
 refine⟨_,Z,p,_,_,.int k,Z,Z,S,k0,_,Z,p,_,_,.int f,Z,Z,S,k1,_,Z,t3,λt ht=>?_⟩
 have S1:=Z0c ht (.tup (mkL (k,f,prS a b f s)))
 have q1:SqT K (upd H t (.tup (mkL (k,f,prS a b f s)))) t (mkL (k,f,prS a b f s)):=SqT.of Z0d
 have SS:=S1.tup S
 refine⟨_,Z,p,_,_,.int f,Z,Z,SS,k1,_,Z,_,_,Z,Z,_,Z,?_⟩
 rw[tb]
 refine blI (λz=>?_) (λz=>?_)
 ·refine⟨_,Z,p,_,_,.int f,Z,Z,SS,k1,_,Z,_,_,Z,Z,_,Z,?_⟩
  rw[tb]
  refine blI (λy=>?_) (λy=>?_)
  ·rw[if_pos (by rw[z,y];rfl)] at q
   exact⟨_,Z,t,(k,f,prS a b f s),Z,q1,λr H2 S2 h2=>q r H2 (S1.trans S2) h2⟩
  ·rw[if_neg (by rw[z,y];decide)] at q
   exact⟨_,Z,q t _ S1 q1⟩
 ·rw[if_neg (by rw[z];simp)] at q
  exact iteF ⟨_,Z,q t _ S1 q1⟩
end
end K55S
namespace K55S
open L2 Ba Am Pc M71
open K75 (top Bs spExch)
open M72 (fl sw VOk)
open M75 (Mk mvd mvds Br)
def Z9q (K:U0):Sp:=λvs H Q _=>∃ (p q:W9) (m:Mk) (x:Mv) (c:Nat),vs=[.ref p,.ref q]/\SqT K H p (mkL m)/\H q=some (mT (mm x))/\OkK c m/\c<=6/\VOk c x/\Br x/\Mkr K H Q (mvd x m)
def Z3w (K:U0):Sp:=λvs H Q _=>∃ (p l:W9) (m:Mk) (row:List Mv) (c:Nat),vs=[.ref p,.ref l]/\SqT K H p (mkL m)/\RowAt H l row/\OkK c m/\c<=6/\(∀ x∈row,VOk c x)/\(∀ x∈row,Br x)/\row.length<=200/\Mkr K H Q (mvds row m)
theorem at0 {x:V}{xs:List V}:atI (x::xs) 0=some x:=L2.Z1e (j:=0) rfl
theorem X0c {a:Int}(h0:0<=a):(1:Int)*2^a.toNat=((2^a.toNat:Nat):Int):=by simp
theorem X1h (a k f s:Nat):mvd (.flip (a:Int)) (k,f,s)=(if s.testBit a then (k+2)%4 else k,f,s):=rfl
theorem Z1h:∀ (r t:List Mv) (m:Mk),mvds (r++t) m=mvds t (mvds r m)
 | [],_,_=>rfl
 | x::r,t,m=>Z1h r t (mvd x m)
theorem Z8t {c:Nat}:∀ {row:List Mv}{m:Mk},(∀ x∈row,VOk c x)->OkK c m->OkK c (mvds row m)
 | [],_,_,h=>h
 | x::r,m,o,h=>Z8t (row:=r) (λy hy=>o y (.tail _ hy)) (Y7n (o x (.head _)) h)
theorem Z1c {H:Hp}:∀ {ps:U3}{ms:List Mm},RowsM H ps ms->ps.length=ms.length
 | [],[],.nil=>rfl
 | _::_,_::_,.cons _ r=>by rw[q1r,q1r,Z1c r]
theorem Z6e {H:Hp}:∀ {ps:U3}{row:List Mv}{i:Nat}{p:W9},RowsM H ps (row.map mm)->ps[i]?=some p->∃ m,row[i]?=some m/\H p=some (mT (mm m))
 | p'::ps,m::ms,0,p,.cons a r,h=>by
  have:p'=p:=by simpa using h
  subst this
  exact⟨m,Z,a⟩
 | p'::ps,m::ms,i+1,p,.cons a r,h=>by
  obtain⟨m',b,c⟩:=Z6e (ps:=ps) (row:=ms) (i:=i) (p:=p) r (by simpa using h)
  exact⟨m',b,c⟩
section
variable {P:U8}{w:W1}{K:U0}{mg:U4}{base:Heap}{k:Nat}{h:Heap}
theorem sc_movedby:FnScope ["mark","move","bit","other"] ["mark","move"] (Z0h (top 48)):=fS
theorem Y4w (F:FunAt K "moved_by" (top 48) .none)(X:K.In h)(G:Ng h mg)(cA:Cal P w K mg base k "turned_about" ["mark"] (Z8l K))(dE:Cal P w K mg base k "moved_by_mix" ["mark","bit"] (Y6a K))(d8:Cal P w K mg base k "moved_by_turn" ["mark","bit","k"] (Y2u K))
  (dL:Cal P w K mg base k "moved_by_if" ["mark","bit","other"] (spByIf K)) (d7:Cal P w K mg base k "moved_by_pair" ["mark","bit","other"] (Y2v K)) (cG:Cal P w K mg base k "exchanged" ["word","bit","other"] spExch):Cal P w K mg base (k+1) "moved_by" ["mark","move"] (Z9q K):=by
 have nd:=sc_movedby.nd
 refine F.cal X G sc_movedby (bnd2 λ_ _ _ _ _ _ _ _=>rfl) (λvs H Q E h=>?_) (λf cdv A outer s H vs Q E hr h=>?_)
 ·obtain⟨p,q,m,x,c,rfl,_⟩:=h;rfl
 obtain⟨p,q,⟨k,f,s⟩,x,c,rfl,S,hq,o,c6,ok,br,kq⟩:=h
 have SP:SqT K H q (.str (nm x)::(ns x).map V.int):=SqT.of hq
 obtain⟨g0,g1⟩:0<=hd x/\hd x<(c:Int):=by
  obtain⟨r,e⟩:=Z5s x
  have hm:hd x∈x.cells:=by rw[e];exact .head _
  exact⟨ok.1.nn _ hm,ok.2 _ hm⟩
 refine⟨_,(@Z0r _ _ _ _ _ (@Z0o _ _ 2 _ _ _ _ nd rfl (Or.inl rfl) (Z0i Z2f Z0b (Z0m Z0l (pv 1) Z0b (λ_ _=>rfl))) rfl (.inl rfl))
  (@Z0g _ _ _ _ _ (Z0y (Z0n Z1o (Z0m Z0l (pv 1) Z0b (λ_ _=>rfl)) Z0x (nomark _))
   (@Z0f _ _ _ (Z0j (Z1v (Z2l (Z0i Z1t (Z0m Z0l (pv 0) Z0b (λ_ _=>rfl)) (pv 2)) (by intro _;rfl)) (Z0k cA hr rfl (Z0a (pv 0) Z0e)) (pv 0))))
   Z0p)
  (@Z0g _ _ _ _ _ (Z0y (Z0n Z1o (Z0m Z0l (pv 1) Z0b (λ_ _=>rfl)) Z0x (nomark _))
   (@Z0f _ _ _ (Z0j (Z0k dE hr rfl (Z0a (pv 0) (Z0a (pv 2) Z0e)))))
   Z0p)
  (@Z0g _ _ _ _ _ (Z0y (Z0n Z1o (Z0m Z0l (pv 1) Z0b (λ_ _=>rfl)) Z0x (nomark _))
   (@Z0f _ _ _ (Z0j (Z0k d8 hr rfl (Z0a (pv 0) (Z0a (pv 2) (Z0a (Z0m Z0l (pv 1) Z0b (λ_ _=>rfl)) Z0e))))))
   Z0p)
  (@Z0r _ _ _ _ _ (@Z0o _ _ 3 _ _ _ _ nd rfl (Or.inl rfl) (Z0i Z2f Z0b (Z0m Z0l (pv 1) Z0b (λ_ _=>rfl))) rfl (.inl rfl))
  (@Z0g _ _ _ _ _ (Z0y (Z0n Z1o (Z0m Z0l (pv 1) Z0b (λ_ _=>rfl)) Z0x (nomark _))
   (@Z0f _ _ _ (Z0j (Z0k dL hr rfl (Z0a (pv 0) (Z0a (pv 2) (Z0a (pv 3) Z0e))))))
   Z0p)
  (@Z0g _ _ _ _ _ (Z0y (Z0n Z1o (Z0m Z0l (pv 1) Z0b (λ_ _=>rfl)) Z0x (nomark _))
   (@Z0f _ _ _ (Z0j (Z0k d7 hr rfl (Z0a (pv 0) (Z0a (pv 2) (Z0a (pv 3) Z0e))))))
   Z0p)
  (@Z0f _ _ _ (Z0j (@Z1a _ _ _ _ _ (Z0a (Z0m Z0l (pv 0) Z0b (λ_ _=>rfl)) (Z0a (Z0k cG hr rfl (Z0a (Z0m Z0l (pv 0) Z0b (λ_ _=>rfl)) (Z0a (pv 2) (Z0a (pv 3) Z0e)))) (Z0a (Z0k cG hr rfl (Z0a (Z0m Z0l (pv 0) Z0b (λ_ _=>rfl)) (Z0a (pv 2) (Z0a (pv 3) Z0e)))) Z0e))))))))))))),?_⟩
 try dsimp only[cxK]
 refine⟨λσ' H'=>H=H'/\σ'=[some (.ref p),some (.ref q),some (.int ((2^(hd x).toNat:Nat):Int)),none],?_,?_⟩
 ·exact⟨_,Z,q,_,_,.int (hd x),Z,Z,SP,at1m x,_,_,Z,Z,⟨1,sz1,by omega,by omega⟩,Z,by rw[<-X0c g0];rfl⟩
 rintro σ' _ ⟨rfl,rfl⟩
 cases x with
 | flip a =>
  obtain⟨A,rfl⟩:∃ A:Nat,a=(A:Int):=⟨a.toNat,(tn g0).symm⟩
  rw[X1h] at kq
  refine⟨_,Z,q,_,_,.str "flip",Z,Z,SP,at0,Z,_,Z,decI (λ_=>?_) (λz=>absurd rfl z)⟩
  refine⟨_,Z,p,_,_,.int s,Z,Z,S,k2,_,Z,_,_,Z,Z,_,Z,?_⟩
  show (if (Builtin.bitAnd (s:Int) ((2^A:Nat):Int) != 0)=true then _ else _)
  rw[tb]
  refine blI (λz=>?_) (λz=>?_)
  ·rw[if_pos z] at kq
   exact⟨_,Z,p,(k,f,s),Z,S,kq⟩
  ·rw[if_neg (by rw[z];decide)] at kq
   exact⟨_,Z,kq p H (Same.refl _) S⟩
 | mix a =>
  obtain⟨A,rfl⟩:∃ A:Nat,a=(A:Int):=⟨a.toNat,(tn g0).symm⟩
  refine⟨_,Z,q,_,_,.str "mix",Z,Z,SP,at0,Z,_,Z,decI (λz=>absurd (V.str.inj z) (by decide)) (λ_=>?_)⟩
  refine⟨_,Z,q,_,_,.str "mix",Z,Z,SP,at0,Z,_,Z,decI (λ_=>?_) (λz=>absurd rfl z)⟩
  exact⟨_,Z,_,Z,p,(k,f,s),c,A,Z,S,o,c6,by have:(A:Int)<c:=g1;omega,kq⟩
 | turn a j =>
  have okj:0<=a/\1<=j/\j<=7:=ok.1
  obtain⟨A,rfl⟩:∃ A:Nat,a=(A:Int):=⟨a.toNat,(tn g0).symm⟩
  obtain⟨J,rfl⟩:∃ J:Nat,j=(J:Int):=⟨j.toNat,(tn (by omega)).symm⟩
  refine⟨_,Z,q,_,_,.str "turn",Z,Z,SP,at0,Z,_,Z,decI (λz=>absurd (V.str.inj z) (by decide)) (λ_=>?_)⟩
  refine⟨_,Z,q,_,_,.str "turn",Z,Z,SP,at0,Z,_,Z,decI (λz=>absurd (V.str.inj z) (by decide)) (λ_=>?_)⟩
  refine⟨_,Z,q,_,_,.str "turn",Z,Z,SP,at0,Z,_,Z,decI (λ_=>?_) (λz=>absurd rfl z)⟩
  exact⟨_,Z,_,Z,_,Z,q,_,_,.int J,Z,Z,SP,k2,p,(k,f,s),A,J,Z,S,kq⟩
 | iff a b =>
  have okj:0<=a/\0<=b/\a≠b:=ok.1
  have hb:b<(c:Int):=ok.2 b (by simp[Mv.cells])
  obtain⟨A,rfl⟩:∃ A:Nat,a=(A:Int):=⟨a.toNat,(tn g0).symm⟩
  obtain⟨J,rfl⟩:∃ J:Nat,b=(J:Int):=⟨b.toNat,(tn okj.2.1).symm⟩
  refine⟨_,Z,q,_,_,.str "if",Z,Z,SP,at0,Z,_,Z,decI (λz=>absurd (V.str.inj z) (by decide)) (λ_=>?_)⟩
  refine⟨_,Z,q,_,_,.str "if",Z,Z,SP,at0,Z,_,Z,decI (λz=>absurd (V.str.inj z) (by decide)) (λ_=>?_)⟩
  refine⟨_,Z,q,_,_,.str "if",Z,Z,SP,at0,Z,_,Z,decI (λz=>absurd (V.str.inj z) (by decide)) (λ_=>?_)⟩
  refine⟨λσ' H'=>H=H'/\σ'=[some (.ref p),some (.ref q),some (.int ((2^A:Nat):Int)),some (.int ((2^J:Nat):Int))],?_,?_⟩
  ·exact⟨_,Z,q,_,_,.int J,Z,Z,SP,k2,_,_,Z,Z,⟨1,sz1,by omega,by omega⟩,Z,by rw[<-ipow J];rfl⟩
  rintro σ' _ ⟨rfl,rfl⟩
  refine⟨_,Z,q,_,_,.str "if",Z,Z,SP,at0,Z,_,Z,decI (λ_=>?_) (λz=>absurd rfl z)⟩
  exact⟨_,Z,_,Z,_,Z,p,(k,f,s),A,J,Z,S,kq⟩
 | pair a b =>
  have okj:0<=a/\0<=b/\a≠b:=ok.1
  have hb:b<(c:Int):=ok.2 b (by simp[Mv.cells])
  obtain⟨A,rfl⟩:∃ A:Nat,a=(A:Int):=⟨a.toNat,(tn g0).symm⟩
  obtain⟨J,rfl⟩:∃ J:Nat,b=(J:Int):=⟨b.toNat,(tn okj.2.1).symm⟩
  refine⟨_,Z,q,_,_,.str "pair",Z,Z,SP,at0,Z,_,Z,decI (λz=>absurd (V.str.inj z) (by decide)) (λ_=>?_)⟩
  refine⟨_,Z,q,_,_,.str "pair",Z,Z,SP,at0,Z,_,Z,decI (λz=>absurd (V.str.inj z) (by decide)) (λ_=>?_)⟩
  refine⟨_,Z,q,_,_,.str "pair",Z,Z,SP,at0,Z,_,Z,decI (λz=>absurd (V.str.inj z) (by decide)) (λ_=>?_)⟩
  refine⟨λσ' H'=>H=H'/\σ'=[some (.ref p),some (.ref q),some (.int ((2^A:Nat):Int)),some (.int ((2^J:Nat):Int))],?_,?_⟩
  ·exact⟨_,Z,q,_,_,.int J,Z,Z,SP,k2,_,_,Z,Z,⟨1,sz1,by omega,by omega⟩,Z,by rw[<-ipow J];rfl⟩
  rintro σ' _ ⟨rfl,rfl⟩
  refine⟨_,Z,q,_,_,.str "pair",Z,Z,SP,at0,Z,_,Z,decI (λz=>absurd (V.str.inj z) (by decide)) (λ_=>?_)⟩
  refine⟨_,Z,q,_,_,.str "pair",Z,Z,SP,at0,Z,_,Z,decI (λ_=>?_) (λz=>absurd rfl z)⟩
  exact⟨_,Z,_,Z,_,Z,p,(k,f,s),A,J,Z,S,kq⟩
 | swap a b =>
  have okj:0<=a/\0<=b/\a≠b:=ok.1
  have hb:b<(c:Int):=ok.2 b (by simp[Mv.cells])
  obtain⟨A,rfl⟩:∃ A:Nat,a=(A:Int):=⟨a.toNat,(tn g0).symm⟩
  obtain⟨J,rfl⟩:∃ J:Nat,b=(J:Int):=⟨b.toNat,(tn okj.2.1).symm⟩
  refine⟨_,Z,q,_,_,.str "swap",Z,Z,SP,at0,Z,_,Z,decI (λz=>absurd (V.str.inj z) (by decide)) (λ_=>?_)⟩
  refine⟨_,Z,q,_,_,.str "swap",Z,Z,SP,at0,Z,_,Z,decI (λz=>absurd (V.str.inj z) (by decide)) (λ_=>?_)⟩
  refine⟨_,Z,q,_,_,.str "swap",Z,Z,SP,at0,Z,_,Z,decI (λz=>absurd (V.str.inj z) (by decide)) (λ_=>?_)⟩
  refine⟨λσ' H'=>H=H'/\σ'=[some (.ref p),some (.ref q),some (.int ((2^A:Nat):Int)),some (.int ((2^J:Nat):Int))],?_,?_⟩
  ·exact⟨_,Z,q,_,_,.int J,Z,Z,SP,k2,_,_,Z,Z,⟨1,sz1,by omega,by omega⟩,Z,by rw[<-ipow J];rfl⟩
  rintro σ' _ ⟨rfl,rfl⟩
  refine⟨_,Z,q,_,_,.str "swap",Z,Z,SP,at0,Z,_,Z,decI (λz=>absurd (V.str.inj z) (by decide)) (λ_=>?_)⟩
  refine⟨_,Z,q,_,_,.str "swap",Z,Z,SP,at0,Z,_,Z,decI (λz=>absurd (V.str.inj z) (by decide)) (λ_=>?_)⟩
  have ac:A<c:=by have:(A:Int)<c:=g1;omega
  have bc:J<c:=by omega
  have ne:A≠J:=λz=>okj.2.2 (by rw[z])
  refine⟨_,Z,p,_,_,.int k,Z,Z,S,k0,_,Z,p,_,_,.int f,Z,Z,S,k1,_,Z,_,Z,f,A,J,Z,λH1 S1=>?_⟩
  refine⟨_,Z,p,_,_,.int s,Z,Z,S1.tup S,k2,_,Z,_,Z,s,A,J,Z,λH2 S2=>⟨t3,λr hr=>kq r _ ((S1.trans S2).trans (Z0c hr _)) (SqT.of ?_)⟩⟩
  rw[Z0d,(Y5f c6 ac bc ne o.f).1,(Y5f c6 ac bc ne o.s).1]
  rfl
 | cross a b d=>exact absurd br id
theorem sc_through:FnScope ["mark","row","behind","move"] ["mark","row"] (Z0h (top 47)):=fS
theorem Y4v (F:FunAt K "moved_through" (top 47) .none)(X:K.In h)(G:Ng h mg)(eG:Cal P w K mg base k "moved_by" ["mark","move"] (Z9q K)):Cal P w K mg base (k+1) "moved_through" ["mark","row"] (Z3w K):=by
 have nd:=sc_through.nd
 refine F.cal X G sc_through (bnd2 λ_ _ _ _ _ _ _ _=>rfl) (λvs H Q E h=>?_) (λf cdv A outer s H vs Q E hr h=>?_)
 ·obtain⟨p,q,m,x,c,rfl,_⟩:=h;rfl
 obtain⟨p,l,m,row,c,rfl,S,⟨ps,hl,hrow⟩,o,c6,ok,br,l200,kq⟩:=h
 have SL:SqL K H l (ps.map V.ref):=SqL.of hl
 have pl:ps.length=row.length:=by have:=Z1c hrow;rw[q0a] at this;exact this
 refine⟨_,(@Z0g _ _ _ _ _ (@Z0o _ _ 2 _ _ _ _ nd rfl (Or.inl rfl) (pv 0) rfl (.inl rfl))
  (@Z0g _ _ _ _ _ (Z2r PassesOwn.never rfl (Z2x (pv 1)) (Z0w (i:=3) nd rfl (Or.inl rfl))
   (@Z0f _ _ _ (@Z0o _ _ 2 _ _ _ _ nd rfl (Or.inl rfl) (Z0k eG hr rfl (Z0a (pv 2) (Z0a (pv 3) Z0e))) rfl (.inl rfl))))
  (@Z0f _ _ _ (Z0j (pv 2))))),?_⟩
 try dsimp only[cxK]
 refine⟨_,Z,_,Z,l,Z,⟨_,SL⟩,Y3z (K:=K) (a:=l) (xs:=ps.map V.ref) (λi σ H'=>Same H H'/\∃ (b:W9) (v3:Option V),SqT K H' b (mkL (mvds (row.take i) m))/\σ=[some (.ref p),some (.ref l),some (.ref b),v3])
  ⟨Same.refl _,p,none,by rw[q2l];exact S,Z⟩ (λi σ H' _ e=>e.1.seq SL) ?_ ?_⟩
 ·rintro i x σ H1 hx ⟨S1,b,v3,hb,rfl⟩
  rw[q0k] at hx
  obtain⟨q,hq,rfl⟩:=q0x.mp hx
  obtain⟨y,hy,ey⟩:=Z6e hrow hq
  have hm:y∈row:=q2r hy
  refine⟨_,Z,_,Z,b,q,_,y,c,Z,hb,S1 _ _ ey,Z8t (λz hz=>ok z (q3n hz)) o,c6,ok y hm,br y hm,λr H2 S2 h2=>⟨S1.trans S2,r,_,?_,Z⟩⟩
  rw[q1y,hy,q4c,Z1h]
  exact h2
 ·rintro σ H1 ⟨S1,b,v3,hb,rfl⟩
  rw[q0a,pl,q4r] at hb
  exact⟨_,Z,kq b H1 S1 hb⟩
end
end K55S
namespace K55S
open L2 Ba Am Pc M71
open K75 (top Bs)
open M72 (fl sw VOk)
open M75 (Mk mvd mvds Br)
noncomputable def oddT:Mv->Bool
 | .turn _ j=>decide (V.int (j%2)=V.int 1)
 | _=>false
noncomputable def brB:Mv->Bool
 | .cross _ _ _=>false
 | x=>!oddT x
def spOdd:Sp:=λvs H Q _=>∃ (p:W9) (x:Mv),vs=[.ref p]/\H p=some (mT (mm x))/\Q (.bl (oddT x)) H
def spIsBr:Sp:=λvs H Q _=>∃ (p:W9) (x:Mv),vs=[.ref p]/\H p=some (mT (mm x))/\Q (.bl (brB x)) H
theorem Y5k {x:Mv}(e:nm x="turn"):∃ a j,x=.turn a j:=by
 have:=(Z5n x).mp e
 cases x<;>first | exact⟨_,_,Z⟩ | simp[code] at this
theorem X5u {x:Mv}(e:nm x≠"turn"):oddT x=false:=by cases x<;>first | rfl | exact absurd rfl e
theorem X2a {x:Mv}(e:nm x="cross"):brB x=false:=by
 have:=(Z8x x).mp e
 cases x<;>first | rfl | simp[code] at this
theorem W0n {x:Mv}(e:nm x≠"cross"):brB x=!oddT x:=by cases x<;>first | rfl | exact absurd rfl e
theorem W0o {x:Mv}(o:M72.Ok x):brB x=true ↔ Br x:=by
 cases x with
 | turn a j =>
  have:0<=a/\1<=j/\j<=7:=o
  show (!decide (V.int (j%2)=V.int 1))=true ↔ j.toNat%2=0
  by_cases h:j%2=1
  ·rw[q0j (by rw[h])]
   simp
   omega
  ·rw[q0e (λz=>h (V.int.inj z))]
   simp
   omega
 | cross a b d=>exact⟨λz=>(nomatch z),λz=>z.elim⟩
 | _=>exact⟨λ_=>trivial,λ_=>rfl⟩
noncomputable def fst:List Mv->Option Nat
 | []=>none
 | x::r=>if brB x then (fst r).map (·+1) else some 0
noncomputable def oV:Option Nat->V
 | none=>.non
 | some n=>.int n
def Y6b:Sp:=λvs H Q _=>∃ (l:W9) (row:List Mv),vs=[.ref l]/\RowAt H l row/\row.length<=200/\∀ H',Same H H'->Q (oV (fst row)) H'
theorem X3i:∀ {row:List Mv}{i:Nat}{x:Mv},(∀ y∈row.take i,brB y=true)->row[i]?=some x->brB x=false->fst row=some i
 | y::r,0,x,_,hx,hb=>by
  have:y=x:=by simpa using hx
  subst this
  show (if brB y then _ else some 0)=_
  rw[if_neg (by rw[hb];decide)]
 | y::r,i+1,x,h,hx,hb=>by
  have hy:=h y (by rw[q4u];exact .head _)
  show (if brB y then (fst r).map (·+1) else some 0)=_
  rw[if_pos hy,X3i (row:=r) (i:=i) (x:=x) (λz hz=>h z (by rw[q4u];exact .tail _ hz)) (by simpa using hx) hb]
  rfl
theorem Z8z:∀ {row:List Mv},(∀ y∈row,brB y=true)->fst row=none
 | [],_=>rfl
 | y::r,h=>by
  show (if brB y then (fst r).map (·+1) else some 0)=_
  rw[if_pos (h y (.head _)),Z8z λz hz=>h z (.tail _ hz)]
  rfl
section
variable {P:U8}{w:W1}{K:U0}{mg:U4}{base:Heap}{k:Nat}{h:Heap}
theorem sc_odd:FnScope ["move"] ["move"] (Z0h (top 44)):=fS
theorem X8n (F:FunAt K "is_odd_turn" (top 44) .none)(X:K.In h)(G:Ng h mg):Cal P w K mg base (k+1) "is_odd_turn" ["move"] spOdd:=by
 have nd:=sc_odd.nd
 refine F.cal X G sc_odd (bnd1 λ_ _ _ _ _ _ _=>rfl) (λvs H Q E h=>?_) (λf cdv A outer s H vs Q E hr h=>?_)
 ·obtain⟨p,x,rfl,_⟩:=h;rfl
 obtain⟨p,x,rfl,hp,q⟩:=h
 have SP:SqT K H p (.str (nm x)::(ns x).map V.int):=SqT.of hp
 refine⟨_,(@Z0f _ _ _ (Z0j (Z3v (Z1q Z1o (Z0m Z0l (pv 0) Z0b (λ_ _=>rfl)) Z0x (nomark _)) (Z2z (Z1q Z1o (Z0i Z0z (Z0m Z0l (pv 0) Z0b (λ_ _=>rfl)) Z0b) Z0b (nomark _)))))),?_⟩
 try dsimp only[cxK]
 refine⟨_,Z,p,_,_,.str (nm x),Z,Z,SP,at0m x,Z,?_⟩
 by_cases e:nm x="turn"
 ·obtain⟨a,j,rfl⟩:=Y5k e
  exact⟨_,Z,decI (λ_=>⟨_,Z,p,_,_,.int j,Z,Z,SP,k2,_,_,Z,Z,(by show (0:Int)<_;decide),Z,q⟩) (λz=>absurd rfl z)⟩
 ·refine⟨_,Z,decI (λz=>absurd (V.str.inj z) e) (λ_=>?_)⟩
  rw[X5u e] at q
  exact q
theorem sc_isbr:FnScope ["move"] ["move"] (Z0h (top 43)):=fS
theorem X5k (F:FunAt K "is_borne" (top 43) .none)(X:K.In h)(G:Ng h mg)(dJ:Cal P w K mg base k "is_odd_turn" ["move"] spOdd):Cal P w K mg base (k+1) "is_borne" ["move"] spIsBr:=by
 have nd:=sc_isbr.nd
 refine F.cal X G sc_isbr (bnd1 λ_ _ _ _ _ _ _=>rfl) (λvs H Q E h=>?_) (λf cdv A outer s H vs Q E hr h=>?_)
 ·obtain⟨p,x,rfl,_⟩:=h;rfl
 obtain⟨p,x,rfl,hp,q⟩:=h
 have SP:SqT K H p (.str (nm x)::(ns x).map V.int):=SqT.of hp
 refine⟨_,(@Z0f _ _ _ (Z0j (Z3v (Z1q Z5a (Z0m Z0l (pv 0) Z0b (λ_ _=>rfl)) Z0x (nomark _)) (Z2z (Y6t (Z0k dJ hr rfl (Z0a (pv 0) Z0e))))))),?_⟩
 try dsimp only[cxK]
 refine⟨_,Z,p,_,_,.str (nm x),Z,Z,SP,at0m x,Z,?_⟩
 by_cases e:nm x="cross"
 ·refine⟨_,Z,nblI (λz=>absurd (by rw[e]) (q5b z)) (λ_=>?_)⟩
  rw[X2a e] at q
  exact q
 ·refine⟨_,Z,nblI (λ_=>?_) (λz=>absurd (V.str.inj (q1p z)) e)⟩
  refine⟨_,Z,p,x,Z,hp,_,Z,?_⟩
  rw[W0n e] at q
  exact q
theorem sc_borne:FnScope ["row","place","move"] ["row"] (Z0h (top 42)):=fS
theorem X1b (F:FunAt K "borne" (top 42) .none)(X:K.In h)(G:Ng h mg)(B:Bs mg)(eE:Cal P w K mg base k "is_borne" ["move"] spIsBr):Cal P w K mg base (k+1) "borne" ["row"] Y6b:=by
 have nd:=sc_borne.nd
 refine F.cal X G sc_borne (bnd1 λ_ _ _ _ _ _ _=>rfl) (λvs H Q E h=>?_) (λf cdv A outer s H vs Q E hr h=>?_)
 ·obtain⟨l,row,rfl,_⟩:=h;rfl
 obtain⟨l,row,rfl,⟨ps,hl,hrow⟩,l200,kq⟩:=h
 have SL:SqL K H l (ps.map V.ref):=SqL.of hl
 have pl:ps.length=row.length:=by have:=Z1c hrow;rw[q0a] at this;exact this
 refine⟨_,(@Z0g _ _ _ _ _ (Z2r PassesOwn.never rfl (Y1g rfl B.enumerate (Z0a (pv 0) Z0e)) (@Y6r _ _ _ _ _ _ rfl (@Z4k _ _ _ _ _ (@Z0w _ _ 1 _ nd rfl (Or.inl rfl) (by first | exact .inl rfl | exact .inr rfl)) (@Z4k _ _ _ _ _ (@Z0w _ _ 2 _ nd rfl (Or.inl rfl) (by first | exact .inl rfl | exact .inr rfl)) Y1h rfl) rfl) rfl rfl)
   (@Z0f _ _ _ (Z0y (Z2v (Z2b (Z0k eE hr rfl (Z0a (pv 2) Z0e))))
    (@Z0f _ _ _ (Z0j (pv 1)))
    Z0p)))
  (@Z0f _ _ _ (Z0j Z3a))),?_⟩
 try dsimp only[cxK]
 refine⟨_,Z,l,_,Z,SL,Y4a (K:=K) (a:=l) (xs:=ps.map V.ref) (λi σ H'=>Same H H'/\(∀ y∈row.take i,brB y=true)/\∃ (v1 v2:Option V),σ=[some (.ref l),v1,v2])
  ⟨Same.refl _,(λy hy=>by rw[q2l] at hy;cases hy),none,none,Z⟩ (λi σ H' _ e=>e.1.seq SL) ?_ ?_⟩
 ·rintro i x σ H1 T hx ⟨S1,hb,v1,v2,rfl⟩ hT
  rw[q0k] at hx
  obtain⟨q,hq,rfl⟩:=q0x.mp hx
  obtain⟨y,hy,ey⟩:=Z6e hrow hq
  have S2:=S1.trans (Z0c hT (.tup [.int i,.ref q]))
  refine⟨T,_,Z,SqT.of Z0d,Z,_,_,Z,_,_,Z,Z,?_⟩
  refine⟨_,Z,q,y,Z,S2 _ _ ey,_,Z,nblI (λz=>?_) (λz=>?_)⟩
  ·have:=kq _ S2
   rw[X3i hb hy z] at this
   exact⟨_,Z,this⟩
  ·refine⟨S2,λu hu=>?_,_,_,Z⟩
   rw[q1y,hy,q4c] at hu
   rcases q0v.mp hu with hu | hu
   ·exact hb u hu
   ·rw[q0n.mp hu];exact z
 ·rintro σ H1 ⟨S1,hb,v1,v2,rfl⟩
  rw[q0a,pl,q4r] at hb
  have:=kq _ S1
  rw[Z8z hb] at this
  exact this
end
end K55S
namespace K55S
open L2 Ba Am Pc M71
open K75 (top Bs Bd5 ValsK At5 Z8i Z3g Z3m Ams Z6i)
open M72 (fl sw VOk V4 En sm rowop)
open M75 (Mk mvd mvds Br lay bn bp)
theorem Y1f (n:Nat)(x:V4):Ba.rot n x=En n x:=by
 induction n with
 | zero=>rfl
 | succ n ih=>show M72.E (Ba.rot n x)=M72.E (En n x);rw[ih]
theorem Y1n {x y:Nat}:[V.int (Builtin.bitAnd (x:Int) (y:Int))]=[V.int ((x&&&y:Nat):Int)]:=by rw[Z5t]
section
variable {P:U8}{w:W1}{K:U0}{mg:U4}{base:Heap}{k:Nat}{h:Heap}
theorem sc_ones:FnScope ["number","many","rest"] ["number"] (Z0h (top 10)):=fS
theorem X5c (F:FunAt K "ones" (top 10) .none)(X:K.In h)(G:Ng h mg):Cal P w K mg base (k+1) "ones" ["number"] spOnes:=by
 have nd:=sc_ones.nd
 refine F.cal X G sc_ones (bnd1 λ_ _ _ _ _ _ _=>rfl) (λvs H Q E h=>?_) (λf cdv A outer s H vs Q E hr h=>?_)
 ·obtain⟨n,rfl,_⟩:=h;rfl
 obtain⟨n,rfl,q⟩:=h
 refine⟨_,(@Z0g _ _ _ _ _ (@Z0o _ _ 1 _ _ _ _ nd rfl (Or.inl rfl) Z0b rfl (.inl rfl))
  (@Z0g _ _ _ _ _ (@Z0o _ _ 2 _ _ _ _ nd rfl (Or.inl rfl) (pv 0) rfl (.inl rfl))
  (@Z0g _ _ _ _ _ (Z8q PassesOwn.never (Z0n Z5a (pv 2) Z0b (nomark _))
   (@Z0g _ _ _ _ _ (@Z0o _ _ 2 _ _ _ _ nd rfl (Or.inl rfl) (Z0i Z1t (pv 2) (Z0i Z2k (pv 2) Z0b)) rfl (.inl rfl))
   (@Z0f _ _ _ (@Z0o _ _ 1 _ _ _ _ nd rfl (Or.inl rfl) (Z0i Z1b (pv 1) Z0b) rfl (.inl rfl)))))
  (@Z0f _ _ _ (Z0j (pv 1)))))),?_⟩
 try dsimp only[cxK]
 refine⟨_,Z,λm σ H'=>H'=H/\∃ j r:Nat,m=pc r/\j+pc r=pc n/\σ=[some (.int n),some (.int j),some (.int r)],⟨_,Z,0,n,Z,q6r _,Z⟩,?_⟩
 rintro m σ H' ⟨rfl,j,r,rfl,hj,rfl⟩
 refine⟨_,Z,Z,_,Z,neI (λhr0=>?_) (λhr0=>?_)⟩
 ·have r0:r≠0:=by omega
  have e:=Y6v (r+1) r (by omega) r0
  refine⟨_,λσ' H' x=>x,?_⟩
  refine⟨_,Z,_,Z,_,_,Z,Z,_,_,Z,Z,?_⟩
  refine⟨_,Z,_,_,Z,Z,⟨pc (r&&&(r-1)),by omega,Z,j+1,r&&&(r-1),Z,by omega,?_⟩⟩
  have e2:Builtin.bitAnd (r:Int) ((r:Int)-1)=((r&&&(r-1):Nat):Int):=by rw[show (r:Int)-1=((r-1:Nat):Int) by omega,Z5t]
  show [some (V.int n),some (V.int ((j:Int)+1)),some (V.int (Builtin.bitAnd (r:Int) ((r:Int)-1)))]=_
  rw[e2]
  rfl
 ·have r0:r=0:=by omega
  subst r0
  rw[Y1k,q5q] at hj
  subst hj
  exact⟨_,Z,q⟩
end
end K55S
namespace K55S
open L2 Ba Am Pc M71
open K75 (top Bs Bd5 ValsK At5 Ams Z6i Steps spRunK)
open M72 (fl sw VOk V4 En sm rowop)
open M75 (Mk mvd mvds Br lay bn bp)
def Y5u (K:U0):Sp:=λvs H Q _=>∃ (l lr:W9) (ps:U3) (ms:List Mk) (row:List Mv) (c:Nat),vs=[.ref l,.ref lr]/\SqL K H l (ps.map V.ref)/\Paired (λp m=>SqT K H p (mkL m)) ps ms/\ms.length<=200/\RowAt H lr row/\(∀ m∈ms,OkK c m)/\c<=6/\(∀ x∈row,VOk c x)/\(∀ x∈row,Br x)/\row.length<=200 ∧
 ∀ (r:W9) (H':Hp) (qs:U3),H r=none->Same H H'->H' r=some (.lst (qs.map V.ref))->Paired (λp m=>SqT K H' p (mkL m)) qs (ms.map (mvds row))->Q (.ref r) H'
def spChk:Sp:=λvs H Q _=>∃ (l:W9) (row:List Mv),vs=[.ref l]/\RowAt H l row/\row.length<=200/\(∀ x∈row,brB x=true)/\∀ H',Same H H'->Q .non H'
theorem W0p {c:Nat}{row:List Mv}(ok:∀ x∈row,VOk c x)(br:∀ x∈row,Br x):∀ x∈row,brB x=true:=λx hx=>(W0o (ok x hx).1).mpr (br x hx)
theorem Z2w {α:Type}{F:Addr->α->Prop}:∀ {ps:U3}{ms:List α},Paired F ps ms->ps.length=ms.length
 | [],[],.nil=>rfl
 | _::_,_::_,.cons _ r=>by rw[q1r,q1r,Z2w r]
theorem Z4c {α:Type}{F:Addr->α->Prop}:∀ {ps:U3}{ms:List α}{i:Nat}{p:W9},Paired F ps ms->ps[i]?=some p->∃ m,ms[i]?=some m/\F p m
 | p'::ps,m::ms,0,p,.cons a r,h=>by
  have:p'=p:=by simpa using h
  subst this
  exact⟨m,Z,a⟩
 | p'::ps,m::ms,i+1,p,.cons a r,h=>by
  obtain⟨m',b,c⟩:=Z4c (ps:=ps) (ms:=ms) (i:=i) (p:=p) r (by simpa using h)
  exact⟨m',by simpa using b,c⟩
theorem Z3r {α:Type}{F:Addr->α->Prop}{a:W9}{b:α}:∀ {l:U3}{m:List α},Paired F l m->F a b->Paired F (l++[a]) (m++[b])
 | _,_,.nil,h=>.cons h .nil
 | _,_,.cons x r,h=>.cons x (Z3r r h)
theorem Z4w {α:Type}{F G:Addr->α->Prop}(f:∀ a b,F a b->G a b):∀ {l:U3}{m:List α},Paired F l m->Paired G l m
 | _,_,.nil=>.nil
 | _,_,.cons x r=>.cons (f _ _ x) (Z4w f r)
theorem Z6p {K:U0}{H:Hp}{p l:W9}{zs:List V}{xs ys:List V}(h:SqT K H p zs)(e:H l=some (.lst xs)):SqT K (upd H l (.lst ys)) p zs:=by
 rcases h with h | h
 ·left
  rcases h with h | ⟨o,h⟩
  ·exact .inl (by rw[Z1d (Z7b h e (by intro z;cases z))];exact h)
  ·exact .inr ⟨o,by rw[Z1d (Z7b h e (by intro z;cases z))];exact h⟩
 ·exact .inr h
section
variable {P:U8}{w:W1}{K:U0}{mg:U4}{base:Heap}{k:Nat}{h:Heap}
theorem sc_chk:FnScope ["row","place"] ["row"] (Z0h (top 46)):=fS
theorem X8s (F:FunAt K "check_borne" (top 46) .none)(X:K.In h)(G:Ng h mg)(eQ:Cal P w K mg base k "borne" ["row"] Y6b):Cal P w K mg base (k+1) "check_borne" ["row"] spChk:=by
 have nd:=sc_chk.nd
 refine F.cal X G sc_chk (bnd1 λ_ _ _ _ _ _ _=>rfl) (λvs H Q E h=>?_) (λf cdv A outer s H vs Q E hr h=>?_)
 ·obtain⟨l,row,rfl,_⟩:=h;rfl
 obtain⟨l,row,rfl,R,l200,br,kq⟩:=h
 refine⟨_,(@Z0g _ _ _ _ _ (@Z0o _ _ 1 _ _ _ _ nd rfl (Or.inl rfl) (Z0k eQ hr rfl (Z0a (pv 0) Z0e)) rfl (.inl rfl))
  (@Z0f _ _ _ (Z0y (Z0n Z8s (pv 1) Z3a (nomark _))
   (@Z0f _ _ _ Z4j)
   Z0p))),?_⟩
 try dsimp only[cxK]
 refine⟨_,Z,l,row,Z,R,l200,λH1 S1=>?_⟩
 rw[Z8z br]
 refine⟨_,Z,?_⟩
 exact⟨Z,_,Z,nblI (λz=>absurd rfl (q5b z)) (λ_=>kq H1 S1)⟩
theorem sc_mrows:FnScope ["rows","row"] ["rows","row"] (Z0h (top 45)):=fS
theorem X0t (F:FunAt K "moved_rows" (top 45) .none)(X:K.In h)(G:Ng h mg)(B:Bs mg)(dI:Cal P w K mg base k "check_borne" ["row"] spChk)(c5:Cal P w K mg base k "moved_through" ["mark","row"] (Z3w K)):Cal P w K mg base (k+1) "moved_rows" ["rows","row"] (Y5u K):=by
 have nd:=sc_mrows.nd
 refine F.cal X G sc_mrows (bnd2 λ_ _ _ _ _ _ _ _=>rfl) (λvs H Q E h=>?_) (λf cdv A outer s H vs Q E hr h=>?_)
 ·obtain⟨l,lr,ps,ms,row,c,rfl,_⟩:=h;rfl
 obtain⟨l,lr,ps,ms,row,c,rfl,SL,PM,lm,R,o,c6,ok,br,l200,kq⟩:=h
 refine⟨_,(@Z0g _ _ _ _ _ (Z2i (Z0k dI hr rfl (Z0a (pv 1) Z0e)))
  (@Z0f _ _ _ (Z0j (Z4l rfl (LcOk.of (Nc:=["mark","row"]) (mp:=[none,some 1]) (by kernel_rfl)) (Z2x (pv 0)) (λ_ _ _ _=>(Z0w (i:=0) (show (["mark","row"]:W0).Nodup by decide +kernel) rfl (Or.inl rfl))) (λ_ _ _ _=>(Z0k c5 hr rfl (Z0a (pv 0) (Z0a (pv 1) Z0e)))))))),?_⟩
 try dsimp only[cxK]
 refine⟨_,Z,lr,row,Z,R,l200,W0p ok br,λH1 S1=>?_⟩
 have pl:=Z2w PM
 refine⟨_,Z,l,Z,⟨_,S1.seq SL⟩,λacc hacc=>?_⟩
 refine Z5m (K:=K) (a:=l) (xs:=ps.map V.ref) (fr:=[some (.ref lr)]) (λi ys H'=>∃ qs:List Addr,Same H1 H'/\H' acc=some (.lst ys)/\ys=qs.map V.ref/\Paired (λp m=>SqT K H' p (mkL m)) qs ((ms.take i).map (mvds row))) (by rw[q0a];exact q0u (show ps.length<=200 by omega) (by decide))
  ⟨[],Z0c hacc _,Z0d,Z,by rw[q2l];exact .nil⟩ (λi ys H' ⟨_,e,_⟩=>(S1.trans e).seq SL) ?_ ?_
 ·rintro i x ys H2 N hx hy ⟨qs,S2,a2,rfl,P2⟩ kN
  rw[q0k] at hx
  obtain⟨q,hq,rfl⟩:=q0x.mp hx
  obtain⟨m,hm,em⟩:=Z4c PM hq
  have S12:=S1.trans S2
  refine⟨_,Z,_,Z,q,lr,m,row,c,Z,S12.tup em,R.same S12,o m (q2r hm),c6,ok,br,l200,λr H3 S3 h3=>?_⟩
  refine kN (.ref r) H3 (S3 _ _ a2) ⟨qs++[r],Z0v (S2.trans S3) hacc,Z0d,by rw[q0b];rfl,?_⟩
  rw[q1y,hm,q4c,q0b]
  exact Z3r (Z4w (λ_ _ e=>Z6p (S3.tup e) (S3 _ _ a2)) P2) (Z6p h3 (S3 _ _ a2))
 ·rintro ys H2 hy ⟨qs,S2,a2,rfl,P2⟩
  rw[q0a,pl,q4r] at P2
  have fr:H acc=none:=Z1r S1 hacc
  exact kq acc H2 qs fr (S1.trans S2) a2 P2
end
end K55S
set_option maxHeartbeats 1000000
namespace M75
open M71 M71.Mv M72 Pc
noncomputable def ev (m:Mk):Nat:=(m.1+bn (bp (m.2.1&&&m.2.2)))%2
theorem Z5e (k f s:Nat):ev (k,f,s)=(k+bn (bp (f&&&s)))%2:=rfl
theorem W0c {x:Mv}(o:Ok x)(b:Br x)(m:Mk):ev (mvd x m)=ev m:=by
 obtain⟨k,f,s⟩:=m
 cases x with
 | flip a =>
  show ev ((if s.testBit a.toNat then (k+2)%4 else k),f,s)=_
  rw[Z5e,Z5e]
  split<;>omega
 | mix a =>
  show ev (if f.testBit a.toNat && s.testBit a.toNat then (k+2)%4 else k,if f.testBit a.toNat=s.testBit a.toNat then f else fl f a.toNat,if f.testBit a.toNat=s.testBit a.toNat then s else fl s a.toNat)=_
  rw[Z5e,Z5e]
  cases hf:f.testBit a.toNat<;>cases hs:s.testBit a.toNat<;>simp[Z3l,Z2c,hf,hs,Z2a]
  ·omega
 | turn a j =>
  have hj:0<=a/\1<=j/\j<=7:=o
  have he:j.toNat%2=0:=b
  show ev (if f.testBit a.toNat then ((k+j.toNat / 2)%4,f,if j.toNat%4=2 then fl s a.toNat else s) else (k,f,s))=_
  generalize hJ:j.toNat=J at he
  have:J=2∨J=4∨J=6:=by omega
  cases hf:f.testBit a.toNat
  ·rfl
  ·rcases this with rfl | rfl | rfl
   ·simp[Z5e,Z2c,hf]
    cases bp (f&&&s)<;>simp[bn]<;>omega
   ·simp[Z5e]
    omega
   ·simp[Z5e,Z2c,hf]
    cases bp (f&&&s)<;>simp[bn]<;>omega
 | iff a c =>
  have ho:0<=a/\0<=c/\a≠c:=o
  have ne:a.toNat≠c.toNat:=by omega
  show ev (k,if f.testBit a.toNat then fl f c.toNat else f,if s.testBit c.toNat then fl s a.toNat else s)=_
  rw[Z5e,Z5e]
  generalize a.toNat=A at *
  generalize c.toNat=C at *
  cases hf:f.testBit A<;>cases hs:s.testBit C<;>simp[Z3l,Z2c,hf,hs,Z1i ne,Z1i (Ne.symm ne)]
 | pair a c =>
  have ho:0<=a/\0<=c/\a≠c:=o
  have ne:a.toNat≠c.toNat:=by omega
  show ev (if f.testBit a.toNat && f.testBit c.toNat then (k+2)%4 else k,f,(if f.testBit c.toNat then fl (if f.testBit a.toNat then fl s c.toNat else s) a.toNat else if f.testBit a.toNat then fl s c.toNat else s))=_
  rw[Z5e,Z5e]
  generalize a.toNat=A at *
  generalize c.toNat=C at *
  cases hf:f.testBit A<;>cases hs:f.testBit C<;>simp[Z2c,hf,hs]
  ·omega
 | swap a c =>
  have ho:0<=a/\0<=c/\a≠c:=o
  have ne:a.toNat≠c.toNat:=by omega
  show ev (k,sw f a.toNat c.toNat,sw s a.toNat c.toNat)=_
  rw[Z5e,Z5e]
  have e:(sw f a.toNat c.toNat&&&sw s a.toNat c.toNat)=sw (f&&&s) a.toNat c.toNat:=by
   apply Z4t
   intro j
   rw[q2g,Z1z _ _ _ _ ne,Z1z _ _ _ _ ne,Z1z _ _ _ _ ne,q2g,q2g,q2g]
   split
   ·rfl
   ·split<;>rfl
  rw[e,W0q]
 | cross a c d=>exact absurd b id
theorem Z4h:∀ {row:List Mv} (m:Mk),(∀ x∈row,Ok x)->(∀ x∈row,Br x)->ev (mvds row m)=ev m
 | [],_,_,_=>rfl
 | x::r,m,o,b=>(Z4h (row:=r) (mvd x m) (λy hy=>o y (.tail _ hy)) (λy hy=>b y (.tail _ hy))).trans (W0c (o x (.head _)) (b x (.head _)) m)
end M75
set_option maxHeartbeats 4000000
namespace K55S
open L2 Ba Am Pc M71
open K75 (top Bs Bd5 ValsK At5 Ams Z6i Steps spRunK)
open M72 (fl sw VOk V4 En sm rowop)
open M75 (Mk mvd mvds Br lay bn bp ev)
theorem rows5k {K:U0}{H:Hp}:∀ {ps:U3}{f:Nat->A5},ValsK K H ps f->Rows5K K H ps ((List.range ps.length).map λi=>l5 (f i))
 | [],f,_=>.nil
 | p::ps,f,v=>by
  have r:=rows5k (ps:=ps) (f:=λi=>f (i+1)) λi q hq=>v (i+1) q (by simpa using hq)
  rw[q1r,List.range_succ_eq_map,q1s,q3v]
  exact .cons (v 0 p rfl) r
theorem Y2y {K:U0}{H:Hp}{l:W9}{ps:U3}{f:Nat->A5}{c n m:Nat}(b:Bd5 K H l ps f c n m):Rows5K K H ps ((List.range (2^c)).map λi=>l5 (f i)):=by
 have:=rows5k b.vals
 rw[b.len] at this
 exact this
theorem W2k (k f s:Nat):ev (k,f,s)=(k+pc (f&&&s))%2:=by
 rw[M75.Z5e]
 have hb:bn (bp (f&&&s))=pc (f&&&s)%2:=by
  unfold bp bn
  rcases q0y (pc (f&&&s)) with a | a<;>rw[a]<;>rfl
 rw[hb]
 omega
section
variable {P:U8}{w:W1}{K:U0}{mg:U4}{base:Heap}{k:Nat}{h:Heap}
theorem sc_whole:FnScope ["_law_found"] ["_law_found"] (Z0h (top 79)):=fS
theorem X0o (F:FunAt K "_law_whole" (top 79) .none)(X:K.In h)(G:Ng h mg)(B:Bs mg):Cal P w K mg base (k+1) "_law_whole" ["_law_found"] Z5i:=by
 have nd:=sc_whole.nd
 refine F.cal X G sc_whole (bnd1 λ_ _ _ _ _ _ _=>rfl) (λvs H Q E h=>?_) (λf cdv A outer s H vs Q E hr h=>?_)
 ·obtain⟨i,rfl,_⟩:=h;rfl
 obtain⟨i,rfl,q⟩:=h
 refine⟨_,(@Z0f _ _ _ (Z0j (Z3v (Z0q Z2g rfl B.isinstance q2v (Z0a (pv 0) (Z0a (Z3s (v:=.ty "int") rfl B.int boot_int rfl) Z0e))) (Z2z (Y6t (Z0q Z2g rfl B.isinstance q2v (Z0a (pv 0) (Z0a (Z3s (v:=.ty "bool") rfl B.bool boot_bool rfl) Z0e)))))))),?_⟩
 try dsimp only[cxK]
 refine⟨_,Z,_,_,_,true,Z,TyOf.int i,X3d K,_,Z,iteT ?_⟩
 exact⟨_,Z,_,_,_,false,Z,TyOf.int i,X3e K,_,Z,q⟩
end
end K55S
namespace L2
section
variable {X:Cx}
theorem Z3c:CallR X (.builtin "isinstance") (λxs H Q=>∃ a vs T b,xs=[.ref a,.ty T]/\SqT X.K H a vs/\PySem.W.kitOne X.K (.type "tuple") (.type T)=some b/\Q (.bl b) H):=by
 intro pins s σ H xs us Q I r h
 obtain⟨a,vs,T,b,rfl,hs,e,q⟩:=h
 obtain⟨u,v,rfl,ru,rv⟩:=r.two
 cases rv
 cases ru
 obtain⟨its,_,⟨o,h1,h2,_⟩,_⟩:=I.tuple hs
 exact q1x q6q I.kIn ⟨o,h1,h2⟩ e (λz=>nomatch z) λtk=>⟨.bl b,H,I.tok tk,Z,q⟩
end
end L2
namespace M77
open M71 Mv M72 M75
noncomputable def bk:Mv->Mv
 | .turn a j=>.turn a (8-j)
 | x=>x
theorem mod4 {k:Nat}(h:k<4):((k+2)%4+2)%4=k:=by omega
theorem X8y {x:Mv}(o:Ok x)(b:Br x){m:Mk}(h:m.1<4):mvd (bk x) (mvd x m)=m:=by
 obtain⟨k,f,s⟩:=m
 have h:k<4:=h
 cases x with
 | flip a =>
  show (if s.testBit a.toNat then ((if s.testBit a.toNat then (k+2)%4 else k)+2)%4 else (if s.testBit a.toNat then (k+2)%4 else k),f,s)=_
  by_cases c:s.testBit a.toNat=true
  ·simp only[c,q7u];rw[mod4 h]
  ·simp only[c,q7e];simp
 | mix a =>
  by_cases c:f.testBit a.toNat=true<;>by_cases d:s.testBit a.toNat=true<;>simp[bk,mvd,c,d,Z2a,M72.Z3j,mod4 h]
 | turn a j =>
  obtain⟨a0,j1,j7⟩:0<=a/\1<=j/\j<=7:=o
  have b:j.toNat%2=0:=b
  have hj:j=2∨j=4∨j=6:=by omega
  by_cases c:f.testBit a.toNat=true
  ·rcases hj with rfl | rfl | rfl<;>simp[bk,mvd,c,M72.Z3j]<;>omega
  ·simp[bk,mvd,c]
 | iff a b' =>
  obtain⟨a0,b0,n⟩:0<=a/\0<=b'/\a≠b':=o
  have n':a.toNat≠b'.toNat:=by omega
  by_cases c:f.testBit a.toNat=true<;>by_cases d:s.testBit b'.toNat=true<;>simp[bk,mvd,c,d,Z1i n',Z1i n'.symm,M72.Z3j]
 | pair a b' =>
  obtain⟨a0,b0,n⟩:0<=a/\0<=b'/\a≠b':=o
  have fc:∀ w,fl (fl w a.toNat) b'.toNat=fl (fl w b'.toNat) a.toNat:=λw=>by
   unfold fl
   rw[q2n,q7v (2^a.toNat),<-q2n]
  by_cases c:f.testBit a.toNat=true<;>by_cases d:f.testBit b'.toNat=true<;>simp[bk,mvd,c,d,M72.Z3j,fc,mod4 h]
 | swap a b' =>
  obtain⟨a0,b0,n⟩:0<=a/\0<=b'/\a≠b':=o
  have n':a.toNat≠b'.toNat:=by omega
  simp[bk,mvd,X0a n']
 | cross a b' d=>exact b.elim
theorem Z1h:∀ (r t:List Mv) (m:Mk),mvds (r++t) m=mvds t (mvds r m)
 | [],_,_=>rfl
 | x::r,t,m=>Z1h r t (mvd x m)
theorem W2p {c:Nat}{x:Mv}(o:VOk c x):VOk c (bk x):=by
 cases x with
 | turn a j =>
  obtain⟨⟨a0,j1,j7⟩,h⟩:=o
  exact⟨⟨a0,by omega,by omega⟩,h⟩
 | _=>exact o
theorem W2q {x:Mv}(o:Ok x)(b:Br x):Br (bk x):=by
 cases x with
 | turn a j =>
  obtain⟨a0,j1,j7⟩:0<=a/\1<=j/\j<=7:=o
  have b:j.toNat%2=0:=b
  show (8-j).toNat%2=0
  omega
 | _=>exact b
noncomputable def pmk:Nat->List Mk
 | 0=>[]
 | c+1=>pmk c++[(0,2^c,0),(0,0,2^c)]
theorem Z1g:∀ c,(pmk c).length=2*c
 | 0=>rfl
 | c+1=>by
  show (pmk c++_).length=_
  rw[q0c,Z1g c]
  rfl
theorem Z2m:∀ {c k:Nat},k<2*c->(pmk c)[k]?=some (if k%2=1 then (0,0,2^(k / 2)) else (0,2^(k / 2),0))
 | c+1,k,h=>by
  show (pmk c++_)[k]?=_
  by_cases hk:k<2*c
  ·rw[q3l (by rw[Z1g];exact hk)]
   exact Z2m hk
  ·rw[q4k (by rw[Z1g];omega),Z1g]
   have:k=2*c∨k=2*c+1:=by omega
   rcases this with rfl | rfl
   ·rw[q7w,if_neg (by omega),show 2*c / 2=c by omega];rfl
   ·rw[show 2*c+1-2*c=1 by omega,if_pos (by omega),show (2*c+1) / 2=c by omega];rfl
end M77
namespace K55S
open L2 Ba Am Pc M71
open K75 (top Bs)
open M72 (VOk)
open M75 (Mk mvd mvds Br)
open M77 (pmk Z1g Z2m bk)
abbrev MksAt (K:U0)(H:Hp)(l:W9)(ps:U3)(ms:List Mk):Prop:=H l=some (.lst (ps.map V.ref))/\Paired (λp m=>SqT K H p (mkL m)) ps ms
def Z8j (K:U0):Sp:=λvs H Q _=>∃ c:Nat,vs=[.int c]/\c<=6/\∀ (l:W9) (H':Hp) (ps:U3),H l=none->Same H H'->MksAt K H' l ps (pmk c)->Q (.ref l) H'
def spImg (K:U0):Sp:=λvs H Q _=>∃ (lr:W9) (row:List Mv) (c:Nat),vs=[.ref lr,.int c]/\RowAt H lr row/\c<=6/\(∀ x∈row,VOk c x)/\(∀ x∈row,Br x)/\row.length<=200/\∀ (l:W9) (H':Hp) (ps:U3),H l=none->Same H H'->MksAt K H' l ps ((pmk c).map (mvds row))->Q (.ref l) H'
noncomputable def dif:List Mk->List Mk->List Mk->Option Mk
 | a::as,b::bs,m::ms=>if a=b then dif as bs ms else some m
 | _,_,_=>none
def OptAt (K:U0)(H:Hp)(v:V):Option Mk->Prop
 | none=>v=.non
 | some m=>∃ p,v=.ref p/\SqT K H p (mkL m)
def Y2o (K:U0):Sp:=λvs H Q _=>∃ (lr lo:W9) (row oth:List Mv) (c:Nat),vs=[.ref lr,.ref lo,.int c]/\RowAt H lr row/\RowAt H lo oth/\c<=6/\(∀ x∈row,VOk c x)/\(∀ x∈row,Br x)/\row.length<=200/\(∀ x∈oth,VOk c x)/\(∀ x∈oth,Br x)/\oth.length<=200 ∧
 ∀ (v:V) (H':Hp),Same H H'->OptAt K H' v (dif ((pmk c).map (mvds row)) ((pmk c).map (mvds oth)) (pmk c))->Q v H'
theorem X2o:∀ {c:Nat}{m:Mk},m∈pmk c->OkK c m
 | c+1,m,h=>by
  have h:m∈pmk c++[(0,2^c,0),(0,0,2^c)]:=h
  have lt:2^c<2^(c+1):=q3m (by decide) (q4q c)
  rcases q0v.mp h with h | h
  ·have:=X2o h
   exact⟨this.k,Nat.lt_trans this.f lt,Nat.lt_trans this.s lt⟩
  ·have p:=q2f (c+1)
   rcases q0p.mp h with rfl | h
   ·exact⟨(show 0<4 by decide),lt,p⟩
   ·rw[q0n.mp h]
    exact⟨(show 0<4 by decide),p,lt⟩
theorem Z6n:∀ {as ms:List Mk},dif as as ms=none
 | [],_=>rfl
 | _::_,[]=>rfl
 | a::as,m::ms=>by
  show (if a=a then dif as as ms else some m)=none
  rw[if_pos rfl]
  exact Z6n
theorem Y8t:∀ {as bs ms:List Mk}{i:Nat}{a b m:Mk},as.take i=bs.take i->as[i]?=some a->bs[i]?=some b->ms[i]?=some m->a≠b->dif as bs ms=some m
 | x::as,y::bs,z::ms,0,a,b,m,_,h1,h2,h3,n=>by
  cases (by simpa using h1:x=a);cases (by simpa using h2:y=b);cases (by simpa using h3:z=m)
  show (if x=y then dif as bs ms else some z)=some z
  rw[if_neg n]
 | x::as,y::bs,z::ms,i+1,a,b,m,t,h1,h2,h3,n=>by
  rw[q4u,q4u] at t
  obtain⟨e,t⟩:=List.cons.inj t
  show (if x=y then dif as bs ms else some z)=some m
  rw[if_pos e]
  exact Y8t t (by simpa using h1) (by simpa using h2) (by simpa using h3) n
theorem ipw (c:Nat):(1:Int)*2^((c:Int).toNat)=((2^c:Nat):Int):=by rw[Int.one_mul,q1h,Int.natCast_pow];rfl
theorem Y7q {a b:Mk}(h:([(a.1:Int),(a.2.1:Int),(a.2.2:Int)]:U6)=[(b.1:Int),(b.2.1:Int),(b.2.2:Int)]):a=b:=by
 obtain⟨a1,a2,a3⟩:=a
 obtain⟨b1,b2,b3⟩:=b
 obtain⟨e1,h⟩:=List.cons.inj h
 obtain⟨e2,h⟩:=List.cons.inj h
 obtain⟨e3,_⟩:=List.cons.inj h
 have e1:(a1:Int)=b1:=e1
 have e2:(a2:Int)=b2:=e2
 have e3:(a3:Int)=b3:=e3
 cases Int.ofNat.inj e1;cases Int.ofNat.inj e2;cases Int.ofNat.inj e3
 rfl
section
variable {P:U8}{w:W1}{K:U0}{mg:U4}{base:Heap}{k:Nat}{h:Heap}
theorem sc_plain:FnScope ["cells","marks","cell"] ["cells"] (Z0h (top 55)):=fS
theorem X0r (F:FunAt K "plain_marks" (top 55) .none)(X:K.In h)(G:Ng h mg)(B:Bs mg):Cal P w K mg base (k+1) "plain_marks" ["cells"] (Z8j K):=by
 have nd:=sc_plain.nd
 refine F.cal X G sc_plain (bnd1 λ_ _ _ _ _ _ _=>rfl) (λvs H Q E h=>?_) (λf cdv A outer s H vs Q E hr h=>?_)
 ·obtain⟨c,rfl,_⟩:=h;rfl
 obtain⟨c,rfl,c6,q⟩:=h
 refine⟨_,(@Z0g _ _ _ _ _ (@Z0o _ _ 1 _ _ _ _ nd rfl (Or.inl rfl) (@Z1s _ _ _ _ Z0e) rfl (.inl rfl))
  (@Z0g _ _ _ _ _ (Z2r PassesOwn.never rfl (Z1k rfl B.range (Z0a (pv 0) Z0e)) (Z0w (i:=2) nd rfl (Or.inl rfl))
   (@Z0f _ _ _ (Z2i (Z6a q1k q2z q2y Z4e (pv 1) (Z0a (@Z1s _ _ _ _ (Z0a (@Z1a _ _ _ _ _ (Z0a Z0b (Z0a (Z0i Z2f Z0b (pv 2)) (Z0a Z0b Z0e)))) (Z0a (@Z1a _ _ _ _ _ (Z0a Z0b (Z0a Z0b (Z0a (Z0i Z2f Z0b (pv 2)) Z0e)))) Z0e))) Z0e)))))
  (@Z0f _ _ _ (Z0j (pv 1))))),?_⟩
 try dsimp only[cxK]
 refine⟨q1e _,λl hl=>?_⟩
 refine⟨_,Z,_,Z,by omega,by omega,?_⟩
 rw[q1h]
 refine Z1y (n:=c) (λj σ H'=>∃ (ps:U3) (v:Option V),Same H H'/\MksAt K H' l ps (pmk j)/\σ=[some (.int c),some (.ref l),v])
  ⟨[],none,Z0c hl _,⟨Z0d,.nil⟩,Z⟩ ?_ ?_
 ·rintro j σ H1 hj ⟨ps,v,S1,⟨h1,P1⟩,rfl⟩
  have e1:[V.int 0,V.int (1*2^((0+(j:Int)).toNat)),V.int 0]=mkL (0,2^j,0):=by rw[q2x,ipw j];rfl
  have e2:[V.int 0,V.int 0,V.int (1*2^((0+(j:Int)).toNat))]=mkL (0,0,2^j):=by rw[q2x,ipw j];rfl
  have pl:=Z2w P1
  rw[Z1g] at pl
  refine⟨_,Z,.inl ⟨Z,_,SqL.of h1⟩,_,Z,_,_,Z,Z,⟨1,sz1,by omega,by omega⟩,t3,λt1 ht1=>?_⟩
  rw[e1]
  have s2:=Z0c ht1 (.tup (mkL (0,2^j,0)))
  have q2:upd H1 t1 (.tup (mkL (0,2^j,0))) t1=some (.tup (mkL (0,2^j,0))):=Z0d
  generalize upd H1 t1 (.tup (mkL (0,2^j,0)))=H2 at s2 q2 ⊢
  refine⟨_,Z,_,_,Z,Z,⟨1,sz1,by omega,by omega⟩,t3,λt2' ht2=>?_⟩
  rw[e2]
  have s3:=Z0c ht2 (.tup (mkL (0,0,2^j)))
  have q3:upd H2 t2' (.tup (mkL (0,0,2^j))) t2'=some (.tup (mkL (0,0,2^j))):=Z0d
  generalize upd H2 t2' (.tup (mkL (0,0,2^j)))=H3 at s3 q3 ⊢
  refine⟨t2,λl2 hl2=>?_⟩
  have s4:=Z0c hl2 (.lst [V.ref t1,V.ref t2'])
  have q4:upd H3 l2 (.lst [V.ref t1,V.ref t2']) l2=some (.lst [V.ref t1,V.ref t2']):=Z0d
  generalize upd H3 l2 (.lst [V.ref t1,V.ref t2'])=H4 at s4 q4 ⊢
  have T4:=(s2.trans s3).trans s4
  have h4:=T4 _ _ h1
  refine⟨l,l2,_,_,Z,Z,h4,q4,?_,?_⟩
  ·rw[q0a,pl]
   exact q0u (show 2*j+2<=100 by omega) (by decide)
  refine⟨ps++[t1,t2'],some (.int (0+j)),Z0v (S1.trans T4) hl,⟨by rw[Z0d,q0b];rfl,?_⟩,Z⟩
  show Paired _ (ps++[t1,t2']) (pmk j++[(0,2^j,0),(0,0,2^j)])
  have:=Z3r (F:=λp m=>SqT K (upd H4 l (.lst (ps.map V.ref++[V.ref t1,V.ref t2']))) p (mkL m)) (Z3r (F:=λp m=>SqT K (upd H4 l (.lst (ps.map V.ref++[V.ref t1,V.ref t2']))) p (mkL m)) (Z4w (λ_ _ e=>Z6p (T4.tup e) h4) P1) (Z6p (SqT.of ((s3.trans s4) _ _ q2)) h4)) (Z6p (SqT.of (s4 _ _ q3)) h4)
  rw[q1u,q1u] at this
  exact this
 ·rintro σ H1 ⟨ps,v,S1,M1,rfl⟩
  exact⟨_,Z,q l H1 ps hl S1 M1⟩
theorem sc_img:FnScope ["row","cells"] ["row","cells"] (Z0h (top 54)):=fS
theorem X8r (F:FunAt K "images" (top 54) .none)(X:K.In h)(G:Ng h mg)(dY:Cal P w K mg base k "moved_rows" ["rows","row"] (Y5u K))(cB:Cal P w K mg base k "plain_marks" ["cells"] (Z8j K)):Cal P w K mg base (k+1) "images" ["row","cells"] (spImg K):=by
 have nd:=sc_img.nd
 refine F.cal X G sc_img (bnd2 λ_ _ _ _ _ _ _ _=>rfl) (λvs H Q E h=>?_) (λf cdv A outer s H vs Q E hr h=>?_)
 ·obtain⟨lr,row,c,rfl,_⟩:=h;rfl
 obtain⟨lr,row,c,rfl,R,c6,ok,br,l200,q⟩:=h
 refine⟨_,(@Z0f _ _ _ (Z0j (Z0k dY hr rfl (Z0a (Z0k cB hr rfl (Z0a (pv 1) Z0e)) (Z0a (pv 0) Z0e))))),?_⟩
 try dsimp only[cxK]
 refine⟨_,Z,c,Z,c6,λl H1 ps nl S1 M1=>?_⟩
 refine⟨_,Z,l,lr,ps,pmk c,row,c,Z,SqL.of M1.1,M1.2,by rw[Z1g];omega,R.same S1,λm hm=>X2o hm,c6,ok,br,l200,λr H2 qs nr S2 h2 P2=>q r H2 qs (Z1r S1 nr) (S1.trans S2) ⟨h2,P2⟩⟩
theorem sc_unl:FnScope ["row","other","cells","by_row","by_other","place","mark"] ["row","other","cells"] (Z0h (top 56)):=fS
theorem X8k (F:FunAt K "unlike" (top 56) .none)(X:K.In h)(G:Ng h mg)(B:Bs mg)(cI:Cal P w K mg base k "images" ["row","cells"] (spImg K))(cB:Cal P w K mg base k "plain_marks" ["cells"] (Z8j K)):Cal P w K mg base (k+1) "unlike" ["row","other","cells"] (Y2o K):=by
 have nd:=sc_unl.nd
 refine F.cal X G sc_unl (bnd3 λ_ _ _ _ _ _ _ _ _=>rfl) (λvs H Q E h=>?_) (λf cdv A outer s H vs Q E hr h=>?_)
 ·obtain⟨lr,lo,row,oth,c,rfl,_⟩:=h;rfl
 obtain⟨lr,lo,row,oth,c,rfl,R,O,c6,ok,br,l200,ok2,br2,l2,q⟩:=h
 refine⟨_,(@Z0g _ _ _ _ _ (@Z0o _ _ 3 _ _ _ _ nd rfl (Or.inl rfl) (Z0k cI hr rfl (Z0a (pv 0) (Z0a (pv 2) Z0e))) rfl (.inl rfl))
  (@Z0g _ _ _ _ _ (@Z0o _ _ 4 _ _ _ _ nd rfl (Or.inl rfl) (Z0k cI hr rfl (Z0a (pv 1) (Z0a (pv 2) Z0e))) rfl (.inl rfl))
  (@Z0g _ _ _ _ _ (Z2r PassesOwn.never rfl (Y1g rfl B.enumerate (Z0a (Z0k cB hr rfl (Z0a (pv 2) Z0e)) Z0e)) (@Y6r _ _ _ _ _ _ rfl (@Z4k _ _ _ _ _ (@Z0w _ _ 5 _ nd rfl (Or.inl rfl) (by first | exact .inl rfl | exact .inr rfl)) (@Z4k _ _ _ _ _ (@Z0w _ _ 6 _ nd rfl (Or.inl rfl) (by first | exact .inl rfl | exact .inr rfl)) Y1h rfl) rfl) rfl rfl)
   (@Z0f _ _ _ (Z0y (Z0n (Y1m hr.units) (Z0m Z0s (pv 3) (pv 5) (λ_ _=>rfl)) (Z0m Z0s (pv 4) (pv 5) (λ_ _=>rfl)) (nomark _))
    (@Z0f _ _ _ (Z0j (pv 6)))
    Z0p)))
  (@Z0f _ _ _ (Z0j Z3a))))),?_⟩
 try dsimp only[cxK]
 refine⟨_,Z,_,Z,lr,row,c,Z,R,c6,ok,br,l200,λla H1 pa na S1 M1=>?_⟩
 refine⟨_,Z,_,Z,lo,oth,c,Z,O.same S1,c6,ok2,br2,l2,λlb H2 pb nb S2 M2=>?_⟩
 refine⟨_,Z,c,Z,c6,λlp H3 pp np S3 M3=>?_⟩
 have S23:=S2.trans S3
 have S13:=S1.trans S23
 have SP:SqL K H3 lp (pp.map V.ref):=SqL.of M3.1
 have la3:=S23 _ _ M1.1
 have lb3:=S3 _ _ M2.1
 have P1:=Z4w (λ_ _ e=>S23.tup e) M1.2
 have P2:=Z4w (λ_ _ e=>S3.tup e) M2.2
 have l1:=Z2w P1
 have l2':=Z2w P2
 have l3:=Z2w M3.2
 rw[q0a,Z1g] at l1 l2'
 rw[Z1g] at l3
 refine⟨lp,_,Z,SP,Y4a (K:=K) (a:=lp) (xs:=pp.map V.ref) (λi σ H'=>Same H3 H'/\((pmk c).map (mvds row)).take i=((pmk c).map (mvds oth)).take i/\∃ (v1 v2:Option V),σ=[some (.ref lr),some (.ref lo),some (.int c),some (.ref la),some (.ref lb),v1,v2])
  ⟨Same.refl _,Z,none,none,Z⟩ (λi σ H' _ e=>e.1.seq SP) ?_ ?_⟩
 ·rintro i x σ H4 T hx ⟨S4,eq,v1,v2,rfl⟩ hT
  rw[q0k] at hx
  obtain⟨p,hp,rfl⟩:=q0x.mp hx
  obtain⟨m,hm,em⟩:=Z4c M3.2 hp
  have il:i<pp.length:=(q0t.mp hp).1
  have ia:pa[i]?=some (pa[i]'(by omega)):=q0d (by omega)
  have ib:pb[i]?=some (pb[i]'(by omega)):=q0d (by omega)
  generalize pa[i]'(by omega)=a at ia
  generalize pb[i]'(by omega)=b at ib
  obtain⟨ma,hma,ea⟩:=Z4c P1 ia
  obtain⟨mb,hmb,eb⟩:=Z4c P2 ib
  have S5:=S4.trans (Z0c hT (.tup [.int i,.ref p]))
  refine⟨T,_,Z,SqT.of Z0d,Z,_,_,Z,_,_,Z,Z,?_⟩
  generalize upd H4 T (.tup [.int i,.ref p])=H5 at S5 ⊢
  refine⟨_,Z,_,Z,la,_,_,.ref a,Z,Z,SqL.of (S5 _ _ la3),Z1e (by rw[q0k,ia];rfl),_,Z,_,Z,lb,_,_,.ref b,Z,Z,SqL.of (S5 _ _ lb3),Z1e (by rw[q0k,ib];rfl),a,b,[(ma.1:Int),(ma.2.1:Int),(ma.2.2:Int)],[(mb.1:Int),(mb.2.1:Int),(mb.2.2:Int)],Z,Z,S5.tup ea,S5.tup eb,_,Z,?_⟩
  by_cases hab:ma=mb
  ·subst hab
   rw[q0j rfl]
   refine iteF ⟨S5,?_,_,_,Z⟩
   rw[q1y,q1y,eq,hma,hmb]
  ·rw[q0e (λz=>hab (Y7q z))]
   refine iteT ⟨_,Z,q _ _ (S13.trans S5) ?_⟩
   rw[Y8t eq hma hmb hm hab]
   exact⟨p,Z,S5.tup em⟩
 ·rintro σ H4 ⟨S4,eq,v1,v2,rfl⟩
  refine q _ _ (S13.trans S4) ?_
  rw[q0a,l3,q1d (by rw[q0a,Z1g];exact q0f _),q1d (by rw[q0a,Z1g];exact q0f _)] at eq
  rw[eq,Z6n]
  exact rfl
end
end K55S
namespace M78
open M71 Mv M72 M75 M77
noncomputable def mts (m:Mk)(e:Nat):List Mv:=if m.2.1.testBit e then (if m.2.2.testBit e then [.turn (e:Int) 2,.mix (e:Int)] else [.mix (e:Int)]) else []
noncomputable def mtf (m:Mk)(e:Nat):List Mv:=if m.2.2.testBit e then (if m.2.1.testBit e then [.turn (e:Int) 2] else [.mix (e:Int)]) else []
noncomputable def low:Nat->Nat->Nat
 | 0,_=>0
 | k+1,w=>if w%2=1 then 0 else low k (w / 2)+1
noncomputable def rg (j n:Nat):List Nat:=(List.range n).map (·+j)
noncomputable def ls1 (m:Mk)(j c:Nat):List Mv:=(rg j (c-j)).flatMap (mts m)
noncomputable def kpt (n:Mk)(j:Nat):Nat:=j+low 6 (n.2.2 >>> j)
noncomputable def s2 (n:Mk)(j c:Nat):List Mv:=((List.range c).filter λe=>decide (e≠kpt n j) && n.2.2.testBit e).map λ(e:Nat)=>Mv.iff (e:Int) (kpt n j:Int)
noncomputable def s3 (n:Mk)(j:Nat):List Mv:=if kpt n j=j then [] else [.swap (j:Int) (kpt n j:Int)]
noncomputable def s4 (n:Mk)(j c:Nat):List Mv:=if (mvds (s2 n j c++s3 n j) n).1=0 then [] else [.flip (j:Int)]
noncomputable def tailS (n:Mk)(j c:Nat):List Mv:=s2 n j c++s3 n j++s4 n j c
noncomputable def layS (m:Mk)(j c:Nat):List Mv:=ls1 m j c++tailS (mvds (ls1 m j c) m) j c
noncomputable def lf1 (m:Mk)(j c:Nat):List Mv:=(rg j (c-j)).flatMap (mtf m)
noncomputable def f2 (n:Mk)(j c:Nat):List Mv:=((List.range c).filter λe=>decide (e≠j) && n.2.1.testBit e).map λ(e:Nat)=>Mv.iff (j:Int) (e:Int)
noncomputable def f3 (n:Mk)(j c:Nat):List Mv:=if (mvds (f2 n j c) n).1=0 then [] else [.turn (j:Int) 4]
noncomputable def tailF (n:Mk)(j c:Nat):List Mv:=f2 n j c++f3 n j c
noncomputable def layF (m:Mk)(j c:Nat):List Mv:=lf1 m j c++tailF (mvds (lf1 m j c) m) j c
noncomputable def okb (j c:Nat):Mv->Bool
 | .flip a=>decide ((j:Int)<=a) && decide (a<(c:Int))
 | .mix a=>decide ((j:Int)<=a) && decide (a<(c:Int))
 | .turn a k=>decide ((j:Int)<=a) && decide (a<(c:Int)) && (decide (k=2) || decide (k=4) || decide (k=6))
 | .iff a b=>decide ((j:Int)<=a) && decide (a<(c:Int)) && decide ((j:Int)<=b) && decide (b<(c:Int)) && decide (a≠b)
 | .swap a b=>decide ((j:Int)<=a) && decide (a<(c:Int)) && decide ((j:Int)<=b) && decide (b<(c:Int)) && decide (a≠b)
 | _=>false
noncomputable def cS (j c q w:Nat):Bool :=
 let m:Mk:=(q*2,0,w <<< j)
 (w == 0) || (mvds (tailS m j c) m == (0,0,2^j) && (tailS m j c).all (okb j c) && decide ((tailS m j c).length<=c-j+1))
noncomputable def cF (j c q w:Nat):Bool :=
 let m:Mk:=(q*2,w <<< j,0)
 (w%2 == 0) || (mvds (tailF m j c) m == (0,2^j,0) && mvds (tailF m j c) (0,0,2^j) == (0,0,2^j) && (tailF m j c).all (okb j c) && decide ((tailF m j c).length<=c-j))
noncomputable def allM (n:Nat)(p:Nat->Nat->Bool):Bool:=(List.range 2).all λq=>(List.range n).all λw=>p q w
theorem W0i:((List.range 7).all λc=>(List.range c).all λj=>allM (2^(c-j)) (cS j c))=true:=by decide +kernel
theorem W0j:((List.range 7).all λc=>(List.range c).all λj=>allM (2^(c-j)) (cF j c))=true:=by decide +kernel
end M78
namespace M79
open M71 Mv M72 M75 M77 M78
noncomputable def cm (m n:Mk):Bool:=bp (m.2.1&&&n.2.2) ^^ bp (m.2.2&&&n.2.1)
theorem W0h {x:Mv}(o:Ok x)(b:Br x)(m n:Mk):cm (mvd x m) (mvd x n)=cm m n:=by
 obtain⟨k,f,s⟩:=m
 obtain⟨l,g,t⟩:=n
 cases x with
 | flip a=>rfl
 | mix a =>
  show (bp ((if f.testBit a.toNat=s.testBit a.toNat then f else fl f a.toNat)&&&(if g.testBit a.toNat=t.testBit a.toNat then t else fl t a.toNat)) ^^ bp ((if f.testBit a.toNat=s.testBit a.toNat then s else fl s a.toNat)&&&(if g.testBit a.toNat=t.testBit a.toNat then g else fl g a.toNat)))=(bp (f&&&t) ^^ bp (s&&&g))
  cases hf:f.testBit a.toNat<;>cases hs:s.testBit a.toNat<;>cases hg:g.testBit a.toNat<;>cases ht:t.testBit a.toNat<;>simp[Z3l,Z2c,Z2a,hf,hs,hg,ht]
 | turn a j =>
  show cm (if f.testBit a.toNat then _ else _) (if g.testBit a.toNat then _ else _)=_
  cases hf:f.testBit a.toNat<;>cases hg:g.testBit a.toNat<;>by_cases hj:j.toNat%4=2<;>simp[cm,hj,Z3l,Z2c,hf,hg]
 | iff a b' =>
  obtain⟨a0,b0,n⟩:0<=a/\0<=b'/\a≠b':=o
  have n':a.toNat≠b'.toNat:=by omega
  show (bp ((if f.testBit a.toNat then fl f b'.toNat else f)&&&(if t.testBit b'.toNat then fl t a.toNat else t)) ^^ bp ((if s.testBit b'.toNat then fl s a.toNat else s)&&&(if g.testBit a.toNat then fl g b'.toNat else g)))=(bp (f&&&t) ^^ bp (s&&&g))
  cases hf:f.testBit a.toNat<;>cases hs:s.testBit b'.toNat<;>cases hg:g.testBit a.toNat<;>cases ht:t.testBit b'.toNat<;>simp[Z3l,Z2c,Z1i n',Z1i n'.symm,hf,hs,hg,ht]
 | pair a b' =>
  show (bp (f&&&(if g.testBit b'.toNat then fl (if g.testBit a.toNat then fl t b'.toNat else t) a.toNat else if g.testBit a.toNat then fl t b'.toNat else t)) ^^ bp ((if f.testBit b'.toNat then fl (if f.testBit a.toNat then fl s b'.toNat else s) a.toNat else if f.testBit a.toNat then fl s b'.toNat else s)&&&g))=(bp (f&&&t) ^^ bp (s&&&g))
  cases hf:f.testBit a.toNat<;>cases hs:f.testBit b'.toNat<;>cases hg:g.testBit a.toNat<;>cases ht:g.testBit b'.toNat<;>simp[Z3l,Z2c,hf,hs,hg,ht]
 | swap a b' =>
  obtain⟨a0,b0,n⟩:0<=a/\0<=b'/\a≠b':=o
  have n':a.toNat≠b'.toNat:=by omega
  show (bp (sw f a.toNat b'.toNat&&&sw t a.toNat b'.toNat) ^^ bp (sw s a.toNat b'.toNat&&&sw g a.toNat b'.toNat))=(bp (f&&&t) ^^ bp (s&&&g))
  have sws:∀ x y:Nat,bp (sw x a.toNat b'.toNat&&&sw y a.toNat b'.toNat)=bp (x&&&y):=λx y=>by
   unfold sw
   cases hf:x.testBit a.toNat<;>cases hs:x.testBit b'.toNat<;>cases hg:y.testBit a.toNat<;>cases ht:y.testBit b'.toNat<;>simp[Z3l,Z2c,Z1i n',Z1i n'.symm,Z2a,hf,hs,hg,ht]
  rw[sws,sws]
 | cross a b' d=>exact b.elim
theorem Z3f:∀ {row:List Mv} (m n:Mk),(∀ x∈row,Ok x)->(∀ x∈row,Br x)->cm (mvds row m) (mvds row n)=cm m n
 | [],_,_,_,_=>rfl
 | x::r,m,n,o,b=>(Z3f (row:=r) (mvd x m) (mvd x n) (λy hy=>o y (.tail _ hy)) (λy hy=>b y (.tail _ hy))).trans (W0h (o x (.head _)) (b x (.head _)) m n)
noncomputable def pl (k:Nat):Mk:=if k%2=1 then (0,0,2^(k / 2)) else (0,2^(k / 2),0)
theorem cm_s (m:Mk)(i:Nat):cm m (0,0,2^i)=m.2.1.testBit i:=by
 unfold cm
 show (bp (m.2.1&&&2^i) ^^ bp (m.2.2&&&0))=_
 rw[q6u,Z8b,q6t,Z2q,Bool.xor_false]
theorem cm_f (m:Mk)(i:Nat):cm m (0,2^i,0)=m.2.2.testBit i:=by
 unfold cm
 show (bp (m.2.1&&&0) ^^ bp (m.2.2&&&2^i))=_
 rw[q6u m.2.2,Z8b,q6t,Z2q,Bool.false_xor]
theorem Y0q (k l:Nat):cm (pl k) (pl l)=decide (k / 2=l / 2/\k≠l):=by
 have tb:∀ i j:Nat,(2^i).testBit j=decide (i=j):=λi j=>by rw[q1v]
 have hk:k%2=0∨k%2=1:=by omega
 have hl:l%2=0∨l%2=1:=by omega
 unfold pl
 rcases hk with a | a<;>rcases hl with b | b<;>simp only[a,b,q7u,q7e,Nat.zero_ne_one]
 ·rw[cm_f]
  show (0:Nat).testBit _=_
  rw[q1n]
  exact(q0e (by omega)).symm
 ·rw[cm_s]
  show (2^(k / 2)).testBit _=_
  rw[tb]
  exact decide_eq_decide.mpr (by omega)
 ·rw[cm_f]
  show (2^(k / 2)).testBit _=_
  rw[tb]
  exact decide_eq_decide.mpr (by omega)
 ·rw[cm_s]
  show (0:Nat).testBit _=_
  rw[q1n]
  exact(q0e (by omega)).symm
theorem Z2p {j c:Nat}{x:Mv}(h:okb j c x=true):VOk c x/\Br x/\∀ a∈x.cells,(j:Int)<=a:=by
 cases x<;>simp only[okb,q0m,q2p,q1a,q3j] at h
 ·exact⟨⟨by show (0:Int)<=_;omega,λy hy=>by simp[Mv.cells] at hy;omega⟩,trivial,λy hy=>by simp[Mv.cells] at hy;omega⟩
 ·exact⟨⟨by show (0:Int)<=_;omega,λy hy=>by simp[Mv.cells] at hy;omega⟩,trivial,λy hy=>by simp[Mv.cells] at hy;omega⟩
 ·rename_i a k
  obtain⟨⟨h1,h2⟩,h3⟩:=h
  refine⟨⟨⟨by omega,by omega,by omega⟩,λy hy=>by simp[Mv.cells] at hy;omega⟩,?_,λy hy=>by simp[Mv.cells] at hy;omega⟩
  show k.toNat%2=0
  omega
 ·exact⟨⟨⟨by omega,by omega,by omega⟩,λy hy=>by simp[Mv.cells] at hy;omega⟩,trivial,λy hy=>by simp[Mv.cells] at hy;omega⟩
 ·exact⟨⟨⟨by omega,by omega,by omega⟩,λy hy=>by simp[Mv.cells] at hy;omega⟩,trivial,λy hy=>by simp[Mv.cells] at hy;omega⟩
theorem X5z {x:Mv}{m:Mk}(h:∀ a∈x.cells,m.2.1.testBit a.toNat=false/\m.2.2.testBit a.toNat=false):mvd x m=m:=by
 obtain⟨k,f,s⟩:=m
 cases x with
 | flip a =>
  have:=h a (by simp[Mv.cells])
  simp[mvd,this.2]
 | mix a =>
  have:=h a (by simp[Mv.cells])
  simp[mvd,this.1,this.2]
 | turn a j =>
  have:=h a (by simp[Mv.cells])
  simp[mvd,this.1]
 | iff a b =>
  have h1:=h a (by simp[Mv.cells])
  have h2:=h b (by simp[Mv.cells])
  simp[mvd,h1.1,h2.2]
 | pair a b =>
  have h1:=h a (by simp[Mv.cells])
  have h2:=h b (by simp[Mv.cells])
  simp[mvd,h1.1,h2.1]
 | swap a b =>
  have h1:=h a (by simp[Mv.cells])
  have h2:=h b (by simp[Mv.cells])
  simp[mvd,sw,h1.1,h1.2,h2.1,h2.2]
 | cross a b d=>rfl
theorem Z6j {j c i:Nat}(hi:i<j){m:Mk}(hm:m=(0,0,2^i)∨m=(0,2^i,0)):∀ {row:List Mv},(∀ x∈row,okb j c x=true)->mvds row m=m
 | [],_=>rfl
 | x::r,h=>by
  have ox:=Z2p (h x (.head _))
  have:mvd x m=m:=X5z λa ha=>by
   have:=ox.2.2 a ha
   have ne:i≠a.toNat:=by omega
   rcases hm with rfl | rfl
   ·exact⟨q1n _,by show (2^i).testBit _=_;rw[q1v];exact q0e ne⟩
   ·exact⟨by show (2^i).testBit _=_;rw[q1v];exact q0e ne,q1n _⟩
  show mvds r (mvd x m)=m
  rw[this]
  exact Z6j hi hm λy hy=>h y (.tail _ hy)
noncomputable def bwd (row:List Mv):List Mv:=row.reverse.map bk
theorem Z9i:∀ {row:List Mv}{m:Mk},(∀ x∈row,Ok x)->(∀ x∈row,Br x)->m.1<4->(∀ x (n:Mk),x∈row->n.1<4->(mvd x n).1<4)->mvds (bwd row) (mvds row m)=m
 | [],_,_,_,_,_=>rfl
 | x::r,m,o,b,h,k=>by
  show mvds ((x::r).reverse.map bk) (mvds r (mvd x m))=m
  rw[q3s,q0b,Z1h]
  rw[show mvds (r.reverse.map bk) (mvds r (mvd x m))=mvd x m from Z9i (λy hy=>o y (.tail _ hy)) (λy hy=>b y (.tail _ hy)) (k x m (.head _) h) λy n hy=>k y n (.tail _ hy)]
  exact X8y (o x (.head _)) (b x (.head _)) h
end M79
namespace M80
open M71 Mv M72 M75 M77 M78 M79
structure Bdm (c:Nat) (m:Mk):Prop where
 k:m.1<4
 f:m.2.1<2^c
 s:m.2.2<2^c
theorem Y3r {x j:Nat}(z:∀ i,i<j->x.testBit i=false):x >>> j <<< j=x:=by
 have h:x%2^j=0:=by
  apply q1t
  intro i
  rw[Nat.testBit_mod_two_pow,q1n]
  by_cases hi:i<j
  ·rw[z i hi,q6y]
  ·rw[q0e hi,q3z]
 rw[q3k,Nat.shiftLeft_eq]
 have:=Nat.div_add_mod x (2^j)
 rw[h,q5q,Nat.mul_comm] at this
 exact this
theorem X7s {x j c:Nat}(h:x<2^c)(jc:j<=c):x >>> j<2^(c-j):=by
 rw[q3k]
 refine Nat.div_lt_of_lt_mul ?_
 rw[<-Nat.pow_add,show j+(c-j)=c by omega]
 exact h
theorem Y9k {n:Nat}{p:Nat->Nat->Bool}(h:allM n p=true){q w:Nat}(hq:q<2)(hw:w<n):p q w=true:=by
 unfold allM at h
 rw[q1c] at h
 have h1:=h q (q0s.mpr hq)
 rw[q1c] at h1
 exact h1 w (q0s.mpr hw)
def Sm (i:Nat)(m n:Mk):Prop:=m.2.1.testBit i=n.2.1.testBit i/\m.2.2.testBit i=n.2.2.testBit i
theorem X9b {m n:Mk}{e:Nat}(h:Sm e n m):(mvds (mts m e) n).2.1.testBit e=false/\(mvds (mts m e) n).2.2.testBit e=(m.2.1.testBit e || m.2.2.testBit e)/\∀ i,i≠e->Sm i (mvds (mts m e) n) n:=by
 obtain⟨k,f,s⟩:=n
 obtain⟨h1,h2⟩:f.testBit e=m.2.1.testBit e/\s.testBit e=m.2.2.testBit e:=h
 unfold mts
 cases hf:m.2.1.testBit e<;>cases hs:m.2.2.testBit e<;>rw[hf] at h1<;>rw[hs] at h2
 ·exact⟨h1,by show s.testBit e=_;rw[h2];rfl,λi hi=>⟨Z,Z⟩⟩
 ·exact⟨h1,by show s.testBit e=_;rw[h2];rfl,λi hi=>⟨Z,Z⟩⟩
 ·simp[mvds,mvd,h1,h2,Z2a,Sm]
  intro i hi
  rw[Z1i hi,Z1i hi]
  exact⟨Z,Z⟩
 ·simp[mvds,mvd,h1,h2,Z2a,Sm,M72.Z3j]
  intro i hi
  rw[Z1i hi]
theorem X9d {m n:Mk}{e:Nat}(h:Sm e n m):(mvds (mtf m e) n).2.2.testBit e=false/\(mvds (mtf m e) n).2.1.testBit e=(m.2.1.testBit e || m.2.2.testBit e)/\∀ i,i≠e->Sm i (mvds (mtf m e) n) n:=by
 obtain⟨k,f,s⟩:=n
 obtain⟨h1,h2⟩:f.testBit e=m.2.1.testBit e/\s.testBit e=m.2.2.testBit e:=h
 unfold mtf
 cases hf:m.2.1.testBit e<;>cases hs:m.2.2.testBit e<;>rw[hf] at h1<;>rw[hs] at h2
 ·exact⟨h2,by show f.testBit e=_;rw[h1];rfl,λi hi=>⟨Z,Z⟩⟩
 ·simp[mvds,mvd,h1,h2,Z2a,Sm]
  intro i hi
  rw[Z1i hi,Z1i hi]
  exact⟨Z,Z⟩
 ·exact⟨h2,by show f.testBit e=_;rw[h1];rfl,λi hi=>⟨Z,Z⟩⟩
 ·simp[mvds,mvd,h1,h2,Z2a,Sm]
  intro i hi
  rw[Z1i hi]
theorem Y1s {m:Mk}:∀ {es:W3}{n:Mk},es.Nodup->(∀ e∈es,Sm e n m)->(∀ e∈es,(mvds (es.flatMap (mts m)) n).2.1.testBit e=false/\(mvds (es.flatMap (mts m)) n).2.2.testBit e=(m.2.1.testBit e || m.2.2.testBit e))/\∀ i,i ∉ es->Sm i (mvds (es.flatMap (mts m)) n) n
 | [],n,_,_=>⟨(λe he=>by cases he),λi _=>⟨rfl,rfl⟩⟩
 | x::es,n,nd,h=>by
  obtain⟨nx,nd⟩:=q3e.mp nd
  obtain⟨a1,a2,a3⟩:=X9b (h x (.head _))
  have ih:=Y1s (m:=m) (es:=es) (n:=mvds (mts m x) n) nd λe he=>by
   have ne:e≠x:=λz=>nx (z ▸ he)
   exact⟨(a3 e ne).1.trans (h e (.tail _ he)).1,(a3 e ne).2.trans (h e (.tail _ he)).2⟩
  rw[q3t,Z1h]
  refine⟨λe he=>?_,λi hi=>?_⟩
  ·rcases q0p.mp he with rfl | he
   ·have:=ih.2 e nx
    exact⟨this.1.trans a1,this.2.trans a2⟩
   ·exact ih.1 e he
  ·have h1:=ih.2 i λz=>hi (.tail _ z)
   have h2:=a3 i λz=>hi (z ▸ .head _)
   exact⟨h1.1.trans h2.1,h1.2.trans h2.2⟩
theorem Y7p {m:Mk}:∀ {es:W3}{n:Mk},es.Nodup->(∀ e∈es,Sm e n m)->(∀ e∈es,(mvds (es.flatMap (mtf m)) n).2.2.testBit e=false/\(mvds (es.flatMap (mtf m)) n).2.1.testBit e=(m.2.1.testBit e || m.2.2.testBit e))/\∀ i,i ∉ es->Sm i (mvds (es.flatMap (mtf m)) n) n
 | [],n,_,_=>⟨(λe he=>by cases he),λi _=>⟨rfl,rfl⟩⟩
 | x::es,n,nd,h=>by
  obtain⟨nx,nd⟩:=q3e.mp nd
  obtain⟨a1,a2,a3⟩:=X9d (h x (.head _))
  have ih:=Y7p (m:=m) (es:=es) (n:=mvds (mtf m x) n) nd λe he=>by
   have ne:e≠x:=λz=>nx (z ▸ he)
   exact⟨(a3 e ne).1.trans (h e (.tail _ he)).1,(a3 e ne).2.trans (h e (.tail _ he)).2⟩
  rw[q3t,Z1h]
  refine⟨λe he=>?_,λi hi=>?_⟩
  ·rcases q0p.mp he with rfl | he
   ·have:=ih.2 e nx
    exact⟨this.2.trans a1,this.1.trans a2⟩
   ·exact ih.1 e he
  ·have h1:=ih.2 i λz=>hi (.tail _ z)
   have h2:=a3 i λz=>hi (z ▸ .head _)
   exact⟨h1.1.trans h2.1,h1.2.trans h2.2⟩
theorem rg_mem {j n e:Nat}:e∈rg j n ↔ j<=e/\e<j+n:=by
 unfold rg
 rw[q2e]
 constructor
 ·rintro ⟨a,ha,rfl⟩
  have:=q0s.mp ha
  omega
 ·rintro ⟨h1,h2⟩
  exact⟨e-j,q0s.mpr (by omega),by omega⟩
theorem X4h (j n:Nat):(rg j n).Nodup:=by
 unfold rg
 exact List.Pairwise.map _ (λa b h=>by omega) List.nodup_range
theorem Y0m {f:Nat->List Mv}{k:Nat}(h:∀ e,(f e).length<=k):∀ es:List Nat,(es.flatMap f).length<=k*es.length
 | []=>q1e _
 | x::es=>by
  have:=Y0m h es
  have:=h x
  rw[q3t,q0c,q1r,Nat.mul_add]
  omega
theorem W0a {f:Nat->List Mv}{j c:Nat}{es:W3}(h:∀ e,j<=e->e<c->∀ x∈f e,okb j c x=true)(he:∀ e∈es,j<=e/\e<c):∀ x∈es.flatMap f,okb j c x=true:=λx hx=>by
 obtain⟨e,h1,h2⟩:=List.mem_flatMap.mp hx
 exact h e (he e h1).1 (he e h1).2 x h2
theorem X9a {m:Mk}{j c e:Nat}(h1:j<=e)(h2:e<c):∀ x∈mts m e,okb j c x=true:=λx hx=>by
 unfold mts at hx
 have a:decide ((j:Int)<=(e:Int))=true:=q0j (by omega)
 have b:decide ((e:Int)<(c:Int))=true:=q0j (by omega)
 split at hx
 ·split at hx
  ·rcases q0p.mp hx with rfl | hx
   ·simp[okb,a,b];omega
   ·rw[q0n.mp hx];simp[okb];omega
  ·rw[q0n.mp hx];simp[okb];omega
 ·cases hx
theorem X9c {m:Mk}{j c e:Nat}(h1:j<=e)(h2:e<c):∀ x∈mtf m e,okb j c x=true:=λx hx=>by
 unfold mtf at hx
 split at hx
 ·split at hx
  ·rw[q0n.mp hx];simp[okb];omega
  ·rw[q0n.mp hx];simp[okb];omega
 ·cases hx
theorem Y1r (m:Mk)(e:Nat):(mts m e).length<=2:=by
 unfold mts
 split
 ·split<;>simp
 ·exact q1e _
theorem Y1t (m:Mk)(e:Nat):(mtf m e).length<=1:=by
 unfold mtf
 split
 ·split<;>simp
 ·exact q1e _
theorem Z9g {c:Nat}(hb:∀ (x:Mv) (m:Mk),VOk c x->Bdm c m->Bdm c (mvd x m)):∀ {row:List Mv}{m:Mk},(∀ x∈row,VOk c x)->Bdm c m->Bdm c (mvds row m)
 | [],_,_,h=>h
 | x::r,m,o,h=>Z9g hb (row:=r) (λy hy=>o y (.tail _ hy)) (hb x m (o x (.head _)) h)
section
variable {c j:Nat}{m:Mk} (c6:c<=6) (jc:j<c) (hb:∀ (x:Mv) (m:Mk),VOk c x->Bdm c m->Bdm c (mvd x m)) (b:Bdm c m) (e:ev m=0) (z:∀ i,i<j->m.2.1.testBit i=false/\m.2.2.testBit i=false)
include c6 jc hb b e z
theorem big {x i:Nat}(h:x<2^c)(hi:c<=i):x.testBit i=false:=q3g (q0l h (q1z (by decide) hi))
theorem Y1x (nz:¬ (m.2.1=0/\m.2.2=0)):mvds (layS m j c) m=(0,0,2^j)/\(∀ x∈layS m j c,okb j c x=true)/\(layS m j c).length<=3*(c-j)+1:=by
 have o1:∀ x∈ls1 m j c,okb j c x=true:=W0a (λe h1 h2=>X9a h1 h2) λe he=>by have:=rg_mem.mp he;omega
 have A:=Y1s (m:=m) (n:=m) (X4h j (c-j)) λe _=>⟨Z,Z⟩
 have bn:=Z9g hb (λx hx=>(Z2p (o1 x hx)).1) b
 have en:ev (mvds (ls1 m j c) m)=0:=(Z4h m (λx hx=>(Z2p (o1 x hx)).1.1) λx hx=>(Z2p (o1 x hx)).2.1).trans e
 have out:∀ i,i<j∨c<=i->(mvds (ls1 m j c) m).2.1.testBit i=false/\(mvds (ls1 m j c) m).2.2.testBit i=false:=λi hi=>by
  have:=A.2 i λq=>by have:=rg_mem.mp q;omega
  have zz:m.2.1.testBit i=false/\m.2.2.testBit i=false:=hi.elim (z i) λh=>⟨big c6 jc hb b e z b.f h,big c6 jc hb b e z b.s h⟩
  exact⟨this.1.trans zz.1,this.2.trans zz.2⟩
 have ins:∀ i,j<=i->i<c->(mvds (ls1 m j c) m).2.1.testBit i=false/\(mvds (ls1 m j c) m).2.2.testBit i=(m.2.1.testBit i || m.2.2.testBit i):=λi h1 h2=>A.1 i (rg_mem.mpr (by omega))
 have ex:∃ i,(mvds (ls1 m j c) m).2.2.testBit i=true:=by
  have:∃ i,m.2.1.testBit i=true∨m.2.2.testBit i=true:=by
   refine Classical.byContradiction λh=>nz ⟨?_,?_⟩
   ·apply q1t
    intro i
    rw[q1n]
    exact Bool.eq_false_iff.mpr λq=>h ⟨i,.inl q⟩
   ·apply q1t
    intro i
    rw[q1n]
    exact Bool.eq_false_iff.mpr λq=>h ⟨i,.inr q⟩
  obtain⟨i,hi⟩:=this
  have h1:j<=i:=q5v λh=>by rcases hi with q | q;rw[(z i h).1] at q;cases q;rw[(z i h).2] at q;cases q
  have h2:i<c:=q3y λh=>by rcases hi with q | q;rw[big c6 jc hb b e z b.f h] at q;cases q;rw[big c6 jc hb b e z b.s h] at q;cases q
  refine⟨i,?_⟩
  rw[(ins i h1 h2).2]
  rcases hi with q | q<;>rw[q]<;>simp
 unfold layS
 rw[Z1h]
 have ll:(ls1 m j c).length<=2*(c-j):=by
  have:=Y0m (Y1r m) (rg j (c-j))
  have r:(rg j (c-j)).length=c-j:=by unfold rg;rw[q0a,q5j]
  rw[r] at this
  exact this
 generalize mvds (ls1 m j c) m=n at bn en out ins ex
 obtain⟨k,f,s⟩:=n
 have f0:f=0:=by
  apply q1t
  intro i
  rw[q1n]
  by_cases h:j<=i/\i<c
  ·exact(ins i h.1 h.2).1
  ·exact(out i (by omega)).1
 subst f0
 have k2:k%2=0:=by
  have en:(k+M75.bn (bp (0&&&s)))%2=0:=en
  rw[q3u,Z2q] at en
  exact en
 have k4:k<4:=bn.k
 have hs:s >>> j <<< j=s:=Y3r λi hi=>(out i (.inl hi)).2
 have h:=W0i
 rw[q1c] at h
 have h:=h c (q0s.mpr (by omega))
 rw[q1c] at h
 have h:=Y9k (h j (q0s.mpr jc)) (q:=k / 2) (w:=s >>> j) (by omega) (X7s bn.s (by omega))
 unfold cS at h
 dsimp only at h
 rw[hs,show k / 2*2=k by omega] at h
 rcases q2p _ _ ▸ h with h | h
 ·rw[q5h] at h
  obtain⟨i,hi⟩:=ex
  have hi:s.testBit i=true:=hi
  rw[<-hs,h,Nat.zero_shiftLeft,q1n] at hi
  cases hi
 ·rw[q0m,q0m,q5h,q1a,q1c] at h
  exact⟨h.1.1,λx hx=>(q0v.mp hx).elim (o1 x) (h.1.2 x),by rw[q0c];omega⟩
theorem X9f (nz:¬ (m.2.1=0/\m.2.2=0)):(mvds (ls1 m j c) m).2.2 >>> j≠0:=by
 have A:=Y1s (m:=m) (n:=m) (X4h j (c-j)) λe _=>⟨Z,Z⟩
 have ins:∀ i,j<=i->i<c->(mvds (ls1 m j c) m).2.2.testBit i=(m.2.1.testBit i || m.2.2.testBit i):=λi h1 h2=>(A.1 i (rg_mem.mpr (by omega))).2
 intro h0
 refine nz ⟨?_,?_⟩<;>apply q1t<;>intro i<;>rw[q1n]
 all_goals
  by_cases h1:i<j
  ·first | exact(z i h1).1 | exact(z i h1).2
  ·by_cases h2:c<=i
   ·first | exact big c6 jc hb b e z b.f h2 | exact big c6 jc hb b e z b.s h2
   ·have h3:=ins i (by omega) (by omega)
    have h4:((mvds (ls1 m j c) m).2.2 >>> j).testBit (i-j)=(mvds (ls1 m j c) m).2.2.testBit i:=by rw[q7q,show j+(i-j)=i by omega]
    rw[h0,q1n] at h4
    rw[<-h4] at h3
    have h5:=Bool.or_eq_false_iff.mp h3.symm
    first | exact h5.1 | exact h5.2
theorem Y1y (nz:m.2.1.testBit j=true):mvds (layF m j c) m=(0,2^j,0)/\mvds (layF m j c) (0,0,2^j)=(0,0,2^j)/\(∀ x∈layF m j c,okb j c x=true)/\(layF m j c).length<=2*(c-j):=by
 have o1:∀ x∈lf1 m j c,okb j c x=true:=W0a (λe h1 h2=>X9c h1 h2) λe he=>by have:=rg_mem.mp he;omega
 have A:=Y7p (m:=m) (n:=m) (X4h j (c-j)) λe _=>⟨Z,Z⟩
 have bn:=Z9g hb (λx hx=>(Z2p (o1 x hx)).1) b
 have en:ev (mvds (lf1 m j c) m)=0:=(Z4h m (λx hx=>(Z2p (o1 x hx)).1.1) λx hx=>(Z2p (o1 x hx)).2.1).trans e
 have out:∀ i,i<j∨c<=i->(mvds (lf1 m j c) m).2.1.testBit i=false/\(mvds (lf1 m j c) m).2.2.testBit i=false:=λi hi=>by
  have:=A.2 i λq=>by have:=rg_mem.mp q;omega
  have zz:m.2.1.testBit i=false/\m.2.2.testBit i=false:=hi.elim (z i) λh=>⟨big c6 jc hb b e z b.f h,big c6 jc hb b e z b.s h⟩
  exact⟨this.1.trans zz.1,this.2.trans zz.2⟩
 have ins:∀ i,j<=i->i<c->(mvds (lf1 m j c) m).2.2.testBit i=false/\(mvds (lf1 m j c) m).2.1.testBit i=(m.2.1.testBit i || m.2.2.testBit i):=λi h1 h2=>A.1 i (rg_mem.mpr (by omega))
 have fixed:mvds (lf1 m j c) (0,0,2^j)=(0,0,2^j):=by
  have one:∀ e,mvds (mtf m e) (0,0,2^j)=(0,0,2^j):=λe=>by
   have tb:∀ i,(2^j).testBit i=decide (j=i):=λi=>q1v
   unfold mtf
   by_cases he:e=j
   ·subst he
    rw[nz]
    split
    ·simp[mvds,mvd,q1n]
    ·rfl
   ·split
    ·split
     ·simp[mvds,mvd,q1n]
     ·simp[mvds,mvd,q1n,tb,Ne.symm he]
    ·rfl
  have:∀ es:List Nat,mvds (es.flatMap (mtf m)) (0,0,2^j)=(0,0,2^j):=λes=>by
   induction es with
   | nil=>rfl
   | cons x es ih=>rw[q3t,Z1h,one,ih]
  exact this _
 unfold layF
 rw[Z1h,Z1h,fixed]
 have ll:(lf1 m j c).length<=c-j:=by
  have:=Y0m (Y1t m) (rg j (c-j))
  have r:(rg j (c-j)).length=c-j:=by unfold rg;rw[q0a,q5j]
  rw[r,Nat.one_mul] at this
  exact this
 generalize mvds (lf1 m j c) m=n at bn en out ins
 obtain⟨k,f,s⟩:=n
 have s0:s=0:=by
  apply q1t
  intro i
  rw[q1n]
  by_cases h:j<=i/\i<c
  ·exact(ins i h.1 h.2).1
  ·exact(out i (by omega)).2
 subst s0
 have k2:k%2=0:=by
  have en:(k+M75.bn (bp (f&&&0)))%2=0:=en
  rw[q6t,Z2q] at en
  exact en
 have k4:k<4:=bn.k
 have hs:f >>> j <<< j=f:=Y3r λi hi=>(out i (.inl hi)).1
 have fj:f.testBit j=true:=by
  have:=(ins j (q0f _) jc).2
  have this:f.testBit j=_:=this
  rw[this,nz,Bool.true_or]
 have h:=W0j
 rw[q1c] at h
 have h:=h c (q0s.mpr (by omega))
 rw[q1c] at h
 have h:=Y9k (h j (q0s.mpr jc)) (q:=k / 2) (w:=f >>> j) (by omega) (X7s bn.f (by omega))
 unfold cF at h
 dsimp only at h
 rw[hs,show k / 2*2=k by omega] at h
 rcases q2p _ _ ▸ h with h | h
 ·rw[q5h] at h
  have:(f >>> j).testBit 0=true:=by rw[q7q];exact fj
  rw[Nat.testBit_zero,h] at this
  exact absurd this (by decide)
 ·rw[q0m,q0m,q0m,q5h,q5h,q1a,q1c] at h
  exact⟨h.1.1.1,h.1.1.2,λx hx=>(q0v.mp hx).elim (o1 x) (h.1.2 x),by rw[q0c];omega⟩
end
noncomputable def rb (ms:Nat->Mk)(c:Nat):Nat->List Mv
 | 0=>[]
 | j+1 =>
  let r:=rb ms c j
  let r1:=r++layS (mvds r (ms (2*j+1))) j c
  r1++layF (mvds r1 (ms (2*j))) j c
structure Img (ms:Nat->Mk) (c:Nat):Prop where
 bd:∀ k,k<2*c->Bdm c (ms k)
 ev:∀ k,k<2*c->ev (ms k)=0
 cm:∀ k l,k<2*c->l<2*c->M79.cm (ms k) (ms l)=M79.cm (pl k) (pl l)
theorem Y6n {ms:Nat->Mk}{c:Nat}(c6:c<=6)(hb:∀ (x:Mv) (m:Mk),VOk c x->Bdm c m->Bdm c (mvd x m))(I:Img ms c):∀ j,j<=c->(∀ x∈rb ms c j,okb 0 c x=true)/\(rb ms c j).length<=j*(5*c+1)/\∀ i,i<2*j->mvds (rb ms c j) (ms i)=pl i
 | 0,_=>⟨(λx hx=>by cases hx),q1e _,λi hi=>absurd hi (by omega)⟩
 | j+1,hj=>by
  obtain⟨ok,ln,fx⟩:=Y6n c6 hb I j (by omega)
  have hbs:∀ {row:List Mv}{m:Mk},(∀ x∈row,okb 0 c x=true)->Bdm c m->Bdm c (mvds row m):=λ{row}=>by
   induction row with
   | nil=>exact λ_ h=>h
   | cons x r ih=>exact λo h=>ih (λy hy=>o y (.tail _ hy)) (hb x _ (Z2p (o x (.head _))).1 h)
  have up:∀ {x:Mv},okb j c x=true->okb 0 c x=true:=λ{x} h=>by
   cases x<;>simp only[okb,q0m,q2p,q1a,q3j] at h ⊢<;>omega
  have oks:∀ {row:List Mv},(∀ x∈row,okb 0 c x=true)->(∀ x∈row,Ok x)/\∀ x∈row,Br x:=λh=>⟨λx hx=>(Z2p (h x hx)).1.1,λx hx=>(Z2p (h x hx)).2.1⟩
  have zb:∀ {row:List Mv},(∀ x∈row,okb 0 c x=true)->(∀ i,i<2*j->mvds row (ms i)=pl i)->∀ k,2*j<=k->k<2*c->∀ i,i<j->(mvds row (ms k)).2.1.testBit i=false/\(mvds row (ms k)).2.2.testBit i=false:=λ{row} o f k hk kc i hi=>by
   obtain⟨o1,o2⟩:=oks o
   constructor
   ·have h:=Z3f (row:=row) (ms k) (ms (2*i+1)) o1 o2
    rw[f (2*i+1) (by omega),I.cm k (2*i+1) kc (by omega),Y0q] at h
    have e:pl (2*i+1)=(0,0,2^i):=by unfold pl;rw[if_pos (by omega),show (2*i+1) / 2=i by omega]
    rw[e,cm_s] at h
    rw[h]
    exact q0e (by omega)
   ·have h:=Z3f (row:=row) (ms k) (ms (2*i)) o1 o2
    rw[f (2*i) (by omega),I.cm k (2*i) kc (by omega),Y0q] at h
    have e:pl (2*i)=(0,2^i,0):=by unfold pl;rw[if_neg (by omega),show 2*i / 2=i by omega]
    rw[e,cm_f] at h
    rw[h]
    exact q0e (by omega)
  obtain⟨o1,o2⟩:=oks ok
  have b1:Bdm c (mvds (rb ms c j) (ms (2*j+1))):=hbs ok (I.bd _ (by omega))
  have e1:ev (mvds (rb ms c j) (ms (2*j+1)))=0:=(Z4h _ o1 o2).trans (I.ev _ (by omega))
  have z1:=zb ok fx (2*j+1) (by omega) (by omega)
  have n1:¬ ((mvds (rb ms c j) (ms (2*j+1))).2.1=0/\(mvds (rb ms c j) (ms (2*j+1))).2.2=0):=by
   rintro ⟨a,b⟩
   have h:=Z3f (row:=rb ms c j) (ms (2*j+1)) (ms (2*j)) o1 o2
   rw[I.cm _ _ (by omega) (by omega),Y0q,q0j (by omega)] at h
   unfold M79.cm at h
   rw[a,b,q3u,q3u,Z2q] at h
   exact absurd h (by decide)
  obtain⟨s1,s2,s3⟩:=Y1x c6 (by omega) hb b1 e1 z1 n1
  have okr1:∀ x∈rb ms c j++layS (mvds (rb ms c j) (ms (2*j+1))) j c,okb 0 c x=true:=λx hx=>(q0v.mp hx).elim (ok x) λh=>up (s2 x h)
  have fx1:∀ i,i<2*j->mvds (rb ms c j++layS (mvds (rb ms c j) (ms (2*j+1))) j c) (ms i)=pl i:=λi hi=>by
   rw[Z1h,fx i hi]
   refine Z6j (j:=j) (c:=c) (i:=i / 2) (by omega) ?_ s2
   unfold pl
   split
   ·exact .inl rfl
   ·exact .inr rfl
  have at1:mvds (rb ms c j++layS (mvds (rb ms c j) (ms (2*j+1))) j c) (ms (2*j+1))=(0,0,2^j):=by rw[Z1h];exact s1
  obtain⟨p1,p2⟩:=oks okr1
  generalize hr1:rb ms c j++layS (mvds (rb ms c j) (ms (2*j+1))) j c=r1 at okr1 fx1 at1 p1 p2
  have b2:Bdm c (mvds r1 (ms (2*j))):=hbs okr1 (I.bd _ (by omega))
  have e2:ev (mvds r1 (ms (2*j)))=0:=(Z4h _ p1 p2).trans (I.ev _ (by omega))
  have z2:=zb okr1 fx1 (2*j) (by omega) (by omega)
  have n2:(mvds r1 (ms (2*j))).2.1.testBit j=true:=by
   have h:=Z3f (row:=r1) (ms (2*j)) (ms (2*j+1)) p1 p2
   rw[I.cm _ _ (by omega) (by omega),Y0q,q0j (by omega),at1,cm_s] at h
   exact h
  obtain⟨f1,f2,f3,f4⟩:=Y1y c6 (by omega) hb b2 e2 z2 n2
  have er:rb ms c (j+1)=r1++layF (mvds r1 (ms (2*j))) j c:=by rw[<-hr1];rfl
  rw[er]
  refine⟨λx hx=>(q0v.mp hx).elim (okr1 x) λh=>up (f3 x h),?_,λi hi=>?_⟩
  ·rw[q0c,<-hr1,q0c]
   have:(j+1)*(5*c+1)=j*(5*c+1)+(5*c+1):=Nat.succ_mul _ _
   rw[hr1]
   omega
  ·rw[Z1h]
   by_cases h1:i<2*j
   ·rw[fx1 i h1]
    refine Z6j (j:=j) (c:=c) (i:=i / 2) (by omega) ?_ f3
    unfold pl
    split
    ·exact .inl rfl
    ·exact .inr rfl
   ·have:i=2*j∨i=2*j+1:=by omega
    rcases this with rfl | rfl
    ·rw[f1]
     unfold pl
     rw[if_neg (by omega),show 2*j / 2=j by omega]
    ·rw[at1,f2]
     unfold pl
     rw[if_pos (by omega),show (2*j+1) / 2=j by omega]
end M80
namespace K55S
open L2 Ba Am Pc M71
open K75 (top Bs)
open M72 (VOk)
open M75 (Mk mvd mvds Br bn bp ev)
open M77 (pmk Z1g Z2m bk)
open M79 (cm)
theorem X2c:((List.range 7).all λc=>(List.range (2^c)).all λx=>decide (Builtin.Int.intBits ((x:Nat):Int)<=c))=true:=by decide +kernel
theorem X6v {c x:Nat}(h:c<=6)(hx:x<2^c):Builtin.Int.intBits ((x:Nat):Int)<=c:=by
 have a:=q1c.mp X2c c (q0s.mpr (by omega))
 exact q1p (q1c.mp a x (q0s.mpr hx))
def spWord:Sp:=λvs H Q _=>∃ x c:Nat,vs=[.int x,.int c]/\c<=6/\x<2^c/\Q (.bl true) H
def spMkK (K:U0):Sp:=λvs H Q _=>∃ (p:W9) (m:Mk) (c:Nat),vs=[.ref p,.int c]/\SqT K H p (mkL m)/\OkK c m/\c<=6/\Q (.bl true) H
def spEvK (K:U0):Sp:=λvs H Q _=>∃ (p:W9) (m:Mk),vs=[.ref p]/\SqT K H p (mkL m)/\Q (.bl (decide (ev m=0))) H
def spEvMK (K:U0):Sp:=λvs H Q _=>∃ (p:W9) (m:Mk) (c:Nat),vs=[.ref p,.int c]/\SqT K H p (mkL m)/\OkK c m/\c<=6/\Q (.bl (decide (ev m=0))) H
def spCm (K:U0):Sp:=λvs H Q _=>∃ (p q:W9) (m n:Mk),vs=[.ref p,.ref q]/\SqT K H p (mkL m)/\SqT K H q (mkL n)/\Q (.bl (!cm m n)) H
noncomputable def lt4 (f s:Bool):Str:=if f then (if s then "b" else "f") else (if s then "s" else ".")
def spSgn (K:U0):Sp:=λvs H Q _=>∃ (p:W9) (m:Mk) (i:Nat),vs=[.ref p,.int i]/\SqT K H p (mkL m)/\Q (.str (lt4 (m.2.1.testBit i) (m.2.2.testBit i))) H
def spLst:Sp:=λvs H Q _=>∃ w:Nat,vs=[.int w]/\w<64/\w≠0/\Q (.int (M78.low 6 w)) H
def spBk:Sp:=λvs H Q _=>∃ (p:W9) (x:Mv),vs=[.ref p]/\H p=some (mT (mm x))/\∀ (t:W9) (H':Hp),Same H H'->H' t=some (mT (mm (bk x)))->Q (.ref t) H'
def spBwd:Sp:=λvs H Q _=>∃ (l:W9) (row:List Mv),vs=[.ref l]/\RowAt H l row/\row.length<=300/\∀ (r:W9) (H':Hp),H r=none->Same H H'->RowAt H' r (M79.bwd row)->Q (.ref r) H'
def spMts:Sp:=λvs H Q _=>∃ (f s:Bool) (e:Nat) (m:Mk),vs=[.str (lt4 f s),.int e]/\m.2.1.testBit e=f/\m.2.2.testBit e=s/\∀ (r:W9) (H':Hp),H r=none->Same H H'->RowAt H' r (M78.mts m e)->Q (.ref r) H'
def spMtf:Sp:=λvs H Q _=>∃ (f s:Bool) (e:Nat) (m:Mk),vs=[.str (lt4 f s),.int e]/\m.2.1.testBit e=f/\m.2.2.testBit e=s/\∀ (r:W9) (H':Hp),H r=none->Same H H'->RowAt H' r (M78.mtf m e)->Q (.ref r) H'
theorem X6e:((List.range 64).all λw=>decide (w=0) || decide (Builtin.Int.intBits (Builtin.bitAnd (w:Int) (-(w:Int)))=M78.low 6 w+1))=true:=by decide +kernel
theorem Y3s {w:Nat}(h:w<64)(h0:w≠0):Builtin.Int.intBits (Builtin.bitAnd (w:Int) (-(w:Int)))=M78.low 6 w+1:=by
 have a:=q1c.mp X6e w (q0s.mpr h)
 rw[q0e h0,q6f] at a
 exact q1p a
theorem cm_v (m n:Mk):decide (V.int ((((pc (m.2.1&&&n.2.2):Nat):Int)+((pc (m.2.2&&&n.2.1):Nat):Int))%2)=V.int 0)=!cm m n:=by
 unfold cm bp
 have a:pc (m.2.1&&&n.2.2)%2=0∨pc (m.2.1&&&n.2.2)%2=1:=by omega
 have b:pc (m.2.2&&&n.2.1)%2=0∨pc (m.2.2&&&n.2.1)%2=1:=by omega
 rcases a with a | a<;>rcases b with b | b
 ·rw[q0j (by congr 1;omega),a,b];rfl
 ·rw[q0e (λz=>by have:=V.int.inj z;omega),a,b];rfl
 ·rw[q0e (λz=>by have:=V.int.inj z;omega),a,b];rfl
 ·rw[q0j (by congr 1;omega),a,b];rfl
section
variable {P:U8}{w:W1}{K:U0}{mg:U4}{base:Heap}{k:Nat}{h:Heap}
theorem sc_isword:FnScope ["thing","cells"] ["thing","cells"] (Z0h (top 11)):=fS
theorem Y7f (F:FunAt K "is_word" (top 11) .none)(X:K.In h)(G:Ng h mg)(cD:Cal P w K mg base k "is_whole" ["thing"] Z5i):Cal P w K mg base (k+1) "is_word" ["thing","cells"] spWord:=by
 have nd:=sc_isword.nd
 refine F.cal X G sc_isword (bnd2 λ_ _ _ _ _ _ _ _=>rfl) (λvs H Q E h=>?_) (λf cdv A outer s H vs Q E hr h=>?_)
 ·obtain⟨x,N,rfl,_⟩:=h;rfl
 obtain⟨x,N,rfl,c6,lt,q⟩:=h
 refine⟨_,(@Z0g _ _ _ _ _ (Z0y (Z2v (PW.pt (Z5w (Z2b (Z0k cD hr rfl (Z0a (pv 0) Z0e))) (Z4a (Z2b (Z0k cD hr rfl (Z0a (pv 1) Z0e)))))))
   (@Z0f _ _ _ (Z0j Z5l))
   Z0p)
  (@Z0f _ _ _ (Z0j (Z3v (Z1q X4y (pv 0) Z0b (nomark _)) (Z2z (Z1q X8g (Y3f q4a q2m q3d Z5b (pv 0)) (pv 1) (nomark _))))))),?_⟩
 try dsimp only[cxK]
 refine⟨_,Z,_,Z,_,Z,iteT ⟨_,Z,_,Z,_,Z,iteF ?_⟩⟩
 refine⟨_,Z,_,_,Z,Z,_,Z,decI (λ_=>?_) (λz=>absurd (show (x:Int)>=0 by omega) z)⟩
 refine⟨_,Z,Z,_,Z,Z,_,Z,_,_,Z,Z,?_⟩
 have b:=X6v c6 lt
 show Q (.bl (decide (((Builtin.Int.intBits ((x:Nat):Int):Nat):Int)<=(N:Int)))) H
 rw[q0j (by omega)]
 exact q
theorem sc_ismk:FnScope ["thing","cells"] ["thing","cells"] (Z0h (top 12)):=fS
theorem X5i (F:FunAt K "is_mark" (top 12) .none)(X:K.In h)(G:Ng h mg)(B:Bs mg)(cD:Cal P w K mg base k "is_whole" ["thing"] Z5i)(dH:Cal P w K mg base k "is_word" ["thing","cells"] spWord):Cal P w K mg base (k+1) "is_mark" ["thing","cells"] (spMkK K):=by
 have nd:=sc_ismk.nd
 refine F.cal X G sc_ismk (bnd2 λ_ _ _ _ _ _ _ _=>rfl) (λvs H Q E' h=>?_) (λf cdv A outer s H vs Q E' hr h=>?_)
 ·obtain⟨p,m,N,rfl,_⟩:=h;rfl
 obtain⟨p,m,N,rfl,SP,ok,c6,q⟩:=h
 have q4:=ok.k
 refine⟨_,(@Z0g _ _ _ _ _ (Z0y (PW.pt (Z7l (Z2v (Z2b (Z0q Z3c rfl B.isinstance q2v (Z0a (pv 0) (Z0a (Z3s (v:=.ty "tuple") rfl B.tuple boot_tuple rfl) Z0e))))) (Z5v (Z0n Z5a (Z0q Z0u rfl B.len q1m (Z0a (pv 0) Z0e)) Z0b (nomark _)))))
   (@Z0f _ _ _ (Z0j Z5l))
   Z0p)
  (@Z0g _ _ _ _ _ (Z0y (PW.pt (Z7l (Z2v (Z2b (Z0k cD hr rfl (Z0a (Z0m Z0l (pv 0) Z0b (λ_ _=>rfl)) Z0e)))) (Z7l (Z0n Y4t (Z0m Z0l (pv 0) Z0b (λ_ _=>rfl)) Z0b (nomark _)) (Z5v (Z0n Y4u (Z0m Z0l (pv 0) Z0b (λ_ _=>rfl)) Z0b (nomark _))))))
   (@Z0f _ _ _ (Z0j Z5l))
   Z0p)
  (@Z0f _ _ _ (Z0j (Z3v (Z0k dH hr rfl (Z0a (Z0m Z0l (pv 0) Z0b (λ_ _=>rfl)) (Z0a (pv 1) Z0e))) (Z2z (Z0k dH hr rfl (Z0a (Z0m Z0l (pv 0) Z0b (λ_ _=>rfl)) (Z0a (pv 1) Z0e))))))))),?_⟩
 try dsimp only[cxK]
 refine⟨_,Z,p,_,_,true,Z,SP,Y7y K,_,Z,iteF ⟨_,Z,p,_,Z,.inr SP,Z,_,Z,neI (λz=>absurd rfl z) (λ_=>?_)⟩⟩
 refine⟨_,Z,p,_,_,_,Z,Z,SP,k0,_,Z,_,Z,iteF ⟨_,Z,p,_,_,_,Z,Z,SP,k0,_,_,Z,Z,_,Z,decI (λz=>absurd z (by omega)) (λ_=>⟨_,Z,p,_,_,_,Z,Z,SP,k0,_,_,Z,Z,_,Z,decI (λz=>absurd z (by omega)) (λ_=>?_)⟩)⟩⟩
 exact⟨_,Z,p,_,_,_,Z,Z,SP,k1,_,Z,m.2.1,N,Z,c6,ok.f,_,Z,iteT ⟨_,Z,p,_,_,_,Z,Z,SP,k2,_,Z,m.2.2,N,Z,c6,ok.s,q⟩⟩
theorem sc_isev:FnScope ["mark"] ["mark"] (Z0h (top 13)):=fS
theorem X5j (F:FunAt K "is_even" (top 13) .none)(X:K.In h)(G:Ng h mg)(dB:Cal P w K mg base k "ones" ["number"] spOnes):Cal P w K mg base (k+1) "is_even" ["mark"] (spEvK K):=by
 have nd:=sc_isev.nd
 refine F.cal X G sc_isev (bnd1 λ_ _ _ _ _ _ _=>rfl) (λvs H Q E' h=>?_) (λf cdv A outer s H vs Q E' hr h=>?_)
 ·obtain⟨p,m,rfl,_⟩:=h;rfl
 obtain⟨p,m,rfl,SP,q⟩:=h
 refine⟨_,(@Z0f _ _ _ (Z0j (Z1q Z1o (Z0i Z0z (Z0i Z1b (Z0m Z0l (pv 0) Z0b (λ_ _=>rfl)) (Z0k dB hr rfl (Z0a (Z0i Z1t (Z0m Z0l (pv 0) Z0b (λ_ _=>rfl)) (Z0m Z0l (pv 0) Z0b (λ_ _=>rfl))) Z0e))) Z0b) Z0b (nomark _)))),?_⟩
 try dsimp only[cxK]
 refine⟨_,Z,p,_,_,_,Z,Z,SP,k0,_,Z,p,_,_,_,Z,Z,SP,k1,_,Z,p,_,_,_,Z,Z,SP,k2,_,_,Z,Z,m.2.1&&&m.2.2,Y1n,_,_,Z,Z,_,_,Z,Z,(by decide:(0:Int)<2),Z,?_⟩
 show Q (.bl (decide (V.int (((m.1:Int)+((pc (m.2.1&&&m.2.2):Nat):Int))%2)=V.int 0))) H
 have e:decide (V.int (((m.1:Int)+((pc (m.2.1&&&m.2.2):Nat):Int))%2)=V.int 0)=decide (ev m=0):=by
  rw[decide_eq_decide]
  have:=W2k m.1 m.2.1 m.2.2
  have this:ev m=(m.1+pc (m.2.1&&&m.2.2))%2:=this
  rw[this]
  constructor
  ·intro z
   have:=V.int.inj z
   omega
  ·intro z
   congr 1
   omega
 rw[e]
 exact q
theorem sc_isevm:FnScope ["thing","cells"] ["thing","cells"] (Z0h (top 14)):=fS
theorem X0x (F:FunAt K "is_even_mark" (top 14) .none)(X:K.In h)(G:Ng h mg)(eI:Cal P w K mg base k "is_mark" ["thing","cells"] (spMkK K))(eH:Cal P w K mg base k "is_even" ["mark"] (spEvK K)):Cal P w K mg base (k+1) "is_even_mark" ["thing","cells"] (spEvMK K):=by
 have nd:=sc_isevm.nd
 refine F.cal X G sc_isevm (bnd2 λ_ _ _ _ _ _ _ _=>rfl) (λvs H Q E' h=>?_) (λf cdv A outer s H vs Q E' hr h=>?_)
 ·obtain⟨p,m,N,rfl,_⟩:=h;rfl
 obtain⟨p,m,N,rfl,SP,ok,c6,q⟩:=h
 refine⟨_,(@Z0f _ _ _ (Z0j (Z3v (Z0k eI hr rfl (Z0a (pv 0) (Z0a (pv 1) Z0e))) (Z2z (Z0k eH hr rfl (Z0a (pv 0) Z0e)))))),?_⟩
 try dsimp only[cxK]
 exact⟨_,Z,_,Z,p,m,N,Z,SP,ok,c6,_,Z,iteT ⟨_,Z,p,m,Z,SP,q⟩⟩
theorem sc_comm:FnScope ["one","other"] ["one","other"] (Z0h (top 15)):=fS
theorem X5o (F:FunAt K "commute" (top 15) .none)(X:K.In h)(G:Ng h mg)(dB:Cal P w K mg base k "ones" ["number"] spOnes):Cal P w K mg base (k+1) "commute" ["one","other"] (spCm K):=by
 have nd:=sc_comm.nd
 refine F.cal X G sc_comm (bnd2 λ_ _ _ _ _ _ _ _=>rfl) (λvs H Q E h=>?_) (λf cdv A outer s H vs Q E hr h=>?_)
 ·obtain⟨p,p',m,m',rfl,_⟩:=h;rfl
 obtain⟨p,p',m,n,rfl,S1,S2,q⟩:=h
 refine⟨_,(@Z0f _ _ _ (Z0j (Z1q Z1o (Z0i Z0z (Z0i Z1b (Z0k dB hr rfl (Z0a (Z0i Z1t (Z0m Z0l (pv 0) Z0b (λ_ _=>rfl)) (Z0m Z0l (pv 1) Z0b (λ_ _=>rfl))) Z0e)) (Z0k dB hr rfl (Z0a (Z0i Z1t (Z0m Z0l (pv 0) Z0b (λ_ _=>rfl)) (Z0m Z0l (pv 1) Z0b (λ_ _=>rfl))) Z0e))) Z0b) Z0b (nomark _)))),?_⟩
 try dsimp only[cxK]
 refine⟨_,Z,p,_,_,_,Z,Z,S1,k1,_,Z,p',_,_,_,Z,Z,S2,k2,_,_,Z,Z,m.2.1&&&n.2.2,Y1n,_,Z,p,_,_,_,Z,Z,S1,k2,_,Z,p',_,_,_,Z,Z,S2,k1,_,_,Z,Z,m.2.2&&&n.2.1,Y1n,_,_,Z,Z,_,_,Z,Z,(by decide:(0:Int)<2),Z,?_⟩
 show Q (.bl (decide (V.int ((((pc (m.2.1&&&n.2.2):Nat):Int)+((pc (m.2.2&&&n.2.1):Nat):Int))%2)=V.int 0))) H
 rw[cm_v]
 exact q
theorem sc_least:FnScope ["word"] ["word"] (Z0h (top 40)):=fS
theorem X0w (F:FunAt K "least_cell" (top 40) .none)(X:K.In h)(G:Ng h mg):Cal P w K mg base (k+1) "least_cell" ["word"] spLst:=by
 have nd:=sc_least.nd
 refine F.cal X G sc_least (bnd1 λ_ _ _ _ _ _ _=>rfl) (λvs H Q E' h=>?_) (λf cdv A outer s H vs Q E' hr h=>?_)
 ·obtain⟨n,rfl,_⟩:=h;rfl
 obtain⟨x,rfl,x64,x0,q⟩:=h
 have e:=Y3s x64 x0
 refine⟨_,(@Z0f _ _ _ (Z0j (Z0i Z2k (Y3f q4a q2m q3d Z5b (Z0i Z1t (pv 0) (Y1i Z9m (pv 0)))) Z0b))),?_⟩
 try dsimp only[cxK]
 refine⟨_,Z,_,Z,_,Z,_,_,Z,Z,Z,_,Z,Z,_,_,Z,Z,?_⟩
 show Q (.int (((Builtin.Int.intBits (Builtin.bitAnd (x:Int) (-(x:Int))):Nat):Int)-1)) H
 rw[e,show (((M78.low 6 x+1:Nat):Int)-1)=(M78.low 6 x:Int) by omega]
 exact q
theorem sc_bkm:FnScope ["move"] ["move"] (Z0h (top 38)):=fS
theorem X8u (F:FunAt K "back_move" (top 38) .none)(X:K.In h)(G:Ng h mg):Cal P w K mg base (k+1) "back_move" ["move"] spBk:=by
 have nd:=sc_bkm.nd
 refine F.cal X G sc_bkm (bnd1 λ_ _ _ _ _ _ _=>rfl) (λvs H Q E h=>?_) (λf cdv A outer s H vs Q E hr h=>?_)
 ·obtain⟨p,x,rfl,_⟩:=h;rfl
 obtain⟨p,x,rfl,hp,q⟩:=h
 have SP:SqT K H p (.str (nm x)::(ns x).map V.int):=SqT.of hp
 refine⟨_,(@Z0g _ _ _ _ _ (Z0y (Z0n Z1o (Z0m Z0l (pv 0) Z0b (λ_ _=>rfl)) Z0x (nomark _))
   (@Z0f _ _ _ (Z0j (@Z1a _ _ _ _ _ (Z0a Z0x (Z0a (Z0m Z0l (pv 0) Z0b (λ_ _=>rfl)) (Z0a (Z0i Z2k Z0b (Z0m Z0l (pv 0) Z0b (λ_ _=>rfl))) Z0e))))))
   Z0p)
  (@Z0f _ _ _ (Z0j (pv 0)))),?_⟩
 try dsimp only[cxK]
 refine⟨_,Z,p,_,_,.str (nm x),Z,Z,SP,at0m x,Z,?_⟩
 by_cases e:nm x="turn"
 ·obtain⟨a,j,rfl⟩:=Y5k e
  exact⟨_,Z,decI (λ_=>⟨_,Z,p,_,_,.int a,Z,Z,SP,k1,_,Z,p,_,_,.int j,Z,Z,SP,k2,_,_,Z,Z,t3,λt ht=>q t _ (Z0c ht _) Z0d⟩) (λz=>absurd rfl z)⟩
 ·refine⟨_,Z,decI (λz=>absurd (V.str.inj z) e) (λ_=>?_)⟩
  refine⟨_,Z,q p H (Same.refl _) ?_⟩
  have:bk x=x:=by cases x<;>first | rfl | exact absurd rfl e
  rw[this]
  exact hp
end
end K55S
namespace K55S
open L2 Ba Am Pc M71
open K75 (top Bs)
open M72 (VOk)
open M75 (Mk mvd mvds Br bn bp ev)
open M77 (pmk Z1g Z2m bk)
theorem bt1 (x i:Nat):Builtin.bitAnd ((x:Int) / 2^(i:Int).toNat) 1=if x.testBit i then 1 else 0:=by
 have e:(x:Int) / 2^(i:Int).toNat=((x / 2^i:Nat):Int):=by rw[q1h];simp
 rw[e]
 have:=Z5t (x / 2^i) 1
 rw[Nat.and_one_is_mod] at this
 have this:Builtin.bitAnd ((x / 2^i:Nat):Int) 1=((x / 2^i%2:Nat):Int):=this
 rw[this,Nat.testBit_eq_decide_div_mod_eq]
 have:x / 2^i%2=0∨x / 2^i%2=1:=by omega
 rcases this with a | a<;>rw[a]<;>rfl
theorem W2r (f s:Bool):∃ c:Nat,atI (Str.ofString ".fsb").cps.toList ((if f then 1 else 0)+2*(if s then 1 else 0))=some c/\lt4 f s=⟨#[c]⟩:=by
 cases f<;>cases s
 ·exact⟨46,by decide +kernel,by decide +kernel⟩
 ·exact⟨115,by decide +kernel,by decide +kernel⟩
 ·exact⟨102,by decide +kernel,by decide +kernel⟩
 ·exact⟨98,by decide +kernel,by decide +kernel⟩
theorem len4:(Str.ofString ".fsb").length=4:=by decide +kernel
section
variable {P:U8}{w:W1}{K:U0}{mg:U4}{base:Heap}{k:Nat}{h:Heap}
theorem sc_cs:FnScope ["mark","cell","flip","sign"] ["mark","cell"] (Z0h (top 17)):=fS
theorem W1n {tC:Tok}(gC:mg "CELL_SIGNS"=some (.str (Str.ofString ".fsb") tC))(F:FunAt K "cell_sign" (top 17) .none)(X:K.In h)(G:Ng h mg):Cal P w K mg base (k+1) "cell_sign" ["mark","cell"] (spSgn K):=by
 have nd:=sc_cs.nd
 refine F.cal X G sc_cs (bnd2 λ_ _ _ _ _ _ _ _=>rfl) (λvs H Q E h=>?_) (λfa cdv A outer s H vs Q E hr h=>?_)
 ·obtain⟨p,m,i,rfl,_⟩:=h;rfl
 obtain⟨p,m,i,rfl,M,q⟩:=h
 obtain⟨c,ix,e⟩:=W2r (m.2.1.testBit i) (m.2.2.testBit i)
 rw[<-bt1,<-bt1] at ix
 rw[e] at q
 refine⟨_,(@Z0g _ _ _ _ _ (@Z0o _ _ 2 _ _ _ _ nd rfl (Or.inl rfl) (Z0i Z1t (Z0i Z4z (Z0m Z0l (pv 0) Z0b (λ_ _=>rfl)) (pv 1)) Z0b) rfl (.inl rfl))
  (@Z0g _ _ _ _ _ (@Z0o _ _ 3 _ _ _ _ nd rfl (Or.inl rfl) (Z0i Z1t (Z0i Z4z (Z0m Z0l (pv 0) Z0b (λ_ _=>rfl)) (pv 1)) Z0b) rfl (.inl rfl))
  (@Z0f _ _ _ (Z0j (Z0m X9v (Y1j (v:=.str (Str.ofString ".fsb")) rfl gC ⟨_,Z⟩) (Z0i Z1b (pv 2) (Z0i Z2d Z0b (pv 3))) (λ_ _=>rfl)))))),?_⟩
 try dsimp only[cxK]
 refine⟨_,Z,p,_,_,_,Z,Z,M,k1,_,Z,_,_,Z,Z,(by show (0:Int)<=(i:Int);omega),_,_,Z,Z,?_⟩
 refine⟨_,Z,p,_,_,_,Z,Z,M,k2,_,Z,_,_,Z,Z,(by show (0:Int)<=(i:Int);omega),_,_,Z,Z,?_⟩
 exact⟨_,Z,_,Z,_,_,Z,Z,.inl ⟨by decide,by decide⟩,_,_,Z,Z,_,_,_,Z,Z,(by rw[len4];decide),ix,q⟩
theorem sc_mts:FnScope ["letter","cell"] ["letter","cell"] (Z0h (top 65)):=fS
theorem X8o (F:FunAt K "moves_to_sign" (top 65) .none)(X:K.In h)(G:Ng h mg):Cal P w K mg base (k+1) "moves_to_sign" ["letter","cell"] spMts:=by
 have nd:=sc_mts.nd
 refine F.cal X G sc_mts (bnd2 λ_ _ _ _ _ _ _ _=>rfl) (λvs H Q E h=>?_) (λfa cdv A outer s H vs Q E hr h=>?_)
 ·obtain⟨f,s,e,m,rfl,_⟩:=h;rfl
 obtain⟨f,s,e,m,rfl,hf,hs,q⟩:=h
 unfold M78.mts at q
 rw[hf,hs] at q
 refine⟨_,(@Z0g _ _ _ _ _ (Z0y (Z0n Z1o (pv 0) Z0x (nomark _))
   (@Z0f _ _ _ (Z0j (@Z1s _ _ _ _ (Z0a (@Z1a _ _ _ _ _ (Z0a Z0x (Z0a (pv 1) (Z0a Z0b Z0e)))) (Z0a (@Z1a _ _ _ _ _ (Z0a Z0x (Z0a (pv 1) Z0e))) Z0e)))))
   Z0p)
  (@Z0f _ _ _ (Z0j (Z1v (Z0n Z1o (pv 0) Z0x (nomark _)) (@Z1s _ _ _ _ (Z0a (@Z1a _ _ _ _ _ (Z0a Z0x (Z0a (pv 1) Z0e))) Z0e)) (@Z1s _ _ _ _ Z0e))))),?_⟩
 try dsimp only[cxK]
 have nil:∀ (l:W9),H l=none->RowAt (upd H l (.lst [])) l []:=λl hl=>⟨[],Z0d,.nil⟩
 cases f<;>cases s
 ·refine⟨_,Z,Z,_,Z,decI (λz=>absurd (V.str.inj z) (by decide)) (λ_=>?_)⟩
  exact⟨_,Z,Z,_,Z,decI (λz=>absurd (V.str.inj z) (by decide)) (λ_=>⟨q1e _,λl hl=>q l _ hl (Z0c hl _) (nil l hl)⟩)⟩
 ·refine⟨_,Z,Z,_,Z,decI (λz=>absurd (V.str.inj z) (by decide)) (λ_=>?_)⟩
  exact⟨_,Z,Z,_,Z,decI (λz=>absurd (V.str.inj z) (by decide)) (λ_=>⟨q1e _,λl hl=>q l _ hl (Z0c hl _) (nil l hl)⟩)⟩
 ·refine⟨_,Z,Z,_,Z,decI (λz=>absurd (V.str.inj z) (by decide)) (λ_=>?_)⟩
  refine⟨_,Z,Z,_,Z,decI (λ_=>?_) (λz=>absurd rfl z)⟩
  refine⟨_,Z,t2,λt ht=>⟨(show 1<=sizeLine by decide),λl hl=>?_⟩⟩
  have hl0:H l=none:=Z1r (Z0c ht _) hl
  exact q l _ hl0 ((Z0c ht _).trans (Z0c hl _)) ⟨[t],Z0d,.cons (Z0c hl _ _ _ Z0d) .nil⟩
 ·refine⟨_,Z,Z,_,Z,decI (λ_=>?_) (λz=>absurd rfl z)⟩
  refine⟨_,Z,t3,λt ht=>⟨_,Z,t2,λu hu=>⟨t2,λl hl=>?_⟩⟩⟩
  have hl0:H l=none:=Z1r ((Z0c ht _).trans (Z0c hu _)) hl
  exact q l _ hl0 (((Z0c ht _).trans (Z0c hu _)).trans (Z0c hl _)) ⟨[t,u],Z0d,.cons (((Z0c hu _).trans (Z0c hl _)) _ _ Z0d) (.cons (Z0c hl _ _ _ Z0d) .nil)⟩
theorem sc_mtf:FnScope ["letter","cell"] ["letter","cell"] (Z0h (top 67)):=fS
theorem X8p (F:FunAt K "moves_to_flip" (top 67) .none)(X:K.In h)(G:Ng h mg):Cal P w K mg base (k+1) "moves_to_flip" ["letter","cell"] spMtf:=by
 have nd:=sc_mtf.nd
 refine F.cal X G sc_mtf (bnd2 λ_ _ _ _ _ _ _ _=>rfl) (λvs H Q E h=>?_) (λfa cdv A outer s H vs Q E hr h=>?_)
 ·obtain⟨f,s,e,m,rfl,_⟩:=h;rfl
 obtain⟨f,s,e,m,rfl,hf,hs,q⟩:=h
 unfold M78.mtf at q
 rw[hf,hs] at q
 refine⟨_,(@Z0g _ _ _ _ _ (Z0y (Z0n Z1o (pv 0) Z0x (nomark _))
   (@Z0f _ _ _ (Z0j (@Z1s _ _ _ _ (Z0a (@Z1a _ _ _ _ _ (Z0a Z0x (Z0a (pv 1) (Z0a Z0b Z0e)))) Z0e))))
   Z0p)
  (@Z0f _ _ _ (Z0j (Z1v (Z0n Z1o (pv 0) Z0x (nomark _)) (@Z1s _ _ _ _ (Z0a (@Z1a _ _ _ _ _ (Z0a Z0x (Z0a (pv 1) Z0e))) Z0e)) (@Z1s _ _ _ _ Z0e))))),?_⟩
 try dsimp only[cxK]
 have nil:∀ (l:W9),H l=none->RowAt (upd H l (.lst [])) l []:=λl hl=>⟨[],Z0d,.nil⟩
 cases f<;>cases s
 ·refine⟨_,Z,Z,_,Z,decI (λz=>absurd (V.str.inj z) (by decide)) (λ_=>?_)⟩
  exact⟨_,Z,Z,_,Z,decI (λz=>absurd (V.str.inj z) (by decide)) (λ_=>⟨q1e _,λl hl=>q l _ hl (Z0c hl _) (nil l hl)⟩)⟩
 ·refine⟨_,Z,Z,_,Z,decI (λz=>absurd (V.str.inj z) (by decide)) (λ_=>?_)⟩
  refine⟨_,Z,Z,_,Z,decI (λ_=>?_) (λz=>absurd rfl z)⟩
  refine⟨_,Z,t2,λt ht=>⟨(show 1<=sizeLine by decide),λl hl=>?_⟩⟩
  have hl0:H l=none:=Z1r (Z0c ht _) hl
  exact q l _ hl0 ((Z0c ht _).trans (Z0c hl _)) ⟨[t],Z0d,.cons (Z0c hl _ _ _ Z0d) .nil⟩
 ·refine⟨_,Z,Z,_,Z,decI (λz=>absurd (V.str.inj z) (by decide)) (λ_=>?_)⟩
  exact⟨_,Z,Z,_,Z,decI (λz=>absurd (V.str.inj z) (by decide)) (λ_=>⟨q1e _,λl hl=>q l _ hl (Z0c hl _) (nil l hl)⟩)⟩
 ·refine⟨_,Z,Z,_,Z,decI (λ_=>?_) (λz=>absurd rfl z)⟩
  refine⟨_,Z,t3,λt ht=>⟨(show 1<=sizeLine by decide),λl hl=>?_⟩⟩
  have hl0:H l=none:=Z1r (Z0c ht _) hl
  exact q l _ hl0 ((Z0c ht _).trans (Z0c hl _)) ⟨[t],Z0d,.cons (Z0c hl _ _ _ Z0d) .nil⟩
theorem sc_bwd:FnScope ["row"] ["row"] (Z0h (top 59)):=fS
theorem X8t (F:FunAt K "backward" (top 59) .none)(X:K.In h)(G:Ng h mg)(B:Bs mg)(e9:Cal P w K mg base k "back_move" ["move"] spBk):Cal P w K mg base (k+1) "backward" ["row"] spBwd:=by
 have nd:=sc_bwd.nd
 refine F.cal X G sc_bwd (bnd1 λ_ _ _ _ _ _ _=>rfl) (λvs H Q E h=>?_) (λfa cdv A outer s H vs Q E hr h=>?_)
 ·obtain⟨l,row,rfl,_⟩:=h;rfl
 obtain⟨l,row,rfl,⟨ps,hl,hr1⟩,l300,kq⟩:=h
 have lps:ps.length=row.length:=by have:=Z1c hr1;rw[q0a] at this;exact this
 have SL:SqL K H l (ps.map V.ref):=SqL.of hl
 refine⟨_,(@Z0f _ _ _ (Z0j (Z4l rfl (LcOk.of (Nc:=["move"]) (mp:=[none]) (by kernel_rfl)) (X8a rfl B.reversed (Z0a (pv 0) Z0e)) (λ_ _ _ _=>(Z0w (i:=0) (show (["move"]:W0).Nodup by decide +kernel) rfl (Or.inl rfl))) (λ_ _ _ _=>(Z0k e9 hr rfl (Z0a (pv 0) Z0e)))))),?_⟩
 try dsimp only[cxK]
 refine⟨_,Z,l,_,Z,SL,λacc hacc=>?_⟩
 refine X9g (K:=K) (a:=l) (xs:=ps.map V.ref) (fr:=[]) (λi ys H'=>∃ qs:List Addr,Same H H'/\H' acc=some (.lst ys)/\ys=qs.map V.ref/\RowsM H' qs (((row.reverse.take i).map bk).map mm)) (by rw[q0a,lps];exact q0u l300 (by decide)) ⟨[],Z0c hacc _,Z0d,Z,.nil⟩
  (λi ys H' e=>by obtain⟨qs,s2,_⟩:=e;exact s2.seq SL) ?_ ?_
 ·rintro i x ys H1 N hx hy ⟨qs,S1,a1,rfl,M1⟩ kN
  have ilt:i<row.length:=by
   have:=(q0t.mp hx).1
   rw[q4w,q0a] at this
   omega
  rw[q5u (by rw[q0a];omega),q0k] at hx
  obtain⟨p,hp,rfl⟩:=q0x.mp hx
  obtain⟨m,hm,p0⟩:=Z6e hr1 hp
  rw[q0a,lps] at hm
  have hm':row.reverse[i]?=some m:=by rw[q5u ilt];exact hm
  refine⟨_,Z,p,m,Z,S1 _ _ p0,λr H2 S2 hr2=>?_⟩
  refine kN (.ref r) H2 (S2 _ _ a1) ⟨qs++[r],Z0v (S1.trans S2) hacc,Z0d,by rw[q0b];rfl,?_⟩
  rw[q1y,hm',q4c,q0b,q0b]
  have h2:=S2 _ _ a1
  exact Z4w (λ_ _ e=>by rw[Z1d (Z7b e h2 (by intro z;cases z))];exact e) (Z3r (M1.same S2) hr2)
 ·rintro ys H1 hy ⟨qs,S1,a1,rfl,M1⟩
  rw[q0a,lps,show row.length=row.reverse.length from q4w.symm,q4r] at M1
  exact kq acc H1 hacc S1 ⟨qs,a1,M1⟩
end
end K55S
namespace K55S
open L2 Ba Am Pc M71
open K75 (top Bs)
open M72 (VOk)
open M75 (Mk mvd mvds Br bn bp ev)
open M77 (pmk Z1g Z2m bk)
open M78 (mts mtf rg ls1 lf1 layS layF kpt okb)
theorem Z1u {H:Hp}:∀ {ps qs:U3}{xs ys:List Mm},RowsM H ps xs->RowsM H qs ys->RowsM H (ps++qs) (xs++ys)
 | [],_,[],_,.nil,h=>h
 | _::_,_,_::_,_,.cons a r,h=>.cons a (Z1u r h)
theorem Z3y {H:Hp}{l:W9}{xs ys:List V}{ps:U3}{ms:List Mm}(h:RowsM H ps ms)(hl:H l=some (.lst xs)):RowsM (upd H l (.lst ys)) ps ms :=
 Z4w (λ_ _ c=>by rw[Z1d (Z7b c hl (by intro z;cases z))];exact c) h
theorem Z8o {H:Hp}{l:W9}{ps qs:U3}{row more:List Mv}(hl:H l=some (.lst (ps.map V.ref)))(h1:RowsM H ps (row.map mm))(h2:RowsM H qs (more.map mm)):RowAt (upd H l (.lst (ps.map V.ref++qs.map V.ref))) l (row++more) :=
 ⟨ps++qs,by rw[Z0d,q0b],by rw[q0b];exact Z3y (Z1u h1 h2) hl⟩
theorem Y6l (j i:Nat):rg j (i+1)=rg j i++[i+j]:=by
 unfold rg
 rw[q2o,q0b]
 rfl
theorem hbd {c:Nat}:∀ (x:Mv) (m:Mk),VOk c x->M80.Bdm c m->M80.Bdm c (mvd x m):=λx m o b=>by
 have:=Y7n o (⟨b.k,b.f,b.s⟩:OkK c m)
 exact⟨this.k,this.f,this.s⟩
theorem Z5k {j c:Nat}{row:List Mv}(h:∀ x∈row,okb j c x=true):(∀ x∈row,VOk c x)/\∀ x∈row,Br x:=⟨λx hx=>(M79.Z2p (h x hx)).1,λx hx=>(M79.Z2p (h x hx)).2.1⟩
theorem W1i (x j:Nat):(x:Int) / 2^(j:Int).toNat=((x >>> j:Nat):Int):=by
 rw[q1h,q3k]
 simp
def spLayS (K:U0):Sp:=λvs H Q _=>∃ (p:W9) (m:Mk) (j c:Nat),vs=[.ref p,.int j,.int c]/\SqT K H p (mkL m)/\OkK c m/\c<=6/\j<c/\ev m=0/\(∀ i,i<j->m.2.1.testBit i=false/\m.2.2.testBit i=false)/\¬ (m.2.1=0/\m.2.2=0) ∧
 ∀ (r:W9) (H':Hp),H r=none->Same H H'->RowAt H' r (layS m j c)->Q (.ref r) H'
section
variable {P:U8}{w:W1}{K:U0}{mg:U4}{base:Heap}{k:Nat}{h:Heap}
theorem sc_layS:FnScope ["mark","cell","cells","row","each","signs","kept"] ["mark","cell","cells"] (Z0h (top 64)):=fS
theorem X5g (F:FunAt K "layer_to_sign" (top 64) .none)(X:K.In h)(G:Ng h mg)(B:Bs mg)(dA:Cal P w K mg base k "moves_to_sign" ["letter","cell"] spMts)(cT:Cal P w K mg base k "cell_sign" ["mark","cell"] (spSgn K))(c5:Cal P w K mg base k "moved_through" ["mark","row"] (Z3w K))(dX:Cal P w K mg base k "least_cell" ["word"] spLst):Cal P w K mg base (k+1) "layer_to_sign" ["mark","cell","cells"] (spLayS K):=by
 have nd:=sc_layS.nd
 refine F.cal X G sc_layS (bnd3 λ_ _ _ _ _ _ _ _ _=>rfl) (λvs H Q E h=>?_) (λfa cdv A outer s H vs Q E hr h=>?_)
 ·obtain⟨p,m,j,c,rfl,_⟩:=h;rfl
 obtain⟨p,m,j,c,rfl,S,o,c6,jc,e,z,nz,q⟩:=h
 obtain⟨_,ly2,ly3⟩:=M80.Y1x c6 jc hbd (⟨o.k,o.f,o.s⟩:M80.Bdm c m) e z nz
 have o1:∀ x∈ls1 m j c,okb j c x=true:=λx hx=>ly2 x (q3c _ hx)
 obtain⟨v1,b1⟩:=Z5k o1
 have len1:(ls1 m j c).length<=200:=by
  unfold layS at ly3
  rw[q0c] at ly3
  omega
 have on:=Z8t v1 o
 refine⟨_,(@Z0g _ _ _ _ _ (@Z0o _ _ 3 _ _ _ _ nd rfl (Or.inl rfl) (@Z1s _ _ _ _ Z0e) rfl (.inl rfl))
  (@Z0g _ _ _ _ _ (Z2r PassesOwn.never rfl (Y0a rfl B.range (Z0a (pv 1) (Z0a (pv 2) Z0e))) (Z0w (i:=4) nd rfl (Or.inl rfl))
   (@Z0f _ _ _ (Z2i (Z6a q1k q2z q2y Z4e (pv 3) (Z0a (Z0k dA hr rfl (Z0a (Z0k cT hr rfl (Z0a (pv 0) (Z0a (pv 4) Z0e))) (Z0a (pv 4) Z0e))) Z0e)))))
  (@Z0r _ _ _ _ _ (@Z0o _ _ 5 _ _ _ _ nd rfl (Or.inr rfl) (Z0m Z0l (Z0k c5 hr rfl (Z0a (pv 0) (Z0a (pv 3) Z0e))) Z0b (λ_ _=>rfl)) rfl (.inl rfl))
  (@Z0r _ _ _ _ _ (@Z0o _ _ 6 _ _ _ _ nd rfl (Or.inr rfl) (Z0i Z1b (pv 1) (Z0k dX hr rfl (Z0a (Z0i Z4z (pv 5) (pv 1)) Z0e))) rfl (.inl rfl))
  (@Z0r _ _ _ _ _ (Z2i (Z6a q1k q2z q2y Z4e (pv 3) (Z0a (X2q rfl (LcOk.of (Nc:=["each","signs","kept"]) (mp:=[none,some 5,some 6]) (by kernel_rfl)) (Z1k rfl B.range (Z0a (pv 2) Z0e)) (λ_ _ _ _=>(Z0w (i:=0) (show (["each","signs","kept"]:W0).Nodup by decide +kernel) rfl (Or.inl rfl))) (λ_ _ _ _=>(PW.pt (Z5w (Z0n Z5a (pv 0) (pv 2) (nomark _)) (Z4a (Z2l (Z0i Z1t (Z0i Z4z (pv 1) (pv 0)) Z0b) (by intro _;rfl)))))) (λ_ _ _ _=>(@Z1a _ _ _ _ _ (Z0a Z0x (Z0a (pv 0) (Z0a (pv 2) Z0e)))))) Z0e)))
  (@Z0r _ _ _ _ _ (Z0y (Z0n Z5a (pv 6) (pv 1) (nomark _))
   (@Z0f _ _ _ (Z2i (Z6a q1k q2c q2b Z2j (pv 3) (Z0a (@Z1a _ _ _ _ _ (Z0a Z0x (Z0a (pv 1) (Z0a (pv 6) Z0e)))) Z0e))))
   Z0p)
  (@Z0r _ _ _ _ _ (Z0y (Z0n Z5a (Z0m Z0l (Z0k c5 hr rfl (Z0a (pv 0) (Z0a (pv 3) Z0e))) Z0b (λ_ _=>rfl)) Z0b (nomark _))
   (@Z0f _ _ _ (Z2i (Z6a q1k q2c q2b Z2j (pv 3) (Z0a (@Z1a _ _ _ _ _ (Z0a Z0x (Z0a (pv 1) Z0e))) Z0e))))
   Z0p)
  (@Z0f _ _ _ (Z0j (pv 3)))))))))),?_⟩
 try dsimp only[cxK]
 refine⟨q1e _,λl hl=>?_⟩
 refine⟨_,Z,_,Z,_,_,Z,⟨by omega,by omega,by omega,by omega⟩,?_⟩
 rw[show ((c:Int)-(j:Int)).toNat=c-j by omega]
 refine Z1y (lo:=(j:Int)) (n:=c-j) (λi σ H'=>∃ v:Option V,Same H H'/\RowAt H' l ((rg j i).flatMap (mts m))/\σ=[some (.ref p),some (.int j),some (.int c),some (.ref l),v,none,none])
  ⟨none,Z0c hl _,⟨[],Z0d,.nil⟩,Z⟩ ?_ ?_
 ·rintro i σ H1 hi ⟨v,S1,⟨ps,h1,r1⟩,rfl⟩
  have ei:((j:Int)+(i:Int))=((i+j:Nat):Int):=by omega
  have pl:ps.length<=2*i:=by
   have:=Z1c r1
   rw[q0a] at this
   have r:=M80.Y0m (M80.Y1r m) (rg j i)
   have rl:(rg j i).length=i:=by unfold rg;rw[q0a,q5j]
   rw[rl] at r
   omega
  refine⟨_,Z,.inl ⟨Z,_,SqL.of h1⟩,_,Z,_,Z,p,m,i+j,by rw[ei];rfl,S1.tup S,_,Z,m.2.1.testBit (i+j),m.2.2.testBit (i+j),i+j,m,by rw[ei];rfl,Z,Z,λr H2 nr S2 R2=>?_⟩
  obtain⟨qs,h2,r2⟩:=R2
  have ql:qs.length<=2:=by
   have:=Z1c r2
   rw[q0a] at this
   have:=M80.Y1r m (i+j)
   omega
  refine⟨l,r,_,_,Z,Z,S2 _ _ h1,h2,?_,?_⟩
  ·rw[q0a,q0a]
   exact q0u (show _<=100 by omega) (by decide)
  refine⟨_,Z0v (S1.trans S2) hl,?_,Z⟩
  rw[Y6l,List.flatMap_append]
  have:=Z8o (more:=[i+j].flatMap (mts m)) (S2 _ _ h1) (r1.same S2) (by rw[q3t,List.flatMap_nil,q3f];exact r2)
  exact this
 ·rintro σ H1 ⟨v,S1,R1,rfl⟩
  have R1:RowAt H1 l (ls1 m j c):=R1
  have nzn:=M80.X9f c6 jc hbd (⟨o.k,o.f,o.s⟩:M80.Bdm c m) e z nz
  obtain⟨n,en⟩:∃ n,mvds (ls1 m j c) m=n:=⟨_,Z⟩
  rw[en] at on nzn
  have lay:layS m j c=ls1 m j c++M78.tailS n j c:=by unfold layS;rw[en]
  have n64:n.2.2 >>> j<64:=by
   rw[q3k]
   refine q2d (Nat.div_le_self _ _) (q0l on.s ?_)
   exact q1z (by decide) c6
  refine⟨λσ H'=>Same H1 H'/\σ=[some (.ref p),some (.int j),some (.int c),some (.ref l),v,some (.int (n.2.2:Nat)),none],?_,?_⟩
  ·refine⟨_,Z,_,Z,p,l,m,ls1 m j c,c,Z,S1.tup S,R1,o,c6,v1,b1,len1,λr0 H2 S2 h2=>?_⟩
   rw[en] at h2
   exact⟨r0,_,_,.int (n.2.2:Nat),Z,Z,h2,k2,S2,Z⟩
  rintro σ H2 ⟨S2,rfl⟩
  refine⟨λσ H'=>H2=H'/\σ=[some (.ref p),some (.int j),some (.int c),some (.ref l),v,some (.int (n.2.2:Nat)),some (.int (kpt n j:Nat))],?_,?_⟩
  ·refine⟨_,Z,_,Z,_,Z,_,_,Z,Z,(by show (0:Int)<=(j:Int);omega),n.2.2 >>> j,?_,n64,nzn,_,_,Z,Z,Z,?_⟩
   ·show [V.int ((n.2.2:Int) / 2^(j:Int).toNat)]++[]=_
    rw[W1i]
    rfl
   ·rfl
  rintro σ _ ⟨rfl,rfl⟩
  obtain⟨ps,h2,r2⟩:=R1.same S2
  have pl:ps.length=(ls1 m j c).length:=by have:=Z1c r2;rw[q0a] at this;exact this
  refine⟨λσ H'=>Same H H'/\RowAt H' l (ls1 m j c++M78.s2 n j c)/\σ=[some (.ref p),some (.int j),some (.int c),some (.ref l),v,some (.int (n.2.2:Nat)),some (.int (kpt n j:Nat))],?_,?_⟩
  ·refine⟨_,Z,.inl ⟨Z,_,SqL.of h2⟩,_,Z,_,Z,by omega,by omega,λacc hacc=>?_⟩
   rw[q1h]
   have ga:acc≠l:=λz=>by rw[z,h2] at hacc;cases hacc
   refine Y0i (n:=c) (fr:=[some (.int (n.2.2:Nat)),some (.int (kpt n j:Nat))]) (λi ys H'=>Same H2 H'/\H' acc=some (.lst ys)/\∃ qs:List Addr,ys=qs.map V.ref/\RowsM H' qs ((((List.range i).filter λe=>decide (e≠kpt n j) && n.2.2.testBit e).map λ(e:Nat)=>Mv.iff (e:Int) (kpt n j:Int)).map mm)/\qs.length<=i) (t64 (by omega)) ⟨Z0c hacc _,Z0d,[],Z,.nil,q0f _⟩ ?_ (λhm z=>?_) ?_
   ·rintro i ys H5 N hi hly ⟨S5,a5,qs,rfl,M5,ql⟩ kN
    have z0:(0:Int)+(i:Int)=(i:Int):=q2x _
    have stay:(decide (i≠kpt n j) && n.2.2.testBit i)=false->Same H2 H5/\H5 acc=some (.lst (qs.map V.ref))/\∃ qs':List Addr,qs.map V.ref=qs'.map V.ref/\RowsM H5 qs' ((((List.range (i+1)).filter λe=>decide (e≠kpt n j) && n.2.2.testBit e).map λ(e:Nat)=>Mv.iff (e:Int) (kpt n j:Int)).map mm)/\qs'.length<=i+1:=λhP=>by
     refine⟨S5,a5,qs,Z,?_,by omega⟩
     rw[q2o,q5e,q7i (by rw[hP];decide),q6i,q3f]
     exact M5
    refine⟨_,Z,_,Z,Z,_,Z,neI (λne=>?_) (λeq=>kN _ _ (λz=>(nomatch z)) (λ_=>stay ?_))⟩
    ·refine⟨_,Z,_,Z,_,_,Z,Z,(by show (0:Int)<=0+(i:Int);omega),_,_,Z,Z,_,Z,?_⟩
     show N (Builtin.bitAnd ((n.2.2:Int) / 2^(0+(i:Int)).toNat) 1 != 0) H5
     rw[z0,bt1]
     have ne':i≠kpt n j:=λz=>ne (by rw[z0,z])
     refine kN _ _ (λhb=>?_) (λhb=>stay ?_)
     ·have hP:(decide (i≠kpt n j) && n.2.2.testBit i)=true:=by
       rw[q0j ne',q6e]
       cases q:n.2.2.testBit i with
       | true=>rfl
       | false=>rw[q] at hb;cases hb
      refine⟨_,Z,_,Z,t3,λt ht=>⟨Z0c ht _ _ _ a5,Z0v (S5.trans (Z0c ht _)) hacc,Z0d,qs++[t],by rw[q0b];rfl,?_,by rw[q0c,q5t];omega⟩⟩
      rw[q2o,q5e,q7h (p:=λe=>decide (e≠kpt n j) && n.2.2.testBit e) hP,q6i,q0b,q0b]
      refine Z3y (Z1u (M5.same (Z0c ht _)) (.cons ?_ .nil)) (Z0c ht _ _ _ a5)
      rw[Z0d,z0]
      rfl
     ·cases q:n.2.2.testBit i with
      | true=>rw[q] at hb;cases hb
      | false=>rw[q6y]
    ·have:i=kpt n j:=by rw[z0] at eq;omega
     rw[q0e (λz=>z this),q3z]
   ·obtain⟨u,e1,u2,e2,hl2,z⟩:=z
    exact⟨u,e1,u2,e2,hl2,λt ht=>hm _ _ (z t ht)⟩
   ·rintro ys H5 ⟨S5,a5,qs,rfl,M5,ql⟩
    refine⟨l,acc,_,_,Z,Z,S5 _ _ h2,a5,?_,Z0v ((S1.trans S2).trans S5) hl,Z8o (S5 _ _ h2) (r2.same S5) M5,Z⟩
    rw[q0a,q0a]
    exact q0u (show _<=300 by omega) (by decide)
  rintro σ H3 ⟨S3,R3,rfl⟩
  have o3:∀ x∈ls1 m j c++M78.s2 n j c++M78.s3 n j,okb j c x=true:=λx hx=>ly2 x (by
   rw[lay]
   unfold M78.tailS
   rw[<-q1u,<-q1u]
   exact q3c _ hx)
  have lenL:(layS m j c).length<=20:=by omega
  have eL:layS m j c=ls1 m j c++M78.s2 n j c++M78.s3 n j++M78.s4 n j c:=by
   rw[lay]
   unfold M78.tailS
   rw[<-q1u,<-q1u]
  rw[eL,q0c,q0c,q0c] at lenL
  have add:∀ {H0:Hp}{row:List Mv}{x:Mv},Same H H0->RowAt H0 l row->row.length<=20->∀ (t:W9),H0 t=none->∃ ps0:List Addr,H0 l=some (.lst (ps0.map V.ref))/\ps0.length<=20/\RowAt (upd (upd H0 t (mT (mm x))) l (.lst (ps0.map V.ref++[V.ref t]))) l (row++[x])/\Same H (upd (upd H0 t (mT (mm x))) l (.lst (ps0.map V.ref++[V.ref t]))):=λ{H0 row x} S0 R0 l0 t ht=>by
   obtain⟨ps0,h0,r0⟩:=R0
   have pl0:ps0.length=row.length:=by have:=Z1c r0;rw[q0a] at this;exact this
   refine⟨ps0,h0,by omega,⟨ps0++[t],by rw[Z0d,q0b];rfl,?_⟩,Z0v (S0.trans (Z0c ht _)) hl⟩
   rw[q0b]
   exact Z3y (Z1u (r0.same (Z0c ht _)) (.cons Z0d .nil)) (Z0c ht _ _ _ h0)
  refine⟨λσ H'=>Same H H'/\RowAt H' l (ls1 m j c++M78.s2 n j c++M78.s3 n j)/\σ=[some (.ref p),some (.int j),some (.int c),some (.ref l),v,some (.int (n.2.2:Nat)),some (.int (kpt n j:Nat))],?_,?_⟩
  ·refine⟨_,Z,_,Z,Z,_,Z,neI (λne=>?_) (λeq=>⟨S3,?_,Z⟩)⟩
   ·have ne':kpt n j≠j:=λz=>ne (by rw[z])
    have e3:M78.s3 n j=[.swap (j:Int) (kpt n j:Int)]:=by unfold M78.s3;rw[if_neg ne']
    obtain⟨ps3,h3,r3⟩:=id R3
    refine⟨_,Z,.inl ⟨Z,_,SqL.of h3⟩,_,Z,_,Z,t3,λt ht=>?_⟩
    obtain⟨ps0,h0,l0,R0,S0⟩:=add (x:=.swap (j:Int) (kpt n j:Int)) S3 R3 (by rw[q0c];omega) t ht
    refine⟨l,_,_,Z,Z,Z0c ht _ _ _ h0,?_,S0,?_,Z⟩
    ·rw[q0a]
     exact q2d l0 (by decide)
    ·rw[e3]
     exact R0
   ·have eq':kpt n j=j:=by omega
    have e3:M78.s3 n j=[]:=by unfold M78.s3;rw[if_pos eq']
    rw[e3,q3f]
    exact R3
  rintro σ H4 ⟨S4,R4,rfl⟩
  obtain⟨v3,b3⟩:=Z5k o3
  have emv:mvds (ls1 m j c++M78.s2 n j c++M78.s3 n j) m=mvds (M78.s2 n j c++M78.s3 n j) n:=by rw[q1u,M77.Z1h,en]
  refine⟨λσ H'=>Same H H'/\RowAt H' l (layS m j c)/\σ=[some (.ref p),some (.int j),some (.int c),some (.ref l),v,some (.int (n.2.2:Nat)),some (.int (kpt n j:Nat))],?_,?_⟩
  ·refine⟨_,Z,_,Z,p,l,m,_,c,Z,S4.tup S,R4,o,c6,v3,b3,by rw[q0c,q0c];omega,λr0 H5 S5 h5=>?_⟩
   rw[emv] at h5
   refine⟨r0,_,_,.int ((mvds (M78.s2 n j c++M78.s3 n j) n).1:Nat),Z,Z,h5,k0,Z,_,Z,neI (λne=>?_) (λeq=>⟨S4.trans S5,?_,Z⟩)⟩
   ·have ne':(mvds (M78.s2 n j c++M78.s3 n j) n).1≠0:=λz=>ne (by rw[z];rfl)
    have e4:M78.s4 n j c=[.flip (j:Int)]:=by unfold M78.s4;rw[if_neg ne']
    have R5:=R4.same S5
    obtain⟨ps5,h5',r5⟩:=id R5
    refine⟨_,Z,.inl ⟨Z,_,SqL.of h5'⟩,_,Z,t2,λt ht=>?_⟩
    obtain⟨ps0,h0,l0,R0,S0⟩:=add (x:=.flip (j:Int)) (S4.trans S5) R5 (by rw[q0c,q0c];omega) t ht
    refine⟨l,_,_,Z,Z,Z0c ht _ _ _ h0,?_,S0,?_,Z⟩
    ·rw[q0a]
     exact q2d l0 (by decide)
    ·rw[eL,e4]
     exact R0
   ·have eq':(mvds (M78.s2 n j c++M78.s3 n j) n).1=0:=by omega
    have e4:M78.s4 n j c=[]:=by unfold M78.s4;rw[if_pos eq']
    rw[eL,e4,q3f]
    exact R4.same S5
  rintro σ H5 ⟨S5,R5,rfl⟩
  exact⟨_,Z,q l H5 hl S5 R5⟩
def spLayF (K:U0):Sp:=λvs H Q _=>∃ (p:W9) (m:Mk) (j c:Nat),vs=[.ref p,.int j,.int c]/\SqT K H p (mkL m)/\OkK c m/\c<=6/\j<c/\ev m=0/\(∀ i,i<j->m.2.1.testBit i=false/\m.2.2.testBit i=false)/\m.2.1.testBit j=true ∧
 ∀ (r:W9) (H':Hp),H r=none->Same H H'->RowAt H' r (layF m j c)->Q (.ref r) H'
theorem sc_layF:FnScope ["mark","cell","cells","row","each","flips"] ["mark","cell","cells"] (Z0h (top 66)):=fS
theorem X5h (F:FunAt K "layer_to_flip" (top 66) .none)(X:K.In h)(G:Ng h mg)(B:Bs mg)(d9:Cal P w K mg base k "moves_to_flip" ["letter","cell"] spMtf)(cT:Cal P w K mg base k "cell_sign" ["mark","cell"] (spSgn K))(c5:Cal P w K mg base k "moved_through" ["mark","row"] (Z3w K)):Cal P w K mg base (k+1) "layer_to_flip" ["mark","cell","cells"] (spLayF K):=by
 have nd:=sc_layF.nd
 refine F.cal X G sc_layF (bnd3 λ_ _ _ _ _ _ _ _ _=>rfl) (λvs H Q E h=>?_) (λfa cdv A outer s H vs Q E hr h=>?_)
 ·obtain⟨p,m,j,c,rfl,_⟩:=h;rfl
 obtain⟨p,m,j,c,rfl,S,o,c6,jc,e,z,nz,q⟩:=h
 obtain⟨_,_,ly2,ly3⟩:=M80.Y1y c6 jc hbd (⟨o.k,o.f,o.s⟩:M80.Bdm c m) e z nz
 have o1:∀ x∈lf1 m j c,okb j c x=true:=λx hx=>ly2 x (q3c _ hx)
 obtain⟨v1,b1⟩:=Z5k o1
 have len1:(lf1 m j c).length<=200:=by
  unfold layF at ly3
  rw[q0c] at ly3
  omega
 have on:=Z8t v1 o
 refine⟨_,(@Z0g _ _ _ _ _ (@Z0o _ _ 3 _ _ _ _ nd rfl (Or.inl rfl) (@Z1s _ _ _ _ Z0e) rfl (.inl rfl))
  (@Z0g _ _ _ _ _ (Z2r PassesOwn.never rfl (Y0a rfl B.range (Z0a (pv 1) (Z0a (pv 2) Z0e))) (Z0w (i:=4) nd rfl (Or.inl rfl))
   (@Z0f _ _ _ (Z2i (Z6a q1k q2z q2y Z4e (pv 3) (Z0a (Z0k d9 hr rfl (Z0a (Z0k cT hr rfl (Z0a (pv 0) (Z0a (pv 4) Z0e))) (Z0a (pv 4) Z0e))) Z0e)))))
  (@Z0r _ _ _ _ _ (@Z0o _ _ 5 _ _ _ _ nd rfl (Or.inr rfl) (Z0m Z0l (Z0k c5 hr rfl (Z0a (pv 0) (Z0a (pv 3) Z0e))) Z0b (λ_ _=>rfl)) rfl (.inl rfl))
  (@Z0r _ _ _ _ _ (Z2i (Z6a q1k q2z q2y Z4e (pv 3) (Z0a (X2q rfl (LcOk.of (Nc:=["each","cell","flips"]) (mp:=[none,some 1,some 5]) (by kernel_rfl)) (Z1k rfl B.range (Z0a (pv 2) Z0e)) (λ_ _ _ _=>(Z0w (i:=0) (show (["each","cell","flips"]:W0).Nodup by decide +kernel) rfl (Or.inl rfl))) (λ_ _ _ _=>(PW.pt (Z5w (Z0n Z5a (pv 0) (pv 1) (nomark _)) (Z4a (Z2l (Z0i Z1t (Z0i Z4z (pv 2) (pv 0)) Z0b) (by intro _;rfl)))))) (λ_ _ _ _=>(@Z1a _ _ _ _ _ (Z0a Z0x (Z0a (pv 1) (Z0a (pv 0) Z0e)))))) Z0e)))
  (@Z0r _ _ _ _ _ (Z0y (Z0n Z5a (Z0m Z0l (Z0k c5 hr rfl (Z0a (pv 0) (Z0a (pv 3) Z0e))) Z0b (λ_ _=>rfl)) Z0b (nomark _))
   (@Z0f _ _ _ (Z2i (Z6a q1k q2c q2b Z2j (pv 3) (Z0a (@Z1a _ _ _ _ _ (Z0a Z0x (Z0a (pv 1) (Z0a Z0b Z0e)))) Z0e))))
   Z0p)
  (@Z0f _ _ _ (Z0j (pv 3)))))))),?_⟩
 try dsimp only[cxK]
 refine⟨q1e _,λl hl=>?_⟩
 refine⟨_,Z,_,Z,_,_,Z,⟨by omega,by omega,by omega,by omega⟩,?_⟩
 rw[show ((c:Int)-(j:Int)).toNat=c-j by omega]
 refine Z1y (lo:=(j:Int)) (n:=c-j) (λi σ H'=>∃ v:Option V,Same H H'/\RowAt H' l ((rg j i).flatMap (mtf m))/\σ=[some (.ref p),some (.int j),some (.int c),some (.ref l),v,none])
  ⟨none,Z0c hl _,⟨[],Z0d,.nil⟩,Z⟩ ?_ ?_
 ·rintro i σ H1 hi ⟨v,S1,⟨ps,h1,r1⟩,rfl⟩
  have ei:((j:Int)+(i:Int))=((i+j:Nat):Int):=by omega
  have pl:ps.length<=1*i:=by
   have:=Z1c r1
   rw[q0a] at this
   have r:=M80.Y0m (M80.Y1t m) (rg j i)
   have rl:(rg j i).length=i:=by unfold rg;rw[q0a,q5j]
   rw[rl] at r
   omega
  refine⟨_,Z,.inl ⟨Z,_,SqL.of h1⟩,_,Z,_,Z,p,m,i+j,by rw[ei];rfl,S1.tup S,_,Z,m.2.1.testBit (i+j),m.2.2.testBit (i+j),i+j,m,by rw[ei];rfl,Z,Z,λr H2 nr S2 R2=>?_⟩
  obtain⟨qs,h2,r2⟩:=R2
  have ql:qs.length<=1:=by
   have:=Z1c r2
   rw[q0a] at this
   have:=M80.Y1t m (i+j)
   omega
  refine⟨l,r,_,_,Z,Z,S2 _ _ h1,h2,?_,?_⟩
  ·rw[q0a,q0a]
   exact q0u (show _<=100 by omega) (by decide)
  refine⟨_,Z0v (S1.trans S2) hl,?_,Z⟩
  rw[Y6l,List.flatMap_append]
  have:=Z8o (more:=[i+j].flatMap (mtf m)) (S2 _ _ h1) (r1.same S2) (by rw[q3t,List.flatMap_nil,q3f];exact r2)
  exact this
 ·rintro σ H1 ⟨v,S1,R1,rfl⟩
  have R1:RowAt H1 l (lf1 m j c):=R1
  obtain⟨n,en⟩:∃ n,mvds (lf1 m j c) m=n:=⟨_,Z⟩
  rw[en] at on
  have lay:layF m j c=lf1 m j c++M78.tailF n j c:=by unfold layF;rw[en]
  refine⟨λσ H'=>Same H1 H'/\σ=[some (.ref p),some (.int j),some (.int c),some (.ref l),v,some (.int (n.2.1:Nat))],?_,?_⟩
  ·refine⟨_,Z,_,Z,p,l,m,lf1 m j c,c,Z,S1.tup S,R1,o,c6,v1,b1,len1,λr0 H2 S2 h2=>?_⟩
   rw[en] at h2
   exact⟨r0,_,_,.int (n.2.1:Nat),Z,Z,h2,k1,S2,Z⟩
  rintro σ H2 ⟨S2,rfl⟩
  obtain⟨ps,h2,r2⟩:=R1.same S2
  have pl:ps.length=(lf1 m j c).length:=by have:=Z1c r2;rw[q0a] at this;exact this
  refine⟨λσ H'=>Same H H'/\RowAt H' l (lf1 m j c++M78.f2 n j c)/\σ=[some (.ref p),some (.int j),some (.int c),some (.ref l),v,some (.int (n.2.1:Nat))],?_,?_⟩
  ·refine⟨_,Z,.inl ⟨Z,_,SqL.of h2⟩,_,Z,_,Z,by omega,by omega,λacc hacc=>?_⟩
   rw[q1h]
   have ga:acc≠l:=λz=>by rw[z,h2] at hacc;cases hacc
   refine Y0i (n:=c) (fr:=[some (.int (j:Nat)),some (.int (n.2.1:Nat))]) (λi ys H'=>Same H2 H'/\H' acc=some (.lst ys)/\∃ qs:List Addr,ys=qs.map V.ref/\RowsM H' qs ((((List.range i).filter λe=>decide (e≠j) && n.2.1.testBit e).map λ(e:Nat)=>Mv.iff (j:Int) (e:Int)).map mm)/\qs.length<=i) (t64 (by omega)) ⟨Z0c hacc _,Z0d,[],Z,.nil,q0f _⟩ ?_ (λhm z=>?_) ?_
   ·rintro i ys H5 N hi hly ⟨S5,a5,qs,rfl,M5,ql⟩ kN
    have z0:(0:Int)+(i:Int)=(i:Int):=q2x _
    have stay:(decide (i≠j) && n.2.1.testBit i)=false->Same H2 H5/\H5 acc=some (.lst (qs.map V.ref))/\∃ qs':List Addr,qs.map V.ref=qs'.map V.ref/\RowsM H5 qs' ((((List.range (i+1)).filter λe=>decide (e≠j) && n.2.1.testBit e).map λ(e:Nat)=>Mv.iff (j:Int) (e:Int)).map mm)/\qs'.length<=i+1:=λhP=>by
     refine⟨S5,a5,qs,Z,?_,by omega⟩
     rw[q2o,q5e,q7i (by rw[hP];decide),q6i,q3f]
     exact M5
    refine⟨_,Z,_,Z,Z,_,Z,neI (λne=>?_) (λeq=>kN _ _ (λz=>(nomatch z)) (λ_=>stay ?_))⟩
    ·refine⟨_,Z,_,Z,_,_,Z,Z,(by show (0:Int)<=0+(i:Int);omega),_,_,Z,Z,_,Z,?_⟩
     show N (Builtin.bitAnd ((n.2.1:Int) / 2^(0+(i:Int)).toNat) 1 != 0) H5
     rw[z0,bt1]
     have ne':i≠j:=λz=>ne (by rw[z0,z])
     refine kN _ _ (λhb=>?_) (λhb=>stay ?_)
     ·have hP:(decide (i≠j) && n.2.1.testBit i)=true:=by
       rw[q0j ne',q6e]
       cases q:n.2.1.testBit i with
       | true=>rfl
       | false=>rw[q] at hb;cases hb
      refine⟨_,Z,_,Z,t3,λt ht=>⟨Z0c ht _ _ _ a5,Z0v (S5.trans (Z0c ht _)) hacc,Z0d,qs++[t],by rw[q0b];rfl,?_,by rw[q0c,q5t];omega⟩⟩
      rw[q2o,q5e,q7h (p:=λe=>decide (e≠j) && n.2.1.testBit e) hP,q6i,q0b,q0b]
      refine Z3y (Z1u (M5.same (Z0c ht _)) (.cons ?_ .nil)) (Z0c ht _ _ _ a5)
      rw[Z0d,z0]
      rfl
     ·cases q:n.2.1.testBit i with
      | true=>rw[q] at hb;cases hb
      | false=>rw[q6y]
    ·have:i=j:=by rw[z0] at eq;omega
     rw[q0e (λz=>z this),q3z]
   ·obtain⟨u,e1,u2,e2,hl2,z⟩:=z
    exact⟨u,e1,u2,e2,hl2,λt ht=>hm _ _ (z t ht)⟩
   ·rintro ys H5 ⟨S5,a5,qs,rfl,M5,ql⟩
    refine⟨l,acc,_,_,Z,Z,S5 _ _ h2,a5,?_,Z0v ((S1.trans S2).trans S5) hl,Z8o (S5 _ _ h2) (r2.same S5) M5,Z⟩
    rw[q0a,q0a]
    exact q0u (show _<=300 by omega) (by decide)
  rintro σ H4 ⟨S4,R4,rfl⟩
  have o3:∀ x∈lf1 m j c++M78.f2 n j c,okb j c x=true:=λx hx=>ly2 x (by
   rw[lay]
   unfold M78.tailF
   rw[<-q1u]
   exact q3c _ hx)
  have lenL:(layF m j c).length<=20:=by omega
  have eL:layF m j c=lf1 m j c++M78.f2 n j c++M78.f3 n j c:=by
   rw[lay]
   unfold M78.tailF
   rw[<-q1u]
  rw[eL,q0c,q0c] at lenL
  have add:∀ {H0:Hp}{row:List Mv}{x:Mv},Same H H0->RowAt H0 l row->row.length<=20->∀ (t:W9),H0 t=none->∃ ps0:List Addr,H0 l=some (.lst (ps0.map V.ref))/\ps0.length<=20/\RowAt (upd (upd H0 t (mT (mm x))) l (.lst (ps0.map V.ref++[V.ref t]))) l (row++[x])/\Same H (upd (upd H0 t (mT (mm x))) l (.lst (ps0.map V.ref++[V.ref t]))):=λ{H0 row x} S0 R0 l0 t ht=>by
   obtain⟨ps0,h0,r0⟩:=R0
   have pl0:ps0.length=row.length:=by have:=Z1c r0;rw[q0a] at this;exact this
   refine⟨ps0,h0,by omega,⟨ps0++[t],by rw[Z0d,q0b];rfl,?_⟩,Z0v (S0.trans (Z0c ht _)) hl⟩
   rw[q0b]
   exact Z3y (Z1u (r0.same (Z0c ht _)) (.cons Z0d .nil)) (Z0c ht _ _ _ h0)
  obtain⟨v3,b3⟩:=Z5k o3
  have emv:mvds (lf1 m j c++M78.f2 n j c) m=mvds (M78.f2 n j c) n:=by rw[M77.Z1h,en]
  refine⟨λσ H'=>Same H H'/\RowAt H' l (layF m j c)/\σ=[some (.ref p),some (.int j),some (.int c),some (.ref l),v,some (.int (n.2.1:Nat))],?_,?_⟩
  ·refine⟨_,Z,_,Z,p,l,m,_,c,Z,S4.tup S,R4,o,c6,v3,b3,by rw[q0c];omega,λr0 H5 S5 h5=>?_⟩
   rw[emv] at h5
   refine⟨r0,_,_,.int ((mvds (M78.f2 n j c) n).1:Nat),Z,Z,h5,k0,Z,_,Z,neI (λne=>?_) (λeq=>⟨S4.trans S5,?_,Z⟩)⟩
   ·have ne':(mvds (M78.f2 n j c) n).1≠0:=λz=>ne (by rw[z];rfl)
    have e4:M78.f3 n j c=[.turn (j:Int) 4]:=by unfold M78.f3;rw[if_neg ne']
    have R5:=R4.same S5
    obtain⟨ps5,h5',r5⟩:=id R5
    refine⟨_,Z,.inl ⟨Z,_,SqL.of h5'⟩,_,Z,t3,λt ht=>?_⟩
    obtain⟨ps0,h0,l0,R0,S0⟩:=add (x:=.turn (j:Int) 4) (S4.trans S5) R5 (by rw[q0c];omega) t ht
    refine⟨l,_,_,Z,Z,Z0c ht _ _ _ h0,?_,S0,?_,Z⟩
    ·rw[q0a]
     exact q2d l0 (by decide)
    ·rw[eL,e4]
     exact R0
   ·have eq':(mvds (M78.f2 n j c) n).1=0:=by omega
    have e4:M78.f3 n j c=[]:=by unfold M78.f3;rw[if_pos eq']
    rw[eL,e4,q3f]
    exact R4.same S5
  rintro σ H5 ⟨S5,R5,rfl⟩
  exact⟨_,Z,q l H5 hl S5 R5⟩
end
end K55S
namespace M81
open M71 Mv M72 M75 M77 M78 M79 M80
noncomputable def gk (L:List Mk)(k:Nat):Mk:=L.getD k (0,0,0)
theorem Z7h {L:List Mk}{k:Nat}{m:Mk}(h:L[k]?=some m):gk L k=m:=by
 unfold gk
 rw[q1b,h]
 rfl
theorem W2i {L:List Mk}{k:Nat}(h:k<L.length):L[k]?=some (gk L k):=by
 rw[q0d h]
 exact congrArg some (Z7h (q0d h)).symm
theorem Y8n {L:List Mk}{m:Mk}(h:m∈L):∃ k,k<L.length/\gk L k=m:=by
 obtain⟨k,hk,e⟩:=List.getElem_of_mem h
 exact⟨k,hk,Z7h (by rw[q0d hk,e])⟩
theorem X9x {L:List Mk}{k:Nat}(h:k<L.length):gk L k∈L:=by
 have e:=Z7h (q0d h)
 rw[e]
 exact q5y h
noncomputable def alk (L:List Mk)(c i:Nat):Bool:=(List.range (2*c)).all λk=>cm (gk L k) (gk L i) == cm (pl k) (pl i)
noncomputable def imgB (L:List Mk)(c:Nat):Bool:=decide (L.length=2*c) && ((L.all λm=>decide (ev m=0)) && (List.range (2*c)).all (alk L c))
theorem X6q {L:List Mk}{c:Nat}(l:L.length=2*c)(I:Img (gk L) c):imgB L c=true:=by
 unfold imgB
 rw[q0j l,q6e,q0m,q1c,q1c]
 refine⟨λm hm=>?_,λi hi=>?_⟩
 ·obtain⟨k,hk,rfl⟩:=Y8n hm
  exact q0j (I.ev k (by omega))
 ·unfold alk
  rw[q1c]
  intro k hk
  rw[q5h]
  exact I.cm k i (q0s.mp hk) (q0s.mp hi)
theorem X6w {L:List Mk}{c:Nat}(l:L.length≠2*c):imgB L c=false:=by
 unfold imgB
 rw[q0e l,q3z]
section
variable {L:List Mk}{c a:Nat} (l:L.length=2*c) (I:Img (gk L) c) (ha:a<2*c)
include l I ha
end
theorem Y0k {L:List Mk}{f:Mk->Mk}{k:Nat}(h:k<L.length):gk (L.map f) k=f (gk L k):=by
 refine Z7h ?_
 rw[q0k,W2i h]
 rfl
theorem X6p {L:List Mk}{c:Nat}{f:Mk->Mk}(l:L.length=2*c)(I:Img (gk L) c)(hb:∀ m,Bdm c m->Bdm c (f m))(he:∀ m,ev m=0->ev (f m)=0)(hc:∀ m n,cm (f m) (f n)=cm m n):Img (gk (L.map f)) c where
 bd:=λk hk=>by rw[Y0k (by omega)];exact hb _ (I.bd k hk)
 ev:=λk hk=>by rw[Y0k (by omega)];exact he _ (I.ev k hk)
 cm:=λk i hk hi=>by rw[Y0k (by omega),Y0k (by omega),hc];exact I.cm k i hk hi
theorem X9w {c:Nat}:Img pl c where
 bd:=λk hk=>by
  have lt:2^(k / 2)<2^c:=q3m (by decide) (by omega)
  have p:=q2f c
  unfold pl
  split
  ·exact⟨(show 0<4 by decide),p,lt⟩
  ·exact⟨(show 0<4 by decide),lt,p⟩
 ev:=λk hk=>by
  unfold pl
  split
  ·show (0+M75.bn (bp (0&&&_)))%2=0
   rw[q3u,Z2q]
   rfl
  ·show (0+M75.bn (bp (_&&&0)))%2=0
   rw[q6t,Z2q]
   rfl
 cm:=λk i _ _=>rfl
theorem Y8j {f g:Nat->Mk}{c:Nat}(h:∀ k,k<2*c->f k=g k)(I:Img g c):Img f c where
 bd:=λk hk=>by rw[h k hk];exact I.bd k hk
 ev:=λk hk=>by rw[h k hk];exact I.ev k hk
 cm:=λk i hk hi=>by rw[h k hk,h i hi];exact I.cm k i hk hi
theorem Y3y {c k:Nat}(h:k<2*c):gk (pmk c) k=pl k:=Z7h (Z2m h)
theorem X6n (c:Nat):Img (gk (pmk c)) c:=Y8j (λ_ h=>Y3y h) X9w
structure Pre (ms:Nat->Mk) (c j:Nat):Prop where
 o0:∀ x∈rb ms c j,okb 0 c x=true
 l0:(rb ms c j).length<=190
 b1:Bdm c (mvds (rb ms c j) (ms (2*j+1)))
 e1:M75.ev (mvds (rb ms c j) (ms (2*j+1)))=0
 z1:∀ i,i<j->(mvds (rb ms c j) (ms (2*j+1))).2.1.testBit i=false/\(mvds (rb ms c j) (ms (2*j+1))).2.2.testBit i=false
 n1:¬ ((mvds (rb ms c j) (ms (2*j+1))).2.1=0/\(mvds (rb ms c j) (ms (2*j+1))).2.2=0)
 o1:∀ x∈rb ms c j++layS (mvds (rb ms c j) (ms (2*j+1))) j c,okb 0 c x=true
 l1:(rb ms c j++layS (mvds (rb ms c j) (ms (2*j+1))) j c).length<=190
 b2:Bdm c (mvds (rb ms c j++layS (mvds (rb ms c j) (ms (2*j+1))) j c) (ms (2*j)))
 e2:M75.ev (mvds (rb ms c j++layS (mvds (rb ms c j) (ms (2*j+1))) j c) (ms (2*j)))=0
 z2:∀ i,i<j->(mvds (rb ms c j++layS (mvds (rb ms c j) (ms (2*j+1))) j c) (ms (2*j))).2.1.testBit i=false/\(mvds (rb ms c j++layS (mvds (rb ms c j) (ms (2*j+1))) j c) (ms (2*j))).2.2.testBit i=false
 n2:(mvds (rb ms c j++layS (mvds (rb ms c j) (ms (2*j+1))) j c) (ms (2*j))).2.1.testBit j=true
theorem X7x {ms:Nat->Mk}{c:Nat}(c6:c<=6)(hb:∀ (x:Mv) (m:Mk),VOk c x->Bdm c m->Bdm c (mvd x m))(I:Img ms c)(j:Nat)(hj:j<c):Pre ms c j:=by
 obtain⟨ok,ln,fx⟩:=Y6n c6 hb I j (by omega)
 obtain⟨ok',ln',_⟩:=Y6n c6 hb I (j+1) (by omega)
 have lj:(rb ms c (j+1)).length<=190:=by
  refine q0u ln' (q0u (q4o (show j+1<=6 by omega) (show 5*c+1<=31 by omega)) (by decide))
 have er:rb ms c (j+1)=rb ms c j++layS (mvds (rb ms c j) (ms (2*j+1))) j c++layF (mvds (rb ms c j++layS (mvds (rb ms c j) (ms (2*j+1))) j c) (ms (2*j))) j c:=rfl
 rw[er,q0c,q0c] at lj
 have hbs:∀ {row:List Mv}{m:Mk},(∀ x∈row,okb 0 c x=true)->Bdm c m->Bdm c (mvds row m):=λ{row}=>by
  induction row with
  | nil=>exact λ_ h=>h
  | cons x r ih=>exact λo h=>ih (λy hy=>o y (.tail _ hy)) (hb x _ (Z2p (o x (.head _))).1 h)
 have oks:∀ {row:List Mv},(∀ x∈row,okb 0 c x=true)->(∀ x∈row,Ok x)/\∀ x∈row,Br x:=λh=>⟨λx hx=>(Z2p (h x hx)).1.1,λx hx=>(Z2p (h x hx)).2.1⟩
 have zb:∀ {row:List Mv},(∀ x∈row,okb 0 c x=true)->(∀ i,i<2*j->mvds row (ms i)=pl i)->∀ k,2*j<=k->k<2*c->∀ i,i<j->(mvds row (ms k)).2.1.testBit i=false/\(mvds row (ms k)).2.2.testBit i=false:=λ{row} o f k hk kc i hi=>by
  obtain⟨o1,o2⟩:=oks o
  constructor
  ·have h:=Z3f (row:=row) (ms k) (ms (2*i+1)) o1 o2
   rw[f (2*i+1) (by omega),I.cm k (2*i+1) kc (by omega),Y0q] at h
   have e:pl (2*i+1)=(0,0,2^i):=by unfold pl;rw[if_pos (by omega),show (2*i+1) / 2=i by omega]
   rw[e,cm_s] at h
   rw[h]
   exact q0e (by omega)
  ·have h:=Z3f (row:=row) (ms k) (ms (2*i)) o1 o2
   rw[f (2*i) (by omega),I.cm k (2*i) kc (by omega),Y0q] at h
   have e:pl (2*i)=(0,2^i,0):=by unfold pl;rw[if_neg (by omega),show 2*i / 2=i by omega]
   rw[e,cm_f] at h
   rw[h]
   exact q0e (by omega)
 obtain⟨o1,o2⟩:=oks ok
 have b1:Bdm c (mvds (rb ms c j) (ms (2*j+1))):=hbs ok (I.bd _ (by omega))
 have e1:M75.ev (mvds (rb ms c j) (ms (2*j+1)))=0:=(Z4h _ o1 o2).trans (I.ev _ (by omega))
 have z1:=zb ok fx (2*j+1) (by omega) (by omega)
 have n1:¬ ((mvds (rb ms c j) (ms (2*j+1))).2.1=0/\(mvds (rb ms c j) (ms (2*j+1))).2.2=0):=by
  rintro ⟨a,b⟩
  have h:=Z3f (row:=rb ms c j) (ms (2*j+1)) (ms (2*j)) o1 o2
  rw[I.cm _ _ (by omega) (by omega),Y0q,q0j (by omega)] at h
  unfold M79.cm at h
  rw[a,b,q3u,q3u,Z2q] at h
  exact absurd h (by decide)
 obtain⟨s1,s2,s3⟩:=Y1x c6 (by omega) hb b1 e1 z1 n1
 have up:∀ {x:Mv},okb j c x=true->okb 0 c x=true:=λ{x} h=>by
  cases x<;>simp only[okb,q0m,q2p,q1a,q3j] at h ⊢<;>omega
 have okr1:∀ x∈rb ms c j++layS (mvds (rb ms c j) (ms (2*j+1))) j c,okb 0 c x=true:=λx hx=>(q0v.mp hx).elim (ok x) λh=>up (s2 x h)
 have fx1:∀ i,i<2*j->mvds (rb ms c j++layS (mvds (rb ms c j) (ms (2*j+1))) j c) (ms i)=pl i:=λi hi=>by
  rw[Z1h,fx i hi]
  refine Z6j (j:=j) (c:=c) (i:=i / 2) (by omega) ?_ s2
  unfold pl
  split
  ·exact .inl rfl
  ·exact .inr rfl
 have at1:mvds (rb ms c j++layS (mvds (rb ms c j) (ms (2*j+1))) j c) (ms (2*j+1))=(0,0,2^j):=by rw[Z1h];exact s1
 obtain⟨p1,p2⟩:=oks okr1
 refine⟨ok,by omega,b1,e1,z1,n1,okr1,by rw[q0c];omega,hbs okr1 (I.bd _ (by omega)),(Z4h _ p1 p2).trans (I.ev _ (by omega)),zb okr1 fx1 (2*j) (by omega) (by omega),?_⟩
 have h:=Z3f (row:=rb ms c j++layS (mvds (rb ms c j) (ms (2*j+1))) j c) (ms (2*j)) (ms (2*j+1)) p1 p2
 rw[I.cm _ _ (by omega) (by omega),Y0q,q0j (by omega),at1,cm_s] at h
 exact h
end M81
namespace Fx
section
variable {fs xs:U3}{h h1 h2:Heap}
end
section
variable {M:Model}{A:W6}{E:U2}{s:U7}
end
end Fx
namespace L2
open Fx
section
variable {X:Cx}{pins:U1}{σ:St}{H:Hp}{s:U7}{E:XK}
end
section
variable {X:Cx}{E:XK}{x:Str}{C:W9}{e:Expr}{es:List Expr}{t:TA}{np cpos pos:Pos}{bm:U5}
end
end L2
namespace PySem
section
variable {M:Model}{A:W6}{E:U2}
end
end PySem
namespace L2
open Fx
section
variable {X:Cx}{E:XK}
end
end L2
namespace PySem.W
open PySem.Calls Builtin Builtin.ObjectAttr
section
variable {prog:U8}{w:W1}{A:W6}{E:U2}{K:Frag}{x C:W9}{s:U7}{R:Result->Shared->Prop}
end
end PySem.W
namespace PySem.W
open PySem.Calls
section
variable {prog:U8}{w:W1}{A:W6}{E:U2}{K:Frag}{x D:W9}{ox:Obj}{od:Option Obj}
end
end PySem.W
namespace L2
section
variable {X:Cx}{pins:U1}{σ:St}{H:Hp}{s:U7}
end
end L2
namespace PySem
open PySem.Sem (wp)
section
variable {prog:U8}{w:W1}{A:W6}{E:U2}{h:Heap}{g:Array GenState}{d:Drawn}{t:Nat}{os:OsState}
variable {nm q:Str}{C N:W9}{bs bm bmB:U5}{hdct:Bool}{sn:W0}{sub:U5}{ab:Bool}{col:Option Bool}{dd:W5}{k0 k1 k2 k3 k5:Option Value}{B newId initId:String}
end
end PySem
namespace PySem
section
variable {M:Model}{A:W6}{E:U2}{env:Env}
variable {nm q:Str}{C N:W9}{bs bm:U5}{hdct:Bool}{sn:W0}{sub:U5}{ab:Bool}{col:Option Bool}{dd:W5}{k0 k1 k2 k3 k5:Option Value}{newId:String}
end
end PySem
namespace L2
open Fx
section
variable {X:Cx}{pins:U1}{σ:St}{H:Hp}{s:U7}
end
section
variable {X:Cx}{pins:U1}{σ:St}{H:Hp}{s:U7}
end
section
variable {X:Cx}{E:XK}{x f:Str}{C:W9}{e:Expr}{es:List Expr}{t:TA}{np cpos pos:Pos}{bm:U5}{k:Nat}
end
section
variable {X:Cx}
end
section
variable {X:Cx}{k:Nat}{x:Str}{ps:W0}{sp:Sp}{p pos:Pos}{e:Expr}{es:List Expr}{t:TA}{E:XK}
end
section
variable {P:U8}{w:W1}{K:U0}{mg:U4}{base:Heap}
end
section
variable {X:Cx}{E:XK}{pins:U1}{σ:St}{H:Hp}{s:U7}
end
end L2
namespace K55S
open L2 Ba Am Pc M71
open K75 (top Bs)
open M72 (VOk)
open M75 (Mk mvd mvds Br bn bp ev)
open M77 (pmk Z1g Z2m bk)
open M78 (layS layF okb)
open M79 (cm pl bwd)
open M80 (rb Img Bdm)
open M81 (gk alk imgB Pre)
theorem X9l (K:U0):PySem.W.kitOne K (.type "list") (.type "list")=some true:=by unfold PySem.W.kitOne;rw[if_pos (by decide)]
theorem MksAt.same {K:U0}{H H':Hp}{l:W9}{ps:U3}{L:List Mk}(h:MksAt K H l ps L)(s:Same H H'):MksAt K H' l ps L:=⟨s _ _ h.1,Z4w (λ_ _ e=>s.tup e) h.2⟩
theorem MksAt.at {K:U0}{H:Hp}{l:W9}{ps:U3}{L:List Mk}{i:Nat}(h:MksAt K H l ps L)(hi:i<L.length):∃ p,ps[i]?=some p/\SqT K H p (mkL (gk L i)):=by
 have pl:=Z2w h.2
 have e:ps[i]?=some (ps[i]'(by omega)):=q0d (by omega)
 obtain⟨m,hm,s⟩:=Z4c h.2 e
 rw[M81.Z7h hm]
 exact⟨_,e,s⟩
theorem W2o (a b:Bool):decide (V.bl (!a)=V.bl (!b))=(a == b):=by cases a<;>cases b<;>decide
theorem X1m {K:U0}{a:W9}{ps:U3}{L:List Mk}{te:TE}{fr:L2.St}{H1:Hp}{acc:W9}{Q:VK}(f:Mk->Bool)(M:MksAt K H1 a ps L)(hn:L.length<=13)(hacc:H1 acc=none)
  (hs:∀ p m H (N:V->Hp->Prop),m∈L->Same H1 H->SqT K H p (mkL m)->N (.bl (f m)) H->te (some (.ref p)::fr) H N)
  (hd:∀ H2,Same H1 H2->H2 acc=some (.lst ((L.map f).map V.bl))->Q (.ref acc) H2):LcW (Itl K a) (gName 0) te (none::fr) H1 acc Q:=by
 have pl:=Z2w M.2
 have S:SqL K H1 a (ps.map V.ref):=SqL.of M.1
 refine Z5m (xs:=ps.map V.ref) (λi ys H'=>Same H1 H'/\H' acc=some (.lst ys)/\ys=((L.take i).map f).map V.bl) (by rw[q0a];exact q0u (show _<=13 by omega) (by decide))
  ⟨Z0c hacc _,Z0d,Z⟩ (λi ys H' e=>e.1.seq S) ?_ ?_
 ·rintro i x ys H' N hx hy ⟨s1,a1,rfl⟩ kN
  rw[q0k] at hx
  obtain⟨p,hp,rfl⟩:=q0x.mp hx
  obtain⟨m,hm,em⟩:=Z4c M.2 hp
  refine hs p m H' N (q2r hm) s1 (s1.tup em) (kN _ _ a1 ⟨Z0v s1 hacc,Z0d,?_⟩)
  rw[q1y,hm,q4c,q0b,q0b]
  rfl
 ·rintro ys H' hy ⟨s1,a1,rfl⟩
  rw[q0a,q1d (by omega)] at a1
  exact hd H' s1 a1
def spAlk (K:U0):Sp:=λvs H Q _=>∃ (l lp:W9) (ps pp:U3) (L:List Mk) (c i:Nat),vs=[.ref l,.ref lp,.int i]/\MksAt K H l ps L/\MksAt K H lp pp (pmk c)/\L.length=2*c/\c<=6/\i<2*c/\∀ H':Hp,Same H H'->Q (.bl (alk L c i)) H'
def spAI (K:U0):Sp:=λvs H Q _=>∃ (l:W9) (ps:U3) (L:List Mk) (c:Nat),vs=[.ref l,.int c]/\MksAt K H l ps L/\L.length<=13/\c<=6/\(∀ m∈L,OkK c m)/\∀ H':Hp,Same H H'->Q (.bl (imgB L c)) H'
def spReb (K:U0):Sp:=λvs H Q _=>∃ (l:W9) (ps:U3) (L:List Mk) (c:Nat),vs=[.ref l,.int c]/\MksAt K H l ps L/\L.length=2*c/\c<=6/\Img (gk L) c/\∀ (r:W9) (H':Hp),H r=none->Same H H'->RowAt H' r (bwd (rb (gk L) c c))->Q (.ref r) H'
theorem X6o {L:List Mk}{c:Nat}(l:L.length=2*c)(I:Img (gk L) c):∀ m∈L,OkK c m:=λm hm=>by
 obtain⟨k,hk,rfl⟩:=M81.Y8n hm
 have b:=I.bd k (by omega)
 exact⟨b.k,b.f,b.s⟩
section
variable {P:U8}{w:W1}{K:U0}{mg:U4}{base:Heap}{k:Nat}{h:Heap}
theorem sc_calk:FnScope ["marks","plain","place"] ["marks","plain","place"] (Z0h (top 63)):=fS
theorem X5q (F:FunAt K "commute_alike" (top 63) .none)(X:K.In h)(G:Ng h mg)(B:Bs mg)(dG:Cal P w K mg base k "commute" ["one","other"] (spCm K)):Cal P w K mg base (k+1) "commute_alike" ["marks","plain","place"] (spAlk K):=by
 have nd:=sc_calk.nd
 refine F.cal X G sc_calk (bnd3 λ_ _ _ _ _ _ _ _ _=>rfl) (λvs H Q E h=>?_) (λf cdv A outer s H vs Q E hr h=>?_)
 ·obtain⟨l,lp,ps,pp,L,c,i,rfl,_⟩:=h;rfl
 obtain⟨l,lp,ps,pp,L,c,i,rfl,M,N,lL,c6,hi,q⟩:=h
 have p1:=Z2w M.2
 have p2:=Z2w N.2
 rw[Z1g] at p2
 have S1:SqL K H l (ps.map V.ref):=SqL.of M.1
 have S2:SqL K H lp (pp.map V.ref):=SqL.of N.1
 obtain⟨pi,hpi,spi⟩:=M.at (i:=i) (by omega)
 obtain⟨qi,hqi,sqi⟩:=N.at (i:=i) (by rw[Z1g];omega)
 rw[M81.Y3y hi] at sqi
 refine⟨_,(@Z0f _ _ _ (Z0j (Z0q (Z3k rfl) rfl B.all q8i (Z0a (Z4l rfl (LcOk.of (Nc:=["mark","each","marks","plain","place"]) (mp:=[none,none,some 0,some 1,some 2]) (by kernel_rfl)) (X2p false false rfl B.zip (Z0a (pv 0) (Z0a (pv 1) Z0e))) (λ_ _ _ _=>(Z8r rfl (show (["mark","each","marks","plain","place"]:W0).Nodup by decide +kernel) rfl rfl rfl rfl)) (λ_ _ _ _=>(Z1q Z1o (Z0k dG hr rfl (Z0a (pv 0) (Z0a (Z0m Z8w (pv 2) (pv 4) (λ_ _=>rfl)) Z0e))) (Z0k dG hr rfl (Z0a (pv 1) (Z0a (Z0m Z8w (pv 3) (pv 4) (λ_ _=>rfl)) Z0e))) (nomark _)))) Z0e)))),?_⟩
 try dsimp only[cxK]
 refine⟨_,Z,_,Z,l,lp,_,_,Z,S1,S2,λacc hacc=>?_⟩
 refine X2z (K:=K) (t1:=false) (t2:=false) (l1:=l) (l2:=lp) (xs:=ps.map V.ref) (ys:=pp.map V.ref) (fr:=[some (.ref l),some (.ref lp),some (.int i)]) (λj zs H'=>Same H H'/\H' acc=some (.lst zs)/\zs=((List.range j).map λk=>cm (gk L k) (gk L i) == cm (pl k) (pl i)).map V.bl) (by rw[q0a,q0a];omega) (by rw[q0a];exact q0u (show _<=13 by omega) (by decide))
  ⟨Z0c hacc _,Z0d,Z⟩ (λha hQ=>⟨_,_,Z,SqT.of ha,Z,_,_,Z,_,_,Z,Z,hQ⟩) (λj zs H' e=>⟨e.1.seq S1,e.1.seq S2⟩) ?_ ?_
 ·rintro j x y zs H1 T N' hx hy hz ⟨s1,a1,rfl⟩ hT kN
  rw[q0k] at hx hy
  obtain⟨p,hp,rfl⟩:=q0x.mp hx
  obtain⟨p',hp',rfl⟩:=q0x.mp hy
  have jl:j<2*c:=by have:=(q0t.mp hp).1;omega
  obtain⟨m,hm,em⟩:=Z4c M.2 hp
  obtain⟨m',hm',em'⟩:=Z4c N.2 hp'
  have s2:=s1.trans (Z0c hT (.tup [.ref p,.ref p']))
  have a2:=Z0c hT (.tup [.ref p,.ref p']) _ _ a1
  generalize upd H1 T (.tup [.ref p,.ref p'])=H2 at s2 a2 ⊢
  refine⟨_,Z,_,Z,_,Z,l,_,_,.ref pi,Z,Z,s2.seq S1,Z1e (by rw[q0k,hpi];rfl),p,pi,m,gk L i,Z,s2.tup em,s2.tup spi,_,Z,_,Z,_,Z,lp,_,_,.ref qi,Z,Z,s2.seq S2,Z1e (by rw[q0k,hqi];rfl),p',qi,m',pl i,Z,s2.tup em',s2.tup sqi,Z,?_⟩
  rw[W2o]
  refine kN _ _ a2 ⟨Z0v s2 hacc,Z0d,?_⟩
  rw[q2o,q0b,q0b]
  have e1:gk L j=m:=M81.Z7h hm
  have e2:m'=pl j:=by rw[Z2m jl] at hm';exact(Option.some.inj hm').symm
  rw[<-e1,e2]
  rfl
 ·rintro zs H1 hz ⟨s1,a1,rfl⟩
  rw[q0a,p1,lL] at a1
  refine⟨acc,_,Z,SqL.of a1,?_⟩
  have e:(((List.range (2*c)).map λk=>cm (gk L k) (gk L i) == cm (pl k) (pl i)).all id)=alk L c i:=by
   rw[q6w]
   rfl
  rw[e]
  exact q H1 s1
theorem sc_aimg:FnScope ["marks","cells","plain"] ["marks","cells"] (Z0h (top 62)):=fS
theorem X5s (F:FunAt K "are_images" (top 62) .none)(X:K.In h)(G:Ng h mg)(B:Bs mg)(cB:Cal P w K mg base k "plain_marks" ["cells"] (Z8j K))(dD:Cal P w K mg base k "is_even_mark" ["thing","cells"] (spEvMK K))(cY:Cal P w K mg base k "commute_alike" ["marks","plain","place"] (spAlk K)):Cal P w K mg base (k+1) "are_images" ["marks","cells"] (spAI K):=by
 have nd:=sc_aimg.nd
 refine F.cal X G sc_aimg (bnd2 λ_ _ _ _ _ _ _ _=>rfl) (λvs H Q E h=>?_) (λf cdv A outer s H vs Q E hr h=>?_)
 ·obtain⟨l,ps,L,c,rfl,_⟩:=h;rfl
 obtain⟨l,ps,L,c,rfl,M,l13,c6,ok,q⟩:=h
 have p1:=Z2w M.2
 refine⟨_,(@Z0g _ _ _ _ _ (@Z0o _ _ 2 _ _ _ _ nd rfl (Or.inr rfl) (Z0k cB hr rfl (Z0a (pv 1) Z0e)) rfl (.inl rfl))
  (@Z0g _ _ _ _ _ (Z0y (PW.pt (Z7l (Z2v (Z2b (Z0q Z2g rfl B.isinstance q2v (Z0a (pv 0) (Z0a (Z3s (v:=.ty "list") rfl B.list q8h rfl) Z0e))))) (Z5v (Z0n Z5a (Z0q Z0u rfl B.len q1m (Z0a (pv 0) Z0e)) (Z0q Z0u rfl B.len q1m (Z0a (pv 2) Z0e)) (nomark _)))))
   (@Z0f _ _ _ (Z0j Z5l))
   Z0p)
  (@Z0g _ _ _ _ _ (Z0y (Z2v (Z2b (Z0q (Z3k rfl) rfl B.all q8i (Z0a (Z4l rfl (LcOk.of (Nc:=["mark","cells"]) (mp:=[none,some 1]) (by kernel_rfl)) (Z2x (pv 0)) (λ_ _ _ _=>(Z0w (i:=0) (show (["mark","cells"]:W0).Nodup by decide +kernel) rfl (Or.inl rfl))) (λ_ _ _ _=>(Z0k dD hr rfl (Z0a (pv 0) (Z0a (pv 1) Z0e))))) Z0e))))
   (@Z0f _ _ _ (Z0j Z5l))
   Z0p)
  (@Z0f _ _ _ (Z0j (Z0q (Z3k rfl) rfl B.all q8i (Z0a (Z4l rfl (LcOk.of (Nc:=["place","marks","plain"]) (mp:=[none,some 0,some 2]) (by kernel_rfl)) (Z1k rfl B.range (Z0a (Z0q Z0u rfl B.len q1m (Z0a (pv 2) Z0e)) Z0e)) (λ_ _ _ _=>(Z0w (i:=0) (show (["place","marks","plain"]:W0).Nodup by decide +kernel) rfl (Or.inl rfl))) (λ_ _ _ _=>(Z0k cY hr rfl (Z0a (pv 1) (Z0a (pv 2) (Z0a (pv 0) Z0e)))))) Z0e))))))),?_⟩
 try dsimp only[cxK]
 refine⟨_,Z,c,Z,c6,λlp H1 pp np S1 N=>?_⟩
 have p2:=Z2w N.2
 rw[Z1g] at p2
 have M1:=M.same S1
 refine⟨_,Z,_,_,_,true,Z,TyOf.lst M1.1,X9l K,_,Z,iteF ⟨_,Z,l,_,Z,.inl (SqL.of M1.1),_,Z,lp,_,Z,.inl (SqL.of N.1),Z,_,Z,neI (λne=>?_) (λeq=>?_)⟩⟩
 ·have ne':L.length≠2*c:=λz=>ne (by rw[q0a,q0a,p1,p2,z])
  rw[M81.X6w ne'] at q
  exact q H1 S1
 ·have lL:L.length=2*c:=by rw[q0a,q0a,p1,p2] at eq;omega
  refine⟨_,Z,l,Z,⟨_,SqL.of M1.1⟩,λacc hacc=>?_⟩
  refine X1m (fr:=[some (.int c)]) (λm=>decide (ev m=0)) M1 l13 hacc (λp m H2 N' hm s2 sp kN=>⟨_,Z,_,Z,p,m,c,Z,sp,ok m hm,c6,kN⟩) (λH2 S2 a2=>?_)
  refine⟨acc,_,Z,SqL.of a2,_,Z,?_⟩
  have e0:(L.map λm=>decide (ev m=0)).all id=L.all λm=>decide (ev m=0):=by rw[q6w];rfl
  rw[e0]
  unfold imgB at q
  rw[q0j lL,q6e] at q
  cases he:L.all λm=>decide (ev m=0) with
  | false =>
   rw[he,q3z] at q
   exact iteT (q H2 (S1.trans S2))
  | true =>
   rw[he,q6e] at q
   have N2:=N.same S2
   have M2:=M1.same S2
   refine iteF ⟨_,Z,lp,_,Z,.inl (SqL.of N2.1),_,Z,by omega,by rw[q0a];omega,λacc2 hacc2=>?_⟩
   rw[q0a,q1h,p2]
   refine Z6k (n:=2*c) (fr:=[some (.ref l),some (.ref lp)]) (λj ys H'=>Same H2 H'/\H' acc2=some (.lst ys)/\ys=((List.range j).map (alk L c)).map V.bl) (t64 (by omega)) ⟨Z0c hacc2 _,Z0d,Z⟩ ?_ ?_
   ·rintro j ys H3 N' hj hy ⟨s3,a3,rfl⟩ kN
    refine⟨_,Z,_,Z,_,Z,l,lp,ps,pp,L,c,j,by rw[q2x];rfl,M2.same s3,N2.same s3,lL,c6,hj,λH4 s4=>kN _ _ (s4 _ _ a3) ⟨Z0v (s3.trans s4) hacc2,Z0d,?_⟩⟩
    rw[q2o,q0b,q0b]
    rfl
   ·rintro ys H3 hy ⟨s3,a3,rfl⟩
    refine⟨acc2,_,Z,SqL.of a3,?_⟩
    have e1:((List.range (2*c)).map (alk L c)).all id=(List.range (2*c)).all (alk L c):=by rw[q6w];rfl
    rw[e1]
    exact q H3 ((S1.trans S2).trans s3)
theorem sc_reb:FnScope ["marks","cells","row","cell"] ["marks","cells"] (Z0h (top 61)):=fS
theorem X8m (F:FunAt K "rebuilt" (top 61) .none)(X:K.In h)(G:Ng h mg)(B:Bs mg)(dS:Cal P w K mg base k "are_images" ["marks","cells"] (spAI K))(d6:Cal P w K mg base k "layer_to_sign" ["mark","cell","cells"] (spLayS K))(d5:Cal P w K mg base k "layer_to_flip" ["mark","cell","cells"] (spLayF K))(c5:Cal P w K mg base k "moved_through" ["mark","row"] (Z3w K))(eC:Cal P w K mg base k "backward" ["row"] spBwd):Cal P w K mg base (k+1) "rebuilt" ["marks","cells"] (spReb K):=by
 have nd:=sc_reb.nd
 refine F.cal X G sc_reb (bnd2 λ_ _ _ _ _ _ _ _=>rfl) (λvs H Q E h=>?_) (λf cdv A outer s H vs Q E hr h=>?_)
 ·obtain⟨l,ps,L,c,rfl,_⟩:=h;rfl
 obtain⟨l,ps,L,c,rfl,M,lL,c6,I,q⟩:=h
 have p1:=Z2w M.2
 have okk:=X6o lL I
 refine⟨_,(@Z0g _ _ _ _ _ (Z0y (Z2v (Z2b (Z0k dS hr rfl (Z0a (pv 0) (Z0a (pv 1) Z0e)))))
   (@Z0f _ _ _ Z4j)
   Z0p)
  (@Z0g _ _ _ _ _ (@Z0o _ _ 2 _ _ _ _ nd rfl (Or.inl rfl) (@Z1s _ _ _ _ Z0e) rfl (.inl rfl))
  (@Z0g _ _ _ _ _ (Z2r PassesOwn.never rfl (Z1k rfl B.range (Z0a (pv 1) Z0e)) (Z0w (i:=3) nd rfl (Or.inl rfl))
   (@Z0g _ _ _ _ _ (@Z0o _ _ 2 _ _ _ _ nd rfl (Or.inl rfl) (Z0i Z6z (pv 2) (Z0k d6 hr rfl (Z0a (Z0k c5 hr rfl (Z0a (Z0m Z0s (pv 0) (Z0i Z1b (Z0i Z2d Z0b (pv 3)) Z0b) (λ_ _=>rfl)) (Z0a (pv 2) Z0e))) (Z0a (pv 3) (Z0a (pv 1) Z0e))))) rfl (.inl rfl))
   (@Z0f _ _ _ (@Z0o _ _ 2 _ _ _ _ nd rfl (Or.inl rfl) (Z0i Z6z (pv 2) (Z0k d5 hr rfl (Z0a (Z0k c5 hr rfl (Z0a (Z0m Z0s (pv 0) (Z0i Z2d Z0b (pv 3)) (λ_ _=>rfl)) (Z0a (pv 2) Z0e))) (Z0a (pv 3) (Z0a (pv 1) Z0e))))) rfl (.inl rfl)))))
  (@Z0f _ _ _ (Z0j (Z0k eC hr rfl (Z0a (pv 2) Z0e))))))),?_⟩
 try dsimp only[cxK]
 refine⟨_,Z,_,Z,l,ps,L,c,Z,M,by omega,c6,okk,λH1 S1=>?_⟩
 rw[M81.X6q lL I]
 refine⟨_,Z,iteF ⟨q1e _,λr0 hr0=>?_⟩⟩
 have hr00:H r0=none:=Z1r S1 hr0
 refine⟨_,Z,_,Z,by omega,by omega,?_⟩
 rw[q1h]
 refine Z1y (n:=c) (λj σ H'=>∃ (r:W9) (v:Option V),Same H H'/\RowAt H' r (rb (gk L) c j)/\σ=[some (.ref l),some (.int c),some (.ref r),v])
  ⟨r0,none,S1.trans (Z0c hr0 _),⟨[],Z0d,.nil⟩,Z⟩ ?_ ?_
 ·rintro j σ H2 hj ⟨r,v,S2,R2,rfl⟩
  have PR:=M81.X7x c6 hbd I j hj
  have M2:=M.same S2
  obtain⟨v0,b0⟩:=Z5k PR.o0
  obtain⟨v1,b1⟩:=Z5k PR.o1
  obtain⟨pa,hpa,spa⟩:=M2.at (i:=2*j+1) (by omega)
  obtain⟨pb,hpb,spb⟩:=M2.at (i:=2*j) (by omega)
  have oa:OkK c (gk L (2*j+1)):=okk _ (M81.X9x (by omega))
  have ob:OkK c (gk L (2*j)):=okk _ (M81.X9x (by omega))
  have i1:(2*(0+(j:Int))+1)=((2*j+1:Nat):Int):=by omega
  have i0:(2*(0+(j:Int)))=((2*j:Nat):Int):=by omega
  obtain⟨pr,hr2,rr2⟩:=id R2
  have lr2:pr.length=(rb (gk L) c j).length:=by have:=Z1c rr2;rw[q0a] at this;exact this
  refine⟨_,Z,_,Z,_,Z,_,_,Z,Z,.inl ⟨by decide,by decide⟩,_,_,Z,Z,l,_,_,.ref pa,Z,Z,SqL.of M2.1,by rw[i1];exact Z1e (by rw[q0k,hpa];rfl),_,Z,pa,r,gk L (2*j+1),rb (gk L) c j,c,Z,spa,R2,oa,c6,v0,b0,q0u PR.l0 (by decide),λm1 H3 S3 h3=>?_⟩
  refine⟨_,Z,_,Z,m1,mvds (rb (gk L) c j) (gk L (2*j+1)),j,c,by rw[q2x];rfl,h3,⟨PR.b1.k,PR.b1.f,PR.b1.s⟩,c6,hj,PR.e1,PR.z1,PR.n1,λra H4 na S4 R4=>?_⟩
  obtain⟨qa,ha4,rr4⟩:=R4
  have hr4:=S4 _ _ (S3 _ _ hr2)
  have lq4:qa.length=(layS (mvds (rb (gk L) c j) (gk L (2*j+1))) j c).length:=by have:=Z1c rr4;rw[q0a] at this;exact this
  have l1:=PR.l1
  rw[q0c] at l1
  refine⟨r,ra,_,_,Z,Z,hr4,ha4,?_,λr1 hr1=>?_⟩
  ·rw[q0a,q0a]
   exact q0u (show _<=200 by omega) (by decide)
  have s5:=Z0c hr1 (.lst (pr.map V.ref++qa.map V.ref))
  have R5:RowAt (upd H4 r1 (.lst (pr.map V.ref++qa.map V.ref))) r1 (rb (gk L) c j++layS (mvds (rb (gk L) c j) (gk L (2*j+1))) j c) :=
   ⟨pr++qa,by rw[Z0d,q0b],by rw[q0b];exact(Z1u (rr2.same (S3.trans S4)) rr4).same s5⟩
  generalize upd H4 r1 (.lst (pr.map V.ref++qa.map V.ref))=H5 at s5 R5 ⊢
  have S5:=(S3.trans S4).trans s5
  have M5:=M2.same S5
  obtain⟨pr5,hr5,rr5⟩:=id R5
  have lr5:pr5.length=(rb (gk L) c j++layS (mvds (rb (gk L) c j) (gk L (2*j+1))) j c).length:=by have:=Z1c rr5;rw[q0a] at this;exact this
  refine⟨_,Z,_,Z,_,Z,_,_,Z,Z,.inl ⟨by decide,by decide⟩,l,_,_,.ref pb,Z,Z,SqL.of M5.1,by rw[i0];exact Z1e (by rw[q0k,hpb];rfl),_,Z,pb,r1,gk L (2*j),_,c,Z,S5.tup spb,R5,ob,c6,v1,b1,q0u PR.l1 (by decide),λm2 H6 S6 h6=>?_⟩
  refine⟨_,Z,_,Z,m2,_,j,c,by rw[q2x];rfl,h6,⟨PR.b2.k,PR.b2.f,PR.b2.s⟩,c6,hj,PR.e2,PR.z2,PR.n2,λrc H7 nc S7 R7=>?_⟩
  obtain⟨qc,hc7,rr7⟩:=R7
  have hr7:=S7 _ _ (S6 _ _ hr5)
  have lq7:qc.length=(layF (mvds (rb (gk L) c j++layS (mvds (rb (gk L) c j) (gk L (2*j+1))) j c) (gk L (2*j))) j c).length:=by have:=Z1c rr7;rw[q0a] at this;exact this
  have ly:=(M80.Y1y c6 hj hbd PR.b2 PR.e2 PR.z2 PR.n2).2.2.2
  refine⟨r1,rc,_,_,Z,Z,hr7,hc7,?_,λr2 hr2'=>?_⟩
  ·rw[q0a,q0a]
   have:=PR.l1
   exact q0u (show _<=300 by omega) (by decide)
  have s8:=Z0c hr2' (.lst (pr5.map V.ref++qc.map V.ref))
  refine⟨r2,_,((S2.trans S5).trans (S6.trans S7)).trans s8,⟨pr5++qc,by rw[Z0d,q0b],?_⟩,Z⟩
  have:=(Z1u (rr5.same (S6.trans S7)) rr7).same s8
  show RowsM _ (pr5++qc) ((rb (gk L) c j++layS (mvds (rb (gk L) c j) (gk L (2*j+1))) j c++layF (mvds (rb (gk L) c j++layS (mvds (rb (gk L) c j) (gk L (2*j+1))) j c) (gk L (2*j))) j c).map mm)
  rw[q0b]
  exact this
 ·rintro σ H2 ⟨r,v,S2,R2,rfl⟩
  have RB:=M80.Y6n c6 hbd I c (q0f _)
  have l6:(rb (gk L) c c).length<=300:=q0u RB.2.1 (q0u (q4o c6 (show 5*c+1<=31 by omega)) (by decide))
  exact⟨_,Z,r,_,Z,R2,l6,λr' H3 nr S3 R3=>q r' H3 (Z1r S2 nr) (S2.trans S3) R3⟩
end
end K55S
namespace K55S.S
open L2 Ba M71
open K75 (top Bs)
section
variable {P:U8}{w:W1}{K:U0}{mg:U4}{base:Heap}{k:Nat}{h:Heap}
theorem sc_named:FnScope ["move"] ["move"] (Z0h (top 31)):=fS
theorem ok_named (F:FunAt K "named_cells" (top 31) .none)(X:K.In h)(G:Ng h mg)(B:Bs mg):Cal P w K mg base (k+1) "named_cells" ["move"] Z5j:=by
 have nd:=sc_named.nd
 refine F.cal X G sc_named (bnd1 λ_ _ _ _ _ _ _=>rfl) (λvs H Q E h=>?_) (λf cdv A outer s H vs Q E hr h=>?_)
 ·obtain⟨p,m,rfl,_⟩:=h;rfl
 obtain⟨p,m,rfl,hp,kq⟩:=h
 have SP:SqT K H p (.str (nm m)::(ns m).map V.int):=SqT.of hp
 have ce:=X1x m
 refine⟨_,(@Z0f _ _ _ (Z0j (Z1v (Z0n Z1o (Z0m Z0l (pv 0) Z0b (λ_ _=>rfl)) Z0x (nomark _)) (Z1l Z3o (pv 0) (Z1f Z0b) (Z1f Z0b)) (Z1l Z3o (pv 0) (Z1f Z0b) Z2e)))),?_⟩
 try dsimp only[cxK]
 refine⟨_,Z,p,_,_,.str (nm m),Z,Z,SP,at0m m,Z,_,Z,decI (λz=>?_) (λz=>?_)⟩
 ·have e:nm m="turn":=V.str.inj z
  rw[if_pos e] at ce
  refine⟨_,Z,_,Z,_,Z,p,_,Z,SP,.inr ⟨λc=>absurd c.1 (by rw[Z4o];decide),λr hr=>kq r _ (Z0c hr _) ?_⟩⟩
  rw[Z0d,ce]
  have:=(Z5n m).mp e
  cases m<;>first | rfl | (simp[code] at this;done)
 ·have e:nm m≠"turn":=λc=>z (by rw[c])
  rw[if_neg e] at ce
  refine⟨_,Z,_,Z,p,_,Z,SP,.inr ⟨λc=>absurd c.1 (by rw[Z4o];decide),λr hr=>kq r _ (Z0c hr _) ?_⟩⟩
  rw[Z0d,Z5q,ce]
theorem sc_turnof:FnScope ["move","cell"] ["move","cell"] (Z0h (top 72)):=fS
theorem ok_turnof (F:FunAt K "is_turn_of" (top 72) .none)(X:K.In h)(G:Ng h mg):Cal P w K mg base (k+1) "is_turn_of" ["move","cell"] Z8h:=by
 have nd:=sc_turnof.nd
 refine F.cal X G sc_turnof (bnd2 λ_ _ _ _ _ _ _ _=>rfl) (λvs H Q E h=>?_) (λf cdv A outer s H vs Q E hr h=>?_)
 ·obtain⟨p,m,c,rfl,_⟩:=h;rfl
 obtain⟨p,m,c,rfl,hp,kq⟩:=h
 have SP:SqT K H p (.str (nm m)::(ns m).map V.int):=SqT.of hp
 refine⟨_,(@Z0f _ _ _ (Z0j (Z3v (Z1q Z1o (Z0m Z0l (pv 0) Z0b (λ_ _=>rfl)) Z0x (nomark _)) (Z2z (Z1q Z1o (Z0m Z0l (pv 0) Z0b (λ_ _=>rfl)) (pv 1) (nomark _)))))),?_⟩
 try dsimp only[cxK]
 refine⟨_,Z,p,_,_,.str (nm m),Z,Z,SP,at0m m,Z,_,Z,decI (λz=>?_) (λz=>?_)⟩
 ·refine⟨_,Z,p,_,_,.int (hd m),Z,Z,SP,at1m m,_,Z,Z,kq _ ?_⟩
  rw[q1a]
  exact⟨λe=>⟨V.str.inj z,V.int.inj e⟩,λe=>by rw[e.2]⟩
 ·exact kq false ⟨λe=>(by cases e),λe=>absurd (by rw[e.1]) z⟩
theorem sc_joined:FnScope ["cell","k"] ["cell","k"] (Z0h (top 73)):=fS
theorem ok_joined (F:FunAt K "turns_joined" (top 73) .none)(X:K.In h)(G:Ng h mg):Cal P w K mg base (k+1) "turns_joined" ["cell","k"] Y2t:=by
 have nd:=sc_joined.nd
 refine F.cal X G sc_joined (bnd2 λ_ _ _ _ _ _ _ _=>rfl) (λvs H Q E h=>?_) (λf cdv A outer s H vs Q E hr h=>?_)
 ·obtain⟨c,kk,rfl,_⟩:=h;rfl
 obtain⟨c,kk,rfl,kq⟩:=h
 refine⟨_,(@Z0f _ _ _ (Z0j (Z1v (Z0n Z1o (pv 1) Z0b (nomark _)) (@Z1s _ _ _ _ Z0e) (@Z1s _ _ _ _ (Z0a (@Z1a _ _ _ _ _ (Z0a Z0x (Z0a (pv 0) (Z0a (Z0i Z0z (pv 1) Z0b) Z0e)))) Z0e))))),?_⟩
 try dsimp only[cxK]
 refine⟨_,Z,Z,_,Z,eqI (λz=>?_) (λz=>?_)⟩
 ·rw[if_pos z] at kq
  exact⟨q1e _,λl hl=>kq l _ (Z0c hl _) hl ⟨[],Z0d,.nil⟩⟩
 ·rw[if_neg z] at kq
  refine⟨_,Z,_,Z,_,_,Z,Z,p_8,t3,λt ht=>⟨q7b (by decide),λl hl=>?_⟩⟩
  have s2:=Z0c hl (.lst [V.ref t])
  exact kq l _ ((Z0c ht _).trans s2) (Z1r (Z0c ht _) hl) ⟨[t],Z0d,.cons (s2 _ _ Z0d) .nil⟩
theorem Y3x (x:Str)(l:W0):inV (.str x) (l.map V.str)=l.contains x:=by
 induction l with
 | nil=>rfl
 | cons a r ih =>
  have:inV (.str x) ((a::r).map V.str)=((a == x) || inV (.str x) (r.map V.str)):=rfl
  rw[this,ih,List.contains_cons]
  congr 1
  rw[q2q]
  simp
  exact eq_comm
theorem Y8p (l:W0):(l.map V.str).all flatV=true:=by
 rw[q6w]
 simp[flatV]
theorem X2l {x y:V}{xs:List V}:HT.sIx (x::y::xs).length 0 (some 2)=2:=by
 have:=HT.Z2t (x::y::xs).length 0 2
 rw[show ((2:Nat):Int)=2 from rfl] at this
 rw[this]
 simp
theorem X6u {x y:V}{xs:List V}:cutV (x::y::xs) (some 2) none=xs:=by
 unfold cutV
 rw[X2l]
 have e2:HT.sIx (x::y::xs).length (x::y::xs).length none=(x::y::xs).length:=rfl
 rw[e2]
 simp
theorem X4u {m:Mv}(h:code m=4∨code m=5):∃ a b,ns m=[a,b]/\mm m.ord=(nm m,[min a b,max a b]):=by
 cases m<;>simp[code] at h<;>exact⟨_,_,Z,Z⟩
theorem Y6w {m:Mv}(h:code m=6):∃ a b d,ns m=[a,b,d]/\hd m=a/\mm m.ord=(nm m,[a,min b d,max b d]):=by
 cases m<;>simp[code] at h<;>exact⟨_,_,_,Z,Z,Z⟩
theorem X0l {m:Mv}(h4:code m≠4)(h5:code m≠5)(h6:code m≠6):m.ord=m:=by
 cases m<;>first | rfl | (exact absurd rfl h4) | (exact absurd rfl h5) | (exact absurd rfl h6)
theorem Y7r {a b M:Int}(h1:M∈[a,b])(h2:∀ x∈[a,b],M<=x):M=min a b:=by
 simp at h1 h2
 omega
theorem Y7t {a b M:Int}(h1:M∈[a,b])(h2:∀ x∈[a,b],x<=M):M=max a b:=by
 simp at h1 h2
 omega
theorem sc_ord:FnScope ["move"] ["move"] (Z0h (top 74)):=fS
theorem ok_ord (F:FunAt K "in_one_order" (top 74) .none)(X:K.In h)(G:Ng h mg)(B:Bs mg):Cal P w K mg base (k+1) "in_one_order" ["move"] spOrd:=by
 have nd:=sc_ord.nd
 refine F.cal X G sc_ord (bnd1 λ_ _ _ _ _ _ _=>rfl) (λvs H Q E h=>?_) (λf cdv A outer s H vs Q E hr h=>?_)
 ·obtain⟨p,m,rfl,_⟩:=h;rfl
 obtain⟨p,m,rfl,hp,kq⟩:=h
 have SP:SqT K H p (.str (nm m)::(ns m).map V.int):=SqT.of hp
 refine⟨_,(@Z0g _ _ _ _ _ (Z0y (Z0n Z6y (Z0m Z0l (pv 0) Z0b (λ_ _=>rfl)) (@Z1a _ _ _ _ _ (Z0a Z0x (Z0a Z0x Z0e))) rfl)
   (@Z0f _ _ _ (Z0j (@Z1a _ _ _ _ _ (Z0a (Z0m Z0l (pv 0) Z0b (λ_ _=>rfl)) (Z0a (Z0q (Z5f rfl) rfl B.min q8u (Z0a (Z1l Z3o (pv 0) (Z1f Z0b) Z2e) Z0e)) (Z0a (Z0q (Y0t rfl) rfl B.max q8v (Z0a (Z1l Z3o (pv 0) (Z1f Z0b) Z2e) Z0e)) Z0e))))))
   Z0p)
  (@Z0g _ _ _ _ _ (Z0y (Z0n Z1o (Z0m Z0l (pv 0) Z0b (λ_ _=>rfl)) Z0x (nomark _))
   (@Z0f _ _ _ (Z0j (@Z1a _ _ _ _ _ (Z0a (Z0m Z0l (pv 0) Z0b (λ_ _=>rfl)) (Z0a (Z0m Z0l (pv 0) Z0b (λ_ _=>rfl)) (Z0a (Z0q (Z5f rfl) rfl B.min q8u (Z0a (Z1l Z3o (pv 0) (Z1f Z0b) Z2e) Z0e)) (Z0a (Z0q (Y0t rfl) rfl B.max q8v (Z0a (Z1l Z3o (pv 0) (Z1f Z0b) Z2e) Z0e)) Z0e)))))))
   Z0p)
  (@Z0f _ _ _ (Z0j (pv 0))))),?_⟩
 try dsimp only[cxK]
 refine⟨_,Z,p,_,_,.str (nm m),Z,Z,SP,at0m m,t2,λt ht=>?_⟩
 have S1:=Z0c ht (.tup [V.str "pair",V.str "swap"])
 refine⟨t,_,Z,.inr (SqT.of Z0d),Z,Y8p ["pair","swap"],_,Z,blI (λz=>?_) (λz=>?_)⟩
 ·have z1:(["pair","swap"]:W0).contains (nm m)=true:=(Y3x (nm m) ["pair","swap"]).symm.trans z
  have z2:code m=4∨code m=5:=by
   rw[<-Y1z,<-Y8d]
   simpa using z1
  generalize upd H t (.tup [V.str "pair",V.str "swap"])=H1 at S1 ⊢
  obtain⟨a,b,ne,oe⟩:=X4u z2
  rw[oe] at kq
  have hp1:=S1 _ _ hp
  have SP1:SqT K H1 p (.str (nm m)::(ns m).map V.int):=SqT.of hp1
  refine⟨_,Z,p,_,_,.str (nm m),Z,Z,SP1,at0m m,_,Z,_,Z,p,_,Z,SP1,.inr ⟨λc=>absurd c.1 (by rw[Z4o];decide),λr hr=>?_⟩⟩
  have S2:=Z0c hr (.tup (cutV (.str (nm m)::(ns m).map V.int) (some 1) none))
  have e2:upd H1 r (.tup (cutV (.str (nm m)::(ns m).map V.int) (some 1) none)) r=some (.tup ((ns m).map V.int)):=by rw[Z0d,Z5q]
  generalize upd H1 r (.tup (cutV (.str (nm m)::(ns m).map V.int) (some 1) none))=H2 at S2 e2 ⊢
  refine⟨r,ns m,Z,SqT.of e2,by rw[ne];exact q5p _,λM hM hle=>?_⟩
  have SP2:SqT K H2 p (.str (nm m)::(ns m).map V.int):=SqT.of (S2 _ _ hp1)
  refine⟨_,Z,_,Z,p,_,Z,SP2,.inr ⟨λc=>absurd c.1 (by rw[Z4o];decide),λr' hr'=>?_⟩⟩
  have S3:=Z0c hr' (.tup (cutV (.str (nm m)::(ns m).map V.int) (some 1) none))
  have e3:upd H2 r' (.tup (cutV (.str (nm m)::(ns m).map V.int) (some 1) none)) r'=some (.tup ((ns m).map V.int)):=by rw[Z0d,Z5q]
  generalize upd H2 r' (.tup (cutV (.str (nm m)::(ns m).map V.int) (some 1) none))=H3 at S3 e3 ⊢
  refine⟨r',ns m,Z,SqT.of e3,by rw[ne];exact q5p _,λM' hM' hle'=>⟨t3,λu hu=>?_⟩⟩
  rw[ne] at hM hle hM' hle'
  rw[Y7r hM hle,Y7t hM' hle']
  exact kq u _ (((S1.trans S2).trans S3).trans (Z0c hu _)) Z0d
 ·have z1:(["pair","swap"]:W0).contains (nm m)=false:=(Y3x (nm m) ["pair","swap"]).symm.trans z
  have z2:code m≠4/\code m≠5:=by
   rw[Ne,Ne,<-Y1z,<-Y8d]
   simpa using z1
  generalize upd H t (.tup [V.str "pair",V.str "swap"])=H1 at S1 ⊢
  have hp1:=S1 _ _ hp
  have SP1:SqT K H1 p (.str (nm m)::(ns m).map V.int):=SqT.of hp1
  refine⟨_,Z,p,_,_,.str (nm m),Z,Z,SP1,at0m m,Z,_,Z,decI (λy=>?_) (λy=>?_)⟩
  ·obtain⟨a,b,d,ne,he,oe⟩:=Y6w ((Z8x m).mp (V.str.inj y))
   rw[oe] at kq
   have cu:cutV (.str (nm m)::(ns m).map V.int) (some 2) none=[b,d].map V.int:=by rw[ne];exact X6u
   have tw:HT.sIx (V.str (nm m)::(ns m).map V.int).length 0 (some 2)=2:=by rw[ne];exact X2l
   refine⟨_,Z,p,_,_,.str (nm m),Z,Z,SP1,at0m m,_,Z,p,_,_,.int (hd m),Z,Z,SP1,at1m m,_,Z,_,Z,p,_,Z,SP1,.inr ⟨λc=>absurd c.1 (by rw[tw];decide),λr hr=>?_⟩⟩
   rw[cu]
   have S2:=Z0c hr (.tup ([b,d].map V.int))
   have e2:upd H1 r (.tup ([b,d].map V.int)) r=some (.tup ([b,d].map V.int)):=Z0d
   generalize upd H1 r (.tup ([b,d].map V.int))=H2 at S2 e2 ⊢
   refine⟨r,[b,d],Z,SqT.of e2,q5p _,λM hM hle=>?_⟩
   have SP2:SqT K H2 p (.str (nm m)::(ns m).map V.int):=SqT.of (S2 _ _ hp1)
   refine⟨_,Z,_,Z,p,_,Z,SP2,.inr ⟨λc=>absurd c.1 (by rw[tw];decide),λr' hr'=>?_⟩⟩
   rw[cu]
   have S3:=Z0c hr' (.tup ([b,d].map V.int))
   have e3:upd H2 r' (.tup ([b,d].map V.int)) r'=some (.tup ([b,d].map V.int)):=Z0d
   generalize upd H2 r' (.tup ([b,d].map V.int))=H3 at S3 e3 ⊢
   refine⟨r',[b,d],Z,SqT.of e3,q5p _,λM' hM' hle'=>⟨show 4<=sizeLine by decide,λu hu=>?_⟩⟩
   rw[Y7r hM hle,Y7t hM' hle',he]
   exact kq u _ (((S1.trans S2).trans S3).trans (Z0c hu _)) Z0d
  ·have z3:code m≠6:=λc=>y (by rw[(Z8x m).mpr c])
   refine⟨_,Z,kq p _ S1 ?_⟩
   rw[X0l z2.1 z2.2 z3]
   exact hp1
theorem sc_goes:FnScope ["later","earlier","cells"] ["later","earlier"] (Z0h (top 75)):=fS
theorem ok_goes (F:FunAt K "goes_ahead" (top 75) .none)(X:K.In h)(G:Ng h mg)(B:Bs mg)(c8:Cal P w K mg base k "named_cells" ["move"] Z5j)(cK:Cal P w K mg base k "is_turn_of" ["move","cell"] Z8h) :
  Cal P w K mg base (k+1) "goes_ahead" ["later","earlier"] spGoes:=by
 have nd:=sc_goes.nd
 refine F.cal X G sc_goes (bnd2 λ_ _ _ _ _ _ _ _=>rfl) (λvs H Q E h=>?_) (λf cdv A outer s H vs Q E hr h=>?_)
 ·obtain⟨p,q,x,y,rfl,_⟩:=h;rfl
 obtain⟨p,q,x,y,rfl,hp,hq,kq⟩:=h
 have lx:=Y0r x
 have ly:=Y0r y
 refine⟨_,(@Z0g _ _ _ _ _ (@Z0o _ _ 2 _ _ _ _ nd rfl (Or.inr rfl) (Z0k c8 hr rfl (Z0a (pv 1) Z0e)) rfl (.inl rfl))
  (@Z0g _ _ _ _ _ (Z0y (Z2v (Z2b (Z0q (Y0u rfl) rfl B.any boot_any (Z0a (Z4l rfl (LcOk.of (Nc:=["cell","cells"]) (mp:=[none,some 2]) (by kernel_rfl)) (Y3d (Z0k c8 hr rfl (Z0a (pv 0) Z0e))) (λ_ _ _ _=>(Z0w (i:=0) (show (["cell","cells"]:W0).Nodup by decide +kernel) rfl (Or.inl rfl))) (λ_ _ _ _=>(Z1q X8i (pv 0) (pv 1) rfl))) Z0e))))
   (@Z0f _ _ _ (Z0j (Z1q Y4t (Z0q (Z5f rfl) rfl B.min q8u (Z0a (Z0k c8 hr rfl (Z0a (pv 0) Z0e)) Z0e)) (Z0q (Z5f rfl) rfl B.min q8u (Z0a (pv 2) Z0e)) (nomark _))))
   Z0p)
  (@Z0g _ _ _ _ _ (Z0y (Z0n Z5a (Z0m Z0l (pv 0) Z0b (λ_ _=>rfl)) Z0x (nomark _))
   (@Z0f _ _ _ (Z0j Z5l))
   Z0p)
  (@Z0f _ _ _ (Z0j (X4p (Z1q Z1o (Z0m Z0l (pv 1) Z0b (λ_ _=>rfl)) Z0x (nomark _)) (Z2z (Z3v (Z1q Z1o (Z0m Z0l (pv 1) Z0b (λ_ _=>rfl)) Z0x (nomark _)) (Z2z (Z0k cK hr rfl (Z0a (pv 0) (Z0a (Z0m Z0l (pv 1) Z0b (λ_ _=>rfl)) Z0e)))))))))))),?_⟩
 try dsimp only[cxK]
 refine⟨_,Z,q,y,Z,hq,λr1 H1 S1 h1=>?_⟩
 refine⟨_,Z,p,x,Z,S1 _ _ hp,λr2 H2 S2 h2=>⟨r2,Z,⟨_,SqT.of h2⟩,λacc hacc=>?_⟩⟩
 have h12:=S2 _ _ h1
 refine X6j (ns:=x.cells) (fr:=[some (.ref r1)]) (λc=>.bl (inV (.int c) (y.cells.map V.int))) (SqT.of h2) (t64 (by omega)) hacc (λc H3 N S3 kN=>⟨_,Z,_,Z,r1,_,Z,.inr (S3 _ _ h12),Z,Y8q _,kN⟩) (λH3 S3 h3=>?_)
 have S03:=(S1.trans S2).trans S3
 refine⟨acc,x.cells.map (λc=>inV (.int c) (y.cells.map V.int)),Z,SqL.of (by rw[h3,q3v];rfl),_,Z,nblI (λz=>?_) (λz=>?_)⟩
 ·have ap:Mv.apart x y=true:=by rw[Y4g,z];rfl
  refine⟨_,Z,p,x,Z,S03 _ _ hp,λr3 H4 S4 h4=>?_⟩
  obtain⟨cx,ex⟩:=Z5s x
  obtain⟨cy,ey⟩:=Z5s y
  refine⟨r3,x.cells,Z,SqT.of h4,by rw[ex];exact q5p _,λM hM hle=>?_⟩
  refine⟨_,Z,r1,y.cells,Z,SqT.of (S4 _ _ (S3 _ _ h12)),by rw[ey];exact q5p _,λM' hM' hle'=>?_⟩
  rw[X2y hM hle,X2y hM' hle']
  refine⟨_,_,Z,Z,?_⟩
  have:=kq H4 (S03.trans S4)
  unfold Mv.goes at this
  rw[if_pos ap] at this
  exact this
 ·have ap:¬ Mv.apart x y=true:=by rw[Y4g,z];decide
  have go:Mv.goes x y=x.free y:=by unfold Mv.goes;rw[if_neg ap]
  rw[go,X6r] at kq
  have SX:SqT K H3 p (.str (nm x)::(ns x).map V.int):=SqT.of (S03 _ _ hp)
  have SY:SqT K H3 q (.str (nm y)::(ns y).map V.int):=SqT.of (S03 _ _ hq)
  refine⟨_,Z,p,_,_,.str (nm x),Z,Z,SX,at0m x,Z,_,Z,nblI (λt=>?_) (λt=>?_)⟩
  ·have nt:nm x≠"turn":=λe=>by rw[e] at t;simp at t
   have:=kq H3 S03
   rw[q0e nt] at this
   exact this
  ·have tt:nm x="turn":=V.str.inj (q1p t)
   rw[q0j tt] at kq
   refine⟨_,Z,q,_,_,.str (nm y),Z,Z,SY,at0m y,Z,_,Z,decI (λu=>?_) (λu=>?_)⟩
   ·have:=kq H3 S03
    rw[q0j (V.str.inj u)] at this
    exact this
   ·have nu:nm y≠"pair":=λe=>u (by rw[e])
    rw[q0e nu] at kq
    refine⟨_,Z,q,_,_,.str (nm y),Z,Z,SY,at0m y,Z,_,Z,decI (λv=>?_) (λv=>?_)⟩
    ·rw[q0j (V.str.inj v)] at kq
     refine⟨_,Z,_,Z,q,_,_,.int (hd y),Z,Z,SY,at1m y,p,x,hd y,Z,S03 _ _ hp,λb hb=>?_⟩
     have:=kq H3 S03
     have e:b=decide (hd y=hd x):=by
      rw[q2q,hb,q1a]
      exact⟨λe=>e.2.symm,λe=>⟨tt,e.symm⟩⟩
     rw[e]
     simpa using this
    ·have nv:nm y≠"if":=λe=>v (by rw[e])
     have:=kq H3 S03
     rw[q0e nv] at this
     exact this
theorem at2m {x y z:V}{r:List V}:atI (x::y::z::r) 2=some z:=L2.Z1e (show (x::y::z::r)[2]?=some z from rfl)
theorem Y0p {x:Mv}(h:code x=2):∃ a j,x=.turn a j:=by cases x<;>first | exact⟨_,_,Z⟩ | (simp[code] at h;done)
def Put (o:Option (List Mv))(H:Hp)(Q:VK):Prop:=(o=none->∀ H',Same H H'->Q .non H')/\∀ u,o=some u->∀ (l:W9) (H':Hp),Same H H'->H l=none->RowAt H' l u->Q (.ref l) H'
def spPut2:Sp:=λvs H Q _=>∃ (p q:W9) (x y:Mv),vs=[.ref p,.ref q]/\H p=some (mT (mm x))/\H q=some (mT (mm y))/\Put (Mv.put2 x y) H Q
def spPut3:Sp:=λvs H Q _=>∃ (p q r:W9) (x y z:Mv),vs=[.ref p,.ref q,.ref r]/\H p=some (mT (mm x))/\H q=some (mT (mm y))/\H r=some (mT (mm z))/\Put (Mv.put3 x y z) H Q
theorem sc_put2:FnScope ["earlier","later"] ["earlier","later"] (Z0h (top 71)):=fS
theorem ok_put2 (F:FunAt K "put_for_two" (top 71) .none)(X:K.In h)(G:Ng h mg)(cK:Cal P w K mg base k "is_turn_of" ["move","cell"] Z8h)(dF:Cal P w K mg base k "turns_joined" ["cell","k"] Y2t)
  (cU:Cal P w K mg base k "in_one_order" ["move"] spOrd) (dW:Cal P w K mg base k "goes_ahead" ["later","earlier"] spGoes):Cal P w K mg base (k+1) "put_for_two" ["earlier","later"] spPut2:=by
 have nd:=sc_put2.nd
 refine F.cal X G sc_put2 (bnd2 λ_ _ _ _ _ _ _ _=>rfl) (λvs H Q E h=>?_) (λf cdv A outer s H vs Q E hr h=>?_)
 ·obtain⟨p,q,x,y,rfl,_⟩:=h;rfl
 obtain⟨p,q,x,y,rfl,hp,hq,kn,ks⟩:=h
 have SP:SqT K H p (.str (nm x)::(ns x).map V.int):=SqT.of hp
 have SQ:SqT K H q (.str (nm y)::(ns y).map V.int):=SqT.of hq
 refine⟨_,(@Z0r _ _ _ _ _ (Z0y (PW.pt (Z5w (Z2b (Z0k cK hr rfl (Z0a (pv 0) (Z0a (Z0m Z0l (pv 0) Z0b (λ_ _=>rfl)) Z0e)))) (Z4a (Z2b (Z0k cK hr rfl (Z0a (pv 1) (Z0a (Z0m Z0l (pv 0) Z0b (λ_ _=>rfl)) Z0e)))))))
   (@Z0f _ _ _ (Z0j (Z0k dF hr rfl (Z0a (Z0m Z0l (pv 0) Z0b (λ_ _=>rfl)) (Z0a (Z0i Z1b (Z0m Z0l (pv 0) Z0b (λ_ _=>rfl)) (Z0m Z0l (pv 1) Z0b (λ_ _=>rfl))) Z0e)))))
   Z0p)
  (@Z0r _ _ _ _ _ (Z0y (Z0n (Y6y hr.units) (Z0k cU hr rfl (Z0a (pv 0) Z0e)) (Z0k cU hr rfl (Z0a (pv 1) Z0e)) (nomark _))
   (@Z0f _ _ _ (Z0j (@Z1s _ _ _ _ Z0e)))
   Z0p)
  (@Z0r _ _ _ _ _ (Z0y (Z2b (Z0k dW hr rfl (Z0a (pv 1) (Z0a (pv 0) Z0e))))
   (@Z0f _ _ _ (Z0j (@Z1s _ _ _ _ (Z0a (pv 1) (Z0a (pv 0) Z0e)))))
   Z0p)
  (@Z0f _ _ _ (Z0j Z3a))))),?_⟩
 try dsimp only[cxK]
 refine⟨λσ' H'=>σ'=[some (.ref p),some (.ref q)]/\H'=H/\Mv.joint x y=none,?_,?_⟩
 ·refine⟨_,Z,_,Z,p,_,_,.int (hd x),Z,Z,SP,at1m x,p,x,hd x,Z,hp,λb hb=>⟨_,Z,blI (λz=>?_) (λz=>?_)⟩⟩
  ·refine⟨_,Z,_,Z,p,_,_,.int (hd x),Z,Z,SP,at1m x,q,y,hd x,Z,hq,λb' hb'=>⟨_,Z,blI (λz'=>?_) (λz'=>?_)⟩⟩
   ·obtain⟨a,j,rfl⟩:=Y0p ((Z5n x).mp (hb.mp z).1)
    obtain⟨a',k',rfl⟩:=Y0p ((Z5n y).mp (hb'.mp z').1)
    have ea:a'=a:=(hb'.mp z').2
    subst ea
    refine⟨_,Z,p,_,_,.int a',Z,Z,SP,at1m (.turn a' j),_,Z,p,_,_,.int j,Z,Z,SP,at2m,_,Z,q,_,_,.int k',Z,Z,SQ,at2m,_,_,Z,Z,a',j+k',Z,λl H' S' fr hr'=>?_⟩
    exact ks _ Y4q l H' S' fr hr'
   ·refine⟨Z,Z,Z7w λa j k' e=>?_⟩
    obtain⟨rfl,rfl⟩:=e
    rw[hb'.mpr ⟨Z,Z⟩] at z'
    cases z'
  ·refine iteF ⟨Z,Z,Z7w λa j k' e=>?_⟩
   obtain⟨rfl,rfl⟩:=e
   rw[hb.mpr ⟨Z,Z⟩] at z
   cases z
 rintro σ' H' ⟨rfl,rfl,jn⟩
 refine⟨λσ' H1=>σ'=[some (.ref p),some (.ref q)]/\Same H' H1/\x.ord≠y.ord,?_,?_⟩
 ·refine⟨_,Z,p,x,Z,hp,λr1 H1 S1 h1=>⟨_,Z,q,y,Z,S1 _ _ hq,λr2 H2 S2 h2=>?_⟩⟩
  refine⟨r1,r2,mm x.ord,mm y.ord,Z,Z,S2 _ _ h1,h2,okS _,okS _,_,Z,decI (λz=>?_) (λz=>?_)⟩
  ·have e:=mm_inj.mp z
   exact⟨q1e _,λl hl=>ks _ (Y4r jn e) l _ ((S1.trans S2).trans (Z0c hl _)) (Z1r (S1.trans S2) hl) ⟨[],Z0d,.nil⟩⟩
  ·exact⟨Z,S1.trans S2,λe=>z (mm_inj.mpr e)⟩
 rintro σ' H1 ⟨rfl,S1,ne⟩
 refine⟨λσ' H2=>σ'=[some (.ref p),some (.ref q)]/\Same H' H2/\Mv.goes y x=false,?_,?_⟩
 ·refine⟨_,Z,_,Z,q,p,y,x,Z,S1 _ _ hq,S1 _ _ hp,λH2 S2=>⟨_,Z,blI (λz=>?_) (λz=>?_)⟩⟩
  ·refine⟨_,Z,_,Z,t2,λl hl=>?_⟩
   have S3:=Z0c hl (.lst [V.ref q,V.ref p])
   have S03:=(S1.trans S2).trans S3
   exact ks _ (Y6p jn ne z) l _ S03 (Z1r (S1.trans S2) hl) ⟨[q,p],Z0d,.cons (S03 _ _ hq) (.cons (S03 _ _ hp) .nil)⟩
  ·exact⟨Z,S1.trans S2,z⟩
 rintro σ' H2 ⟨rfl,S2,ng⟩
 exact kn (Y6o jn ne ng) H2 S2
theorem sc_put3:FnScope ["first","middle","last","cell"] ["first","middle","last"] (Z0h (top 76)):=fS
theorem ok_put3 (F:FunAt K "put_for_three" (top 76) .none)(X:K.In h)(G:Ng h mg):Cal P w K mg base (k+1) "put_for_three" ["first","middle","last"] spPut3:=by
 have nd:=sc_put3.nd
 refine F.cal X G sc_put3 (bnd3 λ_ _ _ _ _ _ _ _ _=>rfl) (λvs H Q E h=>?_) (λf cdv A outer s H vs Q E hr h=>?_)
 ·obtain⟨p,q,r,x,y,z,rfl,_⟩:=h;rfl
 obtain⟨p,q,r,x,y,z,rfl,hp,hq,hz,kn,ks⟩:=h
 have SP:SqT K H p (.str (nm x)::(ns x).map V.int):=SqT.of hp
 refine⟨_,(@Z0g _ _ _ _ _ (@Z0o _ _ 3 _ _ _ _ nd rfl (Or.inl rfl) (Z0m Z0l (pv 0) Z0b (λ_ _=>rfl)) rfl (.inl rfl))
  (@Z0r _ _ _ _ _ (Z0y (PW.pt (Z7l (Z0n (X2t hr.units) (pv 0) (@Z1a _ _ _ _ _ (Z0a Z0x (Z0a (pv 3) Z0e))) (nomark _)) (Z5v (Z0n (X2t hr.units) (pv 2) (pv 0) (nomark _)))))
   (@Z0f _ _ _ (Z0j Z3a))
   Z0p)
  (@Z0r _ _ _ _ _ (Z0y (Z0n (Y6y hr.units) (pv 1) (@Z1a _ _ _ _ _ (Z0a Z0x (Z0a (pv 3) Z0e))) (nomark _))
   (@Z0f _ _ _ (Z0j (@Z1s _ _ _ _ (Z0a (@Z1a _ _ _ _ _ (Z0a Z0x (Z0a (pv 3) (Z0a Z0b Z0e)))) Z0e))))
   Z0p)
  (@Z0r _ _ _ _ _ (Z0y (Z0n (Y6y hr.units) (pv 1) (@Z1a _ _ _ _ _ (Z0a Z0x (Z0a (pv 3) (Z0a Z0b Z0e)))) (nomark _))
   (@Z0f _ _ _ (Z0j (@Z1s _ _ _ _ (Z0a (@Z1a _ _ _ _ _ (Z0a Z0x (Z0a (pv 3) Z0e))) Z0e))))
   Z0p)
  (@Z0f _ _ _ (Z0j Z3a)))))),?_⟩
 try dsimp only[cxK]
 refine⟨_,Z,p,_,_,.int (hd x),Z,Z,SP,at1m x,?_⟩
 refine⟨λσ' H'=>σ'=[some (.ref p),some (.ref q),some (.ref r),some (.int (hd x))]/\Same H H'/\x=.mix (hd x)/\z=.mix (hd x),?_,?_⟩
 ·refine⟨_,Z,_,Z,t2,λt ht=>?_⟩
  have S1:=Z0c ht (mT (mm (.mix (hd x))))
  have h1:upd H t (mT (mm (.mix (hd x)))) t=some (mT (mm (.mix (hd x)))):=Z0d
  refine⟨p,t,mm x,mm (.mix (hd x)),Z,Z,S1 _ _ hp,h1,okS _,okS _,_,Z,nblI (λe=>?_) (λe=>?_)⟩
  ·refine iteT (kn (Z9z λc ⟨e1,_⟩=>?_) _ S1)
   subst e1
   simp[hd] at e
  ·have ex:=mm_inj.mp (q1p e)
   refine⟨_,Z,_,Z,r,p,mm z,mm x,Z,Z,S1 _ _ hz,S1 _ _ hp,okS _,okS _,_,Z,nblI (λe'=>?_) (λe'=>?_)⟩
   ·refine kn (Z9z λc ⟨e1,e2⟩=>?_) _ S1
    subst e1
    subst e2
    simp at e'
   ·exact⟨Z,S1,ex,(mm_inj.mp (q1p e')).trans ex⟩
 rintro σ' H1 ⟨rfl,S1,ex,ez⟩
 have pe:Mv.put3 x y z=if y=.flip (hd x) then some [.turn (hd x) 4] else if y=.turn (hd x) 4 then some [.flip (hd x)] else none:=by
  rw[ez]
  conv=>lhs;rw[ex]
  exact X0g
 refine⟨λσ' H'=>σ'=[some (.ref p),some (.ref q),some (.ref r),some (.int (hd x))]/\Same H H'/\y≠.flip (hd x),?_,?_⟩
 ·refine⟨_,Z,_,Z,t2,λt ht=>?_⟩
  have S2:=Z0c ht (mT (mm (.flip (hd x))))
  have h2:upd H1 t (mT (mm (.flip (hd x)))) t=some (mT (mm (.flip (hd x)))):=Z0d
  refine⟨q,t,mm y,mm (.flip (hd x)),Z,Z,S2 _ _ (S1 _ _ hq),h2,okS _,okS _,_,Z,decI (λe=>?_) (λe=>?_)⟩
  ·rw[if_pos (mm_inj.mp e)] at pe
   refine⟨_,Z,t3,λu hu=>⟨q7b (by decide),λl hl=>?_⟩⟩
   have S3:=Z0c hu (mT (mm (.turn (hd x) 4)))
   have S4:=Z0c hl (.lst [V.ref u])
   have S03:=(S1.trans S2).trans S3
   exact ks _ pe l _ (S03.trans S4) (Z1r S03 hl) ⟨[u],Z0d,.cons (S4 _ _ Z0d) .nil⟩
  ·exact⟨Z,S1.trans S2,λc=>e (by rw[c])⟩
 rintro σ' H2 ⟨rfl,S2,nf⟩
 rw[if_neg nf] at pe
 refine⟨λσ' H'=>σ'=[some (.ref p),some (.ref q),some (.ref r),some (.int (hd x))]/\Same H H'/\y≠.turn (hd x) 4,?_,?_⟩
 ·refine⟨_,Z,_,Z,t3,λt ht=>?_⟩
  have S3:=Z0c ht (mT (mm (.turn (hd x) 4)))
  have h3:upd H2 t (mT (mm (.turn (hd x) 4))) t=some (mT (mm (.turn (hd x) 4))):=Z0d
  refine⟨q,t,mm y,mm (.turn (hd x) 4),Z,Z,S3 _ _ (S2 _ _ hq),h3,okS _,okS _,_,Z,decI (λe=>?_) (λe=>?_)⟩
  ·rw[if_pos (mm_inj.mp e)] at pe
   refine⟨_,Z,t2,λu hu=>⟨q7b (by decide),λl hl=>?_⟩⟩
   have S4:=Z0c hu (mT (mm (.flip (hd x))))
   have S5:=Z0c hl (.lst [V.ref u])
   have S04:=(S2.trans S3).trans S4
   exact ks _ pe l _ (S04.trans S5) (Z1r S04 hl) ⟨[u],Z0d,.cons (S5 _ _ Z0d) .nil⟩
  ·exact⟨Z,S2.trans S3,λc=>e (by rw[c])⟩
 rintro σ' H3 ⟨rfl,S3,nt⟩
 rw[if_neg nt] at pe
 exact kn pe H3 S3
theorem Y8y {xs:List V}{p d:Nat}{i e:Int}(hi:i=p)(he:e=(p:Int)+d):cutV xs (some i) (some e)=(xs.drop p).take d:=by
 have he':e=((p+d:Nat):Int):=by rw[he,q6l]
 subst hi
 subst he'
 unfold cutV
 rw[HT.Z2t,HT.Z2t]
 by_cases h:p<=xs.length
 ·rw[q3q h]
  by_cases h2:p+d<=xs.length
  ·rw[q3q h2,Nat.add_sub_cancel_left]
  ·rw[q3a (by omega),q1d (by rw[q2i];exact q0f _),q1d (by rw[q2i];omega)]
 ·rw[q3a (by omega),q3a (by omega),q7w,q2l,q4b (by omega),q6d]
theorem Z9b {xs:List V}{p:Nat}{i:Int}(hi:i=p):cutV xs (some i) none=xs.drop p:=by
 subst hi
 unfold cutV
 rw[HT.Z2t]
 have e2:HT.sIx xs.length xs.length none=xs.length:=rfl
 rw[e2]
 by_cases h:p<=xs.length
 ·rw[q3q h,q1d (by rw[q2i];exact q0f _)]
 ·rw[q3a (by omega),q7w,q2l,q4b (by omega)]
theorem Y8z {xs:List V}{p:Nat}{e:Int}(he:e=p):cutV xs none (some e)=xs.take p:=by
 subst he
 unfold cutV
 rw[HT.Z2t]
 have e2:HT.sIx xs.length 0 none=0:=rfl
 rw[e2,List.drop_zero,Nat.sub_zero]
 by_cases h:p<=xs.length
 ·rw[q3q h]
 ·rw[q3a (by omega),q1d (q0f _),q1d (by omega)]
theorem Z1u {H:Hp}:∀ {ps qs:U3}{xs ys:List Mm},RowsM H ps xs->RowsM H qs ys->RowsM H (ps++qs) (xs++ys)
 | [],_,[],_,.nil,h=>h
 | _::_,_,_::_,_,.cons a r,h=>.cons a (Z1u r h)
theorem Z3h {H:Hp}:∀ {ps:U3}{xs:List Mm} (n:Nat),RowsM H ps xs->RowsM H (ps.drop n) (xs.drop n)
 | _,_,0,h=>h
 | [],[],n+1,.nil=>by rw[q7j,q7j];exact .nil
 | _::_,_::_,n+1,.cons _ r=>Z3h n r
theorem Z3z {H:Hp}:∀ {ps:U3}{xs:List Mm} (n:Nat),RowsM H ps xs->RowsM H (ps.take n) (xs.take n)
 | _,_,0,_=>by rw[q2l,q2l];exact .nil
 | [],[],n+1,.nil=>by rw[q6d,q6d];exact .nil
 | _::_,_::_,n+1,.cons a r=>.cons a (Z3z n r)
theorem Z1c {H:Hp}:∀ {ps:U3}{xs:List Mm},RowsM H ps xs->ps.length=xs.length
 | [],[],.nil=>rfl
 | _::_,_::_,.cons _ r=>by rw[q1r,q1r,Z1c r]
theorem _root_.K55S.RowAt.upd {H:Hp}{l m:W9}{row:List Mv}{zs ys:List V}(h:RowAt H l row)(e:H m=some (.lst zs))(ne:l≠m):RowAt (L2.upd H m (.lst ys)) l row:=by
 obtain⟨ps,a,b⟩:=h
 refine⟨ps,by rw[Z1d ne];exact a,Paired.imp' (λp x c=>?_) b⟩
 rw[Z1d (Z7b c e (by intro z;cases z))]
 exact c
def Y2p:Sp:=λvs H Q _=>∃ (l:W9) (row:List Mv) (p:Nat),vs=[.ref l,.int p]/\RowAt H l row/\(stepAt row p=none->∀ H',Same H H'->Q .non H') ∧
 ∀ tk u,stepAt row p=some (tk,u)->∀ (t a b:W9) (H':Hp),Same H H'->H a=none->H b=none->H' t=some (.tup [.int p,.ref a,.ref b])->RowAt H' a tk->RowAt H' b u->Q (.ref t) H'
theorem at0 {x:V}{xs:List V}:atI (x::xs) 0=some x:=L2.Z1e (show (x::xs)[0]?=some x from rfl)
theorem at1 {x y:V}{xs:List V}:atI (x::y::xs) 1=some y:=L2.Z1e (show (x::y::xs)[1]?=some y from rfl)
theorem sc_stepat:FnScope ["row","place","two","put","three"] ["row","place"] (Z0h (top 70)):=fS
theorem ok_stepat (F:FunAt K "step_at" (top 70) .none)(X:K.In h)(G:Ng h mg)(B:Bs mg)(dM:Cal P w K mg base k "put_for_two" ["earlier","later"] spPut2)(dC:Cal P w K mg base k "put_for_three" ["first","middle","last"] spPut3) :
  Cal P w K mg base (k+1) "step_at" ["row","place"] Y2p:=by
 have nd:=sc_stepat.nd
 refine F.cal X G sc_stepat (bnd2 λ_ _ _ _ _ _ _ _=>rfl) (λvs H Q E h=>?_) (λf cdv A outer s H vs Q E hr h=>?_)
 ·obtain⟨l,row,p,rfl,_⟩:=h;rfl
 obtain⟨l,row,p,rfl,⟨ps,hl,hrow⟩,kn,ks⟩:=h
 have dr:=Z3h p hrow
 rw[<-q3x] at dr
 have sd:=Y1c row p
 have c2:cutV (ps.map V.ref) (some (p:Int)) (some ((p:Int)+2))=((ps.drop p).take 2).map V.ref:=(Y8y (p:=p) (d:=2) rfl rfl).trans (by rw[q4j,q3x])
 have c3:cutV (ps.map V.ref) (some (p:Int)) (some ((p:Int)+3))=((ps.drop p).take 3).map V.ref:=(Y8y (p:=p) (d:=3) rfl rfl).trans (by rw[q4j,q3x])
 refine⟨_,(@Z0g _ _ _ _ _ (@Z0o _ _ 2 _ _ _ _ nd rfl (Or.inl rfl) (Z1l Z3p (pv 0) (Z1f (pv 1)) (Z1f (Z0i Z1b (pv 1) Z0b))) rfl (.inl rfl))
  (@Z0g _ _ _ _ _ (@Z0o _ _ 3 _ _ _ _ nd rfl (Or.inl rfl) (Z1v (Z0n Z1o (Z0q Z0u rfl B.len q1m (Z0a (pv 2) Z0e)) Z0b (nomark _)) (Z0k dM hr rfl (Z0a (Z0m Z0s (pv 2) Z0b (λ_ _=>rfl)) (Z0a (Z0m Z0s (pv 2) Z0b (λ_ _=>rfl)) Z0e))) Z3a) rfl (.inl rfl))
  (@Z0g _ _ _ _ _ (Z0y (Z0n Z8s (pv 3) Z3a (nomark _))
   (@Z0f _ _ _ (Z0j (@Z1a _ _ _ _ _ (Z0a (pv 1) (Z0a (pv 2) (Z0a (pv 3) Z0e))))))
   Z0p)
  (@Z0g _ _ _ _ _ (@Z0o _ _ 4 _ _ _ _ nd rfl (Or.inl rfl) (Z1l Z3p (pv 0) (Z1f (pv 1)) (Z1f (Z0i Z1b (pv 1) Z0b))) rfl (.inl rfl))
  (@Z0g _ _ _ _ _ (@Z0o _ _ 3 _ _ _ _ nd rfl (Or.inl rfl) (Z1v (Z0n Z1o (Z0q Z0u rfl B.len q1m (Z0a (pv 4) Z0e)) Z0b (nomark _)) (Z0k dC hr rfl (Z0a (Z0m Z0s (pv 4) Z0b (λ_ _=>rfl)) (Z0a (Z0m Z0s (pv 4) Z0b (λ_ _=>rfl)) (Z0a (Z0m Z0s (pv 4) Z0b (λ_ _=>rfl)) Z0e)))) Z3a) rfl (.inl rfl))
  (@Z0g _ _ _ _ _ (Z0y (Z0n Z8s (pv 3) Z3a (nomark _))
   (@Z0f _ _ _ (Z0j (@Z1a _ _ _ _ _ (Z0a (pv 1) (Z0a (pv 4) (Z0a (pv 3) Z0e))))))
   Z0p)
  (@Z0f _ _ _ (Z0j Z3a)))))))),?_⟩
 try dsimp only[cxK]
 refine⟨_,Z,_,Z,_,Z,_,Z,_,_,Z,Z,_,Z,l,_,Z,SqL.of hl,λl2 hl2=>?_⟩
 rw[c2]
 have S1:=Z0c hl2 (.lst (((ps.drop p).take 2).map V.ref))
 have e1:upd H l2 (.lst (((ps.drop p).take 2).map V.ref)) l2=some (.lst (((ps.drop p).take 2).map V.ref)):=Z0d
 generalize upd H l2 (.lst (((ps.drop p).take 2).map V.ref))=H1 at S1 e1 ⊢
 refine⟨_,Z,l2,_,Z,.inl (SqL.of e1),Z,_,Z,eqI (λz=>?_) (λz=>?_)⟩
 ·
  generalize ps.drop p=qs at dr c3 e1 z
  generalize row.drop p=rs at dr sd
  match qs,rs,dr with
  | [],[],_=>simp at z
  | [_],[_],_=>simp at z
  | q0::q1::qr,x::y::rr,.cons hx (.cons hy hz) =>
   refine⟨_,Z,l2,_,_,.ref q0,Z,Z,SqL.of e1,at0,_,Z,l2,_,_,.ref q1,Z,Z,SqL.of e1,at1,q0,q1,x,y,Z,S1 _ _ hx,S1 _ _ hy,λen H2 S2=>?_,λu eu l3 H2 S2 fr hr2=>?_⟩
   ·
    refine⟨_,Z,Z,_,Z,nblI (λb=>absurd b (by decide)) (λ_=>?_)⟩
    have S02:=S1.trans S2
    refine⟨_,Z,_,Z,_,Z,_,Z,_,_,Z,Z,_,Z,l,_,Z,SqL.of (S02 _ _ hl),λl4 hl4=>?_⟩
    rw[c3]
    have S3:=Z0c hl4 (.lst (((q0::q1::qr).take 3).map V.ref))
    have e3:upd H2 l4 (.lst (((q0::q1::qr).take 3).map V.ref)) l4=some (.lst (((q0::q1::qr).take 3).map V.ref)):=Z0d
    generalize upd H2 l4 (.lst (((q0::q1::qr).take 3).map V.ref))=H3 at S3 e3 ⊢
    have S03:=S02.trans S3
    refine⟨_,Z,l4,_,Z,.inl (SqL.of e3),Z,_,Z,eqI (λz3=>?_) (λz3=>?_)⟩
    ·match qr,rr,hz with
     | [],[],_=>simp at z3
     | q2::_,zz::_,.cons h2 _ =>
      have se:stepAt row p=(Mv.put3 x y zz).map λu=>([x,y,zz],u):=by
       rw[sd]
       show (match Mv.put2 x y with | some u=>some ([x,y],u) | none=>_)=_
       rw[en]
       rfl
      refine⟨_,Z,l4,_,_,.ref q0,Z,Z,SqL.of e3,at0,_,Z,l4,_,_,.ref q1,Z,Z,SqL.of e3,at1,_,Z,l4,_,_,.ref q2,Z,Z,SqL.of e3,at2m,q0,q1,q2,x,y,zz,Z,S03 _ _ hx,S03 _ _ hy,S03 _ _ h2,λen3 H4 S4=>?_,λu eu l5 H4 S4 fr hr4=>?_⟩
      ·refine⟨_,Z,Z,_,Z,nblI (λb=>absurd b (by decide)) (λ_=>?_)⟩
       exact kn (by rw[se,en3];rfl) H4 (S03.trans S4)
      ·refine⟨_,Z,Z,_,Z,nblI (λ_=>?_) (λb=>absurd (q1p b) (by intro z;cases z))⟩
       refine⟨_,Z,_,Z,_,Z,t3,λt ht=>?_⟩
       have S5:=Z0c ht (.tup [.int p,.ref l4,.ref l5])
       have S45:=S4.trans S5
       exact ks [x,y,zz] u (by rw[se,eu];rfl) t l4 l5 _ (S03.trans S45) (Z1r S02 hl4) (Z1r S03 fr) Z0d ⟨[q0,q1,q2],S45 _ _ e3,.cons (S45 _ _ (S03 _ _ hx)) (.cons (S45 _ _ (S03 _ _ hy)) (.cons (S45 _ _ (S03 _ _ h2)) .nil))⟩ (hr4.same S5)
    ·refine⟨_,Z,Z,_,Z,nblI (λb=>absurd b (by decide)) (λ_=>?_)⟩
     refine kn ?_ H3 S03
     match qr,rr,hz with
     | [],[],_ =>
      rw[sd]
      show (match Mv.put2 x y with | some u=>some ([x,y],u) | none=>_)=_
      rw[en]
      rfl
     | q2::_,zz::_,.cons h2 _=>exact absurd rfl z3
   ·refine⟨_,Z,Z,_,Z,nblI (λ_=>?_) (λb=>absurd (q1p b) (by intro z;cases z))⟩
    have S02:=S1.trans S2
    refine⟨_,Z,_,Z,_,Z,t3,λt ht=>?_⟩
    have S3:=Z0c ht (.tup [.int p,.ref l2,.ref l3])
    have S23:=S2.trans S3
    refine ks [x,y] u ?_ t l2 l3 _ (S1.trans S23) hl2 (Z1r S1 fr) Z0d ⟨[q0,q1],S23 _ _ e1,.cons (S23 _ _ (S1 _ _ hx)) (.cons (S23 _ _ (S1 _ _ hy)) .nil)⟩ (hr2.same S3)
    rw[sd]
    show (match Mv.put2 x y with | some u=>some ([x,y],u) | none=>_)=_
    rw[eu]
 ·
  refine⟨_,Z,Z,_,Z,nblI (λb=>absurd b (by decide)) (λ_=>?_)⟩
  refine⟨_,Z,_,Z,_,Z,_,Z,_,_,Z,Z,_,Z,l,_,Z,SqL.of (S1 _ _ hl),λl4 hl4=>?_⟩
  rw[c3]
  have S3:=Z0c hl4 (.lst (((ps.drop p).take 3).map V.ref))
  have e3:upd H1 l4 (.lst (((ps.drop p).take 3).map V.ref)) l4=some (.lst (((ps.drop p).take 3).map V.ref)):=Z0d
  generalize upd H1 l4 (.lst (((ps.drop p).take 3).map V.ref))=H3 at S3 e3 ⊢
  have few:(ps.drop p).length<2:=by
   by_cases c:(ps.drop p).length<2
   ·exact c
   ·exact absurd (by rw[q0a,q1q,q3q (by omega)];rfl) z
  refine⟨_,Z,l4,_,Z,.inl (SqL.of e3),Z,_,Z,eqI (λz3=>?_) (λz3=>?_)⟩
  ·rw[q0a,q1q,q3a (by omega)] at z3
   omega
  ·refine⟨_,Z,Z,_,Z,nblI (λb=>absurd b (by decide)) (λ_=>?_)⟩
   refine kn ?_ H3 (S1.trans S3)
   have lr:(row.drop p).length<2:=by
    have:=Z1c dr
    rw[q0a] at this
    omega
   rw[sd]
   generalize row.drop p=rs at lr
   match rs with
   | []=>rfl
   | [_]=>rfl
   | _::_::_=>simp at lr;omega
def StpAt (lt:W9)(H:Hp)(t:W9)(s:Stp):Prop:=∃ a b,a≠lt/\b≠lt/\H t=some (.tup [.int s.p,.ref a,.ref b])/\RowAt H a s.tk/\RowAt H b s.u
theorem StpAt.same {lt t:W9}{H H':Hp}{s:Stp}(h:StpAt lt H t s)(S:Same H H'):StpAt lt H' t s:=by
 obtain⟨a,b,na,nb,e,ra,rb⟩:=h
 exact⟨a,b,na,nb,S _ _ e,ra.same S,rb.same S⟩
theorem StpAt.upd {lt t:W9}{H:Hp}{s:Stp}{zs ys:List V}(h:StpAt lt H t s)(l:H lt=some (.lst zs)):StpAt lt (L2.upd H lt (.lst ys)) t s:=by
 obtain⟨a,b,na,nb,e,ra,rb⟩:=h
 exact⟨a,b,na,nb,by rw[Z1d (Z7b e l (by intro z;cases z))];exact e,ra.upd l na,rb.upd l nb⟩
def StepsAt (H:Hp)(lt:W9)(ts:U3)(ss:List Stp):Prop:=H lt=some (.lst (ts.map V.ref))/\Paired (StpAt lt H) ts ss
theorem StepsAt.same {H H':Hp}{lt:W9}{ts:U3}{ss:List Stp}(h:StepsAt H lt ts ss)(S:Same H H'):StepsAt H' lt ts ss:=⟨S _ _ h.1,Paired.imp' (λ_ _ c=>c.same S) h.2⟩
theorem Z6x {α β:Type}{F:α->β->Prop}{a:α}{b:β}(h:F a b):∀ {l:List α}{m:List β},Paired F l m->Paired F (l++[a]) (m++[b])
 | _,_,.nil=>.cons h .nil
 | _,_,.cons x r=>.cons x (Z6x h r)
theorem Z7r {α β:Type}{F:α->β->Prop}:∀ {l:List α}{m:List β},Paired F l m->l.length=m.length
 | _,_,.nil=>rfl
 | _,_,.cons _ r=>by rw[q1r,q1r,Z7r r]
theorem StepsAt.push {H:Hp}{lt t:W9}{ts:U3}{ss:List Stp}{s:Stp}(h:StepsAt H lt ts ss)(c:StpAt lt H t s):StepsAt (L2.upd H lt (.lst ((ts++[t]).map V.ref))) lt (ts++[t]) (ss++[s]) :=
 ⟨Z0d,Z6x (c.upd h.1) (Paired.imp' (λ_ _ d=>d.upd h.1) h.2)⟩
def Y5t:Sp:=λvs H Q _=>∃ (l:W9) (row:List Mv),vs=[.ref l]/\RowAt H l row/\row.length<=40 ∧
 ∀ (t a b:W9) (H':Hp) (cur:List Mv) (ts:U3) (ss:List Stp),Same H H'->H a=none->H b=none->a≠b->H' t=some (.tup [.ref a,.ref b])->RowAt H' a cur->StepsAt H' b ts ss->Walk row ss cur->(∀ q,q<cur.length->stepAt cur q=none)->Q (.ref t) H'
theorem ms40 {row:List Mv}(h:row.length<=40):ms 40 row<=65640:=by
 unfold ms
 have h1:=Y8f row
 have h2:row.length*row.length<=40*40:=q4o h h
 have h3:row.length*(40*40+1)<=40*(40*40+1):=q6a _ h
 omega
theorem X1j (p:Nat):(if (p:Int)-2>0 then (p:Int)-2 else 0)=((p-2:Nat):Int):=by
 split<;>omega
theorem sc_short:FnScope ["row","short","steps","place","step"] ["row"] (Z0h (top 69)):=fS
theorem ok_short (F:FunAt K "shortened" (top 69) .none)(X:K.In h)(G:Ng h mg)(B:Bs mg)(eK:Cal P w K mg base k "step_at" ["row","place"] Y2p):Cal P w K mg base (k+1) "shortened" ["row"] Y5t:=by
 have nd:=sc_short.nd
 refine F.cal X G sc_short (bnd1 λ_ _ _ _ _ _ _=>rfl) (λvs H Q E h=>?_) (λf cdv A outer s H vs Q E hr h=>?_)
 ·obtain⟨l,row,rfl,_⟩:=h;rfl
 obtain⟨l,row,rfl,hrow,n40,kq⟩:=h
 obtain⟨ps,hl,hr0⟩:=hrow
 have big:(65641:Nat)<sizeLine:=by decide
 refine⟨_,(@Z0g _ _ _ _ _ (@Z0o _ _ 1 _ _ _ _ nd rfl (Or.inl rfl) (Z4d Z3b rfl B.list q8h (Z0a (pv 0) Z0e)) rfl (.inl rfl))
  (@Z0g _ _ _ _ _ (@Z0o _ _ 2 _ _ _ _ nd rfl (Or.inl rfl) (@Z1s _ _ _ _ Z0e) rfl (.inl rfl))
  (@Z0g _ _ _ _ _ (@Z0o _ _ 3 _ _ _ _ nd rfl (Or.inl rfl) Z0b rfl (.inl rfl))
  (@Z0g _ _ _ _ _ (Z8q PassesOwn.never (Z0n Y4t (pv 3) (Z0q Z0u rfl B.len q1m (Z0a (pv 1) Z0e)) (nomark _))
   (@Z0g _ _ _ _ _ (@Z0o _ _ 4 _ _ _ _ nd rfl (Or.inl rfl) (Z0k eK hr rfl (Z0a (pv 1) (Z0a (pv 3) Z0e))) rfl (.inl rfl))
   (@Z0f _ _ _ (Z0y (Z0n X8h (pv 4) Z3a (nomark _))
    (@Z0f _ _ _ (@Z0o _ _ 3 _ _ _ _ nd rfl (Or.inl rfl) (Z0i Z1b (pv 3) Z0b) rfl (.inl rfl)))
    (@Z0g _ _ _ _ _ (Z2i (Z6a q1k q2c q2b Z2j (pv 2) (Z0a (pv 4) Z0e)))
    (@Z0g _ _ _ _ _ (@Z0o _ _ 1 _ _ _ _ nd rfl (Or.inl rfl) (Z0i Z6z (Z0i Z6z (Z1l Z3p (pv 1) Z2e (Z1f (pv 3))) (Z0m Z0l (pv 4) Z0b (λ_ _=>rfl))) (Z1l Z3p (pv 1) (Z1f (Z0i Z1b (pv 3) (Z0q Z0u rfl B.len q1m (Z0a (Z0m Z0l (pv 4) Z0b (λ_ _=>rfl)) Z0e)))) Z2e)) rfl (.inl rfl))
    (@Z0f _ _ _ (@Z0o _ _ 3 _ _ _ _ nd rfl (Or.inl rfl) (Z0q (Z7k rfl) rfl B.max q8v (Z0a Z0b (Z0a (Z0i Z2k (pv 3) Z0b) Z0e))) rfl (.inl rfl)))))))))
  (@Z0f _ _ _ (Z0j (@Z1a _ _ _ _ _ (Z0a (pv 1) (Z0a (pv 2) Z0e))))))))),?_⟩
 try dsimp only[cxK]
 refine⟨_,Z,l,_,Z,.inl (SqL.of hl),λls hls=>⟨q1e _,λlt hlt=>?_⟩⟩
 have S1:=Z0c hls (.lst (ps.map V.ref))
 have S2:=Z0c hlt (.lst [])
 have nst:ls≠lt:=Z2h (Z0d (H:=H) (a:=ls) (o:=.lst (ps.map V.ref))) hlt
 have hlt0:H lt=none:=Z1r S1 hlt
 refine⟨λmm σ H'=>∃ (cur:List Mv) (ss:List Stp) (sa:W9) (ts:U3) (pl:Nat) (v:Option V),mm=lm 40 cur pl/\Same H H'/\H sa=none/\sa≠lt/\RowAt H' sa cur/\StepsAt H' lt ts ss/\Walk row ss cur/\(∀ q,q<pl->stepAt cur q=none)/\σ=[some (.ref l),some (.ref sa),some (.ref lt),some (.int (pl:Nat)),v],
  ⟨_,row,[],ls,[],0,_,Z,S1.trans S2,hls,nst,⟨ps,S2 _ _ Z0d,(hr0.same S1).same S2⟩,⟨Z0d,.nil⟩,.nil,λq hq=>absurd hq (q4f _),Z⟩,?_⟩
 rintro mm σ H1 ⟨cur,ss,sa,ts,pl,v,rfl,S,hsa,nsa,hcur,hst,wk,rest,rfl⟩
 obtain⟨qs,hq,hr1⟩:=id hcur
 have c40:cur.length<=40:=q0u wk.len n40
 have ql:qs.length=cur.length:=by have:=Z1c hr1;rw[q0a] at this;exact this
 refine⟨_,Z,_,Z,sa,_,Z,.inl (SqL.of hq),_,_,Z,Z,_,Z,decI (λz=>?_) (λz=>?_)⟩
 ·refine⟨_,λ_ _ h=>h,?_⟩
  have plt:pl<cur.length:=by rw[q0a,ql] at z;omega
  refine⟨_,Z,_,Z,sa,cur,pl,Z,hcur,λen H2 S2'=>?_,λtk u eu t a b H2 S2' fa fb ht ra rb=>?_⟩
  ·refine⟨_,Z,Z,_,Z,iteT ⟨_,Z,_,_,Z,Z,?_⟩⟩
   refine⟨lm 40 cur (pl+1),X6g plt,cur,ss,sa,ts,pl+1,_,Z,S.trans S2',hsa,nsa,hcur.same S2',hst.same S2',wk,λq hq=>?_,by rw[q6l];rfl⟩
   by_cases e:q=pl
   ·rw[e];exact en
   ·exact rest q (by omega)
  ·refine⟨_,Z,Z,_,Z,iteF ?_⟩
   have dd:=Z8g eu
   have st2:=hst.same S2'
   have tl:ts.length=ss.length:=Z7r hst.2
   have bd:=Walk.bound (N:=40) wk n40
   have m40:=ms40 n40
   refine⟨_,Z,.inl ⟨Z,_,SqL.of st2.1⟩,_,Z,lt,_,_,Z,Z,st2.1,(by rw[q0a];omega),?_⟩
   have na:a≠lt:=λe=>by rw[e,hst.1] at fa;cases fa
   have nb:b≠lt:=λe=>by rw[e,hst.1] at fb;cases fb
   have sp:StepsAt (upd H2 lt (.lst (ts.map V.ref++[V.ref t]))) lt (ts++[t]) (ss++[⟨pl,tk,u⟩]):=by
    have:=st2.push (t:=t) (s:=⟨pl,tk,u⟩) ⟨a,b,na,nb,ht,ra,rb⟩
    rw[q0b] at this
    exact this
   have tne:t≠lt:=Z7b ht st2.1 (by intro z;cases z)
   have ht3:upd H2 lt (.lst (ts.map V.ref++[V.ref t])) t=some (.tup [.int pl,.ref a,.ref b]):=by rw[Z1d tne];exact ht
   have ra3:RowAt (upd H2 lt (.lst (ts.map V.ref++[V.ref t]))) a tk:=ra.upd st2.1 na
   have rb3:RowAt (upd H2 lt (.lst (ts.map V.ref++[V.ref t]))) b u:=rb.upd st2.1 nb
   have rc3:RowAt (upd H2 lt (.lst (ts.map V.ref++[V.ref t]))) sa cur:=(hcur.same S2').upd st2.1 nsa
   have S03:Same H (upd H2 lt (.lst (ts.map V.ref++[V.ref t]))):=Z0v (S.trans S2') hlt0
   generalize upd H2 lt (.lst (ts.map V.ref++[V.ref t]))=H3 at sp ht3 ra3 rb3 rc3 S03 ⊢
   obtain⟨qs3,hq3,rq3⟩:=rc3
   obtain⟨as,ha3,ras⟩:=ra3
   obtain⟨bs,hb3,rbs⟩:=rb3
   have l3:qs3.length=cur.length:=by have:=Z1c rq3;rw[q0a] at this;exact this
   have la:as.length=tk.length:=by have:=Z1c ras;rw[q0a] at this;exact this
   have lb:bs.length=u.length:=by have:=Z1c rbs;rw[q0a] at this;exact this
   have d3:=dd.three
   have df:=dd.fits
   have ul:u.length<=2:=by
    rcases dd.due with ⟨x,y,_,e⟩ | ⟨x,y,z,_,_,e⟩
    ·rcases Z8p e with e | ⟨_,e⟩
     ·omega
     ·rw[e];exact q0f _
    ·rw[Y3b e];decide
   refine⟨_,Z,_,Z,_,Z,sa,_,Z,SqL.of hq3,λp1 f1=>?_⟩
   rw[Y8z (p:=pl) rfl]
   have T1:=Z0c f1 (.lst ((qs3.map V.ref).take pl))
   have e1:upd H3 p1 (.lst ((qs3.map V.ref).take pl)) p1=some (.lst ((qs3.map V.ref).take pl)):=Z0d
   generalize upd H3 p1 (.lst ((qs3.map V.ref).take pl))=H4 at T1 e1 ⊢
   refine⟨_,Z,t,_,_,.ref b,Z,Z,SqT.of (T1 _ _ ht3),at2m,p1,b,_,_,Z,Z,e1,T1 _ _ hb3,(by rw[q1q,q0a,q0a];omega),λp2 f2=>?_⟩
   have T2:=Z0c f2 (.lst ((qs3.map V.ref).take pl++bs.map V.ref))
   have e2:upd H4 p2 (.lst ((qs3.map V.ref).take pl++bs.map V.ref)) p2=some (.lst ((qs3.map V.ref).take pl++bs.map V.ref)):=Z0d
   generalize upd H4 p2 (.lst ((qs3.map V.ref).take pl++bs.map V.ref))=H5 at T2 e2 ⊢
   have T12:=T1.trans T2
   refine⟨_,Z,_,Z,_,Z,t,_,_,.ref a,Z,Z,SqT.of (T12 _ _ ht3),at1,a,_,Z,.inl (SqL.of (T12 _ _ ha3)),_,_,Z,Z,_,Z,sa,_,Z,SqL.of (T12 _ _ hq3),λp3 f3=>?_⟩
   rw[Z9b (p:=pl+tk.length) (by rw[q0a,la,q6l])]
   have T3:=Z0c f3 (.lst ((qs3.map V.ref).drop (pl+tk.length)))
   have e3:upd H5 p3 (.lst ((qs3.map V.ref).drop (pl+tk.length))) p3=some (.lst ((qs3.map V.ref).drop (pl+tk.length))):=Z0d
   generalize upd H5 p3 (.lst ((qs3.map V.ref).drop (pl+tk.length)))=H6 at T3 e3 ⊢
   have T13:=T12.trans T3
   refine⟨p2,p3,_,_,Z,Z,T3 _ _ e2,e3,(by rw[q0c,q1q,q2i,q0a,q0a];omega),λp4 f4=>?_⟩
   have T4:=Z0c f4 (.lst ((qs3.map V.ref).take pl++bs.map V.ref++(qs3.map V.ref).drop (pl+tk.length)))
   have T14:=T13.trans T4
   refine⟨_,Z,_,_,Z,Z,0,(pl:Int)-2,Z,?_⟩
   rw[X1j]
   refine⟨lm 40 (app cur pl tk.length u) (pl-2),X6f eu c40 _,app cur pl tk.length u,ss++[⟨pl,tk,u⟩],p4,ts++[t],pl-2,_,Z,S03.trans T14,Z1r (S03.trans T13) f4,?_,⟨qs3.take pl++bs++qs3.drop (pl+tk.length),?_,?_⟩,sp.same T14,Walk.snoc (s:=⟨pl,tk,u⟩) wk dd,Y6m eu rest,Z⟩
   ·exact λe=>by rw[e,T13 _ _ sp.1] at f4;cases f4
   ·rw[Z0d,q0b,q0b,q4j,q3x]
   ·have r1:=Z3z pl rq3
    have r2:=Z3h (pl+tk.length) rq3
    rw[<-q4j] at r1
    rw[<-q3x] at r2
    have:=Z1u (Z1u r1 rbs) r2
    rw[<-q0b,<-q0b] at this
    exact RowsM.same this T14
 ·refine⟨_,Z,_,Z,t2,λt ht=>?_⟩
  have S3:=Z0c ht (.tup [.ref sa,.ref lt])
  refine kq t sa lt _ cur ts ss (S.trans S3) hsa hlt0 nsa Z0d (hcur.same S3) (hst.same S3) wk λq hq=>rest q ?_
  rw[q0a,ql] at z
  omega
end
end K55S.S
namespace K75
open L2 Am Pc Ba
def Nz (c:Nat)(f:Nat->A5):Prop:=∃ w,w<2^c/\f w≠((0,0,0,0),0)
theorem X2w {c j:Nat}{f:Nat->A5}{x:A5}(hj:j<2^c)(hx:x≠((0,0,0,0),0)):Nz c (λi=>if i=j then x else f i):=⟨j,hj,by show (if j=j then x else f j)≠_;rw[if_pos rfl];exact hx⟩
theorem X2x {c:Nat}{f:Nat->A5}{bs:List Bool}(e:bs=(List.range (2^c)).map λj=>decide (l5 (f j)=[0,0,0,0,0]))(h:bs.all id=false):Nz c f:=by
 rw[List.all_eq_false] at h
 obtain⟨b,hb,nb⟩:=h
 rw[e] at hb
 obtain⟨j,hj,rfl⟩:=q2e.mp hb
 refine⟨j,q0s.mp hj,λz=>nb ?_⟩
 rw[z]
 decide
theorem X2u:(((1,0,0,0),0):A5)≠((0,0,0,0),0):=by intro z;cases z
theorem Y0h {K:U0}{l:W9}{ps:U3}{f:Nat->A5}{c n m:Nat}{te:TE}{fr:L2.St}{H1:Hp}{acc:W9}{Q:VK}(BD:Bd5 K H1 l ps f c n m)(c6:c<=6)(hacc:H1 acc=none)
  (hs:∀ (p:W9) (x:A5) (H:Hp) (N:V->Hp->Prop),At5 K H p x->(∀ (t:W9) (o:HO),H t=none->N (.bl (decide (l5 x=[0,0,0,0,0]))) (upd H t o))->te (some (.ref p)::fr) H N)
  (hd:∀ (H2:Hp) (bs:List Bool),Same H1 H2->H2 acc=some (.lst (bs.map V.bl))->(bs=(List.range (2^c)).map λj=>decide (l5 (f j)=[0,0,0,0,0]))->Q (.ref acc) H2):LcW (Itl K l) (gName 0) te (none::fr) H1 acc Q:=by
 have p6:=pow6 c6
 have sl:(64:Nat)<=sizeLine:=by decide
 refine Z5m (K:=K) (a:=l) (xs:=ps.map V.ref) (λi ys H'=>Same H1 H'/\H' acc=some (.lst ys)/\ys=((List.range i).map λj=>decide (l5 (f j)=[0,0,0,0,0])).map V.bl) (by rw[q0a,BD.len];omega) ⟨Z0c hacc _,Z0d,Z⟩ (λi ys H' e=>e.1.seq (SqL.of BD.lst)) ?_ ?_
 ·rintro i x ys H2 N hx hy ⟨S2,a2,rfl⟩ kN
  rw[q0k] at hx
  obtain⟨p,hp,rfl⟩:=q0x.mp hx
  refine hs p (f i) H2 N ((BD.vals i p hp).same S2) λt o ht=>kN _ _ (Z0c ht o _ _ a2) ⟨Z0v (S2.trans (Z0c ht o)) hacc,Z0d,?_⟩
  rw[q2o,q0b,q0b]
  rfl
 ·rintro ys H2 hy ⟨S2,a2,rfl⟩
  rw[q0a,BD.len] at a2
  exact hd H2 _ S2 a2 rfl
def Z3x (K:U0):Sp:=λvs H Q _=>∃ (a:W9) (ns:U6) (c:Nat) (fa:Int),vs=[.ref a,.int c,.int fa]/\SqL K H a (ns.map V.int)/\Light ns/\1<=c/\c<=6/\0<=fa/\fa<=300 ∧
 ∀ (l:W9) (H':Hp) (ps:U3) (f:Nat->A5),Same H H'->H l=none->Bd5 K H' l ps f c 100 40->Nz c f->Q (.ref l) H'
def Z3n (K:U0):Sp:=λvs H Q _=>∃ (a:W9) (ns:U6) (i:Int) (c:Nat),vs=[.ref a,.int i,.int c]/\SqL K H a (ns.map V.int)/\Light ns/\0<=i/\i<=6/\1<=c/\c<=6 ∧
 ∀ (l:W9) (H':Hp) (ps:U3) (f:Nat->A5),Same H H'->H l=none->Bd5 K H' l ps f c 100 40->Nz c f->Q (.ref l) H'
noncomputable abbrev wide:Int:=2*10^(30:Int).toNat-1
theorem Z6b:(0:Int)<wide:=by decide +kernel
theorem X4s {d:Int}(h0:0<=d)(h1:d<wide):Sz 101 ((d+1) / 2)/\Sz 100 ((d+1) / 2*(1-d%2*2)):=by
 have hw:wide<2^101-2:=by decide +kernel
 have hw2:wide<=2^101-3:=by omega
 have e2:((2:Int)^101)=2*2^100:=by decide +kernel
 generalize wide=W at *
 have t:(d+1) / 2<2^100:=by omega
 have t0:0<=(d+1) / 2:=by omega
 have s:Sz 100 ((d+1) / 2):=by unfold Sz;omega
 refine⟨s.mono (by decide),?_⟩
 have:d%2=0∨d%2=1:=by omega
 rcases this with e | e
 ·rw[e]
  rw[show (1:Int)-0*2=1 by decide,q6m]
  exact s
 ·rw[e]
  rw[show (1:Int)-1*2=-1 by decide,Int.mul_neg,q6m]
  exact s.neg
section
variable {P:U8}{w:W1}{K:U0}{mg:U4}{base:Heap}{k:Nat}{h:Heap}
theorem sc_board:FnScope ["_law_script","_law_cells","_law_far","_law_board_here","_law_k","_law_number_here","_law_four"] ["_law_script","_law_cells","_law_far"] (Z0h (top 82)):=fS
theorem X1c (F:FunAt K "_law_board" (top 82) .none)(X:K.In h)(G:Ng h mg)(B:Bs mg)(cH:Cal P w K mg base k "_law_number" ["_law_script","_law_k"] (Z4v K))(cN:Cal P w K mg base k "_law_lowest" ["_law_four","_law_halvings"] spLow):Cal P w K mg base (k+1) "_law_board" ["_law_script","_law_cells","_law_far"] (Z3x K):=by
 have nd:=sc_board.nd
 refine F.cal X G sc_board (bnd3 λ_ _ _ _ _ _ _ _ _=>rfl) (λvs H Q E h=>?_) (λf cdv A outer s H vs Q E hr h=>?_)
 ·obtain⟨a,ns,c,fa,rfl,_⟩:=h;rfl
 obtain⟨a,ns,c,fa,rfl,hS,lt,c1,c6,fa0,fa3,q⟩:=h
 have p6:=pow6 c6
 have p0:0<2^c:=q2f c
 refine⟨_,(@Z0g _ _ _ _ _ (@Z0o _ _ 3 _ _ _ _ nd rfl (Or.inl rfl) (@Z1s _ _ _ _ Z0e) rfl (.inl rfl))
  (@Z0g _ _ _ _ _ (Z2r PassesOwn.never rfl (Z1k rfl B.range (Z0a (Z0i Z2f Z0b (pv 1)) Z0e)) (Z0w (i:=4) nd rfl (Or.inl rfl))
   (@Z0g _ _ _ _ _ (@Z0o _ _ 5 _ _ _ _ nd rfl (Or.inr rfl) (Z0k cH hr rfl (Z0a (pv 0) (Z0a (Z0i Z1b (pv 4) (pv 2)) Z0e))) rfl (.inl rfl))
   (@Z0g _ _ _ _ _ (@Z0o _ _ 6 _ _ _ _ nd rfl (Or.inl rfl) (@Z1s _ _ _ _ (Z0a Z0b (Z0a Z0b (Z0a Z0b (Z0a Z0b Z0e))))) rfl (.inl rfl))
   (@Z0r _ _ _ _ _ (Z0y (Z0n Z1o (Z0i Z0z (pv 5) Z0b) Z0b (nomark _))
    (@Z0f _ _ _ (Y3c (Z0i Z2k Z0b (Z0i Z2d (Z0i Z0z (Z0i Z1w (pv 5) Z0b) Z0b) Z0b)) (Y3e (pv 6) (Z0i Z0z (Z0i Z1w (pv 5) Z0b) Z0b) Z6d)))
    Z0p)
   (@Z0r _ _ _ _ _ (Z0y (Z0n Z1o (Z0i Z0z (pv 5) Z0b) Z0b (nomark _))
    (@Z0f _ _ _ (Z4i (i:=6) rfl nd rfl rfl (LcOk.of (Nc:=["_law_j","_law_number_here"]) (mp:=[none,some 5]) (by kernel_rfl)) (Z1k rfl B.range (Z0a Z0b Z0e)) (λ_ _ _ _=>(Z0w (i:=0) (show (["_law_j","_law_number_here"]:W0).Nodup by decide +kernel) rfl (Or.inl rfl))) (λ_ _ _ _=>(Z0i Z2k (Z0i Z0z (Z0i Z3e (Z0i Z3e (pv 1) (Z0i Z1b (Z0i Y0e Z0b Z0b) Z0b)) (Z0i Z1b (Z0i Z3e (pv 0) (pv 0)) Z0b)) (Z0i Y0e Z0b Z0b)) (Z0i Z2d Z0b (Z0i Y0e Z0b Z0b)))) rfl))
    Z0p)
   (@Z0f _ _ _ (Z2i (Z6a q1k q2c q2b Z2j (pv 3) (Z0a (Z0k cN hr rfl (Z0a (pv 6) (Z0a (Z0i Z0z (Z0i Z1w (pv 5) Z0b) Z0b) Z0e))) Z0e)))))))))
  (@Z0r _ _ _ _ _ (Z0y (Z2b (Z0q (Z3k rfl) rfl B.all q8i (Z0a (Z4l rfl (LcOk.of (Nc:=["_law_one"]) (mp:=[none]) (by kernel_rfl)) (Z2x (pv 3)) (λ_ _ _ _=>(Z0w (i:=0) (show (["_law_one"]:W0).Nodup by decide +kernel) rfl (Or.inl rfl))) (λ_ _ _ _=>(Z1q (Y3i hr.units) (pv 0) (@Z1a _ _ _ _ _ (Z0a Z0b (Z0a Z0b (Z0a Z0b (Z0a Z0b (Z0a Z0b Z0e)))))) (nomark _)))) Z0e)))
   (@Z0f _ _ _ (Y3c (@Z1a _ _ _ _ _ (Z0a Z0b (Z0a Z0b (Z0a Z0b (Z0a Z0b (Z0a Z0b Z0e)))))) (Y3e (pv 3) (Z0i Z0z (Z0k cH hr rfl (Z0a (pv 0) (Z0a (Z0i Z1b (pv 2) Z0b) Z0e))) (Z0q Z0u rfl B.len q1m (Z0a (pv 3) Z0e))) Z6d)))
   Z0p)
  (@Z0f _ _ _ (Z0j (pv 3)))))),?_⟩
 try dsimp only[cxK]
 refine⟨q1e _,λl hl=>?_⟩
 have hN:(1:Int)*2^((c:Int).toNat)=((2^c:Nat):Int):=ipow c
 have hM:(1*2^((c:Int).toNat):Int).toNat=2^c:=by rw[hN,q1h]
 refine⟨_,Z,_,_,Z,Z,⟨1,sz1,by omega,by omega⟩,_,Z,by rw[hN];omega,by rw[hN];omega,?_⟩
 rw[hM]
 refine Z1y (n:=2^c) (λj σ H'=>∃ (ps:U3) (f:Nat->A5) (v v4 v5:Option V),Same H H'/\H' l=some (.lst (ps.map V.ref))/\ps.length=j/\ValsK K H' ps f/\(∀ i,Ok5 100 40 (f i))/\σ=[some (.ref a),some (.int c),some (.int fa),some (.ref l),v,v4,v5])
  ⟨[],λ_=>((1,0,0,0),0),_,_,_,Z0c hl _,Z0d,Z,(λ_ _ z=>by cases z),(λ_=>one5 (m:=40)),Z⟩ ?_ ?_
 ·rintro j σ H1 hj ⟨ps,f,v,v4,v5,S1,h1,hlen,hv,ok,rfl⟩
  have hS1:=S1.seq hS
  refine⟨_,Z,_,Z,_,Z,_,_,Z,Z,a,ns,_,Z,hS1,lt,by omega,by omega,λn n0 n1=>?_⟩
  refine⟨t4,λl2 hl2=>?_⟩
  have s2:=Z0c hl2 (.lst [V.int 0,V.int 0,V.int 0,V.int 0])
  have e2:upd H1 l2 (.lst [V.int 0,V.int 0,V.int 0,V.int 0]) l2=some (.lst ([0,0,0,0].map V.int)):=Z0d
  generalize upd H1 l2 (.lst [V.int 0,V.int 0,V.int 0,V.int 0])=H2 at s2 e2 ⊢
  have z4:∀ x∈([0,0,0,0]:U6),Sz 100 x:=λx hx=>by
   simp at hx
   subst hx
   exact s5z (by decide) (by decide)
  refine⟨λσ' H'=>Same H1 H'/\F4 H' l2/\σ'=[some (.ref a),some (.int c),some (.int fa),some (.ref l),some (.int (0+j)),some (.int n),some (.ref l2)],?_,?_⟩
  ·refine⟨_,Z,_,_,Z,Z,(show (0:Int)<3 by decide),Z,_,Z,eqI (λ_=>?_) (λ_=>⟨s2,⟨_,e2,Z,z4⟩,Z⟩)⟩
   have m0:=q1i (n / 3) (show (4:Int)≠0 by decide)
   have m1:=q1f (n / 3) (show (0:Int)<4 by decide)
   have em:n / 3%4=(((n / 3%4).toNat:Nat):Int):=by omega
   refine⟨_,Z,_,_,Z,Z,⟨by decide,by decide⟩,_,_,Z,Z,p_2,_,_,Z,Z,.inr ⟨by decide,by decide⟩,_,_,Z,Z,?_⟩
   refine⟨_,Z,_,Z,_,_,Z,Z,⟨by decide,by decide⟩,_,_,Z,Z,p_4,l2,_,_,(n / 3%4).toNat,Z,Z,e2,(by rw[em];exact ixn (by simp;omega)),?_⟩
   exact⟨Z0v s2 hl2,W0b (j:=(n / 3%4).toNat) (v:=1-n / 12%2*2) e2 rfl z4 (s5z (by omega) (by omega)),Z⟩
  rintro σ2 H3 ⟨s3,f3,rfl⟩
  refine⟨λσ' H'=>∃ l3,Same H1 H'/\F4 H' l3/\σ'=[some (.ref a),some (.int c),some (.int fa),some (.ref l),some (.int (0+j)),some (.int n),some (.ref l3)],?_,?_⟩
  ·refine⟨_,Z,_,_,Z,Z,(show (0:Int)<3 by decide),Z,_,Z,eqI (λ_=>?_) (λ_=>⟨l2,s3,f3,Z⟩)⟩
   have sl:Sz 31 n:=by unfold Sz;omega
   have s22:Sz 80 ((10:Int)^(22:Int).toNat+9):=by decide +kernel
   refine⟨_,Z,by decide,by decide,λacc hacc=>?_⟩
   refine Y7x (n:=4) (fr:=[some (.int n)]) (λi=>.int (n*(10^(22:Int).toNat+9)*((0+(i:Int))*(0+(i:Int))+3)%10^(30:Int).toNat-5*10^(29:Int).toNat)) t4 hacc (λi H4 N hi s4 kN=>?_) (λH4 s4 a4=>?_)
   ·have si:Sz 3 (0+(i:Int)):=by unfold Sz;omega
    have si3:Sz 7 ((0+(i:Int))*(0+(i:Int))+3):=((si.mul si).add (show Sz 2 3 by unfold Sz;omega)).mono (by decide)
    exact⟨_,Z,_,_,Z,Z,⟨by decide,by decide,by decide⟩,_,_,Z,Z,_,_,Z,Z,⟨_,_,sl,s22,by decide⟩,_,Z,_,Z,_,_,Z,Z,⟨_,_,si,si,by decide⟩,_,_,Z,Z,_,_,Z,Z,⟨_,_,sl.mul s22,si3,by decide⟩,_,_,Z,Z,⟨by decide,by decide,by decide⟩,_,_,Z,Z,ten30,_,_,Z,Z,⟨by decide,by decide,by decide⟩,_,_,Z,Z,.inl ⟨by decide,by decide⟩,_,_,Z,Z,kN⟩
   ·refine⟨acc,s3.trans s4,⟨(List.range 4).map λ(i:Nat)=>n*(10^(22:Int).toNat+9)*((0+(i:Int))*(0+(i:Int))+3)%10^(30:Int).toNat-5*10^(29:Int).toNat,?_,Z,λx hx=>?_⟩,Z⟩
    ·rw[a4,q3v]
     rfl
    ·obtain⟨i,_,rfl⟩:=q2e.mp hx
     exact W1g
  rintro σ3 H4 ⟨l3,s4,f4,rfl⟩
  have h4:=s4 _ _ h1
  obtain⟨xs3,hx3,hl3,hz3⟩:=f4
  obtain⟨xa,xb,xc,xd,rfl⟩:=Y8o hl3
  refine⟨_,Z,.inl ⟨Z,_,SqL.of h4⟩,_,Z,_,Z,_,_,Z,Z,⟨by decide,by decide⟩,_,_,Z,Z,(show (0:Int)<40 by decide),l3,xa,xb,xc,xd,_,Z,hx3,q1i _ (by decide),λp H5 y1 y2 y3 y4 g5 s5 e5 r5=>?_⟩
  have o5:Ok5 100 40 ((y1,y2,y3,y4),g5):=Y3s r5 ⟨hz3 xa (by simp),hz3 xb (by simp),hz3 xc (by simp),hz3 xd (by simp)⟩ (by have:=q1f (n / 24) (show (0:Int)<40 by decide);omega)
  obtain⟨x,ex⟩:∃ x:A5,x=((y1,y2,y3,y4),g5):=⟨_,Z⟩
  rw[<-ex] at o5
  have e5:H5 p=some (tA x):=by rw[ex];exact e5
  have S5:=(S1.trans s4).trans s5
  refine⟨l,_,_,Z,Z,s5 _ _ h4,(by rw[q0a,hlen];exact q0l (q0l hj p6) (by decide)),?_⟩
  refine⟨ps++[p],λi=>if i=ps.length then x else f i,_,_,_,Z0v S5 hl,?_,by simp[hlen],Z3m (Z3g hv (s4.trans s5) (At5.of e5)) (s5 _ _ h4),λi=>?_,Z⟩
  ·rw[Z0d,q0b];rfl
  ·show Ok5 100 40 (if i=ps.length then x else f i)
   split
   ·exact o5
   ·exact ok i
 ·rintro σ H1 ⟨ps,f,v,v4,v5,S1,h1,hlen,hv,ok,rfl⟩
  have B1:Bd5 K H1 l ps f c 100 40:=⟨h1,hlen,hv,λi _=>ok i⟩
  refine⟨λσ' H'=>∃ (ps:U3) (f:Nat->A5),Same H H'/\Bd5 K H' l ps f c 100 40/\Nz c f/\σ'=[some (.ref a),some (.int c),some (.int fa),some (.ref l),v,v4,v5],?_,?_⟩
  ·refine⟨_,Z,l,Z,⟨_,SqL.of h1⟩,λacc hacc=>?_⟩
   refine Y0h B1 c6 hacc (λp x H N e kk=>⟨_,Z,t5,λt ht=>⟨p,t,l5 x,[0,0,0,0,0],Z,Z,e.same (Z0c ht _),SqT.of Z0d,kk t _ ht⟩⟩) (λH2 bs s2 a2 eb=>?_)
   have B2:=B1.same s2
   refine⟨acc,bs,Z,SqL.of a2,_,Z,blI (λ_=>?_) (λnb=>⟨ps,f,S1.trans s2,B2,X2x eb nb,Z⟩)⟩
   refine⟨t5,λt ht=>?_⟩
   have B3:=B2.same (Z0c ht (tA ((1,0,0,0),0)))
   have S3:=(S1.trans s2).trans (Z0c ht (tA ((1,0,0,0),0)))
   refine⟨_,Z,_,Z,_,Z,_,_,Z,Z,a,ns,fa+70,Z,S3.seq hS,lt,by omega,by omega,λn n0 n1=>?_⟩
   have lq:(ps.map V.ref).length=2^c:=by rw[q0a,hlen]
   have e0:=q1i n (show (((ps.map V.ref).length:Nat):Int)≠0 by rw[lq];omega)
   have e1:=q1f n (show (0:Int)<((ps.map V.ref).length:Nat) by rw[lq];omega)
   have em:n%((ps.map V.ref).length:Nat)=(((n%((ps.map V.ref).length:Nat)).toNat:Nat):Int):=by omega
   refine⟨_,Z,l,_,Z,.inl (SqL.of B3.lst),_,_,Z,Z,(by rw[lq];omega),l,_,_,(n%((ps.map V.ref).length:Nat)).toNat,Z,Z,B3.lst,(by rw[em];exact ixn (by omega)),?_⟩
   exact⟨_,_,Z0v S3 hl,B3.put (At5.of Z0d) (one5 (m:=40)),X2w (by omega) X2u,Z⟩
  rintro σ' H2 ⟨qs,g,S2,B2,nz,rfl⟩
  exact⟨_,Z,q l H2 qs g S2 hl B2 nz⟩
theorem sc_boardby:FnScope ["_law_script","_law_at","_law_cells","_law_cell","_law_board_here","_law_wide","_law_k","_law_four","_law_j","_law_digit"] ["_law_script","_law_at","_law_cells"] (Z0h (top 83)):=fS
theorem Y5a (F:FunAt K "_law_board_by" (top 83) .none)(X:K.In h)(G:Ng h mg)(B:Bs mg)(c9:Cal P w K mg base k "_law_cell_at" ["_law_script","_law_k"] (spCell K))(cJ:Cal P w K mg base k "_law_board" ["_law_script","_law_cells","_law_far"] (Z3x K))(cN:Cal P w K mg base k "_law_lowest" ["_law_four","_law_halvings"] spLow) :
  Cal P w K mg base (k+1) "_law_board_by" ["_law_script","_law_at","_law_cells"] (Z3n K):=by
 have nd:=sc_boardby.nd
 refine F.cal X G sc_boardby (bnd3 λ_ _ _ _ _ _ _ _ _=>rfl) (λvs H Q E h=>?_) (λf cdv A outer s H vs Q E hr h=>?_)
 ·obtain⟨a,ns,i,c,rfl,_⟩:=h;rfl
 obtain⟨a,ns,i,c,rfl,hS,lt,i0,i6,c1,c6,q⟩:=h
 have p6:=pow6 c6
 have p0:0<2^c:=q2f c
 refine⟨_,(@Z0g _ _ _ _ _ (@Z0o _ _ 3 _ _ _ _ nd rfl (Or.inl rfl) (Z0k c9 hr rfl (Z0a (pv 0) (Z0a (pv 1) Z0e))) rfl (.inl rfl))
  (@Z0g _ _ _ _ _ (@Z0o _ _ 4 _ _ _ _ nd rfl (Or.inl rfl) (Z0k cJ hr rfl (Z0a (pv 0) (Z0a (pv 2) (Z0a (Z0i Z2d Z0b (pv 1)) Z0e)))) rfl (.inl rfl))
  (@Z0g _ _ _ _ _ (@Z0o _ _ 5 _ _ _ _ nd rfl (Or.inl rfl) (Z0i Z2k (Z0i Z2d Z0b (Z0i Y0e Z0b Z0b)) Z0b) rfl (.inl rfl))
  (@Z0r _ _ _ _ _ (Z2r PassesOwn.never rfl (Z1k rfl B.range (Z0a (Z0i Z2f Z0b (pv 2)) Z0e)) (Z0w (i:=6) nd rfl (Or.inl rfl))
   (@Z0g _ _ _ _ _ (Z0y (Z0n Z1o (pv 3) Z0b (nomark _))
    (@Z0f _ _ _ X0j)
    Z0p)
   (@Z0g _ _ _ _ _ (@Z0o _ _ 7 _ _ _ _ nd rfl (Or.inl rfl) (@Z1s _ _ _ _ Z0e) rfl (.inl rfl))
   (@Z0g _ _ _ _ _ (Z2r PassesOwn.never rfl (Z1k rfl B.range (Z0a Z0b Z0e)) (Z0w (i:=8) nd rfl (Or.inl rfl))
    (@Z0g _ _ _ _ _ (@Z0o _ _ 9 _ _ _ _ nd rfl (Or.inl rfl) (Z0i Z0z (pv 3) (pv 5)) rfl (.inl rfl))
    (@Z0g _ _ _ _ _ (Z2i (Z6a q1k q2c q2b Z2j (pv 7) (Z0a (Z0i Z3e (Z0i Z1w (Z0i Z1b (pv 9) Z0b) Z0b) (Z0i Z2k Z0b (Z0i Z2d (Z0i Z0z (pv 9) Z0b) Z0b))) Z0e)))
    (@Z0f _ _ _ (@Z0o _ _ 3 _ _ _ _ nd rfl (Or.inl rfl) (Z0i Y3h (pv 3) (pv 5)) rfl (.inl rfl))))))
   (@Z0g _ _ _ _ _ (Y3c (Z0k cN hr rfl (Z0a (pv 7) (Z0a (Z0i Z0z (pv 3) Z0b) Z0e))) (Y3e (pv 4) (pv 6) Z6d))
   (@Z0f _ _ _ (@Z0o _ _ 3 _ _ _ _ nd rfl (Or.inl rfl) (Z0i Z1w (pv 3) Z0b) rfl (.inl rfl))))))))
  (@Z0r _ _ _ _ _ (Z0y (Z2b (Z0q (Z3k rfl) rfl B.all q8i (Z0a (Z4l rfl (LcOk.of (Nc:=["_law_one"]) (mp:=[none]) (by kernel_rfl)) (Z2x (pv 4)) (λ_ _ _ _=>(Z0w (i:=0) (show (["_law_one"]:W0).Nodup by decide +kernel) rfl (Or.inl rfl))) (λ_ _ _ _=>(Z1q (Y3i hr.units) (pv 0) (@Z1a _ _ _ _ _ (Z0a Z0b (Z0a Z0b (Z0a Z0b (Z0a Z0b (Z0a Z0b Z0e)))))) (nomark _)))) Z0e)))
   (@Z0f _ _ _ (Y3c (@Z1a _ _ _ _ _ (Z0a Z0b (Z0a Z0b (Z0a Z0b (Z0a Z0b (Z0a Z0b Z0e)))))) (Y3e (pv 4) Z0b Z6d)))
   Z0p)
  (@Z0f _ _ _ (Z0j (pv 4)))))))),?_⟩
 try dsimp only[cxK]
 refine⟨_,Z,_,Z,a,ns,i,Z,hS,i0,?_⟩
 refine⟨_,Z,_,Z,_,Z,_,_,Z,Z,.inl ⟨by decide,by decide⟩,a,ns,c,50*i,Z,hS,lt,c1,c6,by omega,by omega,λl H1 ps f S1 nl B1 nz1=>?_⟩
 refine⟨_,_,Z,Z,⟨by decide,by decide,by decide⟩,_,_,Z,Z,.inl ⟨by decide,by decide⟩,_,_,Z,Z,?_⟩
 have hN:(1:Int)*2^((c:Int).toNat)=((2^c:Nat):Int):=ipow c
 have hM:(1*2^((c:Int).toNat):Int).toNat=2^c:=by rw[hN,q1h]
 refine⟨λσ' H'=>∃ (ps:U3) (f:Nat->A5) (u3 u6 u7 u8 u9:Option V),Same H H'/\Bd5 K H' l ps f c 100 40/\σ'=[some (.ref a),some (.int i),some (.int c),u3,some (.ref l),some (.int wide),u6,u7,u8,u9],?_,?_⟩
 ·refine⟨_,Z,_,_,Z,Z,⟨1,sz1,by omega,by omega⟩,_,Z,by rw[hN];omega,by rw[hN];omega,?_⟩
  rw[hM]
  refine Z1y (n:=2^c) (λj σ H'=>∃ (ps:U3) (f:Nat->A5) (cc:Int) (u6 u7 u8 u9:Option V),Same H H'/\Bd5 K H' l ps f c 100 40/\σ=[some (.ref a),some (.int i),some (.int c),some (.int cc),some (.ref l),some (.int wide),u6,u7,u8,u9])
   ⟨ps,f,cell ns i,_,_,_,_,S1,B1,Z⟩ ?_ (λσ H2 h=>by obtain⟨ps,f,cc,u6,u7,u8,u9,S2,B2,rfl⟩:=h;exact⟨ps,f,_,_,_,_,_,S2,B2,Z⟩)
  rintro j σ H2 hj ⟨ps,f,cc,u6,u7,u8,u9,S2,B2,rfl⟩
  refine⟨_,Z,Z,_,Z,eqI (λ_=>⟨ps,f,_,_,_,_,_,S2,B2,Z⟩) (λ_=>?_)⟩
  refine⟨q1e _,λl4 hl4=>?_⟩
  have n4:H l4=none:=by
   cases e:H l4 with
   | none=>rfl
   | some o=>rw[S2 _ _ e] at hl4;cases hl4
  have S3:=S2.trans (Z0c hl4 (.lst []))
  have B3:=B2.same (Z0c hl4 (.lst []))
  refine⟨_,Z,by decide,by decide,?_⟩
  refine Z1y (n:=4) (λt σ H'=>∃ (xs:U6) (cc:Int) (u8 u9:Option V),xs.length=t/\(∀ x∈xs,Sz 100 x)/\Same H2 H'/\H' l4=some (.lst (xs.map V.int))/\σ=[some (.ref a),some (.int i),some (.int c),some (.int cc),some (.ref l),some (.int wide),some (.int (0+(j:Int))),some (.ref l4),u8,u9])
   ⟨[],cc,_,_,Z,(λ_ z=>by cases z),Z0c hl4 _,Z0d,Z⟩ ?_ ?_
  ·rintro t σ H4 ht ⟨xs,cc,u8,u9,xl,xz,S4,h4,rfl⟩
   have d0:=q1i cc (q4y Z6b)
   have d1:=q1f cc Z6b
   obtain⟨sA,sV⟩:=X4s d0 d1
   have sB:Sz 2 (1-cc%wide%2*2):=by unfold Sz;omega
   refine⟨_,Z,_,Z,_,_,Z,Z,Z6b,?_⟩
   refine⟨_,Z,.inl ⟨Z,_,SqL.of h4⟩,_,Z,_,_,Z,Z,_,_,Z,Z,⟨by decide,by decide⟩,_,Z,_,_,Z,Z,p_2,_,_,Z,Z,.inr ⟨by decide,by decide⟩,_,_,Z,Z,_,_,Z,Z,⟨_,_,sA,sB,by decide⟩,l4,_,_,Z,Z,h4,(by rw[q0a,xl];exact q0l ht (by decide)),?_⟩
   refine⟨_,Z,_,Z,_,_,Z,Z,⟨q4y Z6b,by decide +kernel⟩,xs++[(cc%wide+1) / 2*(1-cc%wide%2*2)],_,_,_,by simp[xl],?_,Z0v S4 hl4,?_,Z⟩
   ·intro x hx
    rcases q0v.mp hx with z | z
    ·exact xz x z
    ·rw[q0n.mp z];exact sV
   ·rw[Z0d,q0b];rfl
  ·rintro σ H4 ⟨xs,cc,u8,u9,xl,xz,S4,h4,rfl⟩
   have B4:=B2.same S4
   have ei:(0:Int)+(j:Int)=(j:Int):=q2x _
   obtain⟨x1,x2,x3,x4,rfl⟩:=Y8o xl
   have h40:=q1f cc (show (0:Int)<40 by decide)
   refine⟨_,Z,_,Z,_,_,Z,Z,(show (0:Int)<40 by decide),l4,x1,x2,x3,x4,_,Z,h4,q1i _ (by decide),λp H5 x y z u g s5 e5 r5=>?_⟩
   have o5:Ok5 100 40 ((x,y,z,u),g):=Y3s r5 ⟨xz x1 (by simp),xz x2 (by simp),xz x3 (by simp),xz x4 (by simp)⟩ (by omega)
   have B5:=B4.same s5
   refine⟨_,Z,_,Z,l,_,_,j,Z,Z,B5.lst,(by rw[ei,q0a,B5.len];exact ixn hj),?_⟩
   exact⟨_,Z,_,_,Z,Z,⟨by decide,by decide⟩,_,_,_,_,_,_,_,Z0v (S2.trans (S4.trans s5)) nl,B5.put (x:=((x,y,z,u),g)) (At5.of e5) o5,Z⟩
 rintro σ' H2 ⟨ps,f,u3,u6,u7,u8,u9,S2,B2,rfl⟩
 refine⟨λσ' H'=>∃ (ps:U3) (f:Nat->A5),Same H H'/\Bd5 K H' l ps f c 100 40/\Nz c f/\σ'=[some (.ref a),some (.int i),some (.int c),u3,some (.ref l),some (.int wide),u6,u7,u8,u9],?_,?_⟩
 ·refine⟨_,Z,l,Z,⟨_,SqL.of B2.lst⟩,λacc hacc=>?_⟩
  refine Y0h B2 c6 hacc (λp x H N e kk=>⟨_,Z,t5,λt ht=>⟨p,t,l5 x,[0,0,0,0,0],Z,Z,e.same (Z0c ht _),SqT.of Z0d,kk t _ ht⟩⟩) (λH3 bs s3 a3 eb=>?_)
  have B3:=B2.same s3
  refine⟨acc,bs,Z,SqL.of a3,_,Z,blI (λ_=>?_) (λnb=>⟨ps,f,S2.trans s3,B3,X2x eb nb,Z⟩)⟩
  refine⟨t5,λt ht=>?_⟩
  have B4:=B3.same (Z0c ht (tA ((1,0,0,0),0)))
  have S4:=(S2.trans s3).trans (Z0c ht (tA ((1,0,0,0),0)))
  exact⟨_,Z,l,_,_,0,Z,Z,B4.lst,(ixn (N:=(ps.map V.ref).length) (i:=0) (by rw[q0a,B2.len];omega)),_,_,Z0v S4 nl,B4.put (At5.of Z0d) (one5 (m:=40)),X2w p0 X2u,Z⟩
 rintro σ' H3 ⟨qs,g,S3,B3,nz,rfl⟩
 exact⟨_,Z,q l H3 qs g S3 nl B3 nz⟩
end
end K75
namespace K55S
open L2 Ba Am Pc M71
open K75 (top Bs Z4v)
open M72 (VOk)
open M75 (Mk mvd mvds Br)
theorem v1' {c:Nat}{a:Int}(h0:0<=a)(h1:a<(c:Int)):VOk c (.flip a)/\VOk c (.mix a):=⟨⟨h0,λx hx=>by simp[Mv.cells] at hx;omega⟩,⟨h0,λx hx=>by simp[Mv.cells] at hx;omega⟩⟩
theorem vT {c:Nat}{a k:Int}(h0:0<=a)(h1:a<(c:Int))(k1:1<=k)(k7:k<=7):VOk c (.turn a k):=⟨⟨h0,k1,k7⟩,λx hx=>by simp[Mv.cells] at hx;omega⟩
theorem v2' {c:Nat}{a b:Int}(h0:0<=a)(h1:a<(c:Int))(g0:0<=b)(g1:b<(c:Int))(n:a≠b):VOk c (.iff a b)/\VOk c (.pair a b)/\VOk c (.swap a b) :=
 ⟨⟨⟨h0,g0,n⟩,λx hx=>by simp[Mv.cells] at hx;omega⟩,⟨⟨h0,g0,n⟩,λx hx=>by simp[Mv.cells] at hx;omega⟩,⟨⟨h0,g0,n⟩,λx hx=>by simp[Mv.cells] at hx;omega⟩⟩
theorem six {c:Int}(c1:1<=c)(c6:c<=6):c=1∨c=2∨c=3∨c=4∨c=5∨c=6:=by omega
def Z8k:Sp:=λvs H Q _=>∃ (n:Int) (c:Nat),vs=[.int n,.int c]/\0<=n/\1<=c/\c<=6/\∀ (t:W9) (H':Hp) (m:Mv),Same H H'->H' t=some (mT (mm m))->VOk c m->Br m->Q (.ref t) H'
def spMove:Sp:=λvs H Q _=>∃ (n:Int) (c:Nat),vs=[.int n,.int c]/\1<=c/\c<=6/\∀ (t:W9) (H':Hp) (m:Mv),Same H H'->H' t=some (mT (mm m))->VOk c m->Br m->Q (.ref t) H'
theorem X7o {c n:Int}(n0:0<=n)(c1:1<=c)(c6:c<=6):(0<=n / 6%c/\n / 6%c<c)/\(1<c->0<=(n / 6%c+1+n / 36%(if c-1>1 then c-1 else 1))%c/\(n / 6%c+1+n / 36%(if c-1>1 then c-1 else 1))%c<c/\n / 6%c≠(n / 6%c+1+n / 36%(if c-1>1 then c-1 else 1))%c):=by
 rcases six c1 c6 with rfl | rfl | rfl | rfl | rfl | rfl<;>simp<;>omega
section
variable {P:U8}{w:W1}{K:U0}{mg:U4}{base:Heap}{k:Nat}{h:Heap}
theorem sc_moveof:FnScope ["_law_number_here","_law_cells","_law_one","_law_other_here"] ["_law_number_here","_law_cells"] (Z0h (top 84)):=fS
theorem Y7d (F:FunAt K "_law_move_of" (top 84) .none)(X:K.In h)(G:Ng h mg)(B:Bs mg):Cal P w K mg base (k+1) "_law_move_of" ["_law_number_here","_law_cells"] Z8k:=by
 have nd:=sc_moveof.nd
 refine F.cal X G sc_moveof (bnd2 λ_ _ _ _ _ _ _ _=>rfl) (λvs H Q E h=>?_) (λf cdv A outer s H vs Q E hr h=>?_)
 ·obtain⟨n,c,rfl,_⟩:=h;rfl
 obtain⟨n,c,rfl,n0,c1,c6,kq⟩:=h
 have cp:(0:Int)<(c:Int):=by omega
 have mp:(0:Int)<if (c:Int)-1>1 then (c:Int)-1 else 1:=by split<;>omega
 refine⟨_,(@Z0g _ _ _ _ _ (@Z0o _ _ 2 _ _ _ _ nd rfl (Or.inl rfl) (Z0i Z0z (Z0i Z1w (pv 0) Z0b) (pv 1)) rfl (.inl rfl))
  (@Z0r _ _ _ _ _ (@Z0o _ _ 3 _ _ _ _ nd rfl (Or.inl rfl) (Z0i Z0z (Z0i Z1b (Z0i Z1b (pv 2) Z0b) (Z0i Z0z (Z0i Z1w (pv 0) Z0b) (Z0q (Z7k rfl) rfl B.max q8v (Z0a Z0b (Z0a (Z0i Z2k (pv 1) Z0b) Z0e))))) (pv 1)) rfl (.inl rfl))
  (@Z0r _ _ _ _ _ (Z0y (PW.pt (Z5w (Z0n Y4u (pv 1) Z0b (nomark _)) (Z4a (Z0n Y4u (Z0i Z0z (pv 0) Z0b) Z0b (nomark _)))))
   (@Z0f _ _ _ (Z0j (@Z1a _ _ _ _ _ (Z0a (Z0m Z0s (@Z1s _ _ _ _ (Z0a Z0x (Z0a Z0x (Z0a Z0x Z0e)))) (Z0i Z2k (Z0i Z0z (pv 0) Z0b) Z0b) (λ_ _=>rfl)) (Z0a (pv 2) (Z0a (pv 3) Z0e))))))
   Z0p)
  (@Z0g _ _ _ _ _ (Z0y (Z0n Z1o (Z0i Z0z (pv 0) Z0b) Z0b (nomark _))
   (@Z0f _ _ _ (Z0j (@Z1a _ _ _ _ _ (Z0a Z0x (Z0a (pv 2) (Z0a (Z0i Z1b Z0b (Z0i Z2d Z0b (Z0i Z0z (Z0i Z1w (pv 0) Z0b) Z0b))) Z0e))))))
   Z0p)
  (@Z0f _ _ _ (Z0j (@Z1a _ _ _ _ _ (Z0a (Z0m Z0s (@Z1s _ _ _ _ (Z0a Z0x (Z0a Z0x Z0e))) (Z0i Z0z (pv 0) Z0b) (λ_ _=>rfl)) (Z0a (pv 2) Z0e))))))))),?_⟩
 try dsimp only[cxK]
 refine⟨_,Z,_,_,Z,Z,⟨by decide,by decide⟩,_,Z,_,_,Z,Z,cp,?_⟩
 refine⟨λσ' H'=>H=H'/\∃ on ot:Int,(0<=on/\on<(c:Int))/\(1<(c:Int)->0<=ot/\ot<(c:Int)/\on≠ot)/\σ'=[some (.int n),some (.int c),some (.int on),some (.int ot)],?_,?_⟩
 ·have t:=X7o n0 (show (1:Int)<=(c:Int) by omega) (show (c:Int)<=6 by omega)
  exact⟨_,Z,_,_,Z,Z,_,Z,_,_,Z,Z,⟨by decide,by decide⟩,_,Z,_,_,Z,Z,1,(c:Int)-1,Z,_,_,Z,Z,mp,_,_,Z,Z,_,Z,_,_,Z,Z,cp,Z,_,_,t.1,t.2,Z⟩
 rintro σ' _ ⟨rfl,on,ot,⟨o0,o1⟩,o2,rfl⟩
 refine⟨λσ' H'=>H=H'/\σ'=[some (.int n),some (.int c),some (.int on),some (.int ot)]/\¬ (1<(c:Int)/\2<n%6),?_,?_⟩
 ·refine⟨_,Z,_,_,Z,Z,_,Z,decI (λz=>?_) (λz=>iteF ⟨Z,Z,λy=>z y.1⟩)⟩
  refine⟨_,Z,_,_,Z,Z,(by decide:(0:Int)<6),_,_,Z,Z,_,Z,decI (λy=>?_) (λy=>⟨Z,Z,λu=>y u.2⟩)⟩
  obtain⟨q0,q1,q2⟩:=o2 z
  refine⟨t3,λl hl=>?_⟩
  have s1:=Z0c hl (.lst [V.str "if",V.str "pair",V.str "swap"])
  have vv:=v2' (c:=c) o0 o1 q0 q1 q2
  have i3:n%6-3=0∨n%6-3=1∨n%6-3=2:=by omega
  rcases i3 with e | e | e
  ·refine⟨_,Z,_,_,Z,Z,(by decide:(0:Int)<6),_,_,Z,Z,l,_,_,.str "if",Z,Z,SqL.of Z0d,(by rw[e];exact k0),_,Z,_,Z,t3,λt ht=>?_⟩
   exact kq t _ (.iff on ot) (s1.trans (Z0c ht _)) Z0d vv.1 trivial
  ·refine⟨_,Z,_,_,Z,Z,(by decide:(0:Int)<6),_,_,Z,Z,l,_,_,.str "pair",Z,Z,SqL.of Z0d,(by rw[e];exact k1),_,Z,_,Z,t3,λt ht=>?_⟩
   exact kq t _ (.pair on ot) (s1.trans (Z0c ht _)) Z0d vv.2.1 trivial
  ·refine⟨_,Z,_,_,Z,Z,(by decide:(0:Int)<6),_,_,Z,Z,l,_,_,.str "swap",Z,Z,SqL.of Z0d,(by rw[e];exact k2),_,Z,_,Z,t3,λt ht=>?_⟩
   exact kq t _ (.swap on ot) (s1.trans (Z0c ht _)) Z0d vv.2.2 trivial
 rintro σ' _ ⟨rfl,rfl,_⟩
 refine⟨_,Z,_,_,Z,Z,(by decide:(0:Int)<3),Z,_,Z,eqI (λz=>?_) (λz=>?_)⟩
 ·refine⟨_,Z,_,Z,_,_,Z,Z,⟨by decide,by decide⟩,_,_,Z,Z,(by decide:(0:Int)<3),_,_,Z,Z,.inl ⟨by decide,by decide⟩,_,_,Z,Z,t3,λt ht=>?_⟩
  exact kq t _ (.turn on (2+2*(n / 216%3))) (Z0c ht _) Z0d (vT o0 o1 (by omega) (by omega)) (by show (2+2*(n / 216%3)).toNat%2=0;omega)
 ·refine⟨t2,λl hl=>?_⟩
  have s1:=Z0c hl (.lst [V.str "flip",V.str "mix"])
  have i2:n%3=0∨n%3=1:=by omega
  rcases i2 with e | e
  ·refine⟨_,Z,_,_,Z,Z,(by decide:(0:Int)<3),l,_,_,.str "flip",Z,Z,SqL.of Z0d,(by rw[e];rfl),_,Z,t2,λt ht=>?_⟩
   exact kq t _ (.flip on) (s1.trans (Z0c ht _)) Z0d (v1' o0 o1).1 trivial
  ·refine⟨_,Z,_,_,Z,Z,(by decide:(0:Int)<3),l,_,_,.str "mix",Z,Z,SqL.of Z0d,(by rw[e];rfl),_,Z,t2,λt ht=>?_⟩
   exact kq t _ (.mix on) (s1.trans (Z0c ht _)) Z0d (v1' o0 o1).2 trivial
theorem sc_move:FnScope ["_law_cell","_law_cells"] ["_law_cell","_law_cells"] (Z0h (top 85)):=fS
theorem X5f (F:FunAt K "_law_move" (top 85) .none)(X:K.In h)(G:Ng h mg)(cM:Cal P w K mg base k "_law_move_of" ["_law_number_here","_law_cells"] Z8k):Cal P w K mg base (k+1) "_law_move" ["_law_cell","_law_cells"] spMove:=by
 have nd:=sc_move.nd
 refine F.cal X G sc_move (bnd2 λ_ _ _ _ _ _ _ _=>rfl) (λvs H Q E h=>?_) (λf cdv A outer s H vs Q E hr h=>?_)
 ·obtain⟨n,c,rfl,_⟩:=h;rfl
 obtain⟨n,c,rfl,c1,c6,kq⟩:=h
 refine⟨_,(@Z0f _ _ _ (Z0j (Z0k cM hr rfl (Z0a (Z0i Z0z (Z0i Z1b (Z0i Z2d (pv 0) Z0b) Z0b) Z0b) (Z0a (pv 1) Z0e))))),?_⟩
 try dsimp only[cxK]
 exact⟨_,Z,_,_,Z,Z,.inr ⟨by decide,by decide⟩,_,_,Z,Z,_,_,Z,Z,(by decide:(0:Int)<2147483647),_,Z,_,c,Z,q1i _ (by decide),c1,c6,kq⟩
end
end K55S
namespace K55S
open L2 Ba Am Pc M71
open K75 (top Bs Z4v Bd5)
open M72 (VOk)
open M75 (Mk mvd mvds Br)
def Y5v (K:U0):Sp:=λvs H Q _=>∃ (a:W9) (ns:U6) (mo i:Int) (c:Nat),vs=[.ref a,.int i,.int c,.int mo]/\0<=i/\i<=6/\SqL K H a (ns.map V.int)/\Light ns/\1<=c/\c<=6/\(mo=40∨mo=16∨mo=6) ∧
 ∀ (l:W9) (H':Hp) (row:List Mv),Same H H'->H l=none->RowAt H' l row->row.length<=40->(∀ m∈row,VOk c m)->(∀ m∈row,Br m)->Q (.ref l) H'
def Drawn (c:Nat)(H H':Hp)(lr:W9)(row:List Mv):Prop:=Same H H'/\RowAt H' lr row/\(∀ m∈row,VOk c m)/\∀ m∈row,Br m
theorem Z8n {H:Hp}{l:W9}{xs ys:List V}{ps:U3}{ms:List Mm}(h:RowsM H ps ms)(hl:H l=some (.lst xs)):RowsM (upd H l (.lst ys)) ps ms :=
 Z4w (λ_ _ c=>by rw[Z1d (Z7b c hl (by intro z;cases z))];exact c) h
theorem Drawn.push {c:Nat}{H H1 H2:Hp}{lr t:W9}{row:List Mv}{m:Mv}{ps:U3}(hn:H lr=none)(d:Drawn c H H1 lr row)(hl:H1 lr=some (.lst (ps.map V.ref)))(s:Same H1 H2)(e:H2 t=some (mT (mm m)))(o:VOk c m)(b:Br m):Drawn c H (upd H2 lr (.lst (ps.map V.ref++[V.ref t]))) lr (row++[m]):=by
 obtain⟨S,⟨qs,hq,hr⟩,ok,br⟩:=d
 have:qs.map V.ref=ps.map V.ref:=by rw[hl] at hq;exact(HO.lst.inj (Option.some.inj hq)).symm
 have qp:qs=ps:=by
  have inj:∀ {a b:U3},a.map V.ref=b.map V.ref->a=b:=λ{a b} h=>by
   have:=congrArg (List.map λv=>match v with | V.ref p=>p | _=>0) h
   simpa [Function.comp_def] using this
  exact inj this
 subst qp
 have hl2:=s _ _ hl
 refine⟨Z0v (S.trans s) hn,⟨qs++[t],by rw[Z0d,q0b];rfl,?_⟩,λx hx=>?_,λx hx=>?_⟩
 ·rw[q0b]
  exact Z3r (Z8n (RowsM.same hr s) hl2) (by rw[Z1d (Z7b e hl2 (by intro z;cases z))];exact e)
 ·rcases q0v.mp hx with hx | hx
  ·exact ok x hx
  ·rw[q0n.mp hx]
   exact o
 ·rcases q0v.mp hx with hx | hx
  ·exact br x hx
  ·rw[q0n.mp hx]
   exact b
section
variable {P:U8}{w:W1}{K:U0}{mg:U4}{base:Heap}{k:Nat}{h:Heap}
theorem sc_rowby:FnScope ["_law_script","_law_at","_law_cells","_law_most","_law_cell","_law_row","_law_many","_law_k","_law_digit"] ["_law_script","_law_at","_law_cells","_law_most"] (Z0h (top 86)):=fS
theorem X0q (F:FunAt K "_law_row_by" (top 86) .none)(X:K.In h)(G:Ng h mg)(B:Bs mg)(c9:Cal P w K mg base k "_law_cell_at" ["_law_script","_law_k"] (spCell K))(cH:Cal P w K mg base k "_law_number" ["_law_script","_law_k"] (Z4v K))(cM:Cal P w K mg base k "_law_move_of" ["_law_number_here","_law_cells"] Z8k) :
  Cal P w K mg base (k+1) "_law_row_by" ["_law_script","_law_at","_law_cells","_law_most"] (Y5v K):=by
 have nd:=sc_rowby.nd
 refine F.cal X G sc_rowby (bnd4 λ_ _ _ _ _ _ _ _ _ _=>rfl) (λvs H Q E h=>?_) (λf cdv A outer s H vs Q E hr h=>?_)
 ·obtain⟨a,ns,mo,i,c,rfl,_⟩:=h;rfl
 obtain⟨a,ns,mo,i,c,rfl,i0,i6,hS,lt,c1,c6,hm,kq⟩:=h
 have mp:(0:Int)<mo+1:=by omega
 refine⟨_,(@Z0g _ _ _ _ _ (@Z0o _ _ 4 _ _ _ _ nd rfl (Or.inl rfl) (Z0k c9 hr rfl (Z0a (pv 0) (Z0a (pv 1) Z0e))) rfl (.inl rfl))
  (@Z0g _ _ _ _ _ (@Z0o _ _ 5 _ _ _ _ nd rfl (Or.inl rfl) (@Z1s _ _ _ _ Z0e) rfl (.inl rfl))
  (@Z0g _ _ _ _ _ (@Z0o _ _ 6 _ _ _ _ nd rfl (Or.inl rfl) (Z0i Z0z (pv 4) (Z0i Z1b (pv 3) Z0b)) rfl (.inl rfl))
  (@Z0g _ _ _ _ _ (@Z0o _ _ 4 _ _ _ _ nd rfl (Or.inl rfl) (Z0i Y3h (pv 4) (Z0i Z1b (pv 3) Z0b)) rfl (.inl rfl))
  (@Z0g _ _ _ _ _ (Z2r PassesOwn.never rfl (Z1k rfl B.range (Z0a (pv 6) Z0e)) (Z0w (i:=7) nd rfl (Or.inl rfl))
   (@Z0g _ _ _ _ _ (@Z0o _ _ 8 _ _ _ _ nd rfl (Or.inl rfl) (Z0i Z0z (pv 4) Z0b) rfl (.inl rfl))
   (@Z0r _ _ _ _ _ (Z0y (Z0n Z1o (pv 4) Z0b (nomark _))
    (@Z0f _ _ _ (@Z0o _ _ 8 _ _ _ _ nd rfl (Or.inl rfl) (Z0i Z0z (Z0k cH hr rfl (Z0a (pv 0) (Z0a (Z0i Z1b (Z0i Z1b Z0b (Z0i Z2d Z0b (pv 1))) (pv 7)) Z0e))) Z0b) rfl (.inl rfl)))
    Z0p)
   (@Z0g _ _ _ _ _ (Z2i (Z6a q1k q2c q2b Z2j (pv 5) (Z0a (Z0k cM hr rfl (Z0a (pv 8) (Z0a (pv 2) Z0e))) Z0e)))
   (@Z0f _ _ _ (@Z0o _ _ 4 _ _ _ _ nd rfl (Or.inl rfl) (Z0i Z1w (pv 4) Z0b) rfl (.inl rfl)))))))
  (@Z0f _ _ _ (Z0j (pv 5)))))))),?_⟩
 try dsimp only[cxK]
 refine⟨_,Z,_,Z,a,ns,i,Z,hS,i0,?_⟩
 refine⟨q1e _,λlr hlr=>?_⟩
 have s0:=Z0c hlr (.lst [])
 refine⟨_,Z,_,Z,_,_,Z,Z,_,_,Z,Z,mp,?_⟩
 refine⟨_,Z,_,Z,_,_,Z,Z,_,_,Z,Z,(by rcases hm with rfl | rfl | rfl<;>exact⟨by decide,by decide +kernel⟩),?_⟩
 have q0:0<=cell ns i%(mo+1):=q1i _ (by omega)
 have q1:cell ns i%(mo+1)<mo+1:=q1f _ mp
 refine⟨_,Z,_,Z,by omega,by omega,?_⟩
 refine Z1y (n:=(cell ns i%(mo+1)).toNat) (λj σ H'=>∃ (row:List Mv) (cc:Int) (v7 v8:Option V),Drawn c H H' lr row/\row.length<=j/\σ=[some (.ref a),some (.int i),some (.int c),some (.int mo),some (.int cc),some (.ref lr),some (.int (cell ns i%(mo+1))),v7,v8])
  ⟨[],_,_,_,⟨s0,⟨[],Z0d,.nil⟩,(λ_ z=>by cases z),λ_ z=>by cases z⟩,q1e _,Z⟩ ?_ ?_
 ·rintro j σ H1 hj ⟨row,cc,v7,v8,D1,l2,rfl⟩
  have j60:j<41:=by omega
  refine⟨_,Z,_,_,Z,Z,(by show (0:Int)<_;decide),?_⟩
  refine⟨λσ' H'=>H1=H'/\∃ d:Int,0<=d/\σ'=[some (.ref a),some (.int i),some (.int c),some (.int mo),some (.int cc),some (.ref lr),some (.int (cell ns i%(mo+1))),some (.int (0+(j:Int))),some (.int d)],?_,?_⟩
  ·refine⟨_,Z,Z,_,Z,eqI (λ_=>?_) (λ_=>⟨Z,_,q1i _ (by decide),Z⟩)⟩
   exact⟨_,Z,_,Z,_,_,Z,Z,.inl ⟨by decide,by decide⟩,_,_,Z,Z,_,Z,_,_,Z,Z,a,ns,300+80*i+(0+(j:Int)),Z,D1.1.seq hS,lt,by omega,by omega,λn n0 n1=>⟨_,_,Z,Z,(by show (0:Int)<_;decide),Z,_,q1i _ (by decide),Z⟩⟩
  rintro σ' _ ⟨rfl,d,d0,rfl⟩
  obtain⟨S1,⟨ps,hps,hrow⟩,okr⟩:=id D1
  have pl:ps.length=row.length:=by have:=Z1c hrow;rw[q0a] at this;exact this
  have big:(1000:Nat)<sizeLine:=by decide
  refine⟨_,Z,.inl ⟨Z,_,SqL.of hps⟩,_,Z,_,Z,d,c,Z,d0,c1,c6,λt H2 mv S2 ht om bm=>⟨lr,_,_,Z,Z,S2 _ _ hps,(by rw[q0a];omega),?_⟩⟩
  exact⟨_,Z,_,_,Z,Z,⟨by decide,by decide⟩,row++[mv],_,_,_,D1.push hlr hps S2 ht om bm,by simp;omega,Z⟩
 ·rintro σ H1 ⟨row,cc,v7,v8,D1,l2,rfl⟩
  exact⟨_,Z,kq lr H1 row D1.1 hlr D1.2.1 (by omega) D1.2.2.1 D1.2.2.2⟩
end
end K55S
set_option maxHeartbeats 1000000
namespace M84
open M71 Mv M72 M75 M77 Pc
noncomputable def mul (x y:V4):V4:=(x.1*y.1-x.2.1*y.2.2.2-x.2.2.1*y.2.2.1-x.2.2.2*y.2.1,x.1*y.2.1+x.2.1*y.1-x.2.2.1*y.2.2.2-x.2.2.2*y.2.2.1,
 x.1*y.2.2.1+x.2.1*y.2.1+x.2.2.1*y.1-x.2.2.2*y.2.2.2,x.1*y.2.2.2+x.2.1*y.2.2.1+x.2.2.1*y.2.1+x.2.2.2*y.1)
noncomputable def z0:V4:=(0,0,0,0)
noncomputable def one:V4:=(1,0,0,0)
theorem mul_add (v x y:V4):mul v (add x y)=add (mul v x) (mul v y):=by apply ext<;>simp only[mul,add]<;>grind
theorem Y3o (n:Int)(v x:V4):mul v (sm n x)=sm n (mul v x):=by apply ext<;>simp only[mul,sm]<;>grind
theorem Y6d (n:Int)(v x:V4):mul (sm n v) x=sm n (mul v x):=by apply ext<;>simp only[mul,sm]<;>grind
theorem W1q (v x:V4):mul v (E x)=E (mul v x):=by apply ext<;>simp only[mul,E]<;>grind
theorem W2s (v x:V4):mul (E v) x=E (mul v x):=by apply ext<;>simp only[mul,E]<;>grind
theorem X1i (v x:V4):mul v (root x)=root (mul v x):=by apply ext<;>simp only[mul,root]<;>grind
theorem Y3p (v x:V4):∀ n,mul v (En n x)=En n (mul v x)
 | 0=>rfl
 | n+1=>by show mul v (E (En n x))=E (En n (mul v x));rw[W1q,Y3p v x n]
theorem Y4h (v x:V4):∀ n,mul (En n v) x=En n (mul v x)
 | 0=>rfl
 | n+1=>by show mul (E (En n v)) x=E (En n (mul v x));rw[W2s,Y4h v x n]
theorem one_mul (x:V4):mul one x=x:=by apply ext<;>simp only[mul,one]<;>omega
theorem Y4i (x:V4):mul z0 x=z0:=by apply ext<;>simp only[mul,z0]<;>omega
theorem X2d (x:V4):add x z0=x:=by apply ext<;>simp only[add,z0]<;>omega
theorem Y9o (x:V4):add z0 x=x:=by apply ext<;>simp only[add,z0]<;>omega
theorem Z1b (x:Mv)(G G':Bv)(w:Nat):op x (λw=>add (G w) (G' w)) w=add (op x G w) (op x G' w):=by
 by_cases h:isMix x=true
 ·cases x with
  | mix a =>
   show root (add (sm _ (add _ _)) (add _ _))=add (root (add _ _)) (root (add _ _))
   rw[<-Z6h]
   congr 1
   apply ext<;>simp only[add,sm]<;>grind
  | _=>cases h
 ·have h:isMix x=false:=by simpa using h
  rw[Z1m h,Z1m h,Z1m h,Y9n,Y6e]
theorem Z2d (x:Mv)(v:V4)(G:Bv)(w:Nat):op x (λw=>mul v (G w)) w=mul v (op x G w):=by
 by_cases h:isMix x=true
 ·cases x with
  | mix a =>
   show root (add (sm _ (mul v _)) (mul v _))=mul v (root (add _ _))
   rw[X1i,mul_add,Y3o]
  | _=>cases h
 ·have h:isMix x=false:=by simpa using h
  rw[Z1m h,Z1m h,Y3o,Y3p]
theorem op_z (x:Mv)(w:Nat):op x (λ_=>z0) w=z0:=by
 have:=Z2d x z0 (λ_=>z0) w
 rw[Y4i] at this
 rw[this,Y4i]
end M84
namespace M85
open M71 Mv M72 M75 M77 M79 Pc
open M84 (mul one z0 Z1b Z2d op_z Y3p Y4h one_mul Y4i X2d Y9o Y3o Y6d)
theorem mul_comm (x y:V4):mul x y=mul y x:=by apply ext<;>simp only[mul]<;>grind
noncomputable def wt (v:V4):Int:=v.1*v.1+v.2.1*v.2.1+v.2.2.1*v.2.2.1+v.2.2.2*v.2.2.2
noncomputable def wr (v:V4):Int:=v.1*v.2.1+v.2.1*v.2.2.1+v.2.2.1*v.2.2.2-v.2.2.2*v.1
theorem sq1 {a:Int}(h:a*a<=1):a=-1∨a=0∨a=1:=by
 have e:(a.natAbs*a.natAbs:Nat)<=1:=by
  have:((a.natAbs*a.natAbs:Nat):Int)=a*a:=Int.natAbs_mul_self
  omega
 have:a.natAbs<2:=q3y λq=>by
  have:=q4o q q
  omega
 omega
theorem sq0 (a:Int):0<=a*a:=by
 have:((a.natAbs*a.natAbs:Nat):Int)=a*a:=Int.natAbs_mul_self
 omega
theorem sq8 {a:Int}(h:a%2=1):a*a%8=1:=by
 have:a%8=1∨a%8=3∨a%8=5∨a%8=7:=by omega
 rw[Int.mul_emod]
 rcases this with e | e | e | e<;>rw[e]<;>rfl
theorem sq4 {a:Int}(h:a%2=0):a*a%4=0:=by
 have:a%4=0∨a%4=2:=by omega
 rw[Int.mul_emod]
 rcases this with e | e<;>rw[e]<;>rfl
theorem one8 {a b c d:Int}(h:a*a+b*b+c*c+d*d=1):∃ k,k<8/\(a,b,c,d)=En k one:=by
 have pa:=sq0 a
 have pb:=sq0 b
 have pc:=sq0 c
 have pd:=sq0 d
 have ha:=sq1 (a:=a) (by omega)
 have hb:=sq1 (a:=b) (by omega)
 have hc:=sq1 (a:=c) (by omega)
 have hd:=sq1 (a:=d) (by omega)
 clear pa pb pc pd
 rcases ha with rfl | rfl | rfl<;>rcases hb with rfl | rfl | rfl<;>rcases hc with rfl | rfl | rfl<;>rcases hd with rfl | rfl | rfl <;>
  first | exact absurd h (by decide) | exact⟨0,by decide,Z⟩ | exact⟨1,by decide,Z⟩ | exact⟨2,by decide,Z⟩ | exact⟨3,by decide,Z⟩ | exact⟨4,by decide,Z⟩ | exact⟨5,by decide,Z⟩ | exact⟨6,by decide,Z⟩ | exact⟨7,by decide,Z⟩
theorem root8:∀ (h:Nat) (v:V4),wt v=4^h->wr v=0->∃ k,k<8/\v=sm (2^h) (En k one)
 | 0,(a,b,c,d),e,_=>by
  obtain⟨k,hk,q⟩:=one8 (a:=a) (b:=b) (c:=c) (d:=d) (by have:wt (a,b,c,d)=4^0:=e;simpa [wt] using this)
  exact⟨k,hk,by rw[q];exact(Z4m _).symm⟩
 | h+1,(a,b,c,d),e,r=>by
  have e:a*a+b*b+c*c+d*d=4^(h+1):=e
  have r:a*b+b*c+c*d-d*a=0:=r
  have p4:((4:Int)^(h+1))=4*4^h:=by rw[q3i,q2k]
  by_cases ev:a%2=0/\b%2=0/\c%2=0/\d%2=0
  ·obtain⟨x,rfl⟩:∃ x,a=2*x:=⟨a / 2,by omega⟩
   obtain⟨y,rfl⟩:∃ y,b=2*y:=⟨b / 2,by omega⟩
   obtain⟨z,rfl⟩:∃ z,c=2*z:=⟨c / 2,by omega⟩
   obtain⟨u,rfl⟩:∃ u,d=2*u:=⟨d / 2,by omega⟩
   obtain⟨k,hk,q⟩:=root8 h (x,y,z,u) (by show x*x+y*y+z*z+u*u=4^h;grind) (by show x*y+y*z+z*u-u*x=0;grind)
   refine⟨k,hk,?_⟩
   have:((2:Int)^(h+1))=2*2^h:=by rw[q3i,q2k]
   rw[this,<-Z2o,<-q]
   rfl
  ·exfalso
   have od:a%2=1/\b%2=1/\c%2=1/\d%2=1:=by
    have m:∀ t:Int,(t%2=0/\t*t%4=0)∨(t%2=1/\t*t%4=1):=λt=>by
     by_cases q:t%2=0
     ·exact .inl ⟨q,sq4 q⟩
     ·have q1:t%2=1:=by omega
      have:=sq8 q1
      exact .inr ⟨q1,by omega⟩
    have ma:=m a
    have mb:=m b
    have mc:=m c
    have md:=m d
    omega
   obtain⟨oa,ob,oc,od⟩:=od
   have sa:=sq8 oa
   have sb:=sq8 ob
   have sc:=sq8 oc
   have sd:=sq8 od
   have pa:=sq0 a
   have pb:=sq0 b
   have pc:=sq0 c
   have pd:=sq0 d
   cases h with
   | zero =>
    have e:a*a+b*b+c*c+d*d=4:=e
    have ha:=sq1 (a:=a) (by omega)
    have hb:=sq1 (a:=b) (by omega)
    have hc:=sq1 (a:=c) (by omega)
    have hd:=sq1 (a:=d) (by omega)
    clear sa sb sc sd pa pb pc pd p4 ev
    rcases ha with rfl | rfl | rfl<;>rcases hb with rfl | rfl | rfl<;>rcases hc with rfl | rfl | rfl<;>rcases hd with rfl | rfl | rfl<;>first | exact absurd r (by decide) | exact absurd e (by decide)
   | succ h =>
    have p8:((4:Int)^(h+1))=4*4^h:=by rw[q3i,q2k]
    omega
theorem wt_E (v:V4):wt (E v)=wt v:=by simp only[wt,E];grind
theorem wr_E (v:V4):wr (E v)=wr v:=by simp only[wr,E];grind
theorem X3o (v:V4):∀ n,wt (En n v)=wt v
 | 0=>rfl
 | n+1=>by show wt (E (En n v))=_;rw[wt_E,X3o v n]
theorem X7n (v:V4):∀ n,wr (En n v)=wr v
 | 0=>rfl
 | n+1=>by show wr (E (En n v))=_;rw[wr_E,X7n v n]
theorem W1d (n:Int)(v:V4):wt (sm n v)=n*n*wt v:=by simp only[wt,sm];grind
theorem W1e (n:Int)(v:V4):wr (sm n v)=n*n*wr v:=by simp only[wr,sm];grind
theorem X7l {s:Int}(h:s*s=1)(x y:V4):wt (root (add (sm s x) y))+wt (root (add (sm (-s) y) x))=4*(wt x+wt y):=by simp only[wt,root,add,sm];grind
theorem X7m {s:Int}(h:s*s=1)(x y:V4):wr (root (add (sm s x) y))+wr (root (add (sm (-s) y) x))=4*(wr x+wr y):=by simp only[wr,root,add,sm];grind
noncomputable def S (n:Nat)(g:Nat->Int):Int:=((List.range n).map g).sum
theorem Y2e {n:Nat}{g h:Nat->Int}(e:∀ i,i<n->g i=h i):S n g=S n h:=by
 unfold S
 rw[q4v λi hi=>e i (q0s.mp hi)]
theorem Z8c (n:Nat)(g:Nat->Int):S (n+1) g=S n g+g n:=by
 unfold S
 rw[q2o,q0b,List.sum_append]
 simp
theorem W0y (n:Nat)(g h:Nat->Int):S n (λi=>g i+h i)=S n g+S n h:=by
 induction n with
 | zero=>rfl
 | succ n ih=>rw[Z8c,Z8c,Z8c,ih];omega
theorem X6y (n:Nat)(k:Int)(g:Nat->Int):S n (λi=>k*g i)=k*S n g:=by
 induction n with
 | zero=>show (0:Int)=k*0;omega
 | succ n ih=>rw[Z8c,Z8c,ih,Int.mul_add]
theorem X0b {l l':U6}(p:l.Perm l'):l.sum=l'.sum:=by
 induction p with
 | nil=>rfl
 | cons x _ ih=>rw[q8j,q8j,ih]
 | swap x y l=>simp only[q8j];omega
 | trans _ _ h1 h2=>rw[h1,h2]
theorem Y0g {t:Nat->Nat}:∀ {l:W3},(∀ x∈l,∀ y∈l,t x=t y->x=y)->l.Nodup->(l.map t).Nodup
 | [],_,_=>List.nodup_nil
 | a::l,h,d=>by
  obtain⟨d1,d2⟩:=q3e.mp d
  rw[q1s,q3e]
  refine⟨λm=>?_,Y0g (λx hx y hy=>h x (.tail _ hx) y (.tail _ hy)) d2⟩
  obtain⟨b,hb,e⟩:=q2e.mp m
  rw[h b (.tail _ hb) a (.head _) e] at hb
  exact d1 hb
theorem X2e {n:Nat}{t:Nat->Nat}(h1:∀ i,i<n->t i<n)(h2:∀ i,i<n->t (t i)=i)(g:Nat->Int):S n (λi=>g (t i))=S n g:=by
 have p:((List.range n).map t).Perm (List.range n):=by
  rw[List.perm_iff_count]
  intro a
  have d:(List.range n).Nodup:=List.nodup_range
  have d2:((List.range n).map t).Nodup:=Y0g (λx hx y hy e=>by
   have q:=h2 x (q0s.mp hx)
   rw[e,h2 y (q0s.mp hy)] at q
   exact q.symm) d
  rw[d.count,d2.count]
  have:a∈(List.range n).map t ↔ a∈List.range n:=by
   rw[q2e,q0s]
   constructor
   ·rintro ⟨b,hb,rfl⟩
    exact h1 b (q0s.mp hb)
   ·intro ha
    exact⟨t a,q0s.mpr (h1 a ha),h2 a ha⟩
  simp only[this]
 unfold S
 rw[show (List.range n).map (λi=>g (t i))=((List.range n).map t).map g by rw[q3v];rfl]
 exact X0b (p.map g)
theorem Z7v {c w v:Nat}(hw:w<2^c)(h:∀ j,c<=j->v.testBit j=w.testBit j):v<2^c:=by
 apply q3y
 intro q
 obtain⟨j,hj,b⟩:=q2w q
 rw[h j hj,q3g (q0l hw (q1z (by decide) hj))] at b
 cases b
theorem Y0d {c:Nat}{x:Mv}(o:VOk c x){j:Nat}(hj:c<=j):j ∉ cl x:=λm=>by
 obtain⟨a,ha,rfl⟩:=q2e.mp m
 have:=o.2 a ha
 have:=o.1.nn a ha
 omega
theorem to_lt {c:Nat}{x:Mv}(o:VOk c x){w:Nat}(hw:w<2^c):to x w<2^c:=Z7v hw λj hj=>Z4u o.1 (Y0d o hj)
theorem W1f {c:Nat}{x:Mv}(o:VOk c x){w:Nat}(hw:2^c<=w):2^c<=to x w:=q5v λq=>by
 have:=Z7v q λj hj=>(Z4u o.1 (Y0d o hj):(to x w).testBit j=w.testBit j).symm
 omega
theorem Z5c {c a w:Nat}(ha:a<c)(hw:w<2^c):fl w a<2^c:=q6s hw (q3m (by decide) ha)
theorem W2j {c a w:Nat}(ha:a<c)(hw:2^c<=w):2^c<=fl w a:=q5v λq=>by
 have:=Z5c ha q
 rw[Z3j] at this
 omega
theorem Y1b {x:Mv}(o:Ok x)(b:Br x)(nm:isMix x=false)(w:Nat):to x (to x w)=w:=by
 cases x with
 | flip a=>exact Z3j w _
 | mix a=>cases nm
 | turn a j=>rfl
 | iff a b' =>
  obtain⟨a0,b0,n⟩:0<=a/\0<=b'/\a≠b':=o
  have n':a.toNat≠b'.toNat:=by omega
  have e:∀ w,to (iff a b') w=if w.testBit a.toNat then fl w b'.toNat else w:=λ_=>rfl
  by_cases c:w.testBit a.toNat=true
  ·rw[e w,if_pos c,e,if_pos (by rw[Z1i n'];exact c),Z3j]
  ·rw[e w,if_neg c,e,if_neg c]
 | pair a b'=>rfl
 | swap a b' =>
  obtain⟨a0,b0,n⟩:0<=a/\0<=b'/\a≠b':=o
  exact X0a (by omega)
 | cross a b' d=>exact b.elim
def Out (c:Nat)(F:Bv):Prop:=∀ w,2^c<=w->F w=z0
theorem En_z:∀ n,En n z0=z0
 | 0=>rfl
 | n+1=>by show E (En n z0)=z0;rw[En_z n];rfl
theorem X8e {c:Nat}{x:Mv}{F:Bv}(o:VOk c x)(h:Out c F):Out c (op x F):=λw hw=>by
 by_cases nm:isMix x=true
 ·cases x with
  | mix a =>
   have ha:a.toNat<c:=by have:=o.2 a (by simp[cells]);have:0<=a:=o.1;omega
   show root (add (sm _ (F w)) (F (fl w a.toNat)))=z0
   rw[h w hw,h _ (W2j ha hw)]
   simp[root,add,sm,z0]
  | _=>cases nm
 ·have nm:isMix x=false:=by simpa using nm
  rw[Z1m nm,h _ (W1f o hw),En_z]
  rfl
theorem Z9w {c:Nat}:∀ {r:List Mv}{F:Bv},(∀ x∈r,VOk c x)->Out c F->Out c (rowop r F)
 | [],_,_,h=>h
 | x::r,F,o,h=>Z9w (r:=r) (λy hy=>o y (.tail _ hy)) (X8e (o x (.head _)) h)
theorem W1k {c:Nat}{x:Mv}(o:VOk c x)(b:Br x)(F:Bv):S (2^c) (λw=>wt (op x F w))=4*S (2^c) (λw=>wt (F w))/\S (2^c) (λw=>wr (op x F w))=4*S (2^c) (λw=>wr (F w)):=by
 by_cases nm:isMix x=true
 ·cases x with
  | mix a =>
   have ha:a.toNat<c:=by have:=o.2 a (by simp[cells]);have:0<=a:=o.1;omega
   have sqs:∀ w,sg w a.toNat*sg w a.toNat=1:=λw=>X0d w _
   have key:∀ g:V4->Int,(∀ {s:Int},s*s=1->∀ x y:V4,g (root (add (sm s x) y))+g (root (add (sm (-s) y) x))=4*(g x+g y))->S (2^c) (λw=>g (op (mix a) F w))=4*S (2^c) (λw=>g (F w)):=λg hg=>by
    have e1:S (2^c) (λw=>g (op (mix a) F w)+g (op (mix a) F (fl w a.toNat)))=S (2^c) (λw=>4*(g (F w)+g (F (fl w a.toNat)))):=Y2e λw _=>by
     have:op (mix a) F (fl w a.toNat)=root (add (sm (-sg w a.toNat) (F (fl w a.toNat))) (F w)):=by
      show root (add (sm (sg (fl w a.toNat) a.toNat) (F (fl w a.toNat))) (F (fl (fl w a.toNat) a.toNat)))=_
      rw[X0e,Z3j]
     rw[this]
     exact hg (sqs w) (F w) (F (fl w a.toNat))
    have f1:=X2e (n:=2^c) (t:=λw=>fl w a.toNat) (λi hi=>Z5c ha hi) (λi _=>Z3j i _) (λw=>g (op (mix a) F w))
    have f2:=X2e (n:=2^c) (t:=λw=>fl w a.toNat) (λi hi=>Z5c ha hi) (λi _=>Z3j i _) (λw=>g (F w))
    rw[W0y,X6y,W0y] at e1
    have f1:S (2^c) (λi=>g (op (mix a) F (fl i a.toNat)))=S (2^c) (λw=>g (op (mix a) F w)):=f1
    have f2:S (2^c) (λi=>g (F (fl i a.toNat)))=S (2^c) (λw=>g (F w)):=f2
    rw[f1,f2] at e1
    omega
   exact⟨key wt X7l,key wr X7m⟩
  | _=>cases nm
 ·have nm:isMix x=false:=by simpa using nm
  have f1:=X2e (n:=2^c) (t:=to x) (λi hi=>to_lt o hi) (λi _=>Y1b o.1 b nm i) (λw=>wt (F w))
  have f2:=X2e (n:=2^c) (t:=to x) (λi hi=>to_lt o hi) (λi _=>Y1b o.1 b nm i) (λw=>wr (F w))
  have g1:S (2^c) (λw=>wt (op x F w))=S (2^c) (λw=>4*wt (F (to x w))):=Y2e λw _=>by rw[Z1m nm,W1d,X3o];rfl
  have g2:S (2^c) (λw=>wr (op x F w))=S (2^c) (λw=>4*wr (F (to x w))):=Y2e λw _=>by rw[Z1m nm,W1e,X7n];rfl
  rw[g1,g2,X6y,X6y]
  exact⟨by rw[f1],by rw[f2]⟩
theorem Y2z {c:Nat}:∀ {r:List Mv} (F:Bv),(∀ x∈r,VOk c x)->(∀ x∈r,Br x)->S (2^c) (λw=>wt (rowop r F w))=4^r.length*S (2^c) (λw=>wt (F w))/\S (2^c) (λw=>wr (rowop r F w))=4^r.length*S (2^c) (λw=>wr (F w))
 | [],F,_,_=>by simp[rowop]
 | x::r,F,o,b=>by
  obtain⟨h1,h2⟩:=Y2z (r:=r) (op x F) (λy hy=>o y (.tail _ hy)) (λy hy=>b y (.tail _ hy))
  obtain⟨g1,g2⟩:=W1k (o x (.head _)) (b x (.head _)) F
  have p:((4:Int)^(r.length+1))=4^r.length*4:=q3i _ _
  rw[g1] at h1
  rw[g2] at h2
  rw[q1r,p]
  exact⟨h1.trans (q5f _ _ _).symm,h2.trans (q5f _ _ _).symm⟩
end M85
namespace M86
open M71 Mv M72 M75 M77 M79 M85 Pc
open M84 (mul one z0 Z1b Z2d op_z Y3p Y4h one_mul Y4i X2d Y9o Y3o Y6d)
theorem Z7d {c:Nat}:∀ {row:List Mv} (F:Bv) (m:Mk),(∀ x∈row,VOk c x)->(∀ x∈row,Br x)->rowop row (lay m F)=lay (mvds row m) (rowop row F)
 | [],_,_,_,_=>rfl
 | x::r,F,m,o,b=>by
  show rowop r (op x (lay m F))=lay (mvds r (mvd x m)) (rowop r (op x F))
  rw[X3s (o x (.head _)).1 (b x (.head _))]
  exact Z7d (row:=r) _ _ (λy hy=>o y (.tail _ hy)) (λy hy=>b y (.tail _ hy))
theorem Z9x:∀ (r:List Mv) (F G:Bv),rowop r (λw=>add (F w) (G w))=λw=>add (rowop r F w) (rowop r G w)
 | [],_,_=>rfl
 | x::r,F,G=>by
  show rowop r (op x _)=λw=>add (rowop r (op x F) w) (rowop r (op x G) w)
  rw[show op x (λw=>add (F w) (G w))=λw=>add (op x F w) (op x G w) from funext λw=>Z1b x F G w]
  exact Z9x r _ _
theorem Z6r:∀ (r:List Mv) (v:V4) (F:Bv),rowop r (λw=>mul v (F w))=λw=>mul v (rowop r F w)
 | [],_,_=>rfl
 | x::r,v,F=>by
  show rowop r (op x _)=λw=>mul v (rowop r (op x F) w)
  rw[show op x (λw=>mul v (F w))=λw=>mul v (op x F w) from funext λw=>Z2d x v F w]
  exact Z6r r _ _
theorem Z7p:∀ r:List Mv,rowop r (λ_=>z0)=λ_=>z0
 | []=>rfl
 | x::r=>by
  show rowop r (op x (λ_=>z0))=_
  rw[show op x (λ_=>z0)=λ_=>z0 from funext λw=>op_z x w]
  exact Z7p r
theorem Z1h:∀ (r t:List Mv) (m:Mk),mvds (r++t) m=mvds t (mvds r m)
 | [],_,_=>rfl
 | x::r,t,m=>Z1h r t (mvd x m)
noncomputable def dl (v:Nat):Bv:=λw=>if w=v then one else z0
theorem X9i (i:Nat)(F:Bv):lay (0,2^i,0) F=λw=>F (w^^^2^i):=funext λw=>by
 show En (2*0+4*bn (bp ((w^^^2^i)&&&0))) (F (w^^^2^i))=_
 rw[q6t,Z2q]
 rfl
theorem X9h (i:Nat)(F:Bv)(w:Nat):lay (0,0,2^i) F w=sm (sgB (w.testBit i)) (F w):=by
 show En (2*0+4*bn (bp ((w^^^0)&&&2^i))) (F (w^^^0))=_
 rw[q5n,q6u,Z8b,Y5i]
 rfl
theorem W1o {v:V4}(h:v=sm (-1) v):v=z0:=by
 obtain⟨a,b,c,d⟩:=v
 have e1:a=-1*a:=congrArg (λx:V4=>x.1) h
 have e2:b=-1*b:=congrArg (λx:V4=>x.2.1) h
 have e3:c=-1*c:=congrArg (λx:V4=>x.2.2.1) h
 have e4:d=-1*d:=congrArg (λx:V4=>x.2.2.2) h
 have f1:a=0:=by omega
 have f2:b=0:=by omega
 have f3:c=0:=by omega
 have f4:d=0:=by omega
 rw[f1,f2,f3,f4]
 rfl
structure Sca (c:Nat) (R:List Mv):Prop where
 ok:∀ x∈R,VOk c x
 br:∀ x∈R,Br x
 im:∀ k,k<2*c->mvds R (pl k)=pl k
theorem Sca.s {c:Nat}{R:List Mv}(h:Sca c R){i:Nat}(hi:i<c)(F:Bv):rowop R (lay (0,0,2^i) F)=lay (0,0,2^i) (rowop R F):=by
 have e:=h.im (2*i+1) (by omega)
 have p:pl (2*i+1)=(0,0,2^i):=by
  unfold pl
  rw[if_pos (by omega),show (2*i+1) / 2=i by omega]
 rw[p] at e
 rw[Z7d F _ h.ok h.br,e]
theorem Sca.f {c:Nat}{R:List Mv}(h:Sca c R){i:Nat}(hi:i<c)(F:Bv):rowop R (lay (0,2^i,0) F)=lay (0,2^i,0) (rowop R F):=by
 have e:=h.im (2*i) (by omega)
 have p:pl (2*i)=(0,2^i,0):=by
  unfold pl
  rw[if_neg (by omega),show (2*i) / 2=i by omega]
 rw[p] at e
 rw[Z7d F _ h.ok h.br,e]
theorem Sca.zero {c:Nat}{R:List Mv}(h:Sca c R){w:Nat}(hw:w<2^c)(n:w≠0):rowop R (dl 0) w=z0:=by
 obtain⟨i,hi⟩:∃ i,w.testBit i=true:=Nat.exists_testBit_of_ne_zero n
 have ic:i<c:=q3y λq=>by
  rw[q3g (q0l hw (q1z (by decide) q))] at hi
  cases hi
 have e:lay (0,0,2^i) (dl 0)=dl 0:=funext λv=>by
  rw[X9h]
  show sm _ (if v=0 then one else z0)=if v=0 then one else z0
  by_cases q:v=0
  ·rw[if_pos q,q,q1n]
   exact Z4m _
  ·rw[if_neg q]
   simp[sm,z0]
 have g:=h.s ic (dl 0)
 rw[e] at g
 have g:=congrFun g w
 rw[X9h,hi] at g
 exact W1o g
theorem Sca.sh {c:Nat}{R:List Mv}(h:Sca c R)(F:Bv):∀ {n v:Nat},n<=c->v<2^n->rowop R (λw=>F (w^^^v))=λw=>rowop R F (w^^^v)
 | 0,v,_,hv=>by
  have:v=0:=by rw[Nat.pow_zero] at hv;omega
  subst this
  simp only[q5n]
 | n+1,v,hn,hv=>by
  have ih:=λ{u:Nat} (hu:u<2^n)=>Sca.sh h F (n:=n) (v:=u) (by omega) hu
  by_cases b:v.testBit n=true
  ·have lt:v^^^2^n<2^n:=by
    apply q3y
    intro q
    obtain⟨j,hj,bj⟩:=q2w q
    rw[q1o,q1v] at bj
    by_cases e:n=j
    ·subst e;rw[b] at bj;simp at bj
    ·rw[q3g (q0l hv (q1z (by decide) (show n+1<=j by omega)))] at bj
     simp[e] at bj
   have g:=h.f (show n<c by omega) (λw=>F (w^^^(v^^^2^n)))
   rw[X9i,X9i,ih lt] at g
   have x:∀ w,w^^^2^n^^^(v^^^2^n)=w^^^v:=λw=>by rw[q7v v,<-q2n,q2n w,q5o,q5n]
   simp only[x] at g
   exact g
  ·refine ih (q3y λq=>?_)
   obtain⟨j,hj,bj⟩:=q2w q
   by_cases e:n=j
   ·subst e;exact b bj
   ·rw[q3g (q0l hv (q1z (by decide) (show n+1<=j by omega)))] at bj
    cases bj
theorem xor_eq {w v:Nat}:w^^^v=0 ↔ w=v:=⟨λh=>by
 have:=congrArg (·^^^v) h
 simp only[q2n,q5o,q5n,Nat.zero_xor] at this
 exact this,λh=>by rw[h,q5o]⟩
theorem Sca.at {c:Nat}{R:List Mv}(h:Sca c R){w v:Nat}(hw:w<2^c)(hv:v<2^c):rowop R (dl v) w=if w=v then rowop R (dl 0) 0 else z0:=by
 have e:dl v=λw=>dl 0 (w^^^v):=funext λu=>by
  show (if u=v then one else z0)=if u^^^v=0 then one else z0
  by_cases q:u=v
  ·rw[if_pos q,if_pos (xor_eq.mpr q)]
  ·rw[if_neg q,if_neg (λz=>q (xor_eq.mp z))]
 rw[e,h.sh (dl 0) (q0f c) hv]
 show rowop R (dl 0) (w^^^v)=_
 by_cases q:w=v
 ·rw[if_pos q,xor_eq.mpr q]
 ·rw[if_neg q]
  exact h.zero (q6s hw hv) λz=>q (xor_eq.mp z)
noncomputable def ps (F:Bv):Nat->Bv
 | 0=>λ_=>z0
 | n+1=>λw=>add (ps F n w) (mul (F n) (dl n w))
theorem mul_one (v:V4):mul v one=v:=by rw[M85.mul_comm,one_mul]
theorem X8z (v:V4):mul v z0=z0:=by rw[M85.mul_comm,Y4i]
theorem X7z (F:Bv):∀ n w,ps F n w=if w<n then F w else z0
 | 0,w=>by rw[if_neg (q4f _)];rfl
 | n+1,w=>by
  show add (ps F n w) (mul (F n) (if w=n then one else z0))=_
  rw[X7z F n w]
  by_cases e:w=n
  ·rw[if_neg (by omega),if_pos e,if_pos (by omega),Y9o,mul_one,e]
  ·rw[if_neg e,X8z,X2d]
   by_cases l:w<n
   ·rw[if_pos l,if_pos (by omega)]
   ·rw[if_neg l,if_neg (by omega)]
theorem Sca.ps {c:Nat}{R:List Mv}(h:Sca c R)(F:Bv){w:Nat}(hw:w<2^c):∀ n,n<=2^c->rowop R (ps F n) w=if w<n then mul (F w) (rowop R (dl 0) 0) else z0
 | 0,_=>by
  rw[if_neg (q4f _)]
  show rowop R (λ_=>z0) w=z0
  rw[Z7p]
 | n+1,hn=>by
  show rowop R (λw=>add (M86.ps F n w) ((λw=>mul (F n) (dl n w)) w)) w=_
  rw[Z9x,Z6r]
  show add (rowop R (M86.ps F n) w) (mul (F n) (rowop R (dl n) w))=_
  rw[Sca.ps h F hw n (by omega),h.at hw (show n<2^c by omega)]
  by_cases e:w=n
  ·rw[if_neg (by omega),if_pos e,if_pos (by omega),Y9o,e]
  ·rw[if_neg e,X8z,X2d]
   by_cases l:w<n
   ·rw[if_pos l,if_pos (by omega)]
   ·rw[if_neg l,if_neg (by omega)]
theorem Sca.all {c:Nat}{R:List Mv}(h:Sca c R){F:Bv}(o:Out c F):rowop R F=λw=>mul (F w) (rowop R (dl 0) 0):=by
 have e:F=M86.ps F (2^c):=funext λw=>by
  rw[X7z]
  by_cases l:w<2^c
  ·rw[if_pos l]
  ·rw[if_neg l];exact o w (by omega)
 funext w
 by_cases l:w<2^c
 ·have q:=h.ps F l (2^c) (q0f _)
  rw[<-e,if_pos l] at q
  exact q
 ·rw[Z9w h.ok o w (by omega),o w (by omega),Y4i]
theorem S_dl {n:Nat}(hn:0<n){g:Nat->Int}(h:∀ i,0<i->i<n->g i=0):S n g=g 0:=by
 induction n with
 | zero=>exact absurd hn (q4i _)
 | succ n ih =>
  rw[Z8c]
  by_cases e:n=0
  ·subst e
   show (0:Int)+g 0=g 0
   omega
  ·rw[ih (by omega) (λi a b=>h i a (by omega)),h n (by omega) (by omega)]
   omega
theorem Sca.spin {c:Nat}{R:List Mv}(h:Sca c R):∃ k,k<8/\rowop R (dl 0) 0=sm (2^R.length) (En k one):=by
 have p0:0<2^c:=q2f c
 obtain⟨h1,h2⟩:=Y2z (dl 0) h.ok h.br
 have z1:wt z0=0:=rfl
 have z2:wr z0=0:=rfl
 rw[S_dl p0 (λi a b=>by show wt (rowop R (dl 0) i)=0;rw[h.zero b (by omega),z1]),S_dl p0 (g:=λw=>wt (dl 0 w)) (λi a b=>by show wt (if i=0 then one else z0)=0;rw[if_neg (by omega),z1])] at h1
 rw[S_dl p0 (λi a b=>by show wr (rowop R (dl 0) i)=0;rw[h.zero b (by omega),z2]),S_dl p0 (g:=λw=>wr (dl 0 w)) (λi a b=>by show wr (if i=0 then one else z0)=0;rw[if_neg (by omega),z2])] at h2
 have w1:wt (dl 0 0)=1:=rfl
 have w2:wr (dl 0 0)=0:=rfl
 rw[w1,q6m] at h1
 rw[w2,Int.mul_zero] at h2
 exact root8 R.length _ h1 h2
theorem W1m {x:Mv}(o:Ok x)(F:Bv):op x (op (bk x) F)=λw=>sm 4 (F w):=funext λw=>by
 by_cases t:isTurn x=true
 ·cases x with
  | turn a j =>
   obtain⟨a0,j1,j7⟩:0<=a/\1<=j/\j<=7:=o
   show sm 2 (En (if w.testBit a.toNat then j.toNat else 0) (sm 2 (En (if w.testBit a.toNat then (8-j).toNat else 0) (F w))))=_
   rw[Z4s,Z2o,Z5g]
   by_cases b:w.testBit a.toNat=true
   ·rw[if_pos b,if_pos b,show j.toNat+(8-j).toNat=8 by omega,En8]
    rfl
   ·rw[if_neg b,if_neg b]
    rfl
  | _=>cases t
 ·have t:isTurn x=false:=by simpa using t
  have e:bk x=x:=by cases x<;>first | rfl | cases t
  rw[e]
  exact Y3g o t F w
theorem X1z (x:Mv)(r:List Mv):bwd (x::r)=bwd r++[bk x]:=by
 unfold bwd
 rw[q3s,q0b]
 rfl
theorem Y9f (r:List Mv):(bwd r).length=r.length:=by unfold bwd;simp
theorem Z9h:∀ {r:List Mv} (F:Bv),(∀ x∈r,Ok x)->rowop r (rowop (bwd r) F)=λw=>sm (4^r.length) (F w)
 | [],F,_=>by funext w;exact(Z4m _).symm
 | x::r,F,o=>by
  rw[X1z,Z2u]
  show rowop r (op x (op (bk x) (rowop (bwd r) F)))=_
  rw[W1m (o x (.head _))]
  funext w
  rw[Z6f,Z9h F λy hy=>o y (.tail _ hy),Z2o]
  congr 1
  rw[q1r,q3i,q2k]
theorem X3m {c:Nat}{r:List Mv}(o:∀ x∈r,VOk c x):∀ x∈bwd r,VOk c x:=λx hx=>by
 obtain⟨y,hy,rfl⟩:=q2e.mp hx
 exact W2p (o y (q4s.mp hy))
theorem X3n {r:List Mv}(o:∀ x∈r,Ok x)(b:∀ x∈r,Br x):∀ x∈bwd r,Br x:=λx hx=>by
 obtain⟨y,hy,rfl⟩:=q2e.mp hx
 exact W2q (o y (q4s.mp hy)) (b y (q4s.mp hy))
theorem Y6h {c:Nat}{r t:List Mv}(o1:∀ x∈r,VOk c x)(o2:∀ x∈t,VOk c x)(b1:∀ x∈r,Br x)(b2:∀ x∈t,Br x)(k4:∀ x (n:Mk),n.1<4->(mvd x n).1<4)(im:∀ k,k<2*c->mvds r (pl k)=mvds t (pl k)) :
  ∃ k,k<8/\∀ F,Out c F->∀ w,sm (2^t.length) (rowop r F w)=sm (2^r.length) (En k (rowop t F w)):=by
 have p4:∀ k,(pl k).1<4:=λk=>by unfold pl;split<;>exact(by decide:0<4)
 have sc:Sca c (r++bwd t):=⟨λx hx=>by
  rcases q0v.mp hx with q | q
  ·exact o1 x q
  ·exact X3m o2 x q,λx hx=>by
  rcases q0v.mp hx with q | q
  ·exact b1 x q
  ·exact X3n (λy hy=>(o2 y hy).1) b2 x q,λk hk=>by
  rw[Z1h,im k hk]
  exact Z9i (λx hx=>(o2 x hx).1) b2 (p4 k) λx n _ hn=>k4 x n hn⟩
 obtain⟨k,k8,e⟩:=sc.spin
 refine⟨k,k8,λF o w=>?_⟩
 have g:=sc.all o
 rw[Z2u,e] at g
 have g:=congrArg (λX=>rowop t X w) g
 have g:rowop t (rowop (bwd t) (rowop r F)) w=rowop t (λw=>mul (F w) (sm (2^(r++bwd t).length) (En k one))) w:=g
 rw[Z9h _ λx hx=>(o2 x hx).1,show (λw=>mul (F w) (sm (2^(r++bwd t).length) (En k one)))=λw=>mul (sm (2^(r++bwd t).length) (En k one)) (F w) from funext λw=>M85.mul_comm _ _,Z6r] at g
 have g:sm (4^t.length) (rowop r F w)=mul (sm (2^(r++bwd t).length) (En k one)) (rowop t F w):=g
 rw[Y6d,Y4h,one_mul,q0c,Y9f] at g
 have e4:((4:Int)^t.length)=2^t.length*2^t.length:=by rw[<-Int.mul_pow];rfl
 rw[e4,q7k,<-Z2o,q2k,<-Z2o] at g
 exact Y2x (Y5j _) g
theorem W0z {v:V4}{k:Nat}(k1:1<=k)(k7:k<=7)(h:En k v=v):v=z0:=by
 obtain⟨a,b,c,d⟩:=v
 have q:k=1∨k=2∨k=3∨k=4∨k=5∨k=6∨k=7:=by omega
 have e1:=congrArg (λx:V4=>x.1) h
 have e2:=congrArg (λx:V4=>x.2.1) h
 have e3:=congrArg (λx:V4=>x.2.2.1) h
 have e4:=congrArg (λx:V4=>x.2.2.2) h
 have f:a=0/\b=0/\c=0/\d=0:=by
  rcases q with rfl | rfl | rfl | rfl | rfl | rfl | rfl<;>simp only[En,E] at e1 e2 e3 e4<;>omega
 obtain⟨rfl,rfl,rfl,rfl⟩:=f
 rfl
end M86
namespace M87
open M71 Mv M72 M75 M77 M79 M85 M86 Pc
open M84 (mul one z0)
theorem X4o {x y:Mv}{u:List Mv}(ox:Ok x)(oy:Ok y)(bx:Br x)(hy:Br y)(h:put2 x y=some u):∀ m∈u,Br m:=by
 unfold put2 at h
 split at h
 ·rename_i a k hj
  cases x with
  | turn a1 j =>
   cases y with
   | turn b k1 =>
    simp only[joint] at hj
    split at hj
    ·simp only[Option.some.injEq,Prod.mk.injEq] at hj
     obtain⟨rfl,rfl⟩:=hj
     obtain⟨a0,j1,j7⟩:0<=a1/\1<=j/\j<=7:=ox
     obtain⟨_,k1',k7⟩:0<=b/\1<=k1/\k1<=7:=oy
     have bx:j.toNat%2=0:=bx
     have hy:k1.toNat%2=0:=hy
     cases h
     intro m hm
     split at hm
     ·cases hm
     ·rw[q0n.mp hm]
      show ((j+k1)%8).toNat%2=0
      omega
    ·cases hj
   | _=>simp[joint] at hj
  | _=>simp[joint] at hj
 ·split at h
  ·cases h;intro m hm;cases hm
  ·split at h
   ·cases h
    intro m hm
    rcases q0p.mp hm with rfl | hm
    ·exact hy
    ·rw[q0n.mp hm];exact bx
   ·cases h
theorem X4m {x y z:Mv}{u:List Mv}(h:put3 x y z=some u):∀ m∈u,Br m:=by
 unfold put3 at h
 cases x with
 | mix d =>
  simp only at h
  split at h
  ·split at h
   ·cases h
    intro m hm
    rw[q0n.mp hm]
    exact(rfl:(4:Int).toNat%2=0)
   ·split at h
    ·cases h
     intro m hm
     rw[q0n.mp hm]
     trivial
    ·cases h
  ·cases h
 | _=>simp at h
theorem X3q {c:Nat}{row short:List Mv}{ss:List Stp}(h:Walk row ss short)(ok:∀ m∈row,VOk c m)(br:∀ m∈row,Br m):∀ m∈short,Br m:=by
 induction h with
 | nil=>exact br
 | @snoc ss r' s w so ih =>
  have o':=(Y2g w ok).2
  have b':=ih
  have sp:=Y0o so
  intro m hm
  unfold app at hm
  rw[q0v,q0v] at hm
  rcases hm with (q | q) | q
  ·exact b' m (q3n q)
  ·rcases so.due with ⟨x,y,e,p⟩ | ⟨x,y,z,e,_,p⟩
   ·have mx:x∈r':=by rw[sp,e];simp
    have my:y∈r':=by rw[sp,e];simp
    exact X4o (o' x mx).1 (o' y my).1 (b' x mx) (b' y my) p m q
   ·exact X4m p m q
  ·exact b' m (q4l q)
theorem X6l {c:Nat}{m n:Mk}(m4:m.1<4)(n4:n.1<4)(h:∀ F w,lay m F w=lay n F w):m=n:=by
 obtain⟨k,f,s⟩:=m
 obtain⟨k',f',s'⟩:=n
 have m4:k<4:=m4
 have n4:k'<4:=n4
 have ef:f=f':=by
  have e:=h (dl 0) f
  have e:En (2*k+4*bn (bp ((f^^^f)&&&s))) (dl 0 (f^^^f))=En (2*k'+4*bn (bp ((f^^^f')&&&s'))) (dl 0 (f^^^f')):=e
  rw[q5o,q3u,Z2q] at e
  by_cases q:f^^^f'=0
  ·exact xor_eq.mp q
  ·exfalso
   have d0:dl 0 (f^^^f')=z0:=if_neg q
   have d1:dl 0 0=one:=rfl
   rw[d0,En_z,d1] at e
   have w1:=congrArg wt e
   rw[X3o] at w1
   exact absurd w1 (by decide)
 subst ef
 have key:∀ v,(2*k+4*bn (bp (v&&&s)))%8=(2*k'+4*bn (bp (v&&&s')))%8:=λv=>by
  have e:=h (λ_=>one) (v^^^f)
  have e:En (2*k+4*bn (bp ((v^^^f^^^f)&&&s))) one=En (2*k'+4*bn (bp ((v^^^f^^^f)&&&s'))) one:=e
  rw[q2n,q5o,q5n,Y1a (2*k+_),Y1a (2*k'+_)] at e
  have i8:∀ a,a<8->∀ b,b<8->En a one=En b one->a=b:=by decide
  exact i8 _ (q8p _ (by decide)) _ (q8p _ (by decide)) e
 have bl:∀ b:Bool,bn b<=1:=λb=>by cases b<;>decide
 have k0:=key 0
 rw[q3u,q3u,Z2q] at k0
 have z:bn false=0:=rfl
 rw[z] at k0
 have ek:k=k':=by omega
 subst ek
 have es:s=s':=q1t λi=>by
  have e:=key (2^i)
  rw[Z8b,Z8b] at e
  have b1:=bl (s.testBit i)
  have b2:=bl (s'.testBit i)
  have:bn (s.testBit i)=bn (s'.testBit i):=by omega
  revert this
  cases s.testBit i<;>cases s'.testBit i<;>decide
 rw[es]
theorem Z7c {c:Nat}(hb:∀ (x:Mv) (n:Mk),n.1<4->(mvd x n).1<4):∀ (r:List Mv) {m:Mk},m.1<4->(mvds r m).1<4
 | [],_,h=>h
 | x::r,_,h=>Z7c hb (c:=c) r (hb x _ h)
theorem Z7u (x:Mv)(n:Mk)(h:n.1<4):(mvd x n).1<4:=by
 obtain⟨k,f,s⟩:=n
 have h:k<4:=h
 cases x<;>simp only[mvd]<;>(repeat' split)<;>first | exact h | exact q8p _ (by decide)
theorem X6s {c:Nat}{r t:List Mv}(e:Eqv r t)(o1:∀ x∈r,VOk c x)(o2:∀ x∈t,VOk c x)(b1:∀ x∈r,Br x)(b2:∀ x∈t,Br x){m:Mk}(m4:m.1<4):mvds t m=mvds r m:=by
 refine X6l (c:=c) (Z7c (c:=c) Z7u t m4) (Z7c (c:=c) Z7u r m4) λX w=>?_
 have g:∀ F w,lay (mvds t m) (rowop r F) w=lay (mvds r m) (rowop r F) w:=λF w=>by
  have a1:=congrFun (Z7d F m o1 b1) w
  have a2:=congrFun (Z7d F m o2 b2) w
  have e1:=e (lay m F) w
  rw[a1,a2] at e1
  have e2:∀ v,sm (2^t.length) (rowop r F v)=sm (2^r.length) (rowop t F v):=λv=>e F v
  have e3:sm (2^r.length) (lay (mvds t m) (rowop t F) w)=sm (2^t.length) (lay (mvds t m) (rowop r F) w):=by
   show sm _ (En _ _)=sm _ (En _ _)
   rw[<-Z4s,<-Z4s,e2]
  rw[e3] at e1
  exact(Y2x (Y5j _) e1).symm
 have q:=g (rowop (bwd r) X) w
 rw[Z9h X λx hx=>(o1 x hx).1] at q
 have q:En _ (sm (4^r.length) (X (w^^^(mvds t m).2.1)))=En _ (sm (4^r.length) (X (w^^^(mvds r m).2.1))):=q
 rw[Z4s,Z4s] at q
 exact Y2x (Int.pow_ne_zero (by decide)) q
theorem X4d {a:Int}(a0:0<=a){m:Mk}(m4:m.1<4):mvds [mix a,turn a 2,mix a,turn a 2,mix a,turn a 2] m=m:=by
 obtain⟨k,f,s⟩:=m
 have m4:k<4:=m4
 have t2:(2:Int).toNat=2:=rfl
 by_cases cf:f.testBit a.toNat=true<;>by_cases cs:s.testBit a.toNat=true<;>simp[mvds,mvd,cf,cs,Z2a,Z3j,t2]<;>omega
end M87
set_option maxHeartbeats 4000000
namespace L2
section
variable {X:Cx}
def rRepL:R2:=λx y H Q=>∃ l k xs,x=.int k/\y=.ref l/\H l=some (.lst xs)/\-(2^63)<=k/\k<2^63/\xs.length*k.toNat<=sizeLine/\∀ p,H p=none->Q (.ref p) (upd H p (.lst (List.replicate k.toNat xs).flatten))
theorem X4x:OpR X (binaryOp .Mult) rRepL:=by
 intro pins s σ H x y v u Q I rx ry h
 obtain⟨l,k,xs,rfl,rfl,hH,h1,h2,hz,q⟩:=h
 cases ry
 obtain⟨t,rfl⟩:=rx
 obtain⟨z,its,n,r,hl,e⟩:=I.lstM hH
 have hlen:its.toArray.size*k.toNat<=sizeLine:=by rw[q0i,<-hl];exact hz
 have hcap:¬ its.toArray.size*k.toNat>(2^63-1) / 8:=by
  have:(sizeLine:Nat)<=(2^63-1) / 8:=by decide
  omega
 have hfit:¬ (!Builtin.List.listFitsIndex k)=true:=by
  rw[fitsIndex_both h1 h2]
  exact q0q
 have hlong:¬ Builtin.List.listTooLong (its.toArray.size*k.toNat)=true:=by
  rw[Y3k hlen]
  exact q0q
 have f0:∀ m:Nat,List.foldl (λx1 x2=>x1++x2) #[] (List.replicate m its.toArray)=(List.replicate m its).flatten.toArray:=λm=>by
  have:=Y0l its m []
  rw[q7y] at this
  exact this
 have hnew:List.foldl (λx1 x2=>x1++x2) #[] (List.replicate (if its.toArray.isEmpty=true then 0 else k.toNat) its.toArray)=(List.replicate k.toNat its).flatten.toArray:=by
  rw[f0]
  cases its with
  | nil=>simp
  | cons a r'=>rw[if_neg (by simp)]
 refine lm_binaryOp_repeat_right (T:="list") (U:="int") (by decide) (λs'=>q8m s' k t) ⟨_,e,Z⟩ F.fills_int_mul noFill_list_mul F.slot_int_mul lm_noRepeat_int repeat_list F.slot_int_index.lookup
  (q8n F.slot_int_mul (q8m s k t) F.entry_int_mul (F.args_int_mul_2 _ _) (int___mul___int_list k t l its.toArray n)
   ⟨e,Z,⟨_,e,Z⟩,q8n F.slot_list_mul ⟨_,e,Z⟩ F.entry_list_mul (F.args_list_mul_2 _ _) (AutoListH.list___mul___list_int_3 l its.toArray n k t hfit hcap hlong) ⟨e,?_⟩⟩)
 rw[hnew]
 exact⟨.ref _,_,I.lnew (t':=s.toks) (r.rep k.toNat) (by rw[X6h,Nat.mul_comm];exact hz),Z,q _ I.fresh⟩
end
end L2
set_option maxHeartbeats 1000000
namespace K55S
open L2 Ba Am Pc M71
open K75 (top Bs Bd5 At5 ValsK Ams Steps spRunK)
open M72 (VOk V4 sm En rowop)
open M75 (Mk mvd mvds Br bn bp ev)
open M77 (pmk Z1g Z2m bk)
open M79 (cm pl bwd)
open M80 (rb Img Bdm)
open M81 (gk)
theorem Z9b {xs:List V}{p:Nat}{i:Int}(hi:i=p):cutV xs (some i) none=xs.drop p:=by
 subst hi
 unfold cutV
 rw[HT.Z2t]
 have e2:HT.sIx xs.length xs.length none=xs.length:=rfl
 rw[e2]
 by_cases h:p<=xs.length
 ·rw[q3q h,q1d (by rw[q2i];exact q0f _)]
 ·rw[q3a (by omega),q7w,q2l,q4b (by omega)]
theorem Y8z {xs:List V}{p:Nat}{e:Int}(he:e=p):cutV xs none (some e)=xs.take p:=by
 subst he
 unfold cutV
 rw[HT.Z2t]
 have e2:HT.sIx xs.length 0 none=0:=rfl
 rw[e2,List.drop_zero,Nat.sub_zero]
 by_cases h:p<=xs.length
 ·rw[q3q h]
 ·rw[q3a (by omega),q1d (q0f _),q1d (by omega)]
theorem Z3h {H:Hp}:∀ {ps:U3}{xs:List Mm} (n:Nat),RowsM H ps xs->RowsM H (ps.drop n) (xs.drop n)
 | _,_,0,h=>h
 | [],[],n+1,.nil=>by rw[q7j,q7j];exact .nil
 | _::_,_::_,n+1,.cons _ r=>Z3h n r
theorem Z3z {H:Hp}:∀ {ps:U3}{xs:List Mm} (n:Nat),RowsM H ps xs->RowsM H (ps.take n) (xs.take n)
 | _,_,0,_=>by rw[q2l,q2l];exact .nil
 | [],[],n+1,.nil=>by rw[q6d,q6d];exact .nil
 | _::_,_::_,n+1,.cons a r=>.cons a (Z3z n r)
def Y6c:Sp:=λvs H Q _=>∃ k:Nat,vs=[.int k]/\k<12/\∀ (t:W9) (H':Hp),Same H H'->H' t=some (.tup (mkL (pl k)))->Q (.ref t) H'
theorem X8j {c:Nat}{m:Mk}(h:Bdm c m):OkK c m:=⟨h.k,h.f,h.s⟩
theorem W0s {c:Nat}{m:Mk}(h:OkK c m):Bdm c m:=⟨h.k,h.f,h.s⟩
theorem X3h {c:Nat}(x:Mv)(m:Mk)(o:VOk c x)(b:Bdm c m):Bdm c (mvd x m):=W0s (Y7n o (X8j b))
noncomputable abbrev ims (c:Nat)(row:List Mv):List Mk:=(pmk c).map (mvds row)
theorem Z4r (c:Nat)(row:List Mv):(ims c row).length=2*c:=by rw[q0a,Z1g]
theorem Y8i {c k:Nat}{row:List Mv}(h:k<2*c):gk (ims c row) k=mvds row (pl k):=by
 rw[M81.Y0k (by rw[Z1g];exact h),M81.Y3y h]
theorem Y8h {c:Nat}{row:List Mv}(o:∀ x∈row,VOk c x)(b:∀ x∈row,Br x):Img (gk (ims c row)) c :=
 M81.X6p (Z1g c) (M81.X6n c) (λm hm=>M80.Z9g X3h o hm) (λm hm=>by rw[M75.Z4h m (λx hx=>(o x hx).1) b];exact hm) (λm n=>M79.Z3f m n (λx hx=>(o x hx).1) b)
theorem X4i {c:Nat}{row:List Mv}(c6:c<=6)(o:∀ x∈row,VOk c x)(b:∀ x∈row,Br x):(bwd (rb (gk (ims c row)) c c)).length<=200/\(∀ x∈bwd (rb (gk (ims c row)) c c),VOk c x)/\(∀ x∈bwd (rb (gk (ims c row)) c c),Br x)/\∀ k,k<2*c->mvds (bwd (rb (gk (ims c row)) c c)) (pl k)=mvds row (pl k):=by
 obtain⟨h1,h2,h3⟩:=M80.Y6n c6 X3h (Y8h o b) c (q0f c)
 have v:∀ x∈rb (gk (ims c row)) c c,VOk c x:=λx hx=>(M79.Z2p (h1 x hx)).1
 have r:∀ x∈rb (gk (ims c row)) c c,Br x:=λx hx=>(M79.Z2p (h1 x hx)).2.1
 refine⟨?_,M86.X3m v,M86.X3n (λx hx=>(v x hx).1) r,λk hk=>?_⟩
 ·rw[M86.Y9f]
  refine q0u h2 (q0u (q4o c6 (show 5*c+1<=31 by omega)) (by decide))
 ·have e:=h3 k hk
  rw[Y8i hk] at e
  have p4:(pl k).1<4:=by unfold pl;split<;>exact(by decide:0<4)
  have b:=M79.Z9i (λx hx=>(v x hx).1) r (M87.Z7c (c:=c) M87.Z7u row p4) λx n _ hn=>M87.Z7u x n hn
  rw[e] at b
  exact b
theorem pl4 (k:Nat):(pl k).1<4:=by unfold pl;split<;>exact(by decide:0<4)
def Like (c:Nat)(row oth:List Mv):Prop:=∀ k,k<2*c->mvds oth (pl k)=mvds row (pl k)
def Y5w (K:U0):Sp:=λvs H Q _=>∃ (lr:W9) (row:List Mv) (c:Nat) (wy fa:Int),vs=[.ref lr,.int c,.int wy,.int fa]/\RowAt H lr row/\row.length<=40/\(∀ x∈row,VOk c x)/\(∀ x∈row,Br x)/\1<=c/\c<=6/\0<=wy/\0<=fa/\fa<10^15 ∧
 ∀ (l:W9) (H':Hp) (oth:List Mv),Same H H'->RowAt H' l oth->oth.length<=200->(∀ x∈oth,VOk c x)->(∀ x∈oth,Br x)->(wy<3->Like c row oth)->Q (.ref l) H'
noncomputable abbrev spk (k:Nat)(f:Nat->A5)(w:Nat):A5:=(rot k (f w).1,(f w).2)
def spSpun (K:U0):Sp:=λvs H Q _=>∃ (l:W9) (ps:U3) (f:Nat->A5) (c n m k:Nat),vs=[.ref l,.int k]/\Bd5 K H l ps f c n m/\c<=6/\k<=8/\∀ (r:W9) (H':Hp) (qs:U3),Same H H'->Bd5 K H' r qs (spk k f) c n m->Q (.ref r) H'
def Y5y (K:U0):Sp:=λvs H Q _=>∃ (lr lo:W9) (row oth:List Mv) (c:Nat),vs=[.ref lr,.ref lo,.int c]/\RowAt H lr row/\RowAt H lo oth/\c<=6/\(∀ x∈row,VOk c x)/\(∀ x∈row,Br x)/\row.length<=200/\(∀ x∈oth,VOk c x)/\(∀ x∈oth,Br x)/\oth.length<=200 ∧
 ∀ (v:V) (H':Hp),Same H H'->OptAt K H' v (dif (ims c row) (ims c oth) (pmk c))->Q v H'
section
variable {P:U8}{w:W1}{K:U0}{mg:U4}{base:Heap}{k:Nat}{h:Heap}
theorem sc_basic:FnScope ["_law_k"] ["_law_k"] (Z0h (top 90)):=fS
theorem X1d (F:FunAt K "_law_basic" (top 90) .none)(X:K.In h)(G:Ng h mg):Cal P w K mg base (k+1) "_law_basic" ["_law_k"] Y6c:=by
 have nd:=sc_basic.nd
 refine F.cal X G sc_basic (bnd1 λ_ _ _ _ _ _ _=>rfl) (λvs H Q E h=>?_) (λf cdv A outer s H vs Q E hr h=>?_)
 ·obtain⟨n,rfl,_⟩:=h;rfl
 obtain⟨n,rfl,n12,q⟩:=h
 have hd:(n:Int) / 2=((n / 2:Nat):Int):=by omega
 unfold pl at q
 refine⟨_,(@Z0g _ _ _ _ _ (Z0y (Z0n Z1o (Z0i Z0z (pv 0) Z0b) Z0b (nomark _))
   (@Z0f _ _ _ (Z0j (@Z1a _ _ _ _ _ (Z0a Z0b (Z0a Z0b (Z0a (Z0i Z2f Z0b (Z0i Z1w (pv 0) Z0b)) Z0e))))))
   Z0p)
  (@Z0f _ _ _ (Z0j (@Z1a _ _ _ _ _ (Z0a Z0b (Z0a (Z0i Z2f Z0b (Z0i Z1w (pv 0) Z0b)) (Z0a Z0b Z0e))))))),?_⟩
 try dsimp only[cxK]
 refine⟨_,Z,_,_,Z,Z,(by decide:(0:Int)<2),Z,_,Z,eqI (λz=>?_) (λz=>?_)⟩
 ·rw[if_pos (by omega)] at q
  refine⟨_,Z,_,_,Z,Z,⟨by decide,by decide⟩,_,_,Z,Z,⟨1,sz1,by rw[hd];omega,by rw[hd];omega⟩,t3,λt ht=>q t _ (Z0c ht _) ?_⟩
  rw[Z0d,hd]
  show some (HO.tup [V.int 0,V.int 0,V.int (1*2^(((n / 2:Nat):Int)).toNat)])=_
  rw[ipw]
  rfl
 ·rw[if_neg (by omega)] at q
  refine⟨_,Z,_,_,Z,Z,⟨by decide,by decide⟩,_,_,Z,Z,⟨1,sz1,by rw[hd];omega,by rw[hd];omega⟩,t3,λt ht=>q t _ (Z0c ht _) ?_⟩
  rw[Z0d,hd]
  show some (HO.tup [V.int 0,V.int (1*2^(((n / 2:Nat):Int)).toNat),V.int 0])=_
  rw[ipw]
  rfl
theorem sc_other:FnScope ["_law_row","_law_cells","_law_way","_law_far","_law_at","_law_cell","_law_more"] ["_law_row","_law_cells","_law_way","_law_far"] (Z0h (top 87)):=fS
theorem X0s (F:FunAt K "_law_other" (top 87) .none)(X:K.In h)(G:Ng h mg)(B:Bs mg)(cI:Cal P w K mg base k "images" ["row","cells"] (spImg K))(eJ:Cal P w K mg base k "rebuilt" ["marks","cells"] (spReb K))(eA:Cal P w K mg base k "shortened" ["row"] S.Y5t)(cR:Cal P w K mg base k "_law_move" ["_law_cell","_law_cells"] spMove) :
  Cal P w K mg base (k+1) "_law_other" ["_law_row","_law_cells","_law_way","_law_far"] (Y5w K):=by
 have nd:=sc_other.nd
 refine F.cal X G sc_other (bnd4 λ_ _ _ _ _ _ _ _ _ _=>rfl) (λvs H Q E h=>?_) (λf cdv A outer s H vs Q E hr h=>?_)
 ·obtain⟨lr,row,c,wy,fa,rfl,_⟩:=h;rfl
 obtain⟨lr,row,c,wy,fa,rfl,R,l40,vo,br,c1,c6,w0,f0,f15,kq⟩:=h
 obtain⟨rp,hl,hrow⟩:=id R
 have lrp:rp.length=row.length:=by have:=Z1c hrow;rw[q0a] at this;exact this
 have SL:SqL K H lr (rp.map V.ref):=SqL.of hl
 have sl:(1000:Nat)<sizeLine:=by decide
 have cp:(0:Int)<(c:Int):=by omega
 refine⟨_,(@Z0r _ _ _ _ _ (@Z0o _ _ 4 _ _ _ _ nd rfl (Or.inl rfl) (Z0i Z0z (Z0i Z1w (pv 3) Z0b) (Z0i Z1b (Z0q Z0u rfl B.len q1m (Z0a (pv 0) Z0e)) Z0b)) rfl (.inl rfl))
  (@Z0r _ _ _ _ _ (@Z0o _ _ 5 _ _ _ _ nd rfl (Or.inl rfl) (Z0i Z0z (pv 3) (pv 1)) rfl (.inl rfl))
  (@Z0g _ _ _ _ _ (Z0y (Z0n Z1o (pv 2) Z0b (nomark _))
   (@Z0f _ _ _ (Z0j (Z0k eJ hr rfl (Z0a (Z0k cI hr rfl (Z0a (pv 0) (Z0a (pv 1) Z0e))) (Z0a (pv 1) Z0e)))))
   Z0p)
  (@Z0g _ _ _ _ _ (Z0y (Z0n Z1o (pv 2) Z0b (nomark _))
   (@Z0f _ _ _ (Z0j (Z0m Z0l (Z0k eA hr rfl (Z0a (pv 0) Z0e)) Z0b (λ_ _=>rfl))))
   Z0p)
  (@Z0g _ _ _ _ _ (Z0y (Z0n Z1o (pv 2) Z0b (nomark _))
   (@Z0f _ _ _ (Z0j (Z0i Z6z (pv 0) (Z0i X4x Z0b (@Z1s _ _ _ _ (Z0a (@Z1a _ _ _ _ _ (Z0a Z0x (Z0a (pv 5) Z0e))) (Z0a (@Z1a _ _ _ _ _ (Z0a Z0x (Z0a (pv 5) (Z0a Z0b Z0e)))) Z0e)))))))
   Z0p)
  (@Z0g _ _ _ _ _ (Z0y (Z0n Z1o (pv 2) Z0b (nomark _))
   (@Z0f _ _ _ (Z0j (Y6s X4c (pv 0) Z2e Z2e (Z1f (Y1i Z9m Z0b)) (λ_ _=>rfl))))
   Z0p)
  (@Z0g _ _ _ _ _ (Z4i (i:=6) rfl nd rfl rfl (LcOk.of (Nc:=["_law_k","_law_cells","_law_far"]) (mp:=[none,some 1,some 3]) (by kernel_rfl)) (Z1k rfl B.range (Z0a (Z0i Z1b Z0b (Z0i Z0z (Z0i Z1w (pv 3) Z0b) Z0b)) Z0e)) (λ_ _ _ _=>(Z0w (i:=0) (show (["_law_k","_law_cells","_law_far"]:W0).Nodup by decide +kernel) rfl (Or.inl rfl))) (λ_ _ _ _=>(Z0k cR hr rfl (Z0a (Z0i Z1b (Z0i Z1w (pv 2) Z0b) (Z0i Z3e (Z0i Z2d Z0b (pv 0)) (pv 0))) (Z0a (pv 1) Z0e)))) rfl)
  (@Z0f _ _ _ (Z0j (Z0i Z6z (Z0i Z6z (Z1l Z3p (pv 0) Z2e (Z1f (pv 4))) (pv 6)) (Z1l Z3p (pv 0) (Z1f (pv 4)) Z2e))))))))))),?_⟩
 try dsimp only[cxK]
 have a0:=q1i (fa / 8) (show ((row.length:Nat):Int)+1≠0 by omega)
 have a1:=q1f (fa / 8) (show (0:Int)<((row.length:Nat):Int)+1 by omega)
 have e0:=q1i fa (q4y cp)
 have e1:=q1f fa cp
 refine⟨λσ' H'=>H=H'/\∃ at':Nat,σ'=[some (.ref lr),some (.int c),some (.int wy),some (.int fa),some (.int at'),none,none],?_,?_⟩
 ·refine⟨_,Z,_,_,Z,Z,⟨by decide,by decide⟩,_,Z,lr,_,Z,.inl SL,_,_,Z,Z,_,_,Z,Z,(show (0:Int)<(((rp.map V.ref).length:Nat):Int)+1 by omega),Z,(fa / 8%(((row.length:Nat):Int)+1)).toNat,?_⟩
  rw[q0a,lrp,q6k a0]
  rfl
 rintro σ' _ ⟨rfl,at',rfl⟩
 refine⟨λσ' H'=>H=H'/\∃ cc:Int,0<=cc/\cc<(c:Int)/\σ'=[some (.ref lr),some (.int c),some (.int wy),some (.int fa),some (.int at'),some (.int cc),none],⟨_,Z,_,Z,_,_,Z,Z,cp,Z,_,e0,e1,Z⟩,?_⟩
 clear e0 e1
 rintro σ' _ ⟨rfl,cc,e0,e1,rfl⟩
 refine⟨_,Z,Z,_,Z,eqI (λ_=>?_) (λn0=>?_)⟩
 ·obtain⟨r1,r2,r3,r4⟩:=X4i c6 vo br
  exact⟨_,Z,_,Z,lr,row,c,Z,R,c6,vo,br,by omega,λl1 H1 ps1 fr1 S1 M1=>⟨_,Z,l1,ps1,ims c row,c,Z,M1,Z4r c row,c6,Y8h vo br,λr H2 fr2 S2 R2=>kq r H2 _ (S1.trans S2) R2 r1 r2 r3 λ_=>r4⟩⟩
 refine⟨_,Z,Z,_,Z,eqI (λ_=>?_) (λn1=>?_)⟩
 ·refine⟨_,Z,lr,row,Z,R,l40,λt a b H1 cur ts ss S1 na nb ab ht Ra St W rest=>⟨t,_,_,.ref a,Z,Z,SqT.of ht,at0,?_⟩⟩
  obtain⟨ev,ov⟩:=M72.Y2g W vo
  have bc:=M87.X3q W vo br
  exact kq a H1 cur S1 Ra (q0u W.len (by omega)) ov bc λ_ k hk=>M87.X6s ev vo ov br bc (pl4 k)
 refine⟨_,Z,Z,_,Z,eqI (λ_=>?_) (λn2=>?_)⟩
 ·refine⟨_,Z,_,Z,t2,λp1 h1=>⟨_,Z,t3,λp2 h2=>⟨t2,λl1 hl1=>?_⟩⟩⟩
  have s1:=Z0c h1 (.tup [.str "mix",.int cc])
  have s2:=Z0c h2 (.tup [.str "turn",.int cc,.int 2])
  have s3:=Z0c hl1 (.lst [V.ref p1,V.ref p2])
  have q1:upd (upd (upd H p1 (.tup [.str "mix",.int cc])) p2 (.tup [.str "turn",.int cc,.int 2])) l1 (.lst [V.ref p1,V.ref p2]) p1=some (mT (mm (.mix cc))):=(s2.trans s3) _ _ Z0d
  have q2:upd (upd (upd H p1 (.tup [.str "mix",.int cc])) p2 (.tup [.str "turn",.int cc,.int 2])) l1 (.lst [V.ref p1,V.ref p2]) p2=some (mT (mm (.turn cc 2))):=s3 _ _ Z0d
  have q3:upd (upd (upd H p1 (.tup [.str "mix",.int cc])) p2 (.tup [.str "turn",.int cc,.int 2])) l1 (.lst [V.ref p1,V.ref p2]) l1=some (.lst [V.ref p1,V.ref p2]):=Z0d
  have S3:=(s1.trans s2).trans s3
  generalize upd (upd (upd H p1 (.tup [.str "mix",.int cc])) p2 (.tup [.str "turn",.int cc,.int 2])) l1 (.lst [V.ref p1,V.ref p2])=H3 at q1 q2 q3 S3 ⊢
  refine⟨l1,3,_,Z,Z,q3,by decide,by decide,(show 2*3<=sizeLine by decide),λl2 hl2=>?_⟩
  have s4:=Z0c hl2 (.lst (List.replicate (3:Int).toNat [V.ref p1,V.ref p2]).flatten)
  have q4:upd H3 l2 (.lst (List.replicate (3:Int).toNat [V.ref p1,V.ref p2]).flatten) l2=some (.lst ([p1,p2,p1,p2,p1,p2].map V.ref)):=Z0d
  generalize upd H3 l2 (.lst (List.replicate (3:Int).toNat [V.ref p1,V.ref p2]).flatten)=H4 at s4 q4 ⊢
  have S4:=S3.trans s4
  refine⟨lr,l2,_,_,Z,Z,S4 _ _ hl,q4,(by rw[q0a,q0a];exact q0u (show rp.length+6<=100 by omega) (by decide)),λl3 hl3=>?_⟩
  have s5:=Z0c hl3 (.lst (rp.map V.ref++[p1,p2,p1,p2,p1,p2].map V.ref))
  have q5:upd H4 l3 (.lst (rp.map V.ref++[p1,p2,p1,p2,p1,p2].map V.ref)) l3=some (.lst ((rp++[p1,p2,p1,p2,p1,p2]).map V.ref)):=by rw[Z0d,q0b]
  generalize upd H4 l3 (.lst (rp.map V.ref++[p1,p2,p1,p2,p1,p2].map V.ref))=H5 at s5 q5 ⊢
  have S5:=S4.trans s5
  have m1:=(s4.trans s5) _ _ q1
  have m2:=(s4.trans s5) _ _ q2
  have vm:VOk c (.mix cc):=⟨e0,λx hx=>by simp[Mv.cells] at hx;omega⟩
  have vt:VOk c (.turn cc 2):=⟨⟨e0,by decide,by decide⟩,λx hx=>by simp[Mv.cells] at hx;omega⟩
  refine kq l3 H5 (row++[.mix cc,.turn cc 2,.mix cc,.turn cc 2,.mix cc,.turn cc 2]) S5 ⟨_,q5,?_⟩ (by simp;omega) (λx hx=>?_) (λx hx=>?_) (λ_ k hk=>?_)
  ·rw[q0b]
   exact Z1u (hrow.same S5) (.cons m1 (.cons m2 (.cons m1 (.cons m2 (.cons m1 (.cons m2 .nil))))))
  ·rcases q0v.mp hx with q | q
   ·exact vo x q
   ·simp only[q0p,q1l,q2t] at q
    rcases q with rfl | rfl | rfl | rfl | rfl | rfl<;>assumption
  ·rcases q0v.mp hx with q | q
   ·exact br x q
   ·simp only[q0p,q1l,q2t] at q
    rcases q with rfl | rfl | rfl | rfl | rfl | rfl<;>first | trivial | exact(rfl:(2:Int).toNat%2=0)
  ·rw[M86.Z1h]
   exact M87.X4d e0 (M87.Z7c (c:=c) M87.Z7u row (pl4 k))
 have w3:¬ wy<3:=by omega
 refine⟨_,Z,Z,_,Z,eqI (λ_=>?_) (λn3=>?_)⟩
 ·refine⟨_,Z,_,Z,_,Z,lr,_,Z,SL,Z,Z,Z,λl1 hl1=>?_⟩
  have s1:=Z0c hl1 (.lst (rp.map V.ref).reverse)
  refine kq l1 _ row.reverse s1 ⟨rp.reverse,by rw[Z0d,List.map_reverse],?_⟩ (by rw[q4w];omega) (λx hx=>vo x (q4s.mp hx)) (λx hx=>br x (q4s.mp hx)) λz=>absurd z w3
  rw[List.map_reverse]
  have rev:∀ {ps:U3}{ms:List Mm},RowsM H ps ms->RowsM (upd H l1 (.lst (rp.map V.ref).reverse)) ps.reverse ms.reverse:=λ{ps ms} hh=>by
   induction hh with
   | nil=>exact .nil
   | cons a _ ih=>rw[q3s,q3s];exact Z3r ih (s1 _ _ a)
  exact rev hrow
 ·have nn:=q1i (fa / 512) (show (3:Int)≠0 by decide)
  have nm':=q1f (fa / 512) (show (0:Int)<3 by decide)
  obtain⟨N,eN⟩:∃ N:Nat,1+fa / 512%3=(N:Int):=⟨(1+fa / 512%3).toNat,by omega⟩
  have N3:N<=3:=by omega
  refine⟨_,Z,_,_,Z,Z,⟨by decide,by decide⟩,_,_,Z,Z,(by decide:(0:Int)<3),_,_,Z,Z,_,Z,by omega,by omega,λacc hacc=>?_⟩
  rw[eN,q1h]
  refine Z6k (lo:=0) (n:=N) (fr:=[some (.int c),some (.int fa)]) (λi ys H'=>Same H H'/\H' acc=some (.lst ys)/\∃ (qs:U3) (mo:List Mv),ys=qs.map V.ref/\RowsM H' qs (mo.map mm)/\mo.length=i/\(∀ x∈mo,VOk c x)/\∀ x∈mo,Br x) (by omega) ⟨Z0c hacc _,Z0d,[],[],Z,.nil,Z,(λx hx=>nomatch hx),λx hx=>nomatch hx⟩ ?_ ?_
  ·rintro i ys H1 NN hi hy ⟨S1,a1',qs,mo,rfl,M1,ml,O1,B1⟩ kN
   have si:Sz 10 (0+(i:Int)):=by unfold Sz;omega
   have s7:Sz 20 (7*(0+(i:Int))):=by unfold Sz;omega
   refine⟨_,Z,_,_,Z,Z,⟨by decide,by decide⟩,_,Z,_,_,Z,Z,.inl ⟨by decide,by decide⟩,_,Z,_,_,Z,Z,⟨_,_,s7,si,by decide⟩,_,_,Z,Z,_,Z,_,c,Z,c1,c6,λt H2 m S2 ht vm bm=>?_⟩
   have a2:=S2 _ _ a1'
   refine kN _ _ a2 ⟨Z0v (S1.trans S2) hacc,Z0d,qs++[t],mo++[m],by rw[q0b];rfl,?_,by rw[q0c,ml];rfl,λx hx=>?_,λx hx=>?_⟩
   ·rw[q0b]
    exact Z8n (Z3r (M1.same S2) ht) a2
   ·rcases q0v.mp hx with q | q
    ·exact O1 x q
    ·rw[q0n.mp q];exact vm
   ·rcases q0v.mp hx with q | q
    ·exact B1 x q
    ·rw[q0n.mp q];exact bm
  ·rintro ys H1 hy ⟨S1,a1',qs,mo,rfl,M1,ml,O1,B1⟩
   have lq:qs.length=mo.length:=by have:=Z1c M1;rw[q0a] at this;exact this
   refine⟨_,Z,_,Z,_,Z,lr,_,Z,S1.seq SL,λl2 hl2=>?_⟩
   rw[Y8z rfl]
   have s2:=Z0c hl2 (.lst ((rp.map V.ref).take at'))
   have q2:upd H1 l2 (.lst ((rp.map V.ref).take at')) l2=some (.lst ((rp.map V.ref).take at')):=Z0d
   generalize upd H1 l2 (.lst ((rp.map V.ref).take at'))=H2 at s2 q2 ⊢
   refine⟨_,Z,l2,acc,_,_,Z,Z,q2,s2 _ _ a1',(by simp only[q0c,q1q,q0a];exact q0u (show _<=200 by omega) (by decide)),λl3 hl3=>?_⟩
   have s3:=Z0c hl3 (.lst ((rp.map V.ref).take at'++qs.map V.ref))
   have q3:upd H2 l3 (.lst ((rp.map V.ref).take at'++qs.map V.ref)) l3=some (.lst ((rp.map V.ref).take at'++qs.map V.ref)):=Z0d
   generalize upd H2 l3 (.lst ((rp.map V.ref).take at'++qs.map V.ref))=H3 at s3 q3 ⊢
   have S13:=s2.trans s3
   refine⟨_,Z,_,Z,_,Z,lr,_,Z,(S1.trans S13).seq SL,λl4 hl4=>?_⟩
   rw[Z9b rfl]
   have s4:=Z0c hl4 (.lst ((rp.map V.ref).drop at'))
   have q4:upd H3 l4 (.lst ((rp.map V.ref).drop at')) l4=some (.lst ((rp.map V.ref).drop at')):=Z0d
   generalize upd H3 l4 (.lst ((rp.map V.ref).drop at'))=H4 at s4 q4 ⊢
   refine⟨l3,l4,_,_,Z,Z,s4 _ _ q3,q4,(by simp only[q0c,q1q,q2i,q0a];exact q0u (show _<=200 by omega) (by decide)),λl5' hl5=>?_⟩
   have s5:=Z0c hl5 (.lst (((rp.map V.ref).take at'++qs.map V.ref)++(rp.map V.ref).drop at'))
   have S15:=(S13.trans s4).trans s5
   refine kq l5' _ (row.take at'++mo++row.drop at') (S1.trans S15) ⟨rp.take at'++qs++rp.drop at',by rw[Z0d,q0b,q0b,q4j,q3x],?_⟩ ?_ (λx hx=>?_) (λx hx=>?_) λz=>absurd z w3
   ·rw[q0b,q0b,q4j,q3x]
    exact Z1u (Z1u (Z3z at' (hrow.same (S1.trans S15))) (M1.same S15)) (Z3h at' (hrow.same (S1.trans S15)))
   ·simp only[q0c,q1q,q2i]
    omega
   ·rcases q0v.mp hx with q | q
    ·rcases q0v.mp q with q | q
     ·exact vo x (q3n q)
     ·exact O1 x q
    ·exact vo x (q4l q)
   ·rcases q0v.mp hx with q | q
    ·rcases q0v.mp q with q | q
     ·exact br x (q3n q)
     ·exact B1 x q
    ·exact br x (q4l q)
end
end K55S
namespace K55S
open L2 Ba Am Pc M71
open K75 (top Bs Bd5 At5 ValsK Ams Steps spRunK Nz)
open M72 (VOk V4 sm En rowop)
open M75 (Mk mvd mvds Br bn bp ev)
open M77 (pmk Z1g Z2m bk)
open M79 (cm pl bwd)
open M81 (gk)
def spOneK (K:U0):Sp:=λvs H Q _=>∃ (lh lt h0 h1 t0 t1:W9) (a0 a1 b0 b1:U3) (g0 g1 f0 f1:Nat->A5) (c n m n' m' k0:Nat),vs=[.ref lh,.ref lt]/\H lh=some (.lst [.ref h0,.ref h1])/\H lt=some (.lst [.ref t0,.ref t1])/\Bd5 K H h0 a0 g0 c n m/\Bd5 K H h1 a1 g1 c n m/\Bd5 K H t0 b0 f0 c n' m'/\Bd5 K H t1 b1 f1 c n' m'/\c<=6/\k0<8 ∧
 (∀ w,w<2^c->g0 w=spk k0 f0 w)/\(∀ w,w<2^c->g1 w=spk k0 f1 w)/\Nz c f0/\Ams c f0/\∀ H',Same H H'->Q (.bl true) H'
theorem X4g {x:A5}{k k0:Nat}(lt:k<k0)(h8:k0<8)(h:(rot k x.1,x.2)=((rot k0 x.1,x.2):A5)):x.1=(0,0,0,0):=by
 have e:rot k x.1=rot k0 x.1:=congrArg Prod.fst h
 rw[Y1f,Y1f,show k0=k+(k0-k) by omega,<-M72.Z5g] at e
 have inj:∀ (n:Nat) (u v:V4),En n u=En n v->u=v:=λn u v q=>by
  have:=congrArg (En (8*n-n)) q
  rw[M72.Z5g,M72.Z5g,M75.X2f (show (8*n-n+n)%8=0%8 by omega) u,M75.X2f (show (8*n-n+n)%8=0%8 by omega) v] at this
  exact this
 exact M86.W0z (k:=k0-k) (by omega) (by omega) (inj k _ _ e).symm
theorem X9j {x y:A5}(h:l5 x=l5 y):x=y:=by
 obtain⟨⟨a,b,c,d⟩,g⟩:=x
 obtain⟨⟨a',b',c',d'⟩,g'⟩:=y
 have e:[a,b,c,d,g]=[a',b',c',d',g']:=h
 injection e with e1 e
 injection e with e2 e
 injection e with e3 e
 injection e with e4 e
 injection e with e5 _
 subst e1 e2 e3 e4 e5
 rfl
theorem rows_eq {c:Nat}{f g:Nat->A5}:((List.range (2^c)).map λi=>l5 (f i))=((List.range (2^c)).map λi=>l5 (g i)) ↔ ∀ w,w<2^c->f w=g w:=by
 constructor
 ·intro e w hw
  have q:=congrArg (λl=>l[w]?) e
  simp only[q0k,List.getElem?_range hw,Option.map_some] at q
  exact X9j (Option.some.inj q)
 ·intro h
  exact q4v λi hi=>by rw[h i (q0s.mp hi)]
section
variable {P:U8}{w:W1}{K:U0}{mg:U4}{base:Heap}{k:Nat}{h:Heap}
theorem sc_spun:FnScope ["_law_board_here","_law_k","_law_j"] ["_law_board_here","_law_k"] (Z0h (top 88)):=fS
theorem Y1o (F:FunAt K "_law_spun" (top 88) .none)(X:K.In h)(G:Ng h mg)(B:Bs mg):Cal P w K mg base (k+1) "_law_spun" ["_law_board_here","_law_k"] (spSpun K):=by
 have nd:=sc_spun.nd
 refine F.cal X G sc_spun (bnd2 λ_ _ _ _ _ _ _ _=>rfl) (λvs H Q E h=>?_) (λf cdv A outer s H vs Q E hr h=>?_)
 ·obtain⟨l,ps,f,c,n,m,k,rfl,_⟩:=h;rfl
 obtain⟨l,ps,fb,c,n,m,kn,rfl,BD,c6,k8,kq⟩:=h
 have p6:=pow6 c6
 have sl:(100:Nat)<sizeLine:=by decide
 refine⟨_,(@Z0g _ _ _ _ _ (Z2r PassesOwn.never rfl (Z1k rfl B.range (Z0a (pv 1) Z0e)) (Z0w (i:=2) nd rfl (Or.inl rfl))
   (@Z0f _ _ _ (Z4i (i:=0) rfl nd rfl rfl (LcOk.of (Nc:=["_law_one"]) (mp:=[none]) (by kernel_rfl)) (Z2x (pv 0)) (λ_ _ _ _=>(Z0w (i:=0) (show (["_law_one"]:W0).Nodup by decide +kernel) rfl (Or.inl rfl))) (λ_ _ _ _=>(@Z1a _ _ _ _ _ (Z0a (Y1i Z9m (Z0m Z7f (pv 0) Z0b (λ_ _=>rfl))) (Z0a (Z0m Z7f (pv 0) Z0b (λ_ _=>rfl)) (Z0a (Z0m Z7f (pv 0) Z0b (λ_ _=>rfl)) (Z0a (Z0m Z7f (pv 0) Z0b (λ_ _=>rfl)) (Z0a (Z0m Z7f (pv 0) Z0b (λ_ _=>rfl)) Z0e))))))) rfl)))
  (@Z0f _ _ _ (Z0j (pv 0)))),?_⟩
 try dsimp only[cxK]
 refine⟨_,Z,_,Z,by omega,by omega,?_⟩
 rw[q1h]
 refine Z1y (n:=kn) (λi σ H'=>Same H H'/\∃ (r:W9) (qs:U3) (v:Option V),Bd5 K H' r qs (spk i fb) c n m/\σ=[some (.ref r),some (.int kn),v]) ⟨Same.refl _,l,ps,none,BD,Z⟩ ?_ ?_
 ·rintro i σ H1 hi ⟨S1,r,qs,v,B1,rfl⟩
  have lq:=B1.len
  refine⟨_,Z,r,Z,⟨_,SqL.of B1.lst⟩,λacc hacc=>?_⟩
  refine Z5m (K:=K) (a:=r) (xs:=qs.map V.ref) (fr:=[]) (λj ys H'=>Same H1 H'/\H' acc=some (.lst ys)/\∃ (rs:U3),ys=rs.map V.ref/\rs.length=j/\ValsK K H' rs (spk (i+1) fb)) (by rw[q0a];omega) ⟨Z0c hacc _,Z0d,[],Z,Z,λi q hq=>nomatch hq⟩ (λj ys H' e=>e.1.seq (SqL.of B1.lst)) ?_ ?_
  ·rintro j x ys H2 N hx hy ⟨S2,a2,rs,rfl,lr,V2⟩ kN
   rw[q0k] at hx
   obtain⟨p,hp,rfl⟩:=q0x.mp hx
   have ap:SqT K H2 p ((l5 (spk i fb j)).map V.int):=(B1.vals j p hp).same S2
   refine⟨_,Z,p,_,_,_,Z,Z,ap,L2.Z1e (j:=3) rfl,_,Z,_,Z,p,_,_,_,Z,Z,ap,L2.Z1e (j:=0) rfl,_,Z,p,_,_,_,Z,Z,ap,L2.Z1e (j:=1) rfl,_,Z,p,_,_,_,Z,Z,ap,L2.Z1e (j:=2) rfl,_,Z,p,_,_,_,Z,Z,ap,L2.Z1e (j:=4) rfl,t5,λt ht=>?_⟩
   have s3:=Z0c ht (tA (spk (i+1) fb j))
   have a3:upd H2 t (tA (spk (i+1) fb j)) acc=some (.lst (rs.map V.ref)):=s3 _ _ a2
   have e3:At5 K (upd H2 t (tA (spk (i+1) fb j))) t (spk (i+1) fb j):=At5.of Z0d
   refine kN _ _ a3 ⟨Z0v (S2.trans s3) hacc,Z0d,rs++[t],by rw[q0b];rfl,by rw[q0c,lr];rfl,?_⟩
   have V3:=K75.Z3m (ys:=rs.map V.ref++[.ref t]) (K75.Z3g V2 s3 e3) a3
   intro w q hq
   have:=V3 w q hq
   have e:(if w=rs.length then spk (i+1) fb j else spk (i+1) fb w)=spk (i+1) fb w:=by
    by_cases z:w=rs.length
    ·rw[if_pos z,z,lr]
    ·rw[if_neg z]
   rw[<-e]
   exact this
  ·rintro ys H2 hy ⟨S2,a2,rs,rfl,lr,V2⟩
   rw[q0a,lq] at lr
   exact⟨S1.trans S2,acc,rs,_,⟨a2,lr,V2,λw hw=>Y7a (BD.ok w hw) _⟩,Z⟩
 ·rintro σ H1 ⟨S1,r,qs,v,B1,rfl⟩
  exact⟨_,Z,kq r H1 qs S1 B1⟩
theorem sc_onek:FnScope ["_law_here","_law_there","_law_k"] ["_law_here","_law_there"] (Z0h (top 89)):=fS
theorem X5d (F:FunAt K "_law_one_k" (top 89) .none)(X:K.In h)(G:Ng h mg)(B:Bs mg)(cX:Cal P w K mg base k "_law_spun" ["_law_board_here","_law_k"] (spSpun K)):Cal P w K mg base (k+1) "_law_one_k" ["_law_here","_law_there"] (spOneK K):=by
 have nd:=sc_onek.nd
 refine F.cal X G sc_onek (bnd2 λ_ _ _ _ _ _ _ _=>rfl) (λvs H Q E h=>?_) (λf cdv A outer s H vs Q E hr h=>?_)
 ·obtain⟨lh,lt,h0,h1,t0,t1,a0,a1,b0,b1,g0,g1,f0,f1,c,n,m,n',m',k0,rfl,_⟩:=h;rfl
 obtain⟨lh,lt,h0,h1,t0,t1,a0,a1,b0,b1,g0,g1,f0,f1,c,n,m,n',m',k0,rfl,eh,et,H0,H1',T0,T1,c6,k8,e0,e1,nz,af,kq⟩:=h
 refine⟨_,(@Z0g _ _ _ _ _ (Z2r PassesOwn.never rfl (Z1k rfl B.range (Z0a Z0b Z0e)) (Z0w (i:=2) nd rfl (Or.inl rfl))
   (@Z0f _ _ _ (Z0y (Z0n (Y3j hr.units) (Z0k cX hr rfl (Z0a (Z0m Z0s (pv 1) Z0b (λ_ _=>rfl)) (Z0a (pv 2) Z0e))) (Z0m Z0s (pv 0) Z0b (λ_ _=>rfl)) (nomark _))
    (@Z0f _ _ _ (Z0j (Z1q (Y3j hr.units) (Z0k cX hr rfl (Z0a (Z0m Z0s (pv 1) Z0b (λ_ _=>rfl)) (Z0a (pv 2) Z0e))) (Z0m Z0s (pv 0) Z0b (λ_ _=>rfl)) (nomark _))))
    Z0p)))
  (@Z0f _ _ _ (Z0j Z5l))),?_⟩
 try dsimp only[cxK]
 refine⟨8,Z,by decide,by decide,Z1y (n:=8) (λi σ H'=>Same H H'/\i<=k0/\∃ v:Option V,σ=[some (.ref lh),some (.ref lt),v]) ⟨Same.refl _,q1e _,none,Z⟩ ?_ ?_⟩
 ·rintro i σ H2 hi ⟨S2,ik,v,rfl⟩
  have z0':(0:Int)+(i:Int)=(i:Int):=q2x _
  refine⟨_,Z,lt,_,_,.ref t0,Z,Z,SqL.of (S2 _ _ et),L2.Z1e (j:=0) rfl,_,Z,t0,b0,f0,c,n',m',i,by rw[z0'];rfl,T0.same S2,c6,by omega,λr H3 qs S3 B3=>?_⟩
  have S23:=S2.trans S3
  refine⟨_,Z,lh,_,_,.ref h0,Z,Z,SqL.of (S23 _ _ eh),L2.Z1e (j:=0) rfl,r,h0,qs,a0,_,_,Z,Z,B3.lst,S23 _ _ H0.lst,Y2y B3,Y2y (H0.same S23),_,Z,decI (λeq=>?_) (λne=>?_)⟩
  ·have eq':=rows_eq.mp eq
   have ii:i=k0:=by
    apply Classical.byContradiction
    intro ne
    obtain⟨w0,hw0,n0⟩:=nz
    have q:=(eq' w0 hw0).trans (e0 w0 hw0)
    have z:=X4g (x:=f0 w0) (k:=i) (k0:=k0) (by omega) k8 q
    refine n0 ?_
    have am:=(af w0 hw0).odd
    rw[z] at am
    have g:(f0 w0).2=0:=by
     rcases am with q | q | q | q | q
     ·exact q
     all_goals exact absurd q (by decide)
    exact Prod.ext z g
   subst ii
   refine⟨_,Z,lt,_,_,.ref t1,Z,Z,SqL.of (S23 _ _ et),L2.Z1e (j:=1) rfl,_,Z,t1,b1,f1,c,n',m',i,by rw[z0'];rfl,T1.same S23,c6,by omega,λr' H4 qs' S4 B4=>?_⟩
   have S24:=S23.trans S4
   refine⟨_,Z,lh,_,_,.ref h1,Z,Z,SqL.of (S24 _ _ eh),L2.Z1e (j:=1) rfl,r',h1,qs',a1,_,_,Z,Z,B4.lst,S24 _ _ H1'.lst,Y2y B4,Y2y (H1'.same S24),?_⟩
   show Q (.bl (decide _)) H4
   rw[q0j (rows_eq.mpr λw hw=>(e1 w hw).symm)]
   exact kq _ S24
  ·refine⟨S23,?_,_,Z⟩
   apply Nat.lt_of_le_of_ne ik
   intro q
   exact ne (rows_eq.mpr λw hw=>by rw[q];exact(e0 w hw).symm)
 ·rintro σ H2 ⟨S2,ik,v,rfl⟩
  omega
theorem sc_first:FnScope ["_law_row","_law_other_here","_law_cells","_law_here","_law_there","_law_k"] ["_law_row","_law_other_here","_law_cells"] (Z0h (top 91)):=fS
theorem X0y (F:FunAt K "_law_first" (top 91) .none)(X:K.In h)(G:Ng h mg)(B:Bs mg)(cI:Cal P w K mg base k "images" ["row","cells"] (spImg K))(dO:Cal P w K mg base k "_law_basic" ["_law_k"] Y6c):Cal P w K mg base (k+1) "_law_first" ["_law_row","_law_other_here","_law_cells"] (Y5y K):=by
 have nd:=sc_first.nd
 refine F.cal X G sc_first (bnd3 λ_ _ _ _ _ _ _ _ _=>rfl) (λvs H Q E h=>?_) (λf cdv A outer s H vs Q E hr h=>?_)
 ·obtain⟨lr,lo,row,oth,c,rfl,_⟩:=h;rfl
 obtain⟨lr,lo,row,oth,c,rfl,R,O,c6,vo,br,l2,vo',br',l2',kq⟩:=h
 refine⟨_,(@Z0g _ _ _ _ _ (@Z0o _ _ 3 _ _ _ _ nd rfl (Or.inl rfl) (Z0k cI hr rfl (Z0a (pv 0) (Z0a (pv 2) Z0e))) rfl (.inl rfl))
  (@Z0g _ _ _ _ _ (@Z0o _ _ 4 _ _ _ _ nd rfl (Or.inl rfl) (Z0k cI hr rfl (Z0a (pv 1) (Z0a (pv 2) Z0e))) rfl (.inl rfl))
  (@Z0g _ _ _ _ _ (Z2r PassesOwn.never rfl (Z1k rfl B.range (Z0a (Z0i Z2d Z0b (pv 2)) Z0e)) (Z0w (i:=5) nd rfl (Or.inl rfl))
   (@Z0f _ _ _ (Z0y (Z0n (Y1m hr.units) (Z0m Z0s (pv 3) (pv 5) (λ_ _=>rfl)) (Z0m Z0s (pv 4) (pv 5) (λ_ _=>rfl)) (nomark _))
    (@Z0f _ _ _ (Z0j (Z0k dO hr rfl (Z0a (pv 5) Z0e))))
    Z0p)))
  (@Z0f _ _ _ (Z0j Z3a))))),?_⟩
 try dsimp only[cxK]
 refine⟨_,Z,_,Z,lr,row,c,Z,R,c6,vo,br,l2,λl1 H1 ps1 fr1 S1 M1=>?_⟩
 refine⟨_,Z,_,Z,lo,oth,c,Z,O.same S1,c6,vo',br',l2',λl3 H3 ps3 fr3 S3 M3=>?_⟩
 have S13:=S1.trans S3
 have lp1:ps1.length=2*c:=(Z2w M1.2).trans (Z4r c row)
 have lp3:ps3.length=2*c:=(Z2w M3.2).trans (Z4r c oth)
 have hn:((2:Int)*(c:Int)).toNat=2*c:=by omega
 refine⟨_,Z,_,_,Z,Z,.inl ⟨by decide,by decide⟩,_,Z,by omega,by omega,?_⟩
 rw[hn]
 refine Z1y (n:=2*c) (λi σ H'=>H'=H3/\(ims c row).take i=(ims c oth).take i/\∃ v:Option V,σ=[some (.ref lr),some (.ref lo),some (.int c),some (.ref l1),some (.ref l3),v]) ⟨Z,Z,none,Z⟩ ?_ ?_
 ·rintro i σ H4 hi ⟨rfl,tk,v,rfl⟩
  have h1:i<ps1.length:=by omega
  have h3:i<ps3.length:=by omega
  have g1:=Y9h (ps:=ps1) (j:=0+(i:Int)) h1 (by omega)
  have g3:=Y9h (ps:=ps3) (j:=0+(i:Int)) h3 (by omega)
  obtain⟨m1,y1,z1⟩:=Z4c M1.2 (q0d h1)
  obtain⟨m3,y3,z3⟩:=Z4c M3.2 (q0d h3)
  have z1:=S3.tup z1
  have pk:(pmk c)[i]?=some (pl i):=by rw[Z2m hi];rfl
  refine⟨_,Z,_,Z,l1,_,_,.ref ps1[i],Z,Z,SqL.of (S3 _ _ M1.1),g1,_,Z,_,Z,l3,_,_,.ref ps3[i],Z,Z,SqL.of M3.1,g3,ps1[i],ps3[i],[(m1.1:Int),(m1.2.1:Int),(m1.2.2:Int)],[(m3.1:Int),(m3.2.1:Int),(m3.2.2:Int)],Z,Z,z1,z3,_,Z,nblI (λne=>?_) (λeq=>?_)⟩
  ·have dn:m1≠m3:=λz=>q5b ne (by rw[z])
   refine⟨_,Z,i,by rw[q2x];rfl,by omega,λt H5 S5 ht=>kq _ H5 (S13.trans S5) ?_⟩
   rw[Y8t tk y1 y3 pk dn]
   exact⟨t,Z,SqT.of ht⟩
  ·have em:=Y7q (q1p eq)
   refine⟨Z,?_,_,Z⟩
   rw[q1y,q1y,tk,y1,y3,em]
 ·rintro σ H4 ⟨rfl,tk,v,rfl⟩
  rw[q1d (by rw[Z4r];exact q0f _),q1d (by rw[Z4r];exact q0f _)] at tk
  have:=kq .non H4 S13
  rw[tk] at this
  exact this (by rw[Z6n];rfl)
end
end K55S
namespace L2
def rNeOpt (K:U0):R2:=λx y H Q=>rNe x y H Q∨rEqTI K true x y H Q
theorem X0m {X:Cx}(hu:X.A.units+64<cLine):OpR X (compareOp .NotEq) (rNeOpt X.K):=by
 intro pins s σ H x y v u Q I rx ry h
 rcases h with h | h
 ·exact Z5a pins s σ H x y v u Q I rx ry h
 ·exact Y1m hu pins s σ H x y v u Q I rx ry h
end L2
namespace K55S
open L2 Ba Am Pc M71
open K75 (top Bs Bd5 At5 ValsK Ams Steps Step Gm Mix MixAt spRunK Nz Z3x Z3n Z3c)
open M72 (VOk V4 sm En rowop)
open M75 (Mk mvd mvds Br bn bp ev)
open M77 (pmk Z1g Z2m bk)
open M79 (cm pl bwd)
open M81 (gk)
noncomputable abbrev Zz:A5:=((0,0,0,0),0)
theorem X0f (k:Nat):rot k (0,0,0,0)=(0,0,0,0):=by rw[Y1f];exact M85.En_z k
theorem Y5s (k:Int):spin Zz k=Zz:=by unfold spin;rw[X0f]
theorem Y9j:Amt 0 0 0 0 0:=⟨q8e 0,.inl rfl⟩
theorem Y3q (s:Int):Mix s Zz Zz Zz:=by
 refine⟨Zz,⟨Y9j,⟨?_,?_,?_,?_⟩,by decide⟩,Y9j,⟨?_,?_,?_,?_⟩⟩<;>(unfold Eq2;simp)
theorem Y5q (c:Nat)(m:Gm):Step c m (λ_=>Zz) (λ_=>Zz):=by
 cases m with
 | mv v=>exact λw _=>(Y5s _).symm
 | mix a =>
  intro w _
  unfold MixAt
  split
  ·exact Y3q 1
  ·exact Y3q (-1)
theorem Y2m {c:Nat}(hc:c<=6):∀ {ms:List Gm}{f g:Nat->A5},(∀ m∈ms,m.Ok c)->Ams c f->Steps c ms f g->(∀ w,w<2^c->g w=Zz)->∀ w,w<2^c->f w=Zz
 | [],_,_,_,_,.nil,z=>z
 | m::ms,f,h,ok,af,.cons (g:=g) s r,z=>by
  have okm:=ok m (.head _)
  have ih:=Y2m hc (λx hx=>ok x (.tail _ hx)) (s.ams hc okm af) r z
  intro w hw
  exact(K75.Y5r hc okm af s (k:=λ_=>Zz) (h:=λ_=>Zz) (λw hw=>(ih w hw).symm) (Y5q c m.back) w hw).symm
theorem X7v {c:Nat}(hc:c<=6){row:List Mv}{f g:Nat->A5}(vo:∀ x∈row,VOk c x)(af:Ams c f)(s:Steps c (row.map gm) f g)(nz:Nz c f):Nz c g:=by
 apply Classical.byContradiction
 intro no
 obtain⟨w,hw,nw⟩:=nz
 exact nw (Y2m hc (λx hx=>by obtain⟨y,hy,rfl⟩:=q2e.mp hx;exact Y8m (vo y hy)) af s (λw hw=>Classical.byContradiction λq=>no ⟨w,hw,q⟩) w hw)
theorem Y4c:∀ {as bs ms:List Mk},dif as bs ms=none->as.length=ms.length->bs.length=ms.length->as=bs
 | [],[],_,_,_,_=>rfl
 | a::as,b::bs,m::ms,h,l1,l2=>by
  have h:(if a=b then dif as bs ms else some m)=none:=h
  by_cases e:a=b
  ·rw[if_pos e] at h
   rw[e,Y4c h (by simpa using l1) (by simpa using l2)]
  ·rw[if_neg e] at h
   cases h
 | [],_::_,[],_,_,l2=>by simp at l2
 | [],_::_,_::_,_,l1,_=>by simp at l1
 | _::_,[],[],_,l1,_=>by simp at l1
 | _::_,[],_::_,_,_,l2=>by simp at l2
 | _::_,_::_,[],_,l1,_=>by simp at l1
theorem ims_eq {c:Nat}{row oth:List Mv}:ims c row=ims c oth ↔ ∀ k,k<2*c->mvds row (pl k)=mvds oth (pl k):=by
 constructor
 ·intro e k hk
  rw[<-Y8i hk,<-Y8i hk,e]
 ·intro h
  refine q4v λm hm=>?_
  obtain⟨k,hk,rfl⟩:=M81.Y8n hm
  rw[Z1g] at hk
  rw[M81.Y3y hk]
  exact h k hk
noncomputable def bF (c:Nat)(f:Nat->A5):M72.Bv:=λw=>if w<2^c then sm (2^(40-(f w).2.toNat)) (f w).1 else M84.z0
theorem W0u (c:Nat)(f:Nat->A5):M85.Out c (bF c f):=λw hw=>if_neg (by omega)
theorem W0t {c:Nat}{f:Nat->A5}(o:∀ w,w<2^c->Ok5 100 40 (f w)):∀ w,w<2^c->Vl 40 (bF c f w) (f w):=λw hw=>by
 unfold bF
 rw[if_pos hw]
 exact Vl.of (o w hw).amt.nn (o w hw).le
theorem X0n {c:Nat}(hc:c<=6){row oth:List Mv}(v1:∀ x∈row,VOk c x)(v2:∀ x∈oth,VOk c x)(b1:∀ x∈row,Br x)(b2:∀ x∈oth,Br x)(e:ims c row=ims c oth):∃ k0,k0<8/\∀ (f g h:Nat->A5),(∀ w,w<2^c->Ok5 100 40 (f w))->Steps c (row.map gm) f g->Steps c (oth.map gm) f h->∀ w,w<2^c->g w=spk k0 h w:=by
 obtain⟨k0,k8,key⟩:=M86.Y6h v1 v2 b1 b2 M87.Z7u (ims_eq.mp e)
 refine⟨k0,k8,λf g h o s1 s2 w hw=>?_⟩
 have af:Ams c f:=λw hw=>(o w hw).amt
 obtain⟨l1,a1⟩:=Z8f hc v1 af (W0t o) s1
 obtain⟨l2,a2⟩:=Z8f hc v2 af (W0t o) s2
 have q1:=(l1 w hw).up oth.length
 have q2:Vl (40+oth.length) (En k0 (rowop oth (bF c f) w)) (rot k0 (h w).1,(h w).2):=Vl.rot (l2 w hw) k0
 have q2:=q2.up row.length
 rw[key _ (W0u c f) w,show 40+row.length+oth.length=40+oth.length+row.length by omega] at q1
 exact q1.same q2 (a1 w hw) (K75.Y2d (a2 w hw) k0)
theorem Z9a (ns:U6)(a b:Nat)(h:a<=b):∃ nl:List Int,cutV (ns.map V.int) (some (a:Int)) (some (b:Int))=nl.map V.int/\nl.length<=b-a:=by
 unfold cutV
 rw[HT.Z2t,HT.Z2t]
 refine⟨(ns.drop (min a (ns.map V.int).length)).take (min b (ns.map V.int).length-min a (ns.map V.int).length),by rw[q4j,q3x],?_⟩
 rw[q1q]
 omega
structure RowB (H:Hp) (l:W9) (row:List Mv) (c n:Nat):Prop where
 at_:RowAt H l row
 len:row.length<=n
 vo:∀ x∈row,VOk c x
 br:∀ x∈row,Br x
theorem RowB.same {H H':Hp}{l:W9}{row:List Mv}{c n:Nat}(r:RowB H l row c n)(s:Same H H'):RowB H' l row c n:=⟨r.at_.same s,r.len,r.vo,r.br⟩
structure Two75 (K:U0) (H:Hp) (l:W9) (b0 b1:W9) (p0 p1:U3) (f0 f1:Nat->A5) (c:Nat):Prop where
 lst:H l=some (.lst [.ref b0,.ref b1])
 d0:Bd5 K H b0 p0 f0 c 100 40
 d1:Bd5 K H b1 p1 f1 c 100 40
 nz:Nz c f0
theorem Two75.same {K:U0}{H H':Hp}{l b0 b1:W9}{p0 p1:U3}{f0 f1:Nat->A5}{c:Nat}(t:Two75 K H l b0 b1 p0 p1 f0 f1 c)(s:Same H H'):Two75 K H' l b0 b1 p0 p1 f0 f1 c:=⟨s _ _ t.lst,t.d0.same s,t.d1.same s,t.nz⟩
end K55S
namespace K55S
open L2 Ba Am Pc M71
open K75 (top Bs Bd5 At5 ValsK Ams Steps spRunK Nz Z3x Z3n)
open M72 (VOk V4 sm En rowop)
open M75 (Mk mvd mvds Br)
open M77 (pmk Z1g Z2m bk)
open M79 (pl)
theorem most {c:Nat}(c1:1<=c)(c6:c<=6):∃ mo:Int,(mo=40∨mo=16∨mo=6)/\atI [V.int 40,V.int 40,V.int 40,V.int 16,V.int 6,V.int 6,V.int 6] (c:Int)=some (.int mo):=by
 have:c=1∨c=2∨c=3∨c=4∨c=5∨c=6:=by omega
 rcases this with rfl | rfl | rfl | rfl | rfl | rfl
 ·exact⟨40,.inl rfl,Z⟩
 ·exact⟨40,.inl rfl,Z⟩
 ·exact⟨16,.inr (.inl rfl),Z⟩
 ·exact⟨6,.inr (.inr rfl),Z⟩
 ·exact⟨6,.inr (.inr rfl),Z⟩
 ·exact⟨6,.inr (.inr rfl),Z⟩
theorem X8d {K:U0}{H:Hp}{v u:V}{o:Option Mk}{Q:V->Hp->Prop}(h1:OptAt K H v o)(h2:OptAt K H u o)(q:Q (.bl false) H):rNeOpt K v u H Q:=by
 cases o with
 | none =>
  cases (show v=.non from h1)
  cases (show u=.non from h2)
  exact .inl ⟨Z,by rw[q0j rfl];exact q⟩
 | some m =>
  obtain⟨p,rfl,e1⟩:=h1
  obtain⟨r,rfl,e2⟩:=h2
  refine .inr ⟨p,r,[(m.1:Int),(m.2.1:Int),(m.2.2:Int)],[(m.1:Int),(m.2.1:Int),(m.2.2:Int)],Z,Z,e1,e2,?_⟩
  show Q (.bl (!decide _)) H
  rw[q0j rfl]
  exact q
theorem OptAt.same {K:U0}{H H':Hp}{v:V}{o:Option Mk}(h:OptAt K H v o)(s:Same H H'):OptAt K H' v o:=by
 cases o with
 | none=>exact h
 | some m =>
  obtain⟨p,e,q⟩:=h
  exact⟨p,e,s.tup q⟩
theorem X3a {K:U0}{lb b0 b1 acc:W9}{p0 p1:U3}{f0 f1:Nat->A5}{c n m:Nat}{ms:List K75.Gm}{te:TE}{fr:L2.St}{H1:Hp}{Q:VK}(T:Two75 K H1 lb b0 b1 p0 p1 f0 f1 c)(hacc:H1 acc=none)
  (hs:∀ b ps f H (N:V->Hp->Prop),Same H1 H->Bd5 K H b ps f c 100 40->(∀ r H' qs g,H r=none->Same H H'->Bd5 K H' r qs g c n m->Steps c ms f g->N (.ref r) H')->te (some (.ref b)::fr) H N)
  (hd:∀ r0 r1 q0 q1 g0 g1 H',Same H1 H'->H' acc=some (.lst [.ref r0,.ref r1])->Bd5 K H' r0 q0 g0 c n m->Bd5 K H' r1 q1 g1 c n m->Steps c ms f0 g0->Steps c ms f1 g1->Q (.ref acc) H') :
  LcW (Itl K lb) (gName 0) te (none::fr) H1 acc Q:=by
 have up:∀ {H:Hp}{r:W9}{qs:U3}{g:Nat->A5}{xs ys:List V},Bd5 K H r qs g c n m->r≠acc->H acc=some (.lst xs)->Bd5 K (upd H acc (.lst ys)) r qs g c n m:=λb ne e=>⟨by rw[Z1d ne];exact b.lst,b.len,(λi q hq=>(b.vals i q hq).upd e),b.ok⟩
 have nacc:∀ {H:Hp}{xs:List V}{r:W9},H acc=some (.lst xs)->H r=none->r≠acc:=λe z q=>by rw[q,e] at z;cases z
 refine Z5m (K:=K) (a:=lb) (xs:=[.ref b0,.ref b1]) (fr:=fr) (λi ys H'=>Same H1 H'/\H' acc=some (.lst ys)/\(1<=i->∃ r0 q0 g0,ys[0]?=some (.ref r0)/\r0≠acc/\Bd5 K H' r0 q0 g0 c n m/\Steps c ms f0 g0)/\(2<=i->∃ r1 q1 g1,ys[1]?=some (.ref r1)/\Bd5 K H' r1 q1 g1 c n m/\Steps c ms f1 g1)) (show 2<=sizeLine by decide) ⟨Z0c hacc _,Z0d,(λz=>absurd z (by omega)),(λz=>absurd z (by omega))⟩ (λi ys H' e=>e.1.seq (SqL.of T.lst)) ?_ ?_
 ·rintro i x ys H2 N hx hy ⟨S2,a2,i0,i1⟩ kN
  match i,hx with
  | 0,hx =>
   cases (show V.ref b0=x from Option.some.inj hx)
   match ys,hy with
   | [],_ =>
    refine hs b0 p0 f0 H2 N S2 (T.d0.same S2) λr H3 qs g rn S3 B3 st=>?_
    have a3:=S3 _ _ a2
    have nr:=nacc a2 rn
    exact kN _ _ a3 ⟨Z0v (S2.trans S3) hacc,Z0d,λ_=>⟨r,qs,g,Z,nr,up B3 nr a3,st⟩,λz=>absurd z (by omega)⟩
  | 1,hx =>
   cases (show V.ref b1=x from Option.some.inj hx)
   obtain⟨r0,q0,g0,e0,n0,B0,st0⟩:=i0 (by omega)
   match ys,hy,e0 with
   | [y0],_,e0 =>
    cases (show y0=.ref r0 from Option.some.inj e0)
    refine hs b1 p1 f1 H2 N S2 (T.d1.same S2) λr H3 qs g rn S3 B3 st=>?_
    have a3:=S3 _ _ a2
    have nr:=nacc a2 rn
    exact kN _ _ a3 ⟨Z0v (S2.trans S3) hacc,Z0d,λ_=>⟨r0,q0,g0,Z,n0,up (B0.same S3) n0 a3,st0⟩,λ_=>⟨r,qs,g,Z,up B3 nr a3,st⟩⟩
  | i+2,hx=>exact absurd hx (by intro z;cases z)
 ·rintro ys H2 hy ⟨S2,a2,i0,i1⟩
  obtain⟨r0,q0,g0,e0,n0,B0,st0⟩:=i0 (show 1<=2 by decide)
  obtain⟨r1,q1,g1,e1,B1,st1⟩:=i1 (show 2<=2 by decide)
  match ys,hy,e0,e1 with
  | [y0,y1],_,e0,e1 =>
   cases (show y0=.ref r0 from Option.some.inj e0)
   cases (show y1=.ref r1 from Option.some.inj e1)
   exact hd r0 r1 q0 q1 g0 g1 H2 S2 a2 B0 B1 st0 st1
section
variable {P:U8}{w:W1}{K:U0}{mg:U4}{base:Heap}{k:Nat}{h:Heap}
theorem sc_law:FnScope ["_law_script","_law_head","_law_cells","_law_drawn","_law_row","_law_way","_law_boards","_law_by_digits","_law_other_here","_law_kept","_law_found"] ["_law_script"] (Z0h (top 92)):=fS
theorem X8q {n:Nat}(hn:n<=63){f:W9}{fd:FuncData}(F:Fun K "law" "law" (top 92) f fd)(B:Bs mg)(c9:Cal P w K mg base k "_law_cell_at" ["_law_script","_law_k"] (spCell K))(cR:Cal P w K mg base k "_law_move" ["_law_cell","_law_cells"] spMove)(cJ:Cal P w K mg base k "_law_board" ["_law_script","_law_cells","_law_far"] (Z3x K))(cV:Cal P w K mg base k "_law_row_by" ["_law_script","_law_at","_law_cells","_law_most"] (Y5v K))
  (cQ:Cal P w K mg base k "_law_board_by" ["_law_script","_law_at","_law_cells"] (Z3n K)) (dR:Cal P w K mg base k "_law_other" ["_law_row","_law_cells","_law_way","_law_far"] (Y5w K)) (eO:Cal P w K mg base k "unlike" ["row","other","cells"] (Y2o K)) (dP:Cal P w K mg base k "_law_first" ["_law_row","_law_other_here","_law_cells"] (Y5y K))
  (cO:Cal P w K mg base k "_law_whole" ["_law_found"] Z5i) (eP:Cal P w K mg base k "run" ["board","row"] (spRunK K)) (dQ:Cal P w K mg base k "_law_one_k" ["_law_here","_law_there"] (spOneK K)) :
  FnOk P w K mg base CX0 (k+1) f fd ["_law_script"] (spLaw K n):=by
 have nd:=sc_law.nd
 refine F.ok sc_law (λvs H Q E h=>?_) (λcdv A outer s H vs Q E hr h=>?_)
 ·obtain⟨a,ns,rfl,_⟩:=h;rfl
 obtain⟨sa,nl,rfl,hS,h63,lt,kk⟩:=h
 have sl:(1000:Nat)<sizeLine:=by decide
 refine⟨_,(@Z0r _ _ _ _ _ (@Z0o _ _ 1 _ _ _ _ nd rfl (Or.inl rfl) (Z0k c9 hr rfl (Z0a (pv 0) (Z0a Z0b Z0e))) rfl (.inl rfl))
  (@Z0g _ _ _ _ _ (@Z0o _ _ 2 _ _ _ _ nd rfl (Or.inr rfl) (Z0i Z1b Z0b (Z0i Z0z (pv 1) Z0b)) rfl (.inl rfl))
  (@Z0r _ _ _ _ _ (@Z0o _ _ 3 _ _ _ _ nd rfl (Or.inl rfl) (Z1l Z3p (pv 0) (Z1f Z0b) (Z1f Z0b)) rfl (.inl rfl))
  (@Z0r _ _ _ _ _ (Z0y (Z0n Z1o (pv 2) Z0b (nomark _))
   (@Z0f _ _ _ (@Z0o _ _ 3 _ _ _ _ nd rfl (Or.inl rfl) (Z1l Z3p (pv 0) (Z1f Z0b) (Z1f Z0b)) rfl (.inl rfl)))
   Z0p)
  (@Z0r _ _ _ _ _ (Z0y (Z0n Z1o (Z0i Z0z (Z0i Z1w (pv 1) Z0b) Z0b) Z0b (nomark _))
   (@Z0g _ _ _ _ _ (@Z0o _ _ 2 _ _ _ _ nd rfl (Or.inr rfl) (Z0i Z1b Z0b (Z0i Z0z (pv 1) Z0b)) rfl (.inl rfl))
   (@Z0f _ _ _ (@Z0o _ _ 3 _ _ _ _ nd rfl (Or.inl rfl) (Z1l Z3p (pv 0) (Z1f Z0b) (Z1f Z0b)) rfl (.inl rfl))))
   Z0p)
  (@Z0r _ _ _ _ _ (@Z0o _ _ 4 _ _ _ _ nd rfl (Or.inr rfl) (Z4l rfl (LcOk.of (Nc:=["_law_cell","_law_cells"]) (mp:=[none,some 2]) (by kernel_rfl)) (Z2x (pv 3)) (λ_ _ _ _=>(Z0w (i:=0) (show (["_law_cell","_law_cells"]:W0).Nodup by decide +kernel) rfl (Or.inl rfl))) (λ_ _ _ _=>(Z0k cR hr rfl (Z0a (pv 0) (Z0a (pv 1) Z0e))))) rfl (.inl rfl))
  (@Z0r _ _ _ _ _ (@Z0o _ _ 5 _ _ _ _ nd rfl (Or.inl rfl) (Z0i Z0z (Z0i Z1w (pv 1) Z0b) Z0b) rfl (.inl rfl))
  (@Z0r _ _ _ _ _ (@Z0o _ _ 6 _ _ _ _ nd rfl (Or.inl rfl) (@Z1s _ _ _ _ (Z0a (Z0k cJ hr rfl (Z0a (pv 0) (Z0a (pv 2) (Z0a Z0b Z0e)))) (Z0a (Z0k cJ hr rfl (Z0a (pv 0) (Z0a (pv 2) (Z0a Z0b Z0e)))) Z0e))) rfl (.inl rfl))
  (@Z0r _ _ _ _ _ (@Z0o _ _ 7 _ _ _ _ nd rfl (Or.inl rfl) (Z1q Z1o (Z0i Z0z (Z0i Z1w (pv 1) Z0b) Z0b) Z0b (nomark _)) rfl (.inl rfl))
  (@Z0r _ _ _ _ _ (Z0y (Z2b (pv 7))
   (@Z0r _ _ _ _ _ (@Z0o _ _ 4 _ _ _ _ nd rfl (Or.inr rfl) (Z0k cV hr rfl (Z0a (pv 0) (Z0a Z0b (Z0a (pv 2) (Z0a (@Z0m _ _ _ _ _ _ _ Z0s (@Z1s _ _ _ _ (@Z0a _ _ _ _ _ Z0b (@Z0a _ _ _ _ _ Z0b (@Z0a _ _ _ _ _ Z0b (@Z0a _ _ _ _ _ Z0b (@Z0a _ _ _ _ _ Z0b (@Z0a _ _ _ _ _ Z0b (@Z0a _ _ _ _ _ Z0b Z0e rfl) rfl) rfl) rfl) rfl) rfl) rfl)) (pv 2) (λ_ _=>rfl)) Z0e))))) rfl (.inl rfl))
   (@Z0f _ _ _ (@Z0o _ _ 6 _ _ _ _ nd rfl (Or.inl rfl) (@Z1s _ _ _ _ (Z0a (Z0k cQ hr rfl (Z0a (pv 0) (Z0a Z0b (Z0a (pv 2) Z0e)))) (Z0a (Z0k cQ hr rfl (Z0a (pv 0) (Z0a Z0b (Z0a (pv 2) Z0e)))) Z0e))) rfl (.inl rfl))))
   Z0p)
  (@Z0r _ _ _ _ _ (@Z0o _ _ 8 _ _ _ _ nd rfl (Or.inr rfl) (Z0k dR hr rfl (Z0a (pv 4) (Z0a (pv 2) (Z0a (pv 5) (Z0a (Z0i Z0z (Z0k c9 hr rfl (Z0a (pv 0) (Z0a Z0b Z0e))) (Z0i Y0e Z0b Z0b)) Z0e))))) rfl (.inl rfl))
  (@Z0r _ _ _ _ _ (Z0y (PW.pt (Z5w (Z2b (pv 7)) (Z4a (Z0n Y4u (pv 5) Z0b (nomark _)))))
   (@Z0f _ _ _ (@Z0o _ _ 8 _ _ _ _ nd rfl (Or.inr rfl) (Z0k cV hr rfl (Z0a (pv 0) (Z0a Z0b (Z0a (pv 2) (Z0a (@Z0m _ _ _ _ _ _ _ Z0s (@Z1s _ _ _ _ (@Z0a _ _ _ _ _ Z0b (@Z0a _ _ _ _ _ Z0b (@Z0a _ _ _ _ _ Z0b (@Z0a _ _ _ _ _ Z0b (@Z0a _ _ _ _ _ Z0b (@Z0a _ _ _ _ _ Z0b (@Z0a _ _ _ _ _ Z0b Z0e rfl) rfl) rfl) rfl) rfl) rfl) rfl)) (pv 2) (λ_ _=>rfl)) Z0e))))) rfl (.inl rfl)))
   Z0p)
  (@Z0r _ _ _ _ _ (@Z0o _ _ 9 _ _ _ _ nd rfl (Or.inl rfl) (@Z1s _ _ _ _ (Z0a (Z4d Z3b rfl B.list q8h (Z0a (pv 4) Z0e)) (Z0a (Z4d Z3b rfl B.list q8h (Z0a (pv 8) Z0e)) Z0e))) rfl (.inl rfl))
  (@Z0r _ _ _ _ _ (@Z0o _ _ 10 _ _ _ _ nd rfl (Or.inl rfl) (Z0k eO hr rfl (Z0a (pv 4) (Z0a (pv 8) (Z0a (pv 2) Z0e)))) rfl (.inl rfl))
  (@Z0g _ _ _ _ _ (Z0y (PW.pt (Z7l (Z0n (Y6x hr.units) (pv 4) (Z0m Z0s (pv 9) Z0b (λ_ _=>rfl)) (nomark _)) (Z7l (Z0n (Y6x hr.units) (pv 8) (Z0m Z0s (pv 9) Z0b (λ_ _=>rfl)) (nomark _)) (Z5v (Z0n (X0m hr.units) (pv 10) (Z0k dP hr rfl (Z0a (pv 4) (Z0a (pv 8) (Z0a (pv 2) Z0e)))) (nomark _))))))
   (@Z0f _ _ _ (Z0j Z5l))
   Z0p)
  (@Z0g _ _ _ _ _ (Z0y (Z0n Z8s (pv 10) Z3a (nomark _))
   (@Z0g _ _ _ _ _ (Z0y (PW.pt (Z7l (Z0n Y4t (pv 5) Z0b (nomark _)) (Z5v (Z2v (Z2b (Z0q K75.Z3c rfl B.isinstance q2v (Z0a (pv 10) (Z0a (Z3s (v:=.ty "tuple") rfl B.tuple boot_tuple rfl) Z0e))))))))
    (@Z0f _ _ _ (Z0j Z5l))
    Z0p)
   (@Z0f _ _ _ (Z0j (Z3v (Z0k cO hr rfl (Z0a (Z0m Z0l (pv 10) Z0b (λ_ _=>rfl)) Z0e)) (Z3v (Z0k cO hr rfl (Z0a (Z0m Z0l (pv 10) Z0b (λ_ _=>rfl)) Z0e)) (Z2z (Z0k cO hr rfl (Z0a (Z0m Z0l (pv 10) Z0b (λ_ _=>rfl)) Z0e))))))))
   Z0p)
  (@Z0f _ _ _ (Z0j (Z0k dQ hr rfl (Z0a (Z4l rfl (LcOk.of (Nc:=["_law_board_here","_law_row"]) (mp:=[none,some 4]) (by kernel_rfl)) (Z2x (pv 6)) (λ_ _ _ _=>(Z0w (i:=0) (show (["_law_board_here","_law_row"]:W0).Nodup by decide +kernel) rfl (Or.inl rfl))) (λ_ _ _ _=>(Z0k eP hr rfl (Z0a (pv 0) (Z0a (pv 1) Z0e))))) (Z0a (Z4l rfl (LcOk.of (Nc:=["_law_board_here","_law_other_here"]) (mp:=[none,some 8]) (by kernel_rfl)) (Z2x (pv 6)) (λ_ _ _ _=>(Z0w (i:=0) (show (["_law_board_here","_law_other_here"]:W0).Nodup by decide +kernel) rfl (Or.inl rfl))) (λ_ _ _ _=>(Z0k eP hr rfl (Z0a (pv 0) (Z0a (pv 1) Z0e))))) Z0e))))))))))))))))))))),?_⟩
 try dsimp only[cxK]
 refine⟨λσ H'=>H=H'/\∃ hd:Int,σ=[some (.ref sa),some (.int hd),none,none,none,none,none,none,none,none,none],⟨_,Z,sa,nl,0,Z,hS,q8e 0,Z,_,Z⟩,?_⟩
 rintro σ _ ⟨rfl,hd,rfl⟩
 have e0:=q1i hd (show (3:Int)≠0 by decide)
 have e1:=q1f hd (show (0:Int)<3 by decide)
 obtain⟨c0,ec⟩:∃ c0:Nat,1+hd%3=(c0:Int):=⟨(1+hd%3).toNat,by omega⟩
 have c01:1<=c0/\c0<=3:=by omega
 refine⟨_,Z,_,_,Z,Z,(by decide:(0:Int)<3),_,_,Z,Z,?_⟩
 refine⟨λσ H'=>Same H H'/\∃ (ld:W9) (dl:U6),H' ld=some (.lst (dl.map V.int))/\dl.length<=40/\σ=[some (.ref sa),some (.int hd),some (.int c0),some (.ref ld),none,none,none,none,none,none,none],?_,?_⟩
 ·refine⟨_,Z,3,Z,43,Z,sa,_,Z,hS,λl hl=>?_⟩
  obtain⟨dl,ed,ll⟩:=Z9a nl 3 43 (by decide)
  have ed:cutV (nl.map V.int) (some 3) (some 43)=dl.map V.int:=ed
  rw[ed]
  exact⟨Z0c hl _,l,dl,Z0d,ll,by rw[<-ec];rfl⟩
 rintro σ H1 ⟨S1,ld1,dl1,q1,l1,rfl⟩
 refine⟨λσ H'=>Same H H'/\∃ (ld:W9) (dl:U6),H' ld=some (.lst (dl.map V.int))/\dl.length<=40/\σ=[some (.ref sa),some (.int hd),some (.int c0),some (.ref ld),none,none,none,none,none,none,none],?_,?_⟩
 ·refine⟨_,Z,Z,_,Z,eqI (λ_=>?_) (λ_=>⟨S1,ld1,dl1,q1,l1,Z⟩)⟩
  refine⟨_,Z,3,Z,19,Z,sa,_,Z,S1.seq hS,λl hl=>?_⟩
  obtain⟨dl,ed,ll⟩:=Z9a nl 3 19 (by decide)
  have ed:cutV (nl.map V.int) (some 3) (some 19)=dl.map V.int:=ed
  rw[ed]
  exact⟨S1.trans (Z0c hl _),l,dl,Z0d,by omega,Z⟩
 clear q1 l1 S1
 rintro σ H1 ⟨S1,ld1,dl1,q1,l1,rfl⟩
 refine⟨λσ H'=>Same H H'/\∃ (ld:W9) (dl:U6) (c:Nat),1<=c/\c<=6/\H' ld=some (.lst (dl.map V.int))/\dl.length<=40/\σ=[some (.ref sa),some (.int hd),some (.int c),some (.ref ld),none,none,none,none,none,none,none],?_,?_⟩
 ·refine⟨_,Z,_,_,Z,Z,⟨by decide,by decide⟩,_,_,Z,Z,(by decide:(0:Int)<8),Z,_,Z,eqI (λ_=>?_) (λ_=>⟨S1,ld1,dl1,c0,by omega,by omega,q1,l1,Z⟩)⟩
  refine⟨_,Z,_,_,Z,Z,(by decide:(0:Int)<3),_,_,Z,Z,?_⟩
  refine⟨_,Z,3,Z,9,Z,sa,_,Z,S1.seq hS,λl hl=>?_⟩
  obtain⟨dl,ed,ll⟩:=Z9a nl 3 9 (by decide)
  have ed:cutV (nl.map V.int) (some 3) (some 9)=dl.map V.int:=ed
  rw[ed]
  refine⟨S1.trans (Z0c hl _),l,dl,(4+hd%3).toNat,by omega,by omega,Z0d,by omega,?_⟩
  rw[show (((4+hd%3).toNat:Nat):Int)=4+hd%3 by omega]
  rfl
 clear q1 l1 S1 ec c01
 rintro σ H1 ⟨S1,ld,dl,c,c1,c6,q1,l1,rfl⟩
 have p6:=pow6 c6
 refine⟨λσ H'=>Same H H'/\∃ (lr:W9) (row:List Mv),RowB H' lr row c 40/\σ=[some (.ref sa),some (.int hd),some (.int c),some (.ref ld),some (.ref lr),none,none,none,none,none,none],?_,?_⟩
 ·refine⟨_,Z,ld,Z,⟨_,SqL.of q1⟩,λacc hacc=>?_⟩
  refine Z5m (K:=K) (a:=ld) (xs:=dl.map V.int) (fr:=[some (.int c)]) (λi ys H'=>Same H1 H'/\H' acc=some (.lst ys)/\∃ (qs:U3) (mo:List Mv),ys=qs.map V.ref/\RowsM H' qs (mo.map mm)/\mo.length=i/\(∀ x∈mo,VOk c x)/\∀ x∈mo,Br x) (by rw[q0a];omega) ⟨Z0c hacc _,Z0d,[],[],Z,.nil,Z,(λx hx=>nomatch hx),λx hx=>nomatch hx⟩ (λi ys H' e=>e.1.seq (SqL.of q1)) ?_ ?_
  ·rintro i x ys H2 N hx hy ⟨S2,a2,qs,mo,rfl,M2,ml,O2,B2⟩ kN
   rw[q0k] at hx
   obtain⟨z,hz,rfl⟩:=q0x.mp hx
   refine⟨_,Z,_,Z,z,c,Z,c1,c6,λt H3 m S3 ht vm bm=>?_⟩
   have a3:=S3 _ _ a2
   refine kN _ _ a3 ⟨Z0v (S2.trans S3) hacc,Z0d,qs++[t],mo++[m],by rw[q0b];rfl,?_,by rw[q0c,ml];rfl,λx hx=>?_,λx hx=>?_⟩
   ·rw[q0b]
    exact Z8n (Z3r (M2.same S3) ht) a3
   ·rcases q0v.mp hx with q | q
    ·exact O2 x q
    ·rw[q0n.mp q];exact vm
   ·rcases q0v.mp hx with q | q
    ·exact B2 x q
    ·rw[q0n.mp q];exact bm
  ·rintro ys H2 hy ⟨S2,a2,qs,mo,rfl,M2,ml,O2,B2⟩
   rw[q0a] at ml
   exact⟨S1.trans S2,acc,mo,⟨⟨qs,a2,M2⟩,by omega,O2,B2⟩,Z⟩
 clear q1 l1 S1
 rintro σ H2 ⟨S2,lr2,row2,R2,rfl⟩
 refine⟨λσ H'=>H2=H'/\∃ wy:Int,0<=wy/\σ=[some (.ref sa),some (.int hd),some (.int c),some (.ref ld),some (.ref lr2),some (.int wy),none,none,none,none,none],⟨_,Z,_,_,Z,Z,⟨by decide,by decide⟩,_,_,Z,Z,(by decide:(0:Int)<8),Z,_,q1i _ (by decide),Z⟩,?_⟩
 rintro σ _ ⟨rfl,wy,wy0,rfl⟩
 refine⟨λσ H'=>Same H2 H'/\∃ (lb b0 b1:W9) (p0 p1:U3) (f0 f1:Nat->A5),Two75 K H' lb b0 b1 p0 p1 f0 f1 c/\σ=[some (.ref sa),some (.int hd),some (.int c),some (.ref ld),some (.ref lr2),some (.int wy),some (.ref lb),none,none,none,none],?_,?_⟩
 ·refine⟨_,Z,_,Z,sa,nl,c,0,Z,S2.seq hS,lt,c1,c6,by decide,by decide,λb0 H3 p0 f0 S3 n3 B3 z3=>?_⟩
  refine⟨_,Z,_,Z,sa,nl,c,100,Z,(S2.trans S3).seq hS,lt,c1,c6,by decide,by decide,λb1 H4 p1 f1 S4 n4 B4 z4=>⟨t2,λlb hlb=>?_⟩⟩
  have s5:=Z0c hlb (.lst [.ref b0,.ref b1])
  exact⟨(S3.trans S4).trans s5,lb,b0,b1,p0,p1,f0,f1,⟨Z0d,(B3.same S4).same s5,B4.same s5,z3⟩,Z⟩
 rintro σ H3 ⟨S23,lb3,b03,b13,p03,p13,f03,f13,T3,rfl⟩
 have S3:=S2.trans S23
 have R3:=R2.same S23
 refine⟨λσ H'=>H3=H'/\∃ bd:Bool,σ=[some (.ref sa),some (.int hd),some (.int c),some (.ref ld),some (.ref lr2),some (.int wy),some (.ref lb3),some (.bl bd),none,none,none],⟨_,Z,_,_,Z,Z,⟨by decide,by decide⟩,_,_,Z,Z,(by decide:(0:Int)<2),Z,Z,_,Z⟩,?_⟩
 rintro σ _ ⟨rfl,bd,rfl⟩
 obtain⟨mo,hmo,emo⟩:=most c1 c6
 refine⟨λσ H'=>Same H H'/\∃ (lr:W9) (row:List Mv) (lb b0 b1:W9) (p0 p1:U3) (f0 f1:Nat->A5),RowB H' lr row c 40/\Two75 K H' lb b0 b1 p0 p1 f0 f1 c/\σ=[some (.ref sa),some (.int hd),some (.int c),some (.ref ld),some (.ref lr),some (.int wy),some (.ref lb),some (.bl bd),none,none,none],?_,?_⟩
 ·refine⟨_,Z,_,Z,blI (λhb=>?_) (λhb=>⟨S3,lr2,row2,lb3,b03,b13,p03,p13,f03,f13,R3,T3,Z⟩)⟩
  refine⟨λσ H'=>Same H3 H'/\∃ (lr:W9) (row:List Mv),RowB H' lr row c 40/\σ=[some (.ref sa),some (.int hd),some (.int c),some (.ref ld),some (.ref lr),some (.int wy),some (.ref lb3),some (.bl bd),none,none,none],?_,?_⟩
  ·refine⟨_,Z,_,Z,(show 7<=sizeLine by decide),λlq hlq=>?_⟩
   have s4:=Z0c hlq (.lst [V.int 40,V.int 40,V.int 40,V.int 16,V.int 6,V.int 6,V.int 6])
   exact⟨_,Z,lq,_,_,.int mo,Z,Z,SqL.of Z0d,emo,sa,nl,mo,3,c,Z,by decide,by decide,(S3.trans s4).seq hS,lt,c1,c6,hmo,λl H' row S' fl R' l' vo br=>⟨s4.trans S',l,row,⟨R',l',vo,br⟩,Z⟩⟩
  rintro σ H4 ⟨S34,lr4,row4,R4,rfl⟩
  have S4:=S3.trans S34
  refine⟨_,Z,_,Z,sa,nl,4,c,Z,S4.seq hS,lt,by decide,by decide,c1,c6,λb0 H5 p0 f0 S5 n5 B5 z5=>?_⟩
  refine⟨_,Z,_,Z,sa,nl,5,c,Z,(S4.trans S5).seq hS,lt,by decide,by decide,c1,c6,λb1 H6 p1 f1 S6 n6 B6 z6=>⟨t2,λlb hlb=>?_⟩⟩
  have s7:=Z0c hlb (.lst [.ref b0,.ref b1])
  exact⟨S4.trans ((S5.trans S6).trans s7),lr4,row4,lb,b0,b1,p0,p1,f0,f1,R4.same ((S5.trans S6).trans s7),⟨Z0d,(B5.same S6).same s7,B6.same s7,z5⟩,Z⟩
 clear T3 R3 R2 S3 S23 S2
 rintro σ H4 ⟨S4,lr,row,lb,b0,b1,p0,p1,f0,f1,R4,T4,rfl⟩
 have t15:(0:Int)<10^(15:Int).toNat:=by decide +kernel
 refine⟨λσ H'=>Same H4 H'/\∃ (lo:W9) (oth:List Mv),RowB H' lo oth c 200/\(wy<3->Like c row oth)/\σ=[some (.ref sa),some (.int hd),some (.int c),some (.ref ld),some (.ref lr),some (.int wy),some (.ref lb),some (.bl bd),some (.ref lo),none,none],?_,?_⟩
 ·refine⟨_,Z,_,Z,_,Z,_,Z,sa,nl,1,Z,S4.seq hS,by decide,_,_,Z,Z,⟨by decide,by decide,by decide⟩,_,_,Z,Z,t15,?_⟩
  exact⟨lr,row,c,wy,_,Z,R4.at_,R4.len,R4.vo,R4.br,c1,c6,wy0,q1i _ (q4y t15),q1f _ t15,λl H' oth S' R' l' vo br lk=>⟨S',l,oth,⟨R',l',vo,br⟩,lk,Z⟩⟩
 rintro σ H5 ⟨S45,lo5,oth5,O5,lk5,rfl⟩
 have S5:=S4.trans S45
 have R5:=R4.same S45
 have T5:=T4.same S45
 refine⟨λσ H'=>Same H5 H'/\∃ (lo:W9) (oth:List Mv),RowB H' lo oth c 200/\(wy<3->Like c row oth)/\σ=[some (.ref sa),some (.int hd),some (.int c),some (.ref ld),some (.ref lr),some (.int wy),some (.ref lb),some (.bl bd),some (.ref lo),none,none],?_,?_⟩
 ·refine⟨_,Z,_,Z,blI (λhb=>?_) (λhb=>⟨Same.refl _,lo5,oth5,O5,lk5,Z⟩)⟩
  refine⟨_,Z,_,_,Z,Z,_,Z,decI (λw4=>?_) (λw4=>⟨Same.refl _,lo5,oth5,O5,lk5,Z⟩)⟩
  refine⟨_,Z,_,Z,(show 7<=sizeLine by decide),λlq hlq=>?_⟩
  have s6:=Z0c hlq (.lst [V.int 40,V.int 40,V.int 40,V.int 16,V.int 6,V.int 6,V.int 6])
  exact⟨_,Z,lq,_,_,.int mo,Z,Z,SqL.of Z0d,emo,sa,nl,mo,6,c,Z,by decide,by decide,(S5.trans s6).seq hS,lt,c1,c6,hmo,λl H' row S' fl R' l' vo br=>⟨s6.trans S',l,row,⟨R',by omega,vo,br⟩,λz=>absurd z (by omega),Z⟩⟩
 rintro σ H6 ⟨S56,lo,oth,O6,lk,rfl⟩
 have S6:=S5.trans S56
 have R6:=R5.same S56
 have T6:=T5.same S56
 clear O5 lk5 R5 T5 R4 T4
 obtain⟨rp,hl6,hr6⟩:=id R6.at_
 obtain⟨op',ho6,hor6⟩:=id O6.at_
 refine⟨λσ H'=>Same H6 H'/\∃ (lk' k0 k1:W9),H' lk'=some (.lst [.ref k0,.ref k1])/\H' k0=some (.lst (rp.map V.ref))/\H' k1=some (.lst (op'.map V.ref))/\σ=[some (.ref sa),some (.int hd),some (.int c),some (.ref ld),some (.ref lr),some (.int wy),some (.ref lb),some (.bl bd),some (.ref lo),some (.ref lk'),none],?_,?_⟩
 ·refine⟨_,Z,lr,_,Z,.inl (SqL.of hl6),λk0 hk0=>⟨_,Z,lo,_,Z,.inl (SqL.of (Z0c hk0 _ _ _ ho6)),λk1 hk1=>⟨t2,λlk' hlk=>?_⟩⟩⟩
  have s1:=Z0c hk0 (.lst (rp.map V.ref))
  have s2:=Z0c hk1 (.lst (op'.map V.ref))
  have s3:=Z0c hlk (.lst [.ref k0,.ref k1])
  exact⟨(s1.trans s2).trans s3,lk',k0,k1,Z0d,(s2.trans s3) _ _ Z0d,s3 _ _ Z0d,Z⟩
 rintro σ H7 ⟨S67,lkk,k0,k1,ek,ek0,ek1,rfl⟩
 have R7:=R6.same S67
 have O7:=O6.same S67
 have T7:=T6.same S67
 refine⟨λσ H'=>Same H7 H'/\∃ v:V,OptAt K H' v (dif (ims c row) (ims c oth) (pmk c))/\σ=[some (.ref sa),some (.int hd),some (.int c),some (.ref ld),some (.ref lr),some (.int wy),some (.ref lb),some (.bl bd),some (.ref lo),some (.ref lkk),some v],?_,?_⟩
 ·have rl:=R7.len
  exact⟨_,Z,_,Z,_,Z,lr,lo,row,oth,c,Z,R7.at_,O7.at_,c6,R7.vo,R7.br,by omega,O7.vo,O7.br,O7.len,λv H' S' ov=>⟨S',v,ov,Z⟩⟩
 rintro σ H8 ⟨S78,v,ov,rfl⟩
 have R8:=R7.same S78
 have O8:=O7.same S78
 have T8:=T7.same S78
 have S68:=S67.trans S78
 have aok:∀ r:List Mv,AllOk (r.map mm):=λr m hm=>by
  obtain⟨x,_,rfl⟩:=q2e.mp hm
  exact okS x
 refine⟨_,Z,_,Z,lkk,_,_,.ref k0,Z,Z,SqL.of (S78 _ _ ek),L2.Z1e (j:=0) rfl,lr,k0,rp,rp,row.map mm,row.map mm,Z,Z,S68 _ _ hl6,S78 _ _ ek0,hr6.same S68,hr6.same S68,aok row,aok row,_,Z,?_⟩
 rw[q0j rfl]
 refine iteF ?_
 refine⟨_,Z,_,Z,lkk,_,_,.ref k1,Z,Z,SqL.of (S78 _ _ ek),L2.Z1e (j:=1) rfl,lo,k1,op',op',oth.map mm,oth.map mm,Z,Z,S68 _ _ ho6,S78 _ _ ek1,hor6.same S68,hor6.same S68,aok oth,aok oth,_,Z,?_⟩
 rw[q0j rfl]
 refine iteF ?_
 have rl:=R8.len
 refine⟨_,Z,_,Z,_,Z,_,Z,lr,lo,row,oth,c,Z,R8.at_,O8.at_,c6,R8.vo,R8.br,by omega,O8.vo,O8.br,O8.len,λu H9 S9 ou=>X8d (ov.same S9) ou ⟨_,Z,iteF ?_⟩⟩
 have ov9:=ov.same S9
 cases od:dif (ims c row) (ims c oth) (pmk c) with
 | some m =>
  rw[od] at ov9
  obtain⟨p,rfl,ep⟩:=ov9
  have w3:¬ wy<3:=λz=>by
   have e:ims c row=ims c oth:=ims_eq.mpr λk hk=>(lk z k hk).symm
   rw[e,Z6n] at od
   cases od
  refine⟨_,Z,Z,_,Z,nblI (λ_=>?_) (λz=>absurd (q1p z) (by intro z;cases z))⟩
  refine⟨_,Z,_,_,Z,Z,_,Z,decI (λz=>absurd z w3) (λ_=>⟨_,Z,p,_,Z,ep,_,Z,iteF ?_⟩)⟩
  refine⟨_,Z,p,_,_,.int (m.1:Nat),Z,Z,ep,K55S.k0,_,Z,_,Z,iteT ?_⟩
  refine⟨_,Z,p,_,_,.int (m.2.1:Nat),Z,Z,ep,K55S.k1,_,Z,_,Z,iteT ?_⟩
  exact⟨_,Z,p,_,_,.int (m.2.2:Nat),Z,Z,ep,K55S.k2,_,Z,kk _⟩
 | none =>
  rw[od] at ov9
  cases (show v=.non from ov9)
  refine⟨_,Z,Z,_,Z,nblI (λz=>absurd rfl (q5b z)) (λ_=>?_)⟩
  have ie:=Y4c od ((Z4r c row).trans (Z1g c).symm) ((Z4r c oth).trans (Z1g c).symm)
  obtain⟨ks,ks8,sp⟩:=X0n c6 R8.vo O8.vo R8.br O8.br ie
  have T9:=T8.same S9
  have R9:=R8.same S9
  have O9:=O8.same S9
  obtain⟨w1,rw1⟩:=X2n R9.at_ R9.vo (by have:=R9.len;omega)
  obtain⟨w2,rw2⟩:=X2n O9.at_ O9.vo O9.len
  refine⟨_,Z,lb,Z,⟨_,SqL.of T9.lst⟩,λa1 ha1=>?_⟩
  refine X3a (fr:=[some (.ref lr)]) (n:=100+1010*(row.map gm).length) (m:=40+(row.map gm).length) (ms:=row.map gm) T9 ha1 (λb ps f H N S B k=>?_) ?_
  ·exact⟨_,Z,_,Z,b,lr,ps,w1,f,c,100,40,row.map gm,Z,rw1.same S,B,c6,by decide,by decide,k⟩
  rintro r0 r1 q0 q1 g0 g1 H10 S10 e10 B0 B1 st0 st1
  have T10:=T9.same S10
  refine⟨_,Z,lb,Z,⟨_,SqL.of T10.lst⟩,λa2 ha2=>?_⟩
  refine X3a (fr:=[some (.ref lo)]) (n:=100+1010*(oth.map gm).length) (m:=40+(oth.map gm).length) (ms:=oth.map gm) T10 ha2 (λb ps f H N S B k=>?_) ?_
  ·exact⟨_,Z,_,Z,b,lo,ps,w2,f,c,100,40,oth.map gm,Z,(rw2.same S10).same S,B,c6,by decide,by decide,k⟩
  rintro s0 s1 u0 u1 h0 h1 H11 S11 e11 D0 D1 sv0 sv1
  exact⟨a1,a2,r0,r1,s0,s1,q0,q1,u0,u1,g0,g1,h0,h1,c,_,_,_,_,ks,Z,S11 _ _ e10,e11,B0.same S11,B1.same S11,D0,D1,c6,ks8,sp f0 g0 h0 T9.d0.ok st0 sv0,sp f1 g1 h1 T9.d1.ok st1 sv1,X7v c6 O9.vo (λw hw=>(T9.d0.ok w hw).amt) sv0 T9.nz,λw hw=>(D0.ok w hw).amt,λH' _=>kk _⟩
end
end K55S
noncomputable section
namespace K75
open L2 Ba
theorem W0w {l:PySem.W.OpenLaw}{w:W1}{K:U0}{h:Heap}{mg:U4}{fa f:W9}(X:K.In h)(G:Ng h mg)(hfa:mg "law"=some (.ref fa))
  {od an:W5}{sl:W4}{oc kV dc pm cd ct:W2}{aN:W9}{nN:Nat}{a1 a2 a3 a4 a5 a6 a7 b1 b2 b3 b4 b5 b6 b7 tC:Tok}
  (aL:PySem.W.nsIn K mainGlobals "law"=some (some (.ref f))) (lL:K.lookup f=some ⟨oc,od,.func (PySem.W.fnOf "law" "law" (Z1n (top 92)) (Z1j (top 92)) (Z0h (top 92)) .none kV dc pm an cd ct),sl⟩) (cL:PySem.W.codeIn K cd "law"=true) (kL:PySem.W.keepIn K (.ref f)=true)
  (t7:FunAt K "is_whole" (top 7) .none)
  (t10:FunAt K "ones" (top 10) .none)
  (t11:FunAt K "is_word" (top 11) .none)
  (t12:FunAt K "is_mark" (top 12) .none)
  (t13:FunAt K "is_even" (top 13) .none)
  (t14:FunAt K "is_even_mark" (top 14) .none)
  (t15:FunAt K "commute" (top 15) .none)
  (t16:FunAt K "turned_about" (top 16) .none)
  (t17:FunAt K "cell_sign" (top 17) .none)
  (t19:FunAt K "halved_out" (top 19) .none)
  (t20:FunAt K "plus" (top 20) .none)
  (t21:FunAt K "minus" (top 21) .none)
  (t22:FunAt K "spun" (top 22) .none)
  (t23:FunAt K "spun_once" (top 23) .none)
  (t24:FunAt K "rooted" (top 24) .none)
  (t26:FunAt K "cells_of" (top 26) .none)
  (t29:FunAt K "check_move" (top 29) .none)
  (t30:FunAt K "has_move_form" (top 30) .none)
  (t31:FunAt K "named_cells" (top 31) .none)
  (t32:FunAt K "turned" (top 32) .none)
  (t33:FunAt K "mixed" (top 33) .none)
  (t34:FunAt K "mixed_at" (top 34) .none)
  (t35:FunAt K "spun_where" (top 35) .none)
  (t36:FunAt K "word_behind" (top 36) .none)
  (t37:FunAt K "exchanged" (top 37) .none)
  (t38:FunAt K "back_move" (top 38) .none)
  (t40:FunAt K "least_cell" (top 40) .none)
  (t42:FunAt K "borne" (top 42) .none)
  (t43:FunAt K "is_borne" (top 43) .none)
  (t44:FunAt K "is_odd_turn" (top 44) .none)
  (t45:FunAt K "moved_rows" (top 45) .none)
  (t46:FunAt K "check_borne" (top 46) .none)
  (t47:FunAt K "moved_through" (top 47) .none)
  (t48:FunAt K "moved_by" (top 48) .none)
  (t49:FunAt K "moved_by_mix" (top 49) .none)
  (t50:FunAt K "moved_by_turn" (top 50) .none)
  (t51:FunAt K "moved_by_if" (top 51) .none)
  (t52:FunAt K "moved_by_pair" (top 52) .none)
  (t54:FunAt K "images" (top 54) .none)
  (t55:FunAt K "plain_marks" (top 55) .none)
  (t56:FunAt K "unlike" (top 56) .none)
  (t58:FunAt K "run" (top 58) .none)
  (t59:FunAt K "backward" (top 59) .none)
  (t61:FunAt K "rebuilt" (top 61) .none)
  (t62:FunAt K "are_images" (top 62) .none)
  (t63:FunAt K "commute_alike" (top 63) .none)
  (t64:FunAt K "layer_to_sign" (top 64) .none)
  (t65:FunAt K "moves_to_sign" (top 65) .none)
  (t66:FunAt K "layer_to_flip" (top 66) .none)
  (t67:FunAt K "moves_to_flip" (top 67) .none)
  (t69:FunAt K "shortened" (top 69) .none)
  (t70:FunAt K "step_at" (top 70) .none)
  (t71:FunAt K "put_for_two" (top 71) .none)
  (t72:FunAt K "is_turn_of" (top 72) .none)
  (t73:FunAt K "turns_joined" (top 73) .none)
  (t74:FunAt K "in_one_order" (top 74) .none)
  (t75:FunAt K "goes_ahead" (top 75) .none)
  (t76:FunAt K "put_for_three" (top 76) .none)
  (t78:FunAt K "_law_cell_at" (top 78) .none)
  (t79:FunAt K "_law_whole" (top 79) .none)
  (t80:FunAt K "_law_number" (top 80) .none)
  (t81:FunAt K "_law_lowest" (top 81) .none)
  (t82:FunAt K "_law_board" (top 82) .none)
  (t83:FunAt K "_law_board_by" (top 83) .none)
  (t84:FunAt K "_law_move_of" (top 84) .none)
  (t85:FunAt K "_law_move" (top 85) .none)
  (t86:FunAt K "_law_row_by" (top 86) .none)
  (t87:FunAt K "_law_other" (top 87) .none)
  (t88:FunAt K "_law_spun" (top 88) .none)
  (t89:FunAt K "_law_one_k" (top 89) .none)
  (t90:FunAt K "_law_basic" (top 90) .none)
  (t91:FunAt K "_law_first" (top 91) .none)
  (z0:PySem.W.nsIn K mainGlobals "isinstance"=some none)
  (z1:PySem.W.nsIn K mainGlobals "int"=some none)
  (z2:PySem.W.nsIn K mainGlobals "bool"=some none)
  (z3:PySem.W.nsIn K mainGlobals "tuple"=some none)
  (z4:PySem.W.nsIn K mainGlobals "list"=some none)
  (z5:PySem.W.nsIn K mainGlobals "len"=some none)
  (z6:PySem.W.nsIn K mainGlobals "range"=some none)
  (z7:PySem.W.nsIn K mainGlobals "all"=some none)
  (z8:PySem.W.nsIn K mainGlobals "any"=some none)
  (z9:PySem.W.nsIn K mainGlobals "max"=some none)
  (z10:PySem.W.nsIn K mainGlobals "min"=some none)
  (z11:PySem.W.nsIn K mainGlobals "zip"=some none)
  (z12:PySem.W.nsIn K mainGlobals "set"=some none)
  (z13:PySem.W.nsIn K mainGlobals "str"=some none)
  (z14:PySem.W.nsIn K mainGlobals "enumerate"=some none)
  (z15:PySem.W.nsIn K mainGlobals "reversed"=some none)
  (gN0:PySem.W.nsIn K mainGlobals "NUMBERS_BEHIND"=some (some (.ref aN)))
  (tN:K.lookup aN=some ⟨.type "dict",none,.dict #[⟨PyData.keyHash w.params "flip",.str "flip" a1,.int 1 b1⟩,⟨PyData.keyHash w.params "mix",.str "mix" a2,.int 1 b2⟩,⟨PyData.keyHash w.params "turn",.str "turn" a3,.int 2 b3⟩,⟨PyData.keyHash w.params "if",.str "if" a4,.int 2 b4⟩,⟨PyData.keyHash w.params "pair",.str "pair" a5,.int 2 b5⟩,⟨PyData.keyHash w.params "swap",.str "swap" a6,.int 2 b6⟩,⟨PyData.keyHash w.params "cross",.str "cross" a7,.int 3 b7⟩] nN,#[]⟩)
  (nN0:(aN == sysModules)=false)
  (gC0:PySem.W.nsIn K mainGlobals "CELL_SIGNS"=some (some (.str (Str.ofString ".fsb") tC)))
  : ∃ fd:FuncData,(∀ (s:U7) (v:W2),BindsTo s fd ⟨[v],[]⟩ [("_law_script",v)])/\∀ base:Heap,K.In base->base.Ns mainGlobals mg->FnOk l.prog w K mg base CX0 9 fa fd ["_law_script"] (spLaw K 63):=by
 have e:=hfa.symm.trans (q7g X G aL)
 cases e
 have F:=X9y (st:=top 92) lL cL kL
 have B:Bs mg:=⟨q1j X G z0,q1j X G z1,q1j X G z2,q1j X G z3,q1j X G z4,q1j X G z5,q1j X G z6,q1j X G z7,q1j X G z8,q1j X G z9,q1j X G z10,q1j X G z11,q1j X G z12,q1j X G z13,q1j X G z14,q1j X G z15⟩
 refine⟨PySem.W.fnOf "law" "law" (Z1n (top 92)) (Z1j (top 92)) (Z0h (top 92)) .none kV dc pm an cd ct,λs v=>.of_eq rfl,λbase _ _=>?_⟩
 have gN:=q7g X G gN0
 have DN:KDic K w.params aN NB:=⟨⟨_,_,_,tN,⟨Z,Z,Z⟩,Z,.cons ⟨_,_,Z⟩ (.cons ⟨_,_,Z⟩ (.cons ⟨_,_,Z⟩ (.cons ⟨_,_,Z⟩ (.cons ⟨_,_,Z⟩ (.cons ⟨_,_,Z⟩ (.cons ⟨_,_,Z⟩ .nil))))))⟩,by decide +kernel,nN0⟩
 have c19:=X5l (P:=l.prog) (w:=w) (base:=base) (k:=0) t19 X G B
 have c23:=X5e (P:=l.prog) (w:=w) (base:=base) (k:=0) t23 X G
 have c24:=Y7b t24 X G c19
 have c22:=Y1o t22 X G B c23
 have c20:=X5b t20 X G B c19
 have c21:=X0v t21 X G c20 c22
 have c7:=Y4y (P:=l.prog) (w:=w) (base:=base) (k:=0) t7 X G B
 have c26:=Y4z (P:=l.prog) (w:=w) (base:=base) (k:=0) t26 X G B
 have c31:=ok_named (P:=l.prog) (w:=w) (base:=base) (k:=0) t31 X G B
 have c30:=X5m t30 X G B gN DN c7
 have c29:=X0z t29 X G B c30 (c31.mono (by decide))
 have c34:=Y4x t34 X G (c24.mono (by decide)) c21 (c20.mono (by decide))
 have c33:=X0u t33 X G B c34
 have c37:=X5n (P:=l.prog) (w:=w) (base:=base) (k:=0) t37 X G
 have c36:=Y7i t36 X G c31 c37
 have c35:=X0p t35 X G B c22
 have c32:=Y6z (k:=5) t32 X G B (c29.mono (by decide)) (c26.mono (by decide)) c33 (c35.mono (by decide)) (c36.mono (by decide))
 have c58:=X8l t58 X G B c32
 have c78:=X5p (P:=l.prog) (w:=w) (base:=base) (k:=0) t78 X G B
 have gC:=q7g X G gC0
 have c16:=K55S.X1e (P:=l.prog) (w:=w) (base:=base) (k:=0) t16 X G
 have c49:=K55S.X1a t49 X G c16
 have c50:=K55S.Y7g (P:=l.prog) (w:=w) (base:=base) (k:=0) t50 X G
 have c51:=K55S.X5r (P:=l.prog) (w:=w) (base:=base) (k:=0) t51 X G
 have c52:=K55S.Y7h t52 X G c16
 have c48:=K55S.Y4w (k:=2) t48 X G (c16.mono (by decide)) (c49.mono (by decide)) (c50.mono (by decide)) (c51.mono (by decide)) (c52.mono (by decide)) (c37.mono (by decide))
 have c47:=K55S.Y4v t47 X G c48
 have c44:=K55S.X8n (P:=l.prog) (w:=w) (base:=base) (k:=0) t44 X G
 have c43:=K55S.X5k t43 X G c44
 have c42:=K55S.X1b t42 X G B c43
 have c46:=K55S.X8s t46 X G c42
 have c45:=K55S.X0t (k:=4) t45 X G B (c46.mono (by decide)) (c47.mono (by decide))
 have c10:=K55S.X5c (P:=l.prog) (w:=w) (base:=base) (k:=0) t10 X G
 have c55:=K55S.X0r (P:=l.prog) (w:=w) (base:=base) (k:=0) t55 X G B
 have c54:=K55S.X8r (k:=5) t54 X G (c45.mono (by decide)) (c55.mono (by decide))
 have c11:=K55S.Y7f t11 X G c7
 have c12:=K55S.X5i (k:=2) t12 X G B (c7.mono (by decide)) (c11.mono (by decide))
 have c13:=K55S.X5j t13 X G c10
 have c14:=K55S.X0x (k:=3) t14 X G (c12.mono (by decide)) (c13.mono (by decide))
 have c15:=K55S.X5o t15 X G c10
 have c63:=K55S.X5q t63 X G B c15
 have c62:=K55S.X5s (k:=4) t62 X G B (c55.mono (by decide)) (c14.mono (by decide)) (c63.mono (by decide))
 have c17:=K55S.W1n (P:=l.prog) (w:=w) (base:=base) (k:=0) gC t17 X G
 have c65:=K55S.X8o (P:=l.prog) (w:=w) (base:=base) (k:=0) t65 X G
 have c67:=K55S.X8p (P:=l.prog) (w:=w) (base:=base) (k:=0) t67 X G
 have c40:=K55S.X0w (P:=l.prog) (w:=w) (base:=base) (k:=0) t40 X G
 have c38:=K55S.X8u (P:=l.prog) (w:=w) (base:=base) (k:=0) t38 X G
 have c59:=K55S.X8t t59 X G B c38
 have c64:=K55S.X5g (k:=4) t64 X G B (c65.mono (by decide)) (c17.mono (by decide)) (c47.mono (by decide)) (c40.mono (by decide))
 have c66:=K55S.X5h (k:=4) t66 X G B (c67.mono (by decide)) (c17.mono (by decide)) (c47.mono (by decide))
 have c61:=K55S.X8m (k:=5) t61 X G B (c62.mono (by decide)) (c64.mono (by decide)) (c66.mono (by decide)) (c47.mono (by decide)) (c59.mono (by decide))
 have c79:=K55S.X0o (P:=l.prog) (w:=w) (base:=base) (k:=0) t79 X G B
 have c80:=Y7c (P:=l.prog) (w:=w) (base:=base) (k:=0) t80 X G B
 have c81:=Y7e (P:=l.prog) (w:=w) (base:=base) (k:=0) t81 X G B
 have c56:=K55S.X8k (k:=6) t56 X G B c54 (c55.mono (by decide))
 have nc2:=K55S.S.ok_named (P:=l.prog) (w:=w) (base:=base) (k:=0) t31 X G B
 have c72:=K55S.S.ok_turnof (P:=l.prog) (w:=w) (base:=base) (k:=0) t72 X G
 have c73:=K55S.S.ok_joined (P:=l.prog) (w:=w) (base:=base) (k:=0) t73 X G
 have c74:=K55S.S.ok_ord (P:=l.prog) (w:=w) (base:=base) (k:=0) t74 X G B
 have c75:=K55S.S.ok_goes t75 X G B nc2 c72
 have c71:=K55S.S.ok_put2 (k:=2) t71 X G (c72.mono (by decide)) (c73.mono (by decide)) (c74.mono (by decide)) c75
 have c76:=K55S.S.ok_put3 (P:=l.prog) (w:=w) (base:=base) (k:=0) t76 X G
 have c70:=K55S.S.ok_stepat t70 X G B c71 (c76.mono (by decide))
 have c69:=K55S.S.ok_short t69 X G B c70
 have c82:=X1c (k:=2) t82 X G B (c80.mono (by decide)) (c81.mono (by decide))
 have c83:=Y5a (k:=3) t83 X G B (c78.mono (by decide)) (c82.mono (by decide)) (c81.mono (by decide))
 have c84:=K55S.Y7d (P:=l.prog) (w:=w) (base:=base) (k:=0) t84 X G B
 have c85:=K55S.X5f t85 X G c84
 have c86:=K55S.X0q (k:=2) t86 X G B (c78.mono (by decide)) (c80.mono (by decide)) (c84.mono (by decide))
 have c90:=K55S.X1d (P:=l.prog) (w:=w) (base:=base) (k:=0) t90 X G
 have c87:=K55S.X0s (k:=6) t87 X G B (c54.mono (by decide)) (c61.mono (by decide)) (c69.mono (by decide)) (c85.mono (by decide))
 have c88:=K55S.Y1o (P:=l.prog) (w:=w) (base:=base) (k:=0) t88 X G B
 have c89:=K55S.X5d t89 X G B c88
 have c91:=K55S.X0y (k:=6) t91 X G B (c54.mono (by decide)) (c90.mono (by decide))
 exact K55S.X8q (k:=8) (by decide) F B (c78.mono (by decide)) (c85.mono (by decide)) (c82.mono (by decide)) (c86.mono (by decide)) (c83.mono (by decide)) (c87.mono (by decide)) (c56.mono (by decide)) (c91.mono (by decide)) (c79.mono (by decide)) (c58.mono (by decide)) (c89.mono (by decide))
theorem walk {l:PySem.W.OpenLaw}{q:U8}{loose:W0}{XP:(Str->Option Value)->Heap->Prop}{YP:World->Heap->Prop}{d:DefRec}{K:Params->U0}(hn:l.most=some 63)(hdf:d.params.defaults=[])
  (hY:∀ (w:W1) (h:Heap),YP w h->(K w.params).In h)
  (F:∀ (w:W1) (mg:U4) (fa:W9) (h:Heap),(K w.params).In h->h.Ns mainGlobals mg->mg d.name=some (.ref fa) →
   ∃ fd:FuncData,(∀ (s:U7) (u:W2),BindsTo s fd ⟨[u],[]⟩ [("_law_script",u)])/\∀ base:Heap,(K w.params).In base->base.Ns mainGlobals mg->FnOk l.prog w (K w.params) mg base CX0 9 fa fd ["_law_script"] (spLaw (K w.params) 63)) :
  PySem.W.WalkO q loose XP YP l.row.toRowW d [] (λf vs=>PySem.call f vs) :=
 L2.Y4k (n:=63) (k:=9) (x:="_law_script") (CX:=λ_=>CX0) (sp:=λw=>spLaw (K w.params) 63) hn (by decide) hdf ⟨Z,by decide,by decide⟩ hY F (λ_ _ a ns hl lt hS=>⟨a,ns,Z,hS,hl,lt,λ_=>rfl⟩) λ_ _ _ _ _ z=>z
end K75
open PySem.W
set_option maxRecDepth 100000 in
set_option maxHeartbeats 0 in
theorem PySem.Challenge.cw_spinboard_k75_whole_unlike_holds : PySem.Challenge.rw_spinboard_k75_whole_unlike.Holds := by
 refine holds_law K75.Hd.said_ λsaid=>?_
 refine holds_open (q:=K75.Hd.qq) (loose:=K75.Hd.loose) (Xt:=K75.Hd.Xt) (XP:=XL K75.Hd.qq K75.Hd.lv) (Yf:=K75.Hd.HH.obs) (Ya:=K75.Hd.HH.val) (YP:=K75.Hd.HH.says) (d:=⟨"law",L2.Z1n (K75.top 92),L2.Z1j (K75.top 92),L2.Z0h (K75.top 92),K75.Hd.dPos (K75.top 92)⟩) (kwd:=[]) (N:=K75.Hd.NN) K75.Hd.left_ K75.Hd.HH.of K75.Hd.HH.keeps (λs e=>xl_of s (Bool.and_eq_true_iff.mp e).1) XL.keeps (by kernel_rfl) (by kernel_rfl) (by kernel_rfl) (λs e=>recFacts_of (Bool.and_eq_true_iff.mp e).2) (by kernel_rfl) said (by kernel_rfl) ⟨Z,Z,Z,Z,Z,by decide +kernel⟩ ?hw ?hc
 case hw=>w_witness2
 refine K75.walk (l:=PySem.Challenge.rw_spinboard_k75_whole_unlike) rfl rfl (λw h Y=>PySem.W.kIn_of Y) ?F
 case F =>
  intro w mg fa h KX G hmg
  refine' K75.W0w (K:=K75.Hd.KK w.params) (f:=554) (aN:=193) (tC:=291) KX G hmg ?aL (K75.Hd.k554 _) ?cL ?kL (K75.Hd.f7 _) (K75.Hd.f10 _) (K75.Hd.f11 _) (K75.Hd.f12 _) (K75.Hd.f13 _) (K75.Hd.f14 _) (K75.Hd.f15 _) (K75.Hd.f16 _) (K75.Hd.f17 _) (K75.Hd.f19 _) (K75.Hd.f20 _) (K75.Hd.f21 _) (K75.Hd.f22 _) (K75.Hd.f23 _) (K75.Hd.f24 _) (K75.Hd.f26 _) (K75.Hd.f29 _) (K75.Hd.f30 _) (K75.Hd.f31 _) (K75.Hd.f32 _) (K75.Hd.f33 _) (K75.Hd.f34 _) (K75.Hd.f35 _) (K75.Hd.f36 _) (K75.Hd.f37 _) (K75.Hd.f38 _) (K75.Hd.f40 _) (K75.Hd.f42 _) (K75.Hd.f43 _) (K75.Hd.f44 _) (K75.Hd.f45 _) (K75.Hd.f46 _) (K75.Hd.f47 _) (K75.Hd.f48 _) (K75.Hd.f49 _) (K75.Hd.f50 _) (K75.Hd.f51 _) (K75.Hd.f52 _) (K75.Hd.f54 _) (K75.Hd.f55 _) (K75.Hd.f56 _) (K75.Hd.f58 _) (K75.Hd.f59 _) (K75.Hd.f61 _) (K75.Hd.f62 _) (K75.Hd.f63 _) (K75.Hd.f64 _) (K75.Hd.f65 _) (K75.Hd.f66 _) (K75.Hd.f67 _) (K75.Hd.f69 _) (K75.Hd.f70 _) (K75.Hd.f71 _) (K75.Hd.f72 _) (K75.Hd.f73 _) (K75.Hd.f74 _) (K75.Hd.f75 _) (K75.Hd.f76 _) (K75.Hd.f78 _) (K75.Hd.f79 _) (K75.Hd.f80 _) (K75.Hd.f81 _) (K75.Hd.f82 _) (K75.Hd.f83 _) (K75.Hd.f84 _) (K75.Hd.f85 _) (K75.Hd.f86 _) (K75.Hd.f87 _) (K75.Hd.f88 _) (K75.Hd.f89 _) (K75.Hd.f90 _) (K75.Hd.f91 _) ?z0 ?z1 ?z2 ?z3 ?z4 ?z5 ?z6 ?z7 ?z8 ?z9 ?z10 ?z11 ?z12 ?z13 ?z14 ?z15 ?gN0 ?tN ?nN0 ?gC0
  (case aL=>kernel_rfl);(case cL=>kernel_rfl);(case kL=>kernel_rfl)
  (case z0=>kernel_rfl);(case z1=>kernel_rfl);(case z2=>kernel_rfl);(case z3=>kernel_rfl);(case z4=>kernel_rfl);(case z5=>kernel_rfl);(case z6=>kernel_rfl);(case z7=>kernel_rfl);(case z8=>kernel_rfl);(case z9=>kernel_rfl);(case z10=>kernel_rfl);(case z11=>kernel_rfl);(case z12=>kernel_rfl);(case z13=>kernel_rfl);(case z14=>kernel_rfl);(case z15=>kernel_rfl)
  (case gN0=>kernel_rfl);(case tN=>exact K75.Hd.k193 _);(case nN0=>decide)
  (case gC0=>kernel_rfl)
