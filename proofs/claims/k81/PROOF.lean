import PyProof.Rows.All
import Wide.All
import OpenK.AllK
import Wide.FinOn
import Lean
import PyProof.EqAt
import PyProof.EqKinds
import PyProof.TupleCall
import PyProof.Rows.BitMore
import PyProof.ConsumeWalk
import PyProof.EnumMake
import PyProof.Rows.EnumRows
import PyProof.Rows.SortWalk
import PyProof.Rows.TupDisplay
import PyProof.SumAny
import PyProof.DictFindH
import PyProof.Rows.ListRangeD
import PyProof.StationsW
import PyProof.ExcClass3
import PyProof.ExcBaseAll.ValueError
import PyProof.RulesAs
import PyProof.ExcArgsOwn
import PyProof.ExcAttrAll.ValueError
import PyProof.InstStoreFacts
import PyProof.ExcClass2
import PyProof.ExcInit
import PyProof.NsDelKeeps
import PyProof.Seq
import PyProof.Walks
import PyProof.Rows.SortRev
import PyProof.Draws
import PyProof.StrBlockL
import PyProof.StrCalls2
import PyProof.FitsInt
import PyProof.StrCalls
import PyProof.SliceStr2
import PyProof.StrBlockI
import PyProof.StrOps2
import PyProof.Rows.StrSplitAre
import PyProof.P3In
import PyProof.NeKinds
import PySem.Challenge.RW_spinboard_k81_mends_walked_or_the_pair
noncomputable section
open PySem PySem.Spec PyProof.Rows
theorem Z{α:Sort u}{a:α}:a=a:=rfl
abbrev U0:=PySem.W.Frag
abbrev U1:=List (Addr×Obj)
abbrev U2:=Value->Shared->Prop
abbrev U3:=List Addr
abbrev U4:=Str->Option Value
abbrev U5:=List Value
abbrev U6:=List Int
abbrev U7:=Shared
abbrev U8:=Program
abbrev U9:=Array Value
abbrev W0:=List Str
abbrev W1:=World
abbrev W3:=Value
abbrev W7:=List Nat
abbrev W8:=Array (Option Value)
abbrev W9:=Option Addr
abbrev Y0:=Around
abbrev Y1:=List (Option Nat)
abbrev Y2:=List Stmt
abbrev Y3:=Addr
noncomputable abbrev Ng (h:Heap)(m:Str->Option Value):=h.Ns mainGlobals m
set_option linter.all false
section
open PySem.W
def Bb:=@List.getD_eq_getElem?_getD
def Af:=@wpAny_bind
def Bm:=@List.getElem?_eq_getElem
def Ax:=@List.length_map
def CG:=@Heap.get?_push_of_some
def Cv:=@List.getElem?_eq_some_iff
def Bo:=@List.getElem?_map
def Aq:=@wpAny_pure
def BP:=@Heap.lt_size
def CK:=@Nat.lt_of_lt_of_le
def Ci:=@List.size_toArray
def CJ:=@List.map_append
def D_:=@Option.map_eq_some_iff
def Bf:=@Nat.le_refl
def DQ:=@List.length_append
def Dz:=@List.mem_of_getElem?
def Dg:=@List.mem_singleton
def B_:=@Nat.ne_of_lt
def Ek:=@Heap.get?_push_size
def Df:=@decide_eq_false
def DK:=@decide_eq_true
def Fw:=@List.mem_append_right
def Ej:=@Int.toNat_natCast
def Cz:=@List.mem_cons
def Ea:=@boot_isinstance
def Ei:=@Nat.two_pow_pos
def Fv:=@Bool.false_ne_true
def Gn:=@Nat.pow_le_pow_right
def DY:=@List.mem_map
def E_:=@List.mem_append
def Ft:=@List.length_take
def Ga:=@List.take_add_one
def JR:=@Nat.mod_two_eq_zero_or_one
def HN:=@Array.length_toList
def G7:=@Option.toList_some
def Er:=@List.map_cons
def Fb:=@List.mem_range
def Eh:=@Nat.le_trans
def Hi:=@PySem.W.mg_none_of
def G6:=@List.take_length
def G5:=@List.getElem_mem
def Dp:=@wpAny_mono
def Iv:=@List.mem_cons_of_mem
def Ih:=@Nat.xor_lt_two_pow
def Gm:=@PySem.boot_len
def JQ:=@List.mem_append_left
def GZ:=@PySem.W.mg_of
def K5:=@List.pairwise_iff_getElem
def Ig:=@List.length_range
def Iu:=@List.mem_cons_self
def Hv:=@List.length_cons
def KR:=@Heap.get?_update_other
def Jt:=@Nat.pow_lt_pow_right
def FZ:=@Nat.zero_le
def Ie:=@List.not_mem_nil
def G4:=@wpAny_holding
def KQ:=@List.length_singleton
def KN:=@Heap.get?_update_self
def JN:=@Bool.false_eq_true
def Gk:=@List.map_map
def HJ:=@Nat.xor_assoc
def N8:=@Array.getD_eq_getD_getElem?
def N7:=@PySem.F.excBase_ValueError
def KJ:=@List.replicate_succ
def Ir:=@PySem.W.kia_one
def Js:=@wpAny_newObj_type
def Fq:=@Nat.mod_lt
def N5:=@List.getElem?_append_left
def TF:=@Nat.testBit_eq_decide_div_mod_eq
def QT:=@PySem.F.slot_int_bit_length
def JM:=@List.append_nil
def Nz:=@PySem.F.plainAttrs_list
def Ib:=@Nat.pow_succ'
def QS:=@List.getElem?_append_right
def MJ:=@Nat.eq_of_testBit_eq
def Hu:=@Nat.ne_of_gt
def KH:=@Nat.mod_eq_of_lt
def K4:=@wpAny_truthy_bool
def K3:=@wpAny_loadPart_at
def Ny:=@List.mem_iff_getElem?
def MF:=@wpAny_Call_Name_kw
def S_:=@PySem.F.type_int_bit_length
def KD:=@Nat.testBit_xor
def JL:=@Nat.lt_irrefl
def K1:=@wpAny_call_entry
def Kz:=@List.all_eq_true
def FW:=@if_false
def Nx:=@PySem.mem_of_lookup
def Sy:=@PySem.F.plain_extend_loop
def JK:=@Nat.le_of_lt
def QM:=@List.length_replicate
def Ky:=@List.length_nil
def QL:=@Array.getElem_toList
def Sx:=@List.length_eq_zero_iff
def Jr:=@Nat.lt_trans
def Kw:=@Bool.false_and
def Nv:=@List.pairwise_map
def Nu:=@List.flatten_cons
def QK:=@wpAny_isSubtype_exc
def Hh:=@segRun_of
def Hg:=@piece_app
def Sw:=@PySem.F.plainAttrs_int
def Sv:=@Nat.testBit_lt_two_pow
def Nt:=@beq_self_eq_true
def QJ:=@wpAny_setField_rec
def Ss:=@Array.getElem?_toList
def Sq:=@List.mem_of_mem_take
def Sh:=@List.mem_iff_getElem
def Nr:=@wpAny_passesOwn
def QH:=@wpAny_dictEntries
def Vz:=@wpAny_comprehension_free
def QG:=@of_decide_eq_true
def QF:=@Nat.lt_succ_of_lt
def Vy:=@Nat.and_xor_distrib_left
def Nq:=@List.find?_cons
def Yw:=@wpAny_typeNameOfWhole_itemiter
def Kv:=@Nat.add_zero
def L_:=@wpAny_standAt
def Vx:=@PySem.F.plain_list_iadd
def Vw:=@PySem.F.attr_ValueError
def Yv:=@wpAny_typeNameOfWhole_keyiter
def QD:=@Nat.lt_succ_self
def QC:=@Nat.div_eq_of_lt
def QB:=@List.length_drop
def P_:=@Bool.and_eq_true
def Vv:=@wpAny_isOneOf_itemiter
def Gj:=@if_true
def Vu:=@List.take_of_length_le
def Vt:=@Array.getElem?_eq_none
def Sg:=@PySem.W.tail_of_in
def SX:=@PySem.W.callWith_K
def SQ:=@List.getElem?_take
def SN:=@List.filter_append
def SJ:=@Array.append_empty
def Ku:=@wpAny_field
def Lz:=@codeAny_mono
def P0:=@codeAny_builtin
def Ly:=@Nat.xor_zero
def Lx:=@Nat.xor_self
def Vs:=@List.getElem?_eq_none
def Py:=@Int.emod_nonneg
def Px:=@Bool.eq_iff_iff
def Ia:=@or_false
def R_:=@List.foldl_append
def Vr:=@Heap.get?_none_of_le
def Yu:=@wpAny_typeNameOf_itemiter
def Yt:=@Array.getElem?_eq_getElem
def R9:=@List.lookup_cons
def R8:=@List.ext_getElem
def R7:=@List.any_eq_true
def Vq:=@Nat.testBit_two_pow
def Ys:=@wpAny_typeNameOf_keyiter
def Ks:=@wpAny_call
def Yr:=@PySem.F.type_list_append
def Yq:=@PySem.F.slot_list_append
def Np:=@Nat.zero_add
def R6:=@wpAny_execs_nil
def Yp:=@wpAny_callSpecial?_slot
def Vp:=@tupleKind_room_in1
def Vo:=@PySem.W.noMix_ints
def Yo:=@PySem.W.canLayAll0_ints
def Yn:=@Nat.testBit_mod_two_pow
def R5:=@Nat.testBit_and
def R4:=@Nat.min_eq_left
def Ym:=@List.pairwise_singleton
def Vn:=@List.pairwise_cons
def R3:=@List.nodup_cons
def R0:=@List.foldl_cons
def Vm:=@List.contains_cons
def Yl:=@PySem.W.cellsFrom_some
def Yk:=@Nat.div_div_eq_div_mul
def Yj:=@List.getElem?_set_self
def Vl:=@wpAny_pyIter_enum
def Nm:=@sizeLine_eq
def je:=@plainObj_wpAny_Assign_Attribute
def Vk:=@PySem.W.same_ints
def Vj:=@Nat.lt_trichotomy
def Nk:=@Nat.le_succ
def Vi:=@List.append_assoc
def Rz:=@wpAny_setField
def Jq:=@boot_all
def Ry:=@Nat.testBit_or
def Yi:=@wpAny_notOrdered_dict
def Yh:=@wpAny_isOneOf_keyiter
def Yg:=@codeAny_handlers_test
def Kr:=@boot_list
def Ye:=@PySem.W.depthAll_ints
def Yd:=@List.length_filter_le
def Pu:=@Int.zero_add
def Vh:=@decide_eq_decide
def Yc:=@codeAny_call_builtin
def Yb:=@List.pairwise_append
def YZ:=@List.mem_of_mem_drop
def YX:=@List.getElem?_set_ne
def Rx:=@wpAny_newList
def Rw:=@wpAny_attempt
def Rv:=@plainId_quiet
def jd:=@PySem.F.slot_dict_setdefault
def Ru:=@Bool.true_and
def Nj:=@call_meets
def Ni:=@boot_tuple
def YW:=@wpAny_handleBy_cons
def Vg:=@wpAny_dictEpoch
def jc:=@PySem.F.plain_proto_collect
def Pr:=@Nat.one_mul
def Vf:=@Nat.not_lt_zero
def Pq:=@Nat.log2_lt
def Ve:=@List.of_mem_zip
def YT:=@List.filterMap_cons
def YS:=@Heap.get?_update_ne
def jZ:=@wpAny_newFunctionEnv_cells
def jY:=@wpAny_letOwnedTupleGo_enum
def jX:=@Int.fdiv_eq_ediv_of_nonneg
def jW:=@Array.perm_iff_toList_perm
def jV:=@Array.getElem?_eq_some_iff
def Rt:=@looks_findIn
def Rr:=@Nat.xor_comm
def Rq:=@Nat.pow_succ
def Rp:=@Nat.lt_or_ge
def YQ:=@Nat.add_sub_cancel
def Ro:=@Nat.add_comm
def YM:=@List.getElem?_drop
def Rn:=@List.all_map
def Rm:=@Int.ne_of_gt
def Vd:=@wpAny_fieldsOf
def jU:=@codeAny_handlers_suite_as
def jT:=@PySem.F.entry_extend_loop
def jR:=@Nat.ge_two_pow_of_testBit
def jQ:=@Nat.and_xor_distrib_right
def Vc:=@Heap.size_push
def YL:=@wpAny_pyIter_list
def YK:=@wpAny_assign_Name
def jP:=@PySem.F.slot_dict_items
def jO:=@PySem.F.plainAttrs_dict
def jN:=@Nat.testBit_div_two_pow
def Rk:=@Nat.pow_add
def Vb:=@List.take_nil
def Va:=@List.map_take
def jM:=@List.getElem?_replicate
def jL:=@List.eraseIdx_cons_succ
def YJ:=@wpAny_execs_cons
def YH:=@Nat.zero_testBit
def YG:=@List.idxOf?_cons
def jK:=@subscriptTail_builtinR
def jJ:=@codeAny_compStart_list
def jH:=@Nat.lt_of_succ_lt_succ
def YF:=@wpAny_updateSeq
def jG:=@wpAny_isTrue_Compare1
def jF:=@exec_Assign_Name_used
def YD:=@entry_list_sort
def jE:=@codeAny_call_function
def VR:=@Nat.and_comm
def YC:=@List.sum_append
def YB:=@List.range_succ
def X_:=@List.mem_filter
def X8:=@List.length_set
def VP:=@Bool.or_true
def X7:=@sortedHeap_old
def bR:=@slot_list_sort
def bQ:=@fitsIndex_both
def bO:=@args_list_sort
def V5:=@wpAny_of_eq
def V4:=@boot_sorted
def V3:=@Nat.mod_one
def bN:=@sortedHeap_at
def bM:=@listUpdate_at
def QW:=@boot_int
def bL:=@bitNot_bitNot
def bK:=@Nat.add_assoc
def bJ:=@List.map_drop
def bI:=@List.any_cons
def V2:=@wpAny_load
def V1:=@typeIs_int
def bH:=@seqIndex_neg
def bG:=@plain_sorted
def bF:=@entry_sorted
def bC:=@args_sorted1
def bB:=@Nat.zero_xor
def bA:=@Nat.zero_mul
def au:=@Nat.zero_and
def aq:=@Nat.succ_pos
def ao:=@Nat.sub_self
def ak:=@Nat.pow_zero
def aZ:=@Nat.mul_comm
def Zh:=@List.map_nil
end
set_option Elab.async false
set_option maxRecDepth 100000
namespace L2
abbrev Key:=Sum Int Str
noncomputable def Fe:Key->Value->Bool
 | .inl k,v=>Value.isInt k v
 | .inr x,v=>Value.isStrOf x v
noncomputable def Y4 (w:W1):Key->Int
 | .inl k=>hashInt k
 | .inr x=>hashStr w x
theorem Ke:∀{k:Key}{v:W3},Fe k v=true->(∃i t,k=Sum.inl i/\v=Value.int i t)\/(∃x t,k=Sum.inr x/\v=Value.str x t)
 | .inl i,v,h=>by
  obtain⟨t,e⟩:=Value.isInt_shape (k:=i) (v:=v) h;exact .inl ⟨i,t,Z,e⟩
 | .inr x,v,h=>by
  obtain⟨t,e⟩:=Value.isStrOf_shape (x:=x) (v:=v) h;exact .inr ⟨x,t,Z,e⟩
theorem xg(i:Int)(t:Tok):Fe (.inl i) (.int i t)=true:=by simp[Fe,Value.isInt]
theorem xq(x:Str)(t:Tok):Fe (.inr x) (.str x t)=true:=by simp[Fe,Value.isStrOf]
theorem X5z(a b:Int):decide ((Sum.inl a:Key)=Sum.inl b)=(a == b):=by
 by_cases e:a=b
 ·subst e;simp
 ·have h:¬ (Sum.inl a:Key)=Sum.inl b:=λq=>e (Sum.inl.inj q);rw[Df h];exact(beq_eq_false_iff_ne.mpr e).symm
theorem X5w(a b:Str):decide ((Sum.inr a:Key)=Sum.inr b)=decide (a=b):=by
 by_cases e:a=b
 ·subst e;simp
 ·have h:¬ (Sum.inr a:Key)=Sum.inr b:=λq=>e (Sum.inr.inj q);rw[Df h,Df e]
theorem X5y(a:Int)(b:Str):decide ((Sum.inl a:Key)=Sum.inr b)=false:=Df (λq=>nomatch q)
theorem X5x(a:Str)(b:Int):decide ((Sum.inr a:Key)=Sum.inl b)=false:=Df (λq=>nomatch q)
noncomputable def Hq (prog:U8)(w:W1):PySem.KeyKind prog w Key where
 is:=Fe
 hash:=Y4 w
 inj:=λv a b ha hb=>by
  rcases Ke ha with ⟨i,t,rfl,rfl⟩ | ⟨x,t,rfl,rfl⟩
  ·rcases Ke hb with ⟨j,u,rfl,e⟩ | ⟨y,u,rfl,e⟩
   ·injection e with e1 _;rw[e1]
   ·exact nomatch e
  ·rcases Ke hb with ⟨j,u,rfl,e⟩ | ⟨y,u,rfl,e⟩
   ·exact nomatch e
   ·injection e with e1 _;rw[e1]
 byValue:=λk v h=>by
  rcases Ke h with ⟨i,t,rfl,rfl⟩ | ⟨x,t,rfl,rfl⟩<;>rfl
 pyHash:=λhv h=>by
  rcases Ke hv with ⟨i,t,rfl,rfl⟩ | ⟨x,t,rfl,rfl⟩
  ·exact wpAny_pyHash_int h
  ·exact wpAny_pyHash_str h
 eqBool:=λhu hv h=>by
  rcases Ke hu with ⟨i,t,rfl,rfl⟩ | ⟨x,t,rfl,rfl⟩
  ·rcases Ke hv with ⟨j,u,rfl,rfl⟩ | ⟨y,u,rfl,rfl⟩
   ·rw[X5z]at h;exact wpAny_eqBool_int h
   ·rw[X5y]at h;exact SeqAt.EqAt.int_str i t y u _ _ _ _ h
  ·rcases Ke hv with ⟨j,u,rfl,rfl⟩ | ⟨y,u,rfl,rfl⟩
   ·rw[X5x]at h;exact SeqAt.EqAt.str_int x t j u _ _ _ _ h
   ·rw[X5w]at h;exact wpAny_eqBool_str h
 «strs»:=λk x t v h=>by
  rcases Ke h with ⟨i,u,rfl,e⟩ | ⟨y,u,rfl,e⟩
  ·exact nomatch e
  ·injection e with e1 _
   subst e1
   cases v<;>rfl
theorem zX(prog:U8)(w:W1)(i:Int)(t:Tok):(Hq prog w).is (.inl i) (.int i t)=true:=xg i t
theorem zY(prog:U8)(w:W1)(x:Str)(t:Tok):(Hq prog w).is (.inr x) (.str x t)=true:=xq x t
inductive V where
 | non | bl (b:Bool) | int (i:Int) | str (x:Str) | byt (b:Array UInt8) | flt (b:UInt64) | ref (a:Y3) | ty (n:String)
 deriving DecidableEq
def RelV:V->Value->Prop
 | .non,u=>u=Value.none
 | .bl b,u=>u=Value.bool b
 | .int i,u=>∃t,u=Value.int i t
 | .str x,u=>∃t,u=Value.str x t
 | .byt b,u=>∃t,u=Value.bytes b t
 | .flt b,u=>∃t,u=Value.float b t
 | .ref a,u=>u=Value.ref a
 | .ty n,u=>u=Value.type n
abbrev Vals:List V->List Value->Prop:=Paired RelV
variable{us:U5}
theorem Vals.length{xs:List V}(r:Vals xs us):xs.length=us.length:=Paired.length r
theorem Vals.get:∀{xs:List V}{us:U5}{i:Nat}{x:V},Vals xs us->xs[i]?=some x->∃u,us[i]?=some u/\RelV x u
 | _,_,_,_,.nil,e=>by simp at e
 | _,_,0,_,.cons r _,e=>by simp at e;subst e;exact⟨_,rfl,r⟩
 | _,_,i+1,x,.cons _ t,e=>by
  obtain⟨u,h1,h2⟩:=Vals.get (i:=i) (x:=x) t (by simpa using e);exact⟨u,by simpa using h1,h2⟩
theorem Vals.set{x:V}{u:W3}(r:RelV x u):∀{xs:List V}{us:U5} (i:Nat),Vals xs us->Vals (xs.set i x) (us.set i u)
 | _,_,_,.nil=>.nil
 | _,_,0,.cons _ t=>.cons r t
 | _,_,i+1,.cons q t=>.cons q (Vals.set r i t)
theorem Vals.append:∀{xs ys:List V}{us ws:U5},Vals xs us->Vals ys ws->Vals (xs++ys) (us++ws)
 | _,_,_,_,.nil,s=>s
 | _,_,_,_,.cons r t,s=>.cons r (Vals.append t s)
theorem Vals.take:∀{xs:List V}{us:U5} (n:Nat),Vals xs us->Vals (xs.take n) (us.take n)
 | _,_,0,_=>.nil
 | _,_,_+1,.nil=>.nil
 | _,_,n+1,.cons r t=>.cons r (Vals.take n t)
theorem Vals.drop:∀{xs:List V}{us:U5} (n:Nat),Vals xs us->Vals (xs.drop n) (us.drop n)
 | _,_,0,r=>r
 | _,_,_+1,.nil=>.nil
 | _,_,n+1,.cons _ t=>Vals.drop n t
def Eo:Option V->Option Value->Prop
 | some v,some u=>RelV v u
 | none,none=>True
 | _,_=>False
def KV {κ:Type}:List (κ×V)->List (κ×Value)->Prop:=Paired λ(p:κ×V) (q:κ×Value)=>p.1=q.1/\RelV p.2 q.2
noncomputable def kV:Key->V
 | .inl i=>.int i
 | .inr x=>.str x
inductive HO where
 | lst (xs:List V)
 | tup (xs:List V)
 | dK (kvs:List (Key×V)) | dT (kvs:List (List Key×V))
 | set (S:Int->Bool) (n:Nat)
 | ins (C dx:Y3) (fs:List (Str×V))
 | own (x:Y3)
 | xd (fs:List (Str×V))
 | met (f x:Y3)
 | rng (lo hi:Int)
 | frz (o:Obj) (u:HO)
 | tbl (ps:U9)
 | ext (φ:Heap->Prop)
abbrev Hp:=Addr->Option HO
noncomputable def upd (H:Hp)(a:Y3)(o:HO):Hp:=λb=>if b=a then some o else H b
variable{H:Hp}{a:Y3}{o:HO}
theorem Aj:upd H a o a=some o:=by unfold upd;rw[if_pos rfl]
variable{b:Y3}
theorem BK(h:b≠a):upd H a o b=H b:=by unfold upd;rw[if_neg h]
theorem LC{u:HO}(h:H a=some o)(h':H b=some u)(d:o≠u):a≠b:=by
 intro e;subst e;rw[h]at h';exact d (Option.some.inj h')
theorem Le(h:H a=some o)(h':H b=none):a≠b:=by
 intro e;subst e;rw[h]at h';cases h'
section
variable (P:U8) (w:W1)
def Ai (H:Hp)(h:Heap)(a:Y3):HO->Prop
 | .lst xs=>xs.length<=sizeLine/\∃(its:U5) (n:Nat),Vals xs its/\h.get? a=some { cls:=.type "list",data:=.seq its.toArray n}
 | .tup xs=>xs.length<=sizeLine/\∃its:List Value,Vals xs its/\IsTup h a its.toArray
 | .dK kvs=>kvs.length<=sizeLine/\(a == sysModules)=false/\∃vs,KV kvs vs/\h.DictOf (Hq P w) a vs
 | .dT kvs=>kvs.length<=sizeLine/\(a == sysModules)=false/\∃xs:List (List Key×Addr×Value),
   Paired (λ(p:List Key×V) (q:List Key×Addr×Value)=>p.1=q.1/\H q.2.1=some (.tup (p.1.map kV))/\RelV p.2 q.2.2) kvs xs /\
   ∃o es ep,h.get? a=some o/\o.ExactDict/\o.data=.dict es ep/\es.toList=xs.map (entryOfKey (tupleKind (Hq P w)))/\(xs.map (·.1)).Nodup
 | .set S n=>h.SetOf (intKind P w) a S n
 | .ins C dx fs=>H dx=some (.own a)/\fs.length<=1000/\dx≠a/\h.get? a=some (PySem.W.instObj C dx) /\
   ∃mA,h.Ns1 dx mA/\(∀f,Eo (fs.lookup f) (mA f))/\PySem.Within mA (fs.map (·.1))
 | .own _=>∃o,h.get? a=some o
 | .xd fs=>∃mA,h.Ns1 a mA/\∀f,Eo (fs.lookup f) (mA f)
 | .rng lo hi=>∃t u v,h.get? a=some { cls:=.type "range",data:=.fields #[.int lo t,.int hi u,.int 1 v]}
 | .frz o u=>h.get? a=some o/\Ai H h a u
 | .tbl ps=>h.get? a=some { cls:=.none,data:=.fields ps}
 | .met f x=>h.get? a=some (PySem.W.methodObj (.ref f) (.ref x))
 | .ext φ=>φ h/\(∃o,h.get? a=some o)/\∀h1 h2:Heap,φ h1->(∀o,h1.get? a=some o->h2.get? a=some o)->φ h2
def Ds (H:Hp)(h:Heap):Prop:=∀a o,H a=some o->Ai P w H h a o
end
section
variable {P:U8}{w:W1}{H H':Hp}{h h':Heap}{a:Y3}{o:HO}
theorem Ai.lt(x:Ai P w H h a o):a<h.objs.size:=by
 cases o with
 | lst xs=>obtain⟨_,_,_,_,e⟩:=x;exact BP e
 | tup xs=>obtain⟨_,_,_,p⟩:=x;exact p.lt
 | dK kvs=>obtain⟨_,_,_,_,o,_,_,e,_⟩:=x;exact BP e
 | dT kvs=>obtain⟨_,_,_,_,o,_,_,e,_⟩:=x;exact BP e
 | set S n=>obtain⟨o,_,_,_,e,_⟩:=x;exact BP e
 | ins C dx fs=>obtain⟨_,_,_,e,_⟩:=x;exact BP e
 | own y=>obtain⟨_,e⟩:=x;exact BP e
 | xd fs=>obtain⟨_,⟨_,_,_,e,_⟩,_⟩:=x;exact BP e
 | rng lo hi=>obtain⟨_,_,_,e⟩:=x;exact BP e
 | frz ob u=>obtain⟨e,_⟩:=x;exact BP e
 | tbl ps=>exact BP (show h.get? a=some _ from x)
 | met f y=>exact BP (show h.get? a=some _ from x)
 | ext φ=>obtain⟨_,⟨_,e⟩,_⟩:=x;exact BP e
theorem Paired.mapP{α β:Type}{F G:α->β->Prop}:∀{l₁:List α}{l₂:List β},Paired F l₁ l₂->(∀a b,F a b->G a b)->Paired G l₁ l₂
 | _,_,.nil,_=>.nil
 | _,_,.cons r t,f=>.cons (f _ _ r) (Paired.mapP t f)
theorem Paired.imp'{α β:Type}{F G:α->β->Prop}(f:∀a b,F a b->G a b){l₁:List α}{l₂:List β}(r:Paired F l₁ l₂):Paired G l₁ l₂:=Paired.mapP r f
theorem Ai.stay(x:Ai P w H h a o)(k:∀b u,(b=a\/H b=some (.own a))->h.get? b=some u->h'.get? b=some u)
  (ho:∀b,H b=some (.own a)->H' b=some (.own a)) (ht:∀b xs,H b=some (.tup xs)->H' b=some (.tup xs)):Ai P w H' h' a o:=by
 induction o with
 | lst xs=>obtain⟨z,its,n,r,e⟩:=x;exact⟨z,its,n,r,k _ _ (.inl rfl) e⟩
 | tup xs=>obtain⟨z,its,r,g,e,c⟩:=x;exact⟨z,its,r,g,k _ _ (.inl rfl) e,c⟩
 | dK kvs=>obtain⟨z,y,vs,r,g,es,ep,e,c⟩:=x;exact⟨z,y,vs,r,g,es,ep,k _ _ (.inl rfl) e,c⟩
 | dT kvs =>
  obtain⟨z,y,xs,r,g,es,ep,e,c⟩:=x;exact⟨z,y,xs,Paired.mapP r λp q z=>⟨z.1,ht _ _ z.2.1,z.2.2⟩,g,es,ep,k _ _ (.inl rfl) e,c⟩
 | set S n=>obtain⟨g,es,ep,t,e,c⟩:=x;exact⟨g,es,ep,t,k _ _ (.inl rfl) e,c⟩
 | ins C dx fs =>
  obtain⟨d,z,i,e,mA,⟨od,es,ep,j,c⟩,r⟩:=x;exact⟨ho _ d,z,i,k _ _ (.inl rfl) e,mA,⟨od,es,ep,k _ _ (.inr d) j,c⟩,r⟩
 | own y=>obtain⟨g,e⟩:=x;exact⟨g,k _ _ (.inl rfl) e⟩
 | xd fs=>obtain⟨mA,⟨od,es,ep,e,c⟩,r⟩:=x;exact⟨mA,⟨od,es,ep,k _ _ (.inl rfl) e,c⟩,r⟩
 | rng lo hi=>obtain⟨t,u,v,e⟩:=x;exact⟨t,u,v,k _ _ (.inl rfl) e⟩
 | frz g u ih=>obtain⟨e,q⟩:=x;exact⟨k _ _ (.inl rfl) e,ih q⟩
 | tbl ps =>
  have e:h.get? a=some { cls:=.none,data:=.fields ps}:=x;show h'.get? a=some { cls:=.none,data:=.fields ps};exact k a _ (.inl rfl) e
 | met f y =>
  have e:h.get? a=some (PySem.W.methodObj (.ref f) (.ref y)):=x;show h'.get? a=some (PySem.W.methodObj (.ref f) (.ref y));exact k a _ (.inl rfl) e
 | ext φ=>obtain⟨p,⟨o,e⟩,st⟩:=x;exact⟨st _ _ p λo q=>k _ _ (.inl rfl) q,⟨o,k _ _ (.inl rfl) e⟩,st⟩
theorem Ds.lt(x:Ds P w H h)(e:H a=some o):a<h.objs.size:=(x a o e).lt
theorem Ds.fresh(x:Ds P w H h)(e:h.objs.size<=a):H a=none:=by
 cases q:H a with
 | none=>rfl
 | some u=>exact absurd (CK (x.lt q) e) (JL _)
theorem Ds.kept(x:Ds P w H h)(k:∀b u,h.get? b=some u->h'.get? b=some u):Ds P w H h':=λa o e =>
 (x a o e).stay (λb u _ q=>k b u q) (λ_ q=>q) λ_ _ q=>q
theorem Ds.laid(x:Ds P w H h)(k:∀b u,h.get? b=some u->h'.get? b=some u)(hp:h.objs.size<=a)(new:Ai P w (upd H a o) h' a o):Ds P w (upd H a o) h':=λb u e=>by
 have d:=x.fresh hp;by_cases hb:b=a
 ·subst hb;rw[Aj]at e;cases e;exact new
 ·rw[BK hb]at e;exact(x b u e).stay (λc v _ q=>k c v q) (λc q=>by rw[BK (Le q d)];exact q) λc xs q=>by rw[BK (Le q d)];exact q
end
def Rd (H:Hp)(a:Y3)(u:HO):Prop:=H a=some u\/∃o,H a=some (.frz o u)
variable{P:U8}{w:W1}
theorem Rd.ok{h:Heap}{u:HO}(r:Rd H a u)(x:Ds P w H h):Ai P w H h a u:=by
 rcases r with r | ⟨o,r⟩
 ·exact x a u r
 ·obtain⟨_,q⟩:=x a _ r;exact q
def VD:Option HO->Prop
 | some (.lst _)=>True
 | some (.dK _)=>True
 | some (.dT _)=>True
 | some (.set _ _)=>True
 | some (.ins _ _ _)=>True
 | some (.ext _)=>True
 | _=>False
section
variable {P:U8}{w:W1}{H:Hp}{h h':Heap}{x e:Y3}{o':HO}
theorem Ds.write(ok:Ds P w H h)(mu:VD (H x))(he:e=x\/H e=some (.own x))(k:∀b u,b≠e->h.get? b=some u->h'.get? b=some u)(heo:∃u,h'.get? e=some u)
  (new:Ai P w (upd H x o') h' x o'):Ds P w (upd H x o') h':=λb u q=>by
 have a:∀c y,H c=some (.own y)->c≠x:=λc y r z=>by subst z;rw[r]at mu;exact mu
 have d:∀c xs,H c=some (.tup xs)->c≠x:=λc xs r z=>by subst z;rw[r]at mu;exact mu
 by_cases hb:b=x
 ·subst hb;rw[Aj]at q;cases q;exact new
 ·rw[BK hb]at q;by_cases hbe:b=e
  ·have g:H b=some (.own x):=by
    rcases he with z | z
    ·exact absurd (hbe.trans z) hb
    ·rw[hbe];exact z
   rw[q]at g;cases g;obtain⟨v,i⟩:=heo;exact⟨v,by rw[hbe];exact i⟩
  ·refine(ok b u q).stay (λc v f r=>k c v ?_ r) (λc r=>by rw[BK (a c b r)];exact r) λc xs r=>by rw[BK (d c xs r)];exact r
   rcases f with rfl | f
   ·exact hbe
   ·rintro rfl;rcases he with z | z
    ·exact a c b f z
    ·rw[f]at z;cases z;exact hb rfl
end
structure Un (fs ex:U3) (H H':Hp) (h h':Heap):Prop where
 keep:∀b o,h.get? b=some o->H b=none->b∉fs->b∉ex->h'.get? b=some o
 slot:∀b o,h.get? b=some o->H b=none->b∈fs->b∉ex->∃sl,h'.get? b=some {o with slots:=sl}
 free:∀b o,h.get? b=some o->H b=none->b∉ex->H' b=none
 there:∀b o,h.get? b=some o->b∉ex->∃o',h'.get? b=some o'
 tups:∀b xs,H b=some (.tup xs)->H' b=some (.tup xs)
 frzs:∀b o u,H b=some (.frz o u)->H' b=some (.frz o u)
 tbls:∀b ps,H b=some (.tbl ps)->∃more,H' b=some (.tbl (ps++more))
section
variable {fs fs' ex ex':U3}{H H1 H2:Hp}{h h1 h2 h':Heap}{a x e:Y3}{o:HO}
theorem Un.any(u:Un fs ex H H1 h h1){ob:Obj}(q:h.get? b=some ob)(n:H b=none)(hx:b∉ex):∃sl,h1.get? b=some {ob with slots:=sl}:=by
 by_cases hb:b∈fs
 ·exact u.slot b ob q n hb hx
 ·exact⟨ob.slots,u.keep b ob q n hb hx⟩
theorem Un.kept(k:∀b u,h.get? b=some u->h'.get? b=some u):Un fs ex H H h h' :=
 ⟨λb a q _ _ _=>k b a q,λb a q _ _ _=>⟨a.slots,k b a q⟩,λ_ _ _ n _=>n,λb a q _=>⟨a,k b a q⟩,λ_ _ q=>q,λ_ _ _ q=>q,λ_ ps q=>⟨#[],by rw[q];simp⟩⟩
theorem Un.refl:Un fs ex H H h h:=Un.kept λ_ _ q=>q
theorem Un.laid(k:∀b u,h.get? b=some u->h'.get? b=some u)(hp:h.objs.size<=a)(hn:H a=none):Un fs ex H (upd H a o) h h' where
 keep:=λb u q _ _ _=>k b u q
 slot:=λb u q _ _ _=>⟨u.slots,k b u q⟩
 free:=λb u q n _=>by rw[BK (B_ (CK (BP q) hp))];exact n
 there:=λb u q _=>⟨u,k b u q⟩
 tups:=λb xs q=>by rw[BK (Le q hn)];exact q
 frzs:=λb u xs q=>by rw[BK (Le q hn)];exact q
 tbls:=λb ps q=>⟨#[],by rw[BK (Le q hn),q];simp⟩
theorem Un.write(mu:VD (H x))(he:e=x\/H e=some (.own x))(k:∀b u,b≠e->h.get? b=some u->h'.get? b=some u)(heo:∃u,h'.get? e=some u):Un fs ex H (upd H x o) h h':=by
 have c:∀b,H b=none->b≠x:=λb n z=>by subst z;rw[n]at mu;exact mu
 have d:∀b,H b=none->b≠e:=λb n z=>by
  subst z;rcases he with r | r
  ·exact c b n r
  ·rw[n]at r;cases r
 have a:∀b u,H b=some u->¬ VD (some u)->b≠x:=λb u q nm z=>by subst z;rw[q]at mu;exact nm mu
 refine⟨λb u q n _ _=>k b u (d b n) q,λb u q n _ _=>⟨u.slots,k b u (d b n) q⟩,λb u q n _=>by rw[BK (c b n)];exact n,λb u q _=>?_,
  λb xs q=>by rw[BK (a b _ q λz=>z)];exact q,λb u xs q=>by rw[BK (a b _ q λz=>z)];exact q,λb ps q=>⟨#[],by rw[BK (a b _ q λz=>z),q];simp⟩⟩
 by_cases hbe:b=e
 ·subst hbe;exact heo
 ·exact⟨u,k b u hbe q⟩
end
noncomputable def VL (h:Heap)(H:Hp):List Addr:=(List.range h.objs.size).filter λa=>(H a).isSome
noncomputable def Gs (h:Heap)(H:Hp):Heap:=PySem.W.hideAll h (VL h H)
theorem xX(h:Heap)(H:Hp):(Gs h H).objs.size=h.objs.size:=PySem.W.hideAll_size _ _
variable{o:Obj}
theorem vV{h:Heap}(e:h.get? b=some o)(n:H b=none):(Gs h H).get? b=some o :=
 PySem.W.hideAll_get _ e λa=>by
  have q:(H b).isSome=true:=(X_.mp a).2;rw[n]at q;simp at q
theorem X2v{h:Heap}(e:(Gs h H).get? b=some o):h.get? b=some o/\H b=none:=by
 have a:h.get? b=some o:=PySem.W.of_hideAll (VL h H) e;refine⟨a,?_⟩;cases q:H b with
 | none=>rfl
 | some x =>
  have c:b∈VL h H:=X_.mpr ⟨Fb.mpr (BP a),by simp[q]⟩;have z:(Gs h H).get? b=none:=PySem.W.hideAll_none (VL h H) c;rw[z]at e;cases e
structure Mod (K:U0) (mg:U4) (base:Heap):Prop where
 kin:K.In base
 glob:base.Ns mainGlobals mg
 blt:∃mb,base.Ns builtinsNs mb/\∀x:Str,x≠"__name__"->mb x=bootBuiltins x
 nolimit:base.NoLimit
structure Cx where
 prog:Program
 w:World
 K:U0
 mg:Str->Option Value
 base:Heap
 A:Around
 N:List Str
 s₀:Shared
 H₀:Hp
 env:Env
 outer:List Env
 stack:List Env
 ex:List Addr
 fn:Str->Bool
 calm:Bool
 pn:List (Addr×Obj)
 xe:Value->Shared->Prop
noncomputable def frs (l:List Env):List Addr:=l.filterMap (·.frame)
noncomputable abbrev Cx.fs (X:Cx):List Addr:=frs X.outer
def Ux (sc:Scope)(x:Str):Prop:=sc.names.lookup x=some .local\/sc.names.lookup x=some .cell\/sc.names.lookup x=some .free
def Loc (sc:Scope)(x:Str):Prop:=sc.names.lookup x=some .local\/sc.names.lookup x=some .cell
def Look (env:Env)(h:Heap)(m:U4)(x:Str)(u:W3):Prop :=
 (env.kindOf x=some .local/\m x=some u)\/((env.kindOf x=some .cell\/env.kindOf x=some .free)/\∃c,env.cells.lookup x=some c/\h.IsCell c (some u))
structure Cx.Ok (X:Cx):Prop where
 mod:Mod X.K X.mg X.base
 kind:X.env.scope.kind=.function
 glob:X.env.globals=mainGlobals
 blt:X.env.builtins=builtinsNs
 above:X.s₀.heap.objs.size<=X.env.locals
 inj:∀x y c,X.env.cells.lookup x=some c->X.env.cells.lookup y=some c->x=y
 has:∀x,(X.env.kindOf x=some .cell\/X.env.kindOf x=some .free)->∃c,X.env.cells.lookup x=some c
 cab:∀x c,X.fn x=true->X.env.cells.lookup x=some c->X.s₀.heap.objs.size<=c
 hd:X.calm=true->X.A.handled=none
 frames:X.A.frames=some X.stack
 stk:X.stack=X.outer\/(X.stack=X.env::X.outer/\X.env.frame=some X.env.locals)
 exf:∀b∈X.ex,b≠X.env.locals/\∀x c,X.env.cells.lookup x=some c->c≠b
 bs:∀b o,X.base.get? b=some o->X.s₀.heap.get? b=some o/\X.H₀ b=none
 bsz:X.base.objs.size<=X.s₀.heap.objs.size
 noex:∀b o,X.base.get? b=some o->b∉X.ex
 exfs:∀b∈X.ex,b∉X.fs
 funs:X.s₀.heap.FunFrames X.base X.outer
 frf:∀b∈X.fs,X.H₀ b=none
structure Inv (X:Cx) (pins:U1) (σ:List (Option V)) (H:Hp) (s:U7):Prop where
 ok:X.Ok
 os:s.os=X.s₀.os
 bare:AllBare s.gens
 base:Un X.fs X.ex X.H₀ H X.s₀.heap s.heap
 loc:∃m,s.heap.Ns X.env.locals m/\∀(i:Nat) (x:Str) (v:V),X.N[i]?=some x->σ[i]?=some (some v)->Ux X.env.scope x->∃u,RelV v u/\Look X.env s.heap m x u
 cell:∀x c,X.env.cells.lookup x=some c->∃v,s.heap.IsCell c v
 free:H X.env.locals=none
 freeC:∀x c,X.env.cells.lookup x=some c->H c=none
 pin:∀p∈X.pn++pins,s.heap.get? p.1=some p.2/\H p.1=none/\p.1≠X.env.locals/\p.1∉X.fs/\∀v,p.2.data≠.cell v
 hok:Ds X.prog X.w H s.heap
 len:σ.length=X.N.length
section
variable {X:Cx}{pins:U1}{σ:List (Option V)}{H H':Hp}{s:U7}{h':Heap}
theorem Cx.Ok.nofr(ok:X.Ok)(e:X.base.get? b=some o):b∉X.fs:=λa=>by
 have:=(ok.funs.mem a).1;rw[e]at this;cases this
theorem Inv.bs(I:Inv X pins σ H s):∀b o,X.base.get? b=some o->s.heap.get? b=some o/\H b=none:=λb o e =>
 ⟨I.base.keep b o (I.ok.bs b o e).1 (I.ok.bs b o e).2 (I.ok.nofr e) (I.ok.noex b o e),I.base.free b o (I.ok.bs b o e).1 (I.ok.bs b o e).2 (I.ok.noex b o e)⟩
theorem Inv.bk(I:Inv X pins σ H s):∀b o,X.base.get? b=some o->s.heap.get? b=some o:=λb o e=>(I.bs b o e).1
theorem Inv.mod(I:Inv X pins σ H s):Mod X.K X.mg X.base:=I.ok.mod
theorem Inv.kIn(I:Inv X pins σ H s):X.K.In s.heap:=I.ok.mod.kin.keeps I.bk
theorem Inv.lt(I:Inv X pins σ H s):X.env.locals<s.heap.objs.size:=let ⟨_,hn,_⟩:=I.loc;hn.lt
theorem Inv.sz(I:Inv X pins σ H s):X.s₀.heap.objs.size<=s.heap.objs.size:=Eh I.ok.above (JK I.lt)
theorem Inv.nofs(I:Inv X pins σ H s)(h:s.heap.objs.size<=a):a∉X.fs:=λc=>by
 obtain⟨_,o,b,_⟩:=I.ok.funs.mem c;exact absurd (CK (BP b) (Eh I.sz h)) (JL _)
theorem Inv.cne(I:Inv X pins σ H s):∀x c,X.env.cells.lookup x=some c->c≠X.env.locals:=λx c e z=>by
 obtain⟨v,o,d,f⟩:=I.cell x c e;obtain⟨m,⟨o',es,ep,a,b,_⟩,_⟩:=I.loc;rw[z,a]at d;cases d;rw[b]at f;cases f
theorem Inv.funs(I:Inv X pins σ H s):s.heap.FunFrames X.base X.outer:=by
 have all:∀(l:List Env),(∀b∈frs l,b∈X.fs)->X.s₀.heap.FunFrames X.base l->s.heap.FunFrames X.base l:=by
  intro l;induction l with
  | nil=>intro _ _;trivial
  | cons env r ih =>
   intro f m;obtain⟨k,⟨L,o,a,j,g,h⟩,i⟩:=m;have c:L∈X.fs:=f L (by unfold frs;rw[YT,a];exact Iu);obtain⟨n,e⟩:=I.base.slot L o g (I.ok.frf L c) c λz=>I.ok.exfs L z c;exact⟨k,⟨L,_,a,j,e,h⟩,ih (λb d=>f b (by unfold frs;rw[YT,a];exact Iv _ d)) i⟩
 exact all X.outer (λ_ d=>d) I.ok.funs
theorem Inv.stack(I:Inv X pins σ H s):s.heap.FunFrames X.base X.stack:=by
 rcases I.ok.stk with e | ⟨e,hf⟩
 ·rw[e];exact I.funs
 ·rw[e];obtain⟨m,a,_⟩:=I.loc;refine .cons (by rw[I.ok.kind];decide) hf a ?_ I.funs;exact Vr (Eh I.ok.bsz I.ok.above)
theorem Inv.stkSub(I:Inv X pins σ H s):∀b∈frs X.stack,b∈X.env.locals::X.fs:=λb a=>by
 rcases I.ok.stk with e | ⟨e,hf⟩
 ·rw[e]at a;exact Iv _ a
 ·rw[e]at a;unfold frs at a;rw[YT,hf]at a;exact a
theorem Inv.stkFree(I:Inv X pins σ H s):∀b∈frs X.stack,H b=none:=λb a=>by
 rcases Cz.mp (I.stkSub b a) with e | a
 ·rw[e];exact I.free
 ·obtain⟨_,o,c,_⟩:=I.ok.funs.mem a;exact I.base.free b o c (I.ok.frf b a) λz=>I.ok.exfs b z a
variable{g':Array GenState}{t':Nat}{d':Drawn}{ch:U3}
theorem Inv.step(I:Inv X pins σ H s)
  (hch:∀b∈ch,(b∈X.ex\/X.s₀.heap.objs.size<=b)/\b≠X.env.locals/\(∀x c,X.env.cells.lookup x=some c->c≠b)/\∀p∈X.pn++pins,p.1≠b)
  (keep:∀b o,b≠X.env.locals->b∉X.fs->b∉ch->s.heap.get? b=some o->H b=none->h'.get? b=some o)
  (slot:∀b o,b≠X.env.locals->b∈X.fs->b∉ch->s.heap.get? b=some o->H b=none->∃C,h'.get? b=some {o with slots:=C}) (free:∀b o,b∉ch->s.heap.get? b=some o->H b=none->H' b=none)
  (there:∀b o,b∉ch->s.heap.get? b=some o->∃o',h'.get? b=some o')
  (tups:∀b xs,H b=some (.tup xs)->H' b=some (.tup xs)) (frzs:∀b o u,H b=some (.frz o u)->H' b=some (.frz o u)) (tbls:∀b ps,H b=some (.tbl ps)->∃more,H' b=some (.tbl (ps++more)))
  (ns:∀m,s.heap.Ns X.env.locals m->h'.Ns X.env.locals m) (hok:Ds X.prog X.w H' h') (hg:AllBare g'):
  Inv X pins σ H' {s with heap:=h',gens:=g',drawn:=d',toks:=t'}:=by
 have B:∀b o,X.s₀.heap.get? b=some o->b≠X.env.locals:=λb o e=>B_ (CK (BP e) I.ok.above);have h:∀b o,X.s₀.heap.get? b=some o->b∉X.ex->b∉ch:=λb o e a t=>by
  rcases (hch b t).1 with z | z
  ·exact a z
  ·exact absurd (CK (BP e) z) (JL _)
 have g:∀x c,X.env.cells.lookup x=some c->∀v,s.heap.IsCell c v->h'.IsCell c v:=λx c e v ⟨o,y,D⟩=>by
  have f:c∉ch:=λz=>(hch c z).2.2.1 x c e rfl;by_cases hc:c∈X.fs
  ·obtain⟨C,q⟩:=slot c o (I.cne x c e) hc f y (I.freeC x c e);exact⟨_,q,D⟩
  ·exact⟨o,keep c o (I.cne x c e) hc f y (I.freeC x c e),D⟩
 refine⟨I.ok,I.os,hg,⟨λb o e n t a=>?_,λb o e n t a=>?_,λb o e n a=>?_,λb o e a=>?_,λb xs e=>tups b xs (I.base.tups b xs e),λb o xs e=>frzs b o xs (I.base.frzs b o xs e),λb ps e=>?_⟩,?_,λx c e=>?_,?_,λx c e=>?_,λp hp=>?_,hok,I.len⟩
 ·exact keep b o (B b o e) t (h b o e a) (I.base.keep b o e n t a) (I.base.free b o e n a)
 ·obtain⟨C,j⟩:=I.base.slot b o e n t a;obtain⟨E,A⟩:=slot b _ (B b o e) t (h b o e a) j (I.base.free b o e n a);exact⟨E,A⟩
 ·obtain⟨o',j⟩:=I.base.there b o e a;exact free b o' (h b o e a) j (I.base.free b o e n a)
 ·obtain⟨o',j⟩:=I.base.there b o e a;exact there b o' (h b o e a) j
 ·obtain⟨J,j⟩:=I.base.tbls b ps e;obtain⟨L,A⟩:=tbls b _ j;exact⟨J++L,by rw[A,Array.append_assoc]⟩
 ·obtain⟨m,M,N⟩:=I.loc;refine⟨m,ns m M,λi x v j A K=>?_⟩;obtain⟨u,r,l⟩:=N i x v j A K;refine⟨u,r,?_⟩;rcases l with l | ⟨k,c,e,z⟩
  ·exact .inl l
  ·exact .inr ⟨k,c,e,g x c e _ z⟩
 ·obtain⟨v,z⟩:=I.cell x c e;exact⟨v,g x c e v z⟩
 ·obtain⟨m,⟨o,_,_,y,_⟩,_⟩:=I.loc;exact free _ o (λz=>(hch _ z).2.1 rfl) y I.free
 ·obtain⟨v,o,y,D⟩:=I.cell x c e;exact free c o (λz=>(hch c z).2.2.1 x c e rfl) y (I.freeC x c e)
 ·obtain⟨e,n,F,G,d⟩:=I.pin p hp;have f:p.1∉ch:=λz=>(hch p.1 z).2.2.2 p hp rfl;exact⟨keep p.1 p.2 F G f e n,free p.1 p.2 f e n,F,G,d⟩
theorem Inv.un(I:Inv X pins σ H s)(u:Un X.fs [] H H' s.heap h')(hok:Ds X.prog X.w H' h'):Inv X pins σ H' {s with heap:=h',toks:=t'}:=by
 obtain⟨m,⟨o,es,ep,g,r⟩,_⟩:=id I.loc;obtain⟨k,i⟩:=u.any g I.free (by simp)
 exact I.step (g':=s.gens) (d':=s.drawn) (ch:=[]) (λ_ z=>nomatch z) (λb o _ f _ e n=>u.keep b o e n f (by simp)) (λb o _ f _ e n=>u.slot b o e n f (by simp)) (λb o _ e n=>u.free b o e n (by simp)) (λb o _ e=>u.there b o e (by simp)) u.tups u.frzs u.tbls (λm' h=>by
  obtain⟨o',c,d,a,j⟩:=h
  rw[g]at a;cases a
  exact⟨_,c,d,i,j⟩) hok I.bare
theorem Inv.call(I:Inv X pins σ H s)(u:Un (frs X.stack) ch H H' s.heap h')(hok:Ds X.prog X.w H' h')(hg:AllBare g')
  (hch:∀b∈ch,(b∈X.ex\/X.s₀.heap.objs.size<=b)/\b≠X.env.locals/\(∀x c,X.env.cells.lookup x=some c->c≠b)/\∀p∈X.pn++pins,p.1≠b):
  Inv X pins σ H' {s with heap:=h',gens:=g',drawn:=d',toks:=t'}:=by
 obtain⟨m,⟨o,es,ep,i,r⟩,_⟩:=id I.loc;obtain⟨q,g⟩:=u.any i I.free λz=>(hch _ z).2.1 rfl
 exact I.step (ch:=ch) hch (λb o g l a e n=>u.keep b o e n (λz=>(Cz.mp (I.stkSub b z)).elim g l) a) (λb o _ _ a e n=>u.any e n a) (λb o a e n=>u.free b o e n a) (λb o a e=>u.there b o e a) u.tups u.frzs u.tbls (λm' j=>by
  obtain⟨o',f,h,d,k⟩:=j
  rw[i]at d;cases d
  exact⟨_,f,h,g,k⟩) hok hg
theorem Inv.turned{it:Y3}(I:Inv X pins σ H s)(k:∀b o,b≠it->s.heap.get? b=some o->h'.get? b=some o)(hn:H it=none)(hL:it≠X.env.locals)
  (h1:it∈X.ex\/X.s₀.heap.objs.size<=it) (h2:∀x c,X.env.cells.lookup x=some c->c≠it) (h3:∀p∈X.pn++pins,p.1≠it):Inv X pins σ H {s with heap:=h',toks:=t'}:=by
 have d:∀b u,H b=some u->b≠it:=λb u e z=>by rw[z,hn]at e;cases e
 refine I.step (g':=s.gens) (d':=s.drawn) (ch:=[it]) (λb h=>?_) (λb o _ _ a e _=>k b o (λz=>a (by simp[z])) e) (λb o _ _ a e _=>⟨o.slots,k b o (λz=>a (by simp[z])) e⟩) (λ_ _ _ _ n=>n)
  (λb o a e=>⟨o,k b o (λz=>a (by simp[z])) e⟩) (λ_ _ e=>e) (λ_ _ _ e=>e) (λb ps e=>⟨#[],by rw[e];simp⟩) (λm f=>?_) (λb u e=>?_) I.bare
 ·have e:b=it:=by simpa using h
  subst e;exact⟨h1,hL,h2,h3⟩
 ·obtain⟨o,es,ep,g,r⟩:=f;exact⟨o,es,ep,k _ o (Ne.symm hL) g,r⟩
 ·refine(I.hok b u e).stay (λc v a q=>k c v ?_ q) (λ_ q=>q) λ_ _ q=>q;rcases a with z | z
  ·rw[z];exact d b u e
  ·exact d c _ z
theorem Inv.tok(I:Inv X pins σ H s)(t:Nat):Inv X pins σ H {s with toks:=t}:=I.un (h':=s.heap) (t':=t) Un.refl I.hok
theorem Inv.kept(I:Inv X pins σ H s)(k:∀b u,s.heap.get? b=some u->h'.get? b=some u):Inv X pins σ H {s with heap:=h',toks:=t'}:=I.un (Un.kept k) (I.hok.kept k)
theorem Inv.laid{o:HO}(I:Inv X pins σ H s)(k:∀b u,s.heap.get? b=some u->h'.get? b=some u)(hp:s.heap.objs.size<=a)(new:Ai X.prog X.w (upd H a o) h' a o):
  Inv X pins σ (upd H a o) {s with heap:=h',toks:=t'}:=I.un (Un.laid k hp (I.hok.fresh hp)) (I.hok.laid k hp new)
theorem Inv.write{x e:Y3}{o:HO}(I:Inv X pins σ H s)(mu:VD (H x))(he:e=x\/H e=some (.own x))(k:∀b u,b≠e->s.heap.get? b=some u->h'.get? b=some u)(heo:∃u,h'.get? e=some u)
  (new:Ai X.prog X.w (upd H x o) h' x o):Inv X pins σ (upd H x o) {s with heap:=h',toks:=t'}:=I.un (Un.write mu he k heo) (I.hok.write mu he k heo new)
theorem Inv.pins_of{pins':U1}(I:Inv X pins σ H s)(h:∀p∈pins',s.heap.get? p.1=some p.2/\H p.1=none/\p.1≠X.env.locals/\p.1∉X.fs/\∀v,p.2.data≠.cell v):Inv X pins' σ H s :=
 ⟨I.ok,I.os,I.bare,I.base,I.loc,I.cell,I.free,I.freeC,λp hp=>(E_.mp hp).elim (λz=>I.pin p (JQ _ z)) (h p),I.hok,I.len⟩
variable{i:Nat}{x:Str}
theorem eX{N:W0}(hN:N.Nodup){j:Nat}(a:N[i]?=some x)(b:N[j]?=some x):i=j:=by
 obtain⟨h1,d⟩:=Cv.mp a;obtain⟨h2,c⟩:=Cv.mp b;exact(List.getElem_inj hN).mp (d.trans c.symm)
variable{Q:Unit->Shared->Prop}
theorem fW{M:Model}{A:Y0}{E:U2}{v:V}{u:W3}(I:Inv X pins σ H s)(hN:X.N.Nodup)(hi:X.N[i]?=some x)(B:Loc X.env.scope x)(r:RelV v u)
  (h:∀s',Inv X pins (σ.set i (some v)) H s'->(∃a,Heap.SameBut a s.heap s'.heap/\(a=X.env.locals\/X.env.cells.lookup x=some a))->Q () s') (hf:X.fn x=true\/X.env.scope.names.lookup x=some .local:=by first | exact .inl rfl | exact .inr rfl | assumption):wpAny M A (storeName X.env x u) Q E s:=by
 obtain⟨m,hn,hl⟩:=id I.loc;have K:(X.env.scope.kind == .class || (X.env.scope.kind == .module && X.env.locals != X.env.globals))=false:=by rw[I.ok.kind];rfl
 have O:i<σ.length:=by rw[I.len];exact(Cv.mp hi).1
 have cne:=I.cne;have g:∀{a:Y3}{h':Heap},(∃o,s.heap.get? a=some o/\H a=none)->Heap.SameBut a s.heap h'->Ds X.prog X.w H h':=λ{a h'} ha f b ob e=>by
  obtain⟨_,_,C⟩:=ha;refine(I.hok b ob e).stay (λc T t q=>(f.2 c ?_).trans q) (λ_ q=>q) λ_ _ q=>q;rintro rfl;rcases t with rfl | t
  ·rw[C]at e;cases e
  ·rw[C]at t;cases t
 rcases B with hk | hk
 ·refine wpAny_storeName_local hk hn (λh' a0 f=>?_) K;obtain⟨oL,_,_,a1,_⟩:=id hn;refine h _ ⟨I.ok,I.os,I.bare,⟨λb o e n G B=>?_,λb o e n G B=>?_,I.base.free,λb o e B=>?_,I.base.tups,I.base.frzs,I.base.tbls⟩,⟨_,a0,λj y v' l D Z=>?_⟩,λy c e=>?_,I.free,I.freeC,λp hp=>?_,g ⟨oL,a1,I.free⟩ f,by simpa using I.len⟩ ⟨_,f,.inl rfl⟩
  ·exact(f.2 b (B_ (CK (BP e) I.ok.above))).trans (I.base.keep b o e n G B)
  ·obtain⟨W,l⟩:=I.base.slot b o e n G B;exact⟨W,(f.2 b (B_ (CK (BP e) I.ok.above))).trans l⟩
  ·obtain⟨o',l⟩:=I.base.there b o e B;exact⟨o',(f.2 b (B_ (CK (BP e) I.ok.above))).trans l⟩
  ·by_cases hj:j=i
   ·subst hj;rw[hi]at l;cases l;rw[Yj O]at D;cases D;exact⟨u,r,.inl ⟨hk,by simp⟩⟩
   ·rw[YX (Ne.symm hj)]at D;obtain⟨U,r',q⟩:=hl j y v' l D Z;refine⟨U,r',?_⟩;rcases q with ⟨k,e⟩ | ⟨k,c,e,z⟩
    ·refine .inl ⟨k,?_⟩;have:y≠x:=λe=>hj (eX hN l (e ▸ hi));simp[this,e]
    ·exact .inr ⟨k,c,e,z.sameBut f (cne y c e)⟩
  ·obtain⟨T,z⟩:=I.cell y c e;exact⟨T,z.sameBut f (cne y c e)⟩
  ·obtain⟨e,n,R,Y,d⟩:=I.pin p hp;exact⟨(f.2 p.1 R).trans e,n,R,Y,d⟩
 ·have F:X.fn x=true:=by
   rcases hf with z | z
   ·exact z
   ·rw[z]at hk;cases hk
  obtain⟨c,t⟩:=I.ok.has x (.inl hk);obtain⟨T,z⟩:=I.cell x c t;refine wpAny_storeName_cell I.ok.kind hk t z (λh' L f=>?_);obtain⟨oc,J,P⟩:=id z;refine h {s with heap:=h'} ⟨I.ok,I.os,I.bare,⟨λb o e n G B=>?_,λb o e n G B=>?_,I.base.free,λb o e B=>?_,I.base.tups,I.base.frzs,I.base.tbls⟩,⟨m,hn.sameBut f (Ne.symm (cne x c t)),λj y v' l D Z=>?_⟩,λy S e=>?_,I.free,I.freeC,λp hp=>?_,g ⟨oc,J,I.freeC x c t⟩ f,by simpa using I.len⟩ ⟨c,f,.inr t⟩
  ·exact(f.2 b (B_ (CK (BP e) (I.ok.cab x c F t)))).trans (I.base.keep b o e n G B)
  ·obtain⟨W,l⟩:=I.base.slot b o e n G B;exact⟨W,(f.2 b (B_ (CK (BP e) (I.ok.cab x c F t)))).trans l⟩
  ·obtain⟨o',l⟩:=I.base.there b o e B;exact⟨o',(f.2 b (B_ (CK (BP e) (I.ok.cab x c F t)))).trans l⟩
  ·by_cases hj:j=i
   ·subst hj;rw[hi]at l;cases l;rw[Yj O]at D;cases D;exact⟨u,r,.inr ⟨.inl hk,c,t,L⟩⟩
   ·rw[YX (Ne.symm hj)]at D;obtain⟨U,r',q⟩:=hl j y v' l D Z;refine⟨U,r',?_⟩;rcases q with q | ⟨k,S,e,z'⟩
    ·exact .inl q
    ·refine .inr ⟨k,S,e,z'.sameBut f ?_⟩;rintro rfl;exact hj (eX hN l (I.ok.inj _ _ _ e t ▸ hi))
  ·by_cases hcc:S=c
   ·subst hcc;exact⟨_,L⟩
   ·obtain⟨w2,z2⟩:=I.cell y S e;exact⟨w2,z2.sameBut f hcc⟩
  ·obtain⟨e,n,R,Y,d⟩:=I.pin p hp;refine⟨(f.2 p.1 ?_).trans e,n,R,Y,d⟩;intro q;rw[q,J]at e;have q':oc=p.2:=Option.some.inj e;exact d T (by rw[<-q'];exact P)
theorem Wa{M:Model}{A:Y0}{E:U2}{v:V}{u:W3}(I:Inv X pins σ H s)(hN:X.N.Nodup)(hi:X.N[i]?=some x)(hx:Loc X.env.scope x)(r:RelV v u)
  (h:∀s',Inv X pins (σ.set i (some v)) H s'->Q () s') (hf:X.fn x=true\/X.env.scope.names.lookup x=some .local:=by first | exact .inl rfl | exact .inr rfl | assumption):wpAny M A (storeName X.env x u) Q E s :=
 fW I hN hi hx r (λs' a _=>h s' a) hf
theorem Inv.call'{s':U7}(I:Inv X pins σ H s)(ho:s'.os=s.os)(u:Un (frs X.stack) ch H H' s.heap s'.heap)(hok:Ds X.prog X.w H' s'.heap)(hg:AllBare s'.gens)
  (hch:∀b∈ch,(b∈X.ex\/X.s₀.heap.objs.size<=b)/\b≠X.env.locals/\(∀x c,X.env.cells.lookup x=some c->c≠b)/\∀p∈X.pn++pins,p.1≠b):Inv X pins σ H' s':=by
 obtain⟨h',g',d',t',o'⟩:=s';have e:o'=s.os:=ho;subst e;exact I.call (g':=g') (t':=t') (d':=d') u hok hg hch
end
abbrev XK:=Value->Option Addr->Hp->Prop
abbrev St:=List (Option V)
abbrev VK:=V->Hp->Prop
abbrev TE:=St->Hp->VK->Prop
abbrev TT:=St->Hp->(Bool->Hp->Prop)->Prop
abbrev TA:=St->Hp->(List V->Hp->Prop)->Prop
structure Ends where
 nx:St->Hp->Prop
 rt:VK
 bk:St->Hp->Prop:=λ_ _=>False
 ct:St->Hp->Prop:=λ_ _=>False
abbrev TS:=Ends->St->Hp->Prop
def EP (X:Cx)(pins:U1)(σ:St)(Q:VK)(u:W3)(s':U7):Prop:=∃v H',Inv X pins σ H' s'/\RelV v u/\Q v H'
def TP (X:Cx)(pins:U1)(σ:St)(Q:Bool->Hp->Prop)(b:Bool)(s':U7):Prop:=∃H',Inv X pins σ H' s'/\Q b H'
def AP (X:Cx)(pins:U1)(σ:St)(Q:List V->Hp->Prop)(us:U5)(s':U7):Prop:=∃vs H',Inv X pins σ H' s'/\Vals vs us/\Q vs H'
def SP (X:Cx)(pins:U1)(D:Ends)(f:Flow)(s':U7):Prop :=
 match f with
 | .next=>∃σ' H',Inv X pins σ' H' s'/\D.nx σ' H'
 | .brk=>∃σ' H',Inv X pins σ' H' s'/\D.bk σ' H'
 | .cont=>∃σ' H',Inv X pins σ' H' s'/\D.ct σ' H'
 | .ret u=>∃v σ' H',Inv X pins σ' H' s'/\RelV v u/\D.rt v H'
def PE (X:Cx)(e:Expr)(t:TE):Prop :=
 ∀(pins:U1) (s:U7) (σ:St) (H:Hp) (Q:VK),Inv X pins σ H s->t σ H Q->wpAny (model X.prog X.w) X.A (eval e X.env) (EP X pins σ Q) X.xe s
def PT (X:Cx)(e:Expr)(t:TT):Prop :=
 ∀(pins:U1) (s:U7) (σ:St) (H:Hp) (Q:Bool->Hp->Prop),Inv X pins σ H s->t σ H Q->wpAny (model X.prog X.w) X.A (isTrue e X.env (eval e X.env)) (TP X pins σ Q) X.xe s
def PW (X:Cx)(e:Expr)(t:TT):Prop :=
 ∀(whole:Sem Value) (pins:U1) (s:U7) (σ:St) (H:Hp) (Q:Bool->Hp->Prop),Inv X pins σ H s->t σ H Q->wpAny (model X.prog X.w) X.A (isTrue e X.env whole) (TP X pins σ Q) X.xe s
variable{X:Cx}{e:Expr}
theorem PW.pt{t:TT}(h:PW X e t):PT X e t:=h _
def PA (X:Cx)(es:List Expr)(t:TA):Prop :=
 ∀(pos:Pos) (pins:U1) (s:U7) (σ:St) (H:Hp) (Q:List V->Hp->Prop),Inv X pins σ H s->t σ H Q->wpAny (model X.prog X.w) X.A (spliced (backTo pos (starEach es X.env))) (AP X pins σ Q) X.xe s
def PS (X:Cx)(st:Stmt)(t:TS):Prop :=
 ∀(pins:U1) (s:U7) (σ:St) (H:Hp) (D:Ends),Inv X pins σ H s->t D σ H->wpAny (model X.prog X.w) X.A (exec st X.env) (SP X pins D) X.xe s
def Eu (X:Cx)(st:Y2)(t:TS):Prop :=
 ∀(pins:U1) (s:U7) (σ:St) (H:Hp) (D:Ends),Inv X pins σ H s->t D σ H->wpAny (model X.prog X.w) X.A (execs st X.env) (SP X pins D) X.xe s
variable{A:Y0}{s:U7}
theorem A_{α:Type}{t:Sem α}{Q Q':α->Shared->Prop}{M:Model}{E:U2}(h:wpAny M A t Q E s)(hQ:∀a s,Q a s->Q' a s):wpAny M A t Q' E s:=Dp h hQ λ_ _ x=>x
section
variable {X:Cx}
def Q_ (i:Nat):TE:=λσ H Q=>∃v,σ[i]?=some (some v)/\Q v H
def tC (v:V):TE:=λ_ H Q=>Q v H
variable{x:Str}{pos:Pos}
theorem X5d{i:Nat}(hN:X.N[i]?=some x)(hv:Ux X.env.scope x)(hd:(x == ("__debug__":Str))=false:=by decide)(hcd:(x == ("__classdict__":Str))=false:=by decide):PE X (.Name x pos) (Q_ i):=by
 intro pins s σ H Q I h;obtain⟨v,e,h⟩:=h;obtain⟨m,d,b⟩:=I.loc;obtain⟨u,r,l⟩:=b i x v hN e hv;have a:EP X pins σ Q u s:=⟨v,H,I,r,h⟩;rcases l with ⟨hk,hm⟩ | ⟨hk,c,hc,hcell⟩
 ·exact wpAny_Name (wpAny_loadName_local I.ok.kind hk d hm a) hd
 ·rcases hk with hk | hk
  ·exact wpAny_Name (wpAny_loadName_cell I.ok.kind hk hc hcell a) hd
  ·exact wpAny_Name (wpAny_loadName_free I.ok.kind hk hc hcell a hcd) hd
theorem Ae{i j pos}:PE X (.Constant (.int i) j pos) (tC (.int i)):=λ_ _ _ H _ I h=>wpAny_Constant_int ⟨.int i,H,I.tok _,⟨_,Z⟩,h⟩
theorem EY{b j pos}:PE X (.Constant (.bool b) j pos) (tC (.bl b)):=λ_ _ _ H _ I h=>Constant_bool ⟨.bl b,H,I,Z,h⟩
theorem Gv{j pos}:PE X (.Constant .none j pos) (tC .non):=λ_ _ _ H _ I h=>Constant_none ⟨.non,H,I,Z,h⟩
theorem C_{x j pos}:PE X (.Constant (.str x) j pos) (tC (.str x)):=λ_ _ _ H _ I h=>Calls.Constant_str ⟨.str x,H,I.tok _,⟨_,Z⟩,h⟩
def Gl (X:Cx)(x:Str):Prop:=X.env.kindOf x=some .globalImplicit
variable{u:W3}{Q:U2}
theorem J4{E:U2}{pins:U1}{σ:St}(I:Inv X pins σ H s)(hg:Gl X x)(hm:X.mg x=some u)(h:Q u s)
  (hd:(x == ("__debug__":Str))=false:=by decide):wpAny (model X.prog X.w) X.A (eval (.Name x pos) X.env) Q E s :=
 Calls.Name_function_global I.ok.kind hg (Calls.loadGlobal_global (by rw[I.ok.glob];exact I.mod.glob.keeps I.bk) hm h) hd
theorem LR{E:U2}{pins:U1}{σ:St}(I:Inv X pins σ H s)(hg:Gl X x)(hm:X.mg x=none)(hv:bootBuiltins x=some u)(h:Q u s)
  (hn:x≠"__name__":=by decide) (hd:(x == ("__debug__":Str))=false:=by decide):wpAny (model X.prog X.w) X.A (eval (.Name x pos) X.env) Q E s:=by
 obtain⟨a,h1,h2⟩:=I.mod.blt;exact Calls.Name_function_global I.ok.kind hg (Calls.loadGlobal_builtin (by rw[I.ok.glob];exact I.mod.glob.keeps I.bk) hm (by rw[I.ok.blt];exact h1.keeps I.bk) ((h2 x hn).trans hv) h) hd
theorem nU{v:V}(hg:Gl X x)(hm:X.mg x=some u)(r:RelV v u)(hd:(x == ("__debug__":Str))=false:=by decide):PE X (.Name x pos) (tC v):=
 λ_ _ _ H _ I h=>J4 I hg hm ⟨v,H,I,r,h⟩ hd
theorem HX{v:V}(hg:Gl X x)(hm:X.mg x=none)(hv:bootBuiltins x=some u)(r:RelV v u)(hn:x≠"__name__":=by decide)(hd:(x == ("__debug__":Str))=false:=by decide):PE X (.Name x pos) (tC v):=
 λ_ _ _ H _ I h=>LR I hg hm hv ⟨v,H,I,r,h⟩ hn hd
variable {a b:Expr}{ta tb:TE}{pos:Pos}
def PC (X:Cx)(op:CmpOp)(a b:Expr)(t:TE):Prop :=
 ∀(pins:U1) (s:U7) (σ:St) (H:Hp) (Q:VK),Inv X pins σ H s->t σ H Q ->
  wpAny (model X.prog X.w) X.A (eval a X.env) (λv s₁=>wpAny (model X.prog X.w) X.A (eval b X.env) (λu s₂=>wpAny (model X.prog X.w) X.A (compareOp op v u) (EP X pins σ Q) X.xe s₂) X.xe s₁) X.xe s
def tB (t:TE):TT:=λσ H Q=>t σ H λx H1=>∃c,x=.bl c/\Q c H1
variable{t:TE}
theorem X5a{op:CmpOp}(h:PC X op a b t)(h1:behindInMarks op b=false:=by first | exact nobehind _ (by decide) (by decide) | rfl):PT X (.Compare a [op] [b] pos) (tB t):=by
 intro pins s σ H Q I e;refine jG (A_ (h pins s σ H _ I e) λv s1 h1=>A_ h1 λu k h2=>A_ h2 λc j ⟨x,H1,f,g,i⟩=>?_) h1;obtain⟨d,rfl,q⟩:=i;cases g;exact K4 ⟨H1,f,q⟩
theorem CV(h:PE X e t)(he:∀whole,isTrue e X.env whole=(do let v ← whole;standAt e.pos;holding [v] (truthy v)):=by intro _;rfl):PT X e (tB t):=by
 intro pins s σ H Q I c;refine isTrue_plain (A_ (h pins s σ H _ I c) λv s1 ⟨x,H1,f,a,b⟩=>?_) (he _);obtain⟨d,rfl,q⟩:=b;cases a;exact K4 ⟨H1,f,q⟩
variable {tA tB':TT}{rest:List Expr}
def Xy (t u:TT):TT:=λσ H Q=>t σ H λc H1=>if c=true then u σ H1 Q else Q false H1
def tG (t u:TT):TT:=λσ H Q=>t σ H λc H1=>if c=true then Q true H1 else u σ H1 Q
def Xp (t:TT):TT:=λσ H Q=>t σ H λc H1=>Q (!c) H1
theorem PB(ha:PT X a tA):PW X (.BoolOp .And [a] pos) tA:=by
 intro b pins s σ H Q I h;refine isTrue_and (A_ (ha pins s σ H Q I h) λc s1 e=>?_);cases c with
 | true=>exact isTrue_and_nil e
 | false=>exact e
theorem Gw(ha:PT X a tA):PW X (.BoolOp .Or [a] pos) tA:=by
 intro b pins s σ H Q I h;refine isTrue_or (A_ (ha pins s σ H Q I h) λc s1 e=>?_);cases c with
 | false=>exact isTrue_or_nil e
 | true=>exact e
theorem O4(ha:PT X a tA)(hb:PW X (.BoolOp .And (b::rest) pos) tB'):PW X (.BoolOp .And (a::b::rest) pos) (Xy tA tB'):=by
 intro f pins s σ H Q I h;refine isTrue_and (A_ (ha pins s σ H _ I h) λc s1 ⟨H1,e,d⟩=>?_);cases c with
 | true=>exact hb f pins s1 σ H1 Q e d
 | false=>exact⟨H1,e,d⟩
theorem Dq(ha:PT X a tA)(hb:PW X (.BoolOp .Or (b::rest) pos) tB'):PW X (.BoolOp .Or (a::b::rest) pos) (tG tA tB'):=by
 intro f pins s σ H Q I h;refine isTrue_or (A_ (ha pins s σ H _ I h) λc s1 ⟨H1,e,d⟩=>?_);cases c with
 | true=>exact⟨H1,e,d⟩
 | false=>exact hb f pins s1 σ H1 Q e d
theorem Dl(ha:PT X a tA):PT X (.UnaryOp .Not a pos) (Xp tA):=by
 intro pins s σ H Q I h;exact isTrue_not (ha pins s σ H (λc H1=>Q (!c) H1) I h)
def RT (ta tb:TE):TE:=λσ H Q=>ta σ H λx H1=>∃c,x=.bl c/\if c=true then tb σ H1 Q else Q (.bl false) H1
def Xo (ta tb:TE):TE:=λσ H Q=>ta σ H λx H1=>∃c,x=.bl c/\if c=true then Q (.bl true) H1 else tb σ H1 Q
def RJ (ta:TE):TE:=λσ H Q=>ta σ H λx H1=>∃c,x=.bl c/\Q (.bl (!c)) H1
theorem Mp{op}(h:PE X a t):PE X (.BoolOp op [a] pos) t:=λpins s σ H Q I b=>BoolOp_one (h pins s σ H Q I b)
theorem Oz(ha:PE X a ta)(hb:PE X (.BoolOp .And (b::rest) pos) tb):PE X (.BoolOp .And (a::b::rest) pos) (RT ta tb):=by
 intro pins s σ H Q I h;refine BoolOp_and (A_ (ha pins s σ H _ I h) λv s1 ⟨x,H1,e,f,d⟩=>?_);obtain⟨c,rfl,d⟩:=d;cases f;refine K4 ?_;cases c with
 | true=>exact hb pins s1 σ H1 Q e d
 | false=>exact⟨.bl false,H1,e,rfl,d⟩
theorem X7k(ha:PE X a ta)(hb:PE X (.BoolOp .Or (b::rest) pos) tb):PE X (.BoolOp .Or (a::b::rest) pos) (Xo ta tb):=by
 intro pins s σ H Q I h;refine BoolOp_or (A_ (ha pins s σ H _ I h) λv s1 ⟨x,H1,e,f,d⟩=>?_);obtain⟨c,rfl,d⟩:=d;cases f;refine K4 ?_;cases c with
 | false=>exact hb pins s1 σ H1 Q e d
 | true=>exact⟨.bl true,H1,e,rfl,d⟩
theorem O1(ha:PE X a ta):PE X (.UnaryOp .Not a pos) (RJ ta):=by
 intro pins s σ H Q I h;refine UnaryOp_ (A_ (ha pins s σ H _ I h) λv s1 ⟨x,H1,e,d,b⟩=>?_);obtain⟨c,rfl,b⟩:=b;cases d;exact not_of (K4 ⟨.bl (!c),H1,e,Z,b⟩)
def tH (t:TT)(ta tb:TE):TE:=λσ H Q=>t σ H λc H1=>if c=true then ta σ H1 Q else tb σ H1 Q
theorem pD{c:Expr}(hc:PT X c tA)(ha:PE X a ta)(hb:PE X b tb):PE X (.IfExp c a b pos) (tH tA ta tb):=by
 intro pins s σ H Q I h;refine wpAny_IfExp (A_ (hc pins s σ H _ I h) λd s1 ⟨H1,f,e⟩=>?_);cases d with
 | true=>exact ha pins s1 σ H1 Q f e
 | false=>exact hb pins s1 σ H1 Q f e
end
def Ag (K:U0)(H:Hp)(a:Y3)(xs:List V):Prop :=
 Rd H a (.lst xs) \/
  ∃(o:Obj) (its:U9) (n:Nat),K.lookup a=some o/\o.cls=.type "list"/\o.dict=none/\o.data=.seq its n/\its.size<=sizeLine/\Vals xs its.toList
def Ak (K:U0)(H:Hp)(a:Y3)(xs:List V):Prop :=
 Rd H a (.tup xs) \/
  ∃(o:Obj) (its:U9) (n:Nat),K.lookup a=some o/\o.cls=.type "tuple"/\o.data=.seq its n/\its.size<=sizeLine/\Vals xs its.toList
noncomputable def dX:Value->Option V
 | .none=>some .non
 | .bool b=>some (.bl b)
 | .int i _=>some (.int i)
 | .str x _=>some (.str x)
 | .bytes b _=>some (.byt b)
 | .float b _=>some (.flt b)
 | .ref a=>some (.ref a)
 | .type n=>some (.ty n)
 | _=>none
variable{x:V}{u:W3}
theorem RelV.abs(r:RelV x u):dX u=some x:=by
 cases x with
 | non=>cases r;rfl
 | bl _=>cases r;rfl
 | int _=>obtain⟨t,rfl⟩:=r;rfl
 | str _=>obtain⟨t,rfl⟩:=r;rfl
 | byt _=>obtain⟨t,rfl⟩:=r;rfl
 | flt _=>obtain⟨t,rfl⟩:=r;rfl
 | ref _=>cases r;rfl
 | ty _=>cases r;rfl
theorem RelV.inj{y:V}(r:RelV x u)(q:RelV y u):x=y:=Option.some.inj (r.abs.symm.trans q.abs)
theorem Vals.inj{xs ys:List V}(h:Vals xs us)(h':Vals ys us):xs=ys:=by
 induction h generalizing ys with
 | nil=>cases h';rfl
 | cons r t ih=>cases h' with
  | cons r' t'=>rw[r.inj r',ih t']
section
variable {X:Cx}{pins:U1}{σ:St}{H:Hp}{s:U7}{a:Y3}{xs ys:List V}
theorem Ag.of{K:U0}(h:H a=some (.lst xs)):Ag K H a xs:=.inl (.inl h)
theorem Ak.of{K:U0}(h:H a=some (.tup xs)):Ak K H a xs:=.inl (.inl h)
theorem Inv.list(I:Inv X pins σ H s)(h:Ag X.K H a xs):∃its:List Value,Vals xs its/\PlainL s.heap a its.toArray/\xs.length<=sizeLine:=by
 rcases h with h | ⟨o,its,n,hk,hc,hd,hs,hz,r⟩
 ·obtain⟨z,its,n,r,e⟩:=h.ok I.hok;exact⟨its,r,⟨_,n,e,Z,Z,Z⟩,z⟩
 ·refine⟨its.toList,r,⟨o,n,I.kIn a o hk,hc,hd,by simpa using hs⟩,?_⟩;have e:=r.length;simp only[HN]at e;omega
theorem Inv.tuple(I:Inv X pins σ H s)(h:Ak X.K H a xs):∃its:List Value,Vals xs its/\IsTup s.heap a its.toArray/\xs.length<=sizeLine:=by
 rcases h with h | ⟨o,its,n,hk,hc,hs,hz,r⟩
 ·obtain⟨z,its,r,p⟩:=h.ok I.hok;exact⟨its,r,p,z⟩
 ·refine⟨its.toList,r,⟨o,I.kIn a o hk,hc,n,by simpa using hs⟩,?_⟩;have e:=r.length;simp only[HN]at e;omega
theorem Inv.list_inj(I:Inv X pins σ H s)(h:Ag X.K H a xs)(h':Ag X.K H a ys):xs=ys:=by
 obtain⟨its,r,⟨o,n,e,_,_,d⟩,_⟩:=I.list h;obtain⟨its',c,⟨o',f,b,_,_,d'⟩,_⟩:=I.list h';rw[e]at b;cases b;rw[d]at d';injection d' with d1 _;have:its=its':=by simpa using congrArg Array.toList d1
 subst this;exact r.inj c
theorem Inv.tuple_inj(I:Inv X pins σ H s)(h:Ak X.K H a xs)(h':Ak X.K H a ys):xs=ys:=by
 obtain⟨its,r,⟨o,e,_,n,d⟩,_⟩:=I.tuple h;obtain⟨its',c,⟨o',b,_,f,d'⟩,_⟩:=I.tuple h';rw[e]at b;cases b;rw[d]at d';injection d' with d1 _;have:its=its':=by simpa using congrArg Array.toList d1
 subst this;exact r.inj c
end
noncomputable abbrev Cx.wish (X:Cx)(E:U2):Cx:={X with xe:=E}
noncomputable abbrev Cx.nox (X:Cx):Cx:=X.wish λ_ _=>False
theorem Cx.Ok.wish(ok:X.Ok)(E:U2):(X.wish E).Ok :=
 ⟨ok.mod,ok.kind,ok.glob,ok.blt,ok.above,ok.inj,ok.has,ok.cab,ok.hd,ok.frames,ok.stk,ok.exf,ok.bs,ok.bsz,ok.noex,ok.exfs,ok.funs,ok.frf⟩
theorem Cx.Ok.unwish{E:U2}(ok:(X.wish E).Ok):X.Ok :=
 ⟨ok.mod,ok.kind,ok.glob,ok.blt,ok.above,ok.inj,ok.has,ok.cab,ok.hd,ok.frames,ok.stk,ok.exf,ok.bs,ok.bsz,ok.noex,ok.exfs,ok.funs,ok.frf⟩
section
variable {X:Cx}{pins:U1}{σ:St}{H:Hp}{s:U7}{E:U2}
theorem Inv.wish(I:Inv X pins σ H s)(E:U2):Inv (X.wish E) pins σ H s:=⟨I.ok.wish E,I.os,I.bare,I.base,I.loc,I.cell,I.free,I.freeC,I.pin,I.hok,I.len⟩
theorem Inv.unwish(I:Inv (X.wish E) pins σ H s):Inv X pins σ H s:=⟨I.ok.unwish,I.os,I.bare,I.base,I.loc,I.cell,I.free,I.freeC,I.pin,I.hok,I.len⟩
theorem SP.unwish{D:Ends}{f:Flow}{s':U7}(h:SP (X.wish E) pins D f s'):SP X pins D f s':=by
 cases f with
 | next=>obtain⟨a,H',I,q⟩:=h;exact⟨a,H',I.unwish,q⟩
 | brk=>obtain⟨a,H',I,q⟩:=h;exact⟨a,H',I.unwish,q⟩
 | cont=>obtain⟨a,H',I,q⟩:=h;exact⟨a,H',I.unwish,q⟩
 | ret u=>obtain⟨v,a,H',I,r,q⟩:=h;exact⟨v,a,H',I.unwish,r,q⟩
theorem Eu.nox{st:Y2}{t:TS}(h:Eu X.nox st t):Eu X st t:=λpins s σ H D I a =>
 Dp (h pins s σ H D (I.wish _) a) (λ_ _ q=>q.unwish) λ_ _ z=>False.elim z
end
section
variable {X:Cx}{st:Stmt}{rest:Y2}{t u:TS}{e:Expr}{te:TE}{pos:Pos}
def RL:TS:=λD σ H=>D.nx σ H
def Xl (t u:TS):TS:=λD σ H=>t {D with nx:=u D} σ H
theorem Bw:Eu X [] RL:=λ_ _ σ H _ I h=>R6 ⟨σ,H,I,h⟩
theorem Az(h1:PS X st t)(h2:Eu X rest u):Eu X (st::rest) (Xl t u):=by
 intro pins s σ H D I h;refine YJ (A_ (h1 pins s σ H {D with nx:=u D} I h) λf s1 q=>?_);cases f with
 | next =>
  obtain⟨b,H',a,q⟩:=q;exact h2 pins s1 b H' D a q
 | ret v=>exact q
 | brk=>exact q
 | cont=>exact q
theorem Al(h1:PS X st t):Eu X [st] t:=by
 intro pins s σ H D I h;refine YJ (A_ (h1 pins s σ H D I h) λf s1 q=>?_);cases f with
 | next=>exact R6 q
 | ret v=>exact q
 | brk=>exact q
 | cont=>exact q
theorem Inv.quiet{pins:U1}{σ:St}(I:Inv X pins σ H s):interactive X.env=false:=by simp[interactive,I.ok.kind]
def RN (te:TE):TS:=λD σ H=>te σ H λ_ H1=>D.nx σ H1
theorem O_(he:PE X e te)(hs:swapsWith e none pos.line X.env=pure false:=by rfl):PS X (.Expr e pos) (RN te):=by
 intro pins s σ H D I h;exact wpAny_Expr_any (A_ (he pins s σ H _ I h) λv s1 ⟨x,H1,b,c,a⟩=>⟨σ,H1,b,a⟩) I.quiet hs
def Xn (te:TE):TS:=λD σ H=>te σ H D.rt
theorem BL(he:PE X e te):PS X (.Return (some e) pos) (Xn te):=by
 intro pins s σ H D I h;exact wpAny_Return_some (A_ (he pins s σ H _ I h) λv s1 ⟨x,H1,c,a,b⟩=>⟨x,σ,H1,c,a,b⟩)
def Xr (c:TT)(t u:TS):TS:=λD σ H=>c σ H λb H1=>if b=true then t D σ H1 else u D σ H1
theorem Bq{c:Expr}{a b:Y2}{tc:TT}(hc:PT X c tc)(ha:Eu X a t)(hb:Eu X b u):PS X (.If c a b pos) (Xr tc t u):=by
 intro pins s σ H D I h;refine wpAny_If (A_ (hc pins s σ H _ I h) λd s1 ⟨H1,f,e⟩=>?_);cases d with
 | true=>exact ha pins s1 σ H1 D f e
 | false=>exact hb pins s1 σ H1 D f e
def Jb:TS:=λ_ _ _=>False
theorem wM:PS X st Jb:=λ_ _ _ _ _ _ h=>h.elim
theorem yQ{sts:Y2}:Eu X sts Jb:=λ_ _ _ _ _ _ h=>h.elim
end
abbrev TG:=V->St->Hp->(St->Hp->Prop)->Prop
abbrev Pa:=List V->St->Hp->(St->Hp->Prop)->Prop
def PG (X:Cx)(target:Expr)(t:TG):Prop :=
 ∀(pins:U1) (s:U7) (σ:St) (H:Hp) (v:V) (u:W3) (Q:St->Hp->Prop),Inv X pins σ H s->RelV v u->t v σ H Q ->
  wpAny (model X.prog X.w) X.A (assign target X.env u) (λ_ s'=>∃σ' H',Inv X pins σ' H' s'/\Q σ' H') X.xe s
def Xa (X:Cx)(ts:List Expr)(t:Pa):Prop :=
 ∀(pins:U1) (s:U7) (σ:St) (H:Hp) (vs:List V) (us:U5) (Q:St->Hp->Prop),Inv X pins σ H s->Vals vs us->t vs σ H Q ->
  wpAny (model X.prog X.w) X.A (assignInOrder ((assignEach ts X.env).map (·.2)) us) (λ_ s'=>∃σ' H',Inv X pins σ' H' s'/\Q σ' H') X.xe s
abbrev PX:=V->V->V->Hp->(Hp->Prop)->Prop
def Uz (X:Cx)(t:PX):Prop :=
 ∀(pins:U1) (s:U7) (σ:St) (H:Hp) (o i v:V) (ov iv u:W3) (Q:Hp->Prop),Inv X pins σ H s->RelV o ov->RelV i iv->RelV v u->t o i v H Q ->
  wpAny (model X.prog X.w) X.A (setItem ov iv u) (λ_ s'=>∃H',Inv X pins σ H' s'/\Q H') X.xe s
section
variable {X:Cx}{pos:Pos}
def CN (i:Nat):TG:=λv σ H Q=>Q (σ.set i (some v)) H
theorem CP{i:Nat}{x:Str}(hN:X.N.Nodup)(hi:X.N[i]?=some x)(hx:Loc X.env.scope x)(hf:X.fn x=true\/X.env.scope.names.lookup x=some .local:=by first | exact .inl rfl | exact .inr rfl | assumption):PG X (.Name x pos) (CN i):=by
 intro pins s σ H v u Q I r h;exact YK (Wa I hN hi hx r (λs' a=>⟨_,H,a,h⟩) hf)
def Tt:Pa:=λvs σ H Q=>vs=[]/\Q σ H
def J0 (t:TG)(u:Pa):Pa:=λvs σ H Q=>∃v r,vs=v::r/\t v σ H λσ' H'=>u r σ' H' Q
theorem O7:Xa X [] Tt:=by
 intro pins s σ H vs us Q I r h;obtain⟨e,h⟩:=h;subst e;cases r;exact assignInOrder_nil ⟨σ,H,I,h⟩
theorem H_{e:Expr}{es:List Expr}{t:TG}{u:Pa}(h1:PG X e t)(h2:Xa X es u)
  (hs:(assignEach (e::es) X.env).map (·.2)=assign e X.env::(assignEach es X.env).map (·.2):=by rfl):Xa X (e::es) (J0 t u):=by
 intro pins s σ H vs us Q I r h;obtain⟨v,f,c,h⟩:=h;subst c;cases r with
 | cons r rr =>
  rw[hs];refine assignInOrder_cons (A_ (h1 pins s σ H _ _ _ I r h) λ_ s1 ⟨a,H1,b,d⟩=>?_);exact h2 pins s1 a H1 _ _ Q b rr d
def Tq (K:U0)(n:Nat)(t:Pa):TG:=λv σ H Q=>∃a xs,v=.ref a/\Ak K H a xs/\xs.length=n/\t xs σ H Q
theorem O2{es:List Expr}{k:Nat}{t:Pa}{n:Nat}(hc:X.calm=true)(h:Xa X es t)
  (hn:(assignEach es X.env).length=n:=by rfl) (hst:(assignEach es X.env).findIdx? (·.1)=none:=by rfl):PG X (.Tuple es k pos) (Tq X.K n t):=by
 intro pins s σ H v u Q I r c;obtain⟨a,xs,l,f,m,c⟩:=c;subst l;cases r;obtain⟨its,d,j,hz⟩:=I.tuple f;refine assign_Tuple_tuple (I.ok.hd hc) j (by simp[hn,<-m,d.length]) hst λh' i=>?_;have g:Inv X pins σ H {s with heap:=h'}:=I.kept (t':=s.toks) λb o e=>i b o (B_ (BP e)) e;exact h pins _ σ H xs _ Q g (by simpa using d) c
def bf (to ti:TE)(t:PX):TG:=λv σ H Q=>to σ H λo H1=>ti σ H1 λi H2=>t o i v H2 λH3=>Q σ H3
theorem X5c{o i:Expr}{to ti:TE}{t:PX}(ho:PE X o to)(hi:PE X i ti)(hs:Uz X t)
  (ha:∀v,assign (.Subscript o i pos) X.env v=(do
   let a ← holding [v] (eval o X.env)
   let b ← holding [v,a] (eval i X.env)
   standAt pos
   holding [v,a,b] (setItem a b v)
   release [v,a,b] []):=by intro _;rfl):PG X (.Subscript o i pos) (bf to ti t):=by
 intro pins s σ H v u Q I r h;rw[ha];refine Af (G4 (A_ (ho pins s σ H _ I h) λa s1 ⟨x,H1,g,j,l⟩=>?_));refine Af (G4 (A_ (hi pins s1 σ H1 _ g l) λb m ⟨y,H2,k,f,e⟩=>?_));refine Af (L_ (Af (G4 (A_ (hs pins m σ H2 x y v a b u _ k j f r e) λ_ n ⟨d,I3,c⟩=>?_))));exact wpAny_release ⟨σ,d,I3,c⟩
def Ko (te:TE)(g:TG):TS:=λD σ H=>te σ H λx H1=>g x σ H1 D.nx
theorem XR{tg:Expr}{te:TE}{g:TG}(he:PE X e te)(hg:PG X tg g)(hs:swapsWithSole [tg] e pos.line X.env=pure false:=by rfl)(hw:swappedStores [tg] e X.env=pure none:=by rfl)
  (h1:(assignEach [tg] X.env).map (·.2)=[assign tg X.env]:=by rfl):PS X (.Assign [tg] e pos) (Ko te g):=by
 intro pins s σ H D I h;refine wpAny_Assign_stores (A_ (he pins s σ H _ I h) λv s1 ⟨x,H1,c,a,b⟩=>?_) hs hw;rw[h1];exact A_ (hg pins s1 σ H1 x v _ c a b) λ_ d q=>q
theorem BW{i:Nat}{x:Str}{e:Expr}{te:TE}{pos':Pos}(hN:X.N.Nodup)(hi:X.N[i]?=some x)(hx:Loc X.env.scope x)(he:PE X e te)(hs:swapsWith e (some (.Name x pos')) pos.line X.env=pure false:=by rfl)(hf:X.fn x=true\/X.env.scope.names.lookup x=some .local:=by first | exact .inl rfl | exact .inr rfl | assumption):
  PS X (.Assign [.Name x pos'] e pos) (Ko te (CN i)):=by
 intro pins s σ H D I h;refine wpAny_Assign_Name (A_ (he pins s σ H _ I h) λv s1 ⟨y,H1,d,b,c⟩=>?_) hs;exact Wa d hN hi hx b (λf a=>⟨_,H1,a,c⟩) hf
end
section
variable {X:Cx}{pos:Pos}
def M7 (c:TT)(tb:TS):TS:=λD σ H=>∃W:Nat->St->Hp->Prop,(∃m,W m σ H)/\∀m σ H,W m σ H ->
 c σ H λb H1=>if b=true then ∃N:St->Hp->Prop,(∀σ' H',N σ' H'->∃m',m'<m/\W m' σ' H')/\tb {D with nx:=N,ct:=N,bk:=D.nx} σ H1 else D.nx σ H1
theorem WY{c:Expr}{body:Y2}{tc:TT}{tb:TS}(hp:PassesOwn (model X.prog X.w) X.A X.env X.xe)(hc:PT X c tc)(hb:Eu X body tb):PS X (.While c body [] pos) (M7 tc tb):=by
 intro pins s σ H D I h;obtain⟨W,⟨r,u⟩,d⟩:=h;refine wpAny_While (codeAny_whileLoop (λn s'=>∃σ' H',Inv X pins σ' H' s'/\W n σ' H') ?_ r ⟨σ,H,I,u⟩);rintro n s1 ⟨j,H1,q,p⟩;refine Nr hp (A_ (hc pins s1 j H1 _ q (d n j H1 p)) λb t ⟨H2,o,i⟩=>?_);cases b with
 | true =>
  obtain⟨N,m,i⟩:=i;rw[if_pos rfl];refine Nr hp (A_ (hb pins t j H2 _ o i) λf x g=>?_);cases f with
  | next =>
   obtain⟨e,a,I3,l⟩:=g;obtain⟨m',k,w3⟩:=m e a l;exact⟨m',k,e,a,I3,w3⟩
  | cont =>
   obtain⟨e,a,I3,l⟩:=g;obtain⟨m',k,w3⟩:=m e a l;exact⟨m',k,e,a,I3,w3⟩
  | brk=>exact g
  | ret v=>exact g
 | false =>
  rw[if_neg Fv];exact R6 ⟨j,H2,o,i⟩
end
structure It where
 go:Nat->Hp->Prop
 yld:Nat->Hp->V->Hp->Prop
 stop:Nat->Hp->Prop
def DX (X:Cx)(pins:U1)(H:Hp)(b:Y3):Prop :=
 H b=none/\b≠X.env.locals/\b∉X.fs/\(b∈X.ex\/X.s₀.heap.objs.size<=b)/\(∀x c,X.env.cells.lookup x=some c->c≠b)/\∀p∈X.pn++pins,p.1≠b
variable{pins:U1}{σ:St}
theorem Inv.fpOk{H':Hp}(I:Inv X pins σ H s)(hb:s.heap.objs.size<=b)(hn:H' b=none):DX X pins H' b:=by
 refine⟨hn,Hu (CK I.lt hb),I.nofs hb,.inr (Eh I.sz hb),λx c e z=>?_,λp hp z=>?_⟩
 ·obtain⟨v,q⟩:=I.cell x c e;exact absurd (CK q.lt (by rw[z];exact hb)) (JL _)
 ·exact absurd (CK (BP (I.pin p hp).1) (by rw[z];exact hb)) (JL _)
structure Turn (P:U8) (w:W1) (K:U0) (tg:Expr) (J:It) (fp:U3) (it:Y3) (tn:Nat->Heap->Prop):Prop where
 mem:it∈fp
 obj:∀i h,tn i h->∀b∈fp,∃o,h.get? b=some o/\∀v,o.data≠.cell v
 keep:∀i h h',tn i h->(∀b∈fp,∀o,h.get? b=some o->h'.get? b=some o)->tn i h'
 item:∀(X:Cx),X.prog=P->X.w=w->X.K=K->X.calm=true->∀(i:Nat) (pins:U1) (s:U7) (σ:St) (H:Hp) (E:U2),Inv X pins σ H s->(∀b∈fp,DX X pins H b)->tn i s.heap->J.go i H ->
  wpAny (model P w) X.A (pyNext (.ref it)) (λr s1=>∃u,r=some u /\
   wpAny (model P w) X.A (letOwnedTupleGo tg (.ref it) u) (λ_ s2=>∃x H',Inv X pins σ H' s2/\RelV x u/\J.yld i H x H'/\tn (i+1) s2.heap/\∀b∈fp,H' b=none) E s1) E s
 done:∀(X:Cx),X.prog=P->X.w=w->X.K=K->X.calm=true->∀(i:Nat) (pins:U1) (s:U7) (σ:St) (H:Hp) (E:U2),Inv X pins σ H s->(∀b∈fp,DX X pins H b)->tn i s.heap->J.stop i H ->
  wpAny (model P w) X.A (pyNext (.ref it)) (λr s1=>r=none/\Inv X pins σ H s1) E s
 self:∀(A:Y0) (i:Nat) (s:U7) (Q:U2) (E:U2),tn i s.heap->Q (.ref it) s->wpAny (model P w) A (pyIter (.ref it)) Q E s
abbrev TI:=St->Hp->(It->Hp->Prop)->Prop
def PIE (X:Cx)(pins:U1)(σ:St)(tg:Expr)(R:It->Hp->Prop)(itv:W3)(s2:U7):Prop :=
 ∃(it:Y3) (fp:U3) (tn:Nat->Heap->Prop) (J:It) (H':Hp),itv=.ref it/\Inv X pins σ H' s2/\Turn X.prog X.w X.K tg J fp it tn/\tn 0 s2.heap/\(∀b∈fp,DX X pins H' b)/\R J H'
def PI (X:Cx)(tg iter:Expr)(wi:TI):Prop :=
 ∀(pins:U1) (s:U7) (σ:St) (H:Hp) (R:It->Hp->Prop),Inv X pins σ H s->wi σ H R ->
  wpAny (model X.prog X.w) X.A (eval iter X.env) (λv s1=>wpAny (model X.prog X.w) X.A (pyIter v) (PIE X pins σ tg R) X.xe s1) X.xe s
variable{tg:Expr}
theorem iI{M:Model}{E:U2}{it:Y3}{n:String}{vs:U9}{Q:Unit->Shared->Prop}(ho:s.heap.get? it=some o)(hc:o.cls=.type n)(hd:o.data=.fields vs)
  (hn:["enumerate","zip","dict_itemiterator","dict_reverseitemiterator","odict_iterator","itertools.zip_longest","itertools.pairwise"].contains n=false) (hQ:Q () s):wpAny M A (letOwnedTupleGo tg (.ref it) u) Q E s:=by
 unfold letOwnedTupleGo;cases tg<;>first
  | exact Aq hQ
  | (cases u<;>first
    | exact Aq hQ
    | (refine Af (V2 ho ?_);rw[hc,hd];show wpAny M A (if (["enumerate","zip","dict_itemiterator","dict_reverseitemiterator","odict_iterator","itertools.zip_longest","itertools.pairwise"].contains n && vs[0]? == some (rawInt _))=true then _ else _) Q E s;rw[if_neg (by intro h;rw[hn,Kw]at h;cases h)];exact Aq hQ))
def Lh (K:U0)(a:Y3):It :=
 ⟨λi H=>∃xs x,Ag K H a xs/\xs[i]?=some x,λi H x H'=>H'=H/\∀xs,Ag K H a xs->xs[i]?=some x,λi H=>∃xs,Ag K H a xs/\xs.length<=i⟩
def Qv (K:U0)(a:Y3):It :=
 ⟨λi H=>∃xs x,Ak K H a xs/\xs[i]?=some x,λi H x H'=>H'=H/\∀xs,Ak K H a xs->xs[i]?=some x,λi H=>∃xs,Ak K H a xs/\xs.length<=i⟩
def Gg (lo:Int)(n:Nat):It:=⟨λi _=>i<n,λi H x H'=>H'=H/\x=.int (lo+i),λi _=>n<=i⟩
variable{K:U0}
theorem yV(a it:Y3):Turn P w K tg (Lh K a) [it] it (λi h=>h.IsListIter it a i) where
 mem:=by simp
 obj:=λi h st b f=>by
  have e:b=it:=by simpa using f
  subst e;obtain⟨o,e,c,d⟩:=st;exact⟨o,e,λv z=>by rw[d]at z;cases z⟩
 keep:=λi h h' st k=>st.at λo e=>k it (by simp) o e
 item:=by
  intro X y m n D i pins s σ H E I l st A;subst y m n;obtain⟨xs,x,j,r⟩:=A;obtain⟨its,q,p,hz⟩:=I.list j;obtain⟨u,L,G⟩:=q.get r;obtain⟨f0,f1,O,C,t,B⟩:=l it (by simp);refine wpAny_pyNext_list_item st p.isList (x:=u) (by simpa using L) λh' g F=>?_;have J:Inv X pins σ H {s with heap:=h'}:=I.turned (t':=s.toks) (λb o f e=>(F.2 b f).trans e) f0 f1 C t B;obtain⟨o,e,c,d⟩:=id g;exact⟨u,Z,iI (s:={s with heap:=h'}) e c d (by decide) ⟨x,H,J,G,⟨Z,λys M=>by rw[I.list_inj M j];exact r⟩,g,λb f=>(l b f).1⟩⟩
 done:=by
  intro X y m n D i pins s σ H E I l st A;subst y m n;obtain⟨xs,j,r⟩:=A;obtain⟨its,q,p,hz⟩:=I.list j;obtain⟨f0,f1,O,C,t,B⟩:=l it (by simp);have Q:=q.length;exact wpAny_pyNext_list_end (I.ok.hd D) st p.isList (by simp;omega) λh' N=>⟨Z,I.turned (t':=s.toks) (λb o f e=>N b o f e) f0 f1 C t B⟩
 self:=λ_ _ _ _ _ st h=>wpAny_pyIter_listiter st h
theorem zO(a it:Y3):Turn P w K tg (Qv K a) [it] it (λi h=>h.IsTupleIter it a i) where
 mem:=by simp
 obj:=λi h st b f=>by
  have e:b=it:=by simpa using f
  subst e;obtain⟨o,e,c,d⟩:=st;exact⟨o,e,λv z=>by rw[d]at z;cases z⟩
 keep:=λi h h' st k=>st.at λo e=>k it (by simp) o e
 item:=by
  intro X y m n D i pins s σ H E I l st A;subst y m n;obtain⟨xs,x,j,r⟩:=A;obtain⟨its,q,p,hz⟩:=I.tuple j;obtain⟨u,L,G⟩:=q.get r;obtain⟨f0,f1,O,C,t,B⟩:=l it (by simp);refine wpAny_pyNext_tuple_item st (show s.heap.IsTuple a its.toArray from p) (x:=u) (by simpa using L) λh' g F=>?_;have J:Inv X pins σ H {s with heap:=h'}:=I.turned (t':=s.toks) (λb o f e=>(F.2 b f).trans e) f0 f1 C t B;obtain⟨o,e,c,d⟩:=id g;exact⟨u,Z,iI (s:={s with heap:=h'}) e c d (by decide) ⟨x,H,J,G,⟨Z,λys M=>by rw[I.tuple_inj M j];exact r⟩,g,λb f=>(l b f).1⟩⟩
 done:=by
  intro X y m n D i pins s σ H E I l st A;subst y m n;obtain⟨xs,j,r⟩:=A;obtain⟨its,q,p,hz⟩:=I.tuple j;obtain⟨f0,f1,O,C,t,B⟩:=l it (by simp);have Q:=q.length;exact wpAny_pyNext_tuple_end (I.ok.hd D) st (show s.heap.IsTuple a its.toArray from p) (by simp;omega) λh' N=>⟨Z,I.turned (t':=s.toks) (λb o f e=>N b o f e) f0 f1 C t B⟩
 self:=λ_ _ _ _ _ st h=>wpAny_pyIter_tupleiter st h
theorem zN(it:Y3)(lo:Int)(n:Nat):Turn P w K tg (Gg lo n) [it] it (λi h=>IsRangeIter h it (lo+(i:Nat)*1) ((n:Int)-(i:Nat)) 1) where
 mem:=by simp
 obj:=λi h st b a=>by
  have e:b=it:=by simpa using a
  subst e
  exact⟨_,st,λv z=>by
   have u:Data.fields _=Data.cell v:=z
   cases u⟩
 keep:=λi h h' st k=>k it (by simp) _ st
 item:=by
  intro X l f g p i pins s σ H E I d st m;subst l f g;obtain⟨f0,f1,B,r,j,q⟩:=d it (by simp);have W:=Walks.range (prog:=X.prog) (w:=X.w) (I.ok.hd p) it lo 1 n;refine W.item i s _ _ m st λv h' tk A c kk=>?_;obtain⟨t,rfl⟩:=A;have x:Inv X pins σ H {s with heap:=h',toks:=tk}:=I.turned (λb o a e=>kk b o (by simpa using a) e) f0 f1 r j q;refine⟨_,Z,iI (s:={s with heap:=h',toks:=tk}) (n:="range_iterator") c rfl rfl (by decide) ⟨.int (lo+i),H,x,⟨t,?_⟩,⟨Z,Z⟩,c,λb a=>(d b a).1⟩⟩;rw[Int.mul_one]
 done:=by
  intro X l f g p i pins s σ H E I d st m;subst l f g;obtain⟨f0,f1,B,r,j,q⟩:=d it (by simp);exact wpAny_pyNext_range_end (I.ok.hd p) st (by have:n<=i:=m;omega) λh' y=>⟨Z,I.turned (t':=s.toks) (λb o a e=>y b o a e) f0 f1 r j q⟩
 self:=λ_ _ _ _ _ st h=>wpAny_pyIter_rangeiter st h
section
variable {X:Cx}{tg:Expr}
def Tn (K:U0)(tl:TE):TI:=λσ H R=>tl σ H λx H1=>∃a,x=.ref a/\(∃xs,Ag K H1 a xs)/\R (Lh K a) H1
def bY (K:U0)(tl:TE):TI:=λσ H R=>tl σ H λx H1=>∃a,x=.ref a/\(∃xs,Ak K H1 a xs)/\R (Qv K a) H1
theorem Ew{l:Expr}{tl:TE}(hl:PE X l tl):PI X tg l (Tn X.K tl):=by
 intro pins s σ H R I h;refine A_ (hl pins s σ H _ I h) λv s1 ⟨x,H1,c,f,g⟩=>?_;obtain⟨a,e,⟨xs,d⟩,q⟩:=g;subst e;cases f;obtain⟨its,j,p,hz⟩:=c.list d;refine YL p.isList ?_;refine⟨s1.heap.objs.size,[s1.heap.objs.size],_,_,H1,Z,c.kept (t':=s1.toks) λb o e=>CG _ e,yV a _,⟨_,Ek _ rfl,Z,Z⟩,λb i=>?_,q⟩;have e:b=s1.heap.objs.size:=by simpa using i
 subst e;exact c.fpOk (Bf _) (c.hok.fresh (Bf _))
theorem XQ{l:Expr}{tl:TE}(hl:PE X l tl):PI X tg l (bY X.K tl):=by
 intro pins s σ H R I h;refine A_ (hl pins s σ H _ I h) λv s1 ⟨x,H1,c,f,g⟩=>?_;obtain⟨a,e,⟨xs,d⟩,q⟩:=g;subst e;cases f;obtain⟨its,j,p,hz⟩:=c.tuple d;refine wpAny_pyIter_tuple (show s1.heap.IsTuple a its.toArray from p) ?_;refine⟨s1.heap.objs.size,[s1.heap.objs.size],_,_,H1,Z,c.kept (t':=s1.toks) λb o e=>CG _ e,zO a _,⟨_,Ek _ rfl,Z,Z⟩,λb i=>?_,q⟩;have e:b=s1.heap.objs.size:=by simpa using i
 subst e;exact c.fpOk (Bf _) (c.hok.fresh (Bf _))
theorem wR{R:It->Hp->Prop}{E:U2}{lo hi:Int}{t u v:Tok}{tk:Nat}(I:Inv X pins σ H s)(h1:-(2^62)<=lo)(h2:lo<2^62)(h3:-(2^62)<=hi)(h4:hi<2^62)
  (q:R (Gg lo (hi-lo).toNat) H):wpAny (model X.prog X.w) X.A (pyIter (.ref s.heap.objs.size)) (PIE X pins σ tg R) E {s with heap:=s.heap.push { cls:=.type "range",data:=.fields #[.int lo t,.int hi u,.int 1 v]},toks:=tk}:=by
 refine wpAny_pyIter_range (IsRange.new ..) (small_one h1 h2 h3 h4) ?_;have a:Inv X pins σ H {s with heap:=s.heap.push { cls:=.type "range",data:=.fields #[.int lo t,.int hi u,.int 1 v]},toks:=tk}:=I.kept λb o e=>CG _ e
 refine⟨(s.heap.push { cls:=.type "range",data:=.fields #[.int lo t,.int hi u,.int 1 v]}).objs.size,[(s.heap.push { cls:=.type "range",data:=.fields #[.int lo t,.int hi u,.int 1 v]}).objs.size],_,_,H,Z,
  a.kept (t':=tk) λb o e=>CG _ e,zN _ lo (hi-lo).toNat,?_,λb f=>?_,q⟩
 ·have d:lo+((0:Nat):Int)*1=lo:=by simp
  have c:(((hi-lo).toNat:Nat):Int)-((0:Nat):Int)=Builtin.Range.rangeSize lo hi 1:=by rw[rangeSize_one];split<;>omega
  show IsRangeIter _ _ (lo+((0:Nat):Int)*1) ((((hi-lo).toNat:Nat):Int)-((0:Nat):Int)) 1;rw[d,c];exact Ek _ rfl
 ·have e:b=(s.heap.push { cls:=.type "range",data:=.fields #[.int lo t,.int hi u,.int 1 v]}).objs.size:=by simpa using f
  subst e;exact a.fpOk (Bf _) (a.hok.fresh (Bf _))
def Tj (ta:TA):TI:=λσ H R=>ta σ H λvs H1=>∃j:Int,vs=[.int j]/\-(2^62)<=j/\j<2^62/\R (Gg 0 j.toNat) H1
theorem Qm{a:Expr}{ta:TA}{p pos:Pos}(hg:Gl X "range")(hm:X.mg "range"=none)(ha:PA X [a] ta)(hs:starEach [a] X.env=[(false,eval a X.env)]:=by rfl):PI X tg (.Call (.Name "range" p) [a] [] pos) (Tj ta):=by
 intro pins s σ H R I h;refine Call_ (LR I hg hm boot_range (PyProof.Rows.callWith_type1 (A_ (ha pos pins s σ H _ I h) λus s1 ⟨vs,H1,d,f,b⟩=>?_) hs rfl));obtain⟨j,e,b,c,q⟩:=b;subst e;cases f with
 | cons r rr =>
  cases rr;obtain⟨t,rfl⟩:=r;exact call_range_1 (wR d (by omega) (by omega) b c (by simpa using q))
def Xu (wi:TI)(g:TG)(tb:TS):TS:=λD σ H=>wi σ H λJ H1=>∃W:Nat->Nat->St->Hp->Prop,(∃m,W 0 m σ H1)/\∀i m σ H,W i m σ H ->
 (J.stop i H/\D.nx σ H)\/(J.go i H/\∃N:St->Hp->Prop,(∀σ' H',N σ' H'->∃m',m'<m/\W (i+1) m' σ' H')/\∀x H',J.yld i H x H'->g x σ H' λσ2 H2=>tb {D with nx:=N,ct:=N,bk:=D.nx} σ2 H2)
noncomputable def Fd (fp:U3)(h:Heap):List (Addr×Obj):=fp.filterMap λb=>(h.get? b).map λo=>(b,o)
variable{fp:U3}
theorem Qo{h:Heap}(hb:b∈fp)(e:h.get? b=some o):(b,o)∈Fd fp h:=List.mem_filterMap.mpr ⟨b,hb,by rw[e];rfl⟩
theorem yD{h:Heap}{p:Addr×Obj}(hp:p∈Fd fp h):p.1∈fp/\h.get? p.1=some p.2:=by
 obtain⟨b,a,e⟩:=List.mem_filterMap.mp hp;cases q:h.get? b with
 | none=>rw[q]at e;cases e
 | some o =>
  rw[q]at e;have c:(b,o)=p:=Option.some.inj e;subst c;exact⟨a,q⟩
theorem Inv.pinned(I:Inv X pins σ H s)(hf:∀b∈fp,DX X pins H b)(ho:∀b∈fp,∃o,s.heap.get? b=some o/\∀v,o.data≠.cell v):Inv X (pins++Fd fp s.heap) σ H s :=
 I.pins_of λp hp=>(E_.mp hp).elim (λz=>I.pin p (Fw _ z)) λz=>by
  obtain⟨c,e⟩:=yD z;obtain⟨f0,f1,f,_⟩:=hf p.1 c;obtain⟨o,a,d⟩:=ho p.1 c;rw[e]at a;cases a;exact⟨e,f0,f1,f,d⟩
theorem Inv.unpinned{pl:U1}(I:Inv X (pins++pl) σ H s):Inv X pins σ H s:=I.pins_of λp hp=>I.pin p (Fw _ (JQ _ hp))
theorem Io{iter:Expr}{body:Y2}{wi:TI}{g:TG}{tb:TS}{pos:Pos}(hp:PassesOwn (model X.prog X.w) X.A X.env X.xe)(hc:X.calm=true)(hi:PI X tg iter wi)(hg:PG X tg g)(k:Eu X body tb)
  (hs:∀x,foldedSetIterable iter X.env x=pure x:=by intro _;rfl):PS X (.For tg iter body [] pos) (Xu wi g tb):=by
 intro pins s σ H D I h;refine wpAny_For (A_ (hi pins s σ H _ I h) λv s1 h1=>A_ h1 λa0 s2 h2=>?_) hs;obtain⟨it,fp,S,J,H2,e,I2,T,K,U,W,⟨m0,w0⟩,C⟩:=h2;subst e;have l:∀{H':Hp},(∀b∈fp,H' b=none)->∀b∈fp,DX X pins H' b:=λhn b k=>⟨hn b k,(U b k).2⟩;refine codeAny_forLoop_any (λn s'=>∃i σ' H',Inv X pins σ' H' s'/\S i s'.heap/\(∀b∈fp,H' b=none)/\W i n σ' H') ?_ m0 ⟨0,σ,H2,I2,K,λb k=>(U b k).1,w0⟩;rintro n R ⟨i,z,F,I3,E,B,w3⟩;rcases C i n z F w3 with ⟨stop,qn⟩ | ⟨go,N,hN,step⟩
 ·refine Nr hp (A_ (T.done X rfl rfl rfl hc i pins R z F X.xe I3 (l B) E stop) λr s4 ⟨O,Y⟩=>?_);subst O;exact R6 ⟨z,F,Y,qn⟩
 ·refine Nr hp (A_ (T.item X rfl rfl rfl hc i pins R z F X.xe I3 (l B) E go) λr s4 ⟨u,O,h4⟩=>?_);subst O;refine Nr hp (A_ h4 λ_ P ⟨x,Q,I5,r5,y5,t,M⟩=>?_);have L:=I5.pinned (l M) (T.obj _ _ t);refine Nr hp (A_ (hg _ P z Q x u _ L r5 (step x Q y5)) λ_ s6 ⟨V,Z,I6,q6⟩=>?_);refine Nr hp (A_ (k _ s6 V Z _ I6 q6) λf G q=>?_);have c:∀{a:St}{p:Hp},Inv X (pins++Fd fp P.heap) a p G->N a p->∃m,m<n/\∃i σ' H',Inv X pins σ' H' G/\S i G.heap/\(∀b∈fp,H' b=none)/\W i m σ' H':=λ{a p} j y=>by
   obtain⟨m',hm,w7⟩:=hN a p y;refine⟨m',hm,i+1,a,p,j.unpinned,T.keep _ _ _ t λb k o e=>(j.pin (b,o) (Fw _ (Fw _ (Qo k e)))).1,λb k=>?_,w7⟩;obtain⟨o,e,d⟩:=T.obj _ _ t b k;exact(j.pin (b,o) (Fw _ (Fw _ (Qo k e)))).2.1
  cases f with
  | next=>obtain⟨a,p,j,y⟩:=q;exact c j y
  | cont=>obtain⟨a,p,j,y⟩:=q;exact c j y
  | brk=>obtain⟨a,p,j,q⟩:=q;exact⟨a,p,j.unpinned,q⟩
  | ret v=>obtain⟨x7,a,p,j,r7,q⟩:=q;exact⟨x7,a,p,j.unpinned,r7,q⟩
end
theorem Kd{xs:List V}{g:TG}{tb:TS}{D:Ends}(Pv:Nat->St->Hp->Prop)(h0:Pv 0 σ H)(hl:∀i σ H,i<=xs.length->Pv i σ H->Ag K H a xs)
  (hs:∀i x σ H,xs[i]?=some x->Pv i σ H->g x σ H λc H2=>tb {D with nx:=Pv (i+1),ct:=Pv (i+1),bk:=D.nx} c H2) (hd:∀σ H,Pv xs.length σ H->D.nx σ H):
  ∃W:Nat->Nat->St->Hp->Prop,(∃m,W 0 m σ H)/\∀i m σ H,W i m σ H ->
   ((Lh K a).stop i H/\D.nx σ H)\/((Lh K a).go i H/\∃N:St->Hp->Prop,(∀b H',N b H'->∃m',m'<m/\W (i+1) m' b H')/\∀x H',(Lh K a).yld i H x H'->g x σ H' λc H2=>tb {D with nx:=N,ct:=N,bk:=D.nx} c H2):=by
 refine⟨λi m σ H=>m=xs.length-i/\i<=xs.length/\Pv i σ H,⟨xs.length,by simp,FZ _,h0⟩,?_⟩;rintro i m σ H ⟨rfl,hi,p⟩;have q:=hl i σ H hi p;by_cases hlt:i<xs.length
 ·refine .inr ⟨⟨xs,xs[i],q,by simp[hlt]⟩,Pv (i+1),λb H' d=>⟨xs.length-(i+1),by omega,Z,hlt,d⟩,λx H' y=>?_⟩;obtain⟨e,y⟩:=y;subst e;exact hs i x σ _ (y xs q) p
 ·have e:i=xs.length:=by omega
  subst e;exact .inl ⟨⟨xs,q,Bf _⟩,hd σ H p⟩
theorem X3j{xs:List V}{g:TG}{tb:TS}{D:Ends}(Pv:Nat->St->Hp->Prop)(h0:Pv 0 σ H)(hl:∀i σ H,i<=xs.length->Pv i σ H->Ak K H a xs)
  (hs:∀i x σ H,xs[i]?=some x->Pv i σ H->g x σ H λc H2=>tb {D with nx:=Pv (i+1),ct:=Pv (i+1),bk:=D.nx} c H2) (hd:∀σ H,Pv xs.length σ H->D.nx σ H):
  ∃W:Nat->Nat->St->Hp->Prop,(∃m,W 0 m σ H)/\∀i m σ H,W i m σ H ->
   ((Qv K a).stop i H/\D.nx σ H)\/((Qv K a).go i H/\∃N:St->Hp->Prop,(∀b H',N b H'->∃m',m'<m/\W (i+1) m' b H')/\∀x H',(Qv K a).yld i H x H'->g x σ H' λc H2=>tb {D with nx:=N,ct:=N,bk:=D.nx} c H2):=by
 refine⟨λi m σ H=>m=xs.length-i/\i<=xs.length/\Pv i σ H,⟨xs.length,by simp,FZ _,h0⟩,?_⟩;rintro i m σ H ⟨rfl,hi,p⟩;have q:=hl i σ H hi p;by_cases hlt:i<xs.length
 ·refine .inr ⟨⟨xs,xs[i],q,by simp[hlt]⟩,Pv (i+1),λb H' d=>⟨xs.length-(i+1),by omega,Z,hlt,d⟩,λx H' y=>?_⟩;obtain⟨e,y⟩:=y;subst e;exact hs i x σ _ (y xs q) p
 ·have e:i=xs.length:=by omega
  subst e;exact .inl ⟨⟨xs,q,Bf _⟩,hd σ H p⟩
abbrev R2:=V->V->Hp->VK->Prop
def Cu (X:Cx)(f:Value->Value->Sem Value)(r:R2):Prop :=
 ∀(pins:U1) (s:U7) (σ:St) (H:Hp) (x y:V) (v u:W3) (Q:VK),Inv X pins σ H s->RelV x v->RelV y u->r x y H Q ->
  wpAny (model X.prog X.w) X.A (f v u) (EP X pins σ Q) X.xe s
def Bu (X:Cx)(f:W3)(r:List V->Hp->VK->Prop):Prop :=
 ∀(pins:U1) (s:U7) (σ:St) (H:Hp) (xs:List V) (us:U5) (Q:VK),Inv X pins σ H s->Vals xs us->r xs H Q ->
  wpAny (model X.prog X.w) X.A (call f us) (EP X pins σ Q) X.xe s
def iR (X:Cx)(r:V->Hp->(Bool->Hp->Prop)->Prop):Prop :=
 ∀(pins:U1) (s:U7) (σ:St) (H:Hp) (x:V) (v:W3) (Q:Bool->Hp->Prop),Inv X pins σ H s->RelV x v->r x H Q ->
  wpAny (model X.prog X.w) X.A (truthy v) (TP X pins σ Q) X.xe s
def VN (r:R2)(ta tb:TE):TE:=λσ H Q=>ta σ H λx H1=>tb σ H1 λy H2=>r x y H2 Q
def rI (C:Int->Int->Prop)(g:Int->Int->V):R2:=λx y H Q=>∃i j,x=.int i/\y=.int j/\C i j/\Q (g i j) H
def Jp (g:Int->Int->V):R2:=λx y H Q=>∃i j,x=.int i/\y=.int j/\Q (g i j) H
section
variable {X:Cx}{a b c:Expr}{ta tb tc:TE}{pos:Pos}
variable{f:Value->Value->Sem Value}
theorem Ov(ha:PE X a ta)(hb:PE X b tb){R:V->V->Hp->Prop}(I:Inv X pins σ H s)
  (h:ta σ H λx H1=>tb σ H1 λy H2=>R x y H2) {Q:U2}
  (hf:∀v u c x y H2,Inv X pins σ H2 c->RelV x v->RelV y u->R x y H2->wpAny (model X.prog X.w) X.A (f v u) Q X.xe c):
  wpAny (model X.prog X.w) X.A (eval a X.env) (λv d=>wpAny (model X.prog X.w) X.A (eval b X.env) (λu i=>wpAny (model X.prog X.w) X.A (f v u) Q X.xe i) X.xe d) X.xe s:=by
 refine A_ (ha pins s σ H _ I h) λv s1 ⟨x,H1,l,g,j⟩=>?_;refine A_ (hb pins s1 σ H1 _ l j) λu c ⟨y,H2,e,m,k⟩=>?_;exact hf v u c x y H2 e g m k
theorem Ah{op:Operator}{r:R2}(ho:Cu X (binaryOp op) r)(ha:PE X a ta)(hb:PE X b tb):PE X (.BinOp a op b pos) (VN r ta tb):=by
 intro pins s σ H Q I h;exact wpAny_BinOp (Ov ha hb I h λv u e x y H2 c f d q=>ho pins e σ H2 x y v u Q c f d q)
variable{g:Int->Int->Int}
theorem Oc{C:Int->Int->Prop}
  (rule:∀(i j:Int) (t u:Tok) (s:U7) (Q:U2) (E:U2),C i j->Q (.int (g i j) s.toks) {s with toks:=s.toks+1}->wpAny (model X.prog X.w) X.A (f (.int i t) (.int j u)) Q E s):
  Cu X f (rI C λi j=>.int (g i j)):=by
 intro pins s σ H x y v u Q I b a h;obtain⟨i,j,rfl,rfl,c,q⟩:=h;obtain⟨t,rfl⟩:=b;obtain⟨t',rfl⟩:=a;exact rule i j t t' s _ _ c ⟨.int (g i j),H,I.tok _,⟨_,Z⟩,q⟩
theorem Jw
  (rule:∀(i j:Int) (t u:Tok) (s:U7) (Q:U2) (E:U2),Q (.int (g i j) s.toks) {s with toks:=s.toks+1}->wpAny (model X.prog X.w) X.A (f (.int i t) (.int j u)) Q E s):
  Cu X f (Jp λi j=>.int (g i j)):=by
 intro pins s σ H x y v u Q I b a h;obtain⟨i,j,rfl,rfl,q⟩:=h;obtain⟨t,rfl⟩:=b;obtain⟨t',rfl⟩:=a;exact rule i j t t' s _ _ ⟨.int (g i j),H,I.tok _,⟨_,Z⟩,q⟩
theorem K6{g:Int->Int->Bool}
  (rule:∀(i j:Int) (t u:Tok) (s:U7) (Q:U2) (E:U2),Q (.bool (g i j)) s->wpAny (model X.prog X.w) X.A (f (.int i t) (.int j u)) Q E s):
  Cu X f (Jp λi j=>.bl (g i j)):=by
 intro pins s σ H x y v u Q I b a h;obtain⟨i,j,rfl,rfl,q⟩:=h;obtain⟨t,rfl⟩:=b;obtain⟨t',rfl⟩:=a;exact rule i j t t' s _ _ ⟨.bl (g i j),H,I,Z,q⟩
def iu (i j:Int):Prop:=0<j/\j<1073741824
def ig (i j:Int):Prop:=0<=j/\j<=1000000/\i.natAbs<2^64
def Pn (i j:Int):Prop:=(-(2^64)<i/\i<2^64)\/(-(2^64)<j/\j<2^64)
theorem Pn.ok{i j:Int}(h:Pn i j):IntMulOk i j:=by
 rcases h with ⟨h1,h2⟩ | ⟨h1,h2⟩
 ·exact .of_left (intBits_le_64 h1 h2)
 ·exact .of_right (intBits_le_64 h1 h2)
theorem zP(k:Nat):(0:Int)<=2^k:=by
 rw[two_pow_cast];exact Int.natCast_nonneg _
theorem Hx:Cu X (binaryOp .Add) (Jp λi j=>.int (i+j)):=Jw λ_ _ _ _ _ _ _ q=>add_int q
theorem Ox:Cu X (binaryOp .Sub) (Jp λi j=>.int (i-j)):=Jw λ_ _ _ _ _ _ _ q=>sub_int q
theorem Ow:Cu X (binaryOp .Mult) (rI Pn λi j=>.int (i*j)):=Oc λ_ _ _ _ _ _ _ a q=>mul_int q a.ok
theorem Gx:Cu X (binaryOp .FloorDiv) (rI iu λi j=>.int (i / j)):=Oc λi j _ _ _ _ _ a q=>by
 have h1:(0:Int)<j:=a.1;have h2:j<1073741824:=a.2;exact floordiv_int (by omega) (by rw[jX i (by omega)];exact q) (.inl (PyProof.noPylong_small (by omega)))
theorem Ck:Cu X (binaryOp .Mod) (rI (λ_ j=>0<j) λi j=>.int (i%j)):=Oc λi j _ _ _ _ _ a q=>by
 have h1:(0:Int)<j:=a;exact mod_int' (by omega) (by rw[Int.fmod_eq_emod_of_nonneg i (by omega)];exact q)
theorem UJ:Cu X (binaryOp .Pow) (rI ig λi j=>.int (i^j.toNat)):=Oc λ_ _ _ _ _ _ _ a q=>pow_int_small a.1 a.2.1 a.2.2 q
theorem Qa:Cu X (binaryOp .RShift) (rI (λ_ j=>0<=j) λi j=>.int (i / 2^j.toNat)):=Oc λi j _ _ _ _ _ a q =>
 rshift_int a (by rw[jX i (zP _)];exact q)
theorem Hj:Cu X (binaryOp .BitAnd) (Jp λi j=>.int (Builtin.bitAnd i j)):=Jw λ_ _ _ _ _ _ _ q=>and_int q
theorem Wv:Cu X (binaryOp .BitOr) (Jp λi j=>.int (Builtin.bitOr i j)):=Jw λ_ _ _ _ _ _ _ q=>or_int q
theorem La:Cu X (binaryOp .BitXor) (Jp λi j=>.int (Builtin.bitXor i j)):=Jw λ_ _ _ _ _ _ _ q=>xor_int q
end
noncomputable def RX:V->V->Bool
 | .non,.non=>true | .non,.int _=>true | .int _,.non=>true | .non,.bl _=>true | .bl _,.non=>true | .non,.str _=>true | .str _,.non=>true
 | .int _,.int _=>true | .bl _,.bl _=>true | .str _,.str _=>true | .byt _,.byt _=>true
 | .int _,.str _=>true | .str _,.int _=>true | .bl _,.str _=>true | .str _,.bl _=>true
 | _,_=>false
def tM:R2:=λx y H Q=>RX x y=true/\Q (.bl (decide (x=y))) H
def jD:R2:=λx y H Q=>RX x y=true/\Q (.bl (!decide (x=y))) H
theorem mX{i j:Int}:decide (V.int i=V.int j)=(i == j):=by
 rw[Px];simp
theorem rE{i j:Bool}:decide (V.bl i=V.bl j)=(i == j):=by
 rw[Px];simp
theorem mY{i j:Str}:decide (V.str i=V.str j)=(i == j):=by
 rw[Px];simp
theorem mW{i j:Array UInt8}:decide (V.byt i=V.byt j)=(i.toList == j.toList):=by
 rw[Px];cases i;cases j;simp
section
variable {X:Cx}{a b c:Expr}{ta tb tc:TE}{pos:Pos}
theorem Dj{Q:VK}{k k':Bool}(I:Inv X pins σ H s)(q:Q (.bl k) H)(e:k=k'):EP X pins σ Q (.bool k') s:=by
 subst e;exact⟨.bl k,H,I,Z,q⟩
theorem Gu:Cu X (compareOp .Eq) tM:=by
 intro pins s σ H x y v u Q I c a h;obtain⟨b,q⟩:=h;cases x with
 | non =>
  cases c;cases y with
  | non=>cases a;exact PySem.EqNone.eq_none_none (Dj I q (by simp))
  | bl j=>cases a;exact PySem.EqNone.eq_none_bool (Dj I q (by simp))
  | int j=>obtain⟨t',rfl⟩:=a;exact PySem.EqNone.eq_none_int (Dj I q (by simp))
  | str j=>obtain⟨t',rfl⟩:=a;exact PySem.EqNone.eq_none_str (Dj I q (by simp))
  | _=>exact absurd (show false=true from b) Fv
 | bl i =>
  cases c;cases y with
  | non=>cases a;exact PySem.EqNone.eq_bool_none (Dj I q (by simp))
  | bl j=>cases a;exact eq_bool (Dj I q rE)
  | str j=>obtain⟨t',rfl⟩:=a;exact PySem.EqMixed.eq_bool_str (Dj I q (by simp))
  | _=>exact absurd (show false=true from b) Fv
 | int i =>
  obtain⟨t,rfl⟩:=c;cases y with
  | non=>cases a;exact PySem.EqNone.eq_int_none (Dj I q (by simp))
  | int j=>obtain⟨t',rfl⟩:=a;exact eq_int (Dj I q mX)
  | str j=>obtain⟨t',rfl⟩:=a;exact PySem.EqMixed.eq_int_str (Dj I q (by simp))
  | _=>exact absurd (show false=true from b) Fv
 | str i =>
  obtain⟨t,rfl⟩:=c;cases y with
  | non=>cases a;exact PySem.EqNone.eq_str_none (Dj I q (by simp))
  | bl j=>cases a;exact PySem.EqMixed.eq_str_bool (Dj I q (by simp))
  | int j=>obtain⟨t',rfl⟩:=a;exact PySem.EqMixed.eq_str_int (Dj I q (by simp))
  | str j=>obtain⟨t',rfl⟩:=a;exact eq_str (Dj I q mY)
  | _=>exact absurd (show false=true from b) Fv
 | byt i =>
  obtain⟨t,rfl⟩:=c;cases y with
  | byt j=>obtain⟨t',rfl⟩:=a;exact PySem.W.eq_bytes (Dj I q mW)
  | _=>exact absurd (show false=true from b) Fv
 | _=>cases y<;>exact absurd (show false=true from b) Fv
theorem KZ:Cu X (compareOp .NotEq) jD:=by
 intro pins s σ H x y v u Q I c a h;obtain⟨b,q⟩:=h;cases x with
 | non =>
  cases c;cases y with
  | non=>cases a;exact PySem.EqNone.ne_none_none (Dj I q (by simp))
  | bl j=>cases a;exact PySem.EqNone.ne_none_bool (Dj I q (by simp))
  | int j=>obtain⟨t',rfl⟩:=a;exact PySem.EqNone.ne_none_int (Dj I q (by simp))
  | str j=>obtain⟨t',rfl⟩:=a;exact PySem.EqNone.ne_none_str (Dj I q (by simp))
  | _=>exact absurd (show false=true from b) Fv
 | bl i =>
  cases c;cases y with
  | non=>cases a;exact PySem.EqNone.ne_bool_none (Dj I q (by simp))
  | bl j=>cases a;exact ne_bool (Dj I q (congrArg not rE))
  | str j=>obtain⟨t',rfl⟩:=a;exact PySem.EqMixed.ne_bool_str (Dj I q (by simp))
  | _=>exact absurd (show false=true from b) Fv
 | int i =>
  obtain⟨t,rfl⟩:=c;cases y with
  | non=>cases a;exact PySem.EqNone.ne_int_none (Dj I q (by simp))
  | int j=>obtain⟨t',rfl⟩:=a;exact ne_int (Dj I q (congrArg not mX))
  | str j=>obtain⟨t',rfl⟩:=a;exact PySem.EqMixed.ne_int_str (Dj I q (by simp))
  | _=>exact absurd (show false=true from b) Fv
 | str i =>
  obtain⟨t,rfl⟩:=c;cases y with
  | non=>cases a;exact PySem.EqNone.ne_str_none (Dj I q (by simp))
  | bl j=>cases a;exact PySem.EqMixed.ne_str_bool (Dj I q (by simp))
  | int j=>obtain⟨t',rfl⟩:=a;exact PySem.EqMixed.ne_str_int (Dj I q (by simp))
  | str j=>obtain⟨t',rfl⟩:=a;exact ne_str (Dj I q (congrArg not mY))
  | _=>exact absurd (show false=true from b) Fv
 | byt i =>
  obtain⟨t,rfl⟩:=c;cases y with
  | byt j=>obtain⟨t',rfl⟩:=a;exact PySem.W.ne_bytes (Dj I q (congrArg not mW))
  | _=>exact absurd (show false=true from b) Fv
 | _=>cases y<;>exact absurd (show false=true from b) Fv
theorem LK:Cu X (compareOp .Lt) (Jp λi j=>.bl (decide (i<j))):=K6 λ_ _ _ _ _ _ _ q=>lt_int q
theorem X7n:Cu X (compareOp .LtE) (Jp λi j=>.bl (decide (i<=j))):=K6 λ_ _ _ _ _ _ _ q=>le_int q
theorem Mg:Cu X (compareOp .Gt) (Jp λi j=>.bl (decide (j<i))):=K6 λ_ _ _ _ _ _ _ q=>gt_int q
theorem qL:Cu X (compareOp .GtE) (Jp λi j=>.bl (decide (j<=i))):=K6 λ_ _ _ _ _ _ _ q=>ge_int q
theorem j9:Cu X (compareOp .In) (λx y H Q=>∃i j,x=.str i/\y=.str j/\Q (.bl (!(Builtin.Str.occurrences j i 0 j.length 1).isEmpty)) H):=by
 intro pins s σ H x y v u Q I b a h;obtain⟨i,j,rfl,rfl,q⟩:=h;obtain⟨t,rfl⟩:=b;obtain⟨t',rfl⟩:=a;exact in_str (Dj I q rfl)
theorem Ml:Cu X (compareOp .Is) (λx y H Q=>y=.non/\Q (.bl (decide (x=.non))) H):=by
 intro pins s σ H x y v u Q I a b h;obtain⟨rfl,q⟩:=h;cases b;refine is_none_gen (Dj I q ?_);cases x<;>first
  | (cases a;rfl)
  | (obtain⟨t,rfl⟩:=a;rfl)
theorem nJ:Cu X (compareOp .IsNot) (λx y H Q=>y=.non/\Q (.bl (!decide (x=.non))) H):=by
 intro pins s σ H x y v u Q I a b h;obtain⟨rfl,q⟩:=h;cases b;refine isnot_none_gen (Dj I q ?_);cases x<;>first
  | (cases a;rfl)
  | (obtain⟨t,rfl⟩:=a;rfl)
variable{op:CmpOp}
theorem Ac(b:Expr)(h:op≠.In:=by decide)(h2:op≠.NotIn:=by decide):behindInMarks op b=false:=by
 have c:(op == CmpOp.In)=false:=by cases op<;>first | rfl | exact absurd rfl h
 have a:(op == CmpOp.NotIn)=false:=by cases op<;>first | rfl | exact absurd rfl h2
 cases b<;>simp[behindInMarks,c,a]
theorem Hy{r:R2}(ho:Cu X (compareOp op) r)(ha:PE X a ta)(hb:PE X b tb)(hm:behindInMarks op b=false):PE X (.Compare a [op] [b] pos) (VN r ta tb):=by
 intro pins s σ H Q I h;exact wpAny_Compare1 (Ov ha hb I h λv u e x y H2 c f d q=>ho pins e σ H2 x y v u Q c f d q) hm
def RD (t:TE):TT:=λσ H Q=>t σ H λx H'=>∃k,x=.bl k/\Q k H'
theorem Bx{r:R2}(ho:Cu X (compareOp op) r)(ha:PE X a ta)(hb:PE X b tb)(hm:behindInMarks op b=false):PT X (.Compare a [op] [b] pos) (RD (VN r ta tb)):=by
 intro pins s σ H Q I h
 refine jG (A_ (ha pins s σ H _ I h) λv s1 ⟨x,H1,j,m,o⟩=>A_ (hb pins s1 σ H1 _ j o) λu p ⟨y,H2,n,i,g⟩ =>
  A_ (ho pins p σ H2 x y v u _ n m i g) λc q ⟨z,f,I3,l,k,e,d⟩=>?_) hm
 subst e;cases l;exact K4 ⟨f,I3,d⟩
def iQ (K:U0)(x:V)(H:Hp)(k:Bool):Prop :=
 match x with
 | .non=>k=false
 | .bl b=>k=b
 | .int i=>k=(i != 0)
 | .str y=>y.length<=sizeLine/\k=((y.length:Int) != 0)
 | .byt y=>y.size<=sizeLine/\k=((y.size:Int) != 0)
 | .ref p=>(∃xs,Ag K H p xs/\k=!xs.isEmpty)\/(∃xs,Ak K H p xs/\k=!xs.isEmpty)\/∃kvs,H p=some (.dK kvs)/\k=!kvs.isEmpty
 | _=>False
theorem yc{κ:Type}{kvs:List (κ×V)}{vs:List (κ×Value)}(r:KV kvs vs):(!vs.isEmpty)=!kvs.isEmpty:=by
 cases r<;>rfl
theorem lG{xs:List V}{its:U5}(r:Vals xs its):(!its.toArray.isEmpty)=!xs.isEmpty:=by
 cases r<;>simp
theorem El:(sizeLine:Nat)<2^63:=by rw[Nm];decide
theorem X4u:iR X (λx H Q=>∃k,iQ X.K x H k/\Q k H):=by
 intro pins s σ H x v Q I d h;obtain⟨k,e,q⟩:=h;have n:=El;have l:sizeLine=16777216:=Nm;cases x with
 | non =>
  cases d;have a:k=false:=e;subst a;exact truthy_none ⟨H,I,q⟩
 | bl b =>
  cases d;have a:k=b:=e;subst a;exact K4 ⟨H,I,q⟩
 | int i =>
  obtain⟨t,rfl⟩:=d;have a:k=(i != 0):=e;subst a;exact PySem.P.truthy_int ⟨H,I,q⟩
 | str y =>
  obtain⟨t,rfl⟩:=d;obtain⟨j,a⟩:y.length<=sizeLine/\k=((y.length:Int) != 0):=e;subst a;exact PySem.P.truthy_str (by omega) ⟨H,I.tok _,q⟩
 | byt y =>
  obtain⟨t,rfl⟩:=d;obtain⟨j,a⟩:y.size<=sizeLine/\k=((y.size:Int) != 0):=e;subst a;exact PySem.W.truthy_bytes (by omega) ⟨H,I.tok _,q⟩
 | ref p =>
  cases d;have a:(∃xs,Ag X.K H p xs/\k=!xs.isEmpty)\/(∃xs,Ak X.K H p xs/\k=!xs.isEmpty)\/∃kvs,H p=some (.dK kvs)/\k=!kvs.isEmpty:=e;rcases a with ⟨xs,hx,a⟩ | ⟨xs,hx,a⟩ | ⟨kvs,hx,a⟩
  ·subst a;obtain⟨its,r,f,hz⟩:=I.list hx;have c:=r.length;exact wpAny_truthy_list f.isList (by simp only[Ci];omega) ⟨H,I.tok _,by rw[lG r];exact q⟩
  ·subst a;obtain⟨its,r,f,hz⟩:=I.tuple hx;have c:=r.length;exact truthy_tuple f (by simp only[Ci];omega) ⟨H,I.tok _,by rw[lG r];exact q⟩
  ·subst a;obtain⟨hz,g,vs,r,m⟩:kvs.length<=sizeLine/\(p == sysModules)=false/\∃vs,KV kvs vs/\s.heap.DictOf (Hq X.prog X.w) p vs:=I.hok p _ hx;have c:kvs.length=vs.length:=Paired.length r;exact wpAny_truthy_dict g m (by omega) ⟨H,I.tok _,by rw[yc r];exact q⟩
 | _=>exact(show False from e).elim
theorem fj:Cu X (binaryOp .Add) (λx y H Q=>∃i j,x=.str i/\y=.str j/\i.length+j.length<=sizeLine/\Q (.str (i++j)) H):=by
 intro pins s σ H x y v u Q I b a h;obtain⟨i,j,rfl,rfl,hz,q⟩:=h;obtain⟨t,rfl⟩:=b;obtain⟨t',rfl⟩:=a;exact add_str (λt' tk=>⟨.str (i++j),H,I.tok _,⟨_,Z⟩,q⟩) hz
theorem vals1(r:Vals [x] us):∃u,us=[u]/\RelV x u:=by
 cases r with
 | cons r1 r2=>cases r2;exact⟨_,rfl,r1⟩
theorem vals2{y:V}(r:Vals [x,y] us):∃u w',us=[u,w']/\RelV x u/\RelV y w':=by
 cases r with
 | cons r1 r2 =>
  cases r2 with
  | cons r3 r4=>cases r4;exact⟨_,_,rfl,r1,r3⟩
theorem fJ(hc:X.calm=true):Bu X (.builtin "min") (λxs H Q=>∃i j,xs=[.int i,.int j]/\Q (.int (if j<i then j else i)) H):=by
 intro pins s σ H xs us Q I r h;obtain⟨i,j,rfl,q⟩:=h;obtain⟨u,a,rfl,⟨t,rfl⟩,⟨t',rfl⟩⟩:=vals2 r;refine min_two_ints (I.ok.hd hc) λh' tk k=>⟨_,H,I.kept k,?_,q⟩;by_cases hj:j<i
 ·rw[if_pos hj,if_pos hj];exact⟨_,Z⟩
 ·rw[if_neg hj,if_neg hj];exact⟨_,Z⟩
theorem fH:Bu X (.type "int") (λxs H Q=>(∃i,xs=[.int i]/\Q (.int i) H)\/∃k,xs=[.bl k]/\Q (.int (if k then 1 else 0)) H):=by
 intro pins s σ H xs us Q I r h;rcases h with ⟨i,rfl,q⟩ | ⟨k,rfl,q⟩
 ·obtain⟨u,rfl,t,rfl⟩:=vals1 r;exact call_int_int ⟨.int i,H,I,⟨_,Z⟩,q⟩
 ·obtain⟨u,rfl,a⟩:=vals1 r;cases a;exact call_int_bool ⟨.int (if k then 1 else 0),H,I.tok _,⟨_,Z⟩,q⟩
end
structure Pj (h:Heap) (x dx C:Y3) (mA:U4):Prop where
 obj:h.get? x=some (PySem.W.instObj C dx)
 ns:h.Ns1 dx mA
 ne:dx≠x
theorem j7{h:Heap}{dx:Y3}{mA:U4}(n:h.Ns1 dx mA):∃od,h.get? dx=some od/\∀name,PySem.W.lookIn name od=some (mA name):=by
 obtain⟨o,es,ep,c,d,g,_,i⟩:=n;refine⟨o,c,λname=>?_⟩;have e:=i name;unfold nsFind findBy at e;rw[<-Array.find?_toList]at e;unfold PySem.W.lookIn;rw[d];dsimp only;split
 ·rename_i y q;rw[q]at e;exact congrArg some e
 ·rename_i q;rw[q]at e;have a:es.toList.any (·.refKey)=false:=by
   rw[List.any_eq_false];intro y f;obtain⟨z,t,b⟩:=g y (Array.mem_toList_iff.mp f);simp[DictEntry.refKey,b]
  have j:¬ es.toList.any (·.refKey)=true:=by rw[a];exact Fv
  rw[if_neg j];exact congrArg some e
variable{C:Y3}
theorem Pj.look{h:Heap}{x dx:Y3}{mA:U4}(I:Pj h x dx C mA):∃od,PySem.W.InstAt h x (PySem.W.instObj C dx) C (some od)/\∀name,PySem.W.lookIn name od=some (mA name):=
 let ⟨od,ho,hl⟩:=j7 I.ns
 ⟨od,⟨I.obj,Z,Z,ho⟩,hl⟩
section
variable {prog:U8}{w:W1}{A:Y0}{E:U2}{s:U7}{K:U0}{x dx C f:Y3}{mA:U4}{name:Str}{v:W3}
end
theorem Eo.some_of{v:V}{o:Option Value}(r:Eo (some v) o):∃u,o=some u/\RelV v u:=by
 cases o with
 | none=>exact(show False from r).elim
 | some u=>exact⟨u,rfl,r⟩
theorem xW{v:V}(r:RelV v u):PySem.W.handedIn u=true:=by
 cases v with
 | non=>cases (show u=Value.none from r);rfl
 | bl b=>cases (show u=Value.bool b from r);rfl
 | int i=>obtain⟨t,e⟩:=(show ∃t,u=Value.int i t from r);cases e;rfl
 | str x=>obtain⟨t,e⟩:=(show ∃t,u=Value.str x t from r);cases e;rfl
 | byt b=>obtain⟨t,e⟩:=(show ∃t,u=Value.bytes b t from r);cases e;rfl
 | flt b=>obtain⟨t,e⟩:=(show ∃t,u=Value.float b t from r);cases e;rfl
 | ref a=>cases (show u=Value.ref a from r);rfl
 | ty n=>cases (show u=Value.type n from r);rfl
section
variable {P:U8}{w:W1}{H H':Hp}{h h':Heap}{a C dx:Y3}{fs fs':List (Str×V)}
theorem X3c(hok:Ds P w H h)(e:H a=some (.ins C dx fs)):∃mA,Pj h a dx C mA/\(∀f,Eo (fs.lookup f) (mA f))/\PySem.Within mA (fs.map (·.1))/\fs.length<=1000/\H dx=some (.own a):=by
 obtain⟨d,z,b,c,mA,n,r,q⟩:=(show Ai P w H h a (.ins C dx fs) from hok a _ e);exact⟨mA,⟨c,n,b⟩,r,q,z,d⟩
end
structure Cls (K:U0) (C:Y3):Prop where
 pg:PySem.W.plainGet K C Str.empty=true
 hd:PySem.W.hasDictIn K C=true
 po:PySem.W.plainOver K C=true
 sa:PySem.W.findIn K (.ref C) "__setattr__"=some (some (.builtin "object.__setattr__"))
theorem Cls.get{K:U0}{C:Y3}(c:Cls K C)(f:Str):PySem.W.plainGet K C f=true:=c.pg
def Bj (K:U0)(C:Y3)(f:Str):Prop:=PySem.W.findIn K (.ref C) f=some none
section
variable {X:Cx}{pins:U1}{σ:St}{H:Hp}{s:U7}{a C dx:Y3}{fs:List (Str×V)}{f:Str}{v:V}{A:Y0}{E:U2}
theorem X3u{prog:U8}{env:Env}{pos:Pos}{Q:U2}(hb:attributeBase e f env (eval e env)=eval e env)
  (h:wpAny (model prog w) A (eval e env) (λo a=>wpAny (model prog w) A (getAttr o f true) Q E a) E s):wpAny (model prog w) A (eval (.Attribute e f pos) env) Q E s :=
 Attribute_any_ h (by rw[arm_eval_Attribute,hb])
end
section
variable {X:Cx}{o e value:Expr}{f:Str}{pos pos' tpos:Pos}{ta tv:TE}
end
section
variable {X:Cx}{pins:U1}{σ:St}{H:Hp}{s:U7}{A:Y0}{E:U2}{Q:U2}{c:W3}{b:Bool}
inductive Bg (K:U0) (H:Hp):V->Value->Prop where
 | non:Bg K H .non (.type "NoneType")
 | bl (x:Bool):Bg K H (.bl x) (.type "bool")
 | int (i:Int):Bg K H (.int i) (.type "int")
 | str (x:Str):Bg K H (.str x) (.type "str")
 | flt (x:UInt64):Bg K H (.flt x) (.type "float")
 | lst {a:Y3}{xs:List V} (e:H a=some (.lst xs)):Bg K H (.ref a) (.type "list")
 | frz {a:Y3}{o:Obj}{xs:List V} (e:H a=some (.frz o (.lst xs))):Bg K H (.ref a) (.type "list")
 | tup {a:Y3}{xs:List V} (e:H a=some (.tup xs)):Bg K H (.ref a) (.type "tuple")
 | dK {a:Y3}{kvs:List (Key×V)} (e:H a=some (.dK kvs)):Bg K H (.ref a) (.type "dict")
 | dT {a:Y3}{kvs:List (List Key×V)} (e:H a=some (.dT kvs)):Bg K H (.ref a) (.type "dict")
 | ins {a C dx:Y3}{fs:List (Str×V)} (e:H a=some (.ins C dx fs)) (cl:Cls K C) (ha:PySem.W.findIn K (.ref C) "__class__"=some (some (.builtin "object.__class__")))
   (hn:PySem.W.specialIn K (.builtin "object.__class__") "__get__"=some (some (.builtin "getset_descriptor.__get__"))) (htk:PySem.W.takesIn K (.builtin "object.__class__")=some true)
   (hm:PySem.W.mroIn K C (.type "object")=some true):Bg K H (.ref a) (.ref C)
theorem xZ{t:W3}(I:Inv X pins σ H s)(rx:RelV x u)(ty:Bg X.K H x t)(e:PySem.W.kitOne X.K t c=some b)(h:∀tk,Q (.bool b) {s with toks:=tk}):
  wpAny (model X.prog X.w) A (call (.builtin "isinstance") [u,c]) Q E s:=by
 cases ty with
 | non=>cases (show u=Value.none from rx);exact Ir PySem.W.kitx_none I.kIn True.intro e (λz=>nomatch z) h
 | bl y=>cases (show u=Value.bool y from rx);exact Ir PySem.W.kitx_bool I.kIn True.intro e (λz=>nomatch z) h
 | int i=>obtain⟨t,q⟩:=(show ∃t,u=Value.int i t from rx);cases q;exact Ir PySem.W.kitx_int I.kIn True.intro e (λz=>nomatch z) h
 | str y=>obtain⟨t,q⟩:=(show ∃t,u=Value.str y t from rx);cases q;exact Ir PySem.W.kitx_str I.kIn True.intro e (λz=>nomatch z) h
 | flt y=>obtain⟨t,q⟩:=(show ∃t,u=Value.float y t from rx);cases q;exact Ir PySem.W.kitx_float I.kIn True.intro e (λz=>nomatch z) h
 | @lst a xs ea =>
  cases (show u=Value.ref a from rx);obtain⟨_,_,n,_,h1⟩:=(show Ai X.prog X.w H s.heap a (.lst xs) from I.hok a _ ea);exact Ir PySem.W.kitx_list I.kIn ⟨_,h1,Z⟩ e (λz=>nomatch z) h
 | @frz a ob xs ea =>
  cases (show u=Value.ref a from rx);obtain⟨_,_,_,n,_,h1⟩:=(show Ai X.prog X.w H s.heap a (.frz ob (.lst xs)) from I.hok a _ ea);exact Ir PySem.W.kitx_list I.kIn ⟨_,h1,Z⟩ e (λz=>nomatch z) h
 | @tup a xs ea =>
  cases (show u=Value.ref a from rx);obtain⟨_,_,_,p⟩:=(show Ai X.prog X.w H s.heap a (.tup xs) from I.hok a _ ea);obtain⟨o,h1,h2,_⟩:=p;exact Ir PySem.W.kitx_tuple I.kIn ⟨o,h1,h2⟩ e (λz=>nomatch z) h
 | @dK a kvs ea =>
  cases (show u=Value.ref a from rx);obtain⟨_,_,vs,_,p⟩:=(show Ai X.prog X.w H s.heap a (.dK kvs) from I.hok a _ ea);obtain⟨o,es,ep,h1,h2,_⟩:=p;exact Ir PySem.W.kitx_dict I.kIn ⟨o,h1,h2.1⟩ e (λz=>nomatch z) h
 | @dT a kvs ea =>
  cases (show u=Value.ref a from rx);obtain⟨_,_,xs,_,o,es,ep,h1,h2,_⟩:=(show Ai X.prog X.w H s.heap a (.dT kvs) from I.hok a _ ea);exact Ir PySem.W.kitx_dict I.kIn ⟨o,h1,h2.1⟩ e (λz=>nomatch z) h
 | @ins a C dx fs ea cl ha hn htk hm =>
  cases (show u=Value.ref a from rx);obtain⟨mA,O,_⟩:=X3c I.hok ea;obtain⟨od,J,_⟩:=O.look;exact Ir (PySem.W.kitx_own (cl.get _) cl.hd ha hn htk hm) I.kIn J e (λz=>nomatch z) h
end
structure Bd (k:Nat) (A:Y0):Prop where
 hd:A.handled=none
 dp:A.depth+3*k+5<recursionLimit
 un:A.units+16*k+200<cLine
theorem Bd.mono{j k:Nat}(r:Bd k A)(h:j<=k):Bd j A:=⟨r.hd,by have:=r.dp;omega,by have:=r.un;omega⟩
theorem Bd.deeper{k:Nat}(r:Bd (k+1) A)(env:Env):Bd k (A.deeper env):=
 ⟨r.hd,by have:=r.dp;show A.depth+1+3*k+5<_;omega,by have:=r.un;show A.units+3+16*k+200<_;omega⟩
variable{kw:List (Str×Value)}
theorem yj:(A.under (.builtin "type.__call__" ⟨.ref C::us,kw⟩)).depth=A.depth+1:=by
 first | rfl | simp[Around.under,Code.weight,Code.isCreation,Code.isGuard,Code.isCaller,Code.frames,Code.isFrame,guardIds]
theorem yp:(A.under (.builtin "type.__call__" ⟨.ref C::us,kw⟩)).units=A.units+1:=by
 first | rfl | simp[Around.under,Code.cUnits,Code.frames,Code.isFrame]
theorem Bd.make{k:Nat}(r:Bd (k+1) A)(C:Y3)(us:U5)(kw:List (Str×Value)):Bd k (A.under (.builtin "type.__call__" ⟨.ref C::us,kw⟩)):=
 ⟨r.hd,by have:=r.dp;rw[yj];omega,by have:=r.un;rw[yp];omega⟩
theorem Bd.depth{k:Nat}(r:Bd k A):A.depth<recursionLimit:=by have:=r.dp;omega
theorem Bd.units{k:Nat}(r:Bd k A):A.units+64<cLine:=by have:=r.un;omega
def RK:TA:=λ_ H Q=>Q [] H
def Lp (ta:TE)(tr:TA):TA:=λσ H Q=>ta σ H λx H1=>tr σ H1 λxs H2=>Q (x::xs) H2
section
variable {X:Cx}{e:Expr}{es:List Expr}{te:TE}{t:TA}{pos:Pos}
theorem Ad:PA X [] RK:=λ_ _ _ _ H Q I h=>Calls.spliced_nil ⟨[],H,I,.nil,h⟩
theorem Aa(ha:PE X e te)(hr:PA X es t)(hs:starEach (e::es) X.env=(false,eval e X.env)::starEach es X.env:=by rfl):PA X (e::es) (Lp te t):=by
 intro pos pins s σ H Q I h;rw[hs];show wpAny _ _ (spliced ((false,eval e X.env)::backTo pos (starEach es X.env))) _ _ s;refine Calls.spliced_cons (A_ (ha pins s σ H _ I h) λu s1 ⟨x,H1,c,d,g⟩=>?_);exact A_ (hr pos pins s1 σ H1 _ c g) λus i ⟨xs,H2,f,b,a⟩=>⟨x::xs,H2,f,.cons d b,a⟩
def Xk (t:TA):TE:=λσ H Q=>t σ H λxs H1=>xs.length<=sizeLine/\∀p,H1 p=none->Q (.ref p) (upd H1 p (.tup xs))
def Xq (t:TA):TE:=λσ H Q=>t σ H λxs H1=>xs.length<=sizeLine/\∀p,H1 p=none->Q (.ref p) (upd H1 p (.lst xs))
theorem Cr{x1}(h:PA X es t):PE X (.Tuple es x1 pos) (Xk t):=by
 intro pins s σ H Q I c;refine wpAny_Tuple_spliced (A_ (h pos pins s σ H _ I c) λus s1 ⟨xs,H1,a,r,z,q⟩=>⟨by rw[<-r.length];exact z,?_⟩);have d:H1 s1.heap.objs.size=none:=a.hok.fresh (Bf _);refine⟨.ref s1.heap.objs.size,upd H1 s1.heap.objs.size (.tup xs),a.laid (t':=s1.toks) (λb u e=>CG _ e) (Bf _) ?_,Z,q _ d⟩;exact⟨z,us,r,⟨_,Ek _ rfl,Z,_,Z⟩⟩
theorem Ho(h:PA X es t):PE X (.List es pos) (Xq t):=by
 intro pins s σ H Q I c;refine wpAny_List_spliced (A_ (h pos pins s σ H _ I c) λus s1 ⟨xs,H1,a,r,z,q⟩=>⟨by rw[<-r.length];exact z,?_⟩);have d:H1 s1.heap.objs.size=none:=a.hok.fresh (Bf _);refine⟨.ref s1.heap.objs.size,upd H1 s1.heap.objs.size (.lst xs),a.laid (t':=s1.toks) (λb u e=>CG _ e) (Bf _) ?_,Z,q _ d⟩;exact⟨z,us,0,r,Ek _ rfl⟩
end
abbrev Sp:=List V->Hp->VK->XK->Prop
abbrev KC:=List Env->Hp->Shared->XK->Value->Shared->Prop
structure GK (P:U8) (w:W1) (K:U0) (mg:U4) (base:Heap) (A:Y0) (outer:List Env) (s:U7) (H:Hp):Prop where
 frames:A.frames=some outer
 mod:Mod K mg base
 bs:∀b o,base.get? b=some o->s.heap.get? b=some o/\H b=none
 bsz:base.objs.size<=s.heap.objs.size
 funs:s.heap.FunFrames base outer
 frf:∀b∈frs outer,H b=none
 hok:Ds P w H s.heap
 bare:AllBare s.gens
def CE (outer:List Env)(P:U8)(w:W1)(H:Hp)(s:U7)(Q:VK)(u:W3)(s':U7):Prop :=
 ∃v H',s'.os=s.os/\AllBare s'.gens/\Un (frs outer) [] H H' s.heap s'.heap/\Ds P w H' s'.heap/\RelV v u/\Q v H'
def CR (CX:KC)(outer:List Env)(P:U8)(w:W1)(H:Hp)(s:U7)(Q:VK)(E:XK)(r:Result)(s':U7):Prop :=
 match r with
 | .ok (.ret u)=>CE outer P w H s Q u s'
 | .ok _=>False
 | .error e=>CX outer H s E e s'
structure Ca (P:U8) (w:W1) (K:U0) (mg:U4) (base:Heap) (CX:KC) (k:Nat) (f:Y3) (fd:FuncData) (ps:W0) (sp:Sp):Prop where
 len:∀vs H Q E,sp vs H Q E->vs.length=ps.length
 run:∀(A:Y0) (outer:List Env) (s:U7) (H:Hp) (args:Args) (us:U5) (vs:List V) (Q:VK) (E:XK),Bd k A->GK P w K mg base A outer s H->BindsTo s fd args (ps.zip us)->Vals vs us->sp vs H Q E ->
  codeAny (model P w) A (.call (.ref f) args) (CR CX outer P w H s Q E) s
variable{mg:U4}{base:Heap}{CX:KC}{f:Y3}{fd:FuncData}{ps:W0}{sp:Sp}
theorem Ca.mono{j k:Nat}(F:Ca P w K mg base CX j f fd ps sp)(h:j<=k):
  Ca P w K mg base CX k f fd ps sp:=⟨F.len,λA outer s H args us vs Q E a=>F.run A outer s H args us vs Q E (a.mono h)⟩
theorem Ca.imp{k:Nat}{sp':Sp}(F:Ca P w K mg base CX k f fd ps sp)
  (h:∀vs H Q E,sp' vs H Q E->sp vs H Q E):Ca P w K mg base CX k f fd ps sp' :=
 ⟨λvs H Q E q=>F.len vs H Q E (h _ _ _ _ q),λA outer s H args us vs Q E c d e b a=>F.run A outer s H args us vs Q E c d e b (h _ _ _ _ a)⟩
variable{outer:List Env}
theorem GK.make(e:GK P w K mg base A outer s H)(C:Y3)(us:U5)(kw:List (Str×Value)):
  GK P w K mg base (A.under (.builtin "type.__call__" ⟨.ref C::us,kw⟩)) outer s H:=⟨by first | exact e.frames | (simpa [Around.under,Code.envs,Code.isFrame,pushEnvs] using e.frames),e.mod,e.bs,e.bsz,e.funs,e.frf,e.hok,e.bare⟩
section
variable {X:Cx}{pins:U1}{σ:St}{H:Hp}{s s':U7}
theorem Inv.env0(I:Inv X pins σ H s):GK X.prog X.w X.K X.mg X.base X.A X.stack s H :=
 ⟨I.ok.frames,I.ok.mod,I.bs,Eh I.ok.bsz I.sz,I.stack,I.stkFree,I.hok,I.bare⟩
theorem Inv.after{Q:VK}(I:Inv X pins σ H s)(h:CE X.stack X.prog X.w H s Q u s'):EP X pins σ Q u s':=by
 obtain⟨v,H',os,a,un,e,r,q⟩:=h;obtain⟨f,g,d,t,c⟩:=s';obtain rfl:c=s.os:=os;exact⟨v,H',I.call (h':=f) (g':=g) (d':=d) (t':=t) (ch:=[]) un e a (λb z=>absurd z (by simp)),r,q⟩
end
def HD (sp:Sp)(dvs:List V)(E:XK)(t:TA):TE:=λσ H Q=>t σ H λvs H1=>sp (vs++dvs) H1 Q E
def Binds (K:U0)(fd:FuncData)(ps:W0)(ds:U5):Prop :=
 ∀(s:U7) (us:U5),K.In s.heap->(us++ds).length=ps.length->BindsTo s fd ⟨us,[]⟩ (ps.zip (us++ds))
theorem Binds.all(h:∀us:List Value,us.length=ps.length->bindArgs fd ⟨us,[]⟩=pure (ps.zip us)):Binds K fd ps []:=λs us _ a=>by
 rw[JM]at a ⊢;exact .of_eq (h us a)
def Passes (CX:KC)(X:Cx)(E:XK):Prop:=∀(pins:U1) (σ:St) (H:Hp) (s:U7) (e:W3) (s':U7),Inv X pins σ H s->CX X.stack H s E e s'->X.xe e s'
section
variable {X:Cx}{CX:KC}{k:Nat}{f C:Y3}{fd:FuncData}{ps:W0}{sp:Sp}{dvs:List V}{ds:U5}{E:XK}{x m:Str}{p pos apos:Pos}{e o:Expr}{es:List Expr}{ta:TE}{t:TA}
theorem X4y{Q:VK}{vs:List V}(F:Ca X.prog X.w X.K X.mg X.base CX k f fd ps sp)(hr:Bd k X.A)(hb:Binds X.K fd ps ds)(hd:Vals dvs ds)(hx:Passes CX X E)
  (I:Inv X pins σ H s) (r:Vals vs us) (h:sp (vs++dvs) H Q E):wpAny (model X.prog X.w) X.A (call (.ref f) us) (EP X pins σ Q) X.xe s:=by
 have b:Vals (vs++dvs) (us++ds):=r.append hd;have c:(us++ds).length=ps.length:=by rw[<-b.length];exact F.len _ _ _ _ h
 refine Ks (Lz (F.run X.A X.stack s H ⟨us,[]⟩ (us++ds) (vs++dvs) Q E hr I.env0 (hb s us I.kIn c) b h) λr s' a=>?_);cases r with
 | error e=>exact hx pins σ H s e s' I a
 | ok fl =>
  cases fl with
  | ret u=>exact I.after a
  | next=>exact False.elim a
  | brk=>exact False.elim a
  | cont=>exact False.elim a
theorem gn(F:Ca X.prog X.w X.K X.mg X.base CX k f fd ps sp)(hr:Bd k X.A)(hg:Gl X x)(hm:X.mg x=some (.ref f))(hk:PySem.W.keepIn X.K (.ref f)=true)(hb:Binds X.K fd ps ds)(hd:Vals dvs ds)(hx:Passes CX X E)
  (ha:PA X (e::es) t) (hdb:(x == ("__debug__":Str))=false:=by decide) (he:starEach (e::es) X.env=(false,eval e X.env)::starEach es X.env:=by rfl) (hpl:(backTo pos (starEach es X.env)).any (·.1)=false:=by rfl):
  PE X (.Call (.Name x p) (e::es) [] pos) (HD sp dvs E t):=by
 intro pins s σ H Q I h;refine MF (J4 I hg hm ?_ hdb);refine SX (h₀:=X.base) I.ok.mod.kin hk (A_ (ha pos pins s σ H _ I h) λus s1 ⟨vs,H1,a,r,q⟩=>⟨a.kIn,?_⟩) he hpl;exact X4y F hr hb hd hx a r q
end
def PK (X:Cx)(kws:List Keyword)(t:TA):Prop :=
 ∀(pos:Pos) (pins:U1) (s:U7) (σ:St) (H:Hp) (Q:List V->Hp->Prop),Inv X pins σ H s->t σ H Q->wpAny (model X.prog X.w) X.A (evalAll ((backToKw pos (keywordEach kws X.env)).map (·.2))) (AP X pins σ Q) X.xe s
section
variable {X:Cx}{CX:KC}{k:Nat}{f C:Y3}{fd:FuncData}{ps ks:W0}{sp:Sp}{E:XK}{x m:Str}{p pos apos kpos:Pos}{e o:Expr}{es:List Expr}{kws:List Keyword}{te ta:TE}{t tk:TA}{nm:Option Str}
theorem X5b:PK X [] RK:=λ_ _ _ _ H Q I h=>wpAny_evalAll_nil ⟨[],H,I,.nil,h⟩
theorem X2g(ha:PE X e te)(hr:PK X kws t):PK X (⟨nm,e,kpos⟩::kws) (Lp te t):=by
 intro pos pins s σ H Q I h;show wpAny _ _ (evalAll ((do let v ← eval e X.env;standAt pos;pure v)::(backToKw pos (keywordEach kws X.env)).map (·.2))) _ _ s;refine wpAny_evalAll_cons (Af (A_ (ha pins s σ H _ I h) λu s1 ⟨x,H1,c,d,g⟩=>Af (L_ (Aq ?_))));exact A_ (hr pos pins s1 σ H1 _ c g) λus i ⟨xs,H2,f,b,a⟩=>⟨x::xs,H2,f,.cons d b,a⟩
variable {g:List Value->List Value->List Value}{gV:List V->List V->List V}
end
structure Ay (N P:W0) (sc:Scope):Prop where
 kind:sc.kind=.function
 co:sc.isCoroutine=false
 gen:sc.isGenerator=false
 nd:N.Nodup
 pre:N.take P.length=P
 par:∀x∈P,sc.names.lookup x=some .local\/sc.names.lookup x=some .cell
 nofree:∀y∈sc.names,y.2≠.free
theorem jo{kindOf:Str->Option NameKind}{x:Str}:∀{binds:List (Str×Value)}{m:U4},(∀v,(x,v)∉binds)->bindL kindOf binds m x=m x
 | [],_,_=>rfl
 | (n,v)::r,m,h=>by
  unfold bindL;rw[jo λw a=>h w (Iv _ a)];split
  ·have:x≠n:=by rintro rfl;exact h v Iu
   simp[this]
  ·rfl
theorem pZ{kindOf:Str->Option NameKind}{x:Str}:∀{binds:List (Str×Value)}{m:U4},(∀v,(x,v)∉binds)->bindC kindOf binds m x=m x
 | [],_,_=>rfl
 | (n,v)::r,m,h=>by
  unfold bindC;rw[pZ λw a=>h w (Iv _ a)];split
  ·rfl
  ·have:x≠n:=by rintro rfl;exact h v Iu
   simp[this]
theorem p7{kindOf:Str->Option NameKind}{x:Str}{v:W3}:∀{P:W0}{vs:U5}{i:Nat}{m:U4},P.Nodup->P[i]?=some x->vs[i]?=some v->kindOf x=some .local ->
  bindL kindOf (P.zip vs) m x=some v
 | [],_,_,_,_,h,_,_=>by simp at h
 | _::_,[],_,_,_,_,h,_=>by simp at h
 | p::P,w::vs,0,m,nd,h1,h2,hk=>by
  simp at h1 h2;subst h1;subst h2;show bindL kindOf ((p,w)::P.zip vs) m p=_;unfold bindL;rw[jo λv a=>(R3.mp nd).1 (Ve a).1,if_pos hk];simp
 | p::P,w::vs,i+1,m,nd,h1,h2,hk=>by
  show bindL kindOf ((p,w)::P.zip vs) m x=_;unfold bindL;exact p7 (i:=i) (R3.mp nd).2 (by simpa using h1) (by simpa using h2) hk
theorem pY{kindOf:Str->Option NameKind}{x:Str}{v:W3}:∀{P:W0}{vs:U5}{i:Nat}{m:U4},P.Nodup->P[i]?=some x->vs[i]?=some v->kindOf x≠some .local ->
  bindC kindOf (P.zip vs) m x=some v
 | [],_,_,_,_,h,_,_=>by simp at h
 | _::_,[],_,_,_,_,h,_=>by simp at h
 | p::P,w::vs,0,m,nd,h1,h2,hk=>by
  simp at h1 h2;subst h1;subst h2;show bindC kindOf ((p,w)::P.zip vs) m p=_;unfold bindC;rw[pZ λv a=>(R3.mp nd).1 (Ve a).1,if_neg hk];simp
 | p::P,w::vs,i+1,m,nd,h1,h2,hk=>by
  show bindC kindOf ((p,w)::P.zip vs) m x=_;unfold bindC;exact pY (i:=i) (R3.mp nd).2 (by simpa using h1) (by simpa using h2) hk
noncomputable def start (N:W0)(vs:List V):St:=vs.map some++List.replicate (N.length-vs.length) none
noncomputable def Du (CX:KC)(P:U8)(w:W1)(K:U0)(mg:U4)(base:Heap)(N:W0)(qual:Str)(scope:Scope)(f:Y3)(cd:W3)(A:Y0)(outer:List Env)(s:U7)(H:Hp)(E:XK):Cx where
 prog:=P
 w:=w
 K:=K
 mg:=mg
 base:=base
 A:=A.deeper (envOfC qual scope s.heap.objs.size f cd)
 N:=N
 s₀:=s
 H₀:=H
 env:=envOfC qual scope s.heap.objs.size f cd
 outer:=outer
 stack:=envOfC qual scope s.heap.objs.size f cd::outer
 ex:=[]
 calm:=true
 fn:=λ_=>true
 pn:=[]
 xe:=λe s'=>wpAny (model P w) (A.deeper (envOfC qual scope s.heap.objs.size f cd)) (leaving (envOfC qual scope s.heap.objs.size f cd) e) (λ_ s''=>CX outer H s E e s'') (λe' s''=>CX outer H s E e' s'') s'
theorem oJ{sc:Scope}{n:Nat}{x:Str}(h:sc.names.lookup x=some .cell):∃c,(cellsFrom n sc.names []).lookup x=some c:=by
 have q:=Yl sc.names n [] (.inl h);exact Option.isSome_iff_exists.mp q
variable{qual:Str}{scope:Scope}
theorem jw{N:W0}{cd:W3}{s1:U7}{E:XK}{vs:List V}
  (S:Ay N ps scope) (hd:A.handled=none) (e0:GK P w K mg base A outer s H) (hl:vs.length=ps.length) (r:Vals vs us)
  (x:InCallC s s.heap.objs.size (bindL (envOfC qual scope s.heap.objs.size f cd).kindOf (ps.zip us) λ_=>none) (cellsFrom (s.heap.objs.size+1) scope.names []) (bindC (envOfC qual scope s.heap.objs.size f cd).kindOf (ps.zip us) λ_=>none) s1):
  Inv (Du CX P w K mg base N qual scope f cd A outer s H E) [] (start N vs) H s1:=by
 have B:ps.length<=N.length:=by have:=congrArg List.length S.pre;rw[Ft]at this;omega
 obtain⟨h1,tk,rfl,l⟩:=x.done;have g:∀b:Addr,b∉(Du CX P w K mg base N qual scope f cd A outer s H E).ex:=λb z=>absurd (show b∈([]:U3) from z) (by simp)
 refine⟨⟨e0.mod,S.kind,Z,Z,Bf _,λy z c h1 h2=>?_,λy d=>?_,λy c _ h=>?_,λ_=>hd,Around.frames_deeper e0.frames,.inr ⟨Z,Z⟩,λb z=>absurd z (g b),e0.bs,e0.bsz,λb _ _=>g b,λb z=>absurd z (g b),e0.funs,e0.frf⟩,
  rfl,e0.bare,Un.kept l,⟨_,x.toInCall.ns,λi y v h1 h2 C=>?_⟩,λy c h=>⟨_,x.cell y c h⟩,e0.hok.fresh (Bf _),λy c h=>?_,λp hp=>absurd (show p∈([]:U1) from hp) (by simp),e0.hok.kept l,?_⟩
 ·exact name_of_addr x.apart (Nx h1) (Nx h2)
 ·have d:scope.names.lookup y=some .cell\/scope.names.lookup y=some .free:=d;rcases d with d | d
  ·exact oJ d
  ·exact absurd rfl (S.nofree _ (Nx d))
 ·exact JK (x.above y c (Nx h))
 ·have hi:i<vs.length:=by
   unfold start at h2;by_cases hi:i<vs.length
   ·exact hi
   ·rw[QS (by simpa using hi)]at h2;rw[jM]at h2;split at h2<;>cases h2
  have t:vs[i]?=some v:=by
   unfold start at h2;rw[N5 (by simpa using hi),Bo]at h2;cases e:vs[i]? with
   | none=>rw[e]at h2;cases h2
   | some a=>rw[e]at h2;cases h2;rfl
  obtain⟨u,m,o⟩:=r.get t;have hp:ps[i]?=some y:=by
   rw[<-S.pre,List.getElem?_take_of_lt (by omega)];exact h1
  have j:ps.Nodup:=by rw[<-S.pre];exact S.nd.sublist (List.take_sublist _ _)
  refine⟨u,o,?_⟩;rcases S.par y (Dz hp) with k | k
  ·exact .inl ⟨k,p7 j hp m k⟩
  ·obtain⟨c,e⟩:=oJ (n:=s.heap.objs.size+1) k;refine .inr ⟨.inl k,c,e,?_⟩;have q:=x.cell y c e;rw[pY j hp m (by show scope.names.lookup y≠_;rw[k];decide)]at q;exact q
 ·exact e0.hok.fresh (JK (x.above y c (Nx h)))
 ·unfold start;show _=N.length;rw[DQ,Ax,QM];omega
theorem Qs{k:Nat}{name:Str}{params:Arguments}{body:Y2}{dV kV doc pm cdv ct oc:W3}{an od:W9}
  {osl:W8}{N:W0} (lk:K.lookup f=some ⟨oc,od,.func (PySem.W.fnOf name qual params body scope dV kV doc pm an cdv ct),osl⟩) (hcd:PySem.W.codeIn K cdv qual=true) (S:Ay N ps scope)
  (len:∀vs H Q E,sp vs H Q E->vs.length=ps.length)
  (hbody:∀(A:Y0) (outer:List Env) (s:U7) (H:Hp) (vs:List V) (Q:VK) (E:XK),Bd k (A.deeper (envOfC qual scope s.heap.objs.size f cdv))->sp vs H Q E ->
   ∃t,Eu (Du CX P w K mg base N qual scope f cdv A outer s H E) body t/\t { nx:=λ_ H'=>Q .non H',rt:=Q} (start N vs) H):
  Ca P w K mg base CX (k+1) f (PySem.W.fnOf name qual params body scope dV kV doc pm an cdv ct) ps sp:=by
 refine⟨len,λA outer s H args us vs Q E j d G r g=>?_⟩;have F:=len _ _ _ _ g;have p:K.In s.heap:=d.mod.kin.keeps λb o e=>(d.bs b o e).1;have l:s.heap.NoLimit:=d.mod.nolimit.keeps λb o e=>(d.bs b o e).1;have a:∀y∈ps.zip us,scope.names.lookup y.1=some .local\/(scope.names.lookup y.1=some .cell/\((cellsFrom (s.heap.objs.size+1) scope.names []).lookup y.1).isSome=true):=λ⟨n,v⟩ D=>by
  rcases S.par n (Ve D).1 with q | q
  ·exact .inl q
  ·exact .inr ⟨q,Yl _ _ _ (.inl q)⟩
 refine jE j.depth (p _ _ lk) rfl S.co S.gen rfl (PySem.W.codeRec_of p hcd) (G _ _ _ _ ?_);refine jZ S.kind a λenv B s1 x=>?_;subst B;refine⟨l.keeps x.toInCall.keep,codeAny_func ?_⟩;obtain⟨t,C,z⟩:=hbody A outer s H vs Q E (j.deeper _) g;have I:Inv (Du CX P w K mg base N qual scope f cdv A outer s H E) [] (start N vs) H s1:=jw S j.hd d F r x;refine Dp (C [] s1 (start N vs) H _ I z) (λfl s' c=>?_) λe s' c=>c;have h:∀{i:St}{H':Hp}{v:V}{u:W3},Inv (Du CX P w K mg base N qual scope f cdv A outer s H E) [] i H' s'->RelV v u->Q v H'->CE outer P w H s Q u s' :=
  λ{i H' v u} J m q=>⟨v,H',J.os,J.bare,J.base,J.hok,m,q⟩
 cases fl with
 | ret u =>
  obtain⟨v,i,H',J,m,q⟩:=c;exact h J m q
 | next =>
  obtain⟨i,H',J,q⟩:=c;exact h (v:=V.non) (u:=Value.none) J rfl q
 | brk =>
  obtain⟨_,_,_,q⟩:=c;exact False.elim q
 | cont =>
  obtain⟨_,_,_,q⟩:=c;exact False.elim q
section
variable {X:Cx}{x:Str}{p pos:Pos}{e:Expr}{es:List Expr}{t:TA}{id T:String}{r:List V->Hp->VK->Prop}
def jB (r:List V->Hp->VK->Prop)(t:TA):TE:=λσ H Q=>t σ H λvs H1=>r vs H1 Q
theorem Bc(hc:Bu X (.builtin id) r)(hg:Gl X x)(hm:X.mg x=none)(hv:bootBuiltins x=some (.builtin id))(ha:PA X (e::es) t)(hn:x≠"__name__":=by decide)(hdb:(x == ("__debug__":Str))=false:=by decide)
  (he:starEach (e::es) X.env=(false,eval e X.env)::starEach es X.env:=by rfl) (hpl:(backTo pos (starEach es X.env)).any (·.1)=false:=by rfl):PE X (.Call (.Name x p) (e::es) [] pos) (jB r t):=by
 intro pins s σ H Q I h;refine MF (LR I hg hm hv ?_ hn hdb);exact PyProof.Rows.callWith_builtin1 (A_ (ha pos pins s σ H _ I h) λus s1 ⟨vs,H1,c,a,b⟩=>hc pins s1 σ H1 vs us Q c a b) he hpl
theorem Mt(hc:Bu X (.type T) r)(hg:Gl X x)(hm:X.mg x=none)(hv:bootBuiltins x=some (.type T))(ha:PA X (e::es) t)(hn:x≠"__name__":=by decide)(hdb:(x == ("__debug__":Str))=false:=by decide)
  (he:starEach (e::es) X.env=(false,eval e X.env)::starEach es X.env:=by rfl) (hpl:(backTo pos (starEach es X.env)).any (·.1)=false:=by rfl):PE X (.Call (.Name x p) (e::es) [] pos) (jB r t):=by
 intro pins s σ H Q I h;refine MF (LR I hg hm hv ?_ hn hdb);exact PyProof.Rows.callWith_type1 (A_ (ha pos pins s σ H _ I h) λus s1 ⟨vs,H1,c,a,b⟩=>hc pins s1 σ H1 vs us Q c a b) he hpl
end
end L2
namespace HT
noncomputable def lexLt:List Int->List Int->Bool
 | [],[]=>false
 | [],_::_=>true
 | _::_,[]=>false
 | x::xs,y::ys=>if x=y then lexLt xs ys else decide (x<y)
theorem fZ(x y:Int)(xs ys:U6):lexLt (x::xs) (y::ys)=if x=y then lexLt xs ys else decide (x<y):=rfl
theorem ug:lexLt [] []=false:=rfl
theorem u_(y:Int)(ys:U6):lexLt [] (y::ys)=true:=rfl
theorem uy(x:Int)(xs:U6):lexLt (x::xs) []=false:=rfl
theorem vP(A:Y0)(s:U7)(a:Int)(t:Tok)(c:Int)(u:Tok):∃e,SeqAt.EqAt A s (.int a t) (.int c u) e/\(e=true↔a=c):=
 ⟨(a == c),SeqAt.EqAt.int_int a t c u,by simp⟩
theorem wU(A:Y0)(s:U7)(a:Int)(t:Tok)(c:Int)(u:Tok)(prog:U8)(w:W1)(E:U2)(Q:U2)(h:Q (.bool (decide (a<c))) s):
  wpAny (model prog w) A (richCompare .Lt (.int a t) (.int c u)) Q E s :=
 (PyProof.Rows.lt_int h:wpAny (model prog w) A (compareOp .Lt (.int a t) (.int c u)) Q E s)
section
open PySem.SeqAt
open PySem.AutoSeq1 (wpAny_loadPart')
open PySem.MeetsSeq PySem.MeetsSeq2 PySem.MeetsSeq3
theorem ur(l b:Y3)(items items2:U9)(n n2:Nat)(dd dd2:W9)(sl sl2:W8)(ns ms:U6)(hi:IntsAre items.toList ns)(hj:IntsAre items2.toList ms):
  Meets (Builtin.«tuple.__lt__» ⟨[.ref l,.ref b],[]⟩)
   (λ_ R s=>s.heap.get? l=some { cls:=.type "tuple",dict:=dd,data:=.seq items n,slots:=sl}/\s.heap.get? b=some { cls:=.type "tuple",dict:=dd2,data:=.seq items2 n2,slots:=sl2} /\
    R (.ok (.ret (.bool (lexLt ns ms)))) s):=
 .of_wp λprog w A R s h=>by
  obtain⟨hp,g,d,tk,os⟩:=s;obtain⟨D,E,h⟩:=h;have I:=AutoSeq1.sub_tuple_tuple;have F:items.size=ns.length:=by rw[<-hi.length];simp
  have H:items2.size=ms.length:=by rw[<-hj.length];simp
  wp_walk using wpAny_loadPart' D,wpAny_loadPart' E,wpAny_forIn_list _ (λrest b s'=>b.1=none/\s'=⟨hp,g,d,tk,os⟩/\∃(vs v:U5) (i j:U6),rest=vs.zip v /\
   IntsAre vs i/\IntsAre v j/\i.length+items2.size=j.length+items.size/\R (.ok (.ret (.bool (lexLt i j)))) ⟨hp,g,d,tk,os⟩) _
  case turn =>
   rintro ⟨y,x⟩ rest b s' ⟨r,rfl,vs,v,i,j,hz,p,k,f,m⟩;cases p with
   | nil=>rw[List.zip_nil_left]at hz;cases hz
   | cons a t hvi' =>
    cases k with
    | nil=>rw[List.zip_nil_right]at hz;cases hz
    | cons c u hwi' =>
     rw[List.zip_cons_cons]at hz;injection hz with hyx hrest;injection hyx with hy hx;subst hy hx;rw[fZ]at m;simp only[Hv]at f;obtain⟨e,C,o⟩:=vP A.in1 ⟨hp,g,d,tk,os⟩ a t c u;refine Af (C prog w _ _ ?_);cases e with
     | true =>
      rw[if_pos (o.mp rfl)]at m;wp_walk;exact⟨Z,Z,_,_,_,_,hrest,hvi',hwi',by omega,m⟩
     | false =>
      rw[if_neg (λq=>absurd (o.mpr q) Fv)]at m;have z:=wU A.in1 ⟨hp,g,d,tk,os⟩ a t c u prog w;wp_walk using z;exact⟨_,rfl,by simpa using m⟩
  case fin =>
   rintro ⟨J,G⟩ s' ⟨r,rfl,vs,v,i,j,hz,p,k,f,m⟩;simp only at r;subst r;have B:lexLt i j=decide (items.size<items2.size):=by
    cases p with
    | nil =>
     cases k with
     | nil =>
      simp only[Ky]at f;rw[ug];exact(Df (by omega)).symm
     | cons c u hw =>
      simp only[Ky,Hv]at f;rw[u_];exact(DK (by omega)).symm
    | cons a t B =>
     cases k with
     | nil =>
      simp only[Ky,Hv]at f;rw[uy];exact(Df (by omega)).symm
     | cons c u hw =>
      rw[List.zip_cons_cons]at hz;cases hz
   rw[B]at m;wp_walk;exact⟨_,rfl,by simpa [Builtin.Tuple.tupleCompareSizes] using m⟩
  case h =>
   exact⟨Z,Z,items.toList,items2.toList,ns,ms,Z,hi,hj,by omega,h⟩
end
section
variable {prog:U8}{w:W1}{A:Y0}{E:U2}{s:U7}
theorem yg{l b:Y3}{items items2:U9}{ns ms:U6}{Q:U2}(hl:IsTup s.heap l items)(hb:IsTup s.heap b items2)(hi:IntsAre items.toList ns)(hj:IntsAre items2.toList ms)
  (hu:A.units<cLine) (h:Q (.bool (lexLt ns ms)) s):wpAny (model prog w) A (compareOp .Lt (.ref l) (.ref b)) Q E s:=by
 obtain⟨⟨cls,dd,data,o⟩,i,j,n,k⟩:=id hl;obtain⟨⟨m,f,g,e⟩,d,a,p,c⟩:=id hb;simp only at j k a c;subst j k a c;exact richCompare_meets_room (op:=.Lt) ⟨_,i,Z⟩ ⟨_,d,Z⟩ PySem.F.slot_tuple_lt PySem.F.entry_tuple_lt (PySem.F.args_tuple_lt_2 _ _) (ur l b items items2 n p dd f o e ns ms hi hj)
  ⟨i,d,show Value.bool (lexLt ns ms)≠Value.notImplemented/\Q (.bool (lexLt ns ms)) s from ⟨(λx=>nomatch x),h⟩⟩ hu
noncomputable def GC (n d:Nat):Option Int->Nat
 | none=>d
 | some v=>if v<0 then (v+(n:Int)).toNat else min v.toNat n
theorem X1w(n d k:Nat):GC n d (some (k:Int))=min k n:=by
 show (if (k:Int)<0 then ((k:Int)+(n:Int)).toNat else min (k:Int).toNat n)=min k n;rw[if_neg (by omega),Ej]
end
end HT
namespace L2
abbrev TO:=St->Hp->(Option Int->Hp->Prop)->Prop
def PO (X:Cx)(e:Option Expr)(t:TO):Prop :=
 ∀(pins:U1) (s:U7) (σ:St) (H:Hp) (Q:Option Int->Hp->Prop),Inv X pins σ H s->t σ H Q ->
  wpAny (model X.prog X.w) X.A (evalPart e X.env) (λu s'=>∃o H',Inv X pins σ H' s'/\IsPart u o/\Q o H') X.xe s
def X1m:TO:=λ_ H Q=>Q none H
def RG (t:TE):TO:=λσ H Q=>t σ H λx H1=>∃i,x=.int i/\Q (some i) H1
theorem JC{ns:U6}:∀{us:U5},Vals (ns.map V.int) us->IntsAre us ns:=by
 induction ns with
 | nil=>intro us r;rw[Zh]at r;cases r;exact .nil
 | cons n ns ih =>
  intro us r;rw[Er]at r;cases r with
  | cons r1 r2 =>
   obtain⟨t,e⟩:=r1;subst e;exact .cons n t (ih r2)
section
variable {X:Cx}{e:Expr}{te:TE}{lo hi:Option Expr}{tl th:TO}{pos p2:Pos}
theorem O8:PO X none X1m:=by
 intro pins s σ H Q I h;rw[evalPart_none];exact Aq ⟨none,H,I,.none,h⟩
theorem O9(h:PE X e te):PO X (some e) (RG te):=by
 intro pins s σ H Q I c;rw[evalPart_some];refine A_ (h pins s σ H _ I c) λu s1 ⟨x,H1,d,a,b⟩=>?_;obtain⟨i,rfl,q⟩:=b;obtain⟨t,rfl⟩:=a;exact⟨some i,H1,d,.int i t,q⟩
def iV (X:Cx)(r:V->Option Int->Option Int->Hp->VK->Prop):Prop :=
 ∀(pins:U1) (s:U7) (σ:St) (H:Hp) (x:V) (v vl vu:W3) (lo hi:Option Int) (sl:Y3) (Q:VK),Inv X pins σ H s->RelV x v->s.heap.IsSliceOf sl vl vu .none->IsPart vl lo->IsPart vu hi->r x lo hi H Q ->
  ∃T id,typeLookup (.type T) "__getitem__"=pure (some (.builtin id))/\s.TypeIs v T/\wpAny (model X.prog X.w) X.A (getItem v (.ref sl)) (EP X pins σ Q) X.xe s
def tE (r:V->Option Int->Option Int->Hp->VK->Prop)(te:TE)(tl th:TO):TE:=λσ H Q=>te σ H λx H1=>tl σ H1 λl H2=>th σ H2 λu H3=>r x l u H3 Q
theorem PJ{r:V->Option Int->Option Int->Hp->VK->Prop}(hr:iV X r)(he:PE X e te)(hl:PO X lo tl)(hu:PO X hi th):PE X (.Subscript e (.Slice lo hi none p2) pos) (tE r te tl th):=by
 intro pins s σ H Q I h;refine Subscript_ (A_ (he pins s σ H _ I h) λv s1 ⟨x,H1,n,p,B⟩=>?_);refine wpAny_Slice (A_ (hl pins s1 σ H1 _ n B) λd C ⟨l,H2,z,g,j⟩=>A_ (hu pins C σ H2 _ z j) λc a ⟨u,f,I3,o,i⟩=>?_);rw[evalPart_none];refine Aq ?_;have k:Inv X pins σ f {a with heap:=a.heap.push { cls:=.type "slice",data:=.fields #[d,c,.none]}}:=I3.kept (t':=a.toks) λb D q=>CG _ q;obtain⟨T,id,m,y,t⟩:=hr pins {a with heap:=a.heap.push { cls:=.type "slice",data:=.fields #[d,c,.none]}} σ f x v d c l u a.heap.objs.size Q k p (Heap.IsSliceOf.new ..) g o i;show wpAny (model X.prog X.w) X.A (subscriptTail e (.Slice lo hi none p2) v (.ref a.heap.objs.size)) (EP X pins σ Q) X.xe {a with heap:=a.heap.push { cls:=.type "slice",data:=.fields #[d,c,.none]}};exact tail_any (ops:=[.ref a.heap.objs.size,v]) y m t (by with_unfolding_all rfl)
noncomputable def Fi (xs:List V)(lo hi:Option Int):List V:=(xs.drop (HT.GC xs.length 0 lo)).take (HT.GC xs.length xs.length hi-HT.GC xs.length 0 lo)
theorem zU(xs:List V)(lo hi:Option Int):(Fi xs lo hi).length<=xs.length:=by
 unfold Fi;rw[Ft,QB];omega
end
noncomputable def Od (n:Nat)(i:Int):Option Nat:=if 0<=i then (if i<n then some i.toNat else none) else if -(n:Int)<=i then some (i+n).toNat else none
noncomputable def Im {α:Type}(xs:List α)(i:Int):Option α:=(Od xs.length i).bind λj=>xs[j]?
variable{n j:Nat}{i:Int}
theorem m8(h:Od n i=some j):seqIndex? i n=some j/\j<n/\-(n:Int)<=i/\i<n:=by
 unfold Od at h;by_cases h0:0<=i
 ·rw[if_pos h0]at h;by_cases h1:i<n
  ·rw[if_pos h1]at h;have e:i.toNat=j:=Option.some.inj h;exact⟨by rw[seqIndex_of h0 h1,e],by omega,by omega,h1⟩
  ·rw[if_neg h1]at h;cases h
 ·rw[if_neg h0]at h;by_cases h1:-(n:Int)<=i
  ·rw[if_pos h1]at h;have e:(i+n).toNat=j:=Option.some.inj h;exact⟨by rw[bH (by omega) h1,e],by omega,h1,by omega⟩
  ·rw[if_neg h1]at h;cases h
variable{α:Type}
theorem gU{xs:List α}{v:α}(h:Im xs i=some v):∃j,seqIndex? i xs.length=some j/\xs[j]?=some v/\j<xs.length/\-(xs.length:Int)<=i/\i<xs.length:=by
 unfold Im at h;cases e:Od xs.length i with
 | none=>rw[e]at h;cases h
 | some j =>
  rw[e]at h;obtain⟨h1,h2,b,a⟩:=m8 e;exact⟨j,h1,h,h2,b,a⟩
theorem JX{xs:List α}{v:α}(h:xs[j]?=some v):Im xs (j:Int)=some v:=by
 have a:j<xs.length:=(Cv.mp h).1;have e:Od xs.length (j:Int)=some j:=by
  unfold Od;rw[if_pos (by omega),if_pos (by omega)];simp
 unfold Im;rw[e];exact h
def X3y (b:Expr):Prop:=∀o i,subscripted b false o i=operate [o,i] (getItem o i)
def Qu (X:Cx)(r:R2):Prop :=
 ∀(value slice:Expr) (pins:U1) (s:U7) (σ:St) (H:Hp) (x y:V) (v u:W3) (Q:VK),Inv X pins σ H s->RelV x v->RelV y u->r x y H Q ->
  subscripted slice false v u=operate [v,u] (getItem v u)->wpAny (model X.prog X.w) X.A (subscriptTail value slice v u) (EP X pins σ Q) X.xe s
def Qt (X:Cx)(id:String)(r:V->List V->Hp->VK->Prop):Prop :=
 ∀(pins:U1) (s:U7) (σ:St) (H:Hp) (x:V) (xs:List V) (v:W3) (us:U5) (Q:VK),Inv X pins σ H s->RelV x v->Vals xs us->r x xs H Q ->
  wpAny (model X.prog X.w) X.A (call (.builtin id) (v::us)) (EP X pins σ Q) X.xe s
section
variable {X:Cx}{a b:Expr}{ta tb:TE}{pos:Pos}
theorem BR{r:R2}(hr:Qu X r)(ha:PE X a ta)(hb:PE X b tb)(hs:X3y b):PE X (.Subscript a b pos) (VN r ta tb):=by
 intro pins s σ H Q I h;exact Subscript_ (Ov ha hb I h λv u e x y H2 c f d q=>hr a b pins e σ H2 x y v u Q c f d q (hs _ _))
def Rj (K:U0):R2:=λx y H Q=>∃p xs i v,x=.ref p/\y=.int i/\Ag K H p xs/\Im xs i=some v/\Q v H
def Ri (K:U0):R2:=λx y H Q=>∃p xs i v,x=.ref p/\y=.int i/\Ak K H p xs/\Im xs i=some v/\Q v H
def X4:R2:=λx y H Q=>∃z i c,x=.str z/\y=.int i/\z.length<=sizeLine/\Im z.cps.toList i=some c/\Q (.str ⟨#[c]⟩) H
theorem J3:Qu X (Rj X.K):=by
 intro value d pins s σ H x y v u Q I A l h f;obtain⟨p,xs,i,z,rfl,rfl,n,o,q⟩:=h;cases A;obtain⟨t,rfl⟩:=l;obtain⟨its,r,b,hz⟩:=I.list n;obtain⟨j,h1,h2,C,m,k⟩:=gU o;obtain⟨w,g,e⟩:=r.get h2;have B:=r.length;have D:=El;have a:EP X pins σ Q w s:=⟨z,H,I,e,q⟩;by_cases h0:0<=i
 ·have c:i.toNat=j:=by
   rw[seqIndex_of h0 k]at h1;exact Option.some.inj h1
  exact item_listR b.isList h0 (by omega) (by rw[c];simpa using g) a f
 ·have c:(i+(its.toArray.size:Int)).toNat=j:=by
   rw[bH (by omega) m]at h1;rw[Ci,<-B];exact Option.some.inj h1
  exact jK (x:=w) b.isList.typeIs slot_list_getitem.lookup
   (wpAny_getItem_list_neg (Q:=λr s'=>r=w/\EP X pins σ Q r s') b.isList (by omega) (by rw[Ci]<;>omega) (by omega) (by rw[c];simpa using g) ⟨Z,a⟩) f
theorem Bk:Qu X (Ri X.K):=by
 intro value a pins s σ H x y v u Q I m f h e;obtain⟨p,xs,i,z,rfl,rfl,g,l,q⟩:=h;cases m;obtain⟨t,rfl⟩:=f;obtain⟨its,r,d,hz⟩:=I.tuple g;obtain⟨j,h1,h2,A,B,o⟩:=gU l;obtain⟨w,k,b⟩:=r.get h2;have n:=r.length;have C:=El;have c:EP X pins σ Q w s:=⟨z,H,I,b,q⟩;exact jK (x:=w) d.typeIs slot_tuple_getitem.lookup
  (getItem_tuple (j:=j) (Q:=λr s'=>r=w/\EP X pins σ Q r s') d (by omega) (by omega) (by rw[Ci,<-n];exact h1) (by simpa using k) ⟨Z,c⟩) e
theorem X6m:Qu X X4:=by
 intro value a pins s σ H x y v u Q I l e h d;obtain⟨z,i,c,rfl,rfl,hz,k,q⟩:=h;obtain⟨t,rfl⟩:=l;obtain⟨t',rfl⟩:=e;obtain⟨j,h1,h2,o,f,b⟩:=gU k;have n:z.cps.toList.length=z.length:=by simp[Str.length]
 rw[n]at h1 f b;have p:=El
 exact tail_any (typeIs_str s z t) slot_str_getitem.lookup (getItem_str (c:=c) (by
  have m:decide (i < -(2^63:Int))=false:=Df (by omega)
  have g:decide (i>=2^63)=false:=Df (by omega)
  rw[m,g,Bool.or_false]) (by rw[h1];simpa using h2) ⟨.str ⟨#[c]⟩,H,I.tok _,⟨_,Z⟩,q⟩) d
theorem yq(its:U5)(n j:Nat)(u:W3):Obj.mapSeq (·.setIfInBounds j u) { cls:=.type "list",data:=.seq its.toArray n}={ cls:=.type "list",data:=.seq (its.set j u).toArray n}:=by
 simp[Obj.mapSeq]
theorem Inv.lst{pins:U1}{σ:St}{H:Hp}{s:U7}{p:Y3}{xs:List V}(I:Inv X pins σ H s)(h:H p=some (.lst xs)):
  ∃(its:U5) (n:Nat),Vals xs its/\s.heap.get? p=some { cls:=.type "list",data:=.seq its.toArray n}/\xs.length<=sizeLine:=by
 obtain⟨z,its,n,r,e⟩:=I.hok p _ h;exact⟨its,n,r,e,z⟩
theorem Inv.lstUpd{pins:U1}{σ:St}{H:Hp}{s:U7}{p:Y3}{xs ys:List V}{its its':U5}{n':Nat}{f:Obj->Obj}(I:Inv X pins σ H s)(h:H p=some (.lst xs))
  (ho:s.heap.get? p=some { cls:=.type "list",data:=.seq its.toArray n}) (hf:f { cls:=.type "list",data:=.seq its.toArray n}={ cls:=.type "list",data:=.seq its'.toArray n'}) (r:Vals ys its') (hz:ys.length<=sizeLine) (t:Nat):
  Inv X pins σ (upd H p (.lst ys)) {s with heap:=s.heap.update p f,toks:=t}:=by
 have e:(s.heap.update p f).get? p=some { cls:=.type "list",data:=.seq its'.toArray n'}:=by
  rw[KN f ho (by rw[hf]<;>rfl),hf]
 refine I.write (x:=p) (e:=p) (by rw[h];trivial) (.inl rfl) (λb u a q=>(KR _ _ (Ne.symm a)).trans q) ⟨_,e⟩ ?_;exact⟨hz,its',n',r,e⟩
def Rh:V->V->V->Hp->(Hp->Prop)->Prop:=λo i v H Q=>∃p xs k j,o=.ref p/\i=.int k/\H p=some (.lst xs)/\Od xs.length k=some j/\Q (upd H p (.lst (xs.set j v)))
theorem wX:Uz X Rh:=by
 intro pins s σ H o i v y x u Q I w m l h;obtain⟨p,xs,k,j,rfl,rfl,hp,g,q⟩:=h;cases w;obtain⟨t,rfl⟩:=m;obtain⟨its,n,r,a,hz⟩:=I.lst hp;obtain⟨h1,h2,d,e⟩:=m8 g;have c:=r.length;have z:=El;have f:Inv X pins σ (upd H p (.lst (xs.set j v))) {s with heap:=s.heap.update p (Obj.mapSeq (·.setIfInBounds j u))} :=
  I.lstUpd hp a (yq its n j u) (r.set l j) (by rw[X8];exact hz) s.toks
 by_cases h0:0<=k
 ·have b:k.toNat=j:=by
   rw[seqIndex_of h0 e]at h1;exact Option.some.inj h1
  exact PySem.W.ki_setAt a h0 (by omega) (by rw[Ci,<-c];exact e) (by rw[b];exact⟨_,f,q⟩)
 ·have b:(k+(its.toArray.size:Int)).toNat=j:=by
   rw[bH (by omega) d]at h1;rw[Ci,<-c];exact Option.some.inj h1
  exact PySem.W.ki_setBack a (by omega) (by rw[Ci,<-c];exact d) (by omega) (by rw[b];exact⟨_,f,q⟩)
theorem ud(lo hi:Option Int)(n:Nat):(sliceBounds lo hi none n).1=((HT.GC n 0 lo:Nat):Int)/\(sliceBounds lo hi none n).2.1=((HT.GC n n hi:Nat):Int)/\(sliceBounds lo hi none n).2.2=1:=by
 refine⟨?_,?_,Z⟩
 ·cases lo with
  | none=>simp[sliceBounds,HT.GC]
  | some i =>
   simp only[sliceBounds,HT.GC,Option.getD_none,show (1:Int)>0 by decide,Gj];by_cases h:i<0
   ·simp only[h,Gj]<;>omega
   ·simp only[h,FW]<;>omega
 ·cases hi with
  | none=>simp[sliceBounds,HT.GC]
  | some i =>
   simp only[sliceBounds,HT.GC,Option.getD_none,show (1:Int)>0 by decide,Gj];by_cases h:i<0
   ·simp only[h,Gj]<;>omega
   ·simp only[h,FW]<;>omega
theorem uq(its:U5)(lo hi:Option Int):slicePick its.toArray lo hi none=((its.drop (HT.GC its.length 0 lo)).take (HT.GC its.length its.length hi-HT.GC its.length 0 lo)).toArray:=by
 obtain⟨h1,h2,a⟩:=ud lo hi its.toArray.size;unfold slicePick;rw[h1,h2,a];simp only[sliceRange_one,pick_run,Ci]<;>rfl
def Rg (K:U0):V->Option Int->Option Int->Hp->VK->Prop:=λx lo hi H Q=>∃a xs,x=.ref a/\Ag K H a xs/\∀p,H p=none->Q (.ref p) (upd H p (.lst (Fi xs lo hi)))
theorem Ud:iV X (Rg X.K):=by
 intro pins s σ H x v m l lo hi k Q I i f e j h;obtain⟨a,xs,rfl,g,q⟩:=h;cases i;obtain⟨its,r,d,hz⟩:=I.list g;have c:=r.length;refine⟨"list",_,slot_list_getitem.lookup,d.isList.typeIs,?_⟩;refine wpAny_getItem_list_slice d.isList f e j .none (by simp) ?_ (by rw[Ci]<;>omega);rw[uq,<-c];refine⟨.ref s.heap.objs.size,_,I.laid (t':=s.toks) (o:=.lst (Fi xs lo hi)) (λb n q=>CG _ q) (Bf _) ?_,Z,q _ (I.hok.fresh (Bf _))⟩;exact⟨Eh (zU xs lo hi) hz,_,0,(r.drop (HT.GC xs.length 0 lo)).take (HT.GC xs.length xs.length hi-HT.GC xs.length 0 lo),Ek _ rfl⟩
noncomputable def Tv:V->Bool
 | .non=>true
 | .bl _=>true
 | .int _=>true
 | .str _=>true
 | _=>false
theorem G8:Bu X (.builtin "len") (λxs H Q=>∃p ys,xs=[.ref p]/\(Ag X.K H p ys\/Ak X.K H p ys)/\Q (.int ys.length) H):=by
 intro pins s σ H xs us Q I r h;obtain⟨p,ys,rfl,b,q⟩:=h;obtain⟨u,rfl,e⟩:=vals1 r;cases e;have f:=El;rcases b with b | b
 ·obtain⟨its,d,c,hz⟩:=I.list b;have a:=d.length;exact Calls.call_len_list c.isList (by simp only[Ci]<;>omega) ⟨.int ys.length,H,I.tok _,⟨s.toks+1,by rw[Ci,a]⟩,q⟩
 ·obtain⟨its,d,c,hz⟩:=I.tuple b;have a:=d.length;exact len_tuple c (by simp only[Ci]<;>omega) ⟨.int ys.length,H,I.tok _,⟨s.toks+1,by rw[Ci,a]⟩,q⟩
theorem gC:Bu X (.type "list") (λxs H Q=>∃p ys,xs=[.ref p]/\(Ag X.K H p ys\/Ak X.K H p ys)/\∀l,H l=none->Q (.ref l) (upd H l (.lst ys))):=by
 intro pins s σ H xs us Q I r h;obtain⟨p,ys,rfl,d,q⟩:=h;obtain⟨u,rfl,v⟩:=vals1 r;cases v;have i:∀(its:U5),Vals ys its->ys.length<=sizeLine->∀(h':Heap) (a:Nat),(∀b o',s.heap.get? b=some o'->h'.get? b=some o') ->
   h'.get? s.heap.objs.size=some { cls:=.type "list",dict:=none,data:=.seq its.toArray a,slots:=#[]}->EP X pins σ Q (.ref s.heap.objs.size) {s with heap:=h'}:=λits c hz h' a f e =>
  ⟨.ref s.heap.objs.size,_,I.laid (t':=s.toks) f (Bf _) (show Ai X.prog X.w _ h' _ (.lst ys) from ⟨hz,its,a,c,e⟩),Z,q _ (I.hok.fresh (Bf _))⟩
 rcases d with d | d
 ·obtain⟨its,c,j,hz⟩:=I.list d;have g:=c.length;obtain⟨o,k,t,n,m⟩:=j.isList;exact call_list_seq p (.inl rfl) k t m (λh' a f e=>i its c hz h' a f e) (by simp only[Ci]<;>omega)
 ·obtain⟨its,c,j,hz⟩:=I.tuple d;have g:=c.length;obtain⟨o,k,t,n,m⟩:=j;exact call_list_seq p (.inr rfl) k t m (λh' a f e=>i its c hz h' a f e) (by simp only[Ci]<;>omega)
theorem lY:Bu X (.type "tuple") (λxs H Q=>∃p ys,xs=[.ref p]/\((Ag X.K H p ys/\∀l,H l=none->Q (.ref l) (upd H l (.tup ys)))\/(Ak X.K H p ys/\Q (.ref p) H))):=by
 intro pins s σ H xs us Q I r h;obtain⟨p,ys,rfl,h⟩:=h;obtain⟨u,rfl,i⟩:=vals1 r;cases i;rcases h with ⟨hq,q⟩ | ⟨hq,q⟩
 ·obtain⟨its,c,a,hz⟩:=I.list hq;have f:=c.length;refine call_tuple_list a.isList (λh' g=>?_) (by simp only[Ci]<;>omega);have d:Inv X pins σ H {s with heap:=h'}:=I.kept (t':=s.toks) g;have j:Inv X pins σ (upd H h'.objs.size (.tup ys)) {s with heap:=h'.push { cls:=.type "tuple",data:=.seq its.toArray}} :=
   d.laid (t':=s.toks) (λb o e=>CG _ e) (Bf _) (show Ai X.prog X.w _ _ _ (.tup ys) from ⟨hz,its,c,IsTup.new _ _⟩)
  exact⟨.ref h'.objs.size,_,j,Z,q _ (d.hok.fresh (Bf _))⟩
 ·obtain⟨its,c,a,hz⟩:=I.tuple hq;exact call_tuple_same a ⟨.ref p,H,I,Z,q⟩
def Xj (K:U0)(T:String)(x:V)(H:Hp):Prop:=match x with
 | .str _=>T="str"
 | .int _=>T="int"
 | .ref p=>(T="list"/\∃xs,Ag K H p xs)\/(T="tuple"/\∃o,K.lookup p=some o/\o.cls=.type "tuple"/\o.dict=none) \/
   (T="dict"/\((∃kvs,H p=some (.dK kvs))\/∃kvs,H p=some (.dT kvs)))\/(T="set"/\∃S n,H p=some (.set S n))
 | _=>False
theorem rm{pins:U1}{σ:St}{H:Hp}{s:U7}{T:String}{x:V}{v:W3}(I:Inv X pins σ H s)(r:RelV x v)(ty:Xj X.K T x H):
  s.TypeIs v T/\∀a,v=.ref a->∃ob,s.heap.get? a=some ob/\ob.dict=none:=by
 cases x with
 | str z =>
  obtain⟨t,rfl⟩:=r;cases (show T="str" from ty);exact⟨typeIs_str s z t,λ_ e=>nomatch e⟩
 | int i =>
  obtain⟨t,rfl⟩:=r;cases (show T="int" from ty);exact⟨V1 s i t,λ_ e=>nomatch e⟩
 | ref p =>
  cases r;rcases ty with ⟨rfl,xs,hq⟩ | ⟨rfl,o,hk,hc,b⟩ | ⟨rfl,hk⟩ | ⟨rfl,S,n,hk⟩
  ·obtain⟨its,_,f,_⟩:=I.list hq;refine⟨f.isList.typeIs,λa e=>?_⟩;cases e;obtain⟨o,n,e,c,b,_⟩:=f;exact⟨o,e,b⟩
  ·refine⟨⟨o,I.kIn p o hk,hc⟩,λa e=>?_⟩;cases e;exact⟨o,I.kIn _ o hk,b⟩
  ·have z:∃o,s.heap.get? p=some o/\o.ExactDict:=by
    rcases hk with ⟨kvs,hk⟩ | ⟨kvs,hk⟩
    ·obtain⟨_,_,_,_,o,_,_,e,ex,_⟩:=I.hok p _ hk;exact⟨o,e,ex⟩
    ·obtain⟨_,_,_,_,o,_,_,e,ex,_⟩:=I.hok p _ hk;exact⟨o,e,ex⟩
   obtain⟨o,e,ex⟩:=z;refine⟨⟨o,e,ex.1⟩,λa d=>?_⟩;cases d;exact⟨o,e,ex.2.1⟩
  ·obtain⟨o,_,_,_,e,ex,_⟩:=I.hok p _ hk;refine⟨⟨o,e,ex.1⟩,λa d=>?_⟩;cases d;exact⟨o,e,ex.2.1⟩
 | _=>exact False.elim ty
def Xx (K:U0)(T:String)(r:V->List V->Hp->VK->Prop)(to:TE):TE:=λσ H Q=>to σ H λx H1=>Xj K T x H1/\r x [] H1 Q
def tK (K:U0)(T:String)(r:V->List V->Hp->VK->Prop)(to:TE)(t:TA):TE:=λσ H Q=>to σ H λx H1=>Xj K T x H1/\t σ H1 λxs H2=>r x xs H2 Q
variable {o e:Expr}{es:List Expr}{to:TE}{t:TA}{name:Str}{apos cpos:Pos}{T id:String}{r:V->List V->Hp->VK->Prop}
theorem Qc(pa:PlainAttrs T)(slot:Slot T name id)(hty:typeOf (.builtin id)=pure (.type "method_descriptor"))(hm:Qt X id r)(ho:PE X o to)
  (hbase:attributeBase o name X.env (eval o X.env)=eval o X.env:=by rfl) (hline:(apos.endLine == cpos.line)=true:=by rfl):PE X (.Call (.Attribute o name apos) [] [] cpos) (Xx X.K T r to):=by
 intro pins s σ H Q I h;refine wpAny_Call_method0_late hbase hline (A_ (ho pins s σ H _ I h) λv s1 ⟨x,H1,b,a,ty,c⟩=>?_);obtain⟨h1,h2⟩:=rm b a ty;exact⟨T,id,pa,slot,hty,h1,h2,Calls.callWith_builtin rfl (PySem.evalArgs_none (hm pins s1 σ H1 x [] v [] Q b a .nil c))⟩
theorem Mh(pa:PlainAttrs T)(slot:Slot T name id)(hty:typeOf (.builtin id)=pure (.type "method_descriptor"))(hm:Qt X id r)(ho:PE X o to)(ha:PA X (e::es) t)
  (hbase:attributeBase o name X.env (eval o X.env)=eval o X.env:=by rfl)
  (hfew:((backTo cpos (starEach (e::es) X.env)).all (λx=>!x.1) && (backToKw cpos (keywordEach [] X.env)).all (λx=>x.1.isSome)
   && decide ((e::es).length+([]:List Keyword).length+(if ([]:List Keyword).isEmpty then 0 else 1)<30))=true:=by rfl)
  (hline:(apos.endLine == cpos.line)=true:=by rfl) (hs:starEach (e::es) X.env=(false,eval e X.env)::starEach es X.env:=by rfl) (hplain:(backTo cpos (starEach es X.env)).any (·.1)=false:=by rfl):
  PE X (.Call (.Attribute o name apos) (e::es) [] cpos) (tK X.K T r to t):=by
 intro pins s σ H Q I h;refine wpAny_Call_method_late hbase hfew hline rfl (A_ (ho pins s σ H _ I h) λv s1 ⟨x,H1,a,b,ty,i⟩=>?_);obtain⟨h1,h2⟩:=rm a b ty;refine⟨T,id,pa,slot,hty,h1,h2,?_⟩;have c:=ha cpos pins s1 σ H1 _ a i;rw[hs]at c ⊢;refine Calls.callWith_builtin (by show (false || (backTo cpos (starEach es X.env)).any (·.1))=false;rw[hplain]<;>rfl) (Calls.evalArgs_plain ?_);exact A_ c λus j ⟨vs,H2,g,f,d⟩=>hm pins j σ H2 x vs v us Q g b f d
end
def Xb (X:Cx)(id:String)(r:V->List V->Hp->VK->Prop):Prop :=
 ∀(pins:U1) (s:U7) (σ:St) (H:Hp) (x:V) (xs:List V) (v:W3) (us:U5) (Q:VK),Inv X pins σ H s->RelV x v->Vals xs us->r x xs H Q ->
  wpAny (model X.prog X.w) X.A (call (.builtin id) (v::us)) (EP X pins σ Q) X.xe s
theorem Vals.one{x:V}{us:U5}(h:Vals [x] us):∃u,us=[u]/\RelV x u:=by
 cases h with
 | cons r t=>cases t;exact⟨_,rfl,r⟩
theorem Vals.two{x y:V}{us:U5}(h:Vals [x,y] us):∃u v,us=[u,v]/\RelV x u/\RelV y v:=by
 cases h with
 | cons r t=>cases t with
  | cons q t=>cases t;exact⟨_,_,rfl,r,q⟩
theorem Vals.zero:∀{us:U5},Vals [] us->us=[]
 | _,.nil=>rfl
theorem Vals.eraseIdx:∀{xs:List V}{us:U5} (i:Nat),Vals xs us->Vals (xs.eraseIdx i) (us.eraseIdx i)
 | _,_,_,.nil=>.nil
 | _,_,0,.cons _ t=>t
 | _,_,i+1,.cons r t=>.cons r (Vals.eraseIdx i t)
theorem Vals.rep{xs:List V}{us:U5}(h:Vals xs us):∀k:Nat,Vals (List.replicate k xs).flatten (List.replicate k us).flatten
 | 0=>.nil
 | k+1=>by
  rw[KJ,KJ,Nu,Nu];exact Vals.append h (Vals.rep h k)
theorem j5{α:Type}:∀(l:List α) (i:Nat),(l.eraseIdx i).length<=l.length
 | [],_=>Bf _
 | _::_,0=>Nk _
 | _::r,i+1=>Nat.succ_le_succ (j5 r i)
theorem jt(its:U5):∀(k:Nat) (acc:U5),
  List.foldl (λx1 x2=>x1++x2) acc.toArray (List.replicate k its.toArray)=(acc++(List.replicate k its).flatten).toArray
 | 0,acc=>by simp
 | k+1,acc=>by
  have e:acc.toArray++its.toArray=(acc++its).toArray:=by simp
  have a:(acc++its)++(List.replicate k its).flatten=acc++(List.replicate (k+1) its).flatten:=by
   rw[KJ,Nu,Vi]
  rw[<-a,<-jt its k (acc++its),<-e,KJ,R0]
section
variable {X:Cx}{pins:U1}{σ:St}{H:Hp}{s:U7}{l b:Y3}{xs ys zs:List V}
theorem Inv.lset{its its':U5}{f:Array Value->Array Value}{t':Nat}(I:Inv X pins σ H s)(hH:H l=some (.lst xs))
  (e:s.heap.get? l=some { cls:=.type "list",data:=.seq its.toArray n}) (hf:f its.toArray=its'.toArray) (hv:Vals ys its') (hz:ys.length<=sizeLine):
  Inv X pins σ (upd H l (.lst ys)) {s with heap:=s.heap.update l (Obj.mapSeq f),toks:=t'}:=by
 have q:=PySem.IsL.update e f;rw[hf]at q;refine I.write (x:=l) (e:=l) (by rw[hH];exact trivial) (.inl rfl) (λc u b a=>(KR s.heap (Obj.mapSeq f) (Ne.symm b)).trans a) ⟨_,q⟩ ?_;exact⟨hz,its',_,hv,q⟩
theorem Inv.lnew{its:U5}{t':Nat}(I:Inv X pins σ H s)(hv:Vals ys its)(hz:ys.length<=sizeLine):
  Inv X pins σ (upd H s.heap.objs.size (.lst ys)) {s with heap:=s.heap.push { cls:=.type "list",data:=.seq its.toArray},toks:=t'} :=
 I.laid (λ_ _ q=>CG _ q) (Bf _) ⟨hz,its,0,hv,Ek _ rfl⟩
theorem Inv.fresh(I:Inv X pins σ H s):H s.heap.objs.size=none:=I.hok.fresh (Bf _)
theorem Inv.lstM(I:Inv X pins σ H s)(hH:H l=some (.lst xs)):xs.length<=sizeLine/\∃(its:U5) (n:Nat),Vals xs its/\xs.length=its.length/\s.heap.get? l=some { cls:=.type "list",data:=.seq its.toArray n}:=by
 obtain⟨z,its,n,r,e⟩:=I.hok l _ hH;exact⟨z,its,n,r,r.length,e⟩
theorem pA(h:n<=sizeLine):Builtin.List.listTooLong n=false:=by
 unfold Builtin.List.listTooLong;exact Df (by omega)
end
section
variable {X:Cx}
def X2b:V->List V->Hp->VK->Prop:=λx vs H Q=>∃l xs y,x=.ref l/\vs=[y]/\H l=some (.lst xs)/\xs.length<sizeLine/\Q .non (upd H l (.lst (xs++[y])))
theorem Ul:Xb X "list.append" X2b:=by
 intro pins s σ H x vs v us Q I d c h;obtain⟨l,xs,y,rfl,rfl,a,hz,q⟩:=h;cases d;obtain⟨u,rfl,b⟩:=c.one;obtain⟨z,its,n,r,f,e⟩:=I.lstM a;refine Nj F.slot_list_append ⟨_,e,Z⟩ F.entry_list_append (F.args_list_append_2 _ _) (PySem.list_append l its.toArray n u (by rw[Ci];omega)) ⟨e,?_⟩;refine⟨.non,_,I.lset (its':=its++[u]) a e (by simp) (r.append (.cons b .nil)) ?_,Z,q⟩;rw[DQ,KQ];omega
def X2a:V->List V->Hp->VK->Prop:=λx vs H Q=>∃l b xs zs,x=.ref l/\vs=[.ref b]/\H l=some (.lst xs)/\H b=some (.lst zs)/\xs.length+zs.length<=sizeLine/\Q .non (upd H l (.lst (xs++zs)))
theorem xr:Xb X "list.extend" X2a:=by
 intro pins s σ H x vs v us Q I m i h;obtain⟨l,b,xs,zs,rfl,rfl,d,o,hz,q⟩:=h;cases m;obtain⟨u,rfl,g⟩:=i.one;cases g;obtain⟨z,its,n,r,w,e⟩:=I.lstM d;obtain⟨t,a,p,f,j,k⟩:=I.lstM o;have hsz:its.toArray.size+a.toArray.size<=sizeLine:=by rw[Ci,Ci];omega
 have c:¬ (!its.toArray.isEmpty && Builtin.List.listTooLong (its.toArray.size+a.toArray.size))=true:=by
  rw[pA hsz,Bool.and_false];exact Fv
 refine Nj F.slot_list_extend ⟨_,e,Z⟩ F.entry_list_extend (F.args_list_extend_2 _ _)
  (AutoSeq1.list_extend_list_list_0 l its.toArray n b a.toArray p c (by rw[Ci];omega) (by omega)) ⟨e,k,?_⟩
 refine⟨.non,_,I.lset (its':=its++a) d e (by simp) (r.append f) ?_,Z,q⟩;rw[DQ];omega
def Nb:V->List V->Hp->VK->Prop:=λx vs H Q=>∃l xs i k y,x=.ref l/\vs=[.int i]/\H l=some (.lst xs)/\-(2^63)<=i/\i<2^63/\seqIndex? i xs.length=some k/\xs[k]?=some y/\Q y (upd H l (.lst (xs.eraseIdx k)))
theorem vf:Xb X "list.pop" Nb:=by
 intro pins s σ H x vs v us Q I j f h;obtain⟨l,xs,i,k,y,rfl,rfl,b,h1,h2,g,m,q⟩:=h;cases j;obtain⟨u,rfl,c⟩:=f.one;obtain⟨t,rfl⟩:=c;obtain⟨z,its,n,r,o,e⟩:=I.lstM b;obtain⟨w,d,a⟩:=r.get m;refine Nj F.slot_list_pop ⟨_,e,Z⟩ F.entry_list_pop (F.args_list_pop_2 _ _)
  (MeetsSeq.list_pop_at l its.toArray n i t k w (bQ h1 h2) (by rw[Ci,<-o];exact g) (by rw[<-Ss];exact d) (by rw[Ci];omega)) ⟨e,?_⟩
 refine⟨y,_,I.lset (its':=its.eraseIdx k) b e ?_ (r.eraseIdx k) ?_,a,q⟩
 ·show its.toArray.eraseIdxIfInBounds k=(its.eraseIdx k).toArray;rw[List.eraseIdxIfInBounds_toArray]
 ·have:=j5 xs k;omega
def X6:R2:=λx y H Q=>∃l b xs zs,x=.ref l/\y=.ref b/\H l=some (.lst xs)/\H b=some (.lst zs)/\xs.length+zs.length<=sizeLine/\∀p,H p=none->Q (.ref p) (upd H p (.lst (xs++zs)))
theorem XH:Cu X (binaryOp .Add) X6:=by
 intro pins s σ H x y v u Q I k c h;obtain⟨l,b,xs,zs,rfl,rfl,j,m,hz,q⟩:=h;cases k;cases c;obtain⟨z,its,n,r,t,e⟩:=I.lstM j;obtain⟨p,a,o,d,g,i⟩:=I.lstM m;refine PySem.P.add_list e i ?_ (by rw[Ci,Ci];omega);have f:its.toArray++a.toArray=(its++a).toArray:=by simp
 rw[f];exact⟨.ref _,_,I.lnew (t':=s.toks) (r.append d) (by rw[DQ];omega),Z,q _ I.fresh⟩
def X3:R2:=λx y H Q=>∃l k xs,x=.ref l/\y=.int k/\H l=some (.lst xs)/\-(2^63)<=k/\k<2^63/\xs.length*k.toNat<=sizeLine /\
 ∀p,H p=none->Q (.ref p) (upd H p (.lst (List.replicate k.toNat xs).flatten))
theorem nA(xs:List α)(k:Nat):(List.replicate k xs).flatten.length=k*xs.length:=by
 induction k with
 | zero=>simp
 | succ k ih=>rw[KJ,Nu,DQ,ih,Nat.succ_mul,Ro]
theorem X5h:Cu X (binaryOp .Mult) X3:=by
 intro pins s σ H x y v u Q I o i h;obtain⟨l,k,xs,rfl,rfl,j,h1,h2,hz,q⟩:=h;cases o;obtain⟨t,rfl⟩:=i;obtain⟨z,its,n,r,p,e⟩:=I.lstM j;have d:its.toArray.size*k.toNat<=sizeLine:=by rw[Ci,<-p];exact hz
 have c:¬ its.toArray.size*k.toNat>(2^63-1) / 8:=by
  have:(sizeLine:Nat)<=(2^63-1) / 8:=by decide
  omega
 have g:¬ (!Builtin.List.listFitsIndex k)=true:=by
  rw[bQ h1 h2];exact Fv
 have b:¬ Builtin.List.listTooLong (its.toArray.size*k.toNat)=true:=by
  rw[pA d];exact Fv
 have f:List.foldl (λx1 x2=>x1++x2) #[] (List.replicate (if its.toArray.isEmpty=true then 0 else k.toNat) its.toArray)=(List.replicate k.toNat its).flatten.toArray:=by
  have f0:∀m:Nat,List.foldl (λx1 x2=>x1++x2) #[] (List.replicate m its.toArray)=(List.replicate m its).flatten.toArray:=λm=>by
   have:=jt its m [];rw[List.nil_append]at this;exact this
  rw[f0];cases its with
  | nil=>simp
  | cons a r'=>rw[if_neg (by simp)]
 refine wpAny_binaryOp_repeat_ref (T:="list") (U:="int") (by decide) ⟨_,e,Z⟩ (λs'=>V1 s' k t) noFill_list_mul F.fills_int_mul F.slot_int_rmul repeat_list F.slot_int_index.lookup
  (Nj F.slot_int_rmul (V1 s k t) F.entry_int_rmul (F.args_int_rmul_2 _ _) (int___rmul___int_list k t l its.toArray n)
   ⟨e,Z,⟨_,e,Z⟩,Nj F.slot_list_mul ⟨_,e,Z⟩ F.entry_list_mul (F.args_list_mul_2 _ _) (AutoListH.list___mul___list_int_3 l its.toArray n k t g c b) ⟨e,?_⟩⟩)
 rw[f];exact⟨.ref _,_,I.lnew (t':=s.toks) (r.rep k.toNat) (by rw[nA,aZ];exact hz),Z,q _ I.fresh⟩
end
section
variable {prog:U8}{w:W1}{A:Y0}{E:U2}{s:U7}
end
section
variable {X:Cx}
end
end L2
namespace tD
open PySem.W PySem.Calls
variable{P:Params}
theorem vA{h:Heap}:∀(ns:U6) (vs:U5),WellAll P h vs (ns.map WData.int)->IntsAre vs ns:=by
 intro ns;induction ns with
 | nil =>
  intro vs w;rw[Zh]at w;cases w;exact .nil
 | cons n ns ih =>
  intro vs w;rw[Er]at w;cases w with
  | cons a b =>
   cases a;exact .cons _ _ (ih _ b)
variable{l:OpenLaw}{n:Nat}
theorem yR(hn:l.most=some n){h:Heap}{args:List WData}{vals:U5}
  (hpre:l.row.toRowW.claim.pre args=true) (hwl:WellAll P h vals args):
  ∃a vs ns,vals=[Value.ref a]/\args=[WData.list (ns.map WData.int)]/\h.get? a=some { cls:=.type "list",data:=.seq vs.toArray}/\IntsAre vs ns/\ns.length<=n:=by
 have f:WShape.hasAll [] args [.list .int]=true:=(pre_splitW hpre).1;have g:l.pre.holds [] { args:=args}=true:=(pre_splitW hpre).2;obtain⟨d,r,rfl,h1,h2⟩:=hasAllW_cons f;obtain rfl:=hasAllW_nil h2;obtain⟨xs,rfl,i⟩:=hasW_list h1;obtain⟨ns,rfl⟩:=items_int i;have b:ns.length<=n:=by
  unfold OpenLaw.pre at g;have e:(WTm.not (.lt (.lit (.int (n:Int))) (.len (.arg 0)))).holds [] { args:=[.list (ns.map .int)]}=true:=by
   have e:=(holds_andW g).1;rw[hn]at e;exact e
  have c:=condW_of e (w_not (w_lt w_lit (w_len_list (w_arg rfl))));rw[Ax]at c;refine Nat.le_of_not_lt λq=>?_;have j:(n:Int)<((ns.length:Nat):Int):=by omega
  first
   | (rw[DK j]at c;exact absurd c (by decide))
   | (simp at c;omega)
 cases hwl with
 | cons w1 w2 =>
  cases w2;cases w1 with
  | list ho hall=>exact⟨_,_,ns,rfl,rfl,ho,vA ns _ hall,b⟩
theorem yO(l:OpenLaw)(args:List WData):l.row.toRowW.claim.post args (.bool true) args=true :=
 postW_of (r:=l.row.toRowW) (X:=(true == true))
  (show WShape.has [] (.bool true) .bool=true by first | rfl | decide | simp[WShape.has,WShape.arms,WShape.armsAll])
  (show (WTm.eq .res (.lit (.bool true))).value [] { args:=args,res:=some (.bool true),after:=args}=some (.bool (true == true)) from w_eq_bool (w_res rfl) w_lit) rfl
theorem zQ{q:U8}{loose:W0}{XP:(Str->Option Value)->Heap->Prop}{YP:World->Heap->Prop}{d:DefRec}
  (hn:l.most=some n) (hdf:d.params.defaults=[])
  (call:∀(w:W1) (k b:U7) (mg m:U4) (h:Y3) (o:Obj) (s cd e:W3) (a:Y3) (vs:U5) (ns:U6),
   Ground q loose [] XP w k mg m b.heap->YP w b.heap ->
   b.heap.get? h=some o->o.data=.func (docDef d.name d.params d.body d.scope s cd e)->b.heap.CodeRec cd d.name->mg d.name=some (.ref h) ->
   b.heap.get? a=some { cls:=.type "list",data:=.seq vs.toArray}->IntsAre vs ns->ns.length<=n->b.gens=#[] ->
   codeAny (model l.prog w) callerA (.call (.ref h) ⟨[.ref a],[]⟩) (λr s'=>r=.ok (.ret (.bool true))/\OldK b.heap s'.heap/\s'.os=b.os/\AllBare s'.gens) b):
  WalkO q loose XP YP l.row.toRowW d [] (λf vs=>PySem.call f vs):=by
 intro w k b mg m G Y h o s cd e dV kV E H p y t I args x as i v A u B;obtain rfl:dV=.none:=Dflts.none y hdf;obtain rfl:kV=.none:=Dflts.noKw y;obtain⟨a,vs,ns,rfl,rfl,g,c,j⟩:=yR hn i u;refine enter_call (Lz (call w k b mg m h o s cd e a vs ns G Y E (fd_plain H) p t g c j I) λr s' F=>?_);obtain⟨rfl,h2,z,D⟩:=F;exact⟨.inl ⟨.bool true,.bool true,[],Z,λ_=>rfl,.bool true,yO l _,λ_=>⟨List.Pairwise.nil,λ_ C=>(nomatch C)⟩⟩,h2,z,D⟩
section
variable {prog:U8}{w:W1}{A:Y0}{E:U2}{s:U7}{K:Frag}
end
end tD
namespace L2
theorem Wc:∀{vs:U5}{ns:U6},IntsAre vs ns->Vals (ns.map V.int) vs
 | _,_,.nil=>.nil
 | _,_,.cons n t h=>.cons ⟨t,rfl⟩ (Wc h)
def Only (H:Hp):Prop:=∀b,H b=none\/∃o xs,H b=some (.frz o (.lst xs))
theorem vX{P:U8}{w:W1}{K:U0}{mg mb:U4}{CX:KC}{k:Nat}{fa a:Y3}{fd:FuncData}{x:Str}{sp:Sp}{s₁:U7}{vs:U5}{ns:U6}
  (KX:K.In s₁.heap) (hns:s₁.heap.Ns mainGlobals mg) (f:s₁.heap.Ns builtinsNs mb) (hbb:∀x:Str,x≠"__name__"->mb x=bootBuiltins x) (hlim:s₁.heap.NoLimit) (hg:s₁.gens=#[])
  (ha:s₁.heap.get? a=some { cls:=.type "list",data:=.seq vs.toArray}) (hi:IntsAre vs ns) (hl:ns.length<=sizeLine) (hr:Bd k callerA)
  (F:∀base:Heap,K.In base->base.Ns mainGlobals mg->Ca P w K mg base CX k fa fd [x] sp) (hbind:∀(s:U7) (u:W3),BindsTo s fd ⟨[u],[]⟩ [(x,u)])
  (hsp:∀H:Hp,Only H->Ag K H a (ns.map V.int)->sp [.ref a] H (λv _=>v=.bl true) λ_ _ _=>False)
  (hCX:∀H e s',CX [] H s₁ (λ_ _ _=>False) e s'->False):
  codeAny (model P w) callerA (.call (.ref fa) ⟨[.ref a],[]⟩) (λr s'=>r=.ok (.ret (.bool true))/\OldK s₁.heap s'.heap/\s'.os=s₁.os/\AllBare s'.gens) s₁:=by
 have D:=Wc hi;have t:=hi.length;have i:∀H:Hp,Only H->Ag K H a (ns.map V.int)->Ds P w H s₁.heap->(∀b,H b≠none->b=a)->(H a≠none->K.lookup a=none) ->
   codeAny (model P w) callerA (.call (.ref fa) ⟨[.ref a],[]⟩) (λr s'=>r=.ok (.ret (.bool true))/\OldK s₁.heap s'.heap/\s'.os=s₁.os/\AllBare s'.gens) s₁:=by
  intro H E N A I M;have c:∀{b:Y3}{o:Obj},s₁.heap.get? b=some o->H b=none->(Gs s₁.heap H).get? b=some o:=λe n=>vV e n;have C:∀{b:Y3}{o:Obj}{es:Array DictEntry}{ep:Nat},s₁.heap.get? b=some o->o.data=.dict es ep->H b=none:=λ{b o es ep} e d=>by
   cases q:H b with
   | none=>rfl
   | some u =>
    have B:b=a:=I b (by rw[q];simp);subst B;rw[ha]at e;cases e;have d':Data.seq vs.toArray _=Data.dict es ep:=d;cases d'
  have g:∀{b:Y3}{m:U4},s₁.heap.Ns b m->(Gs s₁.heap H).Ns b m:=λ{b m} ⟨o,es,ep,e,d,r⟩=>⟨o,es,ep,c e (C e d),d,r⟩
  have y:K.In (Gs s₁.heap H):=λb o e=>c (KX b o e) (by
   cases q:H b with
   | none=>rfl
   | some u =>
    have B:b=a:=I b (by rw[q];simp)
    subst B
    rw[M (by rw[q];simp)]at e;cases e)
  have L:Mod K mg (Gs s₁.heap H):=⟨y,g hns,⟨mb,g f,hbb⟩,let ⟨mc,h1,h2⟩:=hlim;⟨mc,g h1,h2⟩⟩;have J:GK P w K mg (Gs s₁.heap H) callerA [] s₁ H:=⟨Z,L,λb o e=>X2v e,Nat.le_of_eq (xX _ _),trivial,λb f=>absurd (show b∈([]:U3) from f) (by simp),A,.of_eq hg⟩;refine Lz ((F _ y (g hns)).run callerA [] s₁ H ⟨[.ref a],[]⟩ [.ref a] [.ref a] _ _ hr J (hbind s₁ (.ref a)) (.cons rfl .nil) (hsp H E N)) λr s' h=>?_;cases r with
  | error e=>exact(hCX H e s' h).elim
  | ok fl =>
   cases fl with
   | next=>exact False.elim h
   | brk=>exact False.elim h
   | cont=>exact False.elim h
   | ret u =>
    obtain⟨v,H',os,j,un,l,R,q⟩:=h;have S:v=.bl true:=q;subst S;obtain rfl:u=Value.bool true:=R;refine⟨Z,OldK.of_keep λb o e=>?_,os,j⟩;cases q:H b with
    | none=>exact un.keep b o e q (by intro z;exact absurd (show b∈([]:U3) from z) (by simp)) (by simp)
    | some u =>
     rcases E b with z | ⟨ob,xs,z⟩
     ·rw[q]at z;cases z
     ·have Q:=un.frzs b ob _ z;obtain⟨G,_⟩:=A b _ z;obtain⟨O,_⟩:=l b _ Q;rw[e]at G;cases G;exact O
 cases hk:K.lookup a with
 | some o =>
  have e:=KX a o hk;rw[ha]at e;cases e;refine i (λ_=>none) (λ_=>.inl rfl) (.inr ⟨_,vs.toArray,_,hk,Z,Z,Z,by rw[Ci,t];exact hl,by simpa using D⟩) (λb u z=>by have p:(none:Option HO)=some u:=z;cases p) (λb z=>absurd rfl z) λz=>absurd rfl z
 | none =>
  refine i (λb=>if b=a then some (.frz { cls:=.type "list",data:=.seq vs.toArray} (.lst (ns.map V.int))) else none) (λb=>?_) (.inl (.inr ⟨{ cls:=.type "list",data:=.seq vs.toArray},if_pos rfl⟩)) (λb u z=>?_) (λb z=>?_) λ_=>hk
  ·by_cases f:b=a
   ·exact .inr ⟨_,_,if_pos f⟩
   ·exact .inl (if_neg f)
  ·by_cases f:b=a
   ·have p:=(if_pos f).symm.trans z;cases p;subst f;exact⟨ha,by rw[Ax];exact hl,vs,_,D,ha⟩
   ·have p:=(if_neg f).symm.trans z;cases p
  ·by_cases f:b=a
   ·exact f
   ·exact absurd (if_neg f) z
theorem X1j{l:PySem.W.OpenLaw}{n k:Nat}{q:U8}{loose:W0}{XP:(Str->Option Value)->Heap->Prop}{YP:World->Heap->Prop}{d:DefRec}{K:Params->U0}{CX:World->KC}{sp:World->Sp}{x:Str}
  (hn:l.most=some n) (hn2:n<=sizeLine) (hdf:d.params.defaults=[]) (hr:Bd k callerA)
  (hY:∀(w:W1) (h:Heap),YP w h->(K w.params).In h)
  (F:∀(w:W1) (mg:U4) (m:Y3) (h:Heap),(K w.params).In h->h.Ns mainGlobals mg->mg d.name=some (.ref m) ->
   ∃fd:FuncData,(∀(s:U7) (u:W3),BindsTo s fd ⟨[u],[]⟩ [(x,u)]) /\
    ∀base:Heap,(K w.params).In base->base.Ns mainGlobals mg->Ca l.prog w (K w.params) mg base (CX w) k m fd [x] (sp w))
  (hsp:∀(w:W1) (H:Hp) (a:Y3) (ns:U6),ns.length<=n->Only H->Ag (K w.params) H a (ns.map V.int)->sp w [.ref a] H (λv _=>v=.bl true) λ_ _ _=>False)
  (hCX:∀(w:W1) (H:Hp) (s:U7) (e:W3) (s':U7),CX w [] H s (λ_ _ _=>False) e s'->False):
  PySem.W.WalkO q loose XP YP l.row.toRowW d [] (λf vs=>PySem.call f vs):=by
 refine tD.zQ hn hdf λw J y mg M m o N cd E a vs ns G Y I L B p j i c A=>?_;have r:=hY w _ Y;obtain⟨fd,D,t⟩:=F w mg m _ r G.T.g p;exact vX r G.T.g G.T.b G.T.builtins G.T.nolimit A j i (Eh c hn2) hr t D (λH C z=>hsp w H a ns c C z) λH e s'=>hCX w H y e s'
end L2
namespace L2
noncomputable def JB (s:Stmt)(j:Nat):Stmt:=match s with
 | .ClassDef _ _ _ body _ _ _ _ _ _ _=>body.getD j (.Pass ⟨0,0,0,0⟩)
 | _=>.Pass ⟨0,0,0,0⟩
noncomputable def Eb (s:Stmt):Arguments:=match s with
 | .FunctionDef _ a _ _ _ _ _ _ _ _=>a
 | _=>{ posonlyargs:=[],args:=[],vararg:=none,kwonlyargs:=[],kw_defaults:=[],kwarg:=none,defaults:=[]}
noncomputable def DN (s:Stmt):List Stmt:=match s with
 | .FunctionDef _ _ b _ _ _ _ _ _ _=>b
 | _=>[]
noncomputable def Br (s:Stmt):Scope:=match s with
 | .FunctionDef _ _ _ _ _ _ sc _ _ _=>sc
 | _=>{ kind:=.function,names:=[],isGenerator:=false,isCoroutine:=false}
noncomputable abbrev G_:KC:=λ_ _ _ _ _ _=>False
abbrev E0:XK:=λ_ _ _=>False
theorem MK{X:Cx}:Passes G_ X E0:=λ_ _ _ _ _ _ _ h=>h.elim
structure Xd (K:U0) (x qual:Str) (st:Stmt) (f:Y3) (fd:FuncData):Prop where
 ex:∃(oc:W3) (od:W9) (kV doc pm:W3) (an:W9) (cdv ct:W3) (osl:W8),
  fd=PySem.W.fnOf x qual (Eb st) (DN st) (Br st) .none kV doc pm an cdv ct/\K.lookup f=some ⟨oc,od,.func fd,osl⟩/\PySem.W.codeIn K cdv qual=true
 kp:PySem.W.keepIn K (.ref f)=true
section
variable {P:U8}{w:W1}{K:U0}{mg:U4}{base:Heap}
variable{qual:Str}{st:Stmt}{f:Y3}
theorem Xd.ok{x:Str}{fd:FuncData}{N ps:W0}{k:Nat}{sp:Sp}(F:Xd K x qual st f fd)(S:Ay N ps (Br st))(len:∀vs H Q E,sp vs H Q E->vs.length=ps.length)
  (hbody:∀(cdv:W3) (A:Y0) (outer:List Env) (s:U7) (H:Hp) (vs:List V) (Q:VK) (E:XK),Bd k (A.deeper (envOfC qual (Br st) s.heap.objs.size f cdv))->sp vs H Q E ->
   ∃t,Eu (Du G_ P w K mg base N qual (Br st) f cdv A outer s H E).nox (DN st) t/\t { nx:=λ_ H'=>Q .non H',rt:=Q} (start N vs) H):Ca P w K mg base G_ (k+1) f fd ps sp:=by
 obtain⟨j,od,kV,g,l,i,cdv,ct,d,rfl,e,b⟩:=F.ex;refine Qs e b S len λA outer s H vs Q E c a=>?_;obtain⟨t,h,q⟩:=hbody cdv A outer s H vs Q E c a;exact⟨t,h.nox,q⟩
theorem X6o{x:Str}{oc:W3}{od an:W9}{osl:W8}{kV doc pm cdv ct:W3}(l:K.lookup f=some ⟨oc,od,.func (PySem.W.fnOf x qual (Eb st) (DN st) (Br st) .none kV doc pm an cdv ct),osl⟩)
  (c:PySem.W.codeIn K cdv qual=true) (k:PySem.W.keepIn K (.ref f)=true):Xd K x qual st f (PySem.W.fnOf x qual (Eb st) (DN st) (Br st) .none kV doc pm an cdv ct):=⟨⟨oc,od,kV,doc,pm,an,cdv,ct,osl,Z,l,c⟩,k⟩
end
theorem PN{A:Y0}{k:Nat}(hr:Bd k A):A.units+1<cLine:=Nat.lt_of_le_of_lt (Nat.add_le_add_left (by decide:1<=64) _) hr.units
section
variable {X:Cx}
theorem pv(i:Nat){x:Str}{pos:Pos}(hN:X.N[i]?=some x:=by rfl)(hv:Ux X.env.scope x:=by first | exact Or.inl rfl | exact Or.inr (Or.inl rfl) | exact Or.inr (Or.inr rfl))(hd:(x == ("__debug__":Str))=false:=by decide)
  (hcd:(x == ("__classdict__":Str))=false:=by decide):PE X (.Name x pos) (Q_ i):=X5d hN hv hd hcd
end
theorem Ar{A B:Prop}(h:B):if false=true then A else B:=by
 rw[if_neg Fv];exact h
theorem Cq{A B:Prop}(h:A):if true=true then A else B:=by
 rw[if_pos rfl];exact h
def Same (H H':Hp):Prop:=∀b o,H b=some o->H' b=some o
theorem Same.refl(H:Hp):Same H H:=λ_ _ h=>h
variable{H:Hp}
theorem Same.trans{H1 H2:Hp}(a:Same H H1)(b:Same H1 H2):Same H H2:=λc o h=>b c o (a c o h)
theorem Same.free{H':Hp}(e:Same H H'){l:Y3}(h:H' l=Option.none):H l=Option.none:=by
 cases q:H l with
 | none=>rfl
 | some o =>
  rw[e l o q]at h;cases h
theorem Same.seq{K:U0}{H':Hp}{a:Y3}{xs:List V}(e:Same H H')(h:Ag K H a xs):Ag K H' a xs:=by
 rcases h with (h | ⟨o,h⟩) | h
 ·exact .inl (.inl (e _ _ h))
 ·exact .inl (.inr ⟨o,e _ _ h⟩)
 ·exact .inr h
end L2
set_option maxHeartbeats 4000000
namespace L2
def Sz (k:Nat)(x:Int):Prop:=x.natAbs<2^k
instance (k:Nat) (x:Int):Decidable (Sz k x):=by unfold Sz;infer_instance
theorem Sz.bits{k:Nat}{x:Int}(h:Sz k x):Builtin.Int.intBits x<=k:=by
 unfold Builtin.Int.intBits;split
 ·exact FZ _
 ·rename_i hx;have b:x≠0:=by simpa using hx
  have a:x.natAbs≠0:=by omega
  exact(Pq a).mpr h
theorem Sz.log2{k:Nat}{x:Int}(h:Sz k x)(hk:0<k):x.natAbs.log2<k:=by
 by_cases hn:x.natAbs=0
 ·rw[hn];simpa using hk
 ·exact(Pq hn).mpr h
def VH (_i j:Int):Prop:=j≠0/\Sz 9000 j
section
variable {X:Cx}
theorem wD:Cu X (binaryOp .FloorDiv) (rI VH λi j=>.int (i.fdiv j)):=Oc λ_ _ _ _ _ _ _ a q=>floordiv_int a.1 q (.inl (PyProof.noPylong_of_log2 (a.2.log2 (by decide))))
theorem Mv{h:Heap}{a:Y3}{vs:U5}{ns:U6}(hl:IsTup h a vs.toArray)(hi:IntsAre vs ns):Reads h (.ref a) (.tuple (ns.map PyData.int)) []:=by
 obtain⟨o,b,c,n,d⟩:=hl;exact Reads.tuple b c d (by simpa using PySem.W.readsAll_of_ints hi)
theorem Wh(ns:U6):SeqAt.shaped (.tuple (ns.map PyData.int))=true:=by
 have h1:=Ye ns;have h2:PyData.depth (.tuple (ns.map PyData.int))<=64:=by simp only[PyData.depth];omega
 show (PyData.canLay0 (.tuple (ns.map PyData.int)) && decide (PyData.depth (.tuple (ns.map PyData.int))<=64))=true;rw[P_];exact⟨by simp only[PyData.canLay0];exact Yo ns,DK h2⟩
def Ls (K:U0)(neg:Bool):R2:=λx y H Q=>∃(a b:Y3) (ns ms:U6),x=.ref a/\y=.ref b/\Ak K H a (ns.map V.int)/\Ak K H b (ms.map V.int)/\Q (.bl (if neg then !decide (ns=ms) else decide (ns=ms))) H
theorem X2l(hu:X.A.units+64<cLine):Cu X (compareOp .Eq) (Ls X.K false):=by
 intro pins s σ H x y v u Q I f d h;obtain⟨a,b,ns,ms,rfl,rfl,h1,h2,q⟩:=h;cases f;cases d;obtain⟨its,e,p,_⟩:=I.tuple h1;obtain⟨its',c,g,_⟩:=I.tuple h2;refine eq_dataH_same (Mv p (JC e)) (Mv g (JC c)) (Wh ns) (Wh ms) hu (by simp only[SeqAt.noMix];exact Vo ns ms) ?_;refine⟨.bl (decide (ns=ms)),H,I,?_,q⟩;show _=_;simp only[PySem.Spec.same];rw[Vk]
theorem gj(hu:X.A.units+64<cLine):Cu X (compareOp .NotEq) (Ls X.K true):=by
 intro pins s σ H x y v u Q I f d h;obtain⟨a,b,ns,ms,rfl,rfl,h1,h2,q⟩:=h;cases f;cases d;obtain⟨its,e,p,_⟩:=I.tuple h1;obtain⟨its',c,g,_⟩:=I.tuple h2;refine ne_dataH_same (Mv p (JC e)) (Mv g (JC c)) (Wh ns) (Wh ms) hu (by simp only[SeqAt.noMix];exact Vo ns ms) ?_;refine⟨.bl (!decide (ns=ms)),H,I,?_,q⟩;show _=_;simp only[PySem.Spec.same];rw[Vk]
theorem Ja:Bu X (.builtin "isinstance") (λxs H Q=>∃x T t b,xs=[x,.ty T]/\Bg X.K H x t/\PySem.W.kitOne X.K t (.type T)=some b/\Q (.bl b) H):=by
 intro pins s σ H xs us Q I r h;obtain⟨x,T,t,b,rfl,ty,e,q⟩:=h;obtain⟨u,v,rfl,a,c⟩:=r.two;cases c;exact xZ I a ty e λtk=>⟨.bl b,H,I.tok tk,Z,q⟩
end
section
variable {prog:U8}{w:W1}{A:Y0}{E:U2}
end
section
variable {X:Cx}{pos:Pos}
end
section
variable {X:Cx}{tg:Expr}
end
end L2
namespace L2
theorem lF{α β:Type}{f:α->β->Sem (ForInStep β)}{g:β->α->β}:∀(l:List α) (b:β),(∀x∈l,∀b,f x b=pure (.yield (g b x)))->forIn l b f=pure (l.foldl g b)
 | [],b,_=>rfl
 | x::r,b,h=>by
  rw[List.forIn_cons,h x Iu b,pure_bind];exact lF r (g b x) λy a=>h y (Iv _ a)
noncomputable def Hw (cells:List (Str×Addr))(cs:List (Str×Addr))(x:Str×NameKind):List (Str×Addr):=if x.2 == .free then (x.1,(cells.lookup x.1).getD 0)::cs else cs
noncomputable def clo (names:List (Str×NameKind))(cells:List (Str×Addr)):List (Str×Addr):=names.foldl (Hw cells) []
variable{env:Env}
theorem Wd{scope:Scope}(h:∀x∈scope.names,x.2=.free->∃c,env.cells.lookup x.1=some c):closureFor scope env=pure (clo scope.names env.cells):=by
 simp only[closureFor];unfold clo
 rw[lF (g:=Hw env.cells) scope.names [] (λx e b=>by
  obtain⟨n,k⟩:=x
  unfold Hw
  by_cases hk:k=.free
  ·subst hk
   obtain⟨c,d⟩:=h (n,.free) e rfl
   have a:env.cells.lookup n=some c:=d
   simp[cellOf,a]
  ·have f:(k == NameKind.free)=false:=by simpa using hk
   simp[f])]
 rfl
variable{x:Str}{c:Y3}
theorem lZ{n:Str}{l:List (Str×Addr)}:List.lookup x ((n,c)::l)=if x=n then some c else List.lookup x l:=by
 by_cases h:x=n
 ·subst h;rw[if_pos rfl,List.lookup_cons_self]
 ·rw[if_neg h,R9];have:(x == n)=false:=by simpa using h
  rw[this]
theorem mQ{cells:List (Str×Addr)}:∀(names:List (Str×NameKind)) (cs:List (Str×Addr)),(∀x∈names,x.2=.free->∃c,cells.lookup x.1=some c)->(∀x c,cs.lookup x=some c->cells.lookup x=some c) ->
  ∀x c,(names.foldl (Hw cells) cs).lookup x=some c->cells.lookup x=some c
 | [],cs,_,h0=>h0
 | (n,k)::r,cs,h,h0=>by
  refine mQ r _ (λy b=>h y (Iv _ b)) λx c e=>?_;unfold Hw at e;by_cases hk:k=.free
  ·subst hk;obtain⟨c',a⟩:=h (n,.free) Iu rfl;simp only[Nt,Gj]at e;rw[lZ]at e;have a:cells.lookup n=some c':=a;by_cases hx:x=n
   ·subst hx;rw[if_pos rfl,a]at e;rw[a];exact e
   ·rw[if_neg hx]at e;exact h0 x c e
  ·have d:(k == NameKind.free)=false:=by simpa using hk
   simp only[d,JN,FW]at e;exact h0 x c e
theorem dZ{cells:List (Str×Addr)}:∀(names:List (Str×NameKind)) (cs:List (Str×Addr)) (x:Str),((x,NameKind.free)∈names\/∃c,cs.lookup x=some c)->∃c,(names.foldl (Hw cells) cs).lookup x=some c
 | [],cs,x,h=>by
  rcases h with h | h
  ·cases h
  ·exact h
 | (n,k)::r,cs,x,h=>by
  refine dZ r _ x ?_;unfold Hw;by_cases hk:k=.free
  ·subst hk;simp only[Nt,Gj];rw[lZ];by_cases hx:x=n
   ·exact .inr ⟨_,if_pos hx⟩
   ·rw[if_neg hx];rcases h with h | h
    ·rcases Cz.mp h with h | h
     ·exact absurd (congrArg Prod.fst h) hx
     ·exact .inl h
    ·exact .inr h
  ·have a:(k == NameKind.free)=false:=by simpa using hk
   simp only[a,JN,FW];rcases h with h | h
   ·rcases Cz.mp h with h | h
    ·exact absurd (congrArg Prod.snd h).symm hk
    ·exact .inl h
   ·exact .inr h
structure BX (N:W0) (osc sc:Scope) (Nc:W0) (mp:Y1):Prop where
 kind:sc.kind=.function
 nocell:∀y∈sc.names,y.2≠.cell
 names:∀y∈sc.names,y.2=.local->sc.names.lookup y.1=some .local
 free:∀y∈sc.names,y.2=.free->osc.names.lookup y.1=some .cell\/osc.names.lookup y.1=some .free
 len:mp.length=Nc.length
 map:∀(i j:Nat),mp[i]?=some (some j)->∃x,Nc[i]?=some x/\N[j]?=some x/\sc.names.lookup x=some .free
noncomputable def MP (N:W0)(osc sc:Scope)(Nc:W0)(mp:Y1):Bool :=
 decide (sc.kind=.function) && sc.names.all (λy=>!decide (y.2=.cell) && (!decide (y.2=.local) || decide (sc.names.lookup y.1=some .local)) &&
  (!decide (y.2=.free) || decide (osc.names.lookup y.1=some .cell) || decide (osc.names.lookup y.1=some .free))) &&
 decide (mp.length=Nc.length) && (List.range mp.length).all λi=>match mp[i]? with
  | some (some j)=>match Nc[i]? with
   | some x=>decide (N[j]?=some x) && decide (sc.names.lookup x=some .free)
   | none=>false
  | _=>true
variable{sc:Scope}{mp:Y1}
theorem BX.of{N:W0}{osc:Scope}{Nc:W0}(h:MP N osc sc Nc mp=true):BX N osc sc Nc mp:=by
 unfold MP at h;simp only[P_,decide_eq_true_eq,Kz,Bool.or_eq_true,Bool.not_eq_true',decide_eq_false_iff_not]at h;obtain⟨⟨⟨h1,h2⟩,b⟩,c⟩:=h;refine⟨h1,λy a=>(h2 y a).1.1,λy a e=>?_,λy a e=>?_,b,λi j e=>?_⟩
 ·rcases (h2 y a).1.2 with q | q
  ·exact absurd e q
  ·exact q
 ·rcases (h2 y a).2 with (q | q) | q
  ·exact absurd e q
  ·exact .inl q
  ·exact .inr q
 ·have hi:i<mp.length:=(Cv.mp e).1;have q:=c i (Fb.mpr hi);rw[e]at q;cases hx:Nc[i]? with
  | none=>rw[hx]at q;simp at q
  | some x =>
   rw[hx]at q;simp only[P_,decide_eq_true_eq]at q;exact⟨x,Z,q.1,q.2⟩
theorem mG{f:Str×NameKind->Str×NameKind}(h1:∀p,(f p).1=p.1)(h2:∀p,p.2=.free->(f p).2=.cell\/(f p).2=.free):∀{names:List (Str×NameKind)}{x:Str},names.lookup x=some .free->(names.map f).lookup x=some .cell\/(names.map f).lookup x=some .free
 | [],_,h=>by simp at h
 | (n,k)::r,x,h=>by
  have l:=@mG f h1 h2 r x;rw[Er];have c:=h1 (n,k);have d:=h2 (n,k);generalize f (n,k)=z at c d;obtain⟨g,i⟩:=z;have b:g=n:=c;subst b;cases hx:x == g with
  | true =>
   rw[R9,hx]at h;have j:k=.free:=by simpa using h
   rw[R9,hx];rcases d j with e | e
   ·have a:i=.cell:=e;subst a;exact .inl rfl
   ·have a:i=.free:=e;subst a;exact .inr rfl
  | false =>
   rw[R9,hx]at h;rw[R9,hx];exact l h
variable{names:List (Str×NameKind)}
theorem vB(h:names.lookup x=some .free):
  (names.map λ(n,k)=>if (k == NameKind.free && env.scope.kind == .function && env.kindOf n == some .cell) then (n,NameKind.cell) else (n,k)).lookup x=some .cell \/
  (names.map λ(n,k)=>if (k == NameKind.free && env.scope.kind == .function && env.kindOf n == some .cell) then (n,NameKind.cell) else (n,k)).lookup x=some .free:=by
 refine mG (λp=>?_) (λp hp=>?_) h
 ·obtain⟨n,k⟩:=p;dsimp only;split<;>rfl
 ·obtain⟨n,k⟩:=p;dsimp only;split
  ·exact .inl rfl
  ·exact .inr hp
theorem lU{k':NameKind}(hc:∀y∈names,y.2≠.cell)(hk:k'=.cell\/k'=.free)
  (h:(names.map λ(n,k)=>if (k == NameKind.free && env.scope.kind == .function && env.kindOf n == some .cell) then (n,NameKind.cell) else (n,k)).lookup x=some k'):(x,NameKind.free)∈names:=by
 have m:=Nx h;obtain⟨⟨n,k⟩,a,e⟩:=DY.mp m;dsimp only at e;by_cases hf:k=.free
 ·subst hf;have b:n=x:=by
   by_cases hc':(NameKind.free == NameKind.free && env.scope.kind == .function && env.kindOf n == some .cell)=true
   ·rw[if_pos hc']at e;exact congrArg Prod.fst e
   ·rw[if_neg hc']at e;exact congrArg Prod.fst e
  exact b ▸ a
 ·have c:(k == NameKind.free)=false:=by simpa using hf
  simp only[c,Kw,JN,FW]at e;cases e;rcases hk with z | z
  ·exact absurd z (hc _ a)
  ·exact absurd z hf
noncomputable def BZ (X:Cx)(scope:Scope)(Nc:W0)(ex:U3)(pins:U1)(s:U7)(H:Hp):Cx where
 prog:=X.prog
 w:=X.w
 K:=X.K
 mg:=X.mg
 base:=X.base
 A:=X.A
 N:=Nc
 s₀:=s
 H₀:=H
 env:=compEnvC scope (clo scope.names X.env.cells) s.heap.objs.size X.env
 outer:=X.stack
 stack:=X.stack
 ex:=ex
 fn:=λ_=>false
 calm:=X.calm
 pn:=X.pn++pins
 xe:=λ_ _=>False
noncomputable def sub (mp:Y1)(σ:St):St:=mp.map λo=>match o with | some j=>(σ[j]?).join | none=>none
theorem X1o{σ:St}{i:Nat}{v:V}(h:(sub mp σ)[i]?=some (some v)):∃j,mp[i]?=some (some j)/\σ[j]?=some (some v):=by
 unfold sub at h;rw[Bo]at h;cases e:mp[i]? with
 | none=>rw[e]at h;cases h
 | some o =>
  rw[e]at h;cases o with
  | none=>cases h
  | some j =>
   refine⟨j,Z,?_⟩;have h':(σ[j]?).join=some v:=Option.some.inj h;cases q:σ[j]? with
   | none=>rw[q]at h';cases h'
   | some z=>rw[q]at h';exact congrArg some h'
section
variable {X:Cx}{pins:U1}{σ:St}{H:Hp}{s:U7}{scope:Scope}{Nc:W0}{mp:Y1}{fp:U3}
theorem Uj(I:Inv X pins σ H s)(S:BX X.N X.env.scope scope Nc mp):∀x∈scope.names,x.2=.free->∃c,X.env.cells.lookup x.1=some c:=λx a e =>
 I.ok.has x.1 (S.free x a e)
theorem Mj(I:Inv X pins σ H s)(S:BX X.N X.env.scope scope Nc mp)(h:(clo scope.names X.env.cells).lookup x=some c):X.env.cells.lookup x=some c :=
 mQ scope.names [] (Uj I S) (λ_ _ e=>by cases e) x c h
theorem X7q(I:Inv X pins σ H s)(S:BX X.N X.env.scope scope Nc mp)(hf:∀b∈fp,DX X pins H b)(hl:∀b∈fp,b<s.heap.objs.size):(BZ X scope Nc fp pins s H).Ok where
 mod:=I.ok.mod
 kind:=S.kind
 glob:=I.ok.glob
 blt:=I.ok.blt
 above:=Bf _
 inj:=λx y c f d=>I.ok.inj x y c (Mj I S f) (Mj I S d)
 has:=λx h=>by
  have g:(x,NameKind.free)∈scope.names:=by
   rcases h with h | h
   ·exact lU S.nocell (.inl rfl) h
   ·exact lU S.nocell (.inr rfl) h
  exact dZ scope.names [] x (.inl g)
 cab:=λx c h _=>by cases h
 hd:=I.ok.hd
 frames:=I.ok.frames
 stk:=.inl rfl
 exf:=λb a=>⟨B_ (hl b a),λx c e=>(hf b a).2.2.2.2.1 x c (Mj I S e)⟩
 bs:=I.bs
 bsz:=Eh I.ok.bsz I.sz
 noex:=λb o e a=>by
  rcases (hf b a).2.2.2.1 with z | z
  ·exact I.ok.noex b o e z
  ·exact absurd (CK (BP e) (Eh I.ok.bsz z)) (JL _)
 exfs:=λb a z=>by
  rcases Cz.mp (I.stkSub b z) with e | e
  ·exact(hf b a).2.1 e
  ·exact(hf b a).2.2.1 e
 funs:=I.stack
 frf:=I.stkFree
theorem o9(I:Inv X pins σ H s)(S:BX X.N X.env.scope scope Nc mp)(hf:∀b∈fp,DX X pins H b)(hl:∀b∈fp,b<s.heap.objs.size){h₁:Heap}{m:U4}{tk:Nat}
  (hn:h₁.Ns s.heap.objs.size m) (k:∀b o,s.heap.get? b=some o->h₁.get? b=some o):Inv (BZ X scope Nc fp pins s H) [] (sub mp σ) H {s with heap:=h₁,toks:=tk}:=by
 refine⟨X7q I S hf hl,Z,I.bare,Un.kept k,⟨m,hn,λi x v P L _=>?_⟩,λx c e=>?_,I.hok.fresh (Bf _),λx c e=>I.freeC x c (Mj I S e),λp hp=>?_,I.hok.kept k,?_⟩
 ·obtain⟨j,F,O⟩:=X1o L;obtain⟨y,D,G,B⟩:=S.map i j F;have A:Nc[i]?=some x:=P;rw[A]at D;cases D;have f:=Nx B;have l:Ux X.env.scope x:=.inr (S.free _ f rfl);obtain⟨Q,_,a⟩:=I.loc;obtain⟨u,K,M⟩:=a j x v G O l;refine⟨u,K,.inr ⟨vB B,?_⟩⟩;obtain⟨c,C⟩:=dZ (cells:=X.env.cells) scope.names [] x (.inl f);have t:=Mj I S C;rcases M with ⟨z,_⟩ | ⟨_,c',z,q⟩
  ·rcases S.free _ f rfl with z' | z'<;>(have w:X.env.scope.names.lookup x=some .local:=z;rw[w]at z';cases z')
  ·rw[t]at z;cases z;obtain⟨o,g,h⟩:=q;exact⟨c,C,o,k c o g,h⟩
 ·obtain⟨v,o,g,h⟩:=I.cell x c (Mj I S e);exact⟨v,o,k c o g,h⟩
 ·have r:p∈X.pn++pins:=by
   have:p∈(X.pn++pins)++[]:=hp;simpa using this
  obtain⟨e,n,E,J,d⟩:=I.pin p r;refine⟨k _ _ e,n,B_ (BP e),λz=>?_,d⟩;rcases Cz.mp (I.stkSub p.1 z) with q | q
  ·exact E q
  ·exact J q
 ·show (sub mp σ).length=Nc.length;unfold sub;rw[Ax];exact S.len
theorem rP(I:Inv X pins σ H s)(hf:∀b∈fp,DX X pins H b){σ':St}{H':Hp}{s':U7}{pl:U1}(J:Inv (BZ X scope Nc fp pins s H) pl σ' H' s'):Inv X pins σ H' s' :=
 I.call' J.os J.base J.hok J.bare λb a=>⟨(hf b a).2.2.2.1,(hf b a).2.1,(hf b a).2.2.2.2.1,(hf b a).2.2.2.2.2⟩
theorem Inv.turnedNew(I:Inv X pins σ H s){C:Y3}{h':Heap}{t':Nat}(k:∀b o,b≠C->s.heap.get? b=some o->h'.get? b=some o)(hn:H C=none)(h1:X.s₀.heap.objs.size<=C)
  (hL:C≠X.env.locals) (hc:∀x c,X.env.cells.lookup x=some c->c≠C) (hp:∀p∈X.pn++pins,p.1≠C):Inv X pins σ H {s with heap:=h',toks:=t'} :=
 I.turned k hn hL (.inr h1) hc hp
end
section
variable {M:Model}{A:Y0}{E:U2}
abbrev Calm:Value->Shared->Prop:=λ_ _=>False
theorem DP{α β:Type}{m:Sem α}{f:α->Sem β}{P:α->Shared->Prop}{Q:β->Shared->Prop}{s:U7}(h:wpAny M A m P Calm s)(k:∀x s',P x s'->wpAny M A (f x) Q E s'):wpAny M A (m >>= f) Q E s :=
 Af (Dp h k λ_ _ z=>z.elim)
end
theorem uf{prog:U8}{w:W1}{A:Y0}{R:Result->Shared->Prop}{s:U7}{e t i:Expr}{pos:Pos}{it acc:W3}(J:Nat->Shared->Prop)
  (turn:∀n s,J n s->wpAny (model prog w) A (pyNext it) (λr s1=>(r=none->R (.ok .next) s1)/\∀v,r=some v ->
   wpAny (model prog w) A (letOwnedTupleGo t it v) (λ_ c=>wpAny (model prog w) A (assign t env v) (λ_ b=>wpAny (model prog w) A (eval e env) (λx a =>
    wpAny (model prog w) A (call (.builtin "list.append") [acc,x]) (λ_ d=>∃m,m<n/\J m d) Calm a) Calm b) Calm c) Calm s1) Calm s)
  (n:Nat) (h:J n s):codeAny (model prog w) A (.compLoop (.ListComp e [⟨t,i,[],0⟩] sc pos) 0 it acc env) R s:=by
 have l:=compTurn_list1 e t i sc pos it acc env;refine codeAny_loop rfl J (λn s j=>wpAny_noted (m:=compTurn (.ListComp e [⟨t,i,[],0⟩] sc pos) 0 it acc env) ?_) n h;rw[l];refine Af (L_ (DP (turn n s j) λr s1 q=>?_));match r,q with
 | none,q=>exact Aq (q.1 rfl)
 | some v,q=>exact DP (q.2 v rfl) λ_ c o=>DP o λ_ b f=>Af (DP f λx a g=>DP g λ_ d k=>Aq (Aq ⟨rfl,k⟩))
def Kl (J:It)(g:TG)(te:TE)(σ:St)(H:Hp)(acc:Y3)(Q:VK):Prop:=∃W:Nat->Nat->List V->St->Hp->Prop,(∃m,W 0 m [] σ (upd H acc (.lst []))) /\
 ∀i m ys σ2 H2,W i m ys σ2 H2->(J.stop i H2/\Q (.ref acc) H2)\/(J.go i H2/\∀x H3,J.yld i H2 x H3->g x σ2 H3 λσ4 H4=>te σ4 H4 λy H5 =>
  H5 acc=some (.lst ys)/\ys.length<sizeLine/\∃m',m'<m/\W (i+1) m' (ys++[y]) σ4 (upd H5 acc (.lst (ys++[y]))))
def jA (mp:Y1)(wi:TI)(g:TG)(te:TE):TE:=λσ H Q=>wi σ H λJ H1=>∀acc,H1 acc=none->Kl J g te (sub mp σ) H1 acc Q
section
variable {X:Cx}{elt tg iter:Expr}{scope:Scope}{pos:Pos}{wi:TI}{g:TG}{te:TE}{Nc:W0}{mp:Y1}
noncomputable abbrev DG (s:U7):Shared:={s with heap:=s.heap.push { cls:=.type "list",dict:=none,data:=.seq ([]:U5).toArray}}
theorem rQ(hc:X.calm=true)(S:BX X.N X.env.scope scope Nc mp)(hg:∀ex pins s H,PG (BZ X scope Nc ex pins s H) tg g)(he:∀ex pins s H,PE (BZ X scope Nc ex pins s H) elt te)
  {pins:U1}{σ:St}{H2:Hp}{s2:U7}{E:U2}{it:Y3}{fp:U3}{tn:Nat->Heap->Prop}{J:It}{Q:VK}{RR:Value->Addr->Result->Shared->Prop}
  (I2:Inv X pins σ H2 s2) (T:Turn X.prog X.w X.K tg J fp it tn) (st2:tn 0 s2.heap) (f2:∀b∈fp,DX X pins H2 b)
  (q:∀acc,H2 acc=none->Kl J g te (sub mp σ) H2 acc Q)
  (fin:∀acc C H' s' m',Q (.ref acc) H'->Inv X pins σ H' s'->s'.heap.Ns C m'->H' C=none->X.s₀.heap.objs.size<=C->C≠X.env.locals->(∀x c,X.env.cells.lookup x=some c->c≠C)->(∀p∈X.pn++pins,p.1≠C)->RR (.ref acc) C (.ok .next) s'):
  wpAny (model X.prog X.w) X.A (newList []) (λacc s₃=>wpAny (model X.prog X.w) X.A (newFunctionEnv scope X.env.globals (clo scope.names X.env.cells) [] X.env.qual none .none (some X.env)) (λt s₄ =>
   codeAny (model X.prog X.w) X.A (.compStart (.ListComp elt [⟨tg,iter,[],0⟩] scope pos) 0 (.ref it) acc {t with scope:=relabel scope X.env}) (RR acc t.locals) s₄) E s₃) E s2:=by
 refine Js (wpAny_newFunctionEnv S.nocell (by intro y hy;simp at hy) (λh₁ m k=>?_) S.kind);dsimp only at m k ⊢;have I3:=I2.lnew (its:=[]) (ys:=[]) (t':=s2.toks) .nil (FZ _);have R:H2 s2.heap.objs.size=none:=I2.fresh;obtain⟨W,⟨m0,w0⟩,O⟩:=q s2.heap.objs.size R;have G:(s2.heap.push { cls:=.type "list",dict:=none,data:=.seq ([]:U5).toArray}).objs.size=s2.heap.objs.size+1:=Vc ..;have I:∀b∈fp,b<s2.heap.objs.size:=λb a=>by
  obtain⟨o,e,_⟩:=T.obj _ _ st2 b a;exact BP e
 have F:∀b∈fp,DX X pins (upd H2 s2.heap.objs.size (.lst [])) b:=λb a=>⟨by rw[BK (B_ (I b a))];exact(f2 b a).1,(f2 b a).2⟩;have h:Inv X pins σ (upd H2 s2.heap.objs.size (.lst [])) (DG s2):=I3;have hsz:(DG s2).heap.objs.size=s2.heap.objs.size+1:=G;have l:∀b∈fp,b<(DG s2).heap.objs.size:=λb a=>by rw[hsz];exact QF (I b a)
 have k3:∀b o,(DG s2).heap.get? b=some o->h₁.get? b=some o:=λb o e=>k.extBut b o (B_ (BP e)) (CG _ e);have Ic:=o9 (tk:=(DG s2).toks) h S F l m k3;have P:tn 0 h₁:=T.keep _ _ _ st2 λb a o e=>k3 b o (CG _ e);have cC:X.s₀.heap.objs.size<=(DG s2).heap.objs.size:=h.sz;have cL:(DG s2).heap.objs.size≠X.env.locals:=Hu h.lt;have cc:∀x c,X.env.cells.lookup x=some c->c≠(DG s2).heap.objs.size:=λx c e=>by
  obtain⟨v,o,ho,_⟩:=h.cell x c e;exact B_ (BP ho)
 have cp:∀p∈X.pn++pins,p.1≠(DG s2).heap.objs.size:=λp hp=>B_ (BP (h.pin p hp).1);have j:∀{H':Hp},(∀b∈fp,H' b=none)->∀b∈fp,DX (BZ X scope Nc fp pins (DG s2) (upd H2 s2.heap.objs.size (.lst []))) [] H' b:=λhn b a =>
  ⟨hn b a,B_ (l b a),λz=>by
   rcases Cz.mp (h.stkSub b z) with e | e
   ·exact(F b a).2.1 e
   ·exact(F b a).2.2.1 e,.inl a,λx c e=>(F b a).2.2.2.2.1 x c (Mj h S e),λp hp=>(F b a).2.2.2.2.2 p (by
    have:p∈(X.pn++pins)++[]:=hp
    simpa using this)⟩
 have loop:∀s4:Shared,s4={ (DG s2) with heap:=h₁,toks:=(DG s2).toks} ->
   codeAny (model X.prog X.w) X.A (.compLoop (.ListComp elt [⟨tg,iter,[],0⟩] scope pos) 0 (.ref it) (.ref s2.heap.objs.size) (BZ X scope Nc fp pins (DG s2) (upd H2 s2.heap.objs.size (.lst []))).env)
    (RR (.ref s2.heap.objs.size) (DG s2).heap.objs.size) s4:=by
  rintro s4 rfl;refine uf (λn s'=>∃i ys σ' H',Inv (BZ X scope Nc fp pins (DG s2) (upd H2 s2.heap.objs.size (.lst []))) [] σ' H' s'/\tn i s'.heap/\(∀b∈fp,H' b=none)/\W i n ys σ' H') ?_ m0
   ⟨0,[],sub mp σ,_,Ic,P,λb a=>(F b a).1,w0⟩
  rintro n s5 ⟨i,ys,V,U,I5,L,M,w5⟩;rcases O i n ys V U w5 with ⟨stop,qn⟩ | ⟨go,step⟩
  ·refine Dp (T.done (BZ X scope Nc fp pins (DG s2) (upd H2 s2.heap.objs.size (.lst []))) rfl rfl rfl hc i [] s5 V U (λ_ _=>False) I5 (j M) L stop) (λr s6 ⟨hr,I6⟩=>?_) λ_ _ f=>f.elim;subst hr;obtain⟨m6,Y,_⟩:=I6.loc;refine⟨λ_=>?_,λ_ z=>nomatch z⟩;exact fin _ _ U s6 m6 qn (rP h F I6) Y I6.free cC cL cc cp
  ·refine Dp (T.item (BZ X scope Nc fp pins (DG s2) (upd H2 s2.heap.objs.size (.lst []))) rfl rfl rfl hc i [] s5 V U (λ_ _=>False) I5 (j M) L go) (λr s6 ⟨u,hr,h6⟩=>?_) λ_ _ f=>f.elim;subst hr;refine⟨(λz=>by cases z),?_⟩;rintro _ ⟨⟩;refine Dp h6 (λ_ s7 ⟨x,H7,I7,r7,y7,B,a2⟩=>?_) λ_ _ f=>f.elim;have a1:=I7.pinned (j a2) (T.obj _ _ B);refine Dp (hg _ _ _ _ _ s7 V H7 x u _ a1 r7 (step x H7 y7)) (λ_ s8 ⟨σ8,H8,I8,q8⟩=>?_) λ_ _ f=>f.elim;refine Dp (he _ _ _ _ _ s8 σ8 H8 _ I8 q8) (λv s9 ⟨y,H9,I9,r9,a9,l9,m',a0,w9⟩=>?_) λ_ _ f=>f.elim;refine Dp (Ul (X:=BZ X scope Nc fp pins (DG s2) (upd H2 s2.heap.objs.size (.lst []))) _ s9 σ8 H9 (.ref s2.heap.objs.size) [y] (.ref s2.heap.objs.size) [v] (λz Hz=>z=.non/\Hz=upd H9 s2.heap.objs.size (.lst (ys++[y]))) I9 rfl (.cons r9 .nil) ⟨_,ys,y,Z,Z,a9,l9,Z,Z⟩) (λa5 a6 ⟨z,a4,D,_,_,a3⟩=>?_) λ_ _ f=>f.elim;subst a3;refine⟨m',a0,i+1,ys++[y],σ8,_,D.unpinned,T.keep _ _ _ B λb a o e=>(D.pin (b,o) (Fw _ (Fw _ (Qo a e)))).1,λb a=>?_,w9⟩;obtain⟨o,e,d⟩:=T.obj _ _ B b a;exact(D.pin (b,o) (Fw _ (Fw _ (Qo a e)))).2.1
 exact jJ (loop _ rfl) (T.self _ 0 _ _ _ P (loop _ rfl))
theorem GF(hc:X.calm=true)(S:BX X.N X.env.scope scope Nc mp)(hi:PI X tg iter wi)(hg:∀ex pins s H,PG (BZ X scope Nc ex pins s H) tg g)(he:∀ex pins s H,PE (BZ X scope Nc ex pins s H) elt te)
  (hf:∀x,foldedSetIterable iter X.env x=pure x:=by intro _;rfl):PE X (.ListComp elt [⟨tg,iter,[],0⟩] scope pos) (jA mp wi g te):=by
 intro pins s σ H Q I h;rw[eval_ListComp];refine Vz (use:=none) rfl hf (Wd (Uj I S)) S.kind S.names (A_ (hi pins s σ H _ I h) λv s1 h1=>A_ h1 λi t h2=>?_);obtain⟨it,fp,r,J,H2,e,m,T,a,n,q⟩:=h2;subst e;refine rQ (RR:=λacc C=>compPost (model X.prog X.w) X.A X.xe none (EP X pins σ Q) acc C) hc S hg he m T a n q ?_;intro acc C H' s' m' qq l j f d k c3 c4;refine⟨m',j,λh' c=>⟨.ref acc,H',?_,Z,qq⟩⟩;exact l.turnedNew (t':=s'.toks) (λb o p e=>c.extBut b o p e) f d k c3 c4
theorem eY{i:Nat}{pos' spos:Pos}(hc:X.calm=true)(hN:X.N.Nodup)(hi':X.N[i]?=some x)(hx:X.env.scope.names.lookup x=some .local)(S:BX X.N X.env.scope scope Nc mp)(hi:PI X tg iter wi)
  (hg:∀ex pins s H,PG (BZ X scope Nc ex pins s H) tg g) (he:∀ex pins s H,PE (BZ X scope Nc ex pins s H) elt te)
  (hsw:swapsWith (.ListComp elt [⟨tg,iter,[],0⟩] scope pos) (some (.Name x pos')) spos.line X.env=pure true)
  (hf:∀x,foldedSetIterable iter X.env x=pure x:=by intro _;rfl):PS X (.Assign [.Name x pos'] (.ListComp elt [⟨tg,iter,[],0⟩] scope pos) spos) (Ko (jA mp wi g te) (CN i)):=by
 intro pins s σ H D I h;rw[jF _ _ _ _ hsw];refine Af (L_ (Af ?_));show wpAny _ X.A (do let _ ← comprehension (.ListComp elt [⟨tg,iter,[],0⟩] scope pos) scope X.env _ (newList []) false (eval iter X.env) (some (assign (.Name x pos') X.env))) _ _ s
 refine Af (Dp (Vz (use:=some (assign (.Name x pos') X.env)) (Q:=λ_ s'=>SP X pins D .next s') rfl hf (Wd (Uj I S)) S.kind S.names
  (A_ (hi pins s σ H _ I h) λv s1 h1=>A_ h1 λp L h2=>?_)) (λ_ s' n=>Aq (Aq n)) λ_ _ e=>e)
 obtain⟨it,fp,K,J,H2,e,E,T,f,F,q⟩:=h2;subst e;refine rQ (Q:=λx H1=>CN i x σ H1 D.nx) (RR:=λacc C=>compPost (model X.prog X.w) X.A X.xe (some (assign (.Name x pos') X.env)) (λ_ s'=>SP X pins D .next s') acc C) hc S hg he E T f F q ?_;intro acc C H' s' m' qq u t l k j c3 c4;show wpAny _ X.A (assign (.Name x pos') X.env (.ref acc)) _ _ _;refine YK (fW (v:=.ref acc) u hN hi' (.inl hx) rfl (λB r ⟨a,c,y⟩=>?_) (.inr hx));have d:C≠a:=by
  rcases y with z | z
  ·rw[z];exact j
  ·exact Ne.symm (c3 x a z)
 refine⟨m',t.sameBut c d,λh' m=>⟨σ.set i (some (.ref acc)),H',?_,qq⟩⟩;exact r.turnedNew (t':=B.toks) (λb o G e=>m.extBut b o G e) l k j c3 c4
end
variable{te:TE}{fr:St}{H1:Hp}{acc:Y3}{Q:VK}
theorem iJ{J:It}{n:Nat}{val:Nat->V}(Pv:Nat->List V->Hp->Prop)(hn:n<=sizeLine)(h0:Pv 0 [] (upd H1 acc (.lst [])))
  (hgo:∀i ys H,i<n->Pv i ys H->J.go i H/\∀x H',J.yld i H x H'->H'=H/\x=val i) (hst:∀ys H,Pv n ys H->J.stop n H)
  (hs:∀i ys H (N:V->Hp->Prop),i<n->ys.length=i->Pv i ys H->(∀y a,a acc=some (.lst ys)->Pv (i+1) (ys++[y]) (upd a acc (.lst (ys++[y])))->N y a)->te (some (val i)::fr) H N)
  (hd:∀ys H,ys.length=n->Pv n ys H->Q (.ref acc) H):
  Kl (J) (CN 0) te (none::fr) H1 acc Q:=by
 refine⟨λi m ys d H2=>m=n-i/\i<=n/\ys.length=i/\(∃v,d=v::fr)/\Pv i ys H2,⟨n,by simp,FZ _,Z,⟨_,Z⟩,h0⟩,?_⟩;rintro i m ys d H2 ⟨rfl,hi,c,⟨v,rfl⟩,p⟩;by_cases hlt:i<n
 ·obtain⟨go,g⟩:=hgo i ys H2 hlt p;refine .inr ⟨go,λx b h=>?_⟩;obtain⟨k,j⟩:=g x b h;subst k j;show te ((v::fr).set 0 (some (val i))) b _;rw[List.set_cons_zero];refine hs i ys b _ hlt c p λy a l f=>⟨l,by omega,n-(i+1),by omega,Z,hlt,by rw[DQ,c];rfl,⟨_,Z⟩,f⟩
 ·have e:i=n:=by omega
  subst e;exact .inl ⟨hst ys H2 p,hd ys H2 c p⟩
theorem WR{lo:Int}{n:Nat}(Pv:Nat->List V->Hp->Prop)(hn:n<=sizeLine)(h0:Pv 0 [] (upd H1 acc (.lst [])))
  (hs:∀i ys H (N:V->Hp->Prop),i<n->ys.length=i->Pv i ys H->(∀y H5,H5 acc=some (.lst ys)->Pv (i+1) (ys++[y]) (upd H5 acc (.lst (ys++[y])))->N y H5)->te (some (.int (lo+i))::fr) H N)
  (hd:∀ys H,ys.length=n->Pv n ys H->Q (.ref acc) H):
  Kl (Gg lo n) (CN 0) te (none::fr) H1 acc Q :=
 iJ (J:=Gg lo n) (val:=λi=>.int (lo+i)) Pv hn h0 (λi ys H hi p=>⟨hi,λx H' y=>y⟩) (λys H p=>Bf _) hs hd
theorem Lb{K:U0}{a:Y3}{xs:List V}(Pv:Nat->List V->Hp->Prop)(hn:xs.length<=sizeLine)(h0:Pv 0 [] (upd H1 acc (.lst [])))
  (hl:∀i ys H,Pv i ys H->Ag K H a xs)
  (hs:∀i x ys H (N:V->Hp->Prop),xs[i]?=some x->ys.length=i->Pv i ys H->(∀y H5,H5 acc=some (.lst ys)->Pv (i+1) (ys++[y]) (upd H5 acc (.lst (ys++[y])))->N y H5)->te (some x::fr) H N)
  (hd:∀ys H,ys.length=xs.length->Pv xs.length ys H->Q (.ref acc) H):
  Kl (Lh K a) (CN 0) te (none::fr) H1 acc Q :=
 iJ (J:=Lh K a) (n:=xs.length) (val:=λi=>xs.getD i .non) Pv hn h0
  (λi ys H hi p=>⟨⟨xs,xs[i],hl i ys H p,by simp[hi]⟩,λx H' y=>⟨y.1,by
   have:=y.2 xs (hl i ys H p)
   rw[Bb,this];rfl⟩⟩)
  (λys H p=>⟨xs,hl _ ys H p,Bf _⟩)
  (λi ys H N hi b p k=>by
   have e:xs[i]?=some (xs.getD i .non):=by rw[Bb,Bm hi];rfl
   exact hs i _ ys H N e b p k) hd
end L2
namespace L2
structure Ao (P:U8) (w:W1) (K:U0) (mg:U4) (base:Heap) (k:Nat) (x:Str) (ps:W0) (sp:Sp):Prop where
 ex:∃f fd,Ca P w K mg base G_ k f fd ps sp/\Binds K fd ps []/\PySem.W.keepIn K (.ref f)=true/\mg x=some (.ref f)
variable{K:U0}{mg:U4}{base:Heap}{x:Str}{ps:W0}{sp:Sp}
theorem Ao.mono{P:U8}{w:W1}{j k:Nat}(c:Ao P w K mg base j x ps sp)(h:j<=k):Ao P w K mg base k x ps sp :=
 let ⟨f,fd,F,b,kp,m⟩:=c.ex
 ⟨f,fd,F.mono h,b,kp,m⟩
section
variable {X:Cx}{k:Nat}{x:Str}{ps:W0}{sp:Sp}{p pos:Pos}{e:Expr}{es:List Expr}{t:TA}
theorem BJ(c:Ao X.prog X.w X.K X.mg X.base k x ps sp)(hr:Bd k X.A)(hg:Gl X x)(ha:PA X (e::es) t)(hdb:(x == ("__debug__":Str))=false:=by decide)
  (he:starEach (e::es) X.env=(false,eval e X.env)::starEach es X.env:=by rfl) (hpl:(backTo pos (starEach es X.env)).any (·.1)=false:=by rfl):PE X (.Call (.Name x p) (e::es) [] pos) (HD sp [] E0 t):=by
 obtain⟨f,fd,F,b,a,m⟩:=c.ex;exact gn F hr hg m a b .nil MK ha hdb he hpl
end
structure Ab (K:U0) (x:Str) (st:Stmt) (dV:W3):Prop where
 ex:∃(f:Y3) (oc:W3) (od:W9) (kV doc pm:W3) (an:W9) (cdv ct:W3) (osl:W8),
  K.lookup f=some ⟨oc,od,.func (PySem.W.fnOf x x (Eb st) (DN st) (Br st) dV kV doc pm an cdv ct),osl⟩/\PySem.W.codeIn K cdv x=true/\PySem.W.keepIn K (.ref f)=true/\PySem.W.nsIn K mainGlobals x=some (some (.ref f))
variable{st:Stmt}{f:Y3}{dV cdv:W3}
theorem uP{oc:W3}{od an:W9}{osl:W8}{kV doc pm ct:W3}(a:PySem.W.nsIn K mainGlobals x=some (some (.ref f)))
  (l:K.lookup f=some ⟨oc,od,.func (PySem.W.fnOf x x (Eb st) (DN st) (Br st) dV kV doc pm an cdv ct),osl⟩) (c:PySem.W.codeIn K cdv x=true) (k:PySem.W.keepIn K (.ref f)=true):Ab K x st dV :=
 ⟨f,oc,od,kV,doc,pm,an,cdv,ct,osl,l,c,k,a⟩
def Kc (K:U0)(x:Str)(st:Stmt)(dV:W3)(ps:W0):Prop:=∀(kV doc pm:W3) (an:W9) (cdv ct:W3),Binds K (PySem.W.fnOf x x (Eb st) (DN st) (Br st) dV kV doc pm an cdv ct) ps []
theorem En
  (h:∀(kV a b:W3) (c:W9) (cdv ct:W3) (us:U5),us.length=ps.length->bindArgs (PySem.W.fnOf x x (Eb st) (DN st) (Br st) .none kV a b c cdv ct) ⟨us,[]⟩=pure (ps.zip us)):Kc K x st .none ps :=
 λkV a b c cdv ct=>.all (h kV a b c cdv ct)
variable{nm:Str}
theorem Ou(h:∀(kV a b:W3) (c:W9) (cdv ct:W3),bindArgs (PySem.W.fnOf nm nm (Eb st) (DN st) (Br st) .none kV a b c cdv ct) ⟨[],[]⟩=pure []):Kc K nm st .none []:=En λkV a b c cdv ct us d=>by
 cases us with
 | nil=>exact h kV a b c cdv ct
 | cons=>cases d
variable{x0:Str}
theorem Ot(h:∀(kV a b:W3) (c:W9) (cdv ct:W3) (a0:W3),bindArgs (PySem.W.fnOf nm nm (Eb st) (DN st) (Br st) .none kV a b c cdv ct) ⟨[a0],[]⟩=pure [(x0,a0)]):Kc K nm st .none [x0]:=En λkV a b c cdv ct us d=>by
 cases us with
 | nil=>cases d
 | cons b0 t0 =>
  cases t0 with
  | nil=>exact h kV a b c cdv ct b0
  | cons=>cases d
theorem Oq{x1:Str}(h:∀(kV a b:W3) (c:W9) (cdv ct:W3) (a0 a1:W3),bindArgs (PySem.W.fnOf nm nm (Eb st) (DN st) (Br st) .none kV a b c cdv ct) ⟨[a0,a1],[]⟩=pure [(x0,a0),(x1,a1)]):Kc K nm st .none [x0,x1]:=En λkV a b c cdv ct us d=>by
 cases us with
 | nil=>cases d
 | cons b0 t0 =>
  cases t0 with
  | nil=>cases d
  | cons b1 t1 =>
   cases t1 with
   | nil=>exact h kV a b c cdv ct b0 b1
   | cons=>cases d
theorem Oo{x1 x2:Str}(h:∀(kV a c:W3) (d:W9) (cdv ct:W3) (a0 a1 a2:W3),bindArgs (PySem.W.fnOf nm nm (Eb st) (DN st) (Br st) .none kV a c d cdv ct) ⟨[a0,a1,a2],[]⟩=pure [(x0,a0),(x1,a1),(x2,a2)]):Kc K nm st .none [x0,x1,x2]:=En λkV a c d cdv ct us b=>by
 cases us with
 | nil=>cases b
 | cons b0 t0 =>
  cases t0 with
  | nil=>cases b
  | cons b1 t1 =>
   cases t1 with
   | nil=>cases b
   | cons b2 t2 =>
    cases t2 with
    | nil=>exact h kV a c d cdv ct b0 b1 b2
    | cons=>cases b
theorem Om{x1 x2 x3:Str}(h:∀(kV a c:W3) (d:W9) (cdv ct:W3) (a0 a1 a2 a3:W3),bindArgs (PySem.W.fnOf nm nm (Eb st) (DN st) (Br st) .none kV a c d cdv ct) ⟨[a0,a1,a2,a3],[]⟩=pure [(x0,a0),(x1,a1),(x2,a2),(x3,a3)]):Kc K nm st .none [x0,x1,x2,x3]:=En λkV a c d cdv ct us b=>by
 cases us with
 | nil=>cases b
 | cons b0 t0 =>
  cases t0 with
  | nil=>cases b
  | cons b1 t1 =>
   cases t1 with
   | nil=>cases b
   | cons b2 t2 =>
    cases t2 with
    | nil=>cases b
    | cons b3 t3 =>
     cases t3 with
     | nil=>exact h kV a c d cdv ct b0 b1 b2 b3
     | cons=>cases b
theorem Ol{x1 x2 x3 x4:Str}(h:∀(kV a c:W3) (d:W9) (cdv ct:W3) (a0 a1 a2 a3 a4:W3),bindArgs (PySem.W.fnOf nm nm (Eb st) (DN st) (Br st) .none kV a c d cdv ct) ⟨[a0,a1,a2,a3,a4],[]⟩=pure [(x0,a0),(x1,a1),(x2,a2),(x3,a3),(x4,a4)]):Kc K nm st .none [x0,x1,x2,x3,x4]:=En λkV a c d cdv ct us b=>by
 cases us with
 | nil=>cases b
 | cons b0 t0 =>
  cases t0 with
  | nil=>cases b
  | cons b1 t1 =>
   cases t1 with
   | nil=>cases b
   | cons b2 t2 =>
    cases t2 with
    | nil=>cases b
    | cons b3 t3 =>
     cases t3 with
     | nil=>cases b
     | cons b4 t4 =>
      cases t4 with
      | nil=>exact h kV a c d cdv ct b0 b1 b2 b3 b4
      | cons=>cases b
section
variable {P:U8}{w:W1}{K:U0}{mg:U4}{base:Heap}
theorem fS{N P:W0}{sc:Scope}(a:sc.kind=.function:=by exact rfl)(b:sc.isCoroutine=false:=by exact rfl)(c:sc.isGenerator=false:=by exact rfl)(d:N.Nodup:=by decide +kernel)(e:N.take P.length=P:=by exact rfl)(f:∀x∈P,sc.names.lookup x=some .local\/sc.names.lookup x=some .cell:=by decide +kernel)(g:∀y∈sc.names,y.2≠.free:=by decide +kernel):Ay N P sc:=⟨a,b,c,d,e,f,g⟩
theorem Ab.cal{k:Nat}(F:Ab K x st dV){h:Heap}(X:K.In h)(G:Ng h mg)(N:W0)
  (hbody:∀{f:Y3}{cdv:W3}{A:Y0}{outer:List Env}{s:U7},N.Nodup->∀(H:Hp) (vs:List V) (Q:VK) (E:XK),Bd k (A.deeper (envOfC x (Br st) s.heap.objs.size f cdv))->sp vs H Q E ->
   ∃t,Eu (Du G_ P w K mg base N x (Br st) f cdv A outer s H E).nox (DN st) t/\t { nx:=λ_ H'=>Q .non H',rt:=Q} (start N vs) H)(S:Ay N ps (Br st):=by exact fS) (bi:Kc K x st dV ps:=by first | exact Ot λ_ _ _ _ _ _ _=>rfl | exact Oq λ_ _ _ _ _ _ _ _=>rfl | exact Oo λ_ _ _ _ _ _ _ _ _=>rfl | exact Om λ_ _ _ _ _ _ _ _ _ _=>rfl | exact Ol λ_ _ _ _ _ _ _ _ _ _ _=>rfl | exact Ou λ_ _ _ _ _ _=>rfl) (len:∀vs H Q E,sp vs H Q E->vs.length=ps.length:=by intro _ _ _ _ h;repeat first | (obtain⟨rfl,_⟩:=h;rfl) | (obtain⟨⟨rfl,_⟩,_⟩:=h;rfl) | (obtain⟨_,h⟩:=h)):Ao P w K mg base (k+1) x ps sp:=by
 obtain⟨f,m,od,kV,c,l,d,cdv,ct,i,j,b,e,ns⟩:=F.ex;refine⟨f,_,Qs j b S len λA outer s H vs Q E g a=>?_,bi kV c l d cdv ct,e,GZ X G ns⟩;obtain⟨t,h,q⟩:=hbody S.nd H vs Q E g a;exact⟨t,h.nox,q⟩
end
variable{H:Hp}
theorem Cm{P:U8}{w:W1}{N:W0}{sc:Scope}{A:Y0}{outer:List Env}{s:U7}{E:XK}:(Du G_ P w K mg base N x sc f cdv A outer s H E).nox.K=K:=rfl
theorem Aw{p:Y3}(h:H p=none)(o:HO):Same H (upd H p o):=λb u q=>by rw[BK (Le q h)];exact q
theorem gJ(K:U0):PySem.W.kitOne K (.type "int") (.type "int")=some true:=by unfold PySem.W.kitOne;rw[if_pos (by decide)]
theorem gH(K:U0):PySem.W.kitOne K (.type "int") (.type "bool")=some false:=by with_unfolding_all rfl
variable{A B:Prop}
theorem Mf{a b:Int}(h1:a=b->A)(h2:a≠b->B):if decide (V.int a=V.int b)=true then A else B:=by
 by_cases h:a=b
 ·subst h;rw[DK rfl];exact Cq (h1 rfl)
 ·rw[Df λe=>h (V.int.inj e)];exact Ar (h2 h)
theorem K7{a b:Int}(h1:a≠b->A)(h2:a=b->B):if (!decide (V.int a=V.int b))=true then A else B:=by
 by_cases h:a=b
 ·subst h;rw[DK rfl];exact Ar (h2 rfl)
 ·rw[Df λe=>h (V.int.inj e)];exact Cq (h1 h)
theorem CQ{p:Prop}[Decidable p](h1:p->A)(h2:¬ p->B):if decide p=true then A else B:=by
 by_cases h:p
 ·rw[DK h];exact Cq (h1 h)
 ·rw[Df h];exact Ar (h2 h)
theorem T_{c:Bool}(h1:c=true->A)(h2:c=false->B):if c=true then A else B:=by
 cases c
 ·exact Ar (h2 rfl)
 ·exact Cq (h1 rfl)
theorem Gr{c:Bool}(h1:c=false->A)(h2:c=true->B):if (!c)=true then A else B:=by
 cases c
 ·exact Cq (h1 rfl)
 ·exact Ar (h2 rfl)
def Xw (t u:TS):TS:=λD σ H=>∃Good:St->Hp->Prop,t {D with nx:=Good} σ H/\∀σ' H',Good σ' H'->u D σ' H'
theorem Cp{X:Cx}{st:Stmt}{rest:Y2}{t u:TS}(h1:PS X st t)(h2:Eu X rest u):Eu X (st::rest) (Xw t u):=by
 intro pins s σ H D I h;obtain⟨Good,b,d⟩:=h;refine YJ (A_ (h1 pins s σ H {D with nx:=Good} I b) λf s1 q=>?_);cases f with
 | next =>
  obtain⟨a,H',c,q⟩:=q;exact h2 pins s1 a H' D c (d a H' q)
 | ret v=>exact q
 | brk=>exact q
 | cont=>exact q
theorem Ec{H':Hp}{p:Y3}{o:HO}(h:Same H H')(hn:H p=none):Same H (upd H' p o):=λb u q=>by rw[BK (Le q hn)];exact h b u q
end L2
namespace Bt
theorem nD(x y:Nat):(x&&&y)=2*((x / 2)&&&(y / 2))+(x%2)*(y%2):=by
 have h1:(x&&&y) / 2=(x / 2)&&&(y / 2):=Nat.and_div_two;have h2:(x&&&y)%2=1↔x%2=1/\y%2=1:=Nat.and_mod_two_eq_one;rcases JR x with a | a<;>rcases JR y with b | b<;>rw[a,b]at h2 ⊢<;>omega
theorem X5o(x y:Nat):(x ||| y)=2*((x / 2) ||| (y / 2))+(x%2+y%2-(x%2)*(y%2)):=by
 have h1:(x ||| y) / 2=(x / 2) ||| (y / 2):=Nat.or_div_two
 have h2:(x ||| y)%2=1↔x%2=1\/y%2=1:=Nat.or_mod_two_eq_one;rcases JR x with a | a<;>rcases JR y with b | b<;>rw[a,b]at h2 ⊢<;>omega
end Bt
namespace Pc
noncomputable def pc (n:Nat):Nat:=if h:n=0 then 0 else n%2+pc (n / 2)
theorem qM(n:Nat):pc n=if n=0 then 0 else n%2+pc (n / 2):=by
 delta pc;rw[WellFounded.Nat.fix_eq];rfl
theorem Gy:pc 0=0:=by rw[qM];rfl
theorem Mr(n:Nat):pc n=n%2+pc (n / 2):=by
 by_cases h:n=0
 ·subst h;rw[show (0 / 2:Nat)=0 from rfl,Gy]
 ·rw[qM n,if_neg h]
theorem Ld(x y:Nat):(x^^^y)=2*((x / 2)^^^(y / 2))+(x%2+y%2)%2:=by
 have h1:(x^^^y) / 2=(x / 2)^^^(y / 2):=Nat.xor_div_two;have h2:(x^^^y)%2=(x%2+y%2)%2:=by
  have:=Nat.xor_mod_two_eq_one (a:=x) (b:=y);rcases JR x with a | a<;>rcases JR y with b | b<;>rcases JR (x^^^y) with c | c<;>simp[a,b,c]at this ⊢
 omega
theorem nM:∀(m n:Nat),n<m->n≠0->pc (n&&&(n-1))+1=pc n
 | 0,n,h,_=>by omega
 | m+1,n,h,hn=>by
  have e:=Bt.nD n (n-1);rw[Mr n,Mr (n&&&(n-1))];rcases JR n with a | a
  ·have d:(n-1) / 2=n / 2-1:=by omega
   rw[d,a,bA]at e;have c:(n&&&(n-1)) / 2=n / 2&&&(n / 2-1):=by omega
   have b:(n&&&(n-1))%2=0:=by omega
   rw[c,b,a];have:=nM m (n / 2) (by omega) (by omega);omega
  ·have d:(n-1) / 2=n / 2:=by omega
   have f:(n-1)%2=0:=by omega
   rw[d,f,Nat.mul_zero,Nat.and_self]at e;have c:(n&&&(n-1)) / 2=n / 2:=by omega
   have b:(n&&&(n-1))%2=0:=by omega
   rw[c,b,a];omega
theorem rT:∀(m x y:Nat),x<m->y<m->pc (x^^^y)%2=(pc x+pc y)%2
 | 0,x,y,h,_=>by omega
 | m+1,x,y,hx,hy=>by
  by_cases z:x=0/\y=0
  ·obtain⟨rfl,rfl⟩:=z;rw[show (0^^^0:Nat)=0 from rfl,Gy]
  ·have e:=Ld x y;rw[Mr (x^^^y),Mr x,Mr y,show (x^^^y) / 2=x / 2^^^y / 2 by omega];by_cases q:x / 2<m/\y / 2<m
   ·have:=rT m (x / 2) (y / 2) q.1 q.2;omega
   ·exfalso;omega
theorem OJ(x y:Nat):pc (x^^^y)%2=(pc x+pc y)%2:=rT (x+y+1) x y (by omega) (by omega)
theorem Ww:∀(m x y:Nat),x<m->y<m->(x ||| y)=(x^^^y)+(x&&&y)
 | 0,x,y,h,_=>by omega
 | m+1,x,y,hx,hy=>by
  by_cases z:x=0/\y=0
  ·obtain⟨rfl,rfl⟩:=z;rfl
  ·have e:=Ld x y;have c:=Bt.nD x y;have d:=Bt.X5o x y;by_cases q:x / 2<m/\y / 2<m
   ·have:=Ww m (x / 2) (y / 2) q.1 q.2;rcases JR x with a | a<;>rcases JR y with b | b<;>rw[a,b]at e c d<;>omega
   ·exfalso;omega
theorem Qq(x y:Nat):Builtin.bitAnd (x:Int) (y:Int)=((x&&&y:Nat):Int):=by rw[bitAnd_pp (by omega) (by omega)];simp
theorem LQ(x y:Nat):Builtin.bitXor (x:Int) (y:Int)=((x^^^y:Nat):Int):=by
 have h:Builtin.bitXor (x:Int) (y:Int)=Builtin.bitOr x y-Builtin.bitAnd x y:=rfl;have h2:Builtin.bitOr (x:Int) (y:Int)=((x ||| y:Nat):Int):=by
  unfold Builtin.bitOr;rw[bitAnd_nn (by unfold Builtin.bitNot;omega) (by unfold Builtin.bitNot;omega),bL,bL,bL];simp
 rw[h,h2,Qq,Ww (x+y+1) x y (by omega) (by omega)];omega
end Pc
namespace Dv
open Pc
abbrev Cy:=Nat×Nat
noncomputable def add (e f:Cy):Cy:=(e.1^^^f.1,e.2^^^f.2)
def sat (x:Nat)(e:Cy):Prop:=pc (e.1&&&x)%2=e.2
noncomputable def bl (m:Nat):Nat:=if m=0 then 0 else m.log2+1
variable{m n:Nat}
theorem Gd:bl m<=n↔m<2^n:=by
 unfold bl;by_cases h:m=0
 ·subst h;simp[Ei]
 ·rw[if_neg h,<-Pq h];omega
theorem FJ:bl m=0↔m=0:=by
 unfold bl;by_cases h:m=0<;>simp[h]
theorem Wn(m:Nat):m<2^bl m:=Gd.mp (Bf _)
theorem Wk{k:Nat}(h:bl m=k+1):2^k<=m:=by
 rcases Rp m (2^k) with c | c
 ·have:=Gd.mpr c;omega
 ·exact c
theorem oG:∀(k m o:Nat),2^k<=m->m<2^(k+1)->2^k<=o->o<2^(k+1)->(m^^^o)<2^k
 | 0,m,o,a,b,c,d=>by
  obtain rfl:m=1:=by simp at a b;omega
  obtain rfl:o=1:=by simp at c d;omega
  decide
 | k+1,m,o,a,b,c,d=>by
  have g:2^(k+1+1)=2*2^(k+1):=Ib;have f:2^(k+1)=2*2^k:=Ib;have:=oG k (m / 2) (o / 2) (by omega) (by omega) (by omega) (by omega);have e:=Ld m o;omega
theorem xK{o:Nat}(h:bl m=bl o)(h0:m≠0):(m^^^o)<m:=by
 cases e:bl m with
 | zero=>exact absurd (FJ.mp e) h0
 | succ k =>
  have a:=Wn m;have b:=Wn o;rw[<-h,e]at b;rw[e]at a;exact CK (oG k m o (Wk e) a (Wk (h ▸ e)) b) (Wk e)
variable{x:Nat}{e:Cy}
theorem X1u{f:Cy}(he:sat x e)(hf:sat x f)(_:e.2<2)(_:f.2<2):sat x (add e f):=by
 unfold sat add at *;dsimp only;rw[jQ,OJ];have:=Ld e.2 f.2;have z:e.2 / 2=0:=by omega
 have a:f.2 / 2=0:=by omega
 rw[z,a]at this;have q:(0^^^0:Nat)=0:=rfl;omega
theorem X3x(e f:Cy):add (add e f) f=e:=by
 unfold add;simp[HJ]
theorem Ka{a b:Nat}(h1:a<2)(h2:b<2):(a^^^b)<2:=Ih (n:=1) h1 h2
noncomputable def comb:List Cy->Nat->Cy
 | [],_=>(0,0)
 | e::r,c=>if c%2=1 then add e (comb r (c / 2)) else comb r (c / 2)
theorem pU(e f:Cy):add e f=add f e:=by unfold add;rw[Rr e.1,Rr e.2]
theorem Qn(e f g:Cy):add (add e f) g=add e (add f g):=by unfold add;simp[HJ]
theorem oO:∀(es:List Cy) (c d:Nat),comb es (c^^^d)=add (comb es c) (comb es d)
 | [],_,_=>by simp[comb,add]
 | e::r,c,d=>by
  have x:=Ld c d;have h1:(c^^^d) / 2=c / 2^^^d / 2:=by omega
  have h2:(c^^^d)%2=(c%2+d%2)%2:=by omega
  have f:=oO r (c / 2) (d / 2);unfold comb;rw[h1,h2,f];rcases JR c with a | a<;>rcases JR d with b | b<;>rw[a,b]
  ·rfl
  ·simp only[show (0+1)%2=1 from rfl,Gj,show ¬ (0=1) by decide,FW];rw[<-Qn,<-Qn,pU e]
  ·simp only[show (1+0)%2=1 from rfl,Gj,show ¬ (0=1) by decide,FW];rw[Qn]
  ·simp only[show ¬ ((1+1)%2=1) by decide,Gj,FW];rw[pU e (comb r (c / 2)),Qn,<-Qn e e,show add e e=(0,0) by unfold add;simp,show add (0,0) (comb r (d / 2))=comb r (d / 2) by unfold add;simp]
theorem jr:∀es:List Cy,comb es 0=(0,0)
 | []=>rfl
 | e::r=>by unfold comb;simp[jr r]
theorem oM:∀(es:List Cy) (i:Nat) (e:Cy),es[i]?=some e->comb es (2^i)=e
 | [],i,e,h=>by simp at h
 | f::r,0,e,h=>by
  have:f=e:=by simpa using h
  subst this;unfold comb;simp[jr,add]
 | f::r,i+1,e,h=>by
  have q:r[i]?=some e:=by simpa using h
  have a:2^(i+1) / 2=2^i:=by rw[Ib];omega
  have b:2^(i+1)%2=0:=by rw[Ib];omega
  unfold comb;rw[a,b];simpa using oM r i e q
theorem Uh:∀(es:List Cy) (c:Nat),(∀e∈es,e.2<2)->(comb es c).2<2
 | [],_,_=>by unfold comb;decide
 | e::r,c,h=>by
  have a:=Uh r (c / 2) λf b=>h f (Iv _ b);unfold comb;split
  ·exact Ka (h e Iu) a
  ·exact a
theorem X3v{k:Nat}(h1:2^k<=m)(h2:m<2^(k+1)):m&&&2^k=2^k:=by
 have e:m / 2^k=1:=by
  rw[Ib]at h2;have p:=Ei k;rw[Nat.div_eq_iff p];omega
 refine MJ λj=>?_;rw[R5,Vq];by_cases q:k=j
 ·subst q;rw[TF,e];simp
 ·simp[q]
theorem pX{k:Nat}(h:m<2^k):m&&&2^k=0:=by
 refine MJ λj=>?_;rw[R5,Vq,YH];by_cases q:k=j
 ·subst q;rw[Sv h];rfl
 ·simp[q]
theorem XM:∀k:Nat,pc (2^k)=1
 | 0=>by rw[Mr];show 1%2+pc (1 / 2)=1;rw[show (1 / 2:Nat)=0 from rfl,Gy]
 | k+1=>by
  have b:2^(k+1) / 2=2^k:=by rw[Ib];omega
  have a:2^(k+1)%2=0:=by rw[Ib];omega
  rw[Mr,b,a,XM k]
theorem XJ{k:Nat}(h:x<2^k):(x ||| 2^k)=x^^^2^k:=by
 rw[Ww (x+2^k+1) x (2^k) (by omega) (by omega),pX h,Kv]
theorem iD{k:Nat}(h:x<2^k):(x^^^2^k)=x+2^k:=by
 have:=Nat.two_pow_add_eq_or_of_lt h 1;rw[Nat.mul_one]at this;rw[<-XJ h,Nat.or_comm,<-this,Ro]
theorem X1t{k:Nat}(hx:x<2^k)(hk:bl e.1=k+1)(hb:e.2<2)(n:¬ sat x e):sat (x ||| 2^k) e:=by
 have a:=Wn e.1;rw[hk]at a;unfold sat at *;rw[XJ hx,Vy,OJ,X3v (Wk hk) a,XM];omega
theorem wW{k:Nat}(hx:x<2^k)(hk:bl e.1<=k)(h:sat x e):sat (x ||| 2^k) e:=by
 unfold sat at *;rw[XJ hx,Vy,OJ,pX (Gd.mp hk),Gy,Kv];exact h
theorem X7l{k:Nat}(hx:x<2^k):(x ||| 2^k)<2^(k+1):=by
 rw[XJ hx,iD hx,Ib];omega
noncomputable def places (c n:Nat):List Nat:=(List.range n).filter λj=>decide (c / 2^j%2=1)
theorem Mu{c p:Nat}(h:p∈places c n):p<n:=Fb.mp (X_.mp h).1
theorem Uq(c n:Nat):places c (n+1)=places c n++(if c / 2^n%2=1 then [n] else []):=by
 unfold places;rw[YB,SN];by_cases h:c / 2^n%2=1<;>simp[h]
abbrev Ent:=Nat×Nat×Nat
noncomputable def CZ (t:Ent):Cy:=(t.1,t.2.1)
structure Good (es:List Cy) (i:Nat) (ts:List Ent):Prop where
 nz:∀t∈ts,t.1≠0
 com:∀t∈ts,comb es t.2.2=CZ t
 lt:∀t∈ts,t.2.2<2^i
 nd:(ts.map λt=>bl t.1).Nodup
 len:ts.length<=i
 all:∀x,(∀t∈ts,sat x (CZ t))->∀j e,j<i->es[j]?=some e->sat x e
theorem Good.start(es:List Cy):Good es 0 []:=⟨by simp,by simp,by simp,by simp,by simp,λ_ _ j e h=>by omega⟩
structure Left (es:List Cy) (i:Nat) (ts:List Ent) (e:Cy) (t:Ent):Prop where
 com:comb es t.2.2=CZ t
 lt:t.2.2<2^(i+1)
 sat:∀x,(∀t∈ts,sat x (CZ t))->sat x (CZ t)->sat x e
variable{es:List Cy}{i:Nat}{ts:List Ent}
theorem Left.start(h:es[i]?=some e):Left es i ts e (e.1,e.2,2^i):=
 ⟨oM es i e h,Jt (by decide) (QD _),λ_ _ z=>z⟩
theorem oR(s t:Ent):CZ (s.1^^^t.1,s.2.1^^^t.2.1,s.2.2^^^t.2.2)=add (CZ s) (CZ t):=rfl
variable{t:Ent}
theorem Left.step{s:Ent}(hb:∀e∈es,e.2<2)(G:Good es i ts)(L:Left es i ts e s)(ht:t∈ts):Left es i ts e (s.1^^^t.1,s.2.1^^^t.2.1,s.2.2^^^t.2.2):=by
 refine⟨?_,?_,λx a z=>L.sat x a ?_⟩
 ·rw[oR];show comb es (s.2.2^^^t.2.2)=_;rw[oO,L.com,G.com t ht]
 ·exact Ih L.lt (Jr (G.lt t ht) (Jt (by decide) (QD _)))
 ·rw[oR]at z;have c:(CZ s).2<2:=by rw[<-L.com];exact Uh es _ hb
  have b:(CZ t).2<2:=by rw[<-G.com t ht];exact Uh es _ hb
  have q:=X1u z (a t ht) (Ka c b) b;rw[X3x]at q;exact q
theorem Left.bit(hb:∀e∈es,e.2<2)(L:Left es i ts e t):t.2.1<2:=by
 have:(CZ t).2<2:=by rw[<-L.com];exact Uh es _ hb
 exact this
theorem lR(i:Nat):2^i<2^(i+1):=Jt (by decide) (QD _)
theorem Good.put(G:Good es i ts)(he:es[i]?=some e)(L:Left es i ts e t)(h0:t.1≠0)(hn:∀s∈ts,bl s.1≠bl t.1):Good es (i+1) (ts++[t]) where
 nz:=λs c=>by
  rcases E_.mp c with q | q
  ·exact G.nz s q
  ·rw[Dg.mp q];exact h0
 com:=λs c=>by
  rcases E_.mp c with q | q
  ·exact G.com s q
  ·rw[Dg.mp q];exact L.com
 lt:=λs c=>by
  rcases E_.mp c with q | q
  ·exact Jr (G.lt s q) (lR i)
  ·rw[Dg.mp q];exact L.lt
 nd:=by
  rw[CJ,List.nodup_append];refine⟨G.nd,by simp,λa h b k=>?_⟩;obtain⟨s,c,rfl⟩:=DY.mp h;obtain rfl:b=bl t.1:=by simpa using k
  exact hn s c
 len:=by rw[DQ];have:=G.len;simp;omega
 all:=λx g j f l d=>by
  have h1:∀s∈ts,sat x (CZ s):=λs c=>g s (JQ _ c);by_cases hji:j<i
  ·exact G.all x h1 j f hji d
  ·obtain rfl:j=i:=by omega
   rw[he]at d;cases d;exact L.sat x h1 (g t (by simp))
theorem Good.skip(G:Good es i ts)(he:es[i]?=some e)(L:Left es i ts e t)(h0:t.1=0)(hb:t.2.1=0):Good es (i+1) ts where
 nz:=G.nz
 com:=G.com
 lt:=λs c=>Jr (G.lt s c) (lR i)
 nd:=G.nd
 len:=Nat.le_succ_of_le G.len
 all:=λx b j f d a=>by
  by_cases hji:j<i
  ·exact G.all x b j f hji a
  ·obtain rfl:j=i:=by omega
   rw[he]at a;cases a;refine L.sat x b ?_;unfold sat CZ;rw[h0,hb,au,Gy]
theorem ju{f:Ent->Nat}:∀{ts:List Ent},(ts.map f).Nodup->∀{s t},s∈ts->t∈ts->f s=f t->s=t
 | [],_,s,t,hs,_,_=>by cases hs
 | a::r,nd,s,t,hs,ht,e=>by
  rw[Er,R3]at nd;rcases Cz.mp hs with h1 | h1<;>rcases Cz.mp ht with h2 | h2
  ·rw[h1,h2]
  ·exact absurd (DY.mpr ⟨t,h2,by rw[<-e,h1]⟩) nd.1
  ·exact absurd (DY.mpr ⟨s,h1,by rw[e,h2]⟩) nd.1
  ·exact ju nd.2 h1 h2 e
variable{ks:U6}
theorem X3e(nd:(ts.map λt=>bl t.1).Nodup)(p:ks.Perm (ts.map λt=>(bl t.1:Int)))(o:ks.Pairwise (·<=·)):ks.Pairwise (·<·):=by
 have c:(ts.map λt=>(bl t.1:Int)).Nodup:=by
  rw[List.Nodup,Nv]at nd ⊢;exact nd.imp λh z=>h (Int.ofNat.inj z)
 have d:ks.Nodup:=p.nodup_iff.mpr c;exact(o.and d).imp λ⟨a,b⟩=>by omega
structure Kg (ts:List Ent) (ks:U6) (j x:Nat):Prop where
 done:∀t∈ts,∀i,i<j->ks[i]?=some (bl t.1:Int)->sat x (CZ t)
 low:∀h,ks[j]?=some h->x<2^(h.toNat-1)
theorem Kg.start(ts:List Ent)(ks:U6):Kg ts ks 0 0:=⟨λ_ _ i h=>by omega,λh _=>Ei _⟩
theorem rise(o:ks.Pairwise (·<·)){j:Nat}{a b:Int}(h:i<j)(ha:ks[i]?=some a)(hb:ks[j]?=some b):a<b:=by
 obtain⟨h1,rfl⟩:=Cv.mp ha;obtain⟨h2,rfl⟩:=Cv.mp hb;exact K5.mp o i j h1 h2 h
theorem Kg.step{j:Nat}(S:Kg ts ks j x)(nd:(ts.map λt=>bl t.1).Nodup)(o:ks.Pairwise (·<·))(ht:t∈ts)(nz:t.1≠0)(hb:t.2.1<2)(hj:ks[j]?=some (bl t.1:Int)):
  (sat x (CZ t)->Kg ts ks (j+1) x)/\(¬ sat x (CZ t)->Kg ts ks (j+1) (x ||| 2^(bl t.1-1))):=by
 have d:bl t.1≠0:=λz=>nz (FJ.mp z);obtain⟨k,c⟩:∃k,bl t.1=k+1:=⟨bl t.1-1,by omega⟩;have b:=S.low _ hj;rw[Ej,c,YQ]at b;have same:∀s∈ts,ks[j]?=some (bl s.1:Int)->s=t:=λs a e=>ju nd a ht (by rw[e]at hj;exact Int.ofNat.inj (Option.some.inj hj));have next:∀h,ks[j+1]?=some h->k+1<=h.toNat-1:=λh e=>by
  have:=rise o (QD j) hj e;omega
 rw[c,YQ];constructor
 ·intro z;refine⟨λs a i hi e=>?_,λh e=>?_⟩
  ·by_cases q:i<j
   ·exact S.done s a i q e
   ·obtain rfl:i=j:=by omega
    rw[same s a e];exact z
  ·exact CK b (Gn (by decide) (Eh (Nk k) (next h e)))
 ·intro z;refine⟨λs a i hi e=>?_,λh e=>?_⟩
  ·by_cases q:i<j
   ·have:=rise o q e hj;exact wW b (by show bl s.1<=k;omega) (S.done s a i q e)
   ·obtain rfl:i=j:=by omega
    rw[same s a e];exact X1t b c hb z
  ·exact CK (X7l b) (Gn (by decide) (next h e))
theorem Kg.all(S:Kg ts ks ks.length x)(p:ks.Perm (ts.map λt=>(bl t.1:Int))):∀t∈ts,sat x (CZ t):=λt a=>by
 have m:(bl t.1:Int)∈ks:=p.mem_iff.mpr (DY.mpr ⟨t,a,Z⟩);obtain⟨i,hi,e⟩:=Sh.mp m;exact S.done t a i hi (by rw[Bm hi,e])
end Dv
namespace Zo
open PySem.Sem (wp)
section
variable {prog:U8}{w:W1}{A:Y0}{E:U2}{hp:Heap}{g:Array GenState}{d:Drawn}{tk:Nat}{os:OsState}
end
end Zo
namespace Zn
open PySem.Sem (wp)
section
variable {prog:U8}{w:W1}{A:Y0}{E:U2}{hp:Heap}{g:Array GenState}{d:Drawn}{tk:Nat}{os:OsState}{it l:Y3}{i n:Nat}{its:U9}{oi ol:Obj}{R:PySem.Fin->Shared->Prop}
end
end Zn
namespace Zp
open Zo
open PySem.Sem (wp)
section
variable {prog:U8}{w:W1}{A:Y0}
variable {E:U2}
end
section
variable {prog:U8}{w:W1}{A:Y0}{E:U2}{s:U7}
end
end Zp
namespace L2
section
variable {X:Cx}{pins:U1}{σ:St}{H:Hp}{s:U7}{h':Heap}
theorem Inv.turnedL{t':Nat}{ch:U3}(I:Inv X pins σ H s)(k:∀b o,b∉ch->s.heap.get? b=some o->h'.get? b=some o)(hf:∀b∈ch,DX X pins H b):Inv X pins σ H {s with heap:=h',toks:=t'}:=by
 have d:∀b u,H b=some u->b∉ch:=λb u e z=>by rw[(hf b z).1]at e;cases e
 refine I.step (g':=s.gens) (d':=s.drawn) (ch:=ch) (λb f=>⟨(hf b f).2.2.2.1,(hf b f).2.1,(hf b f).2.2.2.2.1,(hf b f).2.2.2.2.2⟩) (λb o _ _ a e _=>k b o a e) (λb o _ _ a e _=>⟨o.slots,k b o a e⟩) (λ_ _ _ _ n=>n)
  (λb o a e=>⟨o,k b o a e⟩) (λ_ _ e=>e) (λ_ _ _ e=>e) (λb ps e=>⟨#[],by rw[e];simp⟩) (λm g=>?_) (λb u e=>?_) I.bare
 ·obtain⟨o,es,ep,h,r⟩:=g;exact⟨o,es,ep,k _ o (λz=>(hf _ z).2.1 rfl) h,r⟩
 ·refine(I.hok b u e).stay (λc v a q=>k c v ?_ q) (λ_ q=>q) λ_ _ q=>q;rcases a with z | z
  ·rw[z];exact d b u e
  ·exact d c _ z
theorem Inv.turnedT{t':Nat}{ch:U3}{T:Y3}{xs:List V}{its:U5}(I:Inv X pins σ H s)(k:∀b o,b∉ch->s.heap.get? b=some o->h'.get? b=some o)(hf:∀b∈ch,DX X pins H b)(hT:s.heap.objs.size<=T)(hv:Vals xs its)(hz:xs.length<=sizeLine)(ht:IsTup h' T its.toArray):
  Inv X pins σ (upd H T (.tup xs)) {s with heap:=h',toks:=t'}:=by
 have g:∀b u,H b=some u->b∉ch:=λb u e z=>by rw[(hf b z).1]at e;cases e
 have h:H T=none:=I.hok.fresh hT;have i:∀b o,s.heap.get? b=some o->b≠T:=λb o e=>B_ (CK (BP e) hT);have a:∀b u,H b=some u->b≠T:=λb u e z=>by rw[z,h]at e;cases e
 refine I.step (g':=s.gens) (d':=s.drawn) (ch:=ch) (λb f=>⟨(hf b f).2.2.2.1,(hf b f).2.1,(hf b f).2.2.2.2.1,(hf b f).2.2.2.2.2⟩) (λb o _ _ d e _=>k b o d e) (λb o _ _ d e _=>⟨o.slots,k b o d e⟩)
  (λb o _ e n=>by rw[BK (i b o e)];exact n)
  (λb o d e=>⟨o,k b o d e⟩) (λb ys e=>by rw[BK (a b _ e)];exact e) (λb o u e=>by rw[BK (a b _ e)];exact e) (λb ps e=>⟨#[],by rw[BK (a b _ e),e];simp⟩) (λm j=>?_) (λb u e=>?_) I.bare
 ·obtain⟨o,es,ep,l,r⟩:=j;exact⟨o,es,ep,k _ o (λz=>(hf _ z).2.1 rfl) l,r⟩
 ·by_cases f:b=T
  ·subst f;rw[Aj]at e;cases e;exact⟨hz,its,hv,ht⟩
  ·rw[BK f]at e;refine(I.hok b u e).stay (λc v d q=>k c v ?_ q) (λc q=>by rw[BK (a c _ q)];exact q) λc ys q=>by rw[BK (a c _ q)];exact q
   rcases d with z | z
   ·rw[z];exact g b u e
   ·exact g c _ z
end
section
variable {X:Cx}{es:List Expr}{kk:Nat}{tp:Pos}
end
end L2
namespace L2
section
variable {X:Cx}
def JH (i j:Int):Prop:=∃a,Sz a i/\0<=j/\(a:Int)+j<=1048576
theorem Ge:Cu X (binaryOp .LShift) (rI JH λi j=>.int (i*2^j.toNat)):=Oc λi j _ _ _ _ _ b q=>by
 obtain⟨a,h1,h2,c⟩:=b;have:=h1.bits;exact lshift_int h2 (by omega) q
theorem Um:Qt X "int.bit_length" (λx xs H Q=>∃i,x=.int i/\xs=[]/\Q (.int (Builtin.Int.intBits i:Nat)) H):=by
 intro pins s σ H x xs v us Q I b a h;obtain⟨i,rfl,rfl,q⟩:=h;obtain⟨t,rfl⟩:=b;cases a;refine call_gives QT (V1 s i t) PySem.F.entry_int_bit_length (PySem.F.args_int_bit_length_1 _) (PySem.AutoIntG2.int_bit_length_int_0 i t) ?_;exact⟨.int (Builtin.Int.intBits i:Nat),H,I.tok _,⟨_,Z⟩,q⟩
theorem Wb(hc:X.calm=true):Bu X (.builtin "any") (λxs H Q=>∃(p:Y3) (bs:List Bool),xs=[.ref p]/\Ag X.K H p (bs.map V.bl)/\Q (.bl (bs.any id)) H):=by
 intro pins s σ H xs us Q I r h;obtain⟨p,bs,rfl,t,q⟩:=h;obtain⟨u,rfl,j⟩:=r.one;cases j;obtain⟨its,m,g,hz⟩:=I.list t;have a:its.length=bs.length:=by rw[<-m.length,Ax]
 refine call_any_walk (YL g.isList ?_)
 have W:=Walks.list (prog:=X.prog) (w:=X.w) (A:=X.A.in1) (show X.A.in1.handled=none from I.ok.hd hc) s.heap.objs.size p (by
  obtain⟨o,e,_⟩:=g.isList
  exact B_ (BP e)) its.toArray
 refine⟨s.heap.objs.size,_,_,_,_,_,λi=>bs.getD i false,Z,W,⟨⟨_,Ek _ rfl,Z,Z⟩,g.isList.push _⟩,?_,λh' tk y=>?_⟩
 ·intro i v s' C B z x;have d:its[i]?=some v:=by simpa using z
  have hi:i<bs.length:=by rw[<-a];exact(Cv.mp d).1
  have c:(bs.map V.bl)[i]?=some (.bl (bs.getD i false)):=by
   rw[Bo,Bm hi,Bb,Bm hi];rfl
  obtain⟨u,n,j⟩:=m.get c;rw[d]at n;cases n;cases j;exact K4 x
 ·have e:(List.range its.toArray.size).any (λi=>bs.getD i false)=bs.any id:=by
   rw[Ci,a];rw[Px,R7,R7];constructor
   ·rintro ⟨i,hi,c⟩;have f:i<bs.length:=Fb.mp hi;rw[Bb,Bm f]at c;exact⟨bs[i],G5 f,c⟩
   ·rintro ⟨b,c,k⟩;obtain⟨i,hi,rfl⟩:=Sh.mp c;refine⟨i,Fb.mpr hi,?_⟩;rw[Bb,Bm hi];exact k
  rw[e];refine⟨.bl (bs.any id),H,?_,Z,q⟩;exact I.kept (t':=tk) λb o l=>y b o (by simp;exact B_ (BP l)) (CG _ l)
def Lw (K:U0)(neg:Bool):R2:=λx y H Q=>∃(a b:Y3) (ns ms:U6),x=.ref a/\y=.ref b/\Ag K H a (ns.map V.int)/\Ag K H b (ms.map V.int)/\Q (.bl (if neg then !decide (ns=ms) else decide (ns=ms))) H
theorem X2k(hu:X.A.units+64<cLine):Cu X (compareOp .NotEq) (Lw X.K true):=by
 intro pins s σ H x y v u Q I f d h;obtain⟨a,b,ns,ms,rfl,rfl,h1,h2,q⟩:=h;cases f;cases d;obtain⟨its,e,p,_⟩:=I.list h1;obtain⟨its',c,g,_⟩:=I.list h2;exact PySem.W.ne_intsK p.isList (JC e) g.isList (JC c) hu ⟨.bl (!decide (ns=ms)),H,I,Z,q⟩
end
section
variable {κ:Type} [DecidableEq κ]
noncomputable def Bl (kvs:List (κ×V))(k:κ):Option V:=(kvs.find? λkv=>decide (kv.1=k)).map (·.2)
noncomputable def putK (kvs:List (κ×V))(k:κ)(v:V):List (κ×V):=
 if (kvs.any λkv=>decide (kv.1=k))=true then kvs.map (λkv=>if kv.1=k then (kv.1,v) else kv) else kvs++[(k,v)]
theorem xH{k:κ}:Bl ([]:List (κ×V)) k=none:=rfl
variable{p:κ×V}{r:List (κ×V)}
theorem Ql{k:κ}(e:p.1=k):Bl (p::r) k=some p.2:=by simp[Bl,Nq,e]
theorem Qk{k:κ}(e:¬ p.1=k):Bl (p::r) k=Bl r k:=by simp[Bl,Nq,e]
theorem fG(k:κ):∀kvs:List (κ×V),(kvs.any λa=>decide (a.1=k))=(Bl kvs k).isSome
 | []=>rfl
 | p::r=>by
  rw[bI];by_cases e:p.1=k
  ·simp only[Ql e,DK e,Bool.true_or,Option.isSome_some]
  ·rw[Qk e,Df e,Bool.false_or];exact fG k r
theorem gB(kvs:List (κ×V))(k:κ)(v:V):(putK kvs k v).length<=kvs.length+1:=by
 unfold putK;split
 ·rw[Ax];omega
 ·rw[DQ,Hv,Ky];omega
variable{kvs:List (κ×V)}
theorem eZ{k:κ}(v:V)(h:Bl kvs k=none):putK kvs k v=kvs++[(k,v)]:=by
 unfold putK;rw[fG,h];exact if_neg (by decide)
theorem Eo.isSome_eq{o:Option V}{u:Option Value}(r:Eo o u):o.isSome=u.isSome:=by
 cases o with
 | none=>cases u with
  | none=>rfl
  | some _=>exact(show False from r).elim
 | some _=>cases u with
  | none=>exact(show False from r).elim
  | some _=>rfl
variable{vs:List (κ×Value)}
theorem KV.val(r:KV kvs vs)(k:κ):Eo (Bl kvs k) (valueAt vs k):=by
 unfold KV at r;induction r with
 | nil=>exact True.intro
 | @cons p q ps qs h t ih =>
  obtain⟨h1,h2⟩:=h;by_cases e:p.1=k
  ·have a:q.1=k:=h1.symm.trans e;have b:valueAt (q::qs) k=some q.2:=by simp[valueAt,Nq,a]
   rw[Ql e,b];exact h2
  ·have a:¬ q.1=k:=λz=>e (h1.trans z);have b:valueAt (q::qs) k=valueAt qs k:=by simp[valueAt,Nq,a]
   rw[Qk e,b];exact ih
theorem KV.any(r:KV kvs vs)(k:κ):(kvs.any λa=>decide (a.1=k))=vs.any λa=>decide (a.1=k):=by
 unfold KV at r;induction r with
 | nil=>rfl
 | cons h t ih=>rw[bI,bI,ih,h.1]
theorem KV.repl(r:KV kvs vs)(k:κ){y:V}{u:W3}(ry:RelV y u):
  KV (kvs.map λa=>if a.1=k then (a.1,y) else a) (vs.map λa=>if a.1=k then (a.1,u) else a):=by
 unfold KV at r ⊢;induction r with
 | nil=>exact .nil
 | @cons p q ps qs h t ih =>
  rw[Er,Er];refine .cons ?_ ih;obtain⟨h1,h2⟩:=h;by_cases e:p.1=k
  ·rw[if_pos e,if_pos (h1.symm.trans e)];exact⟨h1,ry⟩
  ·rw[if_neg e,if_neg (λz=>e (h1.trans z))];exact⟨h1,h2⟩
theorem KV.put(r:KV kvs vs)(k:κ){y:V}{u:W3}(ry:RelV y u):KV (putK kvs k y) (stored vs k u):=by
 unfold putK stored;rw[r.any k];by_cases e:(vs.any λa=>decide (a.1=k))=true
 ·rw[if_pos e,if_pos e];exact r.repl k ry
 ·rw[if_neg e,if_neg e];exact Paired.snoc r ⟨Z,ry⟩
theorem KV.keys(r:KV kvs vs):kvs.map (·.1)=vs.map (·.1):=by
 unfold KV at r;induction r with
 | nil=>rfl
 | cons h t ih=>rw[Er,Er,ih,h.1]
theorem KV.length(r:KV kvs vs):kvs.length=vs.length:=Paired.length r
end
variable{P:U8}{w:W1}{u:W3}
theorem Wt{k:Key}(r:RelV (kV k) u):(Hq P w).is k u=true:=by
 cases k with
 | inl i=>obtain⟨t,e⟩:=(show ∃t,u=Value.int i t from r);subst e;exact zX P w i t
 | inr x=>obtain⟨t,e⟩:=(show ∃t,u=Value.str x t from r);subst e;exact zY P w x t
theorem jy{P:U8}{w:W1}:∀{ks:List Key}{us:U5},Vals (ks.map kV) us->ItemsAre (Hq P w) ks us
 | [],_,r=>by rw[Zh]at r;cases r;exact .nil
 | k::ks,_,r=>by
  rw[Er]at r;cases r with
  | cons h t=>exact .cons (Wt h) (jy t)
abbrev KT (H:Hp):List (List Key×V)->List (List Key×Addr×Value)->Prop:=Paired λp q=>p.1=q.1/\H q.2.1=some (.tup (p.1.map kV))/\RelV p.2 q.2.2
variable{H:Hp}{kvs:List (List Key×V)}
theorem KT.val{xs:List (List Key×Addr×Value)}(r:KT H kvs xs)(k:List Key):Eo (Bl kvs k) ((atKey xs k).map (·.2)):=by
 induction r with
 | nil=>exact True.intro
 | @cons p q ps qs h t ih =>
  obtain⟨h1,_,h2⟩:=h;by_cases e:p.1=k
  ·have a:q.1=k:=h1.symm.trans e;have b:atKey (q::qs) k=some q.2:=by simp[atKey,Nq,a]
   rw[Ql e,b];exact h2
  ·have a:¬ q.1=k:=λz=>e (h1.trans z);have b:atKey (q::qs) k=atKey qs k:=by simp[atKey,Nq,a]
   rw[Qk e,b];exact ih
variable{y:V}
theorem KT.repl{xs:List (List Key×Addr×Value)}(r:KT H kvs xs)(k:List Key)(ry:RelV y u):
  KT H (kvs.map λa=>if a.1=k then (a.1,y) else a) (xs.map (putAt k u)):=by
 induction r with
 | nil=>exact .nil
 | @cons p q ps qs h t ih =>
  rw[Er,Er];refine .cons ?_ ih;obtain⟨h1,h2,b⟩:=h;unfold putAt;by_cases e:p.1=k
  ·rw[if_pos e,if_pos (h1.symm.trans e)];exact⟨h1,h2,ry⟩
  ·rw[if_neg e,if_neg (λz=>e (h1.trans z))];exact⟨h1,h2,b⟩
theorem KT.put{xs:List (List Key×Addr×Value)}(r:KT H kvs xs)(k:List Key){b:Y3}(hb:H b=some (.tup (k.map kV)))(ry:RelV y u):
  KT H (putK kvs k y) (storedH xs k b u):=by
 have e:(kvs.any λa=>decide (a.1=k))=(atKey xs k).isSome:=by
  rw[fG,(r.val k).isSome_eq,Option.isSome_map]
 unfold putK storedH;rw[e];by_cases q:(atKey xs k).isSome=true
 ·rw[if_pos q,if_pos q];exact r.repl k ry
 ·rw[if_neg q,if_neg q];exact Paired.snoc r ⟨Z,hb,ry⟩
variable{H':Hp}
theorem KT.keeps{xs:List (List Key×Addr×Value)}(r:KT H kvs xs)(ht:∀b ys,H b=some (.tup ys)->H' b=some (.tup ys)):KT H' kvs xs :=
 Paired.mapP r λ_ _ z=>⟨z.1,ht _ _ z.2.1,z.2.2⟩
section
variable {P:U8}{w:W1}{H:Hp}{h:Heap}{a:Y3}
theorem qO{u:HO}(ok:Ds P w H h)(e:Rd H a u):Ai P w H h a u:=e.ok ok
variable{kvs:List (Key×V)}
theorem Us(ok:Ds P w H h)(e:Rd H a (.dK kvs)):kvs.length<=sizeLine/\(a == sysModules)=false/\∃vs,KV kvs vs/\h.DictOf (Hq P w) a vs :=
 show Ai P w H h a (.dK kvs) from qO ok e
theorem qD(ok:Ds P w H h)(e:H a=some (.dK kvs)):kvs.length<=sizeLine/\(a == sysModules)=false/\∃vs,KV kvs vs/\h.DictOf (Hq P w) a vs:=Us ok (.inl e)
theorem UG{ks:List Key}(ok:Ds P w H h)(e:H a=some (.tup (ks.map kV))):(tupleKind (Hq P w)).is h ks a:=by
 obtain⟨_,its,r,o,h1,h2,n,b⟩:=(show Ai P w H h a (.tup (ks.map kV)) from ok a _ e);exact⟨o,its.toArray,n,h1,h2,b,by simpa using jy r⟩
variable{kvs:List (List Key×V)}
theorem Ut(ok:Ds P w H h)(e:Rd H a (.dT kvs)):kvs.length<=sizeLine/\(a == sysModules)=false /\
  ∃xs,KT H kvs xs/\h.DictOfH (tupleKind (Hq P w)) a xs:=by
 obtain⟨z,y,xs,r,o,es,ep,h1,h2,d,f,c⟩:=(show Ai P w H h a (.dT kvs) from qO ok e);refine⟨z,y,xs,r,o,es,ep,h1,h2,d,f,λx b=>?_,c⟩;have all:∀{l:List (List Key×V)}{m:List (List Key×Addr×Value)},KT H l m->∀x∈m,(tupleKind (Hq P w)).is h x.1 x.2.1:=by
  intro l m q;induction q with
  | nil=>intro x b;exact nomatch b
  | @cons p q ps qs hq t ih =>
   intro x b;rcases Cz.mp b with e | b
   ·subst e;exact UG ok (by rw[<-hq.1];exact hq.2.1)
   ·exact ih x b
 exact all r x b
theorem Ws(ok:Ds P w H h)(e:H a=some (.dT kvs)):kvs.length<=sizeLine/\(a == sysModules)=false /\
  ∃xs,KT H kvs xs/\h.DictOfH (tupleKind (Hq P w)) a xs:=Ut ok (.inl e)
end
def GP (H:Hp)(a:Y3)(y:V)(r:Option V):Prop :=
 (∃kvs k,Rd H a (.dK kvs)/\y=kV k/\r=Bl kvs k)\/∃kvs k b,Rd H a (.dT kvs)/\y=.ref b/\H b=some (.tup (k.map kV))/\r=Bl kvs k
def J_ (H:Hp)(a:Y3)(y v:V)(H':Hp):Prop :=
 (∃kvs k,H a=some (.dK kvs)/\y=kV k/\kvs.length<sizeLine/\H'=upd H a (.dK (putK kvs k v))) \/
 ∃kvs k b,H a=some (.dT kvs)/\y=.ref b/\H b=some (.tup (k.map kV))/\kvs.length<sizeLine/\H'=upd H a (.dT (putK kvs k v))
variable{a:Y3}{kvs:List (Key×V)}
theorem GP.k{k:Key}(e:H a=some (.dK kvs)):GP H a (kV k) (Bl kvs k):=.inl ⟨kvs,k,.inl e,Z,Z⟩
theorem J_.k{k:Key}{v:V}(e:H a=some (.dK kvs))(hl:kvs.length<sizeLine):J_ H a (kV k) v (upd H a (.dK (putK kvs k v))):=.inl ⟨kvs,k,e,Z,hl,Z⟩
section
variable {X:Cx}{pins:U1}{σ:St}{H:Hp}{s:U7}{a:Y3}{y v:V}{u r:W3}{o:Option V}{A:Y0}{E:U2}
theorem Inv.big(I:Inv X pins σ H s):sysModules<s.heap.objs.size:=by
 have h:mainGlobals<s.heap.objs.size:=(I.mod.glob.keeps I.bk).lt;exact Jr (by decide) h
theorem xP{Q:U2}(hu:A.units+1<cLine)(I:Inv X pins σ H s)(g:GP H a y (some v))(ry:RelV y u)(h:∀f s',Inv X pins σ H s'->RelV v f->Q f s'):
  wpAny (model X.prog X.w) A (getItem (.ref a) u) Q E s:=by
 rcases g with ⟨kvs,k,e,ey,l⟩ | ⟨kvs,k,b,e,ey,eb,l⟩
 ·subst ey;obtain⟨z,m,vs,c,dd⟩:=Us I.hok e;obtain⟨f,j,d⟩:=Eo.some_of (v:=v) (o:=valueAt vs k) (by rw[l];exact c.val k);exact wpAny_getItem_of (Wt ry) dd.mapOf j (h f _ (I.tok _) d)
 ·subst ey;cases (show u=Value.ref b from ry);obtain⟨z,m,xs,c,dd⟩:=Ut I.hok e;obtain⟨f,j,d⟩:=Eo.some_of (v:=v) (o:=(atKey xs k).map (·.2)) (by rw[l];exact c.val k);obtain⟨p,hp,i⟩:=D_.mp j;refine wpAny_getItem_heap (Vp hu) (UG I.hok eb) dd hp ?_;rw[i];exact h f _ (I.tok _) d
theorem b_{Q:U2}(hu:A.units+1<cLine)(I:Inv X pins σ H s)(g:GP H a y o)(ry:RelV y u)(h:∀s',Inv X pins σ H s'->Q (.bool o.isSome) s'):
  wpAny (model X.prog X.w) A (compareOp .In u (.ref a)) Q E s:=by
 rcases g with ⟨kvs,k,e,ey,l⟩ | ⟨kvs,k,b,e,ey,eb,l⟩
 ·subst ey;obtain⟨z,d,vs,c,dd⟩:=Us I.hok e;refine wpAny_in_of (Wt ry) d dd.mapOf ?_;rw[<-(c.val k).isSome_eq,<-l];exact h _ (I.tok _)
 ·subst ey;cases (show u=Value.ref b from ry);obtain⟨z,d,xs,c,dd⟩:=Ut I.hok e;refine wpAny_in_heap (Vp hu) (UG I.hok eb) d dd ?_;have q:=(c.val k).isSome_eq;rw[Option.isSome_map]at q;rw[<-q,<-l];exact h _ (I.tok _)
theorem gY{h':Heap}{t':Nat}{ob:HO}(I:Inv X pins σ H s)(mu:VD (H a))(hs:Heap.SameBut a s.heap h')(he:∃q,h'.get? a=some q)(new:Ai X.prog X.w (upd H a ob) h' a ob):
  Inv X pins σ (upd H a ob) {s with heap:=h',toks:=t'} :=
 I.write (x:=a) (e:=a) mu (.inl rfl) (λb q c z=>(hs.2 b c).trans z) he new
theorem X6v{h':Heap}{vs:List (Key×Value)}(z:kvs.length<=sizeLine)(hd:(a == sysModules)=false)(rel:KV kvs vs)(dd:h'.DictOf (Hq P w) a vs):
  Ai P w H' h' a (.dK kvs):=⟨z,hd,vs,rel,dd⟩
theorem xQ{Q:Unit->Shared->Prop}(hu:A.units+1<cLine)(I:Inv X pins σ H s)(g:J_ H a y v H')(ry:RelV y u)(rv:RelV v r)(h:∀s',Inv X pins σ H' s'->Q () s'):
  wpAny (model X.prog X.w) A (setItem (.ref a) u r) Q E s:=by
 rcases g with ⟨kvs,k,e,ey,l,eH⟩ | ⟨kvs,k,b,e,ey,eb,l,eH⟩
 ·subst ey eH;obtain⟨z,m,vs,d,dd⟩:=qD I.hok e;have hz:vs.length<=sizeLine:=by rw[<-d.length];exact z
  have n:(putK kvs k v).length<=sizeLine:=by have:=gB kvs k v;omega
  refine wpAny_setItem_pairs (hsz:=hz) (Wt ry) dd λh' f j=>h _ ?_;have B:∃q,h'.get? a=some q:=let ⟨q,_,_,i,_⟩:=f;⟨q,i⟩;exact gY I (by rw[e];exact True.intro) j B (X6v n m (d.put k rv) f)
 ·subst ey eH;cases (show u=Value.ref b from ry);obtain⟨z,m,xs,d,dd⟩:=Ws I.hok e;have hz:xs.length<=sizeLine:=by rw[<-Paired.length d];exact z
  have n:(putK kvs k v).length<=sizeLine:=by have:=gB kvs k v;omega
  refine wpAny_setItem_heap (hsz:=hz) (Vp hu) (UG I.hok eb) dd λh' f j=>h _ ?_;obtain⟨q,es,ep,i,h2,t,x,_,p⟩:=f;refine gY I (by rw[e];exact True.intro) j ⟨q,i⟩ ⟨n,m,_,(d.put k eb rv).keeps λc ys o=>?_,q,es,ep,i,h2,t,x,p⟩;rw[BK (LC o e (λz=>nomatch z))];exact o
end
section
variable {X:Cx}{pins:U1}{σ:St}{H:Hp}{s:U7}{a:Y3}{kvs:List (Key×V)}{k:Key}{u:W3}{A:Y0}{E:U2}
end
def U_ (i:Expr):Prop:=∀ov iv,subscripted i false ov iv=operate [ov,iv] (getItem ov iv)
variable{s:U7}
theorem X1p{prog:U8}{A:Y0}{E:U2}{env:Env}{value slice:Expr}{pos:Pos}{T id:String}{Q:U2}
  (hl:typeLookup (.type T) "__getitem__"=pure (some (.builtin id))) (hs:U_ slice)
  (h:wpAny (model prog w) A (eval value env) (λo c=>wpAny (model prog w) A (eval slice env) (λi s₂=>s₂.TypeIs o T/\wpAny (model prog w) A (getItem o i) Q E s₂) E c) E s):
  wpAny (model prog w) A (eval (.Subscript value slice pos) env) Q E s:=by
 refine Subscript_ (Dp h (λo c g=>Dp g (λi s₂ b=>?_) λ_ _ x=>x) λ_ _ x=>x);obtain⟨e,b⟩:=b;unfold subscriptTail;refine Af ?_;rw[getitemInPython_of_ne e.not_modules];refine Af (wpAny_specialOf e hl ?_);have a:wpAny (model prog w) A (subscripted slice false o i) (λr d=>wpAny (model prog w) A (letTemporaryGo value o r >>= λ_=>pure r) Q E d) E s₂:=by
  rw[hs o i];exact wpAny_operating (Dp b (λr d f=>Af (wpAny_letTemporaryGo (Aq f))) λ_ _ x=>x)
 first
  | exact Aq (Af a)
  | exact Af (Aq (Af a))
  | exact Af a
theorem zW{X:Cx}{pins:U1}{σ:St}{o:Option V}(I:Inv X pins σ H s)(g:GP H a y o):s.TypeIs (.ref a) "dict":=by
 rcases g with ⟨kvs,k,e,_,_⟩ | ⟨kvs,k,b,e,_,_,_⟩
 ·obtain⟨_,_,vs,_,dd⟩:=Us I.hok e;exact dd.typeIs
 ·obtain⟨_,_,xs,_,dd⟩:=Ut I.hok e;exact dd.typeIs
def RP (td ty:TE):TE:=λσ H Q=>td σ H λx H1=>ty σ H1 λy H2=>∃a v,x=.ref a/\GP H2 a y (some v)/\Q v H2
def Xv (ty td:TE):TE:=λσ H Q=>ty σ H λy H1=>td σ H1 λx H2=>∃a o,x=.ref a/\GP H2 a y o/\Q (.bl o.isSome) H2
def Rf (td ty tv:TE):TS:=λD σ H=>tv σ H λv H1=>td σ H1 λx H2=>ty σ H2 λy H3=>∃a H4,x=.ref a/\J_ H3 a y v H4/\D.nx σ H4
section
variable {X:Cx}{o i e value:Expr}{pos pos' tpos:Pos}{td ty tv:TE}
theorem gw(hu:X.A.units+1<cLine)(ho:PE X o td)(hi:PE X i ty)(hs:U_ i):PE X (.Subscript o i pos) (RP td ty):=by
 intro pins s σ H Q I h;refine X1p PySem.F.slot_dict_getitem.lookup hs (A_ (ho pins s σ H _ I h) λu s1 ⟨x,H1,f,j,k⟩=>A_ (hi pins s1 σ H1 _ f k) λl p ⟨y,H2,c,d,a,v,ex,g,e⟩=>?_);subst ex;obtain rfl:u=Value.ref a:=j;exact⟨zW c g,xP hu c g d λn m I3 b=>⟨v,H2,I3,b,e⟩⟩
theorem X5g(hu:X.A.units+1<cLine)(hi:PE X i ty)(ho:PE X o td):PC X .In i o (Xv ty td):=by
 intro pins s σ H Q I h;refine A_ (hi pins s σ H _ I h) λl s1 ⟨y,H1,e,b,k⟩=>A_ (ho pins s1 σ H1 _ e k) λu n ⟨x,H2,j,f,a,d,ex,g,c⟩=>?_;subst ex;obtain rfl:u=Value.ref a:=f;exact b_ hu j g b λm I3=>⟨.bl d.isSome,H2,I3,Z,c⟩
theorem X2f(hu:X.A.units+1<cLine)(ho:PE X o td)(hi:PE X i ty)(hv:PE X value tv)(hs:swapsWith value (some (.Subscript o i pos')) pos.line X.env=pure false):
  PS X (.Assign [.Subscript o i pos'] value pos) (Rf td ty tv):=by
 intro pins s σ H D I h;refine wpAny_Assign_Subscript (A_ (hv pins s σ H _ I h) λr s1 ⟨v,H1,f,j,n⟩=>A_ (ho pins s1 σ H1 _ f n) λu p ⟨x,H2,m,l,d⟩=>A_ (hi pins p σ H2 _ m d) λq z ⟨y,t,I3,c,a,k,ex,g,b⟩=>?_) hs;subst ex;obtain rfl:u=Value.ref a:=l;exact xQ hu I3 g c j λw e=>⟨σ,k,e,b⟩
end
theorem vN(h:Heap)(hb:sysModules<h.objs.size):Ai P w H (h.push { cls:=.type "dict",data:=.dict #[]}) h.objs.size (.dK []):=
 ⟨FZ _,beq_eq_false_iff_ne.mpr (Ne.symm (B_ hb)),[],.nil,Heap.DictOf.new h⟩
theorem vO(h:Heap)(hb:sysModules<h.objs.size):Ai P w H (h.push { cls:=.type "dict",data:=.dict #[]}) h.objs.size (.dT []):=
 ⟨FZ _,beq_eq_false_iff_ne.mpr (Ne.symm (B_ hb)),[],.nil,_,#[],0,Ek _ rfl,⟨Z,Z,Z⟩,Z,Z,List.nodup_nil⟩
def NP:TE:=λ_ H Q=>∀p,H p=none->Q (.ref p) (upd H p (.dK []))
def NK:TE:=λ_ H Q=>∀p,H p=none->Q (.ref p) (upd H p (.dT []))
section
variable {X:Cx}{pos:Pos}
theorem wI:PE X (.Dict [] [] pos) NP:=λpins s σ H Q I h =>
 wpAny_Dict_empty ⟨.ref s.heap.objs.size,_,I.laid (a:=s.heap.objs.size) (o:=.dK []) (t':=s.toks) (λ_ _ q=>CG _ q) (Bf _) (vN s.heap I.big),Z,h _ (I.hok.fresh (Bf _))⟩
theorem pB:PE X (.Dict [] [] pos) NK:=λpins s σ H Q I h =>
 wpAny_Dict_empty ⟨.ref s.heap.objs.size,_,I.laid (a:=s.heap.objs.size) (o:=.dT []) (t':=s.toks) (λ_ _ q=>CG _ q) (Bf _) (vO s.heap I.big),Z,h _ (I.hok.fresh (Bf _))⟩
end
structure M2 (X:Cx) (o:Expr) (m:Str) (apos:Pos) (e f:Expr) (cpos:Pos):Prop where
 base:attributeBase o m X.env (eval o X.env)=eval o X.env
 few:((backTo cpos (starEach [e,f] X.env)).all (λx=>!x.1) && (backToKw cpos (keywordEach [] X.env)).all (λx=>x.1.isSome)
  && decide (([e,f]:List Expr).length+([]:List Keyword).length+(if ([]:List Keyword).isEmpty then 0 else 1)<30))=true
 line:(apos.endLine == cpos.line)=true
 trees:backTo cpos (starEach [e,f] X.env)=[(false,eval e X.env),(false,eval f X.env)]
def su (H:Hp)(a:Y3):Prop:=(∃kvs,Rd H a (.dK kvs))\/∃kvs,Rd H a (.dT kvs)
theorem X6n{X:Cx}{pins:U1}{σ:St}(I:Inv X pins σ H s)(d:su H a):
  s.TypeIs (.ref a) "dict"/\(∀b,Value.ref a=.ref b->∃c,s.heap.get? b=some c/\c.dict=none)/\(a == sysModules)=false:=by
 rcases d with ⟨kvs,e⟩ | ⟨kvs,e⟩
 ·obtain⟨_,f,vs,_,dd⟩:=Us I.hok e;refine⟨dd.typeIs,λb q=>?_,f⟩;cases q;obtain⟨c,_,_,h1,h2,_⟩:=dd;exact⟨c,h1,h2.2.1⟩
 ·obtain⟨_,f,xs,_,dd⟩:=Ut I.hok e;refine⟨dd.typeIs,λb q=>?_,f⟩;cases q;obtain⟨c,_,_,h1,h2,_⟩:=dd;exact⟨c,h1,h2.2.1⟩
section
variable {X:Cx}{pins:U1}{σ:St}{H:Hp}{s:U7}{a:Y3}{y d:V}{u r:W3}{o:Option V}{A:Y0}{E:U2}
end
section
variable {X:Cx}{o e f:Expr}{apos cpos:Pos}{td ty tx:TE}
end
end L2
namespace L2
def Ite (K:U0)(l:Y3):It :=
 ⟨λi H=>∃xs x,Ag K H l xs/\xs[i]?=some x,
 λi H v H'=>∃T x,v=.ref T/\H T=none/\H'=upd H T (.tup [.int i,x])/\∀xs,Ag K H l xs->xs[i]?=some x,
 λi H=>∃xs,Ag K H l xs/\xs.length<=i⟩
theorem yU{P:U8}{w:W1}{K:U0}{es:List Expr}{kk:Nat}{tp:Pos}{e it l:Y3}(ne:e≠it)(nl:l≠e):
  Turn P w K (.Tuple es kk tp) (Ite K l) [e,it] e (λi h=>(∃a,IsEnum h e it i a)/\h.IsListIter it l i) where
 mem:=by simp
 obj:=λi h st b c=>by
  obtain⟨⟨a,d⟩,o,f,_,N⟩:=st;simp only[Cz,Ie,Ia]at c;rcases c with rfl | rfl
  ·exact⟨_,d,λv q=>by have V:Data.fields _=Data.cell v:=q;cases V⟩
  ·exact⟨o,f,λv z=>by rw[N]at z;cases z⟩
 keep:=λi h h' st k=>by
  obtain⟨⟨a,d⟩,f⟩:=st;exact⟨⟨a,k e (by simp) _ d⟩,f.at λo q=>k it (by simp) o q⟩
 item:=by
  intro X B t y F i pins s σ H E I g st C;subst B t y;obtain⟨xs,x,j,D⟩:=C;obtain⟨⟨a,d⟩,f⟩:=st;obtain⟨its,A,p,hz⟩:=I.list j;obtain⟨u,m,T⟩:=A.get D;refine wpAny_pyNext_enum_item d f p.isList (x:=u) (by simpa using m) ne λh' W R O b4 M=>?_;refine⟨_,Z,jY W λh2 L n=>?_⟩;have J:s.heap.objs.size≠e:=Hu (BP d);have k2:∀b o,b∉[e,it]->s.heap.get? b=some o->h2.get? b=some o:=λb o c q=>by
   simp only[Cz,Ie,Ia,not_or]at c;exact n.extBut b o c.1 (M b o c.1 c.2 q)
  have Q:IsTup h2 s.heap.objs.size ([.int i s.toks,u]:U5).toArray:=⟨_,n.extBut _ _ J O,Z,_,Z⟩;refine⟨.ref s.heap.objs.size,upd H s.heap.objs.size (.tup [.int i,x]),I.turnedT (t':=s.toks+1) k2 g (Bf _) (.cons ⟨_,Z⟩ (.cons T .nil)) (by show 2<=sizeLine;decide) Q,Z,⟨_,x,Z,I.hok.fresh (Bf _),Z,λS h1=>?_⟩,⟨⟨u,?_⟩,?_⟩,λb c=>?_⟩
  ·rw[I.list_inj h1 j];exact D
  ·exact_mod_cast L
  ·exact R.at λo q=>n.extBut _ _ ne.symm q
  ·have r:b<s.heap.objs.size:=by
    simp only[Cz,Ie,Ia]at c;rcases c with rfl | rfl
    ·exact BP d
    ·obtain⟨o,q,_⟩:=f;exact BP q
   rw[BK (B_ r)];exact(g b c).1
 done:=by
  intro X B t y F i pins s σ H E I g st C;subst B t y;obtain⟨xs,j,G⟩:=C;obtain⟨⟨a,d⟩,f⟩:=st;obtain⟨its,A,p,hz⟩:=I.list j;have Y:=A.length;refine wpAny_pyNext_enum_end (I.ok.hd F) d f p.isList (by simp;omega) λh' U=>⟨Z,I.turnedL (t':=s.toks) (ch:=[e,it]) (λb o c q=>?_) g⟩;simp only[Cz,Ie,Ia,not_or]at c;exact U b o c.2 q
 self:=λ_ _ _ _ _ st h=>by
  obtain⟨⟨a,d⟩,_⟩:=st;exact Vl d h
section
variable {X:Cx}{es:List Expr}{kk:Nat}{tp:Pos}
def Tp (K:U0)(ta:TA):TI:=λσ H R=>ta σ H λvs H1=>∃l xs,vs=[.ref l]/\Ag K H1 l xs/\R (Ite K l) H1
theorem Qf{a:Expr}{ta:TA}{p pos:Pos}(hg:Gl X "enumerate")(hm:X.mg "enumerate"=none)(ha:PA X [a] ta)(hs:starEach [a] X.env=[(false,eval a X.env)]:=by rfl):
  PI X (.Tuple es kk tp) (.Call (.Name "enumerate" p) [a] [] pos) (Tp X.K ta):=by
 intro pins s σ H R I h;refine Call_ (LR I hg hm boot_enumerate (PyProof.Rows.callWith_type1 (A_ (ha pos pins s σ H _ I h) λus s1 ⟨vs,H1,d,m,u⟩=>?_) (by rw[hs];rfl) (by rfl)));obtain⟨l,xs,e,h1,q⟩:=u;subst e;cases m with
 | cons r rr =>
  cases rr;cases r;obtain⟨its,v,g,hz⟩:=d.list h1;refine call_enumerate_list g.isList λh' i n w k=>?_;have t:Inv X pins σ H1 {s1 with heap:=h'}:=d.kept (t':=s1.toks) k;have f:l<s1.heap.objs.size:=by obtain⟨o,q,_⟩:=g.isList;exact BP q
  refine Vl i ⟨_,[s1.heap.objs.size+1,s1.heap.objs.size],_,_,H1,Z,t,yU (Nat.succ_ne_self _) (B_ (QF f)),⟨⟨_,i⟩,n⟩,λb j=>?_,q⟩;have c:s1.heap.objs.size<=b:=by
   simp only[Cz,Ie,Ia]at j;rcases j with rfl | rfl
   ·exact Nk _
   ·exact Bf _
  exact d.fpOk c (d.hok.fresh c)
end
theorem oX{K:U0}{a:Y3}{xs:List V}{g:TG}{tb:TS}{D:Ends}{σ:St}{H:Hp}(Pv:Nat->St->Hp->Prop)(h0:Pv 0 σ H)(hl:∀i σ H,i<=xs.length->Pv i σ H->Ag K H a xs)
  (hs:∀i x σ H T,xs[i]?=some x->Pv i σ H->H T=none->g (.ref T) σ (upd H T (.tup [.int i,x])) λb H2=>tb {D with nx:=Pv (i+1),ct:=Pv (i+1),bk:=D.nx} b H2) (hd:∀σ H,Pv xs.length σ H->D.nx σ H):
  ∃W:Nat->Nat->St->Hp->Prop,(∃m,W 0 m σ H)/\∀i m σ H,W i m σ H ->
   ((Ite K a).stop i H/\D.nx σ H)\/((Ite K a).go i H/\∃N:St->Hp->Prop,(∀c H',N c H'->∃m',m'<m/\W (i+1) m' c H')/\∀x H',(Ite K a).yld i H x H'->g x σ H' λb H2=>tb {D with nx:=N,ct:=N,bk:=D.nx} b H2):=by
 refine⟨λi m σ H=>m=xs.length-i/\i<=xs.length/\Pv i σ H,⟨xs.length,by simp,FZ _,h0⟩,?_⟩;rintro i m σ H ⟨rfl,hi,p⟩;have q:=hl i σ H hi p;by_cases hlt:i<xs.length
 ·refine .inr ⟨⟨xs,xs[i],q,by simp[hlt]⟩,Pv (i+1),λc H' f=>⟨xs.length-(i+1),by omega,Z,hlt,f⟩,λv H' y=>?_⟩;obtain⟨T,x,rfl,d,rfl,y⟩:=y;exact hs i x σ H T (y xs q) p d
 ·have e:i=xs.length:=by omega
  subst e;exact .inl ⟨⟨xs,q,Bf _⟩,hd σ H p⟩
end L2
namespace L2
theorem Jz:∀{us:U5}{ks:U6},us.length=ks.length->(∀(j:Nat) u,us[j]?=some u->∃(k:Int) (t:Tok),ks[j]?=some k/\u=Value.int k t)->IntsAre us ks
 | [],[],_,_=>.nil
 | u::us,k::ks,hl,h=>by
  obtain⟨a,t,e,rfl⟩:=h 0 u rfl;cases e;exact .cons _ _ (Jz (Nat.succ.inj hl) λj u q=>h (j+1) u q)
def iZ (s:U7)(P:Nat->Value->Prop)(n:Nat)(q:Result)(s':U7):Prop:=q=.ok (.ret (.ref s.heap.objs.size))/\∃h' tk,s'={s with heap:=h',toks:=tk}/\(∀b o,s.heap.get? b=some o->h'.get? b=some o) /\
 ∃acc c,ItemsOf P acc n/\h'.get? s.heap.objs.size=some { cls:=.type "list",dict:=none,data:=.seq acc c,slots:=#[]}
theorem gather{prog:U8}{w:W1}{A:Y0}{E:U2}{s:U7}{T:String}{r d:Y3}{n:Nat}{P:Nat->Value->Prop}{OK:Heap->Prop}{R:List Value->Shared->Prop}(K:PySem.W.KdlSrc prog w T r d n P OK)(hh:A.handled=none)(hok:OK s.heap)(hn:n<=sizeLine)
  (h:∀(h':Heap) (tk:Nat) (acc:U9),(∀b o,s.heap.get? b=some o->h'.get? b=some o)->s.heap.objs.size<h'.objs.size->ItemsOf P acc n->R acc.toList {s with heap:=h',toks:=tk}):wpAny (model prog w) A (collect (.ref r)) R E s:=by
 obtain⟨l1,l2⟩:=K.there _ hok;have up:∀b o,s.heap.get? b=some o->(s.heap.push { cls:=.type "list",data:=.seq ([]:U5).toArray}).get? b=some o:=λb o e=>CG _ e;have a:=PySem.W.kdl_extend (A:=A) (s:={s with heap:=s.heap.push { cls:=.type "list",data:=.seq ([]:U5).toArray}}) (R:=iZ s P n) K hh (K.keep _ _ hok λb _=>up b) s.heap.objs.size (Hu l1) (Hu l2) (.ref s.heap.objs.size) 0
  (Ek _ rfl) (λh' tk acc c i g j=>⟨Z,h',tk,Z,λb o e=>i b o (B_ (BP e)) (up b o e),acc,c,j,g⟩) hn
 unfold collect;refine Af (wpAny_runValue (P0 entry_proto_collect' ?_));rw[Around.under_plainId jc _];show wpAny _ A.in1 (newList [] >>= λl=>again (.builtin "list.__iadd__" ⟨[l,.ref r],[]⟩)) _ _ s;refine Af (Js (Aq ⟨Rv Vx _,P0 entry_list_iadd' ?_⟩));rw[Around.under_plainId Vx _];refine Dp a (λf s' x=>?_) λe s' x=>by cases x.1
 cases f with
 | done f =>
  obtain⟨e,h',tk,rfl,i,acc,c,j,g⟩:=x;cases e;exact Af (V2 g (Aq (h h' tk acc i (BP g) j)))
 | again c =>
  refine⟨x.1,Lz x.2 λq k y=>?_⟩;obtain⟨rfl,h',tk,rfl,i,acc,c,j,g⟩:=y;exact Af (V2 g (Aq (h h' tk acc i (BP g) j)))
theorem uc{X:Cx}(hc:X.calm=true):Bu X (.builtin "sorted") (λxs H Q=>∃(p:Y3) (kvs:List (Key×V)) (ks:U6),xs=[.ref p]/\H p=some (.dK kvs)/\kvs.map (·.1)=ks.map Sum.inl/\kvs.length<64 /\
  ∀(l:Y3) (ks':U6),H l=none->ks'.Perm ks->ks'.Pairwise (·<=·)->Q (.ref l) (upd H l (.lst (ks'.map V.int)))):=by
 intro pins s σ H xs us Q I r h;obtain⟨p,kvs,ks,rfl,hp,O,U,q⟩:=h;obtain⟨u,rfl,R⟩:=vals1 r;cases R;obtain⟨z,lo,vs,F,dd⟩:=qD I.hok hp;obtain⟨ep,B⟩:=dd.dictAt;have Y:kvs.length=vs.length:=F.length;have a:kvs.map (·.1)=vs.map (·.1):=F.keys;rw[O]at a;have D:ks.length=vs.length:=by have:=congrArg List.length a;simpa using this
 have M:(64:Nat)<=sizeLine:=by decide
 refine Calls.call_function_entry kind_sorted bG bF (bC _) ?_;unfold Builtin.«sorted»;refine Af (m:=checkCount "sorted" 1 1 _) (Aq ?_);refine Af (gather (A:=X.A.in1) (PySem.W.kdl_dict (knd:=Hq X.prog X.w) (kvs:=vs) (ep:=ep) lo) (I.ok.hd hc) B (by omega) λh' tk acc n f c=>?_);have hsz:=JK f;have y:acc.toList.length=vs.length:=by rw[HN];exact c.1
 have T:IntsAre acc.toList ks:=Jz (y.trans D.symm) λj u e=>by
  obtain⟨k,x,N,J⟩:=c.2 j u (by rw[<-Ss];exact e);have v:(ks.map Sum.inl:List Key)[j]?=some k:=by rw[a,Bo,N];rfl
  rw[Bo]at v;cases e3:ks[j]? with
  | none=>rw[e3]at v;cases v
  | some i =>
   rw[e3]at v;cases v;rcases Ke (show Fe (Sum.inl i) u=true from J) with ⟨i',t,e4,e5⟩ | ⟨x',t,e4,e5⟩
   ·cases e4;exact⟨i,t,Z,e5⟩
   ·cases e4
 refine Af (Rx ?_ (by omega));have d:(h'.push (seqObj "list" acc.toList.toArray 0)).get? h'.objs.size=some (seqObj "list" acc.toList.toArray 0):=Ek _ rfl;refine Af (G4 (K1 bR ⟨_,d,Z⟩ YD (list_sort_tree d T (by omega) λout g P E K=>⟨_,Z,?_⟩) (bO _)));refine Aq ⟨_,Z,?_⟩;obtain⟨e,S⟩:=bN (out:=out) d;have L:∀b o,s.heap.get? b=some o->(sortedHeap (h'.push (seqObj "list" acc.toList.toArray 0)) h'.objs.size acc.toList out).get? b=some o:=λb o x=>by
  have lt:=BP (n b o x);rw[X7 (B_ lt) (by rw[size_push'];exact QF lt)];exact CG _ (n b o x)
 have G:=E.length_eq;have C:(out.toList).toArray=out:=Array.toArray_toList;exact⟨.ref h'.objs.size,_,I.laid (t':=tk) L hsz (show Ai X.prog X.w _ _ _ (.lst (g.map V.int)) from ⟨by rw[Ax];omega,out.toList,e,Wc P,by rw[C];exact S⟩),Z,q _ g (I.hok.fresh hsz) E K⟩
end L2
namespace L2
theorem yS{prog:U8}{w:W1}{A:Y0}{env:Env}{c:Expr}{s:U7}{Q:Bool->Shared->Prop}(h:wpAny (model prog w) A (isTrue c env (eval c env)) Q Calm s):
  wpAny (model prog w) A (forIn [c] true λc r=>if r=true then do let ok ← isTrue c env (eval c env);pure (ForInStep.yield ok) else pure (ForInStep.yield r)) Q Calm s:=wpAny_tests_one h
theorem uw{prog:U8}{w:W1}{A:Y0}{R:Result->Shared->Prop}{s:U7}{e t i c:Expr}{sc:Scope}{pos:Pos}{it acc:W3}{env:Env}(J:Nat->Shared->Prop)
  (turn:∀n s,J n s->wpAny (model prog w) A (pyNext it) (λr s1=>(r=none->R (.ok .next) s1)/\∀v,r=some v ->
   wpAny (model prog w) A (letOwnedTupleGo t it v) (λ_ k=>wpAny (model prog w) A (assign t env v) (λ_ d=>wpAny (model prog w) A (isTrue c env (eval c env)) (λok a=>if ok=true then wpAny (model prog w) A (eval e env) (λx b =>
    wpAny (model prog w) A (call (.builtin "list.append") [acc,x]) (λ_ g=>∃m,m<n/\J m g) Calm b) Calm a else ∃m,m<n/\J m a) Calm d) Calm k) Calm s1) Calm s)
  (n:Nat) (h:J n s):codeAny (model prog w) A (.compLoop (.ListComp e [⟨t,i,[c],0⟩] sc pos) 0 it acc env) R s:=by
 have o:=compTurn_list e t i [c] sc pos it acc env;refine codeAny_loop rfl J (λn s j=>wpAny_noted (m:=compTurn (.ListComp e [⟨t,i,[c],0⟩] sc pos) 0 it acc env) ?_) n h;rw[o];refine Af (L_ (DP (turn n s j) λr s1 q=>?_));match r,q with
 | none,q=>exact Aq (q.1 rfl)
 | some v,q =>
  refine DP (q.2 v rfl) λ_ k u=>DP u λ_ d l=>DP (yS l) λok b f=>?_;cases ok with
  | false=>exact Aq ⟨rfl,f⟩
  | true=>exact Af (DP f λx g y=>DP y λ_ z p=>Aq (Aq ⟨rfl,p⟩))
def Lg (J:It)(g:TG)(tc:TT)(te:TE)(σ:St)(H:Hp)(acc:Y3)(Q:VK):Prop:=∃W:Nat->Nat->List V->St->Hp->Prop,(∃m,W 0 m [] σ (upd H acc (.lst []))) /\
 ∀i m ys σ2 H2,W i m ys σ2 H2->(J.stop i H2/\Q (.ref acc) H2)\/(J.go i H2/\∀x H3,J.yld i H2 x H3->g x σ2 H3 λσ4 H4=>tc σ4 H4 λb H5 =>
  (b=true->te σ4 H5 λy H6=>H6 acc=some (.lst ys)/\ys.length<sizeLine/\∃m',m'<m/\W (i+1) m' (ys++[y]) σ4 (upd H6 acc (.lst (ys++[y]))))/\(b=false->∃m',m'<m/\W (i+1) m' ys σ4 H5))
def RM (mp:Y1)(wi:TI)(g:TG)(tc:TT)(te:TE):TE:=λσ H Q=>wi σ H λJ H1=>∀acc,H1 acc=none->Lg J g tc te (sub mp σ) H1 acc Q
section
variable {X:Cx}{elt tg iter cond:Expr}{scope:Scope}{pos:Pos}{wi:TI}{g:TG}{tc:TT}{te:TE}{Nc:W0}{mp:Y1}
theorem m_(hc:X.calm=true)(S:BX X.N X.env.scope scope Nc mp)(hg:∀ex pins s H,PG (BZ X scope Nc ex pins s H) tg g)(ht:∀ex pins s H,PT (BZ X scope Nc ex pins s H) cond tc)(he:∀ex pins s H,PE (BZ X scope Nc ex pins s H) elt te)
  {pins:U1}{σ:St}{H2:Hp}{s2:U7}{E:U2}{it:Y3}{fp:U3}{tn:Nat->Heap->Prop}{J:It}{Q:VK}{RR:Value->Addr->Result->Shared->Prop}
  (I2:Inv X pins σ H2 s2) (T:Turn X.prog X.w X.K tg J fp it tn) (st2:tn 0 s2.heap) (f2:∀b∈fp,DX X pins H2 b)
  (q:∀acc,H2 acc=none->Lg J g tc te (sub mp σ) H2 acc Q)
  (fin:∀acc C H' s' m',Q (.ref acc) H'->Inv X pins σ H' s'->s'.heap.Ns C m'->H' C=none->X.s₀.heap.objs.size<=C->C≠X.env.locals->(∀x c,X.env.cells.lookup x=some c->c≠C)->(∀p∈X.pn++pins,p.1≠C)->RR (.ref acc) C (.ok .next) s'):
  wpAny (model X.prog X.w) X.A (newList []) (λacc s₃=>wpAny (model X.prog X.w) X.A (newFunctionEnv scope X.env.globals (clo scope.names X.env.cells) [] X.env.qual none .none (some X.env)) (λt s₄ =>
   codeAny (model X.prog X.w) X.A (.compStart (.ListComp elt [⟨tg,iter,[cond],0⟩] scope pos) 0 (.ref it) acc {t with scope:=relabel scope X.env}) (RR acc t.locals) s₄) E s₃) E s2:=by
 refine Js (wpAny_newFunctionEnv S.nocell (by intro y hy;simp at hy) (λh₁ m k=>?_) S.kind);dsimp only at m k ⊢;have I3:=I2.lnew (its:=[]) (ys:=[]) (t':=s2.toks) .nil (FZ _);have Y:H2 s2.heap.objs.size=none:=I2.fresh;obtain⟨W,⟨m0,w0⟩,R⟩:=q s2.heap.objs.size Y;have I:(s2.heap.push { cls:=.type "list",dict:=none,data:=.seq ([]:U5).toArray}).objs.size=s2.heap.objs.size+1:=Vc ..;have M:∀b∈fp,b<s2.heap.objs.size:=λb a=>by
  obtain⟨o,e,_⟩:=T.obj _ _ st2 b a;exact BP e
 have G:∀b∈fp,DX X pins (upd H2 s2.heap.objs.size (.lst [])) b:=λb a=>⟨by rw[BK (B_ (M b a))];exact(f2 b a).1,(f2 b a).2⟩;have h:Inv X pins σ (upd H2 s2.heap.objs.size (.lst [])) (DG s2):=I3;have hsz:(DG s2).heap.objs.size=s2.heap.objs.size+1:=I;have l:∀b∈fp,b<(DG s2).heap.objs.size:=λb a=>by rw[hsz];exact QF (M b a)
 have k3:∀b o,(DG s2).heap.get? b=some o->h₁.get? b=some o:=λb o e=>k.extBut b o (B_ (BP e)) (CG _ e);have Ic:=o9 (tk:=(DG s2).toks) h S G l m k3;have V:tn 0 h₁:=T.keep _ _ _ st2 λb a o e=>k3 b o (CG _ e);have cC:X.s₀.heap.objs.size<=(DG s2).heap.objs.size:=h.sz;have cL:(DG s2).heap.objs.size≠X.env.locals:=Hu h.lt;have cc:∀x c,X.env.cells.lookup x=some c->c≠(DG s2).heap.objs.size:=λx c e=>by
  obtain⟨v,o,ho,_⟩:=h.cell x c e;exact B_ (BP ho)
 have cp:∀p∈X.pn++pins,p.1≠(DG s2).heap.objs.size:=λp hp=>B_ (BP (h.pin p hp).1);have j:∀{H':Hp},(∀b∈fp,H' b=none)->∀b∈fp,DX (BZ X scope Nc fp pins (DG s2) (upd H2 s2.heap.objs.size (.lst []))) [] H' b:=λhn b a =>
  ⟨hn b a,B_ (l b a),λz=>by
   rcases Cz.mp (h.stkSub b z) with e | e
   ·exact(G b a).2.1 e
   ·exact(G b a).2.2.1 e,.inl a,λx c e=>(G b a).2.2.2.2.1 x c (Mj h S e),λp hp=>(G b a).2.2.2.2.2 p (by
    have:p∈(X.pn++pins)++[]:=hp
    simpa using this)⟩
 have loop:∀s4:Shared,s4={ (DG s2) with heap:=h₁,toks:=(DG s2).toks} ->
   codeAny (model X.prog X.w) X.A (.compLoop (.ListComp elt [⟨tg,iter,[cond],0⟩] scope pos) 0 (.ref it) (.ref s2.heap.objs.size) (BZ X scope Nc fp pins (DG s2) (upd H2 s2.heap.objs.size (.lst []))).env)
    (RR (.ref s2.heap.objs.size) (DG s2).heap.objs.size) s4:=by
  rintro s4 rfl;refine uw (λn s'=>∃i ys σ' H',Inv (BZ X scope Nc fp pins (DG s2) (upd H2 s2.heap.objs.size (.lst []))) [] σ' H' s'/\tn i s'.heap/\(∀b∈fp,H' b=none)/\W i n ys σ' H') ?_ m0
   ⟨0,[],sub mp σ,_,Ic,V,λb a=>(G b a).1,w0⟩
  rintro n s5 ⟨i,ys,σ5,H5,I5,O,P,w5⟩;rcases R i n ys σ5 H5 w5 with ⟨stop,qn⟩ | ⟨go,step⟩
  ·refine Dp (T.done (BZ X scope Nc fp pins (DG s2) (upd H2 s2.heap.objs.size (.lst []))) rfl rfl rfl hc i [] s5 σ5 H5 (λ_ _=>False) I5 (j P) O stop) (λr s6 ⟨hr,I6⟩=>?_) λ_ _ f=>f.elim;subst hr;obtain⟨m6,a2,_⟩:=I6.loc;refine⟨λ_=>?_,λ_ z=>nomatch z⟩;exact fin _ _ H5 s6 m6 qn (rP h G I6) a2 I6.free cC cL cc cp
  ·refine Dp (T.item (BZ X scope Nc fp pins (DG s2) (upd H2 s2.heap.objs.size (.lst []))) rfl rfl rfl hc i [] s5 σ5 H5 (λ_ _=>False) I5 (j P) O go) (λr s6 ⟨u,hr,h6⟩=>?_) λ_ _ f=>f.elim;subst hr;refine⟨(λz=>by cases z),?_⟩;rintro _ ⟨⟩;refine Dp h6 (λ_ s7 ⟨x,H7,I7,r7,y7,B,a6⟩=>?_) λ_ _ f=>f.elim;have a5:=I7.pinned (j a6) (T.obj _ _ B);refine Dp (hg _ _ _ _ _ s7 σ5 H7 x u _ a5 r7 (step x H7 y7)) (λ_ s8 ⟨L,H8,I8,q8⟩=>?_) λ_ _ f=>f.elim;refine Dp (ht _ _ _ _ _ s8 L H8 _ I8 q8) (λbb s9 ⟨H9,I9,p9,n9⟩=>?_) λ_ _ f=>f.elim;have keeps:∀{H':Hp}{s':U7},Inv (BZ X scope Nc fp pins (DG s2) (upd H2 s2.heap.objs.size (.lst []))) ([]++Fd fp s7.heap) L H' s'->tn (i+1) s'.heap/\∀b∈fp,H' b=none:=λ{H' s'} J' =>
    ⟨T.keep _ _ _ B λb a o e=>(J'.pin (b,o) (Fw _ (Fw _ (Qo a e)))).1,λb a=>by
     obtain⟨o,e,d⟩:=T.obj _ _ B b a
     exact(J'.pin (b,o) (Fw _ (Fw _ (Qo a e)))).2.1⟩
   cases bb with
   | false =>
    obtain⟨m',F,w9⟩:=n9 rfl;rw[if_neg Fv];exact⟨m',F,i+1,ys,L,H9,I9.unpinned,(keeps I9).1,(keeps I9).2,w9⟩
   | true =>
    rw[if_pos rfl];refine Dp (he _ _ _ _ _ s9 L H9 _ I9 (p9 rfl)) (λv a8 ⟨y,U,a4,a0,a1,l10,m',F,a3⟩=>?_) λ_ _ f=>f.elim;refine Dp (Ul (X:=BZ X scope Nc fp pins (DG s2) (upd H2 s2.heap.objs.size (.lst []))) _ a8 L U (.ref s2.heap.objs.size) [y] (.ref s2.heap.objs.size) [v] (λz Hz=>z=.non/\Hz=upd U s2.heap.objs.size (.lst (ys++[y]))) a4 rfl (.cons a0 .nil) ⟨_,ys,y,Z,Z,a1,l10,Z,Z⟩) (λa' b0 ⟨z,a9,D,_,_,a7⟩=>?_) λ_ _ f=>f.elim;subst a7;exact⟨m',F,i+1,ys++[y],L,_,D.unpinned,(keeps D).1,(keeps D).2,a3⟩
 exact jJ (loop _ rfl) (T.self _ 0 _ _ _ V (loop _ rfl))
theorem gO(hc:X.calm=true)(S:BX X.N X.env.scope scope Nc mp)(hi:PI X tg iter wi)(hg:∀ex pins s H,PG (BZ X scope Nc ex pins s H) tg g)(ht:∀ex pins s H,PT (BZ X scope Nc ex pins s H) cond tc)(he:∀ex pins s H,PE (BZ X scope Nc ex pins s H) elt te)
  (hf:∀x,foldedSetIterable iter X.env x=pure x:=by intro _;rfl):PE X (.ListComp elt [⟨tg,iter,[cond],0⟩] scope pos) (RM mp wi g tc te):=by
 intro pins s σ H Q I h;rw[eval_ListComp];refine Vz (use:=none) rfl hf (Wd (Uj I S)) S.kind S.names (A_ (hi pins s σ H _ I h) λv s1 h1=>A_ h1 λi t h2=>?_);obtain⟨it,fp,r,J,H2,e,m,T,a,n,q⟩:=h2;subst e;refine m_ (RR:=λacc C=>compPost (model X.prog X.w) X.A X.xe none (EP X pins σ Q) acc C) hc S hg ht he m T a n q ?_;intro acc C H' s' m' qq l j f d k c3 c4;refine⟨m',j,λh' c=>⟨.ref acc,H',?_,Z,qq⟩⟩;exact l.turnedNew (t':=s'.toks) (λb o p e=>c.extBut b o p e) f d k c3 c4
theorem yP{i:Nat}{x:Str}{pos' spos:Pos}(hc:X.calm=true)(hN:X.N.Nodup)(hi':X.N[i]?=some x)(hx:X.env.scope.names.lookup x=some .local)(S:BX X.N X.env.scope scope Nc mp)(hi:PI X tg iter wi)
  (hg:∀ex pins s H,PG (BZ X scope Nc ex pins s H) tg g) (ht:∀ex pins s H,PT (BZ X scope Nc ex pins s H) cond tc) (he:∀ex pins s H,PE (BZ X scope Nc ex pins s H) elt te)
  (hsw:swapsWith (.ListComp elt [⟨tg,iter,[cond],0⟩] scope pos) (some (.Name x pos')) spos.line X.env=pure true)
  (hf:∀x,foldedSetIterable iter X.env x=pure x:=by intro _;rfl):PS X (.Assign [.Name x pos'] (.ListComp elt [⟨tg,iter,[cond],0⟩] scope pos) spos) (Ko (RM mp wi g tc te) (CN i)):=by
 intro pins s σ H D I h;rw[jF _ _ _ _ hsw];refine Af (L_ (Af ?_));show wpAny _ X.A (do let _ ← comprehension (.ListComp elt [⟨tg,iter,[cond],0⟩] scope pos) scope X.env _ (newList []) false (eval iter X.env) (some (assign (.Name x pos') X.env))) _ _ s
 refine Af (Dp (Vz (use:=some (assign (.Name x pos') X.env)) (Q:=λ_ s'=>SP X pins D .next s') rfl hf (Wd (Uj I S)) S.kind S.names
  (A_ (hi pins s σ H _ I h) λv s1 h1=>A_ h1 λp L h2=>?_)) (λ_ s' n=>Aq (Aq n)) λ_ _ e=>e)
 obtain⟨it,fp,K,J,H2,e,E,T,f,F,q⟩:=h2;subst e;refine m_ (Q:=λx H1=>CN i x σ H1 D.nx) (RR:=λacc C=>compPost (model X.prog X.w) X.A X.xe (some (assign (.Name x pos') X.env)) (λ_ s'=>SP X pins D .next s') acc C) hc S hg ht he E T f F q ?_;intro acc C H' s' m' qq u t l k j c3 c4;show wpAny _ X.A (assign (.Name x pos') X.env (.ref acc)) _ _ _;refine YK (fW (v:=.ref acc) u hN hi' (.inl hx) rfl (λB r ⟨a,c,y⟩=>?_) (.inr hx));have d:C≠a:=by
  rcases y with z | z
  ·rw[z];exact j
  ·exact Ne.symm (c3 x a z)
 refine⟨m',t.sameBut c d,λh' m=>⟨σ.set i (some (.ref acc)),H',?_,qq⟩⟩;exact r.turnedNew (t':=B.toks) (λb o G e=>m.extBut b o G e) l k j c3 c4
end
def RB (t:TE):TT:=λσ H Q=>t σ H λx H'=>∃i,x=.int i/\Q (i != 0) H'
theorem nY{X:Cx}{a:Expr}{ta:TE}(ha:PE X a ta)(he:∀whole,isTrue a X.env whole=(do let v ← whole;standAt a.pos;holding [v] (truthy v))):PT X a (RB ta):=by
 intro pins s σ H Q I h;refine isTrue_plain (A_ (ha pins s σ H _ I h) λv s1 ⟨x,H1,d,b,i,e,c⟩=>?_) (he _);subst e;exact X4u pins s1 σ H1 (.int i) v Q d b ⟨_,Z,c⟩
theorem jz{lo:Int}{n:Nat}{tc:TT}{te:TE}{fr:St}{H1:Hp}{acc:Y3}{Q:VK}(Pv:Nat->List V->Hp->Prop)(hn:n<=sizeLine)(h0:Pv 0 [] (upd H1 acc (.lst [])))
  (hs:∀i ys H (N:Bool->Hp->Prop),i<n->ys.length<=i->Pv i ys H->(∀b a,(b=true->te (some (.int (lo+i))::fr) a λy c=>c acc=some (.lst ys)/\Pv (i+1) (ys++[y]) (upd c acc (.lst (ys++[y]))))->(b=false->Pv (i+1) ys a)->N b a)->tc (some (.int (lo+i))::fr) H N)
  (mono:∀{σ H}{R R':VK},(∀v H,R v H->R' v H)->te σ H R->te σ H R')
  (hd:∀ys H,Pv n ys H->Q (.ref acc) H):Lg (Gg lo n) (CN 0) tc te (none::fr) H1 acc Q:=by
 refine⟨λi m ys d H2=>m=n-i/\i<=n/\ys.length<=i/\(∃v,d=v::fr)/\Pv i ys H2,⟨n,by simp,FZ _,Bf _,⟨_,Z⟩,h0⟩,?_⟩;rintro i m ys d H2 ⟨rfl,hi,j,⟨v,rfl⟩,p⟩;by_cases hlt:i<n
 ·refine .inr ⟨hlt,λx k f=>?_⟩;obtain⟨rfl,rfl⟩:=f;show tc ((v::fr).set 0 (some (.int (lo+i)))) _ _;rw[List.set_cons_zero];refine hs i ys _ _ hlt j p λb a h g=>⟨λe=>mono (λy c q=>?_) (h e),λe=>⟨n-(i+1),by omega,Z,hlt,by omega,⟨_,Z⟩,g e⟩⟩;exact⟨q.1,by omega,n-(i+1),by omega,Z,hlt,by rw[DQ];simp;omega,⟨_,Z⟩,q.2⟩
 ·have e:i=n:=by omega
  subst e;exact .inl ⟨Bf _,hd ys H2 p⟩
end L2
namespace Am
end Am
namespace L2
theorem Same.tup{K:U0}{H H':Hp}{a:Y3}{xs:List V}(e:Same H H')(h:Ak K H a xs):Ak K H' a xs:=by
 rcases h with h | h
 ·rcases h with h | ⟨o,h⟩
  ·exact .inl (.inl (e _ _ h))
  ·exact .inl (.inr ⟨o,e _ _ h⟩)
 ·exact .inr h
section
variable {X:Cx}{scope:Scope}{Nc:W0}{ex:U3}{pins:U1}{s:U7}{H:Hp}
theorem eO:Qu (BZ X scope Nc ex pins s H) (Rj X.K):=J3
theorem O6:Qu (BZ X scope Nc ex pins s H) (Ri X.K):=Bk
theorem WX{x y:Str}{k:Nat}{p1 p2 pos:Pos}(hc:(BZ X scope Nc ex pins s H).calm=true)(hN:Nc.Nodup)(h0:Nc[0]?=some x)(h1:Nc[1]?=some y)(l0:(BZ X scope Nc ex pins s H).env.scope.names.lookup x=some .local)(l1:(BZ X scope Nc ex pins s H).env.scope.names.lookup y=some .local):
  PG (BZ X scope Nc ex pins s H) (.Tuple [.Name x p1,.Name y p2] k pos) (Tq X.K 2 (J0 (CN 0) (J0 (CN 1) Tt))):=
 O2 (X:=BZ X scope Nc ex pins s H) hc (H_ (CP (i:=0) hN h0 (.inl l0) (.inr l0)) (H_ (CP (i:=1) hN h1 (.inl l1) (.inr l1)) O7))
end
section
variable {K:U0}{a:Y3}{ns:U6}{te:TE}{fr:St}{H1:Hp}{acc:Y3}{Q:VK}
theorem m9{J:It}{n:Nat}{val:Nat->V}(f:Nat->V)(hn:n<=sizeLine)(hacc:H1 acc=none)
  (hgo:∀i H,i<n->Same H1 H->J.go i H/\∀x H',J.yld i H x H'->H'=H/\x=val i) (hst:∀H,Same H1 H->J.stop n H)
  (hs:∀i H (N:V->Hp->Prop),i<n->Same H1 H->N (f i) H->te (some (val i)::fr) H N)
  (hd:∀H2,Same H1 H2->H2 acc=some (.lst ((List.range n).map f))->Q (.ref acc) H2):Kl J (CN 0) te (none::fr) H1 acc Q:=by
 refine iJ (val:=val) (λi ys H'=>Same H1 H'/\H' acc=some (.lst ys)/\ys=(List.range i).map f) hn ⟨Aw hacc _,Aj,Z⟩ (λi ys H hi p=>hgo i H hi p.1) (λys H p=>hst H p.1) ?_ ?_
 ·rintro i ys H N hi e ⟨a,c,b⟩ d;refine hs i H N hi a (d _ _ c ⟨Ec a hacc,Aj,?_⟩);rw[b,YB,CJ];rfl
 ·rintro ys H e ⟨a,c,b⟩;exact hd H a (by rw[c,b])
theorem kI(ns:U6)(f:Int->V):(List.range ns.length).map (λi=>f (ns.getD i 0))=ns.map f:=by
 apply R8
 ·simp
 ·intro i h1 h2;simp at h1;simp[h1]
theorem gb(f:Int->V)(hl:Ak K H1 a (ns.map V.int))(hn:ns.length<=sizeLine)(hacc:H1 acc=none)(hs:∀n H (N:V->Hp->Prop),Same H1 H->N (f n) H->te (some (.int n)::fr) H N)
  (hd:∀H2,Same H1 H2->H2 acc=some (.lst (ns.map f))->Q (.ref acc) H2):Kl (Qv K a) (CN 0) te (none::fr) H1 acc Q:=by
 refine m9 (n:=ns.length) (val:=λi=>.int (ns.getD i 0)) (λi=>f (ns.getD i 0)) hn hacc (λi H hi s=>?_) (λH s=>⟨_,s.tup hl,by simp⟩) (λi H N hi s b=>hs _ H N s b) (λH2 s h=>hd H2 s (by rw[h,kI]));have e:(ns.map V.int)[i]?=some (.int (ns.getD i 0)):=by simp[hi]
 refine⟨⟨_,_,s.tup hl,e⟩,λx H' y=>⟨y.1,?_⟩⟩;have:=y.2 _ (s.tup hl);rw[e]at this;exact(Option.some.inj this).symm
end
section
variable {X:Cx}
end
theorem vZ{K:U0}{a:Y3}{ns:U6}{te:TE}{fr:St}{H1:Hp}{acc:Y3}{Q:VK}(f:Int->V)(hl:Ag K H1 a (ns.map V.int))(hn:ns.length<=sizeLine)(hacc:H1 acc=none)(hs:∀n H (N:V->Hp->Prop),n∈ns->Same H1 H->N (f n) H->te (some (.int n)::fr) H N)
  (hd:∀H2,Same H1 H2->H2 acc=some (.lst (ns.map f))->Q (.ref acc) H2):Kl (Lh K a) (CN 0) te (none::fr) H1 acc Q:=by
 refine m9 (n:=ns.length) (val:=λi=>.int (ns.getD i 0)) (λi=>f (ns.getD i 0)) hn hacc (λi H hi s=>?_) (λH s=>⟨_,s.seq hl,by simp⟩) (λi H N hi s b=>hs _ H N (by simp[hi]) s b) (λH2 s h=>hd H2 s (by rw[h,kI]));have e:(ns.map V.int)[i]?=some (.int (ns.getD i 0)):=by simp[hi]
 refine⟨⟨_,_,s.seq hl,e⟩,λx H' y=>⟨y.1,?_⟩⟩;have:=y.2 _ (s.seq hl);rw[e]at this;exact(Option.some.inj this).symm
end L2
namespace L2
section
variable {X:Cx}
theorem J5(hc:X.calm=true):Bu X (.builtin "all") (λxs H Q=>∃(p:Y3) (bs:List Bool),xs=[.ref p]/\Ag X.K H p (bs.map V.bl)/\Q (.bl (bs.all id)) H):=by
 intro pins s σ H xs us Q I r h;obtain⟨p,bs,rfl,n,q⟩:=h;obtain⟨u,rfl,g⟩:=r.one;cases g;obtain⟨its,k,f,hz⟩:=I.list n;have a:its.length=bs.length:=by rw[<-k.length,Ax]
 refine call_all_walk (YL f.isList ?_)
 have W:=Walks.list (prog:=X.prog) (w:=X.w) (A:=X.A.in1) (show X.A.in1.handled=none from I.ok.hd hc) s.heap.objs.size p (by
  obtain⟨o,e,_⟩:=f.isList
  exact B_ (BP e)) its.toArray
 refine⟨s.heap.objs.size,_,_,_,_,_,λi=>bs.getD i false,Z,W,⟨⟨_,Ek _ rfl,Z,Z⟩,f.isList.push _⟩,?_,λh' tk x=>?_⟩
 ·intro i v s' C B y t;have c:its[i]?=some v:=by simpa using y
  have hi:i<bs.length:=by rw[<-a];exact(Cv.mp c).1
  obtain⟨u,l,g⟩:=k.get (show (bs.map V.bl)[i]?=some (.bl (bs.getD i false)) by simp[hi]);rw[c]at l;cases l;cases g;exact K4 t
 ·have e:(List.range its.toArray.size).all (λi=>bs.getD i false)=bs.all id:=by
   rw[Ci,a,Px,Kz,Kz];constructor
   ·intro z b m;obtain⟨i,hi,rfl⟩:=Sh.mp m;have:=z i (Fb.mpr hi);simpa [hi] using this
   ·intro z i hi;have d:i<bs.length:=Fb.mp hi;have:=z bs[i] (G5 d);simpa [d] using this
  rw[e];refine⟨.bl (bs.all id),H,?_,Z,q⟩;exact I.kept (t':=tk) λb o j=>x b o (by simp;exact B_ (BP j)) (CG _ j)
end
section
variable {P:U8}{w:W1}{H:Hp}{h:Heap}
end
section
variable {X:Cx}
theorem lN:∀xs:List (List Int),PyData.canLayAll0 (xs.map λns=>PyData.tuple (ns.map PyData.int))=true
 | []=>by simp[PyData.canLayAll0]
 | n::r=>by simp[PyData.canLayAll0,PyData.canLay0,lN r,Yo n]
theorem lE:∀xs:List (List Int),PyData.depthAll (xs.map λns=>PyData.tuple (ns.map PyData.int))<=2
 | []=>by simp[PyData.depthAll]
 | n::r=>by
  have h1:=lE r;have h2:=Ye n;simp only[Er,PyData.depthAll,PyData.depth];omega
theorem lV(xs:List (List Int)):SeqAt.shaped (.list (xs.map λns=>PyData.tuple (ns.map PyData.int)))=true:=by
 have h2:PyData.depth (.list (xs.map λns=>PyData.tuple (ns.map PyData.int)))<=64:=by
  have:=lE xs;simp only[PyData.depth];omega
 show (PyData.canLay0 _ && decide _)=true;rw[P_];exact⟨by simp only[PyData.canLay0];exact lN xs,DK h2⟩
theorem lH:∀xs ys:List (List Int),SeqAt.noMixAll (xs.map λns=>PyData.tuple (ns.map PyData.int)) (ys.map λns=>PyData.tuple (ns.map PyData.int))=true
 | [],[]=>by simp[SeqAt.noMixAll]
 | [],_::_=>by simp[SeqAt.noMixAll]
 | _::_,[]=>by simp[SeqAt.noMixAll]
 | n::r,m::q=>by
  simp only[Er,SeqAt.noMixAll,SeqAt.noMix,P_];exact⟨Vo n m,lH r q⟩
theorem kO:∀xs ys:List (List Int),PySem.Spec.sameAll (xs.map λns=>PyData.tuple (ns.map PyData.int)) (ys.map λns=>PyData.tuple (ns.map PyData.int))=decide (xs=ys)
 | [],[]=>by simp[PySem.Spec.sameAll]
 | [],_::_=>by simp[PySem.Spec.sameAll]
 | _::_,[]=>by simp[PySem.Spec.sameAll]
 | n::r,m::q=>by
  simp only[Er,PySem.Spec.sameAll,PySem.Spec.same,Vk,kO r q];by_cases e:n=m<;>simp[e]
end
section
variable {X:Cx}{scope:Scope}{Nc:W0}{ex:U3}{pins:U1}{s:U7}{H:Hp}
end
end L2
namespace Av
open L2 Pc Dv
noncomputable def top (i:Nat):Stmt:=PySem.Challenge.pw_spinboard_k81_mends_walked_or_the_pair.main.body.getD i (.Pass ⟨0,0,0,0⟩)
structure Bs (mg:U4):Prop where
 isinstance:mg "isinstance"=none
 int:mg "int"=none
 bool:mg "bool"=none
 tuple:mg "tuple"=none
 list:mg "list"=none
 len:mg "len"=none
 range:mg "range"=none
 enumerate:mg "enumerate"=none
 sorted:mg "sorted"=none
 sum:mg "sum"=none
 str:mg "str"=none
 all:mg "all"=none
 any:mg "any"=none
 min:mg "min"=none
 max:mg "max"=none
theorem gW(m:Nat):Builtin.Int.intBits (m:Int)=bl m:=by
 unfold Builtin.Int.intBits bl;by_cases h:m=0
 ·subst h;rfl
 ·have a:((m:Int) == 0)=false:=by simpa using h
  rw[a,if_neg h];simp
noncomputable abbrev T3 (t:Ent):HO:=.tup [.int t.1,.int t.2.1,.int t.2.2]
def Kept (H:Hp):List (Key×V)->List Ent->Prop:=Paired λkv t=>kv.1=Sum.inl (bl t.1:Int)/\∃p,kv.2=.ref p/\H p=some (T3 t)
variable{H H':Hp}{kvs:List (Key×V)}{ts:List Ent}
theorem Kept.same(h:Kept H kvs ts)(s:Same H H'):Kept H' kvs ts :=
 Paired.imp' (λ_ _ ⟨a,p,b,c⟩=>⟨a,p,b,s _ _ c⟩) h
theorem Kept.get{H:Hp}{k:Int}{v:V}:∀{kvs:List (Key×V)}{ts:List Ent},Kept H kvs ts->Bl kvs (Sum.inl k)=some v->∃t∈ts,∃p,(bl t.1:Int)=k/\v=.ref p/\H p=some (T3 t)
 | [],[],_,h=>by simp[xH]at h
 | kv::kvs,t::ts,.cons ⟨a,p,b,c⟩ r,h=>by
  by_cases e:kv.1=Sum.inl k
  ·rw[Ql e]at h;cases h;rw[a]at e;exact⟨t,Iu,p,Sum.inl.inj e,b,c⟩
  ·rw[Qk e]at h;obtain⟨t',m,q⟩:=Kept.get r h;exact⟨t',Iv _ m,q⟩
theorem Kept.none{H:Hp}{k:Int}:∀{kvs:List (Key×V)}{ts:List Ent},Kept H kvs ts->Bl kvs (Sum.inl k)=none->∀t∈ts,(bl t.1:Int)≠k
 | [],[],_,_,t,ht=>by cases ht
 | kv::kvs,t::ts,.cons ⟨a,p,b,c⟩ r,h,t',ht=>by
  by_cases e:kv.1=Sum.inl k
  ·rw[Ql e]at h;cases h
  ·rw[Qk e]at h;rcases Cz.mp ht with rfl | ht
   ·intro z;rw[a,z]at e;exact e rfl
   ·exact Kept.none r h t' ht
theorem Kept.snoc{p:Y3}{t:Ent}(h:Kept H kvs ts)(hp:H p=some (T3 t)):Kept H (kvs++[(Sum.inl (bl t.1:Int),.ref p)]) (ts++[t]):=
 Paired.snoc h ⟨Z,p,Z,hp⟩
theorem Kept.keys{H:Hp}:∀{kvs:List (Key×V)}{ts:List Ent},Kept H kvs ts->kvs.map (·.1)=(ts.map λt=>(bl t.1:Int)).map Sum.inl
 | [],[],_=>rfl
 | kv::kvs,t::ts,.cons ⟨a,_⟩ r=>by rw[Er,Er,Er,Kept.keys r,a]
theorem Kept.length(h:Kept H kvs ts):kvs.length=ts.length:=Paired.length h
noncomputable abbrev T2 (e:Cy):HO:=.tup [.int e.1,.int e.2]
def Eqs (H:Hp):List Addr->List Cy->Prop:=Paired λp e=>H p=some (T2 e)
variable{es:List Cy}
theorem Eqs.same{ps:U3}(h:Eqs H ps es)(s:Same H H'):Eqs H' ps es:=Paired.imp' (λ_ _ c=>s _ _ c) h
theorem Eqs.length{ps:U3}(h:Eqs H ps es):ps.length=es.length:=Paired.length h
theorem Eqs.get{H:Hp}:∀{ps:U3}{es:List Cy}{i:Nat}{p:Y3},Eqs H ps es->ps[i]?=some p->∃e,es[i]?=some e/\H p=some (T2 e)
 | p'::ps,e::es,0,p,.cons a r,h=>by
  have:p'=p:=by simpa using h
  subst this;exact⟨e,Z,a⟩
 | p'::ps,e::es,i+1,p,.cons a r,h=>by
  obtain⟨f,b,c⟩:=Eqs.get (ps:=ps) (es:=es) (i:=i) (p:=p) r (by simpa using h);exact⟨f,by simpa using b,c⟩
structure Lj (es:List Cy):Prop where
 bit:∀e∈es,e.2<2
 mask:∀e∈es,e.1<2^200
theorem jq:∀(es:List Cy) (c:Nat),(∀e∈es,e.1<2^200)->(comb es c).1<2^200
 | [],_,_=>by unfold comb;exact Ei 200
 | e::r,c,h=>by
  have a:=jq r (c / 2) λf b=>h f (Iv _ b);unfold comb;split
  ·exact Ih (h e Iu) a
  ·exact a
def Cg:Sp:=λvs H Q _=>∃n:Nat,vs=[.int n]/\Q (.int (pc n)) H
def pL:Sp:=λvs H Q _=>∃c:Nat,vs=[.int c]/\c<2^64/\∀(l:Y3) (H':Hp),Same H H'->H' l=some (.lst ((places c (bl c)).map λp=>V.int (p:Nat)))->Q (.ref l) H'
def kW:Sp:=λvs H Q _=>∃(p d:Y3) (t:Ent) (kvs:List (Key×V)) (ts:List Ent) (es:List Cy) (i:Nat) (e:Cy),vs=[.ref p,.ref d]/\H p=some (T3 t)/\H d=some (.dK kvs)/\Kept H kvs ts/\Lj es/\Good es i ts/\Left es i ts e t /\
 ∀(p':Y3) (H':Hp) (t':Ent),Same H H'->H' p'=some (T3 t')->Left es i ts e t'->(∀s∈ts,bl s.1≠bl t'.1)->Q (.ref p') H'
section
variable {P:U8}{w:W1}{K:U0}{mg:U4}{base:Heap}{k:Nat}{h:Heap}
theorem X2q(F:Ab K "ones" (top 16) .none)(X:K.In h)(G:Ng h mg):Ao P w K mg base (k+1) "ones" ["number"] Cg:=by
 refine F.cal X G ["number","many","rest"] λa H vs Q E g h=>?_;obtain⟨n,rfl,q⟩:=h
 refine⟨_,(@Az _ _ _ _ _ (@BW _ _ 1 _ _ _ _ a rfl (Or.inl rfl) Ae rfl (.inl rfl))
  (@Az _ _ _ _ _ (@BW _ _ 2 _ _ _ _ a rfl (Or.inl rfl) (pv 0) rfl (.inl rfl))
  (@Az _ _ _ _ _ (WY PassesOwn.never (Bx KZ (pv 2) Ae (Ac _))
   (@Az _ _ _ _ _ (@BW _ _ 2 _ _ _ _ a rfl (Or.inl rfl) (Ah Hj (pv 2) (Ah Ox (pv 2) Ae)) rfl (.inl rfl))
   (@Al _ _ _ (@BW _ _ 1 _ _ _ _ a rfl (Or.inl rfl) (Ah Hx (pv 1) Ae) rfl (.inl rfl)))))
  (@Al _ _ _ (BL (pv 1)))))),?_⟩
 try dsimp only[Cm]
 refine⟨_,Z,λm σ H'=>H'=H/\∃j r:Nat,m=pc r/\j+pc r=pc n/\σ=[some (.int n),some (.int j),some (.int r)],⟨_,Z,0,n,Z,Np _,Z⟩,?_⟩;rintro m σ H' ⟨rfl,j,r,rfl,d,rfl⟩;refine⟨_,Z,Z,_,Z,K7 (λb=>?_) (λb=>?_)⟩
 ·have c:r≠0:=by omega
  have e:=nM (r+1) r (by omega) c;refine⟨_,λi H' x=>x,?_⟩;refine⟨_,Z,_,Z,_,_,Z,Z,_,_,Z,Z,?_⟩;refine⟨_,Z,_,_,Z,Z,⟨pc (r&&&(r-1)),by omega,Z,j+1,r&&&(r-1),Z,by omega,?_⟩⟩;have f:Builtin.bitAnd (r:Int) ((r:Int)-1)=((r&&&(r-1):Nat):Int):=by rw[show (r:Int)-1=((r-1:Nat):Int) by omega,Qq]
  show [some (V.int n),some (V.int ((j:Int)+1)),some (V.int (Builtin.bitAnd (r:Int) ((r:Int)-1)))]=_;rw[f];rfl
 ·have c:r=0:=by omega
  subst c;rw[Gy,Kv]at d;subst d;exact⟨_,Z,q⟩
theorem yt(F:Ab K "cleared" (top 25) .none)(X:K.In h)(G:Ng h mg):Ao P w K mg base (k+1) "cleared" ["equation","kept"] kW:=by
 refine F.cal X G ["equation","kept","left","other"] λl H vs Q E c h=>?_;obtain⟨p,d,t,kvs,ts,es,i,e,rfl,hp,A,C,b,o,M,O⟩:=h
 refine⟨_,(@Az _ _ _ _ _ (@BW _ _ 2 _ _ _ _ l rfl (Or.inl rfl) (pv 0) rfl (.inl rfl))
  (@Az _ _ _ _ _ (WY PassesOwn.never (X5a (X5g (PN c) (Qc Sw QT S_ Um (BR Bk (pv 2) Ae (λ_ _=>rfl))) (pv 1)))
   (@Az _ _ _ _ _ (@BW _ _ 3 _ _ _ _ l rfl (Or.inl rfl) (gw (PN c) (pv 1) (Qc Sw QT S_ Um (BR Bk (pv 2) Ae (λ_ _=>rfl))) (λ_ _=>rfl)) rfl (.inl rfl))
   (@Al _ _ _ (@BW _ _ 2 _ _ _ _ l rfl (Or.inl rfl) (@Cr _ _ _ _ _ (Aa (Ah La (BR Bk (pv 2) Ae (λ_ _=>rfl)) (BR Bk (pv 3) Ae (λ_ _=>rfl))) (Aa (Ah La (BR Bk (pv 2) Ae (λ_ _=>rfl)) (BR Bk (pv 3) Ae (λ_ _=>rfl))) (Aa (Ah La (BR Bk (pv 2) Ae (λ_ _=>rfl)) (BR Bk (pv 3) Ae (λ_ _=>rfl))) Ad)))) rfl (.inl rfl)))))
  (@Al _ _ _ (BL (pv 2))))),?_⟩
 try dsimp only[Cm]
 refine⟨_,Z,λm σ H'=>Same H H'/\∃(q:Y3) (u:Ent) (v:Option V),m=u.1/\H' q=some (T3 u)/\Left es i ts e u/\σ=[some (.ref p),some (.ref d),some (.ref q),v],⟨_,Same.refl _,p,t,none,Z,hp,M,Z⟩,?_⟩;rintro m σ H1 ⟨s1,q,u,v,rfl,y,B,rfl⟩;have S:∀{H'},Same H1 H'->Ak K H' q [.int u.1,.int u.2.1,.int u.2.2]:=λz=>Ak.of (z _ _ y);have I:=gW u.1;refine⟨_,Z,q,_,_,_,Z,Z,S (Same.refl _),Z,Z,_,Z,Z,?_⟩;rw[I];refine⟨_,Z,d,_,Z,GP.k (k:=Sum.inl (bl u.1:Int)) (s1 _ _ A),_,Z,?_⟩;cases hv:Bl kvs (Sum.inl (bl u.1:Int)) with
 | none =>
  refine Ar ⟨_,rfl,?_⟩;exact O q H1 u s1 y B λs L z=>C.none hv s L (by rw[z])
 | some x =>
  obtain⟨t',D,f,J,rfl,j⟩:=C.get hv;have g:=s1 _ _ j;have n:∀{H'},Same H1 H'->Ak K H' f [.int t'.1,.int t'.2.1,.int t'.2.2]:=λz=>Ak.of (z _ _ g);refine Cq ⟨_,λR H' x=>x,?_⟩;refine⟨_,Z,_,Z,q,_,_,_,Z,Z,S (Same.refl _),Z,Z,_,Z,Z,?_⟩;rw[I];refine⟨d,_,Z,(by rw[<-hv];exact GP.k (k:=Sum.inl (bl u.1:Int)) (s1 _ _ A)),?_⟩;refine⟨_,Z,q,_,_,_,Z,Z,S (Same.refl _),Z,_,Z,f,_,_,_,Z,Z,n (Same.refl _),Z,_,_,Z,Z,_,Z,q,_,_,_,Z,Z,S (Same.refl _),Z,_,Z,f,_,_,_,Z,Z,n (Same.refl _),Z,_,_,Z,Z,_,Z,q,_,_,_,Z,Z,S (Same.refl _),Z,_,Z,f,_,_,_,Z,Z,n (Same.refl _),Z,_,_,Z,Z,(by show 3<=sizeLine;decide),λr c=>?_⟩;have a:bl u.1=bl t'.1:=(Int.ofNat.inj J).symm;have N:u.1≠0:=λz=>o.nz t' D (FJ.mp (by rw[<-a,z];rfl));refine⟨u.1^^^t'.1,xK a N,s1.trans (Aw c _),r,(u.1^^^t'.1,u.2.1^^^t'.2.1,u.2.2^^^t'.2.2),_,Z,?_,B.step b.bit o D,Z⟩;rw[Aj];show some (HO.tup [.int (Builtin.bitXor (u.1:Int) t'.1),.int (Builtin.bitXor (u.2.1:Int) t'.2.1),.int (Builtin.bitXor (u.2.2:Int) t'.2.2)])=_;rw[LQ,LQ,LQ]
end
end Av
noncomputable section
namespace Av
open L2
namespace Hd
open PySem.W
set_option maxHeartbeats 0
noncomputable abbrev pr:Program:=PySem.Challenge.pw_spinboard_k81_mends_walked_or_the_pair
abbrev kh:=PyData.keyHash
noncomputable def cg (s:Stmt):Pos:=match s with
 | .FunctionDef _ _ _ _ _ _ _ _ _ p=>p
 | _=>⟨0,0,0,0⟩
noncomputable def life:Life:=(Life.mk [] [] [] 0 [] [] false #[] [] 0 false false false 0 [2000,10,10] false 0 true [] [] 0 false)
noncomputable def en:Env:={ scope:=pr.main.scope,locals:=mainNs,globals:=mainNs,cells:=[],code:=(.ref 13),frame:=some 14}
noncomputable def dn (P:Params)(x:Str)(t:Nat)(v:W3):DictEntry:=DictEntry.mk (kh P x) (.str x t) v
noncomputable def Il (n:Str)(t1:Nat)(q:Str)(t2 t3:Nat)(i1 i2 i3 i4 i5:Int)(r1:Y3)(b:Bool)(i6:Int)(r2:Y3)(v1 v2 v3:W3)(i7 i8:Int)(t4:Nat):Obj:=Obj.mk (.type "code") none (Data.fields #[.str n t1,.str q t2,.str "/claim/cut.py" t3,.int i1 0,.int i2 0,.int i3 0,.int i4 0,.int i5 0,.ref r1,.bool b,.int i6 0,.ref r2,.none,v1,v2,v3,.int i7 0,.int i8 0,.str "/claim/cut.py" t4]) #[]
noncomputable def Oh (n q:Str)(s:Stmt)(k j:Nat):Obj:=Obj.mk .none none (Data.func (FuncData.mk n q (Eb s) (FuncBody.stmts (DN s)) (Br s) k [] .none .none .none .none none .none .none j)) #[]
noncomputable def QX (n q:Str)(s:Stmt)(k:Nat)(m:Str)(t:Nat)(c:Y3)(j:Nat):Obj:=Obj.mk (.type "function") none (Data.func (FuncData.mk n q (Eb s) (FuncBody.stmts (DN s)) (Br s) k [] .none .none .none (.str m t) none (.ref c) .none j)) #[]
noncomputable def tL (T:String)(n:Nat):Obj:=Obj.mk (.type T) none (Data.seq #[] n) #[]
noncomputable def tq (a:U9):Obj:=Obj.mk (.type "tuple") none (Data.seq a 0) #[]
noncomputable def Iw:Obj:=Obj.mk .none none (Data.fields #[]) #[]
abbrev Pz:=Params
noncomputable abbrev tz:Obj:=tL "tuple" 0
noncomputable def iL (t:BT):List (Nat×Obj)->BT
 | []=>t
 | x::l=>iL (t.ins x.1 x.2) l
noncomputable def iF (t:BT):Nat->List Obj->BT
 | _,[]=>t
 | n,x::l=>iF (t.ins n x) (n+1) l
noncomputable def Es (l:List DictEntry)(n:Nat):Obj:=Obj.mk (.type "dict") none (Data.dict (Array.mk l) n) #[]
noncomputable def Dh (l:U5):Obj:=Obj.mk .none none (Data.fields (Array.mk l)) #[]
noncomputable def nt:Nat->List Str->List Value
 | _,[]=>[]
 | t,x::l=>.str x t::nt (t+1) l
noncomputable def dd (m:Str)(mt:Nat)(n:Str)(i:Nat)(l k:Int)(a t:Nat):List Str->List Obj
 | []=>[tz,Iw,Oh n n (top i) 0 0,Il n t n (t+1) (t+2) l k 0 0 3 a true 181 (a+1) .none .none (.ref (a+2)) ((t+3:Nat):Int) l (t+4),QX n n (top i) 3 m mt (a+3) 0]
 | x::xs=>[tz,Iw,Obj.mk (.type "tuple") none (Data.seq (Array.mk (nt (t+3) (x::xs))) 0) #[],tz,Oh n n (top i) 0 0,Il n t n (t+1) (t+2) l k 0 0 3 a true 181 (a+1) (.ref (a+2)) (.ref (a+3)) (.ref (a+4)) ((t+4+xs.length:Nat):Int) l (t+5+xs.length),QX n n (top i) 3 m mt (a+5) 0]
noncomputable def co (n:Str)(A t:Nat):Obj:=Obj.mk (.type "type") none (Data.cls (ClassData.mk n [(.ref 24)] [(.ref (A+9)),(.ref 24),(.type "ValueError"),(.type "Exception"),(.type "BaseException"),(.type "object")] (A+8) n true [] [] false none false)) #[(some (.ref A)),none,(some (.str n t)),(some (.str n (t+8))),(some (.builtin "ValueError.__new__")),(some (.bool true))]
noncomputable def JV (l:W7):Obj:=Obj.mk (.type "type") none (Data.cls (ClassData.mk "BoardError" [(.type "ValueError")] [(.ref 24),(.type "ValueError"),(.type "Exception"),(.type "BaseException"),(.type "object")] 23 "BoardError" true [] (l.map Value.ref) false none false)) #[(some (.ref 15)),none,(some (.str "BoardError" 189)),(some (.str "BoardError" 197)),(some (.builtin "ValueError.__new__")),(some (.bool true))]
noncomputable def uW (n:Str)(i:Nat)(l k:Int)(a t:Nat)(ns:W0):List Obj:=dd "spinboard.shares" 412 n i l k a t ns
noncomputable def Oj (n:Str)(i:Nat)(l k:Int)(a t:Nat)(ns:W0):List Obj:=dd "spinboard.marks" 421 n i l k a t ns
noncomputable def V7 (n:Str)(i:Nat)(l k:Int)(a t:Nat)(ns:W0):List Obj:=dd "spinboard.bits" 480 n i l k a t ns
noncomputable def Oi (n:Str)(i:Nat)(l k:Int)(a t:Nat)(ns:W0):List Obj:=dd "spinboard.tables" 519 n i l k a t ns
noncomputable def uV (n:Str)(i:Nat)(l k:Int)(a t:Nat)(ns:W0):List Obj:=dd "spinboard.guards" 572 n i l k a t ns
noncomputable abbrev e5 (n:Str)(i c:Nat):Obj:=QX n n (top i) 3 "law_spinboard_k81_mends_walked_or_the_pair" 603 c 0
noncomputable def Gb (n:Str)(i:Nat)(l k:Int)(a t:Nat)(ns:W0):List Obj:=dd "law_spinboard_k81_mends_walked_or_the_pair" 603 n i l k a t ns
def aR(P:Pz):=(Il "<module>" 182 "<module>" 183 184 1 0 0 0 0 11 false 181 12 .none .none .none 185 1 186)
noncomputable def aG(P:Pz):=Obj.mk (.type "frame") none Data.plain #[(some (.ref 13)),(some (.ref 3)),(some (.ref 3)),none,(some (.str "__main__" 164)),none,(some (.ref 0))]
def Ha (P:Pz):Heap:=Heap.mk (Array.mk [boot_o_0 P,boot_o_1 P,boot_o_2 P,boot_o_3 P,boot_o_4 P,boot_o_5 P,boot_o_6 P,boot_o_7 P,boot_o_8 P,boot_o_9 P,boot_o_10 P,tz,Iw,aR P,aG P]) life
def T0 (P:Pz):BT:=(.node (boot_o_0 P) (.node (boot_o_1 P) (.node (boot_o_3 P) (.node (boot_o_7 P) .nil .nil) (.node tz .nil .nil)) (.node (boot_o_5 P) (.node (boot_o_9 P) .nil .nil) (.node (aR P) .nil .nil))) (.node (boot_o_2 P) (.node (boot_o_4 P) (.node (boot_o_8 P) .nil .nil) (.node Iw .nil .nil)) (.node (boot_o_6 P) (.node (boot_o_10 P) .nil .nil) (.node (aG P) .nil .nil))))
noncomputable def l0:List Stmt:=[top 0,top 1]
noncomputable def l1:List Stmt:=[top 2]
noncomputable def l2:List Stmt:=[top 3]
noncomputable def l3:List Stmt:=[top 4]
noncomputable def l4:List Stmt:=[top 5]
noncomputable def l5:List Stmt:=[top 6]
noncomputable def l6:List Stmt:=[top 7]
noncomputable def l7:List Stmt:=[top 8]
noncomputable def l8:List Stmt:=[top 9]
noncomputable def l9:List Stmt:=[top 10]
noncomputable def l10:List Stmt:=[top 11]
noncomputable def jj:List Stmt:=[top 12,top 13,top 14,top 15,top 16,top 17,top 18]
noncomputable def Jy:List Stmt:=[top 19,top 20,top 21,top 22,top 23,top 24,top 25,top 26,top 27,top 28,top 29,top 30,top 31,top 32,top 33]
noncomputable def QV:List Stmt:=[top 34,top 35,top 36,top 37,top 38,top 39,top 40,top 41,top 42,top 43,top 44,top 45,top 46,top 47]
noncomputable def jh:List Stmt:=[top 48,top 49,top 50,top 51,top 52,top 53,top 54,top 55,top 56,top 57,top 58,top 59,top 60]
noncomputable def jg:List Stmt:=[top 61,top 62]
noncomputable def bE:List Stmt:=l0++(l1++(l2++(l3++(l4++(l5++(l6++(l7++(l8++(l9++(l10++(jj++(Jy++(QV++(jh++(jg++[])))))))))))))))
noncomputable abbrev cE:Code:=Code.body bE en
noncomputable abbrev BB:List Frame:=[topFrame (Pos.mk 0 0 0 0)]
theorem Yx(w:W1)(os:OsState):topGo treeTable pr w 11 (some (.ref 6)) 12 (Shared.mk (boot_heap w.params) (Array.mk []) boot_drawn boot_toks os) (topStub pr)=some (Shared.mk (Ha w.params) (Array.mk []) (Drawn.mk 0 0 0 0) 187 os,Thread.mk (denote treeTable cE) cE (Pos.mk 0 0 0 0) BB):=by rw[PySem.W.Fast.te15667345088766844465,PySem.W.Fast.te11892475500146522536,PySem.W.Fast.te14364793385576792824];kernel_rfl
theorem X7a(w:W1)(os:OsState):segRun treeTable pr w 11 (some (.ref 6)) 1 1 (Shared.mk (Ha w.params) (Array.mk []) (Drawn.mk 0 0 0 0) 187 os) (blockOf bE en cE (Pos.mk 0 0 0 0) BB)=some (Flow.next,(SharedT.mk (T0 w.params) 15 life (Array.mk []) (Drawn.mk 0 0 0 0) 187 os).abs,cE,(Pos.mk 0 0 0 0)):=by rw[PySem.W.Fast.te14374325043358763698,PySem.W.Fast.te14364793385576792824];kernel_rfl
noncomputable def Q7(P:Pz):List DictEntry:=[(dn P "__doc__" 166 .none),(dn P "__package__" 167 .none),(dn P "__loader__" 168 (.builtin "__main__.__loader__#opaque")),(dn P "__spec__" 169 .none),(dn P "__annotations__" 170 (.ref 6)),(dn P "__builtins__" 171 (.ref 4)),(dn P "__file__" 173 (.str "/claim/cut.py" 172)),(dn P "__cached__" 174 .none),(dn P "BoardError" 206 (.ref 24))]
def Za(P:Pz):=Es ((dn P "__name__" 165 (.str "spinboard.errors" 187))::Q7 P) 10
noncomputable def qW(P:Pz):List Value:=[(.int 2 0),(.int 0 0),(.ref 20)]
def _G(P:Pz):=Dh (qW P)
def uG(P:Pz):=tq #[(.type "ValueError")]
noncomputable def Ti(P:Pz):=Obj.mk (.type "builtin_function_or_method") none (Data.fields #[(.builtin "type.__prepare__"),(.type "type")]) #[]
def uF(P:Pz):=Es [(dn P "__module__" 196 (.str "spinboard.errors" 187)),(dn P "__qualname__" 198 (.str "BoardError" 197)),(dn P "__firstlineno__" 200 (.int 2 199)),(dn P "__static_attributes__" 201 (.ref 22))] 4
def uE(P:Pz):=(Il "BoardError" 191 "BoardError" 192 193 2 0 0 0 0 18 false 181 19 .none .none .none 194 2 195)
noncomputable def t_(P:Pz):=Obj.mk (.type "frame") none Data.plain #[(some (.ref 20)),(some (.ref 3)),(some (.ref 17)),none,(some (.str "spinboard.errors" 187)),none,(some (.ref 0))]
def tZ(P:Pz):=Es [(dn P "__module__" 196 (.str "spinboard.errors" 187)),(dn P "__firstlineno__" 200 (.int 2 199)),(dn P "__static_attributes__" 201 (.ref 22)),(dn P "__weakref__" 203 (.ref 25)),(dn P "__doc__" 204 .none)] 3
def _W(P:Pz):=JV []
noncomputable def tY(P:Pz):=Obj.mk (.type "getset_descriptor") none (Data.fields #[(.str "__weakref__" 202),(.ref 24),(.builtin "ExceptionGroup.__weakref__"),.none]) #[]
noncomputable def tX(P:Pz):=Obj.mk (.type "super") none (Data.fields #[(.ref 24),(.ref 24),(.ref 24)]) #[]
noncomputable def tW(P:Pz):=Obj.mk (.type "builtin_function_or_method") none (Data.fields #[(.builtin "object.__init_subclass__"),(.ref 24)]) #[]
def x1(P:Pz):List Obj:=[uG P,Ti P,uF P,tz,Iw,uE P,t_ P,tz,tZ P,_W P,tY P,tX P,tW P]
def T1 (P:Pz):BT:=iF (iL (T0 P) [(3,Za P),(12,_G P)]) 15 (x1 P)
abbrev gs (p:U8)(b:Y2)(w:W1)(os:OsState)(k:Nat)(T:Pz->BT)(n t:Nat)(l:Y2)(q:Pos)(T':Pz->BT)(n' t':Nat)(q':Pos):Prop:=segRunT treeTable p w 11 (some (.ref 6)) 1 k (SharedT.mk (T w.params) n life (Array.mk []) (Drawn.mk 0 0 0 0) t os) (piecesOf l en (Code.body b en) q BB)=some (Flow.next,(SharedT.mk (T' w.params) n' life (Array.mk []) (Drawn.mk 0 0 0 0) t' os),Code.body b en,q')
theorem g0(p:U8)(b:Y2)(w:W1)(os:OsState):gs p b w os 196 T0 15 187 l0 (Pos.mk 0 0 0 0) T1 28 207 (Pos.mk 2 0 3 8):=by unfold gs;rw[PySem.W.Fast.te10110043849684766642,PySem.W.Fast.te14364793385576792824];kernel_rfl
def Q6(P:Pz):List DictEntry:=Q7 P++[(dn P "NoShare" 222 (.ref 37))]
def ZX(P:Pz):=Es ((dn P "__name__" 165 (.str "spinboard.errors" 187))::Q6 P) 11
def qX(P:Pz):List Value:=qW P++[(.int 4 0),(.int 0 0),(.ref 33)]
def _J(P:Pz):=Dh (qX P)
def _Y(P:Pz):=JV [37]
def V0(P:Pz):=tq #[(.ref 24)]
def cc (P:Pz)(n:Str)(l:Int)(A t:Nat):List Obj:=[V0 P,Ti P,Es [(dn P "__module__" (t+7) (.str "spinboard.errors" 187)),(dn P "__qualname__" (t+9) (.str n (t+8))),(dn P "__firstlineno__" (t+11) (.int l (t+10))),(dn P "__static_attributes__" (t+12) (.ref (A+7)))] 4,tz,Iw,Il n (t+2) n (t+3) (t+4) l 0 0 0 0 (A+3) false 181 (A+4) .none .none .none ((t+5:Nat):Int) l (t+6),Obj.mk (.type "frame") none Data.plain #[(some (.ref (A+5))),(some (.ref 3)),(some (.ref (A+2))),none,(some (.str "spinboard.errors" 187)),none,(some (.ref 0))],tz,Es [(dn P "__module__" (t+7) (.str "spinboard.errors" 187)),(dn P "__firstlineno__" (t+11) (.int l (t+10))),(dn P "__static_attributes__" (t+12) (.ref (A+7))),(dn P "__doc__" (t+13) .none)] 2,co n A t,Obj.mk (.type "super") none (Data.fields #[(.ref (A+9)),(.ref (A+9)),(.ref (A+9))]) #[],Obj.mk (.type "builtin_function_or_method") none (Data.fields #[(.builtin "object.__init_subclass__"),(.ref (A+9))]) #[]]
def j37(P:Pz):=co "NoShare" 28 207
def x2(P:Pz):List Obj:=cc P "NoShare" 4 28 207
def T2 (P:Pz):BT:=iF (iL (T1 P) [(3,ZX P),(12,_J P),(24,_Y P)]) 28 (x2 P)
theorem g1(p:U8)(b:Y2)(w:W1)(os:OsState):gs p b w os 214 T1 28 207 l1 (Pos.mk 2 0 3 8) T2 40 223 (Pos.mk 4 0 5 8):=by unfold gs;rw[PySem.W.Fast.te10110043849684766642,PySem.W.Fast.te14364793385576792824];kernel_rfl
def Q5(P:Pz):List DictEntry:=Q6 P++[(dn P "NoAmount" 238 (.ref 49))]
def ZW(P:Pz):=Es ((dn P "__name__" 165 (.str "spinboard.errors" 187))::Q5 P) 12
def qY(P:Pz):List Value:=qX P++[(.int 6 0),(.int 0 0),(.ref 45)]
def _K(P:Pz):=Dh (qY P)
def _Z(P:Pz):=JV [37,49]
def j49(P:Pz):=co "NoAmount" 40 223
def x3(P:Pz):List Obj:=cc P "NoAmount" 6 40 223
def T3 (P:Pz):BT:=iF (iL (T2 P) [(3,ZW P),(12,_K P),(24,_Z P)]) 40 (x3 P)
theorem g2(p:U8)(b:Y2)(w:W1)(os:OsState):gs p b w os 214 T2 40 223 l2 (Pos.mk 4 0 5 8) T3 52 239 (Pos.mk 6 0 7 8):=by unfold gs;rw[PySem.W.Fast.te10110043849684766642,PySem.W.Fast.te14364793385576792824];kernel_rfl
def Q0(P:Pz):List DictEntry:=Q5 P++[(dn P "NoMark" 254 (.ref 61))]
def ZV(P:Pz):=Es ((dn P "__name__" 165 (.str "spinboard.errors" 187))::Q0 P) 13
def qZ(P:Pz):List Value:=qY P++[(.int 8 0),(.int 0 0),(.ref 57)]
def _L(P:Pz):=Dh (qZ P)
def _j(P:Pz):=JV [37,49,61]
def j61(P:Pz):=co "NoMark" 52 239
def x4(P:Pz):List Obj:=cc P "NoMark" 8 52 239
def T4 (P:Pz):BT:=iF (iL (T3 P) [(3,ZV P),(12,_L P),(24,_j P)]) 52 (x4 P)
theorem g3(p:U8)(b:Y2)(w:W1)(os:OsState):gs p b w os 214 T3 52 239 l3 (Pos.mk 6 0 7 8) T4 64 255 (Pos.mk 8 0 9 8):=by unfold gs;rw[PySem.W.Fast.te10110043849684766642,PySem.W.Fast.te14364793385576792824];kernel_rfl
def Qz(P:Pz):List DictEntry:=Q0 P++[(dn P "NoBoard" 270 (.ref 73))]
def ZS(P:Pz):=Es ((dn P "__name__" 165 (.str "spinboard.errors" 187))::Qz P) 14
def qb(P:Pz):List Value:=qZ P++[(.int 10 0),(.int 0 0),(.ref 69)]
def _M(P:Pz):=Dh (qb P)
def _z(P:Pz):=JV [37,49,61,73]
def j73(P:Pz):=co "NoBoard" 64 255
def x5(P:Pz):List Obj:=cc P "NoBoard" 10 64 255
def T5 (P:Pz):BT:=iF (iL (T4 P) [(3,ZS P),(12,_M P),(24,_z P)]) 64 (x5 P)
theorem g4(p:U8)(b:Y2)(w:W1)(os:OsState):gs p b w os 214 T4 64 255 l4 (Pos.mk 8 0 9 8) T5 76 271 (Pos.mk 10 0 11 8):=by unfold gs;rw[PySem.W.Fast.te10110043849684766642,PySem.W.Fast.te14364793385576792824];kernel_rfl
def Qy(P:Pz):List DictEntry:=Qz P++[(dn P "NoMove" 286 (.ref 85))]
def ZR(P:Pz):=Es ((dn P "__name__" 165 (.str "spinboard.errors" 187))::Qy P) 15
def qd(P:Pz):List Value:=qb P++[(.int 12 0),(.int 0 0),(.ref 81)]
def _O(P:Pz):=Dh (qd P)
def _2(P:Pz):=JV [37,49,61,73,85]
def j85(P:Pz):=co "NoMove" 76 271
def x6(P:Pz):List Obj:=cc P "NoMove" 12 76 271
def T6 (P:Pz):BT:=iF (iL (T5 P) [(3,ZR P),(12,_O P),(24,_2 P)]) 76 (x6 P)
theorem g5(p:U8)(b:Y2)(w:W1)(os:OsState):gs p b w os 214 T5 76 271 l5 (Pos.mk 10 0 11 8) T6 88 287 (Pos.mk 12 0 13 8):=by unfold gs;rw[PySem.W.Fast.te10110043849684766642,PySem.W.Fast.te14364793385576792824];kernel_rfl
def Qx(P:Pz):List DictEntry:=Qy P++[(dn P "NoCell" 302 (.ref 97))]
def ZQ(P:Pz):=Es ((dn P "__name__" 165 (.str "spinboard.errors" 187))::Qx P) 16
def qe(P:Pz):List Value:=qd P++[(.int 14 0),(.int 0 0),(.ref 93)]
def _R(P:Pz):=Dh (qe P)
def _3(P:Pz):=JV [37,49,61,73,85,97]
def j97(P:Pz):=co "NoCell" 88 287
def x7(P:Pz):List Obj:=cc P "NoCell" 14 88 287
def T7 (P:Pz):BT:=iF (iL (T6 P) [(3,ZQ P),(12,_R P),(24,_3 P)]) 88 (x7 P)
theorem g6(p:U8)(b:Y2)(w:W1)(os:OsState):gs p b w os 214 T6 88 287 l6 (Pos.mk 12 0 13 8) T7 100 303 (Pos.mk 14 0 15 8):=by unfold gs;rw[PySem.W.Fast.te10110043849684766642,PySem.W.Fast.te14364793385576792824];kernel_rfl
def Qw(P:Pz):List DictEntry:=Qx P++[(dn P "NeverSo" 318 (.ref 109))]
def ZP(P:Pz):=Es ((dn P "__name__" 165 (.str "spinboard.errors" 187))::Qw P) 17
def qg(P:Pz):List Value:=qe P++[(.int 16 0),(.int 0 0),(.ref 105)]
def _V(P:Pz):=Dh (qg P)
def _4(P:Pz):=JV [37,49,61,73,85,97,109]
def uH(P:Pz):=co "NeverSo" 100 303
def x8(P:Pz):List Obj:=cc P "NeverSo" 16 100 303
def T8 (P:Pz):BT:=iF (iL (T7 P) [(3,ZP P),(12,_V P),(24,_4 P)]) 100 (x8 P)
theorem g7(p:U8)(b:Y2)(w:W1)(os:OsState):gs p b w os 214 T7 100 303 l7 (Pos.mk 14 0 15 8) T8 112 319 (Pos.mk 16 0 17 8):=by unfold gs;rw[PySem.W.Fast.te10110043849684766642,PySem.W.Fast.te14364793385576792824];kernel_rfl
def qj(P:Pz):List DictEntry:=Qw P++[(dn P "NoTable" 334 (.ref 121))]
def _6(P:Pz):=Es ((dn P "__name__" 165 (.str "spinboard.errors" 187))::qj P) 18
def sS(P:Pz):List Value:=qg P++[(.int 18 0),(.int 0 0),(.ref 117)]
def X6l(P:Pz):=Dh (sS P)
def X6e(P:Pz):=JV [37,49,61,73,85,97,109,121]
def aY(P:Pz):=co "NoTable" 112 319
def x9(P:Pz):List Obj:=cc P "NoTable" 18 112 319
def T9 (P:Pz):BT:=iF (iL (T8 P) [(3,_6 P),(12,X6l P),(24,X6e P)]) 112 (x9 P)
theorem g8(p:U8)(b:Y2)(w:W1)(os:OsState):gs p b w os 214 T8 112 319 l8 (Pos.mk 16 0 17 8) T9 124 335 (Pos.mk 18 0 19 8):=by unfold gs;rw[PySem.W.Fast.te10110043849684766642,PySem.W.Fast.te14364793385576792824];kernel_rfl
def qm(P:Pz):List DictEntry:=qj P++[(dn P "NoText" 359 (.ref 140))]
def _7(P:Pz):=Es ((dn P "__name__" 165 (.str "spinboard.errors" 187))::qm P) 19
def sV(P:Pz):List Value:=sS P++[(.int 20 0),(.int 0 0),(.ref 129)]
def X6k(P:Pz):=Dh (sV P)
def X6d(P:Pz):=JV [37,49,61,73,85,97,109,121,140]
def aX(P:Pz):=Es [(dn P "__module__" 342 (.str "spinboard.errors" 187)),(dn P "__qualname__" 344 (.str "NoText" 343)),(dn P "__firstlineno__" 346 (.int 20 345)),(dn P "__init__" 354 (.ref 137)),(dn P "__static_attributes__" 356 (.ref 138))] 5
noncomputable def aW(P:Pz):=Obj.mk .none none (Data.fields #[(.int 22 0),(.int 4 0),(.ref 136)]) #[]
def aV(P:Pz):=(Il "NoText" 337 "NoText" 338 339 20 0 0 0 0 127 false 181 128 .none .none .none 340 20 341)
noncomputable def aQ(P:Pz):=Obj.mk (.type "frame") none Data.plain #[(some (.ref 129)),(some (.ref 3)),(some (.ref 126)),none,(some (.str "spinboard.errors" 187)),none,(some (.ref 0))]
def aO(P:Pz):=tq #[(.str "self" 350),(.str "place" 351)]
noncomputable def aN(P:Pz):=Obj.mk .none none (Data.func (FuncData.mk "__init__" "NoText.__init__" (Eb (JB (top 10) 0)) (FuncBody.stmts (DN (JB (top 10) 0))) (Br (JB (top 11) 0)) 0 [] .none .none .none .none none .none .none 0)) #[]
def aM(P:Pz):=(Il "__init__" 347 "NoText.__init__" 348 349 22 2 0 0 3 131 true 181 132 (.ref 133) (.ref 134) (.ref 135) 352 22 353)
noncomputable def aK(P:Pz):=Obj.mk (.type "function") none (Data.func (FuncData.mk "__init__" "NoText.__init__" (Eb (JB (top 10) 0)) (FuncBody.stmts (DN (JB (top 10) 0))) (Br (JB (top 11) 0)) 3 [] .none .none .none (.str "spinboard.errors" 187) none (.ref 136) .none 0)) #[]
def aJ(P:Pz):=tq #[(.str "place" 355)]
def aH(P:Pz):=Es [(dn P "__module__" 342 (.str "spinboard.errors" 187)),(dn P "__firstlineno__" 346 (.int 20 345)),(dn P "__init__" 354 (.ref 137)),(dn P "__static_attributes__" 356 (.ref 138)),(dn P "__doc__" 357 .none)] 2
noncomputable def aF(P:Pz):=Obj.mk (.type "type") none (Data.cls (ClassData.mk "NoText" [(.ref 24)] [(.ref 140),(.ref 24),(.type "ValueError"),(.type "Exception"),(.type "BaseException"),(.type "object")] 139 "NoText" true [] [] false none false)) #[(some (.ref 124)),none,(some (.str "NoText" 335)),(some (.str "NoText" 343)),(some (.builtin "ValueError.__new__")),(some (.bool true))]
noncomputable def aC(P:Pz):=Obj.mk (.type "super") none (Data.fields #[(.ref 140),(.ref 140),(.ref 140)]) #[]
noncomputable def aB(P:Pz):=Obj.mk (.type "builtin_function_or_method") none (Data.fields #[(.builtin "object.__init_subclass__"),(.ref 140)]) #[]
def x10(P:Pz):List Obj:=[V0 P,Ti P,aX P,tz,aW P,aV P,aQ P,tz,Iw,aO P,tz,aN P,aM P,aK P,aJ P,aH P,aF P,aC P,aB P]
def iU (P:Pz):BT:=iF (iL (T9 P) [(3,_7 P),(12,X6k P),(24,X6d P)]) 124 (x10 P)
theorem g9(p:U8)(b:Y2)(w:W1)(os:OsState):gs p b w os 246 T9 124 335 l9 (Pos.mk 18 0 19 8) iU 143 360 (Pos.mk 20 0 23 26):=by unfold gs;rw[PySem.W.Fast.te10110043849684766642,PySem.W.Fast.te14364793385576792824];kernel_rfl
def qp(P:Pz):List DictEntry:=qm P++[(dn P "NotBorne" 384 (.ref 159))]
def _8(P:Pz):=Es ((dn P "__name__" 165 (.str "spinboard.errors" 187))::qp P) 20
def sW(P:Pz):List Value:=sV P++[(.int 24 0),(.int 0 0),(.ref 148)]
def X6j(P:Pz):=Dh (sW P)
def X6c(P:Pz):=JV [37,49,61,73,85,97,109,121,140,159]
def aA(P:Pz):=Es [(dn P "__module__" 367 (.str "spinboard.errors" 187)),(dn P "__qualname__" 369 (.str "NotBorne" 368)),(dn P "__firstlineno__" 371 (.int 24 370)),(dn P "__init__" 379 (.ref 156)),(dn P "__static_attributes__" 381 (.ref 157))] 5
noncomputable def Z_(P:Pz):=Obj.mk .none none (Data.fields #[(.int 26 0),(.int 4 0),(.ref 155)]) #[]
def Z9(P:Pz):=(Il "NotBorne" 362 "NotBorne" 363 364 24 0 0 0 0 146 false 181 147 .none .none .none 365 24 366)
noncomputable def Z8(P:Pz):=Obj.mk (.type "frame") none Data.plain #[(some (.ref 148)),(some (.ref 3)),(some (.ref 145)),none,(some (.str "spinboard.errors" 187)),none,(some (.ref 0))]
def Z7(P:Pz):=tq #[(.str "self" 375),(.str "place" 376)]
def Z6(P:Pz):=(Oh "__init__" "NotBorne.__init__" (JB (top 11) 0) 0 0)
def Z5(P:Pz):=(Il "__init__" 372 "NotBorne.__init__" 373 374 26 2 0 0 3 150 true 181 151 (.ref 152) (.ref 153) (.ref 154) 377 26 378)
def Z4(P:Pz):=(QX "__init__" "NotBorne.__init__" (JB (top 11) 0) 3 "spinboard.errors" 187 155 0)
def Z2(P:Pz):=tq #[(.str "place" 380)]
def Z1(P:Pz):=Es [(dn P "__module__" 367 (.str "spinboard.errors" 187)),(dn P "__firstlineno__" 371 (.int 24 370)),(dn P "__init__" 379 (.ref 156)),(dn P "__static_attributes__" 381 (.ref 157)),(dn P "__doc__" 382 .none)] 2
noncomputable def Z0(P:Pz):=Obj.mk (.type "type") none (Data.cls (ClassData.mk "NotBorne" [(.ref 24)] [(.ref 159),(.ref 24),(.type "ValueError"),(.type "Exception"),(.type "BaseException"),(.type "object")] 158 "NotBorne" true [] [] false none false)) #[(some (.ref 143)),none,(some (.str "NotBorne" 360)),(some (.str "NotBorne" 368)),(some (.builtin "ValueError.__new__")),(some (.bool true))]
noncomputable def Zz(P:Pz):=Obj.mk (.type "super") none (Data.fields #[(.ref 159),(.ref 159),(.ref 159)]) #[]
noncomputable def Zy(P:Pz):=Obj.mk (.type "builtin_function_or_method") none (Data.fields #[(.builtin "object.__init_subclass__"),(.ref 159)]) #[]
def x11(P:Pz):List Obj:=[V0 P,Ti P,aA P,tz,Z_ P,Z9 P,Z8 P,tz,Iw,Z7 P,tz,Z6 P,Z5 P,Z4 P,Z2 P,Z1 P,Z0 P,Zz P,Zy P]
def Pb (P:Pz):BT:=iF (iL (iU P) [(3,_8 P),(12,X6j P),(24,X6c P)]) 143 (x11 P)
theorem uO(p:U8)(b:Y2)(w:W1)(os:OsState):gs p b w os 246 iU 143 360 l10 (Pos.mk 20 0 23 26) Pb 162 385 (Pos.mk 24 0 27 26):=by unfold gs;rw[PySem.W.Fast.te10110043849684766642,PySem.W.Fast.te14364793385576792824];kernel_rfl
def qt(P:Pz):List DictEntry:=qp P++[(dn P "Unguarded" 411 (.ref 178)),(dn P "is_whole" 420 (.ref 187)),(dn P "ones" 431 (.ref 194)),(dn P "is_word" 439 (.ref 201)),(dn P "is_mark" 447 (.ref 208))]
def _9(P:Pz):=Es ((dn P "__name__" 165 (.str "spinboard.marks" 421))::qt P) 25
def mH(P:Pz):List Value:=sW P++[(.int 28 0),(.int 0 0),(.ref 167),(.int 34 0),(.int 0 0),(.ref 186),(.int 37 0),(.int 0 0),(.ref 193),(.int 44 0),(.int 0 0),(.ref 200),(.int 48 0),(.int 0 0),(.ref 207)]
def X6i(P:Pz):=Dh (mH P)
def gG(P:Pz):=JV [37,49,61,73,85,97,109,121,140,159,178]
def Zx(P:Pz):=Es [(dn P "__module__" 392 (.str "spinboard.errors" 187)),(dn P "__qualname__" 394 (.str "Unguarded" 393)),(dn P "__firstlineno__" 396 (.int 28 395)),(dn P "__init__" 405 (.ref 175)),(dn P "__static_attributes__" 408 (.ref 176))] 5
noncomputable def Zw(P:Pz):=Obj.mk .none none (Data.fields #[(.int 30 0),(.int 4 0),(.ref 174)]) #[]
def Zv(P:Pz):=(Il "Unguarded" 387 "Unguarded" 388 389 28 0 0 0 0 165 false 181 166 .none .none .none 390 28 391)
noncomputable def Zu(P:Pz):=Obj.mk (.type "frame") none Data.plain #[(some (.ref 167)),(some (.ref 3)),(some (.ref 164)),none,(some (.str "spinboard.errors" 187)),none,(some (.ref 0))]
def Zt(P:Pz):=tq #[(.str "self" 400),(.str "one" 401),(.str "other" 402)]
def Zr(P:Pz):=(Oh "__init__" "Unguarded.__init__" (JB (top 12) 0) 0 0)
def Zq(P:Pz):=(Il "__init__" 397 "Unguarded.__init__" 398 399 30 3 0 0 3 169 true 181 170 (.ref 171) (.ref 172) (.ref 173) 403 30 404)
def Tg(P:Pz):=(QX "__init__" "Unguarded.__init__" (JB (top 12) 0) 3 "spinboard.errors" 187 174 0)
def Zm(P:Pz):=tq #[(.str "one" 406),(.str "other" 407)]
def Zk(P:Pz):=Es [(dn P "__module__" 392 (.str "spinboard.errors" 187)),(dn P "__firstlineno__" 396 (.int 28 395)),(dn P "__init__" 405 (.ref 175)),(dn P "__static_attributes__" 408 (.ref 176)),(dn P "__doc__" 409 .none)] 2
noncomputable def Tf(P:Pz):=Obj.mk (.type "type") none (Data.cls (ClassData.mk "Unguarded" [(.ref 24)] [(.ref 178),(.ref 24),(.type "ValueError"),(.type "Exception"),(.type "BaseException"),(.type "object")] 177 "Unguarded" true [] [] false none false)) #[(some (.ref 162)),none,(some (.str "Unguarded" 385)),(some (.str "Unguarded" 393)),(some (.builtin "ValueError.__new__")),(some (.bool true))]
noncomputable def Zj(P:Pz):=Obj.mk (.type "super") none (Data.fields #[(.ref 178),(.ref 178),(.ref 178)]) #[]
noncomputable def Zi(P:Pz):=Obj.mk (.type "builtin_function_or_method") none (Data.fields #[(.builtin "object.__init_subclass__"),(.ref 178)]) #[]
def x12(P:Pz):List Obj:=[V0 P,Ti P,Zx P,tz,Zw P,Zv P,Zu P,tz,Iw,Zt P,tz,Zr P,Zq P,Tg P,Zm P,Zk P,Tf P,Zj P,Zi P]++(uW "is_whole" 14 34 1 181 414 ["thing"]++(Oj "ones" 16 37 1 188 423 ["number","many","rest"]++(Oj "is_word" 17 44 2 195 432 ["thing","cells"]++(Oj "is_mark" 18 48 2 202 440 ["thing","cells"]))))
def Uy (P:Pz):BT:=iF (iL (Pb P) [(3,_9 P),(12,X6i P),(24,gG P)]) 162 (x12 P)
theorem uN(p:U8)(b:Y2)(w:W1)(os:OsState):gs p b w os 386 Pb 162 385 jj (Pos.mk 24 0 27 26) Uy 209 448 (Pos.mk 48 0 53 64):=by unfold gs;rw[PySem.W.Fast.te10110043849684766642,PySem.W.Fast.te14364793385576792824];kernel_rfl
def qu(P:Pz):List DictEntry:=qt P++[(dn P "is_even" 454 (.ref 215)),(dn P "is_even_mark" 462 (.ref 222)),(dn P "commute" 470 (.ref 229)),(dn P "product" 479 (.ref 236)),(dn P "solved" 492 (.ref 243)),(dn P "cleared" 502 (.ref 250)),(dn P "places_at_one" 508 (.ref 255)),(dn P "solution" 518 (.ref 262)),(dn P "PRODUCT_OF_NONE" 524 (.ref 263)),(dn P "is_table" 530 (.ref 268)),(dn P "commutes_with_all" 536 (.ref 273)),(dn P "check_table" 544 (.ref 280)),(dn P "made_of" 550 (.ref 285))]
def X7u(P:Pz):=Es ((dn P "__name__" 165 (.str "spinboard.tables" 519))::qu P) 38
def mJ(P:Pz):List Value:=mH P++[(.int 54 0),(.int 0 0),(.ref 214),(.int 56 0),(.int 0 0),(.ref 221),(.int 58 0),(.int 0 0),(.ref 228),(.int 60 0),(.int 0 0),(.ref 235),(.int 64 0),(.int 0 0),(.ref 242),(.int 73 0),(.int 0 0),(.ref 249),(.int 79 0),(.int 0 0),(.ref 254),(.int 81 0),(.int 0 0),(.ref 261),(.int 90 0),(.int 0 0),(.ref 267),(.int 98 0),(.int 0 0),(.ref 272),(.int 100 0),(.int 0 0),(.ref 279),(.int 103 0),(.int 0 0),(.ref 284)]
def X6h(P:Pz):=Dh (mJ P)
def Te(P:Pz):=tq #[(.int 0 521),(.int 0 522),(.int 0 523)]
def i_(P:Pz):List Obj:=Oj "is_even" 19 54 1 209 448 ["mark"]++(Oj "is_even_mark" 20 56 2 216 455 ["thing","cells"]++(Oj "commute" 21 58 2 223 463 ["one","other"]++(Oj "product" 22 60 2 230 471 ["one","other","met"]++(V7 "solved" 24 64 1 237 482 ["equations","kept","place","equation","left"]++(V7 "cleared" 25 73 2 244 493 ["equation","kept","left","other"]++(V7 "places_at_one" 26 79 1 251 503 []++(V7 "solution" 27 81 1 256 509 ["kept","x","height","equation"]++([Te P]++(Oi "is_table" 30 90 2 264 525 []++(Oi "commutes_with_all" 31 98 2 269 531 []++(Oi "check_table" 32 100 2 274 537 ["rows","cells"]++(Oi "made_of" 33 103 3 281 545 []))))))))))))
def Kf (P:Pz):BT:=iF (iL (Uy P) [(3,X7u P),(12,X6h P)]) 209 (i_ P)
theorem uM(p:U8)(b:Y2)(w:W1)(os:OsState):gs p b w os 383 Uy 209 448 Jy (Pos.mk 48 0 53 64) Kf 286 551 (Pos.mk 103 0 111 53):=by unfold gs;rw[PySem.W.Fast.te10110043849684766642,PySem.W.Fast.te14364793385576792824];kernel_rfl
def qw(P:Pz):List DictEntry:=qu P++[(dn P "rows_with" 556 (.ref 290)),(dn P "product_of" 565 (.ref 297)),(dn P "apart_by" 571 (.ref 302)),(dn P "wrongs" 584 (.ref 310)),(dn P "answers" 590 (.ref 315)),(dn P "mends" 602 (.ref 323)),(dn P "_law_cell_at" 612 (.ref 330)),(dn P "_law_whole" 619 (.ref 337)),(dn P "_law_ones" 627 (.ref 344)),(dn P "_law_apart" 635 (.ref 351)),(dn P "_law_order" 645 (.ref 358)),(dn P "_law_written" 662 (.ref 365))]
def X7t(P:Pz):=Es ((dn P "__name__" 165 (.str "law_spinboard_k81_mends_walked_or_the_pair" 603))::qw P) 50
def mK(P:Pz):List Value:=mJ P++[(.int 112 0),(.int 0 0),(.ref 289),(.int 114 0),(.int 0 0),(.ref 296),(.int 119 0),(.int 0 0),(.ref 301),(.int 124 0),(.int 0 0),(.ref 309),(.int 130 0),(.int 0 0),(.ref 314),(.int 132 0),(.int 0 0),(.ref 322),(.int 141 0),(.int 0 0),(.ref 329),(.int 145 0),(.int 0 0),(.ref 336),(.int 147 0),(.int 0 0),(.ref 343),(.int 153 0),(.int 0 0),(.ref 350),(.int 155 0),(.int 0 0),(.ref 357),(.int 162 0),(.int 0 0),(.ref 364)]
def X6g(P:Pz):=Dh (mK P)
def K8(P:Pz):=tq #[.none]
def Zg(P:Pz):=tq #[(.str "cells" 577),(.str "where" 578),(.str "told" 579),(.str "cell" 580),(.str "bit" 581)]
def Zf(P:Pz):=(Oh "wrongs" "wrongs" (top 38) 0 0)
def Ze(P:Pz):=(Il "wrongs" 574 "wrongs" 575 576 124 2 0 0 3 304 true 181 305 (.ref 306) (.ref 307) (.ref 308) 582 124 583)
noncomputable def Td(P:Pz):=Obj.mk (.type "function") none (Data.func (FuncData.mk "wrongs" "wrongs" (Eb (top 38)) (FuncBody.stmts (DN (top 38))) (Br (top 38)) 3 [] (.ref 303) .none .none (.str "spinboard.guards" 572) none (.ref 309) .none 0)) #[]
def Zd(P:Pz):=tq #[(.str "rows" 594),(.str "cells" 595),(.str "where" 596),(.str "firsts" 597),(.str "wrong" 598),(.str "first" 599)]
def Zc(P:Pz):=(Oh "mends" "mends" (top 40) 0 0)
def Zb(P:Pz):=(Il "mends" 591 "mends" 592 593 132 3 0 0 3 317 true 181 318 (.ref 319) (.ref 320) (.ref 321) 600 132 601)
noncomputable def Tc(P:Pz):=Obj.mk (.type "function") none (Data.func (FuncData.mk "mends" "mends" (Eb (top 40)) (FuncBody.stmts (DN (top 40))) (Br (top 40)) 3 [] (.ref 316) .none .none (.str "spinboard.guards" 572) none (.ref 322) .none 0)) #[]
def iz(P:Pz):List Obj:=Oi "rows_with" 34 112 3 286 551 []++(Oi "product_of" 35 114 1 291 557 ["marks","made","mark"]++(Oi "apart_by" 36 119 2 298 566 []++([K8 P,tz,Iw,Zg P,tz,Zf P,Ze P,Td P]++(uV "answers" 39 130 2 311 585 []++([K8 P,tz,Iw,Zd P,tz,Zc P,Zb P,Tc P]++(Gb "_law_cell_at" 42 141 2 324 605 ["_law_script","_law_k"]++(Gb "_law_whole" 43 145 1 331 613 ["_law_found"]++(Gb "_law_ones" 44 147 1 338 620 ["_law_number","_law_many"]++(Gb "_law_apart" 45 153 2 345 628 ["_law_one","_law_other"]++(Gb "_law_order" 46 155 2 352 636 ["_law_many","_law_cell","_law_left","_law_order_here"]++(Gb "_law_written" 47 162 3 359 646 ["_law_words","_law_names","_law_cell","_law_found","_law_word","_law_f","_law_s","_law_far","_law_at","_law_sign","_law_letters"])))))))))))
def iT (P:Pz):BT:=iF (iL (Kf P) [(3,X7t P),(12,X6g P)]) 286 (iz P)
theorem uL(p:U8)(b:Y2)(w:W1)(os:OsState):gs p b w os 387 Kf 286 551 QV (Pos.mk 103 0 111 53) iT 366 663 (Pos.mk 162 0 176 21):=by unfold gs;rw[PySem.W.Fast.te10110043849684766642,PySem.W.Fast.te14364793385576792824];kernel_rfl
def qx(P:Pz):List DictEntry:=qw P++[(dn P "_law_left_over" 672 (.ref 372)),(dn P "_law_basis" 678 (.ref 377)),(dn P "_law_kept" 684 (.ref 382)),(dn P "_law_table_by" 690 (.ref 387)),(dn P "_law_where_by" 700 (.ref 394)),(dn P "_law_is_mark" 706 (.ref 399)),(dn P "_law_wrongs" 716 (.ref 406)),(dn P "_law_is_another" 723 (.ref 413)),(dn P "_law_told" 734 (.ref 421)),(dn P "_law_answered" 740 (.ref 426)),(dn P "_law_with" 748 (.ref 433)),(dn P "_law_pair" 760 (.ref 440)),(dn P "_law_mends" 766 (.ref 445))]
def X7s(P:Pz):=Es ((dn P "__name__" 165 (.str "law_spinboard_k81_mends_walked_or_the_pair" 603))::qx P) 63
def mL(P:Pz):List Value:=mK P++[(.int 177 0),(.int 0 0),(.ref 371),(.int 182 0),(.int 0 0),(.ref 376),(.int 189 0),(.int 0 0),(.ref 381),(.int 200 0),(.int 0 0),(.ref 386),(.int 215 0),(.int 0 0),(.ref 393),(.int 219 0),(.int 0 0),(.ref 398),(.int 223 0),(.int 0 0),(.ref 405),(.int 230 0),(.int 0 0),(.ref 412),(.int 236 0),(.int 0 0),(.ref 420),(.int 249 0),(.int 0 0),(.ref 425),(.int 255 0),(.int 0 0),(.ref 432),(.int 257 0),(.int 0 0),(.ref 439),(.int 267 0),(.int 0 0),(.ref 444)]
def X6f(P:Pz):=Dh (mL P)
def TY(P:Pz):=tq #[(.bool true)]
def ZM(P:Pz):=tq #[(.str "_law_rows" 727),(.str "_law_cells" 728),(.str "_law_where" 729),(.str "_law_by" 730),(.str "_law_e" 731)]
def ZL(P:Pz):=(Oh "_law_told" "_law_told" (top 56) 0 0)
def ZK(P:Pz):=(Il "_law_told" 724 "_law_told" 725 726 236 4 0 0 3 415 true 181 416 (.ref 417) (.ref 418) (.ref 419) 732 236 733)
noncomputable def TX(P:Pz):=Obj.mk (.type "function") none (Data.func (FuncData.mk "_law_told" "_law_told" (Eb (top 56)) (FuncBody.stmts (DN (top 56))) (Br (top 56)) 3 [] (.ref 414) .none .none (.str "law_spinboard_k81_mends_walked_or_the_pair" 603) none (.ref 420) .none 0)) #[]
def iy(P:Pz):List Obj:=Gb "_law_left_over" 48 177 2 366 663 ["_law_mark","_law_basis_here","_law_vector","_law_one"]++(Gb "_law_basis" 49 182 1 373 673 []++(Gb "_law_kept" 50 189 3 378 679 []++(Gb "_law_table_by" 51 200 1 383 685 []++(Gb "_law_where_by" 52 215 2 388 691 ["_law_cells","_law_cell","_law_far","_law_order_here"]++(Gb "_law_is_mark" 53 219 2 395 701 []++(Gb "_law_wrongs" 54 223 2 400 707 ["_law_cells","_law_where","_law_due","_law_cell"]++(Gb "_law_is_another" 55 230 1 407 717 ["_law_e"]++([TY P,tz,Iw,ZM P,tz,ZL P,ZK P,TX P]++(Gb "_law_answered" 57 249 2 422 735 []++(Gb "_law_with" 58 255 2 427 741 ["_law_one","_law_other"]++(Gb "_law_pair" 59 257 4 434 749 ["_law_pair_here","_law_due","_law_rows","_law_basis_here","_law_one","_law_key"]++(Gb "_law_mends" 60 267 4 441 761 []))))))))))))
def T15 (P:Pz):BT:=iF (iL (iT P) [(3,X7s P),(12,X6f P)]) 366 (iy P)
theorem uK(p:U8)(b:Y2)(w:W1)(os:OsState):gs p b w os 380 iT 366 663 jh (Pos.mk 162 0 176 21) T15 446 767 (Pos.mk 267 0 283 15):=by unfold gs;rw[PySem.W.Fast.te10110043849684766642,PySem.W.Fast.te14364793385576792824];kernel_rfl
def X7h(P:Pz):List DictEntry:=qx P++[(dn P "_law_no_table" 783 (.ref 452)),(dn P "law" 789 (.ref 457))]
def qF(P:Pz):=Es ((dn P "__name__" 165 (.str "law_spinboard_k81_mends_walked_or_the_pair" 603))::X7h P) 65
def X4o(P:Pz):List Value:=mL P++[(.int 284 0),(.int 0 0),(.ref 451),(.int 302 0),(.int 0 0),(.ref 456)]
def rO(P:Pz):=Dh (X4o P)
def iw(P:Pz):List Obj:=Gb "_law_no_table" 61 284 4 446 767 ["_law_rows","_law_cells","_law_where","_law_cell","_law_spoiled","_law_far","_law_more","_law_way","_law_q","_law_f","_law_s"]++(Gb "law" 62 302 1 453 784 [])
def sX (P:Pz):BT:=iF (iL (T15 P) [(3,qF P),(12,rO P)]) 446 (iw P)
theorem uJ(p:U8)(b:Y2)(w:W1)(os:OsState):gs p b w os 66 T15 446 767 jg (Pos.mk 267 0 283 15) sX 458 790 (Pos.mk 302 0 328 99):=by unfold gs;rw[PySem.W.Fast.te10110043849684766642,PySem.W.Fast.te14364793385576792824];kernel_rfl
def Hl(P:Pz):List Obj:=[boot_o_0 P,boot_o_1 P,boot_o_2 P,qF P,boot_o_4 P,boot_o_5 P,boot_o_6 P,boot_o_7 P,boot_o_8 P,boot_o_9 P,boot_o_10 P,tz,rO P,aR P,aG P]++(((x1 P).set 9 (gG P))++((x2 P)++((x3 P)++((x4 P)++((x5 P)++((x6 P)++((x7 P)++((x8 P)++((x9 P)++((x10 P)++((x11 P)++((x12 P)++((i_ P)++((iz P)++((iy P)++(iw P))))))))))))))))
def Hf (P:Pz):Heap:=Heap.mk (Array.mk (Hl P)) life
theorem bh(w:W1)(os:OsState):topRun treeTable pr w 11 (some (.ref 6)) 2 ((SharedT.mk (sX w.params) 458 life (Array.mk []) (Drawn.mk 0 0 0 0) 790 os).abs) (Thread.mk (doneF .next) cE (Pos.mk 302 0 328 99) BB)=some (Shared.mk (Hf w.params) (Array.mk []) (Drawn.mk 0 0 0 0) 790 os):=by rw[PySem.W.Fast.te14082659384304107361,PySem.W.Fast.te14364793385576792824];kernel_rfl
noncomputable abbrev MM:Nat:=12+(1+(196+(214+(214+(214+(214+(214+(214+(214+(214+(246+(246+(386+(383+(387+(380+(66+2)))))))))))))))))
theorem Xz(w:W1)(os:OsState):topRun treeTable pr w 11 (some (.ref 6)) MM (Shared.mk (boot_heap w.params) (Array.mk []) boot_drawn boot_toks os) (topStub pr)=some (Shared.mk (Hf w.params) (Array.mk []) (Drawn.mk 0 0 0 0) 790 os):=go_top (Yx w os) (piece_block (X7a w os) (Hg (Hh (g0 _ _ w os)) (Hg (Hh (g1 _ _ w os)) (Hg (Hh (g2 _ _ w os)) (Hg (Hh (g3 _ _ w os)) (Hg (Hh (g4 _ _ w os)) (Hg (Hh (g5 _ _ w os)) (Hg (Hh (g6 _ _ w os)) (Hg (Hh (g7 _ _ w os)) (Hg (Hh (g8 _ _ w os)) (Hg (Hh (g9 _ _ w os)) (Hg (Hh (uO _ _ w os)) (Hg (Hh (uN _ _ w os)) (Hg (Hh (uM _ _ w os)) (Hg (Hh (uL _ _ w os)) (Hg (Hh (uK _ _ w os)) (Hg (Hh (uJ _ _ w os)) (piece_nil (bh w os)))))))))))))))))))
noncomputable def qq:Program:={pr with main:={ pr.main with body:=[top 1,top 2,top 3,top 4,top 5,top 6,top 7,top 8,top 9,top 10,top 11,top 12,top 14,top 16,top 17,top 18,top 19,top 20,top 21,top 22,top 24,top 25,top 26,top 27,top 29,top 30,top 31,top 32,top 33,top 34,top 35,top 36,top 39,top 42,top 43,top 44,top 45,top 46,top 47,top 48,top 49,top 50,top 51,top 52,top 53,top 54,top 55,top 57,top 58,top 59,top 60,top 61,top 62]}}
noncomputable def loose:List PySem.Str:=[Str.ofString "wrongs",Str.ofString "mends",Str.ofString "_law_told"]
noncomputable def lv:List (PySem.Str×WData):=[]
noncomputable abbrev NN:Nat:=8098
noncomputable def aa:List Addr:=[2,3,15,22,23,24,25,28,35,36,37,40,47,48,49,52,59,60,61,64,71,72,73,76,83,84,85,88,95,96,97,100,107,108,109,112,119,120,121,124,131,133,134,136,137,138,139,140,143,150,152,153,155,156,157,158,159,162,169,171,172,174,175,176,177,178,181,183,184,186,187,188,190,191,193,194,195,197,198,200,201,202,204,205,207,208,209,211,212,214,215,216,218,219,221,222,223,225,226,228,229,230,232,233,235,236,237,239,240,242,243,244,246,247,249,250,251,254,255,256,258,259,261,262,263,264,267,268,269,272,273,274,276,277,279,280,281,284,285,286,289,290,291,293,294,296,297,298,301,302,303,304,306,307,309,310,311,314,315,316,317,319,320,322,323,324,326,327,329,330,331,333,334,336,337,338,340,341,343,344,345,347,348,350,351,352,354,355,357,358,359,361,362,364,365,366,368,369,371,372,373,376,377,378,381,382,383,386,387,388,390,391,393,394,395,398,399,400,402,403,405,406,407,409,410,412,413,414,415,417,418,420,421,422,425,426,427,429,430,432,433,434,436,437,439,440,441,444,445,446,448,449,451,452,453,456,457]
def KK (P:Pz):Frag:=aa.map λa=>(a,(Hl P).getD a Iw)
theorem X7m:∀w:World,(fencedOpening treeTable pr w NN).map (λs=>(s.heap,s.gens,s.drawn,s.toks))=some (boot_heap w.params,Array.mk [],boot_drawn,boot_toks):=
 boot_open (p:=pr) (N:=NN) (by kernel_rfl) (by kernel_rfl) (λs=>by kernel_rfl)
theorem X7j(w:W1):((boot_heap w.params).isNs mainGlobals && (Array.mk []:Array GenState).size == 0,(boot_heap w.params).objs.size,(boot_heap w.params).nsMap mainGlobals "__annotations__")=(true,11,((some (.ref 6)):Option Value)):=by kernel_rfl
theorem tU:Nat.ble MM NN=true:=by kernel_rfl
noncomputable abbrev rr:OpenRow:=PySem.Challenge.rw_spinboard_k81_mends_walked_or_the_pair.row
noncomputable abbrev HH:Hook:=kHook KK aa (λ_=>by kernel_rfl)
noncomputable abbrev Xt (s:U7):Bool:=xlAt qq lv s && recOk (RowW.records rr.toRowW) s
noncomputable abbrev sf (w:W1)(os:OsState):Shared:=Shared.mk (Hf w.params) (Array.mk []) (Drawn.mk 0 0 0 0) 790 os
theorem tR(w:W1)(os:OsState):(staticsOk (importedModules pr.main.body) (boot_heap w.params) (Hf w.params) && namesBound pr (Hf w.params) && gensDone (sf w os) && laidKept (boot_heap w.params) (Hf w.params))=true:=by rw[PySem.W.Fast.te5923862056798008813];kernel_rfl
theorem tQ(w:W1)(os:OsState):openSeen qq loose (importedModules pr.main.body) Xt true (sf w os)=openGood qq loose:=by rw[PySem.W.Fast.te4187177175401517315,PySem.W.Fast.te5923862056798008813];kernel_rfl
theorem tO(w:W1)(os:OsState):HH.obs (sf w os)=HH.val w:=by kernel_rfl
theorem TV:LeftO pr qq loose Xt HH.obs HH.val NN :=
 LeftO.of_pieces (H₀:=boot_heap) (H₁:=Hf) X7m X7j Xz tU λw=>funext λos=>looks_pair (tR w os) (looks_pair (tQ w os) (tO w os))
theorem RZ:PySem.Challenge.rw_spinboard_k81_mends_walked_or_the_pair.wellSaid=true:=by rw[PySem.W.Fast.te9446332074065402090];kernel_rfl
theorem Y5(P:Pz):(KK P).lookup 457=some (e5 "law" 62 456):=by kernel_rfl
theorem Y_(P:Pz):(KK P).lookup 310=some (Td P):=by kernel_rfl
theorem Y8(P:Pz):(KK P).lookup 323=some (Tc P):=by kernel_rfl
theorem Y6(P:Pz):(KK P).lookup 421=some (TX P):=by kernel_rfl
theorem ZD(P:Pz):(KK P).lookup 263=some (Te P):=by kernel_rfl
theorem ZJ(P:Pz):(KK P).lookup 121=some (aY P):=by kernel_rfl
theorem tV(P:Pz):(KK P).lookup 24=some (gG P):=by kernel_rfl
theorem ZF(P:Pz):(KK P).lookup 178=some (Tf P):=by kernel_rfl
theorem ZG(P:Pz):(KK P).lookup 175=some (Tg P):=by kernel_rfl
theorem ZC(P:Pz):(KK P).lookup 303=some (K8 P):=by kernel_rfl
theorem Y9(P:Pz):(KK P).lookup 316=some (K8 P):=by kernel_rfl
theorem Y7(P:Pz):(KK P).lookup 414=some (TY P):=by kernel_rfl
theorem ft{K:U0}{x:Str}{st:Stmt}{f:Y3}{oc:W3}{od an:W9}{osl:W8}{dV kV doc pm cdv ct:W3}
  (l:K.lookup f=some ⟨oc,od,.func (PySem.W.fnOf x x (Eb st) (DN st) (Br st) dV kV doc pm an cdv ct),osl⟩) (a:PySem.W.nsIn K mainGlobals x=some (some (.ref f)):=by kernel_rfl) (c:PySem.W.codeIn K cdv x=true:=by kernel_rfl) (k:PySem.W.keepIn K (.ref f)=true:=by kernel_rfl):Ab K x st dV:=uP a l c k
theorem fz{P:Pz}{n:Str}{i:Nat}(m:Str)(mt a c:Nat)(l:(KK P).lookup a=some (QX n n (top i) 3 m mt c 0):=by kernel_rfl)(x:PySem.W.nsIn (KK P) mainGlobals n=some (some (.ref a)):=by kernel_rfl)(y:PySem.W.codeIn (KK P) (.ref c) n=true:=by kernel_rfl)(z:PySem.W.keepIn (KK P) (.ref a)=true:=by kernel_rfl):Ab (KK P) n (top i) .none:=ft l x y z
theorem uU(P:Pz):Ab (KK P) "wrongs" (top 38) (.ref 303):=ft (Y_ P)
theorem uR(P:Pz):Ab (KK P) "mends" (top 40) (.ref 316):=ft (Y8 P)
theorem uQ(P:Pz):Ab (KK P) "_law_told" (top 56) (.ref 414):=ft (Y6 P)
end Hd
end Av
end
set_option maxHeartbeats 4000000
namespace Av
open L2 Pc Dv
def lM:Sp:=λvs H Q _=>∃(d:Y3) (kvs:List (Key×V)) (ts:List Ent) (es:List Cy) (i:Nat),vs=[.ref d]/\H d=some (.dK kvs)/\Kept H kvs ts/\Lj es/\Good es i ts/\i<=60 /\
 ∀(x:Nat) (H':Hp),Same H H'->(∀t∈ts,sat x (CZ t))->Q (.int x) H'
def Told (es:List Cy)(H:Hp)(r:Y3):Prop:=(∃x:Nat,H r=some (.tup [.int x,.non])/\∀e∈es,sat x e) \/
 ∃(c:Nat) (q:Y3),H r=some (.tup [.non,.ref q])/\H q=some (.lst ((places c (bl c)).map λp=>V.int (p:Nat)))/\c<2^es.length/\comb es c=(0,1)
def pO (K:U0):Sp:=λvs H Q _=>∃(l:Y3) (ps:U3) (es:List Cy),vs=[.ref l]/\Ag K H l (ps.map V.ref)/\Eqs H ps es/\Lj es/\es.length<=60 /\
 ∀(r:Y3) (H':Hp),Same H H'->Told es H' r->Q (.ref r) H'
theorem Ob(x y:Nat):Builtin.bitOr (x:Int) (y:Int)=((x ||| y:Nat):Int):=by
 have h:Builtin.bitXor (x:Int) (y:Int)=Builtin.bitOr x y-Builtin.bitAnd x y:=rfl;rw[LQ,Qq]at h;have e:=Ww (x+y+1) x y (by omega) (by omega);omega
theorem KY(x y:Nat):[V.int (Builtin.bitAnd (x:Int) (y:Int))]=[V.int ((x&&&y:Nat):Int)]:=by rw[Qq]
theorem WK:(0:Int)<2:=by decide
theorem Jc:Sz 1 1:=by decide +kernel
theorem Kept.upd{H:Hp}{d:Y3}{kv0 kv1 kvs:List (Key×V)}{ts:List Ent}(h:Kept H kvs ts)(hd:H d=some (.dK kv0)):Kept (upd H d (.dK kv1)) kvs ts :=
 Paired.imp' (λ_ _ ⟨a,p,b,c⟩=>⟨a,p,b,by rw[BK (LC c hd (by intro z;cases z))];exact c⟩) h
theorem t2:2<=sizeLine:=by decide
theorem dz:(0:Int)<4:=by decide
theorem Ce{n:Nat}(h:n<=64):n<=sizeLine:=Eh h (by decide)
section
variable {P:U8}{w:W1}{K:U0}{mg:U4}{base:Heap}{k:Nat}{h:Heap}
theorem yI(F:Ab K "places_at_one" (top 26) .none)(X:K.In h)(G:Ng h mg)(B:Bs mg):Ao P w K mg base (k+1) "places_at_one" ["number"] pL:=by
 refine F.cal X G ["number"] λA H vs Q E y h=>?_;obtain⟨c,rfl,s,t⟩:=h;have x:bl c<=64:=Gd.mpr s;refine⟨_,(@Al _ _ _ (BL (gO rfl (BX.of (Nc:=["place","number"]) (mp:=[none,some 0]) (by kernel_rfl)) (Qm rfl B.range (Aa (Qc Sw QT S_ Um (pv 0)) Ad)) (λ_ _ _ _=>(CP (i:=0) (show (["place","number"]:W0).Nodup by decide +kernel) rfl (Or.inl rfl))) (λ_ _ _ _=>(nY (Ah Hj (Ah Qa (pv 1) (pv 0)) Ae) (by intro _;rfl))) (λ_ _ _ _=>(pv 0))))),?_⟩;try dsimp only[Cm]
 refine⟨_,Z,Z,_,Z,Z,?_⟩;rw[gW];refine⟨_,Z,by omega,by omega,λacc a=>?_⟩;rw[Ej];refine jz (n:=bl c) (fr:=[some (.int c)]) (λi ys H'=>Same H H'/\H' acc=some (.lst ys)/\ys=(places c i).map λp=>V.int (p:Nat)) (Ce x) ⟨Aw a _,Aj,Z⟩ ?_ (λm z=>?_) ?_
 ·rintro i ys H2 N hi C ⟨g,f,rfl⟩ l;refine⟨_,Z,_,Z,_,_,Z,Z,by omega,_,_,Z,Z,_,Z,?_⟩;have j:(0:Int)+(i:Int)=(i:Int):=Pu _;have u:(c:Int) / 2^(0+(i:Int)).toNat=((c / 2^i:Nat):Int):=by rw[j,Ej];simp
  have r:Builtin.bitAnd ((c / 2^i:Nat):Int) 1=((c / 2^i%2:Nat):Int):=by
   have:=Qq (c / 2^i) 1;rw[Nat.and_one_is_mod]at this;exact this
  have ps:=Uq c i;rw[u,r];refine l _ _ (λd=>?_) (λb=>?_)
  ·have h1:c / 2^i%2=1:=by
    have:c / 2^i%2≠0:=λz=>by rw[z]at d;cases d
    omega
   rw[if_pos h1]at ps;refine⟨_,Z,f,Ec g a,Aj,?_⟩;rw[ps,CJ,j];rfl
  ·have o:¬ c / 2^i%2=1:=λz=>by rw[z]at b;cases b
   rw[if_neg o,JM]at ps;exact⟨g,f,by rw[ps]⟩
 ·obtain⟨v,e,q⟩:=z;exact⟨v,e,m _ _ q⟩
 ·rintro ys H2 ⟨g,f,rfl⟩;exact t acc H2 g f
theorem zj(F:Ab K "solution" (top 27) .none)(X:K.In h)(G:Ng h mg)(B:Bs mg)(cK:Ao P w K mg base k "ones" ["number"] Cg):Ao P w K mg base (k+1) "solution" ["kept"] lM:=by
 refine F.cal X G ["kept","x","height","equation"] λnd H vs Q E M h=>?_;obtain⟨d,kvs,ts,es,i,rfl,L,A,b,c,hi,kq⟩:=h;have O:=A.length;have I:=c.len
 refine⟨_,(@Az _ _ _ _ _ (@BW _ _ 1 _ _ _ _ nd rfl (Or.inl rfl) Ae rfl (.inl rfl))
  (@Az _ _ _ _ _ (Io PassesOwn.never rfl (Ew (Bc (uc rfl) rfl B.sorted V4 (Aa (pv 0) Ad))) (CP (i:=2) nd rfl (Or.inl rfl))
   (@Az _ _ _ _ _ (@BW _ _ 3 _ _ _ _ nd rfl (Or.inl rfl) (gw (PN M) (pv 0) (pv 2) (λ_ _=>rfl)) rfl (.inl rfl))
   (@Al _ _ _ (Bq (Bx KZ (Ah Ck (BJ cK M rfl (Aa (Ah Hj (BR Bk (pv 3) Ae (λ_ _=>rfl)) (pv 1)) Ad)) Ae) (BR Bk (pv 3) Ae (λ_ _=>rfl)) (Ac _))
    (@Al _ _ _ (@BW _ _ 1 _ _ _ _ nd rfl (Or.inl rfl) (Ah Wv (pv 1) (Ah Ge Ae (Ah Ox (pv 2) Ae))) rfl (.inl rfl)))
    Bw))))
  (@Al _ _ _ (BL (pv 1))))),?_⟩
 try dsimp only[Cm]
 refine⟨_,Z,d,kvs,_,Z,L,A.keys,by omega,λl ks hl perm q=>?_⟩;have r:=Aw hl (.lst (ks.map V.int));have o:=X3e c.nd perm q;refine⟨l,Z,⟨_,Ag.of Aj⟩,Kd (K:=K) (a:=l) (xs:=ks.map V.int) (λj σ H'=>Same (upd H l (.lst (ks.map V.int))) H'/\∃(x:Nat) (u C:Option V),Kg ts ks j x/\σ=[some (.ref d),some (.int x),u,C]) ⟨Same.refl _,0,none,none,Kg.start ts ks,Z⟩ (λj σ H' _ e=>Ag.of (e.1 _ _ Aj)) ?_ ?_⟩
 ·rintro j xv σ H1 N ⟨s1,x,u,C,S,rfl⟩;rw[Bo]at N;obtain⟨hh,n,rfl⟩:=D_.mp N;have W:hh∈ts.map λt=>(bl t.1:Int):=perm.mem_iff.mp (Dz n);obtain⟨D,y,rfl⟩:=DY.mp W;have s:=s1 _ _ (r _ _ L);have g:=(A.same r).same s1;cases hv:Bl kvs (Sum.inl (bl D.1:Int)) with
  | none=>exact absurd rfl (g.none hv D y)
  | some v =>
   obtain⟨t,m,p,R,rfl,hp⟩:=g.get hv;have hb:t.2.1<2:=by
    have:(CZ t).2<2:=by rw[<-c.com t m];exact Uh es _ b.bit
    exact this
   have f:t.1<2^200:=by
    have:(CZ t).1<2^200:=by rw[<-c.com t m];exact jq es _ b.mask
    exact this
   have a0:bl t.1<=200:=Gd.mpr f;have h0:bl t.1≠0:=λz=>c.nz t m (FJ.mp z);rw[<-R]at n hv ⊢;have st:=S.step c.nd o m (c.nz t m) hb n;have J:Ak K H1 p [.int t.1,.int t.2.1,.int t.2.2]:=Ak.of hp;refine⟨_,Z,_,Z,d,_,Z,(by rw[<-hv];exact GP.k (k:=Sum.inl (bl t.1:Int)) s),?_⟩;refine⟨_,Z,p,_,_,_,Z,Z,J,Z,_,Z,_,_,Z,Z,t.1&&&x,KY _ _,_,_,Z,Z,WK,_,Z,p,_,_,_,Z,Z,J,Z,Z,_,Z,K7 (λU=>?_) (λY=>?_)⟩
   ·have hn:¬ sat x (CZ t):=λz=>U (by show ((pc (t.1&&&x):Nat):Int)%2=(t.2.1:Int);have:pc (t.1&&&x)%2=t.2.1:=z;omega);refine⟨_,Z,_,Z,_,_,Z,Z,_,_,Z,Z,⟨1,Jc,by omega,by omega⟩,_,_,Z,Z,s1,x ||| 2^(bl t.1-1),some (V.int (bl t.1:Int)),some (V.ref p),st.2 hn,?_⟩;have e1:(1:Int)*2^((bl t.1:Int)-1).toNat=((2^(bl t.1-1):Nat):Int):=by
     rw[show ((bl t.1:Int)-1).toNat=bl t.1-1 by omega];simp
    show [some (V.ref d),some (V.int (Builtin.bitOr (x:Int) (1*2^((bl t.1:Int)-1).toNat))),some (V.int (bl t.1:Int)),some (V.ref p)]=_;rw[e1,Ob]
   ·have T:sat x (CZ t):=by
     show pc (t.1&&&x)%2=t.2.1;have:((pc (t.1&&&x):Nat):Int)%2=(t.2.1:Int):=Y;omega
    exact⟨s1,x,_,_,st.1 T,Z⟩
 ·rintro σ H1 ⟨s1,x,u,C,S,rfl⟩;rw[Ax]at S;exact⟨_,Z,kq x H1 (r.trans s1) (S.all perm)⟩
theorem yK(F:Ab K "solved" (top 24) .none)(X:K.In h)(G:Ng h mg)(B:Bs mg)(dN:Ao P w K mg base k "cleared" ["equation","kept"] kW)(dA:Ao P w K mg base k "places_at_one" ["number"] pL)(dM:Ao P w K mg base k "solution" ["kept"] lM):Ao P w K mg base (k+1) "solved" ["equations"] (pO K):=by
 refine F.cal X G ["equations","kept","place","equation","left"] λU H vs Q E g h=>?_;obtain⟨l,ps,es,rfl,hS,he,b,a2,kq⟩:=h;have I:=he.length
 refine⟨_,(@Az _ _ _ _ _ (@BW _ _ 1 _ _ _ _ U rfl (Or.inl rfl) wI rfl (.inl rfl))
  (@Az _ _ _ _ _ (Io PassesOwn.never rfl (Qf rfl B.enumerate (Aa (pv 0) Ad)) (@O2 _ _ _ _ _ _ rfl (@H_ _ _ _ _ _ (@CP _ _ 2 _ U rfl (Or.inl rfl) (by first | exact .inl rfl | exact .inr rfl)) (@H_ _ _ _ _ _ (@CP _ _ 3 _ U rfl (Or.inl rfl) (by first | exact .inl rfl | exact .inr rfl)) O7 rfl) rfl) rfl rfl)
   (@Az _ _ _ _ _ (@BW _ _ 4 _ _ _ _ U rfl (Or.inl rfl) (BJ dN g rfl (Aa (@Cr _ _ _ _ _ (Aa (BR Bk (pv 3) Ae (λ_ _=>rfl)) (Aa (BR Bk (pv 3) Ae (λ_ _=>rfl)) (Aa (Ah Ge Ae (pv 2)) Ad)))) (Aa (pv 1) Ad))) rfl (.inl rfl))
   (@Al _ _ _ (Bq (Bx KZ (BR Bk (pv 4) Ae (λ_ _=>rfl)) Ae (Ac _))
    (@Al _ _ _ (X2f (PN g) (pv 1) (Qc Sw QT S_ Um (BR Bk (pv 4) Ae (λ_ _=>rfl))) (pv 4) rfl))
    (@Al _ _ _ (Bq (Bx Gu (BR Bk (pv 4) Ae (λ_ _=>rfl)) Ae (Ac _))
     (@Al _ _ _ (BL (@Cr _ _ _ _ _ (Aa Gv (Aa (BJ dA g rfl (Aa (BR Bk (pv 4) Ae (λ_ _=>rfl)) Ad)) Ad)))))
     Bw))))))
  (@Al _ _ _ (BL (@Cr _ _ _ _ _ (Aa (BJ dM g rfl (Aa (pv 1) Ad)) (Aa Gv Ad))))))),?_⟩
 try dsimp only[Cm]
 refine λd hd=>?_
 refine⟨_,Z,l,_,Z,(Aw hd _).seq hS,oX (K:=K) (a:=l) (xs:=ps.map V.ref) (λi σ H'=>Same H H'/\∃(kvs:List (Key×V)) (ts:List Ent) (v2 v3 v4:Option V),H' d=some (.dK kvs)/\Kept H' kvs ts/\Good es i ts/\σ=[some (.ref l),some (.ref d),v2,v3,v4])
  ⟨Aw hd _,[],[],none,none,none,Aj,.nil,Good.start es,Z⟩ (λi σ H' _ e=>e.1.seq hS) ?_ ?_⟩
 ·rintro i x σ H1 T hx ⟨s1,kvs,ts,v2,v3,v4,f,D,m,rfl⟩ hT;rw[Bo]at hx;obtain⟨p,hp,rfl⟩:=D_.mp hx;obtain⟨e,S,a0⟩:=he.get hp;have a4:i<es.length:=(Cv.mp S).1;have C:=Aw hT (.tup [.int i,.ref p]);have N:=C _ _ (s1 _ _ a0);have SP:Ak K (upd H1 T (.tup [.int i,.ref p])) p [.int e.1,.int e.2]:=Ak.of N;refine⟨T,_,Z,Ak.of Aj,Z,_,_,Z,_,_,Z,Z,?_⟩;refine⟨_,Z,p,_,_,_,Z,Z,SP,Z,_,Z,p,_,_,_,Z,Z,SP,Z,_,Z,_,_,Z,Z,⟨1,Jc,by omega,by omega⟩,(by show 3<=sizeLine;decide),λr g=>?_⟩;have R:=Aw g (.tup [.int e.1,.int e.2,.int ((1:Int)*2^((i:Int)).toNat)]);have e1:(1:Int)*2^((i:Int)).toNat=((2^i:Nat):Int):=by simp
  have a1:upd (upd H1 T (.tup [.int i,.ref p])) r (.tup [.int e.1,.int e.2,.int ((1:Int)*2^((i:Int)).toNat)]) r=some (T3 (e.1,e.2,2^i)):=by rw[Aj,e1]
  refine⟨_,Z,r,d,(e.1,e.2,2^i),kvs,ts,es,i,e,Z,a1,R _ _ (C _ _ f),(D.same C).same R,b,m,Left.start S,λs H2 t O o J apart=>?_⟩;have n:=((s1.trans C).trans R).trans O;have c:=O _ _ (R _ _ (C _ _ f));have y:=((D.same C).same R).same O;have W:Ak K H2 s [.int t.1,.int t.2.1,.int t.2.2]:=Ak.of o;refine⟨_,Z,s,_,_,_,Z,Z,W,Z,Z,_,Z,K7 (λne=>?_) (λeq=>?_)⟩
  ·have Y:t.1≠0:=λz=>ne (by rw[z];rfl);refine⟨_,Z,_,Z,_,Z,s,_,_,_,Z,Z,W,Z,Z,_,Z,Z,?_⟩;rw[gW];have hn:Bl kvs (Sum.inl (bl t.1:Int))=none:=by
    cases hv:Bl kvs (Sum.inl (bl t.1:Int)) with
    | none=>rfl
    | some v =>
     obtain⟨u,hu,q,eh,_⟩:=y.get hv;exact absurd (Int.ofNat.inj eh) (apart u hu)
   have a7:=D.length;have a6:=m.len;refine⟨d,_,Z,J_.k (k:=Sum.inl (bl t.1:Int)) c (CK (show kvs.length<64 by omega) (by decide)),Ec n hd,_,ts++[t],some (V.int i),some (V.ref p),some (V.ref s),Aj,?_,m.put S J Y apart,Z⟩;rw[eZ _ hn];exact(y.upd c).snoc (by rw[BK (LC o c (by intro z;cases z))];exact o)
  ·have Y:t.1=0:=Int.ofNat.inj eq;have tb:=J.bit b.bit;refine⟨_,Z,s,_,_,_,Z,Z,W,Z,Z,_,Z,Mf (λA=>?_) (λA=>?_)⟩
   ·have b1:t.2.1=1:=Int.ofNat.inj A;have L:t.2.2<2^es.length:=CK J.lt (Gn (by decide) a4);refine⟨_,Z,s,_,_,_,Z,Z,W,Z,t.2.2,Z,CK L (Gn (by decide) (by omega)),λql H3 s3 a5=>⟨t2,λrr M=>?_⟩⟩;refine kq rr _ ((n.trans s3).trans (Aw M _)) (.inr ⟨t.2.2,ql,Aj,Aw M _ _ _ a5,L,?_⟩);rw[J.com];show (t.1,t.2.1)=_;rw[Y,b1]
   ·have b0:t.2.1=0:=by
     have:¬ t.2.1=1:=λz=>A (by rw[z];rfl);omega
    exact⟨n,kvs,ts,some (V.int i),some (V.ref p),some (V.ref s),c,y,m.skip S J Y b0,Z⟩
 ·rintro σ H1 ⟨s1,kvs,ts,v2,v3,v4,f,D,m,rfl⟩;rw[Ax,I]at m;refine⟨_,Z,d,kvs,ts,es,es.length,Z,f,D,b,m,a2,λx H2 O hs=>⟨t2,λr g=>?_⟩⟩;refine kq r _ ((s1.trans O).trans (Aw g _)) (.inl ⟨x,Aj,λe a3=>?_⟩);obtain⟨j,hj,rfl⟩:=Sh.mp a3;exact m.all x hs j _ hj (Bm hj)
end
end Av
namespace Ez
open Pc Dv
noncomputable def bit (v n:Nat):Nat:=v / 2^n%2
theorem FN(v n:Nat):bit v n<2:=Fq _ (by decide)
theorem Ue(v n:Nat):bit v (n+1)=bit (v / 2) n:=by
 unfold bit;rw[Ib,Yk]
theorem Ug(n:Nat):bit 0 n=0:=by unfold bit;simp
theorem Ka:∀(n a b:Nat),bit (a^^^b) n=(bit a n+bit b n)%2
 | 0,a,b=>by
  have:=Ld a b;unfold bit;simp only[ak,Nat.div_one];omega
 | n+1,a,b=>by
  have:=Ld a b;rw[Ue,Ue,Ue,show (a^^^b) / 2=a / 2^^^b / 2 by omega];exact Ka n _ _
theorem Wf:∀(N a b:Nat),a<2^N->b<2^N->(∀n,n<N->bit a n=bit b n)->a=b
 | 0,a,b,ha,hb,_=>by simp at ha hb;omega
 | N+1,a,b,ha,hb,h=>by
  rw[Ib]at ha hb;have c:=h 0 (aq N);unfold bit at c;simp only[ak,Nat.div_one]at c;have:=Wf N (a / 2) (b / 2) (by omega) (by omega) λn d=>by rw[<-Ue,<-Ue];exact h (n+1) (by omega)
  omega
theorem V8{a m n:Nat}(h:a<2^m)(hm:m<=n):bit a n=0:=by
 unfold bit;rw[QC (CK h (Gn (by decide) hm))]
theorem V9(m n:Nat):bit (2^m) n=if n=m then 1 else 0:=by
 unfold bit;by_cases h:n=m
 ·subst h;rw[if_pos rfl,Nat.div_self (Ei n)]
 ·rw[if_neg h];rcases Rp n m with c | c
  ·obtain⟨d,rfl⟩:∃d,m=n+(d+1):=⟨m-n-1,by omega⟩;rw[Rk,Nat.mul_div_cancel_left _ (Ei n),Rq,Nat.mul_mod_left]
  ·rw[QC (Jt (by decide) (by omega))]
theorem X3w(x m:Nat):x&&&2^m=bit x m*2^m:=by
 refine MJ λj=>?_;rw[R5,Vq];by_cases q:m=j
 ·subst q;rw[TF,TF,Nat.mul_div_cancel _ (Ei m)];show (decide (bit x m=1) && decide (m=m))=decide (bit x m%2=1);rw[KH (FN x m)];simp
 ·rcases (by have:=FN x m;omega:bit x m=0\/bit x m=1) with z | z<;>rw[z]<;>simp[q]
theorem gM{a m x b:Nat}(ha:a<2^m)(hb:b<2):pc ((a+b*2^m)&&&x)%2=(pc (a&&&x)+b*bit x m)%2:=by
 rcases (by omega:b=0\/b=1) with rfl | rfl
 ·simp
 ·rw[Pr,<-Dv.iD ha,jQ,OJ,VR (2^m),X3w];rcases (by have:=FN x m;omega:bit x m=0\/bit x m=1) with z | z<;>rw[z]
  ·rw[bA,Gy,Nat.mul_zero]
  ·rw[Pr,XM]
noncomputable def Wm (fs:W7)(n:Nat):Nat->Nat
 | 0=>0
 | m+1=>Wm fs n m+bit (fs.getD m 0) n*2^m
noncomputable def Xm (fs:W7)(x:Nat):Nat->Nat
 | 0=>0
 | m+1=>if bit x m=1 then Xm fs x m^^^fs.getD m 0 else Xm fs x m
theorem Ur(fs:W7)(n:Nat):∀m,Wm fs n m<2^m
 | 0=>by unfold Wm;decide
 | m+1=>by
  have h:=Ur fs n m;have b:=FN (fs.getD m 0) n;unfold Wm;rw[Ib];rcases (by omega:bit (fs.getD m 0) n=0\/bit (fs.getD m 0) n=1) with z | z<;>rw[z]<;>omega
theorem Wj{fs:W7}{x N:Nat}(h:∀j,fs.getD j 0<2^N):∀m,Xm fs x m<2^N
 | 0=>by unfold Xm;exact Ei N
 | m+1=>by
  unfold Xm;split
  ·exact Ih (Wj h m) (h m)
  ·exact Wj h m
theorem iM(fs:W7)(x n:Nat):∀m,bit (Xm fs x m) n=pc (Wm fs n m&&&x)%2
 | 0=>by unfold Xm Wm;rw[Ug,au,Gy]
 | m+1=>by
  have a:=iM fs x n m;have bl:=FN x m;unfold Xm Wm;rw[gM (Ur fs n m) (FN _ _)];split
  ·rename_i z;rw[Ka,a,z];omega
  ·rename_i z;rw[a,show bit x m=0 by omega];omega
theorem gF(fs:W7)(n:Nat):∀m j,j<m->bit (Wm fs n m) j=bit (fs.getD j 0) n
 | 0,j,h=>by omega
 | m+1,j,h=>by
  have a:=Ur fs n m;have b:=FN (fs.getD m 0) n;unfold Wm;rcases (by omega:bit (fs.getD m 0) n=0\/bit (fs.getD m 0) n=1) with z | z
  ·rw[z,bA,Kv];by_cases q:j=m
   ·subst q;rw[z,V8 a (Bf _)]
   ·exact gF fs n m j (by omega)
  ·rw[z,Pr,<-Dv.iD a,Ka,V9];by_cases q:j=m
   ·subst q;rw[if_pos rfl,z,V8 a (Bf _)]
   ·rw[if_neg q,gF fs n m j (by omega),Kv,KH (FN _ _)]
theorem qy(fs:W7)(n:Nat):∀m,m<=fs.length->((fs.take m).mapIdx λi v=>((bit v n:Nat):Int)*2^i).sum=((Wm fs n m:Nat):Int)
 | 0,_=>by simp[Wm]
 | m+1,h=>by
  have a:=qy fs n m (by omega);have e:fs[m]?=some (fs.getD m 0):=by rw[Bb,Bm (by omega)];rfl
  have l:(fs.take m).length=m:=by rw[Ft];omega
  unfold Wm;rw[Ga,e,G7,List.mapIdx_append,YC,a,l];simp
noncomputable def eqs (fs:W7)(v N:Nat):List Cy:=(List.range N).map λn=>(Wm fs n fs.length,bit v n)
theorem Qd(fs:W7)(v N:Nat):(eqs fs v N).length=N:=by unfold eqs;simp
theorem Wg:∀(l r:List Cy) (c:Nat),comb (l++r) c=add (comb l c) (comb r (c / 2^l.length))
 | [],r,c=>by simp[comb,add]
 | e::l,r,c=>by
  have b:=Wg l r (c / 2);have a:c / 2 / 2^l.length=c / 2^(e::l).length:=by rw[Hv,Ib,Yk]
  show (if c%2=1 then add e (comb (l++r) (c / 2)) else comb (l++r) (c / 2))=add (if c%2=1 then add e (comb l (c / 2)) else comb l (c / 2)) _;rw[b,a];split
  ·rw[Qn]
  ·rfl
theorem WM(fs:W7)(v N:Nat):eqs fs v (N+1)=eqs fs v N++[(Wm fs N fs.length,bit v N)]:=by
 unfold eqs;rw[YB,CJ];rfl
theorem WW(c N:Nat):c%2^(N+1)=c%2^N+bit c N*2^N:=by rw[Rq,Nat.mod_mul];unfold bit;rw[aZ (2^N)]
theorem oK(e:Cy)(c:Nat):comb [e] c=if c%2=1 then e else (0,0):=by
 unfold comb comb;split<;>simp[add]
theorem dh(fs:W7)(v c:Nat):∀N,(comb (eqs fs v N) c).2=pc (c%2^N&&&v)%2
 | 0=>by simp[eqs,comb,V3,Gy]
 | N+1=>by
  have d:=dh fs v c N;have e:=FN c N;have f:=FN v N;rw[WM,Wg,Qd,oK,WW,gM (Fq _ (Ei N)) e];show (comb (eqs fs v N) c).2^^^(if c / 2^N%2=1 then (Wm fs N fs.length,bit v N) else (0,0)).2=_;rw[d];have nx:=Ld (pc (c%2^N&&&v)%2) (bit v N);have b:pc (c%2^N&&&v)%2 / 2=0:=by omega
  have a:bit v N / 2=0:=by omega
  rw[b,a]at nx;have q:(0^^^0:Nat)=0:=rfl;rcases (by omega:bit c N=0\/bit c N=1) with z | z
  ·rw[if_neg (show ¬ c / 2^N%2=1 by have:c / 2^N%2=0:=z;omega),z];simp
  ·rw[if_pos (show c / 2^N%2=1 from z),z];show _^^^bit v N=_;omega
theorem dg(fs:W7)(v c j:Nat)(hj:j<fs.length):∀N,bit (comb (eqs fs v N) c).1 j=pc (c%2^N&&&fs.getD j 0)%2
 | 0=>by simp[eqs,comb,V3,Gy,Ug]
 | N+1=>by
  have b:=dg fs v c j hj N;have a:=FN c N;have d:=gF fs N fs.length j hj;rw[WM,Wg,Qd,oK,WW,gM (Fq _ (Ei N)) a];show bit ((comb (eqs fs v N) c).1^^^(if c / 2^N%2=1 then (Wm fs N fs.length,bit v N) else (0,0)).1) j=_;rw[Ka,b];rcases (by omega:bit c N=0\/bit c N=1) with z | z
  ·rw[if_neg (show ¬ c / 2^N%2=1 by have:c / 2^N%2=0:=z;omega),z,Ug];omega
  ·rw[if_pos (show c / 2^N%2=1 from z),z,d];omega
abbrev Mk:=Nat×Nat×Nat
noncomputable def mul (a b:Mk):Mk:=((a.1+b.1+2*pc (a.2.2&&&b.2.1))%4,a.2.1^^^b.2.1,a.2.2^^^b.2.2)
noncomputable def prod (ms:List Mk):Mk:=ms.foldl mul (0,0,0)
theorem j8(k:Nat):∀(ms:List Mk) (q f s:Nat),ms.foldl mul ((k+q)%4,f,s)=((k+(ms.foldl mul (q%4,f,s)).1)%4,(ms.foldl mul (q%4,f,s)).2)
 | [],q,f,s=>by
  show ((k+q)%4,f,s)=((k+q%4)%4,f,s);rw[Nat.add_mod_mod]
 | m::ms,q,f,s=>by
  rw[R0,R0];have h:=j8 k ms (q+m.1+2*pc (s&&&m.2.1)) (f^^^m.2.1) (s^^^m.2.2);have a:mul ((k+q)%4,f,s) m=((k+(q+m.1+2*pc (s&&&m.2.1)))%4,f^^^m.2.1,s^^^m.2.2):=by
   show (((k+q)%4+m.1+2*pc (s&&&m.2.1))%4,_,_)=_;congr 1;omega
  have b:mul (q%4,f,s) m=((q+m.1+2*pc (s&&&m.2.1))%4,f^^^m.2.1,s^^^m.2.2):=by
   show ((q%4+m.1+2*pc (s&&&m.2.1))%4,_,_)=_;congr 1;omega
  rw[a,b];exact h
theorem lJ{k:Nat}(hk:k<4)(ms:List Mk):ms.foldl mul (k,0,0)=((k+(prod ms).1)%4,(prod ms).2):=by
 have:=j8 k ms 0 0 0;rw[Kv,KH hk]at this;exact this
theorem nW:∀(ms:List Mk) (a:Mk),a.1<4->(ms.foldl mul a).1<4
 | [],a,h=>h
 | m::ms,a,h=>nW ms (mul a m) (Fq _ (by decide))
noncomputable def chosen (rows:List Mk)(x m:Nat):List Mk:=(places x m).map λp=>rows.getD p (0,0,0)
theorem PL(rows:List Mk)(x m:Nat):chosen rows x (m+1)=chosen rows x m++(if bit x m=1 then [rows.getD m (0,0,0)] else []):=by
 unfold chosen;rw[Uq,CJ];show _++List.map _ (if bit x m=1 then [m] else [])=_;split<;>rfl
theorem UL(rows:List Mk)(x:Nat):∀m,(prod (chosen rows x m)).2.1=Xm (rows.map (·.2.1)) x m
 | 0=>rfl
 | m+1=>by
  have a:=UL rows x m;rw[PL];unfold prod at *;rw[R_];unfold Xm;split
  ·show (mul _ _).2.1=_;show (List.foldl mul (0,0,0) (chosen rows x m)).2.1^^^(rows.getD m (0,0,0)).2.1=_;rw[a,Bb,Bb,Bo];cases rows[m]?<;>rfl
  ·exact a
theorem UW(rows:List Mk)(x:Nat):∀m,(prod (chosen rows x m)).2.2=Xm (rows.map (·.2.2)) x m
 | 0=>rfl
 | m+1=>by
  have a:=UW rows x m;rw[PL];unfold prod at *;rw[R_];unfold Xm;split
  ·show (List.foldl mul (0,0,0) (chosen rows x m)).2.2^^^(rows.getD m (0,0,0)).2.2=_;rw[a,Bb,Bb,Bo];cases rows[m]?<;>rfl
  ·exact a
end Ez
namespace Dk
open PySem.Sem (wp)
def Raw (h:Heap)(d:Y3)(es:Array DictEntry)(ep:Nat):Prop:=∃o,h.get? d=some o/\o.ExactDict/\o.data=.dict es ep
variable{es:Array DictEntry}{ep:Nat}
theorem Raw.at{h h':Heap}{d:Y3}(x:Raw h d es ep)(e:∀o,h.get? d=some o->h'.get? d=some o):Raw h' d es ep:=let ⟨o,q,r⟩:=x;⟨o,e o q,r⟩
theorem Raw.type{s:U7}{d:Y3}(x:Raw s.heap d es ep):s.TypeIs (.ref d) "dict":=let ⟨o,q,r,_⟩:=x;⟨o,q,r.1⟩
section
variable {prog:U8}{w:W1}{A:Y0}{E:U2}{s:U7}{d it:Y3}{es:Array DictEntry}{i ep:Nat}
theorem iter{Q:U2}(lo:(d == sysModules)=false)(x:Raw s.heap d es ep)(q:Q (.ref s.heap.objs.size) {s with heap:=s.heap.push { cls:=.type "dict_keyiterator",data:=.fields #[.ref d,.int 0 0,.int es.size 0,.int ep 0]}}):
  wpAny (model prog w) A (pyIter (.ref d)) Q E s:=by
 have ty:=x.type;obtain⟨o,a,c,b⟩:=x;refine wpAny_pyIter_slot ty F.slot_dict_iter (K1 F.slot_dict_iter ty F.entry_dict_iter ?_ (F.args_dict_iter_1 _));unfold Builtin.«dict.__iter__» Builtin.Dict.dictSlotNone Builtin.Dict.showsAll;refine Af (Af (Yi ty (Aq ?_)));refine Af (m:=Builtin.Dict.addrOf (Value.ref d)) (Aq ?_);rw[if_neg (show ¬ ((d == sysModules)=true) by rw[lo];decide)];refine Af (Aq (Af (QH a b (Af (Vg a b (Af (Js (Aq ⟨_,Z,"dict_keyiterator",_,⟨_,Ek _ rfl,Z⟩,F.slot_dict_keyiterator_next.lookup,?_⟩))))))));simpa [rawInt] using q
theorem step{Q:Option Value->Shared->Prop}(hh:es[i]?=none->A.handled=none)(hi:s.heap.IsKeyIter it d i es.size ep)(x:Raw s.heap d es ep)
  (go:∀(hlt:i<es.size) h',h'.IsKeyIter it d (i+1) es.size ep->Heap.SameBut it s.heap h'->Q (some es[i].key) {s with heap:=h'})
  (stop:∀h',es.size<=i->Heap.ExtBut it s.heap h'->Q none {s with heap:=h'}):wpAny (model prog w) A (pyNext (.ref it)) Q E s:=by
 have ty:=hi.typeIs;obtain⟨o,f,j,e⟩:=id hi;obtain⟨od,g,k,h⟩:=x;unfold pyNext;refine Af (Rw (Yp (name:=Str.ofString "__next__") ty F.slot_dict_keyiterator_next (K1 F.slot_dict_keyiterator_next ty F.entry_dict_keyiterator_next ?_ (F.args_dict_keyiterator_next_1 _))));refine Af (Aq (Af (Af ?_)));first | refine Af (Yv ty (Aq (Af (Vd f e ?_)))) | refine Af (Ys ty (Aq (Af (Vd f e ?_))))
 simp only[show Builtin.Dict_items.ownsTuple "dict_keyiterator"=false by decide,JN,FW];show wpAny _ _ (if (Value.ref d == Value.none)=true then _ else _) _ _ s;rw[if_neg (show ¬ ((Value.ref d == Value.none)=true) from Fv)];refine Af (Aq (Af (QH g h ?_)));rw[if_neg (by simp)];refine Af (Aq (Af (Vg g h ?_)));rw[if_neg (by simp)];refine Aq ?_;rcases Rp i es.size with c | c
 ·simp only[show ¬ ((i:Int)<0) by omega,FW,Ej,Yt c];refine Af ?_;first | refine Af (Yv ty (Aq (Af (Yh ty ?_)))) | refine Af (Ys ty (Aq (Af (Yh ty ?_))))
  show wpAny _ _ (setField (.ref it) 1 (rawInt ((i:Int)+1)) >>= _) _ _ s;refine Af (Rz f e (by simp) ?_);have h2:(s.heap.update it (Obj.mapFields (·.setIfInBounds 1 (rawInt ((i:Int)+1))))).IsKeyIter it d (i+1) es.size ep:=⟨_,KN _ f (Obj.isFreed_of_fields (Obj.data_mapFields e _)),(Obj.cls_mapFields ..).trans j,by rw[Obj.data_mapFields e];simp[rawInt]⟩;refine Af (G4 (Af (Yh (s:={s with heap:=s.heap.update it (Obj.mapFields (·.setIfInBounds 1 (rawInt ((i:Int)+1))))}) h2.typeIs ?_)));exact Aq (Aq ⟨_,Z,Aq (go c _ h2 (Heap.SameBut.update ..))⟩)
 ·have l:=hh (Vt c);simp only[show ¬ ((i:Int)<0) by omega,FW,Ej,Vt c];refine Af ?_;first | refine Af (Yv ty (Aq ?_)) | refine Af (Ys ty (Aq ?_))
  show wpAny _ _ (setField (.ref it) 0 .none >>= _) _ _ s;refine Af (Rz f e (by simp) ?_);show wpAny _ _ (newExc (.type "StopIteration") [] >>= _) _ _ _;refine Af ?_;simp only[newExc,newTuple];refine Af (Js ?_ (by size_fits));refine Af (m:=firstArgMember _ _) (V5 (a:=Value.none) (by first | rfl | (simp only[firstArgMember];rfl)) ?_);refine Js ?_ (by size_fits);simp only[raiseNew];refine Af (wpAny_handled ?_);rw[show A.in1.handled=none from l];refine Af (Aq (wpAny_throw ?_));refine Af (wpAny_isInstance (T:="StopIteration") (b:=true) ⟨_,Ek _ rfl,Z⟩ isSubtype_stop ?_);exact Aq (stop _ c (((Heap.SameBut.update ..).extBut.push _).push _))
theorem walks(hh:A.handled=none)(I d:Y3)(hne:d≠I)(es:Array DictEntry)(ep:Nat):
  Walks prog w A I [I,d] [I] es.size (λi v=>∃e,es[i]?=some e/\v=e.key) (λi h=>h.IsKeyIter I d i es.size ep/\Raw h d es ep) where
 sub:=λb a=>by simp at a;simp[a]
 frame:=λ_ _ _ st j=>⟨st.1.at λo e=>j I (by simp) o e,st.2.at λo e=>j d (by simp) o e⟩
 item:=λi s Q E hi st f=>step (λ_=>hh) st.1 st.2 (λc h' k g=>f _ h' s.toks ⟨es[i],by simp[c],rfl⟩ ⟨k,st.2.at λo e=>g.extBut _ _ hne e⟩ λb o a e=>g.extBut b o (λz=>a (by simp[z])) e) λh' c _=>absurd hi (by omega)
 done:=λs Q E st f=>step (λ_=>hh) st.1 st.2 (λc=>absurd c (JL _)) λh' c l=>f h' s.toks λb o a e=>l b o (λz=>a (by simp[z])) e
 self:=λ_ _ _ _ st f=>wpAny_pyIter_keyiter st.1 f
theorem src(lo:(d == sysModules)=false):PySem.W.KdlSrc prog w "dict" d d es.size (λi v=>∃e,es[i]?=some e/\v=e.key) (λh=>Raw h d es ep) where
 type:=λ_ a=>a.type
 there:=λ_ a=>let ⟨_,ho,_⟩:=a;⟨BP ho,BP ho⟩
 keep:=λ_ _ a c=>a.at λo e=>c d (.inl rfl) o e
 notList:=by decide
 notTuple:=by decide
 hint:=λ_ _ _ _ a b=>PySem.W.kdl_hint_dict a.type b
 iter:=λ_ s f a=>⟨_,_,(λ_ _ b=>iter lo a b),walks f _ d (let ⟨_,ho,_⟩:=a;B_ (BP ho)) es ep,⟨⟨_,Ek _ rfl,Z,Z⟩,a.at λo e=>CG _ e⟩⟩
end
end Dk
namespace L2
theorem fK{X:Cx}(hc:X.calm=true):Bu X (.builtin "sum") (λxs H Q=>∃(p:Y3) (ns:U6),xs=[.ref p]/\Ag X.K H p (ns.map V.int)/\Q (.int ns.sum) H):=by
 intro pins s σ H xs us Q I r h;obtain⟨p,ns,rfl,d,q⟩:=h;obtain⟨u,rfl,f⟩:=r.one;cases f;obtain⟨its,g,c,hz⟩:=I.list d;have hi:=JC g;have b:=c.isList;have a:=hi.numsOf;obtain⟨xs,e⟩:=hi.allInts.items;have j:its=(intItems xs).toList:=by rw[<-e]
 rw[e]at b;rw[j,nums_intItems]at a;refine sum_intListG (show X.A.handled=none from I.ok.hd hc) b λh' tk t' i=>?_;rw[preSum_eq,Vu (by simp),a];exact⟨.int ns.sum,H,I.kept (t':=tk) i,⟨_,Z⟩,q⟩
theorem X2y{K:U0}{l:Y3}{g:TG}{xs:List V}{te:TE}{fr:St}{H1:Hp}{acc:Y3}{Q:VK}(f:Nat->V->V)(hn:xs.length<=sizeLine)(hacc:H1 acc=none)(hl:Ag K H1 l xs)
  (hg:∀{a:Y3}{x y:V}{w1 w2:Option V}{H:Hp}{Q:St->Hp->Prop},H a=some (.tup [x,y])->Q (some x::some y::fr) H->g (.ref a) (w1::w2::fr) H Q)
  (hs:∀i x H (N:V->Hp->Prop),xs[i]?=some x->Same H1 H->N (f i x) H->te (some (.int i)::some x::fr) H N)
  (hd:∀H2,Same H1 H2->H2 acc=some (.lst (xs.mapIdx f))->Q (.ref acc) H2):Kl (Ite K l) g te (none::none::fr) H1 acc Q:=by
 refine⟨λi m zs j H2=>m=xs.length-i/\i<=xs.length/\(∃v w,j=v::w::fr)/\Same H1 H2/\H2 acc=some (.lst zs)/\zs=(xs.take i).mapIdx f,⟨xs.length,by simp,FZ _,⟨_,_,Z⟩,Aw hacc _,Aj,by simp⟩,?_⟩;rintro i m zs j H2 ⟨rfl,hi,⟨v,w,rfl⟩,b,h,c⟩;by_cases hlt:i<xs.length
 ·have p:xs[i]?=some xs[i]:=by simp[hlt]
  refine .inr ⟨⟨xs,_,b.seq hl,p⟩,λu q o=>?_⟩;obtain⟨T,x,rfl,n,rfl,h1⟩:=o;have k:=h1 xs (b.seq hl);have d:=Aw n (.tup [.int i,x]);have r:zs.length=i:=by rw[c,List.length_mapIdx,Ft];omega
  refine hg (x:=.int i) (y:=x) Aj (hs i x _ _ k (b.trans d) ⟨d _ _ h,by omega,xs.length-(i+1),by omega,Z,hlt,⟨_,_,Z⟩,Ec (b.trans d) hacc,Aj,?_⟩);rw[Ga,k,G7,List.mapIdx_append,c];have:(xs.take i).length=i:=by rw[Ft];omega
  simp[this]
 ·have e:i=xs.length:=by omega
  subst e;exact .inl ⟨⟨xs,b.seq hl,Bf _⟩,hd H2 b (by rw[h,c,G6])⟩
theorem o8{K:U0}{l:Y3}{ns:U6}{tc:TT}{te:TE}{fr:St}{H1:Hp}{acc:Y3}{Q:VK}(p:Int->Bool)(f:Int->Int)(hn:ns.length<=sizeLine)(hacc:H1 acc=none)(hl:Ag K H1 l (ns.map V.int))
  (hs:∀n H (N:Bool->Hp->Prop),n∈ns->Same H1 H->N (p n) H->tc (some (.int n)::fr) H N)
  (ht:∀n H (N:V->Hp->Prop),n∈ns->p n=true->Same H1 H->N (.int (f n)) H->te (some (.int n)::fr) H N)
  (hd:∀H2,Same H1 H2->H2 acc=some (.lst (((ns.filter p).map f).map V.int))->Q (.ref acc) H2):Lg (Lh K l) (CN 0) tc te (none::fr) H1 acc Q:=by
 refine⟨λi m zs j H2=>m=ns.length-i/\i<=ns.length/\(∃v,j=v::fr)/\Same H1 H2/\H2 acc=some (.lst zs)/\zs=(((ns.take i).filter p).map f).map V.int,⟨ns.length,by simp,FZ _,⟨_,Z⟩,Aw hacc _,Aj,by simp⟩,?_⟩;rintro i m zs j H2 ⟨rfl,hi,⟨v,rfl⟩,a,d,c⟩;by_cases hlt:i<ns.length
 ·have g:ns[i]?=some ns[i]:=by simp[hlt]
  have h:(ns.map V.int)[i]?=some (.int ns[i]):=by rw[Bo,g];rfl
  have r:zs.length<=i:=by
   rw[c,Ax,Ax];exact Eh (Yd _ _) (by rw[Ft];omega)
  have b:ns[i]∈ns:=G5 hlt;refine .inr ⟨⟨_,_,a.seq hl,h⟩,λu q k=>?_⟩;obtain⟨rfl,o⟩:=k;have:=o _ (a.seq hl);rw[h]at this;cases this;refine hs ns[i] _ _ b a ⟨λhp=>ht ns[i] _ _ b hp a ⟨d,by omega,ns.length-(i+1),by omega,Z,hlt,⟨_,Z⟩,Ec a hacc,Aj,?_⟩,λhp=>⟨ns.length-(i+1),by omega,Z,hlt,⟨_,Z⟩,a,d,?_⟩⟩
  ·rw[Ga,g,G7,SN,CJ,CJ,c];simp[hp]
  ·rw[Ga,g,G7,SN,CJ,CJ,c];simp[hp]
 ·have e:i=ns.length:=by omega
  subst e;exact .inl ⟨⟨_,a.seq hl,by rw[Ax];exact Bf _⟩,hd H2 a (by rw[d,c,G6])⟩
end L2
namespace Av
open L2 Pc Dv Ez
def CW (H:Hp):List Addr->List Mk->Prop:=Paired λp m=>H p=some (T3 m)
variable{H:Hp}{ps:U3}{ms:List Mk}
theorem CW.same{H':Hp}(h:CW H ps ms)(s:Same H H'):CW H' ps ms:=Paired.imp' (λ_ _ c=>s _ _ c) h
theorem CW.length(h:CW H ps ms):ps.length=ms.length:=Paired.length h
theorem CW.get{H:Hp}:∀{ps:U3}{ms:List Mk}{i:Nat}{p:Y3},CW H ps ms->ps[i]?=some p->∃e,ms[i]?=some e/\H p=some (T3 e)
 | p'::ps,e::es,0,p,.cons a r,h=>by
  have:p'=p:=by simpa using h
  subst this;exact⟨e,Z,a⟩
 | p'::ps,e::es,i+1,p,.cons a r,h=>by
  obtain⟨f,b,c⟩:=CW.get (ps:=ps) (ms:=es) (i:=i) (p:=p) r (by simpa using h);exact⟨f,by simpa using b,c⟩
theorem CW.at{i:Nat}(h:CW H ps ms)(hi:i<ms.length):∃p,ps[i]?=some p/\H p=some (T3 (ms.getD i (0,0,0))):=by
 have d:=h.length;have a:ps[i]?=some (ps[i]'(by omega)):=by simp[show i<ps.length by omega]
 obtain⟨e,c,b⟩:=h.get a;refine⟨_,a,?_⟩;rw[Bb,c];exact b
noncomputable abbrev L3 (m:Mk):List V:=[.int m.1,.int m.2.1,.int m.2.2]
def fV (K:U0):Sp:=λvs H Q _=>∃(p p':Y3) (m m':Mk),vs=[.ref p,.ref p']/\Ak K H p (L3 m)/\Ak K H p' (L3 m')/\∀(r:Y3) (H':Hp),Same H H'->H' r=some (T3 (mul m m'))->Q (.ref r) H'
def lW (K:U0):Sp:=λvs H Q _=>∃(l:Y3) (ps:U3) (ms:List Mk),vs=[.ref l]/\Ag K H l (ps.map V.ref)/\CW H ps ms/\∀(r:Y3) (H':Hp),Same H H'->Ak K H' r (L3 (prod ms))->Q (.ref r) H'
def lK (K:U0):Sp:=λvs H Q _=>∃(l:Y3) (ps:U3) (ms:List Mk) (pt:Int) (fs:W7) (n:Nat),vs=[.ref l,.int pt,.int n]/\Ag K H l (ps.map V.ref)/\CW H ps ms/\ms.length<=60 /\
 (pt=1/\fs=ms.map (·.2.1)\/pt=2/\fs=ms.map (·.2.2))/\∀H',Same H H'->Q (.int (Wm fs n fs.length:Nat)) H'
def nj (K:U0):Sp:=λvs H Q _=>∃(l:Y3) (c n:Nat),vs=[.ref l,.int n]/\Ag K H l ((places c (bl c)).map λp=>V.int (p:Nat))/\n<=6/\c<2^(n+n) /\
 ∀(r:Y3) (H':Hp),Same H H'->H' r=some (T3 (pc (c / 2^n&&&c%2^n)%4,c / 2^n,c%2^n))->Q (.ref r) H'
theorem oY(c k:Nat):∀N,((((places c N).map λp=>((p:Nat):Int)).filter λz:Int=>decide ((k:Int)<=z)).map λz:Int=>(1:Int)*2^(z-(k:Int)).toNat).sum=((c%2^N / 2^k:Nat):Int)
 | 0=>by simp[places,V3]
 | N+1=>by
  have f:=oY c k N;have p:=Ei k;rw[Uq,CJ,SN,CJ,YC,f,WW];show _+((((if bit c N=1 then [N] else []).map λp=>((p:Nat):Int)).filter λz:Int=>decide ((k:Int)<=z)).map λz:Int=>(1:Int)*2^(z-(k:Int)).toNat).sum=_;have i:c%2^N<2^N:=Fq _ (Ei N);rcases (by have:=FN c N;omega:bit c N=0\/bit c N=1) with z | z
  ·rw[z];simp
  ·rw[z,if_pos rfl,Pr];by_cases hk:k<=N
   ·obtain⟨d,rfl⟩:∃d,N=k+d:=⟨N-k,by omega⟩;have e:(c%2^(k+d)+2^(k+d)) / 2^k=c%2^(k+d) / 2^k+2^d:=by rw[Rk,Nat.add_mul_div_left _ _ p]
    rw[e];have a:(k:Int)<=(k:Int)+d:=by omega
    have b:((k:Int)+d).toNat-k=d:=by omega
    simp[a,b]
   ·have e:(c%2^N+2^N) / 2^k=0:=QC (by
     have:=Gn (show 0<2 by decide) (show N+1<=k by omega)
     rw[Ib]at this
     omega)
    have g:c%2^N / 2^k=0:=QC (Jr i (Jt (by decide) (by omega)));rw[e,g];have h:¬ ((k:Int)<=N):=by omega
    simp[h]
theorem nC(c k:Nat):∀N,((((places c N).map λp=>((p:Nat):Int)).filter λz=>decide (z<(k:Int))).map λz=>(1:Int)*2^z.toNat).sum=((c%2^N%2^k:Nat):Int)
 | 0=>by simp[places,V3]
 | N+1=>by
  have a:=nC c k N;rw[Uq,CJ,SN,CJ,YC,a,WW];show _+((((if bit c N=1 then [N] else []).map λp=>((p:Nat):Int)).filter λz=>decide (z<(k:Int))).map λz=>(1:Int)*2^z.toNat).sum=_;have f:c%2^N<2^N:=Fq _ (Ei N);rcases (by have:=FN c N;omega:bit c N=0\/bit c N=1) with z | z
  ·rw[z];simp
  ·rw[z,if_pos rfl,Pr];by_cases hk:k<=N
   ·obtain⟨d,rfl⟩:∃d,N=k+d:=⟨N-k,by omega⟩;have e:(c%2^(k+d)+2^(k+d))%2^k=c%2^(k+d)%2^k:=by rw[Rk,Nat.add_mul_mod_self_left]
    rw[e];have b:¬ ((k:Int)+d<k):=by omega
    simp[b]
   ·have hp:2*2^N<=2^k:=by
     have:=Gn (show 0<2 by decide) (show N+1<=k by omega);rw[Ib]at this;exact this
    rw[KH (show c%2^N+2^N<2^k by omega),KH (show c%2^N<2^k by omega)];simp[show N<k by omega]
theorem ipow(n:Nat):(1:Int)*2^((n:Int).toNat)=((2^n:Nat):Int):=by simp
theorem t3:3<=sizeLine:=by decide
theorem V_(x:Nat):Builtin.bitAnd (x:Int) 1=((x%2:Nat):Int):=by
 have:=Qq x 1;rw[Nat.and_one_is_mod]at this;exact this
section
variable {P:U8}{w:W1}{K:U0}{mg:U4}{base:Heap}{k:Nat}{h:Heap}
theorem zA(F:Ab K "product" (top 22) .none)(X:K.In h)(G:Ng h mg)(cK:Ao P w K mg base k "ones" ["number"] Cg):Ao P w K mg base (k+1) "product" ["one","other"] (fV K):=by
 refine F.cal X G ["one","other","met"] λf H vs Q E d h=>?_;obtain⟨p,a,m,m',rfl,c,b,e⟩:=h
 refine⟨_,(@Az _ _ _ _ _ (@BW _ _ 2 _ _ _ _ f rfl (Or.inl rfl) (BJ cK d rfl (Aa (Ah Hj (BR Bk (pv 0) Ae (λ_ _=>rfl)) (BR Bk (pv 1) Ae (λ_ _=>rfl))) Ad)) rfl (.inl rfl))
  (@Al _ _ _ (BL (@Cr _ _ _ _ _ (Aa (Ah Ck (Ah Hx (Ah Hx (BR Bk (pv 0) Ae (λ_ _=>rfl)) (BR Bk (pv 1) Ae (λ_ _=>rfl))) (Ah Ow Ae (pv 2))) Ae) (Aa (Ah La (BR Bk (pv 0) Ae (λ_ _=>rfl)) (BR Bk (pv 1) Ae (λ_ _=>rfl))) (Aa (Ah La (BR Bk (pv 0) Ae (λ_ _=>rfl)) (BR Bk (pv 1) Ae (λ_ _=>rfl))) Ad))))))),?_⟩
 try dsimp only[Cm]
 refine⟨_,Z,p,_,_,_,Z,Z,c,Z,_,Z,a,_,_,_,Z,Z,b,Z,_,_,Z,Z,m.2.2&&&m'.2.1,KY _ _,?_⟩;refine⟨_,Z,p,_,_,_,Z,Z,c,Z,_,Z,a,_,_,_,Z,Z,b,Z,_,_,Z,Z,_,Z,_,_,Z,Z,.inl ⟨by decide,by decide⟩,_,_,Z,Z,_,_,Z,Z,dz,?_⟩;refine⟨_,Z,p,_,_,_,Z,Z,c,Z,_,Z,a,_,_,_,Z,Z,b,Z,_,_,Z,Z,_,Z,p,_,_,_,Z,Z,c,Z,_,Z,a,_,_,_,Z,Z,b,Z,_,_,Z,Z,t3,λr d=>?_⟩;refine e r _ (Aw d _) ?_;rw[Aj];show some (HO.tup [.int (((m.1:Int)+m'.1+2*((pc (m.2.2&&&m'.2.1):Nat):Int))%4),.int (Builtin.bitXor (m.2.1:Int) m'.2.1),.int (Builtin.bitXor (m.2.2:Int) m'.2.2)])=_;rw[LQ,LQ];rfl
theorem yJ(F:Ab K "product_of" (top 35) .none)(X:K.In h)(G:Ng h mg){aP:Y3}(gP:mg "PRODUCT_OF_NONE"=some (.ref aP))(sP:∀H:Hp,Ak K H aP (L3 (0,0,0)))
  (cY:Ao P w K mg base k "product" ["one","other"] (fV K)):Ao P w K mg base (k+1) "product_of" ["marks"] (lW K):=by
 refine F.cal X G ["marks","made","mark"] λj H vs Q E f h=>?_;obtain⟨l,ps,ms,rfl,o,n,t⟩:=h;have b:=n.length
 refine⟨_,(@Az _ _ _ _ _ (@BW _ _ 1 _ _ _ _ j rfl (Or.inl rfl) (nU (v:=.ref aP) rfl gP rfl) rfl (.inl rfl))
  (@Az _ _ _ _ _ (Io PassesOwn.never rfl (Ew (pv 0)) (CP (i:=2) j rfl (Or.inl rfl))
   (@Al _ _ _ (@BW _ _ 1 _ _ _ _ j rfl (Or.inl rfl) (BJ cY f rfl (Aa (pv 1) (Aa (pv 2) Ad))) rfl (.inl rfl))))
  (@Al _ _ _ (BL (pv 1))))),?_⟩
 try dsimp only[Cm]
 refine⟨_,Z,l,Z,⟨_,o⟩,Kd (K:=K) (a:=l) (xs:=ps.map V.ref) (λi σ H'=>Same H H'/\∃(p:Y3) (v:Option V),Ak K H' p (L3 ((ms.take i).foldl mul (0,0,0)))/\σ=[some (.ref l),some (.ref p),v]) ⟨Same.refl _,aP,none,sP H,Z⟩ (λi σ H' _ e=>e.1.seq o) ?_ ?_⟩
 ·rintro i x σ H1 q ⟨s1,p,v,sp,rfl⟩;rw[Bo]at q;obtain⟨s,g,rfl⟩:=D_.mp q;obtain⟨m,d,c⟩:=n.get g;refine⟨_,Z,_,Z,p,s,_,m,Z,sp,Ak.of (s1 _ _ c),λr H2 u f=>⟨s1.trans u,r,_,?_,Z⟩⟩;rw[Ga,d,G7,R_];exact Ak.of f
 ·rintro σ H1 ⟨s1,p,v,sp,rfl⟩;rw[Ax,b,G6]at sp;exact⟨_,Z,t p H1 s1 sp⟩
theorem zc(F:Ab K "rows_with" (top 34) .none)(X:K.In h)(G:Ng h mg)(B:Bs mg):Ao P w K mg base (k+1) "rows_with" ["rows","part","cell"] (lK K):=by
 refine F.cal X G ["rows","part","cell"] λM H vs Q E J h=>?_;obtain⟨l,ps,ms,pt,fs,n,rfl,t,r,C,d,D⟩:=h;have c:=r.length;have fl:fs.length=ms.length:=by rcases d with ⟨_,rfl⟩ | ⟨_,rfl⟩<;>exact Ax _
 refine⟨_,(@Al _ _ _ (BL (Bc (fK rfl) rfl B.sum boot_sum (Aa (GF rfl (BX.of (Nc:=["place","row","part","cell"]) (mp:=[none,none,some 1,some 2]) (by kernel_rfl)) (Qf rfl B.enumerate (Aa (pv 0) Ad)) (λ_ _ _ _=>(WX rfl (show (["place","row","part","cell"]:W0).Nodup by decide +kernel) rfl rfl rfl rfl)) (λ_ _ _ _=>(Ah Ge (Ah Hj (Ah Qa (BR O6 (pv 1) (pv 2) (λ_ _=>rfl)) (pv 3)) Ae) (pv 0)))) Ad)))),?_⟩;try dsimp only[Cm]
 refine⟨_,Z,l,_,Z,t,λacc a=>?_⟩;refine X2y (l:=l) (xs:=ps.map V.ref) (fr:=[some (.int pt),some (.int n)]) (λi _=>.int (((bit (fs.getD i 0) n:Nat):Int)*2^i)) (by rw[Ax];exact Ce (by omega)) a t (λh q=>⟨_,_,Z,Ak.of h,Z,_,_,Z,_,_,Z,Z,q⟩) ?_ ?_
 ·intro i x H2 N u p z;rw[Bo]at u;obtain⟨y,g,rfl⟩:=D_.mp u;obtain⟨m,b,f⟩:=r.get g;have A:i<ms.length:=(Cv.mp b).1;have S:Ak K H2 y (L3 m):=Ak.of (p _ _ f);have o:Im (L3 m) pt=some (.int (fs.getD i 0:Nat)):=by
   rcases d with ⟨rfl,rfl⟩ | ⟨rfl,rfl⟩<;>rw[Bb,Bo,b]<;>rfl
  have L:=FN (fs.getD i 0) n;have I:((fs.getD i 0:Nat):Int) / 2^((n:Int)).toNat=((fs.getD i 0 / 2^n:Nat):Int):=by rw[Ej];simp
  refine⟨_,Z,_,Z,y,_,_,_,Z,Z,S,o,_,Z,_,_,Z,Z,by omega,_,_,Z,Z,_,Z,?_⟩;show rI JH (λi j=>V.int (i*2^j.toNat)) (V.int (Builtin.bitAnd (((fs.getD i 0:Nat):Int) / 2^((n:Int)).toNat) 1)) (V.int (i:Int)) H2 N;rw[I,V_];refine⟨_,_,Z,Z,⟨1,?_,by omega,by omega⟩,?_⟩
  ·show ((bit (fs.getD i 0) n:Nat):Int).natAbs<2^1;omega
  ·show N (.int (((bit (fs.getD i 0) n:Nat):Int)*2^((i:Int)).toNat)) H2;rw[Ej];exact z
 ·intro H2 p s;have e:((ps.map V.ref).mapIdx λi _=>V.int (((bit (fs.getD i 0) n:Nat):Int)*2^i))=(fs.mapIdx λi v=>((bit v n:Nat):Int)*2^i).map V.int:=by
   apply R8
   ·simp[c,fl]
   ·intro i h1 h2;simp only[Ax,List.length_mapIdx]at h2;simp[h2]
  rw[e]at s;refine⟨acc,_,Z,Ag.of s,?_⟩;have:=qy fs n fs.length (Bf _);rw[G6]at this;rw[this];exact D H2 p
theorem vh(F:Ab K "apart_by" (top 36) .none)(X:K.In h)(G:Ng h mg)(B:Bs mg)(cK:Ao P w K mg base k "ones" ["number"] Cg):Ao P w K mg base (k+1) "apart_by" ["numbers","cells"] (nj K):=by
 refine F.cal X G ["numbers","cells","flips","signs"] λs H vs Q E o h=>?_;obtain⟨l,c,n,rfl,j,I,A,C⟩:=h;have t:((places c (bl c)).map λp=>V.int (p:Nat))=((places c (bl c)).map λp=>((p:Nat):Int)).map V.int:=by rw[Gk];rfl
 rw[t]at j;have J:bl c<=n+n:=Gd.mpr A;have a:∀z∈(places c (bl c)).map λp=>((p:Nat):Int),∃p:Nat,z=p/\p<12:=λz hz=>by
  obtain⟨p,hp,rfl⟩:=DY.mp hz;exact⟨p,Z,by have:=Mu hp;omega⟩
 have b:((places c (bl c)).map λp=>((p:Nat):Int)).length<=sizeLine:=by
  rw[Ax];exact Ce (Eh (Yd _ _) (by rw[Ig];omega))
 have hi:=oY c n (bl c);have lo:=nC c n (bl c);rw[KH (Wn c)]at hi lo;generalize ((places c (bl c)).map λp=>((p:Nat):Int))=ns at *
 refine⟨_,(@Az _ _ _ _ _ (@BW _ _ 2 _ _ _ _ s rfl (Or.inl rfl) (Bc (fK rfl) rfl B.sum boot_sum (Aa (gO rfl (BX.of (Nc:=["number","cells"]) (mp:=[none,some 1]) (by kernel_rfl)) (Ew (pv 0)) (λ_ _ _ _=>(CP (i:=0) (show (["number","cells"]:W0).Nodup by decide +kernel) rfl (Or.inl rfl))) (λ_ _ _ _=>(Bx qL (pv 0) (pv 1) (Ac _))) (λ_ _ _ _=>(Ah Ge Ae (Ah Ox (pv 0) (pv 1))))) Ad)) rfl (.inl rfl))
  (@Az _ _ _ _ _ (@BW _ _ 3 _ _ _ _ s rfl (Or.inl rfl) (Bc (fK rfl) rfl B.sum boot_sum (Aa (gO rfl (BX.of (Nc:=["number","cells"]) (mp:=[none,some 1]) (by kernel_rfl)) (Ew (pv 0)) (λ_ _ _ _=>(CP (i:=0) (show (["number","cells"]:W0).Nodup by decide +kernel) rfl (Or.inl rfl))) (λ_ _ _ _=>(Bx LK (pv 0) (pv 1) (Ac _))) (λ_ _ _ _=>(Ah Ge Ae (pv 0)))) Ad)) rfl (.inl rfl))
  (@Al _ _ _ (BL (@Cr _ _ _ _ _ (Aa (Ah Ck (BJ cK o rfl (Aa (Ah Hj (pv 2) (pv 3)) Ad)) Ae) (Aa (pv 2) (Aa (pv 3) Ad)))))))),?_⟩
 try dsimp only[Cm]
 refine⟨_,Z,l,Z,⟨_,j⟩,λacc f=>?_⟩;refine o8 (l:=l) (ns:=ns) (fr:=[some (.int n)]) (λz=>decide ((n:Int)<=z)) (λz=>1*2^(z-n).toNat) b f j (λz H2 N _ _ d=>⟨_,Z,_,Z,_,_,Z,Z,_,Z,d⟩) (λz H2 N hz hp _ d=>?_) ?_
 ·obtain⟨p,rfl,g⟩:=a z hz;have v:=QG hp;exact⟨_,Z,_,Z,_,_,Z,Z,_,_,Z,Z,⟨1,Jc,by omega,by omega⟩,d⟩
 intro H2 q u;refine⟨acc,_,Z,Ag.of u,?_⟩;rw[hi];refine⟨_,Z,l,Z,⟨_,q.seq j⟩,λm e=>?_⟩;refine o8 (l:=l) (ns:=ns) (fr:=[some (.int n)]) (λz=>decide (z<(n:Int))) (λz=>1*2^z.toNat) b e (q.seq j) (λz H2 N _ _ d=>⟨_,Z,_,Z,_,_,Z,Z,_,Z,d⟩) (λz H2 N hz hp _ d=>?_) ?_
 ·obtain⟨p,rfl,g⟩:=a z hz;exact⟨_,Z,_,_,Z,Z,⟨1,Jc,by omega,by omega⟩,d⟩
 intro D y x;refine⟨m,_,Z,Ag.of x,?_⟩;rw[lo];refine⟨_,Z,_,Z,_,_,Z,Z,c / 2^n&&&c%2^n,KY _ _,_,_,Z,Z,dz,_,Z,_,Z,t3,λr o=>?_⟩;refine C r _ ((q.trans y).trans (Aw o _)) ?_;rw[Aj];rfl
noncomputable def comm (a b:Mk):Nat:=(pc (a.2.1&&&b.2.2)+pc (a.2.2&&&b.2.1))%2
structure Gz (N:Nat) (m:Mk):Prop where
 q:m.1<4
 f:m.2.1<2^N
 s:m.2.2<2^N
def VF (ms:List Mk)(mark:Mk)(N:Nat)(H0 H:Hp)(r:Y3):Prop :=
 (∃(kk x:Nat) (l:Y3),H0 l=none/\H r=some (.tup [.str "made",.int kk,.ref l])/\H l=some (.lst ((places x ms.length).map λp=>V.int (p:Nat)))/\kk<4/\(chosen ms x ms.length).foldl mul (kk,0,0)=mark) \/
 ∃(p:Y3) (o:Mk),H r=some (.tup [.str "apart",.ref p])/\H p=some (T3 o)/\Gz N o/\(o.1+pc (o.2.1&&&o.2.2))%2=0/\comm o mark=1/\∀m∈ms,comm o m=0
def fC (K:U0):Sp:=λvs H Q _=>∃(l pm:Y3) (ps:U3) (ms:List Mk) (mark:Mk) (N:Nat),vs=[.ref l,.ref pm,.int N]/\Ag K H l (ps.map V.ref)/\CW H ps ms/\H pm=some (T3 mark)/\N<=6/\ms.length<=12/\(∀m∈ms,Gz N m)/\Gz N mark /\
 ∀(r:Y3) (H':Hp),Same H H'->VF ms mark N H H' r->Q (.ref r) H'
theorem CW.pick{H:Hp}{ps:U3}{ms:List Mk}(h:CW H ps ms):∀(pl:W7),(∀p∈pl,p<ms.length)->CW H (pl.map λp=>ps.getD p 0) (pl.map λp=>ms.getD p (0,0,0))
 | [],_=>.nil
 | p::pl,hp=>by
  obtain⟨a,d,c⟩:=h.at (hp p Iu);refine .cons ?_ (CW.pick h pl λq b=>hp q (Iv _ b));show H (ps.getD p 0)=_;rw[Bb,d];exact c
theorem lQ{α β:Type}{F:α->β->Prop}{l2:List α}{r2:List β}:∀{l1:List α}{r1:List β},Paired F l1 r1->Paired F l2 r2->Paired F (l1++l2) (r1++r2)
 | [],[],_,h=>h
 | _::_,_::_,.cons a t,h=>.cons a (lQ t h)
variable{N:Nat}
theorem X3g(h:∀m∈ms,Gz N m)(j:Nat):(ms.map (·.2.1)).getD j 0<2^N/\(ms.map (·.2.2)).getD j 0<2^N:=by
 rw[Bb,Bb,Bo,Bo];cases e:ms[j]? with
 | none=>exact⟨Ei N,Ei N⟩
 | some m=>exact⟨(h m (Dz e)).f,(h m (Dz e)).s⟩
noncomputable abbrev both (ms:List Mk)(mark:Mk)(N:Nat):List Cy:=eqs (ms.map (·.2.1)) mark.2.1 N++eqs (ms.map (·.2.2)) mark.2.2 N
theorem oH(ms:List Mk)(mark:Mk)(N:Nat):(both ms mark N).length=N+N:=by rw[DQ,Qd,Qd]
theorem X3l{fs:W7}{v:Nat}{e:Cy}(h:e∈eqs fs v N):∃n,n<N/\e=(Wm fs n fs.length,bit v n):=by
 obtain⟨n,a,rfl⟩:=DY.mp h;exact⟨n,Fb.mp a,Z⟩
theorem xM{mark:Mk}(h:ms.length<=12):Lj (both ms mark N):=by
 have a:∀e∈both ms mark N,e.2<2/\e.1<2^12:=λe b=>by
  rcases E_.mp b with q | q<;>obtain⟨n,_,rfl⟩:=X3l q
  ·exact⟨FN _ _,CK (Ur _ _ _) (Gn (by decide) (by rw[Ax];exact h))⟩
  ·exact⟨FN _ _,CK (Ur _ _ _) (Gn (by decide) (by rw[Ax];exact h))⟩
 exact⟨λe b=>(a e b).1,λe b=>Jr (a e b).2 (Jt (by decide) (by decide))⟩
theorem vJ{mark:Mk}{x:Nat}(hm:∀m∈ms,Gz N m)(hk:Gz N mark)(h:∀e∈both ms mark N,sat x e):(prod (chosen ms x ms.length)).2=mark.2:=by
 have g:=X3g hm;have c:(prod (chosen ms x ms.length)).2.1=mark.2.1:=by
  rw[UL];refine Wf N _ _ (Wj (λj=>(g j).1) _) hk.f λn a=>?_;have:=h (Wm (ms.map (·.2.1)) n (ms.map (·.2.1)).length,bit mark.2.1 n) (JQ _ (DY.mpr ⟨n,Fb.mpr a,Z⟩));rw[Ax]at this;rw[iM];exact this
 have b:(prod (chosen ms x ms.length)).2.2=mark.2.2:=by
  rw[UW];refine Wf N _ _ (Wj (λj=>(g j).2) _) hk.s λn a=>?_;have:=h (Wm (ms.map (·.2.2)) n (ms.map (·.2.2)).length,bit mark.2.2 n) (Fw _ (DY.mpr ⟨n,Fb.mpr a,Z⟩));rw[Ax]at this;rw[iM];exact this
 exact Prod.ext c b
theorem Eqs.upd{l:Y3}{xs ys:List V}{es:List Cy}(h:Eqs H ps es)(hl:H l=some (.lst xs)):Eqs (upd H l (.lst ys)) ps es :=
 Paired.imp' (λ_ _ c=>by rw[BK (LC c hl (by intro z;cases z))];exact c) h
theorem Q8{a b:Nat}(ha:a<2)(hb:b<2):a^^^b=(a+b)%2:=by
 have:=Ld a b;have d:a / 2=0:=by omega
 have c:b / 2=0:=by omega
 rw[d,c]at this;have q:(0^^^0:Nat)=0:=rfl;omega
theorem yW{mark:Mk}{c:Nat}(hc:c<2^(N+N))(h:comb (both ms mark N) c=(0,1)):
  comm (pc (c / 2^N&&&c%2^N)%4,c / 2^N,c%2^N) mark=1/\∀m∈ms,comm (pc (c / 2^N&&&c%2^N)%4,c / 2^N,c%2^N) m=0:=by
 rw[Wg,Qd]at h;have d:c / 2^N%2^N=c / 2^N:=KH (by rw[Rk]at hc;exact Nat.div_lt_of_lt_mul hc);constructor
 ·have h2:(comb (eqs (ms.map (·.2.1)) mark.2.1 N) c).2^^^(comb (eqs (ms.map (·.2.2)) mark.2.2 N) (c / 2^N)).2=1:=congrArg Prod.snd h;rw[dh,dh,d,Q8 (Fq _ (by decide)) (Fq _ (by decide))]at h2;unfold comm;show (pc (c / 2^N&&&mark.2.2)+pc (c%2^N&&&mark.2.1))%2=1;omega
 ·intro m g;obtain⟨j,a,rfl⟩:=Sh.mp g;have h1:(comb (eqs (ms.map (·.2.1)) mark.2.1 N) c).1^^^(comb (eqs (ms.map (·.2.2)) mark.2.2 N) (c / 2^N)).1=0:=congrArg Prod.fst h;have b:bit ((comb (eqs (ms.map (·.2.1)) mark.2.1 N) c).1^^^(comb (eqs (ms.map (·.2.2)) mark.2.2 N) (c / 2^N)).1) j=bit 0 j:=by rw[h1]
  rw[Ez.Ka,dg _ _ _ _ (by rw[Ax];exact a),dg _ _ _ _ (by rw[Ax];exact a),d,Ug]at b;have f:(ms.map (·.2.1)).getD j 0=ms[j].2.1:=by rw[Bb,Bo,Bm a];rfl
  have e:(ms.map (·.2.2)).getD j 0=ms[j].2.2:=by rw[Bb,Bo,Bm a];rfl
  rw[f,e]at b;unfold comm;show (pc (c / 2^N&&&ms[j].2.2)+pc (c%2^N&&&ms[j].2.1))%2=0;omega
theorem yH(F:Ab K "made_of" (top 33) .none)(X:K.In h)(G:Ng h mg)(B:Bs mg)(cZ:Ao P w K mg base k "rows_with" ["rows","part","cell"] (lK K))(dQ:Ao P w K mg base k "solved" ["equations"] (pO K))
  (dL:Ao P w K mg base k "apart_by" ["numbers","cells"] (nj K)) (dF:Ao P w K mg base k "product_of" ["marks"] (lW K)):Ao P w K mg base (k+1) "made_of" ["rows","mark","cells"] (fC K):=by
 refine F.cal X G ["rows","mark","cells","flips","signs","told","numbers","made"] λO H vs Q E a h=>?_;obtain⟨l,s,ps,ms,mark,N,rfl,hS,D,I,hN,J,b6,a',kq⟩:=h;have M:=D.length
 refine⟨_,(@Az _ _ _ _ _ (eY (i:=3) rfl O rfl rfl (BX.of (Nc:=["cell","rows","mark"]) (mp:=[none,some 0,some 1]) (by kernel_rfl)) (Qm rfl B.range (Aa (pv 2) Ad)) (λ_ _ _ _=>(CP (i:=0) (show (["cell","rows","mark"]:W0).Nodup by decide +kernel) rfl (Or.inl rfl))) (λ_ _ _ _=>(@Cr _ _ _ _ _ (Aa (BJ cZ a rfl (Aa (pv 1) (Aa Ae (Aa (pv 0) Ad)))) (Aa (Ah Hj (Ah Qa (BR O6 (pv 2) Ae (λ_ _=>rfl)) (pv 0)) Ae) Ad)))) rfl)
  (@Az _ _ _ _ _ (eY (i:=4) rfl O rfl rfl (BX.of (Nc:=["cell","rows","mark"]) (mp:=[none,some 0,some 1]) (by kernel_rfl)) (Qm rfl B.range (Aa (pv 2) Ad)) (λ_ _ _ _=>(CP (i:=0) (show (["cell","rows","mark"]:W0).Nodup by decide +kernel) rfl (Or.inl rfl))) (λ_ _ _ _=>(@Cr _ _ _ _ _ (Aa (BJ cZ a rfl (Aa (pv 1) (Aa Ae (Aa (pv 0) Ad)))) (Aa (Ah Hj (Ah Qa (BR O6 (pv 2) Ae (λ_ _=>rfl)) (pv 0)) Ae) Ad)))) rfl)
  (@Az _ _ _ _ _ (@BW _ _ 5 _ _ _ _ O rfl (Or.inr rfl) (BJ dQ a rfl (Aa (Ah XH (pv 3) (pv 4)) Ad)) rfl (.inl rfl))
  (@Az _ _ _ _ _ (Bq (Bx Ml (BR Bk (pv 5) Ae (λ_ _=>rfl)) Gv (Ac _))
   (@Al _ _ _ (BL (@Cr _ _ _ _ _ (Aa C_ (Aa (BJ dL a rfl (Aa (BR Bk (pv 5) Ae (λ_ _=>rfl)) (Aa (pv 2) Ad))) Ad)))))
   Bw)
  (@Az _ _ _ _ _ (yP (i:=6) rfl O rfl rfl (BX.of (Nc:=["place","told"]) (mp:=[none,some 5]) (by kernel_rfl)) (Qm rfl B.range (Aa (Bc G8 rfl B.len Gm (Aa (pv 0) Ad)) Ad)) (λ_ _ _ _=>(CP (i:=0) (show (["place","told"]:W0).Nodup by decide +kernel) rfl (Or.inl rfl))) (λ_ _ _ _=>(nY (Ah Hj (Ah Qa (BR O6 (pv 1) Ae (λ_ _=>rfl)) (pv 0)) Ae) (by intro _;rfl))) (λ_ _ _ _=>(pv 0)) rfl)
  (@Az _ _ _ _ _ (@BW _ _ 7 _ _ _ _ O rfl (Or.inl rfl) (BJ dF a rfl (Aa (GF rfl (BX.of (Nc:=["place","rows"]) (mp:=[none,some 0]) (by kernel_rfl)) (Ew (pv 6)) (λ_ _ _ _=>(CP (i:=0) (show (["place","rows"]:W0).Nodup by decide +kernel) rfl (Or.inl rfl))) (λ_ _ _ _=>(BR eO (pv 1) (pv 0) (λ_ _=>rfl)))) Ad)) rfl (.inl rfl))
  (@Al _ _ _ (BL (@Cr _ _ _ _ _ (Aa C_ (Aa (Ah Ck (Ah Ox (BR Bk (pv 1) Ae (λ_ _=>rfl)) (BR Bk (pv 7) Ae (λ_ _=>rfl))) Ae) (Aa (pv 6) Ad)))))))))))),?_⟩
 try dsimp only[Cm]
 refine⟨_,Z,_,Z,by omega,by omega,λa1 R=>?_⟩;rw[Ej];refine WR (n:=N) (fr:=[some (.ref l),some (.ref s)]) (λi ys H'=>Same H H'/\H' a1=some (.lst ys)/\∃d:List Addr,ys=d.map V.ref/\Eqs H' d (eqs (ms.map (·.2.1)) mark.2.1 i)) (Ce (by omega)) ⟨Aw R _,Aj,[],Z,.nil⟩ ?_ ?_
 ·rintro i ys H2 NN hi hl ⟨j,g,d,rfl,hq⟩ t;have o:(0:Int)+(i:Int)=(i:Int):=Pu _;refine⟨_,Z,_,Z,l,ps,ms,1,_,i,(by rw[o];rfl),j.seq hS,D.same j,by omega,.inl ⟨Z,Z⟩,λH3 b=>?_⟩;have A:Ak K H3 s (L3 mark):=Ak.of (b _ _ (j _ _ I));have u:(mark.2.1:Int) / 2^(0+(i:Int)).toNat=((mark.2.1 / 2^i:Nat):Int):=by rw[o,Ej];simp
  refine⟨_,Z,s,_,_,_,Z,Z,A,Z,_,Z,_,_,Z,Z,by omega,_,_,Z,Z,t2,λr a=>?_⟩;have m:=Aw a (.tup [.int (Wm (ms.map (·.2.1)) i (ms.map (·.2.1)).length:Nat),.int (Builtin.bitAnd ((mark.2.1:Int) / 2^(0+(i:Int)).toNat) 1)]);have hn:a1≠r:=Le (b _ _ g) a;refine t _ _ (m _ _ (b _ _ g)) ⟨Ec ((j.trans b).trans m) R,Aj,d++[r],by rw[CJ];rfl,?_⟩;rw[WM];refine Paired.snoc (((hq.same b).same m).upd (m _ _ (b _ _ g))) ?_;rw[BK (Ne.symm hn),Aj];show some (HO.tup [.int _,.int (Builtin.bitAnd ((mark.2.1:Int) / 2^(0+(i:Int)).toNat) 1)])=_;rw[u,V_];rfl
 rintro ys H1 b' ⟨S1,c1,U,rfl,a8⟩;refine⟨_,Z,_,Z,by omega,by omega,λa2 b0=>?_⟩;rw[Ej];refine WR (n:=N) (fr:=[some (.ref l),some (.ref s)]) (λi ys H'=>Same H1 H'/\H' a2=some (.lst ys)/\∃d:List Addr,ys=d.map V.ref/\Eqs H' d (eqs (ms.map (·.2.2)) mark.2.2 i)) (Ce (by omega)) ⟨Aw b0 _,Aj,[],Z,.nil⟩ ?_ ?_
 ·rintro i ys H2 NN hi hl ⟨j,g,d,rfl,hq⟩ t;have o:(0:Int)+(i:Int)=(i:Int):=Pu _;refine⟨_,Z,_,Z,l,ps,ms,2,_,i,(by rw[o];rfl),j.seq (S1.seq hS),(D.same S1).same j,by omega,.inr ⟨Z,Z⟩,λH3 b=>?_⟩;have A:Ak K H3 s (L3 mark):=Ak.of (b _ _ (j _ _ (S1 _ _ I)));have u:(mark.2.2:Int) / 2^(0+(i:Int)).toNat=((mark.2.2 / 2^i:Nat):Int):=by rw[o,Ej];simp
  refine⟨_,Z,s,_,_,_,Z,Z,A,Z,_,Z,_,_,Z,Z,by omega,_,_,Z,Z,t2,λr a=>?_⟩;have m:=Aw a (.tup [.int (Wm (ms.map (·.2.2)) i (ms.map (·.2.2)).length:Nat),.int (Builtin.bitAnd ((mark.2.2:Int) / 2^(0+(i:Int)).toNat) 1)]);have hn:a2≠r:=Le (b _ _ g) a;refine t _ _ (m _ _ (b _ _ g)) ⟨Ec ((j.trans b).trans m) b0,Aj,d++[r],by rw[CJ];rfl,?_⟩;rw[WM];refine Paired.snoc (((hq.same b).same m).upd (m _ _ (b _ _ g))) ?_;rw[BK (Ne.symm hn),Aj];show some (HO.tup [.int _,.int (Builtin.bitAnd ((mark.2.2:Int) / 2^(0+(i:Int)).toNat) 1)])=_;rw[u,V_];rfl
 rintro ys H2 b9 ⟨S2,g,Y,rfl,S⟩;have b3:=S1.trans S2;have b7:=a8.length;have b4:=S.length;rw[Qd]at b7 b4;refine⟨_,Z,_,Z,a1,a2,_,_,Z,Z,S2 _ _ c1,g,(by rw[Ax,Ax];exact Ce (by omega)),λcl b5=>?_⟩;have A:=Aw b5 (.lst (U.map V.ref++Y.map V.ref));refine⟨cl,U++Y,both ms mark N,Z,?_,?_,xM J,by rw[oH];omega,λrt H4 S4 W=>?_⟩
 ·rw[CJ];exact Ag.of Aj
 ·exact lQ ((a8.same S2).same A) (S.same A)
 have SS:=b3.trans (A.trans S4);rcases W with ⟨x,a,hs⟩ | ⟨c,q,a,hq,clt,hc⟩
 ·have ST:Ak K H4 rt [.int x,.non]:=Ak.of a;refine⟨_,Z,rt,_,_,_,Z,Z,ST,Z,Z,_,Z,T_ (λz=>absurd (QG z) (by intro z;cases z)) (λ_=>?_)⟩;have lm:(ps.map V.ref).length=ms.length:=by rw[Ax,M]
  refine⟨_,Z,l,_,Z,.inl (SS.seq hS),_,Z,by omega,by omega,λa5 C=>?_⟩;rw[Ej,lm];refine jz (n:=ms.length) (fr:=[some (.ref rt)]) (λi ys H'=>Same H4 H'/\H' a5=some (.lst ys)/\ys=(places x i).map λp=>V.int (p:Nat)) (Ce (by omega)) ⟨Aw C _,Aj,Z⟩ ?_ (λD z=>?_) ?_
  ·rintro i ys H5 NN hi hl ⟨s5,c5,rfl⟩ t;have o:(0:Int)+(i:Int)=(i:Int):=Pu _;have u:(x:Int) / 2^(0+(i:Int)).toNat=((x / 2^i:Nat):Int):=by rw[o,Ej];simp
   refine⟨_,Z,rt,_,_,_,Z,Z,Ak.of (s5 _ _ a),Z,_,Z,_,_,Z,Z,by omega,_,_,Z,Z,_,Z,?_⟩;have f:=Uq x i;show NN (Builtin.bitAnd ((x:Int) / 2^(0+(i:Int)).toNat) 1 != 0) H5;rw[u,V_];refine t _ _ (λa9=>?_) (λa7=>?_)
   ·have h1:x / 2^i%2=1:=by
     have:x / 2^i%2≠0:=λz=>by rw[z]at a9;cases a9
     omega
    rw[if_pos h1]at f;refine⟨_,Z,c5,Ec s5 C,Aj,?_⟩;rw[f,CJ,o];rfl
   ·have h0:¬ x / 2^i%2=1:=λz=>by rw[z]at a7;cases a7
    rw[if_neg h0,JM]at f;exact⟨s5,c5,by rw[f]⟩
  ·obtain⟨v,e,qq⟩:=z;exact⟨v,e,D _ _ qq⟩
  rintro ys H5 ⟨S5,c5,rfl⟩;have L:=SS.trans S5;have em:((places x ms.length).map λp=>V.int (p:Nat))=((places x ms.length).map λp=>((p:Nat):Int)).map V.int:=by rw[Gk];rfl
  have y:=c5;rw[em]at y;have OD:(places x ms.length).length<=12:=Eh (Yd _ _) (by rw[Ig];exact J);refine⟨_,Z,a5,Z,⟨_,Ag.of y⟩,λa6 b8=>?_⟩;refine vZ (ns:=(places x ms.length).map λp=>((p:Nat):Int)) (fr:=[some (.ref l)]) (λz=>.ref (ps.getD z.toNat 0)) (Ag.of y) (by rw[Ax];exact Ce (by omega)) b8 (λz H6 NN hz s6 t=>?_) ?_
  ·obtain⟨p,hp,rfl⟩:=DY.mp hz;obtain⟨pa,u,_⟩:=D.at (Mu hp);have eg:ps.getD p 0=pa:=by rw[Bb,u];rfl
   refine⟨_,Z,_,Z,l,_,_,_,Z,Z,s6.seq (L.seq hS),JX (v:=.ref pa) (by rw[Bo,u];rfl),?_⟩;rw[Ej,eg]at t;exact t
  intro H6 S6 c6;have a0:=L.trans S6;refine⟨a6,(places x ms.length).map (λp=>ps.getD p 0),chosen ms x ms.length,Z,?_,(D.same a0).pick _ (λp hp=>Mu hp),λrp H7 S7 sp=>?_⟩
  ·rw[Gk]at c6;rw[Gk];exact Ag.of c6
  have a4:=a0.trans S7;have SM:Ak K H7 s (L3 mark):=Ak.of (a4 _ _ I);have pq:=nW (chosen ms x ms.length) (0,0,0) (by decide);have bs:=vJ b6 a' hs;have qk:=a'.q;refine⟨_,Z,s,_,_,_,Z,Z,SM,Z,_,Z,rp,_,_,_,Z,Z,sp,Z,_,_,Z,Z,_,_,Z,Z,dz,_,Z,t3,λr a3=>?_⟩;have e7:(((mark.1:Int)-((prod (chosen ms x ms.length)).1:Nat))%4)=(((((mark.1:Int)-((prod (chosen ms x ms.length)).1:Nat))%4).toNat:Nat):Int):=by omega
  refine kq r _ (a4.trans (Aw a3 _)) (.inl ⟨(((mark.1:Int)-((prod (chosen ms x ms.length)).1:Nat))%4).toNat,x,a5,SS.free C,?_,Aw a3 _ _ _ (S7 _ _ (S6 _ _ c5)),by omega,?_⟩)
  ·rw[Aj];show some (HO.tup [.str "made",.int (((mark.1:Int)-((prod (chosen ms x ms.length)).1:Nat))%4),.ref a5])=_;rw[<-e7]
  ·rw[lJ (by omega),bs];have c0:(prod (chosen ms x ms.length)).1<4:=pq;refine Prod.ext ?_ rfl;show ((((mark.1:Int)-((prod (chosen ms x ms.length)).1:Nat))%4).toNat+(prod (chosen ms x ms.length)).1)%4=mark.1;omega
 ·have ST:Ak K H4 rt [.non,.ref q]:=Ak.of a;rw[oH]at clt;refine⟨_,Z,rt,_,_,_,Z,Z,ST,Z,Z,_,Z,Cq ?_⟩;refine⟨_,Z,rt,_,_,_,Z,Z,ST,Z,_,Z,q,c,N,Z,Ag.of hq,hN,clt,λra H5 S5 ha=>⟨t2,λr T=>?_⟩⟩;obtain⟨b1,b2⟩:=yW clt hc;refine kq r _ ((SS.trans S5).trans (Aw T _)) (.inr ⟨ra,_,Aj,Aw T _ _ _ ha,⟨Fq _ (by decide),?_,Fq _ (Ei N)⟩,?_,b1,b2⟩)
  ·rw[Rk]at clt;exact Nat.div_lt_of_lt_mul clt
  ·show (pc (c / 2^N&&&c%2^N)%4+pc (c / 2^N&&&c%2^N))%2=0;omega
theorem XD(K:U0):PySem.W.kitOne K (.type "list") (.type "list")=some true:=by unfold PySem.W.kitOne;rw[if_pos (by decide)]
theorem QZ(K:U0):PySem.W.kitOne K (.type "tuple") (.type "tuple")=some true:=by unfold PySem.W.kitOne;rw[if_pos (by decide)]
noncomputable def cell (ns:U6)(i:Int):Int:=if i<ns.length then ns.getD i.toNat 0 else 0
def Ht (K:U0):Sp:=λvs H Q _=>∃(a:Y3) (ns:U6) (i:Int),vs=[.ref a,.int i]/\Ag K H a (ns.map V.int)/\0<=i/\Q (.int (cell ns i)) H
def Qg:Sp:=λvs H Q _=>∃i:Int,vs=[.int i]/\Q (.bl true) H
def fU (K:U0):Sp:=λvs H Q _=>∃(p p':Y3) (m m':Mk),vs=[.ref p,.ref p']/\Ak K H p (L3 m)/\Ak K H p' (L3 m')/\Q (.bl (decide (comm m m'=0))) H
theorem X7c{ns:U6}{i:Int}(h0:0<=i)(h:i<ns.length):Im (ns.map V.int) i=some (.int (ns.getD i.toNat 0)):=by
 have a:i.toNat<ns.length:=by omega
 have b:i=((i.toNat:Nat):Int):=by omega
 have q:Im (ns.map V.int) ((i.toNat:Nat):Int)=some (.int ns[i.toNat]):=JX (by rw[Bo,Bm a]<;>rfl);rw[<-b]at q;rw[q,Bb,Bm a];rfl
theorem X2u(F:Ab K "_law_cell_at" (top 42) .none)(X:K.In h)(G:Ng h mg)(B:Bs mg):Ao P w K mg base (k+1) "_law_cell_at" ["_law_script","_law_k"] (Ht K):=by
 refine F.cal X G ["_law_script","_law_k"] λg H vs Q E f h=>?_;obtain⟨a,ns,i,rfl,b,e,q⟩:=h
 refine⟨_,(@Az _ _ _ _ _ (Bq (Bx LK (pv 1) (Bc G8 rfl B.len Gm (Aa (pv 0) Ad)) (Ac _))
   (@Al _ _ _ (BL (BR J3 (pv 0) (pv 1) (λ_ _=>rfl))))
   Bw)
  (@Al _ _ _ (BL Ae))),?_⟩
 try dsimp only[Cm]
 have d:(ns.map V.int).length=ns.length:=Ax _;refine⟨_,Z,_,Z,a,_,Z,.inl b,_,_,Z,Z,_,Z,CQ (λc=>?_) (λc=>?_)⟩
 ·rw[d]at c;refine⟨_,Z,_,Z,a,_,_,_,Z,Z,b,X7c e c,?_⟩;unfold cell at q;rw[if_pos c]at q;exact q
 ·rw[d]at c;unfold cell at q;rw[if_neg c]at q;exact q
theorem vp(F:Ab K "_law_ones" (top 44) .none)(X:K.In h)(G:Ng h mg):Ao P w K mg base (k+1) "_law_ones" ["_law_number"] Cg:=by
 refine F.cal X G ["_law_number","_law_many"] λb H vs Q E g h=>?_;obtain⟨n,rfl,q⟩:=h
 refine⟨_,(@Az _ _ _ _ _ (@BW _ _ 1 _ _ _ _ b rfl (Or.inl rfl) Ae rfl (.inl rfl))
  (@Az _ _ _ _ _ (WY PassesOwn.never (Bx Mg (pv 0) Ae (Ac _))
   (@Az _ _ _ _ _ (@BW _ _ 1 _ _ _ _ b rfl (Or.inl rfl) (Ah Hx (pv 1) (Ah Ck (pv 0) Ae)) rfl (.inl rfl))
   (@Al _ _ _ (@BW _ _ 0 _ _ _ _ b rfl (Or.inl rfl) (Ah Gx (pv 0) Ae) rfl (.inl rfl)))))
  (@Al _ _ _ (BL (pv 1))))),?_⟩
 try dsimp only[Cm]
 refine⟨λm σ H'=>H'=H/\∃j:Nat,j+pc m=pc n/\σ=[some (.int m),some (.int j)],⟨n,Z,0,Np _,Z⟩,?_⟩;rintro m σ H' ⟨rfl,j,c,rfl⟩;refine⟨_,Z,_,_,Z,Z,_,Z,CQ (λa=>?_) (λa=>?_)⟩
 ·have f:0<m:=by omega
  have e:=Mr m;refine⟨_,λi H' x=>x,?_⟩;refine⟨_,Z,_,Z,_,_,Z,Z,WK,_,_,Z,Z,?_⟩;refine⟨_,Z,_,_,Z,Z,⟨by decide,by decide⟩,⟨m / 2,by omega,Z,j+m%2,by omega,Z⟩⟩
 ·have d:m=0:=by omega
  subst d;rw[Gy,Kv]at c;subst c;exact⟨_,Z,q⟩
end
end Av
namespace Fy
open Pc Dv Ez
noncomputable def xs (fs:W7)(c:Nat->Bool):Nat->Nat
 | 0=>0
 | m+1=>if c m then xs fs c m^^^fs.getD m 0 else xs fs c m
theorem M6(fs:W7)(x:Nat):∀m,Xm fs x m=xs fs (λj=>decide (bit x j=1)) m
 | 0=>rfl
 | m+1=>by
  unfold Xm xs;rw[M6 fs x m];by_cases h:bit x m=1<;>simp[h]
theorem Uk{fs gs:W7}{c d:Nat->Bool}:∀m,(∀j,j<m->c j=d j/\fs.getD j 0=gs.getD j 0)->xs fs c m=xs gs d m
 | 0,_=>rfl
 | m+1,h=>by
  unfold xs;rw[Uk m λj a=>h j (by omega),(h m (by omega)).1,(h m (by omega)).2]
noncomputable def GD (ms:List Mk):List Nat:=ms.map (·.2.1)
noncomputable def Fz (ms:List Mk):List Nat:=ms.map (·.2.2)
def Indep (ms:List Mk):Prop:=∀c:Nat->Bool,xs (GD ms) c ms.length=0->xs (Fz ms) c ms.length=0->∀j,j<ms.length->c j=false
variable{ms:List Mk}{x y:Nat}
theorem xY(I:Indep ms)(hx:x<2^ms.length)(hy:y<2^ms.length)(hf:Xm (GD ms) x ms.length=Xm (GD ms) y ms.length)(hs:Xm (Fz ms) x ms.length=Xm (Fz ms) y ms.length):x=y:=by
 have a:∀(fs:W7) m,Xm fs (x^^^y) m=Xm fs x m^^^Xm fs y m:=by
  intro fs m;induction m with
  | zero=>show 0=0^^^0;simp
  | succ m ih =>
   have b:=Ez.Ka m x y;have f:=FN x m;have e:=FN y m;unfold Xm;rw[ih,b];rcases (by omega:bit x m=0\/bit x m=1) with z | z<;>rcases (by omega:bit y m=0\/bit y m=1) with u | u<;>rw[z,u]
   ·simp
   ·simp[HJ]
   ·simp only[show (1+0)%2=1 from rfl,Gj,show ¬ (0=1) by decide,FW];rw[HJ,HJ,Rr (Xm fs y m)]
   ·simp only[show ¬ ((1+1)%2=1) by decide,Gj,FW];rw[HJ,Rr (Xm fs y m) (fs.getD m 0),<-HJ (fs.getD m 0),Lx,bB]
 have c:Xm (GD ms) (x^^^y) ms.length=0:=by rw[a,hf,Lx]
 have zs:Xm (Fz ms) (x^^^y) ms.length=0:=by rw[a,hs,Lx]
 rw[M6]at c zs;refine Wf ms.length x y hx hy λn d=>?_;have g:=of_decide_eq_false (I _ c zs n d);have b:=Ez.Ka n x y;have h:=FN x n;have e:=FN y n;omega
theorem zq(m:Nat)(h:∀n,n<m->bit x n=bit y n):places x m=places y m:=by
 unfold places;refine List.filter_congr λp hp=>?_;have:=h p (Fb.mp hp);unfold bit at this;simp only[this]
theorem zR(ms:List Mk)(m:Nat)(h:∀n,n<m->bit x n=bit y n):chosen ms x m=chosen ms y m:=by
 unfold chosen;rw[zq m h]
theorem mO(x m:Nat){n:Nat}(h:n<m):bit (x%2^m) n=bit x n:=by
 have t:=Yn x m n;rw[TF,TF,DK h,Ru,Vh]at t;have a:=FN (x%2^m) n;have b:=FN x n;unfold bit at *;omega
theorem lB(ms:List Mk)(x m:Nat):chosen ms (x%2^m) m=chosen ms x m:=zR ms m λn a=>mO x m a
theorem Uo(ms:List Mk){x i:Nat}(h:x<2^i):∀d,chosen ms x (i+d)=chosen ms x i
 | 0=>rfl
 | d+1=>by
  rw[<-bK,PL,if_neg (by rw[V8 h (by omega)];decide),JM];exact Uo ms h d
noncomputable def E (ms:List Mk)(x:Nat):Mk:=prod (chosen ms x ms.length)
theorem X7f(ms:List Mk):E ms 0=(0,0,0):=by
 unfold E;have:=Uo ms (x:=0) (i:=0) (by decide) ms.length;rw[Np]at this;rw[this];rfl
theorem X7g(ms:List Mk){i:Nat}(hx:x<2^i)(hi:i<ms.length):E ms (x+2^i)=mul (E ms x) (ms.getD i (0,0,0)):=by
 obtain⟨d,a⟩:∃d,ms.length=i+1+d:=⟨ms.length-(i+1),by omega⟩;have lt:x+2^i<2^(i+1):=by rw[Rq];omega
 have e:bit (x+2^i) i=1:=by
  unfold bit;rw[Nat.add_div_right _ (Ei i),QC hx]
 have lo:chosen ms (x+2^i) i=chosen ms x i:=by
  rw[<-lB,Nat.add_mod_right,KH hx]
 have c:chosen ms (x+2^i) ms.length=chosen ms x i++[ms.getD i (0,0,0)]:=by
  rw[a,Uo ms lt d,PL,if_pos e,lo]
 have b:chosen ms x ms.length=chosen ms x i:=by
  rw[a,bK];exact Uo ms hx _
 unfold E;rw[c,b];unfold prod;rw[R_];rfl
theorem z_(ms:List Mk){i:Nat}(hi:i<ms.length)(q:(ms.getD i (0,0,0)).1<4):E ms (2^i)=ms.getD i (0,0,0):=by
 have:=X7g ms (x:=0) (Ei i) hi;rw[Np,X7f]at this;rw[this];revert q;generalize ms.getD i (0,0,0)=z;obtain⟨a,b,c⟩:=z;intro q;unfold mul;simp[Gy,KH q]
theorem zy(I:Indep ms)(hx:x<2^ms.length)(hy:y<2^ms.length)(h:(E ms x).2=(E ms y).2):x=y:=by
 refine xY I hx hy ?_ ?_
 ·have:=congrArg Prod.fst h;unfold E at this;rw[UL,UL]at this;exact this
 ·have:=congrArg Prod.snd h;unfold E at this;rw[UW,UW]at this;exact this
theorem fget(ms:List Mk)(j:Nat):(GD ms).getD j 0=(ms.getD j (0,0,0)).2.1:=by
 unfold GD;rw[Bb,Bb,Bo];cases ms[j]?<;>rfl
theorem NZ(ms:List Mk)(j:Nat):(Fz ms).getD j 0=(ms.getD j (0,0,0)).2.2:=by
 unfold Fz;rw[Bb,Bb,Bo];cases ms[j]?<;>rfl
end Fy
namespace Fp
open Pc Dv Ez Fy
noncomputable def cm (a b:Mk):Nat:=(pc (a.2.1&&&b.2.2)+pc (a.2.2&&&b.2.1))%2
def ev (a:Mk):Prop:=(a.1+pc (a.2.1&&&a.2.2))%2=0
theorem rC(o a b:Mk):cm o (mul a b)=(cm o a+cm o b)%2:=by
 unfold cm mul;show (pc (o.2.1&&&(a.2.2^^^b.2.2))+pc (o.2.2&&&(a.2.1^^^b.2.1)))%2=_;rw[Vy,Vy];have h1:=OJ (o.2.1&&&a.2.2) (o.2.1&&&b.2.2);have h2:=OJ (o.2.2&&&a.2.1) (o.2.2&&&b.2.1);omega
theorem X3q(a b:Mk):cm a b=cm b a:=by
 unfold cm;rw[VR a.2.1,VR a.2.2,Ro]
structure VB (ms:List Mk):Prop where
 q:∀m∈ms,m.1<4
 even:∀m∈ms,ev m
 com:∀m∈ms,∀r∈ms,cm m r=0
structure V6 (m:Mk):Prop where
 f:m.2.1<2^6
 s:m.2.2<2^6
structure Tb (ms:List Mk):Prop where
 nice:VB ms
 v6:∀m∈ms,V6 m
 ind:Indep ms
theorem q_{α:Type}{D:List α}{f z:α}{j:Nat}(h:j<D.length):(D++[f]).getD j z=D.getD j z:=by
 rw[Bb,Bb,N5 h]
theorem q9{α:Type}{D:List α}{f z:α}{j:Nat}(h:j=D.length):(D++[f]).getD j z=f:=by
 subst h;rw[Bb,QS (Bf _),ao];rfl
theorem sO{fs gs:W7}{c:Nat->Bool}:∀m,(∀j,j<m->fs.getD j 0=gs.getD j 0)->xs fs c m=xs gs c m:=λm h=>Uk m λj a=>⟨Z,h j a⟩
noncomputable def num (c:Nat->Bool):Nat->Nat
 | 0=>0
 | m+1=>num c m+(if c m then 2^m else 0)
theorem gK(c:Nat->Bool):∀m,num c m<2^m
 | 0=>Nat.one_pos
 | m+1=>by
  have:=gK c m;unfold num;rw[Rq];split<;>omega
theorem nF(c:Nat->Bool):∀m j,j<m->decide (bit (num c m) j=1)=c j
 | m+1,j,hj=>by
  have lt:=gK c m;unfold num;by_cases e:j=m
  ·subst e;cases hc:c j
   ·simp[V8 lt (Bf _)]
   ·simp only[Gj];have:bit (num c j+2^j) j=1:=by
     unfold bit;rw[Nat.add_div_right _ (Ei j),QC lt]
    rw[this];rfl
  ·have a:=nF c m j (by omega);split
   ·have:bit (num c m+2^m) j=bit (num c m) j:=by
     rw[<-mO (num c m+2^m) m (by omega),Nat.add_mod_right,KH lt]
    rw[this];exact a
   ·rw[Kv];exact a
theorem vG(ms:List Mk)(c:Nat->Bool):(E ms (num c ms.length)).2=(xs (GD ms) c ms.length,xs (Fz ms) c ms.length):=by
 have e:∀fs:List Nat,Xm fs (num c ms.length) ms.length=xs fs c ms.length:=λfs=>by
  rw[M6];exact Uk _ λj a=>⟨nF c _ j a,Z⟩
 unfold E;refine Prod.ext ?_ ?_
 ·show (prod (chosen ms (num c ms.length) ms.length)).2.1=_;rw[UL];exact e _
 ·show (prod (chosen ms (num c ms.length) ms.length)).2.2=_;rw[UW];exact e _
theorem fY{ms:List Mk}{m:Mk}(I:Indep ms)(h:∀x,x<2^ms.length->(E ms x).2≠m.2):Indep (ms++[m]):=by
 intro c f d j s;have o:(ms++[m]).length=ms.length+1:=by rw[DQ];rfl
 have p:∀k,k<ms.length->(GD (ms++[m])).getD k 0=(GD ms).getD k 0:=λk i=>by rw[fget,fget,q_ i]
 have es:∀k,k<ms.length->(Fz (ms++[m])).getD k 0=(Fz ms).getD k 0:=λk i=>by rw[NZ,NZ,q_ i]
 have q:(GD (ms++[m])).getD ms.length 0=m.2.1:=by rw[fget,q9 rfl]
 have g:(Fz (ms++[m])).getD ms.length 0=m.2.2:=by rw[NZ,q9 rfl]
 have r:=sO (fs:=GD (ms++[m])) (gs:=GD ms) (c:=c) ms.length p;have l:=sO (fs:=Fz (ms++[m])) (gs:=Fz ms) (c:=c) ms.length es;rw[o]at f d s;unfold xs at f d;rw[q,r]at f;rw[g,l]at d;have n:∀{a b:Nat},a^^^b=0->a=b:=λ{a b} z=>by
  have:=congrArg (·^^^b) z;simpa [HJ] using this
 cases hc:c ms.length with
 | true =>
  rw[hc,if_pos rfl]at f d;refine absurd ?_ (h (num c ms.length) (gK c _));rw[vG,n f,n d]
 | false =>
  rw[hc,if_neg (by decide)]at f d;by_cases e:j=ms.length
  ·rw[e];exact hc
  ·exact I c f d j (by omega)
end Fp
namespace Av
open L2 Pc Dv Ez Fy
open Fp (V6 ev)
section
variable {P:U8}{w:W1}{K:U0}{mg:U4}{base:Heap}{k:Nat}{h:Heap}
theorem FT:Ay ["thing"] ["thing"] (Br (top 14)):=fS
theorem yu(F:Ab K "is_whole" (top 14) .none)(X:K.In h)(G:Ng h mg)(B:Bs mg):Ao P w K mg base (k+1) "is_whole" ["thing"] Qg:=by
 refine F.cal X G _ (S:=FT) λb H vs Q E a h=>?_;obtain⟨i,rfl,q⟩:=h;refine⟨_,(@Al _ _ _ (BL (Oz (Bc Ja rfl B.isinstance Ea (Aa (pv 0) (Aa (HX (v:=.ty "int") rfl B.int QW rfl) Ad))) (Mp (O1 (Bc Ja rfl B.isinstance Ea (Aa (pv 0) (Aa (HX (v:=.ty "bool") rfl B.bool boot_bool rfl) Ad)))))))),?_⟩;try dsimp only[Cm]
 refine⟨_,Z,_,_,_,true,Z,Bg.int i,gJ K,_,Z,Cq ?_⟩;exact⟨_,Z,_,_,_,false,Z,Bg.int i,gH K,_,Z,q⟩
theorem za(F:Ab K "commute" (top 21) .none)(X:K.In h)(G:Ng h mg)(cK:Ao P w K mg base k "ones" ["number"] Cg):Ao P w K mg base (k+1) "commute" ["one","other"] (fU K):=by
 refine F.cal X G ["one","other"] λf H vs Q E b h=>?_;obtain⟨p,a,m,m',rfl,d,c,q⟩:=h;refine⟨_,(@Al _ _ _ (BL (Hy Gu (Ah Ck (Ah Hx (BJ cK b rfl (Aa (Ah Hj (BR Bk (pv 0) Ae (λ_ _=>rfl)) (BR Bk (pv 1) Ae (λ_ _=>rfl))) Ad)) (BJ cK b rfl (Aa (Ah Hj (BR Bk (pv 0) Ae (λ_ _=>rfl)) (BR Bk (pv 1) Ae (λ_ _=>rfl))) Ad))) Ae) Ae (Ac _)))),?_⟩;try dsimp only[Cm]
 refine⟨_,Z,p,_,_,_,Z,Z,d,Z,_,Z,a,_,_,_,Z,Z,c,Z,_,_,Z,Z,m.2.1&&&m'.2.2,KY _ _,_,Z,p,_,_,_,Z,Z,d,Z,_,Z,a,_,_,_,Z,Z,c,Z,_,_,Z,Z,m.2.2&&&m'.2.1,KY _ _,_,_,Z,Z,_,_,Z,Z,WK,Z,?_⟩;have e:decide (V.int ((((pc (m.2.1&&&m'.2.2):Nat):Int)+((pc (m.2.2&&&m'.2.1):Nat):Int))%2)=V.int 0)=decide (comm m m'=0):=by
  rw[Vh];unfold comm;constructor
  ·intro z;have:=V.int.inj z;omega
  ·intro z;congr 1;omega
 show Q (.bl (decide (V.int ((((pc (m.2.1&&&m'.2.2):Nat):Int)+((pc (m.2.2&&&m'.2.1):Nat):Int))%2)=V.int 0))) H;rw[e];exact q
theorem fB{X:Cx}{scope:Scope}{Nc:W0}{ex:U3}{pins:U1}{s:U7}{H:Hp}:iV (BZ X scope Nc ex pins s H) (Rg X.K):=Ud
variable{i:Nat}
theorem X6w{xs:List V}(h:i<=xs.length):Fi xs none (some (i:Int))=xs.take i:=by
 unfold Fi;have b:HT.GC xs.length 0 none=0:=rfl;have a:HT.GC xs.length xs.length (some (i:Int))=i:=by rw[HT.X1w];exact R4 h
 rw[b,a];rfl
theorem CW.take{H:Hp}:∀{ps:U3}{ms:List Mk} (i:Nat),CW H ps ms->CW H (ps.take i) (ms.take i)
 | [],[],_,.nil=>by rw[Vb,Vb];exact .nil
 | _::_,_::_,0,_=>.nil
 | _::_,_::_,i+1,.cons a r=>.cons a (CW.take i r)
variable{ms:List Mk}{x:Nat}
theorem zu(hi:i<=ms.length):chosen (ms.take i) x i=chosen ms x i:=by
 unfold chosen;refine List.map_congr_left λp hp=>?_;have:=Mu hp;rw[Bb,Bb,SQ,if_pos this]
theorem vg(I:Indep ms){kk:Nat}(hi:i<ms.length)(q:(ms.getD i (0,0,0)).1<4)(k4:kk<4)(h:(chosen (ms.take i) x (ms.take i).length).foldl mul (kk,0,0)=ms.getD i (0,0,0)):False:=by
 have lt:(ms.take i).length=i:=by rw[Ft];omega
 rw[lt,zu (by omega),lJ k4]at h;have a:=Fq x (Ei i);have e:E ms (x%2^i)=prod (chosen ms x i):=by
  unfold E;obtain⟨d,b⟩:∃d,ms.length=i+d:=⟨ms.length-i,by omega⟩;rw[b,Uo ms a d,lB]
 have c:=z_ ms hi q;have p2:2^i<2^ms.length:=Jt (by decide) hi;have:=zy I (Jr a p2) p2 (by rw[e,c,<-h]);omega
structure G9 (N:Nat) (H:Hp) (l:Y3) (ps:U3) (ms:List Mk):Prop where
 lst:H l=some (.lst (ps.map V.ref))
 mks:CW H ps ms
 ok:∀m∈ms,Gz N m
 tb:Fp.Tb ms
 len:ms.length<=6
theorem G9.same{N:Nat}{H H':Hp}{l:Y3}{ps:U3}(t:G9 N H l ps ms)(s:Same H H'):G9 N H' l ps ms:=⟨s _ _ t.lst,t.mks.same s,t.ok,t.tb,t.len⟩
def kZ:Sp:=λvs H Q _=>∃(l:Y3) (ps:U3) (ms:List Mk) (N:Nat),vs=[.ref l,.int N]/\G9 N H l ps ms/\1<=N/\N<=6/\∀H',Same H H'->Q (.bl true) H'
theorem am:¬ (V.str "apart"=V.str "made"):=λe=>absurd (V.str.inj e) (by decide +kernel)
end
end Av
namespace L2
section
variable {X:Cx}{e st:Expr}{lo hi:Option Expr}{te:TE}{tl th ts:TO}{p2 pos:Pos}
end
end L2
namespace HT
section
variable {prog:U8}{w:W1}{A:Y0}{E:U2}{s:U7}
end
end HT
namespace L2
section
variable {X:Cx}
end
end L2
namespace Av
open L2 Pc Dv Ez Fy
open Fp (V6 ev)
variable{H:Hp}{l:Y3}{ps:U3}{ms:List Mk}
theorem CW.upd{xs ys:List V}(h:CW H ps ms)(hl:H l=some (.lst xs)):CW (upd H l (.lst ys)) ps ms :=
 Paired.imp' (λ_ _ c=>by rw[BK (LC c hl (by intro z;cases z))];exact c) h
theorem X2m{N:Nat}{a b:Mk}(ha:Gz N a)(hb:Gz N b):Gz N (mul a b):=⟨Fq _ (by decide),Ih ha.f hb.f,Ih ha.s hb.s⟩
noncomputable def isI:V->Bool
 | .int _=>true
 | _=>false
structure Part (K:U0) (H:Hp) (v:V):Prop where
 ex:∃t b1 b2,Bg K H v t/\PySem.W.kitOne K t (.type "int")=some b1/\PySem.W.kitOne K t (.type "bool")=some b2/\(b1 && !b2)=isI v
section
variable {K:U0}{H:Hp}
theorem Part.int(i:Int):Part K H (.int i):=⟨_,true,false,.int i,gJ K,gH K,Z⟩
end
noncomputable def MN:V->Bool
 | .int i=>decide (0<=i/\i<=3)
 | _=>false
noncomputable def JT (n:Nat):V->Bool
 | .int i=>decide (0<=i/\i<((2^n:Nat):Int))
 | _=>false
variable{K:U0}{H':Hp}{v:V}
theorem Bg.same{t:W3}(ty:Bg K H v t)(s:Same H H'):Bg K H' v t:=by
 cases ty with
 | non=>exact .non
 | bl b=>exact .bl b
 | int i=>exact .int i
 | str x=>exact .str x
 | flt x=>exact .flt x
 | lst e=>exact .lst (s _ _ e)
 | frz e=>exact .frz (s _ _ e)
 | tup e=>exact .tup (s _ _ e)
 | dK e=>exact .dK (s _ _ e)
 | dT e=>exact .dT (s _ _ e)
 | ins e cl ha hn htk hm=>exact .ins (s _ _ e) cl ha hn htk hm
theorem Part.same(p:Part K H v)(s:Same H H'):Part K H' v:=by
 obtain⟨t,d,e,ty,c,b,a⟩:=p;exact⟨t,d,e,Bg.same ty s,c,b,a⟩
inductive Tells (K:U0) (H:Hp) (n:Nat):V->Bool->Prop where
 | odd {v:V}{t:W3} (ty:Bg K H v t) (e:PySem.W.kitOne K t (.type "tuple")=some false):Tells K H n v false
 | many {p:Y3}{xs:List V} (e:H p=some (.tup xs)) (l:xs.length≠3):Tells K H n (.ref p) false
 | three {p:Y3}{x y z:V} (e:H p=some (.tup [x,y,z])) (hx:Part K H x) (hy:Part K H y) (hz:Part K H z):Tells K H n (.ref p) (MN x && (JT n y && JT n z))
variable{n:Nat}{b:Bool}
theorem Tells.same(t:Tells K H n v b)(s:Same H H'):Tells K H' n v b:=by
 cases t with
 | odd ty e=>exact .odd (Bg.same ty s) e
 | many e l=>exact .many (s _ _ e) l
 | three e hx hy hz=>exact .three (s _ _ e) (hx.same s) (hy.same s) (hz.same s)
theorem Tells.mark{K:U0}{H:Hp}{n:Nat}{p:Y3}{m:Mk}(e:H p=some (T3 m))(ok:Gz n m):Tells K H n (.ref p) true:=by
 have t:=Tells.three (K:=K) (n:=n) e (Part.int _) (Part.int _) (Part.int _);have q:=ok.q;have f:=ok.f;have s:=ok.s;have c:MN (.int (m.1:Nat))=true:=DK ⟨by omega,by omega⟩;have b:JT n (.int (m.2.1:Nat))=true:=DK ⟨by omega,by omega⟩;have a:JT n (.int (m.2.2:Nat))=true:=DK ⟨by omega,by omega⟩;rw[c,b,a]at t;exact t
noncomputable def K_ (m:Mk):Bool:=decide ((m.1+pc (m.2.1&&&m.2.2))%2=0)
variable{m:Mk}
theorem Ik:K_ m=true↔ev m:=by
 unfold K_ ev;exact decide_eq_true_iff
inductive Dr (K:U0) (H:Hp) (n:Nat):V->Bool->Prop where
 | no {v:V} (t:Tells K H n v false):Dr K H n v false
 | mark {p:Y3}{m:Mk} (e:H p=some (T3 m)) (ok:Gz n m):Dr K H n (.ref p) (K_ m)
theorem Dr.same(t:Dr K H n v b)(s:Same H H'):Dr K H' n v b:=by
 cases t with
 | no t=>exact .no (t.same s)
 | mark e ok=>exact .mark (s _ _ e) ok
def Apart (ms:List Mk)(m:Mk):Prop:=∃o:Mk,comm o m=1/\∀r∈ms,comm o r=0
def Md (ms:List Mk)(m:Mk):Prop:=∃kk x:Nat,kk<4/\(chosen ms x ms.length).foldl mul (kk,0,0)=m
def Tab (ms:List Mk)(b:Bool):Prop:=(b=true->(∀m∈ms,ev m)/\(∀m∈ms,∀r∈ms,comm m r=0)/\∀i m,ms[i]?=some m->Apart (ms.take i) m)/\(b=false->(∃m∈ms,¬ ev m)\/(∃m∈ms,∃r∈ms,comm m r≠0)\/∃i m,ms[i]?=some m/\Md (ms.take i) m)
def f9 (K:U0):Sp:=λvs H Q _=>∃v,vs=[v]/\Part K H v/\Q (.bl (isI v)) H
def n8 (K:U0):Sp:=λvs H Q _=>∃(v:V) (n:Nat),vs=[v,.int n]/\Part K H v/\Q (.bl (JT n v)) H
def nu (K:U0):Sp:=λvs H Q _=>∃(v:V) (n:Nat) (b:Bool),vs=[v,.int n]/\Tells K H n v b/\Q (.bl b) H
def nq (K:U0):Sp:=λvs H Q _=>∃(p:Y3) (m:Mk),vs=[.ref p]/\Ak K H p (L3 m)/\Q (.bl (K_ m)) H
def Jh (K:U0):Sp:=λvs H Q _=>∃(v:V) (n:Nat) (b:Bool),vs=[v,.int n]/\Dr K H n v b/\Q (.bl b) H
def kY (K:U0):Sp:=λvs H Q _=>∃(pm l:Y3) (ps:U3) (ms:List Mk) (m:Mk),vs=[.ref pm,.ref l]/\H pm=some (T3 m)/\Ag K H l (ps.map V.ref)/\CW H ps ms/\ms.length<=12/\∀H',Same H H'->Q (.bl (ms.all λr=>decide (comm m r=0))) H'
theorem X3t{i:Int}(h:0<=i):((Builtin.Int.intBits i:Nat):Int)<=n↔i<((2^n:Nat):Int):=by
 unfold Builtin.Int.intBits;by_cases h0:i=0
 ·subst h0;have:=Ei n;rw[show ((0:Int) == 0)=true from rfl,if_pos rfl];constructor<;>intro<;>omega
 ·have b:(i == 0)=false:=by simpa using h0
  rw[b];have a:i.natAbs≠0:=by omega
  have:=Pq (k:=n) a;simp only[JN,FW];constructor
  ·intro z;have:i.natAbs.log2<n:=by omega
   rw[Pq a]at this;omega
  ·intro z;have:i.natAbs<2^n:=by omega
   rw[<-Pq a]at this;omega
theorem vY{g:TG}{xs:List V}{te:TE}{fr:L2.St}{H1:Hp}{acc:Y3}{Q:VK}(Pv:Nat->List V->Prop)(hn:xs.length<=sizeLine)(hacc:H1 acc=none)(hl:Ag K H1 l xs)(h0:Pv 0 [])
  (hg:∀{a:Y3}{x y:V}{w1 w2:Option V}{H:Hp}{Q:L2.St->Hp->Prop},H a=some (.tup [x,y])->Q (some x::some y::fr) H->g (.ref a) (w1::w2::fr) H Q)
  (hs:∀i x zs H (N:V->Hp->Prop),xs[i]?=some x->Same H1 H->Pv i zs->(∀v H',Same H H'->Pv (i+1) (zs++[v])->N v H')->te (some (.int i)::some x::fr) H N)
  (hd:∀zs H2,Same H1 H2->Pv xs.length zs->H2 acc=some (.lst zs)->Q (.ref acc) H2):Kl (Ite K l) g te (none::none::fr) H1 acc Q:=by
 refine⟨λi m zs h H2=>m=xs.length-i/\i<=xs.length/\(∃v w,h=v::w::fr)/\Same H1 H2/\H2 acc=some (.lst zs)/\zs.length=i/\Pv i zs,⟨xs.length,by simp,FZ _,⟨_,_,Z⟩,Aw hacc _,Aj,Z,h0⟩,?_⟩;rintro i m zs h H2 ⟨rfl,hi,⟨v,w,rfl⟩,b,f,j,pv⟩;by_cases hlt:i<xs.length
 ·have p:xs[i]?=some xs[i]:=by simp[hlt]
  refine .inr ⟨⟨xs,_,b.seq hl,p⟩,λu q n=>?_⟩;obtain⟨T,x,rfl,k,rfl,h1⟩:=n;have o:=h1 xs (b.seq hl);have d:=Aw k (.tup [.int i,x]);exact hg (x:=.int i) (y:=x) Aj (hs i x zs _ _ o (b.trans d) pv λv H' s' c=>⟨s' _ _ (d _ _ f),by omega,xs.length-(i+1),by omega,Z,hlt,⟨_,_,Z⟩,Ec ((b.trans d).trans s') hacc,Aj,by simp[j],c⟩)
 ·have e:i=xs.length:=by omega
  subst e;exact .inl ⟨⟨xs,b.seq hl,Bf _⟩,hd zs H2 b pv f⟩
theorem dj(o a b:Mk):comm o (mul a b)=(comm o a+comm o b)%2:=Fp.rC o a b
theorem fL{o:Mk}:∀(ms:List Mk) (a:Mk),comm o a=0->(∀m∈ms,comm o m=0)->comm o (ms.foldl mul a)=0
 | [],_,h,_=>h
 | m::ms,a,h,hm=>fL ms (mul a m) (by rw[dj,h,hm m Iu]) λn b=>hm n (Iv _ b)
section
variable {P:U8}{w:W1}{K:U0}{mg:U4}{base:Heap}{k:Nat}{h:Heap}
theorem zp(F:Ab K "is_whole" (top 14) .none)(X:K.In h)(G:Ng h mg)(B:Bs mg):Ao P w K mg base (k+1) "is_whole" ["thing"] (f9 K):=by
 refine F.cal X G _ (S:=FT) λg H vs Q E f h=>?_;obtain⟨v,rfl,⟨t,e,d,ty,c,b,a⟩,q⟩:=h;refine⟨_,(@Al _ _ _ (BL (Oz (Bc Ja rfl B.isinstance Ea (Aa (pv 0) (Aa (HX (v:=.ty "int") rfl B.int QW rfl) Ad))) (Mp (O1 (Bc Ja rfl B.isinstance Ea (Aa (pv 0) (Aa (HX (v:=.ty "bool") rfl B.bool boot_bool rfl) Ad)))))))),?_⟩;try dsimp only[Cm]
 refine⟨_,Z,_,_,_,e,Z,ty,c,_,Z,T_ (λz=>?_) (λz=>?_)⟩
 ·subst z;refine⟨_,Z,_,_,_,d,Z,ty,b,_,Z,?_⟩;rw[Ru]at a;rw[a];exact q
 ·subst z;rw[Kw]at a;rw[a];exact q
theorem wB(F:Ab K "is_word" (top 17) .none)(X:K.In h)(G:Ng h mg)(cD:Ao P w K mg base k "is_whole" ["thing"] (f9 K)):Ao P w K mg base (k+1) "is_word" ["thing","cells"] (n8 K):=by
 refine F.cal X G ["thing","cells"] λc H vs Q E b h=>?_;obtain⟨v,n,rfl,pt,q⟩:=h
 refine⟨_,(@Az _ _ _ _ _ (Bq (Dl (PW.pt (O4 (CV (BJ cD b rfl (Aa (pv 0) Ad))) (PB (CV (BJ cD b rfl (Aa (pv 1) Ad)))))))
   (@Al _ _ _ (BL EY))
   Bw)
  (@Al _ _ _ (BL (Oz (Hy qL (pv 0) Ae (Ac _)) (Mp (Hy X7n (Qc Sw QT S_ Um (pv 0)) (pv 1) (Ac _))))))),?_⟩
 try dsimp only[Cm]
 refine⟨_,Z,v,Z,pt,_,Z,T_ (λz=>?_) (λz=>?_)⟩
 ·refine⟨_,Z,_,Z,Part.int n,_,Z,Ar ?_⟩;cases v with
  | int i =>
   refine⟨_,Z,_,_,Z,Z,_,Z,CQ (λa=>?_) (λa=>?_)⟩
   ·refine⟨_,Z,Z,_,Z,Z,_,Z,_,_,Z,Z,?_⟩;have e:decide (((Builtin.Int.intBits i:Nat):Int)<=n)=JT n (.int i):=by
     show _=decide _;rw[Vh,X3t a];exact⟨λz=>⟨a,z⟩,λz=>z.2⟩
    show Q (.bl (decide (((Builtin.Int.intBits i:Nat):Int)<=n))) H;rw[e];exact q
   ·have e:JT n (.int i)=false:=Df λz=>a z.1;rw[e]at q;exact q
  | _=>cases z
 ·have e:JT n v=false:=by cases v<;>first | rfl | cases z
  rw[e]at q;exact Cq q
theorem zJ(F:Ab K "is_mark" (top 18) .none)(X:K.In h)(G:Ng h mg)(B:Bs mg)(cD:Ao P w K mg base k "is_whole" ["thing"] (f9 K))(dB:Ao P w K mg base k "is_word" ["thing","cells"] (n8 K)):Ao P w K mg base (k+1) "is_mark" ["thing","cells"] (nu K):=by
 refine F.cal X G ["thing","cells"] λg H vs Q E a h=>?_;obtain⟨v,n,b,rfl,tl,q⟩:=h
 refine⟨_,(@Az _ _ _ _ _ (Bq (PW.pt (Dq (Dl (CV (Bc Ja rfl B.isinstance Ea (Aa (pv 0) (Aa (HX (v:=.ty "tuple") rfl B.tuple Ni rfl) Ad))))) (Gw (Bx KZ (Bc G8 rfl B.len Gm (Aa (pv 0) Ad)) Ae (Ac _)))))
   (@Al _ _ _ (BL EY))
   Bw)
  (@Az _ _ _ _ _ (Bq (PW.pt (Dq (Dl (CV (BJ cD a rfl (Aa (BR Bk (pv 0) Ae (λ_ _=>rfl)) Ad)))) (Dq (Bx LK (BR Bk (pv 0) Ae (λ_ _=>rfl)) Ae (Ac _)) (Gw (Bx Mg (BR Bk (pv 0) Ae (λ_ _=>rfl)) Ae (Ac _))))))
   (@Al _ _ _ (BL EY))
   Bw)
  (@Al _ _ _ (BL (Oz (BJ dB a rfl (Aa (BR Bk (pv 0) Ae (λ_ _=>rfl)) (Aa (pv 1) Ad))) (Mp (BJ dB a rfl (Aa (BR Bk (pv 0) Ae (λ_ _=>rfl)) (Aa (pv 1) Ad))))))))),?_⟩
 try dsimp only[Cm]
 cases tl with
 | odd ty e=>exact⟨_,rfl,_,_,_,false,rfl,ty,e,_,rfl,Cq q⟩
 | @many p xs e l=>exact⟨_,rfl,_,_,_,true,rfl,Bg.tup e,QZ K,_,rfl,Ar ⟨_,rfl,p,_,rfl,.inr (Ak.of e),rfl,_,rfl,K7 (λ_=>q) (λz=>absurd z (by omega))⟩⟩
 | @three p x y z e hx hy hz =>
  have S:Ak K H p [x,y,z]:=Ak.of e;refine⟨_,Z,_,_,_,true,Z,Bg.tup e,QZ K,_,Z,Ar ⟨_,Z,p,_,Z,.inr S,Z,_,Z,K7 (λz=>absurd rfl z) (λ_=>?_)⟩⟩;refine⟨_,Z,p,_,_,_,Z,Z,S,Z,x,Z,hx,_,Z,Gr (λc=>?_) (λc=>?_)⟩
  ·have e:MN x=false:=by cases x<;>first | rfl | cases c
   rw[e,Kw]at q;exact q
  cases x with
  | int i =>
   refine⟨_,Z,p,_,_,_,Z,Z,S,Z,_,_,Z,Z,_,Z,CQ (λd=>?_) (λd=>?_)⟩
   ·have e:MN (.int i)=false:=Df λz=>by omega
    rw[e,Kw]at q;exact q
   refine⟨_,Z,p,_,_,_,Z,Z,S,Z,_,_,Z,Z,_,Z,CQ (λf=>?_) (λf=>?_)⟩
   ·have e:MN (.int i)=false:=Df λz=>by omega
    rw[e,Kw]at q;exact q
   have e:MN (.int i)=true:=DK ⟨by omega,by omega⟩;rw[e,Ru]at q;refine⟨_,Z,p,_,_,_,Z,Z,S,Z,_,Z,y,n,Z,hy,_,Z,T_ (λc=>?_) (λc=>?_)⟩
   ·rw[c,Ru]at q;exact⟨_,Z,p,_,_,_,Z,Z,S,Z,_,Z,z,n,Z,hz,q⟩
   ·rw[c,Kw]at q;exact q
  | _=>cases c
theorem zH(F:Ab K "is_even" (top 19) .none)(X:K.In h)(G:Ng h mg)(cK:Ao P w K mg base k "ones" ["number"] Cg):Ao P w K mg base (k+1) "is_even" ["mark"] (nq K):=by
 refine F.cal X G ["mark"] λc H vs Q b a h=>?_;obtain⟨p,m,rfl,SP,q⟩:=h;refine⟨_,(@Al _ _ _ (BL (Hy Gu (Ah Ck (Ah Hx (BR Bk (pv 0) Ae (λ_ _=>rfl)) (BJ cK a rfl (Aa (Ah Hj (BR Bk (pv 0) Ae (λ_ _=>rfl)) (BR Bk (pv 0) Ae (λ_ _=>rfl))) Ad))) Ae) Ae (Ac _)))),?_⟩;try dsimp only[Cm]
 refine⟨_,Z,p,_,_,_,Z,Z,SP,Z,_,Z,p,_,_,_,Z,Z,SP,Z,_,Z,p,_,_,_,Z,Z,SP,Z,_,_,Z,Z,m.2.1&&&m.2.2,KY _ _,_,_,Z,Z,_,_,Z,Z,WK,Z,?_⟩;show Q (.bl (decide (V.int (((m.1:Int)+((pc (m.2.1&&&m.2.2):Nat):Int))%2)=V.int 0))) H;have e:decide (V.int (((m.1:Int)+((pc (m.2.1&&&m.2.2):Nat):Int))%2)=V.int 0)=K_ m:=by
  unfold K_;rw[Vh];constructor
  ·intro z;have:=V.int.inj z;omega
  ·intro z;congr 1;omega
 rw[e];exact q
theorem yM(F:Ab K "is_even_mark" (top 20) .none)(X:K.In h)(G:Ng h mg)(dP:Ao P w K mg base k "is_mark" ["thing","cells"] (nu K))(dO:Ao P w K mg base k "is_even" ["mark"] (nq K)):Ao P w K mg base (k+1) "is_even_mark" ["thing","cells"] (Jh K):=by
 refine F.cal X G ["thing","cells"] λd H vs Q c a h=>?_;obtain⟨v,n,b,rfl,t,q⟩:=h;refine⟨_,(@Al _ _ _ (BL (Oz (BJ dP a rfl (Aa (pv 0) (Aa (pv 1) Ad))) (Mp (BJ dO a rfl (Aa (pv 0) Ad)))))),?_⟩;try dsimp only[Cm]
 cases t with
 | no t=>exact⟨_,rfl,_,rfl,v,n,false,rfl,t,_,rfl,Ar q⟩
 | @mark p m e ok=>exact⟨_,rfl,_,rfl,_,n,true,rfl,Tells.mark e ok,_,rfl,Cq ⟨_,rfl,p,m,rfl,Ak.of e,q⟩⟩
theorem zG(F:Ab K "commutes_with_all" (top 31) .none)(X:K.In h)(G:Ng h mg)(B:Bs mg)(cX:Ao P w K mg base k "commute" ["one","other"] (fU K)):Ao P w K mg base (k+1) "commutes_with_all" ["mark","rows"] (kY K):=by
 refine F.cal X G ["mark","rows"] λJ H vs Q I y h=>?_;obtain⟨t,l,ps,ms,m,rfl,f,q,n,Jy,D⟩:=h;have c:(ps.map V.ref).length=ms.length:=by rw[Ax,n.length]
 refine⟨_,(@Al _ _ _ (BL (Bc (J5 rfl) rfl B.all Jq (Aa (GF rfl (BX.of (Nc:=["row","mark"]) (mp:=[none,some 0]) (by kernel_rfl)) (Ew (pv 1)) (λ_ _ _ _=>(CP (i:=0) (show (["row","mark"]:W0).Nodup by decide +kernel) rfl (Or.inl rfl))) (λ_ _ _ _=>(BJ cX y rfl (Aa (pv 1) (Aa (pv 0) Ad))))) Ad)))),?_⟩;try dsimp only[Cm]
 refine⟨_,Z,l,Z,⟨_,q⟩,λacc b=>?_⟩;refine Lb (K:=K) (a:=l) (xs:=ps.map V.ref) (fr:=[some (.ref t)]) (λi ys H'=>Same H H'/\H' acc=some (.lst ys)/\ys=((ms.take i).map λr=>decide (comm m r=0)).map V.bl) (by rw[c];exact Ce (by omega)) ⟨Aw b _,Aj,Z⟩ (λi ys H' e=>e.1.seq q) ?_ ?_
 ·rintro i x ys E NN s L ⟨d,v,rfl⟩ u;rw[Bo]at s;obtain⟨p,hp,rfl⟩:=D_.mp s;obtain⟨r,j,z⟩:=n.get hp;refine⟨_,Z,_,Z,t,p,m,r,Z,Ak.of (d _ _ f),Ak.of (d _ _ z),?_⟩;refine u _ _ v ⟨Ec d b,Aj,?_⟩;rw[Ga,j,G7,CJ,CJ];rfl
 rintro ys A C ⟨g,o,rfl⟩;rw[c,G6]at o;refine⟨acc,_,Z,Ag.of o,?_⟩;have e:(ms.map λr=>decide (comm m r=0)).all id=ms.all λr=>decide (comm m r=0):=by rw[Rn];rfl
 rw[e];exact D A g
theorem Jv{α β:Type}{F:α->β->Prop}:∀{l:List α}{r:List β}{i:Nat}{x:α},Paired F l r->l[i]?=some x->∃y,r[i]?=some y/\F x y
 | _,_,i,_,.nil,h=>by simp at h
 | _::_,b::_,0,x,.cons e r,h=>by
  simp at h;subst h;exact⟨b,Z,e⟩
 | _::_,_::_,i+1,x,.cons e r,h=>by
  obtain⟨y,h1,h2⟩:=Jv (i:=i) r (by simpa using h);exact⟨y,by simpa using h1,h2⟩
theorem OD{α β:Type}{F:α->β->Prop}:∀{l:List α}{r:List β},Paired F l r->l.length=r.length
 | _,_,.nil=>rfl
 | _,_,.cons e r=>by rw[Hv,Hv,OD r]
def Jg (K:U0):Sp:=λvs H Q _=>∃(v:V) (N:Nat),vs=[v,.int N]/\1<=N/\N<=6/\((∃t,Bg K H v t/\PySem.W.kitOne K t (.type "list")=some false/\Q (.bl false) H)\/(∃(l:Y3) (xs:List V) (bs:List Bool),v=.ref l/\H l=some (.lst xs)/\xs.length<=13/\Paired (Dr K H N) xs bs/\bs.all id=false/\∀H',Same H H'->Q (.bl false) H') \/
 ∃(l:Y3) (ps:U3) (ms:List Mk),v=.ref l/\H l=some (.lst (ps.map V.ref))/\CW H ps ms/\ms.length<=12/\(∀m∈ms,Gz N m)/\∀b H',Same H H'->Tab ms b->Q (.bl b) H')
theorem zm(F:Ab K "is_table" (top 30) .none)(X:K.In h)(G:Ng h mg)(B:Bs mg)(cD:Ao P w K mg base k "is_whole" ["thing"] Qg)(cO:Ao P w K mg base k "is_even_mark" ["thing","cells"] (Jh K))
  (cH:Ao P w K mg base k "commutes_with_all" ["mark","rows"] (kY K)) (cP:Ao P w K mg base k "made_of" ["rows","mark","cells"] (fC K)):Ao P w K mg base (k+1) "is_table" ["rows","cells"] (Jg K):=by
 refine F.cal X G ["rows","cells"] λnd H vs Q E' g h=>?_;obtain⟨v,N,rfl,N1,N6,⟨t,ty,e,q⟩ | ⟨l,xs,bs,rfl,hl,QV,pr,no,q⟩ | ⟨l,ps,ms,rfl,hl,M,Jy,ok,q⟩⟩:=h
 ·refine⟨_,(@Az _ _ _ _ _ (Bq (PW.pt (Dq (Dl (CV (Bc Ja rfl B.isinstance Ea (Aa (pv 0) (Aa (HX (v:=.ty "list") rfl B.list Kr rfl) Ad))))) (Dq (Dl (CV (BJ cD g rfl (Aa (pv 1) Ad)))) (Gw (Bx LK (pv 1) Ae (Ac _))))))
   (@Al _ _ _ (BL EY))
   Bw)
  (@Az _ _ _ _ _ (Bq (Dl (CV (Bc (J5 rfl) rfl B.all Jq (Aa (GF rfl (BX.of (Nc:=["row","cells"]) (mp:=[none,some 1]) (by kernel_rfl)) (Ew (pv 0)) (λ_ _ _ _=>(CP (i:=0) (show (["row","cells"]:W0).Nodup by decide +kernel) rfl (Or.inl rfl))) (λ_ _ _ _=>(BJ cO g rfl (Aa (pv 0) (Aa (pv 1) Ad))))) Ad))))
   (@Al _ _ _ (BL EY))
   Bw)
  (@Az _ _ _ _ _ (Bq (Dl (CV (Bc (J5 rfl) rfl B.all Jq (Aa (GF rfl (BX.of (Nc:=["row","rows"]) (mp:=[none,some 0]) (by kernel_rfl)) (Ew (pv 0)) (λ_ _ _ _=>(CP (i:=0) (show (["row","rows"]:W0).Nodup by decide +kernel) rfl (Or.inl rfl))) (λ_ _ _ _=>(BJ cH g rfl (Aa (pv 0) (Aa (pv 1) Ad))))) Ad))))
   (@Al _ _ _ (BL EY))
   Bw)
  (@Al _ _ _ (BL (O1 (Bc (Wb rfl) rfl B.any boot_any (Aa (GF rfl (BX.of (Nc:=["place","row","rows","cells"]) (mp:=[none,none,some 0,some 1]) (by kernel_rfl)) (Qf rfl B.enumerate (Aa (pv 0) Ad)) (λ_ _ _ _=>(WX rfl (show (["place","row","rows","cells"]:W0).Nodup by decide +kernel) rfl rfl rfl rfl)) (λ_ _ _ _=>(Hy Gu (BR O6 (BJ cP g rfl (Aa (PJ fB (pv 2) O8 (O9 (pv 0))) (Aa (pv 1) (Aa (pv 3) Ad)))) Ae (λ_ _=>rfl)) C_ (Ac _)))) Ad)))))))),?_⟩
  exact⟨_,Z,_,_,_,false,Z,ty,e,_,Z,Cq q⟩
 ·refine⟨_,(@Az _ _ _ _ _ (Bq (PW.pt (Dq (Dl (CV (Bc Ja rfl B.isinstance Ea (Aa (pv 0) (Aa (HX (v:=.ty "list") rfl B.list Kr rfl) Ad))))) (Dq (Dl (CV (BJ cD g rfl (Aa (pv 1) Ad)))) (Gw (Bx LK (pv 1) Ae (Ac _))))))
   (@Al _ _ _ (BL EY))
   Bw)
  (@Az _ _ _ _ _ (Bq (Dl (CV (Bc (J5 rfl) rfl B.all Jq (Aa (GF rfl (BX.of (Nc:=["row","cells"]) (mp:=[none,some 1]) (by kernel_rfl)) (Ew (pv 0)) (λ_ _ _ _=>(CP (i:=0) (show (["row","cells"]:W0).Nodup by decide +kernel) rfl (Or.inl rfl))) (λ_ _ _ _=>(BJ cO g rfl (Aa (pv 0) (Aa (pv 1) Ad))))) Ad))))
   (@Al _ _ _ (BL EY))
   Bw)
  (@Az _ _ _ _ _ (Bq (Dl (CV (Bc (J5 rfl) rfl B.all Jq (Aa (GF rfl (BX.of (Nc:=["row","rows"]) (mp:=[none,some 0]) (by kernel_rfl)) (Ew (pv 0)) (λ_ _ _ _=>(CP (i:=0) (show (["row","rows"]:W0).Nodup by decide +kernel) rfl (Or.inl rfl))) (λ_ _ _ _=>(BJ cH g rfl (Aa (pv 0) (Aa (pv 1) Ad))))) Ad))))
   (@Al _ _ _ (BL EY))
   Bw)
  (@Al _ _ _ (BL (O1 (Bc (Wb rfl) rfl B.any boot_any (Aa (GF rfl (BX.of (Nc:=["place","row","rows","cells"]) (mp:=[none,none,some 0,some 1]) (by kernel_rfl)) (Qf rfl B.enumerate (Aa (pv 0) Ad)) (λ_ _ _ _=>(WX rfl (show (["place","row","rows","cells"]:W0).Nodup by decide +kernel) rfl rfl rfl rfl)) (λ_ _ _ _=>(Hy Gu (BR O6 (BJ cP g rfl (Aa (PJ fB (pv 2) O8 (O9 (pv 0))) (Aa (pv 1) (Aa (pv 3) Ad)))) Ae (λ_ _=>rfl)) C_ (Ac _)))) Ad)))))))),?_⟩
  have D:Ag K H l xs:=Ag.of hl;have lx:=OD pr;refine⟨_,Z,_,_,_,true,Z,Bg.lst hl,XD K,_,Z,Ar ⟨_,Z,_,Z,_,Z,Ar ⟨_,Z,_,_,Z,Z,_,Z,CQ (λz=>absurd z (by omega)) (λ_=>?_)⟩⟩⟩;refine⟨_,Z,l,Z,⟨_,D⟩,λacc f=>?_⟩;refine Lb (K:=K) (a:=l) (xs:=xs) (fr:=[some (.int N)]) (λi ys H'=>Same H H'/\H' acc=some (.lst ys)/\ys=(bs.take i).map V.bl) (Ce (by omega)) ⟨Aw f _,Aj,Z⟩ (λi ys H' e=>e.1.seq D) ?_ ?_
  ·rintro i x ys HA NN I a0 ⟨L,cA,rfl⟩ R;obtain⟨b,u,tb⟩:=Jv pr I;refine⟨_,Z,_,Z,x,N,b,Z,tb.same L,?_⟩;refine R _ _ cA ⟨Ec L f,Aj,?_⟩;rw[Ga,u,G7,CJ];rfl
  rintro ys H1 a7 ⟨Y,S,rfl⟩;rw[lx,G6]at S;refine⟨acc,_,Z,Ag.of S,_,Z,?_⟩;rw[no];exact Cq (q H1 Y)
 ·refine⟨_,(@Az _ _ _ _ _ (Bq (PW.pt (Dq (Dl (CV (Bc Ja rfl B.isinstance Ea (Aa (pv 0) (Aa (HX (v:=.ty "list") rfl B.list Kr rfl) Ad))))) (Dq (Dl (CV (BJ cD g rfl (Aa (pv 1) Ad)))) (Gw (Bx LK (pv 1) Ae (Ac _))))))
   (@Al _ _ _ (BL EY))
   Bw)
  (@Az _ _ _ _ _ (Bq (Dl (CV (Bc (J5 rfl) rfl B.all Jq (Aa (GF rfl (BX.of (Nc:=["row","cells"]) (mp:=[none,some 1]) (by kernel_rfl)) (Ew (pv 0)) (λ_ _ _ _=>(CP (i:=0) (show (["row","cells"]:W0).Nodup by decide +kernel) rfl (Or.inl rfl))) (λ_ _ _ _=>(BJ cO g rfl (Aa (pv 0) (Aa (pv 1) Ad))))) Ad))))
   (@Al _ _ _ (BL EY))
   Bw)
  (@Az _ _ _ _ _ (Bq (Dl (CV (Bc (J5 rfl) rfl B.all Jq (Aa (GF rfl (BX.of (Nc:=["row","rows"]) (mp:=[none,some 0]) (by kernel_rfl)) (Ew (pv 0)) (λ_ _ _ _=>(CP (i:=0) (show (["row","rows"]:W0).Nodup by decide +kernel) rfl (Or.inl rfl))) (λ_ _ _ _=>(BJ cH g rfl (Aa (pv 0) (Aa (pv 1) Ad))))) Ad))))
   (@Al _ _ _ (BL EY))
   Bw)
  (@Al _ _ _ (BL (O1 (Bc (Wb rfl) rfl B.any boot_any (Aa (GF rfl (BX.of (Nc:=["place","row","rows","cells"]) (mp:=[none,none,some 0,some 1]) (by kernel_rfl)) (Qf rfl B.enumerate (Aa (pv 0) Ad)) (λ_ _ _ _=>(WX rfl (show (["place","row","rows","cells"]:W0).Nodup by decide +kernel) rfl rfl rfl rfl)) (λ_ _ _ _=>(Hy Gu (BR O6 (BJ cP g rfl (Aa (PJ fB (pv 2) O8 (O9 (pv 0))) (Aa (pv 1) (Aa (pv 3) Ad)))) Ae (λ_ _=>rfl)) C_ (Ac _)))) Ad)))))))),?_⟩
  have D:Ag K H l (ps.map V.ref):=Ag.of hl;have A:(ps.map V.ref).length=ms.length:=by rw[Ax,M.length]
  refine⟨_,Z,_,_,_,true,Z,Bg.lst hl,XD K,_,Z,Ar ⟨_,Z,_,Z,_,Z,Ar ⟨_,Z,_,_,Z,Z,_,Z,CQ (λz=>absurd z (by omega)) (λ_=>?_)⟩⟩⟩;refine⟨_,Z,l,Z,⟨_,D⟩,λacc f=>?_⟩;refine Lb (K:=K) (a:=l) (xs:=ps.map V.ref) (fr:=[some (.int N)]) (λi ys H'=>Same H H'/\H' acc=some (.lst ys)/\ys=((ms.take i).map K_).map V.bl) (by rw[A];exact Ce (by omega)) ⟨Aw f _,Aj,Z⟩ (λi ys H' e=>e.1.seq D) ?_ ?_
  ·rintro i x ys HA NN I a0 ⟨L,cA,rfl⟩ R;rw[Bo]at I;obtain⟨p,hp,rfl⟩:=D_.mp I;obtain⟨r,n,p0⟩:=M.get hp;refine⟨_,Z,_,Z,_,N,_,Z,Dr.mark (L _ _ p0) (ok r (Dz n)),?_⟩;refine R _ _ cA ⟨Ec L f,Aj,?_⟩;rw[Ga,n,G7,CJ,CJ];rfl
  rintro ys H1 a7 ⟨Y,S,rfl⟩;rw[A,G6]at S;refine⟨acc,_,Z,Ag.of S,_,Z,Gr (λz=>?_) (λz=>?_)⟩
  ·refine q false H1 Y ⟨(λz=>nomatch z),λ_=>.inl ?_⟩;rw[Rn]at z;refine Classical.byContradiction λW=>?_;have:ms.all (id ∘ K_)=true:=Kz.mpr λm s=>Ik.mpr (Classical.byContradiction λhe=>W ⟨m,s,he⟩);rw[this]at z;cases z
  have a4:∀m∈ms,ev m:=λm s=>by
   rw[Rn]at z;exact Ik.mp (Kz.mp z m s)
  refine⟨_,Z,l,Z,⟨_,Y.seq D⟩,λO E=>?_⟩;refine Lb (K:=K) (a:=l) (xs:=ps.map V.ref) (fr:=[some (.ref l)]) (λi ys H'=>Same H1 H'/\H' O=some (.lst ys)/\ys=((ms.take i).map λm=>ms.all λr=>decide (comm m r=0)).map V.bl) (by rw[A];exact Ce (by omega)) ⟨Aw E _,Aj,Z⟩ (λi ys H' e=>(Y.trans e.1).seq D) ?_ ?_
  ·rintro i x ys HA NN I a0 ⟨L,cA,rfl⟩ R;rw[Bo]at I;obtain⟨p,hp,rfl⟩:=D_.mp I;obtain⟨r,n,p0⟩:=M.get hp;have T:=Y.trans L;refine⟨_,Z,_,Z,p,l,ps,ms,r,Z,T _ _ p0,T.seq D,M.same T,Jy,λHB SB=>?_⟩;refine R _ _ (SB _ _ cA) ⟨Ec (L.trans SB) E,Aj,?_⟩;rw[Ga,n,G7,CJ,CJ];rfl
  rintro ys H2 b0 ⟨S2,c2,rfl⟩;rw[A,G6]at c2;have C:=Y.trans S2;refine⟨O,_,Z,Ag.of c2,_,Z,Gr (λz=>?_) (λz=>?_)⟩
  ·refine q false H2 C ⟨(λz=>nomatch z),λ_=>.inr (.inl ?_)⟩;rw[Rn]at z;refine Classical.byContradiction λW=>?_;have:ms.all (id ∘ λm=>ms.all λr=>decide (comm m r=0))=true:=Kz.mpr λm s=>Kz.mpr λr g=>DK (Classical.byContradiction λhe=>W ⟨m,s,r,g,he⟩);rw[this]at z;cases z
  have a':∀m∈ms,∀r∈ms,comm m r=0:=λm s r g=>by
   rw[Rn]at z;exact QG (Kz.mp (Kz.mp z m s) r g)
  refine⟨_,Z,l,_,Z,C.seq D,λa2 U=>?_⟩;refine vY (l:=l) (xs:=ps.map V.ref) (fr:=[some (.ref l),some (.int N)]) (λi zs=>∃bs:List Bool,zs=bs.map V.bl/\bs.length=i/\∀(j:Nat) (b:Bool) (m:Mk),bs[j]?=some b->ms[j]?=some m->(b=true->Md (ms.take j) m)/\(b=false->Apart (ms.take j) m)) (by rw[A];exact Ce (by omega)) U (C.seq D) ⟨[],Z,Z,λj b m u=>by simp at u⟩ (λh q=>⟨_,_,Z,Ak.of h,Z,_,_,Z,_,_,Z,Z,q⟩) ?_ ?_
  ·rintro i x zs H3 NN I S3 ⟨bs,rfl,bl,J⟩ R;have b1:i<(ps.map V.ref).length:=(Cv.mp I).1;rw[Bo]at I;obtain⟨p,hp,rfl⟩:=D_.mp I;obtain⟨r,n,p0⟩:=M.get hp;have a5:=Dz n;have T:=C.trans S3;have add:∀c:Bool,((c=true->Md (ms.take i) r)/\(c=false->Apart (ms.take i) r))->∃bs':List Bool,bs.map V.bl++[V.bl c]=bs'.map V.bl/\bs'.length=i+1/\∀(j:Nat) (b:Bool) (m:Mk),bs'[j]?=some b->ms[j]?=some m->(b=true->Md (ms.take j) m)/\(b=false->Apart (ms.take j) m):=λc hc=>by
    refine⟨bs++[c],by rw[CJ];rfl,by rw[DQ,bl];rfl,λj b m u d=>?_⟩;by_cases hj:j<bs.length
    ·rw[N5 hj]at u;exact J j b m u d
    ·have a6:j=i:=by
      have:=(Cv.mp u).1;rw[DQ,KQ]at this;omega
     subst a6;rw[QS (by omega),bl,ao]at u;have u:c=b:=by simpa using u
     rw[n]at d;have d:=Option.some.inj d;subst u;subst d;exact hc
   refine⟨_,Z,_,Z,_,Z,l,_,Z,T.seq D,λcp a9=>?_⟩;rw[X6w (by omega),<-Va];have s4:=Aw a9 (.lst ((ps.take i).map V.ref));refine⟨_,Z,_,Z,cp,p,ps.take i,ms.take i,r,N,Z,Ag.of Aj,((M.same T).same s4).take i,s4 _ _ (T _ _ p0),N6,by rw[Ft];omega,λm M=>ok m (Sq M),ok r a5,λrt H5 S5 a1=>?_⟩;rcases a1 with ⟨k1,y,ln,_,hrt,_,k4,hf⟩ | ⟨pp,o,hrt,_,_,_,S,c0⟩
   ·refine⟨rt,_,_,_,Z,Z,Ak.of hrt,Z,Z,?_⟩;rw[DK rfl];exact R _ H5 (s4.trans S5) (add true ⟨λ_=>⟨k1,y,k4,hf⟩,λz=>nomatch z⟩)
   ·refine⟨rt,_,_,_,Z,Z,Ak.of hrt,Z,Z,?_⟩;rw[Df am];exact R _ H5 (s4.trans S5) (add false ⟨(λz=>nomatch z),λ_=>⟨o,S,c0⟩⟩)
  ·rintro zs H3 S3 ⟨bs,rfl,bl,J⟩ a3;rw[A]at bl;refine⟨a2,_,Z,Ag.of a3,_,Z,?_⟩;cases ha:bs.any id with
   | true =>
    refine q false H3 (C.trans S3) ⟨(λz=>nomatch z),λ_=>.inr (.inr ?_)⟩;obtain⟨b,u,eb⟩:=R7.mp ha;obtain⟨j,hj,ej⟩:=List.getElem_of_mem u;have d:ms[j]?=some (ms[j]'(by omega)):=Bm (by omega);exact⟨j,_,d,(J j b _ (by rw[Bm hj,ej]) d).1 eb⟩
   | false =>
    refine q true H3 (C.trans S3) ⟨λ_=>⟨a4,a',λj m d=>?_⟩,λz=>nomatch z⟩;have hj:j<bs.length:=by have:=(Cv.mp d).1;omega
    have a8:=Bm hj;have fb:bs[j]=false:=by
     cases hq:bs[j] with
     | false=>rfl
     | true =>
      have:bs.any id=true:=R7.mpr ⟨bs[j],G5 hj,hq⟩;rw[this]at ha;cases ha
    exact(J j _ m a8 d).2 fb
end
theorem wu{N:Nat}(T:G9 N H l ps ms)(t:Tab ms b):b=true:=by
 cases b with
 | true=>rfl
 | false =>
  rcases t.2 rfl with ⟨m,hm,he⟩ | ⟨m,hm,r,hr,hc⟩ | ⟨i,m,hmi,kk,x,k4,hf⟩
  ·exact absurd (T.tb.nice.even m hm) he
  ·exact absurd (T.tb.nice.com m hm r hr) hc
  ·have c:i<ms.length:=(Cv.mp hmi).1;have a:ms.getD i (0,0,0)=m:=by rw[Bb,hmi];rfl
   rw[<-a]at hf;exact(vg T.tb.ind c (by rw[a];exact T.tb.nice.q m (Dz hmi)) k4 hf).elim
variable{base:Heap}
theorem Ao.imp{P:U8}{w:W1}{mg:U4}{k:Nat}{x:Str}{ps:W0}{sp sp':Sp}(c:Ao P w K mg base k x ps sp)(h:∀vs H Q E,sp' vs H Q E->sp vs H Q E):Ao P w K mg base k x ps sp' :=
 let ⟨f,fd,F,b,kp,m⟩:=c.ex
 ⟨f,fd,F.imp h,b,kp,m⟩
theorem vW{P:U8}{w:W1}{mg:U4}{k:Nat}(c:Ao P w K mg base k "is_table" ["rows","cells"] (Jg K)):Ao P w K mg base k "is_table" ["rows","cells"] kZ :=
 Ao.imp c λvs H Q E h=>by
  obtain⟨l,ps,ms,N,rfl,T,f,e,a⟩:=h;refine⟨.ref l,N,Z,f,e,.inr (.inr ⟨l,ps,ms,Z,T.lst,T.mks,Eh T.len (by decide),T.ok,λb H' d t=>?_⟩)⟩;rw[wu T t];exact a H' d
noncomputable def ins {α:Type}(L:List α)(a:Nat)(m:α):List α:=L.take a++[m]++L.drop a
section
variable {α:Type}{L:List α}{a i:Nat}{m:α}
theorem rM(ha:a<=L.length)(h:i<a):(ins L a m)[i]?=L[i]?:=by
 unfold ins;rw[Vi,N5 (by rw[Ft];omega),SQ,if_pos h]
theorem rJ(ha:a<=L.length):(ins L a m)[a]?=some m:=by
 unfold ins;rw[Vi,QS (by rw[Ft];omega),Ft,R4 ha,ao];rfl
theorem rK(ha:a<=L.length)(h:a<=i):(ins L a m)[i+1]?=L[i]?:=by
 unfold ins;rw[QS (by rw[DQ,Ft,KQ];omega),DQ,Ft,KQ,R4 ha,YM];congr 1;omega
theorem X3a{x:α}(h:x∈L):x∈ins L a m:=by
 unfold ins;rw[<-List.take_append_drop a L]at h;rcases E_.mp h with h | h
 ·exact JQ _ (JQ _ h)
 ·exact Fw _ h
theorem ou:m∈ins L a m:=JQ _ (Fw _ (Dg.mpr rfl))
theorem X3d{P:α->Prop}(h:∀x∈L,P x)(hm:P m):∀x∈ins L a m,P x:=λx b=>by
 unfold ins at b;rcases E_.mp b with b | b
 ·rcases E_.mp b with b | b
  ·exact h x (Sq b)
  ·rw[Dg.mp b];exact hm
 ·exact h x (YZ b)
theorem X3b(ha:a<=L.length):(ins L a m).length=L.length+1:=by
 unfold ins;rw[DQ,DQ,Ft,QB,KQ];omega
theorem WT{x:α}{k:Nat}(h:L[i]?=some x)(hi:i<k):x∈L.take k:=Dz (i:=i) (by rw[SQ,if_pos hi];exact h)
end
theorem Qp(ms:List Mk)(x a:Nat):∀d,(∀j,a<=j->j<a+d->bit x j=0)->chosen ms x (a+d)=chosen ms x a
 | 0,_=>rfl
 | d+1,h=>by
  rw[<-bK,PL,h (a+d) (by omega) (by omega),if_neg (by decide),JM];exact Qp ms x a d λj h1 h2=>h j h1 (by omega)
theorem Ms(x a:Nat):∀d,(∃j,a<=j/\j<a+d/\bit x j=1)->∃b,a<=b/\b<a+d/\bit x b=1/\∀j,b<j->j<a+d->bit x j=0
 | 0,h=>by obtain⟨j,h1,h2,_⟩:=h;omega
 | d+1,h=>by
  by_cases e:bit x (a+d)=1
  ·exact⟨a+d,by omega,by omega,e,λj h1 h2=>by omega⟩
  ·obtain⟨j,h1,h2,c⟩:=h;have:j≠a+d:=λz=>e (z ▸ c);obtain⟨b,g,l,f,i⟩:=Ms x a d ⟨j,h1,by omega,c⟩;refine⟨b,g,by omega,f,λj k m=>?_⟩;by_cases ej:j=a+d
   ·have:=FN x (a+d);rw[ej];omega
   ·exact i j k (by omega)
theorem JZ{p:Nat}(h:p<ms.length):ms[p]?=some (ms.getD p (0,0,0)):=by
 rw[Bb,Bm h];rfl
theorem yh{q x a:Nat}(hm:m=(chosen ms x ms.length).foldl mul (q,0,0))(ha:a<=ms.length)(t:Tab (ins ms a m) b):b=false:=by
 cases b with
 | false=>rfl
 | true =>
  exfalso;obtain⟨_,_,v⟩:=t.1 rfl;have s:∀o:Mk,comm o (q,0,0)=0:=λo=>by unfold comm;simp[Gy]
  obtain⟨d,B⟩:∃d,ms.length=a+d:=⟨ms.length-a,by omega⟩;by_cases h:∃j,a<=j/\j<a+d/\bit x j=1
  ·obtain⟨c,h1,h2,y,A⟩:=Ms x a d h;have D:c<ms.length:=by omega
   obtain⟨o,k,g⟩:=v (c+1) (ms.getD c (0,0,0)) (by rw[rK ha h1];exact JZ D);have l:comm o m=0:=g m (WT (rJ ha) (by omega));have os:∀p,p<c->comm o (ms.getD p (0,0,0))=0:=λp hp=>by
    by_cases hpa:p<a
    ·exact g _ (WT (i:=p) (by rw[rM ha hpa];exact JZ (by omega)) (by omega))
    ·exact g _ (WT (i:=p+1) (by rw[rK ha (by omega)];exact JZ (by omega)) (by omega))
   have e:chosen ms x ms.length=chosen ms x c++[ms.getD c (0,0,0)]:=by
    have:=Qp ms x (c+1) (ms.length-(c+1)) λj w u=>A j (by omega) (by omega);rw[show c+1+(ms.length-(c+1))=ms.length by omega]at this;rw[this,PL,if_pos y]
   rw[hm,e,R_]at l;have C:comm o (List.foldl mul (List.foldl mul (q,0,0) (chosen ms x c)) [ms.getD c (0,0,0)])=1:=by
    show comm o (mul _ _)=1;rw[dj,k,fL _ _ (s o) λr f=>?_];unfold chosen at f;obtain⟨p,hp,rfl⟩:=DY.mp f;exact os p (Mu hp)
   rw[C]at l;cases l
  ·obtain⟨o,k,g⟩:=v a m (rJ ha);have e:chosen ms x ms.length=chosen ms x a:=by
    rw[B];refine Qp ms x a d λj w u=>?_;have:=FN x j;have:bit x j≠1:=λz=>h ⟨j,w,u,z⟩;omega
   rw[hm,e,fL _ _ (s o) λr f=>?_]at k
   ·cases k
   ·unfold chosen at f;obtain⟨p,hp,rfl⟩:=DY.mp f;have n:=Mu hp;exact g _ (WT (i:=p) (by rw[rM ha n];exact JZ (by omega)) n)
def Gf (ms:List Mk)(m:Mk):Prop:=¬ ev m\/(∃r∈ms,comm r m≠0)\/∃q x,m=(chosen ms x ms.length).foldl mul (q,0,0)
theorem Gf.no{a:Nat}(s:Gf ms m)(ha:a<=ms.length)(t:Tab (ins ms a m) b):b=false:=by
 rcases s with s | ⟨r,hr,s⟩ | ⟨q,x,s⟩
 ·cases b with
  | false=>rfl
  | true=>exact absurd ((t.1 rfl).1 m ou) s
 ·cases b with
  | false=>rfl
  | true=>exact absurd ((t.1 rfl).2.1 r (X3a hr) m ou) s
 ·exact yh s ha t
end Av
namespace L2
section
variable {P:U8}{w:W1}{H:Hp}{h:Heap}
end
section
variable {X:Cx}
end
end L2
namespace L2
def Fl (K:U0)(H:Hp):List Addr->List (List Int)->Prop:=Paired λp ns=>Ak K H p (ns.map V.int)
section
variable {X:Cx}
theorem mC{pins:U1}{σ:St}{H:Hp}{s:U7}(I:Inv X pins σ H s):∀{ps:U3}{xs:List (List Int)}{us:U5},Fl X.K H ps xs->Vals (ps.map V.ref) us->∃as,ReadsAll s.heap us (xs.map λns=>PyData.tuple (ns.map PyData.int)) as
 | [],[],us,.nil,r=>by cases r;exact⟨[],.nil⟩
 | p::ps,ns::xs,us,.cons e r,rv=>by
  cases rv with
  | cons ru rr =>
   cases ru;obtain⟨as,c⟩:=mC I r rr;obtain⟨its,a,b,_⟩:=I.tuple e;exact⟨_,.cons (Mv b (JC a)) c⟩
theorem lX{pins:U1}{σ:St}{H:Hp}{s:U7}(I:Inv X pins σ H s){a:Y3}{ps:U3}{xs:List (List Int)}(h:H a=some (.lst (ps.map V.ref)))(r:Fl X.K H ps xs):∃as,Reads s.heap (.ref a) (.list (xs.map λns=>PyData.tuple (ns.map PyData.int))) as:=by
 obtain⟨its,g,c,_⟩:=I.list (Ag.of h);obtain⟨as,f⟩:=mC I r g;obtain⟨o,b,d,n,e⟩:=c.isList;exact⟨_,Reads.list b d e (by simpa using f)⟩
def Nh (K:U0)(neg:Bool):R2:=λx y H Q=>∃(a b:Y3) (ps qs:U3) (xs ys:List (List Int)),x=.ref a/\y=.ref b/\H a=some (.lst (ps.map V.ref))/\H b=some (.lst (qs.map V.ref))/\Fl K H ps xs/\Fl K H qs ys/\Q (.bl (if neg then !decide (xs=ys) else decide (xs=ys))) H
theorem wF(hu:X.A.units+64<cLine):Cu X (compareOp .NotEq) (Nh X.K true):=by
 intro pins s σ H x y v u Q I i c h;obtain⟨a,b,ps,j,xs,ys,rfl,rfl,h1,h2,f,e,q⟩:=h;cases i;cases c;obtain⟨as,d⟩:=lX I h1 f;obtain⟨bs,g⟩:=lX I h2 e;refine ne_dataH_same d g (lV xs) (lV ys) hu (by simp only[SeqAt.noMix];exact lH xs ys) ⟨.bl (!decide (xs=ys)),H,I,?_,q⟩;show _=_;simp only[PySem.Spec.same];rw[kO]
end
end L2
namespace L2
inductive Li:V->PyData->Prop where
 | non:Li .non .none
 | bl (b:Bool):Li (.bl b) (.bool b)
 | int (i:Int):Li (.int i) (.int i)
 | str (x:Str) (ok:PyData.canLay0 (.str x)=true):Li (.str x) (.str x)
inductive Pg (H:Hp):V->PyData->Prop where
 | flat {v:V}{d:PyData} (f:Li v d):Pg H v d
 | tup {p:Y3}{xs:List V}{ds:List PyData} (e:H p=some (.tup xs)) (all:Paired Li xs ds):Pg H (.ref p) (.tuple ds)
 | lst {p:Y3}{xs:List V}{ds:List PyData} (e:H p=some (.lst xs)) (all:Paired Li xs ds):Pg H (.ref p) (.list ds)
variable{d:PyData}{u:W3}
theorem pG{h:Heap}{v:V}(f:Li v d)(r:RelV v u):Reads h u d []:=by
 cases f with
 | non=>cases r;exact .none
 | bl b=>cases r;exact .bool b
 | int i=>obtain⟨t,rfl⟩:=r;exact .int i t
 | str x=>obtain⟨t,rfl⟩:=r;exact .str x t
theorem fQ{h:Heap}:∀{xs:List V}{ds:List PyData}{us:U5},Paired Li xs ds->Vals xs us->ReadsAll h us ds []
 | [],[],us,.nil,r=>by cases r;exact .nil
 | _::_,_::_,us,.cons f t,r=>by
  cases r with
  | cons ru rr=>exact .cons (as:=[]) (bs:=[]) (pG f ru) (fQ t rr)
section
variable {X:Cx}{pins:U1}{σ:St}{H:Hp}{s:U7}
theorem wV(I:Inv X pins σ H s){v:V}(f:Pg H v d)(r:RelV v u):∃as,Reads s.heap u d as:=by
 cases f with
 | flat f=>exact⟨_,pG f r⟩
 | @tup p xs ds e all =>
  cases r;obtain⟨its,g,h,_⟩:=I.tuple (Ak.of e);obtain⟨o,a,b,n,c⟩:=h;exact⟨_,Reads.tuple a b c (by simpa using fQ all g)⟩
 | @lst p xs ds e all =>
  cases r;obtain⟨its,g,i,_⟩:=I.list (Ag.of e);obtain⟨o,a,b,n,c⟩:=i.isList;exact⟨_,Reads.list a b c (by simpa using fQ all g)⟩
end
end L2
namespace Av
open L2 Pc Dv Ez Fy
open Fp (V6 ev)
inductive Fo (K:U0) (H:Hp) (N:Nat):V->Prop where
 | odd {v:V}{t:W3} (ty:Bg K H v t) (e:PySem.W.kitOne K t (.type "list")=some false):Fo K H N v
 | item {l:Y3}{xs:List V}{bs:List Bool}{ds:List PyData} (hl:H l=some (.lst xs)) (QV:xs.length<=13) (pr:Paired (Dr K H N) xs bs) (no:bs.all id=false) (rd:Paired (Pg H) xs ds):Fo K H N (.ref l)
 | marks {l:Y3}{ps:U3}{ms:List Mk} (hl:H l=some (.lst (ps.map V.ref))) (hm:CW H ps ms) (Jy:ms.length<=12) (ok:∀m∈ms,Gz N m) (no:∀b,Tab ms b->b=false):Fo K H N (.ref l)
theorem _E{K:U0}{H:Hp}{n:Nat}{p:Y3}{x y z:V}(e:H p=some (.tup [x,y,z]))(hx:Part K H x)(hy:Part K H y)(hz:Part K H z)(b:MN x=false\/JT n y=false\/JT n z=false):Tells K H n (.ref p) false:=by
 have t:=Tells.three (n:=n) e hx hy hz;have:(MN x && (JT n y && JT n z))=false:=by rcases b with b | b | b<;>rw[b]<;>simp
 rwa [this]at t
end Av
set_option maxHeartbeats 1000000
namespace GJ
open Fy
inductive Sp (bs:W7):Nat->Prop where
 | zero:Sp bs 0
 | add {x b:Nat} (h:Sp bs x) (m:b∈bs):Sp bs (x^^^b)
variable{x:Nat}
theorem Sp.xor{bs:W7}{y:Nat}(h:Sp bs x)(g:Sp bs y):Sp bs (x^^^y):=by
 induction g with
 | zero=>rw[Ly];exact h
 | add _ m ih=>rw[<-HJ];exact .add ih m
variable{b:Nat}
theorem Sp.one{bs:W7}(m:b∈bs):Sp bs b:=by have:=Sp.add (Sp.zero (bs:=bs)) m;rwa [bB]at this
theorem Sp.up{bs cs:W7}(h:∀b∈bs,Sp cs b)(g:Sp bs x):Sp cs x:=by
 induction g with
 | zero=>exact .zero
 | add _ m ih=>exact ih.xor (h _ m)
def Ap (a b:Nat):Prop:=b.testBit a.log2=false/\a.testBit b.log2=false
def Red (bs:W7):Prop:=bs.Pairwise Ap/\∀b∈bs,b≠0
theorem Red.perm{bs cs:W7}(r:Red bs)(p:bs.Perm cs):Red cs:=⟨(p.pairwise_iff λh=>⟨h.2,h.1⟩).mp r.1,λb a=>r.2 b (p.mem_iff.mpr a)⟩
theorem Ms(h:b≠0):b.testBit b.log2=true:=by
 exact Nat.testBit_of_two_pow_le_and_two_pow_add_one_gt (Nat.log2_self_le h) Nat.lt_log2_self
theorem wZ{bs:W7}(h:Sp (b::bs) x):Sp bs x\/∃y,Sp bs y/\x=y^^^b:=by
 induction h with
 | zero=>exact .inl .zero
 | add _ m ih =>
  rcases Cz.mp m with rfl | m
  ·rcases ih with h | ⟨y,h,rfl⟩
   ·exact .inr ⟨_,h,Z⟩
   ·rw[HJ,Lx,Ly];exact .inl h
  ·rcases ih with h | ⟨y,h,rfl⟩
   ·exact .inl (.add h m)
   ·exact .inr ⟨_,.add h m,by rw[HJ,HJ,Rr b]⟩
variable{i:Nat}
theorem X4w{bs:W7}(h:Sp bs x)(z:∀b∈bs,b.testBit i=false):x.testBit i=false:=by
 induction h with
 | zero=>exact YH i
 | add _ m ih=>rw[KD,ih,z _ m];rfl
theorem Red.nought:∀{bs:W7}{x:Nat},Red bs->Sp bs x->(∀b∈bs,x.testBit b.log2=false)->x=0
 | [],x,_,h,_=>by
  cases h with
  | zero=>rfl
  | add _ m=>cases m
 | b::bs,x,r,h,z=>by
  have p:=Vn.mp r.1;have d:Red bs:=⟨p.2,λc a=>r.2 c (.tail _ a)⟩;rcases wZ h with hy | ⟨y,hy,rfl⟩
  ·exact Red.nought d hy (λc a=>z c (Iv _ a))
  ·have e:=z b (.head _);rw[KD,X4w hy λc a=>(p.1 c a).1,Ms (r.2 b (.head _))]at e;cases e
noncomputable def cl (v b:Nat):Nat:=min v (v^^^b)
theorem Wq(v b:Nat):cl v b=v\/cl v b=v^^^b:=by unfold cl;omega
theorem X5u{n m:Nat}(hn:n.testBit i=false)(hm:m.testBit i=true)(h:∀j,i<j->n.testBit j=m.testBit j):n<m:=by
 have e:n / 2^(i+1)=m / 2^(i+1):=MJ λj=>by
  rw[jN,jN];exact h _ (by omega)
 have a:n%2^(i+1)<2^i:=Nat.lt_pow_two_of_testBit _ λj d=>by
  rw[Yn];by_cases q:j=i
  ·rw[q,hn,Bool.and_false]
  ·rw[Df (by omega),Kw]
 have b:2^i<=m%2^(i+1):=jR (by rw[Yn,hm,DK (by omega)];rfl);have c:=Nat.div_add_mod n (2^(i+1));have f:=Nat.div_add_mod m (2^(i+1));rw[e]at c;omega
theorem rR(h:b≠0)(hx:x.testBit b.log2=true):x^^^b<x:=by
 refine X5u (i:=b.log2) ?_ hx λj c=>?_
 ·rw[KD,hx,Ms h];rfl
 ·have a:b<2^j:=CK Nat.lt_log2_self (Gn (by decide) c);rw[KD,Sv a,Bool.xor_false]
variable{v:Nat}
theorem rB(h:b≠0):(cl v b).testBit b.log2=false:=by
 cases e:v.testBit b.log2 with
 | true =>
  have:=rR h e;have q:cl v b=v^^^b:=by unfold cl;omega
  rw[q,KD,e,Ms h];rfl
 | false =>
  have f:(v^^^b).testBit b.log2=true:=by rw[KD,e,Ms h];rfl
  have:=rR h f;rw[HJ,Lx,Ly]at this;have q:cl v b=v:=by unfold cl;omega
  rw[q,e]
theorem W_(h:b.testBit i=false):(cl v b).testBit i=v.testBit i:=by
 rcases Wq v b with e | e<;>rw[e]
 rw[KD,h,Bool.xor_false]
structure Lo (bs:W7) (v:Nat) (j:Nat) (x:Nat):Prop where
 sp:∃s,Sp bs s/\x=v^^^s
 z:∀b∈bs.take j,x.testBit b.log2=false
theorem Lo.start(bs:W7)(v:Nat):Lo bs v 0 v:=⟨⟨0,.zero,(Ly v).symm⟩,λb a=>by simp at a⟩
theorem Lo.step{bs:W7}{j:Nat}(r:Red bs)(h:Lo bs v j x)(hb:bs[j]?=some b):Lo bs v (j+1) (cl x b):=by
 have f:=Dz hb;obtain⟨s,d,rfl⟩:=h.sp;refine⟨?_,λc a=>?_⟩
 ·rcases Wq (v^^^s) b with e | e
  ·exact⟨s,d,e⟩
  ·exact⟨s^^^b,.add d f,by rw[e,HJ]⟩
 ·rw[Ga,hb,G7,E_,Dg]at a;rcases a with a | rfl
  ·obtain⟨i,hi,e⟩:=List.getElem_of_mem a;rw[Ft]at hi;rw[List.getElem_take]at e;obtain⟨g,k⟩:=Cv.mp hb;have:=K5.mp r.1 i j (by omega) g (by omega);rw[e,k]at this;rw[W_ this.1];exact h.z c a
  ·exact rB (r.2 _ f)
theorem grow{bs:W7}(r:Red bs)(h:Lo bs v bs.length x)(x0:x≠0):Red (bs.map (cl · x)++[x])/\Sp (bs.map (cl · x)++[x]) v/\∀y,Sp bs y->Sp (bs.map (cl · x)++[x]) y:=by
 have hz:∀b∈bs,x.testBit b.log2=false:=λb d=>h.z b (by rw[G6];exact d);have g:∀b∈bs,(cl b x).log2=b.log2/\cl b x≠0:=λb d=>by
  have l:=r.2 b d;have t:(cl b x).testBit b.log2=true:=by rw[W_ (hz b d)];exact Ms l
  have j:cl b x≠0:=λz=>by rw[z,YH]at t;cases t
  have p:cl b x<=b:=by unfold cl;omega
  refine⟨Nat.le_antisymm ?_ ?_,j⟩
  ·exact(Nat.le_log2 l).mpr (Eh (Nat.log2_self_le j) p)
  ·exact(Nat.le_log2 j).mpr (jR t)
 have up:∀y,Sp bs y->Sp (bs.map (cl · x)++[x]) y:=λy o=>o.up λb d=>by
  have m:cl b x∈bs.map (cl · x)++[x]:=JQ _ (DY.mpr ⟨b,d,Z⟩);have u:x∈bs.map (cl · x)++[x]:=Fw _ (Dg.mpr rfl);rcases Wq b x with e | e
  ·have q:=Sp.one m;rwa [e]at q
  ·have q:=(Sp.one m).xor (Sp.one u);rwa [e,HJ,Lx,Ly]at q
 refine⟨⟨?_,λb d=>?_⟩,?_,up⟩
 ·rw[Yb];refine⟨Nv.mpr ?_,Ym _ _,λa f c i=>?_⟩
  ·refine r.1.imp_of_mem λ{a c} f i h=>?_;unfold Ap;rw[(g a f).1,(g c i).1,W_ (hz a f),W_ (hz c i)];exact h
  ·obtain⟨b,d,rfl⟩:=DY.mp f;rw[Dg.mp i];exact⟨by rw[(g b d).1];exact hz b d,rB x0⟩
 ·rcases E_.mp d with d | d
  ·obtain⟨w,k,rfl⟩:=DY.mp d;exact(g w k).2
  ·rw[Dg.mp d];exact x0
 ·obtain⟨s,n,e⟩:=h.sp;have q:=(Sp.one (Fw (bs.map (cl · x)) (Dg.mpr (rfl:x=x)))).xor (up s n);have ev:v=x^^^s:=by rw[e,HJ,Lx,Ly]
  rw[ev];exact q
theorem apart{bs:W7}(r:Red bs)(h:Lo bs v bs.length x)(x0:x≠0):¬ Sp bs v:=λc=>by
 obtain⟨s,a,e⟩:=h.sp;exact x0 (r.nought (by rw[e];exact c.xor a) λb d=>h.z b (by rw[G6];exact d))
noncomputable def vv (f s:Nat):Nat:=f ||| s <<< 6
theorem O5{f s:Nat}(h:f<64):(vv f s).testBit i=if i<6 then f.testBit i else s.testBit (i-6):=by
 unfold vv;rw[Ry,Nat.testBit_shiftLeft];by_cases e:i<6
 ·rw[if_pos e,Df (by omega),Kw,Bool.or_false]
 ·have:f.testBit i=false:=Sv (CK h (Gn (n:=2) (by decide) (show 6<=i by omega)));rw[if_neg e,this,Bool.false_or,DK (by omega),Ru]
theorem sI{f g s t:Nat}(hf:f<64)(hg:g<64):vv (f^^^g) (s^^^t)=vv f s^^^vv g t:=MJ λi=>by
 rw[KD,O5 (Ih (n:=6) hf hg),O5 hf,O5 hg];split<;>rw[KD]
theorem Uv(fs:W7)(c:Nat->Bool)(n:Nat):xs fs c (n+1)=xs fs c n^^^(if c n then fs.getD n 0 else 0):=by
 show (if c n then _ else _)=_;split
 ·rfl
 ·rw[Ly]
theorem VJ{a:Nat}(h:a^^^b=0):a=b:=by
 have:(a^^^b)^^^b=0^^^b:=by rw[h]
 rwa [HJ,Lx,Ly,bB]at this
theorem qR{fs:W7}{c:Nat->Bool}:∀n,(∀j,j<n->fs.getD j 0<64)->xs fs c n<64
 | 0,_=>by show 0<64;decide
 | n+1,h=>by
  rw[Uv];refine Ih (n:=6) (qR n λj a=>h j (by omega)) ?_;split
  ·exact h n (by omega)
  ·decide
theorem qT{bs fs ss:W7}{c:Nat->Bool}:∀n,(∀j,j<n->fs.getD j 0<64)->(∀j,j<n->Sp bs (vv (fs.getD j 0) (ss.getD j 0)))->Sp bs (vv (xs fs c n) (xs ss c n))
 | 0,_,_=>by show Sp bs (vv 0 0);rw[show vv 0 0=0 from rfl];exact .zero
 | n+1,h,g=>by
  rw[Uv,Uv];have b:=qT (c:=c) n (λj a=>h j (by omega)) λj a=>g j (by omega);cases e:c n with
  | false=>simpa using b
  | true =>
   rw[if_pos rfl,if_pos rfl,sI (qR (c:=c) n λj a=>h j (by omega)) (h n (by omega))];exact b.xor (g n (by omega))
theorem fY{ms:List Dv.Ent}{m:Dv.Ent}{bs:W7}(I:Indep ms)(lt:∀r∈ms,r.2.1<64)(sp:∀r∈ms,Sp bs (vv r.2.1 r.2.2))(no:¬ Sp bs (vv m.2.1 m.2.2)):Indep (ms++[m]):=by
 intro c f d j l;rw[DQ,KQ]at f d l;have g:∀(g:Dv.Ent->Nat) (i:Nat),i<ms.length->((ms++[m]).map g).getD i 0=(ms.map g).getD i 0:=λg i hi=>by rw[CJ,Bb,N5 (by rw[Ax];exact hi),<-Bb]
 have k:∀(g:Dv.Ent->Nat),((ms++[m]).map g).getD ms.length 0=g m:=λg=>by simp
 have cf:xs (GD (ms++[m])) c ms.length=xs (GD ms) c ms.length:=Uk _ λi hi=>⟨Z,g _ i hi⟩;have n:xs (Fz (ms++[m])) c ms.length=xs (Fz ms) c ms.length:=Uk _ λi hi=>⟨Z,g _ i hi⟩;have f:xs (GD (ms++[m])) c ms.length^^^(if c ms.length then (GD (ms++[m])).getD ms.length 0 else 0)=0:=by rw[<-Uv];exact f
 have d:xs (Fz (ms++[m])) c ms.length^^^(if c ms.length then (Fz (ms++[m])).getD ms.length 0 else 0)=0:=by rw[<-Uv];exact d
 rw[cf]at f;rw[n]at d;have q:∀i,i<ms.length->∃r∈ms,(GD ms).getD i 0=r.2.1/\(Fz ms).getD i 0=r.2.2:=λi hi=>⟨ms[i],G5 hi,by simp[GD,hi],by simp[Fz,hi]⟩;cases e:c ms.length with
 | true =>
  rw[e,if_pos rfl]at f d;have p:(GD (ms++[m])).getD ms.length 0=m.2.1:=k _;have o:(Fz (ms++[m])).getD ms.length 0=m.2.2:=k _;rw[p]at f;rw[o]at d;have f1:xs (GD ms) c ms.length=m.2.1:=VJ f;have s1:xs (Fz ms) c ms.length=m.2.2:=VJ d;refine absurd ?_ no;rw[<-f1,<-s1];refine qT ms.length (λi hi=>?_) λi hi=>?_
  ·obtain⟨r,h,a,_⟩:=q i hi;rw[a];exact lt r h
  ·obtain⟨r,h,a,b⟩:=q i hi;rw[a,b];exact sp r h
 | false =>
  rw[e]at f d;have f:xs (GD ms) c ms.length=0:=by simpa using f
  have d:xs (Fz ms) c ms.length=0:=by simpa using d
  by_cases ej:j=ms.length
  ·rw[ej,e]
  ·exact I c f d j (by omega)
end GJ
set_option maxHeartbeats 4000000
namespace Ba
open L2 Am Pc
end Ba
namespace Xc
open Pc Dv Ez Fy Ba
open Fp (cm ev Tb VB V6)
variable {c:Nat}{f:Nat->A5}
structure Ok (c:Nat) (m:Mk):Prop where
 q:m.1<4
 f:m.2.1<2^c
 s:m.2.2<2^c
theorem Ok.v6{m:Mk}(hc:c<=6)(h:Ok c m):V6 m:=⟨CK h.f (Gn (by decide) hc),CK h.s (Gn (by decide) hc)⟩
end Xc
set_option maxHeartbeats 1000000
namespace sZ
open Pc Dv Ez Fy Fp
open Xc (Ok)
variable {c i:Nat}{ms:List Mk}
theorem bZ{j:Nat}(h:j<ms.length):ms.getD j (0,0,0)∈ms:=by
 rw[Bb,Bm h];exact G5 h
theorem mR{o:Mk}:∀(ms:List Mk) (a:Mk),cm o a=0->(∀m∈ms,cm o m=0)->cm o (ms.foldl mul a)=0
 | [],_,h,_=>h
 | m::ms,a,h,hm=>mR ms (mul a m) (by rw[rC,h,hm m Iu]) λn b=>hm n (Iv _ b)
theorem cj{o:Mk}(h:∀m∈ms,cm o m=0)(x:Nat):cm o (E ms x)=0:=by
 refine mR _ _ (by unfold cm;simp[Gy]) λm a=>?_;unfold chosen at a;obtain⟨p,hp,rfl⟩:=DY.mp a;exact h _ (bZ (Mu hp))
theorem X6x{o a b:Mk}(e:a.2=b.2):cm o a=cm o b:=by unfold cm;rw[e]
theorem oh:∀(n:Nat) {L:List Mk},L.length=n->(∀i m,L[i]?=some m->∃o:Mk,cm o m=1/\∀r∈L.take i,cm o r=0)->Indep L
 | 0,L,h,_=>λ_ _ _ j f=>absurd f (by omega)
 | n+1,L,h,ap=>by
  have e:L=L.take n++[L.getD n (0,0,0)]:=by
   have:L.take (n+1)=L:=Vu (by omega);rw[Ga,Bm (by omega)]at this;rw[Bb,Bm (by omega)];exact this.symm
  have lt:(L.take n).length=n:=by rw[Ft];omega
  have I:=oh n lt λi m c=>by
   have g:i<n:=by have:=(Cv.mp c).1;omega
   rw[SQ,if_pos g]at c;obtain⟨o,a,b⟩:=ap i m c;exact⟨o,a,λr d=>b r (by rw[List.take_take]at d;rwa [R4 (by omega)]at d)⟩
  obtain⟨o,a,b⟩:=ap n (L.getD n (0,0,0)) (by rw[Bb,Bm (by omega)];rfl);rw[e];refine fY I λx k q=>?_;have:=cj b x;rw[X6x q,a]at this;cases this
end sZ
set_option maxHeartbeats 4000000
namespace Dd
section
variable {prog:U8}{w:W1}{K:Type} [DecidableEq K] {knd:HeapKind prog w K}{A:Y0}{E:U2}{s:U7}
theorem X3n{d a:Y3}{xs:List (K×Addr×Value)}{k:K}{v:W3}{Q:U2}(hu:knd.room A)(hkey:knd.is s.heap k a)(hm:s.heap.DictOfH knd d xs)
  (old:∀p,atKey xs k=some p->Q p.2 {s with toks:=s.toks+knd.draws k})
  (new:atKey xs k=none->∀h',h'.DictOfH knd d (storedH xs k a v)->Heap.SameBut d s.heap h'->Q v {s with heap:=h',toks:=s.toks+knd.draws k}) (hz:xs.length<=sizeLine):wpAny (model prog w) A (dictSetDefault d (.ref a) v) Q E s:=by
 obtain⟨o,es,ep,f,r,c,i,g,l⟩:=hm;unfold dictSetDefault;try with_reducible refine G4 ?_
 refine Af (knd.pyHash hu hkey (Af (wpAny_dictFind_heap (s:={s with toks:=s.toks+knd.draws k}) hu hkey f c i g l (λh=>?_) λj p m=>?_)))
 ·have b:=atKey_none_of_get h;have free:k∉xs.map (·.1):=not_mem_keys_of_get h
  refine Af (wpAny_rule (Af (wpAny_updateDictKeys (hz:=by have q:=size_of_entries i;omega) (s:={s with toks:=s.toks+knd.draws k}) f c (Aq (new b _ ⟨_,_,ep+1,KN _ f (Obj.isFreed_of_dict (Obj.data_mapDictKeys c _)),
   r.mapDictKeys _,Obj.data_mapDictKeys c _,?_,?_,?_⟩ (Heap.SameBut.update ..))))))
  ·rw[storedH_new b];simp[i,entryOfKey]
  ·rw[storedH_new b];intro x e;rcases E_.mp e with e | e
   ·exact knd.keeps (g x e) f c (Heap.SameBut.update ..)
   ·rw[Dg.mp e];exact knd.keeps hkey f c (Heap.SameBut.update ..)
  ·rw[storedH_new b,CJ,List.nodup_append];refine⟨l,by simp,λx e y n=>?_⟩;rw[List.map_singleton,Dg]at n;subst n;exact λz=>free (z ▸ e)
 ·refine Af (QH (s:={s with toks:=s.toks+knd.draws k}) f c ?_);rw[entry_at i j,m];exact Af (wpAny_rule (Aq (old p (atKey_of_get l m))))
end
end Dd
namespace L2
section
variable {X:Cx}{pins:U1}{σ:St}{H:Hp}{s:U7}{a b:Y3}{v:V}{r:W3}{A:Y0}{E:U2}
theorem vM{kvs:List (List Key×V)}{k:List Key}{Q:U2}(hu:A.units+1<cLine)(I:Inv X pins σ H s)(e:H a=some (.dT kvs))(eb:H b=some (.tup (k.map kV)))(hl:kvs.length<sizeLine)(rv:RelV v r)
  (old:∀y w' s',Bl kvs k=some y->Inv X pins σ H s'->RelV y w'->Q w' s') (new:Bl kvs k=none->∀s',Inv X pins σ (upd H a (.dT (putK kvs k v))) s'->Q r s'):
  wpAny (model X.prog X.w) A (call (.builtin "dict.setdefault") [.ref a,.ref b,r]) Q E s:=by
 obtain⟨z,l,xs,f,dd⟩:=Ws I.hok e;have hz:xs.length<=sizeLine:=by rw[<-Paired.length f];exact z
 have g:(putK kvs k v).length<=sizeLine:=by have:=gB kvs k v;omega
 have ty:=dd.typeIs;have d:Eo (Bl kvs k) ((atKey xs k).map (·.2)):=f.val k;refine K1 jd ty PySem.F.entry_dict_setdefault ?_ (PySem.F.args_dict_setdefault_3 _ _ _);unfold Builtin.«dict.setdefault» Builtin.Dict.keyAndDefault;refine Af (Af (Yi ty (Aq ?_)));show wpAny _ _ (if (a == sysModules)=true then _ else (dictSetDefault a (.ref b) r >>= _)) _ _ s;rw[if_neg (by rw[l];decide)];refine Af (Dd.X3n (v:=r) (Vp hu) (UG I.hok eb) dd (λp hp=>?_) (λhp h' h n=>?_) hz)
 ·rw[hp]at d;cases q:Bl kvs k with
  | none=>rw[q]at d;exact d.elim
  | some y =>
   rw[q]at d;exact Aq ⟨_,Z,old y _ _ q (I.tok _) d⟩
 ·rw[hp]at d;cases q:Bl kvs k with
  | some y=>rw[q]at d;exact d.elim
  | none =>
   refine Aq ⟨_,Z,new q _ ?_⟩;obtain⟨q,es,ep,j,h2,o,t,_,m⟩:=h;refine gY I (by rw[e];exact True.intro) n ⟨q,j⟩ ⟨g,l,_,(f.put k eb rv).keeps λc ys i=>?_,q,es,ep,j,h2,o,t,m⟩;rw[BK (LC i e (λz=>nomatch z))];exact i
end
def RQ (td ty tx:TE):TE:=λσ H Q=>td σ H λx H1=>∃a,x=.ref a/\su H1 a/\ty σ H1 λy H2=>tx σ H2 λz H3=>∃kvs k b,H3 a=some (.dT kvs)/\y=.ref b/\H3 b=some (.tup (k.map kV))/\kvs.length<sizeLine /\
 (∀u,Bl kvs k=some u->Q u H3)/\(Bl kvs k=none->Q z (upd H3 a (.dT (putK kvs k z))))
section
variable {X:Cx}{o e f:Expr}{apos cpos:Pos}{td ty tx:TE}
theorem nR(hu:X.A.units+1<cLine)(ho:PE X o td)(he:PE X e ty)(hf:PE X f tx)(m:M2 X o "setdefault" apos e f cpos):PE X (.Call (.Attribute o "setdefault" apos) [e,f] [] cpos) (RQ td ty tx):=by
 intro pins s σ H Q I h;refine wpAny_Call_method m.base m.few m.line jO jd PySem.F.type_dict_setdefault (A_ (ho pins s σ H _ I h) λu s1 ⟨x,H1,i,B,a,ex,d,G⟩=>?_);subst ex;obtain rfl:u=Value.ref a:=B;obtain⟨n,t2,_⟩:=X6n i d;refine⟨n,t2,?_⟩;rw[m.trees]
 refine Calls.callWith_builtin rfl (Calls.evalArgs_plain (Calls.spliced_cons (A_ (he pins s1 σ H1 _ i G) λl J ⟨y,H2,C,r,t⟩ =>
  Calls.spliced_cons (A_ (hf pins J σ H2 _ C t) λL M ⟨z,p,I3,j,kvs,k,b,v,w,E,K,g,new⟩=>Calls.spliced_nil ?_))))
 subst w;obtain rfl:l=Value.ref b:=r;exact vM hu I3 v E K j (λy N s' q c D=>⟨y,p,c,D,g y q⟩) λq s' c=>⟨z,_,c,j,new q⟩
def X1y:V->List V->Hp->VK->Prop:=λx vs H Q=>∃l xs y,∃k:Nat,x=.ref l/\vs=[.int k,y]/\H l=some (.lst xs)/\k<=xs.length/\k<1000/\xs.length<sizeLine/\Q .non (upd H l (.lst (xs.take k++[y]++xs.drop k)))
theorem yC:Xb X "list.insert" X1y:=by
 intro pins s σ H x vs v us Q I p o h;obtain⟨l,xs,y,k,rfl,rfl,f,A,h1,hz,q⟩:=h;cases p;obtain⟨u,d,rfl,m,b⟩:=Vals.two o;obtain⟨t,rfl⟩:=m;obtain⟨z,its,n,r,B,e⟩:=I.lstM f;have c:Builtin.List.listFitsIndex (k:Int)=true:=bQ (by omega) (by omega);have j:¬ (!Builtin.List.listFitsIndex (k:Int))=true:=by rw[c];decide
 have sz:its.toArray.size<=sizeLine:=by rw[Ci];omega
 have M:=@PySem.AutoSeq1.list_insert_list_int_val_1 l its.toArray n (k:Int) t d j sz;have i:=PySem.F.args_list_insert_3 (.ref l) (.int (k:Int) t) d;have g:=PySem.F.entry_list_insert;generalize Builtin.«list.insert»=bb at M g;refine Nj F.slot_list_insert ⟨_,e,Z⟩ g i M ⟨e,?_⟩;refine⟨.non,_,I.lset (its':=its.take k++[d]++its.drop k) f e ?_ ((r.take k).append (.cons b .nil) |>.append (r.drop k)) ?_,Z,q⟩
 ·show _=_;have a:k<=its.length:=by omega
  have w:(if (k:Int)<0 then ((k:Int)+(its.toArray.size:Int)).toNat else min (k:Int).toNat its.toArray.size)=k:=by rw[if_neg (by omega),Ci,Ej,R4 a]
  dsimp only;rw[w];apply Array.toList_inj.mp;simp;exact Vu (by rw[QB];omega)
 ·simp only[DQ,Ft,QB,KQ];omega
end
end L2
namespace Di
open Dk (Raw)
abbrev Gg (h:Heap)(it d:Y3)(i n ep:Nat)(f0 f1 x y:W3):Prop:=h.get? it=some { cls:=.type "dict_itemiterator",dict:=none,data:=.fields #[f0,f1,.ref d,.int i 0,.int n 0,.int ep 0,x,y],slots:=#[]}
def Mx (h:Heap)(f0:W3):Prop:=f0=.none\/∃(a:Y3) (o:Obj),f0=rawInt a/\h.get? a=some o
theorem Mx.up{h h':Heap}{f0:W3}(f:Mx h f0)(k:∀b o,h.get? b=some o->∃o',h'.get? b=some o'):Mx h' f0:=by
 rcases f with f | ⟨a,o,f,e⟩
 ·exact .inl f
 ·obtain⟨o',c⟩:=k a o e;exact .inr ⟨a,o',f,c⟩
noncomputable abbrev Cw (e:DictEntry):Obj:={ cls:=.type "tuple",data:=.seq #[e.key,e.val]}
section
variable {prog:U8}{w:W1}{A:Y0}{E:U2}{s:U7}{d it:Y3}{es:Array DictEntry}{i ep:Nat}{f0 f1 x y:W3}
theorem pair{Q:U2}{n:Nat}(e:DictEntry)(hit:Gg s.heap it d i n ep f0 f1 x y)(fo:Mx s.heap f0)
  (go:∀h' g0 g1 v u,Gg h' it d i n ep g0 g1 v u->Mx h' g0->h'.get? s.heap.objs.size=some (Cw e)->h'.objs.size=s.heap.objs.size+1->(∀b o,b≠it->s.heap.get? b=some o->h'.get? b=some o)->Q (.ref s.heap.objs.size) {s with heap:=h'}):
  wpAny (model prog w) A (Builtin.Dict_items.pairFromOwner (.ref it) 6 e.key e.val) Q E s:=by
 obtain⟨hp,g,J,tk,os⟩:=s;unfold Builtin.Dict_items.pairFromOwner;refine Af (wpAny_newTuple ?_);have lt:it<hp.objs.size:=BP hit;have k:Gg (hp.push (Cw e)) it d i n ep f0 f1 x y:=CG _ hit;have G:(hp.push (Cw e)).get? hp.objs.size=some (Cw e):=Ek _ rfl;have hz:(hp.push (Cw e)).objs.size=hp.objs.size+1:=Vc _ _;have t:∀b o,hp.get? b=some o->(hp.push (Cw e)).get? b=some o:=λb o q=>CG _ q;show wpAny _ _ (Builtin.Dict_items.ownedTupleIsFree (.ref it) >>= _) _ _ ⟨hp.push (Cw e),g,J,tk,os⟩;generalize hp.push (Cw e)=h2 at k G hz t ⊢;have j:∀{h:Heap}{b:Y3},Heap.SameBut it h2 h->b≠it->h.get? b=h2.get? b:=λ{h b} l m=>l.2 b m;have r:∀h g0 g1 v u,Gg h it d i n ep g0 g1 v u->Heap.SameBut it h2 h->(g0=.none\/∃(a:Y3) (o:Obj),g0=rawInt a/\h2.get? a=some o)->Q (.ref hp.objs.size) ⟨h,g,J,tk,os⟩:=λh g0 g1 v u q l f=>by
  refine go h g0 g1 v u q ?_ ((j l (Hu lt)).trans G) (by show h.objs.size=hp.objs.size+1;rw[l.1,hz]) λb o m q=>(j l m).trans (t b o q);rcases f with f | ⟨a,o,f,e⟩
  ·exact .inl f
  ·by_cases z:a=it
   ·subst z;exact .inr ⟨_,_,f,q⟩
   ·exact .inr ⟨a,o,f,(j l z).trans e⟩
 refine Af ?_;unfold Builtin.Dict_items.ownedTupleIsFree;rcases fo with rfl | ⟨a,o,rfl,ha⟩
 ·refine Af (Ku k rfl (x:=.none) rfl (Aq ?_));simp only[Gj];refine Af (Ku k rfl (x:=x) rfl (Af (Ku k rfl (x:=y) rfl ?_)));refine Af (QJ k (by simp) λh p B=>?_);have p:Gg h it d i n ep .none f1 e.key y:=p;refine Af (QJ p (by simp) λM F H=>?_);have F:Gg M it d i n ep .none f1 e.key e.val:=F;refine Af (QJ F (by simp) λL D K=>?_);have D:Gg L it d i n ep (rawInt hp.objs.size) f1 e.key e.val:=D;refine Af (QJ D (by simp) λh6 C I=>?_);have C:Gg h6 it d i n ep (rawInt hp.objs.size) (.bool false) e.key e.val:=C;have l:Heap.SameBut it h2 h6:=⟨by rw[I.1,K.1,H.1,B.1],λb m=>by rw[I.2 b m,K.2 b m,H.2 b m,B.2 b m]⟩;exact Af (wpAny_letGo (Aq (r h6 _ _ _ _ C l (.inr ⟨_,_,Z,G⟩))))
 ·refine Af (Ku k rfl (x:=rawInt a) rfl ?_);show wpAny _ _ (loadIfAlive ((a:Int).toNat) >>= _) _ _ _;rw[Ej];refine Af (PySem.W.kdx_alive (t a o ha) ?_);simp only[Option.isNone_some,JN,FW];refine Af (Ku k rfl (x:=f1) rfl ?_);by_cases c:(f1 != Value.bool true)=true
  ·rw[if_pos c];refine Af (QJ k (by simp) λh p B=>?_);have p:Gg h it d i n ep (rawInt a) (.bool true) x y:=p;refine Aq ?_;simp only[JN,FW];exact Aq (r h _ _ _ _ p B (.inr ⟨a,o,Z,t a o ha⟩))
  ·rw[if_neg c];refine Aq ?_;simp only[JN,FW];exact Aq (r h2 _ _ _ _ k (Heap.SameBut.refl _ _) (.inr ⟨a,o,Z,t a o ha⟩))
theorem step{Q:Option Value->Shared->Prop}(hh:es[i]?=none->A.handled=none)(hit:Gg s.heap it d i es.size ep f0 f1 x y)(fo:Mx s.heap f0)(R:Raw s.heap d es ep)
  (go:∀(lt:i<es.size) h' g0 g1 l j,Gg h' it d (i+1) es.size ep g0 g1 l j->Mx h' g0->h'.get? s.heap.objs.size=some (Cw es[i])->h'.objs.size=s.heap.objs.size+1->(∀b o,b≠it->s.heap.get? b=some o->h'.get? b=some o)->Q (some (.ref s.heap.objs.size)) {s with heap:=h'})
  (stop:∀h',es.size<=i->Heap.ExtBut it s.heap h'->Q none {s with heap:=h'}):wpAny (model prog w) A (pyNext (.ref it)) Q E s:=by
 obtain⟨od,h,u,e⟩:=id R;have ty:s.TypeIs (.ref it) "dict_itemiterator":=⟨_,hit,Z⟩;unfold pyNext;refine Af (Rw (Yp (name:=Str.ofString "__next__") ty F.slot_dict_itemiterator_next (K1 F.slot_dict_itemiterator_next ty F.entry_dict_itemiterator_next ?_ (F.args_dict_itemiterator_next_1 _))));refine Af (Aq (Af (Af ?_)));first | refine Af (Yw ty (Aq (Af (Vd hit rfl ?_)))) | refine Af (Yu ty (Aq (Af (Vd hit rfl ?_))))
 simp only[show Builtin.Dict_items.ownsTuple "dict_itemiterator"=true by decide,Gj];show wpAny _ _ (if (Value.ref d == Value.none)=true then _ else _) _ _ s;rw[if_neg (show ¬ ((Value.ref d == Value.none)=true) from Fv)];refine Af (Aq (Af (QH h e ?_)));rw[if_neg (by simp)];refine Af (Aq (Af (Vg h e ?_)));rw[if_neg (by simp)];refine Aq ?_;rcases Rp i es.size with c | c
 ·simp only[show ¬ ((i:Int)<0) by omega,FW,Ej,Yt c];refine Af ?_;first | refine Af (Yw ty (Aq (Af (Vv ty ?_)))) | refine Af (Yu ty (Aq (Af (Vv ty ?_))))
  show wpAny _ _ (setField (.ref it) 3 (rawInt ((i:Int)+1)) >>= _) _ _ s;refine Af (QJ hit (by simp) λh1 g s1=>?_);have g:Gg h1 it d (i+1) es.size ep f0 f1 x y:=by show _=some (Obj.mk _ _ _ _);rw[show ((i+1:Nat):Int)=(i:Int)+1 by omega];simpa [rawInt] using g
  have s1:Heap.SameBut it s.heap h1:=s1;have f:Shared.TypeIs {s with heap:=h1} (.ref it) "dict_itemiterator":=⟨_,g,Z⟩;refine Af (G4 (Af (Vv f (Af (Vv f ?_)))));have r:h1.objs.size=s.heap.objs.size:=s1.1;show wpAny _ _ (Builtin.Dict_items.pairFromOwner (.ref it) 6 es[i].key es[i].val) _ _ {s with heap:=h1};refine pair (s:={s with heap:=h1}) es[i] g (fo.up λb o q=>?_) λh2 g0 g1 l j t v t2 k k2=>?_
  ·by_cases z:b=it
   ·subst z;exact⟨_,g⟩
   ·exact⟨o,(s1.2 b z).trans q⟩
  ·dsimp only at t2 k k2 ⊢;rw[r]at t2 k ⊢;exact Aq ⟨_,Z,Aq (go c h2 g0 g1 l j t v t2 k λb o n q=>k2 b o n ((s1.2 b n).trans q))⟩
 ·have p:=hh (Vt c);simp only[show ¬ ((i:Int)<0) by omega,FW,Ej,Vt c];refine Af ?_;first | refine Af (Yw ty (Aq ?_)) | refine Af (Yu ty (Aq ?_))
  show wpAny _ _ (setField (.ref it) 2 .none >>= _) _ _ s;refine Af (Rz hit rfl (by simp) ?_);show wpAny _ _ (newExc (.type "StopIteration") [] >>= _) _ _ _;refine Af ?_;simp only[newExc,newTuple];refine Af (Js ?_ (by size_fits));refine Af (m:=firstArgMember _ _) (V5 (a:=Value.none) (by first | rfl | (simp only[firstArgMember];rfl)) ?_);refine Js ?_ (by size_fits);simp only[raiseNew];refine Af (wpAny_handled ?_);rw[show A.in1.handled=none from p];refine Af (Aq (wpAny_throw ?_));refine Af (wpAny_isInstance (T:="StopIteration") (b:=true) ⟨_,Ek _ rfl,Z⟩ isSubtype_stop ?_);exact Aq (stop _ c (((Heap.SameBut.update ..).extBut.push _).push _))
structure iW (es:Array DictEntry) (lo:Y3) (h:Heap) (as:U3):Prop where
 rise:as.Pairwise (·<·)
 above:∀a∈as,lo<a
 pairs:∀(j:Nat) (a:Y3),as[j]?=some a->∃e,es[j]?=some e/\h.get? a=some (Cw e)
theorem loop{S I:Y3}{R:Result->Shared->Prop}(hh:A.handled=none)(SI:S<I)(dS:d≠S)(dI:d≠I)(hn:es.size<=sizeLine)(res:W3){h1:Heap}
  (hR:∀h' tk acc c as,(∀b o,b≠S->b≠I->h1.get? b=some o->h'.get? b=some o)->h'.get? S=some { cls:=.type "list",dict:=none,data:=.seq acc c,slots:=#[]}->as.length=es.size->iW es I h' as->acc.toList=as.map Value.ref->R (.ok (.ret res)) {s with heap:=h',toks:=tk}):
  ∀(k i:Nat) (h:Heap) (tk c:Nat) (acc:U9) (as:U3) (f0 f1 x y:W3),es.size-i=k->i<=es.size->Gg h I d i es.size ep f0 f1 x y->Mx h f0->Raw h d es ep->(∀b o,b≠S->b≠I->h1.get? b=some o->h.get? b=some o) ->
   h.get? S=some { cls:=.type "list",dict:=none,data:=.seq acc c,slots:=#[]}->acc.toList=as.map Value.ref->as.length=i->iW es I h as ->
   codeAny (model prog w) A (.builtin "list.extend.loop" ⟨[.ref S,.ref I,res],[]⟩) R {s with heap:=h,toks:=tk}:=by
 have F:S≠I:=B_ SI;intro k;induction k with
 | zero =>
  intro i h tk c acc as f0 f1 x y Q hi r L E l C f p G;refine P0 jT ?_;rw[Around.under_plainId Sy _];refine Af (m:=pyNext (.ref I)) (step (s:={s with heap:=h,toks:=tk}) (A:=A.in1) (λ_=>hh) r L E (λlt=>absurd lt (by omega)) λh' _ M=>Aq (hR h' tk acc c as (λb o D B q=>M b o B (l b o D B q)) (M S _ F C) (by omega) ⟨G.rise,G.above,λj a g=>?_⟩ f));obtain⟨e,N,K⟩:=G.pairs j a g;exact⟨e,N,M a _ (Hu (G.above a (Dz g))) K⟩
 | succ k ih =>
  intro i h tk c acc as f0 f1 x y Q hi r L E l C f p G;have sz:acc.size=i:=by rw[<-HN,f,Ax,p]
  refine P0 jT ?_;rw[Around.under_plainId Sy _];refine Af (m:=pyNext (.ref I)) (step (s:={s with heap:=h,toks:=tk}) (A:=A.in1) (λ_=>hh) r L E (λlt h' g0 g1 U T J H O hz n=>?_) λh' c _=>absurd c (by omega));dsimp only at O hz n ⊢;have u:=n S _ F C;have up:∀b o,b≠S->h'.get? b=some o->(h'.update S (Obj.mapSeq (·.push (Value.ref h.objs.size)))).get? b=some o:=λb o t q=>(KR _ _ (Ne.symm t)).trans q;have V:S<h.objs.size:=BP C;have P:I<h.objs.size:=BP r
  refine Af (m:=updateSeq S (·.push (Value.ref h.objs.size))) (YF u rfl (Aq ⟨Rv Sy _,ih (i+1) _ tk _ (acc.push (Value.ref h.objs.size)) (as++[h.objs.size]) g0 g1 U T (by omega) lt (up I _ (Ne.symm F) J) (H.up λb o q=>?_)
   (E.at λo q=>up d o dS (n d o dI q)) (λb o D B q=>up b o D (n b o B (l b o D B q))) (KN _ u rfl) (by rw[Array.toList_push,f,CJ];rfl) (by rw[DQ,p];rfl) ⟨?_,?_,?_⟩⟩) (by rw[sz];omega) (by show (acc.push (Value.ref h.objs.size)).size<=sizeLine+1;rw[Array.size_push,sz];omega))
  ·by_cases z:b=S
   ·subst z;exact⟨_,KN _ u rfl⟩
   ·exact⟨o,up b o z q⟩
  ·refine Yb.mpr ⟨G.rise,Ym _ _,λa v b t=>?_⟩;rw[Dg.mp t];obtain⟨j,g⟩:=Ny.mp v;obtain⟨e,_,q⟩:=G.pairs j a g;exact BP q
  ·intro a v;rcases E_.mp v with v | v
   ·exact G.above a v
   ·rw[Dg.mp v];exact P
  ·intro j b g;rcases Vj j as.length with c1 | c1 | c1
   ·rw[N5 c1]at g;obtain⟨e,N,K⟩:=G.pairs j b g;have t:=G.above b (Dz g);exact⟨e,N,up b _ (Hu (Jr SI t)) (n b _ (Hu t) K)⟩
   ·subst c1;have t:h.objs.size=b:=by simpa using g
    subst t;exact⟨es[i],by rw[p];exact Yt lt,up _ _ (Hu V) O⟩
   ·rw[Vs (by rw[DQ,KQ];omega)]at g;cases g
noncomputable abbrev view (d:Y3):Obj:={ cls:=.type "dict_items",data:=.fields #[.ref d]}
theorem vL{r:Y3}{Q:List Value->Shared->Prop}(hh:A.handled=none)(hv:s.heap.get? r=some (view d))(R:Raw s.heap d es ep)(hn:es.size<=sizeLine)
  (h:∀(h':Heap) (tk:Nat) (as:U3),(∀b o,s.heap.get? b=some o->h'.get? b=some o)->s.heap.objs.size<h'.objs.size->as.length=es.size->iW es s.heap.objs.size h' as->Q (as.map Value.ref) {s with heap:=h',toks:=tk}):
  wpAny (model prog w) A (collect (.ref r)) Q E s:=by
 obtain⟨od,u,L,k⟩:=id R;have lr:r<s.heap.objs.size:=BP hv;have B:d<s.heap.objs.size:=BP u;have up:∀b o,s.heap.get? b=some o->(s.heap.push (seqObj "list" #[] 0)).get? b=some o:=λb o e=>CG _ e;unfold collect;refine Af (wpAny_runValue (P0 entry_proto_collect' ?_));rw[Around.under_plainId jc _];show wpAny _ A.in1 (newList [] >>= λl=>again (.builtin "list.__iadd__" ⟨[l,.ref r],[]⟩)) _ _ s;refine Af (Rx (Aq ⟨Rv Vx _,P0 entry_list_iadd' ?_⟩));rw[Around.under_plainId Vx _];have C:(s.heap.push (seqObj "list" #[] 0)).get? s.heap.objs.size=some (seqObj "list" #[] 0):=Ek _ rfl;show wpAny _ _ (Builtin.List.listExtendWith (.ref s.heap.objs.size) (.ref r) (.ref s.heap.objs.size)) _ _ {s with heap:=s.heap.push (seqObj "list" #[] 0)};have O:(s.heap.push (seqObj "list" #[] 0)).objs.size=s.heap.objs.size+1:=Vc _ _;have f:=up _ _ hv;have i:=up _ _ u;generalize s.heap.push (seqObj "list" #[] 0)=h0 at C up O f i ⊢;unfold Builtin.List.listExtendWith;refine Af (wpAny_typeOf (s:={s with heap:=h0}) (T:="dict_items") ⟨_,f,Z⟩ ?_);rw[if_neg (by simp[Builtin.List.listSameRef,Hu lr])];have ty:Shared.TypeIs {s with heap:=h0} (.ref r) "dict_items":=⟨_,f,Z⟩;refine Af (wpAny_pyIter_slot ty F.slot_dict_items_iter (K1 F.slot_dict_items_iter ty F.entry_dict_items_iter ?_ (F.args_dict_items_iter_1 _)));unfold Builtin.«dict_items.__iter__»;refine Af (Aq (Af ?_));unfold Builtin.Dict_items.dictOf;refine Af (Ku f rfl (x:=.ref d) rfl (Aq (Af ?_)));unfold Builtin.Dict_items.newIterator;refine Af (QH i k (Af (Vg i k ?_)));simp only[show Builtin.Dict_items.ownsTuple "dict_itemiterator"=true by decide,Gj];refine Js (Aq ⟨_,Z,"dict_itemiterator",_,⟨_,Ek _ rfl,Z⟩,F.slot_dict_itemiterator_next.lookup,?_⟩) (by simp only[sizeOk,Builtin.Dict_items.ownedTupleFields,Ci,DQ,Hv,Ky,Nm];omega);simp only[rawInt,Builtin.Dict_items.ownedTupleFields,List.cons_append,List.nil_append];have V:∀o:Obj,(h0.push o).get? s.heap.objs.size=some (seqObj "list" #[] 0):=λo=>CG _ C;simp only[JN,FW];have P:(h0.push { cls:=Value.type "dict_itemiterator",data:=Data.fields #[Value.none,Value.bool false,Value.ref d,Value.int 0 0,Value.int es.size 0,Value.int ep 0,Value.none,Value.none]}).get? h0.objs.size=_:=Ek _ rfl;have t:∀b o,h0.get? b=some o->(h0.push { cls:=Value.type "dict_itemiterator",data:=Data.fields #[Value.none,Value.bool false,Value.ref d,Value.int 0 0,Value.int es.size 0,Value.int ep 0,Value.none,Value.none]}).get? b=some o:=λb o q=>CG _ q;show wpAny _ _ _ _ _ {s with heap:=h0.push { cls:=Value.type "dict_itemiterator",data:=Data.fields #[Value.none,Value.bool false,Value.ref d,Value.int 0 0,Value.int es.size 0,Value.int ep 0,Value.none,Value.none]}};generalize h0.push { cls:=Value.type "dict_itemiterator",data:=Data.fields #[Value.none,Value.bool false,Value.ref d,Value.int 0 0,Value.int es.size 0,Value.int ep 0,Value.none,Value.none]}=h1 at P t ⊢;clear V;have p:∀(h:Heap) (y tk:Nat),(∀b o,b≠s.heap.objs.size->h1.get? b=some o->h.get? b=some o)->h.get? s.heap.objs.size=some { cls:=.type "list",dict:=none,data:=.seq #[] y,slots:=#[]} ->
   codeAny (model prog w) A (.builtin "list.extend.loop" ⟨[.ref s.heap.objs.size,.ref h0.objs.size,.ref s.heap.objs.size],[]⟩) (λq s'=>match q with
       | Except.ok (Flow.ret v) =>
        wpAny (model prog w) A
         (match v with
         | Value.ref a=>do
          let __do_lift ← load a
          match __do_lift.data with
           | Data.seq xs epoch=>pure xs.toList
           | x=>unsupported "internal:collect"
         | x=>unsupported "internal:collect")
         Q E s'
       | Except.ok a=>False
       | Except.error e=>E e s') {s with heap:=h,toks:=tk}:=by
  intro X y tk G H;have g:s.heap.objs.size<h0.objs.size:=by rw[O];exact QD _
  refine loop (s:=s) (S:=s.heap.objs.size) (I:=h0.objs.size) (es:=es) (ep:=ep) (h1:=s.heap) hh g (B_ B) (B_ (Jr B g)) hn (.ref s.heap.objs.size) (λh' D acc c as Y n hl z m=>?_) es.size 0 X tk y #[] [] .none (.bool false) .none .none (Nat.sub_zero _) (FZ _) (G _ _ (Hu g) P) (.inl rfl) ⟨od,G _ _ (B_ B) (t _ _ i),L,k⟩
   (λb o h1 _ q=>G b o h1 (t b o (up b o q))) H rfl rfl ⟨List.Pairwise.nil,(λ_ J=>nomatch J),(λj a U=>by simp at U)⟩
  refine Af (V2 n (Aq ?_));show Q acc.toList _;rw[m];refine h h' D as (λb o q=>Y b o (B_ (BP q)) (B_ (Jr (BP q) g)) q) (BP n) hl ⟨z.rise,λa J=>Jr g (z.above a J),z.pairs⟩
 have K:=t _ _ C;refine Af (G4 (PySem.W.kdx_hint ⟨_,t _ _ f,Z⟩ ?_));refine wpAny_ite_split (λ_=>?_) (λ_=>Aq ⟨Rv Sy _,p _ 0 _ (λb o _ e=>e) K⟩);refine Af (wpAny_rule (Af ?_));show wpAny _ _ (updateSeq s.heap.objs.size (·.push .none) >>= λ_=>updateSeq s.heap.objs.size (·.pop)) _ _ _;refine Af (YF K rfl ?_);have M:=KN (Obj.mapSeq (·.push Value.none)) K rfl;refine YF (hz:=by seq_fits) M rfl ?_;have a3:=KN (Obj.mapSeq (·.pop)) M rfl;exact Aq ⟨Rv Sy _,p _ _ _ (λb o N e=>(KR _ _ (Ne.symm N)).trans ((KR _ _ (Ne.symm N)).trans e)) a3⟩
end
end Di
namespace Sr
open PySem.W
variable {cmp:Nat->Nat->(Bool->Shared->Prop)->Shared->Prop}{z:Nat->Int}{n:Nat}{s:U7}{p:Array Nat}
def Kh (cmp:Nat->Nat->(Bool->Shared->Prop)->Shared->Prop)(z:Nat->Int)(n:Nat)(s:U7):Prop:=∀i j C,i<n->j<n->C (decide (z i<z j)) s->cmp i j C s
noncomputable def kz (z:Nat->Int)(p:Array Nat)(i:Nat):Int:=z (p.getD i 0)
structure Pm (p:Array Nat) (n:Nat):Prop where
 size:p.size=n
 perm:p.toList.Perm (List.range n)
variable{i:Nat}
theorem JZ(h:i<p.size):p.getD i 0=p[i]:=by simp[Array.getD,h]
theorem Pm.lt(h:Pm p n)(hi:i<n):p.getD i 0<n:=by
 have a:i<p.size:=by rw[h.size];exact hi
 rw[JZ a];exact Fb.mp (h.perm.mem_iff.mp (Array.getElem_mem_toList a))
theorem Pm.inj(h:Pm p n){j:Nat}(hi:i<n)(hj:j<n)(e:p.getD i 0=p.getD j 0):i=j:=by
 have h1:i<p.size:=by rw[h.size];exact hi
 have h2:j<p.size:=by rw[h.size];exact hj
 rw[JZ h1,JZ h2,<-QL,<-QL]at e;have a:p.toList.Nodup:=h.perm.nodup_iff.mpr List.nodup_range;have g:=K5.mp a;rcases Vj i j with q | q | q
 ·exact absurd e (g i j _ _ q)
 ·exact q
 ·exact absurd e.symm (g j i _ _ q)
def Up (z:Nat->Int)(p:Array Nat)(m:Nat):Prop:=∀i j,i<j->j<m->kz z p i<kz z p j
def Dn (z:Nat->Int)(p:Array Nat)(m:Nat):Prop:=∀i j,i<j->j<m->kz z p j<kz z p i
def Km (z:Nat->Int)(n:Nat):Prop:=∀i j,i<n->j<n->z i=z j->i=j
theorem Yz(d:Km z n)(h:Pm p n){j:Nat}(hi:i<n)(hj:j<n)(ij:i≠j):kz z p i≠kz z p j:=λe=>ij (h.inj hi hj (d _ _ (h.lt hi) (h.lt hj) e))
theorem asc(o:Kh cmp z n s)(d:Km z n)(h:Pm p n){Q:Nat->Shared->Prop}:∀f a,1<=a->a+f<=n->Up z p a->(∀m,a<=m->m<=a+f->Up z p m->(m=a+f\/kz z p m<kz z p (m-1))->Q m s)->(kas_asc p f a).kasWp cmp Q s
 | 0,a,_,_,u,q=>q a (Bf _) (Bf _) u (.inl rfl)
 | f+1,a,a1,an,u,q=>by
  refine o _ _ _ (h.lt (by omega)) (h.lt (by omega)) ?_;by_cases c:z (p.getD a 0)<z (p.getD (a-1) 0)
  ·rw[DK c];exact q a (Bf _) (by omega) u (.inr c)
  ·rw[Df c];refine asc o d h f (a+1) (by omega) (by omega) (λi j g r=>?_) (λm h1 h2 b k=>q m (by omega) (by omega) b (by rw[show a+(f+1)=a+1+f by omega];exact k));by_cases e:j=a
   ·subst e;have k1:=Yz d h (i:=j) (j:=j-1) (by omega) (by omega) (by omega);have l:¬ kz z p j<kz z p (j-1):=c;by_cases e2:i=j-1
    ·subst e2;omega
    ·have:=u i (j-1) (by omega) (by omega);omega
   ·exact u i j g (by omega)
theorem desc(o:Kh cmp z n s)(d:Km z n)(h:Pm p n){Q:Array Nat×Nat×Nat->Shared->Prop}:∀f a,1<=a->a+f<=n->Dn z p a->(∀m,a<=m->m<=a+f->Dn z p m->Q (p,m,0) s)->(kas_desc f p a 0).kasWp cmp Q s
 | 0,a,_,_,u,q=>q a (Bf _) (Bf _) u
 | f+1,a,a1,an,u,q=>by
  refine o _ _ _ (h.lt (by omega)) (h.lt (by omega)) ?_;have k1:=Yz d h (i:=a) (j:=a-1) (by omega) (by omega) (by omega);by_cases c:z (p.getD a 0)<z (p.getD (a-1) 0)
  ·rw[DK c];refine desc o d h f (a+1) (by omega) (by omega) (λi j g r=>?_) (λm h1 h2 b=>q m (by omega) (by omega) b);by_cases e:j=a
   ·subst e;have k:kz z p j<kz z p (j-1):=c;by_cases e2:i=j-1
    ·subst e2;omega
    ·have:=u i (j-1) (by omega) (by omega);omega
   ·exact u i j g (by omega)
  ·rw[Df c];refine o _ _ _ (h.lt (by omega)) (h.lt (by omega)) ?_;have k:¬ kz z p a<kz z p (a-1):=c;have l:z (p.getD (a-1) 0)<z (p.getD a 0):=(show kz z p (a-1)<kz z p a by omega);rw[DK l];exact q a (Bf _) (by omega) u
variable{m:Nat}
theorem rU(hm:m<=p.size):(kas_rev p 0 m).getD i 0=if i<m then p.getD (m-1-i) 0 else p.getD i 0:=by
 have e:=getElem?_mirror_all (i:=0) hm i;unfold kas_rev;rw[N8,e];by_cases h:i<m
 ·rw[if_pos ⟨FZ _,h⟩,if_pos h,<-N8,Np]
 ·rw[if_neg (λq=>h q.2),if_neg h,<-N8]
theorem rW(h:Pm p n):Pm (kas_rev p 0 m) n:=⟨(mirror_size _ _ _ _).trans h.size,(jW.mp (mirror_perm p 0 m _)).trans h.perm⟩
variable{Q:Nat×Array Nat->Shared->Prop}
theorem tail(o:Kh cmp z n s)(d:Km z n)(h:Pm p n)(m1:1<=m)(mn:m<=n)(u:Dn z p m)(q:∀r p',Pm p' n->1<=r->r<=n->Up z p' r->Q (r,p') s):(kas_tail3 m n p).kasWp cmp Q s:=by
 unfold kas_tail3;rw[KasT.kasWp_bind];have a:m<=p.size:=by rw[h.size];exact mn
 refine asc o d (rW h) (n-m) m m1 (by omega) (λi j e c=>?_) (λr h1 h2 b _=>q r _ (rW h) (by omega) (by omega) b);unfold kz;rw[rU a,rU a,if_pos (by omega),if_pos c];exact u (m-1-j) (m-1-i) (by omega) (by omega)
theorem count(o:Kh cmp z n s)(d:Km z n)(h:Pm p n)(n2:2<=n)(q:∀r p',Pm p' n->1<=r->r<=n->Up z p' r->Q (r,p') s):(kas_count n p).kasWp cmp Q s:=by
 unfold kas_count;rw[KasT.kasWp_bind];refine asc o d h (n-1) 1 (Bf _) (by omega) (λi j c l=>by omega) (λm h1 h2 a b=>?_);by_cases e:(m == n)=true
 ·rw[if_pos e];exact q m p h h1 (by omega) a
 rw[if_neg e];have u:m≠n:=λx=>e (by rw[x];exact Nt n);by_cases g:m>1
 ·rw[if_pos g];refine o _ _ _ (h.lt (by omega)) (h.lt (by omega)) ?_;rw[DK (show z (p.getD 0 0)<z (p.getD (m-1) 0) from a 0 (m-1) (by omega) (by omega))];exact q m p h h1 (by omega) a
 rw[if_neg g];have t:m=1:=by omega
 subst t;have lt:kz z p 1<kz z p 0:=by
  rcases b with b | b
  ·omega
  ·exact b
 unfold kas_descPart;rw[KasT.kasWp_bind];refine desc o d h (n-(1+1)) (1+1) (by omega) (by omega) (λi j c l=>?_) (λm h1 h2 a=>?_)
 ·have k:i=0:=by omega
  have f:j=1:=by omega
  rw[k,f];exact lt
 ·show (if (0:Nat)>0 then _ else kas_tail3 m n p).kasWp cmp Q s;rw[if_neg (by omega)];exact tail o d h (by omega) (by omega) a q
theorem place(o:Kh cmp z n s)(d:Km z n)(h:Pm p n){k:Nat}(kn:k<n)(u:Up z p k){Q:Nat->Shared->Prop}:∀f l r,r-l<=f->l<=r->r<=k->(∀i,i<l->kz z p i<kz z p k)->(∀i,r<=i->i<k->kz z p k<kz z p i) ->
  (∀l,l<=k->(∀i,i<l->kz z p i<kz z p k)->(∀i,l<=i->i<k->kz z p k<kz z p i)->Q l s)->(kas_place p k f l r).kasWp cmp Q s
 | 0,l,r,f0,lr,rk,a,b,q=>q l (by omega) a (λi hi=>b i (by omega))
 | f+1,l,r,f0,lr,rk,a,b,q=>by
  unfold kas_place;by_cases e:l>=r
  ·rw[if_pos e];exact q l (by omega) a (λi hi=>b i (by omega))
  rw[if_neg e];refine o _ _ _ (h.lt kn) (h.lt (by omega)) ?_;have k1:=Yz d h (i:=k) (j:=(l+r) / 2) kn (by omega) (by omega);by_cases c:z (p.getD k 0)<z (p.getD ((l+r) / 2) 0)
  ·rw[DK c];have g:kz z p k<kz z p ((l+r) / 2):=c;refine place o d h kn u f l ((l+r) / 2) (by omega) (by omega) (by omega) a (λi h1 h2=>?_) q;by_cases e2:i=(l+r) / 2
   ·rw[e2];exact g
   ·have:=u ((l+r) / 2) i (by omega) h2;omega
  ·rw[Df c];have g:¬ kz z p k<kz z p ((l+r) / 2):=c;refine place o d h kn u f ((l+r) / 2+1) r (by omega) (by omega) rk (λi h1=>?_) b q;by_cases e2:i=(l+r) / 2
   ·rw[e2];omega
   ·have:=u i ((l+r) / 2) (by omega) (by omega);omega
theorem rA{k l:Nat}(hk:k<p.size)(hl:l<=k):(bubble p k (k-l)).getD i 0=if i=l then p.getD k 0 else if l<i/\i<=k then p.getD (i-1) 0 else p.getD i 0:=by
 have e:=getElem?_bubble hk (k-l) (by omega) i;rw[show k-(k-l)=l by omega]at e;rw[N8,e];by_cases h1:i=l
 ·rw[if_pos h1,if_pos h1,<-N8]
 ·rw[if_neg h1,if_neg h1];by_cases h2:l<i/\i<=k
  ·rw[if_pos h2,if_pos h2,<-N8]
  ·rw[if_neg h2,if_neg h2,<-N8]
theorem X6z{k l:Nat}(h:Pm p n):Pm (bubble p k l) n:=⟨(bubble_size _ _ _).trans h.size,(jW.mp (bubble_perm p k l)).trans h.perm⟩
theorem bin(o:Kh cmp z n s)(d:Km z n){Q:Array Nat->Shared->Prop}(q:∀p',Pm p' n->Up z p' n->Q p' s):∀f (p:Array Nat) k,Pm p n->k+f=n->Up z p k->(kas_bin f p k).kasWp cmp Q s
 | 0,p,k,h,e,u=>q p h (by rw[<-e];exact u)
 | f+1,p,k,h,e,u=>by
  unfold kas_bin;rw[KasT.kasWp_bind];refine place o d h (by omega) u k 0 k (by omega) (by omega) (Bf _) (λi hi=>by omega) (λi h1 h2=>by omega) (λl c a b=>?_);refine bin o d q f _ (k+1) (X6z h) (by omega) (λi j m r=>?_);have g:k<p.size:=by rw[h.size];omega
  unfold kz;rw[rA g c,rA g c];by_cases i1:i=l
  ·rw[if_pos i1,if_neg (by omega),if_pos (by omega)];exact b (j-1) (by omega) (by omega)
  ·rw[if_neg i1];by_cases j1:j=l
   ·rw[if_pos j1,if_neg (by omega)];exact a i (by omega)
   ·rw[if_neg j1];by_cases i2:l<i/\i<=k
    ·rw[if_pos i2,if_pos (by omega)];exact u (i-1) (j-1) (by omega) (by omega)
    ·rw[if_neg i2];by_cases j2:l<j/\j<=k
     ·rw[if_pos j2];by_cases e3:i=j-1
      ·omega
      ·exact u i (j-1) (by omega) (by omega)
     ·rw[if_neg j2];exact u i j m (by omega)
theorem pF(n:Nat):Pm (List.toArray (List.range n)) n:=⟨by simp,by simp⟩
theorem sort(o:Kh cmp z n s)(d:Km z n)(n2:2<=n){Q:Array Nat->Shared->Prop}(q:∀a,Pm a n->Up z a n->Q a s):(kas_sort n).kasWp cmp Q s:=by
 unfold kas_sort;rw[KasT.kasWp_bind];refine count o d (pF n) n2 (λr a h1 c b u=>?_);show (if r<n then kas_bin (n-max r 1) a (max r 1) else .ret a).kasWp cmp Q s;by_cases e:r<n
 ·rw[if_pos e,show max r 1=r by omega];exact bin o d q _ a r h1 (by omega) u
 ·rw[if_neg e];have:r=n:=by omega
  subst this;exact q a h1 u
end Sr
namespace L2
open PySem.W
noncomputable def bv:List Int->Int
 | []=>0
 | x::xs=>x*2^xs.length+bv xs
def G3 (n:Nat)(k:U6):Prop:=k.length=n/\∀x∈k,x=0\/x=1
theorem dY:∀{k:U6},(∀x∈k,x=0\/x=1)->0<=bv k/\bv k<2^k.length
 | [],_=>⟨Int.le_refl 0,by decide⟩
 | x::xs,h=>by
  obtain⟨a,b⟩:=dY (k:=xs) λy c=>h y (.tail _ c);have p:(0:Int)<2^xs.length:=Int.pow_pos (by decide);show 0<=x*2^xs.length+bv xs/\x*2^xs.length+bv xs<2^(xs.length+1);rw[Int.pow_succ];rcases h x (.head _) with rfl | rfl<;>omega
theorem Wz:∀{k l:U6},k.length=l.length->(∀x∈k,x=0\/x=1)->(∀x∈l,x=0\/x=1)->HT.lexLt k l=decide (bv k<bv l)/\(bv k=bv l->k=l)
 | [],[],_,_,_=>⟨by decide,λ_=>rfl⟩
 | x::xs,y::ys,e,h,g=>by
  have e:xs.length=ys.length:=Nat.succ.inj e;have h':∀z∈xs,z=0\/z=1:=λz hz=>h z (.tail _ hz);have g':∀z∈ys,z=0\/z=1:=λz hz=>g z (.tail _ hz);obtain⟨b,a⟩:=Wz e h' g';obtain⟨f,d⟩:=dY h';obtain⟨i,c⟩:=dY g';rw[<-e]at c;show HT.lexLt (x::xs) (y::ys)=decide (x*2^xs.length+bv xs<y*2^ys.length+bv ys)/\(x*2^xs.length+bv xs=y*2^ys.length+bv ys->_);rw[<-e,HT.fZ];have p:(0:Int)<2^xs.length:=Int.pow_pos (by decide);by_cases q:x=y
  ·subst q;rw[if_pos rfl,b];exact⟨decide_eq_decide.mpr (by omega),λz=>by rw[a (by omega)]⟩
  ·rw[if_neg q];rcases h x (.head _) with rfl | rfl<;>rcases g y (.head _) with rfl | rfl<;>first | exact absurd rfl q | exact⟨decide_eq_decide.mpr (by omega),λz=>by omega⟩
section
variable {prog:U8}{w:W1}{A:Y0}{E:U2}{s:U7}
theorem Jx{a:Y3}{us:U5}{n:Nat}{z:Nat->Int}{P:PySem.Fin->Shared->Prop}(ho:s.heap.get? a=some (seqObj "list" us.toArray n))(h64:us.length<64)
  (T:2<=us.length->∀h':Heap,(∀b o,b≠a->s.heap.get? b=some o->h'.get? b=some o)->∃(fs:U5) (T:W3),KatTups h' us fs/\fs.length=us.length/\(∀v∈fs,Looks (model prog w) h' (typeOf v) T)/\(T == T)=true/\Sr.Kh (kas_ask prog w A (tuples' (T != Value.type "tuple")) us) z us.length {s with heap:=h'}) (d:Sr.Km z us.length)
  (h:∀p,Sr.Pm p us.length->Sr.Up z p us.length->P (.done (.ret .none)) {s with heap:=sortedHeap s.heap a us (List.toArray (p.toList.map λi=>us.getD i Value.none))}):
  wpAny (model prog w) A (Builtin.«list.sort» ⟨[.ref a],[]⟩) P E s:=by
 have M:a<s.heap.objs.size:=BP ho;have C:us.length<=sizeLine:=by rw[Nm];omega
 rw[list_sort_plain];refine Af (listItems_at ho rfl (Af (bM ho rfl ?_ (by rw[Ci];omega) (FZ _))));obtain⟨q,l⟩:∃q,(s.heap.update a (Obj.mapSeq λ_=>(#[]:U9))).get? a=some (seqObj "list" #[] q):=⟨_,get?_update_seq ho λ_=>#[]⟩;refine Af (seqEpoch_at l rfl (Af (wpAny_newTuple (Af (Rx (G4 ?_) (FZ _))) (by show us.length<=_;omega))));have y:∀b o,b≠a->s.heap.get? b=some o->(((s.heap.update a (Obj.mapSeq λ_=>(#[]:U9))).push (seqObj "tuple" us.toArray 0)).push (seqObj "list" #[] 0)).get? b=some o:=λb o I e =>
  CG _ (CG _ (by rw[YS _ _ _ _ I];exact e))
 have c:(((s.heap.update a (Obj.mapSeq λ_=>(#[]:U9))).push (seqObj "tuple" us.toArray 0)).push (seqObj "list" #[] 0)).get? a=some (seqObj "list" #[] q):=CG _ (CG _ l);show wpAny (model prog w) A _ P E {s with heap:=((s.heap.update a (Obj.mapSeq λ_=>(#[]:U9))).push (seqObj "tuple" us.toArray 0)).push (seqObj "list" #[] 0)};dsimp only;by_cases h2:us.toArray.size<2
 ·rw[if_pos h2,if_pos h2];refine Af (Aq ?_);rw[StateT.run_pure];refine Af (Aq ?_);dsimp only;refine Af (seqEpoch_at c rfl (Af (bM c rfl ?_ (FZ _) (by rw[Array.size_map];show (us.toArray.zip us.toArray).size<=_;rw[Array.size_zip,Nat.min_self,Ci];omega))));simp only[bne_self_eq_false,JN,FW];refine Aq ?_;have k:=h _ (Sr.pF us.length) (λi j L J=>by rw[Ci]at h2;omega);have e:(List.toArray ((List.toArray (List.range us.length)).toList.map λi=>us.getD i Value.none))=(us.toArray.zip us.toArray).map (·.2):=by
   apply Array.toList_inj.mp;simp only[Array.toList_map,Array.toList_zip];apply R8
   ·simp
   ·intro i F K;have:i<us.length:=by simpa using F
    simp[this]
  rw[e]at k;exact k
 ·rw[if_neg h2,if_neg h2];rw[Ci]at h2;obtain⟨fs,D,k1,k2,k3,u,or⟩:=T (by omega) _ y;refine Af (kat_kind k1 (by omega) (T:=D) k3 u ?_)
  refine Af (Dp (kat_run (Q:=λf s'=>∃p:Array Nat,arrOf f=p.map (kas_item (us.toArray.zip us.toArray))/\failedOf f=none/\s'={s with heap:=((s.heap.update a (Obj.mapSeq λ_=>(#[]:U9))).push (seqObj "tuple" us.toArray 0)).push (seqObj "list" #[] 0)}/\Sr.Pm p us.length/\Sr.Up z p us.length)
   (G:=λp s'=>s'={s with heap:=((s.heap.update a (Obj.mapSeq λ_=>(#[]:U9))).push (seqObj "tuple" us.toArray 0)).push (seqObj "list" #[] 0)}/\Sr.Pm p us.length/\Sr.Up z p us.length) rfl (by omega) h64 (λp f s' _ t x H=>⟨p,t,x,H⟩) (Sr.sort or d (by omega) λp g1 g2=>⟨Z,g1,g2⟩)) ?_ λ_ _ e=>e)
  rintro ⟨⟨⟩,f⟩ s' ⟨p,m,B,rfl,r,up⟩;dsimp only;have g:=kat_snds rfl m;rw[g];refine Af (seqEpoch_at c rfl (Af (bM c rfl ?_ (FZ _) (by rw[Ci,Ax,HN,r.size];omega))));rw[B];simp only[bne_self_eq_false,JN,FW];exact Aq (h p r up)
theorem X5v{b:Bool}{x y:Int}{t u:Tok}{Q:Bool->Shared->Prop}(h:Q (decide (x<y)) s):wpAny (model prog w) A (oneLt' b (.int x t) (.int y u)) Q E s:=by
 cases b with
 | true=>exact oneLt_int h
 | false=>exact kat_one _ _ (wpAny_lt_int h)
theorem o_{b:Bool}{Q:Bool->Shared->Prop}:∀{us vs:U5}{xs ys:U6}{i:Nat},IntsAre us xs->IntsAre vs ys->xs.length=ys.length->Q (HT.lexLt xs ys) s->KatLex prog w A b false Q (us.zip vs) i s
 | _,_,_,_,i,.nil,.nil,_,q=>q
 | _,_,_,_,i,.cons x t r,.cons y u r',e,q=>by
  refine kat_cons (wpAny_eqBool_int ?_);rw[HT.fZ]at q;refine kat_go (λz=>kat_yes (o_ r r' (Nat.succ.inj e) ?_)) (λz=>kat_no (X5v ?_))
  ·rw[if_pos (eq_of_beq z)]at q;exact q
  ·rw[if_neg (λw=>by rw[w]at z;simp at z)]at q;exact q
end
noncomputable abbrev kb (k:U6):List Key:=k.map Sum.inl
theorem Wu(k:U6):(kb k).map kV=k.map V.int:=by rw[Gk];rfl
theorem X6a{k l:U6}(h:kb k=kb l):k=l:=by
 have:=congrArg (List.map (λx:Key=>match x with | .inl i=>i | .inr _=>0)) h;simpa [kb,Gk,Function.comp_def] using this
variable{X:Cx}{pins:U1}{σ:St}{H:Hp}{s:U7}{ks:List (List Int)}
theorem rD{p:Y3}{kvs:List (List Key×V)}(I:Inv X pins σ H s)(hp:H p=some (.dT kvs))(hk:kvs.map (·.1)=ks.map kb):
  ∃(es:Array DictEntry) (ep:Nat),(p == sysModules)=false/\Dk.Raw s.heap p es ep/\es.size=ks.length/\kvs.length=ks.length/\ks.Nodup /\
   ∀(i:Nat) (e:DictEntry),es[i]?=some e->∃(b:Y3) (k:U6) (v:V),e.key=Value.ref b/\ks[i]?=some k/\kvs[i]?=some (kb k,v)/\H b=some (.tup (k.map V.int))/\RelV v e.val:=by
 obtain⟨z,lo,d,g,o,es,ep,G,K,J,j,C⟩:kvs.length<=sizeLine/\(p == sysModules)=false/\∃xs:List (List Key×Addr×Value),
   Paired (λ(p:List Key×V) (q:List Key×Addr×Value)=>p.1=q.1/\H q.2.1=some (.tup (p.1.map kV))/\RelV p.2 q.2.2) kvs xs /\
   ∃o es ep,s.heap.get? p=some o/\o.ExactDict/\o.data=.dict es ep/\es.toList=xs.map (entryOfKey (tupleKind (Hq X.prog X.w)))/\(xs.map λx:List Key×Addr×Value=>x.1).Nodup:=I.hok p _ hp
 have L:kvs.length=d.length:=Paired.length g;have hsz:es.size=d.length:=by rw[<-HN,j,Ax]
 have n:kvs.length=ks.length:=by have:=congrArg List.length hk;simpa using this
 have key:∀(i:Nat) (k:U6),ks[i]?=some k->∃v,kvs[i]?=some (kb k,v):=λi k e=>by
  have:=congrArg (λl:List (List Key)=>l[i]?) hk;simp only[Bo,e,Option.map_some]at this;cases c:kvs[i]? with
  | none=>rw[c]at this;cases this
  | some kv=>rw[c]at this;exact⟨kv.2,by have h:=Option.some.inj this;rw[<-h]⟩
 have f:∀(l:List (List Key×V)) (m:List (List Key×Addr×Value)),Paired (λ(p:List Key×V) (q:List Key×Addr×Value)=>p.1=q.1/\H q.2.1=some (.tup (p.1.map kV))/\RelV p.2 q.2.2) l m->∀(i:Nat) q,m[i]?=some q->∃p,l[i]?=some p/\p.1=q.1/\H q.2.1=some (.tup (p.1.map kV))/\RelV p.2 q.2.2:=by
  intro l m r;induction r with
  | nil=>intro i q e;simp at e
  | @cons a b as bs ab t ih =>
   intro i q e;cases i with
   | zero=>cases e;exact⟨a,rfl,ab⟩
   | succ i=>obtain⟨p,h1,h2⟩:=ih i q (by simpa using e);exact⟨p,by simpa using h1,h2⟩
 refine⟨es,ep,lo,⟨o,G,K,J⟩,by omega,n,?_,λi e q=>?_⟩
 ·have A:(kvs.map (·.1)).Nodup:=by
   have:kvs.map (·.1)=d.map (·.1):=by
    clear C j key f hsz L hk n hp z;induction g with
    | nil=>rfl
    | cons ab _ ih=>rw[Er,Er,ih,ab.1]
   rw[this];exact C
  rw[hk]at A;exact(Nv.mp A).imp λh e=>h (by rw[e])
 ·rw[<-Ss,j,Bo]at q;obtain⟨x,u,B⟩:=D_.mp q;obtain⟨M,h1,h2,E,F⟩:=f kvs d g i x u;have y:i<ks.length:=by have:=(Cv.mp u).1;omega
  obtain⟨v,D⟩:=key i _ (Bm y);rw[h1]at D;cases D;refine⟨x.2.1,_,v,by rw[<-B];rfl,Bm y,h1,by rw[<-Wu];exact E,by rw[<-B];exact F⟩
theorem pQ{b:Y3}{k:U6}(I:Inv X pins σ H s)(e:H b=some (.tup (k.map V.int))):∃o its n,s.heap.get? b=some o/\o.cls=.type "tuple"/\o.data=.seq (List.toArray its) n/\IntsAre its k:=by
 obtain⟨_,its,r,o,h1,h2,n,a⟩:=(show Ai X.prog X.w H s.heap b (.tup (k.map V.int)) from I.hok _ _ e);exact⟨o,its,n,h1,h2,a,JC r⟩
theorem gZ:∀{us:U5}{xs:U6},IntsAre us xs->us.length=xs.length
 | _,_,.nil=>rfl
 | _,_,.cons _ _ r=>by rw[Hv,Hv,gZ r]
def IK (h:Heap)(us:U5)(ks:List (List Int)):Prop:=∀(j:Nat) u,us[j]?=some u->∃b o its n k,u=Value.ref b/\ks[j]?=some k/\h.get? b=some o/\o.cls=.type "tuple"/\o.data=.seq (List.toArray its) n/\IntsAre its k
theorem IK.firsts{h:Heap}:∀{us:U5}{ks:List (List Int)},IK h us ks->(∀k∈ks,1<=k.length)->∃fs,KatTups h us fs/\fs.length=us.length/\∀v∈fs,∃i t,v=Value.int i t
 | [],_,_,_=>⟨[],trivial,rfl,λv c=>nomatch c⟩
 | u::us,ks,T,hk=>by
  obtain⟨b,o,its,n,k,rfl,h1,h2,g,m,f⟩:=T 0 u rfl
  obtain⟨fs,q,l,a⟩:=IK.firsts (us:=us) (ks:=ks.drop 1) (λj u e=>by
   obtain⟨b,o,its,n,k,r⟩:=T (j+1) u (by simpa using e)
   exact⟨b,o,its,n,k,r.1,by rw[YM,Ro];exact r.2.1,r.2.2⟩) λk d=>hk k (YZ d)
  have p:=hk k (Dz h1);cases f with
  | nil=>exact absurd p (by decide)
  | cons x t r =>
   refine⟨Value.int x t::fs,.cons h2 g m rfl q,by simp[l],λv c=>?_⟩;rcases Cz.mp c with rfl | c
   ·exact⟨_,_,Z⟩
   ·exact a v c
section
variable {prog:U8}{w:W1}{A:Y0}{E:U2}{s:U7}
theorem IK.ask{b:Bool}{n:Nat}{us:U5}(T:IK s.heap us ks)(hk:∀k∈ks,G3 n k):Sr.Kh (kas_ask prog w A (tuples' b) us) (λj=>bv (ks.getD j [])) us.length s:=by
 intro i j C hi d q;unfold kas_ask;have l:us.getD i Value.none=us[i]:=by simp[hi]
 have h:us.getD j Value.none=us[j]:=by simp[d]
 rw[l,h];obtain⟨y,p,o,u,k1,h1,h2,g,r,f,e⟩:=T i us[i] (Bm hi);obtain⟨v,t,m,x,k2,g1,g2,g3,g4,g5,g6⟩:=T j us[j] (Bm d);rw[h1,g1];have c:=hk k1 (Dz h2);have a:=hk k2 (Dz g2);have l1:=gZ e;have l2:=gZ g6;have q:C (decide (bv (ks.getD i [])<bv (ks.getD j []))) s:=q;rw[Bb,Bb,h2,g2]at q;refine kat_lt g f g3 g5 ?_;rw[show decide ((List.toArray o).size<(List.toArray m).size)=false from Df (by rw[Ci,Ci,l1,l2,c.1,a.1];exact JL _)];refine o_ e g6 (by rw[c.1,a.1]) ?_;rw[(Wz (by rw[c.1,a.1]) c.2 a.2).1];exact q
end
theorem rF{n:Nat}(nd:ks.Nodup)(hk:∀k∈ks,G3 n k){m:Nat}(hm:m=ks.length):Sr.Km (λj=>bv (ks.getD j [])) m:=λi j hi a e=>by
 subst hm;have e:bv (ks.getD i [])=bv (ks.getD j []):=e;rw[Bb,Bb,Bm hi,Bm a]at e;have d:=hk _ (G5 hi);have b:=hk _ (G5 a);have q:ks[i]=ks[j]:=(Wz (by rw[d.1,b.1]) d.2 b.2).2 e;have g:=K5.mp nd;rcases Vj i j with c | c | c
 ·exact absurd q (g i j _ _ c)
 ·exact c
 ·exact absurd q.symm (g j i _ _ c)
theorem uY(hc:X.calm=true):Bu X (.builtin "sorted") (λxs H Q=>∃(p:Y3) (kvs:List (List Key×V)) (ks:List (List Int)) (n:Nat),xs=[.ref p]/\H p=some (.dT kvs)/\kvs.map (·.1)=ks.map kb/\ks.length<64/\(∀k∈ks,G3 n k) /\
  ∀(l:Y3) (bs:U3) (ks':List (List Int)),H l=none->ks'.Perm ks->ks'.Pairwise (λa b=>bv a<bv b)->Paired (λb (k:U6)=>H b=some (.tup (k.map V.int))) bs ks'->Q (.ref l) (upd H l (.lst (bs.map V.ref)))):=by
 intro pins s σ H xs us Q I r h;obtain⟨p,kvs,ks,n,rfl,hp,hk,hn,K,q⟩:=h;obtain⟨u,rfl,rx⟩:=vals1 r;cases rx;obtain⟨es,ep,lo,R,hsz,a5,Y,L⟩:=rD I hp hk;have a0:(64:Nat)<=sizeLine:=by decide
 refine Calls.call_function_entry kind_sorted bG bF (bC _) ?_;unfold Builtin.«sorted»;refine Af (m:=checkCount "sorted" 1 1 _) (Aq (Af (gather (A:=X.A.in1) (Dk.src (es:=es) (ep:=ep) lo) (I.ok.hd hc) R (by omega) λh' tk acc D G g=>?_)));have y:=JK G;have c:acc.toList.length=ks.length:=by rw[HN,g.1,hsz]
 have d:∀(j:Nat) (u:W3),acc.toList[j]?=some u->∃b k,u=Value.ref b/\ks[j]?=some k/\H b=some (.tup (k.map V.int)):=λj u S=>by
  obtain⟨e,E,C⟩:=g.2 j u (by rw[<-Ss];exact S);obtain⟨b,k,v,a1,a2,a3,a4,_⟩:=L j e E;exact⟨b,k,by rw[C,a1],a2,a4⟩
 refine Af (Rx ?_ (by omega));have B:(h'.push (seqObj "list" acc.toList.toArray 0)).get? h'.objs.size=some (seqObj "list" acc.toList.toArray 0):=Ek _ rfl;have TW:∀h2:Heap,(∀b o,b≠h'.objs.size->(h'.push (seqObj "list" acc.toList.toArray 0)).get? b=some o->h2.get? b=some o)->IK h2 acc.toList ks:=λh2 F j u S=>by
  obtain⟨b,k,E,C,U⟩:=d j u S;obtain⟨o,its,m,o1,o2,o3,o4⟩:=pQ I U;have:=D _ _ o1;exact⟨b,o,its,m,k,E,C,F b o (B_ (BP this)) (CG _ this),o2,o3,o4⟩
 have pos:2<=acc.toList.length->∀k∈ks,1<=k.length:=λl2 k hm=>by
  refine Nat.pos_of_ne_zero λz=>?_;have n0:n=0:=by rw[<-(K k hm).1,z]
  have E:ks[0]'(by omega)=[]:=Sx.mp (by rw[(K _ (G5 _)).1,n0]);have C:ks[1]'(by omega)=[]:=Sx.mp (by rw[(K _ (G5 _)).1,n0]);exact K5.mp Y 0 1 (by omega) (by omega) (by decide) (by rw[E,C])
 refine Af (G4 (K1 bR ⟨_,B,Z⟩ YD (Jx (z:=λj=>bv (ks.getD j [])) B (by omega) (λl2 h2 F=>?_) (rF Y K c) λf h1 h2=>⟨_,Z,?_⟩) (bO _)))
 ·obtain⟨fs,k1,k2,k3⟩:=(TW h2 F).firsts (pos l2);exact⟨fs,.type "int",k1,k2,(λv hv=>by obtain⟨i,t,rfl⟩:=k3 v hv;exact .now),by decide,IK.ask (s:={s with heap:=h2,toks:=tk}) (TW h2 F) K⟩
 refine Aq ⟨_,Z,?_⟩;obtain⟨e,P⟩:=bN (out:=List.toArray (f.toList.map λi=>acc.toList.getD i Value.none)) B;have F:∀b o,s.heap.get? b=some o->(sortedHeap (h'.push (seqObj "list" acc.toList.toArray 0)) h'.objs.size acc.toList (List.toArray (f.toList.map λi=>acc.toList.getD i Value.none))).get? b=some o:=λb o x=>by
  have lt:=BP (D b o x);rw[X7 (B_ lt) (by rw[size_push'];exact QF lt)];exact CG _ (D b o x)
 have O:∀i∈f.toList,i<ks.length:=λi hi=>by rw[<-c];exact Fb.mp (h1.perm.mem_iff.mp hi)
 have T:∀i,i<ks.length->∃b,acc.toList.getD i Value.none=Value.ref b/\H b=some (.tup ((ks.getD i []).map V.int)):=λi hi=>by
  have ha:i<acc.toList.length:=by omega
  obtain⟨b,k,E,C,U⟩:=d i acc.toList[i] (Bm ha);exact⟨b,by rw[Bb,Bm ha];exact E,by rw[Bb,C];exact U⟩
 obtain⟨bs,W,M⟩:∃bs:List Addr,Vals (bs.map V.ref) (f.toList.map λi=>acc.toList.getD i Value.none)/\Paired (λb (k:U6)=>H b=some (.tup (k.map V.int))) bs (f.toList.map λi=>ks.getD i []):=by
  generalize f.toList=l at O;induction l with
  | nil=>exact⟨[],.nil,.nil⟩
  | cons i l ih =>
   obtain⟨bs,c1,c2⟩:=ih λj N=>O j (.tail _ N);obtain⟨b,d1,d2⟩:=T i (O i (.head _));exact⟨b::bs,.cons d1 c1,.cons d2 c2⟩
 have J:bs.length=ks.length:=by rw[Paired.length M,Ax,HN,h1.size,c]
 refine⟨.ref h'.objs.size,_,I.laid (t':=tk) F y (show Ai X.prog X.w _ _ _ (.lst (bs.map V.ref)) from ⟨by rw[Ax,J];omega,_,e,W,P⟩),Z,q _ _ (f.toList.map λi=>ks.getD i []) (I.hok.fresh y) ?_ ?_ M⟩
 ·have e:(List.range acc.toList.length).map (λi=>ks.getD i [])=ks:=by
   rw[c];apply R8
   ·simp
   ·intro i q1 q2;simp[q2]
  have:=h1.perm.map (λi=>ks.getD i []);rw[e]at this;exact this
 ·rw[Nv];refine K5.mpr λi j hi N ij=>?_;have hs:f.size=acc.toList.length:=h1.size;have up:=h2 i j ij (by rw[HN]at N;omega);unfold Sr.kz at up;rw[Sr.JZ (by rw[HN]at hi;exact hi),Sr.JZ (by rw[HN]at N;exact N)]at up;rw[QL,QL];exact up
theorem Inv.many{X:Cx}{pins:U1}{σ:St}{H H':Hp}{s:U7}{h':Heap}{t':Nat}(I:Inv X pins σ H s)(kp:∀b o,s.heap.get? b=some o->h'.get? b=some o)(sm:Same H H')
  (new:∀b u,H b=none->H' b=some u->s.heap.objs.size<=b/\Ai X.prog X.w H' h' b u):Inv X pins σ H' {s with heap:=h',toks:=t'}:=by
 refine I.call' (s':={s with heap:=h',toks:=t'}) (ch:=[]) rfl ⟨λb o a f _ _=>kp b o a,λb o a f _ _=>⟨o.slots,kp b o a⟩,λb o a f _=>?_,λb o a _=>⟨o,kp b o a⟩,λb xs a=>sm _ _ a,λb o u a=>sm _ _ a,λb ps a=>⟨#[],?_⟩⟩ (λc o g=>?_) I.bare (λb a=>by cases a)
 ·cases e:H' b with
  | none=>rfl
  | some u=>exact absurd (BP a) (Nat.not_lt.mpr (new b u f e).1)
 ·rw[sm _ _ a,SJ]
 ·cases e:H c with
  | none=>exact(new c o e g).2
  | some u =>
   have:=sm _ _ e;rw[g]at this;cases this;exact(I.hok c o e).stay (λd v _ q=>kp d v q) (λb q=>sm _ _ q) λb xs q=>sm _ _ q
noncomputable def Et (v d:Y3):HO:=.ext λh=>h.get? v=some (Di.view d)
theorem vd:Qt X "dict.items" (λx xs H Q=>∃d kvs,x=.ref d/\xs=[]/\H d=some (.dT kvs)/\∀v,H v=none->Q (.ref v) (upd H v (Et v d))):=by
 intro pins s σ H x vs v us Q I j g h;obtain⟨d,kvs,rfl,rfl,f,q⟩:=h;cases j;have c:=g.zero;subst c;obtain⟨z,lo,xs,i,dd⟩:=Ws I.hok f;have ty:=dd.typeIs;refine K1 jP ty PySem.F.entry_dict_items ?_ (PySem.F.args_dict_items_1 _);unfold Builtin.«dict.items» Builtin.Dict.noArgs;refine Af (Af (Yi ty (Aq ?_)));show wpAny _ _ (Builtin.Dict.showsAll d >>= _) _ _ s;unfold Builtin.Dict.showsAll;rw[if_neg (by rw[lo];decide)];refine Af (Aq (Af (Js (Aq ⟨_,Z,?_⟩))));have e:(s.heap.push (Di.view d)).get? s.heap.objs.size=some (Di.view d):=Ek _ rfl;refine⟨.ref s.heap.objs.size,_,I.laid (t':=s.toks) (λb o q=>CG _ q) (Bf _) (show Ai X.prog X.w _ _ _ (Et s.heap.objs.size d) from ⟨e,⟨_,e⟩,λh1 h2 a k=>k _ a⟩),Z,q _ (I.hok.fresh (Bf _))⟩
def Ph (h:Heap)(us:U5)(ks:List (List Int)):Prop:=∀(j:Nat) u,us[j]?=some u->∃a b e o its n k,u=Value.ref a/\h.get? a=some (Di.Cw e)/\e.key=Value.ref b/\ks[j]?=some k/\h.get? b=some o/\o.cls=.type "tuple"/\o.data=.seq (List.toArray its) n/\IntsAre its k
theorem Ph.firsts{M:Model}{h:Heap}:∀{us:U5}{ks:List (List Int)},Ph h us ks->∃fs,KatTups h us fs/\fs.length=us.length/\∀v∈fs,Looks M h (typeOf v) (.type "tuple")
 | [],_,_=>⟨[],trivial,rfl,λv c=>nomatch c⟩
 | u::us,ks,T=>by
  obtain⟨a,b,e,o,its,n,k,rfl,g,h1,h2,d,f,t,x⟩:=T 0 u rfl
  obtain⟨fs,q,l,w⟩:=Ph.firsts (M:=M) (us:=us) (ks:=ks.drop 1) (λj u e=>by
   obtain⟨a,b,e,o,its,n,k,r,p,i,m,s⟩:=T (j+1) u (by simpa using e)
   exact⟨a,b,e,o,its,n,k,r,p,i,by rw[YM,Ro];exact m,s⟩)
  refine⟨e.key::fs,.cons g rfl rfl rfl q,by simp[l],λv c=>?_⟩;rcases Cz.mp c with rfl | c
  ·rw[h1,<-f];exact(Looks.ld d).andThen .now
  ·exact w v c
section
variable {prog:U8}{w:W1}{A:Y0}{E:U2}{s:U7}
theorem o7{its:U5}{k:U6}(h:IntsAre its k):ItemsAre (PySem.intKind prog w) k its:=by
 induction h with
 | nil=>exact .nil
 | cons x t r ih=>exact .cons (intKind_is _ _ _ _) ih
theorem Ph.ask{n:Nat}{us:U5}(hu:A.units<cLine)(T:Ph s.heap us ks)(nd:ks.Nodup)(hk:∀k∈ks,G3 n k):Sr.Kh (kas_ask prog w A (tuples' false) us) (λj=>bv (ks.getD j [])) us.length s:=by
 intro i j C hi o q;unfold kas_ask;have d:us.getD i Value.none=us[i]:=by simp[hi]
 have b:us.getD j Value.none=us[j]:=by simp[o]
 rw[d,b];obtain⟨L,b1,f,m,M,y,k1,t,h1,h2,h,r,l,B,v⟩:=T i us[i] (Bm hi);obtain⟨I,b2,e,x,K,D,k2,g0,g1,g2,g3,g4,g5,g6,g7⟩:=T j us[j] (Bm o);have u:=hk k1 (Dz h);have p:=hk k2 (Dz g3);have G:k1.length=k2.length:=by rw[u.1,p.1]
 have q:C (decide (bv (ks.getD i [])<bv (ks.getD j []))) s:=q;rw[Bb,Bb,h,g3]at q;have q:C (decide (bv k1<bv k2)) s:=q;have E:IsTupleKey (PySem.intKind prog w) s.heap k1 b1:=⟨m,_,y,r,l,B,o7 v⟩;have t2:IsTupleKey (PySem.intKind prog w) s.heap k2 b2:=⟨x,_,D,g4,g5,g6,o7 g7⟩;rw[t,g0];refine kat_lt h1 rfl g1 rfl ?_;show KatLex prog w A false (decide (2<2)) C [(f.key,e.key),(f.val,e.val)] 0 s;refine kat_cons ?_;rw[h2,g2];refine wpAny_eqBool_tuple hu E t2 (kat_go (λz=>kat_yes (kat_cons ?_)) λz=>kat_no (kat_one _ _ ?_))
 ·have z:=QG z;subst z;have F:i=j:=by
   obtain⟨H,d⟩:=Cv.mp h;obtain⟨J,b⟩:=Cv.mp g3;have g:=K5.mp nd;rcases Vj i j with c | c | c
   ·exact absurd (d.trans b.symm) (g i j _ _ c)
   ·exact c
   ·exact absurd (b.trans d.symm) (g j i _ _ c)
  subst F;rw[t]at g0;cases g0;rw[h1]at g1;have ev:f.val=e.val:=by
   injection g1 with g1;injection g1 with _ _ g1;injection g1 with g1;exact Option.some.inj (show some f.val=some e.val from congrArg (λa:Array Value=>a[1]?) g1)
  rw[<-ev];refine(PySem.SeqAt.EqAt.same _) _ _ _ _ (kat_go (λ_=>kat_yes (kat_nil ?_)) λw=>by cases w);rw[Df (Int.lt_irrefl _)]at q;exact q
 ·refine HT.yg ⟨m,r,l,y,B⟩ ⟨x,g4,g5,D,g6⟩ (by simpa using v) (by simpa using g7) hu ?_;rw[(Wz G u.2 p.2).1];exact q
end
theorem oZ:∀{as:U3},as.Pairwise (·<·)->∀(i:Nat) (a:Y3),as[i]?=some a->as.idxOf? a=some i
 | [],_,i,a,e=>by simp at e
 | b::as,r,0,a,e=>by simp at e;subst e;simp[YG]
 | b::as,r,i+1,a,e=>by
  have r:=Vn.mp r;have e:as[i]?=some a:=by simpa using e
  have c:b≠a:=B_ (r.1 a (Dz e));rw[YG,if_neg (by simpa using c),oZ r.2 i a e];rfl
theorem Ui:∀{as:U3}{a:Y3}{i:Nat},as.idxOf? a=some i->as[i]?=some a
 | [],_,_,e=>by simp at e
 | b::as,a,i,e=>by
  rw[YG]at e;by_cases q:(b == a)=true
  ·rw[if_pos q]at e;cases e;simpa using q
  ·rw[if_neg q]at e;obtain⟨j,d,c⟩:=D_.mp e;subst c;simpa using Ui d
theorem uZ(hc:X.calm=true)(t:X.A.units+64<cLine):Bu X (.builtin "sorted") (λxs H Q=>∃(v p:Y3) (ps:List (List Int×V)) (n:Nat),xs=[.ref v]/\H v=some (Et v p)/\H p=some (.dT (ps.map λe=>(kb e.1,e.2)))/\ps.length<64/\(∀e∈ps,G3 n e.1) /\
  ∀(l:Y3) (as:U3) (ps':List (List Int×V)) (H':Hp),H l=none->Same H H'->H' l=some (.lst (as.map V.ref))->ps'.Perm ps->ps'.Pairwise (λa b=>bv a.1<bv b.1)->Paired (λa (e:List Int×V)=>∃b,H' a=some (.tup [.ref b,e.2])/\H' b=some (.tup (e.1.map V.int))) as ps'->Q (.ref l) H'):=by
 intro pins s σ H xs us Q I r h;obtain⟨v,p,ps,n,rfl,hv,hp,hn,hB,q⟩:=h;obtain⟨u,rfl,rx⟩:=vals1 r;cases rx;have P:∀k∈ps.map (·.1),G3 n k:=λk hk=>by obtain⟨e,he,rfl⟩:=DY.mp hk;exact hB e he
 obtain⟨es,ep,lo,R,hsz,b5,nd,a0⟩:=rD (ks:=ps.map (·.1)) I hp (by rw[Gk,Gk];rfl);rw[Ax]at hsz;have a8:∀(i:Nat) (e:DictEntry),es[i]?=some e->∃(b:Y3) (y:List Int×V),e.key=Value.ref b/\ps[i]?=some y/\H b=some (.tup (y.1.map V.int))/\RelV y.2 e.val:=λi e he=>by
  obtain⟨b,k,y,N,a2,B,a4,a5⟩:=a0 i e he;rw[Bo]at a2 B;obtain⟨z,z1,z2⟩:=D_.mp a2;rw[z1,Option.map_some]at B;have B:=Option.some.inj B;have B:z.2=y:=congrArg (·.2) B;refine⟨b,z,N,z1,?_,?_⟩
  ·rw[show z.1=k from z2];exact a4
  ·rw[B];exact a5
 have b0:s.heap.get? v=some (Di.view p):=(show Ai X.prog X.w H s.heap v (Et v p) from I.hok v _ hv).1;have b4:(64:Nat)<=sizeLine:=by decide
 refine Calls.call_function_entry kind_sorted bG bF (bC _) ?_;unfold Builtin.«sorted»;refine Af (m:=checkCount "sorted" 1 1 _) (Aq (Af (Di.vL (A:=X.A.in1) (I.ok.hd hc) b0 R (by omega) λh' tk as a9 O b3 G=>?_)));have f:=JK O;have U:as.length=ps.length:=by omega
 refine Af (Rx ?_ (by rw[Ax];omega));have C:(h'.push (seqObj "list" (as.map Value.ref).toArray 0)).get? h'.objs.size=some (seqObj "list" (as.map Value.ref).toArray 0):=Ek _ rfl;have a':∀(j:Nat) (a:Y3),as[j]?=some a->a<h'.objs.size:=λj a e=>by obtain⟨e,_,D⟩:=G.pairs j a e;exact BP D
 have TW:∀h2:Heap,(∀b o,b≠h'.objs.size->(h'.push (seqObj "list" (as.map Value.ref).toArray 0)).get? b=some o->h2.get? b=some o)->Ph h2 (as.map Value.ref) (ps.map (·.1)):=λh2 kp j u t=>by
  rw[Bo]at t;obtain⟨a,ha,rfl⟩:=D_.mp t;obtain⟨e,e1,D⟩:=G.pairs j a ha;obtain⟨b,y,y1,y2,y3,y4⟩:=a8 j e e1;obtain⟨o,its,m,o1,o2,o3,o4⟩:=pQ I y3;have T:=a9 _ _ o1;exact⟨a,b,e,o,its,m,y.1,Z,kp a _ (B_ (BP D)) (CG _ D),y1,by rw[Bo,y2];rfl,kp b o (B_ (BP T)) (CG _ T),o2,o3,o4⟩
 have b1:(as.map Value.ref).length=(ps.map (·.1)).length:=by rw[Ax,Ax,U]
 refine Af (G4 (K1 bR ⟨_,C,Z⟩ YD (Jx (z:=λj=>bv ((ps.map (·.1)).getD j [])) C (by rw[Ax];omega) (λl2 h2 kp=>?_) (rF nd P b1) λd h1 h2=>⟨_,Z,?_⟩) (bO _)))
 ·obtain⟨fs,k1,k2,k3⟩:=(TW h2 kp).firsts (M:=model X.prog X.w);exact⟨fs,.type "tuple",k1,k2,k3,by decide,Ph.ask (s:={s with heap:=h2,toks:=tk}) (by show X.A.units+1+1<cLine;omega) (TW h2 kp) nd P⟩
 refine Aq ⟨_,Z,?_⟩;obtain⟨e,W⟩:=bN (out:=List.toArray (d.toList.map λi=>(as.map Value.ref).getD i Value.none)) C;have F:∀b o,b≠h'.objs.size->h'.get? b=some o->(sortedHeap (h'.push (seqObj "list" (as.map Value.ref).toArray 0)) h'.objs.size (as.map Value.ref) (List.toArray (d.toList.map λi=>(as.map Value.ref).getD i Value.none))).get? b=some o:=λb o L x=>by
  have lt:=BP x;rw[X7 (B_ lt) (by rw[size_push'];exact QF lt)];exact CG _ x
 generalize sortedHeap (h'.push (seqObj "list" (as.map Value.ref).toArray 0)) h'.objs.size (as.map Value.ref) (List.toArray (d.toList.map λi=>(as.map Value.ref).getD i Value.none))=hF at W F ⊢;have K:∀i∈d.toList,i<ps.length:=λi hi=>by have:=Fb.mp (h1.perm.mem_iff.mp hi);rw[Ax]at this;omega
 have all:∀i,∃b:Addr,i<ps.length->∃(a:Y3) (e:DictEntry),as[i]?=some a/\hF.get? a=some (Di.Cw e)/\s.heap.objs.size<a/\e.key=Value.ref b/\H b=some (.tup ((ps.getD i ([],.non)).1.map V.int))/\RelV (ps.getD i ([],.non)).2 e.val:=λi=>by
  by_cases hi:i<ps.length
  ·have ai:as[i]?=some (as[i]'(by omega)):=Bm _;obtain⟨e,e1,D⟩:=G.pairs i _ ai;obtain⟨b,y,y1,y2,y3,y4⟩:=a8 i e e1;refine⟨b,λ_=>⟨_,e,ai,F _ _ (B_ (BP D)) D,G.above _ (G5 _),y1,?_,?_⟩⟩
   ·rw[Bb,y2];exact y3
   ·rw[Bb,y2];exact y4
  ·exact⟨0,λh=>absurd h hi⟩
 obtain⟨ka,S⟩:=Classical.axiomOfChoice all;have b2:∀{a i},as.idxOf? a=some i->i<ps.length:=λ{a i} e=>by have:=(Cv.mp (Ui e)).1;omega
 have la:∀{a i},as.idxOf? a=some i->s.heap.objs.size<a/\a<h'.objs.size:=λ{a i} e=>⟨G.above _ (Dz (Ui e)),a' _ _ (Ui e)⟩;have fresh:∀{a},s.heap.objs.size<=a->H a=none:=λ{a} h=>I.hok.fresh h;let bs:List Addr:=d.toList.map λi=>as.getD i 0;let H':Hp:=λb=>if b=h'.objs.size then some (.lst (bs.map V.ref)) else match as.idxOf? b with | some i=>some (.tup [.ref (ka i),(ps.getD i ([],.non)).2]) | none=>H b
 have hL:H' h'.objs.size=some (.lst (bs.map V.ref)):=if_pos rfl;have hA:∀{a i},as.idxOf? a=some i->H' a=some (.tup [.ref (ka i),(ps.getD i ([],.non)).2]):=λ{a i} e=>by
  show (if a=h'.objs.size then _ else _)=_;rw[if_neg (B_ (la e).2),e]
 have hO:∀{b},b≠h'.objs.size->as.idxOf? b=none->H' b=H b:=λ{b} h e=>by
  show (if b=h'.objs.size then _ else _)=_;rw[if_neg h,e]
 have sm:Same H H':=λb u L=>by
  have lt:¬ s.heap.objs.size<=b:=λz=>by rw[fresh z]at L;cases L
  have n1:b≠h'.objs.size:=λz=>lt (by rw[z];exact f);cases e:as.idxOf? b with
  | some i=>exact absurd (JK (la e).1) lt
  | none=>rw[hO n1 e];exact L
 have Y:Vals (bs.map V.ref) (d.toList.map λi=>(as.map Value.ref).getD i Value.none):=by
  show Vals ((d.toList.map λi=>as.getD i 0).map V.ref) _;generalize d.toList=l at K;induction l with
  | nil=>exact .nil
  | cons i l ih =>
   refine .cons ?_ (ih λj E=>K j (.tail _ E));have hi:i<as.length:=by have:=K i (.head _);omega
   show (as.map Value.ref).getD i Value.none=Value.ref (as.getD i 0);simp[hi]
 have a7:bs.length=ps.length:=by show (d.toList.map _).length=_;rw[Ax,HN,h1.size,Ax];omega
 have J:Inv X pins σ H' {s with heap:=hF,toks:=tk}:=I.many (λb o x=>F b o (B_ (CK (BP x) f)) (a9 b o x)) sm λb u L t=>by
  by_cases z:b=h'.objs.size
  ·subst z;rw[hL]at t;cases t;exact⟨f,show Ai X.prog X.w _ _ _ (.lst (bs.map V.ref)) from ⟨by rw[Ax,a7];omega,_,e,Y,W⟩⟩
  ·cases c:as.idxOf? b with
   | none=>rw[hO z c,L]at t;cases t
   | some i =>
    rw[hA c]at t;cases t;obtain⟨a,en,N,a2,B,a4,a5,a6⟩:=S i (b2 c);have ab:a=b:=Option.some.inj (N.symm.trans (Ui c));subst ab;exact⟨JK B,show Ai X.prog X.w _ _ _ (.tup _) from ⟨by show 2<=sizeLine;omega,[en.key,en.val],.cons a4 (.cons a6 .nil),_,a2,Z,_,Z⟩⟩
 refine⟨.ref h'.objs.size,H',J,Z,q _ bs (d.toList.map λi=>ps.getD i ([],.non)) H' (fresh f) sm hL ?_ ?_ ?_⟩
 ·have e:(List.range (as.map Value.ref).length).map (λi=>ps.getD i ([],.non))=ps:=by
   rw[Ax,U];apply R8
   ·simp
   ·intro i q1 q2;simp[q2]
  have:=h1.perm.map (λi=>ps.getD i ([],.non));rw[e]at this;exact this
 ·rw[Nv];refine K5.mpr λi j hi E ij=>?_;have hs:d.size=(as.map Value.ref).length:=h1.size;have up:=h2 i j ij (by rw[HN]at E;omega);unfold Sr.kz at up;rw[Sr.JZ (by rw[HN]at hi;exact hi),Sr.JZ (by rw[HN]at E;exact E)]at up;rw[QL,QL];have g:∀i,(ps.map (·.1)).getD i []=(ps.getD i ([],.non)).1:=λi=>by
   rw[Bb,Bb,Bo];cases ps[i]?<;>rfl
  dsimp only at up;rw[g,g]at up;exact up
 ·show Paired _ (d.toList.map λi=>as.getD i 0) (d.toList.map λi=>ps.getD i ([],.non));generalize d.toList=l at K;induction l with
  | nil=>exact .nil
  | cons i l ih =>
   refine .cons ?_ (ih λj E=>K j (.tail _ E));obtain⟨a,en,N,a2,B,a4,a5,a6⟩:=S i (K i (.head _));refine⟨ka i,?_,sm _ _ a5⟩;dsimp only;rw[Bb,N];exact hA (oZ G.rise i a N)
end L2
namespace L2
def wj (ta:TA):TE:=λσ H Q=>ta σ H λvs H1=>∃n:Nat,vs=[.int n]/\n<=1000/\∀r,H1 r=none->Q (.ref r) (upd H1 r (.lst ((List.range n).map λi=>V.int (i:Nat))))
theorem fu{X:Cx}{a:Expr}{ta:TA}{p p2 pos pos2:Pos}(hc:X.calm=true)(hg:Gl X "range")(hm:X.mg "range"=none)(hg2:Gl X "list")(hm2:X.mg "list"=none)(ha:PA X [a] ta)(hs:starEach [a] X.env=[(false,eval a X.env)]:=by rfl):
  PE X (.Call (.Name "list" p) [.Call (.Name "range" p2) [a] [] pos2] [] pos) (wj ta):=by
 intro pins s σ H Q I h;refine Call_ (LR I hg2 hm2 Kr (PyProof.Rows.callWith_type1 ?_ (by rfl) (by rfl)));show wpAny _ _ (spliced ((false,eval (.Call (.Name "range" p2) [a] [] pos2) X.env)::[])) _ _ s;refine Calls.spliced_cons (Call_ (LR I hg hm boot_range (PyProof.Rows.callWith_type1 (A_ (ha pos2 pins s σ H _ I h) λus s1 ⟨vs,H1,g,x,D⟩=>?_) (by rw[hs];rfl) (by rfl))));obtain⟨n,e,v,q⟩:=D;subst e;cases x with
 | cons r rr =>
  cases rr;obtain⟨t,rfl⟩:=r;refine call_range_1 ?_;refine Calls.spliced_nil ?_;refine call_list_range (n:=n) (g.ok.hd hc) (IsRange.new ..) (small_one (by omega) (by omega) (by omega) (by omega)) (by rw[rangeSize_one];split<;>omega) (by omega) λh' tk acc c z y d=>?_;have m:∀b o,s1.heap.get? b=some o->h'.get? b=some o:=λb o e=>z b o (CG _ e);have sz:s1.heap.objs.size<=(s1.heap.push { cls:=.type "range",data:=.fields #[.int 0 0,.int n t,.int 1 0]}).objs.size:=JK (BP (Ek _ rfl));have A:acc.toList.length=n:=by rw[HN,d.1]
  have vs:∀(l:W7) (us:U5),us.length=l.length->(∀(j:Nat) (u:W3),us[j]?=some u->∃i t,l[j]?=some i/\u=Value.int (i:Nat) t)->Vals (l.map λi=>V.int (i:Nat)) us:=by
   intro l;induction l with
   | nil=>intro us e _;cases us with
    | nil=>exact .nil
    | cons=>cases e
   | cons i l ih=>intro us e h;cases us with
    | nil=>cases e
    | cons u us =>
     obtain⟨E,t,C,B⟩:=h 0 u rfl;cases C;exact .cons ⟨t,B⟩ (ih us (Nat.succ.inj e) λj u f=>h (j+1) u f)
  have V:=vs (List.range n) acc.toList (by rw[A,Ig]) λj u f=>by
   obtain⟨tk,rfl⟩:=d.2 j u (by rw[<-Ss];exact f);have k:j<n:=by have:=(Cv.mp f).1;omega
   exact⟨j,tk,by rw[List.getElem?_range k],by simp⟩
  refine⟨.ref _,_,g.laid (t':=tk) m (JK (BP (Ek _ rfl))) (show Ai X.prog X.w _ h' _ (.lst _) from ⟨by rw[Ax,Ig];exact Eh v (by decide),acc.toList,c,V,by rw[Array.toArray_toList];exact y⟩),Z,q _ (g.hok.fresh (JK (BP (Ek _ rfl))))⟩
end L2
namespace Fx
def Tr (di:W9)(e T:Y3)(cls fl:W3)(h:Heap):Prop:=∃oe vs oT ts,h.get? e=some oe/\(oe.cls=cls/\oe.dict=di)/\oe.data=.fields vs/\(vs[1]?=some (.ref T)/\vs[2]?=some .none)/\T≠e/\h.get? T=some oT/\oT.data=.fields ts/\ts[3]?=some fl/\3<ts.size
structure Kp (fs xs:U3) (h h':Heap):Prop where
 keep:∀b o,h.get? b=some o->b∉fs->b∉xs->h'.get? b=some o
 slot:∀b o,h.get? b=some o->b∉xs->∃sl,h'.get? b=some {o with slots:=sl}
 there:∀b o,h.get? b=some o->∃o',h'.get? b=some o'
section
variable {fs xs:U3}{h h1 h2:Heap}
theorem Kp.trans(p:Kp fs xs h h1)(q:Kp fs xs h1 h2):Kp fs xs h h2 where
 keep:=λb o e n m=>q.keep b o (p.keep b o e n m) n m
 slot:=λb o e m=>by
  obtain⟨g,a⟩:=p.slot b o e m;obtain⟨c,f⟩:=q.slot b _ a m;exact⟨c,f⟩
 there:=λb o e=>by
  obtain⟨d,a⟩:=p.there b o e;exact q.there b d a
theorem Kp.same(k:∀b o,h.get? b=some o->h1.get? b=some o):Kp fs xs h h1:=⟨λb o e _ _=>k b o e,λb o e _=>⟨o.slots,k b o e⟩,λb o e=>⟨o,k b o e⟩⟩
theorem Kp.new(o:Obj):Kp fs xs h (h.push o):=.same λ_ _ e=>CG _ e
theorem Kp.slots(p:Heap.SlotsOnly fs h h1):Kp fs xs h h1 where
 keep:=λb o e n _=>(p.2.1 b n).trans e
 slot:=λb o e _=>p.2.2 b o e
 there:=λb o e=>let ⟨_,q⟩:=p.2.2 b o e;⟨_,q⟩
theorem Kp.field{a:Y3}{o:Obj}{vs:U9}{f:Array Value->Array Value}(ha:a∈xs)(e:h.get? a=some o)(d:o.data=.fields vs):Kp fs xs h (h.update a (Obj.mapFields f)):=by
 have k:∀b u,b≠a->h.get? b=some u->(h.update a (Obj.mapFields f)).get? b=some u:=λb u n q=>(KR _ _ n.symm).trans q;have c:=KN (Obj.mapFields f) e (Obj.isFreed_of_fields (Obj.data_mapFields d f));exact⟨λb u q _ m=>k b u (λz=>m (z ▸ ha)) q,λb u q m=>⟨u.slots,k b u (λz=>m (z ▸ ha)) q⟩,λb u q=>(Classical.em (b=a)).elim (λz=>⟨o.mapFields f,by rw[z];exact c⟩) λz=>⟨u,k b u z q⟩⟩
theorem Kp.fresh(p:Kp fs xs h h1){b:Y3}(e:h1.get? b=none):h.get? b=none:=by
 cases q:h.get? b with
 | none=>rfl
 | some o=>obtain⟨o',a⟩:=p.there b o q;rw[e]at a;cases a
end
def Rec (h:Heap)(a:Y3)(o:Obj)(vs:U9):Prop:=h.get? a=some o/\o.data=.fields vs
variable{vs:U9}
theorem Rec.put{h:Heap}{a:Y3}{o:Obj}(r:Rec h a o vs)(f:Array Value->Array Value):Rec (h.update a (Obj.mapFields f)) a (o.mapFields f) (f vs):=
 ⟨KN _ r.1 (Obj.isFreed_of_fields (Obj.data_mapFields r.2 f)),Obj.data_mapFields r.2 f⟩
theorem Rec.off{h:Heap}{a b:Y3}{o:Obj}(r:Rec h a o vs)(n:a≠b)(f:Obj->Obj):Rec (h.update b f) a o vs:=⟨(KR _ _ n.symm).trans r.1,r.2⟩
theorem X2c(o:Obj)(f:Array Value->Array Value):(o.mapFields f).cls=o.cls/\(o.mapFields f).dict=o.dict:=by
 obtain⟨c,d,a,b⟩:=o;cases a<;>exact⟨Z,Z⟩
variable{e T:Y3}{oe:Obj}{fl:W3}
theorem Tr.of{h:Heap}{oT:Obj}{ts:U9}{cls:W3}(r:Rec h e oe vs)(c:oe.cls=cls/\oe.dict=di)(r':Rec h T oT ts)(n:T≠e)(v:vs[1]?=some (.ref T)/\vs[2]?=some .none)(t:ts[3]?=some fl)(z:3<ts.size):Tr di e T cls fl h :=
 ⟨oe,vs,oT,ts,r.1,c,r.2,v,n,r'.1,r'.2,t,z⟩
section
variable {M:Model}{A:Y0}{E:U2}{s:U7}
variable{base:Heap}{env:Env}{outer:List Env}{L:Y3}{Q:Unit->Shared->Prop}
theorem hung{head:W3}{b:Bool}{xs:U3}
  (ha:A.frames=some (env::outer)) (hf:s.heap.FunFrames base (env::outer)) (hl:env.frame=some L) (r:Rec s.heap e oe vs) (hd:oe.dict=di) (two:1<vs.size) (ctx:vs[2]?=some .none) (he:e∈xs)
  (k:∀h' T,s.heap.get? T=none->Tr di e T oe.cls .none h'->Kp ((env::outer).filterMap (·.frame)) xs s.heap h'->Q () {s with heap:=h'}):
  wpAny M A (do let a ← frameOf env;let i ← entryPlaceOf L b;let t ← EntryCells.newEntry head a .none (rawInt L) .none i;setField (.ref e) 1 t) (λ_ s'=>wpAny M A (setFlight (.ref e) none) Q E s') E s:=by
 have D:e∉(env::outer).filterMap (·.frame):=λz=>by
  obtain⟨_,o,q,n⟩:=hf.mem z;exact n vs (Option.some.inj (r.1.symm.trans q) ▸ r.2)
 refine Af (wpAny_frameOf_fun ha hf hl λh1 j=>Af (wpAny_entryPlaceOf λi place=>Af ?_));have C:Kp ((env::outer).filterMap (·.frame)) xs s.heap h1:=.slots j;have x:Rec h1 e oe vs:=⟨(j.2.1 e D).trans r.1,r.2⟩;have l:h1.objs.size≠e:=Hu (BP x.1);have new:s.heap.get? h1.objs.size=none:=C.fresh (Vr (Bf _));simp only[EntryCells.newEntry,newFields];refine Js ?_ (place.sizeOk5 _ _ _ _ _);obtain⟨o,F,ts,d,t3,tz⟩:∃o:Obj,o={ cls:=.type "traceback",dict:=none,data:=.fields ([head,.ref L,.none,rawInt L,.none]++(if i.isEmpty then List.replicate 6 Value.none else i)).toArray}/\∃ts:Array Value,o.data=.fields ts/\ts[3]?=some (rawInt L)/\3<ts.size:=by
  refine⟨_,Z,_,Z,?_,?_⟩
  ·rcases place with rfl | ⟨_,_,_,_,_,_,_,rfl⟩<;>simp
  ·simp only[Ci,DQ,Hv,Ky];omega
 rw[<-F];have h:Rec (h1.push o) e oe vs:=⟨CG _ x.1,x.2⟩;have G:Rec (h1.push o) h1.objs.size o ts:=⟨Ek _ (Obj.isFreed_of_fields d),d⟩;have p2:=C.trans (Kp.new o);refine Rz h.1 h.2 two ?_;have v:=h.put (·.setIfInBounds 1 (Value.ref h1.objs.size));have p:=G.off l (Obj.mapFields (·.setIfInBounds 1 (Value.ref h1.objs.size)));have y:=p2.trans (Kp.field (f:=(·.setIfInBounds 1 (Value.ref h1.objs.size))) he h.1 h.2);have B:(vs.setIfInBounds 1 (Value.ref h1.objs.size))[1]?=some (.ref h1.objs.size):=by simp[two]
 refine wpAny_setFlight_none v.1 v.2 B p.1 p.2 tz (k _ h1.objs.size new ?_ ?_)
 ·have c:=X2c oe (·.setIfInBounds 1 (Value.ref h1.objs.size));exact Tr.of (v.off l.symm _) ⟨c.1,c.2.trans hd⟩ (p.put _) l ⟨B,by rw[Array.getElem?_setIfInBounds_ne (by decide)];exact ctx⟩ (by simp[tz]) (by simpa using tz)
 ·have q:∀b u,b≠h1.objs.size->Heap.get? ((h1.push o).update e (Obj.mapFields (·.setIfInBounds 1 (Value.ref h1.objs.size)))) b=some u->Heap.get? (((h1.push o).update e (Obj.mapFields (·.setIfInBounds 1 (Value.ref h1.objs.size)))).update h1.objs.size (Obj.mapFields (·.setIfInBounds 3 .none))) b=some u:=λb u n z=>(KR _ _ n.symm).trans z;have g:∀b u,s.heap.get? b=some u->b≠h1.objs.size:=λb u z w=>by rw[w,new]at z;cases z
  exact⟨λb u z n m=>q b u (g b u z) (y.keep b u z n m),λb u z m=>let ⟨j,w⟩:=y.slot b u z m;⟨j,q b _ (g b u z) w⟩,λb u z=>let ⟨u',w⟩:=y.there b u z;⟨u',q b u' (g b u z) w⟩⟩
theorem flight{cls:W3}(t:Tr di e T cls fl s.heap)(k:∀h',Tr di e T cls .none h'->(∀b,b≠T->h'.get? b=s.heap.get? b)->Q () {s with heap:=h'}):wpAny M A (setFlight (.ref e) none) Q E s:=by
 obtain⟨oe,vs,oT,ts,d,c,f,v,n,a,t2,-,z⟩:=t;have r:Rec s.heap e oe vs:=⟨d,f⟩;have g:Rec s.heap T oT ts:=⟨a,t2⟩;exact wpAny_setFlight_none d f v.1 a t2 z (k _ (Tr.of (r.off n.symm _) c (g.put _) n v (by simp[z]) (by simpa using z)) λb m=>KR _ _ m.symm)
theorem lO
  (ha:A.frames=some (env::outer)) (hf:s.heap.FunFrames base (env::outer)) (hl:env.frame=some L) (e1:s.heap.get? e=some oe) (hd:oe.dict=di) (e2:oe.data=.fields vs) (one:vs[1]?=some .none) (ctx:vs[2]?=some .none)
  (k:∀h' T,s.heap.get? T=none->Tr di e T oe.cls .none h'->Kp ((env::outer).filterMap (·.frame)) [e] s.heap h'->Q () {s with heap:=h'}):wpAny M A (leaving env (.ref e)) Q E s:=by
 have r:Rec s.heap e oe vs:=⟨e1,e2⟩;unfold leaving noteFrame;simp only[hl];exact Af (Af (Ku e1 e2 one (hung ha hf hl r hd (jV.mp one).1 ctx (by simp) k)))
theorem fO{T0:Y3}{cls:W3}
  (ha:A.frames=some (env::outer)) (hf:s.heap.FunFrames base (env::outer)) (hl:env.frame=some L) (ht:Tr di e T0 cls .none s.heap)
  (k:∀h' T,s.heap.get? T=none->Tr di e T cls .none h'->Kp ((env::outer).filterMap (·.frame)) [e,T0] s.heap h'->Q () {s with heap:=h'}):wpAny M A (noteFrame (.ref e) env) (λ_ s'=>wpAny M A (setFlight (.ref e) none) Q E s') E s:=by
 obtain⟨oe,vs,oT,ts,j,⟨c,m⟩,i,⟨one,g⟩,n,d,t2,a,f⟩:=ht;have r:Rec s.heap e oe vs:=⟨j,i⟩;have u:Rec s.heap T0 oT ts:=⟨d,t2⟩;have p:Kp ((env::outer).filterMap (·.frame)) [e,T0] s.heap (s.heap.update T0 (Obj.mapFields (·.setIfInBounds 3 Value.none))):=.field (by simp) d t2
 have fr:Heap.FunFrames (s.heap.update T0 (Obj.mapFields (·.setIfInBounds 3 Value.none))) base (env::outer):=hf.of_keeps λb o q l=>⟨o,(KR _ _ λz=>by
  rw[<-z,d]at q;exact l ts (Option.some.inj q ▸ t2)).trans q,Z⟩
 unfold noteFrame;simp only[hl];refine Af (Ku j i one ?_);simp only[show (Value.ref T0 != Value.none)=true from rfl,Gj];refine Af (Ku d t2 a ?_);simp only[show (Value.none == rawInt L)=false from rfl,JN,FW];refine Af (Rz d t2 f ?_);refine hung (s:={s with heap:=s.heap.update T0 (Obj.mapFields (·.setIfInBounds 3 Value.none))}) (xs:=[e,T0]) ha fr hl (r.off n.symm _) m (jV.mp one).1 g (.head _) λh' T t h q=>?_;rw[c]at h;exact k h' T (p.fresh t) h (p.trans q)
theorem yd{T0:Y3}{cls:W3}
  (ha:A.frames=some (env::outer)) (hf:s.heap.FunFrames base (env::outer)) (hl:env.frame=some L) (ht:Tr di e T0 cls .none s.heap)
  (k:∀h' T,s.heap.get? T=none->Tr di e T cls .none h'->Kp ((env::outer).filterMap (·.frame)) [e,T0] s.heap h'->Q () {s with heap:=h'}):wpAny M A (leaving env (.ref e)) Q E s :=
 Af (fO ha hf hl ht k)
end
end Fx
namespace L2
open Fx
noncomputable def JG (P:U8)(w:W1):KC:=λouter H s E e s'=>∃(a T:Y3) (cls:W3) (di:W9) (H':Hp),e=.ref a/\s'.os=s.os/\AllBare s'.gens/\Un (frs outer) [] H H' s.heap s'.heap/\Ds P w H' s'.heap /\
 Tr di a T cls .none s'.heap/\s.heap.get? a=none/\s.heap.get? T=none/\H' a=none/\H' T=none/\E cls di H'
theorem Ai.get{P:U8}{w:W1}{H:Hp}{h:Heap}{a:Y3}{o:HO}(x:Ai P w H h a o):∃ob,h.get? a=some ob:=by
 cases o with
 | lst xs=>obtain⟨_,_,_,_,e⟩:=x;exact⟨_,e⟩
 | tup xs=>obtain⟨_,_,_,ob,e,_⟩:=x;exact⟨_,e⟩
 | dK kvs=>obtain⟨_,_,_,_,o,_,_,e,_⟩:=x;exact⟨_,e⟩
 | dT kvs=>obtain⟨_,_,_,_,o,_,_,e,_⟩:=x;exact⟨_,e⟩
 | set S n=>obtain⟨o,_,_,_,e,_⟩:=x;exact⟨_,e⟩
 | ins C dx fs=>obtain⟨_,_,_,e,_⟩:=x;exact⟨_,e⟩
 | own y=>obtain⟨_,e⟩:=x;exact⟨_,e⟩
 | xd fs=>obtain⟨_,⟨_,_,_,e,_⟩,_⟩:=x;exact⟨_,e⟩
 | rng lo hi=>obtain⟨_,_,_,e⟩:=x;exact⟨_,e⟩
 | frz ob u=>obtain⟨e,_⟩:=x;exact⟨_,e⟩
 | tbl ps=>exact⟨_,x⟩
 | met f y=>exact⟨_,x⟩
 | ext φ=>obtain⟨_,⟨_,e⟩,_⟩:=x;exact⟨_,e⟩
structure Ef (X:Cx) (E:XK):Prop where
 xe:∀e s',wpAny (model X.prog X.w) X.A (leaving X.env e) (λ_ s''=>JG X.prog X.w X.outer X.H₀ X.s₀ E e s'') (λe' s''=>JG X.prog X.w X.outer X.H₀ X.s₀ E e' s'') s'->X.xe e s'
 stk:X.stack=X.env::X.outer/\X.env.frame=some X.env.locals
 ex:X.ex=[]
section
variable {X:Cx}{pins:U1}{σ:St}{H:Hp}{s:U7}{E:XK}
theorem Inv.new0(I:Inv X pins σ H s)(F:Ef X E){b:Y3}(hb:s.heap.get? b=none):X.s₀.heap.get? b=none:=by
 cases q:X.s₀.heap.get? b with
 | none=>rfl
 | some o =>
  obtain⟨o',a⟩:=I.base.there b o q (by rw[F.ex];intro z;cases z);rw[hb]at a;cases a
theorem Inv.newH(I:Inv X pins σ H s){b:Y3}(hb:s.heap.get? b=none):H b=none:=by
 cases q:H b with
 | none=>rfl
 | some o =>
  obtain⟨c,a⟩:=Ai.get (I.hok b o q);rw[hb]at a;cases a
theorem Inv.left{h1 h':Heap}{e T:Y3}{xs:U3}{cls:W3}{di:W9}(I:Inv X pins σ H s)(F:Ef X E)(k1:∀b o,s.heap.get? b=some o->h1.get? b=some o)(hxs:∀b∈xs,X.s₀.heap.get? b=none/\H b=none)
  (kp:Kp ((X.env::X.outer).filterMap (·.frame)) xs h1 h') (he:X.s₀.heap.get? e=none/\H e=none) (hT:X.s₀.heap.get? T=none/\H T=none) (tr:Tr di e T cls .none h') (q:E cls di H):JG X.prog X.w X.outer X.H₀ X.s₀ E (.ref e) {s with heap:=h'}:=by
 have l:∀b,b∈(X.env::X.outer).filterMap (·.frame)->b=X.env.locals\/b∈X.fs:=λb d=>by
  have:=I.stkSub b (by rw[F.stk.1];exact d);exact Cz.mp this
 have r:∀b o,X.s₀.heap.get? b=some o->b≠X.env.locals:=λb o d z=>by
  have h1:=BP d;have h2:=I.ok.above;rw[z]at h1;exact JL _ (CK h1 h2)
 have f:∀b,b∉X.ex:=λb d=>by rw[F.ex]at d;cases d
 have i:∀b o,X.s₀.heap.get? b=some o->b∉xs:=λb o d g=>by rw[(hxs b g).1]at d;cases d
 refine⟨e,T,cls,di,H,Z,I.os,I.bare,⟨λb o d h k _=>?_,λb o d h k _=>?_,λb o d h _=>I.base.free b o d h (f b),λb o d _=>?_,I.base.tups,I.base.frzs,I.base.tbls⟩,λa o t=>?_,tr,he.1,hT.1,he.2,hT.2,q⟩
 ·have j:=I.base.keep b o d h k (f b);exact kp.keep b o (k1 b o j) (λg=>(l b g).elim (r b o d) k) (i b o d)
 ·obtain⟨A,j⟩:=I.base.slot b o d h k (f b);obtain⟨p,x⟩:=kp.slot b _ (k1 b _ j) (i b o d);exact⟨p,x⟩
 ·obtain⟨o',j⟩:=I.base.there b o d (f b);exact kp.there b o' (k1 b o' j)
 ·refine(I.hok a o t).stay (λc v y q=>?_) (λ_ q=>q) λ_ _ q=>q;have n:∃u,H c=some u:=by
   rcases y with z | z
   ·rw[z];exact⟨_,t⟩
   ·exact⟨_,z⟩
  obtain⟨u,m⟩:=n;refine kp.keep c v (k1 c v q) (λg=>?_) (λg=>by rw[(hxs c g).2]at m;cases m);have:=I.stkFree c (by rw[F.stk.1];exact g);rw[m]at this;cases this
theorem Inv.fly{h1:Heap}{e:Y3}{cls:W3}{args:U5}(I:Inv X pins σ H s)(F:Ef X E)(m:Heap.MadeExcOf s.heap h1 e cls args)(q:E cls none H):X.xe (.ref e) {s with heap:=h1}:=by
 refine F.xe _ _ ?_;obtain⟨t,i,_,_⟩:=m.there;have f:X.s₀.heap.get? e=none/\H e=none:=⟨I.new0 F m.new,I.newH m.new⟩;refine lO (base:=X.base) (outer:=X.outer) (s:={s with heap:=h1}) (by rw[I.ok.frames,F.stk.1]) ((by rw[<-F.stk.1];exact I.stack:s.heap.FunFrames X.base (X.env::X.outer)).of_keeps λb o d _=>⟨o,m.keeps b o d,Z⟩) F.stk.2 i rfl rfl rfl rfl λh' T h j g=>?_;have c:s.heap.get? T=none:=by
  cases q:s.heap.get? T with
  | none=>rfl
  | some o =>
   have a:h1.get? T=none:=h;rw[m.keeps T o q]at a;cases a
 exact Inv.left (s:=s) (h1:=h1) (h':=h') I F m.keeps (λb d=>by rw[Dg.mp d];exact f) g f ⟨I.new0 F c,I.newH c⟩ j q
theorem Inv.flyOn{E':XK}{e:W3}{s':U7}(I:Inv X pins σ H s)(F:Ef X E)(c:JG X.prog X.w X.stack H s E' e s')(hE:∀cls j H',E' cls j H'->E cls j H'):X.xe e s':=by
 obtain⟨a,T,cls,j,H1,rfl,os,f,un,k,t,l,p,m,r,q⟩:=c;have h:Inv X pins σ H1 s':=I.call' (ch:=[]) os un k f (λb d=>by cases d);refine F.xe _ _ ?_;refine yd (base:=X.base) (outer:=X.outer) (by rw[I.ok.frames,F.stk.1]) (by rw[<-F.stk.1];exact h.stack) F.stk.2 t λh' u g i n=>?_;refine Inv.left (s:=s') (h1:=s'.heap) (h':=h') h F (λb o d=>d) (λb d=>?_) n ⟨I.new0 F l,m⟩ ⟨h.new0 F g,h.newH g⟩ i (hE _ _ _ q);simp only[Cz,Ie,Ia]at d;rcases d with rfl | rfl
 ·exact⟨I.new0 F l,m⟩
 ·exact⟨I.new0 F p,r⟩
theorem Ef.passes{E':XK}(F:Ef X E)(hE:∀cls di H',E' cls di H'->E cls di H'):Passes (JG X.prog X.w) X E':=λpins σ H s e s' I c=>I.flyOn F c hE
theorem Fg{P:U8}{w:W1}{K:U0}{mg:U4}{base:Heap}{N:W0}{qual:Str}{scope:Scope}{f:Y3}{cd:W3}{A:Y0}{outer:List Env}{E:XK} :
  Ef (Du (JG P w) P w K mg base N qual scope f cd A outer s H E) E:=⟨λ_ _ h=>h,⟨Z,Z⟩,Z⟩
end
noncomputable abbrev I_:List Value:=[.type "ValueError",.type "Exception",.type "BaseException",.type "object"]
structure ExcAt (K:U0) (C:Y3) (bm:U5):Prop where
 ex:∃N nm q bs hdct sn sub ab col dd k0 k1 k2 k3 k5,K.lookup C=some (excClassObj nm q C N bs bm hdct sn sub ab col dd k0 k1 k2 k3 k5 "ValueError.__new__")/\PySem.W.nsOkIn K N=true/\PySem.W.nsIn K N "__init__"=some none
 tail:PySem.W.tailIn K I_ bm=true
theorem excAt{K:U0}{C N:Y3}{nm q:Str}{bs bm:U5}{hdct:Bool}{sn:W0}{sub:U5}{ab:Bool}{col:Option Bool}{dd:W9}{k0 k1 k2 k3 k5:Option Value}
  (l:K.lookup C=some (excClassObj nm q C N bs bm hdct sn sub ab col dd k0 k1 k2 k3 k5 "ValueError.__new__")) (o:PySem.W.nsOkIn K N=true) (n:PySem.W.nsIn K N "__init__"=some none) (t:PySem.W.tailIn K I_ bm=true):ExcAt K C bm :=
 ⟨⟨N,nm,q,bs,hdct,sn,sub,ab,col,dd,k0,k1,k2,k3,k5,l,o,n⟩,t⟩
section
variable {X:Cx}{E:XK}{x:Str}{C:Y3}{e:Expr}{es:List Expr}{t:TA}{np cpos pos:Pos}{bm:U5}
def M_ (E:XK)(C:Y3)(t:TA):TS:=λ_ σ H=>t σ H λvs H1=>vs.length<=sizeLine/\E (.ref C) none H1
theorem wO(F:Ef X E)(hc:X.calm=true)(hg:Gl X x)(hm:X.mg x=some (.ref C))(hx:ExcAt X.K C bm)(ha:PA X (e::es) t)(hdb:(x == ("__debug__":Str))=false:=by decide)
  (he:starEach (e::es) X.env=(false,eval e X.env)::starEach es X.env:=by rfl) (hpl:(backTo cpos (starEach es X.env)).any (·.1)=false:=by rfl):
  PS X (.Raise (some (.Call (.Name x np) (e::es) [] cpos)) none pos) (M_ E C t):=by
 intro pins s σ H D I h;obtain⟨N,nm,q,bs,hdct,sn,sub,ab,col,dd,k0,k1,k2,k3,k5,k,ok,f⟩:=hx.ex;have b:=I.ok.mod.kin;have g:=b _ _ k;have j:X.base.Ns N _:=.of_isNs (PySem.W.isNs_of_in b ok);have d:=PySem.W.nsMap_none_of_in b ok f;have T:=Sg b hx.tail;refine wpAny_Raise_call_subT (C:=C) (nm:=nm) (q:=q) (N:=N) (bs:=bs) (bm:=bm) (hdct:=hdct) (sn:=sn) (sub:=sub) (ab:=ab) (col:=col) (dd:=dd) (k0:=k0) (k1:=k1) (k2:=k2) (k3:=k3) (k5:=k5)
  N7 (T.hasType N7.hasBase) (I.ok.hd hc) (by rw[he];show (false || (backTo cpos (starEach es X.env)).any (·.1))=false;rw[hpl];rfl) d (J4 I hg hm ⟨Z,?_⟩ hdb)
 have h2:=ha cpos pins s σ H _ I h;rw[he]at h2 ⊢;refine Calls.evalArgs_plain (Dp h2 (λus s1 ⟨vs,H1,c,i,n,l⟩=>⟨Z,by rw[<-i.length];exact n,c.bk _ _ g,j.keeps c.bk,T.keeps c.bk,λh' a m=>c.fly F m l⟩) λ_ _ y=>y)
end
end L2
namespace PySem
section
variable {M:Model}{A:Y0}{E:U2}
theorem mF{h:Heap}{g:Array GenState}{d:Drawn}{t:Nat}{os:OsState}{e C D:Y3}{oe:Obj}{Q:Bool->Shared->Prop}
  {nm q:Str}{N:Y3}{bs bm:U5}{hdct:Bool}{sn:W0}{sub:U5}{ab:Bool}{col:Option Bool}{dd:W9}{k0 k1 k2 k3 k5:Option Value}{newId:String}
  {nm' q':Str}{N':Y3}{bs' bm':U5}{hdct':Bool}{sn':W0}{sub':U5}{ab':Bool}{col':Option Bool}{dd':W9}{k0' k1' k2' k3' k5':Option Value}{newId':String}
  (hC:h.get? C=some (excClassObj nm q C N bs bm hdct sn sub ab col dd k0 k1 k2 k3 k5 newId)) (hD:h.get? D=some (excClassObj nm' q' D N' bs' bm' hdct' sn' sub' ab' col' dd' k0' k1' k2' k3' k5' newId'))
  (he:h.get? e=some oe) (hcls:oe.cls=.ref C) (hbase:bm'.contains (.type "BaseException")=true) (hsub:(Value.ref C::bm).contains (.ref D)=true)
  (hq:Q true ⟨h,g,d,t,os⟩):wpAny M A (excMatches (.ref e) (.ref D)) Q E ⟨h,g,d,t,os⟩:=by
 have a:(Value.ref D::bm').contains (.type "BaseException")=true:=by rw[Vm,hbase,VP]
 have f:=tc_notTuple;unfold excMatches;repeat (first | (with_reducible refine K3 he ?_;rw[hcls]) | with_reducible refine K3 hD ?_ | (with_reducible refine QK hD ?_;rw[a]) | (with_reducible refine QK hC ?_;rw[hsub]) | wp_step)
 exact hq
end
end PySem
namespace L2
open Fx
noncomputable def Cd (di:W9)(a:Y3)(cls:W3):HO:=.ext λh=>∃o vs,h.get? a=some o/\(o.cls=cls/\o.dict=di)/\o.data=.fields vs/\vs[2]?=some .none
noncomputable def Xt (X:Cx)(pins:U1)(σ0:St)(E:XK):Cx:={X with pn:=X.pn++pins,xe:=λe s'=>∃H1 s1,Inv X pins σ0 H1 s1/\JG X.prog X.w X.stack H1 s1 E e s'}
variable{X:Cx}{pins:U1}{σ0 σ:St}{H:Hp}{s:U7}
theorem Inv.ofXt{p2:U1}{E:XK}(I:Inv (Xt X pins σ0 E) p2 σ H s):Inv X pins σ H s :=
 ⟨⟨I.ok.mod,I.ok.kind,I.ok.glob,I.ok.blt,I.ok.above,I.ok.inj,I.ok.has,I.ok.cab,I.ok.hd,I.ok.frames,I.ok.stk,I.ok.exf,I.ok.bs,I.ok.bsz,I.ok.noex,I.ok.exfs,I.ok.funs,I.ok.frf⟩,
  I.os,I.bare,I.base,I.loc,I.cell,I.free,I.freeC,λp hp=>I.pin p (JQ _ hp),I.hok,I.len⟩
theorem Inv.toXt{E:XK}(I:Inv X pins σ H s):Inv (Xt X pins σ0 E) [] σ H s :=
 ⟨⟨I.ok.mod,I.ok.kind,I.ok.glob,I.ok.blt,I.ok.above,I.ok.inj,I.ok.has,I.ok.cab,I.ok.hd,I.ok.frames,I.ok.stk,I.ok.exf,I.ok.bs,I.ok.bsz,I.ok.noex,I.ok.exfs,I.ok.funs,I.ok.frf⟩,
  I.os,I.bare,I.base,I.loc,I.cell,I.free,I.freeC,λp hp=>I.pin p (by rw[JM]at hp;exact hp),I.hok,I.len⟩
noncomputable def Xh (X:Cx)(a:Y3):Cx:={X with A:=X.A.mark (some (.ref a)),calm:=false,xe:=λ_ _=>False}
variable{a:Y3}
theorem Inv.toXh(I:Inv X pins σ H s):Inv (Xh X a) pins σ H s :=
 ⟨⟨I.ok.mod,I.ok.kind,I.ok.glob,I.ok.blt,I.ok.above,I.ok.inj,I.ok.has,I.ok.cab,(λz=>by cases z),I.ok.frames,I.ok.stk,I.ok.exf,I.ok.bs,I.ok.bsz,I.ok.noex,I.ok.exfs,I.ok.funs,I.ok.frf⟩,
  I.os,I.bare,I.base,I.loc,I.cell,I.free,I.freeC,I.pin,I.hok,I.len⟩
theorem Inv.ofXh(ok:X.Ok)(I:Inv (Xh X a) pins σ H s):Inv X pins σ H s :=
 ⟨ok,I.os,I.bare,I.base,I.loc,I.cell,I.free,I.freeC,I.pin,I.hok,I.len⟩
theorem Inv.landed{H1 H':Hp}{s1 s':U7}{T T':Y3}{cls:W3}{h':Heap}(I:Inv X pins σ H1 s1)(os:s'.os=s1.os)(bare:AllBare s'.gens)(un:Un (frs X.stack) [] H1 H' s1.heap s'.heap)(hok:Ds X.prog X.w H' s'.heap)
  (kp:Kp (frs X.stack) [a,T] s'.heap h') (na:s1.heap.get? a=none) (nT:s1.heap.get? T=none) (ha:H' a=none) (hT:H' T=none) (tr:Tr di a T' cls .none h'):Inv X pins σ (upd H' a (Cd di a cls)) { s' with heap:=h'}:=by
 obtain⟨oe,vs,oT,ts,x,E,C,h1,D,A,G,H,hz⟩:=tr;have nx:∀b o,s1.heap.get? b=some o->b∉[a,T]:=λb o e h=>by
  simp only[Cz,Ie,Ia]at h;rcases h with rfl | rfl
  ·rw[na]at e;cases e
  ·rw[nT]at e;cases e
 have f:∀b u,H' b=some u->b≠a:=λb u e z=>by rw[z,ha]at e;cases e
 have p:∀b,b∈frs X.stack->H' b=none:=λb e=>by
  obtain⟨_,o,B,_⟩:=I.stack.mem e;exact un.free b o B (I.stkFree b e) (by intro z;cases z)
 refine I.call' (ch:=[]) (s':={ s' with heap:=h'}) os ⟨λb o e j m ox=>?_,λb o e j m ox=>?_,λb o e j ox=>?_,λb o e ox=>?_,λb xs e=>?_,λb o u e=>?_,λb ps e=>?_⟩ (λc o g=>?_) bare (λb e=>by cases e)
 ·exact kp.keep b o (un.keep b o e j m ox) m (nx b o e)
 ·obtain⟨J,q⟩:=un.slot b o e j m ox;obtain⟨s,n⟩:=kp.slot b _ q (nx b o e);exact⟨s,n⟩
 ·rw[BK (λz=>nx b o e (by simp[z]))];exact un.free b o e j ox
 ·obtain⟨o',q⟩:=un.there b o e ox;exact kp.there b o' q
 ·have:=un.tups b xs e;rw[BK (f b _ this)];exact this
 ·have:=un.frzs b o u e;rw[BK (f b _ this)];exact this
 ·obtain⟨l,this⟩:=un.tbls b ps e;exact⟨l,by rw[BK (f b _ this)];exact this⟩
 ·by_cases hca:c=a
  ·subst hca;rw[Aj]at g;cases g;exact⟨⟨oe,vs,x,E,C,h1.2⟩,⟨oe,x⟩,λh1 h2 ⟨o,vs,F,n,y⟩ k=>⟨o,vs,k o F,n,y⟩⟩
  ·rw[BK hca]at g;refine(hok c o g).stay (λd v t q=>?_) (λb q=>by rw[BK (f b _ q)];exact q) λb xs q=>by rw[BK (f b _ q)];exact q
   have r:∃u,H' d=some u:=by
    rcases t with z | z
    ·rw[z];exact⟨_,g⟩
    ·exact⟨_,z⟩
   obtain⟨u,i⟩:=r;refine kp.keep d v q (λh=>?_) (λh=>?_)
   ·rw[p d h]at i;cases i
   ·simp only[Cz,Ie,Ia]at h;rcases h with rfl | rfl
    ·rw[ha]at i;cases i
    ·rw[hT]at i;cases i
theorem Inv.blank{h':Heap}{m':U4}{tk:Nat}(I:Inv X pins σ H s)(hn:h'.Ns X.env.locals m')(hs:Heap.SameBut X.env.locals s.heap h'):Inv X pins (List.replicate X.N.length none) H {s with heap:=h',toks:=tk}:=by
 have a:∀b o,X.s₀.heap.get? b=some o->b≠X.env.locals:=λb o e=>B_ (CK (BP e) I.ok.above);refine⟨I.ok,I.os,I.bare,⟨λb o e n g nx=>?_,λb o e n g nx=>?_,I.base.free,λb o e nx=>?_,I.base.tups,I.base.frzs,I.base.tbls⟩,⟨m',hn,λi x v k1 f y=>?_⟩,λx c e=>?_,I.free,I.freeC,λp hp=>?_,λb r e=>?_,by simp⟩
 ·exact(hs.2 b (a b o e)).trans (I.base.keep b o e n g nx)
 ·obtain⟨j,k1⟩:=I.base.slot b o e n g nx;exact⟨j,(hs.2 b (a b o e)).trans k1⟩
 ·obtain⟨o',k1⟩:=I.base.there b o e nx;exact⟨o',(hs.2 b (a b o e)).trans k1⟩
 ·rw[jM]at f;split at f<;>cases f
 ·obtain⟨v,o,l,m⟩:=I.cell x c e;exact⟨v,o,(hs.2 c (I.cne x c e)).trans l,m⟩
 ·obtain⟨w,k,h,u,t⟩:=I.pin p hp;exact⟨(hs.2 _ h).trans w,k,h,u,t⟩
 ·refine(I.hok b r e).stay (λc z d q=>(hs.2 c ?_).trans q) (λ_ q=>q) λ_ _ q=>q;rintro rfl;rcases d with rfl | d
  ·rw[I.free]at e;cases e
  ·rw[I.free]at d;cases d
section
variable {X:Cx}{E:XK}
end
end L2
namespace PySem.W
open PySem.Calls Builtin Builtin.ObjectAttr
noncomputable def Bv:List Value->Bool
 | .ref _::r=>Bv r
 | [.type a,.type b,.type c,.type d]=>a == "ValueError" && b == "Exception" && c == "BaseException" && d == "object"
 | _=>false
theorem sE{l:U5}(e:Bv l=true):(∃c r,l=.ref c::r/\Bv r=true)\/l=[.type "ValueError",.type "Exception",.type "BaseException",.type "object"]:=by
 unfold Bv at e;split at e
 ·exact .inl ⟨_,_,Z,e⟩
 ·simp only[P_,beq_iff_eq]at e;obtain⟨⟨⟨rfl,rfl⟩,rfl⟩,rfl⟩:=e;exact .inr rfl
 ·cases e
theorem kJ(self:W3):∀{l:U5},Bv l=true->refuseLoop self "__setattr__" l=pure ()
 | [],e=>by cases e
 | v::r,e=>by
  rcases sE e with ⟨c,r',q,e'⟩ | q
  ·obtain⟨rfl,rfl⟩:=List.cons.inj q;rw[refuseLoop_ref];exact kJ self e'
  ·rw[q];exact PySem.F.store_ValueError.passes self
theorem sG:∀{l:U5},Bv l=true->l.contains (.type "object")=true
 | [],e=>by cases e
 | v::r,e=>by
  rcases sE e with ⟨c,r',q,e'⟩ | q
  ·obtain⟨rfl,rfl⟩:=List.cons.inj q;rw[Vm,sG e',VP]
  ·rw[q];rfl
section
variable {prog:U8}{w:W1}{A:Y0}{E:U2}{K:Frag}{x C:Y3}{s:U7}{R:Result->Shared->Prop}
variable{name:Str}{v:W3}
theorem kE{ox:Obj}{od:Option Obj}{tk:Tok}(X:K.In s.heap)(I:InstAt s.heap x ox C od)(hp:((clsIn K C).any λcd=>Bv cd.mro)=true)(ht:findIn K (.ref C) name=some none)
  (h:∀b,wpAny (model prog w) A.in1 (storeInOwnDict (.ref x) (.ref C) (.str name tk) name v b)
   (λd s'=>match d with | .done f=>R (.ok f) s' | .again c'=>c'.quiet=true/\codeAny (model prog w) A c' R s') (λe s'=>R (.error e) s') s):
  codeAny (model prog w) A (.call (.builtin "object.__setattr__") ⟨[.ref x,.str name tk,v],[]⟩) R s:=by
 have a:=PySem.F.store_object;obtain⟨cd,g,c⟩:=any_some hp;have i:cd.mro.isEmpty=false:=by cases q:cd.mro with | nil=>rw[q]at c;cases c | cons _ _=>rfl
 have sub:Looks (model prog w) s.heap (isInstance (.ref x) (.type "object")) true:=I.type.andThen (looks_mroIn X (by unfold mroIn;rw[g,Option.bind_some,if_neg (by rw[i];decide),sG c]));refine Yc a.slot.plain a.entry (@check_slot (model prog w) _ _ s "object.__setattr__" "object" "__setattr__" (.ref x) [.str name tk,v] [] _ a.kind a.split sub (a.args (.ref x) (.str name tk) v) ?_);have j:Looks (model prog w) s.heap (mroOf (.ref C)) cd.mro:=(looks_clsIn X g).andThen .now;rw[osa_eq,refuse_eq];refine Af (Af (I.type.here (Af (j.here ?_))));rw[kJ _ c];have L3:Looks (model prog w) s.heap (storeTaker? none) none:=.now;refine Aq (Af (I.type.here (Af ((Rt X ht).here (Af (L3.here ?_))))));exact h _
theorem Ip{ox:Obj}{Q:Unit->Shared->Prop}(X:K.In s.heap)(I:InstAt s.heap x ox C none)(hd:ox.dict=none)(hf:ox.isFreed=false)
  (n:findIn K (.ref C) "__setattr__"=some (some (.builtin "object.__setattr__"))) (hp:((clsIn K C).any λcd=>Bv cd.mro)=true) (ht:findIn K (.ref C) name=some none) (hh:hasDictIn K C=true)
  (h:∀h':Heap,h'.get? x=some {ox with dict:=some s.heap.objs.size}->h'.Ns1 s.heap.objs.size (λy=>if y=name then some v else none)->(∀b o,b≠x->s.heap.get? b=some o->h'.get? b=some o)->Q () {s with heap:=h',toks:=s.toks+2}):
  wpAny (model prog w) A (setAttr (.ref x) name v) Q E s:=by
 refine set_plain X I n (kE (s:={s with toks:=s.toks+1}) X I hp ht λb=>?_);obtain⟨cd,S,H⟩:=any_some hh;have D:=I.at_;have N:=I.no;obtain⟨c,g,d,t,os⟩:=s;obtain⟨R,O,i,F⟩:=ox;cases hd;cases (show R=Value.ref C from I.cls);have k:x≠c.objs.size:=B_ (BP D);have l:(c.push { cls:=.type "dict",data:=.dict #[]}).get? x=some ⟨.ref C,none,i,F⟩:=CG _ D;have z:((c.push { cls:=.type "dict",data:=.dict #[]}).update x λo=>{ cls:=o.cls,dict:=some c.objs.size,data:=o.data,slots:=o.slots}).get? c.objs.size=some { cls:=.type "dict",data:=.dict #[]} :=
  (YS _ _ _ _ k.symm).trans (Heap.get?_push_at rfl rfl)
 have q:((c.push { cls:=.type "dict",data:=.dict #[]}).update x λo=>{ cls:=o.cls,dict:=some c.objs.size,data:=o.data,slots:=o.slots}).Ns c.objs.size (λ_=>none):=
  ⟨_,#[],_,z,Z,λe P=>absurd P (by simp),λ_=>rfl⟩
 refine Af (Aq (Af (Af (wpAny_loadPart D (Af (Looks.here (s:=⟨c,g,d,t+1,os⟩) (looks_clsIn X S) ?_))))));rw[H,if_neg (by decide),if_neg (by simp[typeHasDict])]
 have j:wpAny (model prog w) A.in1 (do
   let d ← alloc { cls:=Value.type "dict",data:=Data.dict #[]}
   update x λo=>{ cls:=o.cls,dict:=some d,data:=o.data,slots:=o.slots}
   dictMade (Value.ref C) x d) (λa s'=>wpAny (model prog w) A.in1 (match a with
    | some d_1=>storeInDict d_1 (Value.str name t) name v
    | none=>noDictFor (Value.ref x) (Value.ref C) name b)
    (λj s'=>match j with
     | Fin.done f=>(match (Except.ok f:Result) with
      | Except.ok (Flow.ret v)=>Q () s'
      | Except.ok a=>False
      | Except.error e=>E e s')
     | Fin.again c'=>c'.quiet=true/\codeAny (model prog w) A c' (λr s'=>match r with
         | Except.ok (Flow.ret v)=>Q () s'
         | Except.ok a=>False
         | Except.error e=>E e s') s') (λe s'=>E e s') s') (λe s'=>E e s') ⟨c,g,d,t+1,os⟩:=by
  refine Af (wpAny_alloc' (Af (wpAny_update' l (Aq ?_))));show wpAny _ _ (storeInDict c.objs.size (.str name t) name v) _ _ _;unfold storeInDict newKeyGuard;refine Af (Aq (Af (wpAny_nsSet1 (Heap.Ns1.of_empty q) λh' m n=>?_)));obtain⟨T,M,L,u,p,G⟩:=m.count (Within.cons name v Within.nil);refine Af (wpAny_lookBehind u (by rw[p];exact pastItsLine_dict (Eh G (by rw[Hv,Ky,Nm];omega))) ?_);refine Aq (h h' ?_ m λb o B J=>?_)
  ·refine(n.2 x k).trans (KN _ l ?_);cases i<;>first | rfl | exact hf
  ·exact(n.2 b (B_ (BP J))).trans ((YS _ _ _ _ B).trans (CG _ J))
 cases i<;>first | exact j | cases N
end
end PySem.W
namespace PySem.W
open PySem.Calls
structure Ep (K:Frag) (D:Y3):Prop where
 ga:findIn K (.ref D) "__getattribute__"=some (some (.builtin "BaseException.__getattribute__"))
 gt:findIn K (.ref D) "__getattr__"=some none
 ff:∀od,findObj K D od "__class__"=some (.bind (.builtin "getset_descriptor.__get__") (.builtin "object.__class__"))
 ob:mroIn K D (.type "object")=some true
 be:kitCls K (.ref D) (.type "BaseException")=some true
 me:kitCls K (.ref D) (.ref D)=some true
 dc:hasDictIn K D=true
section
variable {prog:U8}{w:W1}{A:Y0}{E:U2}{K:Frag}{x D:Y3}{ox:Obj}{od:Option Obj}
variable{s:U7}{Q:Fin->Shared->Prop}
theorem vR{tk:Tok}(g:Ep K D)(X:K.In s.heap)(I:InstAt s.heap x ox D od)(q:Q (.done (.ret (.ref D))) s):
  wpAny (model prog w) A (Builtin.«object.__getattribute__» ⟨[.ref x,.str "__class__" tk],[]⟩) Q E s:=by
 have b:=I.type (M:=model prog w);have a:=looks_find (M:=model prog w) X I (g.ff od);unfold Builtin.«object.__getattribute__»;refine Af (Aq (Af (Aq (Af (b.at (Af (a.at ?_)))))));show wpAny _ _ (Builtin.ObjectAttr.bindTo _ _ _ _) _ _ _;unfold Builtin.ObjectAttr.bindTo;show wpAny _ _ (holding [Value.builtin "object.__class__"] (call (Value.builtin "getset_descriptor.__get__") [Value.builtin "object.__class__",Value.ref x,Value.ref D]) >>= ret) _ _ _;exact Af (G4 (Ks (class_get (ox:=ox) (od:=od) X I g.ob (Aq q))))
variable{name:Str}{v:W3}
theorem xU{tk:Tok}(X:K.In s.heap)(I:InstAt s.heap x ox D od)(hf:findObj K D od name=some (.value v))(q:Q (.done (.ret v)) s):
  wpAny (model prog w) A (Builtin.«object.__getattribute__» ⟨[.ref x,.str name tk],[]⟩) Q E s:=by
 have b:=I.type (M:=model prog w);have a:=looks_find (M:=model prog w) X I hf;unfold Builtin.«object.__getattribute__»;refine Af (Aq (Af (Aq (Af (b.at (Af (a.at ?_)))))));exact Aq q
theorem xR{Q:Option Value->Shared->Prop}(g:Ep K D)(X:K.In s.heap)(I:InstAt s.heap x ox D od)(q:Q (some (.ref D)) {s with toks:=s.toks+1}):wpAny (model prog w) A (getAttr? (.ref x) "__class__") Q E s:=by
 have c:=I.type (M:=model prog w);have i:=Rt (M:=model prog w) X g.ga;have e:=Rt (M:=model prog w) X g.gt;have L3:=(kit_cls (M:=model prog w) X g.be).2.2;have h:=Vw.ga.bind (.ref x);unfold getAttr? getAttrBy? getAttrBy;refine Af (wpAny_mkText (Af (Rw (G4 (Af (c.at (Af (i.at ?_))))))));show wpAny _ _ (getAttrByItsOwn _ _ _ _ _ _) _ _ _;unfold getAttrByItsOwn;refine Af (e.at (Af (Rw (G4 ?_))));show wpAny _ _ (boundAndCalled _ _ _) _ _ _;unfold boundAndCalled;rw[h];refine Af (Aq (Ks (Yc Vw.ga.plain F.entry_bexc_ga ?_)));have d:builtinKind "BaseException.__getattribute__"=some .slot:=by decide +kernel
 have b:splitId "BaseException.__getattribute__"=some ("BaseException","__getattribute__"):=by decide +kernel
 have f:=F.args_bexc_ga (.ref x) (.str "__class__" s.toks);simp only[checkBuiltinCall,d,b];refine Af (Af (c.at (L3.at ?_)));refine V5 (a:=()) f ?_;exact vR (s:={s with toks:=s.toks+1}) g X I (handed_on rfl (Aq q))
theorem K9{expr:Bool}{Q:U2}(g:Ep K D)(X:K.In s.heap)(I:InstAt s.heap x ox D od)(hf:findObj K D od name=some (.value v))(hh:handedIn v=true)(q:Q v {s with toks:=s.toks+1}):
  wpAny (model prog w) A (getAttr (.ref x) name expr) Q E s:=by
 have d:=I.type (M:=model prog w);have j:=Rt (M:=model prog w) X g.ga;have f:=Rt (M:=model prog w) X g.gt;have L3:=(kit_cls (M:=model prog w) X g.be).2.2;have i:=Vw.ga.bind (.ref x);unfold getAttr getAttrBy;refine Af (wpAny_mkText (G4 (Af (d.at (Af (j.at ?_))))));show wpAny _ _ (getAttrByItsOwn _ _ _ _ _ _) _ _ _;unfold getAttrByItsOwn;refine Af (f.at (Af (Rw (G4 ?_))));have c:(expr && onTheHeap (Value.builtin "BaseException.__getattribute__"))=false:=by cases expr<;>rfl
 unfold callGetattribute;rw[c];show wpAny _ _ (boundAndCalled _ _ _) _ _ _;unfold boundAndCalled;rw[i];refine Af (Aq (Ks (Yc Vw.ga.plain F.entry_bexc_ga ?_)));have e:builtinKind "BaseException.__getattribute__"=some .slot:=by decide +kernel
 have b:splitId "BaseException.__getattribute__"=some ("BaseException","__getattribute__"):=by decide +kernel
 have h:=F.args_bexc_ga (.ref x) (.str name s.toks);simp only[checkBuiltinCall,e,b];refine Af (Af (d.at (L3.at ?_)));refine V5 (a:=()) h ?_;refine xU (s:={s with toks:=s.toks+1}) X I hf ?_;show wpAny _ _ (handedOut v) _ _ _;rw[handedOut_of hh];exact Aq q
theorem Iz(g:Ep K D):KitX K (.ref x) (.ref D) (λh=>∃ox od,InstAt h x ox D od) where
 ty:=λ_ _ _ p=>p.elim λ_ p=>p.elim λ_ I=>I.type
 it:=λ_ _ X _=>(kit_cls X g.me).2.1
 ne:=λh tp dd its n c X b=>by
  refine Bool.eq_false_iff.mpr λq=>?_;obtain rfl:D=tp:=Value.ref.inj (beq_iff_eq.mp q);obtain⟨cd,a,_⟩:=any_some g.dc;unfold clsIn at a;split at a
  ·rename_i c' d' cd' sl' ho;cases (X _ _ ho).symm.trans b
  ·cases a
 ca:=λX p k=>p.elim λ_ p=>p.elim λ_ I=>xR g X I k
end
end PySem.W
namespace L2
noncomputable def jk:V->Option Value
 | .ty T=>some (.type T)
 | .ref D=>some (.ref D)
 | _=>none
def Dx (H:Hp)(di:W9):Prop:=∀dx,di=some dx->∃fs,H dx=some (.xd fs)
section
variable {X:Cx}{pins:U1}{σ:St}{H:Hp}{s:U7}
theorem X6s{a C:Y3}{di:W9}(I:Inv X pins σ H s)(hH:H a=some (Cd di a (.ref C)))(hd:Dx H di):∃o od,PySem.W.InstAt s.heap a o C od/\o.dict=di:=by
 obtain⟨⟨o,vs,d,⟨e,b⟩,f,_⟩,_,_⟩:=(show Ai X.prog X.w H s.heap a (Cd di a (.ref C)) from I.hok a _ hH);have c:PySem.W.notCls o=true:=by unfold PySem.W.notCls;rw[f]
 cases di with
 | none=>exact⟨o,none,⟨d,e,c,by rw[b];trivial⟩,b⟩
 | some dx =>
  obtain⟨fs,g⟩:=hd dx rfl;obtain⟨mA,⟨od,es,ep,h,_⟩,_⟩:=(show Ai X.prog X.w H s.heap dx (.xd fs) from I.hok dx _ g);exact⟨o,some od,⟨d,e,c,by rw[b];exact h⟩,b⟩
theorem J6:Bu X (.builtin "isinstance") (λxs H Q=>∃a d C c cv b,xs=[.ref a,c]/\H a=some (Cd d a (.ref C))/\Dx H d/\PySem.W.Ep X.K C/\jk c=some cv/\PySem.W.kitOne X.K (.ref C) cv=some b/\Q (.bl b) H):=by
 intro pins s σ H xs us Q I r h;obtain⟨a,d,C,c,cv,b,rfl,l,j,g,f,e,q⟩:=h;obtain⟨u,v,rfl,i,k⟩:=r.two;cases i;have m:v=cv:=by
  cases c<;>first | (cases f;cases k;rfl) | cases f
 subst m;obtain⟨o,od,J,_⟩:=X6s I l j;exact Ir (PySem.W.Iz g) I.kIn ⟨o,od,J⟩ e (λz=>nomatch z) λtk=>⟨.bl b,H,I.tok tk,Z,q⟩
def Ln (K:U0)(ta:TE)(f:Str):TE:=λσ H Q=>ta σ H λx H1=>∃a dx C fs v,x=.ref a/\H1 a=some (Cd (some dx) a (.ref C))/\H1 dx=some (.xd fs)/\PySem.W.Ep K C/\Bj K C f/\fs.lookup f=some v/\Q v H1
theorem X2h{e:Expr}{f:Str}{pos:Pos}{ta:TE}(he:PE X e ta)(hb:attributeBase e f X.env (eval e X.env)=eval e X.env):PE X (.Attribute e f pos) (Ln X.K ta f):=by
 intro pins s σ H Q I h;refine X3u hb (A_ (he pins s σ H _ I h) λu s1 ⟨x,H1,c,t,a,dx,C,fs,v,ex,m,y,g,n,l,q⟩=>?_);subst ex;obtain rfl:u=Value.ref a:=t;obtain⟨⟨o,vs,A,⟨j,d⟩,r,_⟩,_,_⟩:=(show Ai X.prog X.w H1 s1.heap a (Cd (some dx) a (.ref C)) from c.hok a _ m);obtain⟨mA,ns,k⟩:=(show Ai X.prog X.w H1 s1.heap dx (.xd fs) from c.hok dx _ y);obtain⟨w,p,b⟩:=Eo.some_of (v:=v) (o:=mA f) (by rw[<-l];exact k f);have i:PySem.W.notCls o=true:=by unfold PySem.W.notCls;rw[r]
 obtain⟨od,z,B⟩:=j7 ns;have J:PySem.W.InstAt s1.heap a o C (some od):=⟨A,j,i,by rw[d];exact z⟩;exact PySem.W.K9 g c.kIn J (PySem.W.findObj_own g.dc n rfl (by rw[B,p])) (xW b) ⟨v,H1,c.tok _,b,q⟩
end
end L2
namespace PySem
open PySem.Sem (wp)
section
variable {prog:U8}{w:W1}{A:Y0}{E:U2}{h:Heap}{g:Array GenState}{d:Drawn}{t:Nat}{os:OsState}
variable {nm q:Str}{C N:Y3}{bs bm bmB:U5}{hdct:Bool}{sn:W0}{sub:U5}{ab:Bool}{col:Option Bool}{dd:W9}{k0 k1 k2 k3 k5:Option Value}{B newId initId:String}
theorem vD(F:ExcBaseFacts B newId initId bmB)(T:OwnTail h bmB bm){mN:U4}{rest:U5}{fI:Y3}{oI:Obj}{Q:Fin->Shared->Prop}
  (hC:h.get? C=some (excClassObj nm q C N bs bm hdct sn sub ab col dd k0 k1 k2 k3 k5 newId)) (hn:h.Ns N mN) (hi:mN "__init__"=some (.ref fI))
  (hfI:h.get? fI=some oI) (hfc:oI.cls=.type "function")
  (hq:∀h' e,Heap.MadeExcOf h h' e (.ref C) rest ->
   wpAny (model prog w) A (call (.ref fI) (.ref e::rest)) (λr s'=>r=.none/\Q (.done (.ret (.ref e))) s') E ⟨h',g,d,t,os⟩) (hrest:rest.length<=sizeLine:=by size_fits):
  wpAny (model prog w) A (Builtin.«type.__call__» ⟨.ref C::rest,[]⟩) Q E ⟨h,g,d,t,os⟩:=by
 repeat (first | with_reducible refine K3 hC ?_ | with_reducible refine wpAny_madeBy_exc hC ?_ | wp_step)
 refine codeAny_call_builtin_code (Code.quiet_builtin _ F.quiet) (wpAny_check_new_subT F T hC ?_);refine codeAny_exc_new_subT F T hC ?_ hrest;show wpAny _ _ _ _ _ _;have f:=CG { cls:=.ref C,data:=.fields #[.ref h.objs.size,.none,.none,.none,.bool false,.none]}
  (CG { cls:=.type "tuple",data:=.seq rest.toArray} hC)
 have c:=CG { cls:=.ref C,data:=.fields #[.ref h.objs.size,.none,.none,.none,.bool false,.none]}
  (CG { cls:=.type "tuple",data:=.seq rest.toArray} hfI)
 have j:((h.push { cls:=.type "tuple",data:=.seq rest.toArray}).push { cls:=.ref C,data:=.fields #[.ref h.objs.size,.none,.none,.none,.bool false,.none]}).Ns N mN :=
  let ⟨o,es,ep,e,r⟩:=hn;⟨o,es,ep,CG _ (CG _ e),r⟩
 have a:((h.push { cls:=.type "tuple",data:=.seq rest.toArray}).push
   { cls:=.ref C,data:=.fields #[.ref h.objs.size,.none,.none,.none,.bool false,.none]}).get? (h.objs.size+1)=some
   { cls:=.ref C,data:=.fields #[.ref h.objs.size,.none,.none,.none,.bool false,.none]}:=by heap_get
 have i:(Value.ref C::bm).contains (.ref C)=true:=by simp
 have l:=T.keeps (h':=(h.push { cls:=.type "tuple",data:=.seq rest.toArray}).push { cls:=.ref C,data:=.fields #[.ref h.objs.size,.none,.none,.none,.bool false,.none]})
  λb o e=>CG _ (CG _ e)
 unfold isInstance;repeat (first | with_reducible refine K3 a ?_ | (with_reducible refine QK f ?_;rw[i]) | wp_step)
 show wpAny _ _ (typeLookup (.ref C) _) _ _ _;refine wpAny_typeLookup_tail f j l F.mroIs F.init.lookup ?_;rw[hi];refine G4 (Af ?_);unfold bindSpecial;refine Af (wpAny_typeOf (T:="function") ⟨_,c,hfc⟩ ?_);rw[if_pos (by decide)];refine Aq (Af (Dp (hq _ (h.objs.size+1) ⟨λb o n=>CG _ (CG _ n),Vr (Nk _),h.objs.size,a,Vr (Bf _),?_⟩) (λr s' m=>?_) λ_ _ x=>x))
 ·exact CG _ (Heap.get?_push_at rfl rfl)
 ·obtain⟨rfl,k⟩:=m;wp_walk;exact k
theorem vC(F:ExcBaseFacts B newId initId bmB)(T:OwnTail h bmB bm){mN:U4}{rest:U5}{fI:Y3}{oI:Obj}{Q:U2}
  (hC:h.get? C=some (excClassObj nm q C N bs bm hdct sn sub ab col dd k0 k1 k2 k3 k5 newId)) (hn:h.Ns N mN) (hi:mN "__init__"=some (.ref fI))
  (hfI:h.get? fI=some oI) (hfc:oI.cls=.type "function")
  (hq:∀h' e,Heap.MadeExcOf h h' e (.ref C) rest ->
   wpAny (model prog w) (A.under (.builtin "type.__call__" ⟨.ref C::rest,[]⟩)) (call (.ref fI) (.ref e::rest)) (λr s'=>r=.none/\Q (.ref e) s') E ⟨h',g,d,t,os⟩) (hrest:rest.length<=sizeLine:=by size_fits):
  wpAny (model prog w) A (call (.ref C) rest) Q E ⟨h,g,d,t,os⟩:=by
 have f1:=tc_lookup;have b:=tc_bind (.ref C);have c:(⟨h,g,d,t,os⟩:U7).TypeIs (.ref C) "type":=⟨_,hC,Z⟩;refine Ks (codeAny_of_tree ?_);show wpAny _ _ (callAny (.ref C) _) _ _ _;repeat (any_goals (first | assumption | with_reducible refine K3 hC ?_ | wp_step))
 refine⟨Z,?_⟩;refine codeAny_call_builtin_at (Code.quiet_builtin _ (by decide +kernel)) entry_typeCall (wpAny_check_type_call_sub hC (vD (hrest:=hrest) F T hC hn hi hfI hfc λh' e a=>?_));exact hq h' e a
end
end PySem
namespace PySem
section
variable {M:Model}{A:Y0}{E:U2}{env:Env}
variable {nm q:Str}{C N:Y3}{bs bm:U5}{hdct:Bool}{sn:W0}{sub:U5}{ab:Bool}{col:Option Bool}{dd:W9}{k0 k1 k2 k3 k5:Option Value}{newId:String}
theorem uh{s:U7}{x:Sem Value}{Q:Flow->Shared->Prop}(hbase:bm.contains (.type "BaseException")=true)(hh:A.handled=none)
  (h:wpAny M A x (λv a=>∃e o,v=.ref e/\a.heap.get? C=some (excClassObj nm q C N bs bm hdct sn sub ab col dd k0 k1 k2 k3 k5 newId) /\
   a.heap.get? e=some o/\o.cls=.ref C/\(∃vs,o.data=.fields vs/\vs[1]?=some .none)/\E (.ref e) a) E s):
  wpAny M A (raiseStmt env (some x) none) Q E s:=by
 have f:(Value.ref C::bm).contains (.type "BaseException")=true:=by rw[Vm,hbase,VP]
 unfold raiseStmt;refine Af (Dp h (λv a j=>?_) λ_ _ x=>x);obtain⟨e,⟨cl,r,p,n⟩,rfl,i,k,b,⟨vs,c,m⟩,l⟩:=j;cases b;cases c;obtain⟨hp,g,d,tk,os⟩:=a;repeat (first | with_reducible refine K3 k ?_ | with_reducible refine K3 i ?_ | (with_reducible refine QK i ?_;rw[f]) | wp_step)
 rw[m];refine Aq ?_;rw[if_neg (by decide)];exact Aq (wpAny_raiseNew_none hh l)
end
end PySem
namespace L2
open Fx
structure Dy (K:U0) (C f:Y3) (qual:Str) (st:Stmt) (bm:U5):Prop where
 cl:∃N nm q bs hdct sn sub ab col dd k0 k1 k2 k3 k5,K.lookup C=some (excClassObj nm q C N bs bm hdct sn sub ab col dd k0 k1 k2 k3 k5 "ValueError.__new__")/\PySem.W.nsOkIn K N=true/\PySem.W.nsIn K N "__init__"=some (some (.ref f))
 tail:PySem.W.tailIn K I_ bm=true
 fn:∃od kV doc pm an cdv ct osl,K.lookup f=some ⟨.type "function",od,.func (PySem.W.fnOf "__init__" qual (Eb st) (DN st) (Br st) .none kV doc pm an cdv ct),osl⟩/\PySem.W.codeIn K cdv qual=true
 kp:PySem.W.keepIn K (.ref C)=true
 sa:PySem.W.findIn K (.ref C) "__setattr__"=some (some (.builtin "object.__setattr__"))
 po:((PySem.W.clsIn K C).any λcd=>PySem.W.Bv cd.mro)=true
 g:PySem.W.Ep K C
variable{K:U0}{C N:Y3}{st:Stmt}{bm:U5}
theorem Oe{f:Y3}{qual:Str}{nm q:Str}{bs:U5}{hdct:Bool}{sn:W0}{sub:U5}{ab:Bool}{col:Option Bool}{dd od an:W9}{k0 k1 k2 k3 k5:Option Value}{kV doc pm cdv ct:W3}{osl:W8}
  (l:K.lookup C=some (excClassObj nm q C N bs bm hdct sn sub ab col dd k0 k1 k2 k3 k5 "ValueError.__new__")) (o:PySem.W.nsOkIn K N=true) (n:PySem.W.nsIn K N "__init__"=some (some (.ref f))) (t:PySem.W.tailIn K I_ bm=true)
  (lf:K.lookup f=some ⟨.type "function",od,.func (PySem.W.fnOf "__init__" qual (Eb st) (DN st) (Br st) .none kV doc pm an cdv ct),osl⟩) (c:PySem.W.codeIn K cdv qual=true)
  (kp:PySem.W.keepIn K (.ref C)=true) (sa:PySem.W.findIn K (.ref C) "__setattr__"=some (some (.builtin "object.__setattr__"))) (po:((PySem.W.clsIn K C).any λcd=>PySem.W.Bv cd.mro)=true) (g:PySem.W.Ep K C):Dy K C f qual st bm :=
 ⟨⟨N,nm,q,bs,hdct,sn,sub,ab,col,dd,k0,k1,k2,k3,k5,l,o,n⟩,t,⟨od,kV,doc,pm,an,cdv,ct,osl,lf,c⟩,kp,sa,po,g⟩
noncomputable def Cj (di:W9)(a C:Y3):HO:=.ext λh=>∃o vs,h.get? a=some o/\(o.cls=.ref C/\o.dict=di)/\o.data=.fields vs/\vs[1]?=some .none/\vs[2]?=some .none
noncomputable def drop (H:Hp)(a:Y3):Hp:=λb=>if b=a then none else H b
variable{a:Y3}
theorem Mq{H:Hp}{b:Y3}(h:b≠a):drop H a b=H b:=by unfold drop;rw[if_neg h]
theorem fM{H:Hp}:drop H a a=none:=by unfold drop;rw[if_pos rfl]
section
variable {X:Cx}{pins:U1}{σ:St}{H:Hp}{s:U7}
theorem mz{P:U8}{w:W1}{h:Heap}{di:W9}{o:Obj}{vs:U9}(e:h.get? a=some o)(c:o.cls=.ref C/\o.dict=di)(d:o.data=.fields vs)(v:vs[1]?=some .none/\vs[2]?=some .none):Ai P w H h a (Cj di a C):=
 ⟨⟨o,vs,e,c,d,v⟩,⟨o,e⟩,λh1 h2 ⟨o,vs,f,g,b⟩ k=>⟨o,vs,k o f,g,b⟩⟩
theorem Inv.drop{φ:Heap->Prop}(I:Inv X pins σ H s)(e:H a=some (.ext φ)):Inv X pins σ (L2.drop H a) s:=by
 have g:∀b u,H b=some u->(∀φ,u≠.ext φ)->b≠a:=λb u f j z=>by subst z;rw[e]at f;exact j φ (Option.some.inj f).symm
 refine I.call' (ch:=[]) rfl ⟨λb o f i _ _=>f,λb o f i _ _=>⟨o.slots,f⟩,λb o f i _=>?_,λb o f _=>⟨o,f⟩,λb xs f=>?_,λb o u f=>?_,λb ps f=>?_⟩ (λc o h=>?_) I.bare (λb f=>by cases f)
 ·by_cases z:b=a
  ·subst z;exact fM
  ·rw[Mq z];exact i
 ·rw[Mq (g b _ f (by intro φ z;cases z))];exact f
 ·rw[Mq (g b _ f (by intro φ z;cases z))];exact f
 ·exact⟨#[],by rw[Mq (g b _ f (by intro φ z;cases z)),f,SJ]⟩
 ·have z:c≠a:=λz=>by subst z;rw[fM]at h;cases h
  rw[Mq z]at h;exact(I.hok c o h).stay (λd v k q=>q) (λb q=>by rw[Mq (g b _ q (by intro φ z;cases z))];exact q) λb xs q=>by rw[Mq (g b _ q (by intro φ z;cases z))];exact q
theorem Inv.madeExc{h1:Heap}{args:U5}(I:Inv X pins σ H s)(m:Heap.MadeExcOf s.heap h1 a (.ref C) args):Inv X pins σ (upd H a (Cj none a C)) {s with heap:=h1}:=by
 obtain⟨t,j,_,_⟩:=m.there;have i:=I.newH m.new;have f:∀b u,H b=some u->b≠a:=λb u e z=>by rw[z,i]at e;cases e
 refine I.call' (s':={s with heap:=h1}) (ch:=[]) rfl ⟨λb o e h _ _=>m.keeps b o e,λb o e h _ _=>⟨o.slots,m.keeps b o e⟩,λb o e h _=>?_,λb o e _=>⟨o,m.keeps b o e⟩,λb xs e=>?_,λb o u e=>?_,λb ps e=>?_⟩ (λc o g=>?_) I.bare (λb e=>by cases e)
 ·rw[BK (λz=>by rw[z,m.new]at e;cases e)];exact h
 ·rw[BK (f b _ e)];exact e
 ·rw[BK (f b _ e)];exact e
 ·exact⟨#[],by rw[BK (f b _ e),e,SJ]⟩
 ·by_cases hca:c=a
  ·subst hca;rw[Aj]at g;cases g;exact mz j ⟨Z,Z⟩ rfl ⟨Z,Z⟩
  ·rw[BK hca]at g;exact(I.hok c o g).stay (λd v _ q=>m.keeps d v q) (λb q=>by rw[BK (f b _ q)];exact q) λb xs q=>by rw[BK (f b _ q)];exact q
end
theorem X7o{h:Heap}{m:U4}{n:Str}{v:W3}(X:K.In h)(G:h.Ns N m)(e:PySem.W.nsIn K N n=some (some v)):m n=some v:=by
 obtain⟨o,es,ep,a,b,_,f⟩:=G;unfold PySem.W.nsIn at e;split at e
 ·rename_i c d es' n' sl q;have:=X _ _ q;rw[a]at this;cases this;cases b;split at e
  ·rename_i en he;cases e;rw[<-f];unfold nsFind findBy;rw[<-Array.find?_toList,he];rfl
  ·split at e<;>cases e
 ·cases e
def Rc (C:Y3)(ta tv:TE)(f:Str):TS:=λD σ H=>tv σ H λy H1=>ta σ H1 λx H2=>∃a,x=.ref a/\H2 a=some (Cj none a C)/\∀dx,H2 dx=none->dx≠a->D.nx σ (upd (upd H2 dx (.xd [(f,y)])) a (Cj (some dx) a C))
section
variable {X:Cx}{pins:U1}{σ:St}{H:Hp}{s:U7}
theorem Inv.firstDict{s':U7}{dx:Y3}{f:Str}{y:V}{u:W3}{o':Obj}{vs:U9}(I:Inv X pins σ H s)(e:H a=some (Cj none a C))(hos:s'.os=s.os)(h:AllBare s'.gens)(hd:dx=s.heap.objs.size)(ha:s'.heap.get? a=some o')(hc:o'.cls=.ref C/\o'.dict=some dx)(hv:o'.data=.fields vs/\vs[1]?=some .none/\vs[2]?=some .none)
  (j:s'.heap.Ns1 dx (λz=>if z=f then some u else none)) (ru:RelV y u) (k:∀b o,b≠a->s.heap.get? b=some o->s'.heap.get? b=some o):
  Inv X pins σ (upd (upd H dx (.xd [(f,y)])) a (Cj (some dx) a C)) s':=by
 have t:H dx=none:=by rw[hd];exact I.hok.fresh (Bf _)
 have l:∀b u,H b=some u->(∀φ,u≠.ext φ)->b≠a:=λb u h p z=>by subst z;rw[e]at h;exact p _ (Option.some.inj h).symm
 have m:∀b u,H b=some u->b≠dx:=λb u h z=>by rw[z,t]at h;cases h
 have up:∀b u,H b=some u->(∀φ,u≠.ext φ)->upd (upd H dx (.xd [(f,y)])) a (Cj (some dx) a C) b=some u:=λb u h p=>by rw[BK (l b u h p),BK (m b u h)];exact h
 have off:∀b o,s.heap.get? b=some o->b≠dx:=λb o q z=>by rw[z,hd]at q;exact JL _ (BP q)
 have n:∀b,H b=none->b≠a:=λb h z=>by rw[z,e]at h;cases h
 refine I.call' (s':=s') (ch:=[]) hos ⟨λb o h j _ _=>k b o (n b j) h,λb o h j _ _=>⟨o.slots,k b o (n b j) h⟩,λb o h j _=>?_,λb o h _=>?_,λb xs h=>up b _ h (by intro φ z;cases z),λb o u h=>up b _ h (by intro φ z;cases z),λb ps h=>⟨#[],by rw[up b _ h (by intro φ z;cases z),SJ]⟩⟩ (λc o i=>?_) h (λb h=>by cases h)
 ·rw[BK (n b j),BK (off b o h)];exact j
 ·by_cases z:b=a
  ·subst z;exact⟨_,ha⟩
  ·exact⟨o,k b o z h⟩
 ·by_cases hca:c=a
  ·subst hca;rw[Aj]at i;cases i;exact mz ha hc hv.1 hv.2
  ·rw[BK hca]at i;by_cases hcd:c=dx
   ·subst hcd;rw[Aj]at i;cases i;refine⟨_,j,λg=>?_⟩;by_cases hg:g=f
    ·subst hg;simp only[List.lookup,Nt,Gj];exact ru
    ·simp only[List.lookup,beq_eq_false_iff_ne.mpr hg,if_neg hg];trivial
   ·rw[BK hcd]at i;refine(I.hok c o i).stay (λd v r q=>k d v ?_ q) (λb q=>up b _ q (by intro φ z;cases z)) λb xs q=>up b _ q (by intro φ z;cases z);rcases r with rfl | q'
    ·exact hca
    ·exact l d _ q' (by intro φ z;cases z)
theorem X2e{o value:Expr}{f:Str}{pos pos':Pos}{ta tv:TE}(hs':PySem.W.findIn X.K (.ref C) "__setattr__"=some (some (.builtin "object.__setattr__")))(hp:((PySem.W.clsIn X.K C).any λcd=>PySem.W.Bv cd.mro)=true)(hh:PySem.W.hasDictIn X.K C=true)(hn:Bj X.K C f)
  (ha:PE X o ta) (hv:PE X value tv) (hs:swapsWith value (some (.Attribute o f pos')) pos.line X.env=pure false):PS X (.Assign [.Attribute o f pos'] value pos) (Rc C ta tv f):=by
 intro pins s σ H D I h;refine je (A_ (hv pins s σ H _ I h) λu s1 ⟨y,H1,r,l,q⟩=>A_ (ha pins s1 σ H1 _ r q) λp d ⟨x,H2,c,A,a,ex,i,m⟩=>?_) hs;subst ex;obtain rfl:p=Value.ref a:=A;obtain⟨⟨o,vs,j,⟨b,g⟩,e,t⟩,_,_⟩:=(show Ai X.prog X.w H2 d.heap a (Cj none a C) from c.hok a _ i);have k:PySem.W.notCls o=true:=by unfold PySem.W.notCls;rw[e]
 have J:PySem.W.InstAt d.heap a o C none:=⟨j,b,k,by rw[g];trivial⟩;refine PySem.W.Ip c.kIn J g (Obj.isFreed_of_fields e) hs' hp hn hh λh' B v n=>?_;refine⟨σ,_,Inv.firstDict (s':={d with heap:=h',toks:=d.toks+2}) c i rfl c.bare rfl B ⟨b,Z⟩ ⟨e,t⟩ v l n,m _ (c.hok.fresh (Bf _)) λz=>?_⟩;have:=BP j;rw[<-z]at this;exact JL _ this
end
section
variable {X:Cx}{E:XK}{x f:Str}{C:Y3}{e:Expr}{es:List Expr}{t:TA}{np cpos pos:Pos}{bm:U5}{k:Nat}
end
section
variable {X:Cx}
theorem JW{x:Str}{pos:Pos}(hg:Gl X x)(hm:X.mg x=some (.ref C))(hd:(x == ("__debug__":Str))=false:=by decide):PE X (.Name x pos) (tC (.ref C)):=
 λ_ _ _ H _ I h=>J4 I hg hm ⟨.ref C,H,I,Z,h⟩ hd
end
structure JD (P:U8) (w:W1) (K:U0) (mg:U4) (base:Heap) (k:Nat) (x:Str) (ps:W0) (sp:Sp):Prop where
 ex:∃f fd,Ca P w K mg base (JG P w) k f fd ps sp/\Binds K fd ps []/\PySem.W.keepIn K (.ref f)=true/\mg x=some (.ref f)
section
variable {X:Cx}{k:Nat}{x:Str}{ps:W0}{sp:Sp}{p pos:Pos}{e:Expr}{es:List Expr}{t:TA}{E:XK}
theorem X2i(c:JD X.prog X.w X.K X.mg X.base k x ps sp)(hx:Passes (JG X.prog X.w) X E)(hr:Bd k X.A)(hg:Gl X x)(ha:PA X (e::es) t)(hdb:(x == ("__debug__":Str))=false:=by decide)
  (he:starEach (e::es) X.env=(false,eval e X.env)::starEach es X.env:=by rfl) (hpl:(backTo pos (starEach es X.env)).any (·.1)=false:=by rfl):PE X (.Call (.Name x p) (e::es) [] pos) (HD sp [] E t):=by
 obtain⟨f,fd,F,b,a,m⟩:=c.ex;exact gn F hr hg m a b .nil hx ha hdb he hpl
def NQ (σ0:St)(sp:Sp)(E:XK)(t:TA):TE:=λσ H Q=>t σ H λvs H1=>σ=σ0/\sp vs H1 Q E
theorem X2j{pins:U1}{σ0:St}(c:JD X.prog X.w X.K X.mg X.base k x ps sp)(hr:Bd k X.A)(hg:Gl X x)(ha:PA (Xt X pins σ0 E) (e::es) t)(hdb:(x == ("__debug__":Str))=false:=by decide)
  (he:starEach (e::es) X.env=(false,eval e X.env)::starEach es X.env:=by rfl) (hpl:(backTo pos (starEach es X.env)).any (·.1)=false:=by rfl):PE (Xt X pins σ0 E) (.Call (.Name x p) (e::es) [] pos) (NQ σ0 sp E t):=by
 obtain⟨f,fd,F,b,i,m⟩:=c.ex;intro p2 s σ H Q I h;refine MF (J4 I hg m ?_ hdb);refine SX (h₀:=X.base) I.ok.mod.kin i (A_ (ha pos p2 s σ H _ I h) λus s1 ⟨vs,H1,d,r,j,q⟩=>⟨d.kIn,?_⟩) he hpl;subst j;have l:us.length=ps.length:=by rw[<-r.length];exact F.len _ _ _ _ q
 have g:=b s1 us d.kIn (by rw[JM];exact l);rw[JM]at g;refine Ks (Lz (F.run X.A X.stack s1 H1 ⟨us,[]⟩ us vs Q E hr d.env0 g r q) λr s' a=>?_);cases r with
 | error e=>exact⟨H1,s1,d.ofXt,a⟩
 | ok fl =>
  cases fl with
  | ret u=>exact d.after a
  | next=>exact False.elim a
  | brk=>exact False.elim a
  | cont=>exact False.elim a
end
section
variable {P:U8}{w:W1}{K:U0}{mg:U4}{base:Heap}
theorem Ab.calX{x:Str}{dV:W3}{ps:W0}{k:Nat}{sp:Sp}(F:Ab K x st dV){h:Heap}(X:K.In h)(G:Ng h mg)(N:W0)
  (hbody:∀{f:Y3}{cdv:W3}{A:Y0}{outer:List Env}{s:U7},N.Nodup->∀(H:Hp) (vs:List V) (Q:VK) (E:XK),Bd k (A.deeper (envOfC x (Br st) s.heap.objs.size f cdv))->sp vs H Q E ->
   ∃t,Eu (Du (JG P w) P w K mg base N x (Br st) f cdv A outer s H E) (DN st) t/\t { nx:=λ_ H'=>Q .non H',rt:=Q} (start N vs) H)(S:Ay N ps (Br st):=by exact fS) (bi:Kc K x st dV ps:=by first | exact Ot λ_ _ _ _ _ _ _=>rfl | exact Oq λ_ _ _ _ _ _ _ _=>rfl | exact Oo λ_ _ _ _ _ _ _ _ _=>rfl | exact Om λ_ _ _ _ _ _ _ _ _ _=>rfl | exact Ol λ_ _ _ _ _ _ _ _ _ _ _=>rfl | exact Ou λ_ _ _ _ _ _=>rfl) (len:∀vs H Q E,sp vs H Q E->vs.length=ps.length:=by intro _ _ _ _ h;repeat first | (obtain⟨rfl,_⟩:=h;rfl) | (obtain⟨⟨rfl,_⟩,_⟩:=h;rfl) | (obtain⟨_,h⟩:=h)):JD P w K mg base (k+1) x ps sp:=by
 obtain⟨f,m,od,kV,c,l,d,cdv,ct,i,j,b,e,ns⟩:=F.ex;exact⟨f,_,Qs j b S len λA outer s H vs Q E g a=>hbody S.nd H vs Q E g a,bi kV c l d cdv ct,e,GZ X G ns⟩
end
def ClsAt (K:U0)(C:Y3)(bm:U5):Prop:=∃N nm q bs hdct sn sub ab col dd k0 k1 k2 k3 k5,K.lookup C=some (excClassObj nm q C N bs bm hdct sn sub ab col dd k0 k1 k2 k3 k5 "ValueError.__new__")
theorem ExcAt.cls(x:ExcAt K C bm):ClsAt K C bm:=by
 obtain⟨N,nm,q,bs,hdct,sn,sub,ab,col,dd,k0,k1,k2,k3,k5,l,_⟩:=x.ex;exact⟨N,nm,q,bs,hdct,sn,sub,ab,col,dd,k0,k1,k2,k3,k5,l⟩
section
variable {X:Cx}{E:XK}{pins:U1}{σ:St}{H:Hp}{s:U7}
theorem Inv.unset{h':Heap}{m:U4}{v:Option Value}{tk i:Nat}{n:Str}(I:Inv X pins σ H s)(hN:X.N.Nodup)(hi:X.N[i]?=some n)(hm:s.heap.Ns X.env.locals m)
  (hl:∀(i:Nat) (x:Str) (v:V),X.N[i]?=some x->σ[i]?=some (some v)->Ux X.env.scope x->∃u,RelV v u/\Look X.env s.heap m x u)
  (hn:h'.Ns X.env.locals (λx=>if x=n then v else m x)) (hs:Heap.SameBut X.env.locals s.heap h'):Inv X pins (σ.set i none) H {s with heap:=h',toks:=tk}:=by
 have a:∀b o,X.s₀.heap.get? b=some o->b≠X.env.locals:=λb o e=>B_ (CK (BP e) I.ok.above);have cne:=I.cne;refine⟨I.ok,I.os,I.bare,⟨λb o e n g nx=>?_,λb o e n g nx=>?_,I.base.free,λb o e nx=>?_,I.base.tups,I.base.frzs,I.base.tbls⟩,⟨_,hn,λj y G l d B=>?_⟩,λx c e=>?_,I.free,I.freeC,λp hp=>?_,λb D e=>?_,by rw[X8];exact I.len⟩
 ·exact(hs.2 b (a b o e)).trans (I.base.keep b o e n g nx)
 ·obtain⟨t,k1⟩:=I.base.slot b o e n g nx;exact⟨t,(hs.2 b (a b o e)).trans k1⟩
 ·obtain⟨o',k1⟩:=I.base.there b o e nx;exact⟨o',(hs.2 b (a b o e)).trans k1⟩
 ·by_cases hj:j=i
  ·subst hj;by_cases hz:j<σ.length
   ·rw[Yj hz]at d;cases d
   ·rw[Vs (by rw[X8];omega)]at d;cases d
  ·rw[YX (Ne.symm hj)]at d;obtain⟨r,J,q⟩:=hl j y G l d B;refine⟨r,J,?_⟩;rcases q with ⟨k,e⟩ | ⟨k,c,e,z⟩
   ·refine .inl ⟨k,?_⟩;have:y≠n:=λe=>hj (eX hN l (e ▸ hi));simp[this,e]
   ·exact .inr ⟨k,c,e,z.sameBut hs (cne y c e)⟩
 ·obtain⟨v,o,A,C⟩:=I.cell x c e;exact⟨v,o,(hs.2 c (I.cne x c e)).trans A,C⟩
 ·obtain⟨K,w,h,F,E⟩:=I.pin p hp;exact⟨(hs.2 _ h).trans K,w,h,F,E⟩
 ·refine(I.hok b D e).stay (λc L f q=>(hs.2 c ?_).trans q) (λ_ q=>q) λ_ _ q=>q;rintro rfl;rcases f with rfl | f
  ·rw[I.free]at e;cases e
  ·rw[I.free]at f;cases f
end
theorem gD{X:Cx}{e:Y3}:Bu (Xh X e) (.builtin "isinstance") (λxs H Q=>∃a di C c cv b,xs=[.ref a,c]/\H a=some (Cd di a (.ref C))/\Dx H di/\PySem.W.Ep X.K C/\jk c=some cv/\PySem.W.kitOne X.K (.ref C) cv=some b/\Q (.bl b) H):=J6
theorem pC{X:Cx}{e:Expr}{f:Str}{pos:Pos}{ta:TE}(he:PE (Xh X a) e ta)(hb:attributeBase e f X.env (eval e X.env)=eval e X.env):PE (Xh X a) (.Attribute e f pos) (Ln X.K ta f):=X2h he hb
end L2
namespace L2
open Fx
structure M4 (K:U0) (C:Y3) (bm:U5):Prop where
 cls:ClsAt K C bm
 tail:PySem.W.tailIn K I_ bm=true
section
variable {X:Cx}{E:XK}
end
end L2
namespace L2
structure JF (P:U8) (w:W1) (K:U0) (mg:U4) (base:Heap) (k:Nat) (x:Str) (ps:W0) (sp:Sp) (dvs:List V):Prop where
 ex:∃f fd ds,Ca P w K mg base G_ k f fd ps sp/\Binds K fd ps ds/\Vals dvs ds/\PySem.W.keepIn K (.ref f)=true/\mg x=some (.ref f)
variable{base:Heap}{x:Str}{ps:W0}{sp:Sp}
theorem JF.mono{P:U8}{w:W1}{K:U0}{mg:U4}{j k:Nat}{dvs:List V}(c:JF P w K mg base j x ps sp dvs)(h:j<=k):JF P w K mg base k x ps sp dvs :=
 let ⟨f,fd,ds,F,b,v,kp,m⟩:=c.ex
 ⟨f,fd,ds,F.mono h,b,v,kp,m⟩
section
variable {X:Cx}{k:Nat}{x:Str}{ps ks:W0}{sp:Sp}{p pos:Pos}{e:Expr}{es:List Expr}{t tk:TA}{dvs:List V}{gV:List V->List V->List V}{kws:List Keyword}
theorem nO(c:JF X.prog X.w X.K X.mg X.base k x ps sp dvs)(hr:Bd k X.A)(hg:Gl X x)(ha:PA X (e::es) t)(hdb:(x == ("__debug__":Str))=false:=by decide)
  (he:starEach (e::es) X.env=(false,eval e X.env)::starEach es X.env:=by rfl) (hpl:(backTo pos (starEach es X.env)).any (·.1)=false:=by rfl):PE X (.Call (.Name x p) (e::es) [] pos) (HD sp dvs E0 t):=by
 obtain⟨f,fd,ds,F,b,v,a,m⟩:=c.ex;exact gn F hr hg m a b v MK ha hdb he hpl
end
theorem Ab.all{P:U8}{w:W1}{K:U0}{mg:U4}{st:Stmt}{dV:W3}{N:W0}{k:Nat}(F:Ab K x st dV){h:Heap}(X:K.In h)(G:Ng h mg)(S:Ay N ps (Br st))(len:∀vs H Q E,sp vs H Q E->vs.length=ps.length)
  (hbody:∀(f:Y3) (cdv:W3) (A:Y0) (outer:List Env) (s:U7) (H:Hp) (vs:List V) (Q:VK) (E:XK),Bd k (A.deeper (envOfC x (Br st) s.heap.objs.size f cdv))->sp vs H Q E ->
   ∃t,Eu (Du G_ P w K mg base N x (Br st) f cdv A outer s H E).nox (DN st) t/\t { nx:=λ_ H'=>Q .non H',rt:=Q} (start N vs) H):
  ∃(f:Y3) (kV a e:W3) (b:W9) (cdv ct:W3),Ca P w K mg base G_ (k+1) f (PySem.W.fnOf x x (Eb st) (DN st) (Br st) dV kV a e b cdv ct) ps sp/\PySem.W.keepIn K (.ref f)=true/\mg x=some (.ref f):=by
 obtain⟨f,m,od,kV,a,e,b,cdv,ct,j,l,d,g,ns⟩:=F.ex;refine⟨f,kV,a,e,b,cdv,ct,Qs l d S len λA outer s H vs Q E i c=>?_,g,GZ X G ns⟩;obtain⟨t,h,q⟩:=hbody f cdv A outer s H vs Q E i c;exact⟨t,h.nox,q⟩
end L2
namespace Pt
open L2
section
variable {K:U0}{H:Hp}
end
end Pt
namespace PySem.W
open PySem.Calls Builtin Builtin.ObjectAttr
section
variable {prog:U8}{w:W1}{A:Y0}{E:U2}{K:Frag}{x C:Y3}{s:U7}
theorem Jl{ox:Obj}{od:Option Obj}{name f:Str}{v u:W3}{dx:Y3}{Q:Unit->Shared->Prop}(X:K.In s.heap)(I:InstAt s.heap x ox C od)(hd:ox.dict=some dx)
  (k:findIn K (.ref C) "__setattr__"=some (some (.builtin "object.__setattr__"))) (hp:((clsIn K C).any λcd=>Bv cd.mro)=true) (ht:findIn K (.ref C) name=some none) (hh:hasDictIn K C=true) (hn:s.heap.Ns1 dx (λy=>if y=f then some u else none))
  (h:∀h':Heap,h'.Ns1 dx (λy=>if y=name then some v else if y=f then some u else none)->Heap.SameBut dx s.heap h'->Q () {s with heap:=h',toks:=s.toks+2}):
  wpAny (model prog w) A (setAttr (.ref x) name v) Q E s:=by
 refine set_plain X I k (kE (s:={s with toks:=s.toks+1}) X I hp ht λb=>?_);obtain⟨cd,n,q⟩:=any_some hh;have D:=I.at_;have H:=I.no;obtain⟨c,g,d,t,os⟩:=s;obtain⟨G,F,o,J⟩:=ox;cases hd;cases (show G=Value.ref C from I.cls);refine Af (Aq (Af (Af (wpAny_loadPart D (Af (Looks.here (s:=⟨c,g,d,t+1,os⟩) (looks_clsIn X n) ?_))))));rw[q,if_neg (by decide)];have i:wpAny (model prog w) A.in1 (storeInDict dx (.str name t) name v)
    (λi s'=>match i with
     | Fin.done f=>(match (Except.ok f:Result) with
      | Except.ok (Flow.ret v)=>Q () s'
      | Except.ok a=>False
      | Except.error e=>E e s')
     | Fin.again c'=>c'.quiet=true/\codeAny (model prog w) A c' (λr s'=>match r with
         | Except.ok (Flow.ret v)=>Q () s'
         | Except.ok a=>False
         | Except.error e=>E e s') s') (λe s'=>E e s') ⟨c,g,d,t+1,os⟩:=by
  unfold storeInDict newKeyGuard;refine Af (Aq (Af (wpAny_nsSet1 (s:=⟨c,g,d,t+1,os⟩) hn λh' j k=>?_)));obtain⟨L,B,z,m,l,p⟩:=j.count (Within.cons name v (Within.cons f u Within.nil));refine Af (wpAny_lookBehind m (by rw[l];exact pastItsLine_dict (Eh p (by rw[Hv,Hv,Ky,Nm];omega))) ?_);exact Aq (h h' j k)
 cases o<;>first | exact Aq i | cases H
end
end PySem.W
namespace L2
open Fx
def Rb (C:Y3)(ta tv:TE)(f g:Str):TS:=λD σ H=>tv σ H λy H1=>ta σ H1 λx H2=>∃a dx z,x=.ref a/\H2 a=some (Cj (some dx) a C)/\H2 dx=some (.xd [(f,z)])/\g≠f/\D.nx σ (upd H2 dx (.xd [(f,z),(g,y)]))
section
variable {X:Cx}{pins:U1}{σ:St}{H:Hp}{s:U7}
theorem X4r{P:U8}{w:W1}{h:Heap}{dx:Y3}{f:Str}{z:V}(ok:Ai P w H h dx (.xd [(f,z)])):∃u,RelV z u/\h.Ns1 dx (λy=>if y=f then some u else none):=by
 obtain⟨mA,b,a⟩:=ok;have h1:=a f;simp only[List.lookup,Nt]at h1;cases e:mA f with
 | none=>rw[e]at h1;exact h1.elim
 | some u =>
  rw[e]at h1;refine⟨u,h1,?_⟩;have:mA=λy=>if y=f then some u else none:=by
   funext y;by_cases q:y=f
   ·rw[if_pos q,q,e]
   ·rw[if_neg q];have h2:=a y;simp only[List.lookup,beq_eq_false_iff_ne.mpr q]at h2;cases e2:mA y with
    | none=>rfl
    | some v=>rw[e2]at h2;exact h2.elim
  rw[<-this];exact b
theorem Inv.nextDict{s':U7}{dx:Y3}{fs gs:List (Str×V)}(I:Inv X pins σ H s)(e:H dx=some (.xd fs))(hos:s'.os=s.os)(a:AllBare s'.gens)(k:Heap.SameBut dx s.heap s'.heap)(he:∃q,s'.heap.get? dx=some q)(new:Ai X.prog X.w (upd H dx (.xd gs)) s'.heap dx (.xd gs)):
  Inv X pins σ (upd H dx (.xd gs)) s':=by
 have f:∀b u,H b=some u->(∀l,u≠.xd l)->b≠dx:=λb u a m z=>by subst z;rw[e]at a;exact m fs (Option.some.inj a).symm
 have i:∀b,H b=none->b≠dx:=λb a z=>by rw[z,e]at a;cases a
 have kk:∀b o,b≠dx->s.heap.get? b=some o->s'.heap.get? b=some o:=λb o z q=>(k.2 b z).trans q;refine I.call' (s':=s') (ch:=[]) hos ⟨λb o a h _ _=>kk b o (i b h) a,λb o a h _ _=>⟨o.slots,kk b o (i b h) a⟩,λb o a h _=>?_,λb o a _=>?_,λb xs a=>?_,λb o u a=>?_,λb ps a=>⟨#[],?_⟩⟩ (λc o g=>?_) a (λb a=>by cases a)
 ·rw[BK (i b h)];exact h
 ·by_cases z:b=dx
  ·subst z;exact he
  ·exact⟨o,kk b o z a⟩
 ·rw[BK (f b _ a (by intro φ z;cases z))];exact a
 ·rw[BK (f b _ a (by intro φ z;cases z))];exact a
 ·rw[BK (f b _ a (by intro φ z;cases z)),a,SJ]
 ·by_cases hcd:c=dx
  ·subst hcd;rw[Aj]at g;cases g;exact new
  ·rw[BK hcd]at g;refine(I.hok c o g).stay (λd v j q=>kk d v ?_ q) (λb q=>by rw[BK (f b _ q (by intro φ z;cases z))];exact q) λb xs q=>by rw[BK (f b _ q (by intro φ z;cases z))];exact q
   rcases j with rfl | q'
   ·exact hcd
   ·exact f d _ q' (by intro φ z;cases z)
theorem X2d{o value:Expr}{f g:Str}{pos pos':Pos}{ta tv:TE}{C:Y3}(hs':PySem.W.findIn X.K (.ref C) "__setattr__"=some (some (.builtin "object.__setattr__")))(hp:((PySem.W.clsIn X.K C).any λcd=>PySem.W.Bv cd.mro)=true)(hh:PySem.W.hasDictIn X.K C=true)(hn:Bj X.K C g)
  (ha:PE X o ta) (hv:PE X value tv) (hs:swapsWith value (some (.Attribute o g pos')) pos.line X.env=pure false):PS X (.Assign [.Attribute o g pos'] value pos) (Rb C ta tv f g):=by
 intro pins s σ H D I h;refine je (A_ (hv pins s σ H _ I h) λu s1 ⟨y,H1,B,p,q⟩=>A_ (ha pins s1 σ H1 _ B q) λv c ⟨x,H2,b,M,a,dx,z,ex,t,l,A,r⟩=>?_) hs;subst ex;obtain rfl:v=Value.ref a:=M;obtain⟨⟨o,vs,N,⟨d,j⟩,E,O⟩,_,_⟩:=(show Ai X.prog X.w H2 c.heap a (Cj (some dx) a C) from b.hok a _ t);obtain⟨P,G,ns⟩:=X4r (b.hok dx _ l);have n:PySem.W.notCls o=true:=by unfold PySem.W.notCls;rw[E]
 obtain⟨oD,i⟩:∃oD,c.heap.get? dx=some oD:=let ⟨o,_,_,e,_⟩:=ns;⟨o,e⟩;have J:∃od,PySem.W.InstAt c.heap a o C od:=⟨some oD,N,d,n,by rw[j];exact i⟩;obtain⟨od,J⟩:=J;refine PySem.W.Jl b.kIn J j hs' hp hn hh ns λh' m F=>?_;have L:∃q,h'.get? dx=some q:=let ⟨o,_,_,e,_⟩:=m;⟨o,e⟩;refine⟨σ,_,Inv.nextDict (s':={c with heap:=h',toks:=c.toks+2}) b l rfl b.bare F L (show Ai X.prog X.w _ h' dx (.xd [(f,z),(g,y)]) from ⟨_,m,λk=>?_⟩),r⟩;by_cases k1:k=g
 ·subst k1;simp only[List.lookup,beq_eq_false_iff_ne.mpr A,Nt,Gj];exact p
 ·by_cases k2:k=f
  ·subst k2;simp only[List.lookup,Nt,if_neg k1,Gj];exact G
  ·simp only[List.lookup,beq_eq_false_iff_ne.mpr k1,beq_eq_false_iff_ne.mpr k2,if_neg k1,if_neg k2];trivial
end
def h_ (C:Y3)(f g:Str):Sp:=λvs H Q _=>∃a y z,vs=[.ref a,y,z]/\H a=some (Cj none a C)/\∀dx,H dx=none->dx≠a->Q .non (upd (upd H dx (.xd [(f,y),(g,z)])) a (Cj (some dx) a C))
structure DW (P:U8) (w:W1) (K:U0) (mg:U4) (base:Heap) (k:Nat) (C:Y3) (bm:U5) (f g:Str):Prop where
 ex:∃(fi:Y3) (qual:Str) (st:Stmt) (fd:FuncData) (ps:W0),Dy K C fi qual st bm/\Ca P w K mg base G_ k fi fd ps (h_ C f g)/\Binds K fd ps []
 na:Bj K C f
 nb:Bj K C g
theorem Dy.cal2{P:U8}{w:W1}{K:U0}{mg:U4}{base:Heap}{k:Nat}{C fi:Y3}{qual:Str}{st:Stmt}{bm:U5}{f g x0 x1 x2:Str}{N:W0}(x:Dy K C fi qual st bm)(na:Bj K C f)(nb:Bj K C g)(S:Ay N [x0,x1,x2] (Br st))
  (bi:∀(kV b i:W3) (c:W9) (cdv ct:W3) (a0 a1 a2:W3),bindArgs (PySem.W.fnOf "__init__" qual (Eb st) (DN st) (Br st) .none kV b i c cdv ct) ⟨[a0,a1,a2],[]⟩=pure [(x0,a0),(x1,a1),(x2,a2)])
  (hbody:∀(f':Y3) (cdv:W3) (A:Y0) (outer:List Env) (s:U7) (H:Hp) (vs:List V) (Q:VK) (E:XK),h_ C f g vs H Q E ->
   ∃t,Eu (Du G_ P w K mg base N qual (Br st) f' cdv A outer s H E).nox (DN st) t/\t { nx:=λ_ H'=>Q .non H',rt:=Q} (start N vs) H):DW P w K mg base (k+1) C bm f g:=by
 obtain⟨od,kV,b,i,c,cdv,ct,j,l,e⟩:=x.fn;refine⟨⟨fi,qual,st,_,_,x,Qs l e S (λvs H Q E h=>?_) λA outer s H vs Q E n d=>?_,.all λus m=>?_⟩,na,nb⟩
 ·obtain⟨a,y,z,rfl,_⟩:=h;rfl
 ·obtain⟨t,h,q⟩:=hbody fi cdv A outer s H vs Q E d;exact⟨t,h.nox,q⟩
 ·match us,m with
  | [a0,a1,a2],_=>exact bi kV b i c cdv ct a0 a1 a2
section
variable {X:Cx}{E:XK}{x f g:Str}{C:Y3}{e:Expr}{es:List Expr}{t:TA}{np cpos pos:Pos}{bm:U5}{k:Nat}
def wk (E:XK)(C:Y3)(f g:Str)(t:TA):TS:=λ_ σ H=>t σ H λvs H1=>∃y z,vs=[y,z]/\∀dx,H1 dx=none->E (.ref C) (some dx) (upd H1 dx (.xd [(f,y),(g,z)]))
theorem zL(c:DW X.prog X.w X.K X.mg X.base k C bm f g)(hr:Bd (k+1) X.A)(F:Ef X E)(hc:X.calm=true)(hg:Gl X x)(hm:X.mg x=some (.ref C))(ha:PA X (e::es) t)(hdb:(x == ("__debug__":Str))=false:=by decide)
  (he:starEach (e::es) X.env=(false,eval e X.env)::starEach es X.env:=by rfl) (hpl:(backTo cpos (starEach es X.env)).any (·.1)=false:=by rfl):
  PS X (.Raise (some (.Call (.Name x np) (e::es) [] cpos)) none pos) (wk E C f g t):=by
 intro pins s σ H D I h;obtain⟨⟨fi,qual,st,fd,ps,L,fo,bi⟩,na,nb⟩:=c;obtain⟨N,nm,q,bs,hdct,sn,sub,ab,col,dd,k0,k1,k2,k3,k5,lk,ok,ni⟩:=L.cl;obtain⟨od,kV,a1,pm,an,cdv,ct,a3,lf,_⟩:=L.fn;have p:=I.ok.mod.kin;have Y:=p _ _ lk;have hF:=p _ _ lf;have hN:X.base.Ns N _:=.of_isNs (PySem.W.isNs_of_in p ok);have O:=X7o p hN ni;have T:=Sg p L.tail
 have call:wpAny (model X.prog X.w) X.A (eval (.Call (.Name x np) (e::es) [] cpos) X.env) (λv R=>∃e o,v=.ref e/\R.heap.get? C=some (excClassObj nm q C N bs bm hdct sn sub ab col dd k0 k1 k2 k3 k5 "ValueError.__new__") /\
   R.heap.get? e=some o/\o.cls=.ref C/\(∃vs,o.data=.fields vs/\vs[1]?=some .none)/\X.xe (.ref e) R) X.xe s:=by
  refine MF (J4 I hg hm ?_ hdb);refine SX (h₀:=X.base) I.ok.mod.kin L.kp (A_ (ha cpos pins s σ H _ I h) λus s1 ⟨vs,H1,i,r,y,z,ey,q1⟩=>⟨i.kIn,?_⟩) he hpl;subst ey;obtain⟨u,j,rfl,ru,P⟩:=Vals.two r;obtain⟨a0,g1,d1,t1,a2⟩:=s1;refine vC N7 (T.keeps i.bk) (i.bk _ _ Y) (hN.keeps i.bk) O (i.bk _ _ hF) rfl (λh' a m=>?_) (by show 2<=sizeLine;decide);have U:=i.madeExc m;have nH:H1 a=none:=i.newH m.new;have r2:Vals [V.ref a,y,z] ([Value.ref a,u,j]++[]):=.cons rfl (.cons ru (.cons P .nil));have B:h_ C f g [.ref a,y,z] (upd H1 a (Cj none a C)) (λv H2=>v=.non/\∃dx,H1 dx=none/\dx≠a/\H2=upd (upd (upd H1 a (Cj none a C)) dx (.xd [(f,y),(g,z)])) a (Cj (some dx) a C)) E0 :=
   ⟨a,y,z,Z,Aj,λdx hd nd=>⟨Z,dx,by rw[BK nd]at hd;exact hd,nd,Z⟩⟩
  have hl:([Value.ref a,u,j]++[]).length=ps.length:=by rw[<-r2.length];exact fo.len _ _ _ _ B
  refine Ks (Lz (fo.run _ X.stack _ _ ⟨[Value.ref a,u,j],[]⟩ ([Value.ref a,u,j]++[]) _ _ E0 (hr.make C [u,j] []) (U.env0.make C [u,j] []) (bi _ [Value.ref a,u,j] U.kIn hl) r2 B) λrr s' d=>?_);cases rr with
  | error e=>exact False.elim d
  | ok fl =>
   cases fl with
   | next=>exact False.elim d
   | brk=>exact False.elim d
   | cont=>exact False.elim d
   | ret uu =>
    obtain⟨v,H2,I3,rv,ev,dx,M,n,eH⟩:=U.after d;subst ev;subst eH;obtain⟨⟨o,Q,J,⟨G,q3⟩,q4,S⟩,_,_⟩:=(show Ai X.prog X.w _ s'.heap a (Cj (some dx) a C) from I3.hok a _ Aj);have l:=I3.drop (a:=a) Aj;have eD:L2.drop (upd (upd (upd H1 a (Cj none a C)) dx (.xd [(f,y),(g,z)])) a (Cj (some dx) a C)) a=upd H1 dx (.xd [(f,y),(g,z)]):=by
     funext b;by_cases zz:b=a
     ·subst zz;rw[fM,BK (Ne.symm n),nH]
     ·rw[Mq zz,BK zz];by_cases z2:b=dx
      ·subst z2;rw[Aj,Aj]
      ·rw[BK z2,BK z2,BK zz]
    rw[eD]at l;refine⟨rv,a,o,Z,I3.bk _ _ Y,J,G,⟨Q,q4,S.1⟩,?_⟩;have ne:X.s₀.heap.get? a=none/\(upd H1 dx (.xd [(f,y),(g,z)])) a=none:=⟨i.new0 F m.new,by rw[BK (Ne.symm n)];exact nH⟩;refine F.xe _ _ ?_;refine lO (base:=X.base) (outer:=X.outer) (s:=s') (by rw[I.ok.frames,F.stk.1]) (by rw[<-F.stk.1];exact l.stack) F.stk.2 J q3 q4 S.1 S.2 λh' T' nT tr kp=>?_;rw[G]at tr;exact Inv.left (s:=s') (h1:=s'.heap) (h':=h') l F (λ_ _ e=>e) (λb hb=>by rw[Dg.mp hb];exact ne) kp ne ⟨l.new0 F nT,l.newH nT⟩ tr (q1 dx M)
 rw[arm_exec_Raise];refine Af (L_ (uh (C:=C) (nm:=nm) (q:=q) (N:=N) (bs:=bs) (bm:=bm) (hdct:=hdct) (sn:=sn) (sub:=sub) (ab:=ab) (col:=col) (dd:=dd) (k0:=k0) (k1:=k1) (k2:=k2) (k3:=k3) (k5:=k5) (newId:="ValueError.__new__") (T.hasType N7.hasBase) (I.ok.hd hc) (Af (Dp call (λv s₃ h₃=>Af (L_ (Aq h₃))) λ_ _ x=>x))))
end
end L2
namespace PySem
section
variable {M:Model}{A:Y0}{E:U2}
theorem ux{h:Heap}{g:Array GenState}{d:Drawn}{t:Nat}{os:OsState}{e C D:Y3}{oe:Obj}{Q:Bool->Shared->Prop}
  {nm q:Str}{N:Y3}{bs bm:U5}{hdct:Bool}{sn:W0}{sub:U5}{ab:Bool}{col:Option Bool}{dd:W9}{k0 k1 k2 k3 k5:Option Value}{newId:String}
  {nm' q':Str}{N':Y3}{bs' bm':U5}{hdct':Bool}{sn':W0}{sub':U5}{ab':Bool}{col':Option Bool}{dd':W9}{k0' k1' k2' k3' k5':Option Value}{newId':String}
  (hC:h.get? C=some (excClassObj nm q C N bs bm hdct sn sub ab col dd k0 k1 k2 k3 k5 newId)) (hD:h.get? D=some (excClassObj nm' q' D N' bs' bm' hdct' sn' sub' ab' col' dd' k0' k1' k2' k3' k5' newId'))
  (he:h.get? e=some oe) (hcls:oe.cls=.ref C) (hbase:bm'.contains (.type "BaseException")=true) (hsub:(Value.ref C::bm).contains (.ref D)=false)
  (hq:Q false ⟨h,g,d,t,os⟩):wpAny M A (excMatches (.ref e) (.ref D)) Q E ⟨h,g,d,t,os⟩:=by
 have a:(Value.ref D::bm').contains (.type "BaseException")=true:=by rw[Vm,hbase,VP]
 have f:=tc_notTuple;unfold excMatches;repeat (first | (with_reducible refine K3 he ?_;rw[hcls]) | with_reducible refine K3 hD ?_ | (with_reducible refine QK hD ?_;rw[a]) | (with_reducible refine QK hC ?_;rw[hsub]) | wp_step)
 exact hq
end
end PySem
namespace L2
open Fx
def EE (C C1:Y3)(E0 E1:Option Addr->Hp->Prop):XK:=λcls di H=>(cls=.ref C/\E0 di H)\/(cls=.ref C1/\E1 di H)
def M8 (C C1:Y3)(E0 E1:Option Addr->Hp->Prop)(tb:St->TS)(th th1:Addr->TS)(i:Nat):TS:=λD σ H=>tb σ D σ H/\(∀a di H',E0 di H'->H' a=none->th a { nx:=λσ' H''=>D.nx (σ'.set i none) H'',rt:=D.rt} (σ.set i (some (.ref a))) (upd H' a (Cd di a (.ref C))))/\(∀a di H',E1 di H'->H' a=none->th1 a { nx:=λσ' H''=>D.nx (σ'.set i none) H'',rt:=D.rt} (σ.set i (some (.ref a))) (upd H' a (Cd di a (.ref C1))))
section
variable {X:Cx}
theorem wQ{body:Y2}{b₀ b₁:Stmt}{suite suite1:Y2}{cx cx1 n:Str}{C C1 D D1:Y3}{i:Nat}{np hpos np1 hpos1 pos:Pos}{tb:St->TS}{th th1:Addr->TS}{bm bm1 bm' bm1':U5}{E0 E1:Option Addr->Hp->Prop}(hst:X.stack=X.env::X.outer/\X.env.frame=some X.env.locals)(hN:X.N.Nodup)(hi:X.N[i]?=some n)(hloc:X.env.scope.names.lookup n=some .local)
  (hg:Gl X cx) (hm:X.mg cx=some (.ref D)) (hg1:Gl X cx1) (hm1:X.mg cx1=some (.ref D1)) (hC:ClsAt X.K C bm) (hC1:ClsAt X.K C1 bm1) (hD:M4 X.K D bm') (hD1:M4 X.K D1 bm1') (hsub:(Value.ref C::bm).contains (.ref D)=true) (hno:(Value.ref C1::bm1).contains (.ref D)=false) (hsub1:(Value.ref C1::bm1).contains (.ref D1)=true)
  (c:∀pins σ,Eu (Xt X pins σ (EE C C1 E0 E1)) body (tb σ)) (hh:∀a,Eu (Xh X a) (b₀::suite) (th a)) (hh1:∀a,Eu (Xh X a) (b₁::suite1) (th1 a)) (hdb:(cx == ("__debug__":Str))=false:=by decide) (hdb1:(cx1 == ("__debug__":Str))=false:=by decide):
  PS X (.Try body [.ExceptHandler (some (.Name cx np)) (some n) (b₀::suite) hpos,.ExceptHandler (some (.Name cx1 np1)) (some n) (b₁::suite1) hpos1] [] [] pos) (M8 C C1 E0 E1 tb th th1 i):=by
 intro pins s σ H D' I h;obtain⟨h1,h2,h3⟩:=h;refine wpAny_Try_except (Dp (c pins σ [] s σ H D' I.toXt h1) (λf s1 q=>?_) (λe s1 q=>?_))
 ·cases f with
  | next=>obtain⟨A,H',G,q⟩:=q;exact R6 ⟨A,H',G.ofXt,q⟩
  | brk=>obtain⟨A,H',G,q⟩:=q;exact⟨A,H',G.ofXt,q⟩
  | cont=>obtain⟨A,H',G,q⟩:=q;exact⟨A,H',G.ofXt,q⟩
  | ret u=>obtain⟨v,A,H',G,r,q⟩:=q;exact⟨v,A,H',G.ofXt,r,q⟩
 obtain⟨H1,s0,U,a,T,cls,S,H',rfl,os,d,un,g,tr,V,Y,R,hT,q⟩:=q;rcases q with ⟨rfl,q⟩ | ⟨rfl,q⟩
 ·have I1:Inv X pins σ H' s1:=U.call' (ch:=[]) os un g d (λb c=>by cases c);have k:X.env.kindOf n=some .local:=hloc;refine fO (base:=X.base) (outer:=X.outer) (by rw[I.ok.frames,hst.1]) (by rw[<-hst.1];exact I1.stack) hst.2 tr λh' T' O l kp=>?_;have j:Kp (frs X.stack) [a,T] s1.heap h':=by rw[hst.1];exact kp
  have w:Inv X pins σ (upd H' a (Cd S a (.ref C))) {s1 with heap:=h'}:=U.landed os d un g j V Y R hT l;obtain⟨_,_,_,_,_,_,_,_,_,_,_,_,_,_,_,lC⟩:=hC;obtain⟨_,_,_,_,_,_,_,_,_,_,_,_,_,_,_,lD⟩:=hD.cls;have TD:=Sg w.kIn hD.tail;obtain⟨oe,vs,oT,ts,W,⟨Z,_⟩,_⟩:=id l;refine YW (Yg (J4 (X:=Xh X a) (w.toXh (a:=a)) hg hm ?_ hdb)) (by intro q;cases q);refine mF (w.kIn _ _ lC) (w.kIn _ _ lD) W Z (TD.hasType N7.hasBase) hsub ?_;refine jU ?_;refine flight (s:={s1 with heap:=h'}) l λhq F same=>?_;have P:Kp (frs X.stack) [a,T] s1.heap hq:=by
   have L:∀b o,s1.heap.get? b=some o->b≠T':=λb o c z=>by rw[z,O]at c;cases c
   exact⟨λb o c hf Q=>(same b (L b o c)).trans (j.keep b o c hf Q),λb o c Q=>let ⟨slo,e⟩:=j.slot b o c Q;⟨slo,(same b (L b o c)).trans e⟩,λb o c=>let ⟨o',e⟩:=j.there b o c;⟨o',(same b (L b o c)).trans e⟩⟩
  have I3:Inv X pins σ (upd H' a (Cd S a (.ref C))) {s1 with heap:=hq}:=U.landed os d un g P V Y R hT F;refine Wa (X:=Xh X a) (v:=.ref a) (I3.toXh (a:=a)) hN hi (.inl hloc) rfl (λs4 I4=>?_) (.inr hloc);refine Dp (hh a pins s4 _ _ _ I4 (h2 a S H' q R)) (λf s5 E=>?_) (λx s5 z=>z.elim);cases f with
  | next =>
   obtain⟨A,J,y,M⟩:=E;obtain⟨m,B,hl⟩:=id y.loc;refine wpAny_nameGoes_keeps k B (by rw[I.ok.kind];rfl) λh6 v6 p t=>?_;exact⟨_,J,(y.ofXh I.ok).unset hN hi B hl p t,M⟩
  | brk=>obtain⟨_,_,_,z⟩:=E;exact z.elim
  | cont=>obtain⟨_,_,_,z⟩:=E;exact z.elim
  | ret u =>
   obtain⟨v,A,J,y,r,M⟩:=E;obtain⟨m,B,_⟩:=id y.loc;refine wpAny_nameGoes k B (by rw[I.ok.kind];rfl) λh6 m6 p t=>?_;exact⟨v,_,J,(y.ofXh I.ok).blank p t,r,M⟩
 ·have I1:Inv X pins σ H' s1:=U.call' (ch:=[]) os un g d (λb c=>by cases c);have k:X.env.kindOf n=some .local:=hloc;refine fO (base:=X.base) (outer:=X.outer) (by rw[I.ok.frames,hst.1]) (by rw[<-hst.1];exact I1.stack) hst.2 tr λh' T' O l kp=>?_;have j:Kp (frs X.stack) [a,T] s1.heap h':=by rw[hst.1];exact kp
  have w:Inv X pins σ (upd H' a (Cd S a (.ref C1))) {s1 with heap:=h'}:=U.landed os d un g j V Y R hT l;obtain⟨_,_,_,_,_,_,_,_,_,_,_,_,_,_,_,lC⟩:=hC1;obtain⟨_,_,_,_,_,_,_,_,_,_,_,_,_,_,_,lD⟩:=hD.cls;obtain⟨_,_,_,_,_,_,_,_,_,_,_,_,_,_,_,a1⟩:=hD1.cls;have TD:=Sg w.kIn hD.tail;have a0:=Sg w.kIn hD1.tail;obtain⟨oe,vs,oT,ts,W,⟨Z,_⟩,_⟩:=id l;refine YW (Yg (J4 (X:=Xh X a) (w.toXh (a:=a)) hg hm ?_ hdb)) (by intro q;cases q);refine ux (w.kIn _ _ lC) (w.kIn _ _ lD) W Z (TD.hasType N7.hasBase) hno ?_;refine YW (Yg (J4 (X:=Xh X a) (w.toXh (a:=a)) hg1 hm1 ?_ hdb1)) (by intro q;cases q);refine mF (w.kIn _ _ lC) (w.kIn _ _ a1) W Z (a0.hasType N7.hasBase) hsub1 ?_;refine jU ?_;refine flight (s:={s1 with heap:=h'}) l λhq F same=>?_;have P:Kp (frs X.stack) [a,T] s1.heap hq:=by
   have L:∀b o,s1.heap.get? b=some o->b≠T':=λb o c z=>by rw[z,O]at c;cases c
   exact⟨λb o c hf Q=>(same b (L b o c)).trans (j.keep b o c hf Q),λb o c Q=>let ⟨slo,e⟩:=j.slot b o c Q;⟨slo,(same b (L b o c)).trans e⟩,λb o c=>let ⟨o',e⟩:=j.there b o c;⟨o',(same b (L b o c)).trans e⟩⟩
  have I3:Inv X pins σ (upd H' a (Cd S a (.ref C1))) {s1 with heap:=hq}:=U.landed os d un g P V Y R hT F;refine Wa (X:=Xh X a) (v:=.ref a) (I3.toXh (a:=a)) hN hi (.inl hloc) rfl (λs4 I4=>?_) (.inr hloc);refine Dp (hh1 a pins s4 _ _ _ I4 (h3 a S H' q R)) (λf s5 E=>?_) (λx s5 z=>z.elim);cases f with
  | next =>
   obtain⟨A,J,y,M⟩:=E;obtain⟨m,B,hl⟩:=id y.loc;refine wpAny_nameGoes_keeps k B (by rw[I.ok.kind];rfl) λh6 v6 p t=>?_;exact⟨_,J,(y.ofXh I.ok).unset hN hi B hl p t,M⟩
  | brk=>obtain⟨_,_,_,z⟩:=E;exact z.elim
  | cont=>obtain⟨_,_,_,z⟩:=E;exact z.elim
  | ret u =>
   obtain⟨v,A,J,y,r,M⟩:=E;obtain⟨m,B,_⟩:=id y.loc;refine wpAny_nameGoes k B (by rw[I.ok.kind];rfl) λh6 m6 p t=>?_;exact⟨v,_,J,(y.ofXh I.ok).blank p t,r,M⟩
end
end L2
set_option maxHeartbeats 1000000
namespace Av
open L2 (bv G3)
open Pc Dv Ez Fy
open GJ (Sp Red Lo vv cl)
variable{v x:Nat}
theorem j4{bs:W7}(R:Red bs)(L:Lo bs v bs.length x)(h:Sp bs v):x=0:=by
 obtain⟨s,a,e⟩:=L.sp;exact R.nought (by rw[e];exact h.xor a) λb c=>L.z b (by rw[G6];exact c)
noncomputable abbrev vm (m:Mk):Nat:=vv m.2.1 m.2.2
theorem sH{a b:Mk}(ha:a.2.1<64)(hb:b.2.1<64):vm (mul a b)=vm a^^^vm b:=GJ.sI ha hb
theorem m7{bs:W7}:∀{L:List Mk}{a:Mk},(∀r∈L,r.2.1<64/\Sp bs (vm r))->a.2.1<64->Sp bs (vm a)->Sp bs (vm (L.foldl mul a))
 | [],_,_,_,h=>h
 | r::L,a,hl,ha,h=>by
  obtain⟨b,d⟩:=hl r (.head _);refine m7 (L:=L) (λx c=>hl x (.tail _ c)) (Ih (n:=6) ha b) ?_;rw[sH ha b];exact h.xor d
variable{ms:List Mk}
theorem yX{n:Nat}(hn:n<=ms.length):∀r∈chosen ms x n,r∈ms:=λr b=>by
 unfold chosen at b;obtain⟨p,hp,rfl⟩:=DY.mp b;have:=Mu hp;have a:p<ms.length:=by omega
 rw[Bb,Bm a];exact G5 a
theorem qH{bs:W7}{m:Mk}(hs:∀r∈ms,r.2.1<64/\Sp bs (vm r))(h:Md ms m):Sp bs (vm m):=by
 obtain⟨kk,x,_,rfl⟩:=h;exact m7 (λr a=>hs r (yX (Bf _) r a)) (show 0<64 by decide) (show Sp bs (vv 0 0) from (show vv 0 0=0 by decide) ▸ .zero)
theorem X4t{f g s t:Nat}(hf:f<64)(hg:g<64)(e:vv f s=vv g t):f=g/\s=t:=by
 refine⟨MJ λi=>?_,MJ λi=>?_⟩
 ·by_cases h:i<6
  ·have:=GJ.O5 (s:=s) (i:=i) hf;rw[e,GJ.O5 hg,if_pos h,if_pos h]at this;exact this.symm
  ·have p:(64:Nat)<=2^i:=Gn (n:=2) (by decide) (show 6<=i by omega);rw[Sv (CK hf p),Sv (CK hg p)]
 ·have:=GJ.O5 (s:=s) (i:=i+6) hf;rw[e,GJ.O5 hg,if_neg (by omega),if_neg (by omega),YQ]at this;exact this.symm
theorem X4v{o:Mk}(h6:∀r∈ms,r.2.1<64)(h:∀r∈ms,comm o r=0)(s:Sp (ms.map vm) v):∃m:Mk,m.2.1<64/\v=vm m/\comm o m=0:=by
 induction s with
 | zero=>exact⟨(0,0,0),by decide,rfl,by unfold comm;simp[Gy]⟩
 | add _ hm ih =>
  obtain⟨m,b,rfl,c⟩:=ih;obtain⟨r,a,rfl⟩:=DY.mp hm;exact⟨mul m r,Ih (n:=6) b (h6 r a),(sH b (h6 r a)).symm,by rw[dj,c,h r a]⟩
theorem pP{bs:W7}{cs:W7}(h:∀b∈bs,Sp cs b)(s:Sp bs v):Sp cs v:=s.up h
theorem vI{bs:W7}{m:Mk}(h6:∀r∈ms,r.2.1<64)(m6:m.2.1<64)(hb:∀b∈bs,Sp (ms.map vm) b)(h:Apart ms m)(L:Lo bs (vm m) bs.length x):x≠0:=λz=>by
 obtain⟨o,c,d⟩:=h;obtain⟨s,g,e⟩:=L.sp;rw[z]at e;have i:vm m=s:=GJ.VJ e.symm;have S:Sp (ms.map vm) (vm m):=by rw[i];exact pP hb g
 obtain⟨m',a,f,l⟩:=X4v h6 d S;obtain⟨j,k⟩:=X4t m6 a f;have:comm o m=comm o m':=by unfold comm;rw[j,k]
 rw[this,l]at c;cases c
noncomputable def ans (ms:List Mk)(m:Mk):List Int:=ms.map λr=>if comm r m=0 then 0 else 1
theorem vH(ms:List Mk)(m:Mk):G3 ms.length (ans ms m):=⟨by unfold ans;rw[Ax],λx a=>by
 obtain⟨r,_,rfl⟩:=DY.mp a
 split
 ·exact .inl rfl
 ·exact .inr rfl⟩
noncomputable def w3 (c:Nat):List Mk:=[(0,2^c,0),(0,0,2^c),(1,2^c,2^c)]
noncomputable def wr (ws:W7):List Mk:=(0,0,0)::(ws.map w3).flatten
theorem oF(ws:W7)(c:Nat):wr (ws++[c])=wr ws++w3 c:=by
 unfold wr;rw[CJ,List.flatten_append];simp
theorem XS(ws:W7):(wr ws).length=1+3*ws.length:=by
 induction ws with
 | nil=>rfl
 | cons c ws ih =>
  unfold wr at ih ⊢;simp only[Er,Nu,Hv,DQ,w3,Ky]at ih ⊢;omega
theorem qQ{N:Nat}{ws:W7}(h:∀c∈ws,c<N):∀m∈wr ws,Gz N m:=λm a=>by
 have p:=Ei N;rcases Cz.mp a with rfl | a
 ·exact⟨(by decide:0<4),p,p⟩
 ·obtain⟨l,d,a⟩:=List.mem_flatten.mp a;obtain⟨c,b,rfl⟩:=DY.mp d;have q:2^c<2^N:=Jt (by decide) (h c b);simp only[w3,Cz,Ie,Ia]at a;rcases a with rfl | rfl | rfl
  ·exact⟨(by decide:0<4),q,p⟩
  ·exact⟨(by decide:0<4),p,q⟩
  ·exact⟨(by decide:1<4),q,q⟩
noncomputable def Gp (t:List (List Int×Nat))(k:U6)(i:Nat):List (List Int×Nat):=if (t.find? λe=>decide (e.1=k)).isSome then t else t++[(k,i)]
noncomputable def Bp (ms ws:List Mk):Nat->List (List Int×Nat)
 | 0=>[]
 | i+1=>Gp (Bp ms ws i) (ans ms (ws.getD i (0,0,0))) i
variable{t:List (List Int×Nat)}{i:Nat}{e:List Int×Nat}
theorem Qj{k:U6}(h:(t.find? λe=>decide (e.1=k))=some e):Gp t k i=t:=by unfold Gp;rw[h];rfl
theorem Qi{k:U6}(h:(t.find? λe=>decide (e.1=k))=none):Gp t k i=t++[(k,i)]:=by unfold Gp;rw[h];rfl
theorem dw{k:U6}(h:(t.find? λe=>decide (e.1=k))=some e):e∈t/\e.1=k:=⟨List.mem_of_find?_eq_some h,by have:=List.find?_some h;simpa using this⟩
theorem Qe(ms ws:List Mk):∀i,∀e∈Bp ms ws i,e.2<i/\e.1=ans ms (ws.getD e.2 (0,0,0))
 | 0,e,h=>nomatch h
 | i+1,e,h=>by
  unfold Bp at h;cases c:(Bp ms ws i).find? λe=>decide (e.1=ans ms (ws.getD i (0,0,0))) with
  | some e' =>
   rw[Qj c]at h;obtain⟨a,b⟩:=Qe ms ws i e h;exact⟨by omega,b⟩
  | none =>
   rw[Qi c]at h;rcases E_.mp h with h | h
   ·obtain⟨a,b⟩:=Qe ms ws i e h;exact⟨by omega,b⟩
   ·rw[Dg.mp h];exact⟨QD i,Z⟩
theorem Ub(ms ws:List Mk):∀i,(Bp ms ws i).length<=i
 | 0=>Bf _
 | i+1=>by
  have:=Ub ms ws i;unfold Bp;cases c:(Bp ms ws i).find? λe=>decide (e.1=ans ms (ws.getD i (0,0,0))) with
  | some e'=>rw[Qj c];omega
  | none=>rw[Qi c,DQ,KQ];omega
theorem d_(ms ws:List Mk)(i:Nat):∀e∈Bp ms ws i,G3 ms.length e.1:=λe h=>by rw[(Qe ms ws i e h).2];exact vH ms _
theorem pJ{α:Type}{z:α->Int}:∀{l m:List α},l.Perm m->l.Pairwise (λa b=>z a<z b)->m.Pairwise (λa b=>z a<z b)->l=m
 | [],m,p,_,_=>(List.Perm.nil_eq p)
 | a::l,[],p,_,_=>by have:=p.length_eq;simp at this
 | a::l,b::m,p,h,g=>by
  have h':=Vn.mp h;have g':=Vn.mp g;have e:a=b:=by
   rcases Cz.mp (p.mem_iff.mp (Iu (a:=a))) with e | e
   ·exact e
   ·rcases Cz.mp (p.mem_iff.mpr (Iu (a:=b))) with e2 | e2
    ·exact e2.symm
    ·have:=g'.1 a e;have:=h'.1 b e2;omega
  subst e;rw[pJ (List.Perm.cons_inv p) h'.2 g'.2]
end Av
set_option maxHeartbeats 4000000
namespace L2
open Fx
structure M5 (P:U8) (w:W1) (K:U0) (mg:U4) (base:Heap) (k:Nat) (x:Str) (ps:W0) (sp:Sp) (dvs:List V):Prop where
 ex:∃f fd ds,Ca P w K mg base (JG P w) k f fd ps sp/\Binds K fd ps ds/\Vals dvs ds/\PySem.W.keepIn K (.ref f)=true/\mg x=some (.ref f)
def X1n (σ0:St)(sp:Sp)(dvs:List V)(E:XK)(t:TA):TE:=λσ H Q=>t σ H λvs H1=>σ=σ0/\sp (vs++dvs) H1 Q E
section
variable {X:Cx}{k:Nat}{x:Str}{ps:W0}{sp:Sp}{dvs:List V}{p pos:Pos}{e:Expr}{es:List Expr}{t:TA}{E:XK}
theorem wH{pins:U1}{σ0:St}(c:M5 X.prog X.w X.K X.mg X.base k x ps sp dvs)(hr:Bd k X.A)(hg:Gl X x)(ha:PA (Xt X pins σ0 E) (e::es) t)(hdb:(x == ("__debug__":Str))=false:=by decide)
  (he:starEach (e::es) X.env=(false,eval e X.env)::starEach es X.env:=by rfl) (hpl:(backTo pos (starEach es X.env)).any (·.1)=false:=by rfl):PE (Xt X pins σ0 E) (.Call (.Name x p) (e::es) [] pos) (X1n σ0 sp dvs E t):=by
 obtain⟨f,fd,ds,F,b,v,i,m⟩:=c.ex;intro p2 s σ H Q I h;refine MF (J4 I hg m ?_ hdb);refine SX (h₀:=X.base) I.ok.mod.kin i (A_ (ha pos p2 s σ H _ I h) λus s1 ⟨vs,H1,d,r,j,q⟩=>⟨d.kIn,?_⟩) he hpl;subst j;have g:=r.append v;have l:(us++ds).length=ps.length:=by rw[<-g.length];exact F.len _ _ _ _ q
 refine Ks (Lz (F.run X.A X.stack s1 H1 ⟨us,[]⟩ (us++ds) (vs++dvs) Q E hr d.env0 (b s1 us d.kIn l) g q) λr s' a=>?_);cases r with
 | error e=>exact⟨H1,s1,d.ofXt,a⟩
 | ok fl =>
  cases fl with
  | ret u=>exact d.after a
  | next=>exact False.elim a
  | brk=>exact False.elim a
  | cont=>exact False.elim a
end
theorem Ab.allX{P:U8}{w:W1}{K:U0}{mg:U4}{base:Heap}{x:Str}{st:Stmt}{dV:W3}{N ps:W0}{k:Nat}{sp:Sp}(F:Ab K x st dV){h:Heap}(X:K.In h)(G:Ng h mg)(S:Ay N ps (Br st))(len:∀vs H Q E,sp vs H Q E->vs.length=ps.length)
  (hbody:∀(f:Y3) (cdv:W3) (A:Y0) (outer:List Env) (s:U7) (H:Hp) (vs:List V) (Q:VK) (E:XK),Bd k (A.deeper (envOfC x (Br st) s.heap.objs.size f cdv))->sp vs H Q E ->
   ∃t,Eu (Du (JG P w) P w K mg base N x (Br st) f cdv A outer s H E) (DN st) t/\t { nx:=λ_ H'=>Q .non H',rt:=Q} (start N vs) H):
  ∃(f:Y3) (kV a e:W3) (b:W9) (cdv ct:W3),Ca P w K mg base (JG P w) (k+1) f (PySem.W.fnOf x x (Eb st) (DN st) (Br st) dV kV a e b cdv ct) ps sp/\PySem.W.keepIn K (.ref f)=true/\mg x=some (.ref f):=by
 obtain⟨f,m,od,kV,a,e,b,cdv,ct,j,l,d,g,ns⟩:=F.ex;exact⟨f,kV,a,e,b,cdv,ct,Qs l d S len λA outer s H vs Q E i c=>hbody f cdv A outer s H vs Q E i c,g,GZ X G ns⟩
end L2
namespace L2
open Fx
structure DR (g:Y3) (k:Nat) (A:Y0):Prop where
 dp:A.depth+3*k+5<recursionLimit
 un:A.units+16*k+200<cLine
 hd:A.handled=some (.ref g)
variable{A:Y0}
theorem Bd.h{k:Nat}(r:Bd k A)(g:Y3):DR g k (A.mark (some (.ref g))):=⟨r.dp,r.un,Z⟩
theorem DR.mono{j k:Nat}(r:DR g k A)(h:j<=k):DR g j A:=⟨by have:=r.dp;omega,by have:=r.un;omega,r.hd⟩
theorem DR.deeper{k:Nat}(r:DR g (k+1) A)(env:Env):DR g k (A.deeper env):=
 ⟨by have:=r.dp;show A.depth+1+3*k+5<_;omega,by have:=r.un;show A.units+3+16*k+200<_;omega,r.hd⟩
noncomputable def Tz (P:U8)(w:W1)(K:U0)(mg:U4)(base:Heap)(N:W0)(qual:Str)(scope:Scope)(f:Y3)(cd:W3)(A:Y0)(outer:List Env)(s:U7)(H:Hp):Cx :=
 { (Du G_ P w K mg base N qual scope f cd A outer s H E0).nox with calm:=false}
structure Mz (g:Y3) (P:U8) (w:W1) (K:U0) (mg:U4) (base:Heap) (k:Nat) (f:Y3) (fd:FuncData) (ps:W0) (sp:Sp):Prop where
 len:∀vs H Q E,sp vs H Q E->vs.length=ps.length
 run:∀(A:Y0) (outer:List Env) (s:U7) (H:Hp) (args:Args) (us:U5) (vs:List V) (Q:VK) (E:XK),DR g k A->GK P w K mg base A outer s H->BindsTo s fd args (ps.zip us)->Vals vs us->sp vs H Q E ->
  codeAny (model P w) A (.call (.ref f) args) (CR G_ outer P w H s Q E) s
variable{P:U8}{w:W1}{K:U0}{mg:U4}{base:Heap}{N ps:W0}{qual:Str}{scope:Scope}{f:Y3}
theorem NT{cd:W3}{outer:List Env}{s s1:U7}{H:Hp}{us:U5}{vs:List V}
  (S:Ay N ps scope) (en:GK P w K mg base A outer s H) (hl:vs.length=ps.length) (r:Vals vs us)
  (x:InCallC s s.heap.objs.size (bindL (envOfC qual scope s.heap.objs.size f cd).kindOf (ps.zip us) λ_=>none) (cellsFrom (s.heap.objs.size+1) scope.names []) (bindC (envOfC qual scope s.heap.objs.size f cd).kindOf (ps.zip us) λ_=>none) s1):
  Inv (Tz P w K mg base N qual scope f cd A outer s H) [] (start N vs) H s1:=by
 have b:GK P w K mg base {A with handled:=none} outer s H:=⟨en.frames,en.mod,en.bs,en.bsz,en.funs,en.frf,en.hok,en.bare⟩;have a:Inv (Du G_ P w K mg base N qual scope f cd {A with handled:=none} outer s H E0) [] (start N vs) H s1:=jw S rfl b hl r x
 exact⟨⟨a.ok.mod,a.ok.kind,a.ok.glob,a.ok.blt,a.ok.above,a.ok.inj,a.ok.has,a.ok.cab,(λz=>by cases z),a.ok.frames,a.ok.stk,a.ok.exf,a.ok.bs,a.ok.bsz,a.ok.noex,a.ok.exfs,a.ok.funs,a.ok.frf⟩,
  a.os,a.bare,a.base,a.loc,a.cell,a.free,a.freeC,a.pin,a.hok,a.len⟩
variable{sp:Sp}
theorem X6q{k:Nat}{name:Str}{params:Arguments}{body:Y2}{dV kV doc pm cdv ct oc:W3}{an od:W9}
  {osl:W8} (lk:K.lookup f=some ⟨oc,od,.func (PySem.W.fnOf name qual params body scope dV kV doc pm an cdv ct),osl⟩) (hcd:PySem.W.codeIn K cdv qual=true) (S:Ay N ps scope)
  (len:∀vs H Q E,sp vs H Q E->vs.length=ps.length)
  (hbody:∀(A:Y0) (outer:List Env) (s:U7) (H:Hp) (vs:List V) (Q:VK) (E:XK),DR g k (A.deeper (envOfC qual scope s.heap.objs.size f cdv))->sp vs H Q E ->
   ∃t,Eu (Tz P w K mg base N qual scope f cdv A outer s H) body t/\t { nx:=λ_ H'=>Q .non H',rt:=Q} (start N vs) H):
  Mz g P w K mg base (k+1) f (PySem.W.fnOf name qual params body scope dV kV doc pm an cdv ct) ps sp:=by
 refine⟨len,λA outer s H args us vs Q E z d L r h=>?_⟩;have G:=len _ _ _ _ h;have p:K.In s.heap:=d.mod.kin.keeps λb o e=>(d.bs b o e).1;have l:s.heap.NoLimit:=d.mod.nolimit.keeps λb o e=>(d.bs b o e).1;have a:∀y∈ps.zip us,scope.names.lookup y.1=some .local\/(scope.names.lookup y.1=some .cell/\((cellsFrom (s.heap.objs.size+1) scope.names []).lookup y.1).isSome=true):=λ⟨n,v⟩ F=>by
  rcases S.par n (Ve F).1 with q | q
  ·exact .inl q
  ·exact .inr ⟨q,Yl _ _ _ (.inl q)⟩
 refine jE (by have:=z.dp;omega) (p _ _ lk) rfl S.co S.gen rfl (PySem.W.codeRec_of p hcd) (L _ _ _ _ ?_);refine jZ S.kind a λenv C s1 x=>?_;subst C;refine⟨l.keeps x.toInCall.keep,codeAny_func ?_⟩;obtain⟨t,D,B⟩:=hbody A outer s H vs Q E (z.deeper _) h;have I:Inv (Tz P w K mg base N qual scope f cdv A outer s H) [] (start N vs) H s1:=NT S d G r x;refine Dp (D [] s1 (start N vs) H _ I B) (λfl s' c=>?_) λe s' c=>False.elim c;have i:∀{j:St}{H':Hp}{v:V}{u:W3},Inv (Tz P w K mg base N qual scope f cdv A outer s H) [] j H' s'->RelV v u->Q v H'->CE outer P w H s Q u s' :=
  λ{j H' v u} J m q=>⟨v,H',J.os,J.bare,J.base,J.hok,m,q⟩
 cases fl with
 | ret u =>
  obtain⟨v,j,H',J,m,q⟩:=c;exact i J m q
 | next =>
  obtain⟨j,H',J,q⟩:=c;exact i (v:=V.non) (u:=Value.none) J rfl q
 | brk =>
  obtain⟨_,_,_,q⟩:=c;exact False.elim q
 | cont =>
  obtain⟨_,_,_,q⟩:=c;exact False.elim q
structure GQ (g:Y3) (P:U8) (w:W1) (K:U0) (mg:U4) (base:Heap) (k:Nat) (x:Str) (ps:W0) (sp:Sp):Prop where
 ex:∃f fd,Mz g P w K mg base k f fd ps sp/\Binds K fd ps []/\PySem.W.keepIn K (.ref f)=true/\mg x=some (.ref f)
theorem GQ.mono{j k:Nat}{x:Str}(c:GQ g P w K mg base j x ps sp)(h:j<=k):GQ g P w K mg base k x ps sp :=
 let ⟨f,fd,F,b,kp,m⟩:=c.ex
 ⟨f,fd,⟨F.len,λA outer s H args us vs Q E a=>F.run A outer s H args us vs Q E (a.mono h)⟩,b,kp,m⟩
section
variable {X:Cx}{k:Nat}{x:Str}{ps:W0}{sp:Sp}{p pos:Pos}{e:Expr}{es:List Expr}{t:TA}{E:XK}
theorem nQ(c:GQ g X.prog X.w X.K X.mg X.base k x ps sp)(hr:DR g k X.A)(hg:Gl X x)(ha:PA X (e::es) t)(hdb:(x == ("__debug__":Str))=false:=by decide)
  (he:starEach (e::es) X.env=(false,eval e X.env)::starEach es X.env:=by rfl) (hpl:(backTo pos (starEach es X.env)).any (·.1)=false:=by rfl):PE X (.Call (.Name x p) (e::es) [] pos) (HD sp [] E0 t):=by
 obtain⟨f,fd,F,b,n,m⟩:=c.ex;intro p2 s σ H Q I h;refine MF (J4 I hg m ?_ hdb);refine SX (h₀:=X.base) I.ok.mod.kin n (A_ (ha pos p2 s σ H _ I h) λus s1 ⟨vs,H1,d,r,q⟩=>⟨d.kIn,?_⟩) he hpl;have l:sp vs H1 Q E0:=by have i:sp (vs++[]) H1 Q E0:=q;rw[JM]at i;exact i
 have o:us.length=ps.length:=by rw[<-r.length];exact F.len _ _ _ _ l
 have j:=b s1 us d.kIn (by rw[JM];exact o);rw[JM]at j;refine Ks (Lz (F.run X.A X.stack s1 H1 ⟨us,[]⟩ us vs Q E0 hr d.env0 j r l) λr s' a=>?_);cases r with
 | error e=>exact False.elim a
 | ok fl =>
  cases fl with
  | ret u=>exact d.after a
  | next=>exact False.elim a
  | brk=>exact False.elim a
  | cont=>exact False.elim a
end
theorem Ab.calH{x:Str}{st:Stmt}{dV:W3}{k:Nat}(F:Ab K x st dV){h:Heap}(X:K.In h)(G:Ng h mg)(N:W0)
  (hbody:∀{f:Y3}{cdv:W3}{A:Y0}{outer:List Env}{s:U7},N.Nodup->∀(H:Hp) (vs:List V) (Q:VK) (E:XK),DR g k (A.deeper (envOfC x (Br st) s.heap.objs.size f cdv))->sp vs H Q E ->
   ∃t,Eu (Tz P w K mg base N x (Br st) f cdv A outer s H) (DN st) t/\t { nx:=λ_ H'=>Q .non H',rt:=Q} (start N vs) H)(S:Ay N ps (Br st):=by exact fS) (bi:Kc K x st dV ps:=by first | exact Ot λ_ _ _ _ _ _ _=>rfl | exact Oq λ_ _ _ _ _ _ _ _=>rfl | exact Oo λ_ _ _ _ _ _ _ _ _=>rfl | exact Om λ_ _ _ _ _ _ _ _ _ _=>rfl | exact Ol λ_ _ _ _ _ _ _ _ _ _ _=>rfl | exact Ou λ_ _ _ _ _ _=>rfl) (len:∀vs H Q E,sp vs H Q E->vs.length=ps.length:=by intro _ _ _ _ h;repeat first | (obtain⟨rfl,_⟩:=h;rfl) | (obtain⟨⟨rfl,_⟩,_⟩:=h;rfl) | (obtain⟨_,h⟩:=h)):GQ g P w K mg base (k+1) x ps sp:=by
 obtain⟨f,n,od,kV,c,m,d,cdv,ct,j,l,b,e,ns⟩:=F.ex;exact⟨f,_,X6q l b S len λA outer s H vs Q E i a=>hbody S.nd H vs Q E i a,bi kV c m d cdv ct,e,GZ X G ns⟩
end L2
namespace PySem
section
variable {prog:U8}{w:W1}{A:Y0}{E:U2}{s:U7}
end
end PySem
set_option maxHeartbeats 1000000
namespace Av
theorem oA{α β:Type}{R Y:α->β->Prop}{G:Prop}(h:(∀u v,R u v->Y u v)->G)(b:∀u v,R u v->Y u v):G:=h b
open L2 Pc Dv Ez Fy
open Fp (V6 ev)
def Ey (K:U0)(H:Hp):List Addr->List Mk->Prop:=Paired λp m=>Ak K H p (L3 m)
variable{K:U0}{H H':Hp}{ps:U3}{ms:List Mk}
theorem Ey.same(h:Ey K H ps ms)(s:Same H H'):Ey K H' ps ms:=Paired.imp' (λ_ _ c=>s.tup c) h
theorem Ey.length(h:Ey K H ps ms):ps.length=ms.length:=Paired.length h
theorem n_{l a:Y3}{xs:List V}{o:HO}(h:Ak K H a xs)(hl:∀ys,H l≠some (.tup ys))(hf:∀o u,H l≠some (.frz o u)):Ak K (upd H l o) a xs:=by
 by_cases e:a=l
 ·subst e;rcases h with (h | ⟨o,h⟩) | h
  ·exact absurd h (hl _)
  ·exact absurd h (hf _ _)
  ·exact .inr h
 ·rcases h with (h | ⟨o,h⟩) | h
  ·exact .inl (.inl (by rw[BK e];exact h))
  ·exact .inl (.inr ⟨o,by rw[BK e];exact h⟩)
  ·exact .inr h
theorem Ey.upd{l:Y3}{xs ys:List V}(h:Ey K H ps ms)(hl:H l=some (.lst xs)):Ey K (upd H l (.lst ys)) ps ms :=
 Paired.imp' (λ_ _ c=>n_ c (λys z=>by rw[hl]at z;cases z) (λo u z=>by rw[hl]at z;cases z)) h
theorem Ey.get{K:U0}{H:Hp}:∀{ps:U3}{ms:List Mk}{i:Nat}{p:Y3},Ey K H ps ms->ps[i]?=some p->∃e,ms[i]?=some e/\Ak K H p (L3 e):=λ{ps ms i p} h e=>Jv h e
theorem Gq{α β:Type}{F:α->β->Prop}{l2:List α}{r2:List β}:∀{l1:List α}{r1:List β},Paired F l1 r1->Paired F l2 r2->Paired F (l1++l2) (r1++r2)
 | _,_,.nil,h=>h
 | _,_,.cons e r,h=>.cons e (Gq r h)
def Ed (K:U0)(H:Hp)(wv:V)(N:Nat)(ws:W7):Prop:=((wv=.non/\ws=List.range N)\/∃lw,wv=.ref lw/\H lw=some (.lst (ws.map λc=>V.int (c:Nat))))/\(∀c∈ws,c<N)/\ws.length<=6
theorem Ed.same{wv:V}{N:Nat}{ws:W7}(h:Ed K H wv N ws)(s:Same H H'):Ed K H' wv N ws:=by
 obtain⟨h | ⟨a,e,q⟩,r⟩:=h
 ·exact⟨.inl h,r⟩
 ·exact⟨.inr ⟨a,e,s _ _ q⟩,r⟩
def Kq (K:U0):Sp:=λvs H Q _=>∃(wv:V) (N:Nat) (ws:W7),vs=[.int N,wv]/\N<=6/\Ed K H wv N ws/\∀(l:Y3) (qs:U3) (H':Hp),H l=none->Same H H'->H' l=some (.lst (qs.map V.ref))->Ey K H' qs (wr ws)->Q (.ref l) H'
def Jk (K:U0):Sp:=λvs H Q _=>∃(l pm:Y3) (ps:U3) (ms:List Mk) (m:Mk),vs=[.ref l,.ref pm]/\Ag K H l (ps.map V.ref)/\CW H ps ms/\ms.length<=12/\Ak K H pm (L3 m)/\∀(r:Y3) (H':Hp),H r=none->Same H H'->H' r=some (.tup ((ans ms m).map V.int))->Q (.ref r) H'
structure Fj (K:U0) (H':Hp) (r:Y3) (ms ws:List Mk):Prop where
 ex:∃(as qs:U3) (ts:List (List Int×Nat)),H' r=some (.lst (as.map V.ref))/\Ey K H' qs ws/\ts.Perm (Bp ms ws ws.length)/\ts.Pairwise (λa b=>bv a.1<bv b.1)/\Paired (λa (e:List Int×Nat)=>∃b,H' a=some (.tup [.ref b,.ref (qs.getD e.2 0)])/\H' b=some (.tup (e.1.map V.int))) as ts
 alike:∀i,i<ws.length->∃e∈Bp ms ws ws.length,e.1=ans ms (ws.getD i (0,0,0))/\Md ms (mul (ws.getD e.2 (0,0,0)) (ws.getD i (0,0,0)))
structure Mw (K:U0) (H':Hp) (dx:Y3) (ms ws:List Mk):Prop where
 ex:∃(p q:Y3) (j i:Nat),H' dx=some (.xd [("one",.ref p),("other",.ref q)])/\Ak K H' p (L3 (ws.getD j (0,0,0)))/\Ak K H' q (L3 (ws.getD i (0,0,0)))/\j<ws.length/\i<ws.length/\ans ms (ws.getD j (0,0,0))=ans ms (ws.getD i (0,0,0))/\Apart ms (mul (ws.getD j (0,0,0)) (ws.getD i (0,0,0)))
def WD (K:U0)(CT CU:Y3):Sp:=λvs H Q E=>∃(v wv:V) (N:Nat),vs=[v,.int N,wv]/\1<=N/\N<=6/\((Fo K H N v/\∀H',Same H H'->E (.ref CT) none H')\/∃(l:Y3) (ps:U3) (ms:List Mk) (ws:W7),v=.ref l/\G9 N H l ps ms/\Ed K H wv N ws /\
 (∀(r:Y3) (H':Hp),Same H H'->Fj K H' r ms (wr ws)->Q (.ref r) H')/\(∀(dx:Y3) (H':Hp),Same H H'->Mw K H' dx ms (wr ws)->E (.ref CU) (some dx) H'))
def Jj:Sp:=λvs H Q _=>∃(l:Y3) (ps:U3) (ms:List Mk) (N:Nat),vs=[.ref l,.int N]/\G9 N H l ps ms/\1<=N/\N<=6/\∀H',Same H H'->Q .non H'
section
variable {P:U8}{w:W1}{K:U0}{mg:U4}{base:Heap}{k:Nat}{h:Heap}
theorem GX:Ay ["rows","cells"] ["rows","cells"] (Br (top 32)):=fS
theorem yE(F:Ab K "check_table" (top 32) .none)(X:K.In h)(G:Ng h mg)(cV:Ao P w K mg base k "is_table" ["rows","cells"] kZ):Ao P w K mg base (k+1) "check_table" ["rows","cells"] Jj:=by
 refine F.cal X G _ (S:=GX) λg H vs Q f b h=>?_;obtain⟨l,ps,ms,N,rfl,T,d,c,a⟩:=h
 refine⟨_,(@Al _ _ _ (Bq (Dl (CV (BJ cV b rfl (Aa (pv 0) (Aa (pv 1) Ad)))))
   (@Al _ _ _ wM)
   Bw)),?_⟩
 try dsimp only[Cm]
 exact⟨_,Z,_,Z,l,ps,ms,N,Z,T,d,c,λH1 e=>⟨_,Z,Ar (a H1 e)⟩⟩
theorem yr(F:Ab K "answers" (top 39) .none)(X:K.In h)(G:Ng h mg)(B:Bs mg)(cX:Ao P w K mg base k "commute" ["one","other"] (fU K)):Ao P w K mg base (k+1) "answers" ["rows","mark"] (Jk K):=by
 refine F.cal X G ["rows","mark"] λR H vs Q N E h=>?_;obtain⟨l,A,ps,ms,m,rfl,u,s,Jy,o,M⟩:=h;have g:(ps.map V.ref).length=ms.length:=by rw[Ax,s.length]
 refine⟨_,(@Al _ _ _ (BL (Mt lY rfl B.tuple Ni (Aa (GF rfl (BX.of (Nc:=["row","mark"]) (mp:=[none,some 1]) (by kernel_rfl)) (Ew (pv 0)) (λ_ _ _ _=>(CP (i:=0) (show (["row","mark"]:W0).Nodup by decide +kernel) rfl (Or.inl rfl))) (λ_ _ _ _=>(pD (CV (BJ cX E rfl (Aa (pv 0) (Aa (pv 1) Ad)))) Ae Ae))) Ad)))),?_⟩;try dsimp only[Cm]
 refine⟨_,Z,l,Z,⟨_,u⟩,λacc b=>?_⟩;refine Lb (K:=K) (a:=l) (xs:=ps.map V.ref) (fr:=[some (.ref A)]) (λi ys H'=>Same H H'/\H' acc=some (.lst ys)/\ys=((ans ms m).take i).map V.int) (by rw[g];exact Ce (by omega)) ⟨Aw b _,Aj,Z⟩ (λi ys H' e=>e.1.seq u) ?_ ?_
 ·rintro i x ys HA NN v S ⟨n,D,rfl⟩ C;rw[Bo]at v;obtain⟨p,hp,rfl⟩:=D_.mp v;obtain⟨r,q,J⟩:=s.get hp;have j:(ans ms m)[i]?=some (if comm r m=0 then 0 else 1):=by unfold ans;rw[Bo,q];rfl
  refine⟨_,Z,_,Z,p,A,r,m,Z,Ak.of (n _ _ J),n.tup o,_,Z,?_⟩;have y:∀z:Int,(ans ms m)[i]?=some z->NN (.int z) HA:=λz I=>by
   refine C _ _ D ⟨Ec n b,Aj,?_⟩;rw[Ga,I,G7,CJ];rfl
  refine CQ (λc=>?_) (λc=>?_)
  ·rw[if_pos c]at j;exact y 0 j
  ·rw[if_neg c]at j;exact y 1 j
 rintro ys O L ⟨f,t,rfl⟩;rw[g,show ms.length=(ans ms m).length by unfold ans;rw[Ax],G6]at t;exact⟨acc,_,Z,.inl ⟨Ag.of t,λr d=>M r _ (f.free d) (f.trans (Aw d _)) Aj⟩⟩
theorem GR:Ay ["cells","where","told","cell","bit"] ["cells","where"] (Br (top 38)):=fS
structure Uw (P:U8) (w:W1) (K:U0) (mg:U4) (base:Heap) (k:Nat):Prop where
 c:Ao P w K mg base k "wrongs" ["cells","where"] (Kq K)
 d1:JF P w K mg base k "wrongs" ["cells","where"] (Kq K) [.non]
theorem Uw.mono{j k:Nat}(c:Uw P w K mg base j)(h:j<=k):Uw P w K mg base k:=⟨c.c.mono h,c.d1.mono h⟩
theorem yL{D:Y3}{oc:W3}{od:W9}{n:Nat}{sl:W8}(l:K.lookup D=some ⟨oc,od,.seq #[.none] n,sl⟩)(F:Ab K "wrongs" (top 38) (.ref D))(X:K.In h)(G:Ng h mg)(B:Bs mg){aP:Y3}(gP:mg "PRODUCT_OF_NONE"=some (.ref aP))(sP:∀H:Hp,Ak K H aP (L3 (0,0,0))):Uw P w K mg base (k+1):=by
 have nd:=GR.nd
 obtain⟨f,kV,a5,pm,an,cdv,ct,FO,kp,m⟩:=F.all (P:=P) (w:=w) (base:=base) (k:=k) (sp:=Kq K) (ps:=["cells","where"]) X G GR (λvs H Q E h=>by obtain⟨T,N,d,rfl,_⟩:=h;rfl) (λf cdv A outer s H vs Q E hr h=>by
  obtain⟨T,N,d,rfl,N6,⟨hw,wN,w6⟩,kq⟩:=h
  refine⟨_,(@Az _ _ _ _ _ (@BW _ _ 2 _ _ _ _ nd rfl (Or.inl rfl) (@Ho _ _ _ _ (Aa (nU (v:=.ref aP) rfl gP rfl) Ad)) rfl (.inl rfl))
  (@Az _ _ _ _ _ (Io PassesOwn.never rfl (Ew (pD (Bx Ml (pv 1) Gv (Ac _)) (fu rfl rfl B.range rfl B.list (Aa (pv 0) Ad)) (pv 1))) (CP (i:=3) nd rfl (Or.inl rfl))
   (@Cp _ _ _ _ _ (@BW _ _ 4 _ _ _ _ nd rfl (Or.inl rfl) (Ah Ge Ae (pv 3)) rfl (.inl rfl))
   (@Al _ _ _ (O_ (Mh Nz PySem.F.slot_list_extend PySem.F.type_list_extend xr (pv 2) (Aa (@Ho _ _ _ _ (Aa (@Cr _ _ _ _ _ (Aa Ae (Aa (pv 4) (Aa Ae Ad)))) (Aa (@Cr _ _ _ _ _ (Aa Ae (Aa Ae (Aa (pv 4) Ad)))) (Aa (@Cr _ _ _ _ _ (Aa Ae (Aa (pv 4) (Aa (pv 4) Ad)))) Ad)))) Ad))))))
  (@Al _ _ _ (BL (pv 2))))),?_⟩
  refine⟨(show 1<=sizeLine by decide),λlt j=>?_⟩
  have s1:=Aw j (.lst [V.ref aP])
  have e1:upd H lt (.lst [V.ref aP]) lt=some (.lst [V.ref aP]):=Aj
  generalize upd H lt (.lst [V.ref aP])=H1 at s1 e1 ⊢
  apply oA (R:=λ(u:Y3) (H2:Hp)=>Same H1 H2/\u≠lt/\H2 u=some (.lst (d.map λc=>V.int (c:Nat))))
  case h =>
   intro no
   rcases id hw with ⟨ew,es⟩ | ⟨u,ew,I⟩
   ·refine⟨_,Z,Z,_,Z,CQ (λ_=>?_) (λz=>absurd ew z)⟩
    refine⟨_,Z,N,Z,by omega,λr C=>?_⟩
    rw[<-es]
    have s2:=Aw C (.lst (d.map λi=>V.int (i:Nat)))
    have e2:upd H1 r (.lst (d.map λi=>V.int (i:Nat))) r=some (.lst (d.map λi=>V.int (i:Nat))):=Aj
    have ne:r≠lt:=λz=>by rw[z,e1]at C;cases C
    generalize upd H1 r (.lst (d.map λi=>V.int (i:Nat)))=H2 at s2 e2 ⊢
    refine⟨r,Z,⟨_,Ag.of e2⟩,?_⟩
    exact no r H2 ⟨s2,ne,e2⟩
   ·refine⟨_,Z,Z,_,Z,CQ (λz=>by rw[ew]at z;cases z) (λ_=>?_)⟩
    refine⟨_,Z,u,ew,⟨_,Ag.of (s1 _ _ I)⟩,?_⟩
    exact no u H1 ⟨Same.refl _,(λz=>by rw[z,j]at I;cases I),s1 _ _ I⟩
  rintro u H2 ⟨S2,ne,I⟩
  refine Kd (K:=K) (a:=u) (xs:=d.map λc=>V.int (c:Nat)) (λi σ H'=>Same H H'/\H' u=some (.lst (d.map λc=>V.int (c:Nat)))/\(∃v3 v4,σ=[some (.int N),some T,some (.ref lt),v3,v4])/\∃g:List Addr,H' lt=some (.lst (g.map V.ref))/\Ey K H' g (wr (d.take i)))
   ⟨s1.trans S2,I,⟨_,_,Z⟩,[aP],S2 _ _ e1,.cons (sP _) .nil⟩ (λi σ H' _ e=>Ag.of e.2.1) ?_ ?_
  ·rintro i x σ O hx ⟨W,J,⟨v3,v4,rfl⟩,g,S,M⟩
   rw[Bo]at hx
   obtain⟨c,hc,rfl⟩:=D_.mp hx
   have cN:=wN c (Dz hc)
   have il:i<d.length:=(Cv.mp hc).1
   have ec:(1:Int)*2^((c:Nat):Int).toNat=((2^c:Nat):Int):=ipow c
   refine⟨λσ H'=>O=H'/\σ=[some (.int N),some T,some (.ref lt),some (.int (c:Nat)),some (.int (2^c:Nat))],⟨_,Z,_,_,Z,Z,⟨1,Jc,by omega,by omega⟩,Z,?_⟩,?_⟩
   ·show [some (V.int N),some T,some (.ref lt),some (.int (c:Nat)),some (.int (1*2^((c:Nat):Int).toNat))]=_
    rw[ec]
   rintro σ _ ⟨rfl,rfl⟩
   refine⟨_,Z,.inl ⟨Z,_,Ag.of S⟩,_,Z,t3,λt h1=>?_⟩
   have s4:=Aw h1 (T3 (0,2^c,0))
   have e4:upd O t (T3 (0,2^c,0)) t=some (T3 (0,2^c,0)):=Aj
   generalize upd O t (T3 (0,2^c,0))=H4 at s4 e4 ⊢
   refine⟨_,Z,t3,λp h2=>?_⟩
   have Y:=Aw h2 (T3 (0,0,2^c))
   have e5:upd H4 p (T3 (0,0,2^c)) p=some (T3 (0,0,2^c)):=Aj
   generalize upd H4 p (T3 (0,0,2^c))=H5 at Y e5 ⊢
   refine⟨_,Z,_,Z,t3,λq h3=>?_⟩
   have U:=Aw h3 (T3 (1,2^c,2^c))
   have e6:upd H5 q (T3 (1,2^c,2^c)) q=some (T3 (1,2^c,2^c)):=Aj
   generalize upd H5 q (T3 (1,2^c,2^c))=H6 at U e6 ⊢
   refine⟨t3,λl3 a4=>?_⟩
   have L:=Aw a4 (.lst [V.ref t,V.ref p,V.ref q])
   have e7:upd H6 l3 (.lst [V.ref t,V.ref p,V.ref q]) l3=some (.lst [V.ref t,V.ref p,V.ref q]):=Aj
   generalize upd H6 l3 (.lst [V.ref t,V.ref p,V.ref q])=H7 at L e7 ⊢
   have o:=((s4.trans Y).trans U).trans L
   have q7:=o _ _ S
   have a0:=Ey.length M
   rw[XS,Ft]at a0
   refine⟨lt,l3,_,_,Z,Z,q7,e7,by rw[Ax];exact Ce (show g.length+3<=64 by omega),?_⟩
   have S7:=W.trans o
   have sU:Same H (upd H7 lt (.lst (g.map V.ref++[V.ref t,V.ref p,V.ref q]))):=Ec S7 j
   refine⟨sU,?_,⟨_,_,Z⟩,g++[t,p,q],by rw[Aj,CJ];rfl,?_⟩
   ·rw[BK ne];exact o _ _ J
   ·rw[Ga,hc,G7,oF]
    refine Ey.upd (xs:=g.map V.ref) ?_ q7
    exact Gq (M.same o) (.cons (Ak.of ((Y.trans (U.trans L)) _ _ e4)) (.cons (Ak.of ((U.trans L) _ _ e5)) (.cons (Ak.of (L _ _ e6)) .nil)))
  ·rintro σ O ⟨W,J,⟨v3,v4,rfl⟩,g,S,M⟩
   rw[Ax,G6]at M
   exact⟨_,Z,kq lt g O j W S M⟩)
 refine⟨⟨f,_,FO,?_,kp,m⟩,⟨f,_,[.none],FO,?_,.cons rfl .nil,kp,m⟩⟩
 ·intro s us XX hl;have y:us.length=2:=by simpa using hl
  match us,y with
  | [a,b],_=>exact BindsTo.of_defaults rfl (XX _ _ l) rfl rfl rfl
 ·intro s us XX hl;have y:us.length=1:=by simpa using hl
  match us,y with
  | [a],_=>exact BindsTo.of_defaults rfl (XX _ _ l) rfl rfl rfl
end
end Av
namespace Av
open L2 Pc Dv Ez Fy
open Fp (V6 ev)
theorem X3s:bootBuiltins "ValueError"=some (.type "ValueError"):=by decide +kernel
set_option genInjectivity false in
set_option genSizeOf false in
structure Pk (K:U0) (mg:U4) (CT CU D:Y3) (bT bU bD:U5) where
 mT:mg "NoTable"=some (.ref CT)
 mU:mg "Unguarded"=some (.ref CU)
 mD:mg "BoardError"=some (.ref D)
 mV:mg "ValueError"=none
 xT:ExcAt K CT bT
 xD:ExcAt K D bD
 clU:ClsAt K CU bU
 tlU:PySem.W.tailIn K I_ bU=true
 subT:(Value.ref CT::bT).contains (.ref D)=true
 noT:(Value.ref CT::bT).contains (.ref CU)=false
 subU:(Value.ref CU::bU).contains (.ref CU)=true
 kT:PySem.W.Ep K CT
 kU:PySem.W.Ep K CU
 tT:PySem.W.kitOne K (.ref CT) (.ref CT)=some true
 uT:PySem.W.kitOne K (.ref CU) (.ref CT)=some false
 uD:PySem.W.kitOne K (.ref CU) (.ref D)=some true
 vT:PySem.W.kitOne K (.ref CT) (.type "ValueError")=some true
 vU:PySem.W.kitOne K (.ref CU) (.type "ValueError")=some true
 a_NoAmount:Addr
 mo_NoAmount:mg "NoAmount"=some (.ref a_NoAmount)
 kt_NoAmount:PySem.W.kitOne K (.ref CT) (.ref a_NoAmount)=some false
 ku_NoAmount:PySem.W.kitOne K (.ref CU) (.ref a_NoAmount)=some false
 a_NoMark:Addr
 mo_NoMark:mg "NoMark"=some (.ref a_NoMark)
 kt_NoMark:PySem.W.kitOne K (.ref CT) (.ref a_NoMark)=some false
 ku_NoMark:PySem.W.kitOne K (.ref CU) (.ref a_NoMark)=some false
 a_NoBoard:Addr
 mo_NoBoard:mg "NoBoard"=some (.ref a_NoBoard)
 kt_NoBoard:PySem.W.kitOne K (.ref CT) (.ref a_NoBoard)=some false
 ku_NoBoard:PySem.W.kitOne K (.ref CU) (.ref a_NoBoard)=some false
 a_NoMove:Addr
 mo_NoMove:mg "NoMove"=some (.ref a_NoMove)
 kt_NoMove:PySem.W.kitOne K (.ref CT) (.ref a_NoMove)=some false
 ku_NoMove:PySem.W.kitOne K (.ref CU) (.ref a_NoMove)=some false
 a_NoCell:Addr
 mo_NoCell:mg "NoCell"=some (.ref a_NoCell)
 kt_NoCell:PySem.W.kitOne K (.ref CT) (.ref a_NoCell)=some false
 ku_NoCell:PySem.W.kitOne K (.ref CU) (.ref a_NoCell)=some false
 a_NeverSo:Addr
 mo_NeverSo:mg "NeverSo"=some (.ref a_NeverSo)
 kt_NeverSo:PySem.W.kitOne K (.ref CT) (.ref a_NeverSo)=some false
 ku_NeverSo:PySem.W.kitOne K (.ref CU) (.ref a_NeverSo)=some false
 a_NoShare:Addr
 mo_NoShare:mg "NoShare"=some (.ref a_NoShare)
 kt_NoShare:PySem.W.kitOne K (.ref CT) (.ref a_NoShare)=some false
 ku_NoShare:PySem.W.kitOne K (.ref CU) (.ref a_NoShare)=some false
 a_NoText:Addr
 mo_NoText:mg "NoText"=some (.ref a_NoText)
 kt_NoText:PySem.W.kitOne K (.ref CT) (.ref a_NoText)=some false
 ku_NoText:PySem.W.kitOne K (.ref CU) (.ref a_NoText)=some false
 a_NotBorne:Addr
 mo_NotBorne:mg "NotBorne"=some (.ref a_NotBorne)
 kt_NotBorne:PySem.W.kitOne K (.ref CT) (.ref a_NotBorne)=some false
 ku_NotBorne:PySem.W.kitOne K (.ref CU) (.ref a_NotBorne)=some false
def Ji (K:U0)(C:Y3):Sp:=λvs H _ E=>∃(v:V) (N:Nat),vs=[v,.int N]/\1<=N/\N<=6/\Fo K H N v/\∀H',Same H H'->E (.ref C) none H'
theorem Qh{g:List Int×Nat->V}{k:U6}:∀(t:List (List Int×Nat)),Bl (t.map λe=>(kb e.1,g e)) (kb k)=(t.find? λe=>decide (e.1=k)).map g
 | []=>rfl
 | e::t=>by
  rw[Er,Nq];by_cases c:e.1=k
  ·rw[Ql (by rw[c]),DK c];rfl
  ·rw[Qk (λz=>c (X6a z)),Qh t,Df c]
theorem yN{α β:Type}{f:α->β}{l' k:List β}(h:l'.Perm k):∀l:List α,k=l.map f->∃m:List α,m.Perm l/\l'=m.map f:=by
 induction h with
 | nil=>intro l e;cases l with
  | nil=>exact⟨[],.nil,rfl⟩
  | cons=>cases e
 | cons x _ ih=>intro l e;cases l with
  | nil=>cases e
  | cons a l =>
   obtain⟨d,c⟩:=List.cons.inj e;obtain⟨m,p,q⟩:=ih l c;exact⟨a::m,p.cons a,by rw[Er,<-q,d]⟩
 | swap x y k=>
  intro l e
  match l,e with
  | a::b::l,e =>
   obtain⟨d,c⟩:=List.cons.inj e;obtain⟨g,n⟩:=List.cons.inj c;exact⟨b::a::l,.swap _ _ _,by rw[Er,Er,<-n,d,g]⟩
 | trans _ _ ih1 ih2=>
  intro l e;obtain⟨m,p,q⟩:=ih2 l e;obtain⟨m',i,j⟩:=ih1 m q;exact⟨m',i.trans p,j⟩
theorem fP{α β γ:Type}{F:α->β->Prop}{f:γ->β}:∀{l:List α}{m:List γ},Paired F l (m.map f)->Paired (λa c=>F a (f c)) l m
 | [],[],_=>.nil
 | _::_,_::_,.cons e r=>.cons e (fP r)
theorem Q9{n:Nat}(h:n<=64):n<sizeLine:=Nat.lt_of_le_of_lt h (by decide)
section
variable {P:U8}{w:W1}{K:U0}{mg:U4}{base:Heap}{k:Nat}{h:Heap}{CT CU D fi:Y3}{bT bU bD:U5}{qual:Str}
theorem X1r:Ay ["self","one","other"] ["self","one","other"] (Br (JB (top 12) 0)):=fS
theorem X2t(x:Dy K CU fi qual (JB (top 12) 0) bU)(na:Bj K CU "one")(nb:Bj K CU "other"):DW P w K mg base (k+1) CU bU "one" "other":=by
 refine x.cal2 na nb X1r (λ_ _ _ _ _ _ _ _ _=>rfl) λi cdv A outer s H vs Q E h=>?_;obtain⟨a,y,z,rfl,d,q⟩:=h;refine⟨_,@Az _ _ _ _ _ (X2e (C:=CU) x.sa x.po x.g.dc na (pv 0) (pv 1) rfl) (@Al _ _ _ (X2d (f:="one") (C:=CU) x.sa x.po x.g.dc nb (pv 0) (pv 2) rfl)),?_⟩;refine⟨_,Z,_,Z,a,Z,d,λdx h1 h2=>?_⟩;have e:upd (upd H dx (.xd [("one",y)])) a (Cj (some dx) a CU) dx=some (.xd [("one",y)]):=by rw[BK h2,Aj]
 refine⟨_,Z,_,Z,a,dx,y,Z,Aj,e,by decide,?_⟩;have c:upd (upd (upd H dx (.xd [("one",y)])) a (Cj (some dx) a CU)) dx (.xd [("one",y),("other",z)])=upd (upd H dx (.xd [("one",y),("other",z)])) a (Cj (some dx) a CU):=by
  funext b;by_cases b1:b=dx
  ·subst b1;rw[Aj,BK h2,Aj]
  ·rw[BK b1];by_cases b2:b=a
   ·subst b2;rw[Aj,Aj]
   ·rw[BK b2,BK b2,BK b1,BK b1]
 rw[c];exact q dx h1 h2
theorem zK(F:Ab K "check_table" (top 32) .none)(X:K.In h)(G:Ng h mg)(x:Pk K mg CT CU D bT bU bD)(cV:Ao P w K mg base k "is_table" ["rows","cells"] (Jg K)):JD P w K mg base (k+1) "check_table" ["rows","cells"] (Ji K CT):=by
 refine F.calX X G _ (S:=GX) λj H vs Q E f h=>?_;obtain⟨v,N,rfl,i,g,t,a⟩:=h;refine⟨_,(@Al _ _ _ (Bq (Dl (CV (BJ cV f rfl (Aa (pv 0) (Aa (pv 1) Ad))))) (@Al _ _ _ (wO Fg rfl rfl x.mT x.xT (Aa C_ Ad))) Bw)),?_⟩;try dsimp only[Cm]
 refine⟨_,Z,_,Z,v,N,Z,i,g,?_⟩;cases t with
 | odd ty e=>exact .inl ⟨_,ty,e,_,rfl,Cq ⟨by decide,a H (Same.refl _)⟩⟩
 | item hl QV pr no rd=>exact .inr (.inl ⟨_,_,_,rfl,hl,QV,pr,no,λH' c=>⟨_,rfl,Cq ⟨by decide,a H' c⟩⟩⟩)
 | marks hl hm Jy ok no=>exact .inr (.inr ⟨_,_,_,rfl,hl,hm,Jy,ok,λb H' c d=>by rw[no b d];exact⟨_,rfl,Cq ⟨by decide,a H' c⟩⟩⟩)
theorem HF:Ay ["rows","cells","where","firsts","wrong","first"] ["rows","cells","where"] (Br (top 40)):=fS
structure sY (P:U8) (w:W1) (K:U0) (mg:U4) (base:Heap) (k:Nat) (CT CU:Y3):Prop where
 c:JD P w K mg base k "mends" ["rows","cells","where"] (WD K CT CU)
 d1:M5 P w K mg base k "mends" ["rows","cells","where"] (WD K CT CU) [.non]
theorem vq{Dd:Y3}{oc:W3}{od:W9}{n:Nat}{sl:W8}(l0:K.lookup Dd=some ⟨oc,od,.seq #[.none] n,sl⟩)(F:Ab K "mends" (top 40) (.ref Dd))(X:K.In h)(G:Ng h mg)(B:Bs mg)(mI:mg "Unguarded"=some (.ref CU))(dR:DW P w K mg base k CU bU "one" "other")
  (dD:Ao P w K mg base (k+1) "check_table" ["rows","cells"] Jj) (x_check_table:JD P w K mg base (k+1) "check_table" ["rows","cells"] (Ji K CT)) (cS:Ao P w K mg base (k+1) "wrongs" ["cells","where"] (Kq K)) (cW:Ao P w K mg base (k+1) "answers" ["rows","mark"] (Jk K)) (cY:Ao P w K mg base (k+1) "product" ["one","other"] (fV K)) (cP:Ao P w K mg base (k+1) "made_of" ["rows","mark","cells"] (fC K)):sY P w K mg base (k+2) CT CU:=by
 have nd:=HF.nd
 obtain⟨f,kV,b7,pm,an,cdv,ct,FO,kp,m⟩:=F.allX (P:=P) (w:=w) (base:=base) (k:=k+1) (sp:=WD K CT CU) (ps:=["rows","cells","where"]) X G HF (λvs H Q E h=>by obtain⟨v,wv,N,rfl,_⟩:=h;rfl) (λf cdv A outer s H vs Q E I h=>by
  obtain⟨v,wv,N,rfl,N1,N6,⟨nt,kx⟩ | ⟨l,ps,ms,ws,rfl,T,W,kq,kx⟩⟩:=h
  ·refine⟨_,(@Az _ _ _ _ _ (O_ (X2i x_check_table (Fg.passes λ_ _ _ z=>z) I rfl (Aa (pv 0) (Aa (pv 1) Ad)))) yQ),?_⟩
   exact⟨_,Z,_,Z,v,N,Z,N1,N6,nt,kx⟩
  refine⟨_,(@Az _ _ _ _ _ (O_ (BJ dD I rfl (Aa (pv 0) (Aa (pv 1) Ad))))
  (@Az _ _ _ _ _ (@BW _ _ 3 _ _ _ _ nd rfl (Or.inl rfl) pB rfl (.inl rfl))
  (@Az _ _ _ _ _ (Io PassesOwn.leaving rfl (Ew (BJ cS I rfl (Aa (pv 1) (Aa (pv 2) Ad)))) (CP (i:=4) nd rfl (Or.inl rfl))
   (@Az _ _ _ _ _ (@BW _ _ 5 _ _ _ _ nd rfl (Or.inl rfl) (nR (PN I) (pv 3) (BJ cW I rfl (Aa (pv 0) (Aa (pv 4) Ad))) (pv 4) ⟨Z,Z,Z,Z⟩) rfl (.inl rfl))
   (@Al _ _ _ (Bq (Bx Gu (BR Bk (BJ cP I rfl (Aa (pv 0) (Aa (BJ cY I rfl (Aa (pv 5) (Aa (pv 4) Ad))) (Aa (pv 1) Ad)))) Ae (λ_ _=>rfl)) C_ (Ac _))
    (@Al _ _ _ (zL dR I Fg rfl rfl mI (Aa (pv 5) (Aa (pv 4) Ad))))
    Bw))))
  (@Al _ _ _ (BL (Bc (uZ rfl I.units) rfl B.sorted V4 (Aa (Qc jO jP PySem.F.type_dict_items vd (pv 3)) Ad))))))),?_⟩
  refine⟨_,rfl,_,rfl,l,ps,ms,N,rfl,T,N1,N6,λH1 S1=>?_⟩
  refine λd hd=>?_
  have b2:=S1.free hd
  have s2:=Aw hd (.dT [])
  have e2:upd H1 d (.dT []) d=some (.dT []):=Aj
  generalize upd H1 d (.dT [])=H2 at s2 e2 ⊢
  have S2:=S1.trans s2
  refine⟨_,Z,_,Z,wv,N,ws,Z,N6,W.same S2,λlq g H3 fq S3 q3 m3=>?_⟩
  have a9:=S2.trans S3
  have dq:lq≠d:=λz=>by rw[z,e2]at fq;cases fq
  have ok:=qQ W.2.1
  have lw:=Ey.length m3
  have b1:(wr ws).length<=19:=by rw[XS];have:=W.2.2;omega
  generalize hws:wr ws=us at m3 lw ok b1 kq kx
  refine⟨lq,Z,⟨_,Ag.of q3⟩,Kd (K:=K) (a:=lq) (xs:=g.map V.ref) (λi σ H'=>Same H H'/\H' lq=some (.lst (g.map V.ref))/\(∃v4 v5,σ=[some (.ref l),some (.int N),some wv,some (.ref d),v4,v5])/\H' d=some (.dT ((Bp ms us i).map λe=>(kb e.1,V.ref (g.getD e.2 0))))/\Ey K H' g us /\
   ∀j,j<i->∃e∈Bp ms us i,e.1=ans ms (us.getD j (0,0,0))/\Md ms (mul (us.getD e.2 (0,0,0)) (us.getD j (0,0,0)))) ⟨a9,q3,⟨_,_,Z⟩,S3 _ _ e2,m3,λj hj=>absurd hj (Vf _)⟩ (λi σ H' _ e=>Ag.of e.2.1) ?_ ?_⟩
  ·rintro i x σ H4 hx ⟨S4,q4,⟨v4,v5,rfl⟩,U,m4,D⟩
   rw[Bo]at hx
   obtain⟨p,hp,rfl⟩:=D_.mp hx
   obtain⟨u,hu,b4⟩:=m4.get hp
   have il:i<us.length:=(Cv.mp hu).1
   have S:us.getD i (0,0,0)=u:=by rw[Bb,hu];rfl
   have ep:g.getD i 0=p:=by rw[Bb,hp];rfl
   have T4:=T.same S4
   refine⟨_,Z,d,Z,.inr ⟨_,.inl U⟩,_,Z,_,Z,l,p,ps,ms,u,Z,Ag.of T4.lst,T4.mks,Eh T4.len (by decide),b4,λra L fa Y ea=>?_⟩
   have d5:=Y _ _ U
   have len:=Ub ms us i
   refine⟨_,Z,_,kb (ans ms u),ra,d5,Z,by rw[Wu];exact ea,by rw[Ax];exact Q9 (by omega),?_⟩
   rw[Qh]
   have a8:=S4.trans Y
   apply oA (R:=λ(p1:Y3) (C:Hp)=>∃j e,Same H C/\C lq=some (.lst (g.map V.ref))/\Ey K C g us/\p1=g.getD j 0/\j<=i/\ans ms (us.getD j (0,0,0))=ans ms u/\e∈Bp ms us (i+1)/\e.2=j/\e.1=ans ms u/\(∀e∈Bp ms us i,e∈Bp ms us (i+1))/\C d=some (.dT ((Bp ms us (i+1)).map λe=>(kb e.1,V.ref (g.getD e.2 0)))))
   case h =>
    intro no
    have J:Bp ms us (i+1)=Gp (Bp ms us i) (ans ms u) i:=by show Gp _ (ans ms (us.getD i (0,0,0))) i=_;rw[S]
    cases c:(Bp ms us i).find? λe=>decide (e.1=ans ms u) with
    | some e =>
     obtain⟨me,ke⟩:=dw c
     obtain⟨lt,ae⟩:=Qe ms us i e me
     rw[Qj c]at J
     refine⟨λy hy=>?_,λz=>(by cases z)⟩
     obtain rfl:V.ref (g.getD e.2 0)=y:=Option.some.inj hy
     obtain⟨p1,a3⟩:∃p1,g.getD e.2 0=p1:=⟨_,Z⟩
     rw[a3]
     exact no p1 L ⟨e.2,e,a8,Y _ _ q4,m4.same Y,a3.symm,JK lt,by rw[<-ae,ke],by rw[J];exact me,Z,ke,by rw[J];exact λ_ h=>h,by rw[J];exact d5⟩
    | none =>
     rw[Qi c]at J
     refine⟨λy hy=>(by cases hy),λ_=>?_⟩
     have vn:Bl ((Bp ms us i).map λe=>(kb e.1,V.ref (g.getD e.2 0))) (kb (ans ms u))=none:=by rw[Qh,c];rfl
     rw[eZ _ vn]
     have sU:Same H (upd L d (.dT (((Bp ms us i).map λe=>(kb e.1,V.ref (g.getD e.2 0)))++[(kb (ans ms u),V.ref p)]))):=Ec a8 b2
     have eU:upd L d (.dT (((Bp ms us i).map λe=>(kb e.1,V.ref (g.getD e.2 0)))++[(kb (ans ms u),V.ref p)])) d=some (.dT ((Bp ms us (i+1)).map λe=>(kb e.1,V.ref (g.getD e.2 0)))):=by rw[Aj,J,CJ,<-ep];rfl
     have qU:upd L d (.dT (((Bp ms us i).map λe=>(kb e.1,V.ref (g.getD e.2 0)))++[(kb (ans ms u),V.ref p)])) lq=some (.lst (g.map V.ref)):=by rw[BK dq];exact Y _ _ q4
     have mU:Ey K (upd L d (.dT (((Bp ms us i).map λe=>(kb e.1,V.ref (g.getD e.2 0)))++[(kb (ans ms u),V.ref p)]))) g us:=Paired.imp' (λ_ _ c=>n_ c (λys z=>by rw[d5]at z;cases z) (λo u z=>by rw[d5]at z;cases z)) (m4.same Y)
     generalize upd L d (.dT (((Bp ms us i).map λe=>(kb e.1,V.ref (g.getD e.2 0)))++[(kb (ans ms u),V.ref p)]))=C at sU eU qU mU ⊢
     exact no p C ⟨i,(ans ms u,i),sU,qU,mU,ep.symm,Bf _,by rw[S],by rw[J];exact Fw _ (Dg.mpr rfl),Z,Z,by rw[J];exact λ_ h=>JQ _ h,eU⟩
   rintro p1 C ⟨j,e,S6,q6,m6,e1,ji,aj,me,ej,ek,sub,d6⟩
   have jl:j<us.length:=by omega
   obtain⟨uj,a5,a2⟩:∃uj,us[j]?=some uj/\Ak K C p1 (L3 uj):=by
    have hj:j<g.length:=by omega
    rw[e1]
    have:=m6.get (Bm hj)
    obtain⟨uj,a,b⟩:=this
    exact⟨uj,a,by rw[Bb,Bm hj];exact b⟩
   obtain⟨u',b6,a6⟩:=m6.get hp
   have:u'=u:=Option.some.inj (b6.symm.trans hu)
   subst this
   have O:us.getD j (0,0,0)=uj:=by rw[Bb,a5];rfl
   have b3:=ok uj (Dz a5)
   have b5:=ok u' (Dz hu)
   have T6:=T.same S6
   refine⟨_,Z,_,Z,_,Z,p1,p,uj,u',Z,a2,a6,λrp H7 S7 e7=>?_⟩
   have T7:=T6.same S7
   refine⟨_,Z,l,rp,ps,ms,mul uj u',N,Z,Ag.of T7.lst,T7.mks,e7,N6,Eh T7.len (by decide),T7.ok,X2m b3 b5,λrt H8 S8 a7=>?_⟩
   have q:=S7.trans S8
   have a4:=S6.trans q
   rcases a7 with ⟨k1,y,ln,_,hrt,_,k4,hf⟩ | ⟨pp,o,hrt,_,_,_,c1,c0⟩
   ·refine⟨rt,_,_,_,Z,Z,Ak.of hrt,Z,Z,_,Z,?_⟩
    rw[Df (λz=>absurd (V.str.inj z) (by decide +kernel))]
    refine Ar ⟨a4,q _ _ q6,⟨_,_,Z⟩,q _ _ d6,m6.same q,λt ht=>?_⟩
    by_cases ti:t=i
    ·subst ti
     exact⟨e,me,by rw[ek,S],k1,y,k4,by rw[ej,O,S];exact hf⟩
    ·obtain⟨e0,m0,a0,b0⟩:=D t (by omega)
     exact⟨e0,sub e0 m0,a0,b0⟩
   ·refine⟨rt,_,_,_,Z,Z,Ak.of hrt,Z,Z,_,Z,?_⟩
    rw[DK rfl]
    refine Cq ⟨_,Z,_,Z,_,_,Z,λdx a'=>?_⟩
    have s9:=Aw a' (.xd [("one",.ref p1),("other",.ref p)])
    refine kx dx _ (a4.trans s9) ⟨p1,p,j,i,Aj,?_,?_,jl,il,by rw[aj,S],o,?_,c0⟩
    ·rw[O];exact(q.trans s9).tup a2
    ·rw[S];exact(q.trans s9).tup a6
    ·rw[O,S];exact c1
  ·rintro σ H4 ⟨S4,q4,⟨v4,v5,rfl⟩,U,m4,D⟩
   rw[Ax,lw]at U D
   refine⟨_,Z,.inr (.inr (.inl ⟨Z,.inr ⟨_,U⟩⟩)),d,_,Z,Z,U,λvv hv=>?_⟩
   have s5:=Aw hv (Et vv d)
   have e5:upd H4 vv (Et vv d) vv=some (Et vv d):=Aj
   generalize upd H4 vv (Et vv d)=L at s5 e5 ⊢
   have len:=Ub ms us us.length
   refine⟨vv,d,(Bp ms us us.length).map λe=>(e.1,V.ref (g.getD e.2 0)),ms.length,Z,e5,by rw[Gk];exact s5 _ _ U,by rw[Ax];omega,λe he=>?_,λr as b8 C fr S6 e6 pm pw pr=>?_⟩
   ·obtain⟨e0,h0,rfl⟩:=DY.mp he
    exact d_ ms us _ e0 h0
   ·obtain⟨ts,pt,rfl⟩:=yN pm (Bp ms us us.length) rfl
    have a1:=s5.trans S6
    rw[Nv]at pw
    exact kq r C (S4.trans a1) ⟨⟨as,g,ts,e6,m4.same a1,pt,pw,fP pr⟩,D⟩)
 refine⟨⟨f,_,FO,?_,kp,m⟩,⟨f,_,[.none],FO,?_,.cons rfl .nil,kp,m⟩⟩
 ·intro s us XX hl;have M:us.length=3:=by simpa using hl
  match us,M with
  | [a,b,c],_=>exact BindsTo.of_defaults rfl (XX _ _ l0) rfl rfl rfl
 ·intro s us XX hl;have M:us.length=2:=by simpa using hl
  match us,M with
  | [a,b],_=>exact BindsTo.of_defaults rfl (XX _ _ l0) rfl rfl rfl
end
end Av
set_option maxHeartbeats 4000000
namespace L2
section
variable {X:Cx}{pins:U1}{σ:St}{H:Hp}{s:U7}
end
end L2
namespace L2
def M9 (K:U0)(te:TE):TE:=λσ H Q=>te σ H λv H1=>∃(p:Y3) (ns:U6),v=.ref p/\Ag K H1 p (ns.map V.int)/\ns.length<64/\∀(l:Y3) (ns':U6),H1 l=none->ns'.Perm ns->Q (.ref l) (upd H1 l (.lst (ns'.map V.int)))
theorem wJ{X:Cx}{e:Expr}{te:TE}{p kp kq pos:Pos}{kn:Nat}(hg:Gl X "sorted")(hm:X.mg "sorted"=none)(b:PE X e te)
  (hs:starEach [e] X.env=(false,eval e X.env)::starEach [] X.env:=by rfl):
  PE X (.Call (.Name "sorted" p) [e] [⟨some "reverse",.Constant (.bool true) kn kq,kp⟩] pos) (M9 X.K te):=by
 intro pins s σ H Q I h;refine MF (LR I hg hm V4 ?_ (by decide) (by decide));refine callWith_kw (A_ (Aa b Ad hs pos pins s σ H (λvs H1=>match vs with | [v]=>∃(p:Y3) (ns:U6),v=.ref p/\Ag X.K H1 p (ns.map V.int)/\ns.length<64/\∀(l:Y3) (a:U6),H1 l=none->a.Perm ns->Q (.ref l) (upd H1 l (.lst (a.map V.int))) | _=>False) I h) λus s1 ⟨vs,H1,o,r,d⟩=>?_) (by rw[hs];rfl) (by rw[hs];rfl) rfl rfl;refine A_ (X2g EY X5b pos pins s1 σ H1 (λzs H2=>zs=[.bl true]/\H2=H1) o ⟨Z,Z⟩) λF f ⟨zs,H2,c,A,t,j⟩=>?_;subst t j;obtain⟨u,rfl,n⟩:=vals1 A;cases n;match vs,r,d with
 | [v],r,d =>
  obtain⟨u,rfl,y⟩:=vals1 r;obtain⟨l,ns,rfl,E,J,q⟩:=d;cases y;obtain⟨its,i,k,hz⟩:=c.list E;have D:=JC i;have C:its.length=ns.length:=by have:=i.length;rw[Ax]at this;exact this.symm
  have z:(64:Nat)<=sizeLine:=by decide
  refine sorted_ints_rev k.isList D (by omega) λout a B g G=>?_;obtain⟨e,b⟩:=sortedAll_at f.heap its out;have m:=g.length_eq;exact⟨.ref (f.heap.objs.size+1),_,c.laid (t':=f.toks) (λ_ _ x=>sortedAll_old x) (Nk _) (show Ai X.prog X.w _ _ _ (.lst (a.map V.int)) from ⟨by rw[Ax];omega,out.toList,e,Wc B,b⟩),Z,q _ a (c.hok.fresh (Nk _)) g⟩
end L2
set_option maxHeartbeats 1000000
namespace Av
open L2 Pc Dv Ez Fy
open GJ (Sp Red Lo vv cl)
theorem Wx:(0:Int)<2147483647:=by decide
theorem jf:(0:Int)<2:=by decide
theorem Oa:(0:Int)<4:=by decide
theorem N_{n:Nat}(h:n<=6):2^n<=64:=Eh (Gn (by decide) h) (by decide)
theorem HW(z:Int){N:Nat}(h:0<N):∃i:Nat,i<N/\z%(N:Int)=(i:Int):=by
 have a:=Py z (show (N:Int)≠0 by omega);have b:=Int.emod_lt_of_pos z (show (0:Int)<N by omega);exact⟨(z%(N:Int)).toNat,by omega,by omega⟩
noncomputable abbrev nI (n:Nat):V:=.int n
theorem rN(bs:W7):bs.map nI=(bs.map λn=>((n:Nat):Int)).map V.int:=by rw[Gk];rfl
theorem Xi{m:Mk}:Builtin.bitOr (m.2.1:Int) ((m.2.2:Int)*(2:Int)^(6:Int).toNat)=((vv m.2.1 m.2.2:Nat):Int):=by
 have e:((m.2.2:Int)*(2:Int)^(6:Int).toNat)=((m.2.2 <<< 6:Nat):Int):=by rw[Nat.shiftLeft_eq];simp
 rw[e,Ob];rfl
theorem qI(v b:Nat):(if Builtin.bitXor (v:Int) (b:Int)<(v:Int) then Builtin.bitXor (v:Int) (b:Int) else (v:Int))=((cl v b:Nat):Int):=by
 rw[LQ];unfold cl;split<;>omega
theorem X3p(m:Mk):Fp.cm m m=0:=by
 show (pc (m.2.1&&&m.2.2)+pc (m.2.2&&&m.2.1))%2=0;rw[VR m.2.2];omega
theorem wz{ms:List Mk}{m:Mk}{N:Nat}(T:Fp.Tb ms)(hN:N<=6)(ok:Gz N m)(e:Fp.ev m)(cs:∀r∈ms,Fp.cm r m=0)(I:Fy.Indep (ms++[m])):Fp.Tb (ms++[m]):=by
 refine⟨⟨λz hz=>?_,λz hz=>?_,λz hz y a=>?_⟩,λz hz=>?_,I⟩
 ·rcases E_.mp hz with h | h
  ·exact T.nice.q z h
  ·rw[Dg.mp h];exact ok.q
 ·rcases E_.mp hz with h | h
  ·exact T.nice.even z h
  ·rw[Dg.mp h];exact e
 ·rcases E_.mp hz with h | h<;>rcases E_.mp a with h' | h'
  ·exact T.nice.com z h y h'
  ·rw[Dg.mp h'];exact cs z h
  ·rw[Dg.mp h,Fp.X3q];exact cs y h'
  ·rw[Dg.mp h,Dg.mp h'];exact X3p m
 ·rcases E_.mp hz with h | h
  ·exact T.v6 z h
  ·rw[Dg.mp h];exact⟨CK ok.f (Gn (by decide) hN),CK ok.s (Gn (by decide) hN)⟩
theorem wK{bs:W7}{ns:U6}(p:ns.Perm (bs.map λn=>((n:Nat):Int))):∃cs:List Nat,ns=cs.map (λn=>((n:Nat):Int))/\cs.Perm bs:=by
 refine⟨ns.map Int.toNat,?_,?_⟩
 ·rw[Gk];symm;refine(List.map_congr_left λn a=>?_).trans (List.map_id ns);obtain⟨b,_,rfl⟩:=DY.mp (p.mem_iff.mp a);simp
 ·have:=p.map Int.toNat;rw[Gk]at this;refine this.trans ?_;rw[show (Int.toNat ∘ λn:Nat=>((n:Nat):Int))=id from funext λn=>Ej n,List.map_id]
def Je (K:U0):Sp:=λvs H Q _=>∃(p p':Y3) (m m':Mk),vs=[.ref p,.ref p']/\Ak K H p (L3 m)/\Ak K H p' (L3 m')/\Q (.bl (decide (comm m m'=1))) H
noncomputable def FP (K:U0):L2.Sp:=λvs H Q _=>∃(p lb:Y3) (m:Mk) (bs:W7),vs=[.ref p,.ref lb]/\Ak K H p (L3 m)/\Ag K H lb (bs.map nI)/\m.2.2<64/\Red bs/\∀x:Nat,Lo bs (vv m.2.1 m.2.2) bs.length x->Q (nI x) H
noncomputable def g_ (K:U0):L2.Sp:=λvs H Q _=>∃(l:Y3) (ps:U3) (ms:List Mk),vs=[.ref l]/\Ag K H l (ps.map V.ref)/\CW H ps ms/\ms.length<=6/\(∀r∈ms,r.2.1<64/\r.2.2<64)/\∀(lb:Y3) (H':Hp) (bs:W7),Same H H'->Ag K H' lb (bs.map nI)->Red bs->bs.length<=6->(∀r∈ms,Sp bs (vm r))->(∀b∈bs,Sp (ms.map vm) b)->Q (.ref lb) H'
noncomputable def Jf (K:U0):L2.Sp:=λvs H Q _=>∃(c most:Nat) (lt:Y3) (ns:U6),vs=[.int c,.int most,.ref lt]/\1<=c/\c<=6/\most<=5/\Ag K H lt (ns.map V.int)/\∀(l:Y3) (H':Hp) (ps:U3) (ms:List Mk),Same H H'->G9 c H' l ps ms->ms.length<=most->Q (.ref l) H'
section
variable {P:U8}{w:W1}{K:U0}{mg:U4}{base:Heap}{k:Nat}{h:Heap}
theorem X5m(F:Ab K "_law_apart" (top 45) .none)(X:K.In h)(G:Ng h mg)(cG:Ao P w K mg base k "_law_ones" ["_law_number"] Cg):Ao P w K mg base (k+1) "_law_apart" ["_law_one","_law_other"] (Je K):=by
 refine F.cal X G ["_law_one","_law_other"] λd H vs Q E c h=>?_;obtain⟨p,b,m,m',rfl,hp,a,q⟩:=h;refine⟨_,(@Al _ _ _ (BL (Hy Gu (Ah Ck (Ah Hx (BJ cG c rfl (Aa (Ah Hj (BR Bk (pv 0) Ae (λ_ _=>rfl)) (BR Bk (pv 1) Ae (λ_ _=>rfl))) Ad)) (BJ cG c rfl (Aa (Ah Hj (BR Bk (pv 0) Ae (λ_ _=>rfl)) (BR Bk (pv 1) Ae (λ_ _=>rfl))) Ad))) Ae) Ae (Ac _)))),?_⟩;try dsimp only[Cm]
 refine⟨_,Z,p,_,_,_,Z,Z,hp,Z,_,Z,b,_,_,_,Z,Z,a,Z,_,_,Z,Z,m.2.1&&&m'.2.2,KY _ _,_,Z,p,_,_,_,Z,Z,hp,Z,_,Z,b,_,_,_,Z,Z,a,Z,_,_,Z,Z,m.2.2&&&m'.2.1,KY _ _,_,_,Z,Z,_,_,Z,Z,jf,Z,?_⟩;show Q (.bl (decide (V.int ((((pc (m.2.1&&&m'.2.2):Nat):Int)+((pc (m.2.2&&&m'.2.1):Nat):Int))%2)=V.int 1))) H;rw[show decide (V.int ((((pc (m.2.1&&&m'.2.2):Nat):Int)+((pc (m.2.2&&&m'.2.1):Nat):Int))%2)=V.int 1)=decide (comm m m'=1) from decide_eq_decide.mpr ⟨λz=>by have:=V.int.inj z;unfold comm;omega,λz=>by unfold comm at z;congr 1;omega⟩];exact q
theorem X2r(F:Ab K "_law_left_over" (top 48) .none)(X:K.In h)(G:Ng h mg)(B:Bs mg):Ao P w K mg base (k+1) "_law_left_over" ["_law_mark","_law_basis_here"] (FP K):=by
 refine F.cal X G ["_law_mark","_law_basis_here","_law_vector","_law_one"] λd H vs Q E n h=>?_;obtain⟨p,c,m,bs,rfl,hp,l,o,R,q⟩:=h
 refine⟨_,(@Az _ _ _ _ _ (@BW _ _ 2 _ _ _ _ d rfl (Or.inl rfl) (Ah Wv (BR Bk (pv 0) Ae (λ_ _=>rfl)) (Ah Ge (BR Bk (pv 0) Ae (λ_ _=>rfl)) Ae)) rfl (.inl rfl))
  (@Az _ _ _ _ _ (Io PassesOwn.never rfl (Ew (pv 1)) (CP (i:=3) d rfl (Or.inl rfl))
   (@Al _ _ _ (@BW _ _ 2 _ _ _ _ d rfl (Or.inl rfl) (Bc (fJ rfl) rfl B.min boot_min (Aa (pv 2) (Aa (Ah La (pv 2) (pv 3)) Ad))) rfl (.inl rfl))))
  (@Al _ _ _ (BL (pv 2))))),?_⟩
 try dsimp only[Cm]
 have sz:Sz 7 ((m.2.2:Nat):Int):=by unfold Sz;rw[Int.natAbs_natCast];omega
 refine⟨_,Z,p,_,_,_,Z,Z,hp,Z,_,Z,p,_,_,_,Z,Z,hp,Z,_,_,Z,Z,⟨7,sz,by omega,by omega⟩,_,_,Z,Z,?_⟩;refine⟨_,Z,c,Z,⟨_,l⟩,Kd (K:=K) (a:=c) (xs:=bs.map nI) (λj σ H'=>H'=H/\∃(x:Nat) (v:Option V),Lo bs (vv m.2.1 m.2.2) j x/\σ=[some (.ref p),some (.ref c),some (nI x),v]) ⟨Z,vv m.2.1 m.2.2,none,Lo.start _ _,?_⟩ (λi σ H' _ e=>by rw[e.1];exact l) ?_ ?_⟩
 ·show [some (V.ref p),some (V.ref c),some (V.int (Builtin.bitOr (m.2.1:Int) ((m.2.2:Int)*(2:Int)^(6:Int).toNat))),none]=_;rw[Xi]
 ·rintro j x σ H' g ⟨rfl,y,v,L,rfl⟩;rw[Bo]at g;obtain⟨b,f,rfl⟩:=D_.mp g;refine⟨_,Z,_,Z,_,Z,_,_,Z,Z,_,_,Z,Z,cl y b,some (nI b),L.step R f,?_⟩;show [some (V.ref p),some (V.ref c),some (V.int (if Builtin.bitXor (y:Int) (b:Int)<(y:Int) then Builtin.bitXor (y:Int) (b:Int) else (y:Int))),some (nI b)]=_;rw[qI]
 ·rintro σ H' ⟨rfl,y,v,L,rfl⟩;rw[Ax]at L;exact⟨_,Z,q y L⟩
theorem vo(zS:mg "sorted"=none)(F:Ab K "_law_basis" (top 49) .none)(X:K.In h)(G:Ng h mg)(B:Bs mg)(c7:Ao P w K mg base k "_law_left_over" ["_law_mark","_law_basis_here"] (FP K)):Ao P w K mg base (k+1) "_law_basis" ["_law_rows"] (g_ K):=by
 refine F.cal X G ["_law_rows","_law_basis_here","_law_row","_law_vector"] λJ H vs Q E hr h=>?_;obtain⟨l,ps,ms,rfl,hS,T,l6,b6,kq⟩:=h
 refine⟨_,(@Az _ _ _ _ _ (@BW _ _ 1 _ _ _ _ J rfl (Or.inl rfl) (@Ho _ _ _ _ Ad) rfl (.inl rfl))
  (@Az _ _ _ _ _ (Io PassesOwn.never rfl (Ew (pv 0)) (CP (i:=2) J rfl (Or.inl rfl))
   (@Az _ _ _ _ _ (@BW _ _ 3 _ _ _ _ J rfl (Or.inr rfl) (BJ c7 hr rfl (Aa (pv 2) (Aa (pv 1) Ad))) rfl (.inl rfl))
   (@Al _ _ _ (Bq (Bx Mg (pv 3) Ae (Ac _))
    (@Al _ _ _ (@BW _ _ 1 _ _ _ _ J rfl (Or.inl rfl) (wJ rfl zS (Ah XH (GF rfl (BX.of (Nc:=["_law_one","_law_vector"]) (mp:=[none,some 3]) (by kernel_rfl)) (Ew (pv 1)) (λ_ _ _ _=>(CP (i:=0) (show (["_law_one","_law_vector"]:W0).Nodup by decide +kernel) rfl (Or.inl rfl))) (λ_ _ _ _=>(Bc (fJ rfl) rfl B.min boot_min (Aa (pv 0) (Aa (Ah La (pv 0) (pv 1)) Ad))))) (@Ho _ _ _ _ (Aa (pv 3) Ad)))) rfl (.inl rfl)))
    Bw))))
  (@Al _ _ _ (BL (pv 1))))),?_⟩
 try dsimp only[Cm]
 refine⟨Ce (show 0<=64 by decide),λd N=>?_⟩;have s1:=Aw N (.lst []);refine⟨_,Z,l,Z,⟨_,s1.seq hS⟩,Kd (K:=K) (a:=l) (xs:=ps.map V.ref) (λi σ H'=>Same H H'/\∃(d:Y3) (bs:W7) (v2 v3:Option V),Ag K H' d (bs.map nI)/\bs.length<=i/\Red bs/\(∀r∈ms.take i,Sp bs (vm r))/\(∀b∈bs,Sp ((ms.take i).map vm) b)/\σ=[some (.ref l),some (.ref d),v2,v3]) ⟨s1,d,[],none,none,Ag.of Aj,FZ _,⟨.nil,by simp⟩,by simp,by simp,Z⟩ (λi σ H' _ e=>e.1.seq hS) ?_ ?_⟩
 ·rintro i x σ H1 I ⟨D,d,bs,v2,v3,c,C,R,sp,q,rfl⟩;rw[Bo]at I;obtain⟨p,hp,rfl⟩:=D_.mp I;obtain⟨r,m,a0⟩:=T.get hp;have U:=Dz m;obtain⟨rf,rs⟩:=b6 r U;have il:i<ms.length:=(Cv.mp m).1;have tk:ms.take (i+1)=ms.take i++[r]:=by rw[Ga,m];rfl
  have g:∀{v:Nat},Sp ((ms.take i).map vm) v->Sp ((ms.take (i+1)).map vm) v:=λ{v} h=>h.up λb c=>Sp.one (by rw[tk,CJ];exact JQ _ c);have rS:Sp ((ms.take (i+1)).map vm) (vm r):=Sp.one (by rw[tk,CJ];exact Fw _ (Dg.mpr rfl));refine⟨_,Z,_,Z,p,d,r,bs,Z,Ak.of (D _ _ a0),c,rs,R,λx L=>?_⟩;refine⟨_,Z,_,_,Z,Z,_,Z,CQ (λx0=>?_) (λx0=>?_)⟩
  ·have x0:x≠0:=by omega
   obtain⟨gR,gv,gu⟩:=GJ.grow R L x0;refine⟨_,Z,d,Z,⟨_,c⟩,λu j=>?_⟩;refine Lb (K:=K) (a:=d) (xs:=bs.map nI) (fr:=[some (nI x)]) (λi ys H'=>Same H1 H'/\H' u=some (.lst ys)/\ys=((bs.take i).map (cl · x)).map nI) (by rw[Ax];exact Ce (by omega)) ⟨Aw j _,Aj,Z⟩ (λi ys H' e=>e.1.seq c) ?_ ?_
   ·rintro i y ys HA NN I hy ⟨SA,cA,rfl⟩ kN;rw[Bo]at I;obtain⟨b,f,rfl⟩:=D_.mp I;refine⟨_,Z,_,Z,_,Z,_,_,Z,Z,_,_,Z,?_⟩;refine kN _ _ cA ⟨Ec SA j,Aj,?_⟩;rw[qI,Ga,f,G7,CJ,CJ];rfl
   rintro ys H5 a2 ⟨S5,c5,rfl⟩;rw[Ax,G6]at c5;refine⟨_,Z,Ce (show 1<=64 by decide),λl1 Y=>?_⟩;have z:=Aw Y (.lst [nI x]);refine⟨u,l1,_,_,Z,Z,z _ _ c5,Aj,?_,λl2 O=>?_⟩
   ·rw[Ax,Ax];exact Ce (show bs.length+1<=64 by omega)
   have s7:=Aw O (.lst ((bs.map (cl · x)).map nI++[nI x]));have e7:(bs.map (cl · x)).map nI++[nI x]=((bs.map (cl · x)++[x]).map λn=>((n:Nat):Int)).map V.int:=by rw[<-rN,CJ];rfl
   refine⟨l2,_,Z,(by rw[<-e7];exact Ag.of Aj),(by rw[Ax,DQ,Ax];show bs.length+1<64;omega),λl3 a3 a1 W=>?_⟩;obtain⟨o,e3,M⟩:=wK W;subst e3;have s8:=Aw a1 (.lst ((o.map λn=>((n:Nat):Int)).map V.int));refine⟨D.trans (((S5.trans z).trans s7).trans s8),l3,o,_,_,(by rw[rN o];exact Ag.of Aj),?_,gR.perm M.symm,λt A=>?_,λb c=>?_,Z⟩
   ·rw[M.length_eq,DQ,Ax];show bs.length+1<=i+1;omega
   ·refine Sp.up (λb c=>Sp.one (M.mem_iff.mpr c)) ?_;rw[tk]at A;rcases E_.mp A with h | h
    ·exact gu _ (sp t h)
    ·rw[Dg.mp h];exact gv
   ·have xS:Sp ((ms.take (i+1)).map vm) x:=by
     obtain⟨s,hs,e⟩:=L.sp;rw[e];exact rS.xor (g (pP q hs))
    rcases E_.mp (M.mem_iff.mp c) with h | h
    ·obtain⟨S,f,rfl⟩:=DY.mp h;rcases GJ.Wq S x with e | e
     ·rw[e];exact g (q S f)
     ·rw[e];exact(g (q S f)).xor xS
    ·rw[Dg.mp h];exact xS
  ·have x0:x=0:=by omega
   refine⟨D,d,bs,_,_,c,by omega,R,λt A=>?_,λb c=>g (q b c),Z⟩;rw[tk]at A;rcases E_.mp A with h | h
   ·exact sp t h
   ·rw[Dg.mp h];obtain⟨s,hs,e⟩:=L.sp;rw[x0]at e;have:vm r=s:=GJ.VJ e.symm;rw[this];exact hs
 ·rintro σ H1 ⟨D,d,bs,v2,v3,c,C,R,sp,q,rfl⟩;rw[Ax,T.length]at C;rw[Ax,T.length,G6]at sp q;exact⟨_,Z,kq d H1 bs D c R (by omega) sp q⟩
theorem X2s(F:Ab K "_law_kept" (top 50) .none)(X:K.In h)(G:Ng h mg)(B:Bs mg)(cG:Ao P w K mg base k "_law_ones" ["_law_number"] Cg)(cQ:Ao P w K mg base k "_law_apart" ["_law_one","_law_other"] (Je K))(c7:Ao P w K mg base k "_law_left_over" ["_law_mark","_law_basis_here"] (FP K))(cR:Ao P w K mg base k "_law_basis" ["_law_rows"] (g_ K)):Ao P w K mg base (k+1) "_law_kept" ["_law_cells","_law_most","_law_told_here"] (Jf K):=by
 refine F.cal X G ["_law_cells","_law_most","_law_told_here","_law_rows","_law_cell","_law_mixed","_law_f","_law_s","_law_mark"] λI H vs Q E n h=>?_;obtain⟨N,b,u,ns,rfl,N1,N6,m5,hS,kq⟩:=h;have pN:=N_ N6;have U:=Ei N;have eN:(1:Int)*2^(N:Int).toNat=((2^N:Nat):Int):=by rw[Int.one_mul,Ej];simp
 refine⟨_,(@Az _ _ _ _ _ (@BW _ _ 3 _ _ _ _ I rfl (Or.inl rfl) (@Ho _ _ _ _ Ad) rfl (.inl rfl))
  (@Az _ _ _ _ _ (Io PassesOwn.never rfl (Ew (pv 2)) (CP (i:=4) I rfl (Or.inl rfl))
   (@Cp _ _ _ _ _ (@BW _ _ 5 _ _ _ _ I rfl (Or.inl rfl) (Ah Ck (Ah Ow (pv 4) Ae) Ae) rfl (.inl rfl))
   (@Cp _ _ _ _ _ (@BW _ _ 6 _ _ _ _ I rfl (Or.inl rfl) (Ah Ck (pv 5) (Ah Ge Ae (pv 0))) rfl (.inl rfl))
   (@Cp _ _ _ _ _ (@BW _ _ 7 _ _ _ _ I rfl (Or.inl rfl) (Ah Ck (Ah Gx (pv 5) Ae) (Ah Ge Ae (pv 0))) rfl (.inl rfl))
   (@Cp _ _ _ _ _ (@BW _ _ 8 _ _ _ _ I rfl (Or.inr rfl) (@Cr _ _ _ _ _ (Aa (Ah Ck (Ah Hx (BJ cG n rfl (Aa (Ah Hj (pv 6) (pv 7)) Ad)) (Ah Ow Ae (Ah Gx (pv 5) Ae))) Ae) (Aa (pv 6) (Aa (pv 7) Ad)))) rfl (.inl rfl))
   (@Al _ _ _ (Bq (PW.pt (O4 (Bx LK (Bc G8 rfl B.len Gm (Aa (pv 3) Ad)) (pv 1) (Ac _)) (PB (Dl (CV (Bc (Wb rfl) rfl B.any boot_any (Aa (GF rfl (BX.of (Nc:=["_law_row","_law_mark"]) (mp:=[none,some 8]) (by kernel_rfl)) (Ew (pv 3)) (λ_ _ _ _=>(CP (i:=0) (show (["_law_row","_law_mark"]:W0).Nodup by decide +kernel) rfl (Or.inl rfl))) (λ_ _ _ _=>(BJ cQ n rfl (Aa (pv 0) (Aa (pv 1) Ad))))) Ad)))))))
    (@Al _ _ _ (Bq (Bx Mg (BJ c7 n rfl (Aa (pv 8) (Aa (BJ cR n rfl (Aa (pv 3) Ad)) Ad))) Ae (Ac _))
     (@Al _ _ _ (O_ (Mh Nz Yq Yr Ul (pv 3) (Aa (pv 8) Ad))))
     Bw))
    Bw)))))))
  (@Al _ _ _ (BL (pv 3))))),?_⟩
 try dsimp only[Cm]
 refine⟨Ce (by decide),λg W=>?_⟩;have s1:=Aw W (.lst [])
 refine⟨_,Z,u,Z,⟨_,s1.seq hS⟩,Kd (K:=K) (a:=u) (xs:=ns.map V.int) (λi σ H'=>Same H H'/\∃(ps:U3) (ms:List Mk) (v5 v6 Y D A:Option V),G9 N H' g ps ms/\ms.length<=b /\
  σ=[some (.int N),some (.int b),some (.ref u),some (.ref g),v5,v6,Y,D,A]) ⟨s1,[],[],none,none,none,none,none,⟨Aj,.nil,(by simp),⟨⟨by simp,by simp,by simp⟩,by simp,λc _ hs j hj=>absurd hj (Vf _)⟩,(by decide)⟩,FZ _,Z⟩ (λi σ H' _ e=>e.1.seq hS) ?_ ?_⟩
 ·rintro i x σ H1 T ⟨S1,ps,ms,v5,v6,Y,D,A,T1,lm,rfl⟩;rw[Bo]at T;obtain⟨z,hc,rfl⟩:=D_.mp T;have M:=T1.mks.length;have v:(ps.map V.ref).length=ms.length:=by rw[Ax,M]
  refine⟨λσ H'=>H'=H1/\∃m:Int,0<=m/\σ=[some (.int N),some (.int b),some (.ref u),some (.ref g),some (.int z),some (.int m),Y,D,A],⟨_,Z,_,_,Z,Z,.inr ⟨by decide,by decide⟩,_,_,Z,Z,Wx,Z,_,Py _ (Rm Wx),Z⟩,?_⟩;rintro σ H1 ⟨rfl,m,a3,rfl⟩;obtain⟨fl,hf,ef⟩:=HW m U;refine⟨λσ H'=>H'=H1/\σ=[some (.int N),some (.int b),some (.ref u),some (.ref g),some (.int z),some (.int m),some (.int fl),D,A],⟨_,Z,_,Z,_,_,Z,Z,⟨1,Jc,by omega,by omega⟩,_,_,Z,Z,(by rw[eN];omega),Z,?_⟩,?_⟩
  ·show [some (V.int N),some (.int b),some (.ref u),some (.ref g),some (.int z),some (.int m),some (.int (m%((1:Int)*2^(N:Int).toNat))),D,A]=_;rw[eN,ef]
  rintro σ H1 ⟨rfl,rfl⟩;obtain⟨d,hs,es⟩:=HW (m / 64) U;refine⟨λσ H'=>H'=H1/\σ=[some (.int N),some (.int b),some (.ref u),some (.ref g),some (.int z),some (.int m),some (.int fl),some (.int d),A],⟨_,Z,_,_,Z,Z,⟨by decide,by decide⟩,_,Z,_,_,Z,Z,⟨1,Jc,by omega,by omega⟩,_,_,Z,Z,(by rw[eN];omega),Z,?_⟩,?_⟩
  ·show [some (V.int N),some (.int b),some (.ref u),some (.ref g),some (.int z),some (.int m),some (.int fl),some (.int (m / 64%((1:Int)*2^(N:Int).toNat))),A]=_;rw[eN,es]
  rintro σ H1 ⟨rfl,rfl⟩;obtain⟨q,a2,eq⟩:=HW (((pc (fl&&&d):Nat):Int)+2*(m / 4096)) (show 0<4 by decide);have ev:Fp.ev ((q,fl,d):Mk):=by
   show (q+pc (fl&&&d))%2=0;omega
  refine⟨λσ H'=>Same H1 H'/\∃l:Addr,H' l=some (T3 (q,fl,d))/\σ=[some (.int N),some (.int b),some (.ref u),some (.ref g),some (.int z),some (.int m),some (.int fl),some (.int d),some (.ref l)],⟨_,Z,_,Z,_,_,Z,Z,fl&&&d,KY _ _,_,Z,_,_,Z,Z,⟨by decide,by decide⟩,_,_,Z,Z,.inl ⟨by decide,by decide⟩,_,_,Z,Z,_,_,Z,Z,Oa,_,Z,_,Z,(show 3<=sizeLine by decide),λl o=>⟨Aw o _,l,?_,Z⟩⟩,?_⟩
  ·rw[Aj];show some (HO.tup [V.int ((((pc (fl&&&d):Nat):Int)+2*(m / 4096))%4),V.int fl,V.int d])=_;rw[show ((4:Nat):Int)=4 from rfl]at eq;rw[eq]
  rintro σ H2 ⟨S2,l,o,rfl⟩;have O:Gz N ((q,fl,d):Mk):=⟨a2,hf,hs⟩;have J:=S1.trans S2;have T2:=T1.same S2;have stay:∀{H':Hp},Same H2 H'->Same H H'/\∃(ps:U3) (ms:List Mk) (u5 u6 u7 u8 u9:Option V),G9 N H' g ps ms/\ms.length<=b /\
    [some (V.int N),some (.int b),some (.ref u),some (.ref g),some (.int z),some (.int m),some (.int fl),some (.int d),some (.ref l)]=[some (.int N),some (.int b),some (.ref u),some (.ref g),u5,u6,u7,u8,u9] :=
   λy=>⟨J.trans y,ps,ms,_,_,_,_,_,T2.same y,lm,Z⟩
  refine⟨_,Z,g,_,Z,.inl (Ag.of T2.lst),_,Z,_,_,Z,Z,_,Z,CQ (λlt=>?_) (λ_=>stay (Same.refl _))⟩;rw[v]at lt;refine⟨_,Z,g,Z,⟨_,Ag.of T2.lst⟩,λacc C=>?_⟩;refine Lb (K:=K) (a:=g) (xs:=ps.map V.ref) (fr:=[some (.ref l)]) (λi ys H'=>Same H2 H'/\H' acc=some (.lst ys)/\ys=((ms.take i).map λr=>decide (comm r (q,fl,d)=1)).map V.bl) (by rw[v];exact Ce (by omega)) ⟨Aw C _,Aj,Z⟩ (λi ys H' e=>e.1.seq (Ag.of T2.lst)) ?_ ?_
  ·rintro i x ys HA NN T hy ⟨SA,cA,rfl⟩ kN;rw[Bo]at T;obtain⟨p,hp,rfl⟩:=D_.mp T;obtain⟨r,a0,p0⟩:=T2.mks.get hp;refine⟨_,Z,_,Z,p,l,r,(q,fl,d),Z,Ak.of (SA _ _ p0),Ak.of (SA _ _ o),?_⟩;refine kN _ _ cA ⟨Ec SA C,Aj,?_⟩;rw[Ga,a0,G7,CJ,CJ];rfl
  rintro ys H3 a4 ⟨S3,c3,rfl⟩;rw[v,G6]at c3;refine⟨acc,_,Z,Ag.of c3,_,Z,Gr (λhA=>?_) (λ_=>stay S3)⟩;have a1:∀r∈ms,Fp.cm r (q,fl,d)=0:=λr n=>by
   have:(id ∘ λr=>decide (comm r (q,fl,d)=1)) r=false:=by
    rw[List.any_map]at hA;exact List.any_eq_false.mp hA r n |> λz=>by simpa using z
   have h2:¬ comm r (q,fl,d)=1:=by simpa using this
   have h3:comm r (q,fl,d)<2:=Fq _ (by decide);show comm r (q,fl,d)=0;omega
  have s6:d<64:=by omega
  have f6:fl<64:=by omega
  have S:=T2.same S3;refine⟨_,Z,_,Z,g,ps,ms,Z,Ag.of S.lst,S.mks,T1.len,λr n=>⟨CK (T1.ok r n).f pN,CK (T1.ok r n).s pN⟩,λlb H4 bs S4 hb R a5 sp sb=>?_⟩;have t:=S3.trans S4;refine⟨l,lb,(q,fl,d),bs,Z,Ak.of (t _ _ o),hb,s6,R,λx L=>?_⟩;refine⟨_,_,Z,Z,_,Z,CQ (λx0=>?_) (λ_=>stay t)⟩;have x0:x≠0:=by omega
  have no:=GJ.apart R L x0;have TB:=wz T1.tb N6 O ev a1 (GJ.fY T1.tb.ind (λr n=>CK (T1.ok r n).f pN) sp no);have T4:=T2.same t;have r3:=T4.lst;have p3:=t _ _ o;refine⟨_,Z,.inl ⟨Z,_,Ag.of r3⟩,_,Z,g,_,_,Z,Z,r3,(by rw[v];exact CK (show ms.length<64 by omega) (by decide)),?_⟩;have p4:upd H4 g (.lst (ps.map V.ref++[.ref l])) l=some (T3 (q,fl,d)):=by rw[BK (LC p3 r3 (by intro z;cases z))];exact p3
  have m4:=T4.mks.upd (ys:=ps.map V.ref++[.ref l]) r3;have r4:upd H4 g (.lst (ps.map V.ref++[.ref l])) g=some (.lst ((ps++[l]).map V.ref)):=by rw[Aj,CJ];rfl
  have S5:Same H (upd H4 g (.lst (ps.map V.ref++[.ref l]))):=Ec (J.trans t) W;generalize upd H4 g (.lst (ps.map V.ref++[.ref l]))=H5 at *;refine⟨S5,ps++[l],ms++[(q,fl,d)],_,_,_,_,_,⟨r4,Paired.snoc m4 p4,λr n=>?_,TB,by rw[DQ];show ms.length+1<=6;omega⟩,by rw[DQ];show ms.length+1<=b;omega,Z⟩;rcases E_.mp n with h | h
  ·exact T1.ok r h
  ·rw[Dg.mp h];exact O
 ·rintro σ H1 ⟨S1,ps,ms,v5,v6,Y,D,A,T1,lm,rfl⟩;exact⟨_,Z,kq g H1 ps ms S1 T1 lm⟩
end
end Av
namespace Bh
open Pc Dv Ez Fy Fp
noncomputable def lt (j c:Nat):Nat:=(([[0,1,2,3],[0,1,3,2],[0,2,1,3],[0,2,3,1],[0,3,1,2],[0,3,2,1]]:List (List Nat)).getD j []).getD c 0
theorem qG:∀j,j<6->∀a,a<4->lt j a<4:=by decide
theorem X7p:∀j,j<6->∀a,a<4->∀b,b<4->((lt j a%2)*(lt j b / 2)+(lt j a / 2)*(lt j b%2))%2=((a%2)*(b / 2)+(a / 2)*(b%2))%2:=by decide
noncomputable def cd (far:Nat)(u:W7)(i:Nat):Nat:=lt (far / 6^i%6) (u.getD i 0)
noncomputable def ff (nm:W7)(far:Nat)(u:W7):Nat->Nat
 | 0=>0
 | i+1=>ff nm far u i ||| (cd far u i%2)*2^nm.getD i 0
noncomputable def ss (nm:W7)(far:Nat)(u:W7):Nat->Nat
 | 0=>0
 | i+1=>ss nm far u i ||| (cd far u i / 2)*2^nm.getD i 0
def L4 (u:W7):Prop:=∀i,u.getD i 0<4
theorem Wo{far:Nat}{u:W7}(h:L4 u)(i:Nat):cd far u i<4:=qG _ (Fq _ (by decide)) _ (h i)
theorem Ua{a k j:Nat}(h:a<2):(a*2^k).testBit j=(decide (a=1) && decide (j=k)):=by
 rcases (by omega:a=0\/a=1) with rfl | rfl
 ·simp
 ·rw[Pr,Vq];simp[eq_comm]
variable {nm:W7}{far:Nat}{u v:W7}
theorem iH(hu:L4 u){k:Nat}:∀n,(∀j,j<n->nm.getD j 0≠k)->(ff nm far u n).testBit k=false
 | 0,_=>by unfold ff;simp
 | n+1,h=>by
  unfold ff;rw[Ry,iH hu n (λj a=>h j (by omega)),Ua (Fq _ (by decide)),Df (p:=k=nm.getD n 0) (λz=>h n (by omega) z.symm)];simp
theorem iK(hu:L4 u){k:Nat}:∀n,(∀j,j<n->nm.getD j 0≠k)->(ss nm far u n).testBit k=false
 | 0,_=>by unfold ss;simp
 | n+1,h=>by
  unfold ss;rw[Ry,iK hu n (λj a=>h j (by omega)),Ua (by have:=Wo (far:=far) hu n;omega),Df (p:=k=nm.getD n 0) (λz=>h n (by omega) z.symm)];simp
theorem qN{x y k a b:Nat}(hx:x.testBit k=false)(hy:y.testBit k=false)(ha:a<2)(hb:b<2):pc ((x ||| a*2^k)&&&(y ||| b*2^k))%2=(pc (x&&&y)+a*b)%2:=by
 have e:((x ||| a*2^k)&&&(y ||| b*2^k))=(x&&&y)^^^((a*b)*2^k):=by
  refine MJ λj=>?_;have ab:a*b<2:=by rcases (by omega:a=0\/a=1) with rfl | rfl<;>omega
  rw[R5,Ry,Ry,KD,R5,Ua ha,Ua hb,Ua ab];by_cases q:j=k
  ·subst q;rw[hx,hy];rcases (by omega:a=0\/a=1) with rfl | rfl<;>rcases (by omega:b=0\/b=1) with rfl | rfl<;>simp
  ·simp[q]
 rw[e,OJ];rcases (by omega:a=0\/a=1) with rfl | rfl<;>rcases (by omega:b=0\/b=1) with rfl | rfl<;>simp[Gy,XM]
noncomputable def sy (u v:W7):Nat->Nat
 | 0=>0
 | i+1=>sy u v i+((u.getD i 0%2)*(v.getD i 0 / 2)+(u.getD i 0 / 2)*(v.getD i 0%2))
theorem Wr(hu:L4 u)(hv:L4 v)(nd:∀i j,i<j->j<nm.length->nm.getD i 0≠nm.getD j 0):∀n,n<=nm.length->(pc (ff nm far u n&&&ss nm far v n)+pc (ss nm far u n&&&ff nm far v n))%2=sy u v n%2
 | 0,_=>by unfold ff ss sy;simp[Gy]
 | n+1,h=>by
  have f:=Wr hu hv nd n (by omega);have o:∀j,j<n->nm.getD j 0≠nm.getD n 0:=λj a=>nd j n a (by omega);have d:=Wo (far:=far) hu n;have e:=Wo (far:=far) hv n;have c:=qN (iH (far:=far) hu n o) (iK (far:=far) hv n o) (Fq (cd far u n) (show 0<2 by decide)) (show cd far v n / 2<2 by omega);have b:=qN (iK (far:=far) hu n o) (iH (far:=far) hv n o) (show cd far u n / 2<2 by omega) (Fq (cd far v n) (show 0<2 by decide));have l:=X7p (far / 6^n%6) (Fq _ (by decide)) _ (hu n) _ (hv n);unfold ff ss sy;unfold cd at c b ⊢;omega
theorem Tw(hu:L4 u){N:Nat}:∀n,(∀j,j<n->nm.getD j 0<N)->ff nm far u n<2^N
 | 0,_=>by unfold ff;exact Ei N
 | n+1,h=>by
  unfold ff;refine Nat.or_lt_two_pow (Tw hu n λj b=>h j (by omega)) ?_;have:=Jt (a:=2) (by decide) (h n (by omega));rcases (by omega:cd far u n%2=0\/cd far u n%2=1) with e | e<;>rw[e]<;>(have:=Ei N;omega)
theorem Ra(hu:L4 u){N:Nat}:∀n,(∀j,j<n->nm.getD j 0<N)->ss nm far u n<2^N
 | 0,_=>by unfold ss;exact Ei N
 | n+1,h=>by
  unfold ss;refine Nat.or_lt_two_pow (Ra hu n λj b=>h j (by omega)) ?_;have c4:=Wo (far:=far) hu n;have:=Jt (a:=2) (by decide) (h n (by omega));rcases (by omega:cd far u n / 2=0\/cd far u n / 2=1) with e | e<;>rw[e]<;>(have:=Ei N;omega)
def Lk (us ds:List (List Nat))(n:Nat):Prop:=(∀i,i<us.length->∀j,j<us.length->sy (us.getD i []) (us.getD j []) n%2=0)/\∀i,i<us.length->sy (ds.getD i []) (us.getD i []) n%2=1/\∀j,j<i->sy (ds.getD i []) (us.getD j []) n%2=0
instance (us ds:List (List Nat)) (n:Nat):Decidable (Lk us ds n):=by unfold Lk;infer_instance
def W4 (us:List (List Nat)):Prop:=∀u∈us,∀c∈u,c<4
variable{us:List (List Nat)}
theorem W4.at(h:W4 us)(i:Nat):L4 (us.getD i []):=λj=>by
 by_cases hi:i<us.length
 ·have e:us.getD i []=us[i]:=by rw[Bb,Bm hi];rfl
  rw[e];by_cases hj:j<us[i].length
  ·rw[Bb,Bm hj];exact h _ (G5 hi) _ (G5 hj)
  ·rw[Bb,Vs (by omega)];decide
 ·have e:us.getD i []=[]:=by rw[Bb,Vs (by omega)];rfl
  rw[e];exact(by decide:0<4)
theorem tab{ds:List (List Nat)}{n N:Nat}{ms:List Mk}(hn:n<=nm.length)(nd:nm.Nodup)(hN:∀k∈nm,k<N)(N6:N<=6)(hu:W4 us)(hd:W4 ds)(len:ms.length=us.length)
  (hm:∀i m,ms[i]?=some m->m.2.1=ff nm far (us.getD i []) n/\m.2.2=ss nm far (us.getD i []) n/\m.1<4/\ev m) (c:Lk us ds n):Tb ms/\∀m∈ms,Xc.Ok N m:=by
 have f:∀i j,i<j->j<nm.length->nm.getD i 0≠nm.getD j 0:=λi j h1 h2 e=>by
  rw[Bb,Bb,Bm h2,Bm (show i<nm.length by omega)]at e;have:=(K5.mp nd) i j (by omega) h2 h1;exact this e
 have t:∀j,j<n->nm.getD j 0<N:=λj d=>by
  rw[Bb,Bm (show j<nm.length by omega)];exact hN _ (G5 _)
 have o:∀{i j:Nat}{a b:Mk},ms[i]?=some a->ms[j]?=some b->cm a b=sy (us.getD i []) (us.getD j []) n%2:=λ{i j a b} p s=>by
  obtain⟨l,g,_⟩:=hm i a p;obtain⟨z,y,_⟩:=hm j b s;unfold cm;rw[l,g,z,y];exact Wr (hu.at i) (hu.at j) f n hn
 have ok:∀m∈ms,Xc.Ok N m:=λm h=>by
  obtain⟨i,hi⟩:=Ny.mp h;obtain⟨l,g,v,_⟩:=hm i m hi;exact⟨v,by rw[l];exact Tw (hu.at i) n t,by rw[g];exact Ra (hu.at i) n t⟩
 have lt:∀{i:Nat}{a:Mk},ms[i]?=some a->i<us.length:=λh=>by rw[<-len];exact(Cv.mp h).1
 refine⟨⟨⟨λm h=>(ok m h).q,λm h=>?_,λa p b s=>?_⟩,λm h=>(ok m h).v6 N6,sZ.oh ms.length rfl λi m hi=>?_⟩,ok⟩
 ·obtain⟨i,hi⟩:=Ny.mp h;exact(hm i m hi).2.2.2
 ·obtain⟨i,hi⟩:=Ny.mp p;obtain⟨j,d⟩:=Ny.mp s;rw[o hi d];exact c.1 i (lt hi) j (lt d)
 ·obtain⟨u,x⟩:=c.2 i (lt hi);refine⟨(0,ff nm far (ds.getD i []) n,ss nm far (ds.getD i []) n),?_,λr w=>?_⟩
  ·obtain⟨l,g,_⟩:=hm i m hi;unfold cm;rw[l,g];exact(Wr (hd.at i) (hu.at i) f n hn).trans u
  ·obtain⟨j,d⟩:=Ny.mp w;rw[SQ]at d;split at d
   ·rename_i ji;obtain⟨l,g,_⟩:=hm j r d;unfold cm;rw[l,g];exact(Wr (hd.at i) (hu.at j) f n hn).trans (x j ji)
   ·cases d
noncomputable def five:List (List Nat):=[[1,2,2,1,0],[0,1,2,2,1],[1,0,1,2,2],[2,1,0,1,2]]
noncomputable def Ma:List (List Nat):=[[0,0,0,2,0],[0,0,0,0,2],[0,0,0,0,1],[0,0,0,1,3]]
noncomputable def six:List (List Nat):=[[1,2,2,1,0,0],[0,1,2,2,1,0],[1,0,1,2,2,0],[2,1,0,1,2,0],[0,0,0,0,0,2]]
noncomputable def RW:List (List Nat):=[[0,0,0,2,0,0],[0,0,0,0,2,0],[0,0,0,0,1,0],[0,0,0,1,3,0],[0,0,0,0,0,1]]
noncomputable def four:List (List Nat):=[[1,1,1,1],[2,2,2,2]]
noncomputable def J1:List (List Nat):=[[0,0,0,2],[0,0,0,1]]
noncomputable def full (a n:Nat):List (List Nat):=(List.range n).map λk=>List.replicate k 0++[a]++List.replicate (n-k-1) 0
theorem c5:Lk five Ma 5:=by decide
theorem c6:Lk six RW 6:=by decide
theorem c4:Lk four J1 4:=by decide
theorem c3:Lk (four.take 1) J1 4:=by decide
theorem cf:∀n,n<7->Lk (full 2 n) (full 1 n) n:=by decide +kernel
end Bh
set_option maxHeartbeats 4000000
namespace L2
theorem J2{prog:U8}{w:W1}{A:Y0}(hh:A.handled=none)(it:Y3)(z:Str)(t:Tok):
  Draws prog w A it [it] z.cps.size (λi v=>∃c u,z.cps[i]?=some c/\v=.str ⟨#[c]⟩ u) (λi h=>h.IsStrIter it (strIterType z) z t i):=by
 unfold strIterType;split
 ·exact Draws.strAscii hh it z t
 ·exact Draws.strWide hh it z t
def VG (z:Str):It :=
 ⟨λi _=>i<z.cps.size,
 λi H v H'=>∃T c,v=.ref T/\H T=none/\H'=upd H T (.tup [.int i,.str ⟨#[c]⟩])/\z.cps[i]?=some c,
 λi _=>i=z.cps.size⟩
theorem zM{P:U8}{w:W1}{K:U0}{es:List Expr}{kk:Nat}{tp:Pos}{e it:Y3}{z:Str}{t:Tok}(ne:e≠it):
  Turn P w K (.Tuple es kk tp) (VG z) [e,it] e (λi h=>(∃a,IsEnum h e it i a)/\h.IsStrIter it (strIterType z) z t i) where
 mem:=by simp
 obj:=λi h st b d=>by
  obtain⟨⟨a,f⟩,o,g,_,M⟩:=st;simp only[Cz,Ie,Ia]at d;rcases d with rfl | rfl
  ·exact⟨_,f,λv q=>by have U:Data.fields _=Data.cell v:=q;cases U⟩
  ·exact⟨o,g,λv z=>by rw[M]at z;cases z⟩
 keep:=λi h h' st k=>by
  obtain⟨⟨a,f⟩,o,p,r⟩:=st;exact⟨⟨a,k e (by simp) _ f⟩,o,k it (by simp) o p,r⟩
 item:=by
  intro X D B C F i pins s σ H E I l st j;subst D B C;obtain⟨⟨a,f⟩,g⟩:=st;have y:X.A.in1.handled=none:=I.ok.hd F;refine wpAny_pyNext_enum_itemD (J2 y it z t) f g j ne (by simpa using ne) λx h' tk Q V R N W L=>?_;obtain⟨c,u,S,rfl⟩:=Q;refine⟨_,Z,jY V λh2 J m=>?_⟩;have G:s.heap.objs.size≠e:=Hu (BP f);have k2:∀b o,b∉[e,it]->s.heap.get? b=some o->h2.get? b=some o:=λb o d q=>by
   simp only[Cz,Ie,Ia,not_or]at d;exact m.extBut b o d.1 (L b o d.1 d.2 q)
  have O:IsTup h2 s.heap.objs.size ([.int i tk,.str ⟨#[c]⟩ u]:U5).toArray:=⟨_,m.extBut _ _ G N,Z,_,Z⟩;refine⟨.ref s.heap.objs.size,upd H s.heap.objs.size (.tup [.int i,.str ⟨#[c]⟩]),I.turnedT (t':=tk+1) k2 l (Bf _) (.cons ⟨_,Z⟩ (.cons ⟨_,Z⟩ .nil)) (by show 2<=sizeLine;decide) O,Z,⟨_,c,Z,I.hok.fresh (Bf _),Z,S⟩,⟨⟨.str ⟨#[c]⟩ u,?_⟩,?_⟩,λb d=>?_⟩
  ·exact_mod_cast J
  ·obtain⟨o,p,r⟩:=R;exact⟨o,m.extBut _ _ ne.symm p,r⟩
  ·have n:b<s.heap.objs.size:=by
    simp only[Cz,Ie,Ia]at d;rcases d with rfl | rfl
    ·exact BP f
    ·obtain⟨o,q,_⟩:=g;exact BP q
   rw[BK (B_ n)];exact(l b d).1
 done:=by
  intro X D B C F i pins s σ H E I l st j;subst D B C;obtain⟨⟨a,f⟩,g⟩:=st;have y:X.A.in1.handled=none:=I.ok.hd F;have j:i=z.cps.size:=j;subst j;refine wpAny_pyNext_enum_endD (J2 y it z t) f g λh' T=>⟨Z,I.turnedL (t':=s.toks) (ch:=[e,it]) (λb o d q=>?_) l⟩;simp only[Cz,Ie,Ia,not_or]at d;exact T b o d.2 q
 self:=λ_ _ _ _ _ st h=>by
  obtain⟨⟨a,f⟩,_⟩:=st;exact Vl f h
section
variable {X:Cx}{es:List Expr}{kk:Nat}{tp:Pos}
def Og (ta:TA):TI:=λσ H R=>ta σ H λvs H1=>∃z,vs=[.str z]/\R (VG z) H1
theorem wL{a:Expr}{ta:TA}{p pos:Pos}(hg:Gl X "enumerate")(hm:X.mg "enumerate"=none)(ha:PA X [a] ta)(hs:starEach [a] X.env=[(false,eval a X.env)]:=by rfl):
  PI X (.Tuple es kk tp) (.Call (.Name "enumerate" p) [a] [] pos) (Og ta):=by
 intro pins s σ H R I h;refine Call_ (LR I hg hm boot_enumerate (PyProof.Rows.callWith_type1 (A_ (ha pos pins s σ H _ I h) λus s1 ⟨vs,H1,d,j,m⟩=>?_) (by rw[hs];rfl) (by rfl)));obtain⟨z,e,q⟩:=m;subst e;obtain⟨u,rfl,t,rfl⟩:=vals1 j;refine call_enumerate_str λh' f k n i=>?_;have l:Inv X pins σ H1 {s1 with heap:=h'}:=d.kept (t':=s1.toks) i;refine Vl f ⟨_,[s1.heap.objs.size+1,s1.heap.objs.size],_,_,H1,Z,l,zM (Nat.succ_ne_self _),⟨⟨_,f⟩,k⟩,λb g=>?_,q⟩;have c:s1.heap.objs.size<=b:=by
  simp only[Cz,Ie,Ia]at g;rcases g with rfl | rfl
  ·exact Nk _
  ·exact Bf _
 exact d.fpOk c (d.hok.fresh c)
end
theorem xV{z:Str}{g:TG}{tb:TS}{D:Ends}{σ:St}{H:Hp}(Pv:Nat->St->Hp->Prop)(h0:Pv 0 σ H)
  (hs:∀i c σ H T,z.cps[i]?=some c->Pv i σ H->H T=none->g (.ref T) σ (upd H T (.tup [.int i,.str ⟨#[c]⟩])) λb H2=>tb {D with nx:=Pv (i+1),ct:=Pv (i+1),bk:=D.nx} b H2) (hd:∀σ H,Pv z.cps.size σ H->D.nx σ H):
  ∃W:Nat->Nat->St->Hp->Prop,(∃m,W 0 m σ H)/\∀i m σ H,W i m σ H ->
   ((VG z).stop i H/\D.nx σ H)\/((VG z).go i H/\∃N:St->Hp->Prop,(∀a H',N a H'->∃m',m'<m/\W (i+1) m' a H')/\∀x H',(VG z).yld i H x H'->g x σ H' λb H2=>tb {D with nx:=N,ct:=N,bk:=D.nx} b H2):=by
 refine⟨λi m σ H=>m=z.cps.size-i/\i<=z.cps.size/\Pv i σ H,⟨z.cps.size,by simp,FZ _,h0⟩,?_⟩;rintro i m σ H ⟨rfl,hi,p⟩;by_cases hlt:i<z.cps.size
 ·refine .inr ⟨hlt,Pv (i+1),λa H' d=>⟨z.cps.size-(i+1),by omega,Z,hlt,d⟩,λv H' y=>?_⟩;obtain⟨T,c,rfl,f,rfl,y⟩:=y;exact hs i c σ H T y p f
 ·have e:i=z.cps.size:=by omega
  subst e;exact .inl ⟨Z,hd σ H p⟩
end L2
set_option maxHeartbeats 1000000
namespace L2
section
variable {X:Cx}
end
end L2
namespace Dc
open PySem.Builtin.Str
end Dc
namespace L2
section
variable {X:Cx}
end
end L2
namespace L2
section
variable {X:Cx}
theorem X2x:Qt X "str.find" (λx xs H Q=>∃z y,x=.str z/\xs=[.str y]/\Q (.int (Txt.find z y)) H):=by
 intro pins s σ H x xs v us Q I a b h;obtain⟨z,y,rfl,rfl,q⟩:=h;obtain⟨t,rfl⟩:=a;obtain⟨u,rfl,t',rfl⟩:=vals1 b;exact SC.find ⟨.int (Txt.find z y),H,I.tok _,⟨_,Z⟩,q⟩
end
end L2
namespace L2
open PySem.Builtin.Str
section
variable {X:Cx}
theorem pI(z:Array Nat):∀(k:Nat) (a:Array Nat),((List.replicate k z).foldl (·++·) a).size=a.size+k*z.size
 | 0,a=>by simp
 | k+1,a=>by
  rw[KJ,R0,pI z k,Array.size_append,Nat.succ_mul];omega
end
theorem pH(z:Array Nat):∀(k:Nat) (a:Array Nat),((List.replicate k z).foldl (·++·) a).toList=a.toList++(List.replicate k z.toList).flatten
 | 0,a=>by simp
 | k+1,a=>by
  rw[KJ,R0,pH z k,KJ,Nu];simp
theorem gk{X:Cx}:Cu X (binaryOp .Mult) (λx y H Q=>∃z k,x=.str z/\y=.int k/\0<=k/\k<100/\z.length<=100/\∀a,a.cps.toList=(List.replicate k.toNat z.cps.toList).flatten->Q (.str a) H):=by
 intro pins s σ H x y v u Q I l i h;obtain⟨z,k,rfl,rfl,k0,k1,hz,q⟩:=h;obtain⟨t,rfl⟩:=l;obtain⟨t',rfl⟩:=i;have j:(decide (k < -(2^63:Int)) || decide (k>=2^63))=false:=by
  rw[Df (by omega),Df (by omega)];rfl
 have g:z.length*k.toNat<=10000:=Eh (Nat.mul_le_mul hz (show k.toNat<=100 by omega)) (by decide);have big:(10000:Nat)<=sizeLine:=by decide
 refine PySem.P.mul_str j (λh1 _=>?_) (λ_ _=>?_) ?_
 ·have:(100:Int)<=(2^63-1) / k:=by
   rw[Int.le_ediv_iff_mul_le (by omega)];omega
  omega
 ·unfold tooLong;exact Df (by omega)
 ·have d:∀a:Str,a.length<=z.length*k.toNat->a.cps.toList=(List.replicate k.toNat z.cps.toList).flatten->(Made.str a).post (EP X pins σ Q) s:=λa f e=>⟨Eh f (Eh g big),.str a,H,I.tok _,⟨_,Z⟩,q a e⟩;split
  ·rename_i c;refine d _ (FZ _) ?_;have b:k<1:=by simpa using c
   rw[show k.toNat=0 by omega];rfl
  ·split
   ·rename_i c;have b:k=1\/z.length=0:=by simpa using c
    refine⟨.str z,H,I,⟨_,Z⟩,q z ?_⟩;rcases b with b | b
    ·rw[b];simp
    ·have:z.cps.toList=[]:=Sx.mp (show z.cps.toList.length=0 from b);rw[this];simp
   ·refine d _ ?_ ?_
    ·show ((List.replicate k.toNat z.cps).foldl (·++·) #[]).size<=z.cps.size*k.toNat;rw[pI,aZ];simp
    ·show ((List.replicate k.toNat z.cps).foldl (·++·) #[]).toList=_;rw[pH];rfl
end L2
namespace Av
open L2 Pc Dv Ez Fy
open Bh (ff ss lt cd)
noncomputable def chr (c:Nat):Nat:=([46,102,115,98]:W7).getD c 46
noncomputable def txt (u:W7):Str:=⟨(u.map chr).toArray⟩
noncomputable abbrev s1 (c:Nat):Str:=⟨#[chr c]⟩
noncomputable def Em:List Str:=["fsb","fbs","sfb","sbf","bfs","bsf"]
theorem rZ{z:Str}{u:W7}(h:z.cps.toList=u.map chr):z=txt u:=by
 cases z with
 | mk a =>
  unfold txt;congr 1;exact Array.ext' (by simpa using h)
theorem WL(u v:W7):txt u++txt v=txt (u++v):=rZ (by
 show ((u.map chr).toArray++(v.map chr).toArray).toList=_
 simp)
theorem rH{α β:Type}(f:α->β):∀(l:List α) (i:Nat),(l.map f).eraseIdx i=(l.eraseIdx i).map f
 | [],_=>rfl
 | _::_,0=>rfl
 | a::l,i+1=>by rw[Er,jL,jL,Er,rH f l i]
theorem mZ{α:Type}:∀(l:List α) (i:Nat) (h:i<l.length),(l[i]::l.eraseIdx i).Perm l
 | [],_,h=>absurd h (Vf _)
 | a::l,0,_=>List.Perm.refl _
 | a::l,i+1,h=>(List.Perm.swap _ _ _).trans ((mZ l i (jH h)).cons a)
theorem Yy:∀j,j<6->∀c,c<3->(Em.getD j "").cps.toList[c]?=some (chr (lt j (c+1))):=by decide +kernel
theorem X7r:∀j,j<6->(Em.getD j "").length<=3:=by decide +kernel
theorem X6r:∀c,c<3->Txt.find "fsb" (s1 (c+1))=(c:Int):=by decide +kernel
theorem bW:∀c,c<4->(!(Builtin.Str.occurrences "fb" (s1 c) 0 (Str.length "fb") 1).isEmpty)=decide (c%2=1):=by decide +kernel
theorem bV:∀c,c<4->(!(Builtin.Str.occurrences "sb" (s1 c) 0 (Str.length "sb") 1).isEmpty)=decide (c / 2=1):=by decide +kernel
theorem bw:∀c,c<4->((s1 c=".")↔c=0):=by decide +kernel
theorem lt_0:∀j,j<6->lt j 0=0:=by decide
def iB:Sp:=λvs H Q _=>∃(N:Nat) (z:Int),vs=[.int N,.int z]/\N<=6/\∀(l:Y3) (os:W7) (H':Hp),H l=none->Same H H'->H' l=some (.lst (os.map nI))->os.Perm (List.range N)->Q (.ref l) H'
def lA (K:U0):Sp:=λvs H Q _=>∃(lw ln:Y3) (z:Int) (us:List (List Nat)) (nm:W7),vs=[.ref lw,.ref ln,.int z]/\Ag K H lw (us.map λu=>V.str (txt u))/\Ag K H ln (nm.map nI)/\0<=z/\us.length<=6/\nm.length<=6/\(∀x∈nm,x<6)/\(∀u∈us,u.length=nm.length)/\Bh.W4 us /\
 ∀(l:Y3) (ps:U3) (ms:List Mk) (H':Hp),H l=none->Same H H'->H' l=some (.lst (ps.map V.ref))->CW H' ps ms->ms.length=us.length->(∀i m,ms[i]?=some m->m.2.1=ff nm (z%10^9).toNat (us.getD i []) nm.length/\m.2.2=ss nm (z%10^9).toNat (us.getD i []) nm.length/\m.1<4/\Fp.ev m)->Q (.ref l) H'
theorem qP(b n:Nat):((b:Int)*2^((n:Int)).toNat)=((b*2^n:Nat):Int):=by rw[Ej];simp
section
variable {P:U8}{w:W1}{K:U0}{mg:U4}{base:Heap}{k:Nat}{h:Heap}
theorem wA(F:Ab K "_law_order" (top 46) .none)(X:K.In h)(G:Ng h mg)(B:Bs mg):Ao P w K mg base (k+1) "_law_order" ["_law_many","_law_cell"] iB:=by
 refine F.cal X G ["_law_many","_law_cell","_law_left","_law_order_here"] λl H vs Q E D h=>?_;obtain⟨N,z,rfl,J,A⟩:=h
 refine⟨_,(@Az _ _ _ _ _ (@BW _ _ 2 _ _ _ _ l rfl (Or.inl rfl) (fu rfl rfl B.range rfl B.list (Aa (pv 0) Ad)) rfl (.inl rfl))
  (@Az _ _ _ _ _ (@BW _ _ 3 _ _ _ _ l rfl (Or.inl rfl) (@Ho _ _ _ _ Ad) rfl (.inl rfl))
  (@Az _ _ _ _ _ (WY PassesOwn.never (Bx Mg (Bc G8 rfl B.len Gm (Aa (pv 2) Ad)) Ae (Ac _))
   (@Az _ _ _ _ _ (O_ (Mh Nz Yq Yr Ul (pv 3) (Aa (Mh Nz PySem.F.slot_list_pop PySem.F.type_list_pop vf (pv 2) (Aa (Ah Ck (pv 1) (Bc G8 rfl B.len Gm (Aa (pv 2) Ad))) Ad)) Ad)))
   (@Al _ _ _ (@BW _ _ 1 _ _ _ _ l rfl (Or.inl rfl) (Ah wD (pv 1) (Ah Hx (Bc G8 rfl B.len Gm (Aa (pv 2) Ad)) Ae)) rfl (.inl rfl)))))
  (@Al _ _ _ (BL (pv 3)))))),?_⟩
 try dsimp only[Cm]
 refine⟨_,Z,N,Z,by omega,λll e=>?_⟩;have s1:=Aw e (.lst ((List.range N).map λi=>V.int (i:Nat)));have o:upd H ll (.lst ((List.range N).map λi=>V.int (i:Nat))) ll=some (.lst ((List.range N).map nI)):=Aj;generalize upd H ll (.lst ((List.range N).map λi=>V.int (i:Nat)))=H1 at s1 o ⊢;refine⟨Ce (by decide),λlo a=>?_⟩;have p:=Aw a (.lst []);have s:upd H1 lo (.lst []) lo=some (.lst []):=Aj;have q:lo≠ll:=λz=>by rw[z,o]at a;cases a
 have f0:=s1.free a;generalize upd H1 lo (.lst [])=H2 at p s ⊢;refine⟨λm σ H'=>Same H H'/\∃(z:Int) (ls os:W7),m=ls.length/\H' ll=some (.lst (ls.map nI))/\H' lo=some (.lst (os.map nI))/\(ls++os).Perm (List.range N)/\σ=[some (.int N),some (.int z),some (.ref ll),some (.ref lo)],⟨_,s1.trans p,z,List.range N,[],Z,p _ _ o,s,by rw[JM],Z⟩,?_⟩;rintro m σ d ⟨r,z,ls,os,rfl,g,j,n,rfl⟩;refine⟨_,Z,ll,_,Z,.inl (Ag.of g),_,_,Z,Z,_,Z,CQ (λc=>?_) (λc=>?_)⟩
 ·rw[Ax]at c;have l0:0<ls.length:=by omega
  have len:=n.length_eq;rw[DQ,Ig]at len;obtain⟨i,hi,u⟩:=HW z l0;refine⟨_,λI H' x=>x,?_⟩;refine⟨_,Z,.inl ⟨Z,_,Ag.of j⟩,_,Z,.inl ⟨Z,_,Ag.of g⟩,_,Z,_,Z,ll,_,Z,.inl (Ag.of g),_,_,Z,Z,(by rw[Ax];omega),ll,_,_,i,nI (ls[i]),Z,Z,g,(by rw[Ax];omega),(by rw[Ax];omega),(by rw[Ax,u];exact(PySem.StrLaws.seqIndex_nonneg (by omega) (by omega)).trans (by simp)),(by rw[Bo,Bm hi];rfl),lo,_,_,Z,Z,(by rw[BK q];exact j),(by rw[Ax];exact CK (show os.length<64 by omega) (by decide)),?_⟩;have v:((ls.map nI).eraseIdx i)=(ls.eraseIdx i).map nI:=rH _ _ _;rw[v];have b:upd (upd d ll (.lst ((ls.eraseIdx i).map nI))) lo (.lst (os.map nI++[nI ls[i]])) ll=some (.lst ((ls.eraseIdx i).map nI)):=by rw[BK (Ne.symm q),Aj]
  have f:upd (upd d ll (.lst ((ls.eraseIdx i).map nI))) lo (.lst (os.map nI++[nI ls[i]])) lo=some (.lst ((os++[ls[i]]).map nI)):=by rw[Aj,CJ];rfl
  have t:Same H (upd (upd d ll (.lst ((ls.eraseIdx i).map nI))) lo (.lst (os.map nI++[nI ls[i]]))):=Ec (Ec r e) f0;generalize upd (upd d ll (.lst ((ls.eraseIdx i).map nI))) lo (.lst (os.map nI++[nI ls[i]]))=H4 at b f t ⊢;have C:(ls.eraseIdx i).length=ls.length-1:=List.length_eraseIdx_of_lt hi;refine⟨_,Z,_,Z,ll,_,Z,.inl (Ag.of b),_,_,Z,Z,_,_,Z,Z,⟨by omega,?_⟩,(ls.eraseIdx i).length,by omega,t,_,_,_,Z,b,f,?_,Z⟩
  ·unfold Sz;rw[Ax,C];have:(((ls.length-1:Nat):Int)+1).natAbs<2^9:=by omega
   exact CK this (Gn (by decide) (by decide))
  ·refine List.Perm.trans ?_ n;have y:(ls[i]::ls.eraseIdx i).Perm ls:=mZ _ _ hi;refine List.Perm.trans ?_ (y.append_right os);rw[List.cons_append,<-Vi];exact List.perm_append_comm.trans (List.Perm.refl _)
 ·rw[Ax]at c;have l0:ls=[]:=Sx.mp (by omega);subst l0;exact⟨_,Z,A lo os d f0 r j (by simpa using n)⟩
theorem RV{b:Nat}(h:b<2):Sz 2 (b:Int):=by unfold Sz;rw[Int.natAbs_natCast];exact CK h (by decide)
theorem TQ(a b:Nat):Builtin.bitOr (a:Int) (b:Int)=((a ||| b:Nat):Int):=Ob a b
theorem qC{b:Nat}(h:b<2):(if decide (b=1)=true then (1:Int) else 0)=(b:Int):=by
 rcases (by omega:b=0\/b=1) with rfl | rfl<;>rfl
theorem zF(F:Ab K "_law_written" (top 47) .none)(X:K.In h)(G:Ng h mg)(B:Bs mg)(cG:Ao P w K mg base k "_law_ones" ["_law_number"] Cg):Ao P w K mg base (k+1) "_law_written" ["_law_words","_law_names","_law_cell"] (lA K):=by
 refine F.cal X G ["_law_words","_law_names","_law_cell","_law_found","_law_word","_law_f","_law_s","_law_far","_law_at","_law_sign","_law_letters"] λo H vs Q E hr h=>?_;obtain⟨v,s,z,us,nm,rfl,hw,hn,z0,u6,n6,Y,ul,W4,kq⟩:=h
 refine⟨_,(@Az _ _ _ _ _ (@BW _ _ 3 _ _ _ _ o rfl (Or.inl rfl) (@Ho _ _ _ _ Ad) rfl (.inl rfl))
  (@Az _ _ _ _ _ (Io PassesOwn.never rfl (Ew (pv 0)) (CP (i:=4) o rfl (Or.inl rfl))
   (@Az _ _ _ _ _ (@BW _ _ 5 _ _ _ _ o rfl (Or.inl rfl) Ae rfl (.inl rfl))
   (@Az _ _ _ _ _ (@BW _ _ 6 _ _ _ _ o rfl (Or.inl rfl) Ae rfl (.inl rfl))
   (@Cp _ _ _ _ _ (@BW _ _ 7 _ _ _ _ o rfl (Or.inl rfl) (Ah Ck (pv 2) (Ah UJ Ae Ae)) rfl (.inl rfl))
   (@Az _ _ _ _ _ (Io PassesOwn.never rfl (wL rfl B.enumerate (Aa (pv 4) Ad)) (@O2 _ _ _ _ _ _ rfl (@H_ _ _ _ _ _ (@CP _ _ 8 _ o rfl (Or.inl rfl) (by first | exact .inl rfl | exact .inr rfl)) (@H_ _ _ _ _ _ (@CP _ _ 9 _ o rfl (Or.inl rfl) (by first | exact .inl rfl | exact .inr rfl)) O7 rfl) rfl) rfl rfl)
    (@Cp _ _ _ _ _ (@BW _ _ 10 _ _ _ _ o rfl (Or.inl rfl) (@BR _ _ _ _ _ _ _ J3 (@Ho _ _ _ _ (@Aa _ _ _ _ _ C_ (@Aa _ _ _ _ _ C_ (@Aa _ _ _ _ _ C_ (@Aa _ _ _ _ _ C_ (@Aa _ _ _ _ _ C_ (@Aa _ _ _ _ _ C_ Ad rfl) rfl) rfl) rfl) rfl) rfl)) (Ah Ck (pv 7) Ae) (λ_ _=>rfl)) rfl (.inl rfl))
    (@Cp _ _ _ _ _ (@BW _ _ 7 _ _ _ _ o rfl (Or.inl rfl) (Ah Gx (pv 7) Ae) rfl (.inl rfl))
    (@Cp _ _ _ _ _ (Bq (Bx KZ (pv 9) C_ (Ac _))
     (@Al _ _ _ (@BW _ _ 9 _ _ _ _ o rfl (Or.inl rfl) (BR X6m (pv 10) (Mh PySem.F.plainAttrs_str PySem.F.slot_str_find PySem.F.type_str_find X2x C_ (Aa (pv 9) Ad)) (λ_ _=>rfl)) rfl (.inl rfl)))
     Bw)
    (@Cp _ _ _ _ _ (@BW _ _ 5 _ _ _ _ o rfl (Or.inl rfl) (Ah Wv (pv 5) (Ah Ge (Mt fH rfl B.int QW (Aa (Hy j9 (pv 9) C_ rfl) Ad)) (BR J3 (pv 1) (pv 8) (λ_ _=>rfl)))) rfl (.inl rfl))
    (@Al _ _ _ (@BW _ _ 6 _ _ _ _ o rfl (Or.inl rfl) (Ah Wv (pv 6) (Ah Ge (Mt fH rfl B.int QW (Aa (Hy j9 (pv 9) C_ rfl) Ad)) (BR J3 (pv 1) (pv 8) (λ_ _=>rfl)))) rfl (.inl rfl))))))))
   (@Al _ _ _ (O_ (Mh Nz Yq Yr Ul (pv 3) (Aa (@Cr _ _ _ _ _ (Aa (Ah Ck (Ah Hx (BJ cG hr rfl (Aa (Ah Hj (pv 5) (pv 6)) Ad)) (Ah Ow Ae (Ah Qa (Ah Gx (pv 2) Ae) (Bc G8 rfl B.len Gm (Aa (pv 3) Ad))))) Ae) (Aa (pv 5) (Aa (pv 6) Ad)))) Ad)))))))))
  (@Al _ _ _ (BL (pv 3))))),?_⟩
 try dsimp only[Cm]
 refine⟨Ce (by decide),λf A=>?_⟩;have L:=Aw A (.lst [])
 refine⟨_,Z,v,Z,⟨_,L.seq hw⟩,Kd (K:=K) (a:=v) (xs:=us.map λu=>V.str (txt u)) (λi σ H'=>Same H H'/\∃(ps:U3) (ms:List Mk) (v4 v5 v6 v7 p r d:Option V),H' f=some (.lst (ps.map V.ref))/\CW H' ps ms/\ms.length=i/\(∀i m,ms[i]?=some m->m.2.1=ff nm (z%10^9).toNat (us.getD i []) nm.length/\m.2.2=ss nm (z%10^9).toNat (us.getD i []) nm.length/\m.1<4/\Fp.ev m) /\
  σ=[some (.ref v),some (.ref s),some (.int z),some (.ref f),v4,v5,v6,v7,p,r,d]) ⟨L,[],[],_,_,_,_,_,_,_,Aj,.nil,Z,λi m h=>(by cases h),Z⟩ (λi σ H' _ e=>e.1.seq hw) ?_ ?_⟩
 ·rintro i x σ H1 hx ⟨W,ps,ms,v4,v5,v6,v7,p,r,d,hf,S,N,ok,rfl⟩;rw[Bo]at hx;obtain⟨u,hu,rfl⟩:=D_.mp hx;have eu:us.getD i []=u:=by rw[Bb,hu];rfl
  have il:i<us.length:=(Cv.mp hu).1;have mu:=Dz hu;have lu:=ul u mu;have u4:Bh.L4 u:=eu ▸ W4.at i;generalize hfar:(z%10^9).toNat=far at ok kq ⊢;refine⟨λσ H'=>H'=H1/\σ=[some (.ref v),some (.ref s),some (.int z),some (.ref f),some (.str (txt u)),some (.int 0),some (.int 0),some (.int far),p,r,d],⟨_,Z,_,_,Z,Z,⟨by decide,by decide,by decide⟩,_,_,Z,Z,(show (0:Int)<10^Int.toNat 9 by decide),Z,?_⟩,?_⟩
  ·have:z%10^9=((z%10^9).toNat:Int):=by omega
   rw[hfar]at this;rw[<-this];rfl
  rintro σ H1 ⟨rfl,rfl⟩;refine⟨_,Z,txt u,Z,xV (z:=txt u) (λj σ H'=>Same H1 H'/\∃(p r d:Option V),σ=[some (.ref v),some (.ref s),some (.int z),some (.ref f),some (.str (txt u)),some (.int (ff nm far u j:Nat)),some (.int (ss nm far u j:Nat)),some (.int (far / 6^j:Nat)),p,r,d]) ⟨Same.refl _,p,r,d,?_⟩ ?_ ?_⟩
  ·rw[ak,Nat.div_one];rfl
  ·rintro j c σ H2 T U ⟨M,p,r,d,rfl⟩ hT;have U:(u.map chr)[j]?=some c:=by simpa [txt] using U
   rw[Bo]at U;obtain⟨a,ha,rfl⟩:=D_.mp U;have ea:u.getD j 0=a:=by rw[Bb,ha];rfl
   have a4:a<4:=ea ▸ u4 j;have jl:j<nm.length:=lu ▸ (Cv.mp ha).1;have S3:=M.trans (Aw hT (.tup [V.int j,V.str ⟨#[chr a]⟩]));refine⟨T,_,Z,Ak.of Aj,Z,_,_,Z,_,_,Z,Z,?_⟩;generalize upd H2 T (.tup [V.int j,V.str ⟨#[chr a]⟩])=H3 at S3 ⊢;obtain⟨g,hg⟩:∃g,far / 6^j%6=g:=⟨_,Z⟩;have g6:g<6:=by omega
   have O:cd far u j=lt g a:=by unfold cd;rw[hg,ea]
   have c4:lt g a<4:=Bh.qG g g6 a a4;refine⟨λσ H'=>Same H1 H'/\σ=[some (.ref v),some (.ref s),some (.int z),some (.ref f),some (.str (txt u)),some (.int (ff nm far u j:Nat)),some (.int (ss nm far u j:Nat)),some (.int (far / 6^j:Nat)),some (.int j),some (.str (s1 a)),some (.str (Em.getD g ""))],?_,?_⟩
   ·refine⟨Ce (show 6<=64 by decide),λl hl=>⟨_,Z,_,_,Z,Z,(show (0:Int)<6 by decide),l,Em.map V.str,_,.str (Em.getD g ""),Z,Z,Ag.of Aj,?_,S3.trans (Aw hl _),Z⟩⟩;have e6:((far / 6^j:Nat):Int)%6=((g:Nat):Int):=by omega
    show Im (Em.map V.str) (((far / 6^j:Nat):Int)%6)=_;rw[e6];refine JX ?_;rw[Bo,Bb,Bm (show g<Em.length from g6)];rfl
   rintro σ I ⟨S4,rfl⟩;refine⟨λσ H'=>H'=I/\σ=[some (.ref v),some (.ref s),some (.int z),some (.ref f),some (.str (txt u)),some (.int (ff nm far u j:Nat)),some (.int (ss nm far u j:Nat)),some (.int (far / 6^(j+1):Nat)),some (.int j),some (.str (s1 a)),some (.str (Em.getD g ""))],⟨_,Z,_,_,Z,Z,⟨by decide,by decide⟩,Z,?_⟩,?_⟩
   ·rw[Rq,<-Yk];rfl
   rintro σ I ⟨rfl,rfl⟩;refine⟨λσ H'=>H'=I/\σ=[some (.ref v),some (.ref s),some (.int z),some (.ref f),some (.str (txt u)),some (.int (ff nm far u j:Nat)),some (.int (ss nm far u j:Nat)),some (.int (far / 6^(j+1):Nat)),some (.int j),some (.str (s1 (lt g a))),some (.str (Em.getD g ""))],⟨_,Z,Z,_,Z,Gr (λc=>?_) (λc=>?_)⟩,?_⟩
   ·have a0:a≠0:=λz=>by
     have:=of_decide_eq_false c;exact this (by rw[z];rfl)
    obtain⟨b,rfl⟩:∃b,a=b+1:=⟨a-1,by omega⟩;have b3:b<3:=by omega
    refine⟨_,Z,Z,_,Z,_,_,Z,Z,Em.getD g "",_,chr (lt g (b+1)),Z,Z,Eh (X7r g g6) (by decide),?_,Z,Z⟩;show Im (Em.getD g "").cps.toList (Txt.find "fsb" (Av.s1 (b+1)))=_;rw[X6r b b3];exact JX (Yy g g6 b b3)
   ·have a0:a=0:=(bw a a4).mp (V.str.inj (QG c));rw[a0,lt_0 g g6];exact⟨Z,Z⟩
   rintro σ I ⟨rfl,rfl⟩;have J:(nm.map nI)[j]?=some (nI (nm.getD j 0)):=by rw[Bo,Bb,Bm jl];rfl
   have a8:nm.getD j 0<6:=by rw[Bb,Bm jl];exact Y _ (G5 jl)
   have R:=(W.trans S4).seq hn;have ef:(if (!(Builtin.Str.occurrences "fb" (s1 (lt g a)) 0 (Str.length "fb") 1).isEmpty)=true then (1:Int) else 0)=((lt g a%2:Nat):Int):=by rw[bW _ c4];exact qC (Fq _ (by decide))
   have es:(if (!(Builtin.Str.occurrences "sb" (s1 (lt g a)) 0 (Str.length "sb") 1).isEmpty)=true then (1:Int) else 0)=((lt g a / 2:Nat):Int):=by rw[bV _ c4];exact qC (by omega)
   have a5:Builtin.bitOr ((ff nm far u j:Nat):Int) (((lt g a%2:Nat):Int)*2^((nm.getD j 0:Nat):Int).toNat)=((ff nm far u (j+1):Nat):Int):=by rw[qP,TQ,<-O];rfl
   have a6:Builtin.bitOr ((ss nm far u j:Nat):Int) (((lt g a / 2:Nat):Int)*2^((nm.getD j 0:Nat):Int).toNat)=((ss nm far u (j+1):Nat):Int):=by rw[qP,TQ,<-O];rfl
   refine⟨λσ H'=>H'=I/\σ=[some (.ref v),some (.ref s),some (.int z),some (.ref f),some (.str (txt u)),some (.int (ff nm far u (j+1):Nat)),some (.int (ss nm far u j:Nat)),some (.int (far / 6^(j+1):Nat)),some (.int j),some (.str (s1 (lt g a))),some (.str (Em.getD g ""))],?_,?_⟩
   ·refine⟨_,Z,_,Z,_,_,Z,Z,.inr ⟨_,Z,?_⟩⟩;rw[ef];refine⟨_,Z,_,Z,s,_,_,_,Z,Z,R,JX J,_,_,Z,Z,⟨2,RV (Fq _ (by decide)),by omega,by omega⟩,_,_,Z,Z,Z,?_⟩;dsimp only;rw[a5]<;>rfl
   rintro σ I ⟨rfl,rfl⟩;refine⟨_,Z,_,Z,_,_,Z,Z,.inr ⟨_,Z,?_⟩⟩;rw[es];refine⟨_,Z,_,Z,s,_,_,_,Z,Z,R,JX J,_,_,Z,Z,⟨2,RV (by omega),by omega,by omega⟩,_,_,Z,Z,S4,some (.int j),some (.str (s1 (lt g a))),some (.str (Em.getD g "")),?_⟩;dsimp only;rw[a6]<;>rfl
  ·rintro σ H2 ⟨M,p,r,d,rfl⟩;have hz:(txt u).cps.size=nm.length:=by rw[<-lu];simp[txt]
   rw[hz];have C:=M _ _ hf;have a3:=S.same M;have lp:(ps.map V.ref).length=i:=by rw[Ax,S.length,N]
   generalize hF:ff nm far u nm.length=fl;generalize hG:ss nm far u nm.length=sg;obtain⟨q,a2,eq⟩:=HW (((pc (fl&&&sg):Nat):Int)+2*(z / 7 / 2^((i:Nat):Int).toNat)) (show 0<4 by decide);have ev:Fp.ev ((q,fl,sg):Mk):=by
    show (q+pc (fl&&&sg))%2=0;omega
   refine⟨_,Z,.inl ⟨Z,_,Ag.of C⟩,_,Z,_,Z,_,_,Z,Z,fl&&&sg,KY _ _,_,Z,_,_,Z,Z,⟨by decide,by decide⟩,_,Z,f,_,Z,.inl (Ag.of C),_,_,Z,Z,(by omega),_,_,Z,Z,.inl ⟨by decide,by decide⟩,_,_,Z,Z,_,_,Z,Z,Oa,_,Z,_,Z,(show 3<=sizeLine by decide),λn a1=>?_⟩;rw[lp];have s3:=Aw a1 (T3 (q,fl,sg));have e3:upd H2 n (T3 (q,fl,sg)) n=some (T3 (q,fl,sg)):=Aj;have et:(HO.tup [V.int ((((pc (fl&&&sg):Nat):Int)+2*(z / 7 / 2^((i:Nat):Int).toNat))%4),V.int fl,V.int sg])=T3 (q,fl,sg):=by
    rw[show ((4:Nat):Int)=4 from rfl]at eq;rw[eq]
   have y:=s3 _ _ C;have a7:=a3.same s3;refine⟨f,ps.map V.ref,_,Z,Z,?_,(by rw[lp];exact CK (show i<64 by omega) (by decide)),?_⟩
   ·show upd H2 n (HO.tup [V.int ((((pc (fl&&&sg):Nat):Int)+2*(z / 7 / 2^((i:Nat):Int).toNat))%4),V.int fl,V.int sg]) f=_;rw[et];exact y
   show Same H (upd (upd H2 n (HO.tup [V.int ((((pc (fl&&&sg):Nat):Int)+2*(z / 7 / 2^((i:Nat):Int).toNat))%4),V.int fl,V.int sg])) f (.lst (ps.map V.ref++[.ref n])))/\_;rw[et];have r4:upd (upd H2 n (T3 (q,fl,sg))) f (.lst (ps.map V.ref++[.ref n])) f=some (.lst ((ps++[n]).map V.ref)):=by rw[Aj,CJ];rfl
   have p4:upd (upd H2 n (T3 (q,fl,sg))) f (.lst (ps.map V.ref++[.ref n])) n=some (T3 (q,fl,sg)):=by rw[BK (LC e3 y (by intro z;cases z))];exact e3
   have m4:=a7.upd (ys:=ps.map V.ref++[.ref n]) y;refine⟨Ec ((W.trans M).trans s3) A,ps++[n],ms++[(q,fl,sg)],_,_,_,_,_,_,_,r4,Paired.snoc m4 p4,(by rw[DQ,N];rfl),λt m D=>?_,Z⟩;rcases Rp t ms.length with c | c
   ·rw[N5 c]at D;exact ok t m D
   ·rw[QS c]at D;have t0:t-ms.length=0:=by
     have:=(Cv.mp D).1;have:t-ms.length<1:=this;omega
    rw[t0]at D;cases D;rw[show t=i by omega,eu];exact⟨hF.symm,hG.symm,a2,ev⟩
 ·rintro σ H1 ⟨W,ps,ms,v4,v5,v6,v7,p,r,d,hf,S,N,ok,rfl⟩;rw[Ax]at N;exact⟨_,Z,kq f ps ms H1 A W hf S N ok⟩
def kj (K:U0):Sp:=λvs H Q _=>∃(sa:Y3) (nl:U6),vs=[.ref sa]/\Ag K H sa (nl.map V.int)/\∀(t l:Y3) (N:Nat) (ps:U3) (ms:List Mk) (H':Hp),Same H H'->H' t=some (.tup [.int N,.ref l])->1<=N->N<=6->G9 N H' l ps ms->Q (.ref t) H'
noncomputable def w5:List Str:=["fssf.",".fssf","f.fss","sf.fs"]
theorem Xf:w5=Bh.five.map txt:=by decide +kernel
theorem Xg:(["ffff","ssss"]:W0)=Bh.four.map txt:=by decide +kernel
theorem X6t:(".....s":Str)=txt [0,0,0,0,0,2]:=by decide +kernel
theorem jC:("s":Str)=txt [2]:=by decide +kernel
theorem nZ(a:Nat):∀k,(List.replicate k [a]).flatten=List.replicate k a
 | 0=>rfl
 | k+1=>by rw[KJ,Nu,nZ a k,KJ];rfl
theorem iG{z':Str}{k:Nat}(h:z'.cps.toList=(List.replicate k (Str.cps ".").toList).flatten):z'=txt (List.replicate k 0):=rZ (by
 rw[h,show (Str.cps ".").toList=[46] from by decide +kernel,List.map_replicate,nZ]
 rfl)
noncomputable def wd (y:Nat):List (List Nat):=if y=0 then Bh.five else Bh.six
theorem X7i{y:Nat}(h:y<2):(Bh.five.map λu=>V.str (txt (u++List.replicate y 0)))++(List.replicate y [V.str ".....s"]).flatten=(wd y).map λu=>V.str (txt u):=by
 rcases (by omega:y=0\/y=1) with rfl | rfl
 ·rfl
 ·rw[X6t];rfl
theorem X3i{y:Nat}(h:2<=y)(h':y<4):Fi (([V.str "ffff",V.str "ssss"]:List V)) none (some (4-(y:Int)))=((Bh.four.take (4-y)).map λu=>V.str (txt u)):=by
 have e:([V.str "ffff",V.str "ssss"]:List V)=Bh.four.map λu=>V.str (txt u):=by
  rw[show ([V.str "ffff",V.str "ssss"]:List V)=(["ffff","ssss"]:W0).map V.str from rfl,Xg,Gk];rfl
 rw[e];rcases (by omega:y=2\/y=3) with rfl | rfl<;>rfl
theorem Uc(u:W7):(txt u).length=u.length:=by show (u.map chr).toArray.size=_;simp
theorem Uu{us ds:List (List Nat)}{nm:W7}{N:Nat}{ms:List Mk}{ps:U3}{H:Hp}{l:Y3}{far:Nat}(pm:nm.Perm (List.range N))(N6:N<=6)(hu:Bh.W4 us)(hd:Bh.W4 ds)(u6:us.length<=6)(c:Bh.Lk us ds N)(hl:H l=some (.lst (ps.map V.ref)))(a:CW H ps ms)(len:ms.length=us.length)
  (h:∀i m,ms[i]?=some m->m.2.1=ff nm far (us.getD i []) nm.length/\m.2.2=ss nm far (us.getD i []) nm.length/\m.1<4/\Fp.ev m):G9 N H l ps ms:=by
 have d:nm.length=N:=by rw[pm.length_eq,Ig]
 obtain⟨T,ok⟩:=Bh.tab (n:=N) (N:=N) (by omega) (pm.nodup_iff.mpr List.nodup_range) (λk b=>Fb.mp (pm.mem_iff.mp b)) N6 hu hd len (λi m hi=>by have:=h i m hi;rw[d]at this;exact this) c;exact⟨hl,a,λm a=>⟨(ok m a).q,(ok m a).f,(ok m a).s⟩,T,by omega⟩
theorem oE:Bh.W4 Bh.five:=by unfold Bh.W4;decide
theorem xJ:Bh.W4 Bh.Ma:=by unfold Bh.W4;decide
theorem sJ:Bh.W4 Bh.six:=by unfold Bh.W4;decide
theorem X1k:Bh.W4 Bh.RW:=by unfold Bh.W4;decide
theorem X1l:Bh.W4 Bh.four:=by unfold Bh.W4;decide
theorem pR:Bh.W4 Bh.J1:=by unfold Bh.W4;decide
theorem iC{a n:Nat}(h:a<4):Bh.W4 (Bh.full a n):=λu d c b=>by
 obtain⟨k,_,rfl⟩:=DY.mp d;simp only[E_,List.mem_replicate,Dg]at b;rcases b with (⟨_,rfl⟩ | rfl) | ⟨_,rfl⟩
 ·decide
 ·exact h
 ·decide
theorem eG(a n:Nat):(Bh.full a n).length=n:=by unfold Bh.full;rw[Ax,Ig]
theorem X6p{a n:Nat}:∀u∈Bh.full a n,u.length=n:=λu c=>by
 obtain⟨k,b,rfl⟩:=DY.mp c;have:=Fb.mp b;simp only[DQ,QM,KQ];omega
theorem X3o(nl:U6)(lo hi:Option Int):∃nn:List Int,Fi (nl.map V.int) lo hi=nn.map V.int:=by
 unfold Fi;exact⟨(nl.drop (HT.GC (nl.map V.int).length 0 lo)).take (HT.GC (nl.map V.int).length (nl.map V.int).length hi-HT.GC (nl.map V.int).length 0 lo),by rw[Va,bJ]⟩
theorem zB(F:Ab K "_law_table_by" (top 51) .none)(X:K.In h)(G:Ng h mg)(B:Bs mg)(c8:Ao P w K mg base k "_law_cell_at" ["_law_script","_law_k"] (Ht K))(cM:Ao P w K mg base k "_law_written" ["_law_words","_law_names","_law_cell"] (lA K))(cI:Ao P w K mg base k "_law_order" ["_law_many","_law_cell"] iB)(dG:Ao P w K mg base k "_law_kept" ["_law_cells","_law_most","_law_told_here"] (Jf K)):Ao P w K mg base (k+1) "_law_table_by" ["_law_script"] (kj K):=by
 refine F.cal X G ["_law_script","_law_head","_law_way","_law_five","_law_cell","_law_words","_law_cells"] λO H vs Q E C h=>?_;obtain⟨p,nl,rfl,hS,kq⟩:=h
 refine⟨_,(@Cp _ _ _ _ _ (@BW _ _ 1 _ _ _ _ O rfl (Or.inl rfl) (Ah Ck (Ah Ow (BJ c8 C rfl (Aa (pv 0) (Aa Ae Ad))) Ae) Ae) rfl (.inl rfl))
  (@Cp _ _ _ _ _ (@BW _ _ 2 _ _ _ _ O rfl (Or.inr rfl) (Ah Ck (pv 1) Ae) rfl (.inl rfl))
  (@Az _ _ _ _ _ (@BW _ _ 3 _ _ _ _ O rfl (Or.inl rfl) (@Ho _ _ _ _ (Aa C_ (Aa C_ (Aa C_ (Aa C_ Ad))))) rfl (.inl rfl))
  (@Cp _ _ _ _ _ (@BW _ _ 4 _ _ _ _ O rfl (Or.inl rfl) (BJ c8 C rfl (Aa (pv 0) (Aa Ae Ad))) rfl (.inl rfl))
  (@Az _ _ _ _ _ (Bq (Bx LK (pv 2) Ae (Ac _))
   (@Cp _ _ _ _ _ (@BW _ _ 5 _ _ _ _ O rfl (Or.inl rfl) (Ah XH (GF rfl (BX.of (Nc:=["_law_word","_law_way"]) (mp:=[none,some 2]) (by kernel_rfl)) (Ew (pv 3)) (λ_ _ _ _=>(CP (i:=0) (show (["_law_word","_law_way"]:W0).Nodup by decide +kernel) rfl (Or.inl rfl))) (λ_ _ _ _=>(Ah fj (pv 0) (Ah gk C_ (pv 1))))) (@Ah _ _ _ _ _ _ _ _ X5h (@Ho _ _ _ _ (@Aa _ _ _ _ _ C_ Ad rfl)) (pv 2))) rfl (.inl rfl))
   (@Al _ _ _ (BL (@Cr _ _ _ _ _ (Aa (Ah Hx Ae (pv 2)) (Aa (BJ cM C rfl (Aa (pv 5) (Aa (BJ cI C rfl (Aa (Ah Hx Ae (pv 2)) (Aa (Ah Ck (Ah Gx (pv 4) Ae) Ae) Ad))) (Aa (Ah Ck (pv 4) (Ah UJ Ae Ae)) Ad)))) Ad))))))
   Bw)
  (@Az _ _ _ _ _ (Bq (Bx LK (pv 2) Ae (Ac _))
   (@Al _ _ _ (BL (@Cr _ _ _ _ _ (Aa Ae (Aa (BJ cM C rfl (Aa (PJ Ud (@Ho _ _ _ _ (Aa C_ (Aa C_ Ad))) O8 (O9 (Ah Ox Ae (pv 2)))) (Aa (BJ cI C rfl (Aa Ae (Aa (Ah Ck (Ah Gx (pv 4) Ae) Ae) Ad))) (Aa (Ah Ck (pv 4) (Ah UJ Ae Ae)) Ad)))) Ad)))))
   Bw)
  (@Cp _ _ _ _ _ (@BW _ _ 6 _ _ _ _ O rfl (Or.inr rfl) (Ah Hx Ae (Ah Ck (Ah Gx (pv 1) Ae) Ae)) rfl (.inl rfl))
  (@Az _ _ _ _ _ (Bq (Bx Gu (pv 2) Ae (Ac _))
   (@Cp _ _ _ _ _ (eY (i:=5) rfl O rfl rfl (BX.of (Nc:=["_law_k","_law_cells"]) (mp:=[none,some 6]) (by kernel_rfl)) (Qm rfl B.range (Aa (pv 6) Ad)) (λ_ _ _ _=>(CP (i:=0) (show (["_law_k","_law_cells"]:W0).Nodup by decide +kernel) rfl (Or.inl rfl))) (λ_ _ _ _=>(Ah fj (Ah fj (Ah gk C_ (pv 0)) C_) (Ah gk C_ (Ah Ox (Ah Ox (pv 1) (pv 0)) Ae)))) rfl)
   (@Al _ _ _ (BL (@Cr _ _ _ _ _ (Aa (pv 6) (Aa (BJ cM C rfl (Aa (pv 5) (Aa (BJ cI C rfl (Aa (pv 6) (Aa (Ah Ck (Ah Gx (pv 4) Ae) Ae) Ad))) (Aa (Ah Ck (pv 4) (Ah UJ Ae Ae)) Ad)))) Ad))))))
   Bw)
  (@Al _ _ _ (BL (@Cr _ _ _ _ _ (Aa (pv 6) (Aa (BJ dG C rfl (Aa (pv 6) (Aa (Bc (fJ rfl) rfl B.min boot_min (Aa Ae (Aa (pv 6) Ad))) (Aa (PJ Ud (pv 0) (O9 Ae) O8) Ad)))) Ad))))))))))))),?_⟩
 try dsimp only[Cm]
 refine⟨λσ H'=>H'=H/\∃d:Int,0<=d/\σ=[some (.ref p),some (.int d),none,none,none,none,none],⟨_,Z,p,nl,0,Z,hS,Int.le_refl 0,_,_,Z,Z,.inr ⟨by decide,by decide⟩,_,_,Z,Z,Wx,Z,_,Py _ (Rm Wx),Z⟩,?_⟩;rintro σ H ⟨rfl,d,h0,rfl⟩;obtain⟨y,y6,ey⟩:=HW d (show 0<6 by decide);refine⟨λσ H'=>H'=H/\σ=[some (.ref p),some (.int d),some (.int y),none,none,none,none],⟨_,Z,_,_,Z,Z,(show (0:Int)<6 by decide),Z,?_⟩,?_⟩
 ·show [some (V.ref p),some (V.int d),some (V.int (d%6)),none,none,none,none]=_;rw[show (d%6:Int)=(y:Int) from ey]
 rintro σ H ⟨rfl,rfl⟩;refine⟨Ce (show 4<=64 by decide),λl5 a2=>?_⟩;have s1:=Aw a2 (.lst (w5.map V.str));have e1:upd H l5 (.lst (w5.map V.str)) l5=some (.lst (w5.map V.str)):=Aj;have a7:∀{H':Hp},Same (upd H l5 (.lst (w5.map V.str))) H'->Same H H':=λx=>s1.trans x;refine⟨λσ H'=>Same H H'/\H' l5=some (.lst (w5.map V.str))/\∃z:Int,σ=[some (.ref p),some (.int d),some (.int y),some (.ref l5),some (.int z),none,none],⟨_,Z,p,nl,1,Z,s1.seq hS,by decide,s1,e1,_,Z⟩,?_⟩;rintro σ H1 ⟨S1,h5,z,rfl⟩;have I:(0:Int)<720:=by decide
 have a3:(0:Int)<24:=by decide
 have m:(0:Int)<10^Int.toNat 12:=by decide
 refine⟨_,Z,_,_,Z,Z,_,Z,CQ (λc=>?_) (λc=>?_)⟩
 ·have y2:y<2:=by omega
  refine⟨λσ H'=>Same H H'/\∃g:Addr,H' g=some (.lst ((wd y).map λu=>V.str (txt u)))/\σ=[some (.ref p),some (.int d),some (.int y),some (.ref l5),some (.int z),some (.ref g),none],?_,?_⟩
  ·refine⟨_,Z,l5,Z,⟨_,Ag.of h5⟩,λacc b=>?_⟩;refine Lb (K:=K) (a:=l5) (xs:=w5.map V.str) (fr:=[some (.int y)]) (λi ys H'=>Same H1 H'/\H' acc=some (.lst ys)/\ys=(Bh.five.take i).map λu=>V.str (txt (u++List.replicate y 0))) (by exact Ce (by decide)) ⟨Aw b _,Aj,Z⟩ (λi ys H' e=>Ag.of (e.1 _ _ h5)) ?_ ?_
   ·rintro i x ys HA NN M A ⟨SA,cA,rfl⟩ kN;rw[Xf,Gk,Bo]at M;obtain⟨u,J,rfl⟩:=D_.mp M;have ul:u.length<=5:=(show ∀u∈Bh.five,u.length<=5 by decide) u (Dz J);refine⟨_,Z,_,Z,".",_,Z,Z,by omega,by omega,by decide,λz' hz=>?_⟩;rw[Ej]at hz;obtain rfl:=iG hz;refine⟨txt u,_,Z,Z,?_,?_⟩
    ·rw[Uc,Uc,QM];exact Ce (by omega)
    rw[WL];refine kN _ _ cA ⟨Ec SA b,Aj,?_⟩;rw[Ga,J,G7,CJ];rfl
   rintro ys H2 o ⟨S,c2,rfl⟩;have c2:H2 acc=some (.lst (Bh.five.map λu=>V.str (txt (u++List.replicate y 0)))):=c2;refine⟨Ce (show 1<=64 by decide),λl1 a5=>?_⟩;have s3:=Aw a5 (.lst [V.str ".....s"]);have e3:upd H2 l1 (.lst [V.str ".....s"]) l1=some (.lst [V.str ".....s"]):=Aj;generalize upd H2 l1 (.lst [V.str ".....s"])=Y at s3 e3 ⊢;refine⟨_,Z,l1,_,_,Z,Z,e3,by omega,by omega,?_,λl2 o=>?_⟩
   ·rw[Ej];exact Ce (show 1*y<=64 by omega)
   rw[Ej];have s4:=Aw o (.lst (List.replicate y [V.str ".....s"]).flatten);have e4:upd Y l2 (.lst (List.replicate y [V.str ".....s"]).flatten) l2=some (.lst (List.replicate y [V.str ".....s"]).flatten):=Aj;generalize upd Y l2 (.lst (List.replicate y [V.str ".....s"]).flatten)=H4 at s4 e4 ⊢;refine⟨acc,l2,_,_,Z,Z,(s3.trans s4) _ _ c2,e4,?_,λl3 a6=>?_⟩
   ·rw[Ax,nA];exact Ce (show 4+y*1<=64 by omega)
   rw[X7i y2];exact⟨((S1.trans S).trans (s3.trans s4)).trans (Aw a6 _),l3,Aj,Z⟩
  rintro σ H2 ⟨S,g,r,rfl⟩;have e5:(5:Int)+((y:Nat):Int)=((5+y:Nat):Int):=by omega
  refine⟨_,Z,_,_,Z,Z,_,Z,_,Z,_,_,Z,Z,_,Z,_,_,Z,Z,⟨by decide,by decide⟩,_,_,Z,Z,I,5+y,z / 6%720,(show [V.int (5+((y:Nat):Int)),V.int (z / 6%720)]=_ by rw[e5]),by omega,λlo os Y _ v ho j=>?_⟩;have s:os.length=5+y:=by rw[j.length_eq,Ig]
  refine⟨_,Z,_,_,Z,Z,⟨by decide,by decide,by decide⟩,_,_,Z,Z,m,g,lo,_,wd y,os,Z,Ag.of (v _ _ r),Ag.of ho,Py _ (Rm m),?_,by omega,(λx M=>by have:=Fb.mp (j.mem_iff.mp M);omega),?_,?_,λl ps ms H4 _ S4 A R f ok=>?_⟩
  ·unfold wd;split<;>decide
  ·rw[s];rcases (by omega:y=0\/y=1) with rfl | rfl
   ·exact(by decide:∀u∈Bh.five,u.length=5)
   ·exact(by decide:∀u∈Bh.six,u.length=6)
  ·rcases (by omega:y=0\/y=1) with rfl | rfl
   ·exact oE
   ·exact sJ
  refine⟨(show 2<=sizeLine by decide),λt L=>?_⟩;have T:G9 (5+y) H4 l ps ms:=by
   rcases (by omega:y=0\/y=1) with rfl | rfl
   ·exact Uu j (by decide) oE xJ (by decide) Bh.c5 A R f ok
   ·exact Uu j (by decide) sJ X1k (by decide) Bh.c6 A R f ok
  refine kq t l (5+y) ps ms _ (((S.trans v).trans S4).trans (Aw L _)) ?_ (by omega) (by omega) (T.same (Aw L _));rw[Aj,<-e5]<;>rfl
 ·refine⟨_,Z,_,_,Z,Z,_,Z,CQ (λc'=>?_) (λc'=>?_)⟩
  ·have y2:2<=y:=by omega
   have y4:y<4:=by omega
   refine⟨Ce (show 2<=64 by decide),λl2 o=>?_⟩;have s2:=Aw o (.lst [V.str "ffff",V.str "ssss"]);have e2:upd H1 l2 (.lst [V.str "ffff",V.str "ssss"]) l2=some (.lst [V.str "ffff",V.str "ssss"]):=Aj;generalize upd H1 l2 (.lst [V.str "ffff",V.str "ssss"])=H2 at s2 e2 ⊢;refine⟨_,Z,_,_,Z,Z,_,Z,l2,_,Z,Ag.of e2,λg r=>?_⟩;rw[X3i y2 y4];have s3:=Aw r (.lst ((Bh.four.take (4-y)).map λu=>V.str (txt u)));have e3:upd H2 g (.lst ((Bh.four.take (4-y)).map λu=>V.str (txt u))) g=some (.lst ((Bh.four.take (4-y)).map λu=>V.str (txt u))):=Aj;generalize upd H2 g (.lst ((Bh.four.take (4-y)).map λu=>V.str (txt u)))=H2' at s3 e3 ⊢;refine⟨_,Z,_,_,Z,Z,⟨by decide,by decide⟩,_,_,Z,Z,a3,4,_,Z,by decide,λlo os Y _ v ho j=>?_⟩;have s:os.length=4:=by rw[j.length_eq,Ig]
   have W:Bh.W4 (Bh.four.take (4-y)):=λu J=>X1l u (Sq J);refine⟨_,Z,_,_,Z,Z,⟨by decide,by decide,by decide⟩,_,_,Z,Z,m,g,lo,_,Bh.four.take (4-y),os,Z,Ag.of (v _ _ e3),Ag.of ho,Py _ (Rm m),?_,by omega,(λx M=>by have:=Fb.mp (j.mem_iff.mp M);omega),?_,W,λl ps ms H4 _ S4 A R f ok=>?_⟩
   ·rw[Ft];omega
   ·rw[s];exact λu J=>(by decide:∀u∈Bh.four,u.length=4) u (Sq J)
   refine⟨(show 2<=sizeLine by decide),λt L=>?_⟩;have D:=Aw L (.tup [V.int (4:Nat),V.ref l]);have T:G9 4 H4 l ps ms:=by
    rcases (by omega:y=2\/y=3) with rfl | rfl
    ·exact Uu j (by decide) W pR (by decide) Bh.c4 A R f ok
    ·exact Uu j (by decide) W pR (by decide) Bh.c3 A R f ok
   exact kq t l 4 ps ms _ (((S1.trans (s2.trans s3)).trans (v.trans S4)).trans D) Aj (by decide) (by decide) (T.same D)
  obtain⟨n,n6,en⟩:=HW (d / 6) (show 0<6 by decide);refine⟨λσ H'=>H'=H1/\σ=[some (.ref p),some (.int d),some (.int y),some (.ref l5),some (.int z),none,some (.int (1+n:Nat))],⟨_,Z,_,_,Z,Z,⟨by decide,by decide⟩,_,_,Z,Z,(show (0:Int)<6 by decide),_,_,Z,Z,Z,?_⟩,?_⟩
  ·show [some (V.ref p),some (V.int d),some (V.int y),some (.ref l5),some (.int z),none,some (V.int (1+d / 6%6))]=_;rw[show (d / 6%6:Int)=(n:Int) from en,show (1:Int)+((n:Nat):Int)=((1+n:Nat):Int) by omega]
  rintro σ H1 ⟨rfl,rfl⟩;generalize hN:1+n=N;have N1:1<=N:=by omega
  have U:N<=6:=by omega
  refine⟨_,Z,Z,_,Z,CQ (λ_=>?_) (λ_=>?_)⟩
  ·refine⟨λσ H'=>Same H H'/\∃g:Addr,H' g=some (.lst ((Bh.full 2 N).map λu=>V.str (txt u)))/\σ=[some (.ref p),some (.int d),some (.int y),some (.ref l5),some (.int z),some (.ref g),some (.int N)],?_,?_⟩
   ·refine⟨_,Z,_,Z,by omega,by omega,λacc b=>?_⟩;rw[Ej];refine WR (lo:=0) (n:=N) (fr:=[some (.int N)]) (λi ys H'=>Same H1 H'/\H' acc=some (.lst ys)/\ys=((Bh.full 2 N).take i).map λu=>V.str (txt u)) (Ce (by omega)) ⟨Aw b _,Aj,Z⟩ ?_ ?_
    ·rintro i ys HA NN hi A ⟨SA,cA,rfl⟩ kN;have J:(Bh.full 2 N)[i]?=some (List.replicate i 0++[2]++List.replicate (N-i-1) 0):=by unfold Bh.full;rw[Bo,List.getElem?_range hi];rfl
     rw[Pu];refine⟨_,Z,".",_,Z,Z,by omega,by omega,by decide,λz1 a1=>?_⟩;rw[Ej]at a1;obtain rfl:=iG a1;refine⟨_,_,Z,Z,?_,?_⟩
     ·rw[Uc,QM];exact Ce (show i+1<=64 by omega)
     refine⟨_,Z,_,Z,_,_,Z,Z,_,_,Z,Z,".",_,Z,Z,by omega,by omega,by decide,λz2 a0=>?_⟩;rw[show ((N:Int)-(i:Int)-1).toNat=N-i-1 by omega]at a0;obtain rfl:=iG a0;refine⟨_,_,Z,Z,?_,?_⟩
     ·rw[jC,WL,Uc,Uc,DQ,QM,QM];exact Ce (show i+1+(N-i-1)<=64 by omega)
     rw[jC,WL,WL];refine kN _ _ cA ⟨Ec SA b,Aj,?_⟩;rw[Ga,J,G7,CJ];rfl
    rintro ys H2 o ⟨S,c2,rfl⟩;have:((Bh.full 2 N).take N)=Bh.full 2 N:=Vu (by rw[eG];omega);rw[this]at c2;exact⟨S1.trans S,acc,c2,Z⟩
   rintro σ H2 ⟨S,g,r,rfl⟩;refine⟨_,Z,_,Z,_,Z,_,Z,_,_,Z,Z,⟨by decide,by decide⟩,_,_,Z,Z,I,N,_,Z,U,λlo os Y _ v ho j=>?_⟩;have s:os.length=N:=by rw[j.length_eq,Ig]
   refine⟨_,Z,_,_,Z,Z,⟨by decide,by decide,by decide⟩,_,_,Z,Z,m,g,lo,_,Bh.full 2 N,os,Z,Ag.of (v _ _ r),Ag.of ho,Py _ (Rm m),by rw[eG];exact U,by omega,(λx M=>by have:=Fb.mp (j.mem_iff.mp M);omega),by rw[s];exact X6p,iC (by decide),λl ps ms H4 _ S4 A R f ok=>?_⟩;refine⟨(show 2<=sizeLine by decide),λt L=>?_⟩;have D:=Aw L (.tup [V.int (N:Nat),V.ref l]);have T:G9 N H4 l ps ms:=Uu j U (iC (by decide)) (iC (by decide)) (by rw[eG];exact U) (Bh.cf N (by omega)) A R f ok;exact kq t l N ps ms _ (((S.trans v).trans S4).trans D) Aj N1 U (T.same D)
  ·obtain⟨mo,m5,em⟩:∃mo:Nat,mo<=5/\(if ((N:Nat):Int)<5 then ((N:Nat):Int) else 5)=(mo:Int):=by
    by_cases q:((N:Nat):Int)<5
    ·exact⟨N,by omega,if_pos q⟩
    ·exact⟨5,by omega,if_neg q⟩
   refine⟨_,Z,_,Z,_,Z,_,_,Z,?_⟩;rw[em];refine⟨_,Z,4,Z,p,_,Z,S1.seq hS,λlc a4=>?_⟩;obtain⟨nn,en⟩:=X3o nl (some 4) none;rw[en];have s2:=Aw a4 (.lst (nn.map V.int));refine⟨N,mo,lc,nn,Z,N1,U,m5,Ag.of Aj,λl Y ps ms v T lm=>?_⟩;refine⟨(show 2<=sizeLine by decide),λt L=>?_⟩;have D:=Aw L (.tup [V.int (N:Nat),V.ref l]);exact kq t l N ps ms _ (((S1.trans s2).trans v).trans D) Aj N1 U (T.same D)
end
end Av
set_option maxHeartbeats 4000000
namespace L2
section
variable {X:Cx}
theorem Wi:Bu X (.builtin "isinstance") (λxs H Q=>∃a vs T b,xs=[.ref a,.ty T]/\Ak X.K H a vs/\PySem.W.kitOne X.K (.type "tuple") (.type T)=some b/\Q (.bl b) H):=by
 intro pins s σ H xs us Q I r h;obtain⟨a,vs,T,b,rfl,c,e,q⟩:=h;obtain⟨u,v,rfl,d,f⟩:=r.two;cases f;cases d;obtain⟨its,_,⟨o,h1,h2,_⟩,_⟩:=I.tuple c;exact Ir PySem.W.kitx_tuple I.kIn ⟨o,h1,h2⟩ e (λz=>nomatch z) λtk=>⟨.bl b,H,I.tok tk,Z,q⟩
end
end L2
set_option maxHeartbeats 1000000
namespace Av
open L2 Pc Dv Ez Fy
def k_ (K:U0):Sp:=λvs H Q _=>∃(N:Nat) (z:Int),vs=[.int N,.int z]/\1<=N/\N<=6/\∀(wv:V) (ws:W7) (H':Hp),Same H H'->Ed K H' wv N ws->Q wv H'
def Gh (K:U0):Sp:=λvs H Q _=>∃(p p':Y3) (m m':Mk),vs=[.ref p,.ref p']/\Ak K H p (L3 m)/\Ak K H p' (L3 m')/\∀H',Same H H'->Q (.bl (decide (m=m'))) H'
def Lr (K:U0):Sp:=λvs H Q _=>∃(wv:V) (N:Nat) (ws:W7),vs=[.int N,wv]/\N<=6/\Ed K H wv N ws/\∀(l:Y3) (qs:U3) (H':Hp),Same H H'->H' l=some (.lst (qs.map V.ref))->CW H' qs (wr ws)->Q (.ref l) H'
def Hr (K:U0):Sp:=λvs H Q _=>∃(p p':Y3) (m m':Mk),vs=[.ref p,.ref p']/\Ak K H p (L3 m)/\Ak K H p' (L3 m')/\∀(r:Y3) (H':Hp),Same H H'->H' r=some (T3 (0,m.2.1^^^m'.2.1,m.2.2^^^m'.2.2))->Q (.ref r) H'
def Gi (K:U0):Sp:=λvs H Q _=>∃(l pm:Y3) (ps:U3) (ms:List Mk) (m:Mk),vs=[.ref l,.ref pm]/\Ag K H l (ps.map V.ref)/\CW H ps ms/\ms.length<=12/\Ak K H pm (L3 m)/\∀(r:Y3) (H':Hp),Same H H'->H' r=some (.tup ((ans ms m).map V.int))->Q (.ref r) H'
theorem qJ{m m':Mk}:decide ([(m.1:Int),(m.2.1:Int),(m.2.2:Int)]=[(m'.1:Int),(m'.2.1:Int),(m'.2.2:Int)])=decide (m=m'):=by
 obtain⟨a,b,c⟩:=m;obtain⟨a',b',c'⟩:=m';refine decide_eq_decide.mpr ⟨λh=>?_,λh=>by rw[h]⟩;simp at h;obtain⟨h1,h2,d⟩:=h;have h1:a=a':=by omega
 have h2:b=b':=by omega
 have d:c=c':=by omega
 rw[h1,h2,d]
theorem qz{α:Type}(l:List α):((l.map λ_=>true).all id)=true:=by simp
section
variable {P:U8}{w:W1}{K:U0}{mg:U4}{base:Heap}{k:Nat}{h:Heap}
theorem zE(F:Ab K "_law_where_by" (top 52) .none)(X:K.In h)(G:Ng h mg)(B:Bs mg)(cI:Ao P w K mg base k "_law_order" ["_law_many","_law_cell"] iB):Ao P w K mg base (k+1) "_law_where_by" ["_law_cells","_law_cell"] (k_ K):=by
 refine F.cal X G ["_law_cells","_law_cell","_law_far","_law_order_here"] λy H vs Q E J h=>?_;obtain⟨N,z,rfl,N1,D,U⟩:=h
 refine⟨_,(@Cp _ _ _ _ _ (@BW _ _ 2 _ _ _ _ y rfl (Or.inl rfl) (Ah Ck (Ah Gx (pv 1) Ae) (Ah UJ Ae Ae)) rfl (.inl rfl))
  (@Az _ _ _ _ _ (@BW _ _ 3 _ _ _ _ y rfl (Or.inl rfl) (BJ cI J rfl (Aa (pv 0) (Aa (Ah Ck (pv 2) Ae) Ad))) rfl (.inl rfl))
  (@Al _ _ _ (BL (@BR _ _ _ _ _ _ _ J3 (@Ho _ _ _ _ (@Aa _ _ _ _ _ Gv (@Aa _ _ _ _ _ (PJ Ud (pv 3) (O9 (Ah Ck (Ah Gx (pv 2) Ae) (pv 0))) O8) (@Aa _ _ _ _ _ (PJ Ud (pv 3) O8 (O9 Ae)) (@Aa _ _ _ _ _ (@Ho _ _ _ _ Ad) Ad rfl) rfl) rfl) rfl)) (Ah Ck (pv 1) Ae) (λ_ _=>rfl)))))),?_⟩
 try dsimp only[Cm]
 refine⟨λσ H'=>H'=H/\∃fr:Int,σ=[some (.int N),some (.int z),some (.int fr),none],⟨_,Z,_,_,Z,Z,⟨by decide,by decide⟩,_,_,Z,Z,⟨by decide,by decide,by decide⟩,_,_,Z,Z,(show (0:Int)<10^Int.toNat 6 by decide),Z,_,Z⟩,?_⟩;rintro σ H ⟨rfl,fr,rfl⟩;refine⟨_,Z,_,Z,_,_,Z,Z,(show (0:Int)<720 by decide),N,_,Z,D,λlo os H1 _ M t A=>?_⟩;have Y:os.length=N:=by rw[A.length_eq,Ig]
 have S:∀c∈os,c<N:=λc a=>Fb.mp (A.mem_iff.mp a);have b:∀lo hi,∃nn:List Nat,Fi (os.map nI) lo hi=nn.map nI/\(∀c∈nn,c<N)/\nn.length<=6:=λlo hi=>by
  unfold Fi;refine⟨(os.drop _).take _,by rw[<-bJ,<-Va],λc a=>S c (YZ (Sq a)),?_⟩;rw[Ft,QB];omega
 refine⟨_,Z,_,Z,_,_,Z,Z,⟨by decide,by decide⟩,_,Z,_,_,Z,Z,(by omega),_,Z,lo,_,Z,Ag.of t,λl1 f=>?_⟩;obtain⟨n1,g,n,q⟩:=b (some (fr / 720%(N:Int))) none;rw[g];have s1:=Aw f (.lst (n1.map nI));have C:upd H1 l1 (.lst (n1.map nI)) l1=some (.lst (n1.map nI)):=Aj;generalize upd H1 l1 (.lst (n1.map nI))=H2 at s1 C ⊢;refine⟨_,Z,1,Z,lo,_,Z,Ag.of (s1 _ _ t),λl2 m=>?_⟩;obtain⟨n2,p,r,o⟩:=b none (some 1);rw[p];have s:=Aw m (.lst (n2.map nI));have x:upd H2 l2 (.lst (n2.map nI)) l2=some (.lst (n2.map nI)):=Aj;generalize upd H2 l2 (.lst (n2.map nI))=H3 at s x ⊢;refine⟨Ce (show 0<=64 by decide),λl3 l=>?_⟩;have e:=Aw l (.lst []);have u:upd H3 l3 (.lst []) l3=some (.lst []):=Aj;generalize upd H3 l3 (.lst [])=H4 at e u ⊢;refine⟨Ce (show 4<=64 by decide),λl4 j=>?_⟩;have d:=Aw j (.lst [V.non,V.ref l1,V.ref l2,V.ref l3]);have T:=M.trans (s1.trans (s.trans (e.trans d)));have I:Ed K (upd H4 l4 (.lst [V.non,V.ref l1,V.ref l2,V.ref l3])) (.ref l1) N n1:=⟨.inr ⟨l1,Z,(s.trans (e.trans d)) _ _ C⟩,n,q⟩;have W:Ed K (upd H4 l4 (.lst [V.non,V.ref l1,V.ref l2,V.ref l3])) (.ref l2) N n2:=⟨.inr ⟨l2,Z,(e.trans d) _ _ x⟩,r,o⟩;have w3:Ed K (upd H4 l4 (.lst [V.non,V.ref l1,V.ref l2,V.ref l3])) (.ref l3) N []:=⟨.inr ⟨l3,Z,d _ _ u⟩,(λc a=>nomatch a),by decide⟩;have w0:Ed K (upd H4 l4 (.lst [V.non,V.ref l1,V.ref l2,V.ref l3])) .non N (List.range N):=⟨.inl ⟨Z,Z⟩,(λc a=>Fb.mp a),by rw[Ig];exact D⟩;obtain⟨i,i4,R⟩:=HW z (show 0<4 by decide);obtain⟨v,ws,O,L⟩:∃v ws,([V.non,V.ref l1,V.ref l2,V.ref l3]:List V)[i]?=some v/\Ed K (upd H4 l4 (.lst [V.non,V.ref l1,V.ref l2,V.ref l3])) v N ws:=by
  rcases (by omega:i=0\/i=1\/i=2\/i=3) with rfl | rfl | rfl | rfl
  ·exact⟨_,_,Z,w0⟩
  ·exact⟨_,_,Z,I⟩
  ·exact⟨_,_,Z,W⟩
  ·exact⟨_,_,Z,w3⟩
 refine⟨_,Z,_,_,Z,Z,Oa,l4,_,_,v,Z,Z,Ag.of Aj,?_,U v ws _ T L⟩;show Im [V.non,V.ref l1,V.ref l2,V.ref l3] (z%4)=some v;rw[show (z%4:Int)=(i:Int) from R];exact JX O
theorem yw(F:Ab K "_law_is_mark" (top 53) .none)(X:K.In h)(G:Ng h mg)(B:Bs mg)(cJ:Ao P w K mg base k "_law_whole" ["_law_found"] Qg):Ao P w K mg base (k+1) "_law_is_mark" ["_law_found","_law_due"] (Gh K):=by
 refine F.cal X G ["_law_found","_law_due"] λl H vs Q E d h=>?_;obtain⟨p,g,m,m',rfl,hp,b,j⟩:=h
 refine⟨_,(@Az _ _ _ _ _ (Bq (PW.pt (Dq (Dl (CV (Bc Wi rfl B.isinstance Ea (Aa (pv 0) (Aa (HX (v:=.ty "tuple") rfl B.tuple Ni rfl) Ad))))) (Dq (Bx KZ (Bc G8 rfl B.len Gm (Aa (pv 0) Ad)) Ae (Ac _)) (Gw (Dl (CV (Bc (J5 rfl) rfl B.all Jq (Aa (GF rfl (BX.of (Nc:=["_law_part"]) (mp:=[none]) (by kernel_rfl)) (XQ (pv 0)) (λ_ _ _ _=>(CP (i:=0) (show (["_law_part"]:W0).Nodup by decide +kernel) rfl (Or.inl rfl))) (λ_ _ _ _=>(BJ cJ d rfl (Aa (pv 0) Ad)))) Ad))))))))
   (@Al _ _ _ (BL EY))
   Bw)
  (@Al _ _ _ (BL (Hy (X2l d.units) (pv 0) (pv 1) (Ac _))))),?_⟩
 try dsimp only[Cm]
 refine⟨_,Z,p,_,_,true,Z,hp,QZ K,_,Z,Ar ⟨_,Z,p,_,Z,.inr hp,Z,_,Z,K7 (λz=>absurd rfl z) (λ_=>?_)⟩⟩;refine⟨_,Z,p,Z,⟨_,hp⟩,λacc a=>?_⟩;refine gb (K:=K) (ns:=[(m.1:Int),(m.2.1:Int),(m.2.2:Int)]) (λ_=>V.bl true) hp (Ce (show 3<=64 by decide)) a (λn H N S e=>⟨_,Z,n,Z,e⟩) (λH2 c f=>?_);refine⟨acc,[true,true,true],Z,Ag.of f,_,Z,Ar ?_⟩;refine⟨_,Z,_,Z,p,g,[(m.1:Int),(m.2.1:Int),(m.2.2:Int)],[(m'.1:Int),(m'.2.1:Int),(m'.2.2:Int)],Z,Z,c.tup hp,c.tup b,?_⟩;show Q (.bl (decide ([(m.1:Int),(m.2.1:Int),(m.2.2:Int)]=[(m'.1:Int),(m'.2.1:Int),(m'.2.2:Int)]))) H2;rw[qJ];exact j H2 c
theorem X2n(F:Ab K "_law_with" (top 58) .none)(X:K.In h)(G:Ng h mg):Ao P w K mg base (k+1) "_law_with" ["_law_one","_law_other"] (Hr K):=by
 refine F.cal X G ["_law_one","_law_other"] λf H vs Q E e h=>?_;obtain⟨p,b,m,m',rfl,hp,a,d⟩:=h;refine⟨_,(@Al _ _ _ (BL (@Cr _ _ _ _ _ (Aa Ae (Aa (Ah La (BR Bk (pv 0) Ae (λ_ _=>rfl)) (BR Bk (pv 1) Ae (λ_ _=>rfl))) (Aa (Ah La (BR Bk (pv 0) Ae (λ_ _=>rfl)) (BR Bk (pv 1) Ae (λ_ _=>rfl))) Ad)))))),?_⟩;try dsimp only[Cm]
 refine⟨_,Z,p,_,_,_,Z,Z,hp,Z,_,Z,b,_,_,_,Z,Z,a,Z,_,_,Z,Z,_,Z,p,_,_,_,Z,Z,hp,Z,_,Z,b,_,_,_,Z,Z,a,Z,_,_,Z,Z,t3,λt c=>?_⟩;show Q (.ref t) (upd H t (.tup [V.int 0,V.int (Builtin.bitXor (m.2.1:Int) (m'.2.1:Int)),V.int (Builtin.bitXor (m.2.2:Int) (m'.2.2:Int))]));rw[LQ,LQ];exact d t _ (Aw c _) Aj
theorem zZ(F:Ab K "_law_answered" (top 57) .none)(X:K.In h)(G:Ng h mg)(B:Bs mg)(cJ:Ao P w K mg base k "_law_whole" ["_law_found"] Qg)(cQ:Ao P w K mg base k "_law_apart" ["_law_one","_law_other"] (Je K))(cW:Ao P w K mg base k "answers" ["rows","mark"] (Jk K)):Ao P w K mg base (k+1) "_law_answered" ["_law_rows","_law_mark"] (Gi K):=by
 refine F.cal X G ["_law_rows","_law_mark","_law_due","_law_found"] λU H vs Q E j h=>?_;obtain⟨l,J,ps,ms,m,rfl,C,t,Jy,d,kq⟩:=h;have g:(ps.map V.ref).length=ms.length:=by rw[Ax,t.length]
 refine⟨_,(@Az _ _ _ _ _ (@BW _ _ 2 _ _ _ _ U rfl (Or.inl rfl) (Mt lY rfl B.tuple Ni (Aa (GF rfl (BX.of (Nc:=["_law_row","_law_mark"]) (mp:=[none,some 1]) (by kernel_rfl)) (Ew (pv 0)) (λ_ _ _ _=>(CP (i:=0) (show (["_law_row","_law_mark"]:W0).Nodup by decide +kernel) rfl (Or.inl rfl))) (λ_ _ _ _=>(Mt fH rfl B.int QW (Aa (BJ cQ j rfl (Aa (pv 0) (Aa (pv 1) Ad))) Ad)))) Ad)) rfl (.inl rfl))
  (@Az _ _ _ _ _ (@BW _ _ 3 _ _ _ _ U rfl (Or.inl rfl) (BJ cW j rfl (Aa (pv 0) (Aa (pv 1) Ad))) rfl (.inl rfl))
  (@Az _ _ _ _ _ (Bq (PW.pt (Dq (Dl (CV (Bc Wi rfl B.isinstance Ea (Aa (pv 3) (Aa (HX (v:=.ty "tuple") rfl B.tuple Ni rfl) Ad))))) (Dq (Bx (gj j.units) (pv 3) (pv 2) (Ac _)) (Gw (Dl (CV (Bc (J5 rfl) rfl B.all Jq (Aa (GF rfl (BX.of (Nc:=["_law_part"]) (mp:=[none]) (by kernel_rfl)) (XQ (pv 3)) (λ_ _ _ _=>(CP (i:=0) (show (["_law_part"]:W0).Nodup by decide +kernel) rfl (Or.inl rfl))) (λ_ _ _ _=>(BJ cJ j rfl (Aa (pv 0) Ad)))) Ad))))))))
   (@Al _ _ _ (BL Gv))
   Bw)
  (@Al _ _ _ (BL (pv 2)))))),?_⟩
 try dsimp only[Cm]
 refine⟨_,Z,l,Z,⟨_,C⟩,λacc b=>?_⟩;refine Lb (K:=K) (a:=l) (xs:=ps.map V.ref) (fr:=[some (.ref J)]) (λi ys H'=>Same H H'/\H' acc=some (.lst ys)/\ys=((ans ms m).take i).map V.int) (by rw[g];exact Ce (by omega)) ⟨Aw b _,Aj,Z⟩ (λi ys H' e=>e.1.seq C) ?_ ?_
 ·rintro i x ys HA NN R hl ⟨u,Y,rfl⟩ q;rw[Bo]at R;obtain⟨p,hp,rfl⟩:=D_.mp R;obtain⟨r,A,p0⟩:=t.get hp;have ea:(ans ms m)[i]?=some (if comm r m=0 then 0 else 1):=by unfold ans;rw[Bo,A];rfl
  refine⟨_,Z,_,Z,p,J,r,m,Z,Ak.of (u _ _ p0),u.tup d,.inr ⟨_,Z,?_⟩⟩;have c:(if decide (comm r m=1)=true then (1:Int) else 0)=if comm r m=0 then 0 else 1:=by
   have:comm r m<2:=Fq _ (by decide);rcases (by omega:comm r m=0\/comm r m=1) with e | e<;>rw[e]<;>rfl
  rw[c];refine q _ _ Y ⟨Ec u b,Aj,?_⟩;rw[Ga,ea,G7,CJ];rfl
 rintro ys T a0 ⟨z,O,rfl⟩;rw[g,show ms.length=(ans ms m).length by unfold ans;rw[Ax],G6]at O;refine⟨acc,_,Z,.inl ⟨Ag.of O,λr s=>?_⟩⟩;have s1:=Aw s (.tup ((ans ms m).map V.int));have L:upd T r (.tup ((ans ms m).map V.int)) r=some (.tup ((ans ms m).map V.int)):=Aj;generalize upd T r (.tup ((ans ms m).map V.int))=H1 at s1 L ⊢;have o:=z.trans s1;refine⟨_,Z,_,Z,l,J,ps,ms,m,Z,o.seq C,t.same o,Jy,o.tup d,λy H2 _ D c=>?_⟩;refine⟨_,Z,y,_,_,true,Z,Ak.of c,QZ K,_,Z,Ar ⟨_,Z,_,Z,y,r,ans ms m,ans ms m,Z,Z,Ak.of c,Ak.of (D _ _ L),_,Z,?_⟩⟩;show if (!decide (ans ms m=ans ms m))=true then _ else _;rw[DK rfl];refine Ar ⟨_,Z,y,Z,⟨_,Ak.of c⟩,λI f=>?_⟩;refine gb (K:=K) (ns:=ans ms m) (λ_=>V.bl true) (Ak.of c) (by rw[show (ans ms m).length=ms.length by unfold ans;rw[Ax]];exact Ce (by omega)) f (λn H N S q=>⟨_,Z,n,Z,q⟩) (λW M c3=>?_);refine⟨I,(ans ms m).map λ_=>true,Z,Ag.of (by rw[Gk];exact c3),_,Z,?_⟩;rw[qz];exact Ar ⟨_,Z,kq r W (o.trans (D.trans M)) ((D.trans M) _ _ L)⟩
end
end Av
namespace L2
section
variable {X:Cx}
abbrev J7 (K:U0)(H:Hp):List Addr->List (List Int)->Prop:=Paired λp m=>Ak K H p (m.map V.int)
theorem oV(ms ns:U6):PyData.eqv (.tuple (ms.map PyData.int)) (.tuple (ns.map PyData.int))=decide (ms=ns):=by
 rw[<-SeqAt.same_eq_eqv _ _ (by simp only[SeqAt.noMix];exact Vo ms ns)];simp only[PySem.Spec.same];exact Vk ms ns
theorem gA(ns:U6):PyData.canLay0 (.tuple (ns.map PyData.int))=true:=by simp only[PyData.canLay0];exact Yo ns
theorem yZ(ns:U6):PyData.depth (.tuple (ns.map PyData.int))<=8:=by
 have h1:=Ye ns;simp only[PyData.depth];omega
noncomputable def eqT (s:U7) (ns:U6) (u:W3):Bool:=PyData.eqv (SeqAt.readOf s.heap u) (.tuple (ns.map PyData.int))
theorem XC{s:U7}{a:Y3}{vs:U5}{ms ns:U6}(p:IsTup s.heap a vs.toArray)(rv:Vals (ms.map V.int) vs):eqT s ns (.ref a)=decide (ms=ns):=by
 unfold eqT;rw[SeqAt.readOf_eq (gA ms) (Mv p (JC rv)),oV]
def X1x (K:U0):R2:=λx y H Q=>∃(a l:Y3) (ns:U6) (ps:U3) (ms:List (List Int)),x=.ref a/\y=.ref l/\Ak K H a (ns.map V.int)/\Ag K H l (ps.map V.ref)/\J7 K H ps ms/\ns∈ms/\Q (.bl false) H
theorem fX:∀{ps:U3}{us:U5},Vals (ps.map V.ref) us->us=ps.map Value.ref
 | [],_,.nil=>rfl
 | p::ps,_,.cons r t=>by cases r;rw[fX t];rfl
theorem gQ{K:U0}{H:Hp}:∀{ps:U3}{ms:List (List Int)}{p:Y3},J7 K H ps ms->p∈ps->∃m:List Int,Ak K H p (m.map V.int)
 | _,_,_,.nil,h=>nomatch h
 | _::_,_::_,p,.cons e r,h=>by
  rcases Cz.mp h with rfl | h
  ·exact⟨_,e⟩
  ·exact gQ r h
theorem Wy{K:U0}{H:Hp}:∀{ps:U3}{ms:List (List Int)}{j:Nat}{m:U6},J7 K H ps ms->ms[j]?=some m->∃p,ps[j]?=some p/\Ak K H p (m.map V.int)
 | _,_,_,_,.nil,h=>by cases h
 | p::_,m::_,0,_,.cons e r,h=>by cases h;exact⟨p,rfl,e⟩
 | _::ps,_::ms,j+1,m,.cons e r,h=>Wy (ps:=ps) (ms:=ms) (j:=j) (m:=m) r h
theorem rG{pins:U1}{s:U7}{σ:St}{H:Hp}{A:Y0}{a p:Y3}{ns ms:U6}(I:Inv X pins σ H s)(ha:Ak X.K H a (ns.map V.int))(hp:Ak X.K H p (ms.map V.int))(hu:A.units+8<cLine):SeqAt.EqAt A s (.ref p) (.ref a) (eqT s ns (.ref p)):=by
 obtain⟨its,c,q,_⟩:=I.tuple hp;obtain⟨its',b,d,_⟩:=I.tuple ha;rw[XC q c,<-oV];refine SeqAt.eqAt_reads _ _ A s _ _ _ _ (Mv q (JC c)) (Mv d (JC b)) (gA _) (gA _) ?_;have:=yZ ms;omega
theorem j_(hu:X.A.units+64<cLine):Cu X (compareOp .NotIn) (X1x X.K):=by
 intro pins s σ H x y v u Q I n f h;obtain⟨a,l,ns,ps,ms,rfl,rfl,k,o,d,b,q⟩:=h;cases n;cases f;obtain⟨its,r,e,hz⟩:=I.list o;obtain rfl:=fX r;refine SeqAt.notIn_listAt (eqT s ns) e.isList (λw c=>?_) ⟨.bl _,H,I,Z,?_⟩
 ·have c:w∈ps.map Value.ref:=by simpa using c
  obtain⟨p,hp,rfl⟩:=DY.mp c;obtain⟨m,b⟩:=gQ d hp;refine rG I k b ?_;show X.A.units+1+8<cLine;omega
 ·obtain⟨j,g⟩:=Ny.mp b;obtain⟨p,hp,tp⟩:=Wy d g;have:(ps.map Value.ref).toArray.any (eqT s ns)=true:=by
   rw[List.any_toArray,R7];refine⟨.ref p,DY.mpr ⟨p,Dz hp,Z⟩,?_⟩;obtain⟨its,i,qq,_⟩:=I.tuple tp;rw[XC qq i,DK rfl]
  rw[this];exact q
def X1z (K:U0):V->List V->Hp->VK->Prop:=λx ys H Q=>∃(l a:Y3) (ns:U6) (ps:U3) (ms:List (List Int)) (j:Nat),x=.ref l/\ys=[.ref a]/\Ak K H a (ns.map V.int)/\Ag K H l (ps.map V.ref)/\J7 K H ps ms/\ms[j]?=some ns/\(∀i,i<j->ms[i]?≠some ns)/\j<1000000/\Q (.int ((j:Nat):Int)) H
theorem xu(hu:X.A.units+64<cLine):Qt X "list.index" (X1z X.K):=by
 intro pins s σ H x ys v us Q I N P h;obtain⟨l,a,ns,ps,ms,j,rfl,rfl,M,R,d,J,no,T,q⟩:=h;cases N;obtain⟨u,rfl,L⟩:=vals1 P;cases L;obtain⟨its,r,⟨o,n,B,t,S,b⟩,hz⟩:=I.list R;obtain rfl:=fX r;obtain⟨p,hp,tp⟩:=Wy d J;have D:j<(ps.map Value.ref).length:=by rw[Ax];exact(Cv.mp hp).1
 obtain⟨cls,y,O,E⟩:=o;have t:cls=.type "list":=t;have b:O=.seq (ps.map Value.ref).toArray n:=b;subst t b;refine Nj F.slot_list_index ⟨_,B,Z⟩ F.entry_list_index (F.args_list_index_2 _ _) (SeqAt.list_indexAt l (ps.map Value.ref).toArray n y E _ (eqT s ns) j (by simpa using D) (by omega) ?_ (λm c lt=>?_)) ⟨B,λw g=>?_,⟨.int j,H,I.tok _,⟨_,Z⟩,q⟩⟩
 ·have e:(ps.map Value.ref).toArray[j]'(by simpa using D)=.ref p:=by
   have:=(Cv.mp hp).2;simp[this]
  rw[e];obtain⟨its,i,qq,_⟩:=I.tuple tp;rw[XC qq i,DK rfl]
 ·have G:m<ps.length:=by simpa using c
  have C:m<ms.length:=by rw[<-Paired.length d];exact G
  obtain⟨p',k,f⟩:=Wy d (Bm C);have e:(ps.map Value.ref).toArray[m]'c=.ref p':=by
   have:=(Cv.mp k).2;simp[this]
  rw[e];obtain⟨its,i,qq,_⟩:=I.tuple f;rw[XC qq i];exact Df λz=>no m lt (by rw[Bm C,z])
 ·have g:w∈ps.map Value.ref:=by simpa using g
  obtain⟨p,hp,rfl⟩:=DY.mp g;obtain⟨m,c⟩:=gQ d hp;refine rG I M c ?_;show X.A.units+1+8<cLine;omega
end
end L2
namespace Av
open L2 Pc Dv Ez Fy
open GJ (Sp Red Lo vv cl)
noncomputable abbrev gz (us:List Mk)(j:Nat):Mk:=us.getD j (0,0,0)
noncomputable def Jd (K:U0):L2.Sp:=λvs H Q _=>∃(t ld l lb p q:Y3) (ds ps:U3) (us ms:List Mk) (bs:W7) (j i:Nat),vs=[.ref t,.ref ld,.ref l,.ref lb]/\Ak K H t [.ref p,.ref q]/\H ld=some (.lst (ds.map V.ref))/\CW H ds us/\us.length<=19/\Ag K H l (ps.map V.ref)/\CW H ps ms/\ms.length<=12/\Ag K H lb (bs.map nI)/\Red bs/\(∀b∈bs,Sp (ms.map vm) b)/\(∀r∈ms,r.2.1<64)/\(∀u∈us,u.2.1<64/\u.2.2<64) /\
 Ak K H p (L3 (gz us j))/\Ak K H q (L3 (gz us i))/\j<us.length/\i<us.length/\ans ms (gz us j)=ans ms (gz us i)/\Apart ms (mul (gz us j) (gz us i))/\∀H',Same H H'->Q (.bl true) H'
noncomputable abbrev I3 (m:Mk):List Int:=[(m.1:Int),(m.2.1:Int),(m.2.2:Int)]
theorem X7e{m m':Mk}(h:I3 m=I3 m'):m=m':=QG ((qJ (m:=m) (m':=m')) ▸ DK h)
theorem XF{K:U0}{H:Hp}:∀{ps:U3}{ms:List Mk},CW H ps ms->J7 K H ps (ms.map I3)
 | [],[],.nil=>.nil
 | _::_,_::_,.cons e r=>.cons (Ak.of e) (XF r)
theorem Mi{us:List Mk}{j:Nat}(h:j<us.length):gz us j∈us:=by
 rw[show gz us j=us[j] by unfold gz;rw[Bb,Bm h];rfl];exact G5 h
theorem oW{α:Type}[DecidableEq α]{a:α}:∀{l:List α},a∈l->∃j,l[j]?=some a/\(∀i,i<j->l[i]?≠some a)/\j<l.length
 | b::l,h=>by
  by_cases c:b=a
  ·exact⟨0,by rw[c];rfl,λi hi=>absurd hi (Vf _),aq _⟩
  ·rcases Cz.mp h with h | h
   ·exact absurd h.symm c
   ·obtain⟨j,h1,h2,d⟩:=oW h;refine⟨j+1,h1,λi hi=>?_,Nat.succ_lt_succ d⟩;cases i with
    | zero=>intro z;exact c (Option.some.inj z)
    | succ i=>exact h2 i (jH hi)
theorem HS{H:Hp}:∀{ps:U3}{ms:List Mk}{j:Nat}{m:Mk},CW H ps ms->ms[j]?=some m->∃p,ps[j]?=some p/\H p=some (T3 m)
 | _,_,_,_,.nil,h=>by cases h
 | p::_,m::_,0,_,.cons e r,h=>by cases h;exact⟨p,rfl,e⟩
 | _::ps,_::ms,j+1,m,.cons e r,h=>HS (ps:=ps) (ms:=ms) (j:=j) (m:=m) r h
section
variable {P:U8}{w:W1}{K:U0}{mg:U4}{base:Heap}{k:Nat}{h:Heap}
theorem yx(F:Ab K "_law_wrongs" (top 54) .none)(X:K.In h)(G:Ng h mg)(B:Bs mg):Ao P w K mg base (k+1) "_law_wrongs" ["_law_cells","_law_where"] (Lr K):=by
 refine F.cal X G ["_law_cells","_law_where","_law_due","_law_cell"] λy H vs Q E hr h=>?_;obtain⟨wv,N,s,rfl,N6,⟨hw,wN,w6⟩,kq⟩:=h
 refine⟨_,(@Cp _ _ _ _ _ (Bq (Bx Ml (pv 1) Gv (Ac _))
   (@Al _ _ _ (@BW _ _ 1 _ _ _ _ y rfl (Or.inl rfl) (fu rfl rfl B.range rfl B.list (Aa (pv 0) Ad)) rfl (.inl rfl)))
   Bw)
  (@Az _ _ _ _ _ (@BW _ _ 2 _ _ _ _ y rfl (Or.inl rfl) (@Ho _ _ _ _ (Aa (@Cr _ _ _ _ _ (Aa Ae (Aa Ae (Aa Ae Ad)))) Ad)) rfl (.inl rfl))
  (@Az _ _ _ _ _ (Io PassesOwn.never rfl (Ew (pv 1)) (CP (i:=3) y rfl (Or.inl rfl))
   (@Al _ _ _ (@BW _ _ 2 _ _ _ _ y rfl (Or.inl rfl) (Ah XH (pv 2) (@Ho _ _ _ _ (Aa (@Cr _ _ _ _ _ (Aa Ae (Aa (Ah Ge Ae (pv 3)) (Aa Ae Ad)))) (Aa (@Cr _ _ _ _ _ (Aa Ae (Aa Ae (Aa (Ah Ge Ae (pv 3)) Ad)))) (Aa (@Cr _ _ _ _ _ (Aa Ae (Aa (Ah Ge Ae (pv 3)) (Aa (Ah Ge Ae (pv 3)) Ad)))) Ad))))) rfl (.inl rfl))))
  (@Al _ _ _ (BL (pv 2)))))),?_⟩
 try dsimp only[Cm]
 refine⟨λσ H'=>Same H H'/\∃l:Addr,H' l=some (.lst (s.map λc=>V.int (c:Nat)))/\σ=[some (.int N),some (.ref l),none,none],?_,?_⟩
 ·rcases id hw with ⟨rfl,rfl⟩ | ⟨l,rfl,u⟩
  ·exact⟨_,Z,Z,_,Z,Cq ⟨_,Z,N,Z,by omega,λr C=>⟨Aw C _,r,Aj,Z⟩⟩⟩
  ·exact⟨_,Z,Z,_,Z,CQ (λz=>by cases z) (λ_=>⟨Same.refl _,l,u,Z⟩)⟩
 rintro σ H1 ⟨S1,l,u,rfl⟩;refine⟨t3,λj h0=>?_⟩;have s1:=Aw h0 (T3 (0,0,0));have e1:upd H1 j (T3 (0,0,0)) j=some (T3 (0,0,0)):=Aj;generalize upd H1 j (T3 (0,0,0))=H2 at s1 e1 ⊢;refine⟨Ce (show 1<=64 by decide),λl0 M=>?_⟩;have W:=Aw M (.lst [V.ref j]);have e2:upd H2 l0 (.lst [V.ref j]) l0=some (.lst [V.ref j]):=Aj;generalize upd H2 l0 (.lst [V.ref j])=H3 at W e2 ⊢;have n:=s1.trans W
 refine⟨_,Z,l,Z,⟨_,Ag.of (n _ _ u)⟩,Kd (K:=K) (a:=l) (xs:=s.map λc=>V.int (c:Nat)) (λi σ H'=>Same H3 H'/\∃(l2:Y3) (g:U3) (U:Option V),H' l2=some (.lst (g.map V.ref))/\CW H' g (wr (s.take i))/\σ=[some (.int N),some (.ref l),some (.ref l2),U])
  ⟨Same.refl _,l0,[j],none,e2,.cons (W _ _ e1) .nil,Z⟩ (λi σ H' _ e=>Ag.of ((n.trans e.1) _ _ u)) ?_ ?_⟩
 ·rintro i x σ v hx ⟨T,l2,g,U,R,o,rfl⟩;rw[Bo]at hx;obtain⟨c,S,rfl⟩:=D_.mp hx;have cN:=wN c (Dz S);have il:i<s.length:=(Cv.mp S).1;have I:(1:Int)*2^((c:Nat):Int).toNat=((2^c:Nat):Int):=ipow c;have t:JH 1 ((c:Nat):Int):=⟨1,Jc,by omega,by omega⟩;have D:=Paired.length o;rw[XS,Ft]at D;refine⟨_,Z,_,Z,_,_,Z,Z,t,t3,λf h1=>?_⟩;have s5:=Aw h1 (.tup [V.int 0,V.int ((1:Int)*2^((c:Nat):Int).toNat),V.int 0]);have e5:upd v f (.tup [V.int 0,V.int ((1:Int)*2^((c:Nat):Int).toNat),V.int 0]) f=some (T3 (0,2^c,0)):=by rw[Aj,I]<;>rfl
  generalize upd v f (.tup [V.int 0,V.int ((1:Int)*2^((c:Nat):Int).toNat),V.int 0])=H5 at s5 e5 ⊢;refine⟨_,Z,_,_,Z,Z,t,t3,λb h2=>?_⟩;have O:=Aw h2 (.tup [V.int 0,V.int 0,V.int ((1:Int)*2^((c:Nat):Int).toNat)]);have Y:upd H5 b (.tup [V.int 0,V.int 0,V.int ((1:Int)*2^((c:Nat):Int).toNat)]) b=some (T3 (0,0,2^c)):=by rw[Aj,I]<;>rfl
  generalize upd H5 b (.tup [V.int 0,V.int 0,V.int ((1:Int)*2^((c:Nat):Int).toNat)])=H6 at O Y ⊢;refine⟨_,Z,_,_,Z,Z,t,_,Z,_,_,Z,Z,t,t3,λd h3=>?_⟩;have A:=Aw h3 (.tup [V.int 1,V.int ((1:Int)*2^((c:Nat):Int).toNat),V.int ((1:Int)*2^((c:Nat):Int).toNat)]);have e7:upd H6 d (.tup [V.int 1,V.int ((1:Int)*2^((c:Nat):Int).toNat),V.int ((1:Int)*2^((c:Nat):Int).toNat)]) d=some (T3 (1,2^c,2^c)):=by rw[Aj,I]<;>rfl
  generalize upd H6 d (.tup [V.int 1,V.int ((1:Int)*2^((c:Nat):Int).toNat),V.int ((1:Int)*2^((c:Nat):Int).toNat)])=H7 at A e7 ⊢;refine⟨t3,λl3 L=>?_⟩;have p:=Aw L (.lst [V.ref f,V.ref b,V.ref d]);have e8:upd H7 l3 (.lst [V.ref f,V.ref b,V.ref d]) l3=some (.lst [V.ref f,V.ref b,V.ref d]):=Aj;generalize upd H7 l3 (.lst [V.ref f,V.ref b,V.ref d])=H8 at p e8 ⊢;have m:=((s5.trans O).trans A).trans p;refine⟨l2,l3,_,_,Z,Z,m _ _ R,e8,by rw[Ax];exact Ce (show g.length+3<=64 by omega),λl4 J=>?_⟩;have q:=Aw J (.lst (g.map V.ref++[V.ref f,V.ref b,V.ref d]));refine⟨T.trans (m.trans q),l4,g++[f,b,d],_,by rw[Aj,CJ];rfl,?_,Z⟩;rw[Ga,S,G7,oF];exact Gq (o.same (m.trans q)) (.cons ((O.trans (A.trans (p.trans q))) _ _ e5) (.cons ((A.trans (p.trans q)) _ _ Y) (.cons ((p.trans q) _ _ e7) .nil)))
 ·rintro σ v ⟨T,l2,g,U,R,o,rfl⟩;rw[Ax,G6]at o;exact⟨_,Z,kq l2 g v ((S1.trans n).trans T) R o⟩
theorem X2p(F:Ab K "_law_pair" (top 59) .none)(X:K.In h)(G:Ng h mg)(B:Bs mg)(cF:Ao P w K mg base k "_law_is_mark" ["_law_found","_law_due"] (Gh K))(c9:Ao P w K mg base k "_law_answered" ["_law_rows","_law_mark"] (Gi K))(c7:Ao P w K mg base k "_law_left_over" ["_law_mark","_law_basis_here"] (FP K))(cU:Ao P w K mg base k "_law_with" ["_law_one","_law_other"] (Hr K)):Ao P w K mg base (k+1) "_law_pair" ["_law_pair_here","_law_due","_law_rows","_law_basis_here"] (Jd K):=by
 refine F.cal X G ["_law_pair_here","_law_due","_law_rows","_law_basis_here","_law_one","_law_key"] λnd H vs Q E g h=>?_;obtain⟨t,v,l,lb,p,q,ds,ps,us,ms,bs,j,i,rfl,o,V,J,a0,hl,hm,C,hb,R,sb,m6,u6,hp,D,S,U,ae,ap,kq⟩:=h
 refine⟨_,(@Az _ _ _ _ _ (Bq (PW.pt (Dq (Bx (j_ g.units) (BR Bk (pv 0) Ae (λ_ _=>rfl)) (pv 1) rfl) (Gw (Bx (j_ g.units) (BR Bk (pv 0) Ae (λ_ _=>rfl)) (pv 1) rfl))))
   (@Al _ _ _ (BL EY))
   Bw)
  (@Az _ _ _ _ _ (Io PassesOwn.never rfl (XQ (pv 0)) (CP (i:=4) nd rfl (Or.inl rfl))
   (@Al _ _ _ (Bq (Dl (CV (BJ cF g rfl (Aa (pv 4) (Aa (BR J3 (pv 1) (Mh Nz PySem.F.slot_list_index PySem.F.type_list_index (xu g.units) (pv 1) (Aa (pv 4) Ad)) (λ_ _=>rfl)) Ad)))))
    (@Al _ _ _ (BL EY))
    Bw)))
  (@Az _ _ _ _ _ (@BW _ _ 5 _ _ _ _ nd rfl (Or.inl rfl) (BJ c9 g rfl (Aa (pv 2) (Aa (BR Bk (pv 0) Ae (λ_ _=>rfl)) Ad))) rfl (.inl rfl))
  (@Az _ _ _ _ _ (Bq (PW.pt (Dq (Bx Ml (pv 5) Gv (Ac _)) (Gw (Bx (gj g.units) (BJ c9 g rfl (Aa (pv 2) (Aa (BR Bk (pv 0) Ae (λ_ _=>rfl)) Ad))) (pv 5) (Ac _)))))
   (@Al _ _ _ (BL EY))
   Bw)
  (@Al _ _ _ (BL (Hy Mg (BJ c7 g rfl (Aa (BJ cU g rfl (Aa (BR Bk (pv 0) Ae (λ_ _=>rfl)) (Aa (BR Bk (pv 0) Ae (λ_ _=>rfl)) Ad))) (Aa (pv 3) Ad))) Ae (Ac _)))))))),?_⟩
 try dsimp only[Cm]
 have mj:I3 (gz us j)∈us.map I3:=DY.mpr ⟨_,Mi S,Z⟩;have mi:I3 (gz us i)∈us.map I3:=DY.mpr ⟨_,Mi U,Z⟩;refine⟨_,Z,t,_,_,_,Z,Z,o,Z,_,Z,p,v,I3 (gz us j),ds,us.map I3,Z,Z,hp,Ag.of V,XF J,mj,_,Z,Ar ?_⟩;refine⟨_,Z,t,_,_,_,Z,Z,o,Z,_,Z,q,v,I3 (gz us i),ds,us.map I3,Z,Z,D,Ag.of V,XF J,mi,_,Z,Ar ?_⟩;refine⟨_,Z,t,Z,⟨_,o⟩,X3j (K:=K) (a:=t) (xs:=[.ref p,.ref q]) (λn σ H'=>Same H H'/\∃M,σ=[some (.ref t),some (.ref v),some (.ref l),some (.ref lb),M,none]) ⟨Same.refl _,_,Z⟩ (λn σ H' _ e=>e.1.tup o) ?_ ?_⟩
 ·rintro n x σ H1 hx ⟨d,M,rfl⟩;obtain⟨r,m,rfl,f,W⟩:∃(r:Y3) (m:Mk),x=.ref r/\Ak K H r (L3 m)/\m∈us:=by
   rcases n with _ | _ | n
   ·cases hx;exact⟨p,_,Z,hp,Mi S⟩
   ·cases hx;exact⟨q,_,Z,D,Mi U⟩
   ·cases hx
  obtain⟨a,ha,no,al⟩:=oW W;have f:=d.tup f;have u:=J.same d;have s:=d _ _ V;obtain⟨y,T,tp⟩:∃y,ds[a]?=some y/\H1 y=some (T3 m):=by
   exact HS u ha
  have O:∀i,i<a->(us.map I3)[i]?≠some (I3 m):=λi hi z=>by
   rw[Bo]at z;obtain⟨m',h1,h2⟩:=D_.mp z;exact no i hi (by rw[h1,X7e h2])
  refine⟨_,Z,_,Z,_,Z,.inl ⟨Z,_,Ag.of s⟩,_,Z,v,r,I3 m,ds,us.map I3,a,Z,Z,f,Ag.of s,XF u,(by rw[Bo,ha];rfl),O,(by omega),?_⟩;refine⟨v,_,_,.ref y,Z,Z,Ag.of s,JX (by rw[Bo,T];rfl),?_⟩;refine⟨r,y,m,m,Z,f,Ak.of tp,λH2 N=>?_⟩;rw[DK rfl];exact⟨_,Z,Ar ⟨d.trans N,_,Z⟩⟩
 ·rintro σ H1 ⟨d,M,rfl⟩;have I:=d.tup o;refine⟨_,Z,_,Z,t,_,_,_,Z,Z,I,Z,l,p,ps,ms,gz us j,Z,d.seq hl,hm.same d,C,d.tup hp,λra H2 N ea=>?_⟩;have c:=d.trans N;have Y:=c.tup o;refine⟨_,Z,Z,_,Z,Ar ?_⟩;refine⟨_,Z,_,Z,t,_,_,_,Z,Z,Y,Z,l,q,ps,ms,gz us i,Z,c.seq hl,hm.same c,C,c.tup D,λrb H3 S3 eb=>?_⟩;have b:=c.trans S3;have A:=b.tup o;refine⟨_,Z,rb,ra,ans ms (gz us i),ans ms (gz us j),Z,Z,Ak.of eb,Ak.of (S3 _ _ ea),_,Z,?_⟩;show if (!decide (ans ms (gz us i)=ans ms (gz us j)))=true then _ else _;rw[DK ae.symm];refine Ar ⟨_,Z,t,_,_,_,Z,Z,A,Z,_,Z,t,_,_,_,Z,Z,A,Z,p,q,gz us j,gz us i,Z,b.tup hp,b.tup D,λrw H4 S4 ew=>?_⟩;have uj:=u6 _ (Mi S);have ui:=u6 _ (Mi U);refine⟨_,Z,rw,lb,_,bs,Z,Ak.of ew,(b.trans S4).seq hb,Ih (n:=6) uj.2 ui.2,R,λx L=>?_⟩;have x0:=vI (m:=mul (gz us j) (gz us i)) m6 (Ih (n:=6) uj.1 ui.1) sb ap L;refine⟨_,_,Z,Z,?_⟩;show Q (.bl (decide (((x:Nat):Int)>0))) H4;rw[DK (by omega)];exact kq H4 (b.trans S4)
end
end Av
namespace L2
theorem wY{prog:U8}{w:W1}{d:Y3}(lo:(d == sysModules)=false):MeetsIn prog w (Builtin.«dict.__len__» ⟨[.ref d],[]⟩) (λ_ R s=>∃o es ep,s.heap.get? d=some o/\o.data=.dict es ep/\R (.ok (.ret (.int es.size s.toks))) {s with toks:=s.toks+1}):=
 .of_wp λA R s ⟨o,es,ep,b,a,h⟩=>by
  show wpAny _ _ (dictSize d >>= _) _ _ s;delta dictSize;exact Af (Af (QH b a (Aq (Af (wpAny_pendingCount_other lo (wpAny_ret_mkInt (by rw[Kv];exact h)))))))
theorem xO{X:Cx}:Bu X (.builtin "len") (λxs H Q=>∃(p:Y3) (kvs:List (List Key×V)),xs=[.ref p]/\H p=some (.dT kvs)/\Q (.int kvs.length) H):=by
 intro pins s σ H xs us Q I r h;obtain⟨p,kvs,rfl,hp,q⟩:=h;obtain⟨u,rfl,e⟩:=vals1 r;cases e;obtain⟨z,lo,vs,b,dd⟩:=Ws I.hok hp;have ty:=dd.typeIs;obtain⟨o,es,ep,c,g,a,d,_,_⟩:=dd;have sz:es.size=kvs.length:=by rw[<-HN,d,Ax,<-b.length]
 have f:kvs.length<2^63:=by rw[Nm]at z;omega
 refine Calls.call_function_entry kind_len plain_len entry_len (args_len1 _) ?_;delta Builtin.«len»;refine Af (m:=oneArg "len" _) (Aq (Af (m:=callSpecial? (.ref p) (Str.ofString "__len__")) (Yp (name:=Str.ofString "__len__") ty F.slot_dict_len (call_meetsIn F.slot_dict_len ty F.entry_dict_len (F.args_dict_len_1 _) (wY lo) ⟨o,es,ep,c,a,?_⟩))));rw[sz];refine Af (G4 (Aq (Af (wpAny_letGo ?_))));show wpAny _ _ (if ((kvs.length:Nat):Int)<0 then _ else if ((kvs.length:Nat):Int)>=2^63 then _ else _) _ _ _;rw[if_neg (by omega),if_neg (by omega)];exact Af (wpAny_mkInt (Aq ⟨_,Z,.int kvs.length,H,(I.tok _).tok _,⟨_,Z⟩,q⟩))
end L2
namespace Av
open L2 Pc Dv Ez Fy
open GJ (Sp Red Lo vv cl)
theorem X3h(ms ws:List Mk)(i:Nat):∀e∈Bp ms ws i,e∈Bp ms ws (i+1):=λe h=>by
 unfold Bp;cases c:(Bp ms ws i).find? λe=>decide (e.1=ans ms (ws.getD i (0,0,0))) with
 | some e'=>rw[Qj c];exact h
 | none=>rw[Qi c];exact JQ _ h
theorem eF(ms ws:List Mk)(i:Nat):∀n,∀e∈Bp ms ws i,e∈Bp ms ws (i+n)
 | 0,e,h=>h
 | n+1,e,h=>X3h ms ws (i+n) e (eF ms ws i n e h)
theorem WQ(ms ws:List Mk):∀i,(Bp ms ws i).Pairwise λa b=>a.1≠b.1
 | 0=>.nil
 | i+1=>by
  have d:=WQ ms ws i;unfold Bp;cases c:(Bp ms ws i).find? λe=>decide (e.1=ans ms (ws.getD i (0,0,0))) with
  | some e'=>rw[Qj c];exact d
  | none =>
   rw[Qi c,Yb];refine⟨d,Ym _ _,λa f b g=>?_⟩;rw[Dg.mp g];have:=List.find?_eq_none.mp c a f;simpa using this
theorem fD{l:List (List Int×Nat)}(h:l.Pairwise λa b=>a.1≠b.1):∀{a b},a∈l->b∈l->a.1=b.1->a=b:=by
 induction h with
 | nil=>intro a b c;cases c
 | cons x _ ih =>
  intro a b c d e;rcases Cz.mp c with q | q<;>rcases Cz.mp d with q' | q'
  ·rw[q,q']
  ·exact absurd e (by rw[q];exact x b q')
  ·exact absurd e.symm (by rw[q'];exact x a q)
  ·exact ih q q' e
theorem xG{g:List Int×Nat->V}:∀{t:List (List Int×Nat)}{e:List Int×Nat},t.Pairwise (λa b=>a.1≠b.1)->e∈t->Bl (t.map λe=>(kb e.1,g e)) (kb e.1)=some (g e):=λ{t e} h m=>by
 rw[Qh];cases c:t.find? λx=>decide (x.1=e.1) with
 | none=>have:=List.find?_eq_none.mp c e m;simp at this
 | some x =>
  obtain⟨f,d⟩:=dw c;rw[fD h f m d];rfl
noncomputable def pK (K:U0):L2.Sp:=λvs H Q _=>∃(r ld l lb:Y3) (ds ps:U3) (us ms:List Mk) (bs:W7),vs=[.ref r,.ref ld,.ref l,.ref lb]/\Fj K H r ms us/\H ld=some (.lst (ds.map V.ref))/\CW H ds us/\us.length<=19/\Ag K H l (ps.map V.ref)/\CW H ps ms/\ms.length<=12/\Ag K H lb (bs.map nI)/\Red bs/\(∀r∈ms,r.2.1<64/\Sp bs (vm r))/\(∀u∈us,u.2.1<64/\u.2.2<64)/\∀H',Same H H'->Q (.bl true) H'
theorem uI{us:List Mk}{i:Nat}{u:Mk}(h:us[i]?=some u):gz us i=u:=by unfold gz;rw[Bb,h];rfl
section
variable {P:U8}{w:W1}{K:U0}{mg:U4}{base:Heap}{k:Nat}{h:Heap}
theorem yF(F:Ab K "_law_mends" (top 60) .none)(X:K.In h)(G:Ng h mg)(B:Bs mg)(cJ:Ao P w K mg base k "_law_whole" ["_law_found"] Qg)(cF:Ao P w K mg base k "_law_is_mark" ["_law_found","_law_due"] (Gh K))(c9:Ao P w K mg base k "_law_answered" ["_law_rows","_law_mark"] (Gi K))(c7:Ao P w K mg base k "_law_left_over" ["_law_mark","_law_basis_here"] (FP K))(cU:Ao P w K mg base k "_law_with" ["_law_one","_law_other"] (Hr K)):Ao P w K mg base (k+1) "_law_mends" ["_law_told_here","_law_due","_law_rows","_law_basis_here"] (pK K):=by
 refine F.cal X G ["_law_told_here","_law_due","_law_rows","_law_basis_here","_law_first","_law_wrong","_law_key","_law_k","_law_one"] λnd H vs Q E Y h=>?_;obtain⟨r,ld,l,lb,ds,ps,us,ms,bs,rfl,⟨⟨as,qs,ts,a6,mq,pt,pw,pr⟩,al⟩,b4,md,e0,hl,hm,d8,hb,R,m6,u6,kq⟩:=h;have b1:=Paired.length md
 refine⟨_,(@Az _ _ _ _ _ (@BW _ _ 4 _ _ _ _ nd rfl (Or.inl rfl) pB rfl (.inl rfl))
  (@Az _ _ _ _ _ (Io PassesOwn.never rfl (Ew (pv 1)) (CP (i:=5) nd rfl (Or.inl rfl))
   (@Az _ _ _ _ _ (@BW _ _ 6 _ _ _ _ nd rfl (Or.inl rfl) (BJ c9 Y rfl (Aa (pv 2) (Aa (pv 5) Ad))) rfl (.inl rfl))
   (@Az _ _ _ _ _ (Bq (Bx Ml (pv 6) Gv (Ac _))
    (@Al _ _ _ (BL EY))
    Bw)
   (@Al _ _ _ (Bq (Bx Mg (BJ c7 Y rfl (Aa (BJ cU Y rfl (Aa (nR (PN Y) (pv 4) (pv 6) (pv 5) ⟨Z,Z,Z,Z⟩) (Aa (pv 5) Ad))) (Aa (pv 3) Ad))) Ae (Ac _))
    (@Al _ _ _ (BL EY))
    Bw)))))
  (@Az _ _ _ _ _ (Bq (PW.pt (Dq (Dl (CV (Bc Ja rfl B.isinstance Ea (Aa (pv 0) (Aa (HX (v:=.ty "list") rfl B.list Kr rfl) Ad))))) (Gw (Bx KZ (Bc G8 rfl B.len Gm (Aa (pv 0) Ad)) (Bc xO rfl B.len Gm (Aa (pv 4) Ad)) (Ac _)))))
   (@Al _ _ _ (BL EY))
   Bw)
  (@Az _ _ _ _ _ (Io PassesOwn.never rfl (Qf rfl B.enumerate (Aa (Bc (uY rfl) rfl B.sorted V4 (Aa (pv 4) Ad)) Ad)) (@O2 _ _ _ _ _ _ rfl (@H_ _ _ _ _ _ (@CP _ _ 7 _ nd rfl (Or.inl rfl) (by first | exact .inl rfl | exact .inr rfl)) (@H_ _ _ _ _ _ (@CP _ _ 6 _ nd rfl (Or.inl rfl) (by first | exact .inl rfl | exact .inr rfl)) O7 rfl) rfl) rfl rfl)
   (@Az _ _ _ _ _ (@BW _ _ 8 _ _ _ _ nd rfl (Or.inl rfl) (BR J3 (pv 0) (pv 7) (λ_ _=>rfl)) rfl (.inl rfl))
   (@Az _ _ _ _ _ (Bq (PW.pt (Dq (Dl (CV (Bc Wi rfl B.isinstance Ea (Aa (pv 8) (Aa (HX (v:=.ty "tuple") rfl B.tuple Ni rfl) Ad))))) (Dq (Bx KZ (Bc G8 rfl B.len Gm (Aa (pv 8) Ad)) Ae (Ac _)) (Dq (Dl (CV (Bc Wi rfl B.isinstance Ea (Aa (BR Bk (pv 8) Ae (λ_ _=>rfl)) (Aa (HX (v:=.ty "tuple") rfl B.tuple Ni rfl) Ad))))) (Gw (Bx (gj Y.units) (BR Bk (pv 8) Ae (λ_ _=>rfl)) (pv 6) (Ac _)))))))
    (@Al _ _ _ (BL EY))
    Bw)
   (@Al _ _ _ (Bq (PW.pt (Dq (Dl (CV (Bc (J5 rfl) rfl B.all Jq (Aa (GF rfl (BX.of (Nc:=["_law_part"]) (mp:=[none]) (by kernel_rfl)) (XQ (BR Bk (pv 8) Ae (λ_ _=>rfl))) (λ_ _ _ _=>(CP (i:=0) (show (["_law_part"]:W0).Nodup by decide +kernel) rfl (Or.inl rfl))) (λ_ _ _ _=>(BJ cJ Y rfl (Aa (pv 0) Ad)))) Ad)))) (Gw (Dl (CV (BJ cF Y rfl (Aa (BR Bk (pv 8) Ae (λ_ _=>rfl)) (Aa (gw (PN Y) (pv 4) (pv 6) (λ_ _=>rfl)) Ad))))))))
    (@Al _ _ _ (BL EY))
    Bw)))))
  (@Al _ _ _ (BL EY)))))),?_⟩
 try dsimp only[Cm]
 refine λd b5=>?_;have s1:=Aw b5 (.dT []);have e1:upd H d (.dT []) d=some (.dT []):=Aj;generalize upd H d (.dT [])=H1 at s1 e1 ⊢;refine⟨_,Z,ld,Z,⟨_,Ag.of (s1 _ _ b4)⟩,Kd (K:=K) (a:=ld) (xs:=ds.map V.ref) (λi σ H'=>Same H H'/\H' d=some (.dT ((Bp ms us i).map λe=>(kb e.1,V.ref (ds.getD e.2 0))))/\∃v5 v6,σ=[some (.ref r),some (.ref ld),some (.ref l),some (.ref lb),some (.ref d),v5,v6,none,none]) ⟨s1,e1,none,none,Z⟩ (λi σ H' _ e=>Ag.of (e.1 _ _ b4)) ?_ ?_⟩
 ·rintro i x σ H2 hx ⟨U,d2,v5,v6,rfl⟩;rw[Bo]at hx;obtain⟨p,hp,rfl⟩:=D_.mp hx;obtain⟨u,hu,tp⟩:=(md.same U).get hp;have il:i<us.length:=(Cv.mp hu).1;have eu:us.getD i (0,0,0)=u:=uI hu;have ep:ds.getD i 0=p:=by rw[Bb,hp];rfl
  refine⟨_,Z,_,Z,l,p,ps,ms,u,Z,U.seq hl,hm.same U,d8,Ak.of tp,λra I S3 ea=>?_⟩;have a8:=U.trans S3;have d3:=S3 _ _ d2;have len:=Ub ms us i;refine⟨_,Z,Z,_,Z,Ar ?_⟩;refine⟨_,Z,d,Z,.inr ⟨_,.inl d3⟩,_,Z,_,Z,_,kb (ans ms u),ra,d3,Z,by rw[Wu];exact ea,by rw[Ax];exact Q9 (by omega),?_⟩;rw[Qh];have ef:Bp ms us (i+1)=Gp (Bp ms us i) (ans ms u) i:=by show Gp _ (ans ms (us.getD i (0,0,0))) i=_;rw[eu]
  refine⟨λy hy=>?_,λhn=>?_⟩
  ·obtain⟨e,c,rfl⟩:=D_.mp hy;obtain⟨D,ke⟩:=dw c;obtain⟨lt,ae⟩:=Qe ms us i e D;rw[Qj c]at ef;have W:∃j,Same H I/\ds.getD e.2 0=ds.getD j 0/\j<us.length/\(ans ms u,j)∈Bp ms us (i+1)/\I d=some (.dT ((Bp ms us (i+1)).map λe=>(kb e.1,V.ref (ds.getD e.2 0)))):=⟨e.2,a8,Z,(by omega),by rw[ef,<-ke];exact D,by rw[ef];exact d3⟩;obtain⟨H6,a9⟩:∃H6,I=H6:=⟨_,Z⟩;obtain⟨p1,a'⟩:∃p1,ds.getD e.2 0=p1:=⟨_,Z⟩;rw[a',a9]at W;rw[a',a9];obtain⟨j,t,e1,jl,D,d6⟩:=W;have a5:us[j]?=some (gz us j):=by unfold gz;rw[Bb,Bm jl];rfl
   obtain⟨pj,a0,tj⟩:=HS (md.same t) a5;have e2:p1=pj:=by rw[e1,Bb,a0];rfl
   subst e2;obtain⟨q,a7,a3⟩:=(md.same t).get hp;have:q=u:=Option.some.inj (a7.symm.trans hu);subst this;refine⟨_,Z,p1,p,gz us j,q,Z,Ak.of tj,Ak.of a3,λrw H7 S7 ew=>?_⟩;have A:=t.trans S7;have uj:=u6 _ (Mi jl);have ui:=u6 q (Dz hu);refine⟨_,Z,rw,lb,_,bs,Z,Ak.of ew,A.seq hb,Ih (n:=6) uj.2 ui.2,R,λx L=>?_⟩;have x0:x=0:=by
    obtain⟨e,J,ke,C⟩:=al i il;have m':(ans ms q,j)∈Bp ms us us.length:=by
     have:=eF ms us (i+1) (us.length-(i+1)) _ D;rw[show i+1+(us.length-(i+1))=us.length by omega]at this;exact this
    have ee:e=(ans ms q,j):=fD (WQ ms us us.length) J m' (by rw[ke,eu]);rw[ee,eu]at C;exact j4 R L (show GJ.Sp bs (vm (mul (gz us j) q)) from qH m6 C)
   subst x0;refine⟨_,_,Z,Z,_,Z,Ar ⟨A,S7 _ _ d6,_,_,Z⟩⟩
  ·have c:((Bp ms us i).find? λe=>decide (e.1=ans ms u))=none:=by
    cases c:(Bp ms us i).find? λe=>decide (e.1=ans ms u) with
    | none=>rfl
    | some x=>rw[c]at hn;cases hn
   rw[Qi c]at ef;have vn:Bl ((Bp ms us i).map λe=>(kb e.1,V.ref (ds.getD e.2 0))) (kb (ans ms u))=none:=by rw[Qh,c];rfl
   rw[eZ _ vn];have sU:Same H (upd I d (.dT (((Bp ms us i).map λe=>(kb e.1,V.ref (ds.getD e.2 0)))++[(kb (ans ms u),V.ref p)]))):=Ec a8 b5;have eU:upd I d (.dT (((Bp ms us i).map λe=>(kb e.1,V.ref (ds.getD e.2 0)))++[(kb (ans ms u),V.ref p)])) d=some (.dT ((Bp ms us (i+1)).map λe=>(kb e.1,V.ref (ds.getD e.2 0)))):=by rw[Aj,ef,CJ,<-ep];rfl
   generalize upd I d (.dT (((Bp ms us i).map λe=>(kb e.1,V.ref (ds.getD e.2 0)))++[(kb (ans ms u),V.ref p)]))=H6 at sU eU ⊢;have W:∃j,Same H H6/\p=ds.getD j 0/\j<us.length/\(ans ms u,j)∈Bp ms us (i+1)/\H6 d=some (.dT ((Bp ms us (i+1)).map λe=>(kb e.1,V.ref (ds.getD e.2 0)))):=⟨i,sU,ep.symm,il,by rw[ef];exact Fw _ (Dg.mpr rfl),eU⟩;obtain⟨j,t,e1,jl,D,d6⟩:=W;have a5:us[j]?=some (gz us j):=by unfold gz;rw[Bb,Bm jl];rfl
   obtain⟨pj,a0,tj⟩:=HS (md.same t) a5;have e2:p=pj:=by rw[e1,Bb,a0];rfl
   subst e2;obtain⟨q,a7,a3⟩:=(md.same t).get hp;have:q=u:=Option.some.inj (a7.symm.trans hu);subst this;refine⟨_,Z,p,p,gz us j,q,Z,Ak.of tj,Ak.of a3,λrw H7 S7 ew=>?_⟩;have A:=t.trans S7;have uj:=u6 _ (Mi jl);have ui:=u6 q (Dz hu);refine⟨_,Z,rw,lb,_,bs,Z,Ak.of ew,A.seq hb,Ih (n:=6) uj.2 ui.2,R,λx L=>?_⟩;have x0:x=0:=by
    obtain⟨e,J,ke,C⟩:=al i il;have m':(ans ms q,j)∈Bp ms us us.length:=by
     have:=eF ms us (i+1) (us.length-(i+1)) _ D;rw[show i+1+(us.length-(i+1))=us.length by omega]at this;exact this
    have ee:e=(ans ms q,j):=fD (WQ ms us us.length) J m' (by rw[ke,eu]);rw[ee,eu]at C;exact j4 R L (show GJ.Sp bs (vm (mul (gz us j) q)) from qH m6 C)
   subst x0;refine⟨_,_,Z,Z,_,Z,Ar ⟨A,S7 _ _ d6,_,_,Z⟩⟩
 rintro σ H2 ⟨U,d2,v5,v6,rfl⟩;rw[Ax,b1]at d2;have d1:ts.length=(Bp ms us us.length).length:=pt.length_eq;have b0:as.length=ts.length:=Paired.length pr;have len:=Ub ms us us.length;refine⟨_,Z,_,_,_,true,Z,Bg.lst (U _ _ a6),XD K,_,Z,Ar ?_⟩;refine⟨_,Z,r,_,Z,.inl (Ag.of (U _ _ a6)),_,Z,d,_,Z,d2,Z,_,Z,K7 (λz=>absurd (by rw[Ax,Ax,b0,d1]) z) (λ_=>?_)⟩;refine⟨_,Z,d,_,(Bp ms us us.length).map (·.1),ms.length,Z,d2,by rw[Gk,Gk];rfl,by rw[Ax];omega,λkk hk=>?_,λls s b7 c2 pk d7 d9=>?_⟩
 ·obtain⟨e,J,rfl⟩:=DY.mp hk;exact d_ ms us _ e J
 have s3:=Aw c2 (.lst (s.map V.ref));have e3:upd H2 ls (.lst (s.map V.ref)) ls=some (.lst (s.map V.ref)):=Aj;generalize upd H2 ls (.lst (s.map V.ref))=I at s3 e3 ⊢;have ek:b7=ts.map (·.1):=pJ (z:=bv) (pk.trans (pt.map (·.1)).symm) d7 (Nv.mpr pw);subst ek;have O:Paired (λb (e:List Int×Nat)=>I b=some (.tup (e.1.map V.int))) s ts:=fP (F:=λb (k:U6)=>I b=some (.tup (k.map V.int))) (f:=λe:List Int×Nat=>e.1) (Paired.imp' (λ_ _ c=>s3 _ _ c) d9);have e4:=Paired.length O;have S3:=U.trans s3;refine⟨ls,_,Z,Ag.of e3,oX (K:=K) (a:=ls) (xs:=s.map V.ref) (λi σ H'=>Same I H'/\∃v6 v7 v8,σ=[some (.ref r),some (.ref ld),some (.ref l),some (.ref lb),some (.ref d),v5,v6,v7,v8]) ⟨Same.refl _,_,_,_,Z⟩ (λi σ H' _ e=>Ag.of (e.1 _ _ e3)) ?_ ?_⟩
 ·rintro i x σ H4 T hx ⟨S4,v6,v7,v8,rfl⟩ hT;rw[Bo]at hx;obtain⟨b,b9,rfl⟩:=D_.mp hx;have s5:=Aw hT (.tup [V.int i,V.ref b]);have e5:upd H4 T (.tup [V.int i,V.ref b]) T=some (.tup [V.int i,V.ref b]):=Aj;generalize upd H4 T (.tup [V.int i,V.ref b])=H5 at s5 e5 ⊢;have a1:=S4.trans s5;have SH:=S3.trans a1;obtain⟨e,J,tb⟩:=Jv O b9;have il:i<as.length:=by rw[b0];exact(Cv.mp J).1
  obtain⟨m,c8,b',ta,c'⟩:=Jv pr (Bm il);have:m=e:=Option.some.inj (c8.symm.trans J);subst this;generalize ha:as[i]=a at ta;have c0:(as.map V.ref)[i]?=some (.ref a):=by rw[Bo,Bm il,ha];rfl
  have D:m∈Bp ms us us.length:=pt.mem_iff.mp (Dz J);obtain⟨el,_⟩:=Qe ms us us.length m D;have c1:=SH _ _ a6;have o:=Ak.of (K:=K) (SH _ _ ta);have M:=Ak.of (K:=K) (SH _ _ c');have d0:=Ak.of (K:=K) (a1 _ _ tb);have b3:m.2<qs.length:=by rw[Ey.length mq];exact el
  obtain⟨um,b8,tq⟩:=(mq.same SH).get (Bm b3);have b6:m.2<ds.length:=by rw[b1];exact el
  obtain⟨a2,b2,d5⟩:=(md.same SH).get (Bm b6);have:a2=um:=Option.some.inj (b2.symm.trans b8);subst this;have gq:qs.getD m.2 0=qs[m.2]:=by rw[Bb,Bm b3];rfl
  have gd:ds.getD m.2 0=ds[m.2]:=by rw[Bb,Bm b6];rfl
  rw[gq]at o;have bt:=d_ ms us _ m D;have kl:m.1.length<=64:=by rw[bt.1];omega
  refine⟨T,_,Z,Ak.of e5,Z,_,_,Z,_,_,Z,Z,?_⟩;refine⟨_,Z,_,Z,r,_,_,_,Z,Z,Ag.of c1,JX c0,?_⟩;refine⟨_,Z,a,_,_,true,Z,o,QZ K,_,Z,Ar ⟨_,Z,a,_,Z,.inr o,Z,_,Z,K7 (λz=>absurd rfl z) (λ_=>?_)⟩⟩;refine⟨_,Z,a,_,_,_,Z,Z,o,Z,b',_,_,true,Z,M,QZ K,_,Z,Ar ⟨_,Z,a,_,_,_,Z,Z,o,Z,_,Z,b',b,m.1,m.1,Z,Z,M,d0,_,Z,?_⟩⟩;show if (!decide (m.1=m.1))=true then _ else _;rw[DK rfl];refine Ar ⟨_,Z,a,_,_,_,Z,Z,o,Z,b',Z,⟨_,M⟩,λac d4=>?_⟩;refine gb (K:=K) (ns:=m.1) (λ_=>V.bl true) M (Ce kl) d4 (λn H N S kN=>⟨_,Z,n,Z,kN⟩) (λH6 t c6=>?_);refine⟨ac,m.1.map λ_=>true,Z,Ag.of (by rw[Gk];exact c6),_,Z,?_⟩;rw[qz];have a4:=a1.trans t;have d6:=(s3.trans a4) _ _ d2;refine Ar ⟨_,Z,a,_,_,_,Z,Z,t.tup o,Z,_,Z,_,Z,d,V.ref ds[m.2],Z,.inr ⟨_,kb m.1,b,.inl d6,Z,by rw[Wu];exact a4 _ _ tb,?_⟩,?_⟩
  ·rw[xG (g:=λe=>V.ref (ds.getD e.2 0)) (WQ ms us us.length) D,gd]
  refine⟨qs[m.2],ds[m.2],a2,a2,Z,t.tup tq,Ak.of (t _ _ d5),λH7 S7=>?_⟩;rw[DK rfl];exact⟨_,Z,Ar ⟨a4.trans S7,_,_,_,Z⟩⟩
 ·rintro σ H4 ⟨S4,v6,v7,v8,rfl⟩;exact kq H4 (S3.trans S4)
end
end Av
namespace Av
open L2 Pc Dv Ez Fy
set_option genInjectivity false in
set_option genSizeOf false in
structure iY (K:U0) (mg:U4) (C:Y3) where
 kC:PySem.W.Ep K C
 kV:PySem.W.kitOne K (.ref C) (.type "ValueError")=some true
 mV:mg "ValueError"=none
 a_NoAmount:Addr
 mo_NoAmount:mg "NoAmount"=some (.ref a_NoAmount)
 kn_NoAmount:PySem.W.kitOne K (.ref C) (.ref a_NoAmount)=some false
 a_NoMark:Addr
 mo_NoMark:mg "NoMark"=some (.ref a_NoMark)
 kn_NoMark:PySem.W.kitOne K (.ref C) (.ref a_NoMark)=some false
 a_NoBoard:Addr
 mo_NoBoard:mg "NoBoard"=some (.ref a_NoBoard)
 kn_NoBoard:PySem.W.kitOne K (.ref C) (.ref a_NoBoard)=some false
 a_NoMove:Addr
 mo_NoMove:mg "NoMove"=some (.ref a_NoMove)
 kn_NoMove:PySem.W.kitOne K (.ref C) (.ref a_NoMove)=some false
 a_NoCell:Addr
 mo_NoCell:mg "NoCell"=some (.ref a_NoCell)
 kn_NoCell:PySem.W.kitOne K (.ref C) (.ref a_NoCell)=some false
 a_NeverSo:Addr
 mo_NeverSo:mg "NeverSo"=some (.ref a_NeverSo)
 kn_NeverSo:PySem.W.kitOne K (.ref C) (.ref a_NeverSo)=some false
 a_NoShare:Addr
 mo_NoShare:mg "NoShare"=some (.ref a_NoShare)
 kn_NoShare:PySem.W.kitOne K (.ref C) (.ref a_NoShare)=some false
 a_NoText:Addr
 mo_NoText:mg "NoText"=some (.ref a_NoText)
 kn_NoText:PySem.W.kitOne K (.ref C) (.ref a_NoText)=some false
 a_NotBorne:Addr
 mo_NotBorne:mg "NotBorne"=some (.ref a_NotBorne)
 kn_NotBorne:PySem.W.kitOne K (.ref C) (.ref a_NotBorne)=some false
noncomputable def Pk.oT {K:U0}{mg:U4}{CT CU D:Y3}{bT bU bD:U5}(x:Pk K mg CT CU D bT bU bD):iY K mg CT:=⟨x.kT,x.vT,x.mV,x.a_NoAmount,x.mo_NoAmount,x.kt_NoAmount,x.a_NoMark,x.mo_NoMark,x.kt_NoMark,x.a_NoBoard,x.mo_NoBoard,x.kt_NoBoard,x.a_NoMove,x.mo_NoMove,x.kt_NoMove,x.a_NoCell,x.mo_NoCell,x.kt_NoCell,x.a_NeverSo,x.mo_NeverSo,x.kt_NeverSo,x.a_NoShare,x.mo_NoShare,x.kt_NoShare,x.a_NoText,x.mo_NoText,x.kt_NoText,x.a_NotBorne,x.mo_NotBorne,x.kt_NotBorne⟩
noncomputable def Pk.oU {K:U0}{mg:U4}{CT CU D:Y3}{bT bU bD:U5}(x:Pk K mg CT CU D bT bU bD):iY K mg CU:=⟨x.kU,x.vU,x.mV,x.a_NoAmount,x.mo_NoAmount,x.ku_NoAmount,x.a_NoMark,x.mo_NoMark,x.ku_NoMark,x.a_NoBoard,x.mo_NoBoard,x.ku_NoBoard,x.a_NoMove,x.mo_NoMove,x.ku_NoMove,x.a_NoCell,x.mo_NoCell,x.ku_NoCell,x.a_NeverSo,x.mo_NeverSo,x.ku_NeverSo,x.a_NoShare,x.mo_NoShare,x.ku_NoShare,x.a_NoText,x.mo_NoText,x.ku_NoText,x.a_NotBorne,x.mo_NotBorne,x.ku_NotBorne⟩
def FQ (C:Y3)(g:Y3):Sp:=λvs H Q _=>∃di,vs=[.ref g]/\H g=some (Cd di g (.ref C))/\Dx H di/\Q (.bl false) H
def J8 (K:U0)(H':Hp)(p2:Y3)(ms us:List Mk):Prop:=∃(p q:Y3) (j i:Nat),H' p2=some (.tup [.ref p,.ref q])/\Ak K H' p (L3 (gz us j))/\Ak K H' q (L3 (gz us i))/\j<us.length/\i<us.length/\ans ms (gz us j)=ans ms (gz us i)/\Apart ms (mul (gz us j) (gz us i))
def Hs (K:U0):Sp:=λvs H Q _=>∃(v wv:V) (N:Nat) (by':Bool),vs=[v,.int N,wv,.bl by']/\1<=N/\N<=6/\((Fo K H N v/\∀(t:Y3) (H':Hp),Same H H'->H' t=some (.tup [.str "no",.non])->Q (.ref t) H')\/∃(l:Y3) (ps:U3) (ms:List Mk) (ws:W7),v=.ref l/\G9 N H l ps ms/\Ed K H wv N ws /\
 (∀(t r:Y3) (H':Hp),Same H H'->H' t=some (.tup [.str "told",.ref r])->Fj K H' r ms (wr ws)->Q (.ref t) H')/\(∀(t p2:Y3) (H':Hp),Same H H'->H' t=some (.tup [.str "pair",.ref p2])->J8 K H' p2 ms (wr ws)->Q (.ref t) H'))
theorem Fj.same{K:U0}{H H':Hp}{r:Y3}{ms us:List Mk}(t:Fj K H r ms us)(s:Same H H'):Fj K H' r ms us:=by
 obtain⟨⟨as,g,ts,a,b,c,d,e⟩,f⟩:=t;exact⟨⟨as,g,ts,s _ _ a,b.same s,c,d,Paired.imp' (λ_ _ ⟨b,x,y⟩=>⟨b,s _ _ x,s _ _ y⟩) e⟩,f⟩
section
variable {P:U8}{w:W1}{K:U0}{mg:U4}{base:Heap}{k:Nat}{h:Heap}{CT CU D:Y3}{bT bU bD:U5}
theorem nG{g C:Y3}(F:Ab K "_law_is_another" (top 55) .none)(X:K.In h)(G:Ng h mg)(B:Bs mg)(x:iY K mg C):GQ g P w K mg base (k+1) "_law_is_another" ["_law_e"] (FQ C g):=by
 refine F.calH X G ["_law_e"] λc H vs Q E b h=>?_;obtain⟨a,rfl,e,dx,q⟩:=h
 refine⟨_,(@Az _ _ _ _ _ (Bq (PW.pt (Dq (CV (Bc J6 rfl B.isinstance Ea (Aa (pv 0) (Aa (JW rfl x.mo_NoAmount) Ad)))) (Dq (CV (Bc J6 rfl B.isinstance Ea (Aa (pv 0) (Aa (JW rfl x.mo_NoMark) Ad)))) (Dq (CV (Bc J6 rfl B.isinstance Ea (Aa (pv 0) (Aa (JW rfl x.mo_NoBoard) Ad)))) (Gw (CV (Bc J6 rfl B.isinstance Ea (Aa (pv 0) (Aa (JW rfl x.mo_NoMove) Ad)))))))))
   (@Al _ _ _ (BL EY))
   Bw)
  (@Az _ _ _ _ _ (Bq (PW.pt (Dq (CV (Bc J6 rfl B.isinstance Ea (Aa (pv 0) (Aa (JW rfl x.mo_NoCell) Ad)))) (Dq (CV (Bc J6 rfl B.isinstance Ea (Aa (pv 0) (Aa (JW rfl x.mo_NeverSo) Ad)))) (Dq (CV (Bc J6 rfl B.isinstance Ea (Aa (pv 0) (Aa (JW rfl x.mo_NoShare) Ad)))) (Gw (CV (Bc J6 rfl B.isinstance Ea (Aa (pv 0) (Aa (JW rfl x.mo_NoText) Ad)))))))))
   (@Al _ _ _ (BL EY))
   Bw)
  (@Al _ _ _ (BL (X7k (Bc J6 rfl B.isinstance Ea (Aa (pv 0) (Aa (JW rfl x.mo_NotBorne) Ad))) (Mp (O1 (Bc J6 rfl B.isinstance Ea (Aa (pv 0) (Aa (HX (v:=.ty "ValueError") rfl x.mV X3s rfl) Ad)))))))))),?_⟩
 try dsimp only[Cm]
 refine⟨_,Z,g,a,C,_,_,false,Z,e,dx,x.kC,Z,x.kn_NoAmount,_,Z,Ar ⟨_,Z,g,a,C,_,_,false,Z,e,dx,x.kC,Z,x.kn_NoMark,_,Z,Ar ⟨_,Z,g,a,C,_,_,false,Z,e,dx,x.kC,Z,x.kn_NoBoard,_,Z,Ar ⟨_,Z,g,a,C,_,_,false,Z,e,dx,x.kC,Z,x.kn_NoMove,_,Z,Ar ?_⟩⟩⟩⟩;refine⟨_,Z,g,a,C,_,_,false,Z,e,dx,x.kC,Z,x.kn_NoCell,_,Z,Ar ⟨_,Z,g,a,C,_,_,false,Z,e,dx,x.kC,Z,x.kn_NeverSo,_,Z,Ar ⟨_,Z,g,a,C,_,_,false,Z,e,dx,x.kC,Z,x.kn_NoShare,_,Z,Ar ⟨_,Z,g,a,C,_,_,false,Z,e,dx,x.kC,Z,x.kn_NoText,_,Z,Ar ?_⟩⟩⟩⟩;exact⟨_,Z,g,a,C,_,_,false,Z,e,dx,x.kC,Z,x.kn_NotBorne,_,Z,Ar ⟨_,Z,g,a,C,_,_,true,Z,e,dx,x.kC,Z,x.kV,_,Z,q⟩⟩
theorem IW:Ay ["_law_rows","_law_cells","_law_where","_law_by","_law_e"] ["_law_rows","_law_cells","_law_where","_law_by"] (Br (top 56)):=fS
structure Lf (P:U8) (w:W1) (K:U0) (mg:U4) (base:Heap) (k:Nat):Prop where
 c:Ao P w K mg base k "_law_told" ["_law_rows","_law_cells","_law_where","_law_by"] (Hs K)
 d1:JF P w K mg base k "_law_told" ["_law_rows","_law_cells","_law_where","_law_by"] (Hs K) [.bl true]
theorem X2o{Dd:Y3}{oc:W3}{od:W9}{n:Nat}{sl:W8}(l0:K.lookup Dd=some ⟨oc,od,.seq #[.bool true] n,sl⟩)(F:Ab K "_law_told" (top 56) (.ref Dd))(X:K.In h)(G:Ng h mg)(B:Bs mg)(x:Pk K mg CT CU D bT bU bD)(na:Bj K CU "one")(nb:Bj K CU "other")
  (dJ:sY P w K mg base k CT CU) (dU:∀g,GQ g P w K mg base k "_law_is_another" ["_law_e"] (FQ CT g)) (dW:∀g,GQ g P w K mg base k "_law_is_another" ["_law_e"] (FQ CU g)):Lf P w K mg base (k+1):=by
 have nd:=IW.nd
 obtain⟨f,kV,a1,pm,an,cdv,ct,FO,M,m⟩:=F.all (P:=P) (w:=w) (base:=base) (k:=k) (sp:=Hs K) (ps:=["_law_rows","_law_cells","_law_where","_law_by"]) X G IW (λvs H Q E h=>by obtain⟨v,wv,N,b,rfl,_⟩:=h;rfl) (λf cdv A outer s H vs Q E hr h=>by
  obtain⟨v,wv,N,b,rfl,N1,N6,rest⟩:=h
  obtain⟨E0,S⟩:∃E0:Option Addr->Hp->Prop,E0=λU H'=>∃(dx:Y3) (ms:List Mk) (L:W7),U=some dx/\Same H H'/\Mw K H' dx ms (wr L)/\∀(t p2:Y3) (H3:Hp),Same H H3->H3 t=some (.tup [.str "pair",.ref p2])->J8 K H3 p2 ms (wr L)->Q (.ref t) H3:=⟨_,Z⟩
  obtain⟨E1,R⟩:∃E1:Option Addr->Hp->Prop,E1=λU H'=>U=none/\Same H H'/\∀(t:Y3) (H3:Hp),Same H H3->H3 t=some (.tup [.str "no",.non])->Q (.ref t) H3:=⟨_,Z⟩
  refine⟨_,(@Al _ _ _ (wQ (E0:=E0) (E1:=E1) (C:=CU) (C1:=CT) (i:=4) ⟨Z,Z⟩ nd rfl rfl rfl x.mU rfl x.mD x.clU x.xT.cls ⟨x.clU,x.tlU⟩ ⟨x.xD.cls,x.xD.tail⟩ x.subU x.noT x.subT
   (λpins σ=>@Az _ _ _ _ _ (Bq (PW.pt (O4 (Bx Ml (pv 2) Gv (Ac _)) (PB (CV (pv 3)))))
    (@Al _ _ _ (BL (@Cr _ _ _ _ _ (Aa C_ (Aa (wH (σ0:=σ) dJ.d1 hr rfl (Aa (pv 0) (Aa (pv 1) Ad))) Ad)))))
    Bw)
   (@Al _ _ _ (BL (@Cr _ _ _ _ _ (Aa C_ (Aa (X2j (σ0:=σ) dJ.c hr rfl (Aa (pv 0) (Aa (pv 1) (Aa (pv 2) Ad)))) Ad))))))
   (λa=>@Az _ _ _ _ _ (Bq (PW.pt (Dq (CV (nQ (dW a) (hr.h a) rfl (Aa (pv 4) Ad))) (Dq (CV (Bc gD rfl B.isinstance Ea (Aa (pv 4) (Aa (JW rfl x.mT) Ad)))) (Gw (Dl (CV (Bc gD rfl B.isinstance Ea (Aa (pv 4) (Aa (JW rfl x.mD) Ad)))))))))
    (@Al _ _ _ (BL (@Cr _ _ _ _ _ (Aa C_ (Aa Gv Ad)))))
    Bw)
   (@Al _ _ _ (BL (@Cr _ _ _ _ _ (Aa C_ (Aa (@Cr _ _ _ _ _ (Aa (pC (pv 4) rfl) (Aa (pC (pv 4) rfl) Ad))) Ad))))))
   (λa=>@Az _ _ _ _ _ (Bq (PW.pt (Dq (CV (nQ (dU a) (hr.h a) rfl (Aa (pv 4) Ad))) (Gw (Dl (CV (Bc gD rfl B.isinstance Ea (Aa (pv 4) (Aa (JW rfl x.mT) Ad))))))))
    (@Al _ _ _ (BL (@Cr _ _ _ _ _ (Aa C_ (Aa Gv Ad)))))
    Bw)
   (@Al _ _ _ (BL (@Cr _ _ _ _ _ (Aa C_ (Aa Gv Ad)))))))),?_⟩
  have go:WD K CT CU [v,.int N,wv] H (λr H'=>2<=sizeLine/\∀t,H' t=none->Q (.ref t) (upd H' t (.tup [.str "told",r]))) (EE CU CT E0 E1):=by
   refine⟨v,wv,N,Z,N1,N6,?_⟩
   rcases rest with ⟨nt,kn⟩ | ⟨l,ps,ms,L,rfl,T,W,kt,M⟩
   ·exact .inl ⟨nt,λH' Y=>.inr ⟨Z,by rw[R];exact⟨Z,Y,kn⟩⟩⟩
   ·exact .inr ⟨l,ps,ms,L,Z,T,W,λr H' Y t3=>⟨by decide,λt J=>kt t r _ (Y.trans (Aw J _)) Aj (t3.same (Aw J _))⟩,λdx H' Y p3=>.inl ⟨Z,by rw[S];exact⟨dx,ms,L,Z,Y,p3,M⟩⟩⟩
  refine⟨?_,?_,?_⟩
  ·refine⟨_,Z,Z,_,Z,CQ (λc=>?_) (λc=>?_)⟩
   ·refine⟨_,Z,_,Z,T_ (λ_=>?_) (λ_=>?_)⟩
    ·subst c
     exact⟨_,Z,_,Z,Z,go⟩
    ·exact⟨_,Z,_,Z,_,Z,Z,go⟩
   ·exact⟨_,Z,_,Z,_,Z,Z,go⟩
  ·intro a U H1 e0 ha
   rw[S]at e0
   obtain⟨dx,ms,L,rfl,S1,p3,M⟩:=e0
   have u:upd H1 a (Cd (some dx) a (.ref CU)) a=some (Cd (some dx) a (.ref CU)):=Aj
   have O:=Aw ha (Cd (some dx) a (.ref CU))
   generalize upd H1 a (Cd (some dx) a (.ref CU))=H2 at u O ⊢
   obtain⟨p,q,j,i,hx,hp,hq,jl,il,ae,ap⟩:=p3.ex
   have z:=O _ _ hx
   have o:Dx H2 (some dx):=λd e=>by cases e;exact⟨_,z⟩
   refine⟨_,Z,some dx,Z,u,o,_,Z,Ar ⟨_,Z,a,some dx,CU,_,_,false,Z,u,o,x.kU,Z,x.uT,_,Z,Ar ⟨_,Z,a,some dx,CU,_,_,true,Z,u,o,x.kU,Z,x.uD,_,Z,Ar ?_⟩⟩⟩
   refine⟨_,Z,a,dx,CU,_,.ref p,Z,u,z,x.kU,na,Z,_,Z,a,dx,CU,_,.ref q,Z,u,z,x.kU,nb,Z,(show 2<=sizeLine by decide),λp2 a0=>?_⟩
   have s3:=Aw a0 (.tup [V.ref p,V.ref q])
   have e3:upd H2 p2 (.tup [V.ref p,V.ref q]) p2=some (.tup [V.ref p,V.ref q]):=Aj
   generalize upd H2 p2 (.tup [V.ref p,V.ref q])=H3 at s3 e3 ⊢
   refine⟨(show 2<=sizeLine by decide),λt J=>?_⟩
   have s4:=Aw J (.tup [V.str "pair",V.ref p2])
   have I:=O.trans (s3.trans s4)
   exact M t p2 _ (S1.trans I) Aj ⟨p,q,j,i,s4 _ _ e3,I.tup hp,I.tup hq,jl,il,ae,ap⟩
  ·intro a U H1 e1 ha
   rw[R]at e1
   obtain⟨rfl,S1,kn⟩:=e1
   have u:upd H1 a (Cd none a (.ref CT)) a=some (Cd none a (.ref CT)):=Aj
   have O:=Aw ha (Cd none a (.ref CT))
   generalize upd H1 a (Cd none a (.ref CT))=H2 at u O ⊢
   have o:Dx H2 none:=λd e=>by cases e
   refine⟨_,Z,none,Z,u,o,_,Z,Ar ⟨_,Z,a,none,CT,_,_,true,Z,u,o,x.kT,Z,x.tT,_,Z,Ar ?_⟩⟩
   exact⟨(show 2<=sizeLine by decide),λt J=>kn t _ (S1.trans (O.trans (Aw J _))) Aj⟩)
 refine⟨⟨f,_,FO,?_,M,m⟩,⟨f,_,[.bool true],FO,?_,.cons rfl .nil,M,m⟩⟩
 ·intro s us XX hl;have y:us.length=4:=by simpa using hl
  match us,y with
  | [a,b,c,d],_=>exact BindsTo.of_defaults rfl (XX _ _ l0) rfl rfl rfl
 ·intro s us XX hl;have y:us.length=3:=by simpa using hl
  match us,y with
  | [a,b,c],_=>exact BindsTo.of_defaults rfl (XX _ _ l0) rfl rfl rfl
end
end Av
set_option maxHeartbeats 4000000
namespace L2
section
variable {X:Cx}{scope:Scope}{Nc:W0}{ex:U3}{pins:U1}{s:U7}{H:Hp}
end
end L2
set_option maxHeartbeats 1000000
namespace L2
def J9 (H:Hp)(v:V)(d:PyData):Prop:=∀(X:Cx) (pins:U1) (σ:St) (s:U7) (u:W3),Inv X pins σ H s->RelV v u->∃as,Reads s.heap u d as
theorem J9.rd{H:Hp}{v:V}{d:PyData}(r:Pg H v d):J9 H v d:=λX pins σ s u I a=>wV I r a
def X5 (neg:Bool):R2:=λx y H Q=>∃d e:PyData,J9 H x d/\J9 H y e/\SeqAt.shaped d=true/\SeqAt.shaped e=true/\SeqAt.noMix d e=true/\Q (.bl (if neg then !PySem.Spec.same d e else PySem.Spec.same d e)) H
theorem wC{X:Cx}(hu:X.A.units+64<cLine):Cu X (compareOp .Eq) (X5 false):=by
 intro pins s σ H x y v u Q I f a h;obtain⟨d,e,h1,h2,s1,g,nm,q⟩:=h;obtain⟨as,b⟩:=h1 X pins σ s _ I f;obtain⟨bs,c⟩:=h2 X pins σ s _ I a;exact eq_dataH_same b c s1 g hu nm ⟨.bl (PySem.Spec.same d e),H,I,Z,q⟩
end L2
namespace Av
open L2 Pc Dv Ez Fy
theorem Ii{α β:Type}{F:α->β->Prop}:∀{l:List α}{m:List β} (n:Nat),Paired F l m->Paired F (l.take n) (m.take n)
 | _,_,0,_=>by rw[List.take_zero,List.take_zero];exact .nil
 | _,_,n+1,.nil=>by rw[Vb,Vb];exact .nil
 | _,_,n+1,.cons x r=>.cons x (Ii n r)
theorem Ij{α β:Type}{F:α->β->Prop}:∀{l:List α}{m:List β} (n:Nat),Paired F l m->Paired F (l.drop n) (m.drop n)
 | _,_,0,h=>h
 | _,_,n+1,.nil=>by rw[List.drop_nil,List.drop_nil];exact .nil
 | _,_,n+1,.cons x r=>Ij n r
theorem Ju{K:U0}{H:Hp}{N:Nat}:∀{ps:U3}{ms:List Mk},CW H ps ms->(∀m∈ms,Gz N m)->Paired (Dr K H N) (ps.map V.ref) (ms.map K_)
 | [],[],.nil,_=>.nil
 | _::_,_::_,.cons e r,ok=>.cons (.mark e (ok _ (.head _))) (Ju r λm a=>ok m (.tail _ a))
noncomputable def uX (m:Mk):PyData:=.tuple [.int (m.1:Nat),.int (m.2.1:Nat),.int (m.2.2:Nat)]
theorem Jo{H:Hp}:∀{ps:U3}{ms:List Mk},CW H ps ms->Paired (Pg H) (ps.map V.ref) (ms.map uX)
 | [],[],.nil=>.nil
 | _::_,_::_,.cons e r=>.cons (.tup e (.cons (.int _) (.cons (.int _) (.cons (.int _) .nil)))) (Jo r)
def HY (N:Nat)(ms:List Mk)(m:Mk):Prop:=(Gz N m/\Gf ms m)\/¬ m.2.2<2^N
variable{ms:List Mk}
theorem X5n{K:U0}{N:Nat}{H:Hp}{l r l5:Y3}{ps:U3}{m:Mk}{a:Nat}(T:G9 N H l ps ms)(hr:H r=some (T3 m))(b:HY N ms m)(ha:a<=ms.length)(hl5:H l5=some (.lst ((ps.map V.ref).take a++[V.ref r]++(ps.map V.ref).drop a))):Fo K H N (.ref l5):=by
 have l6:=T.len;rcases b with ⟨ok,sp⟩ | no
 ·refine .marks (ps:=ins ps a r) (ms:=ins ms a m) ?_ ?_ (by rw[X3b ha];omega) (X3d T.ok ok) (λb t=>sp.no ha t)
  ·rw[hl5];unfold ins;rw[CJ,CJ,Va,bJ];rfl
  ·exact Gq (Gq (Ii a T.mks) (.cons hr .nil)) (Ij a T.mks)
 ·have tl:Tells K H N (.ref r) false:=_E hr (Part.int _) (Part.int _) (Part.int _) (.inr (.inr (Df (λz=>no (by have:=z.2;omega)))));refine .item hl5 ?_ (Gq (Gq (Ii a (Ju T.mks T.ok)) (.cons (.no tl) .nil)) (Ij a (Ju T.mks T.ok))) ?_ (Gq (Gq (Ii a (Jo T.mks)) (.cons (.tup hr (.cons (.int _) (.cons (.int _) (.cons (.int _) .nil)))) .nil)) (Ij a (Jo T.mks)))
  ·rw[DQ,DQ,Ft,QB,Ax,T.mks.length];show min a ms.length+1+(ms.length-a)<=13;omega
  ·rw[List.all_append,List.all_append];simp
theorem X3r(ms:List Mk)(n:Nat):chosen ms 0 n=[]:=by
 have:=Qp ms 0 0 n λj _ _=>Ug j;rw[Np]at this;rw[this];rfl
theorem X6y{i:Nat}(h:i<ms.length):chosen ms (2^i) ms.length=[ms.getD i (0,0,0)]:=by
 have a:=Qp ms (2^i) 0 i λj _ c=>by rw[V9,if_neg (by omega)]
 rw[Np]at a;have b:=Qp ms (2^i) (i+1) (ms.length-(i+1)) λj c _=>by rw[V9,if_neg (by omega)]
 rw[show i+1+(ms.length-(i+1))=ms.length by omega,PL,V9,if_pos rfl,if_pos rfl,a]at b;rw[b];rfl
variable{q:Nat}
theorem wg{r:Mk}{i d:Nat}(h:ms[i]?=some r)(e:q=(d+r.1)%4):Gf ms (q,r.2.1,r.2.2):=.inr (.inr ⟨d,2^i,by
 have a:=(Cv.mp h).1
 rw[X6y a,show ms.getD i (0,0,0)=r by rw[Bb,h];rfl]
 show _=mul (d,0,0) r
 unfold mul
 simp[Gy,e]⟩)
theorem X1q:Gf ms (q,0,0):=.inr (.inr ⟨q,0,by rw[X3r];rfl⟩)
theorem rY{f s:Nat}(h:(f&&&s)=0)(e:q%2=1):Gf ms (q,f,s):=.inl λz=>by
 have z:(q+pc (f&&&s))%2=0:=z;rw[h,Gy]at z;omega
def Lq (K:U0):Sp:=λvs H Q _=>∃(l:Y3) (ps:U3) (ms:List Mk) (wv:V) (N:Nat) (z:Int),vs=[.ref l,.int N,wv,.int z]/\1<=N/\N<=6/\G9 N H l ps ms/\∀H',Same H H'->Q (.bl true) H'
theorem X2w:PySem.Spec.same (.tuple [.str "no",.none]) (.tuple [.str "no",.none])=true:=by decide +kernel
section
variable {P:U8}{w:W1}{K:U0}{mg:U4}{base:Heap}{k:Nat}{h:Heap}
theorem X5k(F:Ab K "_law_no_table" (top 61) .none)(X:K.In h)(G:Ng h mg)(B:Bs mg)(cT:Lf P w K mg base k):Ao P w K mg base (k+1) "_law_no_table" ["_law_rows","_law_cells","_law_where","_law_cell"] (Lq K):=by
 refine F.cal X G ["_law_rows","_law_cells","_law_where","_law_cell","_law_spoiled","_law_far","_law_more","_law_way","_law_q","_law_f","_law_s"] λI H vs Q E hr h=>?_;obtain⟨l,ps,ms,D,N,z,rfl,N1,N6,T,kq⟩:=h;have A:(ps.map V.ref).length=ms.length:=by rw[Ax,T.mks.length]
 have l6:=T.len;have pN:=N_ N6;have a4:2<=2^N:=Gn (n:=2) (by decide) N1
 refine⟨_,(@Az _ _ _ _ _ (@BW _ _ 4 _ _ _ _ I rfl (Or.inl rfl) (Mt gC rfl B.list Kr (Aa (pv 0) Ad)) rfl (.inl rfl))
  (@Cp _ _ _ _ _ (@BW _ _ 5 _ _ _ _ I rfl (Or.inl rfl) (Ah Gx (pv 3) Ae) rfl (.inl rfl))
  (@Cp _ _ _ _ _ (@BW _ _ 6 _ _ _ _ I rfl (Or.inl rfl) (@Cr _ _ _ _ _ (Aa Ae (Aa Ae (Aa (Ah Ge Ae (Ah Ck (pv 5) (pv 1))) Ad)))) rfl (.inl rfl))
  (@Cp _ _ _ _ _ (@BW _ _ 7 _ _ _ _ I rfl (Or.inl rfl) (Ah Ck (Ah Gx (pv 3) Ae) Ae) rfl (.inl rfl))
  (@Cp _ _ _ _ _ (Bq (Bx Gu (pv 7) Ae (Ac _))
   (@Al _ _ _ (@BW _ _ 6 _ _ _ _ I rfl (Or.inl rfl) (@Cr _ _ _ _ _ (Aa Ae (Aa (Ah Ge Ae (Ah Ck (pv 5) (pv 1))) (Aa Ae Ad)))) rfl (.inl rfl)))
   Bw)
  (@Cp _ _ _ _ _ (Bq (Bx Gu (pv 7) Ae (Ac _))
   (@Al _ _ _ (@BW _ _ 6 _ _ _ _ I rfl (Or.inl rfl) (@Cr _ _ _ _ _ (Aa Ae (Aa Ae (Aa (Ah Ge Ae (pv 1)) Ad)))) rfl (.inl rfl)))
   Bw)
  (@Cp _ _ _ _ _ (Bq (Bx Gu (pv 7) Ae (Ac _))
   (@Al _ _ _ (@BW _ _ 6 _ _ _ _ I rfl (Or.inl rfl) (@Cr _ _ _ _ _ (Aa (Ah Ow Ae (Ah Ck (pv 5) Ae)) (Aa Ae (Aa Ae Ad)))) rfl (.inl rfl)))
   Bw)
  (@Cp _ _ _ _ _ (Bq (PW.pt (O4 (Bx Gu (pv 7) Ae (Ac _)) (PB (Bx Mg (Bc G8 rfl B.len Gm (Aa (pv 0) Ad)) Ae (Ac _)))))
   (@Az _ _ _ _ _ (XR (BR J3 (pv 0) (Ah Ck (pv 5) (Bc G8 rfl B.len Gm (Aa (pv 0) Ad))) (λ_ _=>rfl)) (O2 rfl (H_ (CP (i:=8) I rfl (Or.inl rfl)) (H_ (CP (i:=9) I rfl (Or.inl rfl)) (H_ (CP (i:=10) I rfl (Or.inl rfl)) O7)))))
   (@Al _ _ _ (@BW _ _ 6 _ _ _ _ I rfl (Or.inl rfl) (@Cr _ _ _ _ _ (Aa (Ah Ck (Ah Hx (pv 8) (Ah Ow Ae (Ah Ck (Ah Gx (pv 5) Ae) Ae))) Ae) (Aa (pv 9) (Aa (pv 10) Ad)))) rfl (.inl rfl))))
   Bw)
  (@Cp _ _ _ _ _ (Bq (PW.pt (O4 (Bx Gu (pv 7) Ae (Ac _)) (PB (Bx Gu (Bc G8 rfl B.len Gm (Aa (pv 0) Ad)) Ae (Ac _)))))
   (@Al _ _ _ (@BW _ _ 6 _ _ _ _ I rfl (Or.inl rfl) (@Cr _ _ _ _ _ (Aa Ae (Aa Ae (Aa Ae Ad)))) rfl (.inl rfl)))
   Bw)
  (@Az _ _ _ _ _ (O_ (Mh Nz PySem.F.slot_list_insert PySem.F.type_list_insert yC (pv 4) (Aa (Ah Ck (Ah Gx (pv 5) Ae) (Ah Hx (Bc G8 rfl B.len Gm (Aa (pv 0) Ad)) Ae)) (Aa (pv 6) Ad))))
  (@Al _ _ _ (BL (Hy (wC hr.units) (nO cT.d1 hr rfl (Aa (pv 4) (Aa (pv 1) (Aa (pv 2) Ad)))) (@Cr _ _ _ _ _ (Aa C_ (Aa Gv Ad))) (Ac _)))))))))))))),?_⟩
 try dsimp only[Cm]
 refine⟨_,Z,l,_,Z,.inl (Ag.of T.lst),λp S=>?_⟩;have s1:=Aw S (.lst (ps.map V.ref));have e1:upd H p (.lst (ps.map V.ref)) p=some (.lst (ps.map V.ref)):=Aj;generalize upd H p (.lst (ps.map V.ref))=H1 at s1 e1 ⊢;refine⟨λσ H'=>H'=H1/\∃fr:Int,σ=[some (.ref l),some (.int N),some D,some (.int z),some (.ref p),some (.int fr),none,none,none,none,none],⟨_,Z,_,_,Z,Z,⟨by decide,by decide⟩,Z,_,Z⟩,?_⟩;rintro σ H1 ⟨rfl,fr,rfl⟩;have T1:=T.same s1;obtain⟨c,cN,ec⟩:=HW fr (show 0<N by omega);have U:(1:Int)*2^(fr%(N:Int)).toNat=((2^c:Nat):Int):=by rw[ec];exact ipow c
 have cs:JH 1 (fr%(N:Int)):=by rw[ec];exact⟨1,Jc,by omega,by omega⟩
 have a0:(1:Int)*2^((N:Nat):Int).toNat=((2^N:Nat):Int):=ipow N;have a1:JH 1 ((N:Nat):Int):=⟨1,Jc,by omega,by omega⟩;have n0:(0:Int)<(N:Int):=by omega
 have a3:2^c<2^N:=Jt (by decide) cN;refine⟨λσ H'=>Same H1 H'/\∃(b:Y3) (m:Mk),H' b=some (T3 m)/\σ=[some (.ref l),some (.int N),some D,some (.int z),some (.ref p),some (.int fr),some (.ref b),none,none,none,none],?_,?_⟩
 ·refine⟨_,Z,_,Z,_,_,Z,Z,n0,_,_,Z,Z,cs,t3,λb o=>⟨Aw o _,b,(0,0,2^c),?_,Z⟩⟩;rw[Aj];show some (HO.tup [V.int 0,V.int 0,V.int ((1:Int)*2^(fr%(N:Int)).toNat)])=_;rw[U]<;>rfl
 rintro σ H2 ⟨S2,b,m,o,rfl⟩;obtain⟨y,y4,ey⟩:=HW (z / 4) (show 0<4 by decide);refine⟨λσ H'=>H'=H2/\σ=[some (.ref l),some (.int N),some D,some (.int z),some (.ref p),some (.int fr),some (.ref b),some (.int y),none,none,none],⟨_,Z,_,_,Z,Z,⟨by decide,by decide⟩,_,_,Z,Z,Oa,Z,?_⟩,?_⟩
 ·show [some (V.ref l),some (.int N),some D,some (.int z),some (.ref p),some (.int fr),some (.ref b),some (.int (z / 4%4)),none,none,none]=_;rw[show (z / 4%4:Int)=(y:Int) from ey]
 rintro σ H2 ⟨rfl,rfl⟩;refine⟨λσ H'=>Same H1 H'/\∃(b:Y3) (m:Mk) (u v g:Option V),H' b=some (T3 m)/\(y=0->HY N ms m)/\σ=[some (.ref l),some (.int N),some D,some (.int z),some (.ref p),some (.int fr),some (.ref b),some (.int y),u,v,g],?_,?_⟩
 ·refine⟨_,Z,Z,_,Z,Mf (λC=>?_) (λC=>⟨S2,b,m,_,_,_,o,λz=>absurd (by rw[z];rfl) C,Z⟩)⟩;refine⟨_,Z,_,Z,_,_,Z,Z,n0,_,_,Z,Z,cs,t3,λL h1=>⟨S2.trans (Aw h1 _),L,(1,2^c,0),_,_,_,?_,λ_=>.inl ⟨⟨(show 1<4 by decide),a3,by show 0<2^N;omega⟩,rY (Nat.and_zero _) rfl⟩,Z⟩⟩;rw[Aj];show some (HO.tup [V.int 1,V.int ((1:Int)*2^(fr%(N:Int)).toNat),V.int 0])=_;rw[U]<;>rfl
 rintro σ H3 ⟨S3,b,m,u,v,g,o,b0,rfl⟩;refine⟨λσ H'=>Same H1 H'/\∃(b:Y3) (m:Mk) (u v g:Option V),H' b=some (T3 m)/\(y<=1->HY N ms m)/\σ=[some (.ref l),some (.int N),some D,some (.int z),some (.ref p),some (.int fr),some (.ref b),some (.int y),u,v,g],?_,?_⟩
 ·refine⟨_,Z,Z,_,Z,Mf (λC=>?_) (λC=>⟨S3,b,m,_,_,_,o,λz=>b0 (by have:(y:Int)≠1:=C;omega),Z⟩)⟩;refine⟨_,Z,_,_,Z,Z,a1,t3,λL h1=>⟨S3.trans (Aw h1 _),L,(0,0,2^N),_,_,_,?_,λ_=>.inr (JL _),Z⟩⟩;rw[Aj];show some (HO.tup [V.int 0,V.int 0,V.int ((1:Int)*2^((N:Nat):Int).toNat)])=_;rw[a0]<;>rfl
 rintro σ H4 ⟨S4,b,m,u,v,g,o,b1,rfl⟩;refine⟨λσ H'=>Same H1 H'/\∃(b:Y3) (m:Mk) (u v g:Option V),H' b=some (T3 m)/\(y<=2->HY N ms m)/\σ=[some (.ref l),some (.int N),some D,some (.int z),some (.ref p),some (.int fr),some (.ref b),some (.int y),u,v,g],?_,?_⟩
 ·refine⟨_,Z,Z,_,Z,Mf (λC=>?_) (λC=>⟨S4,b,m,_,_,_,o,λz=>b1 (by have:(y:Int)≠2:=C;omega),Z⟩)⟩;obtain⟨d,d2,ed⟩:=HW fr (show 0<2 by decide);refine⟨_,Z,_,_,Z,Z,(show (0:Int)<2 by decide),_,_,Z,Z,.inl ⟨by decide,by decide⟩,t3,λL h1=>⟨S4.trans (Aw h1 _),L,(2*d,0,0),_,_,_,?_,λ_=>.inl ⟨⟨by show 2*d<4;omega,by show 0<2^N;omega,by show 0<2^N;omega⟩,X1q⟩,Z⟩⟩;rw[Aj];show some (HO.tup [V.int (2*(fr%2)),V.int 0,V.int 0])=_;rw[show (fr%2:Int)=(d:Int) from ed,show (2:Int)*((d:Nat):Int)=((2*d:Nat):Int) by omega]<;>rfl
 rintro σ H5 ⟨S5,b,m,u,v,g,o,b2,rfl⟩;have T5:=T1.same S5;refine⟨λσ H'=>Same H1 H'/\∃(b:Y3) (m:Mk) (u v g:Option V),H' b=some (T3 m)/\(y<=2\/ms≠[]->HY N ms m)/\σ=[some (.ref l),some (.int N),some D,some (.int z),some (.ref p),some (.int fr),some (.ref b),some (.int y),u,v,g],?_,?_⟩
 ·have x:(y≠3\/ms=[])->∀Y u9 J:Option V,Same H1 H5/\∃(pm':Y3) (m:Mk) (u v g:Option V),H5 pm'=some (T3 m)/\(y<=2\/ms≠[]->HY N ms m)/\[some (V.ref l),some (.int N),some D,some (.int z),some (.ref p),some (.int fr),some (.ref b),some (.int y),Y,u9,J]=[some (.ref l),some (.int N),some D,some (.int z),some (.ref p),some (.int fr),some (.ref pm'),some (.int y),u,v,g] :=
   λO Y u9 J=>⟨S5,b,m,_,_,_,o,λz=>b2 (by rcases z with z | z<;>rcases O with O | O<;>first | omega | exact absurd O z),Z⟩
  refine⟨_,Z,Z,_,Z,Mf (λc3=>⟨_,Z,l,_,Z,.inl (Ag.of T5.lst),_,_,Z,Z,_,Z,CQ (λC=>?_) (λC=>x (.inr (Sx.mp (by rw[A]at C;omega))) _ _ _)⟩) (λc3=>x (.inl (by have:(y:Int)≠3:=c3;omega)) _ _ _)⟩;rw[A]at C;have m0:0<ms.length:=by omega
  obtain⟨j,jl,ej⟩:=HW fr m0;obtain⟨r,M⟩:∃r,ms[j]?=some r:=⟨_,Bm jl⟩;obtain⟨pr,a2,tr⟩:=HS T5.mks M;have R:=T5.ok r (Dz M);refine⟨_,Z,_,Z,_,Z,l,_,Z,.inl (Ag.of T5.lst),_,_,Z,Z,(by rw[A];omega),l,_,_,.ref pr,Z,Z,Ag.of T5.lst,?_,?_⟩
  ·show Im (ps.map V.ref) (fr%(((ps.map V.ref).length:Nat):Int))=_;rw[A,ej];exact JX (by rw[Bo,a2];rfl)
  refine⟨pr,_,Z,Ak.of tr,Z,_,_,Z,_,_,Z,_,_,Z,Z,?_⟩;obtain⟨d,d2,ed⟩:=HW (fr / 6) (show 0<2 by decide);refine⟨_,Z,_,Z,_,_,Z,Z,⟨by decide,by decide⟩,_,_,Z,Z,(show (0:Int)<2 by decide),_,_,Z,Z,.inl ⟨by decide,by decide⟩,_,_,Z,Z,_,_,Z,Z,Oa,_,Z,_,Z,t3,λL h1=>⟨S5.trans (Aw h1 _),L,((2*d+r.1)%4,r.2.1,r.2.2),_,_,_,?_,λ_=>.inl ⟨⟨Fq _ (by decide),R.f,R.s⟩,wg (d:=2*d) M rfl⟩,Z⟩⟩;rw[Aj];show some (HO.tup [V.int (((r.1:Int)+2*(fr / 6%2))%4),V.int r.2.1,V.int r.2.2])=_;rw[show (fr / 6%2:Int)=(d:Int) from ed,show (((r.1:Nat):Int)+2*((d:Nat):Int))%4=(((2*d+r.1)%4:Nat):Int) by omega]<;>rfl
 rintro σ H6 ⟨S6,b,m,u,v,g,o,b3,rfl⟩;have T6:=T1.same S6;refine⟨λσ H'=>Same H1 H'/\∃(b:Y3) (m:Mk) (u v g:Option V),H' b=some (T3 m)/\HY N ms m/\σ=[some (.ref l),some (.int N),some D,some (.int z),some (.ref p),some (.int fr),some (.ref b),some (.int y),u,v,g],?_,?_⟩
 ·have x:(y<=2\/ms≠[])->Same H1 H6/\∃(pm':Y3) (m:Mk) (Y u9 J:Option V),H6 pm'=some (T3 m)/\HY N ms m/\[some (V.ref l),some (.int N),some D,some (.int z),some (.ref p),some (.int fr),some (.ref b),some (.int y),u,v,g]=[some (.ref l),some (.int N),some D,some (.int z),some (.ref p),some (.int fr),some (.ref pm'),some (.int y),Y,u9,J] :=
   λO=>⟨S6,b,m,_,_,_,o,b3 O,Z⟩
  refine⟨_,Z,Z,_,Z,Mf (λc3=>⟨_,Z,l,_,Z,.inl (Ag.of T6.lst),Z,_,Z,Mf (λC=>?_) (λC=>x (.inr (λz=>C (by rw[A,z];rfl))))⟩) (λc3=>x (.inl (by have:(y:Int)≠3:=c3;omega)))⟩;exact⟨t3,λL h1=>⟨S6.trans (Aw h1 _),L,(3,0,1),_,_,_,Aj,.inl ⟨⟨(show 3<4 by decide),by show 0<2^N;omega,by show 1<2^N;omega⟩,rY (au _) rfl⟩,Z⟩⟩
 rintro σ H7 ⟨S7,b,m,u,v,g,o,b4,rfl⟩;have T7:=T1.same S7;have e7:=S7 _ _ e1;obtain⟨a,al,ea⟩:=HW (fr / 12) (aq ms.length);refine⟨_,Z,.inl ⟨Z,_,Ag.of e7⟩,_,Z,_,_,Z,Z,⟨by decide,by decide⟩,_,Z,l,_,Z,.inl (Ag.of T7.lst),_,_,Z,Z,_,_,Z,Z,(by omega),_,Z,p,_,.ref b,a,Z,?_,e7,(by rw[A];omega),(by omega),(by rw[A];exact CK (show ms.length<64 by omega) (by decide)),?_⟩
 ·show [V.int (fr / 12%((((ps.map V.ref).length:Nat):Int)+1)),V.ref b]=_;rw[A,show (((ms.length:Nat):Int)+1)=((ms.length.succ:Nat):Int) from rfl,ea]
 have S8:Same H (upd H7 p (.lst ((ps.map V.ref).take a++[V.ref b]++(ps.map V.ref).drop a))):=Ec (s1.trans S7) S;have e8:upd H7 p (.lst ((ps.map V.ref).take a++[V.ref b]++(ps.map V.ref).drop a)) p=some (.lst ((ps.map V.ref).take a++[V.ref b]++(ps.map V.ref).drop a)):=Aj;have p8:upd H7 p (.lst ((ps.map V.ref).take a++[V.ref b]++(ps.map V.ref).drop a)) b=some (T3 m):=by rw[BK (LC o e7 (by intro z;cases z))];exact o
 generalize upd H7 p (.lst ((ps.map V.ref).take a++[V.ref b]++(ps.map V.ref).drop a))=H8 at S8 e8 p8 ⊢;refine⟨_,Z,_,Z,_,Z,.ref p,D,N,true,Z,N1,N6,.inl ⟨X5n (T.same S8) p8 b4 (Nat.le_of_lt_succ al) e8,λt H9 S9 et=>?_⟩⟩;refine⟨(show 2<=sizeLine by decide),λt2 h2=>?_⟩;have W:=Aw h2 (.tup [V.str "no",V.non]);have dv:∀{q:Y3}{H':Hp},H' q=some (.tup [V.str "no",V.non])->J9 H' (.ref q) (.tuple [.str "no",.none]):=λe=>.rd (.tup e (.cons (.str _ (by decide +kernel)) (.cons .non .nil)));refine⟨.tuple [.str "no",.none],.tuple [.str "no",.none],dv (W _ _ et),dv Aj,by decide +kernel,by decide +kernel,by decide +kernel,?_⟩;show Q (.bl (PySem.Spec.same (.tuple [.str "no",.none]) (.tuple [.str "no",.none]))) _;rw[X2w];exact kq _ ((S8.trans S9).trans W)
end
end Av
set_option maxHeartbeats 4000000
namespace L2
def TJ (v:V):Prop:=Tv v=true\/∃p,v=.ref p
theorem vQ{A:Y0}{s:U7}{v:V}{u w:W3}(o:TJ v)(r1:RelV v u)(r2:RelV v w):SeqAt.EqAt A s u w true:=by
 rcases o with o | ⟨p,rfl⟩
 ·cases v with
  | int i =>
   obtain⟨t,rfl⟩:=r1;obtain⟨t',rfl⟩:=r2;have:=SeqAt.EqAt.int_int (A:=A) (s:=s) i t i t';simpa using this
  | str x =>
   obtain⟨t,rfl⟩:=r1;obtain⟨t',rfl⟩:=r2;have:=SeqAt.EqAt.str_str (A:=A) (s:=s) x t x t';simpa using this
  | bl b=>cases r1;cases r2;exact SeqAt.EqAt.same _
  | non=>cases r1;cases r2;exact SeqAt.EqAt.same _
  | _=>cases o
 ·cases r1;cases r2;exact SeqAt.EqAt.same _
end L2
set_option maxHeartbeats 1000000
namespace L2
def Nf (K:U0):R2:=λx y H Q=>∃(a b:Y3) (xs:List V),x=.ref a/\y=.ref b/\Ag K H a xs/\Ag K H b xs/\(∀v∈xs,TJ v)/\Q (.bl false) H
theorem wG{X:Cx}(hu:X.A.units+64<cLine):Cu X (compareOp .NotEq) (Nf X.K):=by
 intro pins s σ H x y v u Q I C o h;obtain⟨a,b,xs,rfl,rfl,h1,h2,m,q⟩:=h;cases C;cases o;obtain⟨its,k,l,_⟩:=I.list h1;obtain⟨c,d,g,_⟩:=I.list h2;have l1:=k.length;have l2:=d.length;have i:=SeqAt.RcNeAt.lists (A:=X.A) (e:=λ_=>true) l.isList g.isList (by rw[Ci,Ci,<-l1,<-l2]) (by omega) λj n F=>by
  have f:j<xs.length:=by rw[Ci]at n;omega
  obtain⟨u1,D,t⟩:=k.get (Bm f);obtain⟨u2,z,r⟩:=d.get (Bm f);have E:its.toArray[j]=u1:=by
   have:=(Cv.mp D).2;simpa using this
  have p:c.toArray[j]=u2:=by
   have:=(Cv.mp z).2;simpa using this
  rw[E,p];exact vQ (m _ (G5 f)) t r
 have B:((List.range its.toArray.size).all λ_=>true)=true:=by simp
 rw[B]at i;exact i X.prog X.w _ _ ⟨.bl false,H,I,Z,q⟩
theorem X5i{X:Cx}(hu:X.A.units+64<cLine):Cu X (compareOp .NotEq) (λx y H Q=>jD x y H Q\/Lw X.K true x y H Q):=by
 intro pins s σ H x y v u Q I b a h;rcases h with h | h
 ·exact KZ pins s σ H x y v u Q I b a h
 ·exact X2k hu pins s σ H x y v u Q I b a h
end L2
namespace Av
open L2 Pc Dv Ez Fy
open GJ (Sp Red Lo vv cl)
noncomputable def IV (K:U0)(n:Nat):L2.Sp:=λvs H Q _=>∃(a:Y3) (ns:U6),vs=[.ref a]/\Ag K H a (ns.map V.int)/\ns.length<=n/\∀H',Q (.bl true) H'
def Xe (H:Hp)(wv kv:V)(ws:W7):Prop:=(wv=.non/\kv=.non)\/∃lw l2,wv=.ref lw/\kv=.ref l2/\H lw=some (.lst (ws.map λc=>V.int (c:Nat)))/\H l2=some (.lst (ws.map λc=>V.int (c:Nat)))
theorem Xe.same{H H':Hp}{wv kv:V}{ws:W7}(c:Xe H wv kv ws)(s:Same H H'):Xe H' wv kv ws:=by
 rcases c with c | ⟨lw,l2,a,b,d,e⟩
 ·exact .inl c
 ·exact .inr ⟨lw,l2,a,b,s _ _ d,s _ _ e⟩
theorem ows{ws:W7}:(ws.map λc=>V.int (c:Nat))=(ws.map λn=>((n:Nat):Int)).map V.int:=by rw[Gk];rfl
theorem eV{K:U0}{H:Hp}:∀{qs:U3}{us:List Mk},Ey K H qs us->Fl K H qs (us.map I3)
 | [],[],.nil=>.nil
 | _::_,_::_,.cons e r=>.cons e (eV r)
theorem qK{K:U0}{H:Hp}:∀{qs:U3}{us:List Mk},CW H qs us->Ey K H qs us
 | [],[],.nil=>.nil
 | _::_,_::_,.cons e r=>.cons (Ak.of e) (qK r)
section
variable {P:U8}{w:W1}{K:U0}{mg:U4}{base:Heap}{k:Nat}{h:Heap}
theorem Jm:Ay ["_law_script","_law_cells","_law_rows","_law_where","_law_kept_here","_law_due","_law_found","_law_basis_here","_law_far","_law_mark","_law_kind","_law_told_here"] ["_law_script"] (Br (top 62)):=fS
theorem X5l{n:Nat}(hn:n<=63){f:Y3}{fd:FuncData}(F:Xd K "law" "law" (top 62) f fd)(B:Bs mg)(c8:Ao P w K mg base k "_law_cell_at" ["_law_script","_law_k"] (Ht K))(d8:Ao P w K mg base k "_law_table_by" ["_law_script"] (kj K))(d9:Ao P w K mg base k "_law_where_by" ["_law_cells","_law_cell"] (k_ K))(d7:Ao P w K mg base k "_law_no_table" ["_law_rows","_law_cells","_law_where","_law_cell"] (Lq K))(dC:Ao P w K mg base k "_law_wrongs" ["_law_cells","_law_where"] (Lr K))(cS:Uw P w K mg base k)(cF:Ao P w K mg base k "_law_is_mark" ["_law_found","_law_due"] (Gh K))(cR:Ao P w K mg base k "_law_basis" ["_law_rows"] (g_ K))(c9:Ao P w K mg base k "_law_answered" ["_law_rows","_law_mark"] (Gi K))(cT:Lf P w K mg base k)(dH:Ao P w K mg base k "_law_pair" ["_law_pair_here","_law_due","_law_rows","_law_basis_here"] (Jd K))(dE:Ao P w K mg base k "_law_mends" ["_law_told_here","_law_due","_law_rows","_law_basis_here"] (pK K)):
  Ca P w K mg base G_ (k+1) f fd ["_law_script"] (IV K n):=by
 have nd:=Jm.nd;refine F.ok Jm (λvs H Q E h=>?_) (λcdv A outer s H vs Q E d h=>?_)
 ·obtain⟨a,ns,rfl,_⟩:=h;rfl
 obtain⟨D,nl,rfl,hS,i3,kk⟩:=h
 refine⟨_,(@Az _ _ _ _ _ (XR (BJ d8 d rfl (Aa (pv 0) Ad)) (O2 rfl (H_ (CP (i:=1) nd rfl (Or.inl rfl)) (H_ (CP (i:=2) nd rfl (Or.inl rfl)) O7))))
  (@Cp _ _ _ _ _ (@BW _ _ 3 _ _ _ _ nd rfl (Or.inl rfl) (BJ d9 d rfl (Aa (pv 1) (Aa (BJ c8 d rfl (Aa (pv 0) (Aa Ae Ad))) Ad))) rfl (.inl rfl))
  (@Cp _ _ _ _ _ (@BW _ _ 4 _ _ _ _ nd rfl (Or.inl rfl) (@Ho _ _ _ _ (Aa (Mt gC rfl B.list Kr (Aa (pv 2) Ad)) (Aa (pv 3) Ad))) rfl (.inl rfl))
  (@Cp _ _ _ _ _ (Bq (Bx nJ (pv 3) Gv (Ac _))
   (@Al _ _ _ (XR (Mt gC rfl B.list Kr (Aa (pv 3) Ad)) (X5c (pv 4) Ae wX)))
   Bw)
  (@Cp _ _ _ _ _ (Bq (PW.pt (O4 (Bx Gu (Ah Ck (BJ c8 d rfl (Aa (pv 0) (Aa Ae Ad))) Ae) Ae (Ac _)) (PB (Dl (CV (BJ d7 d rfl (Aa (pv 2) (Aa (pv 1) (Aa (pv 3) (Aa (BJ c8 d rfl (Aa (pv 0) (Aa Ae Ad))) Ad))))))))))
   (@Al _ _ _ (BL EY))
   Bw)
  (@Cp _ _ _ _ _ (@BW _ _ 5 _ _ _ _ nd rfl (Or.inr rfl) (BJ dC d rfl (Aa (pv 1) (Aa (pv 3) Ad))) rfl (.inl rfl))
  (@Cp _ _ _ _ _ (@BW _ _ 6 _ _ _ _ nd rfl (Or.inr rfl) (nO cS.d1 d rfl (Aa (pv 1) Ad)) rfl (.inl rfl))
  (@Cp _ _ _ _ _ (Bq (Bx nJ (pv 3) Gv (Ac _))
   (@Al _ _ _ (@BW _ _ 6 _ _ _ _ nd rfl (Or.inr rfl) (BJ cS.c d rfl (Aa (pv 1) (Aa (pv 3) Ad))) rfl (.inl rfl)))
   Bw)
  (@Cp _ _ _ _ _ (Bq (PW.pt (Dq (Dl (CV (Bc Ja rfl B.isinstance Ea (Aa (pv 6) (Aa (HX (v:=.ty "list") rfl B.list Kr rfl) Ad))))) (Gw (Bx KZ (Bc G8 rfl B.len Gm (Aa (pv 6) Ad)) (Bc G8 rfl B.len Gm (Aa (pv 5) Ad)) (Ac _)))))
   (@Al _ _ _ (BL EY))
   Bw)
  (@Cp _ _ _ _ _ (Bq (Dl (CV (Bc (J5 rfl) rfl B.all Jq (Aa (GF rfl (BX.of (Nc:=["_law_k","_law_due","_law_found"]) (mp:=[none,some 5,some 6]) (by kernel_rfl)) (Qm rfl B.range (Aa (Bc G8 rfl B.len Gm (Aa (pv 5) Ad)) Ad)) (λ_ _ _ _=>(CP (i:=0) (show (["_law_k","_law_due","_law_found"]:W0).Nodup by decide +kernel) rfl (Or.inl rfl))) (λ_ _ _ _=>(BJ cF d rfl (Aa (BR eO (pv 2) (pv 0) (λ_ _=>rfl)) (Aa (BR eO (pv 1) (pv 0) (λ_ _=>rfl)) Ad))))) Ad))))
   (@Al _ _ _ (BL EY))
   Bw)
  (@Cp _ _ _ _ _ (@BW _ _ 7 _ _ _ _ nd rfl (Or.inl rfl) (BJ cR d rfl (Aa (pv 2) Ad)) rfl (.inl rfl))
  (@Cp _ _ _ _ _ (@BW _ _ 8 _ _ _ _ nd rfl (Or.inl rfl) (Ah Gx (BJ c8 d rfl (Aa (pv 0) (Aa Ae Ad))) Ae) rfl (.inl rfl))
  (@Cp _ _ _ _ _ (@BW _ _ 9 _ _ _ _ nd rfl (Or.inl rfl) (@Cr _ _ _ _ _ (Aa (Ah Ck (pv 8) Ae) (Aa (Ah Ck (Ah Gx (pv 8) Ae) (Ah Ge Ae (pv 1))) (Aa (Ah Ck (Ah Gx (pv 8) Ae) (Ah Ge Ae (pv 1))) Ad)))) rfl (.inl rfl))
  (@Cp _ _ _ _ _ (Bq (PW.pt (Dq (Bx Ml (BJ c9 d rfl (Aa (pv 2) (Aa (pv 9) Ad))) Gv (Ac _)) (Gw (PW.pt (O4 (Bx Ml (pv 3) Gv (Ac _)) (PB (Bx (wF d.units) (BJ cS.c d rfl (Aa (pv 1) (Aa Gv Ad))) (pv 5) (Ac _))))))))
   (@Al _ _ _ (BL EY))
   Bw)
  (@Cp _ _ _ _ _ (XR (BJ cT.c d rfl (Aa (pv 2) (Aa (pv 1) (Aa (pv 3) (Aa (Hy Gu (Ah Ck (Ah Gx (pv 8) Ae) Ae) Ae (Ac _)) Ad))))) (O2 rfl (H_ (CP (i:=10) nd rfl (Or.inl rfl)) (H_ (CP (i:=11) nd rfl (Or.inl rfl)) O7))))
  (@Cp _ _ _ _ _ (Bq (PW.pt (Dq (Bx (wG d.units) (pv 2) (BR J3 (pv 4) Ae (λ_ _=>rfl)) (Ac _)) (Gw (Bx (X5i d.units) (pv 3) (BR J3 (pv 4) Ae (λ_ _=>rfl)) (Ac _)))))
   (@Al _ _ _ (BL EY))
   Bw)
  (@Az _ _ _ _ _ (Bq (Bx Gu (pv 10) C_ (Ac _))
   (@Al _ _ _ (BL (BJ dH d rfl (Aa (pv 11) (Aa (pv 5) (Aa (pv 2) (Aa (pv 7) Ad)))))))
   Bw)
  (@Al _ _ _ (BL (Oz (Hy Gu (pv 10) C_ (Ac _)) (Mp (BJ dE d rfl (Aa (pv 11) (Aa (pv 5) (Aa (pv 2) (Aa (pv 7) Ad)))))))))))))))))))))))))),?_⟩
 try dsimp only[Cm]
 refine⟨_,Z,D,nl,Z,hS,λt l N ps ms H1 S1 et N1 Y T1=>?_⟩;refine⟨t,_,Z,Ak.of et,Z,_,_,Z,_,_,Z,Z,?_⟩;refine⟨λσ H'=>Same H1 H'/\∃(x:V) (g:W7),Ed K H' x N g/\σ=[some (.ref D),some (.int N),some (.ref l),some x,none,none,none,none,none,none,none,none],⟨_,Z,_,Z,D,nl,2,Z,S1.seq hS,by decide,N,_,Z,N1,Y,λx g H' G W=>⟨G,x,g,W,Z⟩⟩,?_⟩;rintro σ H2 ⟨d2,x,g,W2,rfl⟩;have S2:=S1.trans d2;have T2:=T1.same d2;refine⟨λσ H'=>Same H2 H'/\∃o O:Addr,H2 o=none/\O≠o/\H' o=some (.lst [.ref O,x])/\H' O=some (.lst (ps.map V.ref))/\σ=[some (.ref D),some (.int N),some (.ref l),some x,some (.ref o),none,none,none,none,none,none,none],?_,?_⟩
 ·refine⟨_,Z,l,_,Z,.inl (Ag.of T2.lst),λO a5=>?_⟩;have s3:=Aw a5 (.lst (ps.map V.ref));have e3:upd H2 O (.lst (ps.map V.ref)) O=some (.lst (ps.map V.ref)):=Aj;generalize upd H2 O (.lst (ps.map V.ref))=H3 at s3 e3 ⊢;refine⟨_,Z,Ce (show 2<=64 by decide),λo a4=>⟨s3.trans (Aw a4 _),o,O,s3.free a4,(λz=>by rw[z,a4]at e3;cases e3),Aj,(Aw a4 _) _ _ e3,Z⟩⟩
 rintro σ H3 ⟨b6,o,O,i1,f5,hk,a5,rfl⟩;refine⟨λσ H'=>Same H2 H'/\∃kv:V,H' o=some (.lst [.ref O,kv])/\H' O=some (.lst (ps.map V.ref))/\Xe H' x kv g/\σ=[some (.ref D),some (.int N),some (.ref l),some x,some (.ref o),none,none,none,none,none,none,none],?_,?_⟩
 ·rcases (W2.same b6).1 with ⟨ew,_⟩ | ⟨lw,ew,hw⟩
  ·subst ew;exact⟨_,Z,Z,_,Z,Gr (λz=>by cases z) (λ_=>⟨b6,.non,hk,a5,.inl ⟨Z,Z⟩,Z⟩)⟩
  ·subst ew;refine⟨_,Z,Z,_,Z,Gr (λ_=>?_) (λz=>by cases z)⟩;refine⟨_,Z,lw,_,Z,.inl (Ag.of hw),λl2 b7=>?_⟩;have s4:=Aw b7 (.lst (g.map λc=>V.int (c:Nat)));have e4:upd H3 l2 (.lst (g.map λc=>V.int (c:Nat))) l2=some (.lst (g.map λc=>V.int (c:Nat))):=Aj;generalize upd H3 l2 (.lst (g.map λc=>V.int (c:Nat)))=H4 at s4 e4 ⊢;refine⟨_,Z,o,_,1,1,Z,Z,s4 _ _ hk,Z,?_⟩;have S5:Same H2 (upd H4 o (.lst ([V.ref O,V.ref lw].set 1 (.ref l2)))):=Ec (b6.trans s4) i1;have i2:=s4 _ _ hk;exact⟨S5,.ref l2,Aj,(by rw[BK f5];exact s4 _ _ a5),.inr ⟨lw,l2,Z,Z,(by rw[BK (λz=>by rw[z,hk]at hw;injection hw with hw;injection hw with hw;have:=congrArg List.head? hw;rcases g with _ | ⟨a,_ | ⟨b,g⟩⟩<;>cases hw)];exact s4 _ _ hw),(by rw[BK (λz=>by rw[z,hk]at b7;cases b7)];exact e4)⟩,Z⟩
 rintro σ H4 ⟨c2,kv,h9,f4,h5,rfl⟩;have T4:=T2.same c2;have W4:=W2.same c2;have S4:=S2.trans c2;refine⟨λσ H'=>Same H4 H'/\σ=[some (.ref D),some (.int N),some (.ref l),some x,some (.ref o),none,none,none,none,none,none,none],?_,?_⟩
 ·refine⟨_,Z,D,nl,3,Z,S4.seq hS,by decide,_,_,Z,Z,Oa,Z,_,Z,Mf (λ_=>?_) (λ_=>⟨Same.refl _,Z⟩)⟩;refine⟨_,Z,_,Z,_,Z,_,Z,D,nl,3,Z,S4.seq hS,by decide,l,ps,ms,x,N,_,Z,N1,Y,T4,λH' G=>⟨_,Z,Ar ⟨G,Z⟩⟩⟩
 rintro σ H5 ⟨a6,rfl⟩;have T5:=T4.same a6;have W5:=W4.same a6;have S5:=S4.trans a6;refine⟨λσ H'=>Same H5 H'/\∃(C:Y3) (ds:U3),H' C=some (.lst (ds.map V.ref))/\CW H' ds (wr g)/\σ=[some (.ref D),some (.int N),some (.ref l),some x,some (.ref o),some (.ref C),none,none,none,none,none,none],⟨_,Z,_,Z,x,N,g,Z,Y,W5,λC ds H' G h1 h2=>⟨G,C,ds,h1,h2,Z⟩⟩,?_⟩;rintro σ H6 ⟨e9,C,ds,c',c0,rfl⟩;have W6:=W5.same e9;have f2:(wr g).length<=19:=by rw[XS];have:=W6.2.2;omega
 have uo:=qQ W6.2.1;have pN:=N_ Y;refine⟨λσ H'=>Same H6 H'/\∃(y:Y3) (I:U3),H' y=some (.lst (I.map V.ref))/\Ey K H' I (wr (List.range N))/\σ=[some (.ref D),some (.int N),some (.ref l),some x,some (.ref o),some (.ref C),some (.ref y),none,none,none,none,none],⟨_,Z,.non,N,List.range N,Z,Y,⟨.inl ⟨Z,Z⟩,(λc hc=>Fb.mp hc),by rw[Ig];exact Y⟩,λy I H' _ G h1 h2=>⟨G,y,I,h1,h2,Z⟩⟩,?_⟩;rintro σ H7 ⟨a0,y,I,e0,c1,rfl⟩;refine⟨λσ H'=>Same H6 H'/\∃(y:Y3) (I:U3),H' y=some (.lst (I.map V.ref))/\Ey K H' I (wr g)/\σ=[some (.ref D),some (.int N),some (.ref l),some x,some (.ref o),some (.ref C),some (.ref y),none,none,none,none,none],?_,?_⟩
 ·rcases W6.1 with ⟨ew,es⟩ | ⟨lw,ew,hw⟩
  ·subst ew;rw[<-es]at c1;exact⟨_,Z,Z,_,Z,Gr (λz=>by cases z) (λ_=>⟨a0,y,I,e0,c1,Z⟩)⟩
  ·subst ew;refine⟨_,Z,Z,_,Z,Gr (λ_=>?_) (λz=>by cases z)⟩;exact⟨_,Z,_,Z,.ref lw,N,g,Z,Y,W6.same a0,λy I H' _ G h1 h2=>⟨a0.trans G,y,I,h1,h2,Z⟩⟩
 clear e0 c1 a0;rintro σ H8 ⟨a3,y,I,b',e2,rfl⟩;have b5:=a3 _ _ c';have e6:=c0.same a3;have lq:=Ey.length e2;have f6:=e6.length;refine⟨λσ H'=>H'=H8/\σ=[some (.ref D),some (.int N),some (.ref l),some x,some (.ref o),some (.ref C),some (.ref y),none,none,none,none,none],?_,?_⟩
 ·refine⟨_,Z,_,_,_,true,Z,Bg.lst b',XD K,_,Z,Ar ⟨_,Z,y,_,Z,.inl (Ag.of b'),_,Z,C,_,Z,.inl (Ag.of b5),Z,_,Z,K7 (λz=>absurd (by rw[Ax,Ax,lq,f6]) z) (λ_=>⟨Z,Z⟩)⟩⟩
 rintro σ H8 ⟨rfl,rfl⟩;refine⟨λσ H'=>Same H8 H'/\σ=[some (.ref D),some (.int N),some (.ref l),some x,some (.ref o),some (.ref C),some (.ref y),none,none,none,none,none],?_,?_⟩
 ·refine⟨_,Z,C,_,Z,.inl (Ag.of b5),_,Z,by omega,by rw[Ax];omega,λacc b1=>?_⟩;rw[Ej,Ax];refine WR (lo:=0) (n:=ds.length) (fr:=[some (.ref C),some (.ref y)]) (λi ys H'=>Same H8 H'/\H' acc=some (.lst ys)/\ys=(List.replicate i true).map V.bl) (Ce (by omega)) ⟨Aw b1 _,Aj,Z⟩ ?_ ?_
  ·rintro i ys HA NN hi hl ⟨SA,cA,rfl⟩ kN;rw[Pu];have iq:i<I.length:=by omega
   have h7:(ds.map V.ref)[i]?=some (.ref ds[i]):=by rw[Bo,Bm hi];rfl
   have h0:(I.map V.ref)[i]?=some (.ref I[i]):=by rw[Bo,Bm iq];rfl
   obtain⟨u,hu,tu⟩:=(e6.same SA).get (Bm hi);obtain⟨u',i0,tq⟩:=(e2.same SA).get (Bm iq);have:u'=u:=Option.some.inj (i0.symm.trans hu);subst this;refine⟨_,Z,_,Z,y,_,_,_,Z,Z,Ag.of (SA _ _ b'),JX h0,_,Z,_,Z,C,_,_,_,Z,Z,Ag.of (SA _ _ b5),JX h7,I[i],ds[i],u',u',Z,tq,Ak.of tu,λHB SB=>?_⟩;rw[DK rfl];refine kN _ _ (SB _ _ cA) ⟨Ec (SA.trans SB) b1,Aj,?_⟩;rw[List.replicate_succ',CJ];rfl
  rintro ys HB hl ⟨SB,cB,rfl⟩;refine⟨acc,List.replicate ds.length true,Z,Ag.of cB,_,Z,?_⟩;rw[show (List.replicate ds.length true).all id=true by simp];exact Ar ⟨SB,Z⟩
 rintro σ H9 ⟨e',rfl⟩;have d3:=e9.trans (a3.trans e');have T9:=T5.same d3;have m6:∀r∈ms,r.2.1<64/\r.2.2<64:=λr d=>⟨CK (T9.ok r d).f pN,CK (T9.ok r d).s pN⟩;refine⟨λσ H'=>Same H9 H'/\∃(S:Y3) (bs:W7),Ag K H' S (bs.map nI)/\Red bs/\(∀r∈ms,GJ.Sp bs (vm r))/\(∀b∈bs,GJ.Sp (ms.map vm) b)/\σ=[some (.ref D),some (.int N),some (.ref l),some x,some (.ref o),some (.ref C),some (.ref y),some (.ref S),none,none,none,none],⟨_,Z,l,ps,ms,Z,Ag.of T9.lst,T9.mks,T9.len,m6,λS H' bs G hb R _ sp sb=>⟨G,S,bs,hb,R,sp,sb,Z⟩⟩,?_⟩;rintro σ d0 ⟨a7,S,bs,hb,R,sp,sb,rfl⟩;have d4:=d3.trans a7;have f7:=S5.trans d4;refine⟨λσ H'=>H'=d0/\∃fr:Int,σ=[some (.ref D),some (.int N),some (.ref l),some x,some (.ref o),some (.ref C),some (.ref y),some (.ref S),some (.int fr),none,none,none],⟨_,Z,D,nl,3,Z,f7.seq hS,by decide,_,_,Z,Z,⟨by decide,by decide⟩,Z,_,Z⟩,?_⟩;rintro σ d0 ⟨rfl,fr,rfl⟩;have d5:(1:Int)*2^((N:Nat):Int).toNat=((2^N:Nat):Int):=ipow N;have d6:JH 1 ((N:Nat):Int):=⟨1,Jc,by omega,by omega⟩;have p0:=Ei N;have pz:(0:Int)<1*2^((N:Nat):Int).toNat:=by rw[d5];omega
 refine⟨λσ H'=>Same d0 H'/\∃(pm:Y3) (m:Mk),H' pm=some (T3 m)/\σ=[some (.ref D),some (.int N),some (.ref l),some x,some (.ref o),some (.ref C),some (.ref y),some (.ref S),some (.int fr),some (.ref pm),none,none],?_,?_⟩
 ·obtain⟨q,_,eq⟩:=HW fr (show 0<4 by decide);obtain⟨fl,_,ef⟩:=HW (fr / 4) p0;obtain⟨sg,_,es⟩:=HW (fr / 256) p0;refine⟨_,Z,_,_,Z,Z,Oa,_,Z,_,_,Z,Z,⟨by decide,by decide⟩,_,Z,_,_,Z,Z,d6,_,_,Z,Z,pz,_,Z,_,_,Z,Z,⟨by decide,by decide⟩,_,Z,_,_,Z,Z,d6,_,_,Z,Z,pz,t3,λpm b8=>⟨Aw b8 _,pm,(q,fl,sg),?_,Z⟩⟩;rw[Aj];show some (HO.tup [V.int (fr%4),V.int (fr / 4%((1:Int)*2^((N:Nat):Int).toNat)),V.int (fr / 256%((1:Int)*2^((N:Nat):Int).toNat))])=_;rw[d5,ef,es,show (fr%4:Int)=(q:Int) from eq]<;>rfl
 rintro σ f8 ⟨M,pm,m,b8,rfl⟩;have U:=d4.trans M;have b4:=(a3.trans e').trans (a7.trans M);have Pb:=T5.same U;have f':=W5.same U;refine⟨λσ H'=>Same f8 H'/\σ=[some (.ref D),some (.int N),some (.ref l),some x,some (.ref o),some (.ref C),some (.ref y),some (.ref S),some (.int fr),some (.ref pm),none,none],?_,?_⟩
 ·refine⟨_,Z,_,Z,l,pm,ps,ms,m,Z,Ag.of Pb.lst,Pb.mks,Eh Pb.len (by decide),Ak.of b8,λra H' G ea=>⟨Z,_,Z,Ar ?_⟩⟩;refine⟨_,Z,Z,_,Z,CQ (λc=>?_) (λc=>⟨G,Z⟩)⟩;refine⟨_,Z,.non,N,List.range N,Z,Y,⟨.inl ⟨Z,Z⟩,(λc hc=>Fb.mp hc),by rw[Ig];exact Y⟩,λh6 h4 i4 _ e8 h1 h2=>?_⟩;have ew:g=List.range N:=by
   rcases f'.1 with ⟨_,e⟩ | ⟨lw,e,_⟩
   ·exact e
   ·rw[c]at e;cases e
  have Sd:=b4.trans (G.trans e8);refine⟨_,Z,h6,C,h4,ds,(wr (List.range N)).map I3,(wr g).map I3,Z,Z,h1,Sd _ _ c',eV h2,eV (qK (c0.same Sd)),_,Z,?_⟩;show if (!decide ((wr (List.range N)).map I3=(wr g).map I3))=true then _ else _;rw[DK (by rw[ew])];exact Ar ⟨G.trans e8,Z⟩
 rintro σ h3 ⟨L,rfl⟩;have X:=U.trans L;have Uy:=T5.same X;have h8:=W5.same X;refine⟨λσ H'=>Same h3 H'/\∃(kd:Str) (td:V),((kd="told"/\∃r,td=.ref r/\Fj K H' r ms (wr g))\/(kd="pair"/\∃p2,td=.ref p2/\J8 K H' p2 ms (wr g)))/\σ=[some (.ref D),some (.int N),some (.ref l),some x,some (.ref o),some (.ref C),some (.ref y),some (.ref S),some (.int fr),some (.ref pm),some (.str kd),some td],?_,?_⟩
 ·refine⟨_,Z,_,Z,_,Z,_,Z,_,_,Z,Z,⟨by decide,by decide⟩,_,_,Z,Z,jf,Z,.ref l,x,N,_,Z,N1,Y,.inr ⟨l,ps,ms,g,Z,Uy,h8,λt r H' G et t3=>?_,λt p2 H' G et pt=>?_⟩⟩
  ·exact⟨t,_,Z,Ak.of et,Z,_,_,Z,_,_,Z,Z,G,"told",.ref r,.inl ⟨Z,r,Z,t3⟩,Z⟩
  ·exact⟨t,_,Z,Ak.of et,Z,_,_,Z,_,_,Z,Z,G,"pair",.ref p2,.inr ⟨Z,p2,Z,pt⟩,Z⟩
 rintro σ e1 ⟨J,kd,td,kt,rfl⟩;have a9:=X.trans J;have T:=a6.trans a9;have Kf:=T5.same a9;have b0:=T _ _ h9;have b9:=T _ _ f4;have e7:=h5.same T;refine⟨λσ H'=>H'=e1/\σ=[some (.ref D),some (.int N),some (.ref l),some x,some (.ref o),some (.ref C),some (.ref y),some (.ref S),some (.int fr),some (.ref pm),some (.str kd),some td],?_,?_⟩
 ·refine⟨_,Z,_,Z,o,_,_,_,Z,Z,Ag.of b0,Z,l,O,ps.map V.ref,Z,Z,Ag.of Kf.lst,Ag.of b9,(λv hv=>by obtain⟨p,_,rfl⟩:=DY.mp hv;exact .inr ⟨p,Z⟩),_,Z,Ar ⟨_,Z,_,Z,o,_,_,kv,Z,Z,Ag.of b0,Z,?_⟩⟩;rcases e7 with ⟨rfl,rfl⟩ | ⟨lw,l2,rfl,rfl,a1,a2⟩
  ·exact .inl ⟨Z,_,Z,Ar ⟨Z,Z⟩⟩
  ·rw[ows]at a1 a2;refine .inr ⟨lw,l2,_,_,Z,Z,Ag.of a1,Ag.of a2,_,Z,?_⟩;show if (!decide (_=_))=true then _ else _;rw[DK rfl];exact Ar ⟨Z,Z⟩
 rintro σ e1 ⟨rfl,rfl⟩;have a':=b4.trans (L.trans J);have c7:=M.trans (L.trans J);have b3:=a' _ _ c';have a8:=c0.same a';have b2:=c7.seq hb;have f3:ms.length<=12:=Eh Kf.len (by decide);have u6:∀u∈wr g,u.2.1<64/\u.2.2<64:=λu hu=>⟨CK (uo u hu).f pN,CK (uo u hu).s pN⟩;rcases kt with ⟨rfl,r,rfl,t3⟩ | ⟨rfl,p2,rfl,p,q,j,i,hp2,hp,hq,jl,il,ae,ap⟩
 ·refine⟨_,Z,Z,_,Z,CQ (λz=>absurd (V.str.inj z) (by decide +kernel)) (λ_=>?_)⟩;refine⟨_,Z,Z,_,Z,CQ (λ_=>?_) (λz=>absurd rfl z)⟩;exact⟨_,Z,_,Z,_,Z,_,Z,r,C,l,S,ds,ps,wr g,ms,bs,Z,t3,b3,a8,f2,Ag.of Kf.lst,Kf.mks,f3,b2,R,(λr d=>⟨(m6 r d).1,sp r d⟩),u6,λH' _=>kk H'⟩
 ·refine⟨_,Z,Z,_,Z,CQ (λ_=>?_) (λz=>absurd rfl z)⟩;exact⟨_,Z,_,Z,_,Z,_,Z,p2,C,l,S,p,q,ds,ps,wr g,ms,bs,j,i,Z,Ak.of hp2,b3,a8,f2,Ag.of Kf.lst,Kf.mks,f3,b2,R,sb,(λr d=>(m6 r d).1),u6,hp,hq,jl,il,ae,ap,λH' _=>kk H'⟩
end
end Av
namespace Av
open L2 Pc Dv Ez Fy
section
variable {P:U8}{w:W1}{K:U0}{mg:U4}{base:Heap}{k:Nat}{h:Heap}
theorem yG(F:Ab K "_law_whole" (top 43) .none)(X:K.In h)(G:Ng h mg)(B:Bs mg):Ao P w K mg base (k+1) "_law_whole" ["_law_found"] Qg:=by
 refine F.cal X G ["_law_found"] λb H vs Q E a h=>?_;obtain⟨i,rfl,q⟩:=h;refine⟨_,(@Al _ _ _ (BL (Oz (Bc Ja rfl B.isinstance Ea (Aa (pv 0) (Aa (HX (v:=.ty "int") rfl B.int QW rfl) Ad))) (Mp (O1 (Bc Ja rfl B.isinstance Ea (Aa (pv 0) (Aa (HX (v:=.ty "bool") rfl B.bool boot_bool rfl) Ad)))))))),?_⟩;try dsimp only[Cm]
 refine⟨_,Z,_,_,_,true,Z,Bg.int i,gJ K,_,Z,Cq ?_⟩;exact⟨_,Z,_,_,_,false,Z,Bg.int i,gH K,_,Z,q⟩
end
theorem vK{K:U0}{C f:Y3}{qual:Str}{st:Stmt}{bm:U5}(x:Dy K C f qual st bm):ClsAt K C bm:=by
 obtain⟨N,nm,q,bs,hdct,sn,sub,ab,col,dd,k0,k1,k2,k3,k5,l,_⟩:=x.cl;exact⟨N,nm,q,bs,hdct,sn,sub,ab,col,dd,k0,k1,k2,k3,k5,l⟩
end Av
noncomputable section
namespace Av
open L2
variable{l:PySem.W.OpenLaw}
theorem X7d{w:W1}{K:U0}{h:Heap}{mg:U4}{fa f:Y3}(X:K.In h)(G:Ng h mg)(hfa:mg "law"=some (.ref fa))
  {od an:W9}{sl:W8}{oc kV dc pm cd ct:W3}{aP CT CU D fi Dw Dm Dt A_NoAmount A_NoMark A_NoBoard A_NoMove A_NoCell A_NeverSo A_NoShare A_NoText A_NotBorne:Y3}{bT bU bD:U5}{odP odw odm odt:W9}{slP slw slm slt:W8}{ocw ocm oct:W3}{nP nw nm nt:Nat}{d0 d1 d2:Tok}
  (aL:PySem.W.nsIn K mainGlobals "law"=some (some (.ref f))) (lL:K.lookup f=some ⟨oc,od,.func (PySem.W.fnOf "law" "law" (Eb (top 62)) (DN (top 62)) (Br (top 62)) .none kV dc pm an cd ct),sl⟩) (cL:PySem.W.codeIn K cd "law"=true) (kL:PySem.W.keepIn K (.ref f)=true)
  (t14:Ab K "is_whole" (top 14) .none)
  (t16:Ab K "ones" (top 16) .none)
  (t17:Ab K "is_word" (top 17) .none)
  (t18:Ab K "is_mark" (top 18) .none)
  (t19:Ab K "is_even" (top 19) .none)
  (t20:Ab K "is_even_mark" (top 20) .none)
  (t21:Ab K "commute" (top 21) .none)
  (t22:Ab K "product" (top 22) .none)
  (t24:Ab K "solved" (top 24) .none)
  (t25:Ab K "cleared" (top 25) .none)
  (t26:Ab K "places_at_one" (top 26) .none)
  (t27:Ab K "solution" (top 27) .none)
  (t30:Ab K "is_table" (top 30) .none)
  (t31:Ab K "commutes_with_all" (top 31) .none)
  (t32:Ab K "check_table" (top 32) .none)
  (t33:Ab K "made_of" (top 33) .none)
  (t34:Ab K "rows_with" (top 34) .none)
  (t35:Ab K "product_of" (top 35) .none)
  (t36:Ab K "apart_by" (top 36) .none)
  (t38:Ab K "wrongs" (top 38) (.ref Dw))
  (t39:Ab K "answers" (top 39) .none)
  (t40:Ab K "mends" (top 40) (.ref Dm))
  (t42:Ab K "_law_cell_at" (top 42) .none)
  (t43:Ab K "_law_whole" (top 43) .none)
  (t44:Ab K "_law_ones" (top 44) .none)
  (t45:Ab K "_law_apart" (top 45) .none)
  (t46:Ab K "_law_order" (top 46) .none)
  (t47:Ab K "_law_written" (top 47) .none)
  (t48:Ab K "_law_left_over" (top 48) .none)
  (t49:Ab K "_law_basis" (top 49) .none)
  (t50:Ab K "_law_kept" (top 50) .none)
  (t51:Ab K "_law_table_by" (top 51) .none)
  (t52:Ab K "_law_where_by" (top 52) .none)
  (t53:Ab K "_law_is_mark" (top 53) .none)
  (t54:Ab K "_law_wrongs" (top 54) .none)
  (t55:Ab K "_law_is_another" (top 55) .none)
  (t56:Ab K "_law_told" (top 56) (.ref Dt))
  (t57:Ab K "_law_answered" (top 57) .none)
  (t58:Ab K "_law_with" (top 58) .none)
  (t59:Ab K "_law_pair" (top 59) .none)
  (t60:Ab K "_law_mends" (top 60) .none)
  (t61:Ab K "_law_no_table" (top 61) .none)
  (z0:PySem.W.nsIn K mainGlobals "isinstance"=some none)
  (z1:PySem.W.nsIn K mainGlobals "int"=some none)
  (z2:PySem.W.nsIn K mainGlobals "bool"=some none)
  (z3:PySem.W.nsIn K mainGlobals "tuple"=some none)
  (z4:PySem.W.nsIn K mainGlobals "list"=some none)
  (z5:PySem.W.nsIn K mainGlobals "len"=some none)
  (z6:PySem.W.nsIn K mainGlobals "range"=some none)
  (z7:PySem.W.nsIn K mainGlobals "enumerate"=some none)
  (z8:PySem.W.nsIn K mainGlobals "sorted"=some none)
  (z9:PySem.W.nsIn K mainGlobals "sum"=some none)
  (z10:PySem.W.nsIn K mainGlobals "str"=some none)
  (z11:PySem.W.nsIn K mainGlobals "all"=some none)
  (z12:PySem.W.nsIn K mainGlobals "any"=some none)
  (z13:PySem.W.nsIn K mainGlobals "min"=some none)
  (z14:PySem.W.nsIn K mainGlobals "max"=some none)
  (gP0:PySem.W.nsIn K mainGlobals "PRODUCT_OF_NONE"=some (some (.ref aP)))
  (tP:K.lookup aP=some ⟨.type "tuple",odP,.seq #[.int 0 d0,.int 0 d1,.int 0 d2] nP,slP⟩)
  (tw:K.lookup Dw=some ⟨ocw,odw,.seq #[.none] nw,slw⟩)
  (tm:K.lookup Dm=some ⟨ocm,odm,.seq #[.none] nm,slm⟩)
  (tt:K.lookup Dt=some ⟨oct,odt,.seq #[.bool true] nt,slt⟩)
  (aT:PySem.W.nsIn K mainGlobals "NoTable"=some (some (.ref CT)))
  (aU:PySem.W.nsIn K mainGlobals "Unguarded"=some (some (.ref CU)))
  (aD:PySem.W.nsIn K mainGlobals "BoardError"=some (some (.ref D)))
  (zV:PySem.W.nsIn K mainGlobals "ValueError"=some none)
  (xT:ExcAt K CT bT)
  (xD:ExcAt K D bD)
  (ia:Dy K CU fi "Unguarded.__init__" (JB (top 12) 0) bU)
  (na:Bj K CU "one")
  (nb:Bj K CU "other")
  (subT:(Value.ref CT::bT).contains (.ref D)=true)
  (noT:(Value.ref CT::bT).contains (.ref CU)=false)
  (subU:(Value.ref CU::bU).contains (.ref CU)=true)
  (kT:PySem.W.Ep K CT)
  (oTT:PySem.W.kitOne K (.ref CT) (.ref CT)=some true)
  (oUT:PySem.W.kitOne K (.ref CU) (.ref CT)=some false)
  (oUD:PySem.W.kitOne K (.ref CU) (.ref D)=some true)
  (vT:PySem.W.kitOne K (.ref CT) (.type "ValueError")=some true)
  (vU:PySem.W.kitOne K (.ref CU) (.type "ValueError")=some true)
  (n_NoAmount:PySem.W.nsIn K mainGlobals "NoAmount"=some (some (.ref A_NoAmount)))
  (q_NoAmount:PySem.W.kitOne K (.ref CT) (.ref A_NoAmount)=some false)
  (u_NoAmount:PySem.W.kitOne K (.ref CU) (.ref A_NoAmount)=some false)
  (n_NoMark:PySem.W.nsIn K mainGlobals "NoMark"=some (some (.ref A_NoMark)))
  (q_NoMark:PySem.W.kitOne K (.ref CT) (.ref A_NoMark)=some false)
  (u_NoMark:PySem.W.kitOne K (.ref CU) (.ref A_NoMark)=some false)
  (n_NoBoard:PySem.W.nsIn K mainGlobals "NoBoard"=some (some (.ref A_NoBoard)))
  (q_NoBoard:PySem.W.kitOne K (.ref CT) (.ref A_NoBoard)=some false)
  (u_NoBoard:PySem.W.kitOne K (.ref CU) (.ref A_NoBoard)=some false)
  (n_NoMove:PySem.W.nsIn K mainGlobals "NoMove"=some (some (.ref A_NoMove)))
  (q_NoMove:PySem.W.kitOne K (.ref CT) (.ref A_NoMove)=some false)
  (u_NoMove:PySem.W.kitOne K (.ref CU) (.ref A_NoMove)=some false)
  (n_NoCell:PySem.W.nsIn K mainGlobals "NoCell"=some (some (.ref A_NoCell)))
  (q_NoCell:PySem.W.kitOne K (.ref CT) (.ref A_NoCell)=some false)
  (u_NoCell:PySem.W.kitOne K (.ref CU) (.ref A_NoCell)=some false)
  (n_NeverSo:PySem.W.nsIn K mainGlobals "NeverSo"=some (some (.ref A_NeverSo)))
  (q_NeverSo:PySem.W.kitOne K (.ref CT) (.ref A_NeverSo)=some false)
  (u_NeverSo:PySem.W.kitOne K (.ref CU) (.ref A_NeverSo)=some false)
  (n_NoShare:PySem.W.nsIn K mainGlobals "NoShare"=some (some (.ref A_NoShare)))
  (q_NoShare:PySem.W.kitOne K (.ref CT) (.ref A_NoShare)=some false)
  (u_NoShare:PySem.W.kitOne K (.ref CU) (.ref A_NoShare)=some false)
  (n_NoText:PySem.W.nsIn K mainGlobals "NoText"=some (some (.ref A_NoText)))
  (q_NoText:PySem.W.kitOne K (.ref CT) (.ref A_NoText)=some false)
  (u_NoText:PySem.W.kitOne K (.ref CU) (.ref A_NoText)=some false)
  (n_NotBorne:PySem.W.nsIn K mainGlobals "NotBorne"=some (some (.ref A_NotBorne)))
  (q_NotBorne:PySem.W.kitOne K (.ref CT) (.ref A_NotBorne)=some false)
  (u_NotBorne:PySem.W.kitOne K (.ref CU) (.ref A_NotBorne)=some false)
  : ∃fd:FuncData,(∀(s:U7) (v:W3),BindsTo s fd ⟨[v],[]⟩ [("_law_script",v)])/\∀base:Heap,K.In base->base.Ns mainGlobals mg->Ca l.prog w K mg base G_ 10 fa fd ["_law_script"] (IV K 63):=by
 have e:=hfa.symm.trans (GZ X G aL);cases e;have F:=X6o (st:=top 62) lL cL kL;have B:Bs mg:=⟨Hi X G z0,Hi X G z1,Hi X G z2,Hi X G z3,Hi X G z4,Hi X G z5,Hi X G z6,Hi X G z7,Hi X G z8,Hi X G z9,Hi X G z10,Hi X G z11,Hi X G z12,Hi X G z13,Hi X G z14⟩;refine⟨PySem.W.fnOf "law" "law" (Eb (top 62)) (DN (top 62)) (Br (top 62)) .none kV dc pm an cd ct,λs v=>.of_eq rfl,λbase _ _=>?_⟩;have gP:=GZ X G gP0;have ex:Pk K mg CT CU D bT bU bD:=⟨GZ X G aT,GZ X G aU,GZ X G aD,Hi X G zV,xT,xD,vK ia,ia.tail,subT,noT,subU,kT,ia.g,oTT,oUT,oUD,vT,vU,A_NoAmount,GZ X G n_NoAmount,q_NoAmount,u_NoAmount,A_NoMark,GZ X G n_NoMark,q_NoMark,u_NoMark,A_NoBoard,GZ X G n_NoBoard,q_NoBoard,u_NoBoard,A_NoMove,GZ X G n_NoMove,q_NoMove,u_NoMove,A_NoCell,GZ X G n_NoCell,q_NoCell,u_NoCell,A_NeverSo,GZ X G n_NeverSo,q_NeverSo,u_NeverSo,A_NoShare,GZ X G n_NoShare,q_NoShare,u_NoShare,A_NoText,GZ X G n_NoText,q_NoText,u_NoText,A_NotBorne,GZ X G n_NotBorne,q_NotBorne,u_NotBorne⟩;have sP:∀H:Hp,Ak K H aP (L3 (0,0,0)):=λH=>.inr ⟨_,_,_,tP,Z,Z,(by show 3<=sizeLine;decide),.cons ⟨_,Z⟩ (.cons ⟨_,Z⟩ (.cons ⟨_,Z⟩ .nil))⟩;have a:=X2q (P:=l.prog) (w:=w) (base:=base) (k:=0) t16 X G;have p:=zA t22 X G a;have C:=yt (P:=l.prog) (w:=w) (base:=base) (k:=0) t25 X G;have Q:=yI (P:=l.prog) (w:=w) (base:=base) (k:=0) t26 X G B;have I:=zj t27 X G B a;have a5:=yK (k:=2) t24 X G B (C.mono (by decide)) (Q.mono (by decide)) I;have M:=zc (P:=l.prog) (w:=w) (base:=base) (k:=0) t34 X G B;have a4:=yJ t35 X G gP sP p;have R:=vh t36 X G B a;have n:=yH (k:=3) t33 X G B (M.mono (by decide)) a5 (R.mono (by decide)) a4;have O:=yu (P:=l.prog) (w:=w) (base:=base) (k:=0) t14 X G B;have pW:=zp (P:=l.prog) (w:=w) (base:=base) (k:=0) t14 X G B;have V:=wB t17 X G pW;have J:=zJ (k:=2) t18 X G B (pW.mono (by decide)) V;have a3:=zH t19 X G a;have a1:=yM (k:=3) t20 X G J (a3.mono (by decide));have r:=za t21 X G a;have A:=zG t31 X G B r;have z:=zm (k:=4) t30 X G B (O.mono (by decide)) a1 (A.mono (by decide)) n;have a0:=yE t32 X G (vW z);have x1:=zK t32 X G ex z;have ci:DW l.prog w K mg base 5 CU bU "one" "other":=X2t ia na nb;have xw:=yL tw (P:=l.prog) (w:=w) (base:=base) (k:=0) t38 X G B gP sP;have q:=yr t39 X G B r;have xm:=vq tm (k:=5) t40 X G B (GZ X G aU) ci a0 x1 (xw.c.mono (by decide)) (q.mono (by decide)) (p.mono (by decide)) (n.mono (by decide));have oT:∀g,GQ g l.prog w K mg base 7 "_law_is_another" ["_law_e"] (FQ CT g):=λg=>(nG (g:=g) (P:=l.prog) (w:=w) (base:=base) (k:=0) t55 X G B ex.oT).mono (by decide);have oU:∀g,GQ g l.prog w K mg base 7 "_law_is_another" ["_law_e"] (FQ CU g):=λg=>(nG (g:=g) (P:=l.prog) (w:=w) (base:=base) (k:=0) t55 X G B ex.oU).mono (by decide);have E:=X2o tt (k:=7) t56 X G B ex na nb xm oT oU;have t:=X2u (P:=l.prog) (w:=w) (base:=base) (k:=0) t42 X G B;have j:=yG (P:=l.prog) (w:=w) (base:=base) (k:=0) t43 X G B;have d:=vp (P:=l.prog) (w:=w) (base:=base) (k:=0) t44 X G;have x:=X5m t45 X G d;have o:=wA (P:=l.prog) (w:=w) (base:=base) (k:=0) t46 X G B;have a6:=zF t47 X G B d;have b:=X2r (P:=l.prog) (w:=w) (base:=base) (k:=0) t48 X G B;have y:=vo B.sorted t49 X G B b;have a7:=X2s (k:=2) t50 X G B (d.mono (by decide)) x (b.mono (by decide)) y;have S:=zB (k:=3) t51 X G B (t.mono (by decide)) (a6.mono (by decide)) (o.mono (by decide)) a7;have L:=zE t52 X G B o;have m:=yw t53 X G B j;have U:=yx (P:=l.prog) (w:=w) (base:=base) (k:=0) t54 X G B;have i:=zZ (k:=3) t57 X G B (j.mono (by decide)) (x.mono (by decide)) q;have u:=X2n (P:=l.prog) (w:=w) (base:=base) (k:=0) t58 X G;have Y:=X2p (k:=4) t59 X G B (m.mono (by decide)) i (b.mono (by decide)) (u.mono (by decide));have T:=yF (k:=4) t60 X G B (j.mono (by decide)) (m.mono (by decide)) i (b.mono (by decide)) (u.mono (by decide));have a2:=X5k (k:=8) t61 X G B E;have N:Lf l.prog w K mg base 9:=⟨E.c.mono (by decide),E.d1.mono (by decide)⟩;exact X5l (k:=9) (by decide) F B (t.mono (by decide)) (S.mono (by decide)) (L.mono (by decide)) a2 (U.mono (by decide)) (xw.mono (by decide)) (m.mono (by decide)) (y.mono (by decide)) (i.mono (by decide)) N (Y.mono (by decide)) (T.mono (by decide))
theorem walk{q:U8}{loose:W0}{XP:(Str->Option Value)->Heap->Prop}{YP:World->Heap->Prop}{d:DefRec}{K:Params->U0}(hn:l.most=some 63)(hdf:d.params.defaults=[])
  (hY:∀(w:W1) (h:Heap),YP w h->(K w.params).In h)
  (F:∀(w:W1) (mg:U4) (fa:Y3) (h:Heap),(K w.params).In h->h.Ns mainGlobals mg->mg d.name=some (.ref fa) ->
   ∃fd:FuncData,(∀(s:U7) (u:W3),BindsTo s fd ⟨[u],[]⟩ [("_law_script",u)])/\∀base:Heap,(K w.params).In base->base.Ns mainGlobals mg->Ca l.prog w (K w.params) mg base G_ 10 fa fd ["_law_script"] (IV (K w.params) 63)):
  PySem.W.WalkO q loose XP YP l.row.toRowW d [] (λf vs=>PySem.call f vs):=
 L2.X1j (n:=63) (k:=10) (x:="_law_script") (CX:=λ_=>G_) (sp:=λw=>IV (K w.params) 63) hn (by decide) hdf ⟨Z,by decide,by decide⟩ hY F (λ_ _ a ns c lt b=>⟨a,ns,Z,b,c,λ_=>rfl⟩) λ_ _ _ _ _ z=>z
end Av
open PySem.W
set_option maxRecDepth 100000 in
set_option maxHeartbeats 0 in
theorem PySem.Challenge.cw_spinboard_k81_mends_walked_or_the_pair_holds : PySem.Challenge.rw_spinboard_k81_mends_walked_or_the_pair.Holds := by
 refine holds_law Av.Hd.RZ λsaid=>?_
 refine holds_open (q:=Av.Hd.qq) (loose:=Av.Hd.loose) (Xt:=Av.Hd.Xt) (XP:=XL Av.Hd.qq Av.Hd.lv) (Yf:=Av.Hd.HH.obs) (Ya:=Av.Hd.HH.val) (YP:=Av.Hd.HH.says) (d:=⟨"law",L2.Eb (Av.top 62),L2.DN (Av.top 62),L2.Br (Av.top 62),Av.Hd.cg (Av.top 62)⟩) (kwd:=[]) (N:=Av.Hd.NN) Av.Hd.TV Av.Hd.HH.of Av.Hd.HH.keeps (λs e=>xl_of s (Bool.and_eq_true_iff.mp e).1) XL.keeps (by kernel_rfl) (by kernel_rfl) (by kernel_rfl) (λs e=>recFacts_of (Bool.and_eq_true_iff.mp e).2) (by kernel_rfl) said (by kernel_rfl) ⟨Z,Z,Z,Z,Z,by decide +kernel⟩ ?hw ?hc
 case hw=>w_witness2
 refine Av.walk (l:=PySem.Challenge.rw_spinboard_k81_mends_walked_or_the_pair) rfl rfl (λw h Y=>PySem.W.kIn_of Y) ?F
 case F =>
  intro w mg fa h KX G hmg
  refine' Av.X7d (K:=Av.Hd.KK w.params) (f:=457) (aP:=263) (CT:=121) (CU:=178) (D:=24) (fi:=175) (Dw:=303) (Dm:=316) (Dt:=414) (A_NoAmount:=49) (A_NoMark:=61) (A_NoBoard:=73) (A_NoMove:=85) (A_NoCell:=97) (A_NeverSo:=109) (A_NoShare:=37) (A_NoText:=140) (A_NotBorne:=159) KX G hmg ?_ (Av.Hd.Y5 _) ?_ ?_ (Av.Hd.fz "spinboard.shares" 412 187 186) (Av.Hd.fz "spinboard.marks" 421 194 193) (Av.Hd.fz "spinboard.marks" 421 201 200) (Av.Hd.fz "spinboard.marks" 421 208 207) (Av.Hd.fz "spinboard.marks" 421 215 214) (Av.Hd.fz "spinboard.marks" 421 222 221) (Av.Hd.fz "spinboard.marks" 421 229 228) (Av.Hd.fz "spinboard.marks" 421 236 235) (Av.Hd.fz "spinboard.bits" 480 243 242) (Av.Hd.fz "spinboard.bits" 480 250 249) (Av.Hd.fz "spinboard.bits" 480 255 254) (Av.Hd.fz "spinboard.bits" 480 262 261) (Av.Hd.fz "spinboard.tables" 519 268 267) (Av.Hd.fz "spinboard.tables" 519 273 272) (Av.Hd.fz "spinboard.tables" 519 280 279) (Av.Hd.fz "spinboard.tables" 519 285 284) (Av.Hd.fz "spinboard.tables" 519 290 289) (Av.Hd.fz "spinboard.tables" 519 297 296) (Av.Hd.fz "spinboard.tables" 519 302 301) (Av.Hd.uU _) (Av.Hd.fz "spinboard.guards" 572 315 314) (Av.Hd.uR _) (Av.Hd.fz "law_spinboard_k81_mends_walked_or_the_pair" 603 330 329) (Av.Hd.fz "law_spinboard_k81_mends_walked_or_the_pair" 603 337 336) (Av.Hd.fz "law_spinboard_k81_mends_walked_or_the_pair" 603 344 343) (Av.Hd.fz "law_spinboard_k81_mends_walked_or_the_pair" 603 351 350) (Av.Hd.fz "law_spinboard_k81_mends_walked_or_the_pair" 603 358 357) (Av.Hd.fz "law_spinboard_k81_mends_walked_or_the_pair" 603 365 364) (Av.Hd.fz "law_spinboard_k81_mends_walked_or_the_pair" 603 372 371) (Av.Hd.fz "law_spinboard_k81_mends_walked_or_the_pair" 603 377 376) (Av.Hd.fz "law_spinboard_k81_mends_walked_or_the_pair" 603 382 381) (Av.Hd.fz "law_spinboard_k81_mends_walked_or_the_pair" 603 387 386) (Av.Hd.fz "law_spinboard_k81_mends_walked_or_the_pair" 603 394 393) (Av.Hd.fz "law_spinboard_k81_mends_walked_or_the_pair" 603 399 398) (Av.Hd.fz "law_spinboard_k81_mends_walked_or_the_pair" 603 406 405) (Av.Hd.fz "law_spinboard_k81_mends_walked_or_the_pair" 603 413 412) (Av.Hd.uQ _) (Av.Hd.fz "law_spinboard_k81_mends_walked_or_the_pair" 603 426 425) (Av.Hd.fz "law_spinboard_k81_mends_walked_or_the_pair" 603 433 432) (Av.Hd.fz "law_spinboard_k81_mends_walked_or_the_pair" 603 440 439) (Av.Hd.fz "law_spinboard_k81_mends_walked_or_the_pair" 603 445 444) (Av.Hd.fz "law_spinboard_k81_mends_walked_or_the_pair" 603 452 451) ?_ ?_ ?_ ?_ ?_ ?_ ?_ ?_ ?_ ?_ ?_ ?_ ?_ ?_ ?_ ?_ (Av.Hd.ZD _) (Av.Hd.ZC _) (Av.Hd.Y9 _) (Av.Hd.Y7 _) ?_ ?_ ?_ ?_ (L2.excAt (Av.Hd.ZJ _) ?_ ?_ ?_) (L2.excAt (Av.Hd.tV _) ?_ ?_ ?_) (L2.Oe (Av.Hd.ZF _) ?_ ?_ ?_ (Av.Hd.ZG _) ?_ ?_ ?_ ?_ ⟨?_,?_,(λod=>by kernel_rfl),?_,?_,?_,?_⟩) (by unfold L2.Bj;kernel_rfl) (by unfold L2.Bj;kernel_rfl) ?_ ?_ ?_ ⟨?_,?_,(λod=>by kernel_rfl),?_,?_,?_,?_⟩ ?_ ?_ ?_ ?_ ?_ ?_ ?_ ?_ ?_ ?_ ?_ ?_ ?_ ?_ ?_ ?_ ?_ ?_ ?_ ?_ ?_ ?_ ?_ ?_ ?_ ?_ ?_ ?_ ?_ ?_ ?_ ?_
  all_goals kernel_rfl
