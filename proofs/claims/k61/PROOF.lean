import PyProof.Rows.All
import Wide.All
import OpenK.AllK
import Wide.FinOn
import Lean
import PyProof.EqAt
import PyProof.EqKinds
import PyProof.TupleCall
import PyProof.Rows.BitMore
import PyProof.ConsumeWalk
import PyProof.Rows.SetFrom
import PyProof.WalksMore
import PyProof.FactsAll.subtypes_4
import PyProof.Rows.SortWalk
import PyProof.Rows.TupDisplay
import PyProof.EnumMake
import PyProof.Rows.EnumRows
import PyProof.SumAny
import PyProof.Rows.MinMaxN
import PyProof.NeKinds
import PyProof.StationsW
import PyProof.ExcClass3
import PyProof.ExcBaseAll.ValueError
import PyProof.RulesAs
import PyProof.ExcArgsOwn
import PyProof.ExcAttrAll.ValueError
import PyProof.InstStoreFacts
import PyProof.ExcClass2
import PyProof.ExcInit
import PyProof.NsDelKeeps
import PyProof.Seq
import PyProof.Walks
import PyProof.Rows.CatchTuple
import PySem.Challenge.RW_spinboard_k61_whole_the_board_of_a_table
noncomputable section
open PySem PySem.Spec PyProof.Rows
theorem U{α:Sort u}{a:α}:a=a:=rfl
abbrev U0:=PySem.W.Frag
abbrev U1:=List (Addr×Obj)
abbrev U2:=Value->Shared->Prop
abbrev U3:=List Addr
abbrev U4:=Str->Option Value
abbrev U5:=List Value
abbrev U6:=List Int
abbrev U7:=Shared
abbrev U8:=Program
abbrev U9:=Array Value
abbrev W0:=List Str
abbrev W1:=World
abbrev W2:=Value
abbrev W3:=List Nat
abbrev W4:=Array (Option Value)
abbrev W5:=Option Addr
abbrev W6:=Around
abbrev W7:=List (Option Nat)
abbrev W8:=List Stmt
abbrev W9:=Addr
noncomputable abbrev Ng (h:Heap)(m:Str->Option Value):=h.Ns mainGlobals m
set_option linter.all false
section
open PySem.W
def Bp:=@List.getD_eq_getElem?_getD
def Az:=@List.length_map
def Aw:=@wpAny_bind
def Cm:=@List.getElem?_eq_getElem
def Bu:=@List.getElem?_map
def Ca:=@List.map_append
def Dt:=@Option.map_eq_some_iff
def Bd:=@Nat.le_refl
def Cu:=@Nat.lt_of_lt_of_le
def DK:=@List.mem_singleton
def Ef:=@Heap.get?_push_of_some
def Fe:=@List.getElem?_eq_some_iff
def DP:=@List.length_append
def CN:=@Heap.lt_size
def Cq:=@Nat.two_pow_pos
def Bl:=@wpAny_pure
def Er:=@List.mem_of_getElem?
def FQ:=@List.mem_append_right
def DR:=@List.mem_append
def Dh:=@decide_eq_false
def Fw:=@Nat.pow_le_pow_right
def FP:=@Nat.xor_lt_two_pow
def Fj:=@Heap.get?_push_size
def Ep:=@List.size_toArray
def FN:=@Int.toNat_natCast
def Dr:=@decide_eq_true
def Dg:=@List.mem_cons
def GJ:=@Bool.false_ne_true
def DY:=@Nat.ne_of_lt
def GF:=@Bool.and_eq_true
def Ew:=@List.mem_range
def Gs:=@List.take_add_one
def Gk:=@List.length_take
def Ka:=@Nat.mod_two_eq_zero_or_one
def FJ:=@List.map_cons
def Fv:=@PySem.boot_len
def El:=@List.mem_map
def JG:=@List.mem_append_left
def Gz:=@List.all_eq_true
def Fq:=@Nat.xor_assoc
def Ed:=@Nat.zero_le
def E_:=@Nat.le_trans
def Iv:=@PySem.W.mg_none_of
def Iu:=@Option.toList_some
def Jl:=@Nat.pow_lt_pow_right
def JT:=@Array.length_toList
def Ia:=@List.take_length
def Ir:=@List.not_mem_nil
def GX:=@Nat.and_comm
def IW:=@boot_isinstance
def Od:=@PySem.F.slot_int_bit_length
def IV:=@Nat.not_lt_zero
def JR:=@of_decide_eq_true
def KZ:=@List.mem_cons_of_mem
def Eu:=@Nat.mod_lt
def Jk:=@decide_eq_true_eq
def O_:=@PySem.F.type_int_bit_length
def IK:=@PySem.W.mg_of
def GD:=@wpAny_mono
def M5:=@Nat.eq_of_testBit_eq
def Qi:=@List.getElem?_append_right
def KY:=@Nat.mod_eq_of_lt
def KR:=@Nat.lt_succ_self
def H_:=@Int.zero_add
def M4:=@Nat.testBit_two_pow
def UG:=@Nat.testBit_eq_decide_div_mod_eq
def O9:=@PySem.F.plainAttrs_int
def Le:=@wpAny_newObj_type
def Qh:=@Nat.and_xor_distrib_left
def Mz:=@List.mem_cons_self
def Mx:=@Bool.false_eq_true
def Kz:=@PySem.W.kia_one
def Ld:=@List.length_drop
def Rg:=@List.getElem?_append_left
def JQ:=@Nat.xor_self
def JN:=@Nat.xor_comm
def O8:=@List.mem_iff_getElem
def Qg:=@List.length_singleton
def KQ:=@Nat.pow_succ'
def Qf:=@List.mem_of_mem_take
def Rf:=@Heap.get?_update_other
def Mw:=@Nat.testBit_xor
def Lb:=@Heap.size_push
def Ky:=@wpAny_holding
def Oc:=@Nat.zero_testBit
def Ob:=@List.length_cons
def Oa:=@List.getElem_mem
def O7:=@wpAny_truthy_bool
def T_:=@PySem.F.type_list_append
def Tz:=@PySem.F.slot_list_append
def O6:=@List.foldl_append
def Rc:=@Heap.get?_update_self
def Tw:=@PySem.F.plainAttrs_list
def OJ:=@Nat.testBit_and
def Rb:=@List.getElem?_set_ne
def Tv:=@List.take_of_length_le
def Ra:=@PySem.mem_of_lookup
def Qe:=@Nat.lt_succ_of_lt
def HY:=@if_false
def Mu:=@Nat.lt_irrefl
def Wd:=@Nat.and_xor_distrib_right
def JF:=@segRun_of
def JD:=@piece_app
def Oz:=@List.append_nil
def Qd:=@Nat.div_eq_of_lt
def Qc:=@List.any_eq_true
def Tt:=@List.mem_of_mem_drop
def Mt:=@Nat.pow_succ
def Ms:=@Nat.ne_of_gt
def Mr:=@Nat.add_zero
def LR:=@wpAny_field
def Qa:=@List.nodup_cons
def Ip:=@or_false
def RZ:=@wpAny_call_entry
def Tq:=@List.pairwise_cons
def ZD:=@List.pairwise_iff_getElem
def RX:=@wpAny_passesOwn
def ZC:=@wpAny_comprehension_free
def RV:=@List.length_set
def Tp:=@List.length_range
def RT:=@Bool.or_eq_true
def Ox:=@Nat.zero_add
def Ow:=@Nat.xor_zero
def Ov:=@Nat.lt_trans
def Ou:=@List.map_map
def Y_:=@wpAny_callSpecial?_slot
def Y9:=@PySem.F.plain_list_iadd
def Wc:=@Heap.get?_update_ne
def gw:=@wpAny_typeNameOfWhole_keyiter
def RQ:=@wpAny_setField
def RP:=@List.take_zero
def RN:=@Bool.false_and
def Y8:=@Nat.testBit_shiftRight
def Y7:=@List.getElem?_set_self
def Wb:=@wpAny_Call_Name_kw
def Wa:=@of_decide_eq_false
def Jx:=@boot_all
def WY:=@List.filter_append
def JC:=@if_true
def Y6:=@List.length_filter_le
def Tn:=@List.find?_cons
def Tj:=@Bool.eq_iff_iff
def RM:=@wpAny_standAt
def WX:=@List.pairwise_map
def RL:=@List.any_cons
def gq:=@PySem.F.excBase_ValueError
def gn:=@Int.fdiv_eq_ediv_of_nonneg
def Y5:=@Array.toArray_toList
def WW:=@decide_eq_decide
def WT:=@List.lookup_cons
def Y4:=@List.map_congr_left
def gk:=@wpAny_typeNameOf_keyiter
def gb:=@Option.isSome_iff_exists
def RK:=@Nat.zero_and
def WR:=@wpAny_execs_nil
def Y0:=@tupleKind_room_in1
def OD:=@boot_list
def Yz:=@Nat.lt_of_le_of_lt
def gY:=@Nat.add_sub_cancel_left
def Yy:=@List.zip_cons_cons
def WQ:=@List.range_succ
def WM:=@List.mem_filter
def Ti:=@List.map_take
def WL:=@Int.emod_nonneg
def Yx:=@Int.emod_lt_of_pos
def gW:=@Nat.div_div_eq_div_mul
def gU:=@List.length_pos_of_mem
def Yw:=@wpAny_pyIter_list
def RJ:=@Nat.pow_add
def RG:=@Nat.log2_lt
def WK:=@wpAny_seqItems
def gR:=@wpAny_isOneOf_keyiter
def Tg:=@Nat.le_of_lt
def Tf:=@Nat.and_zero
def Te:=@Int.pow_succ
def gQ:=@Array.getElem?_toList
def Yv:=@Nat.le_add_right
def f9:=@List.replicate_succ'
def WD:=@wpAny_newList
def V_:=@wpAny_attempt
def V9:=@listUpdate_at
def V8:=@List.map_drop
def V7:=@List.all_cons
def Yu:=@get?_update_seq
def Yt:=@codeAny_builtin
def qd:=@PySem.F.plain_proto_collect
def Ys:=@Option.map_some
def Yr:=@Nat.min_eq_left
def Yq:=@List.of_mem_zip
def fu:=@List.getElem_of_mem
def fZ:=@List.getElem?_range
def fY:=@List.filterMap_cons
def Yp:=@List.all_append
def qZ:=@Int.eq_of_mul_eq_mul_right
def qY:=@Array.getElem?_eq_some_iff
def fX:=@wpAny_pyIter_tuple
def V5:=@codeAny_mono
def fW:=@assignInOrder_cons
def fV:=@PySem.W.noMix_ints
def fU:=@Nat.add_sub_cancel
def fQ:=@List.getElem?_take
def V3:=@List.all_map
def V2:=@Int.ne_of_gt
def fP:=@wpAny_assign_Name
def fO:=@PySem.W.same_ints
def fM:=@Option.isSome_map
def qX:=@Nat.pow_le_pow_iff_right
def fL:=@Nat.le_succ_of_le
def fJ:=@Nat.add_mod_right
def fH:=@Nat.add_div_right
def qW:=@Int.mul_ediv_cancel_left
def V1:=@intItems_at
def Yo:=@bitNot_bitNot
def qU:=@PySem.W.canLayAll0_ints
def qT:=@PySem.F.attr_ValueError
def V0:=@Nat.one_mul
def qR:=@List.getElem?_set_self'
def qQ:=@List.getElem?_replicate
def Vz:=@Int.one_mul
def Yn:=@Int.mul_assoc
def Vy:=@Int.le_refl
def Ym:=@Bool.true_and
def fC:=@wpAny_execs_cons
def fB:=@List.mem_reverse
def d_:=@Heap.size_update
def qP:=@subscriptTail_builtinR
def qO:=@codeAny_compStart_list
def qN:=@PySem.W.cellsFrom_some
def qM:=@Nat.testBit_lt_two_pow
def qL:=@List.drop_of_length_le
def qK:=@Array.getElem?_eq_none
def Yl:=@wpAny_typeOf
def qJ:=@wpAny_isTrue_Compare1
def Yk:=@listItems_at
def qI:=@exec_Assign_Name_used
def dz:=@entry_list_sort
def qH:=@PySem.W.depthAll_ints
def Yj:=@Nat.mul_comm
def qG:=@Nat.div_lt_iff_lt_mul
def qF:=@List.take_append_drop
def dw:=@List.sum_append
def qD:=@List.mem_iff_getElem?
def Yi:=@List.map_nil
def dh:=@Int.emod_two_eq
def Vx:=@size_push'
def cu:=@slot_list_sort
def Yh:=@Nat.mod_one
def Yg:=@Int.pow_pos
def cj:=@nums_intItems
def Td:=@numAt_eq
def b_:=@Nat.mul_assoc
def bw:=@Nat.add_assoc
def bh:=@List.take_nil
def Ye:=@wpAny_load
def Yd:=@wpAny_call
def Yc:=@boot_tuple
def bf:=@seqIndex_neg
def bZ:=@plain_sorted
def kE:=@entry_sorted
def j_:=@Nat.zero_mul
def j9:=@Nat.sub_self
def j8:=@Nat.pow_zero
def j6:=@Nat.lt_or_ge
def j5:=@Nat.add_comm
def j4:=@Int.sub_self
end
set_option Elab.async false
set_option maxRecDepth 100000
namespace L2
abbrev Key:=Sum Int Str
noncomputable def G5:Key->Value->Bool
 | .inl k,v=>Value.isInt k v
 | .inr x,v=>Value.isStrOf x v
noncomputable def iC (w:W1):Key->Int
 | .inl k=>hashInt k
 | .inr x=>hashStr w x
theorem Om:∀{k:Key}{v:W2},G5 k v=true->(∃i t,k=Sum.inl i/\v=Value.int i t)\/(∃x t,k=Sum.inr x/\v=Value.str x t)
 | .inl i,v,h=>by
  obtain⟨t,e⟩:=Value.isInt_shape (k:=i) (v:=v) h;exact .inl ⟨i,t,U,e⟩
 | .inr x,v,h=>by
  obtain⟨t,e⟩:=Value.isStrOf_shape (x:=x) (v:=v) h;exact .inr ⟨x,t,U,e⟩
theorem X0a(i:Int)(t:Tok):G5 (.inl i) (.int i t)=true:=by simp[G5,Value.isInt]
theorem Y9z(x:Str)(t:Tok):G5 (.inr x) (.str x t)=true:=by simp[G5,Value.isStrOf]
theorem W3f(a b:Int):decide ((Sum.inl a:Key)=Sum.inl b)=(a == b):=by
 by_cases e:a=b
 ·subst e;simp
 ·have h:¬ (Sum.inl a:Key)=Sum.inl b:=λq=>e (Sum.inl.inj q);rw[Dh h];exact(beq_eq_false_iff_ne.mpr e).symm
theorem W3c(a b:Str):decide ((Sum.inr a:Key)=Sum.inr b)=decide (a=b):=by
 by_cases e:a=b
 ·subst e;simp
 ·have h:¬ (Sum.inr a:Key)=Sum.inr b:=λq=>e (Sum.inr.inj q);rw[Dh h,Dh e]
theorem W3e(a:Int)(b:Str):decide ((Sum.inl a:Key)=Sum.inr b)=false:=Dh (λq=>nomatch q)
theorem W3d(a:Str)(b:Int):decide ((Sum.inr a:Key)=Sum.inl b)=false:=Dh (λq=>nomatch q)
noncomputable def JX (prog:U8)(w:W1):PySem.KeyKind prog w Key where
 is:=G5
 hash:=iC w
 inj:=λv a b ha hb=>by
  rcases Om ha with ⟨i,t,rfl,rfl⟩ | ⟨x,t,rfl,rfl⟩
  ·rcases Om hb with ⟨j,u,rfl,e⟩ | ⟨y,u,rfl,e⟩
   ·injection e with e1 _;rw[e1]
   ·exact nomatch e
  ·rcases Om hb with ⟨j,u,rfl,e⟩ | ⟨y,u,rfl,e⟩
   ·exact nomatch e
   ·injection e with e1 _;rw[e1]
 byValue:=λk v h=>by
  rcases Om h with ⟨i,t,rfl,rfl⟩ | ⟨x,t,rfl,rfl⟩<;>rfl
 pyHash:=λhv h=>by
  rcases Om hv with ⟨i,t,rfl,rfl⟩ | ⟨x,t,rfl,rfl⟩
  ·exact wpAny_pyHash_int h
  ·exact wpAny_pyHash_str h
 eqBool:=λhu hv h=>by
  rcases Om hu with ⟨i,t,rfl,rfl⟩ | ⟨x,t,rfl,rfl⟩
  ·rcases Om hv with ⟨j,u,rfl,rfl⟩ | ⟨y,u,rfl,rfl⟩
   ·rw[W3f]at h;exact wpAny_eqBool_int h
   ·rw[W3e]at h;exact SeqAt.EqAt.int_str i t y u _ _ _ _ h
  ·rcases Om hv with ⟨j,u,rfl,rfl⟩ | ⟨y,u,rfl,rfl⟩
   ·rw[W3d]at h;exact SeqAt.EqAt.str_int x t j u _ _ _ _ h
   ·rw[W3c]at h;exact wpAny_eqBool_str h
 «strs»:=λk x t v h=>by
  rcases Om h with ⟨i,u,rfl,e⟩ | ⟨y,u,rfl,e⟩
  ·exact nomatch e
  ·injection e with e1 _
   subst e1
   cases v<;>rfl
theorem Y3c(prog:U8)(w:W1)(i:Int)(t:Tok):(JX prog w).is (.inl i) (.int i t)=true:=X0a i t
theorem Y3b(prog:U8)(w:W1)(x:Str)(t:Tok):(JX prog w).is (.inr x) (.str x t)=true:=Y9z x t
inductive V where
 | non | bl (b:Bool) | int (i:Int) | str (x:Str) | byt (b:Array UInt8) | flt (b:UInt64) | ref (a:W9) | ty (n:String)
 deriving DecidableEq
def RelV:V->Value->Prop
 | .non,u=>u=Value.none
 | .bl b,u=>u=Value.bool b
 | .int i,u=>∃t,u=Value.int i t
 | .str x,u=>∃t,u=Value.str x t
 | .byt b,u=>∃t,u=Value.bytes b t
 | .flt b,u=>∃t,u=Value.float b t
 | .ref a,u=>u=Value.ref a
 | .ty n,u=>u=Value.type n
abbrev Vals:List V->List Value->Prop:=Paired RelV
variable{us:U5}
theorem Vals.length{xs:List V}(r:Vals xs us):xs.length=us.length:=Paired.length r
theorem Vals.get:∀{xs:List V}{us:U5}{i:Nat}{x:V},Vals xs us->xs[i]?=some x->∃u,us[i]?=some u/\RelV x u
 | _,_,_,_,.nil,e=>by simp at e
 | _,_,0,_,.cons r _,e=>by simp at e;subst e;exact⟨_,rfl,r⟩
 | _,_,i+1,x,.cons _ t,e=>by
  obtain⟨u,h1,h2⟩:=Vals.get (i:=i) (x:=x) t (by simpa using e);exact⟨u,by simpa using h1,h2⟩
theorem Vals.set{x:V}{u:W2}(r:RelV x u):∀{xs:List V}{us:U5} (i:Nat),Vals xs us->Vals (xs.set i x) (us.set i u)
 | _,_,_,.nil=>.nil
 | _,_,0,.cons _ t=>.cons r t
 | _,_,i+1,.cons q t=>.cons q (Vals.set r i t)
theorem Vals.append:∀{xs ys:List V}{us ws:U5},Vals xs us->Vals ys ws->Vals (xs++ys) (us++ws)
 | _,_,_,_,.nil,s=>s
 | _,_,_,_,.cons r t,s=>.cons r (Vals.append t s)
theorem Vals.take:∀{xs:List V}{us:U5} (n:Nat),Vals xs us->Vals (xs.take n) (us.take n)
 | _,_,0,_=>.nil
 | _,_,_+1,.nil=>.nil
 | _,_,n+1,.cons r t=>.cons r (Vals.take n t)
theorem Vals.drop:∀{xs:List V}{us:U5} (n:Nat),Vals xs us->Vals (xs.drop n) (us.drop n)
 | _,_,0,r=>r
 | _,_,_+1,.nil=>.nil
 | _,_,n+1,.cons _ t=>Vals.drop n t
def HW:Option V->Option Value->Prop
 | some v,some u=>RelV v u
 | none,none=>True
 | _,_=>False
def KV {κ:Type}:List (κ×V)->List (κ×Value)->Prop:=Paired λ(p:κ×V) (q:κ×Value)=>p.1=q.1/\RelV p.2 q.2
noncomputable def kV:Key->V
 | .inl i=>.int i
 | .inr x=>.str x
inductive HO where
 | lst (xs:List V)
 | tup (xs:List V)
 | dK (kvs:List (Key×V)) | dT (kvs:List (List Key×V))
 | set (S:Int->Bool) (n:Nat)
 | ins (C dx:W9) (fs:List (Str×V))
 | own (x:W9)
 | xd (fs:List (Str×V))
 | met (f x:W9)
 | rng (lo hi:Int)
 | frz (o:Obj) (u:HO)
 | tbl (ps:U9)
 | ext (φ:Heap->Prop)
abbrev Hp:=Addr->Option HO
noncomputable def upd (H:Hp)(a:W9)(o:HO):Hp:=λb=>if b=a then some o else H b
variable{H:Hp}{a:W9}{o:HO}
theorem Ar:upd H a o a=some o:=by unfold upd;rw[if_pos rfl]
variable{b:W9}
theorem Cd(h:b≠a):upd H a o b=H b:=by unfold upd;rw[if_neg h]
theorem J0{u:HO}(h:H a=some o)(h':H b=some u)(d:o≠u):a≠b:=by
 intro e;subst e;rw[h]at h';exact d (Option.some.inj h')
theorem Nt(h:H a=some o)(h':H b=none):a≠b:=by
 intro e;subst e;rw[h]at h';cases h'
section
variable (P:U8) (w:W1)
def BR (H:Hp)(h:Heap)(a:W9):HO->Prop
 | .lst xs=>xs.length<=sizeLine/\∃(its:U5) (n:Nat),Vals xs its/\h.get? a=some { cls:=.type "list",data:=.seq its.toArray n}
 | .tup xs=>xs.length<=sizeLine/\∃its:List Value,Vals xs its/\IsTup h a its.toArray
 | .dK kvs=>kvs.length<=sizeLine/\(a == sysModules)=false/\∃vs,KV kvs vs/\h.DictOf (JX P w) a vs
 | .dT kvs=>kvs.length<=sizeLine/\(a == sysModules)=false/\∃xs:List (List Key×Addr×Value),
   Paired (λ(p:List Key×V) (q:List Key×Addr×Value)=>p.1=q.1/\H q.2.1=some (.tup (p.1.map kV))/\RelV p.2 q.2.2) kvs xs /\
   ∃o es ep,h.get? a=some o/\o.ExactDict/\o.data=.dict es ep/\es.toList=xs.map (entryOfKey (tupleKind (JX P w)))/\(xs.map (·.1)).Nodup
 | .set S n=>h.SetOf (intKind P w) a S n
 | .ins C dx fs=>H dx=some (.own a)/\fs.length<=1000/\dx≠a/\h.get? a=some (PySem.W.instObj C dx) /\
   ∃mA,h.Ns1 dx mA/\(∀f,HW (fs.lookup f) (mA f))/\PySem.Within mA (fs.map (·.1))
 | .own _=>∃o,h.get? a=some o
 | .xd fs=>∃mA,h.Ns1 a mA/\∀f,HW (fs.lookup f) (mA f)
 | .rng lo hi=>∃t u v,h.get? a=some { cls:=.type "range",data:=.fields #[.int lo t,.int hi u,.int 1 v]}
 | .frz o u=>h.get? a=some o/\BR H h a u
 | .tbl ps=>h.get? a=some { cls:=.none,data:=.fields ps}
 | .met f x=>h.get? a=some (PySem.W.methodObj (.ref f) (.ref x))
 | .ext φ=>φ h/\(∃o,h.get? a=some o)/\∀h1 h2:Heap,φ h1->(∀o,h1.get? a=some o->h2.get? a=some o)->φ h2
def Ez (H:Hp)(h:Heap):Prop:=∀a o,H a=some o->BR P w H h a o
end
section
variable {P:U8}{w:W1}{H H':Hp}{h h':Heap}{a:W9}{o:HO}
theorem BR.lt(x:BR P w H h a o):a<h.objs.size:=by
 cases o with
 | lst xs=>obtain⟨_,_,_,_,e⟩:=x;exact CN e
 | tup xs=>obtain⟨_,_,_,p⟩:=x;exact p.lt
 | dK kvs=>obtain⟨_,_,_,_,o,_,_,e,_⟩:=x;exact CN e
 | dT kvs=>obtain⟨_,_,_,_,o,_,_,e,_⟩:=x;exact CN e
 | set S n=>obtain⟨o,_,_,_,e,_⟩:=x;exact CN e
 | ins C dx fs=>obtain⟨_,_,_,e,_⟩:=x;exact CN e
 | own y=>obtain⟨_,e⟩:=x;exact CN e
 | xd fs=>obtain⟨_,⟨_,_,_,e,_⟩,_⟩:=x;exact CN e
 | rng lo hi=>obtain⟨_,_,_,e⟩:=x;exact CN e
 | frz ob u=>obtain⟨e,_⟩:=x;exact CN e
 | tbl ps=>exact CN (show h.get? a=some _ from x)
 | met f y=>exact CN (show h.get? a=some _ from x)
 | ext φ=>obtain⟨_,⟨_,e⟩,_⟩:=x;exact CN e
theorem Paired.mapP{α β:Type}{F G:α->β->Prop}:∀{l₁:List α}{l₂:List β},Paired F l₁ l₂->(∀a b,F a b->G a b)->Paired G l₁ l₂
 | _,_,.nil,_=>.nil
 | _,_,.cons r t,f=>.cons (f _ _ r) (Paired.mapP t f)
theorem Paired.imp'{α β:Type}{F G:α->β->Prop}(f:∀a b,F a b->G a b){l₁:List α}{l₂:List β}(r:Paired F l₁ l₂):Paired G l₁ l₂:=Paired.mapP r f
theorem BR.stay(x:BR P w H h a o)(k:∀b u,(b=a\/H b=some (.own a))->h.get? b=some u->h'.get? b=some u)
  (ho:∀b,H b=some (.own a)->H' b=some (.own a)) (ht:∀b xs,H b=some (.tup xs)->H' b=some (.tup xs)):BR P w H' h' a o:=by
 induction o with
 | lst xs=>obtain⟨z,its,n,r,e⟩:=x;exact⟨z,its,n,r,k _ _ (.inl rfl) e⟩
 | tup xs=>obtain⟨z,its,r,ob,e,c⟩:=x;exact⟨z,its,r,ob,k _ _ (.inl rfl) e,c⟩
 | dK kvs=>obtain⟨z,y,vs,r,ob,es,ep,e,c⟩:=x;exact⟨z,y,vs,r,ob,es,ep,k _ _ (.inl rfl) e,c⟩
 | dT kvs =>
  obtain⟨z,y,xs,r,ob,es,ep,e,c⟩:=x;exact⟨z,y,xs,Paired.mapP r λp q z=>⟨z.1,ht _ _ z.2.1,z.2.2⟩,ob,es,ep,k _ _ (.inl rfl) e,c⟩
 | set S n=>obtain⟨ob,es,ep,t,e,c⟩:=x;exact⟨ob,es,ep,t,k _ _ (.inl rfl) e,c⟩
 | ins C dx fs =>
  obtain⟨d,z,g,e,mA,⟨od,es,ep,e2,c⟩,r⟩:=x;exact⟨ho _ d,z,g,k _ _ (.inl rfl) e,mA,⟨od,es,ep,k _ _ (.inr d) e2,c⟩,r⟩
 | own y=>obtain⟨ob,e⟩:=x;exact⟨ob,k _ _ (.inl rfl) e⟩
 | xd fs=>obtain⟨mA,⟨od,es,ep,e,c⟩,r⟩:=x;exact⟨mA,⟨od,es,ep,k _ _ (.inl rfl) e,c⟩,r⟩
 | rng lo hi=>obtain⟨t,u,v,e⟩:=x;exact⟨t,u,v,k _ _ (.inl rfl) e⟩
 | frz ob u ih=>obtain⟨e,q⟩:=x;exact⟨k _ _ (.inl rfl) e,ih q⟩
 | tbl ps =>
  have e:h.get? a=some { cls:=.none,data:=.fields ps}:=x;show h'.get? a=some { cls:=.none,data:=.fields ps};exact k a _ (.inl rfl) e
 | met f y =>
  have e:h.get? a=some (PySem.W.methodObj (.ref f) (.ref y)):=x;show h'.get? a=some (PySem.W.methodObj (.ref f) (.ref y));exact k a _ (.inl rfl) e
 | ext φ=>obtain⟨p,⟨o,e⟩,st⟩:=x;exact⟨st _ _ p λo q=>k _ _ (.inl rfl) q,⟨o,k _ _ (.inl rfl) e⟩,st⟩
theorem Ez.lt(x:Ez P w H h)(e:H a=some o):a<h.objs.size:=(x a o e).lt
theorem Ez.fresh(x:Ez P w H h)(e:h.objs.size<=a):H a=none:=by
 cases q:H a with
 | none=>rfl
 | some u=>exact absurd (Cu (x.lt q) e) (Mu _)
theorem Ez.kept(x:Ez P w H h)(k:∀b u,h.get? b=some u->h'.get? b=some u):Ez P w H h':=λa o e =>
 (x a o e).stay (λb u _ q=>k b u q) (λ_ q=>q) λ_ _ q=>q
theorem Ez.laid(x:Ez P w H h)(k:∀b u,h.get? b=some u->h'.get? b=some u)(hp:h.objs.size<=a)(new:BR P w (upd H a o) h' a o):Ez P w (upd H a o) h':=λb u e=>by
 have d:=x.fresh hp;by_cases hb:b=a
 ·subst hb;rw[Ar]at e;cases e;exact new
 ·rw[Cd hb]at e;exact(x b u e).stay (λc v _ q=>k c v q) (λc q=>by rw[Cd (Nt q d)];exact q) λc xs q=>by rw[Cd (Nt q d)];exact q
end
def Rd (H:Hp)(a:W9)(u:HO):Prop:=H a=some u\/∃o,H a=some (.frz o u)
variable{P:U8}{w:W1}{h:Heap}
theorem Rd.ok{u:HO}(r:Rd H a u)(x:Ez P w H h):BR P w H h a u:=by
 rcases r with r | ⟨o,r⟩
 ·exact x a u r
 ·obtain⟨_,q⟩:=x a _ r;exact q
def YK:Option HO->Prop
 | some (.lst _)=>True
 | some (.dK _)=>True
 | some (.dT _)=>True
 | some (.set _ _)=>True
 | some (.ins _ _ _)=>True
 | some (.ext _)=>True
 | _=>False
section
variable {P:U8}{w:W1}{H:Hp}{h h':Heap}{x e:W9}{o':HO}
theorem Ez.write(ok:Ez P w H h)(mu:YK (H x))(he:e=x\/H e=some (.own x))(k:∀b u,b≠e->h.get? b=some u->h'.get? b=some u)(heo:∃u,h'.get? e=some u)
  (new:BR P w (upd H x o') h' x o'):Ez P w (upd H x o') h':=λb u q=>by
 have a:∀c y,H c=some (.own y)->c≠x:=λc y r z=>by subst z;rw[r]at mu;exact mu
 have d:∀c xs,H c=some (.tup xs)->c≠x:=λc xs r z=>by subst z;rw[r]at mu;exact mu
 by_cases hb:b=x
 ·subst hb;rw[Ar]at q;cases q;exact new
 ·rw[Cd hb]at q;by_cases hbe:b=e
  ·have g:H b=some (.own x):=by
    rcases he with z | z
    ·exact absurd (hbe.trans z) hb
    ·rw[hbe];exact z
   rw[q]at g;cases g;obtain⟨v,i⟩:=heo;exact⟨v,by rw[hbe];exact i⟩
  ·refine(ok b u q).stay (λc v f r=>k c v ?_ r) (λc r=>by rw[Cd (a c b r)];exact r) λc xs r=>by rw[Cd (d c xs r)];exact r
   rcases f with rfl | f
   ·exact hbe
   ·rintro rfl;rcases he with z | z
    ·exact a c b f z
    ·rw[f]at z;cases z;exact hb rfl
end
structure Un (fs ex:U3) (H H':Hp) (h h':Heap):Prop where
 keep:∀b o,h.get? b=some o->H b=none->b∉fs->b∉ex->h'.get? b=some o
 slot:∀b o,h.get? b=some o->H b=none->b∈fs->b∉ex->∃sl,h'.get? b=some {o with slots:=sl}
 free:∀b o,h.get? b=some o->H b=none->b∉ex->H' b=none
 there:∀b o,h.get? b=some o->b∉ex->∃o',h'.get? b=some o'
 tups:∀b xs,H b=some (.tup xs)->H' b=some (.tup xs)
 frzs:∀b o u,H b=some (.frz o u)->H' b=some (.frz o u)
 tbls:∀b ps,H b=some (.tbl ps)->∃more,H' b=some (.tbl (ps++more))
section
variable {fs fs' ex ex':U3}{H H1 H2:Hp}{h h1 h2 h':Heap}{a x e:W9}{o:HO}
theorem Un.any(u:Un fs ex H H1 h h1){ob:Obj}(q:h.get? b=some ob)(n:H b=none)(hx:b∉ex):∃sl,h1.get? b=some {ob with slots:=sl}:=by
 by_cases hb:b∈fs
 ·exact u.slot b ob q n hb hx
 ·exact⟨ob.slots,u.keep b ob q n hb hx⟩
theorem Un.kept(k:∀b u,h.get? b=some u->h'.get? b=some u):Un fs ex H H h h' :=
 ⟨λb ob q _ _ _=>k b ob q,λb ob q _ _ _=>⟨ob.slots,k b ob q⟩,λ_ _ _ n _=>n,λb ob q _=>⟨ob,k b ob q⟩,λ_ _ q=>q,λ_ _ _ q=>q,λ_ ps q=>⟨#[],by rw[q];simp⟩⟩
theorem Un.refl:Un fs ex H H h h:=Un.kept λ_ _ q=>q
theorem Un.laid(k:∀b u,h.get? b=some u->h'.get? b=some u)(hp:h.objs.size<=a)(hn:H a=none):Un fs ex H (upd H a o) h h' where
 keep:=λb u q _ _ _=>k b u q
 slot:=λb u q _ _ _=>⟨u.slots,k b u q⟩
 free:=λb u q n _=>by rw[Cd (DY (Cu (CN q) hp))];exact n
 there:=λb u q _=>⟨u,k b u q⟩
 tups:=λb xs q=>by rw[Cd (Nt q hn)];exact q
 frzs:=λb u xs q=>by rw[Cd (Nt q hn)];exact q
 tbls:=λb ps q=>⟨#[],by rw[Cd (Nt q hn),q];simp⟩
theorem Un.write(mu:YK (H x))(he:e=x\/H e=some (.own x))(k:∀b u,b≠e->h.get? b=some u->h'.get? b=some u)(heo:∃u,h'.get? e=some u):Un fs ex H (upd H x o) h h':=by
 have a:∀b,H b=none->b≠x:=λb n z=>by subst z;rw[n]at mu;exact mu
 have hb:∀b,H b=none->b≠e:=λb n z=>by
  subst z;rcases he with r | r
  ·exact a b n r
  ·rw[n]at r;cases r
 have hm:∀b u,H b=some u->¬ YK (some u)->b≠x:=λb u q nm z=>by subst z;rw[q]at mu;exact nm mu
 refine⟨λb u q n _ _=>k b u (hb b n) q,λb u q n _ _=>⟨u.slots,k b u (hb b n) q⟩,λb u q n _=>by rw[Cd (a b n)];exact n,λb u q _=>?_,
  λb xs q=>by rw[Cd (hm b _ q λz=>z)];exact q,λb u xs q=>by rw[Cd (hm b _ q λz=>z)];exact q,λb ps q=>⟨#[],by rw[Cd (hm b _ q λz=>z),q];simp⟩⟩
 by_cases hbe:b=e
 ·subst hbe;exact heo
 ·exact⟨u,k b u hbe q⟩
end
noncomputable def YZ (h:Heap)(H:Hp):List Addr:=(List.range h.objs.size).filter λa=>(H a).isSome
noncomputable def Iw (h:Heap)(H:Hp):Heap:=PySem.W.hideAll h (YZ h H)
theorem X0l(h:Heap)(H:Hp):(Iw h H).objs.size=h.objs.size:=PySem.W.hideAll_size _ _
variable{o:Obj}
theorem X3q(e:h.get? b=some o)(n:H b=none):(Iw h H).get? b=some o :=
 PySem.W.hideAll_get _ e λhm=>by
  have q:(H b).isSome=true:=(WM.mp hm).2;rw[n]at q;simp at q
theorem X8c(e:(Iw h H).get? b=some o):h.get? b=some o/\H b=none:=by
 have a:h.get? b=some o:=PySem.W.of_hideAll (YZ h H) e;refine⟨a,?_⟩;cases q:H b with
 | none=>rfl
 | some x =>
  have hm:b∈YZ h H:=WM.mpr ⟨Ew.mpr (CN a),by simp[q]⟩;have z:(Iw h H).get? b=none:=PySem.W.hideAll_none (YZ h H) hm;rw[z]at e;cases e
structure Mod (K:U0) (mg:U4) (base:Heap):Prop where
 kin:K.In base
 glob:base.Ns mainGlobals mg
 blt:∃mb,base.Ns builtinsNs mb/\∀x:Str,x≠"__name__"->mb x=bootBuiltins x
 nolimit:base.NoLimit
structure Cx where
 prog:Program
 w:World
 K:U0
 mg:Str->Option Value
 base:Heap
 A:Around
 N:List Str
 s₀:Shared
 H₀:Hp
 env:Env
 outer:List Env
 stack:List Env
 ex:List Addr
 fn:Str->Bool
 calm:Bool
 pn:List (Addr×Obj)
 xe:Value->Shared->Prop
noncomputable def frs (l:List Env):List Addr:=l.filterMap (·.frame)
noncomputable abbrev Cx.fs (X:Cx):List Addr:=frs X.outer
def YD (sc:Scope)(x:Str):Prop:=sc.names.lookup x=some .local\/sc.names.lookup x=some .cell\/sc.names.lookup x=some .free
def Loc (sc:Scope)(x:Str):Prop:=sc.names.lookup x=some .local\/sc.names.lookup x=some .cell
def Look (env:Env)(h:Heap)(m:U4)(x:Str)(u:W2):Prop :=
 (env.kindOf x=some .local/\m x=some u)\/((env.kindOf x=some .cell\/env.kindOf x=some .free)/\∃c,env.cells.lookup x=some c/\h.IsCell c (some u))
structure Cx.Ok (X:Cx):Prop where
 mod:Mod X.K X.mg X.base
 kind:X.env.scope.kind=.function
 glob:X.env.globals=mainGlobals
 blt:X.env.builtins=builtinsNs
 above:X.s₀.heap.objs.size<=X.env.locals
 inj:∀x y c,X.env.cells.lookup x=some c->X.env.cells.lookup y=some c->x=y
 has:∀x,(X.env.kindOf x=some .cell\/X.env.kindOf x=some .free)->∃c,X.env.cells.lookup x=some c
 cab:∀x c,X.fn x=true->X.env.cells.lookup x=some c->X.s₀.heap.objs.size<=c
 hd:X.calm=true->X.A.handled=none
 frames:X.A.frames=some X.stack
 stk:X.stack=X.outer\/(X.stack=X.env::X.outer/\X.env.frame=some X.env.locals)
 exf:∀b∈X.ex,b≠X.env.locals/\∀x c,X.env.cells.lookup x=some c->c≠b
 bs:∀b o,X.base.get? b=some o->X.s₀.heap.get? b=some o/\X.H₀ b=none
 bsz:X.base.objs.size<=X.s₀.heap.objs.size
 noex:∀b o,X.base.get? b=some o->b∉X.ex
 exfs:∀b∈X.ex,b∉X.fs
 funs:X.s₀.heap.FunFrames X.base X.outer
 frf:∀b∈X.fs,X.H₀ b=none
structure Inv (X:Cx) (pins:U1) (σ:List (Option V)) (H:Hp) (s:U7):Prop where
 ok:X.Ok
 os:s.os=X.s₀.os
 bare:AllBare s.gens
 base:Un X.fs X.ex X.H₀ H X.s₀.heap s.heap
 loc:∃m,s.heap.Ns X.env.locals m/\∀(i:Nat) (x:Str) (v:V),X.N[i]?=some x->σ[i]?=some (some v)->YD X.env.scope x->∃u,RelV v u/\Look X.env s.heap m x u
 cell:∀x c,X.env.cells.lookup x=some c->∃v,s.heap.IsCell c v
 free:H X.env.locals=none
 freeC:∀x c,X.env.cells.lookup x=some c->H c=none
 pin:∀p∈X.pn++pins,s.heap.get? p.1=some p.2/\H p.1=none/\p.1≠X.env.locals/\p.1∉X.fs/\∀v,p.2.data≠.cell v
 hok:Ez X.prog X.w H s.heap
 len:σ.length=X.N.length
section
variable {X:Cx}{pins:U1}{σ:List (Option V)}{H H':Hp}{s:U7}{h':Heap}
theorem Cx.Ok.nofr(ok:X.Ok)(e:X.base.get? b=some o):b∉X.fs:=λhb=>by
 have:=(ok.funs.mem hb).1;rw[e]at this;cases this
theorem Inv.bs(I:Inv X pins σ H s):∀b o,X.base.get? b=some o->s.heap.get? b=some o/\H b=none:=λb o e =>
 ⟨I.base.keep b o (I.ok.bs b o e).1 (I.ok.bs b o e).2 (I.ok.nofr e) (I.ok.noex b o e),I.base.free b o (I.ok.bs b o e).1 (I.ok.bs b o e).2 (I.ok.noex b o e)⟩
theorem Inv.bk(I:Inv X pins σ H s):∀b o,X.base.get? b=some o->s.heap.get? b=some o:=λb o e=>(I.bs b o e).1
theorem Inv.mod(I:Inv X pins σ H s):Mod X.K X.mg X.base:=I.ok.mod
theorem Inv.kIn(I:Inv X pins σ H s):X.K.In s.heap:=I.ok.mod.kin.keeps I.bk
theorem Inv.lt(I:Inv X pins σ H s):X.env.locals<s.heap.objs.size:=let ⟨_,hn,_⟩:=I.loc;hn.lt
theorem Inv.sz(I:Inv X pins σ H s):X.s₀.heap.objs.size<=s.heap.objs.size:=E_ I.ok.above (Tg I.lt)
theorem Inv.nofs(I:Inv X pins σ H s)(h:s.heap.objs.size<=a):a∉X.fs:=λhb=>by
 obtain⟨_,o,b,_⟩:=I.ok.funs.mem hb;exact absurd (Cu (CN b) (E_ I.sz h)) (Mu _)
theorem Inv.cne(I:Inv X pins σ H s):∀x c,X.env.cells.lookup x=some c->c≠X.env.locals:=λx c e z=>by
 obtain⟨v,o,d,hd⟩:=I.cell x c e;obtain⟨m,⟨o',es,ep,a,b,_⟩,_⟩:=I.loc;rw[z,a]at d;cases d;rw[b]at hd;cases hd
theorem Inv.funs(I:Inv X pins σ H s):s.heap.FunFrames X.base X.outer:=by
 have all:∀(l:List Env),(∀b∈frs l,b∈X.fs)->X.s₀.heap.FunFrames X.base l->s.heap.FunFrames X.base l:=by
  intro l;induction l with
  | nil=>intro _ _;trivial
  | cons env r ih =>
   intro d i;obtain⟨f,⟨L,o,c,j,g,hd⟩,h⟩:=i;have a:L∈X.fs:=d L (by unfold frs;rw[fY,c];exact Mz);obtain⟨k,e⟩:=I.base.slot L o g (I.ok.frf L a) a λz=>I.ok.exfs L z a;exact⟨f,⟨L,_,c,j,e,hd⟩,ih (λb hb=>d b (by unfold frs;rw[fY,c];exact KZ _ hb)) h⟩
 exact all X.outer (λ_ hb=>hb) I.ok.funs
theorem Inv.stack(I:Inv X pins σ H s):s.heap.FunFrames X.base X.stack:=by
 rcases I.ok.stk with e | ⟨e,hf⟩
 ·rw[e];exact I.funs
 ·rw[e];obtain⟨m,a,_⟩:=I.loc;refine .cons (by rw[I.ok.kind];decide) hf a ?_ I.funs;exact Heap.get?_none_of_le (E_ I.ok.bsz I.ok.above)
theorem Inv.stkSub(I:Inv X pins σ H s):∀b∈frs X.stack,b∈X.env.locals::X.fs:=λb hb=>by
 rcases I.ok.stk with e | ⟨e,hf⟩
 ·rw[e]at hb;exact KZ _ hb
 ·rw[e]at hb;unfold frs at hb;rw[fY,hf]at hb;exact hb
theorem Inv.stkFree(I:Inv X pins σ H s):∀b∈frs X.stack,H b=none:=λb hb=>by
 rcases Dg.mp (I.stkSub b hb) with e | hb
 ·rw[e];exact I.free
 ·obtain⟨_,o,a,_⟩:=I.ok.funs.mem hb;exact I.base.free b o a (I.ok.frf b hb) λz=>I.ok.exfs b z hb
variable{g':Array GenState}{t':Nat}{d':Drawn}{ch:U3}
theorem Inv.step(I:Inv X pins σ H s)
  (hch:∀b∈ch,(b∈X.ex\/X.s₀.heap.objs.size<=b)/\b≠X.env.locals/\(∀x c,X.env.cells.lookup x=some c->c≠b)/\∀p∈X.pn++pins,p.1≠b)
  (keep:∀b o,b≠X.env.locals->b∉X.fs->b∉ch->s.heap.get? b=some o->H b=none->h'.get? b=some o)
  (slot:∀b o,b≠X.env.locals->b∈X.fs->b∉ch->s.heap.get? b=some o->H b=none->∃A,h'.get? b=some {o with slots:=A}) (free:∀b o,b∉ch->s.heap.get? b=some o->H b=none->H' b=none)
  (there:∀b o,b∉ch->s.heap.get? b=some o->∃o',h'.get? b=some o')
  (tups:∀b xs,H b=some (.tup xs)->H' b=some (.tup xs)) (frzs:∀b o u,H b=some (.frz o u)->H' b=some (.frz o u)) (tbls:∀b ps,H b=some (.tbl ps)->∃more,H' b=some (.tbl (ps++more)))
  (ns:∀m,s.heap.Ns X.env.locals m->h'.Ns X.env.locals m) (hok:Ez X.prog X.w H' h') (hg:AllBare g'):
  Inv X pins σ H' {s with heap:=h',gens:=g',drawn:=d',toks:=t'}:=by
 have y:∀b o,X.s₀.heap.get? b=some o->b≠X.env.locals:=λb o e=>DY (Cu (CN e) I.ok.above);have h:∀b o,X.s₀.heap.get? b=some o->b∉X.ex->b∉ch:=λb o e a hb=>by
  rcases (hch b hb).1 with z | z
  ·exact a z
  ·exact absurd (Cu (CN e) z) (Mu _)
 have g:∀x c,X.env.cells.lookup x=some c->∀v,s.heap.IsCell c v->h'.IsCell c v:=λx c e v ⟨o,t,hd⟩=>by
  have f:c∉ch:=λz=>(hch c z).2.2.1 x c e rfl;by_cases hc:c∈X.fs
  ·obtain⟨A,q⟩:=slot c o (I.cne x c e) hc f t (I.freeC x c e);exact⟨_,q,hd⟩
  ·exact⟨o,keep c o (I.cne x c e) hc f t (I.freeC x c e),hd⟩
 refine⟨I.ok,I.os,hg,⟨λb o e n hb a=>?_,λb o e n hb a=>?_,λb o e n a=>?_,λb o e a=>?_,λb xs e=>tups b xs (I.base.tups b xs e),λb o xs e=>frzs b o xs (I.base.frzs b o xs e),λb ps e=>?_⟩,?_,λx c e=>?_,?_,λx c e=>?_,λp hp=>?_,hok,I.len⟩
 ·exact keep b o (y b o e) hb (h b o e a) (I.base.keep b o e n hb a) (I.base.free b o e n a)
 ·obtain⟨A,j⟩:=I.base.slot b o e n hb a;obtain⟨B,e2⟩:=slot b _ (y b o e) hb (h b o e a) j (I.base.free b o e n a);exact⟨B,e2⟩
 ·obtain⟨o',j⟩:=I.base.there b o e a;exact free b o' (h b o e a) j (I.base.free b o e n a)
 ·obtain⟨o',j⟩:=I.base.there b o e a;exact there b o' (h b o e a) j
 ·obtain⟨K,j⟩:=I.base.tbls b ps e;obtain⟨E,e2⟩:=tbls b _ j;exact⟨K++E,by rw[e2,Array.append_assoc]⟩
 ·obtain⟨m,J,F⟩:=I.loc;refine⟨m,ns m J,λi x v j e2 G=>?_⟩;obtain⟨u,r,l⟩:=F i x v j e2 G;refine⟨u,r,?_⟩;rcases l with l | ⟨k,c,e,z⟩
  ·exact .inl l
  ·exact .inr ⟨k,c,e,g x c e _ z⟩
 ·obtain⟨v,z⟩:=I.cell x c e;exact⟨v,g x c e v z⟩
 ·obtain⟨m,⟨o,_,_,t,_⟩,_⟩:=I.loc;exact free _ o (λz=>(hch _ z).2.1 rfl) t I.free
 ·obtain⟨v,o,t,hd⟩:=I.cell x c e;exact free c o (λz=>(hch c z).2.2.1 x c e rfl) t (I.freeC x c e)
 ·obtain⟨e,n,C,D,d⟩:=I.pin p hp;have f:p.1∉ch:=λz=>(hch p.1 z).2.2.2 p hp rfl;exact⟨keep p.1 p.2 C D f e n,free p.1 p.2 f e n,C,D,d⟩
theorem Inv.un(I:Inv X pins σ H s)(u:Un X.fs [] H H' s.heap h')(hok:Ez X.prog X.w H' h'):Inv X pins σ H' {s with heap:=h',toks:=t'}:=by
 obtain⟨m,⟨o,es,ep,f,r⟩,_⟩:=id I.loc;obtain⟨i,h⟩:=u.any f I.free (by simp)
 exact I.step (g':=s.gens) (d':=s.drawn) (ch:=[]) (λ_ z=>nomatch z) (λb o _ hb _ e n=>u.keep b o e n hb (by simp)) (λb o _ hb _ e n=>u.slot b o e n hb (by simp)) (λb o _ e n=>u.free b o e n (by simp)) (λb o _ e=>u.there b o e (by simp)) u.tups u.frzs u.tbls (λm' hm=>by
  obtain⟨o',d,c,a,g⟩:=hm
  rw[f]at a;cases a
  exact⟨_,d,c,h,g⟩) hok I.bare
theorem Inv.call(I:Inv X pins σ H s)(u:Un (frs X.stack) ch H H' s.heap h')(hok:Ez X.prog X.w H' h')(hg:AllBare g')
  (hch:∀b∈ch,(b∈X.ex\/X.s₀.heap.objs.size<=b)/\b≠X.env.locals/\(∀x c,X.env.cells.lookup x=some c->c≠b)/\∀p∈X.pn++pins,p.1≠b):
  Inv X pins σ H' {s with heap:=h',gens:=g',drawn:=d',toks:=t'}:=by
 obtain⟨m,⟨o,es,ep,i,r⟩,_⟩:=id I.loc;obtain⟨k,g⟩:=u.any i I.free λz=>(hch _ z).2.1 rfl
 exact I.step (ch:=ch) hch (λb o g hb a e n=>u.keep b o e n (λz=>(Dg.mp (I.stkSub b z)).elim g hb) a) (λb o _ _ a e n=>u.any e n a) (λb o a e n=>u.free b o e n a) (λb o a e=>u.there b o e a) u.tups u.frzs u.tbls (λm' hm=>by
  obtain⟨o',h,f,d,j⟩:=hm
  rw[i]at d;cases d
  exact⟨_,h,f,g,j⟩) hok hg
theorem Inv.turned{it:W9}(I:Inv X pins σ H s)(k:∀b o,b≠it->s.heap.get? b=some o->h'.get? b=some o)(hn:H it=none)(hL:it≠X.env.locals)
  (h1:it∈X.ex\/X.s₀.heap.objs.size<=it) (h2:∀x c,X.env.cells.lookup x=some c->c≠it) (h3:∀p∈X.pn++pins,p.1≠it):Inv X pins σ H {s with heap:=h',toks:=t'}:=by
 have d:∀b u,H b=some u->b≠it:=λb u e z=>by rw[z,hn]at e;cases e
 refine I.step (g':=s.gens) (d':=s.drawn) (ch:=[it]) (λb hb=>?_) (λb o _ _ a e _=>k b o (λz=>a (by simp[z])) e) (λb o _ _ a e _=>⟨o.slots,k b o (λz=>a (by simp[z])) e⟩) (λ_ _ _ _ n=>n)
  (λb o a e=>⟨o,k b o (λz=>a (by simp[z])) e⟩) (λ_ _ e=>e) (λ_ _ _ e=>e) (λb ps e=>⟨#[],by rw[e];simp⟩) (λm hm=>?_) (λb u e=>?_) I.bare
 ·have e:b=it:=by simpa using hb
  subst e;exact⟨h1,hL,h2,h3⟩
 ·obtain⟨o,es,ep,f,r⟩:=hm;exact⟨o,es,ep,k _ o (Ne.symm hL) f,r⟩
 ·refine(I.hok b u e).stay (λc v a q=>k c v ?_ q) (λ_ q=>q) λ_ _ q=>q;rcases a with z | z
  ·rw[z];exact d b u e
  ·exact d c _ z
theorem Inv.tok(I:Inv X pins σ H s)(t:Nat):Inv X pins σ H {s with toks:=t}:=I.un (h':=s.heap) (t':=t) Un.refl I.hok
theorem Inv.kept(I:Inv X pins σ H s)(k:∀b u,s.heap.get? b=some u->h'.get? b=some u):Inv X pins σ H {s with heap:=h',toks:=t'}:=I.un (Un.kept k) (I.hok.kept k)
theorem Inv.laid{o:HO}(I:Inv X pins σ H s)(k:∀b u,s.heap.get? b=some u->h'.get? b=some u)(hp:s.heap.objs.size<=a)(new:BR X.prog X.w (upd H a o) h' a o):
  Inv X pins σ (upd H a o) {s with heap:=h',toks:=t'}:=I.un (Un.laid k hp (I.hok.fresh hp)) (I.hok.laid k hp new)
theorem Inv.write{x e:W9}{o:HO}(I:Inv X pins σ H s)(mu:YK (H x))(he:e=x\/H e=some (.own x))(k:∀b u,b≠e->s.heap.get? b=some u->h'.get? b=some u)(heo:∃u,h'.get? e=some u)
  (new:BR X.prog X.w (upd H x o) h' x o):Inv X pins σ (upd H x o) {s with heap:=h',toks:=t'}:=I.un (Un.write mu he k heo) (I.hok.write mu he k heo new)
theorem Inv.pins_of{pins':U1}(I:Inv X pins σ H s)(h:∀p∈pins',s.heap.get? p.1=some p.2/\H p.1=none/\p.1≠X.env.locals/\p.1∉X.fs/\∀v,p.2.data≠.cell v):Inv X pins' σ H s :=
 ⟨I.ok,I.os,I.bare,I.base,I.loc,I.cell,I.free,I.freeC,λp hp=>(DR.mp hp).elim (λz=>I.pin p (JG _ z)) (h p),I.hok,I.len⟩
variable{i:Nat}{x:Str}
theorem oG{N:W0}(hN:N.Nodup){j:Nat}(a:N[i]?=some x)(b:N[j]?=some x):i=j:=by
 obtain⟨h1,c⟩:=Fe.mp a;obtain⟨h2,e2⟩:=Fe.mp b;exact(List.getElem_inj hN).mp (c.trans e2.symm)
variable{Q:Unit->Shared->Prop}
theorem lg{M:Model}{A:W6}{E:U2}{v:V}{u:W2}(I:Inv X pins σ H s)(hN:X.N.Nodup)(hi:X.N[i]?=some x)(B:Loc X.env.scope x)(r:RelV v u)
  (h:∀s',Inv X pins (σ.set i (some v)) H s'->(∃a,Heap.SameBut a s.heap s'.heap/\(a=X.env.locals\/X.env.cells.lookup x=some a))->Q () s') (hf:X.fn x=true\/X.env.scope.names.lookup x=some .local:=by first | exact .inl rfl | exact .inr rfl | assumption):wpAny M A (storeName X.env x u) Q E s:=by
 obtain⟨m,hn,hl⟩:=id I.loc;have G:(X.env.scope.kind == .class || (X.env.scope.kind == .module && X.env.locals != X.env.globals))=false:=by rw[I.ok.kind];rfl
 have K:i<σ.length:=by rw[I.len];exact(Fe.mp hi).1
 have cne:=I.cne;have g:∀{a:W9}{h':Heap},(∃o,s.heap.get? a=some o/\H a=none)->Heap.SameBut a s.heap h'->Ez X.prog X.w H h':=λ{a h'} ha f b ob e=>by
  obtain⟨_,_,C⟩:=ha;refine(I.hok b ob e).stay (λc P t q=>(f.2 c ?_).trans q) (λ_ q=>q) λ_ _ q=>q;rintro rfl;rcases t with rfl | t
  ·rw[C]at e;cases e
  ·rw[C]at t;cases t
 rcases B with hk | hk
 ·refine wpAny_storeName_local hk hn (λh' Z f=>?_) G;obtain⟨oL,_,_,Y,_⟩:=id hn;refine h _ ⟨I.ok,I.os,I.bare,⟨λb o e n hb B=>?_,λb o e n hb B=>?_,I.base.free,λb o e B=>?_,I.base.tups,I.base.frzs,I.base.tbls⟩,⟨_,Z,λj y T l e2 e3=>?_⟩,λy c e=>?_,I.free,I.freeC,λp hp=>?_,g ⟨oL,Y,I.free⟩ f,by simpa using I.len⟩ ⟨_,f,.inl rfl⟩
  ·exact(f.2 b (DY (Cu (CN e) I.ok.above))).trans (I.base.keep b o e n hb B)
  ·obtain⟨R,l⟩:=I.base.slot b o e n hb B;exact⟨R,(f.2 b (DY (Cu (CN e) I.ok.above))).trans l⟩
  ·obtain⟨o',l⟩:=I.base.there b o e B;exact⟨o',(f.2 b (DY (Cu (CN e) I.ok.above))).trans l⟩
  ·by_cases hj:j=i
   ·subst hj;rw[hi]at l;cases l;rw[Y7 K]at e2;cases e2;exact⟨u,r,.inl ⟨hk,by simp⟩⟩
   ·rw[Rb (Ne.symm hj)]at e2;obtain⟨U,S,q⟩:=hl j y T l e2 e3;refine⟨U,S,?_⟩;rcases q with ⟨k,e⟩ | ⟨k,c,e,z⟩
    ·refine .inl ⟨k,?_⟩;have:y≠x:=λe=>hj (oG hN l (e ▸ hi));simp[this,e]
    ·exact .inr ⟨k,c,e,z.sameBut f (cne y c e)⟩
  ·obtain⟨P,z⟩:=I.cell y c e;exact⟨P,z.sameBut f (cne y c e)⟩
  ·obtain⟨e,n,O,W,d⟩:=I.pin p hp;exact⟨(f.2 p.1 O).trans e,n,O,W,d⟩
 ·have D:X.fn x=true:=by
   rcases hf with z | z
   ·exact z
   ·rw[z]at hk;cases hk
  obtain⟨c,t⟩:=I.ok.has x (.inl hk);obtain⟨P,z⟩:=I.cell x c t;refine wpAny_storeName_cell I.ok.kind hk t z (λh' J f=>?_);obtain⟨oc,L,F⟩:=id z;refine h {s with heap:=h'} ⟨I.ok,I.os,I.bare,⟨λb o e n hb B=>?_,λb o e n hb B=>?_,I.base.free,λb o e B=>?_,I.base.tups,I.base.frzs,I.base.tbls⟩,⟨m,hn.sameBut f (Ne.symm (cne x c t)),λj y T l e2 e3=>?_⟩,λy c' e=>?_,I.free,I.freeC,λp hp=>?_,g ⟨oc,L,I.freeC x c t⟩ f,by simpa using I.len⟩ ⟨c,f,.inr t⟩
  ·exact(f.2 b (DY (Cu (CN e) (I.ok.cab x c D t)))).trans (I.base.keep b o e n hb B)
  ·obtain⟨R,l⟩:=I.base.slot b o e n hb B;exact⟨R,(f.2 b (DY (Cu (CN e) (I.ok.cab x c D t)))).trans l⟩
  ·obtain⟨o',l⟩:=I.base.there b o e B;exact⟨o',(f.2 b (DY (Cu (CN e) (I.ok.cab x c D t)))).trans l⟩
  ·by_cases hj:j=i
   ·subst hj;rw[hi]at l;cases l;rw[Y7 K]at e2;cases e2;exact⟨u,r,.inr ⟨.inl hk,c,t,J⟩⟩
   ·rw[Rb (Ne.symm hj)]at e2;obtain⟨U,S,q⟩:=hl j y T l e2 e3;refine⟨U,S,?_⟩;rcases q with q | ⟨k,c',e,z'⟩
    ·exact .inl q
    ·refine .inr ⟨k,c',e,z'.sameBut f ?_⟩;rintro rfl;exact hj (oG hN l (I.ok.inj _ _ _ e t ▸ hi))
  ·by_cases hcc:c'=c
   ·subst hcc;exact⟨_,J⟩
   ·obtain⟨w2,z2⟩:=I.cell y c' e;exact⟨w2,z2.sameBut f hcc⟩
  ·obtain⟨e,n,O,W,d⟩:=I.pin p hp;refine⟨(f.2 p.1 ?_).trans e,n,O,W,d⟩;intro q;rw[q,L]at e;have q':oc=p.2:=Option.some.inj e;exact d P (by rw[<-q'];exact F)
theorem Xq{M:Model}{A:W6}{E:U2}{v:V}{u:W2}(I:Inv X pins σ H s)(hN:X.N.Nodup)(hi:X.N[i]?=some x)(hx:Loc X.env.scope x)(r:RelV v u)
  (h:∀s',Inv X pins (σ.set i (some v)) H s'->Q () s') (hf:X.fn x=true\/X.env.scope.names.lookup x=some .local:=by first | exact .inl rfl | exact .inr rfl | assumption):wpAny M A (storeName X.env x u) Q E s :=
 lg I hN hi hx r (λs' a _=>h s' a) hf
theorem Inv.call'{s':U7}(I:Inv X pins σ H s)(ho:s'.os=s.os)(u:Un (frs X.stack) ch H H' s.heap s'.heap)(hok:Ez X.prog X.w H' s'.heap)(hg:AllBare s'.gens)
  (hch:∀b∈ch,(b∈X.ex\/X.s₀.heap.objs.size<=b)/\b≠X.env.locals/\(∀x c,X.env.cells.lookup x=some c->c≠b)/\∀p∈X.pn++pins,p.1≠b):Inv X pins σ H' s':=by
 obtain⟨h',g',d',t',o'⟩:=s';have e:o'=s.os:=ho;subst e;exact I.call (g':=g') (t':=t') (d':=d') u hok hg hch
end
abbrev XK:=Value->Option Addr->Hp->Prop
abbrev St:=List (Option V)
abbrev VK:=V->Hp->Prop
abbrev TE:=St->Hp->VK->Prop
abbrev TT:=St->Hp->(Bool->Hp->Prop)->Prop
abbrev TA:=St->Hp->(List V->Hp->Prop)->Prop
structure Ends where
 nx:St->Hp->Prop
 rt:VK
 bk:St->Hp->Prop:=λ_ _=>False
 ct:St->Hp->Prop:=λ_ _=>False
abbrev TS:=Ends->St->Hp->Prop
def EP (X:Cx)(pins:U1)(σ:St)(Q:VK)(u:W2)(s':U7):Prop:=∃v H',Inv X pins σ H' s'/\RelV v u/\Q v H'
def TP (X:Cx)(pins:U1)(σ:St)(Q:Bool->Hp->Prop)(b:Bool)(s':U7):Prop:=∃H',Inv X pins σ H' s'/\Q b H'
def AP (X:Cx)(pins:U1)(σ:St)(Q:List V->Hp->Prop)(us:U5)(s':U7):Prop:=∃vs H',Inv X pins σ H' s'/\Vals vs us/\Q vs H'
def SP (X:Cx)(pins:U1)(D:Ends)(f:Flow)(s':U7):Prop :=
 match f with
 | .next=>∃σ' H',Inv X pins σ' H' s'/\D.nx σ' H'
 | .brk=>∃σ' H',Inv X pins σ' H' s'/\D.bk σ' H'
 | .cont=>∃σ' H',Inv X pins σ' H' s'/\D.ct σ' H'
 | .ret u=>∃v σ' H',Inv X pins σ' H' s'/\RelV v u/\D.rt v H'
def PE (X:Cx)(e:Expr)(t:TE):Prop :=
 ∀(pins:U1) (s:U7) (σ:St) (H:Hp) (Q:VK),Inv X pins σ H s->t σ H Q->wpAny (model X.prog X.w) X.A (eval e X.env) (EP X pins σ Q) X.xe s
def PT (X:Cx)(e:Expr)(t:TT):Prop :=
 ∀(pins:U1) (s:U7) (σ:St) (H:Hp) (Q:Bool->Hp->Prop),Inv X pins σ H s->t σ H Q->wpAny (model X.prog X.w) X.A (isTrue e X.env (eval e X.env)) (TP X pins σ Q) X.xe s
def PW (X:Cx)(e:Expr)(t:TT):Prop :=
 ∀(whole:Sem Value) (pins:U1) (s:U7) (σ:St) (H:Hp) (Q:Bool->Hp->Prop),Inv X pins σ H s->t σ H Q->wpAny (model X.prog X.w) X.A (isTrue e X.env whole) (TP X pins σ Q) X.xe s
variable{X:Cx}{e:Expr}
theorem PW.pt{t:TT}(h:PW X e t):PT X e t:=h _
def PA (X:Cx)(es:List Expr)(t:TA):Prop :=
 ∀(pos:Pos) (pins:U1) (s:U7) (σ:St) (H:Hp) (Q:List V->Hp->Prop),Inv X pins σ H s->t σ H Q->wpAny (model X.prog X.w) X.A (spliced (backTo pos (starEach es X.env))) (AP X pins σ Q) X.xe s
def PS (X:Cx)(st:Stmt)(t:TS):Prop :=
 ∀(pins:U1) (s:U7) (σ:St) (H:Hp) (D:Ends),Inv X pins σ H s->t D σ H->wpAny (model X.prog X.w) X.A (exec st X.env) (SP X pins D) X.xe s
def Ii (X:Cx)(st:W8)(t:TS):Prop :=
 ∀(pins:U1) (s:U7) (σ:St) (H:Hp) (D:Ends),Inv X pins σ H s->t D σ H->wpAny (model X.prog X.w) X.A (execs st X.env) (SP X pins D) X.xe s
variable{A:W6}{s:U7}
theorem Bk{α:Type}{t:Sem α}{Q Q':α->Shared->Prop}{M:Model}{E:U2}(h:wpAny M A t Q E s)(hQ:∀a s,Q a s->Q' a s):wpAny M A t Q' E s:=GD h hQ λ_ _ x=>x
section
variable {X:Cx}
def Va (i:Nat):TE:=λσ H Q=>∃v,σ[i]?=some (some v)/\Q v H
def tC (v:V):TE:=λ_ H Q=>Q v H
variable{x:Str}
theorem W1t{i:Nat}{pos:Pos}(hN:X.N[i]?=some x)(hv:YD X.env.scope x)(hd:(x == ("__debug__":Str))=false:=by decide)(hcd:(x == ("__classdict__":Str))=false:=by decide):PE X (.Name x pos) (Va i):=by
 intro pins s σ H Q I h;obtain⟨v,e,h⟩:=h;obtain⟨m,d,b⟩:=I.loc;obtain⟨u,r,l⟩:=b i x v hN e hv;have a:EP X pins σ Q u s:=⟨v,H,I,r,h⟩;rcases l with ⟨hk,hm⟩ | ⟨hk,c,hc,hcell⟩
 ·exact wpAny_Name (wpAny_loadName_local I.ok.kind hk d hm a) hd
 ·rcases hk with hk | hk
  ·exact wpAny_Name (wpAny_loadName_cell I.ok.kind hk hc hcell a) hd
  ·exact wpAny_Name (wpAny_loadName_free I.ok.kind hk hc hcell a hcd) hd
theorem Ad{i j pos}:PE X (.Constant (.int i) j pos) (tC (.int i)):=λ_ _ _ H _ I h=>wpAny_Constant_int ⟨.int i,H,I.tok _,⟨_,U⟩,h⟩
theorem Dw{b j pos}:PE X (.Constant (.bool b) j pos) (tC (.bl b)):=λ_ _ _ H _ I h=>Constant_bool ⟨.bl b,H,I,U,h⟩
theorem Nb{j pos}:PE X (.Constant .none j pos) (tC .non):=λ_ _ _ H _ I h=>Constant_none ⟨.non,H,I,U,h⟩
theorem Gb{x j pos}:PE X (.Constant (.str x) j pos) (tC (.str x)):=λ_ _ _ H _ I h=>Calls.Constant_str ⟨.str x,H,I.tok _,⟨_,U⟩,h⟩
def Gl (X:Cx)(x:Str):Prop:=X.env.kindOf x=some .globalImplicit
variable{u:W2}{Q:U2}
theorem Uk{E:U2}{pins:U1}{σ:St}{pos:Pos}(I:Inv X pins σ H s)(hg:Gl X x)(hm:X.mg x=some u)(h:Q u s)
  (hd:(x == ("__debug__":Str))=false:=by decide):wpAny (model X.prog X.w) X.A (eval (.Name x pos) X.env) Q E s :=
 Calls.Name_function_global I.ok.kind hg (Calls.loadGlobal_global (by rw[I.ok.glob];exact I.mod.glob.keeps I.bk) hm h) hd
theorem Rv{E:U2}{pins:U1}{σ:St}{pos:Pos}(I:Inv X pins σ H s)(hg:Gl X x)(hm:X.mg x=none)(hv:bootBuiltins x=some u)(h:Q u s)
  (hn:x≠"__name__":=by decide) (hd:(x == ("__debug__":Str))=false:=by decide):wpAny (model X.prog X.w) X.A (eval (.Name x pos) X.env) Q E s:=by
 obtain⟨a,h1,h2⟩:=I.mod.blt;exact Calls.Name_function_global I.ok.kind hg (Calls.loadGlobal_builtin (by rw[I.ok.glob];exact I.mod.glob.keeps I.bk) hm (by rw[I.ok.blt];exact h1.keeps I.bk) ((h2 x hn).trans hv) h) hd
theorem Pq{v:V}{pos:Pos}(hg:Gl X x)(hm:X.mg x=some u)(r:RelV v u)(hd:(x == ("__debug__":Str))=false:=by decide):PE X (.Name x pos) (tC v):=
 λ_ _ _ H _ I h=>Uk I hg hm ⟨v,H,I,r,h⟩ hd
theorem JZ{v:V}{pos:Pos}(hg:Gl X x)(hm:X.mg x=none)(hv:bootBuiltins x=some u)(r:RelV v u)(hn:x≠"__name__":=by decide)(hd:(x == ("__debug__":Str))=false:=by decide):PE X (.Name x pos) (tC v):=
 λ_ _ _ H _ I h=>Rv I hg hm hv ⟨v,H,I,r,h⟩ hn hd
variable {a b:Expr}{ta tb:TE}{pos:Pos}
def PC (X:Cx)(op:CmpOp)(a b:Expr)(t:TE):Prop :=
 ∀(pins:U1) (s:U7) (σ:St) (H:Hp) (Q:VK),Inv X pins σ H s->t σ H Q ->
  wpAny (model X.prog X.w) X.A (eval a X.env) (λv s₁=>wpAny (model X.prog X.w) X.A (eval b X.env) (λu s₂=>wpAny (model X.prog X.w) X.A (compareOp op v u) (EP X pins σ Q) X.xe s₂) X.xe s₁) X.xe s
def tB (t:TE):TT:=λσ H Q=>t σ H λx H1=>∃c,x=.bl c/\Q c H1
theorem yI{op:CmpOp}{t:TE}(h:PC X op a b t)(h1:behindInMarks op b=false:=by first | exact nobehind _ (by decide) (by decide) | rfl):PT X (.Compare a [op] [b] pos) (tB t):=by
 intro pins s σ H Q I e;refine qJ (Bk (h pins s σ H _ I e) λv j h1=>Bk h1 λu s2 h2=>Bk h2 λc s3 ⟨x,H1,i,g,f⟩=>?_) h1;obtain⟨d,rfl,q⟩:=f;cases g;exact O7 ⟨H1,i,q⟩
theorem DW{t:TE}(h:PE X e t)(he:∀whole,isTrue e X.env whole=(do let v ← whole;standAt e.pos;holding [v] (truthy v)):=by intro _;rfl):PT X e (tB t):=by
 intro pins s σ H Q I c;refine isTrue_plain (Bk (h pins s σ H _ I c) λv g ⟨x,H1,f,b,a⟩=>?_) (he _);obtain⟨d,rfl,q⟩:=a;cases b;exact O7 ⟨H1,f,q⟩
variable {tA tB':TT}{rest:List Expr}
def bR (t u:TT):TT:=λσ H Q=>t σ H λc H1=>if c=true then u σ H1 Q else Q false H1
def tOr (t u:TT):TT:=λσ H Q=>t σ H λc H1=>if c=true then Q true H1 else u σ H1 Q
def bJ (t:TT):TT:=λσ H Q=>t σ H λc H1=>Q (!c) H1
theorem Ol(ha:PT X a tA):PW X (.BoolOp .And [a] pos) tA:=by
 intro b pins s σ H Q I h;refine isTrue_and (Bk (ha pins s σ H Q I h) λc d e=>?_);cases c with
 | true=>exact isTrue_and_nil e
 | false=>exact e
theorem Hg(ha:PT X a tA):PW X (.BoolOp .Or [a] pos) tA:=by
 intro b pins s σ H Q I h;refine isTrue_or (Bk (ha pins s σ H Q I h) λc d e=>?_);cases c with
 | false=>exact isTrue_or_nil e
 | true=>exact e
theorem Oh(ha:PT X a tA)(hb:PW X (.BoolOp .And (b::rest) pos) tB'):PW X (.BoolOp .And (a::b::rest) pos) (bR tA tB'):=by
 intro f pins s σ H Q I h;refine isTrue_and (Bk (ha pins s σ H _ I h) λc g ⟨H1,e,d⟩=>?_);cases c with
 | true=>exact hb f pins g σ H1 Q e d
 | false=>exact⟨H1,e,d⟩
theorem Es(ha:PT X a tA)(hb:PW X (.BoolOp .Or (b::rest) pos) tB'):PW X (.BoolOp .Or (a::b::rest) pos) (tOr tA tB'):=by
 intro f pins s σ H Q I h;refine isTrue_or (Bk (ha pins s σ H _ I h) λc g ⟨H1,e,d⟩=>?_);cases c with
 | true=>exact⟨H1,e,d⟩
 | false=>exact hb f pins g σ H1 Q e d
theorem Eh(ha:PT X a tA):PT X (.UnaryOp .Not a pos) (bJ tA):=by
 intro pins s σ H Q I h;exact isTrue_not (ha pins s σ H (λc H1=>Q (!c) H1) I h)
def Vm (ta tb:TE):TE:=λσ H Q=>ta σ H λx H1=>∃c,x=.bl c/\if c=true then tb σ H1 Q else Q (.bl false) H1
def bI (ta tb:TE):TE:=λσ H Q=>ta σ H λx H1=>∃c,x=.bl c/\if c=true then Q (.bl true) H1 else tb σ H1 Q
def Vg (ta:TE):TE:=λσ H Q=>ta σ H λx H1=>∃c,x=.bl c/\Q (.bl (!c)) H1
theorem Kl{op}{t:TE}(h:PE X a t):PE X (.BoolOp op [a] pos) t:=λpins s σ H Q I b=>BoolOp_one (h pins s σ H Q I b)
theorem K9(ha:PE X a ta)(hb:PE X (.BoolOp .And (b::rest) pos) tb):PE X (.BoolOp .And (a::b::rest) pos) (Vm ta tb):=by
 intro pins s σ H Q I h;refine BoolOp_and (Bk (ha pins s σ H _ I h) λv g ⟨x,H1,e,f,d⟩=>?_);obtain⟨c,rfl,d⟩:=d;cases f;refine O7 ?_;cases c with
 | true=>exact hb pins g σ H1 Q e d
 | false=>exact⟨.bl false,H1,e,rfl,d⟩
theorem W5l(ha:PE X a ta)(hb:PE X (.BoolOp .Or (b::rest) pos) tb):PE X (.BoolOp .Or (a::b::rest) pos) (bI ta tb):=by
 intro pins s σ H Q I h;refine BoolOp_or (Bk (ha pins s σ H _ I h) λv g ⟨x,H1,e,f,d⟩=>?_);obtain⟨c,rfl,d⟩:=d;cases f;refine O7 ?_;cases c with
 | false=>exact hb pins g σ H1 Q e d
 | true=>exact⟨.bl true,H1,e,rfl,d⟩
theorem Rz(ha:PE X a ta):PE X (.UnaryOp .Not a pos) (Vg ta):=by
 intro pins s σ H Q I h;refine UnaryOp_ (Bk (ha pins s σ H _ I h) λv f ⟨x,H1,e,d,b⟩=>?_);obtain⟨c,rfl,b⟩:=b;cases d;exact not_of (O7 ⟨.bl (!c),H1,e,U,b⟩)
def tIf (t:TT)(ta tb:TE):TE:=λσ H Q=>t σ H λc H1=>if c=true then ta σ H1 Q else tb σ H1 Q
theorem Px{c:Expr}(hc:PT X c tA)(ha:PE X a ta)(hb:PE X b tb):PE X (.IfExp c a b pos) (tIf tA ta tb):=by
 intro pins s σ H Q I h;refine wpAny_IfExp (Bk (hc pins s σ H _ I h) λd g ⟨H1,f,e⟩=>?_);cases d with
 | true=>exact ha pins g σ H1 Q f e
 | false=>exact hb pins g σ H1 Q f e
end
def Ag (K:U0)(H:Hp)(a:W9)(xs:List V):Prop :=
 Rd H a (.lst xs) \/
  ∃(o:Obj) (its:U9) (n:Nat),K.lookup a=some o/\o.cls=.type "list"/\o.dict=none/\o.data=.seq its n/\its.size<=sizeLine/\Vals xs its.toList
def Ai (K:U0)(H:Hp)(a:W9)(xs:List V):Prop :=
 Rd H a (.tup xs) \/
  ∃(o:Obj) (its:U9) (n:Nat),K.lookup a=some o/\o.cls=.type "tuple"/\o.data=.seq its n/\its.size<=sizeLine/\Vals xs its.toList
noncomputable def lF:Value->Option V
 | .none=>some .non
 | .bool b=>some (.bl b)
 | .int i _=>some (.int i)
 | .str x _=>some (.str x)
 | .bytes b _=>some (.byt b)
 | .float b _=>some (.flt b)
 | .ref a=>some (.ref a)
 | .type n=>some (.ty n)
 | _=>none
variable{x:V}{u:W2}
theorem RelV.abs(r:RelV x u):lF u=some x:=by
 cases x with
 | non=>cases r;rfl
 | bl _=>cases r;rfl
 | int _=>obtain⟨t,rfl⟩:=r;rfl
 | str _=>obtain⟨t,rfl⟩:=r;rfl
 | byt _=>obtain⟨t,rfl⟩:=r;rfl
 | flt _=>obtain⟨t,rfl⟩:=r;rfl
 | ref _=>cases r;rfl
 | ty _=>cases r;rfl
theorem RelV.inj{y:V}(r:RelV x u)(q:RelV y u):x=y:=Option.some.inj (r.abs.symm.trans q.abs)
theorem Vals.inj{xs ys:List V}(h:Vals xs us)(h':Vals ys us):xs=ys:=by
 induction h generalizing ys with
 | nil=>cases h';rfl
 | cons r t ih=>cases h' with
  | cons r' t'=>rw[r.inj r',ih t']
section
variable {X:Cx}{pins:U1}{σ:St}{H:Hp}{s:U7}{a:W9}{xs ys:List V}
theorem Ag.of{K:U0}(h:H a=some (.lst xs)):Ag K H a xs:=.inl (.inl h)
theorem Ai.of{K:U0}(h:H a=some (.tup xs)):Ai K H a xs:=.inl (.inl h)
theorem Inv.list(I:Inv X pins σ H s)(h:Ag X.K H a xs):∃its:List Value,Vals xs its/\PlainL s.heap a its.toArray/\xs.length<=sizeLine:=by
 rcases h with h | ⟨o,its,n,hk,hc,hd,hs,hz,r⟩
 ·obtain⟨z,its,n,r,e⟩:=h.ok I.hok;exact⟨its,r,⟨_,n,e,U,U,U⟩,z⟩
 ·refine⟨its.toList,r,⟨o,n,I.kIn a o hk,hc,hd,by simpa using hs⟩,?_⟩;have e:=r.length;simp only[JT]at e;lia
theorem Inv.tuple(I:Inv X pins σ H s)(h:Ai X.K H a xs):∃its:List Value,Vals xs its/\IsTup s.heap a its.toArray/\xs.length<=sizeLine:=by
 rcases h with h | ⟨o,its,n,hk,hc,hs,hz,r⟩
 ·obtain⟨z,its,r,p⟩:=h.ok I.hok;exact⟨its,r,p,z⟩
 ·refine⟨its.toList,r,⟨o,I.kIn a o hk,hc,n,by simpa using hs⟩,?_⟩;have e:=r.length;simp only[JT]at e;lia
theorem Inv.list_inj(I:Inv X pins σ H s)(h:Ag X.K H a xs)(h':Ag X.K H a ys):xs=ys:=by
 obtain⟨its,r,⟨o,n,e,_,_,d⟩,_⟩:=I.list h;obtain⟨its',c,⟨o',f,b,_,_,d'⟩,_⟩:=I.list h';rw[e]at b;cases b;rw[d]at d';injection d' with d1 _;have:its=its':=by simpa using congrArg Array.toList d1
 subst this;exact r.inj c
theorem Inv.tuple_inj(I:Inv X pins σ H s)(h:Ai X.K H a xs)(h':Ai X.K H a ys):xs=ys:=by
 obtain⟨its,r,⟨o,e,_,n,d⟩,_⟩:=I.tuple h;obtain⟨its',c,⟨o',b,_,f,d'⟩,_⟩:=I.tuple h';rw[e]at b;cases b;rw[d]at d';injection d' with d1 _;have:its=its':=by simpa using congrArg Array.toList d1
 subst this;exact r.inj c
end
noncomputable abbrev Cx.wish (X:Cx)(E:U2):Cx:={X with xe:=E}
noncomputable abbrev Cx.nox (X:Cx):Cx:=X.wish λ_ _=>False
theorem Cx.Ok.wish(ok:X.Ok)(E:U2):(X.wish E).Ok :=
 ⟨ok.mod,ok.kind,ok.glob,ok.blt,ok.above,ok.inj,ok.has,ok.cab,ok.hd,ok.frames,ok.stk,ok.exf,ok.bs,ok.bsz,ok.noex,ok.exfs,ok.funs,ok.frf⟩
theorem Cx.Ok.unwish{E:U2}(ok:(X.wish E).Ok):X.Ok :=
 ⟨ok.mod,ok.kind,ok.glob,ok.blt,ok.above,ok.inj,ok.has,ok.cab,ok.hd,ok.frames,ok.stk,ok.exf,ok.bs,ok.bsz,ok.noex,ok.exfs,ok.funs,ok.frf⟩
section
variable {X:Cx}{pins:U1}{σ:St}{H:Hp}{s:U7}{E:U2}
theorem Inv.wish(I:Inv X pins σ H s)(E:U2):Inv (X.wish E) pins σ H s:=⟨I.ok.wish E,I.os,I.bare,I.base,I.loc,I.cell,I.free,I.freeC,I.pin,I.hok,I.len⟩
theorem Inv.unwish(I:Inv (X.wish E) pins σ H s):Inv X pins σ H s:=⟨I.ok.unwish,I.os,I.bare,I.base,I.loc,I.cell,I.free,I.freeC,I.pin,I.hok,I.len⟩
theorem SP.unwish{D:Ends}{f:Flow}{s':U7}(h:SP (X.wish E) pins D f s'):SP X pins D f s':=by
 cases f with
 | next=>obtain⟨a,H',I,q⟩:=h;exact⟨a,H',I.unwish,q⟩
 | brk=>obtain⟨a,H',I,q⟩:=h;exact⟨a,H',I.unwish,q⟩
 | cont=>obtain⟨a,H',I,q⟩:=h;exact⟨a,H',I.unwish,q⟩
 | ret u=>obtain⟨v,a,H',I,r,q⟩:=h;exact⟨v,a,H',I.unwish,r,q⟩
theorem Ii.nox{st:W8}{t:TS}(h:Ii X.nox st t):Ii X st t:=λpins s σ H D I a =>
 GD (h pins s σ H D (I.wish _) a) (λ_ _ q=>q.unwish) λ_ _ z=>False.elim z
end
section
variable {X:Cx}{st:Stmt}{rest:W8}{t u:TS}{e:Expr}{te:TE}{pos:Pos}
def Vi:TS:=λD σ H=>D.nx σ H
def Ve (t u:TS):TS:=λD σ H=>t {D with nx:=u D} σ H
theorem B_:Ii X [] Vi:=λ_ _ σ H _ I h=>WR ⟨σ,H,I,h⟩
theorem Ay(h1:PS X st t)(h2:Ii X rest u):Ii X (st::rest) (Ve t u):=by
 intro pins s σ H D I h;refine fC (Bk (h1 pins s σ H {D with nx:=u D} I h) λf c q=>?_);cases f with
 | next =>
  obtain⟨a,H',b,q⟩:=q;exact h2 pins c a H' D b q
 | ret v=>exact q
 | brk=>exact q
 | cont=>exact q
theorem Ak(h1:PS X st t):Ii X [st] t:=by
 intro pins s σ H D I h;refine fC (Bk (h1 pins s σ H D I h) λf a q=>?_);cases f with
 | next=>exact WR q
 | ret v=>exact q
 | brk=>exact q
 | cont=>exact q
theorem Inv.quiet{pins:U1}{σ:St}(I:Inv X pins σ H s):interactive X.env=false:=by simp[interactive,I.ok.kind]
def Vk (te:TE):TS:=λD σ H=>te σ H λ_ H1=>D.nx σ H1
theorem Ni(he:PE X e te)(hs:swapsWith e none pos.line X.env=pure false:=by rfl):PS X (.Expr e pos) (Vk te):=by
 intro pins s σ H D I h;exact wpAny_Expr_any (Bk (he pins s σ H _ I h) λv d ⟨x,H1,b,c,a⟩=>⟨σ,H1,b,a⟩) I.quiet hs
def bG (te:TE):TS:=λD σ H=>te σ H D.rt
theorem BL(he:PE X e te):PS X (.Return (some e) pos) (bG te):=by
 intro pins s σ H D I h;exact wpAny_Return_some (Bk (he pins s σ H _ I h) λv d ⟨x,H1,c,b,a⟩=>⟨x,σ,H1,c,b,a⟩)
def bL (c:TT)(t u:TS):TS:=λD σ H=>c σ H λb H1=>if b=true then t D σ H1 else u D σ H1
theorem Bx{c:Expr}{a b:W8}{tc:TT}(hc:PT X c tc)(ha:Ii X a t)(hb:Ii X b u):PS X (.If c a b pos) (bL tc t u):=by
 intro pins s σ H D I h;refine wpAny_If (Bk (hc pins s σ H _ I h) λd g ⟨H1,f,e⟩=>?_);cases d with
 | true=>exact ha pins g σ H1 D f e
 | false=>exact hb pins g σ H1 D f e
def L_:TS:=λ_ _ _=>False
theorem Sd:PS X st L_:=λ_ _ _ _ _ _ h=>h.elim
theorem wQ{sts:W8}:Ii X sts L_:=λ_ _ _ _ _ _ h=>h.elim
end
abbrev TG:=V->St->Hp->(St->Hp->Prop)->Prop
abbrev TF:=List V->St->Hp->(St->Hp->Prop)->Prop
def PG (X:Cx)(target:Expr)(t:TG):Prop :=
 ∀(pins:U1) (s:U7) (σ:St) (H:Hp) (v:V) (u:W2) (Q:St->Hp->Prop),Inv X pins σ H s->RelV v u->t v σ H Q ->
  wpAny (model X.prog X.w) X.A (assign target X.env u) (λ_ s'=>∃σ' H',Inv X pins σ' H' s'/\Q σ' H') X.xe s
def aX (X:Cx)(ts:List Expr)(t:TF):Prop :=
 ∀(pins:U1) (s:U7) (σ:St) (H:Hp) (vs:List V) (us:U5) (Q:St->Hp->Prop),Inv X pins σ H s->Vals vs us->t vs σ H Q ->
  wpAny (model X.prog X.w) X.A (assignInOrder ((assignEach ts X.env).map (·.2)) us) (λ_ s'=>∃σ' H',Inv X pins σ' H' s'/\Q σ' H') X.xe s
abbrev S_:=V->V->V->Hp->(Hp->Prop)->Prop
def YG (X:Cx)(t:S_):Prop :=
 ∀(pins:U1) (s:U7) (σ:St) (H:Hp) (o i v:V) (ov iv u:W2) (Q:Hp->Prop),Inv X pins σ H s->RelV o ov->RelV i iv->RelV v u->t o i v H Q ->
  wpAny (model X.prog X.w) X.A (setItem ov iv u) (λ_ s'=>∃H',Inv X pins σ H' s'/\Q H') X.xe s
section
variable {X:Cx}{pos:Pos}
def Ce (i:Nat):TG:=λv σ H Q=>Q (σ.set i (some v)) H
theorem Bb{i:Nat}{x:Str}(hN:X.N.Nodup)(hi:X.N[i]?=some x)(hx:Loc X.env.scope x)(hf:X.fn x=true\/X.env.scope.names.lookup x=some .local:=by first | exact .inl rfl | exact .inr rfl | assumption):PG X (.Name x pos) (Ce i):=by
 intro pins s σ H v u Q I r h;exact fP (Xq I hN hi hx r (λs' a=>⟨_,H,a,h⟩) hf)
def Wy:TF:=λvs σ H Q=>vs=[]/\Q σ H
def NP (t:TG)(u:TF):TF:=λvs σ H Q=>∃v r,vs=v::r/\t v σ H λσ' H'=>u r σ' H' Q
theorem Lx:aX X [] Wy:=by
 intro pins s σ H vs us Q I r h;obtain⟨e,h⟩:=h;subst e;cases r;exact assignInOrder_nil ⟨σ,H,I,h⟩
theorem Ea{e:Expr}{es:List Expr}{t:TG}{u:TF}(h1:PG X e t)(h2:aX X es u)
  (hs:(assignEach (e::es) X.env).map (·.2)=assign e X.env::(assignEach es X.env).map (·.2):=by rfl):aX X (e::es) (NP t u):=by
 intro pins s σ H vs us Q I r h;obtain⟨v,g,c,h⟩:=h;subst c;cases r with
 | cons r rr =>
  rw[hs];refine fW (Bk (h1 pins s σ H _ _ _ I r h) λ_ f ⟨b,H1,d,a⟩=>?_);exact h2 pins f b H1 _ _ Q d rr a
def Wx (K:U0)(n:Nat)(t:TF):TG:=λv σ H Q=>∃a xs,v=.ref a/\Ai K H a xs/\xs.length=n/\t xs σ H Q
theorem Ls{es:List Expr}{k:Nat}{t:TF}{n:Nat}(hc:X.calm=true)(h:aX X es t)
  (hn:(assignEach es X.env).length=n:=by rfl) (hst:(assignEach es X.env).findIdx? (·.1)=none:=by rfl):PG X (.Tuple es k pos) (Wx X.K n t):=by
 intro pins s σ H v u Q I r c;obtain⟨a,xs,j,f,l,c⟩:=c;subst j;cases r;obtain⟨its,d,g,p⟩:=I.tuple f;refine assign_Tuple_tuple (I.ok.hd hc) g (by simp[hn,<-l,d.length]) hst λh' i=>?_;have m:Inv X pins σ H {s with heap:=h'}:=I.kept (t':=s.toks) λb o e=>i b o (DY (CN e)) e;exact h pins _ σ H xs _ Q m (by simpa using d) c
def kj (to ti:TE)(t:S_):TG:=λv σ H Q=>to σ H λo H1=>ti σ H1 λi H2=>t o i v H2 λH3=>Q σ H3
theorem W1s{o i:Expr}{to ti:TE}{t:S_}(ho:PE X o to)(hi:PE X i ti)(hs:YG X t)
  (ha:∀v,assign (.Subscript o i pos) X.env v=(do
   let a ← holding [v] (eval o X.env)
   let b ← holding [v,a] (eval i X.env)
   standAt pos
   holding [v,a,b] (setItem a b v)
   release [v,a,b] []):=by intro _;rfl):PG X (.Subscript o i pos) (kj to ti t):=by
 intro pins s σ H v u Q I r h;rw[ha];refine Aw (Ky (Bk (ho pins s σ H _ I h) λa n ⟨x,H1,m,j,f⟩=>?_));refine Aw (Ky (Bk (hi pins n σ H1 _ m f) λb s2 ⟨y,H2,l,e,k⟩=>?_));refine Aw (RM (Aw (Ky (Bk (hs pins s2 σ H2 x y v a b u _ l j e r k) λ_ s3 ⟨d,g,c⟩=>?_))));exact wpAny_release ⟨σ,d,g,c⟩
def Ot (te:TE)(g:TG):TS:=λD σ H=>te σ H λx H1=>g x σ H1 D.nx
theorem R0{tg:Expr}{te:TE}{g:TG}(he:PE X e te)(hg:PG X tg g)(hs:swapsWithSole [tg] e pos.line X.env=pure false:=by rfl)(hw:swappedStores [tg] e X.env=pure none:=by rfl)
  (h1:(assignEach [tg] X.env).map (·.2)=[assign tg X.env]:=by rfl):PS X (.Assign [tg] e pos) (Ot te g):=by
 intro pins s σ H D I h;refine wpAny_Assign_stores (Bk (he pins s σ H _ I h) λv d ⟨x,H1,c,b,a⟩=>?_) hs hw;rw[h1];exact Bk (hg pins d σ H1 x v _ c b a) λ_ s2 q=>q
theorem BX{i:Nat}{x:Str}{e:Expr}{te:TE}{pos':Pos}(hN:X.N.Nodup)(hi:X.N[i]?=some x)(hx:Loc X.env.scope x)(he:PE X e te)(hs:swapsWith e (some (.Name x pos')) pos.line X.env=pure false:=by rfl)(hf:X.fn x=true\/X.env.scope.names.lookup x=some .local:=by first | exact .inl rfl | exact .inr rfl | assumption):
  PS X (.Assign [.Name x pos'] e pos) (Ot te (Ce i)):=by
 intro pins s σ H D I h;refine wpAny_Assign_Name (Bk (he pins s σ H _ I h) λv f ⟨y,H1,c,b,a⟩=>?_) hs;exact Xq c hN hi hx b (λs2 d=>⟨_,H1,d,a⟩) hf
def bH (i j:Nat)(ta:TA):TS:=λD σ H=>ta σ H λvs H1=>∃v w,vs=[v,w]/\D.nx ((σ.set i (some v)).set j (some w)) H1
theorem W1p{i j:Nat}{x y:Str}{a b:Expr}{ta:TA}{px py pt:Pos}{kt k2 pt2}(hc:X.calm=true)(hN:X.N.Nodup)(hi:X.N[i]?=some x)(hj:X.N[j]?=some y)(hij:i≠j)
  (hx:X.env.scope.names.lookup x=some .local) (hy:X.env.scope.names.lookup y=some .local) (ha:PA X [a,b] ta)
  (hw:swappedStores [.Tuple [.Name x px,.Name y py] kt pt] (.Tuple [a,b] k2 pt2) X.env=pure (some [x,y]))
  (hs:swapsWithSole [.Tuple [.Name x px,.Name y py] kt pt] (.Tuple [a,b] k2 pt2) pos.line X.env=pure false:=by rfl):
  PS X (.Assign [.Tuple [.Name x px,.Name y py] kt pt] (.Tuple [a,b] k2 pt2) pos) (bH i j ta):=by
 intro pins s σ H D I h;rw[exec_Assign_arm];refine Aw (RM ?_);rw[hs];refine Aw (Bl ?_);rw[if_neg (by decide)];refine Aw (Tuple_ (Bk (ha _ pins s σ H _ I h) λus d ⟨vs,H1,B,r,g⟩=>?_));obtain⟨v,w,z,g⟩:=g;subst z;obtain⟨c,u2,rfl,u,f⟩:∃c u2,us=[c,u2]/\RelV v c/\RelV w u2:=by
  cases r with
  | cons p q =>
   cases q with
   | cons p' q' =>
    cases q';exact⟨_,_,U,p,p'⟩
 refine Le ?_ (by show 2<=sizeLine;decide);have t:Inv X pins σ H1 {d with heap:=d.heap.push { cls:=.type "tuple",data:=.seq [c,u2].toArray}}:=B.kept (t':=d.toks) λb o e=>Ef _ e;rw[hw];refine Aw (Bl ?_);show wpAny (model X.prog X.w) X.A (do rule "assign.swapped-stores";let items ← unpackItems (.ref d.heap.objs.size) 2 none;assignInOrder [λv=>bindName X.env y v,λv=>bindName X.env x v] items.reverse;pure Flow.next) _ _ _;refine Aw (wpAny_rule (Aw (unpackItems_tuple (items:=#[c,u2]) (I.ok.hd hc) (IsTup.new d.heap _) λh' k=>?_)));have n:=t.kept (h':=h') (t':=d.toks) λb o e=>k b o (DY (CN e)) e;show wpAny _ _ (assignInOrder [λv=>bindName X.env y v,λv=>bindName X.env x v] [u2,c] >>= λ_=>pure Flow.next) _ _ _;refine Aw (fW (wpAny_bindName (Xq n hN hj (.inl hy) f (λs2 m=>?_) (.inr hy))));refine fW (wpAny_bindName (Xq m hN hi (.inl hx) u (λs3 l=>assignInOrder_nil (Bl ?_)) (.inr hx)));rw[List.set_comm _ _ (Ne.symm hij)]at l;exact⟨_,H1,l,g⟩
end
section
variable {X:Cx}{pos:Pos}
def Q6 (c:TT)(tb:TS):TS:=λD σ H=>∃W:Nat->St->Hp->Prop,(∃m,W m σ H)/\∀m σ H,W m σ H ->
 c σ H λb H1=>if b=true then ∃N:St->Hp->Prop,(∀σ' H',N σ' H'->∃m',m'<m/\W m' σ' H')/\tb {D with nx:=N,ct:=N,bk:=D.nx} σ H1 else D.nx σ H1
theorem Ze{c:Expr}{body:W8}{tc:TT}{tb:TS}(hp:PassesOwn (model X.prog X.w) X.A X.env X.xe)(hc:PT X c tc)(hb:Ii X body tb):PS X (.While c body [] pos) (Q6 tc tb):=by
 intro pins s σ H D I h;obtain⟨W,⟨q,w0⟩,d⟩:=h;refine wpAny_While (codeAny_whileLoop (λn s'=>∃σ' H',Inv X pins σ' H' s'/\W n σ' H') ?_ q ⟨σ,H,I,w0⟩);rintro n u ⟨j,H1,t,r⟩;refine RX hp (Bk (hc pins u j H1 _ t (d n j H1 r)) λb s2 ⟨H2,p,i⟩=>?_);cases b with
 | true =>
  obtain⟨N,o,i⟩:=i;rw[if_pos rfl];refine RX hp (Bk (hb pins s2 j H2 _ p i) λf s3 g=>?_);cases f with
  | next =>
   obtain⟨e,a,m,l⟩:=g;obtain⟨m',hm,k⟩:=o e a l;exact⟨m',hm,e,a,m,k⟩
  | cont =>
   obtain⟨e,a,m,l⟩:=g;obtain⟨m',hm,k⟩:=o e a l;exact⟨m',hm,e,a,m,k⟩
  | brk=>exact g
  | ret v=>exact g
 | false =>
  rw[if_neg GJ];exact WR ⟨j,H2,p,i⟩
end
structure It where
 go:Nat->Hp->Prop
 yld:Nat->Hp->V->Hp->Prop
 stop:Nat->Hp->Prop
def Dl (X:Cx)(pins:U1)(H:Hp)(b:W9):Prop :=
 H b=none/\b≠X.env.locals/\b∉X.fs/\(b∈X.ex\/X.s₀.heap.objs.size<=b)/\(∀x c,X.env.cells.lookup x=some c->c≠b)/\∀p∈X.pn++pins,p.1≠b
variable{pins:U1}{σ:St}
theorem Inv.fpOk{H':Hp}(I:Inv X pins σ H s)(hb:s.heap.objs.size<=b)(hn:H' b=none):Dl X pins H' b:=by
 refine⟨hn,Ms (Cu I.lt hb),I.nofs hb,.inr (E_ I.sz hb),λx c e z=>?_,λp hp z=>?_⟩
 ·obtain⟨v,q⟩:=I.cell x c e;exact absurd (Cu q.lt (by rw[z];exact hb)) (Mu _)
 ·exact absurd (Cu (CN (I.pin p hp).1) (by rw[z];exact hb)) (Mu _)
structure Turn (P:U8) (w:W1) (K:U0) (tg:Expr) (J:It) (fp:U3) (it:W9) (tn:Nat->Heap->Prop):Prop where
 mem:it∈fp
 obj:∀i h,tn i h->∀b∈fp,∃o,h.get? b=some o/\∀v,o.data≠.cell v
 keep:∀i h h',tn i h->(∀b∈fp,∀o,h.get? b=some o->h'.get? b=some o)->tn i h'
 item:∀(X:Cx),X.prog=P->X.w=w->X.K=K->X.calm=true->∀(i:Nat) (pins:U1) (s:U7) (σ:St) (H:Hp) (E:U2),Inv X pins σ H s->(∀b∈fp,Dl X pins H b)->tn i s.heap->J.go i H ->
  wpAny (model P w) X.A (pyNext (.ref it)) (λr s1=>∃u,r=some u /\
   wpAny (model P w) X.A (letOwnedTupleGo tg (.ref it) u) (λ_ s2=>∃x H',Inv X pins σ H' s2/\RelV x u/\J.yld i H x H'/\tn (i+1) s2.heap/\∀b∈fp,H' b=none) E s1) E s
 done:∀(X:Cx),X.prog=P->X.w=w->X.K=K->X.calm=true->∀(i:Nat) (pins:U1) (s:U7) (σ:St) (H:Hp) (E:U2),Inv X pins σ H s->(∀b∈fp,Dl X pins H b)->tn i s.heap->J.stop i H ->
  wpAny (model P w) X.A (pyNext (.ref it)) (λr s1=>r=none/\Inv X pins σ H s1) E s
 self:∀(A:W6) (i:Nat) (s:U7) (Q:U2) (E:U2),tn i s.heap->Q (.ref it) s->wpAny (model P w) A (pyIter (.ref it)) Q E s
abbrev TI:=St->Hp->(It->Hp->Prop)->Prop
def PIE (X:Cx)(pins:U1)(σ:St)(tg:Expr)(R:It->Hp->Prop)(itv:W2)(s2:U7):Prop :=
 ∃(it:W9) (fp:U3) (tn:Nat->Heap->Prop) (J:It) (H':Hp),itv=.ref it/\Inv X pins σ H' s2/\Turn X.prog X.w X.K tg J fp it tn/\tn 0 s2.heap/\(∀b∈fp,Dl X pins H' b)/\R J H'
def PI (X:Cx)(tg iter:Expr)(wi:TI):Prop :=
 ∀(pins:U1) (s:U7) (σ:St) (H:Hp) (R:It->Hp->Prop),Inv X pins σ H s->wi σ H R ->
  wpAny (model X.prog X.w) X.A (eval iter X.env) (λv s1=>wpAny (model X.prog X.w) X.A (pyIter v) (PIE X pins σ tg R) X.xe s1) X.xe s
variable{tg:Expr}
theorem oN{M:Model}{E:U2}{it:W9}{n:String}{vs:U9}{Q:Unit->Shared->Prop}(ho:s.heap.get? it=some o)(hc:o.cls=.type n)(hd:o.data=.fields vs)
  (hn:["enumerate","zip","dict_itemiterator","dict_reverseitemiterator","odict_iterator","itertools.zip_longest","itertools.pairwise"].contains n=false) (hQ:Q () s):wpAny M A (letOwnedTupleGo tg (.ref it) u) Q E s:=by
 unfold letOwnedTupleGo;cases tg<;>first
  | exact Bl hQ
  | (cases u<;>first
    | exact Bl hQ
    | (refine Aw (Ye ho ?_);rw[hc,hd];show wpAny M A (if (["enumerate","zip","dict_itemiterator","dict_reverseitemiterator","odict_iterator","itertools.zip_longest","itertools.pairwise"].contains n && vs[0]? == some (rawInt _))=true then _ else _) Q E s;rw[if_neg (by intro h;rw[hn,RN]at h;cases h)];exact Bl hQ))
def Nz (K:U0)(a:W9):It :=
 ⟨λi H=>∃xs x,Ag K H a xs/\xs[i]?=some x,λi H x H'=>H'=H/\∀xs,Ag K H a xs->xs[i]?=some x,λi H=>∃xs,Ag K H a xs/\xs.length<=i⟩
def ao (K:U0)(a:W9):It :=
 ⟨λi H=>∃xs x,Ai K H a xs/\xs[i]?=some x,λi H x H'=>H'=H/\∀xs,Ai K H a xs->xs[i]?=some x,λi H=>∃xs,Ai K H a xs/\xs.length<=i⟩
def Ht (lo:Int)(n:Nat):It:=⟨λi _=>i<n,λi H x H'=>H'=H/\x=.int (lo+i),λi _=>n<=i⟩
variable{K:U0}
theorem Y7f(a it:W9):Turn P w K tg (Nz K a) [it] it (λi h=>h.IsListIter it a i) where
 mem:=by simp
 obj:=λi h st b hb=>by
  have e:b=it:=by simpa using hb
  subst e;obtain⟨o,e,c,d⟩:=st;exact⟨o,e,λv z=>by rw[d]at z;cases z⟩
 keep:=λi h h' st k=>st.at λo e=>k it (by simp) o e
 item:=by
  intro X m l B F i pins s σ H E I j st t;subst m l B;obtain⟨xs,x,g,y⟩:=t;obtain⟨its,A,p,J⟩:=I.list g;obtain⟨u,O,G⟩:=A.get y;obtain⟨C,q,L,r,n,D⟩:=j it (by simp);refine wpAny_pyNext_list_item st p.isList (x:=u) (by simpa using O) λh' f sb=>?_;have Q:Inv X pins σ H {s with heap:=h'}:=I.turned (t':=s.toks) (λb o hb e=>(sb.2 b hb).trans e) C q r n D;obtain⟨o,e,c,d⟩:=id f;exact⟨u,U,oN (s:={s with heap:=h'}) e c d (by decide) ⟨x,H,Q,G,⟨U,λys N=>by rw[I.list_inj N g];exact y⟩,f,λb hb=>(j b hb).1⟩⟩
 done:=by
  intro X m l B F i pins s σ H E I j st t;subst m l B;obtain⟨xs,g,y⟩:=t;obtain⟨its,A,p,J⟩:=I.list g;obtain⟨C,q,L,r,n,D⟩:=j it (by simp);have R:=A.length;exact wpAny_pyNext_list_end (I.ok.hd F) st p.isList (by simp;lia) λh' M=>⟨U,I.turned (t':=s.toks) (λb o hb e=>M b o hb e) C q r n D⟩
 self:=λ_ _ _ _ _ st h=>wpAny_pyIter_listiter st h
theorem Y5w(a it:W9):Turn P w K tg (ao K a) [it] it (λi h=>h.IsTupleIter it a i) where
 mem:=by simp
 obj:=λi h st b hb=>by
  have e:b=it:=by simpa using hb
  subst e;obtain⟨o,e,c,d⟩:=st;exact⟨o,e,λv z=>by rw[d]at z;cases z⟩
 keep:=λi h h' st k=>st.at λo e=>k it (by simp) o e
 item:=by
  intro X m l B F i pins s σ H E I j st t;subst m l B;obtain⟨xs,x,g,y⟩:=t;obtain⟨its,A,p,J⟩:=I.tuple g;obtain⟨u,O,G⟩:=A.get y;obtain⟨C,q,L,r,n,D⟩:=j it (by simp);refine wpAny_pyNext_tuple_item st (show s.heap.IsTuple a its.toArray from p) (x:=u) (by simpa using O) λh' f sb=>?_;have Q:Inv X pins σ H {s with heap:=h'}:=I.turned (t':=s.toks) (λb o hb e=>(sb.2 b hb).trans e) C q r n D;obtain⟨o,e,c,d⟩:=id f;exact⟨u,U,oN (s:={s with heap:=h'}) e c d (by decide) ⟨x,H,Q,G,⟨U,λys N=>by rw[I.tuple_inj N g];exact y⟩,f,λb hb=>(j b hb).1⟩⟩
 done:=by
  intro X m l B F i pins s σ H E I j st t;subst m l B;obtain⟨xs,g,y⟩:=t;obtain⟨its,A,p,J⟩:=I.tuple g;obtain⟨C,q,L,r,n,D⟩:=j it (by simp);have R:=A.length;exact wpAny_pyNext_tuple_end (I.ok.hd F) st (show s.heap.IsTuple a its.toArray from p) (by simp;lia) λh' M=>⟨U,I.turned (t':=s.toks) (λb o hb e=>M b o hb e) C q r n D⟩
 self:=λ_ _ _ _ _ st h=>wpAny_pyIter_tupleiter st h
theorem Y5x(it:W9)(lo:Int)(n:Nat):Turn P w K tg (Ht lo n) [it] it (λi h=>IsRangeIter h it (lo+(i:Nat)*1) ((n:Int)-(i:Nat)) 1) where
 mem:=by simp
 obj:=λi h st b hb=>by
  have e:b=it:=by simpa using hb
  subst e
  exact⟨_,st,λv z=>by
   have x:Data.fields _=Data.cell v:=z
   cases x⟩
 keep:=λi h h' st k=>k it (by simp) _ st
 item:=by
  intro X f d q p i pins s σ H E I c st m;subst f d q;obtain⟨r,j,y,l,g,u⟩:=c it (by simp);have W:=Walks.range (prog:=X.prog) (w:=X.w) (I.ok.hd p) it lo 1 n;refine W.item i s _ _ m st λv h' tk B a kk=>?_;obtain⟨t,rfl⟩:=B;have C:Inv X pins σ H {s with heap:=h',toks:=tk}:=I.turned (λb o hb e=>kk b o (by simpa using hb) e) r j l g u;refine⟨_,U,oN (s:={s with heap:=h',toks:=tk}) (n:="range_iterator") a rfl rfl (by decide) ⟨.int (lo+i),H,C,⟨t,?_⟩,⟨U,U⟩,a,λb hb=>(c b hb).1⟩⟩;rw[Int.mul_one]
 done:=by
  intro X f d q p i pins s σ H E I c st m;subst f d q;obtain⟨r,j,y,l,g,u⟩:=c it (by simp);exact wpAny_pyNext_range_end (I.ok.hd p) st (by have:n<=i:=m;lia) λh' A=>⟨U,I.turned (t':=s.toks) (λb o hb e=>A b o hb e) r j l g u⟩
 self:=λ_ _ _ _ _ st h=>wpAny_pyIter_rangeiter st h
section
variable {X:Cx}{tg:Expr}
def Wu (K:U0)(tl:TE):TI:=λσ H R=>tl σ H λx H1=>∃a,x=.ref a/\(∃xs,Ag K H1 a xs)/\R (Nz K a) H1
def kY (K:U0)(tl:TE):TI:=λσ H R=>tl σ H λx H1=>∃a,x=.ref a/\(∃xs,Ai K H1 a xs)/\R (ao K a) H1
theorem Ei{l:Expr}{tl:TE}(hl:PE X l tl):PI X tg l (Wu X.K tl):=by
 intro pins s σ H R I h;refine Bk (hl pins s σ H _ I h) λv d ⟨x,H1,c,i,g⟩=>?_;obtain⟨a,e,⟨xs,f⟩,q⟩:=g;subst e;cases i;obtain⟨its,k,p,j⟩:=c.list f;refine Yw p.isList ?_;refine⟨d.heap.objs.size,[d.heap.objs.size],_,_,H1,U,c.kept (t':=d.toks) λb o e=>Ef _ e,Y7f a _,⟨_,Fj _ rfl,U,U⟩,λb hb=>?_,q⟩;have e:b=d.heap.objs.size:=by simpa using hb
 subst e;exact c.fpOk (Bd _) (c.hok.fresh (Bd _))
theorem yD{l:Expr}{tl:TE}(hl:PE X l tl):PI X tg l (kY X.K tl):=by
 intro pins s σ H R I h;refine Bk (hl pins s σ H _ I h) λv c ⟨x,H1,d,i,g⟩=>?_;obtain⟨a,e,⟨xs,f⟩,q⟩:=g;subst e;cases i;obtain⟨its,k,p,j⟩:=d.tuple f;refine fX (show c.heap.IsTuple a its.toArray from p) ?_;refine⟨c.heap.objs.size,[c.heap.objs.size],_,_,H1,U,d.kept (t':=c.toks) λb o e=>Ef _ e,Y5w a _,⟨_,Fj _ rfl,U,U⟩,λb hb=>?_,q⟩;have e:b=c.heap.objs.size:=by simpa using hb
 subst e;exact d.fpOk (Bd _) (d.hok.fresh (Bd _))
theorem X2b{R:It->Hp->Prop}{E:U2}{lo hi:Int}{t u v:Tok}{tk:Nat}(I:Inv X pins σ H s)(h1:-(2^62)<=lo)(h2:lo<2^62)(h3:-(2^62)<=hi)(h4:hi<2^62)
  (q:R (Ht lo (hi-lo).toNat) H):wpAny (model X.prog X.w) X.A (pyIter (.ref s.heap.objs.size)) (PIE X pins σ tg R) E {s with heap:=s.heap.push { cls:=.type "range",data:=.fields #[.int lo t,.int hi u,.int 1 v]},toks:=tk}:=by
 refine wpAny_pyIter_range (IsRange.new ..) (small_one h1 h2 h3 h4) ?_;have a:Inv X pins σ H {s with heap:=s.heap.push { cls:=.type "range",data:=.fields #[.int lo t,.int hi u,.int 1 v]},toks:=tk}:=I.kept λb o e=>Ef _ e
 refine⟨(s.heap.push { cls:=.type "range",data:=.fields #[.int lo t,.int hi u,.int 1 v]}).objs.size,[(s.heap.push { cls:=.type "range",data:=.fields #[.int lo t,.int hi u,.int 1 v]}).objs.size],_,_,H,U,
  a.kept (t':=tk) λb o e=>Ef _ e,Y5x _ lo (hi-lo).toNat,?_,λb hb=>?_,q⟩
 ·have c:lo+((0:Nat):Int)*1=lo:=by simp
  have e2:(((hi-lo).toNat:Nat):Int)-((0:Nat):Int)=Builtin.Range.rangeSize lo hi 1:=by rw[rangeSize_one];split<;>lia
  show IsRangeIter _ _ (lo+((0:Nat):Int)*1) ((((hi-lo).toNat:Nat):Int)-((0:Nat):Int)) 1;rw[c,e2];exact Fj _ rfl
 ·have e:b=(s.heap.push { cls:=.type "range",data:=.fields #[.int lo t,.int hi u,.int 1 v]}).objs.size:=by simpa using hb
  subst e;exact a.fpOk (Bd _) (a.hok.fresh (Bd _))
def Wt (ta:TA):TI:=λσ H R=>ta σ H λvs H1=>∃j:Int,vs=[.int j]/\-(2^62)<=j/\j<2^62/\R (Ht 0 j.toNat) H1
theorem HN{a:Expr}{ta:TA}{p pos:Pos}(hg:Gl X "range")(hm:X.mg "range"=none)(ha:PA X [a] ta)(hs:starEach [a] X.env=[(false,eval a X.env)]:=by rfl):PI X tg (.Call (.Name "range" p) [a] [] pos) (Wt ta):=by
 intro pins s σ H R I h;refine Call_ (Rv I hg hm boot_range (PyProof.Rows.callWith_type1 (Bk (ha pos pins s σ H _ I h) λus g ⟨vs,H1,f,c,b⟩=>?_) hs rfl));obtain⟨j,e,b,d,q⟩:=b;subst e;cases c with
 | cons r rr =>
  cases rr;obtain⟨t,rfl⟩:=r;exact call_range_1 (X2b f (by lia) (by lia) b d (by simpa using q))
def bM (wi:TI)(g:TG)(tb:TS):TS:=λD σ H=>wi σ H λJ H1=>∃W:Nat->Nat->St->Hp->Prop,(∃m,W 0 m σ H1)/\∀i m σ H,W i m σ H ->
 (J.stop i H/\D.nx σ H)\/(J.go i H/\∃N:St->Hp->Prop,(∀σ' H',N σ' H'->∃m',m'<m/\W (i+1) m' σ' H')/\∀x H',J.yld i H x H'->g x σ H' λσ2 H2=>tb {D with nx:=N,ct:=N,bk:=D.nx} σ2 H2)
noncomputable def G3 (fp:U3)(h:Heap):List (Addr×Obj):=fp.filterMap λb=>(h.get? b).map λo=>(b,o)
variable{fp:U3}
theorem Uu(hb:b∈fp)(e:h.get? b=some o):(b,o)∈G3 fp h:=List.mem_filterMap.mpr ⟨b,hb,by rw[e];rfl⟩
theorem Y9g{p:Addr×Obj}(hp:p∈G3 fp h):p.1∈fp/\h.get? p.1=some p.2:=by
 obtain⟨b,hb,e⟩:=List.mem_filterMap.mp hp;cases q:h.get? b with
 | none=>rw[q]at e;cases e
 | some o =>
  rw[q]at e;have a:(b,o)=p:=Option.some.inj e;subst a;exact⟨hb,q⟩
theorem Inv.pinned(I:Inv X pins σ H s)(hf:∀b∈fp,Dl X pins H b)(ho:∀b∈fp,∃o,s.heap.get? b=some o/\∀v,o.data≠.cell v):Inv X (pins++G3 fp s.heap) σ H s :=
 I.pins_of λp hp=>(DR.mp hp).elim (λz=>I.pin p (FQ _ z)) λz=>by
  obtain⟨hb,e⟩:=Y9g z;obtain⟨c,f,g,_⟩:=hf p.1 hb;obtain⟨o,a,d⟩:=ho p.1 hb;rw[e]at a;cases a;exact⟨e,c,f,g,d⟩
theorem Inv.unpinned{pl:U1}(I:Inv X (pins++pl) σ H s):Inv X pins σ H s:=I.pins_of λp hp=>I.pin p (FQ _ (JG _ hp))
theorem Ge{iter:Expr}{body:W8}{wi:TI}{g:TG}{tb:TS}{pos:Pos}(hp:PassesOwn (model X.prog X.w) X.A X.env X.xe)(hc:X.calm=true)(hi:PI X tg iter wi)(hg:PG X tg g)(hb:Ii X body tb)
  (hs:∀x,foldedSetIterable iter X.env x=pure x:=by intro _;rfl):PS X (.For tg iter body [] pos) (bM wi g tb):=by
 intro pins s σ H D I h;refine wpAny_For (Bk (hi pins s σ H _ I h) λv s1 h1=>Bk h1 λa0 s2 h2=>?_) hs;obtain⟨it,fp,tn,J,H2,e,I2,T,M,O,W,⟨m0,w0⟩,B⟩:=h2;subst e;have c:∀{H':Hp},(∀b∈fp,H' b=none)->∀b∈fp,Dl X pins H' b:=λhn b hb=>⟨hn b hb,(O b hb).2⟩;refine codeAny_forLoop_any (λn s'=>∃i σ' H',Inv X pins σ' H' s'/\tn i s'.heap/\(∀b∈fp,H' b=none)/\W i n σ' H') ?_ m0 ⟨0,σ,H2,I2,M,λb hb=>(O b hb).1,w0⟩;rintro n s3 ⟨i,t,E,R,z,y,w3⟩;rcases B i n t E w3 with ⟨stop,qn⟩ | ⟨go,N,hN,step⟩
 ·refine RX hp (Bk (T.done X rfl rfl rfl hc i pins s3 t E X.xe R (c y) z stop) λr s4 ⟨L,I4⟩=>?_);subst L;exact WR ⟨t,E,I4,qn⟩
 ·refine RX hp (Bk (T.item X rfl rfl rfl hc i pins s3 t E X.xe R (c y) z go) λr s4 ⟨u,L,Y⟩=>?_);subst L;refine RX hp (Bk Y λ_ Q ⟨x,P,U,S,y5,q,G⟩=>?_);have F:=U.pinned (c G) (T.obj _ _ q);refine RX hp (Bk (hg _ Q t P x u _ F S (step x P y5)) λ_ s6 ⟨σ6,H6,V,Z⟩=>?_);refine RX hp (Bk (hb _ s6 σ6 H6 _ V Z) λf K p=>?_);have k:∀{l:St}{j:Hp},Inv X (pins++G3 fp Q.heap) l j K->N l j->∃m,m<n/\∃i σ' H',Inv X pins σ' H' K/\tn i K.heap/\(∀b∈fp,H' b=none)/\W i m σ' H':=λ{l j} a C=>by
   obtain⟨m',hm,w7⟩:=hN l j C;refine⟨m',hm,i+1,l,j,a.unpinned,T.keep _ _ _ q λb hb o e=>(a.pin (b,o) (FQ _ (FQ _ (Uu hb e)))).1,λb hb=>?_,w7⟩;obtain⟨o,e,d⟩:=T.obj _ _ q b hb;exact(a.pin (b,o) (FQ _ (FQ _ (Uu hb e)))).2.1
  cases f with
  | next=>obtain⟨l,j,a,C⟩:=p;exact k a C
  | cont=>obtain⟨l,j,a,C⟩:=p;exact k a C
  | brk=>obtain⟨l,j,a,p⟩:=p;exact⟨l,j,a.unpinned,p⟩
  | ret v=>obtain⟨x7,l,j,a,r7,p⟩:=p;exact⟨x7,l,j,a.unpinned,r7,p⟩
end
theorem LC{xs:List V}{g:TG}{tb:TS}{D:Ends}(Pv:Nat->St->Hp->Prop)(h0:Pv 0 σ H)(hl:∀i σ H,i<=xs.length->Pv i σ H->Ag K H a xs)
  (hs:∀i x σ H,xs[i]?=some x->Pv i σ H->g x σ H λb H2=>tb {D with nx:=Pv (i+1),ct:=Pv (i+1),bk:=D.nx} b H2) (hd:∀σ H,Pv xs.length σ H->D.nx σ H):
  ∃W:Nat->Nat->St->Hp->Prop,(∃m,W 0 m σ H)/\∀i m σ H,W i m σ H ->
   ((Nz K a).stop i H/\D.nx σ H)\/((Nz K a).go i H/\∃N:St->Hp->Prop,(∀c H',N c H'->∃m',m'<m/\W (i+1) m' c H')/\∀x H',(Nz K a).yld i H x H'->g x σ H' λb H2=>tb {D with nx:=N,ct:=N,bk:=D.nx} b H2):=by
 refine⟨λi m σ H=>m=xs.length-i/\i<=xs.length/\Pv i σ H,⟨xs.length,by simp,Ed _,h0⟩,?_⟩;rintro i m σ H ⟨rfl,hi,p⟩;have q:=hl i σ H hi p;by_cases hlt:i<xs.length
 ·refine .inr ⟨⟨xs,xs[i],q,by simp[hlt]⟩,Pv (i+1),λc H' d=>⟨xs.length-(i+1),by lia,U,hlt,d⟩,λx H' y=>?_⟩;obtain⟨e,y⟩:=y;subst e;exact hs i x σ _ (y xs q) p
 ·have e:i=xs.length:=by lia
  subst e;exact .inl ⟨⟨xs,q,Bd _⟩,hd σ H p⟩
theorem Nq{lo:Int}{n:Nat}{g:TG}{tb:TS}{D:Ends}(Pv:Nat->St->Hp->Prop)(h0:Pv 0 σ H)
  (hs:∀i σ H,i<n->Pv i σ H->g (.int (lo+i)) σ H λa H2=>tb {D with nx:=Pv (i+1),ct:=Pv (i+1),bk:=D.nx} a H2) (hd:∀σ H,Pv n σ H->D.nx σ H):
  ∃W:Nat->Nat->St->Hp->Prop,(∃m,W 0 m σ H)/\∀i m σ H,W i m σ H ->
   ((Ht lo n).stop i H/\D.nx σ H)\/((Ht lo n).go i H/\∃N:St->Hp->Prop,(∀b H',N b H'->∃m',m'<m/\W (i+1) m' b H')/\∀x H',(Ht lo n).yld i H x H'->g x σ H' λa H2=>tb {D with nx:=N,ct:=N,bk:=D.nx} a H2):=by
 refine⟨λi m σ H=>m=n-i/\i<=n/\Pv i σ H,⟨n,by simp,Ed _,h0⟩,?_⟩;rintro i m σ H ⟨rfl,hi,p⟩;by_cases hlt:i<n
 ·refine .inr ⟨hlt,Pv (i+1),λb H' c=>⟨n-(i+1),by lia,U,hlt,c⟩,λx H' y=>?_⟩;obtain⟨e,y⟩:=y;subst e y;exact hs i σ _ hlt p
 ·have e:i=n:=by lia
  subst e;exact .inl ⟨Bd _,hd σ H p⟩
abbrev R2:=V->V->Hp->VK->Prop
def Et (X:Cx)(f:Value->Value->Sem Value)(r:R2):Prop :=
 ∀(pins:U1) (s:U7) (σ:St) (H:Hp) (x y:V) (v u:W2) (Q:VK),Inv X pins σ H s->RelV x v->RelV y u->r x y H Q ->
  wpAny (model X.prog X.w) X.A (f v u) (EP X pins σ Q) X.xe s
def aU (X:Cx)(f:Value->Sem Value)(r:V->Hp->VK->Prop):Prop :=
 ∀(pins:U1) (s:U7) (σ:St) (H:Hp) (x:V) (v:W2) (Q:VK),Inv X pins σ H s->RelV x v->r x H Q ->
  wpAny (model X.prog X.w) X.A (f v) (EP X pins σ Q) X.xe s
def CP (X:Cx)(f:W2)(r:List V->Hp->VK->Prop):Prop :=
 ∀(pins:U1) (s:U7) (σ:St) (H:Hp) (xs:List V) (us:U5) (Q:VK),Inv X pins σ H s->Vals xs us->r xs H Q ->
  wpAny (model X.prog X.w) X.A (call f us) (EP X pins σ Q) X.xe s
def pA (X:Cx)(r:V->Hp->(Bool->Hp->Prop)->Prop):Prop :=
 ∀(pins:U1) (s:U7) (σ:St) (H:Hp) (x:V) (v:W2) (Q:Bool->Hp->Prop),Inv X pins σ H s->RelV x v->r x H Q ->
  wpAny (model X.prog X.w) X.A (truthy v) (TP X pins σ Q) X.xe s
def Yb (r:R2)(ta tb:TE):TE:=λσ H Q=>ta σ H λx H1=>tb σ H1 λy H2=>r x y H2 Q
def tUn (r:V->Hp->VK->Prop)(ta:TE):TE:=λσ H Q=>ta σ H λx H1=>r x H1 Q
def rI (C:Int->Int->Prop)(g:Int->Int->V):R2:=λx y H Q=>∃i j,x=.int i/\y=.int j/\C i j/\Q (g i j) H
def Mp (g:Int->Int->V):R2:=λx y H Q=>∃i j,x=.int i/\y=.int j/\Q (g i j) H
def rU (g:Int->V):V->Hp->VK->Prop:=λx H Q=>∃i,x=.int i/\Q (g i) H
section
variable {X:Cx}{a b c:Expr}{ta tb tc:TE}{pos:Pos}
variable{f:Value->Value->Sem Value}
theorem Rp(ha:PE X a ta)(hb:PE X b tb){R:V->V->Hp->Prop}(I:Inv X pins σ H s)
  (h:ta σ H λx H1=>tb σ H1 λy H2=>R x y H2) {Q:U2}
  (hf:∀v u s2 x y H2,Inv X pins σ H2 s2->RelV x v->RelV y u->R x y H2->wpAny (model X.prog X.w) X.A (f v u) Q X.xe s2):
  wpAny (model X.prog X.w) X.A (eval a X.env) (λv d=>wpAny (model X.prog X.w) X.A (eval b X.env) (λu k=>wpAny (model X.prog X.w) X.A (f v u) Q X.xe k) X.xe d) X.xe s:=by
 refine Bk (ha pins s σ H _ I h) λv m ⟨x,H1,l,e,c⟩=>?_;refine Bk (hb pins m σ H1 _ l c) λu s2 ⟨y,H2,g,i,j⟩=>?_;exact hf v u s2 x y H2 g e i j
theorem Af{op:Operator}{r:R2}(ho:Et X (binaryOp op) r)(ha:PE X a ta)(hb:PE X b tb):PE X (.BinOp a op b pos) (Yb r ta tb):=by
 intro pins s σ H Q I h;exact wpAny_BinOp (Rp ha hb I h λv u s2 x y H2 c e d q=>ho pins s2 σ H2 x y v u Q c e d q)
theorem Pg{op:UnaryOp}{r:V->Hp->VK->Prop}(ho:aU X (unaryOp op) r)(ha:PE X a ta):PE X (.UnaryOp op a pos) (tUn r ta):=by
 intro pins s σ H Q I h;exact UnaryOp_ (Bk (ha pins s σ H _ I h) λv e ⟨x,H1,d,c,b⟩=>ho pins e σ H1 x v Q d c b)
variable{g:Int->Int->Int}
theorem Rk{C:Int->Int->Prop}
  (rule:∀(i j:Int) (t u:Tok) (s:U7) (Q:U2) (E:U2),C i j->Q (.int (g i j) s.toks) {s with toks:=s.toks+1}->wpAny (model X.prog X.w) X.A (f (.int i t) (.int j u)) Q E s):
  Et X f (rI C λi j=>.int (g i j)):=by
 intro pins s σ H x y v u Q I b a h;obtain⟨i,j,rfl,rfl,c,q⟩:=h;obtain⟨t,rfl⟩:=b;obtain⟨t',rfl⟩:=a;exact rule i j t t' s _ _ c ⟨.int (g i j),H,I.tok _,⟨_,U⟩,q⟩
theorem M8
  (rule:∀(i j:Int) (t u:Tok) (s:U7) (Q:U2) (E:U2),Q (.int (g i j) s.toks) {s with toks:=s.toks+1}->wpAny (model X.prog X.w) X.A (f (.int i t) (.int j u)) Q E s):
  Et X f (Mp λi j=>.int (g i j)):=by
 intro pins s σ H x y v u Q I b a h;obtain⟨i,j,rfl,rfl,q⟩:=h;obtain⟨t,rfl⟩:=b;obtain⟨t',rfl⟩:=a;exact rule i j t t' s _ _ ⟨.int (g i j),H,I.tok _,⟨_,U⟩,q⟩
theorem PJ{g:Int->Int->Bool}
  (rule:∀(i j:Int) (t u:Tok) (s:U7) (Q:U2) (E:U2),Q (.bool (g i j)) s->wpAny (model X.prog X.w) X.A (f (.int i t) (.int j u)) Q E s):
  Et X f (Mp λi j=>.bl (g i j)):=by
 intro pins s σ H x y v u Q I b a h;obtain⟨i,j,rfl,rfl,q⟩:=h;obtain⟨t,rfl⟩:=b;obtain⟨t',rfl⟩:=a;exact rule i j t t' s _ _ ⟨.bl (g i j),H,I,U,q⟩
def pQ (i j:Int):Prop:=0<j/\j<1073741824
def TY (i j:Int):Prop:=(-(2^64)<i/\i<2^64)\/(-(2^64)<j/\j<2^64)
theorem TY.ok{i j:Int}(h:TY i j):IntMulOk i j:=by
 rcases h with ⟨h1,h2⟩ | ⟨h1,h2⟩
 ·exact .of_left (intBits_le_64 h1 h2)
 ·exact .of_right (intBits_le_64 h1 h2)
theorem Y5v(k:Nat):(0:Int)<=2^k:=by
 rw[two_pow_cast];exact Int.natCast_nonneg _
theorem Ds:Et X (binaryOp .Add) (Mp λi j=>.int (i+j)):=M8 λ_ _ _ _ _ _ _ q=>add_int q
theorem JH:Et X (binaryOp .Sub) (Mp λi j=>.int (i-j)):=M8 λ_ _ _ _ _ _ _ q=>sub_int q
theorem G_:Et X (binaryOp .Mult) (rI TY λi j=>.int (i*j)):=Rk λ_ _ _ _ _ _ _ a q=>mul_int q a.ok
theorem Ih:Et X (binaryOp .FloorDiv) (rI pQ λi j=>.int (i / j)):=Rk λi j _ _ _ _ _ a q=>by
 have h1:(0:Int)<j:=a.1;have h2:j<1073741824:=a.2;exact floordiv_int (by lia) (by rw[gn i (by lia)];exact q) (.inl (PyProof.noPylong_small (by lia)))
theorem Cv:Et X (binaryOp .Mod) (rI (λ_ j=>0<j) λi j=>.int (i%j)):=Rk λi j _ _ _ _ _ a q=>by
 have h1:(0:Int)<j:=a;exact mod_int' (by lia) (by rw[Int.fmod_eq_emod_of_nonneg i (by lia)];exact q)
theorem NZ:Et X (binaryOp .RShift) (rI (λ_ j=>0<=j) λi j=>.int (i / 2^j.toNat)):=Rk λi j _ _ _ _ _ a q =>
 rshift_int a (by rw[gn i (Y5v _)];exact q)
theorem Dv:Et X (binaryOp .BitAnd) (Mp λi j=>.int (Builtin.bitAnd i j)):=M8 λ_ _ _ _ _ _ _ q=>and_int q
theorem Sx:Et X (binaryOp .BitOr) (Mp λi j=>.int (Builtin.bitOr i j)):=M8 λ_ _ _ _ _ _ _ q=>or_int q
theorem JK:Et X (binaryOp .BitXor) (Mp λi j=>.int (Builtin.bitXor i j)):=M8 λ_ _ _ _ _ _ _ q=>xor_int q
theorem pZ{f:Value->Sem Value}{g:Int->Int}
  (rule:∀(i:Int) (t:Tok) (s:U7) (Q:U2) (E:U2),Q (.int (g i) s.toks) {s with toks:=s.toks+1}->wpAny (model X.prog X.w) X.A (f (.int i t)) Q E s):
  aU X f (rU λi=>.int (g i)):=by
 intro pins s σ H x v Q I a h;obtain⟨i,rfl,q⟩:=h;obtain⟨t,rfl⟩:=a;exact rule i t s _ _ ⟨.int (g i),H,I.tok _,⟨_,U⟩,q⟩
theorem R4:aU X (unaryOp .USub) (rU λi=>.int (-i)):=pZ λ_ _ _ _ _ q=>neg_int q
theorem yQ:aU X (unaryOp .Invert) (rU λi=>.int (Builtin.bitNot i)):=pZ λ_ _ _ _ _ q=>invert_int q
end
noncomputable def Vp:V->V->Bool
 | .non,.non=>true | .non,.int _=>true | .int _,.non=>true | .non,.bl _=>true | .bl _,.non=>true | .non,.str _=>true | .str _,.non=>true
 | .int _,.int _=>true | .bl _,.bl _=>true | .str _,.str _=>true | .byt _,.byt _=>true
 | .int _,.str _=>true | .str _,.int _=>true | .bl _,.str _=>true | .str _,.bl _=>true
 | _,_=>false
def rEq:R2:=λx y H Q=>Vp x y=true/\Q (.bl (decide (x=y))) H
def rNe:R2:=λx y H Q=>Vp x y=true/\Q (.bl (!decide (x=y))) H
theorem zB{i j:Int}:decide (V.int i=V.int j)=(i == j):=by
 rw[Tj];simp
theorem w6{i j:Bool}:decide (V.bl i=V.bl j)=(i == j):=by
 rw[Tj];simp
theorem zE{i j:Str}:decide (V.str i=V.str j)=(i == j):=by
 rw[Tj];simp
theorem zA{i j:Array UInt8}:decide (V.byt i=V.byt j)=(i.toList == j.toList):=by
 rw[Tj];cases i;cases j;simp
section
variable {X:Cx}{a b c:Expr}{ta tb tc:TE}{pos:Pos}
theorem FW{Q:VK}{k k':Bool}(I:Inv X pins σ H s)(q:Q (.bl k) H)(e:k=k'):EP X pins σ Q (.bool k') s:=by
 subst e;exact⟨.bl k,H,I,U,q⟩
theorem Df:Et X (compareOp .Eq) rEq:=by
 intro pins s σ H x y v u Q I c a h;obtain⟨b,q⟩:=h;cases x with
 | non =>
  cases c;cases y with
  | non=>cases a;exact PySem.EqNone.eq_none_none (FW I q (by simp))
  | bl j=>cases a;exact PySem.EqNone.eq_none_bool (FW I q (by simp))
  | int j=>obtain⟨t',rfl⟩:=a;exact PySem.EqNone.eq_none_int (FW I q (by simp))
  | str j=>obtain⟨t',rfl⟩:=a;exact PySem.EqNone.eq_none_str (FW I q (by simp))
  | _=>exact absurd (show false=true from b) GJ
 | bl i =>
  cases c;cases y with
  | non=>cases a;exact PySem.EqNone.eq_bool_none (FW I q (by simp))
  | bl j=>cases a;exact eq_bool (FW I q w6)
  | str j=>obtain⟨t',rfl⟩:=a;exact PySem.EqMixed.eq_bool_str (FW I q (by simp))
  | _=>exact absurd (show false=true from b) GJ
 | int i =>
  obtain⟨t,rfl⟩:=c;cases y with
  | non=>cases a;exact PySem.EqNone.eq_int_none (FW I q (by simp))
  | int j=>obtain⟨t',rfl⟩:=a;exact eq_int (FW I q zB)
  | str j=>obtain⟨t',rfl⟩:=a;exact PySem.EqMixed.eq_int_str (FW I q (by simp))
  | _=>exact absurd (show false=true from b) GJ
 | str i =>
  obtain⟨t,rfl⟩:=c;cases y with
  | non=>cases a;exact PySem.EqNone.eq_str_none (FW I q (by simp))
  | bl j=>cases a;exact PySem.EqMixed.eq_str_bool (FW I q (by simp))
  | int j=>obtain⟨t',rfl⟩:=a;exact PySem.EqMixed.eq_str_int (FW I q (by simp))
  | str j=>obtain⟨t',rfl⟩:=a;exact eq_str (FW I q zE)
  | _=>exact absurd (show false=true from b) GJ
 | byt i =>
  obtain⟨t,rfl⟩:=c;cases y with
  | byt j=>obtain⟨t',rfl⟩:=a;exact PySem.W.eq_bytes (FW I q zA)
  | _=>exact absurd (show false=true from b) GJ
 | _=>cases y<;>exact absurd (show false=true from b) GJ
theorem Hs:Et X (compareOp .NotEq) rNe:=by
 intro pins s σ H x y v u Q I c a h;obtain⟨b,q⟩:=h;cases x with
 | non =>
  cases c;cases y with
  | non=>cases a;exact PySem.EqNone.ne_none_none (FW I q (by simp))
  | bl j=>cases a;exact PySem.EqNone.ne_none_bool (FW I q (by simp))
  | int j=>obtain⟨t',rfl⟩:=a;exact PySem.EqNone.ne_none_int (FW I q (by simp))
  | str j=>obtain⟨t',rfl⟩:=a;exact PySem.EqNone.ne_none_str (FW I q (by simp))
  | _=>exact absurd (show false=true from b) GJ
 | bl i =>
  cases c;cases y with
  | non=>cases a;exact PySem.EqNone.ne_bool_none (FW I q (by simp))
  | bl j=>cases a;exact ne_bool (FW I q (congrArg not w6))
  | str j=>obtain⟨t',rfl⟩:=a;exact PySem.EqMixed.ne_bool_str (FW I q (by simp))
  | _=>exact absurd (show false=true from b) GJ
 | int i =>
  obtain⟨t,rfl⟩:=c;cases y with
  | non=>cases a;exact PySem.EqNone.ne_int_none (FW I q (by simp))
  | int j=>obtain⟨t',rfl⟩:=a;exact ne_int (FW I q (congrArg not zB))
  | str j=>obtain⟨t',rfl⟩:=a;exact PySem.EqMixed.ne_int_str (FW I q (by simp))
  | _=>exact absurd (show false=true from b) GJ
 | str i =>
  obtain⟨t,rfl⟩:=c;cases y with
  | non=>cases a;exact PySem.EqNone.ne_str_none (FW I q (by simp))
  | bl j=>cases a;exact PySem.EqMixed.ne_str_bool (FW I q (by simp))
  | int j=>obtain⟨t',rfl⟩:=a;exact PySem.EqMixed.ne_str_int (FW I q (by simp))
  | str j=>obtain⟨t',rfl⟩:=a;exact ne_str (FW I q (congrArg not zE))
  | _=>exact absurd (show false=true from b) GJ
 | byt i =>
  obtain⟨t,rfl⟩:=c;cases y with
  | byt j=>obtain⟨t',rfl⟩:=a;exact PySem.W.ne_bytes (FW I q (congrArg not zA))
  | _=>exact absurd (show false=true from b) GJ
 | _=>cases y<;>exact absurd (show false=true from b) GJ
theorem J5:Et X (compareOp .Lt) (Mp λi j=>.bl (decide (i<j))):=PJ λ_ _ _ _ _ _ _ q=>lt_int q
theorem zj:Et X (compareOp .LtE) (Mp λi j=>.bl (decide (i<=j))):=PJ λ_ _ _ _ _ _ _ q=>le_int q
theorem Lq:Et X (compareOp .Gt) (Mp λi j=>.bl (decide (j<i))):=PJ λ_ _ _ _ _ _ _ q=>gt_int q
theorem aR:Et X (compareOp .GtE) (Mp λi j=>.bl (decide (j<=i))):=PJ λ_ _ _ _ _ _ _ q=>ge_int q
theorem Z2:Et X (compareOp .Is) (λx y H Q=>y=.non/\Q (.bl (decide (x=.non))) H):=by
 intro pins s σ H x y v u Q I a b h;obtain⟨rfl,q⟩:=h;cases b;refine is_none_gen (FW I q ?_);cases x<;>first
  | (cases a;rfl)
  | (obtain⟨t,rfl⟩:=a;rfl)
theorem X7f:Et X (compareOp .IsNot) (λx y H Q=>y=.non/\Q (.bl (!decide (x=.non))) H):=by
 intro pins s σ H x y v u Q I a b h;obtain⟨rfl,q⟩:=h;cases b;refine isnot_none_gen (FW I q ?_);cases x<;>first
  | (cases a;rfl)
  | (obtain⟨t,rfl⟩:=a;rfl)
variable{op:CmpOp}
theorem Ac(b:Expr)(h:op≠.In:=by decide)(h2:op≠.NotIn:=by decide):behindInMarks op b=false:=by
 have a:(op == CmpOp.In)=false:=by cases op<;>first | rfl | exact absurd rfl h
 have e2:(op == CmpOp.NotIn)=false:=by cases op<;>first | rfl | exact absurd rfl h2
 cases b<;>simp[behindInMarks,a,e2]
theorem HD{r:R2}(ho:Et X (compareOp op) r)(ha:PE X a ta)(hb:PE X b tb)(hm:behindInMarks op b=false):PE X (.Compare a [op] [b] pos) (Yb r ta tb):=by
 intro pins s σ H Q I h;exact wpAny_Compare1 (Rp ha hb I h λv u s2 x y H2 c e d q=>ho pins s2 σ H2 x y v u Q c e d q) hm
def Vd (t:TE):TT:=λσ H Q=>t σ H λx H'=>∃k,x=.bl k/\Q k H'
theorem Bf{r:R2}(ho:Et X (compareOp op) r)(ha:PE X a ta)(hb:PE X b tb)(hm:behindInMarks op b=false):PT X (.Compare a [op] [b] pos) (Vd (Yb r ta tb)):=by
 intro pins s σ H Q I h
 refine qJ (Bk (ha pins s σ H _ I h) λv q ⟨x,H1,p,m,j⟩=>Bk (hb pins q σ H1 _ p j) λu s2 ⟨y,H2,o,i,n⟩ =>
  Bk (ho pins s2 σ H2 x y v u _ o m i n) λc s3 ⟨z,g,l,d,k,e,f⟩=>?_) hm
 subst e;cases d;exact O7 ⟨g,l,f⟩
def o_ (K:U0)(x:V)(H:Hp)(k:Bool):Prop :=
 match x with
 | .non=>k=false
 | .bl b=>k=b
 | .int i=>k=(i != 0)
 | .str y=>y.length<=sizeLine/\k=((y.length:Int) != 0)
 | .byt y=>y.size<=sizeLine/\k=((y.size:Int) != 0)
 | .ref p=>(∃xs,Ag K H p xs/\k=!xs.isEmpty)\/(∃xs,Ai K H p xs/\k=!xs.isEmpty)\/∃kvs,H p=some (.dK kvs)/\k=!kvs.isEmpty
 | _=>False
theorem Y6t{κ:Type}{kvs:List (κ×V)}{vs:List (κ×Value)}(r:KV kvs vs):(!vs.isEmpty)=!kvs.isEmpty:=by
 cases r<;>rfl
theorem rE{xs:List V}{its:U5}(r:Vals xs its):(!its.toArray.isEmpty)=!xs.isEmpty:=by
 cases r<;>simp
theorem G4:(sizeLine:Nat)<2^63:=by rw[sizeLine_eq];decide
theorem W1d:pA X (λx H Q=>∃k,o_ X.K x H k/\Q k H):=by
 intro pins s σ H x v Q I d h;obtain⟨k,e,q⟩:=h;have o:=G4;have n:sizeLine=16777216:=sizeLine_eq;cases x with
 | non =>
  cases d;have a:k=false:=e;subst a;exact truthy_none ⟨H,I,q⟩
 | bl b =>
  cases d;have a:k=b:=e;subst a;exact O7 ⟨H,I,q⟩
 | int i =>
  obtain⟨t,rfl⟩:=d;have a:k=(i != 0):=e;subst a;exact PySem.P.truthy_int ⟨H,I,q⟩
 | str y =>
  obtain⟨t,rfl⟩:=d;obtain⟨j,a⟩:y.length<=sizeLine/\k=((y.length:Int) != 0):=e;subst a;exact PySem.P.truthy_str (by lia) ⟨H,I.tok _,q⟩
 | byt y =>
  obtain⟨t,rfl⟩:=d;obtain⟨j,a⟩:y.size<=sizeLine/\k=((y.size:Int) != 0):=e;subst a;exact PySem.W.truthy_bytes (by lia) ⟨H,I.tok _,q⟩
 | ref p =>
  cases d;have a:(∃xs,Ag X.K H p xs/\k=!xs.isEmpty)\/(∃xs,Ai X.K H p xs/\k=!xs.isEmpty)\/∃kvs,H p=some (.dK kvs)/\k=!kvs.isEmpty:=e;rcases a with ⟨xs,hx,a⟩ | ⟨xs,hx,a⟩ | ⟨kvs,hx,a⟩
  ·subst a;obtain⟨its,r,f,g⟩:=I.list hx;have c:=r.length;exact wpAny_truthy_list f.isList (by simp only[Ep];lia) ⟨H,I.tok _,by rw[rE r];exact q⟩
  ·subst a;obtain⟨its,r,f,g⟩:=I.tuple hx;have c:=r.length;exact truthy_tuple f (by simp only[Ep];lia) ⟨H,I.tok _,by rw[rE r];exact q⟩
  ·subst a;obtain⟨g,l,vs,r,m⟩:kvs.length<=sizeLine/\(p == sysModules)=false/\∃vs,KV kvs vs/\s.heap.DictOf (JX X.prog X.w) p vs:=I.hok p _ hx;have c:kvs.length=vs.length:=Paired.length r;exact wpAny_truthy_dict l m (by lia) ⟨H,I.tok _,by rw[Y6t r];exact q⟩
 | _=>exact(show False from e).elim
theorem vals1(r:Vals [x] us):∃u,us=[u]/\RelV x u:=by
 cases r with
 | cons r1 r2=>cases r2;exact⟨_,rfl,r1⟩
theorem vals2{y:V}(r:Vals [x,y] us):∃u w',us=[u,w']/\RelV x u/\RelV y w':=by
 cases r with
 | cons r1 r2 =>
  cases r2 with
  | cons r3 r4=>cases r4;exact⟨_,_,rfl,r1,r3⟩
theorem X1f(hc:X.calm=true):CP X (.builtin "max") (λxs H Q=>∃i j,xs=[.int i,.int j]/\Q (.int (if j>i then j else i)) H):=by
 intro pins s σ H xs us Q I r h;obtain⟨i,j,rfl,q⟩:=h;obtain⟨u,a,rfl,⟨t,rfl⟩,⟨t',rfl⟩⟩:=vals2 r;refine max_two_ints (I.ok.hd hc) λh' tk k=>⟨_,H,I.kept k,?_,q⟩;by_cases hj:j>i
 ·rw[if_pos hj,if_pos hj];exact⟨_,U⟩
 ·rw[if_neg hj,if_neg hj];exact⟨_,U⟩
theorem X1c(hc:X.calm=true):CP X (.builtin "min") (λxs H Q=>∃i j,xs=[.int i,.int j]/\Q (.int (if j<i then j else i)) H):=by
 intro pins s σ H xs us Q I r h;obtain⟨i,j,rfl,q⟩:=h;obtain⟨u,a,rfl,⟨t,rfl⟩,⟨t',rfl⟩⟩:=vals2 r;refine min_two_ints (I.ok.hd hc) λh' tk k=>⟨_,H,I.kept k,?_,q⟩;by_cases hj:j<i
 ·rw[if_pos hj,if_pos hj];exact⟨_,U⟩
 ·rw[if_neg hj,if_neg hj];exact⟨_,U⟩
end
structure TJ (h:Heap) (x dx C:W9) (mA:U4):Prop where
 obj:h.get? x=some (PySem.W.instObj C dx)
 ns:h.Ns1 dx mA
 ne:dx≠x
theorem Y9q{dx:W9}{mA:U4}(n:h.Ns1 dx mA):∃od,h.get? dx=some od/\∀name,PySem.W.lookIn name od=some (mA name):=by
 obtain⟨o,es,ep,d,hd,c,_,hm⟩:=n;refine⟨o,d,λname=>?_⟩;have e:=hm name;unfold nsFind findBy at e;rw[<-Array.find?_toList]at e;unfold PySem.W.lookIn;rw[hd];dsimp only;split
 ·rename_i y q;rw[q]at e;exact congrArg some e
 ·rename_i q;rw[q]at e;have a:es.toList.any (·.refKey)=false:=by
   rw[List.any_eq_false];intro y f;obtain⟨z,t,b⟩:=c y (Array.mem_toList_iff.mp f);simp[DictEntry.refKey,b]
  have a':¬ es.toList.any (·.refKey)=true:=by rw[a];exact GJ
  rw[if_neg a'];exact congrArg some e
theorem TJ.look{x dx C:W9}{mA:U4}(I:TJ h x dx C mA):∃od,PySem.W.InstAt h x (PySem.W.instObj C dx) C (some od)/\∀name,PySem.W.lookIn name od=some (mA name):=
 let ⟨od,ho,hl⟩:=Y9q I.ns
 ⟨od,⟨I.obj,U,U,ho⟩,hl⟩
section
variable {prog:U8}{w:W1}{A:W6}{E:U2}{s:U7}{K:U0}{x dx C f:W9}{mA:U4}{name:Str}{v:W2}
end
theorem HW.some_of{v:V}{o:Option Value}(r:HW (some v) o):∃u,o=some u/\RelV v u:=by
 cases o with
 | none=>exact(show False from r).elim
 | some u=>exact⟨u,rfl,r⟩
section
variable {P:U8}{w:W1}{H H':Hp}{h h':Heap}{a C dx:W9}{fs fs':List (Str×V)}
theorem X9e(hok:Ez P w H h)(e:H a=some (.ins C dx fs)):∃mA,TJ h a dx C mA/\(∀f,HW (fs.lookup f) (mA f))/\PySem.Within mA (fs.map (·.1))/\fs.length<=1000/\H dx=some (.own a):=by
 obtain⟨d,z,b,ob,mA,n,r,q⟩:=(show BR P w H h a (.ins C dx fs) from hok a _ e);exact⟨mA,⟨ob,n,b⟩,r,q,z,d⟩
end
structure Cls (K:U0) (C:W9):Prop where
 pg:PySem.W.plainGet K C Str.empty=true
 hd:PySem.W.hasDictIn K C=true
 po:PySem.W.plainOver K C=true
 sa:PySem.W.findIn K (.ref C) "__setattr__"=some (some (.builtin "object.__setattr__"))
theorem Cls.get{K:U0}{C:W9}(c:Cls K C)(f:Str):PySem.W.plainGet K C f=true:=c.pg
section
variable {X:Cx}{pins:U1}{σ:St}{H:Hp}{s:U7}{a C dx:W9}{fs:List (Str×V)}{f:Str}{v:V}{A:W6}{E:U2}
end
section
variable {X:Cx}{o e value:Expr}{f:Str}{pos pos' tpos:Pos}{ta tv:TE}
end
section
variable {X:Cx}{pins:U1}{σ:St}{H:Hp}{s:U7}{A:W6}{E:U2}{Q:U2}{c:W2}{b:Bool}
inductive Bj (K:U0) (H:Hp):V->Value->Prop where
 | non:Bj K H .non (.type "NoneType")
 | bl (x:Bool):Bj K H (.bl x) (.type "bool")
 | int (i:Int):Bj K H (.int i) (.type "int")
 | str (x:Str):Bj K H (.str x) (.type "str")
 | flt (x:UInt64):Bj K H (.flt x) (.type "float")
 | lst {a:W9}{xs:List V} (e:H a=some (.lst xs)):Bj K H (.ref a) (.type "list")
 | frz {a:W9}{o:Obj}{xs:List V} (e:H a=some (.frz o (.lst xs))):Bj K H (.ref a) (.type "list")
 | tup {a:W9}{xs:List V} (e:H a=some (.tup xs)):Bj K H (.ref a) (.type "tuple")
 | dK {a:W9}{kvs:List (Key×V)} (e:H a=some (.dK kvs)):Bj K H (.ref a) (.type "dict")
 | dT {a:W9}{kvs:List (List Key×V)} (e:H a=some (.dT kvs)):Bj K H (.ref a) (.type "dict")
 | ins {a C dx:W9}{fs:List (Str×V)} (e:H a=some (.ins C dx fs)) (cl:Cls K C) (ha:PySem.W.findIn K (.ref C) "__class__"=some (some (.builtin "object.__class__")))
   (hn:PySem.W.specialIn K (.builtin "object.__class__") "__get__"=some (some (.builtin "getset_descriptor.__get__"))) (htk:PySem.W.takesIn K (.builtin "object.__class__")=some true)
   (hm:PySem.W.mroIn K C (.type "object")=some true):Bj K H (.ref a) (.ref C)
theorem X0f{t:W2}(I:Inv X pins σ H s)(rx:RelV x u)(ty:Bj X.K H x t)(e:PySem.W.kitOne X.K t c=some b)(h:∀tk,Q (.bool b) {s with toks:=tk}):
  wpAny (model X.prog X.w) A (call (.builtin "isinstance") [u,c]) Q E s:=by
 cases ty with
 | non=>cases (show u=Value.none from rx);exact Kz PySem.W.kitx_none I.kIn True.intro e (λz=>nomatch z) h
 | bl y=>cases (show u=Value.bool y from rx);exact Kz PySem.W.kitx_bool I.kIn True.intro e (λz=>nomatch z) h
 | int i=>obtain⟨t,q⟩:=(show ∃t,u=Value.int i t from rx);cases q;exact Kz PySem.W.kitx_int I.kIn True.intro e (λz=>nomatch z) h
 | str y=>obtain⟨t,q⟩:=(show ∃t,u=Value.str y t from rx);cases q;exact Kz PySem.W.kitx_str I.kIn True.intro e (λz=>nomatch z) h
 | flt y=>obtain⟨t,q⟩:=(show ∃t,u=Value.float y t from rx);cases q;exact Kz PySem.W.kitx_float I.kIn True.intro e (λz=>nomatch z) h
 | @lst a xs ea =>
  cases (show u=Value.ref a from rx);obtain⟨_,_,n,_,h1⟩:=(show BR X.prog X.w H s.heap a (.lst xs) from I.hok a _ ea);exact Kz PySem.W.kitx_list I.kIn ⟨_,h1,U⟩ e (λz=>nomatch z) h
 | @frz a ob xs ea =>
  cases (show u=Value.ref a from rx);obtain⟨_,_,_,n,_,h1⟩:=(show BR X.prog X.w H s.heap a (.frz ob (.lst xs)) from I.hok a _ ea);exact Kz PySem.W.kitx_list I.kIn ⟨_,h1,U⟩ e (λz=>nomatch z) h
 | @tup a xs ea =>
  cases (show u=Value.ref a from rx);obtain⟨_,_,_,p⟩:=(show BR X.prog X.w H s.heap a (.tup xs) from I.hok a _ ea);obtain⟨o,h1,h2,_⟩:=p;exact Kz PySem.W.kitx_tuple I.kIn ⟨o,h1,h2⟩ e (λz=>nomatch z) h
 | @dK a kvs ea =>
  cases (show u=Value.ref a from rx);obtain⟨_,_,vs,_,p⟩:=(show BR X.prog X.w H s.heap a (.dK kvs) from I.hok a _ ea);obtain⟨o,es,ep,h1,h2,_⟩:=p;exact Kz PySem.W.kitx_dict I.kIn ⟨o,h1,h2.1⟩ e (λz=>nomatch z) h
 | @dT a kvs ea =>
  cases (show u=Value.ref a from rx);obtain⟨_,_,xs,_,o,es,ep,h1,h2,_⟩:=(show BR X.prog X.w H s.heap a (.dT kvs) from I.hok a _ ea);exact Kz PySem.W.kitx_dict I.kIn ⟨o,h1,h2.1⟩ e (λz=>nomatch z) h
 | @ins a C dx fs ea cl ha hn htk hm =>
  cases (show u=Value.ref a from rx);obtain⟨mA,O,_⟩:=X9e I.hok ea;obtain⟨od,J,_⟩:=O.look;exact Kz (PySem.W.kitx_own (cl.get _) cl.hd ha hn htk hm) I.kIn J e (λz=>nomatch z) h
end
structure Cg (k:Nat) (A:W6):Prop where
 hd:A.handled=none
 dp:A.depth+3*k+5<recursionLimit
 un:A.units+16*k+200<cLine
theorem Cg.mono{j k:Nat}(r:Cg k A)(h:j<=k):Cg j A:=⟨r.hd,by have:=r.dp;lia,by have:=r.un;lia⟩
theorem Cg.deeper{k:Nat}(r:Cg (k+1) A)(env:Env):Cg k (A.deeper env):=
 ⟨r.hd,by have:=r.dp;show A.depth+1+3*k+5<_;lia,by have:=r.un;show A.units+3+16*k+200<_;lia⟩
theorem Cg.in1{k:Nat}(r:Cg (k+1) A):Cg k A.in1 :=
 ⟨r.hd,by have:=r.dp;show A.depth+3*k+5<_;lia,by have:=r.un;show A.units+1+16*k+200<_;lia⟩
theorem Cg.depth{k:Nat}(r:Cg k A):A.depth<recursionLimit:=by have:=r.dp;lia
theorem Cg.units{k:Nat}(r:Cg k A):A.units+64<cLine:=by have:=r.un;lia
def Vh:TA:=λ_ H Q=>Q [] H
def QK (ta:TE)(tr:TA):TA:=λσ H Q=>ta σ H λx H1=>tr σ H1 λxs H2=>Q (x::xs) H2
section
variable {X:Cx}{e:Expr}{es:List Expr}{te:TE}{t:TA}{pos:Pos}
theorem Ae:PA X [] Vh:=λ_ _ _ _ H Q I h=>Calls.spliced_nil ⟨[],H,I,.nil,h⟩
theorem Aa(ha:PE X e te)(hr:PA X es t)(hs:starEach (e::es) X.env=(false,eval e X.env)::starEach es X.env:=by rfl):PA X (e::es) (QK te t):=by
 intro pos pins s σ H Q I h;rw[hs];show wpAny _ _ (spliced ((false,eval e X.env)::backTo pos (starEach es X.env))) _ _ s;refine Calls.spliced_cons (Bk (ha pins s σ H _ I h) λu i ⟨x,H1,g,c,b⟩=>?_);exact Bk (hr pos pins i σ H1 _ g b) λus s2 ⟨xs,H2,f,a,d⟩=>⟨x::xs,H2,f,.cons c a,d⟩
def bF (t:TA):TE:=λσ H Q=>t σ H λxs H1=>xs.length<=sizeLine/\∀p,H1 p=none->Q (.ref p) (upd H1 p (.tup xs))
def bK (t:TA):TE:=λσ H Q=>t σ H λxs H1=>xs.length<=sizeLine/\∀p,H1 p=none->Q (.ref p) (upd H1 p (.lst xs))
theorem Cw{x1}(h:PA X es t):PE X (.Tuple es x1 pos) (bF t):=by
 intro pins s σ H Q I d;refine wpAny_Tuple_spliced (Bk (h pos pins s σ H _ I d) λus a ⟨xs,H1,c,r,z,q⟩=>⟨by rw[<-r.length];exact z,?_⟩);have f:H1 a.heap.objs.size=none:=c.hok.fresh (Bd _);refine⟨.ref a.heap.objs.size,upd H1 a.heap.objs.size (.tup xs),c.laid (t':=a.toks) (λb u e=>Ef _ e) (Bd _) ?_,U,q _ f⟩;exact⟨z,us,r,⟨_,Fj _ rfl,U,_,U⟩⟩
theorem Kh(h:PA X es t):PE X (.List es pos) (bK t):=by
 intro pins s σ H Q I d;refine wpAny_List_spliced (Bk (h pos pins s σ H _ I d) λus a ⟨xs,H1,c,r,z,q⟩=>⟨by rw[<-r.length];exact z,?_⟩);have f:H1 a.heap.objs.size=none:=c.hok.fresh (Bd _);refine⟨.ref a.heap.objs.size,upd H1 a.heap.objs.size (.lst xs),c.laid (t':=a.toks) (λb u e=>Ef _ e) (Bd _) ?_,U,q _ f⟩;exact⟨z,us,0,r,Fj _ rfl⟩
end
abbrev Sp:=List V->Hp->VK->XK->Prop
abbrev N7:=List Env->Hp->Shared->XK->Value->Shared->Prop
structure QJ (P:U8) (w:W1) (K:U0) (mg:U4) (base:Heap) (A:W6) (outer:List Env) (s:U7) (H:Hp):Prop where
 frames:A.frames=some outer
 mod:Mod K mg base
 bs:∀b o,base.get? b=some o->s.heap.get? b=some o/\H b=none
 bsz:base.objs.size<=s.heap.objs.size
 funs:s.heap.FunFrames base outer
 frf:∀b∈frs outer,H b=none
 hok:Ez P w H s.heap
 bare:AllBare s.gens
def CE (outer:List Env)(P:U8)(w:W1)(H:Hp)(s:U7)(Q:VK)(u:W2)(s':U7):Prop :=
 ∃v H',s'.os=s.os/\AllBare s'.gens/\Un (frs outer) [] H H' s.heap s'.heap/\Ez P w H' s'.heap/\RelV v u/\Q v H'
def CR (CX:N7)(outer:List Env)(P:U8)(w:W1)(H:Hp)(s:U7)(Q:VK)(E:XK)(r:Result)(s':U7):Prop :=
 match r with
 | .ok (.ret u)=>CE outer P w H s Q u s'
 | .ok _=>False
 | .error e=>CX outer H s E e s'
structure Ec (P:U8) (w:W1) (K:U0) (mg:U4) (base:Heap) (CX:N7) (k:Nat) (f:W9) (fd:FuncData) (ps:W0) (sp:Sp):Prop where
 len:∀vs H Q E,sp vs H Q E->vs.length=ps.length
 run:∀(A:W6) (outer:List Env) (s:U7) (H:Hp) (args:Args) (us:U5) (vs:List V) (Q:VK) (E:XK),Cg k A->QJ P w K mg base A outer s H->BindsTo s fd args (ps.zip us)->Vals vs us->sp vs H Q E ->
  codeAny (model P w) A (.call (.ref f) args) (CR CX outer P w H s Q E) s
variable{mg:U4}{base:Heap}{CX:N7}{f:W9}{fd:FuncData}{ps:W0}{sp:Sp}
theorem Ec.mono{j k:Nat}(F:Ec P w K mg base CX j f fd ps sp)(h:j<=k):
  Ec P w K mg base CX k f fd ps sp:=⟨F.len,λA outer s H args us vs Q E a=>F.run A outer s H args us vs Q E (a.mono h)⟩
theorem Ec.imp{k:Nat}{sp':Sp}(F:Ec P w K mg base CX k f fd ps sp)
  (h:∀vs H Q E,sp' vs H Q E->sp vs H Q E):Ec P w K mg base CX k f fd ps sp' :=
 ⟨λvs H Q E q=>F.len vs H Q E (h _ _ _ _ q),λA outer s H args us vs Q E a c hb b d=>F.run A outer s H args us vs Q E a c hb b (h _ _ _ _ d)⟩
section
variable {X:Cx}{pins:U1}{σ:St}{H:Hp}{s s':U7}
theorem Inv.env0(I:Inv X pins σ H s):QJ X.prog X.w X.K X.mg X.base X.A X.stack s H :=
 ⟨I.ok.frames,I.ok.mod,I.bs,E_ I.ok.bsz I.sz,I.stack,I.stkFree,I.hok,I.bare⟩
theorem Inv.after{Q:VK}(I:Inv X pins σ H s)(h:CE X.stack X.prog X.w H s Q u s'):EP X pins σ Q u s':=by
 obtain⟨v,H',os,a,un,c,r,q⟩:=h;obtain⟨f,g,d,t,e⟩:=s';obtain rfl:e=s.os:=os;exact⟨v,H',I.call (h':=f) (g':=g) (d':=d) (t':=t) (ch:=[]) un c a (λb z=>absurd z (by simp)),r,q⟩
end
def MF (sp:Sp)(dvs:List V)(E:XK)(t:TA):TE:=λσ H Q=>t σ H λvs H1=>sp (vs++dvs) H1 Q E
def Binds (K:U0)(fd:FuncData)(ps:W0)(ds:U5):Prop :=
 ∀(s:U7) (us:U5),K.In s.heap->(us++ds).length=ps.length->BindsTo s fd ⟨us,[]⟩ (ps.zip (us++ds))
theorem Binds.all(h:∀us:List Value,us.length=ps.length->bindArgs fd ⟨us,[]⟩=pure (ps.zip us)):Binds K fd ps []:=λs us _ a=>by
 rw[Oz]at a ⊢;exact .of_eq (h us a)
def Passes (CX:N7)(X:Cx)(E:XK):Prop:=∀(pins:U1) (σ:St) (H:Hp) (s:U7) (e:W2) (s':U7),Inv X pins σ H s->CX X.stack H s E e s'->X.xe e s'
section
variable {X:Cx}{CX:N7}{k:Nat}{f C:W9}{fd:FuncData}{ps:W0}{sp:Sp}{dvs:List V}{ds:U5}{E:XK}{x m:Str}{p pos apos:Pos}{e o:Expr}{es:List Expr}{ta:TE}{t:TA}
theorem yL{Q:VK}{vs:List V}(F:Ec X.prog X.w X.K X.mg X.base CX k f fd ps sp)(hr:Cg k X.A)(hb:Binds X.K fd ps ds)(hd:Vals dvs ds)(hx:Passes CX X E)
  (I:Inv X pins σ H s) (r:Vals vs us) (h:sp (vs++dvs) H Q E):wpAny (model X.prog X.w) X.A (call (.ref f) us) (EP X pins σ Q) X.xe s:=by
 have b:Vals (vs++dvs) (us++ds):=r.append hd;have c:(us++ds).length=ps.length:=by rw[<-b.length];exact F.len _ _ _ _ h
 refine Yd (V5 (F.run X.A X.stack s H ⟨us,[]⟩ (us++ds) (vs++dvs) Q E hr I.env0 (hb s us I.kIn c) b h) λr s' a=>?_);cases r with
 | error e=>exact hx pins σ H s e s' I a
 | ok fl =>
  cases fl with
  | ret u=>exact I.after a
  | next=>exact False.elim a
  | brk=>exact False.elim a
  | cont=>exact False.elim a
theorem tQ(F:Ec X.prog X.w X.K X.mg X.base CX k f fd ps sp)(hr:Cg k X.A)(hg:Gl X x)(hm:X.mg x=some (.ref f))(hk:PySem.W.keepIn X.K (.ref f)=true)(hb:Binds X.K fd ps ds)(hd:Vals dvs ds)(hx:Passes CX X E)
  (ha:PA X (e::es) t) (hdb:(x == ("__debug__":Str))=false:=by decide) (he:starEach (e::es) X.env=(false,eval e X.env)::starEach es X.env:=by rfl) (hpl:(backTo pos (starEach es X.env)).any (·.1)=false:=by rfl):
  PE X (.Call (.Name x p) (e::es) [] pos) (MF sp dvs E t):=by
 intro pins s σ H Q I h;refine Wb (Uk I hg hm ?_ hdb);refine PySem.W.callWith_K (h₀:=X.base) I.ok.mod.kin hk (Bk (ha pos pins s σ H _ I h) λus b ⟨vs,H1,a,r,q⟩=>⟨a.kIn,?_⟩) he hpl;exact yL F hr hb hd hx a r q
end
def PK (X:Cx)(kws:List Keyword)(t:TA):Prop :=
 ∀(pos:Pos) (pins:U1) (s:U7) (σ:St) (H:Hp) (Q:List V->Hp->Prop),Inv X pins σ H s->t σ H Q->wpAny (model X.prog X.w) X.A (evalAll ((backToKw pos (keywordEach kws X.env)).map (·.2))) (AP X pins σ Q) X.xe s
section
variable {X:Cx}{CX:N7}{k:Nat}{f C:W9}{fd:FuncData}{ps ks:W0}{sp:Sp}{E:XK}{x m:Str}{p pos apos kpos:Pos}{e o:Expr}{es:List Expr}{kws:List Keyword}{te ta:TE}{t tk:TA}{nm:Option Str}
theorem W1r:PK X [] Vh:=λ_ _ _ _ H Q I h=>wpAny_evalAll_nil ⟨[],H,I,.nil,h⟩
theorem X7b(ha:PE X e te)(hr:PK X kws t):PK X (⟨nm,e,kpos⟩::kws) (QK te t):=by
 intro pos pins s σ H Q I h;show wpAny _ _ (evalAll ((do let v ← eval e X.env;standAt pos;pure v)::(backToKw pos (keywordEach kws X.env)).map (·.2))) _ _ s;refine wpAny_evalAll_cons (Aw (Bk (ha pins s σ H _ I h) λu i ⟨x,H1,g,c,b⟩=>Aw (RM (Bl ?_))));exact Bk (hr pos pins i σ H1 _ g b) λus s2 ⟨xs,H2,f,a,d⟩=>⟨x::xs,H2,f,.cons c a,d⟩
variable {g:List Value->List Value->List Value}{gV:List V->List V->List V}
end
structure CW (N P:W0) (sc:Scope):Prop where
 kind:sc.kind=.function
 co:sc.isCoroutine=false
 gen:sc.isGenerator=false
 nd:N.Nodup
 pre:N.take P.length=P
 par:∀x∈P,sc.names.lookup x=some .local\/sc.names.lookup x=some .cell
 nofree:∀y∈sc.names,y.2≠.free
theorem wF{kindOf:Str->Option NameKind}{x:Str}:∀{binds:List (Str×Value)}{m:U4},(∀v,(x,v)∉binds)->bindL kindOf binds m x=m x
 | [],_,_=>rfl
 | (n,v)::r,m,h=>by
  unfold bindL;rw[wF λw a=>h w (KZ _ a)];split
  ·have:x≠n:=by rintro rfl;exact h v Mz
   simp[this]
  ·rfl
theorem wC{kindOf:Str->Option NameKind}{x:Str}:∀{binds:List (Str×Value)}{m:U4},(∀v,(x,v)∉binds)->bindC kindOf binds m x=m x
 | [],_,_=>rfl
 | (n,v)::r,m,h=>by
  unfold bindC;rw[wC λw a=>h w (KZ _ a)];split
  ·rfl
  ·have:x≠n:=by rintro rfl;exact h v Mz
   simp[this]
theorem wD{kindOf:Str->Option NameKind}{x:Str}{v:W2}:∀{P:W0}{vs:U5}{i:Nat}{m:U4},P.Nodup->P[i]?=some x->vs[i]?=some v->kindOf x=some .local ->
  bindL kindOf (P.zip vs) m x=some v
 | [],_,_,_,_,h,_,_=>by simp at h
 | _::_,[],_,_,_,_,h,_=>by simp at h
 | p::P,w::vs,0,m,nd,h1,h2,hk=>by
  simp at h1 h2;subst h1;subst h2;show bindL kindOf ((p,w)::P.zip vs) m p=_;unfold bindL;rw[wF λv a=>(Qa.mp nd).1 (Yq a).1,if_pos hk];simp
 | p::P,w::vs,i+1,m,nd,h1,h2,hk=>by
  show bindL kindOf ((p,w)::P.zip vs) m x=_;unfold bindL;exact wD (i:=i) (Qa.mp nd).2 (by simpa using h1) (by simpa using h2) hk
theorem wB{kindOf:Str->Option NameKind}{x:Str}{v:W2}:∀{P:W0}{vs:U5}{i:Nat}{m:U4},P.Nodup->P[i]?=some x->vs[i]?=some v->kindOf x≠some .local ->
  bindC kindOf (P.zip vs) m x=some v
 | [],_,_,_,_,h,_,_=>by simp at h
 | _::_,[],_,_,_,_,h,_=>by simp at h
 | p::P,w::vs,0,m,nd,h1,h2,hk=>by
  simp at h1 h2;subst h1;subst h2;show bindC kindOf ((p,w)::P.zip vs) m p=_;unfold bindC;rw[wC λv a=>(Qa.mp nd).1 (Yq a).1,if_neg hk];simp
 | p::P,w::vs,i+1,m,nd,h1,h2,hk=>by
  show bindC kindOf ((p,w)::P.zip vs) m x=_;unfold bindC;exact wB (i:=i) (Qa.mp nd).2 (by simpa using h1) (by simpa using h2) hk
noncomputable def start (N:W0)(vs:List V):St:=vs.map some++List.replicate (N.length-vs.length) none
noncomputable def Hr (CX:N7)(P:U8)(w:W1)(K:U0)(mg:U4)(base:Heap)(N:W0)(qual:Str)(scope:Scope)(f:W9)(cd:W2)(A:W6)(outer:List Env)(s:U7)(H:Hp)(E:XK):Cx where
 prog:=P
 w:=w
 K:=K
 mg:=mg
 base:=base
 A:=A.deeper (envOfC qual scope s.heap.objs.size f cd)
 N:=N
 s₀:=s
 H₀:=H
 env:=envOfC qual scope s.heap.objs.size f cd
 outer:=outer
 stack:=envOfC qual scope s.heap.objs.size f cd::outer
 ex:=[]
 calm:=true
 fn:=λ_=>true
 pn:=[]
 xe:=λe s'=>wpAny (model P w) (A.deeper (envOfC qual scope s.heap.objs.size f cd)) (leaving (envOfC qual scope s.heap.objs.size f cd) e) (λ_ s''=>CX outer H s E e s'') (λe' s''=>CX outer H s E e' s'') s'
theorem uZ{sc:Scope}{n:Nat}{x:Str}(h:sc.names.lookup x=some .cell):∃c,(cellsFrom n sc.names []).lookup x=some c:=by
 have q:=qN sc.names n [] (.inl h);exact gb.mp q
variable{qual:Str}{scope:Scope}
theorem X0g{N:W0}{cd:W2}{outer:List Env}{s1:U7}{E:XK}{vs:List V}
  (S:CW N ps scope) (hd:A.handled=none) (e0:QJ P w K mg base A outer s H) (hl:vs.length=ps.length) (r:Vals vs us)
  (x:InCallC s s.heap.objs.size (bindL (envOfC qual scope s.heap.objs.size f cd).kindOf (ps.zip us) λ_=>none) (cellsFrom (s.heap.objs.size+1) scope.names []) (bindC (envOfC qual scope s.heap.objs.size f cd).kindOf (ps.zip us) λ_=>none) s1):
  Inv (Hr CX P w K mg base N qual scope f cd A outer s H E) [] (start N vs) H s1:=by
 have o:ps.length<=N.length:=by have:=congrArg List.length S.pre;rw[Gk]at this;lia
 obtain⟨h1,tk,rfl,l⟩:=x.done;have g:∀b:Addr,b∉(Hr CX P w K mg base N qual scope f cd A outer s H E).ex:=λb z=>absurd (show b∈([]:U3) from z) (by simp)
 refine⟨⟨e0.mod,S.kind,U,U,Bd _,λy z c h1 h2=>?_,λy d=>?_,λy c _ h=>?_,λ_=>hd,Around.frames_deeper e0.frames,.inr ⟨U,U⟩,λb z=>absurd z (g b),e0.bs,e0.bsz,λb _ _=>g b,λb z=>absurd z (g b),e0.funs,e0.frf⟩,
  rfl,e0.bare,Un.kept l,⟨_,x.toInCall.ns,λi y v h1 h2 C=>?_⟩,λy c h=>⟨_,x.cell y c h⟩,e0.hok.fresh (Bd _),λy c h=>?_,λp hp=>absurd (show p∈([]:U1) from hp) (by simp),e0.hok.kept l,?_⟩
 ·exact name_of_addr x.apart (Ra h1) (Ra h2)
 ·have d:scope.names.lookup y=some .cell\/scope.names.lookup y=some .free:=d;rcases d with d | d
  ·exact uZ d
  ·exact absurd rfl (S.nofree _ (Ra d))
 ·exact Tg (x.above y c (Ra h))
 ·have hi:i<vs.length:=by
   unfold start at h2;by_cases hi:i<vs.length
   ·exact hi
   ·rw[Qi (by simpa using hi)]at h2;rw[qQ]at h2;split at h2<;>cases h2
  have t:vs[i]?=some v:=by
   unfold start at h2;rw[Rg (by simpa using hi),Bu]at h2;cases e:vs[i]? with
   | none=>rw[e]at h2;cases h2
   | some a=>rw[e]at h2;cases h2;rfl
  obtain⟨u,m,B⟩:=r.get t;have hp:ps[i]?=some y:=by
   rw[<-S.pre,List.getElem?_take_of_lt (by lia)];exact h1
  have j:ps.Nodup:=by rw[<-S.pre];exact S.nd.sublist (List.take_sublist _ _)
  refine⟨u,B,?_⟩;rcases S.par y (Er hp) with k | k
  ·exact .inl ⟨k,wD j hp m k⟩
  ·obtain⟨c,e⟩:=uZ (n:=s.heap.objs.size+1) k;refine .inr ⟨.inl k,c,e,?_⟩;have q:=x.cell y c e;rw[wB j hp m (by show scope.names.lookup y≠_;rw[k];decide)]at q;exact q
 ·exact e0.hok.fresh (Tg (x.above y c (Ra h)))
 ·unfold start;show _=N.length;rw[DP,Az,List.length_replicate];lia
theorem oJ{k:Nat}{name:Str}{params:Arguments}{body:W8}{dV kV doc pm cdv ct oc:W2}{an od:W5}
  {osl:W4}{N:W0} (lk:K.lookup f=some ⟨oc,od,.func (PySem.W.fnOf name qual params body scope dV kV doc pm an cdv ct),osl⟩) (hcd:PySem.W.codeIn K cdv qual=true) (S:CW N ps scope)
  (len:∀vs H Q E,sp vs H Q E->vs.length=ps.length)
  (hbody:∀(A:W6) (outer:List Env) (s:U7) (H:Hp) (vs:List V) (Q:VK) (E:XK),Cg k (A.deeper (envOfC qual scope s.heap.objs.size f cdv))->sp vs H Q E ->
   ∃t,Ii (Hr CX P w K mg base N qual scope f cdv A outer s H E) body t/\t { nx:=λ_ H'=>Q .non H',rt:=Q} (start N vs) H):
  Ec P w K mg base CX (k+1) f (PySem.W.fnOf name qual params body scope dV kV doc pm an cdv ct) ps sp:=by
 refine⟨len,λA outer s H args us vs Q E m g hb r h=>?_⟩;have F:=len _ _ _ _ h;have p:K.In s.heap:=g.mod.kin.keeps λb o e=>(g.bs b o e).1;have j:s.heap.NoLimit:=g.mod.nolimit.keeps λb o e=>(g.bs b o e).1;have a:∀y∈ps.zip us,scope.names.lookup y.1=some .local\/(scope.names.lookup y.1=some .cell/\((cellsFrom (s.heap.objs.size+1) scope.names []).lookup y.1).isSome=true):=λ⟨n,v⟩ C=>by
  rcases S.par n (Yq C).1 with q | q
  ·exact .inl q
  ·exact .inr ⟨q,qN _ _ _ (.inl q)⟩
 refine codeAny_call_function m.depth (p _ _ lk) rfl S.co S.gen rfl (PySem.W.codeRec_of p hcd) (hb _ _ _ _ ?_);refine wpAny_newFunctionEnv_cells S.kind a λenv B s1 x=>?_;subst B;refine⟨j.keeps x.toInCall.keep,codeAny_func ?_⟩;obtain⟨t,D,z⟩:=hbody A outer s H vs Q E (m.deeper _) h;have I:Inv (Hr CX P w K mg base N qual scope f cdv A outer s H E) [] (start N vs) H s1:=X0g S m.hd g F r x;refine GD (D [] s1 (start N vs) H _ I z) (λfl s' c=>?_) λe s' c=>c;have d:∀{i:St}{H':Hp}{v:V}{u:W2},Inv (Hr CX P w K mg base N qual scope f cdv A outer s H E) [] i H' s'->RelV v u->Q v H'->CE outer P w H s Q u s' :=
  λ{i H' v u} J l q=>⟨v,H',J.os,J.bare,J.base,J.hok,l,q⟩
 cases fl with
 | ret u =>
  obtain⟨v,i,H',J,l,q⟩:=c;exact d J l q
 | next =>
  obtain⟨i,H',J,q⟩:=c;exact d (v:=V.non) (u:=Value.none) J rfl q
 | brk =>
  obtain⟨_,_,_,q⟩:=c;exact False.elim q
 | cont =>
  obtain⟨_,_,_,q⟩:=c;exact False.elim q
section
variable {X:Cx}{x:Str}{p pos:Pos}{e:Expr}{es:List Expr}{t:TA}{id T:String}{r:List V->Hp->VK->Prop}
def qC (r:List V->Hp->VK->Prop)(t:TA):TE:=λσ H Q=>t σ H λvs H1=>r vs H1 Q
theorem CJ(hc:CP X (.builtin id) r)(hg:Gl X x)(hm:X.mg x=none)(hv:bootBuiltins x=some (.builtin id))(ha:PA X (e::es) t)(hn:x≠"__name__":=by decide)(hdb:(x == ("__debug__":Str))=false:=by decide)
  (he:starEach (e::es) X.env=(false,eval e X.env)::starEach es X.env:=by rfl) (hpl:(backTo pos (starEach es X.env)).any (·.1)=false:=by rfl):PE X (.Call (.Name x p) (e::es) [] pos) (qC r t):=by
 intro pins s σ H Q I h;refine Wb (Rv I hg hm hv ?_ hn hdb);exact PyProof.Rows.callWith_builtin1 (Bk (ha pos pins s σ H _ I h) λus d ⟨vs,H1,c,b,a⟩=>hc pins d σ H1 vs us Q c b a) he hpl
theorem Xv(hc:CP X (.type T) r)(hg:Gl X x)(hm:X.mg x=none)(hv:bootBuiltins x=some (.type T))(ha:PA X (e::es) t)(hn:x≠"__name__":=by decide)(hdb:(x == ("__debug__":Str))=false:=by decide)
  (he:starEach (e::es) X.env=(false,eval e X.env)::starEach es X.env:=by rfl) (hpl:(backTo pos (starEach es X.env)).any (·.1)=false:=by rfl):PE X (.Call (.Name x p) (e::es) [] pos) (qC r t):=by
 intro pins s σ H Q I h;refine Wb (Rv I hg hm hv ?_ hn hdb);exact PyProof.Rows.callWith_type1 (Bk (ha pos pins s σ H _ I h) λus d ⟨vs,H1,c,b,a⟩=>hc pins d σ H1 vs us Q c b a) he hpl
end
end L2
namespace HT
section
open PySem.SeqAt
open PySem.AutoSeq1 (wpAny_loadPart')
open PySem.MeetsSeq PySem.MeetsSeq2 PySem.MeetsSeq3
end
section
variable {prog:U8}{w:W1}{A:W6}{E:U2}{s:U7}
noncomputable def CV (n d:Nat):Option Int->Nat
 | none=>d
 | some v=>if v<0 then (v+(n:Int)).toNat else min v.toNat n
theorem nJ(n d k:Nat):CV n d (some (k:Int))=min k n:=by
 show (if (k:Int)<0 then ((k:Int)+(n:Int)).toNat else min (k:Int).toNat n)=min k n;rw[if_neg (by lia),FN]
theorem W1k(n d:Nat)(hd:d<=n)(o:Option Int):CV n d o<=n:=by
 cases o with
 | none=>exact hd
 | some v =>
  show (if v<0 then (v+(n:Int)).toNat else min v.toNat n)<=n;by_cases hv:v<0
  ·rw[if_pos hv];lia
  ·rw[if_neg hv];exact Nat.min_le_right _ _
theorem yw(v:Int)(n d:Nat):(if v<0 then max (v+(n:Int)) 0 else min v (n:Int))=((CV n d (some v):Nat):Int):=by
 show (if v<0 then max (v+(n:Int)) 0 else min v (n:Int))=(((if v<0 then (v+(n:Int)).toNat else min v.toNat n):Nat):Int);by_cases hv:v<0
 ·simp only[if_pos hv];lia
 ·simp only[if_neg hv];lia
theorem Y6z(lo hi:Option Int)(n:Nat):Builtin.Slice.sliceAdjust lo hi 1 (n:Int)=(((CV n 0 lo:Nat):Int),((CV n n hi:Nat):Int)):=by
 have h1:¬ ((1:Int)<0):=by lia
 unfold Builtin.Slice.sliceAdjust;simp only[h1,HY];refine Prod.ext ?_ ?_
 ·cases lo with
  | none=>rfl
  | some v=>exact yw v n 0
 ·cases hi with
  | none=>rfl
  | some v=>exact yw v n n
theorem Y5z(i j:Nat):Builtin.Slice.slicePlaces (i:Int) (j:Int) 1=j-i:=by
 unfold Builtin.Slice.slicePlaces;have h1:(1:Int)>0:=by lia
 simp only[h1,JC,Int.ediv_one];split<;>lia
theorem rF{v:W2}{o:Option Int}{Q:Option Int->Shared->Prop}(p:IsPart v o)(h:Q o s):wpAny (model prog w) A (Builtin.Slice.slicePartIndex v) Q E s:=by
 cases p with
 | none=>exact slicePart_none h
 | int i t=>exact slicePart_int h
variable{lo hi:Option Int}
theorem sU{sl:W9}{vl vu:W2}{n:Nat}{Q:Int×Int×Nat->Shared->Prop}(hs:s.heap.IsSliceOf sl vl vu .none)(pl:IsPart vl lo)(pu:IsPart vu hi)
  (h:Q (((CV n 0 lo:Nat):Int),1,CV n n hi-CV n 0 lo) s):wpAny (model prog w) A (Builtin.Slice.sliceApplied (.ref sl) (pure (n:Int))) Q E s:=by
 obtain⟨os,a,c,b⟩:=id hs;unfold Builtin.Slice.sliceApplied Builtin.Slice.sliceFields;refine Aw (Aw (LR a b (x:=vl) rfl (Aw (LR a b (x:=vu) rfl (Aw (LR a b (x:=.none) rfl (Bl ?_)))))));refine Aw (slicePart_none ?_);show wpAny _ _ (if ((1:Int) == 0)=true then _ else _) _ _ s;rw[if_neg (by decide)];refine Aw (rF pl (Aw (rF pu (Aw (Bl ?_)))));show wpAny _ _ (match Builtin.Slice.sliceAdjust lo hi 1 (n:Int) with | (lo,hi)=>pure (lo,(1:Int),Builtin.Slice.slicePlaces lo hi 1)) _ _ s;rw[Y6z lo hi n];show wpAny _ _ (pure (((CV n 0 lo:Nat):Int),(1:Int),Builtin.Slice.slicePlaces ((CV n 0 lo:Nat):Int) ((CV n n hi:Nat):Int) 1)) _ _ s;rw[Y5z];exact Bl h
theorem X2e(xs:U9)(i k:Nat):((List.range k).filterMap λ(m:Nat)=>xs[((i:Int)+(m:Int)*1).toNat]?).toArray=((xs.toList.drop i).take k).toArray:=by
 have e:(λ(m:Nat)=>xs[((i:Int)+(m:Int)*1).toNat]?)=λm=>xs[i+m]?:=by
  funext m;have:((i:Int)+(m:Int)*1).toNat=i+m:=by lia
  rw[this]
 rw[e];have:=pick_run xs i k;rw[List.filterMap_map]at this;have e2:((λx=>xs[x]?) ∘ λx=>i+x)=λm=>xs[i+m]?:=rfl;rw[e2]at this;rw[this]
theorem Z6v{t sl:W9}{items:U9}{vl vu:W2}{Q:U2}(ht:IsTup s.heap t items)(hs:s.heap.IsSliceOf sl vl vu .none)(pl:IsPart vl lo)(pu:IsPart vu hi)
  (hw:¬ (CV items.size 0 lo=0/\CV items.size items.size hi=items.size))
  (h:Q (.ref s.heap.objs.size) {s with heap:=s.heap.push { cls:=.type "tuple",data:=.seq ((items.toList.drop (CV items.size 0 lo)).take (CV items.size items.size hi-CV items.size 0 lo)).toArray}})
  (hsz:items.size<=sizeLine):wpAny (model prog w) A (getItem (.ref t) (.ref sl)) Q E s:=by
 have a:sizeOk (.seq ((items.toList.drop (CV items.size 0 lo)).take (CV items.size items.size hi-CV items.size 0 lo)).toArray):=by
  show ((items.toList.drop (CV items.size 0 lo)).take (CV items.size items.size hi-CV items.size 0 lo)).toArray.size<=sizeLine;rw[Ep,Gk,Ld,JT];lia
 have j:CV items.size items.size hi<=items.size:=W1k _ _ (Bd _) hi;obtain⟨os,b,c,f⟩:=id hs;have d:s.TypeIs (.ref sl) "slice":=⟨os,b,c⟩;unfold getItem;try with_reducible refine Ky ?_
 first | refine Aw (Bl ?_) | skip
 refine Aw (wpAny_sequenceKey ht.typeIs (by decide) ?_)
 refine Aw (Y_ (name:=Str.ofString "__getitem__") ht.typeIs PyProof.Rows.slot_tuple_getitem
  (RZ PyProof.Rows.slot_tuple_getitem ht.typeIs entry_tuple_getitem ?_ (args_tuple_getitem _ _)))
 show wpAny _ _ (Builtin.Tuple.tupleItemsOf (.ref t) >>= _) _ _ s;refine Aw (tupleItemsOf_ ht ?_);refine Aw (Yl d ?_);rw[if_pos (by decide)];refine Aw (sU hs pl pu ?_);have e:¬ ((((CV items.size 0 lo:Nat):Int) == 0 && (1:Int) == 1 && (CV items.size items.size hi-CV items.size 0 lo) == items.size)=true):=by
  intro q;rw[GF,GF]at q;have g:((CV items.size 0 lo:Nat):Int)=0:=eq_of_beq q.1.1;have i:CV items.size items.size hi-CV items.size 0 lo=items.size:=eq_of_beq q.2;exact hw ⟨by lia,by lia⟩
 show wpAny _ _ (if (((CV items.size 0 lo:Nat):Int) == 0 && (1:Int) == 1 && (CV items.size items.size hi-CV items.size 0 lo) == items.size)=true then _ else _) _ _ s;rw[if_neg e,X2e];first
  | exact Aw (m:=Builtin.Tuple.tupleExact _) (Le (Bl ⟨_,rfl,Bl h⟩) a)
  | exact Aw (m:=Builtin.Tuple.tupleExact _) (Le (Aw (Bl (Bl ⟨_,rfl,Bl h⟩))) a)
  | exact Aw (Aw (m:=Builtin.Tuple.tupleExact _) (Le (Bl (Bl ⟨_,rfl,Bl h⟩)) a))
  | exact Aw (Aw (m:=Builtin.Tuple.tupleExact _) (Le (Bl ⟨_,rfl,Bl h⟩) a))
end
end HT
namespace L2
abbrev TO:=St->Hp->(Option Int->Hp->Prop)->Prop
def PO (X:Cx)(e:Option Expr)(t:TO):Prop :=
 ∀(pins:U1) (s:U7) (σ:St) (H:Hp) (Q:Option Int->Hp->Prop),Inv X pins σ H s->t σ H Q ->
  wpAny (model X.prog X.w) X.A (evalPart e X.env) (λu s'=>∃o H',Inv X pins σ H' s'/\IsPart u o/\Q o H') X.xe s
def X6m:TO:=λ_ H Q=>Q none H
def Vf (t:TE):TO:=λσ H Q=>t σ H λx H1=>∃i,x=.int i/\Q (some i) H1
theorem Nr{ns:U6}:∀{us:U5},Vals (ns.map V.int) us->IntsAre us ns:=by
 induction ns with
 | nil=>intro us r;rw[Yi]at r;cases r;exact .nil
 | cons n ns ih =>
  intro us r;rw[FJ]at r;cases r with
  | cons r1 r2 =>
   obtain⟨t,e⟩:=r1;subst e;exact .cons n t (ih r2)
section
variable {X:Cx}{e:Expr}{te:TE}{lo hi:Option Expr}{tl th:TO}{pos p2:Pos}
theorem K_:PO X none X6m:=by
 intro pins s σ H Q I h;rw[evalPart_none];exact Bl ⟨none,H,I,.none,h⟩
theorem J7(h:PE X e te):PO X (some e) (Vf te):=by
 intro pins s σ H Q I c;rw[evalPart_some];refine Bk (h pins s σ H _ I c) λu f ⟨x,H1,d,b,a⟩=>?_;obtain⟨i,rfl,q⟩:=a;obtain⟨t,rfl⟩:=b;exact⟨some i,H1,d,.int i t,q⟩
def YF (X:Cx)(r:V->Option Int->Option Int->Hp->VK->Prop):Prop :=
 ∀(pins:U1) (s:U7) (σ:St) (H:Hp) (x:V) (v vl vu:W2) (lo hi:Option Int) (sl:W9) (Q:VK),Inv X pins σ H s->RelV x v->s.heap.IsSliceOf sl vl vu .none->IsPart vl lo->IsPart vu hi->r x lo hi H Q ->
  ∃T id,typeLookup (.type T) "__getitem__"=pure (some (.builtin id))/\s.TypeIs v T/\wpAny (model X.prog X.w) X.A (getItem v (.ref sl)) (EP X pins σ Q) X.xe s
def tSl (r:V->Option Int->Option Int->Hp->VK->Prop)(te:TE)(tl th:TO):TE:=λσ H Q=>te σ H λx H1=>tl σ H1 λl H2=>th σ H2 λu H3=>r x l u H3 Q
theorem Kq{r:V->Option Int->Option Int->Hp->VK->Prop}(hr:YF X r)(he:PE X e te)(hl:PO X lo tl)(hu:PO X hi th):PE X (.Subscript e (.Slice lo hi none p2) pos) (tSl r te tl th):=by
 intro pins s σ H Q I h;refine Subscript_ (Bk (he pins s σ H _ I h) λv C ⟨x,H1,B,m,j⟩=>?_);refine wpAny_Slice (Bk (hl pins C σ H1 _ B j) λa s2 ⟨l,H2,y,i,n⟩=>Bk (hu pins s2 σ H2 _ y n) λc s3 ⟨u,d,k,o,f⟩=>?_);rw[evalPart_none];refine Bl ?_;have g:Inv X pins σ d {s3 with heap:=s3.heap.push { cls:=.type "slice",data:=.fields #[a,c,.none]}}:=k.kept (t':=s3.toks) λb ob q=>Ef _ q;obtain⟨T,id,p,z,t⟩:=hr pins {s3 with heap:=s3.heap.push { cls:=.type "slice",data:=.fields #[a,c,.none]}} σ d x v a c l u s3.heap.objs.size Q g m (Heap.IsSliceOf.new ..) i o f;show wpAny (model X.prog X.w) X.A (subscriptTail e (.Slice lo hi none p2) v (.ref s3.heap.objs.size)) (EP X pins σ Q) X.xe {s3 with heap:=s3.heap.push { cls:=.type "slice",data:=.fields #[a,c,.none]}};exact tail_any (ops:=[.ref s3.heap.objs.size,v]) z p t (by with_unfolding_all rfl)
noncomputable def Cr (xs:List V)(lo hi:Option Int):List V:=(xs.drop (HT.CV xs.length 0 lo)).take (HT.CV xs.length xs.length hi-HT.CV xs.length 0 lo)
theorem rM(xs:List V)(lo hi:Option Int):(Cr xs lo hi).length<=xs.length:=by
 unfold Cr;rw[Gk,Ld];lia
def bV (K:U0):V->Option Int->Option Int->Hp->VK->Prop:=λx lo hi H Q=>∃a xs,x=.ref a/\Ai K H a xs /\
 ¬ (HT.CV xs.length 0 lo=0/\HT.CV xs.length xs.length hi=xs.length)/\∀p,H p=none->Q (.ref p) (upd H p (.tup (Cr xs lo hi)))
theorem Z6:YF X (bV X.K):=by
 intro pins s σ H x v n p lo hi m Q I j g i k h;obtain⟨a,xs,rfl,l,f,q⟩:=h;cases j;obtain⟨its,r,e,d⟩:=I.tuple l;have c:its.toArray.size=xs.length:=by rw[Ep];exact r.length.symm
 refine⟨"tuple",_,PyProof.Rows.slot_tuple_getitem.lookup,e.typeIs,?_⟩;refine HT.Z6v e g i k (by rw[c];exact f) ?_ (by rw[c];exact d);rw[c];refine⟨.ref s.heap.objs.size,_,I.laid (t':=s.toks) (o:=.tup (Cr xs lo hi)) (λb ob q=>Ef _ q) (Bd _) ?_,U,q _ (I.hok.fresh (Bd _))⟩;exact⟨E_ (rM xs lo hi) d,_,(r.drop (HT.CV xs.length 0 lo)).take (HT.CV xs.length xs.length hi-HT.CV xs.length 0 lo),IsTup.new _ _⟩
end
noncomputable def Oe (n:Nat)(i:Int):Option Nat:=if 0<=i then (if i<n then some i.toNat else none) else if -(n:Int)<=i then some (i+n).toNat else none
noncomputable def Fg {α:Type}(xs:List α)(i:Int):Option α:=(Oe xs.length i).bind λj=>xs[j]?
variable{n j:Nat}{i:Int}
theorem zJ(h:Oe n i=some j):seqIndex? i n=some j/\j<n/\-(n:Int)<=i/\i<n:=by
 unfold Oe at h;by_cases h0:0<=i
 ·rw[if_pos h0]at h;by_cases h1:i<n
  ·rw[if_pos h1]at h;have e:i.toNat=j:=Option.some.inj h;exact⟨by rw[seqIndex_of h0 h1,e],by lia,by lia,h1⟩
  ·rw[if_neg h1]at h;cases h
 ·rw[if_neg h0]at h;by_cases h1:-(n:Int)<=i
  ·rw[if_pos h1]at h;have e:(i+n).toNat=j:=Option.some.inj h;exact⟨by rw[bf (by lia) h1,e],by lia,h1,by lia⟩
  ·rw[if_neg h1]at h;cases h
theorem yq{α:Type}{xs:List α}{v:α}(h:Fg xs i=some v):∃j,seqIndex? i xs.length=some j/\xs[j]?=some v/\j<xs.length/\-(xs.length:Int)<=i/\i<xs.length:=by
 unfold Fg at h;cases e:Oe xs.length i with
 | none=>rw[e]at h;cases h
 | some j =>
  rw[e]at h;obtain⟨h1,h2,b,a⟩:=zJ e;exact⟨j,h1,h,h2,b,a⟩
theorem J6{α:Type}{xs:List α}{v:α}(h:xs[j]?=some v):Fg xs (j:Int)=some v:=by
 have a:j<xs.length:=(Fe.mp h).1;have e:Oe xs.length (j:Int)=some j:=by
  unfold Oe;rw[if_pos (by lia),if_pos (by lia)];simp
 unfold Fg;rw[e];exact h
def W0e (b:Expr):Prop:=∀o i,subscripted b false o i=operate [o,i] (getItem o i)
def YS (X:Cx)(r:R2):Prop :=
 ∀(value slice:Expr) (pins:U1) (s:U7) (σ:St) (H:Hp) (x y:V) (v u:W2) (Q:VK),Inv X pins σ H s->RelV x v->RelV y u->r x y H Q ->
  subscripted slice false v u=operate [v,u] (getItem v u)->wpAny (model X.prog X.w) X.A (subscriptTail value slice v u) (EP X pins σ Q) X.xe s
def pJ (X:Cx)(id:String)(r:V->List V->Hp->VK->Prop):Prop :=
 ∀(pins:U1) (s:U7) (σ:St) (H:Hp) (x:V) (xs:List V) (v:W2) (us:U5) (Q:VK),Inv X pins σ H s->RelV x v->Vals xs us->r x xs H Q ->
  wpAny (model X.prog X.w) X.A (call (.builtin id) (v::us)) (EP X pins σ Q) X.xe s
section
variable {X:Cx}{a b:Expr}{ta tb:TE}{pos:Pos}
theorem Ao{r:R2}(hr:YS X r)(ha:PE X a ta)(hb:PE X b tb)(hs:W0e b):PE X (.Subscript a b pos) (Yb r ta tb):=by
 intro pins s σ H Q I h;exact Subscript_ (Rp ha hb I h λv u s2 x y H2 c e d q=>hr a b pins s2 σ H2 x y v u Q c e d q (hs _ _))
def Vv (K:U0):R2:=λx y H Q=>∃p xs i v,x=.ref p/\y=.int i/\Ag K H p xs/\Fg xs i=some v/\Q v H
def Vu (K:U0):R2:=λx y H Q=>∃p xs i v,x=.ref p/\y=.int i/\Ai K H p xs/\Fg xs i=some v/\Q v H
theorem FZ:YS X (Vv X.K):=by
 intro value b pins s σ H x y v u Q I m k h f;obtain⟨p,xs,i,z,rfl,rfl,l,o,q⟩:=h;cases m;obtain⟨t,rfl⟩:=k;obtain⟨its,r,e,C⟩:=I.list l;obtain⟨j,h1,h2,D,A,n⟩:=yq o;obtain⟨w,g,c⟩:=r.get h2;have B:=r.length;have E:=G4;have a:EP X pins σ Q w s:=⟨z,H,I,c,q⟩;by_cases h0:0<=i
 ·have d:i.toNat=j:=by
   rw[seqIndex_of h0 n]at h1;exact Option.some.inj h1
  exact item_listR e.isList h0 (by lia) (by rw[d];simpa using g) a f
 ·have d:(i+(its.toArray.size:Int)).toNat=j:=by
   rw[bf (by lia) A]at h1;rw[Ep,<-B];exact Option.some.inj h1
  exact qP (x:=w) e.isList.typeIs slot_list_getitem.lookup
   (wpAny_getItem_list_neg (Q:=λr s'=>r=w/\EP X pins σ Q r s') e.isList (by lia) (by rw[Ep]<;>lia) (by lia) (by rw[d];simpa using g) ⟨U,a⟩) f
theorem BK:YS X (Vu X.K):=by
 intro value b pins s σ H x y v u Q I k e h g;obtain⟨p,xs,i,z,rfl,rfl,f,l,q⟩:=h;cases k;obtain⟨t,rfl⟩:=e;obtain⟨its,r,d,o⟩:=I.tuple f;obtain⟨j,h1,h2,B,C,A⟩:=yq l;obtain⟨w,n,c⟩:=r.get h2;have m:=r.length;have D:=G4;have a:EP X pins σ Q w s:=⟨z,H,I,c,q⟩;exact qP (x:=w) d.typeIs slot_tuple_getitem.lookup
  (getItem_tuple (j:=j) (Q:=λr s'=>r=w/\EP X pins σ Q r s') d (by lia) (by lia) (by rw[Ep,<-m];exact h1) (by simpa using n) ⟨U,a⟩) g
theorem Y6o(its:U5)(n j:Nat)(u:W2):Obj.mapSeq (·.setIfInBounds j u) { cls:=.type "list",data:=.seq its.toArray n}={ cls:=.type "list",data:=.seq (its.set j u).toArray n}:=by
 simp[Obj.mapSeq]
theorem Inv.lst{pins:U1}{σ:St}{H:Hp}{s:U7}{p:W9}{xs:List V}(I:Inv X pins σ H s)(h:H p=some (.lst xs)):
  ∃(its:U5) (n:Nat),Vals xs its/\s.heap.get? p=some { cls:=.type "list",data:=.seq its.toArray n}/\xs.length<=sizeLine:=by
 obtain⟨z,its,n,r,e⟩:=I.hok p _ h;exact⟨its,n,r,e,z⟩
variable{s:U7}
theorem Inv.lstUpd{pins:U1}{σ:St}{H:Hp}{p:W9}{xs ys:List V}{its its':U5}{n':Nat}{f:Obj->Obj}(I:Inv X pins σ H s)(h:H p=some (.lst xs))
  (ho:s.heap.get? p=some { cls:=.type "list",data:=.seq its.toArray n}) (hf:f { cls:=.type "list",data:=.seq its.toArray n}={ cls:=.type "list",data:=.seq its'.toArray n'}) (r:Vals ys its') (hz:ys.length<=sizeLine) (t:Nat):
  Inv X pins σ (upd H p (.lst ys)) {s with heap:=s.heap.update p f,toks:=t}:=by
 have e:(s.heap.update p f).get? p=some { cls:=.type "list",data:=.seq its'.toArray n'}:=by
  rw[Rc f ho (by rw[hf]<;>rfl),hf]
 refine I.write (x:=p) (e:=p) (by rw[h];trivial) (.inl rfl) (λb u hb q=>(Rf _ _ (Ne.symm hb)).trans q) ⟨_,e⟩ ?_;exact⟨hz,its',n',r,e⟩
def Vt:V->V->V->Hp->(Hp->Prop)->Prop:=λo i v H Q=>∃p xs k j,o=.ref p/\i=.int k/\H p=some (.lst xs)/\Oe xs.length k=some j/\Q (upd H p (.lst (xs.set j v)))
theorem X1y:YG X Vt:=by
 intro pins s σ H o i v y z u Q I m w x h;obtain⟨p,xs,k,j,rfl,rfl,hp,g,q⟩:=h;cases m;obtain⟨t,rfl⟩:=w;obtain⟨its,n,r,b,l⟩:=I.lst hp;obtain⟨h1,h2,e,f⟩:=zJ g;have c:=r.length;have A:=G4;have d:Inv X pins σ (upd H p (.lst (xs.set j v))) {s with heap:=s.heap.update p (Obj.mapSeq (·.setIfInBounds j u))} :=
  I.lstUpd hp b (Y6o its n j u) (r.set x j) (by rw[RV];exact l) s.toks
 by_cases h0:0<=k
 ·have a:k.toNat=j:=by
   rw[seqIndex_of h0 f]at h1;exact Option.some.inj h1
  exact PySem.W.ki_setAt b h0 (by lia) (by rw[Ep,<-c];exact f) (by rw[a];exact⟨_,d,q⟩)
 ·have a:(k+(its.toArray.size:Int)).toNat=j:=by
   rw[bf (by lia) e]at h1;rw[Ep,<-c];exact Option.some.inj h1
  exact PySem.W.ki_setBack b (by lia) (by rw[Ep,<-c];exact e) (by lia) (by rw[a];exact⟨_,d,q⟩)
theorem Y1i(lo hi:Option Int)(n:Nat):(sliceBounds lo hi none n).1=((HT.CV n 0 lo:Nat):Int)/\(sliceBounds lo hi none n).2.1=((HT.CV n n hi:Nat):Int)/\(sliceBounds lo hi none n).2.2=1:=by
 refine⟨?_,?_,U⟩
 ·cases lo with
  | none=>simp[sliceBounds,HT.CV]
  | some i =>
   simp only[sliceBounds,HT.CV,Option.getD_none,show (1:Int)>0 by decide,JC];by_cases h:i<0
   ·simp only[h,JC]<;>lia
   ·simp only[h,HY]<;>lia
 ·cases hi with
  | none=>simp[sliceBounds,HT.CV]
  | some i =>
   simp only[sliceBounds,HT.CV,Option.getD_none,show (1:Int)>0 by decide,JC];by_cases h:i<0
   ·simp only[h,JC]<;>lia
   ·simp only[h,HY]<;>lia
theorem Z9r(its:U5)(lo hi:Option Int):slicePick its.toArray lo hi none=((its.drop (HT.CV its.length 0 lo)).take (HT.CV its.length its.length hi-HT.CV its.length 0 lo)).toArray:=by
 obtain⟨h1,h2,a⟩:=Y1i lo hi its.toArray.size;unfold slicePick;rw[h1,h2,a];simp only[sliceRange_one,pick_run,Ep]<;>rfl
def Vs (K:U0):V->Option Int->Option Int->Hp->VK->Prop:=λx lo hi H Q=>∃a xs,x=.ref a/\Ag K H a xs/\∀p,H p=none->Q (.ref p) (upd H p (.lst (Cr xs lo hi)))
theorem Qv:YF X (Vs X.K):=by
 intro pins s σ H x v m n lo hi l Q I i e g j h;obtain⟨a,xs,rfl,k,q⟩:=h;cases i;obtain⟨its,r,d,f⟩:=I.list k;have c:=r.length;refine⟨"list",_,slot_list_getitem.lookup,d.isList.typeIs,?_⟩;refine wpAny_getItem_list_slice d.isList e g j .none (by simp) ?_ (by rw[Ep]<;>lia);rw[Z9r,<-c];refine⟨.ref s.heap.objs.size,_,I.laid (t':=s.toks) (o:=.lst (Cr xs lo hi)) (λb ob q=>Ef _ q) (Bd _) ?_,U,q _ (I.hok.fresh (Bd _))⟩;exact⟨E_ (rM xs lo hi) f,_,0,(r.drop (HT.CV xs.length 0 lo)).take (HT.CV xs.length xs.length hi-HT.CV xs.length 0 lo),Fj _ rfl⟩
noncomputable def Fz:V->Bool
 | .non=>true
 | .bl _=>true
 | .int _=>true
 | .str _=>true
 | _=>false
noncomputable def Pa:V->V->Bool
 | .non,.non=>true
 | .bl a,.bl b=>a == b
 | .bl a,.int b=>(if a then 1 else 0) == b
 | .int a,.bl b=>a == (if b then 1 else 0)
 | .int a,.int b=>a == b
 | .str a,.str b=>a == b
 | _,_=>false
variable{x:V}{u v:W2}
theorem W4b{A:W6}{y:V}(ry:RelV y u)(rx:RelV x v)(fy:Fz y=true)(fx:Fz x=true):SeqAt.EqAt A s u v (Pa y x):=by
 cases y with
 | non =>
  cases ry;cases x with
  | non=>cases rx;exact SeqAt.EqAt.same _
  | bl b=>cases rx;exact SeqAt.EqAt.none_bool b
  | int b=>obtain⟨t,rfl⟩:=rx;exact SeqAt.EqAt.none_int b t
  | str b=>obtain⟨t,rfl⟩:=rx;exact SeqAt.EqAt.none_str b t
  | _=>exact absurd (show false=true from fx) GJ
 | bl a =>
  cases ry;cases x with
  | non=>cases rx;exact SeqAt.EqAt.bool_none a
  | bl b=>cases rx;exact SeqAt.EqAt.bool_bool a b
  | int b=>obtain⟨t,rfl⟩:=rx;exact SeqAt.EqAt.bool_int a b t
  | str b=>obtain⟨t,rfl⟩:=rx;exact SeqAt.EqAt.bool_str a b t
  | _=>exact absurd (show false=true from fx) GJ
 | int a =>
  obtain⟨t',rfl⟩:=ry;cases x with
  | non=>cases rx;exact SeqAt.EqAt.int_none a t'
  | bl b=>cases rx;exact SeqAt.EqAt.int_bool a t' b
  | int b=>obtain⟨t,rfl⟩:=rx;exact SeqAt.EqAt.int_int a t' b t
  | str b=>obtain⟨t,rfl⟩:=rx;exact SeqAt.EqAt.int_str a t' b t
  | _=>exact absurd (show false=true from fx) GJ
 | str a =>
  obtain⟨t',rfl⟩:=ry;cases x with
  | non=>cases rx;exact SeqAt.EqAt.str_none a t'
  | bl b=>cases rx;exact SeqAt.EqAt.str_bool a t' b
  | int b=>obtain⟨t,rfl⟩:=rx;exact SeqAt.EqAt.str_int a t' b t
  | str b=>obtain⟨t,rfl⟩:=rx;exact SeqAt.EqAt.str_str a t' b t
  | _=>exact absurd (show false=true from fx) GJ
 | _=>exact absurd (show false=true from fy) GJ
noncomputable def Pb (x:V)(u:W2):Bool:=match u with
 | .none=>Pa .non x
 | .bool b=>Pa (.bl b) x
 | .int i _=>Pa (.int i) x
 | .str z _=>Pa (.str z) x
 | _=>false
theorem xG{y:V}(r:RelV y u)(f:Fz y=true):Pb x u=Pa y x:=by
 cases y with
 | non=>cases r;rfl
 | bl b=>cases r;rfl
 | int i=>obtain⟨t,rfl⟩:=r;rfl
 | str z=>obtain⟨t,rfl⟩:=r;rfl
 | _=>exact absurd (show false=true from f) GJ
theorem m7{x:V}:∀{xs:List V}{us:U5},Vals xs us->xs.all Fz=true->us.any (Pb x)=xs.any λy=>Pa y x
 | _,_,.nil,_=>rfl
 | y::xs,u::us,.cons r t,f=>by
  rw[V7,GF]at f;rw[RL,RL,xG r f.1,m7 t f.2]
theorem oF{A:W6}{s:U7}{x:V}{v:W2}(rx:RelV x v)(fx:Fz x=true):∀{xs:List V}{us:U5},Vals xs us->xs.all Fz=true->∀u∈us,SeqAt.EqAt A s u v (Pb x u)
 | _,_,.nil,_=>λu a=>by cases a
 | y::xs,u::us,.cons r t,f=>λb a=>by
  rw[V7,GF]at f;rcases Dg.mp a with rfl | a
  ·rw[xG r f.1];exact W4b r rx f.1 fx
  ·exact oF rx fx t f.2 b a
noncomputable def inV (x:V)(xs:List V):Bool:=xs.any λy=>Pa y x
def rIn (K:U0)(neg:Bool):R2:=λx y H Q=>∃p xs,y=.ref p/\(Ag K H p xs\/Ai K H p xs)/\Fz x=true/\xs.all Fz=true/\Q (.bl (if neg then !inV x xs else inV x xs)) H
theorem wN:Et X (compareOp .In) (rIn X.K false):=by
 intro pins s σ H x y v u Q I d f h;obtain⟨p,xs,rfl,a,e,fs,q⟩:=h;cases f;rcases a with a | a
 ·obtain⟨its,r,c,g⟩:=I.list a;refine SeqAt.in_listAt (Pb x) c.isList (λw b=>oF d e r fs w (by simpa using b)) ⟨.bl _,H,I,U,?_⟩;rw[show its.toArray.any (Pb x)=its.any (Pb x) by simp,m7 r fs];exact q
 ·obtain⟨its,r,c,g⟩:=I.tuple a;refine SeqAt.in_tupleAt (Pb x) c (λw b=>oF d e r fs w (by simpa using b)) ⟨.bl _,H,I,U,?_⟩;rw[show its.toArray.any (Pb x)=its.any (Pb x) by simp,m7 r fs];exact q
theorem GP:CP X (.builtin "len") (λxs H Q=>∃p ys,xs=[.ref p]/\(Ag X.K H p ys\/Ai X.K H p ys)/\Q (.int ys.length) H):=by
 intro pins s σ H xs us Q I r h;obtain⟨p,ys,rfl,b,q⟩:=h;obtain⟨u,rfl,f⟩:=vals1 r;cases f;have g:=G4;rcases b with b | b
 ·obtain⟨its,c,d,e⟩:=I.list b;have a:=c.length;exact Calls.call_len_list d.isList (by simp only[Ep]<;>lia) ⟨.int ys.length,H,I.tok _,⟨s.toks+1,by rw[Ep,a]⟩,q⟩
 ·obtain⟨its,c,d,e⟩:=I.tuple b;have a:=c.length;exact len_tuple d (by simp only[Ep]<;>lia) ⟨.int ys.length,H,I.tok _,⟨s.toks+1,by rw[Ep,a]⟩,q⟩
theorem rY:CP X (.type "list") (λxs H Q=>∃p ys,xs=[.ref p]/\(Ag X.K H p ys\/Ai X.K H p ys)/\∀l,H l=none->Q (.ref l) (upd H l (.lst ys))):=by
 intro pins s σ H xs us Q I r h;obtain⟨p,ys,rfl,d,q⟩:=h;obtain⟨u,rfl,t⟩:=vals1 r;cases t;have c:∀(its:U5),Vals ys its->ys.length<=sizeLine->∀(h':Heap) (c':Nat),(∀b o',s.heap.get? b=some o'->h'.get? b=some o') ->
   h'.get? s.heap.objs.size=some { cls:=.type "list",dict:=none,data:=.seq its.toArray c',slots:=#[]}->EP X pins σ Q (.ref s.heap.objs.size) {s with heap:=h'}:=λits a g h' c' f e =>
  ⟨.ref s.heap.objs.size,_,I.laid (t':=s.toks) f (Bd _) (show BR X.prog X.w _ h' _ (.lst ys) from ⟨g,its,c',a,e⟩),U,q _ (I.hok.fresh (Bd _))⟩
 rcases d with d | d
 ·obtain⟨its,a,j,g⟩:=I.list d;have i:=a.length;obtain⟨o,k,m,n,hd⟩:=j.isList;exact call_list_seq p (.inl rfl) k m hd (λh' c' f e=>c its a g h' c' f e) (by simp only[Ep]<;>lia)
 ·obtain⟨its,a,j,g⟩:=I.tuple d;have i:=a.length;obtain⟨o,k,m,n,hd⟩:=j;exact call_list_seq p (.inr rfl) k m hd (λh' c' f e=>c its a g h' c' f e) (by simp only[Ep]<;>lia)
theorem Y0p:CP X (.type "tuple") (λxs H Q=>∃p ys,xs=[.ref p]/\((Ag X.K H p ys/\∀l,H l=none->Q (.ref l) (upd H l (.tup ys)))\/(Ai X.K H p ys/\Q (.ref p) H))):=by
 intro pins s σ H xs us Q I r h;obtain⟨p,ys,rfl,h⟩:=h;obtain⟨u,rfl,j⟩:=vals1 r;cases j;rcases h with ⟨hq,q⟩ | ⟨hq,q⟩
 ·obtain⟨its,a,c,d⟩:=I.list hq;have f:=a.length;refine call_tuple_list c.isList (λh' i=>?_) (by simp only[Ep]<;>lia);have g:Inv X pins σ H {s with heap:=h'}:=I.kept (t':=s.toks) i;have k:Inv X pins σ (upd H h'.objs.size (.tup ys)) {s with heap:=h'.push { cls:=.type "tuple",data:=.seq its.toArray}} :=
   g.laid (t':=s.toks) (λb o e=>Ef _ e) (Bd _) (show BR X.prog X.w _ _ _ (.tup ys) from ⟨d,its,a,IsTup.new _ _⟩)
  exact⟨.ref h'.objs.size,_,k,U,q _ (g.hok.fresh (Bd _))⟩
 ·obtain⟨its,a,c,d⟩:=I.tuple hq;exact call_tuple_same c ⟨.ref p,H,I,U,q⟩
def bD (K:U0)(T:String)(x:V)(H:Hp):Prop:=match x with
 | .str _=>T="str"
 | .int _=>T="int"
 | .ref p=>(T="list"/\∃xs,Ag K H p xs)\/(T="tuple"/\∃o,K.lookup p=some o/\o.cls=.type "tuple"/\o.dict=none) \/
   (T="dict"/\((∃kvs,H p=some (.dK kvs))\/∃kvs,H p=some (.dT kvs)))\/(T="set"/\∃S n,H p=some (.set S n))
 | _=>False
theorem yP{pins:U1}{σ:St}{H:Hp}{T:String}(I:Inv X pins σ H s)(r:RelV x v)(ty:bD X.K T x H):
  s.TypeIs v T/\∀a,v=.ref a->∃ob,s.heap.get? a=some ob/\ob.dict=none:=by
 cases x with
 | str z =>
  obtain⟨t,rfl⟩:=r;cases (show T="str" from ty);exact⟨typeIs_str s z t,λ_ e=>nomatch e⟩
 | int i =>
  obtain⟨t,rfl⟩:=r;cases (show T="int" from ty);exact⟨typeIs_int s i t,λ_ e=>nomatch e⟩
 | ref p =>
  cases r;rcases ty with ⟨rfl,xs,hq⟩ | ⟨rfl,o,hk,hc,hd⟩ | ⟨rfl,hk⟩ | ⟨rfl,S,n,hk⟩
  ·obtain⟨its,_,b,_⟩:=I.list hq;refine⟨b.isList.typeIs,λa e=>?_⟩;cases e;obtain⟨o,n,e,c,hd,_⟩:=b;exact⟨o,e,hd⟩
  ·refine⟨⟨o,I.kIn p o hk,hc⟩,λa e=>?_⟩;cases e;exact⟨o,I.kIn _ o hk,hd⟩
  ·have z:∃o,s.heap.get? p=some o/\o.ExactDict:=by
    rcases hk with ⟨kvs,hk⟩ | ⟨kvs,hk⟩
    ·obtain⟨_,_,_,_,o,_,_,e,ex,_⟩:=I.hok p _ hk;exact⟨o,e,ex⟩
    ·obtain⟨_,_,_,_,o,_,_,e,ex,_⟩:=I.hok p _ hk;exact⟨o,e,ex⟩
   obtain⟨o,e,ex⟩:=z;refine⟨⟨o,e,ex.1⟩,λa e2=>?_⟩;cases e2;exact⟨o,e,ex.2.1⟩
  ·obtain⟨o,_,_,_,e,ex,_⟩:=I.hok p _ hk;refine⟨⟨o,e,ex.1⟩,λa e2=>?_⟩;cases e2;exact⟨o,e,ex.2.1⟩
 | _=>exact False.elim ty
def bQ (K:U0)(T:String)(r:V->List V->Hp->VK->Prop)(to:TE):TE:=λσ H Q=>to σ H λx H1=>bD K T x H1/\r x [] H1 Q
def tBM (K:U0)(T:String)(r:V->List V->Hp->VK->Prop)(to:TE)(t:TA):TE:=λσ H Q=>to σ H λx H1=>bD K T x H1/\t σ H1 λxs H2=>r x xs H2 Q
variable {o e:Expr}{es:List Expr}{to:TE}{t:TA}{name:Str}{apos cpos:Pos}{T id:String}{r:V->List V->Hp->VK->Prop}
theorem Pj(pa:PlainAttrs T)(slot:Slot T name id)(hty:typeOf (.builtin id)=pure (.type "method_descriptor"))(hm:pJ X id r)(ho:PE X o to)
  (hbase:attributeBase o name X.env (eval o X.env)=eval o X.env:=by rfl) (hline:(apos.endLine == cpos.line)=true:=by rfl):PE X (.Call (.Attribute o name apos) [] [] cpos) (bQ X.K T r to):=by
 intro pins s σ H Q I h;refine wpAny_Call_method0_late hbase hline (Bk (ho pins s σ H _ I h) λv d ⟨x,H1,b,a,ty,c⟩=>?_);obtain⟨h1,h2⟩:=yP b a ty;exact⟨T,id,pa,slot,hty,h1,h2,Calls.callWith_builtin rfl (PySem.evalArgs_none (hm pins d σ H1 x [] v [] Q b a .nil c))⟩
theorem Uw(pa:PlainAttrs T)(slot:Slot T name id)(hty:typeOf (.builtin id)=pure (.type "method_descriptor"))(hm:pJ X id r)(ho:PE X o to)(ha:PA X (e::es) t)
  (hbase:attributeBase o name X.env (eval o X.env)=eval o X.env:=by rfl)
  (hfew:((backTo cpos (starEach (e::es) X.env)).all (λx=>!x.1) && (backToKw cpos (keywordEach [] X.env)).all (λx=>x.1.isSome)
   && decide ((e::es).length+([]:List Keyword).length+(if ([]:List Keyword).isEmpty then 0 else 1)<30))=true:=by rfl)
  (hline:(apos.endLine == cpos.line)=true:=by rfl) (hs:starEach (e::es) X.env=(false,eval e X.env)::starEach es X.env:=by rfl) (hplain:(backTo cpos (starEach es X.env)).any (·.1)=false:=by rfl):
  PE X (.Call (.Attribute o name apos) (e::es) [] cpos) (tBM X.K T r to t):=by
 intro pins s σ H Q I h;refine wpAny_Call_method_late hbase hfew hline rfl (Bk (ho pins s σ H _ I h) λv j ⟨x,H1,c,a,ty,f⟩=>?_);obtain⟨h1,h2⟩:=yP c a ty;refine⟨T,id,pa,slot,hty,h1,h2,?_⟩;have b:=ha cpos pins j σ H1 _ c f;rw[hs]at b ⊢;refine Calls.callWith_builtin (by show (false || (backTo cpos (starEach es X.env)).any (·.1))=false;rw[hplain]<;>rfl) (Calls.evalArgs_plain ?_);exact Bk b λus s2 ⟨vs,H2,i,d,g⟩=>hm pins s2 σ H2 x vs v us Q i a d g
end
def MtM (X:Cx)(id:String)(r:V->List V->Hp->VK->Prop):Prop :=
 ∀(pins:U1) (s:U7) (σ:St) (H:Hp) (x:V) (xs:List V) (v:W2) (us:U5) (Q:VK),Inv X pins σ H s->RelV x v->Vals xs us->r x xs H Q ->
  wpAny (model X.prog X.w) X.A (call (.builtin id) (v::us)) (EP X pins σ Q) X.xe s
theorem Vals.one{x:V}{us:U5}(h:Vals [x] us):∃u,us=[u]/\RelV x u:=by
 cases h with
 | cons r t=>cases t;exact⟨_,rfl,r⟩
theorem Vals.two{x y:V}{us:U5}(h:Vals [x,y] us):∃u v,us=[u,v]/\RelV x u/\RelV y v:=by
 cases h with
 | cons r t=>cases t with
  | cons q t=>cases t;exact⟨_,_,rfl,r,q⟩
section
variable {X:Cx}{pins:U1}{σ:St}{H:Hp}{s:U7}{l b:W9}{xs ys zs:List V}
theorem Inv.lset{its its':U5}{f:Array Value->Array Value}{t':Nat}(I:Inv X pins σ H s)(hH:H l=some (.lst xs))
  (e:s.heap.get? l=some { cls:=.type "list",data:=.seq its.toArray n}) (hf:f its.toArray=its'.toArray) (hv:Vals ys its') (hz:ys.length<=sizeLine):
  Inv X pins σ (upd H l (.lst ys)) {s with heap:=s.heap.update l (Obj.mapSeq f),toks:=t'}:=by
 have q:=PySem.IsL.update e f;rw[hf]at q;refine I.write (x:=l) (e:=l) (by rw[hH];exact trivial) (.inl rfl) (λb' u hb a=>(Rf s.heap (Obj.mapSeq f) (Ne.symm hb)).trans a) ⟨_,q⟩ ?_;exact⟨hz,its',_,hv,q⟩
theorem Inv.lnew{its:U5}{t':Nat}(I:Inv X pins σ H s)(hv:Vals ys its)(hz:ys.length<=sizeLine):
  Inv X pins σ (upd H s.heap.objs.size (.lst ys)) {s with heap:=s.heap.push { cls:=.type "list",data:=.seq its.toArray},toks:=t'} :=
 I.laid (λ_ _ q=>Ef _ q) (Bd _) ⟨hz,its,0,hv,Fj _ rfl⟩
theorem Inv.fresh(I:Inv X pins σ H s):H s.heap.objs.size=none:=I.hok.fresh (Bd _)
theorem Inv.lstM(I:Inv X pins σ H s)(hH:H l=some (.lst xs)):xs.length<=sizeLine/\∃(its:U5) (n:Nat),Vals xs its/\xs.length=its.length/\s.heap.get? l=some { cls:=.type "list",data:=.seq its.toArray n}:=by
 obtain⟨z,its,n,r,e⟩:=I.hok l _ hH;exact⟨z,its,n,r,r.length,e⟩
theorem W4x(h:n<=sizeLine):Builtin.List.listTooLong n=false:=by
 unfold Builtin.List.listTooLong;exact Dh (by lia)
end
section
variable {X:Cx}
def X6x:V->List V->Hp->VK->Prop:=λx vs H Q=>∃l xs y,x=.ref l/\vs=[y]/\H l=some (.lst xs)/\xs.length<sizeLine/\Q .non (upd H l (.lst (xs++[y])))
theorem Qx:MtM X "list.append" X6x:=by
 intro pins s σ H x vs v us Q I c d h;obtain⟨l,xs,y,rfl,rfl,a,f,q⟩:=h;cases c;obtain⟨u,rfl,b⟩:=d.one;obtain⟨z,its,n,r,g,e⟩:=I.lstM a;refine call_meets F.slot_list_append ⟨_,e,U⟩ F.entry_list_append (F.args_list_append_2 _ _) (PySem.list_append l its.toArray n u (by rw[Ep];lia)) ⟨e,?_⟩;refine⟨.non,_,I.lset (its':=its++[u]) a e (by simp) (r.append (.cons b .nil)) ?_,U,q⟩;rw[DP,Qg];lia
def W5i:V->List V->Hp->VK->Prop:=λx vs H Q=>∃l b xs zs,x=.ref l/\vs=[.ref b]/\H l=some (.lst xs)/\H b=some (.lst zs)/\xs.length+zs.length<=sizeLine/\Q .non (upd H l (.lst (xs++zs)))
def bY:R2:=λx y H Q=>∃l b xs zs,x=.ref l/\y=.ref b/\H l=some (.lst xs)/\H b=some (.lst zs)/\xs.length+zs.length<=sizeLine/\∀p,H p=none->Q (.ref p) (upd H p (.lst (xs++zs)))
theorem Ud:Et X (binaryOp .Add) bY:=by
 intro pins s σ H x y v u Q I f c h;obtain⟨l,b,xs,zs,rfl,rfl,g,i,m,q⟩:=h;cases f;cases c;obtain⟨z,its,n,r,p,e⟩:=I.lstM g;obtain⟨t,a,o,d,k,e2⟩:=I.lstM i;refine PySem.P.add_list e e2 ?_ (by rw[Ep,Ep];lia);have j:its.toArray++a.toArray=(its++a).toArray:=by simp
 rw[j];exact⟨.ref _,_,I.lnew (t':=s.toks) (r.append d) (by rw[DP];lia),U,q _ I.fresh⟩
end
section
variable {prog:U8}{w:W1}{A:W6}{E:U2}{s:U7}
end
section
variable {X:Cx}
end
end L2
namespace pR
open PySem.W PySem.Calls
variable{P:Params}{h:Heap}
theorem Z8h:∀(ns:U6) (vs:U5),WellAll P h vs (ns.map WData.int)->IntsAre vs ns:=by
 intro ns;induction ns with
 | nil =>
  intro vs w;rw[Yi]at w;cases w;exact .nil
 | cons n ns ih =>
  intro vs w;rw[FJ]at w;cases w with
  | cons a b =>
   cases a;exact .cons _ _ (ih _ b)
theorem Y8e{l:OpenLaw}{n:Nat}(hn:l.most=some n){args:List WData}{vals:U5}
  (hpre:l.row.toRowW.claim.pre args=true) (hwl:WellAll P h vals args):
  ∃a vs ns,vals=[Value.ref a]/\args=[WData.list (ns.map WData.int)]/\h.get? a=some { cls:=.type "list",data:=.seq vs.toArray}/\IntsAre vs ns/\ns.length<=n:=by
 have f:WShape.hasAll [] args [.list .int]=true:=(pre_splitW hpre).1;have g:l.pre.holds [] { args:=args}=true:=(pre_splitW hpre).2;obtain⟨d,r,rfl,h1,h2⟩:=hasAllW_cons f;obtain rfl:=hasAllW_nil h2;obtain⟨xs,rfl,i⟩:=hasW_list h1;obtain⟨ns,rfl⟩:=items_int i;have b:ns.length<=n:=by
  unfold OpenLaw.pre at g;have c:(WTm.not (.lt (.lit (.int (n:Int))) (.len (.arg 0)))).holds [] { args:=[.list (ns.map .int)]}=true:=by
   have c:=(holds_andW g).1;rw[hn]at c;exact c
  have e:=condW_of c (w_not (w_lt w_lit (w_len_list (w_arg rfl))));rw[Az]at e;refine Nat.le_of_not_lt λq=>?_;have j:(n:Int)<((ns.length:Nat):Int):=by lia
  first
   | (rw[Dr j]at e;exact absurd e (by decide))
   | (simp at e;lia)
 cases hwl with
 | cons w1 w2 =>
  cases w2;cases w1 with
  | list ho hall=>exact⟨_,_,ns,rfl,rfl,ho,Z8h ns _ hall,b⟩
theorem Y8i(l:OpenLaw)(args:List WData):l.row.toRowW.claim.post args (.bool true) args=true :=
 postW_of (r:=l.row.toRowW) (X:=(true == true))
  (show WShape.has [] (.bool true) .bool=true by first | rfl | decide | simp[WShape.has,WShape.arms,WShape.armsAll])
  (show (WTm.eq .res (.lit (.bool true))).value [] { args:=args,res:=some (.bool true),after:=args}=some (.bool (true == true)) from w_eq_bool (w_res rfl) w_lit) rfl
section
variable {prog:U8}{w:W1}{A:W6}{E:U2}{s:U7}{K:Frag}
end
end pR
namespace L2
theorem Zk:∀{vs:U5}{ns:U6},IntsAre vs ns->Vals (ns.map V.int) vs
 | _,_,.nil=>.nil
 | _,_,.cons n t h=>.cons ⟨t,rfl⟩ (Zk h)
def Only (H:Hp):Prop:=∀b,H b=none\/∃o xs,H b=some (.frz o (.lst xs))
theorem X3l{P:U8}{w:W1}{K:U0}{mg mb:U4}{CX:N7}{k:Nat}{fa a:W9}{fd:FuncData}{x:Str}{sp:Sp}{s₁:U7}{vs:U5}{ns:U6}
  (KX:K.In s₁.heap) (hns:s₁.heap.Ns mainGlobals mg) (hb:s₁.heap.Ns builtinsNs mb) (hbb:∀x:Str,x≠"__name__"->mb x=bootBuiltins x) (hlim:s₁.heap.NoLimit) (hg:s₁.gens=#[])
  (ha:s₁.heap.get? a=some { cls:=.type "list",data:=.seq vs.toArray}) (hi:IntsAre vs ns) (hl:ns.length<=sizeLine) (hr:Cg k callerA)
  (F:∀base:Heap,K.In base->base.Ns mainGlobals mg->Ec P w K mg base CX k fa fd [x] sp) (hbind:∀(s:U7) (u:W2),BindsTo s fd ⟨[u],[]⟩ [(x,u)])
  (hsp:∀H:Hp,Only H->Ag K H a (ns.map V.int)->sp [.ref a] H (λv _=>v=.bl true) λ_ _ _=>False)
  (hCX:∀H e s',CX [] H s₁ (λ_ _ _=>False) e s'->False):
  codeAny (model P w) callerA (.call (.ref fa) ⟨[.ref a],[]⟩) (λr s'=>r=.ok (.ret (.bool true))/\OldK s₁.heap s'.heap/\s'.os=s₁.os/\AllBare s'.gens) s₁:=by
 have E:=Zk hi;have t:=hi.length;have g:∀H:Hp,Only H->Ag K H a (ns.map V.int)->Ez P w H s₁.heap->(∀b,H b≠none->b=a)->(H a≠none->K.lookup a=none) ->
   codeAny (model P w) callerA (.call (.ref fa) ⟨[.ref a],[]⟩) (λr s'=>r=.ok (.ret (.bool true))/\OldK s₁.heap s'.heap/\s'.os=s₁.os/\AllBare s'.gens) s₁:=by
  intro H C Q i D M;have c:∀{b:W9}{o:Obj},s₁.heap.get? b=some o->H b=none->(Iw s₁.heap H).get? b=some o:=λe n=>X3q e n;have B:∀{b:W9}{o:Obj}{es:Array DictEntry}{ep:Nat},s₁.heap.get? b=some o->o.data=.dict es ep->H b=none:=λ{b o es ep} e d=>by
   cases q:H b with
   | none=>rfl
   | some u =>
    have A:b=a:=D b (by rw[q];simp);subst A;rw[ha]at e;cases e;have d':Data.seq vs.toArray _=Data.dict es ep:=d;cases d'
  have f:∀{b:W9}{m:U4},s₁.heap.Ns b m->(Iw s₁.heap H).Ns b m:=λ{b m} ⟨o,es,ep,e,d,r⟩=>⟨o,es,ep,c e (B e d),d,r⟩
  have y:K.In (Iw s₁.heap H):=λb o e=>c (KX b o e) (by
   cases q:H b with
   | none=>rfl
   | some u =>
    have A:b=a:=D b (by rw[q];simp)
    subst A
    rw[M (by rw[q];simp)]at e;cases e)
  have N:Mod K mg (Iw s₁.heap H):=⟨y,f hns,⟨mb,f hb,hbb⟩,let ⟨mc,h1,h2⟩:=hlim;⟨mc,f h1,h2⟩⟩;have I:QJ P w K mg (Iw s₁.heap H) callerA [] s₁ H:=⟨U,N,λb o e=>X8c e,Nat.le_of_eq (X0l _ _),trivial,λb hb=>absurd (show b∈([]:U3) from hb) (by simp),i,.of_eq hg⟩;refine V5 ((F _ y (f hns)).run callerA [] s₁ H ⟨[.ref a],[]⟩ [.ref a] [.ref a] _ _ hr I (hbind s₁ (.ref a)) (.cons rfl .nil) (hsp H C Q)) λr s' h=>?_;cases r with
  | error e=>exact(hCX H e s' h).elim
  | ok fl =>
   cases fl with
   | next=>exact False.elim h
   | brk=>exact False.elim h
   | cont=>exact False.elim h
   | ret u =>
    obtain⟨v,H',os,l,un,j,L,q⟩:=h;have J:v=.bl true:=q;subst J;obtain rfl:u=Value.bool true:=L;refine⟨U,OldK.of_keep λb o e=>?_,os,l⟩;cases q:H b with
    | none=>exact un.keep b o e q (by intro z;exact absurd (show b∈([]:U3) from z) (by simp)) (by simp)
    | some u =>
     rcases C b with z | ⟨ob,xs,z⟩
     ·rw[q]at z;cases z
     ·have O:=un.frzs b ob _ z;obtain⟨G,_⟩:=i b _ z;obtain⟨e2,_⟩:=j b _ O;rw[e]at G;cases G;exact e2
 cases hk:K.lookup a with
 | some o =>
  have e:=KX a o hk;rw[ha]at e;cases e;refine g (λ_=>none) (λ_=>.inl rfl) (.inr ⟨_,vs.toArray,_,hk,U,U,U,by rw[Ep,t];exact hl,by simpa using E⟩) (λb u z=>by have p:(none:Option HO)=some u:=z;cases p) (λb z=>absurd rfl z) λz=>absurd rfl z
 | none =>
  refine g (λb=>if b=a then some (.frz { cls:=.type "list",data:=.seq vs.toArray} (.lst (ns.map V.int))) else none) (λb=>?_) (.inl (.inr ⟨{ cls:=.type "list",data:=.seq vs.toArray},if_pos rfl⟩)) (λb u z=>?_) (λb z=>?_) λ_=>hk
  ·by_cases hb:b=a
   ·exact .inr ⟨_,_,if_pos hb⟩
   ·exact .inl (if_neg hb)
  ·by_cases hb:b=a
   ·have p:=(if_pos hb).symm.trans z;cases p;subst hb;exact⟨ha,by rw[Az];exact hl,vs,_,E,ha⟩
   ·have p:=(if_neg hb).symm.trans z;cases p
  ·by_cases hb:b=a
   ·exact hb
   ·exact absurd (if_neg hb) z
end L2
namespace L2
noncomputable def Oj (s:Stmt)(j:Nat):Stmt:=match s with
 | .ClassDef _ _ _ body _ _ _ _ _ _ _=>body.getD j (.Pass ⟨0,0,0,0⟩)
 | _=>.Pass ⟨0,0,0,0⟩
noncomputable def Hh (s:Stmt):Arguments:=match s with
 | .FunctionDef _ a _ _ _ _ _ _ _ _=>a
 | _=>{ posonlyargs:=[],args:=[],vararg:=none,kwonlyargs:=[],kw_defaults:=[],kwarg:=none,defaults:=[]}
noncomputable def Gq (s:Stmt):List Stmt:=match s with
 | .FunctionDef _ _ b _ _ _ _ _ _ _=>b
 | _=>[]
noncomputable def Dy (s:Stmt):Scope:=match s with
 | .FunctionDef _ _ _ _ _ _ sc _ _ _=>sc
 | _=>{ kind:=.function,names:=[],isGenerator:=false,isCoroutine:=false}
noncomputable abbrev N8:N7:=λ_ _ _ _ _ _=>False
abbrev E0:XK:=λ_ _ _=>False
theorem Qk{X:Cx}:Passes N8 X E0:=λ_ _ _ _ _ _ _ h=>h.elim
structure au (K:U0) (x qual:Str) (st:Stmt) (f:W9) (fd:FuncData):Prop where
 ex:∃(oc:W2) (od:W5) (kV doc pm:W2) (an:W5) (cdv ct:W2) (osl:W4),
  fd=PySem.W.fnOf x qual (Hh st) (Gq st) (Dy st) .none kV doc pm an cdv ct/\K.lookup f=some ⟨oc,od,.func fd,osl⟩/\PySem.W.codeIn K cdv qual=true
 kp:PySem.W.keepIn K (.ref f)=true
section
variable {P:U8}{w:W1}{K:U0}{mg:U4}{base:Heap}
variable{qual:Str}{f:W9}
theorem au.ok{x:Str}{st:Stmt}{fd:FuncData}{N ps:W0}{k:Nat}{sp:Sp}(F:au K x qual st f fd)(S:CW N ps (Dy st))(len:∀vs H Q E,sp vs H Q E->vs.length=ps.length)
  (hbody:∀(a:W2) (A:W6) (outer:List Env) (s:U7) (H:Hp) (vs:List V) (Q:VK) (E:XK),Cg k (A.deeper (envOfC qual (Dy st) s.heap.objs.size f a))->sp vs H Q E ->
   ∃t,Ii (Hr N8 P w K mg base N qual (Dy st) f a A outer s H E).nox (Gq st) t/\t { nx:=λ_ H'=>Q .non H',rt:=Q} (start N vs) H):Ec P w K mg base N8 (k+1) f fd ps sp:=by
 obtain⟨j,od,kV,i,pm,l,a,ct,e,rfl,d,c⟩:=F.ex;refine oJ d c S len λA outer s H vs Q E g b=>?_;obtain⟨t,h,q⟩:=hbody a A outer s H vs Q E g b;exact⟨t,h.nox,q⟩
theorem W3w{x:Str}{st:Stmt}{oc:W2}{od an:W5}{osl:W4}{kV doc pm cdv ct:W2}(l:K.lookup f=some ⟨oc,od,.func (PySem.W.fnOf x qual (Hh st) (Gq st) (Dy st) .none kV doc pm an cdv ct),osl⟩)
  (c:PySem.W.codeIn K cdv qual=true) (k:PySem.W.keepIn K (.ref f)=true):au K x qual st f (PySem.W.fnOf x qual (Hh st) (Gq st) (Dy st) .none kV doc pm an cdv ct):=⟨⟨oc,od,kV,doc,pm,an,cdv,ct,osl,U,l,c⟩,k⟩
end
theorem Sw{A:W6}{k:Nat}(hr:Cg k A):A.units+1<cLine:=Yz (Nat.add_le_add_left (by decide:1<=64) _) hr.units
section
variable {X:Cx}
theorem pv(i:Nat){x:Str}{pos:Pos}(hN:X.N[i]?=some x:=by rfl)(hv:YD X.env.scope x:=by first | exact Or.inl rfl | exact Or.inr (Or.inl rfl) | exact Or.inr (Or.inr rfl))(hd:(x == ("__debug__":Str))=false:=by decide)
  (hcd:(x == ("__classdict__":Str))=false:=by decide):PE X (.Name x pos) (Va i):=W1t hN hv hd hcd
end
theorem CQ{A B:Prop}(h:B):if false=true then A else B:=by
 rw[if_neg GJ];exact h
theorem Dc{A B:Prop}(h:A):if true=true then A else B:=by
 rw[if_pos rfl];exact h
def Same (H H':Hp):Prop:=∀b o,H b=some o->H' b=some o
theorem Same.refl(H:Hp):Same H H:=λ_ _ h=>h
variable{H:Hp}
theorem Same.trans{H1 H2:Hp}(a:Same H H1)(b:Same H1 H2):Same H H2:=λc o h=>b c o (a c o h)
theorem Same.free{H':Hp}(e:Same H H'){l:W9}(h:H' l=Option.none):H l=Option.none:=by
 cases q:H l with
 | none=>rfl
 | some o =>
  rw[e l o q]at h;cases h
theorem Same.seq{K:U0}{H':Hp}{a:W9}{xs:List V}(e:Same H H')(h:Ag K H a xs):Ag K H' a xs:=by
 rcases h with (h | ⟨o,h⟩) | h
 ·exact .inl (.inl (e _ _ h))
 ·exact .inl (.inr ⟨o,e _ _ h⟩)
 ·exact .inr h
end L2
set_option maxHeartbeats 4000000
namespace L2
def Sz (k:Nat)(x:Int):Prop:=x.natAbs<2^k
instance (k:Nat) (x:Int):Decidable (Sz k x):=by unfold Sz;infer_instance
variable{j:Nat}{x:Int}
theorem Sz.mono{k:Nat}(h:Sz j x)(hjk:j<=k):Sz k x:=Cu h (Fw (by decide) hjk)
variable{y:Int}
theorem Sz.le{k:Nat}(h:Sz k x)(hy:y.natAbs<=x.natAbs):Sz k y:=Yz hy h
theorem Sz.mul{k:Nat}(h:Sz j x)(h':Sz k y):Sz (j+k) (x*y):=by
 unfold Sz at *;rw[Int.natAbs_mul,RJ];exact Nat.mul_lt_mul'' h h'
theorem Sz.neg{k:Nat}(h:Sz k x):Sz k (-x):=by unfold Sz at *;rwa [Int.natAbs_neg]
theorem Sz.add{k:Nat}(h:Sz j x)(h':Sz k y):Sz (max j k+1) (x+y):=by
 have h1:=h.mono (Nat.le_max_left j k);have h2:=h'.mono (Nat.le_max_right j k);unfold Sz at *;rw[Mt];have:=Int.natAbs_add_le x y;lia
theorem Sz.sub{k:Nat}(h:Sz j x)(h':Sz k y):Sz (max j k+1) (x-y):=by
 have:=h.add h'.neg;rwa [<-Int.sub_eq_add_neg]at this
theorem Sz.bits{k:Nat}(h:Sz k x):Builtin.Int.intBits x<=k:=by
 unfold Builtin.Int.intBits;split
 ·exact Ed _
 ·rename_i hx;have a:x≠0:=by simpa using hx
  have b:x.natAbs≠0:=by lia
  exact(RG b).mpr h
theorem Sz.log2{k:Nat}(h:Sz k x)(hk:0<k):x.natAbs.log2<k:=by
 by_cases hn:x.natAbs=0
 ·rw[hn];simpa using hk
 ·exact(RG hn).mpr h
def YX (_i j:Int):Prop:=j≠0/\Sz 9000 j
section
variable {X:Cx}
theorem vK:Et X (binaryOp .FloorDiv) (rI YX λi j=>.int (i.fdiv j)):=Rk λ_ _ _ _ _ _ _ a q=>floordiv_int a.1 q (.inl (PyProof.noPylong_of_log2 (a.2.log2 (by decide))))
theorem Xy{h:Heap}{a:W9}{vs:U5}{ns:U6}(hl:IsTup h a vs.toArray)(hi:IntsAre vs ns):Reads h (.ref a) (.tuple (ns.map PyData.int)) []:=by
 obtain⟨o,b,c,n,hd⟩:=hl;exact Reads.tuple b c hd (by simpa using PySem.W.readsAll_of_ints hi)
theorem Zu(ns:U6):SeqAt.shaped (.tuple (ns.map PyData.int))=true:=by
 have h1:=qH ns;have h2:PyData.depth (.tuple (ns.map PyData.int))<=64:=by simp only[PyData.depth];lia
 show (PyData.canLay0 (.tuple (ns.map PyData.int)) && decide (PyData.depth (.tuple (ns.map PyData.int))<=64))=true;rw[GF];exact⟨by simp only[PyData.canLay0];exact qU ns,Dr h2⟩
def Mq (K:U0)(neg:Bool):R2:=λx y H Q=>∃(a b:W9) (ns ms:U6),x=.ref a/\y=.ref b/\Ai K H a (ns.map V.int)/\Ai K H b (ms.map V.int)/\Q (.bl (if neg then !decide (ns=ms) else decide (ns=ms))) H
theorem X7i(hu:X.A.units+64<cLine):Et X (compareOp .Eq) (Mq X.K false):=by
 intro pins s σ H x y v u Q I e d h;obtain⟨a,b,ns,ms,rfl,rfl,h1,h2,q⟩:=h;cases e;cases d;obtain⟨its,g,p,_⟩:=I.tuple h1;obtain⟨its',c,f,_⟩:=I.tuple h2;refine eq_dataH_same (Xy p (Nr g)) (Xy f (Nr c)) (Zu ns) (Zu ms) hu (by simp only[SeqAt.noMix];exact fV ns ms) ?_;refine⟨.bl (decide (ns=ms)),H,I,?_,q⟩;show _=_;simp only[PySem.Spec.same];rw[fO]
theorem ZQ(hu:X.A.units+64<cLine):Et X (compareOp .NotEq) (Mq X.K true):=by
 intro pins s σ H x y v u Q I e d h;obtain⟨a,b,ns,ms,rfl,rfl,h1,h2,q⟩:=h;cases e;cases d;obtain⟨its,g,p,_⟩:=I.tuple h1;obtain⟨its',c,f,_⟩:=I.tuple h2;refine ne_dataH_same (Xy p (Nr g)) (Xy f (Nr c)) (Zu ns) (Zu ms) hu (by simp only[SeqAt.noMix];exact fV ns ms) ?_;refine⟨.bl (!decide (ns=ms)),H,I,?_,q⟩;show _=_;simp only[PySem.Spec.same];rw[fO]
theorem J_:CP X (.builtin "isinstance") (λxs H Q=>∃x T t b,xs=[x,.ty T]/\Bj X.K H x t/\PySem.W.kitOne X.K t (.type T)=some b/\Q (.bl b) H):=by
 intro pins s σ H xs us Q I r h;obtain⟨x,T,t,b,rfl,ty,e,q⟩:=h;obtain⟨u,v,rfl,a,c⟩:=r.two;cases c;exact X0f I a ty e λtk=>⟨.bl b,H,I.tok tk,U,q⟩
end
section
variable {prog:U8}{w:W1}{A:W6}{E:U2}
end
section
variable {X:Cx}{pos:Pos}
end
section
variable {X:Cx}{tg:Expr}
end
end L2
namespace L2
theorem rC{α β:Type}{f:α->β->Sem (ForInStep β)}{g:β->α->β}:∀(l:List α) (b:β),(∀x∈l,∀b,f x b=pure (.yield (g b x)))->forIn l b f=pure (l.foldl g b)
 | [],b,_=>rfl
 | x::r,b,h=>by
  rw[List.forIn_cons,h x Mz b,pure_bind];exact rC r (g b x) λy a=>h y (KZ _ a)
noncomputable def Jz (cells:List (Str×Addr))(cs:List (Str×Addr))(x:Str×NameKind):List (Str×Addr):=if x.2 == .free then (x.1,(cells.lookup x.1).getD 0)::cs else cs
noncomputable def clo (names:List (Str×NameKind))(cells:List (Str×Addr)):List (Str×Addr):=names.foldl (Jz cells) []
variable{env:Env}
theorem Zm{scope:Scope}(h:∀x∈scope.names,x.2=.free->∃c,env.cells.lookup x.1=some c):closureFor scope env=pure (clo scope.names env.cells):=by
 simp only[closureFor];unfold clo
 rw[rC (g:=Jz env.cells) scope.names [] (λx d b=>by
  obtain⟨n,k⟩:=x
  unfold Jz
  by_cases hk:k=.free
  ·subst hk
   obtain⟨c,e⟩:=h (n,.free) d rfl
   have a:env.cells.lookup n=some c:=e
   simp[cellOf,a]
  ·have hb:(k == NameKind.free)=false:=by simpa using hk
   simp[hb])]
 rfl
variable{x:Str}{c:W9}
theorem sO{n:Str}{l:List (Str×Addr)}:List.lookup x ((n,c)::l)=if x=n then some c else List.lookup x l:=by
 by_cases h:x=n
 ·subst h;rw[if_pos rfl,List.lookup_cons_self]
 ·rw[if_neg h,WT];have:(x == n)=false:=by simpa using h
  rw[this]
theorem yx{cells:List (Str×Addr)}:∀(names:List (Str×NameKind)) (cs:List (Str×Addr)),(∀x∈names,x.2=.free->∃c,cells.lookup x.1=some c)->(∀x c,cs.lookup x=some c->cells.lookup x=some c) ->
  ∀x c,(names.foldl (Jz cells) cs).lookup x=some c->cells.lookup x=some c
 | [],cs,_,h0=>h0
 | (n,k)::r,cs,h,h0=>by
  refine yx r _ (λy b=>h y (KZ _ b)) λx c e=>?_;unfold Jz at e;by_cases hk:k=.free
  ·subst hk;obtain⟨c',a⟩:=h (n,.free) Mz rfl;simp only[beq_self_eq_true,JC]at e;rw[sO]at e;have a:cells.lookup n=some c':=a;by_cases hx:x=n
   ·subst hx;rw[if_pos rfl,a]at e;rw[a];exact e
   ·rw[if_neg hx]at e;exact h0 x c e
  ·have hb:(k == NameKind.free)=false:=by simpa using hk
   simp only[hb,Mx,HY]at e;exact h0 x c e
theorem nY{cells:List (Str×Addr)}:∀(names:List (Str×NameKind)) (cs:List (Str×Addr)) (x:Str),((x,NameKind.free)∈names\/∃c,cs.lookup x=some c)->∃c,(names.foldl (Jz cells) cs).lookup x=some c
 | [],cs,x,h=>by
  rcases h with h | h
  ·cases h
  ·exact h
 | (n,k)::r,cs,x,h=>by
  refine nY r _ x ?_;unfold Jz;by_cases hk:k=.free
  ·subst hk;simp only[beq_self_eq_true,JC];rw[sO];by_cases hx:x=n
   ·exact .inr ⟨_,if_pos hx⟩
   ·rw[if_neg hx];rcases h with h | h
    ·rcases Dg.mp h with h | h
     ·exact absurd (congrArg Prod.fst h) hx
     ·exact .inl h
    ·exact .inr h
  ·have hb:(k == NameKind.free)=false:=by simpa using hk
   simp only[hb,Mx,HY];rcases h with h | h
   ·rcases Dg.mp h with h | h
    ·exact absurd (congrArg Prod.snd h).symm hk
    ·exact .inl h
   ·exact .inr h
structure BW (N:W0) (osc sc:Scope) (Nc:W0) (mp:W7):Prop where
 kind:sc.kind=.function
 nocell:∀y∈sc.names,y.2≠.cell
 names:∀y∈sc.names,y.2=.local->sc.names.lookup y.1=some .local
 free:∀y∈sc.names,y.2=.free->osc.names.lookup y.1=some .cell\/osc.names.lookup y.1=some .free
 len:mp.length=Nc.length
 map:∀(i j:Nat),mp[i]?=some (some j)->∃x,Nc[i]?=some x/\N[j]?=some x/\sc.names.lookup x=some .free
noncomputable def Qn (N:W0)(osc sc:Scope)(Nc:W0)(mp:W7):Bool :=
 decide (sc.kind=.function) && sc.names.all (λy=>!decide (y.2=.cell) && (!decide (y.2=.local) || decide (sc.names.lookup y.1=some .local)) &&
  (!decide (y.2=.free) || decide (osc.names.lookup y.1=some .cell) || decide (osc.names.lookup y.1=some .free))) &&
 decide (mp.length=Nc.length) && (List.range mp.length).all λi=>match mp[i]? with
  | some (some j)=>match Nc[i]? with
   | some x=>decide (N[j]?=some x) && decide (sc.names.lookup x=some .free)
   | none=>false
  | _=>true
variable{sc:Scope}{mp:W7}
theorem BW.of{N:W0}{osc:Scope}{Nc:W0}(h:Qn N osc sc Nc mp=true):BW N osc sc Nc mp:=by
 unfold Qn at h;simp only[GF,Jk,Gz,RT,Bool.not_eq_true',decide_eq_false_iff_not]at h;obtain⟨⟨⟨h1,h2⟩,c⟩,b⟩:=h;refine⟨h1,λy a=>(h2 y a).1.1,λy a e=>?_,λy a e=>?_,c,λi j e=>?_⟩
 ·rcases (h2 y a).1.2 with q | q
  ·exact absurd e q
  ·exact q
 ·rcases (h2 y a).2 with (q | q) | q
  ·exact absurd e q
  ·exact .inl q
  ·exact .inr q
 ·have hi:i<mp.length:=(Fe.mp e).1;have q:=b i (Ew.mpr hi);rw[e]at q;cases hx:Nc[i]? with
  | none=>rw[hx]at q;simp at q
  | some x =>
   rw[hx]at q;simp only[GF,Jk]at q;exact⟨x,U,q.1,q.2⟩
theorem sS{f:Str×NameKind->Str×NameKind}(h1:∀p,(f p).1=p.1)(h2:∀p,p.2=.free->(f p).2=.cell\/(f p).2=.free):∀{names:List (Str×NameKind)}{x:Str},names.lookup x=some .free->(names.map f).lookup x=some .cell\/(names.map f).lookup x=some .free
 | [],_,h=>by simp at h
 | (n,k)::r,x,h=>by
  have l:=@sS f h1 h2 r x;rw[FJ];have c:=h1 (n,k);have g:=h2 (n,k);generalize f (n,k)=z at c g;obtain⟨d,i⟩:=z;have a:d=n:=c;subst a;cases hx:x == d with
  | true =>
   rw[WT,hx]at h;have j:k=.free:=by simpa using h
   rw[WT,hx];rcases g j with e | e
   ·have b:i=.cell:=e;subst b;exact .inl rfl
   ·have b:i=.free:=e;subst b;exact .inr rfl
  | false =>
   rw[WT,hx]at h;rw[WT,hx];exact l h
variable{names:List (Str×NameKind)}
theorem Z5p(h:names.lookup x=some .free):
  (names.map λ(n,k)=>if (k == NameKind.free && env.scope.kind == .function && env.kindOf n == some .cell) then (n,NameKind.cell) else (n,k)).lookup x=some .cell \/
  (names.map λ(n,k)=>if (k == NameKind.free && env.scope.kind == .function && env.kindOf n == some .cell) then (n,NameKind.cell) else (n,k)).lookup x=some .free:=by
 refine sS (λp=>?_) (λp hp=>?_) h
 ·obtain⟨n,k⟩:=p;dsimp only;split<;>rfl
 ·obtain⟨n,k⟩:=p;dsimp only;split
  ·exact .inl rfl
  ·exact .inr hp
theorem rQ{k':NameKind}(hc:∀y∈names,y.2≠.cell)(hk:k'=.cell\/k'=.free)
  (h:(names.map λ(n,k)=>if (k == NameKind.free && env.scope.kind == .function && env.kindOf n == some .cell) then (n,NameKind.cell) else (n,k)).lookup x=some k'):(x,NameKind.free)∈names:=by
 have m:=Ra h;obtain⟨⟨n,k⟩,hm,e⟩:=El.mp m;dsimp only at e;by_cases hf:k=.free
 ·subst hf;have a:n=x:=by
   by_cases hc':(NameKind.free == NameKind.free && env.scope.kind == .function && env.kindOf n == some .cell)=true
   ·rw[if_pos hc']at e;exact congrArg Prod.fst e
   ·rw[if_neg hc']at e;exact congrArg Prod.fst e
  exact a ▸ hm
 ·have hb:(k == NameKind.free)=false:=by simpa using hf
  simp only[hb,RN,Mx,HY]at e;cases e;rcases hk with z | z
  ·exact absurd z (hc _ hm)
  ·exact absurd z hf
noncomputable def Bw (X:Cx)(scope:Scope)(Nc:W0)(ex:U3)(pins:U1)(s:U7)(H:Hp):Cx where
 prog:=X.prog
 w:=X.w
 K:=X.K
 mg:=X.mg
 base:=X.base
 A:=X.A
 N:=Nc
 s₀:=s
 H₀:=H
 env:=compEnvC scope (clo scope.names X.env.cells) s.heap.objs.size X.env
 outer:=X.stack
 stack:=X.stack
 ex:=ex
 fn:=λ_=>false
 calm:=X.calm
 pn:=X.pn++pins
 xe:=λ_ _=>False
noncomputable def sub (mp:W7)(σ:St):St:=mp.map λo=>match o with | some j=>(σ[j]?).join | none=>none
theorem X6o{σ:St}{i:Nat}{v:V}(h:(sub mp σ)[i]?=some (some v)):∃j,mp[i]?=some (some j)/\σ[j]?=some (some v):=by
 unfold sub at h;rw[Bu]at h;cases e:mp[i]? with
 | none=>rw[e]at h;cases h
 | some o =>
  rw[e]at h;cases o with
  | none=>cases h
  | some j =>
   refine⟨j,U,?_⟩;have h':(σ[j]?).join=some v:=Option.some.inj h;cases q:σ[j]? with
   | none=>rw[q]at h';cases h'
   | some z=>rw[q]at h';exact congrArg some h'
section
variable {X:Cx}{pins:U1}{σ:St}{H:Hp}{s:U7}{scope:Scope}{Nc:W0}{mp:W7}{fp:U3}
theorem Xk(I:Inv X pins σ H s)(S:BW X.N X.env.scope scope Nc mp):∀x∈scope.names,x.2=.free->∃c,X.env.cells.lookup x.1=some c:=λx a e =>
 I.ok.has x.1 (S.free x a e)
theorem Qt(I:Inv X pins σ H s)(S:BW X.N X.env.scope scope Nc mp)(h:(clo scope.names X.env.cells).lookup x=some c):X.env.cells.lookup x=some c :=
 yx scope.names [] (Xk I S) (λ_ _ e=>by cases e) x c h
theorem W5t(I:Inv X pins σ H s)(S:BW X.N X.env.scope scope Nc mp)(hf:∀b∈fp,Dl X pins H b)(hl:∀b∈fp,b<s.heap.objs.size):(Bw X scope Nc fp pins s H).Ok where
 mod:=I.ok.mod
 kind:=S.kind
 glob:=I.ok.glob
 blt:=I.ok.blt
 above:=Bd _
 inj:=λx y c a e2=>I.ok.inj x y c (Qt I S a) (Qt I S e2)
 has:=λx h=>by
  have hm:(x,NameKind.free)∈scope.names:=by
   rcases h with h | h
   ·exact rQ S.nocell (.inl rfl) h
   ·exact rQ S.nocell (.inr rfl) h
  exact nY scope.names [] x (.inl hm)
 cab:=λx c h _=>by cases h
 hd:=I.ok.hd
 frames:=I.ok.frames
 stk:=.inl rfl
 exf:=λb hb=>⟨DY (hl b hb),λx c e=>(hf b hb).2.2.2.2.1 x c (Qt I S e)⟩
 bs:=I.bs
 bsz:=E_ I.ok.bsz I.sz
 noex:=λb o e hb=>by
  rcases (hf b hb).2.2.2.1 with z | z
  ·exact I.ok.noex b o e z
  ·exact absurd (Cu (CN e) (E_ I.ok.bsz z)) (Mu _)
 exfs:=λb hb z=>by
  rcases Dg.mp (I.stkSub b z) with e | e
  ·exact(hf b hb).2.1 e
  ·exact(hf b hb).2.2.1 e
 funs:=I.stack
 frf:=I.stkFree
theorem u9(I:Inv X pins σ H s)(S:BW X.N X.env.scope scope Nc mp)(hf:∀b∈fp,Dl X pins H b)(hl:∀b∈fp,b<s.heap.objs.size){h₁:Heap}{m:U4}{tk:Nat}
  (hn:h₁.Ns s.heap.objs.size m) (k:∀b o,s.heap.get? b=some o->h₁.get? b=some o):Inv (Bw X scope Nc fp pins s H) [] (sub mp σ) H {s with heap:=h₁,toks:=tk}:=by
 refine⟨W5t I S hf hl,U,I.bare,Un.kept k,⟨m,hn,λi x v L e2 _=>?_⟩,λx c e=>?_,I.hok.fresh (Bd _),λx c e=>I.freeC x c (Qt I S e),λp hp=>?_,I.hok.kept k,?_⟩
 ·obtain⟨j,C,K⟩:=X6o e2;obtain⟨y,A,G,w⟩:=S.map i j C;have t:Nc[i]?=some x:=L;rw[t]at A;cases A;have hm:=Ra w;have f:YD X.env.scope x:=.inr (S.free _ hm rfl);obtain⟨M,_,a⟩:=I.loc;obtain⟨u,E,F⟩:=a j x v G K f;refine⟨u,E,.inr ⟨Z5p w,?_⟩⟩;obtain⟨c,B⟩:=nY (cells:=X.env.cells) scope.names [] x (.inl hm);have l:=Qt I S B;rcases F with ⟨z,_⟩ | ⟨_,c',z,q⟩
  ·rcases S.free _ hm rfl with z' | z'<;>(have h:X.env.scope.names.lookup x=some .local:=z;rw[h]at z';cases z')
  ·rw[l]at z;cases z;obtain⟨o,r,hd⟩:=q;exact⟨c,B,o,k c o r,hd⟩
 ·obtain⟨v,o,r,hd⟩:=I.cell x c (Qt I S e);exact⟨v,o,k c o r,hd⟩
 ·have g:p∈X.pn++pins:=by
   have:p∈(X.pn++pins)++[]:=hp;simpa using this
  obtain⟨e,n,D,J,d⟩:=I.pin p g;refine⟨k _ _ e,n,DY (CN e),λz=>?_,d⟩;rcases Dg.mp (I.stkSub p.1 z) with q | q
  ·exact D q
  ·exact J q
 ·show (sub mp σ).length=Nc.length;unfold sub;rw[Az];exact S.len
theorem xV(I:Inv X pins σ H s)(hf:∀b∈fp,Dl X pins H b){σ':St}{H':Hp}{s':U7}{pl:U1}(J:Inv (Bw X scope Nc fp pins s H) pl σ' H' s'):Inv X pins σ H' s' :=
 I.call' J.os J.base J.hok J.bare λb hb=>⟨(hf b hb).2.2.2.1,(hf b hb).2.1,(hf b hb).2.2.2.2.1,(hf b hb).2.2.2.2.2⟩
theorem Inv.turnedNew(I:Inv X pins σ H s){C:W9}{h':Heap}{t':Nat}(k:∀b o,b≠C->s.heap.get? b=some o->h'.get? b=some o)(hn:H C=none)(h1:X.s₀.heap.objs.size<=C)
  (hL:C≠X.env.locals) (hc:∀x c,X.env.cells.lookup x=some c->c≠C) (hp:∀p∈X.pn++pins,p.1≠C):Inv X pins σ H {s with heap:=h',toks:=t'} :=
 I.turned k hn hL (.inr h1) hc hp
end
section
variable {M:Model}{A:W6}{E:U2}
abbrev Calm:Value->Shared->Prop:=λ_ _=>False
theorem Ek{α β:Type}{m:Sem α}{f:α->Sem β}{P:α->Shared->Prop}{Q:β->Shared->Prop}{s:U7}(h:wpAny M A m P Calm s)(k:∀x s',P x s'->wpAny M A (f x) Q E s'):wpAny M A (m >>= f) Q E s :=
 Aw (GD h k λ_ _ z=>z.elim)
end
theorem Y0k{prog:U8}{w:W1}{A:W6}{R:Result->Shared->Prop}{s:U7}{e t i:Expr}{pos:Pos}{it acc:W2}(J:Nat->Shared->Prop)
  (turn:∀n s,J n s->wpAny (model prog w) A (pyNext it) (λr a=>(r=none->R (.ok .next) a)/\∀v,r=some v ->
   wpAny (model prog w) A (letOwnedTupleGo t it v) (λ_ s2=>wpAny (model prog w) A (assign t env v) (λ_ s3=>wpAny (model prog w) A (eval e env) (λx s4 =>
    wpAny (model prog w) A (call (.builtin "list.append") [acc,x]) (λ_ b=>∃m,m<n/\J m b) Calm s4) Calm s3) Calm s2) Calm a) Calm s)
  (n:Nat) (h:J n s):codeAny (model prog w) A (.compLoop (.ListComp e [⟨t,i,[],0⟩] sc pos) 0 it acc env) R s:=by
 have g:=compTurn_list1 e t i sc pos it acc env;refine codeAny_loop rfl J (λn s j=>wpAny_noted (m:=compTurn (.ListComp e [⟨t,i,[],0⟩] sc pos) 0 it acc env) ?_) n h;rw[g];refine Aw (RM (Ek (turn n s j) λr a q=>?_));match r,q with
 | none,q=>exact Bl (q.1 rfl)
 | some v,q=>exact Ek (q.2 v rfl) λ_ s2 c=>Ek c λ_ s3 d=>Aw (Ek d λx s4 f=>Ek f λ_ b k=>Bl (Bl ⟨rfl,k⟩))
def KH (J:It)(g:TG)(te:TE)(σ:St)(H:Hp)(acc:W9)(Q:VK):Prop:=∃W:Nat->Nat->List V->St->Hp->Prop,(∃m,W 0 m [] σ (upd H acc (.lst []))) /\
 ∀i m ys σ2 H2,W i m ys σ2 H2->(J.stop i H2/\Q (.ref acc) H2)\/(J.go i H2/\∀x H3,J.yld i H2 x H3->g x σ2 H3 λσ4 H4=>te σ4 H4 λy H5 =>
  H5 acc=some (.lst ys)/\ys.length<sizeLine/\∃m',m'<m/\W (i+1) m' (ys++[y]) σ4 (upd H5 acc (.lst (ys++[y]))))
def p7 (mp:W7)(wi:TI)(g:TG)(te:TE):TE:=λσ H Q=>wi σ H λJ H1=>∀acc,H1 acc=none->KH J g te (sub mp σ) H1 acc Q
section
variable {X:Cx}{elt tg iter:Expr}{scope:Scope}{pos:Pos}{wi:TI}{g:TG}{te:TE}{Nc:W0}{mp:W7}
noncomputable abbrev Eb (s:U7):Shared:={s with heap:=s.heap.push { cls:=.type "list",dict:=none,data:=.seq ([]:U5).toArray}}
theorem xW(hc:X.calm=true)(S:BW X.N X.env.scope scope Nc mp)(hg:∀ex pins s H,PG (Bw X scope Nc ex pins s H) tg g)(he:∀ex pins s H,PE (Bw X scope Nc ex pins s H) elt te)
  {pins:U1}{σ:St}{H2:Hp}{s2:U7}{E:U2}{it:W9}{fp:U3}{tn:Nat->Heap->Prop}{J:It}{Q:VK}{RR:Value->Addr->Result->Shared->Prop}
  (I2:Inv X pins σ H2 s2) (T:Turn X.prog X.w X.K tg J fp it tn) (st2:tn 0 s2.heap) (f2:∀b∈fp,Dl X pins H2 b)
  (q:∀acc,H2 acc=none->KH J g te (sub mp σ) H2 acc Q)
  (fin:∀acc C H' s' m',Q (.ref acc) H'->Inv X pins σ H' s'->s'.heap.Ns C m'->H' C=none->X.s₀.heap.objs.size<=C->C≠X.env.locals->(∀x c,X.env.cells.lookup x=some c->c≠C)->(∀p∈X.pn++pins,p.1≠C)->RR (.ref acc) C (.ok .next) s'):
  wpAny (model X.prog X.w) X.A (newList []) (λacc s₃=>wpAny (model X.prog X.w) X.A (newFunctionEnv scope X.env.globals (clo scope.names X.env.cells) [] X.env.qual none .none (some X.env)) (λl s₄ =>
   codeAny (model X.prog X.w) X.A (.compStart (.ListComp elt [⟨tg,iter,[],0⟩] scope pos) 0 (.ref it) acc {l with scope:=relabel scope X.env}) (RR acc l.locals) s₄) E s₃) E s2:=by
 refine Le (wpAny_newFunctionEnv S.nocell (by intro y hy;simp at hy) (λh₁ m t=>?_) S.kind);dsimp only at m t ⊢;have I3:=I2.lnew (its:=[]) (ys:=[]) (t':=s2.toks) .nil (Ed _);have M:H2 s2.heap.objs.size=none:=I2.fresh;obtain⟨W,⟨m0,w0⟩,R⟩:=q s2.heap.objs.size M;have G:(s2.heap.push { cls:=.type "list",dict:=none,data:=.seq ([]:U5).toArray}).objs.size=s2.heap.objs.size+1:=Lb ..;have L:∀b∈fp,b<s2.heap.objs.size:=λb hb=>by
  obtain⟨o,e,_⟩:=T.obj _ _ st2 b hb;exact CN e
 have F:∀b∈fp,Dl X pins (upd H2 s2.heap.objs.size (.lst [])) b:=λb hb=>⟨by rw[Cd (DY (L b hb))];exact(f2 b hb).1,(f2 b hb).2⟩;have a:Inv X pins σ (upd H2 s2.heap.objs.size (.lst [])) (Eb s2):=I3;have hsz:(Eb s2).heap.objs.size=s2.heap.objs.size+1:=G;have j:∀b∈fp,b<(Eb s2).heap.objs.size:=λb hb=>by rw[hsz];exact Qe (L b hb)
 have k3:∀b o,(Eb s2).heap.get? b=some o->h₁.get? b=some o:=λb o e=>t.extBut b o (DY (CN e)) (Ef _ e);have Ic:=u9 (tk:=(Eb s2).toks) a S F j m k3;have P:tn 0 h₁:=T.keep _ _ _ st2 λb hb o e=>k3 b o (Ef _ e);have cC:X.s₀.heap.objs.size<=(Eb s2).heap.objs.size:=a.sz;have cL:(Eb s2).heap.objs.size≠X.env.locals:=Ms a.lt;have cc:∀x c,X.env.cells.lookup x=some c->c≠(Eb s2).heap.objs.size:=λx c e=>by
  obtain⟨v,o,ho,_⟩:=a.cell x c e;exact DY (CN ho)
 have cp:∀p∈X.pn++pins,p.1≠(Eb s2).heap.objs.size:=λp hp=>DY (CN (a.pin p hp).1);have h:∀{H':Hp},(∀b∈fp,H' b=none)->∀b∈fp,Dl (Bw X scope Nc fp pins (Eb s2) (upd H2 s2.heap.objs.size (.lst []))) [] H' b:=λhn b hb =>
  ⟨hn b hb,DY (j b hb),λz=>by
   rcases Dg.mp (a.stkSub b z) with e | e
   ·exact(F b hb).2.1 e
   ·exact(F b hb).2.2.1 e,.inl hb,λx c e=>(F b hb).2.2.2.2.1 x c (Qt a S e),λp hp=>(F b hb).2.2.2.2.2 p (by
    have:p∈(X.pn++pins)++[]:=hp
    simpa using this)⟩
 have k:∀s4:Shared,s4={ (Eb s2) with heap:=h₁,toks:=(Eb s2).toks} ->
   codeAny (model X.prog X.w) X.A (.compLoop (.ListComp elt [⟨tg,iter,[],0⟩] scope pos) 0 (.ref it) (.ref s2.heap.objs.size) (Bw X scope Nc fp pins (Eb s2) (upd H2 s2.heap.objs.size (.lst []))).env)
    (RR (.ref s2.heap.objs.size) (Eb s2).heap.objs.size) s4:=by
  rintro s4 rfl;refine Y0k (λn s'=>∃i ys σ' H',Inv (Bw X scope Nc fp pins (Eb s2) (upd H2 s2.heap.objs.size (.lst []))) [] σ' H' s'/\tn i s'.heap/\(∀b∈fp,H' b=none)/\W i n ys σ' H') ?_ m0
   ⟨0,[],sub mp σ,_,Ic,P,λb hb=>(F b hb).1,w0⟩
  rintro n s5 ⟨i,ys,V,Y,I5,O,I,w5⟩;rcases R i n ys V Y w5 with ⟨stop,qn⟩ | ⟨go,step⟩
  ·refine GD (T.done (Bw X scope Nc fp pins (Eb s2) (upd H2 s2.heap.objs.size (.lst []))) rfl rfl rfl hc i [] s5 V Y (λ_ _=>False) I5 (h I) O stop) (λr s6 ⟨hr,Z⟩=>?_) λ_ _ f=>f.elim;subst hr;obtain⟨m6,a2,_⟩:=Z.loc;refine⟨λ_=>?_,λ_ z=>nomatch z⟩;exact fin _ _ Y s6 m6 qn (xV a F Z) a2 Z.free cC cL cc cp
  ·refine GD (T.item (Bw X scope Nc fp pins (Eb s2) (upd H2 s2.heap.objs.size (.lst []))) rfl rfl rfl hc i [] s5 V Y (λ_ _=>False) I5 (h I) O go) (λr s6 ⟨u,hr,h6⟩=>?_) λ_ _ f=>f.elim;subst hr;refine⟨(λz=>by cases z),?_⟩;rintro _ ⟨⟩;refine GD h6 (λ_ s7 ⟨x,H7,I7,r7,y7,D,a1⟩=>?_) λ_ _ f=>f.elim;have a3:=I7.pinned (h a1) (T.obj _ _ D);refine GD (hg _ _ _ _ _ s7 V H7 x u _ a3 r7 (step x H7 y7)) (λ_ s8 ⟨σ8,H8,I8,q8⟩=>?_) λ_ _ f=>f.elim;refine GD (he _ _ _ _ _ s8 σ8 H8 _ I8 q8) (λv s9 ⟨y,H9,I9,r9,a9,l9,m',a4,w9⟩=>?_) λ_ _ f=>f.elim;refine GD (Qx (X:=Bw X scope Nc fp pins (Eb s2) (upd H2 s2.heap.objs.size (.lst []))) _ s9 σ8 H9 (.ref s2.heap.objs.size) [y] (.ref s2.heap.objs.size) [v] (λz Hz=>z=.non/\Hz=upd H9 s2.heap.objs.size (.lst (ys++[y]))) I9 rfl (.cons r9 .nil) ⟨_,ys,y,U,U,a9,l9,U,U⟩) (λa6 a5 ⟨z,a7,B,_,_,a0⟩=>?_) λ_ _ f=>f.elim;subst a0;refine⟨m',a4,i+1,ys++[y],σ8,_,B.unpinned,T.keep _ _ _ D λb hb o e=>(B.pin (b,o) (FQ _ (FQ _ (Uu hb e)))).1,λb hb=>?_,w9⟩;obtain⟨o,e,d⟩:=T.obj _ _ D b hb;exact(B.pin (b,o) (FQ _ (FQ _ (Uu hb e)))).2.1
 exact qO (k _ rfl) (T.self _ 0 _ _ _ P (k _ rfl))
theorem Gp(hc:X.calm=true)(S:BW X.N X.env.scope scope Nc mp)(hi:PI X tg iter wi)(hg:∀ex pins s H,PG (Bw X scope Nc ex pins s H) tg g)(he:∀ex pins s H,PE (Bw X scope Nc ex pins s H) elt te)
  (hf:∀x,foldedSetIterable iter X.env x=pure x:=by intro _;rfl):PE X (.ListComp elt [⟨tg,iter,[],0⟩] scope pos) (p7 mp wi g te):=by
 intro pins s σ H Q I h;rw[eval_ListComp];refine ZC (use:=none) rfl hf (Zm (Xk I S)) S.kind S.names (Bk (hi pins s σ H _ I h) λv t h1=>Bk h1 λp s2 h2=>?_);obtain⟨it,fp,tn,J,H2,e,n,T,a,k,q⟩:=h2;subst e;refine xW (RR:=λacc C=>compPost (model X.prog X.w) X.A X.xe none (EP X pins σ Q) acc C) hc S hg he n T a k q ?_;intro acc C H' s' m' qq l r j c m f i;refine⟨m',r,λh' d=>⟨.ref acc,H',?_,U,qq⟩⟩;exact l.turnedNew (t':=s'.toks) (λb o hb e=>d.extBut b o hb e) j c m f i
theorem Qw{i:Nat}{pos' spos:Pos}(hc:X.calm=true)(hN:X.N.Nodup)(hi':X.N[i]?=some x)(hx:X.env.scope.names.lookup x=some .local)(S:BW X.N X.env.scope scope Nc mp)(hi:PI X tg iter wi)
  (hg:∀ex pins s H,PG (Bw X scope Nc ex pins s H) tg g) (he:∀ex pins s H,PE (Bw X scope Nc ex pins s H) elt te)
  (hsw:swapsWith (.ListComp elt [⟨tg,iter,[],0⟩] scope pos) (some (.Name x pos')) spos.line X.env=pure true)
  (hf:∀x,foldedSetIterable iter X.env x=pure x:=by intro _;rfl):PS X (.Assign [.Name x pos'] (.ListComp elt [⟨tg,iter,[],0⟩] scope pos) spos) (Ot (p7 mp wi g te) (Ce i)):=by
 intro pins s σ H D I h;rw[qI _ _ _ _ hsw];refine Aw (RM (Aw ?_));show wpAny _ X.A (do let _ ← comprehension (.ListComp elt [⟨tg,iter,[],0⟩] scope pos) scope X.env _ (newList []) false (eval iter X.env) (some (assign (.Name x pos') X.env))) _ _ s
 refine Aw (GD (ZC (use:=some (assign (.Name x pos') X.env)) (Q:=λ_ s'=>SP X pins D .next s') rfl hf (Zm (Xk I S)) S.kind S.names
  (Bk (hi pins s σ H _ I h) λv L h1=>Bk h1 λG s2 h2=>?_)) (λ_ s' m=>Bl (Bl m)) λ_ _ e=>e)
 obtain⟨it,fp,tn,J,H2,e,F,T,f,B,q⟩:=h2;subst e;refine xW (Q:=λx H1=>Ce i x σ H1 D.nx) (RR:=λacc C=>compPost (model X.prog X.w) X.A X.xe (some (assign (.Name x pos') X.env)) (λ_ s'=>SP X pins D .next s') acc C) hc S hg he F T f B q ?_;intro acc C H' s' m' qq E K y l k j t;show wpAny _ X.A (assign (.Name x pos') X.env (.ref acc)) _ _ _;refine fP (lg (v:=.ref acc) E hN hi' (.inl hx) rfl (λn u ⟨a,c,r⟩=>?_) (.inr hx));have d:C≠a:=by
  rcases r with z | z
  ·rw[z];exact k
  ·exact Ne.symm (j x a z)
 refine⟨m',K.sameBut c d,λh' p=>⟨σ.set i (some (.ref acc)),H',?_,qq⟩⟩;exact u.turnedNew (t':=n.toks) (λb o hb e=>p.extBut b o hb e) y l k j t
end
variable{te:TE}{H1:Hp}{acc:W9}{Q:VK}
theorem oR{J:It}{n:Nat}{val:Nat->V}{fr:St}(Pv:Nat->List V->Hp->Prop)(hn:n<=sizeLine)(h0:Pv 0 [] (upd H1 acc (.lst [])))
  (hgo:∀i ys H,i<n->Pv i ys H->J.go i H/\∀x H',J.yld i H x H'->H'=H/\x=val i) (hst:∀ys H,Pv n ys H->J.stop n H)
  (hs:∀i ys H (N:V->Hp->Prop),i<n->ys.length=i->Pv i ys H->(∀y a,a acc=some (.lst ys)->Pv (i+1) (ys++[y]) (upd a acc (.lst (ys++[y])))->N y a)->te (some (val i)::fr) H N)
  (hd:∀ys H,ys.length=n->Pv n ys H->Q (.ref acc) H):
  KH (J) (Ce 0) te (none::fr) H1 acc Q:=by
 refine⟨λi m ys d H2=>m=n-i/\i<=n/\ys.length=i/\(∃v,d=v::fr)/\Pv i ys H2,⟨n,by simp,Ed _,U,⟨_,U⟩,h0⟩,?_⟩;rintro i m ys d H2 ⟨rfl,hi,c,⟨v,rfl⟩,p⟩;by_cases hlt:i<n
 ·obtain⟨go,h⟩:=hgo i ys H2 hlt p;refine .inr ⟨go,λx b g=>?_⟩;obtain⟨k,e2⟩:=h x b g;subst k e2;show te ((v::fr).set 0 (some (val i))) b _;rw[List.set_cons_zero];refine hs i ys b _ hlt c p λy a j f=>⟨j,by lia,n-(i+1),by lia,U,hlt,by rw[DP,c];rfl,⟨_,U⟩,f⟩
 ·have e:i=n:=by lia
  subst e;exact .inl ⟨hst ys H2 p,hd ys H2 c p⟩
theorem SN{lo:Int}{n:Nat}{fr:St}(Pv:Nat->List V->Hp->Prop)(hn:n<=sizeLine)(h0:Pv 0 [] (upd H1 acc (.lst [])))
  (hs:∀i ys H (N:V->Hp->Prop),i<n->ys.length=i->Pv i ys H->(∀y H5,H5 acc=some (.lst ys)->Pv (i+1) (ys++[y]) (upd H5 acc (.lst (ys++[y])))->N y H5)->te (some (.int (lo+i))::fr) H N)
  (hd:∀ys H,ys.length=n->Pv n ys H->Q (.ref acc) H):
  KH (Ht lo n) (Ce 0) te (none::fr) H1 acc Q :=
 oR (J:=Ht lo n) (val:=λi=>.int (lo+i)) Pv hn h0 (λi ys H hi p=>⟨hi,λx H' y=>y⟩) (λys H p=>Bd _) hs hd
theorem Lw{K:U0}{a:W9}{xs:List V}{fr:St}(Pv:Nat->List V->Hp->Prop)(hn:xs.length<=sizeLine)(h0:Pv 0 [] (upd H1 acc (.lst [])))
  (hl:∀i ys H,Pv i ys H->Ag K H a xs)
  (hs:∀i x ys H (N:V->Hp->Prop),xs[i]?=some x->ys.length=i->Pv i ys H->(∀y H5,H5 acc=some (.lst ys)->Pv (i+1) (ys++[y]) (upd H5 acc (.lst (ys++[y])))->N y H5)->te (some x::fr) H N)
  (hd:∀ys H,ys.length=xs.length->Pv xs.length ys H->Q (.ref acc) H):
  KH (Nz K a) (Ce 0) te (none::fr) H1 acc Q :=
 oR (J:=Nz K a) (n:=xs.length) (val:=λi=>xs.getD i .non) Pv hn h0
  (λi ys H hi p=>⟨⟨xs,xs[i],hl i ys H p,by simp[hi]⟩,λx H' y=>⟨y.1,by
   have:=y.2 xs (hl i ys H p)
   rw[Bp,this];rfl⟩⟩)
  (λys H p=>⟨xs,hl _ ys H p,Bd _⟩)
  (λi ys H N hi b p k=>by
   have e:xs[i]?=some (xs.getD i .non):=by rw[Bp,Cm hi];rfl
   exact hs i _ ys H N e b p k) hd
end L2
namespace L2
structure Aj (P:U8) (w:W1) (K:U0) (mg:U4) (base:Heap) (k:Nat) (x:Str) (ps:W0) (sp:Sp):Prop where
 ex:∃f fd,Ec P w K mg base N8 k f fd ps sp/\Binds K fd ps []/\PySem.W.keepIn K (.ref f)=true/\mg x=some (.ref f)
variable{K:U0}{mg:U4}{base:Heap}{x:Str}{ps:W0}{sp:Sp}
theorem Aj.mono{P:U8}{w:W1}{j k:Nat}(c:Aj P w K mg base j x ps sp)(h:j<=k):Aj P w K mg base k x ps sp :=
 let ⟨f,fd,F,b,kp,m⟩:=c.ex
 ⟨f,fd,F.mono h,b,kp,m⟩
section
variable {X:Cx}{k:Nat}{x:Str}{ps:W0}{sp:Sp}{p pos:Pos}{e:Expr}{es:List Expr}{t:TA}
theorem BP(c:Aj X.prog X.w X.K X.mg X.base k x ps sp)(hr:Cg k X.A)(hg:Gl X x)(ha:PA X (e::es) t)(hdb:(x == ("__debug__":Str))=false:=by decide)
  (he:starEach (e::es) X.env=(false,eval e X.env)::starEach es X.env:=by rfl) (hpl:(backTo pos (starEach es X.env)).any (·.1)=false:=by rfl):PE X (.Call (.Name x p) (e::es) [] pos) (MF sp [] E0 t):=by
 obtain⟨f,fd,F,b,a,m⟩:=c.ex;exact tQ F hr hg m a b .nil Qk ha hdb he hpl
end
structure Ab (K:U0) (x:Str) (st:Stmt) (dV:W2):Prop where
 ex:∃(f:W9) (oc:W2) (od:W5) (kV doc pm:W2) (an:W5) (cdv ct:W2) (osl:W4),
  K.lookup f=some ⟨oc,od,.func (PySem.W.fnOf x x (Hh st) (Gq st) (Dy st) dV kV doc pm an cdv ct),osl⟩/\PySem.W.codeIn K cdv x=true/\PySem.W.keepIn K (.ref f)=true/\PySem.W.nsIn K mainGlobals x=some (some (.ref f))
theorem fat{st:Stmt}{f:W9}{oc:W2}{od an:W5}{osl:W4}{dV kV doc pm cdv ct:W2}(a:PySem.W.nsIn K mainGlobals x=some (some (.ref f)))
  (l:K.lookup f=some ⟨oc,od,.func (PySem.W.fnOf x x (Hh st) (Gq st) (Dy st) dV kV doc pm an cdv ct),osl⟩) (c:PySem.W.codeIn K cdv x=true) (k:PySem.W.keepIn K (.ref f)=true):Ab K x st dV :=
 ⟨f,oc,od,kV,doc,pm,an,cdv,ct,osl,l,c,k,a⟩
def Nk (K:U0)(x:Str)(st:Stmt)(dV:W2)(ps:W0):Prop:=∀(kV doc pm:W2) (an:W5) (cdv ct:W2),Binds K (PySem.W.fnOf x x (Hh st) (Gq st) (Dy st) dV kV doc pm an cdv ct) ps []
theorem Ga{st:Stmt}
  (h:∀(kV a pm:W2) (c:W5) (b ct:W2) (us:U5),us.length=ps.length->bindArgs (PySem.W.fnOf x x (Hh st) (Gq st) (Dy st) .none kV a pm c b ct) ⟨us,[]⟩=pure (ps.zip us)):Nk K x st .none ps :=
 λkV a pm c b ct=>.all (h kV a pm c b ct)
theorem XR{nm:Str}{st:Stmt}(h:∀(kV a pm:W2) (c:W5) (b ct:W2),bindArgs (PySem.W.fnOf nm nm (Hh st) (Gq st) (Dy st) .none kV a pm c b ct) ⟨[],[]⟩=pure []):Nk K nm st .none []:=Ga λkV a pm c b ct us d=>by
 cases us with
 | nil=>exact h kV a pm c b ct
 | cons=>cases d
variable{x0:Str}
theorem XQ{nm:Str}{st:Stmt}(h:∀(kV a pm:W2) (c:W5) (b ct:W2) (a0:W2),bindArgs (PySem.W.fnOf nm nm (Hh st) (Gq st) (Dy st) .none kV a pm c b ct) ⟨[a0],[]⟩=pure [(x0,a0)]):Nk K nm st .none [x0]:=Ga λkV a pm c b ct us d=>by
 cases us with
 | nil=>cases d
 | cons b0 t0 =>
  cases t0 with
  | nil=>exact h kV a pm c b ct b0
  | cons=>cases d
theorem XM{nm:Str}{st:Stmt}{x1:Str}(h:∀(kV a pm:W2) (c:W5) (b ct:W2) (a0 a1:W2),bindArgs (PySem.W.fnOf nm nm (Hh st) (Gq st) (Dy st) .none kV a pm c b ct) ⟨[a0,a1],[]⟩=pure [(x0,a0),(x1,a1)]):Nk K nm st .none [x0,x1]:=Ga λkV a pm c b ct us d=>by
 cases us with
 | nil=>cases d
 | cons b0 t0 =>
  cases t0 with
  | nil=>cases d
  | cons b1 t1 =>
   cases t1 with
   | nil=>exact h kV a pm c b ct b0 b1
   | cons=>cases d
theorem XJ{nm:Str}{st:Stmt}{x1 x2:Str}(h:∀(kV a pm:W2) (d:W5) (b ct:W2) (a0 a1 a2:W2),bindArgs (PySem.W.fnOf nm nm (Hh st) (Gq st) (Dy st) .none kV a pm d b ct) ⟨[a0,a1,a2],[]⟩=pure [(x0,a0),(x1,a1),(x2,a2)]):Nk K nm st .none [x0,x1,x2]:=Ga λkV a pm d b ct us c=>by
 cases us with
 | nil=>cases c
 | cons b0 t0 =>
  cases t0 with
  | nil=>cases c
  | cons b1 t1 =>
   cases t1 with
   | nil=>cases c
   | cons b2 t2 =>
    cases t2 with
    | nil=>exact h kV a pm d b ct b0 b1 b2
    | cons=>cases c
theorem XH{nm:Str}{st:Stmt}{x1 x2 x3:Str}(h:∀(kV a pm:W2) (d:W5) (b ct:W2) (a0 a1 a2 a3:W2),bindArgs (PySem.W.fnOf nm nm (Hh st) (Gq st) (Dy st) .none kV a pm d b ct) ⟨[a0,a1,a2,a3],[]⟩=pure [(x0,a0),(x1,a1),(x2,a2),(x3,a3)]):Nk K nm st .none [x0,x1,x2,x3]:=Ga λkV a pm d b ct us c=>by
 cases us with
 | nil=>cases c
 | cons b0 t0 =>
  cases t0 with
  | nil=>cases c
  | cons b1 t1 =>
   cases t1 with
   | nil=>cases c
   | cons b2 t2 =>
    cases t2 with
    | nil=>cases c
    | cons b3 t3 =>
     cases t3 with
     | nil=>exact h kV a pm d b ct b0 b1 b2 b3
     | cons=>cases c
theorem XF{nm:Str}{st:Stmt}{x1 x2 x3 x4:Str}(h:∀(kV a pm:W2) (d:W5) (b ct:W2) (a0 a1 a2 a3 a4:W2),bindArgs (PySem.W.fnOf nm nm (Hh st) (Gq st) (Dy st) .none kV a pm d b ct) ⟨[a0,a1,a2,a3,a4],[]⟩=pure [(x0,a0),(x1,a1),(x2,a2),(x3,a3),(x4,a4)]):Nk K nm st .none [x0,x1,x2,x3,x4]:=Ga λkV a pm d b ct us c=>by
 cases us with
 | nil=>cases c
 | cons b0 t0 =>
  cases t0 with
  | nil=>cases c
  | cons b1 t1 =>
   cases t1 with
   | nil=>cases c
   | cons b2 t2 =>
    cases t2 with
    | nil=>cases c
    | cons b3 t3 =>
     cases t3 with
     | nil=>cases c
     | cons b4 t4 =>
      cases t4 with
      | nil=>exact h kV a pm d b ct b0 b1 b2 b3 b4
      | cons=>cases c
section
variable {P:U8}{w:W1}{K:U0}{mg:U4}{base:Heap}
theorem fS{N P:W0}{sc:Scope}(a:sc.kind=.function:=by exact rfl)(b:sc.isCoroutine=false:=by exact rfl)(c:sc.isGenerator=false:=by exact rfl)(d:N.Nodup:=by decide +kernel)(e:N.take P.length=P:=by exact rfl)(f:∀x∈P,sc.names.lookup x=some .local\/sc.names.lookup x=some .cell:=by decide +kernel)(g:∀y∈sc.names,y.2≠.free:=by decide +kernel):CW N P sc:=⟨a,b,c,d,e,f,g⟩
theorem Ab.cal{st:Stmt}{dV:W2}{k:Nat}(F:Ab K x st dV){h:Heap}(X:K.In h)(G:Ng h mg)(N:W0)
  (hbody:∀{f:W9}{a:W2}{A:W6}{outer:List Env}{s:U7},N.Nodup->∀(H:Hp) (vs:List V) (Q:VK) (E:XK),Cg k (A.deeper (envOfC x (Dy st) s.heap.objs.size f a))->sp vs H Q E ->
   ∃t,Ii (Hr N8 P w K mg base N x (Dy st) f a A outer s H E).nox (Gq st) t/\t { nx:=λ_ H'=>Q .non H',rt:=Q} (start N vs) H)(S:CW N ps (Dy st):=by exact fS) (bi:Nk K x st dV ps:=by first | exact XQ λ_ _ _ _ _ _ _=>rfl | exact XM λ_ _ _ _ _ _ _ _=>rfl | exact XJ λ_ _ _ _ _ _ _ _ _=>rfl | exact XH λ_ _ _ _ _ _ _ _ _ _=>rfl | exact XF λ_ _ _ _ _ _ _ _ _ _ _=>rfl | exact XR λ_ _ _ _ _ _=>rfl) (len:∀vs H Q E,sp vs H Q E->vs.length=ps.length:=by intro _ _ _ _ h;repeat first | (obtain⟨rfl,_⟩:=h;rfl) | (obtain⟨⟨rfl,_⟩,_⟩:=h;rfl) | (obtain⟨_,h⟩:=h)):Aj P w K mg base (k+1) x ps sp:=by
 obtain⟨f,m,od,kV,d,pm,l,a,ct,i,g,c,e,ns⟩:=F.ex;refine⟨f,_,oJ g c S len λA outer s H vs Q E j b=>?_,bi kV d pm l a ct,e,IK X G ns⟩;obtain⟨t,h,q⟩:=hbody S.nd H vs Q E j b;exact⟨t,h.nox,q⟩
end
variable{H:Hp}
theorem CG{P:U8}{w:W1}{N:W0}{sc:Scope}{f:W9}{cdv:W2}{A:W6}{outer:List Env}{s:U7}{E:XK}:(Hr N8 P w K mg base N x sc f cdv A outer s H E).nox.K=K:=rfl
theorem A_{p:W9}(h:H p=none)(o:HO):Same H (upd H p o):=λb u q=>by rw[Cd (Nt q h)];exact q
theorem mU(K:U0):PySem.W.kitOne K (.type "int") (.type "int")=some true:=by unfold PySem.W.kitOne;rw[if_pos (by decide)]
theorem mR(K:U0):PySem.W.kitOne K (.type "int") (.type "bool")=some false:=by with_unfolding_all rfl
variable{A B:Prop}
theorem Lj{a b:Int}(h1:a=b->A)(h2:a≠b->B):if decide (V.int a=V.int b)=true then A else B:=by
 by_cases h:a=b
 ·subst h;rw[Dr rfl];exact Dc (h1 rfl)
 ·rw[Dh λe=>h (V.int.inj e)];exact CQ (h2 h)
theorem Ho{a b:Int}(h1:a≠b->A)(h2:a=b->B):if (!decide (V.int a=V.int b))=true then A else B:=by
 by_cases h:a=b
 ·subst h;rw[Dr rfl];exact CQ (h2 rfl)
 ·rw[Dh λe=>h (V.int.inj e)];exact Dc (h1 h)
theorem BJ{p:Prop}[Decidable p](h1:p->A)(h2:¬ p->B):if decide p=true then A else B:=by
 by_cases h:p
 ·rw[Dr h];exact Dc (h1 h)
 ·rw[Dh h];exact CQ (h2 h)
theorem Gw{c:Bool}(h1:c=true->A)(h2:c=false->B):if c=true then A else B:=by
 cases c
 ·exact CQ (h2 rfl)
 ·exact Dc (h1 rfl)
theorem JV{c:Bool}(h1:c=false->A)(h2:c=true->B):if (!c)=true then A else B:=by
 cases c
 ·exact Dc (h1 rfl)
 ·exact CQ (h2 rfl)
def bO (t u:TS):TS:=λD σ H=>∃Good:St->Hp->Prop,t {D with nx:=Good} σ H/\∀σ' H',Good σ' H'->u D σ' H'
theorem Cy{X:Cx}{st:Stmt}{rest:W8}{t u:TS}(h1:PS X st t)(h2:Ii X rest u):Ii X (st::rest) (bO t u):=by
 intro pins s σ H D I h;obtain⟨Good,d,b⟩:=h;refine fC (Bk (h1 pins s σ H {D with nx:=Good} I d) λf e q=>?_);cases f with
 | next =>
  obtain⟨a,H',c,q⟩:=q;exact h2 pins e a H' D c (b a H' q)
 | ret v=>exact q
 | brk=>exact q
 | cont=>exact q
theorem Dj{H':Hp}{p:W9}{o:HO}(h:Same H H')(hn:H p=none):Same H (upd H' p o):=λb u q=>by rw[Cd (Nt q hn)];exact h b u q
end L2
namespace Zo
open PySem.Sem (wp)
def Stop (h:Heap)(e:W9):Prop:=∃o,h.get? e=some o/\o.cls=.type "StopIteration"
def Rest (S:U3)(h h':Heap):Prop:=∀c o,c∉S->h.get? c=some o->h'.get? c=some o
variable{S:U3}{h h1:Heap}
theorem Rest.trans{h2:Heap}(a:Rest S h h1)(b:Rest S h1 h2):Rest S h h2:=λc o n e=>b c o n (a c o n e)
theorem Rest.sub{T:U3}(a:Rest S h h1)(q:∀c,c∈S->c∈T):Rest T h h1:=λc o n e=>a c o (λz=>n (q c z)) e
theorem Rest.ext{b:W9}(e:Heap.ExtBut b h h1)(q:b∈S):Rest S h h1:=λc o n x=>e c o (λz=>n (z ▸ q)) x
theorem Rest.but{b:W9}(e:Heap.SameBut b h h1)(q:b∈S):Rest S h h1:=Rest.ext e.extBut q
theorem Rest.new(o:Obj):Rest S h (h.push o):=λc u n x=>Ef _ x
def Jc (S:U3)(G:Heap->Prop):Prop:=∀h h',Rest S h h'->G h->G h'
def Told (it:W9)(hp:Heap)(g:Array GenState)(d:Drawn)(tk:Nat)(os:OsState)(G:Heap->Prop)(ox:Option Value)(Q E:U2):Prop :=
 (∀x h',ox=some x->G h'->Heap.SameBut it hp h'->Q x ⟨h',g,d,tk,os⟩) /\
 (∀e h',ox=none->Heap.ExtBut it hp h'->Stop h' e->E (.ref e) ⟨h',g,d,tk,os⟩)
def Pull (prog:U8)(w:W1)(A:W6)(it:W9)(G G':Heap->Prop)(ox:Option Value):Prop :=
 ∀{Q E:U2}{hp:Heap}{g:Array GenState}{d:Drawn}{tk:Nat}{os:OsState},G hp->Told it hp g d tk os G' ox Q E ->
  wpAny (model prog w) A (Builtin.SmallTypes.nextOf (.ref it)) Q E ⟨hp,g,d,tk,os⟩
section
variable {prog:U8}{w:W1}{A:W6}{E:U2}{hp:Heap}{g:Array GenState}{d:Drawn}{tk:Nat}{os:OsState}
variable{ox:Option Value}
theorem Pull.behind{it:W9}{G G':Heap->Prop}(p:Pull prog w A it G G' ox)(hg:G hp){α:Type}{f:Value->Sem α}{k:Value->Sem Unit}{Q:α->Shared->Prop}
  (t:Told it hp g d tk os G' ox (λx s'=>wpAny (model prog w) A (f x) Q (λe s2=>wpAny (model prog w) A (k e) (λ_ s3=>E e s3) E s2) s') (λe s2=>wpAny (model prog w) A (k e) (λ_ s3=>E e s3) E s2)):
  wpAny (model prog w) A ((Builtin.SmallTypes.nextOf (.ref it) >>= f).onRaise k) Q E ⟨hp,g,d,tk,os⟩:=wpAny_onRaise (Aw (p hg t))
theorem freed{z I O e:W9}{v:W2}(gz:IsZip h z I O v)(st:Stop h e)(k:∀h',Rest [z] h h'->Stop h' e->E (.ref e) ⟨h',g,d,tk,os⟩):
  wpAny (model prog w) A (setField (.ref z) 0 .none) (λ_ s3=>E (.ref e) s3) E ⟨h,g,d,tk,os⟩:=by
 obtain⟨o,a,b⟩:=st;have c:e≠z:=by
  rintro rfl;have q:=a.symm.trans gz;cases q;exact absurd (Value.type.inj b) (by decide)
 refine RQ gz rfl (by simp) (k _ (Rest.but (Heap.SameBut.update ..) (by simp)) ⟨o,(Heap.SameBut.update ..).extBut _ _ c a,b⟩)
theorem step{z I O i j:W9}{oy:Option Value}{a b:W2}{G1 G1' G2 G2':Heap->Prop}{R:PySem.Fin->Shared->Prop}
  (gz:IsZip hp z I O .none) (gI:IsPair hp I (.ref i) (.ref j)) (gO:IsPair hp O a b) (ne:O≠z/\O≠i/\O≠j/\i≠z/\j≠z)
  (p1:Pull prog w A i G1 G1' ox) (p2:Pull prog w A j G2 G2' oy) (a1:G1 hp) (a2:G2 hp)
  (k1:Jc [z,O,j] G1) (k2:Jc [z,O,i] G2) (k3:Jc [z,O,j] G1') (k4:Jc [z,O,i] G2')
  (go:∀x y h',ox=some x->oy=some y->IsZip h' z I O (rawInt hp.objs.size)->IsPair h' O x y->IsPair h' hp.objs.size x y->G1' h'->G2' h'->Rest [z,O,i,j] hp h'->R (.done (.ret (.ref hp.objs.size))) ⟨h',g,d,tk,os⟩)
  (stop:∀e h',ox=none\/oy=none->Rest [z,O,i,j] hp h'->Stop h' e->E (.ref e) ⟨h',g,d,tk,os⟩):
  wpAny (model prog w) A (Builtin.«zip.__next__» ⟨[.ref z],[]⟩) R E ⟨hp,g,d,tk,os⟩:=by
 obtain⟨o,X,P,B,C⟩:=ne;have Y:(#[Value.none,.bool false,.bool false,.ref I,.ref O]:U9)[0]?=some .none:=rfl;have Q:(#[Value.none,.bool false,.bool false,.ref I,.ref O]:U9)[2]?=some (.bool false):=rfl;have L:(#[Value.none,.bool false,.bool false,.ref I,.ref O]:U9)[3]?=some (.ref I):=rfl;have N:(#[Value.none,.bool false,.bool false,.ref I,.ref O]:U9)[4]?=some (.ref O):=rfl;have z0:0<(#[Value.none,.bool false,.bool false,.ref I,.ref O]:U9).size:=by simp
 wp_walk using LR gz rfl Q,LR gz rfl L,WK gI rfl,LR gz rfl Y,LR gz rfl N,wpAny_setField_rec gz z0;intro h1 u t;have s:Rest [z] hp h1:=.but t (by simp);wp_walk;refine p1.behind (f:=λx=>pure (some x)) (k:=λ_=>setField (.ref z) 0 .none) (k1 _ _ (s.sub (by simp)) a1) ⟨λx h2 e2 U c=>?_,λe h2 e2 c st=>?_⟩
 ·have F:IsPair h2 O a b:=c.extBut _ _ X (t.extBut _ _ o gO);wp_walk using WK F rfl,wpAny_updateSeq_pair F;intro h3 W h;wp_walk using wpAny_letGo;have q:Rest [z,O,i] hp h3:=((s.sub (by simp)).trans (.but c (by simp))).trans (.but h (by simp));refine p2.behind (f:=λx=>pure (some x)) (k:=λ_=>setField (.ref z) 0 .none) (k2 _ _ q a2) ⟨λy J r V r4=>?_,λe J r r4 st=>?_⟩
  ·have D:IsPair J O x b:=r4.extBut _ _ P W;wp_walk using WK D rfl,wpAny_updateSeq_pair D;intro h5 Z l;have n:IsPair h5 O x y:=Z;have q5:Rest [z,O,i,j] hp h5:=((q.sub (by simp)).trans (.but r4 (by simp))).trans (.but l (by simp));have H:IsZip h5 z I O .ellipsis:=l.extBut _ _ o.symm (r4.extBut _ _ C.symm (h.extBut _ _ o.symm (c.extBut _ _ B.symm u)));have sz:h5.objs.size=hp.objs.size:=(((l.1.trans r4.1).trans h.1).trans c.1).trans t.1;have lt:z<h5.objs.size:=CN H;have M:IsZip (h5.push { cls:=.type "tuple",data:=.seq #[x,y].toList.toArray}) z I O .ellipsis:=Ef _ H;wp_walk using wpAny_letGo,WK n rfl;have K:=Rc (Obj.mapFields λv=>v.setIfInBounds 1 (Value.bool false)) (Rc (Obj.mapFields λv=>v.setIfInBounds 0 (rawInt h5.objs.size)) M rfl) rfl;have G:Rest [z] (h5.push { cls:=.type "tuple",data:=.seq #[x,y].toList.toArray}) _:=(Rest.but (b:=z) (Heap.SameBut.update (f:=Obj.mapFields λv=>v.setIfInBounds 0 (rawInt h5.objs.size)) ..) (by simp)).trans (Rest.but (b:=z) (Heap.SameBut.update (f:=Obj.mapFields λv=>v.setIfInBounds 1 (Value.bool false)) ..) (by simp));have p:=(Rest.new _).trans G;have T8:=G h5.objs.size _ (by simp;exact Ms lt) (Fj _ rfl);simp only[<-sz]at go;exact go x y _ e2 r K (p _ _ (by simp[o]) n) T8 (k3 _ _ ((((Rest.but (S:=[z,O,j]) h (by simp)).trans (.but r4 (by simp))).trans (.but l (by simp))).trans (p.sub (T:=[z,O,j]) (by simp))) U)
    (k4 _ _ ((Rest.but (S:=[z,O,i]) l (by simp)).trans (p.sub (T:=[z,O,i]) (by simp))) V) (q5.trans (p.sub (T:=[z,O,i,j]) (by simp)))
  ·exact freed (r4 _ _ C.symm (h.extBut _ _ o.symm (c.extBut _ _ B.symm u))) st λh5 l m =>
    stop e h5 (.inr r) (((q.sub (by simp)).trans (.ext r4 (by simp))).trans (l.sub (by simp))) m
 ·exact freed (c _ _ B.symm u) st λh3 h m=>stop e h3 (.inl e2) (((s.sub (by simp)).trans (.ext c (by simp))).trans (h.sub (by simp))) m
end
end Zo
namespace Zn
open PySem.Sem (wp)
section
variable {prog:U8}{w:W1}{A:W6}{E:U2}{hp:Heap}{g:Array GenState}{d:Drawn}{tk:Nat}{os:OsState}{it l:W9}{i n:Nat}{its:U9}{oi ol:Obj}{R:PySem.Fin->Shared->Prop}
theorem X1u(hh:its[i]?=none->A.handled=none)(gi:hp.get? it=some oi)(di:oi.data=.fields #[.ref l,.int i 0])(gl:hp.get? l=some ol)(dl:ol.data=.seq its n)
  (go:∀x,its[i]?=some x->R (.done (.ret x)) ⟨hp.update it (Obj.mapFields (·.setIfInBounds 1 (rawInt (i+1)))),g,d,tk,os⟩)
  (stop:∀h' e,its[i]?=none->Heap.ExtBut it hp h'->(∃o,h'.get? e=some o/\o.cls=.type "StopIteration")->E (.ref e) ⟨h',g,d,tk,os⟩):
  wpAny (model prog w) A (Builtin.«tuple_iterator.__next__» ⟨[.ref it],[]⟩) R E ⟨hp,g,d,tk,os⟩:=by
 have a:(#[Value.ref l,.int i 0]:U9)[0]?=some (.ref l):=rfl;have f:(#[Value.ref l,.int i 0]:U9)[1]?=some (.int i 0):=rfl;have z0:0<(#[Value.ref l,.int i 0]:U9).size:=by simp
 have b:1<(#[Value.ref l,.int i 0]:U9).size:=by simp
 wp_walk using LR gi di a,LR gi di f,WK gl dl;rw[FN];cases hx:its[i]? with
 | some x =>
  dsimp only;wp_walk using RQ gi di b;exact go x hx
 | none =>
  dsimp only;have c:=hh hx;wp_walk using RQ gi di z0;exact wpAny_raiseNew_none c (stop _ _ hx (((Heap.SameBut.update ..).extBut.push _).push _) ⟨_,Fj _ rfl,U⟩)
end
end Zn
namespace Zp
open Zo
open PySem.Sem (wp)
def Dat (t:Bool)(h:Heap)(l:W9)(xs:U9):Prop:=if t then h.IsTuple l xs else h.IsList l xs
def Ht (t:Bool)(h:Heap)(it l:W9)(i:Nat):Prop:=if t then h.IsTupleIter it l i else h.IsListIter it l i
variable{h h':Heap}{l:W9}
theorem Dat.at{t:Bool}{xs:U9}(d:Dat t h l xs)(e:∀o,h.get? l=some o->h'.get? l=some o):Dat t h' l xs:=by
 cases t<;>exact let ⟨o,q,r⟩:=d;⟨o,e o q,r⟩
variable{it:W9}{i:Nat}
theorem Ht.at{t:Bool}(d:Ht t h it l i)(e:∀o,h.get? it=some o->h'.get? it=some o):Ht t h' it l i:=by
 cases t<;>exact let ⟨o,q,r⟩:=d;⟨o,e o q,r⟩
theorem Ht.obj{t:Bool}(d:Ht t h it l i):∃o,h.get? it=some o/\∀v,o.data≠.cell v:=by
 cases t<;>exact let ⟨o,e,_,q⟩:=d;⟨o,e,λv z=>by rw[q]at z;cases z⟩
theorem Dat.push{t:Bool}{xs:U9}(d:Dat t h l xs)(o:Obj):Dat t (h.push o) l xs:=d.at λ_ q=>Ef _ q
def Stand (t:Bool)(it l:W9)(k:Nat)(xs:U9)(h:Heap):Prop:=Ht t h it l k/\Dat t h l xs
theorem Stand.stays{t:Bool}{k:Nat}{xs:U9}{S:U3}(a:it∉S)(b:l∉S):Jc S (Stand t it l k xs):=λh h' r d=>⟨d.1.at λo q=>r _ o a q,d.2.at λo q=>r _ o b q⟩
section
variable {prog:U8}{w:W1}{A:W6}
variable{Q:Option Value->Shared->Prop}
theorem via{E:U2}{T id:String}{f:Builtin}{a:W9}{s:U7}(sl:Slot T (Str.ofString "__next__") id)(en:entryFor table id=some f)(ar:argsOk id ⟨[.ref a],[]⟩)(ty:s.TypeIs (.ref a) T)
  (h:wpAny (model prog w) A.in1 (f ⟨[.ref a],[]⟩) (λr s'=>∃v,r=.done (.ret v)/\Q (some v) s') E s):wpAny (model prog w) A (callSpecial? (.ref a) (Str.ofString "__next__")) Q E s :=
 Y_ ty sl (RZ sl ty en h ar)
theorem pull{t:Bool}{k:Nat}{xs:U9}(hh:A.handled=none):Pull prog w A it (Stand t it l k xs) (Stand t it l (k+1) xs) xs[k]?:=by
 intro Q E hp g d tk os st td;have p:∀{h'},Heap.SameBut it hp h'->l≠it->Dat t h' l xs:=λr n=>st.2.at λo q=>r.extBut _ _ n q;cases t with
 | false =>
  obtain⟨a,b⟩:hp.IsListIter it l k/\hp.IsList l xs:=st;have n:l≠it:=by
   rintro rfl;obtain⟨o,q,_,r⟩:=a;obtain⟨o',h,_,_,j⟩:=b;rw[q]at h;cases h;rw[r]at j;cases j
  cases f:xs[k]? with
  | some x=>exact wpAny_nextOf_list_item a b f λh' i r=>td.1 x h' f ⟨i,p r n⟩ r
  | none=>exact wpAny_nextOf_list_end hh a b f λh' e r s=>td.2 e h' f r s
 | true =>
  obtain⟨a,b⟩:hp.IsTupleIter it l k/\hp.IsTuple l xs:=st;have ty:(⟨hp,g,d,tk,os⟩:U7).TypeIs (.ref it) "tuple_iterator":=a.typeIs;obtain⟨o,q,c,r⟩:=a;obtain⟨o',h,c',m,j⟩:=b;have n:l≠it:=by rintro rfl;rw[q]at h;cases h;rw[r]at j;cases j
  unfold Builtin.SmallTypes.nextOf;refine Aw (via F.slot_tuple_iterator_next F.entry_tuple_iterator_next (F.args_tuple_iterator_next_1 _) ty (Zn.X1u (λ_=>hh) q r h j (λx f=>⟨x,U,Bl (td.1 x _ f ?_ (Heap.SameBut.update ..))⟩) λh' e f ex s=>td.2 e h' f ex s));refine⟨(⟨_,Rc _ q (Obj.isFreed_of_fields (Obj.data_mapFields r _)),(Obj.cls_mapFields ..).trans c,?_⟩:Heap.IsTupleIter _ it l (k+1)),p (Heap.SameBut.update ..) n⟩;rw[Obj.data_mapFields r];rfl
variable {E:U2}
theorem vH{t1 t2:Bool}{z I O i j m:W9}{k1 k2:Nat}{xs ys:U9}{a b:W2}{s:U7}(hh:A.handled=none)(D:ZipApart z I O i j l m)
  (gz:IsZip s.heap z I O .none) (gI:IsPair s.heap I (.ref i) (.ref j)) (gO:IsPair s.heap O a b) (d1:Stand t1 i l k1 xs s.heap) (d2:Stand t2 j m k2 ys s.heap)
  (go:∀x y h',xs[k1]?=some x->ys[k2]?=some y->IsZip h' z I O (rawInt s.heap.objs.size)->IsPair h' O x y->IsPair h' s.heap.objs.size x y->Stand t1 i l (k1+1) xs h'->Stand t2 j m (k2+1) ys h' ->
   Rest [z,O,i,j] s.heap h'->Q (some (.ref s.heap.objs.size)) ⟨h',s.gens,s.drawn,s.toks,s.os⟩)
  (stop:∀h',xs[k1]?=none\/ys[k2]?=none->Rest [z,O,i,j] s.heap h'->Q none ⟨h',s.gens,s.drawn,s.toks,s.os⟩):wpAny (model prog w) A (pyNext (.ref z)) Q E s:=by
 obtain⟨hp,g,d,tk,os⟩:=s;unfold pyNext;refine Aw (V_ (via F.slot_zip_next F.entry_zip_next (F.args_zip_next_1 _) ⟨_,gz,U⟩ (step gz gI gO ⟨D.TOz,D.TOi1,D.TOi2,D.i1z,D.i2z⟩ (pull (A:=A.in1) hh) (pull (A:=A.in1) hh) d1 d2 ?_ ?_ ?_ ?_ ?_ ?_)))
 ·exact Stand.stays (by simp[D.i1z,D.TOi1.symm,D.i12]) (by simp[D.l1z,D.l1TO,D.l1i2])
 ·exact Stand.stays (by simp[D.i2z,D.TOi2.symm,D.i12.symm]) (by simp[D.l2z,D.l2TO,D.l2i1])
 ·exact Stand.stays (by simp[D.i1z,D.TOi1.symm,D.i12]) (by simp[D.l1z,D.l1TO,D.l1i2])
 ·exact Stand.stays (by simp[D.i2z,D.TOi2.symm,D.i12.symm]) (by simp[D.l2z,D.l2TO,D.l2i1])
 ·exact λx y h' u e2 v k h p t f=>⟨_,U,Bl (go x y h' u e2 v k h p t f)⟩
 ·rintro e h' n r ⟨o,q,c⟩;exact Aw (wpAny_isInstance (b:=true) ⟨o,q,c⟩ isSubtype_stop (Bl (stop h' n r)))
end
noncomputable abbrev G6 (t:Bool)(l:W9):Obj:={ cls:=.type (if t then "tuple_iterator" else "list_iterator"),data:=.fields #[.ref l,.int 0 0]}
theorem zH{t:Bool}(e:h.get? it=some (G6 t l)):Ht t h it l 0:=by
 cases t<;>exact⟨_,e,U,U⟩
theorem Wf{o0 o1 o2 o3 o4:Obj}(f0:o0.isFreed=false)(f1:o1.isFreed=false)(f2:o2.isFreed=false)(f3:o3.isFreed=false)(f4:o4.isFreed=false){H:Heap}(e:H=((((h.push o0).push o1).push o2).push o3).push o4):
  H.get? h.objs.size=some o0/\H.get? (h.objs.size+1)=some o1/\H.get? (h.objs.size+2)=some o2/\H.get? (h.objs.size+3)=some o3/\H.get? (h.objs.size+4)=some o4/\∀c o,h.get? c=some o->H.get? c=some o:=by
 subst e;have w:∀{h:Heap}{a:W9}{o o':Obj},h.get? a=some o->(h.push o').get? a=some o:=λq=>Ef _ q;have b:(h.push o0).objs.size=h.objs.size+1:=Lb ..;have s2:((h.push o0).push o1).objs.size=h.objs.size+2:=by rw[Lb,b]
 have s3:(((h.push o0).push o1).push o2).objs.size=h.objs.size+3:=by rw[Lb,s2]
 have s4:((((h.push o0).push o1).push o2).push o3).objs.size=h.objs.size+4:=by rw[Lb,s3]
 refine⟨w (w (w (w (Fj _ f0)))),?_,?_,?_,?_,λc o q=>w (w (w (w (w q))))⟩
 ·rw[<-b];exact w (w (w (Fj _ f1)))
 ·rw[<-s2];exact w (w (Fj _ f2))
 ·rw[<-s3];exact w (Fj _ f3)
 ·rw[<-s4];exact Fj _ f4
structure New (t1 t2:Bool) (h h':Heap) (l m:W9):Prop where
 z:IsZip h' (h.objs.size+4) (h.objs.size+2) (h.objs.size+3) .none
 I:IsPair h' (h.objs.size+2) (.ref h.objs.size) (.ref (h.objs.size+1))
 O:IsPair h' (h.objs.size+3) .none .none
 i:Ht t1 h' h.objs.size l 0
 j:Ht t2 h' (h.objs.size+1) m 0
 k:Rest [] h h'
section
variable {prog:U8}{w:W1}{A:W6}{E:U2}{s:U7}
theorem uw{t:Bool}{xs:U9}{Q:U2}(hl:Dat t s.heap l xs)(h:Q (.ref s.heap.objs.size) {s with heap:=s.heap.push (G6 t l)}):wpAny (model prog w) A (pyIter (.ref l)) Q E s:=by
 cases t
 ·exact Yw (show s.heap.IsList l xs from hl) h
 ·exact fX (show s.heap.IsTuple l xs from hl) h
theorem Y9m(t1 t2:Bool)(l m:W9)(xs ys:U9):
  Meets (Builtin.«zip.__new__» ⟨[.type "zip",.ref l,.ref m],[]⟩) (λ_ R s=>Dat t1 s.heap l xs/\Dat t2 s.heap m ys /\
   ∀h',New t1 t2 s.heap h' l m->R (.ok (.ret (.ref (s.heap.objs.size+4)))) {s with heap:=h'}):=
 .of_wp λprog w A R s h=>by
  rcases s with ⟨hp,g,d,tk,os⟩;rcases h with ⟨b1,b2,h⟩;have b:=sub_zip;have n:Dat t1 (Shared.heap ⟨hp,g,d,tk,os⟩) l xs:=b1;have f:Dat t2 (Shared.heap ⟨hp.push (G6 t1 l),g,d,tk,os⟩) m ys:=b2.push _;wp_walk using uw n,uw f;have a:∀n1 n2 n3 n4,n1=hp.objs.size+1->n2=hp.objs.size+2->n3=hp.objs.size+3->n4=hp.objs.size+4 ->
    R (.ok (.ret (.ref n4))) ⟨((((hp.push (G6 t1 l)).push (G6 t2 m)).push { cls:=.type "tuple",data:=.seq #[.ref hp.objs.size,.ref n1]}).push { cls:=.type "tuple",data:=.seq #[.none,.none]}).push
     { cls:=.type "zip",data:=.fields #[.none,.bool false,.bool false,.ref n2,.ref n3]},g,d,tk,os⟩:=by
   rintro _ _ _ _ rfl rfl rfl rfl;obtain⟨j,e,r,k,i,p⟩:=Wf (h:=hp) (o0:=G6 t1 l) (o1:=G6 t2 m) (o2:={ cls:=.type "tuple",data:=.seq #[.ref hp.objs.size,.ref (hp.objs.size+1)]}) (o3:={ cls:=.type "tuple",data:=.seq #[.none,.none]})
    (o4:={ cls:=.type "zip",data:=.fields #[.none,.bool false,.bool false,.ref (hp.objs.size+2),.ref (hp.objs.size+3)]}) rfl rfl rfl rfl rfl rfl
   exact h _ ⟨i,r,k,zH j,zH e,λc o _ q=>p c o q⟩
  exact⟨_,U,a _ _ _ _ (by simp only[Lb]) (by simp only[Lb]) (by simp only[Lb]) (by simp only[Lb])⟩
theorem X3z{t1 t2:Bool}{m:W9}{xs ys:U9}{Q:U2}(b1:Dat t1 s.heap l xs)(b2:Dat t2 s.heap m ys)
  (k:∀h',New t1 t2 s.heap h' l m->Q (.ref (s.heap.objs.size+4)) {s with heap:=h'}):wpAny (model prog w) A (call (.type "zip") [.ref l,.ref m]) Q E s :=
 callType_new F.called_zip (by decide) (F.typeCall_zip_2 _ _) (F.newCall_zip_2 _ _) (λo=>F.args_object_init_3 o _ _) F.entry_zip_new (Y9m t1 t2 l m xs ys) ⟨b1,b2,λh' n=>⟨⟨_,n.z,U⟩,k h' n⟩⟩
end
end Zp
namespace L2
section
variable {X:Cx}{pins:U1}{σ:St}{H:Hp}{s:U7}{h':Heap}
theorem Inv.turnedL{t':Nat}{ch:U3}(I:Inv X pins σ H s)(k:∀b o,b∉ch->s.heap.get? b=some o->h'.get? b=some o)(hf:∀b∈ch,Dl X pins H b):Inv X pins σ H {s with heap:=h',toks:=t'}:=by
 have d:∀b u,H b=some u->b∉ch:=λb u e z=>by rw[(hf b z).1]at e;cases e
 refine I.step (g':=s.gens) (d':=s.drawn) (ch:=ch) (λb hb=>⟨(hf b hb).2.2.2.1,(hf b hb).2.1,(hf b hb).2.2.2.2.1,(hf b hb).2.2.2.2.2⟩) (λb o _ _ a e _=>k b o a e) (λb o _ _ a e _=>⟨o.slots,k b o a e⟩) (λ_ _ _ _ n=>n)
  (λb o a e=>⟨o,k b o a e⟩) (λ_ _ e=>e) (λ_ _ _ e=>e) (λb ps e=>⟨#[],by rw[e];simp⟩) (λm hm=>?_) (λb u e=>?_) I.bare
 ·obtain⟨o,es,ep,f,r⟩:=hm;exact⟨o,es,ep,k _ o (λz=>(hf _ z).2.1 rfl) f,r⟩
 ·refine(I.hok b u e).stay (λc v a q=>k c v ?_ q) (λ_ q=>q) λ_ _ q=>q;rcases a with z | z
  ·rw[z];exact d b u e
  ·exact d c _ z
theorem Inv.turnedT{t':Nat}{ch:U3}{T:W9}{xs:List V}{its:U5}(I:Inv X pins σ H s)(k:∀b o,b∉ch->s.heap.get? b=some o->h'.get? b=some o)(hf:∀b∈ch,Dl X pins H b)(hT:s.heap.objs.size<=T)(hv:Vals xs its)(hz:xs.length<=sizeLine)(ht:IsTup h' T its.toArray):
  Inv X pins σ (upd H T (.tup xs)) {s with heap:=h',toks:=t'}:=by
 have f:∀b u,H b=some u->b∉ch:=λb u e z=>by rw[(hf b z).1]at e;cases e
 have g:H T=none:=I.hok.fresh hT;have h:∀b o,s.heap.get? b=some o->b≠T:=λb o e=>DY (Cu (CN e) hT);have a:∀b u,H b=some u->b≠T:=λb u e z=>by rw[z,g]at e;cases e
 refine I.step (g':=s.gens) (d':=s.drawn) (ch:=ch) (λb hb=>⟨(hf b hb).2.2.2.1,(hf b hb).2.1,(hf b hb).2.2.2.2.1,(hf b hb).2.2.2.2.2⟩) (λb o _ _ d e _=>k b o d e) (λb o _ _ d e _=>⟨o.slots,k b o d e⟩)
  (λb o _ e n=>by rw[Cd (h b o e)];exact n)
  (λb o d e=>⟨o,k b o d e⟩) (λb ys e=>by rw[Cd (a b _ e)];exact e) (λb o u e=>by rw[Cd (a b _ e)];exact e) (λb ps e=>⟨#[],by rw[Cd (a b _ e),e];simp⟩) (λm hm=>?_) (λb u e=>?_) I.bare
 ·obtain⟨o,es,ep,i,r⟩:=hm;exact⟨o,es,ep,k _ o (λz=>(hf _ z).2.1 rfl) i,r⟩
 ·by_cases hb:b=T
  ·subst hb;rw[Ar]at e;cases e;exact⟨hz,its,hv,ht⟩
  ·rw[Cd hb]at e;refine(I.hok b u e).stay (λc v d q=>k c v ?_ q) (λc q=>by rw[Cd (a c _ q)];exact q) λc ys q=>by rw[Cd (a c _ q)];exact q
   rcases d with z | z
   ·rw[z];exact f b u e
   ·exact f c _ z
end
def Jd (t:Bool)(K:U0)(H:Hp)(a:W9)(xs:List V):Prop:=if t then Ai K H a xs else Ag K H a xs
theorem Inv.sqx{X:Cx}{pins:U1}{σ:St}{H:Hp}{s:U7}{t:Bool}{a:W9}{xs:List V}(I:Inv X pins σ H s)(h:Jd t X.K H a xs):∃its:List Value,Vals xs its/\Zp.Dat t s.heap a its.toArray/\xs.length<=sizeLine:=by
 cases t
 ·obtain⟨its,v,p,z⟩:=I.list (show Ag X.K H a xs from h);exact⟨its,v,p.isList,z⟩
 ·obtain⟨its,v,p,z⟩:=I.tuple (show Ai X.K H a xs from h);exact⟨its,v,p,z⟩
variable{ys:List V}
theorem Inv.sqx_inj{X:Cx}{pins:U1}{σ:St}{H:Hp}{s:U7}{t:Bool}{a:W9}{xs:List V}(I:Inv X pins σ H s)(h:Jd t X.K H a xs)(h':Jd t X.K H a ys):xs=ys:=by
 cases t
 ·exact I.list_inj (show Ag X.K H a xs from h) h'
 ·exact I.tuple_inj (show Ai X.K H a xs from h) h'
def YT (t1 t2:Bool)(K:U0)(l1 l2:W9):It :=
 ⟨λi H=>∃xs x ys y,Jd t1 K H l1 xs/\xs[i]?=some x/\Jd t2 K H l2 ys/\ys[i]?=some y,
 λi H v H'=>∃T x y,v=.ref T/\H T=none/\H'=upd H T (.tup [x,y])/\(∀xs,Jd t1 K H l1 xs->xs[i]?=some x)/\∀ys,Jd t2 K H l2 ys->ys[i]?=some y,
 λi H=>∃xs ys,Jd t1 K H l1 xs/\Jd t2 K H l2 ys/\(xs.length<=i\/ys.length<=i)⟩
theorem X1t{P:U8}{w:W1}{K:U0}{es:List Expr}{kk:Nat}{tp:Pos}{t1 t2:Bool}{z TI TO i1 i2 l1 l2:W9}(D:ZipApart z TI TO i1 i2 l1 l2):
  Turn P w K (.Tuple es kk tp) (YT t1 t2 K l1 l2) [z,TI,TO,i1,i2] z (λi h=>IsZip h z TI TO .none/\IsPair h TI (.ref i1) (.ref i2)/\(∃a b,IsPair h TO a b)/\Zp.Ht t1 h i1 l1 i/\Zp.Ht t2 h i2 l2 i) where
 mem:=by simp
 obj:=λi h st b hb=>by
  obtain⟨c,d,⟨x,y,g⟩,f,j⟩:=st;simp only[Dg,Ir,Ip]at hb;rcases hb with rfl | rfl | rfl | rfl | rfl
  ·exact⟨_,c,λv q=>by have t:Data.fields _=Data.cell v:=q;cases t⟩
  ·exact⟨_,d,λv q=>by have t:Data.seq _ _=Data.cell v:=q;cases t⟩
  ·exact⟨_,g,λv q=>by have t:Data.seq _ _=Data.cell v:=q;cases t⟩
  ·exact f.obj
  ·exact j.obj
 keep:=λi h h' st k=>by
  obtain⟨c,d,⟨x,y,g⟩,f,j⟩:=st;exact⟨k z (by simp) _ c,k TI (by simp) _ d,⟨x,y,k TO (by simp) _ g⟩,f.at λo e=>k i1 (by simp) o e,j.at λo e=>k i2 (by simp) o e⟩
 item:=by
  intro X V Q Y S i pins s σ H E I J st W;subst V Q Y;obtain⟨xs,x,ys,y,F,Z,G,hy⟩:=W;obtain⟨c,d,⟨u1,u2,g⟩,f,j⟩:=st;obtain⟨its,T,O,hz⟩:=I.sqx F;obtain⟨its',l,p,L⟩:=I.sqx G;obtain⟨u,r,rx⟩:=T.get Z;obtain⟨C,B,ry⟩:=l.get hy;refine Zp.vH (I.ok.hd S) D c d g (d1:=⟨f,O⟩) (d2:=⟨j,p⟩) (λwx wy h' M N b1 b2 b5 b3 b4 bk=>?_) (λh' n _=>?_);rotate_left
  ·exfalso;rcases n with n | n
   ·rw[show its.toArray[i]?=some u by simpa using r]at n;cases n
   ·rw[show its'.toArray[i]?=some C by simpa using B]at n;cases n
  obtain rfl:u=wx:=Option.some.inj ((show its.toArray[i]?=some u by simpa using r).symm.trans M);obtain rfl:C=wy:=Option.some.inj ((show its'.toArray[i]?=some C by simpa using B).symm.trans N);refine⟨_,U,wpAny_letOwnedTupleGo_zip b1 λh2 c1 sb=>?_⟩;have zT:s.heap.objs.size≠z:=Ms (CN c);have k2:∀b o,b∉[z,TI,TO,i1,i2]->s.heap.get? b=some o->h2.get? b=some o:=λb o hb e=>by
   simp only[Dg,Ir,Ip,not_or]at hb;exact sb.extBut b o hb.1 (bk b o (by simp[hb]) e)
  have hT:IsTup h2 s.heap.objs.size ([u,C]:U5).toArray:=⟨_,sb.extBut _ _ zT b5,U,_,U⟩;refine⟨.ref s.heap.objs.size,upd H s.heap.objs.size (.tup [x,y]),I.turnedT (t':=s.toks) k2 J (Bd _) (.cons rx (.cons ry .nil)) (by show 2<=sizeLine;decide) hT,U,⟨_,x,y,U,I.hok.fresh (Bd _),U,λa0 h1=>?_,λa6 h1=>?_⟩,⟨c1,?_,⟨u,C,?_⟩,?_,?_⟩,λb hb=>?_⟩
  ·rw[I.sqx_inj h1 F];exact Z
  ·rw[I.sqx_inj h1 G];exact hy
  ·exact sb.extBut _ _ D.TIz (bk _ _ (by simp[D.TIz,D.TITO,D.TIi1,D.TIi2]) d)
  ·exact sb.extBut _ _ D.TOz b2
  ·exact b3.1.at λo q=>sb.extBut _ _ D.i1z q
  ·exact b4.1.at λo q=>sb.extBut _ _ D.i2z q
  ·have R:b<s.heap.objs.size:=by
    simp only[Dg,Ir,Ip]at hb;rcases hb with rfl | rfl | rfl | rfl | rfl
    ·exact CN c
    ·exact CN d
    ·exact CN g
    ·obtain⟨o,e,_⟩:=f.obj;exact CN e
    ·obtain⟨o,e,_⟩:=j.obj;exact CN e
   rw[Cd (DY R)];exact(J b hb).1
 done:=by
  intro X V Q Y S i pins s σ H E I J st W;subst V Q Y;obtain⟨xs,ys,F,G,A⟩:=W;obtain⟨c,d,⟨u1,u2,g⟩,f,j⟩:=st;obtain⟨its,T,O,hz⟩:=I.sqx F;obtain⟨its',l,p,L⟩:=I.sqx G;have e1:=T.length;have e2:=l.length;have m:its.toArray[i]?=none\/its'.toArray[i]?=none:=by
   rcases A with h | h
   ·left;simp;lia
   ·right;simp;lia
  refine Zp.vH (I.ok.hd S) D c d g (d1:=⟨f,O⟩) (d2:=⟨j,p⟩) (λwx wy h' M N b1 b2 b5 b3 b4 bk=>?_) (λh' n bk=>⟨U,I.turnedL (t':=s.toks) (λb o hb e=>?_) J⟩)
  ·exfalso;rcases m with n | n
   ·rw[M]at n;cases n
   ·rw[N]at n;cases n
  ·simp only[Dg,Ir,Ip,not_or]at hb;exact bk b o (by simp[hb]) e
 self:=λ_ _ _ _ _ st h=>wpAny_pyIter_zip st.1 h
section
variable {X:Cx}{es:List Expr}{kk:Nat}{tp:Pos}
def kW (t1 t2:Bool)(K:U0)(ta:TA):TI:=λσ H R=>ta σ H λvs H1=>∃l1 l2 xs ys,vs=[.ref l1,.ref l2]/\Jd t1 K H1 l1 xs/\Jd t2 K H1 l2 ys/\R (YT t1 t2 K l1 l2) H1
theorem yE(t1 t2:Bool){a b:Expr}{ta:TA}{p pos:Pos}(hg:Gl X "zip")(hm:X.mg "zip"=none)(ha:PA X [a,b] ta)(hs:starEach [a,b] X.env=[(false,eval a X.env),(false,eval b X.env)]:=by rfl)(hs2:starEach [b] X.env=[(false,eval b X.env)]:=by rfl):
  PI X (.Tuple es kk tp) (.Call (.Name "zip" p) [a,b] [] pos) (kW t1 t2 X.K ta):=by
 intro pins s σ H R I h;refine Call_ (Rv I hg hm boot_zip (PyProof.Rows.callWith_type1 (Bk (ha pos pins s σ H _ I h) λus d ⟨vs,H1,i,y,x⟩=>?_) (by rw[hs,hs2]) (by rw[hs2];rfl)));obtain⟨l1,l2,xs,ys,e,h1,h2,q⟩:=x;subst e;cases y with
 | cons r rr =>
  cases rr with
  | cons r' rr =>
   cases rr;cases r;cases r';obtain⟨its,F,m,E⟩:=i.sqx h1;obtain⟨its',A,f,v⟩:=i.sqx h2;refine Zp.X3z m f λh' ⟨n,z,w,t,C,k⟩=>?_;have u:∀c o,d.heap.get? c=some o->h'.get? c=some o:=λc o q=>k c o (by simp) q;have B:Inv X pins σ H1 {d with heap:=h'}:=i.kept (t':=d.toks) u;have l:l1<d.heap.objs.size:=by
    cases t1
    ·obtain⟨o,e,_⟩:=(show d.heap.IsList l1 _ from m);exact CN e
    ·obtain⟨o,e,_⟩:=(show d.heap.IsTuple l1 _ from m);exact CN e
   have j:l2<d.heap.objs.size:=by
    cases t2
    ·obtain⟨o,e,_⟩:=(show d.heap.IsList l2 _ from f);exact CN e
    ·obtain⟨o,e,_⟩:=(show d.heap.IsTuple l2 _ from f);exact CN e
   have D:ZipApart (d.heap.objs.size+4) (d.heap.objs.size+2) (d.heap.objs.size+3) d.heap.objs.size (d.heap.objs.size+1) l1 l2:=zipApart_new l j;refine wpAny_pyIter_zip n ⟨_,_,_,_,H1,U,B,X1t D,⟨n,z,⟨_,_,w⟩,t,C⟩,λb hb=>?_,q⟩;have g:d.heap.objs.size<=b:=by
    simp only[Dg,Ir,Ip]at hb;rcases hb with rfl | rfl | rfl | rfl | rfl
    ·exact Yv _ _
    ·exact Yv _ _
    ·exact Yv _ _
    ·exact Bd _
    ·exact Yv _ _
   exact i.fpOk g (i.hok.fresh g)
end
theorem xX{t1 t2:Bool}{K:U0}{l1 l2:W9}{g:TG}{xs:List V}{te:TE}{fr:St}{H1:Hp}{acc:W9}{Q:VK}(Pv:Nat->List V->Hp->Prop)(hxy:xs.length=ys.length)(hn:xs.length<=sizeLine)(h0:Pv 0 [] (upd H1 acc (.lst [])))
  (hg:∀{a:W9}{x y v1 v2:V}{w1 w2:Option V}{H:Hp}{Q:St->Hp->Prop},H a=some (.tup [x,y])->Q (some x::some y::fr) H->g (.ref a) (w1::w2::fr) H Q)
  (hl:∀i zs H,Pv i zs H->Jd t1 K H l1 xs/\Jd t2 K H l2 ys)
  (hs:∀i x y zs H T (N:V->Hp->Prop),xs[i]?=some x->ys[i]?=some y->zs.length=i->Pv i zs H->H T=none->(∀z c,c acc=some (.lst zs)->Pv (i+1) (zs++[z]) (upd c acc (.lst (zs++[z])))->N z c)->te (some x::some y::fr) (upd H T (.tup [x,y])) N)
  (hd:∀zs H,zs.length=xs.length->Pv xs.length zs H->Q (.ref acc) H):KH (YT t1 t2 K l1 l2) g te (none::none::fr) H1 acc Q:=by
 refine⟨λi m zs f H2=>m=xs.length-i/\i<=xs.length/\zs.length=i/\(∃v w,f=v::w::fr)/\Pv i zs H2,⟨xs.length,by simp,Ed _,U,⟨_,_,U⟩,h0⟩,?_⟩;rintro i m zs f H2 ⟨rfl,hi,b,⟨v,w,rfl⟩,p⟩;obtain⟨d,s2⟩:=hl i zs H2 p;by_cases hlt:i<xs.length
 ·have q:xs[i]?=some xs[i]:=by simp[hlt]
  have e2:ys[i]?=some (ys[i]'(by lia)):=by simp[show i<ys.length by lia]
  refine .inr ⟨⟨xs,_,ys,_,d,q,s2,e2⟩,λu r j=>?_⟩;obtain⟨T,x,y,rfl,k,rfl,h1,h2⟩:=j;have l:=h1 xs d;have n:=h2 ys s2;refine hg (v1:=x) (v2:=y) (Ar) ?_;refine hs i x y zs H2 T _ l n b p k λz c o h=>⟨o,by lia,xs.length-(i+1),by lia,U,hlt,by rw[DP,b];rfl,⟨_,_,U⟩,h⟩
 ·have e:i=xs.length:=by lia
  subst e;exact .inl ⟨⟨xs,ys,d,s2,.inl (Bd _)⟩,hd zs H2 b p⟩
end L2
namespace Bt
theorem nF(x y:Nat):(x&&&y)=2*((x / 2)&&&(y / 2))+(x%2)*(y%2):=by
 have h1:(x&&&y) / 2=(x / 2)&&&(y / 2):=Nat.and_div_two;have h2:(x&&&y)%2=1↔x%2=1/\y%2=1:=Nat.and_mod_two_eq_one;rcases Ka x with a | a<;>rcases Ka y with b | b<;>rw[a,b]at h2 ⊢<;>lia
theorem W2l(x y:Nat):(x ||| y)=2*((x / 2) ||| (y / 2))+(x%2+y%2-(x%2)*(y%2)):=by
 have h1:(x ||| y) / 2=(x / 2) ||| (y / 2):=Nat.or_div_two
 have h2:(x ||| y)%2=1↔x%2=1\/y%2=1:=Nat.or_mod_two_eq_one;rcases Ka x with a | a<;>rcases Ka y with b | b<;>rw[a,b]at h2 ⊢<;>lia
def Half (x y:Int):Prop:=Builtin.bitAnd x y=2*Builtin.bitAnd (x / 2) (y / 2)+(x%2)*(y%2)
variable{x y:Int}
theorem Half.swap(h:Half x y):Half y x:=by
 unfold Half at h ⊢;rw[bitAnd_comm y x,bitAnd_comm (y / 2),Int.mul_comm (y%2)];exact h
theorem Half.flip(h:Half x (Builtin.bitNot y)):Half x y:=by
 unfold Half at h ⊢;have e:=bitAnd_not x (Builtin.bitNot y);have e2:=bitAnd_not (x / 2) (Builtin.bitNot (y / 2));rw[Yo]at e e2;have q:Builtin.bitNot (y / 2)=Builtin.bitNot y / 2:=by unfold Builtin.bitNot;lia
 have p:x%2*(y%2)=x%2-x%2*(Builtin.bitNot y%2):=by
  rw[show y%2=1-Builtin.bitNot y%2 by unfold Builtin.bitNot;lia,Int.mul_sub,Int.mul_one]
 rw[e,e2,q,h,p];lia
theorem Half.pos(hx:0<=x)(hy:0<=y):Half x y:=by
 have h:∀{z:Int},0<=z->z.toNat / 2=(z / 2).toNat/\((z.toNat%2:Nat):Int)=z%2:=λh=>by lia
 unfold Half;rw[bitAnd_pp hx hy,bitAnd_pp (Int.ediv_nonneg hx (by decide)) (Int.ediv_nonneg hy (by decide)),nF,(h hx).1,(h hy).1,<-(h hx).2,<-(h hy).2,Int.natCast_add,Int.natCast_mul,Int.natCast_mul];rfl
theorem Half.right(hx:0<=x)(y:Int):Half x y :=
 (Classical.em (0<=y)).elim (Half.pos hx) λa=>(Half.pos hx (bitNot_nonneg.mpr a)).flip
theorem nU(x y:Int):Builtin.bitAnd x y=2*Builtin.bitAnd (x / 2) (y / 2)+(x%2)*(y%2):=
 (Classical.em (0<=x)).elim (λa=>Half.right a y) λa=>(Half.right (bitNot_nonneg.mpr a) y).swap.flip.swap
theorem X7e(x y:Int):Builtin.bitOr x y=2*Builtin.bitOr (x / 2) (y / 2)+(x%2+y%2-(x%2)*(y%2)):=by
 rw[bitOr_and,bitOr_and,nU];lia
theorem mQ{v:Nat}:(2:Int)^(v+1) ∣ x↔x%2=0/\(2:Int)^v ∣ x / 2:=by
 constructor
 ·rintro ⟨k,rfl⟩;have e:(2:Int)^(v+1)*k=2*(2^v*k):=by rw[Te];grind
  rw[e];exact⟨by lia,⟨k,by lia⟩⟩
 ·rintro ⟨b,k,a⟩;refine⟨k,?_⟩;have e:(2:Int)^(v+1)*k=2*(2^v*k):=by rw[Te];grind
  rw[e,<-a];lia
theorem Ue:∀(v:Nat) (x y:Int),(2:Int)^v ∣ Builtin.bitOr x y↔(2:Int)^v ∣ x/\(2:Int)^v ∣ y
 | 0,x,y=>by simp
 | v+1,x,y=>by
  rw[mQ,mQ,mQ];have e:=X7e x y;have f:=Ue v (x / 2) (y / 2);have ex:=dh x;have d:=dh y;rcases ex with a | a<;>rcases d with b | b<;>rw[a,b]at e ⊢
  ·have e2:Builtin.bitOr x y / 2=Builtin.bitOr (x / 2) (y / 2):=by lia
   rw[e2,f];have c:Builtin.bitOr x y%2=0:=by lia
   simp[c]
  all_goals
   have c:Builtin.bitOr x y%2=1:=by lia
   simp[c]
theorem Y6r(n:Nat):n<2^n:=Nat.lt_two_pow_self
theorem rW(h:∀v:Nat,(2:Int)^v ∣ x):x=0:=by
 have h1:=h x.natAbs;apply Classical.byContradiction;intro b;have h2:=Int.natAbs_dvd_natAbs.mpr h1;have a:=Nat.le_of_dvd (by lia) h2;rw[Int.natAbs_pow]at a;have:=Y6r x.natAbs;have e:(2:Int).natAbs=2:=rfl;rw[e]at a;lia
theorem nG:Builtin.bitOr x y=0↔x=0/\y=0:=by
 constructor
 ·intro h;have hd:∀v:Nat,(2:Int)^v ∣ Builtin.bitOr x y:=λv=>by rw[h];exact Int.dvd_zero _
  exact⟨rW λv=>((Ue v x y).mp (hd v)).1,rW λv=>((Ue v x y).mp (hd v)).2⟩
 ·rintro ⟨rfl,rfl⟩;decide +kernel
theorem sY:∀(n:Nat) (p:Int),p.natAbs<n->p≠0->∃(v:Nat) (q:Int),p=2^v*q/\q%2=1/\Builtin.bitAnd p (-p)=((2^v:Nat):Int)
 | 0,p,h,_=>by lia
 | n+1,p,h,hp=>by
  rcases dh p with h0 | h1
  ·obtain⟨v,q,e,o,b⟩:=sY n (p / 2) (by lia) (by lia);refine⟨v+1,q,?_,o,?_⟩
   ·have e2:(2:Int)^(v+1)*q=2*(2^v*q):=by rw[Te];grind
    rw[e2,<-e];lia
   ·rw[nU,show (-p) / 2=-(p / 2) by lia,b,h0,Mt];lia
  ·refine⟨0,p,by simp,h1,?_⟩;rw[nU,show (-p) / 2=Builtin.bitNot (p / 2) by unfold Builtin.bitNot;lia,bitAnd_not,bitAnd_self,h1,show (-p)%2=1 by lia];rw[j4];rfl
theorem nW(v:Nat):Builtin.Int.intBits ((2^v:Nat):Int)=v+1:=by
 unfold Builtin.Int.intBits;have hp:0<2^v:=Cq v;have a:((((2^v:Nat):Int)) == 0)=false:=by
  rw[beq_eq_false_iff_ne];lia
 rw[a,Int.natAbs_natCast,Nat.log2_two_pow];rfl
end Bt
namespace L2
section
variable {X:Cx}
def YW (i j:Int):Prop:=∃a,Sz a i/\0<=j/\(a:Int)+j<=1048576
theorem Gf:Et X (binaryOp .LShift) (rI YW λi j=>.int (i*2^j.toNat)):=Rk λi j _ _ _ _ _ b q=>by
 obtain⟨a,h1,h2,c⟩:=b;have:=h1.bits;exact lshift_int h2 (by lia) q
theorem P0:pJ X "int.bit_length" (λx xs H Q=>∃i,x=.int i/\xs=[]/\Q (.int (Builtin.Int.intBits i:Nat)) H):=by
 intro pins s σ H x xs v us Q I a rs h;obtain⟨i,rfl,rfl,q⟩:=h;obtain⟨t,rfl⟩:=a;cases rs;refine call_gives Od (typeIs_int s i t) PySem.F.entry_int_bit_length (PySem.F.args_int_bit_length_1 _) (PySem.AutoIntG2.int_bit_length_int_0 i t) ?_;exact⟨.int (Builtin.Int.intBits i:Nat),H,I.tok _,⟨_,U⟩,q⟩
theorem lV(hc:X.calm=true):CP X (.builtin "any") (λxs H Q=>∃(p:W9) (bs:List Bool),xs=[.ref p]/\Ag X.K H p (bs.map V.bl)/\Q (.bl (bs.any id)) H):=by
 intro pins s σ H xs us Q I r h;obtain⟨p,bs,rfl,t,q⟩:=h;obtain⟨u,rfl,f⟩:=r.one;cases f;obtain⟨its,l,g,z⟩:=I.list t;have a:its.length=bs.length:=by rw[<-l.length,Az]
 refine call_any_walk (Yw g.isList ?_)
 have W:=Walks.list (prog:=X.prog) (w:=X.w) (A:=X.A.in1) (show X.A.in1.handled=none from I.ok.hd hc) s.heap.objs.size p (by
  obtain⟨o,e,_⟩:=g.isList
  exact DY (CN e)) its.toArray
 refine⟨s.heap.objs.size,_,_,_,_,_,λi=>bs.getD i false,U,W,⟨⟨_,Fj _ rfl,U,U⟩,g.isList.push _⟩,?_,λh' tk n=>?_⟩
 ·intro i v s' B C y x;have d:its[i]?=some v:=by simpa using y
  have hi:i<bs.length:=by rw[<-a];exact(Fe.mp d).1
  have hb:(bs.map V.bl)[i]?=some (.bl (bs.getD i false)):=by
   rw[Bu,Cm hi,Bp,Cm hi];rfl
  obtain⟨u,m,f⟩:=l.get hb;rw[d]at m;cases m;cases f;exact O7 x
 ·have e:(List.range its.toArray.size).any (λi=>bs.getD i false)=bs.any id:=by
   rw[Ep,a];rw[Tj,Qc,Qc];constructor
   ·rintro ⟨i,hi,hb⟩;have c:i<bs.length:=Ew.mp hi;rw[Bp,Cm c]at hb;exact⟨bs[i],Oa c,hb⟩
   ·rintro ⟨b,hb,j⟩;obtain⟨i,hi,rfl⟩:=O8.mp hb;refine⟨i,Ew.mpr hi,?_⟩;rw[Bp,Cm hi];exact j
  rw[e];refine⟨.bl (bs.any id),H,?_,U,q⟩;exact I.kept (t':=tk) λb o k=>n b o (by simp;exact DY (CN k)) (Ef _ k)
def Vw (K:U0)(neg:Bool):R2:=λx y H Q=>∃(a b:W9) (ns ms:U6),x=.ref a/\y=.ref b/\Ag K H a (ns.map V.int)/\Ag K H b (ms.map V.int)/\Q (.bl (if neg then !decide (ns=ms) else decide (ns=ms))) H
theorem X7h(hu:X.A.units+64<cLine):Et X (compareOp .NotEq) (Vw X.K true):=by
 intro pins s σ H x y v u Q I e d h;obtain⟨a,b,ns,ms,rfl,rfl,h1,h2,q⟩:=h;cases e;cases d;obtain⟨its,g,p,_⟩:=I.list h1;obtain⟨its',c,f,_⟩:=I.list h2;exact PySem.W.ne_intsK p.isList (Nr g) f.isList (Nr c) hu ⟨.bl (!decide (ns=ms)),H,I,U,q⟩
end
end L2
namespace Am
noncomputable abbrev p2 (h:Int):Int:=2^h.toNat
theorem W1w(h:Int):0<p2 h:=Yg (by decide)
theorem oU(h:Int):p2 h≠0:=by have:=W1w h;lia
variable{a b:Int}
theorem xu(ha:0<=a)(hb:0<=b):p2 (a+b)=p2 a*p2 b:=by
 unfold p2;rw[show (a+b).toNat=a.toNat+b.toNat by lia,Int.pow_add]
theorem Ug(hb:0<=b)(h:b<=a):p2 a=p2 (a-b)*p2 b:=by
 rw[<-xu (by lia) hb];congr 1;lia
structure Ly (a b c d h:Int):Prop where
 nn:0<=h
 odd:h=0\/a%2=1\/b%2=1\/c%2=1\/d%2=1
def Hi (x h y g:Int):Prop:=x*p2 g=y*p2 h
structure Cz (a b c d h a' b' c' d' h':Int):Prop where
 e1:Hi a h a' h'
 e2:Hi b h b' h'
 e3:Hi c h c' h'
 e4:Hi d h d' h'
variable{c d h a' b' c' d' h':Int}
theorem Cz.symm(s:Cz a b c d h a' b' c' d' h'):Cz a' b' c' d' h' a b c d h:=⟨s.e1.symm,s.e2.symm,s.e3.symm,s.e4.symm⟩
variable{x y g:Int}
theorem Hi.trans{z k:Int}(a:Hi x h y g)(b:Hi y g z k):Hi x h z k:=by
 unfold Hi at *;have h1:(x*p2 k)*p2 g=(z*p2 h)*p2 g:=by
  have c:(x*p2 k)*p2 g=(x*p2 g)*p2 k:=by grind
  have e2:(z*p2 h)*p2 g=(z*p2 g)*p2 h:=by grind
  rw[c,e2,a,<-b];grind
 exact qZ (oU g) h1
theorem Cz.trans{a2 b2 c2 d2 h2:Int}(s:Cz a b c d h a' b' c' d' h')(t:Cz a' b' c' d' h' a2 b2 c2 d2 h2):Cz a b c d h a2 b2 c2 d2 h2 :=
 ⟨s.e1.trans t.e1,s.e2.trans t.e2,s.e3.trans t.e3,s.e4.trans t.e4⟩
theorem Hi.lift(hh:0<=h)(hg:h<=g)(e:Hi x h y g):y=x*p2 (g-h):=by
 unfold Hi at e;rw[Ug hh hg]at e;have:(x*p2 (g-h))*p2 h=y*p2 h:=by rw[<-e];grind
 exact(qZ (oU h) this).symm
theorem Zh{n:Int}(hn:0<n):(x*p2 n)%2=0:=by
 have e:p2 n=p2 (n-1)*2:=by
  rw[Ug (a:=n) (b:=1) (by decide) (by lia)];rfl
 rw[e,<-Yn];lia
theorem Ly.unique_le(x:Ly a b c d h)(y:Ly a' b' c' d' h')(s:Cz a b c d h a' b' c' d' h')(hle:h<=h'):a=a'/\b=b'/\c=c'/\d=d'/\h=h':=by
 have e1:=s.e1.lift x.nn hle;have e2:=s.e2.lift x.nn hle;have e3:=s.e3.lift x.nn hle;have e4:=s.e4.lift x.nn hle;have e:h=h':=by
  apply Classical.byContradiction;intro f;have hp:0<h'-h:=by lia
  have o:=y.odd;rw[e1,e2,e3,e4,Zh hp,Zh hp,Zh hp,Zh hp]at o;have:=x.nn;lia
 subst e;simp only[j4,p2,Int.toNat_zero,Int.pow_zero,Int.mul_one]at e1 e2 e3 e4;exact⟨e1.symm,e2.symm,e3.symm,e4.symm,U⟩
theorem Ly.unique(x:Ly a b c d h)(y:Ly a' b' c' d' h')(s:Cz a b c d h a' b' c' d' h'):a=a'/\b=b'/\c=c'/\d=d'/\h=h':=by
 rcases Int.le_total h h' with hle | hle
 ·exact x.unique_le y s hle
 ·obtain⟨e,f,g,i,j⟩:=y.unique_le x s.symm hle;exact⟨e.symm,f.symm,g.symm,i.symm,j.symm⟩
noncomputable abbrev Gg (a b c d:Int):Int:=Builtin.bitOr (Builtin.bitOr (Builtin.bitOr a b) c) d
variable{v:Nat}
theorem Ib:(2:Int)^v ∣ Gg a b c d↔((2:Int)^v ∣ a/\(2:Int)^v ∣ b/\(2:Int)^v ∣ c/\(2:Int)^v ∣ d):=by
 unfold Gg;rw[Bt.Ue,Bt.Ue,Bt.Ue];constructor
 ·rintro ⟨⟨⟨h1,h2⟩,f⟩,e⟩;exact⟨h1,h2,f,e⟩
 ·rintro ⟨h1,h2,f,e⟩;exact⟨⟨⟨h1,h2⟩,f⟩,e⟩
theorem Jy:Gg a b c d=0↔(a=0/\b=0/\c=0/\d=0):=by
 unfold Gg;rw[Bt.nG,Bt.nG,Bt.nG];constructor
 ·rintro ⟨⟨⟨h1,h2⟩,f⟩,e⟩;exact⟨h1,h2,f,e⟩
 ·rintro ⟨h1,h2,f,e⟩;exact⟨⟨⟨h1,h2⟩,f⟩,e⟩
theorem lowest(hp:Gg a b c d≠0):∃v:Nat,((Builtin.Int.intBits (Builtin.bitAnd (Gg a b c d) (-(Gg a b c d))):Nat):Int)-1=v/\((2:Int)^v ∣ a/\(2:Int)^v ∣ b/\(2:Int)^v ∣ c/\(2:Int)^v ∣ d) /\
  ¬ ((2:Int)^(v+1) ∣ a/\(2:Int)^(v+1) ∣ b/\(2:Int)^(v+1) ∣ c/\(2:Int)^(v+1) ∣ d):=by
 obtain⟨v,q,e,o,g⟩:=Bt.sY _ (Gg a b c d) (KR _) hp;refine⟨v,by rw[g,Bt.nW];lia,Ib.mp ⟨q,e⟩,λh=>?_⟩;have h':=Ib.mpr h;obtain⟨k,f⟩:=h';rw[e,Te,Yn]at f;have:=Int.eq_of_mul_eq_mul_left (V2 (Yg (by decide):(0:Int)<2^v)) f;lia
theorem ZW{m:Int}(hm:0<=m)(hmh:m<=h)(hd:(2:Int)^m.toNat ∣ x):Hi x h (x / 2^m.toNat) (h-m)/\(x / 2^m.toNat).natAbs<=x.natAbs:=by
 obtain⟨k,rfl⟩:=hd;have a:(2:Int)^m.toNat≠0:=oU m;rw[qW _ a];constructor
 ·unfold Hi;rw[Ug hm hmh];show 2^m.toNat*k*p2 (h-m)=k*(p2 (h-m)*2^m.toNat);grind
 ·rw[Int.natAbs_mul];exact Nat.le_mul_of_pos_left _ (by lia)
theorem Z0{m:Nat}(h:m<=v)(hd:(2:Int)^v ∣ x):(2:Int)^m ∣ x:=by
 obtain⟨k,rfl⟩:=hd;refine⟨2^(v-m)*k,?_⟩;rw[<-Yn,<-Int.pow_add,show m+(v-m)=v by lia]
theorem Ww(hh:0<=h)(hd:(2:Int)^v ∣ a/\(2:Int)^v ∣ b/\(2:Int)^v ∣ c/\(2:Int)^v ∣ d)
  (hn:¬ ((2:Int)^(v+1) ∣ a/\(2:Int)^(v+1) ∣ b/\(2:Int)^(v+1) ∣ c/\(2:Int)^(v+1) ∣ d)) {m:Int} (hm:m=if h<v then h else v):
  0<=m/\m<=h/\Ly (a / 2^m.toNat) (b / 2^m.toNat) (c / 2^m.toNat) (d / 2^m.toNat) (h-m)/\Cz a b c d h (a / 2^m.toNat) (b / 2^m.toNat) (c / 2^m.toNat) (d / 2^m.toNat) (h-m) /\
  ((a / 2^m.toNat).natAbs<=a.natAbs/\(b / 2^m.toNat).natAbs<=b.natAbs/\(c / 2^m.toNat).natAbs<=c.natAbs/\(d / 2^m.toNat).natAbs<=d.natAbs):=by
 have g:0<=m:=by rw[hm];split<;>lia
 have i:m<=h:=by rw[hm];split<;>lia
 have j:m.toNat<=v:=by rw[hm];split<;>lia
 obtain⟨d1,d2,s,u⟩:=hd;have q:=ZW g i (Z0 j d1);have r:=ZW g i (Z0 j d2);have p:=ZW g i (Z0 j s);have t:=ZW g i (Z0 j u);refine⟨g,i,⟨by lia,?_⟩,⟨q.1,r.1,p.1,t.1⟩,q.2,r.2,p.2,t.2⟩;by_cases hlt:h<v
 ·left;rw[hm,if_pos hlt];lia
 ·right;have l:m.toNat=v:=by rw[hm,if_neg hlt];lia
  rw[l];have e:∀x:Int,(2:Int)^v ∣ x->¬ (x / 2^v)%2=1->(2:Int)^(v+1) ∣ x:=by
   rintro x ⟨k,rfl⟩ w;have n:(2:Int)^v≠0:=V2 (Yg (by decide));rw[qW _ n]at w;refine⟨k / 2,?_⟩;rw[Te,Yn];congr 1;lia
  apply Classical.byContradiction;intro f;apply hn;refine⟨e a d1 λo=>f (.inl o),e b d2 λo=>f (.inr (.inl o)),e c s λo=>f (.inr (.inr (.inl o))),e d u λo=>f (.inr (.inr (.inr o)))⟩
end Am
namespace Pc
noncomputable def pc (n:Nat):Nat:=if h:n=0 then 0 else n%2+pc (n / 2)
theorem Gx:pc 0=0:=by unfold pc;simp
theorem Qu(n:Nat):pc n=n%2+pc (n / 2):=by
 by_cases h:n=0
 ·subst h;rw[show (0 / 2:Nat)=0 from rfl,Gx]
 ·conv=>lhs;unfold pc
  rw[dif_neg h]
theorem Pn(x y:Nat):(x^^^y)=2*((x / 2)^^^(y / 2))+(x%2+y%2)%2:=by
 have h1:(x^^^y) / 2=(x / 2)^^^(y / 2):=Nat.xor_div_two;have h2:(x^^^y)%2=(x%2+y%2)%2:=by
  have:=Nat.xor_mod_two_eq_one (a:=x) (b:=y);rcases Ka x with a | a<;>rcases Ka y with b | b<;>rcases Ka (x^^^y) with c | c<;>simp[a,b,c]at this ⊢
 lia
theorem tK:∀(m n:Nat),n<m->n≠0->pc (n&&&(n-1))+1=pc n
 | 0,n,h,_=>by lia
 | m+1,n,h,hn=>by
  have e:=Bt.nF n (n-1);rw[Qu n,Qu (n&&&(n-1))];rcases Ka n with a | a
  ·have b:(n-1) / 2=n / 2-1:=by lia
   rw[b,a,j_]at e;have e2:(n&&&(n-1)) / 2=n / 2&&&(n / 2-1):=by lia
   have c:(n&&&(n-1))%2=0:=by lia
   rw[e2,c,a];have:=tK m (n / 2) (by lia) (by lia);lia
  ·have b:(n-1) / 2=n / 2:=by lia
   have d:(n-1)%2=0:=by lia
   rw[b,d,Nat.mul_zero,Nat.and_self]at e;have e2:(n&&&(n-1)) / 2=n / 2:=by lia
   have c:(n&&&(n-1))%2=0:=by lia
   rw[e2,c,a];lia
theorem yC:∀(m x y:Nat),x<m->y<m->pc (x^^^y)%2=(pc x+pc y)%2
 | 0,x,y,h,_=>by lia
 | m+1,x,y,hx,hy=>by
  by_cases z:x=0/\y=0
  ·obtain⟨rfl,rfl⟩:=z;rw[show (0^^^0:Nat)=0 from rfl,Gx]
  ·have e:=Pn x y;rw[Qu (x^^^y),Qu x,Qu y,show (x^^^y) / 2=x / 2^^^y / 2 by lia];by_cases q:x / 2<m/\y / 2<m
   ·have:=yC m (x / 2) (y / 2) q.1 q.2;lia
   ·exfalso;lia
theorem K1(x y:Nat):pc (x^^^y)%2=(pc x+pc y)%2:=yC (x+y+1) x y (by lia) (by lia)
theorem X3:∀(m x y:Nat),x<m->y<m->(x ||| y)=(x^^^y)+(x&&&y)
 | 0,x,y,h,_=>by lia
 | m+1,x,y,hx,hy=>by
  by_cases z:x=0/\y=0
  ·obtain⟨rfl,rfl⟩:=z;rfl
  ·have e:=Pn x y;have c:=Bt.nF x y;have e2:=Bt.W2l x y;by_cases q:x / 2<m/\y / 2<m
   ·have:=X3 m (x / 2) (y / 2) q.1 q.2;rcases Ka x with a | a<;>rcases Ka y with b | b<;>rw[a,b]at e c e2<;>lia
   ·exfalso;lia
theorem NT(x y:Nat):Builtin.bitAnd (x:Int) (y:Int)=((x&&&y:Nat):Int):=by rw[bitAnd_pp (by lia) (by lia)];simp
theorem Jo(x y:Nat):Builtin.bitXor (x:Int) (y:Int)=((x^^^y:Nat):Int):=by
 have h:Builtin.bitXor (x:Int) (y:Int)=Builtin.bitOr x y-Builtin.bitAnd x y:=rfl;have h2:Builtin.bitOr (x:Int) (y:Int)=((x ||| y:Nat):Int):=by
  unfold Builtin.bitOr;rw[bitAnd_nn (by unfold Builtin.bitNot;lia) (by unfold Builtin.bitNot;lia),Yo,Yo,Yo];simp
 rw[h,h2,NT,X3 (x+y+1) x y (by lia) (by lia)];lia
end Pc
namespace L2
theorem Same.tup{K:U0}{H H':Hp}{a:W9}{xs:List V}(e:Same H H')(h:Ai K H a xs):Ai K H' a xs:=by
 rcases h with h | h
 ·rcases h with h | ⟨o,h⟩
  ·exact .inl (.inl (e _ _ h))
  ·exact .inl (.inr ⟨o,e _ _ h⟩)
 ·exact .inr h
variable{K:U0}{H H':Hp}{a:W9}
theorem Same.sqx{t:Bool}{xs:List V}(e:Same H H')(h:Jd t K H a xs):Jd t K H' a xs:=by
 cases t
 ·exact e.seq (show Ag K H a xs from h)
 ·exact e.tup (show Ai K H a xs from h)
section
variable {X:Cx}{scope:Scope}{Nc:W0}{ex:U3}{pins:U1}{s:U7}{H:Hp}
theorem ux:YS (Bw X scope Nc ex pins s H) (Vv X.K):=FZ
theorem Km:YS (Bw X scope Nc ex pins s H) (Vu X.K):=BK
theorem Uq{x y:Str}{k:Nat}{p1 p2 pos:Pos}(hc:(Bw X scope Nc ex pins s H).calm=true)(hN:Nc.Nodup)(h0:Nc[0]?=some x)(h1:Nc[1]?=some y)(l0:(Bw X scope Nc ex pins s H).env.scope.names.lookup x=some .local)(l1:(Bw X scope Nc ex pins s H).env.scope.names.lookup y=some .local):
  PG (Bw X scope Nc ex pins s H) (.Tuple [.Name x p1,.Name y p2] k pos) (Wx X.K 2 (NP (Ce 0) (NP (Ce 1) Wy))):=
 Ls (X:=Bw X scope Nc ex pins s H) hc (Ea (Bb (i:=0) hN h0 (.inl l0) (.inr l0)) (Ea (Bb (i:=1) hN h1 (.inl l1) (.inr l1)) Lx))
end
theorem X8r{t1 t2:Bool}{l1 l2:W9}{g:TG}{ns ms:U6}{te:TE}{fr:St}{H1:Hp}{acc:W9}{Q:VK}(f:Int->Int->Int)(hxy:ns.length=ms.length)(hn:ns.length<=sizeLine)
  (h1:Jd t1 K H1 l1 (ns.map V.int)) (h2:Jd t2 K H1 l2 (ms.map V.int)) (hacc:H1 acc=none)
  (hg:∀{a:W9}{x y:V}{w1 w2:Option V}{H:Hp}{Q:St->Hp->Prop},H a=some (.tup [x,y])->Q (some x::some y::fr) H->g (.ref a) (w1::w2::fr) H Q)
  (hs:∀n m H (N:V->Hp->Prop),n∈ns->m∈ms->N (.int (f n m)) H->te (some (.int n)::some (.int m)::fr) H N)
  (hd:∀H2,Same H1 H2->H2 acc=some (.lst ((List.zipWith f ns ms).map V.int))->Q (.ref acc) H2):KH (YT t1 t2 K l1 l2) g te (none::none::fr) H1 acc Q:=by
 refine xX (xs:=ns.map V.int) (ys:=ms.map V.int) (λi zs H'=>Same H1 H'/\H' acc=some (.lst zs)/\zs=((List.zipWith f ns ms).take i).map V.int) (by simp[hxy]) (by simp;exact hn)
  ⟨A_ hacc _,Ar,U⟩ (λo r=>hg o r) (λi zs H p=>⟨p.1.sqx h1,p.1.sqx h2⟩) ?_ ?_
 ·rintro i x y zs H T N k l s ⟨s2,d,e2⟩ h q;rw[Bu]at k l;obtain⟨n,b,rfl⟩:=Dt.mp k;obtain⟨m,c,rfl⟩:=Dt.mp l;refine hs n m _ _ (Er b) (Er c) ?_;have j:acc≠T:=λe=>by rw[<-e,d]at h;cases h
  refine q _ _ (by rw[Cd j];exact d) ⟨Dj (s2.trans (A_ h _)) hacc,Ar,?_⟩;have:(List.zipWith f ns ms)[i]?=some (f n m):=by rw[List.getElem?_zipWith,b,c]
  rw[Gs,this,Ca,e2];rfl
 ·rintro zs H s ⟨s2,d,e2⟩;refine hd H s2 ?_;rw[d,e2,Tv];simp only[List.length_zipWith,Az];lia
section
variable {K:U0}{a:W9}{ns:U6}{te:TE}{fr:St}{H1:Hp}{acc:W9}{Q:VK}
theorem aG{J:It}{n:Nat}{val:Nat->V}(f:Nat->V)(hn:n<=sizeLine)(hacc:H1 acc=none)
  (hgo:∀i H,i<n->Same H1 H->J.go i H/\∀x H',J.yld i H x H'->H'=H/\x=val i) (hst:∀H,Same H1 H->J.stop n H)
  (hs:∀i H (N:V->Hp->Prop),i<n->Same H1 H->N (f i) H->te (some (val i)::fr) H N)
  (hd:∀H2,Same H1 H2->H2 acc=some (.lst ((List.range n).map f))->Q (.ref acc) H2):KH J (Ce 0) te (none::fr) H1 acc Q:=by
 refine oR (val:=val) (λi ys H'=>Same H1 H'/\H' acc=some (.lst ys)/\ys=(List.range i).map f) hn ⟨A_ hacc _,Ar,U⟩ (λi ys H hi p=>hgo i H hi p.1) (λys H p=>hst H p.1) ?_ ?_
 ·rintro i ys H N hi c ⟨s2,a,e2⟩ b;refine hs i H N hi s2 (b _ _ a ⟨Dj s2 hacc,Ar,?_⟩);rw[e2,WQ,Ca];rfl
 ·rintro ys H c ⟨s2,a,e2⟩;exact hd H s2 (by rw[a,e2])
theorem Zj(ns:U6)(f:Int->V):(List.range ns.length).map (λi=>f (ns.getD i 0))=ns.map f:=by
 apply List.ext_getElem
 ·simp
 ·intro i h1 h2;simp at h1;simp[h1]
theorem u5(f:Int->V)(hl:Ag K H1 a (ns.map V.int))(hn:ns.length<=sizeLine)(hacc:H1 acc=none)(hs:∀n H (N:V->Hp->Prop),Same H1 H->N (f n) H->te (some (.int n)::fr) H N)
  (hd:∀H2,Same H1 H2->H2 acc=some (.lst (ns.map f))->Q (.ref acc) H2):KH (Nz K a) (Ce 0) te (none::fr) H1 acc Q:=by
 refine aG (n:=ns.length) (val:=λi=>.int (ns.getD i 0)) (λi=>f (ns.getD i 0)) hn hacc (λi H hi s=>?_) (λH s=>⟨_,s.seq hl,by simp⟩) (λi H N hi s b=>hs _ H N s b) (λH2 s h=>hd H2 s (by rw[h,Zj]));have e:(ns.map V.int)[i]?=some (.int (ns.getD i 0)):=by simp[hi]
 refine⟨⟨_,_,s.seq hl,e⟩,λx H' y=>⟨y.1,?_⟩⟩;have:=y.2 _ (s.seq hl);rw[e]at this;exact(Option.some.inj this).symm
theorem X8t(f:Int->V)(hl:Ai K H1 a (ns.map V.int))(hn:ns.length<=sizeLine)(hacc:H1 acc=none)(hs:∀n H (N:V->Hp->Prop),Same H1 H->N (f n) H->te (some (.int n)::fr) H N)
  (hd:∀H2,Same H1 H2->H2 acc=some (.lst (ns.map f))->Q (.ref acc) H2):KH (ao K a) (Ce 0) te (none::fr) H1 acc Q:=by
 refine aG (n:=ns.length) (val:=λi=>.int (ns.getD i 0)) (λi=>f (ns.getD i 0)) hn hacc (λi H hi s=>?_) (λH s=>⟨_,s.tup hl,by simp⟩) (λi H N hi s b=>hs _ H N s b) (λH2 s h=>hd H2 s (by rw[h,Zj]));have e:(ns.map V.int)[i]?=some (.int (ns.getD i 0)):=by simp[hi]
 refine⟨⟨_,_,s.tup hl,e⟩,λx H' y=>⟨y.1,?_⟩⟩;have:=y.2 _ (s.tup hl);rw[e]at this;exact(Option.some.inj this).symm
end
section
variable {X:Cx}
end
theorem X3j{ns:U6}{te:TE}{fr:St}{H1:Hp}{acc:W9}{Q:VK}(f:Int->V)(hl:Ag K H1 a (ns.map V.int))(hn:ns.length<=sizeLine)(hacc:H1 acc=none)(hs:∀n H (N:V->Hp->Prop),n∈ns->Same H1 H->N (f n) H->te (some (.int n)::fr) H N)
  (hd:∀H2,Same H1 H2->H2 acc=some (.lst (ns.map f))->Q (.ref acc) H2):KH (Nz K a) (Ce 0) te (none::fr) H1 acc Q:=by
 refine aG (n:=ns.length) (val:=λi=>.int (ns.getD i 0)) (λi=>f (ns.getD i 0)) hn hacc (λi H hi s=>?_) (λH s=>⟨_,s.seq hl,by simp⟩) (λi H N hi s b=>hs _ H N (by simp[hi]) s b) (λH2 s h=>hd H2 s (by rw[h,Zj]));have e:(ns.map V.int)[i]?=some (.int (ns.getD i 0)):=by simp[hi]
 refine⟨⟨_,_,s.seq hl,e⟩,λx H' y=>⟨y.1,?_⟩⟩;have:=y.2 _ (s.seq hl);rw[e]at this;exact(Option.some.inj this).symm
section
variable {κ:Type} [DecidableEq κ]
noncomputable def Bq (kvs:List (κ×V))(k:κ):Option V:=(kvs.find? λkv=>decide (kv.1=k)).map (·.2)
noncomputable def putK (kvs:List (κ×V))(k:κ)(v:V):List (κ×V):=
 if (kvs.any λkv=>decide (kv.1=k))=true then kvs.map (λkv=>if kv.1=k then (kv.1,v) else kv) else kvs++[(k,v)]
theorem X1s{k:κ}:Bq ([]:List (κ×V)) k=none:=rfl
variable{p:κ×V}{r:List (κ×V)}
theorem J8{k:κ}(e:p.1=k):Bq (p::r) k=some p.2:=by simp[Bq,Tn,e]
theorem Ku{k:κ}(e:¬ p.1=k):Bq (p::r) k=Bq r k:=by simp[Bq,Tn,e]
theorem Sg(k:κ):∀kvs:List (κ×V),(kvs.any λkv=>decide (kv.1=k))=(Bq kvs k).isSome
 | []=>rfl
 | p::r=>by
  rw[RL];by_cases e:p.1=k
  ·simp only[J8 e,Dr e,Bool.true_or,Option.isSome_some]
  ·rw[Ku e,Dh e,Bool.false_or];exact Sg k r
theorem vo(k j:κ)(y:V):∀kvs:List (κ×V),Bq (kvs.map λkv=>if kv.1=k then (kv.1,y) else kv) j=(Bq kvs j).map λx=>if j=k then y else x
 | []=>rfl
 | p::r=>by
  have a:=vo k j y r;rw[FJ];by_cases h:p.1=k
  ·rw[if_pos h];by_cases e:p.1=j
   ·rw[J8 (p:=(p.1,y)) e,J8 e,Ys,if_pos (e.symm.trans h)]
   ·rw[Ku (p:=(p.1,y)) e,Ku e,a]
  ·rw[if_neg h];by_cases e:p.1=j
   ·rw[J8 (p:=p) e,J8 e,Ys,if_neg (λz=>h (e.trans z))]
   ·rw[Ku (p:=p) e,Ku e,a]
theorem wj(k j:κ)(y:V):∀kvs:List (κ×V),Bq kvs k=none->Bq (kvs++[(k,y)]) j=if j=k then some y else Bq kvs j
 | [],_=>by
  by_cases e:k=j
  ·rw[if_pos e.symm];exact J8 (p:=(k,y)) e
  ·rw[if_neg (λz=>e z.symm)];exact Ku (p:=(k,y)) e
 | p::r,hn=>by
  rw[List.cons_append];have a:¬ p.1=k:=λz=>by rw[J8 z]at hn;cases hn
  rw[Ku a]at hn;have b:=wj k j y r hn;by_cases e:p.1=j
  ·rw[J8 e,J8 e,if_neg (λz=>a (e.trans z))]
  ·rw[Ku e,Ku e,b]
theorem lQ(kvs:List (κ×V))(k j:κ)(y:V):Bq (putK kvs k y) j=if j=k then some y else Bq kvs j:=by
 unfold putK;by_cases a:(kvs.any λkv=>decide (kv.1=k))=true
 ·rw[if_pos a,vo];rw[Sg]at a;by_cases e:j=k
  ·obtain⟨x,b⟩:=gb.mp a;rw[if_pos e,e,b,Ys,if_pos rfl]
  ·rw[if_neg e];cases Bq kvs j with
   | none=>rfl
   | some x=>rw[Ys,if_neg e]
 ·rw[if_neg a];refine wj k j y kvs ?_;rw[Sg]at a;cases q:Bq kvs k with
  | none=>rfl
  | some x=>rw[q]at a;exact(a rfl).elim
theorem mO(kvs:List (κ×V))(k:κ)(v:V):(putK kvs k v).length<=kvs.length+1:=by
 unfold putK;split
 ·rw[Az];lia
 ·rw[DP,Ob,List.length_nil];lia
variable{kvs:List (κ×V)}
theorem X2c{k:κ}(v:V)(h:Bq kvs k=none):putK kvs k v=kvs++[(k,v)]:=by
 unfold putK;rw[Sg,h];exact if_neg (by decide)
theorem HW.isSome_eq{o:Option V}{u:Option Value}(r:HW o u):o.isSome=u.isSome:=by
 cases o with
 | none=>cases u with
  | none=>rfl
  | some _=>exact(show False from r).elim
 | some _=>cases u with
  | none=>exact(show False from r).elim
  | some _=>rfl
variable{vs:List (κ×Value)}
theorem KV.val(r:KV kvs vs)(k:κ):HW (Bq kvs k) (valueAt vs k):=by
 unfold KV at r;induction r with
 | nil=>exact True.intro
 | @cons p q ps qs h t ih =>
  obtain⟨h1,h2⟩:=h;by_cases e:p.1=k
  ·have a:q.1=k:=h1.symm.trans e;have b:valueAt (q::qs) k=some q.2:=by simp[valueAt,Tn,a]
   rw[J8 e,b];exact h2
  ·have a:¬ q.1=k:=λz=>e (h1.trans z);have b:valueAt (q::qs) k=valueAt qs k:=by simp[valueAt,Tn,a]
   rw[Ku e,b];exact ih
theorem KV.any(r:KV kvs vs)(k:κ):(kvs.any λkv=>decide (kv.1=k))=vs.any λkv=>decide (kv.1=k):=by
 unfold KV at r;induction r with
 | nil=>rfl
 | cons h t ih=>rw[RL,RL,ih,h.1]
theorem KV.repl(r:KV kvs vs)(k:κ){y:V}{u:W2}(ry:RelV y u):
  KV (kvs.map λkv=>if kv.1=k then (kv.1,y) else kv) (vs.map λkv=>if kv.1=k then (kv.1,u) else kv):=by
 unfold KV at r ⊢;induction r with
 | nil=>exact .nil
 | @cons p q ps qs h t ih =>
  rw[FJ,FJ];refine .cons ?_ ih;obtain⟨h1,h2⟩:=h;by_cases e:p.1=k
  ·rw[if_pos e,if_pos (h1.symm.trans e)];exact⟨h1,ry⟩
  ·rw[if_neg e,if_neg (λz=>e (h1.trans z))];exact⟨h1,h2⟩
theorem KV.put(r:KV kvs vs)(k:κ){y:V}{u:W2}(ry:RelV y u):KV (putK kvs k y) (stored vs k u):=by
 unfold putK stored;rw[r.any k];by_cases e:(vs.any λkv=>decide (kv.1=k))=true
 ·rw[if_pos e,if_pos e];exact r.repl k ry
 ·rw[if_neg e,if_neg e];exact Paired.snoc r ⟨U,ry⟩
theorem KV.keys(r:KV kvs vs):kvs.map (·.1)=vs.map (·.1):=by
 unfold KV at r;induction r with
 | nil=>rfl
 | cons h t ih=>rw[FJ,FJ,ih,h.1]
theorem KV.length(r:KV kvs vs):kvs.length=vs.length:=Paired.length r
end
variable{P:U8}{w:W1}{u:W2}
theorem YC{k:Key}(r:RelV (kV k) u):(JX P w).is k u=true:=by
 cases k with
 | inl i=>obtain⟨t,e⟩:=(show ∃t,u=Value.int i t from r);subst e;exact Y3c P w i t
 | inr x=>obtain⟨t,e⟩:=(show ∃t,u=Value.str x t from r);subst e;exact Y3b P w x t
theorem wK{P:U8}{w:W1}:∀{ks:List Key}{us:U5},Vals (ks.map kV) us->ItemsAre (JX P w) ks us
 | [],_,r=>by rw[Yi]at r;cases r;exact .nil
 | k::ks,_,r=>by
  rw[FJ]at r;cases r with
  | cons h t=>exact .cons (YC h) (wK t)
abbrev KT (H:Hp):List (List Key×V)->List (List Key×Addr×Value)->Prop:=Paired λp q=>p.1=q.1/\H q.2.1=some (.tup (p.1.map kV))/\RelV p.2 q.2.2
variable{kvs:List (List Key×V)}
theorem KT.val{xs:List (List Key×Addr×Value)}(r:KT H kvs xs)(k:List Key):HW (Bq kvs k) ((atKey xs k).map (·.2)):=by
 induction r with
 | nil=>exact True.intro
 | @cons p q ps qs h t ih =>
  obtain⟨h1,_,h2⟩:=h;by_cases e:p.1=k
  ·have a:q.1=k:=h1.symm.trans e;have b:atKey (q::qs) k=some q.2:=by simp[atKey,Tn,a]
   rw[J8 e,b];exact h2
  ·have a:¬ q.1=k:=λz=>e (h1.trans z);have b:atKey (q::qs) k=atKey qs k:=by simp[atKey,Tn,a]
   rw[Ku e,b];exact ih
variable{y:V}
theorem KT.repl{xs:List (List Key×Addr×Value)}(r:KT H kvs xs)(k:List Key)(ry:RelV y u):
  KT H (kvs.map λkv=>if kv.1=k then (kv.1,y) else kv) (xs.map (putAt k u)):=by
 induction r with
 | nil=>exact .nil
 | @cons p q ps qs h t ih =>
  rw[FJ,FJ];refine .cons ?_ ih;obtain⟨h1,h2,a⟩:=h;unfold putAt;by_cases e:p.1=k
  ·rw[if_pos e,if_pos (h1.symm.trans e)];exact⟨h1,h2,ry⟩
  ·rw[if_neg e,if_neg (λz=>e (h1.trans z))];exact⟨h1,h2,a⟩
variable{b:W9}
theorem KT.put{xs:List (List Key×Addr×Value)}(r:KT H kvs xs)(k:List Key)(hb:H b=some (.tup (k.map kV)))(ry:RelV y u):
  KT H (putK kvs k y) (storedH xs k b u):=by
 have e:(kvs.any λkv=>decide (kv.1=k))=(atKey xs k).isSome:=by
  rw[Sg,(r.val k).isSome_eq,fM]
 unfold putK storedH;rw[e];by_cases q:(atKey xs k).isSome=true
 ·rw[if_pos q,if_pos q];exact r.repl k ry
 ·rw[if_neg q,if_neg q];exact Paired.snoc r ⟨U,hb,ry⟩
theorem KT.keeps{xs:List (List Key×Addr×Value)}(r:KT H kvs xs)(ht:∀b ys,H b=some (.tup ys)->H' b=some (.tup ys)):KT H' kvs xs :=
 Paired.mapP r λ_ _ z=>⟨z.1,ht _ _ z.2.1,z.2.2⟩
section
variable {P:U8}{w:W1}{H:Hp}{h:Heap}{a:W9}
theorem zp{u:HO}(ok:Ez P w H h)(e:Rd H a u):BR P w H h a u:=e.ok ok
variable{kvs:List (Key×V)}
theorem X8(ok:Ez P w H h)(e:Rd H a (.dK kvs)):kvs.length<=sizeLine/\(a == sysModules)=false/\∃vs,KV kvs vs/\h.DictOf (JX P w) a vs :=
 show BR P w H h a (.dK kvs) from zp ok e
theorem zP(ok:Ez P w H h)(e:H a=some (.dK kvs)):kvs.length<=sizeLine/\(a == sysModules)=false/\∃vs,KV kvs vs/\h.DictOf (JX P w) a vs:=X8 ok (.inl e)
theorem Uc{ks:List Key}(ok:Ez P w H h)(e:H a=some (.tup (ks.map kV))):(tupleKind (JX P w)).is h ks a:=by
 obtain⟨_,its,r,o,h1,h2,n,b⟩:=(show BR P w H h a (.tup (ks.map kV)) from ok a _ e);exact⟨o,its.toArray,n,h1,h2,b,by simpa using wK r⟩
variable{kvs:List (List Key×V)}
theorem X_(ok:Ez P w H h)(e:Rd H a (.dT kvs)):kvs.length<=sizeLine/\(a == sysModules)=false /\
  ∃xs,KT H kvs xs/\h.DictOfH (tupleKind (JX P w)) a xs:=by
 obtain⟨z,y,xs,r,o,es,ep,h1,h2,f,c,d⟩:=(show BR P w H h a (.dT kvs) from zp ok e);refine⟨z,y,xs,r,o,es,ep,h1,h2,f,c,λx b=>?_,d⟩;have all:∀{l:List (List Key×V)}{m:List (List Key×Addr×Value)},KT H l m->∀x∈m,(tupleKind (JX P w)).is h x.1 x.2.1:=by
  intro l m q;induction q with
  | nil=>intro x b;exact nomatch b
  | @cons p q ps qs hq t ih =>
   intro x b;rcases Dg.mp b with e | b
   ·subst e;exact Uc ok (by rw[<-hq.1];exact hq.2.1)
   ·exact ih x b
 exact all r x b
theorem zQ(ok:Ez P w H h)(e:H a=some (.dT kvs)):kvs.length<=sizeLine/\(a == sysModules)=false /\
  ∃xs,KT H kvs xs/\h.DictOfH (tupleKind (JX P w)) a xs:=X_ ok (.inl e)
end
def Fi (H:Hp)(a:W9)(y:V)(r:Option V):Prop :=
 (∃kvs k,Rd H a (.dK kvs)/\y=kV k/\r=Bq kvs k)\/∃kvs k b,Rd H a (.dT kvs)/\y=.ref b/\H b=some (.tup (k.map kV))/\r=Bq kvs k
def Jg (H:Hp)(a:W9)(y v:V)(H':Hp):Prop :=
 (∃kvs k,H a=some (.dK kvs)/\y=kV k/\kvs.length<sizeLine/\H'=upd H a (.dK (putK kvs k v))) \/
 ∃kvs k b,H a=some (.dT kvs)/\y=.ref b/\H b=some (.tup (k.map kV))/\kvs.length<sizeLine/\H'=upd H a (.dT (putK kvs k v))
theorem Fi.k{kvs:List (Key×V)}{k:Key}(e:H a=some (.dK kvs)):Fi H a (kV k) (Bq kvs k):=.inl ⟨kvs,k,.inl e,U,U⟩
theorem Fi.t{k:List Key}(e:H a=some (.dT kvs))(eb:H b=some (.tup (k.map kV))):Fi H a (.ref b) (Bq kvs k):=.inr ⟨kvs,k,b,.inl e,U,eb,U⟩
theorem Jg.k{kvs:List (Key×V)}{k:Key}{v:V}(e:H a=some (.dK kvs))(hl:kvs.length<sizeLine):Jg H a (kV k) v (upd H a (.dK (putK kvs k v))):=.inl ⟨kvs,k,e,U,hl,U⟩
theorem Jg.t{k:List Key}{v:V}(e:H a=some (.dT kvs))(eb:H b=some (.tup (k.map kV)))(hl:kvs.length<sizeLine):
  Jg H a (.ref b) v (upd H a (.dT (putK kvs k v))):=.inr ⟨kvs,k,b,e,U,eb,hl,U⟩
section
variable {X:Cx}{pins:U1}{σ:St}{H:Hp}{s:U7}{a:W9}{y v:V}{u r:W2}{o:Option V}{A:W6}{E:U2}
theorem Inv.big(I:Inv X pins σ H s):sysModules<s.heap.objs.size:=by
 have h:mainGlobals<s.heap.objs.size:=(I.mod.glob.keeps I.bk).lt;exact Ov (by decide) h
variable{Q:U2}
theorem X0w(hu:A.units+1<cLine)(I:Inv X pins σ H s)(g:Fi H a y (some v))(ry:RelV y u)(h:∀f s',Inv X pins σ H s'->RelV v f->Q f s'):
  wpAny (model X.prog X.w) A (getItem (.ref a) u) Q E s:=by
 rcases g with ⟨kvs,k,e,ey,l⟩ | ⟨kvs,k,b,e,ey,eb,l⟩
 ·subst ey;obtain⟨z,hd,vs,d,dd⟩:=X8 I.hok e;obtain⟨f,j,c⟩:=HW.some_of (v:=v) (o:=valueAt vs k) (by rw[l];exact d.val k);exact wpAny_getItem_of (YC ry) dd.mapOf j (h f _ (I.tok _) c)
 ·subst ey;cases (show u=Value.ref b from ry);obtain⟨z,hd,xs,d,dd⟩:=X_ I.hok e;obtain⟨f,j,c⟩:=HW.some_of (v:=v) (o:=(atKey xs k).map (·.2)) (by rw[l];exact d.val k);obtain⟨p,hp,i⟩:=Dt.mp j;refine wpAny_getItem_heap (Y0 hu) (Uc I.hok eb) dd hp ?_;rw[i];exact h f _ (I.tok _) c
theorem lA(hu:A.units+1<cLine)(I:Inv X pins σ H s)(g:Fi H a y o)(ry:RelV y u)(h:∀s',Inv X pins σ H s'->Q (.bool o.isSome) s'):
  wpAny (model X.prog X.w) A (compareOp .In u (.ref a)) Q E s:=by
 rcases g with ⟨kvs,k,e,ey,l⟩ | ⟨kvs,k,b,e,ey,eb,l⟩
 ·subst ey;obtain⟨z,hd,vs,c,dd⟩:=X8 I.hok e;refine wpAny_in_of (YC ry) hd dd.mapOf ?_;rw[<-(c.val k).isSome_eq,<-l];exact h _ (I.tok _)
 ·subst ey;cases (show u=Value.ref b from ry);obtain⟨z,hd,xs,c,dd⟩:=X_ I.hok e;refine wpAny_in_heap (Y0 hu) (Uc I.hok eb) hd dd ?_;have q:=(c.val k).isSome_eq;rw[fM]at q;rw[<-q,<-l];exact h _ (I.tok _)
theorem X9s(hu:A.units+1<cLine)(I:Inv X pins σ H s)(g:Fi H a y o)(ry:RelV y u)(h:∀s',Inv X pins σ H s'->Q (.bool (!o.isSome)) s'):
  wpAny (model X.prog X.w) A (compareOp .NotIn u (.ref a)) Q E s:=by
 rcases g with ⟨kvs,k,e,ey,l⟩ | ⟨kvs,k,b,e,ey,eb,l⟩
 ·subst ey;obtain⟨z,hd,vs,c,dd⟩:=X8 I.hok e;refine wpAny_notIn_of (YC ry) hd dd.mapOf ?_;rw[<-(c.val k).isSome_eq,<-l];exact h _ (I.tok _)
 ·subst ey;cases (show u=Value.ref b from ry);obtain⟨z,hd,xs,c,dd⟩:=X_ I.hok e;refine wpAny_notIn_heap (Y0 hu) (Uc I.hok eb) hd dd ?_;have q:=(c.val k).isSome_eq;rw[fM]at q;rw[<-q,<-l];exact h _ (I.tok _)
theorem m8{h':Heap}{t':Nat}{ob:HO}(I:Inv X pins σ H s)(mu:YK (H a))(hs:Heap.SameBut a s.heap h')(he:∃q,h'.get? a=some q)(new:BR X.prog X.w (upd H a ob) h' a ob):
  Inv X pins σ (upd H a ob) {s with heap:=h',toks:=t'} :=
 I.write (x:=a) (e:=a) mu (.inl rfl) (λb q hb z=>(hs.2 b hb).trans z) he new
theorem W4g{h':Heap}{kvs:List (Key×V)}{vs:List (Key×Value)}(z:kvs.length<=sizeLine)(hd:(a == sysModules)=false)(rel:KV kvs vs)(dd:h'.DictOf (JX P w) a vs):
  BR P w H' h' a (.dK kvs):=⟨z,hd,vs,rel,dd⟩
theorem X0v{Q:Unit->Shared->Prop}(hu:A.units+1<cLine)(I:Inv X pins σ H s)(g:Jg H a y v H')(ry:RelV y u)(rv:RelV v r)(h:∀s',Inv X pins σ H' s'->Q () s'):
  wpAny (model X.prog X.w) A (setItem (.ref a) u r) Q E s:=by
 rcases g with ⟨kvs,k,e,ey,l,eH⟩ | ⟨kvs,k,b,e,ey,eb,l,eH⟩
 ·subst ey eH;obtain⟨z,hd,vs,d,dd⟩:=zP I.hok e;have m:vs.length<=sizeLine:=by rw[<-d.length];exact z
  have n:(putK kvs k v).length<=sizeLine:=by have:=mO kvs k v;lia
  refine wpAny_setItem_pairs (hsz:=m) (YC ry) dd λh' f j=>h _ ?_;have x:∃q,h'.get? a=some q:=let ⟨q,_,_,i,_⟩:=f;⟨q,i⟩;exact m8 I (by rw[e];exact True.intro) j x (W4g n hd (d.put k rv) f)
 ·subst ey eH;cases (show u=Value.ref b from ry);obtain⟨z,hd,xs,d,dd⟩:=zQ I.hok e;have m:xs.length<=sizeLine:=by rw[<-Paired.length d];exact z
  have n:(putK kvs k v).length<=sizeLine:=by have:=mO kvs k v;lia
  refine wpAny_setItem_heap (hsz:=m) (Y0 hu) (Uc I.hok eb) dd λh' f j=>h _ ?_;obtain⟨q,es,ep,i,h2,t,B,_,p⟩:=f;refine m8 I (by rw[e];exact True.intro) j ⟨q,i⟩ ⟨n,hd,_,(d.put k eb rv).keeps λc ys o=>?_,q,es,ep,i,h2,t,B,p⟩;rw[Cd (J0 o e (λz=>nomatch z))];exact o
end
section
variable {X:Cx}{pins:U1}{σ:St}{H:Hp}{s:U7}{a:W9}{kvs:List (Key×V)}{k:Key}{u:W2}{A:W6}{E:U2}
end
def YJ (i:Expr):Prop:=∀ov iv,subscripted i false ov iv=operate [ov,iv] (getItem ov iv)
theorem X6p{prog:U8}{A:W6}{E:U2}{s:U7}{env:Env}{value slice:Expr}{pos:Pos}{T id:String}{Q:U2}
  (hl:typeLookup (.type T) "__getitem__"=pure (some (.builtin id))) (hs:YJ slice)
  (h:wpAny (model prog w) A (eval value env) (λo c=>wpAny (model prog w) A (eval slice env) (λi s₂=>s₂.TypeIs o T/\wpAny (model prog w) A (getItem o i) Q E s₂) E c) E s):
  wpAny (model prog w) A (eval (.Subscript value slice pos) env) Q E s:=by
 refine Subscript_ (GD h (λo c f=>GD f (λi s₂ b=>?_) λ_ _ x=>x) λ_ _ x=>x);obtain⟨e,b⟩:=b;unfold subscriptTail;refine Aw ?_;rw[getitemInPython_of_ne e.not_modules];refine Aw (wpAny_specialOf e hl ?_);have a:wpAny (model prog w) A (subscripted slice false o i) (λr d=>wpAny (model prog w) A (letTemporaryGo value o r >>= λ_=>pure r) Q E d) E s₂:=by
  rw[hs o i];exact wpAny_operating (GD b (λr d g=>Aw (wpAny_letTemporaryGo (Bl g))) λ_ _ x=>x)
 first
  | exact Bl (Aw a)
  | exact Aw (Bl (Aw a))
  | exact Aw a
variable{X:Cx}
theorem Y3k{pins:U1}{σ:St}{s:U7}{o:Option V}(I:Inv X pins σ H s)(g:Fi H a y o):s.TypeIs (.ref a) "dict":=by
 rcases g with ⟨kvs,k,e,_,_⟩ | ⟨kvs,k,b,e,_,_,_⟩
 ·obtain⟨_,_,vs,_,dd⟩:=X8 I.hok e;exact dd.typeIs
 ·obtain⟨_,_,xs,_,dd⟩:=X_ I.hok e;exact dd.typeIs
def Vl (td ty:TE):TE:=λσ H Q=>td σ H λx H1=>ty σ H1 λy H2=>∃a v,x=.ref a/\Fi H2 a y (some v)/\Q v H2
def bN (ty td:TE):TE:=λσ H Q=>ty σ H λy H1=>td σ H1 λx H2=>∃a o,x=.ref a/\Fi H2 a y o/\Q (.bl o.isSome) H2
def X6n (ty td:TE):TE:=λσ H Q=>ty σ H λy H1=>td σ H1 λx H2=>∃a o,x=.ref a/\Fi H2 a y o/\Q (.bl (!o.isSome)) H2
def Vr (td ty tv:TE):TS:=λD σ H=>tv σ H λv H1=>td σ H1 λx H2=>ty σ H2 λy H3=>∃a H4,x=.ref a/\Jg H3 a y v H4/\D.nx σ H4
section
variable {X:Cx}{o i e value:Expr}{pos pos' tpos:Pos}{td ty tv:TE}
theorem tR(hu:X.A.units+1<cLine)(ho:PE X o td)(hi:PE X i ty)(hs:YJ i):PE X (.Subscript o i pos) (Vl td ty):=by
 intro pins s σ H Q I h;refine X6p PySem.F.slot_dict_getitem.lookup hs (Bk (ho pins s σ H _ I h) λu m ⟨x,H1,l,e,f⟩=>Bk (hi pins m σ H1 _ l f) λp s2 ⟨y,H2,c,d,a,v,ex,g,k⟩=>?_);subst ex;obtain rfl:u=Value.ref a:=e;exact⟨Y3k c g,X0w hu c g d λn s3 j b=>⟨v,H2,j,b,k⟩⟩
theorem W1u(hu:X.A.units+1<cLine)(hi:PE X i ty)(ho:PE X o td):PC X .In i o (bN ty td):=by
 intro pins s σ H Q I h;refine Bk (hi pins s σ H _ I h) λn m ⟨y,H1,l,b,e⟩=>Bk (ho pins m σ H1 _ l e) λu s2 ⟨x,H2,k,d,a,c,ex,g,j⟩=>?_;subst ex;obtain rfl:u=Value.ref a:=d;exact lA hu k g b λs3 f=>⟨.bl c.isSome,H2,f,U,j⟩
theorem Y8q(hu:X.A.units+1<cLine)(hi:PE X i ty)(ho:PE X o td):PC X .NotIn i o (X6n ty td):=by
 intro pins s σ H Q I h;refine Bk (hi pins s σ H _ I h) λn m ⟨y,H1,l,b,e⟩=>Bk (ho pins m σ H1 _ l e) λu s2 ⟨x,H2,k,d,a,c,ex,g,j⟩=>?_;subst ex;obtain rfl:u=Value.ref a:=d;exact X9s hu k g b λs3 f=>⟨.bl (!c.isSome),H2,f,U,j⟩
theorem tV(hu:X.A.units+1<cLine)(ho:PE X o td)(hi:PE X i ty)(hv:PE X value tv)(hs:swapsWith value (some (.Subscript o i pos')) pos.line X.env=pure false):
  PS X (.Assign [.Subscript o i pos'] value pos) (Vr td ty tv):=by
 intro pins s σ H D I h;refine wpAny_Assign_Subscript (Bk (hv pins s σ H _ I h) λr q ⟨v,H1,p,n,j⟩=>Bk (ho pins q σ H1 _ p j) λu s2 ⟨x,H2,m,f,l⟩=>Bk (hi pins s2 σ H2 _ m l) λw s3 ⟨y,t,k,b,a,e,ex,g,c⟩=>?_) hs;subst ex;obtain rfl:u=Value.ref a:=f;exact X0v hu k g b n λs4 d=>⟨σ,e,d,c⟩
end
theorem X3x(h:Heap)(hb:sysModules<h.objs.size):BR P w H (h.push { cls:=.type "dict",data:=.dict #[]}) h.objs.size (.dK []):=
 ⟨Ed _,beq_eq_false_iff_ne.mpr (Ne.symm (DY hb)),[],.nil,Heap.DictOf.new h⟩
theorem X3w(h:Heap)(hb:sysModules<h.objs.size):BR P w H (h.push { cls:=.type "dict",data:=.dict #[]}) h.objs.size (.dT []):=
 ⟨Ed _,beq_eq_false_iff_ne.mpr (Ne.symm (DY hb)),[],.nil,_,#[],0,Fj _ rfl,⟨U,U,U⟩,U,U,List.nodup_nil⟩
def Q_:TE:=λ_ H Q=>∀p,H p=none->Q (.ref p) (upd H p (.dK []))
section
variable {X:Cx}{pos:Pos}
theorem vL:PE X (.Dict [] [] pos) Q_:=λpins s σ H Q I h =>
 wpAny_Dict_empty ⟨.ref s.heap.objs.size,_,I.laid (a:=s.heap.objs.size) (o:=.dK []) (t':=s.toks) (λ_ _ q=>Ef _ q) (Bd _) (X3x s.heap I.big),U,h _ (I.hok.fresh (Bd _))⟩
end
def Js:List (TE×TE)->St->Hp->(List (V×V)->Hp->Prop)->Prop
 | [],_,H,Q=>Q [] H
 | (tk,tv)::r,σ,H,Q=>tk σ H λx H1=>tv σ H1 λy H2=>Js r σ H2 λps H3=>Q ((x,y)::ps) H3
abbrev VV:List (V×V)->List (Value×Value)->Prop:=Paired λp q=>RelV p.1 q.1/\RelV p.2 q.2
def aW (X:Cx)(pos:Pos)(keys:List (Option Expr))(values:List Expr)(trs:List (TE×TE)):Prop :=
 ∀(pins:U1) (s:U7) (σ:St) (H:Hp) (Q:List (V×V)->Hp->Prop),Inv X pins σ H s->Js trs σ H Q ->
  wpAny (model X.prog X.w) X.A (evalPairs (pairTrees keys values X.env pos)) (λvs s'=>∃ps H',Inv X pins σ H' s'/\VV ps vs/\Q ps H') X.xe s
theorem X7a{pos:Pos}:aW X pos [] [] []:=λpins s σ H Q I h=>pairTrees_nil_walk ⟨[],H,I,.nil,h⟩
theorem X2d{pos:Pos}{k v:Expr}{ks:List (Option Expr)}{vs:List Expr}{tk tv:TE}{trs:List (TE×TE)}(hk:PE X k tk)(hv:PE X v tv)(hr:aW X pos ks vs trs):
  aW X pos (some k::ks) (v::vs) ((tk,tv)::trs):=λpins s σ H Q I h =>
 pairTrees_cons_walk (Bk (hk pins s σ H _ I h) λu m ⟨x,H1,l,e,f⟩=>Bk (hv pins m σ H1 _ l f) λo s2 ⟨y,H2,j,b,i⟩ =>
  Bk (hr pins s2 σ H2 _ j i) λn s3 ⟨ps,d,g,a,c⟩=>⟨(x,y)::ps,d,g,.cons ⟨e,b⟩ a,c⟩)
section
variable {X:Cx}{pins:U1}{σ:St}{H:Hp}{s:U7}{a:W9}{y d:V}{u r:W2}{o:Option V}{A:W6}{E:U2}
end
section
variable {X:Cx}{o e f:Expr}{apos cpos:Pos}{td ty tx:TE}
end
end L2
namespace L2
def N_ (i j:Int):Prop:=∃a b,Sz a i/\Sz b j/\a+b<=100000000
theorem N_.ok{i j:Int}(h:N_ i j):IntMulOk i j:=by
 obtain⟨a,b,h1,h2,c⟩:=h;have d:=h1.bits;have e2:=h2.bits;unfold IntMulOk
 rw[show Builtin.Int.intTooBig (Builtin.Int.intBits i+Builtin.Int.intBits j)=false by
  unfold Builtin.Int.intTooBig
  have:bitsLine=134217728:=rfl
  rw[this]
  exact Dh (by lia)]
 simp
section
variable {X:Cx}
theorem Ko:Et X (binaryOp .Mult) (rI N_ λi j=>.int (i*j)):=Rk λ_ _ _ _ _ _ _ a q=>mul_int q a.ok
theorem J9(hc:X.calm=true):CP X (.builtin "all") (λxs H Q=>∃(p:W9) (bs:List Bool),xs=[.ref p]/\Ag X.K H p (bs.map V.bl)/\Q (.bl (bs.all id)) H):=by
 intro pins s σ H xs us Q I r h;obtain⟨p,bs,rfl,n,q⟩:=h;obtain⟨u,rfl,f⟩:=r.one;cases f;obtain⟨its,k,g,y⟩:=I.list n;have a:its.length=bs.length:=by rw[<-k.length,Az]
 refine call_all_walk (Yw g.isList ?_)
 have W:=Walks.list (prog:=X.prog) (w:=X.w) (A:=X.A.in1) (show X.A.in1.handled=none from I.ok.hd hc) s.heap.objs.size p (by
  obtain⟨o,e,_⟩:=g.isList
  exact DY (CN e)) its.toArray
 refine⟨s.heap.objs.size,_,_,_,_,_,λi=>bs.getD i false,U,W,⟨⟨_,Fj _ rfl,U,U⟩,g.isList.push _⟩,?_,λh' tk m=>?_⟩
 ·intro i v s' B C x t;have d:its[i]?=some v:=by simpa using x
  have hi:i<bs.length:=by rw[<-a];exact(Fe.mp d).1
  obtain⟨u,l,f⟩:=k.get (show (bs.map V.bl)[i]?=some (.bl (bs.getD i false)) by simp[hi]);rw[d]at l;cases l;cases f;exact O7 t
 ·have e:(List.range its.toArray.size).all (λi=>bs.getD i false)=bs.all id:=by
   rw[Ep,a,Tj,Gz,Gz];constructor
   ·intro z b hb;obtain⟨i,hi,rfl⟩:=O8.mp hb;have:=z i (Ew.mpr hi);simpa [hi] using this
   ·intro z i hi;have c:i<bs.length:=Ew.mp hi;have:=z bs[i] (Oa c);simpa [c] using this
  rw[e];refine⟨.bl (bs.all id),H,?_,U,q⟩;exact I.kept (t':=tk) λb o j=>m b o (by simp;exact DY (CN j)) (Ef _ j)
end
section
variable {P:U8}{w:W1}{H:Hp}{h:Heap}
def Je (H:Hp):List Addr->List (List Int)->Prop:=Paired λp ns=>H p=some (.tup (ns.map V.int))
theorem sI(ok:Ez P w H h):∀{ps:U3}{xs:List (List Int)}{us:U5},Je H ps xs->Vals (ps.map V.ref) us->∃b,ReadsAll h us (xs.map λns=>PyData.tuple (ns.map PyData.int)) b
 | [],[],us,.nil,r=>by cases r;exact⟨[],.nil⟩
 | p::ps,ns::xs,us,.cons e r,rv=>by
  cases rv with
  | cons ru rr =>
   cases ru;obtain⟨b,c⟩:=sI ok r rr;obtain⟨_,its,a,d⟩:=(show BR P w H h p (.tup (ns.map V.int)) from ok p _ e);exact⟨_,.cons (Xy d (Nr a)) c⟩
end
section
variable {X:Cx}
theorem rK:∀xs:List (List Int),PyData.canLayAll0 (xs.map λns=>PyData.tuple (ns.map PyData.int))=true
 | []=>by simp[PyData.canLayAll0]
 | n::r=>by simp[PyData.canLayAll0,PyData.canLay0,rK r,qU n]
theorem rB:∀xs:List (List Int),PyData.depthAll (xs.map λns=>PyData.tuple (ns.map PyData.int))<=2
 | []=>by simp[PyData.depthAll]
 | n::r=>by
  have h1:=rB r;have h2:=qH n;simp only[FJ,PyData.depthAll,PyData.depth];lia
theorem Zt(xs:List (List Int)):SeqAt.shaped (.list (xs.map λns=>PyData.tuple (ns.map PyData.int)))=true:=by
 have h2:PyData.depth (.list (xs.map λns=>PyData.tuple (ns.map PyData.int)))<=64:=by
  have:=rB xs;simp only[PyData.depth];lia
 show (PyData.canLay0 _ && decide _)=true;rw[GF];exact⟨by simp only[PyData.canLay0];exact rK xs,Dr h2⟩
theorem mG:∀xs ys:List (List Int),SeqAt.noMixAll (xs.map λns=>PyData.tuple (ns.map PyData.int)) (ys.map λns=>PyData.tuple (ns.map PyData.int))=true
 | [],[]=>by simp[SeqAt.noMixAll]
 | [],_::_=>by simp[SeqAt.noMixAll]
 | _::_,[]=>by simp[SeqAt.noMixAll]
 | n::r,m::q=>by
  simp only[FJ,SeqAt.noMixAll,SeqAt.noMix,GF];exact⟨fV n m,mG r q⟩
theorem lY:∀xs ys:List (List Int),PySem.Spec.sameAll (xs.map λns=>PyData.tuple (ns.map PyData.int)) (ys.map λns=>PyData.tuple (ns.map PyData.int))=decide (xs=ys)
 | [],[]=>by simp[PySem.Spec.sameAll]
 | [],_::_=>by simp[PySem.Spec.sameAll]
 | _::_,[]=>by simp[PySem.Spec.sameAll]
 | n::r,m::q=>by
  simp only[FJ,PySem.Spec.sameAll,PySem.Spec.same,fO,lY r q];by_cases e:n=m<;>simp[e]
def QZ (neg:Bool):R2:=λx y H Q=>∃(a b:W9) (ps qs:U3) (xs ys:List (List Int)),x=.ref a/\y=.ref b/\H a=some (.lst (ps.map V.ref))/\H b=some (.lst (qs.map V.ref))/\Je H ps xs/\Je H qs ys/\Q (.bl (if neg then !decide (xs=ys) else decide (xs=ys))) H
theorem Zr{pins:U1}{σ:St}{H:Hp}{s:U7}(I:Inv X pins σ H s){a:W9}{ps:U3}{xs:List (List Int)}(h:H a=some (.lst (ps.map V.ref)))(r:Je H ps xs):∃as,Reads s.heap (.ref a) (.list (xs.map λns=>PyData.tuple (ns.map PyData.int))) as:=by
 obtain⟨its,b,d,_⟩:=I.list (Ag.of h);obtain⟨as,c⟩:=sI I.hok r b;obtain⟨o,e,f,n,hd⟩:=d.isList;exact⟨_,Reads.list e f hd (by simpa using c)⟩
theorem X7j(hu:X.A.units+64<cLine):Et X (compareOp .Eq) (QZ false):=by
 intro pins s σ H x y v u Q I f c h;obtain⟨a,b,ps,qs,xs,ys,rfl,rfl,h1,h2,g,e,q⟩:=h;cases f;cases c;obtain⟨j,i⟩:=Zr I h1 g;obtain⟨bs,d⟩:=Zr I h2 e;refine eq_dataH_same i d (Zt xs) (Zt ys) hu (by simp only[SeqAt.noMix];exact mG xs ys) ⟨.bl (decide (xs=ys)),H,I,?_,q⟩;show _=_;simp only[PySem.Spec.same];rw[lY]
theorem X7g(hu:X.A.units+64<cLine):Et X (compareOp .NotEq) (QZ true):=by
 intro pins s σ H x y v u Q I f c h;obtain⟨a,b,ps,qs,xs,ys,rfl,rfl,h1,h2,g,e,q⟩:=h;cases f;cases c;obtain⟨j,i⟩:=Zr I h1 g;obtain⟨bs,d⟩:=Zr I h2 e;refine ne_dataH_same i d (Zt xs) (Zt ys) hu (by simp only[SeqAt.noMix];exact mG xs ys) ⟨.bl (!decide (xs=ys)),H,I,?_,q⟩;show _=_;simp only[PySem.Spec.same];rw[lY]
end
section
variable {X:Cx}{scope:Scope}{Nc:W0}{ex:U3}{pins:U1}{s:U7}{H:Hp}
theorem vJ(hu:X.A.units+64<cLine):Et (Bw X scope Nc ex pins s H) (compareOp .Eq) (Mq X.K false):=X7i hu
end
end L2
namespace L2
open PySem.W PySem.Calls
def Kw (ns:U6):Prop:=∀n∈ns,Sz 1048576 n
theorem rZ:∀{ns:U6}{W:Nat},WData.weightAll (ns.map WData.int)<=W->∀n∈ns,Sz W n
 | m::r,W,h,n,hn=>by
  simp only[FJ,WData.weightAll,WData.weight]at h;rcases Dg.mp hn with rfl | hn
  ·unfold Sz;by_cases z:n=0
   ·subst z;exact Cq _
   ·have a:(n == 0)=false:=by simpa using z
    rw[a,if_neg (by simp)]at h;have h1:n.natAbs.log2<W:=by lia
    exact(RG (by lia)).mp h1
  ·exact rZ (W:=W) (by lia) n hn
theorem X3h{ns:U6}(h:WData.layableAll [WData.list (ns.map WData.int)]=true):Kw ns:=by
 simp only[WData.layableAll,V7,List.all_nil,Bool.and_true,WData.layable,GF,Jk]at h;exact rZ (W:=1048576) (by have:=h.2;simpa [WData.weight] using this)
variable{XP:(Str->Option Value)->Heap->Prop}{YP:World->Heap->Prop}{d:DefRec}
theorem Y2f{l:OpenLaw}{n:Nat}{q:U8}{loose:W0}
  (hn:l.most=some n) (hdf:d.params.defaults=[])
  (call:∀(w:W1) (u b:U7) (mg t:U4) (i:W9) (o:Obj) (pm m e:W2) (a:W9) (vs:U5) (ns:U6),Kw ns ->
   Ground q loose [] XP w u mg t b.heap->YP w b.heap ->
   b.heap.get? i=some o->o.data=.func (docDef d.name d.params d.body d.scope pm m e)->b.heap.CodeRec m d.name->mg d.name=some (.ref i) ->
   b.heap.get? a=some { cls:=.type "list",data:=.seq vs.toArray}->IntsAre vs ns->ns.length<=n->b.gens=#[] ->
   codeAny (model l.prog w) callerA (.call (.ref i) ⟨[.ref a],[]⟩) (λr s'=>r=.ok (.ret (.bool true))/\OldK b.heap s'.heap/\s'.os=b.os/\AllBare s'.gens) b):
  WalkO q loose XP YP l.row.toRowW d [] (λf vs=>PySem.call f vs):=by
 intro w u b mg t G Y i o pm m e z kV E hd p y s F args x I g j B v D;obtain rfl:z=.none:=Dflts.none y hdf;obtain rfl:kV=.none:=Dflts.noKw y;obtain⟨a,vs,ns,rfl,rfl,k,c,h⟩:=pR.Y8e hn g v;refine enter_call (V5 (call w u b mg t i o pm m e a vs ns (X3h j) G Y E (fd_plain hd) p s k c h F) λr s' A=>?_);obtain⟨rfl,h2,C,H⟩:=A;exact⟨.inl ⟨.bool true,.bool true,[],U,λ_=>rfl,.bool true,pR.Y8i l _,λ_=>⟨List.Pairwise.nil,λ_ hm=>(nomatch hm)⟩⟩,h2,C,H⟩
theorem Y5u{l:PySem.W.OpenLaw}{n k:Nat}{q:U8}{loose:W0}{K:Params->U0}{CX:World->N7}{sp:World->Sp}{x:Str}
  (hn:l.most=some n) (hn2:n<=sizeLine) (hdf:d.params.defaults=[]) (hr:Cg k callerA)
  (hY:∀(w:W1) (h:Heap),YP w h->(K w.params).In h)
  (F:∀(w:W1) (mg:U4) (m:W9) (h:Heap),(K w.params).In h->h.Ns mainGlobals mg->mg d.name=some (.ref m) ->
   ∃fd:FuncData,(∀(s:U7) (u:W2),BindsTo s fd ⟨[u],[]⟩ [(x,u)]) /\
    ∀base:Heap,(K w.params).In base->base.Ns mainGlobals mg->Ec l.prog w (K w.params) mg base (CX w) k m fd [x] (sp w))
  (hsp:∀(w:W1) (H:Hp) (a:W9) (ns:U6),ns.length<=n->Kw ns->Ag (K w.params) H a (ns.map V.int)->sp w [.ref a] H (λv _=>v=.bl true) λ_ _ _=>False)
  (hCX:∀(w:W1) (H:Hp) (s:U7) (e:W2) (s':U7),CX w [] H s (λ_ _ _=>False) e s'->False):
  PySem.W.WalkO q loose XP YP l.row.toRowW d [] (λf vs=>PySem.call f vs):=by
 refine Y2f hn hdf λw I t mg D m o pm J B a vs ns lt G Y E hd y p j i c A=>?_;have r:=hY w _ Y;obtain⟨fd,hb,z⟩:=F w mg m _ r G.T.g p;exact X3l r G.T.g G.T.b G.T.builtins G.T.nolimit A j i (E_ c hn2) hr z hb (λH _ C=>hsp w H a ns c lt C) λH e s'=>hCX w H t e s'
end L2
namespace Ba
open L2 Am Pc
noncomputable abbrev T5 (a b c d h:Int):HO:=.tup [.int a,.int b,.int c,.int d,.int h]
structure Red (a b c d h x y z u g:Int):Prop where
 amt:Ly x y z u g
 same:Cz a b c d h x y z u g
 s1:x.natAbs<=a.natAbs
 s2:y.natAbs<=b.natAbs
 s3:z.natAbs<=c.natAbs
 s4:u.natAbs<=d.natAbs
 le:g<=h
structure Nx (n:Nat) (a b c d:Int):Prop where
 z1:Sz n a
 z2:Sz n b
 z3:Sz n c
 z4:Sz n d
variable{a b c d h x y z u g:Int}{n:Nat}
theorem Red.sz(r:Red a b c d h x y z u g)(s:Nx n a b c d):Nx n x y z u:=⟨s.z1.le r.s1,s.z2.le r.s2,s.z3.le r.s3,s.z4.le r.s4⟩
theorem Nx.mono{m:Nat}(s:Nx m a b c d)(h:m<=n):Nx n a b c d:=⟨s.z1.mono h,s.z2.mono h,s.z3.mono h,s.z4.mono h⟩
noncomputable def Dq:Nat->Int×Int×Int×Int->Int×Int×Int×Int
 | 0,v=>v
 | n+1,v=>let (a,b,c,d):=Dq n v;(-d,a,b,c)
noncomputable abbrev T4 (v:Int×Int×Int×Int)(h:Int):HO:=T5 v.1 v.2.1 v.2.2.1 v.2.2.2 h
abbrev A5:=(Int×Int×Int×Int)×Int
noncomputable abbrev tA (x:A5):HO:=T4 x.1 x.2
noncomputable def Bc (x:A5)(k:Int):A5:=(Dq (k%8).toNat x.1,x.2)
structure Jq (n:Nat) (m:Int) (x:A5):Prop where
 sz:Nx n x.1.1 x.1.2.1 x.1.2.2.1 x.1.2.2.2
 amt:Ly x.1.1 x.1.2.1 x.1.2.2.1 x.1.2.2.2 x.2
 le:x.2<=m
theorem Jq.mono{n':Nat}{m m':Int}{x:A5}(o:Jq n m x)(h:n<=n')(h':m<=m'):Jq n' m' x:=⟨o.sz.mono h,o.amt,Int.le_trans o.le h'⟩
theorem xq{n:Nat}{m:Int}{v:Int×Int×Int×Int}{h:Int}(o:Jq n m (v,h)):∀k,Jq n m (Dq k v,h)
 | 0=>o
 | k+1=>by
  have:=xq o k;show Jq n m ((-(Dq k v).2.2.2,(Dq k v).1,(Dq k v).2.1,(Dq k v).2.2.1),h);refine⟨⟨this.sz.z4.neg,this.sz.z1,this.sz.z2,this.sz.z3⟩,⟨this.amt.nn,?_⟩,this.le⟩;have o:h=0\/(Dq k v).1%2=1\/(Dq k v).2.1%2=1\/(Dq k v).2.2.1%2=1\/(Dq k v).2.2.2%2=1:=this.amt.odd;show h=0\/(-(Dq k v).2.2.2)%2=1\/(Dq k v).1%2=1\/(Dq k v).2.1%2=1\/(Dq k v).2.2.1%2=1;lia
noncomputable def l5 (x:A5):List Int:=[x.1.1,x.1.2.1,x.1.2.2.1,x.1.2.2.2,x.2]
structure Hv (a b c d h x y z u g:Int):Prop where
 same:Cz a b c d h x y z u g
 s1:x.natAbs<=a.natAbs
 s2:y.natAbs<=b.natAbs
 s3:z.natAbs<=c.natAbs
 s4:u.natAbs<=d.natAbs
 le:g<=h
 nn:0<=g
theorem Hv.red(v:Hv a b c d h x y z u g)(o:g=0\/x%2=1\/y%2=1\/z%2=1\/u%2=1):Red a b c d h x y z u g:=⟨⟨v.nn,o⟩,v.same,v.s1,v.s2,v.s3,v.s4,v.le⟩
theorem aF(hx:x%2=0)(hg:0<g):Hi x g (x / 2) (g-1):=by
 unfold Hi;have e:p2 g=p2 (g-1)*2:=by rw[Ug (a:=g) (b:=1) (by decide) (by lia)];rfl
 rw[e];have:x=2*(x / 2):=by lia
 generalize x / 2=y at *;subst this;grind
theorem Hv.half(v:Hv a b c d h x y z u g)(hg:0<g)(e:x%2=0/\y%2=0/\z%2=0/\u%2=0):Hv a b c d h (x / 2) (y / 2) (z / 2) (u / 2) (g-1):=by
 obtain⟨i,e2,j,f⟩:=e;have:=v.s1;have:=v.s2;have:=v.s3;have:=v.s4;have:=v.le;exact⟨v.same.trans ⟨aF i hg,aF e2 hg,aF j hg,aF f hg⟩,by lia,by lia,by lia,by lia,by lia,by lia⟩
theorem Xc:(([a,b,c,d].map λn=>decide (V.int (n%2)=V.int 0)).all id=true)↔(a%2=0/\b%2=0/\c%2=0/\d%2=0):=by
 have e:∀n:Int,decide (V.int (n%2)=V.int 0)=true↔n%2=0:=λn=>by rw[decide_eq_true_iff];exact⟨λz=>V.int.inj z,λz=>by rw[z]⟩
 simp only[FJ,Yi,V7,List.all_nil,id,Bool.and_true,GF,e]
noncomputable def cell (ns:U6)(i:Int):Int:=if i<ns.length then ns.getD i.toNat 0 else 0
def RD:Sp:=λvs H Q _=>∃(p:W9) (x:A5) (k:Int),vs=[.ref p,.int k]/\H p=some (tA x)/\∀(r:W9) (H':Hp),Same H H'->H' r=some (tA (Bc x k))->Q (.ref r) H'
def CZ:Sp:=λvs H Q _=>∃n:Nat,vs=[.int n]/\Q (.int (pc n)) H
def Im (K:U0):Sp:=λvs H Q _=>∃(a:W9) (ns:U6) (i:Int),vs=[.ref a,.int i]/\Ag K H a (ns.map V.int)/\0<=i/\Q (.int (cell ns i)) H
def Pr:Sp:=λvs H Q _=>∃i:Int,vs=[.int i]/\Q (.bl true) H
def uD:Sp:=λvs H Q _=>∃c:Int,vs=[.int c]/\∀n:Nat,1<=n->n<=6->Q (.int n) H
def QS:Sp:=λvs H Q _=>∃(l:W9) (a b c d h:Int),vs=[.ref l,.int h]/\H l=some (.lst ([a,b,c,d].map V.int))/\0<=h/\∀(p:W9) (H':Hp) (x y z u g:Int),Same H H'->H' p=some (T5 x y z u g)->Red a b c d h x y z u g->Q (.ref p) H'
def KN (K:U0)(n:Nat):Sp:=λvs H Q _=>∃(a:W9) (ns:U6),vs=[.ref a]/\Ag K H a (ns.map V.int)/\ns.length<=n/\Kw ns/\∀H',Q (.bl true) H'
theorem wz{ns:U6}{i:Int}(h0:0<=i)(h:i<ns.length):Fg (ns.map V.int) i=some (.int (ns.getD i.toNat 0)):=by
 have a:i.toNat<ns.length:=by lia
 have b:i=((i.toNat:Nat):Int):=by lia
 have q:Fg (ns.map V.int) ((i.toNat:Nat):Int)=some (.int ns[i.toNat]):=J6 (by rw[Bu,Cm a]<;>rfl);rw[<-b]at q;rw[q,Bp,Cm a];rfl
theorem t2:2<=sizeLine:=by decide
theorem t3:3<=sizeLine:=by decide
theorem t4:4<=sizeLine:=by decide
theorem t5:5<=sizeLine:=by decide
theorem Hu(h:n<=64):n<=sizeLine:=E_ h (by decide)
theorem GZ(h:n<=6):2^n<=64:=E_ (Fw (by decide) h) (by decide)
theorem ipow(n:Nat):(1:Int)*2^((n:Int).toNat)=((2^n:Nat):Int):=by simp
theorem GQ:Sz 1 1:=by decide +kernel
theorem qm:(0:Int)<2:=by decide
theorem ZG:(0:Int)<3:=by decide
theorem qj:(0:Int)<7:=by decide
theorem qe:(0:Int)<8:=by decide
theorem zm:(0:Int)<2147483647:=by decide
theorem X5(K:U0):PySem.W.kitOne K (.type "tuple") (.type "tuple")=some true:=by unfold PySem.W.kitOne;rw[if_pos (by decide)]
end Ba
namespace Ax
open L2 Am Pc Ba
noncomputable def top (i:Nat):Stmt:=PySem.Challenge.pw_spinboard_k61_whole_the_board_of_a_table.main.body.getD i (.Pass ⟨0,0,0,0⟩)
structure Bs (mg:U4):Prop where
 isinstance:mg "isinstance"=none
 int:mg "int"=none
 bool:mg "bool"=none
 tuple:mg "tuple"=none
 list:mg "list"=none
 len:mg "len"=none
 range:mg "range"=none
 all:mg "all"=none
 any:mg "any"=none
 max:mg "max"=none
 min:mg "min"=none
 zip:mg "zip"=none
 set:mg "set"=none
 str:mg "str"=none
 enumerate:mg "enumerate"=none
 reversed:mg "reversed"=none
 sorted:mg "sorted"=none
 sum:mg "sum"=none
section
variable {P:U8}{w:W1}{K:U0}{mg:U4}{base:Heap}{k:Nat}{h:Heap}
theorem X7z(F:Ab K "_law_cell_at" (top 81) .none)(X:K.In h)(G:Ng h mg)(B:Bs mg):Aj P w K mg base (k+1) "_law_cell_at" ["_law_script","_law_k"] (Im K):=by
 refine F.cal X G ["_law_script","_law_k"] λg H vs Q E f h=>?_;obtain⟨a,ns,i,rfl,d,e,q⟩:=h
 refine⟨_,(@Ay _ _ _ _ _ (Bx (Bf J5 (pv 1) (CJ GP rfl B.len Fv (Aa (pv 0) Ae)) (Ac _))
   (@Ak _ _ _ (BL (Ao FZ (pv 0) (pv 1) (λ_ _=>rfl))))
   B_)
  (@Ak _ _ _ (BL Ad))),?_⟩
 try dsimp only[CG]
 have b:(ns.map V.int).length=ns.length:=Az _;refine⟨_,U,_,U,a,_,U,.inl d,_,_,U,U,_,U,BJ (λc=>?_) (λc=>?_)⟩
 ·rw[b]at c;refine⟨_,U,_,U,a,_,_,_,U,U,d,wz e c,?_⟩;unfold cell at q;rw[if_pos c]at q;exact q
 ·rw[b]at c;unfold cell at q;rw[if_neg c]at q;exact q
theorem X2l(F:Ab K "_law_whole" (top 82) .none)(X:K.In h)(G:Ng h mg)(B:Bs mg):Aj P w K mg base (k+1) "_law_whole" ["_law_found"] Pr:=by
 refine F.cal X G ["_law_found"] λb H vs Q E a h=>?_;obtain⟨i,rfl,q⟩:=h;refine⟨_,(@Ak _ _ _ (BL (K9 (CJ J_ rfl B.isinstance IW (Aa (pv 0) (Aa (JZ (v:=.ty "int") rfl B.int boot_int rfl) Ae))) (Kl (Rz (CJ J_ rfl B.isinstance IW (Aa (pv 0) (Aa (JZ (v:=.ty "bool") rfl B.bool boot_bool rfl) Ae)))))))),?_⟩;try dsimp only[CG]
 refine⟨_,U,_,_,_,true,U,Bj.int i,mU K,_,U,Dc ?_⟩;exact⟨_,U,_,_,_,false,U,Bj.int i,mR K,_,U,q⟩
theorem W2f(F:Ab K "_law_low" (top 84) .none)(X:K.In h)(G:Ng h mg)(B:Bs mg):Aj P w K mg base (k+1) "_law_low" ["_law_parts","_law_h"] QS:=by
 refine F.cal X G ["_law_parts","_law_h"] λD H vs Q E S h=>?_;obtain⟨l,a,b,c,d,h,rfl,O,L,q⟩:=h
 refine⟨_,(@Ay _ _ _ _ _ (Ze PassesOwn.never (PW.pt (Oh (Bf Lq (pv 1) Ad (Ac _)) (Ol (DW (CJ (J9 rfl) rfl B.all Jx (Aa (Gp rfl (BW.of (Nc:=["_law_part"]) (mp:=[none]) (by kernel_rfl)) (Ei (pv 0)) (λ_ _ _ _=>(Bb (i:=0) (show (["_law_part"]:W0).Nodup by decide +kernel) rfl (Or.inl rfl))) (λ_ _ _ _=>(HD Df (Af Cv (pv 0) Ad) Ad (Ac _)))) Ae))))))
   (@Ay _ _ _ _ _ (Qw (i:=0) rfl D rfl rfl (BW.of (Nc:=["_law_part"]) (mp:=[none]) (by kernel_rfl)) (Ei (pv 0)) (λ_ _ _ _=>(Bb (i:=0) (show (["_law_part"]:W0).Nodup by decide +kernel) rfl (Or.inl rfl))) (λ_ _ _ _=>(Af Ih (pv 0) Ad)) rfl)
   (@Ak _ _ _ (@BX _ _ 1 _ _ _ _ D rfl (Or.inl rfl) (Af JH (pv 1) Ad) rfl (.inl rfl)))))
  (@Ak _ _ _ (BL (@Cw _ _ _ _ _ (Aa (Ao FZ (pv 0) Ad (λ_ _=>rfl)) (Aa (Ao FZ (pv 0) Ad (λ_ _=>rfl)) (Aa (Ao FZ (pv 0) Ad (λ_ _=>rfl)) (Aa (Ao FZ (pv 0) Ad (λ_ _=>rfl)) (Aa (pv 1) Ae))))))))),?_⟩
 try dsimp only[CG]
 refine⟨λm σ H'=>∃e x y u v g,m=g.toNat/\σ=[some (.ref e),some (.int g)]/\Same H H'/\H' e=some (.lst ([x,y,u,v].map V.int))/\Hv a b c d h x y u v g,⟨_,l,a,b,c,d,h,U,U,Same.refl _,O,⟨U,U,U,U⟩,Bd _,Bd _,Bd _,Bd _,Vy _,L⟩,?_⟩;rintro m σ H2 ⟨e,x,y,u,v,g,rfl,rfl,s2,l2,j⟩;refine⟨_,U,_,_,U,U,_,U,BJ (λC=>?_) (λC=>?_)⟩
 ·refine⟨_,U,e,U,⟨_,Ag.of l2⟩,λacc f=>?_⟩;refine u5 (ns:=[x,y,u,v]) (fr:=[]) (λn=>.bl (decide (V.int (n%2)=V.int 0))) (Ag.of l2) t4 f (λn p N _ r=>?_) (λp s3 J=>?_)
  ·exact⟨_,U,_,_,U,U,qm,U,r⟩
  refine⟨acc,[x,y,u,v].map λn=>decide (V.int (n%2)=V.int 0),U,Ag.of (by rw[J];rfl),_,U,Gw (λc=>?_) (λc=>?_)⟩
  ·have l3:=s3 _ _ l2;refine⟨_,λ_ _ h=>h,_,U,e,U,⟨_,Ag.of l3⟩,λM A=>?_⟩;refine u5 (ns:=[x,y,u,v]) (fr:=[]) (λn=>.int (n / 2)) (Ag.of l3) t4 A (λn p N _ r=>?_) (λR s4 I=>?_)
   ·exact⟨_,U,_,_,U,U,⟨by decide,by decide⟩,r⟩
   refine⟨_,U,_,_,U,U,?_⟩;refine⟨(g-1).toNat,by lia,M,x / 2,y / 2,u / 2,v / 2,g-1,U,U,s2.trans (s3.trans s4),I,j.half C (Xc.mp c)⟩
  ·have l3:Ag K p e ([x,y,u,v].map V.int):=Ag.of (s3 _ _ l2);have o:x%2=1\/y%2=1\/u%2=1\/v%2=1:=by
    have:¬ (x%2=0/\y%2=0/\u%2=0/\v%2=0):=λz=>by rw[Xc.mpr z]at c;cases c
    lia
   refine⟨_,U,e,_,_,_,U,U,l3,U,_,U,e,_,_,_,U,U,l3,U,_,U,e,_,_,_,U,U,l3,U,_,U,e,_,_,_,U,U,l3,U,_,U,t5,λt s=>?_⟩;exact q t _ x y u v g (s2.trans (s3.trans (A_ s _))) Ar (j.red (.inr o))
 ·have l3:Ag K H2 e ([x,y,u,v].map V.int):=Ag.of l2;refine⟨_,U,e,_,_,_,U,U,l3,U,_,U,e,_,_,_,U,U,l3,U,_,U,e,_,_,_,U,U,l3,U,_,U,e,_,_,_,U,U,l3,U,_,U,t5,λt s=>?_⟩;exact q t _ x y u v g (s2.trans (A_ s _)) Ar (j.red (.inl (by have:=j.nn;lia)))
end
end Ax
noncomputable section
namespace Ax
open L2 Ba
namespace Hd
open PySem.W
set_option maxHeartbeats 0
noncomputable abbrev pr:Program:=PySem.Challenge.pw_spinboard_k61_whole_the_board_of_a_table
abbrev kh:=PyData.keyHash
noncomputable def lB (s:Stmt):Pos:=match s with
 | .FunctionDef _ _ _ _ _ _ _ _ _ p=>p
 | _=>⟨0,0,0,0⟩
noncomputable def life:Life:=(Life.mk [] [] [] 0 [] [] false #[] [] 0 false false false 0 [2000,10,10] false 0 true [] [] 0 false)
noncomputable def en:Env:={ scope:=pr.main.scope,locals:=mainNs,globals:=mainNs,cells:=[],code:=(.ref 13),frame:=some 14}
noncomputable def dn (P:Params)(x:Str)(t:Nat)(v:W2):DictEntry:=DictEntry.mk (kh P x) (.str x t) v
noncomputable def Ln (n:Str)(t1:Nat)(q:Str)(t2 t3:Nat)(i1 i2 i3 i4 i5:Int)(r1:W9)(b:Bool)(i6:Int)(r2:W9)(v1 v2 v3:W2)(i7 i8:Int)(t4:Nat):Obj:=Obj.mk (.type "code") none (Data.fields #[.str n t1,.str q t2,.str "/claim/cut.py" t3,.int i1 0,.int i2 0,.int i3 0,.int i4 0,.int i5 0,.ref r1,.bool b,.int i6 0,.ref r2,.none,v1,v2,v3,.int i7 0,.int i8 0,.str "/claim/cut.py" t4]) #[]
noncomputable def Wz (n q:Str)(s:Stmt)(k j:Nat):Obj:=Obj.mk .none none (Data.func (FuncData.mk n q (Hh s) (FuncBody.stmts (Gq s)) (Dy s) k [] .none .none .none .none none .none .none j)) #[]
noncomputable def UW (n q:Str)(s:Stmt)(k:Nat)(m:Str)(t:Nat)(c:W9)(j:Nat):Obj:=Obj.mk (.type "function") none (Data.func (FuncData.mk n q (Hh s) (FuncBody.stmts (Gq s)) (Dy s) k [] .none .none .none (.str m t) none (.ref c) .none j)) #[]
noncomputable def sq0 (T:String)(n:Nat):Obj:=Obj.mk (.type T) none (Data.seq #[] n) #[]
noncomputable def tq (a:U9):Obj:=Obj.mk (.type "tuple") none (Data.seq a 0) #[]
noncomputable def M9:Obj:=Obj.mk .none none (Data.fields #[]) #[]
abbrev Pz:=Params
noncomputable abbrev tz:Obj:=sq0 "tuple" 0
noncomputable def iL (t:BT):List (Nat×Obj)->BT
 | []=>t
 | x::l=>iL (t.ins x.1 x.2) l
noncomputable def iF (t:BT):Nat->List Obj->BT
 | _,[]=>t
 | n,x::l=>iF (t.ins n x) (n+1) l
noncomputable def GK (l:List DictEntry)(n:Nat):Obj:=Obj.mk (.type "dict") none (Data.dict (Array.mk l) n) #[]
noncomputable def EY (l:U5):Obj:=Obj.mk .none none (Data.fields (Array.mk l)) #[]
noncomputable def nt:Nat->List Str->List Value
 | _,[]=>[]
 | t,x::l=>.str x t::nt (t+1) l
noncomputable def dd (m:Str)(mt:Nat)(n:Str)(i:Nat)(l k:Int)(a t:Nat):List Str->List Obj
 | []=>[tz,M9,Wz n n (top i) 0 0,Ln n t n (t+1) (t+2) l k 0 0 3 a true 181 (a+1) .none .none (.ref (a+2)) ((t+3:Nat):Int) l (t+4),UW n n (top i) 3 m mt (a+3) 0]
 | x::xs=>[tz,M9,Obj.mk (.type "tuple") none (Data.seq (Array.mk (nt (t+3) (x::xs))) 0) #[],tz,Wz n n (top i) 0 0,Ln n t n (t+1) (t+2) l k 0 0 3 a true 181 (a+1) (.ref (a+2)) (.ref (a+3)) (.ref (a+4)) ((t+4+xs.length:Nat):Int) l (t+5+xs.length),UW n n (top i) 3 m mt (a+5) 0]
noncomputable def co (n:Str)(A t:Nat):Obj:=Obj.mk (.type "type") none (Data.cls (ClassData.mk n [(.ref 24)] [(.ref (A+9)),(.ref 24),(.type "ValueError"),(.type "Exception"),(.type "BaseException"),(.type "object")] (A+8) n true [] [] false none false)) #[(some (.ref A)),none,(some (.str n t)),(some (.str n (t+8))),(some (.builtin "ValueError.__new__")),(some (.bool true))]
noncomputable def Lp (l:W3):Obj:=Obj.mk (.type "type") none (Data.cls (ClassData.mk "BoardError" [(.type "ValueError")] [(.ref 24),(.type "ValueError"),(.type "Exception"),(.type "BaseException"),(.type "object")] 23 "BoardError" true [] (l.map Value.ref) false none false)) #[(some (.ref 15)),none,(some (.str "BoardError" 189)),(some (.str "BoardError" 197)),(some (.builtin "ValueError.__new__")),(some (.bool true))]
noncomputable def de0 (n:Str)(i:Nat)(l k:Int)(a t:Nat)(ns:W0):List Obj:=dd "spinboard.shares" 412 n i l k a t ns
noncomputable def XC (n:Str)(i:Nat)(l k:Int)(a t:Nat)(ns:W0):List Obj:=dd "spinboard.amounts" 421 n i l k a t ns
noncomputable def Qp (n:Str)(i:Nat)(l k:Int)(a t:Nat)(ns:W0):List Obj:=dd "spinboard.marks" 467 n i l k a t ns
noncomputable def ZP (n:Str)(i:Nat)(l k:Int)(a t:Nat)(ns:W0):List Obj:=dd "spinboard.boards" 533 n i l k a t ns
noncomputable def ZM (n:Str)(i:Nat)(l k:Int)(a t:Nat)(ns:W0):List Obj:=dd "spinboard.bits" 586 n i l k a t ns
noncomputable def Lk (n:Str)(i:Nat)(l k:Int)(a t:Nat)(ns:W0):List Obj:=dd "spinboard.tables" 625 n i l k a t ns
noncomputable def Ua (n:Str)(i:Nat)(l k:Int)(a t:Nat)(ns:W0):List Obj:=dd "spinboard.spreads" 716 n i l k a t ns
noncomputable def de7 (n:Str)(i:Nat)(l k:Int)(a t:Nat)(ns:W0):List Obj:=dd "spinboard.moves" 763 n i l k a t ns
noncomputable def NQ (n:Str)(i:Nat)(l k:Int)(a t:Nat)(ns:W0):List Obj:=dd "spinboard.tableturns" 775 n i l k a t ns
noncomputable abbrev e9 (n:Str)(i c:Nat):Obj:=UW n n (top i) 3 "law_spinboard_k61_whole_the_board_of_a_table" 877 c 0
noncomputable def Hq (n:Str)(i:Nat)(l k:Int)(a t:Nat)(ns:W0):List Obj:=dd "law_spinboard_k61_whole_the_board_of_a_table" 877 n i l k a t ns
def jt(P:Pz):=(Ln "<module>" 182 "<module>" 183 184 1 0 0 0 0 11 false 181 12 .none .none .none 185 1 186)
noncomputable def jf(P:Pz):=Obj.mk (.type "frame") none Data.plain #[(some (.ref 13)),(some (.ref 3)),(some (.ref 3)),none,(some (.str "__main__" 164)),none,(some (.ref 0))]
def Ha (P:Pz):Heap:=Heap.mk (Array.mk [boot_o_0 P,boot_o_1 P,boot_o_2 P,boot_o_3 P,boot_o_4 P,boot_o_5 P,boot_o_6 P,boot_o_7 P,boot_o_8 P,boot_o_9 P,boot_o_10 P,tz,M9,jt P,jf P]) life
def T0 (P:Pz):BT:=(.node (boot_o_0 P) (.node (boot_o_1 P) (.node (boot_o_3 P) (.node (boot_o_7 P) .nil .nil) (.node tz .nil .nil)) (.node (boot_o_5 P) (.node (boot_o_9 P) .nil .nil) (.node (jt P) .nil .nil))) (.node (boot_o_2 P) (.node (boot_o_4 P) (.node (boot_o_8 P) .nil .nil) (.node M9 .nil .nil)) (.node (boot_o_6 P) (.node (boot_o_10 P) .nil .nil) (.node (jf P) .nil .nil))))
noncomputable def l0:List Stmt:=[top 0,top 1]
noncomputable def l1:List Stmt:=[top 2]
noncomputable def l2:List Stmt:=[top 3]
noncomputable def l3:List Stmt:=[top 4]
noncomputable def l4:List Stmt:=[top 5]
noncomputable def l5:List Stmt:=[top 6]
noncomputable def l6:List Stmt:=[top 7]
noncomputable def l7:List Stmt:=[top 8]
noncomputable def l8:List Stmt:=[top 9]
noncomputable def l9:List Stmt:=[top 10]
noncomputable def l10:List Stmt:=[top 11]
noncomputable def qy:List Stmt:=[top 12,top 13,top 14,top 15,top 16,top 17,top 18]
noncomputable def Lh:List Stmt:=[top 19,top 20,top 21,top 22,top 23,top 24,top 25,top 26,top 27,top 28,top 29,top 30,top 31,top 32,top 33,top 34]
noncomputable def UL:List Stmt:=[top 35,top 36,top 37,top 38,top 39,top 40,top 41,top 42,top 43,top 44,top 45,top 46,top 47,top 48,top 49,top 50]
noncomputable def qx:List Stmt:=[top 51,top 52,top 53,top 54,top 55,top 56,top 57,top 58,top 59,top 60,top 61,top 62,top 63,top 64]
noncomputable def qw:List Stmt:=[top 65,top 66,top 67,top 68,top 69,top 70,top 71,top 72,top 73,top 74,top 75,top 76,top 77,top 78]
noncomputable def qu:List Stmt:=[top 79,top 80,top 81,top 82,top 83,top 84,top 85,top 86,top 87,top 88,top 89,top 90,top 91]
noncomputable def qp:List Stmt:=[top 92,top 93,top 94,top 95,top 96,top 97,top 98,top 99,top 100,top 101]
noncomputable def bE:List Stmt:=l0++(l1++(l2++(l3++(l4++(l5++(l6++(l7++(l8++(l9++(l10++(qy++(Lh++(UL++(qx++(qw++(qu++(qp++[])))))))))))))))))
noncomputable abbrev cE:Code:=Code.body bE en
noncomputable abbrev BB:List Frame:=[topFrame (Pos.mk 0 0 0 0)]
theorem g_(w:W1)(os:OsState):topGo treeTable pr w 11 (some (.ref 6)) 12 (Shared.mk (boot_heap w.params) (Array.mk []) boot_drawn boot_toks os) (topStub pr)=some (Shared.mk (Ha w.params) (Array.mk []) (Drawn.mk 0 0 0 0) 187 os,Thread.mk (denote treeTable cE) cE (Pos.mk 0 0 0 0) BB):=by rw[PySem.W.Fast.te15667345088766844465,PySem.W.Fast.te11892475500146522536,PySem.W.Fast.te14364793385576792824];kernel_rfl
theorem W4n(w:W1)(os:OsState):segRun treeTable pr w 11 (some (.ref 6)) 1 1 (Shared.mk (Ha w.params) (Array.mk []) (Drawn.mk 0 0 0 0) 187 os) (blockOf bE en cE (Pos.mk 0 0 0 0) BB)=some (Flow.next,(SharedT.mk (T0 w.params) 15 life (Array.mk []) (Drawn.mk 0 0 0 0) 187 os).abs,cE,(Pos.mk 0 0 0 0)):=by rw[PySem.W.Fast.te14374325043358763698,PySem.W.Fast.te14364793385576792824];kernel_rfl
noncomputable def VP(P:Pz):List DictEntry:=[(dn P "__doc__" 166 .none),(dn P "__package__" 167 .none),(dn P "__loader__" 168 (.builtin "__main__.__loader__#opaque")),(dn P "__spec__" 169 .none),(dn P "__annotations__" 170 (.ref 6)),(dn P "__builtins__" 171 (.ref 4)),(dn P "__file__" 173 (.str "/claim/cut.py" 172)),(dn P "__cached__" 174 .none),(dn P "BoardError" 206 (.ref 24))]
def iZ(P:Pz):=GK ((dn P "__name__" 165 (.str "spinboard.errors" 187))::VP P) 10
noncomputable def _K(P:Pz):List Value:=[(.int 2 0),(.int 0 0),(.ref 20)]
def W6s(P:Pz):=EY (_K P)
def j15(P:Pz):=tq #[(.type "ValueError")]
noncomputable def Wr(P:Pz):=Obj.mk (.type "builtin_function_or_method") none (Data.fields #[(.builtin "type.__prepare__"),(.type "type")]) #[]
def j17(P:Pz):=GK [(dn P "__module__" 196 (.str "spinboard.errors" 187)),(dn P "__qualname__" 198 (.str "BoardError" 197)),(dn P "__firstlineno__" 200 (.int 2 199)),(dn P "__static_attributes__" 201 (.ref 22))] 4
def j20(P:Pz):=(Ln "BoardError" 191 "BoardError" 192 193 2 0 0 0 0 18 false 181 19 .none .none .none 194 2 195)
noncomputable def j21(P:Pz):=Obj.mk (.type "frame") none Data.plain #[(some (.ref 20)),(some (.ref 3)),(some (.ref 17)),none,(some (.str "spinboard.errors" 187)),none,(some (.ref 0))]
def j23(P:Pz):=GK [(dn P "__module__" 196 (.str "spinboard.errors" 187)),(dn P "__firstlineno__" 200 (.int 2 199)),(dn P "__static_attributes__" 201 (.ref 22)),(dn P "__weakref__" 203 (.ref 25)),(dn P "__doc__" 204 .none)] 3
def W6k(P:Pz):=Lp []
noncomputable def j25(P:Pz):=Obj.mk (.type "getset_descriptor") none (Data.fields #[(.str "__weakref__" 202),(.ref 24),(.builtin "ExceptionGroup.__weakref__"),.none]) #[]
noncomputable def j26(P:Pz):=Obj.mk (.type "super") none (Data.fields #[(.ref 24),(.ref 24),(.ref 24)]) #[]
noncomputable def j27(P:Pz):=Obj.mk (.type "builtin_function_or_method") none (Data.fields #[(.builtin "object.__init_subclass__"),(.ref 24)]) #[]
def x1(P:Pz):List Obj:=[j15 P,Wr P,j17 P,tz,M9,j20 P,j21 P,tz,j23 P,W6k P,j25 P,j26 P,j27 P]
def T1 (P:Pz):BT:=iF (iL (T0 P) [(3,iZ P),(12,W6s P)]) 15 (x1 P)
abbrev gs (p:U8)(b:W8)(w:W1)(os:OsState)(k:Nat)(T:Pz->BT)(n t:Nat)(l:W8)(q:Pos)(T':Pz->BT)(n' t':Nat)(q':Pos):Prop:=segRunT treeTable p w 11 (some (.ref 6)) 1 k (SharedT.mk (T w.params) n life (Array.mk []) (Drawn.mk 0 0 0 0) t os) (piecesOf l en (Code.body b en) q BB)=some (Flow.next,(SharedT.mk (T' w.params) n' life (Array.mk []) (Drawn.mk 0 0 0 0) t' os),Code.body b en,q')
theorem g0(p:U8)(b:W8)(w:W1)(os:OsState):gs p b w os 196 T0 15 187 l0 (Pos.mk 0 0 0 0) T1 28 207 (Pos.mk 2 0 3 8):=by unfold gs;rw[PySem.W.Fast.te10110043849684766642,PySem.W.Fast.te14364793385576792824];kernel_rfl
def VN(P:Pz):List DictEntry:=VP P++[(dn P "NoShare" 222 (.ref 37))]
def iY(P:Pz):=GK ((dn P "__name__" 165 (.str "spinboard.errors" 187))::VN P) 11
def _L(P:Pz):List Value:=_K P++[(.int 4 0),(.int 0 0),(.ref 33)]
def W6r(P:Pz):=EY (_L P)
def W6j(P:Pz):=Lp [37]
def ZL(P:Pz):=tq #[(.ref 24)]
def cc (P:Pz)(n:Str)(l:Int)(A t:Nat):List Obj:=[ZL P,Wr P,GK [(dn P "__module__" (t+7) (.str "spinboard.errors" 187)),(dn P "__qualname__" (t+9) (.str n (t+8))),(dn P "__firstlineno__" (t+11) (.int l (t+10))),(dn P "__static_attributes__" (t+12) (.ref (A+7)))] 4,tz,M9,Ln n (t+2) n (t+3) (t+4) l 0 0 0 0 (A+3) false 181 (A+4) .none .none .none ((t+5:Nat):Int) l (t+6),Obj.mk (.type "frame") none Data.plain #[(some (.ref (A+5))),(some (.ref 3)),(some (.ref (A+2))),none,(some (.str "spinboard.errors" 187)),none,(some (.ref 0))],tz,GK [(dn P "__module__" (t+7) (.str "spinboard.errors" 187)),(dn P "__firstlineno__" (t+11) (.int l (t+10))),(dn P "__static_attributes__" (t+12) (.ref (A+7))),(dn P "__doc__" (t+13) .none)] 2,co n A t,Obj.mk (.type "super") none (Data.fields #[(.ref (A+9)),(.ref (A+9)),(.ref (A+9))]) #[],Obj.mk (.type "builtin_function_or_method") none (Data.fields #[(.builtin "object.__init_subclass__"),(.ref (A+9))]) #[]]
def j37(P:Pz):=co "NoShare" 28 207
def x2(P:Pz):List Obj:=cc P "NoShare" 4 28 207
def T2 (P:Pz):BT:=iF (iL (T1 P) [(3,iY P),(12,W6r P),(24,W6j P)]) 28 (x2 P)
theorem g1(p:U8)(b:W8)(w:W1)(os:OsState):gs p b w os 214 T1 28 207 l1 (Pos.mk 2 0 3 8) T2 40 223 (Pos.mk 4 0 5 8):=by unfold gs;rw[PySem.W.Fast.te10110043849684766642,PySem.W.Fast.te14364793385576792824];kernel_rfl
def VL(P:Pz):List DictEntry:=VN P++[(dn P "NoAmount" 238 (.ref 49))]
def iW(P:Pz):=GK ((dn P "__name__" 165 (.str "spinboard.errors" 187))::VL P) 12
def _M(P:Pz):List Value:=_L P++[(.int 6 0),(.int 0 0),(.ref 45)]
def W6q(P:Pz):=EY (_M P)
def W6i(P:Pz):=Lp [37,49]
def j49(P:Pz):=co "NoAmount" 40 223
def x3(P:Pz):List Obj:=cc P "NoAmount" 6 40 223
def T3 (P:Pz):BT:=iF (iL (T2 P) [(3,iW P),(12,W6q P),(24,W6i P)]) 40 (x3 P)
theorem g2(p:U8)(b:W8)(w:W1)(os:OsState):gs p b w os 214 T2 40 223 l2 (Pos.mk 4 0 5 8) T3 52 239 (Pos.mk 6 0 7 8):=by unfold gs;rw[PySem.W.Fast.te10110043849684766642,PySem.W.Fast.te14364793385576792824];kernel_rfl
def VJ(P:Pz):List DictEntry:=VL P++[(dn P "NoMark" 254 (.ref 61))]
def iV(P:Pz):=GK ((dn P "__name__" 165 (.str "spinboard.errors" 187))::VJ P) 13
def _O(P:Pz):List Value:=_M P++[(.int 8 0),(.int 0 0),(.ref 57)]
def W6p(P:Pz):=EY (_O P)
def W6h(P:Pz):=Lp [37,49,61]
def j61(P:Pz):=co "NoMark" 52 239
def x4(P:Pz):List Obj:=cc P "NoMark" 8 52 239
def T4 (P:Pz):BT:=iF (iL (T3 P) [(3,iV P),(12,W6p P),(24,W6h P)]) 52 (x4 P)
theorem g3(p:U8)(b:W8)(w:W1)(os:OsState):gs p b w os 214 T3 52 239 l3 (Pos.mk 6 0 7 8) T4 64 255 (Pos.mk 8 0 9 8):=by unfold gs;rw[PySem.W.Fast.te10110043849684766642,PySem.W.Fast.te14364793385576792824];kernel_rfl
def VH(P:Pz):List DictEntry:=VJ P++[(dn P "NoBoard" 270 (.ref 73))]
def iU(P:Pz):=GK ((dn P "__name__" 165 (.str "spinboard.errors" 187))::VH P) 14
def _R(P:Pz):List Value:=_O P++[(.int 10 0),(.int 0 0),(.ref 69)]
def W6o(P:Pz):=EY (_R P)
def W6g(P:Pz):=Lp [37,49,61,73]
def j73(P:Pz):=co "NoBoard" 64 255
def x5(P:Pz):List Obj:=cc P "NoBoard" 10 64 255
def T5 (P:Pz):BT:=iF (iL (T4 P) [(3,iU P),(12,W6o P),(24,W6g P)]) 64 (x5 P)
theorem g4(p:U8)(b:W8)(w:W1)(os:OsState):gs p b w os 214 T4 64 255 l4 (Pos.mk 8 0 9 8) T5 76 271 (Pos.mk 10 0 11 8):=by unfold gs;rw[PySem.W.Fast.te10110043849684766642,PySem.W.Fast.te14364793385576792824];kernel_rfl
def VG(P:Pz):List DictEntry:=VH P++[(dn P "NoMove" 286 (.ref 85))]
def iT(P:Pz):=GK ((dn P "__name__" 165 (.str "spinboard.errors" 187))::VG P) 15
def _V(P:Pz):List Value:=_R P++[(.int 12 0),(.int 0 0),(.ref 81)]
def W6n(P:Pz):=EY (_V P)
def W6f(P:Pz):=Lp [37,49,61,73,85]
def j85(P:Pz):=co "NoMove" 76 271
def x6(P:Pz):List Obj:=cc P "NoMove" 12 76 271
def T6 (P:Pz):BT:=iF (iL (T5 P) [(3,iT P),(12,W6n P),(24,W6f P)]) 76 (x6 P)
theorem g5(p:U8)(b:W8)(w:W1)(os:OsState):gs p b w os 214 T5 76 271 l5 (Pos.mk 10 0 11 8) T6 88 287 (Pos.mk 12 0 13 8):=by unfold gs;rw[PySem.W.Fast.te10110043849684766642,PySem.W.Fast.te14364793385576792824];kernel_rfl
def VF(P:Pz):List DictEntry:=VG P++[(dn P "NoCell" 302 (.ref 97))]
def iR(P:Pz):=GK ((dn P "__name__" 165 (.str "spinboard.errors" 187))::VF P) 16
def _W(P:Pz):List Value:=_V P++[(.int 14 0),(.int 0 0),(.ref 93)]
def W6m(P:Pz):=EY (_W P)
def W6e(P:Pz):=Lp [37,49,61,73,85,97]
def j97(P:Pz):=co "NoCell" 88 287
def x7(P:Pz):List Obj:=cc P "NoCell" 14 88 287
def T7 (P:Pz):BT:=iF (iL (T6 P) [(3,iR P),(12,W6m P),(24,W6e P)]) 88 (x7 P)
theorem g6(p:U8)(b:W8)(w:W1)(os:OsState):gs p b w os 214 T6 88 287 l6 (Pos.mk 12 0 13 8) T7 100 303 (Pos.mk 14 0 15 8):=by unfold gs;rw[PySem.W.Fast.te10110043849684766642,PySem.W.Fast.te14364793385576792824];kernel_rfl
def VD(P:Pz):List DictEntry:=VF P++[(dn P "NeverSo" 318 (.ref 109))]
def iQ(P:Pz):=GK ((dn P "__name__" 165 (.str "spinboard.errors" 187))::VD P) 17
def _Y(P:Pz):List Value:=_W P++[(.int 16 0),(.int 0 0),(.ref 105)]
def W6l(P:Pz):=EY (_Y P)
def W6d(P:Pz):=Lp [37,49,61,73,85,97,109]
def A0H(P:Pz):=co "NeverSo" 100 303
def x8(P:Pz):List Obj:=cc P "NeverSo" 16 100 303
def T8 (P:Pz):BT:=iF (iL (T7 P) [(3,iQ P),(12,W6l P),(24,W6d P)]) 100 (x8 P)
theorem g7(p:U8)(b:W8)(w:W1)(os:OsState):gs p b w os 214 T7 100 303 l7 (Pos.mk 14 0 15 8) T8 112 319 (Pos.mk 16 0 17 8):=by unfold gs;rw[PySem.W.Fast.te10110043849684766642,PySem.W.Fast.te14364793385576792824];kernel_rfl
def _Z(P:Pz):List DictEntry:=VD P++[(dn P "NoTable" 334 (.ref 121))]
def W6c(P:Pz):=GK ((dn P "__name__" 165 (.str "spinboard.errors" 187))::_Z P) 18
def yW(P:Pz):List Value:=_Y P++[(.int 18 0),(.int 0 0),(.ref 117)]
def W3s(P:Pz):=EY (yW P)
def W3j(P:Pz):=Lp [37,49,61,73,85,97,109,121]
def jz(P:Pz):=co "NoTable" 112 319
def x9(P:Pz):List Obj:=cc P "NoTable" 18 112 319
def T9 (P:Pz):BT:=iF (iL (T8 P) [(3,W6c P),(12,W3s P),(24,W3j P)]) 112 (x9 P)
theorem g8(p:U8)(b:W8)(w:W1)(os:OsState):gs p b w os 214 T8 112 319 l8 (Pos.mk 16 0 17 8) T9 124 335 (Pos.mk 18 0 19 8):=by unfold gs;rw[PySem.W.Fast.te10110043849684766642,PySem.W.Fast.te14364793385576792824];kernel_rfl
def _j(P:Pz):List DictEntry:=_Z P++[(dn P "NoText" 359 (.ref 140))]
def W6b(P:Pz):=GK ((dn P "__name__" 165 (.str "spinboard.errors" 187))::_j P) 19
def yX(P:Pz):List Value:=yW P++[(.int 20 0),(.int 0 0),(.ref 129)]
def W3r(P:Pz):=EY (yX P)
def W3i(P:Pz):=Lp [37,49,61,73,85,97,109,121,140]
def jy(P:Pz):=GK [(dn P "__module__" 342 (.str "spinboard.errors" 187)),(dn P "__qualname__" 344 (.str "NoText" 343)),(dn P "__firstlineno__" 346 (.int 20 345)),(dn P "__init__" 354 (.ref 137)),(dn P "__static_attributes__" 356 (.ref 138))] 5
noncomputable def jx(P:Pz):=Obj.mk .none none (Data.fields #[(.int 22 0),(.int 4 0),(.ref 136)]) #[]
def ju(P:Pz):=(Ln "NoText" 337 "NoText" 338 339 20 0 0 0 0 127 false 181 128 .none .none .none 340 20 341)
noncomputable def jr(P:Pz):=Obj.mk (.type "frame") none Data.plain #[(some (.ref 129)),(some (.ref 3)),(some (.ref 126)),none,(some (.str "spinboard.errors" 187)),none,(some (.ref 0))]
def jq(P:Pz):=tq #[(.str "self" 350),(.str "place" 351)]
noncomputable def jo(P:Pz):=Obj.mk .none none (Data.func (FuncData.mk "__init__" "NoText.__init__" (Hh (Oj (top 10) 0)) (FuncBody.stmts (Gq (Oj (top 10) 0))) (Dy (Oj (top 11) 0)) 0 [] .none .none .none .none none .none .none 0)) #[]
def jj(P:Pz):=(Ln "__init__" 347 "NoText.__init__" 348 349 22 2 0 0 3 131 true 181 132 (.ref 133) (.ref 134) (.ref 135) 352 22 353)
noncomputable def ji(P:Pz):=Obj.mk (.type "function") none (Data.func (FuncData.mk "__init__" "NoText.__init__" (Hh (Oj (top 10) 0)) (FuncBody.stmts (Gq (Oj (top 10) 0))) (Dy (Oj (top 11) 0)) 3 [] .none .none .none (.str "spinboard.errors" 187) none (.ref 136) .none 0)) #[]
def jh(P:Pz):=tq #[(.str "place" 355)]
def jg(P:Pz):=GK [(dn P "__module__" 342 (.str "spinboard.errors" 187)),(dn P "__firstlineno__" 346 (.int 20 345)),(dn P "__init__" 354 (.ref 137)),(dn P "__static_attributes__" 356 (.ref 138)),(dn P "__doc__" 357 .none)] 2
noncomputable def je(P:Pz):=Obj.mk (.type "type") none (Data.cls (ClassData.mk "NoText" [(.ref 24)] [(.ref 140),(.ref 24),(.type "ValueError"),(.type "Exception"),(.type "BaseException"),(.type "object")] 139 "NoText" true [] [] false none false)) #[(some (.ref 124)),none,(some (.str "NoText" 335)),(some (.str "NoText" 343)),(some (.builtin "ValueError.__new__")),(some (.bool true))]
noncomputable def jd(P:Pz):=Obj.mk (.type "super") none (Data.fields #[(.ref 140),(.ref 140),(.ref 140)]) #[]
noncomputable def jZ(P:Pz):=Obj.mk (.type "builtin_function_or_method") none (Data.fields #[(.builtin "object.__init_subclass__"),(.ref 140)]) #[]
def x10(P:Pz):List Obj:=[ZL P,Wr P,jy P,tz,jx P,ju P,jr P,tz,M9,jq P,tz,jo P,jj P,ji P,jh P,jg P,je P,jd P,jZ P]
def pI (P:Pz):BT:=iF (iL (T9 P) [(3,W6b P),(12,W3r P),(24,W3i P)]) 124 (x10 P)
theorem g9(p:U8)(b:W8)(w:W1)(os:OsState):gs p b w os 246 T9 124 335 l9 (Pos.mk 18 0 19 8) pI 143 360 (Pos.mk 20 0 23 26):=by unfold gs;rw[PySem.W.Fast.te10110043849684766642,PySem.W.Fast.te14364793385576792824];kernel_rfl
def _z(P:Pz):List DictEntry:=_j P++[(dn P "NotBorne" 384 (.ref 159))]
def W6a(P:Pz):=GK ((dn P "__name__" 165 (.str "spinboard.errors" 187))::_z P) 20
def yZ(P:Pz):List Value:=yX P++[(.int 24 0),(.int 0 0),(.ref 148)]
def W3q(P:Pz):=EY (yZ P)
def W3h(P:Pz):=Lp [37,49,61,73,85,97,109,121,140,159]
def jY(P:Pz):=GK [(dn P "__module__" 367 (.str "spinboard.errors" 187)),(dn P "__qualname__" 369 (.str "NotBorne" 368)),(dn P "__firstlineno__" 371 (.int 24 370)),(dn P "__init__" 379 (.ref 156)),(dn P "__static_attributes__" 381 (.ref 157))] 5
noncomputable def jX(P:Pz):=Obj.mk .none none (Data.fields #[(.int 26 0),(.int 4 0),(.ref 155)]) #[]
def jW(P:Pz):=(Ln "NotBorne" 362 "NotBorne" 363 364 24 0 0 0 0 146 false 181 147 .none .none .none 365 24 366)
noncomputable def jV(P:Pz):=Obj.mk (.type "frame") none Data.plain #[(some (.ref 148)),(some (.ref 3)),(some (.ref 145)),none,(some (.str "spinboard.errors" 187)),none,(some (.ref 0))]
def jU(P:Pz):=tq #[(.str "self" 375),(.str "place" 376)]
def jT(P:Pz):=(Wz "__init__" "NotBorne.__init__" (Oj (top 11) 0) 0 0)
def jR(P:Pz):=(Ln "__init__" 372 "NotBorne.__init__" 373 374 26 2 0 0 3 150 true 181 151 (.ref 152) (.ref 153) (.ref 154) 377 26 378)
def jQ(P:Pz):=(UW "__init__" "NotBorne.__init__" (Oj (top 11) 0) 3 "spinboard.errors" 187 155 0)
def jP(P:Pz):=tq #[(.str "place" 380)]
def jO(P:Pz):=GK [(dn P "__module__" 367 (.str "spinboard.errors" 187)),(dn P "__firstlineno__" 371 (.int 24 370)),(dn P "__init__" 379 (.ref 156)),(dn P "__static_attributes__" 381 (.ref 157)),(dn P "__doc__" 382 .none)] 2
noncomputable def jN(P:Pz):=Obj.mk (.type "type") none (Data.cls (ClassData.mk "NotBorne" [(.ref 24)] [(.ref 159),(.ref 24),(.type "ValueError"),(.type "Exception"),(.type "BaseException"),(.type "object")] 158 "NotBorne" true [] [] false none false)) #[(some (.ref 143)),none,(some (.str "NotBorne" 360)),(some (.str "NotBorne" 368)),(some (.builtin "ValueError.__new__")),(some (.bool true))]
noncomputable def jM(P:Pz):=Obj.mk (.type "super") none (Data.fields #[(.ref 159),(.ref 159),(.ref 159)]) #[]
noncomputable def jL(P:Pz):=Obj.mk (.type "builtin_function_or_method") none (Data.fields #[(.builtin "object.__init_subclass__"),(.ref 159)]) #[]
def x11(P:Pz):List Obj:=[ZL P,Wr P,jY P,tz,jX P,jW P,jV P,tz,M9,jU P,tz,jT P,jR P,jQ P,jP P,jO P,jN P,jM P,jL P]
def pH (P:Pz):BT:=iF (iL (pI P) [(3,W6a P),(12,W3q P),(24,W3h P)]) 143 (x11 P)
theorem g10(p:U8)(b:W8)(w:W1)(os:OsState):gs p b w os 246 pI 143 360 l10 (Pos.mk 20 0 23 26) pH 162 385 (Pos.mk 24 0 27 26):=by unfold gs;rw[PySem.W.Fast.te10110043849684766642,PySem.W.Fast.te14364793385576792824];kernel_rfl
def _2(P:Pz):List DictEntry:=_z P++[(dn P "Unguarded" 411 (.ref 178)),(dn P "is_whole" 420 (.ref 187)),(dn P "halved_out" 436 (.ref 194)),(dn P "plus" 442 (.ref 199)),(dn P "spun" 452 (.ref 206))]
def W5z(P:Pz):=GK ((dn P "__name__" 165 (.str "spinboard.amounts" 421))::_2 P) 25
def yc(P:Pz):List Value:=yZ P++[(.int 28 0),(.int 0 0),(.ref 167),(.int 34 0),(.int 0 0),(.ref 186),(.int 37 0),(.int 0 0),(.ref 193),(.int 44 0),(.int 0 0),(.ref 198),(.int 50 0),(.int 0 0),(.ref 205)]
def W3p(P:Pz):=EY (yc P)
def o8(P:Pz):=Lp [37,49,61,73,85,97,109,121,140,159,178]
def jK(P:Pz):=GK [(dn P "__module__" 392 (.str "spinboard.errors" 187)),(dn P "__qualname__" 394 (.str "Unguarded" 393)),(dn P "__firstlineno__" 396 (.int 28 395)),(dn P "__init__" 405 (.ref 175)),(dn P "__static_attributes__" 408 (.ref 176))] 5
noncomputable def jJ(P:Pz):=Obj.mk .none none (Data.fields #[(.int 30 0),(.int 4 0),(.ref 174)]) #[]
def jH(P:Pz):=(Ln "Unguarded" 387 "Unguarded" 388 389 28 0 0 0 0 165 false 181 166 .none .none .none 390 28 391)
noncomputable def jG(P:Pz):=Obj.mk (.type "frame") none Data.plain #[(some (.ref 167)),(some (.ref 3)),(some (.ref 164)),none,(some (.str "spinboard.errors" 187)),none,(some (.ref 0))]
def jF(P:Pz):=tq #[(.str "self" 400),(.str "one" 401),(.str "other" 402)]
def jE(P:Pz):=(Wz "__init__" "Unguarded.__init__" (Oj (top 12) 0) 0 0)
def jD(P:Pz):=(Ln "__init__" 397 "Unguarded.__init__" 398 399 30 3 0 0 3 169 true 181 170 (.ref 171) (.ref 172) (.ref 173) 403 30 404)
def jC(P:Pz):=(UW "__init__" "Unguarded.__init__" (Oj (top 12) 0) 3 "spinboard.errors" 187 174 0)
def jB(P:Pz):=tq #[(.str "one" 406),(.str "other" 407)]
def jA(P:Pz):=GK [(dn P "__module__" 392 (.str "spinboard.errors" 187)),(dn P "__firstlineno__" 396 (.int 28 395)),(dn P "__init__" 405 (.ref 175)),(dn P "__static_attributes__" 408 (.ref 176)),(dn P "__doc__" 409 .none)] 2
noncomputable def i_(P:Pz):=Obj.mk (.type "type") none (Data.cls (ClassData.mk "Unguarded" [(.ref 24)] [(.ref 178),(.ref 24),(.type "ValueError"),(.type "Exception"),(.type "BaseException"),(.type "object")] 177 "Unguarded" true [] [] false none false)) #[(some (.ref 162)),none,(some (.str "Unguarded" 385)),(some (.str "Unguarded" 393)),(some (.builtin "ValueError.__new__")),(some (.bool true))]
noncomputable def iz(P:Pz):=Obj.mk (.type "super") none (Data.fields #[(.ref 178),(.ref 178),(.ref 178)]) #[]
noncomputable def iy(P:Pz):=Obj.mk (.type "builtin_function_or_method") none (Data.fields #[(.builtin "object.__init_subclass__"),(.ref 178)]) #[]
def x12(P:Pz):List Obj:=[ZL P,Wr P,jK P,tz,jJ P,jH P,jG P,tz,M9,jF P,tz,jE P,jD P,jC P,jB P,jA P,i_ P,iz P,iy P]++(de0 "is_whole" 14 34 1 181 414 ["thing"]++(XC "halved_out" 16 37 5 188 423 ["a","b","c","d","h","places","lowest","less"]++(XC "plus" 17 44 2 195 437 []++(XC "spun" 18 50 2 200 443 ["one","k","turning","step"]))))
def pG (P:Pz):BT:=iF (iL (pH P) [(3,W5z P),(12,W3p P),(24,o8 P)]) 162 (x12 P)
theorem g11(p:U8)(b:W8)(w:W1)(os:OsState):gs p b w os 389 pH 162 385 qy (Pos.mk 24 0 27 26) pG 207 453 (Pos.mk 50 0 54 18):=by unfold gs;rw[PySem.W.Fast.te10110043849684766642,PySem.W.Fast.te14364793385576792824];kernel_rfl
def _3(P:Pz):List DictEntry:=_2 P++[(dn P "spun_once" 459 (.ref 213)),(dn P "rooted" 466 (.ref 220)),(dn P "ones" 477 (.ref 227)),(dn P "is_word" 485 (.ref 234)),(dn P "is_mark" 493 (.ref 241)),(dn P "is_even" 500 (.ref 248)),(dn P "is_even_mark" 508 (.ref 255)),(dn P "commute" 516 (.ref 262)),(dn P "product" 525 (.ref 269)),(dn P "turned_about" 532 (.ref 276)),(dn P "NOUGHT" 540 (.ref 277)),(dn P "ONE" 546 (.ref 278)),(dn P "MOST_CELLS" 548 (.int 6 547)),(dn P "start" 555 (.ref 284))]
def W5y(P:Pz):=GK ((dn P "__name__" 165 (.str "spinboard.boards" 533))::_3 P) 39
def yd(P:Pz):List Value:=yc P++[(.int 55 0),(.int 0 0),(.ref 212),(.int 57 0),(.int 0 0),(.ref 219),(.int 60 0),(.int 0 0),(.ref 226),(.int 67 0),(.int 0 0),(.ref 233),(.int 71 0),(.int 0 0),(.ref 240),(.int 77 0),(.int 0 0),(.ref 247),(.int 79 0),(.int 0 0),(.ref 254),(.int 81 0),(.int 0 0),(.ref 261),(.int 83 0),(.int 0 0),(.ref 268),(.int 86 0),(.int 0 0),(.ref 275),(.int 92 0),(.int 0 0),(.ref 283)]
def W3o(P:Pz):=EY (yd P)
def Wq(P:Pz):=tq #[(.int 0 535),(.int 0 536),(.int 0 537),(.int 0 538),(.int 0 539)]
def Wo(P:Pz):=tq #[(.int 1 541),(.int 0 542),(.int 0 543),(.int 0 544),(.int 0 545)]
def Wn(P:Pz):=tq #[(.int 0 549)]
def iu(P:Pz):=(Wz "start" "start" (top 34) 0 0)
def ig(P:Pz):=(Ln "start" 550 "start" 551 552 92 2 0 0 3 280 true 181 281 .none .none (.ref 282) 553 92 554)
noncomputable def Wk(P:Pz):=Obj.mk (.type "function") none (Data.func (FuncData.mk "start" "start" (Hh (top 34)) (FuncBody.stmts (Gq (top 34))) (Dy (top 34)) 3 [] (.ref 279) .none .none (.str "spinboard.boards" 533) none (.ref 283) .none 0)) #[]
def pY(P:Pz):List Obj:=XC "spun_once" 19 55 1 207 453 ["one"]++(XC "rooted" 20 57 1 214 460 ["one"]++(Qp "ones" 22 60 1 221 469 ["number","many","rest"]++(Qp "is_word" 23 67 2 228 478 ["thing","cells"]++(Qp "is_mark" 24 71 2 235 486 ["thing","cells"]++(Qp "is_even" 25 77 1 242 494 ["mark"]++(Qp "is_even_mark" 26 79 2 249 501 ["thing","cells"]++(Qp "commute" 27 81 2 256 509 ["one","other"]++(Qp "product" 28 83 2 263 517 ["one","other","met"]++(Qp "turned_about" 29 86 1 270 526 ["mark"]++([Wq P,Wo P,Wn P,tz,M9,iu P,ig P,Wk P]))))))))))
def Nu (P:Pz):BT:=iF (iL (pG P) [(3,W5y P),(12,W3o P)]) 207 (pY P)
theorem g12(p:U8)(b:W8)(w:W1)(os:OsState):gs p b w os 384 pG 207 453 Lh (Pos.mk 50 0 54 18) Nu 285 556 (Pos.mk 92 0 94 76):=by unfold gs;rw[PySem.W.Fast.te10110043849684766642,PySem.W.Fast.te14364793385576792824];kernel_rfl
def _4(P:Pz):List DictEntry:=_3 P++[(dn P "check_beginning" 563 (.ref 291)),(dn P "cells_of" 570 (.ref 298)),(dn P "laid_on" 576 (.ref 303)),(dn P "spun_by_mark" 585 (.ref 310)),(dn P "solved" 598 (.ref 317)),(dn P "cleared" 608 (.ref 324)),(dn P "places_at_one" 614 (.ref 329)),(dn P "solution" 624 (.ref 336)),(dn P "PRODUCT_OF_NONE" 630 (.ref 337)),(dn P "FIRST_SIGN_LEAD" 632 (.int 6 631)),(dn P "is_table" 638 (.ref 342)),(dn P "commutes_with_all" 644 (.ref 347)),(dn P "check_table" 652 (.ref 354)),(dn P "reduced" 658 (.ref 359))]
def W5x(P:Pz):=GK ((dn P "__name__" 165 (.str "spinboard.tables" 625))::_4 P) 53
def yg(P:Pz):List Value:=yd P++[(.int 95 0),(.int 0 0),(.ref 290),(.int 100 0),(.int 0 0),(.ref 297),(.int 102 0),(.int 0 0),(.ref 302),(.int 104 0),(.int 0 0),(.ref 309),(.int 107 0),(.int 0 0),(.ref 316),(.int 116 0),(.int 0 0),(.ref 323),(.int 122 0),(.int 0 0),(.ref 328),(.int 124 0),(.int 0 0),(.ref 335),(.int 134 0),(.int 0 0),(.ref 341),(.int 142 0),(.int 0 0),(.ref 346),(.int 144 0),(.int 0 0),(.ref 353),(.int 147 0),(.int 0 0),(.ref 358)]
def W3n(P:Pz):=EY (yg P)
def Wj(P:Pz):=tq #[(.int 0 627),(.int 0 628),(.int 0 629)]
def pX(P:Pz):List Obj:=ZP "check_beginning" 35 95 2 285 556 ["cells","word"]++(ZP "cells_of" 36 100 1 292 564 ["board"]++(ZP "laid_on" 37 102 2 299 571 []++(ZP "spun_by_mark" 38 104 3 304 577 ["board","word","mark"]++(ZM "solved" 40 107 1 311 588 ["equations","kept","place","equation","left"]++(ZM "cleared" 41 116 2 318 599 ["equation","kept","left","other"]++(ZM "places_at_one" 42 122 1 325 609 []++(ZM "solution" 43 124 1 330 615 ["kept","x","height","equation"]++([Wj P]++(Lk "is_table" 47 134 2 338 633 []++(Lk "commutes_with_all" 48 142 2 343 639 []++(Lk "check_table" 49 144 2 348 645 ["rows","cells"]++(Lk "reduced" 50 147 2 355 653 []))))))))))))
def pF (P:Pz):BT:=iF (iL (Nu P) [(3,W5x P),(12,W3n P)]) 285 (pX P)
theorem g13(p:U8)(b:W8)(w:W1)(os:OsState):gs p b w os 388 Nu 285 556 UL (Pos.mk 92 0 94 76) pF 360 659 (Pos.mk 147 0 155 33):=by unfold gs;rw[PySem.W.Fast.te10110043849684766642,PySem.W.Fast.te14364793385576792824];kernel_rfl
def _6(P:Pz):List DictEntry:=_4 P++[(dn P "without_lead" 666 (.ref 366)),(dn P "lead" 673 (.ref 373)),(dn P "least_cell" 680 (.ref 380)),(dn P "has_at_lead" 688 (.ref 387)),(dn P "made_of" 694 (.ref 392)),(dn P "rows_with" 700 (.ref 397)),(dn P "product_of" 709 (.ref 404)),(dn P "apart_by" 715 (.ref 409)),(dn P "spread" 723 (.ref 414)),(dn P "left_by_signs" 729 (.ref 419)),(dn P "keepers" 740 (.ref 426)),(dn P "keepers_with" 746 (.ref 431)),(dn P "spins_on" 752 (.ref 436))]
def W5w(P:Pz):=GK ((dn P "__name__" 165 (.str "spinboard.spreads" 716))::_6 P) 66
def yh(P:Pz):List Value:=yg P++[(.int 156 0),(.int 0 0),(.ref 365),(.int 158 0),(.int 0 0),(.ref 372),(.int 162 0),(.int 0 0),(.ref 379),(.int 164 0),(.int 0 0),(.ref 386),(.int 168 0),(.int 0 0),(.ref 391),(.int 177 0),(.int 0 0),(.ref 396),(.int 179 0),(.int 0 0),(.ref 403),(.int 184 0),(.int 0 0),(.ref 408),(.int 189 0),(.int 0 0),(.ref 413),(.int 199 0),(.int 0 0),(.ref 418),(.int 201 0),(.int 0 0),(.ref 425),(.int 209 0),(.int 0 0),(.ref 430),(.int 216 0),(.int 0 0),(.ref 435)]
def W3m(P:Pz):=EY (yh P)
def pW(P:Pz):List Obj:=Lk "without_lead" 51 156 2 360 659 ["mark","row"]++(Lk "lead" 52 158 1 367 667 ["mark"]++(Lk "least_cell" 53 162 1 374 674 ["word"]++(Lk "has_at_lead" 54 164 2 381 681 ["mark","place"]++(Lk "made_of" 55 168 3 388 689 []++(Lk "rows_with" 56 177 3 393 695 []++(Lk "product_of" 57 179 1 398 701 ["marks","made","mark"]++(Lk "apart_by" 58 184 2 405 710 []++(Ua "spread" 60 189 1 410 718 []++(Ua "left_by_signs" 61 199 2 415 724 []++(Ua "keepers" 62 201 1 420 730 ["board","cells","rows","flips","mark"]++(Ua "keepers_with" 63 209 2 427 741 []++(Ua "spins_on" 64 216 2 432 747 []))))))))))))
def T15 (P:Pz):BT:=iF (iL (pF P) [(3,W5w P),(12,W3m P)]) 360 (pW P)
theorem g14(p:U8)(b:W8)(w:W1)(os:OsState):gs p b w os 374 pF 360 659 qx (Pos.mk 147 0 155 33) T15 437 753 (Pos.mk 216 0 224 16):=by unfold gs;rw[PySem.W.Fast.te10110043849684766642,PySem.W.Fast.te14364793385576792824];kernel_rfl
def _7(P:Pz):List DictEntry:=_6 P++[(dn P "has_spins" 762 (.ref 443)),(dn P "exchanged" 774 (.ref 450)),(dn P "borne" 785 (.ref 457)),(dn P "is_borne" 792 (.ref 464)),(dn P "is_odd_turn" 799 (.ref 471)),(dn P "moved_rows" 805 (.ref 476)),(dn P "check_borne" 813 (.ref 483)),(dn P "moved_through" 823 (.ref 490)),(dn P "moved_by" 833 (.ref 497)),(dn P "moved_by_mix" 844 (.ref 504)),(dn P "moved_by_turn" 854 (.ref 511)),(dn P "moved_by_if" 865 (.ref 518))]
def W5v(P:Pz):=GK ((dn P "__name__" 165 (.str "spinboard.tableturns" 775))::_7 P) 78
def yj(P:Pz):List Value:=yh P++[(.int 225 0),(.int 0 0),(.ref 442),(.int 231 0),(.int 0 0),(.ref 449),(.int 235 0),(.int 0 0),(.ref 456),(.int 240 0),(.int 0 0),(.ref 463),(.int 242 0),(.int 0 0),(.ref 470),(.int 244 0),(.int 0 0),(.ref 475),(.int 247 0),(.int 0 0),(.ref 482),(.int 251 0),(.int 0 0),(.ref 489),(.int 256 0),(.int 0 0),(.ref 496),(.int 270 0),(.int 0 0),(.ref 503),(.int 275 0),(.int 0 0),(.ref 510),(.int 280 0),(.int 0 0),(.ref 517)]
def W3l(P:Pz):=EY (yj P)
def pU(P:Pz):List Obj:=Ua "has_spins" 65 225 2 437 753 ["mark","spins","word","k"]++(de7 "exchanged" 67 231 3 444 765 ["word","bit","other","both"]++(NQ "borne" 69 235 1 451 777 ["row","place","move"]++(NQ "is_borne" 70 240 1 458 786 ["move"]++(NQ "is_odd_turn" 71 242 1 465 793 ["move"]++(NQ "moved_rows" 72 244 2 472 800 []++(NQ "check_borne" 73 247 1 477 806 ["row","place"]++(NQ "moved_through" 74 251 2 484 814 ["mark","row","behind","move"]++(NQ "moved_by" 75 256 2 491 824 ["mark","move","bit","other"]++(NQ "moved_by_mix" 76 270 2 498 834 ["mark","bit","flips","signs","moved"]++(NQ "moved_by_turn" 77 275 3 505 845 ["mark","bit","k","signs"]++(NQ "moved_by_if" 78 280 3 512 855 ["mark","bit","other","flips","signs"])))))))))))
def pC (P:Pz):BT:=iF (iL (T15 P) [(3,W5v P),(12,W3l P)]) 437 (pU P)
theorem g15(p:U8)(b:W8)(w:W1)(os:OsState):gs p b w os 390 T15 437 753 qw (Pos.mk 216 0 224 16) pC 519 866 (Pos.mk 280 0 283 34):=by unfold gs;rw[PySem.W.Fast.te10110043849684766642,PySem.W.Fast.te14364793385576792824];kernel_rfl
def _8(P:Pz):List DictEntry:=_7 P++[(dn P "moved_by_pair" 876 (.ref 525)),(dn P "_law_cell_at" 886 (.ref 532)),(dn P "_law_whole" 893 (.ref 539)),(dn P "_law_cells_by" 900 (.ref 546)),(dn P "_law_low" 906 (.ref 551)),(dn P "_law_spin" 920 (.ref 558)),(dn P "_law_mark_by" 930 (.ref 565)),(dn P "_law_bits" 938 (.ref 572)),(dn P "_law_move_by" 944 (.ref 577)),(dn P "_law_plain_row" 955 (.ref 584)),(dn P "_law_keeps" 967 (.ref 591)),(dn P "_law_lead" 975 (.ref 598))]
def W5u(P:Pz):=GK ((dn P "__name__" 165 (.str "law_spinboard_k61_whole_the_board_of_a_table" 877))::_8 P) 90
def yp(P:Pz):List Value:=yj P++[(.int 284 0),(.int 0 0),(.ref 524),(.int 293 0),(.int 0 0),(.ref 531),(.int 297 0),(.int 0 0),(.ref 538),(.int 299 0),(.int 0 0),(.ref 545),(.int 303 0),(.int 0 0),(.ref 550),(.int 308 0),(.int 0 0),(.ref 557),(.int 313 0),(.int 0 0),(.ref 564),(.int 317 0),(.int 0 0),(.ref 571),(.int 323 0),(.int 0 0),(.ref 576),(.int 339 0),(.int 0 0),(.ref 583),(.int 349 0),(.int 0 0),(.ref 590),(.int 355 0),(.int 0 0),(.ref 597)]
def W3k(P:Pz):=EY (yp P)
def A0G(P:Pz):=e9 "_law_mark_by" 86 564
def x17(P:Pz):List Obj:=NQ "moved_by_pair" 79 284 3 519 866 ["mark","bit","other","signs","moved"]++(Hq "_law_cell_at" 81 293 2 526 879 ["_law_script","_law_k"]++(Hq "_law_whole" 82 297 1 533 887 ["_law_found"]++(Hq "_law_cells_by" 83 299 1 540 894 ["_law_cell"]++(Hq "_law_low" 84 303 2 547 901 []++(Hq "_law_spin" 85 308 2 552 907 ["_law_one","_law_k","_law_a","_law_b","_law_c","_law_d","_law_h","_law_j"]++(Hq "_law_mark_by" 86 313 2 559 921 ["_law_cell","_law_cells","_law_mixed_up","_law_size"]++(Hq "_law_bits" 87 317 1 566 931 ["_law_number","_law_many"]++(Hq "_law_move_by" 88 323 2 573 939 []++(Hq "_law_plain_row" 89 339 2 578 945 ["_law_numbers","_law_cells","_law_row","_law_number","_law_move"]++(Hq "_law_keeps" 90 349 2 585 956 ["_law_board","_law_mark","_law_q","_law_f","_law_s","_law_word"]++(Hq "_law_lead" 91 355 1 592 968 ["_law_mark","_law_cell"])))))))))))
def pB (P:Pz):BT:=iF (iL (pC P) [(3,W5u P),(12,W3k P)]) 519 (x17 P)
theorem g16(p:U8)(b:W8)(w:W1)(os:OsState):gs p b w os 378 pC 519 866 qu (Pos.mk 280 0 283 34) pB 599 976 (Pos.mk 355 0 359 13):=by unfold gs;rw[PySem.W.Fast.te10110043849684766642,PySem.W.Fast.te14364793385576792824];kernel_rfl
def W4y(P:Pz):List DictEntry:=_8 P++[(dn P "_law_is_mark" 981 (.ref 603)),(dn P "_law_is_reduced" 987 (.ref 608)),(dn P "_law_product" 996 (.ref 615)),(dn P "_law_table_by" 1002 (.ref 620)),(dn P "_law_any_table" 1008 (.ref 625)),(dn P "_law_spoiled" 1014 (.ref 630)),(dn P "_law_refused" 1023 (.ref 637)),(dn P "_law_is_board" 1029 (.ref 642)),(dn P "_law_plain" 1035 (.ref 647)),(dn P "law" 1041 (.ref 652))]
def zW(P:Pz):=GK ((dn P "__name__" 165 (.str "law_spinboard_k61_whole_the_board_of_a_table" 877))::W4y P) 100
def W0x(P:Pz):List Value:=yp P++[(.int 360 0),(.int 0 0),(.ref 602),(.int 366 0),(.int 0 0),(.ref 607),(.int 377 0),(.int 0 0),(.ref 614),(.int 380 0),(.int 0 0),(.ref 619),(.int 392 0),(.int 0 0),(.ref 624),(.int 412 0),(.int 0 0),(.ref 629),(.int 436 0),(.int 0 0),(.ref 636),(.int 445 0),(.int 0 0),(.ref 641),(.int 454 0),(.int 0 0),(.ref 646),(.int 472 0),(.int 0 0),(.ref 651)]
def xR(P:Pz):=EY (W0x P)
def x18(P:Pz):List Obj:=Hq "_law_is_mark" 92 360 2 599 976 []++(Hq "_law_is_reduced" 93 366 2 604 982 []++(Hq "_law_product" 94 377 2 609 988 ["_law_one","_law_other","_law_q"]++(Hq "_law_table_by" 95 380 2 616 997 []++(Hq "_law_any_table" 96 392 2 621 1003 []++(Hq "_law_spoiled" 97 412 4 626 1009 []++(Hq "_law_refused" 98 436 1 631 1015 ["_law_thing","e","_law_others"]++(Hq "_law_is_board" 99 445 2 638 1024 []++(Hq "_law_plain" 100 454 1 643 1030 []++(Hq "law" 101 472 1 648 1036 [])))))))))
def _9 (P:Pz):BT:=iF (iL (pB P) [(3,zW P),(12,xR P)]) 599 (x18 P)
theorem g17(p:U8)(b:W8)(w:W1)(os:OsState):gs p b w os 271 pB 599 976 qp (Pos.mk 355 0 359 13) _9 653 1042 (Pos.mk 472 0 490 139):=by unfold gs;rw[PySem.W.Fast.te10110043849684766642,PySem.W.Fast.te14364793385576792824];kernel_rfl
def Hl(P:Pz):List Obj:=[boot_o_0 P,boot_o_1 P,boot_o_2 P,zW P,boot_o_4 P,boot_o_5 P,boot_o_6 P,boot_o_7 P,boot_o_8 P,boot_o_9 P,boot_o_10 P,tz,xR P,jt P,jf P]++(((x1 P).set 9 (o8 P))++((x2 P)++((x3 P)++((x4 P)++((x5 P)++((x6 P)++((x7 P)++((x8 P)++((x9 P)++((x10 P)++((x11 P)++((x12 P)++((pY P)++((pX P)++((pW P)++((pU P)++((x17 P)++(x18 P))))))))))))))))))
def Hf (P:Pz):Heap:=Heap.mk (Array.mk (Hl P)) life
theorem k_(w:W1)(os:OsState):topRun treeTable pr w 11 (some (.ref 6)) 2 ((SharedT.mk (_9 w.params) 653 life (Array.mk []) (Drawn.mk 0 0 0 0) 1042 os).abs) (Thread.mk (doneF .next) cE (Pos.mk 472 0 490 139) BB)=some (Shared.mk (Hf w.params) (Array.mk []) (Drawn.mk 0 0 0 0) 1042 os):=by rw[PySem.W.Fast.te14082659384304107361,PySem.W.Fast.te14364793385576792824];kernel_rfl
noncomputable abbrev MM:Nat:=12+(1+(196+(214+(214+(214+(214+(214+(214+(214+(214+(246+(246+(389+(384+(388+(374+(390+(378+(271+2)))))))))))))))))))
theorem bT(w:W1)(os:OsState):topRun treeTable pr w 11 (some (.ref 6)) MM (Shared.mk (boot_heap w.params) (Array.mk []) boot_drawn boot_toks os) (topStub pr)=some (Shared.mk (Hf w.params) (Array.mk []) (Drawn.mk 0 0 0 0) 1042 os):=go_top (g_ w os) (piece_block (W4n w os) (JD (JF (g0 _ _ w os)) (JD (JF (g1 _ _ w os)) (JD (JF (g2 _ _ w os)) (JD (JF (g3 _ _ w os)) (JD (JF (g4 _ _ w os)) (JD (JF (g5 _ _ w os)) (JD (JF (g6 _ _ w os)) (JD (JF (g7 _ _ w os)) (JD (JF (g8 _ _ w os)) (JD (JF (g9 _ _ w os)) (JD (JF (g10 _ _ w os)) (JD (JF (g11 _ _ w os)) (JD (JF (g12 _ _ w os)) (JD (JF (g13 _ _ w os)) (JD (JF (g14 _ _ w os)) (JD (JF (g15 _ _ w os)) (JD (JF (g16 _ _ w os)) (JD (JF (g17 _ _ w os)) (piece_nil (k_ w os)))))))))))))))))))))
noncomputable def qq:Program:={pr with main:={ pr.main with body:=[top 1,top 2,top 3,top 4,top 5,top 6,top 7,top 8,top 9,top 10,top 11,top 12,top 14,top 16,top 17,top 18,top 19,top 20,top 22,top 23,top 24,top 25,top 26,top 27,top 28,top 29,top 31,top 32,top 33,top 35,top 36,top 37,top 38,top 40,top 41,top 42,top 43,top 45,top 46,top 47,top 48,top 49,top 50,top 51,top 52,top 53,top 54,top 55,top 56,top 57,top 58,top 60,top 61,top 62,top 63,top 64,top 65,top 67,top 69,top 70,top 71,top 72,top 73,top 74,top 75,top 76,top 77,top 78,top 79,top 81,top 82,top 83,top 84,top 85,top 86,top 87,top 88,top 89,top 90,top 91,top 92,top 93,top 94,top 95,top 96,top 97,top 98,top 99,top 100,top 101]}}
noncomputable def loose:List PySem.Str:=[Str.ofString "start"]
noncomputable def lv:List (PySem.Str×WData):=[]
noncomputable abbrev NN:Nat:=10038
noncomputable def aa:List Addr:=[2,3,15,22,23,24,25,28,35,36,37,40,47,48,49,52,59,60,61,64,71,72,73,76,83,84,85,88,95,96,97,100,107,108,109,112,119,120,121,124,131,133,134,136,137,138,139,140,143,150,152,153,155,156,157,158,159,162,169,171,172,174,175,176,177,178,181,183,184,186,187,188,190,191,193,194,195,198,199,200,202,203,205,206,207,209,210,212,213,214,216,217,219,220,221,223,224,226,227,228,230,231,233,234,235,237,238,240,241,242,244,245,247,248,249,251,252,254,255,256,258,259,261,262,263,265,266,268,269,270,272,273,275,276,277,278,279,280,283,284,285,287,288,290,291,292,294,295,297,298,299,302,303,304,306,307,309,310,311,313,314,316,317,318,320,321,323,324,325,328,329,330,332,333,335,336,337,338,341,342,343,346,347,348,350,351,353,354,355,358,359,360,362,363,365,366,367,369,370,372,373,374,376,377,379,380,381,383,384,386,387,388,391,392,393,396,397,398,400,401,403,404,405,408,409,410,413,414,415,418,419,420,422,423,425,426,427,430,431,432,435,436,437,439,440,442,443,444,446,447,449,450,451,453,454,456,457,458,460,461,463,464,465,467,468,470,471,472,475,476,477,479,480,482,483,484,486,487,489,490,491,493,494,496,497,498,500,501,503,504,505,507,508,510,511,512,514,515,517,518,519,521,522,524,525,526,528,529,531,532,533,535,536,538,539,540,542,543,545,546,547,550,551,552,554,555,557,558,566,568,569,571,572,573,576,577,578,580,581,583,584,585,587,588,590,591,592,594,595,597,598,599,602,603,604,607,608,609,611,612,614,615,616,619,620,621,624,625,626,629,630,631,633,634,636,637,638,641,642,643,646,647,648,651,652]
def KK (P:Pz):Frag:=aa.map λa=>(a,(Hl P).getD a M9)
theorem W5n:∀w:World,(fencedOpening treeTable pr w NN).map (λs=>(s.heap,s.gens,s.drawn,s.toks))=some (boot_heap w.params,Array.mk [],boot_drawn,boot_toks):=
 boot_open (p:=pr) (N:=NN) (by kernel_rfl) (by kernel_rfl) (λs=>by kernel_rfl)
theorem W5f(w:W1):((boot_heap w.params).isNs mainGlobals && (Array.mk []:Array GenState).size == 0,(boot_heap w.params).objs.size,(boot_heap w.params).nsMap mainGlobals "__annotations__")=(true,11,((some (.ref 6)):Option Value)):=by kernel_rfl
theorem le_:Nat.ble MM NN=true:=by kernel_rfl
noncomputable abbrev rr:OpenRow:=PySem.Challenge.rw_spinboard_k61_whole_the_board_of_a_table.row
noncomputable abbrev HH:Hook:=kHook KK aa (λ_=>by kernel_rfl)
noncomputable abbrev Xt (s:U7):Bool:=xlAt qq lv s && recOk (RowW.records rr.toRowW) s
noncomputable abbrev sf (w:W1)(os:OsState):Shared:=Shared.mk (Hf w.params) (Array.mk []) (Drawn.mk 0 0 0 0) 1042 os
theorem lk1(w:W1)(os:OsState):(staticsOk (importedModules pr.main.body) (boot_heap w.params) (Hf w.params) && namesBound pr (Hf w.params) && gensDone (sf w os) && laidKept (boot_heap w.params) (Hf w.params))=true:=by rw[PySem.W.Fast.te5923862056798008813];kernel_rfl
theorem lk2g{q:Program}{l}:∀{x},x.1=expectedOf q→x.2.1=bltViewBooted→x.2.2.1=true→x.2.2.2.1=true→x.2.2.2.2=(pinGoodD (drecsOf q),plainGoodE q (looseW q l),plainGoodD q l,wideGood q,clsGoodW q l)→x=openGood q l
| (_,_,_,_,_),rfl,rfl,rfl,rfl,rfl=>rfl
theorem lk2a(w:W1)(os:OsState):(openSeen qq loose (importedModules pr.main.body) Xt true (sf w os)).1=expectedOf qq:=by rw[PySem.W.Fast.te4187177175401517315,PySem.W.Fast.te5923862056798008813];kernel_rfl
theorem lk2b(w:W1)(os:OsState):(openSeen qq loose (importedModules pr.main.body) Xt true (sf w os)).2.1=bltViewBooted:=by rw[PySem.W.Fast.te4187177175401517315,PySem.W.Fast.te5923862056798008813];kernel_rfl
theorem lk2c(w:W1)(os:OsState):(openSeen qq loose (importedModules pr.main.body) Xt true (sf w os)).2.2.1=true:=by rw[PySem.W.Fast.te4187177175401517315,PySem.W.Fast.te5923862056798008813];kernel_rfl
theorem lk2d(w:W1)(os:OsState):(openSeen qq loose (importedModules pr.main.body) Xt true (sf w os)).2.2.2.1=true:=by rw[PySem.W.Fast.te4187177175401517315,PySem.W.Fast.te5923862056798008813];kernel_rfl
theorem lk2e(w:W1)(os:OsState):(openSeen qq loose (importedModules pr.main.body) Xt true (sf w os)).2.2.2.2=(pinGoodD (drecsOf qq),plainGoodE qq (looseW qq loose),plainGoodD qq loose,wideGood qq,clsGoodW qq loose):=by rw[PySem.W.Fast.te4187177175401517315,PySem.W.Fast.te5923862056798008813];kernel_rfl
theorem lk2(w:W1)(os:OsState):openSeen qq loose (importedModules pr.main.body) Xt true (sf w os)=openGood qq loose:=lk2g (lk2a w os) (lk2b w os) (lk2c w os) (lk2d w os) (lk2e w os)
theorem lk3(w:W1)(os:OsState):HH.obs (sf w os)=HH.val w:=by kernel_rfl
theorem Wi:LeftO pr qq loose Xt HH.obs HH.val NN :=
 LeftO.of_pieces (H₀:=boot_heap) (H₁:=Hf) W5n W5f bT le_ λw=>funext λos=>looks_pair (lk1 w os) (looks_pair (lk2 w os) (lk3 w os))
theorem Vq:PySem.Challenge.rw_spinboard_k61_whole_the_board_of_a_table.wellSaid=true:=by rw[PySem.W.Fast.te9446332074065402090];kernel_rfl
theorem iD(P:Pz):(KK P).lookup 652=some (e9 "law" 101 651):=by kernel_rfl
theorem iH(P:Pz):(KK P).lookup 284=some (Wk P):=by kernel_rfl
theorem iI(P:Pz):(KK P).lookup 279=some (Wn P):=by kernel_rfl
theorem iJ(P:Pz):(KK P).lookup 278=some (Wo P):=by kernel_rfl
theorem iK(P:Pz):(KK P).lookup 277=some (Wq P):=by kernel_rfl
theorem iG(P:Pz):(KK P).lookup 337=some (Wj P):=by kernel_rfl
theorem iM(P:Pz):(KK P).lookup 121=some (jz P):=by kernel_rfl
theorem k24(P:Pz):(KK P).lookup 24=some (o8 P):=by kernel_rfl
theorem ft{K:U0}{x:Str}{st:Stmt}{f:W9}{oc:W2}{od an:W5}{osl:W4}{dV kV doc pm cdv ct:W2}
  (l:K.lookup f=some ⟨oc,od,.func (PySem.W.fnOf x x (Hh st) (Gq st) (Dy st) dV kV doc pm an cdv ct),osl⟩) (a:PySem.W.nsIn K mainGlobals x=some (some (.ref f)):=by kernel_rfl) (c:PySem.W.codeIn K cdv x=true:=by kernel_rfl) (k:PySem.W.keepIn K (.ref f)=true:=by kernel_rfl):Ab K x st dV:=fat a l c k
theorem fz{P:Pz}{n:Str}{i:Nat}(m:Str)(mt a c:Nat)(l:(KK P).lookup a=some (UW n n (top i) 3 m mt c 0):=by kernel_rfl)(x:PySem.W.nsIn (KK P) mainGlobals n=some (some (.ref a)):=by kernel_rfl)(y:PySem.W.codeIn (KK P) (.ref c) n=true:=by kernel_rfl)(z:PySem.W.keepIn (KK P) (.ref a)=true:=by kernel_rfl):Ab (KK P) n (top i) .none:=ft l x y z
theorem f34(P:Pz):Ab (KK P) "start" (top 34) (.ref 279):=ft (iH P)
end Hd
end Ax
end
set_option maxHeartbeats 4000000
namespace Ax
open L2 Am Pc Ba
section
variable {P:U8}{w:W1}{K:U0}{mg:U4}{base:Heap}{k:Nat}{h:Heap}
theorem lO{x:Int}(h1:-16<x)(h2:x<16):Sz 100 x:=Sz.mono (j:=5) (by unfold Sz;lia) (by decide)
theorem s_0:Sz 100 0:=lO (by decide) (by decide)
theorem s_1:Sz 100 1:=lO (by decide) (by decide)
theorem Qo:(0:Int)<=40:=by decide
def Dp (K:U0)(H:Hp)(p:W9)(x:A5):Prop:=Ai K H p ((l5 x).map V.int)
variable{H:Hp}{p:W9}{x:A5}
theorem Dp.of(h:H p=some (tA x)):Dp K H p x:=Ai.of h
variable{H':Hp}
theorem Dp.same(h:Dp K H p x)(s:Same H H'):Dp K H' p x:=s.tup h
variable{ys:List V}
theorem Dp.upd{l:W9}{xs:List V}(h:Dp K H p x)(e:H l=some (.lst xs)):Dp K (upd H l (.lst ys)) p x:=by
 rcases h with h | h
 ·rcases h with h | ⟨o,h⟩
  ·exact .inl (.inl (by rw[Cd (J0 h e (by intro z;cases z))];exact h))
  ·exact .inl (.inr ⟨o,by rw[Cd (J0 h e (by intro z;cases z))];exact h⟩)
 ·exact .inr h
def Cp (K:U0)(H:Hp)(ps:U3)(f:Nat->A5):Prop:=∀i p,ps[i]?=some p->Dp K H p (f i)
variable{ps:U3}{f:Nat->A5}
theorem Cp.same(v:Cp K H ps f)(s:Same H H'):Cp K H' ps f:=λi p e=>(v i p e).same s
theorem Xx(v:Cp K H ps f)(s:Same H H')(e:Dp K H' p x):Cp K H' (ps++[p]) (λj=>if j=ps.length then x else f j):=by
 intro i q a;by_cases hi:i<ps.length
 ·rw[Rg hi]at a;show Dp K H' q (if i=ps.length then x else f i);rw[if_neg (by lia)];exact(v i q a).same s
 ·rw[Qi (by lia)]at a;have b:i=ps.length:=by
   have:=(Fe.mp a).1;simp at this;lia
  subst b;simp at a;subst a;show Dp K H' _ (if ps.length=ps.length then x else f ps.length);rw[if_pos rfl];exact e
theorem Xr{l:W9}{xs:List V}(v:Cp K H ps f)(e:H l=some (.lst xs)):Cp K (upd H l (.lst ys)) ps f:=λi q a=>(v i q a).upd e
theorem Y1z{X:Cx}:CP X (.builtin "isinstance") (λxs H Q=>∃a ys,xs=[.ref a,.ty "tuple"]/\Ai X.K H a ys/\Q (.bl true) H):=by
 intro pins s σ H xs us Q I r h;obtain⟨a,ys,rfl,c,q⟩:=h;obtain⟨u,v,rfl,b,d⟩:=r.two;cases b;cases d;obtain⟨its,_,⟨o,h1,h2,_⟩,_⟩:=I.tuple c;exact Kz PySem.W.kitx_tuple I.kIn ⟨o,h1,h2⟩ (X5 X.K) (λz=>nomatch z) λtk=>⟨.bl true,H,I.tok tk,U,q⟩
theorem X8u{a:W9}{ns:U6}{te:TE}{fr:L2.St}{H1:Hp}{acc:W9}{Q:VK}(f:Int->V)(hl:Ai K H1 a (ns.map V.int))(hn:ns.length<=sizeLine)(hacc:H1 acc=none)(hs:∀n H (N:V->Hp->Prop),n∈ns->Same H1 H->N (f n) H->te (some (.int n)::fr) H N)
  (hd:∀H2,Same H1 H2->H2 acc=some (.lst (ns.map f))->Q (.ref acc) H2):KH (ao K a) (Ce 0) te (none::fr) H1 acc Q:=by
 refine aG (n:=ns.length) (val:=λi=>.int (ns.getD i 0)) (λi=>f (ns.getD i 0)) hn hacc (λi H hi s=>?_) (λH s=>⟨_,s.tup hl,by simp⟩) (λi H N hi s b=>hs _ H N (by simp[hi]) s b) (λH2 s h=>hd H2 s (by rw[h,Zj]));have e:(ns.map V.int)[i]?=some (.int (ns.getD i 0)):=by simp[hi]
 refine⟨⟨_,_,s.tup hl,e⟩,λx H' y=>⟨y.1,?_⟩⟩;have:=y.2 _ (s.tup hl);rw[e]at this;exact(Option.some.inj this).symm
theorem Qq:¬ (HT.CV 5 0 none=0/\HT.CV 5 5 (some 4)=5):=by decide
def Ju:Sp:=λvs H Q _=>∃a b c d h:Int,vs=[.int a,.int b,.int c,.int d,.int h]/\0<=h/\∀(p:W9) (H':Hp) (x y z u g:Int),Same H H'->H' p=some (T5 x y z u g)->Red a b c d h x y z u g->Q (.ref p) H'
def vX:Sp:=λvs H Q _=>∃(p:W9) (a b c d h:Int),vs=[.ref p]/\H p=some (T5 a b c d h)/\0<=h/\∀(r:W9) (H':Hp) (x y z u g:Int),Same H H'->H' r=some (T5 x y z u g)->Red (b-d) (a+c) (b+d) (c-a) (h+1) x y z u g->Q (.ref r) H'
def uK (K:U0):Sp:=λvs H Q _=>∃(p:W9) (a b c d h:Int),vs=[.ref p]/\Dp K H p ((a,b,c,d),h)/\∀(r:W9) (H':Hp),Same H H'->H' r=some (T5 (-d) a b c h)->Q (.ref r) H'
def Xf (K:U0):Sp:=λvs H Q _=>∃(p:W9) (a b c d h k:Int),vs=[.ref p,.int k]/\Dp K H p ((a,b,c,d),h)/\∀(r:W9) (H':Hp),Same H H'->Dp K H' r (Dq (k%8).toNat (a,b,c,d),h)->Q (.ref r) H'
theorem X7x(F:Ab K "halved_out" (top 16) .none)(X:K.In h)(G:Ng h mg)(B:Bs mg):Aj P w K mg base (k+1) "halved_out" ["a","b","c","d","h"] Ju:=by
 refine F.cal X G ["a","b","c","d","h","places","lowest","less"] λi H vs Q E x h=>?_;obtain⟨a,b,c,d,h,rfl,j,q⟩:=h
 refine⟨_,(@Ay _ _ _ _ _ (@BX _ _ 5 _ _ _ _ i rfl (Or.inl rfl) (Af Sx (Af Sx (Af Sx (pv 0) (pv 1)) (pv 2)) (pv 3)) rfl (.inl rfl))
  (@Ay _ _ _ _ _ (Bx (Bf Df (pv 5) Ad (Ac _))
   (@Ak _ _ _ (BL (@Cw _ _ _ _ _ (Aa Ad (Aa Ad (Aa Ad (Aa Ad (Aa Ad Ae))))))))
   B_)
  (@Ay _ _ _ _ _ (@BX _ _ 6 _ _ _ _ i rfl (Or.inl rfl) (Af JH (Pj O9 Od O_ P0 (Af Dv (pv 5) (Pg R4 (pv 5)))) Ad) rfl (.inl rfl))
  (@Ay _ _ _ _ _ (@BX _ _ 7 _ _ _ _ i rfl (Or.inl rfl) (CJ (X1c rfl) rfl B.min boot_min (Aa (pv 6) (Aa (pv 4) Ae))) rfl (.inl rfl))
  (@Ak _ _ _ (BL (@Cw _ _ _ _ _ (Aa (Af NZ (pv 0) (pv 7)) (Aa (Af NZ (pv 1) (pv 7)) (Aa (Af NZ (pv 2) (pv 7)) (Aa (Af NZ (pv 3) (pv 7)) (Aa (Af JH (pv 4) (pv 7)) Ae)))))))))))),?_⟩
 try dsimp only[CG]
 refine⟨_,U,_,U,_,_,U,U,_,U,_,_,U,U,_,U,_,_,U,U,?_⟩;refine⟨_,U,U,_,U,Lj (λe=>?_) (λe=>?_)⟩
 ·obtain⟨rfl,rfl,rfl,rfl⟩:=Jy.mp e;exact⟨by show 5<=sizeLine;decide,λp hp=>q p _ 0 0 0 0 0 (A_ hp _) Ar ⟨⟨by lia,.inl rfl⟩,⟨by simp[Hi],by simp[Hi],by simp[Hi],by simp[Hi]⟩,Bd _,Bd _,Bd _,Bd _,j⟩⟩
 obtain⟨v,ev,hd,u⟩:=lowest e;obtain⟨f,y,o,l,t,r,n,s⟩:=Ww j hd u rfl;have g:((Builtin.Int.intBits (Builtin.bitAnd (Builtin.bitOr (Builtin.bitOr (Builtin.bitOr a b) c) d) (-(Builtin.bitOr (Builtin.bitOr (Builtin.bitOr a b) c) d))):Nat):Int)-1=v:=ev;refine⟨_,U,_,U,_,U,_,_,U,U,U,_,U,U,_,_,U,U,?_⟩;show Ve _ _ _ (List.set _ 6 (some (V.int (((Builtin.Int.intBits (Builtin.bitAnd (Builtin.bitOr (Builtin.bitOr (Builtin.bitOr a b) c) d) (-(Builtin.bitOr (Builtin.bitOr (Builtin.bitOr a b) c) d))):Nat):Int)-1)))) H;rw[g];generalize hm:(if h<(v:Int) then h else (v:Int))=m at *;refine⟨_,U,_,U,_,_,U,?_⟩;rw[hm];refine⟨_,U,_,U,_,_,U,U,f,_,U,_,U,_,_,U,U,f,_,U,_,U,_,_,U,U,f,_,U,_,U,_,_,U,U,f,_,U,_,U,_,_,U,U,(by show 5<=sizeLine;decide),λp hp=>?_⟩;exact q p _ _ _ _ _ _ (A_ hp _) Ar ⟨o,l,t,r,n,s,by lia⟩
theorem X7o(F:Ab K "spun_once" (top 19) .none)(X:K.In h)(G:Ng h mg):Aj P w K mg base (k+1) "spun_once" ["one"] (uK K):=by
 refine F.cal X G ["one"] λf H vs Q E e h=>?_;obtain⟨p,a,b,c,d,h,rfl,hp,q⟩:=h;have S:Ai K H p [.int a,.int b,.int c,.int d,.int h]:=hp;refine⟨_,(@Ak _ _ _ (BL (@Cw _ _ _ _ _ (Aa (Pg R4 (Ao BK (pv 0) Ad (λ_ _=>rfl))) (Aa (Ao BK (pv 0) Ad (λ_ _=>rfl)) (Aa (Ao BK (pv 0) Ad (λ_ _=>rfl)) (Aa (Ao BK (pv 0) Ad (λ_ _=>rfl)) (Aa (Ao BK (pv 0) Ad (λ_ _=>rfl)) Ae)))))))),?_⟩;try dsimp only[CG]
 refine⟨_,U,p,_,_,_,U,U,S,U,_,U,_,U,p,_,_,_,U,U,S,U,_,U,p,_,_,_,U,U,S,U,_,U,p,_,_,_,U,U,S,U,_,U,p,_,_,_,U,U,S,U,(by show 5<=sizeLine;decide),λr e=>?_⟩;exact q r _ (A_ e _) Ar
theorem Y8w(F:Ab K "rooted" (top 20) .none)(X:K.In h)(G:Ng h mg)(cO:Aj P w K mg base k "halved_out" ["a","b","c","d","h"] Ju):Aj P w K mg base (k+1) "rooted" ["one"] vX:=by
 refine F.cal X G ["one"] λm H vs Q E f h=>?_;obtain⟨p,a,b,c,d,h,rfl,hp,l,q⟩:=h;have S:Ai K H p [.int a,.int b,.int c,.int d,.int h]:=Ai.of hp;refine⟨_,(@Ak _ _ _ (BL (BP cO f rfl (Aa (Af JH (Ao BK (pv 0) Ad (λ_ _=>rfl)) (Ao BK (pv 0) Ad (λ_ _=>rfl))) (Aa (Af Ds (Ao BK (pv 0) Ad (λ_ _=>rfl)) (Ao BK (pv 0) Ad (λ_ _=>rfl))) (Aa (Af Ds (Ao BK (pv 0) Ad (λ_ _=>rfl)) (Ao BK (pv 0) Ad (λ_ _=>rfl))) (Aa (Af JH (Ao BK (pv 0) Ad (λ_ _=>rfl)) (Ao BK (pv 0) Ad (λ_ _=>rfl))) (Aa (Af Ds (Ao BK (pv 0) Ad (λ_ _=>rfl)) Ad) Ae)))))))),?_⟩;try dsimp only[CG]
 refine⟨_,U,p,_,_,_,U,U,S,U,_,U,p,_,_,_,U,U,S,U,_,_,U,U,_,U,p,_,_,_,U,U,S,U,_,U,p,_,_,_,U,U,S,U,_,_,U,U,
  _,U,p,_,_,_,U,U,S,U,_,U,p,_,_,_,U,U,S,U,_,_,U,U,_,U,p,_,_,_,U,U,S,U,_,U,p,_,_,_,U,U,S,U,_,_,U,U,_,U,p,_,_,_,U,U,S,U,_,_,U,U,?_⟩
 exact⟨_,_,_,_,_,U,(by show 0<=h+1;lia),λr H' x y z u g j i e=>q r H' x y z u g j i e⟩
theorem X7k(F:Ab K "spun" (top 18) .none)(X:K.In h)(G:Ng h mg)(B:Bs mg)(eF:Aj P w K mg base k "spun_once" ["one"] (uK K)):Aj P w K mg base (k+1) "spun" ["one","k"] (Xf K):=by
 refine F.cal X G ["one","k","turning","step"] λf H vs Q E g h=>?_;obtain⟨p,a,b,c,d,h,j,rfl,hp,q⟩:=h;have S:Ai K H p [.int a,.int b,.int c,.int d,.int h]:=hp
 refine⟨_,(@Ay _ _ _ _ _ (@BX _ _ 2 _ _ _ _ f rfl (Or.inl rfl) (pv 0) rfl (.inl rfl))
  (@Ay _ _ _ _ _ (Ge PassesOwn.never rfl (HN rfl B.range (Aa (Af Cv (pv 1) Ad) Ae)) (Bb (i:=3) f rfl (Or.inl rfl))
   (@Ak _ _ _ (@BX _ _ 2 _ _ _ _ f rfl (Or.inl rfl) (BP eF g rfl (Aa (pv 2) Ae)) rfl (.inl rfl))))
  (@Ak _ _ _ (BL (pv 2))))),?_⟩
 try dsimp only[CG]
 have o:=WL j (show (8:Int)≠0 by decide);have m:=Yx j (show (0:Int)<8 by decide);refine⟨_,U,_,U,_,_,U,U,(by show (0:Int)<8;decide),_,U,(by lia),(by lia),Nq (n:=(j%8).toNat) (λi σ H'=>Same H H'/\∃t v,σ=[some (.ref p),some (.int j),some (.ref t),v]/\Dp K H' t (Dq i (a,b,c,d),h)) ⟨Same.refl _,p,none,U,hp⟩ ?_ ?_⟩
 ·rintro i σ H2 hi ⟨s2,t,v,rfl,e⟩;refine⟨_,U,t,_,_,_,_,_,U,e,λr H' s3 l=>?_⟩;exact⟨s2.trans s3,r,_,U,Dp.of l⟩
 ·rintro σ H2 ⟨s2,t,v,rfl,e⟩;exact⟨_,U,q t H2 s2 e⟩
structure Sum (a b c d h a' b' c' d' h' x y z u g:Int):Prop where
 amt:Ly x y z u g
 same:Cz (a*p2 h'+a'*p2 h) (b*p2 h'+b'*p2 h) (c*p2 h'+c'*p2 h) (d*p2 h'+d'*p2 h) (h+h') x y z u g
 le:g<=max h h'
theorem Z7{a a' h h' m:Int}(h0:0<=h)(h0':0<=h')(hm:h<=m)(hm':h'<=m):Hi (a*p2 h'+a'*p2 h) (h+h') (a*2^(m-h).toNat+a'*2^(m-h').toNat) m:=by
 unfold Hi;rw[xu h0 h0'];show _=(a*p2 (m-h)+a'*p2 (m-h'))*(p2 h*p2 h');have b:=Ug h0 hm;have e2:=Ug h0' hm';have l1:(a*p2 h'+a'*p2 h)*p2 m=a*p2 h'*p2 m+a'*p2 h*p2 m:=Int.add_mul ..;rw[l1,show a*p2 h'*p2 m=a*p2 h'*(p2 (m-h)*p2 h) by rw[<-b],show a'*p2 h*p2 m=a'*p2 h*(p2 (m-h')*p2 h') by rw[<-e2]];grind
theorem mq(n:Nat):Sz (n+1) ((2:Int)^n):=by
 unfold Sz;rw[Int.natAbs_pow];exact Jl (by decide) (KR n)
theorem Z8{a a' h h' m:Int}{n N:Nat}(hm:m-h<=h'/\m-h'<=h)(z:Sz n a)(z':Sz n a')(hN:n+h.toNat+h'.toNat+2<=N):Sz N (a*2^(m-h).toNat+a'*2^(m-h').toNat):=by
 refine((z.mul (mq (m-h).toNat)).add (z'.mul (mq (m-h').toNat))).mono ?_;lia
structure In2 (K:U0) (n:Nat) (vs:List V) (H:Hp) (p q:W9) (a b c d h a' b' c' d' h':Int):Prop where
 vs:vs=[.ref p,.ref q]
 one:Dp K H p ((a,b,c,d),h)
 other:Dp K H q ((a',b',c',d'),h')
 h0:0<=h
 h0':0<=h'
 hh:h+h'<=40000
 hn:n<=500000
 z:Nx n a b c d
 z':Nx n a' b' c' d'
def uM (K:U0):Sp:=λvs H Q _=>∃n p q a b c d h a' b' c' d' h',In2 K n vs H p q a b c d h a' b' c' d' h'/\∀(r:W9) (H':Hp) (x y z u g:Int),Same H H'->H' r=some (T5 x y z u g)->Sum a b c d h a' b' c' d' h' x y z u g->Nx (n+h.toNat+h'.toNat+2) x y z u->Q (.ref r) H'
theorem X7m(F:Ab K "plus" (top 17) .none)(X:K.In h)(G:Ng h mg)(B:Bs mg)(cO:Aj P w K mg base k "halved_out" ["a","b","c","d","h"] Ju):Aj P w K mg base (k+1) "plus" ["one","other"] (uM K):=by
 refine F.cal X G ["one","other","h","up","other_up","sums"] λD H vs Q E hr h=>?_;obtain⟨n,p,q,a,b,c,d,h,a',b',c',d',h',⟨rfl,e1,e2,A,e,hh,hn,z,f⟩,kq⟩:=h;have S:Ai K H p [.int a,.int b,.int c,.int d,.int h]:=e1;have L:Ai K H q [.int a',.int b',.int c',.int d',.int h']:=e2
 refine⟨_,(@Ay _ _ _ _ _ (@BX _ _ 2 _ _ _ _ D rfl (Or.inl rfl) (CJ (X1f rfl) rfl B.max boot_max (Aa (Ao BK (pv 0) Ad (λ_ _=>rfl)) (Aa (Ao BK (pv 1) Ad (λ_ _=>rfl)) Ae))) rfl (.inl rfl))
  (@Ay _ _ _ _ _ (@BX _ _ 3 _ _ _ _ D rfl (Or.inr rfl) (Af JH (pv 2) (Ao BK (pv 0) Ad (λ_ _=>rfl))) rfl (.inl rfl))
  (@Ay _ _ _ _ _ (@BX _ _ 4 _ _ _ _ D rfl (Or.inr rfl) (Af JH (pv 2) (Ao BK (pv 1) Ad (λ_ _=>rfl))) rfl (.inl rfl))
  (@Ay _ _ _ _ _ (Qw (i:=5) rfl D rfl rfl (BW.of (Nc:=["x","y","up","other_up"]) (mp:=[none,none,some 3,some 4]) (by kernel_rfl)) (yE true true rfl B.zip (Aa (Kq Z6 (pv 0) K_ (J7 Ad)) (Aa (Kq Z6 (pv 1) K_ (J7 Ad)) Ae))) (λ_ _ _ _=>(Uq rfl (show (["x","y","up","other_up"]:W0).Nodup by decide +kernel) rfl rfl rfl rfl)) (λ_ _ _ _=>(Af Ds (Af Gf (pv 0) (pv 2)) (Af Gf (pv 1) (pv 3)))) rfl)
  (@Ak _ _ _ (BL (BP cO hr rfl (Aa (Ao FZ (pv 5) Ad (λ_ _=>rfl)) (Aa (Ao FZ (pv 5) Ad (λ_ _=>rfl)) (Aa (Ao FZ (pv 5) Ad (λ_ _=>rfl)) (Aa (Ao FZ (pv 5) Ad (λ_ _=>rfl)) (Aa (pv 2) Ae)))))))))))),?_⟩
 try dsimp only[CG]
 refine⟨_,U,p,_,_,_,U,U,S,U,_,U,q,_,_,_,U,U,L,U,_,_,U,?_⟩;generalize hm:(if h'>h then h' else h)=m;have J:h<=m:=by rw[<-hm];split<;>lia
 have t:h'<=m:=by rw[<-hm];split<;>lia
 have M:m-h<=h'/\m-h'<=h/\m<=h+h':=by rw[<-hm];split<;>lia
 refine⟨_,U,_,U,p,_,_,_,U,U,S,U,_,_,U,U,?_⟩;refine⟨_,U,_,U,q,_,_,_,U,U,L,U,_,_,U,U,?_⟩;refine⟨_,U,4,U,p,_,U,S,Qq,λl1 l=>?_⟩;refine⟨_,U,4,U,q,_,U,(A_ l _).tup L,Qq,λl2 j=>?_⟩;have s2:Same H (upd (upd H l1 (.tup ([a,b,c,d].map V.int))) l2 (.tup ([a',b',c',d'].map V.int))):=(A_ l _).trans (A_ j _);refine⟨l1,l2,[a,b,c,d].map V.int,[a',b',c',d'].map V.int,U,(A_ j _).tup (Ai.of Ar),Ai.of Ar,λacc o=>?_⟩;refine X8r (K:=K) (ns:=[a,b,c,d]) (ms:=[a',b',c',d']) (fr:=[some (.int (m-h)),some (.int (m-h'))]) (λx y=>x*2^(m-h).toNat+y*2^(m-h').toNat) rfl (show 4<=sizeLine by decide) ((A_ j _).tup (Ai.of Ar)) (Ai.of Ar) o
  (λW hQ=>⟨_,_,U,Ai.of W,U,_,_,U,_,_,U,U,hQ⟩) ?_ ?_
 ·intro x y H2 N O R Y;have T:Sz n x:=by
   simp only[Dg,Ir,Ip]at O;rcases O with rfl | rfl | rfl | rfl
   ·exact z.z1
   ·exact z.z2
   ·exact z.z3
   ·exact z.z4
  have zy:Sz n y:=by
   simp only[Dg,Ir,Ip]at R;rcases R with rfl | rfl | rfl | rfl
   ·exact f.z1
   ·exact f.z2
   ·exact f.z3
   ·exact f.z4
  exact⟨_,U,_,U,_,_,U,U,⟨n,T,(by lia),(by lia)⟩,_,U,_,U,_,_,U,U,⟨n,zy,(by lia),(by lia)⟩,_,_,U,U,Y⟩
 intro H2 s3 a3;have I:Ag K H2 acc ((List.zipWith (λx y=>x*2^(m-h).toNat+y*2^(m-h').toNat) [a,b,c,d] [a',b',c',d']).map V.int):=Ag.of a3;refine⟨_,U,acc,_,_,_,U,U,I,U,_,U,acc,_,_,_,U,U,I,U,_,U,acc,_,_,_,U,U,I,U,_,U,acc,_,_,_,U,U,I,U,_,U,_,_,_,_,_,U,(by show 0<=m;lia),λr H' x y v u g s4 Z r4=>?_⟩;have C:n+h.toNat+h'.toNat+2<=n+h.toNat+h'.toNat+2:=Bd _;have s:m-h<=h'/\m-h'<=h:=⟨M.1,M.2.1⟩;refine kq r H' x y v u g (s2.trans (s3.trans s4)) Z ⟨r4.amt,Cz.trans ⟨Z7 A e J t,Z7 A e J t,Z7 A e J t,Z7 A e J t⟩ r4.same,by have:=r4.le;rw[<-hm]at this;split at this<;>lia⟩ (r4.sz ⟨?_,?_,?_,?_⟩)
 ·exact Z8 s z.z1 f.z1 C
 ·exact Z8 s z.z2 f.z2 C
 ·exact Z8 s z.z3 f.z3 C
 ·exact Z8 s z.z4 f.z4 C
end
end Ax
namespace L2
section
variable {X:Cx}{o i:Expr}{pos:Pos}{ty:TE}{aN:W9}{kvs:List (Str×Int)}
end
end L2
namespace L2
noncomputable abbrev unlike (ns:U6):Nat:=(firstMet (λi=>ns.getD i 0) ns.length).length
section
variable {prog:U8}{w:W1}{A:W6}{E:U2}{s:U7}{p:W9}{its:U9}{ns:U6}
end
theorem wJ:∀{ns:U6}{us:U5},Vals (ns.map V.int) us->IntsAre us ns
 | [],_,.nil=>.nil
 | n::ns,_,.cons r rs=>by
  obtain⟨t,rfl⟩:=r;exact .cons n t (wJ rs)
section
variable {X:Cx}
theorem X1g:CP X (.builtin "len") (λxs H Q=>∃(p:W9) (S:Int->Bool) (n:Nat),xs=[.ref p]/\H p=some (.set S n)/\n<64/\Q (.int n) H):=by
 intro pins s σ H xs us Q I r h;obtain⟨p,S,n,rfl,hp,d,q⟩:=h;obtain⟨u,rfl,e⟩:=vals1 r;cases e;have c:s.heap.SetOf (intKind X.prog X.w) p S n:=I.hok p _ hp;obtain⟨o,f,a⟩:=c.objOf;obtain⟨b,es,ep,t,hd,_,_,i,g⟩:=a;subst i;exact call_len_set f b hd g (by lia) ⟨.int es.size,H,(I.tok _).tok _,⟨_,U⟩,q⟩
end
end L2
namespace L2
section
variable {X:Cx}{e st:Expr}{lo hi:Option Expr}{te:TE}{tl th ts:TO}{p2 pos:Pos}
end
end L2
namespace HT
section
variable {prog:U8}{w:W1}{A:W6}{E:U2}{s:U7}
theorem Z6w{t sl:W9}{items:U9}{vl vu:W2}{lo hi:Option Int}{Q:U2}(ht:IsTup s.heap t items)(hs:s.heap.IsSliceOf sl vl vu .none)(pl:IsPart vl lo)(pu:IsPart vu hi)
  (h1:CV items.size 0 lo=0) (h2:CV items.size items.size hi=items.size) (h:Q (.ref t) s):wpAny (model prog w) A (getItem (.ref t) (.ref sl)) Q E s:=by
 obtain⟨os,a,b,c⟩:=id hs;have ty:s.TypeIs (.ref sl) "slice":=⟨os,a,b⟩;unfold getItem;try with_reducible refine Ky ?_
 first | refine Aw (Bl ?_) | skip
 refine Aw (wpAny_sequenceKey ht.typeIs (by decide) (Aw (Y_ (name:=Str.ofString "__getitem__") ht.typeIs PyProof.Rows.slot_tuple_getitem (RZ PyProof.Rows.slot_tuple_getitem ht.typeIs entry_tuple_getitem ?_ (args_tuple_getitem _ _)))));show wpAny _ _ (Builtin.Tuple.tupleItemsOf (.ref t) >>= _) _ _ s;refine Aw (tupleItemsOf_ ht (Aw (Yl ty ?_)));rw[if_pos (by decide)];refine Aw (sU hs pl pu ?_);show wpAny _ _ (if (((CV items.size 0 lo:Nat):Int) == 0 && (1:Int) == 1 && (CV items.size items.size hi-CV items.size 0 lo) == items.size)=true then _ else _) _ _ s;rw[if_pos (by rw[h1,h2];simp)];refine Aw ?_;unfold Builtin.Tuple.tupleIsExact;refine Aw (Yl ht.typeIs (Bl ?_));rw[if_pos (by decide)];exact Aw (wpAny_rule (Bl ⟨_,U,Bl h⟩))
end
end HT
namespace L2
section
variable {X:Cx}
def bW (K:U0):V->Option Int->Option Int->Hp->VK->Prop:=λx lo hi H Q=>∃a xs,x=.ref a/\Ai K H a xs /\
 ((HT.CV xs.length 0 lo=0/\HT.CV xs.length xs.length hi=xs.length)/\Q (.ref a) H\/¬ (HT.CV xs.length 0 lo=0/\HT.CV xs.length xs.length hi=xs.length)/\∀p,H p=none->Q (.ref p) (upd H p (.tup (Cr xs lo hi))))
theorem X6t:YF X (bW X.K):=by
 intro pins s σ H x v l m lo hi k Q I f d e g h;obtain⟨a,xs,rfl,i,⟨c,q⟩ | ⟨c,q⟩⟩:=h
 ·cases f;obtain⟨its,r,j,n⟩:=I.tuple i;have b:=r.length;refine⟨"tuple",_,slot_tuple_getitem.lookup,j.typeIs,HT.Z6w j d e g (by rw[Ep,<-b];exact c.1) (by rw[Ep,<-b];exact c.2) ⟨.ref a,H,I,U,q⟩⟩
 ·exact Z6 pins s σ H _ v l m lo hi k Q I f d e g ⟨a,xs,U,i,c,q⟩
end
end L2
namespace L2
theorem Y7i{prog:U8}{w:W1}{A:W6}{env:Env}{c:Expr}{s:U7}{Q:Bool->Shared->Prop}(h:wpAny (model prog w) A (isTrue c env (eval c env)) Q Calm s):
  wpAny (model prog w) A (forIn [c] true λc r=>if r=true then do let ok ← isTrue c env (eval c env);pure (ForInStep.yield ok) else pure (ForInStep.yield r)) Q Calm s:=wpAny_tests_one h
theorem Z8v{prog:U8}{w:W1}{A:W6}{R:Result->Shared->Prop}{s:U7}{e t i c:Expr}{sc:Scope}{pos:Pos}{it acc:W2}{env:Env}(J:Nat->Shared->Prop)
  (turn:∀n s,J n s->wpAny (model prog w) A (pyNext it) (λr b=>(r=none->R (.ok .next) b)/\∀v,r=some v ->
   wpAny (model prog w) A (letOwnedTupleGo t it v) (λ_ s2=>wpAny (model prog w) A (assign t env v) (λ_ s3=>wpAny (model prog w) A (isTrue c env (eval c env)) (λok a=>if ok=true then wpAny (model prog w) A (eval e env) (λx s4 =>
    wpAny (model prog w) A (call (.builtin "list.append") [acc,x]) (λ_ d=>∃m,m<n/\J m d) Calm s4) Calm a else ∃m,m<n/\J m a) Calm s3) Calm s2) Calm b) Calm s)
  (n:Nat) (h:J n s):codeAny (model prog w) A (.compLoop (.ListComp e [⟨t,i,[c],0⟩] sc pos) 0 it acc env) R s:=by
 have k:=compTurn_list e t i [c] sc pos it acc env;refine codeAny_loop rfl J (λn s j=>wpAny_noted (m:=compTurn (.ListComp e [⟨t,i,[c],0⟩] sc pos) 0 it acc env) ?_) n h;rw[k];refine Aw (RM (Ek (turn n s j) λr b q=>?_));match r,q with
 | none,q=>exact Bl (q.1 rfl)
 | some v,q =>
  refine Ek (q.2 v rfl) λ_ s2 l=>Ek l λ_ s3 g=>Ek (Y7i g) λok s4 f=>?_;cases ok with
  | false=>exact Bl ⟨rfl,f⟩
  | true=>exact Aw (Ek f λx d p=>Ek p λ_ u o=>Bl (Bl ⟨rfl,o⟩))
def Ny (J:It)(g:TG)(tc:TT)(te:TE)(σ:St)(H:Hp)(acc:W9)(Q:VK):Prop:=∃W:Nat->Nat->List V->St->Hp->Prop,(∃m,W 0 m [] σ (upd H acc (.lst []))) /\
 ∀i m ys σ2 H2,W i m ys σ2 H2->(J.stop i H2/\Q (.ref acc) H2)\/(J.go i H2/\∀x H3,J.yld i H2 x H3->g x σ2 H3 λσ4 H4=>tc σ4 H4 λb H5 =>
  (b=true->te σ4 H5 λy H6=>H6 acc=some (.lst ys)/\ys.length<sizeLine/\∃m',m'<m/\W (i+1) m' (ys++[y]) σ4 (upd H6 acc (.lst (ys++[y]))))/\(b=false->∃m',m'<m/\W (i+1) m' ys σ4 H5))
def Vj (mp:W7)(wi:TI)(g:TG)(tc:TT)(te:TE):TE:=λσ H Q=>wi σ H λJ H1=>∀acc,H1 acc=none->Ny J g tc te (sub mp σ) H1 acc Q
section
variable {X:Cx}{elt tg iter cond:Expr}{scope:Scope}{pos:Pos}{wi:TI}{g:TG}{tc:TT}{te:TE}{Nc:W0}{mp:W7}
theorem sV(hc:X.calm=true)(S:BW X.N X.env.scope scope Nc mp)(hg:∀ex pins s H,PG (Bw X scope Nc ex pins s H) tg g)(ht:∀ex pins s H,PT (Bw X scope Nc ex pins s H) cond tc)(he:∀ex pins s H,PE (Bw X scope Nc ex pins s H) elt te)
  {pins:U1}{σ:St}{H2:Hp}{s2:U7}{E:U2}{it:W9}{fp:U3}{tn:Nat->Heap->Prop}{J:It}{Q:VK}{RR:Value->Addr->Result->Shared->Prop}
  (I2:Inv X pins σ H2 s2) (T:Turn X.prog X.w X.K tg J fp it tn) (st2:tn 0 s2.heap) (f2:∀b∈fp,Dl X pins H2 b)
  (q:∀acc,H2 acc=none->Ny J g tc te (sub mp σ) H2 acc Q)
  (fin:∀acc C H' s' m',Q (.ref acc) H'->Inv X pins σ H' s'->s'.heap.Ns C m'->H' C=none->X.s₀.heap.objs.size<=C->C≠X.env.locals->(∀x c,X.env.cells.lookup x=some c->c≠C)->(∀p∈X.pn++pins,p.1≠C)->RR (.ref acc) C (.ok .next) s'):
  wpAny (model X.prog X.w) X.A (newList []) (λacc s₃=>wpAny (model X.prog X.w) X.A (newFunctionEnv scope X.env.globals (clo scope.names X.env.cells) [] X.env.qual none .none (some X.env)) (λl s₄ =>
   codeAny (model X.prog X.w) X.A (.compStart (.ListComp elt [⟨tg,iter,[cond],0⟩] scope pos) 0 (.ref it) acc {l with scope:=relabel scope X.env}) (RR acc l.locals) s₄) E s₃) E s2:=by
 refine Le (wpAny_newFunctionEnv S.nocell (by intro y hy;simp at hy) (λh₁ m t=>?_) S.kind);dsimp only at m t ⊢;have I3:=I2.lnew (its:=[]) (ys:=[]) (t':=s2.toks) .nil (Ed _);have P:H2 s2.heap.objs.size=none:=I2.fresh;obtain⟨W,⟨m0,w0⟩,Y⟩:=q s2.heap.objs.size P;have G:(s2.heap.push { cls:=.type "list",dict:=none,data:=.seq ([]:U5).toArray}).objs.size=s2.heap.objs.size+1:=Lb ..;have O:∀b∈fp,b<s2.heap.objs.size:=λb hb=>by
  obtain⟨o,e,_⟩:=T.obj _ _ st2 b hb;exact CN e
 have F:∀b∈fp,Dl X pins (upd H2 s2.heap.objs.size (.lst [])) b:=λb hb=>⟨by rw[Cd (DY (O b hb))];exact(f2 b hb).1,(f2 b hb).2⟩;have a:Inv X pins σ (upd H2 s2.heap.objs.size (.lst [])) (Eb s2):=I3;have hsz:(Eb s2).heap.objs.size=s2.heap.objs.size+1:=G;have j:∀b∈fp,b<(Eb s2).heap.objs.size:=λb hb=>by rw[hsz];exact Qe (O b hb)
 have k3:∀b o,(Eb s2).heap.get? b=some o->h₁.get? b=some o:=λb o e=>t.extBut b o (DY (CN e)) (Ef _ e);have Ic:=u9 (tk:=(Eb s2).toks) a S F j m k3;have V:tn 0 h₁:=T.keep _ _ _ st2 λb hb o e=>k3 b o (Ef _ e);have cC:X.s₀.heap.objs.size<=(Eb s2).heap.objs.size:=a.sz;have cL:(Eb s2).heap.objs.size≠X.env.locals:=Ms a.lt;have cc:∀x c,X.env.cells.lookup x=some c->c≠(Eb s2).heap.objs.size:=λx c e=>by
  obtain⟨v,o,ho,_⟩:=a.cell x c e;exact DY (CN ho)
 have cp:∀p∈X.pn++pins,p.1≠(Eb s2).heap.objs.size:=λp hp=>DY (CN (a.pin p hp).1);have h:∀{H':Hp},(∀b∈fp,H' b=none)->∀b∈fp,Dl (Bw X scope Nc fp pins (Eb s2) (upd H2 s2.heap.objs.size (.lst []))) [] H' b:=λhn b hb =>
  ⟨hn b hb,DY (j b hb),λz=>by
   rcases Dg.mp (a.stkSub b z) with e | e
   ·exact(F b hb).2.1 e
   ·exact(F b hb).2.2.1 e,.inl hb,λx c e=>(F b hb).2.2.2.2.1 x c (Qt a S e),λp hp=>(F b hb).2.2.2.2.2 p (by
    have:p∈(X.pn++pins)++[]:=hp
    simpa using this)⟩
 have k:∀s4:Shared,s4={ (Eb s2) with heap:=h₁,toks:=(Eb s2).toks} ->
   codeAny (model X.prog X.w) X.A (.compLoop (.ListComp elt [⟨tg,iter,[cond],0⟩] scope pos) 0 (.ref it) (.ref s2.heap.objs.size) (Bw X scope Nc fp pins (Eb s2) (upd H2 s2.heap.objs.size (.lst []))).env)
    (RR (.ref s2.heap.objs.size) (Eb s2).heap.objs.size) s4:=by
  rintro s4 rfl;refine Z8v (λn s'=>∃i ys σ' H',Inv (Bw X scope Nc fp pins (Eb s2) (upd H2 s2.heap.objs.size (.lst []))) [] σ' H' s'/\tn i s'.heap/\(∀b∈fp,H' b=none)/\W i n ys σ' H') ?_ m0
   ⟨0,[],sub mp σ,_,Ic,V,λb hb=>(F b hb).1,w0⟩
  rintro n s5 ⟨i,ys,σ5,H5,I5,R,M,w5⟩;rcases Y i n ys σ5 H5 w5 with ⟨stop,qn⟩ | ⟨go,step⟩
  ·refine GD (T.done (Bw X scope Nc fp pins (Eb s2) (upd H2 s2.heap.objs.size (.lst []))) rfl rfl rfl hc i [] s5 σ5 H5 (λ_ _=>False) I5 (h M) R stop) (λr s6 ⟨hr,I6⟩=>?_) λ_ _ f=>f.elim;subst hr;obtain⟨m6,a5,_⟩:=I6.loc;refine⟨λ_=>?_,λ_ z=>nomatch z⟩;exact fin _ _ H5 s6 m6 qn (xV a F I6) a5 I6.free cC cL cc cp
  ·refine GD (T.item (Bw X scope Nc fp pins (Eb s2) (upd H2 s2.heap.objs.size (.lst []))) rfl rfl rfl hc i [] s5 σ5 H5 (λ_ _=>False) I5 (h M) R go) (λr s6 ⟨u,hr,h6⟩=>?_) λ_ _ f=>f.elim;subst hr;refine⟨(λz=>by cases z),?_⟩;rintro _ ⟨⟩;refine GD h6 (λ_ s7 ⟨x,H7,I7,r7,y7,B,a4⟩=>?_) λ_ _ f=>f.elim;have a6:=I7.pinned (h a4) (T.obj _ _ B);refine GD (hg _ _ _ _ _ s7 σ5 H7 x u _ a6 r7 (step x H7 y7)) (λ_ s8 ⟨L,H8,I8,q8⟩=>?_) λ_ _ f=>f.elim;refine GD (ht _ _ _ _ _ s8 L H8 _ I8 q8) (λbb s9 ⟨H9,I9,p9,n9⟩=>?_) λ_ _ f=>f.elim;have keeps:∀{H':Hp}{s':U7},Inv (Bw X scope Nc fp pins (Eb s2) (upd H2 s2.heap.objs.size (.lst []))) ([]++G3 fp s7.heap) L H' s'->tn (i+1) s'.heap/\∀b∈fp,H' b=none:=λ{H' s'} J' =>
    ⟨T.keep _ _ _ B λb hb o e=>(J'.pin (b,o) (FQ _ (FQ _ (Uu hb e)))).1,λb hb=>by
     obtain⟨o,e,d⟩:=T.obj _ _ B b hb
     exact(J'.pin (b,o) (FQ _ (FQ _ (Uu hb e)))).2.1⟩
   cases bb with
   | false =>
    obtain⟨m',I,w9⟩:=n9 rfl;rw[if_neg GJ];exact⟨m',I,i+1,ys,L,H9,I9.unpinned,(keeps I9).1,(keeps I9).2,w9⟩
   | true =>
    rw[if_pos rfl];refine GD (he _ _ _ _ _ s9 L H9 _ I9 (p9 rfl)) (λv a7 ⟨y,Z,a0,a8,a2,l10,m',I,a3⟩=>?_) λ_ _ f=>f.elim;refine GD (Qx (X:=Bw X scope Nc fp pins (Eb s2) (upd H2 s2.heap.objs.size (.lst []))) _ a7 L Z (.ref s2.heap.objs.size) [y] (.ref s2.heap.objs.size) [v] (λz Hz=>z=.non/\Hz=upd Z s2.heap.objs.size (.lst (ys++[y]))) a0 rfl (.cons a8 .nil) ⟨_,ys,y,U,U,a2,l10,U,U⟩) (λb0 b1 ⟨z,a9,D,_,_,a1⟩=>?_) λ_ _ f=>f.elim;subst a1;exact⟨m',I,i+1,ys++[y],L,_,D.unpinned,(keeps D).1,(keeps D).2,a3⟩
 exact qO (k _ rfl) (T.self _ 0 _ _ _ V (k _ rfl))
theorem X6(hc:X.calm=true)(S:BW X.N X.env.scope scope Nc mp)(hi:PI X tg iter wi)(hg:∀ex pins s H,PG (Bw X scope Nc ex pins s H) tg g)(ht:∀ex pins s H,PT (Bw X scope Nc ex pins s H) cond tc)(he:∀ex pins s H,PE (Bw X scope Nc ex pins s H) elt te)
  (hf:∀x,foldedSetIterable iter X.env x=pure x:=by intro _;rfl):PE X (.ListComp elt [⟨tg,iter,[cond],0⟩] scope pos) (Vj mp wi g tc te):=by
 intro pins s σ H Q I h;rw[eval_ListComp];refine ZC (use:=none) rfl hf (Zm (Xk I S)) S.kind S.names (Bk (hi pins s σ H _ I h) λv t h1=>Bk h1 λp s2 h2=>?_);obtain⟨it,fp,tn,J,H2,e,n,T,a,k,q⟩:=h2;subst e;refine sV (RR:=λacc C=>compPost (model X.prog X.w) X.A X.xe none (EP X pins σ Q) acc C) hc S hg ht he n T a k q ?_;intro acc C H' s' m' qq l r j c m f i;refine⟨m',r,λh' d=>⟨.ref acc,H',?_,U,qq⟩⟩;exact l.turnedNew (t':=s'.toks) (λb o hb e=>d.extBut b o hb e) j c m f i
theorem Xw{i:Nat}{x:Str}{pos' spos:Pos}(hc:X.calm=true)(hN:X.N.Nodup)(hi':X.N[i]?=some x)(hx:X.env.scope.names.lookup x=some .local)(S:BW X.N X.env.scope scope Nc mp)(hi:PI X tg iter wi)
  (hg:∀ex pins s H,PG (Bw X scope Nc ex pins s H) tg g) (ht:∀ex pins s H,PT (Bw X scope Nc ex pins s H) cond tc) (he:∀ex pins s H,PE (Bw X scope Nc ex pins s H) elt te)
  (hsw:swapsWith (.ListComp elt [⟨tg,iter,[cond],0⟩] scope pos) (some (.Name x pos')) spos.line X.env=pure true)
  (hf:∀x,foldedSetIterable iter X.env x=pure x:=by intro _;rfl):PS X (.Assign [.Name x pos'] (.ListComp elt [⟨tg,iter,[cond],0⟩] scope pos) spos) (Ot (Vj mp wi g tc te) (Ce i)):=by
 intro pins s σ H D I h;rw[qI _ _ _ _ hsw];refine Aw (RM (Aw ?_));show wpAny _ X.A (do let _ ← comprehension (.ListComp elt [⟨tg,iter,[cond],0⟩] scope pos) scope X.env _ (newList []) false (eval iter X.env) (some (assign (.Name x pos') X.env))) _ _ s
 refine Aw (GD (ZC (use:=some (assign (.Name x pos') X.env)) (Q:=λ_ s'=>SP X pins D .next s') rfl hf (Zm (Xk I S)) S.kind S.names
  (Bk (hi pins s σ H _ I h) λv L h1=>Bk h1 λG s2 h2=>?_)) (λ_ s' m=>Bl (Bl m)) λ_ _ e=>e)
 obtain⟨it,fp,tn,J,H2,e,F,T,f,B,q⟩:=h2;subst e;refine sV (Q:=λx H1=>Ce i x σ H1 D.nx) (RR:=λacc C=>compPost (model X.prog X.w) X.A X.xe (some (assign (.Name x pos') X.env)) (λ_ s'=>SP X pins D .next s') acc C) hc S hg ht he F T f B q ?_;intro acc C H' s' m' qq E K y l k j t;show wpAny _ X.A (assign (.Name x pos') X.env (.ref acc)) _ _ _;refine fP (lg (v:=.ref acc) E hN hi' (.inl hx) rfl (λn u ⟨a,c,r⟩=>?_) (.inr hx));have d:C≠a:=by
  rcases r with z | z
  ·rw[z];exact k
  ·exact Ne.symm (j x a z)
 refine⟨m',K.sameBut c d,λh' p=>⟨σ.set i (some (.ref acc)),H',?_,qq⟩⟩;exact u.turnedNew (t':=n.toks) (λb o hb e=>p.extBut b o hb e) y l k j t
end
def Vc (t:TE):TT:=λσ H Q=>t σ H λx H'=>∃i,x=.int i/\Q (i != 0) H'
theorem Nj{X:Cx}{a:Expr}{ta:TE}(ha:PE X a ta)(he:∀whole,isTrue a X.env whole=(do let v ← whole;standAt a.pos;holding [v] (truthy v))):PT X a (Vc ta):=by
 intro pins s σ H Q I h;refine isTrue_plain (Bk (ha pins s σ H _ I h) λv f ⟨x,H1,d,c,i,e,b⟩=>?_) (he _);subst e;exact W1d pins f σ H1 (.int i) v Q d c ⟨_,U,b⟩
theorem Xu{lo:Int}{n:Nat}{tc:TT}{te:TE}{fr:St}{H1:Hp}{acc:W9}{Q:VK}(Pv:Nat->List V->Hp->Prop)(hn:n<=sizeLine)(h0:Pv 0 [] (upd H1 acc (.lst [])))
  (hs:∀i ys H (N:Bool->Hp->Prop),i<n->ys.length<=i->Pv i ys H->(∀b a,(b=true->te (some (.int (lo+i))::fr) a λy c=>c acc=some (.lst ys)/\Pv (i+1) (ys++[y]) (upd c acc (.lst (ys++[y]))))->(b=false->Pv (i+1) ys a)->N b a)->tc (some (.int (lo+i))::fr) H N)
  (mono:∀{σ H}{R R':VK},(∀v H,R v H->R' v H)->te σ H R->te σ H R')
  (hd:∀ys H,Pv n ys H->Q (.ref acc) H):Ny (Ht lo n) (Ce 0) tc te (none::fr) H1 acc Q:=by
 refine⟨λi m ys d H2=>m=n-i/\i<=n/\ys.length<=i/\(∃v,d=v::fr)/\Pv i ys H2,⟨n,by simp,Ed _,Bd _,⟨_,U⟩,h0⟩,?_⟩;rintro i m ys d H2 ⟨rfl,hi,j,⟨v,rfl⟩,p⟩;by_cases hlt:i<n
 ·refine .inr ⟨hlt,λx k f=>?_⟩;obtain⟨rfl,rfl⟩:=f;show tc ((v::fr).set 0 (some (.int (lo+i)))) _ _;rw[List.set_cons_zero];refine hs i ys _ _ hlt j p λb a h g=>⟨λe=>mono (λy c q=>?_) (h e),λe=>⟨n-(i+1),by lia,U,hlt,by lia,⟨_,U⟩,g e⟩⟩;exact⟨q.1,by lia,n-(i+1),by lia,U,hlt,by rw[DP];simp;lia,⟨_,U⟩,q.2⟩
 ·have e:i=n:=by lia
  subst e;exact .inl ⟨Bd _,hd ys H2 p⟩
end L2
namespace Ax
open L2 Am Pc Ba
theorem Sd{X:Cx}{st:Stmt}:PS X st (λ_ _ _=>False):=λ_ _ _ _ _ _ h=>h.elim
theorem sG{ns:U6}(h:ns.Nodup):unlike ns=ns.length:=by
 have a:∀i,i<=ns.length->(firstMet (λi=>ns.getD i 0) i).length=i:=by
  intro i;induction i with
  | zero=>intro _;rfl
  | succ i ih =>
   intro hi;rw[firstMet_succ,step_length,firstMet_any,if_neg,ih (by lia)];intro z;obtain⟨y,c,e⟩:=Qc.mp z;obtain⟨j,b,rfl⟩:=El.mp c;have b:=Ew.mp b;have e:ns.getD j 0=ns.getD i 0:=by simpa using e
   rw[Bp,Bp,Cm (by lia),Cm (by lia)]at e;have:=(List.getElem_inj h).mp e;lia
 exact a _ (Bd _)
noncomputable abbrev aY (nm:Str)(ns:U6):HO:=.tup (.str nm::ns.map V.int)
def wR (K:U0):Sp:=λvs H Q _=>∃(l:W9) (xs:List V) (c:Nat),vs=[.ref l]/\Ag K H l xs/\xs.length=2^c/\c<=6/\Q (.int c) H
theorem nW{c:Nat}(h:c<=6):Builtin.Int.intBits (((2^c:Nat):Int))=c+1:=by
 have:c=0\/c=1\/c=2\/c=3\/c=4\/c=5\/c=6:=by lia
 rcases this with rfl | rfl | rfl | rfl | rfl | rfl | rfl<;>decide +kernel
theorem at0{x:V}{xs:List V}:Fg (x::xs) 0=some x:=J6 (show (x::xs)[0]?=some x from rfl)
theorem W1y{x:V}{xs:List V}:HT.CV (x::xs).length 0 (some 1)=1:=by
 have:=HT.nJ (x::xs).length 0 1;rw[show ((1:Nat):Int)=1 from rfl]at this;rw[this];simp
section
variable {P:U8}{w:W1}{K:U0}{mg:U4}{base:Heap}{k:Nat}{h:Heap}
theorem Fd:CW ["thing"] ["thing"] (Dy (top 14)):=fS
theorem Y6l(F:Ab K "is_whole" (top 14) .none)(X:K.In h)(G:Ng h mg)(B:Bs mg):Aj P w K mg base (k+1) "is_whole" ["thing"] Pr:=by
 refine F.cal X G _ (S:=Fd) λb H vs Q E a h=>?_;obtain⟨i,rfl,q⟩:=h;refine⟨_,(@Ak _ _ _ (BL (K9 (CJ J_ rfl B.isinstance IW (Aa (pv 0) (Aa (JZ (v:=.ty "int") rfl B.int boot_int rfl) Ae))) (Kl (Rz (CJ J_ rfl B.isinstance IW (Aa (pv 0) (Aa (JZ (v:=.ty "bool") rfl B.bool boot_bool rfl) Ae)))))))),?_⟩;try dsimp only[CG]
 refine⟨_,U,_,_,_,true,U,Bj.int i,mU K,_,U,Dc ?_⟩;exact⟨_,U,_,_,_,false,U,Bj.int i,mR K,_,U,q⟩
theorem Y6n(F:Ab K "cells_of" (top 36) .none)(X:K.In h)(G:Ng h mg)(B:Bs mg):Aj P w K mg base (k+1) "cells_of" ["board"] (wR K):=by
 refine F.cal X G ["board"] λd H vs Q E b h=>?_;obtain⟨l,xs,c,rfl,a,len,c6,q⟩:=h;refine⟨_,(@Ak _ _ _ (BL (Af JH (Pj O9 Od O_ P0 (CJ GP rfl B.len Fv (Aa (pv 0) Ae))) Ad))),?_⟩;try dsimp only[CG]
 refine⟨_,U,l,_,U,.inl a,U,_,U,U,_,_,U,U,?_⟩;show Q (.int (((Builtin.Int.intBits ((xs.length:Nat):Int):Nat):Int)-1)) H;rw[len,nW c6,show (((c+1:Nat):Int)-1)=(c:Int) by lia];exact q
end
inductive Mv where
 | flip (a:Nat)
 | turn (a k:Nat)
 | iff (a b:Nat)
 | pair (a b:Nat)
 | swap (a b:Nat)
 | cross (a b d:Nat)
noncomputable def PX (w a b:Nat):Nat:=if w&&&(2^a ||| 2^b)=2^a\/w&&&(2^a ||| 2^b)=2^b then w^^^(2^a ||| 2^b) else w
namespace Mv
noncomputable def nm:Mv->Str
 | flip _=>"flip"
 | turn _ _=>"turn"
 | iff _ _=>"if"
 | pair _ _=>"pair"
 | swap _ _=>"swap"
 | cross _ _ _=>"cross"
noncomputable def ns:Mv->List Int
 | flip a=>[(a:Int)]
 | turn a k=>[(a:Int),(k:Int)]
 | iff a b=>[(a:Int),(b:Int)]
 | pair a b=>[(a:Int),(b:Int)]
 | swap a b=>[(a:Int),(b:Int)]
 | cross a b d=>[(a:Int),(b:Int),(d:Int)]
def Ok (c:Nat):Mv->Prop
 | flip a=>a<c
 | turn a k=>a<c/\1<=k/\k<=7
 | iff a b=>a<c/\b<c/\a≠b
 | pair a b=>a<c/\b<c/\a≠b
 | swap a b=>a<c/\b<c/\a≠b
 | cross a b d=>a<c/\b<c/\d<c/\a≠b/\a≠d/\b≠d
end Mv
theorem K7{p:Nat->Bool}{n i:Nat}(h:(List.range n).all p=true)(hi:i<n):p i=true:=Gz.mp h i (Ew.mpr hi)
section
variable {c a b d w:Nat}
end
end Ax
namespace L2
theorem NK:∀{us:U5}{ks:U6},us.length=ks.length->(∀(j:Nat) u,us[j]?=some u->∃(k:Int) (t:Tok),ks[j]?=some k/\u=Value.int k t)->IntsAre us ks
 | [],[],_,_=>.nil
 | u::us,k::ks,hl,h=>by
  obtain⟨a,t,e,rfl⟩:=h 0 u rfl;cases e;exact .cons _ _ (NK (Nat.succ.inj hl) λj u q=>h (j+1) u q)
def pO (s:U7)(P:Nat->Value->Prop)(n:Nat)(q:Result)(s':U7):Prop:=q=.ok (.ret (.ref s.heap.objs.size))/\∃h' tk,s'={s with heap:=h',toks:=tk}/\(∀b o,s.heap.get? b=some o->h'.get? b=some o) /\
 ∃acc c,ItemsOf P acc n/\h'.get? s.heap.objs.size=some { cls:=.type "list",dict:=none,data:=.seq acc c,slots:=#[]}
theorem gather{prog:U8}{w:W1}{A:W6}{E:U2}{s:U7}{T:String}{r d:W9}{n:Nat}{P:Nat->Value->Prop}{OK:Heap->Prop}{R:List Value->Shared->Prop}(K:PySem.W.KdlSrc prog w T r d n P OK)(hh:A.handled=none)(hok:OK s.heap)(hn:n<=sizeLine)
  (h:∀(h':Heap) (tk:Nat) (acc:U9),(∀b o,s.heap.get? b=some o->h'.get? b=some o)->s.heap.objs.size<h'.objs.size->ItemsOf P acc n->R acc.toList {s with heap:=h',toks:=tk}):wpAny (model prog w) A (collect (.ref r)) R E s:=by
 obtain⟨l1,l2⟩:=K.there _ hok;have k:∀b o,s.heap.get? b=some o->(s.heap.push { cls:=.type "list",data:=.seq ([]:U5).toArray}).get? b=some o:=λb o e=>Ef _ e;have a:=PySem.W.kdl_extend (A:=A) (s:={s with heap:=s.heap.push { cls:=.type "list",data:=.seq ([]:U5).toArray}}) (R:=pO s P n) K hh (K.keep _ _ hok λb _=>k b) s.heap.objs.size (Ms l1) (Ms l2) (.ref s.heap.objs.size) 0
  (Fj _ rfl) (λh' tk acc c i g j=>⟨U,h',tk,U,λb o e=>i b o (DY (CN e)) (k b o e),acc,c,j,g⟩) hn
 unfold collect;refine Aw (wpAny_runValue (Yt entry_proto_collect' ?_));rw[Around.under_plainId qd _];show wpAny _ A.in1 (newList [] >>= λl=>again (.builtin "list.__iadd__" ⟨[l,.ref r],[]⟩)) _ _ s;refine Aw (Le (Bl ⟨plainId_quiet Y9 _,Yt entry_list_iadd' ?_⟩));rw[Around.under_plainId Y9 _];refine GD a (λf s' x=>?_) λe s' x=>by cases x.1
 cases f with
 | done f =>
  obtain⟨e,h',tk,rfl,i,acc,c,j,g⟩:=x;cases e;exact Aw (Ye g (Bl (h h' tk acc i (CN g) j)))
 | again c =>
  refine⟨x.1,V5 x.2 λq s2 y=>?_⟩;obtain⟨rfl,h',tk,rfl,i,acc,c,j,g⟩:=y;exact Aw (Ye g (Bl (h h' tk acc i (CN g) j)))
theorem Y1x{X:Cx}(hc:X.calm=true):CP X (.builtin "sorted") (λxs H Q=>∃(p:W9) (kvs:List (Key×V)) (ks:U6),xs=[.ref p]/\H p=some (.dK kvs)/\kvs.map (·.1)=ks.map Sum.inl/\kvs.length<64 /\
  ∀(l:W9) (ks':U6),H l=none->ks'.Perm ks->ks'.Pairwise (·<=·)->Q (.ref l) (upd H l (.lst (ks'.map V.int)))):=by
 intro pins s σ H xs us Q I r h;obtain⟨p,kvs,ks,rfl,hp,E,T,q⟩:=h;obtain⟨u,rfl,L⟩:=vals1 r;cases L;obtain⟨z,lo,vs,kv,dd⟩:=zP I.hok hp;obtain⟨ep,y⟩:=dd.dictAt;have S:kvs.length=vs.length:=kv.length;have a:kvs.map (·.1)=vs.map (·.1):=kv.keys;rw[E]at a;have C:ks.length=vs.length:=by have:=congrArg List.length a;simpa using this
 have G:(64:Nat)<=sizeLine:=by decide
 refine Calls.call_function_entry kind_sorted bZ kE (args_sorted1 _) ?_;unfold Builtin.«sorted»;refine Aw (m:=checkCount "sorted" 1 1 _) (Bl ?_);refine Aw (gather (A:=X.A.in1) (PySem.W.kdl_dict (knd:=JX X.prog X.w) (kvs:=vs) (ep:=ep) lo) (I.ok.hd hc) y (by lia) λh' tk acc f g c=>?_);have hsz:=Tg g;have v:acc.toList.length=vs.length:=by rw[JT];exact c.1
 have P:IntsAre acc.toList ks:=NK (v.trans C.symm) λj u e=>by
  obtain⟨k,x,R,J⟩:=c.2 j u (by rw[<-gQ];exact e);have e2:(ks.map Sum.inl:List Key)[j]?=some k:=by rw[a,Bu,R];rfl
  rw[Bu]at e2;cases e3:ks[j]? with
  | none=>rw[e3]at e2;cases e2
  | some i =>
   rw[e3]at e2;cases e2;rcases Om (show G5 (Sum.inl i) u=true from J) with ⟨i',t,e4,e5⟩ | ⟨x',t,e4,e5⟩
   ·cases e4;exact⟨i,t,U,e5⟩
   ·cases e4
 refine Aw (WD ?_ (by lia));have d:(h'.push (seqObj "list" acc.toList.toArray 0)).get? h'.objs.size=some (seqObj "list" acc.toList.toArray 0):=Fj _ rfl;refine Aw (Ky (RZ cu ⟨_,d,U⟩ dz (list_sort_tree d P (by lia) λout n F D M=>⟨_,U,?_⟩) (args_list_sort _)));refine Bl ⟨_,U,?_⟩;obtain⟨e,O⟩:=sortedHeap_at (out:=out) d;have K:∀b o,s.heap.get? b=some o->(sortedHeap (h'.push (seqObj "list" acc.toList.toArray 0)) h'.objs.size acc.toList out).get? b=some o:=λb o x=>by
  have lt:=CN (f b o x);rw[sortedHeap_old (DY lt) (by rw[Vx];exact Qe lt)];exact Ef _ (f b o x)
 have N:=D.length_eq;have B:(out.toList).toArray=out:=Y5;exact⟨.ref h'.objs.size,_,I.laid (t':=tk) K hsz (show BR X.prog X.w _ _ _ (.lst (n.map V.int)) from ⟨by rw[Az];lia,out.toList,e,Zk F,by rw[B];exact O⟩),U,q _ n (I.hok.fresh hsz) D M⟩
end L2
namespace Dk
open PySem.Sem (wp)
def Raw (h:Heap)(d:W9)(es:Array DictEntry)(ep:Nat):Prop:=∃o,h.get? d=some o/\o.ExactDict/\o.data=.dict es ep
variable{es:Array DictEntry}{ep:Nat}
theorem Raw.at{h h':Heap}{d:W9}(x:Raw h d es ep)(e:∀o,h.get? d=some o->h'.get? d=some o):Raw h' d es ep:=let ⟨o,q,r⟩:=x;⟨o,e o q,r⟩
theorem Raw.type{s:U7}{d:W9}(x:Raw s.heap d es ep):s.TypeIs (.ref d) "dict":=let ⟨o,q,r,_⟩:=x;⟨o,q,r.1⟩
section
variable {prog:U8}{w:W1}{A:W6}{E:U2}{s:U7}{d it:W9}{es:Array DictEntry}{i ep:Nat}
theorem iter{Q:U2}(lo:(d == sysModules)=false)(x:Raw s.heap d es ep)(q:Q (.ref s.heap.objs.size) {s with heap:=s.heap.push { cls:=.type "dict_keyiterator",data:=.fields #[.ref d,.int 0 0,.int es.size 0,.int ep 0]}}):
  wpAny (model prog w) A (pyIter (.ref d)) Q E s:=by
 have ty:=x.type;obtain⟨o,a,b,hd⟩:=x;refine wpAny_pyIter_slot ty F.slot_dict_iter (RZ F.slot_dict_iter ty F.entry_dict_iter ?_ (F.args_dict_iter_1 _));unfold Builtin.«dict.__iter__» Builtin.Dict.dictSlotNone Builtin.Dict.showsAll;refine Aw (Aw (wpAny_notOrdered_dict ty (Bl ?_)));refine Aw (m:=Builtin.Dict.addrOf (Value.ref d)) (Bl ?_);rw[if_neg (show ¬ ((d == sysModules)=true) by rw[lo];decide)];refine Aw (Bl (Aw (wpAny_dictEntries a hd (Aw (wpAny_dictEpoch a hd (Aw (Le (Bl ⟨_,U,"dict_keyiterator",_,⟨_,Fj _ rfl,U⟩,F.slot_dict_keyiterator_next.lookup,?_⟩))))))));simpa [rawInt] using q
theorem step{Q:Option Value->Shared->Prop}(hh:es[i]?=none->A.handled=none)(hi:s.heap.IsKeyIter it d i es.size ep)(x:Raw s.heap d es ep)
  (go:∀(hlt:i<es.size) h',h'.IsKeyIter it d (i+1) es.size ep->Heap.SameBut it s.heap h'->Q (some es[i].key) {s with heap:=h'})
  (stop:∀h',es.size<=i->Heap.ExtBut it s.heap h'->Q none {s with heap:=h'}):wpAny (model prog w) A (pyNext (.ref it)) Q E s:=by
 have ty:=hi.typeIs;obtain⟨o,f,k,hd⟩:=id hi;obtain⟨od,g,j,e⟩:=x;unfold pyNext;refine Aw (V_ (Y_ (name:=Str.ofString "__next__") ty F.slot_dict_keyiterator_next (RZ F.slot_dict_keyiterator_next ty F.entry_dict_keyiterator_next ?_ (F.args_dict_keyiterator_next_1 _))));refine Aw (Bl (Aw (Aw ?_)));first | refine Aw (gw ty (Bl (Aw (wpAny_fieldsOf f hd ?_)))) | refine Aw (gk ty (Bl (Aw (wpAny_fieldsOf f hd ?_))))
 simp only[show Builtin.Dict_items.ownsTuple "dict_keyiterator"=false by decide,Mx,HY];show wpAny _ _ (if (Value.ref d == Value.none)=true then _ else _) _ _ s;rw[if_neg (show ¬ ((Value.ref d == Value.none)=true) from GJ)];refine Aw (Bl (Aw (wpAny_dictEntries g e ?_)));rw[if_neg (by simp)];refine Aw (Bl (Aw (wpAny_dictEpoch g e ?_)));rw[if_neg (by simp)];refine Bl ?_;rcases j6 i es.size with c | c
 ·simp only[show ¬ ((i:Int)<0) by lia,HY,FN,Array.getElem?_eq_getElem c];refine Aw ?_;first | refine Aw (gw ty (Bl (Aw (gR ty ?_)))) | refine Aw (gk ty (Bl (Aw (gR ty ?_))))
  show wpAny _ _ (setField (.ref it) 1 (rawInt ((i:Int)+1)) >>= _) _ _ s;refine Aw (RQ f hd (by simp) ?_);have h2:(s.heap.update it (Obj.mapFields (·.setIfInBounds 1 (rawInt ((i:Int)+1))))).IsKeyIter it d (i+1) es.size ep:=⟨_,Rc _ f (Obj.isFreed_of_fields (Obj.data_mapFields hd _)),(Obj.cls_mapFields ..).trans k,by rw[Obj.data_mapFields hd];simp[rawInt]⟩;refine Aw (Ky (Aw (gR (s:={s with heap:=s.heap.update it (Obj.mapFields (·.setIfInBounds 1 (rawInt ((i:Int)+1))))}) h2.typeIs ?_)));exact Bl (Bl ⟨_,U,Bl (go c _ h2 (Heap.SameBut.update ..))⟩)
 ·have h:=hh (qK c);simp only[show ¬ ((i:Int)<0) by lia,HY,FN,qK c];refine Aw ?_;first | refine Aw (gw ty (Bl ?_)) | refine Aw (gk ty (Bl ?_))
  show wpAny _ _ (setField (.ref it) 0 .none >>= _) _ _ s;refine Aw (RQ f hd (by simp) ?_);show wpAny _ _ (newExc (.type "StopIteration") [] >>= _) _ _ _;refine Aw ?_;simp only[newExc,newTuple];refine Aw (Le ?_ (by size_fits));refine Aw (m:=firstArgMember _ _) (wpAny_of_eq (a:=Value.none) (by first | rfl | (simp only[firstArgMember];rfl)) ?_);refine Le ?_ (by size_fits);simp only[raiseNew];refine Aw (wpAny_handled ?_);rw[show A.in1.handled=none from h];refine Aw (Bl (wpAny_throw ?_));refine Aw (wpAny_isInstance (T:="StopIteration") (b:=true) ⟨_,Fj _ rfl,U⟩ isSubtype_stop ?_);exact Bl (stop _ c (((Heap.SameBut.update ..).extBut.push _).push _))
theorem walks(hh:A.handled=none)(I d:W9)(hne:d≠I)(es:Array DictEntry)(ep:Nat):
  Walks prog w A I [I,d] [I] es.size (λi v=>∃e,es[i]?=some e/\v=e.key) (λi h=>h.IsKeyIter I d i es.size ep/\Raw h d es ep) where
 sub:=λb hb=>by simp at hb;simp[hb]
 frame:=λ_ _ _ st f=>⟨st.1.at λo e=>f I (by simp) o e,st.2.at λo e=>f d (by simp) o e⟩
 item:=λi s Q E hi st a=>step (λ_=>hh) st.1 st.2 (λc h' j sb=>a _ h' s.toks ⟨es[i],by simp[c],rfl⟩ ⟨j,st.2.at λo e=>sb.extBut _ _ hne e⟩ λb o hb e=>sb.extBut b o (λz=>hb (by simp[z])) e) λh' c _=>absurd hi (by lia)
 done:=λs Q E st a=>step (λ_=>hh) st.1 st.2 (λc=>absurd c (Mu _)) λh' c g=>a h' s.toks λb o hb e=>g b o (λz=>hb (by simp[z])) e
 self:=λ_ _ _ _ st a=>wpAny_pyIter_keyiter st.1 a
theorem src(lo:(d == sysModules)=false):PySem.W.KdlSrc prog w "dict" d d es.size (λi v=>∃e,es[i]?=some e/\v=e.key) (λh=>Raw h d es ep) where
 type:=λ_ hm=>hm.type
 there:=λ_ hm=>let ⟨_,ho,_⟩:=hm;⟨CN ho,CN ho⟩
 keep:=λ_ _ hm b=>hm.at λo e=>b d (.inl rfl) o e
 notList:=by decide
 notTuple:=by decide
 hint:=λ_ _ _ _ hm a=>PySem.W.kdl_hint_dict hm.type a
 iter:=λ_ s c hm=>⟨_,_,(λ_ _ a=>iter lo hm a),walks c _ d (let ⟨_,ho,_⟩:=hm;DY (CN ho)) es ep,⟨⟨_,Fj _ rfl,U,U⟩,hm.at λo e=>Ef _ e⟩⟩
end
end Dk
namespace L2
theorem Y6x{X:Cx}(hc:X.calm=true):CP X (.type "list") (λxs H Q=>∃(p:W9) (kvs:List (List Key×V)),xs=[.ref p]/\H p=some (.dT kvs) /\
  ∀(l:W9) (bs:U3),H l=none->Paired (λb (kv:List Key×V)=>H b=some (.tup (kv.1.map kV))) bs kvs->Q (.ref l) (upd H l (.lst (bs.map V.ref)))):=by
 intro pins s σ H xs us Q I r h;obtain⟨p,kvs,rfl,hp,q⟩:=h;obtain⟨u,rfl,B⟩:=vals1 r;cases B;obtain⟨z,lo,ks,i,o,es,ep,C,D,hd,f,F⟩:kvs.length<=sizeLine/\(p == sysModules)=false/\∃xs:List (List Key×Addr×Value),
   Paired (λ(p:List Key×V) (q:List Key×Addr×Value)=>p.1=q.1/\H q.2.1=some (.tup (p.1.map kV))/\RelV p.2 q.2.2) kvs xs /\
   ∃o es ep,s.heap.get? p=some o/\o.ExactDict/\o.data=.dict es ep/\es.toList=xs.map (entryOfKey (tupleKind (JX X.prog X.w)))/\(xs.map λx:List Key×Addr×Value=>x.1).Nodup:=I.hok p _ hp
 have E:kvs.length=ks.length:=Paired.length i;have hsz:es.size=ks.length:=by rw[<-JT,f,Az]
 refine PySem.W.kdl_call (Dk.src (es:=es) (ep:=ep) lo) (I.ok.hd hc) ⟨o,C,D,hd⟩ (by lia) λh' tk acc c A G v=>?_;have d:∀(ks:List (List Key×Addr×Value)) (us:U5),us.length=ks.length->(∀(j:Nat) (u:W2),us[j]?=some u->∃k,ks[j]?=some k/\u=Value.ref k.2.1)->Vals ((ks.map λk=>k.2.1).map V.ref) us:=by
  intro ks;induction ks with
  | nil=>intro us e _;cases us with
   | nil=>exact .nil
   | cons=>cases e
  | cons k ks ih=>intro us e h;cases us with
   | nil=>cases e
   | cons u us =>
    obtain⟨J,m,e2⟩:=h 0 u rfl;cases m;exact .cons e2 (ih us (Nat.succ.inj e) λj u t=>h (j+1) u t)
 have g:acc.toList.length=ks.length:=by rw[JT,v.1,hsz]
 have y:=d ks acc.toList g λj u t=>by
  obtain⟨e,m,e2⟩:=v.2 j u (by rw[<-gQ];exact t);rw[<-gQ,f,Bu]at m;obtain⟨k,k1,k2⟩:=Dt.mp m;exact⟨k,k1,by rw[e2,<-k2];rfl⟩
 have n:(acc.toList).toArray=acc:=Y5;refine⟨.ref s.heap.objs.size,_,I.laid (t':=tk) A (Bd _) (show BR X.prog X.w _ _ _ (.lst ((ks.map λk=>k.2.1).map V.ref)) from ⟨by rw[Az,Az];lia,acc.toList,c,y,by rw[n];exact G⟩),U,q _ _ (I.hok.fresh (Bd _)) ?_⟩;clear y g f hsz E F q d hp z;induction i with
 | nil=>exact .nil
 | cons a _ ih=>exact .cons a.2.1 ih
end L2
namespace L2
def Q9 (tk tv:TE):TE:=λσ H Q=>∀p,H p=none->Js [(tk,tv)] σ (upd H p (.dT [])) λps H2=>H2 p=some (.dT [])/\∃(b:W9) (k:List Key) (y:V),ps=[(.ref b,y)]/\H2 b=some (.tup (k.map kV))/\Q (.ref p) (upd H2 p (.dT [(k,y)]))
theorem X2h{X:Cx}{pos:Pos}{k v:Expr}{tk tv:TE}(hu:X.A.units+1<cLine)(hk:PE X k tk)(hv:PE X v tv):PE X (.Dict [some k] [v] pos) (Q9 tk tv):=by
 intro pins s σ H Q I q;have x:=I.hok.fresh (Bd s.heap.objs.size);have u:=I.laid (a:=s.heap.objs.size) (o:=.dT []) (h':=s.heap.push { cls:=.type "dict",data:=.dict #[]}) (t':=s.toks) (λ_ _ q=>Ef _ q) (Bd _) (X3w s.heap I.big);have ev:aW X pos [some k] [v] [(tk,tv)]:=X2d hk hv X7a;refine wpAny_Dict_any rfl rfl (by simp) (by show 1<=15;decide) (Bk (ev pins _ σ _ _ u (q _ x)) λC s2 ⟨ps,H2,h,g,e,b,kk,y,c,f,m⟩=>?_)
 ·subst c;cases g with
  | @cons _ w1 _ _ h1 t1 =>
   cases t1;obtain⟨r,B⟩:=w1;cases (show r=Value.ref b from h1.1);obtain⟨z,hd,xs,p,dd⟩:=zQ h.hok e;cases p;unfold storeAll;rw[List.forIn_cons];simp only[List.forIn_nil];refine Aw (Aw (wpAny_dictSet_heap (knd:=tupleKind (JX X.prog X.w)) (show X.A.units<cLine from Nat.lt_of_succ_lt hu) (Uc h.hok f) dd (λh' d j=>Bl (Bl ?_)) (Ed _)));obtain⟨o,es,ep,i,h2,n,t,_,l⟩:=d;refine⟨.ref s.heap.objs.size,_,m8 (ob:=.dT [(kk,y)]) h (by rw[e];exact True.intro) j ⟨o,i⟩ ⟨(by show 1<=sizeLine;decide),hd,_,?_,o,es,ep,i,h2,n,t,l⟩,U,m⟩;refine .cons ⟨U,?_,h1.2⟩ .nil;show upd H2 s.heap.objs.size _ b=_;rw[Cd (J0 f e (λz=>nomatch z))];exact f
end L2
namespace L2
def Ite (K:U0)(l:W9):It :=
 ⟨λi H=>∃xs x,Ag K H l xs/\xs[i]?=some x,
 λi H v H'=>∃T x,v=.ref T/\H T=none/\H'=upd H T (.tup [.int i,x])/\∀xs,Ag K H l xs->xs[i]?=some x,
 λi H=>∃xs,Ag K H l xs/\xs.length<=i⟩
theorem Y7g{P:U8}{w:W1}{K:U0}{es:List Expr}{kk:Nat}{tp:Pos}{e it l:W9}(ne:e≠it)(nl:l≠e):
  Turn P w K (.Tuple es kk tp) (Ite K l) [e,it] e (λi h=>(∃a,IsEnum h e it i a)/\h.IsListIter it l i) where
 mem:=by simp
 obj:=λi h st b hb=>by
  obtain⟨⟨a,c⟩,o,d,_,O⟩:=st;simp only[Dg,Ir,Ip]at hb;rcases hb with rfl | rfl
  ·exact⟨_,c,λv q=>by have G:Data.fields _=Data.cell v:=q;cases G⟩
  ·exact⟨o,d,λv z=>by rw[O]at z;cases z⟩
 keep:=λi h h' st k=>by
  obtain⟨⟨a,c⟩,d⟩:=st;exact⟨⟨a,k e (by simp) _ c⟩,d.at λo q=>k it (by simp) o q⟩
 item:=by
  intro X m j A C i pins s σ H E I g st t;subst m j A;obtain⟨xs,x,f,B⟩:=t;obtain⟨⟨a,c⟩,d⟩:=st;obtain⟨its,y,p,L⟩:=I.list f;obtain⟨u,r,N⟩:=y.get B;refine wpAny_pyNext_enum_item c d p.isList (x:=u) (by simpa using r) ne λh' W R M Y V=>?_;refine⟨_,U,wpAny_letOwnedTupleGo_enum W λh2 F sb=>?_⟩;have J:s.heap.objs.size≠e:=Ms (CN c);have k2:∀b o,b∉[e,it]->s.heap.get? b=some o->h2.get? b=some o:=λb o hb q=>by
   simp only[Dg,Ir,Ip,not_or]at hb;exact sb.extBut b o hb.1 (V b o hb.1 hb.2 q)
  have S:IsTup h2 s.heap.objs.size ([.int i s.toks,u]:U5).toArray:=⟨_,sb.extBut _ _ J M,U,_,U⟩;refine⟨.ref s.heap.objs.size,upd H s.heap.objs.size (.tup [.int i,x]),I.turnedT (t':=s.toks+1) k2 g (Bd _) (.cons ⟨_,U⟩ (.cons N .nil)) (by show 2<=sizeLine;decide) S,U,⟨_,x,U,I.hok.fresh (Bd _),U,λT h1=>?_⟩,⟨⟨u,?_⟩,?_⟩,λb hb=>?_⟩
  ·rw[I.list_inj h1 f];exact B
  ·exact_mod_cast F
  ·exact R.at λo q=>sb.extBut _ _ ne.symm q
  ·have n:b<s.heap.objs.size:=by
    simp only[Dg,Ir,Ip]at hb;rcases hb with rfl | rfl
    ·exact CN c
    ·obtain⟨o,q,_⟩:=d;exact CN q
   rw[Cd (DY n)];exact(g b hb).1
 done:=by
  intro X m j A C i pins s σ H E I g st t;subst m j A;obtain⟨xs,f,D⟩:=t;obtain⟨⟨a,c⟩,d⟩:=st;obtain⟨its,y,p,L⟩:=I.list f;have Z:=y.length;refine wpAny_pyNext_enum_end (I.ok.hd C) c d p.isList (by simp;lia) λh' Q=>⟨U,I.turnedL (t':=s.toks) (ch:=[e,it]) (λb o hb q=>?_) g⟩;simp only[Dg,Ir,Ip,not_or]at hb;exact Q b o hb.2 q
 self:=λ_ _ _ _ _ st h=>by
  obtain⟨⟨a,c⟩,_⟩:=st;exact wpAny_pyIter_enum c h
section
variable {X:Cx}{es:List Expr}{kk:Nat}{tp:Pos}
def Wv (K:U0)(ta:TA):TI:=λσ H R=>ta σ H λvs H1=>∃l xs,vs=[.ref l]/\Ag K H1 l xs/\R (Ite K l) H1
theorem SJ{a:Expr}{ta:TA}{p pos:Pos}(hg:Gl X "enumerate")(hm:X.mg "enumerate"=none)(ha:PA X [a] ta)(hs:starEach [a] X.env=[(false,eval a X.env)]:=by rfl):
  PI X (.Tuple es kk tp) (.Call (.Name "enumerate" p) [a] [] pos) (Wv X.K ta):=by
 intro pins s σ H R I h;refine Call_ (Rv I hg hm boot_enumerate (PyProof.Rows.callWith_type1 (Bk (ha pos pins s σ H _ I h) λus c ⟨vs,H1,f,n,m⟩=>?_) (by rw[hs];rfl) (by rfl)));obtain⟨l,xs,e,h1,q⟩:=m;subst e;cases n with
 | cons r rr =>
  cases rr;cases r;obtain⟨its,x,i,v⟩:=f.list h1;refine call_enumerate_list i.isList λh' j t w k=>?_;have u:Inv X pins σ H1 {c with heap:=h'}:=f.kept (t':=c.toks) k;have g:l<c.heap.objs.size:=by obtain⟨o,q,_⟩:=i.isList;exact CN q
  refine wpAny_pyIter_enum j ⟨_,[c.heap.objs.size+1,c.heap.objs.size],_,_,H1,U,u,Y7g (Nat.succ_ne_self _) (DY (Qe g)),⟨⟨_,j⟩,t⟩,λb hb=>?_,q⟩;have d:c.heap.objs.size<=b:=by
   simp only[Dg,Ir,Ip]at hb;rcases hb with rfl | rfl
   ·exact Nat.le_succ _
   ·exact Bd _
  exact f.fpOk d (f.hok.fresh d)
end
theorem n8{K:U0}{a:W9}{xs:List V}{g:TG}{tb:TS}{D:Ends}{σ:St}{H:Hp}(Pv:Nat->St->Hp->Prop)(h0:Pv 0 σ H)(hl:∀i σ H,i<=xs.length->Pv i σ H->Ag K H a xs)
  (hs:∀i x σ H T,xs[i]?=some x->Pv i σ H->H T=none->g (.ref T) σ (upd H T (.tup [.int i,x])) λc H2=>tb {D with nx:=Pv (i+1),ct:=Pv (i+1),bk:=D.nx} c H2) (hd:∀σ H,Pv xs.length σ H->D.nx σ H):
  ∃W:Nat->Nat->St->Hp->Prop,(∃m,W 0 m σ H)/\∀i m σ H,W i m σ H ->
   ((Ite K a).stop i H/\D.nx σ H)\/((Ite K a).go i H/\∃N:St->Hp->Prop,(∀b H',N b H'->∃m',m'<m/\W (i+1) m' b H')/\∀x H',(Ite K a).yld i H x H'->g x σ H' λc H2=>tb {D with nx:=N,ct:=N,bk:=D.nx} c H2):=by
 refine⟨λi m σ H=>m=xs.length-i/\i<=xs.length/\Pv i σ H,⟨xs.length,by simp,Ed _,h0⟩,?_⟩;rintro i m σ H ⟨rfl,hi,p⟩;have q:=hl i σ H hi p;by_cases hlt:i<xs.length
 ·refine .inr ⟨⟨xs,xs[i],q,by simp[hlt]⟩,Pv (i+1),λb H' d=>⟨xs.length-(i+1),by lia,U,hlt,d⟩,λv H' y=>?_⟩;obtain⟨T,x,rfl,f,rfl,y⟩:=y;exact hs i x σ H T (y xs q) p f
 ·have e:i=xs.length:=by lia
  subst e;exact .inl ⟨⟨xs,q,Bd _⟩,hd σ H p⟩
end L2
namespace L2
theorem lW{X:Cx}(hc:X.calm=true):CP X (.builtin "sum") (λxs H Q=>∃(p:W9) (ns:U6),xs=[.ref p]/\Ag X.K H p (ns.map V.int)/\Q (.int ns.sum) H):=by
 intro pins s σ H xs us Q I r h;obtain⟨p,ns,rfl,d,q⟩:=h;obtain⟨u,rfl,f⟩:=r.one;cases f;obtain⟨its,i,g,j⟩:=I.list d;have hi:=Nr i;have b:=g.isList;have a:=hi.numsOf;obtain⟨xs,e⟩:=hi.allInts.items;have e2:its=(intItems xs).toList:=by rw[<-e]
 rw[e]at b;rw[e2,cj]at a;refine sum_intListG (show X.A.handled=none from I.ok.hd hc) b λh' tk t' c=>?_;rw[preSum_eq,Tv (by simp),a];exact⟨.int ns.sum,H,I.kept (t':=tk) c,⟨_,U⟩,q⟩
theorem X8v{K:U0}{l:W9}{g:TG}{xs:List V}{te:TE}{fr:St}{H1:Hp}{acc:W9}{Q:VK}(f:Nat->V->V)(hn:xs.length<=sizeLine)(hacc:H1 acc=none)(hl:Ag K H1 l xs)
  (hg:∀{a:W9}{x y:V}{w1 w2:Option V}{H:Hp}{Q:St->Hp->Prop},H a=some (.tup [x,y])->Q (some x::some y::fr) H->g (.ref a) (w1::w2::fr) H Q)
  (hs:∀i x H (N:V->Hp->Prop),xs[i]?=some x->Same H1 H->N (f i x) H->te (some (.int i)::some x::fr) H N)
  (hd:∀H2,Same H1 H2->H2 acc=some (.lst (xs.mapIdx f))->Q (.ref acc) H2):KH (Ite K l) g te (none::none::fr) H1 acc Q:=by
 refine⟨λi m zs h H2=>m=xs.length-i/\i<=xs.length/\(∃v w,h=v::w::fr)/\Same H1 H2/\H2 acc=some (.lst zs)/\zs=(xs.take i).mapIdx f,⟨xs.length,by simp,Ed _,⟨_,_,U⟩,A_ hacc _,Ar,by simp⟩,?_⟩;rintro i m zs h H2 ⟨rfl,hi,⟨v,w,rfl⟩,s2,d,e2⟩;by_cases hlt:i<xs.length
 ·have n:xs[i]?=some xs[i]:=by simp[hlt]
  refine .inr ⟨⟨xs,_,s2.seq hl,n⟩,λu o j=>?_⟩;obtain⟨T,x,rfl,k,rfl,h1⟩:=j;have c:=h1 xs (s2.seq hl);have b:=A_ k (.tup [.int i,x]);have p:zs.length=i:=by rw[e2,List.length_mapIdx,Gk];lia
  refine hg (x:=.int i) (y:=x) Ar (hs i x _ _ c (s2.trans b) ⟨b _ _ d,by lia,xs.length-(i+1),by lia,U,hlt,⟨_,_,U⟩,Dj (s2.trans b) hacc,Ar,?_⟩);rw[Gs,c,Iu,List.mapIdx_append,e2];have:(xs.take i).length=i:=by rw[Gk];lia
  simp[this]
 ·have e:i=xs.length:=by lia
  subst e;exact .inl ⟨⟨xs,s2.seq hl,Bd _⟩,hd H2 s2 (by rw[d,e2,Ia])⟩
theorem oE{K:U0}{l:W9}{ns:U6}{tc:TT}{te:TE}{fr:St}{H1:Hp}{acc:W9}{Q:VK}(p:Int->Bool)(f:Int->Int)(hn:ns.length<=sizeLine)(hacc:H1 acc=none)(hl:Ag K H1 l (ns.map V.int))
  (hs:∀n H (N:Bool->Hp->Prop),n∈ns->Same H1 H->N (p n) H->tc (some (.int n)::fr) H N)
  (ht:∀n H (N:V->Hp->Prop),n∈ns->p n=true->Same H1 H->N (.int (f n)) H->te (some (.int n)::fr) H N)
  (hd:∀H2,Same H1 H2->H2 acc=some (.lst (((ns.filter p).map f).map V.int))->Q (.ref acc) H2):Ny (Nz K l) (Ce 0) tc te (none::fr) H1 acc Q:=by
 refine⟨λi m zs d H2=>m=ns.length-i/\i<=ns.length/\(∃v,d=v::fr)/\Same H1 H2/\H2 acc=some (.lst zs)/\zs=(((ns.take i).filter p).map f).map V.int,⟨ns.length,by simp,Ed _,⟨_,U⟩,A_ hacc _,Ar,by simp⟩,?_⟩;rintro i m zs d H2 ⟨rfl,hi,⟨v,rfl⟩,s2,c,e2⟩;by_cases hlt:i<ns.length
 ·have b:ns[i]?=some ns[i]:=by simp[hlt]
  have g:(ns.map V.int)[i]?=some (.int ns[i]):=by rw[Bu,b];rfl
  have o:zs.length<=i:=by
   rw[e2,Az,Az];exact E_ (Y6 _ _) (by rw[Gk];lia)
  have a:ns[i]∈ns:=Oa hlt;refine .inr ⟨⟨_,_,s2.seq hl,g⟩,λu k h=>?_⟩;obtain⟨rfl,j⟩:=h;have:=j _ (s2.seq hl);rw[g]at this;cases this;refine hs ns[i] _ _ a s2 ⟨λhp=>ht ns[i] _ _ a hp s2 ⟨c,by lia,ns.length-(i+1),by lia,U,hlt,⟨_,U⟩,Dj s2 hacc,Ar,?_⟩,λhp=>⟨ns.length-(i+1),by lia,U,hlt,⟨_,U⟩,s2,c,?_⟩⟩
  ·rw[Gs,b,Iu,WY,Ca,Ca,e2];simp[hp]
  ·rw[Gs,b,Iu,WY,Ca,Ca,e2];simp[hp]
 ·have e:i=ns.length:=by lia
  subst e;exact .inl ⟨⟨_,s2.seq hl,by rw[Az];exact Bd _⟩,hd H2 s2 (by rw[c,e2,Ia])⟩
end L2
namespace Ax
open L2 Am Pc Ba
theorem PB(x y:Nat):Builtin.bitOr (x:Int) (y:Int)=((x ||| y:Nat):Int):=by
 have h:Builtin.bitXor (x:Int) (y:Int)=Builtin.bitOr x y-Builtin.bitAnd x y:=rfl;rw[Jo,NT]at h;have e:=X3 (x+y+1) x y (by lia) (by lia);lia
def Jv:Sp:=λvs H Q _=>∃w a b:Nat,vs=[.int w,.int ((2^a:Nat):Int),.int ((2^b:Nat):Int)]/\∀H',Same H H'->Q (.int (PX w a b:Nat)) H'
structure Bo (K:U0) (H:Hp) (l:W9) (ps:U3) (f:Nat->A5) (c:Nat):Prop where
 lst:H l=some (.lst (ps.map V.ref))
 len:ps.length=2^c
 vals:Cp K H ps f
variable{K:U0}{H H':Hp}{l:W9}{ps:U3}{f:Nat->A5}{c:Nat}
theorem Bo.same(b:Bo K H l ps f c)(s:Same H H'):Bo K H' l ps f c:=⟨s _ _ b.lst,b.len,b.vals.same s⟩
theorem Bo.at{i:Nat}(b:Bo K H l ps f c)(hi:i<2^c):∃p,ps[i]?=some p/\Dp K H p (f i)/\Fg (ps.map V.ref) (i:Int)=some (.ref p):=by
 have a:i<ps.length:=by rw[b.len];exact hi
 refine⟨ps[i],Cm a,b.vals i _ (Cm a),J6 (by rw[Bu,Cm a];rfl)⟩
theorem kJ(x a b:Int):inV (.int x) [.int a,.int b]=(decide (a=x) || decide (b=x)):=by
 unfold inV;simp only[RL,List.any_nil,Bool.or_false,Pa];rfl
section
variable {P:U8}{w:W1}{K:U0}{mg:U4}{base:Heap}{k:Nat}{h:Heap}
theorem X7y(F:Ab K "exchanged" (top 67) .none)(X:K.In h)(G:Ng h mg):Aj P w K mg base (k+1) "exchanged" ["word","bit","other"] Jv:=by
 refine F.cal X G ["word","bit","other","both"] λf H vs Q E i h=>?_;obtain⟨x,a,b,rfl,q⟩:=h
 refine⟨_,(@Ay _ _ _ _ _ (@BX _ _ 3 _ _ _ _ f rfl (Or.inl rfl) (Af Sx (pv 1) (pv 2)) rfl (.inl rfl))
  (@Ak _ _ _ (BL (Px (Bf wN (Af Dv (pv 0) (pv 3)) (@Cw _ _ _ _ _ (Aa (pv 1) (Aa (pv 2) Ae))) rfl) (Af JK (pv 0) (pv 3)) (pv 0))))),?_⟩
 try dsimp only[CG]
 refine⟨_,U,_,U,_,_,U,U,?_⟩;refine⟨_,U,_,U,_,_,U,U,_,U,_,U,t2,λtp e=>?_⟩;refine⟨tp,_,U,.inr (Ai.of Ar),U,U,_,U,?_⟩;have g:=A_ e (.tup [.int ((2^a:Nat):Int),.int ((2^b:Nat):Int)]);have d:=q _ g;unfold PX at d;show if (inV (.int (Builtin.bitAnd (x:Int) (Builtin.bitOr ((2^a:Nat):Int) ((2^b:Nat):Int)))) [.int ((2^a:Nat):Int),.int ((2^b:Nat):Int)])=true then _ else _;rw[PB,NT,kJ];by_cases c:x&&&(2^a ||| 2^b)=2^a\/x&&&(2^a ||| 2^b)=2^b
 ·rw[if_pos (by rw[RT,Jk,Jk];lia)];rw[if_pos c]at d;refine⟨_,U,_,U,_,_,U,U,?_⟩;show Q (.int (Builtin.bitXor (x:Int) (Builtin.bitOr ((2^a:Nat):Int) ((2^b:Nat):Int)))) _;rw[PB,Jo];exact d
 ·rw[if_neg (by rw[RT,Jk,Jk];lia)];rw[if_neg c]at d;exact⟨_,U,d⟩
structure Mix (s:Int) (x y z:A5):Prop where
 ex:∃p:A5,Sum x.1.1 x.1.2.1 x.1.2.2.1 x.1.2.2.2 x.2 (s*y.1.1) (s*y.1.2.1) (s*y.1.2.2.1) (s*y.1.2.2.2) y.2 p.1.1 p.1.2.1 p.1.2.2.1 p.1.2.2.2 p.2 /\
  Ly z.1.1 z.1.2.1 z.1.2.2.1 z.1.2.2.2 z.2/\Cz (p.1.2.1-p.1.2.2.2) (p.1.1+p.1.2.2.1) (p.1.2.1+p.1.2.2.2) (p.1.2.2.1-p.1.1) (p.2+1) z.1.1 z.1.2.1 z.1.2.2.1 z.1.2.2.2 z.2
variable{x y:A5}
theorem wu(h:x.1.1=y.1.1/\x.1.2.1=y.1.2.1/\x.1.2.2.1=y.1.2.2.1/\x.1.2.2.2=y.1.2.2.2/\x.2=y.2):x=y:=by
 obtain⟨⟨a,b,c,d⟩,h1⟩:=x;obtain⟨⟨a',b',c',d'⟩,h2⟩:=y;obtain⟨rfl,rfl,rfl,rfl,rfl⟩:=h;rfl
theorem Mix.uniq{s:Int}{z z':A5}(a:Mix s x y z)(b:Mix s x y z'):z=z':=by
 obtain⟨p,h1,h2,c⟩:=a.ex;obtain⟨q,g1,g2,g3⟩:=b.ex;have e:p=q:=wu (h1.amt.unique g1.amt (h1.same.symm.trans g1.same));subst e;exact wu (h2.unique g2 (c.symm.trans g3))
structure Jh (K:U0) (H:Hp) (l:W9) (ps:U3) (f:Nat->A5) (c n m:Nat):Prop where
 lst:H l=some (.lst (ps.map V.ref))
 len:ps.length=2^c
 vals:Cp K H ps f
 ok:∀i,i<2^c->Jq n m (f i)
variable{n m:Nat}
theorem Jh.same(b:Jh K H l ps f c n m)(s:Same H H'):Jh K H' l ps f c n m:=⟨s _ _ b.lst,b.len,b.vals.same s,b.ok⟩
theorem Jh.at{i:Nat}(b:Jh K H l ps f c n m)(hi:i<2^c):∃p,ps[i]?=some p/\Dp K H p (f i)/\Fg (ps.map V.ref) (i:Int)=some (.ref p):=by
 have a:i<ps.length:=by rw[b.len];exact hi
 refine⟨ps[i],Cm a,b.vals i _ (Cm a),J6 (by rw[Bu,Cm a];rfl)⟩
theorem W2e{z p:A5}(ox:Jq n m x)(oy:Jq n m y)(hp:p.2<=max x.2 y.2)(sp:Nx (n+x.2.toNat+y.2.toNat+2) p.1.1 p.1.2.1 p.1.2.2.1 p.1.2.2.2)
  (r:Red (p.1.2.1-p.1.2.2.2) (p.1.1+p.1.2.2.1) (p.1.2.1+p.1.2.2.2) (p.1.2.2.1-p.1.1) (p.2+1) z.1.1 z.1.2.1 z.1.2.2.1 z.1.2.2.2 z.2):Jq (n+2*m+3) (m+1:Nat) z:=by
 have f:=ox.le;have e:=oy.le;have c:=ox.amt.nn;have d:=oy.amt.nn;have s:Nx (n+2*m+2) p.1.1 p.1.2.1 p.1.2.2.1 p.1.2.2.2:=sp.mono (by lia);have neg:∀{u v:Int},Sz (n+2*m+2) u->Sz (n+2*m+2) v->Sz (n+2*m+3) (u-v):=λa b=>by rw[Int.sub_eq_add_neg];exact(a.add b.neg).mono (by lia)
 have add:∀{u v:Int},Sz (n+2*m+2) u->Sz (n+2*m+2) v->Sz (n+2*m+3) (u+v):=λa b=>(a.add b).mono (by lia);refine⟨r.sz ⟨neg s.z2 s.z4,add s.z1 s.z3,add s.z2 s.z4,neg s.z3 s.z1⟩,r.amt,?_⟩;have:=r.le;lia
end
end Ax
namespace L2
abbrev Mm:=Str×List Int
noncomputable abbrev mT (m:Mm):HO:=.tup (.str m.1::m.2.map V.int)
def Gh (H:Hp):List Addr->List Mm->Prop:=Paired λp m=>H p=some (mT m)
theorem Gh.same{H H':Hp}{ps:U3}{ms:List Mm}(h:Gh H ps ms)(s:Same H H'):Gh H' ps ms:=Paired.imp' (λ_ _ c=>s _ _ c) h
section
variable {P:U8}{w:W1}{H:Hp}{h:Heap}
end
section
variable {X:Cx}
end
end L2
namespace Ax
open L2 Am Pc Ba
inductive Gm where
 | mv (v:Mv)
 | mix (a:Nat)
namespace Gm
noncomputable def nm:Gm->Str
 | mv v=>v.nm
 | mix _=>"mix"
noncomputable def ns:Gm->List Int
 | mv v=>v.ns
 | mix a=>[(a:Int)]
def Ok (c:Nat):Gm->Prop
 | mv v=>v.Ok c
 | mix a=>a<c
noncomputable abbrev mm (m:Gm):Mm:=(m.nm,m.ns)
end Gm
abbrev U_ (c:Nat)(f:Nat->A5):Prop:=∀w,w<2^c->Ly (f w).1.1 (f w).1.2.1 (f w).1.2.2.1 (f w).1.2.2.2 (f w).2
theorem Zd{n:Nat}{M:Int}{x:A5}{k:Int}(o:Jq n M x):Jq n M (Bc x k):=xq o _
section
variable {P:U8}{w:W1}{K:U0}{mg:U4}{base:Heap}{k:Nat}{h:Heap}
def Jf (H:Hp)(ps:U3)(ms:List Gm):Prop:=Gh H ps (ms.map Gm.mm)
variable{H:Hp}{ps:U3}{ms:List Gm}
theorem Jf.same{H':Hp}(h:Jf H ps ms)(s:Same H H'):Jf H' ps ms:=Gh.same h s
theorem Jf.length(h:Jf H ps ms):ps.length=ms.length:=by
 have:=Paired.length h;rw[Az]at this;exact this
theorem Jf.snoc{p:W9}{m:Gm}(h:Jf H ps ms)(e:H p=some (aY m.nm m.ns)):Jf H (ps++[p]) (ms++[m]):=by
 unfold Jf;rw[Ca];exact Paired.snoc h e
theorem Jf.upd{l:W9}{xs ys:List V}(h:Jf H ps ms)(hl:H l=some (.lst xs)):Jf (upd H l (.lst ys)) ps ms :=
 Paired.imp' (λ_ _ c=>by rw[Cd (J0 c hl (by intro z;cases z))];exact c) h
structure Rw (H:Hp) (l:W9) (ps:U3) (ms:List Gm) (c:Nat):Prop where
 lst:H l=some (.lst (ps.map V.ref))
 mvs:Jf H ps ms
 ok:∀m∈ms,m.Ok c
 len:ms.length<=200
def vU:Sp:=λvs H Q _=>∃(cl:Int) (c:Nat),vs=[.int cl,.int c]/\1<=c/\c<=6/\∀(r:W9) (H':Hp) (nm:Str) (ns:U6),Same H H'->H' r=some (aY nm ns)->((nm="mix"/\∃a:Nat,a<c/\ns=[(a:Int)])\/∃v:Mv,v.Ok c/\nm=v.nm/\ns=v.ns)->Q (.ref r) H'
theorem pick{L:U6}{i:Int}(h0:0<=i)(h1:i<L.length):∃e∈L,Fg (L.map V.int) i=some (.int e):=by
 refine⟨L.getD i.toNat 0,?_,wz h0 h1⟩;rw[Bp,Cm (by lia)];exact Oa _
structure Rest (c:Nat) (no:W3) (R:U6):Prop where
 only:∀e∈R,∃j:Nat,e=(j:Int)/\j<c/\j∉no
 all:∀j:Nat,j<c->j∉no->(j:Int)∈R
 len:R.length<=6
variable{c a:Nat}{R:U6}
theorem Rest.pos1(r:Rest c [a] R)(h:2<=c):0<R.length:=by
 by_cases e:a=0
 ·exact gU (r.all 1 (by lia) (by simp;lia))
 ·exact gU (r.all 0 (by lia) (by simp;lia))
theorem Rest.pos2{b:Nat}(r:Rest c [a,b] R)(h:3<=c):0<R.length:=by
 have:∃j:Nat,j<3/\j≠a/\j≠b:=by
  by_cases h0:0≠a/\0≠b
  ·exact⟨0,by decide,h0.1,h0.2⟩
  ·by_cases h1:1≠a/\1≠b
   ·exact⟨1,by decide,h1.1,h1.2⟩
   ·exact⟨2,by decide,by lia,by lia⟩
 obtain⟨j,e,f,d⟩:=this;exact gU (r.all j (by lia) (by simp;lia))
theorem Rest.filter{b:Nat}(r:Rest c [a] R){p:Int->Bool}(hp:∀e,p e=!decide (V.int e=V.int b)):Rest c [a,b] ((R.filter p).map id):=by
 rw[List.map_id];refine⟨λe l=>?_,λj k d=>?_,E_ (Y6 _ _) r.len⟩
 ·obtain⟨h1,h2⟩:=WM.mp l;obtain⟨j,rfl,jc,i⟩:=r.only e h1;refine⟨j,U,jc,?_⟩;rw[hp]at h2;have h:¬ (V.int (j:Int)=V.int (b:Int)):=by simpa using h2
  have f:j≠b:=λz=>h (by rw[z]);have g:j≠a:=by simpa using i
  simp;exact⟨g,f⟩
 ·simp at d;refine WM.mpr ⟨r.all j k (by simp;exact d.1),?_⟩;rw[hp,Dh (λz=>d.2 (by have:=V.int.inj z;lia))];rfl
theorem Y9a(F:Ab K "_law_move_by" (top 88) .none)(X:K.In h)(G:Ng h mg)(B:Bs mg):Aj P w K mg base (k+1) "_law_move_by" ["_law_cell","_law_cells"] vU:=by
 refine F.cal X G ["_law_cell","_law_cells","_law_far","_law_kind","_law_a","_law_rest","_law_b"] λu H vs Q E g h=>?_;obtain⟨o,c,rfl,c1,c6,A⟩:=h;have cpos:(0:Int)<(c:Int):=by lia
 refine⟨_,(@Cy _ _ _ _ _ (@BX _ _ 2 _ _ _ _ u rfl (Or.inl rfl) (Af Cv (Af G_ (pv 0) Ad) Ad) rfl (.inl rfl))
  (@Cy _ _ _ _ _ (@BX _ _ 3 _ _ _ _ u rfl (Or.inl rfl) (Af Cv (pv 2) Ad) rfl (.inl rfl))
  (@Cy _ _ _ _ _ (Bx (PW.pt (Es (Bf Df (pv 1) Ad (Ac _)) (Hg (PW.pt (Oh (Bf Df (pv 1) Ad (Ac _)) (Ol (Bf Df (pv 3) Ad (Ac _))))))))
   (@Ak _ _ _ (@BX _ _ 3 _ _ _ _ u rfl (Or.inl rfl) (Af Cv (pv 3) Ad) rfl (.inl rfl)))
   B_)
  (@Cy _ _ _ _ _ (@BX _ _ 4 _ _ _ _ u rfl (Or.inr rfl) (Af Cv (Af Ih (pv 2) Ad) (pv 1)) rfl (.inl rfl))
  (@Ay _ _ _ _ _ (Bx (Bf Df (pv 3) Ad (Ac _))
   (@Ak _ _ _ (BL (@Cw _ _ _ _ _ (Aa Gb (Aa (pv 4) (Aa (Af Ds Ad (Af Cv (Af Ih (pv 2) Ad) Ad)) Ae))))))
   B_)
  (@Ay _ _ _ _ _ (Bx (Bf J5 (pv 3) Ad (Ac _))
   (@Ak _ _ _ (BL (@Cw _ _ _ _ _ (Aa (Ao FZ (@Kh _ _ _ _ (Aa Gb (Aa Gb Ae))) (pv 3) (λ_ _=>rfl)) (Aa (pv 4) Ae)))))
   B_)
  (@Cy _ _ _ _ _ (Xw (i:=5) rfl u rfl rfl (BW.of (Nc:=["_law_c","_law_a"]) (mp:=[none,some 4]) (by kernel_rfl)) (HN rfl B.range (Aa (pv 1) Ae)) (λ_ _ _ _=>(Bb (i:=0) (show (["_law_c","_law_a"]:W0).Nodup by decide +kernel) rfl (Or.inl rfl))) (λ_ _ _ _=>(Bf Hs (pv 0) (pv 1) (Ac _))) (λ_ _ _ _=>(pv 0)) rfl)
  (@Cy _ _ _ _ _ (@BX _ _ 6 _ _ _ _ u rfl (Or.inr rfl) (Ao FZ (pv 5) (Af Cv (Af Ih (pv 2) Ad) (CJ GP rfl B.len Fv (Aa (pv 5) Ae))) (λ_ _=>rfl)) rfl (.inl rfl))
  (@Ay _ _ _ _ _ (Bx (Bf J5 (pv 3) Ad (Ac _))
   (@Ak _ _ _ (BL (@Cw _ _ _ _ _ (Aa (Ao FZ (@Kh _ _ _ _ (Aa Gb (Aa Gb (Aa Gb Ae)))) (Af JH (pv 3) Ad) (λ_ _=>rfl)) (Aa (pv 4) (Aa (pv 6) Ae))))))
   B_)
  (@Cy _ _ _ _ _ (Xw (i:=5) rfl u rfl rfl (BW.of (Nc:=["_law_c","_law_b"]) (mp:=[none,some 6]) (by kernel_rfl)) (Ei (pv 5)) (λ_ _ _ _=>(Bb (i:=0) (show (["_law_c","_law_b"]:W0).Nodup by decide +kernel) rfl (Or.inl rfl))) (λ_ _ _ _=>(Bf Hs (pv 0) (pv 1) (Ac _))) (λ_ _ _ _=>(pv 0)) rfl)
  (@Ak _ _ _ (BL (@Cw _ _ _ _ _ (Aa Gb (Aa (pv 4) (Aa (pv 6) (Aa (Ao FZ (pv 5) (Af Cv (Af Ih (pv 2) Ad) (CJ GP rfl B.len Fv (Aa (pv 5) Ae))) (λ_ _=>rfl)) Ae))))))))))))))))),?_⟩
 try dsimp only[CG]
 refine⟨λσ H'=>H'=H/\∃n:Nat,σ=[some (.int o),some (.int c),some (.int n),none,none,none,none],?_,?_⟩
 ·refine⟨_,U,_,_,U,U,.inr ⟨by decide,by decide⟩,_,_,U,U,zm,U,?_⟩;have h0:=WL (o*48271) (V2 zm);refine⟨(o*48271%2147483647).toNat,?_⟩;rw[Int.toNat_of_nonneg h0];rfl
 rintro σ1 H1 ⟨rfl,n,rfl⟩;refine⟨λσ H'=>H'=H1/\∃t:Nat,t<7/\σ=[some (.int o),some (.int c),some (.int n),some (.int t),none,none,none],?_,?_⟩
 ·refine⟨_,U,_,_,U,U,qj,U,n%7,Eu _ (by decide),?_⟩;rfl
 rintro σ2 H2 ⟨rfl,t,t7,rfl⟩;refine⟨λσ H'=>H'=H2/\∃t:Nat,t<7/\(c=1->t<3)/\(c=2->t≠6)/\σ=[some (.int o),some (.int c),some (.int n),some (.int t),none,none,none],?_,?_⟩
 ·have mod:∃t':Nat,t'<7/\(c=1->t'<3)/\(c=2->t'≠6)/\[some (V.int o),some (V.int c),some (V.int n),some (V.int ((t:Int)%3)),none,none,none]=[some (V.int o),some (V.int c),some (V.int n),some (V.int t'),none,none,none]:=⟨t%3,by lia,by lia,by lia,U⟩;refine⟨_,U,U,_,U,Lj (λ_=>?_) (λW=>?_)⟩
  ·exact⟨_,U,_,_,U,U,ZG,U,mod⟩
  ·refine⟨_,U,U,_,U,Lj (λ_=>⟨_,U,U,_,U,Lj (λ_=>⟨_,U,_,_,U,U,ZG,U,mod⟩) (λh6=>⟨U,t,t7,λz=>absurd (by rw[z];rfl) W,λ_ z=>h6 (by rw[z];rfl),U⟩)⟩) (λa0=>⟨U,t,t7,λz=>absurd (by rw[z];rfl) W,λz=>absurd (by rw[z];rfl) a0,U⟩)⟩
 rintro σ3 H3 ⟨rfl,t,t7,t1,a6,rfl⟩;refine⟨λσ H'=>H'=H3/\∃a:Nat,a<c/\σ=[some (.int o),some (.int c),some (.int n),some (.int t),some (.int a),none,none],?_,?_⟩
 ·refine⟨_,U,_,_,U,U,⟨by decide,by decide⟩,_,U,_,_,U,U,cpos,U,n / 7%c,Eu _ (by lia),?_⟩;rfl
 rintro σ4 H4 ⟨rfl,a,x,rfl⟩;refine⟨_,U,U,_,U,Lj (λ_=>?_) (λn2=>?_)⟩
 ·refine⟨_,U,_,U,_,_,U,U,⟨by decide,by decide⟩,_,_,U,U,qj,_,_,U,U,t3,λr g=>?_⟩;refine A r _ "turn" [(a:Int),((1+n / 49%7:Nat):Int)] (A_ g _) ?_ (.inr ⟨.turn a (1+n / 49%7),⟨x,by lia,by lia⟩,U,U⟩);rw[Ar];rfl
 refine⟨_,U,_,_,U,U,_,U,BJ (λl2=>?_) (λl2=>?_)⟩
 ·refine⟨t2,λJ y=>?_⟩;have D:=A_ y (.lst [.str "flip",.str "mix"]);have tt:t=0\/t=1:=by lia
  rcases tt with rfl | rfl
  ·refine⟨_,U,J,_,_,.str "flip",U,U,Ag.of Ar,U,_,U,t2,λr g=>?_⟩;exact A r _ "flip" [(a:Int)] (D.trans (A_ g _)) Ar (.inr ⟨.flip a,x,U,U⟩)
  ·refine⟨_,U,J,_,_,.str "mix",U,U,Ag.of Ar,U,_,U,t2,λr g=>?_⟩;exact A r _ "mix" [(a:Int)] (D.trans (A_ g _)) Ar (.inl ⟨U,a,x,U⟩)
 have a4:3<=t:=by lia
 have c2:2<=c:=by lia
 refine⟨λσ H'=>Same H4 H'/\∃(l:W9) (R:U6),H' l=some (.lst (R.map V.int))/\Rest c [a] R/\σ=[some (.int o),some (.int c),some (.int n),some (.int t),some (.int a),some (.ref l),none],?_,?_⟩
 ·refine⟨_,U,_,U,by lia,by lia,λacc m=>?_⟩;rw[FN];refine Xu (n:=c) (fr:=[some (.int a)]) (λi ys H'=>Same H4 H'/\H' acc=some (.lst ys)/\∃R:List Int,ys=R.map V.int/\Rest i [a] R/\R.length<=i) (Hu (by lia)) ⟨A_ m _,Ar,[],U,⟨λe p=>(nomatch p),λj hj=>absurd hj (IV _),by decide⟩,Bd _⟩ ?_ (λhm z=>?_) ?_
  ·rintro i ys H5 N hi hl ⟨s,a5,R,rfl,RR,lR⟩ M;have z0:(0:Int)+(i:Int)=(i:Int):=H_ _;refine⟨_,U,_,U,U,_,U,M _ _ (λhb=>?_) (λhb=>?_)⟩
   ·have ne:i≠a:=λz=>by
     subst z;rw[z0,Dr rfl]at hb;cases hb
    refine⟨_,U,a5,Dj s m,Ar,R++[(i:Int)],by rw[Ca,z0];rfl,⟨λe p=>?_,λj hj hn=>?_,by rw[DP];simp;lia⟩,by rw[DP];simp;lia⟩
    ·rcases DR.mp p with h | h
     ·obtain⟨j,e1,e2,e3⟩:=RR.only e h;exact⟨j,e1,by lia,e3⟩
     ·exact⟨i,DK.mp h,by lia,by simp;exact ne⟩
    ·by_cases e:j=i
     ·rw[e];exact FQ _ (DK.mpr rfl)
     ·exact JG _ (RR.all j (by lia) hn)
   ·have eq:i=a:=by
     rw[z0]at hb;have:((i:Int))=(a:Int):=by
      have h2:decide (V.int (i:Int)=V.int (a:Int))=true:=by simpa using hb
      exact V.int.inj (JR h2)
     lia
    exact⟨s,a5,R,U,⟨λe p=>by obtain⟨j,e1,e2,e3⟩:=RR.only e p;exact⟨j,e1,by lia,e3⟩,λj hj hn=>RR.all j (by have:j≠i:=(λz=>hn (by simp;lia));lia) hn,RR.len⟩,by lia⟩
  ·obtain⟨v,e,z⟩:=z;exact⟨v,e,hm _ _ z⟩
  ·rintro ys H5 ⟨s,a5,R,rfl,RR,lR⟩;exact⟨s,acc,R,a5,RR,U⟩
 rintro σ5 H5 ⟨s,l,R,hl,RR,rfl⟩;have a3:=RR.pos1 c2;have Z:Ag K H5 l (R.map V.int):=Ag.of hl;have q:(R.map V.int).length=R.length:=Az _;refine⟨λσ H'=>H'=H5/\∃b:Nat,b<c/\b≠a/\σ=[some (.int o),some (.int c),some (.int n),some (.int t),some (.int a),some (.ref l),some (.int b)],?_,?_⟩
 ·obtain⟨e,p,ae⟩:=pick (L:=R) (i:=((n:Int) / 49)%((R.map V.int).length:Int)) (WL _ (by rw[q];lia)) (by rw[q];exact Yx _ (by lia));obtain⟨b,rfl,C,I⟩:=RR.only e p;refine⟨_,U,_,U,_,_,U,U,⟨by decide,by decide⟩,_,U,l,_,U,.inl Z,_,_,U,U,(by rw[q];lia),l,_,_,_,U,U,Z,ae,U,b,C,by simpa using I,U⟩
 rintro σ6 H6 ⟨rfl,b,C,I,rfl⟩;refine⟨_,U,_,_,U,U,_,U,BJ (λl6=>?_) (λl6=>?_)⟩
 ·refine⟨t3,λJ y=>?_⟩;have D:=A_ y (.lst [.str "if",.str "pair",.str "swap"]);have tt:t=3\/t=4\/t=5:=by lia
  rcases tt with rfl | rfl | rfl
  ·refine⟨_,U,_,_,U,U,J,_,_,.str "if",U,U,Ag.of Ar,U,_,U,_,U,t3,λr g=>?_⟩;exact A r _ "if" [(a:Int),(b:Int)] ((s.trans D).trans (A_ g _)) Ar (.inr ⟨.iff a b,⟨x,C,Ne.symm I⟩,U,U⟩)
  ·refine⟨_,U,_,_,U,U,J,_,_,.str "pair",U,U,Ag.of Ar,U,_,U,_,U,t3,λr g=>?_⟩;exact A r _ "pair" [(a:Int),(b:Int)] ((s.trans D).trans (A_ g _)) Ar (.inr ⟨.pair a b,⟨x,C,Ne.symm I⟩,U,U⟩)
  ·refine⟨_,U,_,_,U,U,J,_,_,.str "swap",U,U,Ag.of Ar,U,_,U,_,U,t3,λr g=>?_⟩;exact A r _ "swap" [(a:Int),(b:Int)] ((s.trans D).trans (A_ g _)) Ar (.inr ⟨.swap a b,⟨x,C,Ne.symm I⟩,U,U⟩)
 have c3:3<=c:=by lia
 refine⟨λσ H'=>Same H6 H'/\∃(l:W9) (R:U6),H' l=some (.lst (R.map V.int))/\Rest c [a,b] R/\σ=[some (.int o),some (.int c),some (.int n),some (.int t),some (.int a),some (.ref l),some (.int b)],?_,?_⟩
 ·refine⟨_,U,l,U,⟨_,Z⟩,λacc m=>?_⟩;have lr:=RR.len;refine oE (K:=K) (l:=l) (ns:=R) (fr:=[some (.int b)]) (λe=>!decide (V.int e=V.int b)) id (Hu (by lia)) m Z (λe H7 N p O M=>⟨_,U,_,U,U,_,U,M⟩) (λe H7 N p hp O M=>⟨_,U,M⟩) (λH7 O a7=>?_);exact⟨O,acc,_,a7,RR.filter λ_=>rfl,U⟩
 rintro σ7 H7 ⟨O,l2,R2,a1,Y,rfl⟩;have a2:=Y.pos2 c3;have T:Ag K H7 l2 (R2.map V.int):=Ag.of a1;have f:(R2.map V.int).length=R2.length:=Az _;obtain⟨e,p,ae⟩:=pick (L:=R2) (i:=((n:Int) / 343)%((R2.map V.int).length:Int)) (WL _ (by rw[f];lia)) (by rw[f];exact Yx _ (by lia));obtain⟨d,rfl,dc,dn⟩:=Y.only e p;have S:d≠a/\d≠b:=by simpa using dn
 refine⟨_,U,_,U,_,U,_,U,_,_,U,U,⟨by decide,by decide⟩,_,U,l2,_,U,.inl T,_,_,U,U,(by rw[f];lia),l2,_,_,_,U,U,T,ae,t4,λr g=>?_⟩;exact A r _ "cross" [(a:Int),(b:Int),(d:Int)] ((s.trans O).trans (A_ g _)) Ar (.inr ⟨.cross a b d,⟨x,C,dc,Ne.symm I,Ne.symm S.1,Ne.symm S.2⟩,U,U⟩)
def Ik:Sp:=λvs H Q _=>∃x c:Nat,vs=[.int x,.int c]/\c<=6/\x<2^c/\Q (.bl true) H
noncomputable def st (x w:Nat):A5:=if w=x then ((1,0,0,0),0) else ((0,0,0,0),0)
theorem W5e(x w:Nat):Jq 100 40 (st x w):=by
 unfold st;split
 ·exact⟨⟨s_1,s_0,s_0,s_0⟩,⟨Vy 0,.inl rfl⟩,Qo⟩
 ·exact⟨⟨s_0,s_0,s_0,s_0⟩,⟨Vy 0,.inl rfl⟩,Qo⟩
def uQ (K:U0):Sp:=λvs H Q _=>∃c x:Nat,vs=[.int c,.int x]/\1<=c/\c<=6/\x<2^c/\∀(r:W9) (H':Hp) (qs:U3),H r=none->Same H H'->Jh K H' r qs (st x) c 100 40->Q (.ref r) H'
def tY:Sp:=λvs H Q _=>∃c x:Nat,vs=[.int c,.int x]/\1<=c/\c<=6/\x<2^c/\Q .non H
theorem X3a{tM:Tok}(gM:mg "MOST_CELLS"=some (.int 6 tM))(F:Ab K "check_beginning" (top 35) .none)(X:K.In h)(G:Ng h mg)(c8:Aj P w K mg base k "is_whole" ["thing"] Pr)(cP:Aj P w K mg base k "is_word" ["thing","cells"] Ik):Aj P w K mg base (k+1) "check_beginning" ["cells","word"] tY:=by
 refine F.cal X G ["cells","word"] λf H vs Q E a h=>?_;obtain⟨c,x,rfl,e,c6,d,b⟩:=h
 refine⟨_,(@Ay _ _ _ _ _ (Bx (PW.pt (Es (Eh (DW (BP c8 a rfl (Aa (pv 0) Ae)))) (Es (Bf J5 (pv 0) Ad (Ac _)) (Hg (Bf Lq (pv 0) (Pq (v:=.int 6) rfl gM ⟨tM,U⟩) (Ac _))))))
   (@Ak _ _ _ Sd)
   B_)
  (@Ak _ _ _ (Bx (Eh (DW (BP cP a rfl (Aa (pv 1) (Aa (pv 0) Ae)))))
   (@Ak _ _ _ Sd)
   B_))),?_⟩
 try dsimp only[CG]
 refine⟨_,U,_,U,_,U,CQ ⟨_,U,_,_,U,U,_,U,BJ (λz=>absurd z (by lia)) (λ_=>⟨_,U,_,_,U,U,_,U,BJ (λz=>absurd z (by lia)) (λ_=>?_)⟩)⟩⟩;exact⟨_,U,_,U,x,c,U,c6,d,_,U,CQ b⟩
theorem Y3n{D:W9}{oc:W2}{od:W5}{n:Nat}{sl:W4}{t0:Tok}(l:K.lookup D=some ⟨oc,od,.seq #[.int 0 t0] n,sl⟩):Nk K "start" (top 34) (.ref D) ["cells","word"]:=by
 intro kV c pm f e ct s us X d;match us,d with
 | [a,b],_=>exact BindsTo.of_defaults rfl (X _ _ l) rfl rfl rfl
theorem X2n{dV:W2}(F:Ab K "start" (top 34) dV)(bi:Nk K "start" (top 34) dV ["cells","word"])(X:K.In h)(G:Ng h mg)(B:Bs mg){aO aZ:W9}(gO:mg "ONE"=some (.ref aO))(gZ:mg "NOUGHT"=some (.ref aZ))(kO:∀H,Dp K H aO ((1,0,0,0),0))(kZ:∀H,Dp K H aZ ((0,0,0,0),0))
  (cX:Aj P w K mg base k "check_beginning" ["cells","word"] tY):Aj P w K mg base (k+1) "start" ["cells","word"] (uQ K):=by
 refine F.cal X G ["cells","word"] (bi:=bi) λI H vs Q E m h=>?_;obtain⟨c,x,rfl,o,c6,y,u⟩:=h;have D:=GZ c6;have l:(1:Int)*2^((c:Int).toNat)=((2^c:Nat):Int):=ipow c;have C:(1*2^((c:Int).toNat):Int).toNat=2^c:=by rw[l,FN]
 refine⟨_,(@Ay _ _ _ _ _ (Ni (BP cX m rfl (Aa (pv 0) (Aa (pv 1) Ae))))
  (@Ak _ _ _ (BL (Gp rfl (BW.of (Nc:=["place","word"]) (mp:=[none,some 1]) (by kernel_rfl)) (HN rfl B.range (Aa (Af Gf Ad (pv 0)) Ae)) (λ_ _ _ _=>(Bb (i:=0) (show (["place","word"]:W0).Nodup by decide +kernel) rfl (Or.inl rfl))) (λ_ _ _ _=>(Px (Bf Df (pv 0) (pv 1) (Ac _)) (Pq (v:=.ref aO) rfl gO rfl) (Pq (v:=.ref aZ) rfl gZ rfl))))))),?_⟩
 try dsimp only[CG]
 refine⟨_,U,_,U,c,x,U,o,c6,y,?_⟩;refine⟨_,U,_,_,U,U,⟨1,GQ,by lia,by lia⟩,_,U,by rw[l];lia,by rw[l];lia,λacc a=>?_⟩;rw[C];refine SN (n:=2^c) (fr:=[some (.int x)]) (λi ys H'=>∃qs:List Addr,Same H H'/\H' acc=some (.lst ys)/\ys=qs.map V.ref/\qs.length=i/\Cp K H' qs (st x)) (Hu D)
  ⟨[],A_ a _,Ar,U,U,(λ_ _ z=>by cases z)⟩ ?_ ?_
 ·rintro i ys H2 N hi A ⟨qs,g,f,rfl,d,v2⟩ t;have b:∀(r:W9),Dp K H2 r (st x i)->N (.ref r) H2:=λr m=>by
   refine t (.ref r) H2 f ⟨qs++[r],Dj g a,Ar,by rw[Ca];rfl,by simp[d],?_⟩;have:=Xr (ys:=qs.map V.ref++[.ref r]) (xs:=qs.map V.ref) (Xx v2 (Same.refl _) m) f;intro j p s;have q:=this j p s;have e:(if j=qs.length then st x i else st x j)=st x j:=by
    by_cases e:j=qs.length
    ·rw[if_pos e,e,d]
    ·rw[if_neg e]
   rw[<-e];exact q
  refine⟨_,U,_,U,U,_,U,Lj (λe=>b aO ?_) (λe=>b aZ ?_)⟩
  ·have:st x i=((1,0,0,0),0):=by unfold st;rw[if_pos (by lia)]
   rw[this];exact kO _
  ·have:st x i=((0,0,0,0),0):=by unfold st;rw[if_neg (by lia)]
   rw[this];exact kZ _
 ·rintro ys H2 A ⟨qs,g,f,rfl,d,v2⟩;exact u acc H2 qs a g ⟨f,d,v2,λi _=>W5e x i⟩
end
end Ax
namespace Ax.V
open L2 Am Pc Ba
section
variable {P:U8}{w:W1}{K:U0}{mg:U4}{base:Heap}{k:Nat}{h:Heap}
end
end Ax.V
namespace Ax
open L2 Am Pc Ba
section
variable {P:U8}{w:W1}{K:U0}{mg:U4}{base:Heap}{k:Nat}{h:Heap}
theorem X8b(F:Ab K "_law_bits" (top 87) .none)(X:K.In h)(G:Ng h mg):Aj P w K mg base (k+1) "_law_bits" ["_law_number"] CZ:=by
 refine F.cal X G ["_law_number","_law_many"] λb H vs Q E g h=>?_;obtain⟨n,rfl,q⟩:=h
 refine⟨_,(@Ay _ _ _ _ _ (@BX _ _ 1 _ _ _ _ b rfl (Or.inl rfl) Ad rfl (.inl rfl))
  (@Ay _ _ _ _ _ (Ze PassesOwn.never (Bf Lq (pv 0) Ad (Ac _))
   (@Ay _ _ _ _ _ (@BX _ _ 1 _ _ _ _ b rfl (Or.inl rfl) (Af Ds (pv 1) (Af Cv (pv 0) Ad)) rfl (.inl rfl))
   (@Ak _ _ _ (@BX _ _ 0 _ _ _ _ b rfl (Or.inl rfl) (Af Ih (pv 0) Ad) rfl (.inl rfl)))))
  (@Ak _ _ _ (BL (pv 1))))),?_⟩
 try dsimp only[CG]
 refine⟨λm σ H'=>H'=H/\∃j:Nat,j+pc m=pc n/\σ=[some (.int m),some (.int j)],⟨n,U,0,Ox _,U⟩,?_⟩;rintro m σ H' ⟨rfl,j,c,rfl⟩;refine⟨_,U,_,_,U,U,_,U,BJ (λa=>?_) (λa=>?_)⟩
 ·have hm:0<m:=by lia
  have e:=Qu m;refine⟨_,λf H' x=>x,?_⟩;refine⟨_,U,_,U,_,_,U,U,qm,_,_,U,U,?_⟩;refine⟨_,U,_,_,U,U,⟨by decide,by decide⟩,⟨m / 2,by lia,U,j+m%2,by lia,U⟩⟩
 ·have d:m=0:=by lia
  subst d;rw[Gx,Mr]at c;subst c;exact⟨_,U,q⟩
theorem X2x(F:Ab K "_law_cells_by" (top 83) .none)(X:K.In h)(G:Ng h mg):Aj P w K mg base (k+1) "_law_cells_by" ["_law_cell"] uD:=by
 refine F.cal X G ["_law_cell"] λb H vs Q E a h=>?_;obtain⟨c,rfl,q⟩:=h
 refine⟨_,(@Ay _ _ _ _ _ (Bx (Bf Df (Af Cv (Af Ih (pv 0) Ad) Ad) Ad (Ac _))
   (@Ak _ _ _ (BL (Af Ds Ad (Af Cv (Af Ih (pv 0) Ad) Ad))))
   B_)
  (@Ak _ _ _ (BL (Af Ds Ad (Af Cv (pv 0) Ad))))),?_⟩
 try dsimp only[CG]
 refine⟨_,U,_,_,U,U,⟨by decide,by decide⟩,_,_,U,U,qe,U,_,U,Lj (λ_=>?_) (λ_=>?_)⟩
 ·refine⟨_,U,_,_,U,U,⟨by decide,by decide⟩,_,_,U,U,ZG,_,_,U,U,?_⟩;have:=q (4+c / 24%3).toNat (by lia) (by lia);rw[show (((4+c / 24%3).toNat:Nat):Int)=4+c / 24%3 by lia]at this;exact this
 ·refine⟨_,U,_,_,U,U,ZG,_,_,U,U,?_⟩;have:=q (1+c%3).toNat (by lia) (by lia);rw[show (((1+c%3).toNat:Nat):Int)=1+c%3 by lia]at this;exact this
end
end Ax
namespace JL
open Pc
abbrev D_:=Nat×Nat
noncomputable def add (e f:D_):D_:=(e.1^^^f.1,e.2^^^f.2)
def sat (x:Nat)(e:D_):Prop:=pc (e.1&&&x)%2=e.2
noncomputable def bl (m:Nat):Nat:=if m=0 then 0 else m.log2+1
variable{m n:Nat}
theorem G9:bl m<=n↔m<2^n:=by
 unfold bl;by_cases h:m=0
 ·subst h;simp[Cq]
 ·rw[if_neg h,<-RG h];lia
theorem Gv:bl m=0↔m=0:=by
 unfold bl;by_cases h:m=0<;>simp[h]
theorem aQ(m:Nat):m<2^bl m:=G9.mp (Bd _)
theorem aM{k:Nat}(h:bl m=k+1):2^k<=m:=by
 rcases j6 m (2^k) with c | c
 ·have:=G9.mpr c;lia
 ·exact c
theorem uW:∀(k m o:Nat),2^k<=m->m<2^(k+1)->2^k<=o->o<2^(k+1)->(m^^^o)<2^k
 | 0,m,o,a,b,c,d=>by
  obtain rfl:m=1:=by simp at a b;lia
  obtain rfl:o=1:=by simp at c d;lia
  decide
 | k+1,m,o,a,b,c,d=>by
  have f:2^(k+1+1)=2*2^(k+1):=KQ;have e2:2^(k+1)=2*2^k:=KQ;have:=uW k (m / 2) (o / 2) (by lia) (by lia) (by lia) (by lia);have e:=Pn m o;lia
theorem X1r{o:Nat}(h:bl m=bl o)(h0:m≠0):(m^^^o)<m:=by
 cases e:bl m with
 | zero=>exact absurd (Gv.mp e) h0
 | succ k =>
  have a:=aQ m;have b:=aQ o;rw[<-h,e]at b;rw[e]at a;exact Cu (uW k m o (aM e) a (aM (h ▸ e)) b) (aM e)
variable{x:Nat}{e:D_}
theorem X6w{f:D_}(he:sat x e)(hf:sat x f)(_:e.2<2)(_:f.2<2):sat x (add e f):=by
 unfold sat add at *;dsimp only;rw[Wd,K1];have:=Pn e.2 f.2;have z:e.2 / 2=0:=by lia
 have a:f.2 / 2=0:=by lia
 rw[z,a]at this;have q:(0^^^0:Nat)=0:=rfl;lia
theorem W0d(e f:D_):add (add e f) f=e:=by
 unfold add;simp[Fq]
theorem JW{a b:Nat}(h1:a<2)(h2:b<2):(a^^^b)<2:=FP (n:=1) h1 h2
noncomputable def comb:List D_->Nat->D_
 | [],_=>(0,0)
 | e::r,c=>if c%2=1 then add e (comb r (c / 2)) else comb r (c / 2)
theorem vq(e f:D_):add e f=add f e:=by unfold add;rw[JN e.1,JN e.2]
theorem Us(e f g:D_):add (add e f) g=add e (add f g):=by unfold add;simp[Fq]
theorem uf:∀(es:List D_) (c d:Nat),comb es (c^^^d)=add (comb es c) (comb es d)
 | [],_,_=>by simp[comb,add]
 | e::r,c,d=>by
  have x:=Pn c d;have h1:(c^^^d) / 2=c / 2^^^d / 2:=by lia
  have h2:(c^^^d)%2=(c%2+d%2)%2:=by lia
  have f:=uf r (c / 2) (d / 2);unfold comb;rw[h1,h2,f];rcases Ka c with a | a<;>rcases Ka d with b | b<;>rw[a,b]
  ·rfl
  ·simp only[show (0+1)%2=1 from rfl,JC,show ¬ (0=1) by decide,HY];rw[<-Us,<-Us,vq e]
  ·simp only[show (1+0)%2=1 from rfl,JC,show ¬ (0=1) by decide,HY];rw[Us]
  ·simp only[show ¬ ((1+1)%2=1) by decide,JC,HY];rw[vq e (comb r (c / 2)),Us,<-Us e e,show add e e=(0,0) by unfold add;simp,show add (0,0) (comb r (d / 2))=comb r (d / 2) by unfold add;simp]
theorem wH:∀es:List D_,comb es 0=(0,0)
 | []=>rfl
 | e::r=>by unfold comb;simp[wH r]
theorem ud:∀(es:List D_) (i:Nat) (e:D_),es[i]?=some e->comb es (2^i)=e
 | [],i,e,h=>by simp at h
 | f::r,0,e,h=>by
  have:f=e:=by simpa using h
  subst this;unfold comb;simp[wH,add]
 | f::r,i+1,e,h=>by
  have q:r[i]?=some e:=by simpa using h
  have a:2^(i+1) / 2=2^i:=by rw[KQ];lia
  have e2:2^(i+1)%2=0:=by rw[KQ];lia
  unfold comb;rw[a,e2];simpa using ud r i e q
theorem Xj:∀(es:List D_) (c:Nat),(∀e∈es,e.2<2)->(comb es c).2<2
 | [],_,_=>by unfold comb;decide
 | e::r,c,h=>by
  have a:=Xj r (c / 2) λf b=>h f (KZ _ b);unfold comb;split
  ·exact JW (h e Mz) a
  ·exact a
theorem W0a{k:Nat}(h1:2^k<=m)(h2:m<2^(k+1)):m&&&2^k=2^k:=by
 have e:m / 2^k=1:=by
  rw[KQ]at h2;have p:=Cq k;rw[Nat.div_eq_iff p];lia
 refine M5 λj=>?_;rw[OJ,M4];by_cases q:k=j
 ·subst q;rw[UG,e];simp
 ·simp[q]
theorem wA{k:Nat}(h:m<2^k):m&&&2^k=0:=by
 refine M5 λj=>?_;rw[OJ,M4,Oc];by_cases q:k=j
 ·subst q;rw[qM h];rfl
 ·simp[q]
theorem mY:∀k:Nat,pc (2^k)=1
 | 0=>by rw[Qu];show 1%2+pc (1 / 2)=1;rw[show (1 / 2:Nat)=0 from rfl,Gx]
 | k+1=>by
  have a:2^(k+1) / 2=2^k:=by rw[KQ];lia
  have e2:2^(k+1)%2=0:=by rw[KQ];lia
  rw[Qu,a,e2,mY k]
theorem Z4{k:Nat}(h:x<2^k):(x ||| 2^k)=x^^^2^k:=by
 rw[X3 (x+2^k+1) x (2^k) (by lia) (by lia),wA h,Mr]
theorem nM{k:Nat}(h:x<2^k):(x^^^2^k)=x+2^k:=by
 have:=Nat.two_pow_add_eq_or_of_lt h 1;rw[Nat.mul_one]at this;rw[<-Z4 h,Nat.or_comm,<-this,j5]
theorem X6v{k:Nat}(hx:x<2^k)(hk:bl e.1=k+1)(hb:e.2<2)(n:¬ sat x e):sat (x ||| 2^k) e:=by
 have a:=aQ e.1;rw[hk]at a;unfold sat at *;rw[Z4 hx,Qh,K1,W0a (aM hk) a,mY];lia
theorem X2a{k:Nat}(hx:x<2^k)(hk:bl e.1<=k)(h:sat x e):sat (x ||| 2^k) e:=by
 unfold sat at *;rw[Z4 hx,Qh,K1,wA (G9.mp hk),Gx,Mr];exact h
theorem W5m{k:Nat}(hx:x<2^k):(x ||| 2^k)<2^(k+1):=by
 rw[Z4 hx,nM hx,KQ];lia
noncomputable def places (c n:Nat):List Nat:=(List.range n).filter λj=>decide (c / 2^j%2=1)
theorem Qy{c p:Nat}(h:p∈places c n):p<n:=Ew.mp (WM.mp h).1
theorem Xz(c n:Nat):places c (n+1)=places c n++(if c / 2^n%2=1 then [n] else []):=by
 unfold places;rw[WQ,WY];by_cases h:c / 2^n%2=1<;>simp[h]
abbrev Ent:=Nat×Nat×Nat
noncomputable def DQ (t:Ent):D_:=(t.1,t.2.1)
structure Good (es:List D_) (i:Nat) (ts:List Ent):Prop where
 nz:∀t∈ts,t.1≠0
 com:∀t∈ts,comb es t.2.2=DQ t
 lt:∀t∈ts,t.2.2<2^i
 nd:(ts.map λt=>bl t.1).Nodup
 len:ts.length<=i
 all:∀x,(∀t∈ts,sat x (DQ t))->∀j e,j<i->es[j]?=some e->sat x e
theorem Good.start(es:List D_):Good es 0 []:=⟨by simp,by simp,by simp,by simp,by simp,λ_ _ j e h=>by lia⟩
structure Left (es:List D_) (i:Nat) (ts:List Ent) (e:D_) (t:Ent):Prop where
 com:comb es t.2.2=DQ t
 lt:t.2.2<2^(i+1)
 sat:∀x,(∀t∈ts,sat x (DQ t))->sat x (DQ t)->sat x e
variable{es:List D_}{i:Nat}{ts:List Ent}
theorem Left.start(h:es[i]?=some e):Left es i ts e (e.1,e.2,2^i):=
 ⟨ud es i e h,Jl (by decide) (KR _),λ_ _ z=>z⟩
theorem um(s t:Ent):DQ (s.1^^^t.1,s.2.1^^^t.2.1,s.2.2^^^t.2.2)=add (DQ s) (DQ t):=rfl
theorem Left.step{s t:Ent}(hb:∀e∈es,e.2<2)(G:Good es i ts)(L:Left es i ts e s)(ht:t∈ts):Left es i ts e (s.1^^^t.1,s.2.1^^^t.2.1,s.2.2^^^t.2.2):=by
 refine⟨?_,?_,λx b z=>L.sat x b ?_⟩
 ·rw[um];show comb es (s.2.2^^^t.2.2)=_;rw[uf,L.com,G.com t ht]
 ·exact FP L.lt (Ov (G.lt t ht) (Jl (by decide) (KR _)))
 ·rw[um]at z;have c:(DQ s).2<2:=by rw[<-L.com];exact Xj es _ hb
  have a:(DQ t).2<2:=by rw[<-G.com t ht];exact Xj es _ hb
  have q:=X6w z (b t ht) (JW c a) a;rw[W0d]at q;exact q
theorem Left.bit{t:Ent}(hb:∀e∈es,e.2<2)(L:Left es i ts e t):t.2.1<2:=by
 have:(DQ t).2<2:=by rw[<-L.com];exact Xj es _ hb
 exact this
theorem rP(i:Nat):2^i<2^(i+1):=Jl (by decide) (KR _)
theorem Good.put{t:Ent}(G:Good es i ts)(he:es[i]?=some e)(L:Left es i ts e t)(h0:t.1≠0)(hn:∀s∈ts,bl s.1≠bl t.1):Good es (i+1) (ts++[t]) where
 nz:=λs c=>by
  rcases DR.mp c with q | q
  ·exact G.nz s q
  ·rw[DK.mp q];exact h0
 com:=λs c=>by
  rcases DR.mp c with q | q
  ·exact G.com s q
  ·rw[DK.mp q];exact L.com
 lt:=λs c=>by
  rcases DR.mp c with q | q
  ·exact Ov (G.lt s q) (rP i)
  ·rw[DK.mp q];exact L.lt
 nd:=by
  rw[Ca,List.nodup_append];refine⟨G.nd,by simp,λa h b hb=>?_⟩;obtain⟨s,c,rfl⟩:=El.mp h;obtain rfl:b=bl t.1:=by simpa using hb
  exact hn s c
 len:=by rw[DP];have:=G.len;simp;lia
 all:=λx g j f k d=>by
  have h1:∀s∈ts,sat x (DQ s):=λs c=>g s (JG _ c);by_cases hji:j<i
  ·exact G.all x h1 j f hji d
  ·obtain rfl:j=i:=by lia
   rw[he]at d;cases d;exact L.sat x h1 (g t (by simp))
theorem Good.skip{t:Ent}(G:Good es i ts)(he:es[i]?=some e)(L:Left es i ts e t)(h0:t.1=0)(hb:t.2.1=0):Good es (i+1) ts where
 nz:=G.nz
 com:=G.com
 lt:=λs c=>Ov (G.lt s c) (rP i)
 nd:=G.nd
 len:=fL G.len
 all:=λx b j f d a=>by
  by_cases hji:j<i
  ·exact G.all x b j f hji a
  ·obtain rfl:j=i:=by lia
   rw[he]at a;cases a;refine L.sat x b ?_;unfold sat DQ;rw[h0,hb,RK,Gx]
theorem wI{f:Ent->Nat}:∀{ts:List Ent},(ts.map f).Nodup->∀{s t},s∈ts->t∈ts->f s=f t->s=t
 | [],_,s,t,hs,_,_=>by cases hs
 | a::r,nd,s,t,hs,ht,e=>by
  rw[FJ,Qa]at nd;rcases Dg.mp hs with h1 | h1<;>rcases Dg.mp ht with h2 | h2
  ·rw[h1,h2]
  ·exact absurd (El.mpr ⟨t,h2,by rw[<-e,h1]⟩) nd.1
  ·exact absurd (El.mpr ⟨s,h1,by rw[e,h2]⟩) nd.1
  ·exact wI nd.2 h1 h2 e
variable{ks:U6}
theorem X9i(nd:(ts.map λt=>bl t.1).Nodup)(p:ks.Perm (ts.map λt=>(bl t.1:Int)))(o:ks.Pairwise (·<=·)):ks.Pairwise (·<·):=by
 have c:(ts.map λt=>(bl t.1:Int)).Nodup:=by
  rw[List.Nodup,WX]at nd ⊢;exact nd.imp λh z=>h (Int.ofNat.inj z)
 have d:ks.Nodup:=p.nodup_iff.mpr c;exact(o.and d).imp λ⟨a,b⟩=>by lia
structure Oo (ts:List Ent) (ks:U6) (j x:Nat):Prop where
 done:∀t∈ts,∀i,i<j->ks[i]?=some (bl t.1:Int)->sat x (DQ t)
 low:∀h,ks[j]?=some h->x<2^(h.toNat-1)
theorem Oo.start(ts:List Ent)(ks:U6):Oo ts ks 0 0:=⟨λ_ _ i h=>by lia,λh _=>Cq _⟩
theorem rise(o:ks.Pairwise (·<·)){j:Nat}{a b:Int}(h:i<j)(ha:ks[i]?=some a)(hb:ks[j]?=some b):a<b:=by
 obtain⟨h1,rfl⟩:=Fe.mp ha;obtain⟨h2,rfl⟩:=Fe.mp hb;exact ZD.mp o i j h1 h2 h
theorem Oo.step{j:Nat}{t:Ent}(S:Oo ts ks j x)(nd:(ts.map λt=>bl t.1).Nodup)(o:ks.Pairwise (·<·))(ht:t∈ts)(nz:t.1≠0)(hb:t.2.1<2)(hj:ks[j]?=some (bl t.1:Int)):
  (sat x (DQ t)->Oo ts ks (j+1) x)/\(¬ sat x (DQ t)->Oo ts ks (j+1) (x ||| 2^(bl t.1-1))):=by
 have d:bl t.1≠0:=λz=>nz (Gv.mp z);obtain⟨k,c⟩:∃k,bl t.1=k+1:=⟨bl t.1-1,by lia⟩;have b:=S.low _ hj;rw[FN,c,fU]at b;have same:∀s∈ts,ks[j]?=some (bl s.1:Int)->s=t:=λs a e=>wI nd a ht (by rw[e]at hj;exact Int.ofNat.inj (Option.some.inj hj));have next:∀h,ks[j+1]?=some h->k+1<=h.toNat-1:=λh e=>by
  have:=rise o (KR j) hj e;lia
 rw[c,fU];constructor
 ·intro z;refine⟨λs a i hi e=>?_,λh e=>?_⟩
  ·by_cases q:i<j
   ·exact S.done s a i q e
   ·obtain rfl:i=j:=by lia
    rw[same s a e];exact z
  ·exact Cu b (Fw (by decide) (E_ (Nat.le_succ k) (next h e)))
 ·intro z;refine⟨λs a i hi e=>?_,λh e=>?_⟩
  ·by_cases q:i<j
   ·have:=rise o q e hj;exact X2a b (by show bl s.1<=k;lia) (S.done s a i q e)
   ·obtain rfl:i=j:=by lia
    rw[same s a e];exact X6v b c hb z
  ·exact Cu (W5m b) (Fw (by decide) (next h e))
theorem Oo.all(S:Oo ts ks ks.length x)(p:ks.Perm (ts.map λt=>(bl t.1:Int))):∀t∈ts,sat x (DQ t):=λt a=>by
 have m:(bl t.1:Int)∈ks:=p.mem_iff.mpr (El.mpr ⟨t,a,U⟩);obtain⟨i,hi,e⟩:=O8.mp m;exact S.done t a i hi (by rw[Cm hi,e])
end JL
namespace Ah
open L2 Pc JL
noncomputable def top (i:Nat):Stmt:=PySem.Challenge.pw_spinboard_k61_whole_the_board_of_a_table.main.body.getD i (.Pass ⟨0,0,0,0⟩)
structure Bs (mg:U4):Prop where
 isinstance:mg "isinstance"=none
 int:mg "int"=none
 bool:mg "bool"=none
 tuple:mg "tuple"=none
 list:mg "list"=none
 len:mg "len"=none
 range:mg "range"=none
 enumerate:mg "enumerate"=none
 sorted:mg "sorted"=none
 sum:mg "sum"=none
 str:mg "str"=none
 all:mg "all"=none
 any:mg "any"=none
 min:mg "min"=none
 max:mg "max"=none
theorem Z_(m:Nat):Builtin.Int.intBits (m:Int)=bl m:=by
 unfold Builtin.Int.intBits bl;by_cases h:m=0
 ·subst h;rfl
 ·have hb:((m:Int) == 0)=false:=by simpa using h
  rw[hb,if_neg h];simp
noncomputable abbrev T3 (t:Ent):HO:=.tup [.int t.1,.int t.2.1,.int t.2.2]
def Kept (H:Hp):List (Key×V)->List Ent->Prop:=Paired λkv t=>kv.1=Sum.inl (bl t.1:Int)/\∃p,kv.2=.ref p/\H p=some (T3 t)
variable{H H':Hp}{kvs:List (Key×V)}{ts:List Ent}
theorem Kept.same(h:Kept H kvs ts)(s:Same H H'):Kept H' kvs ts :=
 Paired.imp' (λ_ _ ⟨a,p,b,c⟩=>⟨a,p,b,s _ _ c⟩) h
theorem Kept.get{H:Hp}{k:Int}{v:V}:∀{kvs:List (Key×V)}{ts:List Ent},Kept H kvs ts->Bq kvs (Sum.inl k)=some v->∃t∈ts,∃p,(bl t.1:Int)=k/\v=.ref p/\H p=some (T3 t)
 | [],[],_,h=>by simp[X1s]at h
 | kv::kvs,t::ts,.cons ⟨a,p,b,c⟩ r,h=>by
  by_cases e:kv.1=Sum.inl k
  ·rw[J8 e]at h;cases h;rw[a]at e;exact⟨t,Mz,p,Sum.inl.inj e,b,c⟩
  ·rw[Ku e]at h;obtain⟨t',m,q⟩:=Kept.get r h;exact⟨t',KZ _ m,q⟩
theorem Kept.none{H:Hp}{k:Int}:∀{kvs:List (Key×V)}{ts:List Ent},Kept H kvs ts->Bq kvs (Sum.inl k)=none->∀t∈ts,(bl t.1:Int)≠k
 | [],[],_,_,t,ht=>by cases ht
 | kv::kvs,t::ts,.cons ⟨a,p,b,c⟩ r,h,t',ht=>by
  by_cases e:kv.1=Sum.inl k
  ·rw[J8 e]at h;cases h
  ·rw[Ku e]at h;rcases Dg.mp ht with rfl | ht
   ·intro z;rw[a,z]at e;exact e rfl
   ·exact Kept.none r h t' ht
theorem Kept.snoc{p:W9}{t:Ent}(h:Kept H kvs ts)(hp:H p=some (T3 t)):Kept H (kvs++[(Sum.inl (bl t.1:Int),.ref p)]) (ts++[t]):=
 Paired.snoc h ⟨U,p,U,hp⟩
theorem Kept.keys{H:Hp}:∀{kvs:List (Key×V)}{ts:List Ent},Kept H kvs ts->kvs.map (·.1)=(ts.map λt=>(bl t.1:Int)).map Sum.inl
 | [],[],_=>rfl
 | kv::kvs,t::ts,.cons ⟨a,_⟩ r=>by rw[FJ,FJ,FJ,Kept.keys r,a]
theorem Kept.length(h:Kept H kvs ts):kvs.length=ts.length:=Paired.length h
noncomputable abbrev T2 (e:D_):HO:=.tup [.int e.1,.int e.2]
def Eqs (H:Hp):List Addr->List D_->Prop:=Paired λp e=>H p=some (T2 e)
variable{es:List D_}
theorem Eqs.same{ps:U3}(h:Eqs H ps es)(s:Same H H'):Eqs H' ps es:=Paired.imp' (λ_ _ c=>s _ _ c) h
theorem Eqs.length{ps:U3}(h:Eqs H ps es):ps.length=es.length:=Paired.length h
theorem Eqs.get{H:Hp}:∀{ps:U3}{es:List D_}{i:Nat}{p:W9},Eqs H ps es->ps[i]?=some p->∃e,es[i]?=some e/\H p=some (T2 e)
 | p'::ps,e::es,0,p,.cons a r,h=>by
  have:p'=p:=by simpa using h
  subst this;exact⟨e,U,a⟩
 | p'::ps,e::es,i+1,p,.cons a r,h=>by
  obtain⟨f,b,c⟩:=Eqs.get (ps:=ps) (es:=es) (i:=i) (p:=p) r (by simpa using h);exact⟨f,by simpa using b,c⟩
structure QH (es:List D_):Prop where
 bit:∀e∈es,e.2<2
 mask:∀e∈es,e.1<2^200
theorem wG:∀(es:List D_) (c:Nat),(∀e∈es,e.1<2^200)->(comb es c).1<2^200
 | [],_,_=>by unfold comb;exact Cq 200
 | e::r,c,h=>by
  have a:=wG r (c / 2) λf b=>h f (KZ _ b);unfold comb;split
  ·exact FP (h e Mz) a
  ·exact a
def CZ:Sp:=λvs H Q _=>∃n:Nat,vs=[.int n]/\Q (.int (pc n)) H
def vV:Sp:=λvs H Q _=>∃c:Nat,vs=[.int c]/\c<2^64/\∀(l:W9) (H':Hp),Same H H'->H' l=some (.lst ((places c (bl c)).map λp=>V.int (p:Nat)))->Q (.ref l) H'
def wU:Sp:=λvs H Q _=>∃(p d:W9) (t:Ent) (kvs:List (Key×V)) (ts:List Ent) (es:List D_) (i:Nat) (e:D_),vs=[.ref p,.ref d]/\H p=some (T3 t)/\H d=some (.dK kvs)/\Kept H kvs ts/\QH es/\Good es i ts/\Left es i ts e t /\
 ∀(p':W9) (H':Hp) (t':Ent),Same H H'->H' p'=some (T3 t')->Left es i ts e t'->(∀s∈ts,bl s.1≠bl t'.1)->Q (.ref p') H'
section
variable {P:U8}{w:W1}{K:U0}{mg:U4}{base:Heap}{k:Nat}{h:Heap}
theorem X7n(F:Ab K "ones" (top 22) .none)(X:K.In h)(G:Ng h mg):Aj P w K mg base (k+1) "ones" ["number"] CZ:=by
 refine F.cal X G ["number","many","rest"] λa H vs Q E g h=>?_;obtain⟨n,rfl,q⟩:=h
 refine⟨_,(@Ay _ _ _ _ _ (@BX _ _ 1 _ _ _ _ a rfl (Or.inl rfl) Ad rfl (.inl rfl))
  (@Ay _ _ _ _ _ (@BX _ _ 2 _ _ _ _ a rfl (Or.inl rfl) (pv 0) rfl (.inl rfl))
  (@Ay _ _ _ _ _ (Ze PassesOwn.never (Bf Hs (pv 2) Ad (Ac _))
   (@Ay _ _ _ _ _ (@BX _ _ 2 _ _ _ _ a rfl (Or.inl rfl) (Af Dv (pv 2) (Af JH (pv 2) Ad)) rfl (.inl rfl))
   (@Ak _ _ _ (@BX _ _ 1 _ _ _ _ a rfl (Or.inl rfl) (Af Ds (pv 1) Ad) rfl (.inl rfl)))))
  (@Ak _ _ _ (BL (pv 1)))))),?_⟩
 try dsimp only[CG]
 refine⟨_,U,λm σ H'=>H'=H/\∃j r:Nat,m=pc r/\j+pc r=pc n/\σ=[some (.int n),some (.int j),some (.int r)],⟨_,U,0,n,U,Ox _,U⟩,?_⟩;rintro m σ H' ⟨rfl,j,r,rfl,d,rfl⟩;refine⟨_,U,U,_,U,Ho (λb=>?_) (λb=>?_)⟩
 ·have c:r≠0:=by lia
  have e:=tK (r+1) r (by lia) c;refine⟨_,λf H' x=>x,?_⟩;refine⟨_,U,_,U,_,_,U,U,_,_,U,U,?_⟩;refine⟨_,U,_,_,U,U,⟨pc (r&&&(r-1)),by lia,U,j+1,r&&&(r-1),U,by lia,?_⟩⟩;have e2:Builtin.bitAnd (r:Int) ((r:Int)-1)=((r&&&(r-1):Nat):Int):=by rw[show (r:Int)-1=((r-1:Nat):Int) by lia,NT]
  show [some (V.int n),some (V.int ((j:Int)+1)),some (V.int (Builtin.bitAnd (r:Int) ((r:Int)-1)))]=_;rw[e2];rfl
 ·have c:r=0:=by lia
  subst c;rw[Gx,Mr]at d;subst d;exact⟨_,U,q⟩
theorem Y6m(F:Ab K "cleared" (top 41) .none)(X:K.In h)(G:Ng h mg):Aj P w K mg base (k+1) "cleared" ["equation","kept"] wU:=by
 refine F.cal X G ["equation","kept","left","other"] λo H vs Q E g h=>?_;obtain⟨p,d,t,kvs,ts,es,i,e,rfl,hp,hd,y,a,C,L,N⟩:=h
 refine⟨_,(@Ay _ _ _ _ _ (@BX _ _ 2 _ _ _ _ o rfl (Or.inl rfl) (pv 0) rfl (.inl rfl))
  (@Ay _ _ _ _ _ (Ze PassesOwn.never (yI (W1u (Sw g) (Pj O9 Od O_ P0 (Ao BK (pv 2) Ad (λ_ _=>rfl))) (pv 1)))
   (@Ay _ _ _ _ _ (@BX _ _ 3 _ _ _ _ o rfl (Or.inl rfl) (tR (Sw g) (pv 1) (Pj O9 Od O_ P0 (Ao BK (pv 2) Ad (λ_ _=>rfl))) (λ_ _=>rfl)) rfl (.inl rfl))
   (@Ak _ _ _ (@BX _ _ 2 _ _ _ _ o rfl (Or.inl rfl) (@Cw _ _ _ _ _ (Aa (Af JK (Ao BK (pv 2) Ad (λ_ _=>rfl)) (Ao BK (pv 3) Ad (λ_ _=>rfl))) (Aa (Af JK (Ao BK (pv 2) Ad (λ_ _=>rfl)) (Ao BK (pv 3) Ad (λ_ _=>rfl))) (Aa (Af JK (Ao BK (pv 2) Ad (λ_ _=>rfl)) (Ao BK (pv 3) Ad (λ_ _=>rfl))) Ae)))) rfl (.inl rfl)))))
  (@Ak _ _ _ (BL (pv 2))))),?_⟩
 try dsimp only[CG]
 refine⟨_,U,λm σ H'=>Same H H'/\∃(q:W9) (u:Ent) (v:Option V),m=u.1/\H' q=some (T3 u)/\Left es i ts e u/\σ=[some (.ref p),some (.ref d),some (.ref q),v],⟨_,Same.refl _,p,t,none,U,hp,L,U⟩,?_⟩;rintro m σ H1 ⟨c,q,u,v,rfl,A,B,rfl⟩;have S:∀{H'},Same H1 H'->Ai K H' q [.int u.1,.int u.2.1,.int u.2.2]:=λz=>Ai.of (z _ _ A);have D:=Z_ u.1;refine⟨_,U,q,_,_,_,U,U,S (Same.refl _),U,U,_,U,U,?_⟩;rw[D];refine⟨_,U,d,_,U,Fi.k (k:=Sum.inl (bl u.1:Int)) (c _ _ hd),_,U,?_⟩;cases hv:Bq kvs (Sum.inl (bl u.1:Int)) with
 | none =>
  refine CQ ⟨_,rfl,?_⟩;exact N q H1 u c A B λs J z=>y.none hv s J (by rw[z])
 | some x =>
  obtain⟨t',I,f,M,rfl,l⟩:=y.get hv;have n:=c _ _ l;have j:∀{H'},Same H1 H'->Ai K H' f [.int t'.1,.int t'.2.1,.int t'.2.2]:=λz=>Ai.of (z _ _ n);refine Dc ⟨_,λR H' x=>x,?_⟩;refine⟨_,U,_,U,q,_,_,_,U,U,S (Same.refl _),U,U,_,U,U,?_⟩;rw[D];refine⟨d,_,U,(by rw[<-hv];exact Fi.k (k:=Sum.inl (bl u.1:Int)) (c _ _ hd)),?_⟩;refine⟨_,U,q,_,_,_,U,U,S (Same.refl _),U,_,U,f,_,_,_,U,U,j (Same.refl _),U,_,_,U,U,_,U,q,_,_,_,U,U,S (Same.refl _),U,_,U,f,_,_,_,U,U,j (Same.refl _),U,_,_,U,U,_,U,q,_,_,_,U,U,S (Same.refl _),U,_,U,f,_,_,_,U,U,j (Same.refl _),U,_,_,U,U,(by show 3<=sizeLine;decide),λr g=>?_⟩;have b:bl u.1=bl t'.1:=(Int.ofNat.inj M).symm;have O:u.1≠0:=λz=>C.nz t' I (Gv.mp (by rw[<-b,z];rfl));refine⟨u.1^^^t'.1,X1r b O,c.trans (A_ g _),r,(u.1^^^t'.1,u.2.1^^^t'.2.1,u.2.2^^^t'.2.2),_,U,?_,B.step a.bit C I,U⟩;rw[Ar];show some (HO.tup [.int (Builtin.bitXor (u.1:Int) t'.1),.int (Builtin.bitXor (u.2.1:Int) t'.2.1),.int (Builtin.bitXor (u.2.2:Int) t'.2.2)])=_;rw[Jo,Jo,Jo]
def rH:Sp:=λvs H Q _=>∃(d:W9) (kvs:List (Key×V)) (ts:List Ent) (es:List D_) (i:Nat),vs=[.ref d]/\H d=some (.dK kvs)/\Kept H kvs ts/\QH es/\Good es i ts/\i<=60 /\
 ∀(x:Nat) (H':Hp),Same H H'->(∀t∈ts,sat x (DQ t))->Q (.int x) H'
def Told (es:List D_)(H:Hp)(r:W9):Prop:=(∃x:Nat,H r=some (.tup [.int x,.non])/\∀e∈es,sat x e) \/
 ∃(c:Nat) (q:W9),H r=some (.tup [.non,.ref q])/\H q=some (.lst ((places c (bl c)).map λp=>V.int (p:Nat)))/\c<2^es.length/\comb es c=(0,1)
def vY (K:U0):Sp:=λvs H Q _=>∃(l:W9) (ps:U3) (es:List D_),vs=[.ref l]/\Ag K H l (ps.map V.ref)/\Eqs H ps es/\QH es/\es.length<=60 /\
 ∀(r:W9) (H':Hp),Same H H'->Told es H' r->Q (.ref r) H'
theorem PB(x y:Nat):Builtin.bitOr (x:Int) (y:Int)=((x ||| y:Nat):Int):=by
 have h:Builtin.bitXor (x:Int) (y:Int)=Builtin.bitOr x y-Builtin.bitAnd x y:=rfl;rw[Jo,NT]at h;have e:=X3 (x+y+1) x y (by lia) (by lia);lia
theorem Ig(x y:Nat):[V.int (Builtin.bitAnd (x:Int) (y:Int))]=[V.int ((x&&&y:Nat):Int)]:=by rw[NT]
theorem Ja:(0:Int)<2:=by decide
theorem GQ:Sz 1 1:=by decide +kernel
theorem Kept.upd{d:W9}{kv0 kv1:List (Key×V)}(h:Kept H kvs ts)(hd:H d=some (.dK kv0)):Kept (upd H d (.dK kv1)) kvs ts :=
 Paired.imp' (λ_ _ ⟨a,p,b,c⟩=>⟨a,p,b,by rw[Cd (J0 c hd (by intro z;cases z))];exact c⟩) h
theorem t2:2<=sizeLine:=by decide
theorem Jp:(0:Int)<4:=by decide
theorem Jj{n:Nat}(h:n<=64):n<=sizeLine:=E_ h (by decide)
theorem Y8z(F:Ab K "places_at_one" (top 42) .none)(X:K.In h)(G:Ng h mg)(B:Bs mg):Aj P w K mg base (k+1) "places_at_one" ["number"] vV:=by
 refine F.cal X G ["number"] λu H vs Q E s h=>?_;obtain⟨c,rfl,o,l⟩:=h;have hb:bl c<=64:=G9.mpr o;refine⟨_,(@Ak _ _ _ (BL (X6 rfl (BW.of (Nc:=["place","number"]) (mp:=[none,some 0]) (by kernel_rfl)) (HN rfl B.range (Aa (Pj O9 Od O_ P0 (pv 0)) Ae)) (λ_ _ _ _=>(Bb (i:=0) (show (["place","number"]:W0).Nodup by decide +kernel) rfl (Or.inl rfl))) (λ_ _ _ _=>(Nj (Af Dv (Af NZ (pv 1) (pv 0)) Ad) (by intro _;rfl))) (λ_ _ _ _=>(pv 0))))),?_⟩;try dsimp only[CG]
 refine⟨_,U,U,_,U,U,?_⟩;rw[Z_];refine⟨_,U,by lia,by lia,λacc a=>?_⟩;rw[FN];refine Xu (n:=bl c) (fr:=[some (.int c)]) (λi ys H'=>Same H H'/\H' acc=some (.lst ys)/\ys=(places c i).map λp=>V.int (p:Nat)) (Jj hb) ⟨A_ a _,Ar,U⟩ ?_ (λhm z=>?_) ?_
 ·rintro i ys H2 N hi t ⟨s2,f,rfl⟩ j;refine⟨_,U,_,U,_,_,U,U,by lia,_,_,U,U,_,U,?_⟩;have g:(0:Int)+(i:Int)=(i:Int):=H_ _;have r:(c:Int) / 2^(0+(i:Int)).toNat=((c / 2^i:Nat):Int):=by rw[g,FN];simp
  have e2:Builtin.bitAnd ((c / 2^i:Nat):Int) 1=((c / 2^i%2:Nat):Int):=by
   have:=NT (c / 2^i) 1;rw[Nat.and_one_is_mod]at this;exact this
  have ps:=Xz c i;rw[r,e2];refine j _ _ (λd=>?_) (λb=>?_)
  ·have h1:c / 2^i%2=1:=by
    have:c / 2^i%2≠0:=λz=>by rw[z]at d;cases d
    lia
   rw[if_pos h1]at ps;refine⟨_,U,f,Dj s2 a,Ar,?_⟩;rw[ps,Ca,g];rfl
  ·have m:¬ c / 2^i%2=1:=λz=>by rw[z]at b;cases b
   rw[if_neg m,Oz]at ps;exact⟨s2,f,by rw[ps]⟩
 ·obtain⟨v,e,q⟩:=z;exact⟨v,e,hm _ _ q⟩
 ·rintro ys H2 ⟨s2,f,rfl⟩;exact l acc H2 s2 f
theorem Y2v(F:Ab K "solution" (top 43) .none)(X:K.In h)(G:Ng h mg)(B:Bs mg)(c9:Aj P w K mg base k "ones" ["number"] CZ):Aj P w K mg base (k+1) "solution" ["kept"] rH:=by
 refine F.cal X G ["kept","x","height","equation"] λnd H vs Q E L h=>?_;obtain⟨d,kvs,ts,es,i,rfl,hd,q,b,c,hi,kq⟩:=h;have I:=q.length;have M:=c.len
 refine⟨_,(@Ay _ _ _ _ _ (@BX _ _ 1 _ _ _ _ nd rfl (Or.inl rfl) Ad rfl (.inl rfl))
  (@Ay _ _ _ _ _ (Ge PassesOwn.never rfl (Ei (CJ (Y1x rfl) rfl B.sorted boot_sorted (Aa (pv 0) Ae))) (Bb (i:=2) nd rfl (Or.inl rfl))
   (@Ay _ _ _ _ _ (@BX _ _ 3 _ _ _ _ nd rfl (Or.inl rfl) (tR (Sw L) (pv 0) (pv 2) (λ_ _=>rfl)) rfl (.inl rfl))
   (@Ak _ _ _ (Bx (Bf Hs (Af Cv (BP c9 L rfl (Aa (Af Dv (Ao BK (pv 3) Ad (λ_ _=>rfl)) (pv 1)) Ae)) Ad) (Ao BK (pv 3) Ad (λ_ _=>rfl)) (Ac _))
    (@Ak _ _ _ (@BX _ _ 1 _ _ _ _ nd rfl (Or.inl rfl) (Af Sx (pv 1) (Af Gf Ad (Af JH (pv 2) Ad))) rfl (.inl rfl)))
    B_))))
  (@Ak _ _ _ (BL (pv 1))))),?_⟩
 try dsimp only[CG]
 refine⟨_,U,d,kvs,_,U,hd,q.keys,by lia,λl ks hl perm C=>?_⟩;have A:=A_ hl (.lst (ks.map V.int));have o:=X9i c.nd perm C;refine⟨l,U,⟨_,Ag.of Ar⟩,LC (K:=K) (a:=l) (xs:=ks.map V.int) (λj σ H'=>Same (upd H l (.lst (ks.map V.int))) H'/\∃(x:Nat) (v2 u:Option V),Oo ts ks j x/\σ=[some (.ref d),some (.int x),v2,u]) ⟨Same.refl _,0,none,none,Oo.start ts ks,U⟩ (λj σ H' _ e=>Ag.of (e.1 _ _ Ar)) ?_ ?_⟩
 ·rintro j xv σ H1 J ⟨g,x,v2,u,S,rfl⟩;rw[Bu]at J;obtain⟨R,r,rfl⟩:=Dt.mp J;have hm:R∈ts.map λt=>(bl t.1:Int):=perm.mem_iff.mp (Er r);obtain⟨D,y,rfl⟩:=El.mp hm;have s:=g _ _ (A _ _ hd);have m:=(q.same A).same g;cases hv:Bq kvs (Sum.inl (bl D.1:Int)) with
  | none=>exact absurd rfl (m.none hv D y)
  | some v =>
   obtain⟨t,n,p,Z,rfl,hp⟩:=m.get hv;have hb:t.2.1<2:=by
    have:(DQ t).2<2:=by rw[<-c.com t n];exact Xj es _ b.bit
    exact this
   have f:t.1<2^200:=by
    have:(DQ t).1<2^200:=by rw[<-c.com t n];exact wG es _ b.mask
    exact this
   have O:bl t.1<=200:=G9.mpr f;have h0:bl t.1≠0:=λz=>c.nz t n (Gv.mp z);rw[<-Z]at r hv ⊢;have st:=S.step c.nd o n (c.nz t n) hb r;have N:Ai K H1 p [.int t.1,.int t.2.1,.int t.2.2]:=Ai.of hp;refine⟨_,U,_,U,d,_,U,(by rw[<-hv];exact Fi.k (k:=Sum.inl (bl t.1:Int)) s),?_⟩;refine⟨_,U,p,_,_,_,U,U,N,U,_,U,_,_,U,U,t.1&&&x,Ig _ _,_,_,U,U,Ja,_,U,p,_,_,_,U,U,N,U,U,_,U,Ho (λT=>?_) (λW=>?_)⟩
   ·have hn:¬ sat x (DQ t):=λz=>T (by show ((pc (t.1&&&x):Nat):Int)%2=(t.2.1:Int);have:pc (t.1&&&x)%2=t.2.1:=z;lia);refine⟨_,U,_,U,_,_,U,U,_,_,U,U,⟨1,GQ,by lia,by lia⟩,_,_,U,U,g,x ||| 2^(bl t.1-1),some (V.int (bl t.1:Int)),some (V.ref p),st.2 hn,?_⟩;have e1:(1:Int)*2^((bl t.1:Int)-1).toNat=((2^(bl t.1-1):Nat):Int):=by
     rw[show ((bl t.1:Int)-1).toNat=bl t.1-1 by lia];simp
    show [some (V.ref d),some (V.int (Builtin.bitOr (x:Int) (1*2^((bl t.1:Int)-1).toNat))),some (V.int (bl t.1:Int)),some (V.ref p)]=_;rw[e1,PB]
   ·have Y:sat x (DQ t):=by
     show pc (t.1&&&x)%2=t.2.1;have:((pc (t.1&&&x):Nat):Int)%2=(t.2.1:Int):=W;lia
    exact⟨g,x,_,_,st.1 Y,U⟩
 ·rintro σ H1 ⟨g,x,v2,u,S,rfl⟩;rw[Az]at S;exact⟨_,U,kq x H1 (A.trans g) (S.all perm)⟩
theorem Y8v(F:Ab K "solved" (top 40) .none)(X:K.In h)(G:Ng h mg)(B:Bs mg)(eU:Aj P w K mg base k "cleared" ["equation","kept"] wU)(dH:Aj P w K mg base k "places_at_one" ["number"] vV)(eS:Aj P w K mg base k "solution" ["kept"] rH):Aj P w K mg base (k+1) "solved" ["equations"] (vY K):=by
 refine F.cal X G ["equations","kept","place","equation","left"] λY H vs Q E n h=>?_;obtain⟨l,ps,es,rfl,hS,he,b,a2,kq⟩:=h;have O:=he.length
 refine⟨_,(@Ay _ _ _ _ _ (@BX _ _ 1 _ _ _ _ Y rfl (Or.inl rfl) vL rfl (.inl rfl))
  (@Ay _ _ _ _ _ (Ge PassesOwn.never rfl (SJ rfl B.enumerate (Aa (pv 0) Ae)) (@Ls _ _ _ _ _ _ rfl (@Ea _ _ _ _ _ (@Bb _ _ 2 _ Y rfl (Or.inl rfl) (by first | exact .inl rfl | exact .inr rfl)) (@Ea _ _ _ _ _ (@Bb _ _ 3 _ Y rfl (Or.inl rfl) (by first | exact .inl rfl | exact .inr rfl)) Lx rfl) rfl) rfl rfl)
   (@Ay _ _ _ _ _ (@BX _ _ 4 _ _ _ _ Y rfl (Or.inl rfl) (BP eU n rfl (Aa (@Cw _ _ _ _ _ (Aa (Ao BK (pv 3) Ad (λ_ _=>rfl)) (Aa (Ao BK (pv 3) Ad (λ_ _=>rfl)) (Aa (Af Gf Ad (pv 2)) Ae)))) (Aa (pv 1) Ae))) rfl (.inl rfl))
   (@Ak _ _ _ (Bx (Bf Hs (Ao BK (pv 4) Ad (λ_ _=>rfl)) Ad (Ac _))
    (@Ak _ _ _ (tV (Sw n) (pv 1) (Pj O9 Od O_ P0 (Ao BK (pv 4) Ad (λ_ _=>rfl))) (pv 4) rfl))
    (@Ak _ _ _ (Bx (Bf Df (Ao BK (pv 4) Ad (λ_ _=>rfl)) Ad (Ac _))
     (@Ak _ _ _ (BL (@Cw _ _ _ _ _ (Aa Nb (Aa (BP dH n rfl (Aa (Ao BK (pv 4) Ad (λ_ _=>rfl)) Ae)) Ae)))))
     B_))))))
  (@Ak _ _ _ (BL (@Cw _ _ _ _ _ (Aa (BP eS n rfl (Aa (pv 1) Ae)) (Aa Nb Ae))))))),?_⟩
 try dsimp only[CG]
 refine λd hd=>?_
 refine⟨_,U,l,_,U,(A_ hd _).seq hS,n8 (K:=K) (a:=l) (xs:=ps.map V.ref) (λi σ H'=>Same H H'/\∃(kvs:List (Key×V)) (ts:List Ent) (v2 v3 v4:Option V),H' d=some (.dK kvs)/\Kept H' kvs ts/\Good es i ts/\σ=[some (.ref l),some (.ref d),v2,v3,v4])
  ⟨A_ hd _,[],[],none,none,none,Ar,.nil,Good.start es,U⟩ (λi σ H' _ e=>e.1.seq hS) ?_ ?_⟩
 ·rintro i x σ H1 T hx ⟨Z,kvs,ts,v2,v3,v4,f,M,m,rfl⟩ hT;rw[Bu]at hx;obtain⟨p,hp,rfl⟩:=Dt.mp hx;obtain⟨e,ei,a3⟩:=he.get hp;have a0:i<es.length:=(Fe.mp ei).1;have D:=A_ hT (.tup [.int i,.ref p]);have R:=D _ _ (Z _ _ a3);have SP:Ai K (upd H1 T (.tup [.int i,.ref p])) p [.int e.1,.int e.2]:=Ai.of R;refine⟨T,_,U,Ai.of Ar,U,_,_,U,_,_,U,U,?_⟩;refine⟨_,U,p,_,_,_,U,U,SP,U,_,U,p,_,_,_,U,U,SP,U,_,U,_,_,U,U,⟨1,GQ,by lia,by lia⟩,(by show 3<=sizeLine;decide),λr n=>?_⟩;have L:=A_ n (.tup [.int e.1,.int e.2,.int ((1:Int)*2^((i:Int)).toNat)]);have e1:(1:Int)*2^((i:Int)).toNat=((2^i:Nat):Int):=by simp
  have a1:upd (upd H1 T (.tup [.int i,.ref p])) r (.tup [.int e.1,.int e.2,.int ((1:Int)*2^((i:Int)).toNat)]) r=some (T3 (e.1,e.2,2^i)):=by rw[Ar,e1]
  refine⟨_,U,r,d,(e.1,e.2,2^i),kvs,ts,es,i,e,U,a1,L _ _ (D _ _ f),(M.same D).same L,b,m,Left.start ei,λC H2 t s2 A J c=>?_⟩;have s:=((Z.trans D).trans L).trans s2;have g:=s2 _ _ (L _ _ (D _ _ f));have o:=((M.same D).same L).same s2;have W:Ai K H2 C [.int t.1,.int t.2.1,.int t.2.2]:=Ai.of A;refine⟨_,U,C,_,_,_,U,U,W,U,U,_,U,Ho (λne=>?_) (λeq=>?_)⟩
  ·have S:t.1≠0:=λz=>ne (by rw[z];rfl);refine⟨_,U,_,U,_,U,C,_,_,_,U,U,W,U,U,_,U,U,?_⟩;rw[Z_];have hn:Bq kvs (Sum.inl (bl t.1:Int))=none:=by
    cases hv:Bq kvs (Sum.inl (bl t.1:Int)) with
    | none=>rfl
    | some v =>
     obtain⟨u,hu,q,eh,_⟩:=o.get hv;exact absurd (Int.ofNat.inj eh) (c u hu)
   have a6:=M.length;have a7:=m.len;refine⟨d,_,U,Jg.k (k:=Sum.inl (bl t.1:Int)) g (Cu (show kvs.length<64 by lia) (by decide)),Dj s hd,_,ts++[t],some (V.int i),some (V.ref p),some (V.ref C),Ar,?_,m.put ei J S c,U⟩;rw[X2c _ hn];exact(o.upd g).snoc (by rw[Cd (J0 A g (by intro z;cases z))];exact A)
  ·have S:t.1=0:=Int.ofNat.inj eq;have tb:=J.bit b.bit;refine⟨_,U,C,_,_,_,U,U,W,U,U,_,U,Lj (λy=>?_) (λy=>?_)⟩
   ·have b1:t.2.1=1:=Int.ofNat.inj y;have I:t.2.2<2^es.length:=Cu J.lt (Fw (by decide) a0);refine⟨_,U,C,_,_,_,U,U,W,U,t.2.2,U,Cu I (Fw (by decide) (by lia)),λql H3 s3 a5=>⟨t2,λrr N=>?_⟩⟩;refine kq rr _ ((s.trans s3).trans (A_ N _)) (.inr ⟨t.2.2,ql,Ar,A_ N _ _ _ a5,I,?_⟩);rw[J.com];show (t.1,t.2.1)=_;rw[S,b1]
   ·have b0:t.2.1=0:=by
     have:¬ t.2.1=1:=λz=>y (by rw[z];rfl);lia
    exact⟨s,kvs,ts,some (V.int i),some (V.ref p),some (V.ref C),g,o,m.skip ei J S b0,U⟩
 ·rintro σ H1 ⟨Z,kvs,ts,v2,v3,v4,f,M,m,rfl⟩;rw[Az,O]at m;refine⟨_,U,d,kvs,ts,es,es.length,U,f,M,b,m,a2,λx H2 s2 hs=>⟨t2,λr n=>?_⟩⟩;refine kq r _ ((Z.trans s2).trans (A_ n _)) (.inl ⟨x,Ar,λe a4=>?_⟩);obtain⟨j,hj,rfl⟩:=O8.mp a4;exact m.all x hs j _ hj (Cm hj)
end
end Ah
namespace DG
open Pc JL
noncomputable def bit (v n:Nat):Nat:=v / 2^n%2
theorem Ey(v n:Nat):bit v n<2:=Eu _ (by decide)
theorem Xi(v n:Nat):bit v (n+1)=bit (v / 2) n:=by
 unfold bit;rw[KQ,gW]
theorem Nm(n:Nat):bit 0 n=0:=by unfold bit;simp
theorem JW:∀(n a b:Nat),bit (a^^^b) n=(bit a n+bit b n)%2
 | 0,a,b=>by
  have:=Pn a b;unfold bit;simp only[j8,Nat.div_one];lia
 | n+1,a,b=>by
  have:=Pn a b;rw[Xi,Xi,Xi,show (a^^^b) / 2=a / 2^^^b / 2 by lia];exact JW n _ _
theorem Ut:∀(N a b:Nat),a<2^N->b<2^N->(∀n,n<N->bit a n=bit b n)->a=b
 | 0,a,b,ha,hb,_=>by simp at ha hb;lia
 | N+1,a,b,ha,hb,h=>by
  rw[KQ]at ha hb;have c:=h 0 (Nat.succ_pos N);unfold bit at c;simp only[j8,Nat.div_one]at c;have:=Ut N (a / 2) (b / 2) (by lia) (by lia) λn d=>by rw[<-Xi,<-Xi];exact h (n+1) (by lia)
  lia
theorem R6{a m n:Nat}(h:a<2^m)(hm:m<=n):bit a n=0:=by
 unfold bit;rw[Qd (Cu h (Fw (by decide) hm))]
theorem yt(m n:Nat):bit (2^m) n=if n=m then 1 else 0:=by
 unfold bit;by_cases h:n=m
 ·subst h;rw[if_pos rfl,Nat.div_self (Cq n)]
 ·rw[if_neg h];rcases j6 n m with c | c
  ·obtain⟨d,rfl⟩:∃d,m=n+(d+1):=⟨m-n-1,by lia⟩;rw[RJ,Nat.mul_div_cancel_left _ (Cq n),Mt,Nat.mul_mod_left]
  ·rw[Qd (Jl (by decide) (by lia))]
theorem W0b(x m:Nat):x&&&2^m=bit x m*2^m:=by
 refine M5 λj=>?_;rw[OJ,M4];by_cases q:m=j
 ·subst q;rw[UG,UG,Nat.mul_div_cancel _ (Cq m)];show (decide (bit x m=1) && decide (m=m))=decide (bit x m%2=1);rw[KY (Ey x m)];simp
 ·rcases (by have:=Ey x m;lia:bit x m=0\/bit x m=1) with z | z<;>rw[z]<;>simp[q]
theorem mZ{a m x b:Nat}(ha:a<2^m)(hb:b<2):pc ((a+b*2^m)&&&x)%2=(pc (a&&&x)+b*bit x m)%2:=by
 rcases (by lia:b=0\/b=1) with rfl | rfl
 ·simp
 ·rw[V0,<-JL.nM ha,Wd,K1,GX (2^m),W0b];rcases (by have:=Ey x m;lia:bit x m=0\/bit x m=1) with z | z<;>rw[z]
  ·rw[j_,Gx,Nat.mul_zero]
  ·rw[V0,mY]
noncomputable def Wm (fs:W3)(n:Nat):Nat->Nat
 | 0=>0
 | m+1=>Wm fs n m+bit (fs.getD m 0) n*2^m
noncomputable def Xm (fs:W3)(x:Nat):Nat->Nat
 | 0=>0
 | m+1=>if bit x m=1 then Xm fs x m^^^fs.getD m 0 else Xm fs x m
theorem X7(fs:W3)(n:Nat):∀m,Wm fs n m<2^m
 | 0=>by unfold Wm;decide
 | m+1=>by
  have h:=X7 fs n m;have b:=Ey (fs.getD m 0) n;unfold Wm;rw[KQ];rcases (by lia:bit (fs.getD m 0) n=0\/bit (fs.getD m 0) n=1) with z | z<;>rw[z]<;>lia
theorem aK{fs:W3}{x N:Nat}(h:∀j,fs.getD j 0<2^N):∀m,Xm fs x m<2^N
 | 0=>by unfold Xm;exact Cq N
 | m+1=>by
  unfold Xm;split
  ·exact FP (aK h m) (h m)
  ·exact aK h m
theorem oW(fs:W3)(x n:Nat):∀m,bit (Xm fs x m) n=pc (Wm fs n m&&&x)%2
 | 0=>by unfold Xm Wm;rw[Nm,RK,Gx]
 | m+1=>by
  have a:=oW fs x n m;have bl:=Ey x m;unfold Xm Wm;rw[mZ (X7 fs n m) (Ey _ _)];split
  ·rename_i z;rw[JW,a,z];lia
  ·rename_i z;rw[a,show bit x m=0 by lia];lia
theorem oZ(fs:W3)(n:Nat):∀m j,j<m->bit (Wm fs n m) j=bit (fs.getD j 0) n
 | 0,j,h=>by lia
 | m+1,j,h=>by
  have a:=X7 fs n m;have b:=Ey (fs.getD m 0) n;unfold Wm;rcases (by lia:bit (fs.getD m 0) n=0\/bit (fs.getD m 0) n=1) with z | z
  ·rw[z,j_,Mr];by_cases q:j=m
   ·subst q;rw[z,R6 a (Bd _)]
   ·exact oZ fs n m j (by lia)
  ·rw[z,V0,<-JL.nM a,JW,yt];by_cases q:j=m
   ·subst q;rw[if_pos rfl,z,R6 a (Bd _)]
   ·rw[if_neg q,oZ fs n m j (by lia),Mr,KY (Ey _ _)]
theorem wk(fs:W3)(n:Nat):∀m,m<=fs.length->((fs.take m).mapIdx λi v=>((bit v n:Nat):Int)*2^i).sum=((Wm fs n m:Nat):Int)
 | 0,_=>by simp[Wm]
 | m+1,h=>by
  have a:=wk fs n m (by lia);have e:fs[m]?=some (fs.getD m 0):=by rw[Bp,Cm (by lia)];rfl
  have l:(fs.take m).length=m:=by rw[Gk];lia
  unfold Wm;rw[Gs,e,Iu,List.mapIdx_append,dw,a,l];simp
noncomputable def eqs (fs:W3)(v N:Nat):List D_:=(List.range N).map λn=>(Wm fs n fs.length,bit v n)
theorem Uj(fs:W3)(v N:Nat):(eqs fs v N).length=N:=by unfold eqs;simp
theorem Zq:∀(l r:List D_) (c:Nat),comb (l++r) c=add (comb l c) (comb r (c / 2^l.length))
 | [],r,c=>by simp[comb,add]
 | e::l,r,c=>by
  have b:=Zq l r (c / 2);have a:c / 2 / 2^l.length=c / 2^(e::l).length:=by rw[Ob,KQ,gW]
  show (if c%2=1 then add e (comb (l++r) (c / 2)) else comb (l++r) (c / 2))=add (if c%2=1 then add e (comb l (c / 2)) else comb l (c / 2)) _;rw[b,a];split
  ·rw[Us]
  ·rfl
theorem ZX(fs:W3)(v N:Nat):eqs fs v (N+1)=eqs fs v N++[(Wm fs N fs.length,bit v N)]:=by
 unfold eqs;rw[WQ,Ca];rfl
theorem Zc(c N:Nat):c%2^(N+1)=c%2^N+bit c N*2^N:=by rw[Mt,Nat.mod_mul];unfold bit;rw[Yj (2^N)]
theorem uc(e:D_)(c:Nat):comb [e] c=if c%2=1 then e else (0,0):=by
 unfold comb comb;split<;>simp[add]
theorem nq(fs:W3)(v c:Nat):∀N,(comb (eqs fs v N) c).2=pc (c%2^N&&&v)%2
 | 0=>by simp[eqs,comb,Yh,Gx]
 | N+1=>by
  have d:=nq fs v c N;have hb:=Ey c N;have e:=Ey v N;rw[ZX,Zq,Uj,uc,Zc,mZ (Eu _ (Cq N)) hb];show (comb (eqs fs v N) c).2^^^(if c / 2^N%2=1 then (Wm fs N fs.length,bit v N) else (0,0)).2=_;rw[d];have nx:=Pn (pc (c%2^N&&&v)%2) (bit v N);have a:pc (c%2^N&&&v)%2 / 2=0:=by lia
  have b:bit v N / 2=0:=by lia
  rw[a,b]at nx;have q:(0^^^0:Nat)=0:=rfl;rcases (by lia:bit c N=0\/bit c N=1) with z | z
  ·rw[if_neg (show ¬ c / 2^N%2=1 by have:c / 2^N%2=0:=z;lia),z];simp
  ·rw[if_pos (show c / 2^N%2=1 from z),z];show _^^^bit v N=_;lia
theorem nj(fs:W3)(v c j:Nat)(hj:j<fs.length):∀N,bit (comb (eqs fs v N) c).1 j=pc (c%2^N&&&fs.getD j 0)%2
 | 0=>by simp[eqs,comb,Yh,Gx,Nm]
 | N+1=>by
  have b:=nj fs v c j hj N;have hb:=Ey c N;have a:=oZ fs N fs.length j hj;rw[ZX,Zq,Uj,uc,Zc,mZ (Eu _ (Cq N)) hb];show bit ((comb (eqs fs v N) c).1^^^(if c / 2^N%2=1 then (Wm fs N fs.length,bit v N) else (0,0)).1) j=_;rw[JW,b];rcases (by lia:bit c N=0\/bit c N=1) with z | z
  ·rw[if_neg (show ¬ c / 2^N%2=1 by have:c / 2^N%2=0:=z;lia),z,Nm];lia
  ·rw[if_pos (show c / 2^N%2=1 from z),z,a];lia
abbrev Mk:=Nat×Nat×Nat
noncomputable def mul (a b:Mk):Mk:=((a.1+b.1+2*pc (a.2.2&&&b.2.1))%4,a.2.1^^^b.2.1,a.2.2^^^b.2.2)
noncomputable def prod (ms:List Mk):Mk:=ms.foldl mul (0,0,0)
theorem wL(k:Nat):∀(ms:List Mk) (q f s:Nat),ms.foldl mul ((k+q)%4,f,s)=((k+(ms.foldl mul (q%4,f,s)).1)%4,(ms.foldl mul (q%4,f,s)).2)
 | [],q,f,s=>by
  show ((k+q)%4,f,s)=((k+q%4)%4,f,s);rw[Nat.add_mod_mod]
 | m::ms,q,f,s=>by
  rw[List.foldl_cons,List.foldl_cons];have h:=wL k ms (q+m.1+2*pc (s&&&m.2.1)) (f^^^m.2.1) (s^^^m.2.2);have a:mul ((k+q)%4,f,s) m=((k+(q+m.1+2*pc (s&&&m.2.1)))%4,f^^^m.2.1,s^^^m.2.2):=by
   show (((k+q)%4+m.1+2*pc (s&&&m.2.1))%4,_,_)=_;congr 1;lia
  have e2:mul (q%4,f,s) m=((q+m.1+2*pc (s&&&m.2.1))%4,f^^^m.2.1,s^^^m.2.2):=by
   show ((q%4+m.1+2*pc (s&&&m.2.1))%4,_,_)=_;congr 1;lia
  rw[a,e2];exact h
theorem mH{k:Nat}(hk:k<4)(ms:List Mk):ms.foldl mul (k,0,0)=((k+(prod ms).1)%4,(prod ms).2):=by
 have:=wL k ms 0 0 0;rw[Mr,KY hk]at this;exact this
theorem nH:∀(ms:List Mk) (a:Mk),a.1<4->(ms.foldl mul a).1<4
 | [],a,h=>h
 | m::ms,a,h=>nH ms (mul a m) (Eu _ (by decide))
noncomputable def chosen (rows:List Mk)(x m:Nat):List Mk:=(places x m).map λp=>rows.getD p (0,0,0)
theorem QB(rows:List Mk)(x m:Nat):chosen rows x (m+1)=chosen rows x m++(if bit x m=1 then [rows.getD m (0,0,0)] else []):=by
 unfold chosen;rw[Xz,Ca];show _++List.map _ (if bit x m=1 then [m] else [])=_;split<;>rfl
theorem Uh(rows:List Mk)(x:Nat):∀m,(prod (chosen rows x m)).2.1=Xm (rows.map (·.2.1)) x m
 | 0=>rfl
 | m+1=>by
  have a:=Uh rows x m;rw[QB];unfold prod at *;rw[O6];unfold Xm;split
  ·show (mul _ _).2.1=_;show (List.foldl mul (0,0,0) (chosen rows x m)).2.1^^^(rows.getD m (0,0,0)).2.1=_;rw[a,Bp,Bp,Bu];cases rows[m]?<;>rfl
  ·exact a
theorem Ui(rows:List Mk)(x:Nat):∀m,(prod (chosen rows x m)).2.2=Xm (rows.map (·.2.2)) x m
 | 0=>rfl
 | m+1=>by
  have a:=Ui rows x m;rw[QB];unfold prod at *;rw[O6];unfold Xm;split
  ·show (List.foldl mul (0,0,0) (chosen rows x m)).2.2^^^(rows.getD m (0,0,0)).2.2=_;rw[a,Bp,Bp,Bu];cases rows[m]?<;>rfl
  ·exact a
end DG
namespace Ah
open L2 Pc JL DG
def Bv (H:Hp):List Addr->List Mk->Prop:=Paired λp m=>H p=some (T3 m)
variable{H:Hp}{ps:U3}{ms:List Mk}
theorem Bv.same{H':Hp}(h:Bv H ps ms)(s:Same H H'):Bv H' ps ms:=Paired.imp' (λ_ _ c=>s _ _ c) h
theorem Bv.length(h:Bv H ps ms):ps.length=ms.length:=Paired.length h
theorem Bv.get{H:Hp}:∀{ps:U3}{ms:List Mk}{i:Nat}{p:W9},Bv H ps ms->ps[i]?=some p->∃e,ms[i]?=some e/\H p=some (T3 e)
 | p'::ps,e::es,0,p,.cons a r,h=>by
  have:p'=p:=by simpa using h
  subst this;exact⟨e,U,a⟩
 | p'::ps,e::es,i+1,p,.cons a r,h=>by
  obtain⟨f,b,c⟩:=Bv.get (ps:=ps) (ms:=es) (i:=i) (p:=p) r (by simpa using h);exact⟨f,by simpa using b,c⟩
theorem Bv.at{i:Nat}(h:Bv H ps ms)(hi:i<ms.length):∃p,ps[i]?=some p/\H p=some (T3 (ms.getD i (0,0,0))):=by
 have c:=h.length;have a:ps[i]?=some (ps[i]'(by lia)):=by simp[show i<ps.length by lia]
 obtain⟨e,e2,b⟩:=h.get a;refine⟨_,a,?_⟩;rw[Bp,e2];exact b
noncomputable abbrev bU (m:Mk):List Int:=[(m.1:Int),(m.2.1:Int),(m.2.2:Int)]
theorem Bv.rows{H:Hp}:∀{ps:U3}{ms:List Mk},Bv H ps ms->Je H ps (ms.map bU)
 | [],[],_=>.nil
 | _::_,_::_,.cons a r=>.cons a (Bv.rows r)
noncomputable abbrev L3 (m:Mk):List V:=[.int m.1,.int m.2.1,.int m.2.2]
def Sh (K:U0):Sp:=λvs H Q _=>∃(p p':W9) (m m':Mk),vs=[.ref p,.ref p']/\Ai K H p (L3 m)/\Ai K H p' (L3 m')/\∀(r:W9) (H':Hp),Same H H'->H' r=some (T3 (mul m m'))->Q (.ref r) H'
def rR (K:U0):Sp:=λvs H Q _=>∃(l:W9) (ps:U3) (ms:List Mk),vs=[.ref l]/\Ag K H l (ps.map V.ref)/\Bv H ps ms/\∀(r:W9) (H':Hp),Same H H'->Ai K H' r (L3 (prod ms))->Q (.ref r) H'
def rG (K:U0):Sp:=λvs H Q _=>∃(l:W9) (ps:U3) (ms:List Mk) (pt:Int) (fs:W3) (n:Nat),vs=[.ref l,.int pt,.int n]/\Ag K H l (ps.map V.ref)/\Bv H ps ms/\ms.length<=60 /\
 (pt=1/\fs=ms.map (·.2.1)\/pt=2/\fs=ms.map (·.2.2))/\∀H',Same H H'->Q (.int (Wm fs n fs.length:Nat)) H'
def tX (K:U0):Sp:=λvs H Q _=>∃(l:W9) (c n:Nat),vs=[.ref l,.int n]/\Ag K H l ((places c (bl c)).map λp=>V.int (p:Nat))/\n<=6/\c<2^(n+n) /\
 ∀(r:W9) (H':Hp),Same H H'->H' r=some (T3 (pc (c / 2^n&&&c%2^n)%4,c / 2^n,c%2^n))->Q (.ref r) H'
theorem uo(c k:Nat):∀N,((((places c N).map λp=>((p:Nat):Int)).filter λz:Int=>decide ((k:Int)<=z)).map λz:Int=>(1:Int)*2^(z-(k:Int)).toNat).sum=((c%2^N / 2^k:Nat):Int)
 | 0=>by simp[places,Yh]
 | N+1=>by
  have i:=uo c k N;have p:=Cq k;rw[Xz,Ca,WY,Ca,dw,i,Zc];show _+((((if bit c N=1 then [N] else []).map λp=>((p:Nat):Int)).filter λz:Int=>decide ((k:Int)<=z)).map λz:Int=>(1:Int)*2^(z-(k:Int)).toNat).sum=_;have f:c%2^N<2^N:=Eu _ (Cq N);rcases (by have:=Ey c N;lia:bit c N=0\/bit c N=1) with z | z
  ·rw[z];simp
  ·rw[z,if_pos rfl,V0];by_cases hk:k<=N
   ·obtain⟨d,rfl⟩:∃d,N=k+d:=⟨N-k,by lia⟩;have e:(c%2^(k+d)+2^(k+d)) / 2^k=c%2^(k+d) / 2^k+2^d:=by rw[RJ,Nat.add_mul_div_left _ _ p]
    rw[e];have a:(k:Int)<=(k:Int)+d:=by lia
    have g:((k:Int)+d).toNat-k=d:=by lia
    simp[a,g]
   ·have e:(c%2^N+2^N) / 2^k=0:=Qd (by
     have:=Fw (show 0<2 by decide) (show N+1<=k by lia)
     rw[KQ]at this
     lia)
    have b:c%2^N / 2^k=0:=Qd (Ov f (Jl (by decide) (by lia)));rw[e,b];have h:¬ ((k:Int)<=N):=by lia
    simp[h]
theorem sZ(c k:Nat):∀N,((((places c N).map λp=>((p:Nat):Int)).filter λz=>decide (z<(k:Int))).map λz=>(1:Int)*2^z.toNat).sum=((c%2^N%2^k:Nat):Int)
 | 0=>by simp[places,Yh]
 | N+1=>by
  have b:=sZ c k N;rw[Xz,Ca,WY,Ca,dw,b,Zc];show _+((((if bit c N=1 then [N] else []).map λp=>((p:Nat):Int)).filter λz=>decide (z<(k:Int))).map λz=>(1:Int)*2^z.toNat).sum=_;have f:c%2^N<2^N:=Eu _ (Cq N);rcases (by have:=Ey c N;lia:bit c N=0\/bit c N=1) with z | z
  ·rw[z];simp
  ·rw[z,if_pos rfl,V0];by_cases hk:k<=N
   ·obtain⟨d,rfl⟩:∃d,N=k+d:=⟨N-k,by lia⟩;have e:(c%2^(k+d)+2^(k+d))%2^k=c%2^(k+d)%2^k:=by rw[RJ,Nat.add_mul_mod_self_left]
    rw[e];have a:¬ ((k:Int)+d<k):=by lia
    simp[a]
   ·have hp:2*2^N<=2^k:=by
     have:=Fw (show 0<2 by decide) (show N+1<=k by lia);rw[KQ]at this;exact this
    rw[KY (show c%2^N+2^N<2^k by lia),KY (show c%2^N<2^k by lia)];simp[show N<k by lia]
theorem t3:3<=sizeLine:=by decide
theorem R_(x:Nat):Builtin.bitAnd (x:Int) 1=((x%2:Nat):Int):=by
 have:=NT x 1;rw[Nat.and_one_is_mod]at this;exact this
section
variable {P:U8}{w:W1}{K:U0}{mg:U4}{base:Heap}{k:Nat}{h:Heap}
theorem Y6j(F:Ab K "product" (top 28) .none)(X:K.In h)(G:Ng h mg)(c9:Aj P w K mg base k "ones" ["number"] CZ):Aj P w K mg base (k+1) "product" ["one","other"] (Sh K):=by
 refine F.cal X G ["one","other","met"] λf H vs Q E d h=>?_;obtain⟨p,c,m,m',rfl,b,a,e⟩:=h
 refine⟨_,(@Ay _ _ _ _ _ (@BX _ _ 2 _ _ _ _ f rfl (Or.inl rfl) (BP c9 d rfl (Aa (Af Dv (Ao BK (pv 0) Ad (λ_ _=>rfl)) (Ao BK (pv 1) Ad (λ_ _=>rfl))) Ae)) rfl (.inl rfl))
  (@Ak _ _ _ (BL (@Cw _ _ _ _ _ (Aa (Af Cv (Af Ds (Af Ds (Ao BK (pv 0) Ad (λ_ _=>rfl)) (Ao BK (pv 1) Ad (λ_ _=>rfl))) (Af G_ Ad (pv 2))) Ad) (Aa (Af JK (Ao BK (pv 0) Ad (λ_ _=>rfl)) (Ao BK (pv 1) Ad (λ_ _=>rfl))) (Aa (Af JK (Ao BK (pv 0) Ad (λ_ _=>rfl)) (Ao BK (pv 1) Ad (λ_ _=>rfl))) Ae))))))),?_⟩
 try dsimp only[CG]
 refine⟨_,U,p,_,_,_,U,U,b,U,_,U,c,_,_,_,U,U,a,U,_,_,U,U,m.2.2&&&m'.2.1,Ig _ _,?_⟩;refine⟨_,U,p,_,_,_,U,U,b,U,_,U,c,_,_,_,U,U,a,U,_,_,U,U,_,U,_,_,U,U,.inl ⟨by decide,by decide⟩,_,_,U,U,_,_,U,U,Jp,?_⟩;refine⟨_,U,p,_,_,_,U,U,b,U,_,U,c,_,_,_,U,U,a,U,_,_,U,U,_,U,p,_,_,_,U,U,b,U,_,U,c,_,_,_,U,U,a,U,_,_,U,U,t3,λr d=>?_⟩;refine e r _ (A_ d _) ?_;rw[Ar];show some (HO.tup [.int (((m.1:Int)+m'.1+2*((pc (m.2.2&&&m'.2.1):Nat):Int))%4),.int (Builtin.bitXor (m.2.1:Int) m'.2.1),.int (Builtin.bitXor (m.2.2:Int) m'.2.2)])=_;rw[Jo,Jo];rfl
theorem Y8x(F:Ab K "product_of" (top 57) .none)(X:K.In h)(G:Ng h mg){aP:W9}(gP:mg "PRODUCT_OF_NONE"=some (.ref aP))(sP:∀H:Hp,Ai K H aP (L3 (0,0,0)))
  (cV:Aj P w K mg base k "product" ["one","other"] (Sh K)):Aj P w K mg base (k+1) "product_of" ["marks"] (rR K):=by
 refine F.cal X G ["marks","made","mark"] λj H vs Q E g h=>?_;obtain⟨l,ps,ms,rfl,q,hm,s⟩:=h;have b:=hm.length
 refine⟨_,(@Ay _ _ _ _ _ (@BX _ _ 1 _ _ _ _ j rfl (Or.inl rfl) (Pq (v:=.ref aP) rfl gP rfl) rfl (.inl rfl))
  (@Ay _ _ _ _ _ (Ge PassesOwn.never rfl (Ei (pv 0)) (Bb (i:=2) j rfl (Or.inl rfl))
   (@Ak _ _ _ (@BX _ _ 1 _ _ _ _ j rfl (Or.inl rfl) (BP cV g rfl (Aa (pv 1) (Aa (pv 2) Ae))) rfl (.inl rfl))))
  (@Ak _ _ _ (BL (pv 1))))),?_⟩
 try dsimp only[CG]
 refine⟨_,U,l,U,⟨_,q⟩,LC (K:=K) (a:=l) (xs:=ps.map V.ref) (λi σ H'=>Same H H'/\∃(p:W9) (v:Option V),Ai K H' p (L3 ((ms.take i).foldl mul (0,0,0)))/\σ=[some (.ref l),some (.ref p),v]) ⟨Same.refl _,aP,none,sP H,U⟩ (λi σ H' _ e=>e.1.seq q) ?_ ?_⟩
 ·rintro i x σ H1 o ⟨c,p,v,sp,rfl⟩;rw[Bu]at o;obtain⟨t,d,rfl⟩:=Dt.mp o;obtain⟨m,n,f⟩:=hm.get d;refine⟨_,U,_,U,p,t,_,m,U,sp,Ai.of (c _ _ f),λr H2 s2 g=>⟨c.trans s2,r,_,?_,U⟩⟩;rw[Gs,n,Iu,O6];exact Ai.of g
 ·rintro σ H1 ⟨c,p,v,sp,rfl⟩;rw[Az,b,Ia]at sp;exact⟨_,U,s p H1 c sp⟩
theorem Y2w(F:Ab K "rows_with" (top 56) .none)(X:K.In h)(G:Ng h mg)(B:Bs mg):Aj P w K mg base (k+1) "rows_with" ["rows","part","cell"] (rG K):=by
 refine F.cal X G ["rows","part","cell"] λJ H vs Q E I h=>?_;obtain⟨l,ps,ms,pt,fs,n,rfl,t,hm,u,c,A⟩:=h;have a:=hm.length;have fl:fs.length=ms.length:=by rcases c with ⟨_,rfl⟩ | ⟨_,rfl⟩<;>exact Az _
 refine⟨_,(@Ak _ _ _ (BL (CJ (lW rfl) rfl B.sum boot_sum (Aa (Gp rfl (BW.of (Nc:=["place","row","part","cell"]) (mp:=[none,none,some 1,some 2]) (by kernel_rfl)) (SJ rfl B.enumerate (Aa (pv 0) Ae)) (λ_ _ _ _=>(Uq rfl (show (["place","row","part","cell"]:W0).Nodup by decide +kernel) rfl rfl rfl rfl)) (λ_ _ _ _=>(Af Gf (Af Dv (Af NZ (Ao Km (pv 1) (pv 2) (λ_ _=>rfl)) (pv 3)) Ad) (pv 0)))) Ae)))),?_⟩;try dsimp only[CG]
 refine⟨_,U,l,_,U,t,λacc b=>?_⟩;refine X8v (l:=l) (xs:=ps.map V.ref) (fr:=[some (.int pt),some (.int n)]) (λi _=>.int (((bit (fs.getD i 0) n:Nat):Int)*2^i)) (by rw[Az];exact Jj (by lia)) b t (λh q=>⟨_,_,U,Ai.of h,U,_,_,U,_,_,U,U,q⟩) ?_ ?_
 ·intro i x H2 N r s2 z;rw[Bu]at r;obtain⟨p,g,rfl⟩:=Dt.mp r;obtain⟨m,d,o⟩:=hm.get g;have y:i<ms.length:=(Fe.mp d).1;have S:Ai K H2 p (L3 m):=Ai.of (s2 _ _ o);have f:Fg (L3 m) pt=some (.int (fs.getD i 0:Nat)):=by
   rcases c with ⟨rfl,rfl⟩ | ⟨rfl,rfl⟩<;>rw[Bp,Bu,d]<;>rfl
  have D:=Ey (fs.getD i 0) n;have C:((fs.getD i 0:Nat):Int) / 2^((n:Int)).toNat=((fs.getD i 0 / 2^n:Nat):Int):=by rw[FN];simp
  refine⟨_,U,_,U,p,_,_,_,U,U,S,f,_,U,_,_,U,U,by lia,_,_,U,U,_,U,?_⟩;show rI YW (λi j=>V.int (i*2^j.toNat)) (V.int (Builtin.bitAnd (((fs.getD i 0:Nat):Int) / 2^((n:Int)).toNat) 1)) (V.int (i:Int)) H2 N;rw[C,R_];refine⟨_,_,U,U,⟨1,?_,by lia,by lia⟩,?_⟩
  ·show ((bit (fs.getD i 0) n:Nat):Int).natAbs<2^1;lia
  ·show N (.int (((bit (fs.getD i 0) n:Nat):Int)*2^((i:Int)).toNat)) H2;rw[FN];exact z
 ·intro H2 s2 s;have e:((ps.map V.ref).mapIdx λi _=>V.int (((bit (fs.getD i 0) n:Nat):Int)*2^i))=(fs.mapIdx λi v=>((bit v n:Nat):Int)*2^i).map V.int:=by
   apply List.ext_getElem
   ·simp[a,fl]
   ·intro i h1 h2;simp only[Az,List.length_mapIdx]at h2;simp[h2]
  rw[e]at s;refine⟨acc,_,U,Ag.of s,?_⟩;have:=wk fs n fs.length (Bd _);rw[Ia]at this;rw[this];exact A H2 s2
theorem X3b(F:Ab K "apart_by" (top 58) .none)(X:K.In h)(G:Ng h mg)(B:Bs mg)(c9:Aj P w K mg base k "ones" ["number"] CZ):Aj P w K mg base (k+1) "apart_by" ["numbers","cells"] (tX K):=by
 refine F.cal X G ["numbers","cells","flips","signs"] λs H vs Q E q h=>?_;obtain⟨l,c,n,rfl,o,D,y,x⟩:=h;have u:((places c (bl c)).map λp=>V.int (p:Nat))=((places c (bl c)).map λp=>((p:Nat):Int)).map V.int:=by rw[Ou];rfl
 rw[u]at o;have hb:bl c<=n+n:=G9.mpr y;have a:∀z∈(places c (bl c)).map λp=>((p:Nat):Int),∃p:Nat,z=p/\p<12:=λz f=>by
  obtain⟨p,hp,rfl⟩:=El.mp f;exact⟨p,U,by have:=Qy hp;lia⟩
 have b:((places c (bl c)).map λp=>((p:Nat):Int)).length<=sizeLine:=by
  rw[Az];exact Jj (E_ (Y6 _ _) (by rw[Tp];lia))
 have hi:=uo c n (bl c);have lo:=sZ c n (bl c);rw[KY (aQ c)]at hi lo;generalize ((places c (bl c)).map λp=>((p:Nat):Int))=ns at *
 refine⟨_,(@Ay _ _ _ _ _ (@BX _ _ 2 _ _ _ _ s rfl (Or.inl rfl) (CJ (lW rfl) rfl B.sum boot_sum (Aa (X6 rfl (BW.of (Nc:=["number","cells"]) (mp:=[none,some 1]) (by kernel_rfl)) (Ei (pv 0)) (λ_ _ _ _=>(Bb (i:=0) (show (["number","cells"]:W0).Nodup by decide +kernel) rfl (Or.inl rfl))) (λ_ _ _ _=>(Bf aR (pv 0) (pv 1) (Ac _))) (λ_ _ _ _=>(Af Gf Ad (Af JH (pv 0) (pv 1))))) Ae)) rfl (.inl rfl))
  (@Ay _ _ _ _ _ (@BX _ _ 3 _ _ _ _ s rfl (Or.inl rfl) (CJ (lW rfl) rfl B.sum boot_sum (Aa (X6 rfl (BW.of (Nc:=["number","cells"]) (mp:=[none,some 1]) (by kernel_rfl)) (Ei (pv 0)) (λ_ _ _ _=>(Bb (i:=0) (show (["number","cells"]:W0).Nodup by decide +kernel) rfl (Or.inl rfl))) (λ_ _ _ _=>(Bf J5 (pv 0) (pv 1) (Ac _))) (λ_ _ _ _=>(Af Gf Ad (pv 0)))) Ae)) rfl (.inl rfl))
  (@Ak _ _ _ (BL (@Cw _ _ _ _ _ (Aa (Af Cv (BP c9 q rfl (Aa (Af Dv (pv 2) (pv 3)) Ae)) Ad) (Aa (pv 2) (Aa (pv 3) Ae)))))))),?_⟩
 try dsimp only[CG]
 refine⟨_,U,l,U,⟨_,o⟩,λacc g=>?_⟩;refine oE (l:=l) (ns:=ns) (fr:=[some (.int n)]) (λz=>decide ((n:Int)<=z)) (λz=>1*2^(z-n).toNat) b g o (λz H2 N _ _ e=>⟨_,U,_,U,_,_,U,U,_,U,e⟩) (λz H2 N f hp _ e=>?_) ?_
 ·obtain⟨p,rfl,m⟩:=a z f;have t:=JR hp;exact⟨_,U,_,U,_,_,U,U,_,_,U,U,⟨1,GQ,by lia,by lia⟩,e⟩
 intro H2 s2 A;refine⟨acc,_,U,Ag.of A,?_⟩;rw[hi];refine⟨_,U,l,U,⟨_,s2.seq o⟩,λj d=>?_⟩;refine oE (l:=l) (ns:=ns) (fr:=[some (.int n)]) (λz=>decide (z<(n:Int))) (λz=>1*2^z.toNat) b d (s2.seq o) (λz H2 N _ _ e=>⟨_,U,_,U,_,_,U,U,_,U,e⟩) (λz H2 N f hp _ e=>?_) ?_
 ·obtain⟨p,rfl,m⟩:=a z f;exact⟨_,U,_,_,U,U,⟨1,GQ,by lia,by lia⟩,e⟩
 intro C s3 v;refine⟨j,_,U,Ag.of v,?_⟩;rw[lo];refine⟨_,U,_,U,_,_,U,U,c / 2^n&&&c%2^n,Ig _ _,_,_,U,U,Jp,_,U,_,U,t3,λr q=>?_⟩;refine x r _ ((s2.trans s3).trans (A_ q _)) ?_;rw[Ar];rfl
noncomputable def comm (a b:Mk):Nat:=(pc (a.2.1&&&b.2.2)+pc (a.2.2&&&b.2.1))%2
structure Gr (N:Nat) (m:Mk):Prop where
 q:m.1<4
 f:m.2.1<2^N
 s:m.2.2<2^N
def YL (ms:List Mk)(mark:Mk)(N:Nat)(H0 H:Hp)(r:W9):Prop :=
 (∃(kk x:Nat) (l:W9),H0 l=none/\H r=some (.tup [.str "made",.int kk,.ref l])/\H l=some (.lst ((places x ms.length).map λp=>V.int (p:Nat)))/\kk<4/\(chosen ms x ms.length).foldl mul (kk,0,0)=mark) \/
 ∃(p:W9) (o:Mk),H r=some (.tup [.str "apart",.ref p])/\H p=some (T3 o)/\Gr N o/\(o.1+pc (o.2.1&&&o.2.2))%2=0/\comm o mark=1/\∀m∈ms,comm o m=0
def lN (K:U0):Sp:=λvs H Q _=>∃(l pm:W9) (ps:U3) (ms:List Mk) (mark:Mk) (N:Nat),vs=[.ref l,.ref pm,.int N]/\Ag K H l (ps.map V.ref)/\Bv H ps ms/\H pm=some (T3 mark)/\N<=6/\ms.length<=12/\(∀m∈ms,Gr N m)/\Gr N mark /\
 ∀(r:W9) (H':Hp),Same H H'->YL ms mark N H H' r->Q (.ref r) H'
theorem Bv.pick{H:Hp}{ps:U3}{ms:List Mk}(h:Bv H ps ms):∀(pl:W3),(∀p∈pl,p<ms.length)->Bv H (pl.map λp=>ps.getD p 0) (pl.map λp=>ms.getD p (0,0,0))
 | [],_=>.nil
 | p::pl,hp=>by
  obtain⟨a,b,e2⟩:=h.at (hp p Mz);refine .cons ?_ (Bv.pick h pl λq c=>hp q (KZ _ c));show H (ps.getD p 0)=_;rw[Bp,b];exact e2
theorem rN{α β:Type}{F:α->β->Prop}{l2:List α}{r2:List β}:∀{l1:List α}{r1:List β},Paired F l1 r1->Paired F l2 r2->Paired F (l1++l2) (r1++r2)
 | [],[],_,h=>h
 | _::_,_::_,.cons a t,h=>.cons a (rN t h)
variable{N:Nat}
theorem X9m(h:∀m∈ms,Gr N m)(j:Nat):(ms.map (·.2.1)).getD j 0<2^N/\(ms.map (·.2.2)).getD j 0<2^N:=by
 rw[Bp,Bp,Bu,Bu];cases e:ms[j]? with
 | none=>exact⟨Cq N,Cq N⟩
 | some m=>exact⟨(h m (Er e)).f,(h m (Er e)).s⟩
noncomputable abbrev both (ms:List Mk)(mark:Mk)(N:Nat):List D_:=eqs (ms.map (·.2.1)) mark.2.1 N++eqs (ms.map (·.2.2)) mark.2.2 N
theorem uY(ms:List Mk)(mark:Mk)(N:Nat):(both ms mark N).length=N+N:=by rw[DP,Uj,Uj]
theorem X9r{fs:W3}{v:Nat}{e:D_}(h:e∈eqs fs v N):∃n,n<N/\e=(Wm fs n fs.length,bit v n):=by
 obtain⟨n,a,rfl⟩:=El.mp h;exact⟨n,Ew.mp a,U⟩
theorem X1j{mark:Mk}(h:ms.length<=12):QH (both ms mark N):=by
 have a:∀e∈both ms mark N,e.2<2/\e.1<2^12:=λe b=>by
  rcases DR.mp b with q | q<;>obtain⟨n,_,rfl⟩:=X9r q
  ·exact⟨Ey _ _,Cu (X7 _ _ _) (Fw (by decide) (by rw[Az];exact h))⟩
  ·exact⟨Ey _ _,Cu (X7 _ _ _) (Fw (by decide) (by rw[Az];exact h))⟩
 exact⟨λe b=>(a e b).1,λe b=>Ov (a e b).2 (Jl (by decide) (by decide))⟩
theorem X4b{mark:Mk}{x:Nat}(hm:∀m∈ms,Gr N m)(hk:Gr N mark)(h:∀e∈both ms mark N,sat x e):(prod (chosen ms x ms.length)).2=mark.2:=by
 have g:=X9m hm;have c:(prod (chosen ms x ms.length)).2.1=mark.2.1:=by
  rw[Uh];refine Ut N _ _ (aK (λj=>(g j).1) _) hk.f λn a=>?_;have:=h (Wm (ms.map (·.2.1)) n (ms.map (·.2.1)).length,bit mark.2.1 n) (JG _ (El.mpr ⟨n,Ew.mpr a,U⟩));rw[Az]at this;rw[oW];exact this
 have b:(prod (chosen ms x ms.length)).2.2=mark.2.2:=by
  rw[Ui];refine Ut N _ _ (aK (λj=>(g j).2) _) hk.s λn a=>?_;have:=h (Wm (ms.map (·.2.2)) n (ms.map (·.2.2)).length,bit mark.2.2 n) (FQ _ (El.mpr ⟨n,Ew.mpr a,U⟩));rw[Az]at this;rw[oW];exact this
 exact Prod.ext c b
theorem Eqs.upd{l:W9}{xs ys:List V}{es:List D_}(h:Eqs H ps es)(hl:H l=some (.lst xs)):Eqs (upd H l (.lst ys)) ps es :=
 Paired.imp' (λ_ _ c=>by rw[Cd (J0 c hl (by intro z;cases z))];exact c) h
theorem VR{a b:Nat}(ha:a<2)(hb:b<2):a^^^b=(a+b)%2:=by
 have:=Pn a b;have c:a / 2=0:=by lia
 have d:b / 2=0:=by lia
 rw[c,d]at this;have q:(0^^^0:Nat)=0:=rfl;lia
theorem Y6y{mark:Mk}{c:Nat}(hc:c<2^(N+N))(h:comb (both ms mark N) c=(0,1)):
  comm (pc (c / 2^N&&&c%2^N)%4,c / 2^N,c%2^N) mark=1/\∀m∈ms,comm (pc (c / 2^N&&&c%2^N)%4,c / 2^N,c%2^N) m=0:=by
 rw[Zq,Uj]at h;have hd:c / 2^N%2^N=c / 2^N:=KY (by rw[RJ]at hc;exact Nat.div_lt_of_lt_mul hc);constructor
 ·have h2:(comb (eqs (ms.map (·.2.1)) mark.2.1 N) c).2^^^(comb (eqs (ms.map (·.2.2)) mark.2.2 N) (c / 2^N)).2=1:=congrArg Prod.snd h;rw[nq,nq,hd,VR (Eu _ (by decide)) (Eu _ (by decide))]at h2;unfold comm;show (pc (c / 2^N&&&mark.2.2)+pc (c%2^N&&&mark.2.1))%2=1;lia
 ·intro m hm;obtain⟨j,a,rfl⟩:=O8.mp hm;have h1:(comb (eqs (ms.map (·.2.1)) mark.2.1 N) c).1^^^(comb (eqs (ms.map (·.2.2)) mark.2.2 N) (c / 2^N)).1=0:=congrArg Prod.fst h;have b:bit ((comb (eqs (ms.map (·.2.1)) mark.2.1 N) c).1^^^(comb (eqs (ms.map (·.2.2)) mark.2.2 N) (c / 2^N)).1) j=bit 0 j:=by rw[h1]
  rw[DG.JW,nj _ _ _ _ (by rw[Az];exact a),nj _ _ _ _ (by rw[Az];exact a),hd,Nm]at b;have d:(ms.map (·.2.1)).getD j 0=ms[j].2.1:=by rw[Bp,Bu,Cm a];rfl
  have e2:(ms.map (·.2.2)).getD j 0=ms[j].2.2:=by rw[Bp,Bu,Cm a];rfl
  rw[d,e2]at b;unfold comm;show (pc (c / 2^N&&&ms[j].2.2)+pc (c%2^N&&&ms[j].2.1))%2=0;lia
theorem Y9b(F:Ab K "made_of" (top 55) .none)(X:K.In h)(G:Ng h mg)(B:Bs mg)(cZ:Aj P w K mg base k "rows_with" ["rows","part","cell"] (rG K))(gE:Aj P w K mg base k "solved" ["equations"] (vY K))
  (eK:Aj P w K mg base k "apart_by" ["numbers","cells"] (tX K)) (dZ:Aj P w K mg base k "product_of" ["marks"] (rR K)):Aj P w K mg base (k+1) "made_of" ["rows","mark","cells"] (lN K):=by
 refine F.cal X G ["rows","mark","cells","flips","signs","told","numbers","made"] λJ H vs Q E a h=>?_;obtain⟨l,pm,ps,ms,mark,N,rfl,hS,hm,u,hN,a4,b4,I,kq⟩:=h;have a0:=hm.length
 refine⟨_,(@Ay _ _ _ _ _ (Qw (i:=3) rfl J rfl rfl (BW.of (Nc:=["cell","rows","mark"]) (mp:=[none,some 0,some 1]) (by kernel_rfl)) (HN rfl B.range (Aa (pv 2) Ae)) (λ_ _ _ _=>(Bb (i:=0) (show (["cell","rows","mark"]:W0).Nodup by decide +kernel) rfl (Or.inl rfl))) (λ_ _ _ _=>(@Cw _ _ _ _ _ (Aa (BP cZ a rfl (Aa (pv 1) (Aa Ad (Aa (pv 0) Ae)))) (Aa (Af Dv (Af NZ (Ao Km (pv 2) Ad (λ_ _=>rfl)) (pv 0)) Ad) Ae)))) rfl)
  (@Ay _ _ _ _ _ (Qw (i:=4) rfl J rfl rfl (BW.of (Nc:=["cell","rows","mark"]) (mp:=[none,some 0,some 1]) (by kernel_rfl)) (HN rfl B.range (Aa (pv 2) Ae)) (λ_ _ _ _=>(Bb (i:=0) (show (["cell","rows","mark"]:W0).Nodup by decide +kernel) rfl (Or.inl rfl))) (λ_ _ _ _=>(@Cw _ _ _ _ _ (Aa (BP cZ a rfl (Aa (pv 1) (Aa Ad (Aa (pv 0) Ae)))) (Aa (Af Dv (Af NZ (Ao Km (pv 2) Ad (λ_ _=>rfl)) (pv 0)) Ad) Ae)))) rfl)
  (@Ay _ _ _ _ _ (@BX _ _ 5 _ _ _ _ J rfl (Or.inr rfl) (BP gE a rfl (Aa (Af Ud (pv 3) (pv 4)) Ae)) rfl (.inl rfl))
  (@Ay _ _ _ _ _ (Bx (Bf Z2 (Ao BK (pv 5) Ad (λ_ _=>rfl)) Nb (Ac _))
   (@Ak _ _ _ (BL (@Cw _ _ _ _ _ (Aa Gb (Aa (BP eK a rfl (Aa (Ao BK (pv 5) Ad (λ_ _=>rfl)) (Aa (pv 2) Ae))) Ae)))))
   B_)
  (@Ay _ _ _ _ _ (Xw (i:=6) rfl J rfl rfl (BW.of (Nc:=["place","told"]) (mp:=[none,some 5]) (by kernel_rfl)) (HN rfl B.range (Aa (CJ GP rfl B.len Fv (Aa (pv 0) Ae)) Ae)) (λ_ _ _ _=>(Bb (i:=0) (show (["place","told"]:W0).Nodup by decide +kernel) rfl (Or.inl rfl))) (λ_ _ _ _=>(Nj (Af Dv (Af NZ (Ao Km (pv 1) Ad (λ_ _=>rfl)) (pv 0)) Ad) (by intro _;rfl))) (λ_ _ _ _=>(pv 0)) rfl)
  (@Ay _ _ _ _ _ (@BX _ _ 7 _ _ _ _ J rfl (Or.inl rfl) (BP dZ a rfl (Aa (Gp rfl (BW.of (Nc:=["place","rows"]) (mp:=[none,some 0]) (by kernel_rfl)) (Ei (pv 6)) (λ_ _ _ _=>(Bb (i:=0) (show (["place","rows"]:W0).Nodup by decide +kernel) rfl (Or.inl rfl))) (λ_ _ _ _=>(Ao ux (pv 1) (pv 0) (λ_ _=>rfl)))) Ae)) rfl (.inl rfl))
  (@Ak _ _ _ (BL (@Cw _ _ _ _ _ (Aa Gb (Aa (Af Cv (Af JH (Ao BK (pv 1) Ad (λ_ _=>rfl)) (Ao BK (pv 7) Ad (λ_ _=>rfl))) Ad) (Aa (pv 6) Ae)))))))))))),?_⟩
 try dsimp only[CG]
 refine⟨_,U,_,U,by lia,by lia,λa1 Y=>?_⟩;rw[FN];refine SN (n:=N) (fr:=[some (.ref l),some (.ref pm)]) (λi ys H'=>Same H H'/\H' a1=some (.lst ys)/\∃qs:List Addr,ys=qs.map V.ref/\Eqs H' qs (eqs (ms.map (·.2.1)) mark.2.1 i)) (Jj (by lia)) ⟨A_ Y _,Ar,[],U,.nil⟩ ?_ ?_
 ·rintro i ys H2 NN hi hl ⟨s2,b,qs,rfl,y⟩ g;have m:(0:Int)+(i:Int)=(i:Int):=H_ _;refine⟨_,U,_,U,l,ps,ms,1,_,i,(by rw[m];rfl),s2.seq hS,hm.same s2,by lia,.inl ⟨U,U⟩,λH3 s3=>?_⟩;have t:Ai K H3 pm (L3 mark):=Ai.of (s3 _ _ (s2 _ _ u));have j:(mark.2.1:Int) / 2^(0+(i:Int)).toNat=((mark.2.1 / 2^i:Nat):Int):=by rw[m,FN];simp
  refine⟨_,U,pm,_,_,_,U,U,t,U,_,U,_,_,U,U,by lia,_,_,U,U,t2,λr a=>?_⟩;have d:=A_ a (.tup [.int (Wm (ms.map (·.2.1)) i (ms.map (·.2.1)).length:Nat),.int (Builtin.bitAnd ((mark.2.1:Int) / 2^(0+(i:Int)).toNat) 1)]);have hn:a1≠r:=Nt (s3 _ _ b) a;refine g _ _ (d _ _ (s3 _ _ b)) ⟨Dj ((s2.trans s3).trans d) Y,Ar,qs++[r],by rw[Ca];rfl,?_⟩;rw[ZX];refine Paired.snoc (((y.same s3).same d).upd (d _ _ (s3 _ _ b))) ?_;rw[Cd (Ne.symm hn),Ar];show some (HO.tup [.int _,.int (Builtin.bitAnd ((mark.2.1:Int) / 2^(0+(i:Int)).toNat) 1)])=_;rw[j,R_];rfl
 rintro ys H1 b7 ⟨S1,c1,T,rfl,W⟩;refine⟨_,U,_,U,by lia,by lia,λa2 a7=>?_⟩;rw[FN];refine SN (n:=N) (fr:=[some (.ref l),some (.ref pm)]) (λi ys H'=>Same H1 H'/\H' a2=some (.lst ys)/\∃qs:List Addr,ys=qs.map V.ref/\Eqs H' qs (eqs (ms.map (·.2.2)) mark.2.2 i)) (Jj (by lia)) ⟨A_ a7 _,Ar,[],U,.nil⟩ ?_ ?_
 ·rintro i ys H2 NN hi hl ⟨s2,b,qs,rfl,y⟩ g;have m:(0:Int)+(i:Int)=(i:Int):=H_ _;refine⟨_,U,_,U,l,ps,ms,2,_,i,(by rw[m];rfl),s2.seq (S1.seq hS),(hm.same S1).same s2,by lia,.inr ⟨U,U⟩,λH3 s3=>?_⟩;have t:Ai K H3 pm (L3 mark):=Ai.of (s3 _ _ (s2 _ _ (S1 _ _ u)));have j:(mark.2.2:Int) / 2^(0+(i:Int)).toNat=((mark.2.2 / 2^i:Nat):Int):=by rw[m,FN];simp
  refine⟨_,U,pm,_,_,_,U,U,t,U,_,U,_,_,U,U,by lia,_,_,U,U,t2,λr a=>?_⟩;have d:=A_ a (.tup [.int (Wm (ms.map (·.2.2)) i (ms.map (·.2.2)).length:Nat),.int (Builtin.bitAnd ((mark.2.2:Int) / 2^(0+(i:Int)).toNat) 1)]);have hn:a2≠r:=Nt (s3 _ _ b) a;refine g _ _ (d _ _ (s3 _ _ b)) ⟨Dj ((s2.trans s3).trans d) a7,Ar,qs++[r],by rw[Ca];rfl,?_⟩;rw[ZX];refine Paired.snoc (((y.same s3).same d).upd (d _ _ (s3 _ _ b))) ?_;rw[Cd (Ne.symm hn),Ar];show some (HO.tup [.int _,.int (Builtin.bitAnd ((mark.2.2:Int) / 2^(0+(i:Int)).toNat) 1)])=_;rw[j,R_];rfl
 rintro ys H2 b8 ⟨S2,b,M,rfl,S⟩;have b5:=S1.trans S2;have b6:=W.length;have a9:=S.length;rw[Uj]at b6 a9;refine⟨_,U,_,U,a1,a2,_,_,U,U,S2 _ _ c1,b,(by rw[Az,Az];exact Jj (by lia)),λcl b3=>?_⟩;have t:=A_ b3 (.lst (T.map V.ref++M.map V.ref));refine⟨cl,T++M,both ms mark N,U,?_,?_,X1j a4,by rw[uY];lia,λrt H4 S4 R=>?_⟩
 ·rw[Ca];exact Ag.of Ar
 ·exact rN ((W.same S2).same t) (S.same t)
 have SS:=b5.trans (t.trans S4);rcases R with ⟨x,a,hs⟩ | ⟨c,q,a,y,clt,hc⟩
 ·have ST:Ai K H4 rt [.int x,.non]:=Ai.of a;refine⟨_,U,rt,_,_,_,U,U,ST,U,U,_,U,Gw (λz=>absurd (JR z) (by intro z;cases z)) (λ_=>?_)⟩;have lm:(ps.map V.ref).length=ms.length:=by rw[Az,a0]
  refine⟨_,U,l,_,U,.inl (SS.seq hS),_,U,by lia,by lia,λa5 o=>?_⟩;rw[FN,lm];refine Xu (n:=ms.length) (fr:=[some (.ref rt)]) (λi ys H'=>Same H4 H'/\H' a5=some (.lst ys)/\ys=(places x i).map λp=>V.int (p:Nat)) (Jj (by lia)) ⟨A_ o _,Ar,U⟩ ?_ (λhm z=>?_) ?_
  ·rintro i ys H5 NN hi hl ⟨s5,D,rfl⟩ g;have m:(0:Int)+(i:Int)=(i:Int):=H_ _;have j:(x:Int) / 2^(0+(i:Int)).toNat=((x / 2^i:Nat):Int):=by rw[m,FN];simp
   refine⟨_,U,rt,_,_,_,U,U,Ai.of (s5 _ _ a),U,_,U,_,_,U,U,by lia,_,_,U,U,_,U,?_⟩;have f:=Xz x i;show NN (Builtin.bitAnd ((x:Int) / 2^(0+(i:Int)).toNat) 1 != 0) H5;rw[j,R_];refine g _ _ (λa8=>?_) (λO=>?_)
   ·have h1:x / 2^i%2=1:=by
     have:x / 2^i%2≠0:=λz=>by rw[z]at a8;cases a8
     lia
    rw[if_pos h1]at f;refine⟨_,U,D,Dj s5 o,Ar,?_⟩;rw[f,Ca,m];rfl
   ·have h0:¬ x / 2^i%2=1:=λz=>by rw[z]at O;cases O
    rw[if_neg h0,Oz]at f;exact⟨s5,D,by rw[f]⟩
  ·obtain⟨v,e,qq⟩:=z;exact⟨v,e,hm _ _ qq⟩
  rintro ys H5 ⟨S5,D,rfl⟩;have a3:=SS.trans S5;have em:((places x ms.length).map λp=>V.int (p:Nat))=((places x ms.length).map λp=>((p:Nat):Int)).map V.int:=by rw[Ou];rfl
  have s:=D;rw[em]at s;have Rh:(places x ms.length).length<=12:=E_ (Y6 _ _) (by rw[Tp];exact a4);refine⟨_,U,a5,U,⟨_,Ag.of s⟩,λa6 b0=>?_⟩;refine X3j (ns:=(places x ms.length).map λp=>((p:Nat):Int)) (fr:=[some (.ref l)]) (λz=>.ref (ps.getD z.toNat 0)) (Ag.of s) (by rw[Az];exact Jj (by lia)) b0 (λz H6 NN hz s6 g=>?_) ?_
  ·obtain⟨p,hp,rfl⟩:=El.mp hz;obtain⟨pa,j,_⟩:=hm.at (Qy hp);have eg:ps.getD p 0=pa:=by rw[Bp,j];rfl
   refine⟨_,U,_,U,l,_,_,_,U,U,s6.seq (a3.seq hS),J6 (v:=.ref pa) (by rw[Bu,j];rfl),?_⟩;rw[FN,eg]at g;exact g
  intro H6 S6 c6;have C:=a3.trans S6;refine⟨a6,(places x ms.length).map (λp=>ps.getD p 0),chosen ms x ms.length,U,?_,(hm.same C).pick _ (λp hp=>Qy hp),λrp H7 S7 sp=>?_⟩
  ·rw[Ou]at c6;rw[Ou];exact Ag.of c6
  have L:=C.trans S7;have SM:Ai K H7 pm (L3 mark):=Ai.of (L _ _ u);have pq:=nH (chosen ms x ms.length) (0,0,0) (by decide);have bs:=X4b b4 I hs;have qk:=I.q;refine⟨_,U,pm,_,_,_,U,U,SM,U,_,U,rp,_,_,_,U,U,sp,U,_,_,U,U,_,_,U,U,Jp,_,U,t3,λr Z=>?_⟩;have e7:(((mark.1:Int)-((prod (chosen ms x ms.length)).1:Nat))%4)=(((((mark.1:Int)-((prod (chosen ms x ms.length)).1:Nat))%4).toNat:Nat):Int):=by lia
  refine kq r _ (L.trans (A_ Z _)) (.inl ⟨(((mark.1:Int)-((prod (chosen ms x ms.length)).1:Nat))%4).toNat,x,a5,SS.free o,?_,A_ Z _ _ _ (S7 _ _ (S6 _ _ D)),by lia,?_⟩)
  ·rw[Ar];show some (HO.tup [.str "made",.int (((mark.1:Int)-((prod (chosen ms x ms.length)).1:Nat))%4),.ref a5])=_;rw[<-e7]
  ·rw[mH (by lia),bs];have b9:(prod (chosen ms x ms.length)).1<4:=pq;refine Prod.ext ?_ rfl;show ((((mark.1:Int)-((prod (chosen ms x ms.length)).1:Nat))%4).toNat+(prod (chosen ms x ms.length)).1)%4=mark.1;lia
 ·have ST:Ai K H4 rt [.non,.ref q]:=Ai.of a;rw[uY]at clt;refine⟨_,U,rt,_,_,_,U,U,ST,U,U,_,U,Dc ?_⟩;refine⟨_,U,rt,_,_,_,U,U,ST,U,_,U,q,c,N,U,Ag.of y,hN,clt,λra H5 S5 ha=>⟨t2,λr A=>?_⟩⟩;obtain⟨b1,b2⟩:=Y6y clt hc;refine kq r _ ((SS.trans S5).trans (A_ A _)) (.inr ⟨ra,_,Ar,A_ A _ _ _ ha,⟨Eu _ (by decide),?_,Eu _ (Cq N)⟩,?_,b1,b2⟩)
  ·rw[RJ]at clt;exact Nat.div_lt_of_lt_mul clt
  ·show (pc (c / 2^N&&&c%2^N)%4+pc (c / 2^N&&&c%2^N))%2=0;lia
theorem Ru(K:U0):PySem.W.kitOne K (.type "list") (.type "list")=some true:=by unfold PySem.W.kitOne;rw[if_pos (by decide)]
theorem X5(K:U0):PySem.W.kitOne K (.type "tuple") (.type "tuple")=some true:=by unfold PySem.W.kitOne;rw[if_pos (by decide)]
def Pr:Sp:=λvs H Q _=>∃i:Int,vs=[.int i]/\Q (.bl true) H
def wW (K:U0):Sp:=λvs H Q _=>∃(p p':W9) (m m':Mk),vs=[.ref p,.ref p']/\Ai K H p (L3 m)/\Ai K H p' (L3 m')/\Q (.bl (decide (comm m m'=0))) H
end
end Ah
namespace CT
open Pc JL DG
noncomputable def xs (fs:W3)(c:Nat->Bool):Nat->Nat
 | 0=>0
 | m+1=>if c m then xs fs c m^^^fs.getD m 0 else xs fs c m
theorem Lz(fs:W3)(x:Nat):∀m,Xm fs x m=xs fs (λj=>decide (bit x j=1)) m
 | 0=>rfl
 | m+1=>by
  unfold Xm xs;rw[Lz fs x m];by_cases h:bit x m=1<;>simp[h]
theorem Py{fs gs:W3}{c d:Nat->Bool}:∀m,(∀j,j<m->c j=d j/\fs.getD j 0=gs.getD j 0)->xs fs c m=xs gs d m
 | 0,_=>rfl
 | m+1,h=>by
  unfold xs;rw[Py m λj a=>h j (by lia),(h m (by lia)).1,(h m (by lia)).2]
noncomputable def Du (ms:List Mk):List Nat:=ms.map (·.2.1)
noncomputable def Di (ms:List Mk):List Nat:=ms.map (·.2.2)
def Indep (ms:List Mk):Prop:=∀c:Nat->Bool,xs (Du ms) c ms.length=0->xs (Di ms) c ms.length=0->∀j,j<ms.length->c j=false
theorem uX(c:Nat->Bool){fs:W3}(n:Nat):∀m,(∀j,j<m->fs.getD j 0=2^j)->bit (xs fs c m) n=if n<m/\c n=true then 1 else 0
 | 0,_=>by unfold xs;rw[Nm];simp
 | m+1,h=>by
  have a:=uX c (fs:=fs) n m λj b=>h j (by lia);unfold xs;split
  ·rename_i hc;rw[DG.JW,a,h m (by lia),yt];by_cases e:n=m
   ·subst e;simp[hc]
   ·by_cases e2:n<m
    ·simp[e2,e,show n<m+1 by lia];split<;>decide
    ·simp[e2,e,show ¬ n<m+1 by lia]
  ·rename_i hc;rw[a];by_cases e:n=m
   ·subst e;simp[hc]
   ·by_cases e2:n<m
    ·simp[e2,show n<m+1 by lia]
    ·simp[e2,show ¬ n<m+1 by lia]
theorem Y3g(N:Nat):Indep ((List.range N).map λj=>((0,0,2^j):Mk)):=λc _ d j a=>by
 rw[Az,Tp]at *;have e:∀j,j<N->(Di ((List.range N).map λj=>((0,0,2^j):Mk))).getD j 0=2^j:=λj a=>by
  unfold Di;simp[a]
 have b:=uX c j N e;rw[d,Nm]at b;cases hc:c j with
 | false=>rfl
 | true=>rw[if_pos ⟨a,hc⟩]at b;cases b
theorem Ri(o a b:Nat):pc (o&&&(a^^^b))%2=(pc (o&&&a)+pc (o&&&b))%2:=by rw[Qh];exact K1 _ _
theorem nQ{fs:W3}{c:Nat->Bool}{o:Nat}:∀m,xs fs (λj=>if j=o then !c j else c j) m=if o<m then xs fs c m^^^fs.getD o 0 else xs fs c m
 | 0=>by simp[xs]
 | m+1=>by
  have a:=nQ (fs:=fs) (c:=c) (o:=o) m;unfold xs;by_cases e:m=o
  ·subst e;rw[a];cases c m<;>simp[Fq]
  ·rw[a];simp only[e,HY];by_cases lt:o<m
   ·simp only[lt,JC,show o<m+1 by lia];cases c m
    ·simp
    ·simp only[JC];rw[Fq,Fq,JN (fs.getD o 0)]
   ·simp only[lt,HY,show ¬ o<m+1 by lia]
theorem m5{fs gs:W3}{c:Nat->Bool}{t g:Nat}(ht:gs.getD t 0=fs.getD t 0^^^g):∀m,(∀j,j<m->j≠t->gs.getD j 0=fs.getD j 0)->xs gs c m=if t<m/\c t=true then xs fs c m^^^g else xs fs c m
 | 0,_=>by simp[xs]
 | m+1,h=>by
  have a:=m5 ht (c:=c) m λj b=>h j (by lia);unfold xs;by_cases e:m=t
  ·subst e;rw[a,ht];cases hc:c m<;>simp[Fq]
  ·rw[a,h m (by lia) e];by_cases lt:t<m
   ·cases hc:c m<;>cases hct:c t<;>simp[lt,show t<m+1 by lia,Fq,JN]
   ·simp[lt,show ¬ t<m+1 by lia]
variable{ms rs:List Mk}
theorem X0h{t o:Nat}(hl:rs.length=ms.length)(hto:t≠o)(ht:t<ms.length)(ho:o<ms.length)
  (h1:(Du rs).getD t 0=(Du ms).getD t 0^^^(Du ms).getD o 0/\(Di rs).getD t 0=(Di ms).getD t 0^^^(Di ms).getD o 0)
  (h2:∀j,j<ms.length->j≠t->(Du rs).getD j 0=(Du ms).getD j 0/\(Di rs).getD j 0=(Di ms).getD j 0) (I:Indep ms):Indep rs:=by
 intro c d b j a;rw[hl]at d b a;rw[m5 h1.1 ms.length λj a n=>(h2 j a n).1]at d;rw[m5 h1.2 ms.length λj a n=>(h2 j a n).2]at b;cases hct:c t with
 | false =>
  simp only[hct,Mx,and_false,HY]at d b;exact I c d b j a
 | true =>
  simp only[hct,ht,and_self,JC]at d b;have e:=nQ (fs:=Du ms) (c:=c) (o:=o) ms.length;have e2:=nQ (fs:=Di ms) (c:=c) (o:=o) ms.length;rw[if_pos ho]at e e2;have:=I (λj=>if j=o then !c j else c j) (e.trans d) (e2.trans b) t ht;simp[hto,hct]at this
variable{x y:Nat}
theorem X0i(I:Indep ms)(hx:x<2^ms.length)(hy:y<2^ms.length)(hf:Xm (Du ms) x ms.length=Xm (Du ms) y ms.length)(hs:Xm (Di ms) x ms.length=Xm (Di ms) y ms.length):x=y:=by
 have a:∀(fs:W3) m,Xm fs (x^^^y) m=Xm fs x m^^^Xm fs y m:=by
  intro fs m;induction m with
  | zero=>show 0=0^^^0;simp
  | succ m ih =>
   have b:=DG.JW m x y;have g:=Ey x m;have d:=Ey y m;unfold Xm;rw[ih,b];rcases (by lia:bit x m=0\/bit x m=1) with z | z<;>rcases (by lia:bit y m=0\/bit y m=1) with u | u<;>rw[z,u]
   ·simp
   ·simp[Fq]
   ·simp only[show (1+0)%2=1 from rfl,JC,show ¬ (0=1) by decide,HY];rw[Fq,Fq,JN (Xm fs y m)]
   ·simp only[show ¬ ((1+1)%2=1) by decide,JC,HY];rw[Fq,JN (Xm fs y m) (fs.getD m 0),<-Fq (fs.getD m 0),JQ,Nat.zero_xor]
 have c:Xm (Du ms) (x^^^y) ms.length=0:=by rw[a,hf,JQ]
 have zs:Xm (Di ms) (x^^^y) ms.length=0:=by rw[a,hs,JQ]
 rw[Lz]at c zs;refine Ut ms.length x y hx hy λn e=>?_;have f:=Wa (I _ c zs n e);have b:=DG.JW n x y;have h:=Ey x n;have d:=Ey y n;lia
theorem Y2p(m:Nat)(h:∀n,n<m->bit x n=bit y n):places x m=places y m:=by
 unfold places;refine List.filter_congr λp hp=>?_;have:=h p (Ew.mp hp);unfold bit at this;simp only[this]
theorem Y3m(ms:List Mk)(m:Nat)(h:∀n,n<m->bit x n=bit y n):chosen ms x m=chosen ms y m:=by
 unfold chosen;rw[Y2p m h]
theorem yr(x m:Nat){n:Nat}(h:n<m):bit (x%2^m) n=bit x n:=by
 have t:=Nat.testBit_mod_two_pow x m n;rw[UG,UG,Dr h,Ym,WW]at t;have a:=Ey (x%2^m) n;have b:=Ey x n;unfold bit at *;lia
theorem Ss(ms:List Mk)(x m:Nat):chosen ms (x%2^m) m=chosen ms x m:=Y3m ms m λn a=>yr x m a
theorem P_(ms:List Mk){x i:Nat}(h:x<2^i):∀d,chosen ms x (i+d)=chosen ms x i
 | 0=>rfl
 | d+1=>by
  rw[<-bw,QB,if_neg (by rw[R6 h (by lia)];decide),Oz];exact P_ ms h d
noncomputable def E (ms:List Mk)(x:Nat):Mk:=prod (chosen ms x ms.length)
theorem zN(ms:List Mk)(x:Nat):E ms (x%2^ms.length)=E ms x:=by unfold E;rw[Ss]
theorem Ub(ms:List Mk):E ms 0=(0,0,0):=by
 unfold E;have:=P_ ms (x:=0) (i:=0) (by decide) ms.length;rw[Ox]at this;rw[this];rfl
theorem oY(ms:List Mk){i:Nat}(hx:x<2^i)(hi:i<ms.length):E ms (x+2^i)=mul (E ms x) (ms.getD i (0,0,0)):=by
 obtain⟨d,hd⟩:∃d,ms.length=i+1+d:=⟨ms.length-(i+1),by lia⟩;have lt:x+2^i<2^(i+1):=by rw[Mt];lia
 have b:bit (x+2^i) i=1:=by
  unfold bit;rw[fH _ (Cq i),Qd hx]
 have lo:chosen ms (x+2^i) i=chosen ms x i:=by
  rw[<-Ss,fJ,KY hx]
 have a:chosen ms (x+2^i) ms.length=chosen ms x i++[ms.getD i (0,0,0)]:=by
  rw[hd,P_ ms lt d,QB,if_pos b,lo]
 have e2:chosen ms x ms.length=chosen ms x i:=by
  rw[hd,bw];exact P_ ms hx _
 unfold E;rw[a,e2];unfold prod;rw[O6];rfl
theorem zO(ms:List Mk){i:Nat}(hi:i<ms.length)(q:(ms.getD i (0,0,0)).1<4):E ms (2^i)=ms.getD i (0,0,0):=by
 have:=oY ms (x:=0) (Cq i) hi;rw[Ox,Ub]at this;rw[this];revert q;generalize ms.getD i (0,0,0)=z;obtain⟨a,b,c⟩:=z;intro q;unfold mul;simp[Gx,KY q]
theorem Sv(I:Indep ms)(hx:x<2^ms.length)(hy:y<2^ms.length)(h:(E ms x).2=(E ms y).2):x=y:=by
 refine X0i I hx hy ?_ ?_
 ·have:=congrArg Prod.fst h;unfold E at this;rw[Uh,Uh]at this;exact this
 ·have:=congrArg Prod.snd h;unfold E at this;rw[Ui,Ui]at this;exact this
def In (ms:List Mk)(m:Mk):Prop:=∃x,x<2^ms.length/\E ms x=m
theorem W6t{m:Mk}(h:(chosen ms x ms.length).foldl mul (0,0,0)=m):In ms m:=⟨x%2^ms.length,Eu _ (Cq _),by rw[zN];exact h⟩
theorem fget(ms:List Mk)(j:Nat):(Du ms).getD j 0=(ms.getD j (0,0,0)).2.1:=by
 unfold Du;rw[Bp,Bp,Bu];cases ms[j]?<;>rfl
theorem Hj(ms:List Mk)(j:Nat):(Di ms).getD j 0=(ms.getD j (0,0,0)).2.2:=by
 unfold Di;rw[Bp,Bp,Bu];cases ms[j]?<;>rfl
theorem Y3h(hl:rs.length=ms.length)(h:∀j,j<ms.length->(rs.getD j (0,0,0)).2=(ms.getD j (0,0,0)).2)(I:Indep ms):Indep rs:=by
 intro c d b j a;rw[hl]at d b a;refine I c ?_ ?_ j a
 ·rw[<-d];exact(Py _ λj a=>⟨U,by rw[fget,fget,h j a]⟩).symm
 ·rw[<-b];exact(Py _ λj a=>⟨U,by rw[Hj,Hj,h j a]⟩).symm
end CT
namespace Bh
open Pc JL DG CT
structure CK (v n:Nat):Prop where
 one:bit v n=1
 low:∀m,m<n->bit v m=0
variable{n:Nat}
theorem CK.uniq{v n':Nat}(h:CK v n)(h':CK v n'):n=n':=by
 rcases Nat.lt_trichotomy n n' with lt | e | lt
 ·have:=h'.low n lt;rw[h.one]at this;cases this
 ·exact e
 ·have:=h.low n' lt;rw[h'.one]at this;cases this
structure Red (vs ls:W3):Prop where
 len:ls.length=vs.length
 ld:∀i,i<vs.length->CK (vs.getD i 0) (ls.getD i 0)
 off:∀i j,i<vs.length->j<vs.length->i≠j->bit (vs.getD i 0) (ls.getD j 0)=0
 rise:ls.Pairwise (·<·)
noncomputable def cm (a b:Mk):Nat:=(pc (a.2.1&&&b.2.2)+pc (a.2.2&&&b.2.1))%2
def ev (a:Mk):Prop:=(a.1+pc (a.2.1&&&a.2.2))%2=0
theorem mul_assoc(a b c:Mk):mul (mul a b) c=mul a (mul b c):=by
 have h1:=K1 (a.2.2&&&c.2.1) (b.2.2&&&c.2.1);have h2:=K1 (a.2.2&&&b.2.1) (a.2.2&&&c.2.1);rw[<-Wd]at h1;rw[<-Qh]at h2;unfold mul;refine Prod.ext ?_ (Prod.ext (Fq _ _ _) (Fq _ _ _));show ((a.1+b.1+2*pc (a.2.2&&&b.2.1))%4+c.1+2*pc ((a.2.2^^^b.2.2)&&&c.2.1))%4=(a.1+(b.1+c.1+2*pc (b.2.2&&&c.2.1))%4+2*pc (a.2.2&&&(b.2.1^^^c.2.1)))%4;lia
theorem mul_comm{a b:Mk}(h:cm a b=0):mul a b=mul b a:=by
 unfold cm at h;unfold mul;refine Prod.ext ?_ (Prod.ext (JN _ _) (JN _ _));show (a.1+b.1+2*pc (a.2.2&&&b.2.1))%4=(b.1+a.1+2*pc (b.2.2&&&a.2.1))%4;rw[GX b.2.2 a.2.1];lia
variable{a:Mk}
theorem mul_one(h:a.1<4):mul a (0,0,0)=a:=by
 obtain⟨q,f,s⟩:=a;unfold mul;simp[Gx,KY h]
theorem one_mul{a:Mk}(h:a.1<4):mul (0,0,0) a=a:=by
 obtain⟨q,f,s⟩:=a;unfold mul;simp[Gx,KY h]
theorem vD(h:ev a):mul a a=(0,0,0):=by
 unfold ev at h;unfold mul;rw[JQ,JQ,GX];refine Prod.ext ?_ rfl;show (a.1+a.1+2*pc (a.2.1&&&a.2.2))%4=0;lia
theorem Zx(o a b:Mk):cm o (mul a b)=(cm o a+cm o b)%2:=by
 unfold cm mul;show (pc (o.2.1&&&(a.2.2^^^b.2.2))+pc (o.2.2&&&(a.2.1^^^b.2.1)))%2=_;rw[Qh,Qh];have h1:=K1 (o.2.1&&&a.2.2) (o.2.1&&&b.2.2);have h2:=K1 (o.2.2&&&a.2.1) (o.2.2&&&b.2.1);lia
theorem R7(a b:Mk):cm a b=cm b a:=by
 unfold cm;rw[GX a.2.1,GX a.2.2,j5]
structure En (ms:List Mk):Prop where
 q:∀m∈ms,m.1<4
 even:∀m∈ms,ev m
 com:∀m∈ms,∀r∈ms,cm m r=0
def G (ms:List Mk)(m:Nat)(g:Mk):Prop:=∃x,g=prod (chosen ms x m)
variable{ms:List Mk}{m:Nat}{g:Mk}
theorem QG(h:G ms m g):g.1<4:=by
 obtain⟨x,rfl⟩:=h;exact nH _ _ (by decide)
theorem KJ(h:G ms m g):G ms (m+1) g:=by
 obtain⟨x,rfl⟩:=h;refine⟨x%2^m,?_⟩;rw[P_ ms (Eu _ (Cq m)) 1,Ss]
theorem o9(h:G ms m g):G ms (m+1) (mul g (ms.getD m (0,0,0))):=by
 obtain⟨x,rfl⟩:=h;have a:=Eu x (Cq m);refine⟨x%2^m+2^m,?_⟩;have b:bit (x%2^m+2^m) m=1:=by
  unfold bit;rw[fH _ (Cq m),Qd a]
 rw[QB,if_pos b,<-Ss ms (x%2^m+2^m),fJ,Nat.mod_mod,Ss];unfold prod;rw[O6];rfl
theorem Xd(h:G ms (m+1) g):G ms m g\/∃g',G ms m g'/\g=mul g' (ms.getD m (0,0,0)):=by
 obtain⟨x,rfl⟩:=h;rw[QB];split
 ·refine .inr ⟨_,⟨x,U⟩,?_⟩;unfold prod;rw[O6];rfl
 ·rw[Oz];exact .inl ⟨x,U⟩
variable{i:Nat}
theorem G8(h:i<ms.length):ms.getD i (0,0,0)∈ms:=by rw[Bp,Cm h];exact Oa h
theorem W4h(o:Mk):cm o (0,0,0)=0:=by unfold cm;simp[Gx]
theorem QD{ms:List Mk}{o:Mk}(ho:∀r∈ms,cm o r=0):∀{m:Nat}{g:Mk},m<=ms.length->G ms m g->cm o g=0
 | 0,g,_,⟨x,e⟩=>by rw[e];exact W4h o
 | m+1,g,hm,h=>by
  rcases Xd h with q | ⟨g',q,rfl⟩
  ·exact QD ho (by lia) q
  ·rw[Zx,QD ho (by lia) q,ho _ (G8 (by lia))]
theorem Q0{ms:List Mk}(N:En ms):∀{m:Nat}{g h:Mk},m<=ms.length->G ms m g->G ms m h->G ms m (mul g h)
 | 0,g,h,_,⟨x,e⟩,⟨y,e'⟩=>by
  have b:g=(0,0,0):=e;have a:h=(0,0,0):=e';subst b a;exact⟨0,one_mul (by decide)⟩
 | m+1,g,h,hm,hg,hh=>by
  have d:=G8 (ms:=ms) (i:=m) (by lia);generalize er:ms.getD m (0,0,0)=r at *;have f:∀{z},G ms m z->G ms (m+1) (mul z r):=λq=>by rw[<-er];exact o9 q
  rcases Xd hg with qg | ⟨g',qg,b⟩<;>rcases Xd hh with qh | ⟨h',qh,a⟩
  ·exact KJ (Q0 N (by lia) qg qh)
  ·rw[er]at a;subst a;rw[<-mul_assoc];exact f (Q0 N (by lia) qg qh)
  ·rw[er]at b;subst b;have c:cm r h=0:=QD (N.com r d) (by lia) qh;rw[mul_assoc,mul_comm c,<-mul_assoc];exact f (Q0 N (by lia) qg qh)
  ·rw[er]at b a;subst b a;have c:cm r h'=0:=QD (N.com r d) (by lia) qh;have e:mul (mul g' r) (mul h' r)=mul g' h':=by
    rw[mul_assoc,<-mul_assoc r h' r,mul_comm c,mul_assoc h' r r,vD (N.even r d),mul_one (QG qh)]
   rw[e];exact KJ (Q0 N (by lia) qg qh)
theorem G7:In ms g↔G ms ms.length g:=by
 constructor
 ·rintro ⟨x,_,e⟩;exact⟨x,e.symm⟩
 ·rintro ⟨x,e⟩;exact W6t e.symm
theorem o7(N:En ms){h:Mk}(hg:In ms g)(hh:In ms h):In ms (mul g h):=G7.mpr (Q0 N (Bd _) (G7.mp hg) (G7.mp hh))
theorem W3u(ms:List Mk):In ms (0,0,0):=⟨0,Cq _,Ub ms⟩
theorem W3t(hi:i<ms.length)(q:(ms.getD i (0,0,0)).1<4):In ms (ms.getD i (0,0,0)):=⟨2^i,Jl (by decide) hi,zO ms hi q⟩
theorem zG{ms:List Mk}(N:En ms):∀{rs:List Mk}{g:Mk},(∀r∈rs,In ms r)->In ms g->In ms (rs.foldl mul g)
 | [],_,_,h=>h
 | r::rs,g,hr,h=>zG (rs:=rs) N (λz a=>hr z (KZ _ a)) (o7 N h (hr r Mz))
theorem Y6v{x:Nat}{m:Mk}(h:m∈chosen ms x ms.length):m∈ms:=by
 obtain⟨p,hp,rfl⟩:=El.mp h;exact G8 (Qy hp)
theorem Uo{rs:List Mk}(N:En ms)(h:∀r∈rs,In ms r)(hg:In rs g):In ms g:=by
 obtain⟨x,_,rfl⟩:=hg;exact zG N (λr a=>h r (Y6v a)) (W3u ms)
theorem W3v{o:Mk}(ho:∀r∈ms,cm o r=0)(h:In ms g):cm o g=0:=QD ho (Bd _) (G7.mp h)
noncomputable abbrev z0:Mk:=(0,0,0)
noncomputable def vec (m:Mk):Nat:=m.2.1+64*m.2.2
structure V6 (m:Mk):Prop where
 f:m.2.1<2^6
 s:m.2.2<2^6
variable{b:Mk}
theorem V6.mul(ha:V6 a)(hb:V6 b):V6 (mul a b):=⟨FP ha.f hb.f,FP ha.s hb.s⟩
theorem HJ{f s:Nat}(h:f<2^6)(n:Nat):bit (f+64*s) n=if n<6 then bit f n else bit s (n-6):=by
 have h':f<64:=h;by_cases c:n<6
 ·rw[if_pos c];unfold bit;have:n=0\/n=1\/n=2\/n=3\/n=4\/n=5:=by lia
  rcases this with rfl | rfl | rfl | rfl | rfl | rfl<;>simp only[Nat.reducePow]<;>lia
 ·rw[if_neg c];obtain⟨k,rfl⟩:∃k,n=6+k:=⟨n-6,by lia⟩;unfold bit;rw[RJ,<-gW,show (f+64*s) / 2^6=s by rw[show (2:Nat)^6=64 from rfl];lia,show 6+k-6=k by lia]
theorem uV(ha:V6 a)(hb:V6 b)(n:Nat):bit (vec (mul a b)) n=(bit (vec a) n+bit (vec b) n)%2:=by
 unfold vec;rw[HJ (ha.mul hb).f,HJ ha.f,HJ hb.f];unfold mul;split
 ·exact DG.JW _ _ _
 ·exact DG.JW _ _ _
theorem sW(v:Nat):∀N,(∃n,n<N/\CK v n)\/∀n,n<N->bit v n=0
 | 0=>.inr λn h=>absurd h (IV _)
 | N+1=>by
  rcases sW v N with ⟨n,a,l⟩ | h
  ·exact .inl ⟨n,by lia,l⟩
  ·have b:=Ey v N;by_cases e:bit v N=1
   ·exact .inl ⟨N,by lia,e,h⟩
   ·refine .inr λn a=>?_;by_cases en:n=N
    ·subst en;lia
    ·exact h n (by lia)
theorem X3s{m:Mk}(h:V6 m)(nz:m.2≠(0,0)):∃n,n<12/\CK (vec m) n:=by
 rcases sW (vec m) 12 with q | q
 ·exact q
 ·exfalso;refine nz (Prod.ext ?_ ?_)
  ·refine Ut 6 _ _ h.f (by decide) λn a=>?_;have:=q n (by lia);unfold vec at this;rw[HJ h.f,if_pos a]at this;rw[this,Nm]
  ·refine Ut 6 _ _ h.s (by decide) λn a=>?_;have:=q (n+6) (by lia);unfold vec at this;rw[HJ h.f,if_neg (by lia),fU]at this;rw[this,Nm]
noncomputable def wl (m r:Mk)(n:Nat):Mk:=if bit (vec m) n=1 then mul m r else m
theorem xH(ha:ev a)(hb:ev b)(c:cm a b=0):ev (mul a b):=by
 unfold ev at *;unfold cm at c;unfold mul;show ((a.1+b.1+2*pc (a.2.2&&&b.2.1))%4+pc ((a.2.1^^^b.2.1)&&&(a.2.2^^^b.2.2)))%2=0;have h1:=K1 (a.2.1&&&(a.2.2^^^b.2.2)) (b.2.1&&&(a.2.2^^^b.2.2));rw[<-Wd]at h1;have h2:=K1 (a.2.1&&&a.2.2) (a.2.1&&&b.2.2);rw[<-Qh]at h2;have d:=K1 (b.2.1&&&a.2.2) (b.2.1&&&b.2.2);rw[<-Qh]at d;rw[GX a.2.2 b.2.1]at c;lia
structure Tb (ms:List Mk):Prop where
 nice:En ms
 v6:∀m∈ms,V6 m
 ind:Indep ms
theorem HX{ms:List Mk}(T:Tb ms):∀{m:Nat}{g:Mk},m<=ms.length->G ms m g->ev g/\V6 g
 | 0,g,_,⟨x,e⟩=>by
  have:g=(0,0,0):=e;subst this;exact⟨by unfold ev;simp[Gx],by decide,by decide⟩
 | m+1,g,hm,h=>by
  rcases Xd h with q | ⟨g',q,rfl⟩
  ·exact HX T (by lia) q
  ·have a:=G8 (ms:=ms) (i:=m) (by lia);have b:=HX T (by lia:m<=ms.length) q;refine⟨xH b.1 (T.nice.even _ a) ?_,b.2.mul (T.v6 _ a)⟩;rw[R7];exact QD (T.nice.com _ a) (by lia) q
theorem pP(T:Tb ms){h:Mk}(hm:m<=ms.length)(hn:n<=ms.length)(hg:G ms m g)(hh:G ms n h):cm g h=0:=by
 refine QD (λr b=>?_) hn hh;rw[R7];exact QD (λc a=>T.nice.com r b c a) hm hg
theorem vC{r:Mk}(ha:a.1<4)(hr:ev r):mul (mul a r) r=a:=by rw[mul_assoc,vD hr,mul_one ha]
structure Dn (ms:List Mk) (i:Nat) (D:List Mk) (ls:W3):Prop where
 len:D.length=i
 ll:ls.length=i
 g:∀d∈D,G ms i d
 ld:∀j,j<i->CK (vec (D.getD j z0)) (ls.getD j 0)
 off:∀j k,j<i->k<i->j≠k->bit (vec (D.getD j z0)) (ls.getD k 0)=0
 back:∀j,j<i->In D (ms.getD j z0)
theorem Dn.start(ms:List Mk):Dn ms 0 [] []:=⟨U,U,λd h=>(nomatch h),λj h=>absurd h (IV _),λj k h=>absurd h (IV _),λj h=>absurd h (IV _)⟩
noncomputable def fr (D:List Mk)(ls:W3)(row:Mk):Nat->Mk
 | 0=>row
 | t+1=>wl (fr D ls row t) (D.getD t z0) (ls.getD t 0)
variable{D:List Mk}
theorem Zv(T:Tb ms)(hn:n<=ms.length)(h:∀d∈D,G ms n d):En D :=
 ⟨λd hd=>QG (h d hd),λd hd=>(HX T hn (h d hd)).1,λd hd e a=>pP T hn hn (h d hd) (h e a)⟩
theorem Ph(N:En D){d:Mk}(h:d∈D):In D d:=by
 obtain⟨i,hi,e⟩:=O8.mp h;have a:D.getD i (0,0,0)=d:=by rw[Bp,Cm hi];exact e
 have:=W3t (ms:=D) hi (by rw[a];exact N.q d h);rw[a]at this;exact this
structure Fr (ms:List Mk) (i:Nat) (D:List Mk) (ls:W3) (f:Mk) (t:Nat):Prop where
 g:∃g,G ms i g/\f=mul g (ms.getD i z0)
 off:∀k,k<t->bit (vec f) (ls.getD k 0)=0
 back:In (D++[f]) (ms.getD i z0)
variable{ls:W3}{f:Mk}
theorem Fr.G{t:Nat}(F:Fr ms i D ls f t):G ms (i+1) f:=by
 obtain⟨g,a,rfl⟩:=F.g;exact o9 a
theorem oM{ms:List Mk}(T:Tb ms){i:Nat}{D:List Mk}{ls:W3}(hi:i<ms.length)(Q:Dn ms i D ls):∀t,t<=i->Fr ms i D ls (fr D ls (ms.getD i z0) t) t
 | 0,_=>by
  have j:=G8 (ms:=ms) hi
  have g0:G ms i z0:=⟨0,by
   have:=P_ ms (x:=0) (i:=0) (by decide) i
   rw[Ox]at this
   rw[this];rfl⟩
  have y:G ms (i+1) (ms.getD i z0):=by
   have:=o9 g0;rw[one_mul (T.nice.q _ j)]at this;exact this
  refine⟨⟨z0,g0,(one_mul (T.nice.q _ j)).symm⟩,λk h=>absurd h (IV _),?_⟩;refine Ph (Zv T (n:=i+1) (by lia) λd hd=>?_) (FQ _ (DK.mpr rfl));rcases DR.mp hd with q | q
  ·exact KJ (Q.g d q)
  ·rw[DK.mp q];exact y
 | t+1,ht=>by
  have a:=oM T hi Q t (by lia);have j:=G8 (ms:=ms) hi;have s:D.getD t z0∈D:=G8 (by rw[Q.len];lia);have l:=Q.g _ s;have p:=HX T (by lia) l;show Fr ms i D ls (wl (fr D ls (ms.getD i z0) t) (D.getD t z0) (ls.getD t 0)) (t+1);have m:=a.G;have u:=HX T (by lia) m;generalize fr D ls (ms.getD i z0) t=f at *;have v:=(Q.ld t (by lia)).one;have b:∀k,k<t->bit (vec (D.getD t z0)) (ls.getD k 0)=0:=λk r=>Q.off t k (by lia) (by lia) (by lia);generalize D.getD t z0=d at *;unfold wl;by_cases c:bit (vec f) (ls.getD t 0)=1
  ·rw[if_pos c];refine⟨?_,λk r=>?_,?_⟩
   ·obtain⟨g,w,rfl⟩:=a.g;refine⟨mul g d,Q0 T.nice (by lia) w l,?_⟩;have z:cm (ms.getD i z0) d=0:=QD (T.nice.com _ j) (by lia) l;rw[mul_assoc,mul_comm z,<-mul_assoc]
   ·rw[uV u.2 p.2];by_cases e:k=t
    ·subst e;rw[c,v]
    ·rw[a.off k (by lia),b k (by lia)]
   ·have N:En (D++[mul f d]):=Zv T (n:=i+1) (by lia) λx o=>by
     rcases DR.mp o with q | q
     ·exact KJ (Q.g x q)
     ·rw[DK.mp q];exact Q0 T.nice (by lia) m (KJ l)
    refine Uo N (λx o=>?_) a.back;rcases DR.mp o with q | q
    ·exact Ph N (JG _ q)
    ·rw[DK.mp q];have:=o7 N (Ph N (FQ _ (DK.mpr rfl))) (Ph N (JG _ s));rw[vC (QG m) p.1]at this;exact this
  ·rw[if_neg c];refine⟨a.g,λk r=>?_,a.back⟩;by_cases e:k=t
   ·subst e;have:=Ey (vec f) (ls.getD k 0);lia
   ·exact a.off k (by lia)
theorem Fr.nz(T:Tb ms){t:Nat}(hi:i<ms.length)(F:Fr ms i D ls f t):f.2≠(0,0):=by
 obtain⟨g,⟨x,rfl⟩,rfl⟩:=F.g;intro e;have a:=Eu x (Cq i);have st:=oY ms a hi;have b:E ms (x%2^i)=prod (chosen ms x i):=by
  unfold E;obtain⟨d,hd⟩:∃d,ms.length=i+d:=⟨ms.length-i,by lia⟩;rw[hd,P_ ms a d,Ss]
 rw[b]at st;have lt:x%2^i+2^i<2^ms.length:=by
  refine Cu (m:=2^(i+1)) ?_ (Fw (by decide) hi);rw[Mt];lia
 have:=Sv T.ind lt (Cq _) (by rw[st,Ub];exact e);have:=Cq i;lia
variable{j:Nat}
theorem Rr{α:Type}{D:List α}{f z:α}(h:j<D.length):(D++[f]).getD j z=D.getD j z:=by
 rw[Bp,Bp,Rg h]
theorem Rq{α:Type}{D:List α}{f z:α}(h:j=D.length):(D++[f]).getD j z=f:=by
 subst h;rw[Bp,Qi (Bd _),j9];rfl
theorem m_{h:Mk->Mk}(hj:j<D.length):(D.map h).getD j z0=h (D.getD j z0):=by
 rw[Bp,Bp,Bu,Cm hj];rfl
theorem Dn.next(T:Tb ms)(hi:i<ms.length)(Q:Dn ms i D ls)(F:Fr ms i D ls f i)(L:CK (vec f) n):Dn ms (i+1) (D.map (λd=>wl d f n)++[f]) (ls++[n]):=by
 have o:=F.G;have z:=HX T (by lia) o;have C:=Q.len;have r:=Q.ll;have s:(D.map (λd=>wl d f n)).length=i:=by rw[Az];exact C
 have A:∀d∈D,∀k,bit (vec (wl d f n)) k=if bit (vec d) n=1 then (bit (vec d) k+bit (vec f) k)%2 else bit (vec d) k:=λd hd k=>by
  unfold wl;split
  ·exact uV (HX T (by lia) (Q.g d hd)).2 z.2 k
  ·rfl
 have y:∀d∈D.map (λd=>wl d f n)++[f],G ms (i+1) d:=λd hd=>by
  rcases DR.mp hd with q | q
  ·obtain⟨u,B,rfl⟩:=El.mp q;show G ms (i+1) (wl u f n);unfold wl;split
   ·exact Q0 T.nice (by lia) (KJ (Q.g u B)) o
   ·exact KJ (Q.g u B)
  ·rw[DK.mp q];exact o
 have N:=Zv T (n:=i+1) (by lia) y;have a:In (D.map (λd=>wl d f n)++[f]) f:=Ph N (FQ _ (DK.mpr rfl));have h:∀d∈D,In (D.map (λd=>wl d f n)++[f]) d:=λd hd=>by
  have h1:=Ph N (JG _ (El.mpr ⟨d,hd,U⟩));have h1:In (D.map (λd=>wl d f n)++[f]) (wl d f n):=h1;by_cases c:bit (vec d) n=1
  ·have e:wl d f n=mul d f:=by unfold wl;rw[if_pos c]
   have:=o7 N h1 a;rw[e,vC (QG (Q.g d hd)) z.1]at this;exact this
  ·have e:wl d f n=d:=by unfold wl;rw[if_neg c]
   rw[e]at h1;exact h1
 refine⟨by rw[DP,s];rfl,by rw[DP,r];rfl,y,λj w=>?_,λj k w I E=>?_,λj w=>?_⟩
 ·by_cases e:j=i
  ·subst e;rw[Rq s.symm,Rq r.symm];exact L
  ·have b:j<i:=by lia
   rw[Rr (by lia),Rr (by lia),m_ (by lia)];have t:D.getD j z0∈D:=G8 (by lia);have l:=Q.ld j b;have v:=F.off j b;have E0:=A _ t;generalize D.getD j z0=d at *;generalize ls.getD j 0=p at *;by_cases c:bit (vec d) n=1
   ·have np:p<n:=by
     rcases Nat.lt_trichotomy p n with q | q | q
     ·exact q
     ·subst q;rw[L.one]at v;cases v
     ·rw[l.low n q]at c;cases c
    refine⟨?_,λm hm=>?_⟩
    ·rw[E0,if_pos c,l.one,v]
    ·rw[E0,if_pos c,l.low m hm,L.low m (by lia)]
   ·refine⟨?_,λm hm=>?_⟩
    ·rw[E0,if_neg c];exact l.one
    ·rw[E0,if_neg c];exact l.low m hm
 ·by_cases e:j=i
  ·subst e;rw[Rq s.symm,Rr (by lia)];exact F.off k (by lia)
  ·rw[Rr (by lia),m_ (by lia)];have t:D.getD j z0∈D:=G8 (by lia);have E0:=A _ t;by_cases ek:k=i
   ·subst ek;rw[Rq r.symm,E0];split
    ·rename_i c;rw[c,L.one]
    ·have:=Ey (vec (D.getD j z0)) n;lia
   ·rw[Rr (by lia),E0,Q.off j k (by lia) (by lia) E,F.off k (by lia)];split<;>rfl
 ·by_cases e:j=i
  ·subst e;refine Uo N (λx H=>?_) F.back;rcases DR.mp H with q | q
   ·exact h x q
   ·rw[DK.mp q];exact a
  ·exact Uo N h (Q.back j (by lia))
end Bh
namespace Bh
open Pc JL DG CT
open Classical in
noncomputable def h_ (v:Nat):Nat:=if h:∃n,CK v n then h.choose else 0
theorem xY{v n:Nat}(h:CK v n):h_ v=n:=by
 have e:∃n,CK v n:=⟨n,h⟩;unfold h_;rw[dif_pos e];exact e.choose_spec.uniq h
noncomputable def Ck (m:Mk):Nat:=h_ (vec m)
def Off (d e:Mk):Prop:=bit (vec d) (Ck e)=0/\bit (vec e) (Ck d)=0
structure Dm (ms D:List Mk):Prop where
 g:∀d∈D,In ms d
 ld:∀d∈D,CK (vec d) (Ck d)
 off:D.Pairwise Off
 back:∀m∈ms,In D m
variable{ms D:List Mk}
theorem Dn.all{ls:W3}(Q:Dn ms ms.length D ls):Dm ms D:=by
 have c:∀j,j<ms.length->Ck (D.getD j z0)=ls.getD j 0:=λj a=>xY (Q.ld j a);refine⟨λd hd=>G7.mpr (Q.g d hd),λd hd=>?_,?_,λm hm=>?_⟩
 ·obtain⟨j,a,e⟩:=O8.mp hd;have b:D.getD j z0=d:=by rw[Bp,Cm a];exact e
  rw[Q.len]at a;have l:=Q.ld j a;rw[b]at l;unfold Ck;rw[xY l];exact l
 ·refine ZD.mpr λi j hi a k=>?_;have f:D.getD i z0=D[i]:=by rw[Bp,Cm hi];rfl
  have h:D.getD j z0=D[j]:=by rw[Bp,Cm a];rfl
  rw[Q.len]at hi a;rw[<-f,<-h];unfold Off;rw[c i hi,c j a];exact⟨Q.off i j hi a (by lia),Q.off j i a hi (by lia)⟩
 ·obtain⟨j,a,e⟩:=O8.mp hm;have b:ms.getD j z0=m:=by rw[Bp,Cm a];exact e
  rw[<-b];exact Q.back j a
theorem m9(T:Tb ms)(h:∀d∈D,In ms d):En D:=Zv T (Bd _) λd hd=>G7.mp (h d hd)
variable{S:List Mk}
theorem Dm.perm(T:Tb ms)(Q:Dm ms D)(p:S.Perm D):Dm ms S:=by
 have c:∀d∈S,In ms d:=λd hd=>Q.g d (p.mem_iff.mp hd);have N:=m9 T c;refine⟨c,λd hd=>Q.ld d (p.mem_iff.mp hd),?_,λm hm=>Uo N (λd hd=>Ph N (p.mem_iff.mpr hd)) (Q.back m hm)⟩;exact(p.pairwise_iff λ{a b} h=>⟨h.2,h.1⟩).mpr Q.off
theorem oO(T:Tb ms){g:Mk}(h:In ms g):V6 g:=(HX T (Bd _) (G7.mp h)).2
theorem W1b{m:Mk}(h:V6 m):vec m<2^12:=by
 have a:m.2.1<64:=h.f;have b:m.2.2<64:=h.s;unfold vec;show _<4096;lia
theorem X6h{a b:Mk}(ha:V6 a)(hb:V6 b)(e:vec a=vec b):a.2=b.2:=by
 have d:a.2.1<64:=ha.f;have c:b.2.1<64:=hb.f;unfold vec at e;exact Prod.ext (by lia) (by lia)
theorem yS{fs gs:W3}{c:Nat->Bool}:∀m,(∀j,j<m->fs.getD j 0=gs.getD j 0)->xs fs c m=xs gs c m:=λm h=>Py m λj a=>⟨U,h j a⟩
theorem QX(S:List Mk)(j:Nat):(S.map vec).getD j 0=vec (S.getD j z0):=by
 rw[Bp,Bp,Bu];cases S[j]?<;>rfl
theorem Qm(S:List Mk){j:Nat}(hj:j<S.length):(S.map Ck).getD j 0=Ck (S.getD j z0):=by
 rw[Bp,Bp,Bu,Cm hj];rfl
theorem Dm.red(Q:Dm ms S)(o:S.Pairwise λa b=>Ck a<=Ck b):Red (S.map vec) (S.map Ck):=by
 have d:∀i j,i<S.length->j<S.length->i≠j->bit (vec (S.getD i z0)) (Ck (S.getD j z0))=0:=λi j hi c f=>by
  have k:S.getD i z0=S[i]:=by rw[Bp,Cm hi];rfl
  have l:S.getD j z0=S[j]:=by rw[Bp,Cm c];rfl
  rw[k,l];rcases Nat.lt_or_gt_of_ne f with lt | lt
  ·exact(ZD.mp Q.off i j hi c lt).1
  ·exact(ZD.mp Q.off j i c hi lt).2
 refine⟨by rw[Az,Az],λi hi=>?_,λi j hi c f=>?_,?_⟩
 ·rw[Az]at hi;rw[QX,Qm S hi];exact Q.ld _ (G8 hi)
 ·rw[Az]at hi c;rw[QX,Qm S c];exact d i j hi c f
 ·rw[WX];refine(List.Pairwise.and_mem.mp (o.and Q.off)).imp λ{a b} h=>?_;obtain⟨g,hb,le,off⟩:=h;refine Nat.lt_of_le_of_ne le λe=>?_;have:=(Q.ld a g).one;rw[e,off.1]at this;cases this
end Bh
namespace Bh
open Pc JL DG CT
noncomputable def num (c:Nat->Bool):Nat->Nat
 | 0=>0
 | m+1=>num c m+(if c m then 2^m else 0)
theorem mX(c:Nat->Bool):∀m,num c m<2^m
 | 0=>Nat.one_pos
 | m+1=>by
  have:=mX c m;unfold num;rw[Mt];split<;>lia
theorem tG(c:Nat->Bool):∀m j,j<m->decide (bit (num c m) j=1)=c j
 | m+1,j,hj=>by
  have lt:=mX c m;unfold num;by_cases e:j=m
  ·subst e;cases hc:c j
   ·simp[R6 lt (Bd _)]
   ·simp only[JC];have:bit (num c j+2^j) j=1:=by
     unfold bit;rw[fH _ (Cq j),Qd lt]
    rw[this];rfl
  ·have a:=tG c m j (by lia);split
   ·have:bit (num c m+2^m) j=bit (num c m) j:=by
     rw[<-yr (num c m+2^m) m (by lia),fJ,KY lt]
    rw[this];exact a
   ·rw[Mr];exact a
theorem X4g(ms:List Mk)(c:Nat->Bool):(E ms (num c ms.length)).2=(xs (Du ms) c ms.length,xs (Di ms) c ms.length):=by
 have e:∀fs:List Nat,Xm fs (num c ms.length) ms.length=xs fs c ms.length:=λfs=>by
  rw[Lz];exact Py _ λj a=>⟨tG c _ j a,U⟩
 unfold E;refine Prod.ext ?_ ?_
 ·show (prod (chosen ms (num c ms.length) ms.length)).2.1=_;rw[Uh];exact e _
 ·show (prod (chosen ms (num c ms.length) ms.length)).2.2=_;rw[Ui];exact e _
theorem rD{ms:List Mk}{m:Mk}(I:Indep ms)(h:∀x,x<2^ms.length->(E ms x).2≠m.2):Indep (ms++[m]):=by
 intro c f d j q;have p:(ms++[m]).length=ms.length+1:=by rw[DP];rfl
 have o:∀k,k<ms.length->(Du (ms++[m])).getD k 0=(Du ms).getD k 0:=λk g=>by rw[fget,fget,Rr g]
 have es:∀k,k<ms.length->(Di (ms++[m])).getD k 0=(Di ms).getD k 0:=λk g=>by rw[Hj,Hj,Rr g]
 have r:(Du (ms++[m])).getD ms.length 0=m.2.1:=by rw[fget,Rq rfl]
 have l:(Di (ms++[m])).getD ms.length 0=m.2.2:=by rw[Hj,Rq rfl]
 have s:=yS (fs:=Du (ms++[m])) (gs:=Du ms) (c:=c) ms.length o;have i:=yS (fs:=Di (ms++[m])) (gs:=Di ms) (c:=c) ms.length es;rw[p]at f d q;unfold xs at f d;rw[r,s]at f;rw[l,i]at d;have n:∀{a b:Nat},a^^^b=0->a=b:=λ{a b} z=>by
  have:=congrArg (·^^^b) z;simpa [Fq] using this
 cases hc:c ms.length with
 | true =>
  rw[hc,if_pos rfl]at f d;refine absurd ?_ (h (num c ms.length) (mX c _));rw[X4g,n f,n d]
 | false =>
  rw[hc,if_neg (by decide)]at f d;by_cases e:j=ms.length
  ·rw[e];exact hc
  ·exact I c f d j (by lia)
end Bh
namespace Ah
open L2 Pc JL DG CT
open Bh (CK vec V6 wl HJ)
noncomputable def sX (w n:Nat):Bool:=decide (Builtin.Int.intBits (Builtin.bitAnd (w:Int) (-(w:Int)))=n+1) && decide (bit w n=1) && (List.range n).all λm=>decide (bit w m=0)
theorem Y9r:((List.range 64).all λw=>decide (w=0) || (List.range 6).any λn=>sX w n)=true:=by decide +kernel
theorem X3i{w:Nat}(h:w<64)(h0:w≠0):∃n:Nat,n<6/\Builtin.Int.intBits (Builtin.bitAnd (w:Int) (-(w:Int)))=n+1/\CK w n:=by
 have a:=Gz.mp Y9r w (Ew.mpr h);rw[Dh h0,Bool.false_or]at a;obtain⟨n,b,e⟩:=Qc.mp a;unfold sX at e;rw[GF,GF]at e;exact⟨n,Ew.mp b,JR e.1.1,JR e.1.2,λm hm=>JR (Gz.mp e.2 m (Ew.mpr hm))⟩
def uH:Sp:=λvs H Q _=>∃w:Nat,vs=[.int w]/\w<64/\w≠0/\∀n:Nat,n<6->CK w n->Q (.int n) H
def GR (K:U0):Sp:=λvs H Q _=>∃(p:W9) (m:Mk) (n:Nat),vs=[.ref p]/\Ai K H p (L3 m)/\V6 m/\CK (vec m) n/\Q (.int n) H
def QT (K:U0):Sp:=λvs H Q _=>∃(p:W9) (m:Mk) (n:Nat),vs=[.ref p,.int n]/\Ai K H p (L3 m)/\V6 m/\Q (.bl (decide (bit (vec m) n=1))) H
def wg:Sp:=λvs H Q _=>∃(p r:W9) (m d:Mk) (n:Nat),vs=[.ref p,.ref r]/\H p=some (T3 m)/\H r=some (T3 d)/\V6 m/\V6 d/\CK (vec d) n/\∀(q:W9) (H':Hp),Same H H'->H' q=some (T3 (wl m d n))->Q (.ref q) H'
section
variable {P:U8}{w:W1}{K:U0}{mg:U4}{base:Heap}{k:Nat}{h:Heap}
theorem X2u(F:Ab K "least_cell" (top 53) .none)(X:K.In h)(G:Ng h mg):Aj P w K mg base (k+1) "least_cell" ["word"] uH:=by
 refine F.cal X G ["word"] λf H vs Q c d h=>?_;obtain⟨x,rfl,a,x0,q⟩:=h;obtain⟨n,b,e,l⟩:=X3i a x0;refine⟨_,(@Ak _ _ _ (BL (Af JH (Pj O9 Od O_ P0 (Af Dv (pv 0) (Pg R4 (pv 0)))) Ad))),?_⟩;try dsimp only[CG]
 refine⟨_,U,_,U,_,U,_,_,U,U,U,_,U,U,_,_,U,U,?_⟩;show Q (.int (((Builtin.Int.intBits (Builtin.bitAnd (x:Int) (-(x:Int))):Nat):Int)-1)) H;rw[e,show (((n+1:Nat):Int)-1)=(n:Int) by lia];exact q n b l
theorem X7q(F:Ab K "lead" (top 52) .none)(X:K.In h)(G:Ng h mg){tF:Tok}(gF:mg "FIRST_SIGN_LEAD"=some (.int 6 tF))(cU:Aj P w K mg base k "least_cell" ["word"] uH):Aj P w K mg base (k+1) "lead" ["mark"] (GR K):=by
 refine F.cal X G ["mark"] λo H vs Q j d h=>?_;obtain⟨p,m,n,rfl,S,v6,l,q⟩:=h
 refine⟨_,(@Ay _ _ _ _ _ (Bx (Bf Hs (Ao BK (pv 0) Ad (λ_ _=>rfl)) Ad (Ac _))
   (@Ak _ _ _ (BL (BP cU d rfl (Aa (Ao BK (pv 0) Ad (λ_ _=>rfl)) Ae))))
   B_)
  (@Ak _ _ _ (BL (Af Ds (Pq (v:=.int 6) rfl gF ⟨tF,U⟩) (BP cU d rfl (Aa (Ao BK (pv 0) Ad (λ_ _=>rfl)) Ae)))))),?_⟩
 try dsimp only[CG]
 refine⟨_,U,p,_,_,_,U,U,S,U,U,_,U,Ho (λz=>?_) (λz=>?_)⟩
 ·have b:m.2.1≠0:=λe=>z (by rw[e];rfl);refine⟨_,U,p,_,_,_,U,U,S,U,m.2.1,U,v6.f,b,λn' g a=>?_⟩;have l2:CK (vec m) n':=⟨by unfold vec;rw[HJ v6.f,if_pos g];exact a.one,λk c=>by unfold vec;rw[HJ v6.f,if_pos (by lia)];exact a.low k c⟩;rw[l2.uniq l];exact q
 ·have b:m.2.1=0:=by
   have:=z;lia
  have i:m.2.2≠0:=λe=>by
   have:=l.one;unfold vec at this;rw[b,e,Nm]at this;cases this
  refine⟨_,U,p,_,_,_,U,U,S,U,m.2.2,U,v6.s,i,λn' g a=>⟨_,_,U,U,?_⟩⟩
  have l2:CK (vec m) (6+n'):=⟨by unfold vec;rw[HJ v6.f,if_neg (by lia),show 6+n'-6=n' by lia];exact a.one,λk c=>by
   unfold vec
   rw[HJ v6.f]
   split
   ·rw[b,Nm]
   ·exact a.low _ (by lia)⟩
  have e:=l2.uniq l;show Q (.int (6+(n':Int))) H;rw[show (6+(n':Int))=((6+n':Nat):Int) by lia,e];exact q
theorem W2h(F:Ab K "has_at_lead" (top 54) .none)(X:K.In h)(G:Ng h mg){tF:Tok}(gF:mg "FIRST_SIGN_LEAD"=some (.int 6 tF)):Aj P w K mg base (k+1) "has_at_lead" ["mark","place"] (QT K):=by
 refine F.cal X G ["mark","place"] λd H vs Q a b h=>?_;obtain⟨p,m,n,rfl,S,v6,q⟩:=h;have one:∀(x j:Nat),decide (V.int (Builtin.bitAnd ((x:Int) / 2^((j:Int)).toNat) 1)=V.int 1)=decide (bit x j=1):=λx j=>by
  rw[FN,show (x:Int) / 2^j=((x / 2^j:Nat):Int) by simp,R_,WW];unfold bit;constructor
  ·intro z;have:=V.int.inj z;lia
  ·intro z;congr 1;lia
 refine⟨_,(@Ay _ _ _ _ _ (Bx (Bf J5 (pv 1) (Pq (v:=.int 6) rfl gF ⟨tF,U⟩) (Ac _))
   (@Ak _ _ _ (BL (HD Df (Af Dv (Af NZ (Ao BK (pv 0) Ad (λ_ _=>rfl)) (pv 1)) Ad) Ad (Ac _))))
   B_)
  (@Ak _ _ _ (BL (HD Df (Af Dv (Af NZ (Ao BK (pv 0) Ad (λ_ _=>rfl)) (Af JH (pv 1) (Pq (v:=.int 6) rfl gF ⟨tF,U⟩))) Ad) Ad (Ac _))))),?_⟩
 try dsimp only[CG]
 refine⟨_,U,_,_,U,U,_,U,BJ (λc=>?_) (λc=>?_)⟩
 ·refine⟨_,U,p,_,_,_,U,U,S,U,_,U,_,_,U,U,by lia,_,_,U,U,U,?_⟩;show Q (.bl (decide (V.int (Builtin.bitAnd ((m.2.1:Int) / 2^((n:Int)).toNat) 1)=V.int 1))) H;rw[one];unfold vec at q;rw[HJ v6.f,if_pos (by lia)]at q;exact q
 ·refine⟨_,U,p,_,_,_,U,U,S,U,_,U,_,_,U,U,_,_,U,U,by lia,_,_,U,U,U,?_⟩;show Q (.bl (decide (V.int (Builtin.bitAnd ((m.2.2:Int) / 2^((n:Int)-6).toNat) 1)=V.int 1))) H;rw[show ((n:Int)-6)=((n-6:Nat):Int) by lia,one];unfold vec at q;rw[HJ v6.f,if_neg (by lia)]at q;exact q
theorem Y6g(F:Ab K "without_lead" (top 51) .none)(X:K.In h)(G:Ng h mg)(dR:Aj P w K mg base k "has_at_lead" ["mark","place"] (QT K))(dX:Aj P w K mg base k "lead" ["mark"] (GR K))(cV:Aj P w K mg base k "product" ["one","other"] (Sh K)):
  Aj P w K mg base (k+1) "without_lead" ["mark","row"] wg:=by
 refine F.cal X G ["mark","row"] λo H vs Q j b h=>?_;obtain⟨p,r,m,d,n,rfl,hp,a,g,i,l,f⟩:=h;refine⟨_,(@Ak _ _ _ (BL (Px (DW (BP dR b rfl (Aa (pv 0) (Aa (BP dX b rfl (Aa (pv 1) Ae)) Ae)))) (BP cV b rfl (Aa (pv 0) (Aa (pv 1) Ae))) (pv 0)))),?_⟩;try dsimp only[CG]
 refine⟨_,U,_,U,r,d,n,U,Ai.of a,i,l,p,m,n,U,Ai.of hp,g,_,U,BJ (λc=>?_) (λc=>?_)⟩
 ·refine⟨_,U,_,U,p,r,m,d,U,Ai.of hp,Ai.of a,λq H' S e=>f q H' S ?_⟩;unfold wl;rw[if_pos c];exact e
 ·refine⟨_,U,f p H (Same.refl _) ?_⟩;unfold wl;rw[if_neg c];exact hp
end
end Ah
namespace Ah
open L2 Pc JL DG CT
open Bh (CK vec V6 wl HJ ev)
def Ik:Sp:=λvs H Q _=>∃x N:Nat,vs=[.int x,.int N]/\x<2^N/\Q (.bl true) H
section
variable {P:U8}{w:W1}{K:U0}{mg:U4}{base:Heap}{k:Nat}{h:Heap}
theorem Fd:CW ["thing"] ["thing"] (Dy (top 14)):=fS
theorem Hx:CW ["thing","cells"] ["thing","cells"] (Dy (top 23)):=fS
theorem Y9c(F:Ab K "is_word" (top 23) .none)(X:K.In h)(G:Ng h mg)(c8:Aj P w K mg base k "is_whole" ["thing"] Pr):Aj P w K mg base (k+1) "is_word" ["thing","cells"] Ik:=by
 refine F.cal X G _ (S:=Hx) λc H vs Q E a h=>?_;obtain⟨x,N,rfl,lt,q⟩:=h
 refine⟨_,(@Ay _ _ _ _ _ (Bx (Eh (PW.pt (Oh (DW (BP c8 a rfl (Aa (pv 0) Ae))) (Ol (DW (BP c8 a rfl (Aa (pv 1) Ae)))))))
   (@Ak _ _ _ (BL Dw))
   B_)
  (@Ak _ _ _ (BL (K9 (HD aR (pv 0) Ad (Ac _)) (Kl (HD zj (Pj O9 Od O_ P0 (pv 0)) (pv 1) (Ac _))))))),?_⟩
 try dsimp only[CG]
 refine⟨_,U,_,U,_,U,Dc ⟨_,U,_,U,_,U,CQ ?_⟩⟩;refine⟨_,U,_,_,U,U,_,U,BJ (λ_=>?_) (λz=>absurd (show (x:Int)>=0 by lia) z)⟩;refine⟨_,U,U,_,U,U,_,U,_,_,U,U,?_⟩;have b:=G9.mpr lt;rw[Z_];show Q (.bl (decide (((bl x:Nat):Int)<=(N:Int)))) H;rw[Dr (by lia)];exact q
theorem Y2x(F:Ab K "commute" (top 27) .none)(X:K.In h)(G:Ng h mg)(c9:Aj P w K mg base k "ones" ["number"] CZ):Aj P w K mg base (k+1) "commute" ["one","other"] (wW K):=by
 refine F.cal X G ["one","other"] λf H vs Q E a h=>?_;obtain⟨p,d,m,m',rfl,c,b,q⟩:=h;refine⟨_,(@Ak _ _ _ (BL (HD Df (Af Cv (Af Ds (BP c9 a rfl (Aa (Af Dv (Ao BK (pv 0) Ad (λ_ _=>rfl)) (Ao BK (pv 1) Ad (λ_ _=>rfl))) Ae)) (BP c9 a rfl (Aa (Af Dv (Ao BK (pv 0) Ad (λ_ _=>rfl)) (Ao BK (pv 1) Ad (λ_ _=>rfl))) Ae))) Ad) Ad (Ac _)))),?_⟩;try dsimp only[CG]
 refine⟨_,U,p,_,_,_,U,U,c,U,_,U,d,_,_,_,U,U,b,U,_,_,U,U,m.2.1&&&m'.2.2,Ig _ _,_,U,p,_,_,_,U,U,c,U,_,U,d,_,_,_,U,U,b,U,_,_,U,U,m.2.2&&&m'.2.1,Ig _ _,_,_,U,U,_,_,U,U,Ja,U,?_⟩;have e:decide (V.int ((((pc (m.2.1&&&m'.2.2):Nat):Int)+((pc (m.2.2&&&m'.2.1):Nat):Int))%2)=V.int 0)=decide (comm m m'=0):=by
  rw[WW];unfold comm;constructor
  ·intro z;have:=V.int.inj z;lia
  ·intro z;congr 1;lia
 show Q (.bl (decide (V.int ((((pc (m.2.1&&&m'.2.2):Nat):Int)+((pc (m.2.2&&&m'.2.1):Nat):Int))%2)=V.int 0))) H;rw[e];exact q
theorem lK{X:Cx}{scope:Scope}{Nc:W0}{ex:U3}{pins:U1}{s:U7}{H:Hp}:YF (Bw X scope Nc ex pins s H) (Vs X.K):=Qv
variable{i:Nat}
theorem Zy{xs:List V}(h:i<=xs.length):Cr xs none (some (i:Int))=xs.take i:=by
 unfold Cr;have a:HT.CV xs.length 0 none=0:=rfl;have e2:HT.CV xs.length xs.length (some (i:Int))=i:=by rw[HT.nJ];exact Yr h
 rw[a,e2];rfl
theorem Bv.take{H:Hp}:∀{ps:U3}{ms:List Mk} (i:Nat),Bv H ps ms->Bv H (ps.take i) (ms.take i)
 | [],[],_,.nil=>by rw[bh,bh];exact .nil
 | _::_,_::_,0,_=>.nil
 | _::_,_::_,i+1,.cons a r=>.cons a (Bv.take i r)
variable{ms:List Mk}{x:Nat}
theorem Y2m(hi:i<=ms.length):chosen (ms.take i) x i=chosen ms x i:=by
 unfold chosen;refine Y4 λp hp=>?_;have:=Qy hp;rw[Bp,Bp,fQ,if_pos this]
theorem lG(I:Indep ms){kk:Nat}(hi:i<ms.length)(q:(ms.getD i (0,0,0)).1<4)(k4:kk<4)(h:(chosen (ms.take i) x (ms.take i).length).foldl mul (kk,0,0)=ms.getD i (0,0,0)):False:=by
 have lt:(ms.take i).length=i:=by rw[Gk];lia
 rw[lt,Y2m (by lia),mH k4]at h;have a:=Eu x (Cq i);have c:E ms (x%2^i)=prod (chosen ms x i):=by
  unfold E;obtain⟨d,hd⟩:∃d,ms.length=i+d:=⟨ms.length-i,by lia⟩;rw[hd,P_ ms a d,Ss]
 have b:=zO ms hi q;have p2:2^i<2^ms.length:=Jl (by decide) hi;have:=Sv I (Ov a p2) p2 (by rw[c,b,<-h]);lia
structure KC (N:Nat) (H:Hp) (l:W9) (ps:U3) (ms:List Mk):Prop where
 lst:H l=some (.lst (ps.map V.ref))
 mks:Bv H ps ms
 ok:∀m∈ms,Gr N m
 tb:Bh.Tb ms
 len:ms.length<=12
theorem KC.same{N:Nat}{H H':Hp}{l:W9}{ps:U3}(t:KC N H l ps ms)(s:Same H H'):KC N H' l ps ms:=⟨s _ _ t.lst,t.mks.same s,t.ok,t.tb,t.len⟩
def wX:Sp:=λvs H Q _=>∃(l:W9) (ps:U3) (ms:List Mk) (N:Nat),vs=[.ref l,.int N]/\KC N H l ps ms/\1<=N/\N<=6/\∀H',Same H H'->Q (.bl true) H'
theorem am:¬ (V.str "apart"=V.str "made"):=λe=>absurd (V.str.inj e) (by decide +kernel)
end
end Ah
namespace L2
theorem vM{α β:Type}{f:α->β}:∀{l m:List β},l.Perm m->∀{r:List α},m=r.map f->∃d:List α,d.Perm r/\l=d.map f:=by
 intro l m h;induction h with
 | nil =>
  intro r e;cases r with
  | nil=>exact⟨[],.nil,rfl⟩
  | cons=>cases e
 | cons x h ih =>
  intro r e;cases r with
  | nil=>cases e
  | cons y r =>
   rw[FJ]at e;injection e with c e2;obtain⟨d,p,j⟩:=ih e2;exact⟨y::d,p.cons y,by rw[FJ,c,j]⟩
 | swap x y l =>
  intro r e;cases r with
  | nil=>cases e
  | cons a r =>
   cases r with
   | nil=>cases e
   | cons b r =>
    rw[FJ,FJ]at e;injection e with c e2;injection e2 with e2 e3;exact⟨b::a::r,.swap _ _ _,by rw[FJ,FJ,c,e2,e3]⟩
 | trans h1 h2 ih1 ih2 =>
  intro r e;obtain⟨k,p2,e2⟩:=ih2 e;obtain⟨g,i,c⟩:=ih1 e2;exact⟨g,i.trans p2,c⟩
theorem lU:∀{xs:List V}{us:U5},Vals xs us->∀p∈xs.zip us,RelV p.1 p.2
 | _,_,.nil,_,h=>nomatch h
 | _,_,.cons r rs,p,h=>by
  rw[Yy]at h;rcases Dg.mp h with rfl | h
  ·exact r
  ·exact lU rs p h
theorem rT:∀{l:List (V×Value)},(∀p∈l,RelV p.1 p.2)->Vals (l.map (·.1)) (l.map (·.2))
 | [],_=>.nil
 | p::l,h=>.cons (h p (.head _)) (rT λq a=>h q (.tail _ a))
variable{kz:U6}
theorem bB:∀{xs:List V}{us:U5},xs.length=us.length ->
  kz.zip us=(kz.zip (xs.zip us)).map (λt=>(t.1,t.2.2))/\kz.zip xs=(kz.zip (xs.zip us)).map (λt=>(t.1,t.2.1)):=by
 induction kz with
 | nil=>intro xs us _;exact⟨rfl,rfl⟩
 | cons k kz ih =>
  intro xs us h;cases xs with
  | nil =>
   cases us with
   | nil=>exact⟨rfl,rfl⟩
   | cons=>cases h
  | cons x xs =>
   cases us with
   | nil=>cases h
   | cons u us =>
    obtain⟨a,b⟩:=ih (xs:=xs) (us:=us) (Nat.succ.inj h);simp only[Yy,FJ];exact⟨by rw[<-a],by rw[<-b]⟩
variable{us:U5}
theorem X2i{xs:List V}{out:U5}(r:Vals xs us)(h:KskOut false kz us out):
  ∃ps:List (Int×V),ps.Perm (kz.zip xs)/\Vals (ps.map (·.2)) out/\ps.Pairwise λp q=>p.1<=q.1:=by
 obtain⟨ps,hp,j,c⟩:=h;obtain⟨i,e2⟩:=bB (kz:=kz) r.length;obtain⟨l,d,e⟩:=vM hp i;refine⟨l.map λt=>(t.1,t.2.1),?_,?_,?_⟩
 ·rw[e2];exact d.map _
 ·have g:∀p∈l.map (·.2),RelV p.1 p.2:=λp hp=>by
   obtain⟨t,k,rfl⟩:=El.mp hp;have:=d.mem_iff.mp k;exact lU r _ (Yq (a:=t.1) (b:=t.2) this).2
  have f:=rT g;rw[j,e];simp only[Ou]at f ⊢;exact f
 ·rw[e]at c;rw[WX]at c ⊢;exact c
theorem W1h{prog:U8}{w:W1}{A:W6}{E:U2}{s:U7}{D kS:W9}{keys:U9}{e e1:Nat}{P:PySem.Fin->Shared->Prop}
  (nk:s.heap.get? kS=some (seqObj "list" keys e)) (nd:s.heap.get? D=some (seqObj "list" #[] e1)) (hkd:kS≠D) (hk:IntsAre keys.toList kz) (hl:kz.length=us.length) (h64:us.length<64)
  (h:∀(h1 h2:Heap) (out:U9) (c:Nat),(∀b,b≠kS->h1.get? b=s.heap.get? b)->(∀b,b≠D->h2.get? b=h1.get? b)->h2.get? D=some (seqObj "list" out c)->KskOut false kz us out.toList->P (.done (.ret .none)) {s with heap:=h2}):
  wpAny (model prog w) A (ksk_end D false us.toArray e1 (.ref kS) keys) P E s:=by
 have n:keys.size=us.length:=by
  have:=hk.length;rw[JT]at this;exact this.trans hl
 have g:(keys.zip us.toArray).size=us.length:=by rw[Array.size_zip,n,Ep,Nat.min_self]
 have p:(64:Nat)<=sizeLine:=by decide
 have d:∀st:SortSt,(arrOf st).Perm (keys.zip us.toArray)->SortedTo (arrOf st) (arrOf st).size->failedOf st=none->wpAny (model prog w) A (ksk_tail D false e1 (.ref kS) st) P E s:=by
  intro st hp k m;have x:((arrOf st).map (·.2)).size=us.length:=by rw[Array.size_map,hp.size_eq,g]
  obtain⟨_,o⟩:=Heap.SameBut.update s.heap kS (Obj.mapSeq λ_=>(#[]:U9));have f:=(o D hkd.symm).trans nd;obtain⟨_,u⟩:=Heap.SameBut.update (s.heap.update kS (Obj.mapSeq λ_=>(#[]:U9))) D (Obj.mapSeq λ_=>(arrOf st).map (·.2));have l:=Yu f λ_=>(arrOf st).map (·.2);unfold ksk_tail;simp only[Mx,HY];refine Aw (V9 nk rfl ?_ (by rw[n];lia) (Ed _));refine Aw (wpAny_letGo (Aw (seqEpoch_at f rfl ?_)));refine Aw (V9 f rfl ?_ (Ed _) (by lia));rw[m];simp only[bne_self_eq_false,Mx,HY];exact Bl (h _ _ _ _ o u l (ksk_out (b:=false) hk hp k))
 unfold ksk_end;dsimp only;rw[if_neg GJ];by_cases h2:us.toArray.size<2
 ·rw[if_pos h2,if_pos h2];refine Aw (Bl ?_);rw[StateT.run_pure];refine Aw (Bl (d _ (Array.Perm.refl _) (λi j v q=>?_) rfl));have r:j<(keys.zip us.toArray).size:=q;rw[Ep]at h2;have:i=j:=by lia
  rw[this];exact Vy _
 ·rw[if_neg h2,if_neg h2,ksk_kind hk (by rw[n];rw[Ep]at h2;lia)];rw[Ep]at h2
  refine Aw (Bl (Aw (GD (wpS_sortRuns (a₀:=keys.zip us.toArray)
   (Q:=λ_ t=>(arrOf t).Perm (keys.zip us.toArray)/\failedOf t=none/\SortedTo (arrOf t) (keys.zip us.toArray).size) (ksk_intKeys hk) ⟨Array.Perm.refl _,U,U,U⟩ (by rw[g];lia) (by rw[g];lia) λt a b c=>⟨a,b,c⟩) ?_ λ_ _ z=>z)))
  rintro ⟨⟨⟩,t⟩ s' ⟨rfl,hp,m,k⟩;exact d t hp (by rw[hp.size_eq];exact k) m
noncomputable def Cx.low (X:Cx):Cx:={X with A:=X.A.in1.in1,xe:=Calm}
variable{X:Cx}
theorem Cx.Ok.low(o:X.Ok):X.low.Ok:=⟨o.1,o.2,o.3,o.4,o.5,o.6,o.7,o.8,o.9,o.10,o.11,o.12,o.13,o.14,o.15,o.16,o.17,o.18⟩
section
variable {X:Cx}{pins:U1}{σ:St}{H:Hp}{s:U7}
theorem Inv.low(I:Inv X pins σ H s):Inv X.low pins σ H s:=⟨I.ok.low,I.2,I.3,I.4,I.5,I.6,I.7,I.8,I.9,I.10,I.11⟩
theorem Inv.high(I:Inv X.low pins σ H s)(o:X.Ok):Inv X pins σ H s:=⟨o,I.2,I.3,I.4,I.5,I.6,I.7,I.8,I.9,I.10,I.11⟩
theorem Inv.track{D:W9}{ys:List V}{n:Nat}(I:Inv X pins σ H s)(f:Dl X pins H D)(hz:ys.length<=sizeLine)(r:Vals ys us)(e:s.heap.get? D=some (seqObj "list" us.toArray n)):
  Inv X pins σ (upd H D (.lst ys)) s:=by
 have a:∀b u,H b=some u->b≠D:=λb u q z=>by rw[z,f.1]at q;cases q
 refine I.step (h':=s.heap) (g':=s.gens) (d':=s.drawn) (t':=s.toks) (ch:=[D]) (λb hb=>?_) (λb o _ _ _ q _=>q) (λb o _ _ _ q _=>⟨o.slots,q⟩) (λb o d _ q=>?_) (λb o _ q=>⟨o,q⟩)
  (λb xs q=>?_) (λb o u q=>?_) (λb ps q=>⟨#[],?_⟩) (λm hm=>hm) (λb u q=>?_) I.bare
 ·cases DK.mp hb;exact⟨f.2.2.2.1,f.2.1,f.2.2.2.2.1,f.2.2.2.2.2⟩
 ·rw[Cd λz=>d (DK.mpr z)];exact q
 ·rw[Cd (a _ _ q)];exact q
 ·rw[Cd (a _ _ q)];exact q
 ·rw[Cd (a _ _ q),q];simp
 ·by_cases hb:b=D
  ·subst hb;rw[Ar]at q;cases q;exact⟨hz,us,n,r,e⟩
  ·rw[Cd hb]at q;exact(I.hok b u q).stay (λ_ _ _ q=>q) (λc q=>by rw[Cd (a _ _ q)];exact q) λc xs q=>by rw[Cd (a _ _ q)];exact q
end
theorem Y1y{k:Nat}{f:W9}{fd:FuncData}{p0:Str}{sp:Sp}(F:Ec X.prog X.w X.K X.mg X.base N8 k f fd [p0] sp)(hb:Binds X.K fd [p0] [])(hr:Cg (k+2) X.A)
  {pins:U1}{s:U7}{σ:St}{H:Hp}{l:W9}{xs:List V}{Q:VK} (I:Inv X pins σ H s) (hl:H l=some (.lst xs)) (hkz:kz.length=xs.length) (h64:xs.length<64)
  (turn:∀(i:Nat) x z,xs[i]?=some x->kz[i]?=some z->sp [x] H (λv H'=>v=.int z/\H'=H) E0)
  (q:∀(D:W9) (ps:List (Int×V)),H D=none->ps.Perm (kz.zip xs)->ps.Pairwise (λa b=>a.1<=b.1)->Q (.ref D) (upd H D (.lst (ps.map (·.2))))):
  wpAny (model X.prog X.w) X.A (call (.builtin "sorted") [.ref l] [(Str.ofString "key",.ref f)]) (EP X pins σ Q) X.xe s:=by
 obtain⟨_,its,n,rv,el,ho⟩:=I.lstM hl;have P:its.length<64:=by lia
 have a4:(64:Nat)<=sizeLine:=by decide
 have N:kz.length=its.length:=hkz.trans el;refine call_function_entry_kw kind_sorted bZ kE (ksk_s1 _ _) ?_;unfold Builtin.«sorted»;refine Aw (m:=checkCount "sorted" 1 1 _) (Bl ?_);refine Aw (collect_list (vs:=its) ⟨_,ho,U,n,U⟩ ?_ (by lia));have k0:∀b o,s.heap.get? b=some o->((s.heap.push (seqObj "list" #[] 0)).update s.heap.objs.size (Obj.mapSeq (·++its.toArray))).get? b=some o:=λb o x=>by
  rw[Wc _ _ _ _ (DY (CN x))];exact Ef _ x
 have z0:s.heap.objs.size<=((s.heap.push (seqObj "list" #[] 0)).update s.heap.objs.size (Obj.mapSeq (·++its.toArray))).objs.size:=by
  rw[d_,Vx];exact Nat.le_succ _
 revert k0 z0;generalize (s.heap.push (seqObj "list" #[] 0)).update s.heap.objs.size (Obj.mapSeq (·++its.toArray))=g;intro k0 z0;refine Aw (WD ?_ (by lia));have M:(g.push (seqObj "list" its.toArray 0)).get? g.objs.size=some (seqObj "list" its.toArray 0):=Fj _ rfl;have k1:∀b o,s.heap.get? b=some o->(g.push (seqObj "list" its.toArray 0)).get? b=some o:=λb o x=>Ef _ (k0 b o x);have z1:(g.push (seqObj "list" its.toArray 0)).objs.size=g.objs.size+1:=Vx ..;revert z0 M k1 z1;generalize g.push (seqObj "list" its.toArray 0)=g1;generalize g.objs.size=D;intro z0 M k1 z1;refine Aw (Ky (wpAny_call_entry_kw cu ⟨_,M,U⟩ dz ?_ (ksk_l1 _ _)));show wpAny (model X.prog X.w) X.low.A (Builtin.«list.sort» ⟨[.ref D],[(Str.ofString "key",.ref f)]⟩) _ _ _;rw[ksk_t1];unfold ksk_tree;refine Aw (Yk M rfl ?_);refine Aw (V9 M rfl ?_ (by rw[Ep];lia) (Ed _));obtain⟨G,C⟩:∃G,(g1.update D (Obj.mapSeq λ_=>(#[]:U9))).get? D=some (seqObj "list" #[] G):=⟨_,Yu M λ_=>#[]⟩;have k2:∀b o,s.heap.get? b=some o->(g1.update D (Obj.mapSeq λ_=>(#[]:U9))).get? b=some o:=λb o x=>by
  rw[Wc _ _ _ _ (DY (Cu (CN x) z0))];exact k1 b o x
 have z2:D<(g1.update D (Obj.mapSeq λ_=>(#[]:U9))).objs.size:=by rw[d_,z1];exact KR _
 revert C k2 z2;show _->_->_->wpAny _ _ _ _ _ {s with heap:=g1.update D (Obj.mapSeq λ_=>(#[]:U9))};generalize g1.update D (Obj.mapSeq λ_=>(#[]:U9))=g2;intro C k2 z2;refine Aw (seqEpoch_at C rfl ?_);refine Aw (wpAny_newTuple ?_ (by show its.length<=_;lia));have k3:∀b o,g2.get? b=some o->(g2.push (seqObj "tuple" its.toArray 0)).get? b=some o:=λb o x=>Ef _ x;have z3:(g2.push (seqObj "tuple" its.toArray 0)).objs.size=g2.objs.size+1:=Vx ..;revert k3 z3;show _->_->wpAny _ _ _ _ _ {s with heap:=g2.push (seqObj "tuple" its.toArray 0)};generalize g2.push (seqObj "tuple" its.toArray 0)=g3;intro k3 z3;refine Aw (WD ?_ (Ed _));have Y:(g3.push (seqObj "list" (#[]:U9) 0)).get? g3.objs.size=some (seqObj "list" #[] 0):=Fj _ rfl;have W:∀b o,g3.get? b=some o->(g3.push (seqObj "list" (#[]:U9) 0)).get? b=some o:=λb o x=>Ef _ x;have zK:D<g3.objs.size:=by lia
 revert Y W zK;show _->_->_->wpAny _ _ _ _ _ {s with heap:=g3.push (seqObj "list" (#[]:U9) 0)};generalize g3.push (seqObj "list" (#[]:U9) 0)=g4;generalize g3.objs.size=kS;intro Y W zK;have hn:∀b,s.heap.objs.size<=b->H b=none:=λb x=>I.hok.fresh x;have B:Dl X.low pins H D:=I.fpOk z0 (hn D z0);have r:Dl X.low pins H kS:=I.fpOk (by lia) (hn kS (by lia));have S:kS≠D:=Ms zK;have E:∀{s':U7}{d:U9}{e:Nat},Inv X.low pins σ H s'->s'.heap.get? kS=some (seqObj "list" d e)->s'.heap.get? D=some (seqObj "list" #[] G) ->
   Inv X.low (pins++[(kS,seqObj "list" d e),(D,seqObj "list" #[] G)]) σ H s':=λ{s' d e} J a b=>J.pins_of λp hp=>by
  rcases DR.mp hp with hp | hp
  ·exact J.pin p (FQ _ hp)
  ·rcases Dg.mp hp with rfl | hp
   ·exact⟨a,r.1,r.2.1,r.2.2.1,λv z=>by cases z⟩
   ·cases DK.mp hp;exact⟨b,B.1,B.2.1,B.2.2.1,λv z=>by cases z⟩
 have R:∀{s':U7}{d:U9}{e:Nat},Inv X.low (pins++[(kS,seqObj "list" d e),(D,seqObj "list" #[] G)]) σ H s'->s'.heap.get? kS=some (seqObj "list" d e)/\s'.heap.get? D=some (seqObj "list" #[] G):=λJ =>
  ⟨(J.pin (kS,_) (FQ _ (FQ _ (.head _)))).1,(J.pin (D,_) (FQ _ (FQ _ (.tail _ (.head _))))).1⟩
 have I4:Inv X.low pins σ H {s with heap:=g4}:=I.low.kept (t':=s.toks) λb o x=>W b o (k3 b o (k2 b o x));have a3:Cg k X.low.A:=hr.in1.in1;refine Ky ?_;unfold ksk_rest;refine Aw (wpAny_rule ?_);rw[List.forIn_toArray]
 refine Aw (ksk_fold (λi s'=>∃d e,Inv X.low (pins++[(kS,seqObj "list" d e),(D,seqObj "list" #[] G)]) σ H s'/\IntsAre d.toList (kz.take i)) its 0 _
  ⟨#[],0,E I4 Y (W _ _ (k3 _ _ C)),by simpa using IntsAre.nil⟩ (λj u s' hu J=>?_) λs' J=>?_)
 ·obtain⟨d,e,J,L⟩:=J;rw[Ox]at L ⊢;have hj:j<its.length:=(Fe.mp hu).1;obtain⟨z,hz⟩:∃z,kz[j]?=some z:=⟨_,Cm (by lia)⟩;obtain⟨x,hx⟩:∃x,xs[j]?=some x:=⟨_,Cm (by lia)⟩;have rx:RelV x u:=lU rv (x,u) (qD.mpr ⟨j,by rw[List.getElem?_zip_eq_some];exact⟨hx,hu⟩⟩);have hA:d.size<=its.length:=by
   have:=L.length;rw[JT,Gk]at this;lia
  refine Aw (V_ (GD (yL (X:=X.low) (us:=[u]) (vs:=[x]) (ds:=[]) (dvs:=[]) F a3 hb .nil Qk J (.cons rx .nil) (turn j x z hx hz)) (λv s2 c=>?_) λ_ _ c=>c.elim));obtain⟨y,H2,T,ry,rfl,rfl⟩:=c;obtain⟨t,rfl⟩:=ry;obtain⟨O,a2⟩:=R T;dsimp only;refine Aw (V9 O rfl ?_ (by lia) (by rw[Array.size_push];lia));have J3:=T.unpinned.turned (t':=s2.toks) (h':=s2.heap.update kS (Obj.mapSeq (·.push (.int z t)))) (it:=kS) (λb o h x=>by rw[Wc _ _ _ _ h];exact x) r.1 r.2.1 r.2.2.2.1 r.2.2.2.2.1 r.2.2.2.2.2;refine Bl ⟨U,d.push (.int z t),_,E J3 (Yu O _) ((Wc _ _ _ _ S.symm).trans a2),?_⟩;rw[Gs,hz,Array.toList_push];exact ksk_snoc L
 ·obtain⟨d,e,J,L⟩:=J;rw[Ox,<-N,Ia]at L;obtain⟨O,a2⟩:=R J;refine Aw (Yk O rfl ?_);refine W1h O a2 S L N P λh1 h2 out c q1 q2 a0 ko=>⟨_,U,Bl ⟨_,U,?_⟩⟩;obtain⟨ps,pp,pv,po⟩:=X2i rv ko;have J1:=J.unpinned.turned (t':=s'.toks) (h':=h1) (it:=kS) (λb o h x=>by rw[q1 b h];exact x) r.1 r.2.1 r.2.2.2.1 r.2.2.2.2.1 r.2.2.2.2.2;have T:=J1.turned (t':=s'.toks) (h':=h2) (it:=D) (λb o h x=>by rw[q2 b h];exact x) B.1 B.2.1 B.2.2.2.1 B.2.2.2.2.1 B.2.2.2.2.2;have Z:(ps.map (·.2)).length<=sizeLine:=by
   have:=pp.length_eq;rw[List.length_zip]at this;rw[Az];lia
  have J4:=T.track B Z pv (n:=c) (by rw[Y5];exact a0);exact⟨.ref D,_,J4.high I.ok,U,q D ps (hn D z0) pp po⟩
def Q5 (sp:Sp)(Q:VK)(v:V)(H1:Hp):Prop:=∃(l:W9) (xs:List V) (kz:U6),v=.ref l/\H1 l=some (.lst xs)/\kz.length=xs.length/\xs.length<64 /\
 (∀(i:Nat) x z,xs[i]?=some x->kz[i]?=some z->sp [x] H1 (λv H'=>v=.int z/\H'=H1) E0) /\
 ∀(D:W9) (ps:List (Int×V)),H1 D=none->ps.Perm (kz.zip xs)->ps.Pairwise (λa b=>a.1<=b.1)->Q (.ref D) (upd H1 D (.lst (ps.map (·.2))))
def Q7 (sp:Sp)(te:TE):TE:=λσ H Q=>te σ H λv H1=>Q5 sp Q v H1
theorem X2g{k:Nat}{y p0:Str}{sp:Sp}{e:Expr}{te:TE}{p p2 kp pos:Pos}(c:Aj X.prog X.w X.K X.mg X.base k y [p0] sp)(hr:Cg (k+2) X.A)(hg:Gl X "sorted")(hm:X.mg "sorted"=none)(hgy:Gl X y)(he:PE X e te)
  (hdy:(y == ("__debug__":Str))=false:=by decide) (hs:starEach [e] X.env=(false,eval e X.env)::starEach [] X.env:=by rfl):
  PE X (.Call (.Name "sorted" p) [e] [⟨some "key",.Name y p2,kp⟩] pos) (Q7 sp te):=by
 intro pins s σ H Q I h;obtain⟨f,fd,F,b,g,m⟩:=c.ex;refine Wb (Rv I hg hm boot_sorted ?_ (by decide) (by decide));refine callWith_kw (Bk (Aa he Ae hs pos pins s σ H (λvs H1=>match vs with | [v]=>Q5 sp Q v H1 | _=>False) I h) λus D ⟨vs,H1,C,r,a⟩=>?_) (by rw[hs];rfl) (by rw[hs];rfl) rfl rfl;refine Bk (X7b (Pq (v:=.ref f) hgy m rfl hdy) W1r pos pins D σ H1 (λzs H2=>zs=[.ref f]/\H2=H1) C ⟨U,U⟩) λE s2 ⟨zs,H2,n,j,o,i⟩=>?_;subst o i;obtain⟨u,rfl,d⟩:=vals1 j;cases d;match vs,r,a with
 | [v],r,a =>
  obtain⟨u,rfl,x⟩:=vals1 r;obtain⟨l,xs,kz,rfl,B,z,e2,t,q⟩:=a;cases x;exact Y1y F b hr n B z e2 t q
end L2
namespace Ah
open L2 Pc JL DG CT
open Bh (CK vec V6 wl HJ ev Ck)
theorem Sd{X:Cx}{st:Stmt}:PS X st (λ_ _ _=>False):=λ_ _ _ _ _ _ h=>h.elim
theorem Bv.upd{H:Hp}{l:W9}{xs ys:List V}{ps:U3}{ms:List Mk}(h:Bv H ps ms)(hl:H l=some (.lst xs)):Bv (upd H l (.lst ys)) ps ms :=
 Paired.imp' (λ_ _ c=>by rw[Cd (J0 c hl (by intro z;cases z))];exact c) h
theorem Bv.zip{H:Hp}:∀{ps:U3}{ms:List Mk},Bv H ps ms->(∀t∈ps.zip ms,H t.1=some (T3 t.2))/\(ps.zip ms).map (·.1)=ps/\(ps.zip ms).map (·.2)=ms
 | [],[],.nil=>⟨λ_ h=>(nomatch h),rfl,rfl⟩
 | p::ps,m::ms,.cons a r=>by
  obtain⟨h1,h2,c⟩:=Bv.zip r;rw[Yy];refine⟨λt b=>?_,by rw[FJ,h2],by rw[FJ,c]⟩;rcases Dg.mp b with rfl | b
  ·exact a
  ·exact h1 t b
theorem Bv.ofzip{H:Hp}:∀{l:List (Addr×Mk)},(∀t∈l,H t.1=some (T3 t.2))->Bv H (l.map (·.1)) (l.map (·.2))
 | [],_=>.nil
 | t::l,h=>.cons (h t (.head _)) (Bv.ofzip λu a=>h u (.tail _ a))
theorem VB:∀{ds:U3}{D:List Mk}{g:Mk->Int},ds.length=D.length->(D.map g).zip (ds.map V.ref)=(ds.zip D).map λt=>(g t.2,V.ref t.1)
 | [],[],_,_=>rfl
 | d::ds,m::D,g,h=>by
  simp only[FJ,Yy];rw[VB (Nat.succ.inj h)]
def lZ:Sp:=λvs H Q _=>∃(l:W9) (ps:U3) (ms:List Mk) (N:Nat),vs=[.ref l,.int N]/\KC N H l ps ms/\1<=N/\N<=6 /\
 ∀(r:W9) (H':Hp) (qs:U3) (S:List Mk),Same H H'->H r=none->H' r=some (.lst (qs.map V.ref))->Bv H' qs S->Bh.Dm ms S->S.length=ms.length->S.Pairwise (λa b=>Ck a<=Ck b)->Q (.ref r) H'
section
variable {P:U8}{w:W1}{K:U0}{mg:U4}{base:Heap}{k:Nat}{h:Heap}
def vQ:Sp:=λvs H Q _=>∃(l:W9) (ps:U3) (ms:List Mk) (N:Nat),vs=[.ref l,.int N]/\KC N H l ps ms/\1<=N/\N<=6/\∀H',Same H H'->Q .non H'
theorem Hy:CW ["rows","cells"] ["rows","cells"] (Dy (top 49)):=fS
theorem Y9d(F:Ab K "check_table" (top 49) .none)(X:K.In h)(G:Ng h mg)(cR:Aj P w K mg base k "is_table" ["rows","cells"] wX):Aj P w K mg base (k+1) "check_table" ["rows","cells"] vQ:=by
 refine F.cal X G _ (S:=Hy) λg H vs Q f b h=>?_;obtain⟨l,ps,ms,N,rfl,T,e,a,c⟩:=h
 refine⟨_,(@Ak _ _ _ (Bx (Eh (DW (BP cR b rfl (Aa (pv 0) (Aa (pv 1) Ae)))))
   (@Ak _ _ _ Sd)
   B_)),?_⟩
 try dsimp only[CG]
 exact⟨_,U,_,U,l,ps,ms,N,U,T,e,a,λH1 d=>⟨_,U,CQ (c H1 d)⟩⟩
theorem Gy:CW ["rows","cells","done","row","fresh","each"] ["rows","cells"] (Dy (top 50)):=fS
theorem Y6i(F:Ab K "reduced" (top 50) .none)(X:K.In h)(G:Ng h mg)(B:Bs mg)(cM:Aj P w K mg base (k+2) "check_table" ["rows","cells"] vQ)(cQ:Aj P w K mg base (k+2) "without_lead" ["mark","row"] wg)(dX:Aj P w K mg base k "lead" ["mark"] (GR K)):
  Aj P w K mg base (k+2+1) "reduced" ["rows","cells"] lZ:=by
 refine F.cal X G _ (S:=Gy) λM H vs Q E' hr h=>?_;obtain⟨l,ps,ms,N,rfl,T,N1,N6,kq⟩:=h;have hS:Ag K H l (ps.map V.ref):=Ag.of T.lst;have a2:(ps.map V.ref).length=ms.length:=by rw[Az,T.mks.length]
 have l6:=T.len
 refine⟨_,(@Ay _ _ _ _ _ (Ni (BP cM hr rfl (Aa (pv 0) (Aa (pv 1) Ae))))
  (@Ay _ _ _ _ _ (@BX _ _ 2 _ _ _ _ M rfl (Or.inl rfl) (@Kh _ _ _ _ Ae) rfl (.inl rfl))
  (@Ay _ _ _ _ _ (Ge PassesOwn.never rfl (Ei (pv 0)) (Bb (i:=3) M rfl (Or.inl rfl))
   (@Ay _ _ _ _ _ (@BX _ _ 4 _ _ _ _ M rfl (Or.inr rfl) (pv 3) rfl (.inl rfl))
   (@Ay _ _ _ _ _ (Ge PassesOwn.never rfl (Ei (pv 2)) (Bb (i:=5) M rfl (Or.inl rfl))
    (@Ak _ _ _ (@BX _ _ 4 _ _ _ _ M rfl (Or.inr rfl) (BP cQ hr rfl (Aa (pv 4) (Aa (pv 5) Ae))) rfl (.inl rfl))))
   (@Ak _ _ _ (@BX _ _ 2 _ _ _ _ M rfl (Or.inl rfl) (Af Ud (Gp rfl (BW.of (Nc:=["each","fresh"]) (mp:=[none,some 4]) (by kernel_rfl)) (Ei (pv 2)) (λ_ _ _ _=>(Bb (i:=0) (show (["each","fresh"]:W0).Nodup by decide +kernel) rfl (Or.inl rfl))) (λ_ _ _ _=>(BP cQ hr rfl (Aa (pv 0) (Aa (pv 1) Ae))))) (@Kh _ _ _ _ (Aa (pv 4) Ae))) rfl (.inl rfl))))))
  (@Ak _ _ _ (BL (X2g dX hr rfl B.sorted rfl (pv 2))))))),?_⟩
 try dsimp only[CG]
 refine⟨_,U,_,U,l,ps,ms,N,U,T,N1,N6,λH1 S1=>?_⟩;refine⟨by decide,λl0 a6=>?_⟩;have s1:=S1.trans (A_ a6 (.lst []))
 refine⟨_,U,l,U,⟨_,s1.seq hS⟩,LC (K:=K) (a:=l) (xs:=ps.map V.ref) (λi σ H'=>Same H H'/\∃(ld:W9) (ds:U3) (D:List Mk) (ls:W3) (v3 v4 I:Option V),H' ld=some (.lst (ds.map V.ref))/\Bv H' ds D/\Bh.Dn ms i D ls/\σ=[some (.ref l),some (.int N),some (.ref ld),v3,v4,I])
  ⟨s1,l0,[],[],[],none,none,none,Ar,.nil,Bh.Dn.start ms,U⟩ (λi σ H' _ e=>e.1.seq hS) ?_ ?_⟩
 ·rintro i x σ H2 c ⟨Z,ld,ds,D,ls,v3,v4,I,f,J,m,rfl⟩;have u:i<ms.length:=by
   have:=(Fe.mp c).1;lia
  rw[Bu]at c;obtain⟨p,hp,rfl⟩:=Dt.mp c;obtain⟨row,a4,p0⟩:=T.mks.get hp;have eg:ms.getD i (0,0,0)=row:=by rw[Bp,a4];rfl
  have lD:=m.len;have Gn:=J.length;have C:(ds.map V.ref).length=i:=by rw[Az,Gn,lD]
  have gD:∀d∈D,ev d/\V6 d:=λd hd=>Bh.HX T.tb (by lia) (m.g d hd);have frs:∀t,t<=i->V6 (Bh.fr D ls row t):=λt ht=>by
   have:=(Bh.HX T.tb (by lia) (Bh.oM T.tb u m t ht).G).2;rw[<-eg];exact this
  refine⟨_,U,?_⟩
  refine⟨_,U,ld,U,⟨_,Ag.of f⟩,LC (K:=K) (a:=ld) (xs:=ds.map V.ref) (λt σ H'=>Same H2 H'/\∃(s:W9) (I:Option V),H' s=some (T3 (Bh.fr D ls row t))/\σ=[some (.ref l),some (.int N),some (.ref ld),some (.ref p),some (.ref s),I])
   ⟨Same.refl _,p,_,Z _ _ p0,U⟩ (λt σ H' _ e=>Ag.of (e.1 _ _ f)) ?_ ?_⟩
  ·rintro t x σ H3 c ⟨E,s,I,o,rfl⟩;have a7:t<i:=by
    have:=(Fe.mp c).1;lia
   rw[Bu]at c;obtain⟨q,W,rfl⟩:=Dt.mp c;obtain⟨d,b,Y⟩:=J.get W;have ed:D.getD t (0,0,0)=d:=by rw[Bp,b];rfl
   have L:=m.ld t a7;refine⟨_,U,_,U,s,q,Bh.fr D ls row t,d,ls.getD t 0,U,o,E _ _ Y,frs t (by lia),(gD d (Er b)).2,by rw[<-ed];exact L,λr H4 O v=>?_⟩;rw[<-ed]at v;exact⟨E.trans O,r,_,v,U⟩
  ·rintro σ H3 ⟨E,s,I,o,rfl⟩;rw[C]at o;have FR:=Bh.oM T.tb u m i (Bd _);have a1:=frs i (Bd _);rw[eg]at FR;obtain⟨n,_,L⟩:=Bh.X3s a1 (FR.nz T.tb u);have DX:=m.next T.tb u FR L
   generalize Bh.fr D ls row i=fm at *;refine⟨_,U,ld,U,⟨_,Ag.of (E _ _ f)⟩,λacc A=>?_⟩;refine Lw (K:=K) (a:=ld) (xs:=ds.map V.ref) (fr:=[some (.ref s)]) (λj ys H'=>Same H3 H'/\H' acc=some (.lst ys)/\∃qs,ys=qs.map V.ref/\Bv H' qs ((D.take j).map λd=>wl d fm n)) (by rw[C];exact Jj (by lia))
    ⟨A_ A _,Ar,[],U,.nil⟩ (λj ys H' e=>Ag.of (e.1 _ _ (E _ _ f))) ?_ ?_
   ·rintro j x ys HA NN c hl ⟨SA,cA,qs,rfl,mA⟩ kN;rw[Bu]at c;obtain⟨q,W,rfl⟩:=Dt.mp c;obtain⟨d,b,Y⟩:=J.get W;refine⟨_,U,_,U,q,s,d,fm,n,U,SA _ _ (E _ _ Y),SA _ _ o,(gD d (Er b)).2,a1,L,λr H4 O v=>?_⟩;have c4:=O _ _ cA;refine kN _ _ c4 ⟨Dj (SA.trans O) A,Ar,qs++[r],by rw[Ca];rfl,?_⟩;rw[Gs,b,Iu,Ca];refine Bv.upd (Paired.snoc (mA.same O) v) c4
   rintro ys HB a8 ⟨SB,cB,qs,rfl,mB⟩;rw[C,Tv (by lia)]at mB;refine⟨_,U,Jj (by simp),λl1 a3=>?_⟩;have s5:=A_ a3 (.lst [V.ref s]);have zq:=mB.length;rw[Az]at zq;refine⟨acc,l1,_,_,U,U,s5 _ _ cB,Ar,?_,λl2 a5=>?_⟩
   ·rw[Az,zq];exact Jj (by simp;lia)
   have s6:=A_ a5 (.lst (qs.map V.ref++[V.ref s]));have ss:=(SB.trans s5).trans s6;refine⟨(Z.trans E).trans ss,l2,qs++[s],_,_,_,_,_,?_,Paired.snoc (mB.same (s5.trans s6)) (ss _ _ o),DX,U⟩;rw[Ar,Ca];rfl
 ·rintro σ H2 ⟨Z,ld,ds,D,ls,v3,v4,I,f,J,m,rfl⟩;rw[a2]at m;have DM:=m.all;have lD:=m.len;have Gn:=J.length;refine⟨_,U,ld,ds.map V.ref,D.map (λd=>(Ck d:Int)),U,f,by rw[Az,Az];lia,by rw[Az];lia,λi x z c hz=>?_,λR qs hR pp po=>?_⟩
  ·rw[Bu]at c hz;obtain⟨q,W,rfl⟩:=Dt.mp c;obtain⟨d,b,rfl⟩:=Dt.mp hz;obtain⟨d',y,Y⟩:=J.get W;rw[b]at y;cases y;have a0:=Er b;exact⟨q,d,Ck d,U,Ai.of Y,(Bh.HX T.tb (Bd _) (m.g d a0)).2,DM.ld d a0,U,U⟩
  ·obtain⟨z1,z2,z3⟩:=J.zip;obtain⟨rl,pr,er⟩:=vM pp (VB (g:=λd=>(Ck d:Int)) Gn);subst er;have sR:=A_ hR (.lst ((rl.map λt:Addr×Mk=>((Ck t.2:Int),V.ref t.1)).map (·.2)));have pD:(rl.map (·.2)).Perm D:=by
    have:=pr.map (·.2);rw[z3]at this;exact this
   refine kq R _ (rl.map (·.1)) (rl.map (·.2)) (Z.trans sR) (Z.free hR) ?_ ((Bv.ofzip λt ht=>z1 t (pr.mem_iff.mp ht)).same sR) (DM.perm T.tb pD) (by rw[pD.length_eq,lD]) ?_
   ·rw[Ar,Ou,Ou];rfl
   ·rw[WX]at po ⊢;exact po.imp λh=>by lia
end
end Ah
namespace Ci
open Pc JL DG CT Ba
open Bh (cm ev Tb En G V6 vec)
abbrev V4:=Int×Int×Int×Int
noncomputable def nx (v:V4):V4:=(-v.2.2.2,v.1,v.2.1,v.2.2.1)
theorem Zf(n:Nat)(v:V4):Dq (n+1) v=nx (Dq n v):=rfl
theorem ZR(n:Nat)(v:V4):∀m,Dq (m+n) v=Dq m (Dq n v)
 | 0=>by rw[Ox];rfl
 | m+1=>by rw[Nat.add_right_comm,Zf,Zf,ZR n v m]
theorem Y8f(v:V4):Dq 8 v=v:=by
 obtain⟨a,b,c,d⟩:=v;show ((- -a,- -b,- -c,- -d):V4)=_;simp only[Int.neg_neg]
theorem yJ(v:V4):∀k,Dq (8*k) v=v
 | 0=>rfl
 | k+1=>by rw[Nat.mul_succ,ZR,Y8f,yJ v k]
theorem Um(n:Nat)(v:V4):Dq (n%8) v=Dq n v:=by
 have:n=n%8+8*(n / 8):=by lia
 have e:=ZR (8*(n / 8)) v (n%8);rw[yJ,<-this]at e;exact e.symm
theorem Nh(x:A5)(n:Nat):Bc x ((n:Nat):Int)=(Dq n x.1,x.2):=by
 unfold Bc;rw[show (((n:Int))%8).toNat=n%8 by lia,Um]
theorem Sq(x:A5)(a b:Nat):Bc (Bc x (a:Nat)) (b:Nat)=Bc x ((a+b:Nat):Int):=by
 rw[Nh,Nh,Nh,j5,ZR]
variable{a b:Nat}
theorem Qz(x:A5)(h:a%8=b%8):Bc x (a:Nat)=Bc x ((b:Nat):Int):=by
 rw[Nh,Nh,<-Um a,h,Um]
theorem r4(h:a<4)(v:V4):Dq (2*a) v=if a=0 then v else if a=1 then (-v.2.2.1,-v.2.2.2,v.1,v.2.1) else if a=2 then (-v.1,-v.2.1,-v.2.2.1,-v.2.2.2) else (- -v.2.2.1,- -v.2.2.2,-v.1,-v.2.1):=by
 have:a=0\/a=1\/a=2\/a=3:=by lia
 rcases this with rfl | rfl | rfl | rfl<;>rfl
theorem Xp{x:A5}(nz:x.1≠(0,0,0,0))(h:Bc x ((2*a:Nat):Int)=Bc x ((2*b:Nat):Int)):a%4=b%4:=by
 rw[Nh,Nh]at h;have h1:=congrArg Prod.fst h;obtain⟨⟨p,q,r,s⟩,g⟩:=x;have e:∀n:Nat,Dq (2*n) (p,q,r,s)=Dq (2*(n%4)) (p,q,r,s):=λn=>by
  rw[<-Um (2*n),show 2*n%8=2*(n%4) by lia]
 have h2:Dq (2*a) (p,q,r,s)=Dq (2*b) (p,q,r,s):=h1;rw[e a,e b,r4 (by lia),r4 (by lia)]at h2;apply Classical.byContradiction;intro i;apply nz;show ((p,q,r,s):V4)=_;have d:a%4<4:=Eu _ (by decide);have f:b%4<4:=Eu _ (by decide);generalize a%4=a' at *;generalize b%4=b' at *;have c:p=0/\q=0/\r=0/\s=0:=by
  split at h2<;>split at h2<;>(try split at h2)<;>(try split at h2)<;>(try split at h2)<;>(try split at h2)<;>(try (simp only[Prod.mk.injEq]at h2))<;>lia
 rw[c.1,c.2.1,c.2.2.1,c.2.2.2]
def Kp (c:Nat)(f:Nat->A5)(m:Mk):Prop:=∀w,w<2^c->f (w^^^m.2.1)=Bc (f w) ((2*m.1+4*pc (w&&&m.2.2):Nat):Int)
def Nv (c:Nat)(f:Nat->A5):Prop:=∃w,w<2^c/\(f w).1≠(0,0,0,0)
variable {c:Nat}{f:Nat->A5}
theorem Kp.one:Kp c f (0,0,0):=λw _=>by
 show f (w^^^0)=Bc (f w) ((2*0+4*pc (w&&&0):Nat):Int);rw[Ow,Tf,Gx];rfl
variable{m m':Mk}
theorem Kp.mul(hf:m'.2.1<2^c)(h:Kp c f m)(h':Kp c f m'):Kp c f (mul m m'):=λw a=>by
 show f (w^^^(m.2.1^^^m'.2.1))=Bc (f w) ((2*((m.1+m'.1+2*pc (m.2.2&&&m'.2.1))%4)+4*pc (w&&&(m.2.2^^^m'.2.2)):Nat):Int);have e:w^^^(m.2.1^^^m'.2.1)=(w^^^m'.2.1)^^^m.2.1:=by rw[Fq,JN m.2.1]
 rw[e,h (w^^^m'.2.1) (FP a hf),h' w a,Sq];apply Qz;have d:=Ri w m.2.2 m'.2.2;have b:=Ri m.2.2 w m'.2.1;rw[GX m.2.2 (w^^^m'.2.1),GX m.2.2 w]at b;lia
theorem Kp.q(nz:Nv c f)(h:Kp c f m)(h':Kp c f m')(e:m.2=m'.2):m.1%4=m'.1%4:=by
 obtain⟨w,d,g⟩:=nz;have a:=h w d;have b:=h' w d;rw[e]at a;rw[a]at b
 have:=Xp g (a:=m.1+2*pc (w&&&m'.2.2)) (b:=m'.1+2*pc (w&&&m'.2.2)) (by
  rw[show 2*(m.1+2*pc (w&&&m'.2.2))=2*m.1+4*pc (w&&&m'.2.2) by lia,show 2*(m'.1+2*pc (w&&&m'.2.2))=2*m'.1+4*pc (w&&&m'.2.2) by lia]
  exact b)
 lia
theorem Kp.ev(nz:Nv c f)(hf:m.2.1<2^c)(h:Kp c f m):ev m:=by
 have a:=Kp.q nz (Kp.mul hf h h) Kp.one (show (m.2.1^^^m.2.1,m.2.2^^^m.2.2)=(0,0) by rw[JQ,JQ]);have:(m.1+m.1+2*pc (m.2.2&&&m.2.1))%4%4=0:=a;rw[GX]at this;show (m.1+pc (m.2.1&&&m.2.2))%2=0;lia
theorem Kp.cm(nz:Nv c f)(hf:m.2.1<2^c)(hf':m'.2.1<2^c)(h:Kp c f m)(h':Kp c f m'):cm m m'=0:=by
 have a:=Kp.q nz (Kp.mul hf' h h') (Kp.mul hf h' h) (show (m.2.1^^^m'.2.1,m.2.2^^^m'.2.2)=(m'.2.1^^^m.2.1,m'.2.2^^^m.2.2) by rw[JN m.2.1,JN m.2.2]);have:(m.1+m'.1+2*pc (m.2.2&&&m'.2.1))%4%4=(m'.1+m.1+2*pc (m'.2.2&&&m.2.1))%4%4:=a;rw[GX m'.2.2]at this;show (pc (m.2.1&&&m'.2.2)+pc (m.2.2&&&m'.2.1))%2=0;lia
structure Ok (c:Nat) (m:Mk):Prop where
 q:m.1<4
 f:m.2.1<2^c
 s:m.2.2<2^c
theorem Ok.mul(h:Ok c m)(h':Ok c m'):Ok c (mul m m'):=⟨Eu _ (by decide),FP h.f h'.f,FP h.s h'.s⟩
theorem Ok.v6(hc:c<=6)(h:Ok c m):V6 m:=⟨Cu h.f (Fw (by decide) hc),Cu h.s (Fw (by decide) hc)⟩
theorem LQ{ms:List Mk}(ho:∀r∈ms,Ok c r/\Kp c f r):∀{m:Nat}{g:Mk},m<=ms.length->G ms m g->Ok c g/\Kp c f g
 | 0,g,_,⟨x,e⟩=>by
  have:g=(0,0,0):=e;subst this;exact⟨⟨by decide,Cq _,Cq _⟩,Kp.one⟩
 | m+1,g,hm,h=>by
  rcases Bh.Xd h with q | ⟨g',q,rfl⟩
  ·exact LQ ho (by lia) q
  ·have b:=LQ ho (by lia:m<=ms.length) q;have a:=ho _ (Bh.G8 (ms:=ms) (i:=m) (by lia));exact⟨b.1.mul a.1,Kp.mul a.1.f b.2 a.2⟩
structure Ks (c:Nat) (f:Nat->A5) (R:List Mk):Prop where
 ok:∀r∈R,Ok c r/\Kp c f r
 ind:Indep R
theorem Ks.nil:Ks c f []:=⟨λr h=>(nomatch h),λ_ _ _ j h=>absurd h (IV _)⟩
variable{R:List Mk}
theorem Ks.tb(hc:c<=6)(nz:Nv c f)(h:Ks c f R):Tb R :=
 ⟨⟨λm hm=>(h.ok m hm).1.q,λm hm=>(h.ok m hm).2.ev nz (h.ok m hm).1.f,λm hm r a=>Kp.cm nz (h.ok m hm).1.f (h.ok r a).1.f (h.ok m hm).2 (h.ok r a).2⟩,λm hm=>(h.ok m hm).1.v6 hc,h.ind⟩
theorem Ks.in(h:Ks c f R){g:Mk}(hg:In R g):Ok c g/\Kp c f g:=LQ h.ok (Bd _) (Bh.G7.mp hg)
theorem ZF:∀(m n:Nat) (g:Nat->Nat),(∀i,i<n->g i<m)->(∀i j,i<n->j<n->g i=g j->i=j)->n<=m
 | 0,n,g,h,_=>by
  apply Nat.le_of_not_lt;intro o;exact absurd (h 0 o) (IV _)
 | m+1,n,g,h,inj=>by
  by_cases ex:∃i,i<n/\g i=m
  ·obtain⟨i0,hi,e⟩:=ex
   have:=ZF m (n-1) (λi=>g (if i<i0 then i else i+1)) (λi c=>by
    show g (if i<i0 then i else i+1)<m
    have l:(if i<i0 then i else i+1)<n:=by split<;>lia
    have d:(if i<i0 then i else i+1)≠i0:=by split<;>lia
    have a:=h _ l
    have b:g (if i<i0 then i else i+1)≠m:=λz=>d (inj _ _ l hi (z.trans e.symm))
    lia) (λi j c k z=>by
    have l:(if i<i0 then i else i+1)<n:=by split<;>lia
    have f:(if j<i0 then j else j+1)<n:=by split<;>lia
    have:=inj _ _ l f z
    split at this<;>split at this<;>lia)
   lia
  ·have:=ZF m n g (λi hi=>by
    have a:=h i hi
    have b:g i≠m:=λz=>ex ⟨i,hi,z⟩
    lia) inj
   lia
theorem Kd(T:Tb R):R.length<=12:=by
 have a:∀x,x<2^R.length->In R (E R x):=λx b=>⟨x,b,U⟩;have:=ZF (2^12) (2^R.length) (λx=>vec (E R x)) (λx b=>Bh.W1b (Bh.oO T (a x b))) (λx y b c e=>Sv T.ind b c (Bh.X6h (Bh.oO T (a x b)) (Bh.oO T (a y c)) e));exact(qX (by decide)).mp this
theorem Ks.made(nz:Nv c f)(h:Ks c f R)(o:Ok c m)(k:Kp c f m){x:Nat}(e:(E R x).2=m.2):In R m:=by
 have a:In R (E R x):=⟨x%2^R.length,Eu _ (Cq _),zN R x⟩;obtain⟨o',d⟩:=h.in a;have q:=Kp.q nz d k e;have:=o'.q;have:=o.q;have b:(E R x).1=m.1:=by lia
 have:E R x=m:=Prod.ext b e;rw[<-this];exact a
theorem X8q(nz:Nv c f)(h:Ks c f R)(o:Ok c m)(k:Kp c f m){kk x:Nat}(k4:kk<4)(e:(chosen R x R.length).foldl mul (kk,0,0)=m):In R m:=by
 refine h.made nz o k (x:=x) ?_;rw[mH k4]at e;rw[<-e];rfl
theorem X1n{o:Mk}(h1:cm o m=1)(h2:∀r∈R,cm o r=0)(x:Nat)(hx:x<2^R.length):(E R x).2≠m.2:=λe=>by
 have:=Bh.W3v h2 ⟨x,hx,U⟩;unfold Bh.cm at this h1;rw[e]at this;rw[this]at h1;cases h1
theorem Ks.snoc{o:Mk}(h:Ks c f R)(om:Ok c m)(k:Kp c f m)(h1:cm o m=1)(h2:∀r∈R,cm o r=0):Ks c f (R++[m]):=by
 refine⟨λr a=>?_,Bh.rD h.ind (X1n h1 h2)⟩;rcases DR.mp a with q | q
 ·exact h.ok r q
 ·rw[DK.mp q];exact⟨om,k⟩
theorem X9h{g:Mk}(N:En (R++[m]))(h:In R g):In (R++[m]) g:=Bh.Uo N (λr a=>Bh.Ph N (JG _ a)) h
structure Kc (c:Nat) (f:Nat->A5) (R:List Mk):Prop where
 ks:Ks c f R
 all:∀m,Ok c m->Kp c f m->In R m
structure Kr (c:Nat) (f:Nat->A5) (S:List Mk):Prop where
 ok:∀m∈S,Ok c m/\Kp c f m/\ev m
 ld:∀m∈S,Bh.CK (vec m) (Bh.Ck m)
 off:S.Pairwise Bh.Off
 rise:S.Pairwise λa b=>Bh.Ck a<=Bh.Ck b
 nice:En S
 all:∀m,Ok c m->Kp c f m->In S m
 len:S.length<=12
theorem Kc.red{S:List Mk}(hc:c<=6)(nz:Nv c f)(h:Kc c f R)(Q:Bh.Dm R S)(o:S.Pairwise λa b=>Bh.Ck a<=Bh.Ck b)(l:S.length=R.length):Kr c f S:=by
 have T:=h.ks.tb hc nz;have N:=Bh.m9 T Q.g;refine⟨λm hm=>?_,Q.ld,Q.off,o,N,λm d e=>Bh.Uo N Q.back (h.all m d e),by rw[l];exact Kd T⟩;have:=h.ks.in (Q.g m hm);exact⟨this.1,this.2,this.2.ev nz this.1.f⟩
end Ci
namespace Ax
open L2 Am Pc Ba
open DG (Mk)
open Ah (T3 L3 Bv Ig Ja Jp)
open Ci (Kp Nv)
abbrev Ws:=List (Nat×Nat)
def Iz (H:Hp)(qs:U3)(W:Ws):Prop:=Paired (λq (p:Nat×Nat)=>H q=some (.tup [.int p.1,.int p.2])) qs W
variable{H:Hp}{qs:U3}{W:Ws}
theorem Iz.same{H':Hp}(h:Iz H qs W)(s:Same H H'):Iz H' qs W:=Paired.imp' (λ_ _ c=>s _ _ c) h
theorem Iz.upd{l:W9}{xs ys:List V}(h:Iz H qs W)(hl:H l=some (.lst xs)):Iz (upd H l (.lst ys)) qs W :=
 Paired.imp' (λ_ _ c=>by rw[Cd (J0 c hl (by intro z;cases z))];exact c) h
theorem Iz.length(h:Iz H qs W):qs.length=W.length:=Paired.length h
theorem Iz.snoc{q:W9}{p:Nat×Nat}(h:Iz H qs W)(e:H q=some (.tup [.int p.1,.int p.2])):Iz H (qs++[q]) (W++[p]):=Paired.snoc h e
theorem Iz.get{H:Hp}:∀{qs:U3}{W:Ws}{i:Nat}{q:W9},Iz H qs W->qs[i]?=some q->∃p,W[i]?=some p/\H q=some (.tup [.int p.1,.int p.2])
 | q'::qs,p::W,0,q,.cons a r,h=>by
  have:q'=q:=by simpa using h
  subst this;exact⟨p,U,a⟩
 | q'::qs,p::W,i+1,q,.cons a r,h=>by
  obtain⟨d,b,c⟩:=Iz.get (qs:=qs) (W:=W) (i:=i) (q:=q) r (by simpa using h);exact⟨d,b,c⟩
def N5 (m:Mk)(t:Nat×Nat):Prop:=(m.1+2*pc (t.1&&&m.2.2))%4=t.2
instance (m:Mk) (t:Nat×Nat):Decidable (N5 m t):=inferInstanceAs (Decidable (_=_))
def Mh (K:U0):Sp:=λvs H Q _=>∃(p l:W9) (qs:U3) (W:Ws) (m:Mk),vs=[.ref p,.ref l]/\Ai K H p (L3 m)/\Ag K H l (qs.map V.ref)/\Iz H qs W/\Q (.bl (decide (∀t∈W,N5 m t))) H
structure aV (c:Nat) (f:Nat->A5) (fl i:Nat) (W:Ws):Prop where
 len:W.length<=i
 pt:∀t∈W,t.1<2^c/\t.2<4/\(f t.1).1≠(0,0,0,0)/\f (t.1^^^fl)=Bc (f t.1) ((2*t.2:Nat):Int)
 all:∀w,w<i->f w≠((0,0,0,0),0)->∃k,(w,k)∈W
def uP (K:U0):Sp:=λvs H Q _=>∃(l:W9) (ps:U3) (f:Nat->A5) (c fl:Nat),vs=[.ref l,.int fl]/\Bo K H l ps f c/\c<=6/\fl<2^c/\(∀i,i<2^c->(f i).1=(0,0,0,0)->(f i).2=0) /\
 (∀H',Same H H'->(∃w,w<2^c/\(f w).1≠(0,0,0,0)/\∀k:Nat,k<4->f (w^^^fl)≠Bc (f w) ((2*k:Nat):Int))->Q .non H') /\
 ∀(r:W9) (H':Hp) (qs:U3) (W:Ws),Same H H'->H' r=some (.lst (qs.map V.ref))->Iz H' qs W->aV c f fl (2^c) W->Q (.ref r) H'
theorem mW{x y:A5}(h:l5 x=l5 y):x=y:=by
 obtain⟨⟨a,b,c,d⟩,e⟩:=x;obtain⟨⟨a',b',c',d'⟩,f⟩:=y;simp only[l5,List.cons.injEq,and_true]at h;obtain⟨rfl,rfl,rfl,rfl,rfl⟩:=h;rfl
section
variable {P:U8}{w:W1}{K:U0}{mg:U4}{base:Heap}{k:Nat}{h:Heap}
theorem X7w(F:Ab K "has_spins" (top 65) .none)(X:K.In h)(G:Ng h mg)(c9:Aj P w K mg base k "ones" ["number"] Ah.CZ):Aj P w K mg base (k+1) "has_spins" ["mark","spins"] (Mh K):=by
 refine F.cal X G ["mark","spins","word","k"] λo H vs Q E B h=>?_;obtain⟨p,l,qs,W,m,rfl,SP,j,PW,b⟩:=h;have y:(∀t∈W,N5 m t)->Q (.bl true) H:=λz=>by rw[Dr z]at b;exact b
 have A:(¬ ∀t∈W,N5 m t)->Q (.bl false) H:=λz=>by rw[Dh z]at b;exact b
 refine⟨_,(@Ay _ _ _ _ _ (Ge PassesOwn.never rfl (Ei (pv 1)) (@Ls _ _ _ _ _ _ rfl (@Ea _ _ _ _ _ (@Bb _ _ 2 _ o rfl (Or.inl rfl) (by first | exact .inl rfl | exact .inr rfl)) (@Ea _ _ _ _ _ (@Bb _ _ 3 _ o rfl (Or.inl rfl) (by first | exact .inl rfl | exact .inr rfl)) Lx rfl) rfl) rfl rfl)
   (@Ak _ _ _ (Bx (Bf Hs (Af Cv (Af Ds (Ao BK (pv 0) Ad (λ_ _=>rfl)) (Af G_ Ad (BP c9 B rfl (Aa (Af Dv (pv 2) (Ao BK (pv 0) Ad (λ_ _=>rfl))) Ae)))) Ad) (pv 3) (Ac _))
    (@Ak _ _ _ (BL Dw))
    B_)))
  (@Ak _ _ _ (BL Dw))),?_⟩
 try dsimp only[CG]
 refine⟨_,U,l,U,⟨_,j⟩,LC (K:=K) (a:=l) (xs:=qs.map V.ref) (λi σ H'=>H'=H/\(∀t∈W.take i,N5 m t)/\∃v2 d:Option V,σ=[some (.ref p),some (.ref l),v2,d])
  ⟨U,(by rw[RP];exact λ_ z=>(nomatch z)),_,_,U⟩ (λi σ H' _ e=>by rw[e.1];exact j) ?_ ?_⟩
 ·rintro i x σ H1 g ⟨rfl,c,v2,d,rfl⟩;rw[Bu]at g;obtain⟨q,r,rfl⟩:=Dt.mp g;obtain⟨⟨u,kk⟩,f,v⟩:=PW.get r;refine⟨q,_,U,Ai.of v,U,_,_,U,_,_,U,U,?_⟩;refine⟨_,U,p,_,_,_,U,U,SP,U,_,U,_,U,p,_,_,_,U,U,SP,U,_,_,U,U,u&&&m.2.2,Ig _ _,_,_,U,U,.inl ⟨by decide,by decide⟩,_,_,U,U,_,_,U,U,Jp,_,U,U,?_⟩;refine⟨_,U,Ho (λs=>?_) (λe=>?_)⟩
  ·refine A λz=>s ?_;have:=z (u,kk) (Er f);unfold N5 at this;simp only at this;lia
  ·refine⟨U,λt n=>?_,_,_,U⟩;rw[Gs,f,Iu]at n;rcases DR.mp n with z | z
   ·exact c t z
   ·rw[DK.mp z];show (m.1+2*pc (u&&&m.2.2))%4=kk;lia
 ·rintro σ H1 ⟨rfl,c,v2,d,rfl⟩;rw[Az,PW.length,Ia]at c;exact y c
theorem X2o{aZ:W9}(gZ:mg "NOUGHT"=some (.ref aZ))(kZ:∀H:Hp,Dp K H aZ ((0,0,0,0),0))(F:Ab K "spins_on" (top 64) .none)(X:K.In h)(G:Ng h mg)(B:Bs mg)(eA:Aj P w K mg base k "spun" ["one","k"] (Xf K)):Aj P w K mg base (k+1) "spins_on" ["board","flips"] (uP K):=by
 refine F.cal X G ["board","flips","spins","word","one","fitting"] λJ H vs Q E hr h=>?_;obtain⟨l,ps,f,c,fl,rfl,R,c6,Z,z0,kN,kq⟩:=h;have SL:Ag K H l (ps.map V.ref):=Ag.of R.lst;have p6:=GZ c6;have u:=R.len
 refine⟨_,(@Ay _ _ _ _ _ (@BX _ _ 2 _ _ _ _ J rfl (Or.inl rfl) (@Kh _ _ _ _ Ae) rfl (.inl rfl))
  (@Ay _ _ _ _ _ (Ge PassesOwn.never rfl (SJ rfl B.enumerate (Aa (pv 0) Ae)) (@Ls _ _ _ _ _ _ rfl (@Ea _ _ _ _ _ (@Bb _ _ 3 _ J rfl (Or.inr rfl) (by first | exact .inl rfl | exact .inr rfl)) (@Ea _ _ _ _ _ (@Bb _ _ 4 _ J rfl (Or.inr rfl) (by first | exact .inl rfl | exact .inr rfl)) Lx rfl) rfl) rfl rfl)
   (@Ak _ _ _ (Bx (Bf (ZQ hr.units) (pv 4) (Pq (v:=.ref aZ) rfl gZ rfl) (Ac _))
    (@Ay _ _ _ _ _ (Xw (i:=5) rfl J rfl rfl (BW.of (Nc:=["k","board","flips","word","one"]) (mp:=[none,some 0,some 1,some 3,some 4]) (by kernel_rfl)) (HN rfl B.range (Aa Ad Ae)) (λ_ _ _ _=>(Bb (i:=0) (show (["k","board","flips","word","one"]:W0).Nodup by decide +kernel) rfl (Or.inl rfl))) (λ_ _ _ _=>(Bf (vJ hr.units) (BP eA hr rfl (Aa (pv 4) (Aa (Af G_ Ad (pv 0)) Ae))) (Ao ux (pv 1) (Af JK (pv 3) (pv 2)) (λ_ _=>rfl)) (Ac _))) (λ_ _ _ _=>(pv 0)) rfl)
    (@Ay _ _ _ _ _ (Bx (Bf Df (CJ GP rfl B.len Fv (Aa (pv 5) Ae)) Ad (Ac _))
     (@Ak _ _ _ (BL Nb))
     B_)
    (@Ak _ _ _ (Ni (Uw Tw Tz T_ Qx (pv 2) (Aa (@Cw _ _ _ _ _ (Aa (pv 3) (Aa (Ao FZ (pv 5) Ad (λ_ _=>rfl)) Ae))) Ae))))))
    B_)))
  (@Ak _ _ _ (BL (pv 2))))),?_⟩
 try dsimp only[CG]
 refine⟨Ed _,λL C=>?_⟩;have s0:=A_ C (.lst [])
 refine⟨_,U,l,_,U,s0.seq SL,n8 (K:=K) (a:=l) (xs:=ps.map V.ref) (λi σ H'=>Same H H'/\∃(rs:U3) (W:Ws) (v3 v4 v5:Option V),H' L=some (.lst (rs.map V.ref))/\Iz H' rs W/\aV c f fl i W/\σ=[some (.ref l),some (.int fl),some (.ref L),v3,v4,v5])
  ⟨s0,[],[],_,_,_,Ar,.nil,⟨Bd _,λ_ z=>(nomatch z),λ_ z=>absurd z (IV _)⟩,U⟩ (λi σ H' _ e=>e.1.seq SL) ?_ ?_⟩
 ·rintro i x σ H1 T hx ⟨S1,rs,W,v3,v4,v5,a1,O,SP,rfl⟩ hT;rw[Bu]at hx;obtain⟨p,hp,rfl⟩:=Dt.mp hx;have b:i<2^c:=by rw[<-u];exact(Fe.mp hp).1
  have sT:=A_ hT (.tup [.int i,.ref p]);have s:=S1.trans sT;generalize hH2:upd H1 T (.tup [.int i,.ref p])=H2 at *;have a8:H2 T=some (.tup [.int i,.ref p]):=by rw[<-hH2];exact Ar
  have a2:=sT _ _ a1;have P2:=O.same sT;have A:=(R.vals i p hp).same s;refine⟨T,_,U,Ai.of a8,U,_,_,U,_,_,U,U,?_⟩;refine⟨_,U,p,aZ,l5 (f i),[0,0,0,0,0],U,U,A,kZ H2,_,U,Gw (λne=>?_) (λe0=>?_)⟩
  ·have fn:f i≠((0,0,0,0),0):=λz=>by rw[z]at ne;exact absurd ne (by decide)
   have f1:(f i).1≠(0,0,0,0):=λz=>fn (Prod.ext z (z0 i b z));have xl:i^^^fl<2^c:=FP b Z;obtain⟨p',b4,q',b0⟩:=(R.same s).at xl;refine⟨_,U,by decide,by decide,λacc m=>?_⟩;refine Xu (n:=4) (fr:=[some (.ref l),some (.int fl),some (.int i),some (.ref p)]) (λj ys H'=>Same H2 H'/\H' acc=some (.lst ys)/\∃ks:List Nat,ys=ks.map (λk=>V.int (k:Nat))/\∀k,k∈ks↔(k<j/\f (i^^^fl)=Bc (f i) ((2*k:Nat):Int))) (by decide)
    ⟨A_ m _,Ar,[],U,λk=>⟨λz=>(nomatch z),λz=>absurd z.1 (IV _)⟩⟩ ?_ (λhm z=>?_) ?_
   ·rintro j ys H3 N hj hy ⟨o,M,ks,rfl,kk⟩ a9;have e0:(0:Int)+(j:Int)=(j:Int):=H_ _;refine⟨_,U,_,U,_,_,U,U,.inl ⟨by decide,by decide⟩,p,(f i).1.1,(f i).1.2.1,(f i).1.2.2.1,(f i).1.2.2.2,(f i).2,_,U,A.same o,λr H4 Y b3=>?_⟩;have e2:(2:Int)*(0+(j:Int))=((2*j:Nat):Int):=by lia
    have D:Dp K H4 r (Bc (f i) ((2*j:Nat):Int)):=by rw[<-e2];exact b3
    have d:=o.trans Y;refine⟨_,U,_,U,_,U,_,_,U,U,l,_,_,.ref p',U,U,(s.trans d).seq SL,(by rw[Jo];exact b0),r,p',l5 (Bc (f i) ((2*j:Nat):Int)),l5 (f (i^^^fl)),U,U,D,q'.same d,?_⟩;refine⟨_,U,?_⟩;refine a9 _ _ (λb2=>?_) (λa6=>?_)
    ·have e1:f (i^^^fl)=Bc (f i) ((2*j:Nat):Int):=(mW (JR b2)).symm;refine⟨_,U,Y _ _ M,Dj d m,Ar,ks++[j],by rw[Ca,e0];rfl,λk=>?_⟩;rw[DR,kk k,DK];constructor
     ·rintro (z | rfl)
      ·exact⟨by lia,z.2⟩
      ·exact⟨by lia,e1⟩
     ·rintro ⟨z,I⟩;by_cases q:k=j
      ·exact .inr q
      ·exact .inl ⟨by lia,I⟩
    ·have e1:¬ f (i^^^fl)=Bc (f i) ((2*j:Nat):Int):=λz=>by
      have:=Wa a6;exact this (by rw[z])
     refine⟨d,Y _ _ M,ks,U,λk=>?_⟩;rw[kk k];constructor
     ·exact λz=>⟨by lia,z.2⟩
     ·rintro ⟨z,I⟩;have q:k≠j:=λq=>e1 (by rw[<-q];exact I);exact⟨by lia,I⟩
   ·obtain⟨v,e,q⟩:=z;exact⟨v,e,hm _ _ q⟩
   rintro ys H3 ⟨o,M,ks,rfl,kk⟩;have SK:Ag K H3 acc (ks.map λk=>V.int (k:Nat)):=Ag.of M;refine⟨_,U,acc,_,U,.inl SK,U,_,U,Lj (λe=>?_) (λe=>?_)⟩
   ·have:ks=[]:=by
     cases ks with
     | nil=>rfl
     | cons k0 ks=>simp at e;lia
    subst this;exact kN _ (s.trans o) ⟨i,b,f1,λk k4 z=>(nomatch (kk k).mpr ⟨k4,z⟩)⟩
   ·cases ks with
    | nil=>exact absurd rfl e
    | cons k0 ks =>
     obtain⟨a5,ke⟩:=(kk k0).mp (.head _);have a4:=o _ _ a2;refine⟨_,U,.inl ⟨U,_,Ag.of a4⟩,_,U,_,U,acc,_,_,_,U,U,SK,at0,t2,λt ht=>?_⟩;have S:=A_ ht (.tup [.int i,.int (k0:Nat)]);have wl:=SP.len;refine⟨L,_,_,U,U,S _ _ a4,(by rw[Az,O.length];exact Yz (E_ wl (Tg (Cu b p6))) (by decide)),?_⟩;refine⟨Dj ((s.trans o).trans S) C,rs++[t],W++[(i,k0)],_,_,_,(by rw[Ar,Ca];rfl),Iz.upd (Iz.snoc ((P2.same o).same S) Ar) (S _ _ a4),⟨by rw[DP];simp;lia,λt' a0=>?_,λy a7 g=>?_⟩,U⟩
     ·rcases DR.mp a0 with z | z
      ·exact SP.pt t' z
      ·rw[DK.mp z];exact⟨b,a5,f1,ke⟩
     ·by_cases q:y=i
      ·subst q;exact⟨k0,FQ _ (.head _)⟩
      ·obtain⟨k',b1⟩:=SP.all y (by lia) g;exact⟨k',JG _ b1⟩
  ·have fz:f i=((0,0,0,0),0):=mW (by
    have:decide (l5 (f i)=[0,0,0,0,0])=true:=by simpa using e0
    exact JR this)
   refine⟨s,rs,W,_,_,_,a2,P2,⟨fL SP.len,SP.pt,λy a7 g=>?_⟩,U⟩;by_cases q:y=i
   ·subst q;exact absurd fz g
   ·exact SP.all y (by lia) g
 ·rintro σ H1 ⟨S1,rs,W,v3,v4,v5,a1,O,SP,rfl⟩;rw[Az,u]at SP;exact⟨_,U,kq L H1 rs W S1 a1 O SP⟩
theorem uz{l:W9}{xs:List V}{tc:TT}{te:TE}{fr:L2.St}{H1:Hp}{acc:W9}{Q:VK}(Pv:Nat->List V->Hp->Prop)(hn:xs.length<=sizeLine)(h0:Pv 0 [] (upd H1 acc (.lst [])))(hl:∀i ys H,Pv i ys H->Ag K H l xs)
  (hs:∀i x ys H (N:Bool->Hp->Prop),xs[i]?=some x->ys.length<=i->Pv i ys H->(∀b a,(b=true->te (some x::fr) a λy c=>c acc=some (.lst ys)/\Pv (i+1) (ys++[y]) (upd c acc (.lst (ys++[y]))))->(b=false->Pv (i+1) ys a)->N b a)->tc (some x::fr) H N)
  (mono:∀{σ H}{R R':VK},(∀v H,R v H->R' v H)->te σ H R->te σ H R')
  (hd:∀ys H,Pv xs.length ys H->Q (.ref acc) H):Ny (Nz K l) (Ce 0) tc te (none::fr) H1 acc Q:=by
 refine⟨λi m ys h H2=>m=xs.length-i/\i<=xs.length/\ys.length<=i/\(∃v,h=v::fr)/\Pv i ys H2,⟨xs.length,by simp,Ed _,Bd _,⟨_,U⟩,h0⟩,?_⟩;rintro i m ys h H2 ⟨rfl,hi,d,⟨v,rfl⟩,p⟩;have f:=hl i ys H2 p;by_cases hlt:i<xs.length
 ·have g:xs[i]?=some xs[i]:=by simp[hlt]
  refine .inr ⟨⟨_,_,f,g⟩,λu r j=>?_⟩;obtain⟨rfl,o⟩:=j;have:=o _ f;rw[g]at this;cases this;refine hs i _ ys _ _ g d p λb a k n=>⟨λe=>mono (λy c q=>?_) (k e),λe=>⟨xs.length-(i+1),by lia,U,hlt,by lia,⟨_,U⟩,n e⟩⟩;exact⟨q.1,by lia,xs.length-(i+1),by lia,U,hlt,by rw[DP];simp;lia,⟨_,U⟩,q.2⟩
 ·have e:i=xs.length:=by lia
  subst e;exact .inl ⟨⟨_,f,Bd _⟩,hd ys H2 p⟩
noncomputable def UJ (w k fl s:Nat):Mk:=((k+2*pc (w&&&s))%4,fl,s)
def YH (c:Nat)(f:Nat->A5):Prop:=∀i,i<2^c->(f i).1=(0,0,0,0)->(f i).2=0
def Vo (K:U0):Sp:=λvs H Q _=>∃(l:W9) (ps:U3) (f:Nat->A5) (c fl:Nat),vs=[.ref l,.int fl]/\Bo K H l ps f c/\c<=6/\fl<2^c/\YH c f/\Nv c f /\
 ∀(r:W9) (H':Hp) (qs:U3) (ms:List Mk),H r=none->Same H H'->H' r=some (.lst (qs.map V.ref))->Bv H' qs ms->ms.length<=64->(∀m∈ms,Ci.Ok c m/\Kp c f m)->(∀m,Ci.Ok c m->Kp c f m->m.2.1=fl->m∈ms)->Q (.ref r) H'
variable{c:Nat}{f:Nat->A5}{m:Mk}
theorem W2w{fl:Nat}(S:aV c f fl (2^c) W)(z:YH c f)(flc:fl<2^c)(e:m.2.1=fl)(h:∀t∈W,N5 m t):Kp c f m:=λw j=>by
 rw[e];by_cases fw:f w=((0,0,0,0),0)
 ·have x0:Bc (f w) ((2*m.1+4*pc (w&&&m.2.2):Nat):Int)=((0,0,0,0),0):=by
   rw[fw,<-Ci.Qz _ (Nat.mod_mod _ 8)];have:(2*m.1+4*pc (w&&&m.2.2))%8<8:=Eu _ (by decide);generalize (2*m.1+4*pc (w&&&m.2.2))%8=n at *;have:n=0\/n=1\/n=2\/n=3\/n=4\/n=5\/n=6\/n=7:=by lia
   rcases this with rfl | rfl | rfl | rfl | rfl | rfl | rfl | rfl<;>rfl
  rw[x0];apply Classical.byContradiction;intro l;have xl:w^^^fl<2^c:=FP j flc;obtain⟨k,g⟩:=S.all _ xl l;obtain⟨_,o,p,d⟩:=S.pt _ g;have e2:w^^^fl^^^fl=w:=by rw[Fq,JQ,Ow]
  have d:f (w^^^fl^^^fl)=Bc (f (w^^^fl)) ((2*k:Nat):Int):=d;rw[e2,fw]at d;have i:Bc ((0,0,0,0),0) ((8-2*k:Nat):Int)=Bc (Bc (f (w^^^fl)) ((2*k:Nat):Int)) ((8-2*k:Nat):Int):=by rw[<-d]
  rw[Ci.Sq,Ci.Qz (a:=2*k+(8-2*k)) (b:=0) _ (by lia)]at i;have q:Bc ((0,0,0,0),0) ((8-2*k:Nat):Int)=(((0,0,0,0),0):A5):=by
   have:k=0\/k=1\/k=2\/k=3:=by lia
   rcases this with rfl | rfl | rfl | rfl<;>rfl
  rw[q]at i;exact l i.symm
 ·obtain⟨k,g⟩:=S.all _ j fw;obtain⟨_,o,p,d⟩:=S.pt _ g;have:=h _ g;unfold N5 at this;simp only at this d;rw[d];apply Ci.Qz;lia
theorem W3y{fl:Nat}(S:aV c f fl (2^c) W)(e:m.2.1=fl)(h:Kp c f m):∀t∈W,N5 m t:=λt i=>by
 obtain⟨wl,j,g,d⟩:=S.pt t i;have:=h t.1 wl;rw[e,d]at this;have q:=Ci.Xp g (a:=t.2) (b:=m.1+2*pc (t.1&&&m.2.2)) (by rw[show 2*(m.1+2*pc (t.1&&&m.2.2))=2*m.1+4*pc (t.1&&&m.2.2) by lia];exact this);show (m.1+2*pc (t.1&&&m.2.2))%4=t.2;lia
theorem W5p{fl w:Nat}(hw:w<2^c)(h:∀k:Nat,k<4->f (w^^^fl)≠Bc (f w) ((2*k:Nat):Int))(e:m.2.1=fl):¬ Kp c f m:=λz=>by
 have:=z w hw;rw[e,Ci.Qz (b:=2*((m.1+2*pc (w&&&m.2.2))%4)) _ (by lia)]at this;exact h _ (Eu _ (by decide)) this
theorem W5o(F:Ab K "keepers_with" (top 63) .none)(X:K.In h)(G:Ng h mg)(B:Bs mg)(eT:Aj P w K mg base k "spins_on" ["board","flips"] (uP K))(c9:Aj P w K mg base k "ones" ["number"] Ah.CZ)(eD:Aj P w K mg base k "has_spins" ["mark","spins"] (Mh K)):
  Aj P w K mg base (k+1) "keepers_with" ["board","flips"] (Vo K):=by
 refine F.cal X G ["board","flips","spins","first","marks"] λZ H vs Q E y h=>?_;obtain⟨l,ps,f,c,fl,rfl,BO,c6,j,oz,nv,kq⟩:=h;have SL:Ag K H l (ps.map V.ref):=Ag.of BO.lst;have p6:=GZ c6;have D:=BO.len
 refine⟨_,(@Ay _ _ _ _ _ (@BX _ _ 2 _ _ _ _ Z rfl (Or.inr rfl) (BP eT y rfl (Aa (pv 0) (Aa (pv 1) Ae))) rfl (.inl rfl))
  (@Ay _ _ _ _ _ (Bx (Bf Z2 (pv 2) Nb (Ac _))
   (@Ak _ _ _ (BL (@Kh _ _ _ _ Ae)))
   B_)
  (@Ay _ _ _ _ _ (@BX _ _ 3 _ _ _ _ Z rfl (Or.inr rfl) (Ao FZ (pv 2) Ad (λ_ _=>rfl)) rfl (.inl rfl))
  (@Ay _ _ _ _ _ (Qw (i:=4) rfl Z rfl rfl (BW.of (Nc:=["signs","flips","first"]) (mp:=[none,some 1,some 3]) (by kernel_rfl)) (HN rfl B.range (Aa (CJ GP rfl B.len Fv (Aa (pv 0) Ae)) Ae)) (λ_ _ _ _=>(Bb (i:=0) (show (["signs","flips","first"]:W0).Nodup by decide +kernel) rfl (Or.inl rfl))) (λ_ _ _ _=>(@Cw _ _ _ _ _ (Aa (Af Cv (Af JH (Ao Km (pv 2) Ad (λ_ _=>rfl)) (Af G_ Ad (BP c9 y rfl (Aa (Af Dv (Ao Km (pv 2) Ad (λ_ _=>rfl)) (pv 0)) Ae)))) Ad) (Aa (pv 1) (Aa (pv 0) Ae))))) rfl)
  (@Ak _ _ _ (BL (X6 rfl (BW.of (Nc:=["mark","spins"]) (mp:=[none,some 2]) (by kernel_rfl)) (Ei (pv 4)) (λ_ _ _ _=>(Bb (i:=0) (show (["mark","spins"]:W0).Nodup by decide +kernel) rfl (Or.inl rfl))) (λ_ _ _ _=>(DW (BP eD y rfl (Aa (pv 0) (Aa (pv 1) Ae))))) (λ_ _ _ _=>(pv 0))))))))),?_⟩
 try dsimp only[CG]
 refine⟨_,U,_,U,l,ps,f,c,fl,U,BO,c6,j,oz,λH1 A no=>?_,λL H1 qs W A h1 P1 SP=>?_⟩
 ·refine⟨_,U,U,_,U,BJ (λ_=>?_) (λz=>absurd rfl z)⟩;obtain⟨w0,hw,n0,nk⟩:=no;refine⟨Ed _,λr y=>kq r _ [] [] (A.free y) (A.trans (A_ y _)) Ar .nil (Ed _) (λ_ z=>(nomatch z)) λm om km e=>absurd km (W5p hw nk e)⟩
 ·refine⟨_,U,U,_,U,BJ (λz=>(nomatch z)) (λ_=>?_)⟩;obtain⟨w1,a4,n1⟩:=nv;obtain⟨k1,a5⟩:=SP.all w1 a4 (λz=>n1 (by rw[z]));cases W with
  | nil=>exact(nomatch a5)
  | cons t0 W =>
  cases qs with
  | nil=>exact absurd P1.length (by simp)
  | cons q0 qs =>
  obtain⟨w0,k0⟩:=t0;obtain⟨p0,a1,Y⟩:=P1.get (i:=0) (q:=q0) rfl;cases a1;have a7:k0<4:=(SP.pt _ (.head _)).2.1;have SK:Ag K H1 L ((q0::qs).map V.ref):=Ag.of h1;refine⟨_,U,L,_,_,_,U,U,SK,at0,?_⟩;refine⟨_,U,l,_,U,.inl (A.seq SL),_,U,by lia,(by rw[Az,D];lia),λacc d=>?_⟩;have eN:(((ps.map V.ref).length:Nat):Int).toNat=2^c:=by rw[FN,Az,D]
  rw[eN];refine SN (n:=2^c) (fr:=[some (.int fl),some (.ref q0)]) (λi ys H'=>Same H1 H'/\H' acc=some (.lst ys)/\∃rs:List Addr,ys=rs.map V.ref/\Bv H' rs ((List.range i).map λs=>UJ w0 k0 fl s)) (Hu p6)
   ⟨A_ d _,Ar,[],U,.nil⟩ ?_ ?_
  ·rintro i ys H2 N hi hy ⟨u,S,rs,rfl,R⟩ kN;have SQ:Ai K H2 q0 [.int w0,.int k0]:=Ai.of (u _ _ Y);have e0:(0:Int)+(i:Int)=(i:Int):=H_ _;refine⟨_,U,q0,_,_,_,U,U,SQ,U,_,U,q0,_,_,_,U,U,SQ,U,_,U,_,_,U,U,w0&&&i,(by rw[e0];exact Ig _ _),_,_,U,U,.inl ⟨by decide,by decide⟩,_,_,U,U,_,_,U,U,Jp,_,U,_,U,t3,λt ht=>?_⟩;have s3:=A_ ht (.tup [.int (((k0:Int)-2*((pc (w0&&&i):Nat):Int))%4),.int fl,.int (0+(i:Int))]);refine kN _ _ (s3 _ _ S) ⟨Dj (u.trans s3) d,Ar,rs++[t],by rw[Ca];rfl,?_⟩;rw[WQ,Ca];refine Ah.Bv.upd (Paired.snoc (R.same s3) ?_) (s3 _ _ S);rw[Ar];show some (HO.tup [.int (((k0:Int)-2*((pc (w0&&&i):Nat):Int))%4),.int fl,.int (0+(i:Int))])=some (HO.tup [.int (((k0+2*pc (w0&&&i))%4:Nat):Int),.int fl,.int (i:Int)]);rw[e0,show ((k0:Int)-2*((pc (w0&&&i):Nat):Int))%4=(((k0+2*pc (w0&&&i))%4:Nat):Int) by lia]
  rintro ys H2 hy ⟨u,S,rs,rfl,R⟩;have T:=R.length;rw[Az,Tp]at T;have SM:Ag K H2 acc (rs.map V.ref):=Ag.of S;refine⟨_,U,acc,U,⟨_,SM⟩,λg b=>?_⟩;refine uz (K:=K) (l:=acc) (xs:=rs.map V.ref) (fr:=[some (.ref L)]) (λi ys H'=>Same H2 H'/\H' g=some (.lst ys)/\∃(us:U3) (ms:List Mk),ys=us.map V.ref/\Bv H' us ms/\ms.length<=i/\(∀m∈ms,Ci.Ok c m/\Kp c f m)/\(∀s,s<i->(∀t∈(w0,k0)::W,N5 (UJ w0 k0 fl s) t)->UJ w0 k0 fl s∈ms))
   (by rw[Az,T];exact Hu p6) ⟨A_ b _,Ar,[],[],U,.nil,Bd _,λ_ z=>(nomatch z),λ_ z=>absurd z (IV _)⟩ (λi ys H' e=>e.1.seq SM) ?_ (λhm z=>?_) ?_
  ·rintro i x ys H3 N hx hy ⟨o,J,us,ms,rfl,O,l3,o3,a⟩ kN;rw[Bu]at hx;obtain⟨p,hp,rfl⟩:=Dt.mp hx;have I:i<2^c:=by rw[<-T];exact(Fe.mp hp).1
   obtain⟨m,hm,pm⟩:=R.get hp;rw[Bu,fZ I]at hm;cases hm;have C:=o _ _ pm;refine⟨_,U,_,U,p,L,_,(w0,k0)::W,UJ w0 k0 fl i,U,Ai.of C,(u.trans o).seq SK,(P1.same u).same o,?_⟩;refine⟨_,U,?_⟩;refine kN _ _ (λa6=>?_) (λa0=>?_)
   ·have ft:=JR a6;refine⟨_,U,J,Dj o b,Ar,us++[p],ms++[UJ w0 k0 fl i],by rw[Ca];rfl,Ah.Bv.upd (Paired.snoc O C) J,by rw[DP];simp;lia,λm hm=>?_,λs hs M=>?_⟩
    ·rcases DR.mp hm with z | z
     ·exact o3 m z
     ·rw[DK.mp z];exact⟨⟨Eu _ (by decide),j,I⟩,W2w SP oz j rfl ft⟩
    ·by_cases q:s=i
     ·subst q;exact FQ _ (.head _)
     ·exact JG _ (a s (by lia) M)
   ·have ft:=Wa a0;refine⟨o,J,us,ms,U,O,by lia,o3,λs hs M=>?_⟩;by_cases q:s=i
    ·subst q;exact absurd M ft
    ·exact a s (by lia) M
  ·obtain⟨v,e,q⟩:=z;exact⟨v,e,hm _ _ q⟩
  rintro ys H3 ⟨o,J,us,ms,rfl,O,l3,o3,a⟩;rw[Az,T]at l3 a;refine kq g H3 us ms ((A.trans u).free b) ((A.trans u).trans o) J O (E_ l3 p6) o3 λm om km e=>?_;have ft:=W3y SP e km;have f0:=ft (w0,k0) (.head _);have em:m=UJ w0 k0 fl m.2.2:=by
   have q4:=om.q;unfold N5 at f0;simp only at f0;refine Prod.ext ?_ (Prod.ext e rfl);show m.1=(k0+2*pc (w0&&&m.2.2))%4;lia
  have:=a m.2.2 om.s (by rw[<-em];exact ft);rw[<-em]at this;exact this
end
end Ax
namespace Ax
open L2 Am Pc Ba
open DG (Mk)
open CT (In)
open Ah (T3 L3 Bv Ig Ja Jp)
open Ci (Kp Nv)
structure TX (c:Nat) (f:Nat->A5) (S:List Mk):Prop where
 ex:∃R,Ci.Kc c f R/\Bh.Dm R S/\S.length=R.length
 rise:S.Pairwise (λa b=>Bh.Ck a<=Bh.Ck b)
def MP (K:U0):Sp:=λvs H Q _=>∃(l:W9) (ps:U3) (f:Nat->A5) (c:Nat),vs=[.ref l]/\Bo K H l ps f c/\1<=c/\c<=6/\YH c f/\Nv c f /\
 ∀(r:W9) (H':Hp) (qs:U3) (S:List Mk),H r=none->Same H H'->H' r=some (.lst (qs.map V.ref))->Bv H' qs S->TX c f S->Q (.ref r) H'
theorem ma:¬ (V.str "made"=V.str "apart"):=λe=>absurd (V.str.inj e) (by decide +kernel)
section
variable {P:U8}{w:W1}{K:U0}{mg:U4}{base:Heap}{k:Nat}{h:Heap}
theorem X7s(F:Ab K "keepers" (top 62) .none)(X:K.In h)(G:Ng h mg)(B:Bs mg)(eO:Aj P w K mg base k "cells_of" ["board"] (wR K))(dN:Aj P w K mg base k "keepers_with" ["board","flips"] (Vo K))(cJ:Aj P w K mg base k "made_of" ["rows","mark","cells"] (Ah.lN K))(cK:Aj P w K mg base k "reduced" ["rows","cells"] Ah.lZ):
  Aj P w K mg base (k+1) "keepers" ["board"] (MP K):=by
 refine F.cal X G ["board","cells","rows","flips","mark"] λnd H vs Q E hr h=>?_;obtain⟨l,ps,f,c,rfl,BO,c1,c6,oz,L,kq⟩:=h;have SL:Ag K H l (ps.map V.ref):=Ag.of BO.lst;have p6:=GZ c6;have A:=BO.len
 refine⟨_,(@Ay _ _ _ _ _ (@BX _ _ 1 _ _ _ _ nd rfl (Or.inl rfl) (BP eO hr rfl (Aa (pv 0) Ae)) rfl (.inl rfl))
  (@Ay _ _ _ _ _ (@BX _ _ 2 _ _ _ _ nd rfl (Or.inl rfl) (@Kh _ _ _ _ Ae) rfl (.inl rfl))
  (@Ay _ _ _ _ _ (Ge PassesOwn.never rfl (HN rfl B.range (Aa (CJ GP rfl B.len Fv (Aa (pv 0) Ae)) Ae)) (Bb (i:=3) nd rfl (Or.inl rfl))
   (@Ak _ _ _ (Ge PassesOwn.never rfl (Ei (BP dN hr rfl (Aa (pv 0) (Aa (pv 3) Ae)))) (Bb (i:=4) nd rfl (Or.inl rfl))
    (@Ak _ _ _ (Bx (Bf Df (Ao BK (BP cJ hr rfl (Aa (pv 2) (Aa (pv 4) (Aa (pv 1) Ae)))) Ad (λ_ _=>rfl)) Gb (Ac _))
     (@Ak _ _ _ (Ni (Uw Tw Tz T_ Qx (pv 2) (Aa (pv 4) Ae))))
     B_)))))
  (@Ak _ _ _ (BL (BP cK hr rfl (Aa (pv 2) (Aa (pv 1) Ae)))))))),?_⟩
 try dsimp only[CG]
 refine⟨_,U,l,_,c,U,SL,(by rw[Az,A]),c6,?_⟩;refine⟨Ed _,λy M=>?_⟩;have s0:=A_ M (.lst []);have eN:(((ps.map V.ref).length:Nat):Int).toNat=2^c:=by rw[FN,Az,A]
 refine⟨_,U,l,_,U,.inl (s0.seq SL),_,U,by lia,(by rw[Az,A];lia),?_⟩;rw[eN];refine Nq (n:=2^c) (λi σ H'=>Same H H'/\∃(rs:U3) (R:List Mk) (v3 D:Option V),H' y=some (.lst (rs.map V.ref))/\Bv H' rs R/\Ci.Ks c f R/\(∀m,Ci.Ok c m->Kp c f m->m.2.1<i->In R m)/\σ=[some (.ref l),some (.int c),some (.ref y),v3,D])
  ⟨s0,[],[],_,_,Ar,.nil,Ci.Ks.nil,λ_ _ _ z=>absurd z (IV _),U⟩ ?_ ?_
 ·rintro i σ H1 hi ⟨Z,rs,R,v3,D,a1,M1,ks,b,rfl⟩;have e0:(0:Int)+(i:Int)=(i:Int):=H_ _;refine⟨_,U,_,U,l,ps,f,c,i,(by rw[e0];rfl),BO.same Z,c6,hi,oz,L,λr H2 qs ms fr W h2 M2 a2 o2 J=>?_⟩;have a0:y≠r:=Nt a1 fr
  refine⟨r,U,⟨_,Ag.of h2⟩,LC (K:=K) (a:=r) (xs:=qs.map V.ref) (λj σ H'=>Same H H'/\H' r=some (.lst (qs.map V.ref))/\Bv H' qs ms/\∃(rs:U3) (R:List Mk) (D:Option V),H' y=some (.lst (rs.map V.ref))/\Bv H' rs R/\Ci.Ks c f R/\(∀m,Ci.Ok c m->Kp c f m->m.2.1<i->In R m)/\(∀m∈ms.take j,In R m)/\σ=[some (.ref l),some (.int c),some (.ref y),some (.int (0+(i:Int))),D])
   ⟨Z.trans W,h2,M2,rs,R,_,W _ _ a1,M1.same W,ks,b,(by rw[RP];exact λ_ z=>(nomatch z)),U⟩ (λj σ H' _ e=>Ag.of e.2.1) ?_ ?_⟩
  ·rintro j x σ H3 hx ⟨S3,h3,M3,rs,R,D,a3,I,ks,b,tk,rfl⟩;rw[Bu]at hx;obtain⟨p,hp,rfl⟩:=Dt.mp hx;obtain⟨m,hm,pm⟩:=M3.get hp;obtain⟨d,C⟩:=o2 m (Er hm);have T:=ks.tb c6 L;refine⟨_,U,_,U,_,U,y,p,rs,R,m,c,U,Ag.of a3,I,pm,c6,Ci.Kd T,(λm hm=>⟨(ks.ok m hm).1.q,(ks.ok m hm).1.f,(ks.ok m hm).1.s⟩),⟨d.q,d.f,d.s⟩,λt H4 v MT=>?_⟩;have N:=v _ _ a3;have O:∀R',(∀g,In R g->In R' g)->In R' m->∀g∈ms.take (j+1),In R' g:=λR' up u g hg=>by
    rw[Gs,hm,Iu]at hg;rcases DR.mp hg with z | z
    ·exact up g (tk g z)
    ·rw[DK.mp z];exact u
   rcases MT with ⟨kk,xx,ll,_,ht,hll,kk4,ee⟩ | ⟨pp,o,ht,hpp,oo,oev,com1,com0⟩
   ·have u:In R m:=Ci.X8q L ks d C kk4 ee;refine⟨t,_,_,_,U,U,Ai.of ht,at0,U,_,U,BJ (λz=>absurd z ma) (λ_=>?_)⟩;exact⟨S3.trans v,v _ _ h3,M3.same v,rs,R,_,N,I.same v,ks,b,O R (λ_ z=>z) u,U⟩
   ·have Y:Ci.Ks c f (R++[m]):=ks.snoc d C com1 com0;have N':=(Y.tb c6 L).nice;have up:∀g,In R g->In (R++[m]) g:=λg hg=>Ci.X9h N' hg;have u:In (R++[m]) m:=Bh.Ph N' (FQ _ (.head _));refine⟨t,_,_,_,U,U,Ai.of ht,at0,U,_,U,BJ (λ_=>?_) (λz=>absurd rfl z)⟩;have lR:=Ci.Kd T;refine⟨_,U,.inl ⟨U,_,Ag.of N⟩,_,U,y,_,_,U,U,N,(by rw[Az,I.length];exact Yz lR (by decide)),?_⟩;refine⟨Dj (S3.trans v) M,?_,Ah.Bv.upd (M3.same v) N,rs++[p],R++[m],_,(by rw[Ar,Ca];rfl),Ah.Bv.upd (Paired.snoc (I.same v) (v _ _ pm)) N,Y,λg og kg z=>up g (b g og kg z),O _ up u,U⟩;rw[Cd (Ne.symm a0)];exact v _ _ h3
  ·rintro σ H3 ⟨S3,h3,M3,rs,R,D,a3,I,ks,b,tk,rfl⟩;rw[Az,M2.length,Ia]at tk;refine⟨S3,rs,R,_,_,a3,I,ks,λm d C z=>?_,U⟩;by_cases q:m.2.1=i
   ·exact tk m (J m d C q)
   ·exact b m d C (by lia)
 ·rintro σ H1 ⟨Z,rs,R,v3,D,a1,M1,ks,b,rfl⟩;have T:=ks.tb c6 L;refine⟨_,U,_,U,y,rs,R,c,U,⟨a1,M1,(λm hm=>⟨(ks.ok m hm).1.q,(ks.ok m hm).1.f,(ks.ok m hm).1.s⟩),T,Ci.Kd T⟩,c1,c6,λr H2 qs S W fr h2 M2 DM ll pw=>?_⟩;exact kq r H2 qs S (Z.free fr) (Z.trans W) h2 M2 ⟨⟨R,⟨ks,λm d C=>b m d C d.f⟩,DM,ll⟩,pw⟩
end
end Ax
namespace L2
theorem X1e{X:Cx}(hc:X.calm=true):CP X (.builtin "max") (λxs H Q=>∃(p:W9) (ns:U6),xs=[.ref p]/\Ag X.K H p (ns.map V.int)/\0<ns.length/\∀M,M∈ns->(∀a,a∈ns->a<=M)->Q (.int M) H):=by
 intro pins s σ H xs us Q I r h;obtain⟨p,ns,rfl,k,x,q⟩:=h;obtain⟨u,rfl,m⟩:=r.one;cases m;obtain⟨its,o,n,y⟩:=I.list k;have hi:=Nr o;have f:=n.isList;obtain⟨xs,e⟩:=hi.allInts.items;have b:ns=xs.toList.map (·.1):=by
  rw[<-hi.numsOf,<-cj,<-e]
 have hsz:0<xs.size:=by
  have d:=x;rw[b,Az,JT]at d;exact d
 rw[e]at f;refine max_intList (show X.A.handled=none from I.ok.hd hc) f hsz λv h' tk w g=>?_;obtain⟨t,rfl⟩:=V1 w;obtain⟨h1,h2⟩:=argBest_gt (PySem.numAt xs) (xs.size-1);refine⟨.int (PySem.numAt xs (argBest (λi j=>decide (PySem.numAt xs i>PySem.numAt xs j)) (xs.size-1))),H,I.kept (t':=tk) g,⟨_,U⟩,q _ ?_ λa c=>?_⟩
 ·rw[b,Td];exact getD_mem (by rw[Az,JT];lia)
 ·rw[b]at c;obtain⟨j,l,rfl⟩:=mem_getD c;rw[Az,JT]at l;rw[<-Td];exact h2 j (by lia)
end L2
namespace L2
section
variable {prog:U8}{w:W1}{A:W6}{E:U2}{s:U7}{l:W9}
variable{Q:U2}
theorem vh{vs:U9}(ht:s.heap.IsTuple l vs)
  (h:∀hp:Heap,hp=s.heap.push { cls:=.type "tuple_iterator",data:=.fields #[.ref l,.int 0 0]}->hp.IsTupleIter s.heap.objs.size l 0/\hp.IsTuple l vs->(∀b∈[s.heap.objs.size,l],b<hp.objs.size)->l≠s.heap.objs.size ->
   (∀h':Heap,(∀b o,b∉[s.heap.objs.size]->hp.get? b=some o->h'.get? b=some o)->∀b o,s.heap.get? b=some o->h'.get? b=some o)->Q (.ref s.heap.objs.size) {s with heap:=hp}):
  wpAny (model prog w) A (pyIter (.ref l)) Q E s:=by
 have low:l<s.heap.objs.size:=by obtain⟨_,e,_⟩:=ht;exact CN e
 refine fX ht (h _ rfl ⟨⟨_,Fj _ rfl,U,U⟩,ht.push _⟩ (λb hb=>?_) (DY low) λh' a b o e=>?_)
 ·rw[Lb];simp only[Dg,Ir,Ip]at hb;rcases hb with rfl | rfl
  ·exact KR _
  ·exact Qe low
 ·have:=CN e;exact a b o (by simp only[Dg,Ir,Ip];exact DY this) (Ef _ e)
theorem X8n{xs:Array (Int×Tok)}(hh:A.handled=none)(ht:s.heap.IsTuple l (intItems xs))(hne:0<xs.size)
  (h:∀(v:W2) (h':Heap) (tk:Nat),(intItems xs)[argBest (λi j=>decide (PySem.numAt xs i<PySem.numAt xs j)) (xs.size-1)]?=some v->(∀b o,s.heap.get? b=some o->h'.get? b=some o)->Q v {s with heap:=h',toks:=tk}):
  wpAny (model prog w) A (call (.builtin "min") [.ref l]) Q E s:=by
 refine call_min_walk (vh ht λhp e st g f a=>?_);have z:(intItems xs).size=xs.size:=by simp[intItems]
 refine⟨_,_,_,_,_,_,_,U,Walks.tuple (A:=A.in1) hh _ l f (intItems xs),st,g,by rw[z];exact hne,CmpOf.ints_lt (PySem.numAt xs) (λ_ _=>V1),λv h' tk c d=>?_⟩;rw[z]at c;exact h v h' tk c (a h' d)
theorem X8p{xs:Array (Int×Tok)}(hh:A.handled=none)(ht:s.heap.IsTuple l (intItems xs))(hne:0<xs.size)
  (h:∀(v:W2) (h':Heap) (tk:Nat),(intItems xs)[argBest (λi j=>decide (PySem.numAt xs i>PySem.numAt xs j)) (xs.size-1)]?=some v->(∀b o,s.heap.get? b=some o->h'.get? b=some o)->Q v {s with heap:=h',toks:=tk}):
  wpAny (model prog w) A (call (.builtin "max") [.ref l]) Q E s:=by
 refine call_max_walk (vh ht λhp e st g f a=>?_);have z:(intItems xs).size=xs.size:=by simp[intItems]
 refine⟨_,_,_,_,_,_,_,U,Walks.tuple (A:=A.in1) hh _ l f (intItems xs),st,g,by rw[z];exact hne,CmpOf.ints_gt (PySem.numAt xs) (λ_ _=>V1),λv h' tk c d=>?_⟩;rw[z]at c;exact h v h' tk c (a h' d)
end
section
variable {X:Cx}
theorem ur{its:U5}{ns:U6}(rv:Vals (ns.map V.int) its):∃xs:Array (Int×Tok),its.toArray=intItems xs/\ns=xs.toList.map (·.1):=by
 have hi:=Nr rv;obtain⟨xs,e⟩:=hi.allInts.items;exact⟨xs,e,by rw[<-hi.numsOf,<-cj,<-e]⟩
theorem X1b(hc:X.calm=true):CP X (.builtin "min") (λxs H Q=>∃(p:W9) (ns:U6),xs=[.ref p]/\Ai X.K H p (ns.map V.int)/\0<ns.length/\∀M,M∈ns->(∀a,a∈ns->M<=a)->Q (.int M) H):=by
 intro pins s σ H xs us Q I r h;obtain⟨p,ns,rfl,k,f,q⟩:=h;obtain⟨u,rfl,m⟩:=r.one;cases m;obtain⟨its,n,d,w⟩:=I.tuple k;obtain⟨xs,e,b⟩:=ur n;have hsz:0<xs.size:=by rw[b,Az,JT]at f;exact f
 rw[e]at d;refine X8n (show X.A.handled=none from I.ok.hd hc) d hsz λv h' tk o g=>?_;obtain⟨t,rfl⟩:=V1 o;obtain⟨h1,h2⟩:=argBest_lt (PySem.numAt xs) (xs.size-1);refine⟨.int (PySem.numAt xs (argBest (λi j=>decide (PySem.numAt xs i<PySem.numAt xs j)) (xs.size-1))),H,I.kept (t':=tk) g,⟨_,U⟩,q _ ?_ λa c=>?_⟩
 ·rw[b,Td];exact getD_mem (by rw[Az,JT];lia)
 ·rw[b]at c;obtain⟨j,l,rfl⟩:=mem_getD c;rw[Az,JT]at l;rw[<-Td];exact h2 j (by lia)
theorem X1d(hc:X.calm=true):CP X (.builtin "max") (λxs H Q=>∃(p:W9) (ns:U6),xs=[.ref p]/\Ai X.K H p (ns.map V.int)/\0<ns.length/\∀M,M∈ns->(∀a,a∈ns->a<=M)->Q (.int M) H):=by
 intro pins s σ H xs us Q I r h;obtain⟨p,ns,rfl,k,f,q⟩:=h;obtain⟨u,rfl,m⟩:=r.one;cases m;obtain⟨its,n,d,w⟩:=I.tuple k;obtain⟨xs,e,b⟩:=ur n;have hsz:0<xs.size:=by rw[b,Az,JT]at f;exact f
 rw[e]at d;refine X8p (show X.A.handled=none from I.ok.hd hc) d hsz λv h' tk o g=>?_;obtain⟨t,rfl⟩:=V1 o;obtain⟨h1,h2⟩:=argBest_gt (PySem.numAt xs) (xs.size-1);refine⟨.int (PySem.numAt xs (argBest (λi j=>decide (PySem.numAt xs i>PySem.numAt xs j)) (xs.size-1))),H,I.kept (t':=tk) g,⟨_,U⟩,q _ ?_ λa c=>?_⟩
 ·rw[b,Td];exact getD_mem (by rw[Az,JT];lia)
 ·rw[b]at c;obtain⟨j,l,rfl⟩:=mem_getD c;rw[Az,JT]at l;rw[<-Td];exact h2 j (by lia)
end
end L2
namespace L2
section
variable {prog:U8}{w:W1}{A:W6}{E:U2}{s:U7}{l:W9}
theorem X9n{us:U5}{R:List Value->Shared->Prop}(ht:s.heap.IsList l us.toArray)(hn:us.length<=sizeLine)
  (h:∀h':Heap,(∀b o,s.heap.get? b=some o->h'.get? b=some o)->s.heap.objs.size<h'.objs.size->R us {s with heap:=h'}):wpAny (model prog w) A (collect (.ref l)) R E s:=by
 obtain⟨o,d,f,n,hd⟩:=ht;have low:=CN d;have c:∀b o,s.heap.get? b=some o->(s.heap.push (seqObj "list" #[] 0)).get? b=some o:=λb o e=>Ef _ e;unfold collect;refine Aw (wpAny_runValue (Yt entry_proto_collect' ?_));rw[Around.under_plainId qd _];show wpAny _ A.in1 (newList [] >>= λa=>again (.builtin "list.__iadd__" ⟨[a,.ref l],[]⟩)) _ _ s;refine Aw (WD (Bl ⟨plainId_quiet Y9 _,Yt entry_list_iadd' ?_⟩));rw[Around.under_plainId Y9 _];show wpAny _ _ (Builtin.List.listExtendWith (.ref s.heap.objs.size) (.ref l) (.ref s.heap.objs.size)) _ _ {s with heap:=s.heap.push (seqObj "list" #[] 0)};unfold Builtin.List.listExtendWith;refine Aw (Yl (T:="list") ⟨o,c _ _ d,f⟩ ?_);rw[if_pos (by rw[show (Value.type "list" == Value.type "list")=true from rfl,Bool.or_true,Bool.true_or])];refine Aw (Yk (c _ _ d) hd (Aw (Yk (xs:=#[]) (n:=0) (Fj _ rfl) rfl ?_)));rw[if_neg (by simp)];refine Aw (V9 (xs:=#[]) (n:=0) (Fj _ rfl) rfl (Bl ?_) (Ed _) (by simp;lia));refine Aw (Ye (Yu (Fj _ rfl) _) ?_);show wpAny _ _ (pure ((#[]:U9)++us.toArray).toList) _ _ _;rw[show ((#[]:U9)++us.toArray).toList=us by simp];refine Bl (h _ (λb q e=>?_) ?_)
 ·have:=CN e;exact(Wc _ b s.heap.objs.size _ (DY this)).trans (c b q e)
 ·show _<((s.heap.push (seqObj "list" #[] 0)).update _ _).objs.size;rw[d_,Lb];exact KR _
end
section
variable {X:Cx}
theorem Y1w:CP X (.builtin "sorted") (λxs H Q=>∃(p:W9) (ns:U6),xs=[.ref p]/\Ag X.K H p (ns.map V.int)/\ns.length<64 /\
  ∀(l:W9) (a:U6),H l=none->a.Perm ns->a.Pairwise (·<=·)->Q (.ref l) (upd H l (.lst (a.map V.int)))):=by
 intro pins s σ H xs us Q I r h;obtain⟨p,ns,rfl,k,J,q⟩:=h;obtain⟨u,rfl,B⟩:=vals1 r;cases B;obtain⟨its,i,z,G⟩:=I.list k;have F:=Nr i;have y:its.length=ns.length:=by have:=i.length;rw[Az]at this;exact this.symm
 have t:(64:Nat)<=sizeLine:=by decide
 refine Calls.call_function_entry kind_sorted bZ kE (args_sorted1 _) ?_;unfold Builtin.«sorted»;refine Aw (m:=checkCount "sorted" 1 1 _) (Bl ?_);refine Aw (X9n (A:=X.A.in1) z.isList (by lia) λh' d f=>?_);have hsz:=Tg f;refine Aw (WD ?_ (by lia));have c:(h'.push (seqObj "list" its.toArray 0)).get? h'.objs.size=some (seqObj "list" its.toArray 0):=Fj _ rfl;refine Aw (Ky (RZ cu ⟨_,c,U⟩ dz (list_sort_tree c F (by lia) λout a n j C=>⟨_,U,?_⟩) (args_list_sort _)));refine Bl ⟨_,U,?_⟩;obtain⟨e,E⟩:=sortedHeap_at (out:=out) c;have v:∀b o,s.heap.get? b=some o->(sortedHeap (h'.push (seqObj "list" its.toArray 0)) h'.objs.size its out).get? b=some o:=λb o x=>by
  have lt:=CN (d b o x);rw[sortedHeap_old (DY lt) (by rw[Vx];exact Qe lt)];exact Ef _ (d b o x)
 have D:=j.length_eq;have g:(out.toList).toArray=out:=Y5;exact⟨.ref h'.objs.size,_,I.laid (t':=s.toks) v hsz (show BR X.prog X.w _ _ _ (.lst (a.map V.int)) from ⟨by rw[Az];lia,out.toList,e,Zk n,by rw[g];exact E⟩),U,q _ a (I.hok.fresh hsz) j C⟩
end
end L2
namespace L2
theorem X1a{X:Cx}(hc:X.calm=true):CP X (.type "set") (λxs H Q=>∃(p:W9) (ns:U6),xs=[.ref p]/\Ag X.K H p (ns.map V.int)/\ns.length<64/\∀(l:W9) (S:Int->Bool),H l=none->Q (.ref l) (upd H l (.set S (unlike ns)))):=by
 intro pins s σ H xs us Q I r h;obtain⟨p,ns,rfl,k,g,q⟩:=h;obtain⟨u,rfl,j⟩:=vals1 r;cases j;obtain⟨its,c,i,_⟩:=I.list k;have f:its.toArray.size=ns.length:=by rw[Ep,<-c.length,Az]
 refine call_set_list (I.ok.hd hc) i.isList (ns:=ns) (by simpa using wJ c) (by unfold scanBound;lia) λh' tk a d=>?_;rw[f]at a;exact⟨.ref s.heap.objs.size,_,I.laid (o:=.set _ (unlike ns)) (t':=tk) (λb o e=>d b o (CN e) e) (Bd _) a,U,q _ _ (I.hok.fresh (Bd _))⟩
end L2
namespace L2
section
variable {X:Cx}
end
end L2
namespace L2
section
variable {X:Cx}{pins:U1}{σ:St}{H:Hp}{s:U7}
end
end L2
set_option maxHeartbeats 1000000
set_option maxHeartbeats 4000000
namespace Ax
open L2 Am Pc Ba
open DG (Mk bit Ey R6)
open Bh (vec V6 CK Ck ev HJ)
open Ah (T3 L3 Bv Ig Ja Jp)
open Ci (Kp Nv)
def uG (K:U0):Sp:=λvs H Q _=>∃(l p:W9) (ps:U3) (f:Nat->A5) (c:Nat) (m:Mk),vs=[.ref l,.ref p]/\Bo K H l ps f c/\c<=6/\Ai K H p (L3 m)/\m.2.1<2^c /\
 ∀(b:Bool) (H':Hp),Same H H'->(b=true↔Kp c f m)->Q (.bl b) H'
def GR (K:U0):Sp:=λvs H Q _=>∃(p:W9) (m:Mk) (n:Nat),vs=[.ref p]/\Ai K H p (L3 m)/\V6 m/\CK (vec m) n/\Q (.int n) H
def vR:Sp:=λvs H Q _=>∃(p:W9) (m:Mk) (c:Nat),vs=[.ref p,.int c]/\H p=some (T3 m)/\Ci.Ok c m/\ev m/\c<=6/\∀H',Same H H'->Q (.bl true) H'
theorem Vn{n:Nat}(h:n<=12):Sz 9000 ((1:Int)*2^((n:Int)).toNat):=by
 rw[ipow];have:2^n<=4096:=E_ (Fw (by decide) h) (by decide);exact(show Sz 13 ((2^n:Nat):Int) by unfold Sz;rw[Int.natAbs_natCast];lia).mono (by decide)
theorem pp(n:Nat):(0:Int)<1*2^((n:Int)).toNat:=by rw[Vz];exact Yg (by decide)
theorem oH(x n:Nat):(Int.fdiv (x:Int) (1*2^((n:Int)).toNat))%2=((bit x n:Nat):Int):=by
 rw[gn _ (Int.le_of_lt (pp n)),ipow];unfold bit;rfl
theorem oX(m:Mk):(m.2.1:Int)+(m.2.2:Int)*64=((vec m:Nat):Int):=by unfold vec;lia
theorem Rn{m:Mk}{n:Nat}(v:V6 m)(l:CK (vec m) n):n<12:=by
 have one:=l.one;unfold vec at one;rw[HJ v.f]at one;split at one
 ·lia
 ·by_cases c2:n-6<6
  ·lia
  ·rw[R6 v.s (by lia)]at one;cases one
def uO (K:U0):Sp:=λvs H Q _=>∃(p:W9) (x:A5) (k:Int),vs=[.ref p,.int k]/\Dp K H p x/\∀(r:W9) (H':Hp),Same H H'->H' r=some (tA (Bc x k))->Q (.ref r) H'
section
variable {P:U8}{w:W1}{K:U0}{mg:U4}{base:Heap}{k:Nat}{h:Heap}
theorem X2p(F:Ab K "_law_spin" (top 85) .none)(X:K.In h)(G:Ng h mg)(B:Bs mg):Aj P w K mg base (k+1) "_law_spin" ["_law_one","_law_k"] (uO K):=by
 refine F.cal X G ["_law_one","_law_k","_law_a","_law_b","_law_c","_law_d","_law_h","_law_j"] λa H vs Q E d h=>?_;obtain⟨p,x,k,rfl,hp,q⟩:=h
 refine⟨_,(@Ay _ _ _ _ _ (R0 (pv 0) (Ls rfl (Ea (Bb (i:=2) a rfl (Or.inl rfl)) (Ea (Bb (i:=3) a rfl (Or.inl rfl)) (Ea (Bb (i:=4) a rfl (Or.inl rfl)) (Ea (Bb (i:=5) a rfl (Or.inl rfl)) (Ea (Bb (i:=6) a rfl (Or.inl rfl)) Lx)))))))
  (@Ay _ _ _ _ _ (Ge PassesOwn.never rfl (HN rfl B.range (Aa (Af Cv (pv 1) Ad) Ae)) (Bb (i:=7) a rfl (Or.inl rfl))
   (@Ak _ _ _ (R0 (@Cw _ _ _ _ _ (Aa (Pg R4 (pv 5)) (Aa (pv 2) (Aa (pv 3) (Aa (pv 4) Ae))))) (Ls rfl (Ea (Bb (i:=2) a rfl (Or.inl rfl)) (Ea (Bb (i:=3) a rfl (Or.inl rfl)) (Ea (Bb (i:=4) a rfl (Or.inl rfl)) (Ea (Bb (i:=5) a rfl (Or.inl rfl)) Lx))))))))
  (@Ak _ _ _ (BL (@Cw _ _ _ _ _ (Aa (pv 2) (Aa (pv 3) (Aa (pv 4) (Aa (pv 5) (Aa (pv 6) Ae)))))))))),?_⟩
 try dsimp only[CG]
 refine⟨_,U,p,_,U,hp,U,_,_,U,_,_,U,_,_,U,_,_,U,_,_,U,U,?_⟩;refine⟨_,U,_,_,U,U,qe,_,U,by lia,by lia,Nq (n:=(k%8).toNat) (λi σ H'=>Same H H'/\∃c,σ=[some (.ref p),some (.int k),some (.int (Dq i x.1).1),some (.int (Dq i x.1).2.1),some (.int (Dq i x.1).2.2.1),some (.int (Dq i x.1).2.2.2),some (.int x.2),c]) ⟨Same.refl _,_,U⟩ ?_ ?_⟩
 ·rintro i σ H' hi ⟨b,c,rfl⟩;refine⟨_,U,_,U,_,U,_,U,_,U,t4,λt e=>⟨t,_,U,Ai.of Ar,U,_,_,U,_,_,U,_,_,U,_,_,U,U,b.trans (A_ e _),_,U⟩⟩
 ·rintro σ H' ⟨b,c,rfl⟩;exact⟨_,U,_,U,_,U,_,U,_,U,t5,λr d=>q r _ (b.trans (A_ d _)) Ar⟩
theorem X2v(F:Ab K "_law_keeps" (top 90) .none)(X:K.In h)(G:Ng h mg)(B:Bs mg)(eC:Aj P w K mg base k "_law_spin" ["_law_one","_law_k"] (uO K))(cF:Aj P w K mg base k "_law_bits" ["_law_number"] CZ):Aj P w K mg base (k+1) "_law_keeps" ["_law_board","_law_mark"] (uG K):=by
 refine F.cal X G ["_law_board","_law_mark","_law_q","_law_f","_law_s","_law_word"] λj H vs Q E y h=>?_;obtain⟨l,p,ps,f,c,m,rfl,o,c6,SP,O,I⟩:=h;have J:Ag K H l (ps.map V.ref):=Ag.of o.lst;have T:=GZ c6;have b:=o.len
 refine⟨_,(@Ay _ _ _ _ _ (R0 (pv 1) (Ls rfl (Ea (Bb (i:=2) j rfl (Or.inl rfl)) (Ea (Bb (i:=3) j rfl (Or.inl rfl)) (Ea (Bb (i:=4) j rfl (Or.inl rfl)) Lx)))))
  (@Ay _ _ _ _ _ (Ge PassesOwn.never rfl (HN rfl B.range (Aa (CJ GP rfl B.len Fv (Aa (pv 0) Ae)) Ae)) (Bb (i:=5) j rfl (Or.inl rfl))
   (@Ak _ _ _ (Bx (Bf (ZQ y.units) (Ao FZ (pv 0) (Af JK (pv 5) (pv 3)) (λ_ _=>rfl)) (BP eC y rfl (Aa (Ao FZ (pv 0) (pv 5) (λ_ _=>rfl)) (Aa (Af Ds (Af G_ Ad (pv 2)) (Af G_ Ad (BP cF y rfl (Aa (Af Dv (pv 5) (pv 4)) Ae)))) Ae))) (Ac _))
    (@Ak _ _ _ (BL Dw))
    B_)))
  (@Ak _ _ _ (BL Dw)))),?_⟩
 try dsimp only[CG]
 refine⟨_,U,p,_,U,SP,U,_,_,U,_,_,U,_,_,U,U,?_⟩;have S:(((ps.map V.ref).length:Nat):Int).toNat=2^c:=by rw[FN,Az,b]
 refine⟨_,U,l,_,U,.inl J,_,U,by lia,(by rw[Az,b];lia),?_⟩;rw[S];refine Nq (n:=2^c) (λi σ H'=>Same H H'/\(∀w,w<i->f (w^^^m.2.1)=Bc (f w) ((2*m.1+4*pc (w&&&m.2.2):Nat):Int))/\∃v,σ=[some (.ref l),some (.ref p),some (.int m.1),some (.int m.2.1),some (.int m.2.2),v])
  ⟨Same.refl _,λ_ z=>absurd z (IV _),_,U⟩ ?_ ?_
 ·rintro i σ H1 hi ⟨a,lo,v,rfl⟩;have s:(0:Int)+(i:Int)=(i:Int):=H_ _;have xl:i^^^m.2.1<2^c:=FP hi O;obtain⟨C,_,M,x⟩:=(o.same a).at hi;obtain⟨p2,_,N,u⟩:=(o.same a).at xl;have d:=a.seq J;refine⟨_,U,_,U,_,U,_,_,U,U,l,_,_,.ref p2,U,U,d,(by rw[s,Jo];exact u),_,U,_,U,l,_,_,.ref C,U,U,d,(by rw[s];exact x),_,U,_,_,U,U,.inl ⟨by decide,by decide⟩,_,U,_,U,_,_,U,U,i&&&m.2.2,(by rw[s];exact Ig _ _),_,_,U,U,.inl ⟨by decide,by decide⟩,_,_,U,U,C,f i,_,U,M,λr H2 t g=>?_⟩;have R:(2:Int)*(m.1:Int)+4*((pc (i&&&m.2.2):Nat):Int)=((2*m.1+4*pc (i&&&m.2.2):Nat):Int):=by lia
  rw[R]at g;refine⟨p2,r,l5 (f (i^^^m.2.1)),l5 (Bc (f i) ((2*m.1+4*pc (i&&&m.2.2):Nat):Int)),U,U,N.same t,Ai.of g,_,U,Gw (λA=>?_) (λe=>?_)⟩
  ·refine I false H2 (a.trans t) ⟨λz=>(nomatch z),λz=>?_⟩;have:=z i hi;rw[this]at A;simp at A
  ·refine⟨a.trans t,λD L=>?_,_,U⟩;by_cases q:D=i
   ·subst q;exact mW (by simpa using e)
   ·exact lo D (by lia)
 ·rintro σ H1 ⟨a,lo,v,rfl⟩;exact I true H1 a ⟨λ_=>lo,λ_=>rfl⟩
theorem X2t(F:Ab K "_law_lead" (top 91) .none)(X:K.In h)(G:Ng h mg)(B:Bs mg):Aj P w K mg base (k+1) "_law_lead" ["_law_mark"] (GR K):=by
 refine F.cal X G ["_law_mark","_law_cell"] λc H vs Q d g h=>?_;obtain⟨p,m,n,rfl,S,v6,l,q⟩:=h
 refine⟨_,(@Ay _ _ _ _ _ (Ge PassesOwn.never rfl (HN rfl B.range (Aa Ad Ae)) (Bb (i:=1) c rfl (Or.inl rfl))
   (@Ak _ _ _ (Bx (Bf Df (Af Cv (Af vK (Af Ds (Ao BK (pv 0) Ad (λ_ _=>rfl)) (Af G_ (Ao BK (pv 0) Ad (λ_ _=>rfl)) Ad)) (Af Gf Ad (pv 1))) Ad) Ad (Ac _))
    (@Ak _ _ _ (BL (pv 1)))
    B_)))
  (@Ak _ _ _ (BL Ad))),?_⟩
 try dsimp only[CG]
 refine⟨_,U,by decide,by decide,Nq (n:=12) (λi σ H'=>H'=H/\(∀j,j<i->bit (vec m) j=0)/\∃v,σ=[some (.ref p),v]) ⟨U,λj b=>absurd b (IV _),none,U⟩ ?_ ?_⟩
 ·rintro i σ H1 hi ⟨rfl,lo,v,rfl⟩;have a:(0:Int)+(i:Int)=(i:Int):=H_ _;have f:=Ey (vec m) i;refine⟨_,U,p,_,_,_,U,U,S,U,_,U,p,_,_,_,U,U,S,U,_,_,U,U,.inr ⟨by decide,by decide⟩,_,_,U,U,_,U,_,_,U,U,⟨1,GQ,by lia,by lia⟩,_,_,U,U,⟨by rw[a];exact V2 (pp i),by rw[a];exact Vn (by lia)⟩,_,_,U,U,Ja,U,_,U,Lj (λz=>?_) (λz=>?_)⟩
  ·rw[a,oX,oH]at z;have l2:CK (vec m) i:=⟨by lia,lo⟩;refine⟨_,U,?_⟩;rw[a,l2.uniq l];exact q
  ·rw[a,oX,oH]at z;refine⟨U,λj b=>?_,_,U⟩;by_cases e:j=i
   ·subst e;lia
   ·exact lo j (by lia)
 rintro σ H1 ⟨rfl,lo,v,rfl⟩;exfalso;have:=lo n (Rn v6 l);rw[l.one]at this;cases this
theorem X7t(F:Ab K "_law_is_mark" (top 92) .none)(X:K.In h)(G:Ng h mg)(B:Bs mg)(cN:Aj P w K mg base k "_law_whole" ["_law_found"] Pr)(cF:Aj P w K mg base k "_law_bits" ["_law_number"] CZ):Aj P w K mg base (k+1) "_law_is_mark" ["_law_found","_law_cells"] vR:=by
 refine F.cal X G ["_law_found","_law_cells"] λD H vs Q A o h=>?_;obtain⟨p,m,c,rfl,hp,l,b,c6,u⟩:=h;have SP:Ai K H p (L3 m):=Ai.of hp
 refine⟨_,(@Ay _ _ _ _ _ (Bx (PW.pt (Es (Eh (DW (CJ J_ rfl B.isinstance IW (Aa (pv 0) (Aa (JZ (v:=.ty "tuple") rfl B.tuple Yc rfl) Ae))))) (Es (Bf Hs (CJ GP rfl B.len Fv (Aa (pv 0) Ae)) Ad (Ac _)) (Hg (Eh (DW (CJ (J9 rfl) rfl B.all Jx (Aa (Gp rfl (BW.of (Nc:=["_law_part"]) (mp:=[none]) (by kernel_rfl)) (yD (pv 0)) (λ_ _ _ _=>(Bb (i:=0) (show (["_law_part"]:W0).Nodup by decide +kernel) rfl (Or.inl rfl))) (λ_ _ _ _=>(BP cN o rfl (Aa (pv 0) Ae)))) Ae))))))))
   (@Ak _ _ _ (BL Dw))
   B_)
  (@Ay _ _ _ _ _ (Bx (PW.pt (Es (Bf J5 (CJ (X1b rfl) rfl B.min boot_min (Aa (pv 0) Ae)) Ad (Ac _)) (Es (Bf Lq (Ao BK (pv 0) Ad (λ_ _=>rfl)) Ad (Ac _)) (Hg (Bf aR (CJ (X1d rfl) rfl B.max boot_max (Aa (Kq X6t (pv 0) (J7 Ad) K_) Ae)) (Af Gf Ad (pv 1)) (Ac _))))))
   (@Ak _ _ _ (BL Dw))
   B_)
  (@Ak _ _ _ (BL (HD Df (Af Cv (Af Ds (Ao BK (pv 0) Ad (λ_ _=>rfl)) (BP cF o rfl (Aa (Af Dv (Ao BK (pv 0) Ad (λ_ _=>rfl)) (Ao BK (pv 0) Ad (λ_ _=>rfl))) Ae))) Ad) Ad (Ac _)))))),?_⟩
 try dsimp only[CG]
 refine⟨_,U,_,_,_,true,U,Bj.tup hp,Ah.X5 K,_,U,CQ ⟨_,U,p,_,U,.inr SP,U,_,U,Ho (λz=>absurd rfl z) (λ_=>⟨_,U,p,U,⟨_,SP⟩,λacc a=>?_⟩)⟩⟩;have e:Ai K H p ([(m.1:Int),(m.2.1:Int),(m.2.2:Int)].map V.int):=SP;refine X8t (ns:=[(m.1:Int),(m.2.1:Int),(m.2.2:Int)]) (fr:=[]) (λ_=>.bl true) e t3 a (λi H2 N s2 r=>⟨_,U,i,U,r⟩) (λH2 g y=>?_);refine⟨acc,[true,true,true],U,Ag.of y,_,U,CQ ?_⟩;have j:=g.tup e;have C:=l.q;have of:=l.f;have os:=l.s;refine⟨_,U,p,[(m.1:Int),(m.2.1:Int),(m.2.2:Int)],U,j,(show 0<3 by decide),λM n lo=>⟨_,_,U,U,_,U,BJ (λz=>?_) (λ_=>?_)⟩⟩
 ·simp only[Dg,Ir,Ip]at n;lia
 refine⟨_,U,p,_,_,_,U,U,j,U,_,_,U,U,_,U,BJ (λz=>by lia) (λ_=>?_)⟩;refine⟨_,U,_,U,p,L3 m,U,j,.inr ⟨λc=>absurd c.1 (by rw[W1y];decide),λt x=>?_⟩⟩;have s4:=A_ x (.tup [.int (m.2.1:Int),.int (m.2.2:Int)]);refine⟨t,[(m.2.1:Int),(m.2.2:Int)],U,Ai.of Ar,(show 0<2 by decide),λM n hi=>⟨_,U,_,_,U,U,⟨1,GQ,by lia,by lia⟩,_,_,U,U,_,U,BJ (λz=>?_) (λ_=>?_)⟩⟩
 ·rw[ipow]at z;simp only[Dg,Ir,Ip]at n;lia
 have d:=(g.trans s4).tup e;refine⟨_,U,p,_,_,_,U,U,d,U,_,U,p,_,_,_,U,U,d,U,_,U,p,_,_,_,U,U,d,U,_,_,U,U,m.2.1&&&m.2.2,Ig _ _,_,_,U,U,_,_,U,U,Ja,U,?_⟩;show Q (.bl (decide (V.int (((m.1:Int)+((pc (m.2.1&&&m.2.2):Nat):Int))%2)=V.int 0))) _;unfold ev at b;rw[Dr (by congr 1;lia)];exact u _ (g.trans s4)
theorem rO:∀{a b:U6},a.Perm b->a.Pairwise (·<=·)->b.Pairwise (·<=·)->a=b
 | [],b,p,_,_=>(List.Perm.nil_eq p)
 | x::a,[],p,_,_=>absurd p.length_eq (by simp)
 | x::a,y::b,p,ha,hb=>by
  have c:x∈y::b:=p.mem_iff.mp (.head _);have d:y∈x::a:=p.mem_iff.mpr (.head _);have e:x=y:=by
   rcases Dg.mp c with e | m
   ·exact e
   ·rcases Dg.mp d with e | m'
    ·exact e.symm
    ·have:=(Tq.mp hb).1 x m;have:=(Tq.mp ha).1 y m';lia
  subst e;rw[rO (List.Perm.cons_inv p) (Tq.mp ha).2 (Tq.mp hb).2]
theorem X3p(c:Int)(ns:U6):inV (.int c) (ns.map V.int)=ns.contains c:=by
 unfold inV;induction ns with
 | nil=>rfl
 | cons n ns ih =>
  rw[FJ,RL,ih,List.contains_cons];congr 1;show decide (n=c)=(c == n);by_cases e:n=c
  ·subst e;simp
  ·rw[Dh e];symm;simpa using λz=>e z.symm
theorem X0m(ns:U6):(ns.map V.int).all Fz=true:=by
 rw[Gz];intro x a;obtain⟨n,_,rfl⟩:=El.mp a;rfl
noncomputable abbrev Gn (S:List Mk):List Int:=S.map λm=>((Ck m:Nat):Int)
def uF:Sp:=λvs H Q _=>∃(l:W9) (qs:U3) (S:List Mk) (c:Nat),vs=[.ref l,.int c]/\H l=some (.lst (qs.map V.ref))/\Bv H qs S/\(∀m∈S,Ci.Ok c m/\ev m)/\Bh.Red (S.map vec) (S.map Ck)/\S.length<=12/\c<=6/\∀H',Same H H'->Q (.bl true) H'
theorem nR(n:Nat):(List.replicate n true).all id=true:=by
 induction n with
 | zero=>rfl
 | succ n ih=>rw[List.replicate_succ,V7,ih];rfl
theorem W1n{S:List Mk}(R:Bh.Red (S.map vec) (S.map Ck)):(Gn S).Pairwise (·<·):=by
 have:=R.rise;rw[WX]at this ⊢;exact this.imp λh=>by lia
theorem X2w(F:Ab K "_law_is_reduced" (top 93) .none)(X:K.In h)(G:Ng h mg)(B:Bs mg)(eB:Aj P w K mg base k "_law_lead" ["_law_mark"] (GR K))(dI:Aj P w K mg base k "_law_is_mark" ["_law_found","_law_cells"] vR):Aj P w K mg base (k+1) "_law_is_reduced" ["_law_rows","_law_cells"] uF:=by
 refine F.cal X G ["_law_rows","_law_cells","_law_leads","_law_k","_law_j"] λW H vs Q E' hr h=>?_;obtain⟨l,qs,S,c,rfl,hl,hm,ok,R,Lh,c6,kq⟩:=h;have lq:=hm.length;have C:Ag K H l (qs.map V.ref):=Ag.of hl;have D:(qs.map V.ref).length<=sizeLine:=by rw[Az,lq];exact E_ Lh (by decide)
 refine⟨_,(@Ay _ _ _ _ _ (Bx (PW.pt (Es (Eh (DW (CJ J_ rfl B.isinstance IW (Aa (pv 0) (Aa (JZ (v:=.ty "list") rfl B.list OD rfl) Ae))))) (Hg (Eh (DW (CJ (J9 rfl) rfl B.all Jx (Aa (Gp rfl (BW.of (Nc:=["_law_mark","_law_cells"]) (mp:=[none,some 1]) (by kernel_rfl)) (Ei (pv 0)) (λ_ _ _ _=>(Bb (i:=0) (show (["_law_mark","_law_cells"]:W0).Nodup by decide +kernel) rfl (Or.inl rfl))) (λ_ _ _ _=>(BP dI hr rfl (Aa (pv 0) (Aa (pv 1) Ae))))) Ae)))))))
   (@Ak _ _ _ (BL Dw))
   B_)
  (@Ay _ _ _ _ _ (Qw (i:=2) rfl W rfl rfl (BW.of (Nc:=["_law_mark"]) (mp:=[none]) (by kernel_rfl)) (Ei (pv 0)) (λ_ _ _ _=>(Bb (i:=0) (show (["_law_mark"]:W0).Nodup by decide +kernel) rfl (Or.inl rfl))) (λ_ _ _ _=>(BP eB hr rfl (Aa (pv 0) Ae))) rfl)
  (@Ay _ _ _ _ _ (Bx (PW.pt (Es (Bf (X7h hr.units) (pv 2) (CJ Y1w rfl B.sorted boot_sorted (Aa (pv 2) Ae)) (Ac _)) (Es (Bf Hs (CJ X1g rfl B.len Fv (Aa (Xv (X1a rfl) rfl B.set boot_set (Aa (pv 2) Ae)) Ae)) (CJ GP rfl B.len Fv (Aa (pv 2) Ae)) (Ac _)) (Hg (Bf wN Ad (pv 2) rfl)))))
   (@Ak _ _ _ (BL Dw))
   B_)
  (@Ay _ _ _ _ _ (Ge PassesOwn.never rfl (HN rfl B.range (Aa (CJ GP rfl B.len Fv (Aa (pv 0) Ae)) Ae)) (Bb (i:=3) W rfl (Or.inl rfl))
   (@Ak _ _ _ (Ge PassesOwn.never rfl (HN rfl B.range (Aa (CJ GP rfl B.len Fv (Aa (pv 0) Ae)) Ae)) (Bb (i:=4) W rfl (Or.inl rfl))
    (@Ak _ _ _ (Bx (PW.pt (Oh (Bf Hs (pv 4) (pv 3) (Ac _)) (Ol (Bf Df (Af Cv (Af vK (Af Ds (Ao BK (Ao FZ (pv 0) (pv 4) (λ_ _=>rfl)) Ad (λ_ _=>rfl)) (Af G_ (Ao BK (Ao FZ (pv 0) (pv 4) (λ_ _=>rfl)) Ad (λ_ _=>rfl)) Ad)) (Af Gf Ad (Ao FZ (pv 2) (pv 3) (λ_ _=>rfl)))) Ad) Ad (Ac _)))))
     (@Ak _ _ _ (BL Dw))
     B_)))))
  (@Ak _ _ _ (BL Dw)))))),?_⟩
 try dsimp only[CG]
 refine⟨_,U,_,_,_,true,U,Bj.lst hl,Ah.Ru K,_,U,CQ ⟨_,U,l,U,⟨_,C⟩,λacc o=>?_⟩⟩;refine Lw (K:=K) (a:=l) (xs:=qs.map V.ref) (fr:=[some (.int c)]) (λi ys H'=>Same H H'/\H' acc=some (.lst ys)/\ys=(List.replicate i true).map V.bl) D ⟨A_ o _,Ar,U⟩ (λi ys H' e=>e.1.seq C) ?_ ?_
 ·rintro i x ys H1 N A hy ⟨t,a1,rfl⟩ Z;rw[Bu]at A;obtain⟨p,hp,rfl⟩:=Dt.mp A;obtain⟨m,b,pm⟩:=hm.get hp;obtain⟨om,em⟩:=ok m (Er b);refine⟨_,U,_,U,p,m,c,U,t _ _ pm,om,em,c6,λH2 r=>Z _ _ (r _ _ a1) ⟨Dj (t.trans r) o,Ar,?_⟩⟩;rw[f9,Ca];rfl
 rintro ys H1 hy ⟨t,a1,rfl⟩;refine⟨acc,_,U,Ag.of a1,_,U,Gw (λz=>absurd z (by rw[nR];exact GJ)) (λ_=>?_)⟩;refine⟨_,U,l,U,⟨_,t.seq C⟩,λf I=>?_⟩;refine Lw (K:=K) (a:=l) (xs:=qs.map V.ref) (fr:=[]) (λi ys H'=>Same H1 H'/\H' f=some (.lst ys)/\ys=(Gn (S.take i)).map V.int) D ⟨A_ I _,Ar,U⟩ (λi ys H' e=>e.1.seq (t.seq C)) ?_ ?_
 ·rintro i x ys H2 N A hy ⟨r,L,rfl⟩ Z;rw[Bu]at A;obtain⟨p,hp,rfl⟩:=Dt.mp A;obtain⟨m,b,pm⟩:=hm.get hp;have mS:=Er b;have T:i<S.length:=(Fe.mp b).1;have ld:=R.ld i (by rw[Az];exact T);rw[Bp,Bp,Bu,Bu,b]at ld;refine⟨_,U,p,m,Ck m,U,Ai.of (r _ _ (t _ _ pm)),(ok m mS).1.v6 c6,ld,Z _ _ L ⟨Dj r I,Ar,?_⟩⟩;rw[Gs,b,Iu];unfold Gn;rw[Ca,Ca];rfl
 rintro ys H2 hy ⟨r,L,rfl⟩;rw[Az,lq,Ia]at L;have a6:=t.trans r;have lt:=W1n R;have le:(Gn S).Pairwise (·<=·):=lt.imp λh=>by lia
 have d:(Gn S).Nodup:=lt.imp λh=>by lia
 have ll:(Gn S).length=S.length:=Az ..;have SA:Ag K H2 f ((Gn S).map V.int):=Ag.of L;refine⟨_,U,_,U,f,Gn S,U,SA,by lia,λl2 a4 a3 pm pw=>?_⟩;have e2:a4=Gn S:=rO pm pw le;subst e2;have s3:=A_ a3 (.lst ((Gn S).map V.int));refine⟨f,l2,Gn S,Gn S,U,U,s3.seq SA,Ag.of Ar,_,U,Gw (λz=>absurd z (by simp)) (λ_=>?_)⟩;generalize upd H2 l2 (.lst ((Gn S).map V.int))=H3 at *;have s:=s3.seq SA;refine⟨_,U,f,Gn S,U,s,by lia,λl4 SS a5=>?_⟩;have s4:=A_ a5 (.set SS (unlike (Gn S)));refine⟨l4,SS,unlike (Gn S),U,Ar,(by rw[sG d];lia),?_⟩;refine⟨_,U,f,_,U,.inl (s4.seq s),U,_,U,Ho (λz=>absurd (by rw[sG d];simp) z) (λ_=>?_)⟩;generalize upd H3 l4 (.set SS (unlike (Gn S)))=H4 at *;have q:Same H H4:=(a6.trans s3).trans s4;have y:=s4.seq s;have a0:(Gn S).contains 12=false:=by
  apply Bool.eq_false_iff.mpr;intro z;obtain⟨m,J,e⟩:=El.mp (List.contains_iff_mem.mp z);have T:=qD.mp J;obtain⟨i,hi⟩:=T;have ld:=R.ld i (by rw[Az];exact(Fe.mp hi).1);rw[Bp,Bp,Bu,Bu,hi]at ld;have:=Rn ((ok m J).1.v6 c6) (show CK (vec m) (Ck m) from ld);have e:((Ck m:Nat):Int)=12:=e;lia
 refine⟨_,U,f,_,U,.inl y,U,X0m _,_,U,?_⟩;have M:inV (.int 12) ((Gn S).map V.int)=false:=by rw[X3p];exact a0
 refine Gw (λz=>absurd (show inV (.int 12) ((Gn S).map V.int)=true from z) (by rw[M];exact GJ)) (λ_=>?_);have g:=q.seq C;have eN:(((qs.map V.ref).length:Nat):Int).toNat=S.length:=by rw[FN,Az,lq]
 refine⟨_,U,l,_,U,.inl g,_,U,by lia,(by rw[Az];lia),?_⟩;rw[eN];refine Nq (n:=S.length) (λi σ H'=>H'=H4/\∃O u:Option V,σ=[some (.ref l),some (.int c),some (.ref f),O,u]) ⟨U,_,_,U⟩ ?_ ?_
 ·rintro i σ H5 hi ⟨rfl,O,u,rfl⟩;refine⟨_,U,l,_,U,.inl g,_,U,by lia,(by rw[Az];lia),?_⟩;rw[eN];refine Nq (n:=S.length) (λj σ H'=>H'=H5/\∃u:Option V,σ=[some (.ref l),some (.int c),some (.ref f),some (.int (0+(i:Int))),u]) ⟨U,_,U⟩ ?_ ?_
  ·rintro j σ H6 hj ⟨rfl,u,rfl⟩;refine⟨_,U,_,U,U,_,U,Ho (λne=>?_) (λ_=>⟨U,_,U⟩)⟩;have ei:(0:Int)+(i:Int)=(i:Int):=H_ _;have ej:(0:Int)+(j:Int)=(j:Int):=H_ _;have Y:j≠i:=λz=>ne (by rw[z]);obtain⟨p,hp,pm⟩:=(hm.same q).at hj;have b:S[i]?=some S[i]:=Cm hi;have E:S[j]?=some S[j]:=Cm hj;have gj:S.getD j (0,0,0)=S[j]:=by rw[Bp,E];rfl
   rw[gj]at pm;have mi:S[i]∈S:=Oa hi;have ld:=R.ld i (by rw[Az];exact hi);have off:=R.off j i (by rw[Az];exact hj) (by rw[Az];exact hi) Y;rw[Bp,Bp,Bu,Bu,b]at ld;rw[Bp,Bp,Bu,Bu,b,E]at off;have ld:CK (vec S[i]) (Ck S[i]):=ld;have off:bit (vec S[j]) (Ck S[i])=0:=off;have a7:=Rn ((ok _ mi).1.v6 c6) ld;have aj:Fg (qs.map V.ref) (0+(j:Int))=some (.ref p):=by rw[ej];exact J6 (by rw[Bu,hp];rfl)
   have ai:Fg ((Gn S).map V.int) (0+(i:Int))=some (.int ((Ck S[i]:Nat):Int)):=by rw[ei];exact J6 (by rw[Bu,Bu,b];rfl)
   have SP:Ai K H6 p (L3 S[j]):=Ai.of pm;refine⟨_,U,_,U,l,_,_,.ref p,U,U,g,aj,p,_,_,_,U,U,SP,U,_,U,_,U,l,_,_,.ref p,U,U,g,aj,p,_,_,_,U,U,SP,U,_,_,U,U,.inr ⟨by decide,by decide⟩,_,_,U,U,_,U,_,U,f,_,_,_,U,U,y,ai,_,_,U,U,⟨1,GQ,by lia,by lia⟩,_,_,U,U,⟨V2 (pp _),Vn (by lia)⟩,_,_,U,U,Ja,U,_,U,Lj (λz=>?_) (λ_=>⟨U,_,U⟩)⟩;rw[oX,oH,off]at z;cases z
  ·rintro σ H6 ⟨rfl,u,rfl⟩;exact⟨U,_,_,U⟩
 ·rintro σ H5 ⟨rfl,O,u,rfl⟩;exact kq _ q
end
end Ax
set_option maxRecDepth 10000
namespace K14
open L2 (Sz)
end K14
namespace pN
open L2 Am K14
end pN
namespace Ax
open L2 Am Pc Ba
noncomputable abbrev Zz:A5:=((0,0,0,0),0)
theorem X8y{n i:Nat}(h:i<n):Oe n (i:Int)=some i:=by
 unfold Oe;rw[if_pos (by lia),if_pos (by lia),FN]
def Bg:Gm->Prop
 | .mv (.cross _ _ _)=>False
 | .mv (.turn _ k)=>k%2=0
 | _=>True
variable{m:Gm}
theorem W7b(h1:m.nm≠"cross")(h2:m.nm≠"turn"):Bg m:=by
 cases m with
 | mix a=>trivial
 | mv v=>cases v<;>first | trivial | exact absurd rfl h1 | exact absurd rfl h2
def uL (K:U0):Sp:=λvs H Q _=>∃(a:W9) (ns:U6) (c:Nat),vs=[.ref a,.int c]/\Ag K H a (ns.map V.int)/\ns.length<=63/\1<=c/\c<=6 /\
 ∀(r:W9) (H':Hp) (rp:U3) (ms:List Gm),Same H H'->Rw H' r rp ms c->ms.length=ns.length->(∀m∈ms,Bg m)->Q (.ref r) H'
theorem X3t(h:m.nm="cross"):∃a b d,m=.mv (.cross a b d):=by
 cases m with
 | mix a=>exact absurd (show ("mix":Str)="cross" from h) (by decide +kernel)
 | mv v =>
  cases v with
  | cross a b d=>exact⟨a,b,d,rfl⟩
  | flip a=>exact absurd (show ("flip":Str)="cross" from h) (by decide +kernel)
  | turn a k=>exact absurd (show ("turn":Str)="cross" from h) (by decide +kernel)
  | iff a b=>exact absurd (show ("if":Str)="cross" from h) (by decide +kernel)
  | pair a b=>exact absurd (show ("pair":Str)="cross" from h) (by decide +kernel)
  | swap a b=>exact absurd (show ("swap":Str)="cross" from h) (by decide +kernel)
theorem X9k(h:m.nm="turn"):∃a k,m=.mv (.turn a k):=by
 cases m with
 | mix a=>exact absurd (show ("mix":Str)="turn" from h) (by decide +kernel)
 | mv v =>
  cases v with
  | turn a k=>exact⟨a,k,rfl⟩
  | flip a=>exact absurd (show ("flip":Str)="turn" from h) (by decide +kernel)
  | cross a b d=>exact absurd (show ("cross":Str)="turn" from h) (by decide +kernel)
  | iff a b=>exact absurd (show ("if":Str)="turn" from h) (by decide +kernel)
  | pair a b=>exact absurd (show ("pair":Str)="turn" from h) (by decide +kernel)
  | swap a b=>exact absurd (show ("swap":Str)="turn" from h) (by decide +kernel)
section
variable {P:U8}{w:W1}{K:U0}{mg:U4}{base:Heap}{k:Nat}{h:Heap}
theorem X2r(F:Ab K "_law_plain_row" (top 89) .none)(X:K.In h)(G:Ng h mg)(B:Bs mg)(dJ:Aj P w K mg base k "_law_move_by" ["_law_cell","_law_cells"] vU):Aj P w K mg base (k+1) "_law_plain_row" ["_law_numbers","_law_cells"] (uL K):=by
 refine F.cal X G ["_law_numbers","_law_cells","_law_row","_law_number","_law_move"] λo H vs Q E f h=>?_;obtain⟨a,ns,c,rfl,SA,a2,c1,c6,kq⟩:=h
 refine⟨_,(@Ay _ _ _ _ _ (@BX _ _ 2 _ _ _ _ o rfl (Or.inl rfl) (@Kh _ _ _ _ Ae) rfl (.inl rfl))
  (@Ay _ _ _ _ _ (Ge PassesOwn.never rfl (Ei (pv 0)) (Bb (i:=3) o rfl (Or.inl rfl))
   (@Ay _ _ _ _ _ (@BX _ _ 4 _ _ _ _ o rfl (Or.inl rfl) (BP dJ f rfl (Aa (pv 3) (Aa (pv 1) Ae))) rfl (.inl rfl))
   (@Cy _ _ _ _ _ (Bx (Bf Df (Ao BK (pv 4) Ad (λ_ _=>rfl)) Gb (Ac _))
    (@Ak _ _ _ (@BX _ _ 4 _ _ _ _ o rfl (Or.inl rfl) (@Cw _ _ _ _ _ (Aa Gb (Aa (Ao BK (pv 4) Ad (λ_ _=>rfl)) (Aa (Ao BK (pv 4) Ad (λ_ _=>rfl)) Ae)))) rfl (.inl rfl)))
    B_)
   (@Cy _ _ _ _ _ (Bx (Bf Df (Ao BK (pv 4) Ad (λ_ _=>rfl)) Gb (Ac _))
    (@Ak _ _ _ (@BX _ _ 4 _ _ _ _ o rfl (Or.inl rfl) (@Cw _ _ _ _ _ (Aa Gb (Aa (Ao BK (pv 4) Ad (λ_ _=>rfl)) (Aa (Af Ds Ad (Af G_ Ad (Af Cv (Af Ih (Ao BK (pv 4) Ad (λ_ _=>rfl)) Ad) Ad))) Ae)))) rfl (.inl rfl)))
    B_)
   (@Ak _ _ _ (Ni (Uw Tw Tz T_ Qx (pv 2) (Aa (pv 4) Ae))))))))
  (@Ak _ _ _ (BL (pv 2))))),?_⟩
 try dsimp only[CG]
 refine⟨Ed _,λj n=>?_⟩;have s0:=A_ n (.lst [])
 refine⟨_,U,a,U,⟨_,s0.seq SA⟩,LC (K:=K) (a:=a) (xs:=ns.map V.int) (λi σ H'=>Same H H'/\∃(l:U3) (ms:List Gm) (I v4:Option V),H' j=some (.lst (l.map V.ref))/\Jf H' l ms/\(∀m∈ms,m.Ok c)/\ms.length=i/\(∀m∈ms,Bg m)/\σ=[some (.ref a),some (.int c),some (.ref j),I,v4])
  ⟨s0,[],[],_,_,Ar,.nil,(by simp),U,(by simp),U⟩ (λi σ H' _ e=>e.1.seq SA) ?_ ?_⟩
 ·rintro i x σ H1 S ⟨N,l,ms,I,v4,C,s,u,p,T,rfl⟩;have il:i<ns.length:=by have:=(Fe.mp S).1;rw[Az]at this;exact this
  rw[Bu]at S;obtain⟨L,a0,rfl⟩:=Dt.mp S;refine⟨_,U,_,U,L,c,U,c1,c6,λr H2 nm R O f g=>?_⟩;obtain⟨m,b,e1,e2⟩:∃m:Gm,m.Ok c/\nm=m.nm/\R=m.ns:=by
   rcases g with ⟨rfl,a,ac,rfl⟩ | ⟨v,ok,rfl,rfl⟩
   ·exact⟨.mix a,ac,U,U⟩
   ·exact⟨.mv v,ok,U,U⟩
  subst e1 e2;have SP:Ai K H2 r (.str m.nm::m.ns.map V.int):=Ai.of f;refine⟨λσ H'=>Same H2 H'/\∃(r:W9) (m:Gm),H' r=some (aY m.nm m.ns)/\m.Ok c/\m.nm≠"cross"/\σ=[some (.ref a),some (.int c),some (.ref j),some (.int L),some (.ref r)],?_,?_⟩
  ·refine⟨_,U,r,_,_,.str m.nm,U,U,SP,at0,U,_,U,BJ (λz=>?_) (λz=>⟨Same.refl _,r,m,f,b,λe=>z (by rw[e]),U⟩)⟩;obtain⟨x,y,d,rfl⟩:=X3t (V.str.inj z);have b:x<c/\y<c/\d<c/\x≠y/\x≠d/\y≠d:=b;refine⟨_,U,r,_,_,.int x,U,U,SP,U,_,U,r,_,_,.int y,U,U,SP,U,t3,λt W=>⟨A_ W _,t,.mv (.swap x y),Ar,⟨b.1,b.2.1,b.2.2.2.1⟩,(by decide +kernel:("swap":Str)≠"cross"),U⟩⟩
  rintro σ H3 ⟨Y,r,m,f,b,nc,rfl⟩;have SP:Ai K H3 r (.str m.nm::m.ns.map V.int):=Ai.of f;refine⟨λσ H'=>Same H3 H'/\∃(r:W9) (m:Gm),H' r=some (aY m.nm m.ns)/\m.Ok c/\Bg m/\σ=[some (.ref a),some (.int c),some (.ref j),some (.int L),some (.ref r)],?_,?_⟩
  ·refine⟨_,U,r,_,_,.str m.nm,U,U,SP,at0,U,_,U,BJ (λz=>?_) (λz=>⟨Same.refl _,r,m,f,b,W7b nc λe=>z (by rw[e]),U⟩)⟩;obtain⟨x,kk,rfl⟩:=X9k (V.str.inj z);have b:x<c/\1<=kk/\kk<=7:=b;refine⟨_,U,r,_,_,.int x,U,U,SP,U,_,U,r,_,_,.int kk,U,U,SP,U,_,_,U,U,⟨by decide,by decide⟩,_,_,U,U,(by decide:(0:Int)<3),_,_,U,U,.inl ⟨by decide,by decide⟩,_,_,U,U,t3,λt W=>⟨A_ W _,t,.mv (.turn x (2+2*(kk / 2%3))),?_,⟨b.1,by lia,by lia⟩,(show (2+2*(kk / 2%3))%2=0 by lia),U⟩⟩;rw[Ar];show some (HO.tup [.str "turn",.int x,.int (2+2*((kk:Int) / 2%3))])=some (HO.tup [.str "turn",.int x,.int ((2+2*(kk / 2%3):Nat):Int)]);rw[show (2+2*((kk:Int) / 2%3))=((2+2*(kk / 2%3):Nat):Int) by lia]
  rintro σ H4 ⟨A,r,m,f,b,D,rfl⟩;have M:=((N.trans O).trans Y).trans A;have J:=A _ _ (Y _ _ (O _ _ C));refine⟨_,U,.inl ⟨U,_,Ag.of J⟩,_,U,j,_,_,U,U,J,(by rw[Az,s.length];exact Cu (show ms.length<64 by lia) (by decide)),?_⟩;refine⟨Dj M n,l++[r],ms++[m],_,_,(by rw[Ar,Ca];rfl),Jf.upd (Jf.snoc (((s.same O).same Y).same A) f) J,λy Z=>?_,by simp[p],λy Z=>?_,U⟩
  ·rcases DR.mp Z with q | q
   ·exact u y q
   ·rw[DK.mp q];exact b
  ·rcases DR.mp Z with q | q
   ·exact T y q
   ·rw[DK.mp q];exact D
 ·rintro σ H1 ⟨N,l,ms,I,v4,C,s,u,p,T,rfl⟩;rw[Az]at p;exact⟨_,U,kq j H1 l ms N ⟨C,s,u,by lia⟩ p T⟩
end
end Ax
namespace Fo
inductive Mv where
 | flip (a:Int)
 | mix (a:Int)
 | turn (a k:Int)
 | iff (a b:Int)
 | pair (a b:Int)
 | swap (a b:Int)
 | cross (a b d:Int)
deriving DecidableEq
namespace Mv
noncomputable def cells:Mv->List Int
 | flip a=>[a]
 | mix a=>[a]
 | turn a _=>[a]
 | iff a b=>[a,b]
 | pair a b=>[a,b]
 | swap a b=>[a,b]
 | cross a b d=>[a,b,d]
end Mv
open Mv
end Fo
set_option maxHeartbeats 1000000
namespace Eo
open Fo Fo.Mv
noncomputable def fl (w a:Nat):Nat:=w^^^2^a
noncomputable def sw (w a b:Nat):Nat:=if w.testBit a=w.testBit b then w else fl (fl w a) b
theorem Zw(w a j:Nat):(fl w a).testBit j=(w.testBit j ^^ decide (a=j)):=by
 unfold fl;rw[Mw,M4]
theorem YB(w a:Nat):fl (fl w a) a=w:=by
 unfold fl;rw[Fq,JQ,Ow]
theorem Rt(w a b j:Nat)(h:a≠b):(sw w a b).testBit j=if j=a then w.testBit b else if j=b then w.testBit a else w.testBit j:=by
 unfold sw;by_cases e:w.testBit a=w.testBit b
 ·rw[if_pos e];split
  ·rename_i z;rw[z,e]
  ·split
   ·rename_i z;rw[z,e]
   ·rfl
 ·rw[if_neg e,Zw,Zw];by_cases ja:j=a
  ·rw[if_pos ja,ja,Dr rfl,Dh (λz=>h z.symm)];revert e;cases w.testBit a<;>cases w.testBit b<;>simp
  ·rw[if_neg ja];by_cases jb:j=b
   ·rw[if_pos jb,jb,Dr (rfl:b=b),Dh h];revert e;cases w.testBit a<;>cases w.testBit b<;>simp
   ·rw[if_neg jb,Dh (λz=>ja z.symm),Dh (λz=>jb z.symm)];simp
theorem vp{w v:Nat}(h:∀j,w.testBit j=v.testBit j):w=v:=M5 h
def Ok:Mv->Prop
 | .flip a=>0<=a
 | mix a=>0<=a
 | turn a k=>0<=a/\1<=k/\k<=7
 | iff a b=>0<=a/\0<=b/\a≠b
 | pair a b=>0<=a/\0<=b/\a≠b
 | swap a b=>0<=a/\0<=b/\a≠b
 | cross a b d=>0<=a/\0<=b/\0<=d/\a≠b/\a≠d/\b≠d
theorem Ok.nn{m:Mv}(ok:Ok m):∀c∈m.cells,0<=c:=by
 cases m<;>simp only[Ok,cells]at*<;> simp<;>lia
end Eo
namespace C_
open Fo Fo.Mv Eo Pc
noncomputable def bn (b:Bool):Nat:=if b then 1 else 0
noncomputable def bp (x:Nat):Bool:=decide (pc x%2=1)
theorem ou(x y:Nat):bp (x^^^y)=(bp x ^^ bp y):=by
 unfold bp;have:=K1 x y;have c:pc (x^^^y)%2=(pc x%2+pc y%2)%2:=by lia
 rw[c];rcases Ka (pc x) with a | a<;>rcases Ka (pc y) with b | b<;>rw[a,b]<;>rfl
theorem Ry(a:Nat):pc (2^a)=1:=by
 induction a with
 | zero=>decide +kernel
 | succ n ih =>
  have b:(2:Nat)^(n+1)≠0:=Ms (Cq _);unfold pc;rw[dif_neg b,Mt,Nat.mul_mod_left,Nat.mul_div_cancel _ (by decide),ih]
theorem aA:bp 0=false:=by decide +kernel
theorem oh(s a:Nat):bp (2^a&&&s)=s.testBit a:=by
 have e:(2^a&&&s)=if s.testBit a then 2^a else 0:=by
  apply M5;intro j;rw[OJ,M4];by_cases h:a=j
  ·subst h;cases hb:s.testBit a<;>simp
  ·cases hb:s.testBit a<;>simp[h,M4]
 rw[e];cases s.testBit a
 ·exact aA
 ·show bp (2^a)=true;unfold bp;rw[Ry];rfl
theorem Qs(x s a:Nat):bp (fl x a&&&s)=(bp (x&&&s) ^^ s.testBit a):=by
 unfold fl;rw[Wd,ou,oh]
theorem Oi(x s a:Nat):bp (x&&&fl s a)=(bp (x&&&s) ^^ x.testBit a):=by
 rw[GX,Qs,GX s]
theorem W6y(x a b:Nat):bp (sw x a b)=bp x:=by
 unfold sw;split
 ·rfl
 ·unfold fl;rw[ou,ou];have h:∀j,bp (2^j)=true:=λj=>by unfold bp;rw[Ry];rfl
  rw[h,h];cases bp x<;>rfl
abbrev Mk:=Nat×Nat×Nat
noncomputable def Bm:Mv->Mk->Mk
 | .flip a,(k,f,s)=>(if s.testBit a.toNat then (k+2)%4 else k,f,s)
 | mix a,(k,f,s)=>(if f.testBit a.toNat && s.testBit a.toNat then (k+2)%4 else k,if f.testBit a.toNat=s.testBit a.toNat then f else fl f a.toNat,if f.testBit a.toNat=s.testBit a.toNat then s else fl s a.toNat)
 | turn a j,(k,f,s)=>if f.testBit a.toNat then ((k+j.toNat / 2)%4,f,if j.toNat%4=2 then fl s a.toNat else s) else (k,f,s)
 | iff a b,(k,f,s)=>(k,if f.testBit a.toNat then fl f b.toNat else f,if s.testBit b.toNat then fl s a.toNat else s)
 | pair a b,(k,f,s)=>(if f.testBit a.toNat && f.testBit b.toNat then (k+2)%4 else k,f,(if f.testBit b.toNat then fl (if f.testBit a.toNat then fl s b.toNat else s) a.toNat else if f.testBit a.toNat then fl s b.toNat else s))
 | swap a b,(k,f,s)=>(k,sw f a.toNat b.toNat,sw s a.toNat b.toNat)
 | _,m=>m
def Br:Mv->Prop
 | cross _ _ _=>False
 | turn _ j=>j.toNat%2=0
 | _=>True
theorem Np{w a b:Nat}(h:a≠b):(fl w b).testBit a=w.testBit a:=by
 rw[Zw,Dh (λz:b=a=>h z.symm)];cases w.testBit a<;>rfl
theorem Ur(w a:Nat):(fl w a).testBit a=!w.testBit a:=by
 rw[Zw];simp
noncomputable def Al:List Mv->Mk->Mk
 | [],m=>m
 | x::r,m=>Al r (Bm x m)
end C_
namespace Eo
open Fo Fo.Mv
theorem W5d{w a b:Nat}(n:a≠b):sw (sw w a b) a b=w:=by
 apply vp;intro j;rw[Rt _ _ _ _ n];by_cases ja:j=a
 ·rw[if_pos ja,Rt _ _ _ _ n,if_neg (λz=>n z.symm),if_pos rfl,ja]
 ·rw[if_neg ja];by_cases jb:j=b
  ·rw[if_pos jb,Rt _ _ _ _ n,if_pos rfl,jb]
  ·rw[if_neg jb,Rt _ _ _ _ n,if_neg ja,if_neg jb]
def Ej (c:Nat)(m:Mv):Prop:=Ok m/\∀x∈m.cells,x<(c:Int)
end Eo
set_option maxHeartbeats 4000000
namespace BZ
open L2 Ba Fo
open Ax (top Bs)
noncomputable def nm:Mv->Str
 | .flip _=>"flip"
 | .mix _=>"mix"
 | .turn _ _=>"turn"
 | .iff _ _=>"if"
 | .pair _ _=>"pair"
 | .swap _ _=>"swap"
 | .cross _ _ _=>"cross"
noncomputable def ns:Mv->List Int
 | .flip a=>[a]
 | .mix a=>[a]
 | .turn a k=>[a,k]
 | .iff a b=>[a,b]
 | .pair a b=>[a,b]
 | .swap a b=>[a,b]
 | .cross a b d=>[a,b,d]
noncomputable def hd:Mv->Int
 | .flip a=>a
 | .mix a=>a
 | .turn a _=>a
 | .iff a _=>a
 | .pair a _=>a
 | .swap a _=>a
 | .cross a _ _=>a
noncomputable def code:Mv->Nat
 | .flip _=>0
 | .mix _=>1
 | .turn _ _=>2
 | .iff _ _=>3
 | .pair _ _=>4
 | .swap _ _=>5
 | .cross _ _ _=>6
noncomputable def nms:List Str:=["flip","mix","turn","if","pair","swap","cross"]
theorem tE(m:Mv):nm m=nms.getD (code m) "":=by cases m<;>rfl
theorem X8f:∀i,i<7->∀j,j<7->nms.getD i ""=nms.getD j ""->i=j:=by decide +kernel
theorem X9t(m:Mv):code m<7:=by cases m<;>simp[code]
theorem zZ{x:Mv}{i:Nat}(hi:i<7):nm x=nms.getD i ""↔code x=i:=⟨λh=>X8f _ (X9t x) _ hi (by rw[<-tE,h]),λh=>by rw[tE,h]⟩
noncomputable abbrev mm (m:Mv):Mm:=(nm m,ns m)
theorem X8e(m:Mv):∃r,ns m=hd m::r:=by cases m<;>exact⟨_,U⟩
theorem Xb(m:Mv):Fg (.str (nm m)::(ns m).map V.int) 0=some (.str (nm m)):=L2.J6 (show (V.str (nm m)::(ns m).map V.int)[0]?=some _ from rfl)
theorem lE(m:Mv):Fg (.str (nm m)::(ns m).map V.int) 1=some (.int (hd m)):=by
 obtain⟨r,e⟩:=X8e m;rw[e];exact L2.J6 (show (V.str (nm m)::V.int (hd m)::r.map V.int)[1]?=some _ from rfl)
theorem X8z(m:Mv):nm m="turn"↔code m=2:=zZ (i:=2) (by decide)
theorem X3m(m:Mv):nm m="cross"↔code m=6:=zZ (i:=6) (by decide)
theorem Y6w(m:Mv):∃r,m.cells=hd m::r:=by cases m<;>exact⟨_,U⟩
theorem n_{H H':Hp}{l:W9}(s:Same H H')(h:H' l=none):H l=none:=by
 cases e:H l with
 | none=>rfl
 | some o=>rw[s _ _ e]at h;cases h
def Gi (H:Hp)(l:W9)(row:List Mv):Prop:=∃ps,H l=some (.lst (ps.map V.ref))/\Gh H ps (row.map mm)
theorem Gi.same{H H':Hp}{l:W9}{row:List Mv}(h:Gi H l row)(s:Same H H'):Gi H' l row:=by
 obtain⟨ps,a,b⟩:=h;exact⟨ps,s _ _ a,b.same s⟩
end BZ
namespace BZ
open L2 Ba Am Fo
open Ax (top Bs Gm U_ Mix)
open Eo (fl sw Ej)
noncomputable def e2 (a b w:Nat):Bool:=decide (a=b) || (decide (Ax.PX w a b=sw w a b) && (decide (w&&&(2^a ||| 2^b)=(2^a ||| 2^b)) == (w.testBit a && w.testBit b)))
theorem W4d:((List.range 6).all λa=>(List.range 6).all λb=>(List.range 64).all λw=>e2 a b w)=true:=by decide +kernel
variable{c w:Nat}
theorem bC(hc:c<=6)(hw:w<2^c):w<64:=Cu hw (Fw (by decide) hc:2^c<=2^6)
theorem zR{a b:Nat}(hc:c<=6)(ha:a<c)(hb:b<c)(n:a≠b)(hw:w<2^c):Ax.PX w a b=sw w a b/\(w&&&(2^a ||| 2^b)=(2^a ||| 2^b)↔(w.testBit a && w.testBit b)=true):=by
 have h:=Ax.K7 (Ax.K7 (Ax.K7 W4d (show a<6 by lia)) (show b<6 by lia)) (bC hc hw);unfold e2 at h;simp only[GF,RT,beq_iff_eq,Jk]at h;rcases h with h | ⟨h1,h2⟩
 ·exact absurd h n
 ·refine⟨h1,?_⟩;rw[<-h2];simp
noncomputable def gm:Mv->Gm
 | .flip a=>.mv (.flip a.toNat)
 | .mix a=>.mix a.toNat
 | .turn a k=>.mv (.turn a.toNat k.toNat)
 | .iff a b=>.mv (.iff a.toNat b.toNat)
 | .pair a b=>.mv (.pair a.toNat b.toNat)
 | .swap a b=>.mv (.swap a.toNat b.toNat)
 | .cross a b d=>.mv (.cross a.toNat b.toNat d.toNat)
theorem tn{a:Int}(h:0<=a):((a.toNat:Nat):Int)=a:=Int.toNat_of_nonneg h
theorem W6u{m:Mv}(o:Ej c m):(gm m).Ok c:=by
 obtain⟨o,x⟩:=o;cases m with
 | flip a=>have h:=x a (by simp[Mv.cells]);have o:0<=a:=o;show a.toNat<c;lia
 | mix a=>have h:=x a (by simp[Mv.cells]);have o:0<=a:=o;show a.toNat<c;lia
 | turn a k=>have h:=x a (by simp[Mv.cells]);have o:0<=a/\1<=k/\k<=7:=o;show a.toNat<c/\1<=k.toNat/\k.toNat<=7;lia
 | iff a b=>have h:=x a (by simp[Mv.cells]);have h2:=x b (by simp[Mv.cells]);have o:0<=a/\0<=b/\a≠b:=o;show a.toNat<c/\b.toNat<c/\a.toNat≠b.toNat;lia
 | pair a b=>have h:=x a (by simp[Mv.cells]);have h2:=x b (by simp[Mv.cells]);have o:0<=a/\0<=b/\a≠b:=o;show a.toNat<c/\b.toNat<c/\a.toNat≠b.toNat;lia
 | swap a b=>have h:=x a (by simp[Mv.cells]);have h2:=x b (by simp[Mv.cells]);have o:0<=a/\0<=b/\a≠b:=o;show a.toNat<c/\b.toNat<c/\a.toNat≠b.toNat;lia
 | cross a b d=>have h:=x a (by simp[Mv.cells]);have h2:=x b (by simp[Mv.cells]);have e:=x d (by simp[Mv.cells]);have o:0<=a/\0<=b/\0<=d/\a≠b/\a≠d/\b≠d:=o;show a.toNat<c/\b.toNat<c/\d.toNat<c/\a.toNat≠b.toNat/\a.toNat≠d.toNat/\b.toNat≠d.toNat;lia
end BZ
namespace BZ
open L2 Ba Am Pc Fo
open Ax (top Bs)
open Eo (fl sw Ej)
open C_ (Mk Bm Br)
noncomputable abbrev Gu (m:Mk):List V:=[.int (m.1:Nat),.int (m.2.1:Nat),.int (m.2.2:Nat)]
structure Kv (c:Nat) (m:Mk):Prop where
 k:m.1<4
 f:m.2.1<2^c
 s:m.2.2<2^c
theorem X9z(f a:Nat):(f&&&2^a)=if f.testBit a then 2^a else 0:=by
 apply M5;intro j;rw[OJ,M4];by_cases h:a=j
 ·subst h;cases hb:f.testBit a<;>simp
 ·cases hb:f.testBit a<;>simp[h,M4]
theorem tb(f a:Nat):(Builtin.bitAnd (f:Int) ((2^a:Nat):Int) != 0)=f.testBit a:=by
 rw[NT,X9z];cases f.testBit a
 ·rfl
 ·have b:=Cq a;have:((2^a:Nat):Int)≠0:=by lia
  exact bne_iff_ne.mpr this
theorem xb(f a:Nat):Builtin.bitXor (f:Int) ((2^a:Nat):Int)=((fl f a:Nat):Int):=Jo f (2^a)
noncomputable abbrev K3 (a f s:Nat):Nat:=if f.testBit a=s.testBit a then f else fl f a
noncomputable abbrev Lg (a f s:Nat):Nat:=if f.testBit a=s.testBit a then s else fl s a
noncomputable abbrev ZJ (f s b:Int):Int:=Builtin.bitOr (Builtin.bitAnd f (Builtin.bitNot b)) (Builtin.bitAnd s b)
noncomputable def Wh (a f s:Nat):Bool :=
 decide (ZJ f s ((2^a:Nat):Int)=(K3 a f s:Int)) && decide (ZJ s f ((2^a:Nat):Int)=(Lg a f s:Int)) &&
 decide (((K3 a f s).testBit a && (Lg a f s).testBit a)=(f.testBit a && s.testBit a))
theorem W2m:((List.range 6).all λa=>(List.range 64).all λf=>(List.range 64).all λs=>Wh a f s)=true:=by decide +kernel
variable{c a f:Nat}
theorem W5q{s:Nat}(hc:c<=6)(ha:a<c)(hf:f<2^c)(hs:s<2^c):ZJ f s ((2^a:Nat):Int)=(K3 a f s:Int)/\ZJ s f ((2^a:Nat):Int)=(Lg a f s:Int)/\((K3 a f s).testBit a && (Lg a f s).testBit a)=(f.testBit a && s.testBit a):=by
 have h:=Ax.K7 (Ax.K7 (Ax.K7 W2m (show a<6 by lia)) (bC hc hf)) (bC hc hs);unfold Wh at h;rw[GF,GF]at h;exact⟨JR h.1.1,JR h.1.2,JR h.2⟩
theorem tb2(f s a:Nat):(Builtin.bitAnd (Builtin.bitAnd (f:Int) (s:Int)) ((2^a:Nat):Int) != 0)=(f.testBit a && s.testBit a):=by
 rw[NT,tb,OJ]
theorem Og(hf:f<2^c)(ha:a<c):fl f a<2^c:=FP hf (Jl (by decide) ha)
theorem z_{b:Nat}(hf:f<2^c)(ha:a<c)(hb:b<c):sw f a b<2^c:=by
 unfold sw;split
 ·exact hf
 ·exact Og (Og hf ha) hb
theorem xZ{x:Mv}{m:Mk}(o:Ej c x)(h:Kv c m):Kv c (Bm x m):=by
 obtain⟨k,f,s⟩:=m;obtain⟨l,i,g⟩:=h;have ok:=W6u o;have p:∀n:Nat,n%4<4:=λn=>Eu _ (by decide);cases x with
 | flip a=>exact⟨by show (if _ then _ else _)<4;split;exact p _;exact l,i,g⟩
 | mix a =>
  have e:a.toNat<c:=ok;exact⟨by show (if _ then _ else _)<4;split;exact p _;exact l,by show (if _ then _ else _)<2^c;split;exact i;exact Og i e,by show (if _ then _ else _)<2^c;split;exact g;exact Og g e⟩
 | turn a j =>
  have e:a.toNat<c/\_:=ok;show Kv c (if _ then _ else _);split
  ·exact⟨p _,i,by show (if _ then _ else _)<2^c;split;exact Og g e.1;exact g⟩
  ·exact⟨l,i,g⟩
 | iff a b =>
  have e:a.toNat<c/\b.toNat<c/\_:=ok;exact⟨l,by show (if _ then _ else _)<2^c;split;exact Og i e.2.1;exact i,by show (if _ then _ else _)<2^c;split;exact Og g e.1;exact g⟩
 | pair a b =>
  have e:a.toNat<c/\b.toNat<c/\_:=ok;refine⟨by show (if _ then _ else _)<4;split;exact p _;exact l,i,?_⟩;show (if _ then _ else _)<2^c;split
  ·refine Og ?_ e.1;split
   ·exact Og g e.2.1
   ·exact g
  ·split
   ·exact Og g e.2.1
   ·exact g
 | swap a b =>
  have e:a.toNat<c/\b.toNat<c/\_:=ok;exact⟨l,z_ i e.1 e.2.1,z_ g e.1 e.2.1⟩
 | cross a b d=>exact⟨l,i,g⟩
abbrev TQ (K:U0)(H:Hp)(Q:VK)(m:Mk):Prop:=∀(r:W9) (H':Hp),Same H H'->H' r=some (.tup (Gu m))->Q (.ref r) H'
def ZV (K:U0):Sp:=λvs H Q _=>∃(p:W9) (m:Mk),vs=[.ref p]/\H p=some (.tup (Gu m))/\TQ K H Q ((m.1+2)%4,m.2.1,m.2.2)
def t_ (K:U0):Sp:=λvs H Q _=>∃(p:W9) (m:Mk) (c a:Nat),vs=[.ref p,.int ((2^a:Nat):Int)]/\H p=some (.tup (Gu m))/\Kv c m/\c<=6/\a<c/\TQ K H Q (Bm (.mix (a:Int)) m)
def vP (K:U0):Sp:=λvs H Q _=>∃(p:W9) (m:Mk) (a j:Nat),vs=[.ref p,.int ((2^a:Nat):Int),.int (j:Int)]/\H p=some (.tup (Gu m))/\TQ K H Q (Bm (.turn (a:Int) (j:Int)) m)
def Mj (K:U0):Sp:=λvs H Q _=>∃(p:W9) (m:Mk) (a b:Nat),vs=[.ref p,.int ((2^a:Nat):Int),.int ((2^b:Nat):Int)]/\H p=some (.tup (Gu m))/\TQ K H Q (Bm (.iff (a:Int) (b:Int)) m)
def vO (K:U0):Sp:=λvs H Q _=>∃(p:W9) (m:Mk) (a b:Nat),vs=[.ref p,.int ((2^a:Nat):Int),.int ((2^b:Nat):Int)]/\H p=some (.tup (Gu m))/\TQ K H Q (Bm (.pair (a:Int) (b:Int)) m)
variable{x y z:V}
theorem k0:Fg [x,y,z] 0=some x:=rfl
theorem k1:Fg [x,y,z] 1=some y:=rfl
theorem k2:Fg [x,y,z] 2=some z:=rfl
theorem su(a k f s:Nat):Bm (.mix (a:Int)) (k,f,s)=(if f.testBit a && s.testBit a then (k+2)%4 else k,K3 a f s,Lg a f s):=rfl
theorem X3e(a j k f s:Nat):Bm (.turn (a:Int) (j:Int)) (k,f,s)=if f.testBit a then ((k+j / 2)%4,f,if j%4=2 then fl s a else s) else (k,f,s):=rfl
theorem X8j(a b k f s:Nat):Bm (.iff (a:Int) (b:Int)) (k,f,s)=(k,if f.testBit a then fl f b else f,if s.testBit b then fl s a else s):=rfl
noncomputable abbrev Qj (a b f s:Nat):Nat:=if f.testBit b then fl (if f.testBit a then fl s b else s) a else if f.testBit a then fl s b else s
theorem X3f(a b k f s:Nat):Bm (.pair (a:Int) (b:Int)) (k,f,s)=(if f.testBit a && f.testBit b then (k+2)%4 else k,f,Qj a b f s):=rfl
section
variable {P:U8}{w:W1}{K:U0}{mg:U4}{base:Heap}{k:Nat}{h:Heap}
theorem X3c(F:Ab K "turned_about" (top 29) .none)(X:K.In h)(G:Ng h mg):Aj P w K mg base (k+1) "turned_about" ["mark"] (ZV K):=by
 refine F.cal X G ["mark"] λb H vs Q E a h=>?_;obtain⟨p,⟨k,f,s⟩,rfl,S,q⟩:=h;refine⟨_,(@Ak _ _ _ (BL (@Cw _ _ _ _ _ (Aa (Af Cv (Af Ds (Ao BK (pv 0) Ad (λ_ _=>rfl)) Ad) Ad) (Aa (Ao BK (pv 0) Ad (λ_ _=>rfl)) (Aa (Ao BK (pv 0) Ad (λ_ _=>rfl)) Ae)))))),?_⟩;try dsimp only[CG]
 refine⟨_,U,p,_,_,.int k,U,U,Ai.of S,k0,_,_,U,U,_,_,U,U,(by show (0:Int)<_;decide),_,U,p,_,_,.int f,U,U,Ai.of S,k1,_,U,p,_,_,.int s,U,U,Ai.of S,k2,t3,λr a=>q r _ (A_ a _) ?_⟩;rw[Ar];have e:((k:Int)+2)%4=(((k+2)%4:Nat):Int):=by lia
 show some (HO.tup [.int (((k:Int)+2)%4),.int f,.int s])=_;rw[e]
theorem X2y(F:Ab K "moved_by_mix" (top 76) .none)(X:K.In h)(G:Ng h mg)(cG:Aj P w K mg base k "turned_about" ["mark"] (ZV K)):Aj P w K mg base (k+1) "moved_by_mix" ["mark","bit"] (t_ K):=by
 refine F.cal X G ["mark","bit","flips","signs","moved"] λd H vs Q E l h=>?_;obtain⟨p,⟨k,f,s⟩,c,a,rfl,S,o,c6,m,q⟩:=h;obtain⟨n,e2,u⟩:=W5q (f:=f) (s:=s) c6 m o.f o.s
 refine⟨_,(@Cy _ _ _ _ _ (@BX _ _ 2 _ _ _ _ d rfl (Or.inl rfl) (Af Sx (Af Dv (Ao BK (pv 0) Ad (λ_ _=>rfl)) (Pg yQ (pv 1))) (Af Dv (Ao BK (pv 0) Ad (λ_ _=>rfl)) (pv 1))) rfl (.inl rfl))
  (@Cy _ _ _ _ _ (@BX _ _ 3 _ _ _ _ d rfl (Or.inl rfl) (Af Sx (Af Dv (Ao BK (pv 0) Ad (λ_ _=>rfl)) (Pg yQ (pv 1))) (Af Dv (Ao BK (pv 0) Ad (λ_ _=>rfl)) (pv 1))) rfl (.inl rfl))
  (@Ay _ _ _ _ _ (@BX _ _ 4 _ _ _ _ d rfl (Or.inl rfl) (@Cw _ _ _ _ _ (Aa (Ao BK (pv 0) Ad (λ_ _=>rfl)) (Aa (pv 2) (Aa (pv 3) Ae)))) rfl (.inl rfl))
  (@Ak _ _ _ (BL (Px (Nj (Af Dv (Af Dv (pv 2) (pv 3)) (pv 1)) (by intro _;rfl)) (BP cG l rfl (Aa (pv 4) Ae)) (pv 4))))))),?_⟩
 try dsimp only[CG]
 refine⟨λb H'=>H=H'/\b=[some (.ref p),some (.int ((2^a:Nat):Int)),some (.int (K3 a f s:Nat)),none,none],?_,?_⟩
 ·exact⟨_,U,p,_,_,.int f,U,U,Ai.of S,k1,_,U,_,U,_,_,U,U,_,U,p,_,_,.int s,U,U,Ai.of S,k2,_,U,_,_,U,U,_,_,U,U,U,by rw[<-n];rfl⟩
 rintro b _ ⟨rfl,rfl⟩;refine⟨λb H'=>H=H'/\b=[some (.ref p),some (.int ((2^a:Nat):Int)),some (.int (K3 a f s:Nat)),some (.int (Lg a f s:Nat)),none],?_,?_⟩
 ·exact⟨_,U,p,_,_,.int s,U,U,Ai.of S,k2,_,U,_,U,_,_,U,U,_,U,p,_,_,.int f,U,U,Ai.of S,k1,_,U,_,_,U,U,_,_,U,U,U,by rw[<-e2];rfl⟩
 rintro b _ ⟨rfl,rfl⟩;refine⟨_,U,p,_,_,.int k,U,U,Ai.of S,k0,_,U,_,U,t3,λt j=>?_⟩;have e:=A_ j (.tup (Gu (k,K3 a f s,Lg a f s)));have g:upd H t (.tup (Gu (k,K3 a f s,Lg a f s))) t=some (.tup (Gu (k,K3 a f s,Lg a f s))):=Ar;refine⟨_,U,_,U,_,_,U,U,_,U,_,_,U,U,_,U,?_⟩;rw[tb2,u];refine Gw (λz=>?_) (λz=>?_)
 ·refine⟨_,U,t,(k,K3 a f s,Lg a f s),U,g,λr H2 i h2=>q r H2 (e.trans i) ?_⟩;have:Bm (.mix (a:Int)) (k,f,s)=((k+2)%4,K3 a f s,Lg a f s):=by
   rw[su,if_pos z]
  rw[this];exact h2
 ·refine⟨_,U,q t _ e ?_⟩;have:Bm (.mix (a:Int)) (k,f,s)=(k,K3 a f s,Lg a f s):=by
   rw[su,if_neg (by rw[z];decide)]
  rw[this];exact g
theorem Y9e(F:Ab K "moved_by_turn" (top 77) .none)(X:K.In h)(G:Ng h mg):Aj P w K mg base (k+1) "moved_by_turn" ["mark","bit","k"] (vP K):=by
 refine F.cal X G ["mark","bit","k","signs"] λd H vs Q E c h=>?_;obtain⟨p,⟨k,f,s⟩,a,j,rfl,S,q⟩:=h
 refine⟨_,(@Ay _ _ _ _ _ (Bx (Eh (Nj (Af Dv (Ao BK (pv 0) Ad (λ_ _=>rfl)) (pv 1)) (by intro _;rfl)))
   (@Ak _ _ _ (BL (pv 0)))
   B_)
  (@Cy _ _ _ _ _ (@BX _ _ 3 _ _ _ _ d rfl (Or.inl rfl) (Px (Bf Df (Af Cv (pv 2) Ad) Ad (Ac _)) (Af JK (Ao BK (pv 0) Ad (λ_ _=>rfl)) (pv 1)) (Ao BK (pv 0) Ad (λ_ _=>rfl))) rfl (.inl rfl))
  (@Ak _ _ _ (BL (@Cw _ _ _ _ _ (Aa (Af Cv (Af Ds (Ao BK (pv 0) Ad (λ_ _=>rfl)) (Af Ih (pv 2) Ad)) Ad) (Aa (Ao BK (pv 0) Ad (λ_ _=>rfl)) (Aa (pv 3) Ae)))))))),?_⟩
 try dsimp only[CG]
 refine⟨_,U,p,_,_,.int f,U,U,Ai.of S,k1,_,U,_,_,U,U,_,U,?_⟩;rw[tb];rw[X3e]at q;refine JV (λz=>?_) (λz=>?_)
 ·rw[if_neg (by rw[z];decide)]at q;exact⟨_,U,q p H (Same.refl _) S⟩
 rw[if_pos z]at q;refine⟨λb H'=>H=H'/\b=[some (.ref p),some (.int ((2^a:Nat):Int)),some (.int (j:Int)),some (.int ((if j%4=2 then fl s a else s:Nat):Int))],?_,?_⟩
 ·refine⟨_,U,_,_,U,U,(by show (0:Int)<_;decide),U,_,U,Lj (λy=>?_) (λy=>?_)⟩
  ·exact⟨_,U,p,_,_,.int s,U,U,Ai.of S,k2,_,U,_,_,U,U,U,by rw[if_pos (by lia),<-xb];rfl⟩
  ·exact⟨_,U,p,_,_,.int s,U,U,Ai.of S,k2,U,by rw[if_neg (by lia)];rfl⟩
 rintro b _ ⟨rfl,rfl⟩;refine⟨_,U,p,_,_,.int k,U,U,Ai.of S,k0,_,U,_,_,U,U,⟨by decide,by decide⟩,_,_,U,U,_,_,U,U,(by show (0:Int)<_;decide),_,U,p,_,_,.int f,U,U,Ai.of S,k1,_,U,t3,λr c=>q r _ (A_ c _) ?_⟩;rw[Ar];have e:((k:Int)+(j:Int) / 2)%4=(((k+j / 2)%4:Nat):Int):=by lia
 show some (HO.tup [.int (((k:Int)+(j:Int) / 2)%4),.int f,.int ((if j%4=2 then fl s a else s:Nat):Int)])=_;rw[e]
theorem X8a(F:Ab K "moved_by_if" (top 78) .none)(X:K.In h)(G:Ng h mg):Aj P w K mg base (k+1) "moved_by_if" ["mark","bit","other"] (Mj K):=by
 refine F.cal X G ["mark","bit","other","flips","signs"] λe H vs Q E d h=>?_;obtain⟨p,⟨k,f,s⟩,a,b,rfl,S,q⟩:=h;rw[X8j]at q
 refine⟨_,(@Cy _ _ _ _ _ (@BX _ _ 3 _ _ _ _ e rfl (Or.inl rfl) (Px (Nj (Af Dv (Ao BK (pv 0) Ad (λ_ _=>rfl)) (pv 1)) (by intro _;rfl)) (Af JK (Ao BK (pv 0) Ad (λ_ _=>rfl)) (pv 2)) (Ao BK (pv 0) Ad (λ_ _=>rfl))) rfl (.inl rfl))
  (@Cy _ _ _ _ _ (@BX _ _ 4 _ _ _ _ e rfl (Or.inl rfl) (Px (Nj (Af Dv (Ao BK (pv 0) Ad (λ_ _=>rfl)) (pv 2)) (by intro _;rfl)) (Af JK (Ao BK (pv 0) Ad (λ_ _=>rfl)) (pv 1)) (Ao BK (pv 0) Ad (λ_ _=>rfl))) rfl (.inl rfl))
  (@Ak _ _ _ (BL (@Cw _ _ _ _ _ (Aa (Ao BK (pv 0) Ad (λ_ _=>rfl)) (Aa (pv 3) (Aa (pv 4) Ae)))))))),?_⟩
 try dsimp only[CG]
 refine⟨λc H'=>H=H'/\c=[some (.ref p),some (.int ((2^a:Nat):Int)),some (.int ((2^b:Nat):Int)),some (.int ((if f.testBit a then fl f b else f:Nat):Int)),none],?_,?_⟩
 ·refine⟨_,U,p,_,_,.int f,U,U,Ai.of S,k1,_,U,_,_,U,U,_,U,?_⟩;rw[tb];refine Gw (λz=>?_) (λz=>?_)
  ·exact⟨_,U,p,_,_,.int f,U,U,Ai.of S,k1,_,U,_,_,U,U,U,by rw[if_pos z,<-xb];rfl⟩
  ·exact⟨_,U,p,_,_,.int f,U,U,Ai.of S,k1,U,by rw[if_neg (by rw[z];decide)];rfl⟩
 rintro c _ ⟨rfl,rfl⟩;refine⟨λc H'=>H=H'/\c=[some (.ref p),some (.int ((2^a:Nat):Int)),some (.int ((2^b:Nat):Int)),some (.int ((if f.testBit a then fl f b else f:Nat):Int)),some (.int ((if s.testBit b then fl s a else s:Nat):Int))],?_,?_⟩
 ·refine⟨_,U,p,_,_,.int s,U,U,Ai.of S,k2,_,U,_,_,U,U,_,U,?_⟩;rw[tb];refine Gw (λz=>?_) (λz=>?_)
  ·exact⟨_,U,p,_,_,.int s,U,U,Ai.of S,k2,_,U,_,_,U,U,U,by rw[if_pos z,<-xb];rfl⟩
  ·exact⟨_,U,p,_,_,.int s,U,U,Ai.of S,k2,U,by rw[if_neg (show ¬ s.testBit b=true by rw[z];decide)];rfl⟩
 rintro c _ ⟨rfl,rfl⟩;exact⟨_,U,p,_,_,.int k,U,U,Ai.of S,k0,_,U,_,U,t3,λr d=>q r _ (A_ d _) Ar⟩
theorem Y9f(F:Ab K "moved_by_pair" (top 79) .none)(X:K.In h)(G:Ng h mg)(cG:Aj P w K mg base k "turned_about" ["mark"] (ZV K)):Aj P w K mg base (k+1) "moved_by_pair" ["mark","bit","other"] (vO K):=by
 refine F.cal X G ["mark","bit","other","signs","moved"] λe H vs Q E m h=>?_;obtain⟨p,⟨k,f,s⟩,a,b,rfl,S,q⟩:=h;rw[X3f]at q
 refine⟨_,(@Ay _ _ _ _ _ (@BX _ _ 3 _ _ _ _ e rfl (Or.inl rfl) (Ao BK (pv 0) Ad (λ_ _=>rfl)) rfl (.inl rfl))
  (@Cy _ _ _ _ _ (Bx (Nj (Af Dv (Ao BK (pv 0) Ad (λ_ _=>rfl)) (pv 1)) (by intro _;rfl))
   (@Ak _ _ _ (@BX _ _ 3 _ _ _ _ e rfl (Or.inl rfl) (Af JK (pv 3) (pv 2)) rfl (.inl rfl)))
   B_)
  (@Cy _ _ _ _ _ (Bx (Nj (Af Dv (Ao BK (pv 0) Ad (λ_ _=>rfl)) (pv 2)) (by intro _;rfl))
   (@Ak _ _ _ (@BX _ _ 3 _ _ _ _ e rfl (Or.inl rfl) (Af JK (pv 3) (pv 1)) rfl (.inl rfl)))
   B_)
  (@Ay _ _ _ _ _ (@BX _ _ 4 _ _ _ _ e rfl (Or.inl rfl) (@Cw _ _ _ _ _ (Aa (Ao BK (pv 0) Ad (λ_ _=>rfl)) (Aa (Ao BK (pv 0) Ad (λ_ _=>rfl)) (Aa (pv 3) Ae)))) rfl (.inl rfl))
  (@Ak _ _ _ (BL (Px (PW.pt (Oh (Nj (Af Dv (Ao BK (pv 0) Ad (λ_ _=>rfl)) (pv 1)) (by intro _;rfl)) (Ol (Nj (Af Dv (Ao BK (pv 0) Ad (λ_ _=>rfl)) (pv 2)) (by intro _;rfl))))) (BP cG m rfl (Aa (pv 4) Ae)) (pv 4)))))))),?_⟩
 try dsimp only[CG]
 refine⟨_,U,p,_,_,.int s,U,U,Ai.of S,k2,?_⟩;refine⟨λc H'=>H=H'/\c=[some (.ref p),some (.int ((2^a:Nat):Int)),some (.int ((2^b:Nat):Int)),some (.int ((if f.testBit a then fl s b else s:Nat):Int)),none],?_,?_⟩
 ·refine⟨_,U,p,_,_,.int f,U,U,Ai.of S,k1,_,U,_,_,U,U,_,U,?_⟩;rw[tb];refine Gw (λz=>?_) (λz=>?_)
  ·exact⟨_,U,_,U,_,_,U,U,U,by rw[if_pos z,<-xb];rfl⟩
  ·exact⟨U,by rw[if_neg (by rw[z];decide)];rfl⟩
 rintro c _ ⟨rfl,rfl⟩;refine⟨λc H'=>H=H'/\c=[some (.ref p),some (.int ((2^a:Nat):Int)),some (.int ((2^b:Nat):Int)),some (.int (Qj a b f s:Nat)),none],?_,?_⟩
 ·refine⟨_,U,p,_,_,.int f,U,U,Ai.of S,k1,_,U,_,_,U,U,_,U,?_⟩;rw[tb];refine Gw (λz=>?_) (λz=>?_)
  ·exact⟨_,U,_,U,_,_,U,U,U,by rw[Qj,if_pos z,<-xb];rfl⟩
  ·exact⟨U,by rw[Qj,if_neg (show ¬ f.testBit b=true by rw[z];decide)]⟩
 rintro c _ ⟨rfl,rfl⟩;refine⟨_,U,p,_,_,.int k,U,U,Ai.of S,k0,_,U,p,_,_,.int f,U,U,Ai.of S,k1,_,U,t3,λt l=>?_⟩;have d:=A_ l (.tup (Gu (k,f,Qj a b f s)));have g:upd H t (.tup (Gu (k,f,Qj a b f s))) t=some (.tup (Gu (k,f,Qj a b f s))):=Ar;have i:Ai K _ p (Gu (k,f,s)):=Ai.of (d _ _ S);refine⟨_,U,p,_,_,.int f,U,U,i,k1,_,U,_,_,U,U,_,U,?_⟩;rw[tb];refine Gw (λz=>?_) (λz=>?_)
 ·refine⟨_,U,p,_,_,.int f,U,U,i,k1,_,U,_,_,U,U,_,U,?_⟩;rw[tb];refine Gw (λy=>?_) (λy=>?_)
  ·rw[if_pos (by rw[z,y];rfl)]at q;exact⟨_,U,t,(k,f,Qj a b f s),U,g,λr H2 j h2=>q r H2 (d.trans j) h2⟩
  ·rw[if_neg (by rw[z,y];decide)]at q;exact⟨_,U,q t _ d g⟩
 ·rw[if_neg (by rw[z];simp)]at q;exact CQ ⟨_,U,q t _ d g⟩
end
end BZ
namespace BZ
open L2 Ba Am Pc Fo
open Ax (top Bs Jv)
open Eo (fl sw Ej)
open C_ (Mk Bm Al Br)
def wY (K:U0):Sp:=λvs H Q _=>∃(p q:W9) (m:Mk) (x:Mv) (c:Nat),vs=[.ref p,.ref q]/\H p=some (.tup (Gu m))/\H q=some (mT (mm x))/\Kv c m/\c<=6/\Ej c x/\Br x/\TQ K H Q (Bm x m)
def wZ (K:U0):Sp:=λvs H Q _=>∃(p l:W9) (m:Mk) (row:List Mv) (c:Nat),vs=[.ref p,.ref l]/\H p=some (.tup (Gu m))/\Gi H l row/\Kv c m/\c<=6/\(∀x∈row,Ej c x)/\(∀x∈row,Br x)/\row.length<=200/\TQ K H Q (Al row m)
theorem at0{x:V}{xs:List V}:Fg (x::xs) 0=some x:=L2.J6 (j:=0) rfl
theorem X1x{a:Int}(h0:0<=a):(1:Int)*2^a.toNat=((2^a.toNat:Nat):Int):=by simp
theorem X3g(a k f s:Nat):Bm (.flip (a:Int)) (k,f,s)=(if s.testBit a then (k+2)%4 else k,f,s):=rfl
theorem Pu:∀(r t:List Mv) (m:Mk),Al (r++t) m=Al t (Al r m)
 | [],_,_=>rfl
 | x::r,t,m=>Pu r t (Bm x m)
theorem sy{c:Nat}:∀{row:List Mv}{m:Mk},(∀x∈row,Ej c x)->Kv c m->Kv c (Al row m)
 | [],_,_,h=>h
 | x::r,m,o,h=>sy (row:=r) (λy a=>o y (.tail _ a)) (xZ (o x (.head _)) h)
theorem lJ{H:Hp}:∀{ps:U3}{ms:List Mm},Gh H ps ms->ps.length=ms.length
 | [],[],.nil=>rfl
 | _::_,_::_,.cons _ r=>by rw[Ob,Ob,lJ r]
theorem lH{H:Hp}:∀{ps:U3}{row:List Mv}{i:Nat}{p:W9},Gh H ps (row.map mm)->ps[i]?=some p->∃m,row[i]?=some m/\H p=some (mT (mm m))
 | p'::ps,m::ms,0,p,.cons a r,h=>by
  have:p'=p:=by simpa using h
  subst this;exact⟨m,U,a⟩
 | p'::ps,m::ms,i+1,p,.cons a r,h=>by
  obtain⟨m',b,c⟩:=lH (ps:=ps) (row:=ms) (i:=i) (p:=p) r (by simpa using h);exact⟨m',b,c⟩
section
variable {P:U8}{w:W1}{K:U0}{mg:U4}{base:Heap}{k:Nat}{h:Heap}
theorem Y6k(F:Ab K "moved_by" (top 75) .none)(X:K.In h)(G:Ng h mg)(cG:Aj P w K mg base k "turned_about" ["mark"] (ZV K))(dO:Aj P w K mg base k "moved_by_mix" ["mark","bit"] (t_ K))(dF:Aj P w K mg base k "moved_by_turn" ["mark","bit","k"] (vP K))
  (dU:Aj P w K mg base k "moved_by_if" ["mark","bit","other"] (Mj K)) (dE:Aj P w K mg base k "moved_by_pair" ["mark","bit","other"] (vO K)) (cY:Aj P w K mg base k "exchanged" ["word","bit","other"] Jv):Aj P w K mg base (k+1) "moved_by" ["mark","move"] (wY K):=by
 refine F.cal X G ["mark","move","bit","other"] λy H vs Q E m h=>?_;obtain⟨p,q,⟨k,f,s⟩,x,c,rfl,S,B,o,c6,ok,D,l⟩:=h;have SP:Ai K H q (.str (nm x)::(ns x).map V.int):=Ai.of B;obtain⟨g0,g1⟩:0<=hd x/\hd x<(c:Int):=by
  obtain⟨r,e⟩:=Y6w x;have hm:hd x∈x.cells:=by rw[e];exact .head _
  exact⟨ok.1.nn _ hm,ok.2 _ hm⟩
 refine⟨_,(@Cy _ _ _ _ _ (@BX _ _ 2 _ _ _ _ y rfl (Or.inl rfl) (Af Gf Ad (Ao BK (pv 1) Ad (λ_ _=>rfl))) rfl (.inl rfl))
  (@Ay _ _ _ _ _ (Bx (Bf Df (Ao BK (pv 1) Ad (λ_ _=>rfl)) Gb (Ac _))
   (@Ak _ _ _ (BL (Px (Nj (Af Dv (Ao BK (pv 0) Ad (λ_ _=>rfl)) (pv 2)) (by intro _;rfl)) (BP cG m rfl (Aa (pv 0) Ae)) (pv 0))))
   B_)
  (@Ay _ _ _ _ _ (Bx (Bf Df (Ao BK (pv 1) Ad (λ_ _=>rfl)) Gb (Ac _))
   (@Ak _ _ _ (BL (BP dO m rfl (Aa (pv 0) (Aa (pv 2) Ae)))))
   B_)
  (@Ay _ _ _ _ _ (Bx (Bf Df (Ao BK (pv 1) Ad (λ_ _=>rfl)) Gb (Ac _))
   (@Ak _ _ _ (BL (BP dF m rfl (Aa (pv 0) (Aa (pv 2) (Aa (Ao BK (pv 1) Ad (λ_ _=>rfl)) Ae))))))
   B_)
  (@Cy _ _ _ _ _ (@BX _ _ 3 _ _ _ _ y rfl (Or.inl rfl) (Af Gf Ad (Ao BK (pv 1) Ad (λ_ _=>rfl))) rfl (.inl rfl))
  (@Ay _ _ _ _ _ (Bx (Bf Df (Ao BK (pv 1) Ad (λ_ _=>rfl)) Gb (Ac _))
   (@Ak _ _ _ (BL (BP dU m rfl (Aa (pv 0) (Aa (pv 2) (Aa (pv 3) Ae))))))
   B_)
  (@Ay _ _ _ _ _ (Bx (Bf Df (Ao BK (pv 1) Ad (λ_ _=>rfl)) Gb (Ac _))
   (@Ak _ _ _ (BL (BP dE m rfl (Aa (pv 0) (Aa (pv 2) (Aa (pv 3) Ae))))))
   B_)
  (@Ak _ _ _ (BL (@Cw _ _ _ _ _ (Aa (Ao BK (pv 0) Ad (λ_ _=>rfl)) (Aa (BP cY m rfl (Aa (Ao BK (pv 0) Ad (λ_ _=>rfl)) (Aa (pv 2) (Aa (pv 3) Ae)))) (Aa (BP cY m rfl (Aa (Ao BK (pv 0) Ad (λ_ _=>rfl)) (Aa (pv 2) (Aa (pv 3) Ae)))) Ae))))))))))))),?_⟩
 try dsimp only[CG]
 refine⟨λi H'=>H=H'/\i=[some (.ref p),some (.ref q),some (.int ((2^(hd x).toNat:Nat):Int)),none],?_,?_⟩
 ·exact⟨_,U,q,_,_,.int (hd x),U,U,SP,lE x,_,_,U,U,⟨1,GQ,by lia,by lia⟩,U,by rw[<-X1x g0];rfl⟩
 rintro i _ ⟨rfl,rfl⟩;cases x with
 | flip a =>
  obtain⟨A,rfl⟩:∃A:Nat,a=(A:Int):=⟨a.toNat,(tn g0).symm⟩;rw[X3g]at l;refine⟨_,U,q,_,_,.str "flip",U,U,SP,at0,U,_,U,BJ (λ_=>?_) (λz=>absurd rfl z)⟩;refine⟨_,U,p,_,_,.int s,U,U,Ai.of S,k2,_,U,_,_,U,U,_,U,?_⟩;show (if (Builtin.bitAnd (s:Int) ((2^A:Nat):Int) != 0)=true then _ else _);rw[tb];refine Gw (λz=>?_) (λz=>?_)
  ·rw[if_pos z]at l;exact⟨_,U,p,(k,f,s),U,S,l⟩
  ·rw[if_neg (by rw[z];decide)]at l;exact⟨_,U,l p H (Same.refl _) S⟩
 | mix a =>
  obtain⟨A,rfl⟩:∃A:Nat,a=(A:Int):=⟨a.toNat,(tn g0).symm⟩;refine⟨_,U,q,_,_,.str "mix",U,U,SP,at0,U,_,U,BJ (λz=>absurd (V.str.inj z) (by decide)) (λ_=>?_)⟩;refine⟨_,U,q,_,_,.str "mix",U,U,SP,at0,U,_,U,BJ (λ_=>?_) (λz=>absurd rfl z)⟩;exact⟨_,U,_,U,p,(k,f,s),c,A,U,S,o,c6,by have:(A:Int)<c:=g1;lia,l⟩
 | turn a j =>
  have g:0<=a/\1<=j/\j<=7:=ok.1;obtain⟨A,rfl⟩:∃A:Nat,a=(A:Int):=⟨a.toNat,(tn g0).symm⟩;obtain⟨J,rfl⟩:∃J:Nat,j=(J:Int):=⟨j.toNat,(tn (by lia)).symm⟩;refine⟨_,U,q,_,_,.str "turn",U,U,SP,at0,U,_,U,BJ (λz=>absurd (V.str.inj z) (by decide)) (λ_=>?_)⟩;refine⟨_,U,q,_,_,.str "turn",U,U,SP,at0,U,_,U,BJ (λz=>absurd (V.str.inj z) (by decide)) (λ_=>?_)⟩;refine⟨_,U,q,_,_,.str "turn",U,U,SP,at0,U,_,U,BJ (λ_=>?_) (λz=>absurd rfl z)⟩;exact⟨_,U,_,U,_,U,q,_,_,.int J,U,U,SP,k2,p,(k,f,s),A,J,U,S,l⟩
 | iff a b =>
  have g:0<=a/\0<=b/\a≠b:=ok.1;have hb:b<(c:Int):=ok.2 b (by simp[Mv.cells]);obtain⟨A,rfl⟩:∃A:Nat,a=(A:Int):=⟨a.toNat,(tn g0).symm⟩;obtain⟨J,rfl⟩:∃J:Nat,b=(J:Int):=⟨b.toNat,(tn g.2.1).symm⟩;refine⟨_,U,q,_,_,.str "if",U,U,SP,at0,U,_,U,BJ (λz=>absurd (V.str.inj z) (by decide)) (λ_=>?_)⟩;refine⟨_,U,q,_,_,.str "if",U,U,SP,at0,U,_,U,BJ (λz=>absurd (V.str.inj z) (by decide)) (λ_=>?_)⟩;refine⟨_,U,q,_,_,.str "if",U,U,SP,at0,U,_,U,BJ (λz=>absurd (V.str.inj z) (by decide)) (λ_=>?_)⟩;refine⟨λi H'=>H=H'/\i=[some (.ref p),some (.ref q),some (.int ((2^A:Nat):Int)),some (.int ((2^J:Nat):Int))],?_,?_⟩
  ·exact⟨_,U,q,_,_,.int J,U,U,SP,k2,_,_,U,U,⟨1,GQ,by lia,by lia⟩,U,by rw[<-ipow J];rfl⟩
  rintro i _ ⟨rfl,rfl⟩;refine⟨_,U,q,_,_,.str "if",U,U,SP,at0,U,_,U,BJ (λ_=>?_) (λz=>absurd rfl z)⟩;exact⟨_,U,_,U,_,U,p,(k,f,s),A,J,U,S,l⟩
 | pair a b =>
  have g:0<=a/\0<=b/\a≠b:=ok.1;have hb:b<(c:Int):=ok.2 b (by simp[Mv.cells]);obtain⟨A,rfl⟩:∃A:Nat,a=(A:Int):=⟨a.toNat,(tn g0).symm⟩;obtain⟨J,rfl⟩:∃J:Nat,b=(J:Int):=⟨b.toNat,(tn g.2.1).symm⟩;refine⟨_,U,q,_,_,.str "pair",U,U,SP,at0,U,_,U,BJ (λz=>absurd (V.str.inj z) (by decide)) (λ_=>?_)⟩;refine⟨_,U,q,_,_,.str "pair",U,U,SP,at0,U,_,U,BJ (λz=>absurd (V.str.inj z) (by decide)) (λ_=>?_)⟩;refine⟨_,U,q,_,_,.str "pair",U,U,SP,at0,U,_,U,BJ (λz=>absurd (V.str.inj z) (by decide)) (λ_=>?_)⟩;refine⟨λi H'=>H=H'/\i=[some (.ref p),some (.ref q),some (.int ((2^A:Nat):Int)),some (.int ((2^J:Nat):Int))],?_,?_⟩
  ·exact⟨_,U,q,_,_,.int J,U,U,SP,k2,_,_,U,U,⟨1,GQ,by lia,by lia⟩,U,by rw[<-ipow J];rfl⟩
  rintro i _ ⟨rfl,rfl⟩;refine⟨_,U,q,_,_,.str "pair",U,U,SP,at0,U,_,U,BJ (λz=>absurd (V.str.inj z) (by decide)) (λ_=>?_)⟩;refine⟨_,U,q,_,_,.str "pair",U,U,SP,at0,U,_,U,BJ (λ_=>?_) (λz=>absurd rfl z)⟩;exact⟨_,U,_,U,_,U,p,(k,f,s),A,J,U,S,l⟩
 | swap a b =>
  have g:0<=a/\0<=b/\a≠b:=ok.1;have hb:b<(c:Int):=ok.2 b (by simp[Mv.cells]);obtain⟨A,rfl⟩:∃A:Nat,a=(A:Int):=⟨a.toNat,(tn g0).symm⟩;obtain⟨J,rfl⟩:∃J:Nat,b=(J:Int):=⟨b.toNat,(tn g.2.1).symm⟩;refine⟨_,U,q,_,_,.str "swap",U,U,SP,at0,U,_,U,BJ (λz=>absurd (V.str.inj z) (by decide)) (λ_=>?_)⟩;refine⟨_,U,q,_,_,.str "swap",U,U,SP,at0,U,_,U,BJ (λz=>absurd (V.str.inj z) (by decide)) (λ_=>?_)⟩;refine⟨_,U,q,_,_,.str "swap",U,U,SP,at0,U,_,U,BJ (λz=>absurd (V.str.inj z) (by decide)) (λ_=>?_)⟩;refine⟨λi H'=>H=H'/\i=[some (.ref p),some (.ref q),some (.int ((2^A:Nat):Int)),some (.int ((2^J:Nat):Int))],?_,?_⟩
  ·exact⟨_,U,q,_,_,.int J,U,U,SP,k2,_,_,U,U,⟨1,GQ,by lia,by lia⟩,U,by rw[<-ipow J];rfl⟩
  rintro i _ ⟨rfl,rfl⟩;refine⟨_,U,q,_,_,.str "swap",U,U,SP,at0,U,_,U,BJ (λz=>absurd (V.str.inj z) (by decide)) (λ_=>?_)⟩;refine⟨_,U,q,_,_,.str "swap",U,U,SP,at0,U,_,U,BJ (λz=>absurd (V.str.inj z) (by decide)) (λ_=>?_)⟩;have v:A<c:=by have:(A:Int)<c:=g1;lia
  have u:J<c:=by lia
  have n:A≠J:=λz=>g.2.2 (by rw[z]);refine⟨_,U,p,_,_,.int k,U,U,Ai.of S,k0,_,U,p,_,_,.int f,U,U,Ai.of S,k1,_,U,_,U,f,A,J,U,λH1 t=>?_⟩;refine⟨_,U,p,_,_,.int s,U,U,Ai.of (t _ _ S),k2,_,U,_,U,s,A,J,U,λH2 C=>⟨t3,λr m=>l r _ ((t.trans C).trans (A_ m _)) ?_⟩⟩;rw[Ar,(zR c6 v u n o.f).1,(zR c6 v u n o.s).1];rfl
 | cross a b d=>exact absurd D id
theorem Y6h(F:Ab K "moved_through" (top 74) .none)(X:K.In h)(G:Ng h mg)(eR:Aj P w K mg base k "moved_by" ["mark","move"] (wY K)):Aj P w K mg base (k+1) "moved_through" ["mark","row"] (wZ K):=by
 refine F.cal X G ["mark","row","behind","move"] λj H vs Q E L h=>?_;obtain⟨p,l,m,row,c,rfl,S,⟨ps,M,d⟩,o,c6,ok,J,n,I⟩:=h;have t:Ag K H l (ps.map V.ref):=Ag.of M;have C:ps.length=row.length:=by have:=lJ d;rw[Az]at this;exact this
 refine⟨_,(@Ay _ _ _ _ _ (@BX _ _ 2 _ _ _ _ j rfl (Or.inl rfl) (pv 0) rfl (.inl rfl))
  (@Ay _ _ _ _ _ (Ge PassesOwn.never rfl (Ei (pv 1)) (Bb (i:=3) j rfl (Or.inl rfl))
   (@Ak _ _ _ (@BX _ _ 2 _ _ _ _ j rfl (Or.inl rfl) (BP eR L rfl (Aa (pv 2) (Aa (pv 3) Ae))) rfl (.inl rfl))))
  (@Ak _ _ _ (BL (pv 2))))),?_⟩
 try dsimp only[CG]
 refine⟨_,U,_,U,l,U,⟨_,t⟩,LC (K:=K) (a:=l) (xs:=ps.map V.ref) (λi σ H'=>Same H H'/\∃(b:W9) (g:Option V),H' b=some (.tup (Gu (Al (row.take i) m)))/\σ=[some (.ref p),some (.ref l),some (.ref b),g])
  ⟨Same.refl _,p,none,by rw[RP];exact S,U⟩ (λi σ H' _ e=>e.1.seq t) ?_ ?_⟩
 ·rintro i x σ H1 s ⟨f,b,g,hb,rfl⟩;rw[Bu]at s;obtain⟨q,v,rfl⟩:=Dt.mp s;obtain⟨y,u,A⟩:=lH d v;have hm:y∈row:=Er u;refine⟨_,U,_,U,b,q,_,y,c,U,hb,f _ _ A,sy (λz B=>ok z (Qf B)) o,c6,ok y hm,J y hm,λr H2 D h2=>⟨f.trans D,r,_,?_,U⟩⟩;rw[Gs,u,Iu,Pu];exact h2
 ·rintro σ H1 ⟨f,b,g,hb,rfl⟩;rw[Az,C,Ia]at hb;exact⟨_,U,I b H1 f hb⟩
end
end BZ
namespace BZ
open L2 Ba Am Pc Fo
open Ax (top Bs)
open Eo (fl sw Ej)
open C_ (Mk Bm Al Br)
noncomputable def PL:Mv->Bool
 | .turn _ j=>decide (V.int (j%2)=V.int 1)
 | _=>false
noncomputable def Kg:Mv->Bool
 | .cross _ _ _=>false
 | x=>!PL x
def QM:Sp:=λvs H Q _=>∃(p:W9) (x:Mv),vs=[.ref p]/\H p=some (mT (mm x))/\Q (.bl (PL x)) H
def Mf:Sp:=λvs H Q _=>∃(p:W9) (x:Mv),vs=[.ref p]/\H p=some (mT (mm x))/\Q (.bl (Kg x)) H
variable{x:Mv}
theorem X6k(e:nm x="turn"):∃a j,x=.turn a j:=by
 have:=(X8z x).mp e;cases x<;>first | exact⟨_,_,U⟩ | simp[code]at this
theorem X8d(e:nm x≠"turn"):PL x=false:=by cases x<;>first | rfl | exact absurd rfl e
theorem X4a(e:nm x="cross"):Kg x=false:=by
 have:=(X3m x).mp e;cases x<;>first | rfl | simp[code]at this
theorem W4k(e:nm x≠"cross"):Kg x=!PL x:=by cases x<;>first | rfl | exact absurd rfl e
theorem W4l(o:Eo.Ok x):Kg x=true↔Br x:=by
 cases x with
 | turn a j =>
  have:0<=a/\1<=j/\j<=7:=o;show (!decide (V.int (j%2)=V.int 1))=true↔j.toNat%2=0;by_cases h:j%2=1
  ·rw[Dr (by rw[h])];simp;lia
  ·rw[Dh (λz=>h (V.int.inj z))];simp;lia
 | cross a b d=>exact⟨λz=>(nomatch z),λz=>z.elim⟩
 | _=>exact⟨λ_=>trivial,λ_=>rfl⟩
noncomputable def fst:List Mv->Option Nat
 | []=>none
 | x::r=>if Kg x then (fst r).map (·+1) else some 0
noncomputable def oV:Option Nat->V
 | none=>.non
 | some n=>.int n
def tu:Sp:=λvs H Q _=>∃(l:W9) (row:List Mv),vs=[.ref l]/\Gi H l row/\row.length<=200/\∀H',Same H H'->Q (oV (fst row)) H'
theorem xM:∀{row:List Mv}{i:Nat}{x:Mv},(∀y∈row.take i,Kg y=true)->row[i]?=some x->Kg x=false->fst row=some i
 | y::r,0,x,_,hx,hb=>by
  have:y=x:=by simpa using hx
  subst this;show (if Kg y then _ else some 0)=_;rw[if_neg (by rw[hb];decide)]
 | y::r,i+1,x,h,hx,hb=>by
  have a:=h y (by rw[List.take_succ_cons];exact .head _);show (if Kg y then (fst r).map (·+1) else some 0)=_;rw[if_pos a,xM (row:=r) (i:=i) (x:=x) (λz b=>h z (by rw[List.take_succ_cons];exact .tail _ b)) (by simpa using hx) hb];rfl
theorem oA:∀{row:List Mv},(∀y∈row,Kg y=true)->fst row=none
 | [],_=>rfl
 | y::r,h=>by
  show (if Kg y then (fst r).map (·+1) else some 0)=_;rw[if_pos (h y (.head _)),oA λz a=>h z (.tail _ a)];rfl
section
variable {P:U8}{w:W1}{K:U0}{mg:U4}{base:Heap}{k:Nat}{h:Heap}
theorem W2d(F:Ab K "is_odd_turn" (top 71) .none)(X:K.In h)(G:Ng h mg):Aj P w K mg base (k+1) "is_odd_turn" ["move"] QM:=by
 refine F.cal X G ["move"] λc H vs Q E b h=>?_;obtain⟨p,x,rfl,hp,q⟩:=h;have SP:Ai K H p (.str (nm x)::(ns x).map V.int):=Ai.of hp;refine⟨_,(@Ak _ _ _ (BL (K9 (HD Df (Ao BK (pv 0) Ad (λ_ _=>rfl)) Gb (Ac _)) (Kl (HD Df (Af Cv (Ao BK (pv 0) Ad (λ_ _=>rfl)) Ad) Ad (Ac _)))))),?_⟩;try dsimp only[CG]
 refine⟨_,U,p,_,_,.str (nm x),U,U,SP,Xb x,U,?_⟩;by_cases e:nm x="turn"
 ·obtain⟨a,j,rfl⟩:=X6k e;exact⟨_,U,BJ (λ_=>⟨_,U,p,_,_,.int j,U,U,SP,k2,_,_,U,U,(by show (0:Int)<_;decide),U,q⟩) (λz=>absurd rfl z)⟩
 ·refine⟨_,U,BJ (λz=>absurd (V.str.inj z) e) (λ_=>?_)⟩;rw[X8d e]at q;exact q
theorem X7u(F:Ab K "is_borne" (top 70) .none)(X:K.In h)(G:Ng h mg)(dS:Aj P w K mg base k "is_odd_turn" ["move"] QM):Aj P w K mg base (k+1) "is_borne" ["move"] Mf:=by
 refine F.cal X G ["move"] λb H vs Q E a h=>?_;obtain⟨p,x,rfl,hp,q⟩:=h;have SP:Ai K H p (.str (nm x)::(ns x).map V.int):=Ai.of hp;refine⟨_,(@Ak _ _ _ (BL (K9 (HD Hs (Ao BK (pv 0) Ad (λ_ _=>rfl)) Gb (Ac _)) (Kl (Rz (BP dS a rfl (Aa (pv 0) Ae))))))),?_⟩;try dsimp only[CG]
 refine⟨_,U,p,_,_,.str (nm x),U,U,SP,Xb x,U,?_⟩;by_cases e:nm x="cross"
 ·refine⟨_,U,JV (λz=>absurd (by rw[e]) (Wa z)) (λ_=>?_)⟩;rw[X4a e]at q;exact q
 ·refine⟨_,U,JV (λ_=>?_) (λz=>absurd (V.str.inj (JR z)) e)⟩;refine⟨_,U,p,x,U,hp,_,U,?_⟩;rw[W4k e]at q;exact q
theorem X2z(F:Ab K "borne" (top 69) .none)(X:K.In h)(G:Ng h mg)(B:Bs mg)(eQ:Aj P w K mg base k "is_borne" ["move"] Mf):Aj P w K mg base (k+1) "borne" ["row"] tu:=by
 refine F.cal X G ["row","place","move"] λp H vs Q E A h=>?_;obtain⟨l,row,rfl,⟨ps,C,b⟩,j,m⟩:=h;have n:Ag K H l (ps.map V.ref):=Ag.of C;have t:ps.length=row.length:=by have:=lJ b;rw[Az]at this;exact this
 refine⟨_,(@Ay _ _ _ _ _ (Ge PassesOwn.never rfl (SJ rfl B.enumerate (Aa (pv 0) Ae)) (@Ls _ _ _ _ _ _ rfl (@Ea _ _ _ _ _ (@Bb _ _ 1 _ p rfl (Or.inl rfl) (by first | exact .inl rfl | exact .inr rfl)) (@Ea _ _ _ _ _ (@Bb _ _ 2 _ p rfl (Or.inl rfl) (by first | exact .inl rfl | exact .inr rfl)) Lx rfl) rfl) rfl rfl)
   (@Ak _ _ _ (Bx (Eh (DW (BP eQ A rfl (Aa (pv 2) Ae))))
    (@Ak _ _ _ (BL (pv 1)))
    B_)))
  (@Ak _ _ _ (BL Nb))),?_⟩
 try dsimp only[CG]
 refine⟨_,U,l,_,U,n,n8 (K:=K) (a:=l) (xs:=ps.map V.ref) (λi σ H'=>Same H H'/\(∀y∈row.take i,Kg y=true)/\∃(v1 v2:Option V),σ=[some (.ref l),v1,v2])
  ⟨Same.refl _,(λy d=>by rw[RP]at d;cases d),none,none,U⟩ (λi σ H' _ e=>e.1.seq n) ?_ ?_⟩
 ·rintro i x σ H1 T o ⟨f,hb,v1,v2,rfl⟩ v;rw[Bu]at o;obtain⟨q,r,rfl⟩:=Dt.mp o;obtain⟨y,d,s⟩:=lH b r;have g:=f.trans (A_ v (.tup [.int i,.ref q]));refine⟨T,_,U,Ai.of Ar,U,_,_,U,_,_,U,U,?_⟩;refine⟨_,U,q,y,U,g _ _ s,_,U,JV (λz=>?_) (λz=>?_)⟩
  ·have:=m _ g;rw[xM hb d z]at this;exact⟨_,U,this⟩
  ·refine⟨g,λu c=>?_,_,_,U⟩;rw[Gs,d,Iu]at c;rcases DR.mp c with c | c
   ·exact hb u c
   ·rw[DK.mp c];exact z
 ·rintro σ H1 ⟨f,hb,v1,v2,rfl⟩;rw[Az,t,Ia]at hb;have:=m _ f;rw[oA hb]at this;exact this
end
end BZ
namespace BZ
open L2 Ba Am Pc Fo
open Ax (top Bs Jh Cp Dp Xf Xx Xr U_ Zd)
open Eo (fl sw Ej)
open C_ (Mk Bm Al Br bn bp)
noncomputable abbrev layW (m:Mk)(f:Nat->A5)(w:Nat):A5:=Bc (f (w^^^m.2.1)) ((2*m.1+4*pc ((w^^^m.2.1)&&&m.2.2):Nat):Int)
def uI (K:U0):Sp:=λvs H Q _=>∃(l p:W9) (ps:U3) (f:Nat->A5) (c n M wd:Nat) (m:Mk),vs=[.ref l,.int wd,.ref p]/\Jh K H l ps f c n M/\wd<2^c/\Ai K H p (Gu m)/\Kv c m /\
 ∀(r:W9) (H':Hp),Same H H'->Dp K H' r (Bc (f wd) ((2*m.1+4*pc (wd&&&m.2.2):Nat):Int))->Q (.ref r) H'
def Jt (K:U0):Sp:=λvs H Q _=>∃(l p:W9) (ps:U3) (f:Nat->A5) (c n M:Nat) (m:Mk),vs=[.ref l,.ref p]/\Jh K H l ps f c n M/\c<=6/\Ai K H p (Gu m)/\Kv c m /\
 ∀(r:W9) (H':Hp) (qs:U3),H r=none->Same H H'->Jh K H' r qs (layW m f) c n M->Q (.ref r) H'
theorem R_{x y:Nat}:[V.int (Builtin.bitAnd (x:Int) (y:Int))]=[V.int ((x&&&y:Nat):Int)]:=by rw[NT]
section
variable {P:U8}{w:W1}{K:U0}{mg:U4}{base:Heap}{k:Nat}{h:Heap}
end
end BZ
namespace BZ
open L2 Ba Am Pc Fo
open Ax (top Bs Jh Cp Dp U_ Zd)
open Eo (fl sw Ej)
open C_ (Mk Bm Al Br bn bp)
def uN (K:U0):Sp:=λvs H Q _=>∃(l lr:W9) (ps:U3) (ms:List Mk) (row:List Mv) (c:Nat),vs=[.ref l,.ref lr]/\Ag K H l (ps.map V.ref)/\Paired (λp m=>H p=some (.tup (Gu m))) ps ms/\ms.length<=200/\Gi H lr row/\(∀m∈ms,Kv c m)/\c<=6/\(∀x∈row,Ej c x)/\(∀x∈row,Br x)/\row.length<=200 /\
 ∀(r:W9) (H':Hp) (qs:U3),H r=none->Same H H'->H' r=some (.lst (qs.map V.ref))->Paired (λp m=>H' p=some (.tup (Gu m))) qs (ms.map (Al row))->Q (.ref r) H'
def QV:Sp:=λvs H Q _=>∃(l:W9) (row:List Mv),vs=[.ref l]/\Gi H l row/\row.length<=200/\(∀x∈row,Kg x=true)/\∀H',Same H H'->Q .non H'
theorem W4m{c:Nat}{row:List Mv}(ok:∀x∈row,Ej c x)(br:∀x∈row,Br x):∀x∈row,Kg x=true:=λx a=>(W4l (ok x a).1).mpr (br x a)
theorem yH{α:Type}{F:Addr->α->Prop}:∀{ps:U3}{ms:List α},Paired F ps ms->ps.length=ms.length
 | [],[],.nil=>rfl
 | _::_,_::_,.cons _ r=>by rw[Ob,Ob,yH r]
theorem yF{α:Type}{F:Addr->α->Prop}:∀{ps:U3}{ms:List α}{i:Nat}{p:W9},Paired F ps ms->ps[i]?=some p->∃m,ms[i]?=some m/\F p m
 | p'::ps,m::ms,0,p,.cons a r,h=>by
  have:p'=p:=by simpa using h
  subst this;exact⟨m,U,a⟩
 | p'::ps,m::ms,i+1,p,.cons a r,h=>by
  obtain⟨m',b,c⟩:=yF (ps:=ps) (ms:=ms) (i:=i) (p:=p) r (by simpa using h);exact⟨m',by simpa using b,c⟩
theorem tU{α:Type}{F:Addr->α->Prop}{a:W9}{b:α}:∀{l:U3}{m:List α},Paired F l m->F a b->Paired F (l++[a]) (m++[b])
 | _,_,.nil,h=>.cons h .nil
 | _,_,.cons x r,h=>.cons x (tU r h)
theorem yG{α:Type}{F G:Addr->α->Prop}(f:∀a b,F a b->G a b):∀{l:U3}{m:List α},Paired F l m->Paired G l m
 | _,_,.nil=>.nil
 | _,_,.cons x r=>.cons (f _ _ x) (yG f r)
theorem tH{H:Hp}{p l:W9}{zs:List V}{xs ys:List V}(h:H p=some (.tup zs))(e:H l=some (.lst xs)):upd H l (.lst ys) p=some (.tup zs):=by
 rw[Cd (J0 h e (by intro z;cases z))];exact h
section
variable {P:U8}{w:W1}{K:U0}{mg:U4}{base:Heap}{k:Nat}{h:Heap}
theorem W2i(F:Ab K "check_borne" (top 73) .none)(X:K.In h)(G:Ng h mg)(gH:Aj P w K mg base k "borne" ["row"] tu):Aj P w K mg base (k+1) "check_borne" ["row"] QV:=by
 refine F.cal X G ["row","place"] λf H vs Q E b h=>?_;obtain⟨l,row,rfl,R,a,d,c⟩:=h
 refine⟨_,(@Ay _ _ _ _ _ (@BX _ _ 1 _ _ _ _ f rfl (Or.inl rfl) (BP gH b rfl (Aa (pv 0) Ae)) rfl (.inl rfl))
  (@Ak _ _ _ (Bx (Bf X7f (pv 1) Nb (Ac _))
   (@Ak _ _ _ Sd)
   B_))),?_⟩
 try dsimp only[CG]
 refine⟨_,U,l,row,U,R,a,λH1 e=>?_⟩;rw[oA d];refine⟨_,U,?_⟩;exact⟨U,_,U,JV (λz=>absurd rfl (Wa z)) (λ_=>c H1 e)⟩
theorem X2s(F:Ab K "moved_rows" (top 72) .none)(X:K.In h)(G:Ng h mg)(B:Bs mg)(dQ:Aj P w K mg base k "check_borne" ["row"] QV)(dG:Aj P w K mg base k "moved_through" ["mark","row"] (wZ K)):Aj P w K mg base (k+1) "moved_rows" ["rows","row"] (uN K):=by
 refine F.cal X G ["rows","row"] λY H vs Q E A h=>?_;obtain⟨l,u,ps,ms,row,c,rfl,z,C,W,R,o,c6,ok,v,d,S⟩:=h
 refine⟨_,(@Ay _ _ _ _ _ (Ni (BP dQ A rfl (Aa (pv 1) Ae)))
  (@Ak _ _ _ (BL (Gp rfl (BW.of (Nc:=["mark","row"]) (mp:=[none,some 1]) (by kernel_rfl)) (Ei (pv 0)) (λ_ _ _ _=>(Bb (i:=0) (show (["mark","row"]:W0).Nodup by decide +kernel) rfl (Or.inl rfl))) (λ_ _ _ _=>(BP dG A rfl (Aa (pv 0) (Aa (pv 1) Ae)))))))),?_⟩
 try dsimp only[CG]
 refine⟨_,U,u,row,U,R,d,W4m ok v,λH1 g=>?_⟩;have L:=yH C;refine⟨_,U,l,U,⟨_,g.seq z⟩,λacc b=>?_⟩;refine Lw (K:=K) (a:=l) (xs:=ps.map V.ref) (fr:=[some (.ref u)]) (λi ys H'=>∃qs:List Addr,Same H1 H'/\H' acc=some (.lst ys)/\ys=qs.map V.ref/\Paired (λp m=>H' p=some (.tup (Gu m))) qs ((ms.take i).map (Al row))) (by rw[Az];exact E_ (show ps.length<=200 by lia) (by decide))
  ⟨[],A_ b _,Ar,U,by rw[RP];exact .nil⟩ (λi ys H' ⟨_,e,_⟩=>(g.trans e).seq z) ?_ ?_
 ·rintro i x ys H2 N y T ⟨qs,s,n,rfl,t⟩ M;rw[Bu]at y;obtain⟨q,D,rfl⟩:=Dt.mp y;obtain⟨m,hm,I⟩:=yF C D;have f:=g.trans s;refine⟨_,U,_,U,q,u,m,row,c,U,f _ _ I,R.same f,o m (Er hm),c6,ok,v,d,λr J j O=>?_⟩;refine M (.ref r) J (j _ _ n) ⟨qs++[r],Dj (s.trans j) b,Ar,by rw[Ca];rfl,?_⟩;rw[Gs,hm,Iu,Ca];exact tU (yG (λ_ _ e=>tH (j _ _ e) (j _ _ n)) t) (tH O (j _ _ n))
 ·rintro ys H2 T ⟨qs,s,n,rfl,t⟩;rw[Az,L,Ia]at t;have fr:H acc=none:=n_ g b;exact S acc H2 qs fr (g.trans s) n t
end
end BZ
set_option maxHeartbeats 1000000
namespace Uy
open Ba Am Pc
open Ax (Mix)
open Ci (Kp Nh Sq Qz Xp)
open Bh (cm ev)
open DG (Mk mul)
noncomputable abbrev Zz:A5:=((0,0,0,0),0)
noncomputable def Aq (m:Nat):A5:=if m%2=0 then ((1,0,0,0),((m / 2:Nat):Int)) else ((0,1,0,-1),(((m+1) / 2:Nat):Int))
noncomputable def Av (m j:Nat):A5:=Bc (Aq m) ((2*j:Nat):Int)
theorem X4(m j:Nat):Av m j=Av m (j%4):=Qz _ (by lia)
theorem Z9(m j k:Nat):Bc (Av m j) ((2*k:Nat):Int)=Av m (j+k):=by
 unfold Av;rw[Sq];exact congrArg _ (by lia)
theorem Pk(k:Int):Bc Zz k=Zz:=by
 have:∀n,Dq n (0,0,0,0)=(0,0,0,0):=λn=>by
  induction n with
  | zero=>rfl
  | succ n ih=>rw[Ci.Zf,ih];rfl
 show (Dq (k%8).toNat (0,0,0,0),(0:Int))=_;rw[this]
noncomputable def PN (x y z:A5):Bool :=
 let p:A5:=if x=Zz then y else x
 decide (p.2<=max x.2 y.2) && decide (0<=z.2) && decide (0<=p.2) && decide (p.2=0\/p.1.1%2=1\/p.1.2.1%2=1\/p.1.2.2.1%2=1\/p.1.2.2.2%2=1) && decide (z.2=0\/z.1.1%2=1\/z.1.2.1%2=1\/z.1.2.2.1%2=1\/z.1.2.2.2%2=1) &&
 decide ((x.1.1*p2 y.2+1*y.1.1*p2 x.2)*p2 p.2=p.1.1*p2 (x.2+y.2)) && decide ((x.1.2.1*p2 y.2+1*y.1.2.1*p2 x.2)*p2 p.2=p.1.2.1*p2 (x.2+y.2)) && decide ((x.1.2.2.1*p2 y.2+1*y.1.2.2.1*p2 x.2)*p2 p.2=p.1.2.2.1*p2 (x.2+y.2)) && decide ((x.1.2.2.2*p2 y.2+1*y.1.2.2.2*p2 x.2)*p2 p.2=p.1.2.2.2*p2 (x.2+y.2)) &&
 decide ((p.1.2.1-p.1.2.2.2)*p2 z.2=z.1.1*p2 (p.2+1)) && decide ((p.1.1+p.1.2.2.1)*p2 z.2=z.1.2.1*p2 (p.2+1)) && decide ((p.1.2.1+p.1.2.2.2)*p2 z.2=z.1.2.2.1*p2 (p.2+1)) && decide ((p.1.2.2.1-p.1.1)*p2 z.2=z.1.2.2.2*p2 (p.2+1))
variable{x y z:A5}
theorem nA(h:PN x y z=true):Mix 1 x y z:=by
 unfold PN at h;simp only[GF,Jk]at h;obtain⟨⟨⟨⟨⟨⟨⟨⟨⟨⟨⟨⟨h1,h2⟩,d⟩,b⟩,a⟩,g⟩,i⟩,k⟩,c⟩,j⟩,e⟩,l⟩,f⟩:=h;exact⟨_,⟨⟨d,b⟩,⟨g,i,k,c⟩,h1⟩,⟨h2,a⟩,⟨j,e,l,f⟩⟩
theorem X8m:((List.range 7).all λm=>(List.range 4).all λj=>PN (Av m j) Zz (Av (m+1) j) && PN Zz (Av m j) (Av (m+1) j))=true:=by decide +kernel
variable{m j:Nat}
theorem zY(hm:m<=6):Mix 1 (Av m j) Zz (Av (m+1) j)/\Mix 1 Zz (Av m j) (Av (m+1) j):=by
 have:=Gz.mp (Gz.mp X8m m (Ew.mpr (by lia))) (j%4) (Ew.mpr (by lia));rw[GF]at this;rw[X4 m j,X4 (m+1) j];exact⟨nA this.1,nA this.2⟩
theorem W5s:Mix 1 Zz Zz Zz:=nA (by decide +kernel)
theorem yK{v:Int×Int×Int×Int}(h:v≠(0,0,0,0)):∀n,Dq n v≠(0,0,0,0)
 | 0=>h
 | n+1=>λe=>yK h n (by
  rw[Ci.Zf]at e
  generalize Dq n v=u at e
  obtain⟨a,b,c,d⟩:=u
  unfold Ci.nx at e
  simp only[Prod.mk.injEq]at e ⊢
  lia)
theorem zL(m:Nat):(Aq m).1≠(0,0,0,0):=by
 unfold Aq;split
 ·exact λe=>absurd (congrArg Prod.fst e) (by show ¬ ((1:Int)=0);decide)
 ·exact λe=>absurd (congrArg (λv=>v.2.1) e) (by show ¬ ((1:Int)=0);decide)
theorem aJ(m j:Nat):(Av m j).1≠(0,0,0,0):=yK (zL m) _
theorem QC(m j:Nat):Av m j≠Zz:=λe=>aJ m j (congrArg Prod.fst e)
theorem W4v{j':Nat}(e:Av m j=Av m j'):j%4=j'%4:=by
 exact Xp (zL m) e
def Fm (m:Nat)(x:A5):Prop:=x=Zz\/∃j,x=Av m j
inductive Up (m:Nat):A5->A5->Prop
 | z:Up m Zz Zz
 | a (j:Nat):Up m (Av m j) (Av (m+1) j)
theorem Up.uniq{y':A5}(h:Up m x y)(h':Up m x y'):y=y':=by
 cases h with
 | z =>
  generalize e:Zz=x at h';cases h' with
  | z=>rfl
  | a j=>exact absurd e.symm (QC m j)
 | a j =>
  generalize e:Av m j=x at h';cases h' with
  | z=>exact absurd e (QC m j)
  | a i=>rw[X4 _ j,X4 _ i,W4v e]
theorem Up.Bc(h:Up m x y)(k:Nat):Up m (Bc x ((2*k:Nat):Int)) (Bc y ((2*k:Nat):Int)):=by
 cases h with
 | z=>rw[Pk];exact .z
 | a j=>rw[Z9,Z9];exact .a _
noncomputable def La (f:Nat->A5)(r:Mk)(w:Nat):A5:=Bc (f (w^^^r.2.1)) ((2*r.1+4*pc ((w^^^r.2.1)&&&r.2.2):Nat):Int)
noncomputable def Hb (f:Nat->A5)(r:Mk)(w:Nat):A5:=if f w=Zz then La f r w else f w
variable {c m:Nat}{f g:Nat->A5}{r p:Mk}
theorem ev2(a b:Nat):((2*a+4*b:Nat):Int)=((2*(a+2*b):Nat):Int):=by congr 1;lia
theorem X9q(h:Fm m x)(k:Nat):Fm m (Bc x ((2*k:Nat):Int)):=by
 rcases h with rfl | ⟨j,rfl⟩
 ·exact .inl (Pk _)
 ·exact .inr ⟨_,Z9 m j k⟩
theorem W_(h:Fm m x)(k:Nat)(e:Bc x ((2*k:Nat):Int)=Zz):x=Zz:=by
 rcases h with rfl | ⟨j,rfl⟩
 ·rfl
 ·rw[Z9]at e;exact absurd e (QC _ _)
theorem X6q(hm:m<=6)(fm:∀w,w<2^c->Fm m (f w))(rc:r.2.1<2^c)(dj:∀w,w<2^c->f w=Zz\/f (w^^^r.2.1)=Zz){w:Nat}(hw:w<2^c)(h:Mix 1 (f w) (La f r w) z):Up m (Hb f r w) z:=by
 have b:w^^^r.2.1<2^c:=FP hw rc;have fl:Fm m (La f r w):=by unfold La;rw[ev2];exact X9q (fm _ b) _
 unfold Hb;split
 ·rename_i e;rw[e]at h;rcases fl with q | ⟨j,q⟩
  ·rw[q]at h ⊢;rw[h.uniq W5s];exact .z
  ·rw[q]at h ⊢;rw[h.uniq (zY hm).2];exact .a j
 ·rename_i e;have l0:La f r w=Zz:=by
   rcases dj w hw with q | q
   ·exact absurd q e
   ·unfold La;rw[q];exact Pk _
  rw[l0]at h;rcases fm w hw with q | ⟨j,q⟩
  ·exact absurd q e
  ·rw[q]at h ⊢;rw[h.uniq (zY hm).1];exact .a j
theorem zX(hp:p.2.1<2^c)(kp:Kp c (Hb f r) p)(up:∀w,w<2^c->Up m (Hb f r w) (g w)):Kp c g p:=λw b=>by
 have a:=up (w^^^p.2.1) (FP b hp);rw[kp w b,ev2]at a;rw[ev2];exact a.uniq ((up w b).Bc _)
theorem W4q(fm:∀w,w<2^c->Fm m (f w))(rc:r.2.1<2^c)(pc':p.2.1<2^c)(co:cm p r=0)(kp:Kp c f p):Kp c (Hb f r) p:=λw a=>by
 have hp:w^^^p.2.1<2^c:=FP a pc';have b:w^^^r.2.1<2^c:=FP a rc;have k1:=kp w a;unfold Hb;by_cases e:f w=Zz
 ·rw[if_pos e,if_pos (by rw[k1,e];exact Pk _)];unfold La;have k2:=kp (w^^^r.2.1) b;rw[show w^^^p.2.1^^^r.2.1=w^^^r.2.1^^^p.2.1 by rw[Fq,JN p.2.1,<-Fq],k2,Sq,Sq];apply Qz;have h:(pc (p.2.1&&&r.2.2)+pc (p.2.2&&&r.2.1))%2=0:=co;have d:=CT.Ri r.2.2 (w^^^r.2.1) p.2.1;have g:=CT.Ri p.2.2 w r.2.1;rw[GX r.2.2,GX r.2.2,GX r.2.2 p.2.1]at d;rw[GX p.2.2,GX p.2.2 w]at g;lia
 ·rw[if_neg e,if_neg (by
   rw[k1,ev2]
   exact λz=>e (W_ (fm w a) _ z)),k1]
theorem W4r(fm:∀w,w<2^c->Fm m (f w))(rc:r.2.1<2^c)(er:ev r)(dj:∀w,w<2^c->f w=Zz\/f (w^^^r.2.1)=Zz):Kp c (Hb f r) r:=λw b=>by
 have h:w^^^r.2.1<2^c:=FP b rc;have g:w^^^r.2.1^^^r.2.1=w:=by rw[Fq,JQ,Ow]
 have i:(r.1+pc (r.2.1&&&r.2.2))%2=0:=er;have d:=CT.Ri r.2.2 w r.2.1;rw[GX r.2.2,GX r.2.2 w,GX r.2.2 r.2.1]at d;unfold Hb La;rw[g];by_cases e:f w=Zz
 ·rw[if_pos e,Sq];by_cases a:f (w^^^r.2.1)=Zz
  ·rw[if_pos a,e,a,Pk,Pk]
  ·rw[if_neg a,Nh];have:(2*r.1+4*pc ((w^^^r.2.1)&&&r.2.2)+(2*r.1+4*pc (w&&&r.2.2)))%8=0:=by lia
   rw[<-Ci.Um,this];rfl
 ·have a:f (w^^^r.2.1)=Zz:=(dj w b).resolve_left e;rw[if_neg e,if_pos a]
end Uy
namespace YM
noncomputable def Cj (F:Nat->Int):Nat->Int
 | 0=>0
 | n+1=>Cj F n+F n
theorem rJ{F G:Nat->Int}:∀{n},(∀i,i<n->F i=G i)->Cj F n=Cj G n
 | 0,_=>rfl
 | n+1,h=>by
  show Cj F n+F n=Cj G n+G n;rw[rJ λi hi=>h i (by lia),h n (by lia)]
theorem vf{F G:Nat->Int}:∀n,Cj (λi=>F i+G i) n=Cj F n+Cj G n
 | 0=>rfl
 | n+1=>by
  show Cj (λi=>F i+G i) n+(F n+G n)=(Cj F n+F n)+(Cj G n+G n);rw[vf n];lia
noncomputable def lsum (F:Nat->Int):List Nat->Int
 | []=>0
 | a::l=>F a+lsum F l
variable{F:Nat->Int}
theorem Y9n{l l':W3}(h:l.Perm l'):lsum F l=lsum F l':=by
 induction h with
 | nil=>rfl
 | cons x _ ih=>show F x+_=F x+_;rw[ih]
 | swap x y l=>show F y+(F x+lsum F l)=F x+(F y+lsum F l);lia
 | trans _ _ a b=>exact a.trans b
theorem u_{F:Nat->Int}:∀l l',lsum F (l++l')=lsum F l+lsum F l'
 | [],l'=>by show lsum F l'=0+lsum F l';lia
 | a::l,l'=>by
  show F a+lsum F (l++l')=F a+lsum F l+lsum F l';rw[u_ l l'];lia
theorem mK{F:Nat->Int}:∀n,Cj F n=lsum F (List.range n)
 | 0=>rfl
 | n+1=>by
  rw[WQ,u_,<-mK n];show Cj F n+F n=Cj F n+(F n+0);lia
theorem vA{F:Nat->Int}{t:Nat->Nat}:∀l,lsum (λi=>F (t i)) l=lsum F (l.map t)
 | []=>rfl
 | a::l=>by
  show F (t a)+_=F (t a)+_;rw[vA l]
theorem sE{t:Nat->Nat}:∀{l:W3},(∀a∈l,∀b∈l,t a=t b->a=b)->l.Nodup->(l.map t).Nodup
 | [],_,_=>List.nodup_nil
 | a::l,h,d=>by
  rw[FJ,Qa];have d':=Qa.mp d;refine⟨λhm=>?_,sE (λx f y c=>h x (.tail _ f) y (.tail _ c)) d'.2⟩;obtain⟨b,hb,e⟩:=El.mp hm;have:=h b (.tail _ hb) a (.head _) e;subst this;exact d'.1 hb
variable{n:Nat}
theorem X2f{t:Nat->Nat}(h1:∀i,i<n->t i<n)(h2:∀i,i<n->t (t i)=i):((List.range n).map t).Perm (List.range n):=by
 rw[List.perm_iff_count];intro a;have d:(List.range n).Nodup:=List.nodup_range
 have d2:((List.range n).map t).Nodup:=sE (λx g y f e=>by
  have:=h2 x (Ew.mp g)
  rw[e,h2 y (Ew.mp f)]at this
  exact this.symm) d
 rw[d.count,d2.count];have:a∈(List.range n).map t↔a∈List.range n:=by
  rw[El,Ew];constructor
  ·rintro ⟨b,hb,rfl⟩;exact h1 b (Ew.mp hb)
  ·intro c;exact⟨t a,Ew.mpr (h1 a c),h2 a c⟩
 by_cases q:a∈List.range n
 ·rw[if_pos (this.mpr q),if_pos q]
 ·rw[if_neg (λz=>q (this.mp z)),if_neg q]
theorem X1v{t:Nat->Nat}(h1:∀i,i<n->t i<n)(h2:∀i,i<n->t (t i)=i):Cj (λi=>F (t i)) n=Cj F n:=by
 rw[mK,mK,vA];exact Y9n (X2f h1 h2)
open Ba Am Pc Uy
open Ax (Mix)
open Ci (Kp)
open Bh (cm ev Ck Off CK vec En)
open DG (Mk mul bit JW)
structure Sy (c:Nat) (S:List Mk):Prop where
 ok:∀r∈S,Ci.Ok c r
 n:En S
 ld:∀r∈S,CK (vec r) (Ck r)
 off:S.Pairwise Off
theorem zF{r:Mk}(h:r.2.1<2^6)(l:CK (vec r) n)(nz:r.2.1≠0):n<6/\bit r.2.1 n=1:=by
 have one:=l.one;unfold vec at one;rw[Bh.HJ h]at one;by_cases q:n<6
 ·rw[if_pos q]at one;exact⟨q,one⟩
 ·exfalso;apply nz;have z:∀k,k<6->bit r.2.1 k=0:=λk b=>by
   have:=l.low k (by lia);unfold vec at this;rwa [Bh.HJ h,if_pos b]at this
  have e:=z 0 (by decide);have c:=z 1 (by decide);have d:=z 2 (by decide);have f:=z 3 (by decide);have a:=z 4 (by decide);have g:=z 5 (by decide);unfold bit at e c d f a g;lia
noncomputable def Jm (f:Nat->A5)(w:Nat):Int:=if f w=Zz then 0 else 1
structure Sb (c:Nat) (S:List Mk) (w0 i m:Nat) (f:Nat->A5):Prop where
 fm:∀w,w<2^c->Fm m (f w)
 at0:f w0=Av m 0
 old:∀r∈S.take i,Kp c f r
 sg:∀r∈S,r.2.1=0->Kp c f r
 sup:∀w,w<2^c->f w≠Zz->∀r∈S.drop i,r.2.1≠0->bit w (Ck r)=bit w0 (Ck r)
 cnt:Cj (Jm f) (2^c)=2^m
 mi:m<=i
variable {c i m w0:Nat}{S:List Mk}{f g:Nat->A5}{r:Mk}
theorem vg{F:Nat->Int}{x:Nat}(h1:F x=1):∀n,(∀i,i<n->i≠x->F i=0)->Cj F n=if x<n then 1 else 0
 | 0,_=>rfl
 | n+1,h=>by
  show Cj F n+F n=_;rw[vg h1 n λi hi=>h i (by lia)];by_cases e:n=x
  ·subst e;rw[h1,if_neg (Mu _),if_pos (KR _)];rfl
  ·rw[h n (by lia) e];by_cases q:x<n
   ·rw[if_pos q,if_pos (by lia)];rfl
   ·rw[if_neg q,if_neg (by lia)];rfl
theorem Sb.start(hw:w0<2^c)(hs:∀r∈S,r.2.1=0->(r.1+2*pc (w0&&&r.2.2))%4=0)(e:∀w,f w=if w=w0 then ((1,0,0,0),0) else Zz):Sb c S w0 0 0 f:=by
 have a:f w0=Av 0 0:=by rw[e,if_pos rfl];decide +kernel
 have fz:∀w,w≠w0->f w=Zz:=λw h=>by rw[e,if_neg h]
 refine⟨λw _=>?_,a,(λr h=>by cases h),λr b z w _=>?_,λw _ h r _ _=>?_,?_,Bd _⟩
 ·by_cases q:w=w0
  ·rw[q,a];exact .inr ⟨0,U⟩
  ·exact .inl (fz w q)
 ·rw[z,Ow];by_cases q:w=w0
  ·subst q;have:=hs r b z;rw[Ci.Nh,<-Ci.Um,show (2*r.1+4*pc (w&&&r.2.2))%8=0 by lia];rfl
  ·rw[fz w q,Pk]
 ·by_cases q:w=w0
  ·rw[q]
  ·exact absurd (fz w q) h
 ·rw[vg (x:=w0) (by unfold Jm;rw[a,if_neg (QC _ _)]) _ (λi _ q=>by unfold Jm;rw[fz i q,if_pos rfl]),if_pos hw];rfl
theorem Zg(h:S[i]?=some r):S.drop i=r::S.drop (i+1):=by
 obtain⟨hi,e⟩:=Fe.mp h;rw[<-e];exact List.drop_eq_getElem_cons hi
theorem mF(h:S[i]?=some r):S.take (i+1)=S.take i++[r]:=by
 rw[Gs,h];rfl
theorem Sb.sign(b:Sb c S w0 i m f)(h:S[i]?=some r)(z:r.2.1=0):Sb c S w0 (i+1) m f:=by
 refine⟨b.fm,b.at0,λp hp=>?_,b.sg,λw a q p hp=>b.sup w a q p (by rw[Zg h];exact KZ _ hp),b.cnt,fL b.mi⟩;rw[mF h]at hp;rcases DR.mp hp with q | q
 ·exact b.old p q
 ·rw[DK.mp q];exact b.sg r (Er h) z
theorem Sb.dj(Y:Sy c S)(c6:c<=6)(b:Sb c S w0 i m f)(h:S[i]?=some r)(nz:r.2.1≠0):∀w,w<2^c->f w=Zz\/f (w^^^r.2.1)=Zz:=λw d=>by
 have g:=Er h;have e:r∈S.drop i:=by rw[Zg h];exact .head _
 have j:=(Y.ok r g).f;obtain⟨_,l1⟩:=zF (Cu j (Fw (by decide) c6)) (Y.ld r g) nz;by_cases q:f w=Zz
 ·exact .inl q
 ·refine .inr (Classical.byContradiction λk=>?_);have a:=b.sup w d q r e nz;have a':=b.sup _ (FP d j) k r e nz;rw[JW,l1,a]at a';have:=DG.Ey w0 (Ck r);lia
theorem X3d(x:A5)(hx:Fm m x)(k:Nat):(Bc x ((2*k:Nat):Int)=Zz)=(x=Zz):=propext ⟨W_ hx k,λe=>by rw[e];exact Pk _⟩
theorem Sb.flip(Y:Sy c S)(c6:c<=6)(b:Sb c S w0 i m f)(hw0:w0<2^c)(h:S[i]?=some r)(nz:r.2.1≠0)(hm:m<=6)(mx:∀w,w<2^c->Mix 1 (f w) (La f r w) (g w)):Sb c S w0 (i+1) (m+1) g:=by
 have v:=Er h;have o:=(Y.ok r v).f;have dj:=b.dj Y c6 h nz;have s:∀w,w<2^c->Up m (Hb f r w) (g w):=λw d=>X6q hm b.fm o dj d (mx w d);have l:∀p∈S,Kp c f p->Kp c g p:=λp hp I=>zX (Y.ok p hp).f (W4q b.fm o (Y.ok p hp).f (Y.n.com p hp r v) I) s;have G:∀w,w<2^c->(g w=Zz↔Hb f r w=Zz):=λw d=>by
  have u:=s w d;generalize Hb f r w=x at u;generalize g w=y at u;cases u with
  | z=>exact⟨λ_=>rfl,λ_=>rfl⟩
  | a j=>exact⟨λz=>absurd z (QC _ _),λz=>absurd z (QC _ _)⟩
 have A:∀w,w<2^c->(La f r w=Zz↔f (w^^^r.2.1)=Zz):=λw d=>by
  unfold La;rw[ev2,X3d _ (b.fm _ (FP d o))]
 refine⟨λw d=>?_,?_,λp hp=>?_,λp hp z=>l p hp (b.sg p hp z),λw d q p hp B=>?_,?_,Nat.succ_le_succ b.mi⟩
 ·have u:=s w d;generalize Hb f r w=x at u;generalize g w=y at u;cases u with
  | z=>exact .inl rfl
  | a j=>exact .inr ⟨j,rfl⟩
 ·have u:=s w0 hw0;unfold Hb at u;rw[if_neg (by rw[b.at0];exact QC _ _),b.at0]at u;exact u.uniq (.a 0)
 ·rw[mF h]at hp;rcases DR.mp hp with q | q
  ·exact l p (Qf q) (b.old p q)
  ·rw[DK.mp q];exact zX o (W4r b.fm o (Y.n.even r v) dj) s
 ·have C:p∈S.drop i:=by rw[Zg h];exact KZ _ hp
  have E:=Tt C;have D:=(Y.ok p E).f;have of:Off r p:=by
   have H:(S.drop i).Pairwise Off:=List.Pairwise.sublist (List.drop_sublist _ _) Y.off;rw[Zg h]at H;exact(Tq.mp H).1 p hp
  obtain⟨K,L⟩:=zF (Cu D (Fw (by decide) c6)) (Y.ld p E) B;have J:bit r.2.1 (Ck p)=0:=by
   have:=of.1;unfold vec at this;rwa [Bh.HJ (Cu o (Fw (by decide) c6)),if_pos K]at this
  have k:=λz=>q ((G w d).mpr z);unfold Hb at k;by_cases e:f w=Zz
  ·rw[if_pos e]at k;have:=b.sup _ (FP d o) (λz=>k ((A w d).mpr z)) p C B;rw[JW,J]at this;have:=DG.Ey w (Ck p);lia
  ·exact b.sup w d e p C B
 ·have e:Cj (Jm g) (2^c)=Cj (λw=>Jm f w+Jm f (w^^^r.2.1)) (2^c):=rJ λw d=>by
   unfold Jm;have k:=G w d;unfold Hb at k;by_cases e:f w=Zz
   ·rw[if_pos e]at k;rw[if_pos e,H_];by_cases e':f (w^^^r.2.1)=Zz
    ·rw[if_pos e',if_pos (k.mpr ((A w d).mpr e'))]
    ·rw[if_neg e',if_neg (λz=>e' ((A w d).mp (k.mp z)))]
   ·rw[if_neg e]at k;rw[if_neg e,if_neg (λz=>e (k.mp z)),if_pos ((dj w d).resolve_left e)];rfl
  rw[e,vf,X1v (F:=Jm f) (t:=λw=>w^^^r.2.1) (λw d=>FP d o) (λw _=>by show w^^^r.2.1^^^r.2.1=w;rw[Fq,JQ,Ow]),b.cnt,Te];lia
end YM
namespace C_
open Fo Fo.Mv Eo Pc
noncomputable def ev (m:Mk):Nat:=(m.1+bn (bp (m.2.1&&&m.2.2)))%2
theorem K8(k f s:Nat):ev (k,f,s)=(k+bn (bp (f&&&s)))%2:=rfl
theorem W4a{x:Mv}(o:Ok x)(b:Br x)(m:Mk):ev (Bm x m)=ev m:=by
 obtain⟨k,f,s⟩:=m;cases x with
 | flip a =>
  show ev ((if s.testBit a.toNat then (k+2)%4 else k),f,s)=_;rw[K8,K8];split<;>lia
 | mix a =>
  show ev (if f.testBit a.toNat && s.testBit a.toNat then (k+2)%4 else k,if f.testBit a.toNat=s.testBit a.toNat then f else fl f a.toNat,if f.testBit a.toNat=s.testBit a.toNat then s else fl s a.toNat)=_;rw[K8,K8];cases hf:f.testBit a.toNat<;>cases hs:s.testBit a.toNat<;>simp[Qs,Oi,hf,hs,Ur]
  ·lia
 | turn a j =>
  have l:0<=a/\1<=j/\j<=7:=o;have i:j.toNat%2=0:=b;show ev (if f.testBit a.toNat then ((k+j.toNat / 2)%4,f,if j.toNat%4=2 then fl s a.toNat else s) else (k,f,s))=_;generalize hJ:j.toNat=J at i;have:J=2\/J=4\/J=6:=by lia
  cases hf:f.testBit a.toNat
  ·rfl
  ·rcases this with rfl | rfl | rfl
   ·simp[K8,Oi,hf];cases bp (f&&&s)<;>simp[bn]<;>lia
   ·simp[K8];lia
   ·simp[K8,Oi,hf];cases bp (f&&&s)<;>simp[bn]<;>lia
 | iff a c =>
  have h:0<=a/\0<=c/\a≠c:=o;have g:a.toNat≠c.toNat:=by lia
  show ev (k,if f.testBit a.toNat then fl f c.toNat else f,if s.testBit c.toNat then fl s a.toNat else s)=_;rw[K8,K8];generalize a.toNat=A at *;generalize c.toNat=C at *;cases hf:f.testBit A<;>cases hs:s.testBit C<;>simp[Qs,Oi,hf,hs,Np g,Np (Ne.symm g)]
 | pair a c =>
  have h:0<=a/\0<=c/\a≠c:=o;have g:a.toNat≠c.toNat:=by lia
  show ev (if f.testBit a.toNat && f.testBit c.toNat then (k+2)%4 else k,f,(if f.testBit c.toNat then fl (if f.testBit a.toNat then fl s c.toNat else s) a.toNat else if f.testBit a.toNat then fl s c.toNat else s))=_;rw[K8,K8];generalize a.toNat=A at *;generalize c.toNat=C at *;cases hf:f.testBit A<;>cases hs:f.testBit C<;>simp[Oi,hf,hs]
  ·lia
 | swap a c =>
  have h:0<=a/\0<=c/\a≠c:=o;have g:a.toNat≠c.toNat:=by lia
  show ev (k,sw f a.toNat c.toNat,sw s a.toNat c.toNat)=_;rw[K8,K8];have e:(sw f a.toNat c.toNat&&&sw s a.toNat c.toNat)=sw (f&&&s) a.toNat c.toNat:=by
   apply vp;intro j;rw[OJ,Rt _ _ _ _ g,Rt _ _ _ _ g,Rt _ _ _ _ g,OJ,OJ,OJ];split
   ·rfl
   ·split<;>rfl
  rw[e,W6y]
 | cross a c d=>exact absurd b id
theorem Xe:∀{row:List Mv} (m:Mk),(∀x∈row,Ok x)->(∀x∈row,Br x)->ev (Al row m)=ev m
 | [],_,_,_=>rfl
 | x::r,m,o,b=>(Xe (row:=r) (Bm x m) (λy a=>o y (.tail _ a)) (λy a=>b y (.tail _ a))).trans (W4a (o x (.head _)) (b x (.head _)) m)
end C_
namespace LK
open Fo Mv Eo C_
noncomputable def bk:Mv->Mv
 | .turn a j=>.turn a (8-j)
 | x=>x
theorem Rm{k:Nat}(h:k<4):((k+2)%4+2)%4=k:=by lia
variable{x:Mv}
theorem W2n(o:Ok x)(b:Br x){m:Mk}(h:m.1<4):Bm (bk x) (Bm x m)=m:=by
 obtain⟨k,f,s⟩:=m;have h:k<4:=h;cases x with
 | flip a =>
  show (if s.testBit a.toNat then ((if s.testBit a.toNat then (k+2)%4 else k)+2)%4 else (if s.testBit a.toNat then (k+2)%4 else k),f,s)=_;by_cases c:s.testBit a.toNat=true
  ·simp only[c,JC];rw[Rm h]
  ·simp only[c,HY];simp
 | mix a =>
  by_cases c:f.testBit a.toNat=true<;>by_cases d:s.testBit a.toNat=true<;>simp[bk,Bm,c,d,Ur,Eo.YB,Rm h]
 | turn a j =>
  obtain⟨g,q,r⟩:0<=a/\1<=j/\j<=7:=o;have b:j.toNat%2=0:=b;have p:j=2\/j=4\/j=6:=by lia
  by_cases c:f.testBit a.toNat=true
  ·rcases p with rfl | rfl | rfl<;>simp[bk,Bm,c,Eo.YB]<;>lia
  ·simp[bk,Bm,c]
 | iff a b' =>
  obtain⟨g,i,n⟩:0<=a/\0<=b'/\a≠b':=o;have e:a.toNat≠b'.toNat:=by lia
  by_cases c:f.testBit a.toNat=true<;>by_cases d:s.testBit b'.toNat=true<;>simp[bk,Bm,c,d,Np e,Np e.symm,Eo.YB]
 | pair a b' =>
  obtain⟨g,i,n⟩:0<=a/\0<=b'/\a≠b':=o;have l:∀w,fl (fl w a.toNat) b'.toNat=fl (fl w b'.toNat) a.toNat:=λw=>by
   unfold fl;rw[Fq,JN (2^a.toNat),<-Fq]
  by_cases c:f.testBit a.toNat=true<;>by_cases d:f.testBit b'.toNat=true<;>simp[bk,Bm,c,d,Eo.YB,l,Rm h]
 | swap a b' =>
  obtain⟨g,i,n⟩:0<=a/\0<=b'/\a≠b':=o;have e:a.toNat≠b'.toNat:=by lia
  simp[bk,Bm,W5d e]
 | cross a b' d=>exact b.elim
theorem Pu:∀(r t:List Mv) (m:Mk),Al (r++t) m=Al t (Al r m)
 | [],_,_=>rfl
 | x::r,t,m=>Pu r t (Bm x m)
theorem W6z{c:Nat}(o:Ej c x):Ej c (bk x):=by
 cases x with
 | turn a j =>
  obtain⟨⟨b,d,e⟩,h⟩:=o;exact⟨⟨b,by lia,by lia⟩,h⟩
 | _=>exact o
theorem W7a(o:Ok x)(b:Br x):Br (bk x):=by
 cases x with
 | turn a j =>
  obtain⟨d,c,e⟩:0<=a/\1<=j/\j<=7:=o;have b:j.toNat%2=0:=b;show (8-j).toNat%2=0;lia
 | _=>exact b
end LK
namespace ak
open Fo Mv Eo C_ LK
noncomputable def K4 (m:Mk)(e:Nat):List Mv:=if m.2.1.testBit e then (if m.2.2.testBit e then [.turn (e:Int) 2,.mix (e:Int)] else [.mix (e:Int)]) else []
noncomputable def low:Nat->Nat->Nat
 | 0,_=>0
 | k+1,w=>if w%2=1 then 0 else low k (w / 2)+1
noncomputable def rg (j n:Nat):List Nat:=(List.range n).map (·+j)
noncomputable def K5 (m:Mk)(j c:Nat):List Mv:=(rg j (c-j)).flatMap (K4 m)
noncomputable def ZK (n:Mk)(j:Nat):Nat:=j+low 6 (n.2.2 >>> j)
noncomputable def s2 (n:Mk)(j c:Nat):List Mv:=((List.range c).filter λe=>decide (e≠ZK n j) && n.2.2.testBit e).map λ(e:Nat)=>Mv.iff (e:Int) (ZK n j:Int)
noncomputable def s3 (n:Mk)(j:Nat):List Mv:=if ZK n j=j then [] else [.swap (j:Int) (ZK n j:Int)]
noncomputable def s4 (n:Mk)(j c:Nat):List Mv:=if (Al (s2 n j c++s3 n j) n).1=0 then [] else [.flip (j:Int)]
noncomputable def JM (n:Mk)(j c:Nat):List Mv:=s2 n j c++s3 n j++s4 n j c
noncomputable def K6 (m:Mk)(j c:Nat):List Mv:=K5 m j c++JM (Al (K5 m j c) m) j c
noncomputable def okb (j c:Nat):Mv->Bool
 | .flip a=>decide ((j:Int)<=a) && decide (a<(c:Int))
 | .mix a=>decide ((j:Int)<=a) && decide (a<(c:Int))
 | .turn a k=>decide ((j:Int)<=a) && decide (a<(c:Int)) && (decide (k=2) || decide (k=4) || decide (k=6))
 | .iff a b=>decide ((j:Int)<=a) && decide (a<(c:Int)) && decide ((j:Int)<=b) && decide (b<(c:Int)) && decide (a≠b)
 | .swap a b=>decide ((j:Int)<=a) && decide (a<(c:Int)) && decide ((j:Int)<=b) && decide (b<(c:Int)) && decide (a≠b)
 | _=>false
noncomputable def allM (n:Nat)(p:Nat->Nat->Bool):Bool:=(List.range 2).all λq=>(List.range n).all λw=>p q w
end ak
namespace Jr
open Fo Mv Eo C_ LK ak
noncomputable def cm (m n:Mk):Bool:=bp (m.2.1&&&n.2.2) ^^ bp (m.2.2&&&n.2.1)
variable{x:Mv}
theorem W4i(o:Ok x)(b:Br x)(m n:Mk):cm (Bm x m) (Bm x n)=cm m n:=by
 obtain⟨k,f,s⟩:=m;obtain⟨l,g,t⟩:=n;cases x with
 | flip a=>rfl
 | mix a =>
  show (bp ((if f.testBit a.toNat=s.testBit a.toNat then f else fl f a.toNat)&&&(if g.testBit a.toNat=t.testBit a.toNat then t else fl t a.toNat)) ^^ bp ((if f.testBit a.toNat=s.testBit a.toNat then s else fl s a.toNat)&&&(if g.testBit a.toNat=t.testBit a.toNat then g else fl g a.toNat)))=(bp (f&&&t) ^^ bp (s&&&g));cases hf:f.testBit a.toNat<;>cases hs:s.testBit a.toNat<;>cases hg:g.testBit a.toNat<;>cases ht:t.testBit a.toNat<;>simp[Qs,Oi,Ur,hf,hs,hg,ht]
 | turn a j =>
  show cm (if f.testBit a.toNat then _ else _) (if g.testBit a.toNat then _ else _)=_;cases hf:f.testBit a.toNat<;>cases hg:g.testBit a.toNat<;>by_cases hj:j.toNat%4=2<;>simp[cm,hj,Qs,Oi,hf,hg]
 | iff a b' =>
  obtain⟨i,h,n⟩:0<=a/\0<=b'/\a≠b':=o;have c:a.toNat≠b'.toNat:=by lia
  show (bp ((if f.testBit a.toNat then fl f b'.toNat else f)&&&(if t.testBit b'.toNat then fl t a.toNat else t)) ^^ bp ((if s.testBit b'.toNat then fl s a.toNat else s)&&&(if g.testBit a.toNat then fl g b'.toNat else g)))=(bp (f&&&t) ^^ bp (s&&&g));cases hf:f.testBit a.toNat<;>cases hs:s.testBit b'.toNat<;>cases hg:g.testBit a.toNat<;>cases ht:t.testBit b'.toNat<;>simp[Qs,Oi,Np c,Np c.symm,hf,hs,hg,ht]
 | pair a b' =>
  show (bp (f&&&(if g.testBit b'.toNat then fl (if g.testBit a.toNat then fl t b'.toNat else t) a.toNat else if g.testBit a.toNat then fl t b'.toNat else t)) ^^ bp ((if f.testBit b'.toNat then fl (if f.testBit a.toNat then fl s b'.toNat else s) a.toNat else if f.testBit a.toNat then fl s b'.toNat else s)&&&g))=(bp (f&&&t) ^^ bp (s&&&g));cases hf:f.testBit a.toNat<;>cases hs:f.testBit b'.toNat<;>cases hg:g.testBit a.toNat<;>cases ht:g.testBit b'.toNat<;>simp[Qs,Oi,hf,hs,hg,ht]
 | swap a b' =>
  obtain⟨i,h,n⟩:0<=a/\0<=b'/\a≠b':=o;have c:a.toNat≠b'.toNat:=by lia
  show (bp (sw f a.toNat b'.toNat&&&sw t a.toNat b'.toNat) ^^ bp (sw s a.toNat b'.toNat&&&sw g a.toNat b'.toNat))=(bp (f&&&t) ^^ bp (s&&&g));have e:∀x y:Nat,bp (sw x a.toNat b'.toNat&&&sw y a.toNat b'.toNat)=bp (x&&&y):=λx y=>by
   unfold sw;cases hf:x.testBit a.toNat<;>cases hs:x.testBit b'.toNat<;>cases hg:y.testBit a.toNat<;>cases ht:y.testBit b'.toNat<;>simp[Qs,Oi,Np c,Np c.symm,Ur,hf,hs,hg,ht]
  rw[e,e]
 | cross a b' d=>exact b.elim
theorem aB:∀{row:List Mv} (m n:Mk),(∀x∈row,Ok x)->(∀x∈row,Br x)->cm (Al row m) (Al row n)=cm m n
 | [],_,_,_,_=>rfl
 | x::r,m,n,o,b=>(aB (row:=r) (Bm x m) (Bm x n) (λy a=>o y (.tail _ a)) (λy a=>b y (.tail _ a))).trans (W4i (o x (.head _)) (b x (.head _)) m n)
theorem XD(m:Mk)(i:Nat):cm m (0,0,2^i)=m.2.1.testBit i:=by
 unfold cm;show (bp (m.2.1&&&2^i) ^^ bp (m.2.2&&&0))=_;rw[GX,oh,Tf,aA,Bool.xor_false]
theorem Rx{j c:Nat}(h:okb j c x=true):Ej c x/\Br x/\∀a∈x.cells,(j:Int)<=a:=by
 cases x<;>simp only[okb,GF,RT,Jk,Mx]at h
 ·exact⟨⟨by show (0:Int)<=_;lia,λy b=>by simp[Mv.cells]at b;lia⟩,trivial,λy b=>by simp[Mv.cells]at b;lia⟩
 ·exact⟨⟨by show (0:Int)<=_;lia,λy b=>by simp[Mv.cells]at b;lia⟩,trivial,λy b=>by simp[Mv.cells]at b;lia⟩
 ·rename_i a k;obtain⟨⟨h1,h2⟩,d⟩:=h;refine⟨⟨⟨by lia,by lia,by lia⟩,λy b=>by simp[Mv.cells]at b;lia⟩,?_,λy b=>by simp[Mv.cells]at b;lia⟩;show k.toNat%2=0;lia
 ·exact⟨⟨⟨by lia,by lia,by lia⟩,λy b=>by simp[Mv.cells]at b;lia⟩,trivial,λy b=>by simp[Mv.cells]at b;lia⟩
 ·exact⟨⟨⟨by lia,by lia,by lia⟩,λy b=>by simp[Mv.cells]at b;lia⟩,trivial,λy b=>by simp[Mv.cells]at b;lia⟩
theorem X8h{m:Mk}(h:∀a∈x.cells,m.2.1.testBit a.toNat=false/\m.2.2.testBit a.toNat=false):Bm x m=m:=by
 obtain⟨k,f,s⟩:=m;cases x with
 | flip a =>
  have:=h a (by simp[Mv.cells]);simp[Bm,this.2]
 | mix a =>
  have:=h a (by simp[Mv.cells]);simp[Bm,this.1,this.2]
 | turn a j =>
  have:=h a (by simp[Mv.cells]);simp[Bm,this.1]
 | iff a b =>
  have h1:=h a (by simp[Mv.cells]);have h2:=h b (by simp[Mv.cells]);simp[Bm,h1.1,h2.2]
 | pair a b =>
  have h1:=h a (by simp[Mv.cells]);have h2:=h b (by simp[Mv.cells]);simp[Bm,h1.1,h2.1]
 | swap a b =>
  have h1:=h a (by simp[Mv.cells]);have h2:=h b (by simp[Mv.cells]);simp[Bm,sw,h1.1,h1.2,h2.1,h2.2]
 | cross a b d=>rfl
theorem vG{j c i:Nat}(hi:i<j){m:Mk}(hm:m=(0,0,2^i)\/m=(0,2^i,0)):∀{row:List Mv},(∀x∈row,okb j c x=true)->Al row m=m
 | [],_=>rfl
 | x::r,h=>by
  have ox:=Rx (h x (.head _));have:Bm x m=m:=X8h λa d=>by
   have:=ox.2.2 a d;have b:i≠a.toNat:=by lia
   rcases hm with rfl | rfl
   ·exact⟨Oc _,by show (2^i).testBit _=_;rw[M4];exact Dh b⟩
   ·exact⟨by show (2^i).testBit _=_;rw[M4];exact Dh b,Oc _⟩
  show Al r (Bm x m)=m;rw[this];exact vG hi hm λy e=>h y (.tail _ e)
noncomputable def bwd (row:List Mv):List Mv:=row.reverse.map bk
theorem Xg:∀{row:List Mv}{m:Mk},(∀x∈row,Ok x)->(∀x∈row,Br x)->m.1<4->(∀x (n:Mk),x∈row->n.1<4->(Bm x n).1<4)->Al (bwd row) (Al row m)=m
 | [],_,_,_,_,_=>rfl
 | x::r,m,o,b,h,k=>by
  show Al ((x::r).reverse.map bk) (Al r (Bm x m))=m;rw[List.reverse_cons,Ca,Pu];rw[show Al (r.reverse.map bk) (Al r (Bm x m))=Bm x m from Xg (λy a=>o y (.tail _ a)) (λy a=>b y (.tail _ a)) (k x m (.head _) h) λy n a=>k y n (.tail _ a)];exact W2n (o x (.head _)) (b x (.head _)) h
end Jr
namespace Uz
open Fo Mv Eo C_ LK ak Jr
structure Fp (c:Nat) (m:Mk):Prop where
 k:m.1<4
 f:m.2.1<2^c
 s:m.2.2<2^c
theorem W0c{n:Nat}{p:Nat->Nat->Bool}(h:allM n p=true){q w:Nat}(hq:q<2)(hw:w<n):p q w=true:=by
 unfold allM at h;rw[Gz]at h;have h1:=h q (Ew.mpr hq);rw[Gz]at h1;exact h1 w (Ew.mpr hw)
def Sm (i:Nat)(m n:Mk):Prop:=m.2.1.testBit i=n.2.1.testBit i/\m.2.2.testBit i=n.2.2.testBit i
variable{e:Nat}
theorem W2p{m n:Mk}(h:Sm e n m):(Al (K4 m e) n).2.1.testBit e=false/\(Al (K4 m e) n).2.2.testBit e=(m.2.1.testBit e || m.2.2.testBit e)/\∀i,i≠e->Sm i (Al (K4 m e) n) n:=by
 obtain⟨k,f,s⟩:=n;obtain⟨h1,h2⟩:f.testBit e=m.2.1.testBit e/\s.testBit e=m.2.2.testBit e:=h;unfold K4;cases hf:m.2.1.testBit e<;>cases hs:m.2.2.testBit e<;>rw[hf]at h1<;>rw[hs]at h2
 ·exact⟨h1,by show s.testBit e=_;rw[h2];rfl,λi hi=>⟨U,U⟩⟩
 ·exact⟨h1,by show s.testBit e=_;rw[h2];rfl,λi hi=>⟨U,U⟩⟩
 ·simp[Al,Bm,h1,h2,Ur,Sm];intro i hi;rw[Np hi,Np hi];exact⟨U,U⟩
 ·simp[Al,Bm,h1,h2,Ur,Sm,Eo.YB];intro i hi;rw[Np hi]
theorem nC{m:Mk}:∀{es:W3}{n:Mk},es.Nodup->(∀e∈es,Sm e n m)->(∀e∈es,(Al (es.flatMap (K4 m)) n).2.1.testBit e=false/\(Al (es.flatMap (K4 m)) n).2.2.testBit e=(m.2.1.testBit e || m.2.2.testBit e))/\∀i,i∉es->Sm i (Al (es.flatMap (K4 m)) n) n
 | [],n,_,_=>⟨(λe a=>by cases a),λi _=>⟨rfl,rfl⟩⟩
 | x::es,n,b,h=>by
  obtain⟨nx,b⟩:=Qa.mp b;obtain⟨g,j,c⟩:=W2p (h x (.head _));have d:=nC (m:=m) (es:=es) (n:=Al (K4 m x) n) b λe a=>by
   have f:e≠x:=λz=>nx (z ▸ a);exact⟨(c e f).1.trans (h e (.tail _ a)).1,(c e f).2.trans (h e (.tail _ a)).2⟩
  rw[List.flatMap_cons,Pu];refine⟨λe a=>?_,λi hi=>?_⟩
  ·rcases Dg.mp a with rfl | a
   ·have:=d.2 e nx;exact⟨this.1.trans g,this.2.trans j⟩
   ·exact d.1 e a
  ·have h1:=d.2 i λz=>hi (.tail _ z);have h2:=c i λz=>hi (z ▸ .head _);exact⟨h1.1.trans h2.1,h1.2.trans h2.2⟩
variable{j:Nat}
theorem Io{n:Nat}:e∈rg j n↔j<=e/\e<j+n:=by
 unfold rg;rw[El];constructor
 ·rintro ⟨a,b,rfl⟩;have:=Ew.mp b;lia
 ·rintro ⟨h1,h2⟩;exact⟨e-j,Ew.mpr (by lia),by lia⟩
theorem zu(j n:Nat):(rg j n).Nodup:=by
 unfold rg;exact List.Pairwise.map _ (λa b h=>by lia) List.nodup_range
theorem xK{f:Nat->List Mv}{k:Nat}(h:∀e,(f e).length<=k):∀es:List Nat,(es.flatMap f).length<=k*es.length
 | []=>Ed _
 | x::es=>by
  have:=xK h es;have:=h x;rw[List.flatMap_cons,DP,Ob,Nat.mul_add];lia
theorem W6w{f:Nat->List Mv}{c:Nat}{es:W3}(h:∀e,j<=e->e<c->∀x∈f e,okb j c x=true)(he:∀e∈es,j<=e/\e<c):∀x∈es.flatMap f,okb j c x=true:=λx a=>by
 obtain⟨e,h1,h2⟩:=List.mem_flatMap.mp a;exact h e (he e h1).1 (he e h1).2 x h2
theorem W2o{m:Mk}{c:Nat}(h1:j<=e)(h2:e<c):∀x∈K4 m e,okb j c x=true:=λx d=>by
 unfold K4 at d;have a:decide ((j:Int)<=(e:Int))=true:=Dr (by lia);have b:decide ((e:Int)<(c:Int))=true:=Dr (by lia);split at d
 ·split at d
  ·rcases Dg.mp d with rfl | d
   ·simp[okb,a,b];lia
   ·rw[DK.mp d];simp[okb];lia
  ·rw[DK.mp d];simp[okb];lia
 ·cases d
theorem X8k(m:Mk)(e:Nat):(K4 m e).length<=2:=by
 unfold K4;split
 ·split<;>simp
 ·exact Ed _
theorem R5{c:Nat}(hb:∀(x:Mv) (m:Mk),Ej c x->Fp c m->Fp c (Bm x m)):∀{row:List Mv}{m:Mk},(∀x∈row,Ej c x)->Fp c m->Fp c (Al row m)
 | [],_,_,h=>h
 | x::r,m,o,h=>R5 hb (row:=r) (λy a=>o y (.tail _ a)) (hb x m (o x (.head _)) h)
section
variable {c j:Nat}{m:Mk} (c6:c<=6) (jc:j<c) (hb:∀(x:Mv) (m:Mk),Ej c x->Fp c m->Fp c (Bm x m)) (b:Fp c m) (e:ev m=0) (z:∀i,i<j->m.2.1.testBit i=false/\m.2.2.testBit i=false)
include c6 jc hb b e z
end
end Uz
namespace M84
open Fo Mv Eo C_ LK Pc
end M84
namespace pL
open Fo Mv Eo C_ LK Jr Pc
end pL
namespace M86
open Fo Mv Eo C_ LK Jr pL Pc
end M86
namespace YQ
open Fo Mv Eo C_ LK Jr pL M86 Pc
theorem Z1(x:Mv)(n:Mk)(h:n.1<4):(Bm x n).1<4:=by
 obtain⟨k,f,s⟩:=n;have h:k<4:=h;cases x<;>simp only[Bm]<;>(repeat' split)<;>first | exact h | exact Eu _ (by decide)
end YQ
namespace Fl
open Fo Mv Eo C_ LK ak Jr Uz
noncomputable def cT (j c q w:Nat):Bool :=
 let m:Mk:=(q*2,0,w)
 (w >>> j == 0) || (Al (JM m j c) m == (0,0,2^j) && (JM m j c).all (okb 0 c) && decide ((JM m j c).length<=c+1) && (List.range j).all λi=>Al (JM m j c) (0,0,2^i) == (0,0,2^i))
theorem W4j:((List.range 7).all λc=>(List.range c).all λj=>allM (2^c) (cT j c))=true:=by decide +kernel
variable{c i:Nat}
theorem big{x:Nat}(h:x<2^c)(hi:c<=i):x.testBit i=false:=qM (Cu h (Fw (by decide) hi))
variable{j:Nat}
theorem W2b{x:Mv}(h:okb j c x=true):okb 0 c x=true:=by
 cases x<;>simp only[okb,GF,RT,Jk,Mx]at h ⊢<;>lia
section
variable {c j:Nat}{m:Mk} (c6:c<=6) (jc:j<c) (hb:∀(x:Mv) (m:Mk),Ej c x->Fp c m->Fp c (Bm x m)) (b:Fp c m) (e:ev m=0) (z:∀i,i<j->m.2.1.testBit i=false)
include c6 jc hb b e z
theorem W2r(nz:¬ (m.2.1=0/\m.2.2 >>> j=0)):(Al (K5 m j c) m).2.2 >>> j≠0:=by
 have A:=nC (m:=m) (n:=m) (zu j (c-j)) λe _=>⟨U,U⟩;have ins:∀i,j<=i->i<c->(Al (K5 m j c) m).2.2.testBit i=(m.2.1.testBit i || m.2.2.testBit i):=λi h1 h2=>(A.1 i (Io.mpr (by lia))).2;intro h;have a:∀i,j<=i->m.2.1.testBit i=false/\m.2.2.testBit i=false:=λi h1=>by
  by_cases h2:c<=i
  ·exact⟨big b.f h2,big b.s h2⟩
  ·have g:=ins i h1 (by lia);have d:((Al (K5 m j c) m).2.2 >>> j).testBit (i-j)=(Al (K5 m j c) m).2.2.testBit i:=by rw[Y8,show j+(i-j)=i by lia]
   rw[h,Oc]at d;rw[<-d]at g;exact Bool.or_eq_false_iff.mp g.symm
 refine nz ⟨?_,?_⟩<;>apply M5<;>intro i<;>rw[Oc]
 ·by_cases h1:i<j
  ·exact z i h1
  ·exact(a i (by lia)).1
 ·rw[Y8];exact(a (j+i) (by lia)).2
theorem iB(nz:¬ (m.2.1=0/\m.2.2 >>> j=0)):Al (K6 m j c) m=(0,0,2^j)/\(∀x∈K6 m j c,okb 0 c x=true)/\(K6 m j c).length<=3*c+1/\∀i,i<j->Al (K6 m j c) (0,0,2^i)=(0,0,2^i):=by
 have o1:∀x∈K5 m j c,okb j c x=true:=W6w (λe h1 h2=>W2o h1 h2) λe g=>by have:=Io.mp g;lia
 have d:=W2r c6 jc hb b e z nz;have A:=nC (m:=m) (n:=m) (zu j (c-j)) λe _=>⟨U,U⟩;have bn:=R5 hb (λx a=>(Rx (o1 x a)).1) b;have en:ev (Al (K5 m j c) m)=0:=(Xe m (λx a=>(Rx (o1 x a)).1.1) λx a=>(Rx (o1 x a)).2.1).trans e;have out:∀i,i<j\/c<=i->(Al (K5 m j c) m).2.1.testBit i=false:=λi hi=>by
  have:=A.2 i λq=>by have:=Io.mp q;lia
  exact this.1.trans (hi.elim (z i) λh=>big b.f h)
 have ins:∀i,j<=i->i<c->(Al (K5 m j c) m).2.1.testBit i=false:=λi h1 h2=>(A.1 i (Io.mpr (by lia))).1;have off:∀i,i<j->Al (K5 m j c) (0,0,2^i)=(0,0,2^i):=λi hi=>vG hi (.inl rfl) o1;unfold K6;have t:(K5 m j c).length<=2*(c-j):=by
  have:=xK (X8k m) (rg j (c-j));have r:(rg j (c-j)).length=c-j:=by unfold rg;rw[Az,Tp]
  rw[r]at this;exact this
 rw[Pu];generalize Al (K5 m j c) m=n at bn en out ins d;obtain⟨k,f,s⟩:=n;have o:f=0:=by
  apply M5;intro i;rw[Oc];by_cases h:j<=i/\i<c
  ·exact ins i h.1 h.2
  ·exact out i (by lia)
 subst o;have k2:k%2=0:=by
  have en:(k+C_.bn (bp (0&&&s)))%2=0:=en;rw[RK,aA]at en;exact en
 have p:k<4:=bn.k;have h:=W4j;rw[Gz]at h;have h:=h c (Ew.mpr (by lia));rw[Gz]at h;have h:=W0c (h j (Ew.mpr jc)) (q:=k / 2) (w:=s) (by lia) bn.s;unfold cT at h;dsimp only at h;rw[show k / 2*2=k by lia]at h;rcases RT _ _ ▸ h with h | h
 ·rw[beq_iff_eq]at h;exact absurd h d
 ·rw[GF,GF,GF,beq_iff_eq,Jk,Gz,Gz]at h;obtain⟨⟨⟨h1,h2⟩,u⟩,l⟩:=h;refine⟨h1,λx a=>(DR.mp a).elim (λq=>W2b (o1 x q)) (h2 x),by rw[DP];lia,λi hi=>?_⟩;rw[Pu,off i hi];exact eq_of_beq (l i (Ew.mpr hi))
end
theorem xd(a d:Nat):a^^^d^^^d=a:=by rw[Fq,JQ,Ow]
theorem xl(a b d:Nat):a^^^d^^^b=a^^^b^^^d:=by rw[Fq,JN d b,<-Fq]
theorem xr(a b d:Nat):a^^^(b^^^d)=a^^^b^^^d:=(Fq _ _ _).symm
theorem yN(f g a b:Nat):sw (f^^^g) a b=sw f a b^^^sw g a b:=by
 unfold sw;rw[Mw,Mw];cases f.testBit a<;>cases g.testBit a<;>cases f.testBit b<;>cases g.testBit b<;>simp[fl,xd,xl,xr]
theorem X8i(x:Mv)(k:Nat)(m n:Mk):(Bm x (k,m.2.1^^^n.2.1,m.2.2^^^n.2.2)).2=((Bm x m).2.1^^^(Bm x n).2.1,(Bm x m).2.2^^^(Bm x n).2.2):=by
 obtain⟨k1,f,s⟩:=m;obtain⟨k2,g,t⟩:=n;cases x with
 | flip a=>rfl
 | mix a =>
  unfold Bm;dsimp only;rw[Mw,Mw];cases f.testBit a.toNat<;>cases s.testBit a.toNat<;>cases g.testBit a.toNat<;>cases t.testBit a.toNat<;>simp[fl,xd,xl,xr]
 | turn a j =>
  unfold Bm;dsimp only;rw[Mw];by_cases h:j.toNat%4=2
  ·simp only[if_pos h];cases f.testBit a.toNat<;>cases g.testBit a.toNat<;>simp[fl,xd,xl,xr]
  ·simp only[if_neg h];cases f.testBit a.toNat<;>cases g.testBit a.toNat<;>simp
 | iff a b =>
  unfold Bm;dsimp only;rw[Mw,Mw];cases f.testBit a.toNat<;>cases g.testBit a.toNat<;>cases s.testBit b.toNat<;>cases t.testBit b.toNat<;>simp[fl,xd,xl,xr]
 | pair a b =>
  unfold Bm;dsimp only;rw[Mw,Mw];cases f.testBit a.toNat<;>cases g.testBit a.toNat<;>cases f.testBit b.toNat<;>cases g.testBit b.toNat<;>simp[fl,xd,xl,xr]
 | swap a b =>
  unfold Bm;dsimp only;rw[yN,yN]
 | cross a b d=>rfl
theorem X8g(x:Mv){m n:Mk}(h:m.2=n.2):(Bm x m).2=(Bm x n).2:=by
 obtain⟨k1,f,s⟩:=m;obtain⟨k2,g,t⟩:=n;cases (show f=g from congrArg Prod.fst h);cases (show s=t from congrArg Prod.snd h);cases x with
 | turn a j =>
  unfold Bm;dsimp only;cases f.testBit a.toNat<;>rfl
 | _=>rfl
theorem Xo:∀(r:List Mv) {m n:Mk},m.2=n.2->(Al r m).2=(Al r n).2
 | [],_,_,h=>h
 | x::r,_,_,h=>Xo r (X8g x h)
theorem Xn:∀(r:List Mv) (k:Nat) (m n:Mk),(Al r (k,m.2.1^^^n.2.1,m.2.2^^^n.2.2)).2=((Al r m).2.1^^^(Al r n).2.1,(Al r m).2.2^^^(Al r n).2.2)
 | [],_,_,_=>rfl
 | x::r,k,m,n=>by
  have h:=Xn r k (Bm x m) (Bm x n);have e:=Xo r (m:=Bm x (k,m.2.1^^^n.2.1,m.2.2^^^n.2.2)) (n:=(k,(Bm x m).2.1^^^(Bm x n).2.1,(Bm x m).2.2^^^(Bm x n).2.2)) (X8i x k m n);exact e.trans h
theorem Zi(r:List Mv)(k:Nat):(Al r (k,0,0)).2=(0,0):=by
 have h:=Xn r k (k,0,0) (k,0,0);rw[JQ,JQ,JQ]at h;exact h
noncomputable def Em (ms:List Mk)(c:Nat):Nat->List Mv
 | 0=>[]
 | j+1=>Em ms c j++K6 (Al (Em ms c j) (ms.getD j (0,0,0))) j c
noncomputable def sg2 (cb:Nat->Bool):Nat->Nat
 | 0=>0
 | n+1=>if cb n then sg2 cb n^^^2^n else sg2 cb n
theorem yu(s:Nat):∀n i,(sg2 (λk=>s.testBit k) n).testBit i=(decide (i<n) && s.testBit i)
 | 0,i=>by simp[sg2]
 | n+1,i=>by
  unfold sg2;have a:=yu s n i;cases h:s.testBit n with
  | true =>
   rw[if_pos rfl,Mw,a,M4];by_cases e:n=i
   ·subst e;simp[h]
   ·by_cases l:i<n
    ·rw[Dr l,Dr (show i<n+1 by lia),Dh e];simp
    ·rw[Dh l,Dh (show ¬ i<n+1 by lia),Dh e];simp
  | false =>
   rw[if_neg (by decide),a];by_cases e:n=i
   ·subst e;simp[h]
   ·by_cases l:i<n
    ·rw[Dr l,Dr (show i<n+1 by lia)]
    ·rw[Dh l,Dh (show ¬ i<n+1 by lia)]
theorem fget(ms:List Mk)(j:Nat):(CT.Du ms).getD j 0=(ms.getD j (0,0,0)).2.1:=by
 unfold CT.Du;rw[Bp,Bp,Bu];cases ms[j]?<;>rfl
theorem Hj(ms:List Mk)(j:Nat):(CT.Di ms).getD j 0=(ms.getD j (0,0,0)).2.2:=by
 unfold CT.Di;rw[Bp,Bp,Bu];cases ms[j]?<;>rfl
theorem behind{ms:List Mk}{r:List Mv}(cb:Nat->Bool):∀n,(∀i,i<n->(Al r (ms.getD i (0,0,0))).2=(0,2^i))->(Al r (0,CT.xs (CT.Du ms) cb n,CT.xs (CT.Di ms) cb n)).2=(0,sg2 cb n)
 | 0,_=>Zi r 0
 | n+1,h=>by
  have a:=behind cb n λi hi=>h i (by lia);have b:=h n (by lia);unfold CT.xs sg2;cases cb n with
  | false=>exact a
  | true =>
   rw[if_pos rfl,if_pos rfl,if_pos rfl,fget,Hj];have:=Xn r 0 (0,CT.xs (CT.Du ms) cb n,CT.xs (CT.Di ms) cb n) (ms.getD n (0,0,0));rw[a,b]at this;rw[show (0:Nat)^^^0=0 from rfl]at this;exact this
theorem W0y{fs:W3}{a b:Nat->Bool}:∀n,(∀i,i<n->a i=b i)->CT.xs fs a n=CT.xs fs b n:=λn h=>CT.Py n λj c=>⟨h j c,U⟩
theorem yU{fs:W3}{a:Nat->Bool}{n:Nat}:∀d,(∀i,n<=i->a i=false)->CT.xs fs a (n+d)=CT.xs fs a n
 | 0,_=>rfl
 | d+1,h=>by
  show (if a (n+d) then CT.xs fs a (n+d)^^^fs.getD (n+d) 0 else CT.xs fs a (n+d))=_;rw[h (n+d) (by lia),if_neg (by decide)];exact yU d h
variable{ms:List Mk}{r:List Mv}
theorem lG(I:CT.Indep ms)(hj:j<ms.length)(inv:∀m:Mk,m.1<4->(Al r m).2=(0,0)->m.2=(0,0))(f:∀i,i<j->(Al r (ms.getD i (0,0,0))).2=(0,2^i)):¬ ((Al r (ms.getD j (0,0,0))).2.1=0/\(Al r (ms.getD j (0,0,0))).2.2 >>> j=0):=by
 rintro ⟨h1,h2⟩;generalize hs:(Al r (ms.getD j (0,0,0))).2.2=s at h2;have e:(Al r (ms.getD j (0,0,0))).2=(0,s):=Prod.ext h1 hs;have b:=behind (ms:=ms) (r:=r) (λk=>s.testBit k) j f;have es:sg2 (λk=>s.testBit k) j=s:=by
  apply M5;intro i;rw[yu];by_cases l:i<j
  ·rw[Dr l];rfl
  ·rw[Dh l];have:=congrArg (λx=>x.testBit (i-j)) h2;rw[Y8,Oc,show j+(i-j)=i by lia]at this;rw[this];rfl
 rw[es]at b;have l:=Xn r 0 (0,CT.xs (CT.Du ms) (λk=>s.testBit k) j,CT.xs (CT.Di ms) (λk=>s.testBit k) j) (ms.getD j (0,0,0));rw[b,e]at l;have z:=inv _ (show (0:Nat)<4 by decide) (l.trans (by rw[JQ,JQ]));have c:CT.xs (CT.Du ms) (λk=>s.testBit k) j^^^(ms.getD j (0,0,0)).2.1=0:=congrArg Prod.fst z;have g:CT.xs (CT.Di ms) (λk=>s.testBit k) j^^^(ms.getD j (0,0,0)).2.2=0:=congrArg Prod.snd z;have a:∀fs:List Nat,CT.xs fs (λk=>if k<j then s.testBit k else decide (k=j)) ms.length=CT.xs fs (λk=>s.testBit k) j^^^fs.getD j 0:=λfs=>by
  obtain⟨d,hd⟩:∃d,ms.length=j+1+d:=⟨ms.length-(j+1),by lia⟩;rw[hd,yU (n:=j+1) d λi hi=>by rw[if_neg (by lia),Dh (by lia)]];show (if (if j<j then s.testBit j else decide (j=j)) then CT.xs fs _ j^^^fs.getD j 0 else CT.xs fs _ j)=_;rw[if_neg (Mu j),Dr rfl,if_pos rfl,W0y j λi hi=>by rw[if_pos hi]]
 have:=I (λk=>if k<j then s.testBit k else decide (k=j)) (by rw[a,fget];exact c) (by rw[a,Hj];exact g) j hj;rw[if_neg (Mu j),Dr rfl]at this;cases this
structure Ux (ms:List Mk) (c:Nat):Prop where
 bd:∀m∈ms,Fp c m
 ev:∀m∈ms,C_.ev m=0
 cm:∀m∈ms,∀n∈ms,Jr.cm m n=false
 ind:CT.Indep ms
theorem getD_mem(h:j<ms.length):ms.getD j (0,0,0)∈ms:=by
 rw[Bp,Cm h];exact Oa h
theorem Tc{row:List Mv}(h:∀x∈row,okb 0 c x=true):(∀x∈row,Ej c x)/\(∀x∈row,Ok x)/\∀x∈row,Br x:=⟨λx a=>(Rx (h x a)).1,λx a=>(Rx (h x a)).1.1,λx a=>(Rx (h x a)).2.1⟩
theorem X9a(h:∀x∈r,okb 0 c x=true)(m:Mk)(m4:m.1<4)(e:(Al r m).2=(0,0)):m.2=(0,0):=by
 have b:=Xg (Tc h).2.1 (Tc h).2.2 m4 λx n _ q=>YQ.Z1 x n q;rw[<-b];exact(Xo (bwd r) (m:=Al r m) (n:=((Al r m).1,0,0)) e).trans (Zi _ _)
structure Pre (m:Mk) (c j:Nat):Prop where
 bd:Fp c m
 ev:C_.ev m=0
 z:∀i,i<j->m.2.1.testBit i=false
 nz:¬ (m.2.1=0/\m.2.2 >>> j=0)
 jc:j<c
theorem W1q(hb:∀(x:Mv) (m:Mk),Ej c x->Fp c m->Fp c (Bm x m))(T:Ux ms c)(hj:j<ms.length)(jc:j<=c)(ok:∀x∈r,okb 0 c x=true)(fx:∀i,i<j->Al r (ms.getD i (0,0,0))=(0,0,2^i)):Pre (Al r (ms.getD j (0,0,0))) c j:=by
 obtain⟨v,o,b⟩:=Tc ok;have bd:=R5 hb v (T.bd _ (getD_mem hj));have z:∀i,i<j->(Al r (ms.getD j (0,0,0))).2.1.testBit i=false:=λi hi=>by
  have h:=aB (row:=r) (ms.getD j (0,0,0)) (ms.getD i (0,0,0)) o b;rw[fx i hi,T.cm _ (getD_mem hj) _ (getD_mem (show i<ms.length by lia)),XD]at h;exact h
 have nz:=lG T.ind hj (X9a ok) λi hi=>congrArg Prod.snd (fx i hi);refine⟨bd,(Xe _ o b).trans (T.ev _ (getD_mem hj)),z,nz,Nat.lt_of_le_of_ne jc λe=>nz ⟨?_,?_⟩⟩
 ·apply M5;intro i;rw[Oc];by_cases h:i<j
  ·exact z i h
  ·exact big bd.f (by lia)
 ·apply M5;intro i;rw[Oc,Y8];exact big bd.s (by lia)
structure Lr (ms:List Mk) (c j:Nat):Prop where
 ok:∀x∈Em ms c j,okb 0 c x=true
 len:(Em ms c j).length<=j*(3*c+1)
 fx:∀i,i<j->Al (Em ms c j) (ms.getD i (0,0,0))=(0,0,2^i)
 jc:j<=c
theorem aH{ms:List Mk}{c:Nat}(c6:c<=6)(hb:∀(x:Mv) (m:Mk),Ej c x->Fp c m->Fp c (Bm x m))(T:Ux ms c):∀j,j<=ms.length->Lr ms c j
 | 0,_=>⟨(λx a=>by cases a),Ed _,(λi hi=>absurd hi (by lia)),Ed _⟩
 | j+1,hj=>by
  have L:=aH c6 hb T j (by lia);have p:=W1q hb T hj L.jc L.ok L.fx;obtain⟨l1,l2,l3,l4⟩:=iB c6 p.jc hb p.bd p.ev p.z p.nz;refine⟨λx a=>(DR.mp a).elim (L.ok x) (l2 x),?_,λi hi=>?_,p.jc⟩
  ·have:=L.len;have e:(j+1)*(3*c+1)=j*(3*c+1)+(3*c+1):=Nat.succ_mul _ _;show (Em ms c j++_).length<=_;rw[DP];lia
  ·show Al (Em ms c j++_) _=_;rw[Pu];by_cases h:i<j
   ·rw[L.fx i h];exact l4 i h
   ·have:i=j:=by lia
    subst this;exact l1
theorem Y9v(c6:c<=6)(hb:∀(x:Mv) (m:Mk),Ej c x->Fp c m->Fp c (Bm x m))(T:Ux ms c)(hi:i<ms.length):Al (bwd (Em ms c ms.length)) (0,0,2^i)=ms.getD i (0,0,0):=by
 have L:=aH c6 hb T ms.length (Bd _);rw[<-L.fx i hi];exact Xg (Tc L.ok).2.1 (Tc L.ok).2.2 (T.bd _ (getD_mem hi)).k λx n _ q=>YQ.Z1 x n q
end Fl
namespace KD
open Ba Am Pc Uy YM
open Ax (Mix)
open Ci (Kp Nv)
open Bh (cm ev Ck Off CK vec En)
open DG (Mk mul bit JW)
open CT (In Indep E Sv)
variable {c i m w0:Nat}{S ms R:List Mk}{f:Nat->A5}{r:Mk}
theorem W5g(b:Sb c S w0 i m f)(hw:w0<2^c):Nv c f:=⟨w0,hw,by rw[b.at0];exact aJ _ _⟩
theorem W1j(b:Sb c S w0 S.length m f):∀r∈S,Kp c f r:=λr a=>b.old r (by rw[Ia];exact a)
theorem W5h(Y:Sy c S)(b:Sb c S w0 S.length m f){g:Mk}(h:In S g):Kp c f g:=(Ci.LQ (λr a=>⟨Y.ok r a,W1j b r a⟩) (Bd _) (Bh.G7.mp h)).2
theorem X1z(b:Sb c S w0 S.length m f){w:Nat}(hw:w<2^c)(h:f w≠Zz):∀r∈S,r.2.1=0->(r.1+2*pc (w&&&r.2.2))%4=0:=λr a z=>by
 have k:=b.sg r a z w hw;rw[z,Ow,ev2]at k;have nz:(f w).1≠(0,0,0,0):=by
  rcases b.fm w hw with q | ⟨j,q⟩
  ·exact absurd q h
  ·rw[q];exact aJ _ _
 have z0:Bc (f w) ((2*0:Nat):Int)=f w:=by rw[Ci.Nh];rfl
 have:=Ci.Xp nz (z0.trans k);lia
noncomputable def wv:List Mk->Nat
 | []=>0
 | r::rs=>if r.2.1=0/\r.1=2 then wv rs^^^2^(Ck r-6) else wv rs
theorem Ry(s k:Nat):pc (s&&&2^k)%2=bit s k:=by
 have:=C_.oh s k;unfold C_.bp at this;rw[UG,GX]at this;have b:=DG.Ey s k;unfold bit at b ⊢;have e:=decide_eq_decide.mp this;have:=Eu (pc (s&&&2^k)) (show 0<2 by decide);lia
theorem ZS{n:Nat}(h:r.2.1<2^6)(l:CK (vec r) n)(z:r.2.1=0):6<=n/\bit r.2.2 (n-6)=1:=by
 have one:=l.one;unfold vec at one;rw[Bh.HJ h]at one;by_cases q:n<6
 ·rw[if_pos q,z,DG.Nm]at one;exact absurd one (by decide)
 ·rw[if_neg q]at one;exact⟨by lia,one⟩
theorem xg{p:Mk}(hr:r.2.1<2^6)(h6:6<=Ck p)(h:bit (vec r) (Ck p)=0):bit r.2.2 (Ck p-6)=0:=by
 unfold vec at h;rwa [Bh.HJ hr,if_neg (by lia)]at h
theorem yR{s:Nat}:∀{rs:List Mk},(∀r∈rs,r.2.1=0->bit s (Ck r-6)=0)->pc (s&&&wv rs)%2=0
 | [],_=>by show pc (s&&&0)%2=0;rw[Tf,Gx]
 | r::rs,h=>by
  have a:=yR (rs:=rs) λp hp=>h p (.tail _ hp);unfold wv;split
  ·rename_i q;rw[CT.Ri,Nat.add_mod,a,Ry,h r (.head _) q.1]
  ·exact a
theorem _G(c6:c<=6):∀{S:List Mk},(∀r∈S,Ci.Ok c r)->(∀r∈S,CK (vec r) (Ck r))->wv S<2^c
 | [],_,_=>Cq _
 | r::rs,ok,ld=>by
  have a:=_G c6 (S:=rs) (λp hp=>ok p (.tail _ hp)) λp hp=>ld p (.tail _ hp);unfold wv;split
  ·rename_i q;have o:=ok r (.head _);obtain⟨_,b⟩:=ZS (Cu o.f (Fw (by decide) c6)) (ld r (.head _)) q.1;refine FP a (Jl (by decide) (Nat.lt_of_not_le λle=>?_));rw[DG.R6 o.s le]at b;exact absurd b (by decide)
  ·exact a
theorem _J(c6:c<=6):∀{S:List Mk},(∀r∈S,Ci.Ok c r)->(∀r∈S,ev r)->(∀r∈S,CK (vec r) (Ck r))->S.Pairwise Off->∀r∈S,r.2.1=0->(r.1+2*pc (wv S&&&r.2.2))%4=0
 | [],_,_,_,_=>λr h=>by cases h
 | r::rs,ok,evn,ld,of=>λp hp z=>by
  have b:∀x∈r::rs,x.2.1<2^6:=λx l=>Cu (ok x l).f (Fw (by decide) c6);obtain⟨d,i⟩:=Tq.mp of;rw[GX];have two:∀s,pc (s&&&wv (r::rs))%2=(pc (s&&&wv rs)+if r.2.1=0/\r.1=2 then bit s (Ck r-6) else 0)%2:=λs=>by
   show pc (s&&&(if r.2.1=0/\r.1=2 then wv rs^^^2^(Ck r-6) else wv rs))%2=_;split
   ·rw[CT.Ri,Nat.add_mod,Ry,Nat.add_mod (pc (s&&&wv rs)),KY (DG.Ey s _)]
   ·rw[Mr]
  have a:=two p.2.2;rcases Dg.mp hp with e | e
  ·subst e;have o0:pc (p.2.2&&&wv rs)%2=0:=yR λq g k=>xg (b p (.head _)) (ZS (b q (.tail _ g)) (ld q (.tail _ g)) k).1 (d q g).1;have m:=(ZS (b p (.head _)) (ld p (.head _)) z).2;have j:(p.1+pc (p.2.1&&&p.2.2))%2=0:=evn p (.head _);rw[z,RK,Gx]at j;have o:=(ok p (.head _)).q;rw[m]at a;by_cases q:p.1=2
   ·rw[if_pos ⟨z,q⟩]at a;lia
   ·rw[if_neg (λt=>q t.2)]at a;lia
  ·have n:=_J c6 (S:=rs) (λp hp=>ok p (.tail _ hp)) (λp hp=>evn p (.tail _ hp)) (λp hp=>ld p (.tail _ hp)) i p e z;rw[GX]at n;have:(if r.2.1=0/\r.1=2 then bit p.2.2 (Ck r-6) else 0)=0:=by
    split
    ·rename_i q;exact xg (b p hp) (ZS (b r (.head _)) (ld r (.head _)) q.1).1 (d p e).2
    ·rfl
   rw[this]at a;lia
theorem X3r(Y:Sy c S)(c6:c<=6):∃w,w<2^c/\∀r∈S,r.2.1=0->(r.1+2*pc (w&&&r.2.2))%4=0 :=
 ⟨wv S,_G c6 Y.ok Y.ld,_J c6 Y.ok Y.n.even Y.ld Y.off⟩
theorem W2t(I:Indep ms)(o:∀r∈ms,Ci.Ok c r/\Kp c f r)(K:Ci.Kc c f R):ms.length<=R.length:=by
 have h:∀x,∃y,x<2^ms.length->y<2^R.length/\E ms x=E R y:=λx=>by
  by_cases b:x<2^ms.length
  ·have a:=Ci.LQ o (Bd _) (Bh.G7.mp ⟨x,b,U⟩:Bh.G ms ms.length (E ms x));obtain⟨y,d,e⟩:=K.all _ a.1 a.2;exact⟨y,λ_=>⟨d,e.symm⟩⟩
  ·exact⟨0,λz=>absurd z b⟩
 let t:=λx=>Classical.choose (h x);have g:∀x,x<2^ms.length->t x<2^R.length/\E ms x=E R (t x):=λx=>Classical.choose_spec (h x);have:=Ci.ZF (2^R.length) (2^ms.length) t (λx b=>(g x b).1) λx y b d e=>Sv I b d (by rw[(g x b).2,(g y d).2,e]);exact(qX (by decide)).mp this
open C_ (Bm Al Br)
open Eo (Ok)
open Uz (Fp R5)
open Jr (bwd)
open Fo (Mv)
theorem zU{m:Mk}(h:ev m):C_.ev m=0:=by
 have h:(m.1+pc (m.2.1&&&m.2.2))%2=0:=h;show (m.1+C_.bn (C_.bp (m.2.1&&&m.2.2)))%2=0;unfold C_.bn C_.bp;by_cases q:pc (m.2.1&&&m.2.2)%2=1
 ·rw[Dr q,if_pos rfl];lia
 ·rw[Dh q,if_neg (by decide)];lia
theorem W6x{m:Mk}(h:C_.ev m=0):ev m:=by
 show (m.1+pc (m.2.1&&&m.2.2))%2=0;have h:(m.1+C_.bn (C_.bp (m.2.1&&&m.2.2)))%2=0:=h;unfold C_.bn C_.bp at h;by_cases q:pc (m.2.1&&&m.2.2)%2=1
 ·rw[Dr q,if_pos rfl]at h;lia
 ·rw[Dh q,if_neg (by decide)]at h;lia
theorem Kf{m n:Mk}:Jr.cm m n=false↔cm m n=0:=by
 show (C_.bp (m.2.1&&&n.2.2) ^^ C_.bp (m.2.2&&&n.2.1))=false↔(pc (m.2.1&&&n.2.2)+pc (m.2.2&&&n.2.1))%2=0;unfold C_.bp;by_cases q:pc (m.2.1&&&n.2.2)%2=1<;>by_cases q':pc (m.2.2&&&n.2.1)%2=1
 ·rw[Dr q,Dr q'];exact⟨λ_=>by lia,λ_=>rfl⟩
 ·rw[Dr q,Dh q'];exact⟨(λz=>by cases z),λz=>by lia⟩
 ·rw[Dh q,Dr q'];exact⟨(λz=>by cases z),λz=>by lia⟩
 ·rw[Dh q,Dh q'];exact⟨λ_=>by lia,λ_=>rfl⟩
theorem yO(o:∀r∈ms,Ci.Ok c r)(n:En ms)(I:Indep ms):Fl.Ux ms c:=⟨λm hm=>⟨(o m hm).q,(o m hm).f,(o m hm).s⟩,λm hm=>zU (n.even m hm),λm hm r a=>Kf.mpr (n.com m hm r a),I⟩
theorem W2s(c6:c<=6)(hb:∀(x:Mv) (m:Mk),Eo.Ej c x->Fp c m->Fp c (Bm x m))(T:Fl.Ux ms c):ms.length<=c:=(Fl.aH c6 hb T ms.length (Bd _)).jc
theorem X9v:∀{row:List Mv},(∀x∈row,Ok x)->bwd (bwd row)=row:=λ{row} h=>by
 unfold bwd;rw[<-List.map_reverse,List.reverse_reverse,Ou];have:∀x∈row,(LK.bk ∘ LK.bk) x=id x:=λx b=>by
  cases x with
  | turn a j=>show Mv.turn a (8-(8-j))=Mv.turn a j;congr 1;lia
  | _=>rfl
 rw[Y4 this,List.map_id]
theorem yM(cb:Nat->Bool):∀n,Fl.sg2 cb n<2^n
 | 0=>Nat.one_pos
 | n+1=>by
  have a:=Ov (yM cb n) (Jl (by decide) (KR n));unfold Fl.sg2;split
  ·exact FP a (Jl (by decide) (KR n))
  ·exact a
theorem W7d(ms:List Mk)(x:Nat):(E ms x).2=(CT.xs (CT.Du ms) (λj=>decide (bit x j=1)) ms.length,CT.xs (CT.Di ms) (λj=>decide (bit x j=1)) ms.length):=by
 unfold E;refine Prod.ext ?_ ?_
 ·show (DG.prod (DG.chosen ms x ms.length)).2.1=_;rw[DG.Uh,CT.Lz];rfl
 ·show (DG.prod (DG.chosen ms x ms.length)).2.2=_;rw[DG.Ui,CT.Lz];rfl
theorem more(c6:c<=6)(hb:∀(x:Mv) (m:Mk),Eo.Ej c x->Fp c m->Fp c (Bm x m))(T:Fl.Ux ms c)(h:ms.length<c):∃m,Fp c m/\C_.ev m=0/\(∀r∈ms,Jr.cm m r=false)/\∀x,x<2^ms.length->(E ms x).2≠m.2:=by
 have L:=Fl.aH c6 hb T ms.length (Bd _);obtain⟨o1,o2,o3⟩:=Fl.Tc L.ok;have o:∀x∈bwd (Fl.Em ms c ms.length),Eo.Ej c x:=λx d=>by
  obtain⟨y,g,rfl⟩:=El.mp d;exact LK.W6z (o1 y (fB.mp g))
 have l:∀x∈bwd (Fl.Em ms c ms.length),Ok x:=λx d=>(o x d).1;have k:∀x∈bwd (Fl.Em ms c ms.length),Br x:=λx d=>by
  obtain⟨y,g,rfl⟩:=El.mp d;exact LK.W7a (o2 y (fB.mp g)) (o3 y (fB.mp g))
 have p:Fp c (0,0,2^ms.length):=⟨show 0<4 by decide,Cq _,Jl (by decide) h⟩;refine⟨Al (bwd (Fl.Em ms c ms.length)) (0,0,2^ms.length),R5 hb o p,?_,λr t=>?_,λx d e=>?_⟩
 ·rw[C_.Xe _ l k];show (0+C_.bn (C_.bp (0&&&2^ms.length)))%2=0;rw[RK,C_.aA];rfl
 ·obtain⟨i,hi,e⟩:=fu t;have s:ms.getD i (0,0,0)=r:=by rw[Bp,Cm hi];exact e
  rw[<-s,<-Fl.Y9v c6 hb T hi,Jr.aB _ _ l k,Jr.XD];show (0:Nat).testBit i=false;exact Oc i
 ·have f:Al (Fl.Em ms c ms.length) (Al (bwd (Fl.Em ms c ms.length)) (0,0,2^ms.length))=(0,0,2^ms.length):=by
   have:=Jr.Xg (row:=bwd (Fl.Em ms c ms.length)) (m:=(0,0,2^ms.length)) l k (show 0<4 by decide) (λx n _ q=>YQ.Z1 x n q);rwa [X9v o2]at this
  have a:=Fl.behind (ms:=ms) (r:=Fl.Em ms c ms.length) (λj=>decide (bit x j=1)) ms.length λi hi=>by rw[L.fx i hi]
  rw[W7d]at e;have b:=Fl.Xo (Fl.Em ms c ms.length) (m:=(0,CT.xs (CT.Du ms) (λj=>decide (bit x j=1)) ms.length,CT.xs (CT.Di ms) (λj=>decide (bit x j=1)) ms.length)) e;rw[a,f]at b;have:=congrArg Prod.snd b;have lt:=yM (λj=>decide (bit x j=1)) ms.length;have:Fl.sg2 (λj=>decide (bit x j=1)) ms.length=2^ms.length:=this;lia
end KD
namespace BZ
open L2 Ba Am Pc Fo
open Ax (top Bs Jh Cp Dp Xf Xx Xr U_ Zd)
open Eo (Ej)
open C_ (Mk Bm Al)
section
variable {P:U8}{w:W1}{K:U0}{mg:U4}{base:Heap}{k:Nat}{h:Heap}
theorem X2q(F:Ab K "spun_by_mark" (top 38) .none)(X:K.In h)(G:Ng h mg)(eA:Aj P w K mg base k "spun" ["one","k"] (Xf K))(c9:Aj P w K mg base k "ones" ["number"] CZ):Aj P w K mg base (k+1) "spun_by_mark" ["board","word","mark"] (uI K):=by
 refine F.cal X G ["board","word","mark"] λx H vs Q E d h=>?_;obtain⟨l,p,ps,f,c,n,M,a,⟨k,fl,s⟩,rfl,b,j,S,o,t⟩:=h;have v:=o.k;obtain⟨q,_,i,u⟩:=b.at j;refine⟨_,(@Ak _ _ _ (BL (BP eA d rfl (Aa (Ao FZ (pv 0) (pv 1) (λ_ _=>rfl)) (Aa (Af Ds (Af G_ Ad (Ao BK (pv 2) Ad (λ_ _=>rfl))) (Af G_ Ad (BP c9 d rfl (Aa (Af Dv (pv 1) (Ao BK (pv 2) Ad (λ_ _=>rfl))) Ae)))) Ae))))),?_⟩;try dsimp only[CG]
 refine⟨_,U,_,U,l,_,_,_,U,U,Ag.of b.lst,u,?_⟩;refine⟨_,U,p,_,_,_,U,U,S,k0,_,_,U,U,.inl ⟨by decide,by decide⟩,_,U,_,U,p,_,_,_,U,U,S,k2,_,_,U,U,a&&&s,R_,_,_,U,U,.inl ⟨by decide,by decide⟩,_,_,U,U,?_⟩;refine⟨q,(f a).1.1,(f a).1.2.1,(f a).1.2.2.1,(f a).1.2.2.2,(f a).2,_,U,i,λr H' g m=>t r H' g ?_⟩;have e:(2*(k:Int)+4*(pc (a&&&s):Int))=((2*k+4*pc (a&&&s):Nat):Int):=by lia
 rw[<-e];exact m
theorem X7r(F:Ab K "laid_on" (top 37) .none)(X:K.In h)(G:Ng h mg)(B:Bs mg)(dP:Aj P w K mg base k "spun_by_mark" ["board","word","mark"] (uI K)):Aj P w K mg base (k+1) "laid_on" ["board","mark"] (Jt K):=by
 refine F.cal X G ["board","mark"] λR H vs Q E L h=>?_;obtain⟨l,p,ps,f,c,n,M,m,rfl,d,c6,S,o,D⟩:=h;have O:=GZ c6;have J:Ag K H l (ps.map V.ref):=Ag.of d.lst;have g:(((ps.map V.ref).length:Nat):Int).toNat=2^c:=by rw[Az,d.len,FN]
 refine⟨_,(@Ak _ _ _ (BL (Gp rfl (BW.of (Nc:=["word","board","mark"]) (mp:=[none,some 0,some 1]) (by kernel_rfl)) (HN rfl B.range (Aa (CJ GP rfl B.len Fv (Aa (pv 0) Ae)) Ae)) (λ_ _ _ _=>(Bb (i:=0) (show (["word","board","mark"]:W0).Nodup by decide +kernel) rfl (Or.inl rfl))) (λ_ _ _ _=>(BP dP L rfl (Aa (pv 1) (Aa (Af JK (pv 0) (Ao Km (pv 2) Ad (λ_ _=>rfl))) (Aa (pv 2) Ae)))))))),?_⟩;try dsimp only[CG]
 refine⟨_,U,l,_,U,.inl J,_,U,by rw[Az,d.len];lia,by rw[Az,d.len];lia,λacc a=>?_⟩;rw[g];refine SN (n:=2^c) (fr:=[some (.ref l),some (.ref p)]) (λi ys H'=>∃qs:List Addr,Same H H'/\H' acc=some (.lst ys)/\ys=qs.map V.ref/\qs.length=i/\Cp K H' qs (layW m f)) (Hu O)
  ⟨[],A_ a _,Ar,U,U,(λ_ _ z=>by cases z)⟩ ?_ ?_
 ·rintro i ys H2 N hi I ⟨qs,b,v,rfl,s,v2⟩ C;refine⟨_,U,_,U,_,U,p,_,_,_,U,U,b.tup S,k1,_,_,U,U,_,U,l,p,ps,f,c,n,M,i^^^m.2.1,m,?_,d.same b,FP hi o.f,b.tup S,o,λr A u x=>?_⟩
  ·show [V.ref l,V.int (Builtin.bitXor (0+(i:Int)) (m.2.1:Nat)),V.ref p]=_;rw[H_,Jo]
  ·refine C (.ref r) A (u _ _ v) ⟨qs++[r],Dj (b.trans u) a,Ar,by rw[Ca];rfl,by simp[s],?_⟩;have:=Xr (ys:=qs.map V.ref++[.ref r]) (xs:=qs.map V.ref) (Xx v2 u x) (u _ _ v);intro j q y;have t:=this j q y;have e:(if j=qs.length then Bc (f (i^^^m.2.1)) ((2*m.1+4*pc ((i^^^m.2.1)&&&m.2.2):Nat):Int) else layW m f j)=layW m f j:=by
    by_cases e:j=qs.length
    ·rw[if_pos e,e,s]
    ·rw[if_neg e]
   rw[<-e];exact t
 ·rintro ys H2 I ⟨qs,b,v,rfl,s,v2⟩;exact D acc H2 qs a b ⟨v,s,v2,λi hi=>Zd (d.ok _ (FP hi o.f))⟩
end
end BZ
namespace Ax
open L2 Am Pc Ba
open DG (Mk)
open Ah (T3 L3 Bv KC Ig Ja Jp)
open BZ (Jt layW Gu Kv)
open Uy YM KD
structure Spr (c:Nat) (ms:List Mk) (f:Nat->A5):Prop where
 ex:∃S w0 m,Sy c S/\Sb c S w0 S.length m f/\w0<2^c/\(∀w,w<w0->f w=Zz)/\Bh.Dm ms S/\m<=6
def QF (S:List Mk)(wd:Nat):Prop:=∀r∈S,r.2.1=0->(r.1+2*pc (wd&&&r.2.2))%4=0
def MN (K:U0):Sp:=λvs H Q _=>∃(l:W9) (ps:U3) (S:List Mk) (wd:Nat),vs=[.int wd,.ref l]/\Ag K H l (ps.map V.ref)/\Bv H ps S/\S.length<=12 /\
 ∀(b:Bool) (H':Hp),Same H H'->(b=true↔QF S wd)->Q (.bl b) H'
def vZ (K:U0):Sp:=λvs H Q _=>∃(l:W9) (ps:U3) (ms:List Mk) (c:Nat),vs=[.ref l]/\KC c H l ps ms/\ms.length=c/\1<=c/\c<=6 /\
 ∀(r:W9) (H':Hp) (qs:U3) (f:Nat->A5),H r=none->Same H H'->Jh K H' r qs f c 800 50->Spr c ms f->Q (.ref r) H'
theorem W5c{c:Nat}{ms S:List Mk}(T:Bh.Tb ms)(ok:∀m∈ms,Ci.Ok c m)(D:Bh.Dm ms S):Sy c S :=
 ⟨λr a=>(Ci.LQ (c:=c) (f:=λ_=>Zz) (λm hm=>⟨ok m hm,λw _=>(Pk _).symm⟩) (Bd _) (Bh.G7.mp (D.g r a))).1,Bh.m9 T D.g,D.ld,D.off⟩
theorem X8s{K:U0}{l l':W9}{ps ps':U3}{f f':Nat->A5}{c:Nat}{g:TG}{te:TE}{H1:Hp}{acc:W9}{Q:VK}(R:Nat->A5->Prop)(n' m':Nat)(h1:H1 l=some (.lst (ps.map V.ref)))(h2:H1 l'=some (.lst (ps'.map V.ref)))(len1:ps.length=2^c)(len2:ps'.length=2^c)(v1:Cp K H1 ps f)(v2:Cp K H1 ps' f')(c6:c<=6)(hacc:H1 acc=none)
  (hg:∀{a:W9}{x y:V}{w1 n:Option V}{H:Hp}{Q:L2.St->Hp->Prop},H a=some (.tup [x,y])->Q [some x,some y] H->g (.ref a) [w1,n] H Q)
  (hs:∀i p b H (N:V->Hp->Prop),Dp K H p (f i)->Dp K H b (f' i)->i<2^c->Same H1 H->(∀r m z,Same H m->Dp K m r z->Jq n' m' z->R i z->N (.ref r) m)->te [some (.ref p),some (.ref b)] H N)
  (hd:∀H2 qs g,Same H1 H2->Jh K H2 acc qs g c n' m'->(∀i,i<2^c->R i (g i))->Q (.ref acc) H2):KH (YT false false K l l') g te [none,none] H1 acc Q:=by
 have I:=GZ c6;refine xX (t1:=false) (t2:=false) (K:=K) (l1:=l) (l2:=l') (xs:=ps.map V.ref) (ys:=ps'.map V.ref) (fr:=[]) (λi ys H'=>∃(qs:U3) (g:Nat->A5),Same H1 H'/\H' acc=some (.lst ys)/\ys=qs.map V.ref/\qs.length=i/\Cp K H' qs g/\∀j,j<i->Jq n' m' (g j)/\R j (g j)) (by rw[Az,Az,len1,len2]) (by rw[Az,len1];exact Hu I)
  ⟨[],λ_=>((0,0,0,0),0),A_ hacc _,Ar,U,U,(λ_ _ z=>by cases z),λj w=>absurd w (IV _)⟩ (λh q=>hg h q) (λi zs H h=>by obtain⟨_,_,s,_⟩:=h;exact⟨Ag.of (s _ _ h1),Ag.of (s _ _ h2)⟩) ?_ ?_
 ·rintro i x y zs H T N A B L ⟨qs,g',s2,u,rfl,k,n,d⟩ E C;rw[Bu]at A B;obtain⟨p,hp,rfl⟩:=Dt.mp A;obtain⟨b,v,rfl⟩:=Dt.mp B;have hi:i<2^c:=by
   have:=(Fe.mp hp).1;rw[len1]at this;exact this
  have t:=A_ E (.tup [.ref p,.ref b]);have s3:=s2.trans t;refine hs i p b _ N ((v1 i p hp).same s3) ((v2 i b v).same s3) hi s3 λr m z o G J D=>C (.ref r) m (o _ _ (t _ _ u)) ⟨qs++[r],λj=>if j=qs.length then z else g' j,Dj (s3.trans o) hacc,Ar,by rw[Ca];rfl,by simp[k],Xr (Xx n (t.trans o) G) (o _ _ (t _ _ u)),λj w=>?_⟩;show Jq n' m' (if j=qs.length then z else g' j)/\R j (if j=qs.length then z else g' j);split
  ·rename_i e;rw[e,k];exact⟨J,D⟩
  ·rename_i e;exact d j (by lia)
 ·rintro zs H2 F ⟨qs,g',s2,u,rfl,k,n,d⟩;rw[Az,len1]at k d;exact hd H2 qs g' s2 ⟨u,k,n,λi hi=>(d i hi).1⟩ λi hi=>(d i hi).2
section
variable {P:U8}{w:W1}{K:U0}{mg:U4}{base:Heap}{k:Nat}{h:Heap}
theorem X7p(F:Ab K "left_by_signs" (top 61) .none)(X:K.In h)(G:Ng h mg)(B:Bs mg)(c9:Aj P w K mg base k "ones" ["number"] Ah.CZ):Aj P w K mg base (k+1) "left_by_signs" ["word","rows"] (MN K):=by
 refine F.cal X G ["word","rows"] λnd H vs Q E d h=>?_;obtain⟨l,ps,S,f,rfl,O,J,Lh,kq⟩:=h;refine⟨_,(@Ak _ _ _ (BL (CJ (J9 rfl) rfl B.all Jx (Aa (X6 rfl (BW.of (Nc:=["row","word"]) (mp:=[none,some 0]) (by kernel_rfl)) (Ei (pv 1)) (λ_ _ _ _=>(Bb (i:=0) (show (["row","word"]:W0).Nodup by decide +kernel) rfl (Or.inl rfl))) (λ_ _ _ _=>(Bf Df (Ao Km (pv 0) Ad (λ_ _=>rfl)) Ad (Ac _))) (λ_ _ _ _=>(HD Df (Af Cv (Af Ds (Ao Km (pv 0) Ad (λ_ _=>rfl)) (Af G_ Ad (BP c9 d rfl (Aa (Af Dv (pv 1) (Ao Km (pv 0) Ad (λ_ _=>rfl))) Ae)))) Ad) Ad (Ac _)))) Ae)))),?_⟩;try dsimp only[CG]
 refine⟨_,U,l,U,⟨_,O⟩,λacc c=>?_⟩;refine uz (K:=K) (l:=l) (xs:=ps.map V.ref) (fr:=[some (.int f)]) (λi ys H'=>Same H H'/\H' acc=some (.lst ys)/\∃bs:List Bool,ys=bs.map V.bl/\(bs.all id=true↔QF (S.take i) f))
  (by rw[Az,J.length];exact E_ Lh (by decide)) ⟨A_ c _,Ar,[],U,⟨λ_ r d=>(nomatch d),λ_=>rfl⟩⟩ (λi ys H' e=>e.1.seq O) ?_ (λhm z=>?_) ?_
 ·rintro i x ys H3 N M hy ⟨s,R,bs,rfl,g⟩ kN;rw[Bu]at M;obtain⟨p,hp,rfl⟩:=Dt.mp M;obtain⟨m,hm,pm⟩:=J.get hp;have t:Ai K H3 p (L3 m):=Ai.of (s _ _ pm);have tk:∀b:Bool,(b=true↔(m.2.1=0->(m.1+2*pc (f&&&m.2.2))%4=0))->((bs.all id=true/\b=true)↔QF (S.take (i+1)) f):=λb hb=>by
   unfold QF at g ⊢;rw[mF hm];constructor
   ·rintro ⟨x,y⟩ r d;rcases DR.mp d with q | q
    ·exact g.mp x r q
    ·rw[DK.mp q];exact hb.mp y
   ·intro z;exact⟨g.mpr λr d=>z r (JG _ d),hb.mpr (z m (FQ _ (.head _)))⟩
  refine⟨_,U,p,_,_,_,U,U,t,U,U,_,U,?_⟩;refine kN _ _ (λL=>?_) (λA=>?_)
  ·have z0:m.2.1=0:=by have:=V.int.inj (JR L);lia
   refine⟨_,U,p,_,_,_,U,U,t,U,_,U,_,U,p,_,_,_,U,U,t,U,_,_,U,U,f&&&m.2.2,Ig _ _,_,_,U,U,.inl ⟨by decide,by decide⟩,_,_,U,U,_,_,U,U,Jp,U,R,Dj s c,Ar,bs++[decide (V.int (((m.1:Int)+2*((pc (f&&&m.2.2):Nat):Int))%4)=V.int 0)],?_,?_⟩
   ·rw[Ca];rfl
   ·rw[Yp,GF];rw[<-tk (decide (V.int (((m.1:Int)+2*((pc (f&&&m.2.2):Nat):Int))%4)=V.int 0)) ⟨λy _=>?_,λy=>?_⟩]
    ·simp
    ·have:=V.int.inj (JR y);lia
    ·have:=y z0;exact Dr (congrArg V.int (by lia))
  ·refine⟨s,R,bs,U,?_⟩;have nz:¬ m.2.1=0:=λz=>absurd A (by rw[z];decide);rw[<-tk true ⟨λ_ z=>absurd z nz,λ_=>rfl⟩];exact⟨λx=>⟨x,U⟩,λx=>x.1⟩
 ·obtain⟨x0,e0,p,xs,i,v,r1,r2,S1,r3,x1,e1,x2,e2,p',o,T,v',s1,s2,C,s3,a,b,W,Y,n,q3,a',b',q4,q5,q6,c1,d1,q7,q8,Z,d2,q9,j,u,D,I⟩:=z;exact⟨x0,e0,p,xs,i,v,r1,r2,S1,r3,x1,e1,x2,e2,p',o,T,v',s1,s2,C,s3,a,b,W,Y,n,q3,a',b',q4,q5,q6,c1,d1,q7,q8,Z,d2,q9,j,u,D,hm _ _ I⟩
 ·rintro ys H2 ⟨C,a2,bs,rfl,g⟩;rw[Az,J.length,Ia]at g;exact⟨acc,bs,U,Ag.of a2,kq _ _ C g⟩
theorem Hw:CW ["rows","table","held","board","row"] ["rows"] (Dy (top 60)):=fS
theorem Y8u(F:Ab K "spread" (top 60) .none)(X:K.In h)(G:Ng h mg)(B:Bs mg)(cK:Aj P w K mg base k "reduced" ["rows","cells"] Ah.lZ)(dD:Aj P w K mg base k "left_by_signs" ["word","rows"] (MN K))(gJ:Aj P w K mg base k "start" ["cells","word"] (uQ K))(gA:Aj P w K mg base k "laid_on" ["board","mark"] (Jt K))(gK:Aj P w K mg base k "plus" ["one","other"] (uM K))(gB:Aj P w K mg base k "rooted" ["one"] vX):Aj P w K mg base (k+1) "spread" ["rows"] (vZ K):=by
 refine F.cal X G _ (S:=Hw) λnd H vs Q E hr h=>?_;obtain⟨l,ps,ms,c,rfl,T,lc,c1,c6,kq⟩:=h;have p6:=GZ c6;have SL:Ag K H l (ps.map V.ref):=Ag.of T.lst;have d:(ps.map V.ref).length=c:=by rw[Az,T.mks.length,lc]
 have pos:=Cq c
 refine⟨_,(@Ay _ _ _ _ _ (Bx (PW.pt (Es (Eh (DW (CJ J_ rfl B.isinstance IW (Aa (pv 0) (Aa (JZ (v:=.ty "list") rfl B.list OD rfl) Ae))))) (Es (Bf J5 (CJ GP rfl B.len Fv (Aa (pv 0) Ae)) Ad (Ac _)) (Hg (Bf Lq (CJ GP rfl B.len Fv (Aa (pv 0) Ae)) Ad (Ac _))))))
   (@Ak _ _ _ Sd)
   B_)
  (@Ay _ _ _ _ _ (@BX _ _ 1 _ _ _ _ nd rfl (Or.inr rfl) (BP cK hr rfl (Aa (pv 0) (Aa (CJ GP rfl B.len Fv (Aa (pv 0) Ae)) Ae))) rfl (.inl rfl))
  (@Ay _ _ _ _ _ (Xw (i:=2) rfl nd rfl rfl (BW.of (Nc:=["word","table"]) (mp:=[none,some 1]) (by kernel_rfl)) (HN rfl B.range (Aa (Af Gf Ad (CJ GP rfl B.len Fv (Aa (pv 0) Ae))) Ae)) (λ_ _ _ _=>(Bb (i:=0) (show (["word","table"]:W0).Nodup by decide +kernel) rfl (Or.inl rfl))) (λ_ _ _ _=>(DW (BP dD hr rfl (Aa (pv 0) (Aa (pv 1) Ae))))) (λ_ _ _ _=>(pv 0)) rfl)
  (@Ay _ _ _ _ _ (@BX _ _ 3 _ _ _ _ nd rfl (Or.inl rfl) (BP gJ hr rfl (Aa (CJ GP rfl B.len Fv (Aa (pv 0) Ae)) (Aa (Ao FZ (pv 2) Ad (λ_ _=>rfl)) Ae))) rfl (.inl rfl))
  (@Ay _ _ _ _ _ (Ge PassesOwn.never rfl (Ei (pv 1)) (Bb (i:=4) nd rfl (Or.inl rfl))
   (@Ak _ _ _ (Bx (Bf Hs (Ao BK (pv 4) Ad (λ_ _=>rfl)) Ad (Ac _))
    (@Ak _ _ _ (Qw (i:=3) rfl nd rfl rfl (BW.of (Nc:=["one","other"]) (mp:=[none,none]) (by kernel_rfl)) (yE false false rfl B.zip (Aa (pv 3) (Aa (BP gA hr rfl (Aa (pv 3) (Aa (pv 4) Ae))) Ae))) (λ_ _ _ _=>(Uq rfl (show (["one","other"]:W0).Nodup by decide +kernel) rfl rfl rfl rfl)) (λ_ _ _ _=>(BP gB hr rfl (Aa (BP gK hr rfl (Aa (pv 0) (Aa (pv 1) Ae))) Ae))) rfl))
    B_)))
  (@Ak _ _ _ (BL (pv 3)))))))),?_⟩
 try dsimp only[CG]
 try dsimp only[CG]
 refine⟨_,U,_,_,_,true,U,.lst T.lst,Ah.Ru K,_,U,CQ ⟨_,U,l,_,U,.inl SL,_,_,U,U,_,U,BJ (λz=>absurd z (by rw[d];lia)) (λ_=>⟨_,U,l,_,U,.inl SL,_,_,U,U,_,U,BJ (λz=>absurd z (by rw[d];lia)) (λ_=>?_)⟩)⟩⟩;have T':KC (ps.map V.ref).length H l ps ms:=by rw[d];exact T
 refine⟨_,U,_,U,l,_,U,.inl SL,l,ps,ms,_,U,T',by rw[d];exact c1,by rw[d];exact c6,λrt H1 qs S S1 b1 h1 M1 DM ls pw=>?_⟩;have Y:Sy c S:=W5c T.tb (λm hm=>⟨(T.ok m hm).q,(T.ok m hm).f,(T.ok m hm).s⟩) DM;have a8:S.length<=12:=by lia
 have SR:Ag K H1 rt (qs.map V.ref):=Ag.of h1;have eI:(1:Int)*2^(((ps.map V.ref).length:Nat):Int).toNat=((2^c:Nat):Int):=by rw[d,FN,Vz];exact_mod_cast rfl
 refine⟨_,U,l,_,U,.inl (S1.seq SL),_,_,U,U,⟨1,Ba.GQ,by rw[d];lia,by rw[d];lia⟩,?_⟩;refine⟨_,U,by rw[eI];lia,by rw[eI];lia,λacc C=>?_⟩;rw[eI,FN];refine Xu (n:=2^c) (fr:=[some (.ref rt)]) (λi ys H'=>Same H1 H'/\H' acc=some (.lst ys)/\∃I:List Nat,ys=I.map (λx=>V.int (x:Nat))/\(∀x∈I,x<i/\QF S x)/\((∀x,x<i->¬ QF S x)\/∃x0 zs,I=x0::zs/\∀x,x<x0->¬ QF S x)) (Hu p6)
  ⟨A_ C _,Ar,[],U,(λ_ z=>(nomatch z)),.inl λ_ z=>absurd z (IV _)⟩ ?_ (λhm z=>?_) ?_
 ·rintro i ys H2 N hi hy ⟨L,a2,I,rfl,j,o⟩ kN;have e0:(0:Int)+(i:Int)=(i:Int):=H_ _;refine⟨_,U,_,U,rt,qs,S,i,by rw[e0];rfl,L.seq SR,M1.same L,a8,λb H3 M hb=>⟨_,U,?_⟩⟩;refine kN _ _ (λa9=>?_) (λa3=>?_)
  ·have sg:=hb.mp a9;refine⟨_,U,M _ _ a2,Dj (L.trans M) C,Ar,I++[i],by rw[Ca,e0];rfl,λx J=>?_,.inr ?_⟩
   ·rcases DR.mp J with q | q
    ·exact⟨Qe (j x q).1,(j x q).2⟩
    ·rw[DK.mp q];exact⟨KR _,sg⟩
   ·rcases o with no | ⟨x0,zs,rfl,no⟩
    ·have:I=[]:=by
      cases I with
      | nil=>rfl
      | cons x zs=>exact absurd (j x (.head _)).2 (no x (j x (.head _)).1)
     subst this;exact⟨i,[],U,no⟩
    ·exact⟨x0,zs++[i],U,no⟩
  ·have sg:¬ QF S i:=λz=>by rw[hb.mpr z]at a3;cases a3
   refine⟨L.trans M,M _ _ a2,I,U,λx J=>⟨Qe (j x J).1,(j x J).2⟩,?_⟩;rcases o with no | r
   ·exact .inl λx J=>by
     by_cases q:x=i
     ·rw[q];exact sg
     ·exact no x (by lia)
   ·exact .inr r
 ·obtain⟨v,e,q⟩:=z;exact⟨v,e,hm _ _ q⟩
 rintro ys H2 ⟨L,a2,I,rfl,j,o⟩;obtain⟨x0,zs,rfl,no⟩:∃x0 zs,I=x0::zs/\∀x,x<x0->¬ QF S x:=by
  rcases o with no | r
  ·obtain⟨x,J,sg⟩:=X3r Y c6;exact absurd sg (no x J)
  ·exact r
 obtain⟨D,Jw⟩:=j x0 (.head _);have lS:S.length=c:=by rw[ls,lc]
 have b0:H acc=none:=S1.free C;refine⟨_,U,l,_,U,.inl ((S1.trans L).seq SL),_,U,acc,_,_,_,U,U,Ag.of a2,at0,c,x0,by rw[d];rfl,c1,c6,D,λA H3 W nb M B3=>?_⟩;have a1:Ag K H3 rt (qs.map V.ref):=(L.trans M).seq SR;have lq:(qs.map V.ref).length=c:=by rw[Az,M1.length,lS]
 refine⟨_,U,rt,U,⟨_,a1⟩,LC (K:=K) (a:=rt) (xs:=qs.map V.ref) (λi σ H'=>Same H3 H'/\∃(A:W9) (W:U3) (f:Nat->A5) (m:Nat) (v4:Option V),H2 A=none/\Jh K H' A W f c (100+100*i) (40+i)/\Sb c S x0 i m f/\i<=c/\σ=[some (.ref l),some (.ref rt),some (.ref acc),some (.ref A),v4])
  ⟨Same.refl _,A,W,_,0,_,nb,B3,Sb.start D Jw (λw=>rfl),Ed _,U⟩ (λi σ H' _ e=>e.1.seq a1) ?_ ?_⟩
 ·rintro i x σ H4 J ⟨S4,A,W,f,m,v4,nb,t,sb,ic,rfl⟩;rw[Bu]at J;obtain⟨p,hp,rfl⟩:=Dt.mp J;obtain⟨r,R,pr⟩:=M1.get hp;have a0:i<c:=by rw[<-lS];exact(Fe.mp R).1
  have a5:=((L.trans M).trans S4) _ _ pr;have SQ:Ai K H4 p (L3 r):=Ai.of a5;have Z:=Y.ok r (Er R);refine⟨_,U,p,_,_,_,U,U,SQ,U,U,_,U,Ho (λz=>?_) (λz=>?_)⟩
  ·have nz:r.2.1≠0:=λe=>z (by rw[e];rfl);have a7:Kv c r:=⟨Z.q,Z.f,Z.s⟩;refine⟨_,U,_,U,_,U,A,p,W,f,c,_,_,r,U,t,c6,SQ,a7,λrl H5 ql nl S5 B5=>?_⟩;have O:=t.same S5;refine⟨A,rl,_,_,U,Ag.of O.lst,Ag.of B5.lst,λac a4=>?_⟩;refine X8s (K:=K) (λw z=>Mix 1 (f w) (La f r w) z) (100+100*(i+1)) (40+(i+1)) O.lst B5.lst O.len B5.len O.vals B5.vals c6 a4 (λha hQ=>⟨_,_,U,Ai.of ha,U,_,_,U,_,_,U,U,hQ⟩) (λw p1 p2 H6 N e1 e2 hw s6 kN=>?_) (λH6 q6 g s6 B6 r6=>?_)
   ·have o1:=t.ok w hw;have o2:=B5.ok w hw;have i1:=o1.amt.nn;have i2:=o2.amt.nn;have l1:=o1.le;have l2:=o2.le;have l3:(f (w^^^r.2.1)).2<=((40+i:Nat):Int):=l2;have l4:0<=(f (w^^^r.2.1)).2:=i2;refine⟨_,U,_,U,100+100*i,p1,p2,_,_,_,_,_,_,_,_,_,_,⟨U,e1,e2,i1,i2,by lia,by lia,o1.sz,o2.sz⟩,λr3 H7 x y z u g s7 e7 sm sz=>?_⟩;refine⟨r3,x,y,z,u,g,U,e7,sm.amt.nn,λr4 H8 x' y' z' u' g' s8 e8 rd=>?_⟩;refine kN r4 H8 ((x',y',z',u'),g') (s7.trans s8) (Dp.of e8) ?_ ?_
    ·have:=W2e (z:=((x',y',z',u'),g')) (p:=((x,y,z,u),g)) o1 o2 sm.le sz rd;refine this.mono ?_ ?_
     ·lia
     ·lia
    ·refine⟨((x,y,z,u),g),?_,rd.amt,rd.same⟩;simp only[Vz];exact sm
   ·have a6:=sb.flip Y c6 D R nz (by have:=sb.mi;lia) r6;exact⟨(S4.trans S5).trans s6,ac,q6,g,m+1,_,M.free (S4.free (S5.free a4)),B6,a6,a0,U⟩
  ·have z0:r.2.1=0:=by lia
   exact⟨S4,A,W,f,m,_,nb,⟨t.lst,t.len,t.vals,λi hi=>(t.ok i hi).mono (by lia) (by lia)⟩,sb.sign R z0,a0,U⟩
 ·rintro σ H4 ⟨S4,A,W,f,m,v4,nb,t,sb,ic,rfl⟩;rw[lq]at t sb;refine⟨_,U,kq A H4 W f (S1.free (L.free nb)) ((S1.trans L).trans (M.trans S4)) ⟨t.lst,t.len,t.vals,λi hi=>(t.ok i hi).mono (by lia) (by lia)⟩ ⟨S,x0,m,Y,by rw[lS];exact sb,D,λw hw=>?_,DM,E_ sb.mi c6⟩⟩;refine Classical.byContradiction λq=>no w hw (X1z (by rw[lS];exact sb) (Ov hw D) q)
end
end Ax
namespace Ax
open L2 Am Pc Ba
open Uy YM KD
def Mg (K:U0):Sp:=λvs H Q _=>∃(l:W9) (ps:U3) (f:Nat->A5) (c n m:Nat) (i:Int),vs=[.ref l,.int i]/\i=((2^c:Nat):Int)/\Jh K H l ps f c n m/\c<=6/\∀H',Same H H'->Q (.bl true) H'
section
variable {P:U8}{w:W1}{K:U0}{mg:U4}{base:Heap}{k:Nat}{h:Heap}
theorem X7v(F:Ab K "_law_is_board" (top 99) .none)(X:K.In h)(G:Ng h mg)(B:Bs mg)(cN:Aj P w K mg base k "_law_whole" ["_law_found"] Pr)(eG:Aj P w K mg base k "_law_low" ["_law_parts","_law_h"] QS):Aj P w K mg base (k+1) "_law_is_board" ["_law_found","_law_many"] (Mg K):=by
 refine F.cal X G ["_law_found","_law_many","_law_one"] λnd H vs Q E L h=>?_;obtain⟨l,ps,g,c,n,m,i,rfl,S,f,c6,Y⟩:=h;have p6:=GZ c6;have J:Ag K H l (ps.map V.ref):=Ag.of f.lst
 refine⟨_,(@Ay _ _ _ _ _ (Bx (PW.pt (Es (Eh (DW (CJ J_ rfl B.isinstance IW (Aa (pv 0) (Aa (JZ (v:=.ty "list") rfl B.list OD rfl) Ae))))) (Hg (Bf Hs (CJ GP rfl B.len Fv (Aa (pv 0) Ae)) (pv 1) (Ac _)))))
   (@Ak _ _ _ (BL Dw))
   B_)
  (@Ay _ _ _ _ _ (Ge PassesOwn.never rfl (Ei (pv 0)) (Bb (i:=2) nd rfl (Or.inl rfl))
   (@Ay _ _ _ _ _ (Bx (PW.pt (Es (Eh (DW (CJ Y1z rfl B.isinstance IW (Aa (pv 2) (Aa (JZ (v:=.ty "tuple") rfl B.tuple Yc rfl) Ae))))) (Es (Bf Hs (CJ GP rfl B.len Fv (Aa (pv 2) Ae)) Ad (Ac _)) (Hg (Eh (DW (CJ (J9 rfl) rfl B.all Jx (Aa (Gp rfl (BW.of (Nc:=["_law_part"]) (mp:=[none]) (by kernel_rfl)) (yD (pv 2)) (λ_ _ _ _=>(Bb (i:=0) (show (["_law_part"]:W0).Nodup by decide +kernel) rfl (Or.inl rfl))) (λ_ _ _ _=>(BP cN L rfl (Aa (pv 0) Ae)))) Ae))))))))
    (@Ak _ _ _ (BL Dw))
    B_)
   (@Ak _ _ _ (Bx (PW.pt (Es (Bf J5 (Ao BK (pv 2) Ad (λ_ _=>rfl)) Ad (Ac _)) (Hg (Bf (ZQ L.units) (BP eG L rfl (Aa (Xv rY rfl B.list OD (Aa (Kq Z6 (pv 2) K_ (J7 Ad)) Ae)) (Aa (Ao BK (pv 2) Ad (λ_ _=>rfl)) Ae))) (pv 2) (Ac _)))))
    (@Ak _ _ _ (BL Dw))
    B_))))
  (@Ak _ _ _ (BL Dw)))),?_⟩
 try dsimp only[CG]
 refine⟨_,U,_,_,_,true,U,Bj.lst f.lst,Ah.Ru K,_,U,CQ ⟨_,U,l,_,U,.inl J,_,U,U,_,U,Ho (λz=>absurd (by rw[Az,f.len,S]) z) (λ_=>?_)⟩⟩;refine⟨_,U,l,U,⟨_,J⟩,LC (K:=K) (a:=l) (xs:=ps.map V.ref) (λi σ H'=>Same H H'/\∃v,σ=[some (.ref l),some (.int ((2^c:Nat):Int)),v]) ⟨Same.refl _,none,by rw[<-S];rfl⟩ (λi σ H' _ e=>e.1.seq J) ?_ ?_⟩
 ·rintro i x σ H1 R ⟨A,v,rfl⟩;rw[Bu]at R;obtain⟨p,hp,rfl⟩:=Dt.mp R;have il:i<2^c:=by rw[<-f.len];exact(Fe.mp hp).1
  have D:=(f.vals i p hp).same A;have ok:=f.ok i il;revert D ok;generalize g i=y;obtain⟨⟨a,b,cc,d⟩,h⟩:=y;intro D ok;have O:0<=h:=ok.amt.nn;have SP:Ai K H1 p [.int a,.int b,.int cc,.int d,.int h]:=D;refine⟨_,U,p,_,U,SP,_,U,CQ ⟨_,U,p,_,U,.inr SP,U,_,U,Ho (λz=>absurd rfl z) (λ_=>?_)⟩⟩;refine⟨_,U,p,U,⟨_,SP⟩,λacc q=>?_⟩;refine X8u (K:=K) (ns:=[a,b,cc,d,h]) (λ_=>.bl true) SP (Hu (show 5<=64 by decide)) q (λn H2 N hn I W=>⟨_,U,n,U,W⟩) (λH2 I a2=>?_);refine⟨acc,[true,true,true,true,true],U,Ag.of a2,_,U,CQ ?_⟩;have s:=I.tup SP;refine⟨_,U,p,_,_,_,U,U,s,U,_,_,U,U,_,U,BJ (λz=>absurd O (by lia)) (λ_=>?_)⟩;refine⟨_,U,_,U,p,_,U,s,(λz=>absurd z.2 (show ¬ (4:Nat)=5 by decide)),λt Z=>?_⟩;have s3:=A_ Z (.tup (Cr [V.int a,.int b,.int cc,.int d,.int h] none (some 4)));refine⟨t,_,U,.inr (Ai.of Ar),λu hu=>?_⟩;have s4:=A_ hu (.lst (Cr [V.int a,.int b,.int cc,.int d,.int h] none (some 4)));have j:=(I.trans s3).trans s4;refine⟨_,U,p,_,_,_,U,U,j.tup SP,U,u,a,b,cc,d,h,U,Ar,O,λr H5 x' y' z' u' v' T C M=>?_⟩;obtain⟨rfl,rfl,rfl,rfl,rfl⟩:=ok.amt.unique M.amt M.same;have o:=j.trans T;refine⟨_,U,r,p,[a,b,cc,d,h],[a,b,cc,d,h],U,U,Ai.of C,o.tup SP,_,U,?_⟩;rw[Dr rfl];exact CQ ⟨A.trans o,_,U⟩
 ·rintro σ H1 ⟨A,v,rfl⟩;exact Y _ A
end
end Ax
namespace Ax
open L2 Am Pc Ba
open DG (Mk)
open Uy YM KD
noncomputable def hm (m:Nat):Int:=(((m+1) / 2:Nat):Int)
noncomputable def nm (m:Nat):Int:=if m%2=0 then 1 else 2
noncomputable def q_ (m j:Nat):Bool:=decide ((Av m j).2=hm m) && decide ((Av m j).1.1*(Av m j).1.1+(Av m j).1.2.1*(Av m j).1.2.1+(Av m j).1.2.2.1*(Av m j).1.2.2.1+(Av m j).1.2.2.2*(Av m j).1.2.2.2=nm m) && decide ((Av m j).1.1*(Av m j).1.2.1+(Av m j).1.2.1*(Av m j).1.2.2.1+(Av m j).1.2.2.1*(Av m j).1.2.2.2-(Av m j).1.2.2.2*(Av m j).1.1=0)
theorem W4o:((List.range 7).all λm=>decide (nm m*2^m=(1:Int)*2^(2*hm m).toNat) && (List.range 4).all λj=>q_ m j)=true:=by decide +kernel
theorem Xa{m:Nat}(h:m<=6):nm m*2^m=(1:Int)*2^(2*hm m).toNat/\∀j,(Av m j).2=hm m/\(Av m j).1.1*(Av m j).1.1+(Av m j).1.2.1*(Av m j).1.2.1+(Av m j).1.2.2.1*(Av m j).1.2.2.1+(Av m j).1.2.2.2*(Av m j).1.2.2.2=nm m/\(Av m j).1.1*(Av m j).1.2.1+(Av m j).1.2.1*(Av m j).1.2.2.1+(Av m j).1.2.2.1*(Av m j).1.2.2.2-(Av m j).1.2.2.2*(Av m j).1.1=0:=by
 have a:=Gz.mp W4o m (Ew.mpr (by lia));rw[GF,Jk]at a;refine⟨a.1,λj=>?_⟩;have b:=Gz.mp a.2 (j%4) (Ew.mpr (by lia));unfold q_ at b;rw[GF,GF,Jk,Jk,Jk]at b;rw[X4 m j];exact⟨b.1.1,b.1.2,b.2⟩
theorem W3x{m:Nat}(h:m<=6){y:A5}(f:Fm m y)(by':Int)(hb:y≠Zz->by'=1):(y.1.1*y.1.1+y.1.2.1*y.1.2.1+y.1.2.2.1*y.1.2.2.1+y.1.2.2.2*y.1.2.2.2)*by'=nm m*(if y=Zz then 0 else 1)/\(y.1.1*y.1.2.1+y.1.2.1*y.1.2.2.1+y.1.2.2.1*y.1.2.2.2-y.1.2.2.2*y.1.1)*by'=0:=by
 rcases f with rfl | ⟨j,rfl⟩
 ·rw[if_pos rfl];simp
 ·have a:=(Xa h).2 j;rw[hb (QC _ _),if_neg (QC _ _),a.2.1,a.2.2];simp
def vW (K:U0):Sp:=λvs H Q _=>∃(l:W9) (ps:U3) (f:Nat->A5) (c:Nat) (ms:List Mk),vs=[.ref l]/\Jh K H l ps f c 800 50/\c<=6/\Spr c ms f/\∀H',Same H H'->Q (.bl true) H'
theorem kI{b:Bool}{A B:Prop}(h:b=true)(a:A):if b=true then A else B:=by rw[if_pos h];exact a
section
variable {P:U8}{w:W1}{K:U0}{mg:U4}{base:Heap}{k:Nat}{h:Heap}
theorem Y8y(F:Ab K "_law_plain" (top 100) .none)(X:K.In h)(G:Ng h mg)(B:Bs mg):Aj P w K mg base (k+1) "_law_plain" ["_law_board"] (vW K):=by
 refine F.cal X G ["_law_board","_law_most","_law_top","_law_side","_law_first","_law_one","_law_a","_law_b","_law_c","_law_d","_law_h","_law_by"] λg H vs Q E hr h=>?_;obtain⟨l,ps,f,c,ms,rfl,BD,c6,⟨S,w0,m,Y,sb,a1,lo,DM,m6⟩,kq⟩:=h;have p6:=GZ c6;have SL:Ag K H l (ps.map V.ref):=Ag.of BD.lst;have L1:=BD.len;obtain⟨pw,av⟩:=Xa m6;have h0:0<=hm m:=Int.natCast_nonneg _;have h4:hm m<=4:=by unfold hm;lia
 refine⟨_,(@Ay _ _ _ _ _ (@BX _ _ 1 _ _ _ _ g rfl (Or.inl rfl) (CJ (X1e rfl) rfl B.max boot_max (Aa (Gp rfl (BW.of (Nc:=["_law_one"]) (mp:=[none]) (by kernel_rfl)) (Ei (pv 0)) (λ_ _ _ _=>(Bb (i:=0) (show (["_law_one"]:W0).Nodup by decide +kernel) rfl (Or.inl rfl))) (λ_ _ _ _=>(Ao Km (pv 0) Ad (λ_ _=>rfl)))) Ae)) rfl (.inl rfl))
  (@Ay _ _ _ _ _ (@BX _ _ 2 _ _ _ _ g rfl (Or.inl rfl) Ad rfl (.inl rfl))
  (@Ay _ _ _ _ _ (@BX _ _ 3 _ _ _ _ g rfl (Or.inl rfl) Ad rfl (.inl rfl))
  (@Ay _ _ _ _ _ (@BX _ _ 4 _ _ _ _ g rfl (Or.inl rfl) Nb rfl (.inl rfl))
  (@Ay _ _ _ _ _ (Ge PassesOwn.never rfl (Ei (pv 0)) (Bb (i:=5) g rfl (Or.inl rfl))
   (@Ay _ _ _ _ _ (R0 (pv 5) (Ls rfl (Ea (Bb (i:=6) g rfl (Or.inl rfl)) (Ea (Bb (i:=7) g rfl (Or.inl rfl)) (Ea (Bb (i:=8) g rfl (Or.inl rfl)) (Ea (Bb (i:=9) g rfl (Or.inl rfl)) (Ea (Bb (i:=10) g rfl (Or.inl rfl)) Lx)))))))
   (@Ay _ _ _ _ _ (@BX _ _ 11 _ _ _ _ g rfl (Or.inl rfl) (Af Gf Ad (Af G_ Ad (Af JH (pv 1) (pv 10)))) rfl (.inl rfl))
   (@Ay _ _ _ _ _ (@BX _ _ 2 _ _ _ _ g rfl (Or.inl rfl) (Af Ds (pv 2) (Af Ko (Af Ds (Af Ds (Af Ds (Af Ko (pv 6) (pv 6)) (Af Ko (pv 7) (pv 7))) (Af Ko (pv 8) (pv 8))) (Af Ko (pv 9) (pv 9))) (pv 11))) rfl (.inl rfl))
   (@Ay _ _ _ _ _ (@BX _ _ 3 _ _ _ _ g rfl (Or.inl rfl) (Af Ds (pv 3) (Af Ko (Af JH (Af Ds (Af Ds (Af Ko (pv 6) (pv 7)) (Af Ko (pv 7) (pv 8))) (Af Ko (pv 8) (pv 9))) (Af Ko (pv 9) (pv 6))) (pv 11))) rfl (.inl rfl))
   (@Ak _ _ _ (Bx (PW.pt (Oh (Bf Z2 (pv 4) Nb (Ac _)) (Ol (Bf (ZQ hr.units) (pv 5) (@Cw _ _ _ _ _ (Aa Ad (Aa Ad (Aa Ad (Aa Ad (Aa Ad Ae)))))) (Ac _)))))
    (@Ak _ _ _ (@BX _ _ 4 _ _ _ _ g rfl (Or.inl rfl) (pv 5) rfl (.inl rfl)))
    B_)))))))
  (@Ay _ _ _ _ _ (Bx (PW.pt (Es (Bf Z2 (pv 4) Nb (Ac _)) (Es (Bf Hs (pv 2) (Af Gf Ad (Af G_ Ad (pv 1))) (Ac _)) (Hg (Bf Hs (pv 3) Ad (Ac _))))))
   (@Ak _ _ _ (BL Dw))
   B_)
  (@Ay _ _ _ _ _ (R0 (pv 4) (Ls rfl (Ea (Bb (i:=6) g rfl (Or.inl rfl)) (Ea (Bb (i:=7) g rfl (Or.inl rfl)) (Ea (Bb (i:=8) g rfl (Or.inl rfl)) (Ea (Bb (i:=9) g rfl (Or.inl rfl)) (Ea (Bb (i:=10) g rfl (Or.inl rfl)) Lx)))))))
  (@Ay _ _ _ _ _ (Bx (PW.pt (Es (Bf Hs (pv 8) Ad (Ac _)) (Hg (Bf Hs (pv 9) (Pg R4 (pv 7)) (Ac _)))))
   (@Ak _ _ _ (BL Dw))
   B_)
  (@Ak _ _ _ (BL (W5l (K9 (HD Lq (pv 6) Ad (Ac _)) (Kl (HD Lq (Af Ko (pv 6) (pv 6)) (Af Ko (Af G_ Ad (pv 7)) (pv 7)) (Ac _)))) (Kl (K9 (HD Lq (pv 7) Ad (Ac _)) (Kl (HD Lq (Af Ko (Af G_ Ad (pv 7)) (pv 7)) (Af Ko (pv 6) (pv 6)) (Ac _)))))))))))))))),?_⟩
 try dsimp only[CG]
 refine⟨_,U,l,U,⟨_,SL⟩,λacc R=>?_⟩;refine Lw (K:=K) (a:=l) (xs:=ps.map V.ref) (fr:=[]) (λi ys H'=>Same H H'/\H' acc=some (.lst ys)/\∃O:List Int,ys=O.map V.int/\O.length=i/\(∀e∈O,e=0\/e=hm m)/\(w0<i->hm m∈O))
  (by rw[Az,L1];exact Hu p6) ⟨A_ R _,Ar,[],U,U,by simp,λz=>absurd z (IV _)⟩ (λi ys H' e=>e.1.seq SL) ?_ ?_
 ·rintro i x ys H2 N hx hy ⟨S2,a2,O,rfl,hl,he,h1⟩ kN;rw[Bu]at hx;obtain⟨p,hp,rfl⟩:=Dt.mp hx;have il:i<2^c:=by rw[<-L1];exact(Fe.mp hp).1
  have SP:Ai K H2 p [.int (f i).1.1,.int (f i).1.2.1,.int (f i).1.2.2.1,.int (f i).1.2.2.2,.int (f i).2]:=(BD.vals i p hp).same S2;refine⟨_,U,p,_,_,_,U,U,SP,U,?_⟩;refine kN _ _ a2 ⟨Dj S2 R,Ar,O++[(f i).2],by rw[Ca];rfl,by simp[hl],λe a4=>?_,λhw=>?_⟩
  ·rcases DR.mp a4 with z | z
   ·exact he e z
   ·rw[DK.mp z];rcases sb.fm i il with q | ⟨j,q⟩
    ·rw[q];exact .inl rfl
    ·rw[q];exact .inr (av j).1
  ·by_cases e:w0=i
   ·refine FQ _ (DK.mpr ?_);rw[<-e,sb.at0];exact(av 0).1.symm
   ·exact JG _ (h1 (by lia))
 rintro ys H2 hy ⟨S2,a2,O,rfl,hl,he,h1⟩;rw[Az,L1]at h1 hl;refine⟨acc,O,U,Ag.of a2,by rw[hl];exact Cq c,λM a5 a3=>?_⟩;have eM:M=hm m:=by
  have a:=a3 _ (h1 a1);rcases he M a5 with q | q
  ·lia
  ·exact q
 subst eM;have B2:=BD.same S2;have a0:Ag K H2 l (ps.map V.ref):=Ag.of B2.lst
 refine⟨_,U,l,U,⟨_,a0⟩,LC (K:=K) (a:=l) (xs:=ps.map V.ref) (λi σ H'=>Same H2 H'/\∃(u:V) (v5 v6 v7 Z v9 s o:Option V),((i<=w0/\u=.non)\/(w0<i/\∃q,u=.ref q/\Dp K H' q (Av m 0)))/\σ=[some (.ref l),some (.int (hm m)),some (.int (nm m*Cj (Jm f) i)),some (.int 0),some u,v5,v6,v7,Z,v9,s,o])
  ⟨Same.refl _,.non,_,_,_,_,_,_,_,.inl ⟨Ed _,U⟩,by rw[show nm m*Cj (Jm f) 0=0 from Int.mul_zero _];rfl⟩ (λi σ H' _ e=>e.1.seq a0) ?_ ?_⟩
 ·rintro j x σ H3 hx ⟨S3,u,v5,v6,v7,Z,v9,s,o,v,rfl⟩;rw[Bu]at hx;obtain⟨p,hp,rfl⟩:=Dt.mp hx;have jl:j<2^c:=by rw[<-L1];exact(Fe.mp hp).1
  have p0:=(B2.vals j p hp).same S3;have ok:=BD.ok j jl;have fj:=sb.fm j jl;have y0:0<=(f j).2:=ok.amt.nn;have yl:(f j).2<=hm m:=by
   rcases fj with q | ⟨i,q⟩
   ·rw[q];exact h0
   ·rw[q,(av i).1];exact Vy _
  have L:=ok.sz.z1;have D:=ok.sz.z2;have A:=ok.sz.z3;have T:=ok.sz.z4;have zy:Sz ((2*(hm m-(f j).2)).toNat+1) (1*2^(2*(hm m-(f j).2)).toNat):=by rw[Vz];exact mq _
  refine⟨_,U,p,_,U,p0,U,_,_,U,_,_,U,_,_,U,_,_,U,_,_,U,U,?_⟩;have a6:hm m-(f j).2<=4:=by lia
  refine⟨_,U,_,U,_,_,U,U,_,_,U,U,.inl ⟨by decide,by decide⟩,_,_,U,U,⟨1,Ba.GQ,by lia,by lia⟩,?_⟩;refine⟨_,U,_,U,_,U,_,_,U,U,⟨_,_,L,L,by lia⟩,_,U,_,U,_,_,U,U,⟨_,_,D,D,by lia⟩,_,_,U,U,_,U,_,U,_,_,U,U,⟨_,_,A,A,by lia⟩,_,_,U,U,_,U,_,U,_,_,U,U,⟨_,_,T,T,by lia⟩,_,_,U,U,_,U,_,_,U,U,⟨_,_,(((L.mul L).add (D.mul D)).add (A.mul A)).add (T.mul T),zy,by lia⟩,_,_,U,U,?_⟩;refine⟨_,U,_,U,_,U,_,_,U,U,⟨_,_,L,D,by lia⟩,_,U,_,U,_,_,U,U,⟨_,_,D,A,by lia⟩,_,_,U,U,_,U,_,U,_,_,U,U,⟨_,_,A,T,by lia⟩,_,_,U,U,_,U,_,U,_,_,U,U,⟨_,_,T,L,by lia⟩,_,_,U,U,_,U,_,_,U,U,⟨_,_,(((L.mul D).add (D.mul A)).add (A.mul T)).sub (T.mul L),zy,by lia⟩,_,_,U,U,?_⟩
  have C:=W3x m6 fj (1*2^(2*(hm m-(f j).2)).toNat) (λne=>by
   rcases fj with q | ⟨i,q⟩
   ·exact absurd q ne
   ·rw[q,(av i).1,j4];rfl)
  have E1:nm m*Cj (Jm f) (j+1)=nm m*Cj (Jm f) j+((f j).1.1*(f j).1.1+(f j).1.2.1*(f j).1.2.1+(f j).1.2.2.1*(f j).1.2.2.1+(f j).1.2.2.2*(f j).1.2.2.2)*(1*2^(2*(hm m-(f j).2)).toNat):=by
   rw[C.1];show nm m*(Cj (Jm f) j+Jm f j)=_;rw[Int.mul_add];rfl
  have W:∀(n:V),((j+1<=w0/\n=.non)\/(w0<j+1/\∃q,n=.ref q/\Dp K H3 q (Av m 0)))->∀H4,Same H3 H4->Same H2 H4/\∃(u:V) (v5 v6 v7 Z v9 s o:Option V),((j+1<=w0/\u=.non)\/(w0<j+1/\∃q,u=.ref q/\Dp K H4 q (Av m 0)))/\[some (V.ref l),some (V.int (hm m)),some (V.int (nm m*Cj (Jm f) j+((f j).1.1*(f j).1.1+(f j).1.2.1*(f j).1.2.1+(f j).1.2.2.1*(f j).1.2.2.1+(f j).1.2.2.2*(f j).1.2.2.2)*(1*2^(2*(hm m-(f j).2)).toNat))),some (V.int (0+((f j).1.1*(f j).1.2.1+(f j).1.2.1*(f j).1.2.2.1+(f j).1.2.2.1*(f j).1.2.2.2-(f j).1.2.2.2*(f j).1.1)*(1*2^(2*(hm m-(f j).2)).toNat))),some n,some (.ref p),some (.int (f j).1.1),some (.int (f j).1.2.1),some (.int (f j).1.2.2.1),some (.int (f j).1.2.2.2),some (.int (f j).2),some (.int (1*2^(2*(hm m-(f j).2)).toNat))]=[some (.ref l),some (.int (hm m)),some (.int (nm m*Cj (Jm f) (j+1))),some (.int 0),some u,v5,v6,v7,Z,v9,s,o]:=λn hh H4 S4=>by
   refine⟨S3.trans S4,n,some (.ref p),some (.int (f j).1.1),some (.int (f j).1.2.1),some (.int (f j).1.2.2.1),some (.int (f j).1.2.2.2),some (.int (f j).2),some (.int (1*2^(2*(hm m-(f j).2)).toNat)),?_,?_⟩
   ·rcases hh with q | ⟨q,r,e,a⟩
    ·exact .inl q
    ·exact .inr ⟨q,r,e,a.same S4⟩
   ·rw[E1,C.2,H_]
  rcases v with ⟨jw,rfl⟩ | ⟨jw,q,rfl,J⟩
  ·refine⟨_,U,U,_,U,Dc ⟨_,U,t5,λt ht=>⟨p,t,l5 (f j),[0,0,0,0,0],U,U,p0.same (A_ ht _),Ai.of Ar,_,U,?_⟩⟩⟩;have s4:=A_ ht (.tup [.int 0,.int 0,.int 0,.int 0,.int 0]);by_cases e:j=w0
   ·have ne:¬ l5 (f j)=[0,0,0,0,0]:=λz=>by
     rw[e,sb.at0]at z;refine aJ m 0 ?_;generalize Av m 0=y at z;obtain⟨⟨a,b,c,d⟩,h⟩:=y;simpa [l5] using ⟨congrArg (λt=>t.getD 0 0) z,congrArg (λt=>t.getD 1 0) z,congrArg (λt=>t.getD 2 0) z,congrArg (λt=>t.getD 3 0) z⟩
    refine kI (by simp[ne]) ?_;exact⟨_,U,W (.ref p) (.inr ⟨by lia,p,U,by rw[<-sb.at0,<-e];exact p0⟩) _ s4⟩
   ·have ez:l5 (f j)=[0,0,0,0,0]:=by rw[lo j (by lia)];rfl
    rw[ez];exact W .non (.inl ⟨by lia,U⟩) _ s4
  ·exact⟨_,U,U,_,U,CQ (W (.ref q) (.inr ⟨by lia,q,U,J⟩) _ (Same.refl _))⟩
 ·rintro σ H3 ⟨S3,u,v5,v6,v7,Z,v9,s,o,v,rfl⟩;rw[Az,L1]at v ⊢;obtain⟨q,rfl,J⟩:∃q,u=.ref q/\Dp K H3 q (Av m 0):=by
   rcases v with ⟨z,_⟩ | ⟨_,r⟩
   ·exact absurd a1 (by lia)
   ·exact r
  rw[sb.cnt];refine⟨_,U,U,_,U,BJ (λz=>by cases z) (λ_=>⟨_,U,_,U,_,_,U,U,.inl ⟨by decide,by decide⟩,_,_,U,U,⟨1,Ba.GQ,by lia,by lia⟩,U,_,U,Ho (λz=>absurd pw z) (λ_=>⟨_,U,U,_,U,Ho (λz=>absurd rfl z) (λ_=>?_)⟩)⟩)⟩;have ea:Av m 0=Aq m:=rfl;rw[ea]at J;unfold Aq at J;have I:=kq H3 (S2.trans S3);by_cases e:m%2=0
  ·rw[if_pos e]at J;refine⟨_,U,q,_,U,J,U,_,_,U,_,_,U,_,_,U,_,_,U,_,_,U,U,?_⟩;refine⟨_,U,U,_,U,Ho (λz=>absurd rfl z) (λ_=>⟨_,U,_,U,_,U,U,_,U,Ho (λz=>absurd rfl z) (λ_=>?_)⟩)⟩;refine⟨_,U,_,_,U,U,_,U,BJ (λ_=>?_) (λz=>absurd (show (0:Int)<1 by decide) z)⟩;exact⟨_,U,_,U,_,_,U,U,⟨_,_,s_1,s_1,by decide⟩,_,U,_,_,U,U,.inl ⟨by decide,by decide⟩,_,U,_,_,U,U,⟨_,_,s_0,s_0,by decide⟩,_,_,U,U,_,U,BJ (λ_=>I) (λz=>absurd (show (2*0*0:Int)<1*1 by decide) z)⟩
  ·rw[if_neg e]at J;refine⟨_,U,q,_,U,J,U,_,_,U,_,_,U,_,_,U,_,_,U,_,_,U,U,?_⟩;refine⟨_,U,U,_,U,Ho (λz=>absurd rfl z) (λ_=>⟨_,U,_,U,_,U,U,_,U,Ho (λz=>absurd rfl z) (λ_=>?_)⟩)⟩;refine⟨_,U,_,_,U,U,_,U,BJ (λz=>absurd z (show ¬ (0:Int)<0 by decide)) (λ_=>⟨_,U,CQ ⟨_,U,_,_,U,U,_,U,BJ (λ_=>?_) (λz=>absurd (show (0:Int)<1 by decide) z)⟩⟩)⟩;have s2:Sz 100 (2*1):=lO (by decide) (by decide);refine⟨_,U,_,_,U,U,.inl ⟨by decide,by decide⟩,_,U,_,_,U,U,⟨_,_,s2,s_1,by decide⟩,_,U,_,U,_,_,U,U,⟨_,_,s_0,s_0,by decide⟩,_,_,U,U,?_⟩;exact I
end
end Ax
set_option maxHeartbeats 4000000
namespace Ah
open L2 Pc JL DG CT
open Bh (CK vec V6 wl HJ ev Ck)
noncomputable def kk (m:Mk):List Key:=[Sum.inl (m.2.1:Int),Sum.inl (m.2.2:Int)]
theorem xU{a b:Mk}(h:kk a=kk b):a.2=b.2:=by
 unfold kk at h;injection h with h1 h2;injection h2 with h2 _;have h1:=Int.ofNat.inj (Sum.inl.inj h1);have h2:=Int.ofNat.inj (Sum.inl.inj h2);exact Prod.ext h1 h2
structure Full (ms:List Mk) (n:Nat) (kvs:List (List Key×V)):Prop where
 has:∀x,x<2^n->Bq kvs (kk (E ms x))=some (.bl true)
 only:∀key v,Bq kvs key=some v->∃x,x<2^n/\key=kk (E ms x)/\v=.bl true
structure Half (ms:List Mk) (i:Nat) (kvs kvs':List (List Key×V)) (j:Nat):Prop where
 has:∀x,x<2^i->Bq kvs' (kk (E ms x))=some (.bl true)
 new:∀j',j'<j->∀kv,kvs[j']?=some kv->∀x,x<2^i->kv.1=kk (E ms x)->Bq kvs' (kk (E ms (x+2^i)))=some (.bl true)
 only:∀key v,Bq kvs' key=some v->∃x,x<2^(i+1)/\key=kk (E ms x)/\v=.bl true
variable{x i:Nat}
theorem Uv(h:x<2^i):x<2^(i+1)/\x+2^i<2^(i+1):=by rw[Mt];lia
theorem _E{n:Nat}(h:x<2^(i+1))(hi:i<n):x<2^n:=Cu h (Fw (by decide) hi)
variable{ms:List Mk}{kvs:List (List Key×V)}
theorem Half.start(F:Full ms i kvs):Half ms i kvs kvs 0 :=
 ⟨F.has,λd h=>absurd h (IV _),λc v h=>let ⟨x,a,b⟩:=F.only c v h;⟨x,(Uv a).1,b⟩⟩
variable{kvs':List (List Key×V)}{kv:List Key×V}
theorem Half.next{j:Nat}(I:Indep ms)(hi:i<ms.length)(h:Half ms i kvs kvs' j)(hkv:kvs[j]?=some kv)(hx:x<2^i)(e:kv.1=kk (E ms x)):
  Half ms i kvs (putK kvs' (kk (E ms (x+2^i))) (.bl true)) (j+1):=by
 have inj:∀{y z:Nat},y<2^(i+1)->z<2^(i+1)->kk (E ms y)=kk (E ms z)->y=z:=λb l q=>Sv I (_E b hi) (_E l hi) (xU q);refine⟨λy b=>?_,λk m g a y b f=>?_,λd v c=>?_⟩
 ·rw[lQ,if_neg]
  ·exact h.has y b
  ·intro q;have:=inj (Uv b).1 (Uv hx).2 q;lia
 ·rw[lQ];by_cases q:kk (E ms (y+2^i))=kk (E ms (x+2^i))
  ·rw[if_pos q]
  ·rw[if_neg q];by_cases ej:k=j
   ·subst ej;rw[hkv]at a;cases a;rw[e]at f;have:=inj (Uv hx).1 (Uv b).1 f;subst this;exact absurd rfl q
   ·exact h.new k (by lia) g a y b f
 ·rw[lQ]at c;by_cases q:d=kk (E ms (x+2^i))
  ·rw[if_pos q]at c;exact⟨x+2^i,(Uv hx).2,q,(Option.some.inj c).symm⟩
  ·rw[if_neg q]at c;exact h.only d v c
theorem X6j{k:List Key}{v:V}(h:Bq kvs k=some v):∃kv∈kvs,kv.1=k:=by
 have a:=Sg k kvs;rw[h,Option.isSome_some]at a;obtain⟨kv,m,e⟩:=Qc.mp a;exact⟨kv,m,JR e⟩
theorem X8o(h:kv∈kvs):∃v,Bq kvs kv.1=some v:=by
 have a:=Sg kv.1 kvs;rw[Qc.mpr ⟨kv,h,Dr rfl⟩]at a;exact gb.mp a.symm
theorem Half.done(F:Full ms i kvs)(h:Half ms i kvs kvs' kvs.length):Full ms (i+1) kvs':=by
 refine⟨λx d=>?_,h.only⟩;by_cases lo:x<2^i
 ·exact h.has x lo
 ·rw[Mt]at d;have a:x-2^i<2^i:=by lia
  obtain⟨kv,m,e⟩:=X6j (F.has _ a);obtain⟨j,b,c⟩:=O8.mp m;have:=h.new j b kv (by rw[Cm b,c]) _ a e;rw[show x-2^i+2^i=x by lia]at this;exact this
theorem Full.start(ms:List Mk):Full ms 0 [(kk (0,0,0),.bl true)]:=by
 refine⟨λx b=>?_,λa v h=>?_⟩
 ·have:x=0:=by rw[j8]at b;lia
  subst this;rw[Ub,J8 rfl]
 ·refine⟨0,by decide,?_⟩;by_cases e:kk (0,0,0)=a
  ·rw[J8 e]at h;rw[Ub];exact⟨e.symm,(Option.some.inj h).symm⟩
  ·rw[Ku e]at h;cases h
def SB (d:W9)(H H':Hp):Prop:=∀a o,a≠d->H a=some o->H' a=some o
theorem SB.refl(d:W9)(H:Hp):SB d H H:=λ_ _ _ h=>h
theorem uy{H:Hp}:∀{bs:U3}{kvs:List (List Key×V)}{j:Nat}{b:W9},Paired (λb (kv:List Key×V)=>H b=some (.tup (kv.1.map kV))) bs kvs->bs[j]?=some b->∃kv,kvs[j]?=some kv/\H b=some (.tup (kv.1.map kV))
 | b'::bs,kv::kvs,0,b,.cons a r,h=>by
  have:b'=b:=by simpa using h
  subst this;exact⟨kv,U,a⟩
 | b'::bs,kv::kvs,j+1,b,.cons a r,h=>by
  obtain⟨c,m,q⟩:=uy (bs:=bs) (kvs:=kvs) (j:=j) (b:=b) r (by simpa using h);exact⟨c,m,q⟩
theorem Bv.sb{H H':Hp}{d:W9}{ps:U3}(h:Bv H ps ms)(hd:H d=some (.dT kvs))(s:SB d H H'):Bv H' ps ms:=Paired.imp' (λ_ _ c=>s _ _ (J0 c hd (by intro z;cases z)) c) h
variable{m:Mk}
theorem zM(hx:x<2^ms.length):E (ms++[m]) x=E ms x:=by
 unfold E;rw[DP,show [m].length=1 from rfl,P_ (ms++[m]) hx 1];congr 1;unfold chosen;refine Y4 λp hp=>?_;have:=Qy hp;rw[Bp,Bp,Rg this]
theorem Full.app(F:Full ms ms.length kvs):Full (ms++[m]) ms.length kvs :=
 ⟨λx e=>by rw[zM e];exact F.has x e,λd v h=>let ⟨x,a,b,c⟩:=F.only d v h;⟨x,a,by rw[zM a];exact b,c⟩⟩
theorem W2a{N:Nat}(h:Gr N m)(hN:N<=6):V6 m:=⟨Cu h.f (Fw (by decide) hN),Cu h.s (Fw (by decide) hN)⟩
theorem X9u(m:Mk):Bh.cm m m=0:=by
 unfold Bh.cm;rw[GX m.2.2 m.2.1];lia
theorem X6l{N:Nat}(T:Bh.Tb ms)(hN:N<=6)(ok:Gr N m)(e:ev m)(c:∀r∈ms,comm r m=0)(F:Full ms ms.length kvs)(no:Bq kvs (kk m)=none):Bh.Tb (ms++[m]):=by
 have b:∀r∈ms,Bh.cm r m=0:=c;refine⟨⟨λz a=>?_,λz a=>?_,λz a y f=>?_⟩,λz a=>?_,Bh.rD T.ind λx d q=>?_⟩
 ·rcases DR.mp a with h | h
  ·exact T.nice.q z h
  ·rw[DK.mp h];exact ok.q
 ·rcases DR.mp a with h | h
  ·exact T.nice.even z h
  ·rw[DK.mp h];exact e
 ·rcases DR.mp a with h | h<;>rcases DR.mp f with h' | h'
  ·exact T.nice.com z h y h'
  ·rw[DK.mp h'];exact b z h
  ·rw[DK.mp h,Bh.R7];exact b y h'
  ·rw[DK.mp h,DK.mp h'];exact X9u m
 ·rcases DR.mp a with h | h
  ·exact T.v6 z h
  ·rw[DK.mp h];exact W2a ok hN
 ·have:=F.has x d;rw[show kk (E ms x)=kk m by unfold kk;rw[q],no]at this;cases this
end Ah
namespace Ah
open L2 Pc JL DG CT
open Bh (CK vec V6 wl HJ ev)
noncomputable def isI:V->Bool
 | .int _=>true
 | _=>false
structure Part (K:U0) (H:Hp) (v:V):Prop where
 ex:∃t b1 b2,Bj K H v t/\PySem.W.kitOne K t (.type "int")=some b1/\PySem.W.kitOne K t (.type "bool")=some b2/\(b1 && !b2)=isI v
section
variable {K:U0}{H:Hp}
theorem Part.int(i:Int):Part K H (.int i):=⟨_,true,false,.int i,mU K,mR K,U⟩
end
noncomputable def Ql:V->Bool
 | .int i=>decide (0<=i/\i<=3)
 | _=>false
noncomputable def Lf (n:Nat):V->Bool
 | .int i=>decide (0<=i/\i<((2^n:Nat):Int))
 | _=>false
variable{K:U0}{H H':Hp}{v:V}
theorem Bj.same{t:W2}(ty:Bj K H v t)(s:Same H H'):Bj K H' v t:=by
 cases ty with
 | non=>exact .non
 | bl b=>exact .bl b
 | int i=>exact .int i
 | str x=>exact .str x
 | flt x=>exact .flt x
 | lst e=>exact .lst (s _ _ e)
 | frz e=>exact .frz (s _ _ e)
 | tup e=>exact .tup (s _ _ e)
 | dK e=>exact .dK (s _ _ e)
 | dT e=>exact .dT (s _ _ e)
 | ins e cl ha hn htk hm=>exact .ins (s _ _ e) cl ha hn htk hm
theorem Part.same(p:Part K H v)(s:Same H H'):Part K H' v:=by
 obtain⟨t,d,a,ty,b,e2,c⟩:=p;exact⟨t,d,a,Bj.same ty s,b,e2,c⟩
inductive Tells (K:U0) (H:Hp) (n:Nat):V->Bool->Prop where
 | odd {v:V}{t:W2} (ty:Bj K H v t) (e:PySem.W.kitOne K t (.type "tuple")=some false):Tells K H n v false
 | many {p:W9}{xs:List V} (e:H p=some (.tup xs)) (l:xs.length≠3):Tells K H n (.ref p) false
 | three {p:W9}{x y z:V} (e:H p=some (.tup [x,y,z])) (hx:Part K H x) (hy:Part K H y) (hz:Part K H z):Tells K H n (.ref p) (Ql x && (Lf n y && Lf n z))
variable{n:Nat}{b:Bool}
theorem Tells.same(t:Tells K H n v b)(s:Same H H'):Tells K H' n v b:=by
 cases t with
 | odd ty e=>exact .odd (Bj.same ty s) e
 | many e l=>exact .many (s _ _ e) l
 | three e hx hy hz=>exact .three (s _ _ e) (hx.same s) (hy.same s) (hz.same s)
theorem Tells.mark{K:U0}{H:Hp}{n:Nat}{p:W9}{m:Mk}(e:H p=some (T3 m))(ok:Gr n m):Tells K H n (.ref p) true:=by
 have t:=Tells.three (K:=K) (n:=n) e (Part.int _) (Part.int _) (Part.int _);have q:=ok.q;have f:=ok.f;have s:=ok.s;have a:Ql (.int (m.1:Nat))=true:=Dr ⟨by lia,by lia⟩;have e2:Lf n (.int (m.2.1:Nat))=true:=Dr ⟨by lia,by lia⟩;have b:Lf n (.int (m.2.2:Nat))=true:=Dr ⟨by lia,by lia⟩;rw[a,e2,b]at t;exact t
noncomputable def Li (m:Mk):Bool:=decide ((m.1+pc (m.2.1&&&m.2.2))%2=0)
variable{m:Mk}
theorem Ke:Li m=true↔ev m:=by
 unfold Li ev;exact decide_eq_true_iff
inductive Dz (K:U0) (H:Hp) (n:Nat):V->Bool->Prop where
 | no {v:V} (t:Tells K H n v false):Dz K H n v false
 | mark {p:W9}{m:Mk} (e:H p=some (T3 m)) (ok:Gr n m):Dz K H n (.ref p) (Li m)
theorem Dz.same(t:Dz K H n v b)(s:Same H H'):Dz K H' n v b:=by
 cases t with
 | no t=>exact .no (t.same s)
 | mark e ok=>exact .mark (s _ _ e) ok
def Apart (ms:List Mk)(m:Mk):Prop:=∃o:Mk,comm o m=1/\∀r∈ms,comm o r=0
def Md (ms:List Mk)(m:Mk):Prop:=∃kk x:Nat,kk<4/\(chosen ms x ms.length).foldl mul (kk,0,0)=m
def Tab (ms:List Mk)(b:Bool):Prop:=(b=true->(∀m∈ms,ev m)/\(∀m∈ms,∀r∈ms,comm m r=0)/\∀i m,ms[i]?=some m->Apart (ms.take i) m)/\(b=false->(∃m∈ms,¬ ev m)\/(∃m∈ms,∃r∈ms,comm m r≠0)\/∃i m,ms[i]?=some m/\Md (ms.take i) m)
def mJ (K:U0):Sp:=λvs H Q _=>∃v,vs=[v]/\Part K H v/\Q (.bl (isI v)) H
def uT (K:U0):Sp:=λvs H Q _=>∃(v:V) (n:Nat),vs=[v,.int n]/\Part K H v/\Q (.bl (Lf n v)) H
def uJ (K:U0):Sp:=λvs H Q _=>∃(v:V) (n:Nat) (b:Bool),vs=[v,.int n]/\Tells K H n v b/\Q (.bl b) H
def uE (K:U0):Sp:=λvs H Q _=>∃(p:W9) (m:Mk),vs=[.ref p]/\Ai K H p (L3 m)/\Q (.bl (Li m)) H
def Mi (K:U0):Sp:=λvs H Q _=>∃(v:V) (n:Nat) (b:Bool),vs=[v,.int n]/\Dz K H n v b/\Q (.bl b) H
def wV (K:U0):Sp:=λvs H Q _=>∃(pm l:W9) (ps:U3) (ms:List Mk) (m:Mk),vs=[.ref pm,.ref l]/\H pm=some (T3 m)/\Ag K H l (ps.map V.ref)/\Bv H ps ms/\ms.length<=12/\∀H',Same H H'->Q (.bl (ms.all λr=>decide (comm m r=0))) H'
theorem X9x{i:Int}(h:0<=i):((Builtin.Int.intBits i:Nat):Int)<=n↔i<((2^n:Nat):Int):=by
 unfold Builtin.Int.intBits;by_cases h0:i=0
 ·subst h0;have:=Cq n;rw[show ((0:Int) == 0)=true from rfl,if_pos rfl];constructor<;>intro<;>lia
 ·have hb:(i == 0)=false:=by simpa using h0
  rw[hb];have a:i.natAbs≠0:=by lia
  have:=RG (k:=n) a;simp only[Mx,HY];constructor
  ·intro z;have:i.natAbs.log2<n:=by lia
   rw[RG a]at this;lia
  ·intro z;have:i.natAbs<2^n:=by lia
   rw[<-RG a]at this;lia
theorem X3k{l:W9}{g:TG}{xs:List V}{te:TE}{fr:L2.St}{H1:Hp}{acc:W9}{Q:VK}(Pv:Nat->List V->Prop)(hn:xs.length<=sizeLine)(hacc:H1 acc=none)(hl:Ag K H1 l xs)(h0:Pv 0 [])
  (hg:∀{a:W9}{x y:V}{w1 w2:Option V}{H:Hp}{Q:L2.St->Hp->Prop},H a=some (.tup [x,y])->Q (some x::some y::fr) H->g (.ref a) (w1::w2::fr) H Q)
  (hs:∀i x zs H (N:V->Hp->Prop),xs[i]?=some x->Same H1 H->Pv i zs->(∀v H',Same H H'->Pv (i+1) (zs++[v])->N v H')->te (some (.int i)::some x::fr) H N)
  (hd:∀zs H2,Same H1 H2->Pv xs.length zs->H2 acc=some (.lst zs)->Q (.ref acc) H2):KH (Ite K l) g te (none::none::fr) H1 acc Q:=by
 refine⟨λi m zs f H2=>m=xs.length-i/\i<=xs.length/\(∃v w,f=v::w::fr)/\Same H1 H2/\H2 acc=some (.lst zs)/\zs.length=i/\Pv i zs,⟨xs.length,by simp,Ed _,⟨_,_,U⟩,A_ hacc _,Ar,U,h0⟩,?_⟩;rintro i m zs f H2 ⟨rfl,hi,⟨v,w,rfl⟩,s2,d,o,pv⟩;by_cases hlt:i<xs.length
 ·have n:xs[i]?=some xs[i]:=by simp[hlt]
  refine .inr ⟨⟨xs,_,s2.seq hl,n⟩,λu p h=>?_⟩;obtain⟨T,x,rfl,j,rfl,h1⟩:=h;have k:=h1 xs (s2.seq hl);have c:=A_ j (.tup [.int i,x]);exact hg (x:=.int i) (y:=x) Ar (hs i x zs _ _ k (s2.trans c) pv λv H' s' b=>⟨s' _ _ (c _ _ d),by lia,xs.length-(i+1),by lia,U,hlt,⟨_,_,U⟩,Dj ((s2.trans c).trans s') hacc,Ar,by simp[o],b⟩)
 ·have e:i=xs.length:=by lia
  subst e;exact .inl ⟨⟨xs,s2.seq hl,Bd _⟩,hd zs H2 s2 pv d⟩
theorem uh(o a b:Mk):comm o (mul a b)=(comm o a+comm o b)%2:=Bh.Zx o a b
theorem lX{o:Mk}:∀(ms:List Mk) (a:Mk),comm o a=0->(∀m∈ms,comm o m=0)->comm o (ms.foldl mul a)=0
 | [],_,h,_=>h
 | m::ms,a,h,hm=>lX ms (mul a m) (by rw[uh,h,hm m Mz]) λn b=>hm n (KZ _ b)
section
variable {P:U8}{w:W1}{K:U0}{mg:U4}{base:Heap}{k:Nat}{h:Heap}
theorem Y2t(F:Ab K "is_whole" (top 14) .none)(X:K.In h)(G:Ng h mg)(B:Bs mg):Aj P w K mg base (k+1) "is_whole" ["thing"] (mJ K):=by
 refine F.cal X G _ (S:=Fd) λf H vs Q E e h=>?_;obtain⟨v,rfl,⟨t,d,b,ty,c,e2,a⟩,q⟩:=h;refine⟨_,(@Ak _ _ _ (BL (K9 (CJ J_ rfl B.isinstance IW (Aa (pv 0) (Aa (JZ (v:=.ty "int") rfl B.int boot_int rfl) Ae))) (Kl (Rz (CJ J_ rfl B.isinstance IW (Aa (pv 0) (Aa (JZ (v:=.ty "bool") rfl B.bool boot_bool rfl) Ae)))))))),?_⟩;try dsimp only[CG]
 refine⟨_,U,_,_,_,d,U,ty,c,_,U,Gw (λz=>?_) (λz=>?_)⟩
 ·subst z;refine⟨_,U,_,_,_,b,U,ty,e2,_,U,?_⟩;rw[Ym]at a;rw[a];exact q
 ·subst z;rw[RN]at a;rw[a];exact q
theorem X2k(F:Ab K "is_word" (top 23) .none)(X:K.In h)(G:Ng h mg)(c8:Aj P w K mg base k "is_whole" ["thing"] (mJ K)):Aj P w K mg base (k+1) "is_word" ["thing","cells"] (uT K):=by
 refine F.cal X G _ (S:=Hx) λc H vs Q E b h=>?_;obtain⟨v,n,rfl,pt,q⟩:=h
 refine⟨_,(@Ay _ _ _ _ _ (Bx (Eh (PW.pt (Oh (DW (BP c8 b rfl (Aa (pv 0) Ae))) (Ol (DW (BP c8 b rfl (Aa (pv 1) Ae)))))))
   (@Ak _ _ _ (BL Dw))
   B_)
  (@Ak _ _ _ (BL (K9 (HD aR (pv 0) Ad (Ac _)) (Kl (HD zj (Pj O9 Od O_ P0 (pv 0)) (pv 1) (Ac _))))))),?_⟩
 try dsimp only[CG]
 refine⟨_,U,v,U,pt,_,U,Gw (λz=>?_) (λz=>?_)⟩
 ·refine⟨_,U,_,U,Part.int n,_,U,CQ ?_⟩;cases v with
  | int i =>
   refine⟨_,U,_,_,U,U,_,U,BJ (λa=>?_) (λa=>?_)⟩
   ·refine⟨_,U,U,_,U,U,_,U,_,_,U,U,?_⟩;have e:decide (((Builtin.Int.intBits i:Nat):Int)<=n)=Lf n (.int i):=by
     show _=decide _;rw[WW,X9x a];exact⟨λz=>⟨a,z⟩,λz=>z.2⟩
    show Q (.bl (decide (((Builtin.Int.intBits i:Nat):Int)<=n))) H;rw[e];exact q
   ·have e:Lf n (.int i)=false:=Dh λz=>a z.1;rw[e]at q;exact q
  | _=>cases z
 ·have e:Lf n v=false:=by cases v<;>first | rfl | cases z
  rw[e]at q;exact Dc q
theorem Y6d(F:Ab K "is_mark" (top 24) .none)(X:K.In h)(G:Ng h mg)(B:Bs mg)(c8:Aj P w K mg base k "is_whole" ["thing"] (mJ K))(cP:Aj P w K mg base k "is_word" ["thing","cells"] (uT K)):Aj P w K mg base (k+1) "is_mark" ["thing","cells"] (uJ K):=by
 refine F.cal X G ["thing","cells"] λg H vs Q E a h=>?_;obtain⟨v,n,b,rfl,tl,q⟩:=h
 refine⟨_,(@Ay _ _ _ _ _ (Bx (PW.pt (Es (Eh (DW (CJ J_ rfl B.isinstance IW (Aa (pv 0) (Aa (JZ (v:=.ty "tuple") rfl B.tuple Yc rfl) Ae))))) (Hg (Bf Hs (CJ GP rfl B.len Fv (Aa (pv 0) Ae)) Ad (Ac _)))))
   (@Ak _ _ _ (BL Dw))
   B_)
  (@Ay _ _ _ _ _ (Bx (PW.pt (Es (Eh (DW (BP c8 a rfl (Aa (Ao BK (pv 0) Ad (λ_ _=>rfl)) Ae)))) (Es (Bf J5 (Ao BK (pv 0) Ad (λ_ _=>rfl)) Ad (Ac _)) (Hg (Bf Lq (Ao BK (pv 0) Ad (λ_ _=>rfl)) Ad (Ac _))))))
   (@Ak _ _ _ (BL Dw))
   B_)
  (@Ak _ _ _ (BL (K9 (BP cP a rfl (Aa (Ao BK (pv 0) Ad (λ_ _=>rfl)) (Aa (pv 1) Ae))) (Kl (BP cP a rfl (Aa (Ao BK (pv 0) Ad (λ_ _=>rfl)) (Aa (pv 1) Ae))))))))),?_⟩
 try dsimp only[CG]
 cases tl with
 | odd ty e=>exact⟨_,rfl,_,_,_,false,rfl,ty,e,_,rfl,Dc q⟩
 | @many p xs e l=>exact⟨_,rfl,_,_,_,true,rfl,Bj.tup e,X5 K,_,rfl,CQ ⟨_,rfl,p,_,rfl,.inr (Ai.of e),rfl,_,rfl,Ho (λ_=>q) (λz=>absurd z (by lia))⟩⟩
 | @three p x y z e hx hy hz =>
  have S:Ai K H p [x,y,z]:=Ai.of e;refine⟨_,U,_,_,_,true,U,Bj.tup e,X5 K,_,U,CQ ⟨_,U,p,_,U,.inr S,U,_,U,Ho (λz=>absurd rfl z) (λ_=>?_)⟩⟩;refine⟨_,U,p,_,_,_,U,U,S,U,x,U,hx,_,U,JV (λc=>?_) (λc=>?_)⟩
  ·have e:Ql x=false:=by cases x<;>first | rfl | cases c
   rw[e,RN]at q;exact q
  cases x with
  | int i =>
   refine⟨_,U,p,_,_,_,U,U,S,U,_,_,U,U,_,U,BJ (λf=>?_) (λf=>?_)⟩
   ·have e:Ql (.int i)=false:=Dh λz=>by lia
    rw[e,RN]at q;exact q
   refine⟨_,U,p,_,_,_,U,U,S,U,_,_,U,U,_,U,BJ (λd=>?_) (λd=>?_)⟩
   ·have e:Ql (.int i)=false:=Dh λz=>by lia
    rw[e,RN]at q;exact q
   have e:Ql (.int i)=true:=Dr ⟨by lia,by lia⟩;rw[e,Ym]at q;refine⟨_,U,p,_,_,_,U,U,S,U,_,U,y,n,U,hy,_,U,Gw (λc=>?_) (λc=>?_)⟩
   ·rw[c,Ym]at q;exact⟨_,U,p,_,_,_,U,U,S,U,_,U,z,n,U,hz,q⟩
   ·rw[c,RN]at q;exact q
  | _=>cases c
theorem Y6e(F:Ab K "is_even" (top 25) .none)(X:K.In h)(G:Ng h mg)(c9:Aj P w K mg base k "ones" ["number"] CZ):Aj P w K mg base (k+1) "is_even" ["mark"] (uE K):=by
 refine F.cal X G ["mark"] λc H vs Q b a h=>?_;obtain⟨p,m,rfl,SP,q⟩:=h;refine⟨_,(@Ak _ _ _ (BL (HD Df (Af Cv (Af Ds (Ao BK (pv 0) Ad (λ_ _=>rfl)) (BP c9 a rfl (Aa (Af Dv (Ao BK (pv 0) Ad (λ_ _=>rfl)) (Ao BK (pv 0) Ad (λ_ _=>rfl))) Ae))) Ad) Ad (Ac _)))),?_⟩;try dsimp only[CG]
 refine⟨_,U,p,_,_,_,U,U,SP,U,_,U,p,_,_,_,U,U,SP,U,_,U,p,_,_,_,U,U,SP,U,_,_,U,U,m.2.1&&&m.2.2,Ig _ _,_,_,U,U,_,_,U,U,Ja,U,?_⟩;show Q (.bl (decide (V.int (((m.1:Int)+((pc (m.2.1&&&m.2.2):Nat):Int))%2)=V.int 0))) H;have e:decide (V.int (((m.1:Int)+((pc (m.2.1&&&m.2.2):Nat):Int))%2)=V.int 0)=Li m:=by
  unfold Li;rw[WW];constructor
  ·intro z;have:=V.int.inj z;lia
  ·intro z;congr 1;lia
 rw[e];exact q
theorem Y8t(F:Ab K "is_even_mark" (top 26) .none)(X:K.In h)(G:Ng h mg)(eY:Aj P w K mg base k "is_mark" ["thing","cells"] (uJ K))(eW:Aj P w K mg base k "is_even" ["mark"] (uE K)):Aj P w K mg base (k+1) "is_even_mark" ["thing","cells"] (Mi K):=by
 refine F.cal X G ["thing","cells"] λd H vs Q c a h=>?_;obtain⟨v,n,b,rfl,t,q⟩:=h;refine⟨_,(@Ak _ _ _ (BL (K9 (BP eY a rfl (Aa (pv 0) (Aa (pv 1) Ae))) (Kl (BP eW a rfl (Aa (pv 0) Ae)))))),?_⟩;try dsimp only[CG]
 cases t with
 | no t=>exact⟨_,rfl,_,rfl,v,n,false,rfl,t,_,rfl,CQ q⟩
 | @mark p m e ok=>exact⟨_,rfl,_,rfl,_,n,true,rfl,Tells.mark e ok,_,rfl,Dc ⟨_,rfl,p,m,rfl,Ai.of e,q⟩⟩
theorem Y6f(F:Ab K "commutes_with_all" (top 48) .none)(X:K.In h)(G:Ng h mg)(B:Bs mg)(eV:Aj P w K mg base k "commute" ["one","other"] (wW K)):Aj P w K mg base (k+1) "commutes_with_all" ["mark","rows"] (wV K):=by
 refine F.cal X G ["mark","rows"] λI H vs Q C A h=>?_;obtain⟨pm,l,ps,ms,m,rfl,d,q,hm,Lh,z⟩:=h;have c:(ps.map V.ref).length=ms.length:=by rw[Az,hm.length]
 refine⟨_,(@Ak _ _ _ (BL (CJ (J9 rfl) rfl B.all Jx (Aa (Gp rfl (BW.of (Nc:=["row","mark"]) (mp:=[none,some 0]) (by kernel_rfl)) (Ei (pv 1)) (λ_ _ _ _=>(Bb (i:=0) (show (["row","mark"]:W0).Nodup by decide +kernel) rfl (Or.inl rfl))) (λ_ _ _ _=>(BP eV A rfl (Aa (pv 1) (Aa (pv 0) Ae))))) Ae)))),?_⟩;try dsimp only[CG]
 refine⟨_,U,l,U,⟨_,q⟩,λacc b=>?_⟩;refine Lw (K:=K) (a:=l) (xs:=ps.map V.ref) (fr:=[some (.ref pm)]) (λi ys H'=>Same H H'/\H' acc=some (.lst ys)/\ys=((ms.take i).map λr=>decide (comm m r=0)).map V.bl) (by rw[c];exact Jj (by lia)) ⟨A_ b _,Ar,U⟩ (λi ys H' e=>e.1.seq q) ?_ ?_
 ·rintro i x ys D NN n E ⟨j,s,rfl⟩ v;rw[Bu]at n;obtain⟨p,hp,rfl⟩:=Dt.mp n;obtain⟨r,f,t⟩:=hm.get hp;refine⟨_,U,_,U,pm,p,m,r,U,Ai.of (j _ _ d),Ai.of (j _ _ t),?_⟩;refine v _ _ s ⟨Dj j b,Ar,?_⟩;rw[Gs,f,Iu,Ca,Ca];rfl
 rintro ys y u ⟨g,o,rfl⟩;rw[c,Ia]at o;refine⟨acc,_,U,Ag.of o,?_⟩;have e:(ms.map λr=>decide (comm m r=0)).all id=ms.all λr=>decide (comm m r=0):=by rw[V3];rfl
 rw[e];exact z y g
theorem Wg{α β:Type}{F:α->β->Prop}:∀{l:List α}{r:List β}{i:Nat}{x:α},Paired F l r->l[i]?=some x->∃y,r[i]?=some y/\F x y
 | _,_,i,_,.nil,h=>by simp at h
 | _::_,b::_,0,x,.cons e r,h=>by
  simp at h;subst h;exact⟨b,U,e⟩
 | _::_,_::_,i+1,x,.cons e r,h=>by
  obtain⟨y,h1,h2⟩:=Wg (i:=i) r (by simpa using h);exact⟨y,by simpa using h1,h2⟩
theorem Rh{α β:Type}{F:α->β->Prop}:∀{l:List α}{r:List β},Paired F l r->l.length=r.length
 | _,_,.nil=>rfl
 | _,_,.cons e r=>by rw[Ob,Ob,Rh r]
def Ma (K:U0):Sp:=λvs H Q _=>∃(v:V) (N:Nat),vs=[v,.int N]/\1<=N/\N<=6/\((∃t,Bj K H v t/\PySem.W.kitOne K t (.type "list")=some false/\Q (.bl false) H)\/(∃(l:W9) (xs:List V) (bs:List Bool),v=.ref l/\H l=some (.lst xs)/\xs.length<=13/\Paired (Dz K H N) xs bs/\bs.all id=false/\∀H',Same H H'->Q (.bl false) H') \/
 ∃(l:W9) (ps:U3) (ms:List Mk),v=.ref l/\H l=some (.lst (ps.map V.ref))/\Bv H ps ms/\ms.length<=12/\(∀m∈ms,Gr N m)/\∀b H',Same H H'->Tab ms b->Q (.bl b) H')
theorem Y2u(F:Ab K "is_table" (top 47) .none)(X:K.In h)(G:Ng h mg)(B:Bs mg)(c8:Aj P w K mg base k "is_whole" ["thing"] Pr)(cI:Aj P w K mg base k "is_even_mark" ["thing","cells"] (Mi K))
  (cH:Aj P w K mg base k "commutes_with_all" ["mark","rows"] (wV K)) (cJ:Aj P w K mg base k "made_of" ["rows","mark","cells"] (lN K)):Aj P w K mg base (k+1) "is_table" ["rows","cells"] (Ma K):=by
 refine F.cal X G ["rows","cells"] λnd H vs Q E' g h=>?_;obtain⟨v,N,rfl,N1,N6,⟨t,ty,e,q⟩ | ⟨l,xs,bs,rfl,hl,UL,pr,no,q⟩ | ⟨l,ps,ms,rfl,hl,hm,Lh,ok,q⟩⟩:=h
 ·refine⟨_,(@Ay _ _ _ _ _ (Bx (PW.pt (Es (Eh (DW (CJ J_ rfl B.isinstance IW (Aa (pv 0) (Aa (JZ (v:=.ty "list") rfl B.list OD rfl) Ae))))) (Es (Eh (DW (BP c8 g rfl (Aa (pv 1) Ae)))) (Hg (Bf J5 (pv 1) Ad (Ac _))))))
   (@Ak _ _ _ (BL Dw))
   B_)
  (@Ay _ _ _ _ _ (Bx (Eh (DW (CJ (J9 rfl) rfl B.all Jx (Aa (Gp rfl (BW.of (Nc:=["row","cells"]) (mp:=[none,some 1]) (by kernel_rfl)) (Ei (pv 0)) (λ_ _ _ _=>(Bb (i:=0) (show (["row","cells"]:W0).Nodup by decide +kernel) rfl (Or.inl rfl))) (λ_ _ _ _=>(BP cI g rfl (Aa (pv 0) (Aa (pv 1) Ae))))) Ae))))
   (@Ak _ _ _ (BL Dw))
   B_)
  (@Ay _ _ _ _ _ (Bx (Eh (DW (CJ (J9 rfl) rfl B.all Jx (Aa (Gp rfl (BW.of (Nc:=["row","rows"]) (mp:=[none,some 0]) (by kernel_rfl)) (Ei (pv 0)) (λ_ _ _ _=>(Bb (i:=0) (show (["row","rows"]:W0).Nodup by decide +kernel) rfl (Or.inl rfl))) (λ_ _ _ _=>(BP cH g rfl (Aa (pv 0) (Aa (pv 1) Ae))))) Ae))))
   (@Ak _ _ _ (BL Dw))
   B_)
  (@Ak _ _ _ (BL (Rz (CJ (lV rfl) rfl B.any boot_any (Aa (Gp rfl (BW.of (Nc:=["place","row","rows","cells"]) (mp:=[none,none,some 0,some 1]) (by kernel_rfl)) (SJ rfl B.enumerate (Aa (pv 0) Ae)) (λ_ _ _ _=>(Uq rfl (show (["place","row","rows","cells"]:W0).Nodup by decide +kernel) rfl rfl rfl rfl)) (λ_ _ _ _=>(HD Df (Ao Km (BP cJ g rfl (Aa (Kq lK (pv 2) K_ (J7 (pv 0))) (Aa (pv 1) (Aa (pv 3) Ae)))) Ad (λ_ _=>rfl)) Gb (Ac _)))) Ae)))))))),?_⟩
  exact⟨_,U,_,_,_,false,U,ty,e,_,U,Dc q⟩
 ·refine⟨_,(@Ay _ _ _ _ _ (Bx (PW.pt (Es (Eh (DW (CJ J_ rfl B.isinstance IW (Aa (pv 0) (Aa (JZ (v:=.ty "list") rfl B.list OD rfl) Ae))))) (Es (Eh (DW (BP c8 g rfl (Aa (pv 1) Ae)))) (Hg (Bf J5 (pv 1) Ad (Ac _))))))
   (@Ak _ _ _ (BL Dw))
   B_)
  (@Ay _ _ _ _ _ (Bx (Eh (DW (CJ (J9 rfl) rfl B.all Jx (Aa (Gp rfl (BW.of (Nc:=["row","cells"]) (mp:=[none,some 1]) (by kernel_rfl)) (Ei (pv 0)) (λ_ _ _ _=>(Bb (i:=0) (show (["row","cells"]:W0).Nodup by decide +kernel) rfl (Or.inl rfl))) (λ_ _ _ _=>(BP cI g rfl (Aa (pv 0) (Aa (pv 1) Ae))))) Ae))))
   (@Ak _ _ _ (BL Dw))
   B_)
  (@Ay _ _ _ _ _ (Bx (Eh (DW (CJ (J9 rfl) rfl B.all Jx (Aa (Gp rfl (BW.of (Nc:=["row","rows"]) (mp:=[none,some 0]) (by kernel_rfl)) (Ei (pv 0)) (λ_ _ _ _=>(Bb (i:=0) (show (["row","rows"]:W0).Nodup by decide +kernel) rfl (Or.inl rfl))) (λ_ _ _ _=>(BP cH g rfl (Aa (pv 0) (Aa (pv 1) Ae))))) Ae))))
   (@Ak _ _ _ (BL Dw))
   B_)
  (@Ak _ _ _ (BL (Rz (CJ (lV rfl) rfl B.any boot_any (Aa (Gp rfl (BW.of (Nc:=["place","row","rows","cells"]) (mp:=[none,none,some 0,some 1]) (by kernel_rfl)) (SJ rfl B.enumerate (Aa (pv 0) Ae)) (λ_ _ _ _=>(Uq rfl (show (["place","row","rows","cells"]:W0).Nodup by decide +kernel) rfl rfl rfl rfl)) (λ_ _ _ _=>(HD Df (Ao Km (BP cJ g rfl (Aa (Kq lK (pv 2) K_ (J7 (pv 0))) (Aa (pv 1) (Aa (pv 3) Ae)))) Ad (λ_ _=>rfl)) Gb (Ac _)))) Ae)))))))),?_⟩
  have E:Ag K H l xs:=Ag.of hl;have lx:=Rh pr;refine⟨_,U,_,_,_,true,U,Bj.lst hl,Ru K,_,U,CQ ⟨_,U,_,U,_,U,CQ ⟨_,U,_,_,U,U,_,U,BJ (λz=>absurd z (by lia)) (λ_=>?_)⟩⟩⟩;refine⟨_,U,l,U,⟨_,E⟩,λacc f=>?_⟩;refine Lw (K:=K) (a:=l) (xs:=xs) (fr:=[some (.int N)]) (λi ys H'=>Same H H'/\H' acc=some (.lst ys)/\ys=(bs.take i).map V.bl) (Jj (by lia)) ⟨A_ f _,Ar,U⟩ (λi ys H' e=>e.1.seq E) ?_ ?_
  ·rintro i x ys HA NN C a1 ⟨L,Z,rfl⟩ J;obtain⟨b,hb,tb⟩:=Wg pr C;refine⟨_,U,_,U,x,N,b,U,tb.same L,?_⟩;refine J _ _ Z ⟨Dj L f,Ar,?_⟩;rw[Gs,hb,Iu,Ca];rfl
  rintro ys H1 a4 ⟨W,O,rfl⟩;rw[lx,Ia]at O;refine⟨acc,_,U,Ag.of O,_,U,?_⟩;rw[no];exact Dc (q H1 W)
 ·refine⟨_,(@Ay _ _ _ _ _ (Bx (PW.pt (Es (Eh (DW (CJ J_ rfl B.isinstance IW (Aa (pv 0) (Aa (JZ (v:=.ty "list") rfl B.list OD rfl) Ae))))) (Es (Eh (DW (BP c8 g rfl (Aa (pv 1) Ae)))) (Hg (Bf J5 (pv 1) Ad (Ac _))))))
   (@Ak _ _ _ (BL Dw))
   B_)
  (@Ay _ _ _ _ _ (Bx (Eh (DW (CJ (J9 rfl) rfl B.all Jx (Aa (Gp rfl (BW.of (Nc:=["row","cells"]) (mp:=[none,some 1]) (by kernel_rfl)) (Ei (pv 0)) (λ_ _ _ _=>(Bb (i:=0) (show (["row","cells"]:W0).Nodup by decide +kernel) rfl (Or.inl rfl))) (λ_ _ _ _=>(BP cI g rfl (Aa (pv 0) (Aa (pv 1) Ae))))) Ae))))
   (@Ak _ _ _ (BL Dw))
   B_)
  (@Ay _ _ _ _ _ (Bx (Eh (DW (CJ (J9 rfl) rfl B.all Jx (Aa (Gp rfl (BW.of (Nc:=["row","rows"]) (mp:=[none,some 0]) (by kernel_rfl)) (Ei (pv 0)) (λ_ _ _ _=>(Bb (i:=0) (show (["row","rows"]:W0).Nodup by decide +kernel) rfl (Or.inl rfl))) (λ_ _ _ _=>(BP cH g rfl (Aa (pv 0) (Aa (pv 1) Ae))))) Ae))))
   (@Ak _ _ _ (BL Dw))
   B_)
  (@Ak _ _ _ (BL (Rz (CJ (lV rfl) rfl B.any boot_any (Aa (Gp rfl (BW.of (Nc:=["place","row","rows","cells"]) (mp:=[none,none,some 0,some 1]) (by kernel_rfl)) (SJ rfl B.enumerate (Aa (pv 0) Ae)) (λ_ _ _ _=>(Uq rfl (show (["place","row","rows","cells"]:W0).Nodup by decide +kernel) rfl rfl rfl rfl)) (λ_ _ _ _=>(HD Df (Ao Km (BP cJ g rfl (Aa (Kq lK (pv 2) K_ (J7 (pv 0))) (Aa (pv 1) (Aa (pv 3) Ae)))) Ad (λ_ _=>rfl)) Gb (Ac _)))) Ae)))))))),?_⟩
  have E:Ag K H l (ps.map V.ref):=Ag.of hl;have u:(ps.map V.ref).length=ms.length:=by rw[Az,hm.length]
  refine⟨_,U,_,_,_,true,U,Bj.lst hl,Ru K,_,U,CQ ⟨_,U,_,U,_,U,CQ ⟨_,U,_,_,U,U,_,U,BJ (λz=>absurd z (by lia)) (λ_=>?_)⟩⟩⟩;refine⟨_,U,l,U,⟨_,E⟩,λacc f=>?_⟩;refine Lw (K:=K) (a:=l) (xs:=ps.map V.ref) (fr:=[some (.int N)]) (λi ys H'=>Same H H'/\H' acc=some (.lst ys)/\ys=((ms.take i).map Li).map V.bl) (by rw[u];exact Jj (by lia)) ⟨A_ f _,Ar,U⟩ (λi ys H' e=>e.1.seq E) ?_ ?_
  ·rintro i x ys HA NN C a1 ⟨L,Z,rfl⟩ J;rw[Bu]at C;obtain⟨p,hp,rfl⟩:=Dt.mp C;obtain⟨r,n,p0⟩:=hm.get hp;refine⟨_,U,_,U,_,N,_,U,Dz.mark (L _ _ p0) (ok r (Er n)),?_⟩;refine J _ _ Z ⟨Dj L f,Ar,?_⟩;rw[Gs,n,Iu,Ca,Ca];rfl
  rintro ys H1 a4 ⟨W,O,rfl⟩;rw[u,Ia]at O;refine⟨acc,_,U,Ag.of O,_,U,JV (λz=>?_) (λz=>?_)⟩
  ·refine q false H1 W ⟨(λz=>nomatch z),λ_=>.inl ?_⟩;rw[V3]at z;refine Classical.byContradiction λT=>?_;have:ms.all (id ∘ Li)=true:=Gz.mpr λm s=>Ke.mpr (Classical.byContradiction λhe=>T ⟨m,s,he⟩);rw[this]at z;cases z
  have a6:∀m∈ms,ev m:=λm s=>by
   rw[V3]at z;exact Ke.mp (Gz.mp z m s)
  refine⟨_,U,l,U,⟨_,W.seq E⟩,λM D=>?_⟩;refine Lw (K:=K) (a:=l) (xs:=ps.map V.ref) (fr:=[some (.ref l)]) (λi ys H'=>Same H1 H'/\H' M=some (.lst ys)/\ys=((ms.take i).map λm=>ms.all λr=>decide (comm m r=0)).map V.bl) (by rw[u];exact Jj (by lia)) ⟨A_ D _,Ar,U⟩ (λi ys H' e=>(W.trans e.1).seq E) ?_ ?_
  ·rintro i x ys HA NN C a1 ⟨L,Z,rfl⟩ J;rw[Bu]at C;obtain⟨p,hp,rfl⟩:=Dt.mp C;obtain⟨r,n,p0⟩:=hm.get hp;have S:=W.trans L;refine⟨_,U,_,U,p,l,ps,ms,r,U,S _ _ p0,S.seq E,hm.same S,Lh,λHB SB=>?_⟩;refine J _ _ (SB _ _ Z) ⟨Dj (L.trans SB) D,Ar,?_⟩;rw[Gs,n,Iu,Ca,Ca];rfl
  rintro ys H2 b2 ⟨S2,c2,rfl⟩;rw[u,Ia]at c2;have A:=W.trans S2;refine⟨M,_,U,Ag.of c2,_,U,JV (λz=>?_) (λz=>?_)⟩
  ·refine q false H2 A ⟨(λz=>nomatch z),λ_=>.inr (.inl ?_)⟩;rw[V3]at z;refine Classical.byContradiction λT=>?_;have:ms.all (id ∘ λm=>ms.all λr=>decide (comm m r=0))=true:=Gz.mpr λm s=>Gz.mpr λr g=>Dr (Classical.byContradiction λhe=>T ⟨m,s,r,g,he⟩);rw[this]at z;cases z
  have a9:∀m∈ms,∀r∈ms,comm m r=0:=λm s r g=>by
   rw[V3]at z;exact JR (Gz.mp (Gz.mp z m s) r g)
  refine⟨_,U,l,_,U,A.seq E,λa2 R=>?_⟩;refine X3k (l:=l) (xs:=ps.map V.ref) (fr:=[some (.ref l),some (.int N)]) (λi zs=>∃bs:List Bool,zs=bs.map V.bl/\bs.length=i/\∀(j:Nat) (b:Bool) (m:Mk),bs[j]?=some b->ms[j]?=some m->(b=true->Md (ms.take j) m)/\(b=false->Apart (ms.take j) m)) (by rw[u];exact Jj (by lia)) R (A.seq E) ⟨[],U,U,λj b m hb=>by simp at hb⟩ (λh q=>⟨_,_,U,Ai.of h,U,_,_,U,_,_,U,U,q⟩) ?_ ?_
  ·rintro i x zs H3 NN C S3 ⟨bs,rfl,bl,I⟩ J;have b1:i<(ps.map V.ref).length:=(Fe.mp C).1;rw[Bu]at C;obtain⟨p,hp,rfl⟩:=Dt.mp C;obtain⟨r,n,p0⟩:=hm.get hp;have a8:=Er n;have S:=A.trans S3;have add:∀c:Bool,((c=true->Md (ms.take i) r)/\(c=false->Apart (ms.take i) r))->∃bs':List Bool,bs.map V.bl++[V.bl c]=bs'.map V.bl/\bs'.length=i+1/\∀(j:Nat) (b:Bool) (m:Mk),bs'[j]?=some b->ms[j]?=some m->(b=true->Md (ms.take j) m)/\(b=false->Apart (ms.take j) m):=λc hc=>by
    refine⟨bs++[c],by rw[Ca];rfl,by rw[DP,bl];rfl,λj b m hb d=>?_⟩;by_cases Y:j<bs.length
    ·rw[Rg Y]at hb;exact I j b m hb d
    ·have b0:j=i:=by
      have:=(Fe.mp hb).1;rw[DP,Qg]at this;lia
     subst b0;rw[Qi (by lia),bl,j9]at hb;have hb:c=b:=by simpa using hb
     rw[n]at d;have d:=Option.some.inj d;subst hb;subst d;exact hc
   refine⟨_,U,_,U,_,U,l,_,U,S.seq E,λcp a7=>?_⟩;rw[Zy (by lia),<-Ti];have s4:=A_ a7 (.lst ((ps.take i).map V.ref));refine⟨_,U,_,U,cp,p,ps.take i,ms.take i,r,N,U,Ag.of Ar,((hm.same S).same s4).take i,s4 _ _ (S _ _ p0),N6,by rw[Gk];lia,λm hm=>ok m (Qf hm),ok r a8,λrt H5 S5 a0=>?_⟩;rcases a0 with ⟨k1,y,ln,_,hrt,_,k4,hf⟩ | ⟨pp,o,hrt,_,_,_,O,c0⟩
   ·refine⟨rt,_,_,_,U,U,Ai.of hrt,U,U,?_⟩;rw[Dr rfl];exact J _ H5 (s4.trans S5) (add true ⟨λ_=>⟨k1,y,k4,hf⟩,λz=>nomatch z⟩)
   ·refine⟨rt,_,_,_,U,U,Ai.of hrt,U,U,?_⟩;rw[Dh am];exact J _ H5 (s4.trans S5) (add false ⟨(λz=>nomatch z),λ_=>⟨o,O,c0⟩⟩)
  ·rintro zs H3 S3 ⟨bs,rfl,bl,I⟩ a3;rw[u]at bl;refine⟨a2,_,U,Ag.of a3,_,U,?_⟩;cases ha:bs.any id with
   | true =>
    refine q false H3 (A.trans S3) ⟨(λz=>nomatch z),λ_=>.inr (.inr ?_)⟩;obtain⟨b,hb,eb⟩:=Qc.mp ha;obtain⟨j,Y,ej⟩:=fu hb;have d:ms[j]?=some (ms[j]'(by lia)):=Cm (by lia);exact⟨j,_,d,(I j b _ (by rw[Cm Y,ej]) d).1 eb⟩
   | false =>
    refine q true H3 (A.trans S3) ⟨λ_=>⟨a6,a9,λj m d=>?_⟩,λz=>nomatch z⟩;have Y:j<bs.length:=by have:=(Fe.mp d).1;lia
    have a5:=Cm Y;have fb:bs[j]=false:=by
     cases hq:bs[j] with
     | false=>rfl
     | true =>
      have:bs.any id=true:=Qc.mpr ⟨bs[j],Oa Y,hq⟩;rw[this]at ha;cases ha
    exact(I j _ m a5 d).2 fb
end
variable{ms:List Mk}
theorem X1w{N:Nat}{l:W9}{ps:U3}(T:KC N H l ps ms)(t:Tab ms b):b=true:=by
 cases b with
 | true=>rfl
 | false =>
  rcases t.2 rfl with ⟨m,hm,he⟩ | ⟨m,hm,r,hr,hc⟩ | ⟨i,m,hmi,kk,x,k4,hf⟩
  ·exact absurd (T.tb.nice.even m hm) he
  ·exact absurd (T.tb.nice.com m hm r hr) hc
  ·have c:i<ms.length:=(Fe.mp hmi).1;have a:ms.getD i (0,0,0)=m:=by rw[Bp,hmi];rfl
   rw[<-a]at hf;exact(lG T.tb.ind c (by rw[a];exact T.tb.nice.q m (Er hmi)) k4 hf).elim
variable{base:Heap}
theorem Aj.imp{P:U8}{w:W1}{mg:U4}{k:Nat}{x:Str}{ps:W0}{sp sp':Sp}(c:Aj P w K mg base k x ps sp)(h:∀vs H Q E,sp' vs H Q E->sp vs H Q E):Aj P w K mg base k x ps sp' :=
 let ⟨f,fd,F,b,kp,m⟩:=c.ex
 ⟨f,fd,F.imp h,b,kp,m⟩
theorem X3n{P:U8}{w:W1}{mg:U4}{k:Nat}(c:Aj P w K mg base k "is_table" ["rows","cells"] (Ma K)):Aj P w K mg base k "is_table" ["rows","cells"] wX :=
 Aj.imp c λvs H Q E h=>by
  obtain⟨l,ps,ms,N,rfl,T,f,a,d⟩:=h;refine⟨.ref l,N,U,f,a,.inr (.inr ⟨l,ps,ms,U,T.lst,T.mks,E_ T.len (by decide),T.ok,λb H' e t=>?_⟩)⟩;rw[X1w T t];exact d H' e
noncomputable def ins {α:Type}(L:List α)(a:Nat)(m:α):List α:=L.take a++[m]++L.drop a
section
variable {α:Type}{L:List α}{a i:Nat}{m:α}
theorem xQ(ha:a<=L.length)(h:i<a):(ins L a m)[i]?=L[i]?:=by
 unfold ins;rw[List.append_assoc,Rg (by rw[Gk];lia),fQ,if_pos h]
theorem xO(ha:a<=L.length):(ins L a m)[a]?=some m:=by
 unfold ins;rw[List.append_assoc,Qi (by rw[Gk];lia),Gk,Yr ha,j9];rfl
theorem xP(ha:a<=L.length)(h:a<=i):(ins L a m)[i+1]?=L[i]?:=by
 unfold ins;rw[Qi (by rw[DP,Gk,Qg];lia),DP,Gk,Qg,Yr ha,List.getElem?_drop];congr 1;lia
theorem X9c{x:α}(h:x∈L):x∈ins L a m:=by
 unfold ins;rw[<-qF a L]at h;rcases DR.mp h with h | h
 ·exact JG _ (JG _ h)
 ·exact FQ _ h
theorem uq:m∈ins L a m:=JG _ (FQ _ (DK.mpr rfl))
theorem X9f{P:α->Prop}(h:∀x∈L,P x)(hm:P m):∀x∈ins L a m,P x:=λx b=>by
 unfold ins at b;rcases DR.mp b with b | b
 ·rcases DR.mp b with b | b
  ·exact h x (Qf b)
  ·rw[DK.mp b];exact hm
 ·exact h x (Tt b)
theorem X9d(ha:a<=L.length):(ins L a m).length=L.length+1:=by
 unfold ins;rw[DP,DP,Gk,Ld,Qg];lia
theorem Zb{x:α}{k:Nat}(h:L[i]?=some x)(hi:i<k):x∈L.take k:=Er (i:=i) (by rw[fQ,if_pos hi];exact h)
end
theorem mL(ms:List Mk)(x a:Nat):∀d,(∀j,a<=j->j<a+d->bit x j=0)->chosen ms x (a+d)=chosen ms x a
 | 0,_=>rfl
 | d+1,h=>by
  rw[<-bw,QB,h (a+d) (by lia) (by lia),if_neg (by decide),Oz];exact mL ms x a d λj h1 h2=>h j h1 (by lia)
theorem uU(x a:Nat):∀d,(∃j,a<=j/\j<a+d/\bit x j=1)->∃b,a<=b/\b<a+d/\bit x b=1/\∀j,b<j->j<a+d->bit x j=0
 | 0,h=>by obtain⟨j,h1,h2,_⟩:=h;lia
 | d+1,h=>by
  by_cases e:bit x (a+d)=1
  ·exact⟨a+d,by lia,by lia,e,λj h1 h2=>by lia⟩
  ·obtain⟨j,h1,h2,c⟩:=h;have:j≠a+d:=λz=>e (z ▸ c);obtain⟨b,g,m,k,f⟩:=uU x a d ⟨j,h1,by lia,c⟩;refine⟨b,g,by lia,k,λj i l=>?_⟩;by_cases ej:j=a+d
   ·have:=Ey x (a+d);rw[ej];lia
   ·exact f j i (by lia)
theorem Za{p:Nat}(h:p<ms.length):ms[p]?=some (ms.getD p (0,0,0)):=by
 rw[Bp,Cm h];rfl
theorem Y6p{q x a:Nat}(hm:m=(chosen ms x ms.length).foldl mul (q,0,0))(ha:a<=ms.length)(t:Tab (ins ms a m) b):b=false:=by
 cases b with
 | false=>rfl
 | true =>
  exfalso;obtain⟨_,_,k⟩:=t.1 rfl;have n:∀o:Mk,comm o (q,0,0)=0:=λo=>by unfold comm;simp[Gx]
  obtain⟨d,hd⟩:∃d,ms.length=a+d:=⟨ms.length-a,by lia⟩;by_cases h:∃j,a<=j/\j<a+d/\bit x j=1
  ·obtain⟨c,h1,h2,v,y⟩:=uU x a d h;have w:c<ms.length:=by lia
   obtain⟨o,o1,o0⟩:=k (c+1) (ms.getD c (0,0,0)) (by rw[xP ha h1];exact Za w);have g:comm o m=0:=o0 m (Zb (xO ha) (by lia));have os:∀p,p<c->comm o (ms.getD p (0,0,0))=0:=λp hp=>by
    by_cases hpa:p<a
    ·exact o0 _ (Zb (i:=p) (by rw[xQ ha hpa];exact Za (by lia)) (by lia))
    ·exact o0 _ (Zb (i:=p+1) (by rw[xP ha (by lia)];exact Za (by lia)) (by lia))
   have e:chosen ms x ms.length=chosen ms x c++[ms.getD c (0,0,0)]:=by
    have:=mL ms x (c+1) (ms.length-(c+1)) λj u s=>y j (by lia) (by lia);rw[show c+1+(ms.length-(c+1))=ms.length by lia]at this;rw[this,QB,if_pos v]
   rw[hm,e,O6]at g;have e2:comm o (List.foldl mul (List.foldl mul (q,0,0) (chosen ms x c)) [ms.getD c (0,0,0)])=1:=by
    show comm o (mul _ _)=1;rw[uh,o1,lX _ _ (n o) λr f=>?_];unfold chosen at f;obtain⟨p,hp,rfl⟩:=El.mp f;exact os p (Qy hp)
   rw[e2]at g;cases g
  ·obtain⟨o,o1,o0⟩:=k a m (xO ha);have e:chosen ms x ms.length=chosen ms x a:=by
    rw[hd];refine mL ms x a d λj u s=>?_;have:=Ey x j;have:bit x j≠1:=λz=>h ⟨j,u,s,z⟩;lia
   rw[hm,e,lX _ _ (n o) λr f=>?_]at o1
   ·cases o1
   ·unfold chosen at f;obtain⟨p,hp,rfl⟩:=El.mp f;have l:=Qy hp;exact o0 _ (Zb (i:=p) (by rw[xQ ha l];exact Za (by lia)) l)
def HS (ms:List Mk)(m:Mk):Prop:=¬ ev m\/(∃r∈ms,comm r m≠0)\/∃q x,m=(chosen ms x ms.length).foldl mul (q,0,0)
theorem HS.no{a:Nat}(s:HS ms m)(ha:a<=ms.length)(t:Tab (ins ms a m) b):b=false:=by
 rcases s with s | ⟨r,hr,s⟩ | ⟨q,x,s⟩
 ·cases b with
  | false=>rfl
  | true=>exact absurd ((t.1 rfl).1 m uq) s
 ·cases b with
  | false=>rfl
  | true=>exact absurd ((t.1 rfl).2.1 r (X9c hr) m uq) s
 ·exact Y6p s ha t
theorem W2z(K:U0):PySem.W.kitOne K (.type "list") (.type "tuple")=some false:=by with_unfolding_all rfl
theorem xT(K:U0):PySem.W.kitOne K (.type "tuple") (.type "list")=some false:=by with_unfolding_all rfl
theorem W2y(K:U0):PySem.W.kitOne K (.type "NoneType") (.type "list")=some false:=by with_unfolding_all rfl
theorem W3b(K:U0):PySem.W.kitOne K (.type "dict") (.type "list")=some false:=by with_unfolding_all rfl
theorem W2x(K:U0):PySem.W.kitOne K (.type "str") (.type "list")=some false:=by with_unfolding_all rfl
theorem W3a(K:U0):PySem.W.kitOne K (.type "int") (.type "list")=some false:=by with_unfolding_all rfl
theorem X8x(K:U0):PySem.W.kitOne K (.type "bool") (.type "list")=some false:=by with_unfolding_all rfl
inductive Ij (K:U0) (H:Hp) (N:Nat):V->Prop where
 | odd {v:V}{t:W2} (ty:Bj K H v t) (e:PySem.W.kitOne K t (.type "list")=some false):Ij K H N v
 | item {l:W9}{xs:List V}{bs:List Bool} (hl:H l=some (.lst xs)) (UL:xs.length<=13) (pr:Paired (Dz K H N) xs bs) (no:bs.all id=false):Ij K H N (.ref l)
 | marks {l:W9}{ps:U3}{ms:List Mk} (hl:H l=some (.lst (ps.map V.ref))) (hm:Bv H ps ms) (Lh:ms.length<=12) (ok:∀m∈ms,Gr N m) (no:∀b,Tab ms b->b=false):Ij K H N (.ref l)
theorem W7c{p:W9}{x y z:V}(e:H p=some (.tup [x,y,z]))(hx:Part K H x)(hy:Part K H y)(hz:Part K H z)(b:Ql x=false\/Lf n y=false\/Lf n z=false):Tells K H n (.ref p) false:=by
 have t:=Tells.three (n:=n) e hx hy hz;have:(Ql x && (Lf n y && Lf n z))=false:=by rcases b with b | b | b<;>rw[b]<;>simp
 rwa [this]at t
end Ah
namespace BZ
open L2 Ba Am Pc Fo
open Ax (Gm U_ Bg Jf Rw)
open Eo (fl sw Ej)
open C_ (Mk Bm Al Br bn bp)
open Ci (Kp Nv Ks Kc)
open CT (E In Indep Sv Ub Du Di)
open DG (chosen prod mul)
open Bh (V6 vec Ck)
noncomputable def ug:Gm->Mv
 | .mix a=>.mix a
 | .mv (.flip a)=>.flip a
 | .mv (.turn a k)=>.turn a k
 | .mv (.iff a b)=>.iff a b
 | .mv (.pair a b)=>.pair a b
 | .mv (.swap a b)=>.swap a b
 | .mv (.cross a b d)=>.cross a b d
theorem W5r(m:Gm):mm (ug m)=m.mm:=by
 cases m with
 | mix a=>rfl
 | mv v=>cases v<;>rfl
theorem W4z{c:Nat}{m:Gm}(h:m.Ok c):Ej c (ug m):=by
 cases m with
 | mix a =>
  have h:a<c:=h;exact⟨show (0:Int)<=(a:Int) by lia,by intro x e;simp[ug,Mv.cells]at e;lia⟩
 | mv v =>
  cases v with
  | flip a =>
   have h:a<c:=h;exact⟨show (0:Int)<=(a:Int) by lia,by intro x e;simp[ug,Mv.cells]at e;lia⟩
  | turn a k =>
   have h:a<c/\1<=k/\k<=7:=h;exact⟨show (0:Int)<=(a:Int)/\(1:Int)<=(k:Int)/\(k:Int)<=7 by lia,by intro x e;simp[ug,Mv.cells]at e;lia⟩
  | iff a b =>
   have h:a<c/\b<c/\a≠b:=h;exact⟨show (0:Int)<=(a:Int)/\(0:Int)<=(b:Int)/\(a:Int)≠(b:Int) by lia,by intro x e;simp[ug,Mv.cells]at e;lia⟩
  | pair a b =>
   have h:a<c/\b<c/\a≠b:=h;exact⟨show (0:Int)<=(a:Int)/\(0:Int)<=(b:Int)/\(a:Int)≠(b:Int) by lia,by intro x e;simp[ug,Mv.cells]at e;lia⟩
  | swap a b =>
   have h:a<c/\b<c/\a≠b:=h;exact⟨show (0:Int)<=(a:Int)/\(0:Int)<=(b:Int)/\(a:Int)≠(b:Int) by lia,by intro x e;simp[ug,Mv.cells]at e;lia⟩
  | cross a b d =>
   have h:a<c/\b<c/\d<c/\a≠b/\a≠d/\b≠d:=h;exact⟨show (0:Int)<=(a:Int)/\(0:Int)<=(b:Int)/\(0:Int)<=(d:Int)/\(a:Int)≠(b:Int)/\(a:Int)≠(d:Int)/\(b:Int)≠(d:Int) by lia,by intro x e;simp[ug,Mv.cells]at e;lia⟩
theorem W5a{m:Gm}(h:Bg m):Br (ug m):=by
 cases m with
 | mix a=>trivial
 | mv v =>
  cases v with
  | turn a k=>exact(show ((k:Int)).toNat%2=0 from h)
  | cross a b d=>exact h
  | _=>trivial
theorem W1l{H:Hp}{l:W9}{ps:U3}{ms:List Gm}{c:Nat}(r:Rw H l ps ms c):Gi H l (ms.map ug):=by
 refine⟨ps,r.lst,?_⟩;have e:(ms.map ug).map mm=ms.map Gm.mm:=by rw[Ou];exact Y4 λm _=>W5r m
 rw[e];exact r.mvs
end BZ
set_option maxHeartbeats 1000000
namespace TV
open Pc KD
open Bh (cm ev Tb En V6)
open DG (Mk mul bit)
open CT (Indep xs Du Di)
open C_ (Bm Al Br)
open Eo (Ok Ej)
open Uz (Fp R5)
open Fo (Mv)
variable {c:Nat}{ms:List Mk}{row:List Mv}
theorem X9b(o:∀x∈row,Ok x)(b:∀x∈row,Br x)(m:Mk)(m4:m.1<4)(e:(Al row m).2=(0,0)):m.2=(0,0):=by
 have h:=Jr.Xg o b m4 (λx n _ q=>YQ.Z1 x n q);rw[<-h];exact(Fl.Xo (Jr.bwd row) (n:=(0,0,0)) e).trans (Fl.Zi _ 0)
theorem X3u{f:Mk->Mk}{j:Nat}(hj:j<ms.length):(ms.map f).getD j (0,0,0)=f (ms.getD j (0,0,0)):=Bh.m_ hj
theorem yV(cb:Nat->Bool):∀n,n<=ms.length->(Al row (0,xs (Du ms) cb n,xs (Di ms) cb n)).2=(xs (Du (ms.map (Al row))) cb n,xs (Di (ms.map (Al row))) cb n)
 | 0,_=>Fl.Zi row 0
 | n+1,h=>by
  have a:=yV cb n (by lia);unfold xs;by_cases q:cb n=true
  ·simp only[if_pos q];have:=Fl.Xn row 0 (0,xs (Du ms) cb n,xs (Di ms) cb n) (ms.getD n (0,0,0));rw[a]at this;rw[Fl.fget,Fl.Hj,Fl.fget,Fl.Hj,X3u (by lia)];exact this
  ·simp only[if_neg q];exact a
theorem X3o(o:∀x∈row,Ok x)(b:∀x∈row,Br x)(I:Indep ms):Indep (ms.map (Al row)):=λa f d j c=>by
 rw[Az]at f d c;have e:=yV (row:=row) a ms.length (Bd _);rw[f,d]at e;have z:=X9b o b (0,xs (Du ms) a ms.length,xs (Di ms) a ms.length) (show 0<4 by decide) e;exact I a (congrArg Prod.fst z) (congrArg Prod.snd z) j c
theorem W5b(c6:c<=6)(hb:∀(x:Mv) (m:Mk),Ej c x->Fp c m->Fp c (Bm x m))(o:∀x∈row,Ej c x)(b:∀x∈row,Br x)(T:Tb ms)(k:∀m∈ms,Ci.Ok c m):Tb (ms.map (Al row))/\∀m∈ms.map (Al row),Ci.Ok c m:=by
 have o':∀x∈row,Ok x:=λx e=>(o x e).1;have ok:∀m∈ms.map (Al row),Ci.Ok c m:=λm hm=>by
  obtain⟨n,a,rfl⟩:=El.mp hm;have:=R5 hb o (m:=n) ⟨(k n a).q,(k n a).f,(k n a).s⟩;exact⟨this.k,this.f,this.s⟩
 refine⟨⟨⟨λm hm=>(ok m hm).q,λm hm=>?_,λm hm r d=>?_⟩,λm hm=>(ok m hm).v6 c6,X3o o' b T.ind⟩,ok⟩
 ·obtain⟨n,a,rfl⟩:=El.mp hm;exact W6x ((C_.Xe n o' b).trans (zU (T.nice.even n a)))
 ·obtain⟨n,a,rfl⟩:=El.mp hm;obtain⟨p,hp,rfl⟩:=El.mp d;exact Kf.mp ((Jr.aB n p o' b).trans (Kf.mpr (T.nice.com n a p hp)))
theorem mz{fs gs:W3}(cb:Nat->Bool):∀n,n<=gs.length->xs (fs++gs) cb (fs.length+n)=xs fs cb fs.length^^^xs gs (λj=>cb (fs.length+j)) n
 | 0,_=>by
  show xs (fs++gs) cb fs.length=xs fs cb fs.length^^^0;rw[Ow];exact CT.Py _ λj a=>⟨U,by rw[Bp,Bp,Rg a]⟩
 | n+1,h=>by
  have b:=mz (fs:=fs) (gs:=gs) cb n (by lia);have g:(fs++gs).getD (fs.length+n) 0=gs.getD n 0:=by rw[Bp,Bp,Qi (by lia),gY]
  show (if cb (fs.length+n) then xs (fs++gs) cb (fs.length+n)^^^(fs++gs).getD (fs.length+n) 0 else xs (fs++gs) cb (fs.length+n))=xs fs cb fs.length^^^(if cb (fs.length+n) then xs gs (λj=>cb (fs.length+j)) n^^^gs.getD n 0 else xs gs (λj=>cb (fs.length+j)) n);rw[b,g];split
  ·rw[Fq]
  ·rfl
theorem Y6u{A B:List Mk}(I:Indep (A++B)):Indep (B++A):=λa i g j f=>by
 have o:(B++A).length=B.length+A.length:=DP;have p:(A++B).length=A.length+B.length:=DP;rw[o]at i g f;have s:∀X Y:List Mk,Du (X++Y)=Du X++Du Y:=λX Y=>Ca;have m:∀X Y:List Mk,Di (X++Y)=Di X++Di Y:=λX Y=>Ca;have n:∀X:List Mk,(Du X).length=X.length:=λX=>Az _;have ls:∀X:List Mk,(Di X).length=X.length:=λX=>Az _;let d:Nat->Bool:=λj=>if j<A.length then a (B.length+j) else a (j-A.length);have b:∀(F:List Mk->List Nat),(∀X Y,F (X++Y)=F X++F Y)->(∀X,(F X).length=X.length)->xs (F (B++A)) a (B.length+A.length)=0->xs (F (A++B)) d (A++B).length=0:=λF k fl h=>by
  have l:=mz (fs:=F B) (gs:=F A) a A.length (by rw[fl];exact Bd _);have e2:=mz (fs:=F A) (gs:=F B) d B.length (by rw[fl];exact Bd _);rw[fl]at l e2;rw[p,k,e2,CT.Py (fs:=F A) (gs:=F A) (c:=d) (d:=λj=>a (B.length+j)) _ (λj f=>⟨if_pos f,U⟩),CT.Py (fs:=F B) (gs:=F B) (c:=λj=>d (A.length+j)) (d:=a) _ (λj f=>⟨by show (if A.length+j<A.length then _ else _)=_;rw[if_neg (by lia),gY],U⟩),JN,<-l,<-k,h]
 have r:=I d (b Du s n i) (b Di m ls g);by_cases q:j<B.length
 ·have:=r (A.length+j) (by lia);have e:d (A.length+j)=a j:=by show (if A.length+j<A.length then _ else _)=_;rw[if_neg (by lia),gY]
  rw[<-e];exact this
 ·have:=r (j-B.length) (by lia);have e:d (j-B.length)=a j:=by show (if j-B.length<A.length then _ else _)=_;rw[if_pos (by lia),Nat.add_sub_cancel' (by lia)]
  rw[<-e];exact this
theorem W1e(T:Tb ms)(n:Nat):Tb (ms.drop n++ms.take n):=by
 have a:∀m∈ms.drop n++ms.take n,m∈ms:=λm hm=>by
  rcases DR.mp hm with q | q
  ·exact Tt q
  ·exact Qf q
 exact⟨⟨λm hm=>T.nice.q m (a m hm),λm hm=>T.nice.even m (a m hm),λm hm r b=>T.nice.com m (a m hm) r (a r b)⟩,λm hm=>T.v6 m (a m hm),Y6u (by rw[qF];exact T.ind)⟩
noncomputable def Jw (c w:Nat):List Mk:=(List.range c).map λi=>(2*(w / 2^i%2),0,2^i)
theorem Z5(c w:Nat):∀m∈Jw c w,Ci.Ok c m:=λm hm=>by
 obtain⟨i,hi,rfl⟩:=El.mp hm;exact⟨by show 2*(w / 2^i%2)<4;lia,Cq _,Jl (by decide) (Ew.mp hi)⟩
theorem W1i(c6:c<=6)(w:Nat):Tb (Jw c w):=by
 refine⟨⟨λm hm=>(Z5 c w m hm).q,λm hm=>?_,λm hm r b=>?_⟩,λm hm=>(Z5 c w m hm).v6 c6,?_⟩
 ·obtain⟨i,_,rfl⟩:=El.mp hm;show (2*(w / 2^i%2)+pc (0&&&2^i))%2=0;rw[RK,Gx];lia
 ·obtain⟨i,_,rfl⟩:=El.mp hm;obtain⟨j,_,rfl⟩:=El.mp b;show (pc (0&&&2^j)+pc (2^i&&&0))%2=0;rw[RK,Tf,Gx]
 ·refine CT.Y3h (ms:=(List.range c).map λj=>((0,0,2^j):Mk)) (by unfold Jw;simp) (λj a=>?_) (CT.Y3g c);simp only[Az,Tp]at a;unfold Jw;rw[Bp,Bp,Bu,Bu,fZ a];rfl
end TV
namespace pK
open Pc JL DG CT Bh
variable {ms:List Mk}{i j:Nat}
theorem X9l{x m:Mk}{t:Nat}(h:(ms.set i x)[t]?=some m):m=x\/(t≠i/\ms[t]?=some m):=by
 by_cases e:t=i
 ·subst e;rw[qR]at h;cases q:ms[t]? with
  | none=>rw[q]at h;cases h
  | some y=>rw[q]at h;cases h;exact .inl rfl
 ·rw[Rb (λz=>e z.symm)]at h;exact .inr ⟨e,h⟩
theorem Ul{x m:Mk}(h:m∈ms.set i x):m=x\/m∈ms:=by
 obtain⟨t,a,e⟩:=fu h;rcases X9l (t:=t) (m:=m) (by rw[Cm a,e]) with q | ⟨_,q⟩
 ·exact .inl q
 ·exact .inr (Er q)
theorem W1f(T:Tb ms)(hi:i<ms.length)(hj:j<ms.length)(ne:i≠j):Tb (ms.set i (mul (ms.getD i (0,0,0)) (ms.getD j (0,0,0)))):=by
 have g:ms.getD i (0,0,0)∈ms:=by rw[Bp,Cm hi];exact Oa hi
 have f:ms.getD j (0,0,0)∈ms:=by rw[Bp,Cm hj];exact Oa hj
 have c:∀r∈ms,cm r (mul (ms.getD i (0,0,0)) (ms.getD j (0,0,0)))=0:=λr h=>by
  rw[Zx,T.nice.com r h _ g,T.nice.com r h _ f]
 have k:cm (mul (ms.getD i (0,0,0)) (ms.getD j (0,0,0))) (mul (ms.getD i (0,0,0)) (ms.getD j (0,0,0)))=0:=by
  rw[Zx,R7,c _ g,R7,c _ f]
 refine⟨⟨λm hm=>?_,λm hm=>?_,λm hm r h=>?_⟩,λm hm=>?_,?_⟩
 ·rcases Ul hm with rfl | q
  ·exact Eu _ (by decide)
  ·exact T.nice.q m q
 ·rcases Ul hm with rfl | q
  ·exact xH (T.nice.even _ g) (T.nice.even _ f) (T.nice.com _ g _ f)
  ·exact T.nice.even m q
 ·rcases Ul hm with rfl | q<;>rcases Ul h with rfl | q'
  ·exact k
  ·rw[R7];exact c r q'
  ·exact c m q
  ·exact T.nice.com m q r q'
 ·rcases Ul hm with rfl | q
  ·have a:=T.v6 _ g;have b:=T.v6 _ f;exact⟨FP (n:=6) a.1 b.1,FP (n:=6) a.2 b.2⟩
  ·exact T.v6 m q
 ·have e:∀(l:List Mk) (t:Nat),(Du l).getD t 0=(l.getD t (0,0,0)).2.1:=λl t=>by
   unfold Du;rw[Bp,Bp,Bu];cases l[t]?<;>rfl
  have d:∀(l:List Mk) (t:Nat),(Di l).getD t 0=(l.getD t (0,0,0)).2.2:=λl t=>by
   unfold Di;rw[Bp,Bp,Bu];cases l[t]?<;>rfl
  have p:(ms.set i (mul (ms.getD i (0,0,0)) (ms.getD j (0,0,0)))).getD i (0,0,0)=mul (ms.getD i (0,0,0)) (ms.getD j (0,0,0)):=by
   rw[Bp,Y7 hi];rfl
  refine X0h (ms:=ms) (t:=i) (o:=j) (by simp) ne hi hj ⟨?_,?_⟩ (λt s tn=>⟨?_,?_⟩) T.ind
  ·rw[e,e,e,p];rfl
  ·rw[d,d,d,p];rfl
  ·rw[e,e];simp only[Bp,Rb (Ne.symm tn)]
  ·rw[d,d];simp only[Bp,Rb (Ne.symm tn)]
end pK
namespace L2
theorem Aj.imp{P:U8}{w:W1}{K:U0}{mg:U4}{base:Heap}{k:Nat}{x:Str}{ps:W0}{sp sp':Sp}(c:Aj P w K mg base k x ps sp)(h:∀vs H Q E,sp' vs H Q E->sp vs H Q E):Aj P w K mg base k x ps sp' :=
 let ⟨f,fd,F,r⟩:=c.ex
 ⟨f,fd,F.imp h,r⟩
end L2
namespace BZ
open L2 Ba Am Pc Fo
open Eo (Ej)
open C_ (Mk Bm Al Br)
theorem hbd{c:Nat}:∀(x:Mv) (m:Mk),Ej c x->Uz.Fp c m->Uz.Fp c (Bm x m):=λx m o b=>by
 have:=xZ o (⟨b.k,b.f,b.s⟩:Kv c m);exact⟨this.k,this.f,this.s⟩
end BZ
namespace Ax
open L2 Am Pc Ba
open DG (Mk bit mul)
open Ah (T3 L3 Bv KC Ig Ja Jp)
open TV (Jw)
structure Ft (H:Hp) (l:W9) (ps:U3) (ms:List Mk) (c:Nat):Prop where
 t:KC c H l ps ms
 len:ms.length=c
def uR (K:U0):Sp:=λvs H Q _=>∃(a:W9) (ns:U6) (c:Nat),vs=[.ref a,.int c]/\Ag K H a (ns.map V.int)/\ns.length<=63/\1<=c/\c<=6 /\
 ∀(r:W9) (H':Hp) (ps:U3) (ms:List Mk),Same H H'->Ft H' r ps ms c->Q (.ref r) H'
theorem wO{α β:Type}{F:α->β->Prop}:∀{xs:List α}{ys:List β},xs.length=ys.length->(∀(i:Nat) (x:α) (y:β),xs[i]?=some x->ys[i]?=some y->F x y)->Paired F xs ys
 | [],[],_,_=>.nil
 | x::xs,y::ys,h,f=>.cons (f 0 x y rfl rfl) (wO (by simpa using h) λi a b c hb=>f (i+1) a b c hb)
theorem vB{H:Hp}:∀{ps:U3}{ms:List Mk},Bv H ps ms->Paired (λp m=>H p=some (.tup (BZ.Gu m))) ps ms
 | _,_,.nil=>.nil
 | _,_,.cons a r=>.cons a (vB r)
theorem vI{H:Hp}:∀{ps:U3}{ms:List Mk},Paired (λp m=>H p=some (.tup (BZ.Gu m))) ps ms->Bv H ps ms
 | _,_,.nil=>.nil
 | _,_,.cons a r=>.cons a (vI r)
theorem X8l{H:Hp}{ps:U3}{ms:List Mk}{i:Nat}{r:W9}{m:Mk}(M:Bv H ps ms)(e:H r=some (T3 m)):Bv H (ps.set i r) (ms.set i m):=by
 refine wO (by rw[RV,RV];exact M.length) λj x y b a=>?_;by_cases q:j=i
 ·subst q;rw[qR]at b a;cases hp:ps[j]? with
  | none=>rw[hp]at b;cases b
  | some p' =>
   cases hm:ms[j]? with
   | none=>rw[hm]at a;cases a
   | some m'=>rw[hp]at b;rw[hm]at a;cases b;cases a;exact e
 ·rw[Rb (λz=>q z.symm)]at b a;obtain⟨m',c,d⟩:=M.get b;rw[c]at a;cases a;exact d
theorem R8{H:Hp}:∀{ps ps':U3}{ms ms':List Mk},Bv H ps ms->Bv H ps' ms'->Bv H (ps++ps') (ms++ms')
 | _,_,_,_,.nil,h=>h
 | _,_,_,_,.cons a r,h=>.cons a (R8 r h)
theorem Xl{H:Hp}:∀{ps:U3}{ms:List Mk} (n:Nat),Bv H ps ms->Bv H (ps.drop n) (ms.drop n)
 | _,_,0,h=>h
 | _,_,_+1,.nil=>.nil
 | _,_,n+1,.cons _ r=>Xl n r
theorem Ro(c:Nat):(1:Int)*2^((c:Int)).toNat=((2^c:Nat):Int):=by rw[FN,Vz];exact_mod_cast rfl
theorem R9(x:Int){n:Nat}(h:0<n):∃wd:Nat,wd<n/\x%(n:Int)=(wd:Int):=by
 have c:(0:Int)<n:=by exact_mod_cast h
 have a:=WL x (b:=(n:Int)) (by lia);have b:=Yx x c;exact⟨(x%n).toNat,by lia,by lia⟩
theorem nu{xs:List V}{p:Nat}{i:Int}(hi:i=p):Cr xs (some i) none=xs.drop p:=by
 subst hi;unfold Cr;rw[HT.nJ];have e2:HT.CV xs.length xs.length none=xs.length:=rfl;rw[e2];by_cases h:p<=xs.length
 ·rw[Yr h,Tv (by rw[Ld];lia)]
 ·rw[Nat.min_eq_right (by lia),List.drop_length,bh,qL (by lia)]
theorem X3y(ns:U6)(lo hi:Option Int):∃dr:List Int,Cr (ns.map V.int) lo hi=dr.map V.int/\dr.length<=ns.length:=by
 refine⟨(ns.drop (HT.CV ns.length 0 lo)).take (HT.CV ns.length ns.length hi-HT.CV ns.length 0 lo),?_,?_⟩
 ·unfold Cr;rw[Az,Ti,V8]
 ·rw[Gk,Ld];lia
section
variable {P:U8}{w:W1}{K:U0}{mg:U4}{base:Heap}{k:Nat}{h:Heap}
theorem Y2y(F:Ab K "_law_product" (top 94) .none)(X:K.In h)(G:Ng h mg)(cF:Aj P w K mg base k "_law_bits" ["_law_number"] CZ):Aj P w K mg base (k+1) "_law_product" ["_law_one","_law_other"] (Ah.Sh K):=by
 refine F.cal X G ["_law_one","_law_other","_law_q"] λf H vs Q E d h=>?_;obtain⟨p,c,m,m',rfl,b,a,e⟩:=h
 refine⟨_,(@Ay _ _ _ _ _ (@BX _ _ 2 _ _ _ _ f rfl (Or.inl rfl) (Af Ds (Af Ds (Ao BK (pv 0) Ad (λ_ _=>rfl)) (Ao BK (pv 1) Ad (λ_ _=>rfl))) (Af G_ Ad (BP cF d rfl (Aa (Af Dv (Ao BK (pv 0) Ad (λ_ _=>rfl)) (Ao BK (pv 1) Ad (λ_ _=>rfl))) Ae)))) rfl (.inl rfl))
  (@Ak _ _ _ (BL (@Cw _ _ _ _ _ (Aa (Af Cv (pv 2) Ad) (Aa (Af JK (Ao BK (pv 0) Ad (λ_ _=>rfl)) (Ao BK (pv 1) Ad (λ_ _=>rfl))) (Aa (Af JK (Ao BK (pv 0) Ad (λ_ _=>rfl)) (Ao BK (pv 1) Ad (λ_ _=>rfl))) Ae))))))),?_⟩
 try dsimp only[CG]
 refine⟨_,U,p,_,_,_,U,U,b,U,_,U,c,_,_,_,U,U,a,U,_,_,U,U,_,U,p,_,_,_,U,U,b,U,_,U,c,_,_,_,U,U,a,U,_,_,U,U,m.2.2&&&m'.2.1,Ig _ _,_,_,U,U,.inl ⟨by decide,by decide⟩,_,_,U,U,?_⟩;refine⟨_,U,_,_,U,U,Jp,_,U,p,_,_,_,U,U,b,U,_,U,c,_,_,_,U,U,a,U,_,_,U,U,_,U,p,_,_,_,U,U,b,U,_,U,c,_,_,_,U,U,a,U,_,_,U,U,t3,λr d=>?_⟩;refine e r _ (A_ d _) ?_;rw[Ar];show some (HO.tup [.int (((m.1:Int)+m'.1+2*((pc (m.2.2&&&m'.2.1):Nat):Int))%4),.int (Builtin.bitXor (m.2.1:Int) m'.2.1),.int (Builtin.bitXor (m.2.2:Int) m'.2.2)])=_;rw[Jo,Jo];rfl
theorem X2m(F:Ab K "_law_table_by" (top 95) .none)(X:K.In h)(G:Ng h mg)(B:Bs mg)(c7:Aj P w K mg base k "_law_cell_at" ["_law_script","_law_k"] (Im K))(dY:Aj P w K mg base k "moved_rows" ["rows","row"] (BZ.uN K))(d8:Aj P w K mg base k "_law_plain_row" ["_law_numbers","_law_cells"] (uL K))(cD:Aj P w K mg base k "_law_product" ["_law_one","_law_other"] (Ah.Sh K)):Aj P w K mg base (k+1) "_law_table_by" ["_law_script","_law_cells"] (uR K):=by
 refine F.cal X G ["_law_script","_law_cells","_law_word","_law_rows","_law_k","_law_cell","_law_here","_law_there","_law_cut"] λA H vs Q E p h=>?_;obtain⟨o,ns,c,rfl,hS,b1,c1,c6,kq⟩:=h;have p6:=GZ c6;have pos:=Cq c
 refine⟨_,(@Cy _ _ _ _ _ (@BX _ _ 2 _ _ _ _ A rfl (Or.inr rfl) (Af Cv (BP c7 p rfl (Aa (pv 0) (Aa Ad Ae))) (Af Gf Ad (pv 1))) rfl (.inl rfl))
  (@Cy _ _ _ _ _ (Qw (i:=3) rfl A rfl rfl (BW.of (Nc:=["_law_cell","_law_word"]) (mp:=[none,some 2]) (by kernel_rfl)) (HN rfl B.range (Aa (pv 1) Ae)) (λ_ _ _ _=>(Bb (i:=0) (show (["_law_cell","_law_word"]:W0).Nodup by decide +kernel) rfl (Or.inl rfl))) (λ_ _ _ _=>(@Cw _ _ _ _ _ (Aa (Af G_ Ad (Af Cv (Af Ih (pv 1) (Af Gf Ad (pv 0))) Ad)) (Aa Ad (Aa (Af Gf Ad (pv 0)) Ae))))) rfl)
  (@Cy _ _ _ _ _ (@BX _ _ 3 _ _ _ _ A rfl (Or.inl rfl) (BP dY p rfl (Aa (pv 3) (Aa (BP d8 p rfl (Aa (Kq Qv (pv 0) (J7 Ad) (J7 Ad)) (Aa (pv 1) Ae))) Ae))) rfl (.inl rfl))
  (@Ay _ _ _ _ _ (Ge PassesOwn.never rfl (HN rfl B.range (Aa Ad Ae)) (Bb (i:=4) A rfl (Or.inl rfl))
   (@Cy _ _ _ _ _ (@BX _ _ 5 _ _ _ _ A rfl (Or.inl rfl) (BP c7 p rfl (Aa (pv 0) (Aa (Af Ds Ad (pv 4)) Ae))) rfl (.inl rfl))
   (@Cy _ _ _ _ _ (@BX _ _ 6 _ _ _ _ A rfl (Or.inl rfl) (Af Cv (pv 5) (pv 1)) rfl (.inl rfl))
   (@Cy _ _ _ _ _ (@BX _ _ 7 _ _ _ _ A rfl (Or.inl rfl) (Af Cv (Af Ih (pv 5) (pv 1)) (pv 1)) rfl (.inl rfl))
   (@Ak _ _ _ (Bx (Bf Hs (pv 6) (pv 7) (Ac _))
    (@Ak _ _ _ (R0 (BP cD p rfl (Aa (Ao FZ (pv 3) (pv 6) (λ_ _=>rfl)) (Aa (Ao FZ (pv 3) (pv 7) (λ_ _=>rfl)) Ae))) (W1s (pv 3) (pv 6) X1y)))
    B_))))))
  (@Cy _ _ _ _ _ (@BX _ _ 8 _ _ _ _ A rfl (Or.inl rfl) (Af Cv (BP c7 p rfl (Aa (pv 0) (Aa Ad Ae))) (pv 1)) rfl (.inl rfl))
  (@Ak _ _ _ (BL (Af Ud (Kq Qv (pv 3) (J7 (pv 8)) K_) (Kq Qv (pv 3) K_ (J7 (pv 8))))))))))),?_⟩
 try dsimp only[CG]
 refine⟨λσ H'=>H'=H/\∃d:Nat,d<2^c/\σ=[some (.ref o),some (.int c),some (.int d),none,none,none,none,none,none],?_,?_⟩
 ·obtain⟨d,hw,e⟩:=R9 (cell ns 1) pos;refine⟨_,U,o,ns,_,U,hS,by decide,_,U,_,_,U,U,⟨1,Ba.GQ,by lia,by lia⟩,_,_,U,U,?_,U,d,hw,?_⟩
  ·show (0:Int)<_;rw[Ro];lia
  ·show List.set _ 2 (some (V.int (cell ns 1%(1*2^((c:Int)).toNat))))=_;rw[Ro,e];rfl
 rintro σ1 H1 ⟨rfl,d,hw,rfl⟩;refine⟨λσ H'=>Same H1 H'/\∃(l:W9) (ps:U3),H' l=some (.lst (ps.map V.ref))/\Bv H' ps (Jw c d)/\σ=[some (.ref o),some (.int c),some (.int d),some (.ref l),none,none,none,none,none],?_,?_⟩
 ·refine⟨_,U,_,U,by lia,by lia,λacc D=>?_⟩;rw[FN];refine SN (n:=c) (fr:=[some (.int d)]) (λi ys H'=>∃qs:List Addr,Same H1 H'/\H' acc=some (.lst ys)/\ys=qs.map V.ref/\Bv H' qs ((Jw c d).take i)) (Hu (by lia))
   ⟨[],A_ D _,Ar,U,by rw[RP];exact .nil⟩ ?_ ?_
  ·rintro i ys H2 N hi J ⟨qs,C,a2,rfl,L⟩ kN;have eP:(1:Int)*2^((0:Int)+(i:Int)).toNat=((2^i:Nat):Int):=by rw[H_];exact Ro i
   have pi:=Cq i;have i6:2^i<=64:=E_ (Fw (by decide) (by lia)) p6;refine⟨_,U,_,U,_,_,U,U,⟨1,Ba.GQ,by lia,by lia⟩,_,_,U,U,⟨by rw[eP];lia,by rw[eP];lia⟩,_,_,U,U,Ja,_,_,U,U,.inl ⟨by decide,by decide⟩,_,U,_,_,U,U,⟨1,Ba.GQ,by lia,by lia⟩,t3,λr p=>?_⟩;have s3:=A_ p (.tup [.int (2*((d:Int) / (1*2^((0:Int)+(i:Int)).toNat)%2)),.int 0,.int (1*2^((0:Int)+(i:Int)).toNat)]);have e3:upd H2 r (.tup [.int (2*((d:Int) / (1*2^((0:Int)+(i:Int)).toNat)%2)),.int 0,.int (1*2^((0:Int)+(i:Int)).toNat)]) r=some (T3 (2*(d / 2^i%2),0,2^i)):=by
    rw[Ar,eP];rfl
   refine kN (.ref r) _ (s3 _ _ a2) ⟨qs++[r],Dj (C.trans s3) D,Ar,by rw[Ca];rfl,?_⟩;rw[Gs,show (Jw c d)[i]?=some (2*(d / 2^i%2),0,2^i) by unfold Jw;rw[Bu,fZ hi];rfl];exact(R8 (L.same s3) (.cons e3 .nil)).upd (s3 _ _ a2)
  ·rintro ys H2 J ⟨qs,C,a2,rfl,L⟩;refine⟨C,acc,qs,a2,?_,U⟩;rw[Tv (by unfold Jw;simp)]at L;exact L
 rintro σ2 H2 ⟨C,l,ps,h2,L,rfl⟩;have l0:(Jw c d).length=c:=by unfold Jw;simp
 refine⟨λσ H'=>Same H1 H'/\∃(l:W9) (ps:U3) (ms:List Mk),H1 l=none/\Ft H' l ps ms c/\σ=[some (.ref o),some (.int c),some (.int d),some (.ref l),none,none,none,none,none],?_,?_⟩
 ·refine⟨_,U,_,U,_,U,_,U,o,_,U,C.seq hS,λcp a7=>?_⟩;have s3:=A_ a7 (.lst (Cr (ns.map V.int) (some 8) (some 32)));have e3:upd H2 cp (.lst (Cr (ns.map V.int) (some 8) (some 32))) cp=some (.lst (Cr (ns.map V.int) (some 8) (some 32))):=Ar;generalize upd H2 cp (.lst (Cr (ns.map V.int) (some 8) (some 32)))=H3 at s3 e3 ⊢;obtain⟨dr,a3,b0⟩:=X3y ns (some 8) (some 32);rw[a3]at e3;refine⟨_,U,cp,dr,c,U,Ag.of e3,by lia,c1,c6,λlw H4 rp ms v RW ml bg=>?_⟩;have a0:∀x∈ms.map BZ.ug,Eo.Ej c x:=λx M=>by
   obtain⟨m,hm,rfl⟩:=El.mp M;exact BZ.W4z (RW.ok m hm)
  have Y:∀x∈ms.map BZ.ug,C_.Br x:=λx M=>by
   obtain⟨m,hm,rfl⟩:=El.mp M;exact BZ.W5a (bg m hm)
  have u:=s3.trans v;refine⟨l,lw,ps,Jw c d,ms.map BZ.ug,c,U,Ag.of (u _ _ h2),vB (L.same u),by lia,BZ.W1l RW,λm hm=>?_,c6,a0,Y,by rw[Az];lia,λr O qs fr S5 h5 P5=>?_⟩
  ·have:=TV.Z5 c d m hm;exact⟨this.q,this.f,this.s⟩
  obtain⟨T,ok⟩:=TV.W5b c6 BZ.hbd a0 Y (TV.W1i c6 d) (TV.Z5 c d);exact⟨(C.trans u).trans S5,r,qs,_,BZ.n_ (C.trans u) fr,⟨⟨h5,vI P5,λm hm=>⟨(ok m hm).q,(ok m hm).f,(ok m hm).s⟩,T,by rw[Az,l0];lia⟩,by rw[Az,l0]⟩,U⟩
 clear h2 L C l0;rintro σ3 H3 ⟨S3,l,a6,a9,fl,F3,rfl⟩
 refine⟨_,U,by decide,by decide,Nq (n:=5) (λj σ H'=>Same H1 H'/\∃(ps:U3) (ms:List Mk) (S v5 v6 R:Option V),Ft H' l ps ms c/\σ=[some (.ref o),some (.int c),some (.int d),some (.ref l),S,v5,v6,R,none])
  ⟨S3,a6,a9,_,_,_,_,F3,U⟩ ?_ ?_⟩
 ·rintro j σ H4 hj ⟨v,ps,ms,S,v5,v6,R,g,rfl⟩;have n4:ms.length=c:=g.len;have lp:ps.length=c:=by rw[g.t.mks.length,n4]
  have Z:Ag K H4 l (ps.map V.ref):=Ag.of g.t.lst;refine⟨λσ H'=>H'=H4/\∃(S:Option V) (z:Int),σ=[some (.ref o),some (.int c),some (.int d),some (.ref l),S,some (.int z),v6,R,none],⟨_,U,_,U,_,_,U,U,o,ns,_,U,v.seq hS,by lia,U,_,_,U⟩,?_⟩;rintro σ5 O ⟨rfl,u4,z,rfl⟩;refine⟨λσ H'=>H'=O/\∃(y:Nat),y<c/\σ=[some (.ref o),some (.int c),some (.int d),some (.ref l),u4,some (.int z),some (.int y),R,none],?_,?_⟩
  ·obtain⟨y,J,e⟩:=R9 z c1;refine⟨_,U,_,U,_,_,U,U,(show (0:Int)<(c:Int) by lia),U,y,J,?_⟩;show List.set _ 6 (some (V.int (z%(c:Int))))=_;rw[e];rfl
  rintro σ6 H6 ⟨rfl,y,J,rfl⟩;refine⟨λσ H'=>H'=H6/\∃(x:Nat),x<c/\σ=[some (.ref o),some (.int c),some (.int d),some (.ref l),u4,some (.int z),some (.int y),some (.int x),none],?_,?_⟩
  ·obtain⟨x,M,e⟩:=R9 (z / (c:Int)) c1;refine⟨_,U,_,U,_,_,U,U,⟨by lia,by lia⟩,_,U,_,_,U,U,(show (0:Int)<(c:Int) by lia),U,x,M,?_⟩;show List.set _ 7 (some (V.int (z / (c:Int)%(c:Int))))=_;rw[e];rfl
  rintro σ7 H7 ⟨rfl,x,M,rfl⟩;refine⟨_,U,_,U,U,_,U,Ho (λne=>?_) (λ_=>⟨v,ps,ms,_,_,_,_,g,U⟩)⟩;have a4:y≠x:=λe=>ne (by rw[e]);have ay:Fg (ps.map V.ref) (y:Int)=some (.ref (ps[y]'(by lia))):=J6 (by rw[Bu,Cm (by lia)];rfl);have ax:Fg (ps.map V.ref) (x:Int)=some (.ref (ps[x]'(by lia))):=J6 (by rw[Bu,Cm (by lia)];rfl);obtain⟨my,a1,py⟩:=g.t.mks.get (Cm (show y<ps.length by lia));obtain⟨mx,W,px⟩:=g.t.mks.get (Cm (show x<ps.length by lia));have gy:ms.getD y (0,0,0)=my:=by rw[Bp,a1];rfl
  have gx:ms.getD x (0,0,0)=mx:=by rw[Bp,W];rfl
  have TM:=pK.W1f g.t.tb (show y<ms.length by lia) (show x<ms.length by lia) a4;rw[gy,gx]at TM;refine⟨_,U,_,U,l,_,_,_,U,U,Z,ay,_,U,_,U,l,_,_,_,U,U,Z,ax,_,_,my,mx,U,Ai.of py,Ai.of px,λr H8 S8 h8=>?_⟩;have l8:=S8 _ _ g.t.lst;refine⟨_,U,_,U,l,_,_,y,U,U,l8,X8y (by rw[Az];lia),Dj (v.trans S8) fl,ps.set y r,ms.set y (mul my mx),_,_,_,_,⟨⟨?_,?_,λm hm=>?_,TM,by rw[RV];lia⟩,by rw[RV];exact n4⟩,U⟩
  ·rw[Ar,List.map_set]
  ·exact(X8l (g.t.mks.same S8) h8).upd l8
  ·rcases pK.Ul hm with rfl | q
   ·have a:=g.t.ok _ (Er a1);have b:=g.t.ok _ (Er W);exact⟨Eu _ (by decide),FP a.f b.f,FP a.s b.s⟩
   ·exact g.t.ok m q
 rintro σ H4 ⟨v,ps,ms,S,v5,v6,R,g,rfl⟩;have n4:ms.length=c:=g.len;have lp:ps.length=c:=by rw[g.t.mks.length,n4]
 refine⟨λσ H'=>H'=H4/\∃(y:Nat),y<c/\σ=[some (.ref o),some (.int c),some (.int d),some (.ref l),S,v5,v6,R,some (.int y)],?_,?_⟩
 ·obtain⟨y,J,e⟩:=R9 (cell ns 7) c1;refine⟨_,U,o,ns,_,U,v.seq hS,by decide,_,U,_,_,U,U,(show (0:Int)<(c:Int) by lia),U,y,J,?_⟩;show List.set _ 8 (some (V.int (cell ns 7%(c:Int))))=_;rw[e];rfl
 rintro σ5 O ⟨rfl,y,J,rfl⟩;have Z:Ag K O l (ps.map V.ref):=Ag.of g.t.lst;refine⟨_,U,_,U,_,U,l,_,U,Z,λI a8=>?_⟩;have s1:=A_ a8 (.lst (Cr (ps.map V.ref) (some (y:Int)) none));have e1:upd O I (.lst (Cr (ps.map V.ref) (some (y:Int)) none)) I=some (.lst ((ps.drop y).map V.ref)):=by rw[Ar,nu rfl,V8]
 generalize upd O I (.lst (Cr (ps.map V.ref) (some (y:Int)) none))=H6 at s1 e1 ⊢;refine⟨_,U,_,U,_,U,l,_,U,s1.seq Z,λc2 a5=>?_⟩;have s2:=A_ a5 (.lst (Cr (ps.map V.ref) none (some (y:Int))));have e2:upd H6 c2 (.lst (Cr (ps.map V.ref) none (some (y:Int)))) c2=some (.lst ((ps.take y).map V.ref)):=by rw[Ar,Ah.Zy (by rw[Az];lia),Ti]
 generalize upd H6 c2 (.lst (Cr (ps.map V.ref) none (some (y:Int))))=H7 at s2 e2 ⊢;refine⟨_,_,_,_,U,U,s2 _ _ e1,e2,by rw[Az,Az,Ld,Gk];exact Hu (by lia),λr p=>?_⟩;have s3:=A_ p (.lst ((ps.drop y).map V.ref++(ps.take y).map V.ref));have S7:=(s1.trans s2).trans s3;have MM:=R8 (Xl y (g.t.mks.same S7)) ((g.t.mks.same S7).take y);refine kq r _ (ps.drop y++ps.take y) (ms.drop y++ms.take y) (v.trans S7) ⟨⟨by rw[Ar,Ca],MM,λm hm=>?_,TV.W1e g.t.tb y,?_⟩,?_⟩
 ·rcases DR.mp hm with q | q
  ·exact g.t.ok m (Tt q)
  ·exact g.t.ok m (Qf q)
 ·rw[DP,Ld,Gk];lia
 ·rw[DP,Ld,Gk];lia
end
end Ax
namespace Ax
open L2 Am Pc Ba
open DG (Mk bit mul)
open Bh (ev)
open Ah (T3 L3 Bv KC Ig Ja Jp kk Full Half SB Gr comm)
def QW (K:U0):Sp:=λvs H Q _=>∃(a:W9) (ns:U6) (c:Nat),vs=[.ref a,.int c]/\Ag K H a (ns.map V.int)/\1<=c/\c<=3 /\
 ∀(r:W9) (H':Hp) (ps:U3) (ms:List Mk),Same H H'->Ft H' r ps ms c->Q (.ref r) H'
theorem Y1p(a b:Mk):mul a b=mul b a↔comm b a=0:=by
 unfold mul comm;rw[GX b.2.1 a.2.2,GX b.2.2 a.2.1,JN a.2.1,JN a.2.2];constructor
 ·intro h;have:=congrArg Prod.fst h;simp only at this;lia
 ·intro h;refine Prod.ext ?_ rfl;show (a.1+b.1+2*pc (a.2.2&&&b.2.1))%4=(b.1+a.1+2*pc (a.2.1&&&b.2.2))%4;lia
noncomputable def l3 (m:Mk):List Int:=[(m.1:Int),(m.2.1:Int),(m.2.2:Int)]
theorem W2u{a b:Mk}:(l3 a=l3 b)=(a=b):=propext ⟨λh=>by
 injection h with h1 h
 injection h with h2 h
 injection h with h3 _
 exact Prod.ext (Int.ofNat.inj h1) (Prod.ext (Int.ofNat.inj h2) (Int.ofNat.inj h3)),λh=>by rw[h]⟩
noncomputable def pm (sz j:Nat):Mk:=((pc (j / 2 / sz&&&j / 2%sz)+2*(j%2))%4,j / 2 / sz,j / 2%sz)
theorem W5k(sz j:Nat):ev (pm sz j):=by
 unfold ev pm;show ((pc (j / 2 / sz&&&j / 2%sz)+2*(j%2))%4+pc (j / 2 / sz&&&j / 2%sz))%2=0;lia
theorem W5j{c j:Nat}(h:j<2*2^c*2^c):Gr c (pm (2^c) j):=by
 have pos:=Cq c;refine⟨Eu _ (by decide),?_,Eu _ pos⟩;show j / 2 / 2^c<2^c;rw[qG pos,qG (by decide)];rw[Yj (2^c*2^c),<-b_];exact h
def Gd (ms:List Mk)(kvs:List (List Key×V))(m:Mk):Prop:=(∀r∈ms,comm r m=0)/\Bq kvs (kk m)=none
theorem W6v{c:Nat}{ms:List Mk}{kvs:List (List Key×V)}(c6:c<=6)(ok:∀m∈ms,Gr c m)(T:Bh.Tb ms)(lt:ms.length<c)(F:Full ms ms.length kvs):∃j,j<2*2^c*2^c/\Gd ms kvs (pm (2^c) j):=by
 obtain⟨m,d,l,cm,no⟩:=KD.more c6 BZ.hbd (KD.yO (λr a=>⟨(ok r a).q,(ok r a).f,(ok r a).s⟩) T.nice T.ind) lt;have pos:=Cq c;have e2:2*(m.2.1*2^c+m.2.2) / 2=m.2.1*2^c+m.2.2:=by lia
 have i:(pm (2^c) (2*(m.2.1*2^c+m.2.2))).2.1=m.2.1:=by
  show 2*(m.2.1*2^c+m.2.2) / 2 / 2^c=_;rw[e2,Yj,Nat.mul_add_div pos,Qd d.s,Mr]
 have g:(pm (2^c) (2*(m.2.1*2^c+m.2.2))).2.2=m.2.2:=by
  show 2*(m.2.1*2^c+m.2.2) / 2%2^c=_;rw[e2,Yj,Nat.mul_add_mod,KY d.s]
 refine⟨2*(m.2.1*2^c+m.2.2),?_,λr a=>?_,?_⟩
 ·have:(m.2.1+1)*2^c<=2^c*2^c:=Nat.mul_le_mul_right _ d.f;have b:=d.s;rw[Nat.add_mul]at this;rw[b_];lia
 ·have h:=KD.Kf.mp (cm r a);rw[Bh.R7]at h;show (pc (r.2.1&&&(pm (2^c) (2*(m.2.1*2^c+m.2.2))).2.2)+pc (r.2.2&&&(pm (2^c) (2*(m.2.1*2^c+m.2.2))).2.1))%2=0;rw[i,g];exact h
 ·cases q:Bq kvs (kk (pm (2^c) (2*(m.2.1*2^c+m.2.2)))) with
  | none=>rfl
  | some v =>
   obtain⟨x,k,e,_⟩:=F.only _ _ q;have:=Ah.xU e;exact absurd (this.symm.trans (Prod.ext i g)) (no x k)
section
variable {P:U8}{w:W1}{K:U0}{mg:U4}{base:Heap}{k:Nat}{h:Heap}
theorem W2j(F:Ab K "_law_any_table" (top 96) .none)(X:K.In h)(G:Ng h mg)(B:Bs mg)(c7:Aj P w K mg base k "_law_cell_at" ["_law_script","_law_k"] (Im K))(cF:Aj P w K mg base k "_law_bits" ["_law_number"] CZ)(cD:Aj P w K mg base k "_law_product" ["_law_one","_law_other"] (Ah.Sh K)):Aj P w K mg base (k+1) "_law_any_table" ["_law_script","_law_cells"] (QW K):=by
 refine F.cal X G ["_law_script","_law_cells","_law_number","_law_size","_law_rows","_law_made","_law_k","_law_some","_law_place","_law_f","_law_s","_law_mark","_law_commutes"] λD H vs Q E I h=>?_;obtain⟨C,ns,c,rfl,hS,c1,c3,kq⟩:=h;have pos:=Cq c;have p8:2^c<=8:=E_ (Fw (by decide) c3) (by decide)
 refine⟨_,(@Cy _ _ _ _ _ (@BX _ _ 2 _ _ _ _ D rfl (Or.inl rfl) (BP c7 I rfl (Aa (pv 0) (Aa Ad Ae))) rfl (.inl rfl))
  (@Cy _ _ _ _ _ (@BX _ _ 3 _ _ _ _ D rfl (Or.inl rfl) (Af Gf Ad (pv 1)) rfl (.inl rfl))
  (@Ay _ _ _ _ _ (@BX _ _ 4 _ _ _ _ D rfl (Or.inl rfl) (@Kh _ _ _ _ Ae) rfl (.inl rfl))
  (@Ay _ _ _ _ _ (@BX _ _ 5 _ _ _ _ D rfl (Or.inl rfl) (X2h (Sw I) (@Cw _ _ _ _ _ (Aa Ad (Aa Ad Ae))) Dw) rfl (.inl rfl))
  (@Ay _ _ _ _ _ (Ge PassesOwn.never rfl (HN rfl B.range (Aa (pv 1) Ae)) (Bb (i:=6) D rfl (Or.inl rfl))
   (@Ay _ _ _ _ _ (@BX _ _ 7 _ _ _ _ D rfl (Or.inl rfl) (@Kh _ _ _ _ Ae) rfl (.inl rfl))
   (@Cy _ _ _ _ _ (Bx (Bf Df (pv 2) Ad (Ac _))
    (@Ak _ _ _ (@BX _ _ 2 _ _ _ _ D rfl (Or.inl rfl) (Af Cv (Af G_ (BP c7 I rfl (Aa (pv 0) (Aa (Af Ds Ad (pv 6)) Ae))) Ad) Ad) rfl (.inl rfl)))
    B_)
   (@Ay _ _ _ _ _ (Ge PassesOwn.never rfl (HN rfl B.range (Aa (Af G_ (Af G_ Ad (pv 3)) (pv 3)) Ae)) (Bb (i:=8) D rfl (Or.inl rfl))
    (@Cy _ _ _ _ _ (W1p (i:=9) (j:=10) rfl D rfl rfl (by decide) rfl rfl (Aa (Af Ih (Af Ih (pv 8) Ad) (pv 3)) (Aa (Af Cv (Af Ih (pv 8) Ad) (pv 3)) Ae)) rfl)
    (@Cy _ _ _ _ _ (@BX _ _ 11 _ _ _ _ D rfl (Or.inr rfl) (@Cw _ _ _ _ _ (Aa (Af Cv (Af Ds (BP cF I rfl (Aa (Af Dv (pv 9) (pv 10)) Ae)) (Af G_ Ad (Af Cv (pv 8) Ad))) Ad) (Aa (pv 9) (Aa (pv 10) Ae)))) rfl (.inl rfl))
    (@Cy _ _ _ _ _ (@BX _ _ 12 _ _ _ _ D rfl (Or.inl rfl) (CJ (J9 rfl) rfl B.all Jx (Aa (Gp rfl (BW.of (Nc:=["_law_row","_law_mark"]) (mp:=[none,some 11]) (by kernel_rfl)) (Ei (pv 4)) (λ_ _ _ _=>(Bb (i:=0) (show (["_law_row","_law_mark"]:W0).Nodup by decide +kernel) rfl (Or.inl rfl))) (λ_ _ _ _=>(HD (vJ I.units) (BP cD I rfl (Aa (pv 1) (Aa (pv 0) Ae))) (BP cD I rfl (Aa (pv 0) (Aa (pv 1) Ae))) (Ac _)))) Ae)) rfl (.inl rfl))
    (@Ak _ _ _ (Bx (PW.pt (Oh (yI (Y8q (Sw I) (@Cw _ _ _ _ _ (Aa (pv 9) (Aa (pv 10) Ae))) (pv 5))) (Ol (DW (pv 12)))))
     (@Ak _ _ _ (Ni (Uw Tw Tz T_ Qx (pv 7) (Aa (pv 11) Ae))))
     B_))))))
   (@Ay _ _ _ _ _ (Ni (Uw Tw Tz T_ Qx (pv 4) (Aa (Ao FZ (pv 7) (Af Cv (pv 2) (CJ GP rfl B.len Fv (Aa (pv 7) Ae))) (λ_ _=>rfl)) Ae)))
   (@Cy _ _ _ _ _ (@BX _ _ 2 _ _ _ _ D rfl (Or.inl rfl) (Af Ih (pv 2) (CJ GP rfl B.len Fv (Aa (pv 7) Ae))) rfl (.inl rfl))
   (@Ak _ _ _ (Ge PassesOwn.never rfl (Ei (Xv (Y6x rfl) rfl B.list OD (Aa (pv 5) Ae))) (@Ls _ _ _ _ _ _ rfl (@Ea _ _ _ _ _ (@Bb _ _ 9 _ D rfl (Or.inl rfl) (by first | exact .inl rfl | exact .inr rfl)) (@Ea _ _ _ _ _ (@Bb _ _ 10 _ D rfl (Or.inl rfl) (by first | exact .inl rfl | exact .inr rfl)) Lx rfl) rfl) rfl rfl)
    (@Ak _ _ _ (tV (Sw I) (pv 5) (@Cw _ _ _ _ _ (Aa (Af JK (pv 9) (Ao BK (Ao FZ (pv 4) (Pg R4 Ad) (λ_ _=>rfl)) Ad (λ_ _=>rfl))) (Aa (Af JK (pv 10) (Ao BK (Ao FZ (pv 4) (Pg R4 Ad) (λ_ _=>rfl)) Ad (λ_ _=>rfl))) Ae))) Dw rfl))))))))))
  (@Ak _ _ _ (BL (pv 4)))))))),?_⟩
 try dsimp only[CG]
 refine⟨λσ H'=>H'=H/\∃z:Int,σ=[some (.ref C),some (.int c),some (.int z),none,none,none,none,none,none,none,none,none,none],⟨_,U,C,ns,_,U,hS,by decide,U,_,U⟩,?_⟩;rintro σ1 H1 ⟨rfl,z0,rfl⟩;refine⟨λσ H'=>H'=H1/\σ=[some (.ref C),some (.int c),some (.int z0),some (.int ((2^c:Nat):Int)),none,none,none,none,none,none,none,none,none],⟨_,U,_,_,U,U,⟨1,Ba.GQ,by lia,by lia⟩,U,?_⟩,?_⟩
 ·show List.set _ 3 (some (V.int (1*2^((c:Int)).toNat)))=_;rw[Ro];rfl
 rintro σ2 H2 ⟨rfl,rfl⟩;refine⟨Ed _,λlr b8=>?_⟩;have s1:=A_ b8 (.lst []);refine λd hd=>⟨t2,λkt f4=>?_⟩;have s2:=A_ hd (.dT []);have c8:H2 d=none:=BZ.n_ s1 hd;have s3:=A_ f4 (.tup [.int 0,.int 0]);have T:lr≠d:=λz=>by rw[<-z,Ar]at hd;cases hd
 refine⟨s3 _ _ Ar,kt,[Sum.inl 0,Sum.inl 0],_,U,Ar,?_⟩;refine⟨_,U,_,U,by lia,by lia,?_⟩;rw[FN];refine Nq (n:=c) (λi σ H'=>Same H2 H'/\∃(z:Int) (ps:U3) (ms:List Mk) (kvs:List (List Key×V)) (v6 v7 S R f A u:Option V),KC c H' lr ps ms/\ms.length=i/\H' d=some (.dT kvs)/\Full ms ms.length kvs/\kvs.length<=2^ms.length/\σ=[some (.ref C),some (.int c),some (.int z),some (.int ((2^c:Nat):Int)),some (.ref lr),some (.ref d),v6,v7,S,R,f,A,u])
  ⟨Dj ((s1.trans s2).trans s3) c8,z0,[],[],_,none,none,none,none,none,none,none,⟨?_,.nil,(by simp),⟨⟨by simp,by simp,by simp⟩,by simp,?_⟩,(by decide)⟩,U,Ar,Full.start [],(by decide),U⟩ ?_ ?_
 ·rw[Cd T];exact s3 _ _ (s2 _ _ Ar)
 ·exact λc _ hs j hj=>absurd hj (IV _)
 ·rintro i σ H3 hi ⟨S3,z1,ps,ms,kvs,v6,v7,S,R,f,A,u,l,li,d3,FU,kl,rfl⟩;have a4:ps.length=ms.length:=l.mks.length;have eI:(0:Int)+(i:Int)=(i:Int):=H_ _;refine⟨Ed _,λls a1=>?_⟩;have s4:=A_ a1 (.lst []);have q4:upd H3 ls (.lst []) ls=some (.lst []):=Ar;generalize upd H3 ls (.lst [])=H4 at s4 q4 ⊢;refine⟨λσ H'=>H'=H4/\∃(z:Int) (v6:Option V),σ=[some (.ref C),some (.int c),some (.int z),some (.int ((2^c:Nat):Int)),some (.ref lr),some (.ref d),v6,some (.ref ls),S,R,f,A,u],?_,?_⟩
  ·refine⟨_,U,U,_,U,BJ (λ_=>?_) (λ_=>⟨U,z1,_,U⟩)⟩;exact⟨_,U,_,U,_,_,U,U,C,ns,_,U,(S3.trans s4).seq hS,by lia,_,_,U,U,.inr ⟨by decide,by decide⟩,_,_,U,U,(show (0:Int)<2147483647 by decide),U,_,_,U⟩
  rintro σ5 H5 ⟨rfl,z2,u6,rfl⟩;have h0:2^c*2^c<=64:=Nat.mul_le_mul p8 p8;have eN:(2*((2^c:Nat):Int)*((2^c:Nat):Int))=((2*2^c*2^c:Nat):Int):=by simp
  have hN:2*2^c*2^c<=128:=by rw[b_];lia
  refine⟨_,U,_,_,U,U,.inl ⟨by decide,by decide⟩,_,U,_,_,U,U,.inr ⟨by lia,by lia⟩,_,U,by rw[eN];lia,by rw[eN];lia,?_⟩;rw[eN,FN];refine Nq (n:=2*2^c*2^c) (λj σ H'=>Same H3 H'/\∃(qs:U3) (s:List Mk) (S R f A u:Option V),H' ls=some (.lst (qs.map V.ref))/\Bv H' qs s/\(∀m∈s,Gr c m/\ev m/\Gd ms kvs m)/\(∀p,p<j->Gd ms kvs (pm (2^c) p)->s≠[])/\s.length<=j/\σ=[some (.ref C),some (.int c),some (.int z2),some (.int ((2^c:Nat):Int)),some (.ref lr),some (.ref d),u6,some (.ref ls),S,R,f,A,u])
   ⟨s4,[],[],_,_,_,_,_,q4,.nil,(λm hm=>nomatch hm),λp hp=>absurd hp (IV _),Bd _,U⟩ ?_ ?_
  ·rintro j σ O hj ⟨S6,qs,s,w8,w9,c9,W,J,a6,M6,a2,L,l6,rfl⟩;have eJ:(0:Int)+(j:Int)=(j:Int):=H_ _;have T6:=l.same S6;have Y:Ag K O lr (ps.map V.ref):=Ag.of T6.lst;refine⟨λσ H'=>H'=O/\∃(S:Option V),σ=[some (.ref C),some (.int c),some (.int z2),some (.int ((2^c:Nat):Int)),some (.ref lr),some (.ref d),u6,some (.ref ls),some (.int j),some (.int (j / 2 / 2^c:Nat)),some (.int (j / 2%2^c:Nat)),W,J],?_,?_⟩
   ·refine⟨_,U,_,_,U,U,⟨by decide,by decide⟩,_,U,_,_,U,U,⟨by lia,by lia⟩,_,U,_,_,U,U,⟨by decide,by decide⟩,_,U,_,_,U,U,(show (0:Int)<((2^c:Nat):Int) by lia),_,_,U,U,none,?_⟩;rw[eJ];rfl
   rintro σ7 H7 ⟨rfl,_,rfl⟩;refine⟨λσ H'=>Same H7 H'/\∃q:Addr,H' q=some (T3 (pm (2^c) j))/\σ=[some (.ref C),some (.int c),some (.int z2),some (.int ((2^c:Nat):Int)),some (.ref lr),some (.ref d),u6,some (.ref ls),some (.int j),some (.int (j / 2 / 2^c:Nat)),some (.int (j / 2%2^c:Nat)),some (.ref q),J],?_,?_⟩
   ·refine⟨_,U,_,U,_,_,U,U,j / 2 / 2^c&&&j / 2%2^c,Ig _ _,_,U,_,_,U,U,Ja,_,_,U,U,.inl ⟨by decide,by decide⟩,_,_,U,U,_,_,U,U,Jp,_,U,_,U,t3,λr I=>⟨A_ I _,r,?_,U⟩⟩;rw[Ar];rfl
   rintro σ8 H8 ⟨S8,q,hq,rfl⟩;refine⟨λσ H'=>Same H8 H'/\∃b:Bool,(b=true↔∀r∈ms,comm r (pm (2^c) j)=0)/\σ=[some (.ref C),some (.int c),some (.int z2),some (.int ((2^c:Nat):Int)),some (.ref lr),some (.ref d),u6,some (.ref ls),some (.int j),some (.int (j / 2 / 2^c:Nat)),some (.int (j / 2%2^c:Nat)),some (.ref q),some (.bl b)],?_,?_⟩
   ·refine⟨_,U,lr,U,⟨_,S8.seq Y⟩,λacc a3=>?_⟩;refine Lw (K:=K) (a:=lr) (xs:=ps.map V.ref) (fr:=[some (.ref q)]) (λi ys H'=>Same H8 H'/\H' acc=some (.lst ys)/\∃bs:List Bool,ys=bs.map V.bl/\(bs.all id=true↔∀r∈ms.take i,comm r (pm (2^c) j)=0))
     (by rw[Az,a4];exact Hu (by lia)) ⟨A_ a3 _,Ar,[],U,⟨λ_ r I=>(nomatch I),λ_=>rfl⟩⟩ (λi ys H' e=>(S8.trans e.1).seq Y) ?_ ?_
    ·rintro t x ys H9 N hx hy ⟨S9,a9,bs,rfl,ib⟩ kN;rw[Bu]at hx;obtain⟨p,hp,rfl⟩:=Dt.mp hx;obtain⟨r,e7,pr⟩:=T6.mks.get hp;have e0:=S9 _ _ (S8 _ _ pr);have q9:=S9 _ _ hq;refine⟨_,U,_,U,q,p,pm (2^c) j,r,U,Ai.of q9,Ai.of e0,λr1 h7 Z f8=>?_⟩;refine⟨_,U,_,U,p,q,r,pm (2^c) j,U,Ai.of (Z _ _ e0),Ai.of (Z _ _ q9),λr2 h3 b3 e8=>?_⟩;refine⟨r1,r2,l3 (mul (pm (2^c) j) r),l3 (mul r (pm (2^c) j)),U,U,Ai.of (b3 _ _ f8),Ai.of e8,?_⟩;refine kN _ _ (b3 _ _ (Z _ _ a9)) ⟨Dj ((S9.trans Z).trans b3) a3,Ar,bs++[decide (l3 (mul (pm (2^c) j) r)=l3 (mul r (pm (2^c) j)))],by rw[Ca];rfl,?_⟩;rw[Yp,GF,ib,Gs,e7,Iu,show ([decide (l3 (mul (pm (2^c) j) r)=l3 (mul r (pm (2^c) j)))].all id=true)=(l3 (mul (pm (2^c) j) r)=l3 (mul r (pm (2^c) j))) by simp,W2u,Y1p];constructor
     ·rintro ⟨x,y⟩ r' a8;rcases DR.mp a8 with z | z
      ·exact x r' z
      ·rw[DK.mp z];exact y
     ·intro z;exact⟨λr' a8=>z r' (JG _ a8),z r (FQ _ (.head _))⟩
    ·rintro ys H9 hy ⟨S9,a9,bs,rfl,ib⟩;rw[Az,a4,Ia]at ib;exact⟨acc,bs,U,Ag.of a9,S9,_,ib,U⟩
   rintro σ9 H9 ⟨S9,b,hb,rfl⟩;have a0:=S8.trans S9;have c2:=S6.trans a0;have b7:∀(H':Hp),Same H9 H'->¬ Gd ms kvs (pm (2^c) j)->Same H3 H'/\∃(qs:U3) (s:List Mk) (S R f A u:Option V),H' ls=some (.lst (qs.map V.ref))/\Bv H' qs s/\(∀m∈s,Gr c m/\ev m/\Gd ms kvs m)/\(∀p,p<j+1->Gd ms kvs (pm (2^c) p)->s≠[])/\s.length<=j+1/\[some (V.ref C),some (.int c),some (.int z2),some (.int ((2^c:Nat):Int)),some (.ref lr),some (.ref d),u6,some (.ref ls),some (.int j),some (.int (j / 2 / 2^c:Nat)),some (.int (j / 2%2^c:Nat)),some (.ref q),some (.bl b)]=[some (.ref C),some (.int c),some (.int z2),some (.int ((2^c:Nat):Int)),some (.ref lr),some (.ref d),u6,some (.ref ls),S,R,f,A,u]:=λH' S' no =>
    ⟨c2.trans S',qs,s,_,_,_,_,_,S' _ _ (a0 _ _ a6),M6.same (a0.trans S'),a2,λp hp g=>by
     by_cases e:p=j
     ·subst e;exact absurd g no
     ·exact L p (by lia) g,by lia,U⟩
   refine⟨_,U,_,U,t2,λh4 d0=>?_⟩;have sk:=A_ d0 (.tup [.int (j / 2 / 2^c:Nat),.int (j / 2%2^c:Nat)]);have d9:=sk _ _ (c2 _ _ d3);refine⟨_,U,d,_,U,Fi.t (k:=kk (pm (2^c) j)) d9 Ar,_,U,Gw (λnb=>?_) (λnb=>b7 _ sk λg=>by rw[g.2]at nb;cases nb)⟩;have no:Bq kvs (kk (pm (2^c) j))=none:=by
    cases q':Bq kvs (kk (pm (2^c) j)) with
    | none=>rfl
    | some v=>rw[q']at nb;cases nb
   refine⟨_,U,_,U,Gw (λb1=>?_) (λb0=>b7 _ sk λg=>by rw[hb.mpr g.1]at b0;cases b0)⟩;have SS:=a0.trans sk;have b2:=SS _ _ a6;have e3:=sk _ _ (S9 _ _ hq);have lq:qs.length=s.length:=M6.length;refine⟨_,U,.inl ⟨U,_,Ag.of b2⟩,_,U,ls,_,_,U,U,b2,(by rw[Az,lq];exact Cu (show s.length<129 by lia) (by decide)),?_⟩;refine⟨Dj (S6.trans SS) a1,qs++[q],s++[pm (2^c) j],_,_,_,_,_,by rw[Ar,Ca];rfl,(R8 (M6.same SS) (.cons e3 .nil)).upd b2,λm hm=>?_,λp hp g z=>?_,by rw[DP];simp;lia,U⟩
   ·rcases DR.mp hm with y | y
    ·exact a2 m y
    ·rw[DK.mp y];exact⟨W5j hj,W5k _ _,hb.mp b1,no⟩
   ·cases s<;>cases z
  ·rintro σ O ⟨S6,qs,s,w8,w9,c9,W,J,a6,M6,a2,L,l6,rfl⟩;obtain⟨j0,f0,g0⟩:=W6v (by lia) l.ok l.tb (by lia) FU;have ne:0<s.length:=List.length_pos_iff.mpr (L j0 f0 g0);have lq:qs.length=s.length:=M6.length;have d8:Ag K O ls (qs.map V.ref):=Ag.of a6;have T6:=l.same S6;have r6:=T6.lst;have Y:Ag K O lr (ps.map V.ref):=Ag.of r6;obtain⟨y,hy,ey⟩:=R9 z2 ne;have eL:(((qs.map V.ref).length:Nat):Int)=((s.length:Nat):Int):=by rw[Az,lq]
   obtain⟨m,f',b4⟩:=M6.get (Cm (show y<qs.length by lia));have ay:Fg (qs.map V.ref) (z2%(((qs.map V.ref).length:Nat):Int))=some (.ref (qs[y]'(by lia))):=by
    rw[eL,ey];exact J6 (by rw[Bu,Cm (by lia)];rfl)
   generalize qs[y]'(by lia)=pm' at b4 ay;obtain⟨b6,e',f7,no⟩:=a2 m (Er f');refine⟨_,U,.inl ⟨U,_,Y⟩,_,U,_,U,_,U,ls,_,U,.inl d8,_,_,U,U,(show (0:Int)<_ by rw[eL];lia),ls,_,_,_,U,U,d8,ay,lr,_,_,U,U,r6,?_,?_⟩
   ·rw[Az,a4];exact Cu (show ms.length<64 by lia) (by decide)
   have d6:=S6 _ _ d3;have TB:=Ah.X6l T6.tb (by lia) b6 e' f7 FU no;have FA:=FU.app (m:=m);have c0:ms.length<(ms++[m]).length:=by rw[DP];exact KR _
   have em:(ms++[m]).getD ms.length (0,0,0)=m:=Bh.Rq rfl;have h5:kvs.length<=32:=E_ kl (E_ (Fw (by decide) (show ms.length<=5 by lia)) (by decide));have e5:ls≠lr:=λz=>by rw[z,l.lst]at a1;cases a1
   have a7:upd O lr (.lst (ps.map V.ref++[.ref pm'])) ls=some (.lst (qs.map V.ref)):=by rw[Cd e5];exact a6
   have d4:upd O lr (.lst (ps.map V.ref++[.ref pm'])) d=some (.dT kvs):=by rw[Cd (Ne.symm T)];exact d6
   have p4:upd O lr (.lst (ps.map V.ref++[.ref pm'])) pm'=some (T3 m):=by rw[Cd (J0 b4 r6 (by intro z;cases z))];exact b4
   have m4:=T6.mks.upd (ys:=ps.map V.ref++[.ref pm']) r6;have r4:upd O lr (.lst (ps.map V.ref++[.ref pm'])) lr=some (.lst ((ps++[pm']).map V.ref)):=by rw[Ar,Ca];rfl
   have S4:Same H2 (upd O lr (.lst (ps.map V.ref++[.ref pm']))):=Dj (S3.trans S6) b8;generalize upd O lr (.lst (ps.map V.ref++[.ref pm']))=H7 at a7 d4 p4 m4 r4 S4 ⊢;refine⟨λσ H'=>H'=H7/\∃z:Int,σ=[some (.ref C),some (.int c),some (.int z),some (.int ((2^c:Nat):Int)),some (.ref lr),some (.ref d),u6,some (.ref ls),w8,w9,c9,W,J],⟨_,U,_,U,ls,_,U,.inl (Ag.of a7),_,_,U,U,⟨by rw[eL];lia,by rw[eL];lia⟩,U,_,U⟩,?_⟩;rintro σ8 H8 ⟨rfl,z3,rfl⟩;refine⟨_,U,d,kvs,U,d4,λl2 bs a5 d7=>?_⟩;have sl:=A_ a5 (.lst (bs.map V.ref));have f3:l2≠d:=λz=>by rw[z,d4]at a5;cases a5
   have f1:bs.length=kvs.length:=Paired.length d7;have e6:lr≠d:=T
   refine⟨l2,U,⟨_,Ag.of Ar⟩,LC (K:=K) (a:=l2) (xs:=bs.map V.ref) (λj σ H'=>SB d (upd H8 l2 (.lst (bs.map V.ref))) H'/\∃(kvs':List (List Key×V)) (R f:Option V),H' d=some (.dT kvs')/\Half (ms++[m]) ms.length kvs kvs' j/\kvs'.length<=kvs.length+j /\
    σ=[some (.ref C),some (.int c),some (.int z3),some (.int ((2^c:Nat):Int)),some (.ref lr),some (.ref d),u6,some (.ref ls),w8,R,f,W,J]) ⟨SB.refl _ _,kvs,_,_,sl _ _ d4,Half.start FA,by lia,U⟩ (λj σ H' _ e=>Ag.of (e.1 _ _ f3 Ar)) ?_ ?_⟩
   ·rintro j x σ H5 d1 ⟨B5,kvs',w3,w4,d5,HF,e1,rfl⟩;rw[Bu]at d1;obtain⟨b',b9,rfl⟩:=Dt.mp d1;have h6:j<bs.length:=(Fe.mp b9).1;obtain⟨kv,c5,eb⟩:=Ah.uy d7 b9;obtain⟨vv,e4⟩:=Ah.X8o (Er c5);obtain⟨x,hx,ek,_⟩:=FA.only _ _ e4;have st:=CT.oY (ms++[m]) hx c0;rw[em]at st;have c4:=HF.next TB.ind c0 c5 hx ek
    rw[ek]at eb;rw[st]at c4;generalize eX:CT.E (ms++[m]) x=mx at *;have f6:H5 b'=some (.tup [.int mx.2.1,.int mx.2.2]):=B5 _ _ (J0 eb d4 (by intro z;cases z)) (sl _ _ eb);have f2:H5 pm'=some (T3 m):=B5 _ _ (J0 p4 d4 (by intro z;cases z)) (sl _ _ p4);have SM:Ai K H5 pm' (L3 m):=Ai.of f2;have SR:Ag K H5 lr ((ps++[pm']).map V.ref):=Ag.of (B5 _ _ e6 (sl _ _ r4));have al:Fg ((ps++[pm']).map V.ref) (-1)=some (.ref pm'):=by
     unfold Fg Oe;rw[if_neg (by decide),if_pos (by rw[Az,DP];simp;lia),Option.bind_some,Bu,Az,DP,Qi (by simp;lia)];simp;rw[show (-1+((ps.length:Int)+1)).toNat-ps.length=0 by lia];rfl
    refine⟨b',_,U,Ai.of f6,U,_,_,U,_,_,U,U,?_⟩;refine⟨_,U,_,U,_,U,_,U,lr,_,_,_,U,U,SR,al,pm',_,_,_,U,U,SM,U,_,_,U,U,_,U,_,U,_,U,lr,_,_,_,U,U,SR,al,pm',_,_,_,U,U,SM,U,_,_,U,U,t2,λk2 b5=>?_⟩;have d2:(HO.tup [.int (Builtin.bitXor (mx.2.1:Int) m.2.1),.int (Builtin.bitXor (mx.2.2:Int) m.2.2)])=.tup [.int (mul mx m).2.1,.int (mul mx m).2.2]:=by rw[Jo,Jo];rfl
    have f5:=A_ b5 (.tup [.int (mul mx m).2.1,.int (mul mx m).2.2])
    refine⟨d,_,U,by
     have z:=Jg.t (k:=kk (mul mx m)) (v:=.bl true) (f5 _ _ d5) Ar (Cu (show kvs'.length<129 by lia) (by decide))
     rw[<-d2]at z
     exact z,λa o na ha=>?_,_,_,_,Ar,c4,?_,U⟩
    ·rw[Cd na];exact A_ b5 _ _ _ (B5 _ _ na ha)
    ·have:=mO kvs' (kk (mul mx m)) (V.bl true);exact E_ this (by lia)
   ·rintro σ H5 ⟨B5,kvs',w3,w4,d5,HF,e1,rfl⟩;rw[Az,f1]at e1 HF;have M:∀a o,a≠d->H8 a=some o->H5 a=some o:=λa o na ha=>B5 a o na (sl _ _ ha);have FD:=HF.done FA;refine⟨λa o ha=>M a o (Nt ha c8) (S4 a o ha),z3,ps++[pm'],ms++[m],kvs',_,_,_,_,_,_,_,⟨M _ _ T r4,Ah.Bv.sb (Paired.snoc m4 p4) d4 M,λz hz=>?_,TB,?_⟩,?_,d5,?_,?_,U⟩
    ·rcases DR.mp hz with q | q
     ·exact l.ok z q
     ·rw[DK.mp q];exact b6
    ·rw[DP];simp;lia
    ·rw[DP];simp;lia
    ·rw[DP];exact FD
    ·rw[DP,show ms.length+[m].length=ms.length+1 from rfl,Mt];lia
 ·rintro σ H3 ⟨S3,z1,ps,ms,kvs,v6,v7,S,R,f,A,u,l,li,d3,FU,kl,rfl⟩;exact⟨_,U,kq lr H3 ps ms S3 ⟨l,li⟩⟩
end
end Ax
set_option maxHeartbeats 4000000
namespace Fx
def Tr (di:W5)(e T:W9)(cls fl:W2)(h:Heap):Prop:=∃oe vs oT ts,h.get? e=some oe/\(oe.cls=cls/\oe.dict=di)/\oe.data=.fields vs/\(vs[1]?=some (.ref T)/\vs[2]?=some .none)/\T≠e/\h.get? T=some oT/\oT.data=.fields ts/\ts[3]?=some fl/\3<ts.size
structure Kp (fs xs:U3) (h h':Heap):Prop where
 keep:∀b o,h.get? b=some o->b∉fs->b∉xs->h'.get? b=some o
 slot:∀b o,h.get? b=some o->b∉xs->∃sl,h'.get? b=some {o with slots:=sl}
 there:∀b o,h.get? b=some o->∃o',h'.get? b=some o'
section
variable {fs xs:U3}{h h1 h2:Heap}
theorem Kp.trans(p:Kp fs xs h h1)(q:Kp fs xs h1 h2):Kp fs xs h h2 where
 keep:=λb o e n m=>q.keep b o (p.keep b o e n m) n m
 slot:=λb o e m=>by
  obtain⟨d,a⟩:=p.slot b o e m;obtain⟨c,e2⟩:=q.slot b _ a m;exact⟨c,e2⟩
 there:=λb o e=>by
  obtain⟨o1,a⟩:=p.there b o e;exact q.there b o1 a
theorem Kp.same(k:∀b o,h.get? b=some o->h1.get? b=some o):Kp fs xs h h1:=⟨λb o e _ _=>k b o e,λb o e _=>⟨o.slots,k b o e⟩,λb o e=>⟨o,k b o e⟩⟩
theorem Kp.new(o:Obj):Kp fs xs h (h.push o):=.same λ_ _ e=>Ef _ e
theorem Kp.slots(p:Heap.SlotsOnly fs h h1):Kp fs xs h h1 where
 keep:=λb o e n _=>(p.2.1 b n).trans e
 slot:=λb o e _=>p.2.2 b o e
 there:=λb o e=>let ⟨_,q⟩:=p.2.2 b o e;⟨_,q⟩
theorem Kp.field{a:W9}{o:Obj}{vs:U9}{f:Array Value->Array Value}(ha:a∈xs)(e:h.get? a=some o)(d:o.data=.fields vs):Kp fs xs h (h.update a (Obj.mapFields f)):=by
 have k:∀b u,b≠a->h.get? b=some u->(h.update a (Obj.mapFields f)).get? b=some u:=λb u n q=>(Rf _ _ n.symm).trans q;have c:=Rc (Obj.mapFields f) e (Obj.isFreed_of_fields (Obj.data_mapFields d f));exact⟨λb u q _ m=>k b u (λz=>m (z ▸ ha)) q,λb u q m=>⟨u.slots,k b u (λz=>m (z ▸ ha)) q⟩,λb u q=>(Classical.em (b=a)).elim (λz=>⟨o.mapFields f,by rw[z];exact c⟩) λz=>⟨u,k b u z q⟩⟩
theorem Kp.fresh(p:Kp fs xs h h1){b:W9}(e:h1.get? b=none):h.get? b=none:=by
 cases q:h.get? b with
 | none=>rfl
 | some o=>obtain⟨o',a⟩:=p.there b o q;rw[e]at a;cases a
end
def Rec (h:Heap)(a:W9)(o:Obj)(vs:U9):Prop:=h.get? a=some o/\o.data=.fields vs
variable{h:Heap}{a:W9}{o:Obj}{vs:U9}
theorem Rec.put(r:Rec h a o vs)(f:Array Value->Array Value):Rec (h.update a (Obj.mapFields f)) a (o.mapFields f) (f vs):=
 ⟨Rc _ r.1 (Obj.isFreed_of_fields (Obj.data_mapFields r.2 f)),Obj.data_mapFields r.2 f⟩
theorem Rec.off{b:W9}(r:Rec h a o vs)(n:a≠b)(f:Obj->Obj):Rec (h.update b f) a o vs:=⟨(Rf _ _ n.symm).trans r.1,r.2⟩
theorem X6y(o:Obj)(f:Array Value->Array Value):(o.mapFields f).cls=o.cls/\(o.mapFields f).dict=o.dict:=by
 obtain⟨c,d,a,b⟩:=o;cases a<;>exact⟨U,U⟩
variable{e T:W9}{oe:Obj}
theorem Tr.of{oT:Obj}{ts:U9}{cls fl:W2}(r:Rec h e oe vs)(c:oe.cls=cls/\oe.dict=di)(r':Rec h T oT ts)(n:T≠e)(v:vs[1]?=some (.ref T)/\vs[2]?=some .none)(t:ts[3]?=some fl)(z:3<ts.size):Tr di e T cls fl h :=
 ⟨oe,vs,oT,ts,r.1,c,r.2,v,n,r'.1,r'.2,t,z⟩
section
variable {M:Model}{A:W6}{E:U2}{s:U7}
variable{base:Heap}{env:Env}{outer:List Env}{L:W9}{Q:Unit->Shared->Prop}
theorem hung{head:W2}{b:Bool}{xs:U3}
  (ha:A.frames=some (env::outer)) (hf:s.heap.FunFrames base (env::outer)) (hl:env.frame=some L) (r:Rec s.heap e oe vs) (hd:oe.dict=di) (two:1<vs.size) (ctx:vs[2]?=some .none) (he:e∈xs)
  (k:∀h' T,s.heap.get? T=none->Tr di e T oe.cls .none h'->Kp ((env::outer).filterMap (·.frame)) xs s.heap h'->Q () {s with heap:=h'}):
  wpAny M A (do let a ← frameOf env;let l ← entryPlaceOf L b;let t ← EntryCells.newEntry head a .none (rawInt L) .none l;setField (.ref e) 1 t) (λ_ s'=>wpAny M A (setFlight (.ref e) none) Q E s') E s:=by
 have G:e∉(env::outer).filterMap (·.frame):=λz=>by
  obtain⟨_,o,q,n⟩:=hf.mem z;exact n vs (Option.some.inj (r.1.symm.trans q) ▸ r.2)
 refine Aw (wpAny_frameOf_fun ha hf hl λh1 j=>Aw (wpAny_entryPlaceOf λl g=>Aw ?_));have C:Kp ((env::outer).filterMap (·.frame)) xs s.heap h1:=.slots j;have B:Rec h1 e oe vs:=⟨(j.2.1 e G).trans r.1,r.2⟩;have x:h1.objs.size≠e:=Ms (CN B.1);have new:s.heap.get? h1.objs.size=none:=C.fresh (Heap.get?_none_of_le (Bd _));simp only[EntryCells.newEntry,newFields];refine Le ?_ (g.sizeOk5 _ _ _ _ _);obtain⟨o,D,ts,d,t3,tz⟩:∃o:Obj,o={ cls:=.type "traceback",dict:=none,data:=.fields ([head,.ref L,.none,rawInt L,.none]++(if l.isEmpty then List.replicate 6 Value.none else l)).toArray}/\∃ts:Array Value,o.data=.fields ts/\ts[3]?=some (rawInt L)/\3<ts.size:=by
  refine⟨_,U,_,U,?_,?_⟩
  ·rcases g with rfl | ⟨_,_,_,_,_,_,_,rfl⟩<;>simp
  ·simp only[Ep,DP,Ob,List.length_nil];lia
 rw[<-D];have i:Rec (h1.push o) e oe vs:=⟨Ef _ B.1,B.2⟩;have F:Rec (h1.push o) h1.objs.size o ts:=⟨Fj _ (Obj.isFreed_of_fields d),d⟩;have p2:=C.trans (Kp.new o);refine RQ i.1 i.2 two ?_;have p:=i.put (·.setIfInBounds 1 (Value.ref h1.objs.size));have y:=F.off x (Obj.mapFields (·.setIfInBounds 1 (Value.ref h1.objs.size)));have v:=p2.trans (Kp.field (f:=(·.setIfInBounds 1 (Value.ref h1.objs.size))) he i.1 i.2);have v1:(vs.setIfInBounds 1 (Value.ref h1.objs.size))[1]?=some (.ref h1.objs.size):=by simp[two]
 refine wpAny_setFlight_none p.1 p.2 v1 y.1 y.2 tz (k _ h1.objs.size new ?_ ?_)
 ·have c:=X6y oe (·.setIfInBounds 1 (Value.ref h1.objs.size));exact Tr.of (p.off x.symm _) ⟨c.1,c.2.trans hd⟩ (y.put _) x ⟨v1,by rw[Array.getElem?_setIfInBounds_ne (by decide)];exact ctx⟩ (by simp[tz]) (by simpa using tz)
 ·have q:∀b u,b≠h1.objs.size->Heap.get? ((h1.push o).update e (Obj.mapFields (·.setIfInBounds 1 (Value.ref h1.objs.size)))) b=some u->Heap.get? (((h1.push o).update e (Obj.mapFields (·.setIfInBounds 1 (Value.ref h1.objs.size)))).update h1.objs.size (Obj.mapFields (·.setIfInBounds 3 .none))) b=some u:=λb u n z=>(Rf _ _ n.symm).trans z;have h:∀b u,s.heap.get? b=some u->b≠h1.objs.size:=λb u z w=>by rw[w,new]at z;cases z
  exact⟨λb u z n m=>q b u (h b u z) (v.keep b u z n m),λb u z m=>let ⟨j,w⟩:=v.slot b u z m;⟨j,q b _ (h b u z) w⟩,λb u z=>let ⟨u',w⟩:=v.there b u z;⟨u',q b u' (h b u z) w⟩⟩
theorem flight{cls fl:W2}(t:Tr di e T cls fl s.heap)(k:∀h',Tr di e T cls .none h'->(∀b,b≠T->h'.get? b=s.heap.get? b)->Q () {s with heap:=h'}):wpAny M A (setFlight (.ref e) none) Q E s:=by
 obtain⟨oe,vs,f,ts,a,c,e2,v,n,t1,t2,-,z⟩:=t;have r:Rec s.heap e oe vs:=⟨a,e2⟩;have d:Rec s.heap T f ts:=⟨t1,t2⟩;exact wpAny_setFlight_none a e2 v.1 t1 t2 z (k _ (Tr.of (r.off n.symm _) c (d.put _) n v (by simp[z]) (by simpa using z)) λb m=>Rf _ _ m.symm)
theorem Y3f
  (ha:A.frames=some (env::outer)) (hf:s.heap.FunFrames base (env::outer)) (hl:env.frame=some L) (e1:s.heap.get? e=some oe) (hd:oe.dict=di) (e2:oe.data=.fields vs) (one:vs[1]?=some .none) (ctx:vs[2]?=some .none)
  (k:∀h' T,s.heap.get? T=none->Tr di e T oe.cls .none h'->Kp ((env::outer).filterMap (·.frame)) [e] s.heap h'->Q () {s with heap:=h'}):wpAny M A (leaving env (.ref e)) Q E s:=by
 have r:Rec s.heap e oe vs:=⟨e1,e2⟩;unfold leaving noteFrame;simp only[hl];exact Aw (Aw (LR e1 e2 one (hung ha hf hl r hd (qY.mp one).1 ctx (by simp) k)))
theorem wM{T0:W9}{cls:W2}
  (ha:A.frames=some (env::outer)) (hf:s.heap.FunFrames base (env::outer)) (hl:env.frame=some L) (ht:Tr di e T0 cls .none s.heap)
  (k:∀h' T,s.heap.get? T=none->Tr di e T cls .none h'->Kp ((env::outer).filterMap (·.frame)) [e,T0] s.heap h'->Q () {s with heap:=h'}):wpAny M A (noteFrame (.ref e) env) (λ_ s'=>wpAny M A (setFlight (.ref e) none) Q E s') E s:=by
 obtain⟨oe,vs,i,ts,h,⟨c,hd⟩,e2,⟨one,f⟩,n,t1,t2,a,d⟩:=ht;have r:Rec s.heap e oe vs:=⟨h,e2⟩;have m:Rec s.heap T0 i ts:=⟨t1,t2⟩;have p:Kp ((env::outer).filterMap (·.frame)) [e,T0] s.heap (s.heap.update T0 (Obj.mapFields (·.setIfInBounds 3 Value.none))):=.field (by simp) t1 t2
 have fr:Heap.FunFrames (s.heap.update T0 (Obj.mapFields (·.setIfInBounds 3 Value.none))) base (env::outer):=hf.of_keeps λb o q l=>⟨o,(Rf _ _ λz=>by
  rw[<-z,t1]at q;exact l ts (Option.some.inj q ▸ t2)).trans q,U⟩
 unfold noteFrame;simp only[hl];refine Aw (LR h e2 one ?_);simp only[show (Value.ref T0 != Value.none)=true from rfl,JC];refine Aw (LR t1 t2 a ?_);simp only[show (Value.none == rawInt L)=false from rfl,Mx,HY];refine Aw (RQ t1 t2 d ?_);refine hung (s:={s with heap:=s.heap.update T0 (Obj.mapFields (·.setIfInBounds 3 Value.none))}) (xs:=[e,T0]) ha fr hl (r.off n.symm _) hd (qY.mp one).1 f (.head _) λh' T j g q=>?_;rw[c]at g;exact k h' T (p.fresh j) g (p.trans q)
theorem Y6s{T0:W9}{cls:W2}
  (ha:A.frames=some (env::outer)) (hf:s.heap.FunFrames base (env::outer)) (hl:env.frame=some L) (ht:Tr di e T0 cls .none s.heap)
  (k:∀h' T,s.heap.get? T=none->Tr di e T cls .none h'->Kp ((env::outer).filterMap (·.frame)) [e,T0] s.heap h'->Q () {s with heap:=h'}):wpAny M A (leaving env (.ref e)) Q E s :=
 Aw (wM ha hf hl ht k)
end
end Fx
namespace L2
open Fx
noncomputable def Oq (P:U8)(w:W1):N7:=λouter H s E e s'=>∃(a T:W9) (cls:W2) (di:W5) (H':Hp),e=.ref a/\s'.os=s.os/\AllBare s'.gens/\Un (frs outer) [] H H' s.heap s'.heap/\Ez P w H' s'.heap /\
 Tr di a T cls .none s'.heap/\s.heap.get? a=none/\s.heap.get? T=none/\H' a=none/\H' T=none/\E cls di H'
theorem BR.get{P:U8}{w:W1}{H:Hp}{h:Heap}{a:W9}{o:HO}(x:BR P w H h a o):∃ob,h.get? a=some ob:=by
 cases o with
 | lst xs=>obtain⟨_,_,_,_,e⟩:=x;exact⟨_,e⟩
 | tup xs=>obtain⟨_,_,_,ob,e,_⟩:=x;exact⟨_,e⟩
 | dK kvs=>obtain⟨_,_,_,_,o,_,_,e,_⟩:=x;exact⟨_,e⟩
 | dT kvs=>obtain⟨_,_,_,_,o,_,_,e,_⟩:=x;exact⟨_,e⟩
 | set S n=>obtain⟨o,_,_,_,e,_⟩:=x;exact⟨_,e⟩
 | ins C dx fs=>obtain⟨_,_,_,e,_⟩:=x;exact⟨_,e⟩
 | own y=>obtain⟨_,e⟩:=x;exact⟨_,e⟩
 | xd fs=>obtain⟨_,⟨_,_,_,e,_⟩,_⟩:=x;exact⟨_,e⟩
 | rng lo hi=>obtain⟨_,_,_,e⟩:=x;exact⟨_,e⟩
 | frz ob u=>obtain⟨e,_⟩:=x;exact⟨_,e⟩
 | tbl ps=>exact⟨_,x⟩
 | met f y=>exact⟨_,x⟩
 | ext φ=>obtain⟨_,⟨_,e⟩,_⟩:=x;exact⟨_,e⟩
structure Gj (X:Cx) (E:XK):Prop where
 xe:∀e s',wpAny (model X.prog X.w) X.A (leaving X.env e) (λ_ s''=>Oq X.prog X.w X.outer X.H₀ X.s₀ E e s'') (λe' s''=>Oq X.prog X.w X.outer X.H₀ X.s₀ E e' s'') s'->X.xe e s'
 stk:X.stack=X.env::X.outer/\X.env.frame=some X.env.locals
 ex:X.ex=[]
section
variable {X:Cx}{pins:U1}{σ:St}{H:Hp}{s:U7}{E:XK}
theorem Inv.new0(I:Inv X pins σ H s)(F:Gj X E){b:W9}(hb:s.heap.get? b=none):X.s₀.heap.get? b=none:=by
 cases q:X.s₀.heap.get? b with
 | none=>rfl
 | some o =>
  obtain⟨o',a⟩:=I.base.there b o q (by rw[F.ex];intro z;cases z);rw[hb]at a;cases a
theorem Inv.newH(I:Inv X pins σ H s){b:W9}(hb:s.heap.get? b=none):H b=none:=by
 cases q:H b with
 | none=>rfl
 | some o =>
  obtain⟨ob,a⟩:=BR.get (I.hok b o q);rw[hb]at a;cases a
theorem Inv.left{h1 h':Heap}{e T:W9}{xs:U3}{cls:W2}{di:W5}(I:Inv X pins σ H s)(F:Gj X E)(k1:∀b o,s.heap.get? b=some o->h1.get? b=some o)(hxs:∀b∈xs,X.s₀.heap.get? b=none/\H b=none)
  (kp:Kp ((X.env::X.outer).filterMap (·.frame)) xs h1 h') (he:X.s₀.heap.get? e=none/\H e=none) (hT:X.s₀.heap.get? T=none/\H T=none) (tr:Tr di e T cls .none h') (q:E cls di H):Oq X.prog X.w X.outer X.H₀ X.s₀ E (.ref e) {s with heap:=h'}:=by
 have m:∀b,b∈(X.env::X.outer).filterMap (·.frame)->b=X.env.locals\/b∈X.fs:=λb hb=>by
  have:=I.stkSub b (by rw[F.stk.1];exact hb);exact Dg.mp this
 have l:∀b o,X.s₀.heap.get? b=some o->b≠X.env.locals:=λb o hb z=>by
  have h1:=CN hb;have h2:=I.ok.above;rw[z]at h1;exact Mu _ (Cu h1 h2)
 have d:∀b,b∉X.ex:=λb hb=>by rw[F.ex]at hb;cases hb
 have g:∀b o,X.s₀.heap.get? b=some o->b∉xs:=λb o hb hm=>by rw[(hxs b hm).1]at hb;cases hb
 refine⟨e,T,cls,di,H,U,I.os,I.bare,⟨λb o hb h i _=>?_,λb o hb h i _=>?_,λb o hb h _=>I.base.free b o hb h (d b),λb o hb _=>?_,I.base.tups,I.base.frzs,I.base.tbls⟩,λa o p=>?_,tr,he.1,hT.1,he.2,hT.2,q⟩
 ·have f:=I.base.keep b o hb h i (d b);exact kp.keep b o (k1 b o f) (λhm=>(m b hm).elim (l b o hb) i) (g b o hb)
 ·obtain⟨x,f⟩:=I.base.slot b o hb h i (d b);obtain⟨j,r⟩:=kp.slot b _ (k1 b _ f) (g b o hb);exact⟨j,r⟩
 ·obtain⟨o',f⟩:=I.base.there b o hb (d b);exact kp.there b o' (k1 b o' f)
 ·refine(I.hok a o p).stay (λc v t q=>?_) (λ_ q=>q) λ_ _ q=>q;have k:∃u,H c=some u:=by
   rcases t with z | z
   ·rw[z];exact⟨_,p⟩
   ·exact⟨_,z⟩
  obtain⟨u,n⟩:=k;refine kp.keep c v (k1 c v q) (λhm=>?_) (λhm=>by rw[(hxs c hm).2]at n;cases n);have:=I.stkFree c (by rw[F.stk.1];exact hm);rw[n]at this;cases this
theorem Inv.fly{h1:Heap}{e:W9}{cls:W2}{args:U5}(I:Inv X pins σ H s)(F:Gj X E)(m:Heap.MadeExcOf s.heap h1 e cls args)(q:E cls none H):X.xe (.ref e) {s with heap:=h1}:=by
 refine F.xe _ _ ?_;obtain⟨t,i,_,_⟩:=m.there;have d:X.s₀.heap.get? e=none/\H e=none:=⟨I.new0 F m.new,I.newH m.new⟩;refine Y3f (base:=X.base) (outer:=X.outer) (s:={s with heap:=h1}) (by rw[I.ok.frames,F.stk.1]) ((by rw[<-F.stk.1];exact I.stack:s.heap.FunFrames X.base (X.env::X.outer)).of_keeps λb o hb _=>⟨o,m.keeps b o hb,U⟩) F.stk.2 i rfl rfl rfl rfl λh' T h f g=>?_;have c:s.heap.get? T=none:=by
  cases q:s.heap.get? T with
  | none=>rfl
  | some o =>
   have a:h1.get? T=none:=h;rw[m.keeps T o q]at a;cases a
 exact Inv.left (s:=s) (h1:=h1) (h':=h') I F m.keeps (λb hb=>by rw[DK.mp hb];exact d) g d ⟨I.new0 F c,I.newH c⟩ f q
theorem Inv.flyOn{E':XK}{e:W2}{s':U7}(I:Inv X pins σ H s)(F:Gj X E)(c:Oq X.prog X.w X.stack H s E' e s')(hE:∀cls j H',E' cls j H'->E cls j H'):X.xe e s':=by
 obtain⟨a,T,cls,j,H1,rfl,os,d,un,h,r,l,n,k,p,q⟩:=c;have g:Inv X pins σ H1 s':=I.call' (ch:=[]) os un h d (λb hb=>by cases hb);refine F.xe _ _ ?_;refine Y6s (base:=X.base) (outer:=X.outer) (by rw[I.ok.frames,F.stk.1]) (by rw[<-F.stk.1];exact g.stack) F.stk.2 r λh' t f i m=>?_;refine Inv.left (s:=s') (h1:=s'.heap) (h':=h') g F (λb o hb=>hb) (λb hb=>?_) m ⟨I.new0 F l,k⟩ ⟨g.new0 F f,g.newH f⟩ i (hE _ _ _ q);simp only[Dg,Ir,Ip]at hb;rcases hb with rfl | rfl
 ·exact⟨I.new0 F l,k⟩
 ·exact⟨I.new0 F n,p⟩
theorem Gj.passes{E':XK}(F:Gj X E)(hE:∀cls di H',E' cls di H'->E cls di H'):Passes (Oq X.prog X.w) X E':=λpins σ H s e s' I c=>I.flyOn F c hE
theorem Fy{P:U8}{w:W1}{K:U0}{mg:U4}{base:Heap}{N:W0}{qual:Str}{scope:Scope}{f:W9}{cd:W2}{A:W6}{outer:List Env}{E:XK} :
  Gj (Hr (Oq P w) P w K mg base N qual scope f cd A outer s H E) E:=⟨λ_ _ h=>h,⟨U,U⟩,U⟩
end
noncomputable abbrev XS:List Value:=[.type "ValueError",.type "Exception",.type "BaseException",.type "object"]
structure ExcAt (K:U0) (C:W9) (bm:U5):Prop where
 ex:∃N nm q bs hdct sn sub ab col dd k0 k1 k2 k3 k5,K.lookup C=some (excClassObj nm q C N bs bm hdct sn sub ab col dd k0 k1 k2 k3 k5 "ValueError.__new__")/\PySem.W.nsOkIn K N=true/\PySem.W.nsIn K N "__init__"=some none
 tail:PySem.W.tailIn K XS bm=true
theorem excAt{K:U0}{C N:W9}{nm q:Str}{bs bm:U5}{hdct:Bool}{sn:W0}{sub:U5}{ab:Bool}{col:Option Bool}{dd:W5}{k0 k1 k2 k3 k5:Option Value}
  (l:K.lookup C=some (excClassObj nm q C N bs bm hdct sn sub ab col dd k0 k1 k2 k3 k5 "ValueError.__new__")) (o:PySem.W.nsOkIn K N=true) (n:PySem.W.nsIn K N "__init__"=some none) (t:PySem.W.tailIn K XS bm=true):ExcAt K C bm :=
 ⟨⟨N,nm,q,bs,hdct,sn,sub,ab,col,dd,k0,k1,k2,k3,k5,l,o,n⟩,t⟩
section
variable {X:Cx}{E:XK}{x:Str}{C:W9}{e:Expr}{es:List Expr}{t:TA}{np cpos pos:Pos}{bm:U5}
def Q8 (E:XK)(C:W9)(t:TA):TS:=λ_ σ H=>t σ H λvs H1=>vs.length<=sizeLine/\E (.ref C) none H1
theorem vN(F:Gj X E)(hc:X.calm=true)(hg:Gl X x)(hm:X.mg x=some (.ref C))(hx:ExcAt X.K C bm)(ha:PA X (e::es) t)(hdb:(x == ("__debug__":Str))=false:=by decide)
  (he:starEach (e::es) X.env=(false,eval e X.env)::starEach es X.env:=by rfl) (hpl:(backTo cpos (starEach es X.env)).any (·.1)=false:=by rfl):
  PS X (.Raise (some (.Call (.Name x np) (e::es) [] cpos)) none pos) (Q8 E C t):=by
 intro pins s σ H D I h;obtain⟨N,nm,q,bs,hdct,sn,sub,ab,col,dd,k0,k1,k2,k3,k5,f,ok,i⟩:=hx.ex;have b:=I.ok.mod.kin;have g:=b _ _ f;have l:X.base.Ns N _:=.of_isNs (PySem.W.isNs_of_in b ok);have d:=PySem.W.nsMap_none_of_in b ok i;have T:=PySem.W.tail_of_in b hx.tail;refine wpAny_Raise_call_subT (C:=C) (nm:=nm) (q:=q) (N:=N) (bs:=bs) (bm:=bm) (hdct:=hdct) (sn:=sn) (sub:=sub) (ab:=ab) (col:=col) (dd:=dd) (k0:=k0) (k1:=k1) (k2:=k2) (k3:=k3) (k5:=k5)
  gq (T.hasType gq.hasBase) (I.ok.hd hc) (by rw[he];show (false || (backTo cpos (starEach es X.env)).any (·.1))=false;rw[hpl];rfl) d (Uk I hg hm ⟨U,?_⟩ hdb)
 have h2:=ha cpos pins s σ H _ I h;rw[he]at h2 ⊢;refine Calls.evalArgs_plain (GD h2 (λus o ⟨vs,H1,c,k,n,j⟩=>⟨U,by rw[<-k.length];exact n,c.bk _ _ g,l.keeps c.bk,T.keeps c.bk,λh' a m=>c.fly F m j⟩) λ_ _ y=>y)
end
end L2
namespace PySem
section
variable {M:Model}{A:W6}{E:U2}
theorem Z8i{h:Heap}{g:Array GenState}{d:Drawn}{t:Nat}{os:OsState}{e C D:W9}{oe:Obj}{Q:Bool->Shared->Prop}
  {nm q:Str}{N:W9}{bs bm:U5}{hdct:Bool}{sn:W0}{sub:U5}{ab:Bool}{col:Option Bool}{dd:W5}{k0 k1 k2 k3 k5:Option Value}{newId:String}
  {nm' q':Str}{N':W9}{bs' bm':U5}{hdct':Bool}{sn':W0}{sub':U5}{ab':Bool}{col':Option Bool}{dd':W5}{k0' k1' k2' k3' k5':Option Value}{newId':String}
  (hC:h.get? C=some (excClassObj nm q C N bs bm hdct sn sub ab col dd k0 k1 k2 k3 k5 newId)) (hD:h.get? D=some (excClassObj nm' q' D N' bs' bm' hdct' sn' sub' ab' col' dd' k0' k1' k2' k3' k5' newId'))
  (he:h.get? e=some oe) (hcls:oe.cls=.ref C) (hbase:bm'.contains (.type "BaseException")=true) (hsub:(Value.ref C::bm).contains (.ref D)=true)
  (hq:Q true ⟨h,g,d,t,os⟩):wpAny M A (excMatches (.ref e) (.ref D)) Q E ⟨h,g,d,t,os⟩:=by
 have a:(Value.ref D::bm').contains (.type "BaseException")=true:=by rw[List.contains_cons,hbase,Bool.or_true]
 have f:=tc_notTuple;unfold excMatches;repeat (first | (with_reducible refine wpAny_loadPart_at he ?_;rw[hcls]) | with_reducible refine wpAny_loadPart_at hD ?_ | (with_reducible refine wpAny_isSubtype_exc hD ?_;rw[a]) | (with_reducible refine wpAny_isSubtype_exc hC ?_;rw[hsub]) | wp_step)
 exact hq
end
end PySem
namespace L2
open Fx
noncomputable def GC (di:W5)(a:W9)(cls:W2):HO:=.ext λh=>∃o vs,h.get? a=some o/\(o.cls=cls/\o.dict=di)/\o.data=.fields vs/\vs[2]?=some .none
noncomputable def Xt (X:Cx)(pins:U1)(σ0:St)(E:XK):Cx:={X with pn:=X.pn++pins,xe:=λe s'=>∃H1 s1,Inv X pins σ0 H1 s1/\Oq X.prog X.w X.stack H1 s1 E e s'}
variable{X:Cx}{pins:U1}{σ0 σ:St}{H:Hp}{s:U7}
theorem Inv.ofXt{p2:U1}{E:XK}(I:Inv (Xt X pins σ0 E) p2 σ H s):Inv X pins σ H s :=
 ⟨⟨I.ok.mod,I.ok.kind,I.ok.glob,I.ok.blt,I.ok.above,I.ok.inj,I.ok.has,I.ok.cab,I.ok.hd,I.ok.frames,I.ok.stk,I.ok.exf,I.ok.bs,I.ok.bsz,I.ok.noex,I.ok.exfs,I.ok.funs,I.ok.frf⟩,
  I.os,I.bare,I.base,I.loc,I.cell,I.free,I.freeC,λp hp=>I.pin p (JG _ hp),I.hok,I.len⟩
theorem Inv.toXt{E:XK}(I:Inv X pins σ H s):Inv (Xt X pins σ0 E) [] σ H s :=
 ⟨⟨I.ok.mod,I.ok.kind,I.ok.glob,I.ok.blt,I.ok.above,I.ok.inj,I.ok.has,I.ok.cab,I.ok.hd,I.ok.frames,I.ok.stk,I.ok.exf,I.ok.bs,I.ok.bsz,I.ok.noex,I.ok.exfs,I.ok.funs,I.ok.frf⟩,
  I.os,I.bare,I.base,I.loc,I.cell,I.free,I.freeC,λp hp=>I.pin p (by rw[Oz]at hp;exact hp),I.hok,I.len⟩
noncomputable def Xh (X:Cx)(a:W9):Cx:={X with A:=X.A.mark (some (.ref a)),calm:=false,xe:=λ_ _=>False}
variable{a:W9}
theorem Inv.toXh(I:Inv X pins σ H s):Inv (Xh X a) pins σ H s :=
 ⟨⟨I.ok.mod,I.ok.kind,I.ok.glob,I.ok.blt,I.ok.above,I.ok.inj,I.ok.has,I.ok.cab,(λz=>by cases z),I.ok.frames,I.ok.stk,I.ok.exf,I.ok.bs,I.ok.bsz,I.ok.noex,I.ok.exfs,I.ok.funs,I.ok.frf⟩,
  I.os,I.bare,I.base,I.loc,I.cell,I.free,I.freeC,I.pin,I.hok,I.len⟩
theorem Inv.ofXh(ok:X.Ok)(I:Inv (Xh X a) pins σ H s):Inv X pins σ H s :=
 ⟨ok,I.os,I.bare,I.base,I.loc,I.cell,I.free,I.freeC,I.pin,I.hok,I.len⟩
theorem Inv.landed{H1 H':Hp}{s1 s':U7}{T T':W9}{cls:W2}{h':Heap}(I:Inv X pins σ H1 s1)(os:s'.os=s1.os)(bare:AllBare s'.gens)(un:Un (frs X.stack) [] H1 H' s1.heap s'.heap)(hok:Ez X.prog X.w H' s'.heap)
  (kp:Kp (frs X.stack) [a,T] s'.heap h') (na:s1.heap.get? a=none) (nT:s1.heap.get? T=none) (ha:H' a=none) (hT:H' T=none) (tr:Tr di a T' cls .none h'):Inv X pins σ (upd H' a (GC di a cls)) { s' with heap:=h'}:=by
 obtain⟨oe,vs,E,ts,r,B,hd,h1,A,t,C,G,F⟩:=tr;have nx:∀b o,s1.heap.get? b=some o->b∉[a,T]:=λb o hb hm=>by
  simp only[Dg,Ir,Ip]at hm;rcases hm with rfl | rfl
  ·rw[na]at hb;cases hb
  ·rw[nT]at hb;cases hb
 have f:∀b u,H' b=some u->b≠a:=λb u hb z=>by rw[z,ha]at hb;cases hb
 have l:∀b,b∈frs X.stack->H' b=none:=λb hb=>by
  obtain⟨_,o,y,_⟩:=I.stack.mem hb;exact un.free b o y (I.stkFree b hb) (by intro z;cases z)
 refine I.call' (ch:=[]) (s':={ s' with heap:=h'}) os ⟨λb o hb h i ox=>?_,λb o hb h i ox=>?_,λb o hb h ox=>?_,λb o hb ox=>?_,λb xs hb=>?_,λb o u hb=>?_,λb ps hb=>?_⟩ (λc o e=>?_) bare (λb hb=>by cases hb)
 ·exact kp.keep b o (un.keep b o hb h i ox) i (nx b o hb)
 ·obtain⟨D,q⟩:=un.slot b o hb h i ox;obtain⟨m,n⟩:=kp.slot b _ q (nx b o hb);exact⟨m,n⟩
 ·rw[Cd (λz=>nx b o hb (by simp[z]))];exact un.free b o hb h ox
 ·obtain⟨o',q⟩:=un.there b o hb ox;exact kp.there b o' q
 ·have:=un.tups b xs hb;rw[Cd (f b _ this)];exact this
 ·have:=un.frzs b o u hb;rw[Cd (f b _ this)];exact this
 ·obtain⟨more,this⟩:=un.tbls b ps hb;exact⟨more,by rw[Cd (f b _ this)];exact this⟩
 ·by_cases hca:c=a
  ·subst hca;rw[Ar]at e;cases e;exact⟨⟨oe,vs,r,B,hd,h1.2⟩,⟨oe,r⟩,λh1 h2 ⟨o,vs,x,n,s⟩ k=>⟨o,vs,k o x,n,s⟩⟩
  ·rw[Cd hca]at e;refine(hok c o e).stay (λd v j q=>?_) (λb q=>by rw[Cd (f b _ q)];exact q) λb xs q=>by rw[Cd (f b _ q)];exact q
   have p:∃u,H' d=some u:=by
    rcases j with z | z
    ·rw[z];exact⟨_,e⟩
    ·exact⟨_,z⟩
   obtain⟨u,g⟩:=p;refine kp.keep d v q (λhm=>?_) (λhm=>?_)
   ·rw[l d hm]at g;cases g
   ·simp only[Dg,Ir,Ip]at hm;rcases hm with rfl | rfl
    ·rw[ha]at g;cases g
    ·rw[hT]at g;cases g
theorem Inv.blank{h':Heap}{m':U4}{tk:Nat}(I:Inv X pins σ H s)(hn:h'.Ns X.env.locals m')(hs:Heap.SameBut X.env.locals s.heap h'):Inv X pins (List.replicate X.N.length none) H {s with heap:=h',toks:=tk}:=by
 have a:∀b o,X.s₀.heap.get? b=some o->b≠X.env.locals:=λb o e=>DY (Cu (CN e) I.ok.above);refine⟨I.ok,I.os,I.bare,⟨λb o e n hb nx=>?_,λb o e n hb nx=>?_,I.base.free,λb o e nx=>?_,I.base.tups,I.base.frzs,I.base.tbls⟩,⟨m',hn,λi x v k1 e2 t=>?_⟩,λx c e=>?_,I.free,I.freeC,λp hp=>?_,λb ob e=>?_,by simp⟩
 ·exact(hs.2 b (a b o e)).trans (I.base.keep b o e n hb nx)
 ·obtain⟨g,k1⟩:=I.base.slot b o e n hb nx;exact⟨g,(hs.2 b (a b o e)).trans k1⟩
 ·obtain⟨o',k1⟩:=I.base.there b o e nx;exact⟨o',(hs.2 b (a b o e)).trans k1⟩
 ·rw[qQ]at e2;split at e2<;>cases e2
 ·obtain⟨v,o,k,hd⟩:=I.cell x c e;exact⟨v,o,(hs.2 c (I.cne x c e)).trans k,hd⟩
 ·obtain⟨h,j,f,l,m⟩:=I.pin p hp;exact⟨(hs.2 _ f).trans h,j,f,l,m⟩
 ·refine(I.hok b ob e).stay (λc r d q=>(hs.2 c ?_).trans q) (λ_ q=>q) λ_ _ q=>q;rintro rfl;rcases d with rfl | d
  ·rw[I.free]at e;cases e
  ·rw[I.free]at d;cases d
section
variable {X:Cx}{E:XK}
end
end L2
namespace PySem.W
open PySem.Calls Builtin Builtin.ObjectAttr
section
variable {prog:U8}{w:W1}{A:W6}{E:U2}{K:Frag}{x C:W9}{s:U7}{R:Result->Shared->Prop}
end
end PySem.W
namespace PySem.W
open PySem.Calls
structure I_ (K:Frag) (D:W9):Prop where
 ga:findIn K (.ref D) "__getattribute__"=some (some (.builtin "BaseException.__getattribute__"))
 gt:findIn K (.ref D) "__getattr__"=some none
 ff:∀od,findObj K D od "__class__"=some (.bind (.builtin "getset_descriptor.__get__") (.builtin "object.__class__"))
 ob:mroIn K D (.type "object")=some true
 be:kitCls K (.ref D) (.type "BaseException")=some true
 me:kitCls K (.ref D) (.ref D)=some true
 dc:hasDictIn K D=true
section
variable {prog:U8}{w:W1}{A:W6}{E:U2}{K:Frag}{x D:W9}{ox:Obj}{od:Option Obj}
theorem X3v{tk:Tok}{s:U7}{Q:Fin->Shared->Prop}(g:I_ K D)(X:K.In s.heap)(I:InstAt s.heap x ox D od)(q:Q (.done (.ret (.ref D))) s):
  wpAny (model prog w) A (Builtin.«object.__getattribute__» ⟨[.ref x,.str "__class__" tk],[]⟩) Q E s:=by
 have b:=I.type (M:=model prog w);have a:=looks_find (M:=model prog w) X I (g.ff od);unfold Builtin.«object.__getattribute__»;refine Aw (Bl (Aw (Bl (Aw (b.at (Aw (a.at ?_)))))));show wpAny _ _ (Builtin.ObjectAttr.bindTo _ _ _ _) _ _ _;unfold Builtin.ObjectAttr.bindTo;show wpAny _ _ (holding [Value.builtin "object.__class__"] (call (Value.builtin "getset_descriptor.__get__") [Value.builtin "object.__class__",Value.ref x,Value.ref D]) >>= ret) _ _ _;exact Aw (Ky (Yd (class_get (ox:=ox) (od:=od) X I g.ob (Bl q))))
theorem X0p{s:U7}{Q:Option Value->Shared->Prop}(g:I_ K D)(X:K.In s.heap)(I:InstAt s.heap x ox D od)(q:Q (some (.ref D)) {s with toks:=s.toks+1}):wpAny (model prog w) A (getAttr? (.ref x) "__class__") Q E s:=by
 have c:=I.type (M:=model prog w);have f:=looks_findIn (M:=model prog w) X g.ga;have h:=looks_findIn (M:=model prog w) X g.gt;have L3:=(kit_cls (M:=model prog w) X g.be).2.2;have i:=qT.ga.bind (.ref x);unfold getAttr? getAttrBy? getAttrBy;refine Aw (wpAny_mkText (Aw (V_ (Ky (Aw (c.at (Aw (f.at ?_))))))));show wpAny _ _ (getAttrByItsOwn _ _ _ _ _ _) _ _ _;unfold getAttrByItsOwn;refine Aw (h.at (Aw (V_ (Ky ?_))));show wpAny _ _ (boundAndCalled _ _ _) _ _ _;unfold boundAndCalled;rw[i];refine Aw (Bl (Yd (codeAny_call_builtin qT.ga.plain F.entry_bexc_ga ?_)));have d:builtinKind "BaseException.__getattribute__"=some .slot:=by decide +kernel
 have b:splitId "BaseException.__getattribute__"=some ("BaseException","__getattribute__"):=by decide +kernel
 have e:=F.args_bexc_ga (.ref x) (.str "__class__" s.toks);simp only[checkBuiltinCall,d,b];refine Aw (Aw (c.at (L3.at ?_)));refine wpAny_of_eq (a:=()) e ?_;exact X3v (s:={s with toks:=s.toks+1}) g X I (handed_on rfl (Bl q))
theorem Ie(g:I_ K D):KitX K (.ref x) (.ref D) (λh=>∃ox od,InstAt h x ox D od) where
 ty:=λ_ _ _ p=>p.elim λ_ p=>p.elim λ_ I=>I.type
 it:=λ_ _ X _=>(kit_cls X g.me).2.1
 ne:=λh tp dd its n c X a=>by
  refine Bool.eq_false_iff.mpr λq=>?_;obtain rfl:D=tp:=Value.ref.inj (beq_iff_eq.mp q);obtain⟨d,b,_⟩:=any_some g.dc;unfold clsIn at b;split at b
  ·rename_i c' d' cd' sl' ho;cases (X _ _ ho).symm.trans a
  ·cases b
 ca:=λX p k=>p.elim λ_ p=>p.elim λ_ I=>X0p g X I k
end
end PySem.W
namespace L2
noncomputable def qz:V->Option Value
 | .ty T=>some (.type T)
 | .ref D=>some (.ref D)
 | _=>none
def Dx (H:Hp)(di:W5):Prop:=∀dx,di=some dx->∃fs,H dx=some (.xd fs)
section
variable {X:Cx}{pins:U1}{σ:St}{H:Hp}{s:U7}
theorem xJ{a C:W9}{di:W5}(I:Inv X pins σ H s)(hH:H a=some (GC di a (.ref C)))(hd:Dx H di):∃o od,PySem.W.InstAt s.heap a o C od/\o.dict=di:=by
 obtain⟨⟨o,vs,c,⟨d,b⟩,g,_⟩,_,_⟩:=(show BR X.prog X.w H s.heap a (GC di a (.ref C)) from I.hok a _ hH);have e:PySem.W.notCls o=true:=by unfold PySem.W.notCls;rw[g]
 cases di with
 | none=>exact⟨o,none,⟨c,d,e,by rw[b];trivial⟩,b⟩
 | some dx =>
  obtain⟨fs,h⟩:=hd dx rfl;obtain⟨mA,⟨od,es,ep,f,_⟩,_⟩:=(show BR X.prog X.w H s.heap dx (.xd fs) from I.hok dx _ h);exact⟨o,some od,⟨c,d,e,by rw[b];exact f⟩,b⟩
theorem Y2a:CP X (.builtin "isinstance") (λxs H Q=>∃a d C c cv b,xs=[.ref a,c]/\H a=some (GC d a (.ref C))/\Dx H d/\PySem.W.I_ X.K C/\qz c=some cv/\PySem.W.kitOne X.K (.ref C) cv=some b/\Q (.bl b) H):=by
 intro pins s σ H xs us Q I r h;obtain⟨a,d,C,c,cv,b,rfl,j,hd,i,f,e,q⟩:=h;obtain⟨u,v,rfl,g,k⟩:=r.two;cases g;have l:v=cv:=by
  cases c<;>first | (cases f;cases k;rfl) | cases f
 subst l;obtain⟨o,od,J,_⟩:=xJ I j hd;exact Kz (PySem.W.Ie i) I.kIn ⟨o,od,J⟩ e (λz=>nomatch z) λtk=>⟨.bl b,H,I.tok tk,U,q⟩
end
end L2
namespace PySem
open PySem.Sem (wp)
section
variable {prog:U8}{w:W1}{A:W6}{E:U2}{h:Heap}{g:Array GenState}{d:Drawn}{t:Nat}{os:OsState}
variable {nm q:Str}{C N:W9}{bs bm bmB:U5}{hdct:Bool}{sn:W0}{sub:U5}{ab:Bool}{col:Option Bool}{dd:W5}{k0 k1 k2 k3 k5:Option Value}{B newId initId:String}
end
end PySem
namespace PySem
section
variable {M:Model}{A:W6}{E:U2}{env:Env}
variable {nm q:Str}{C N:W9}{bs bm:U5}{hdct:Bool}{sn:W0}{sub:U5}{ab:Bool}{col:Option Bool}{dd:W5}{k0 k1 k2 k3 k5:Option Value}{newId:String}
end
end PySem
namespace L2
open Fx
section
variable {X:Cx}{pins:U1}{σ:St}{H:Hp}{s:U7}
end
section
variable {X:Cx}{pins:U1}{σ:St}{H:Hp}{s:U7}
end
section
variable {X:Cx}{E:XK}{x f:Str}{C:W9}{e:Expr}{es:List Expr}{t:TA}{np cpos pos:Pos}{bm:U5}{k:Nat}
end
section
variable {X:Cx}
theorem Nf{x:Str}{C:W9}{pos:Pos}(hg:Gl X x)(hm:X.mg x=some (.ref C))(hd:(x == ("__debug__":Str))=false:=by decide):PE X (.Name x pos) (tC (.ref C)):=
 λ_ _ _ H _ I h=>Uk I hg hm ⟨.ref C,H,I,U,h⟩ hd
end
structure JB (P:U8) (w:W1) (K:U0) (mg:U4) (base:Heap) (k:Nat) (x:Str) (ps:W0) (sp:Sp):Prop where
 ex:∃f fd,Ec P w K mg base (Oq P w) k f fd ps sp/\Binds K fd ps []/\PySem.W.keepIn K (.ref f)=true/\mg x=some (.ref f)
section
variable {X:Cx}{k:Nat}{x:Str}{ps:W0}{sp:Sp}{p pos:Pos}{e:Expr}{es:List Expr}{t:TA}{E:XK}
theorem tL(c:JB X.prog X.w X.K X.mg X.base k x ps sp)(hx:Passes (Oq X.prog X.w) X E)(hr:Cg k X.A)(hg:Gl X x)(ha:PA X (e::es) t)(hdb:(x == ("__debug__":Str))=false:=by decide)
  (he:starEach (e::es) X.env=(false,eval e X.env)::starEach es X.env:=by rfl) (hpl:(backTo pos (starEach es X.env)).any (·.1)=false:=by rfl):PE X (.Call (.Name x p) (e::es) [] pos) (MF sp [] E t):=by
 obtain⟨f,fd,F,b,a,m⟩:=c.ex;exact tQ F hr hg m a b .nil hx ha hdb he hpl
def RB (σ0:St)(sp:Sp)(E:XK)(t:TA):TE:=λσ H Q=>t σ H λvs H1=>σ=σ0/\sp vs H1 Q E
theorem X7c{pins:U1}{σ0:St}(c:JB X.prog X.w X.K X.mg X.base k x ps sp)(hr:Cg k X.A)(hg:Gl X x)(ha:PA (Xt X pins σ0 E) (e::es) t)(hdb:(x == ("__debug__":Str))=false:=by decide)
  (he:starEach (e::es) X.env=(false,eval e X.env)::starEach es X.env:=by rfl) (hpl:(backTo pos (starEach es X.env)).any (·.1)=false:=by rfl):PE (Xt X pins σ0 E) (.Call (.Name x p) (e::es) [] pos) (RB σ0 sp E t):=by
 obtain⟨f,fd,F,b,j,m⟩:=c.ex;intro p2 s σ H Q I h;refine Wb (Uk I hg m ?_ hdb);refine PySem.W.callWith_K (h₀:=X.base) I.ok.mod.kin j (Bk (ha pos p2 s σ H _ I h) λus g ⟨vs,H1,d,r,l,q⟩=>⟨d.kIn,?_⟩) he hpl;subst l;have n:us.length=ps.length:=by rw[<-r.length];exact F.len _ _ _ _ q
 have i:=b g us d.kIn (by rw[Oz];exact n);rw[Oz]at i;refine Yd (V5 (F.run X.A X.stack g H1 ⟨us,[]⟩ us vs Q E hr d.env0 i r q) λr s' a=>?_);cases r with
 | error e=>exact⟨H1,g,d.ofXt,a⟩
 | ok fl =>
  cases fl with
  | ret u=>exact d.after a
  | next=>exact False.elim a
  | brk=>exact False.elim a
  | cont=>exact False.elim a
end
section
variable {P:U8}{w:W1}{K:U0}{mg:U4}{base:Heap}
theorem Ab.calX{x:Str}{st:Stmt}{dV:W2}{ps:W0}{k:Nat}{sp:Sp}(F:Ab K x st dV){h:Heap}(X:K.In h)(G:Ng h mg)(N:W0)
  (hbody:∀{f:W9}{a:W2}{A:W6}{outer:List Env}{s:U7},N.Nodup->∀(H:Hp) (vs:List V) (Q:VK) (E:XK),Cg k (A.deeper (envOfC x (Dy st) s.heap.objs.size f a))->sp vs H Q E ->
   ∃t,Ii (Hr (Oq P w) P w K mg base N x (Dy st) f a A outer s H E) (Gq st) t/\t { nx:=λ_ H'=>Q .non H',rt:=Q} (start N vs) H)(S:CW N ps (Dy st):=by exact fS) (bi:Nk K x st dV ps:=by first | exact XQ λ_ _ _ _ _ _ _=>rfl | exact XM λ_ _ _ _ _ _ _ _=>rfl | exact XJ λ_ _ _ _ _ _ _ _ _=>rfl | exact XH λ_ _ _ _ _ _ _ _ _ _=>rfl | exact XF λ_ _ _ _ _ _ _ _ _ _ _=>rfl | exact XR λ_ _ _ _ _ _=>rfl) (len:∀vs H Q E,sp vs H Q E->vs.length=ps.length:=by intro _ _ _ _ h;repeat first | (obtain⟨rfl,_⟩:=h;rfl) | (obtain⟨⟨rfl,_⟩,_⟩:=h;rfl) | (obtain⟨_,h⟩:=h)):JB P w K mg base (k+1) x ps sp:=by
 obtain⟨f,m,od,kV,d,pm,l,a,ct,i,g,c,e,ns⟩:=F.ex;exact⟨f,_,oJ g c S len λA outer s H vs Q E j b=>hbody S.nd H vs Q E j b,bi kV d pm l a ct,e,IK X G ns⟩
end
def ClsAt (K:U0)(C:W9)(bm:U5):Prop:=∃N nm q bs hdct sn sub ab col dd k0 k1 k2 k3 k5,K.lookup C=some (excClassObj nm q C N bs bm hdct sn sub ab col dd k0 k1 k2 k3 k5 "ValueError.__new__")
theorem ExcAt.cls{K:U0}{C:W9}{bm:U5}(x:ExcAt K C bm):ClsAt K C bm:=by
 obtain⟨N,nm,q,bs,hdct,sn,sub,ab,col,dd,k0,k1,k2,k3,k5,l,_⟩:=x.ex;exact⟨N,nm,q,bs,hdct,sn,sub,ab,col,dd,k0,k1,k2,k3,k5,l⟩
section
variable {X:Cx}{E:XK}{pins:U1}{σ:St}{H:Hp}{s:U7}
theorem Inv.unset{h':Heap}{m:U4}{v:Option Value}{tk i:Nat}{n:Str}(I:Inv X pins σ H s)(hN:X.N.Nodup)(hi:X.N[i]?=some n)(hm:s.heap.Ns X.env.locals m)
  (hl:∀(i:Nat) (x:Str) (v:V),X.N[i]?=some x->σ[i]?=some (some v)->YD X.env.scope x->∃u,RelV v u/\Look X.env s.heap m x u)
  (hn:h'.Ns X.env.locals (λx=>if x=n then v else m x)) (hs:Heap.SameBut X.env.locals s.heap h'):Inv X pins (σ.set i none) H {s with heap:=h',toks:=tk}:=by
 have a:∀b o,X.s₀.heap.get? b=some o->b≠X.env.locals:=λb o e=>DY (Cu (CN e) I.ok.above);have cne:=I.cne;refine⟨I.ok,I.os,I.bare,⟨λb o e n hb nx=>?_,λb o e n hb nx=>?_,I.base.free,λb o e nx=>?_,I.base.tups,I.base.frzs,I.base.tbls⟩,⟨_,hn,λj y B g e2 D=>?_⟩,λx c e=>?_,I.free,I.freeC,λp hp=>?_,λb ob e=>?_,by rw[RV];exact I.len⟩
 ·exact(hs.2 b (a b o e)).trans (I.base.keep b o e n hb nx)
 ·obtain⟨h,k1⟩:=I.base.slot b o e n hb nx;exact⟨h,(hs.2 b (a b o e)).trans k1⟩
 ·obtain⟨o',k1⟩:=I.base.there b o e nx;exact⟨o',(hs.2 b (a b o e)).trans k1⟩
 ·by_cases hj:j=i
  ·subst hj;by_cases hz:j<σ.length
   ·rw[Y7 hz]at e2;cases e2
   ·rw[List.getElem?_eq_none (by rw[RV];lia)]at e2;cases e2
  ·rw[Rb (Ne.symm hj)]at e2;obtain⟨C,l,q⟩:=hl j y B g e2 D;refine⟨C,l,?_⟩;rcases q with ⟨k,e⟩ | ⟨k,c,e,z⟩
   ·refine .inl ⟨k,?_⟩;have:y≠n:=λe=>hj (oG hN g (e ▸ hi));simp[this,e]
   ·exact .inr ⟨k,c,e,z.sameBut hs (cne y c e)⟩
 ·obtain⟨v,o,w,hd⟩:=I.cell x c e;exact⟨v,o,(hs.2 c (I.cne x c e)).trans w,hd⟩
 ·obtain⟨r,t,f,A,E⟩:=I.pin p hp;exact⟨(hs.2 _ f).trans r,t,f,A,E⟩
 ·refine(I.hok b ob e).stay (λc F d q=>(hs.2 c ?_).trans q) (λ_ q=>q) λ_ _ q=>q;rintro rfl;rcases d with rfl | d
  ·rw[I.free]at e;cases e
  ·rw[I.free]at d;cases d
def Vb (E:XK)(tb:St->TS)(th:Addr->TS)(i:Nat):TS:=λD σ H=>tb σ D σ H/\∀a cls di H',E cls di H'->H' a=none->th a { nx:=λσ' H''=>D.nx (σ'.set i none) H'',rt:=D.rt} (σ.set i (some (.ref a))) (upd H' a (GC di a cls))
theorem X6z{st b₀:Stmt}{suite:W8}{cx n:Str}{C D:W9}{i:Nat}{np hpos pos:Pos}{tb:St->TS}{th:Addr->TS}{bm bm':U5}(hst:X.stack=X.env::X.outer/\X.env.frame=some X.env.locals)(hN:X.N.Nodup)(hi:X.N[i]?=some n)(hloc:X.env.scope.names.lookup n=some .local)
  (hg:Gl X cx) (hm:X.mg cx=some (.ref D)) (hC:ClsAt X.K C bm) (hD:ExcAt X.K D bm') (hsub:(Value.ref C::bm).contains (.ref D)=true) (hE:∀cls y H',E cls y H'->cls=.ref C)
  (hb:∀pins σ,Ii (Xt X pins σ E) [st] (tb σ)) (hh:∀a,Ii (Xh X a) (b₀::suite) (th a)) (hdb:(cx == ("__debug__":Str))=false:=by decide):
  PS X (.Try [st] [.ExceptHandler (some (.Name cx np)) (some n) (b₀::suite) hpos] [] [] pos) (Vb E tb th i):=by
 intro pins s σ H D' I h;obtain⟨h1,h2⟩:=h;refine wpAny_Try_except (GD (hb pins σ [] s σ H D' I.toXt h1) (λf s1 q=>?_) (λe s1 q=>?_))
 ·cases f with
  | next=>obtain⟨j,H',l,q⟩:=q;exact WR ⟨j,H',l.ofXt,q⟩
  | brk=>obtain⟨j,H',l,q⟩:=q;exact⟨j,H',l.ofXt,q⟩
  | cont=>obtain⟨j,H',l,q⟩:=q;exact⟨j,H',l.ofXt,q⟩
  | ret u=>obtain⟨v,j,H',l,r,q⟩:=q;exact⟨v,j,H',l.ofXt,r,q⟩
 obtain⟨H1,s0,O,a,T,cls,y,H',rfl,os,c,un,d,tr,Y,Z,J,V,q⟩:=q;obtain rfl:=hE cls y H' q;have I1:Inv X pins σ H' s1:=O.call' (ch:=[]) os un d c (λb hb=>by cases hb);have k:X.env.kindOf n=some .local:=hloc;refine wM (base:=X.base) (outer:=X.outer) (by rw[I.ok.frames,hst.1]) (by rw[<-hst.1];exact I1.stack) hst.2 tr λh' T' S p kp=>?_;have g:Kp (frs X.stack) [a,T] s1.heap h':=by rw[hst.1];exact kp
 have B:Inv X pins σ (upd H' a (GC y a (.ref C))) {s1 with heap:=h'}:=O.landed os c un d g Y Z J V p;obtain⟨_,_,_,_,_,_,_,_,_,_,_,_,_,_,_,lC⟩:=hC;obtain⟨_,_,_,_,_,_,_,_,_,_,_,_,_,_,_,lD,_,_⟩:=hD.ex;have TD:=PySem.W.tail_of_in B.kIn hD.tail;obtain⟨oe,vs,oT,ts,he,⟨hc,_⟩,_⟩:=id p;refine wpAny_handleBy_cons (codeAny_handlers_test (Uk (X:=Xh X a) (B.toXh (a:=a)) hg hm ?_ hdb)) (by intro q;cases q);refine Z8i (B.kIn _ _ lC) (B.kIn _ _ lD) he hc (TD.hasType gq.hasBase) hsub ?_;refine codeAny_handlers_suite_as ?_;refine flight (s:={s1 with heap:=h'}) p λh3 U same=>?_;have R:Kp (frs X.stack) [a,T] s1.heap h3:=by
  have Q:∀b o,s1.heap.get? b=some o->b≠T':=λb o hb z=>by rw[z,S]at hb;cases hb
  exact⟨λb o hb hf L=>(same b (Q b o hb)).trans (g.keep b o hb hf L),λb o hb L=>let ⟨slo,e⟩:=g.slot b o hb L;⟨slo,(same b (Q b o hb)).trans e⟩,λb o hb=>let ⟨o',e⟩:=g.there b o hb;⟨o',(same b (Q b o hb)).trans e⟩⟩
 have I3:Inv X pins σ (upd H' a (GC y a (.ref C))) {s1 with heap:=h3}:=O.landed os c un d R Y Z J V U;refine Xq (X:=Xh X a) (v:=.ref a) (I3.toXh (a:=a)) hN hi (.inl hloc) rfl (λs4 I4=>?_) (.inr hloc);refine GD (hh a pins s4 _ _ _ I4 (h2 a _ y H' q J)) (λf s5 F=>?_) (λx s5 z=>z.elim);cases f with
 | next =>
  obtain⟨j,P,A,M⟩:=F;obtain⟨m,G,hl⟩:=id A.loc;refine wpAny_nameGoes_keeps k G (by rw[I.ok.kind];rfl) λh6 v6 t w=>?_;exact⟨_,P,(A.ofXh I.ok).unset hN hi G hl t w,M⟩
 | brk=>obtain⟨_,_,_,z⟩:=F;exact z.elim
 | cont=>obtain⟨_,_,_,z⟩:=F;exact z.elim
 | ret u =>
  obtain⟨v,j,P,A,r,M⟩:=F;obtain⟨m,G,_⟩:=id A.loc;refine wpAny_nameGoes k G (by rw[I.ok.kind];rfl) λh6 m6 t w=>?_;exact⟨v,_,P,(A.ofXh I.ok).blank t w,r,M⟩
end
theorem sH{X:Cx}{e:W9}:CP (Xh X e) (.builtin "isinstance") (λxs H Q=>∃a di C c cv b,xs=[.ref a,c]/\H a=some (GC di a (.ref C))/\Dx H di/\PySem.W.I_ X.K C/\qz c=some cv/\PySem.W.kitOne X.K (.ref C) cv=some b/\Q (.bl b) H):=Y2a
end L2
namespace L2
open Fx
section
variable {X:Cx}{k:Nat}{x:Str}{ps:W0}{sp:Sp}{p pos:Pos}{e:Expr}{es:List Expr}{t:TA}{E:XK}
end
end L2
namespace PySem
section
variable {prog:U8}{w:W1}{A:W6}{E:U2}{s:U7}
end
end PySem
namespace PySem
section
variable {M:Model}{A:W6}{E:U2}
end
end PySem
namespace L2
open Fx
section
variable {X:Cx}{E:XK}
end
end L2
namespace L2
theorem tW:∀{cs:U3}{its:U5},Vals (cs.map V.ref) its->its=cs.map Value.ref
 | [],_,.nil=>rfl
 | c::r,_,.cons h hs=>by
  cases h;rw[tW hs];rfl
section
variable {X:Cx}
theorem Y0q:CP X (.builtin "isinstance") (λxs H Q=>∃(a:W9) (j:W5) (C p:W9) (f:U3) (b:Bool),xs=[.ref a,.ref p]/\H a=some (GC j a (.ref C))/\Dx H j/\PySem.W.I_ X.K C/\Ai X.K H p (f.map V.ref)/\PySem.W.kitAny X.K (.ref C) (f.map Value.ref)=some b/\Q (.bl b) H):=by
 intro pins s σ H xs us Q I r h;obtain⟨a,j,C,p,f,b,rfl,t,g,m,hp,e,q⟩:=h;obtain⟨u,v,rfl,l,w⟩:=r.two;cases l;cases w;obtain⟨its,rr,⟨o',k,i,n,hd⟩,_⟩:=I.tuple hp;have:=tW rr;subst this;obtain⟨c,dd,x,y⟩:=o'
 replace i:c=.type "tuple":=i
 replace hd:x=.seq (f.map Value.ref).toArray n:=hd
 subst i hd;obtain⟨o,od,d,_⟩:=xJ I t g;exact PySem.W.kia_tup (PySem.W.Ie m) I.kIn ⟨o,od,d⟩ k e (λz=>nomatch z) λtk=>⟨.bl b,H,I.tok tk,U,q⟩
theorem sJ{e:W9}:CP (Xh X e) (.builtin "isinstance") (λxs H Q=>∃(a:W9) (di:W5) (C p:W9) (cs:U3) (b:Bool),xs=[.ref a,.ref p]/\H a=some (GC di a (.ref C))/\Dx H di/\PySem.W.I_ X.K C/\Ai X.K H p (cs.map V.ref)/\PySem.W.kitAny X.K (.ref C) (cs.map Value.ref)=some b/\Q (.bl b) H):=Y0q
end
end L2
set_option maxHeartbeats 1000000
namespace Ah
open L2 Pc JL DG CT
set_option genInjectivity false in
set_option genSizeOf false in
structure bA (K:U0) (mg:U4) (C D:W9) (bm bm':U5) where
 mC:mg "NoTable"=some (.ref C)
 mD:mg "BoardError"=some (.ref D)
 mV:mg "ValueError"=none
 xC:ExcAt K C bm
 xD:ExcAt K D bm'
 sub:(Value.ref C::bm).contains (.ref D)=true
 gC:PySem.W.I_ K C
 own:PySem.W.kitOne K (.ref C) (.ref C)=some true
 ve:PySem.W.kitOne K (.ref C) (.type "ValueError")=some true
 a_NeverSo:Addr
 mo_NeverSo:mg "NeverSo"=some (.ref a_NeverSo)
 a_NoAmount:Addr
 mo_NoAmount:mg "NoAmount"=some (.ref a_NoAmount)
 a_NoBoard:Addr
 mo_NoBoard:mg "NoBoard"=some (.ref a_NoBoard)
 a_NoCell:Addr
 mo_NoCell:mg "NoCell"=some (.ref a_NoCell)
 a_NoMark:Addr
 mo_NoMark:mg "NoMark"=some (.ref a_NoMark)
 a_NoMove:Addr
 mo_NoMove:mg "NoMove"=some (.ref a_NoMove)
 a_NoShare:Addr
 mo_NoShare:mg "NoShare"=some (.ref a_NoShare)
 a_NoText:Addr
 mo_NoText:mg "NoText"=some (.ref a_NoText)
 a_NotBorne:Addr
 mo_NotBorne:mg "NotBorne"=some (.ref a_NotBorne)
 a_Unguarded:Addr
 mo_Unguarded:mg "Unguarded"=some (.ref a_Unguarded)
 k1:PySem.W.kitAny K (.ref C) [.ref a_NeverSo,.ref a_NoAmount,.ref a_NoBoard,.ref a_NoCell,.ref a_NoMark,.ref a_NoMove,.ref a_NoShare]=some false
 k2:PySem.W.kitAny K (.ref C) [.ref a_NoText,.ref a_NotBorne,.ref a_Unguarded]=some false
theorem X9w:bootBuiltins "ValueError"=some (.type "ValueError"):=by decide +kernel
def Il (K:U0)(C:W9):Sp:=λvs H _ E=>∃(v:V) (N:Nat),vs=[v,.int N]/\1<=N/\N<=6/\Ij K H N v/\∀H',Same H H'->E (.ref C) none H'
inductive Fb (K:U0) (H:Hp):V->Prop where
 | odd {v:V}{t:W2} (ty:Bj K H v t) (e:PySem.W.kitOne K t (.type "list")=some false):Fb K H v
 | many {l:W9}{xs:List V} (hl:H l=some (.lst xs)) (no:xs.length<1\/6<xs.length):Fb K H (.ref l)
 | tab {l:W9}{xs:List V} (hl:H l=some (.lst xs)) (l1:1<=xs.length) (l6:xs.length<=6) (t:Ij K H xs.length (.ref l)):Fb K H (.ref l)
def MJ (K:U0)(C:W9):Sp:=λvs H _ E=>∃(v:V),vs=[v]/\Fb K H v/\∀H',Same H H'->E (.ref C) none H'
def MK (K:U0):Sp:=λvs H Q _=>∃(v:V),vs=[v]/\Fb K H v/\∀H',Same H H'->Q (.bl true) H'
section
variable {P:U8}{w:W1}{K:U0}{mg:U4}{base:Heap}{k:Nat}{h:Heap}{C D:W9}{bm bm':U5}
theorem Y6c(F:Ab K "check_table" (top 49) .none)(X:K.In h)(G:Ng h mg)(x:bA K mg C D bm bm')(cR:Aj P w K mg base k "is_table" ["rows","cells"] (Ma K)):JB P w K mg base (k+1) "check_table" ["rows","cells"] (Il K C):=by
 refine F.calX X G _ (S:=Hy) λj H vs Q E f h=>?_;obtain⟨v,N,rfl,i,d,t,c⟩:=h;refine⟨_,(@Ak _ _ _ (Bx (Eh (DW (BP cR f rfl (Aa (pv 0) (Aa (pv 1) Ae))))) (@Ak _ _ _ (vN Fy rfl rfl x.mC x.xC (Aa Gb Ae))) B_)),?_⟩;try dsimp only[CG]
 refine⟨_,U,_,U,v,N,U,i,d,?_⟩;cases t with
 | odd ty e=>exact .inl ⟨_,ty,e,_,rfl,Dc ⟨by decide,c H (Same.refl _)⟩⟩
 | item hl UL pr no=>exact .inr (.inl ⟨_,_,_,rfl,hl,UL,pr,no,λH' a=>⟨_,rfl,Dc ⟨by decide,c H' a⟩⟩⟩)
 | marks hl hm Lh ok no=>exact .inr (.inr ⟨_,_,_,rfl,hl,hm,Lh,ok,λb H' a g=>by rw[no b g];exact⟨_,rfl,Dc ⟨by decide,c H' a⟩⟩⟩)
theorem Y2s(F:Ab K "reduced" (top 50) .none)(X:K.In h)(G:Ng h mg)(cM:JB P w K mg base k "check_table" ["rows","cells"] (Il K C)):JB P w K mg base (k+1) "reduced" ["rows","cells"] (Il K C):=by
 refine F.calX X G _ (S:=Gy) λe H vs Q E b h=>?_;obtain⟨v,N,rfl,d,a,t,c⟩:=h;refine⟨_,(@Ay _ _ _ _ _ (Ni (tL cM (Fy.passes λ_ _ _ z=>z) b rfl (Aa (pv 0) (Aa (pv 1) Ae)))) wQ),?_⟩;try dsimp only[CG]
 exact⟨_,U,_,U,v,N,U,d,a,t,c⟩
theorem Y6b(F:Ab K "spread" (top 60) .none)(X:K.In h)(G:Ng h mg)(B:Ax.Bs mg)(x:bA K mg C D bm bm')(cK:JB P w K mg base k "reduced" ["rows","cells"] (Il K C)):JB P w K mg base (k+1) "spread" ["rows"] (MJ K C):=by
 refine F.calX X G _ (S:=Ax.Hw) λg H vs Q E d h=>?_;obtain⟨v,rfl,t,b⟩:=h
 refine⟨_,(@Ay _ _ _ _ _ (Bx (PW.pt (Es (Eh (DW (CJ J_ rfl B.isinstance IW (Aa (pv 0) (Aa (JZ (v:=.ty "list") rfl B.list OD rfl) Ae))))) (Es (Bf J5 (CJ GP rfl B.len Fv (Aa (pv 0) Ae)) Ad (Ac _)) (Hg (Bf Lq (CJ GP rfl B.len Fv (Aa (pv 0) Ae)) Ad (Ac _))))))
   (@Ak _ _ _ (vN Fy rfl rfl x.mC x.xC (Aa Gb Ae))) B_)
  (@Ay _ _ _ _ _ (@BX _ _ 1 _ _ _ _ g rfl (Or.inr rfl) (tL cK (Fy.passes λ_ _ _ z=>z) d rfl (Aa (pv 0) (Aa (CJ GP rfl B.len Fv (Aa (pv 0) Ae)) Ae))) rfl (.inl rfl))
  wQ)),?_⟩
 try dsimp only[CG]
 cases t with
 | odd ty e=>exact⟨_,rfl,_,_,_,false,rfl,ty,e,_,rfl,Dc ⟨by decide,b H (Same.refl _)⟩⟩
 | @many l xs hl no =>
  have a:Ag K H l xs:=Ag.of hl;refine⟨_,U,_,_,_,true,U,Bj.lst hl,Ru K,_,U,CQ ⟨_,U,l,_,U,.inl a,_,_,U,U,_,U,BJ (λ_=>⟨by decide,b H (Same.refl _)⟩) (λf=>⟨_,U,l,_,U,.inl a,_,_,U,U,_,U,BJ (λ_=>⟨by decide,b H (Same.refl _)⟩) (λc=>absurd no (by lia))⟩)⟩⟩
 | @tab l xs hl l1 l6 t =>
  have a:Ag K H l xs:=Ag.of hl;exact⟨_,U,_,_,_,true,U,Bj.lst hl,Ru K,_,U,CQ ⟨_,U,l,_,U,.inl a,_,_,U,U,_,U,BJ (λz=>absurd z (by lia)) (λf=>⟨_,U,l,_,U,.inl a,_,_,U,U,_,U,BJ (λz=>absurd z (by lia)) (λc=>⟨_,U,_,U,l,_,U,.inl a,_,_,U,l1,l6,t,b⟩)⟩)⟩⟩
theorem X7l(F:Ab K "_law_refused" (top 98) .none)(X:K.In h)(G:Ng h mg)(B:Ax.Bs mg)(x:bA K mg C D bm bm')(x_spread:JB P w K mg base k "spread" ["rows"] (MJ K C)):Aj P w K mg base (k+1) "_law_refused" ["_law_thing"] (MK K):=by
 refine F.cal X G ["_law_thing","e","_law_others"] λl H vs Q E s h=>?_;obtain⟨v,rfl,t,r⟩:=h
 refine⟨_,(@Ay _ _ _ _ _ (X6z (E:=λcls j H1=>cls=.ref C/\Same H H1/\j=none) (i:=1) ⟨U,U⟩ l rfl rfl rfl x.mD x.xC.cls x.xD x.sub (λ_ _ _ z=>z.1)
   (λpins σ=>@Ak _ _ _ (Ni (X7c (σ0:=σ) x_spread s rfl (Aa (pv 0) Ae))))
   (λa=>@Ay _ _ _ _ _ (@BX _ _ 2 _ _ _ _ l rfl (Or.inl rfl) (CJ sJ rfl B.isinstance IW (Aa (pv 1) (Aa (@Cw _ _ _ _ _ (Aa (Nf rfl (x.mo_NeverSo)) (Aa (Nf rfl (x.mo_NoAmount)) (Aa (Nf rfl (x.mo_NoBoard)) (Aa (Nf rfl (x.mo_NoCell)) (Aa (Nf rfl (x.mo_NoMark)) (Aa (Nf rfl (x.mo_NoMove)) (Aa (Nf rfl (x.mo_NoShare)) Ae)))))))) Ae))) rfl (.inl rfl))
    (@Ay _ _ _ _ _ (Bx (PW.pt (Es (DW (pv 2)) (Hg (DW (CJ sJ rfl B.isinstance IW (Aa (pv 1) (Aa (@Cw _ _ _ _ _ (Aa (Nf rfl (x.mo_NoText)) (Aa (Nf rfl (x.mo_NotBorne)) (Aa (Nf rfl (x.mo_Unguarded)) Ae)))) Ae))))))) (@Ak _ _ _ (BL Dw)) B_)
    (@Ak _ _ _ (BL (K9 (CJ sH rfl B.isinstance IW (Aa (pv 1) (Aa (Nf rfl x.mC) Ae))) (Kl (CJ sH rfl B.isinstance IW (Aa (pv 1) (Aa (JZ (v:=.ty "ValueError") rfl x.mV X9w rfl) Ae))))))))))
  (@Ak _ _ _ (BL Dw))),?_⟩
 try dsimp only[CG]
 refine⟨⟨_,U,U,v,U,t,λH' S=>⟨U,S,U⟩⟩,?_⟩;rintro a cls j H1 ⟨rfl,o,rfl⟩ n;have c:upd H1 a (GC none a (.ref C)) a=some (GC none a (.ref C)):=Ar;have g:=o.trans (A_ n (GC none a (.ref C)));generalize upd H1 a (GC none a (.ref C))=H2 at c g ⊢;have b:∀H':Hp,Dx H' none:=λH' d e=>by cases e
 refine⟨_,U,(show 7<=sizeLine by decide),λt1 p=>?_⟩;have m:=A_ p (.tup ([x.a_NeverSo,x.a_NoAmount,x.a_NoBoard,x.a_NoCell,x.a_NoMark,x.a_NoMove,x.a_NoShare].map V.ref));refine⟨a,none,C,t1,[x.a_NeverSo,x.a_NoAmount,x.a_NoBoard,x.a_NoCell,x.a_NoMark,x.a_NoMove,x.a_NoShare],false,U,m _ _ c,b _,x.gC,Ai.of Ar,x.k1,?_⟩;refine⟨_,U,_,U,CQ ⟨_,U,(show 3<=sizeLine by decide),λf q=>?_⟩⟩;have s2:=m.trans (A_ q (.tup ([x.a_NoText,x.a_NotBorne,x.a_Unguarded].map V.ref)));refine⟨a,none,C,f,[x.a_NoText,x.a_NotBorne,x.a_Unguarded],false,U,s2 _ _ c,b _,x.gC,Ai.of Ar,x.k2,_,U,CQ ?_⟩;refine⟨_,U,a,none,C,_,_,true,U,s2 _ _ c,b _,x.gC,U,x.own,_,U,Dc ?_⟩;exact⟨_,U,a,none,C,_,_,true,U,s2 _ _ c,b _,x.gC,U,x.ve,r _ (g.trans s2)⟩
end
end Ah
namespace Ax
open L2 Am Pc Ba
open DG (Mk bit mul chosen)
open Bh (ev)
open Ah (T3 L3 Bv KC Ig Ja Jp Gr comm HS ins Dz Tells Fb Ij Li)
theorem rA(ms:List Mk){x:Nat}(h:∀j,j<ms.length->bit x j=1):∀n,n<=ms.length->chosen ms x n=ms.take n
 | 0,_=>by rw[RP];rfl
 | n+1,hn=>by
  rw[DG.QB,rA ms h n (by lia),if_pos (h n (by lia)),Gs,Bp,Cm (by lia)];rfl
theorem X4e(n:Nat):∀j,j<n->bit (2^n-1) j=1:=λj a=>by
 have:=Nat.testBit_two_pow_sub_one n j;rw[Dr a]at this;unfold bit;rw[Nat.testBit,Nat.shiftRight_eq_div_pow]at this;simpa using this
theorem Y5y(ms:List Mk):HS ms (ms.foldl mul (0,0,0)):=.inr (.inr ⟨0,2^ms.length-1,by rw[rA ms (X4e ms.length) _ (Bd _),Ia]⟩)
variable{rs:List Mk}{r:Mk}{j:Nat}
theorem X6r(hm:r∈rs)(h:bit r.2.1 j=1):HS rs (0,0,2^j):=.inr (.inl ⟨r,hm,by
 show ¬ (pc (r.2.1&&&2^j)+pc (r.2.2&&&0))%2=0
 rw[Tf,Gx,Mr,KD.Ry,h];decide⟩)
theorem X6s(hm:r∈rs)(h:bit r.2.2 j=1):HS rs (0,2^j,0):=.inr (.inl ⟨r,hm,by
 show ¬ (pc (r.2.1&&&0)+pc (r.2.2&&&2^j))%2=0
 rw[Tf,Gx,Ox,KD.Ry,h];decide⟩)
def Ji (K:U0)(H:Hp)(c:Nat)(rs:List Mk)(v:V):Prop:=(∃(p:W9) (m:Mk),v=.ref p/\H p=some (T3 m)/\Gr c m/\HS rs m)\/Dz K H c v false
theorem Ji.same{K:U0}{H H':Hp}{c:Nat}{v:V}(b:Ji K H c rs v)(s:Same H H'):Ji K H' c rs v:=by
 rcases b with ⟨p,m,e,h,o,sp⟩ | t
 ·exact .inl ⟨p,m,e,s _ _ h,o,sp⟩
 ·exact .inr (t.same s)
theorem Rj{α β:Type}{F:α->β->Prop}:∀{l:List α}{r:List β}{l':List α}{r':List β},Paired F l r->Paired F l' r'->Paired F (l++l') (r++r')
 | _,_,_,_,.nil,h=>h
 | _,_,_,_,.cons x r,h=>.cons x (Rj r h)
theorem M7{K:U0}{H:Hp}{n:Nat}:∀{ps:U3}{ms:List Mk},Bv H ps ms->(∀m∈ms,Gr n m)->Paired (Dz K H n) (ps.map V.ref) (ms.map Li)
 | _,_,.nil,_=>.nil
 | _,_,.cons e r,h=>.cons (.mark e (h _ (.head _))) (M7 r λm hm=>h m (.tail _ hm))
def Jb (K:U0)(H3:Hp)(l lr:W9)(c y:Nat)(way at':Int)(m:Mk)(rs:List Mk):L2.St->Hp->Prop:=λσ H'=>Same H3 H'/\∃(v:V) (v10 v11:Option V),Ji K H' c rs v/\σ=[some (.ref l),some (.int c),some (.int way),some (.int at'),some (.int y),some (.ref lr),some (.int m.1),some (.int m.2.1),some (.int m.2.2),some v,v10,v11]
def QL (K:U0):Sp:=λvs H Q _=>∃(l:W9) (ps:U3) (ms:List Mk) (c:Nat) (way at':Int),vs=[.ref l,.int c,.int way,.int at']/\Ft H l ps ms c/\1<=c/\c<=6/\∀(v:V) (H':Hp),Same H H'->Fb K H' v->Q v H'
section
variable {P:U8}{w:W1}{K:U0}{mg:U4}{base:Heap}{k:Nat}{h:Heap}
theorem W2c(F:Ab K "_law_spoiled" (top 97) .none)(X:K.In h)(G:Ng h mg)(B:Bs mg)(cD:Aj P w K mg base k "_law_product" ["_law_one","_law_other"] (Ah.Sh K)):Aj P w K mg base (k+1) "_law_spoiled" ["_law_rows","_law_cells","_law_way","_law_at"] (QL K):=by
 refine F.cal X G ["_law_rows","_law_cells","_law_way","_law_at","_law_place","_law_rest","_law_q","_law_f","_law_s","_law_bad","_law_row","_law_cell"] λJ H vs Q E hr h=>?_;obtain⟨l,ps,ms,c,u,g,rfl,FT,c1,c6,kq⟩:=h;have T:=FT.t;have c3:ms.length=c:=FT.len;have d0:ps.length=c:=by rw[T.mks.length,c3]
 have hS:Ag K H l (ps.map V.ref):=Ag.of T.lst;have p6:=GZ c6
 refine⟨_,(@Cy _ _ _ _ _ (@BX _ _ 4 _ _ _ _ J rfl (Or.inl rfl) (Af Cv (pv 3) (pv 1)) rfl (.inl rfl))
  (@Cy _ _ _ _ _ (@BX _ _ 5 _ _ _ _ J rfl (Or.inl rfl) (Af Ud (Kq Qv (pv 0) K_ (J7 (pv 4))) (Kq Qv (pv 0) (J7 (Af Ds (pv 4) Ad)) K_)) rfl (.inl rfl))
  (@Cy _ _ _ _ _ (R0 (Ao FZ (pv 0) (pv 4) (λ_ _=>rfl)) (Ls rfl (Ea (Bb (i:=6) J rfl (Or.inl rfl)) (Ea (Bb (i:=7) J rfl (Or.inl rfl)) (Ea (Bb (i:=8) J rfl (Or.inl rfl)) Lx)))))
  (@Cy _ _ _ _ _ (@BX _ _ 9 _ _ _ _ J rfl (Or.inl rfl) (@Cw _ _ _ _ _ (Aa (Af Cv (Af Ds (pv 6) Ad) Ad) (Aa (pv 7) (Aa (pv 8) Ae)))) rfl (.inl rfl))
  (@Cy _ _ _ _ _ (Bx (Bf Df (pv 2) Ad (Ac _))
   (@Ay _ _ _ _ _ (@BX _ _ 9 _ _ _ _ J rfl (Or.inl rfl) (@Cw _ _ _ _ _ (Aa Ad (Aa Ad (Aa Ad Ae)))) rfl (.inl rfl))
   (@Ak _ _ _ (Ge PassesOwn.never rfl (Ei (pv 5)) (Bb (i:=10) J rfl (Or.inl rfl))
    (@Ak _ _ _ (@BX _ _ 9 _ _ _ _ J rfl (Or.inl rfl) (BP cD hr rfl (Aa (pv 9) (Aa (pv 10) Ae))) rfl (.inl rfl))))))
   B_)
  (@Cy _ _ _ _ _ (Bx (PW.pt (Oh (Bf Df (pv 2) Ad (Ac _)) (Ol (Bf Lq (pv 1) Ad (Ac _)))))
   (@Ak _ _ _ (Ge PassesOwn.never rfl (HN rfl B.range (Aa (pv 1) Ae)) (Bb (i:=11) J rfl (Or.inl rfl))
    (@Cy _ _ _ _ _ (Bx (Bf Df (Af Cv (Af Ih (Ao BK (Ao FZ (pv 5) Ad (λ_ _=>rfl)) Ad (λ_ _=>rfl)) (Af Gf Ad (pv 11))) Ad) Ad (Ac _))
     (@Ak _ _ _ (@BX _ _ 9 _ _ _ _ J rfl (Or.inl rfl) (@Cw _ _ _ _ _ (Aa Ad (Aa Ad (Aa (Af Gf Ad (pv 11)) Ae)))) rfl (.inl rfl)))
     B_)
    (@Ak _ _ _ (Bx (Bf Df (Af Cv (Af Ih (Ao BK (Ao FZ (pv 5) Ad (λ_ _=>rfl)) Ad (λ_ _=>rfl)) (Af Gf Ad (pv 11))) Ad) Ad (Ac _))
     (@Ak _ _ _ (@BX _ _ 9 _ _ _ _ J rfl (Or.inl rfl) (@Cw _ _ _ _ _ (Aa Ad (Aa (Af Gf Ad (pv 11)) (Aa Ad Ae)))) rfl (.inl rfl)))
     B_)))))
   B_)
  (@Cy _ _ _ _ _ (Bx (Bf Df (pv 2) Ad (Ac _))
   (@Ak _ _ _ (@BX _ _ 9 _ _ _ _ J rfl (Or.inl rfl) (@Cw _ _ _ _ _ (Aa (pv 6) (Aa (Af Ds (pv 7) (Af Gf Ad (pv 1))) (Aa (pv 8) Ae)))) rfl (.inl rfl)))
   B_)
  (@Cy _ _ _ _ _ (Bx (Bf Df (pv 2) Ad (Ac _))
   (@Ak _ _ _ (@BX _ _ 9 _ _ _ _ J rfl (Or.inl rfl) (@Kh _ _ _ _ (Aa (pv 6) (Aa (pv 7) (Aa (pv 8) Ae)))) rfl (.inl rfl)))
   B_)
  (@Cy _ _ _ _ _ (Bx (Bf Df (pv 2) Ad (Ac _))
   (@Ak _ _ _ (BL (Xv Y0p rfl B.tuple Yc (Aa (pv 0) Ae))))
   B_)
  (@Cy _ _ _ _ _ (Bx (Bf Df (pv 2) Ad (Ac _))
   (@Ak _ _ _ (@BL _ _ _ _ (@Ao _ _ _ _ _ _ _ FZ (@Kh _ _ _ _ (@Aa _ _ _ _ _ Nb (@Aa _ _ _ _ _ Ad (@Aa _ _ _ _ _ Gb (@Aa _ _ _ _ _ vL (@Aa _ _ _ _ _ (@Cw _ _ _ _ _ Ae) (@Aa _ _ _ _ _ Dw (@Aa _ _ _ _ _ (@Kh _ _ _ _ Ae) (@Aa _ _ _ _ _ (Gp rfl (BW.of (Nc:=["_law_cell"]) (mp:=[none]) (by kernel_rfl)) (HN rfl B.range (Aa Ad Ae)) (λ_ _ _ _=>(Bb (i:=0) (show (["_law_cell"]:W0).Nodup by decide +kernel) rfl (Or.inl rfl))) (λ_ _ _ _=>(@Cw _ _ _ _ _ (Aa Ad (Aa Ad (Aa (Af Gf Ad (pv 0)) Ae)))))) Ae rfl) rfl) rfl) rfl) rfl) rfl) rfl) rfl)) (Af Cv (pv 3) Ad) (λ_ _=>rfl))))
   B_)
  (@Ak _ _ _ (BL (Af Ud (Af Ud (Kq Qv (pv 0) K_ (J7 (pv 4))) (@Kh _ _ _ _ (Aa (pv 9) Ae))) (Kq Qv (pv 0) (J7 (Af Ds (pv 4) Ad)) K_)))))))))))))),?_⟩
 try dsimp only[CG]
 refine⟨λσ H'=>H'=H/\∃y:Nat,y<c/\σ=[some (.ref l),some (.int c),some (.int u),some (.int g),some (.int y),none,none,none,none,none,none,none],?_,?_⟩
 ·obtain⟨y,hy,e⟩:=R9 g c1;refine⟨_,U,_,U,_,_,U,U,(show (0:Int)<(c:Int) by lia),U,y,hy,?_⟩;show List.set _ 4 (some (V.int (g%(c:Int))))=_;rw[e];rfl
 rintro σ1 H1 ⟨rfl,y,hy,rfl⟩;refine⟨λσ H'=>Same H1 H'/\∃(A:W9),H' A=some (.lst ((ps.take y++ps.drop (y+1)).map V.ref))/\σ=[some (.ref l),some (.int c),some (.int u),some (.int g),some (.int y),some (.ref A),none,none,none,none,none,none],?_,?_⟩
 ·refine⟨_,U,_,U,_,U,l,_,U,hS,λa1 h1=>?_⟩;rw[Ah.Zy (by rw[Az];lia)];have s2:=A_ h1 (.lst ((ps.map V.ref).take y));have e2:upd H1 a1 (.lst ((ps.map V.ref).take y)) a1=some (.lst ((ps.map V.ref).take y)):=Ar;generalize upd H1 a1 (.lst ((ps.map V.ref).take y))=H2 at s2 e2 ⊢;refine⟨_,U,_,U,_,_,U,U,_,U,l,_,U,s2.seq hS,λa2 h2=>?_⟩;rw[nu (i:=(y:Int)+1) (p:=y+1) (by lia)];have s3:=A_ h2 (.lst ((ps.map V.ref).drop (y+1)));have e3:upd H2 a2 (.lst ((ps.map V.ref).drop (y+1))) a2=some (.lst ((ps.map V.ref).drop (y+1))):=Ar;generalize upd H2 a2 (.lst ((ps.map V.ref).drop (y+1)))=R at s3 e3 ⊢;refine⟨a1,a2,_,_,U,U,s3 _ _ e2,e3,Hu (by rw[Gk,Ld,Az];lia),λa3 h3=>⟨(s2.trans s3).trans (A_ h3 _),a3,?_,U⟩⟩;rw[Ar,Ca,Ti,V8]
 rintro σ2 H2 ⟨S2,A,r2,rfl⟩;have MR:Bv H2 (ps.take y++ps.drop (y+1)) (ms.take y++ms.drop (y+1)):=R8 ((T.mks.same S2).take y) (Xl _ (T.mks.same S2));obtain⟨m,hm,pm⟩:=T.mks.get (Cm (show y<ps.length by lia));have om:=T.ok m (Er hm);have ay:Fg (ps.map V.ref) (y:Int)=some (.ref (ps[y]'(by lia))):=J6 (by rw[Bu,Cm (by lia)];rfl);generalize ps[y]'(by lia)=p0 at pm ay;generalize hrs:ms.take y++ms.drop (y+1)=rs at MR;refine⟨λσ H'=>H'=H2/\σ=[some (.ref l),some (.int c),some (.int u),some (.int g),some (.int y),some (.ref A),some (.int m.1),some (.int m.2.1),some (.int m.2.2),none,none,none],?_,?_⟩
 ·exact⟨_,U,_,U,l,_,_,_,U,U,S2.seq hS,ay,p0,_,U,Ai.of (S2 _ _ pm),U,_,_,U,_,_,U,_,_,U,U,U,U⟩
 rintro σ3 R ⟨rfl,rfl⟩;refine⟨Jb K R l A c y u g m rs,?_,?_⟩
 ·refine⟨_,U,_,_,U,U,_,_,U,U,Jp,_,U,_,U,t3,λt I=>⟨A_ I _,.ref t,_,_,.inl ⟨t,((m.1+1)%4,m.2.1,m.2.2),U,?_,⟨Eu _ (by decide),om.f,om.s⟩,.inl λe=>?_⟩,U⟩⟩
  ·rw[Ar];rfl
  ·have a:=T.tb.nice.even m (Er hm);have a:(m.1+pc (m.2.1&&&m.2.2))%2=0:=a;have e:((m.1+1)%4+pc (m.2.1&&&m.2.2))%2=0:=e;lia
 rintro σ4 H4 ⟨S4,v4,o,q,b4,rfl⟩;refine⟨Jb K R l A c y u g m rs,⟨_,U,U,_,U,BJ (λ_=>?_) (λ_=>⟨S4,v4,o,q,b4,U⟩)⟩,?_⟩
 ·refine⟨t3,λt I=>?_⟩;have S:=A_ I (.tup [.int 0,.int 0,.int 0]);have e5:upd H4 t (.tup [.int 0,.int 0,.int 0]) t=some (T3 (([]:List Mk).foldl mul (0,0,0))):=Ar;generalize upd H4 t (.tup [.int 0,.int 0,.int 0])=H5 at S e5 ⊢;have SL:Ag K R A ((ps.take y++ps.drop (y+1)).map V.ref):=Ag.of r2
  refine⟨_,U,A,U,⟨_,(S4.trans S).seq SL⟩,LC (K:=K) (a:=A) (xs:=(ps.take y++ps.drop (y+1)).map V.ref) (λi σ H'=>Same R H'/\∃(t:W9) (D W:Option V),H' t=some (T3 ((rs.take i).foldl mul (0,0,0)))/\Gr c ((rs.take i).foldl mul (0,0,0))/\σ=[some (.ref l),some (.int c),some (.int u),some (.int g),some (.int y),some (.ref A),some (.int m.1),some (.int m.2.1),some (.int m.2.2),some (.ref t),D,W])
   ⟨S4.trans S,t,_,_,e5,⟨(by decide:0<4),Cq c,Cq c⟩,U⟩ (λi σ H' _ e=>e.1.seq SL) ?_ ?_⟩
  ·rintro i x σ H6 Z ⟨M,t6,D,W,e6,o6,rfl⟩;rw[Bu]at Z;obtain⟨p,hp,rfl⟩:=Dt.mp Z;obtain⟨r,a5,pr⟩:=MR.get hp
   have b2:Gr c r:=T.ok r (by
    have:=Er a5
    rw[<-hrs]at this
    rcases DR.mp this with z | z
    ·exact Qf z
    ·exact Tt z)
   refine⟨_,U,_,U,t6,p,_,r,U,Ai.of e6,Ai.of (M _ _ pr),λt7 H7 Y h7=>⟨M.trans Y,t7,_,_,?_,?_,U⟩⟩
   ·rw[Gs,a5,Iu,O6];exact h7
   ·rw[Gs,a5,Iu,O6];exact⟨Eu _ (by decide),FP o6.f b2.f,FP o6.s b2.s⟩
  ·rintro σ H6 ⟨M,t6,D,W,e6,o6,rfl⟩;rw[Az,MR.length,Ia]at e6 o6;exact⟨M,.ref t6,D,W,.inl ⟨t6,_,U,e6,o6,Y5y rs⟩,U⟩
 clear S4 b4;rintro σ5 H5 ⟨S5,v5,o,q,b5,rfl⟩;refine⟨Jb K R l A c y u g m rs,⟨_,U,U,_,U,BJ (λ_=>?_) (λ_=>⟨S5,v5,o,q,b5,U⟩)⟩,?_⟩
 ·refine⟨_,U,_,_,U,U,_,U,BJ (λg1=>?_) (λ_=>⟨S5,v5,o,q,b5,U⟩)⟩;have SL:Ag K R A ((ps.take y++ps.drop (y+1)).map V.ref):=Ag.of r2;have lR:(ps.take y++ps.drop (y+1)).length=c-1:=by rw[DP,Gk,Ld];lia
  obtain⟨r0,c8,a7⟩:=MR.get (Cm (show 0<(ps.take y++ps.drop (y+1)).length by lia));have b3:=Er c8;have a0:Fg ((ps.take y++ps.drop (y+1)).map V.ref) 0=some (.ref ((ps.take y++ps.drop (y+1))[0]'(by lia))):=J6 (j:=0) (by rw[Bu,Cm (by lia)];rfl);generalize (ps.take y++ps.drop (y+1))[0]'(by lia)=q0 at a0 a7;refine⟨_,U,_,U,by lia,by lia,?_⟩;rw[FN];refine Nq (n:=c) (λi σ H'=>Jb K R l A c y u g m rs σ H') ⟨S5,v5,o,q,b5,U⟩ ?_ (λσ H' z=>z);rintro j σ H6 hj ⟨M,v6,D,W,b6,rfl⟩;have eP:(1:Int)*2^((0:Int)+(j:Int)).toNat=((2^j:Nat):Int):=by rw[H_];exact Ro j
  have pi:=Cq j;have i6:2^j<=64:=E_ (Fw (by decide) (by lia)) p6;have jc:2^j<2^c:=Jl (by decide) hj;have SQ:Ai K H6 q0 (L3 r0):=Ai.of (M _ _ a7);refine⟨λσ H'=>Same R H'/\∃(v:V) (o:Option V),Ji K H' c rs v/\σ=[some (.ref l),some (.int c),some (.int u),some (.int g),some (.int y),some (.ref A),some (.int m.1),some (.int m.2.1),some (.int m.2.2),some v,o,some (.int (0+(j:Int)))],?_,?_⟩
  ·refine⟨_,U,A,_,_,_,U,U,M.seq SL,a0,q0,_,_,_,U,U,SQ,U,_,U,_,_,U,U,⟨1,Ba.GQ,by lia,by lia⟩,_,_,U,U,⟨by rw[eP];lia,by rw[eP];lia⟩,_,_,U,U,Ja,U,_,U,BJ (λe=>?_) (λ_=>⟨M,v6,D,b6,U⟩)⟩;have bt:bit r0.2.1 j=1:=by
    have z:=V.int.inj e;rw[eP]at z;exact Int.ofNat.inj z
   refine⟨_,U,_,_,U,U,⟨1,Ba.GQ,by lia,by lia⟩,t3,λt I=>⟨M.trans (A_ I _),.ref t,D,.inl ⟨t,(0,0,2^j),U,?_,⟨(by decide:0<4),Cq c,jc⟩,X6r b3 bt⟩,U⟩⟩;rw[Ar];exact congrArg (λz=>some (HO.tup [V.int 0,V.int 0,V.int z])) eP
  rintro σ7 H7 ⟨Y,v7,c9,b7,rfl⟩;have c4:Ai K H7 q0 (L3 r0):=Ai.of (Y _ _ a7);refine⟨_,U,A,_,_,_,U,U,Y.seq SL,a0,q0,_,_,_,U,U,c4,U,_,U,_,_,U,U,⟨1,Ba.GQ,by lia,by lia⟩,_,_,U,U,⟨by rw[eP];lia,by rw[eP];lia⟩,_,_,U,U,Ja,U,_,U,BJ (λe=>?_) (λ_=>⟨Y,v7,_,_,b7,U⟩)⟩;have bt:bit r0.2.2 j=1:=by
   have z:=V.int.inj e;rw[eP]at z;exact Int.ofNat.inj z
  refine⟨_,U,_,_,U,U,⟨1,Ba.GQ,by lia,by lia⟩,t3,λt I=>⟨Y.trans (A_ I _),.ref t,_,_,.inl ⟨t,(0,2^j,0),U,?_,⟨(by decide:0<4),jc,Cq c⟩,X6s b3 bt⟩,U⟩⟩;rw[Ar];exact congrArg (λz=>some (HO.tup [V.int 0,V.int z,V.int 0])) eP
 clear S5 b5;rintro σ6 H6 ⟨M,v6,o,q,b6,rfl⟩;refine⟨Jb K R l A c y u g m rs,⟨_,U,U,_,U,BJ (λ_=>?_) (λ_=>⟨M,v6,o,q,b6,U⟩)⟩,?_⟩
 ·refine⟨_,rfl,_,rfl,_,rfl,_,_,rfl,rfl,⟨1,Ba.GQ,by lia,by lia⟩,_,_,rfl,rfl,_,rfl,t3,λt I=>⟨M.trans (A_ I _),.ref t,o,q,.inr (.no (Ah.W7c Ar (Ah.Part.int _) (Ah.Part.int _) (Ah.Part.int _) (.inr (.inl ?_)))),U⟩⟩;exact Dh λz=>absurd z.2 (by rw[Ro];lia)
 clear M b6;rintro σ7 H7 ⟨Y,v7,o,q,b7,rfl⟩;refine⟨Jb K R l A c y u g m rs,⟨_,U,U,_,U,BJ (λ_=>?_) (λ_=>⟨Y,v7,o,q,b7,U⟩)⟩,?_⟩
 ·exact⟨_,U,_,U,_,U,t3,λt I=>⟨Y.trans (A_ I _),.ref t,o,q,.inr (.no (.odd (Bj.lst Ar) (Ah.W2z K))),U⟩⟩
 clear Y b7;rintro σ8 H8 ⟨S8,v8,o,q,b8,rfl⟩;have a8:=S2.trans S8;refine⟨Jb K R l A c y u g m rs,⟨_,U,U,_,U,BJ (λ_=>⟨_,U,l,_,U,.inl ⟨a8.seq hS,λt I=>kq (.ref t) _ (a8.trans (A_ I _)) (.odd (Bj.tup Ar) (Ah.xT K))⟩⟩) (λ_=>⟨S8,v8,o,q,b8,U⟩)⟩,?_⟩;clear S8 b8 a8;rintro σ9 H9 ⟨S9,v9,o,q,b9,rfl⟩;have a9:=S2.trans S9;refine⟨Jb K R l A c y u g m rs,⟨_,U,U,_,U,BJ (λ_=>?_) (λ_=>⟨S9,v9,o,q,b9,U⟩)⟩,?_⟩
 ·refine λd hd=>?_;have s1:=A_ hd (.dK []);have e1:upd H9 d (.dK []) d=some (.dK []):=Ar;generalize upd H9 d (.dK [])=Ha at s1 e1 ⊢;refine⟨Ed _,λt I=>?_⟩;have s2:=A_ I (.tup []);have e2:upd Ha t (.tup []) t=some (.tup []):=Ar;generalize upd Ha t (.tup [])=Hb at s2 e2 ⊢;refine⟨Ed _,λn hn=>?_⟩;have s3:=A_ hn (.lst []);have e3:upd Hb n (.lst []) n=some (.lst []):=Ar;generalize upd Hb n (.lst [])=Hc at s3 e3 ⊢;refine⟨_,U,by decide,by decide,λacc a4=>?_⟩;refine SN (n:=7) (fr:=[]) (λi ys H'=>Same Hc H'/\H' acc=some (.lst ys)) (by decide) ⟨A_ a4 _,Ar⟩ ?_ ?_
  ·rintro i ys H2 N hi hy ⟨O,a2⟩ kN;refine⟨_,U,_,_,U,U,⟨1,Ba.GQ,by lia,by lia⟩,t3,λr hr=>kN (.ref r) _ (A_ hr _ _ _ a2) ⟨Dj (O.trans (A_ hr _)) a4,Ar⟩⟩
  rintro ys H2 hy ⟨O,a2⟩;refine⟨(show 8<=sizeLine by decide),λL hL=>?_⟩;have S:=A_ hL (.lst [.non,.int 0,.str "",.ref d,.ref t,.bl true,.ref n,.ref acc]);have e5:upd H2 L (.lst [.non,.int 0,.str "",.ref d,.ref t,.bl true,.ref n,.ref acc]) L=some (.lst [.non,.int 0,.str "",.ref d,.ref t,.bl true,.ref n,.ref acc]):=Ar;have ed:=S _ _ (O _ _ (s3 _ _ (s2 _ _ e1)));have et:=S _ _ (O _ _ (s3 _ _ e2));have en:=S _ _ (O _ _ e3);have ea:=S _ _ a2;have SZ:=a9.trans ((s1.trans s2).trans (s3.trans (O.trans S)));generalize upd H2 L (.lst [.non,.int 0,.str "",.ref d,.ref t,.bl true,.ref n,.ref acc])=Hz at e5 ed et en ea SZ ⊢;obtain⟨z,hz,ez⟩:=R9 g (show 0<8 by decide);have C:∀v,Fg [V.non,.int 0,.str "",.ref d,.ref t,.bl true,.ref n,.ref acc] (z:Int)=some v->Fb K Hz v->∃v,Fg [V.non,.int 0,.str "",.ref d,.ref t,.bl true,.ref n,.ref acc] (g%8)=some v/\Fb K Hz v:=λv hv no=>⟨v,by rw[show g%8=(z:Int) from ez];exact hv,no⟩;obtain⟨v,hv,no⟩:∃v,Fg [V.non,.int 0,.str "",.ref d,.ref t,.bl true,.ref n,.ref acc] (g%8)=some v/\Fb K Hz v:=by
   have:z=0\/z=1\/z=2\/z=3\/z=4\/z=5\/z=6\/z=7:=by lia
   rcases this with rfl | rfl | rfl | rfl | rfl | rfl | rfl | rfl
   ·exact C _ rfl (.odd Bj.non (Ah.W2y K))
   ·exact C _ rfl (.odd (Bj.int 0) (Ah.W3a K))
   ·exact C _ rfl (.odd (Bj.str "") (Ah.W2x K))
   ·exact C _ rfl (.odd (Bj.dK ed) (Ah.W3b K))
   ·exact C _ rfl (.odd (Bj.tup et) (Ah.xT K))
   ·exact C _ rfl (.odd (Bj.bl true) (Ah.X8x K))
   ·exact C _ rfl (.many en (.inl (by decide)))
   ·exact C _ rfl (.many ea (.inr (by lia)))
  exact⟨_,U,_,_,U,U,(show (0:Int)<8 by decide),L,_,_,v,U,U,Ag.of e5,hv,kq v Hz SZ no⟩
 clear S9 b9 a9;rintro d1 c2 ⟨c5,v,o,q,c7,rfl⟩;have a6:=S2.trans c5;refine⟨_,U,_,U,_,U,l,_,U,a6.seq hS,λl1 h1=>?_⟩;rw[Ah.Zy (by rw[Az];lia)];have s2:=A_ h1 (.lst ((ps.map V.ref).take y));have e2:upd c2 l1 (.lst ((ps.map V.ref).take y)) l1=some (.lst ((ps.map V.ref).take y)):=Ar;generalize upd c2 l1 (.lst ((ps.map V.ref).take y))=Ha at s2 e2 ⊢;refine⟨_,U,(show 1<=sizeLine by decide),λl2 h2=>?_⟩;have s3:=A_ h2 (.lst [v]);have e3:upd Ha l2 (.lst [v]) l2=some (.lst [v]):=Ar;generalize upd Ha l2 (.lst [v])=Hb at s3 e3 ⊢;refine⟨l1,l2,_,_,U,U,s3 _ _ e2,e3,Hu (by rw[Gk,Az,Qg];lia),λl3 h3=>?_⟩;have s4:=A_ h3 (.lst ((ps.map V.ref).take y++[v]));have e4:upd Hb l3 (.lst ((ps.map V.ref).take y++[v])) l3=some (.lst ((ps.map V.ref).take y++[v])):=Ar;generalize upd Hb l3 (.lst ((ps.map V.ref).take y++[v]))=Hc at s4 e4 ⊢;have c0:=(s2.trans s3).trans s4;refine⟨_,U,_,U,_,_,U,U,_,U,l,_,U,(a6.trans c0).seq hS,λl4 h4=>?_⟩;rw[nu (i:=(y:Int)+1) (p:=y+1) (by lia)];have S:=A_ h4 (.lst ((ps.map V.ref).drop (y+1)));have e5:upd Hc l4 (.lst ((ps.map V.ref).drop (y+1))) l4=some (.lst ((ps.map V.ref).drop (y+1))):=Ar;generalize upd Hc l4 (.lst ((ps.map V.ref).drop (y+1)))=Hd' at S e5 ⊢;have lt:((ps.map V.ref).take y).length=y:=by rw[Gk,Az];lia
 have ld:((ps.map V.ref).drop (y+1)).length=c-(y+1):=by rw[Ld,Az];lia
 refine⟨l3,l4,_,_,U,U,S _ _ e4,e5,Hu (by rw[DP,lt,ld,Qg];lia),λl5 h5=>?_⟩;have s6:=A_ h5 (.lst ((ps.map V.ref).take y++[v]++(ps.map V.ref).drop (y+1)));have e6:upd Hd' l5 (.lst ((ps.map V.ref).take y++[v]++(ps.map V.ref).drop (y+1))) l5=some (.lst ((ps.map V.ref).take y++[v]++(ps.map V.ref).drop (y+1))):=Ar;generalize upd Hd' l5 (.lst ((ps.map V.ref).take y++[v]++(ps.map V.ref).drop (y+1)))=Hz at s6 e6 ⊢;have SX:=c0.trans (S.trans s6);have SS:=a6.trans SX;have ll:((ps.map V.ref).take y++[v]++(ps.map V.ref).drop (y+1)).length=c:=by rw[DP,DP,lt,ld,Qg];lia
 have MT:=T.mks.same SS;refine kq _ Hz SS (.tab e6 (by rw[ll];exact c1) (by rw[ll];exact c6) ?_);rw[ll];have b1:∀x∈ms.take y,Gr c x:=λx Z=>T.ok x (Qf Z);have b0:∀x∈ms.drop (y+1),Gr c x:=λx Z=>T.ok x (Tt Z);rcases c7.same SX with ⟨r,m',rfl,hr3,ok3,sp3⟩ | te
 ·have el:(ms.take y).length=y:=by rw[Gk];lia
  have e1:ins rs y m'=ms.take y++[m']++ms.drop (y+1):=by
   unfold ins;rw[<-hrs,List.take_append_of_le_length (by lia),Tv (by lia),List.drop_append_of_le_length (by lia),qL (by lia),List.nil_append]
  have d2:rs.length=c-1:=by rw[<-hrs,DP,Ld,el];lia
  refine .marks (ps:=ps.take y++[r]++ps.drop (y+1)) (ms:=ins rs y m') ?_ ?_ (by rw[Ah.X9d (by lia)];lia) (Ah.X9f (λx Z=>?_) ok3) (λb t=>sp3.no (by lia) t)
  ·rw[e6,Ca,Ca,Ti,V8];rfl
  ·rw[e1];exact R8 (R8 (MT.take y) (.cons hr3 .nil)) (Xl _ MT)
  ·rw[<-hrs]at Z;rcases DR.mp Z with z | z
   ·exact b1 x z
   ·exact b0 x z
 ·refine .item (bs:=(ms.take y).map Li++[false]++(ms.drop (y+1)).map Li) e6 (by rw[ll];lia) ?_ ?_
  ·rw[<-Ti,<-V8];exact Rj (Rj (M7 (MT.take y) b1) (.cons te .nil)) (M7 (Xl _ MT) b0)
  ·rw[Yp,Yp];simp
end
end Ax
namespace Ax
open L2 Am Pc Ba
open DG (Mk)
open Bh (vec V6 CK Ck ev)
open Ah (T3 L3 Bv)
open Ci (Kp Nv)
theorem M_{K:U0}{a:W9}{od:W5}{sl:W4}{n:Nat}{v1 v2 v3 v4 v5:Int}{t1 t2 t3 t4 t5:Tok}(h:K.lookup a=some ⟨.type "tuple",od,.seq #[.int v1 t1,.int v2 t2,.int v3 t3,.int v4 t4,.int v5 t5] n,sl⟩)(H:Hp):Dp K H a ((v1,v2,v3,v4),v5):=
 .inr ⟨_,_,_,h,U,U,(show 5<=sizeLine by decide),.cons ⟨_,U⟩ (.cons ⟨_,U⟩ (.cons ⟨_,U⟩ (.cons ⟨_,U⟩ (.cons ⟨_,U⟩ .nil))))⟩
variable{c:Nat}{f:Nat->A5}
theorem W1z(h:U_ c f):YH c f:=λi hi z=>by
 have o:=(h i hi).odd;rw[z]at o;simp only at o;lia
variable{S:List Mk}
theorem TX.red(h:TX c f S):Bh.Red (S.map vec) (S.map Ck):=by
 obtain⟨R,_,D,_⟩:=h.ex;exact D.red h.rise
theorem TX.kr(hc:c<=6)(nz:Nv c f)(h:TX c f S):Ci.Kr c f S:=by
 obtain⟨R,k,D,l⟩:=h.ex;exact k.red hc nz D h.rise l
theorem TX.len{ms:List Mk}(hc:c<=6)(nz:Nv c f)(h:TX c f S)(I:CT.Indep ms)(o:∀r∈ms,Ci.Ok c r/\Kp c f r)(l:ms.length=c):S.length=c:=by
 obtain⟨R,k,D,e⟩:=h.ex;have T:=k.ks.tb hc nz;have a:=KD.W2t I o k;have b:=KD.W2s hc BZ.hbd (KD.yO (λr d=>(k.ks.ok r d).1) T.nice T.ind);lia
section
variable {P:U8}{w:W1}{K:U0}{mg:U4}{base:Heap}{k:Nat}{h:Heap}
theorem Ml:CW ["_law_script","_law_head","_law_cells","_law_rows","_law_kept","_law_board","_law_told"] ["_law_script"] (Dy (top 101)):=fS
theorem W2g{n:Nat}(hn:n<=63){f:W9}{fd:FuncData}(F:au K "law" "law" (top 101) f fd)(B:Bs mg)(c7:Aj P w K mg base k "_law_cell_at" ["_law_script","_law_k"] (Im K))(dA:Aj P w K mg base k "_law_cells_by" ["_law_cell"] uD)(dC:Aj P w K mg base k "_law_table_by" ["_law_script","_law_cells"] (uR K))(d7:Aj P w K mg base k "_law_any_table" ["_law_script","_law_cells"] (QW K))(gG:Aj P w K mg base k "spread" ["rows"] (vZ K))(dB:Aj P w K mg base k "_law_is_board" ["_law_found","_law_many"] (Mg K))(dW:Aj P w K mg base k "_law_plain" ["_law_board"] (vW K))
  (cS:Aj P w K mg base k "_law_keeps" ["_law_board","_law_mark"] (uG K)) (eZ:Aj P w K mg base k "keepers" ["board"] (MP K)) (cW:Aj P w K mg base k "_law_is_reduced" ["_law_rows","_law_cells"] uF) (dL:Aj P w K mg base k "_law_refused" ["_law_thing"] (Ah.MK K)) (dM:Aj P w K mg base k "_law_spoiled" ["_law_rows","_law_cells","_law_way","_law_at"] (QL K)):
  Ec P w K mg base N8 (k+1) f fd ["_law_script"] (KN K n):=by
 have nd:=Ml.nd;refine F.ok Ml (λvs H Q E' h=>?_) (λc3 A outer s H vs Q E' d h=>?_)
 ·obtain⟨a,ns,rfl,_⟩:=h;rfl
 obtain⟨E,ns,rfl,hS,c9,lt,b5⟩:=h
 refine⟨_,(@Cy _ _ _ _ _ (@BX _ _ 1 _ _ _ _ nd rfl (Or.inl rfl) (BP c7 d rfl (Aa (pv 0) (Aa Ad Ae))) rfl (.inl rfl))
  (@Cy _ _ _ _ _ (@BX _ _ 2 _ _ _ _ nd rfl (Or.inl rfl) (BP dA d rfl (Aa (pv 1) Ae)) rfl (.inl rfl))
  (@Cy _ _ _ _ _ (@BX _ _ 3 _ _ _ _ nd rfl (Or.inl rfl) (BP dC d rfl (Aa (pv 0) (Aa (pv 2) Ae))) rfl (.inl rfl))
  (@Cy _ _ _ _ _ (Bx (PW.pt (Oh (Bf J5 (pv 2) Ad (Ac _)) (Ol (Bf Df (Af Cv (Af Ih (pv 1) Ad) Ad) Ad (Ac _)))))
   (@Ak _ _ _ (@BX _ _ 3 _ _ _ _ nd rfl (Or.inl rfl) (BP d7 d rfl (Aa (pv 0) (Aa (pv 2) Ae))) rfl (.inl rfl)))
   B_)
  (@Ay _ _ _ _ _ (@BX _ _ 4 _ _ _ _ nd rfl (Or.inl rfl) (Xv rY rfl B.list OD (Aa (pv 3) Ae)) rfl (.inl rfl))
  (@Ay _ _ _ _ _ (@BX _ _ 5 _ _ _ _ nd rfl (Or.inr rfl) (BP gG d rfl (Aa (pv 3) Ae)) rfl (.inl rfl))
  (@Ay _ _ _ _ _ (Bx (PW.pt (Es (Eh (DW (BP dB d rfl (Aa (pv 5) (Aa (Af Gf Ad (pv 2)) Ae))))) (Hg (Eh (DW (BP dW d rfl (Aa (pv 5) Ae)))))))
   (@Ak _ _ _ (BL Dw))
   B_)
  (@Ay _ _ _ _ _ (Bx (PW.pt (Es (Eh (DW (CJ (J9 rfl) rfl B.all Jx (Aa (Gp rfl (BW.of (Nc:=["_law_mark","_law_board"]) (mp:=[none,some 5]) (by kernel_rfl)) (Ei (pv 4)) (λ_ _ _ _=>(Bb (i:=0) (show (["_law_mark","_law_board"]:W0).Nodup by decide +kernel) rfl (Or.inl rfl))) (λ_ _ _ _=>(BP cS d rfl (Aa (pv 1) (Aa (pv 0) Ae))))) Ae)))) (Hg (Bf (X7g d.units) (pv 3) (pv 4) (Ac _)))))
   (@Ak _ _ _ (BL Dw))
   B_)
  (@Ay _ _ _ _ _ (@BX _ _ 6 _ _ _ _ nd rfl (Or.inl rfl) (BP eZ d rfl (Aa (pv 5) Ae)) rfl (.inl rfl))
  (@Ay _ _ _ _ _ (Bx (PW.pt (Es (Eh (DW (BP cW d rfl (Aa (pv 6) (Aa (pv 2) Ae))))) (Hg (Bf Hs (CJ GP rfl B.len Fv (Aa (pv 6) Ae)) (pv 2) (Ac _)))))
   (@Ak _ _ _ (BL Dw))
   B_)
  (@Ay _ _ _ _ _ (Bx (Eh (DW (CJ (J9 rfl) rfl B.all Jx (Aa (Gp rfl (BW.of (Nc:=["_law_mark","_law_board"]) (mp:=[none,some 5]) (by kernel_rfl)) (Ei (pv 6)) (λ_ _ _ _=>(Bb (i:=0) (show (["_law_mark","_law_board"]:W0).Nodup by decide +kernel) rfl (Or.inl rfl))) (λ_ _ _ _=>(BP cS d rfl (Aa (pv 1) (Aa (pv 0) Ae))))) Ae))))
   (@Ak _ _ _ (BL Dw))
   B_)
  (@Ay _ _ _ _ _ (Ni (Uw Tw Tz T_ Qx (pv 5) (Aa Ad Ae)))
  (@Ak _ _ _ (BL (K9 (HD (X7j d.units) (pv 3) (pv 4) (Ac _)) (Kl (BP dL d rfl (Aa (BP dM d rfl (Aa (pv 4) (Aa (pv 2) (Aa (Af Cv (Af Ih (pv 1) Ad) Ad) (Aa (BP c7 d rfl (Aa (pv 0) (Aa Ad Ae))) Ae))))) Ae)))))))))))))))))),?_⟩
 try dsimp only[CG]
 refine⟨λσ H'=>H'=H/\∃hd:Int,σ=[some (.ref E),some (.int hd),none,none,none,none,none],⟨_,U,E,ns,_,U,hS,by lia,U,_,U⟩,?_⟩;rintro σ1 H1 ⟨rfl,hd,rfl⟩;refine⟨λσ H'=>H'=H1/\∃c:Nat,1<=c/\c<=6/\σ=[some (.ref E),some (.int hd),some (.int c),none,none,none,none],⟨_,U,hd,U,λc c1 c6=>⟨U,c,c1,c6,U⟩⟩,?_⟩;rintro σ2 H2 ⟨rfl,c,c1,c6,rfl⟩;have p6:=GZ c6;have J:∀(H':Hp) (j:W9) (ps:U3) (ms:List Mk),Same H2 H'->Ft H' j ps ms c->Same H2 H'/\∃(lr':W9) (ps':U3) (ms':List Mk),Ft H' lr' ps' ms' c/\[some (V.ref E),some (.int hd),some (.int c),some (.ref j),none,none,none]=[some (.ref E),some (.int hd),some (.int c),some (.ref lr'),none,none,none]:=λH' j ps ms S F=>⟨S,j,ps,ms,F,U⟩;refine⟨λσ H'=>Same H2 H'/\∃(j:W9) (ps:U3) (ms:List Mk),Ft H' j ps ms c/\σ=[some (.ref E),some (.int hd),some (.int c),some (.ref j),none,none,none],⟨_,U,_,U,E,ns,c,U,hS,by lia,c1,c6,λr H' ps ms S F=>J H' r ps ms S F⟩,?_⟩;rintro σ3 H3 ⟨S3,d1,d0,c8,F3,rfl⟩;refine⟨λσ H'=>Same H2 H'/\∃(j:W9) (ps:U3) (ms:List Mk),Ft H' j ps ms c/\σ=[some (.ref E),some (.int hd),some (.int c),some (.ref j),none,none,none],⟨_,U,_,_,U,U,_,U,BJ (λc4=>⟨_,U,_,_,U,U,⟨by decide,by decide⟩,_,_,U,U,(show (0:Int)<2 by decide),U,_,U,BJ (λ_=>?_) (λ_=>J _ _ _ _ S3 F3)⟩) (λ_=>J _ _ _ _ S3 F3)⟩,?_⟩
 ·exact⟨_,U,_,U,E,ns,c,U,S3.seq hS,c1,by lia,λr H' ps ms S F=>J H' r ps ms (S3.trans S) F⟩
 clear F3 S3 J;rintro σ4 H4 ⟨S4,j,ps,ms,F4,rfl⟩;have T4:=F4.t;have G:=F4.len;have c0:ps.length=c:=by rw[T4.mks.length,G]
 have hR:Ag K H4 j (ps.map V.ref):=Ag.of T4.lst;refine⟨_,U,j,_,U,.inl hR,λI hk=>?_⟩;have s5:=A_ hk (.lst (ps.map V.ref));have k5:upd H4 I (.lst (ps.map V.ref)) I=some (.lst (ps.map V.ref)):=Ar;generalize upd H4 I (.lst (ps.map V.ref))=H5 at s5 k5 ⊢;have T5:=T4.same s5;refine⟨_,U,j,ps,ms,c,U,T5,G,c1,c6,λu H6 W g fr S6 BD SP=>?_⟩;obtain⟨S0,w0,m0,Y,sb,b7,lo,DM,m6⟩:=id SP.ex;have nv:Nv c g:=KD.W5g sb b7;have oz:YH c g:=W1z λw hw=>(BD.ok w hw).amt;have a8:∀m∈ms,Ci.Ok c m/\Kp c g m:=λm hm=>⟨⟨(T4.ok m hm).q,(T4.ok m hm).f,(T4.ok m hm).s⟩,KD.W5h Y sb (DM.back m hm)⟩;refine⟨_,U,_,U,_,_,U,U,⟨1,Ba.GQ,by lia,by lia⟩,u,W,g,c,800,50,_,U,Ro c,BD,c6,λH7 S7=>⟨_,U,CQ ⟨_,U,u,W,g,c,ms,U,BD.same S7,c6,SP,λH8 S8=>⟨_,U,CQ ?_⟩⟩⟩⟩;have a2:=(S6.trans S7).trans S8;have k8:=a2 _ _ k5;have T8:=T5.same a2;have BO:Bo K H8 u W g c:=⟨(S7.trans S8) _ _ BD.lst,BD.len,(BD.same (S7.trans S8)).vals⟩;have SK:Ag K H8 I (ps.map V.ref):=Ag.of k8;refine⟨_,U,I,U,⟨_,SK⟩,λacc R=>?_⟩;refine Lw (K:=K) (a:=I) (xs:=ps.map V.ref) (fr:=[some (.ref u)]) (λi ys H'=>Same H8 H'/\H' acc=some (.lst ys)/\ys=(List.replicate i true).map V.bl) (Hu (by rw[Az];lia)) ⟨A_ R _,Ar,U⟩ (λi ys H' e=>e.1.seq SK) ?_ ?_
 ·rintro i x ys H9 N hx hy ⟨O,a9,rfl⟩ kN;rw[Bu]at hx;obtain⟨p,hp,rfl⟩:=Dt.mp hx;obtain⟨m,a4,pm⟩:=T8.mks.get hp;obtain⟨om,km⟩:=a8 m (Er a4);refine⟨_,U,_,U,u,p,W,g,c,m,U,BO.same O,c6,Ai.of (O _ _ pm),om.f,λb b8 y hb=>?_⟩;rw[hb.mpr km];refine kN _ _ (y _ _ a9) ⟨Dj (O.trans y) R,Ar,?_⟩;rw[f9,Ca];rfl
 rintro ys H9 hy ⟨O,a9,rfl⟩;refine⟨acc,_,U,Ag.of a9,_,U,Gw (λz=>absurd z (by rw[nR];exact GJ)) (λ_=>?_)⟩;have T9:=T8.same O;have k9:=O _ _ k8;refine⟨_,U,_,U,j,I,ps,ps,_,_,U,U,T9.lst,k9,T9.mks.rows,T9.mks.rows,_,U,Gw (λz=>absurd z (by simp)) (λ_=>?_)⟩;have a3:=BO.same O;refine⟨_,U,u,W,g,c,U,a3,c1,c6,oz,nv,λo b8 qt T b9 y b2 MT KT=>?_⟩;have TR:=KT.kr c6 nv;have lT:=KT.len c6 nv T4.tb.ind a8 G;refine⟨_,U,_,U,o,qt,T,c,U,b2,MT,λm hm=>⟨(TR.ok m hm).1,(TR.ok m hm).2.2⟩,KT.red,TR.len,c6,λb1 L=>⟨_,U,CQ ?_⟩⟩;have b4:=L _ _ b2;have SR:Ag K b1 o (qt.map V.ref):=Ag.of b4;have M:=MT.same L;have lq:(qt.map V.ref).length=c:=by rw[Az,M.length,lT]
 refine⟨_,U,o,_,U,.inl SR,_,U,U,_,U,Ho (λz=>absurd (by rw[lq]) z) (λ_=>?_)⟩;have a7:=a3.same (y.trans L);refine⟨_,U,o,U,⟨_,SR⟩,λX C=>?_⟩;refine Lw (K:=K) (a:=o) (xs:=qt.map V.ref) (fr:=[some (.ref u)]) (λi ys H'=>Same b1 H'/\H' X=some (.lst ys)/\ys=(List.replicate i true).map V.bl) (Hu (by rw[lq];lia)) ⟨A_ C _,Ar,U⟩ (λi ys H' e=>e.1.seq SR) ?_ ?_
 ·rintro i x ys a1 N hx hy ⟨D,a0,rfl⟩ kN;rw[Bu]at hx;obtain⟨p,hp,rfl⟩:=Dt.mp hx;obtain⟨m,a4,pm⟩:=M.get hp;obtain⟨om,km,em⟩:=TR.ok m (Er a4);refine⟨_,U,_,U,u,p,W,g,c,m,U,a7.same D,c6,Ai.of (D _ _ pm),om.f,λb b3 l hb=>?_⟩;rw[hb.mpr km];refine kN _ _ (l _ _ a0) ⟨Dj (D.trans l) C,Ar,?_⟩;rw[f9,Ca];rfl
 rintro ys a1 hy ⟨D,a0,rfl⟩;refine⟨X,_,U,Ag.of a0,_,U,Gw (λz=>absurd z (by rw[nR];exact GJ)) (λ_=>?_)⟩;have Z:=(y.trans L).trans D;have a6:=(a3.same Z).lst;have b0:=(a2.trans O).trans Z;refine⟨_,U,.inl ⟨U,_,Ag.of a6⟩,u,_,_,U,U,a6,(by rw[Az,BD.len];exact Cu (show 2^c<129 by lia) (by decide)),?_⟩;have l:Same H5 (upd a1 u (.lst (W.map V.ref++[.int 5]))):=Dj b0 fr;generalize upd a1 u (.lst (W.map V.ref++[.int 5]))=b3 at l ⊢;have Nu:=T5.same l;have a5:=l _ _ k5;refine⟨_,U,_,U,j,I,ps,ps,_,_,U,U,Nu.lst,a5,Nu.mks.rows,Nu.mks.rows,_,U,Gw (λ_=>?_) (λz=>absurd z (by simp))⟩;refine⟨_,U,_,U,_,U,_,_,U,U,⟨by decide,by decide⟩,_,_,U,U,(show (0:Int)<7 by decide),_,U,E,ns,_,U,((S4.trans s5).trans l).seq hS,by decide,I,ps,ms,c,_,_,U,⟨⟨a5,Nu.mks,Nu.ok,Nu.tb,Nu.len⟩,G⟩,c1,c6,λv c2 c5 no=>?_⟩;exact⟨v,U,no,λb6 _=>b5 b6⟩
end
end Ax
noncomputable section
namespace Ax
open L2 Ba
variable{l:PySem.W.OpenLaw}
theorem W4p{w:W1}{K:U0}{h:Heap}{mg:U4}{fa f:W9}(X:K.In h)(G:Ng h mg)(hfa:mg "law"=some (.ref fa))
  {od an:W5}{sl:W4}{oc kV dc pm cd ct:W2}{aO aZ Dd aP C D A_NeverSo A_NoAmount A_NoBoard A_NoCell A_NoMark A_NoMove A_NoShare A_NoText A_NotBorne A_Unguarded:W9}{bm bm2:U5}{odO odZ odD odP:W5}{slO slZ slD slP:W4}{ocD:W2}{nO nZ nD nP:Nat}{d0 o1 o2 o3 o4 o5 y1 y2 y3 y4 y5 q0 q1 q2 tF tM:Tok}
  (aL:PySem.W.nsIn K mainGlobals "law"=some (some (.ref f))) (lL:K.lookup f=some ⟨oc,od,.func (PySem.W.fnOf "law" "law" (Hh (top 101)) (Gq (top 101)) (Dy (top 101)) .none kV dc pm an cd ct),sl⟩) (cL:PySem.W.codeIn K cd "law"=true) (kL:PySem.W.keepIn K (.ref f)=true)
  (t14:Ab K "is_whole" (top 14) .none)
  (t16:Ab K "halved_out" (top 16) .none)
  (t17:Ab K "plus" (top 17) .none)
  (t18:Ab K "spun" (top 18) .none)
  (t19:Ab K "spun_once" (top 19) .none)
  (t20:Ab K "rooted" (top 20) .none)
  (t22:Ab K "ones" (top 22) .none)
  (t23:Ab K "is_word" (top 23) .none)
  (t24:Ab K "is_mark" (top 24) .none)
  (t25:Ab K "is_even" (top 25) .none)
  (t26:Ab K "is_even_mark" (top 26) .none)
  (t27:Ab K "commute" (top 27) .none)
  (t28:Ab K "product" (top 28) .none)
  (t29:Ab K "turned_about" (top 29) .none)
  (t34:Ab K "start" (top 34) (.ref Dd))
  (t35:Ab K "check_beginning" (top 35) .none)
  (t36:Ab K "cells_of" (top 36) .none)
  (t37:Ab K "laid_on" (top 37) .none)
  (t38:Ab K "spun_by_mark" (top 38) .none)
  (t40:Ab K "solved" (top 40) .none)
  (t41:Ab K "cleared" (top 41) .none)
  (t42:Ab K "places_at_one" (top 42) .none)
  (t43:Ab K "solution" (top 43) .none)
  (t47:Ab K "is_table" (top 47) .none)
  (t48:Ab K "commutes_with_all" (top 48) .none)
  (t49:Ab K "check_table" (top 49) .none)
  (t50:Ab K "reduced" (top 50) .none)
  (t51:Ab K "without_lead" (top 51) .none)
  (t52:Ab K "lead" (top 52) .none)
  (t53:Ab K "least_cell" (top 53) .none)
  (t54:Ab K "has_at_lead" (top 54) .none)
  (t55:Ab K "made_of" (top 55) .none)
  (t56:Ab K "rows_with" (top 56) .none)
  (t57:Ab K "product_of" (top 57) .none)
  (t58:Ab K "apart_by" (top 58) .none)
  (t60:Ab K "spread" (top 60) .none)
  (t61:Ab K "left_by_signs" (top 61) .none)
  (t62:Ab K "keepers" (top 62) .none)
  (t63:Ab K "keepers_with" (top 63) .none)
  (Hu:Ab K "spins_on" (top 64) .none)
  (t65:Ab K "has_spins" (top 65) .none)
  (t67:Ab K "exchanged" (top 67) .none)
  (t69:Ab K "borne" (top 69) .none)
  (t70:Ab K "is_borne" (top 70) .none)
  (t71:Ab K "is_odd_turn" (top 71) .none)
  (t72:Ab K "moved_rows" (top 72) .none)
  (t73:Ab K "check_borne" (top 73) .none)
  (t74:Ab K "moved_through" (top 74) .none)
  (t75:Ab K "moved_by" (top 75) .none)
  (t76:Ab K "moved_by_mix" (top 76) .none)
  (t77:Ab K "moved_by_turn" (top 77) .none)
  (t78:Ab K "moved_by_if" (top 78) .none)
  (t79:Ab K "moved_by_pair" (top 79) .none)
  (t81:Ab K "_law_cell_at" (top 81) .none)
  (t82:Ab K "_law_whole" (top 82) .none)
  (t83:Ab K "_law_cells_by" (top 83) .none)
  (t84:Ab K "_law_low" (top 84) .none)
  (t85:Ab K "_law_spin" (top 85) .none)
  (t87:Ab K "_law_bits" (top 87) .none)
  (t88:Ab K "_law_move_by" (top 88) .none)
  (t89:Ab K "_law_plain_row" (top 89) .none)
  (t90:Ab K "_law_keeps" (top 90) .none)
  (t91:Ab K "_law_lead" (top 91) .none)
  (t92:Ab K "_law_is_mark" (top 92) .none)
  (t93:Ab K "_law_is_reduced" (top 93) .none)
  (t94:Ab K "_law_product" (top 94) .none)
  (t95:Ab K "_law_table_by" (top 95) .none)
  (t96:Ab K "_law_any_table" (top 96) .none)
  (t97:Ab K "_law_spoiled" (top 97) .none)
  (t98:Ab K "_law_refused" (top 98) .none)
  (t99:Ab K "_law_is_board" (top 99) .none)
  (t100:Ab K "_law_plain" (top 100) .none)
  (z0:PySem.W.nsIn K mainGlobals "isinstance"=some none)
  (z1:PySem.W.nsIn K mainGlobals "int"=some none)
  (z2:PySem.W.nsIn K mainGlobals "bool"=some none)
  (z3:PySem.W.nsIn K mainGlobals "tuple"=some none)
  (z4:PySem.W.nsIn K mainGlobals "list"=some none)
  (z5:PySem.W.nsIn K mainGlobals "len"=some none)
  (z6:PySem.W.nsIn K mainGlobals "range"=some none)
  (z7:PySem.W.nsIn K mainGlobals "all"=some none)
  (z8:PySem.W.nsIn K mainGlobals "any"=some none)
  (z9:PySem.W.nsIn K mainGlobals "max"=some none)
  (z10:PySem.W.nsIn K mainGlobals "min"=some none)
  (z11:PySem.W.nsIn K mainGlobals "zip"=some none)
  (z12:PySem.W.nsIn K mainGlobals "set"=some none)
  (z13:PySem.W.nsIn K mainGlobals "str"=some none)
  (z14:PySem.W.nsIn K mainGlobals "enumerate"=some none)
  (z15:PySem.W.nsIn K mainGlobals "reversed"=some none)
  (z16:PySem.W.nsIn K mainGlobals "sorted"=some none)
  (z17:PySem.W.nsIn K mainGlobals "sum"=some none)
  (gM0:PySem.W.nsIn K mainGlobals "MOST_CELLS"=some (some (.int 6 tM)))
  (tD:K.lookup Dd=some ⟨ocD,odD,.seq #[.int 0 d0] nD,slD⟩)
  (gO0:PySem.W.nsIn K mainGlobals "ONE"=some (some (.ref aO)))
  (tO:K.lookup aO=some ⟨.type "tuple",odO,.seq #[.int 1 o1,.int 0 o2,.int 0 o3,.int 0 o4,.int 0 o5] nO,slO⟩)
  (gZ0:PySem.W.nsIn K mainGlobals "NOUGHT"=some (some (.ref aZ)))
  (tZ:K.lookup aZ=some ⟨.type "tuple",odZ,.seq #[.int 0 y1,.int 0 y2,.int 0 y3,.int 0 y4,.int 0 y5] nZ,slZ⟩)
  (gP0:PySem.W.nsIn K mainGlobals "PRODUCT_OF_NONE"=some (some (.ref aP)))
  (tP:K.lookup aP=some ⟨.type "tuple",odP,.seq #[.int 0 q0,.int 0 q1,.int 0 q2] nP,slP⟩)
  (gF0:PySem.W.nsIn K mainGlobals "FIRST_SIGN_LEAD"=some (some (.int 6 tF)))
  (aC:PySem.W.nsIn K mainGlobals "NoTable"=some (some (.ref C)))
  (aD:PySem.W.nsIn K mainGlobals "BoardError"=some (some (.ref D)))
  (zV:PySem.W.nsIn K mainGlobals "ValueError"=some none)
  (xC:ExcAt K C bm)
  (xD:ExcAt K D bm2)
  (sub:(Value.ref C::bm).contains (.ref D)=true)
  (kC:PySem.W.I_ K C)
  (own:PySem.W.kitOne K (.ref C) (.ref C)=some true)
  (ve:PySem.W.kitOne K (.ref C) (.type "ValueError")=some true)
  (n_NeverSo:PySem.W.nsIn K mainGlobals "NeverSo"=some (some (.ref A_NeverSo)))
  (n_NoAmount:PySem.W.nsIn K mainGlobals "NoAmount"=some (some (.ref A_NoAmount)))
  (n_NoBoard:PySem.W.nsIn K mainGlobals "NoBoard"=some (some (.ref A_NoBoard)))
  (n_NoCell:PySem.W.nsIn K mainGlobals "NoCell"=some (some (.ref A_NoCell)))
  (n_NoMark:PySem.W.nsIn K mainGlobals "NoMark"=some (some (.ref A_NoMark)))
  (n_NoMove:PySem.W.nsIn K mainGlobals "NoMove"=some (some (.ref A_NoMove)))
  (n_NoShare:PySem.W.nsIn K mainGlobals "NoShare"=some (some (.ref A_NoShare)))
  (n_NoText:PySem.W.nsIn K mainGlobals "NoText"=some (some (.ref A_NoText)))
  (n_NotBorne:PySem.W.nsIn K mainGlobals "NotBorne"=some (some (.ref A_NotBorne)))
  (n_Unguarded:PySem.W.nsIn K mainGlobals "Unguarded"=some (some (.ref A_Unguarded)))
  (kA:PySem.W.kitAny K (.ref C) [.ref A_NeverSo,.ref A_NoAmount,.ref A_NoBoard,.ref A_NoCell,.ref A_NoMark,.ref A_NoMove,.ref A_NoShare]=some false)
  (kB:PySem.W.kitAny K (.ref C) [.ref A_NoText,.ref A_NotBorne,.ref A_Unguarded]=some false)
  : ∃fd:FuncData,(∀(s:U7) (v:W2),BindsTo s fd ⟨[v],[]⟩ [("_law_script",v)])/\∀base:Heap,K.In base->base.Ns mainGlobals mg->Ec l.prog w K mg base N8 10 fa fd ["_law_script"] (KN K 63):=by
 have e:=hfa.symm.trans (IK X G aL);cases e;have F:=W3w (st:=top 101) lL cL kL;have B:Bs mg:=⟨Iv X G z0,Iv X G z1,Iv X G z2,Iv X G z3,Iv X G z4,Iv X G z5,Iv X G z6,Iv X G z7,Iv X G z8,Iv X G z9,Iv X G z10,Iv X G z11,Iv X G z12,Iv X G z13,Iv X G z14,Iv X G z15,Iv X G z16,Iv X G z17⟩;refine⟨PySem.W.fnOf "law" "law" (Hh (top 101)) (Gq (top 101)) (Dy (top 101)) .none kV dc pm an cd ct,λs v=>.of_eq rfl,λbase _ _=>?_⟩;have gP:=IK X G gP0;have gF:=IK X G gF0;have gZ:=IK X G gZ0;have sP:∀H:Hp,Ai K H aP (Ah.L3 (0,0,0)):=λH=>.inr ⟨_,_,_,tP,U,U,(by show 3<=sizeLine;decide),.cons ⟨_,U⟩ (.cons ⟨_,U⟩ (.cons ⟨_,U⟩ .nil))⟩;have b:Ah.Bs mg:=⟨B.isinstance,B.int,B.bool,B.tuple,B.list,B.len,B.range,B.enumerate,B.sorted,B.sum,B.str,B.all,B.any,B.min,B.max⟩;have r:=X7x (P:=l.prog) (w:=w) (base:=base) (k:=0) t16 X G B;have b1:=X7o (P:=l.prog) (w:=w) (base:=base) (k:=0) t19 X G;have a0:=Y8w t20 X G r;have A:=X7k t18 X G B b1;have f2:=X7m t17 X G B r;have n:=Y6l (P:=l.prog) (w:=w) (base:=base) (k:=0) t14 X G B;have e0:=Y6n (P:=l.prog) (w:=w) (base:=base) (k:=0) t36 X G B;have c5:=X7y (P:=l.prog) (w:=w) (base:=base) (k:=0) t67 X G;have m:=X7z (P:=l.prog) (w:=w) (base:=base) (k:=0) t81 X G B;have u:=X2l (P:=l.prog) (w:=w) (base:=base) (k:=0) t82 X G B;have f3:=W2f (P:=l.prog) (w:=w) (base:=base) (k:=0) t84 X G B;have L:=X2p (P:=l.prog) (w:=w) (base:=base) (k:=0) t85 X G B;have f4:Aj l.prog w K mg base 1 "_law_spin" ["_law_one","_law_k"] RD:=L.imp λvs H Q E h=>by obtain⟨p,x,k,rfl,hp,q⟩:=h;exact⟨p,x,k,U,Dp.of hp,q⟩
 have S:=Y9a (P:=l.prog) (w:=w) (base:=base) (k:=0) t88 X G B;have iw:Aj l.prog w K mg base 1 "is_whole" ["thing"] Ah.Pr:=n;have i:=Ah.Y9c t23 X G iw;have a7:Aj l.prog w K mg base 2 "is_word" ["thing","cells"] Ik:=i.imp λvs H Q E h=>by obtain⟨x,c,rfl,_,hx,q⟩:=h;exact⟨x,c,U,hx,q⟩
 have e':=X3a (IK X G gM0) t35 X G (n.mono (by decide)) a7;have d8:=X2n t34 (Y3n tD) X G B (IK X G gO0) gZ (M_ tO) (M_ tZ) e';have a:=Ah.X7n (P:=l.prog) (w:=w) (base:=base) (k:=0) t22 X G;have y:=Ah.Y6j t28 X G a;have R:=Ah.Y6m (P:=l.prog) (w:=w) (base:=base) (k:=0) t41 X G;have e8:=Ah.Y8z (P:=l.prog) (w:=w) (base:=base) (k:=0) t42 X G b;have c8:=Ah.Y2v t43 X G b a;have a8:=Ah.Y8v (k:=2) t40 X G b (R.mono (by decide)) (e8.mono (by decide)) c8;have c0:=Ah.Y2w (P:=l.prog) (w:=w) (base:=base) (k:=0) t56 X G b;have a5:=Ah.Y8x t57 X G gP sP y;have a9:=Ah.X3b t58 X G b a;have o:=Ah.Y9b (k:=3) t55 X G b (c0.mono (by decide)) a8 (a9.mono (by decide)) a5;have d5:=Ah.X2u (P:=l.prog) (w:=w) (base:=base) (k:=0) t53 X G;have z:=Ah.X7q t52 X G gF d5;have a6:=Ah.W2h (P:=l.prog) (w:=w) (base:=base) (k:=0) t54 X G gF;have a2:=Ah.Y6g (k:=2) t51 X G (a6.mono (by decide)) z y;have e4:=Ah.Y2x t27 X G a;have b9:=X2o gZ (M_ tZ) Hu X G B A;have c7:=X7w t65 X G a;have f0:=W5o (k:=3) t63 X G B b9 (a.mono (by decide)) (c7.mono (by decide));have ex:Ah.bA K mg C D bm bm2:=⟨IK X G aC,IK X G aD,Iv X G zV,xC,xD,sub,kC,own,ve,A_NeverSo,IK X G n_NeverSo,A_NoAmount,IK X G n_NoAmount,A_NoBoard,IK X G n_NoBoard,A_NoCell,IK X G n_NoCell,A_NoMark,IK X G n_NoMark,A_NoMove,IK X G n_NoMove,A_NoShare,IK X G n_NoShare,A_NoText,IK X G n_NoText,A_NotBorne,IK X G n_NotBorne,A_Unguarded,IK X G n_Unguarded,kA,kB⟩;have I:=Ah.Y2t (P:=l.prog) (w:=w) (base:=base) (k:=0) t14 X G b;have e3:=Ah.X2k t23 X G I;have b5:=Ah.Y6d (k:=2) t24 X G b (I.mono (by decide)) e3;have Y:=Ah.Y6e t25 X G a;have a1:=Ah.Y8t (k:=3) t26 X G b5 (Y.mono (by decide));have cal:=Ah.Y6f t48 X G b e4;have t:=Ah.Y2u (k:=4) t47 X G b (iw.mono (by decide)) a1 (cal.mono (by decide)) o;have V:=Ah.Y9d t49 X G (Ah.X3n t);have M:=Ah.Y6i (k:=4) t50 X G b V (a2.mono (by decide)) (z.mono (by decide));have e1:=Ah.Y6c t49 X G ex t;have d7:=Ah.Y2s t50 X G e1;have c4:=Ah.Y6b t60 X G B ex d7;have b4:=X7s (k:=7) t62 X G B (e0.mono (by decide)) (f0.mono (by decide)) (o.mono (by decide)) M;have d:=X8b (P:=l.prog) (w:=w) (base:=base) (k:=0) t87 X G;have d4:=X2x (P:=l.prog) (w:=w) (base:=base) (k:=0) t83 X G;have e6:=X2r t89 X G B S;have d9:=X2v t90 X G B L d;have b8:=X2t (P:=l.prog) (w:=w) (base:=base) (k:=0) t91 X G B;have j:=BZ.X3c (P:=l.prog) (w:=w) (base:=base) (k:=0) t29 X G;have f1:=BZ.X2y t76 X G j;have c9:=BZ.Y9e (P:=l.prog) (w:=w) (base:=base) (k:=0) t77 X G;have d1:=BZ.X8a (P:=l.prog) (w:=w) (base:=base) (k:=0) t78 X G;have c3:=BZ.Y9f t79 X G j;have b3:=BZ.Y6k (k:=2) t75 X G (j.mono (by decide)) f1 (c9.mono (by decide)) (d1.mono (by decide)) c3 (c5.mono (by decide));have a3:=BZ.Y6h t74 X G b3;have d2:=BZ.W2d (P:=l.prog) (w:=w) (base:=base) (k:=0) t71 X G;have b0:=BZ.X7u t70 X G d2;have c1:=BZ.X2z t69 X G B b0;have Z:=BZ.W2i t73 X G c1;have N:=BZ.X2s (k:=4) t72 X G B Z a3;have b6:=X7t t92 X G B u d;have O:=X2w (k:=2) t93 X G B (b8.mono (by decide)) b6;have e5:=BZ.X2q (k:=2) t38 X G A (a.mono (by decide));have T:=BZ.X7r t37 X G B e5;have d3:=X7p t61 X G B a;have b7:=Y8u (k:=7) t60 X G B M (d3.mono (by decide)) (d8.mono (by decide)) (T.mono (by decide)) (f2.mono (by decide)) (a0.mono (by decide));have a4:=X7v t99 X G B u f3;have J:=Y8y (P:=l.prog) (w:=w) (base:=base) (k:=0) t100 X G B;have g:=Y2y t94 X G d;have c2:=X2m (k:=5) t95 X G B (m.mono (by decide)) N (e6.mono (by decide)) (g.mono (by decide));have b2:=W2j (k:=2) t96 X G B (m.mono (by decide)) (d.mono (by decide)) g;have d6:=Ah.X7l t98 X G B ex c4;have e7:=W2c t97 X G B g;exact W2g (k:=9) (by decide) F B (m.mono (by decide)) (d4.mono (by decide)) (c2.mono (by decide)) (b2.mono (by decide)) (b7.mono (by decide)) (a4.mono (by decide)) (J.mono (by decide)) (d9.mono (by decide)) (b4.mono (by decide)) (O.mono (by decide)) d6 (e7.mono (by decide))
theorem walk{q:U8}{loose:W0}{XP:(Str->Option Value)->Heap->Prop}{YP:World->Heap->Prop}{d:DefRec}{K:Params->U0}(hn:l.most=some 63)(hdf:d.params.defaults=[])
  (hY:∀(w:W1) (h:Heap),YP w h->(K w.params).In h)
  (F:∀(w:W1) (mg:U4) (fa:W9) (h:Heap),(K w.params).In h->h.Ns mainGlobals mg->mg d.name=some (.ref fa) ->
   ∃fd:FuncData,(∀(s:U7) (u:W2),BindsTo s fd ⟨[u],[]⟩ [("_law_script",u)])/\∀base:Heap,(K w.params).In base->base.Ns mainGlobals mg->Ec l.prog w (K w.params) mg base N8 10 fa fd ["_law_script"] (KN (K w.params) 63)):
  PySem.W.WalkO q loose XP YP l.row.toRowW d [] (λf vs=>PySem.call f vs):=
 L2.Y5u (n:=63) (k:=10) (x:="_law_script") (CX:=λ_=>N8) (sp:=λw=>KN (K w.params) 63) hn (by decide) hdf ⟨U,by decide,by decide⟩ hY F (λ_ _ a ns b lt c=>⟨a,ns,U,c,b,lt,λ_=>rfl⟩) λ_ _ _ _ _ z=>z
end Ax
open PySem.W
set_option maxRecDepth 100000 in
set_option maxHeartbeats 0 in
theorem PySem.Challenge.cw_spinboard_k61_whole_the_board_of_a_table_holds : PySem.Challenge.rw_spinboard_k61_whole_the_board_of_a_table.Holds := by
 refine holds_law Ax.Hd.Vq λsaid=>?_
 refine holds_open (q:=Ax.Hd.qq) (loose:=Ax.Hd.loose) (Xt:=Ax.Hd.Xt) (XP:=XL Ax.Hd.qq Ax.Hd.lv) (Yf:=Ax.Hd.HH.obs) (Ya:=Ax.Hd.HH.val) (YP:=Ax.Hd.HH.says) (d:=⟨"law",L2.Hh (Ax.top 101),L2.Gq (Ax.top 101),L2.Dy (Ax.top 101),Ax.Hd.lB (Ax.top 101)⟩) (kwd:=[]) (N:=Ax.Hd.NN) Ax.Hd.Wi Ax.Hd.HH.of Ax.Hd.HH.keeps (λs e=>xl_of s (Bool.and_eq_true_iff.mp e).1) XL.keeps (by kernel_rfl) (by kernel_rfl) (by kernel_rfl) (λs e=>recFacts_of (Bool.and_eq_true_iff.mp e).2) (by kernel_rfl) said (by kernel_rfl) ⟨U,U,U,U,U,by decide +kernel⟩ ?hw ?hc
 case hw=>w_witness2
 refine Ax.walk (l:=PySem.Challenge.rw_spinboard_k61_whole_the_board_of_a_table) rfl rfl (λw h Y=>PySem.W.kIn_of Y) ?F
 case F =>
  intro w mg fa h KX G hmg
  refine' Ax.W4p (K:=Ax.Hd.KK w.params) (f:=652) (aO:=278) (aZ:=277) (Dd:=279) (aP:=337) (C:=121) (D:=24) (A_NeverSo:=109) (A_NoAmount:=49) (A_NoBoard:=73) (A_NoCell:=97) (A_NoMark:=61) (A_NoMove:=85) (A_NoShare:=37) (A_NoText:=140) (A_NotBorne:=159) (A_Unguarded:=178) (tM:=547) (tF:=631) KX G hmg ?_ (Ax.Hd.iD _) ?_ ?_ (Ax.Hd.fz "spinboard.shares" 412 187 186) (Ax.Hd.fz "spinboard.amounts" 421 194 193) (Ax.Hd.fz "spinboard.amounts" 421 199 198) (Ax.Hd.fz "spinboard.amounts" 421 206 205) (Ax.Hd.fz "spinboard.amounts" 421 213 212) (Ax.Hd.fz "spinboard.amounts" 421 220 219) (Ax.Hd.fz "spinboard.marks" 467 227 226) (Ax.Hd.fz "spinboard.marks" 467 234 233) (Ax.Hd.fz "spinboard.marks" 467 241 240) (Ax.Hd.fz "spinboard.marks" 467 248 247) (Ax.Hd.fz "spinboard.marks" 467 255 254) (Ax.Hd.fz "spinboard.marks" 467 262 261) (Ax.Hd.fz "spinboard.marks" 467 269 268) (Ax.Hd.fz "spinboard.marks" 467 276 275) (Ax.Hd.f34 _) (Ax.Hd.fz "spinboard.boards" 533 291 290) (Ax.Hd.fz "spinboard.boards" 533 298 297) (Ax.Hd.fz "spinboard.boards" 533 303 302) (Ax.Hd.fz "spinboard.boards" 533 310 309) (Ax.Hd.fz "spinboard.bits" 586 317 316) (Ax.Hd.fz "spinboard.bits" 586 324 323) (Ax.Hd.fz "spinboard.bits" 586 329 328) (Ax.Hd.fz "spinboard.bits" 586 336 335) (Ax.Hd.fz "spinboard.tables" 625 342 341) (Ax.Hd.fz "spinboard.tables" 625 347 346) (Ax.Hd.fz "spinboard.tables" 625 354 353) (Ax.Hd.fz "spinboard.tables" 625 359 358) (Ax.Hd.fz "spinboard.tables" 625 366 365) (Ax.Hd.fz "spinboard.tables" 625 373 372) (Ax.Hd.fz "spinboard.tables" 625 380 379) (Ax.Hd.fz "spinboard.tables" 625 387 386) (Ax.Hd.fz "spinboard.tables" 625 392 391) (Ax.Hd.fz "spinboard.tables" 625 397 396) (Ax.Hd.fz "spinboard.tables" 625 404 403) (Ax.Hd.fz "spinboard.tables" 625 409 408) (Ax.Hd.fz "spinboard.spreads" 716 414 413) (Ax.Hd.fz "spinboard.spreads" 716 419 418) (Ax.Hd.fz "spinboard.spreads" 716 426 425) (Ax.Hd.fz "spinboard.spreads" 716 431 430) (Ax.Hd.fz "spinboard.spreads" 716 436 435) (Ax.Hd.fz "spinboard.spreads" 716 443 442) (Ax.Hd.fz "spinboard.moves" 763 450 449) (Ax.Hd.fz "spinboard.tableturns" 775 457 456) (Ax.Hd.fz "spinboard.tableturns" 775 464 463) (Ax.Hd.fz "spinboard.tableturns" 775 471 470) (Ax.Hd.fz "spinboard.tableturns" 775 476 475) (Ax.Hd.fz "spinboard.tableturns" 775 483 482) (Ax.Hd.fz "spinboard.tableturns" 775 490 489) (Ax.Hd.fz "spinboard.tableturns" 775 497 496) (Ax.Hd.fz "spinboard.tableturns" 775 504 503) (Ax.Hd.fz "spinboard.tableturns" 775 511 510) (Ax.Hd.fz "spinboard.tableturns" 775 518 517) (Ax.Hd.fz "spinboard.tableturns" 775 525 524) (Ax.Hd.fz "law_spinboard_k61_whole_the_board_of_a_table" 877 532 531) (Ax.Hd.fz "law_spinboard_k61_whole_the_board_of_a_table" 877 539 538) (Ax.Hd.fz "law_spinboard_k61_whole_the_board_of_a_table" 877 546 545) (Ax.Hd.fz "law_spinboard_k61_whole_the_board_of_a_table" 877 551 550) (Ax.Hd.fz "law_spinboard_k61_whole_the_board_of_a_table" 877 558 557) (Ax.Hd.fz "law_spinboard_k61_whole_the_board_of_a_table" 877 572 571) (Ax.Hd.fz "law_spinboard_k61_whole_the_board_of_a_table" 877 577 576) (Ax.Hd.fz "law_spinboard_k61_whole_the_board_of_a_table" 877 584 583) (Ax.Hd.fz "law_spinboard_k61_whole_the_board_of_a_table" 877 591 590) (Ax.Hd.fz "law_spinboard_k61_whole_the_board_of_a_table" 877 598 597) (Ax.Hd.fz "law_spinboard_k61_whole_the_board_of_a_table" 877 603 602) (Ax.Hd.fz "law_spinboard_k61_whole_the_board_of_a_table" 877 608 607) (Ax.Hd.fz "law_spinboard_k61_whole_the_board_of_a_table" 877 615 614) (Ax.Hd.fz "law_spinboard_k61_whole_the_board_of_a_table" 877 620 619) (Ax.Hd.fz "law_spinboard_k61_whole_the_board_of_a_table" 877 625 624) (Ax.Hd.fz "law_spinboard_k61_whole_the_board_of_a_table" 877 630 629) (Ax.Hd.fz "law_spinboard_k61_whole_the_board_of_a_table" 877 637 636) (Ax.Hd.fz "law_spinboard_k61_whole_the_board_of_a_table" 877 642 641) (Ax.Hd.fz "law_spinboard_k61_whole_the_board_of_a_table" 877 647 646) ?_ ?_ ?_ ?_ ?_ ?_ ?_ ?_ ?_ ?_ ?_ ?_ ?_ ?_ ?_ ?_ ?_ ?_ ?_ (Ax.Hd.iI _) ?_ (Ax.Hd.iJ _) ?_ (Ax.Hd.iK _) ?_ (Ax.Hd.iG _) ?_ ?_ ?_ ?_ (L2.excAt (Ax.Hd.iM _) ?_ ?_ ?_) (L2.excAt (Ax.Hd.k24 _) ?_ ?_ ?_) ?_ ⟨?_,?_,(λod=>by kernel_rfl),?_,?_,?_,?_⟩ ?_ ?_ ?_ ?_ ?_ ?_ ?_ ?_ ?_ ?_ ?_ ?_ ?_ ?_
  all_goals kernel_rfl
