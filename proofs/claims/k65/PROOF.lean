import PyProof.Rows.All
import Wide.All
import OpenK.AllK
import Wide.FinOn
import Lean
import PyProof.EqAt
import PyProof.EqKinds
import PyProof.TupleCall
import PyProof.Rows.BitMore
import PyProof.ConsumeWalk
import PyProof.Rows.SetFrom
import PyProof.WalksMore
import PyProof.FactsAll.subtypes_4
import PyProof.Rows.SortWalk
import PyProof.Rows.TupDisplay
import PyProof.EnumMake
import PyProof.Rows.EnumRows
import PyProof.SumAny
import PyProof.Rows.MinMaxN
import PyProof.NeKinds
import PyProof.StationsW
import PyProof.ExcClass3
import PyProof.ExcBaseAll.ValueError
import PyProof.RulesAs
import PyProof.ExcArgsOwn
import PyProof.ExcAttrAll.ValueError
import PyProof.InstStoreFacts
import PyProof.ExcClass2
import PyProof.ExcInit
import PyProof.NsDelKeeps
import PyProof.Rows.CatchTuple
import PySem.Challenge.RW_spinboard_k65_whole_shares_by_marks
theorem zq4(h:True:=by kernel_rfl):True:=h
noncomputable section
open PySem PySem.Spec PyProof.Rows
theorem O{α:Sort u}{a:α}:a=a:=rfl
abbrev U0:=PySem.W.Frag
abbrev U1:=List (Addr×Obj)
abbrev U2:=Value->Shared->Prop
abbrev U3:=List Addr
abbrev U4:=Str->Option Value
abbrev U5:=List Value
abbrev U6:=List Int
abbrev U7:=Shared
abbrev U8:=Program
abbrev U9:=Array Value
abbrev W0:=List Str
abbrev W3:=World
abbrev W4:=Value
abbrev W5:=List Nat
abbrev W6:=Array (Option Value)
abbrev W7:=Option Addr
abbrev W8:=Around
abbrev W9:=List (Option Nat)
abbrev Y0:=List Stmt
abbrev Y1:=Addr
noncomputable abbrev Ng (h:Heap)(m:Str->Option Value):=h.Ns mainGlobals m
set_option linter.all false
section
open PySem.W
def Ak:=@wpAny_bind
def Ca:=@Heap.get?_push_of_some
def Bj:=@List.length_map
def Di:=@List.getElem?_eq_getElem
def Bc:=@Nat.le_refl
def Bk:=@Heap.lt_size
def BZ:=@wpAny_pure
def DK:=@Bool.false_ne_true
def Cd:=@decide_eq_false
def BK:=@wpS_bind
def Cj:=@decide_eq_true
def Du:=@List.size_toArray
def Ep:=@Array.length_toList
def Ew:=@Heap.get?_push_size
def G5:=@List.getD_eq_getElem?_getD
def G4:=@List.getElem?_eq_some_iff
def Bg:=@wpS_pure
def Dt:=@List.map_append
def Cy:=@Nat.ne_of_lt
def FN:=@List.getElem?_map
def DY:=@List.mem_cons
def G3:=@Option.map_eq_some_iff
def GK:=@List.mem_singleton
def Gz:=@Array.getElem_toList
def JW:=@Array.getElem?_eq_some_iff
def GR:=@Nat.lt_of_lt_of_le
def Ho:=@List.mem_append_right
def Gh:=@List.length_append
def Jp:=@Nat.mod_two_eq_zero_or_one
def Gy:=@PySem.W.mg_none_of
def GQ:=@Bool.and_eq_true
def Fb:=@PySem.W.mg_of
def Ef:=@Nat.zero_le
def Gx:=@List.not_mem_nil
def K3:=@Int.eq_of_mul_eq_mul_left
def JV:=@List.pairwise_append
def Gw:=@List.mem_append
def Eb:=@wpAny_mono
def Jo:=@List.mem_of_getElem?
def MJ:=@List.pairwise_iff_getElem
def Gg:=@List.mem_range
def HX:=@Nat.testBit_xor
def GP:=@List.map_cons
def Fq:=@Nat.le_trans
def M_:=@Int.eq_of_mul_eq_mul_right
def JT:=@List.take_add_one
def KH:=@Array.toList_append
def Ot:=@Array.getD_eq_getD_getElem?
def Gv:=@Nat.zero_add
def KD:=@wpAny_newObj_type
def KC:=@decide_eq_true_eq
def HW:=@wpS_forRange
def Gf:=@Int.le_refl
def Jm:=@boot_isinstance
def J_:=@List.length_take
def J9:=@List.length_cons
def JR:=@PySem.boot_len
def Fo:=@eq_of_beq
def J8:=@PySem.W.kia_one
def J6:=@Int.emod_nonneg
def Oq:=@Heap.get?_update_self
def JQ:=@wpAny_holding
def MF:=@List.append_assoc
def L_:=@Int.toNat_natCast
def Oo:=@List.mem_append_left
def M9:=@Int.emod_lt_of_pos
def M8:=@Bool.false_eq_true
def QX:=@Heap.get?_update_other
def Om:=@Nat.add_sub_cancel'
def M7:=@wpAny_truthy_bool
def M6:=@of_decide_eq_true
def HS:=@beq_iff_eq
def K1:=@Heap.size_push
def Ol:=@Nat.xor_lt_two_pow
def J5:=@Nat.xor_assoc
def Lz:=@Nat.two_pow_pos
def Ly:=@Nat.not_lt_zero
def J4:=@Nat.lt_irrefl
def Jl:=@List.mem_map
def M5:=@List.getElem_map
def Rv:=@List.take_of_length_le
def QW:=@PySem.mem_of_lookup
def QV:=@List.replicate_succ
def HN:=@segRun_of
def HJ:=@piece_app
def Ru:=@List.take_append_drop
def M4:=@List.append_nil
def J3:=@Int.le_trans
def QT:=@Int.natAbs_natCast
def Oj:=@List.take_length
def Jk:=@Int.one_mul
def Rt:=@Nat.pow_le_pow_right
def Rr:=@List.mem_of_mem_take
def Rq:=@List.mem_cons_of_mem
def Kz:=@Nat.ne_of_gt
def QS:=@wpAny_loadPart_at
def J2:=@wpAny_field
def Yb:=@PySem.F.slot_int_bit_length
def Oi:=@Int.mul_ne_zero
def Gu:=@or_false
def YZ:=@Array.perm_iff_toList_perm
def Jj:=@wpS_modify
def QM:=@List.all_eq_true
def HF:=@wpS_mono
def Rp:=@wpAny_Call_Name_kw
def Ro:=@List.mem_cons_self
def Lx:=@List.map_map
def Rn:=@List.filter_append
def Lw:=@Int.le_of_lt
def Vb:=@Array.toList_extract
def QL:=@wpAny_passesOwn
def YX:=@PySem.F.type_list_append
def YW:=@PySem.F.slot_list_append
def QK:=@Nat.testBit_and
def Rm:=@Nat.lt_succ_of_lt
def QJ:=@List.nodup_cons
def Rk:=@List.flatten_cons
def QH:=@Bool.or_eq_true
def Mz:=@codeAny_mono
def Oh:=@wpAny_standAt
def YT:=@wpAny_callSpecial?_slot
def YS:=@PySem.F.plainAttrs_list
def YQ:=@PySem.F.attr_ValueError
def Va:=@Nat.testBit_two_pow
def VR:=@Int.toNat_of_nonneg
def dj:=@wpAny_typeNameOfWhole_keyiter
def Rj:=@wpAny_call_entry
def Ri:=@beq_self_eq_true
def Rh:=@List.length_drop
def Rg:=@List.getElem_mem
def QG:=@wpAny_setField
def VP:=@of_decide_eq_false
def Ir:=@if_false
def VN:=@Option.toList_some
def VL:=@Nat.lt_of_le_of_lt
def dh:=@PySem.F.type_int_bit_length
def Rf:=@Option.map_some
def Rc:=@List.mem_filter
def YM:=@List.length_filter_le
def Rb:=@List.find?_cons
def Og:=@Int.ne_of_gt
def YL:=@Int.natAbs_dvd_natAbs
def Ra:=@Int.mul_eq_zero
def RZ:=@Bool.eq_iff_iff
def VJ:=@List.getElem_take
def VH:=@List.getElem_drop
def QF:=@Int.mul_assoc
def QD:=@Bool.false_or
def dg:=@PySem.F.excBase_ValueError
def cu:=@List.getElem?_append_right
def Hj:=@wpS_get
def YK:=@codeAny_call_builtin
def YJ:=@Nat.pow_lt_pow_right
def YH:=@List.getElem?_set_ne
def YG:=@Heap.get?_none_of_le
def YF:=@Bool.or_eq_false_iff
def YD:=@Array.toList_reverse
def cj:=@List.getElem?_append_left
def b_:=@List.drop_eq_getElem_cons
def RX:=@List.drop_drop
def RV:=@Int.natAbs_mul
def VG:=@List.lookup_cons
def YC:=@wpAny_isSubtype_exc
def YB:=@List.reverse_append
def bx:=@wpAny_typeNameOf_keyiter
def Mx:=@wpAny_rule
def bw:=@wpAny_comprehension_free
def Mw:=@wpAny_call
def QC:=@Nat.xor_zero
def QB:=@Nat.xor_self
def P_:=@Nat.add_zero
def Py:=@Nat.add_comm
def bh:=@Int.mul_fdiv_cancel_left
def bf:=@Array.getElem_mem_toList
def VF:=@wpAny_execs_nil
def RT:=@wpAny_attempt
def X_:=@PySem.W.callWith_K
def RQ:=@List.any_cons
def bZ:=@PySem.W.cellsFrom_some
def bY:=@PySem.F.plainAttrs_int
def bW:=@Nat.le_mul_of_pos_left
def bV:=@List.length_pos_of_mem
def bU:=@List.getElem?_set_self
def bT:=@List.drop_of_length_le
def X8:=@wpAny_pyIter_list
def X7:=@List.pairwise_map
def X6:=@Array.toList_push
def VD:=@wpAny_seqItems
def Ky:=@kas_item
def VB:=@List.drop_zero
def bR:=@wpAny_isOneOf_keyiter
def bQ:=@PySem.F.slot_dict_get
def RP:=@Int.zero_add
def RN:=@Int.pow_succ
def bO:=@Array.getElem?_toList
def X5:=@Nat.lt_succ_self
def X4:=@Nat.le_add_right
def X3:=@List.ext_getElem
def Xz:=@List.drop_length
def bN:=@Nat.eq_of_testBit_eq
def bM:=@List.mem_of_mem_drop
def J0:=@if_true
def bL:=@getElem?_mirror_all
def pN:=@List.perm_append_comm_assoc
def Xy:=@List.of_mem_zip
def bK:=@List.map_congr_left
def Xx:=@List.length_set
def bJ:=@List.filterMap_cons
def bI:=@Heap.get?_update_ne
def pL:=@wpAny_newFunctionEnv_cells
def pK:=@Int.fdiv_eq_ediv_of_nonneg
def bH:=@wpAny_pyIter_tuple
def bG:=@tupleKind_room_in1
def U_:=@looks_findIn
def bF:=@assignInOrder_cons
def bD:=@Nat.add_sub_cancel
def bC:=@List.getElem_range
def bB:=@List.contains_cons
def Uz:=@Int.mul_comm
def bA:=@Array.append_empty
def pJ:=@PySem.F.slot_dict_getitem
def pI:=@Nat.and_xor_distrib_right
def au:=@wpAny_assign_Name
def pH:=@PySem.W.readsAll_of_ints
def pG:=@Option.isSome_iff_exists
def ao:=@List.length_range
def pF:=@Int.mul_ediv_cancel_left
def Oe:=@wpS_lift
def Xw:=@bitNot_bitNot
def pD:=@PySem.W.canLayAll0_ints
def pC:=@PySem.F.plain_list_iadd
def pB:=@PySem.F.args_dict_get_3
def Uy:=@Nat.pow_pos
def pA:=@Nat.add_sub_cancel_left
def o_:=@List.getElem?_replicate
def o9:=@List.filter_cons_of_pos
def o7:=@List.filter_cons_of_neg
def Xv:=@List.all_cons
def ak:=@wpAny_execs_cons
def aj:=@wpAny_eqBool_int
def aY:=@Nat.gcd_dvd_left
def aX:=@List.nodup_range
def aW:=@List.any_eq_true
def ou:=@subscriptTail_builtinR
def oh:=@codeAny_compStart_list
def oZ:=@PySem.F.entry_dict_get
def oY:=@Array.getElem?_extract
def oX:=@Array.getElem?_eq_none
def Xu:=@wpAny_typeOf
def oW:=@wpAny_isTrue_Compare1
def aV:=@getElem?_bubble
def oU:=@exec_Assign_Name_used
def oR:=@codeAny_call_function
def aU:=@codeAny_builtin
def oN:=@PySem.W.depthAll_ints
def Xr:=@Nat.sub_zero
def Xq:=@Nat.le_of_lt
def Xp:=@Nat.gcd_comm
def aR:=@List.range_succ
def qC:=@List.perm_append_comm
def Ym:=@List.map_nil
def p8:=@List.length_singleton
def jZ:=@List.length_nil
def p7:=@List.getElem?_reverse
def jY:=@Int.pow_ne_zero
def jX:=@Int.neg_one_mul
def Yl:=@Int.mul_zero
def jW:=@Int.emod_two_eq
def jV:=@List.take_zero
def jU:=@List.nodup_nil
def jT:=@Int.natAbs_pow
def Yk:=@sizeLine_eq
def Yj:=@Int.pow_pos
def Yi:=@Int.pow_add
def jR:=@listUpdate_at
def Rx:=@boot_int
def Yh:=@typeIs_int
def Yg:=@Nat.mod_lt
def jQ:=@seqIndex_neg
def jP:=@Nat.pow_succ
def jO:=@Bool.or_true
def V0:=@boot_abs
end
set_option Elab.async false
set_option maxRecDepth 100000
namespace L2
abbrev Key:=Sum Int Str
noncomputable def Gk:Key->Value->Bool
 | .inl k,v=>Value.isInt k v
 | .inr x,v=>Value.isStrOf x v
noncomputable def d_ (w:W3):Key->Int
 | .inl k=>hashInt k
 | .inr x=>hashStr w x
theorem Nz:∀{k:Key}{v:W4},Gk k v=true->(∃i t,k=Sum.inl i/\v=Value.int i t)\/(∃x t,k=Sum.inr x/\v=Value.str x t)
 | .inl i,v,h=>by
  obtain⟨t,e⟩:=Value.isInt_shape (k:=i) (v:=v) h;exact .inl ⟨i,t,O,e⟩
 | .inr x,v,h=>by
  obtain⟨t,e⟩:=Value.isStrOf_shape (x:=x) (v:=v) h;exact .inr ⟨x,t,O,e⟩
theorem Y7g(i:Int)(t:Tok):Gk (.inl i) (.int i t)=true:=by simp[Gk,Value.isInt]
theorem k_(x:Str)(t:Tok):Gk (.inr x) (.str x t)=true:=by simp[Gk,Value.isStrOf]
theorem X9f(a b:Int):decide ((Sum.inl a:Key)=Sum.inl b)=(a == b):=by
 by_cases e:a=b
 ·subst e;simp
 ·have h:¬ (Sum.inl a:Key)=Sum.inl b:=λq=>e (Sum.inl.inj q);rw[Cd h];exact(beq_eq_false_iff_ne.mpr e).symm
theorem X9c(a b:Str):decide ((Sum.inr a:Key)=Sum.inr b)=decide (a=b):=by
 by_cases e:a=b
 ·subst e;simp
 ·have h:¬ (Sum.inr a:Key)=Sum.inr b:=λq=>e (Sum.inr.inj q);rw[Cd h,Cd e]
theorem X9e(a:Int)(b:Str):decide ((Sum.inl a:Key)=Sum.inr b)=false:=Cd (λq=>nomatch q)
theorem X9d(a:Str)(b:Int):decide ((Sum.inr a:Key)=Sum.inl b)=false:=Cd (λq=>nomatch q)
noncomputable def G_ (prog:U8)(w:W3):PySem.KeyKind prog w Key where
 is:=Gk
 hash:=d_ w
 inj:=λv a b ha hb=>by
  rcases Nz ha with ⟨i,t,rfl,rfl⟩ | ⟨x,t,rfl,rfl⟩
  ·rcases Nz hb with ⟨j,u,rfl,e⟩ | ⟨y,u,rfl,e⟩
   ·injection e with e1 _;rw[e1]
   ·exact nomatch e
  ·rcases Nz hb with ⟨j,u,rfl,e⟩ | ⟨y,u,rfl,e⟩
   ·exact nomatch e
   ·injection e with e1 _;rw[e1]
 byValue:=λk v h=>by
  rcases Nz h with ⟨i,t,rfl,rfl⟩ | ⟨x,t,rfl,rfl⟩<;>rfl
 pyHash:=λhv h=>by
  rcases Nz hv with ⟨i,t,rfl,rfl⟩ | ⟨x,t,rfl,rfl⟩
  ·exact wpAny_pyHash_int h
  ·exact wpAny_pyHash_str h
 eqBool:=λhu hv h=>by
  rcases Nz hu with ⟨i,t,rfl,rfl⟩ | ⟨x,t,rfl,rfl⟩
  ·rcases Nz hv with ⟨j,u,rfl,rfl⟩ | ⟨y,u,rfl,rfl⟩
   ·rw[X9f]at h;exact aj h
   ·rw[X9e]at h;exact SeqAt.EqAt.int_str i t y u _ _ _ _ h
  ·rcases Nz hv with ⟨j,u,rfl,rfl⟩ | ⟨y,u,rfl,rfl⟩
   ·rw[X9d]at h;exact SeqAt.EqAt.str_int x t j u _ _ _ _ h
   ·rw[X9c]at h;exact wpAny_eqBool_str h
 «strs»:=λk x t v h=>by
  rcases Nz h with ⟨i,u,rfl,e⟩ | ⟨y,u,rfl,e⟩
  ·exact nomatch e
  ·injection e with e1 _
   subst e1
   cases v<;>rfl
theorem Y1p(prog:U8)(w:W3)(i:Int)(t:Tok):(G_ prog w).is (.inl i) (.int i t)=true:=Y7g i t
theorem Y1o(prog:U8)(w:W3)(x:Str)(t:Tok):(G_ prog w).is (.inr x) (.str x t)=true:=k_ x t
inductive V where
 | non | bl (b:Bool) | int (i:Int) | str (x:Str) | byt (b:Array UInt8) | flt (b:UInt64) | ref (a:Y1) | ty (n:String)
 deriving DecidableEq
def RelV:V->Value->Prop
 | .non,u=>u=Value.none
 | .bl b,u=>u=Value.bool b
 | .int i,u=>∃t,u=Value.int i t
 | .str x,u=>∃t,u=Value.str x t
 | .byt b,u=>∃t,u=Value.bytes b t
 | .flt b,u=>∃t,u=Value.float b t
 | .ref a,u=>u=Value.ref a
 | .ty n,u=>u=Value.type n
abbrev Vals:List V->List Value->Prop:=Paired RelV
variable{xs:List V}{us:U5}
theorem Vals.length(r:Vals xs us):xs.length=us.length:=Paired.length r
theorem Vals.get:∀{xs:List V}{us:U5}{i:Nat}{x:V},Vals xs us->xs[i]?=some x->∃u,us[i]?=some u/\RelV x u
 | _,_,_,_,.nil,e=>by simp at e
 | _,_,0,_,.cons r _,e=>by simp at e;subst e;exact⟨_,rfl,r⟩
 | _,_,i+1,x,.cons _ t,e=>by
  obtain⟨u,h1,h2⟩:=Vals.get (i:=i) (x:=x) t (by simpa using e);exact⟨u,by simpa using h1,h2⟩
theorem Vals.set{x:V}{u:W4}(r:RelV x u):∀{xs:List V}{us:U5} (i:Nat),Vals xs us->Vals (xs.set i x) (us.set i u)
 | _,_,_,.nil=>.nil
 | _,_,0,.cons _ t=>.cons r t
 | _,_,i+1,.cons q t=>.cons q (Vals.set r i t)
theorem Vals.append:∀{xs ys:List V}{us ws:U5},Vals xs us->Vals ys ws->Vals (xs++ys) (us++ws)
 | _,_,_,_,.nil,s=>s
 | _,_,_,_,.cons r t,s=>.cons r (Vals.append t s)
theorem Vals.take:∀{xs:List V}{us:U5} (n:Nat),Vals xs us->Vals (xs.take n) (us.take n)
 | _,_,0,_=>.nil
 | _,_,_+1,.nil=>.nil
 | _,_,n+1,.cons r t=>.cons r (Vals.take n t)
theorem Vals.drop:∀{xs:List V}{us:U5} (n:Nat),Vals xs us->Vals (xs.drop n) (us.drop n)
 | _,_,0,r=>r
 | _,_,_+1,.nil=>.nil
 | _,_,n+1,.cons _ t=>Vals.drop n t
def Ek:Option V->Option Value->Prop
 | some v,some u=>RelV v u
 | none,none=>True
 | _,_=>False
def KV {κ:Type}:List (κ×V)->List (κ×Value)->Prop:=Paired λ(p:κ×V) (q:κ×Value)=>p.1=q.1/\RelV p.2 q.2
noncomputable def kV:Key->V
 | .inl i=>.int i
 | .inr x=>.str x
inductive HO where
 | lst (xs:List V)
 | tup (xs:List V)
 | dK (kvs:List (Key×V)) | dT (kvs:List (List Key×V))
 | set (S:Int->Bool) (n:Nat)
 | ins (C dx:Y1) (fs:List (Str×V))
 | own (x:Y1)
 | xd (fs:List (Str×V))
 | met (f x:Y1)
 | rng (lo hi:Int)
 | frz (o:Obj) (u:HO)
 | tbl (ps:U9)
 | ext (φ:Heap->Prop)
abbrev Hp:=Addr->Option HO
noncomputable def upd (H:Hp)(a:Y1)(o:HO):Hp:=λb=>if b=a then some o else H b
variable{H:Hp}{a:Y1}{o:HO}
theorem Az:upd H a o a=some o:=by unfold upd;rw[if_pos rfl]
variable{b:Y1}
theorem Bq(h:b≠a):upd H a o b=H b:=by unfold upd;rw[if_neg h]
theorem K_{u:HO}(h:H a=some o)(h':H b=some u)(d:o≠u):a≠b:=by
 intro e;subst e;rw[h]at h';exact d (Option.some.inj h')
theorem Q0(h:H a=some o)(h':H b=none):a≠b:=by
 intro e;subst e;rw[h]at h';cases h'
section
variable (P:U8) (w:W3)
def BJ (H:Hp)(h:Heap)(a:Y1):HO->Prop
 | .lst xs=>xs.length<=sizeLine/\∃(its:U5) (n:Nat),Vals xs its/\h.get? a=some { cls:=.type "list",data:=.seq its.toArray n}
 | .tup xs=>xs.length<=sizeLine/\∃its:List Value,Vals xs its/\IsTup h a its.toArray
 | .dK kvs=>kvs.length<=sizeLine/\(a == sysModules)=false/\∃vs,KV kvs vs/\h.DictOf (G_ P w) a vs
 | .dT kvs=>kvs.length<=sizeLine/\(a == sysModules)=false/\∃xs:List (List Key×Addr×Value),
   Paired (λ(p:List Key×V) (q:List Key×Addr×Value)=>p.1=q.1/\H q.2.1=some (.tup (p.1.map kV))/\RelV p.2 q.2.2) kvs xs /\
   ∃o es ep,h.get? a=some o/\o.ExactDict/\o.data=.dict es ep/\es.toList=xs.map (entryOfKey (tupleKind (G_ P w)))/\(xs.map (·.1)).Nodup
 | .set S n=>h.SetOf (intKind P w) a S n
 | .ins C dx fs=>H dx=some (.own a)/\fs.length<=1000/\dx≠a/\h.get? a=some (PySem.W.instObj C dx) /\
   ∃mA,h.Ns1 dx mA/\(∀f,Ek (fs.lookup f) (mA f))/\PySem.Within mA (fs.map (·.1))
 | .own _=>∃o,h.get? a=some o
 | .xd fs=>∃mA,h.Ns1 a mA/\∀f,Ek (fs.lookup f) (mA f)
 | .rng lo hi=>∃t u v,h.get? a=some { cls:=.type "range",data:=.fields #[.int lo t,.int hi u,.int 1 v]}
 | .frz o u=>h.get? a=some o/\BJ H h a u
 | .tbl ps=>h.get? a=some { cls:=.none,data:=.fields ps}
 | .met f x=>h.get? a=some (PySem.W.methodObj (.ref f) (.ref x))
 | .ext φ=>φ h/\(∃o,h.get? a=some o)/\∀h1 h2:Heap,φ h1->(∀o,h1.get? a=some o->h2.get? a=some o)->φ h2
def EY (H:Hp)(h:Heap):Prop:=∀a o,H a=some o->BJ P w H h a o
end
section
variable {P:U8}{w:W3}{H H':Hp}{h h':Heap}{a:Y1}{o:HO}
theorem BJ.lt(x:BJ P w H h a o):a<h.objs.size:=by
 cases o with
 | lst xs=>obtain⟨_,_,_,_,e⟩:=x;exact Bk e
 | tup xs=>obtain⟨_,_,_,p⟩:=x;exact p.lt
 | dK kvs=>obtain⟨_,_,_,_,o,_,_,e,_⟩:=x;exact Bk e
 | dT kvs=>obtain⟨_,_,_,_,o,_,_,e,_⟩:=x;exact Bk e
 | set S n=>obtain⟨o,_,_,_,e,_⟩:=x;exact Bk e
 | ins C dx fs=>obtain⟨_,_,_,e,_⟩:=x;exact Bk e
 | own y=>obtain⟨_,e⟩:=x;exact Bk e
 | xd fs=>obtain⟨_,⟨_,_,_,e,_⟩,_⟩:=x;exact Bk e
 | rng lo hi=>obtain⟨_,_,_,e⟩:=x;exact Bk e
 | frz ob u=>obtain⟨e,_⟩:=x;exact Bk e
 | tbl ps=>exact Bk (show h.get? a=some _ from x)
 | met f y=>exact Bk (show h.get? a=some _ from x)
 | ext φ=>obtain⟨_,⟨_,e⟩,_⟩:=x;exact Bk e
theorem Paired.mapP{α β:Type}{F G:α->β->Prop}:∀{l₁:List α}{l₂:List β},Paired F l₁ l₂->(∀a b,F a b->G a b)->Paired G l₁ l₂
 | _,_,.nil,_=>.nil
 | _,_,.cons r t,f=>.cons (f _ _ r) (Paired.mapP t f)
theorem Paired.imp'{α β:Type}{F G:α->β->Prop}(f:∀a b,F a b->G a b){l₁:List α}{l₂:List β}(r:Paired F l₁ l₂):Paired G l₁ l₂:=Paired.mapP r f
theorem BJ.stay(x:BJ P w H h a o)(k:∀b u,(b=a\/H b=some (.own a))->h.get? b=some u->h'.get? b=some u)
  (ho:∀b,H b=some (.own a)->H' b=some (.own a)) (ht:∀b xs,H b=some (.tup xs)->H' b=some (.tup xs)):BJ P w H' h' a o:=by
 induction o with
 | lst xs=>obtain⟨z,its,n,r,e⟩:=x;exact⟨z,its,n,r,k _ _ (.inl rfl) e⟩
 | tup xs=>obtain⟨z,its,r,g,e,c⟩:=x;exact⟨z,its,r,g,k _ _ (.inl rfl) e,c⟩
 | dK kvs=>obtain⟨z,y,vs,r,g,es,ep,e,c⟩:=x;exact⟨z,y,vs,r,g,es,ep,k _ _ (.inl rfl) e,c⟩
 | dT kvs =>
  obtain⟨z,y,xs,r,g,es,ep,e,c⟩:=x;exact⟨z,y,xs,Paired.mapP r λp q z=>⟨z.1,ht _ _ z.2.1,z.2.2⟩,g,es,ep,k _ _ (.inl rfl) e,c⟩
 | set S n=>obtain⟨g,es,ep,t,e,c⟩:=x;exact⟨g,es,ep,t,k _ _ (.inl rfl) e,c⟩
 | ins C dx fs =>
  obtain⟨d,z,ne,e,mA,⟨od,es,ep,e2,c⟩,r⟩:=x;exact⟨ho _ d,z,ne,k _ _ (.inl rfl) e,mA,⟨od,es,ep,k _ _ (.inr d) e2,c⟩,r⟩
 | own y=>obtain⟨g,e⟩:=x;exact⟨g,k _ _ (.inl rfl) e⟩
 | xd fs=>obtain⟨mA,⟨od,es,ep,e,c⟩,r⟩:=x;exact⟨mA,⟨od,es,ep,k _ _ (.inl rfl) e,c⟩,r⟩
 | rng lo hi=>obtain⟨t,u,v,e⟩:=x;exact⟨t,u,v,k _ _ (.inl rfl) e⟩
 | frz g u ih=>obtain⟨e,q⟩:=x;exact⟨k _ _ (.inl rfl) e,ih q⟩
 | tbl ps =>
  have e:h.get? a=some { cls:=.none,data:=.fields ps}:=x;show h'.get? a=some { cls:=.none,data:=.fields ps};exact k a _ (.inl rfl) e
 | met f y =>
  have e:h.get? a=some (PySem.W.methodObj (.ref f) (.ref y)):=x;show h'.get? a=some (PySem.W.methodObj (.ref f) (.ref y));exact k a _ (.inl rfl) e
 | ext φ=>obtain⟨p,⟨o,e⟩,st⟩:=x;exact⟨st _ _ p λo q=>k _ _ (.inl rfl) q,⟨o,k _ _ (.inl rfl) e⟩,st⟩
theorem EY.lt(x:EY P w H h)(e:H a=some o):a<h.objs.size:=(x a o e).lt
theorem EY.fresh(x:EY P w H h)(e:h.objs.size<=a):H a=none:=by
 cases q:H a with
 | none=>rfl
 | some u=>exact absurd (GR (x.lt q) e) (J4 _)
theorem EY.kept(x:EY P w H h)(k:∀b u,h.get? b=some u->h'.get? b=some u):EY P w H h':=λa o e =>
 (x a o e).stay (λb u _ q=>k b u q) (λ_ q=>q) λ_ _ q=>q
theorem EY.laid(x:EY P w H h)(k:∀b u,h.get? b=some u->h'.get? b=some u)(hp:h.objs.size<=a)(new:BJ P w (upd H a o) h' a o):EY P w (upd H a o) h':=λb u e=>by
 have d:=x.fresh hp;by_cases hb:b=a
 ·subst hb;rw[Az]at e;cases e;exact new
 ·rw[Bq hb]at e;exact(x b u e).stay (λc v _ q=>k c v q) (λc q=>by rw[Bq (Q0 q d)];exact q) λc xs q=>by rw[Bq (Q0 q d)];exact q
end
def Rd (H:Hp)(a:Y1)(u:HO):Prop:=H a=some u\/∃o,H a=some (.frz o u)
variable{P:U8}{w:W3}
theorem Rd.ok{h:Heap}{u:HO}(r:Rd H a u)(x:EY P w H h):BJ P w H h a u:=by
 rcases r with r | ⟨o,r⟩
 ·exact x a u r
 ·obtain⟨_,q⟩:=x a _ r;exact q
def Xc:Option HO->Prop
 | some (.lst _)=>True
 | some (.dK _)=>True
 | some (.dT _)=>True
 | some (.set _ _)=>True
 | some (.ins _ _ _)=>True
 | some (.ext _)=>True
 | _=>False
section
variable {P:U8}{w:W3}{H:Hp}{h h':Heap}{x e:Y1}{o':HO}
theorem EY.write(ok:EY P w H h)(mu:Xc (H x))(he:e=x\/H e=some (.own x))(k:∀b u,b≠e->h.get? b=some u->h'.get? b=some u)(heo:∃u,h'.get? e=some u)
  (new:BJ P w (upd H x o') h' x o'):EY P w (upd H x o') h':=λb u q=>by
 have a:∀c y,H c=some (.own y)->c≠x:=λc y r z=>by subst z;rw[r]at mu;exact mu
 have d:∀c xs,H c=some (.tup xs)->c≠x:=λc xs r z=>by subst z;rw[r]at mu;exact mu
 by_cases hb:b=x
 ·subst hb;rw[Az]at q;cases q;exact new
 ·rw[Bq hb]at q;by_cases hbe:b=e
  ·have g:H b=some (.own x):=by
    rcases he with z | z
    ·exact absurd (hbe.trans z) hb
    ·rw[hbe];exact z
   rw[q]at g;cases g;obtain⟨v,i⟩:=heo;exact⟨v,by rw[hbe];exact i⟩
  ·refine(ok b u q).stay (λc v f r=>k c v ?_ r) (λc r=>by rw[Bq (a c b r)];exact r) λc xs r=>by rw[Bq (d c xs r)];exact r
   rcases f with rfl | f
   ·exact hbe
   ·rintro rfl;rcases he with z | z
    ·exact a c b f z
    ·rw[f]at z;cases z;exact hb rfl
end
structure Un (fs ex:U3) (H H':Hp) (h h':Heap):Prop where
 keep:∀b o,h.get? b=some o->H b=none->b∉fs->b∉ex->h'.get? b=some o
 slot:∀b o,h.get? b=some o->H b=none->b∈fs->b∉ex->∃sl,h'.get? b=some {o with slots:=sl}
 free:∀b o,h.get? b=some o->H b=none->b∉ex->H' b=none
 there:∀b o,h.get? b=some o->b∉ex->∃o',h'.get? b=some o'
 tups:∀b xs,H b=some (.tup xs)->H' b=some (.tup xs)
 frzs:∀b o u,H b=some (.frz o u)->H' b=some (.frz o u)
 tbls:∀b ps,H b=some (.tbl ps)->∃more,H' b=some (.tbl (ps++more))
section
variable {fs fs' ex ex':U3}{H H1 H2:Hp}{h h1 h2 h':Heap}{a x e:Y1}{o:HO}
theorem Un.any(u:Un fs ex H H1 h h1){ob:Obj}(q:h.get? b=some ob)(n:H b=none)(hx:b∉ex):∃sl,h1.get? b=some {ob with slots:=sl}:=by
 by_cases hb:b∈fs
 ·exact u.slot b ob q n hb hx
 ·exact⟨ob.slots,u.keep b ob q n hb hx⟩
theorem Un.kept(k:∀b u,h.get? b=some u->h'.get? b=some u):Un fs ex H H h h' :=
 ⟨λb a q _ _ _=>k b a q,λb a q _ _ _=>⟨a.slots,k b a q⟩,λ_ _ _ n _=>n,λb a q _=>⟨a,k b a q⟩,λ_ _ q=>q,λ_ _ _ q=>q,λ_ ps q=>⟨#[],by rw[q];simp⟩⟩
theorem Un.refl:Un fs ex H H h h:=Un.kept λ_ _ q=>q
theorem Un.laid(k:∀b u,h.get? b=some u->h'.get? b=some u)(hp:h.objs.size<=a)(hn:H a=none):Un fs ex H (upd H a o) h h' where
 keep:=λb u q _ _ _=>k b u q
 slot:=λb u q _ _ _=>⟨u.slots,k b u q⟩
 free:=λb u q n _=>by rw[Bq (Cy (GR (Bk q) hp))];exact n
 there:=λb u q _=>⟨u,k b u q⟩
 tups:=λb xs q=>by rw[Bq (Q0 q hn)];exact q
 frzs:=λb u xs q=>by rw[Bq (Q0 q hn)];exact q
 tbls:=λb ps q=>⟨#[],by rw[Bq (Q0 q hn),q];simp⟩
theorem Un.write(mu:Xc (H x))(he:e=x\/H e=some (.own x))(k:∀b u,b≠e->h.get? b=some u->h'.get? b=some u)(heo:∃u,h'.get? e=some u):Un fs ex H (upd H x o) h h':=by
 have d:∀b,H b=none->b≠x:=λb n z=>by subst z;rw[n]at mu;exact mu
 have c:∀b,H b=none->b≠e:=λb n z=>by
  subst z;rcases he with r | r
  ·exact d b n r
  ·rw[n]at r;cases r
 have a:∀b u,H b=some u->¬ Xc (some u)->b≠x:=λb u q nm z=>by subst z;rw[q]at mu;exact nm mu
 refine⟨λb u q n _ _=>k b u (c b n) q,λb u q n _ _=>⟨u.slots,k b u (c b n) q⟩,λb u q n _=>by rw[Bq (d b n)];exact n,λb u q _=>?_,
  λb xs q=>by rw[Bq (a b _ q λz=>z)];exact q,λb u xs q=>by rw[Bq (a b _ q λz=>z)];exact q,λb ps q=>⟨#[],by rw[Bq (a b _ q λz=>z),q];simp⟩⟩
 by_cases hbe:b=e
 ·subst hbe;exact heo
 ·exact⟨u,k b u hbe q⟩
end
noncomputable def Xo (h:Heap)(H:Hp):List Addr:=(List.range h.objs.size).filter λa=>(H a).isSome
noncomputable def G8 (h:Heap)(H:Hp):Heap:=PySem.W.hideAll h (Xo h H)
theorem Y7l(h:Heap)(H:Hp):(G8 h H).objs.size=h.objs.size:=PySem.W.hideAll_size _ _
variable{o:Obj}
theorem X0x{h:Heap}(e:h.get? b=some o)(n:H b=none):(G8 h H).get? b=some o :=
 PySem.W.hideAll_get _ e λa=>by
  have q:(H b).isSome=true:=(Rc.mp a).2;rw[n]at q;simp at q
theorem X5g{h:Heap}(e:(G8 h H).get? b=some o):h.get? b=some o/\H b=none:=by
 have a:h.get? b=some o:=PySem.W.of_hideAll (Xo h H) e;refine⟨a,?_⟩;cases q:H b with
 | none=>rfl
 | some x =>
  have c:b∈Xo h H:=Rc.mpr ⟨Gg.mpr (Bk a),by simp[q]⟩;have z:(G8 h H).get? b=none:=PySem.W.hideAll_none (Xo h H) c;rw[z]at e;cases e
structure Mod (K:U0) (mg:U4) (base:Heap):Prop where
 kin:K.In base
 glob:base.Ns mainGlobals mg
 blt:∃mb,base.Ns builtinsNs mb/\∀x:Str,x≠"__name__"->mb x=bootBuiltins x
 nolimit:base.NoLimit
structure Cx where
 prog:Program
 w:World
 K:U0
 mg:Str->Option Value
 base:Heap
 A:Around
 N:List Str
 s₀:Shared
 H₀:Hp
 env:Env
 outer:List Env
 stack:List Env
 ex:List Addr
 fn:Str->Bool
 calm:Bool
 pn:List (Addr×Obj)
 xe:Value->Shared->Prop
noncomputable def frs (l:List Env):List Addr:=l.filterMap (·.frame)
noncomputable abbrev Cx.fs (X:Cx):List Addr:=frs X.outer
def XS (sc:Scope)(x:Str):Prop:=sc.names.lookup x=some .local\/sc.names.lookup x=some .cell\/sc.names.lookup x=some .free
def Loc (sc:Scope)(x:Str):Prop:=sc.names.lookup x=some .local\/sc.names.lookup x=some .cell
def Look (env:Env)(h:Heap)(m:U4)(x:Str)(u:W4):Prop :=
 (env.kindOf x=some .local/\m x=some u)\/((env.kindOf x=some .cell\/env.kindOf x=some .free)/\∃c,env.cells.lookup x=some c/\h.IsCell c (some u))
structure Cx.Ok (X:Cx):Prop where
 mod:Mod X.K X.mg X.base
 kind:X.env.scope.kind=.function
 glob:X.env.globals=mainGlobals
 blt:X.env.builtins=builtinsNs
 above:X.s₀.heap.objs.size<=X.env.locals
 inj:∀x y c,X.env.cells.lookup x=some c->X.env.cells.lookup y=some c->x=y
 has:∀x,(X.env.kindOf x=some .cell\/X.env.kindOf x=some .free)->∃c,X.env.cells.lookup x=some c
 cab:∀x c,X.fn x=true->X.env.cells.lookup x=some c->X.s₀.heap.objs.size<=c
 hd:X.calm=true->X.A.handled=none
 frames:X.A.frames=some X.stack
 stk:X.stack=X.outer\/(X.stack=X.env::X.outer/\X.env.frame=some X.env.locals)
 exf:∀b∈X.ex,b≠X.env.locals/\∀x c,X.env.cells.lookup x=some c->c≠b
 bs:∀b o,X.base.get? b=some o->X.s₀.heap.get? b=some o/\X.H₀ b=none
 bsz:X.base.objs.size<=X.s₀.heap.objs.size
 noex:∀b o,X.base.get? b=some o->b∉X.ex
 exfs:∀b∈X.ex,b∉X.fs
 funs:X.s₀.heap.FunFrames X.base X.outer
 frf:∀b∈X.fs,X.H₀ b=none
structure Inv (X:Cx) (pins:U1) (σ:List (Option V)) (H:Hp) (s:U7):Prop where
 ok:X.Ok
 os:s.os=X.s₀.os
 bare:AllBare s.gens
 base:Un X.fs X.ex X.H₀ H X.s₀.heap s.heap
 loc:∃m,s.heap.Ns X.env.locals m/\∀(i:Nat) (x:Str) (v:V),X.N[i]?=some x->σ[i]?=some (some v)->XS X.env.scope x->∃u,RelV v u/\Look X.env s.heap m x u
 cell:∀x c,X.env.cells.lookup x=some c->∃v,s.heap.IsCell c v
 free:H X.env.locals=none
 freeC:∀x c,X.env.cells.lookup x=some c->H c=none
 pin:∀p∈X.pn++pins,s.heap.get? p.1=some p.2/\H p.1=none/\p.1≠X.env.locals/\p.1∉X.fs/\∀v,p.2.data≠.cell v
 hok:EY X.prog X.w H s.heap
 len:σ.length=X.N.length
section
variable {X:Cx}{pins:U1}{σ:List (Option V)}{H H':Hp}{s:U7}{h':Heap}
theorem Cx.Ok.nofr(ok:X.Ok)(e:X.base.get? b=some o):b∉X.fs:=λa=>by
 have:=(ok.funs.mem a).1;rw[e]at this;cases this
theorem Inv.bs(I:Inv X pins σ H s):∀b o,X.base.get? b=some o->s.heap.get? b=some o/\H b=none:=λb o e =>
 ⟨I.base.keep b o (I.ok.bs b o e).1 (I.ok.bs b o e).2 (I.ok.nofr e) (I.ok.noex b o e),I.base.free b o (I.ok.bs b o e).1 (I.ok.bs b o e).2 (I.ok.noex b o e)⟩
theorem Inv.bk(I:Inv X pins σ H s):∀b o,X.base.get? b=some o->s.heap.get? b=some o:=λb o e=>(I.bs b o e).1
theorem Inv.mod(I:Inv X pins σ H s):Mod X.K X.mg X.base:=I.ok.mod
theorem Inv.kIn(I:Inv X pins σ H s):X.K.In s.heap:=I.ok.mod.kin.keeps I.bk
theorem Inv.lt(I:Inv X pins σ H s):X.env.locals<s.heap.objs.size:=let ⟨_,hn,_⟩:=I.loc;hn.lt
theorem Inv.sz(I:Inv X pins σ H s):X.s₀.heap.objs.size<=s.heap.objs.size:=Fq I.ok.above (Xq I.lt)
theorem Inv.nofs(I:Inv X pins σ H s)(h:s.heap.objs.size<=a):a∉X.fs:=λc=>by
 obtain⟨_,o,b,_⟩:=I.ok.funs.mem c;exact absurd (GR (Bk b) (Fq I.sz h)) (J4 _)
theorem Inv.cne(I:Inv X pins σ H s):∀x c,X.env.cells.lookup x=some c->c≠X.env.locals:=λx c e z=>by
 obtain⟨v,o,d,hd⟩:=I.cell x c e;obtain⟨m,⟨o',es,ep,b,a,_⟩,_⟩:=I.loc;rw[z,b]at d;cases d;rw[a]at hd;cases hd
theorem Inv.funs(I:Inv X pins σ H s):s.heap.FunFrames X.base X.outer:=by
 have all:∀(l:List Env),(∀b∈frs l,b∈X.fs)->X.s₀.heap.FunFrames X.base l->s.heap.FunFrames X.base l:=by
  intro l;induction l with
  | nil=>intro _ _;trivial
  | cons env r ih =>
   intro f k;obtain⟨i,⟨L,o,a,g,j,hd⟩,h⟩:=k;have d:L∈X.fs:=f L (by unfold frs;rw[bJ,a];exact Ro);obtain⟨m,e⟩:=I.base.slot L o j (I.ok.frf L d) d λz=>I.ok.exfs L z d;exact⟨i,⟨L,_,a,g,e,hd⟩,ih (λb c=>f b (by unfold frs;rw[bJ,a];exact Rq _ c)) h⟩
 exact all X.outer (λ_ c=>c) I.ok.funs
theorem Inv.stack(I:Inv X pins σ H s):s.heap.FunFrames X.base X.stack:=by
 rcases I.ok.stk with e | ⟨e,hf⟩
 ·rw[e];exact I.funs
 ·rw[e];obtain⟨m,a,_⟩:=I.loc;refine .cons (by rw[I.ok.kind];decide) hf a ?_ I.funs;exact YG (Fq I.ok.bsz I.ok.above)
theorem Inv.stkSub(I:Inv X pins σ H s):∀b∈frs X.stack,b∈X.env.locals::X.fs:=λb a=>by
 rcases I.ok.stk with e | ⟨e,hf⟩
 ·rw[e]at a;exact Rq _ a
 ·rw[e]at a;unfold frs at a;rw[bJ,hf]at a;exact a
theorem Inv.stkFree(I:Inv X pins σ H s):∀b∈frs X.stack,H b=none:=λb a=>by
 rcases DY.mp (I.stkSub b a) with e | a
 ·rw[e];exact I.free
 ·obtain⟨_,o,c,_⟩:=I.ok.funs.mem a;exact I.base.free b o c (I.ok.frf b a) λz=>I.ok.exfs b z a
variable{g':Array GenState}{t':Nat}{d':Drawn}{ch:U3}
theorem Inv.step(I:Inv X pins σ H s)
  (hch:∀b∈ch,(b∈X.ex\/X.s₀.heap.objs.size<=b)/\b≠X.env.locals/\(∀x c,X.env.cells.lookup x=some c->c≠b)/\∀p∈X.pn++pins,p.1≠b)
  (keep:∀b o,b≠X.env.locals->b∉X.fs->b∉ch->s.heap.get? b=some o->H b=none->h'.get? b=some o)
  (slot:∀b o,b≠X.env.locals->b∈X.fs->b∉ch->s.heap.get? b=some o->H b=none->∃A,h'.get? b=some {o with slots:=A}) (free:∀b o,b∉ch->s.heap.get? b=some o->H b=none->H' b=none)
  (there:∀b o,b∉ch->s.heap.get? b=some o->∃o',h'.get? b=some o')
  (tups:∀b xs,H b=some (.tup xs)->H' b=some (.tup xs)) (frzs:∀b o u,H b=some (.frz o u)->H' b=some (.frz o u)) (tbls:∀b ps,H b=some (.tbl ps)->∃more,H' b=some (.tbl (ps++more)))
  (ns:∀m,s.heap.Ns X.env.locals m->h'.Ns X.env.locals m) (hok:EY X.prog X.w H' h') (hg:AllBare g'):
  Inv X pins σ H' {s with heap:=h',gens:=g',drawn:=d',toks:=t'}:=by
 have y:∀b o,X.s₀.heap.get? b=some o->b≠X.env.locals:=λb o e=>Cy (GR (Bk e) I.ok.above);have h:∀b o,X.s₀.heap.get? b=some o->b∉X.ex->b∉ch:=λb o e a j=>by
  rcases (hch b j).1 with z | z
  ·exact a z
  ·exact absurd (GR (Bk e) z) (J4 _)
 have g:∀x c,X.env.cells.lookup x=some c->∀v,s.heap.IsCell c v->h'.IsCell c v:=λx c e v ⟨o,t,hd⟩=>by
  have f:c∉ch:=λz=>(hch c z).2.2.1 x c e rfl;by_cases hc:c∈X.fs
  ·obtain⟨A,q⟩:=slot c o (I.cne x c e) hc f t (I.freeC x c e);exact⟨_,q,hd⟩
  ·exact⟨o,keep c o (I.cne x c e) hc f t (I.freeC x c e),hd⟩
 refine⟨I.ok,I.os,hg,⟨λb o e n j a=>?_,λb o e n j a=>?_,λb o e n a=>?_,λb o e a=>?_,λb xs e=>tups b xs (I.base.tups b xs e),λb o xs e=>frzs b o xs (I.base.frzs b o xs e),λb ps e=>?_⟩,?_,λx c e=>?_,?_,λx c e=>?_,λp hp=>?_,hok,I.len⟩
 ·exact keep b o (y b o e) j (h b o e a) (I.base.keep b o e n j a) (I.base.free b o e n a)
 ·obtain⟨A,e1⟩:=I.base.slot b o e n j a;obtain⟨B,e2⟩:=slot b _ (y b o e) j (h b o e a) e1 (I.base.free b o e n a);exact⟨B,e2⟩
 ·obtain⟨o',e1⟩:=I.base.there b o e a;exact free b o' (h b o e a) e1 (I.base.free b o e n a)
 ·obtain⟨o',e1⟩:=I.base.there b o e a;exact there b o' (h b o e a) e1
 ·obtain⟨J,e1⟩:=I.base.tbls b ps e;obtain⟨E,e2⟩:=tbls b _ e1;exact⟨J++E,by rw[e2,Array.append_assoc]⟩
 ·obtain⟨m,D,F⟩:=I.loc;refine⟨m,ns m D,λi x v e1 e2 G=>?_⟩;obtain⟨u,r,l⟩:=F i x v e1 e2 G;refine⟨u,r,?_⟩;rcases l with l | ⟨k,c,e,z⟩
  ·exact .inl l
  ·exact .inr ⟨k,c,e,g x c e _ z⟩
 ·obtain⟨v,z⟩:=I.cell x c e;exact⟨v,g x c e v z⟩
 ·obtain⟨m,⟨o,_,_,t,_⟩,_⟩:=I.loc;exact free _ o (λz=>(hch _ z).2.1 rfl) t I.free
 ·obtain⟨v,o,t,hd⟩:=I.cell x c e;exact free c o (λz=>(hch c z).2.2.1 x c e rfl) t (I.freeC x c e)
 ·obtain⟨e,n,ne,C,d⟩:=I.pin p hp;have f:p.1∉ch:=λz=>(hch p.1 z).2.2.2 p hp rfl;exact⟨keep p.1 p.2 ne C f e n,free p.1 p.2 f e n,ne,C,d⟩
theorem Inv.un(I:Inv X pins σ H s)(u:Un X.fs [] H H' s.heap h')(hok:EY X.prog X.w H' h'):Inv X pins σ H' {s with heap:=h',toks:=t'}:=by
 obtain⟨m,⟨o,es,ep,g,r⟩,_⟩:=id I.loc;obtain⟨k,j⟩:=u.any g I.free (by simp)
 exact I.step (g':=s.gens) (d':=s.drawn) (ch:=[]) (λ_ z=>nomatch z) (λb o _ c _ e n=>u.keep b o e n c (by simp)) (λb o _ c _ e n=>u.slot b o e n c (by simp)) (λb o _ e n=>u.free b o e n (by simp)) (λb o _ e=>u.there b o e (by simp)) u.tups u.frzs u.tbls (λl i=>by
  obtain⟨o',f,d,a,h⟩:=i
  rw[g]at a;cases a
  exact⟨_,f,d,j,h⟩) hok I.bare
theorem Inv.call(I:Inv X pins σ H s)(u:Un (frs X.stack) ch H H' s.heap h')(hok:EY X.prog X.w H' h')(hg:AllBare g')
  (hch:∀b∈ch,(b∈X.ex\/X.s₀.heap.objs.size<=b)/\b≠X.env.locals/\(∀x c,X.env.cells.lookup x=some c->c≠b)/\∀p∈X.pn++pins,p.1≠b):
  Inv X pins σ H' {s with heap:=h',gens:=g',drawn:=d',toks:=t'}:=by
 obtain⟨m,⟨o,es,ep,i,r⟩,_⟩:=id I.loc;obtain⟨q,h⟩:=u.any i I.free λz=>(hch _ z).2.1 rfl
 exact I.step (ch:=ch) hch (λb o h k a e n=>u.keep b o e n (λz=>(DY.mp (I.stkSub b z)).elim h k) a) (λb o _ _ a e n=>u.any e n a) (λb o a e n=>u.free b o e n a) (λb o a e=>u.there b o e a) u.tups u.frzs u.tbls (λt l=>by
  obtain⟨o',g,f,d,j⟩:=l
  rw[i]at d;cases d
  exact⟨_,g,f,h,j⟩) hok hg
theorem Inv.turned{it:Y1}(I:Inv X pins σ H s)(k:∀b o,b≠it->s.heap.get? b=some o->h'.get? b=some o)(hn:H it=none)(hL:it≠X.env.locals)
  (h1:it∈X.ex\/X.s₀.heap.objs.size<=it) (h2:∀x c,X.env.cells.lookup x=some c->c≠it) (h3:∀p∈X.pn++pins,p.1≠it):Inv X pins σ H {s with heap:=h',toks:=t'}:=by
 have d:∀b u,H b=some u->b≠it:=λb u e z=>by rw[z,hn]at e;cases e
 refine I.step (g':=s.gens) (d':=s.drawn) (ch:=[it]) (λb f=>?_) (λb o _ _ a e _=>k b o (λz=>a (by simp[z])) e) (λb o _ _ a e _=>⟨o.slots,k b o (λz=>a (by simp[z])) e⟩) (λ_ _ _ _ n=>n)
  (λb o a e=>⟨o,k b o (λz=>a (by simp[z])) e⟩) (λ_ _ e=>e) (λ_ _ _ e=>e) (λb ps e=>⟨#[],by rw[e];simp⟩) (λm h=>?_) (λb u e=>?_) I.bare
 ·have e:b=it:=by simpa using f
  subst e;exact⟨h1,hL,h2,h3⟩
 ·obtain⟨o,es,ep,g,r⟩:=h;exact⟨o,es,ep,k _ o (Ne.symm hL) g,r⟩
 ·refine(I.hok b u e).stay (λc v a q=>k c v ?_ q) (λ_ q=>q) λ_ _ q=>q;rcases a with z | z
  ·rw[z];exact d b u e
  ·exact d c _ z
theorem Inv.tok(I:Inv X pins σ H s)(t:Nat):Inv X pins σ H {s with toks:=t}:=I.un (h':=s.heap) (t':=t) Un.refl I.hok
theorem Inv.kept(I:Inv X pins σ H s)(k:∀b u,s.heap.get? b=some u->h'.get? b=some u):Inv X pins σ H {s with heap:=h',toks:=t'}:=I.un (Un.kept k) (I.hok.kept k)
theorem Inv.laid{o:HO}(I:Inv X pins σ H s)(k:∀b u,s.heap.get? b=some u->h'.get? b=some u)(hp:s.heap.objs.size<=a)(new:BJ X.prog X.w (upd H a o) h' a o):
  Inv X pins σ (upd H a o) {s with heap:=h',toks:=t'}:=I.un (Un.laid k hp (I.hok.fresh hp)) (I.hok.laid k hp new)
theorem Inv.write{x e:Y1}{o:HO}(I:Inv X pins σ H s)(mu:Xc (H x))(he:e=x\/H e=some (.own x))(k:∀b u,b≠e->s.heap.get? b=some u->h'.get? b=some u)(heo:∃u,h'.get? e=some u)
  (new:BJ X.prog X.w (upd H x o) h' x o):Inv X pins σ (upd H x o) {s with heap:=h',toks:=t'}:=I.un (Un.write mu he k heo) (I.hok.write mu he k heo new)
theorem Inv.pins_of{pins':U1}(I:Inv X pins σ H s)(h:∀p∈pins',s.heap.get? p.1=some p.2/\H p.1=none/\p.1≠X.env.locals/\p.1∉X.fs/\∀v,p.2.data≠.cell v):Inv X pins' σ H s :=
 ⟨I.ok,I.os,I.bare,I.base,I.loc,I.cell,I.free,I.freeC,λp hp=>(Gw.mp hp).elim (λz=>I.pin p (Oo _ z)) (h p),I.hok,I.len⟩
variable{i:Nat}{x:Str}
theorem j4{N:W0}(hN:N.Nodup){j:Nat}(a:N[i]?=some x)(b:N[j]?=some x):i=j:=by
 obtain⟨h1,e1⟩:=G4.mp a;obtain⟨h2,e2⟩:=G4.mp b;exact(List.getElem_inj hN).mp (e1.trans e2.symm)
variable{Q:Unit->Shared->Prop}
theorem lJ{M:Model}{A:W8}{E:U2}{v:V}{u:W4}(I:Inv X pins σ H s)(hN:X.N.Nodup)(hi:X.N[i]?=some x)(t:Loc X.env.scope x)(r:RelV v u)
  (h:∀s',Inv X pins (σ.set i (some v)) H s'->(∃a,Heap.SameBut a s.heap s'.heap/\(a=X.env.locals\/X.env.cells.lookup x=some a))->Q () s') (hf:X.fn x=true\/X.env.scope.names.lookup x=some .local:=by first | exact .inl rfl | exact .inr rfl | assumption):wpAny M A (storeName X.env x u) Q E s:=by
 obtain⟨m,S,hl⟩:=id I.loc;have L:(X.env.scope.kind == .class || (X.env.scope.kind == .module && X.env.locals != X.env.globals))=false:=by rw[I.ok.kind];rfl
 have F:i<σ.length:=by rw[I.len];exact(G4.mp hi).1
 have cne:=I.cne;have g:∀{a:Y1}{h':Heap},(∃o,s.heap.get? a=some o/\H a=none)->Heap.SameBut a s.heap h'->EY X.prog X.w H h':=λ{a h'} ha f b ob e=>by
  obtain⟨_,_,B⟩:=ha;refine(I.hok b ob e).stay (λc O l q=>(f.2 c ?_).trans q) (λ_ q=>q) λ_ _ q=>q;rintro rfl;rcases l with rfl | l
  ·rw[B]at e;cases e
  ·rw[B]at l;cases l
 rcases t with hk | hk
 ·refine wpAny_storeName_local hk S (λh' a0 f=>?_) L;obtain⟨oL,_,_,U,_⟩:=id S;refine h _ ⟨I.ok,I.os,I.bare,⟨λb o e n D t=>?_,λb o e n D t=>?_,I.base.free,λb o e t=>?_,I.base.tups,I.base.frzs,I.base.tbls⟩,⟨_,a0,λj y Y e1 e2 Z=>?_⟩,λy c e=>?_,I.free,I.freeC,λp hp=>?_,g ⟨oL,U,I.free⟩ f,by simpa using I.len⟩ ⟨_,f,.inl rfl⟩
  ·exact(f.2 b (Cy (GR (Bk e) I.ok.above))).trans (I.base.keep b o e n D t)
  ·obtain⟨W,e1⟩:=I.base.slot b o e n D t;exact⟨W,(f.2 b (Cy (GR (Bk e) I.ok.above))).trans e1⟩
  ·obtain⟨o',e1⟩:=I.base.there b o e t;exact⟨o',(f.2 b (Cy (GR (Bk e) I.ok.above))).trans e1⟩
  ·by_cases hj:j=i
   ·subst hj;rw[hi]at e1;cases e1;rw[bU F]at e2;cases e2;exact⟨u,r,.inl ⟨hk,by simp⟩⟩
   ·rw[YH (Ne.symm hj)]at e2;obtain⟨R,T,q⟩:=hl j y Y e1 e2 Z;refine⟨R,T,?_⟩;rcases q with ⟨k,e⟩ | ⟨k,c,e,z⟩
    ·refine .inl ⟨k,?_⟩;have:y≠x:=λe=>hj (j4 hN e1 (e ▸ hi));simp[this,e]
    ·exact .inr ⟨k,c,e,z.sameBut f (cne y c e)⟩
  ·obtain⟨O,z⟩:=I.cell y c e;exact⟨O,z.sameBut f (cne y c e)⟩
  ·obtain⟨e,n,ne,nf,d⟩:=I.pin p hp;exact⟨(f.2 p.1 ne).trans e,n,ne,nf,d⟩
 ·have C:X.fn x=true:=by
   rcases hf with z | z
   ·exact z
   ·rw[z]at hk;cases hk
  obtain⟨c,l⟩:=I.ok.has x (.inl hk);obtain⟨O,z⟩:=I.cell x c l;refine wpAny_storeName_cell I.ok.kind hk l z (λh' J f=>?_);obtain⟨oc,G,K⟩:=id z;refine h {s with heap:=h'} ⟨I.ok,I.os,I.bare,⟨λb o e n D t=>?_,λb o e n D t=>?_,I.base.free,λb o e t=>?_,I.base.tups,I.base.frzs,I.base.tbls⟩,⟨m,S.sameBut f (Ne.symm (cne x c l)),λj y Y e1 e2 Z=>?_⟩,λy P e=>?_,I.free,I.freeC,λp hp=>?_,g ⟨oc,G,I.freeC x c l⟩ f,by simpa using I.len⟩ ⟨c,f,.inr l⟩
  ·exact(f.2 b (Cy (GR (Bk e) (I.ok.cab x c C l)))).trans (I.base.keep b o e n D t)
  ·obtain⟨W,e1⟩:=I.base.slot b o e n D t;exact⟨W,(f.2 b (Cy (GR (Bk e) (I.ok.cab x c C l)))).trans e1⟩
  ·obtain⟨o',e1⟩:=I.base.there b o e t;exact⟨o',(f.2 b (Cy (GR (Bk e) (I.ok.cab x c C l)))).trans e1⟩
  ·by_cases hj:j=i
   ·subst hj;rw[hi]at e1;cases e1;rw[bU F]at e2;cases e2;exact⟨u,r,.inr ⟨.inl hk,c,l,J⟩⟩
   ·rw[YH (Ne.symm hj)]at e2;obtain⟨R,T,q⟩:=hl j y Y e1 e2 Z;refine⟨R,T,?_⟩;rcases q with q | ⟨k,P,e,z'⟩
    ·exact .inl q
    ·refine .inr ⟨k,P,e,z'.sameBut f ?_⟩;rintro rfl;exact hj (j4 hN e1 (I.ok.inj _ _ _ e l ▸ hi))
  ·by_cases hcc:P=c
   ·subst hcc;exact⟨_,J⟩
   ·obtain⟨w2,z2⟩:=I.cell y P e;exact⟨w2,z2.sameBut f hcc⟩
  ·obtain⟨e,n,ne,nf,d⟩:=I.pin p hp;refine⟨(f.2 p.1 ?_).trans e,n,ne,nf,d⟩;intro q;rw[q,G]at e;have q':oc=p.2:=Option.some.inj e;exact d O (by rw[<-q'];exact K)
theorem Wr{M:Model}{A:W8}{E:U2}{v:V}{u:W4}(I:Inv X pins σ H s)(hN:X.N.Nodup)(hi:X.N[i]?=some x)(hx:Loc X.env.scope x)(r:RelV v u)
  (h:∀s',Inv X pins (σ.set i (some v)) H s'->Q () s') (hf:X.fn x=true\/X.env.scope.names.lookup x=some .local:=by first | exact .inl rfl | exact .inr rfl | assumption):wpAny M A (storeName X.env x u) Q E s :=
 lJ I hN hi hx r (λs' a _=>h s' a) hf
theorem Inv.call'{s':U7}(I:Inv X pins σ H s)(ho:s'.os=s.os)(u:Un (frs X.stack) ch H H' s.heap s'.heap)(hok:EY X.prog X.w H' s'.heap)(hg:AllBare s'.gens)
  (hch:∀b∈ch,(b∈X.ex\/X.s₀.heap.objs.size<=b)/\b≠X.env.locals/\(∀x c,X.env.cells.lookup x=some c->c≠b)/\∀p∈X.pn++pins,p.1≠b):Inv X pins σ H' s':=by
 obtain⟨h',g',d',t',o'⟩:=s';have e:o'=s.os:=ho;subst e;exact I.call (g':=g') (t':=t') (d':=d') u hok hg hch
end
abbrev XK:=Value->Option Addr->Hp->Prop
abbrev St:=List (Option V)
abbrev VK:=V->Hp->Prop
abbrev TE:=St->Hp->VK->Prop
abbrev TT:=St->Hp->(Bool->Hp->Prop)->Prop
abbrev TA:=St->Hp->(List V->Hp->Prop)->Prop
structure Ends where
 nx:St->Hp->Prop
 rt:VK
 bk:St->Hp->Prop:=λ_ _=>False
 ct:St->Hp->Prop:=λ_ _=>False
abbrev TS:=Ends->St->Hp->Prop
def EP (X:Cx)(pins:U1)(σ:St)(Q:VK)(u:W4)(s':U7):Prop:=∃v H',Inv X pins σ H' s'/\RelV v u/\Q v H'
def TP (X:Cx)(pins:U1)(σ:St)(Q:Bool->Hp->Prop)(b:Bool)(s':U7):Prop:=∃H',Inv X pins σ H' s'/\Q b H'
def AP (X:Cx)(pins:U1)(σ:St)(Q:List V->Hp->Prop)(us:U5)(s':U7):Prop:=∃vs H',Inv X pins σ H' s'/\Vals vs us/\Q vs H'
def SP (X:Cx)(pins:U1)(D:Ends)(f:Flow)(s':U7):Prop :=
 match f with
 | .next=>∃σ' H',Inv X pins σ' H' s'/\D.nx σ' H'
 | .brk=>∃σ' H',Inv X pins σ' H' s'/\D.bk σ' H'
 | .cont=>∃σ' H',Inv X pins σ' H' s'/\D.ct σ' H'
 | .ret u=>∃v σ' H',Inv X pins σ' H' s'/\RelV v u/\D.rt v H'
def PE (X:Cx)(e:Expr)(t:TE):Prop :=
 ∀(pins:U1) (s:U7) (σ:St) (H:Hp) (Q:VK),Inv X pins σ H s->t σ H Q->wpAny (model X.prog X.w) X.A (eval e X.env) (EP X pins σ Q) X.xe s
def PT (X:Cx)(e:Expr)(t:TT):Prop :=
 ∀(pins:U1) (s:U7) (σ:St) (H:Hp) (Q:Bool->Hp->Prop),Inv X pins σ H s->t σ H Q->wpAny (model X.prog X.w) X.A (isTrue e X.env (eval e X.env)) (TP X pins σ Q) X.xe s
def PW (X:Cx)(e:Expr)(t:TT):Prop :=
 ∀(whole:Sem Value) (pins:U1) (s:U7) (σ:St) (H:Hp) (Q:Bool->Hp->Prop),Inv X pins σ H s->t σ H Q->wpAny (model X.prog X.w) X.A (isTrue e X.env whole) (TP X pins σ Q) X.xe s
variable{X:Cx}{e:Expr}
theorem PW.pt{t:TT}(h:PW X e t):PT X e t:=h _
def PA (X:Cx)(es:List Expr)(t:TA):Prop :=
 ∀(pos:Pos) (pins:U1) (s:U7) (σ:St) (H:Hp) (Q:List V->Hp->Prop),Inv X pins σ H s->t σ H Q->wpAny (model X.prog X.w) X.A (spliced (backTo pos (starEach es X.env))) (AP X pins σ Q) X.xe s
def PS (X:Cx)(st:Stmt)(t:TS):Prop :=
 ∀(pins:U1) (s:U7) (σ:St) (H:Hp) (D:Ends),Inv X pins σ H s->t D σ H->wpAny (model X.prog X.w) X.A (exec st X.env) (SP X pins D) X.xe s
def GF (X:Cx)(st:Y0)(t:TS):Prop :=
 ∀(pins:U1) (s:U7) (σ:St) (H:Hp) (D:Ends),Inv X pins σ H s->t D σ H->wpAny (model X.prog X.w) X.A (execs st X.env) (SP X pins D) X.xe s
variable{A:W8}{s:U7}
theorem Bd{α:Type}{t:Sem α}{Q Q':α->Shared->Prop}{M:Model}{E:U2}(h:wpAny M A t Q E s)(hQ:∀a s,Q a s->Q' a s):wpAny M A t Q' E s:=Eb h hQ λ_ _ x=>x
section
variable {X:Cx}
def Hg (i:Nat):TE:=λσ H Q=>∃v,σ[i]?=some (some v)/\Q v H
def tC (v:V):TE:=λ_ H Q=>Q v H
variable{x:Str}
theorem X7z{i:Nat}{pos:Pos}(hN:X.N[i]?=some x)(hv:XS X.env.scope x)(hd:autoParam ((x == ("__debug__":Str))=false) PySem.ldc._auto_1)(hcd:autoParam ((x == ("__classdict__":Str))=false) PySem.ldc._auto_1):PE X (.Name x pos) (Hg i):=by
 intro pins s σ H Q I h;obtain⟨v,e,h⟩:=h;obtain⟨m,b,a⟩:=I.loc;obtain⟨u,r,l⟩:=a i x v hN e hv;have fin:EP X pins σ Q u s:=⟨v,H,I,r,h⟩;rcases l with ⟨hk,hm⟩ | ⟨hk,c,hc,hcell⟩
 ·exact wpAny_Name (wpAny_loadName_local I.ok.kind hk b hm fin) hd
 ·rcases hk with hk | hk
  ·exact wpAny_Name (wpAny_loadName_cell I.ok.kind hk hc hcell fin) hd
  ·exact wpAny_Name (wpAny_loadName_free I.ok.kind hk hc hcell fin hcd) hd
theorem Ad{i j pos}:PE X (.Constant (.int i) j pos) (tC (.int i)):=λ_ _ _ H _ I h=>wpAny_Constant_int ⟨.int i,H,I.tok _,⟨_,O⟩,h⟩
theorem MP{b j pos}:PE X (.Constant (.bool b) j pos) (tC (.bl b)):=λ_ _ _ H _ I h=>Constant_bool ⟨.bl b,H,I,O,h⟩
theorem xJ{j pos}:PE X (.Constant .none j pos) (tC .non):=λ_ _ _ H _ I h=>Constant_none ⟨.non,H,I,O,h⟩
theorem Ej{x j pos}:PE X (.Constant (.str x) j pos) (tC (.str x)):=λ_ _ _ H _ I h=>Calls.Constant_str ⟨.str x,H,I.tok _,⟨_,O⟩,h⟩
def Gl (X:Cx)(x:Str):Prop:=X.env.kindOf x=some .globalImplicit
variable{u:W4}{Q:U2}
theorem Qw{E:U2}{pins:U1}{σ:St}{pos:Pos}(I:Inv X pins σ H s)(hg:Gl X x)(hm:X.mg x=some u)(h:Q u s)
  (hd:autoParam ((x == ("__debug__":Str))=false) PySem.ldc._auto_1):wpAny (model X.prog X.w) X.A (eval (.Name x pos) X.env) Q E s :=
 Calls.Name_function_global I.ok.kind hg (Calls.loadGlobal_global (by rw[I.ok.glob];exact I.mod.glob.keeps I.bk) hm h) hd
theorem Qo{E:U2}{pins:U1}{σ:St}{pos:Pos}(I:Inv X pins σ H s)(hg:Gl X x)(hm:X.mg x=none)(hv:bootBuiltins x=some u)(h:Q u s)
  (hn:autoParam (x≠"__name__") PySem.ldc._auto_1) (hd:autoParam ((x == ("__debug__":Str))=false) PySem.ldc._auto_1):wpAny (model X.prog X.w) X.A (eval (.Name x pos) X.env) Q E s:=by
 obtain⟨a,h1,h2⟩:=I.mod.blt;exact Calls.Name_function_global I.ok.kind hg (Calls.loadGlobal_builtin (by rw[I.ok.glob];exact I.mod.glob.keeps I.bk) hm (by rw[I.ok.blt];exact h1.keeps I.bk) ((h2 x hn).trans hv) h) hd
theorem HY{v:V}{pos:Pos}(hg:Gl X x)(hm:X.mg x=some u)(r:RelV v u)(hd:autoParam ((x == ("__debug__":Str))=false) PySem.ldc._auto_1):PE X (.Name x pos) (tC v):=
 λ_ _ _ H _ I h=>Qw I hg hm ⟨v,H,I,r,h⟩ hd
theorem Mh{v:V}{pos:Pos}(hg:Gl X x)(hm:X.mg x=none)(hv:bootBuiltins x=some u)(r:RelV v u)(hn:autoParam (x≠"__name__") PySem.ldc._auto_1)(hd:autoParam ((x == ("__debug__":Str))=false) PySem.ldc._auto_1):PE X (.Name x pos) (tC v):=
 λ_ _ _ H _ I h=>Qo I hg hm hv ⟨v,H,I,r,h⟩ hn hd
variable {a b:Expr}{ta tb:TE}{pos:Pos}
def PC (X:Cx)(op:CmpOp)(a b:Expr)(t:TE):Prop :=
 ∀(pins:U1) (s:U7) (σ:St) (H:Hp) (Q:VK),Inv X pins σ H s->t σ H Q ->
  wpAny (model X.prog X.w) X.A (eval a X.env) (λv s₁=>wpAny (model X.prog X.w) X.A (eval b X.env) (λu s₂=>wpAny (model X.prog X.w) X.A (compareOp op v u) (EP X pins σ Q) X.xe s₂) X.xe s₁) X.xe s
def tB (t:TE):TT:=λσ H Q=>t σ H λx H1=>∃c,x=.bl c/\Q c H1
theorem X7v{op:CmpOp}{t:TE}(h:PC X op a b t)(h1:autoParam (behindInMarks op b=false) PySem.W.hit_SB._auto_3):PT X (.Compare a [op] [b] pos) (tB t):=by
 intro pins s σ H Q I i;refine oW (Bd (h pins s σ H _ I i) λv j h1=>Bd h1 λu k h2=>Bd h2 λc l ⟨x,H1,g,e,f⟩=>?_) h1;obtain⟨d,rfl,q⟩:=f;cases e;exact M7 ⟨H1,g,q⟩
theorem Fp{t:TE}(h:PE X e t)(he:autoParam (∀whole,isTrue e X.env whole=(do let v ← whole;standAt e.pos;holding [v] (truthy v))) PySem.wpAny_For._auto_3):PT X e (tB t):=by
 intro pins s σ H Q I c;refine isTrue_plain (Bd (h pins s σ H _ I c) λv g ⟨x,H1,f,a,b⟩=>?_) (he _);obtain⟨d,rfl,q⟩:=b;cases a;exact M7 ⟨H1,f,q⟩
variable {tA tB':TT}{rest:List Expr}
def Z8 (t u:TT):TT:=λσ H Q=>t σ H λc H1=>if c=true then u σ H1 Q else Q false H1
def yN (t u:TT):TT:=λσ H Q=>t σ H λc H1=>if c=true then Q true H1 else u σ H1 Q
def Z0 (t:TT):TT:=λσ H Q=>t σ H λc H1=>Q (!c) H1
theorem Nt(ha:PT X a tA):PW X (.BoolOp .And [a] pos) tA:=by
 intro d pins s σ H Q I h;refine isTrue_and (Bd (ha pins s σ H Q I h) λc b e=>?_);cases c with
 | true=>exact isTrue_and_nil e
 | false=>exact e
theorem La(ha:PT X a tA):PW X (.BoolOp .Or [a] pos) tA:=by
 intro d pins s σ H Q I h;refine isTrue_or (Bd (ha pins s σ H Q I h) λc b e=>?_);cases c with
 | false=>exact isTrue_or_nil e
 | true=>exact e
theorem Ma(ha:PT X a tA)(hb:PW X (.BoolOp .And (b::rest) pos) tB'):PW X (.BoolOp .And (a::b::rest) pos) (Z8 tA tB'):=by
 intro g pins s σ H Q I h;refine isTrue_and (Bd (ha pins s σ H _ I h) λc f ⟨H1,d,e⟩=>?_);cases c with
 | true=>exact hb g pins f σ H1 Q d e
 | false=>exact⟨H1,d,e⟩
theorem Jb(ha:PT X a tA)(hb:PW X (.BoolOp .Or (b::rest) pos) tB'):PW X (.BoolOp .Or (a::b::rest) pos) (yN tA tB'):=by
 intro g pins s σ H Q I h;refine isTrue_or (Bd (ha pins s σ H _ I h) λc f ⟨H1,d,e⟩=>?_);cases c with
 | true=>exact⟨H1,d,e⟩
 | false=>exact hb g pins f σ H1 Q d e
theorem Ij(ha:PT X a tA):PT X (.UnaryOp .Not a pos) (Z0 tA):=by
 intro pins s σ H Q I h;exact isTrue_not (ha pins s σ H (λc H1=>Q (!c) H1) I h)
def Uk (ta tb:TE):TE:=λσ H Q=>ta σ H λx H1=>∃c,x=.bl c/\if c=true then tb σ H1 Q else Q (.bl false) H1
def Zy (ta tb:TE):TE:=λσ H Q=>ta σ H λx H1=>∃c,x=.bl c/\if c=true then Q (.bl true) H1 else tb σ H1 Q
def Ud (ta:TE):TE:=λσ H Q=>ta σ H λx H1=>∃c,x=.bl c/\Q (.bl (!c)) H1
theorem Jt{op}{t:TE}(h:PE X a t):PE X (.BoolOp op [a] pos) t:=λpins s σ H Q I b=>BoolOp_one (h pins s σ H Q I b)
theorem KZ(ha:PE X a ta)(hb:PE X (.BoolOp .And (b::rest) pos) tb):PE X (.BoolOp .And (a::b::rest) pos) (Uk ta tb):=by
 intro pins s σ H Q I h;refine BoolOp_and (Bd (ha pins s σ H _ I h) λv g ⟨x,H1,e,f,d⟩=>?_);obtain⟨c,rfl,d⟩:=d;cases f;refine M7 ?_;cases c with
 | true=>exact hb pins g σ H1 Q e d
 | false=>exact⟨.bl false,H1,e,rfl,d⟩
theorem vP(ha:PE X a ta)(hb:PE X (.BoolOp .Or (b::rest) pos) tb):PE X (.BoolOp .Or (a::b::rest) pos) (Zy ta tb):=by
 intro pins s σ H Q I h;refine BoolOp_or (Bd (ha pins s σ H _ I h) λv g ⟨x,H1,e,f,d⟩=>?_);obtain⟨c,rfl,d⟩:=d;cases f;refine M7 ?_;cases c with
 | false=>exact hb pins g σ H1 Q e d
 | true=>exact⟨.bl true,H1,e,rfl,d⟩
theorem lZ(ha:PE X a ta):PE X (.UnaryOp .Not a pos) (Ud ta):=by
 intro pins s σ H Q I h;refine UnaryOp_ (Bd (ha pins s σ H _ I h) λv f ⟨x,H1,e,d,b⟩=>?_);obtain⟨c,rfl,b⟩:=b;cases d;exact not_of (M7 ⟨.bl (!c),H1,e,O,b⟩)
def yO (t:TT)(ta tb:TE):TE:=λσ H Q=>t σ H λc H1=>if c=true then ta σ H1 Q else tb σ H1 Q
theorem Mj{c:Expr}(hc:PT X c tA)(ha:PE X a ta)(hb:PE X b tb):PE X (.IfExp c a b pos) (yO tA ta tb):=by
 intro pins s σ H Q I h;refine wpAny_IfExp (Bd (hc pins s σ H _ I h) λd e ⟨H1,g,f⟩=>?_);cases d with
 | true=>exact ha pins e σ H1 Q g f
 | false=>exact hb pins e σ H1 Q g f
end
def Ax (K:U0)(H:Hp)(a:Y1)(xs:List V):Prop :=
 Rd H a (.lst xs) \/
  ∃(o:Obj) (its:U9) (n:Nat),K.lookup a=some o/\o.cls=.type "list"/\o.dict=none/\o.data=.seq its n/\its.size<=sizeLine/\Vals xs its.toList
def Ao (K:U0)(H:Hp)(a:Y1)(xs:List V):Prop :=
 Rd H a (.tup xs) \/
  ∃(o:Obj) (its:U9) (n:Nat),K.lookup a=some o/\o.cls=.type "tuple"/\o.data=.seq its n/\its.size<=sizeLine/\Vals xs its.toList
noncomputable def jq:Value->Option V
 | .none=>some .non
 | .bool b=>some (.bl b)
 | .int i _=>some (.int i)
 | .str x _=>some (.str x)
 | .bytes b _=>some (.byt b)
 | .float b _=>some (.flt b)
 | .ref a=>some (.ref a)
 | .type n=>some (.ty n)
 | _=>none
variable{x:V}{u:W4}
theorem RelV.abs(r:RelV x u):jq u=some x:=by
 cases x with
 | non=>cases r;rfl
 | bl _=>cases r;rfl
 | int _=>obtain⟨t,rfl⟩:=r;rfl
 | str _=>obtain⟨t,rfl⟩:=r;rfl
 | byt _=>obtain⟨t,rfl⟩:=r;rfl
 | flt _=>obtain⟨t,rfl⟩:=r;rfl
 | ref _=>cases r;rfl
 | ty _=>cases r;rfl
theorem RelV.inj{y:V}(r:RelV x u)(q:RelV y u):x=y:=Option.some.inj (r.abs.symm.trans q.abs)
theorem Vals.inj{ys:List V}(h:Vals xs us)(h':Vals ys us):xs=ys:=by
 induction h generalizing ys with
 | nil=>cases h';rfl
 | cons r t ih=>cases h' with
  | cons r' t'=>rw[r.inj r',ih t']
section
variable {X:Cx}{pins:U1}{σ:St}{H:Hp}{s:U7}{a:Y1}{xs ys:List V}
theorem Ax.of{K:U0}(h:H a=some (.lst xs)):Ax K H a xs:=.inl (.inl h)
theorem Ao.of{K:U0}(h:H a=some (.tup xs)):Ao K H a xs:=.inl (.inl h)
theorem Inv.list(I:Inv X pins σ H s)(h:Ax X.K H a xs):∃its:List Value,Vals xs its/\PlainL s.heap a its.toArray/\xs.length<=sizeLine:=by
 rcases h with h | ⟨o,its,n,hk,hc,hd,hs,hz,r⟩
 ·obtain⟨z,its,n,r,e⟩:=h.ok I.hok;exact⟨its,r,⟨_,n,e,O,O,O⟩,z⟩
 ·refine⟨its.toList,r,⟨o,n,I.kIn a o hk,hc,hd,by simpa using hs⟩,?_⟩;have e:=r.length;simp only[Ep]at e;lia
theorem Inv.tuple(I:Inv X pins σ H s)(h:Ao X.K H a xs):∃its:List Value,Vals xs its/\IsTup s.heap a its.toArray/\xs.length<=sizeLine:=by
 rcases h with h | ⟨o,its,n,hk,hc,hs,hz,r⟩
 ·obtain⟨z,its,r,p⟩:=h.ok I.hok;exact⟨its,r,p,z⟩
 ·refine⟨its.toList,r,⟨o,I.kIn a o hk,hc,n,by simpa using hs⟩,?_⟩;have e:=r.length;simp only[Ep]at e;lia
theorem Inv.list_inj(I:Inv X pins σ H s)(h:Ax X.K H a xs)(h':Ax X.K H a ys):xs=ys:=by
 obtain⟨its,r,⟨o,n,e,_,_,d⟩,_⟩:=I.list h;obtain⟨its',c,⟨o',f,b,_,_,d'⟩,_⟩:=I.list h';rw[e]at b;cases b;rw[d]at d';injection d' with d1 _;have:its=its':=by simpa using congrArg Array.toList d1
 subst this;exact r.inj c
theorem Inv.tuple_inj(I:Inv X pins σ H s)(h:Ao X.K H a xs)(h':Ao X.K H a ys):xs=ys:=by
 obtain⟨its,r,⟨o,e,_,n,d⟩,_⟩:=I.tuple h;obtain⟨its',c,⟨o',b,_,f,d'⟩,_⟩:=I.tuple h';rw[e]at b;cases b;rw[d]at d';injection d' with d1 _;have:its=its':=by simpa using congrArg Array.toList d1
 subst this;exact r.inj c
end
noncomputable abbrev Cx.wish (X:Cx)(E:U2):Cx:={X with xe:=E}
noncomputable abbrev Cx.nox (X:Cx):Cx:=X.wish λ_ _=>False
theorem Cx.Ok.wish(ok:X.Ok)(E:U2):(X.wish E).Ok :=
 ⟨ok.mod,ok.kind,ok.glob,ok.blt,ok.above,ok.inj,ok.has,ok.cab,ok.hd,ok.frames,ok.stk,ok.exf,ok.bs,ok.bsz,ok.noex,ok.exfs,ok.funs,ok.frf⟩
theorem Cx.Ok.unwish{E:U2}(ok:(X.wish E).Ok):X.Ok :=
 ⟨ok.mod,ok.kind,ok.glob,ok.blt,ok.above,ok.inj,ok.has,ok.cab,ok.hd,ok.frames,ok.stk,ok.exf,ok.bs,ok.bsz,ok.noex,ok.exfs,ok.funs,ok.frf⟩
section
variable {X:Cx}{pins:U1}{σ:St}{H:Hp}{s:U7}{E:U2}
theorem Inv.wish(I:Inv X pins σ H s)(E:U2):Inv (X.wish E) pins σ H s:=⟨I.ok.wish E,I.os,I.bare,I.base,I.loc,I.cell,I.free,I.freeC,I.pin,I.hok,I.len⟩
theorem Inv.unwish(I:Inv (X.wish E) pins σ H s):Inv X pins σ H s:=⟨I.ok.unwish,I.os,I.bare,I.base,I.loc,I.cell,I.free,I.freeC,I.pin,I.hok,I.len⟩
theorem SP.unwish{D:Ends}{f:Flow}{s':U7}(h:SP (X.wish E) pins D f s'):SP X pins D f s':=by
 cases f with
 | next=>obtain⟨a,H',I,q⟩:=h;exact⟨a,H',I.unwish,q⟩
 | brk=>obtain⟨a,H',I,q⟩:=h;exact⟨a,H',I.unwish,q⟩
 | cont=>obtain⟨a,H',I,q⟩:=h;exact⟨a,H',I.unwish,q⟩
 | ret u=>obtain⟨v,a,H',I,r,q⟩:=h;exact⟨v,a,H',I.unwish,r,q⟩
theorem GF.nox{st:Y0}{t:TS}(h:GF X.nox st t):GF X st t:=λpins s σ H D I a =>
 Eb (h pins s σ H D (I.wish _) a) (λ_ _ q=>q.unwish) λ_ _ z=>False.elim z
end
section
variable {X:Cx}{st:Stmt}{rest:Y0}{t u:TS}{e:Expr}{te:TE}{pos:Pos}
def Ug:TS:=λD σ H=>D.nx σ H
def Ua (t u:TS):TS:=λD σ H=>t {D with nx:=u D} σ H
theorem CT:GF X [] Ug:=λ_ _ σ H _ I h=>VF ⟨σ,H,I,h⟩
theorem Aw(h1:PS X st t)(h2:GF X rest u):GF X (st::rest) (Ua t u):=by
 intro pins s σ H D I h;refine ak (Bd (h1 pins s σ H {D with nx:=u D} I h) λf a q=>?_);cases f with
 | next =>
  obtain⟨c,H',b,q⟩:=q;exact h2 pins a c H' D b q
 | ret v=>exact q
 | brk=>exact q
 | cont=>exact q
theorem Av(h1:PS X st t):GF X [st] t:=by
 intro pins s σ H D I h;refine ak (Bd (h1 pins s σ H D I h) λf a q=>?_);cases f with
 | next=>exact VF q
 | ret v=>exact q
 | brk=>exact q
 | cont=>exact q
theorem Inv.quiet{pins:U1}{σ:St}(I:Inv X pins σ H s):interactive X.env=false:=by simp[interactive,I.ok.kind]
def Ui (te:TE):TS:=λD σ H=>te σ H λ_ H1=>D.nx σ H1
theorem Nr(he:PE X e te)(hs:autoParam (swapsWith e none pos.line X.env=pure false) PySem.W.hit_SB._auto_3):PS X (.Expr e pos) (Ui te):=by
 intro pins s σ H D I h;exact wpAny_Expr_any (Bd (he pins s σ H _ I h) λv d ⟨x,H1,b,c,a⟩=>⟨σ,H1,b,a⟩) I.quiet hs
def Ub (te:TE):TS:=λD σ H=>te σ H D.rt
theorem Bb(he:PE X e te):PS X (.Return (some e) pos) (Ub te):=by
 intro pins s σ H D I h;exact wpAny_Return_some (Bd (he pins s σ H _ I h) λv d ⟨x,H1,c,a,b⟩=>⟨x,σ,H1,c,a,b⟩)
def Z4 (c:TT)(t u:TS):TS:=λD σ H=>c σ H λb H1=>if b=true then t D σ H1 else u D σ H1
theorem CQ{c:Expr}{a b:Y0}{tc:TT}(hc:PT X c tc)(ha:GF X a t)(hb:GF X b u):PS X (.If c a b pos) (Z4 tc t u):=by
 intro pins s σ H D I h;refine wpAny_If (Bd (hc pins s σ H _ I h) λd e ⟨H1,g,f⟩=>?_);cases d with
 | true=>exact ha pins e σ H1 D g f
 | false=>exact hb pins e σ H1 D g f
def Kf:TS:=λ_ _ _=>False
theorem Ml:PS X st Kf:=λ_ _ _ _ _ _ h=>h.elim
theorem lG{sts:Y0}:GF X sts Kf:=λ_ _ _ _ _ _ h=>h.elim
end
abbrev TG:=V->St->Hp->(St->Hp->Prop)->Prop
abbrev RG:=List V->St->Hp->(St->Hp->Prop)->Prop
def PG (X:Cx)(target:Expr)(t:TG):Prop :=
 ∀(pins:U1) (s:U7) (σ:St) (H:Hp) (v:V) (u:W4) (Q:St->Hp->Prop),Inv X pins σ H s->RelV v u->t v σ H Q ->
  wpAny (model X.prog X.w) X.A (assign target X.env u) (λ_ s'=>∃σ' H',Inv X pins σ' H' s'/\Q σ' H') X.xe s
def Zq (X:Cx)(ts:List Expr)(t:RG):Prop :=
 ∀(pins:U1) (s:U7) (σ:St) (H:Hp) (vs:List V) (us:U5) (Q:St->Hp->Prop),Inv X pins σ H s->Vals vs us->t vs σ H Q ->
  wpAny (model X.prog X.w) X.A (assignInOrder ((assignEach ts X.env).map (·.2)) us) (λ_ s'=>∃σ' H',Inv X pins σ' H' s'/\Q σ' H') X.xe s
abbrev RD:=V->V->V->Hp->(Hp->Prop)->Prop
def Xb (X:Cx)(t:RD):Prop :=
 ∀(pins:U1) (s:U7) (σ:St) (H:Hp) (o i v:V) (ov iv u:W4) (Q:Hp->Prop),Inv X pins σ H s->RelV o ov->RelV i iv->RelV v u->t o i v H Q ->
  wpAny (model X.prog X.w) X.A (setItem ov iv u) (λ_ s'=>∃H',Inv X pins σ H' s'/\Q H') X.xe s
section
variable {X:Cx}{pos:Pos}
def CK (i:Nat):TG:=λv σ H Q=>Q (σ.set i (some v)) H
theorem CN{i:Nat}{x:Str}(hN:X.N.Nodup)(hi:X.N[i]?=some x)(hx:Loc X.env.scope x)(hf:X.fn x=true\/X.env.scope.names.lookup x=some .local:=by first | exact .inl rfl | exact .inr rfl | assumption):PG X (.Name x pos) (CK i):=by
 intro pins s σ H v u Q I r h;exact au (Wr I hN hi hx r (λs' a=>⟨_,H,a,h⟩) hf)
def WK:RG:=λvs σ H Q=>vs=[]/\Q σ H
def K8 (t:TG)(u:RG):RG:=λvs σ H Q=>∃v r,vs=v::r/\t v σ H λσ' H'=>u r σ' H' Q
theorem Kc:Zq X [] WK:=by
 intro pins s σ H vs us Q I r h;obtain⟨e,h⟩:=h;subst e;cases r;exact assignInOrder_nil ⟨σ,H,I,h⟩
theorem Dz{e:Expr}{es:List Expr}{t:TG}{u:RG}(h1:PG X e t)(h2:Zq X es u)
  (hs:autoParam ((assignEach (e::es) X.env).map (·.2)=assign e X.env::(assignEach es X.env).map (·.2)) PySem.W.hit_SB._auto_3):Zq X (e::es) (K8 t u):=by
 intro pins s σ H vs us Q I r h;obtain⟨v,f,e1,h⟩:=h;subst e1;cases r with
 | cons r rr =>
  rw[hs];refine bF (Bd (h1 pins s σ H _ _ _ I r h) λ_ a ⟨c,H1,d,b⟩=>?_);exact h2 pins a c H1 _ _ Q d rr b
def WD (K:U0)(n:Nat)(t:RG):TG:=λv σ H Q=>∃a xs,v=.ref a/\Ao K H a xs/\xs.length=n/\t xs σ H Q
theorem Ka{es:List Expr}{k:Nat}{t:RG}{n:Nat}(hc:X.calm=true)(h:Zq X es t)
  (hn:autoParam ((assignEach es X.env).length=n) PySem.W.hit_SB._auto_3) (hst:autoParam ((assignEach es X.env).findIdx? (·.1)=none) PySem.W.hit_SB._auto_3):PG X (.Tuple es k pos) (WD X.K n t):=by
 intro pins s σ H v u Q I r c;obtain⟨a,xs,e1,j,g,c⟩:=c;subst e1;cases r;obtain⟨its,d,f,m⟩:=I.tuple j;refine assign_Tuple_tuple (I.ok.hd hc) f (by simp[hn,<-g,d.length]) hst λh' i=>?_;have l:Inv X pins σ H {s with heap:=h'}:=I.kept (t':=s.toks) λb o e=>i b o (Cy (Bk e)) e;exact h pins _ σ H xs _ Q l (by simpa using d) c
def jh (to ti:TE)(t:RD):TG:=λv σ H Q=>to σ H λo H1=>ti σ H1 λi H2=>t o i v H2 λH3=>Q σ H3
theorem X7y{o i:Expr}{to ti:TE}{t:RD}(ho:PE X o to)(hi:PE X i ti)(hs:Xb X t)
  (ha:autoParam (∀v,assign (.Subscript o i pos) X.env v=(do
   let a ← holding [v] (eval o X.env)
   let b ← holding [v,a] (eval i X.env)
   standAt pos
   holding [v,a,b] (setItem a b v)
   release [v,a,b] [])) PySem.wpAny_For._auto_3):PG X (.Subscript o i pos) (jh to ti t):=by
 intro pins s σ H v u Q I r h;rw[ha];refine Ak (JQ (Bd (ho pins s σ H _ I h) λa e ⟨x,H1,m,j,l⟩=>?_));refine Ak (JQ (Bd (hi pins e σ H1 _ m l) λb g ⟨y,H2,f,d,c⟩=>?_));refine Ak (Oh (Ak (JQ (Bd (hs pins g σ H2 x y v a b u _ f j d r c) λ_ q ⟨k,n,p⟩=>?_))));exact wpAny_release ⟨σ,k,n,p⟩
def Mu (te:TE)(g:TG):TS:=λD σ H=>te σ H λx H1=>g x σ H1 D.nx
theorem XR{tg:Expr}{te:TE}{g:TG}(he:PE X e te)(hg:PG X tg g)(hs:autoParam (swapsWithSole [tg] e pos.line X.env=pure false) PySem.W.hit_SB._auto_3)(hw:autoParam (swappedStores [tg] e X.env=pure none) PySem.W.hit_SB._auto_3)
  (h1:autoParam ((assignEach [tg] X.env).map (·.2)=[assign tg X.env]) PySem.W.hit_SB._auto_3):PS X (.Assign [tg] e pos) (Mu te g):=by
 intro pins s σ H D I h;refine wpAny_Assign_stores (Bd (he pins s σ H _ I h) λv b ⟨x,H1,d,a,c⟩=>?_) hs hw;rw[h1];exact Bd (hg pins b σ H1 x v _ d a c) λ_ f q=>q
theorem BR{i:Nat}{x:Str}{e:Expr}{te:TE}{pos':Pos}(hN:X.N.Nodup)(hi:X.N[i]?=some x)(hx:Loc X.env.scope x)(he:PE X e te)(hs:autoParam (swapsWith e (some (.Name x pos')) pos.line X.env=pure false) PySem.W.hit_SB._auto_3)(hf:X.fn x=true\/X.env.scope.names.lookup x=some .local:=by first | exact .inl rfl | exact .inr rfl | assumption):
  PS X (.Assign [.Name x pos'] e pos) (Mu te (CK i)):=by
 intro pins s σ H D I h;refine wpAny_Assign_Name (Bd (he pins s σ H _ I h) λv f ⟨y,H1,d,a,b⟩=>?_) hs;exact Wr d hN hi hx a (λg c=>⟨_,H1,c,b⟩) hf
def Zx (i j:Nat)(ta:TA):TS:=λD σ H=>ta σ H λvs H1=>∃v w,vs=[v,w]/\D.nx ((σ.set i (some v)).set j (some w)) H1
theorem X7w{i j:Nat}{x y:Str}{a b:Expr}{ta:TA}{px py pt:Pos}{kt k2 pt2}(hc:X.calm=true)(hN:X.N.Nodup)(hi:X.N[i]?=some x)(hj:X.N[j]?=some y)(hij:i≠j)
  (hx:X.env.scope.names.lookup x=some .local) (hy:X.env.scope.names.lookup y=some .local) (ha:PA X [a,b] ta)
  (hw:swappedStores [.Tuple [.Name x px,.Name y py] kt pt] (.Tuple [a,b] k2 pt2) X.env=pure (some [x,y]))
  (hs:autoParam (swapsWithSole [.Tuple [.Name x px,.Name y py] kt pt] (.Tuple [a,b] k2 pt2) pos.line X.env=pure false) PySem.W.hit_SB._auto_3):
  PS X (.Assign [.Tuple [.Name x px,.Name y py] kt pt] (.Tuple [a,b] k2 pt2) pos) (Zx i j ta):=by
 intro pins s σ H D I h;rw[exec_Assign_arm];refine Ak (Oh ?_);rw[hs];refine Ak (BZ ?_);rw[if_neg (by decide)];refine Ak (Tuple_ (Bd (ha _ pins s σ H _ I h) λus d ⟨vs,H1,u,r,k⟩=>?_));obtain⟨v,w,e1,k⟩:=k;subst e1;obtain⟨c,u2,rfl,m,f⟩:∃c u2,us=[c,u2]/\RelV v c/\RelV w u2:=by
  cases r with
  | cons p q =>
   cases q with
   | cons p' q' =>
    cases q';exact⟨_,_,O,p,p'⟩
 refine KD ?_ (by show 2<=sizeLine;decide);have n:Inv X pins σ H1 {d with heap:=d.heap.push { cls:=.type "tuple",data:=.seq [c,u2].toArray}}:=u.kept (t':=d.toks) λb o e=>Ca _ e;rw[hw];refine Ak (BZ ?_);show wpAny (model X.prog X.w) X.A (do rule "assign.swapped-stores";let items ← unpackItems (.ref d.heap.objs.size) 2 none;assignInOrder [λv=>bindName X.env y v,λv=>bindName X.env x v] items.reverse;pure Flow.next) _ _ _;refine Ak (Mx (Ak (unpackItems_tuple (items:=#[c,u2]) (I.ok.hd hc) (IsTup.new d.heap _) λh' g=>?_)));have z:=n.kept (h':=h') (t':=d.toks) λb o e=>g b o (Cy (Bk e)) e;show wpAny _ _ (assignInOrder [λv=>bindName X.env y v,λv=>bindName X.env x v] [u2,c] >>= λ_=>pure Flow.next) _ _ _;refine Ak (bF (wpAny_bindName (Wr z hN hj (.inl hy) f (λB t=>?_) (.inr hy))));refine bF (wpAny_bindName (Wr t hN hi (.inl hx) m (λC l=>assignInOrder_nil (BZ ?_)) (.inr hx)));rw[List.set_comm _ _ (Ne.symm hij)]at l;exact⟨_,H1,l,k⟩
end
section
variable {X:Cx}{pos:Pos}
def Ke (c:TT)(tb:TS):TS:=λD σ H=>∃W:Nat->St->Hp->Prop,(∃m,W m σ H)/\∀m σ H,W m σ H ->
 c σ H λb H1=>if b=true then ∃N:St->Hp->Prop,(∀σ' H',N σ' H'->∃m',m'<m/\W m' σ' H')/\tb {D with nx:=N,ct:=N,bk:=D.nx} σ H1 else D.nx σ H1
theorem Wn{c:Expr}{body:Y0}{tc:TT}{tb:TS}(hp:PassesOwn (model X.prog X.w) X.A X.env X.xe)(hc:PT X c tc)(hb:GF X body tb):PS X (.While c body [] pos) (Ke tc tb):=by
 intro pins s σ H D I h;obtain⟨W,⟨y,x⟩,e⟩:=h;refine wpAny_While (codeAny_whileLoop (λn s'=>∃σ' H',Inv X pins σ' H' s'/\W n σ' H') ?_ y ⟨σ,H,I,x⟩);rintro n t ⟨i,H1,z,B⟩;refine QL hp (Bd (hc pins t i H1 _ z (e n i H1 B)) λb u ⟨H2,q,g⟩=>?_);cases b with
 | true =>
  obtain⟨N,r,g⟩:=g;rw[if_pos rfl];refine QL hp (Bd (hb pins u i H2 _ q g) λf C j=>?_);cases f with
  | next =>
   obtain⟨d,a,o,k⟩:=j;obtain⟨m,l,p⟩:=r d a k;exact⟨m,l,d,a,o,p⟩
  | cont =>
   obtain⟨d,a,o,k⟩:=j;obtain⟨m,l,p⟩:=r d a k;exact⟨m,l,d,a,o,p⟩
  | brk=>exact j
  | ret v=>exact j
 | false =>
  rw[if_neg DK];exact VF ⟨i,H2,q,g⟩
end
structure It where
 go:Nat->Hp->Prop
 yld:Nat->Hp->V->Hp->Prop
 stop:Nat->Hp->Prop
def Dq (X:Cx)(pins:U1)(H:Hp)(b:Y1):Prop :=
 H b=none/\b≠X.env.locals/\b∉X.fs/\(b∈X.ex\/X.s₀.heap.objs.size<=b)/\(∀x c,X.env.cells.lookup x=some c->c≠b)/\∀p∈X.pn++pins,p.1≠b
variable{pins:U1}{σ:St}
theorem Inv.fpOk{H':Hp}(I:Inv X pins σ H s)(hb:s.heap.objs.size<=b)(hn:H' b=none):Dq X pins H' b:=by
 refine⟨hn,Kz (GR I.lt hb),I.nofs hb,.inr (Fq I.sz hb),λx c e z=>?_,λp hp z=>?_⟩
 ·obtain⟨v,q⟩:=I.cell x c e;exact absurd (GR q.lt (by rw[z];exact hb)) (J4 _)
 ·exact absurd (GR (Bk (I.pin p hp).1) (by rw[z];exact hb)) (J4 _)
structure Turn (P:U8) (w:W3) (K:U0) (tg:Expr) (J:It) (fp:U3) (it:Y1) (tn:Nat->Heap->Prop):Prop where
 mem:it∈fp
 obj:∀i h,tn i h->∀b∈fp,∃o,h.get? b=some o/\∀v,o.data≠.cell v
 keep:∀i h h',tn i h->(∀b∈fp,∀o,h.get? b=some o->h'.get? b=some o)->tn i h'
 item:∀(X:Cx),X.prog=P->X.w=w->X.K=K->X.calm=true->∀(i:Nat) (pins:U1) (s:U7) (σ:St) (H:Hp) (E:U2),Inv X pins σ H s->(∀b∈fp,Dq X pins H b)->tn i s.heap->J.go i H ->
  wpAny (model P w) X.A (pyNext (.ref it)) (λr s1=>∃u,r=some u /\
   wpAny (model P w) X.A (letOwnedTupleGo tg (.ref it) u) (λ_ s2=>∃x H',Inv X pins σ H' s2/\RelV x u/\J.yld i H x H'/\tn (i+1) s2.heap/\∀b∈fp,H' b=none) E s1) E s
 done:∀(X:Cx),X.prog=P->X.w=w->X.K=K->X.calm=true->∀(i:Nat) (pins:U1) (s:U7) (σ:St) (H:Hp) (E:U2),Inv X pins σ H s->(∀b∈fp,Dq X pins H b)->tn i s.heap->J.stop i H ->
  wpAny (model P w) X.A (pyNext (.ref it)) (λr s1=>r=none/\Inv X pins σ H s1) E s
 self:∀(A:W8) (i:Nat) (s:U7) (Q:U2) (E:U2),tn i s.heap->Q (.ref it) s->wpAny (model P w) A (pyIter (.ref it)) Q E s
abbrev TI:=St->Hp->(It->Hp->Prop)->Prop
def PIE (X:Cx)(pins:U1)(σ:St)(tg:Expr)(R:It->Hp->Prop)(itv:W4)(s2:U7):Prop :=
 ∃(it:Y1) (fp:U3) (tn:Nat->Heap->Prop) (J:It) (H':Hp),itv=.ref it/\Inv X pins σ H' s2/\Turn X.prog X.w X.K tg J fp it tn/\tn 0 s2.heap/\(∀b∈fp,Dq X pins H' b)/\R J H'
def PI (X:Cx)(tg iter:Expr)(wi:TI):Prop :=
 ∀(pins:U1) (s:U7) (σ:St) (H:Hp) (R:It->Hp->Prop),Inv X pins σ H s->wi σ H R ->
  wpAny (model X.prog X.w) X.A (eval iter X.env) (λv s1=>wpAny (model X.prog X.w) X.A (pyIter v) (PIE X pins σ tg R) X.xe s1) X.xe s
variable{tg:Expr}
theorem Zi{M:Model}{E:U2}{it:Y1}{n:String}{vs:U9}{Q:Unit->Shared->Prop}(ho:s.heap.get? it=some o)(hc:o.cls=.type n)(hd:o.data=.fields vs)
  (hn:["enumerate","zip","dict_itemiterator","dict_reverseitemiterator","odict_iterator","itertools.zip_longest","itertools.pairwise"].contains n=false) (hQ:Q () s):wpAny M A (letOwnedTupleGo tg (.ref it) u) Q E s:=by
 unfold letOwnedTupleGo;cases tg<;>first
  | exact BZ hQ
  | (cases u<;>first
    | exact BZ hQ
    | (refine Ak (wpAny_load ho ?_);rw[hc,hd];show wpAny M A (if (["enumerate","zip","dict_itemiterator","dict_reverseitemiterator","odict_iterator","itertools.zip_longest","itertools.pairwise"].contains n && vs[0]? == some (rawInt _))=true then _ else _) Q E s;rw[if_neg (by intro h;rw[hn,Bool.false_and]at h;cases h)];exact BZ hQ))
def Lh (K:U0)(a:Y1):It :=
 ⟨λi H=>∃xs x,Ax K H a xs/\xs[i]?=some x,λi H x H'=>H'=H/\∀xs,Ax K H a xs->xs[i]?=some x,λi H=>∃xs,Ax K H a xs/\xs.length<=i⟩
def RL (K:U0)(a:Y1):It :=
 ⟨λi H=>∃xs x,Ao K H a xs/\xs[i]?=some x,λi H x H'=>H'=H/\∀xs,Ao K H a xs->xs[i]?=some x,λi H=>∃xs,Ao K H a xs/\xs.length<=i⟩
def GZ (lo:Int)(n:Nat):It:=⟨λi _=>i<n,λi H x H'=>H'=H/\x=.int (lo+i),λi _=>n<=i⟩
variable{K:U0}
theorem Y4x(a it:Y1):Turn P w K tg (Lh K a) [it] it (λi h=>h.IsListIter it a i) where
 mem:=by simp
 obj:=λi h st b f=>by
  have e:b=it:=by simpa using f
  subst e;obtain⟨o,e,c,d⟩:=st;exact⟨o,e,λv z=>by rw[d]at z;cases z⟩
 keep:=λi h h' st k=>st.at λo e=>k it (by simp) o e
 item:=by
  intro X A D q G i pins s σ H E I j st B;subst A D q;obtain⟨xs,x,l,y⟩:=B;obtain⟨its,n,p,N⟩:=I.list l;obtain⟨u,Q,J⟩:=n.get y;obtain⟨r,m,M,t,C,F⟩:=j it (by simp);refine wpAny_pyNext_list_item st p.isList (x:=u) (by simpa using Q) λh' g L=>?_;have R:Inv X pins σ H {s with heap:=h'}:=I.turned (t':=s.toks) (λb o f e=>(L.2 b f).trans e) r m t C F;obtain⟨o,e,c,d⟩:=id g;exact⟨u,O,Zi (s:={s with heap:=h'}) e c d (by decide) ⟨x,H,R,J,⟨O,λys S=>by rw[I.list_inj S l];exact y⟩,g,λb f=>(j b f).1⟩⟩
 done:=by
  intro X A D q G i pins s σ H E I j st B;subst A D q;obtain⟨xs,l,y⟩:=B;obtain⟨its,n,p,N⟩:=I.list l;obtain⟨r,m,M,t,C,F⟩:=j it (by simp);have U:=n.length;exact wpAny_pyNext_list_end (I.ok.hd G) st p.isList (by simp;lia) λh' T=>⟨O,I.turned (t':=s.toks) (λb o f e=>T b o f e) r m t C F⟩
 self:=λ_ _ _ _ _ st h=>wpAny_pyIter_listiter st h
theorem Y3w(a it:Y1):Turn P w K tg (RL K a) [it] it (λi h=>h.IsTupleIter it a i) where
 mem:=by simp
 obj:=λi h st b f=>by
  have e:b=it:=by simpa using f
  subst e;obtain⟨o,e,c,d⟩:=st;exact⟨o,e,λv z=>by rw[d]at z;cases z⟩
 keep:=λi h h' st k=>st.at λo e=>k it (by simp) o e
 item:=by
  intro X A D q G i pins s σ H E I j st B;subst A D q;obtain⟨xs,x,l,y⟩:=B;obtain⟨its,n,p,N⟩:=I.tuple l;obtain⟨u,Q,J⟩:=n.get y;obtain⟨r,m,M,t,C,F⟩:=j it (by simp);refine wpAny_pyNext_tuple_item st (show s.heap.IsTuple a its.toArray from p) (x:=u) (by simpa using Q) λh' g L=>?_;have R:Inv X pins σ H {s with heap:=h'}:=I.turned (t':=s.toks) (λb o f e=>(L.2 b f).trans e) r m t C F;obtain⟨o,e,c,d⟩:=id g;exact⟨u,O,Zi (s:={s with heap:=h'}) e c d (by decide) ⟨x,H,R,J,⟨O,λys S=>by rw[I.tuple_inj S l];exact y⟩,g,λb f=>(j b f).1⟩⟩
 done:=by
  intro X A D q G i pins s σ H E I j st B;subst A D q;obtain⟨xs,l,y⟩:=B;obtain⟨its,n,p,N⟩:=I.tuple l;obtain⟨r,m,M,t,C,F⟩:=j it (by simp);have U:=n.length;exact wpAny_pyNext_tuple_end (I.ok.hd G) st (show s.heap.IsTuple a its.toArray from p) (by simp;lia) λh' T=>⟨O,I.turned (t':=s.toks) (λb o f e=>T b o f e) r m t C F⟩
 self:=λ_ _ _ _ _ st h=>wpAny_pyIter_tupleiter st h
theorem Y3x(it:Y1)(lo:Int)(n:Nat):Turn P w K tg (GZ lo n) [it] it (λi h=>IsRangeIter h it (lo+(i:Nat)*1) ((n:Int)-(i:Nat)) 1) where
 mem:=by simp
 obj:=λi h st b a=>by
  have e:b=it:=by simpa using a
  subst e
  exact⟨_,st,λv z=>by
   have A:Data.fields _=Data.cell v:=z
   cases A⟩
 keep:=λi h h' st k=>k it (by simp) _ st
 item:=by
  intro X m r g x i pins s σ H E I d st p;subst m r g;obtain⟨j,f,y,l,q,u⟩:=d it (by simp);have W:=Walks.range (prog:=X.prog) (w:=X.w) (I.ok.hd x) it lo 1 n;refine W.item i s _ _ p st λv h' tk B c kk=>?_;obtain⟨t,rfl⟩:=B;have C:Inv X pins σ H {s with heap:=h',toks:=tk}:=I.turned (λb o a e=>kk b o (by simpa using a) e) j f l q u;refine⟨_,O,Zi (s:={s with heap:=h',toks:=tk}) (n:="range_iterator") c rfl rfl (by decide) ⟨.int (lo+i),H,C,⟨t,?_⟩,⟨O,O⟩,c,λb a=>(d b a).1⟩⟩;rw[Int.mul_one]
 done:=by
  intro X m r g x i pins s σ H E I d st p;subst m r g;obtain⟨j,f,y,l,q,u⟩:=d it (by simp);exact wpAny_pyNext_range_end (I.ok.hd x) st (by have:n<=i:=p;lia) λh' D=>⟨O,I.turned (t':=s.toks) (λb o a e=>D b o a e) j f l q u⟩
 self:=λ_ _ _ _ _ st h=>wpAny_pyIter_rangeiter st h
section
variable {X:Cx}{tg:Expr}
def V6 (K:U0)(tl:TE):TI:=λσ H R=>tl σ H λx H1=>∃a,x=.ref a/\(∃xs,Ax K H1 a xs)/\R (Lh K a) H1
def jf (K:U0)(tl:TE):TI:=λσ H R=>tl σ H λx H1=>∃a,x=.ref a/\(∃xs,Ao K H1 a xs)/\R (RL K a) H1
theorem Je{l:Expr}{tl:TE}(hl:PE X l tl):PI X tg l (V6 X.K tl):=by
 intro pins s σ H R I h;refine Bd (hl pins s σ H _ I h) λv c ⟨x,H1,d,g,i⟩=>?_;obtain⟨a,e,⟨xs,j⟩,q⟩:=i;subst e;cases g;obtain⟨its,k,p,m⟩:=d.list j;refine X8 p.isList ?_;refine⟨c.heap.objs.size,[c.heap.objs.size],_,_,H1,O,d.kept (t':=c.toks) λb o e=>Ca _ e,Y4x a _,⟨_,Ew _ rfl,O,O⟩,λb f=>?_,q⟩;have e:b=c.heap.objs.size:=by simpa using f
 subst e;exact d.fpOk (Bc _) (d.hok.fresh (Bc _))
theorem XQ{l:Expr}{tl:TE}(hl:PE X l tl):PI X tg l (jf X.K tl):=by
 intro pins s σ H R I h;refine Bd (hl pins s σ H _ I h) λv c ⟨x,H1,d,g,i⟩=>?_;obtain⟨a,e,⟨xs,j⟩,q⟩:=i;subst e;cases g;obtain⟨its,k,p,m⟩:=d.tuple j;refine bH (show c.heap.IsTuple a its.toArray from p) ?_;refine⟨c.heap.objs.size,[c.heap.objs.size],_,_,H1,O,d.kept (t':=c.toks) λb o e=>Ca _ e,Y3w a _,⟨_,Ew _ rfl,O,O⟩,λb f=>?_,q⟩;have e:b=c.heap.objs.size:=by simpa using f
 subst e;exact d.fpOk (Bc _) (d.hok.fresh (Bc _))
theorem Y9g{R:It->Hp->Prop}{E:U2}{lo hi:Int}{t u v:Tok}{tk:Nat}(I:Inv X pins σ H s)(h1:-(2^62)<=lo)(h2:lo<2^62)(h3:-(2^62)<=hi)(h4:hi<2^62)
  (q:R (GZ lo (hi-lo).toNat) H):wpAny (model X.prog X.w) X.A (pyIter (.ref s.heap.objs.size)) (PIE X pins σ tg R) E {s with heap:=s.heap.push { cls:=.type "range",data:=.fields #[.int lo t,.int hi u,.int 1 v]},toks:=tk}:=by
 refine wpAny_pyIter_range (IsRange.new ..) (small_one h1 h2 h3 h4) ?_;have a:Inv X pins σ H {s with heap:=s.heap.push { cls:=.type "range",data:=.fields #[.int lo t,.int hi u,.int 1 v]},toks:=tk}:=I.kept λb o e=>Ca _ e
 refine⟨(s.heap.push { cls:=.type "range",data:=.fields #[.int lo t,.int hi u,.int 1 v]}).objs.size,[(s.heap.push { cls:=.type "range",data:=.fields #[.int lo t,.int hi u,.int 1 v]}).objs.size],_,_,H,O,
  a.kept (t':=tk) λb o e=>Ca _ e,Y3x _ lo (hi-lo).toNat,?_,λb c=>?_,q⟩
 ·have e1:lo+((0:Nat):Int)*1=lo:=by simp
  have e2:(((hi-lo).toNat:Nat):Int)-((0:Nat):Int)=Builtin.Range.rangeSize lo hi 1:=by rw[rangeSize_one];split<;>lia
  show IsRangeIter _ _ (lo+((0:Nat):Int)*1) ((((hi-lo).toNat:Nat):Int)-((0:Nat):Int)) 1;rw[e1,e2];exact Ew _ rfl
 ·have e:b=(s.heap.push { cls:=.type "range",data:=.fields #[.int lo t,.int hi u,.int 1 v]}).objs.size:=by simpa using c
  subst e;exact a.fpOk (Bc _) (a.hok.fresh (Bc _))
def V5 (ta:TA):TI:=λσ H R=>ta σ H λvs H1=>∃j:Int,vs=[.int j]/\-(2^62)<=j/\j<2^62/\R (GZ 0 j.toNat) H1
theorem Mp{a:Expr}{ta:TA}{p pos:Pos}(hg:Gl X "range")(hm:X.mg "range"=none)(ha:PA X [a] ta)(hs:autoParam (starEach [a] X.env=[(false,eval a X.env)]) PySem.W.hit_SB._auto_3):PI X tg (.Call (.Name "range" p) [a] [] pos) (V5 ta):=by
 intro pins s σ H R I h;refine Call_ (Qo I hg hm boot_range (PyProof.Rows.callWith_type1 (Bd (ha pos pins s σ H _ I h) λus g ⟨vs,H1,f,d,b⟩=>?_) hs rfl));obtain⟨j,e,b,c,q⟩:=b;subst e;cases d with
 | cons r rr =>
  cases rr;obtain⟨t,rfl⟩:=r;exact call_range_1 (Y9g f (by lia) (by lia) b c (by simpa using q))
def Z5 (wi:TI)(g:TG)(tb:TS):TS:=λD σ H=>wi σ H λJ H1=>∃W:Nat->Nat->St->Hp->Prop,(∃m,W 0 m σ H1)/\∀i m σ H,W i m σ H ->
 (J.stop i H/\D.nx σ H)\/(J.go i H/\∃N:St->Hp->Prop,(∀σ' H',N σ' H'->∃m',m'<m/\W (i+1) m' σ' H')/\∀x H',J.yld i H x H'->g x σ H' λσ2 H2=>tb {D with nx:=N,ct:=N,bk:=D.nx} σ2 H2)
noncomputable def Ft (fp:U3)(h:Heap):List (Addr×Obj):=fp.filterMap λb=>(h.get? b).map λo=>(b,o)
variable{fp:U3}
theorem TF{h:Heap}(hb:b∈fp)(e:h.get? b=some o):(b,o)∈Ft fp h:=List.mem_filterMap.mpr ⟨b,hb,by rw[e];rfl⟩
theorem Y6t{h:Heap}{p:Addr×Obj}(hp:p∈Ft fp h):p.1∈fp/\h.get? p.1=some p.2:=by
 obtain⟨b,a,e⟩:=List.mem_filterMap.mp hp;cases q:h.get? b with
 | none=>rw[q]at e;cases e
 | some o =>
  rw[q]at e;have c:(b,o)=p:=Option.some.inj e;subst c;exact⟨a,q⟩
theorem Inv.pinned(I:Inv X pins σ H s)(hf:∀b∈fp,Dq X pins H b)(ho:∀b∈fp,∃o,s.heap.get? b=some o/\∀v,o.data≠.cell v):Inv X (pins++Ft fp s.heap) σ H s :=
 I.pins_of λp hp=>(Gw.mp hp).elim (λz=>I.pin p (Ho _ z)) λz=>by
  obtain⟨a,e⟩:=Y6t z;obtain⟨h,g,f,_⟩:=hf p.1 a;obtain⟨o,c,d⟩:=ho p.1 a;rw[e]at c;cases c;exact⟨e,h,g,f,d⟩
theorem Inv.unpinned{pl:U1}(I:Inv X (pins++pl) σ H s):Inv X pins σ H s:=I.pins_of λp hp=>I.pin p (Ho _ (Oo _ hp))
theorem JC{iter:Expr}{body:Y0}{wi:TI}{g:TG}{tb:TS}{pos:Pos}(hp:PassesOwn (model X.prog X.w) X.A X.env X.xe)(hc:X.calm=true)(hi:PI X tg iter wi)(hg:PG X tg g)(j:GF X body tb)
  (hs:autoParam (∀x,foldedSetIterable iter X.env x=pure x) PySem.wpAny_For._auto_3):PS X (.For tg iter body [] pos) (Z5 wi g tb):=by
 intro pins s σ H D I h;refine wpAny_For (Bd (hi pins s σ H _ I h) λv s1 h1=>Bd h1 λa0 s2 h2=>?_) hs;obtain⟨it,fp,tn,J,H2,e,I2,T,K,U,W,⟨m0,w0⟩,C⟩:=h2;subst e;have p:∀{H':Hp},(∀b∈fp,H' b=none)->∀b∈fp,Dq X pins H' b:=λhn b j=>⟨hn b j,(U b j).2⟩;refine codeAny_forLoop_any (λn s'=>∃i σ' H',Inv X pins σ' H' s'/\tn i s'.heap/\(∀b∈fp,H' b=none)/\W i n σ' H') ?_ m0 ⟨0,σ,H2,I2,K,λb j=>(U b j).1,w0⟩;rintro n R ⟨i,z,F,S,E,y,w3⟩;rcases C i n z F w3 with ⟨stop,qn⟩ | ⟨go,N,hN,step⟩
 ·refine QL hp (Bd (T.done X rfl rfl rfl hc i pins R z F X.xe S (p y) E stop) λr s4 ⟨M,I4⟩=>?_);subst M;exact VF ⟨z,F,I4,qn⟩
 ·refine QL hp (Bd (T.item X rfl rfl rfl hc i pins R z F X.xe S (p y) E go) λr s4 ⟨u,M,Y⟩=>?_);subst M;refine QL hp (Bd Y λ_ P ⟨x,Q,V,r5,y5,t,G⟩=>?_);have O:=V.pinned (p G) (T.obj _ _ t);refine QL hp (Bd (hg _ P z Q x u _ O r5 (step x Q y5)) λ_ s6 ⟨σ6,H6,I6,q6⟩=>?_);refine QL hp (Bd (j _ s6 σ6 H6 _ I6 q6) λf L q=>?_);have l:∀{c:St}{k:Hp},Inv X (pins++Ft fp P.heap) c k L->N c k->∃m,m<n/\∃i σ' H',Inv X pins σ' H' L/\tn i L.heap/\(∀b∈fp,H' b=none)/\W i m σ' H':=λ{c k} a B=>by
   obtain⟨m',hm,w7⟩:=hN c k B;refine⟨m',hm,i+1,c,k,a.unpinned,T.keep _ _ _ t λb j o e=>(a.pin (b,o) (Ho _ (Ho _ (TF j e)))).1,λb j=>?_,w7⟩;obtain⟨o,e,d⟩:=T.obj _ _ t b j;exact(a.pin (b,o) (Ho _ (Ho _ (TF j e)))).2.1
  cases f with
  | next=>obtain⟨c,k,a,B⟩:=q;exact l a B
  | cont=>obtain⟨c,k,a,B⟩:=q;exact l a B
  | brk=>obtain⟨c,k,a,q⟩:=q;exact⟨c,k,a.unpinned,q⟩
  | ret v=>obtain⟨x7,c,k,a,Z,q⟩:=q;exact⟨x7,c,k,a.unpinned,Z,q⟩
end
variable{D:Ends}
theorem Ss{g:TG}{tb:TS}(Pv:Nat->St->Hp->Prop)(h0:Pv 0 σ H)(hl:∀i σ H,i<=xs.length->Pv i σ H->Ax K H a xs)
  (hs:∀i x σ H,xs[i]?=some x->Pv i σ H->g x σ H λb H2=>tb {D with nx:=Pv (i+1),ct:=Pv (i+1),bk:=D.nx} b H2) (hd:∀σ H,Pv xs.length σ H->D.nx σ H):
  ∃W:Nat->Nat->St->Hp->Prop,(∃m,W 0 m σ H)/\∀i m σ H,W i m σ H ->
   ((Lh K a).stop i H/\D.nx σ H)\/((Lh K a).go i H/\∃N:St->Hp->Prop,(∀c H',N c H'->∃m',m'<m/\W (i+1) m' c H')/\∀x H',(Lh K a).yld i H x H'->g x σ H' λb H2=>tb {D with nx:=N,ct:=N,bk:=D.nx} b H2):=by
 refine⟨λi m σ H=>m=xs.length-i/\i<=xs.length/\Pv i σ H,⟨xs.length,by simp,Ef _,h0⟩,?_⟩;rintro i m σ H ⟨rfl,hi,p⟩;have q:=hl i σ H hi p;by_cases hlt:i<xs.length
 ·refine .inr ⟨⟨xs,xs[i],q,by simp[hlt]⟩,Pv (i+1),λc H' d=>⟨xs.length-(i+1),by omega,O,hlt,d⟩,λx H' y=>?_⟩;obtain⟨e,y⟩:=y;subst e;exact hs i x σ _ (y xs q) p
 ·have e:i=xs.length:=by lia
  subst e;exact .inl ⟨⟨xs,q,Bc _⟩,hd σ H p⟩
theorem X5z{g:TG}{tb:TS}(Pv:Nat->St->Hp->Prop)(h0:Pv 0 σ H)(hl:∀i σ H,i<=xs.length->Pv i σ H->Ao K H a xs)
  (hs:∀i x σ H,xs[i]?=some x->Pv i σ H->g x σ H λb H2=>tb {D with nx:=Pv (i+1),ct:=Pv (i+1),bk:=D.nx} b H2) (hd:∀σ H,Pv xs.length σ H->D.nx σ H):
  ∃W:Nat->Nat->St->Hp->Prop,(∃m,W 0 m σ H)/\∀i m σ H,W i m σ H ->
   ((RL K a).stop i H/\D.nx σ H)\/((RL K a).go i H/\∃N:St->Hp->Prop,(∀c H',N c H'->∃m',m'<m/\W (i+1) m' c H')/\∀x H',(RL K a).yld i H x H'->g x σ H' λb H2=>tb {D with nx:=N,ct:=N,bk:=D.nx} b H2):=by
 refine⟨λi m σ H=>m=xs.length-i/\i<=xs.length/\Pv i σ H,⟨xs.length,by simp,Ef _,h0⟩,?_⟩;rintro i m σ H ⟨rfl,hi,p⟩;have q:=hl i σ H hi p;by_cases hlt:i<xs.length
 ·refine .inr ⟨⟨xs,xs[i],q,by simp[hlt]⟩,Pv (i+1),λc H' d=>⟨xs.length-(i+1),by omega,O,hlt,d⟩,λx H' y=>?_⟩;obtain⟨e,y⟩:=y;subst e;exact hs i x σ _ (y xs q) p
 ·have e:i=xs.length:=by lia
  subst e;exact .inl ⟨⟨xs,q,Bc _⟩,hd σ H p⟩
theorem ZD{lo:Int}{n:Nat}{g:TG}{tb:TS}(Pv:Nat->St->Hp->Prop)(h0:Pv 0 σ H)
  (hs:∀i σ H,i<n->Pv i σ H->g (.int (lo+i)) σ H λa H2=>tb {D with nx:=Pv (i+1),ct:=Pv (i+1),bk:=D.nx} a H2) (hd:∀σ H,Pv n σ H->D.nx σ H):
  ∃W:Nat->Nat->St->Hp->Prop,(∃m,W 0 m σ H)/\∀i m σ H,W i m σ H ->
   ((GZ lo n).stop i H/\D.nx σ H)\/((GZ lo n).go i H/\∃N:St->Hp->Prop,(∀b H',N b H'->∃m',m'<m/\W (i+1) m' b H')/\∀x H',(GZ lo n).yld i H x H'->g x σ H' λa H2=>tb {D with nx:=N,ct:=N,bk:=D.nx} a H2):=by
 refine⟨λi m σ H=>m=n-i/\i<=n/\Pv i σ H,⟨n,by simp,Ef _,h0⟩,?_⟩;rintro i m σ H ⟨rfl,hi,p⟩;by_cases hlt:i<n
 ·refine .inr ⟨hlt,Pv (i+1),λb H' c=>⟨n-(i+1),by lia,O,hlt,c⟩,λx H' y=>?_⟩;obtain⟨e,y⟩:=y;subst e y;exact hs i σ _ hlt p
 ·have e:i=n:=by lia
  subst e;exact .inl ⟨Bc _,hd σ H p⟩
theorem Y8q{c:TT}{tb:TS}(Pv:St->Hp->Prop)(μ:St->Hp->Nat)(h0:Pv σ H)
  (hs:∀σ H,Pv σ H->c σ H λb H1=>if b=true then tb {D with nx:=λa H'=>Pv a H'/\μ a H'<μ σ H,ct:=λa H'=>Pv a H'/\μ a H'<μ σ H,bk:=D.nx} σ H1 else D.nx σ H1)
  (mono:∀σ H Q Q',(∀b H1,Q b H1->Q' b H1)->c σ H Q->c σ H Q'):Ke c tb D σ H:=by
 refine⟨λm σ H=>m=μ σ H/\Pv σ H,⟨_,O,h0⟩,?_⟩;rintro m σ H ⟨rfl,p⟩;refine mono σ H _ _ (λb H1 q=>?_) (hs σ H p);cases b with
 | true=>exact⟨_,λa H' ⟨d,l⟩=>⟨_,l,rfl,d⟩,q⟩
 | false=>exact q
abbrev R2:=V->V->Hp->VK->Prop
def Ed (X:Cx)(f:Value->Value->Sem Value)(r:R2):Prop :=
 ∀(pins:U1) (s:U7) (σ:St) (H:Hp) (x y:V) (v u:W4) (Q:VK),Inv X pins σ H s->RelV x v->RelV y u->r x y H Q ->
  wpAny (model X.prog X.w) X.A (f v u) (EP X pins σ Q) X.xe s
def Zk (X:Cx)(f:Value->Sem Value)(r:V->Hp->VK->Prop):Prop :=
 ∀(pins:U1) (s:U7) (σ:St) (H:Hp) (x:V) (v:W4) (Q:VK),Inv X pins σ H s->RelV x v->r x H Q ->
  wpAny (model X.prog X.w) X.A (f v) (EP X pins σ Q) X.xe s
def CJ (X:Cx)(f:W4)(r:List V->Hp->VK->Prop):Prop :=
 ∀(pins:U1) (s:U7) (σ:St) (H:Hp) (xs:List V) (us:U5) (Q:VK),Inv X pins σ H s->Vals xs us->r xs H Q ->
  wpAny (model X.prog X.w) X.A (call f us) (EP X pins σ Q) X.xe s
def nP (X:Cx)(r:V->Hp->(Bool->Hp->Prop)->Prop):Prop :=
 ∀(pins:U1) (s:U7) (σ:St) (H:Hp) (x:V) (v:W4) (Q:Bool->Hp->Prop),Inv X pins σ H s->RelV x v->r x H Q ->
  wpAny (model X.prog X.w) X.A (truthy v) (TP X pins σ Q) X.xe s
def Pk (r:R2)(ta tb:TE):TE:=λσ H Q=>ta σ H λx H1=>tb σ H1 λy H2=>r x y H2 Q
def yL (r:V->Hp->VK->Prop)(ta:TE):TE:=λσ H Q=>ta σ H λx H1=>r x H1 Q
def rI (C:Int->Int->Prop)(g:Int->Int->V):R2:=λx y H Q=>∃i j,x=.int i/\y=.int j/\C i j/\Q (g i j) H
def Kw (g:Int->Int->V):R2:=λx y H Q=>∃i j,x=.int i/\y=.int j/\Q (g i j) H
def rU (g:Int->V):V->Hp->VK->Prop:=λx H Q=>∃i,x=.int i/\Q (g i) H
section
variable {X:Cx}{a b c:Expr}{ta tb tc:TE}{pos:Pos}
variable{f:Value->Value->Sem Value}
theorem Qn(ha:PE X a ta)(hb:PE X b tb){R:V->V->Hp->Prop}(I:Inv X pins σ H s)
  (h:ta σ H λx H1=>tb σ H1 λy H2=>R x y H2) {Q:U2}
  (hf:∀v u c x y H2,Inv X pins σ H2 c->RelV x v->RelV y u->R x y H2->wpAny (model X.prog X.w) X.A (f v u) Q X.xe c):
  wpAny (model X.prog X.w) X.A (eval a X.env) (λv k=>wpAny (model X.prog X.w) X.A (eval b X.env) (λu m=>wpAny (model X.prog X.w) X.A (f v u) Q X.xe m) X.xe k) X.xe s:=by
 refine Bd (ha pins s σ H _ I h) λv i ⟨x,H1,n,g,j⟩=>?_;refine Bd (hb pins i σ H1 _ n j) λu c ⟨y,H2,l,e,d⟩=>?_;exact hf v u c x y H2 l g e d
theorem Ag{op:Operator}{r:R2}(ho:Ed X (binaryOp op) r)(ha:PE X a ta)(hb:PE X b tb):PE X (.BinOp a op b pos) (Pk r ta tb):=by
 intro pins s σ H Q I h;exact wpAny_BinOp (Qn ha hb I h λv u f x y H2 d e c q=>ho pins f σ H2 x y v u Q d e c q)
theorem Ni{op:UnaryOp}{r:V->Hp->VK->Prop}(ho:Zk X (unaryOp op) r)(ha:PE X a ta):PE X (.UnaryOp op a pos) (yL r ta):=by
 intro pins s σ H Q I h;exact UnaryOp_ (Bd (ha pins s σ H _ I h) λv c ⟨x,H1,e,b,d⟩=>ho pins c σ H1 x v Q e b d)
theorem Qa{C:Int->Int->Prop}{g:Int->Int->Int}
  (rule:∀(i j:Int) (t u:Tok) (s:U7) (Q:U2) (E:U2),C i j->Q (.int (g i j) s.toks) {s with toks:=s.toks+1}->wpAny (model X.prog X.w) X.A (f (.int i t) (.int j u)) Q E s):
  Ed X f (rI C λi j=>.int (g i j)):=by
 intro pins s σ H x y v u Q I b a h;obtain⟨i,j,rfl,rfl,c,q⟩:=h;obtain⟨t,rfl⟩:=b;obtain⟨t',rfl⟩:=a;exact rule i j t t' s _ _ c ⟨.int (g i j),H,I.tok _,⟨_,O⟩,q⟩
theorem K4{g:Int->Int->Int}
  (rule:∀(i j:Int) (t u:Tok) (s:U7) (Q:U2) (E:U2),Q (.int (g i j) s.toks) {s with toks:=s.toks+1}->wpAny (model X.prog X.w) X.A (f (.int i t) (.int j u)) Q E s):
  Ed X f (Kw λi j=>.int (g i j)):=by
 intro pins s σ H x y v u Q I b a h;obtain⟨i,j,rfl,rfl,q⟩:=h;obtain⟨t,rfl⟩:=b;obtain⟨t',rfl⟩:=a;exact rule i j t t' s _ _ ⟨.int (g i j),H,I.tok _,⟨_,O⟩,q⟩
theorem NP{g:Int->Int->Bool}
  (rule:∀(i j:Int) (t u:Tok) (s:U7) (Q:U2) (E:U2),Q (.bool (g i j)) s->wpAny (model X.prog X.w) X.A (f (.int i t) (.int j u)) Q E s):
  Ed X f (Kw λi j=>.bl (g i j)):=by
 intro pins s σ H x y v u Q I b a h;obtain⟨i,j,rfl,rfl,q⟩:=h;obtain⟨t,rfl⟩:=b;obtain⟨t',rfl⟩:=a;exact rule i j t t' s _ _ ⟨.bl (g i j),H,I,O,q⟩
def n8 (i j:Int):Prop:=0<j/\j<1073741824
def Lr (i j:Int):Prop:=(-(2^64)<i/\i<2^64)\/(-(2^64)<j/\j<2^64)
theorem Lr.ok{i j:Int}(h:Lr i j):IntMulOk i j:=by
 rcases h with ⟨h1,h2⟩ | ⟨h1,h2⟩
 ·exact .of_left (intBits_le_64 h1 h2)
 ·exact .of_right (intBits_le_64 h1 h2)
theorem Y3v(k:Nat):(0:Int)<=2^k:=by
 rw[two_pow_cast];exact Int.natCast_nonneg _
theorem DX:Ed X (binaryOp .Add) (Kw λi j=>.int (i+j)):=K4 λ_ _ _ _ _ _ _ q=>add_int q
theorem Ii:Ed X (binaryOp .Sub) (Kw λi j=>.int (i-j)):=K4 λ_ _ _ _ _ _ _ q=>sub_int q
theorem JB:Ed X (binaryOp .Mult) (rI Lr λi j=>.int (i*j)):=Qa λ_ _ _ _ _ _ _ a q=>mul_int q a.ok
theorem Jd:Ed X (binaryOp .FloorDiv) (rI n8 λi j=>.int (i / j)):=Qa λi j _ _ _ _ _ a q=>by
 have h1:(0:Int)<j:=a.1;have h2:j<1073741824:=a.2;exact floordiv_int (by lia) (by rw[pK i (by lia)];exact q) (.inl (PyProof.noPylong_small (by omega)))
theorem Ec:Ed X (binaryOp .Mod) (rI (λ_ j=>0<j) λi j=>.int (i%j)):=Qa λi j _ _ _ _ _ a q=>by
 have h1:(0:Int)<j:=a;exact mod_int' (by lia) (by rw[Int.fmod_eq_emod_of_nonneg i (by lia)];exact q)
theorem Zb:Ed X (binaryOp .RShift) (rI (λ_ j=>0<=j) λi j=>.int (i / 2^j.toNat)):=Qa λi j _ _ _ _ _ a q =>
 rshift_int a (by rw[pK i (Y3v _)];exact q)
theorem Fg:Ed X (binaryOp .BitAnd) (Kw λi j=>.int (Builtin.bitAnd i j)):=K4 λ_ _ _ _ _ _ _ q=>and_int q
theorem Ph:Ed X (binaryOp .BitOr) (Kw λi j=>.int (Builtin.bitOr i j)):=K4 λ_ _ _ _ _ _ _ q=>or_int q
theorem LK:Ed X (binaryOp .BitXor) (Kw λi j=>.int (Builtin.bitXor i j)):=K4 λ_ _ _ _ _ _ _ q=>xor_int q
theorem oJ{f:Value->Sem Value}{g:Int->Int}
  (rule:∀(i:Int) (t:Tok) (s:U7) (Q:U2) (E:U2),Q (.int (g i) s.toks) {s with toks:=s.toks+1}->wpAny (model X.prog X.w) X.A (f (.int i t)) Q E s):
  Zk X f (rU λi=>.int (g i)):=by
 intro pins s σ H x v Q I a h;obtain⟨i,rfl,q⟩:=h;obtain⟨t,rfl⟩:=a;exact rule i t s _ _ ⟨.int (g i),H,I.tok _,⟨_,O⟩,q⟩
theorem Qu:Zk X (unaryOp .USub) (rU λi=>.int (-i)):=oJ λ_ _ _ _ _ q=>neg_int q
theorem xV:Zk X (unaryOp .Invert) (rU λi=>.int (Builtin.bitNot i)):=oJ λ_ _ _ _ _ q=>invert_int q
end
noncomputable def Uq:V->V->Bool
 | .non,.non=>true | .non,.int _=>true | .int _,.non=>true | .non,.bl _=>true | .bl _,.non=>true | .non,.str _=>true | .str _,.non=>true
 | .int _,.int _=>true | .bl _,.bl _=>true | .str _,.str _=>true | .byt _,.byt _=>true
 | .int _,.str _=>true | .str _,.int _=>true | .bl _,.str _=>true | .str _,.bl _=>true
 | _,_=>false
def yV:R2:=λx y H Q=>Uq x y=true/\Q (.bl (decide (x=y))) H
def yS:R2:=λx y H Q=>Uq x y=true/\Q (.bl (!decide (x=y))) H
theorem rJ{i j:Int}:decide (V.int i=V.int j)=(i == j):=by
 rw[RZ];simp
theorem wM{i j:Bool}:decide (V.bl i=V.bl j)=(i == j):=by
 rw[RZ];simp
theorem rK{i j:Str}:decide (V.str i=V.str j)=(i == j):=by
 rw[RZ];simp
theorem rH{i j:Array UInt8}:decide (V.byt i=V.byt j)=(i.toList == j.toList):=by
 rw[RZ];cases i;cases j;simp
section
variable {X:Cx}{a b c:Expr}{ta tb tc:TE}{pos:Pos}
theorem Ei{Q:VK}{k k':Bool}(I:Inv X pins σ H s)(q:Q (.bl k) H)(e:k=k'):EP X pins σ Q (.bool k') s:=by
 subst e;exact⟨.bl k,H,I,O,q⟩
theorem Cz:Ed X (compareOp .Eq) yV:=by
 intro pins s σ H x y v u Q I c a h;obtain⟨b,q⟩:=h;cases x with
 | non =>
  cases c;cases y with
  | non=>cases a;exact PySem.EqNone.eq_none_none (Ei I q (by simp))
  | bl j=>cases a;exact PySem.EqNone.eq_none_bool (Ei I q (by simp))
  | int j=>obtain⟨t',rfl⟩:=a;exact PySem.EqNone.eq_none_int (Ei I q (by simp))
  | str j=>obtain⟨t',rfl⟩:=a;exact PySem.EqNone.eq_none_str (Ei I q (by simp))
  | _=>exact absurd (show false=true from b) DK
 | bl i =>
  cases c;cases y with
  | non=>cases a;exact PySem.EqNone.eq_bool_none (Ei I q (by simp))
  | bl j=>cases a;exact eq_bool (Ei I q wM)
  | str j=>obtain⟨t',rfl⟩:=a;exact PySem.EqMixed.eq_bool_str (Ei I q (by simp))
  | _=>exact absurd (show false=true from b) DK
 | int i =>
  obtain⟨t,rfl⟩:=c;cases y with
  | non=>cases a;exact PySem.EqNone.eq_int_none (Ei I q (by simp))
  | int j=>obtain⟨t',rfl⟩:=a;exact eq_int (Ei I q rJ)
  | str j=>obtain⟨t',rfl⟩:=a;exact PySem.EqMixed.eq_int_str (Ei I q (by simp))
  | _=>exact absurd (show false=true from b) DK
 | str i =>
  obtain⟨t,rfl⟩:=c;cases y with
  | non=>cases a;exact PySem.EqNone.eq_str_none (Ei I q (by simp))
  | bl j=>cases a;exact PySem.EqMixed.eq_str_bool (Ei I q (by simp))
  | int j=>obtain⟨t',rfl⟩:=a;exact PySem.EqMixed.eq_str_int (Ei I q (by simp))
  | str j=>obtain⟨t',rfl⟩:=a;exact eq_str (Ei I q rK)
  | _=>exact absurd (show false=true from b) DK
 | byt i =>
  obtain⟨t,rfl⟩:=c;cases y with
  | byt j=>obtain⟨t',rfl⟩:=a;exact PySem.W.eq_bytes (Ei I q rH)
  | _=>exact absurd (show false=true from b) DK
 | _=>cases y<;>exact absurd (show false=true from b) DK
theorem LC:Ed X (compareOp .NotEq) yS:=by
 intro pins s σ H x y v u Q I c a h;obtain⟨b,q⟩:=h;cases x with
 | non =>
  cases c;cases y with
  | non=>cases a;exact PySem.EqNone.ne_none_none (Ei I q (by simp))
  | bl j=>cases a;exact PySem.EqNone.ne_none_bool (Ei I q (by simp))
  | int j=>obtain⟨t',rfl⟩:=a;exact PySem.EqNone.ne_none_int (Ei I q (by simp))
  | str j=>obtain⟨t',rfl⟩:=a;exact PySem.EqNone.ne_none_str (Ei I q (by simp))
  | _=>exact absurd (show false=true from b) DK
 | bl i =>
  cases c;cases y with
  | non=>cases a;exact PySem.EqNone.ne_bool_none (Ei I q (by simp))
  | bl j=>cases a;exact ne_bool (Ei I q (congrArg not wM))
  | str j=>obtain⟨t',rfl⟩:=a;exact PySem.EqMixed.ne_bool_str (Ei I q (by simp))
  | _=>exact absurd (show false=true from b) DK
 | int i =>
  obtain⟨t,rfl⟩:=c;cases y with
  | non=>cases a;exact PySem.EqNone.ne_int_none (Ei I q (by simp))
  | int j=>obtain⟨t',rfl⟩:=a;exact ne_int (Ei I q (congrArg not rJ))
  | str j=>obtain⟨t',rfl⟩:=a;exact PySem.EqMixed.ne_int_str (Ei I q (by simp))
  | _=>exact absurd (show false=true from b) DK
 | str i =>
  obtain⟨t,rfl⟩:=c;cases y with
  | non=>cases a;exact PySem.EqNone.ne_str_none (Ei I q (by simp))
  | bl j=>cases a;exact PySem.EqMixed.ne_str_bool (Ei I q (by simp))
  | int j=>obtain⟨t',rfl⟩:=a;exact PySem.EqMixed.ne_str_int (Ei I q (by simp))
  | str j=>obtain⟨t',rfl⟩:=a;exact ne_str (Ei I q (congrArg not rK))
  | _=>exact absurd (show false=true from b) DK
 | byt i =>
  obtain⟨t,rfl⟩:=c;cases y with
  | byt j=>obtain⟨t',rfl⟩:=a;exact PySem.W.ne_bytes (Ei I q (congrArg not rH))
  | _=>exact absurd (show false=true from b) DK
 | _=>cases y<;>exact absurd (show false=true from b) DK
theorem Q9:Ed X (compareOp .Lt) (Kw λi j=>.bl (decide (i<j))):=NP λ_ _ _ _ _ _ _ q=>lt_int q
theorem vK:Ed X (compareOp .LtE) (Kw λi j=>.bl (decide (i<=j))):=NP λ_ _ _ _ _ _ _ q=>le_int q
theorem MK:Ed X (compareOp .Gt) (Kw λi j=>.bl (decide (j<i))):=NP λ_ _ _ _ _ _ _ q=>gt_int q
theorem nA:Ed X (compareOp .GtE) (Kw λi j=>.bl (decide (j<=i))):=NP λ_ _ _ _ _ _ _ q=>ge_int q
theorem X4n:Ed X (compareOp .IsNot) (λx y H Q=>y=.non/\Q (.bl (!decide (x=.non))) H):=by
 intro pins s σ H x y v u Q I a b h;obtain⟨rfl,q⟩:=h;cases b;refine isnot_none_gen (Ei I q ?_);cases x<;>first
  | (cases a;rfl)
  | (obtain⟨t,rfl⟩:=a;rfl)
theorem Ae(b:Expr){op:CmpOp}(h:autoParam (op≠.In) PySem.ldc._auto_1)(h2:autoParam (op≠.NotIn) PySem.ldc._auto_1):behindInMarks op b=false:=by
 have e1:(op == CmpOp.In)=false:=by cases op<;>first | rfl | exact absurd rfl h
 have e2:(op == CmpOp.NotIn)=false:=by cases op<;>first | rfl | exact absurd rfl h2
 cases b<;>simp[behindInMarks,e1,e2]
theorem GX{op:CmpOp}{r:R2}(ho:Ed X (compareOp op) r)(ha:PE X a ta)(hb:PE X b tb)(hm:behindInMarks op b=false):PE X (.Compare a [op] [b] pos) (Pk r ta tb):=by
 intro pins s σ H Q I h;exact wpAny_Compare1 (Qn ha hb I h λv u f x y H2 d e c q=>ho pins f σ H2 x y v u Q d e c q) hm
def UW (t:TE):TT:=λσ H Q=>t σ H λx H'=>∃k,x=.bl k/\Q k H'
theorem Bx{op:CmpOp}{r:R2}(ho:Ed X (compareOp op) r)(ha:PE X a ta)(hb:PE X b tb)(hm:behindInMarks op b=false):PT X (.Compare a [op] [b] pos) (UW (Pk r ta tb)):=by
 intro pins s σ H Q I h
 refine oW (Bd (ha pins s σ H _ I h) λv g ⟨x,H1,p,l,n⟩=>Bd (hb pins g σ H1 _ p n) λu j ⟨y,H2,i,f,d⟩ =>
  Bd (ho pins j σ H2 x y v u _ i l f d) λc w ⟨z,m,q,o,k,e,t⟩=>?_) hm
 subst e;cases o;exact M7 ⟨m,q,t⟩
def nM (K:U0)(x:V)(H:Hp)(k:Bool):Prop :=
 match x with
 | .non=>k=false
 | .bl b=>k=b
 | .int i=>k=(i != 0)
 | .str y=>y.length<=sizeLine/\k=((y.length:Int) != 0)
 | .byt y=>y.size<=sizeLine/\k=((y.size:Int) != 0)
 | .ref p=>(∃xs,Ax K H p xs/\k=!xs.isEmpty)\/(∃xs,Ao K H p xs/\k=!xs.isEmpty)\/∃kvs,H p=some (.dK kvs)/\k=!kvs.isEmpty
 | _=>False
theorem Y4n{κ:Type}{kvs:List (κ×V)}{vs:List (κ×Value)}(r:KV kvs vs):(!vs.isEmpty)=!kvs.isEmpty:=by
 cases r<;>rfl
theorem qT{its:U5}(r:Vals xs its):(!its.toArray.isEmpty)=!xs.isEmpty:=by
 cases r<;>simp
theorem Fv:(sizeLine:Nat)<2^63:=by rw[Yk];decide
theorem X7j:nP X (λx H Q=>∃k,nM X.K x H k/\Q k H):=by
 intro pins s σ H x v Q I d h;obtain⟨k,e,q⟩:=h;have n:=Fv;have o:sizeLine=16777216:=Yk;cases x with
 | non =>
  cases d;have a:k=false:=e;subst a;exact truthy_none ⟨H,I,q⟩
 | bl b =>
  cases d;have a:k=b:=e;subst a;exact M7 ⟨H,I,q⟩
 | int i =>
  obtain⟨t,rfl⟩:=d;have a:k=(i != 0):=e;subst a;exact PySem.P.truthy_int ⟨H,I,q⟩
 | str y =>
  obtain⟨t,rfl⟩:=d;obtain⟨l,a⟩:y.length<=sizeLine/\k=((y.length:Int) != 0):=e;subst a;exact PySem.P.truthy_str (by lia) ⟨H,I.tok _,q⟩
 | byt y =>
  obtain⟨t,rfl⟩:=d;obtain⟨l,a⟩:y.size<=sizeLine/\k=((y.size:Int) != 0):=e;subst a;exact PySem.W.truthy_bytes (by lia) ⟨H,I.tok _,q⟩
 | ref p =>
  cases d;have a:(∃xs,Ax X.K H p xs/\k=!xs.isEmpty)\/(∃xs,Ao X.K H p xs/\k=!xs.isEmpty)\/∃kvs,H p=some (.dK kvs)/\k=!kvs.isEmpty:=e;rcases a with ⟨xs,hx,a⟩ | ⟨xs,hx,a⟩ | ⟨kvs,hx,a⟩
  ·subst a;obtain⟨its,r,f,g⟩:=I.list hx;have c:=r.length;exact wpAny_truthy_list f.isList (by simp only[Du];lia) ⟨H,I.tok _,by rw[qT r];exact q⟩
  ·subst a;obtain⟨its,r,f,g⟩:=I.tuple hx;have c:=r.length;exact truthy_tuple f (by simp only[Du];lia) ⟨H,I.tok _,by rw[qT r];exact q⟩
  ·subst a;obtain⟨g,j,vs,r,m⟩:kvs.length<=sizeLine/\(p == sysModules)=false/\∃vs,KV kvs vs/\s.heap.DictOf (G_ X.prog X.w) p vs:=I.hok p _ hx;have c:kvs.length=vs.length:=Paired.length r;exact wpAny_truthy_dict j m (by lia) ⟨H,I.tok _,by rw[Y4n r];exact q⟩
 | _=>exact(show False from e).elim
theorem vals1(r:Vals [x] us):∃u,us=[u]/\RelV x u:=by
 cases r with
 | cons r1 r2=>cases r2;exact⟨_,rfl,r1⟩
theorem vals2{y:V}(r:Vals [x,y] us):∃u w',us=[u,w']/\RelV x u/\RelV y w':=by
 cases r with
 | cons r1 r2 =>
  cases r2 with
  | cons r3 r4=>cases r4;exact⟨_,_,rfl,r1,r3⟩
theorem Wh:CJ X (.builtin "abs") (λxs H Q=>∃i,xs=[.int i]/\Q (.int (if i<0 then -i else i)) H):=by
 intro pins s σ H xs us Q I r h;obtain⟨i,rfl,q⟩:=h;obtain⟨u,rfl,t,rfl⟩:=vals1 r;exact call_abs_int λu tk=>⟨.int (if i<0 then -i else i),H,I.tok _,⟨_,O⟩,q⟩
theorem uy(hc:X.calm=true):CJ X (.builtin "max") (λxs H Q=>∃i j,xs=[.int i,.int j]/\Q (.int (if j>i then j else i)) H):=by
 intro pins s σ H xs us Q I r h;obtain⟨i,j,rfl,q⟩:=h;obtain⟨u,a,rfl,⟨t,rfl⟩,⟨t',rfl⟩⟩:=vals2 r;refine max_two_ints (I.ok.hd hc) λh' tk k=>⟨_,H,I.kept k,?_,q⟩;by_cases hj:j>i
 ·rw[if_pos hj,if_pos hj];exact⟨_,O⟩
 ·rw[if_neg hj,if_neg hj];exact⟨_,O⟩
theorem Y8f(hc:X.calm=true):CJ X (.builtin "min") (λxs H Q=>∃i j,xs=[.int i,.int j]/\Q (.int (if j<i then j else i)) H):=by
 intro pins s σ H xs us Q I r h;obtain⟨i,j,rfl,q⟩:=h;obtain⟨u,a,rfl,⟨t,rfl⟩,⟨t',rfl⟩⟩:=vals2 r;refine min_two_ints (I.ok.hd hc) λh' tk k=>⟨_,H,I.kept k,?_,q⟩;by_cases hj:j<i
 ·rw[if_pos hj,if_pos hj];exact⟨_,O⟩
 ·rw[if_neg hj,if_neg hj];exact⟨_,O⟩
theorem kW:CJ X (.type "int") (λxs H Q=>(∃i,xs=[.int i]/\Q (.int i) H)\/∃k,xs=[.bl k]/\Q (.int (if k then 1 else 0)) H):=by
 intro pins s σ H xs us Q I r h;rcases h with ⟨i,rfl,q⟩ | ⟨k,rfl,q⟩
 ·obtain⟨u,rfl,t,rfl⟩:=vals1 r;exact call_int_int ⟨.int i,H,I,⟨_,O⟩,q⟩
 ·obtain⟨u,rfl,a⟩:=vals1 r;cases a;exact call_int_bool ⟨.int (if k then 1 else 0),H,I.tok _,⟨_,O⟩,q⟩
end
structure RJ (h:Heap) (x dx C:Y1) (mA:U4):Prop where
 obj:h.get? x=some (PySem.W.instObj C dx)
 ns:h.Ns1 dx mA
 ne:dx≠x
theorem u_{h:Heap}{dx:Y1}{mA:U4}(n:h.Ns1 dx mA):∃od,h.get? dx=some od/\∀name,PySem.W.lookIn name od=some (mA name):=by
 obtain⟨o,es,ep,c,hd,d,_,f⟩:=n;refine⟨o,c,λname=>?_⟩;have e:=f name;unfold nsFind findBy at e;rw[<-Array.find?_toList]at e;unfold PySem.W.lookIn;rw[hd];dsimp only;split
 ·rename_i y q;rw[q]at e;exact congrArg some e
 ·rename_i q;rw[q]at e;have a:es.toList.any (·.refKey)=false:=by
   rw[List.any_eq_false];intro y g;obtain⟨z,t,b⟩:=d y (Array.mem_toList_iff.mp g);simp[DictEntry.refKey,b]
  have i:¬ es.toList.any (·.refKey)=true:=by rw[a];exact DK
  rw[if_neg i];exact congrArg some e
variable{C:Y1}
theorem RJ.look{h:Heap}{x dx:Y1}{mA:U4}(I:RJ h x dx C mA):∃od,PySem.W.InstAt h x (PySem.W.instObj C dx) C (some od)/\∀name,PySem.W.lookIn name od=some (mA name):=
 let ⟨od,ho,hl⟩:=u_ I.ns
 ⟨od,⟨I.obj,O,O,ho⟩,hl⟩
section
variable {prog:U8}{w:W3}{A:W8}{E:U2}{s:U7}{K:U0}{x dx C f:Y1}{mA:U4}{name:Str}{v:W4}
end
theorem Ek.some_of{v:V}{o:Option Value}(r:Ek (some v) o):∃u,o=some u/\RelV v u:=by
 cases o with
 | none=>exact(show False from r).elim
 | some u=>exact⟨u,rfl,r⟩
theorem Y7m{v:V}(r:RelV v u):PySem.W.handedIn u=true:=by
 cases v with
 | non=>cases (show u=Value.none from r);rfl
 | bl b=>cases (show u=Value.bool b from r);rfl
 | int i=>obtain⟨t,e⟩:=(show ∃t,u=Value.int i t from r);cases e;rfl
 | str x=>obtain⟨t,e⟩:=(show ∃t,u=Value.str x t from r);cases e;rfl
 | byt b=>obtain⟨t,e⟩:=(show ∃t,u=Value.bytes b t from r);cases e;rfl
 | flt b=>obtain⟨t,e⟩:=(show ∃t,u=Value.float b t from r);cases e;rfl
 | ref a=>cases (show u=Value.ref a from r);rfl
 | ty n=>cases (show u=Value.type n from r);rfl
section
variable {P:U8}{w:W3}{H H':Hp}{h h':Heap}{a C dx:Y1}{fs fs':List (Str×V)}
theorem X5x(hok:EY P w H h)(e:H a=some (.ins C dx fs)):∃mA,RJ h a dx C mA/\(∀f,Ek (fs.lookup f) (mA f))/\PySem.Within mA (fs.map (·.1))/\fs.length<=1000/\H dx=some (.own a):=by
 obtain⟨d,z,ne,b,mA,n,r,q⟩:=(show BJ P w H h a (.ins C dx fs) from hok a _ e);exact⟨mA,⟨b,n,ne⟩,r,q,z,d⟩
end
structure Cls (K:U0) (C:Y1):Prop where
 pg:PySem.W.plainGet K C Str.empty=true
 hd:PySem.W.hasDictIn K C=true
 po:PySem.W.plainOver K C=true
 sa:PySem.W.findIn K (.ref C) "__setattr__"=some (some (.builtin "object.__setattr__"))
theorem Cls.get{K:U0}{C:Y1}(c:Cls K C)(f:Str):PySem.W.plainGet K C f=true:=c.pg
def Dm (K:U0)(C:Y1)(f:Str):Prop:=PySem.W.findIn K (.ref C) f=some none
section
variable {X:Cx}{pins:U1}{σ:St}{H:Hp}{s:U7}{a C dx:Y1}{fs:List (Str×V)}{f:Str}{v:V}{A:W8}{E:U2}
theorem X6i{prog:U8}{env:Env}{pos:Pos}{Q:U2}(hb:attributeBase e f env (eval e env)=eval e env)
  (h:wpAny (model prog w) A (eval e env) (λo a=>wpAny (model prog w) A (getAttr o f true) Q E a) E s):wpAny (model prog w) A (eval (.Attribute e f pos) env) Q E s :=
 Attribute_any_ h (by rw[arm_eval_Attribute,hb])
end
section
variable {X:Cx}{o e value:Expr}{f:Str}{pos pos' tpos:Pos}{ta tv:TE}
end
section
variable {X:Cx}{pins:U1}{σ:St}{H:Hp}{s:U7}{A:W8}{E:U2}{Q:U2}{c:W4}{b:Bool}
inductive Cq (K:U0) (H:Hp):V->Value->Prop where
 | non:Cq K H .non (.type "NoneType")
 | bl (x:Bool):Cq K H (.bl x) (.type "bool")
 | int (i:Int):Cq K H (.int i) (.type "int")
 | str (x:Str):Cq K H (.str x) (.type "str")
 | flt (x:UInt64):Cq K H (.flt x) (.type "float")
 | lst {a:Y1}{xs:List V} (e:H a=some (.lst xs)):Cq K H (.ref a) (.type "list")
 | frz {a:Y1}{o:Obj}{xs:List V} (e:H a=some (.frz o (.lst xs))):Cq K H (.ref a) (.type "list")
 | tup {a:Y1}{xs:List V} (e:H a=some (.tup xs)):Cq K H (.ref a) (.type "tuple")
 | dK {a:Y1}{kvs:List (Key×V)} (e:H a=some (.dK kvs)):Cq K H (.ref a) (.type "dict")
 | dT {a:Y1}{kvs:List (List Key×V)} (e:H a=some (.dT kvs)):Cq K H (.ref a) (.type "dict")
 | ins {a C dx:Y1}{fs:List (Str×V)} (e:H a=some (.ins C dx fs)) (cl:Cls K C) (ha:PySem.W.findIn K (.ref C) "__class__"=some (some (.builtin "object.__class__")))
   (hn:PySem.W.specialIn K (.builtin "object.__class__") "__get__"=some (some (.builtin "getset_descriptor.__get__"))) (htk:PySem.W.takesIn K (.builtin "object.__class__")=some true)
   (hm:PySem.W.mroIn K C (.type "object")=some true):Cq K H (.ref a) (.ref C)
theorem Y7k{t:W4}(I:Inv X pins σ H s)(rx:RelV x u)(ty:Cq X.K H x t)(e:PySem.W.kitOne X.K t c=some b)(h:∀tk,Q (.bool b) {s with toks:=tk}):
  wpAny (model X.prog X.w) A (call (.builtin "isinstance") [u,c]) Q E s:=by
 cases ty with
 | non=>cases (show u=Value.none from rx);exact J8 PySem.W.kitx_none I.kIn True.intro e (λz=>nomatch z) h
 | bl y=>cases (show u=Value.bool y from rx);exact J8 PySem.W.kitx_bool I.kIn True.intro e (λz=>nomatch z) h
 | int i=>obtain⟨t,q⟩:=(show ∃t,u=Value.int i t from rx);cases q;exact J8 PySem.W.kitx_int I.kIn True.intro e (λz=>nomatch z) h
 | str y=>obtain⟨t,q⟩:=(show ∃t,u=Value.str y t from rx);cases q;exact J8 PySem.W.kitx_str I.kIn True.intro e (λz=>nomatch z) h
 | flt y=>obtain⟨t,q⟩:=(show ∃t,u=Value.float y t from rx);cases q;exact J8 PySem.W.kitx_float I.kIn True.intro e (λz=>nomatch z) h
 | @lst a xs ea =>
  cases (show u=Value.ref a from rx);obtain⟨_,_,n,_,h1⟩:=(show BJ X.prog X.w H s.heap a (.lst xs) from I.hok a _ ea);exact J8 PySem.W.kitx_list I.kIn ⟨_,h1,rfl⟩ e (λz=>nomatch z) h
 | @frz a ob xs ea =>
  cases (show u=Value.ref a from rx);obtain⟨_,_,_,n,_,h1⟩:=(show BJ X.prog X.w H s.heap a (.frz ob (.lst xs)) from I.hok a _ ea);exact J8 PySem.W.kitx_list I.kIn ⟨_,h1,rfl⟩ e (λz=>nomatch z) h
 | @tup a xs ea =>
  cases (show u=Value.ref a from rx);obtain⟨_,_,_,p⟩:=(show BJ X.prog X.w H s.heap a (.tup xs) from I.hok a _ ea);obtain⟨o,h1,h2,_⟩:=p;exact J8 PySem.W.kitx_tuple I.kIn ⟨o,h1,h2⟩ e (λz=>nomatch z) h
 | @dK a kvs ea =>
  cases (show u=Value.ref a from rx);obtain⟨_,_,vs,_,p⟩:=(show BJ X.prog X.w H s.heap a (.dK kvs) from I.hok a _ ea);obtain⟨o,es,ep,h1,h2,_⟩:=p;exact J8 PySem.W.kitx_dict I.kIn ⟨o,h1,h2.1⟩ e (λz=>nomatch z) h
 | @dT a kvs ea =>
  cases (show u=Value.ref a from rx);obtain⟨_,_,xs,_,o,es,ep,h1,h2,_⟩:=(show BJ X.prog X.w H s.heap a (.dT kvs) from I.hok a _ ea);exact J8 PySem.W.kitx_dict I.kIn ⟨o,h1,h2.1⟩ e (λz=>nomatch z) h
 | @ins a C dx fs ea cl ha hn htk hm =>
  cases (show u=Value.ref a from rx);obtain⟨mA,O,_⟩:=X5x I.hok ea;obtain⟨od,J,_⟩:=O.look;exact J8 (PySem.W.kitx_own (cl.get _) cl.hd ha hn htk hm) I.kIn J e (λz=>nomatch z) h
end
structure CG (k:Nat) (A:W8):Prop where
 hd:A.handled=none
 dp:A.depth+3*k+5<recursionLimit
 un:A.units+16*k+200<cLine
variable{k:Nat}
theorem CG.mono{j:Nat}(r:CG k A)(h:j<=k):CG j A:=⟨r.hd,by have:=r.dp;lia,by have:=r.un;lia⟩
theorem CG.deeper(r:CG (k+1) A)(env:Env):CG k (A.deeper env):=
 ⟨r.hd,by have:=r.dp;show A.depth+1+3*k+5<_;lia,by have:=r.un;show A.units+3+16*k+200<_;lia⟩
variable{kw:List (Str×Value)}
theorem Y4i:(A.under (.builtin "type.__call__" ⟨.ref C::us,kw⟩)).depth=A.depth+1:=by
 first | rfl | simp[Around.under,Code.weight,Code.isCreation,Code.isGuard,Code.isCaller,Code.frames,Code.isFrame,guardIds]
theorem Y4h:(A.under (.builtin "type.__call__" ⟨.ref C::us,kw⟩)).units=A.units+1:=by
 first | rfl | simp[Around.under,Code.cUnits,Code.frames,Code.isFrame]
theorem CG.make(r:CG (k+1) A)(C:Y1)(us:U5)(kw:List (Str×Value)):CG k (A.under (.builtin "type.__call__" ⟨.ref C::us,kw⟩)):=
 ⟨r.hd,by have:=r.dp;rw[Y4i];lia,by have:=r.un;rw[Y4h];lia⟩
theorem CG.depth(r:CG k A):A.depth<recursionLimit:=by have:=r.dp;lia
theorem CG.units(r:CG k A):A.units+64<cLine:=by have:=r.un;lia
def Ue:TA:=λ_ H Q=>Q [] H
def JG (ta:TE)(tr:TA):TA:=λσ H Q=>ta σ H λx H1=>tr σ H1 λxs H2=>Q (x::xs) H2
section
variable {X:Cx}{e:Expr}{es:List Expr}{te:TE}{t:TA}{pos:Pos}
theorem Af:PA X [] Ue:=λ_ _ _ _ H Q I h=>Calls.spliced_nil ⟨[],H,I,.nil,h⟩
theorem Aa(ha:PE X e te)(hr:PA X es t)(hs:autoParam (starEach (e::es) X.env=(false,eval e X.env)::starEach es X.env) PySem.W.hit_SB._auto_3):PA X (e::es) (JG te t):=by
 intro pos pins s σ H Q I h;rw[hs];show wpAny _ _ (spliced ((false,eval e X.env)::backTo pos (starEach es X.env))) _ _ s;refine Calls.spliced_cons (Bd (ha pins s σ H _ I h) λu c ⟨x,H1,i,f,g⟩=>?_);exact Bd (hr pos pins c σ H1 _ i g) λus j ⟨xs,H2,d,b,a⟩=>⟨x::xs,H2,d,.cons f b,a⟩
def UG (t:TA):TE:=λσ H Q=>t σ H λxs H1=>xs.length<=sizeLine/\∀p,H1 p=none->Q (.ref p) (upd H1 p (.tup xs))
def Z1 (t:TA):TE:=λσ H Q=>t σ H λxs H1=>xs.length<=sizeLine/\∀p,H1 p=none->Q (.ref p) (upd H1 p (.lst xs))
theorem Dj{x1}(h:PA X es t):PE X (.Tuple es x1 pos) (UG t):=by
 intro pins s σ H Q I f;refine wpAny_Tuple_spliced (Bd (h pos pins s σ H _ I f) λus a ⟨xs,H1,c,r,z,q⟩=>⟨by rw[<-r.length];exact z,?_⟩);have d:H1 a.heap.objs.size=none:=c.hok.fresh (Bc _);refine⟨.ref a.heap.objs.size,upd H1 a.heap.objs.size (.tup xs),c.laid (t':=a.toks) (λb u e=>Ca _ e) (Bc _) ?_,O,q _ d⟩;exact⟨z,us,r,⟨_,Ew _ rfl,O,_,O⟩⟩
theorem PB(h:PA X es t):PE X (.List es pos) (Z1 t):=by
 intro pins s σ H Q I f;refine wpAny_List_spliced (Bd (h pos pins s σ H _ I f) λus a ⟨xs,H1,c,r,z,q⟩=>⟨by rw[<-r.length];exact z,?_⟩);have d:H1 a.heap.objs.size=none:=c.hok.fresh (Bc _);refine⟨.ref a.heap.objs.size,upd H1 a.heap.objs.size (.lst xs),c.laid (t':=a.toks) (λb u e=>Ca _ e) (Bc _) ?_,O,q _ d⟩;exact⟨z,us,0,r,Ew _ rfl⟩
end
abbrev Sp:=List V->Hp->VK->XK->Prop
abbrev Lp:=List Env->Hp->Shared->XK->Value->Shared->Prop
structure Ga (P:U8) (w:W3) (K:U0) (mg:U4) (base:Heap) (A:W8) (outer:List Env) (s:U7) (H:Hp):Prop where
 frames:A.frames=some outer
 mod:Mod K mg base
 bs:∀b o,base.get? b=some o->s.heap.get? b=some o/\H b=none
 bsz:base.objs.size<=s.heap.objs.size
 funs:s.heap.FunFrames base outer
 frf:∀b∈frs outer,H b=none
 hok:EY P w H s.heap
 bare:AllBare s.gens
def CE (outer:List Env)(P:U8)(w:W3)(H:Hp)(s:U7)(Q:VK)(u:W4)(s':U7):Prop :=
 ∃v H',s'.os=s.os/\AllBare s'.gens/\Un (frs outer) [] H H' s.heap s'.heap/\EY P w H' s'.heap/\RelV v u/\Q v H'
def CR (CX:Lp)(outer:List Env)(P:U8)(w:W3)(H:Hp)(s:U7)(Q:VK)(E:XK)(r:Result)(s':U7):Prop :=
 match r with
 | .ok (.ret u)=>CE outer P w H s Q u s'
 | .ok _=>False
 | .error e=>CX outer H s E e s'
structure Em (P:U8) (w:W3) (K:U0) (mg:U4) (base:Heap) (CX:Lp) (k:Nat) (f:Y1) (fd:FuncData) (ps:W0) (sp:Sp):Prop where
 len:∀vs H Q E,sp vs H Q E->vs.length=ps.length
 run:∀(A:W8) (outer:List Env) (s:U7) (H:Hp) (args:Args) (us:U5) (vs:List V) (Q:VK) (E:XK),CG k A->Ga P w K mg base A outer s H->BindsTo s fd args (ps.zip us)->Vals vs us->sp vs H Q E ->
  codeAny (model P w) A (.call (.ref f) args) (CR CX outer P w H s Q E) s
variable{mg:U4}{base:Heap}{CX:Lp}{f:Y1}{fd:FuncData}{ps:W0}
theorem Em.mono{j:Nat}{sp:Sp}(F:Em P w K mg base CX j f fd ps sp)(h:j<=k):
  Em P w K mg base CX k f fd ps sp:=⟨F.len,λA outer s H args us vs Q E a=>F.run A outer s H args us vs Q E (a.mono h)⟩
variable{outer:List Env}
theorem Ga.make(e:Ga P w K mg base A outer s H)(C:Y1)(us:U5)(kw:List (Str×Value)):
  Ga P w K mg base (A.under (.builtin "type.__call__" ⟨.ref C::us,kw⟩)) outer s H:=⟨by first | exact e.frames | (simpa [Around.under,Code.envs,Code.isFrame,pushEnvs] using e.frames),e.mod,e.bs,e.bsz,e.funs,e.frf,e.hok,e.bare⟩
section
variable {X:Cx}{pins:U1}{σ:St}{H:Hp}{s s':U7}
theorem Inv.env0(I:Inv X pins σ H s):Ga X.prog X.w X.K X.mg X.base X.A X.stack s H :=
 ⟨I.ok.frames,I.ok.mod,I.bs,Fq I.ok.bsz I.sz,I.stack,I.stkFree,I.hok,I.bare⟩
theorem Inv.after{Q:VK}(I:Inv X pins σ H s)(h:CE X.stack X.prog X.w H s Q u s'):EP X pins σ Q u s':=by
 obtain⟨v,H',os,a,un,e,r,q⟩:=h;obtain⟨f,g,d,t,c⟩:=s';obtain rfl:c=s.os:=os;exact⟨v,H',I.call (h':=f) (g':=g) (d':=d) (t':=t) (ch:=[]) un e a (λb z=>absurd z (by simp)),r,q⟩
end
def JH (sp:Sp)(dvs:List V)(E:XK)(t:TA):TE:=λσ H Q=>t σ H λvs H1=>sp (vs++dvs) H1 Q E
def Binds (K:U0)(fd:FuncData)(ps:W0)(ds:U5):Prop :=
 ∀(s:U7) (us:U5),K.In s.heap->(us++ds).length=ps.length->BindsTo s fd ⟨us,[]⟩ (ps.zip (us++ds))
theorem Binds.all(h:∀us:List Value,us.length=ps.length->bindArgs fd ⟨us,[]⟩=pure (ps.zip us)):Binds K fd ps []:=λs us _ a=>by
 rw[M4]at a ⊢;exact .of_eq (h us a)
def Passes (CX:Lp)(X:Cx)(E:XK):Prop:=∀(pins:U1) (σ:St) (H:Hp) (s:U7) (e:W4) (s':U7),Inv X pins σ H s->CX X.stack H s E e s'->X.xe e s'
section
variable {X:Cx}{CX:Lp}{k:Nat}{f C:Y1}{fd:FuncData}{ps:W0}{sp:Sp}{dvs:List V}{ds:U5}{E:XK}{x m:Str}{p pos apos:Pos}{e o:Expr}{es:List Expr}{ta:TE}{t:TA}
theorem X7r{Q:VK}{vs:List V}(F:Em X.prog X.w X.K X.mg X.base CX k f fd ps sp)(hr:CG k X.A)(hb:Binds X.K fd ps ds)(hd:Vals dvs ds)(hx:Passes CX X E)
  (I:Inv X pins σ H s) (r:Vals vs us) (h:sp (vs++dvs) H Q E):wpAny (model X.prog X.w) X.A (call (.ref f) us) (EP X pins σ Q) X.xe s:=by
 have b:Vals (vs++dvs) (us++ds):=r.append hd;have c:(us++ds).length=ps.length:=by rw[<-b.length];exact F.len _ _ _ _ h
 refine Mw (Mz (F.run X.A X.stack s H ⟨us,[]⟩ (us++ds) (vs++dvs) Q E hr I.env0 (hb s us I.kIn c) b h) λr s' a=>?_);cases r with
 | error e=>exact hx pins σ H s e s' I a
 | ok fl =>
  cases fl with
  | ret u=>exact I.after a
  | next=>exact False.elim a
  | brk=>exact False.elim a
  | cont=>exact False.elim a
theorem sH(F:Em X.prog X.w X.K X.mg X.base CX k f fd ps sp)(hr:CG k X.A)(hg:Gl X x)(hm:X.mg x=some (.ref f))(hk:PySem.W.keepIn X.K (.ref f)=true)(hb:Binds X.K fd ps ds)(hd:Vals dvs ds)(hx:Passes CX X E)
  (ha:PA X (e::es) t) (hdb:autoParam ((x == ("__debug__":Str))=false) PySem.ldc._auto_1) (he:autoParam (starEach (e::es) X.env=(false,eval e X.env)::starEach es X.env) PySem.W.hit_SB._auto_3) (hpl:autoParam ((backTo pos (starEach es X.env)).any (·.1)=false) PySem.W.hit_SB._auto_3):
  PE X (.Call (.Name x p) (e::es) [] pos) (JH sp dvs E t):=by
 intro pins s σ H Q I h;refine Rp (Qw I hg hm ?_ hdb);refine X_ (h₀:=X.base) I.ok.mod.kin hk (Bd (ha pos pins s σ H _ I h) λus b ⟨vs,H1,a,r,q⟩=>⟨a.kIn,?_⟩) he hpl;exact X7r F hr hb hd hx a r q
end
section
variable {X:Cx}{CX:Lp}{k:Nat}{f C:Y1}{fd:FuncData}{ps ks:W0}{sp:Sp}{E:XK}{x m:Str}{p pos apos kpos:Pos}{e o:Expr}{es:List Expr}{kws:List Keyword}{te ta:TE}{t tk:TA}{nm:Option Str}
variable {g:List Value->List Value->List Value}{gV:List V->List V->List V}
end
structure Bf (N P:W0) (sc:Scope):Prop where
 kind:sc.kind=.function
 co:sc.isCoroutine=false
 gen:sc.isGenerator=false
 nd:N.Nodup
 pre:N.take P.length=P
 par:∀x∈P,sc.names.lookup x=some .local\/sc.names.lookup x=some .cell
 nofree:∀y∈sc.names,y.2≠.free
theorem ux{kindOf:Str->Option NameKind}{x:Str}:∀{binds:List (Str×Value)}{m:U4},(∀v,(x,v)∉binds)->bindL kindOf binds m x=m x
 | [],_,_=>rfl
 | (n,v)::r,m,h=>by
  unfold bindL;rw[ux λw a=>h w (Rq _ a)];split
  ·have:x≠n:=by rintro rfl;exact h v Ro
   simp[this]
  ·rfl
theorem uq{kindOf:Str->Option NameKind}{x:Str}:∀{binds:List (Str×Value)}{m:U4},(∀v,(x,v)∉binds)->bindC kindOf binds m x=m x
 | [],_,_=>rfl
 | (n,v)::r,m,h=>by
  unfold bindC;rw[uq λw a=>h w (Rq _ a)];split
  ·rfl
  ·have:x≠n:=by rintro rfl;exact h v Ro
   simp[this]
theorem uw{kindOf:Str->Option NameKind}{x:Str}{v:W4}:∀{P:W0}{vs:U5}{i:Nat}{m:U4},P.Nodup->P[i]?=some x->vs[i]?=some v->kindOf x=some .local ->
  bindL kindOf (P.zip vs) m x=some v
 | [],_,_,_,_,h,_,_=>by simp at h
 | _::_,[],_,_,_,_,h,_=>by simp at h
 | p::P,w::vs,0,m,nd,h1,h2,hk=>by
  simp at h1 h2;subst h1;subst h2;show bindL kindOf ((p,w)::P.zip vs) m p=_;unfold bindL;rw[ux λv a=>(QJ.mp nd).1 (Xy a).1,if_pos hk];simp
 | p::P,w::vs,i+1,m,nd,h1,h2,hk=>by
  show bindL kindOf ((p,w)::P.zip vs) m x=_;unfold bindL;exact uw (i:=i) (QJ.mp nd).2 (by simpa using h1) (by simpa using h2) hk
theorem uo{kindOf:Str->Option NameKind}{x:Str}{v:W4}:∀{P:W0}{vs:U5}{i:Nat}{m:U4},P.Nodup->P[i]?=some x->vs[i]?=some v->kindOf x≠some .local ->
  bindC kindOf (P.zip vs) m x=some v
 | [],_,_,_,_,h,_,_=>by simp at h
 | _::_,[],_,_,_,_,h,_=>by simp at h
 | p::P,w::vs,0,m,nd,h1,h2,hk=>by
  simp at h1 h2;subst h1;subst h2;show bindC kindOf ((p,w)::P.zip vs) m p=_;unfold bindC;rw[uq λv a=>(QJ.mp nd).1 (Xy a).1,if_neg hk];simp
 | p::P,w::vs,i+1,m,nd,h1,h2,hk=>by
  show bindC kindOf ((p,w)::P.zip vs) m x=_;unfold bindC;exact uo (i:=i) (QJ.mp nd).2 (by simpa using h1) (by simpa using h2) hk
noncomputable def start (N:W0)(vs:List V):St:=vs.map some++List.replicate (N.length-vs.length) none
noncomputable def FP (CX:Lp)(P:U8)(w:W3)(K:U0)(mg:U4)(base:Heap)(N:W0)(qual:Str)(scope:Scope)(f:Y1)(cd:W4)(A:W8)(outer:List Env)(s:U7)(H:Hp)(E:XK):Cx where
 prog:=P
 w:=w
 K:=K
 mg:=mg
 base:=base
 A:=A.deeper (envOfC qual scope s.heap.objs.size f cd)
 N:=N
 s₀:=s
 H₀:=H
 env:=envOfC qual scope s.heap.objs.size f cd
 outer:=outer
 stack:=envOfC qual scope s.heap.objs.size f cd::outer
 ex:=[]
 calm:=true
 fn:=λ_=>true
 pn:=[]
 xe:=λe s'=>wpAny (model P w) (A.deeper (envOfC qual scope s.heap.objs.size f cd)) (leaving (envOfC qual scope s.heap.objs.size f cd) e) (λ_ s''=>CX outer H s E e s'') (λe' s''=>CX outer H s E e' s'') s'
theorem tY{sc:Scope}{n:Nat}{x:Str}(h:sc.names.lookup x=some .cell):∃c,(cellsFrom n sc.names []).lookup x=some c:=by
 have q:=bZ sc.names n [] (.inl h);exact pG.mp q
variable{qual:Str}{scope:Scope}
theorem u6{N:W0}{cd:W4}{s1:U7}{E:XK}{vs:List V}
  (S:Bf N ps scope) (hd:A.handled=none) (e0:Ga P w K mg base A outer s H) (hl:vs.length=ps.length) (r:Vals vs us)
  (x:InCallC s s.heap.objs.size (bindL (envOfC qual scope s.heap.objs.size f cd).kindOf (ps.zip us) λ_=>none) (cellsFrom (s.heap.objs.size+1) scope.names []) (bindC (envOfC qual scope s.heap.objs.size f cd).kindOf (ps.zip us) λ_=>none) s1):
  Inv (FP CX P w K mg base N qual scope f cd A outer s H E) [] (start N vs) H s1:=by
 have t:ps.length<=N.length:=by have:=congrArg List.length S.pre;rw[J_]at this;lia
 obtain⟨h1,tk,rfl,l⟩:=x.done;have d:∀b:Addr,b∉(FP CX P w K mg base N qual scope f cd A outer s H E).ex:=λb z=>absurd (show b∈([]:U3) from z) (by simp)
 refine⟨⟨e0.mod,S.kind,O,O,Bc _,λy z c h1 h2=>?_,λy g=>?_,λy c _ h=>?_,λ_=>hd,Around.frames_deeper e0.frames,.inr ⟨O,O⟩,λb z=>absurd z (d b),e0.bs,e0.bsz,λb _ _=>d b,λb z=>absurd z (d b),e0.funs,e0.frf⟩,
  rfl,e0.bare,Un.kept l,⟨_,x.toInCall.ns,λi y v h1 h2 C=>?_⟩,λy c h=>⟨_,x.cell y c h⟩,e0.hok.fresh (Bc _),λy c h=>?_,λp hp=>absurd (show p∈([]:U1) from hp) (by simp),e0.hok.kept l,?_⟩
 ·exact name_of_addr x.apart (QW h1) (QW h2)
 ·have g:scope.names.lookup y=some .cell\/scope.names.lookup y=some .free:=g;rcases g with g | g
  ·exact tY g
  ·exact absurd rfl (S.nofree _ (QW g))
 ·exact Xq (x.above y c (QW h))
 ·have hi:i<vs.length:=by
   unfold start at h2;by_cases hi:i<vs.length
   ·exact hi
   ·rw[cu (by simpa using hi)]at h2;rw[o_]at h2;split at h2<;>cases h2
  have B:vs[i]?=some v:=by
   unfold start at h2;rw[cj (by simpa using hi),FN]at h2;cases e:vs[i]? with
   | none=>rw[e]at h2;cases h2
   | some a=>rw[e]at h2;cases h2;rfl
  obtain⟨u,m,o⟩:=r.get B;have hp:ps[i]?=some y:=by
   rw[<-S.pre,List.getElem?_take_of_lt (by lia)];exact h1
  have j:ps.Nodup:=by rw[<-S.pre];exact S.nd.sublist (List.take_sublist _ _)
  refine⟨u,o,?_⟩;rcases S.par y (Jo hp) with k | k
  ·exact .inl ⟨k,uw j hp m k⟩
  ·obtain⟨c,e⟩:=tY (n:=s.heap.objs.size+1) k;refine .inr ⟨.inl k,c,e,?_⟩;have q:=x.cell y c e;rw[uo j hp m (by show scope.names.lookup y≠_;rw[k];decide)]at q;exact q
 ·exact e0.hok.fresh (Xq (x.above y c (QW h)))
 ·unfold start;show _=N.length;rw[Gh,Bj,List.length_replicate];lia
theorem Zg{name:Str}{params:Arguments}{body:Y0}{dV kV doc pm cdv ct oc:W4}{an od:W7}
  {osl:W6}{N:W0}{sp:Sp} (lk:K.lookup f=some ⟨oc,od,.func (PySem.W.fnOf name qual params body scope dV kV doc pm an cdv ct),osl⟩) (hcd:PySem.W.codeIn K cdv qual=true) (S:Bf N ps scope)
  (len:∀vs H Q E,sp vs H Q E->vs.length=ps.length)
  (hbody:∀(A:W8) (outer:List Env) (s:U7) (H:Hp) (vs:List V) (Q:VK) (E:XK),CG k (A.deeper (envOfC qual scope s.heap.objs.size f cdv))->sp vs H Q E ->
   ∃t,GF (FP CX P w K mg base N qual scope f cdv A outer s H E) body t/\t { nx:=λ_ H'=>Q .non H',rt:=Q} (start N vs) H):
  Em P w K mg base CX (k+1) f (PySem.W.fnOf name qual params body scope dV kV doc pm an cdv ct) ps sp:=by
 refine⟨len,λA outer s H args us vs Q E j g p r d=>?_⟩;have C:=len _ _ _ _ d;have m:K.In s.heap:=g.mod.kin.keeps λb o e=>(g.bs b o e).1;have l:s.heap.NoLimit:=g.mod.nolimit.keeps λb o e=>(g.bs b o e).1;have a:∀y∈ps.zip us,scope.names.lookup y.1=some .local\/(scope.names.lookup y.1=some .cell/\((cellsFrom (s.heap.objs.size+1) scope.names []).lookup y.1).isSome=true):=λ⟨n,v⟩ F=>by
  rcases S.par n (Xy F).1 with q | q
  ·exact .inl q
  ·exact .inr ⟨q,bZ _ _ _ (.inl q)⟩
 refine oR j.depth (m _ _ lk) rfl S.co S.gen rfl (PySem.W.codeRec_of m hcd) (p _ _ _ _ ?_);refine pL S.kind a λenv B s1 x=>?_;subst B;refine⟨l.keeps x.toInCall.keep,codeAny_func ?_⟩;obtain⟨t,z,D⟩:=hbody A outer s H vs Q E (j.deeper _) d;have I:Inv (FP CX P w K mg base N qual scope f cdv A outer s H E) [] (start N vs) H s1:=u6 S j.hd g C r x;refine Eb (z [] s1 (start N vs) H _ I D) (λfl s' c=>?_) λe s' c=>c;have fin:∀{h:St}{H':Hp}{v:V}{u:W4},Inv (FP CX P w K mg base N qual scope f cdv A outer s H E) [] h H' s'->RelV v u->Q v H'->CE outer P w H s Q u s' :=
  λ{h H' v u} J i q=>⟨v,H',J.os,J.bare,J.base,J.hok,i,q⟩
 cases fl with
 | ret u =>
  obtain⟨v,h,H',J,i,q⟩:=c;exact fin J i q
 | next =>
  obtain⟨h,H',J,q⟩:=c;exact fin (v:=V.non) (u:=Value.none) J rfl q
 | brk =>
  obtain⟨_,_,_,q⟩:=c;exact False.elim q
 | cont =>
  obtain⟨_,_,_,q⟩:=c;exact False.elim q
section
variable {X:Cx}{x:Str}{p pos:Pos}{e:Expr}{es:List Expr}{t:TA}{id T:String}{r:List V->Hp->VK->Prop}
def oM (r:List V->Hp->VK->Prop)(t:TA):TE:=λσ H Q=>t σ H λvs H1=>r vs H1 Q
theorem DP(hc:CJ X (.builtin id) r)(hg:Gl X x)(hm:X.mg x=none)(hv:bootBuiltins x=some (.builtin id))(ha:PA X (e::es) t)(hn:autoParam (x≠"__name__") PySem.ldc._auto_1)(hdb:autoParam ((x == ("__debug__":Str))=false) PySem.ldc._auto_1)
  (he:autoParam (starEach (e::es) X.env=(false,eval e X.env)::starEach es X.env) PySem.W.hit_SB._auto_3) (hpl:autoParam ((backTo pos (starEach es X.env)).any (·.1)=false) PySem.W.hit_SB._auto_3):PE X (.Call (.Name x p) (e::es) [] pos) (oM r t):=by
 intro pins s σ H Q I h;refine Rp (Qo I hg hm hv ?_ hn hdb);exact PyProof.Rows.callWith_builtin1 (Bd (ha pos pins s σ H _ I h) λus b ⟨vs,H1,d,a,c⟩=>hc pins b σ H1 vs us Q d a c) he hpl
theorem Qz(hc:CJ X (.type T) r)(hg:Gl X x)(hm:X.mg x=none)(hv:bootBuiltins x=some (.type T))(ha:PA X (e::es) t)(hn:autoParam (x≠"__name__") PySem.ldc._auto_1)(hdb:autoParam ((x == ("__debug__":Str))=false) PySem.ldc._auto_1)
  (he:autoParam (starEach (e::es) X.env=(false,eval e X.env)::starEach es X.env) PySem.W.hit_SB._auto_3) (hpl:autoParam ((backTo pos (starEach es X.env)).any (·.1)=false) PySem.W.hit_SB._auto_3):PE X (.Call (.Name x p) (e::es) [] pos) (oM r t):=by
 intro pins s σ H Q I h;refine Rp (Qo I hg hm hv ?_ hn hdb);exact PyProof.Rows.callWith_type1 (Bd (ha pos pins s σ H _ I h) λus b ⟨vs,H1,d,a,c⟩=>hc pins b σ H1 vs us Q d a c) he hpl
end
end L2
namespace HT
section
open PySem.SeqAt
open PySem.AutoSeq1 (wpAny_loadPart')
open PySem.MeetsSeq PySem.MeetsSeq2 PySem.MeetsSeq3
end
section
variable {prog:U8}{w:W3}{A:W8}{E:U2}{s:U7}
noncomputable def Bp (n d:Nat):Option Int->Nat
 | none=>d
 | some v=>if v<0 then (v+(n:Int)).toNat else min v.toNat n
theorem Wb(n d k:Nat):Bp n d (some (k:Int))=min k n:=by
 show (if (k:Int)<0 then ((k:Int)+(n:Int)).toNat else min (k:Int).toNat n)=min k n;rw[if_neg (by lia),L_]
theorem X7q(n d:Nat)(hd:d<=n)(o:Option Int):Bp n d o<=n:=by
 cases o with
 | none=>exact hd
 | some v =>
  show (if v<0 then (v+(n:Int)).toNat else min v.toNat n)<=n;by_cases hv:v<0
  ·rw[if_pos hv];lia
  ·rw[if_neg hv];exact Nat.min_le_right _ _
theorem rD(v:Int)(n d:Nat):(if v<0 then max (v+(n:Int)) 0 else min v (n:Int))=((Bp n d (some v):Nat):Int):=by
 show (if v<0 then max (v+(n:Int)) 0 else min v (n:Int))=(((if v<0 then (v+(n:Int)).toNat else min v.toNat n):Nat):Int);by_cases hv:v<0
 ·simp only[if_pos hv];lia
 ·simp only[if_neg hv];lia
theorem Y4q(lo hi:Option Int)(n:Nat):Builtin.Slice.sliceAdjust lo hi 1 (n:Int)=(((Bp n 0 lo:Nat):Int),((Bp n n hi:Nat):Int)):=by
 have h1:¬ ((1:Int)<0):=by lia
 unfold Builtin.Slice.sliceAdjust;simp only[h1,Ir];refine Prod.ext ?_ ?_
 ·cases lo with
  | none=>rfl
  | some v=>exact rD v n 0
 ·cases hi with
  | none=>rfl
  | some v=>exact rD v n n
theorem Y3y(i j:Nat):Builtin.Slice.slicePlaces (i:Int) (j:Int) 1=j-i:=by
 unfold Builtin.Slice.slicePlaces;have h1:(1:Int)>0:=by lia
 simp only[h1,J0,Int.ediv_one];split<;>lia
theorem qX{v:W4}{o:Option Int}{Q:Option Int->Shared->Prop}(p:IsPart v o)(h:Q o s):wpAny (model prog w) A (Builtin.Slice.slicePartIndex v) Q E s:=by
 cases p with
 | none=>exact slicePart_none h
 | int i t=>exact slicePart_int h
variable{lo hi:Option Int}
theorem q_{sl:Y1}{vl vu:W4}{n:Nat}{Q:Int×Int×Nat->Shared->Prop}(hs:s.heap.IsSliceOf sl vl vu .none)(pl:IsPart vl lo)(pu:IsPart vu hi)
  (h:Q (((Bp n 0 lo:Nat):Int),1,Bp n n hi-Bp n 0 lo) s):wpAny (model prog w) A (Builtin.Slice.sliceApplied (.ref sl) (pure (n:Int))) Q E s:=by
 obtain⟨os,a,c,b⟩:=id hs;unfold Builtin.Slice.sliceApplied Builtin.Slice.sliceFields;refine Ak (Ak (J2 a b (x:=vl) rfl (Ak (J2 a b (x:=vu) rfl (Ak (J2 a b (x:=.none) rfl (BZ ?_)))))));refine Ak (slicePart_none ?_);show wpAny _ _ (if ((1:Int) == 0)=true then _ else _) _ _ s;rw[if_neg (by decide)];refine Ak (qX pl (Ak (qX pu (Ak (BZ ?_)))));show wpAny _ _ (match Builtin.Slice.sliceAdjust lo hi 1 (n:Int) with | (lo,hi)=>pure (lo,(1:Int),Builtin.Slice.slicePlaces lo hi 1)) _ _ s;rw[Y4q lo hi n];show wpAny _ _ (pure (((Bp n 0 lo:Nat):Int),(1:Int),Builtin.Slice.slicePlaces ((Bp n 0 lo:Nat):Int) ((Bp n n hi:Nat):Int) 1)) _ _ s;rw[Y3y];exact BZ h
theorem Y9i(xs:U9)(i k:Nat):((List.range k).filterMap λ(m:Nat)=>xs[((i:Int)+(m:Int)*1).toNat]?).toArray=((xs.toList.drop i).take k).toArray:=by
 have e:(λ(m:Nat)=>xs[((i:Int)+(m:Int)*1).toNat]?)=λm=>xs[i+m]?:=by
  funext m;have:((i:Int)+(m:Int)*1).toNat=i+m:=by lia
  rw[this]
 rw[e];have:=pick_run xs i k;rw[List.filterMap_map]at this;have e2:((λx=>xs[x]?) ∘ λx=>i+x)=λm=>xs[i+m]?:=rfl;rw[e2]at this;rw[this]
theorem _Z{t sl:Y1}{items:U9}{vl vu:W4}{Q:U2}(ht:IsTup s.heap t items)(hs:s.heap.IsSliceOf sl vl vu .none)(pl:IsPart vl lo)(pu:IsPart vu hi)
  (hw:¬ (Bp items.size 0 lo=0/\Bp items.size items.size hi=items.size))
  (h:Q (.ref s.heap.objs.size) {s with heap:=s.heap.push { cls:=.type "tuple",data:=.seq ((items.toList.drop (Bp items.size 0 lo)).take (Bp items.size items.size hi-Bp items.size 0 lo)).toArray}})
  (hsz:items.size<=sizeLine):wpAny (model prog w) A (getItem (.ref t) (.ref sl)) Q E s:=by
 have a:sizeOk (.seq ((items.toList.drop (Bp items.size 0 lo)).take (Bp items.size items.size hi-Bp items.size 0 lo)).toArray):=by
  show ((items.toList.drop (Bp items.size 0 lo)).take (Bp items.size items.size hi-Bp items.size 0 lo)).toArray.size<=sizeLine;rw[Du,J_,Rh,Ep];omega
 have i:Bp items.size items.size hi<=items.size:=X7q _ _ (Bc _) hi;obtain⟨os,e,b,f⟩:=id hs;have c:s.TypeIs (.ref sl) "slice":=⟨os,e,b⟩;unfold getItem;try with_reducible refine JQ ?_
 first | refine Ak (BZ ?_) | skip
 refine Ak (wpAny_sequenceKey ht.typeIs (by decide) ?_)
 refine Ak (YT (name:=Str.ofString "__getitem__") ht.typeIs PyProof.Rows.slot_tuple_getitem
  (Rj PyProof.Rows.slot_tuple_getitem ht.typeIs entry_tuple_getitem ?_ (args_tuple_getitem _ _)))
 show wpAny _ _ (Builtin.Tuple.tupleItemsOf (.ref t) >>= _) _ _ s;refine Ak (tupleItemsOf_ ht ?_);refine Ak (Xu c ?_);rw[if_pos (by decide)];refine Ak (q_ hs pl pu ?_);have d:¬ ((((Bp items.size 0 lo:Nat):Int) == 0 && (1:Int) == 1 && (Bp items.size items.size hi-Bp items.size 0 lo) == items.size)=true):=by
  intro q;rw[GQ,GQ]at q;have j:((Bp items.size 0 lo:Nat):Int)=0:=Fo q.1.1;have g:Bp items.size items.size hi-Bp items.size 0 lo=items.size:=Fo q.2;exact hw ⟨by lia,by lia⟩
 show wpAny _ _ (if (((Bp items.size 0 lo:Nat):Int) == 0 && (1:Int) == 1 && (Bp items.size items.size hi-Bp items.size 0 lo) == items.size)=true then _ else _) _ _ s;rw[if_neg d,Y9i];first
  | exact Ak (m:=Builtin.Tuple.tupleExact _) (KD (BZ ⟨_,rfl,BZ h⟩) a)
  | exact Ak (m:=Builtin.Tuple.tupleExact _) (KD (Ak (BZ (BZ ⟨_,rfl,BZ h⟩))) a)
  | exact Ak (Ak (m:=Builtin.Tuple.tupleExact _) (KD (BZ (BZ ⟨_,rfl,BZ h⟩)) a))
  | exact Ak (Ak (m:=Builtin.Tuple.tupleExact _) (KD (BZ ⟨_,rfl,BZ h⟩) a))
end
end HT
namespace L2
abbrev TO:=St->Hp->(Option Int->Hp->Prop)->Prop
def PO (X:Cx)(e:Option Expr)(t:TO):Prop :=
 ∀(pins:U1) (s:U7) (σ:St) (H:Hp) (Q:Option Int->Hp->Prop),Inv X pins σ H s->t σ H Q ->
  wpAny (model X.prog X.w) X.A (evalPart e X.env) (λu s'=>∃o H',Inv X pins σ H' s'/\IsPart u o/\Q o H') X.xe s
def X3n:TO:=λ_ H Q=>Q none H
def Uc (t:TE):TO:=λσ H Q=>t σ H λx H1=>∃i,x=.int i/\Q (some i) H1
theorem ZL{ns:U6}:∀{us:U5},Vals (ns.map V.int) us->IntsAre us ns:=by
 induction ns with
 | nil=>intro us r;rw[Ym]at r;cases r;exact .nil
 | cons n ns ih =>
  intro us r;rw[GP]at r;cases r with
  | cons r1 r2 =>
   obtain⟨t,e⟩:=r1;subst e;exact .cons n t (ih r2)
section
variable {X:Cx}{e:Expr}{te:TE}{lo hi:Option Expr}{tl th:TO}{pos p2:Pos}
theorem Nq:PO X none X3n:=by
 intro pins s σ H Q I h;rw[evalPart_none];exact BZ ⟨none,H,I,.none,h⟩
theorem Jv(h:PE X e te):PO X (some e) (Uc te):=by
 intro pins s σ H Q I c;rw[evalPart_some];refine Bd (h pins s σ H _ I c) λu f ⟨x,H1,d,a,b⟩=>?_;obtain⟨i,rfl,q⟩:=b;obtain⟨t,rfl⟩:=a;exact⟨some i,H1,d,.int i t,q⟩
def Zm (X:Cx)(r:V->Option Int->Option Int->Hp->VK->Prop):Prop :=
 ∀(pins:U1) (s:U7) (σ:St) (H:Hp) (x:V) (v vl vu:W4) (lo hi:Option Int) (sl:Y1) (Q:VK),Inv X pins σ H s->RelV x v->s.heap.IsSliceOf sl vl vu .none->IsPart vl lo->IsPart vu hi->r x lo hi H Q ->
  ∃T id,typeLookup (.type T) "__getitem__"=pure (some (.builtin id))/\s.TypeIs v T/\wpAny (model X.prog X.w) X.A (getItem v (.ref sl)) (EP X pins σ Q) X.xe s
def yM (r:V->Option Int->Option Int->Hp->VK->Prop)(te:TE)(tl th:TO):TE:=λσ H Q=>te σ H λx H1=>tl σ H1 λl H2=>th σ H2 λu H3=>r x l u H3 Q
theorem Ld{r:V->Option Int->Option Int->Hp->VK->Prop}(hr:Zm X r)(he:PE X e te)(hl:PO X lo tl)(hu:PO X hi th):PE X (.Subscript e (.Slice lo hi none p2) pos) (yM r te tl th):=by
 intro pins s σ H Q I h;refine Subscript_ (Bd (he pins s σ H _ I h) λv j ⟨x,H1,B,o,y⟩=>?_);refine wpAny_Slice (Bd (hl pins j σ H1 _ B y) λc n ⟨l,H2,m,i,g⟩=>Bd (hu pins n σ H2 _ m g) λd a ⟨u,f,C,D,E⟩=>?_);rw[evalPart_none];refine BZ ?_;have t:Inv X pins σ f {a with heap:=a.heap.push { cls:=.type "slice",data:=.fields #[c,d,.none]}}:=C.kept (t':=a.toks) λb F q=>Ca _ q;obtain⟨T,id,k,p,z⟩:=hr pins {a with heap:=a.heap.push { cls:=.type "slice",data:=.fields #[c,d,.none]}} σ f x v c d l u a.heap.objs.size Q t o (Heap.IsSliceOf.new ..) i D E;show wpAny (model X.prog X.w) X.A (subscriptTail e (.Slice lo hi none p2) v (.ref a.heap.objs.size)) (EP X pins σ Q) X.xe {a with heap:=a.heap.push { cls:=.type "slice",data:=.fields #[c,d,.none]}};exact tail_any (ops:=[.ref a.heap.objs.size,v]) p k z (by with_unfolding_all rfl)
noncomputable def Dy (xs:List V)(lo hi:Option Int):List V:=(xs.drop (HT.Bp xs.length 0 lo)).take (HT.Bp xs.length xs.length hi-HT.Bp xs.length 0 lo)
theorem qe(xs:List V)(lo hi:Option Int):(Dy xs lo hi).length<=xs.length:=by
 unfold Dy;rw[J_,Rh];lia
def aG (K:U0):V->Option Int->Option Int->Hp->VK->Prop:=λx lo hi H Q=>∃a xs,x=.ref a/\Ao K H a xs /\
 ¬ (HT.Bp xs.length 0 lo=0/\HT.Bp xs.length xs.length hi=xs.length)/\∀p,H p=none->Q (.ref p) (upd H p (.tup (Dy xs lo hi)))
theorem WQ:Zm X (aG X.K):=by
 intro pins s σ H x v m p lo hi t Q I g l f k h;obtain⟨a,xs,rfl,i,j,q⟩:=h;cases g;obtain⟨its,r,e,d⟩:=I.tuple i;have c:its.toArray.size=xs.length:=by rw[Du];exact r.length.symm
 refine⟨"tuple",_,PyProof.Rows.slot_tuple_getitem.lookup,e.typeIs,?_⟩;refine HT._Z e l f k (by rw[c];exact j) ?_ (by rw[c];exact d);rw[c];refine⟨.ref s.heap.objs.size,_,I.laid (t':=s.toks) (o:=.tup (Dy xs lo hi)) (λb n q=>Ca _ q) (Bc _) ?_,O,q _ (I.hok.fresh (Bc _))⟩;exact⟨Fq (qe xs lo hi) d,_,(r.drop (HT.Bp xs.length 0 lo)).take (HT.Bp xs.length xs.length hi-HT.Bp xs.length 0 lo),IsTup.new _ _⟩
end
noncomputable def NT (n:Nat)(i:Int):Option Nat:=if 0<=i then (if i<n then some i.toNat else none) else if -(n:Int)<=i then some (i+n).toNat else none
noncomputable def GC {α:Type}(xs:List α)(i:Int):Option α:=(NT xs.length i).bind λj=>xs[j]?
variable{n j:Nat}{i:Int}
theorem rQ(h:NT n i=some j):seqIndex? i n=some j/\j<n/\-(n:Int)<=i/\i<n:=by
 unfold NT at h;by_cases h0:0<=i
 ·rw[if_pos h0]at h;by_cases h1:i<n
  ·rw[if_pos h1]at h;have e:i.toNat=j:=Option.some.inj h;exact⟨by rw[seqIndex_of h0 h1,e],by lia,by lia,h1⟩
  ·rw[if_neg h1]at h;cases h
 ·rw[if_neg h0]at h;by_cases h1:-(n:Int)<=i
  ·rw[if_pos h1]at h;have e:(i+n).toNat=j:=Option.some.inj h;exact⟨by rw[jQ (by lia) h1,e],by lia,h1,by lia⟩
  ·rw[if_neg h1]at h;cases h
variable{α:Type}
theorem rB{xs:List α}{v:α}(h:GC xs i=some v):∃j,seqIndex? i xs.length=some j/\xs[j]?=some v/\j<xs.length/\-(xs.length:Int)<=i/\i<xs.length:=by
 unfold GC at h;cases e:NT xs.length i with
 | none=>rw[e]at h;cases h
 | some j =>
  rw[e]at h;obtain⟨h1,h2,a,b⟩:=rQ e;exact⟨j,h1,h,h2,a,b⟩
theorem Mf{xs:List α}{v:α}(h:xs[j]?=some v):GC xs (j:Int)=some v:=by
 have a:j<xs.length:=(G4.mp h).1;have e:NT xs.length (j:Int)=some j:=by
  unfold NT;rw[if_pos (by lia),if_pos (by lia)];simp
 unfold GC;rw[e];exact h
def X6l (b:Expr):Prop:=∀o i,subscripted b false o i=operate [o,i] (getItem o i)
def Xg (X:Cx)(r:R2):Prop :=
 ∀(value slice:Expr) (pins:U1) (s:U7) (σ:St) (H:Hp) (x y:V) (v u:W4) (Q:VK),Inv X pins σ H s->RelV x v->RelV y u->r x y H Q ->
  subscripted slice false v u=operate [v,u] (getItem v u)->wpAny (model X.prog X.w) X.A (subscriptTail value slice v u) (EP X pins σ Q) X.xe s
def nj (X:Cx)(id:String)(r:V->List V->Hp->VK->Prop):Prop :=
 ∀(pins:U1) (s:U7) (σ:St) (H:Hp) (x:V) (xs:List V) (v:W4) (us:U5) (Q:VK),Inv X pins σ H s->RelV x v->Vals xs us->r x xs H Q ->
  wpAny (model X.prog X.w) X.A (call (.builtin id) (v::us)) (EP X pins σ Q) X.xe s
section
variable {X:Cx}{a b:Expr}{ta tb:TE}{pos:Pos}
theorem Ai{r:R2}(hr:Xg X r)(ha:PE X a ta)(hb:PE X b tb)(hs:X6l b):PE X (.Subscript a b pos) (Pk r ta tb):=by
 intro pins s σ H Q I h;exact Subscript_ (Qn ha hb I h λv u f x y H2 d e c q=>hr a b pins f σ H2 x y v u Q d e c q (hs _ _))
def Ux (K:U0):R2:=λx y H Q=>∃p xs i v,x=.ref p/\y=.int i/\Ax K H p xs/\GC xs i=some v/\Q v H
def Uw (K:U0):R2:=λx y H Q=>∃p xs i v,x=.ref p/\y=.int i/\Ao K H p xs/\GC xs i=some v/\Q v H
theorem Dl:Xg X (Ux X.K):=by
 intro value d pins s σ H x y v u Q I m l h f;obtain⟨p,xs,i,z,rfl,rfl,A,n,q⟩:=h;cases m;obtain⟨t,rfl⟩:=l;obtain⟨its,r,a,C⟩:=I.list A;obtain⟨j,h1,h2,D,k,g⟩:=rB n;obtain⟨w,e,b⟩:=r.get h2;have o:=r.length;have B:=Fv;have fin:EP X pins σ Q w s:=⟨z,H,I,b,q⟩;by_cases h0:0<=i
 ·have c:i.toNat=j:=by
   rw[seqIndex_of h0 g]at h1;exact Option.some.inj h1
  exact item_listR a.isList h0 (by lia) (by rw[c];simpa using e) fin f
 ·have c:(i+(its.toArray.size:Int)).toNat=j:=by
   rw[jQ (by lia) k]at h1;rw[Du,<-o];exact Option.some.inj h1
  exact ou (x:=w) a.isList.typeIs slot_list_getitem.lookup
   (wpAny_getItem_list_neg (Q:=λr s'=>r=w/\EP X pins σ Q r s') a.isList (by lia) (by rw[Du]<;>lia) (by lia) (by rw[c];simpa using e) ⟨O,fin⟩) f
theorem Aq:Xg X (Uw X.K):=by
 intro value b pins s σ H x y v u Q I g d h f;obtain⟨p,xs,i,z,rfl,rfl,m,k,q⟩:=h;cases g;obtain⟨t,rfl⟩:=d;obtain⟨its,r,c,B⟩:=I.tuple m;obtain⟨j,h1,h2,C,A,n⟩:=rB k;obtain⟨w,e,a⟩:=r.get h2;have l:=r.length;have o:=Fv;have fin:EP X pins σ Q w s:=⟨z,H,I,a,q⟩;exact ou (x:=w) c.typeIs slot_tuple_getitem.lookup
  (getItem_tuple (j:=j) (Q:=λr s'=>r=w/\EP X pins σ Q r s') c (by lia) (by lia) (by rw[Du,<-l];exact h1) (by simpa using e) ⟨O,fin⟩) f
theorem Y4g(its:U5)(n j:Nat)(u:W4):Obj.mapSeq (·.setIfInBounds j u) { cls:=.type "list",data:=.seq its.toArray n}={ cls:=.type "list",data:=.seq (its.set j u).toArray n}:=by
 simp[Obj.mapSeq]
theorem Inv.lst{pins:U1}{σ:St}{H:Hp}{s:U7}{p:Y1}{xs:List V}(I:Inv X pins σ H s)(h:H p=some (.lst xs)):
  ∃(its:U5) (n:Nat),Vals xs its/\s.heap.get? p=some { cls:=.type "list",data:=.seq its.toArray n}/\xs.length<=sizeLine:=by
 obtain⟨z,its,n,r,e⟩:=I.hok p _ h;exact⟨its,n,r,e,z⟩
variable{s:U7}
theorem Inv.lstUpd{pins:U1}{σ:St}{H:Hp}{p:Y1}{xs ys:List V}{its its':U5}{n':Nat}{f:Obj->Obj}(I:Inv X pins σ H s)(h:H p=some (.lst xs))
  (ho:s.heap.get? p=some { cls:=.type "list",data:=.seq its.toArray n}) (hf:f { cls:=.type "list",data:=.seq its.toArray n}={ cls:=.type "list",data:=.seq its'.toArray n'}) (r:Vals ys its') (hz:ys.length<=sizeLine) (t:Nat):
  Inv X pins σ (upd H p (.lst ys)) {s with heap:=s.heap.update p f,toks:=t}:=by
 have e:(s.heap.update p f).get? p=some { cls:=.type "list",data:=.seq its'.toArray n'}:=by
  rw[Oq f ho (by rw[hf]<;>rfl),hf]
 refine I.write (x:=p) (e:=p) (by rw[h];trivial) (.inl rfl) (λb u a q=>(QX _ _ (Ne.symm a)).trans q) ⟨_,e⟩ ?_;exact⟨hz,its',n',r,e⟩
def Uv:V->V->V->Hp->(Hp->Prop)->Prop:=λo i v H Q=>∃p xs k j,o=.ref p/\i=.int k/\H p=some (.lst xs)/\NT xs.length k=some j/\Q (upd H p (.lst (xs.set j v)))
theorem Y9e:Xb X Uv:=by
 intro pins s σ H o i v A z u Q I l m g h;obtain⟨p,xs,k,j,rfl,rfl,hp,x,q⟩:=h;cases l;obtain⟨t,rfl⟩:=m;obtain⟨its,n,r,b,w⟩:=I.lst hp;obtain⟨h1,h2,f,e⟩:=rQ x;have c:=r.length;have y:=Fv;have d:Inv X pins σ (upd H p (.lst (xs.set j v))) {s with heap:=s.heap.update p (Obj.mapSeq (·.setIfInBounds j u))} :=
  I.lstUpd hp b (Y4g its n j u) (r.set g j) (by rw[Xx];exact w) s.toks
 by_cases h0:0<=k
 ·have a:k.toNat=j:=by
   rw[seqIndex_of h0 e]at h1;exact Option.some.inj h1
  exact PySem.W.ki_setAt b h0 (by lia) (by rw[Du,<-c];exact e) (by rw[a];exact⟨_,d,q⟩)
 ·have a:(k+(its.toArray.size:Int)).toNat=j:=by
   rw[jQ (by lia) f]at h1;rw[Du,<-c];exact Option.some.inj h1
  exact PySem.W.ki_setBack b (by lia) (by rw[Du,<-c];exact f) (by lia) (by rw[a];exact⟨_,d,q⟩)
theorem _G(lo hi:Option Int)(n:Nat):(sliceBounds lo hi none n).1=((HT.Bp n 0 lo:Nat):Int)/\(sliceBounds lo hi none n).2.1=((HT.Bp n n hi:Nat):Int)/\(sliceBounds lo hi none n).2.2=1:=by
 refine⟨?_,?_,O⟩
 ·cases lo with
  | none=>simp[sliceBounds,HT.Bp]
  | some i =>
   simp only[sliceBounds,HT.Bp,Option.getD_none,show (1:Int)>0 by decide,J0];by_cases h:i<0
   ·simp only[h,J0]<;>lia
   ·simp only[h,Ir]<;>lia
 ·cases hi with
  | none=>simp[sliceBounds,HT.Bp]
  | some i =>
   simp only[sliceBounds,HT.Bp,Option.getD_none,show (1:Int)>0 by decide,J0];by_cases h:i<0
   ·simp only[h,J0]<;>lia
   ·simp only[h,Ir]<;>lia
theorem _O(its:U5)(lo hi:Option Int):slicePick its.toArray lo hi none=((its.drop (HT.Bp its.length 0 lo)).take (HT.Bp its.length its.length hi-HT.Bp its.length 0 lo)).toArray:=by
 obtain⟨h1,h2,a⟩:=_G lo hi its.toArray.size;unfold slicePick;rw[h1,h2,a];simp only[sliceRange_one,pick_run,Du]<;>rfl
def aJ (K:U0):V->Option Int->Option Int->Hp->VK->Prop:=λx lo hi H Q=>∃a xs,x=.ref a/\Ax K H a xs/\∀p,H p=none->Q (.ref p) (upd H p (.lst (Dy xs lo hi)))
theorem sS:Zm X (aJ X.K):=by
 intro pins s σ H x v l n lo hi p Q I f k e j h;obtain⟨a,xs,rfl,i,q⟩:=h;cases f;obtain⟨its,r,d,g⟩:=I.list i;have c:=r.length;refine⟨"list",_,slot_list_getitem.lookup,d.isList.typeIs,?_⟩;refine wpAny_getItem_list_slice d.isList k e j .none (by simp) ?_ (by rw[Du]<;>lia);rw[_O,<-c];refine⟨.ref s.heap.objs.size,_,I.laid (t':=s.toks) (o:=.lst (Dy xs lo hi)) (λb m q=>Ca _ q) (Bc _) ?_,O,q _ (I.hok.fresh (Bc _))⟩;exact⟨Fq (qe xs lo hi) g,_,0,(r.drop (HT.Bp xs.length 0 lo)).take (HT.Bp xs.length xs.length hi-HT.Bp xs.length 0 lo),Ew _ rfl⟩
noncomputable def Fe:V->Bool
 | .non=>true
 | .bl _=>true
 | .int _=>true
 | .str _=>true
 | _=>false
noncomputable def Nb:V->V->Bool
 | .non,.non=>true
 | .bl a,.bl b=>a == b
 | .bl a,.int b=>(if a then 1 else 0) == b
 | .int a,.bl b=>a == (if b then 1 else 0)
 | .int a,.int b=>a == b
 | .str a,.str b=>a == b
 | _,_=>false
variable{x:V}{u v:W4}
theorem W0a{A:W8}{y:V}(ry:RelV y u)(rx:RelV x v)(fy:Fe y=true)(fx:Fe x=true):SeqAt.EqAt A s u v (Nb y x):=by
 cases y with
 | non =>
  cases ry;cases x with
  | non=>cases rx;exact SeqAt.EqAt.same _
  | bl b=>cases rx;exact SeqAt.EqAt.none_bool b
  | int b=>obtain⟨t,rfl⟩:=rx;exact SeqAt.EqAt.none_int b t
  | str b=>obtain⟨t,rfl⟩:=rx;exact SeqAt.EqAt.none_str b t
  | _=>exact absurd (show false=true from fx) DK
 | bl a =>
  cases ry;cases x with
  | non=>cases rx;exact SeqAt.EqAt.bool_none a
  | bl b=>cases rx;exact SeqAt.EqAt.bool_bool a b
  | int b=>obtain⟨t,rfl⟩:=rx;exact SeqAt.EqAt.bool_int a b t
  | str b=>obtain⟨t,rfl⟩:=rx;exact SeqAt.EqAt.bool_str a b t
  | _=>exact absurd (show false=true from fx) DK
 | int a =>
  obtain⟨t',rfl⟩:=ry;cases x with
  | non=>cases rx;exact SeqAt.EqAt.int_none a t'
  | bl b=>cases rx;exact SeqAt.EqAt.int_bool a t' b
  | int b=>obtain⟨t,rfl⟩:=rx;exact SeqAt.EqAt.int_int a t' b t
  | str b=>obtain⟨t,rfl⟩:=rx;exact SeqAt.EqAt.int_str a t' b t
  | _=>exact absurd (show false=true from fx) DK
 | str a =>
  obtain⟨t',rfl⟩:=ry;cases x with
  | non=>cases rx;exact SeqAt.EqAt.str_none a t'
  | bl b=>cases rx;exact SeqAt.EqAt.str_bool a t' b
  | int b=>obtain⟨t,rfl⟩:=rx;exact SeqAt.EqAt.str_int a t' b t
  | str b=>obtain⟨t,rfl⟩:=rx;exact SeqAt.EqAt.str_str a t' b t
  | _=>exact absurd (show false=true from fx) DK
 | _=>exact absurd (show false=true from fy) DK
noncomputable def Nf (x:V)(u:W4):Bool:=match u with
 | .none=>Nb .non x
 | .bool b=>Nb (.bl b) x
 | .int i _=>Nb (.int i) x
 | .str z _=>Nb (.str z) x
 | _=>false
theorem wO{y:V}(r:RelV y u)(f:Fe y=true):Nf x u=Nb y x:=by
 cases y with
 | non=>cases r;rfl
 | bl b=>cases r;rfl
 | int i=>obtain⟨t,rfl⟩:=r;rfl
 | str z=>obtain⟨t,rfl⟩:=r;rfl
 | _=>exact absurd (show false=true from f) DK
theorem mG{x:V}:∀{xs:List V}{us:U5},Vals xs us->xs.all Fe=true->us.any (Nf x)=xs.any λy=>Nb y x
 | _,_,.nil,_=>rfl
 | y::xs,u::us,.cons r t,f=>by
  rw[Xv,GQ]at f;rw[RQ,RQ,wO r f.1,mG t f.2]
theorem jx{A:W8}{s:U7}{x:V}{v:W4}(rx:RelV x v)(fx:Fe x=true):∀{xs:List V}{us:U5},Vals xs us->xs.all Fe=true->∀u∈us,SeqAt.EqAt A s u v (Nf x u)
 | _,_,.nil,_=>λu a=>by cases a
 | y::xs,u::us,.cons r t,f=>λb a=>by
  rw[Xv,GQ]at f;rcases DY.mp a with rfl | a
  ·rw[wO r f.1];exact W0a r rx f.1 fx
  ·exact jx rx fx t f.2 b a
noncomputable def inV (x:V)(xs:List V):Bool:=xs.any λy=>Nb y x
def yU (K:U0)(neg:Bool):R2:=λx y H Q=>∃p xs,y=.ref p/\(Ax K H p xs\/Ao K H p xs)/\Fe x=true/\xs.all Fe=true/\Q (.bl (if neg then !inV x xs else inV x xs)) H
theorem Y6g:Ed X (compareOp .In) (yU X.K false):=by
 intro pins s σ H x y v u Q I d f h;obtain⟨p,xs,rfl,a,e,fs,q⟩:=h;cases f;rcases a with a | a
 ·obtain⟨its,r,b,g⟩:=I.list a;refine SeqAt.in_listAt (Nf x) b.isList (λw c=>jx d e r fs w (by simpa using c)) ⟨.bl _,H,I,O,?_⟩;rw[show its.toArray.any (Nf x)=its.any (Nf x) by simp,mG r fs];exact q
 ·obtain⟨its,r,b,g⟩:=I.tuple a;refine SeqAt.in_tupleAt (Nf x) b (λw c=>jx d e r fs w (by simpa using c)) ⟨.bl _,H,I,O,?_⟩;rw[show its.toArray.any (Nf x)=its.any (Nf x) by simp,mG r fs];exact q
theorem Jw:CJ X (.builtin "len") (λxs H Q=>∃p ys,xs=[.ref p]/\(Ax X.K H p ys\/Ao X.K H p ys)/\Q (.int ys.length) H):=by
 intro pins s σ H xs us Q I r h;obtain⟨p,ys,rfl,b,q⟩:=h;obtain⟨u,rfl,e⟩:=vals1 r;cases e;have g:=Fv;rcases b with b | b
 ·obtain⟨its,d,c,f⟩:=I.list b;have a:=d.length;exact Calls.call_len_list c.isList (by simp only[Du]<;>lia) ⟨.int ys.length,H,I.tok _,⟨s.toks+1,by rw[Du,a]⟩,q⟩
 ·obtain⟨its,d,c,f⟩:=I.tuple b;have a:=d.length;exact len_tuple c (by simp only[Du]<;>lia) ⟨.int ys.length,H,I.tok _,⟨s.toks+1,by rw[Du,a]⟩,q⟩
theorem lN:CJ X (.type "list") (λxs H Q=>∃p ys,xs=[.ref p]/\(Ax X.K H p ys\/Ao X.K H p ys)/\∀l,H l=none->Q (.ref l) (upd H l (.lst ys))):=by
 intro pins s σ H xs us Q I r h;obtain⟨p,ys,rfl,g,q⟩:=h;obtain⟨u,rfl,t⟩:=vals1 r;cases t;have fin:∀(its:U5),Vals ys its->ys.length<=sizeLine->∀(h':Heap) (c:Nat),(∀b o',s.heap.get? b=some o'->h'.get? b=some o') ->
   h'.get? s.heap.objs.size=some { cls:=.type "list",dict:=none,data:=.seq its.toArray c,slots:=#[]}->EP X pins σ Q (.ref s.heap.objs.size) {s with heap:=h'}:=λits a f h' c d e =>
  ⟨.ref s.heap.objs.size,_,I.laid (t':=s.toks) d (Bc _) (show BJ X.prog X.w _ h' _ (.lst ys) from ⟨f,its,c,a,e⟩),O,q _ (I.hok.fresh (Bc _))⟩
 rcases g with g | g
 ·obtain⟨its,a,j,f⟩:=I.list g;have i:=a.length;obtain⟨o,k,m,n,hd⟩:=j.isList;exact call_list_seq p (.inl rfl) k m hd (λh' c d e=>fin its a f h' c d e) (by simp only[Du]<;>lia)
 ·obtain⟨its,a,j,f⟩:=I.tuple g;have i:=a.length;obtain⟨o,k,m,n,hd⟩:=j;exact call_list_seq p (.inr rfl) k m hd (λh' c d e=>fin its a f h' c d e) (by simp only[Du]<;>lia)
def Zw (K:U0)(T:String)(x:V)(H:Hp):Prop:=match x with
 | .str _=>T="str"
 | .int _=>T="int"
 | .ref p=>(T="list"/\∃xs,Ax K H p xs)\/(T="tuple"/\∃o,K.lookup p=some o/\o.cls=.type "tuple"/\o.dict=none) \/
   (T="dict"/\((∃kvs,H p=some (.dK kvs))\/∃kvs,H p=some (.dT kvs)))\/(T="set"/\∃S n,H p=some (.set S n))
 | _=>False
theorem xU{pins:U1}{σ:St}{H:Hp}{T:String}(I:Inv X pins σ H s)(r:RelV x v)(ty:Zw X.K T x H):
  s.TypeIs v T/\∀a,v=.ref a->∃ob,s.heap.get? a=some ob/\ob.dict=none:=by
 cases x with
 | str z =>
  obtain⟨t,rfl⟩:=r;cases (show T="str" from ty);exact⟨typeIs_str s z t,λ_ e=>nomatch e⟩
 | int i =>
  obtain⟨t,rfl⟩:=r;cases (show T="int" from ty);exact⟨Yh s i t,λ_ e=>nomatch e⟩
 | ref p =>
  cases r;rcases ty with ⟨rfl,xs,hq⟩ | ⟨rfl,o,hk,hc,hd⟩ | ⟨rfl,hk⟩ | ⟨rfl,S,n,hk⟩
  ·obtain⟨its,_,b,_⟩:=I.list hq;refine⟨b.isList.typeIs,λa e=>?_⟩;cases e;obtain⟨o,n,e,c,hd,_⟩:=b;exact⟨o,e,hd⟩
  ·refine⟨⟨o,I.kIn p o hk,hc⟩,λa e=>?_⟩;cases e;exact⟨o,I.kIn _ o hk,hd⟩
  ·have z:∃o,s.heap.get? p=some o/\o.ExactDict:=by
    rcases hk with ⟨kvs,hk⟩ | ⟨kvs,hk⟩
    ·obtain⟨_,_,_,_,o,_,_,e,ex,_⟩:=I.hok p _ hk;exact⟨o,e,ex⟩
    ·obtain⟨_,_,_,_,o,_,_,e,ex,_⟩:=I.hok p _ hk;exact⟨o,e,ex⟩
   obtain⟨o,e,ex⟩:=z;refine⟨⟨o,e,ex.1⟩,λa e2=>?_⟩;cases e2;exact⟨o,e,ex.2.1⟩
  ·obtain⟨o,_,_,_,e,ex,_⟩:=I.hok p _ hk;refine⟨⟨o,e,ex.1⟩,λa e2=>?_⟩;cases e2;exact⟨o,e,ex.2.1⟩
 | _=>exact False.elim ty
def Z7 (K:U0)(T:String)(r:V->List V->Hp->VK->Prop)(to:TE):TE:=λσ H Q=>to σ H λx H1=>Zw K T x H1/\r x [] H1 Q
def yP (K:U0)(T:String)(r:V->List V->Hp->VK->Prop)(to:TE)(t:TA):TE:=λσ H Q=>to σ H λx H1=>Zw K T x H1/\t σ H1 λxs H2=>r x xs H2 Q
variable {o e:Expr}{es:List Expr}{to:TE}{t:TA}{name:Str}{apos cpos:Pos}{T id:String}{r:V->List V->Hp->VK->Prop}
theorem lY(pa:PlainAttrs T)(slot:Slot T name id)(hty:typeOf (.builtin id)=pure (.type "method_descriptor"))(hm:nj X id r)(ho:PE X o to)
  (hbase:autoParam (attributeBase o name X.env (eval o X.env)=eval o X.env) PySem.W.hit_SB._auto_3) (hline:autoParam ((apos.endLine == cpos.line)=true) PySem.W.hit_SB._auto_3):PE X (.Call (.Attribute o name apos) [] [] cpos) (Z7 X.K T r to):=by
 intro pins s σ H Q I h;refine wpAny_Call_method0_late hbase hline (Bd (ho pins s σ H _ I h) λv c ⟨x,H1,b,a,ty,d⟩=>?_);obtain⟨h1,h2⟩:=xU b a ty;exact⟨T,id,pa,slot,hty,h1,h2,Calls.callWith_builtin rfl (PySem.evalArgs_none (hm pins c σ H1 x [] v [] Q b a .nil d))⟩
theorem ZM(pa:PlainAttrs T)(slot:Slot T name id)(hty:typeOf (.builtin id)=pure (.type "method_descriptor"))(hm:nj X id r)(ho:PE X o to)(ha:PA X (e::es) t)
  (hbase:autoParam (attributeBase o name X.env (eval o X.env)=eval o X.env) PySem.W.hit_SB._auto_3)
  (hfew:autoParam (((backTo cpos (starEach (e::es) X.env)).all (λx=>!x.1) && (backToKw cpos (keywordEach [] X.env)).all (λx=>x.1.isSome)
   && decide ((e::es).length+([]:List Keyword).length+(if ([]:List Keyword).isEmpty then 0 else 1)<30))=true) PySem.W.hit_SB._auto_3)
  (hline:autoParam ((apos.endLine == cpos.line)=true) PySem.W.hit_SB._auto_3) (hs:autoParam (starEach (e::es) X.env=(false,eval e X.env)::starEach es X.env) PySem.W.hit_SB._auto_3) (hplain:autoParam ((backTo cpos (starEach es X.env)).any (·.1)=false) PySem.W.hit_SB._auto_3):
  PE X (.Call (.Attribute o name apos) (e::es) [] cpos) (yP X.K T r to t):=by
 intro pins s σ H Q I h;refine wpAny_Call_method_late hbase hfew hline rfl (Bd (ho pins s σ H _ I h) λv g ⟨x,H1,c,a,ty,k⟩=>?_);obtain⟨h1,h2⟩:=xU c a ty;refine⟨T,id,pa,slot,hty,h1,h2,?_⟩;have b:=ha cpos pins g σ H1 _ c k;rw[hs]at b ⊢;refine Calls.callWith_builtin (by show (false || (backTo cpos (starEach es X.env)).any (·.1))=false;rw[hplain]<;>rfl) (Calls.evalArgs_plain ?_);exact Bd b λus j ⟨vs,H2,i,f,d⟩=>hm pins j σ H2 x vs v us Q i a f d
end
def MtM (X:Cx)(id:String)(r:V->List V->Hp->VK->Prop):Prop :=
 ∀(pins:U1) (s:U7) (σ:St) (H:Hp) (x:V) (xs:List V) (v:W4) (us:U5) (Q:VK),Inv X pins σ H s->RelV x v->Vals xs us->r x xs H Q ->
  wpAny (model X.prog X.w) X.A (call (.builtin id) (v::us)) (EP X pins σ Q) X.xe s
theorem Vals.one{x:V}{us:U5}(h:Vals [x] us):∃u,us=[u]/\RelV x u:=by
 cases h with
 | cons r t=>cases t;exact⟨_,rfl,r⟩
theorem Vals.two{x y:V}{us:U5}(h:Vals [x,y] us):∃u v,us=[u,v]/\RelV x u/\RelV y v:=by
 cases h with
 | cons r t=>cases t with
  | cons q t=>cases t;exact⟨_,_,rfl,r,q⟩
theorem Vals.rep{xs:List V}{us:U5}(h:Vals xs us):∀k:Nat,Vals (List.replicate k xs).flatten (List.replicate k us).flatten
 | 0=>.nil
 | k+1=>by
  rw[QV,QV,Rk,Rk];exact Vals.append h (Vals.rep h k)
theorem u0(its:U5):∀(k:Nat) (acc:U5),
  List.foldl (λx1 x2=>x1++x2) acc.toArray (List.replicate k its.toArray)=(acc++(List.replicate k its).flatten).toArray
 | 0,acc=>by simp
 | k+1,acc=>by
  have e:acc.toArray++its.toArray=(acc++its).toArray:=by simp
  have e2:(acc++its)++(List.replicate k its).flatten=acc++(List.replicate (k+1) its).flatten:=by
   rw[QV,Rk,MF]
  rw[<-e2,<-u0 its k (acc++its),<-e,QV,List.foldl_cons]
section
variable {X:Cx}{pins:U1}{σ:St}{H:Hp}{s:U7}{l b:Y1}{xs ys zs:List V}
theorem Inv.lset{its its':U5}{f:Array Value->Array Value}{t':Nat}(I:Inv X pins σ H s)(hH:H l=some (.lst xs))
  (e:s.heap.get? l=some { cls:=.type "list",data:=.seq its.toArray n}) (hf:f its.toArray=its'.toArray) (hv:Vals ys its') (hz:ys.length<=sizeLine):
  Inv X pins σ (upd H l (.lst ys)) {s with heap:=s.heap.update l (Obj.mapSeq f),toks:=t'}:=by
 have q:=PySem.IsL.update e f;rw[hf]at q;refine I.write (x:=l) (e:=l) (by rw[hH];exact trivial) (.inl rfl) (λc u a b=>(QX s.heap (Obj.mapSeq f) (Ne.symm a)).trans b) ⟨_,q⟩ ?_;exact⟨hz,its',_,hv,q⟩
theorem Inv.lnew{its:U5}{t':Nat}(I:Inv X pins σ H s)(hv:Vals ys its)(hz:ys.length<=sizeLine):
  Inv X pins σ (upd H s.heap.objs.size (.lst ys)) {s with heap:=s.heap.push { cls:=.type "list",data:=.seq its.toArray},toks:=t'} :=
 I.laid (λ_ _ q=>Ca _ q) (Bc _) ⟨hz,its,0,hv,Ew _ rfl⟩
theorem Inv.fresh(I:Inv X pins σ H s):H s.heap.objs.size=none:=I.hok.fresh (Bc _)
theorem Inv.lstM(I:Inv X pins σ H s)(hH:H l=some (.lst xs)):xs.length<=sizeLine/\∃(its:U5) (n:Nat),Vals xs its/\xs.length=its.length/\s.heap.get? l=some { cls:=.type "list",data:=.seq its.toArray n}:=by
 obtain⟨z,its,n,r,e⟩:=I.hok l _ hH;exact⟨z,its,n,r,r.length,e⟩
theorem X0j(h:n<=sizeLine):Builtin.List.listTooLong n=false:=by
 unfold Builtin.List.listTooLong;exact Cd (by lia)
end
section
variable {X:Cx}
def X3z:V->List V->Hp->VK->Prop:=λx vs H Q=>∃l xs y,x=.ref l/\vs=[y]/\H l=some (.lst xs)/\xs.length<sizeLine/\Q .non (upd H l (.lst (xs++[y])))
theorem Sy:MtM X "list.append" X3z:=by
 intro pins s σ H x vs v us Q I d c h;obtain⟨l,xs,y,rfl,rfl,a,f,q⟩:=h;cases d;obtain⟨u,rfl,b⟩:=c.one;obtain⟨z,its,n,r,g,e⟩:=I.lstM a;refine call_meets F.slot_list_append ⟨_,e,O⟩ F.entry_list_append (F.args_list_append_2 _ _) (PySem.list_append l its.toArray n u (by rw[Du];lia)) ⟨e,?_⟩;refine⟨.non,_,I.lset (its':=its++[u]) a e (by simp) (r.append (.cons b .nil)) ?_,O,q⟩;rw[Gh,p8];lia
def W1b:V->List V->Hp->VK->Prop:=λx vs H Q=>∃l b xs zs,x=.ref l/\vs=[.ref b]/\H l=some (.lst xs)/\H b=some (.lst zs)/\xs.length+zs.length<=sizeLine/\Q .non (upd H l (.lst (xs++zs)))
def aP:R2:=λx y H Q=>∃l b xs zs,x=.ref l/\y=.ref b/\H l=some (.lst xs)/\H b=some (.lst zs)/\xs.length+zs.length<=sizeLine/\∀p,H p=none->Q (.ref p) (upd H p (.lst (xs++zs)))
theorem X8g:Ed X (binaryOp .Add) aP:=by
 intro pins s σ H x y v u Q I g f h;obtain⟨l,b,xs,zs,rfl,rfl,i,k,o,q⟩:=h;cases g;cases f;obtain⟨z,its,n,r,p,e⟩:=I.lstM i;obtain⟨t,a,m,c,j,e2⟩:=I.lstM k;refine PySem.P.add_list e e2 ?_ (by rw[Du,Du];lia);have d:its.toArray++a.toArray=(its++a).toArray:=by simp
 rw[d];exact⟨.ref _,_,I.lnew (t':=s.toks) (r.append c) (by rw[Gh];omega),O,q _ I.fresh⟩
def aM:R2:=λx y H Q=>∃l k xs,x=.ref l/\y=.int k/\H l=some (.lst xs)/\-(2^63)<=k/\k<2^63/\xs.length*k.toNat<=sizeLine /\
 ∀p,H p=none->Q (.ref p) (upd H p (.lst (List.replicate k.toNat xs).flatten))
theorem X5p(xs:List α)(k:Nat):(List.replicate k xs).flatten.length=k*xs.length:=by
 induction k with
 | zero=>simp
 | succ k ih=>rw[QV,Rk,Gh,ih,Nat.succ_mul,Py]
theorem X8e:Ed X (binaryOp .Mult) aM:=by
 intro pins s σ H x y v u Q I p j h;obtain⟨l,k,xs,rfl,rfl,w,h1,h2,i,q⟩:=h;cases p;obtain⟨t,rfl⟩:=j;obtain⟨z,its,n,r,A,e⟩:=I.lstM w;have g:its.toArray.size*k.toNat<=sizeLine:=by rw[Du,<-A];exact i
 have d:¬ its.toArray.size*k.toNat>(2^63-1) / 8:=by
  have:(sizeLine:Nat)<=(2^63-1) / 8:=by decide
  lia
 have f:¬ (!Builtin.List.listFitsIndex k)=true:=by
  rw[fitsIndex_both h1 h2];exact DK
 have b:¬ Builtin.List.listTooLong (its.toArray.size*k.toNat)=true:=by
  rw[X0j g];exact DK
 have c:List.foldl (λx1 x2=>x1++x2) #[] (List.replicate (if its.toArray.isEmpty=true then 0 else k.toNat) its.toArray)=(List.replicate k.toNat its).flatten.toArray:=by
  have o:∀m:Nat,List.foldl (λx1 x2=>x1++x2) #[] (List.replicate m its.toArray)=(List.replicate m its).flatten.toArray:=λm=>by
   have:=u0 its m [];rw[List.nil_append]at this;exact this
  rw[o];cases its with
  | nil=>simp
  | cons a r'=>rw[if_neg (by simp)]
 refine wpAny_binaryOp_repeat_ref (T:="list") (U:="int") (by decide) ⟨_,e,O⟩ (λs'=>Yh s' k t) noFill_list_mul F.fills_int_mul F.slot_int_rmul repeat_list F.slot_int_index.lookup
  (call_meets F.slot_int_rmul (Yh s k t) F.entry_int_rmul (F.args_int_rmul_2 _ _) (int___rmul___int_list k t l its.toArray n)
   ⟨e,O,⟨_,e,O⟩,call_meets F.slot_list_mul ⟨_,e,O⟩ F.entry_list_mul (F.args_list_mul_2 _ _) (AutoListH.list___mul___list_int_3 l its.toArray n k t f d b) ⟨e,?_⟩⟩)
 rw[c];exact⟨.ref _,_,I.lnew (t':=s.toks) (r.rep k.toNat) (by rw[X5p,Nat.mul_comm];exact i),O,q _ I.fresh⟩
end
section
variable {prog:U8}{w:W3}{A:W8}{E:U2}{s:U7}
end
section
variable {X:Cx}
end
end L2
namespace n_
open PySem.W PySem.Calls
variable{P:Params}
theorem _W{h:Heap}:∀(ns:U6) (vs:U5),WellAll P h vs (ns.map WData.int)->IntsAre vs ns:=by
 intro ns;induction ns with
 | nil =>
  intro vs w;rw[Ym]at w;cases w;exact .nil
 | cons n ns ih =>
  intro vs w;rw[GP]at w;cases w with
  | cons a b =>
   cases a;exact .cons _ _ (ih _ b)
theorem Y5r{l:OpenLaw}{n:Nat}(hn:l.most=some n){h:Heap}{args:List WData}{vals:U5}
  (hpre:l.row.toRowW.claim.pre args=true) (hwl:WellAll P h vals args):
  ∃a vs ns,vals=[Value.ref a]/\args=[WData.list (ns.map WData.int)]/\h.get? a=some { cls:=.type "list",data:=.seq vs.toArray}/\IntsAre vs ns/\ns.length<=n:=by
 have f:WShape.hasAll [] args [.list .int]=true:=(pre_splitW hpre).1;have g:l.pre.holds [] { args:=args}=true:=(pre_splitW hpre).2;obtain⟨d,r,rfl,h1,h2⟩:=hasAllW_cons f;obtain rfl:=hasAllW_nil h2;obtain⟨xs,rfl,i⟩:=hasW_list h1;obtain⟨ns,rfl⟩:=items_int i;have b:ns.length<=n:=by
  unfold OpenLaw.pre at g;have c:(WTm.not (.lt (.lit (.int (n:Int))) (.len (.arg 0)))).holds [] { args:=[.list (ns.map .int)]}=true:=by
   have c:=(holds_andW g).1;rw[hn]at c;exact c
  have e:=condW_of c (w_not (w_lt w_lit (w_len_list (w_arg rfl))));rw[Bj]at e;refine Nat.le_of_not_lt λq=>?_;have j:(n:Int)<((ns.length:Nat):Int):=by omega
  first
   | (rw[Cj j]at e;exact absurd e (by decide))
   | (simp at e;lia)
 cases hwl with
 | cons w1 w2 =>
  cases w2;cases w1 with
  | list ho hall=>exact⟨_,_,ns,rfl,rfl,ho,_W ns _ hall,b⟩
theorem Y5v(l:OpenLaw)(args:List WData):l.row.toRowW.claim.post args (.bool true) args=true :=
 postW_of (r:=l.row.toRowW) (X:=(true == true))
  (show WShape.has [] (.bool true) .bool=true by first | rfl | decide | simp[WShape.has,WShape.arms,WShape.armsAll])
  (show (WTm.eq .res (.lit (.bool true))).value [] { args:=args,res:=some (.bool true),after:=args}=some (.bool (true == true)) from w_eq_bool (w_res rfl) w_lit) rfl
section
variable {prog:U8}{w:W3}{A:W8}{E:U2}{s:U7}{K:Frag}
end
end n_
namespace L2
theorem qQ:∀{vs:U5}{ns:U6},IntsAre vs ns->Vals (ns.map V.int) vs
 | _,_,.nil=>.nil
 | _,_,.cons n t h=>.cons ⟨t,rfl⟩ (qQ h)
def Only (H:Hp):Prop:=∀b,H b=none\/∃o xs,H b=some (.frz o (.lst xs))
theorem X0t{P:U8}{w:W3}{K:U0}{mg mb:U4}{CX:Lp}{k:Nat}{fa a:Y1}{fd:FuncData}{x:Str}{sp:Sp}{s₁:U7}{vs:U5}{ns:U6}
  (KX:K.In s₁.heap) (hns:s₁.heap.Ns mainGlobals mg) (f:s₁.heap.Ns builtinsNs mb) (hbb:∀x:Str,x≠"__name__"->mb x=bootBuiltins x) (hlim:s₁.heap.NoLimit) (hg:s₁.gens=#[])
  (ha:s₁.heap.get? a=some { cls:=.type "list",data:=.seq vs.toArray}) (hi:IntsAre vs ns) (hl:ns.length<=sizeLine) (hr:CG k callerA)
  (F:∀base:Heap,K.In base->base.Ns mainGlobals mg->Em P w K mg base CX k fa fd [x] sp) (hbind:∀(s:U7) (u:W4),BindsTo s fd ⟨[u],[]⟩ [(x,u)])
  (hsp:∀H:Hp,Only H->Ax K H a (ns.map V.int)->sp [.ref a] H (λv _=>v=.bl true) λ_ _ _=>False)
  (hCX:∀H e s',CX [] H s₁ (λ_ _ _=>False) e s'->False):
  codeAny (model P w) callerA (.call (.ref fa) ⟨[.ref a],[]⟩) (λr s'=>r=.ok (.ret (.bool true))/\OldK s₁.heap s'.heap/\s'.os=s₁.os/\AllBare s'.gens) s₁:=by
 have D:=qQ hi;have t:=hi.length;have i:∀H:Hp,Only H->Ax K H a (ns.map V.int)->EY P w H s₁.heap->(∀b,H b≠none->b=a)->(H a≠none->K.lookup a=none) ->
   codeAny (model P w) callerA (.call (.ref fa) ⟨[.ref a],[]⟩) (λr s'=>r=.ok (.ret (.bool true))/\OldK s₁.heap s'.heap/\s'.os=s₁.os/\AllBare s'.gens) s₁:=by
  intro H E M j G L;have c:∀{b:Y1}{o:Obj},s₁.heap.get? b=some o->H b=none->(G8 s₁.heap H).get? b=some o:=λe n=>X0x e n;have B:∀{b:Y1}{o:Obj}{es:Array DictEntry}{ep:Nat},s₁.heap.get? b=some o->o.data=.dict es ep->H b=none:=λ{b o es ep} e d=>by
   cases q:H b with
   | none=>rfl
   | some u =>
    have C:b=a:=G b (by rw[q];simp);subst C;rw[ha]at e;cases e;have d':Data.seq vs.toArray _=Data.dict es ep:=d;cases d'
  have g:∀{b:Y1}{m:U4},s₁.heap.Ns b m->(G8 s₁.heap H).Ns b m:=λ{b m} ⟨o,es,ep,e,d,r⟩=>⟨o,es,ep,c e (B e d),d,r⟩
  have p:K.In (G8 s₁.heap H):=λb o e=>c (KX b o e) (by
   cases q:H b with
   | none=>rfl
   | some u =>
    have C:b=a:=G b (by rw[q];simp)
    subst C
    rw[L (by rw[q];simp)]at e;cases e)
  have N:Mod K mg (G8 s₁.heap H):=⟨p,g hns,⟨mb,g f,hbb⟩,let ⟨mc,h1,h2⟩:=hlim;⟨mc,g h1,h2⟩⟩;have Q:Ga P w K mg (G8 s₁.heap H) callerA [] s₁ H:=⟨O,N,λb o e=>X5g e,Nat.le_of_eq (Y7l _ _),trivial,λb f=>absurd (show b∈([]:U3) from f) (by simp),j,.of_eq hg⟩;refine Mz ((F _ p (g hns)).run callerA [] s₁ H ⟨[.ref a],[]⟩ [.ref a] [.ref a] _ _ hr Q (hbind s₁ (.ref a)) (.cons rfl .nil) (hsp H E M)) λr s' h=>?_;cases r with
  | error e=>exact(hCX H e s' h).elim
  | ok fl =>
   cases fl with
   | next=>exact False.elim h
   | brk=>exact False.elim h
   | cont=>exact False.elim h
   | ret u =>
    obtain⟨v,H',os,l,un,A,J,q⟩:=h;have I:v=.bl true:=q;subst I;obtain rfl:u=Value.bool true:=J;refine⟨O,OldK.of_keep λb o e=>?_,os,l⟩;cases q:H b with
    | none=>exact un.keep b o e q (by intro z;exact absurd (show b∈([]:U3) from z) (by simp)) (by simp)
    | some u =>
     rcases E b with z | ⟨ob,xs,z⟩
     ·rw[q]at z;cases z
     ·have R:=un.frzs b ob _ z;obtain⟨e1,_⟩:=j b _ z;obtain⟨e2,_⟩:=A b _ R;rw[e]at e1;cases e1;exact e2
 cases hk:K.lookup a with
 | some o =>
  have e:=KX a o hk;rw[ha]at e;cases e;refine i (λ_=>none) (λ_=>.inl rfl) (.inr ⟨_,vs.toArray,_,hk,O,O,O,by rw[Du,t];exact hl,by simpa using D⟩) (λb u z=>by have y:(none:Option HO)=some u:=z;cases y) (λb z=>absurd rfl z) λz=>absurd rfl z
 | none =>
  refine i (λb=>if b=a then some (.frz { cls:=.type "list",data:=.seq vs.toArray} (.lst (ns.map V.int))) else none) (λb=>?_) (.inl (.inr ⟨{ cls:=.type "list",data:=.seq vs.toArray},if_pos rfl⟩)) (λb u z=>?_) (λb z=>?_) λ_=>hk
  ·by_cases f:b=a
   ·exact .inr ⟨_,_,if_pos f⟩
   ·exact .inl (if_neg f)
  ·by_cases f:b=a
   ·have y:=(if_pos f).symm.trans z;cases y;subst f;exact⟨ha,by rw[Bj];exact hl,vs,_,D,ha⟩
   ·have y:=(if_neg f).symm.trans z;cases y
  ·by_cases f:b=a
   ·exact f
   ·exact absurd (if_neg f) z
end L2
namespace L2
noncomputable def Ju (s:Stmt)(j:Nat):Stmt:=match s with
 | .ClassDef _ _ _ body _ _ _ _ _ _ _=>body.getD j (.Pass ⟨0,0,0,0⟩)
 | _=>.Pass ⟨0,0,0,0⟩
noncomputable def Dv (s:Stmt):Arguments:=match s with
 | .FunctionDef _ a _ _ _ _ _ _ _ _=>a
 | _=>{ posonlyargs:=[],args:=[],vararg:=none,kwonlyargs:=[],kw_defaults:=[],kwarg:=none,defaults:=[]}
noncomputable def DW (s:Stmt):List Stmt:=match s with
 | .FunctionDef _ _ b _ _ _ _ _ _ _=>b
 | _=>[]
noncomputable def CV (s:Stmt):Scope:=match s with
 | .FunctionDef _ _ _ _ _ _ sc _ _ _=>sc
 | _=>{ kind:=.function,names:=[],isGenerator:=false,isCoroutine:=false}
noncomputable abbrev JF:Lp:=λ_ _ _ _ _ _=>False
abbrev E0:XK:=λ_ _ _=>False
theorem Vd{X:Cx}:Passes JF X E0:=λ_ _ _ _ _ _ _ h=>h.elim
structure Zu (K:U0) (x qual:Str) (st:Stmt) (f:Y1) (fd:FuncData):Prop where
 ex:∃(oc:W4) (od:W7) (kV doc pm:W4) (an:W7) (cdv ct:W4) (osl:W6),
  fd=PySem.W.fnOf x qual (Dv st) (DW st) (CV st) .none kV doc pm an cdv ct/\K.lookup f=some ⟨oc,od,.func fd,osl⟩/\PySem.W.codeIn K cdv qual=true
 kp:PySem.W.keepIn K (.ref f)=true
section
variable {P:U8}{w:W3}{K:U0}{mg:U4}{base:Heap}
variable{qual:Str}{f:Y1}
theorem Zu.ok{x:Str}{st:Stmt}{fd:FuncData}{N ps:W0}{k:Nat}{sp:Sp}(F:Zu K x qual st f fd)(S:Bf N ps (CV st))(len:∀vs H Q E,sp vs H Q E->vs.length=ps.length)
  (hbody:∀(a:W4) (A:W8) (outer:List Env) (s:U7) (H:Hp) (vs:List V) (Q:VK) (E:XK),CG k (A.deeper (envOfC qual (CV st) s.heap.objs.size f a))->sp vs H Q E ->
   ∃t,GF (FP JF P w K mg base N qual (CV st) f a A outer s H E).nox (DW st) t/\t { nx:=λ_ H'=>Q .non H',rt:=Q} (start N vs) H):Em P w K mg base JF (k+1) f fd ps sp:=by
 obtain⟨l,od,kV,i,m,j,a,ct,g,rfl,e,c⟩:=F.ex;refine Zg e c S len λA outer s H vs Q E d b=>?_;obtain⟨t,h,q⟩:=hbody a A outer s H vs Q E d b;exact⟨t,h.nox,q⟩
theorem X9v{x:Str}{st:Stmt}{oc:W4}{od an:W7}{osl:W6}{kV doc pm cdv ct:W4}(l:K.lookup f=some ⟨oc,od,.func (PySem.W.fnOf x qual (Dv st) (DW st) (CV st) .none kV doc pm an cdv ct),osl⟩)
  (c:PySem.W.codeIn K cdv qual=true) (k:PySem.W.keepIn K (.ref f)=true):Zu K x qual st f (PySem.W.fnOf x qual (Dv st) (DW st) (CV st) .none kV doc pm an cdv ct):=⟨⟨oc,od,kV,doc,pm,an,cdv,ct,osl,O,l,c⟩,k⟩
end
theorem Zj{A:W8}{k:Nat}(hr:CG k A):A.units+1<cLine:=VL (Nat.add_le_add_left (by decide:1<=64) _) hr.units
section
variable {X:Cx}
theorem pv(i:Nat){x:Str}{pos:Pos}(hN:autoParam (X.N[i]?=some x) PySem.W.hit_SB._auto_3)(hv:XS X.env.scope x:=by first | exact .inl rfl | exact .inr (.inl rfl) | exact .inr (.inr rfl))(hd:autoParam ((x == ("__debug__":Str))=false) PySem.ldc._auto_1)
  (hcd:autoParam ((x == ("__classdict__":Str))=false) PySem.ldc._auto_1):PE X (.Name x pos) (Hg i):=X7z hN hv hd hcd
end
theorem CP{A B:Prop}(h:B):if false=true then A else B:=by
 rw[if_neg DK];exact h
theorem Df{A B:Prop}(h:A):if true=true then A else B:=by
 rw[if_pos rfl];exact h
def Same (H H':Hp):Prop:=∀b o,H b=some o->H' b=some o
theorem Same.refl(H:Hp):Same H H:=λ_ _ h=>h
variable{H:Hp}
theorem Same.trans{H1 H2:Hp}(a:Same H H1)(b:Same H1 H2):Same H H2:=λc o h=>b c o (a c o h)
theorem Same.free{H':Hp}(e:Same H H'){l:Y1}(h:H' l=Option.none):H l=Option.none:=by
 cases q:H l with
 | none=>rfl
 | some o =>
  rw[e l o q]at h;cases h
theorem Same.seq{K:U0}{H':Hp}{a:Y1}{xs:List V}(e:Same H H')(h:Ax K H a xs):Ax K H' a xs:=by
 rcases h with (h | ⟨o,h⟩) | h
 ·exact .inl (.inl (e _ _ h))
 ·exact .inl (.inr ⟨o,e _ _ h⟩)
 ·exact .inr h
end L2
set_option maxHeartbeats 4000000
namespace L2
def Sz (k:Nat)(x:Int):Prop:=x.natAbs<2^k
instance (k:Nat) (x:Int):Decidable (Sz k x):=by unfold Sz;infer_instance
variable{j k:Nat}{x:Int}
theorem Sz.mono(h:Sz j x)(hjk:j<=k):Sz k x:=GR h (Rt (by decide) hjk)
variable{y:Int}
theorem Sz.le(h:Sz k x)(hy:y.natAbs<=x.natAbs):Sz k y:=VL hy h
theorem Sz.mul(h:Sz j x)(h':Sz k y):Sz (j+k) (x*y):=by
 unfold Sz at *;rw[RV,Nat.pow_add];exact Nat.mul_lt_mul'' h h'
theorem Sz.neg(h:Sz k x):Sz k (-x):=by unfold Sz at *;rwa [Int.natAbs_neg]
theorem Sz.add(h:Sz j x)(h':Sz k y):Sz (max j k+1) (x+y):=by
 have h1:=h.mono (Nat.le_max_left j k);have h2:=h'.mono (Nat.le_max_right j k);unfold Sz at *;rw[jP];have:=Int.natAbs_add_le x y;lia
theorem Sz.sub(h:Sz j x)(h':Sz k y):Sz (max j k+1) (x-y):=by
 have:=h.add h'.neg;rwa [<-Int.sub_eq_add_neg]at this
theorem Sz.bits(h:Sz k x):Builtin.Int.intBits x<=k:=by
 unfold Builtin.Int.intBits;split
 ·exact Ef _
 ·rename_i hx;have b:x≠0:=by simpa using hx
  have a:x.natAbs≠0:=by lia
  exact(Nat.log2_lt a).mpr h
theorem Sz.log2(h:Sz k x)(hk:0<k):x.natAbs.log2<k:=by
 by_cases hn:x.natAbs=0
 ·rw[hn];simpa using hk
 ·exact(Nat.log2_lt hn).mpr h
def Jh (_i j:Int):Prop:=j≠0/\Sz 9000 j
section
variable {X:Cx}
theorem Y6:Ed X (binaryOp .FloorDiv) (rI Jh λi j=>.int (i.fdiv j)):=Qa λ_ _ _ _ _ _ _ a q=>floordiv_int a.1 q (.inl (PyProof.noPylong_of_log2 (a.2.log2 (by decide))))
theorem qW{h:Heap}{a:Y1}{vs:U5}{ns:U6}(hl:IsTup h a vs.toArray)(hi:IntsAre vs ns):Reads h (.ref a) (.tuple (ns.map PyData.int)) []:=by
 obtain⟨o,b,c,n,hd⟩:=hl;exact Reads.tuple b c hd (by simpa using pH hi)
theorem qm(ns:U6):SeqAt.shaped (.tuple (ns.map PyData.int))=true:=by
 have h1:=oN ns;have h2:PyData.depth (.tuple (ns.map PyData.int))<=64:=by simp only[PyData.depth];lia
 show (PyData.canLay0 (.tuple (ns.map PyData.int)) && decide (PyData.depth (.tuple (ns.map PyData.int))<=64))=true;rw[GQ];exact⟨by simp only[PyData.canLay0];exact pD ns,Cj h2⟩
def Ob (K:U0)(neg:Bool):R2:=λx y H Q=>∃(a b:Y1) (ns ms:U6),x=.ref a/\y=.ref b/\Ao K H a (ns.map V.int)/\Ao K H b (ms.map V.int)/\Q (.bl (if neg then !decide (ns=ms) else decide (ns=ms))) H
theorem X4o(hu:X.A.units+64<cLine):Ed X (compareOp .NotEq) (Ob X.K true):=by
 intro pins s σ H x y v u Q I g f h;obtain⟨a,b,ns,ms,rfl,rfl,h1,h2,q⟩:=h;cases g;cases f;obtain⟨its,d,p,_⟩:=I.tuple h1;obtain⟨its',c,e,_⟩:=I.tuple h2;refine ne_dataH_same (qW p (ZL d)) (qW e (ZL c)) (qm ns) (qm ms) hu (by simp only[SeqAt.noMix];exact PySem.W.noMix_ints ns ms) ?_;refine⟨.bl (!decide (ns=ms)),H,I,?_,q⟩;show _=_;simp only[PySem.Spec.same];rw[PySem.W.same_ints]
theorem Ny:CJ X (.builtin "isinstance") (λxs H Q=>∃x T t b,xs=[x,.ty T]/\Cq X.K H x t/\PySem.W.kitOne X.K t (.type T)=some b/\Q (.bl b) H):=by
 intro pins s σ H xs us Q I r h;obtain⟨x,T,t,b,rfl,ty,e,q⟩:=h;obtain⟨u,v,rfl,a,c⟩:=r.two;cases c;exact Y7k I a ty e λtk=>⟨.bl b,H,I.tok tk,O,q⟩
end
section
variable {prog:U8}{w:W3}{A:W8}{E:U2}
end
section
variable {X:Cx}{pos:Pos}
end
section
variable {X:Cx}{tg:Expr}
end
end L2
namespace L2
theorem qR{α β:Type}{f:α->β->Sem (ForInStep β)}{g:β->α->β}:∀(l:List α) (b:β),(∀x∈l,∀b,f x b=pure (.yield (g b x)))->forIn l b f=pure (l.foldl g b)
 | [],b,_=>rfl
 | x::r,b,h=>by
  rw[List.forIn_cons,h x Ro b,pure_bind];exact qR r (g b x) λy a=>h y (Rq _ a)
noncomputable def I_ (cells:List (Str×Addr))(cs:List (Str×Addr))(x:Str×NameKind):List (Str×Addr):=if x.2 == .free then (x.1,(cells.lookup x.1).getD 0)::cs else cs
noncomputable def clo (names:List (Str×NameKind))(cells:List (Str×Addr)):List (Str×Addr):=names.foldl (I_ cells) []
variable{env:Env}
theorem lK{scope:Scope}(h:∀x∈scope.names,x.2=.free->∃c,env.cells.lookup x.1=some c):closureFor scope env=pure (clo scope.names env.cells):=by
 simp only[closureFor];unfold clo
 rw[qR (g:=I_ env.cells) scope.names [] (λx e b=>by
  obtain⟨n,k⟩:=x
  unfold I_
  by_cases hk:k=.free
  ·subst hk
   obtain⟨c,f⟩:=h (n,.free) e rfl
   have a:env.cells.lookup n=some c:=f
   simp[cellOf,a]
  ·have d:(k == NameKind.free)=false:=by simpa using hk
   simp[d])]
 rfl
variable{x:Str}{c:Y1}
theorem qz{n:Str}{l:List (Str×Addr)}:List.lookup x ((n,c)::l)=if x=n then some c else List.lookup x l:=by
 by_cases h:x=n
 ·subst h;rw[if_pos rfl,List.lookup_cons_self]
 ·rw[if_neg h,VG];have:(x == n)=false:=by simpa using h
  rw[this]
theorem rE{cells:List (Str×Addr)}:∀(names:List (Str×NameKind)) (cs:List (Str×Addr)),(∀x∈names,x.2=.free->∃c,cells.lookup x.1=some c)->(∀x c,cs.lookup x=some c->cells.lookup x=some c) ->
  ∀x c,(names.foldl (I_ cells) cs).lookup x=some c->cells.lookup x=some c
 | [],cs,_,h0=>h0
 | (n,k)::r,cs,h,h0=>by
  refine rE r _ (λy d=>h y (Rq _ d)) λx c e=>?_;unfold I_ at e;by_cases hk:k=.free
  ·subst hk;obtain⟨c',a⟩:=h (n,.free) Ro rfl;simp only[Ri,J0]at e;rw[qz]at e;have a:cells.lookup n=some c':=a;by_cases hx:x=n
   ·subst hx;rw[if_pos rfl,a]at e;rw[a];exact e
   ·rw[if_neg hx]at e;exact h0 x c e
  ·have b:(k == NameKind.free)=false:=by simpa using hk
   simp only[b,M8,Ir]at e;exact h0 x c e
theorem ju{cells:List (Str×Addr)}:∀(names:List (Str×NameKind)) (cs:List (Str×Addr)) (x:Str),((x,NameKind.free)∈names\/∃c,cs.lookup x=some c)->∃c,(names.foldl (I_ cells) cs).lookup x=some c
 | [],cs,x,h=>by
  rcases h with h | h
  ·cases h
  ·exact h
 | (n,k)::r,cs,x,h=>by
  refine ju r _ x ?_;unfold I_;by_cases hk:k=.free
  ·subst hk;simp only[Ri,J0];rw[qz];by_cases hx:x=n
   ·exact .inr ⟨_,if_pos hx⟩
   ·rw[if_neg hx];rcases h with h | h
    ·rcases DY.mp h with h | h
     ·exact absurd (congrArg Prod.fst h) hx
     ·exact .inl h
    ·exact .inr h
  ·have a:(k == NameKind.free)=false:=by simpa using hk
   simp only[a,M8,Ir];rcases h with h | h
   ·rcases DY.mp h with h | h
    ·exact absurd (congrArg Prod.snd h).symm hk
    ·exact .inl h
   ·exact .inr h
structure Bw (N:W0) (osc sc:Scope) (Nc:W0) (mp:W9):Prop where
 kind:sc.kind=.function
 nocell:∀y∈sc.names,y.2≠.cell
 names:∀y∈sc.names,y.2=.local->sc.names.lookup y.1=some .local
 free:∀y∈sc.names,y.2=.free->osc.names.lookup y.1=some .cell\/osc.names.lookup y.1=some .free
 len:mp.length=Nc.length
 map:∀(i j:Nat),mp[i]?=some (some j)->∃x,Nc[i]?=some x/\N[j]?=some x/\sc.names.lookup x=some .free
noncomputable def Ow (N:W0)(osc sc:Scope)(Nc:W0)(mp:W9):Bool :=
 decide (sc.kind=.function) && sc.names.all (λy=>!decide (y.2=.cell) && (!decide (y.2=.local) || decide (sc.names.lookup y.1=some .local)) &&
  (!decide (y.2=.free) || decide (osc.names.lookup y.1=some .cell) || decide (osc.names.lookup y.1=some .free))) &&
 decide (mp.length=Nc.length) && (List.range mp.length).all λi=>match mp[i]? with
  | some (some j)=>match Nc[i]? with
   | some x=>decide (N[j]?=some x) && decide (sc.names.lookup x=some .free)
   | none=>false
  | _=>true
variable{sc:Scope}{mp:W9}
theorem Bw.of{N:W0}{osc:Scope}{Nc:W0}(h:Ow N osc sc Nc mp=true):Bw N osc sc Nc mp:=by
 unfold Ow at h;simp only[GQ,KC,QM,QH,Bool.not_eq_true',decide_eq_false_iff_not]at h;obtain⟨⟨⟨h1,h2⟩,b⟩,c⟩:=h;refine⟨h1,λy a=>(h2 y a).1.1,λy a e=>?_,λy a e=>?_,b,λi j e=>?_⟩
 ·rcases (h2 y a).1.2 with q | q
  ·exact absurd e q
  ·exact q
 ·rcases (h2 y a).2 with (q | q) | q
  ·exact absurd e q
  ·exact .inl q
  ·exact .inr q
 ·have hi:i<mp.length:=(G4.mp e).1;have q:=c i (Gg.mpr hi);rw[e]at q;cases hx:Nc[i]? with
  | none=>rw[hx]at q;simp at q
  | some x =>
   rw[hx]at q;simp only[GQ,KC]at q;exact⟨x,O,q.1,q.2⟩
theorem q9{f:Str×NameKind->Str×NameKind}(h1:∀p,(f p).1=p.1)(h2:∀p,p.2=.free->(f p).2=.cell\/(f p).2=.free):∀{names:List (Str×NameKind)}{x:Str},names.lookup x=some .free->(names.map f).lookup x=some .cell\/(names.map f).lookup x=some .free
 | [],_,h=>by simp at h
 | (n,k)::r,x,h=>by
  have l:=@q9 f h1 h2 r x;rw[GP];have d:=h1 (n,k);have c:=h2 (n,k);generalize f (n,k)=z at d c;obtain⟨g,i⟩:=z;have a:g=n:=d;subst a;cases hx:x == g with
  | true =>
   rw[VG,hx]at h;have j:k=.free:=by simpa using h
   rw[VG,hx];rcases c j with e | e
   ·have b:i=.cell:=e;subst b;exact .inl rfl
   ·have b:i=.free:=e;subst b;exact .inr rfl
  | false =>
   rw[VG,hx]at h;rw[VG,hx];exact l h
variable{names:List (Str×NameKind)}
theorem _j(h:names.lookup x=some .free):
  (names.map λ(n,k)=>if (k == NameKind.free && env.scope.kind == .function && env.kindOf n == some .cell) then (n,NameKind.cell) else (n,k)).lookup x=some .cell \/
  (names.map λ(n,k)=>if (k == NameKind.free && env.scope.kind == .function && env.kindOf n == some .cell) then (n,NameKind.cell) else (n,k)).lookup x=some .free:=by
 refine q9 (λp=>?_) (λp hp=>?_) h
 ·obtain⟨n,k⟩:=p;dsimp only;split<;>rfl
 ·obtain⟨n,k⟩:=p;dsimp only;split
  ·exact .inl rfl
  ·exact .inr hp
theorem qj{k':NameKind}(hc:∀y∈names,y.2≠.cell)(hk:k'=.cell\/k'=.free)
  (h:(names.map λ(n,k)=>if (k == NameKind.free && env.scope.kind == .function && env.kindOf n == some .cell) then (n,NameKind.cell) else (n,k)).lookup x=some k'):(x,NameKind.free)∈names:=by
 have m:=QW h;obtain⟨⟨n,k⟩,a,e⟩:=Jl.mp m;dsimp only at e;by_cases hf:k=.free
 ·subst hf;have e1:n=x:=by
   by_cases hc':(NameKind.free == NameKind.free && env.scope.kind == .function && env.kindOf n == some .cell)=true
   ·rw[if_pos hc']at e;exact congrArg Prod.fst e
   ·rw[if_neg hc']at e;exact congrArg Prod.fst e
  exact e1 ▸ a
 ·have b:(k == NameKind.free)=false:=by simpa using hf
  simp only[b,Bool.false_and,M8,Ir]at e;cases e;rcases hk with z | z
  ·exact absurd z (hc _ a)
  ·exact absurd z hf
noncomputable def Bl (X:Cx)(scope:Scope)(Nc:W0)(ex:U3)(pins:U1)(s:U7)(H:Hp):Cx where
 prog:=X.prog
 w:=X.w
 K:=X.K
 mg:=X.mg
 base:=X.base
 A:=X.A
 N:=Nc
 s₀:=s
 H₀:=H
 env:=compEnvC scope (clo scope.names X.env.cells) s.heap.objs.size X.env
 outer:=X.stack
 stack:=X.stack
 ex:=ex
 fn:=λ_=>false
 calm:=X.calm
 pn:=X.pn++pins
 xe:=λ_ _=>False
noncomputable def sub (mp:W9)(σ:St):St:=mp.map λo=>match o with | some j=>(σ[j]?).join | none=>none
theorem X3q{σ:St}{i:Nat}{v:V}(h:(sub mp σ)[i]?=some (some v)):∃j,mp[i]?=some (some j)/\σ[j]?=some (some v):=by
 unfold sub at h;rw[FN]at h;cases e:mp[i]? with
 | none=>rw[e]at h;cases h
 | some o =>
  rw[e]at h;cases o with
  | none=>cases h
  | some j =>
   refine⟨j,O,?_⟩;have h':(σ[j]?).join=some v:=Option.some.inj h;cases q:σ[j]? with
   | none=>rw[q]at h';cases h'
   | some z=>rw[q]at h';exact congrArg some h'
section
variable {X:Cx}{pins:U1}{σ:St}{H:Hp}{s:U7}{scope:Scope}{Nc:W0}{mp:W9}{fp:U3}
theorem Y5(I:Inv X pins σ H s)(S:Bw X.N X.env.scope scope Nc mp):∀x∈scope.names,x.2=.free->∃c,X.env.cells.lookup x.1=some c:=λx a e =>
 I.ok.has x.1 (S.free x a e)
theorem O9(I:Inv X pins σ H s)(S:Bw X.N X.env.scope scope Nc mp)(h:(clo scope.names X.env.cells).lookup x=some c):X.env.cells.lookup x=some c :=
 rE scope.names [] (Y5 I S) (λ_ _ e=>by cases e) x c h
theorem W1i(I:Inv X pins σ H s)(S:Bw X.N X.env.scope scope Nc mp)(hf:∀b∈fp,Dq X pins H b)(hl:∀b∈fp,b<s.heap.objs.size):(Bl X scope Nc fp pins s H).Ok where
 mod:=I.ok.mod
 kind:=S.kind
 glob:=I.ok.glob
 blt:=I.ok.blt
 above:=Bc _
 inj:=λx y c e1 e2=>I.ok.inj x y c (O9 I S e1) (O9 I S e2)
 has:=λx h=>by
  have d:(x,NameKind.free)∈scope.names:=by
   rcases h with h | h
   ·exact qj S.nocell (.inl rfl) h
   ·exact qj S.nocell (.inr rfl) h
  exact ju scope.names [] x (.inl d)
 cab:=λx c h _=>by cases h
 hd:=I.ok.hd
 frames:=I.ok.frames
 stk:=.inl rfl
 exf:=λb a=>⟨Cy (hl b a),λx c e=>(hf b a).2.2.2.2.1 x c (O9 I S e)⟩
 bs:=I.bs
 bsz:=Fq I.ok.bsz I.sz
 noex:=λb o e a=>by
  rcases (hf b a).2.2.2.1 with z | z
  ·exact I.ok.noex b o e z
  ·exact absurd (GR (Bk e) (Fq I.ok.bsz z)) (J4 _)
 exfs:=λb a z=>by
  rcases DY.mp (I.stkSub b z) with e | e
  ·exact(hf b a).2.1 e
  ·exact(hf b a).2.2.1 e
 funs:=I.stack
 frf:=I.stkFree
theorem uK(I:Inv X pins σ H s)(S:Bw X.N X.env.scope scope Nc mp)(hf:∀b∈fp,Dq X pins H b)(hl:∀b∈fp,b<s.heap.objs.size){h₁:Heap}{m:U4}{tk:Nat}
  (hn:h₁.Ns s.heap.objs.size m) (k:∀b o,s.heap.get? b=some o->h₁.get? b=some o):Inv (Bl X scope Nc fp pins s H) [] (sub mp σ) H {s with heap:=h₁,toks:=tk}:=by
 refine⟨W1i I S hf hl,O,I.bare,Un.kept k,⟨m,hn,λi x v e1 e2 _=>?_⟩,λx c e=>?_,I.hok.fresh (Bc _),λx c e=>I.freeC x c (O9 I S e),λp hp=>?_,I.hok.kept k,?_⟩
 ·obtain⟨j,G,F⟩:=X3q e2;obtain⟨y,A,E,B⟩:=S.map i j G;have w:Nc[i]?=some x:=e1;rw[w]at A;cases A;have h:=QW B;have r:XS X.env.scope x:=.inr (S.free _ h rfl);obtain⟨L,_,a⟩:=I.loc;obtain⟨u,D,J⟩:=a j x v E F r;refine⟨u,D,.inr ⟨_j B,?_⟩⟩;obtain⟨c,C⟩:=ju (cells:=X.env.cells) scope.names [] x (.inl h);have g:=O9 I S C;rcases J with ⟨z,_⟩ | ⟨_,c',z,q⟩
  ·rcases S.free _ h rfl with z' | z'<;>(have f:X.env.scope.names.lookup x=some .local:=z;rw[f]at z';cases z')
  ·rw[g]at z;cases z;obtain⟨o,l,hd⟩:=q;exact⟨c,C,o,k c o l,hd⟩
 ·obtain⟨v,o,l,hd⟩:=I.cell x c (O9 I S e);exact⟨v,o,k c o l,hd⟩
 ·have t:p∈X.pn++pins:=by
   have:p∈(X.pn++pins)++[]:=hp;simpa using this
  obtain⟨e,n,ne,K,d⟩:=I.pin p t;refine⟨k _ _ e,n,Cy (Bk e),λz=>?_,d⟩;rcases DY.mp (I.stkSub p.1 z) with q | q
  ·exact ne q
  ·exact K q
 ·show (sub mp σ).length=Nc.length;unfold sub;rw[Bj];exact S.len
theorem wY(I:Inv X pins σ H s)(hf:∀b∈fp,Dq X pins H b){σ':St}{H':Hp}{s':U7}{pl:U1}(J:Inv (Bl X scope Nc fp pins s H) pl σ' H' s'):Inv X pins σ H' s' :=
 I.call' J.os J.base J.hok J.bare λb a=>⟨(hf b a).2.2.2.1,(hf b a).2.1,(hf b a).2.2.2.2.1,(hf b a).2.2.2.2.2⟩
theorem Inv.turnedNew(I:Inv X pins σ H s){C:Y1}{h':Heap}{t':Nat}(k:∀b o,b≠C->s.heap.get? b=some o->h'.get? b=some o)(hn:H C=none)(h1:X.s₀.heap.objs.size<=C)
  (hL:C≠X.env.locals) (hc:∀x c,X.env.cells.lookup x=some c->c≠C) (hp:∀p∈X.pn++pins,p.1≠C):Inv X pins σ H {s with heap:=h',toks:=t'} :=
 I.turned k hn hL (.inr h1) hc hp
end
section
variable {M:Model}{A:W8}{E:U2}
abbrev Calm:Value->Shared->Prop:=λ_ _=>False
theorem Dh{α β:Type}{m:Sem α}{f:α->Sem β}{P:α->Shared->Prop}{Q:β->Shared->Prop}{s:U7}(h:wpAny M A m P Calm s)(k:∀x s',P x s'->wpAny M A (f x) Q E s'):wpAny M A (m >>= f) Q E s :=
 Ak (Eb h k λ_ _ z=>z.elim)
end
theorem _L{prog:U8}{w:W3}{A:W8}{R:Result->Shared->Prop}{s:U7}{e t i:Expr}{pos:Pos}{it acc:W4}(J:Nat->Shared->Prop)
  (turn:∀n s,J n s->wpAny (model prog w) A (pyNext it) (λr a=>(r=none->R (.ok .next) a)/\∀v,r=some v ->
   wpAny (model prog w) A (letOwnedTupleGo t it v) (λ_ f=>wpAny (model prog w) A (assign t env v) (λ_ b=>wpAny (model prog w) A (eval e env) (λx d =>
    wpAny (model prog w) A (call (.builtin "list.append") [acc,x]) (λ_ c=>∃m,m<n/\J m c) Calm d) Calm b) Calm f) Calm a) Calm s)
  (n:Nat) (h:J n s):codeAny (model prog w) A (.compLoop (.ListComp e [⟨t,i,[],0⟩] sc pos) 0 it acc env) R s:=by
 have k:=compTurn_list1 e t i sc pos it acc env;refine codeAny_loop rfl J (λn s j=>wpAny_noted (m:=compTurn (.ListComp e [⟨t,i,[],0⟩] sc pos) 0 it acc env) ?_) n h;rw[k];refine Ak (Oh (Dh (turn n s j) λr a q=>?_));match r,q with
 | none,q=>exact BZ (q.1 rfl)
 | some v,q=>exact Dh (q.2 v rfl) λ_ f g=>Dh g λ_ b o=>Ak (Dh o λx d p=>Dh p λ_ c l=>BZ (BZ ⟨rfl,l⟩))
def Jx (J:It)(g:TG)(te:TE)(σ:St)(H:Hp)(acc:Y1)(Q:VK):Prop:=∃W:Nat->Nat->List V->St->Hp->Prop,(∃m,W 0 m [] σ (upd H acc (.lst []))) /\
 ∀i m ys σ2 H2,W i m ys σ2 H2->(J.stop i H2/\Q (.ref acc) H2)\/(J.go i H2/\∀x H3,J.yld i H2 x H3->g x σ2 H3 λσ4 H4=>te σ4 H4 λy H5 =>
  H5 acc=some (.lst ys)/\ys.length<sizeLine/\∃m',m'<m/\W (i+1) m' (ys++[y]) σ4 (upd H5 acc (.lst (ys++[y]))))
def oK (mp:W9)(wi:TI)(g:TG)(te:TE):TE:=λσ H Q=>wi σ H λJ H1=>∀acc,H1 acc=none->Jx J g te (sub mp σ) H1 acc Q
section
variable {X:Cx}{elt tg iter:Expr}{scope:Scope}{pos:Pos}{wi:TI}{g:TG}{te:TE}{Nc:W0}{mp:W9}
noncomputable abbrev Dg (s:U7):Shared:={s with heap:=s.heap.push { cls:=.type "list",dict:=none,data:=.seq ([]:U5).toArray}}
theorem wZ(hc:X.calm=true)(S:Bw X.N X.env.scope scope Nc mp)(hg:∀ex pins s H,PG (Bl X scope Nc ex pins s H) tg g)(he:∀ex pins s H,PE (Bl X scope Nc ex pins s H) elt te)
  {pins:U1}{σ:St}{H2:Hp}{s2:U7}{E:U2}{it:Y1}{fp:U3}{tn:Nat->Heap->Prop}{J:It}{Q:VK}{RR:Value->Addr->Result->Shared->Prop}
  (I2:Inv X pins σ H2 s2) (T:Turn X.prog X.w X.K tg J fp it tn) (st2:tn 0 s2.heap) (f2:∀b∈fp,Dq X pins H2 b)
  (q:∀acc,H2 acc=none->Jx J g te (sub mp σ) H2 acc Q)
  (fin:∀acc C H' s' m',Q (.ref acc) H'->Inv X pins σ H' s'->s'.heap.Ns C m'->H' C=none->X.s₀.heap.objs.size<=C->C≠X.env.locals->(∀x c,X.env.cells.lookup x=some c->c≠C)->(∀p∈X.pn++pins,p.1≠C)->RR (.ref acc) C (.ok .next) s'):
  wpAny (model X.prog X.w) X.A (newList []) (λacc s₃=>wpAny (model X.prog X.w) X.A (newFunctionEnv scope X.env.globals (clo scope.names X.env.cells) [] X.env.qual none .none (some X.env)) (λk s₄ =>
   codeAny (model X.prog X.w) X.A (.compStart (.ListComp elt [⟨tg,iter,[],0⟩] scope pos) 0 (.ref it) acc {k with scope:=relabel scope X.env}) (RR acc k.locals) s₄) E s₃) E s2:=by
 refine KD (wpAny_newFunctionEnv S.nocell (by intro y hy;simp at hy) (λh₁ l B=>?_) S.kind);dsimp only at l B ⊢;have I3:=I2.lnew (its:=[]) (ys:=[]) (t':=s2.toks) .nil (Ef _);have P:H2 s2.heap.objs.size=none:=I2.fresh;obtain⟨W,⟨m0,w0⟩,R⟩:=q s2.heap.objs.size P;have D:(s2.heap.push { cls:=.type "list",dict:=none,data:=.seq ([]:U5).toArray}).objs.size=s2.heap.objs.size+1:=K1 ..;have V:∀b∈fp,b<s2.heap.objs.size:=λb a=>by
  obtain⟨o,e,_⟩:=T.obj _ _ st2 b a;exact Bk e
 have G:∀b∈fp,Dq X pins (upd H2 s2.heap.objs.size (.lst [])) b:=λb a=>⟨by rw[Bq (Cy (V b a))];exact(f2 b a).1,(f2 b a).2⟩;have h:Inv X pins σ (upd H2 s2.heap.objs.size (.lst [])) (Dg s2):=I3;have hsz:(Dg s2).heap.objs.size=s2.heap.objs.size+1:=D;have m:∀b∈fp,b<(Dg s2).heap.objs.size:=λb a=>by rw[hsz];exact Rm (V b a)
 have k3:∀b o,(Dg s2).heap.get? b=some o->h₁.get? b=some o:=λb o e=>B.extBut b o (Cy (Bk e)) (Ca _ e);have Ic:=uK (tk:=(Dg s2).toks) h S G m l k3;have U:tn 0 h₁:=T.keep _ _ _ st2 λb a o e=>k3 b o (Ca _ e);have cC:X.s₀.heap.objs.size<=(Dg s2).heap.objs.size:=h.sz;have cL:(Dg s2).heap.objs.size≠X.env.locals:=Kz h.lt;have cc:∀x c,X.env.cells.lookup x=some c->c≠(Dg s2).heap.objs.size:=λx c e=>by
  obtain⟨v,o,ho,_⟩:=h.cell x c e;exact Cy (Bk ho)
 have cp:∀p∈X.pn++pins,p.1≠(Dg s2).heap.objs.size:=λp hp=>Cy (Bk (h.pin p hp).1);have j:∀{H':Hp},(∀b∈fp,H' b=none)->∀b∈fp,Dq (Bl X scope Nc fp pins (Dg s2) (upd H2 s2.heap.objs.size (.lst []))) [] H' b:=λhn b a =>
  ⟨hn b a,Cy (m b a),λz=>by
   rcases DY.mp (h.stkSub b z) with e | e
   ·exact(G b a).2.1 e
   ·exact(G b a).2.2.1 e,.inl a,λx c e=>(G b a).2.2.2.2.1 x c (O9 h S e),λp hp=>(G b a).2.2.2.2.2 p (by
    have:p∈(X.pn++pins)++[]:=hp
    simpa using this)⟩
 have t:∀s4:Shared,s4={ (Dg s2) with heap:=h₁,toks:=(Dg s2).toks} ->
   codeAny (model X.prog X.w) X.A (.compLoop (.ListComp elt [⟨tg,iter,[],0⟩] scope pos) 0 (.ref it) (.ref s2.heap.objs.size) (Bl X scope Nc fp pins (Dg s2) (upd H2 s2.heap.objs.size (.lst []))).env)
    (RR (.ref s2.heap.objs.size) (Dg s2).heap.objs.size) s4:=by
  rintro s4 rfl;refine _L (λn s'=>∃i ys σ' H',Inv (Bl X scope Nc fp pins (Dg s2) (upd H2 s2.heap.objs.size (.lst []))) [] σ' H' s'/\tn i s'.heap/\(∀b∈fp,H' b=none)/\W i n ys σ' H') ?_ m0
   ⟨0,[],sub mp σ,_,Ic,U,λb a=>(G b a).1,w0⟩
  rintro n s5 ⟨i,ys,Z,Y,I5,M,L,w5⟩;rcases R i n ys Z Y w5 with ⟨stop,qn⟩ | ⟨go,step⟩
  ·refine Eb (T.done (Bl X scope Nc fp pins (Dg s2) (upd H2 s2.heap.objs.size (.lst []))) rfl rfl rfl hc i [] s5 Z Y (λ_ _=>False) I5 (j L) M stop) (λr s6 ⟨hr,I6⟩=>?_) λ_ _ f=>f.elim;subst hr;obtain⟨m6,a2,_⟩:=I6.loc;refine⟨λ_=>?_,λ_ z=>nomatch z⟩;exact fin _ _ Y s6 m6 qn (wY h G I6) a2 I6.free cC cL cc cp
  ·refine Eb (T.item (Bl X scope Nc fp pins (Dg s2) (upd H2 s2.heap.objs.size (.lst []))) rfl rfl rfl hc i [] s5 Z Y (λ_ _=>False) I5 (j L) M go) (λr s6 ⟨u,hr,h6⟩=>?_) λ_ _ f=>f.elim;subst hr;refine⟨(λz=>by cases z),?_⟩;rintro _ ⟨⟩;refine Eb h6 (λ_ s7 ⟨x,H7,I7,r7,y7,F,a4⟩=>?_) λ_ _ f=>f.elim;have a0:=I7.pinned (j a4) (T.obj _ _ F);refine Eb (hg _ _ _ _ _ s7 Z H7 x u _ a0 r7 (step x H7 y7)) (λ_ s8 ⟨σ8,H8,I8,q8⟩=>?_) λ_ _ f=>f.elim;refine Eb (he _ _ _ _ _ s8 σ8 H8 _ I8 q8) (λv s9 ⟨y,H9,I9,r9,a9,l9,m',a3,w9⟩=>?_) λ_ _ f=>f.elim;refine Eb (Sy (X:=Bl X scope Nc fp pins (Dg s2) (upd H2 s2.heap.objs.size (.lst []))) _ s9 σ8 H9 (.ref s2.heap.objs.size) [y] (.ref s2.heap.objs.size) [v] (λz Hz=>z=.non/\Hz=upd H9 s2.heap.objs.size (.lst (ys++[y]))) I9 rfl (.cons r9 .nil) ⟨_,ys,y,O,O,a9,l9,O,O⟩) (λa5 a7 ⟨z,a6,I,_,_,a1⟩=>?_) λ_ _ f=>f.elim;subst a1;refine⟨m',a3,i+1,ys++[y],σ8,_,I.unpinned,T.keep _ _ _ F λb a o e=>(I.pin (b,o) (Ho _ (Ho _ (TF a e)))).1,λb a=>?_,w9⟩;obtain⟨o,e,d⟩:=T.obj _ _ F b a;exact(I.pin (b,o) (Ho _ (Ho _ (TF a e)))).2.1
 exact oh (t _ rfl) (T.self _ 0 _ _ _ U (t _ rfl))
theorem KY(hc:X.calm=true)(S:Bw X.N X.env.scope scope Nc mp)(hi:PI X tg iter wi)(hg:∀ex pins s H,PG (Bl X scope Nc ex pins s H) tg g)(he:∀ex pins s H,PE (Bl X scope Nc ex pins s H) elt te)
  (hf:autoParam (∀x,foldedSetIterable iter X.env x=pure x) PySem.wpAny_For._auto_3):PE X (.ListComp elt [⟨tg,iter,[],0⟩] scope pos) (oK mp wi g te):=by
 intro pins s σ H Q I h;rw[eval_ListComp];refine bw (use:=none) rfl hf (lK (Y5 I S)) S.kind S.names (Bd (hi pins s σ H _ I h) λv r h1=>Bd h1 λk t h2=>?_);obtain⟨it,fp,tn,J,H2,e,i,T,a,m,q⟩:=h2;subst e;refine wZ (RR:=λacc C=>compPost (model X.prog X.w) X.A X.xe none (EP X pins σ Q) acc C) hc S hg he i T a m q ?_;intro acc C H' s' n qq f j c c1 c2 c3 d;refine⟨n,j,λh' p=>⟨.ref acc,H',?_,O,qq⟩⟩;exact f.turnedNew (t':=s'.toks) (λb o l e=>p.extBut b o l e) c c1 c2 c3 d
theorem Wm{i:Nat}{pos' spos:Pos}(hc:X.calm=true)(hN:X.N.Nodup)(hi':X.N[i]?=some x)(hx:X.env.scope.names.lookup x=some .local)(S:Bw X.N X.env.scope scope Nc mp)(hi:PI X tg iter wi)
  (hg:∀ex pins s H,PG (Bl X scope Nc ex pins s H) tg g) (he:∀ex pins s H,PE (Bl X scope Nc ex pins s H) elt te)
  (hsw:swapsWith (.ListComp elt [⟨tg,iter,[],0⟩] scope pos) (some (.Name x pos')) spos.line X.env=pure true)
  (hf:autoParam (∀x,foldedSetIterable iter X.env x=pure x) PySem.wpAny_For._auto_3):PS X (.Assign [.Name x pos'] (.ListComp elt [⟨tg,iter,[],0⟩] scope pos) spos) (Mu (oK mp wi g te) (CK i)):=by
 intro pins s σ H D I h;rw[oU _ _ _ _ hsw];refine Ak (Oh (Ak ?_));show wpAny _ X.A (do let _ ← comprehension (.ListComp elt [⟨tg,iter,[],0⟩] scope pos) scope X.env _ (newList []) false (eval iter X.env) (some (assign (.Name x pos') X.env))) _ _ s
 refine Ak (Eb (bw (use:=some (assign (.Name x pos') X.env)) (Q:=λ_ s'=>SP X pins D .next s') rfl hf (lK (Y5 I S)) S.kind S.names
  (Bd (hi pins s σ H _ I h) λv K h1=>Bd h1 λt L h2=>?_)) (λ_ s' E=>BZ (BZ E)) λ_ _ e=>e)
 obtain⟨it,fp,tn,J,H2,e,p,T,f,y,q⟩:=h2;subst e;refine wZ (Q:=λx H1=>CK i x σ H1 D.nx) (RR:=λacc C=>compPost (model X.prog X.w) X.A X.xe (some (assign (.Name x pos') X.env)) (λ_ s'=>SP X pins D .next s') acc C) hc S hg he p T f y q ?_;intro acc C H' s' B qq m r k c1 c2 c3 l;show wpAny _ X.A (assign (.Name x pos') X.env (.ref acc)) _ _ _;refine au (lJ (v:=.ref acc) m hN hi' (.inl hx) rfl (λn j ⟨a,c,F⟩=>?_) (.inr hx));have d:C≠a:=by
  rcases F with z | z
  ·rw[z];exact c2
  ·exact Ne.symm (c3 x a z)
 refine⟨B,r.sameBut c d,λh' G=>⟨σ.set i (some (.ref acc)),H',?_,qq⟩⟩;exact j.turnedNew (t':=n.toks) (λb o u e=>G.extBut b o u e) k c1 c2 c3 l
end
variable{te:TE}{fr:St}{H1:Hp}{acc:Y1}{Q:VK}
theorem m_{J:It}{n:Nat}{val:Nat->V}(Pv:Nat->List V->Hp->Prop)(hn:n<=sizeLine)(h0:Pv 0 [] (upd H1 acc (.lst [])))
  (hgo:∀i ys H,i<n->Pv i ys H->J.go i H/\∀x H',J.yld i H x H'->H'=H/\x=val i) (hst:∀ys H,Pv n ys H->J.stop n H)
  (hs:∀i ys H (N:V->Hp->Prop),i<n->ys.length=i->Pv i ys H->(∀y a,a acc=some (.lst ys)->Pv (i+1) (ys++[y]) (upd a acc (.lst (ys++[y])))->N y a)->te (some (val i)::fr) H N)
  (hd:∀ys H,ys.length=n->Pv n ys H->Q (.ref acc) H):
  Jx (J) (CK 0) te (none::fr) H1 acc Q:=by
 refine⟨λi m ys d H2=>m=n-i/\i<=n/\ys.length=i/\(∃v,d=v::fr)/\Pv i ys H2,⟨n,by simp,Ef _,O,⟨_,O⟩,h0⟩,?_⟩;rintro i m ys d H2 ⟨rfl,hi,c,⟨v,rfl⟩,p⟩;by_cases hlt:i<n
 ·obtain⟨go,h⟩:=hgo i ys H2 hlt p;refine .inr ⟨go,λx b g=>?_⟩;obtain⟨e1,e2⟩:=h x b g;subst e1 e2;show te ((v::fr).set 0 (some (val i))) b _;rw[List.set_cons_zero];refine hs i ys b _ hlt c p λy a f j=>⟨f,by lia,n-(i+1),by lia,O,hlt,by rw[Gh,c];rfl,⟨_,O⟩,j⟩
 ·have e:i=n:=by lia
  subst e;exact .inl ⟨hst ys H2 p,hd ys H2 c p⟩
theorem Wj{lo:Int}{n:Nat}(Pv:Nat->List V->Hp->Prop)(hn:n<=sizeLine)(h0:Pv 0 [] (upd H1 acc (.lst [])))
  (hs:∀i ys H (N:V->Hp->Prop),i<n->ys.length=i->Pv i ys H->(∀y H5,H5 acc=some (.lst ys)->Pv (i+1) (ys++[y]) (upd H5 acc (.lst (ys++[y])))->N y H5)->te (some (.int (lo+i))::fr) H N)
  (hd:∀ys H,ys.length=n->Pv n ys H->Q (.ref acc) H):
  Jx (GZ lo n) (CK 0) te (none::fr) H1 acc Q :=
 m_ (J:=GZ lo n) (val:=λi=>.int (lo+i)) Pv hn h0 (λi ys H hi p=>⟨hi,λx H' y=>y⟩) (λys H p=>Bc _) hs hd
theorem X5s{K:U0}{a:Y1}{xs:List V}(Pv:Nat->List V->Hp->Prop)(hn:xs.length<=sizeLine)(h0:Pv 0 [] (upd H1 acc (.lst [])))
  (hl:∀i ys H,Pv i ys H->Ax K H a xs)
  (hs:∀i x ys H (N:V->Hp->Prop),xs[i]?=some x->ys.length=i->Pv i ys H->(∀y H5,H5 acc=some (.lst ys)->Pv (i+1) (ys++[y]) (upd H5 acc (.lst (ys++[y])))->N y H5)->te (some x::fr) H N)
  (hd:∀ys H,ys.length=xs.length->Pv xs.length ys H->Q (.ref acc) H):
  Jx (Lh K a) (CK 0) te (none::fr) H1 acc Q :=
 m_ (J:=Lh K a) (n:=xs.length) (val:=λi=>xs.getD i .non) Pv hn h0
  (λi ys H hi p=>⟨⟨xs,xs[i],hl i ys H p,by simp[hi]⟩,λx H' y=>⟨y.1,by
   have:=y.2 xs (hl i ys H p)
   rw[G5,this];rfl⟩⟩)
  (λys H p=>⟨xs,hl _ ys H p,Bc _⟩)
  (λi ys H N hi b p k=>by
   have e:xs[i]?=some (xs.getD i .non):=by rw[G5,Di hi];rfl
   exact hs i _ ys H N e b p k) hd
end L2
namespace L2
structure Ar (P:U8) (w:W3) (K:U0) (mg:U4) (base:Heap) (k:Nat) (x:Str) (ps:W0) (sp:Sp):Prop where
 ex:∃f fd,Em P w K mg base JF k f fd ps sp/\Binds K fd ps []/\PySem.W.keepIn K (.ref f)=true/\mg x=some (.ref f)
variable{K:U0}{mg:U4}{base:Heap}{k:Nat}{x:Str}{ps:W0}
theorem Ar.mono{P:U8}{w:W3}{j:Nat}{sp:Sp}(c:Ar P w K mg base j x ps sp)(h:j<=k):Ar P w K mg base k x ps sp :=
 let ⟨f,fd,F,b,kp,m⟩:=c.ex
 ⟨f,fd,F.mono h,b,kp,m⟩
section
variable {X:Cx}{k:Nat}{x:Str}{ps:W0}{sp:Sp}{p pos:Pos}{e:Expr}{es:List Expr}{t:TA}
theorem BP(c:Ar X.prog X.w X.K X.mg X.base k x ps sp)(hr:CG k X.A)(hg:Gl X x)(ha:PA X (e::es) t)(hdb:autoParam ((x == ("__debug__":Str))=false) PySem.ldc._auto_1)
  (he:autoParam (starEach (e::es) X.env=(false,eval e X.env)::starEach es X.env) PySem.W.hit_SB._auto_3) (hpl:autoParam ((backTo pos (starEach es X.env)).any (·.1)=false) PySem.W.hit_SB._auto_3):PE X (.Call (.Name x p) (e::es) [] pos) (JH sp [] E0 t):=by
 obtain⟨f,fd,F,b,a,m⟩:=c.ex;exact sH F hr hg m a b .nil Vd ha hdb he hpl
end
structure Ab (K:U0) (x:Str) (st:Stmt) (dV:W4):Prop where
 ex:∃(f:Y1) (oc:W4) (od:W7) (kV doc pm:W4) (an:W7) (cdv ct:W4) (osl:W6),
  K.lookup f=some ⟨oc,od,.func (PySem.W.fnOf x x (Dv st) (DW st) (CV st) dV kV doc pm an cdv ct),osl⟩/\PySem.W.codeIn K cdv x=true/\PySem.W.keepIn K (.ref f)=true/\PySem.W.nsIn K mainGlobals x=some (some (.ref f))
theorem zX{st:Stmt}{f:Y1}{oc:W4}{od an:W7}{osl:W6}{dV kV doc pm cdv ct:W4}(a:PySem.W.nsIn K mainGlobals x=some (some (.ref f)))
  (l:K.lookup f=some ⟨oc,od,.func (PySem.W.fnOf x x (Dv st) (DW st) (CV st) dV kV doc pm an cdv ct),osl⟩) (c:PySem.W.codeIn K cdv x=true) (k:PySem.W.keepIn K (.ref f)=true):Ab K x st dV :=
 ⟨f,oc,od,kV,doc,pm,an,cdv,ct,osl,l,c,k,a⟩
def Jf (K:U0)(x:Str)(st:Stmt)(dV:W4)(ps:W0):Prop:=∀(kV doc pm:W4) (an:W7) (cdv ct:W4),Binds K (PySem.W.fnOf x x (Dv st) (DW st) (CV st) dV kV doc pm an cdv ct) ps []
theorem FQ{st:Stmt}
  (h:∀(kV b c:W4) (d:W7) (a ct:W4) (us:U5),us.length=ps.length->bindArgs (PySem.W.fnOf x x (Dv st) (DW st) (CV st) .none kV b c d a ct) ⟨us,[]⟩=pure (ps.zip us)):Jf K x st .none ps :=
 λkV b c d a ct=>.all (h kV b c d a ct)
theorem Qm{nm:Str}{st:Stmt}(h:∀(kV b c:W4) (d:W7) (a ct:W4),bindArgs (PySem.W.fnOf nm nm (Dv st) (DW st) (CV st) .none kV b c d a ct) ⟨[],[]⟩=pure []):Jf K nm st .none []:=FQ λkV b c d a ct us e=>by
 cases us with
 | nil=>exact h kV b c d a ct
 | cons=>cases e
variable{x0:Str}
theorem Ql{nm:Str}{st:Stmt}(h:∀(kV b c:W4) (d:W7) (a ct:W4) (a0:W4),bindArgs (PySem.W.fnOf nm nm (Dv st) (DW st) (CV st) .none kV b c d a ct) ⟨[a0],[]⟩=pure [(x0,a0)]):Jf K nm st .none [x0]:=FQ λkV b c d a ct us e=>by
 cases us with
 | nil=>cases e
 | cons b0 t0 =>
  cases t0 with
  | nil=>exact h kV b c d a ct b0
  | cons=>cases e
theorem Qk{nm:Str}{st:Stmt}{x1:Str}(h:∀(kV b c:W4) (e:W7) (a ct:W4) (a0 a1:W4),bindArgs (PySem.W.fnOf nm nm (Dv st) (DW st) (CV st) .none kV b c e a ct) ⟨[a0,a1],[]⟩=pure [(x0,a0),(x1,a1)]):Jf K nm st .none [x0,x1]:=FQ λkV b c e a ct us d=>by
 cases us with
 | nil=>cases d
 | cons b0 t0 =>
  cases t0 with
  | nil=>cases d
  | cons b1 t1 =>
   cases t1 with
   | nil=>exact h kV b c e a ct b0 b1
   | cons=>cases d
theorem Qj{nm:Str}{st:Stmt}{x1 x2:Str}(h:∀(kV b d:W4) (e:W7) (a ct:W4) (a0 a1 a2:W4),bindArgs (PySem.W.fnOf nm nm (Dv st) (DW st) (CV st) .none kV b d e a ct) ⟨[a0,a1,a2],[]⟩=pure [(x0,a0),(x1,a1),(x2,a2)]):Jf K nm st .none [x0,x1,x2]:=FQ λkV b d e a ct us c=>by
 cases us with
 | nil=>cases c
 | cons b0 t0 =>
  cases t0 with
  | nil=>cases c
  | cons b1 t1 =>
   cases t1 with
   | nil=>cases c
   | cons b2 t2 =>
    cases t2 with
    | nil=>exact h kV b d e a ct b0 b1 b2
    | cons=>cases c
theorem Qi{nm:Str}{st:Stmt}{x1 x2 x3:Str}(h:∀(kV b d:W4) (e:W7) (a ct:W4) (a0 a1 a2 a3:W4),bindArgs (PySem.W.fnOf nm nm (Dv st) (DW st) (CV st) .none kV b d e a ct) ⟨[a0,a1,a2,a3],[]⟩=pure [(x0,a0),(x1,a1),(x2,a2),(x3,a3)]):Jf K nm st .none [x0,x1,x2,x3]:=FQ λkV b d e a ct us c=>by
 cases us with
 | nil=>cases c
 | cons b0 t0 =>
  cases t0 with
  | nil=>cases c
  | cons b1 t1 =>
   cases t1 with
   | nil=>cases c
   | cons b2 t2 =>
    cases t2 with
    | nil=>cases c
    | cons b3 t3 =>
     cases t3 with
     | nil=>exact h kV b d e a ct b0 b1 b2 b3
     | cons=>cases c
theorem Qh{nm:Str}{st:Stmt}{x1 x2 x3 x4:Str}(h:∀(kV b d:W4) (e:W7) (a ct:W4) (a0 a1 a2 a3 a4:W4),bindArgs (PySem.W.fnOf nm nm (Dv st) (DW st) (CV st) .none kV b d e a ct) ⟨[a0,a1,a2,a3,a4],[]⟩=pure [(x0,a0),(x1,a1),(x2,a2),(x3,a3),(x4,a4)]):Jf K nm st .none [x0,x1,x2,x3,x4]:=FQ λkV b d e a ct us c=>by
 cases us with
 | nil=>cases c
 | cons b0 t0 =>
  cases t0 with
  | nil=>cases c
  | cons b1 t1 =>
   cases t1 with
   | nil=>cases c
   | cons b2 t2 =>
    cases t2 with
    | nil=>cases c
    | cons b3 t3 =>
     cases t3 with
     | nil=>cases c
     | cons b4 t4 =>
      cases t4 with
      | nil=>exact h kV b d e a ct b0 b1 b2 b3 b4
      | cons=>cases c
section
variable {P:U8}{w:W3}{K:U0}{mg:U4}{base:Heap}
theorem fS{N P:W0}{sc:Scope}(a:autoParam (sc.kind=.function) PySem.W.hit_SB._auto_3)(b:autoParam (sc.isCoroutine=false) PySem.W.hit_SB._auto_3)(c:autoParam (sc.isGenerator=false) PySem.W.hit_SB._auto_3)(d:autoParam (N.Nodup) PySem.Slot.of._auto_1)(e:autoParam (N.take P.length=P) PySem.W.hit_SB._auto_3)(f:autoParam (∀x∈P,sc.names.lookup x=some .local\/sc.names.lookup x=some .cell) PySem.Slot.of._auto_1)(g:autoParam (∀y∈sc.names,y.2≠.free) PySem.Slot.of._auto_1):Bf N P sc:=⟨a,b,c,d,e,f,g⟩
theorem Ab.cal{st:Stmt}{dV:W4}{sp:Sp}(F:Ab K x st dV){h:Heap}(X:K.In h)(G:Ng h mg)(N:W0)
  (hbody:∀{f:Y1}{a:W4}{A:W8}{outer:List Env}{s:U7},N.Nodup->∀(H:Hp) (vs:List V) (Q:VK) (E:XK),CG k (A.deeper (envOfC x (CV st) s.heap.objs.size f a))->sp vs H Q E ->
   ∃t,GF (FP JF P w K mg base N x (CV st) f a A outer s H E).nox (DW st) t/\t { nx:=λ_ H'=>Q .non H',rt:=Q} (start N vs) H)(S:Bf N ps (CV st):=by exact fS) (bi:Jf K x st dV ps) (len:∀vs H Q E,sp vs H Q E->vs.length=ps.length):Ar P w K mg base (k+1) x ps sp:=by
 obtain⟨f,n,od,kV,d,l,i,a,ct,m,j,c,e,ns⟩:=F.ex;refine⟨f,_,Zg j c S len λA outer s H vs Q E g b=>?_,bi kV d l i a ct,e,Fb X G ns⟩;obtain⟨t,h,q⟩:=hbody S.nd H vs Q E g b;exact⟨t,h.nox,q⟩
end
variable{H:Hp}
theorem Bu{P:U8}{w:W3}{N:W0}{sc:Scope}{f:Y1}{cdv:W4}{A:W8}{outer:List Env}{s:U7}{E:XK}:(FP JF P w K mg base N x sc f cdv A outer s H E).nox.K=K:=rfl
theorem BW{p:Y1}(h:H p=none)(o:HO):Same H (upd H p o):=λb u q=>by rw[Bq (Q0 q h)];exact q
theorem lW(K:U0):PySem.W.kitOne K (.type "int") (.type "int")=some true:=by unfold PySem.W.kitOne;rw[if_pos (by decide)]
theorem lV(K:U0):PySem.W.kitOne K (.type "int") (.type "bool")=some false:=by with_unfolding_all rfl
variable{A B:Prop}
theorem JZ{a b:Int}(h1:a=b->A)(h2:a≠b->B):if decide (V.int a=V.int b)=true then A else B:=by
 by_cases h:a=b
 ·subst h;rw[Cj rfl];exact Df (h1 rfl)
 ·rw[Cd λe=>h (V.int.inj e)];exact CP (h2 h)
theorem Ov{a b:Int}(h1:a≠b->A)(h2:a=b->B):if (!decide (V.int a=V.int b))=true then A else B:=by
 by_cases h:a=b
 ·subst h;rw[Cj rfl];exact CP (h2 rfl)
 ·rw[Cd λe=>h (V.int.inj e)];exact Df (h1 h)
theorem Ay{p:Prop}[Decidable p](h1:p->A)(h2:¬ p->B):if decide p=true then A else B:=by
 by_cases h:p
 ·rw[Cj h];exact Df (h1 h)
 ·rw[Cd h];exact CP (h2 h)
theorem Js{c:Bool}(h1:c=true->A)(h2:c=false->B):if c=true then A else B:=by
 cases c
 ·exact CP (h2 rfl)
 ·exact Df (h1 rfl)
theorem Iv{c:Bool}(h1:c=false->A)(h2:c=true->B):if (!c)=true then A else B:=by
 cases c
 ·exact Df (h1 rfl)
 ·exact CP (h2 rfl)
def Z6 (t u:TS):TS:=λD σ H=>∃Good:St->Hp->Prop,t {D with nx:=Good} σ H/\∀σ' H',Good σ' H'->u D σ' H'
theorem Eo{X:Cx}{st:Stmt}{rest:Y0}{t u:TS}(h1:PS X st t)(h2:GF X rest u):GF X (st::rest) (Z6 t u):=by
 intro pins s σ H D I h;obtain⟨a,g,d⟩:=h;refine ak (Bd (h1 pins s σ H {D with nx:=a} I g) λf c q=>?_);cases f with
 | next =>
  obtain⟨b,H',e,q⟩:=q;exact h2 pins c b H' D e (d b H' q)
 | ret v=>exact q
 | brk=>exact q
 | cont=>exact q
theorem Gn{H':Hp}{p:Y1}{o:HO}(h:Same H H')(hn:H p=none):Same H (upd H' p o):=λb u q=>by rw[Bq (Q0 q hn)];exact h b u q
end L2
namespace Zo
open PySem.Sem (wp)
def Stop (h:Heap)(e:Y1):Prop:=∃o,h.get? e=some o/\o.cls=.type "StopIteration"
def Rest (S:U3)(h h':Heap):Prop:=∀c o,c∉S->h.get? c=some o->h'.get? c=some o
variable{S:U3}{h1:Heap}
theorem Rest.trans{h h2:Heap}(a:Rest S h h1)(b:Rest S h1 h2):Rest S h h2:=λc o n e=>b c o n (a c o n e)
theorem Rest.sub{T:U3}{h:Heap}(a:Rest S h h1)(q:∀c,c∈S->c∈T):Rest T h h1:=λc o n e=>a c o (λz=>n (q c z)) e
theorem Rest.ext{h:Heap}{b:Y1}(e:Heap.ExtBut b h h1)(q:b∈S):Rest S h h1:=λc o n x=>e c o (λz=>n (z ▸ q)) x
theorem Rest.but{h:Heap}{b:Y1}(e:Heap.SameBut b h h1)(q:b∈S):Rest S h h1:=Rest.ext e.extBut q
theorem Rest.new{h:Heap}(o:Obj):Rest S h (h.push o):=λc u n x=>Ca _ x
def IK (S:U3)(G:Heap->Prop):Prop:=∀h h',Rest S h h'->G h->G h'
def Told (it:Y1)(hp:Heap)(g:Array GenState)(d:Drawn)(tk:Nat)(os:OsState)(G:Heap->Prop)(ox:Option Value)(Q E:U2):Prop :=
 (∀x h',ox=some x->G h'->Heap.SameBut it hp h'->Q x ⟨h',g,d,tk,os⟩) /\
 (∀e h',ox=none->Heap.ExtBut it hp h'->Stop h' e->E (.ref e) ⟨h',g,d,tk,os⟩)
def Pull (prog:U8)(w:W3)(A:W8)(it:Y1)(G G':Heap->Prop)(ox:Option Value):Prop :=
 ∀{Q E:U2}{hp:Heap}{g:Array GenState}{d:Drawn}{tk:Nat}{os:OsState},G hp->Told it hp g d tk os G' ox Q E ->
  wpAny (model prog w) A (Builtin.SmallTypes.nextOf (.ref it)) Q E ⟨hp,g,d,tk,os⟩
section
variable {prog:U8}{w:W3}{A:W8}{E:U2}{hp:Heap}{g:Array GenState}{d:Drawn}{tk:Nat}{os:OsState}
variable{ox:Option Value}
theorem Pull.behind{it:Y1}{G G':Heap->Prop}(p:Pull prog w A it G G' ox)(hg:G hp){α:Type}{f:Value->Sem α}{k:Value->Sem Unit}{Q:α->Shared->Prop}
  (t:Told it hp g d tk os G' ox (λx s'=>wpAny (model prog w) A (f x) Q (λe b=>wpAny (model prog w) A (k e) (λ_ a=>E e a) E b) s') (λe b=>wpAny (model prog w) A (k e) (λ_ a=>E e a) E b)):
  wpAny (model prog w) A ((Builtin.SmallTypes.nextOf (.ref it) >>= f).onRaise k) Q E ⟨hp,g,d,tk,os⟩:=wpAny_onRaise (Ak (p hg t))
theorem freed{z I O e:Y1}{v:W4}{h:Heap}(gz:IsZip h z I O v)(st:Stop h e)(k:∀h',Rest [z] h h'->Stop h' e->E (.ref e) ⟨h',g,d,tk,os⟩):
  wpAny (model prog w) A (setField (.ref z) 0 .none) (λ_ c=>E (.ref e) c) E ⟨h,g,d,tk,os⟩:=by
 obtain⟨o,a,b⟩:=st;have ne:e≠z:=by
  rintro rfl;have q:=a.symm.trans gz;cases q;exact absurd (Value.type.inj b) (by decide)
 refine QG gz rfl (by simp) (k _ (Rest.but (Heap.SameBut.update ..) (by simp)) ⟨o,(Heap.SameBut.update ..).extBut _ _ ne a,b⟩)
theorem step{z I O i j:Y1}{oy:Option Value}{a b:W4}{G1 G1' G2 G2':Heap->Prop}{R:PySem.Fin->Shared->Prop}
  (gz:IsZip hp z I O .none) (gI:IsPair hp I (.ref i) (.ref j)) (gO:IsPair hp O a b) (ne:O≠z/\O≠i/\O≠j/\i≠z/\j≠z)
  (p1:Pull prog w A i G1 G1' ox) (p2:Pull prog w A j G2 G2' oy) (a1:G1 hp) (a2:G2 hp)
  (k1:IK [z,O,j] G1) (k2:IK [z,O,i] G2) (k3:IK [z,O,j] G1') (k4:IK [z,O,i] G2')
  (go:∀x y h',ox=some x->oy=some y->IsZip h' z I O (rawInt hp.objs.size)->IsPair h' O x y->IsPair h' hp.objs.size x y->G1' h'->G2' h'->Rest [z,O,i,j] hp h'->R (.done (.ret (.ref hp.objs.size))) ⟨h',g,d,tk,os⟩)
  (stop:∀e h',ox=none\/oy=none->Rest [z,O,i,j] hp h'->Stop h' e->E (.ref e) ⟨h',g,d,tk,os⟩):
  wpAny (model prog w) A (Builtin.«zip.__next__» ⟨[.ref z],[]⟩) R E ⟨hp,g,d,tk,os⟩:=by
 obtain⟨o,L,P,C,H⟩:=ne;have Z:(#[Value.none,.bool false,.bool false,.ref I,.ref O]:U9)[0]?=some .none:=rfl;have c2:(#[Value.none,.bool false,.bool false,.ref I,.ref O]:U9)[2]?=some (.bool false):=rfl;have c3:(#[Value.none,.bool false,.bool false,.ref I,.ref O]:U9)[3]?=some (.ref I):=rfl;have N:(#[Value.none,.bool false,.bool false,.ref I,.ref O]:U9)[4]?=some (.ref O):=rfl;have z0:0<(#[Value.none,.bool false,.bool false,.ref I,.ref O]:U9).size:=by simp
 wp_walk using J2 gz rfl c2,J2 gz rfl c3,VD gI rfl,J2 gz rfl Z,J2 gz rfl N,wpAny_setField_rec gz z0;intro h1 u r;have t:Rest [z] hp h1:=.but r (by simp);wp_walk;refine p1.behind (f:=λx=>pure (some x)) (k:=λ_=>setField (.ref z) 0 .none) (k1 _ _ (t.sub (by simp)) a1) ⟨λx h2 e2 W c=>?_,λe h2 e2 c st=>?_⟩
 ·have K:IsPair h2 O a b:=c.extBut _ _ L (r.extBut _ _ o gO);wp_walk using VD K rfl,wpAny_updateSeq_pair K;intro h3 Y l;wp_walk using wpAny_letGo;have B:Rest [z,O,i] hp h3:=((t.sub (by simp)).trans (.but c (by simp))).trans (.but l (by simp));refine p2.behind (f:=λx=>pure (some x)) (k:=λ_=>setField (.ref z) 0 .none) (k2 _ _ B a2) ⟨λy D s V h=>?_,λe D s h st=>?_⟩
  ·have J:IsPair D O x b:=h.extBut _ _ P Y;wp_walk using VD J rfl,wpAny_updateSeq_pair J;intro h5 Q n;have p:IsPair h5 O x y:=Q;have M:Rest [z,O,i,j] hp h5:=((B.sub (by simp)).trans (.but h (by simp))).trans (.but n (by simp));have G:IsZip h5 z I O .ellipsis:=n.extBut _ _ o.symm (h.extBut _ _ H.symm (l.extBut _ _ o.symm (c.extBut _ _ C.symm u)));have sz:h5.objs.size=hp.objs.size:=(((n.1.trans h.1).trans l.1).trans c.1).trans r.1;have lt:z<h5.objs.size:=Bk G;have U:IsZip (h5.push { cls:=.type "tuple",data:=.seq #[x,y].toList.toArray}) z I O .ellipsis:=Ca _ G;wp_walk using wpAny_letGo,VD p rfl;have X:=Oq (Obj.mapFields λv=>v.setIfInBounds 1 (Value.bool false)) (Oq (Obj.mapFields λv=>v.setIfInBounds 0 (rawInt h5.objs.size)) U rfl) rfl;have F:Rest [z] (h5.push { cls:=.type "tuple",data:=.seq #[x,y].toList.toArray}) _:=(Rest.but (b:=z) (Heap.SameBut.update (f:=Obj.mapFields λv=>v.setIfInBounds 0 (rawInt h5.objs.size)) ..) (by simp)).trans (Rest.but (b:=z) (Heap.SameBut.update (f:=Obj.mapFields λv=>v.setIfInBounds 1 (Value.bool false)) ..) (by simp));have q:=(Rest.new _).trans F;have T8:=F h5.objs.size _ (by simp;exact Kz lt) (Ew _ rfl);simp only[<-sz]at go;exact go x y _ e2 s X (q _ _ (by simp[o]) p) T8 (k3 _ _ ((((Rest.but (S:=[z,O,j]) l (by simp)).trans (.but h (by simp))).trans (.but n (by simp))).trans (q.sub (T:=[z,O,j]) (by simp))) W)
    (k4 _ _ ((Rest.but (S:=[z,O,i]) n (by simp)).trans (q.sub (T:=[z,O,i]) (by simp))) V) (M.trans (q.sub (T:=[z,O,i,j]) (by simp)))
  ·exact freed (h _ _ H.symm (l.extBut _ _ o.symm (c.extBut _ _ C.symm u))) st λh5 n m =>
    stop e h5 (.inr s) (((B.sub (by simp)).trans (.ext h (by simp))).trans (n.sub (by simp))) m
 ·exact freed (c _ _ C.symm u) st λh3 l m=>stop e h3 (.inl e2) (((t.sub (by simp)).trans (.ext c (by simp))).trans (l.sub (by simp))) m
end
end Zo
namespace Zn
open PySem.Sem (wp)
section
variable {prog:U8}{w:W3}{A:W8}{E:U2}{hp:Heap}{g:Array GenState}{d:Drawn}{tk:Nat}{os:OsState}{it l:Y1}{i n:Nat}{its:U9}{oi ol:Obj}{R:PySem.Fin->Shared->Prop}
theorem Y8x(hh:its[i]?=none->A.handled=none)(gi:hp.get? it=some oi)(di:oi.data=.fields #[.ref l,.int i 0])(gl:hp.get? l=some ol)(dl:ol.data=.seq its n)
  (go:∀x,its[i]?=some x->R (.done (.ret x)) ⟨hp.update it (Obj.mapFields (·.setIfInBounds 1 (rawInt (i+1)))),g,d,tk,os⟩)
  (stop:∀h' e,its[i]?=none->Heap.ExtBut it hp h'->(∃o,h'.get? e=some o/\o.cls=.type "StopIteration")->E (.ref e) ⟨h',g,d,tk,os⟩):
  wpAny (model prog w) A (Builtin.«tuple_iterator.__next__» ⟨[.ref it],[]⟩) R E ⟨hp,g,d,tk,os⟩:=by
 have c:(#[Value.ref l,.int i 0]:U9)[0]?=some (.ref l):=rfl;have a:(#[Value.ref l,.int i 0]:U9)[1]?=some (.int i 0):=rfl;have z0:0<(#[Value.ref l,.int i 0]:U9).size:=by simp
 have b:1<(#[Value.ref l,.int i 0]:U9).size:=by simp
 wp_walk using J2 gi di c,J2 gi di a,VD gl dl;rw[L_];cases hx:its[i]? with
 | some x =>
  dsimp only;wp_walk using QG gi di b;exact go x hx
 | none =>
  dsimp only;have f:=hh hx;wp_walk using QG gi di z0;exact wpAny_raiseNew_none f (stop _ _ hx (((Heap.SameBut.update ..).extBut.push _).push _) ⟨_,Ew _ rfl,O⟩)
end
end Zn
namespace Zp
open Zo
open PySem.Sem (wp)
def Dat (t:Bool)(h:Heap)(l:Y1)(xs:U9):Prop:=if t then h.IsTuple l xs else h.IsList l xs
def GZ (t:Bool)(h:Heap)(it l:Y1)(i:Nat):Prop:=if t then h.IsTupleIter it l i else h.IsListIter it l i
variable{l:Y1}{xs:U9}
theorem Dat.at{t:Bool}{h h':Heap}(d:Dat t h l xs)(e:∀o,h.get? l=some o->h'.get? l=some o):Dat t h' l xs:=by
 cases t<;>exact let ⟨o,q,r⟩:=d;⟨o,e o q,r⟩
variable{it:Y1}{i:Nat}
theorem GZ.at{t:Bool}{h h':Heap}(d:GZ t h it l i)(e:∀o,h.get? it=some o->h'.get? it=some o):GZ t h' it l i:=by
 cases t<;>exact let ⟨o,q,r⟩:=d;⟨o,e o q,r⟩
theorem GZ.obj{t:Bool}{h:Heap}(d:GZ t h it l i):∃o,h.get? it=some o/\∀v,o.data≠.cell v:=by
 cases t<;>exact let ⟨o,e,_,q⟩:=d;⟨o,e,λv z=>by rw[q]at z;cases z⟩
theorem Dat.push{t:Bool}{h:Heap}(d:Dat t h l xs)(o:Obj):Dat t (h.push o) l xs:=d.at λ_ q=>Ca _ q
def Stand (t:Bool)(it l:Y1)(k:Nat)(xs:U9)(h:Heap):Prop:=GZ t h it l k/\Dat t h l xs
theorem Stand.stays{t:Bool}{k:Nat}{S:U3}(a:it∉S)(b:l∉S):IK S (Stand t it l k xs):=λh h' r d=>⟨d.1.at λo q=>r _ o a q,d.2.at λo q=>r _ o b q⟩
section
variable {prog:U8}{w:W3}{A:W8}
variable{Q:Option Value->Shared->Prop}
theorem via{E:U2}{T id:String}{f:Builtin}{a:Y1}{s:U7}(sl:Slot T (Str.ofString "__next__") id)(en:entryFor table id=some f)(ar:argsOk id ⟨[.ref a],[]⟩)(ty:s.TypeIs (.ref a) T)
  (h:wpAny (model prog w) A.in1 (f ⟨[.ref a],[]⟩) (λr s'=>∃v,r=.done (.ret v)/\Q (some v) s') E s):wpAny (model prog w) A (callSpecial? (.ref a) (Str.ofString "__next__")) Q E s :=
 YT ty sl (Rj sl ty en h ar)
theorem pull{t:Bool}{k:Nat}(hh:A.handled=none):Pull prog w A it (Stand t it l k xs) (Stand t it l (k+1) xs) xs[k]?:=by
 intro Q E hp g d tk os st td;have p:∀{h'},Heap.SameBut it hp h'->l≠it->Dat t h' l xs:=λr n=>st.2.at λo q=>r.extBut _ _ n q;cases t with
 | false =>
  obtain⟨a,b⟩:hp.IsListIter it l k/\hp.IsList l xs:=st;have n:l≠it:=by
   rintro rfl;obtain⟨o,q,_,r⟩:=a;obtain⟨o',h,_,_,j⟩:=b;rw[q]at h;cases h;rw[r]at j;cases j
  cases f:xs[k]? with
  | some x=>exact wpAny_nextOf_list_item a b f λh' i r=>td.1 x h' f ⟨i,p r n⟩ r
  | none=>exact wpAny_nextOf_list_end hh a b f λh' e r s=>td.2 e h' f r s
 | true =>
  obtain⟨a,b⟩:hp.IsTupleIter it l k/\hp.IsTuple l xs:=st;have ty:(⟨hp,g,d,tk,os⟩:U7).TypeIs (.ref it) "tuple_iterator":=a.typeIs;obtain⟨o,q,c,r⟩:=a;obtain⟨o',h,u,m,j⟩:=b;have n:l≠it:=by rintro rfl;rw[q]at h;cases h;rw[r]at j;cases j
  unfold Builtin.SmallTypes.nextOf;refine Ak (via F.slot_tuple_iterator_next F.entry_tuple_iterator_next (F.args_tuple_iterator_next_1 _) ty (Zn.Y8x (λ_=>hh) q r h j (λx f=>⟨x,O,BZ (td.1 x _ f ?_ (Heap.SameBut.update ..))⟩) λh' e f ex s=>td.2 e h' f ex s));refine⟨(⟨_,Oq _ q (Obj.isFreed_of_fields (Obj.data_mapFields r _)),(Obj.cls_mapFields ..).trans c,?_⟩:Heap.IsTupleIter _ it l (k+1)),p (Heap.SameBut.update ..) n⟩;rw[Obj.data_mapFields r];rfl
variable {E:U2}
theorem uN{t1 t2:Bool}{z I O i j m:Y1}{k1 k2:Nat}{ys:U9}{a b:W4}{s:U7}(hh:A.handled=none)(D:ZipApart z I O i j l m)
  (gz:IsZip s.heap z I O .none) (gI:IsPair s.heap I (.ref i) (.ref j)) (gO:IsPair s.heap O a b) (d1:Stand t1 i l k1 xs s.heap) (d2:Stand t2 j m k2 ys s.heap)
  (go:∀x y h',xs[k1]?=some x->ys[k2]?=some y->IsZip h' z I O (rawInt s.heap.objs.size)->IsPair h' O x y->IsPair h' s.heap.objs.size x y->Stand t1 i l (k1+1) xs h'->Stand t2 j m (k2+1) ys h' ->
   Rest [z,O,i,j] s.heap h'->Q (some (.ref s.heap.objs.size)) ⟨h',s.gens,s.drawn,s.toks,s.os⟩)
  (stop:∀h',xs[k1]?=none\/ys[k2]?=none->Rest [z,O,i,j] s.heap h'->Q none ⟨h',s.gens,s.drawn,s.toks,s.os⟩):wpAny (model prog w) A (pyNext (.ref z)) Q E s:=by
 obtain⟨hp,g,d,tk,os⟩:=s;unfold pyNext;refine Ak (RT (via F.slot_zip_next F.entry_zip_next (F.args_zip_next_1 _) ⟨_,gz,rfl⟩ (step gz gI gO ⟨D.TOz,D.TOi1,D.TOi2,D.i1z,D.i2z⟩ (pull (A:=A.in1) hh) (pull (A:=A.in1) hh) d1 d2 ?_ ?_ ?_ ?_ ?_ ?_)))
 ·exact Stand.stays (by simp[D.i1z,D.TOi1.symm,D.i12]) (by simp[D.l1z,D.l1TO,D.l1i2])
 ·exact Stand.stays (by simp[D.i2z,D.TOi2.symm,D.i12.symm]) (by simp[D.l2z,D.l2TO,D.l2i1])
 ·exact Stand.stays (by simp[D.i1z,D.TOi1.symm,D.i12]) (by simp[D.l1z,D.l1TO,D.l1i2])
 ·exact Stand.stays (by simp[D.i2z,D.TOi2.symm,D.i12.symm]) (by simp[D.l2z,D.l2TO,D.l2i1])
 ·exact λx y h' e1 e2 t u f p k h=>⟨_,rfl,BZ (go x y h' e1 e2 t u f p k h)⟩
 ·rintro e h' n r ⟨o,q,c⟩;exact Ak (wpAny_isInstance (b:=true) ⟨o,q,c⟩ isSubtype_stop (BZ (stop h' n r)))
end
noncomputable abbrev Fw (t:Bool)(l:Y1):Obj:={ cls:=.type (if t then "tuple_iterator" else "list_iterator"),data:=.fields #[.ref l,.int 0 0]}
theorem rP{t:Bool}{h:Heap}(e:h.get? it=some (Fw t l)):GZ t h it l 0:=by
 cases t<;>exact⟨_,e,O,O⟩
theorem Vc{h:Heap}{o0 o1 o2 o3 o4:Obj}(f0:o0.isFreed=false)(f1:o1.isFreed=false)(f2:o2.isFreed=false)(f3:o3.isFreed=false)(f4:o4.isFreed=false){H:Heap}(e:H=((((h.push o0).push o1).push o2).push o3).push o4):
  H.get? h.objs.size=some o0/\H.get? (h.objs.size+1)=some o1/\H.get? (h.objs.size+2)=some o2/\H.get? (h.objs.size+3)=some o3/\H.get? (h.objs.size+4)=some o4/\∀c o,h.get? c=some o->H.get? c=some o:=by
 subst e;have w:∀{h:Heap}{a:Y1}{o o':Obj},h.get? a=some o->(h.push o').get? a=some o:=λq=>Ca _ q;have d:(h.push o0).objs.size=h.objs.size+1:=K1 ..;have f:((h.push o0).push o1).objs.size=h.objs.size+2:=by rw[K1,d]
 have b:(((h.push o0).push o1).push o2).objs.size=h.objs.size+3:=by rw[K1,f]
 have g:((((h.push o0).push o1).push o2).push o3).objs.size=h.objs.size+4:=by rw[K1,b]
 refine⟨w (w (w (w (Ew _ f0)))),?_,?_,?_,?_,λc o q=>w (w (w (w (w q))))⟩
 ·rw[<-d];exact w (w (w (Ew _ f1)))
 ·rw[<-f];exact w (w (Ew _ f2))
 ·rw[<-b];exact w (Ew _ f3)
 ·rw[<-g];exact Ew _ f4
structure New (t1 t2:Bool) (h h':Heap) (l m:Y1):Prop where
 z:IsZip h' (h.objs.size+4) (h.objs.size+2) (h.objs.size+3) .none
 I:IsPair h' (h.objs.size+2) (.ref h.objs.size) (.ref (h.objs.size+1))
 O:IsPair h' (h.objs.size+3) .none .none
 i:GZ t1 h' h.objs.size l 0
 j:GZ t2 h' (h.objs.size+1) m 0
 k:Rest [] h h'
section
variable {prog:U8}{w:W3}{A:W8}{E:U2}{s:U7}
theorem uG{t:Bool}{Q:U2}(hl:Dat t s.heap l xs)(h:Q (.ref s.heap.objs.size) {s with heap:=s.heap.push (Fw t l)}):wpAny (model prog w) A (pyIter (.ref l)) Q E s:=by
 cases t
 ·exact X8 (show s.heap.IsList l xs from hl) h
 ·exact bH (show s.heap.IsTuple l xs from hl) h
theorem Y6x(t1 t2:Bool)(l m:Y1)(xs ys:U9):
  Meets (Builtin.«zip.__new__» ⟨[.type "zip",.ref l,.ref m],[]⟩) (λ_ R s=>Dat t1 s.heap l xs/\Dat t2 s.heap m ys /\
   ∀h',New t1 t2 s.heap h' l m->R (.ok (.ret (.ref (s.heap.objs.size+4)))) {s with heap:=h'}):=
 .of_wp λprog w A R s h=>by
  rcases s with ⟨hp,g,d,tk,os⟩;rcases h with ⟨b1,b2,h⟩;have a:=sub_zip;have n:Dat t1 (Shared.heap ⟨hp,g,d,tk,os⟩) l xs:=b1;have b:Dat t2 (Shared.heap ⟨hp.push (Fw t1 l),g,d,tk,os⟩) m ys:=b2.push _;wp_walk using uG n,uG b;have key:∀n1 n2 n3 n4,n1=hp.objs.size+1->n2=hp.objs.size+2->n3=hp.objs.size+3->n4=hp.objs.size+4 ->
    R (.ok (.ret (.ref n4))) ⟨((((hp.push (Fw t1 l)).push (Fw t2 m)).push { cls:=.type "tuple",data:=.seq #[.ref hp.objs.size,.ref n1]}).push { cls:=.type "tuple",data:=.seq #[.none,.none]}).push
     { cls:=.type "zip",data:=.fields #[.none,.bool false,.bool false,.ref n2,.ref n3]},g,d,tk,os⟩:=by
   rintro _ _ _ _ rfl rfl rfl rfl;obtain⟨p,i,e,k,j,f⟩:=Vc (h:=hp) (o0:=Fw t1 l) (o1:=Fw t2 m) (o2:={ cls:=.type "tuple",data:=.seq #[.ref hp.objs.size,.ref (hp.objs.size+1)]}) (o3:={ cls:=.type "tuple",data:=.seq #[.none,.none]})
    (o4:={ cls:=.type "zip",data:=.fields #[.none,.bool false,.bool false,.ref (hp.objs.size+2),.ref (hp.objs.size+3)]}) rfl rfl rfl rfl rfl rfl
   exact h _ ⟨j,e,k,rP p,rP i,λc o _ q=>f c o q⟩
  exact⟨_,O,key _ _ _ _ (by simp only[K1]) (by simp only[K1]) (by simp only[K1]) (by simp only[K1])⟩
theorem X1h{t1 t2:Bool}{m:Y1}{ys:U9}{Q:U2}(b1:Dat t1 s.heap l xs)(b2:Dat t2 s.heap m ys)
  (k:∀h',New t1 t2 s.heap h' l m->Q (.ref (s.heap.objs.size+4)) {s with heap:=h'}):wpAny (model prog w) A (call (.type "zip") [.ref l,.ref m]) Q E s :=
 callType_new F.called_zip (by decide) (F.typeCall_zip_2 _ _) (F.newCall_zip_2 _ _) (λo=>F.args_object_init_3 o _ _) F.entry_zip_new (Y6x t1 t2 l m xs ys) ⟨b1,b2,λh' n=>⟨⟨_,n.z,O⟩,k h' n⟩⟩
end
end Zp
namespace L2
section
variable {X:Cx}{pins:U1}{σ:St}{H:Hp}{s:U7}{h':Heap}
theorem Inv.turnedL{t':Nat}{ch:U3}(I:Inv X pins σ H s)(k:∀b o,b∉ch->s.heap.get? b=some o->h'.get? b=some o)(hf:∀b∈ch,Dq X pins H b):Inv X pins σ H {s with heap:=h',toks:=t'}:=by
 have d:∀b u,H b=some u->b∉ch:=λb u e z=>by rw[(hf b z).1]at e;cases e
 refine I.step (g':=s.gens) (d':=s.drawn) (ch:=ch) (λb f=>⟨(hf b f).2.2.2.1,(hf b f).2.1,(hf b f).2.2.2.2.1,(hf b f).2.2.2.2.2⟩) (λb o _ _ a e _=>k b o a e) (λb o _ _ a e _=>⟨o.slots,k b o a e⟩) (λ_ _ _ _ n=>n)
  (λb o a e=>⟨o,k b o a e⟩) (λ_ _ e=>e) (λ_ _ _ e=>e) (λb ps e=>⟨#[],by rw[e];simp⟩) (λm h=>?_) (λb u e=>?_) I.bare
 ·obtain⟨o,es,ep,g,r⟩:=h;exact⟨o,es,ep,k _ o (λz=>(hf _ z).2.1 rfl) g,r⟩
 ·refine(I.hok b u e).stay (λc v a q=>k c v ?_ q) (λ_ q=>q) λ_ _ q=>q;rcases a with z | z
  ·rw[z];exact d b u e
  ·exact d c _ z
theorem Inv.turnedT{t':Nat}{ch:U3}{T:Y1}{xs:List V}{its:U5}(I:Inv X pins σ H s)(k:∀b o,b∉ch->s.heap.get? b=some o->h'.get? b=some o)(hf:∀b∈ch,Dq X pins H b)(hT:s.heap.objs.size<=T)(hv:Vals xs its)(hz:xs.length<=sizeLine)(ht:IsTup h' T its.toArray):
  Inv X pins σ (upd H T (.tup xs)) {s with heap:=h',toks:=t'}:=by
 have g:∀b u,H b=some u->b∉ch:=λb u e z=>by rw[(hf b z).1]at e;cases e
 have i:H T=none:=I.hok.fresh hT;have h:∀b o,s.heap.get? b=some o->b≠T:=λb o e=>Cy (GR (Bk e) hT);have a:∀b u,H b=some u->b≠T:=λb u e z=>by rw[z,i]at e;cases e
 refine I.step (g':=s.gens) (d':=s.drawn) (ch:=ch) (λb d=>⟨(hf b d).2.2.2.1,(hf b d).2.1,(hf b d).2.2.2.2.1,(hf b d).2.2.2.2.2⟩) (λb o _ _ f e _=>k b o f e) (λb o _ _ f e _=>⟨o.slots,k b o f e⟩)
  (λb o _ e n=>by rw[Bq (h b o e)];exact n)
  (λb o f e=>⟨o,k b o f e⟩) (λb ys e=>by rw[Bq (a b _ e)];exact e) (λb o u e=>by rw[Bq (a b _ e)];exact e) (λb ps e=>⟨#[],by rw[Bq (a b _ e),e];simp⟩) (λm l=>?_) (λb u e=>?_) I.bare
 ·obtain⟨o,es,ep,j,r⟩:=l;exact⟨o,es,ep,k _ o (λz=>(hf _ z).2.1 rfl) j,r⟩
 ·by_cases d:b=T
  ·subst d;rw[Az]at e;cases e;exact⟨hz,its,hv,ht⟩
  ·rw[Bq d]at e;refine(I.hok b u e).stay (λc v f q=>k c v ?_ q) (λc q=>by rw[Bq (a c _ q)];exact q) λc ys q=>by rw[Bq (a c _ q)];exact q
   rcases f with z | z
   ·rw[z];exact g b u e
   ·exact g c _ z
end
def IV (t:Bool)(K:U0)(H:Hp)(a:Y1)(xs:List V):Prop:=if t then Ao K H a xs else Ax K H a xs
variable{xs:List V}
theorem Inv.sqx{X:Cx}{pins:U1}{σ:St}{H:Hp}{s:U7}{t:Bool}{a:Y1}(I:Inv X pins σ H s)(h:IV t X.K H a xs):∃its:List Value,Vals xs its/\Zp.Dat t s.heap a its.toArray/\xs.length<=sizeLine:=by
 cases t
 ·obtain⟨its,v,p,z⟩:=I.list (show Ax X.K H a xs from h);exact⟨its,v,p.isList,z⟩
 ·obtain⟨its,v,p,z⟩:=I.tuple (show Ao X.K H a xs from h);exact⟨its,v,p,z⟩
variable{ys:List V}
theorem Inv.sqx_inj{X:Cx}{pins:U1}{σ:St}{H:Hp}{s:U7}{t:Bool}{a:Y1}(I:Inv X pins σ H s)(h:IV t X.K H a xs)(h':IV t X.K H a ys):xs=ys:=by
 cases t
 ·exact I.list_inj (show Ax X.K H a xs from h) h'
 ·exact I.tuple_inj (show Ao X.K H a xs from h) h'
def Zt (t1 t2:Bool)(K:U0)(l1 l2:Y1):It :=
 ⟨λi H=>∃xs x ys y,IV t1 K H l1 xs/\xs[i]?=some x/\IV t2 K H l2 ys/\ys[i]?=some y,
 λi H v H'=>∃T x y,v=.ref T/\H T=none/\H'=upd H T (.tup [x,y])/\(∀xs,IV t1 K H l1 xs->xs[i]?=some x)/\∀ys,IV t2 K H l2 ys->ys[i]?=some y,
 λi H=>∃xs ys,IV t1 K H l1 xs/\IV t2 K H l2 ys/\(xs.length<=i\/ys.length<=i)⟩
theorem Y8v{P:U8}{w:W3}{K:U0}{es:List Expr}{kk:Nat}{tp:Pos}{t1 t2:Bool}{z TI TO i1 i2 l1 l2:Y1}(D:ZipApart z TI TO i1 i2 l1 l2):
  Turn P w K (.Tuple es kk tp) (Zt t1 t2 K l1 l2) [z,TI,TO,i1,i2] z (λi h=>IsZip h z TI TO .none/\IsPair h TI (.ref i1) (.ref i2)/\(∃a b,IsPair h TO a b)/\Zp.GZ t1 h i1 l1 i/\Zp.GZ t2 h i2 l2 i) where
 mem:=by simp
 obj:=λi h st b c=>by
  obtain⟨f,d,⟨x,y,g⟩,j,l⟩:=st;simp only[DY,Gx,Gu]at c;rcases c with rfl | rfl | rfl | rfl | rfl
  ·exact⟨_,f,λv q=>by have B:Data.fields _=Data.cell v:=q;cases B⟩
  ·exact⟨_,d,λv q=>by have B:Data.seq _ _=Data.cell v:=q;cases B⟩
  ·exact⟨_,g,λv q=>by have B:Data.seq _ _=Data.cell v:=q;cases B⟩
  ·exact j.obj
  ·exact l.obj
 keep:=λi h h' st k=>by
  obtain⟨f,d,⟨x,y,g⟩,j,l⟩:=st;exact⟨k z (by simp) _ f,k TI (by simp) _ d,⟨x,y,k TO (by simp) _ g⟩,j.at λo e=>k i1 (by simp) o e,l.at λo e=>k i2 (by simp) o e⟩
 item:=by
  intro X R S Q hc i pins s σ H E I J st N;subst R S Q;obtain⟨xs,x,ys,y,L,hx,M,hy⟩:=N;obtain⟨f,d,⟨u1,u2,g⟩,j,l⟩:=st;obtain⟨its,V,Y,hz⟩:=I.sqx L;obtain⟨its',p,m,T⟩:=I.sqx M;obtain⟨A,G,rx⟩:=V.get hx;obtain⟨u,F,ry⟩:=p.get hy;refine Zp.uN (I.ok.hd hc) D f d g (d1:=⟨j,Y⟩) (d2:=⟨l,m⟩) (λwx wy h' U W b1 b2 b5 b3 b4 bk=>?_) (λh' n _=>?_);rotate_left
  ·exfalso;rcases n with n | n
   ·rw[show its.toArray[i]?=some A by simpa using G]at n;cases n
   ·rw[show its'.toArray[i]?=some u by simpa using F]at n;cases n
  obtain rfl:A=wx:=Option.some.inj ((show its.toArray[i]?=some A by simpa using G).symm.trans U);obtain rfl:u=wy:=Option.some.inj ((show its'.toArray[i]?=some u by simpa using F).symm.trans W);refine⟨_,O,wpAny_letOwnedTupleGo_zip b1 λh2 c1 t=>?_⟩;have zT:s.heap.objs.size≠z:=Kz (Bk f);have k2:∀b o,b∉[z,TI,TO,i1,i2]->s.heap.get? b=some o->h2.get? b=some o:=λb o c e=>by
   simp only[DY,Gx,Gu,not_or]at c;exact t.extBut b o c.1 (bk b o (by simp[c]) e)
  have hT:IsTup h2 s.heap.objs.size ([A,u]:U5).toArray:=⟨_,t.extBut _ _ zT b5,O,_,O⟩;refine⟨.ref s.heap.objs.size,upd H s.heap.objs.size (.tup [x,y]),I.turnedT (t':=s.toks) k2 J (Bc _) (.cons rx (.cons ry .nil)) (by show 2<=sizeLine;decide) hT,O,⟨_,x,y,O,I.hok.fresh (Bc _),O,λa0 h1=>?_,λa6 h1=>?_⟩,⟨c1,?_,⟨A,u,?_⟩,?_,?_⟩,λb c=>?_⟩
  ·rw[I.sqx_inj h1 L];exact hx
  ·rw[I.sqx_inj h1 M];exact hy
  ·exact t.extBut _ _ D.TIz (bk _ _ (by simp[D.TIz,D.TITO,D.TIi1,D.TIi2]) d)
  ·exact t.extBut _ _ D.TOz b2
  ·exact b3.1.at λo q=>t.extBut _ _ D.i1z q
  ·exact b4.1.at λo q=>t.extBut _ _ D.i2z q
  ·have Z:b<s.heap.objs.size:=by
    simp only[DY,Gx,Gu]at c;rcases c with rfl | rfl | rfl | rfl | rfl
    ·exact Bk f
    ·exact Bk d
    ·exact Bk g
    ·obtain⟨o,e,_⟩:=j.obj;exact Bk e
    ·obtain⟨o,e,_⟩:=l.obj;exact Bk e
   rw[Bq (Cy Z)];exact(J b c).1
 done:=by
  intro X R S Q hc i pins s σ H E I J st N;subst R S Q;obtain⟨xs,ys,L,M,C⟩:=N;obtain⟨f,d,⟨u1,u2,g⟩,j,l⟩:=st;obtain⟨its,V,Y,hz⟩:=I.sqx L;obtain⟨its',p,m,T⟩:=I.sqx M;have e1:=V.length;have e2:=p.length;have r:its.toArray[i]?=none\/its'.toArray[i]?=none:=by
   rcases C with h | h
   ·left;simp;lia
   ·right;simp;lia
  refine Zp.uN (I.ok.hd hc) D f d g (d1:=⟨j,Y⟩) (d2:=⟨l,m⟩) (λwx wy h' U W b1 b2 b5 b3 b4 bk=>?_) (λh' n bk=>⟨O,I.turnedL (t':=s.toks) (λb o c e=>?_) J⟩)
  ·exfalso;rcases r with n | n
   ·rw[U]at n;cases n
   ·rw[W]at n;cases n
  ·simp only[DY,Gx,Gu,not_or]at c;exact bk b o (by simp[c]) e
 self:=λ_ _ _ _ _ st h=>wpAny_pyIter_zip st.1 h
section
variable {X:Cx}{es:List Expr}{kk:Nat}{tp:Pos}
def je (t1 t2:Bool)(K:U0)(ta:TA):TI:=λσ H R=>ta σ H λvs H1=>∃l1 l2 xs ys,vs=[.ref l1,.ref l2]/\IV t1 K H1 l1 xs/\IV t2 K H1 l2 ys/\R (Zt t1 t2 K l1 l2) H1
theorem xK(t1 t2:Bool){a b:Expr}{ta:TA}{p pos:Pos}(hg:Gl X "zip")(hm:X.mg "zip"=none)(ha:PA X [a,b] ta)(hs:autoParam (starEach [a,b] X.env=[(false,eval a X.env),(false,eval b X.env)]) PySem.W.hit_SB._auto_3)(hs2:autoParam (starEach [b] X.env=[(false,eval b X.env)]) PySem.W.hit_SB._auto_3):
  PI X (.Tuple es kk tp) (.Call (.Name "zip" p) [a,b] [] pos) (je t1 t2 X.K ta):=by
 intro pins s σ H R I h;refine Call_ (Qo I hg hm boot_zip (PyProof.Rows.callWith_type1 (Bd (ha pos pins s σ H _ I h) λus d ⟨vs,H1,i,y,C⟩=>?_) (by rw[hs,hs2]) (by rw[hs2];rfl)));obtain⟨l1,l2,xs,ys,e,h1,h2,q⟩:=C;subst e;cases y with
 | cons r rr =>
  cases rr with
  | cons r' rr =>
   cases rr;cases r;cases r';obtain⟨its,F,l,G⟩:=i.sqx h1;obtain⟨its',v,f,x⟩:=i.sqx h2;refine Zp.X1h l f λh' ⟨t,E,z,B,A,m⟩=>?_;have u:∀c o,d.heap.get? c=some o->h'.get? c=some o:=λc o q=>m c o (by simp) q;have w:Inv X pins σ H1 {d with heap:=h'}:=i.kept (t':=d.toks) u;have j:l1<d.heap.objs.size:=by
    cases t1
    ·obtain⟨o,e,_⟩:=(show d.heap.IsList l1 _ from l);exact Bk e
    ·obtain⟨o,e,_⟩:=(show d.heap.IsTuple l1 _ from l);exact Bk e
   have k:l2<d.heap.objs.size:=by
    cases t2
    ·obtain⟨o,e,_⟩:=(show d.heap.IsList l2 _ from f);exact Bk e
    ·obtain⟨o,e,_⟩:=(show d.heap.IsTuple l2 _ from f);exact Bk e
   have D:ZipApart (d.heap.objs.size+4) (d.heap.objs.size+2) (d.heap.objs.size+3) d.heap.objs.size (d.heap.objs.size+1) l1 l2:=zipApart_new j k;refine wpAny_pyIter_zip t ⟨_,_,_,_,H1,O,w,Y8v D,⟨t,E,⟨_,_,z⟩,B,A⟩,λb n=>?_,q⟩;have g:d.heap.objs.size<=b:=by
    simp only[DY,Gx,Gu]at n;rcases n with rfl | rfl | rfl | rfl | rfl
    ·exact X4 _ _
    ·exact X4 _ _
    ·exact X4 _ _
    ·exact Bc _
    ·exact X4 _ _
   exact i.fpOk g (i.hok.fresh g)
end
theorem X8y{t1 t2:Bool}{K:U0}{l1 l2:Y1}{g:TG}{te:TE}{fr:St}{H1:Hp}{acc:Y1}{Q:VK}(Pv:Nat->List V->Hp->Prop)(hxy:xs.length=ys.length)(hn:xs.length<=sizeLine)(h0:Pv 0 [] (upd H1 acc (.lst [])))
  (hg:∀{a:Y1}{x y v1 v2:V}{w1 w2:Option V}{H:Hp}{Q:St->Hp->Prop},H a=some (.tup [x,y])->Q (some x::some y::fr) H->g (.ref a) (w1::w2::fr) H Q)
  (hl:∀i zs H,Pv i zs H->IV t1 K H l1 xs/\IV t2 K H l2 ys)
  (hs:∀i x y zs H T (N:V->Hp->Prop),xs[i]?=some x->ys[i]?=some y->zs.length=i->Pv i zs H->H T=none->(∀z c,c acc=some (.lst zs)->Pv (i+1) (zs++[z]) (upd c acc (.lst (zs++[z])))->N z c)->te (some x::some y::fr) (upd H T (.tup [x,y])) N)
  (hd:∀zs H,zs.length=xs.length->Pv xs.length zs H->Q (.ref acc) H):Jx (Zt t1 t2 K l1 l2) g te (none::none::fr) H1 acc Q:=by
 refine⟨λi m zs h H2=>m=xs.length-i/\i<=xs.length/\zs.length=i/\(∃v w,h=v::w::fr)/\Pv i zs H2,⟨xs.length,by simp,Ef _,O,⟨_,_,O⟩,h0⟩,?_⟩;rintro i m zs h H2 ⟨rfl,hi,b,⟨v,w,rfl⟩,p⟩;obtain⟨d,f⟩:=hl i zs H2 p;by_cases hlt:i<xs.length
 ·have e1:xs[i]?=some xs[i]:=by simp[hlt]
  have e2:ys[i]?=some (ys[i]'(by lia)):=by simp[show i<ys.length by lia]
  refine .inr ⟨⟨xs,_,ys,_,d,e1,f,e2⟩,λu r l=>?_⟩;obtain⟨T,x,y,rfl,j,rfl,h1,h2⟩:=l;have n:=h1 xs d;have o:=h2 ys f;refine hg (v1:=x) (v2:=y) (Az) ?_;refine hs i x y zs H2 T _ n o b p j λz c k q=>⟨k,by lia,xs.length-(i+1),by lia,O,hlt,by rw[Gh,b];rfl,⟨_,_,O⟩,q⟩
 ·have e:i=xs.length:=by lia
  subst e;exact .inl ⟨⟨xs,ys,d,f,.inl (Bc _)⟩,hd zs H2 b p⟩
end L2
namespace Bt
theorem mR(x y:Nat):(x&&&y)=2*((x / 2)&&&(y / 2))+(x%2)*(y%2):=by
 have h1:(x&&&y) / 2=(x / 2)&&&(y / 2):=Nat.and_div_two;have h2:(x&&&y)%2=1↔x%2=1/\y%2=1:=Nat.and_mod_two_eq_one;rcases Jp x with a | a<;>rcases Jp y with b | b<;>rw[a,b]at h2 ⊢<;>lia
theorem X8s(x y:Nat):(x ||| y)=2*((x / 2) ||| (y / 2))+(x%2+y%2-(x%2)*(y%2)):=by
 have h1:(x ||| y) / 2=(x / 2) ||| (y / 2):=Nat.or_div_two
 have h2:(x ||| y)%2=1↔x%2=1\/y%2=1:=Nat.or_mod_two_eq_one;rcases Jp x with a | a<;>rcases Jp y with b | b<;>rw[a,b]at h2 ⊢<;>lia
def Half (x y:Int):Prop:=Builtin.bitAnd x y=2*Builtin.bitAnd (x / 2) (y / 2)+(x%2)*(y%2)
variable{x y:Int}
theorem Half.swap(h:Half x y):Half y x:=by
 unfold Half at h ⊢;rw[bitAnd_comm y x,bitAnd_comm (y / 2),Uz (y%2)];exact h
theorem Half.flip{x y:Int}(h:Half x (Builtin.bitNot y)):Half x y:=by
 unfold Half at h ⊢;have e:=bitAnd_not x (Builtin.bitNot y);have e2:=bitAnd_not (x / 2) (Builtin.bitNot (y / 2));rw[Xw]at e e2;have q:Builtin.bitNot (y / 2)=Builtin.bitNot y / 2:=by unfold Builtin.bitNot;lia
 have p:x%2*(y%2)=x%2-x%2*(Builtin.bitNot y%2):=by
  rw[show y%2=1-Builtin.bitNot y%2 by unfold Builtin.bitNot;lia,Int.mul_sub,Int.mul_one]
 rw[e,e2,q,h,p];lia
theorem Half.pos(hx:0<=x)(hy:0<=y):Half x y:=by
 have h:∀{z:Int},0<=z->z.toNat / 2=(z / 2).toNat/\((z.toNat%2:Nat):Int)=z%2:=λh=>by lia
 unfold Half;rw[bitAnd_pp hx hy,bitAnd_pp (Int.ediv_nonneg hx (by decide)) (Int.ediv_nonneg hy (by decide)),mR,(h hx).1,(h hy).1,<-(h hx).2,<-(h hy).2,Int.natCast_add,Int.natCast_mul,Int.natCast_mul];rfl
theorem Half.right(hx:0<=x)(y:Int):Half x y :=
 (Classical.em (0<=y)).elim (Half.pos hx) λa=>(Half.pos hx (bitNot_nonneg.mpr a)).flip
theorem jr(x y:Int):Builtin.bitAnd x y=2*Builtin.bitAnd (x / 2) (y / 2)+(x%2)*(y%2):=
 (Classical.em (0<=x)).elim (λa=>Half.right a y) λa=>(Half.right (bitNot_nonneg.mpr a) y).swap.flip.swap
theorem X4l(x y:Int):Builtin.bitOr x y=2*Builtin.bitOr (x / 2) (y / 2)+(x%2+y%2-(x%2)*(y%2)):=by
 rw[bitOr_and,bitOr_and,jr];lia
theorem lO{v:Nat}:(2:Int)^(v+1) ∣ x↔x%2=0/\(2:Int)^v ∣ x / 2:=by
 constructor
 ·rintro ⟨k,rfl⟩;have e:(2:Int)^(v+1)*k=2*(2^v*k):=by rw[RN];grind
  rw[e];exact⟨by lia,⟨k,by lia⟩⟩
 ·rintro ⟨b,k,a⟩;refine⟨k,?_⟩;have e:(2:Int)^(v+1)*k=2*(2^v*k):=by rw[RN];grind
  rw[e,<-a];lia
theorem R_:∀(v:Nat) (x y:Int),(2:Int)^v ∣ Builtin.bitOr x y↔(2:Int)^v ∣ x/\(2:Int)^v ∣ y
 | 0,x,y=>by simp
 | v+1,x,y=>by
  rw[lO,lO,lO];have e:=X4l x y;have d:=R_ v (x / 2) (y / 2);have ex:=jW x;have f:=jW y;rcases ex with a | a<;>rcases f with b | b<;>rw[a,b]at e ⊢
  ·have e2:Builtin.bitOr x y / 2=Builtin.bitOr (x / 2) (y / 2):=by lia
   rw[e2,d];have c:Builtin.bitOr x y%2=0:=by lia
   simp[c]
  all_goals
   have c:Builtin.bitOr x y%2=1:=by lia
   simp[c]
theorem Y4j(n:Nat):n<2^n:=Nat.lt_two_pow_self
theorem qp(h:∀v:Nat,(2:Int)^v ∣ x):x=0:=by
 have h1:=h x.natAbs;apply Classical.byContradiction;intro b;have h2:=YL.mpr h1;have a:=Nat.le_of_dvd (by lia) h2;rw[jT]at a;have:=Y4j x.natAbs;have e:(2:Int).natAbs=2:=rfl;rw[e]at a;lia
theorem mW:Builtin.bitOr x y=0↔x=0/\y=0:=by
 constructor
 ·intro h;have hd:∀v:Nat,(2:Int)^v ∣ Builtin.bitOr x y:=λv=>by rw[h];exact Int.dvd_zero _
  exact⟨qp λv=>((R_ v x y).mp (hd v)).1,qp λv=>((R_ v x y).mp (hd v)).2⟩
 ·rintro ⟨rfl,rfl⟩;decide +kernel
theorem rT:∀(n:Nat) (p:Int),p.natAbs<n->p≠0->∃(v:Nat) (q:Int),p=2^v*q/\q%2=1/\Builtin.bitAnd p (-p)=((2^v:Nat):Int)
 | 0,p,h,_=>by lia
 | n+1,p,h,hp=>by
  rcases jW p with h0 | h1
  ·obtain⟨v,q,e,o,b⟩:=rT n (p / 2) (by lia) (by lia);refine⟨v+1,q,?_,o,?_⟩
   ·have e2:(2:Int)^(v+1)*q=2*(2^v*q):=by rw[RN];grind
    rw[e2,<-e];lia
   ·rw[jr,show (-p) / 2=-(p / 2) by lia,b,h0,jP];lia
  ·refine⟨0,p,by simp,h1,?_⟩;rw[jr,show (-p) / 2=Builtin.bitNot (p / 2) by unfold Builtin.bitNot;lia,bitAnd_not,bitAnd_self,h1,show (-p)%2=1 by lia];rw[Int.sub_self];rfl
theorem jt(v:Nat):Builtin.Int.intBits ((2^v:Nat):Int)=v+1:=by
 unfold Builtin.Int.intBits;have hp:0<2^v:=Lz v;have a:((((2^v:Nat):Int)) == 0)=false:=by
  rw[beq_eq_false_iff_ne];lia
 rw[a,QT,Nat.log2_two_pow];rfl
end Bt
namespace L2
section
variable {X:Cx}
def Xl (i j:Int):Prop:=∃a,Sz a i/\0<=j/\(a:Int)+j<=1048576
theorem Hy:Ed X (binaryOp .LShift) (rI Xl λi j=>.int (i*2^j.toNat)):=Qa λi j _ _ _ _ _ b q=>by
 obtain⟨a,h1,h2,c⟩:=b;have:=h1.bits;exact lshift_int h2 (by lia) q
theorem lE:nj X "int.bit_length" (λx xs H Q=>∃i,x=.int i/\xs=[]/\Q (.int (Builtin.Int.intBits i:Nat)) H):=by
 intro pins s σ H x xs v us Q I b a h;obtain⟨i,rfl,rfl,q⟩:=h;obtain⟨t,rfl⟩:=b;cases a;refine call_gives Yb (Yh s i t) PySem.F.entry_int_bit_length (PySem.F.args_int_bit_length_1 _) (PySem.AutoIntG2.int_bit_length_int_0 i t) ?_;exact⟨.int (Builtin.Int.intBits i:Nat),H,I.tok _,⟨_,O⟩,q⟩
theorem Y8i(hc:X.calm=true):CJ X (.builtin "any") (λxs H Q=>∃(p:Y1) (bs:List Bool),xs=[.ref p]/\Ax X.K H p (bs.map V.bl)/\Q (.bl (bs.any id)) H):=by
 intro pins s σ H xs us Q I r h;obtain⟨p,bs,rfl,y,q⟩:=h;obtain⟨u,rfl,g⟩:=r.one;cases g;obtain⟨its,l,j,B⟩:=I.list y;have a:its.length=bs.length:=by rw[<-l.length,Bj]
 refine call_any_walk (X8 j.isList ?_)
 have W:=Walks.list (prog:=X.prog) (w:=X.w) (A:=X.A.in1) (show X.A.in1.handled=none from I.ok.hd hc) s.heap.objs.size p (by
  obtain⟨o,e,_⟩:=j.isList
  exact Cy (Bk e)) its.toArray
 refine⟨s.heap.objs.size,_,_,_,_,_,λi=>bs.getD i false,O,W,⟨⟨_,Ew _ rfl,O,O⟩,j.isList.push _⟩,?_,λh' tk t=>?_⟩
 ·intro i v s' C D x z;have d:its[i]?=some v:=by simpa using x
  have hi:i<bs.length:=by rw[<-a];exact(G4.mp d).1
  have c:(bs.map V.bl)[i]?=some (.bl (bs.getD i false)):=by
   rw[FN,Di hi,G5,Di hi];rfl
  obtain⟨u,m,g⟩:=l.get c;rw[d]at m;cases m;cases g;exact M7 z
 ·have e:(List.range its.toArray.size).any (λi=>bs.getD i false)=bs.any id:=by
   rw[Du,a];rw[RZ,aW,aW];constructor
   ·rintro ⟨i,hi,c⟩;have f:i<bs.length:=Gg.mp hi;rw[G5,Di f]at c;exact⟨bs[i],Rg f,c⟩
   ·rintro ⟨b,c,k⟩;obtain⟨i,hi,rfl⟩:=List.mem_iff_getElem.mp c;refine⟨i,Gg.mpr hi,?_⟩;rw[G5,Di hi];exact k
  rw[e];refine⟨.bl (bs.any id),H,?_,O,q⟩;exact I.kept (t':=tk) λb o n=>t b o (by simp;exact Cy (Bk n)) (Ca _ n)
end
end L2
namespace Am
noncomputable abbrev p2 (h:Int):Int:=2^h.toNat
theorem X8c(h:Int):0<p2 h:=Yj (by decide)
theorem MN(h:Int):p2 h≠0:=by have:=X8c h;lia
variable{a b:Int}
theorem LQ(ha:0<=a)(hb:0<=b):p2 (a+b)=p2 a*p2 b:=by
 unfold p2;rw[show (a+b).toNat=a.toNat+b.toNat by lia,Yi]
theorem Qp(hb:0<=b)(h:b<=a):p2 a=p2 (a-b)*p2 b:=by
 rw[<-LQ (by lia) hb];congr 1;lia
structure Ls (a b c d h:Int):Prop where
 nn:0<=h
 odd:h=0\/a%2=1\/b%2=1\/c%2=1\/d%2=1
def FZ (x h y g:Int):Prop:=x*p2 g=y*p2 h
structure Cu (a b c d h a' b' c' d' h':Int):Prop where
 e1:FZ a h a' h'
 e2:FZ b h b' h'
 e3:FZ c h c' h'
 e4:FZ d h d' h'
variable{x:Int}
theorem FZ.trans{h y g z k:Int}(a:FZ x h y g)(b:FZ y g z k):FZ x h z k:=by
 unfold FZ at *;have h1:(x*p2 k)*p2 g=(z*p2 h)*p2 g:=by
  have e1:(x*p2 k)*p2 g=(x*p2 g)*p2 k:=by grind
  have e2:(z*p2 h)*p2 g=(z*p2 g)*p2 h:=by grind
  rw[e1,e2,a,<-b];grind
 exact M_ (MN g) h1
variable{c d:Int}
theorem Cu.trans{h a' b' c' d' h' a2 b2 c2 d2 h2:Int}(s:Cu a b c d h a' b' c' d' h')(t:Cu a' b' c' d' h' a2 b2 c2 d2 h2):Cu a b c d h a2 b2 c2 d2 h2 :=
 ⟨s.e1.trans t.e1,s.e2.trans t.e2,s.e3.trans t.e3,s.e4.trans t.e4⟩
noncomputable abbrev Fd (a b c d:Int):Int:=Builtin.bitOr (Builtin.bitOr (Builtin.bitOr a b) c) d
variable{v:Nat}
theorem Gi:(2:Int)^v ∣ Fd a b c d↔((2:Int)^v ∣ a/\(2:Int)^v ∣ b/\(2:Int)^v ∣ c/\(2:Int)^v ∣ d):=by
 unfold Fd;rw[Bt.R_,Bt.R_,Bt.R_];constructor
 ·rintro ⟨⟨⟨h1,h2⟩,e⟩,f⟩;exact⟨h1,h2,e,f⟩
 ·rintro ⟨h1,h2,e,f⟩;exact⟨⟨⟨h1,h2⟩,e⟩,f⟩
theorem Iu:Fd a b c d=0↔(a=0/\b=0/\c=0/\d=0):=by
 unfold Fd;rw[Bt.mW,Bt.mW,Bt.mW];constructor
 ·rintro ⟨⟨⟨h1,h2⟩,e⟩,f⟩;exact⟨h1,h2,e,f⟩
 ·rintro ⟨h1,h2,e,f⟩;exact⟨⟨⟨h1,h2⟩,e⟩,f⟩
theorem lowest(hp:Fd a b c d≠0):∃v:Nat,((Builtin.Int.intBits (Builtin.bitAnd (Fd a b c d) (-(Fd a b c d))):Nat):Int)-1=v/\((2:Int)^v ∣ a/\(2:Int)^v ∣ b/\(2:Int)^v ∣ c/\(2:Int)^v ∣ d) /\
  ¬ ((2:Int)^(v+1) ∣ a/\(2:Int)^(v+1) ∣ b/\(2:Int)^(v+1) ∣ c/\(2:Int)^(v+1) ∣ d):=by
 obtain⟨v,q,e,o,g⟩:=Bt.rT _ (Fd a b c d) (X5 _) hp;refine⟨v,by rw[g,Bt.jt];lia,Gi.mp ⟨q,e⟩,λh=>?_⟩;have h':=Gi.mpr h;obtain⟨k,f⟩:=h';rw[e,RN,QF]at f;have:=K3 (Og (Yj (by decide):(0:Int)<2^v)) f;lia
theorem Yz{h m:Int}(hm:0<=m)(hmh:m<=h)(hd:(2:Int)^m.toNat ∣ x):FZ x h (x / 2^m.toNat) (h-m)/\(x / 2^m.toNat).natAbs<=x.natAbs:=by
 obtain⟨k,rfl⟩:=hd;have a:(2:Int)^m.toNat≠0:=MN m;rw[pF _ a];constructor
 ·unfold FZ;rw[Qp hm hmh];show 2^m.toNat*k*p2 (h-m)=k*(p2 (h-m)*2^m.toNat);grind
 ·rw[RV];exact bW _ (by lia)
theorem ZW{m:Nat}(h:m<=v)(hd:(2:Int)^v ∣ x):(2:Int)^m ∣ x:=by
 obtain⟨k,rfl⟩:=hd;refine⟨2^(v-m)*k,?_⟩;rw[<-QF,<-Yi,show m+(v-m)=v by lia]
theorem V_{h:Int}(hh:0<=h)(hd:(2:Int)^v ∣ a/\(2:Int)^v ∣ b/\(2:Int)^v ∣ c/\(2:Int)^v ∣ d)
  (hn:¬ ((2:Int)^(v+1) ∣ a/\(2:Int)^(v+1) ∣ b/\(2:Int)^(v+1) ∣ c/\(2:Int)^(v+1) ∣ d)) {m:Int} (hm:m=if h<v then h else v):
  0<=m/\m<=h/\Ls (a / 2^m.toNat) (b / 2^m.toNat) (c / 2^m.toNat) (d / 2^m.toNat) (h-m)/\Cu a b c d h (a / 2^m.toNat) (b / 2^m.toNat) (c / 2^m.toNat) (d / 2^m.toNat) (h-m) /\
  ((a / 2^m.toNat).natAbs<=a.natAbs/\(b / 2^m.toNat).natAbs<=b.natAbs/\(c / 2^m.toNat).natAbs<=c.natAbs/\(d / 2^m.toNat).natAbs<=d.natAbs):=by
 have f:0<=m:=by rw[hm];split<;>lia
 have g:m<=h:=by rw[hm];split<;>lia
 have i:m.toNat<=v:=by rw[hm];split<;>lia
 obtain⟨d1,d2,s,p⟩:=hd;have r:=Yz f g (ZW i d1);have n:=Yz f g (ZW i d2);have t:=Yz f g (ZW i s);have q:=Yz f g (ZW i p);refine⟨f,g,⟨by lia,?_⟩,⟨r.1,n.1,t.1,q.1⟩,r.2,n.2,t.2,q.2⟩;by_cases hlt:h<v
 ·left;rw[hm,if_pos hlt];lia
 ·right;have l:m.toNat=v:=by rw[hm,if_neg hlt];lia
  rw[l];have tail:∀x:Int,(2:Int)^v ∣ x->¬ (x / 2^v)%2=1->(2:Int)^(v+1) ∣ x:=by
   rintro x ⟨k,rfl⟩ u;have j:(2:Int)^v≠0:=Og (Yj (by decide));rw[pF _ j]at u;refine⟨k / 2,?_⟩;rw[RN,QF];congr 1;lia
  apply Classical.byContradiction;intro e;apply hn;refine⟨tail a d1 λo=>e (.inl o),tail b d2 λo=>e (.inr (.inl o)),tail c s λo=>e (.inr (.inr (.inl o))),tail d p λo=>e (.inr (.inr (.inr o)))⟩
end Am
namespace Pc
noncomputable def pc (n:Nat):Nat:=if h:n=0 then 0 else n%2+pc (n / 2)
theorem nG(n:Nat):pc n=if n=0 then 0 else n%2+pc (n / 2):=by
 delta pc;rw[WellFounded.Nat.fix_eq];rfl
theorem Wa:pc 0=0:=by rw[nG];rfl
theorem SQ(n:Nat):pc n=n%2+pc (n / 2):=by
 by_cases h:n=0
 ·subst h;rw[show (0 / 2:Nat)=0 from rfl,Wa]
 ·rw[nG n,if_neg h]
theorem rY(x y:Nat):(x^^^y)=2*((x / 2)^^^(y / 2))+(x%2+y%2)%2:=by
 have h1:(x^^^y) / 2=(x / 2)^^^(y / 2):=Nat.xor_div_two;have h2:(x^^^y)%2=(x%2+y%2)%2:=by
  have:=Nat.xor_mod_two_eq_one (a:=x) (b:=y);rcases Jp x with a | a<;>rcases Jp y with b | b<;>rcases Jp (x^^^y) with c | c<;>simp[a,b,c]at this ⊢
 lia
theorem sE:∀(m n:Nat),n<m->n≠0->pc (n&&&(n-1))+1=pc n
 | 0,n,h,_=>by lia
 | m+1,n,h,hn=>by
  have e:=Bt.mR n (n-1);rw[SQ n,SQ (n&&&(n-1))];rcases Jp n with a | a
  ·have e1:(n-1) / 2=n / 2-1:=by lia
   rw[e1,a,Nat.zero_mul]at e;have e2:(n&&&(n-1)) / 2=n / 2&&&(n / 2-1):=by lia
   have b:(n&&&(n-1))%2=0:=by lia
   rw[e2,b,a];have:=sE m (n / 2) (by lia) (by lia);lia
  ·have e1:(n-1) / 2=n / 2:=by lia
   have c:(n-1)%2=0:=by lia
   rw[e1,c,Nat.mul_zero,Nat.and_self]at e;have e2:(n&&&(n-1)) / 2=n / 2:=by lia
   have b:(n&&&(n-1))%2=0:=by lia
   rw[e2,b,a];lia
theorem xH:∀(m x y:Nat),x<m->y<m->pc (x^^^y)%2=(pc x+pc y)%2
 | 0,x,y,h,_=>by lia
 | m+1,x,y,hx,hy=>by
  by_cases z:x=0/\y=0
  ·obtain⟨rfl,rfl⟩:=z;rw[show (0^^^0:Nat)=0 from rfl,Wa]
  ·have e:=rY x y;rw[SQ (x^^^y),SQ x,SQ y,show (x^^^y) / 2=x / 2^^^y / 2 by lia];by_cases q:x / 2<m/\y / 2<m
   ·have:=xH m (x / 2) (y / 2) q.1 q.2;lia
   ·exfalso;lia
theorem yW(x y:Nat):pc (x^^^y)%2=(pc x+pc y)%2:=xH (x+y+1) x y (by lia) (by lia)
theorem nC:∀(m x y:Nat),x<m->y<m->(x ||| y)=(x^^^y)+(x&&&y)
 | 0,x,y,h,_=>by lia
 | m+1,x,y,hx,hy=>by
  by_cases z:x=0/\y=0
  ·obtain⟨rfl,rfl⟩:=z;rfl
  ·have e:=rY x y;have e1:=Bt.mR x y;have e2:=Bt.X8s x y;by_cases q:x / 2<m/\y / 2<m
   ·have:=nC m (x / 2) (y / 2) q.1 q.2;rcases Jp x with a | a<;>rcases Jp y with b | b<;>rw[a,b]at e e1 e2<;>lia
   ·exfalso;lia
theorem KR(x y:Nat):Builtin.bitAnd (x:Int) (y:Int)=((x&&&y:Nat):Int):=by rw[bitAnd_pp (by lia) (by lia)];simp
theorem RB(x y:Nat):Builtin.bitXor (x:Int) (y:Int)=((x^^^y:Nat):Int):=by
 have h:Builtin.bitXor (x:Int) (y:Int)=Builtin.bitOr x y-Builtin.bitAnd x y:=rfl;have h2:Builtin.bitOr (x:Int) (y:Int)=((x ||| y:Nat):Int):=by
  unfold Builtin.bitOr;rw[bitAnd_nn (by unfold Builtin.bitNot;lia) (by unfold Builtin.bitNot;lia),Xw,Xw,Xw];simp
 rw[h,h2,KR,nC (x+y+1) x y (by lia) (by lia)];lia
end Pc
namespace L2
theorem Same.tup{K:U0}{H H':Hp}{a:Y1}{xs:List V}(e:Same H H')(h:Ao K H a xs):Ao K H' a xs:=by
 rcases h with h | h
 ·rcases h with h | ⟨o,h⟩
  ·exact .inl (.inl (e _ _ h))
  ·exact .inl (.inr ⟨o,e _ _ h⟩)
 ·exact .inr h
variable{H H':Hp}{a:Y1}
theorem Same.sqx{t:Bool}{K:U0}{xs:List V}(e:Same H H')(h:IV t K H a xs):IV t K H' a xs:=by
 cases t
 ·exact e.seq (show Ax K H a xs from h)
 ·exact e.tup (show Ao K H a xs from h)
section
variable {X:Cx}{scope:Scope}{Nc:W0}{ex:U3}{pins:U1}{s:U7}{H:Hp}
theorem jw:Xg (Bl X scope Nc ex pins s H) (Ux X.K):=Dl
theorem mK:Xg (Bl X scope Nc ex pins s H) (Uw X.K):=Aq
theorem Wk{x y:Str}{k:Nat}{p1 p2 pos:Pos}(hc:(Bl X scope Nc ex pins s H).calm=true)(hN:Nc.Nodup)(h0:Nc[0]?=some x)(h1:Nc[1]?=some y)(l0:(Bl X scope Nc ex pins s H).env.scope.names.lookup x=some .local)(l1:(Bl X scope Nc ex pins s H).env.scope.names.lookup y=some .local):
  PG (Bl X scope Nc ex pins s H) (.Tuple [.Name x p1,.Name y p2] k pos) (WD X.K 2 (K8 (CK 0) (K8 (CK 1) WK))):=
 Ka (X:=Bl X scope Nc ex pins s H) hc (Dz (CN (i:=0) hN h0 (.inl l0) (.inr l0)) (Dz (CN (i:=1) hN h1 (.inl l1) (.inr l1)) Kc))
end
theorem rR{t1 t2:Bool}{K:U0}{l1 l2:Y1}{g:TG}{ns ms:U6}{te:TE}{fr:St}{H1:Hp}{acc:Y1}{Q:VK}(f:Int->Int->Int)(hxy:ns.length=ms.length)(hn:ns.length<=sizeLine)
  (h1:IV t1 K H1 l1 (ns.map V.int)) (h2:IV t2 K H1 l2 (ms.map V.int)) (hacc:H1 acc=none)
  (hg:∀{a:Y1}{x y:V}{w1 w2:Option V}{H:Hp}{Q:St->Hp->Prop},H a=some (.tup [x,y])->Q (some x::some y::fr) H->g (.ref a) (w1::w2::fr) H Q)
  (hs:∀n m H (N:V->Hp->Prop),n∈ns->m∈ms->N (.int (f n m)) H->te (some (.int n)::some (.int m)::fr) H N)
  (hd:∀H2,Same H1 H2->H2 acc=some (.lst ((List.zipWith f ns ms).map V.int))->Q (.ref acc) H2):Jx (Zt t1 t2 K l1 l2) g te (none::none::fr) H1 acc Q:=by
 refine X8y (xs:=ns.map V.int) (ys:=ms.map V.int) (λi zs H'=>Same H1 H'/\H' acc=some (.lst zs)/\zs=((List.zipWith f ns ms).take i).map V.int) (by simp[hxy]) (by simp;exact hn)
  ⟨BW hacc _,Az,O⟩ (λt s=>hg t s) (λi zs H p=>⟨p.1.sqx h1,p.1.sqx h2⟩) ?_ ?_
 ·rintro i x y zs H T N l o r ⟨j,d,e2⟩ h q;rw[FN]at l o;obtain⟨n,b,rfl⟩:=G3.mp l;obtain⟨m,c,rfl⟩:=G3.mp o;refine hs n m _ _ (Jo b) (Jo c) ?_;have k:acc≠T:=λe=>by rw[<-e,d]at h;cases h
  refine q _ _ (by rw[Bq k];exact d) ⟨Gn (j.trans (BW h _)) hacc,Az,?_⟩;have:(List.zipWith f ns ms)[i]?=some (f n m):=by rw[List.getElem?_zipWith,b,c]
  rw[JT,this,Dt,e2];rfl
 ·rintro zs H r ⟨j,d,e2⟩;refine hd H j ?_;rw[d,e2,Rv];simp only[List.length_zipWith,Bj];lia
section
variable {K:U0}{a:Y1}{ns:U6}{te:TE}{fr:St}{H1:Hp}{acc:Y1}{Q:VK}
theorem mL{J:It}{n:Nat}{val:Nat->V}(f:Nat->V)(hn:n<=sizeLine)(hacc:H1 acc=none)
  (hgo:∀i H,i<n->Same H1 H->J.go i H/\∀x H',J.yld i H x H'->H'=H/\x=val i) (hst:∀H,Same H1 H->J.stop n H)
  (hs:∀i H (N:V->Hp->Prop),i<n->Same H1 H->N (f i) H->te (some (val i)::fr) H N)
  (hd:∀H2,Same H1 H2->H2 acc=some (.lst ((List.range n).map f))->Q (.ref acc) H2):Jx J (CK 0) te (none::fr) H1 acc Q:=by
 refine m_ (val:=val) (λi ys H'=>Same H1 H'/\H' acc=some (.lst ys)/\ys=(List.range i).map f) hn ⟨BW hacc _,Az,O⟩ (λi ys H hi p=>hgo i H hi p.1) (λys H p=>hst H p.1) ?_ ?_
 ·rintro i ys H N hi d ⟨a,b,e2⟩ c;refine hs i H N hi a (c _ _ b ⟨Gn a hacc,Az,?_⟩);rw[e2,aR,Dt];rfl
 ·rintro ys H d ⟨a,b,e2⟩;exact hd H a (by rw[b,e2])
theorem lH(ns:U6)(f:Int->V):(List.range ns.length).map (λi=>f (ns.getD i 0))=ns.map f:=by
 apply X3
 ·simp
 ·intro i h1 h2;simp at h1;simp[h1]
theorem uJ(f:Int->V)(hl:Ax K H1 a (ns.map V.int))(hn:ns.length<=sizeLine)(hacc:H1 acc=none)(hs:∀n H (N:V->Hp->Prop),Same H1 H->N (f n) H->te (some (.int n)::fr) H N)
  (hd:∀H2,Same H1 H2->H2 acc=some (.lst (ns.map f))->Q (.ref acc) H2):Jx (Lh K a) (CK 0) te (none::fr) H1 acc Q:=by
 refine mL (n:=ns.length) (val:=λi=>.int (ns.getD i 0)) (λi=>f (ns.getD i 0)) hn hacc (λi H hi s=>?_) (λH s=>⟨_,s.seq hl,by simp⟩) (λi H N hi s b=>hs _ H N s b) (λH2 s h=>hd H2 s (by rw[h,lH]));have e:(ns.map V.int)[i]?=some (.int (ns.getD i 0)):=by simp[hi]
 refine⟨⟨_,_,s.seq hl,e⟩,λx H' y=>⟨y.1,?_⟩⟩;have:=y.2 _ (s.seq hl);rw[e]at this;exact(Option.some.inj this).symm
theorem X5q(f:Int->V)(hl:Ao K H1 a (ns.map V.int))(hn:ns.length<=sizeLine)(hacc:H1 acc=none)(hs:∀n H (N:V->Hp->Prop),Same H1 H->N (f n) H->te (some (.int n)::fr) H N)
  (hd:∀H2,Same H1 H2->H2 acc=some (.lst (ns.map f))->Q (.ref acc) H2):Jx (RL K a) (CK 0) te (none::fr) H1 acc Q:=by
 refine mL (n:=ns.length) (val:=λi=>.int (ns.getD i 0)) (λi=>f (ns.getD i 0)) hn hacc (λi H hi s=>?_) (λH s=>⟨_,s.tup hl,by simp⟩) (λi H N hi s b=>hs _ H N s b) (λH2 s h=>hd H2 s (by rw[h,lH]));have e:(ns.map V.int)[i]?=some (.int (ns.getD i 0)):=by simp[hi]
 refine⟨⟨_,_,s.tup hl,e⟩,λx H' y=>⟨y.1,?_⟩⟩;have:=y.2 _ (s.tup hl);rw[e]at this;exact(Option.some.inj this).symm
end
section
variable {X:Cx}
end
section
variable {κ:Type} [DecidableEq κ]
noncomputable def B_ (kvs:List (κ×V))(k:κ):Option V:=(kvs.find? λkv=>decide (kv.1=k)).map (·.2)
noncomputable def putK (kvs:List (κ×V))(k:κ)(v:V):List (κ×V):=
 if (kvs.any λkv=>decide (kv.1=k))=true then kvs.map (λkv=>if kv.1=k then (kv.1,v) else kv) else kvs++[(k,v)]
variable{k:κ}
theorem W0r:B_ ([]:List (κ×V)) k=none:=rfl
variable{p:κ×V}{r:List (κ×V)}
theorem Lf(e:p.1=k):B_ (p::r) k=some p.2:=by simp[B_,Rb,e]
theorem Le(e:¬ p.1=k):B_ (p::r) k=B_ r k:=by simp[B_,Rb,e]
theorem Sx(k:κ):∀kvs:List (κ×V),(kvs.any λa=>decide (a.1=k))=(B_ kvs k).isSome
 | []=>rfl
 | p::r=>by
  rw[RQ];by_cases e:p.1=k
  ·simp only[Lf e,Cj e,Bool.true_or,Option.isSome_some]
  ·rw[Le e,Cd e,QD];exact Sx k r
theorem um(k j:κ)(y:V):∀kvs:List (κ×V),B_ (kvs.map λa=>if a.1=k then (a.1,y) else a) j=(B_ kvs j).map λx=>if j=k then y else x
 | []=>rfl
 | p::r=>by
  have b:=um k j y r;rw[GP];by_cases h:p.1=k
  ·rw[if_pos h];by_cases e:p.1=j
   ·rw[Lf (p:=(p.1,y)) e,Lf e,Rf,if_pos (e.symm.trans h)]
   ·rw[Le (p:=(p.1,y)) e,Le e,b]
  ·rw[if_neg h];by_cases e:p.1=j
   ·rw[Lf (p:=p) e,Lf e,Rf,if_neg (λz=>h (e.trans z))]
   ·rw[Le (p:=p) e,Le e,b]
theorem qP(k j:κ)(y:V):∀kvs:List (κ×V),B_ kvs k=none->B_ (kvs++[(k,y)]) j=if j=k then some y else B_ kvs j
 | [],_=>by
  by_cases e:k=j
  ·rw[if_pos e.symm];exact Lf (p:=(k,y)) e
  ·rw[if_neg (λz=>e z.symm)];exact Le (p:=(k,y)) e
 | p::r,hn=>by
  rw[List.cons_append];have a:¬ p.1=k:=λz=>by rw[Lf z]at hn;cases hn
  rw[Le a]at hn;have b:=qP k j y r hn;by_cases e:p.1=j
  ·rw[Lf e,Lf e,if_neg (λz=>a (e.trans z))]
  ·rw[Le e,Le e,b]
theorem Y8t(kvs:List (κ×V))(k j:κ)(y:V):B_ (putK kvs k y) j=if j=k then some y else B_ kvs j:=by
 unfold putK;by_cases a:(kvs.any λc=>decide (c.1=k))=true
 ·rw[if_pos a,um];rw[Sx]at a;by_cases e:j=k
  ·obtain⟨x,b⟩:=pG.mp a;rw[if_pos e,e,b,Rf,if_pos rfl]
  ·rw[if_neg e];cases B_ kvs j with
   | none=>rfl
   | some x=>rw[Rf,if_neg e]
 ·rw[if_neg a];refine qP k j y kvs ?_;rw[Sx]at a;cases q:B_ kvs k with
  | none=>rfl
  | some x=>rw[q]at a;exact(a rfl).elim
theorem qg(kvs:List (κ×V))(k:κ)(v:V):(putK kvs k v).length<=kvs.length+1:=by
 unfold putK;split
 ·rw[Bj];lia
 ·rw[Gh,J9,jZ];lia
variable{kvs:List (κ×V)}
theorem Y9h(v:V)(h:B_ kvs k=none):putK kvs k v=kvs++[(k,v)]:=by
 unfold putK;rw[Sx,h];exact if_neg (by decide)
variable{o:Option V}{u:Option Value}
theorem Ek.isSome_eq(r:Ek o u):o.isSome=u.isSome:=by
 cases o with
 | none=>cases u with
  | none=>rfl
  | some _=>exact(show False from r).elim
 | some _=>cases u with
  | none=>exact(show False from r).elim
  | some _=>rfl
theorem Ek.getD{d:V}{d':W4}(r:Ek o u)(rd:RelV d d'):RelV (o.getD d) (u.getD d'):=by
 cases o with
 | none=>cases u with
  | none=>exact rd
  | some _=>exact(show False from r).elim
 | some _=>cases u with
  | none=>exact(show False from r).elim
  | some _=>exact r
variable{vs:List (κ×Value)}
theorem KV.val(r:KV kvs vs)(k:κ):Ek (B_ kvs k) (valueAt vs k):=by
 unfold KV at r;induction r with
 | nil=>exact True.intro
 | @cons p q ps qs h t ih =>
  obtain⟨h1,h2⟩:=h;by_cases e:p.1=k
  ·have a:q.1=k:=h1.symm.trans e;have b:valueAt (q::qs) k=some q.2:=by simp[valueAt,Rb,a]
   rw[Lf e,b];exact h2
  ·have a:¬ q.1=k:=λz=>e (h1.trans z);have b:valueAt (q::qs) k=valueAt qs k:=by simp[valueAt,Rb,a]
   rw[Le e,b];exact ih
theorem KV.any(r:KV kvs vs)(k:κ):(kvs.any λa=>decide (a.1=k))=vs.any λa=>decide (a.1=k):=by
 unfold KV at r;induction r with
 | nil=>rfl
 | cons h t ih=>rw[RQ,RQ,ih,h.1]
theorem KV.repl(r:KV kvs vs)(k:κ){y:V}{u:W4}(ry:RelV y u):
  KV (kvs.map λa=>if a.1=k then (a.1,y) else a) (vs.map λa=>if a.1=k then (a.1,u) else a):=by
 unfold KV at r ⊢;induction r with
 | nil=>exact .nil
 | @cons p q ps qs h t ih =>
  rw[GP,GP];refine .cons ?_ ih;obtain⟨h1,h2⟩:=h;by_cases e:p.1=k
  ·rw[if_pos e,if_pos (h1.symm.trans e)];exact⟨h1,ry⟩
  ·rw[if_neg e,if_neg (λz=>e (h1.trans z))];exact⟨h1,h2⟩
theorem KV.put(r:KV kvs vs)(k:κ){y:V}{u:W4}(ry:RelV y u):KV (putK kvs k y) (stored vs k u):=by
 unfold putK stored;rw[r.any k];by_cases e:(vs.any λa=>decide (a.1=k))=true
 ·rw[if_pos e,if_pos e];exact r.repl k ry
 ·rw[if_neg e,if_neg e];exact Paired.snoc r ⟨O,ry⟩
theorem KV.keys(r:KV kvs vs):kvs.map (·.1)=vs.map (·.1):=by
 unfold KV at r;induction r with
 | nil=>rfl
 | cons h t ih=>rw[GP,GP,ih,h.1]
theorem KV.length(r:KV kvs vs):kvs.length=vs.length:=Paired.length r
end
variable{P:U8}{w:W3}{u:W4}
theorem TV{k:Key}(r:RelV (kV k) u):(G_ P w).is k u=true:=by
 cases k with
 | inl i=>obtain⟨t,e⟩:=(show ∃t,u=Value.int i t from r);subst e;exact Y1p P w i t
 | inr x=>obtain⟨t,e⟩:=(show ∃t,u=Value.str x t from r);subst e;exact Y1o P w x t
theorem u9{P:U8}{w:W3}:∀{ks:List Key}{us:U5},Vals (ks.map kV) us->ItemsAre (G_ P w) ks us
 | [],_,r=>by rw[Ym]at r;cases r;exact .nil
 | k::ks,_,r=>by
  rw[GP]at r;cases r with
  | cons h t=>exact .cons (TV h) (u9 t)
abbrev KT (H:Hp):List (List Key×V)->List (List Key×Addr×Value)->Prop:=Paired λp q=>p.1=q.1/\H q.2.1=some (.tup (p.1.map kV))/\RelV p.2 q.2.2
variable{kvs:List (List Key×V)}{xs:List (List Key×Addr×Value)}
theorem KT.val(r:KT H kvs xs)(k:List Key):Ek (B_ kvs k) ((atKey xs k).map (·.2)):=by
 induction r with
 | nil=>exact True.intro
 | @cons p q ps qs h t ih =>
  obtain⟨h1,_,h2⟩:=h;by_cases e:p.1=k
  ·have a:q.1=k:=h1.symm.trans e;have b:atKey (q::qs) k=some q.2:=by simp[atKey,Rb,a]
   rw[Lf e,b];exact h2
  ·have a:¬ q.1=k:=λz=>e (h1.trans z);have b:atKey (q::qs) k=atKey qs k:=by simp[atKey,Rb,a]
   rw[Le e,b];exact ih
variable{y:V}
theorem KT.repl(r:KT H kvs xs)(k:List Key)(ry:RelV y u):
  KT H (kvs.map λa=>if a.1=k then (a.1,y) else a) (xs.map (putAt k u)):=by
 induction r with
 | nil=>exact .nil
 | @cons p q ps qs h t ih =>
  rw[GP,GP];refine .cons ?_ ih;obtain⟨h1,h2,b⟩:=h;unfold putAt;by_cases e:p.1=k
  ·rw[if_pos e,if_pos (h1.symm.trans e)];exact⟨h1,h2,ry⟩
  ·rw[if_neg e,if_neg (λz=>e (h1.trans z))];exact⟨h1,h2,b⟩
variable{b:Y1}
theorem KT.put(r:KT H kvs xs)(k:List Key)(hb:H b=some (.tup (k.map kV)))(ry:RelV y u):
  KT H (putK kvs k y) (storedH xs k b u):=by
 have e:(kvs.any λa=>decide (a.1=k))=(atKey xs k).isSome:=by
  rw[Sx,(r.val k).isSome_eq,Option.isSome_map]
 unfold putK storedH;rw[e];by_cases q:(atKey xs k).isSome=true
 ·rw[if_pos q,if_pos q];exact r.repl k ry
 ·rw[if_neg q,if_neg q];exact Paired.snoc r ⟨O,hb,ry⟩
theorem KT.keeps(r:KT H kvs xs)(ht:∀b ys,H b=some (.tup ys)->H' b=some (.tup ys)):KT H' kvs xs :=
 Paired.mapP r λ_ _ z=>⟨z.1,ht _ _ z.2.1,z.2.2⟩
section
variable {P:U8}{w:W3}{H:Hp}{h:Heap}{a:Y1}
theorem vQ{u:HO}(ok:EY P w H h)(e:Rd H a u):BJ P w H h a u:=e.ok ok
variable{kvs:List (Key×V)}
theorem Wv(ok:EY P w H h)(e:Rd H a (.dK kvs)):kvs.length<=sizeLine/\(a == sysModules)=false/\∃vs,KV kvs vs/\h.DictOf (G_ P w) a vs :=
 show BJ P w H h a (.dK kvs) from vQ ok e
theorem W2n(ok:EY P w H h)(e:H a=some (.dK kvs)):kvs.length<=sizeLine/\(a == sysModules)=false/\∃vs,KV kvs vs/\h.DictOf (G_ P w) a vs:=Wv ok (.inl e)
theorem Za{ks:List Key}(ok:EY P w H h)(e:H a=some (.tup (ks.map kV))):(tupleKind (G_ P w)).is h ks a:=by
 obtain⟨_,its,r,o,h1,h2,n,b⟩:=(show BJ P w H h a (.tup (ks.map kV)) from ok a _ e);exact⟨o,its.toArray,n,h1,h2,b,by simpa using u9 r⟩
variable{kvs:List (List Key×V)}
theorem Ww(ok:EY P w H h)(e:Rd H a (.dT kvs)):kvs.length<=sizeLine/\(a == sysModules)=false /\
  ∃xs,KT H kvs xs/\h.DictOfH (tupleKind (G_ P w)) a xs:=by
 obtain⟨z,y,xs,r,o,es,ep,h1,h2,c,d,f⟩:=(show BJ P w H h a (.dT kvs) from vQ ok e);refine⟨z,y,xs,r,o,es,ep,h1,h2,c,d,λx b=>?_,f⟩;have all:∀{l:List (List Key×V)}{m:List (List Key×Addr×Value)},KT H l m->∀x∈m,(tupleKind (G_ P w)).is h x.1 x.2.1:=by
  intro l m q;induction q with
  | nil=>intro x b;exact nomatch b
  | @cons p q ps qs hq t ih =>
   intro x b;rcases DY.mp b with e | b
   ·subst e;exact Za ok (by rw[<-hq.1];exact hq.2.1)
   ·exact ih x b
 exact all r x b
theorem W2m(ok:EY P w H h)(e:H a=some (.dT kvs)):kvs.length<=sizeLine/\(a == sysModules)=false /\
  ∃xs,KT H kvs xs/\h.DictOfH (tupleKind (G_ P w)) a xs:=Ww ok (.inl e)
end
def Gb (H:Hp)(a:Y1)(y:V)(r:Option V):Prop :=
 (∃kvs k,Rd H a (.dK kvs)/\y=kV k/\r=B_ kvs k)\/∃kvs k b,Rd H a (.dT kvs)/\y=.ref b/\H b=some (.tup (k.map kV))/\r=B_ kvs k
def Ln (H:Hp)(a:Y1)(y v:V)(H':Hp):Prop :=
 (∃kvs k,H a=some (.dK kvs)/\y=kV k/\kvs.length<sizeLine/\H'=upd H a (.dK (putK kvs k v))) \/
 ∃kvs k b,H a=some (.dT kvs)/\y=.ref b/\H b=some (.tup (k.map kV))/\kvs.length<sizeLine/\H'=upd H a (.dT (putK kvs k v))
variable{k:List Key}
theorem Gb.t(e:H a=some (.dT kvs))(eb:H b=some (.tup (k.map kV))):Gb H a (.ref b) (B_ kvs k):=.inr ⟨kvs,k,b,.inl e,O,eb,O⟩
theorem Ln.t{v:V}(e:H a=some (.dT kvs))(eb:H b=some (.tup (k.map kV)))(hl:kvs.length<sizeLine):
  Ln H a (.ref b) v (upd H a (.dT (putK kvs k v))):=.inr ⟨kvs,k,b,e,O,eb,hl,O⟩
section
variable {X:Cx}{pins:U1}{σ:St}{H:Hp}{s:U7}{a:Y1}{y v:V}{u r:W4}{o:Option V}{A:W8}{E:U2}
theorem Inv.big(I:Inv X pins σ H s):sysModules<s.heap.objs.size:=by
 have h:mainGlobals<s.heap.objs.size:=(I.mod.glob.keeps I.bk).lt;exact Nat.lt_trans (by decide) h
theorem Y8a{Q:U2}(hu:A.units+1<cLine)(I:Inv X pins σ H s)(g:Gb H a y (some v))(ry:RelV y u)(h:∀f s',Inv X pins σ H s'->RelV v f->Q f s'):
  wpAny (model X.prog X.w) A (getItem (.ref a) u) Q E s:=by
 rcases g with ⟨kvs,k,e,ey,l⟩ | ⟨kvs,k,b,e,ey,eb,l⟩
 ·subst ey;obtain⟨z,hd,vs,c,dd⟩:=Wv I.hok e;obtain⟨f,i,d⟩:=Ek.some_of (v:=v) (o:=valueAt vs k) (by rw[l];exact c.val k);exact wpAny_getItem_of (TV ry) dd.mapOf i (h f _ (I.tok _) d)
 ·subst ey;cases (show u=Value.ref b from ry);obtain⟨z,hd,xs,c,dd⟩:=Ww I.hok e;obtain⟨f,i,d⟩:=Ek.some_of (v:=v) (o:=(atKey xs k).map (·.2)) (by rw[l];exact c.val k);obtain⟨p,hp,j⟩:=G3.mp i;refine wpAny_getItem_heap (bG hu) (Za I.hok eb) dd hp ?_;rw[j];exact h f _ (I.tok _) d
theorem rG{h':Heap}{t':Nat}{ob:HO}(I:Inv X pins σ H s)(mu:Xc (H a))(hs:Heap.SameBut a s.heap h')(he:∃q,h'.get? a=some q)(new:BJ X.prog X.w (upd H a ob) h' a ob):
  Inv X pins σ (upd H a ob) {s with heap:=h',toks:=t'} :=
 I.write (x:=a) (e:=a) mu (.inl rfl) (λb q c z=>(hs.2 b c).trans z) he new
theorem W0d{h':Heap}{kvs:List (Key×V)}{vs:List (Key×Value)}(z:kvs.length<=sizeLine)(hd:(a == sysModules)=false)(rel:KV kvs vs)(dd:h'.DictOf (G_ P w) a vs):
  BJ P w H' h' a (.dK kvs):=⟨z,hd,vs,rel,dd⟩
theorem Y7z{Q:Unit->Shared->Prop}(hu:A.units+1<cLine)(I:Inv X pins σ H s)(g:Ln H a y v H')(ry:RelV y u)(rv:RelV v r)(h:∀s',Inv X pins σ H' s'->Q () s'):
  wpAny (model X.prog X.w) A (setItem (.ref a) u r) Q E s:=by
 rcases g with ⟨kvs,k,e,ey,l,eH⟩ | ⟨kvs,k,b,e,ey,eb,l,eH⟩
 ·subst ey eH;obtain⟨z,hd,vs,d,dd⟩:=W2n I.hok e;have m:vs.length<=sizeLine:=by rw[<-d.length];exact z
  have n:(putK kvs k v).length<=sizeLine:=by have:=qg kvs k v;lia
  refine wpAny_setItem_pairs (hsz:=m) (TV ry) dd λh' f j=>h _ ?_;have x:∃q,h'.get? a=some q:=let ⟨q,_,_,i,_⟩:=f;⟨q,i⟩;exact rG I (by rw[e];exact True.intro) j x (W0d n hd (d.put k rv) f)
 ·subst ey eH;cases (show u=Value.ref b from ry);obtain⟨z,hd,xs,d,dd⟩:=W2m I.hok e;have m:xs.length<=sizeLine:=by rw[<-Paired.length d];exact z
  have n:(putK kvs k v).length<=sizeLine:=by have:=qg kvs k v;lia
  refine wpAny_setItem_heap (hsz:=m) (bG hu) (Za I.hok eb) dd λh' f j=>h _ ?_;obtain⟨q,es,ep,i,h2,B,t,_,p⟩:=f;refine rG I (by rw[e];exact True.intro) j ⟨q,i⟩ ⟨n,hd,_,(d.put k eb rv).keeps λc ys o=>?_,q,es,ep,i,h2,B,t,p⟩;rw[Bq (K_ o e (λz=>nomatch z))];exact o
end
section
variable {X:Cx}{pins:U1}{σ:St}{H:Hp}{s:U7}{a:Y1}{kvs:List (Key×V)}{k:Key}{u:W4}{A:W8}{E:U2}
end
def RK (i:Expr):Prop:=∀ov iv,subscripted i false ov iv=operate [ov,iv] (getItem ov iv)
variable{s:U7}{Q:U2}
theorem tU{prog:U8}{A:W8}{E:U2}{env:Env}{value slice:Expr}{pos:Pos}{T id:String}
  (hl:typeLookup (.type T) "__getitem__"=pure (some (.builtin id))) (hs:RK slice)
  (h:wpAny (model prog w) A (eval value env) (λo d=>wpAny (model prog w) A (eval slice env) (λi s₂=>s₂.TypeIs o T/\wpAny (model prog w) A (getItem o i) Q E s₂) E d) E s):
  wpAny (model prog w) A (eval (.Subscript value slice pos) env) Q E s:=by
 refine Subscript_ (Eb h (λo d e=>Eb e (λi s₂ a=>?_) λ_ _ x=>x) λ_ _ x=>x);obtain⟨b,a⟩:=a;unfold subscriptTail;refine Ak ?_;rw[getitemInPython_of_ne b.not_modules];refine Ak (wpAny_specialOf b hl ?_);have fin:wpAny (model prog w) A (subscripted slice false o i) (λr c=>wpAny (model prog w) A (letTemporaryGo value o r >>= λ_=>pure r) Q E c) E s₂:=by
  rw[hs o i];exact wpAny_operating (Eb a (λr c f=>Ak (wpAny_letTemporaryGo (BZ f))) λ_ _ x=>x)
 first
  | exact BZ (Ak fin)
  | exact Ak (BZ (Ak fin))
  | exact Ak fin
theorem Y1w{X:Cx}{pins:U1}{σ:St}{o:Option V}(I:Inv X pins σ H s)(g:Gb H a y o):s.TypeIs (.ref a) "dict":=by
 rcases g with ⟨kvs,k,e,_,_⟩ | ⟨kvs,k,b,e,_,_,_⟩
 ·obtain⟨_,_,vs,_,dd⟩:=Wv I.hok e;exact dd.typeIs
 ·obtain⟨_,_,xs,_,dd⟩:=Ww I.hok e;exact dd.typeIs
def Uj (td ty:TE):TE:=λσ H Q=>td σ H λx H1=>ty σ H1 λy H2=>∃a v,x=.ref a/\Gb H2 a y (some v)/\Q v H2
def Ut (td ty tv:TE):TS:=λD σ H=>tv σ H λv H1=>td σ H1 λx H2=>ty σ H2 λy H3=>∃a H4,x=.ref a/\Ln H3 a y v H4/\D.nx σ H4
section
variable {X:Cx}{o i e value:Expr}{pos pos' tpos:Pos}{td ty tv:TE}
theorem sI(hu:X.A.units+1<cLine)(ho:PE X o td)(hi:PE X i ty)(hs:RK i):PE X (.Subscript o i pos) (Uj td ty):=by
 intro pins s σ H Q I h;refine tU pJ.lookup hs (Bd (ho pins s σ H _ I h) λu e ⟨x,H1,l,j,k⟩=>Bd (hi pins e σ H1 _ l k) λr n ⟨y,H2,c,f,a,v,ex,g,d⟩=>?_);subst ex;obtain rfl:u=Value.ref a:=j;exact⟨Y1w c g,Y8a hu c g f λp q m b=>⟨v,H2,m,b,d⟩⟩
theorem X4d(hu:X.A.units+1<cLine)(ho:PE X o td)(hi:PE X i ty)(hv:PE X value tv)(hs:swapsWith value (some (.Subscript o i pos')) pos.line X.env=pure false):
  PS X (.Assign [.Subscript o i pos'] value pos) (Ut td ty tv):=by
 intro pins s σ H D I h;refine wpAny_Assign_Subscript (Bd (hv pins s σ H _ I h) λr c ⟨v,H1,p,d,n⟩=>Bd (ho pins c σ H1 _ p n) λu f ⟨x,H2,e,l,b⟩=>Bd (hi pins f σ H2 _ e b) λB z ⟨y,w,q,k,a,j,ex,g,t⟩=>?_) hs;subst ex;obtain rfl:u=Value.ref a:=l;exact Y7z hu q g k d λC m=>⟨σ,j,m,t⟩
end
theorem X1d(h:Heap)(hb:sysModules<h.objs.size):BJ P w H (h.push { cls:=.type "dict",data:=.dict #[]}) h.objs.size (.dT []):=
 ⟨Ef _,beq_eq_false_iff_ne.mpr (Ne.symm (Cy hb)),[],.nil,_,#[],0,Ew _ rfl,⟨O,O,O⟩,O,O,jU⟩
def Pn:TE:=λ_ H Q=>∀p,H p=none->Q (.ref p) (upd H p (.dT []))
section
variable {X:Cx}{pos:Pos}
theorem Y9l:PE X (.Dict [] [] pos) Pn:=λpins s σ H Q I h =>
 wpAny_Dict_empty ⟨.ref s.heap.objs.size,_,I.laid (a:=s.heap.objs.size) (o:=.dT []) (t':=s.toks) (λ_ _ q=>Ca _ q) (Bc _) (X1d s.heap I.big),O,h _ (I.hok.fresh (Bc _))⟩
end
structure M2 (X:Cx) (o:Expr) (m:Str) (apos:Pos) (e f:Expr) (cpos:Pos):Prop where
 base:attributeBase o m X.env (eval o X.env)=eval o X.env
 few:((backTo cpos (starEach [e,f] X.env)).all (λx=>!x.1) && (backToKw cpos (keywordEach [] X.env)).all (λx=>x.1.isSome)
  && decide (([e,f]:List Expr).length+([]:List Keyword).length+(if ([]:List Keyword).isEmpty then 0 else 1)<30))=true
 line:(apos.endLine == cpos.line)=true
 trees:backTo cpos (starEach [e,f] X.env)=[(false,eval e X.env),(false,eval f X.env)]
def yH (H:Hp)(a:Y1):Prop:=(∃kvs,Rd H a (.dK kvs))\/∃kvs,Rd H a (.dT kvs)
theorem X9t{X:Cx}{pins:U1}{σ:St}(I:Inv X pins σ H s)(d:yH H a):
  s.TypeIs (.ref a) "dict"/\(∀b,Value.ref a=.ref b->∃c,s.heap.get? b=some c/\c.dict=none)/\(a == sysModules)=false:=by
 rcases d with ⟨kvs,e⟩ | ⟨kvs,e⟩
 ·obtain⟨_,hd,vs,_,dd⟩:=Wv I.hok e;refine⟨dd.typeIs,λb q=>?_,hd⟩;cases q;obtain⟨c,_,_,h1,h2,_⟩:=dd;exact⟨c,h1,h2.2.1⟩
 ·obtain⟨_,hd,xs,_,dd⟩:=Ww I.hok e;refine⟨dd.typeIs,λb q=>?_,hd⟩;cases q;obtain⟨c,_,_,h1,h2,_⟩:=dd;exact⟨c,h1,h2.2.1⟩
section
variable {X:Cx}{pins:U1}{σ:St}{H:Hp}{s:U7}{a:Y1}{y d:V}{u r:W4}{o:Option V}{A:W8}{E:U2}
theorem W0e(hu:A.units+1<cLine)(I:Inv X pins σ H s)(g:Gb H a y o)(ry:RelV y u)(rd:RelV d r)(h:∀w' s',Inv X pins σ H s'->RelV (o.getD d) w'->Q w' s'):
  wpAny (model X.prog X.w) A (call (.builtin "dict.get") [.ref a,u,r]) Q E s:=by
 rcases g with ⟨kvs,k,e,ey,l⟩ | ⟨kvs,k,b,e,ey,eb,l⟩
 ·subst ey;obtain⟨z,hd,vs,c,dd⟩:=Wv I.hok e;refine call_meetsIn bQ dd.typeIs oZ (pB _ _ _) (meets_dict_get_default (G_ X.prog X.w) a (TV ry) hd r) ⟨_,dd.mapOf,h _ _ (I.tok _) ?_⟩;rw[l];exact(c.val k).getD rd
 ·subst ey;cases (show u=Value.ref b from ry);obtain⟨z,hd,xs,c,dd⟩:=Ww I.hok e;refine call_meetsIn bQ dd.typeIs oZ (pB _ _ _) (meetsH_dict_get_default (tupleKind (G_ X.prog X.w)) a b hd r) ⟨bG hu,k,xs,Za I.hok eb,dd,h _ _ (I.tok _) ?_⟩;rw[l];exact(c.val k).getD rd
end
def Pq (td ty tx:TE):TE:=λσ H Q=>td σ H λx H1=>∃a,x=.ref a/\yH H1 a/\ty σ H1 λy H2=>tx σ H2 λz H3=>∃o,Gb H3 a y o/\Q (o.getD z) H3
section
variable {X:Cx}{o e f:Expr}{apos cpos:Pos}{td ty tx:TE}
theorem Y9m(hu:X.A.units+1<cLine)(ho:PE X o td)(he:PE X e ty)(hf:PE X f tx)(m:M2 X o "get" apos e f cpos):PE X (.Call (.Attribute o "get" apos) [e,f] [] cpos) (Pq td ty tx):=by
 intro pins s σ H Q I h;refine wpAny_Call_method m.base m.few m.line PySem.F.plainAttrs_dict bQ PySem.F.type_dict_get (Bd (ho pins s σ H _ I h) λu j ⟨x,H1,c,q,a,ex,d,v⟩=>?_);subst ex;obtain rfl:u=Value.ref a:=q;obtain⟨r,t2,_⟩:=X9t c d;refine⟨r,t2,?_⟩;rw[m.trees]
 refine Calls.callWith_builtin rfl (Calls.evalArgs_plain (Calls.spliced_cons (Bd (he pins j σ H1 _ c v) λJ l ⟨y,H2,k,n,i⟩ =>
  Calls.spliced_cons (Bd (hf pins l σ H2 _ k i) λE G ⟨z,p,B,w,K,g,C⟩=>Calls.spliced_nil ?_))))
 exact W0e hu B g n w λD L t b=>⟨_,p,t,b,C⟩
end
end L2
namespace L2
def Gp (i j:Int):Prop:=∃a b,Sz a i/\Sz b j/\a+b<=100000000
theorem Gp.ok{i j:Int}(h:Gp i j):IntMulOk i j:=by
 obtain⟨a,b,h1,h2,c⟩:=h;have e1:=h1.bits;have e2:=h2.bits;unfold IntMulOk
 rw[show Builtin.Int.intTooBig (Builtin.Int.intBits i+Builtin.Int.intBits j)=false by
  unfold Builtin.Int.intTooBig
  have:bitsLine=134217728:=rfl
  rw[this]
  exact Cd (by lia)]
 simp
section
variable {X:Cx}
theorem Ey:Ed X (binaryOp .Mult) (rI Gp λi j=>.int (i*j)):=Qa λ_ _ _ _ _ _ _ a q=>mul_int q a.ok
theorem kJ(hc:X.calm=true):CJ X (.builtin "all") (λxs H Q=>∃(p:Y1) (bs:List Bool),xs=[.ref p]/\Ax X.K H p (bs.map V.bl)/\Q (.bl (bs.all id)) H):=by
 intro pins s σ H xs us Q I r h;obtain⟨p,bs,rfl,x,q⟩:=h;obtain⟨u,rfl,f⟩:=r.one;cases f;obtain⟨its,j,g,B⟩:=I.list x;have a:its.length=bs.length:=by rw[<-j.length,Bj]
 refine call_all_walk (X8 g.isList ?_)
 have W:=Walks.list (prog:=X.prog) (w:=X.w) (A:=X.A.in1) (show X.A.in1.handled=none from I.ok.hd hc) s.heap.objs.size p (by
  obtain⟨o,e,_⟩:=g.isList
  exact Cy (Bk e)) its.toArray
 refine⟨s.heap.objs.size,_,_,_,_,_,λi=>bs.getD i false,O,W,⟨⟨_,Ew _ rfl,O,O⟩,g.isList.push _⟩,?_,λh' tk m=>?_⟩
 ·intro i v s' C D t y;have c:its[i]?=some v:=by simpa using t
  have hi:i<bs.length:=by rw[<-a];exact(G4.mp c).1
  obtain⟨u,k,f⟩:=j.get (show (bs.map V.bl)[i]?=some (.bl (bs.getD i false)) by simp[hi]);rw[c]at k;cases k;cases f;exact M7 y
 ·have e:(List.range its.toArray.size).all (λi=>bs.getD i false)=bs.all id:=by
   rw[Du,a,RZ,QM,QM];constructor
   ·intro z b n;obtain⟨i,hi,rfl⟩:=List.mem_iff_getElem.mp n;have:=z i (Gg.mpr hi);simpa [hi] using this
   ·intro z i hi;have d:i<bs.length:=Gg.mp hi;have:=z bs[i] (Rg d);simpa [d] using this
  rw[e];refine⟨.bl (bs.all id),H,?_,O,q⟩;exact I.kept (t':=tk) λb o l=>m b o (by simp;exact Cy (Bk l)) (Ca _ l)
end
section
variable {P:U8}{w:W3}{H:Hp}{h:Heap}
end
section
variable {X:Cx}
end
section
variable {X:Cx}{scope:Scope}{Nc:W0}{ex:U3}{pins:U1}{s:U7}{H:Hp}
theorem Y9o(hu:X.A.units+64<cLine):Ed (Bl X scope Nc ex pins s H) (compareOp .NotEq) (Ob X.K true):=X4o hu
end
end L2
namespace L2
open PySem.W PySem.Calls
def Jg (ns:U6):Prop:=∀n∈ns,Sz 1048576 n
theorem qu:∀{ns:U6}{W:Nat},WData.weightAll (ns.map WData.int)<=W->∀n∈ns,Sz W n
 | m::r,W,h,n,hn=>by
  simp only[GP,WData.weightAll,WData.weight]at h;rcases DY.mp hn with rfl | hn
  ·unfold Sz;by_cases z:n=0
   ·subst z;exact Lz _
   ·have a:(n == 0)=false:=by simpa using z
    rw[a,if_neg (by simp)]at h;have h1:n.natAbs.log2<W:=by lia
    exact(Nat.log2_lt (by lia)).mp h1
  ·exact qu (W:=W) (by lia) n hn
theorem X0o{ns:U6}(h:WData.layableAll [WData.list (ns.map WData.int)]=true):Jg ns:=by
 simp only[WData.layableAll,Xv,List.all_nil,Bool.and_true,WData.layable,GQ,KC]at h;exact qu (W:=1048576) (by have:=h.2;simpa [WData.weight] using this)
variable{XP:(Str->Option Value)->Heap->Prop}{YP:World->Heap->Prop}{d:DefRec}
theorem Y0x{l:OpenLaw}{n:Nat}{q:U8}{loose:W0}
  (hn:l.most=some n) (hdf:d.params.defaults=[])
  (call:∀(w:W3) (p b:U7) (mg m:U4) (fa:Y1) (o:Obj) (u k e:W4) (a:Y1) (vs:U5) (ns:U6),Jg ns ->
   Ground q loose [] XP w p mg m b.heap->YP w b.heap ->
   b.heap.get? fa=some o->o.data=.func (docDef d.name d.params d.body d.scope u k e)->b.heap.CodeRec k d.name->mg d.name=some (.ref fa) ->
   b.heap.get? a=some { cls:=.type "list",data:=.seq vs.toArray}->IntsAre vs ns->ns.length<=n->b.gens=#[] ->
   codeAny (model l.prog w) callerA (.call (.ref fa) ⟨[.ref a],[]⟩) (λr s'=>r=.ok (.ret (.bool true))/\OldK b.heap s'.heap/\s'.os=b.os/\AllBare s'.gens) b):
  WalkO q loose XP YP l.row.toRowW d [] (λf vs=>PySem.call f vs):=by
 intro w p b mg m G Y fa o u k e F kV A hd t hD s D args vals as h g x v z;obtain rfl:F=.none:=Dflts.none hD hdf;obtain rfl:kV=.none:=Dflts.noKw hD;obtain⟨a,vs,ns,rfl,rfl,i,c,j⟩:=n_.Y5r hn h v;refine enter_call (Mz (call w p b mg m fa o u k e a vs ns (X0o g) G Y A (fd_plain hd) t s i c j D) λr s' C=>?_);obtain⟨rfl,h2,E,y⟩:=C;exact⟨.inl ⟨.bool true,.bool true,[],O,λ_=>rfl,.bool true,n_.Y5v l _,λ_=>⟨List.Pairwise.nil,λ_ B=>(nomatch B)⟩⟩,h2,E,y⟩
theorem Y3t{l:PySem.W.OpenLaw}{n k:Nat}{q:U8}{loose:W0}{K:Params->U0}{CX:World->Lp}{sp:World->Sp}{x:Str}
  (hn:l.most=some n) (hn2:n<=sizeLine) (hdf:d.params.defaults=[]) (hr:CG k callerA)
  (hY:∀(w:W3) (h:Heap),YP w h->(K w.params).In h)
  (F:∀(w:W3) (mg:U4) (fa:Y1) (h:Heap),(K w.params).In h->h.Ns mainGlobals mg->mg d.name=some (.ref fa) ->
   ∃fd:FuncData,(∀(s:U7) (u:W4),BindsTo s fd ⟨[u],[]⟩ [(x,u)]) /\
    ∀base:Heap,(K w.params).In base->base.Ns mainGlobals mg->Em l.prog w (K w.params) mg base (CX w) k fa fd [x] (sp w))
  (hsp:∀(w:W3) (H:Hp) (a:Y1) (ns:U6),ns.length<=n->Jg ns->Ax (K w.params) H a (ns.map V.int)->sp w [.ref a] H (λv _=>v=.bl true) λ_ _ _=>False)
  (hCX:∀(w:W3) (H:Hp) (s:U7) (e:W4) (s':U7),CX w [] H s (λ_ _ _=>False) e s'->False):
  PySem.W.WalkO q loose XP YP l.row.toRowW d [] (λf vs=>PySem.call f vs):=by
 refine Y0x hn hdf λw E A mg C fa o J D B a vs ns lt G Y I hd y m j i c z=>?_;have p:=hY w _ Y;obtain⟨fd,r,hF⟩:=F w mg fa _ p G.T.g m;exact X0t p G.T.g G.T.b G.T.builtins G.T.nolimit z j i (Fq c hn2) hr hF r (λH _ t=>hsp w H a ns c lt t) λH e s'=>hCX w H A e s'
end L2
namespace Ba
open L2 Am Pc
noncomputable abbrev T5 (a b c d h:Int):HO:=.tup [.int a,.int b,.int c,.int d,.int h]
structure Red (a b c d h x y z u g:Int):Prop where
 amt:Ls x y z u g
 same:Cu a b c d h x y z u g
 s1:x.natAbs<=a.natAbs
 s2:y.natAbs<=b.natAbs
 s3:z.natAbs<=c.natAbs
 s4:u.natAbs<=d.natAbs
 le:g<=h
structure H_ (n:Nat) (a b c d:Int):Prop where
 z1:Sz n a
 z2:Sz n b
 z3:Sz n c
 z4:Sz n d
variable{a b c d x y z u:Int}{n:Nat}
theorem Red.sz{h g:Int}(r:Red a b c d h x y z u g)(s:H_ n a b c d):H_ n x y z u:=⟨s.z1.le r.s1,s.z2.le r.s2,s.z3.le r.s3,s.z4.le r.s4⟩
theorem H_.mono{m:Nat}(s:H_ m a b c d)(h:m<=n):H_ n a b c d:=⟨s.z1.mono h,s.z2.mono h,s.z3.mono h,s.z4.mono h⟩
noncomputable def Bm:Nat->Int×Int×Int×Int->Int×Int×Int×Int
 | 0,v=>v
 | n+1,v=>let (a,b,c,d):=Bm n v;(-d,a,b,c)
noncomputable abbrev T4 (v:Int×Int×Int×Int)(h:Int):HO:=T5 v.1 v.2.1 v.2.2.1 v.2.2.2 h
abbrev A5:=(Int×Int×Int×Int)×Int
noncomputable abbrev tA (x:A5):HO:=T4 x.1 x.2
noncomputable def Dw (x:A5)(k:Int):A5:=(Bm (k%8).toNat x.1,x.2)
structure Cr (n:Nat) (m:Int) (x:A5):Prop where
 sz:H_ n x.1.1 x.1.2.1 x.1.2.2.1 x.1.2.2.2
 amt:Ls x.1.1 x.1.2.1 x.1.2.2.1 x.1.2.2.2 x.2
 le:x.2<=m
theorem Cr.mono{n':Nat}{m m':Int}{x:A5}(o:Cr n m x)(h:n<=n')(h':m<=m'):Cr n' m' x:=⟨o.sz.mono h,o.amt,J3 o.le h'⟩
theorem XM{n:Nat}{m:Int}{v:Int×Int×Int×Int}{h:Int}(o:Cr n m (v,h)):∀k,Cr n m (Bm k v,h)
 | 0=>o
 | k+1=>by
  have:=XM o k;show Cr n m ((-(Bm k v).2.2.2,(Bm k v).1,(Bm k v).2.1,(Bm k v).2.2.1),h);refine⟨⟨this.sz.z4.neg,this.sz.z1,this.sz.z2,this.sz.z3⟩,⟨this.amt.nn,?_⟩,this.le⟩;have o:h=0\/(Bm k v).1%2=1\/(Bm k v).2.1%2=1\/(Bm k v).2.2.1%2=1\/(Bm k v).2.2.2%2=1:=this.amt.odd;show h=0\/(-(Bm k v).2.2.2)%2=1\/(Bm k v).1%2=1\/(Bm k v).2.1%2=1\/(Bm k v).2.2.1%2=1;lia
noncomputable def l5 (x:A5):List Int:=[x.1.1,x.1.2.1,x.1.2.2.1,x.1.2.2.2,x.2]
structure Hv (a b c d h x y z u g:Int):Prop where
 same:Cu a b c d h x y z u g
 s1:x.natAbs<=a.natAbs
 s2:y.natAbs<=b.natAbs
 s3:z.natAbs<=c.natAbs
 s4:u.natAbs<=d.natAbs
 le:g<=h
 nn:0<=g
theorem Hv.red{h g:Int}(v:Hv a b c d h x y z u g)(o:g=0\/x%2=1\/y%2=1\/z%2=1\/u%2=1):Red a b c d h x y z u g:=⟨⟨v.nn,o⟩,v.same,v.s1,v.s2,v.s3,v.s4,v.le⟩
theorem Yq{g:Int}(hx:x%2=0)(hg:0<g):FZ x g (x / 2) (g-1):=by
 unfold FZ;have e:p2 g=p2 (g-1)*2:=by rw[Qp (a:=g) (b:=1) (by decide) (by lia)];rfl
 rw[e];have:x=2*(x / 2):=by lia
 generalize x / 2=y at *;subst this;grind
theorem Hv.half{h g:Int}(v:Hv a b c d h x y z u g)(hg:0<g)(e:x%2=0/\y%2=0/\z%2=0/\u%2=0):Hv a b c d h (x / 2) (y / 2) (z / 2) (u / 2) (g-1):=by
 obtain⟨e1,e2,f,i⟩:=e;have:=v.s1;have:=v.s2;have:=v.s3;have:=v.s4;have:=v.le;exact⟨v.same.trans ⟨Yq e1 hg,Yq e2 hg,Yq f hg,Yq i hg⟩,by lia,by lia,by lia,by lia,by lia,by lia⟩
theorem WM:(([a,b,c,d].map λn=>decide (V.int (n%2)=V.int 0)).all id=true)↔(a%2=0/\b%2=0/\c%2=0/\d%2=0):=by
 have e:∀n:Int,decide (V.int (n%2)=V.int 0)=true↔n%2=0:=λn=>by rw[decide_eq_true_iff];exact⟨λz=>V.int.inj z,λz=>by rw[z]⟩
 simp only[GP,Ym,Xv,List.all_nil,id,Bool.and_true,GQ,e]
noncomputable abbrev M3 (q f s:Nat):HO:=.tup [.int q,.int f,.int s]
noncomputable def cell (ns:U6)(i:Int):Int:=if i<ns.length then ns.getD i.toNat 0 else 0
def E_:Sp:=λvs H Q _=>∃n:Nat,vs=[.int n]/\Q (.int (pc n)) H
def Kq (K:U0):Sp:=λvs H Q _=>∃(a:Y1) (ns:U6) (i:Int),vs=[.ref a,.int i]/\Ax K H a (ns.map V.int)/\0<=i/\Q (.int (cell ns i)) H
def Nu:Sp:=λvs H Q _=>∃i:Int,vs=[.int i]/\Q (.bl true) H
def tE:Sp:=λvs H Q _=>∃c:Int,vs=[.int c]/\∀n:Nat,1<=n->n<=6->Q (.int n) H
def OD:Sp:=λvs H Q _=>∃(l:Y1) (a b c d h:Int),vs=[.ref l,.int h]/\H l=some (.lst ([a,b,c,d].map V.int))/\0<=h/\∀(p:Y1) (H':Hp) (x y z u g:Int),Same H H'->H' p=some (T5 x y z u g)->Red a b c d h x y z u g->Q (.ref p) H'
def uX:Sp:=λvs H Q _=>∃(c:Int) (n:Nat),vs=[.int c,.int n]/\n<=6/\∀(r:Y1) (H':Hp) (q f s:Nat),Same H H'->H' r=some (M3 q f s)->q<4->f<2^n->s<2^n->Q (.ref r) H'
def JM (K:U0)(n:Nat):Sp:=λvs H Q _=>∃(a:Y1) (ns:U6),vs=[.ref a]/\Ax K H a (ns.map V.int)/\ns.length<=n/\Jg ns/\∀H',Q (.bl true) H'
theorem wI{ns:U6}{i:Int}(h0:0<=i)(h:i<ns.length):GC (ns.map V.int) i=some (.int (ns.getD i.toNat 0)):=by
 have a:i.toNat<ns.length:=by lia
 have b:i=((i.toNat:Nat):Int):=by lia
 have q:GC (ns.map V.int) ((i.toNat:Nat):Int)=some (.int ns[i.toNat]):=Mf (by rw[FN,Di a]<;>rfl);rw[<-b]at q;rw[q,G5,Di a];rfl
theorem Yo{ps:U3}{i:Nat}{j:Int}(h:i<ps.length)(e:j=i):GC (ps.map V.ref) j=some (.ref ps[i]):=by
 subst e;exact Mf (by rw[FN,Di h];rfl)
theorem t2:2<=sizeLine:=by decide
theorem t3:3<=sizeLine:=by decide
theorem t4:4<=sizeLine:=by decide
theorem t5:5<=sizeLine:=by decide
theorem JK(h:n<=64):n<=sizeLine:=Fq h (by decide)
theorem Hq(h:n<=6):2^n<=64:=Fq (Rt (by decide) h) (by decide)
theorem ipow(n:Nat):(1:Int)*2^((n:Int).toNat)=((2^n:Nat):Int):=by simp
theorem Ie:Sz 1 1:=by decide +kernel
theorem pR:(0:Int)<2:=by decide
theorem Yc:(0:Int)<3:=by decide
theorem yX:(0:Int)<4:=by decide
theorem pQ:(0:Int)<7:=by decide
theorem pP:(0:Int)<8:=by decide
theorem nF:(0:Int)<2147483647:=by decide
theorem wW(K:U0):PySem.W.kitOne K (.type "tuple") (.type "tuple")=some true:=by unfold PySem.W.kitOne;rw[if_pos (by decide)]
end Ba
namespace Al
open L2 Am Pc Ba
noncomputable def top (i:Nat):Stmt:=PySem.Challenge.pw_spinboard_k65_whole_shares_by_marks.main.body.getD i (.Pass ⟨0,0,0,0⟩)
structure Bs (mg:U4):Prop where
 isinstance:mg "isinstance"=none
 int:mg "int"=none
 bool:mg "bool"=none
 tuple:mg "tuple"=none
 list:mg "list"=none
 len:mg "len"=none
 range:mg "range"=none
 all:mg "all"=none
 any:mg "any"=none
 max:mg "max"=none
 min:mg "min"=none
 zip:mg "zip"=none
 set:mg "set"=none
 str:mg "str"=none
 enumerate:mg "enumerate"=none
 reversed:mg "reversed"=none
 sorted:mg "sorted"=none
 abs:mg "abs"=none
section
variable {P:U8}{w:W3}{K:U0}{mg:U4}{base:Heap}{k:Nat}{h:Heap}
theorem X5d(F:Ab K "_law_cell_at" (top 73) .none)(X:K.In h)(G:Ng h mg)(B:Bs mg):Ar P w K mg base (k+1) "_law_cell_at" ["_law_script","_law_k"] (Kq K):=by
 refine F.cal X G ["_law_script","_law_k"] (bi:=Qk λ_ _ _ _ _ _ _ _=>rfl) (len:=λ_ _ _ _ h=>by obtain⟨_,_,_,rfl,_⟩:=h;rfl) λf H vs Q E g h=>?_;obtain⟨a,ns,i,rfl,d,e,q⟩:=h
 refine⟨_,(@Aw _ _ _ _ _ (CQ (Bx Q9 (pv 1) (DP Jw rfl B.len JR (Aa (pv 0) Af)) (Ae _))
   (@Av _ _ _ (Bb (Ai Dl (pv 0) (pv 1) (λ_ _=>rfl))))
   CT)
  (@Av _ _ _ (Bb Ad))),?_⟩
 try dsimp only[Bu]
 have b:(ns.map V.int).length=ns.length:=Bj _;refine⟨_,O,_,O,a,_,O,.inl d,_,_,O,O,_,O,Ay (λc=>?_) (λc=>?_)⟩
 ·rw[b]at c;refine⟨_,O,_,O,a,_,_,_,O,O,d,wI e c,?_⟩;unfold cell at q;rw[if_pos c]at q;exact q
 ·rw[b]at c;unfold cell at q;rw[if_neg c]at q;exact q
theorem Hh:Bf ["_law_found"] ["_law_found"] (CV (top 74)):=fS
theorem Y9q(F:Ab K "_law_whole" (top 74) .none)(X:K.In h)(G:Ng h mg)(B:Bs mg):Ar P w K mg base (k+1) "_law_whole" ["_law_found"] Nu:=by
 refine F.cal X G _ (S:=Hh) (bi:=Ql λ_ _ _ _ _ _ _=>rfl) (len:=λ_ _ _ _ h=>by obtain⟨_,rfl,_⟩:=h;rfl) λa H vs Q E b h=>?_;obtain⟨i,rfl,q⟩:=h;refine⟨_,(@Av _ _ _ (Bb (KZ (DP Ny rfl B.isinstance Jm (Aa (pv 0) (Aa (Mh (v:=.ty "int") rfl B.int Rx rfl) Af))) (Jt (lZ (DP Ny rfl B.isinstance Jm (Aa (pv 0) (Aa (Mh (v:=.ty "bool") rfl B.bool boot_bool rfl) Af)))))))),?_⟩;try dsimp only[Bu]
 refine⟨_,O,_,_,_,true,O,Cq.int i,lW K,_,O,Df ?_⟩;exact⟨_,O,_,_,_,false,O,Cq.int i,lV K,_,O,q⟩
theorem X8l(F:Ab K "_law_low" (top 76) .none)(X:K.In h)(G:Ng h mg)(B:Bs mg):Ar P w K mg base (k+1) "_law_low" ["_law_parts","_law_h"] OD:=by
 refine F.cal X G ["_law_parts","_law_h"] (bi:=Qk λ_ _ _ _ _ _ _ _=>rfl) (len:=λ_ _ _ _ h=>by obtain⟨_,_,_,_,_,_,rfl,_⟩:=h;rfl) λI H vs Q E Y h=>?_;obtain⟨l,a,b,c,d,h,rfl,R,L,q⟩:=h
 refine⟨_,(@Aw _ _ _ _ _ (Wn PassesOwn.never (PW.pt (Ma (Bx MK (pv 1) Ad (Ae _)) (Nt (Fp (DP (kJ rfl) rfl B.all boot_all (Aa (KY rfl (Bw.of (Nc:=["_law_part"]) (mp:=[none]) (by kernel_rfl)) (Je (pv 0)) (λ_ _ _ _=>(CN (i:=0) (show (["_law_part"]:W0).Nodup by decide +kernel) rfl (Or.inl rfl))) (λ_ _ _ _=>(GX Cz (Ag Ec (pv 0) Ad) Ad (Ae _)))) Af))))))
   (@Aw _ _ _ _ _ (Wm (i:=0) rfl I rfl rfl (Bw.of (Nc:=["_law_part"]) (mp:=[none]) (by kernel_rfl)) (Je (pv 0)) (λ_ _ _ _=>(CN (i:=0) (show (["_law_part"]:W0).Nodup by decide +kernel) rfl (Or.inl rfl))) (λ_ _ _ _=>(Ag Jd (pv 0) Ad)) rfl)
   (@Av _ _ _ (@BR _ _ 1 _ _ _ _ I rfl (Or.inl rfl) (Ag Ii (pv 1) Ad) rfl (.inl rfl)))))
  (@Av _ _ _ (Bb (@Dj _ _ _ _ _ (Aa (Ai Dl (pv 0) Ad (λ_ _=>rfl)) (Aa (Ai Dl (pv 0) Ad (λ_ _=>rfl)) (Aa (Ai Dl (pv 0) Ad (λ_ _=>rfl)) (Aa (Ai Dl (pv 0) Ad (λ_ _=>rfl)) (Aa (pv 1) Af))))))))),?_⟩
 try dsimp only[Bu]
 refine⟨λm σ H'=>∃e x y u v g,m=g.toNat/\σ=[some (.ref e),some (.int g)]/\Same H H'/\H' e=some (.lst ([x,y,u,v].map V.int))/\Hv a b c d h x y u v g,⟨_,l,a,b,c,d,h,O,O,Same.refl _,R,⟨O,O,O,O⟩,Bc _,Bc _,Bc _,Bc _,Gf _,L⟩,?_⟩;rintro m σ H2 ⟨e,x,y,u,v,g,rfl,rfl,r,l2,j⟩;refine⟨_,O,_,_,O,O,_,O,Ay (λJ=>?_) (λJ=>?_)⟩
 ·refine⟨_,O,e,O,⟨_,Ax.of l2⟩,λacc f=>?_⟩;refine uJ (ns:=[x,y,u,v]) (fr:=[]) (λn=>.bl (decide (V.int (n%2)=V.int 0))) (Ax.of l2) t4 f (λn s N _ C=>?_) (λs p S=>?_)
  ·exact⟨_,O,_,_,O,O,pR,O,C⟩
  refine⟨acc,[x,y,u,v].map λn=>decide (V.int (n%2)=V.int 0),O,Ax.of (by rw[S];rfl),_,O,Js (λc=>?_) (λc=>?_)⟩
  ·have l3:=p _ _ l2;refine⟨_,λ_ _ h=>h,_,O,e,O,⟨_,Ax.of l3⟩,λU D=>?_⟩;refine uJ (ns:=[x,y,u,v]) (fr:=[]) (λn=>.int (n / 2)) (Ax.of l3) t4 D (λn s N _ C=>?_) (λW T M=>?_)
   ·exact⟨_,O,_,_,O,O,⟨by decide,by decide⟩,C⟩
   refine⟨_,O,_,_,O,O,?_⟩;refine⟨(g-1).toNat,by lia,U,x / 2,y / 2,u / 2,v / 2,g-1,O,O,r.trans (p.trans T),M,j.half J (WM.mp c)⟩
  ·have l3:Ax K s e ([x,y,u,v].map V.int):=Ax.of (p _ _ l2);have o:x%2=1\/y%2=1\/u%2=1\/v%2=1:=by
    have:¬ (x%2=0/\y%2=0/\u%2=0/\v%2=0):=λz=>by rw[WM.mpr z]at c;cases c
    lia
   refine⟨_,O,e,_,_,_,O,O,l3,O,_,O,e,_,_,_,O,O,l3,O,_,O,e,_,_,_,O,O,l3,O,_,O,e,_,_,_,O,O,l3,O,_,O,t5,λt A=>?_⟩;exact q t _ x y u v g (r.trans (p.trans (BW A _))) Az (j.red (.inr o))
 ·have l3:Ax K H2 e ([x,y,u,v].map V.int):=Ax.of l2;refine⟨_,O,e,_,_,_,O,O,l3,O,_,O,e,_,_,_,O,O,l3,O,_,O,e,_,_,_,O,O,l3,O,_,O,e,_,_,_,O,O,l3,O,_,O,t5,λt A=>?_⟩;exact q t _ x y u v g (r.trans (BW A _)) Az (j.red (.inl (by have:=j.nn;lia)))
end
end Al
noncomputable section
namespace Al
open L2 Ba
namespace Hd
open PySem.W
set_option maxHeartbeats 0
noncomputable abbrev pr:Program:=PySem.Challenge.pw_spinboard_k65_whole_shares_by_marks
abbrev kh:=PyData.keyHash
noncomputable def jm (s:Stmt):Pos:=match s with
 | .FunctionDef _ _ _ _ _ _ _ _ _ p=>p
 | _=>⟨0,0,0,0⟩
noncomputable def life:Life:=(Life.mk [] [] [] 0 [] [] false #[] [] 0 false false false 0 [2000,10,10] false 0 true [] [] 0 false)
noncomputable def en:Env:={ scope:=pr.main.scope,locals:=mainNs,globals:=mainNs,cells:=[],code:=(.ref 13),frame:=some 14}
noncomputable def dn (P:Params)(x:Str)(t:Nat)(v:W4):DictEntry:=DictEntry.mk (kh P x) (.str x t) v
noncomputable def Ht (n:Str)(t1:Nat)(q:Str)(t2 t3:Nat)(i1 i2 i3 i4 i5:Int)(r1:Y1)(b:Bool)(i6:Int)(r2:Y1)(v1 v2 v3:W4)(i7 i8:Int)(t4:Nat):Obj:=Obj.mk (.type "code") none (Data.fields #[.str n t1,.str q t2,.str "/claim/cut.py" t3,.int i1 0,.int i2 0,.int i3 0,.int i4 0,.int i5 0,.ref r1,.bool b,.int i6 0,.ref r2,.none,v1,v2,v3,.int i7 0,.int i8 0,.str "/claim/cut.py" t4]) #[]
noncomputable def Rz (n q:Str)(s:Stmt)(k j:Nat):Obj:=Obj.mk .none none (Data.func (FuncData.mk n q (Dv s) (FuncBody.stmts (DW s)) (CV s) k [] .none .none .none .none none .none .none j)) #[]
noncomputable def Ry (n q:Str)(s:Stmt)(k:Nat)(m:Str)(t:Nat)(c:Y1)(j:Nat):Obj:=Obj.mk (.type "function") none (Data.func (FuncData.mk n q (Dv s) (FuncBody.stmts (DW s)) (CV s) k [] .none .none .none (.str m t) none (.ref c) .none j)) #[]
noncomputable def yR (T:String)(n:Nat):Obj:=Obj.mk (.type T) none (Data.seq #[] n) #[]
noncomputable def tq (a:U9):Obj:=Obj.mk (.type "tuple") none (Data.seq a 0) #[]
noncomputable def Ig:Obj:=Obj.mk .none none (Data.fields #[]) #[]
abbrev Pz:=Params
noncomputable abbrev tz:Obj:=yR "tuple" 0
noncomputable def iL (t:BT):List (Nat×Obj)->BT
 | []=>t
 | x::l=>iL (t.ins x.1 x.2) l
noncomputable def iF (t:BT):Nat->List Obj->BT
 | _,[]=>t
 | n,x::l=>iF (t.ins n x) (n+1) l
noncomputable def Er (l:List DictEntry)(n:Nat):Obj:=Obj.mk (.type "dict") none (Data.dict (Array.mk l) n) #[]
noncomputable def Dc (l:U5):Obj:=Obj.mk .none none (Data.fields (Array.mk l)) #[]
noncomputable def nt:Nat->List Str->List Value
 | _,[]=>[]
 | t,x::l=>.str x t::nt (t+1) l
noncomputable def dd (m:Str)(mt:Nat)(n:Str)(i:Nat)(l k:Int)(a t:Nat):List Str->List Obj
 | []=>[tz,Ig,Rz n n (top i) 0 0,Ht n t n (t+1) (t+2) l k 0 0 3 a true 181 (a+1) .none .none (.ref (a+2)) ((t+3:Nat):Int) l (t+4),Ry n n (top i) 3 m mt (a+3) 0]
 | x::xs=>[tz,Ig,Obj.mk (.type "tuple") none (Data.seq (Array.mk (nt (t+3) (x::xs))) 0) #[],tz,Rz n n (top i) 0 0,Ht n t n (t+1) (t+2) l k 0 0 3 a true 181 (a+1) (.ref (a+2)) (.ref (a+3)) (.ref (a+4)) ((t+4+xs.length:Nat):Int) l (t+5+xs.length),Ry n n (top i) 3 m mt (a+5) 0]
noncomputable def co (n:Str)(A t:Nat):Obj:=Obj.mk (.type "type") none (Data.cls (ClassData.mk n [(.ref 24)] [(.ref (A+9)),(.ref 24),(.type "ValueError"),(.type "Exception"),(.type "BaseException"),(.type "object")] (A+8) n true [] [] false none false)) #[(some (.ref A)),none,(some (.str n t)),(some (.str n (t+8))),(some (.builtin "ValueError.__new__")),(some (.bool true))]
noncomputable def KN (l:W5):Obj:=Obj.mk (.type "type") none (Data.cls (ClassData.mk "BoardError" [(.type "ValueError")] [(.ref 24),(.type "ValueError"),(.type "Exception"),(.type "BaseException"),(.type "object")] 23 "BoardError" true [] (l.map Value.ref) false none false)) #[(some (.ref 15)),none,(some (.str "BoardError" 189)),(some (.str "BoardError" 197)),(some (.builtin "ValueError.__new__")),(some (.bool true))]
noncomputable def jk (n:Str)(i:Nat)(l k:Int)(a t:Nat)(ns:W0):List Obj:=dd "spinboard.shares" 412 n i l k a t ns
noncomputable def Qg (n:Str)(i:Nat)(l k:Int)(a t:Nat)(ns:W0):List Obj:=dd "spinboard.amounts" 462 n i l k a t ns
noncomputable def jj (n:Str)(i:Nat)(l k:Int)(a t:Nat)(ns:W0):List Obj:=dd "spinboard.marks" 529 n i l k a t ns
noncomputable def qD (n:Str)(i:Nat)(l k:Int)(a t:Nat)(ns:W0):List Obj:=dd "spinboard.boards" 555 n i l k a t ns
noncomputable def _E (n:Str)(i:Nat)(l k:Int)(a t:Nat)(ns:W0):List Obj:=dd "spinboard.looks" 593 n i l k a t ns
noncomputable def Oz (n:Str)(i:Nat)(l k:Int)(a t:Nat)(ns:W0):List Obj:=dd "spinboard.moves" 602 n i l k a t ns
noncomputable def R4 (n:Str)(i:Nat)(l k:Int)(a t:Nat)(ns:W0):List Obj:=dd "spinboard.tableturns" 695 n i l k a t ns
noncomputable def R3 (n:Str)(i:Nat)(l k:Int)(a t:Nat)(ns:W0):List Obj:=dd "spinboard.sums" 765 n i l k a t ns
noncomputable def z_ (n:Str)(i:Nat)(l k:Int)(a t:Nat)(ns:W0):List Obj:=dd "spinboard.rows" 827 n i l k a t ns
noncomputable abbrev e9 (n:Str)(i c:Nat):Obj:=Ry n n (top i) 3 "law_spinboard_k65_whole_shares_by_marks" 839 c 0
noncomputable def Hs (n:Str)(i:Nat)(l k:Int)(a t:Nat)(ns:W0):List Obj:=dd "law_spinboard_k65_whole_shares_by_marks" 839 n i l k a t ns
def jK(P:Pz):=(Ht "<module>" 182 "<module>" 183 184 1 0 0 0 0 11 false 181 12 .none .none .none 185 1 186)
noncomputable def jB(P:Pz):=Obj.mk (.type "frame") none Data.plain #[(some (.ref 13)),(some (.ref 3)),(some (.ref 3)),none,(some (.str "__main__" 164)),none,(some (.ref 0))]
def Ha (P:Pz):Heap:=Heap.mk (Array.mk [boot_o_0 P,boot_o_1 P,boot_o_2 P,boot_o_3 P,boot_o_4 P,boot_o_5 P,boot_o_6 P,boot_o_7 P,boot_o_8 P,boot_o_9 P,boot_o_10 P,tz,Ig,jK P,jB P]) life
def T0 (P:Pz):BT:=(.node (boot_o_0 P) (.node (boot_o_1 P) (.node (boot_o_3 P) (.node (boot_o_7 P) .nil .nil) (.node tz .nil .nil)) (.node (boot_o_5 P) (.node (boot_o_9 P) .nil .nil) (.node (jK P) .nil .nil))) (.node (boot_o_2 P) (.node (boot_o_4 P) (.node (boot_o_8 P) .nil .nil) (.node Ig .nil .nil)) (.node (boot_o_6 P) (.node (boot_o_10 P) .nil .nil) (.node (jB P) .nil .nil))))
noncomputable def l0:List Stmt:=[top 0,top 1]
noncomputable def l1:List Stmt:=[top 2]
noncomputable def l2:List Stmt:=[top 3]
noncomputable def l3:List Stmt:=[top 4]
noncomputable def l4:List Stmt:=[top 5]
noncomputable def l5:List Stmt:=[top 6]
noncomputable def l6:List Stmt:=[top 7]
noncomputable def l7:List Stmt:=[top 8]
noncomputable def l8:List Stmt:=[top 9]
noncomputable def l9:List Stmt:=[top 10]
noncomputable def l10:List Stmt:=[top 11]
noncomputable def pq:List Stmt:=[top 12,top 13,top 14,top 15,top 16,top 17]
noncomputable def pZ:List Stmt:=[top 18,top 19,top 20,top 21,top 22,top 23,top 24,top 25,top 26,top 27,top 28,top 29,top 30,top 31,top 32]
noncomputable def Vh:List Stmt:=[top 33,top 34,top 35,top 36,top 37,top 38,top 39,top 40,top 41,top 42,top 43,top 44,top 45,top 46]
noncomputable def pY:List Stmt:=[top 47,top 48,top 49,top 50,top 51,top 52,top 53,top 54,top 55,top 56,top 57,top 58,top 59,top 60,top 61]
noncomputable def pX:List Stmt:=[top 62,top 63,top 64,top 65,top 66,top 67,top 68,top 69,top 70,top 71,top 72,top 73,top 74,top 75,top 76]
noncomputable def pW:List Stmt:=[top 77,top 78,top 79,top 80,top 81,top 82,top 83,top 84,top 85,top 86,top 87,top 88]
noncomputable def pU:List Stmt:=[top 89]
noncomputable def bE:List Stmt:=l0++(l1++(l2++(l3++(l4++(l5++(l6++(l7++(l8++(l9++(l10++(pq++(pZ++(Vh++(pY++(pX++(pW++(pU++[])))))))))))))))))
noncomputable abbrev cE:Code:=Code.body bE en
noncomputable abbrev BB:List Frame:=[topFrame (Pos.mk 0 0 0 0)]
theorem dw(w:W3)(os:OsState):topGo treeTable pr w 11 (some (.ref 6)) 12 (Shared.mk (boot_heap w.params) (Array.mk []) boot_drawn boot_toks os) (topStub pr)=some (Shared.mk (Ha w.params) (Array.mk []) (Drawn.mk 0 0 0 0) 187 os,Thread.mk (denote treeTable cE) cE (Pos.mk 0 0 0 0) BB):=by rw[PySem.W.Fast.te15667345088766844465,PySem.W.Fast.te11892475500146522536,PySem.W.Fast.te14364793385576792824];kernel_rfl
theorem W0m(w:W3)(os:OsState):segRun treeTable pr w 11 (some (.ref 6)) 1 1 (Shared.mk (Ha w.params) (Array.mk []) (Drawn.mk 0 0 0 0) 187 os) (blockOf bE en cE (Pos.mk 0 0 0 0) BB)=some (Flow.next,(SharedT.mk (T0 w.params) 15 life (Array.mk []) (Drawn.mk 0 0 0 0) 187 os).abs,cE,(Pos.mk 0 0 0 0)):=by rw[PySem.W.Fast.te14374325043358763698,PySem.W.Fast.te14364793385576792824];kernel_rfl
noncomputable def T_(P:Pz):List DictEntry:=[(dn P "__doc__" 166 .none),(dn P "__package__" 167 .none),(dn P "__loader__" 168 (.builtin "__main__.__loader__#opaque")),(dn P "__spec__" 169 .none),(dn P "__annotations__" 170 (.ref 6)),(dn P "__builtins__" 171 (.ref 4)),(dn P "__file__" 173 (.str "/claim/cut.py" 172)),(dn P "__cached__" 174 .none),(dn P "BoardError" 206 (.ref 24))]
def fj(P:Pz):=Er ((dn P "__name__" 165 (.str "spinboard.errors" 187))::T_ P) 10
noncomputable def vW(P:Pz):List Value:=[(.int 2 0),(.int 0 0),(.ref 20)]
def W2h(P:Pz):=Dc (vW P)
def zJ(P:Pz):=tq #[(.type "ValueError")]
noncomputable def Vx(P:Pz):=Obj.mk (.type "builtin_function_or_method") none (Data.fields #[(.builtin "type.__prepare__"),(.type "type")]) #[]
def zH(P:Pz):=Er [(dn P "__module__" 196 (.str "spinboard.errors" 187)),(dn P "__qualname__" 198 (.str "BoardError" 197)),(dn P "__firstlineno__" 200 (.int 2 199)),(dn P "__static_attributes__" 201 (.ref 22))] 4
def zG(P:Pz):=(Ht "BoardError" 191 "BoardError" 192 193 2 0 0 0 0 18 false 181 19 .none .none .none 194 2 195)
noncomputable def zF(P:Pz):=Obj.mk (.type "frame") none Data.plain #[(some (.ref 20)),(some (.ref 3)),(some (.ref 17)),none,(some (.str "spinboard.errors" 187)),none,(some (.ref 0))]
def zE(P:Pz):=Er [(dn P "__module__" 196 (.str "spinboard.errors" 187)),(dn P "__firstlineno__" 200 (.int 2 199)),(dn P "__static_attributes__" 201 (.ref 22)),(dn P "__weakref__" 203 (.ref 25)),(dn P "__doc__" 204 .none)] 3
def W1z(P:Pz):=KN []
noncomputable def zB(P:Pz):=Obj.mk (.type "getset_descriptor") none (Data.fields #[(.str "__weakref__" 202),(.ref 24),(.builtin "ExceptionGroup.__weakref__"),.none]) #[]
noncomputable def zA(P:Pz):=Obj.mk (.type "super") none (Data.fields #[(.ref 24),(.ref 24),(.ref 24)]) #[]
noncomputable def yx(P:Pz):=Obj.mk (.type "builtin_function_or_method") none (Data.fields #[(.builtin "object.__init_subclass__"),(.ref 24)]) #[]
def x1(P:Pz):List Obj:=[zJ P,Vx P,zH P,tz,Ig,zG P,zF P,tz,zE P,W1z P,zB P,zA P,yx P]
def T1 (P:Pz):BT:=iF (iL (T0 P) [(3,fj P),(12,W2h P)]) 15 (x1 P)
abbrev gs (p:U8)(b:Y0)(w:W3)(os:OsState)(k:Nat)(T:Pz->BT)(n t:Nat)(l:Y0)(q:Pos)(T':Pz->BT)(n' t':Nat)(q':Pos):Prop:=segRunT treeTable p w 11 (some (.ref 6)) 1 k (SharedT.mk (T w.params) n life (Array.mk []) (Drawn.mk 0 0 0 0) t os) (piecesOf l en (Code.body b en) q BB)=some (Flow.next,(SharedT.mk (T' w.params) n' life (Array.mk []) (Drawn.mk 0 0 0 0) t' os),Code.body b en,q')
theorem g0(p:U8)(b:Y0)(w:W3)(os:OsState):gs p b w os 196 T0 15 187 l0 (Pos.mk 0 0 0 0) T1 28 207 (Pos.mk 2 0 3 8):=by unfold gs;rw[PySem.W.Fast.te10110043849684766642,PySem.W.Fast.te14364793385576792824];kernel_rfl
def Tz(P:Pz):List DictEntry:=T_ P++[(dn P "NoShare" 222 (.ref 37))]
def fZ(P:Pz):=Er ((dn P "__name__" 165 (.str "spinboard.errors" 187))::Tz P) 11
def vX(P:Pz):List Value:=vW P++[(.int 4 0),(.int 0 0),(.ref 33)]
def W2g(P:Pz):=Dc (vX P)
def W1y(P:Pz):=KN [37]
def Ye(P:Pz):=tq #[(.ref 24)]
def cc (P:Pz)(n:Str)(l:Int)(A t:Nat):List Obj:=[Ye P,Vx P,Er [(dn P "__module__" (t+7) (.str "spinboard.errors" 187)),(dn P "__qualname__" (t+9) (.str n (t+8))),(dn P "__firstlineno__" (t+11) (.int l (t+10))),(dn P "__static_attributes__" (t+12) (.ref (A+7)))] 4,tz,Ig,Ht n (t+2) n (t+3) (t+4) l 0 0 0 0 (A+3) false 181 (A+4) .none .none .none ((t+5:Nat):Int) l (t+6),Obj.mk (.type "frame") none Data.plain #[(some (.ref (A+5))),(some (.ref 3)),(some (.ref (A+2))),none,(some (.str "spinboard.errors" 187)),none,(some (.ref 0))],tz,Er [(dn P "__module__" (t+7) (.str "spinboard.errors" 187)),(dn P "__firstlineno__" (t+11) (.int l (t+10))),(dn P "__static_attributes__" (t+12) (.ref (A+7))),(dn P "__doc__" (t+13) .none)] 2,co n A t,Obj.mk (.type "super") none (Data.fields #[(.ref (A+9)),(.ref (A+9)),(.ref (A+9))]) #[],Obj.mk (.type "builtin_function_or_method") none (Data.fields #[(.builtin "object.__init_subclass__"),(.ref (A+9))]) #[]]
def j37(P:Pz):=co "NoShare" 28 207
def x2(P:Pz):List Obj:=cc P "NoShare" 4 28 207
def T2 (P:Pz):BT:=iF (iL (T1 P) [(3,fZ P),(12,W2g P),(24,W1y P)]) 28 (x2 P)
theorem g1(p:U8)(b:Y0)(w:W3)(os:OsState):gs p b w os 214 T1 28 207 l1 (Pos.mk 2 0 3 8) T2 40 223 (Pos.mk 4 0 5 8):=by unfold gs;rw[PySem.W.Fast.te10110043849684766642,PySem.W.Fast.te14364793385576792824];kernel_rfl
def Tw(P:Pz):List DictEntry:=Tz P++[(dn P "NoAmount" 238 (.ref 49))]
def fY(P:Pz):=Er ((dn P "__name__" 165 (.str "spinboard.errors" 187))::Tw P) 12
def vY(P:Pz):List Value:=vX P++[(.int 6 0),(.int 0 0),(.ref 45)]
def W2f(P:Pz):=Dc (vY P)
def W1x(P:Pz):=KN [37,49]
def j49(P:Pz):=co "NoAmount" 40 223
def x3(P:Pz):List Obj:=cc P "NoAmount" 6 40 223
def T3 (P:Pz):BT:=iF (iL (T2 P) [(3,fY P),(12,W2f P),(24,W1x P)]) 40 (x3 P)
theorem g2(p:U8)(b:Y0)(w:W3)(os:OsState):gs p b w os 214 T2 40 223 l2 (Pos.mk 4 0 5 8) T3 52 239 (Pos.mk 6 0 7 8):=by unfold gs;rw[PySem.W.Fast.te10110043849684766642,PySem.W.Fast.te14364793385576792824];kernel_rfl
def Tv(P:Pz):List DictEntry:=Tw P++[(dn P "NoMark" 254 (.ref 61))]
def fX(P:Pz):=Er ((dn P "__name__" 165 (.str "spinboard.errors" 187))::Tv P) 13
def vZ(P:Pz):List Value:=vY P++[(.int 8 0),(.int 0 0),(.ref 57)]
def W2e(P:Pz):=Dc (vZ P)
def W1w(P:Pz):=KN [37,49,61]
def j61(P:Pz):=co "NoMark" 52 239
def x4(P:Pz):List Obj:=cc P "NoMark" 8 52 239
def T4 (P:Pz):BT:=iF (iL (T3 P) [(3,fX P),(12,W2e P),(24,W1w P)]) 52 (x4 P)
theorem g3(p:U8)(b:Y0)(w:W3)(os:OsState):gs p b w os 214 T3 52 239 l3 (Pos.mk 6 0 7 8) T4 64 255 (Pos.mk 8 0 9 8):=by unfold gs;rw[PySem.W.Fast.te10110043849684766642,PySem.W.Fast.te14364793385576792824];kernel_rfl
def Tt(P:Pz):List DictEntry:=Tv P++[(dn P "NoBoard" 270 (.ref 73))]
def fW(P:Pz):=Er ((dn P "__name__" 165 (.str "spinboard.errors" 187))::Tt P) 14
def vf(P:Pz):List Value:=vZ P++[(.int 10 0),(.int 0 0),(.ref 69)]
def W2d(P:Pz):=Dc (vf P)
def W1v(P:Pz):=KN [37,49,61,73]
def j73(P:Pz):=co "NoBoard" 64 255
def x5(P:Pz):List Obj:=cc P "NoBoard" 10 64 255
def T5 (P:Pz):BT:=iF (iL (T4 P) [(3,fW P),(12,W2d P),(24,W1v P)]) 64 (x5 P)
theorem g4(p:U8)(b:Y0)(w:W3)(os:OsState):gs p b w os 214 T4 64 255 l4 (Pos.mk 8 0 9 8) T5 76 271 (Pos.mk 10 0 11 8):=by unfold gs;rw[PySem.W.Fast.te10110043849684766642,PySem.W.Fast.te14364793385576792824];kernel_rfl
def Tq(P:Pz):List DictEntry:=Tt P++[(dn P "NoMove" 286 (.ref 85))]
def fV(P:Pz):=Er ((dn P "__name__" 165 (.str "spinboard.errors" 187))::Tq P) 15
def vg(P:Pz):List Value:=vf P++[(.int 12 0),(.int 0 0),(.ref 81)]
def W2c(P:Pz):=Dc (vg P)
def W1u(P:Pz):=KN [37,49,61,73,85]
def j85(P:Pz):=co "NoMove" 76 271
def x6(P:Pz):List Obj:=cc P "NoMove" 12 76 271
def T6 (P:Pz):BT:=iF (iL (T5 P) [(3,fV P),(12,W2c P),(24,W1u P)]) 76 (x6 P)
theorem g5(p:U8)(b:Y0)(w:W3)(os:OsState):gs p b w os 214 T5 76 271 l5 (Pos.mk 10 0 11 8) T6 88 287 (Pos.mk 12 0 13 8):=by unfold gs;rw[PySem.W.Fast.te10110043849684766642,PySem.W.Fast.te14364793385576792824];kernel_rfl
def Tp(P:Pz):List DictEntry:=Tq P++[(dn P "NoCell" 302 (.ref 97))]
def fU(P:Pz):=Er ((dn P "__name__" 165 (.str "spinboard.errors" 187))::Tp P) 16
def vh(P:Pz):List Value:=vg P++[(.int 14 0),(.int 0 0),(.ref 93)]
def W2b(P:Pz):=Dc (vh P)
def W1t(P:Pz):=KN [37,49,61,73,85,97]
def j97(P:Pz):=co "NoCell" 88 287
def x7(P:Pz):List Obj:=cc P "NoCell" 14 88 287
def T7 (P:Pz):BT:=iF (iL (T6 P) [(3,fU P),(12,W2b P),(24,W1t P)]) 88 (x7 P)
theorem g6(p:U8)(b:Y0)(w:W3)(os:OsState):gs p b w os 214 T6 88 287 l6 (Pos.mk 12 0 13 8) T7 100 303 (Pos.mk 14 0 15 8):=by unfold gs;rw[PySem.W.Fast.te10110043849684766642,PySem.W.Fast.te14364793385576792824];kernel_rfl
def Tn(P:Pz):List DictEntry:=Tp P++[(dn P "NeverSo" 318 (.ref 109))]
def fQ(P:Pz):=Er ((dn P "__name__" 165 (.str "spinboard.errors" 187))::Tn P) 17
def vm(P:Pz):List Value:=vh P++[(.int 16 0),(.int 0 0),(.ref 105)]
def W2a(P:Pz):=Dc (vm P)
def W1s(P:Pz):=KN [37,49,61,73,85,97,109]
def zL(P:Pz):=co "NeverSo" 100 303
def x8(P:Pz):List Obj:=cc P "NeverSo" 16 100 303
def T8 (P:Pz):BT:=iF (iL (T7 P) [(3,fQ P),(12,W2a P),(24,W1s P)]) 100 (x8 P)
theorem g7(p:U8)(b:Y0)(w:W3)(os:OsState):gs p b w os 214 T7 100 303 l7 (Pos.mk 14 0 15 8) T8 112 319 (Pos.mk 16 0 17 8):=by unfold gs;rw[PySem.W.Fast.te10110043849684766642,PySem.W.Fast.te14364793385576792824];kernel_rfl
def vp(P:Pz):List DictEntry:=Tn P++[(dn P "NoTable" 334 (.ref 121))]
def W1r(P:Pz):=Er ((dn P "__name__" 165 (.str "spinboard.errors" 187))::vp P) 18
def xZ(P:Pz):List Value:=vm P++[(.int 18 0),(.int 0 0),(.ref 117)]
def X9s(P:Pz):=Dc (xZ P)
def X9j(P:Pz):=KN [37,49,61,73,85,97,109,121]
def zK(P:Pz):=co "NoTable" 112 319
def x9(P:Pz):List Obj:=cc P "NoTable" 18 112 319
def T9 (P:Pz):BT:=iF (iL (T8 P) [(3,W1r P),(12,X9s P),(24,X9j P)]) 112 (x9 P)
theorem g8(p:U8)(b:Y0)(w:W3)(os:OsState):gs p b w os 214 T8 112 319 l8 (Pos.mk 16 0 17 8) T9 124 335 (Pos.mk 18 0 19 8):=by unfold gs;rw[PySem.W.Fast.te10110043849684766642,PySem.W.Fast.te14364793385576792824];kernel_rfl
def vq(P:Pz):List DictEntry:=vp P++[(dn P "NoText" 359 (.ref 140))]
def W1q(P:Pz):=Er ((dn P "__name__" 165 (.str "spinboard.errors" 187))::vq P) 19
def xg(P:Pz):List Value:=xZ P++[(.int 20 0),(.int 0 0),(.ref 129)]
def X9r(P:Pz):=Dc (xg P)
def X9i(P:Pz):=KN [37,49,61,73,85,97,109,121,140]
def jN(P:Pz):=Er [(dn P "__module__" 342 (.str "spinboard.errors" 187)),(dn P "__qualname__" 344 (.str "NoText" 343)),(dn P "__firstlineno__" 346 (.int 20 345)),(dn P "__init__" 354 (.ref 137)),(dn P "__static_attributes__" 356 (.ref 138))] 5
noncomputable def jM(P:Pz):=Obj.mk .none none (Data.fields #[(.int 22 0),(.int 4 0),(.ref 136)]) #[]
def jL(P:Pz):=(Ht "NoText" 337 "NoText" 338 339 20 0 0 0 0 127 false 181 128 .none .none .none 340 20 341)
noncomputable def jJ(P:Pz):=Obj.mk (.type "frame") none Data.plain #[(some (.ref 129)),(some (.ref 3)),(some (.ref 126)),none,(some (.str "spinboard.errors" 187)),none,(some (.ref 0))]
def jH(P:Pz):=tq #[(.str "self" 350),(.str "place" 351)]
noncomputable def jG(P:Pz):=Obj.mk .none none (Data.func (FuncData.mk "__init__" "NoText.__init__" (Dv (Ju (top 10) 0)) (FuncBody.stmts (DW (Ju (top 10) 0))) (CV (Ju (top 11) 0)) 0 [] .none .none .none .none none .none .none 0)) #[]
def jF(P:Pz):=(Ht "__init__" 347 "NoText.__init__" 348 349 22 2 0 0 3 131 true 181 132 (.ref 133) (.ref 134) (.ref 135) 352 22 353)
noncomputable def jE(P:Pz):=Obj.mk (.type "function") none (Data.func (FuncData.mk "__init__" "NoText.__init__" (Dv (Ju (top 10) 0)) (FuncBody.stmts (DW (Ju (top 10) 0))) (CV (Ju (top 11) 0)) 3 [] .none .none .none (.str "spinboard.errors" 187) none (.ref 136) .none 0)) #[]
def jD(P:Pz):=tq #[(.str "place" 355)]
def jC(P:Pz):=Er [(dn P "__module__" 342 (.str "spinboard.errors" 187)),(dn P "__firstlineno__" 346 (.int 20 345)),(dn P "__init__" 354 (.ref 137)),(dn P "__static_attributes__" 356 (.ref 138)),(dn P "__doc__" 357 .none)] 2
noncomputable def jA(P:Pz):=Obj.mk (.type "type") none (Data.cls (ClassData.mk "NoText" [(.ref 24)] [(.ref 140),(.ref 24),(.type "ValueError"),(.type "Exception"),(.type "BaseException"),(.type "object")] 139 "NoText" true [] [] false none false)) #[(some (.ref 124)),none,(some (.str "NoText" 335)),(some (.str "NoText" 343)),(some (.builtin "ValueError.__new__")),(some (.bool true))]
noncomputable def i_(P:Pz):=Obj.mk (.type "super") none (Data.fields #[(.ref 140),(.ref 140),(.ref 140)]) #[]
noncomputable def iw(P:Pz):=Obj.mk (.type "builtin_function_or_method") none (Data.fields #[(.builtin "object.__init_subclass__"),(.ref 140)]) #[]
def x10(P:Pz):List Obj:=[Ye P,Vx P,jN P,tz,jM P,jL P,jJ P,tz,Ig,jH P,tz,jG P,jF P,jE P,jD P,jC P,jA P,i_ P,iw P]
def Tf (P:Pz):BT:=iF (iL (T9 P) [(3,W1q P),(12,X9r P),(24,X9i P)]) 124 (x10 P)
theorem g9(p:U8)(b:Y0)(w:W3)(os:OsState):gs p b w os 246 T9 124 335 l9 (Pos.mk 18 0 19 8) Tf 143 360 (Pos.mk 20 0 23 26):=by unfold gs;rw[PySem.W.Fast.te10110043849684766642,PySem.W.Fast.te14364793385576792824];kernel_rfl
def wA(P:Pz):List DictEntry:=vq P++[(dn P "NotBorne" 384 (.ref 159))]
def W1p(P:Pz):=Er ((dn P "__name__" 165 (.str "spinboard.errors" 187))::wA P) 20
def xq(P:Pz):List Value:=xg P++[(.int 24 0),(.int 0 0),(.ref 148)]
def X9q(P:Pz):=Dc (xq P)
def X9h(P:Pz):=KN [37,49,61,73,85,97,109,121,140,159]
def iu(P:Pz):=Er [(dn P "__module__" 367 (.str "spinboard.errors" 187)),(dn P "__qualname__" 369 (.str "NotBorne" 368)),(dn P "__firstlineno__" 371 (.int 24 370)),(dn P "__init__" 379 (.ref 156)),(dn P "__static_attributes__" 381 (.ref 157))] 5
noncomputable def ig(P:Pz):=Obj.mk .none none (Data.fields #[(.int 26 0),(.int 4 0),(.ref 155)]) #[]
def iZ(P:Pz):=(Ht "NotBorne" 362 "NotBorne" 363 364 24 0 0 0 0 146 false 181 147 .none .none .none 365 24 366)
noncomputable def iY(P:Pz):=Obj.mk (.type "frame") none Data.plain #[(some (.ref 148)),(some (.ref 3)),(some (.ref 145)),none,(some (.str "spinboard.errors" 187)),none,(some (.ref 0))]
def iW(P:Pz):=tq #[(.str "self" 375),(.str "place" 376)]
def iV(P:Pz):=(Rz "__init__" "NotBorne.__init__" (Ju (top 11) 0) 0 0)
def iU(P:Pz):=(Ht "__init__" 372 "NotBorne.__init__" 373 374 26 2 0 0 3 150 true 181 151 (.ref 152) (.ref 153) (.ref 154) 377 26 378)
def Vz(P:Pz):=(Ry "__init__" "NotBorne.__init__" (Ju (top 11) 0) 3 "spinboard.errors" 187 155 0)
def iT(P:Pz):=tq #[(.str "place" 380)]
def iR(P:Pz):=Er [(dn P "__module__" 367 (.str "spinboard.errors" 187)),(dn P "__firstlineno__" 371 (.int 24 370)),(dn P "__init__" 379 (.ref 156)),(dn P "__static_attributes__" 381 (.ref 157)),(dn P "__doc__" 382 .none)] 2
noncomputable def Vy(P:Pz):=Obj.mk (.type "type") none (Data.cls (ClassData.mk "NotBorne" [(.ref 24)] [(.ref 159),(.ref 24),(.type "ValueError"),(.type "Exception"),(.type "BaseException"),(.type "object")] 158 "NotBorne" true [] [] false none false)) #[(some (.ref 143)),none,(some (.str "NotBorne" 360)),(some (.str "NotBorne" 368)),(some (.builtin "ValueError.__new__")),(some (.bool true))]
noncomputable def iQ(P:Pz):=Obj.mk (.type "super") none (Data.fields #[(.ref 159),(.ref 159),(.ref 159)]) #[]
noncomputable def iM(P:Pz):=Obj.mk (.type "builtin_function_or_method") none (Data.fields #[(.builtin "object.__init_subclass__"),(.ref 159)]) #[]
def x11(P:Pz):List Obj:=[Ye P,Vx P,iu P,tz,ig P,iZ P,iY P,tz,Ig,iW P,tz,iV P,iU P,Vz P,iT P,iR P,Vy P,iQ P,iM P]
def nY (P:Pz):BT:=iF (iL (Tf P) [(3,W1p P),(12,X9q P),(24,X9h P)]) 143 (x11 P)
theorem zW(p:U8)(b:Y0)(w:W3)(os:OsState):gs p b w os 246 Tf 143 360 l10 (Pos.mk 20 0 23 26) nY 162 385 (Pos.mk 24 0 27 26):=by unfold gs;rw[PySem.W.Fast.te10110043849684766642,PySem.W.Fast.te14364793385576792824];kernel_rfl
def wB(P:Pz):List DictEntry:=wA P++[(dn P "Unguarded" 411 (.ref 178)),(dn P "is_whole" 420 (.ref 187)),(dn P "share" 432 (.ref 195)),(dn P "common_divisor" 441 (.ref 202)),(dn P "share_plus" 451 (.ref 209))]
def W1o(P:Pz):=Er ((dn P "__name__" 165 (.str "spinboard.shares" 412))::wB P) 25
def xr(P:Pz):List Value:=xq P++[(.int 28 0),(.int 0 0),(.ref 167),(.int 34 0),(.int 0 0),(.ref 186),(.int 36 0),(.int 0 0),(.ref 194),(.int 45 0),(.int 0 0),(.ref 201),(.int 51 0),(.int 0 0),(.ref 208)]
def X9p(P:Pz):=Dc (xr P)
def lU(P:Pz):=KN [37,49,61,73,85,97,109,121,140,159,178]
def iK(P:Pz):=Er [(dn P "__module__" 392 (.str "spinboard.errors" 187)),(dn P "__qualname__" 394 (.str "Unguarded" 393)),(dn P "__firstlineno__" 396 (.int 28 395)),(dn P "__init__" 405 (.ref 175)),(dn P "__static_attributes__" 408 (.ref 176))] 5
noncomputable def iJ(P:Pz):=Obj.mk .none none (Data.fields #[(.int 30 0),(.int 4 0),(.ref 174)]) #[]
def iI(P:Pz):=(Ht "Unguarded" 387 "Unguarded" 388 389 28 0 0 0 0 165 false 181 166 .none .none .none 390 28 391)
noncomputable def iH(P:Pz):=Obj.mk (.type "frame") none Data.plain #[(some (.ref 167)),(some (.ref 3)),(some (.ref 164)),none,(some (.str "spinboard.errors" 187)),none,(some (.ref 0))]
def iG(P:Pz):=tq #[(.str "self" 400),(.str "one" 401),(.str "other" 402)]
def iD(P:Pz):=(Rz "__init__" "Unguarded.__init__" (Ju (top 12) 0) 0 0)
def iC(P:Pz):=(Ht "__init__" 397 "Unguarded.__init__" 398 399 30 3 0 0 3 169 true 181 170 (.ref 171) (.ref 172) (.ref 173) 403 30 404)
def iB(P:Pz):=(Ry "__init__" "Unguarded.__init__" (Ju (top 12) 0) 3 "spinboard.errors" 187 174 0)
def h_(P:Pz):=tq #[(.str "one" 406),(.str "other" 407)]
def g_(P:Pz):=Er [(dn P "__module__" 392 (.str "spinboard.errors" 187)),(dn P "__firstlineno__" 396 (.int 28 395)),(dn P "__init__" 405 (.ref 175)),(dn P "__static_attributes__" 408 (.ref 176)),(dn P "__doc__" 409 .none)] 2
noncomputable def gw(P:Pz):=Obj.mk (.type "type") none (Data.cls (ClassData.mk "Unguarded" [(.ref 24)] [(.ref 178),(.ref 24),(.type "ValueError"),(.type "Exception"),(.type "BaseException"),(.type "object")] 177 "Unguarded" true [] [] false none false)) #[(some (.ref 162)),none,(some (.str "Unguarded" 385)),(some (.str "Unguarded" 393)),(some (.builtin "ValueError.__new__")),(some (.bool true))]
noncomputable def gq(P:Pz):=Obj.mk (.type "super") none (Data.fields #[(.ref 178),(.ref 178),(.ref 178)]) #[]
noncomputable def gn(P:Pz):=Obj.mk (.type "builtin_function_or_method") none (Data.fields #[(.builtin "object.__init_subclass__"),(.ref 178)]) #[]
def Vw(P:Pz):=tq #[(.int 0 421),(.int 1 422)]
def gk(P:Pz):=tq #[(.str "top" 426),(.str "root" 427),(.str "bottom" 428),(.str "common" 429)]
def gj(P:Pz):=(Rz "share" "share" (top 15) 0 0)
def gY(P:Pz):=(Ht "share" 423 "share" 424 425 36 3 0 0 3 189 true 181 190 (.ref 191) (.ref 192) (.ref 193) 430 36 431)
noncomputable def Vv(P:Pz):=Obj.mk (.type "function") none (Data.func (FuncData.mk "share" "share" (Dv (top 15)) (FuncBody.stmts (DW (top 15))) (CV (top 15)) 3 [] (.ref 188) .none .none (.str "spinboard.shares" 412) none (.ref 194) .none 0)) #[]
def gW(P:Pz):=tq #[(.str "one" 445),(.str "other" 446),(.str "top" 447),(.str "root" 448)]
noncomputable def gU(P:Pz):=Obj.mk .none none (Data.func (FuncData.mk "share_plus" "share_plus" (Dv (top 17)) (FuncBody.stmts (DW (top 17))) (CV (top 18)) 0 [] .none .none .none .none none .none .none 0)) #[]
def gR(P:Pz):=(Ht "share_plus" 442 "share_plus" 443 444 51 2 0 0 3 203 true 181 204 (.ref 205) (.ref 206) (.ref 207) 449 51 450)
noncomputable def Vu(P:Pz):=Obj.mk (.type "function") none (Data.func (FuncData.mk "share_plus" "share_plus" (Dv (top 17)) (FuncBody.stmts (DW (top 17))) (CV (top 18)) 3 [] .none .none .none (.str "spinboard.shares" 412) none (.ref 208) .none 0)) #[]
def x12(P:Pz):List Obj:=[Ye P,Vx P,iK P,tz,iJ P,iI P,iH P,tz,Ig,iG P,tz,iD P,iC P,iB P,h_ P,g_ P,gw P,gq P,gn P]++(jk "is_whole" 14 34 1 181 414 ["thing"]++([Vw P,tz,Ig,gk P,tz,gj P,gY P,Vv P]++(jk "common_divisor" 16 45 2 196 433 ["one","other","rest"]++([tz,Ig,gW P,tz,gU P,gR P,Vu P]))))
def nW (P:Pz):BT:=iF (iL (nY P) [(3,W1o P),(12,X9p P),(24,lU P)]) 162 (x12 P)
theorem zU(p:U8)(b:Y0)(w:W3)(os:OsState):gs p b w os 384 nY 162 385 pq (Pos.mk 24 0 27 26) nW 210 452 (Pos.mk 51 0 54 46):=by unfold gs;rw[PySem.W.Fast.te10110043849684766642,PySem.W.Fast.te14364793385576792824];kernel_rfl
def wC(P:Pz):List DictEntry:=wB P++[(dn P "share_times" 461 (.ref 216)),(dn P "halved_out" 477 (.ref 223)),(dn P "plus" 483 (.ref 228)),(dn P "minus" 491 (.ref 235)),(dn P "times" 497 (.ref 240)),(dn P "spun" 507 (.ref 247)),(dn P "spun_once" 514 (.ref 254)),(dn P "rooted" 521 (.ref 261)),(dn P "real_share" 528 (.ref 268)),(dn P "ones" 539 (.ref 275)),(dn P "is_word" 547 (.ref 282)),(dn P "turned_about" 554 (.ref 289))]
def W1n(P:Pz):=Er ((dn P "__name__" 165 (.str "spinboard.boards" 555))::wC P) 37
def xu(P:Pz):List Value:=xr P++[(.int 55 0),(.int 0 0),(.ref 215),(.int 60 0),(.int 0 0),(.ref 222),(.int 67 0),(.int 0 0),(.ref 227),(.int 73 0),(.int 0 0),(.ref 234),(.int 75 0),(.int 0 0),(.ref 239),(.int 82 0),(.int 0 0),(.ref 246),(.int 87 0),(.int 0 0),(.ref 253),(.int 89 0),(.int 0 0),(.ref 260),(.int 91 0),(.int 0 0),(.ref 267),(.int 96 0),(.int 0 0),(.ref 274),(.int 103 0),(.int 0 0),(.ref 281),(.int 107 0),(.int 0 0),(.ref 288)]
def X9o(P:Pz):=Dc (xu P)
def gQ(P:Pz):=tq #[(.str "one" 518)]
noncomputable def gP(P:Pz):=Obj.mk .none none (Data.func (FuncData.mk "rooted" "rooted" (Dv (top 26)) (FuncBody.stmts (DW (top 26))) (CV (top 40)) 0 [] .none .none .none .none none .none .none 0)) #[]
def gK(P:Pz):=(Ht "rooted" 515 "rooted" 516 517 89 1 0 0 3 255 true 181 256 (.ref 257) (.ref 258) (.ref 259) 519 89 520)
noncomputable def Vt(P:Pz):=Obj.mk (.type "function") none (Data.func (FuncData.mk "rooted" "rooted" (Dv (top 26)) (FuncBody.stmts (DW (top 26))) (CV (top 40)) 3 [] .none .none .none (.str "spinboard.amounts" 462) none (.ref 260) .none 0)) #[]
def oG(P:Pz):List Obj:=jk "share_times" 18 55 2 210 452 ["one","other","top","root"]++(Qg "halved_out" 20 60 5 217 464 ["a","b","c","d","h","places","lowest","less"]++(Qg "plus" 21 67 2 224 478 []++(Qg "minus" 22 73 2 229 484 ["one","other"]++(Qg "times" 23 75 2 236 492 []++(Qg "spun" 24 82 2 241 498 ["one","k","turning","step"]++(Qg "spun_once" 25 87 1 248 508 ["one"]++([tz,Ig,gQ P,tz,gP P,gK P,Vt P]++(Qg "real_share" 27 91 1 262 522 ["one"]++(jj "ones" 29 96 1 269 531 ["number","many","rest"]++(jj "is_word" 30 103 2 276 540 ["thing","cells"]++(jj "turned_about" 31 107 1 283 548 ["mark"])))))))))))
def Td (P:Pz):BT:=iF (iL (nW P) [(3,W1n P),(12,X9o P)]) 210 (oG P)
theorem zR(p:U8)(b:Y0)(w:W3)(os:OsState):gs p b w os 387 nW 210 452 pZ (Pos.mk 51 0 54 46) Td 290 557 (Pos.mk 109 0 109 8):=by unfold gs;rw[PySem.W.Fast.te10110043849684766642,PySem.W.Fast.te14364793385576792824];kernel_rfl
def wD(P:Pz):List DictEntry:=wC P++[(dn P "NOUGHT" 562 (.ref 290)),(dn P "ONE" 568 (.ref 291)),(dn P "MOST_CELLS" 570 (.int 6 569)),(dn P "start" 577 (.ref 297)),(dn P "check_beginning" 585 (.ref 304)),(dn P "cells_of" 592 (.ref 311)),(dn P "halved" 601 (.ref 318)),(dn P "NUMBERS_BEHIND" 625 (.ref 319)),(dn P "check_move" 631 (.ref 324)),(dn P "has_move_form" 637 (.ref 329)),(dn P "named_cells" 644 (.ref 336)),(dn P "turned" 650 (.ref 341))]
def W1m(P:Pz):=Er ((dn P "__name__" 165 (.str "spinboard.moves" 602))::wD P) 49
def yC(P:Pz):List Value:=xu P++[(.int 113 0),(.int 0 0),(.ref 296),(.int 116 0),(.int 0 0),(.ref 303),(.int 121 0),(.int 0 0),(.ref 310),(.int 124 0),(.int 0 0),(.ref 317),(.int 128 0),(.int 0 0),(.ref 323),(.int 137 0),(.int 0 0),(.ref 328),(.int 147 0),(.int 0 0),(.ref 335),(.int 149 0),(.int 0 0),(.ref 340)]
def X9n(P:Pz):=Dc (yC P)
def Vs(P:Pz):=tq #[(.int 0 557),(.int 0 558),(.int 0 559),(.int 0 560),(.int 0 561)]
def Vr(P:Pz):=tq #[(.int 1 563),(.int 0 564),(.int 0 565),(.int 0 566),(.int 0 567)]
def Vq(P:Pz):=tq #[(.int 0 571)]
def gJ(P:Pz):=(Rz "start" "start" (top 36) 0 0)
def gG(P:Pz):=(Ht "start" 572 "start" 573 574 113 2 0 0 3 293 true 181 294 .none .none (.ref 295) 575 113 576)
noncomputable def Vp(P:Pz):=Obj.mk (.type "function") none (Data.func (FuncData.mk "start" "start" (Dv (top 36)) (FuncBody.stmts (DW (top 36))) (CV (top 36)) 3 [] (.ref 292) .none .none (.str "spinboard.boards" 555) none (.ref 296) .none 0)) #[]
def Vo(P:Pz):=Er [(dn P "flip" 604 (.int 1 605)),(dn P "mix" 606 (.int 1 607)),(dn P "turn" 608 (.int 2 609)),(dn P "if" 610 (.int 2 611)),(dn P "pair" 612 (.int 2 613)),(dn P "swap" 614 (.int 2 615)),(dn P "cross" 616 (.int 3 617))] 7
def gF(P:Pz):=tq #[(.str "move" 641)]
noncomputable def gD(P:Pz):=Obj.mk .none none (Data.func (FuncData.mk "named_cells" "named_cells" (Dv (top 45)) (FuncBody.stmts (DW (top 45))) (CV (top 56)) 0 [] .none .none .none .none none .none .none 0)) #[]
def gB(P:Pz):=(Ht "named_cells" 638 "named_cells" 639 640 147 1 0 0 3 330 true 181 331 (.ref 332) (.ref 333) (.ref 334) 642 147 643)
noncomputable def Vn(P:Pz):=Obj.mk (.type "function") none (Data.func (FuncData.mk "named_cells" "named_cells" (Dv (top 45)) (FuncBody.stmts (DW (top 45))) (CV (top 56)) 3 [] .none .none .none (.str "spinboard.moves" 602) none (.ref 335) .none 0)) #[]
def oF(P:Pz):List Obj:=[Vs P,Vr P,Vq P,tz,Ig,gJ P,gG P,Vp P]++(qD "check_beginning" 37 116 2 298 578 ["cells","word"]++(qD "cells_of" 38 121 1 305 586 ["board"]++(_E "halved" 40 124 1 312 595 ["one"]++([Vo P]++(Oz "check_move" 43 128 2 320 626 []++(Oz "has_move_form" 44 137 1 325 632 []++([tz,Ig,gF P,tz,gD P,gB P,Vn P]++(Oz "turned" 46 149 2 337 645 []))))))))
def Tc (P:Pz):BT:=iF (iL (Td P) [(3,W1m P),(12,X9n P)]) 290 (oF P)
theorem zQ(p:U8)(b:Y0)(w:W3)(os:OsState):gs p b w os 396 Td 290 557 Vh (Pos.mk 109 0 109 8) Tc 342 651 (Pos.mk 149 0 157 73):=
 (byRow2 "special-get-raises" (P:=λw=>(λw:World=>gs p b w os 396 Td 290 557 Vh (Pos.mk 109 0 109 8) Tc 342 651 (Pos.mk 149 0 157 73)) w) (λw=>by show (λw:World=>gs p b w os 396 Td 290 557 Vh (Pos.mk 109 0 109 8) Tc 342 651 (Pos.mk 149 0 157 73)) (World.withFollow w "special-get-raises" false);unfold gs;rw[PySem.W.Fast.te10110043849684766642,PySem.W.Fast.te14364793385576792824];kernel_rfl) (λw=>by show (λw:World=>gs p b w os 396 Td 290 557 Vh (Pos.mk 109 0 109 8) Tc 342 651 (Pos.mk 149 0 157 73)) (World.withFollow w "special-get-raises" true);unfold gs;rw[PySem.W.Fast.te10110043849684766642,PySem.W.Fast.te14364793385576792824];kernel_rfl)) w
def wF(P:Pz):List DictEntry:=wD P++[(dn P "mixed" 656 (.ref 346)),(dn P "mixed_at" 665 (.ref 353)),(dn P "spun_where" 671 (.ref 358)),(dn P "word_behind" 677 (.ref 363)),(dn P "exchanged" 687 (.ref 370)),(dn P "back_move" 694 (.ref 377)),(dn P "SURE" 700 (.ref 378)),(dn P "HALF" 704 (.ref 379)),(dn P "is_odd_turn" 711 (.ref 386)),(dn P "moved_by" 721 (.ref 393)),(dn P "moved_by_mix" 732 (.ref 400)),(dn P "moved_by_turn" 742 (.ref 407)),(dn P "moved_by_if" 753 (.ref 414)),(dn P "moved_by_pair" 764 (.ref 421))]
def W1l(P:Pz):=Er ((dn P "__name__" 165 (.str "spinboard.tableturns" 695))::wF P) 63
def yD(P:Pz):List Value:=yC P++[(.int 158 0),(.int 0 0),(.ref 345),(.int 160 0),(.int 0 0),(.ref 352),(.int 164 0),(.int 0 0),(.ref 357),(.int 166 0),(.int 0 0),(.ref 362),(.int 177 0),(.int 0 0),(.ref 369),(.int 180 0),(.int 0 0),(.ref 376),(.int 187 0),(.int 0 0),(.ref 385),(.int 189 0),(.int 0 0),(.ref 392),(.int 203 0),(.int 0 0),(.ref 399),(.int 208 0),(.int 0 0),(.ref 406),(.int 213 0),(.int 0 0),(.ref 413),(.int 217 0),(.int 0 0),(.ref 420)]
def X9m(P:Pz):=Dc (yD P)
def gA(P:Pz):=tq #[(.str "move" 691)]
noncomputable def f9(P:Pz):=Obj.mk .none none (Data.func (FuncData.mk "back_move" "back_move" (Dv (top 52)) (FuncBody.stmts (DW (top 52))) (CV (top 56)) 0 [] .none .none .none .none none .none .none 0)) #[]
def fu(P:Pz):=(Ht "back_move" 688 "back_move" 689 690 180 1 0 0 3 371 true 181 372 (.ref 373) (.ref 374) (.ref 375) 692 180 693)
noncomputable def Vm(P:Pz):=Obj.mk (.type "function") none (Data.func (FuncData.mk "back_move" "back_move" (Dv (top 52)) (FuncBody.stmts (DW (top 52))) (CV (top 56)) 3 [] .none .none .none (.str "spinboard.moves" 602) none (.ref 376) .none 0)) #[]
def Vk(P:Pz):=tq #[(.int 1 697),(.int 0 698),(.int 1 699)]
def Vj(P:Pz):=tq #[(.int 1 701),(.int 0 702),(.int 2 703)]
def oE(P:Pz):List Obj:=Oz "mixed" 47 158 2 342 651 []++(Oz "mixed_at" 48 160 3 347 657 ["board","word","bit"]++(Oz "spun_where" 49 164 3 354 666 []++(Oz "word_behind" 50 166 2 359 672 []++(Oz "exchanged" 51 177 3 364 678 ["word","bit","other","both"]++([tz,Ig,gA P,tz,f9 P,fu P,Vm P,Vk P,Vj P]++(R4 "is_odd_turn" 56 187 1 380 705 ["move"]++(R4 "moved_by" 57 189 2 387 712 ["mark","move","bit","other"]++(R4 "moved_by_mix" 58 203 2 394 722 ["mark","bit","flips","signs","moved"]++(R4 "moved_by_turn" 59 208 3 401 733 ["mark","bit","k","signs"]++(R4 "moved_by_if" 60 213 3 408 743 ["mark","bit","other","flips","signs"]++(R4 "moved_by_pair" 61 217 3 415 754 ["mark","bit","other","signs","moved"])))))))))))
def T15 (P:Pz):BT:=iF (iL (Tc P) [(3,W1l P),(12,X9m P)]) 342 (oE P)
theorem zP(p:U8)(b:Y0)(w:W3)(os:OsState):gs p b w os 398 Tc 342 651 pY (Pos.mk 149 0 157 73) T15 422 765 (Pos.mk 217 0 224 78):=by unfold gs;rw[PySem.W.Fast.te10110043849684766642,PySem.W.Fast.te14364793385576792824];kernel_rfl
def wG(P:Pz):List DictEntry:=wF P++[(dn P "MOST_ODD_TURNS" 768 (.int 6 767)),(dn P "back_sum" 778 (.ref 428)),(dn P "check_summed" 788 (.ref 435)),(dn P "terms_ahead" 794 (.ref 440)),(dn P "terms_ahead_of_odd_turn" 808 (.ref 447)),(dn P "gathered" 814 (.ref 452)),(dn P "sum_share" 826 (.ref 459)),(dn P "run" 838 (.ref 466)),(dn P "_law_cell_at" 848 (.ref 473)),(dn P "_law_whole" 855 (.ref 480)),(dn P "_law_cells_by" 862 (.ref 487)),(dn P "_law_low" 868 (.ref 492))]
def W1k(P:Pz):=Er ((dn P "__name__" 165 (.str "law_spinboard_k65_whole_shares_by_marks" 839))::wG P) 75
def yE(P:Pz):List Value:=yD P++[(.int 227 0),(.int 0 0),(.ref 427),(.int 233 0),(.int 0 0),(.ref 434),(.int 240 0),(.int 0 0),(.ref 439),(.int 245 0),(.int 0 0),(.ref 446),(.int 256 0),(.int 0 0),(.ref 451),(.int 264 0),(.int 0 0),(.ref 458),(.int 271 0),(.int 0 0),(.ref 465),(.int 277 0),(.int 0 0),(.ref 472),(.int 281 0),(.int 0 0),(.ref 479),(.int 283 0),(.int 0 0),(.ref 486),(.int 287 0),(.int 0 0),(.ref 491)]
def X9l(P:Pz):=Dc (yE P)
def oA(P:Pz):List Obj:=R3 "back_sum" 64 227 2 422 769 ["mark","row","terms","move"]++(R3 "check_summed" 65 233 1 429 779 ["row","odd_turns","place","move"]++(R3 "terms_ahead" 66 240 2 436 789 []++(R3 "terms_ahead_of_odd_turn" 67 245 3 441 795 ["terms","bit","k","for_all","for_sign","ahead","one","mark"]++(R3 "gathered" 68 256 1 448 809 []++(R3 "sum_share" 69 264 3 453 815 ["word","row","mark","total","one","each"]++(z_ "run" 71 271 2 460 829 ["board","row","behind","move"]++(Hs "_law_cell_at" 73 277 2 467 841 ["_law_script","_law_k"]++(Hs "_law_whole" 74 281 1 474 849 ["_law_found"]++(Hs "_law_cells_by" 75 283 1 481 856 ["_law_cell"]++(Hs "_law_low" 76 287 2 488 863 []))))))))))
def nU (P:Pz):BT:=iF (iL (T15 P) [(3,W1k P),(12,X9l P)]) 422 (oA P)
theorem zO(p:U8)(b:Y0)(w:W3)(os:OsState):gs p b w os 369 T15 422 765 pX (Pos.mk 217 0 224 78) nU 493 869 (Pos.mk 287 0 291 79):=by unfold gs;rw[PySem.W.Fast.te10110043849684766642,PySem.W.Fast.te14364793385576792824];kernel_rfl
def wH(P:Pz):List DictEntry:=wG P++[(dn P "_law_spin" 882 (.ref 499)),(dn P "_law_mark_by" 892 (.ref 506)),(dn P "_law_bits" 900 (.ref 513)),(dn P "_law_plus" 906 (.ref 518)),(dn P "_law_move_by" 912 (.ref 523)),(dn P "_law_lay" 925 (.ref 530)),(dn P "_law_row_by" 939 (.ref 537)),(dn P "_law_place" 948 (.ref 544)),(dn P "_law_refused" 960 (.ref 551)),(dn P "_law_divisor" 968 (.ref 558)),(dn P "_law_is_share" 974 (.ref 563)),(dn P "_law_weights" 990 (.ref 570))]
def W1j(P:Pz):=Er ((dn P "__name__" 165 (.str "law_spinboard_k65_whole_shares_by_marks" 839))::wH P) 87
def yF(P:Pz):List Value:=yE P++[(.int 292 0),(.int 0 0),(.ref 498),(.int 297 0),(.int 0 0),(.ref 505),(.int 301 0),(.int 0 0),(.ref 512),(.int 307 0),(.int 0 0),(.ref 517),(.int 312 0),(.int 0 0),(.ref 522),(.int 328 0),(.int 0 0),(.ref 529),(.int 334 0),(.int 0 0),(.ref 536),(.int 348 0),(.int 0 0),(.ref 543),(.int 355 0),(.int 0 0),(.ref 550),(.int 364 0),(.int 0 0),(.ref 557),(.int 370 0),(.int 0 0),(.ref 562),(.int 374 0),(.int 0 0),(.ref 569)]
def X9k(P:Pz):=Dc (yF P)
def x17(P:Pz):List Obj:=Hs "_law_spin" 77 292 2 493 869 ["_law_one","_law_k","_law_a","_law_b","_law_c","_law_d","_law_h","_law_j"]++(Hs "_law_mark_by" 78 297 2 500 883 ["_law_cell","_law_cells","_law_mixed_up","_law_size"]++(Hs "_law_bits" 79 301 1 507 893 ["_law_number","_law_many"]++(Hs "_law_plus" 80 307 3 514 901 []++(Hs "_law_move_by" 81 312 2 519 907 []++(Hs "_law_lay" 82 328 2 524 913 ["_law_board","_law_mark","_law_q","_law_f","_law_s","_law_due","_law_word"]++(Hs "_law_row_by" 83 334 3 531 926 ["_law_numbers","_law_cells","_law_wild","_law_row","_law_odd","_law_most","_law_number","_law_move"]++(Hs "_law_place" 84 348 1 538 940 ["_law_row","_law_odd","_law_k"]++(Hs "_law_refused" 85 355 4 545 949 ["_law_word","_law_row","_law_mark","_law_place_here","e","_law_others"]++(Hs "_law_divisor" 86 364 2 552 961 ["_law_one","_law_other"]++(Hs "_law_is_share" 87 370 1 559 969 []++(Hs "_law_weights" 88 374 2 564 975 ["_law_board","_law_most","_law_top","_law_side","_law_a","_law_b","_law_c","_law_d","_law_h","_law_by"])))))))))))
def nR (P:Pz):BT:=iF (iL (nU P) [(3,W1j P),(12,X9k P)]) 493 (x17 P)
theorem zN(p:U8)(b:Y0)(w:W3)(os:OsState):gs p b w os 381 nU 493 869 pW (Pos.mk 287 0 291 79) nR 571 991 (Pos.mk 374 0 381 32):=by unfold gs;rw[PySem.W.Fast.te10110043849684766642,PySem.W.Fast.te14364793385576792824];kernel_rfl
def W0s(P:Pz):List DictEntry:=wH P++[(dn P "law" 996 (.ref 575))]
def vI(P:Pz):=Er ((dn P "__name__" 165 (.str "law_spinboard_k65_whole_shares_by_marks" 839))::W0s P) 88
def X7e(P:Pz):List Value:=yF P++[(.int 382 0),(.int 0 0),(.ref 574)]
def wV(P:Pz):=Dc (X7e P)
def x18(P:Pz):List Obj:=Hs "law" 89 382 1 571 991 []
def yG (P:Pz):BT:=iF (iL (nR P) [(3,vI P),(12,wV P)]) 571 (x18 P)
theorem zM(p:U8)(b:Y0)(w:W3)(os:OsState):gs p b w os 27 nR 571 991 pU (Pos.mk 374 0 381 32) yG 576 997 (Pos.mk 382 0 407 156):=by unfold gs;rw[PySem.W.Fast.te10110043849684766642,PySem.W.Fast.te14364793385576792824];kernel_rfl
def Hl(P:Pz):List Obj:=[boot_o_0 P,boot_o_1 P,boot_o_2 P,vI P,boot_o_4 P,boot_o_5 P,boot_o_6 P,boot_o_7 P,boot_o_8 P,boot_o_9 P,boot_o_10 P,tz,wV P,jK P,jB P]++(((x1 P).set 9 (lU P))++((x2 P)++((x3 P)++((x4 P)++((x5 P)++((x6 P)++((x7 P)++((x8 P)++((x9 P)++((x10 P)++((x11 P)++((x12 P)++((oG P)++((oF P)++((oE P)++((oA P)++((x17 P)++(x18 P))))))))))))))))))
def Hf (P:Pz):Heap:=Heap.mk (Array.mk (Hl P)) life
theorem ji(w:W3)(os:OsState):topRun treeTable pr w 11 (some (.ref 6)) 2 ((SharedT.mk (yG w.params) 576 life (Array.mk []) (Drawn.mk 0 0 0 0) 997 os).abs) (Thread.mk (doneF .next) cE (Pos.mk 382 0 407 156) BB)=some (Shared.mk (Hf w.params) (Array.mk []) (Drawn.mk 0 0 0 0) 997 os):=by rw[PySem.W.Fast.te14082659384304107361,PySem.W.Fast.te14364793385576792824];kernel_rfl
noncomputable abbrev MM:Nat:=12+(1+(196+(214+(214+(214+(214+(214+(214+(214+(214+(246+(246+(384+(387+(396+(398+(369+(381+(27+2)))))))))))))))))))
theorem aF(w:W3)(os:OsState):topRun treeTable pr w 11 (some (.ref 6)) MM (Shared.mk (boot_heap w.params) (Array.mk []) boot_drawn boot_toks os) (topStub pr)=some (Shared.mk (Hf w.params) (Array.mk []) (Drawn.mk 0 0 0 0) 997 os):=go_top (dw w os) (piece_block (W0m w os) (HJ (HN (g0 _ _ w os)) (HJ (HN (g1 _ _ w os)) (HJ (HN (g2 _ _ w os)) (HJ (HN (g3 _ _ w os)) (HJ (HN (g4 _ _ w os)) (HJ (HN (g5 _ _ w os)) (HJ (HN (g6 _ _ w os)) (HJ (HN (g7 _ _ w os)) (HJ (HN (g8 _ _ w os)) (HJ (HN (g9 _ _ w os)) (HJ (HN (zW _ _ w os)) (HJ (HN (zU _ _ w os)) (HJ (HN (zR _ _ w os)) (HJ (HN (zQ _ _ w os)) (HJ (HN (zP _ _ w os)) (HJ (HN (zO _ _ w os)) (HJ (HN (zN _ _ w os)) (HJ (HN (zM _ _ w os)) (piece_nil (ji w os)))))))))))))))))))))
noncomputable def qq:Program:={pr with main:={ pr.main with body:=[top 1,top 2,top 3,top 4,top 5,top 6,top 7,top 8,top 9,top 10,top 11,top 12,top 14,top 16,top 17,top 18,top 20,top 21,top 22,top 23,top 24,top 25,top 26,top 27,top 29,top 30,top 31,top 33,top 34,top 35,top 37,top 38,top 40,top 42,top 43,top 44,top 45,top 46,top 47,top 48,top 49,top 50,top 51,top 52,top 54,top 55,top 56,top 57,top 58,top 59,top 60,top 61,top 63,top 64,top 65,top 66,top 67,top 68,top 69,top 71,top 73,top 74,top 75,top 76,top 77,top 78,top 79,top 80,top 81,top 82,top 83,top 84,top 85,top 86,top 87,top 88,top 89]}}
noncomputable def loose:List PySem.Str:=[Str.ofString "share",Str.ofString "start",Str.ofString "NUMBERS_BEHIND"]
noncomputable def lv:List (PySem.Str×WData):=[]
noncomputable abbrev NN:Nat:=9574
noncomputable def aa:List Addr:=[2,3,15,22,23,24,25,28,35,36,37,40,47,48,49,52,59,60,61,64,71,72,73,76,83,84,85,88,95,96,97,100,107,108,109,112,119,120,121,124,131,133,134,136,137,138,139,140,143,150,152,153,155,156,157,158,159,162,169,171,172,174,175,176,177,178,181,183,184,186,187,188,189,191,192,194,195,196,198,199,201,202,203,205,206,208,209,210,212,213,215,216,217,219,220,222,223,224,227,228,229,231,232,234,235,236,239,240,241,243,244,246,247,248,250,251,253,254,255,257,258,260,261,262,264,265,267,268,269,271,272,274,275,276,278,279,281,282,283,285,286,288,289,290,291,292,293,296,297,298,300,301,303,304,305,307,308,310,311,312,314,315,317,318,319,320,323,324,325,328,329,330,332,333,335,336,337,340,341,342,345,346,347,349,350,352,353,354,357,358,359,362,363,364,366,367,369,370,371,373,374,376,377,378,379,380,382,383,385,386,387,389,390,392,393,394,396,397,399,400,401,403,404,406,407,408,410,411,413,414,415,417,418,420,421,422,424,425,427,428,429,431,432,434,435,436,439,440,441,443,444,446,447,448,451,452,453,455,456,458,459,460,462,463,465,466,467,469,470,472,473,474,476,477,479,480,481,483,484,486,487,488,491,492,493,495,496,498,499,500,502,503,505,506,507,509,510,512,513,514,517,518,519,522,523,524,526,527,529,530,531,533,534,536,537,538,540,541,543,544,545,547,548,550,551,552,554,555,557,558,559,562,563,564,566,567,569,570,571,574,575]
def KK (P:Pz):Frag:=aa.map λa=>(a,(Hl P).getD a Ig)
theorem W1c:∀w:World,(fencedOpening treeTable pr w NN).map (λs=>(s.heap,s.gens,s.drawn,s.toks))=some (boot_heap w.params,Array.mk [],boot_drawn,boot_toks):=
 boot_open (p:=pr) (N:=NN) (by kernel_rfl) (by kernel_rfl) (λs=>by kernel_rfl)
theorem W0y(w:W3):((boot_heap w.params).isNs mainGlobals && (Array.mk []:Array GenState).size == 0,(boot_heap w.params).objs.size,(boot_heap w.params).nsMap mainGlobals "__annotations__")=(true,11,((some (.ref 6)):Option Value)):=by kernel_rfl
theorem yu:Nat.ble MM NN=true:=by kernel_rfl
noncomputable abbrev rr:OpenRow:=PySem.Challenge.rw_spinboard_k65_whole_shares_by_marks.row
noncomputable abbrev HH:Hook:=kHook KK aa (λ_=>by kernel_rfl)
noncomputable abbrev Xt (s:U7):Bool:=xlAt qq lv s && recOk (RowW.records rr.toRowW) s
noncomputable abbrev sf (w:W3)(os:OsState):Shared:=Shared.mk (Hf w.params) (Array.mk []) (Drawn.mk 0 0 0 0) 997 os
theorem yt(w:W3)(os:OsState):(staticsOk (importedModules pr.main.body) (boot_heap w.params) (Hf w.params) && namesBound pr (Hf w.params) && gensDone (sf w os) && laidKept (boot_heap w.params) (Hf w.params))=true:=by rw[PySem.W.Fast.te5923862056798008813];kernel_rfl
theorem yr(w:W3)(os:OsState):openSeen qq loose (importedModules pr.main.body) Xt true (sf w os)=openGood qq loose:=by rw[PySem.W.Fast.te4187177175401517315,PySem.W.Fast.te5923862056798008813];kernel_rfl
theorem yq(w:W3)(os:OsState):HH.obs (sf w os)=HH.val w:=by kernel_rfl
theorem Vf:LeftO pr qq loose Xt HH.obs HH.val NN :=
 LeftO.of_pieces (H₀:=boot_heap) (H₁:=Hf) W1c W0y aF yu λw=>funext λos=>looks_pair (yt w os) (looks_pair (yr w os) (yq w os))
theorem Ur:PySem.Challenge.rw_spinboard_k65_whole_shares_by_marks.wellSaid=true:=by rw[PySem.W.Fast.te9446332074065402090];kernel_rfl
theorem eN(P:Pz):(KK P).lookup 575=some (e9 "law" 89 574):=by kernel_rfl
theorem fK(P:Pz):(KK P).lookup 195=some (Vv P):=by kernel_rfl
theorem fJ(P:Pz):(KK P).lookup 209=some (Vu P):=by kernel_rfl
theorem fH(P:Pz):(KK P).lookup 261=some (Vt P):=by kernel_rfl
theorem fB(P:Pz):(KK P).lookup 297=some (Vp P):=by kernel_rfl
theorem eY(P:Pz):(KK P).lookup 336=some (Vn P):=by kernel_rfl
theorem eX(P:Pz):(KK P).lookup 377=some (Vm P):=by kernel_rfl
theorem fO(P:Pz):(KK P).lookup 159=some (Vy P):=by kernel_rfl
theorem fP(P:Pz):(KK P).lookup 156=some (Vz P):=by kernel_rfl
theorem yw(P:Pz):(KK P).lookup 24=some (lU P):=by kernel_rfl
theorem eZ(P:Pz):(KK P).lookup 319=some (Vo P):=by kernel_rfl
theorem fD(P:Pz):(KK P).lookup 291=some (Vr P):=by kernel_rfl
theorem fG(P:Pz):(KK P).lookup 290=some (Vs P):=by kernel_rfl
theorem fC(P:Pz):(KK P).lookup 292=some (Vq P):=by kernel_rfl
theorem eV(P:Pz):(KK P).lookup 378=some (Vk P):=by kernel_rfl
theorem eU(P:Pz):(KK P).lookup 379=some (Vj P):=by kernel_rfl
theorem fL(P:Pz):(KK P).lookup 188=some (Vw P):=by kernel_rfl
theorem ft{K:U0}{x:Str}{st:Stmt}{f:Y1}{oc:W4}{od an:W7}{osl:W6}{dV kV doc pm cdv ct:W4}
  (l:K.lookup f=some ⟨oc,od,.func (PySem.W.fnOf x x (Dv st) (DW st) (CV st) dV kV doc pm an cdv ct),osl⟩) (a:autoParam (PySem.W.nsIn K mainGlobals x=some (some (.ref f))) zq4._auto_1) (c:autoParam (PySem.W.codeIn K cdv x=true) zq4._auto_1) (k:autoParam (PySem.W.keepIn K (.ref f)=true) zq4._auto_1):Ab K x st dV:=zX a l c k
theorem fz{P:Pz}{n:Str}{i:Nat}(m:Str)(mt a c:Nat)(l:autoParam ((KK P).lookup a=some (Ry n n (top i) 3 m mt c 0)) zq4._auto_1)(x:autoParam (PySem.W.nsIn (KK P) mainGlobals n=some (some (.ref a))) zq4._auto_1)(y:autoParam (PySem.W.codeIn (KK P) (.ref c) n=true) zq4._auto_1)(z:autoParam (PySem.W.keepIn (KK P) (.ref a)=true) zq4._auto_1):Ab (KK P) n (top i) .none:=ft l x y z
theorem zu(P:Pz):Ab (KK P) "share" (top 15) (.ref 188):=ft (fK P)
theorem zq(P:Pz):Ab (KK P) "share_plus" (top 17) .none:=ft (fJ P)
theorem zm(P:Pz):Ab (KK P) "rooted" (top 26) .none:=ft (fH P)
theorem zj(P:Pz):Ab (KK P) "start" (top 36) (.ref 292):=ft (fB P)
theorem zZ(P:Pz):Ab (KK P) "named_cells" (top 45) .none:=ft (eY P)
theorem zY(P:Pz):Ab (KK P) "back_move" (top 52) .none:=ft (eX P)
end Hd
end Al
end
set_option maxHeartbeats 4000000
namespace Al
open L2 Am Pc Ba
section
variable {P:U8}{w:W3}{K:U0}{mg:U4}{base:Heap}{k:Nat}{h:Heap}
theorem uh{x:Int}(h1:-16<x)(h2:x<16):Sz 100 x:=Sz.mono (j:=5) (by unfold Sz;lia) (by decide)
theorem s_0:Sz 100 0:=uh (by decide) (by decide)
theorem s_1:Sz 100 1:=uh (by decide) (by decide)
theorem Ox:(0:Int)<=40:=by decide
def Bh (K:U0)(H:Hp)(p:Y1)(x:A5):Prop:=Ao K H p ((l5 x).map V.int)
variable{H:Hp}{p:Y1}{x:A5}
theorem Bh.of(h:H p=some (tA x)):Bh K H p x:=Ao.of h
variable{H':Hp}
theorem Bh.same(h:Bh K H p x)(s:Same H H'):Bh K H' p x:=s.tup h
variable{xs ys:List V}
theorem Bh.upd{l:Y1}(h:Bh K H p x)(e:H l=some (.lst xs)):Bh K (upd H l (.lst ys)) p x:=by
 rcases h with h | h
 ·rcases h with h | ⟨o,h⟩
  ·exact .inl (.inl (by rw[Bq (K_ h e (by intro z;cases z))];exact h))
  ·exact .inl (.inr ⟨o,by rw[Bq (K_ h e (by intro z;cases z))];exact h⟩)
 ·exact .inr h
def BX (K:U0)(H:Hp)(ps:U3)(f:Nat->A5):Prop:=∀i p,ps[i]?=some p->Bh K H p (f i)
variable{ps:U3}{f:Nat->A5}
theorem BX.same(v:BX K H ps f)(s:Same H H'):BX K H' ps f:=λi p e=>(v i p e).same s
theorem S_(v:BX K H ps f)(s:Same H H')(e:Bh K H' p x):BX K H' (ps++[p]) (λj=>if j=ps.length then x else f j):=by
 intro i q a;by_cases hi:i<ps.length
 ·rw[cj hi]at a;show Bh K H' q (if i=ps.length then x else f i);rw[if_neg (by lia)];exact(v i q a).same s
 ·rw[cu (by lia)]at a;have b:i=ps.length:=by
   have:=(G4.mp a).1;simp at this;lia
  subst b;simp at a;subst a;show Bh K H' _ (if ps.length=ps.length then x else f ps.length);rw[if_pos rfl];exact e
theorem Qy{l:Y1}(v:BX K H ps f)(e:H l=some (.lst xs)):BX K (upd H l (.lst ys)) ps f:=λi q a=>(v i q a).upd e
theorem mO{a:Y1}{ns:U6}{te:TE}{fr:L2.St}{H1:Hp}{acc:Y1}{Q:VK}(f:Int->V)(hl:Ao K H1 a (ns.map V.int))(hn:ns.length<=sizeLine)(hacc:H1 acc=none)(hs:∀n H (N:V->Hp->Prop),n∈ns->Same H1 H->N (f n) H->te (some (.int n)::fr) H N)
  (hd:∀H2,Same H1 H2->H2 acc=some (.lst (ns.map f))->Q (.ref acc) H2):Jx (RL K a) (CK 0) te (none::fr) H1 acc Q:=by
 refine mL (n:=ns.length) (val:=λi=>.int (ns.getD i 0)) (λi=>f (ns.getD i 0)) hn hacc (λi H hi s=>?_) (λH s=>⟨_,s.tup hl,by simp⟩) (λi H N hi s b=>hs _ H N (by simp[hi]) s b) (λH2 s h=>hd H2 s (by rw[h,lH]));have e:(ns.map V.int)[i]?=some (.int (ns.getD i 0)):=by simp[hi]
 refine⟨⟨_,_,s.tup hl,e⟩,λx H' y=>⟨y.1,?_⟩⟩;have:=y.2 _ (s.tup hl);rw[e]at this;exact(Option.some.inj this).symm
theorem Ja:¬ (HT.Bp 5 0 none=0/\HT.Bp 5 5 (some 4)=5):=by decide
def FJ:Sp:=λvs H Q _=>∃a b c d h:Int,vs=[.int a,.int b,.int c,.int d,.int h]/\0<=h/\∀(p:Y1) (H':Hp) (x y z u g:Int),Same H H'->H' p=some (T5 x y z u g)->Red a b c d h x y z u g->Q (.ref p) H'
def uZ:Sp:=λvs H Q _=>∃(p:Y1) (a b c d h:Int),vs=[.ref p]/\H p=some (T5 a b c d h)/\0<=h/\∀(r:Y1) (H':Hp) (x y z u g:Int),Same H H'->H' r=some (T5 x y z u g)->Red (b-d) (a+c) (b+d) (c-a) (h+1) x y z u g->Q (.ref r) H'
def m7 (K:U0):Sp:=λvs H Q _=>∃(p:Y1) (a b c d h:Int),vs=[.ref p]/\Bh K H p ((a,b,c,d),h)/\∀(r:Y1) (H':Hp),Same H H'->H' r=some (T5 (-d) a b c h)->Q (.ref r) H'
def Lb (K:U0):Sp:=λvs H Q _=>∃(p:Y1) (a b c d h k:Int),vs=[.ref p,.int k]/\Bh K H p ((a,b,c,d),h)/\∀(r:Y1) (H':Hp),Same H H'->Bh K H' r (Bm (k%8).toNat (a,b,c,d),h)->Q (.ref r) H'
theorem X4z(F:Ab K "halved_out" (top 20) .none)(X:K.In h)(G:Ng h mg)(B:Bs mg):Ar P w K mg base (k+1) "halved_out" ["a","b","c","d","h"] FJ:=by
 refine F.cal X G ["a","b","c","d","h","places","lowest","less"] (bi:=Qh λ_ _ _ _ _ _ _ _ _ _ _=>rfl) (len:=λ_ _ _ _ h=>by obtain⟨_,_,_,_,_,rfl,_⟩:=h;rfl) λg H vs Q E y h=>?_;obtain⟨a,b,c,d,h,rfl,j,q⟩:=h
 refine⟨_,(@Aw _ _ _ _ _ (@BR _ _ 5 _ _ _ _ g rfl (Or.inl rfl) (Ag Ph (Ag Ph (Ag Ph (pv 0) (pv 1)) (pv 2)) (pv 3)) rfl (.inl rfl))
  (@Aw _ _ _ _ _ (CQ (Bx Cz (pv 5) Ad (Ae _))
   (@Av _ _ _ (Bb (@Dj _ _ _ _ _ (Aa Ad (Aa Ad (Aa Ad (Aa Ad (Aa Ad Af))))))))
   CT)
  (@Aw _ _ _ _ _ (@BR _ _ 6 _ _ _ _ g rfl (Or.inl rfl) (Ag Ii (lY bY Yb dh lE (Ag Fg (pv 5) (Ni Qu (pv 5)))) Ad) rfl (.inl rfl))
  (@Aw _ _ _ _ _ (@BR _ _ 7 _ _ _ _ g rfl (Or.inl rfl) (DP (Y8f rfl) rfl B.min boot_min (Aa (pv 6) (Aa (pv 4) Af))) rfl (.inl rfl))
  (@Av _ _ _ (Bb (@Dj _ _ _ _ _ (Aa (Ag Zb (pv 0) (pv 7)) (Aa (Ag Zb (pv 1) (pv 7)) (Aa (Ag Zb (pv 2) (pv 7)) (Aa (Ag Zb (pv 3) (pv 7)) (Aa (Ag Ii (pv 4) (pv 7)) Af)))))))))))),?_⟩
 try dsimp only[Bu]
 refine⟨_,O,_,O,_,_,O,O,_,O,_,_,O,O,_,O,_,_,O,O,?_⟩;refine⟨_,O,O,_,O,JZ (λe=>?_) (λe=>?_)⟩
 ·obtain⟨rfl,rfl,rfl,rfl⟩:=Iu.mp e;exact⟨by show 5<=sizeLine;decide,λp hp=>q p _ 0 0 0 0 0 (BW hp _) Az ⟨⟨by lia,.inl rfl⟩,⟨by simp[FZ],by simp[FZ],by simp[FZ],by simp[FZ]⟩,Bc _,Bc _,Bc _,Bc _,j⟩⟩
 obtain⟨v,l,hd,o⟩:=lowest e;obtain⟨f,z,u,x,s,t,n,r⟩:=V_ j hd o rfl;have i:((Builtin.Int.intBits (Builtin.bitAnd (Builtin.bitOr (Builtin.bitOr (Builtin.bitOr a b) c) d) (-(Builtin.bitOr (Builtin.bitOr (Builtin.bitOr a b) c) d))):Nat):Int)-1=v:=l;refine⟨_,O,_,O,_,O,_,_,O,O,O,_,O,O,_,_,O,O,?_⟩;show Ua _ _ _ (List.set _ 6 (some (V.int (((Builtin.Int.intBits (Builtin.bitAnd (Builtin.bitOr (Builtin.bitOr (Builtin.bitOr a b) c) d) (-(Builtin.bitOr (Builtin.bitOr (Builtin.bitOr a b) c) d))):Nat):Int)-1)))) H;rw[i];generalize hm:(if h<(v:Int) then h else (v:Int))=m at *;refine⟨_,O,_,O,_,_,O,?_⟩;rw[hm];refine⟨_,O,_,O,_,_,O,O,f,_,O,_,O,_,_,O,O,f,_,O,_,O,_,_,O,O,f,_,O,_,O,_,_,O,O,f,_,O,_,O,_,_,O,O,(by show 5<=sizeLine;decide),λp hp=>?_⟩;exact q p _ _ _ _ _ _ (BW hp _) Az ⟨u,x,s,t,n,r,by lia⟩
theorem X4x(F:Ab K "spun_once" (top 25) .none)(X:K.In h)(G:Ng h mg):Ar P w K mg base (k+1) "spun_once" ["one"] (m7 K):=by
 refine F.cal X G ["one"] (bi:=Ql λ_ _ _ _ _ _ _=>rfl) (len:=λ_ _ _ _ h=>by obtain⟨_,_,_,_,_,_,rfl,_⟩:=h;rfl) λf H vs Q E e h=>?_;obtain⟨p,a,b,c,d,h,rfl,hp,q⟩:=h;have S:Ao K H p [.int a,.int b,.int c,.int d,.int h]:=hp;refine⟨_,(@Av _ _ _ (Bb (@Dj _ _ _ _ _ (Aa (Ni Qu (Ai Aq (pv 0) Ad (λ_ _=>rfl))) (Aa (Ai Aq (pv 0) Ad (λ_ _=>rfl)) (Aa (Ai Aq (pv 0) Ad (λ_ _=>rfl)) (Aa (Ai Aq (pv 0) Ad (λ_ _=>rfl)) (Aa (Ai Aq (pv 0) Ad (λ_ _=>rfl)) Af)))))))),?_⟩;try dsimp only[Bu]
 refine⟨_,O,p,_,_,_,O,O,S,O,_,O,_,O,p,_,_,_,O,O,S,O,_,O,p,_,_,_,O,O,S,O,_,O,p,_,_,_,O,O,S,O,_,O,p,_,_,_,O,O,S,O,(by show 5<=sizeLine;decide),λr e=>?_⟩;exact q r _ (BW e _) Az
theorem Y6m(F:Ab K "rooted" (top 26) .none)(X:K.In h)(G:Ng h mg)(c8:Ar P w K mg base k "halved_out" ["a","b","c","d","h"] FJ):Ar P w K mg base (k+1) "rooted" ["one"] uZ:=by
 refine F.cal X G ["one"] (bi:=Ql λ_ _ _ _ _ _ _=>rfl) (len:=λ_ _ _ _ h=>by obtain⟨_,_,_,_,_,_,rfl,_⟩:=h;rfl) λl H vs Q E f h=>?_;obtain⟨p,a,b,c,d,h,rfl,hp,j,q⟩:=h;have S:Ao K H p [.int a,.int b,.int c,.int d,.int h]:=Ao.of hp;refine⟨_,(@Av _ _ _ (Bb (BP c8 f rfl (Aa (Ag Ii (Ai Aq (pv 0) Ad (λ_ _=>rfl)) (Ai Aq (pv 0) Ad (λ_ _=>rfl))) (Aa (Ag DX (Ai Aq (pv 0) Ad (λ_ _=>rfl)) (Ai Aq (pv 0) Ad (λ_ _=>rfl))) (Aa (Ag DX (Ai Aq (pv 0) Ad (λ_ _=>rfl)) (Ai Aq (pv 0) Ad (λ_ _=>rfl))) (Aa (Ag Ii (Ai Aq (pv 0) Ad (λ_ _=>rfl)) (Ai Aq (pv 0) Ad (λ_ _=>rfl))) (Aa (Ag DX (Ai Aq (pv 0) Ad (λ_ _=>rfl)) Ad) Af)))))))),?_⟩;try dsimp only[Bu]
 refine⟨_,O,p,_,_,_,O,O,S,O,_,O,p,_,_,_,O,O,S,O,_,_,O,O,_,O,p,_,_,_,O,O,S,O,_,O,p,_,_,_,O,O,S,O,_,_,O,O,
  _,O,p,_,_,_,O,O,S,O,_,O,p,_,_,_,O,O,S,O,_,_,O,O,_,O,p,_,_,_,O,O,S,O,_,O,p,_,_,_,O,O,S,O,_,_,O,O,_,O,p,_,_,_,O,O,S,O,_,_,O,O,?_⟩
 exact⟨_,_,_,_,_,O,(by show 0<=h+1;lia),λr H' x y z u g e e1 i=>q r H' x y z u g e e1 i⟩
theorem X4t(F:Ab K "spun" (top 24) .none)(X:K.In h)(G:Ng h mg)(B:Bs mg)(cM:Ar P w K mg base k "spun_once" ["one"] (m7 K)):Ar P w K mg base (k+1) "spun" ["one","k"] (Lb K):=by
 refine F.cal X G ["one","k","turning","step"] (bi:=Qk λ_ _ _ _ _ _ _ _=>rfl) (len:=λ_ _ _ _ h=>by obtain⟨_,_,_,_,_,_,_,rfl,_⟩:=h;rfl) λf H vs Q E l h=>?_;obtain⟨p,a,b,c,d,h,j,rfl,hp,q⟩:=h;have S:Ao K H p [.int a,.int b,.int c,.int d,.int h]:=hp
 refine⟨_,(@Aw _ _ _ _ _ (@BR _ _ 2 _ _ _ _ f rfl (Or.inl rfl) (pv 0) rfl (.inl rfl))
  (@Aw _ _ _ _ _ (JC PassesOwn.never rfl (Mp rfl B.range (Aa (Ag Ec (pv 1) Ad) Af)) (CN (i:=3) f rfl (Or.inl rfl))
   (@Av _ _ _ (@BR _ _ 2 _ _ _ _ f rfl (Or.inl rfl) (BP cM l rfl (Aa (pv 2) Af)) rfl (.inl rfl))))
  (@Av _ _ _ (Bb (pv 2))))),?_⟩
 try dsimp only[Bu]
 have u:=J6 j (show (8:Int)≠0 by decide);have s:=M9 j (show (0:Int)<8 by decide);refine⟨_,O,_,O,_,_,O,O,(by show (0:Int)<8;decide),_,O,(by lia),(by lia),ZD (n:=(j%8).toNat) (λi σ H'=>Same H H'/\∃t v,σ=[some (.ref p),some (.int j),some (.ref t),v]/\Bh K H' t (Bm i (a,b,c,d),h)) ⟨Same.refl _,p,none,O,hp⟩ ?_ ?_⟩
 ·rintro i σ H2 hi ⟨e,t,v,rfl,g⟩;refine⟨_,O,t,_,_,_,_,_,O,g,λr H' m o=>?_⟩;exact⟨e.trans m,r,_,O,Bh.of o⟩
 ·rintro σ H2 ⟨e,t,v,rfl,g⟩;exact⟨_,O,q t H2 e g⟩
structure Sum (a b c d h a' b' c' d' h' x y z u g:Int):Prop where
 amt:Ls x y z u g
 same:Cu (a*p2 h'+a'*p2 h) (b*p2 h'+b'*p2 h) (c*p2 h'+c'*p2 h) (d*p2 h'+d'*p2 h) (h+h') x y z u g
 le:g<=max h h'
theorem WR{a a' h h' m:Int}(h0:0<=h)(h0':0<=h')(hm:h<=m)(hm':h'<=m):FZ (a*p2 h'+a'*p2 h) (h+h') (a*2^(m-h).toNat+a'*2^(m-h').toNat) m:=by
 unfold FZ;rw[LQ h0 h0'];show _=(a*p2 (m-h)+a'*p2 (m-h'))*(p2 h*p2 h');have e1:=Qp h0 hm;have e2:=Qp h0' hm';have l1:(a*p2 h'+a'*p2 h)*p2 m=a*p2 h'*p2 m+a'*p2 h*p2 m:=Int.add_mul ..;rw[l1,show a*p2 h'*p2 m=a*p2 h'*(p2 (m-h)*p2 h) by rw[<-e1],show a'*p2 h*p2 m=a'*p2 h*(p2 (m-h')*p2 h') by rw[<-e2]];grind
theorem PL(n:Nat):Sz (n+1) ((2:Int)^n):=by
 unfold Sz;rw[jT];exact YJ (by decide) (X5 n)
theorem WT{a a' h h' m:Int}{n N:Nat}(hm:m-h<=h'/\m-h'<=h)(z:Sz n a)(z':Sz n a')(hN:n+h.toNat+h'.toNat+2<=N):Sz N (a*2^(m-h).toNat+a'*2^(m-h').toNat):=by
 refine((z.mul (PL (m-h).toNat)).add (z'.mul (PL (m-h').toNat))).mono ?_;lia
structure RM (K:U0) (n:Nat) (vs:List V) (H:Hp) (p q:Y1) (a b c d h a' b' c' d' h':Int):Prop where
 vs:vs=[.ref p,.ref q]
 one:Bh K H p ((a,b,c,d),h)
 other:Bh K H q ((a',b',c',d'),h')
 h0:0<=h
 h0':0<=h'
 hh:h+h'<=40000
 hn:n<=500000
 z:H_ n a b c d
 z':H_ n a' b' c' d'
def Mi (K:U0):Sp:=λvs H Q _=>∃n p q a b c d h a' b' c' d' h',RM K n vs H p q a b c d h a' b' c' d' h'/\∀(r:Y1) (H':Hp) (x y z u g:Int),Same H H'->H' r=some (T5 x y z u g)->Sum a b c d h a' b' c' d' h' x y z u g->H_ (n+h.toNat+h'.toNat+2) x y z u->Q (.ref r) H'
def Wq (K:U0):Sp:=λvs H Q _=>∃n p q a b c d h a' b' c' d' h',RM K n vs H p q a b c d h a' b' c' d' h'/\∀(r:Y1) (H':Hp) (x y z u g:Int),Same H H'->H' r=some (T5 x y z u g)->Sum a b c d h (-a') (-b') (-c') (-d') h' x y z u g->H_ (n+h.toNat+h'.toNat+2) x y z u->Q (.ref r) H'
theorem X4v(F:Ab K "plus" (top 21) .none)(X:K.In h)(G:Ng h mg)(B:Bs mg)(c8:Ar P w K mg base k "halved_out" ["a","b","c","d","h"] FJ):Ar P w K mg base (k+1) "plus" ["one","other"] (Mi K):=by
 refine F.cal X G ["one","other","h","up","other_up","sums"] (bi:=Qk λ_ _ _ _ _ _ _ _=>rfl) (len:=λ_ _ _ _ h=>by obtain⟨_,_,_,_,_,_,_,_,_,_,_,_,_,⟨rfl,_⟩,_⟩:=h;rfl) λD H vs Q E hr h=>?_;obtain⟨n,p,q,a,b,c,d,h,o,s,t,d',h',⟨rfl,e1,e2,C,e,hh,hn,z,f⟩,kq⟩:=h;have S:Ao K H p [.int a,.int b,.int c,.int d,.int h]:=e1;have U:Ao K H q [.int o,.int s,.int t,.int d',.int h']:=e2
 refine⟨_,(@Aw _ _ _ _ _ (@BR _ _ 2 _ _ _ _ D rfl (Or.inl rfl) (DP (uy rfl) rfl B.max boot_max (Aa (Ai Aq (pv 0) Ad (λ_ _=>rfl)) (Aa (Ai Aq (pv 1) Ad (λ_ _=>rfl)) Af))) rfl (.inl rfl))
  (@Aw _ _ _ _ _ (@BR _ _ 3 _ _ _ _ D rfl (Or.inr rfl) (Ag Ii (pv 2) (Ai Aq (pv 0) Ad (λ_ _=>rfl))) rfl (.inl rfl))
  (@Aw _ _ _ _ _ (@BR _ _ 4 _ _ _ _ D rfl (Or.inr rfl) (Ag Ii (pv 2) (Ai Aq (pv 1) Ad (λ_ _=>rfl))) rfl (.inl rfl))
  (@Aw _ _ _ _ _ (Wm (i:=5) rfl D rfl rfl (Bw.of (Nc:=["x","y","up","other_up"]) (mp:=[none,none,some 3,some 4]) (by kernel_rfl)) (xK true true rfl B.zip (Aa (Ld WQ (pv 0) Nq (Jv Ad)) (Aa (Ld WQ (pv 1) Nq (Jv Ad)) Af))) (λ_ _ _ _=>(Wk rfl (show (["x","y","up","other_up"]:W0).Nodup by decide +kernel) rfl rfl rfl rfl)) (λ_ _ _ _=>(Ag DX (Ag Hy (pv 0) (pv 2)) (Ag Hy (pv 1) (pv 3)))) rfl)
  (@Av _ _ _ (Bb (BP c8 hr rfl (Aa (Ai Dl (pv 5) Ad (λ_ _=>rfl)) (Aa (Ai Dl (pv 5) Ad (λ_ _=>rfl)) (Aa (Ai Dl (pv 5) Ad (λ_ _=>rfl)) (Aa (Ai Dl (pv 5) Ad (λ_ _=>rfl)) (Aa (pv 2) Af)))))))))))),?_⟩
 try dsimp only[Bu]
 refine⟨_,O,p,_,_,_,O,O,S,O,_,O,q,_,_,_,O,O,U,O,_,_,O,?_⟩;generalize hm:(if h'>h then h' else h)=m;have R:h<=m:=by rw[<-hm];split<;>lia
 have I:h'<=m:=by rw[<-hm];split<;>lia
 have W:m-h<=h'/\m-h'<=h/\m<=h+h':=by rw[<-hm];split<;>lia
 refine⟨_,O,_,O,p,_,_,_,O,O,S,O,_,_,O,O,?_⟩;refine⟨_,O,_,O,q,_,_,_,O,O,U,O,_,_,O,O,?_⟩;refine⟨_,O,4,O,p,_,O,S,Ja,λl1 A=>?_⟩;refine⟨_,O,4,O,q,_,O,(BW A _).tup U,Ja,λl2 j=>?_⟩;have s2:Same H (upd (upd H l1 (.tup ([a,b,c,d].map V.int))) l2 (.tup ([o,s,t,d'].map V.int))):=(BW A _).trans (BW j _);refine⟨l1,l2,[a,b,c,d].map V.int,[o,s,t,d'].map V.int,O,(BW j _).tup (Ao.of Az),Ao.of Az,λacc l=>?_⟩;refine rR (K:=K) (ns:=[a,b,c,d]) (ms:=[o,s,t,d']) (fr:=[some (.int (m-h)),some (.int (m-h'))]) (λx y=>x*2^(m-h).toNat+y*2^(m-h').toNat) rfl (show 4<=sizeLine by decide) ((BW j _).tup (Ao.of Az)) (Ao.of Az) l
  (λha hQ=>⟨_,_,O,Ao.of ha,O,_,_,O,_,_,O,O,hQ⟩) ?_ ?_
 ·intro x y H2 N Y Z kN;have zx:Sz n x:=by
   simp only[DY,Gx,Gu]at Y;rcases Y with rfl | rfl | rfl | rfl
   ·exact z.z1
   ·exact z.z2
   ·exact z.z3
   ·exact z.z4
  have zy:Sz n y:=by
   simp only[DY,Gx,Gu]at Z;rcases Z with rfl | rfl | rfl | rfl
   ·exact f.z1
   ·exact f.z2
   ·exact f.z3
   ·exact f.z4
  exact⟨_,O,_,O,_,_,O,O,⟨n,zx,(by lia),(by lia)⟩,_,O,_,O,_,_,O,O,⟨n,zy,(by lia),(by lia)⟩,_,_,O,O,kN⟩
 intro H2 s3 a3;have M:Ax K H2 acc ((List.zipWith (λx y=>x*2^(m-h).toNat+y*2^(m-h').toNat) [a,b,c,d] [o,s,t,d']).map V.int):=Ax.of a3;refine⟨_,O,acc,_,_,_,O,O,M,O,_,O,acc,_,_,_,O,O,M,O,_,O,acc,_,_,_,O,O,M,O,_,O,acc,_,_,_,O,O,M,O,_,O,_,_,_,_,_,O,(by show 0<=m;lia),λr H' x y v u g s4 e4 J=>?_⟩;have L:n+h.toNat+h'.toNat+2<=n+h.toNat+h'.toNat+2:=Bc _;have T:m-h<=h'/\m-h'<=h:=⟨W.1,W.2.1⟩;refine kq r H' x y v u g (s2.trans (s3.trans s4)) e4 ⟨J.amt,Cu.trans ⟨WR C e R I,WR C e R I,WR C e R I,WR C e R I⟩ J.same,by have:=J.le;rw[<-hm]at this;split at this<;>omega⟩ (J.sz ⟨?_,?_,?_,?_⟩)
 ·exact WT T z.z1 f.z1 L
 ·exact WT T z.z2 f.z2 L
 ·exact WT T z.z3 f.z3 L
 ·exact WT T z.z4 f.z4 L
theorem X0b(F:Ab K "minus" (top 22) .none)(X:K.In h)(G:Ng h mg)(cF:Ar P w K mg base k "plus" ["one","other"] (Mi K))(cB:Ar P w K mg base k "spun" ["one","k"] (Lb K)):Ar P w K mg base (k+1) "minus" ["one","other"] (Wq K):=by
 refine F.cal X G ["one","other"] (bi:=Qk λ_ _ _ _ _ _ _ _=>rfl) (len:=λ_ _ _ _ h=>by obtain⟨_,_,_,_,_,_,_,_,_,_,_,_,_,⟨rfl,_⟩,_⟩:=h;rfl) λM H vs Q E m h=>?_;obtain⟨n,p,q,a,b,c,d,h,j,o,s,d',h',⟨rfl,e1,e2,A,i,J,t,z,e⟩,L⟩:=h;refine⟨_,(@Av _ _ _ (Bb (BP cF m rfl (Aa (pv 0) (Aa (BP cB m rfl (Aa (pv 1) (Aa Ad Af))) Af))))),?_⟩;try dsimp only[Bu]
 refine⟨_,O,_,O,q,_,_,_,_,_,_,O,e2,λr H2 l C=>?_⟩;have f:Bh K H2 r ((-j,-o,-s,-d'),h'):=C;exact⟨n,p,r,a,b,c,d,h,-j,-o,-s,-d',h',⟨O,e1.same l,f,A,i,J,t,z,⟨e.z1.neg,e.z2.neg,e.z3.neg,e.z4.neg⟩⟩,λB D x y v u g I=>L B D x y v u g (l.trans I)⟩
end
end Al
namespace L2
def N5 (P:Params)(e:DictEntry)(p:Str×Int):Prop:=∃t u,e=⟨PyData.keyHash P p.1,.str p.1 t,.int p.2 u⟩
structure Jy (K:U0) (P:Params) (a:Y1) (kvs:List (Str×Int)):Prop where
 ex:∃o es ep,K.lookup a=some o/\o.ExactDict/\o.data=.dict es ep/\Paired (N5 P) es.toList kvs
 nd:(kvs.map (·.1)).Nodup
 ns:(a == sysModules)=false
noncomputable def txt (p:Str×Int):Key×V:=(Sum.inr p.1,.int p.2)
theorem Jy.at{K:U0}{prog:U8}{w:W3}{a:Y1}{kvs:List (Str×Int)}{h:Heap}(D:Jy K w.params a kvs)(X:K.In h):∃vs,KV (kvs.map txt) vs/\h.DictOf (G_ prog w) a vs:=by
 obtain⟨o,es,ep,i,j,hd,hp⟩:=D.ex;have key:∀{l:List DictEntry}{kvs:List (Str×Int)},Paired (N5 w.params) l kvs->∃vs:List (Key×Value),KV (kvs.map txt) vs/\Pairs (G_ prog w) l vs:=by
  intro l kvs h;induction h with
  | nil=>exact⟨[],.nil,.nil⟩
  | @cons e p l kvs b hr ih =>
   obtain⟨vs,c,d⟩:=ih;obtain⟨t,u,rfl⟩:=b;exact⟨(Sum.inr p.1,.int p.2 u)::vs,.cons ⟨O,u,O⟩ c,.cons (k_ p.1 t) rfl d⟩
 have all:∀{l:List DictEntry}{kvs:List (Str×Int)},Paired (N5 w.params) l kvs->∀e∈l,∃p,N5 w.params e p:=by
  intro l kvs h;induction h with
  | nil=>intro e b;cases b
  | @cons e p l kvs b hr ih =>
   intro f h';rcases DY.mp h' with rfl | h'
   ·exact⟨p,b⟩
   ·exact ih f h'
 obtain⟨vs,c,d⟩:=key hp;refine⟨vs,c,o,es,ep,X _ _ i,j,hd,?_,d,?_⟩
 ·intro e b;obtain⟨p,t,u,rfl⟩:=all hp e (Array.mem_toList_iff.mpr b);exact⟨Sum.inr p.1,k_ p.1 t,O⟩
 ·rw[<-c.keys,Lx];have e:kvs.map ((λg=>g.1) ∘ txt)=(kvs.map (·.1)).map (Sum.inr:Str->Key):=by rw[Lx];rfl
  rw[e];exact X7.mpr (D.nd.imp λh z=>h (Sum.inr.inj z))
noncomputable def numAt (kvs:List (Str×Int))(x:Str):Option V:=B_ (kvs.map txt) (Sum.inr x)
def X3o (kvs:List (Str×Int))(ty:TE):TE:=λσ H Q=>ty σ H λy H1=>∃x,y=.str x/\Q (.bl (!(numAt kvs x).isSome)) H1
def Uh (kvs:List (Str×Int))(ty:TE):TE:=λσ H Q=>ty σ H λy H1=>∃x v,y=.str x/\numAt kvs x=some v/\Q v H1
section
variable {X:Cx}{o i:Expr}{pos:Pos}{ty:TE}{aN:Y1}{kvs:List (Str×Int)}
theorem Y6b(D:Jy X.K X.w.params aN kvs)(hi:PE X i ty)(ho:PE X o (tC (.ref aN))):PC X .NotIn i o (X3o kvs ty):=by
 intro pins s σ H Q I h;refine Bd (hi pins s σ H _ I h) λp d ⟨y,H1,l,f,x,j,g⟩=>Bd (ho pins d σ H1 (λv H2=>v=.ref aN/\H2=H1) l ⟨O,O⟩) λu n ⟨v,H2,b,e,c,m⟩=>?_;subst c m j;cases e;obtain⟨vs,a,dd⟩:=D.at (prog:=X.prog) (w:=X.w) b.kIn;refine wpAny_notIn_of (TV (k:=Sum.inr x) f) D.ns dd.mapOf ?_;rw[<-(a.val (Sum.inr x)).isSome_eq];exact⟨.bl _,H2,b.tok _,O,g⟩
theorem X4f(D:Jy X.K X.w.params aN kvs)(ho:PE X o (tC (.ref aN)))(hi:PE X i ty)(hs:RK i):PE X (.Subscript o i pos) (Uh kvs ty):=by
 intro pins s σ H Q I h;refine tU pJ.lookup hs (Bd (ho pins s σ H (λv H2=>v=.ref aN/\H2=H) I ⟨O,O⟩) λu j ⟨v,H1,p,l,f,q⟩=>?_);subst f q;cases l;refine Bd (hi pins j σ H1 _ p h) λz t ⟨y,H2,b,m,x,c,n,g,d⟩=>?_;subst n;obtain⟨vs,a,dd⟩:=D.at (prog:=X.prog) (w:=X.w) b.kIn;obtain⟨u,r,e⟩:=Ek.some_of (v:=c) (o:=valueAt vs (Sum.inr x)) (by rw[<-g];exact a.val (Sum.inr x));exact⟨dd.typeIs,wpAny_getItem_of (TV (k:=Sum.inr x) m) dd.mapOf r ⟨c,H2,b.tok _,e,d⟩⟩
end
end L2
namespace L2
noncomputable abbrev unlike (ns:U6):Nat:=(firstMet (λi=>ns.getD i 0) ns.length).length
noncomputable abbrev fresh0 (led:Bool):Obj:={ cls:=.type "set",dict:=none,data:=.set #[] 0 (.fresh 0 0 led)}
def HB (prog:U8)(w:W3)(s:U7)(ns:U6)(S:Int->Bool)(s':U7):Prop :=
 ∃h' tk,s'={s with heap:=h',toks:=tk}/\h'.SetOf (intKind prog w) s.heap.objs.size S (unlike ns)/\∀b o,s.heap.get? b=some o->h'.get? b=some o
section
variable {prog:U8}{w:W3}{A:W8}{E:U2}{s:U7}{p:Y1}{its:U9}{ns:U6}
theorem X1b(hh:A.handled=none)(ht:s.heap.IsTuple p its)(hi:IntsAre its.toList ns)(hb:ns.length+1<scanBound)(led:Bool){R:Result->Shared->Prop}
  (h:∀s',HB prog w s ns (λk=>(firstMet (λi=>ns.getD i 0) ns.length).any (· == k)) s'->R (.ok (.ret .none)) s'):
  codeAny (model prog w) A (.builtin "set.update.loop" ⟨[.ref s.heap.objs.size,.ref (s.heap.push (fresh0 led)).objs.size],[]⟩) R {s with heap:=(s.heap.push (fresh0 led)).push { cls:=.type "tuple_iterator",data:=.fields #[.ref p,.int 0 0]}}:=by
 obtain⟨o,m,t,n,hd⟩:=id ht;have lt:p<s.heap.objs.size:=Bk m;have e1:(s.heap.push (fresh0 led)).objs.size=s.heap.objs.size+1:=K1 ..;have l:its.size=ns.length:=by rw[<-Ep];exact hi.length
 have W:=(Walks.tuple (prog:=prog) (w:=w) (A:=A.in1) (by simp[hh]) (s.heap.push (fresh0 led)).objs.size p (by rw[e1];exact Cy (Rm lt)) its).toS;have r:(s.heap.push (fresh0 led)).IsTuple p its:=⟨o,Ca _ m,t,n,hd⟩;refine codeAny_set_update_loopS W s.heap.objs.size (by rw[e1];simp only[DY,Gx,Gu,not_or];exact⟨Cy (X5 _),Kz lt⟩) (λi=>ns.getD i 0) (λi v q=>hi.int_at i v (by rw[bO];exact q)) (by rw[l];exact hb) its.size 0 _ rfl (Ef _)
  ⟨⟨_,Ew _ rfl,O,O⟩,r.push _⟩ ?_ ?_
 ·have g:((s.heap.push (fresh0 led)).push { cls:=.type "tuple_iterator",data:=.fields #[.ref p,.int 0 0]}).get? s.heap.objs.size=some (fresh0 led):=Ca _ (Ew _ rfl);exact SetOf_congr ((setObjOf_fresh (knd:=intKind prog w) led).setOf g (by unfold scanBound;lia)) (λ_=>rfl) rfl
 ·intro s' a f;rw[l]at f;obtain⟨h',g',d',c,d⟩:=s';obtain rfl:g'=s.gens:=a.gens;obtain rfl:d'=s.drawn:=a.drawn;obtain rfl:d=s.os:=a.os;refine h _ ⟨h',c,O,f,λb o e=>?_⟩;have j:=Bk e;exact a.heap b o (by rw[e1];simp only[DY,Gx,Gu,not_or];exact⟨Cy j,Cy (Rm j)⟩) (Ca _ (Ca _ e))
theorem X0v(hh:A.handled=none)(ht:s.heap.IsTuple p its)(hi:IntsAre its.toList ns)(hb:ns.length+1<scanBound)(led:Bool){R:U2}
  (h:∀s',HB prog w s ns (λk=>(firstMet (λi=>ns.getD i 0) ns.length).any (· == k)) s'->R .none s'):
  codeAny (model prog w) A (.call (.builtin "set.__init__") ⟨[.ref s.heap.objs.size,.ref p],[]⟩) (wants R E) {s with heap:=s.heap.push (fresh0 led)}:=by
 have ty:Shared.TypeIs {s with heap:=s.heap.push (fresh0 led)} (.ref s.heap.objs.size) "set":=⟨_,Ew _ rfl,O⟩;obtain⟨o,l,g,n,hd⟩:=id ht;obtain⟨f,b,d,a⟩:=o;simp only at g hd;subst g hd;have c:(s.heap.push (fresh0 led)).get? p=some { cls:=.type "tuple",dict:=b,data:=.seq its n,slots:=a}:=Ca _ l;have j:(s.heap.push (fresh0 led)).IsTuple p its:=⟨_,c,O,n,O⟩;have r:=F.sub_tuple_set;have m:=F.sub_tuple_frozenset;have q:(Value.type "tuple" == Value.type "dict")=false:=by decide
 refine YK F.called_set.init.plain F.entry_set_init (check_set_init_1 ty ?_);unfold Builtin.«set.__init__» noKeywords Builtin.Frozenset.updateFrom;generalize hP:pyIter=PI;wp_walk;subst hP;refine bH j (Ak (wpAny_runValue (X1b (by simp[hh]) ht hi hb led λs' e=>?_)));exact BZ (BZ (h _ e))
theorem X3u(hh:A.handled=none)(ht:s.heap.IsTuple p its)(hi:IntsAre its.toList ns)(hb:ns.length+1<scanBound){Q:U2}
  (h:∀s',HB prog w s ns (λk=>(firstMet (λi=>ns.getD i 0) ns.length).any (· == k)) s'->Q (.ref s.heap.objs.size) s'):wpAny (model prog w) A (call (.type "set") [.ref p]) Q E s:=by
 obtain⟨c,tl,g⟩:=F.called_set.mro;have u:=F.called_set.made;have o:=F.called_set.sub;have t:=F.called_set.notType;have x:=F.called_set.canCreate;have m:=F.typeCall_set_1 (.ref p);refine Mw (codeAny_of_tree ?_);show wpAny _ _ (callAny (.type "set") _) _ _ _;refine BZ ⟨Code.quiet_builtin _ (by decide +kernel),aU F.entry_type_call ?_⟩;rw[Around.under_plain (weight_type_call_type "set" [.ref p] []) rfl];repeat any_goals first | assumption | wp_step
 refine Mz (code_set_new_1 (.ref p) (E:=E) (Q₁:=λf j=>∃a:Bool,f=.ref s.heap.objs.size/\j={s with heap:=s.heap.push (fresh0 a)}) λa=>⟨a,O,O⟩) λr j d=>?_;rcases r with e | fl
 ·exact d
 cases fl with
 | ret f =>
  obtain⟨a,rfl,rfl⟩:=d;have ty:Shared.TypeIs {s with heap:=s.heap.push (fresh0 a)} (.ref s.heap.objs.size) "set":=⟨_,Ew _ rfl,O⟩;have n:=F.called_set.init.lookup;have v:=F.called_set.init.bind (.ref s.heap.objs.size);repeat any_goals first | assumption | wp_step
  refine Mz (X0v (E:=E) (R:=λr s'=>r=.none/\HB prog w s ns (λk=>(firstMet (λi=>ns.getD i 0) ns.length).any (· == k)) s') (by simp[hh]) ht hi hb a λs' e=>⟨O,e⟩) λl q b=>?_;rcases l with e | fl₂
  ·exact b
  cases fl₂ with
  | ret r =>
   obtain⟨rfl,e⟩:=b;repeat any_goals first | assumption | wp_step
   exact h _ e
  | next=>exact b.elim
  | brk=>exact b.elim
  | cont=>exact b.elim
 | next=>exact d.elim
 | brk=>exact d.elim
 | cont=>exact d.elim
end
theorem u5:∀{ns:U6}{us:U5},Vals (ns.map V.int) us->IntsAre us ns
 | [],_,.nil=>.nil
 | n::ns,_,.cons r rs=>by
  obtain⟨t,rfl⟩:=r;exact .cons n t (u5 rs)
section
variable {X:Cx}
theorem Y8e(hc:X.calm=true):CJ X (.type "set") (λxs H Q=>∃(p:Y1) (ns:U6),xs=[.ref p]/\Ao X.K H p (ns.map V.int)/\ns.length<64/\∀(l:Y1) (S:Int->Bool),H l=none->Q (.ref l) (upd H l (.set S (unlike ns)))):=by
 intro pins s σ H xs us Q I r h;obtain⟨p,ns,rfl,f,k,q⟩:=h;obtain⟨u,rfl,g⟩:=vals1 r;cases g;obtain⟨its,b,i,_⟩:=I.tuple f;obtain⟨o,j,a,n,hd⟩:=i;refine X3u (I.ok.hd hc) ⟨o,j,a,n,hd⟩ (ns:=ns) (u5 (by simpa using b)) (by unfold scanBound;lia) λs' ⟨h',tk,e,d,c⟩=>?_;subst e;exact⟨.ref s.heap.objs.size,_,I.laid (o:=.set _ (unlike ns)) (t':=tk) c (Bc _) d,O,q _ _ (I.hok.fresh (Bc _))⟩
theorem Y8h:CJ X (.builtin "len") (λxs H Q=>∃(p:Y1) (S:Int->Bool) (n:Nat),xs=[.ref p]/\H p=some (.set S n)/\n<64/\Q (.int n) H):=by
 intro pins s σ H xs us Q I r h;obtain⟨p,S,n,rfl,hp,i,q⟩:=h;obtain⟨u,rfl,f⟩:=vals1 r;cases f;have e:s.heap.SetOf (intKind X.prog X.w) p S n:=I.hok p _ hp;obtain⟨o,g,a⟩:=e.objOf;obtain⟨b,es,ep,t,hd,_,_,d,c⟩:=a;subst d;exact call_len_set g b hd c (by lia) ⟨.int es.size,H,(I.tok _).tok _,⟨_,O⟩,q⟩
end
end L2
namespace L2
section
variable {X:Cx}{e st:Expr}{lo hi:Option Expr}{te:TE}{tl th ts:TO}{p2 pos:Pos}
end
end L2
namespace HT
section
variable {prog:U8}{w:W3}{A:W8}{E:U2}{s:U7}
theorem _Y{t sl:Y1}{items:U9}{vl vu:W4}{lo hi:Option Int}{Q:U2}(ht:IsTup s.heap t items)(hs:s.heap.IsSliceOf sl vl vu .none)(pl:IsPart vl lo)(pu:IsPart vu hi)
  (h1:Bp items.size 0 lo=0) (h2:Bp items.size items.size hi=items.size) (h:Q (.ref t) s):wpAny (model prog w) A (getItem (.ref t) (.ref sl)) Q E s:=by
 obtain⟨os,b,a,c⟩:=id hs;have ty:s.TypeIs (.ref sl) "slice":=⟨os,b,a⟩;unfold getItem;try with_reducible refine JQ ?_
 first | refine Ak (BZ ?_) | skip
 refine Ak (wpAny_sequenceKey ht.typeIs (by decide) (Ak (YT (name:=Str.ofString "__getitem__") ht.typeIs PyProof.Rows.slot_tuple_getitem (Rj PyProof.Rows.slot_tuple_getitem ht.typeIs entry_tuple_getitem ?_ (args_tuple_getitem _ _)))));show wpAny _ _ (Builtin.Tuple.tupleItemsOf (.ref t) >>= _) _ _ s;refine Ak (tupleItemsOf_ ht (Ak (Xu ty ?_)));rw[if_pos (by decide)];refine Ak (q_ hs pl pu ?_);show wpAny _ _ (if (((Bp items.size 0 lo:Nat):Int) == 0 && (1:Int) == 1 && (Bp items.size items.size hi-Bp items.size 0 lo) == items.size)=true then _ else _) _ _ s;rw[if_pos (by rw[h1,h2];simp)];refine Ak ?_;unfold Builtin.Tuple.tupleIsExact;refine Ak (Xu ht.typeIs (BZ ?_));rw[if_pos (by decide)];exact Ak (Mx (BZ ⟨_,O,BZ h⟩))
end
end HT
namespace L2
section
variable {X:Cx}
def aK (K:U0):V->Option Int->Option Int->Hp->VK->Prop:=λx lo hi H Q=>∃a xs,x=.ref a/\Ao K H a xs /\
 ((HT.Bp xs.length 0 lo=0/\HT.Bp xs.length xs.length hi=xs.length)/\Q (.ref a) H\/¬ (HT.Bp xs.length 0 lo=0/\HT.Bp xs.length xs.length hi=xs.length)/\∀p,H p=none->Q (.ref p) (upd H p (.tup (Dy xs lo hi))))
theorem Wc:Zm X (aK X.K):=by
 intro pins s σ H x v k l lo hi m Q I e j d i h;obtain⟨a,xs,rfl,g,⟨c,q⟩ | ⟨c,q⟩⟩:=h
 ·cases e;obtain⟨its,r,f,n⟩:=I.tuple g;have b:=r.length;refine⟨"tuple",_,slot_tuple_getitem.lookup,f.typeIs,HT._Y f j d i (by rw[Du,<-b];exact c.1) (by rw[Du,<-b];exact c.2) ⟨.ref a,H,I,O,q⟩⟩
 ·exact WQ pins s σ H _ v k l lo hi m Q I e j d i ⟨a,xs,O,g,c,q⟩
end
end L2
namespace L2
theorem Y5a{prog:U8}{w:W3}{A:W8}{env:Env}{c:Expr}{s:U7}{Q:Bool->Shared->Prop}(h:wpAny (model prog w) A (isTrue c env (eval c env)) Q Calm s):
  wpAny (model prog w) A (forIn [c] true λc r=>if r=true then do let ok ← isTrue c env (eval c env);pure (ForInStep.yield ok) else pure (ForInStep.yield r)) Q Calm s:=wpAny_tests_one h
theorem _R{prog:U8}{w:W3}{A:W8}{R:Result->Shared->Prop}{s:U7}{e t i c:Expr}{sc:Scope}{pos:Pos}{it acc:W4}{env:Env}(J:Nat->Shared->Prop)
  (turn:∀n s,J n s->wpAny (model prog w) A (pyNext it) (λr b=>(r=none->R (.ok .next) b)/\∀v,r=some v ->
   wpAny (model prog w) A (letOwnedTupleGo t it v) (λ_ g=>wpAny (model prog w) A (assign t env v) (λ_ k=>wpAny (model prog w) A (isTrue c env (eval c env)) (λok a=>if ok=true then wpAny (model prog w) A (eval e env) (λx l =>
    wpAny (model prog w) A (call (.builtin "list.append") [acc,x]) (λ_ d=>∃m,m<n/\J m d) Calm l) Calm a else ∃m,m<n/\J m a) Calm k) Calm g) Calm b) Calm s)
  (n:Nat) (h:J n s):codeAny (model prog w) A (.compLoop (.ListComp e [⟨t,i,[c],0⟩] sc pos) 0 it acc env) R s:=by
 have u:=compTurn_list e t i [c] sc pos it acc env;refine codeAny_loop rfl J (λn s j=>wpAny_noted (m:=compTurn (.ListComp e [⟨t,i,[c],0⟩] sc pos) 0 it acc env) ?_) n h;rw[u];refine Ak (Oh (Dh (turn n s j) λr b q=>?_));match r,q with
 | none,q=>exact BZ (q.1 rfl)
 | some v,q =>
  refine Dh (q.2 v rfl) λ_ g o=>Dh o λ_ k y=>Dh (Y5a y) λok l f=>?_;cases ok with
  | false=>exact BZ ⟨rfl,f⟩
  | true=>exact Ak (Dh f λx d p=>Dh p λ_ B z=>BZ (BZ ⟨rfl,z⟩))
def Lg (J:It)(g:TG)(tc:TT)(te:TE)(σ:St)(H:Hp)(acc:Y1)(Q:VK):Prop:=∃W:Nat->Nat->List V->St->Hp->Prop,(∃m,W 0 m [] σ (upd H acc (.lst []))) /\
 ∀i m ys σ2 H2,W i m ys σ2 H2->(J.stop i H2/\Q (.ref acc) H2)\/(J.go i H2/\∀x H3,J.yld i H2 x H3->g x σ2 H3 λσ4 H4=>tc σ4 H4 λb H5 =>
  (b=true->te σ4 H5 λy H6=>H6 acc=some (.lst ys)/\ys.length<sizeLine/\∃m',m'<m/\W (i+1) m' (ys++[y]) σ4 (upd H6 acc (.lst (ys++[y]))))/\(b=false->∃m',m'<m/\W (i+1) m' ys σ4 H5))
def Z2 (mp:W9)(wi:TI)(g:TG)(tc:TT)(te:TE):TE:=λσ H Q=>wi σ H λJ H1=>∀acc,H1 acc=none->Lg J g tc te (sub mp σ) H1 acc Q
section
variable {X:Cx}{elt tg iter cond:Expr}{scope:Scope}{pos:Pos}{wi:TI}{g:TG}{tc:TT}{te:TE}{Nc:W0}{mp:W9}
theorem X5r(hc:X.calm=true)(S:Bw X.N X.env.scope scope Nc mp)(hg:∀ex pins s H,PG (Bl X scope Nc ex pins s H) tg g)(ht:∀ex pins s H,PT (Bl X scope Nc ex pins s H) cond tc)(he:∀ex pins s H,PE (Bl X scope Nc ex pins s H) elt te)
  {pins:U1}{σ:St}{H2:Hp}{s2:U7}{E:U2}{it:Y1}{fp:U3}{tn:Nat->Heap->Prop}{J:It}{Q:VK}{RR:Value->Addr->Result->Shared->Prop}
  (I2:Inv X pins σ H2 s2) (T:Turn X.prog X.w X.K tg J fp it tn) (st2:tn 0 s2.heap) (f2:∀b∈fp,Dq X pins H2 b)
  (q:∀acc,H2 acc=none->Lg J g tc te (sub mp σ) H2 acc Q)
  (fin:∀acc C H' s' Y,Q (.ref acc) H'->Inv X pins σ H' s'->s'.heap.Ns C Y->H' C=none->X.s₀.heap.objs.size<=C->C≠X.env.locals->(∀x c,X.env.cells.lookup x=some c->c≠C)->(∀p∈X.pn++pins,p.1≠C)->RR (.ref acc) C (.ok .next) s'):
  wpAny (model X.prog X.w) X.A (newList []) (λacc s₃=>wpAny (model X.prog X.w) X.A (newFunctionEnv scope X.env.globals (clo scope.names X.env.cells) [] X.env.qual none .none (some X.env)) (λk s₄ =>
   codeAny (model X.prog X.w) X.A (.compStart (.ListComp elt [⟨tg,iter,[cond],0⟩] scope pos) 0 (.ref it) acc {k with scope:=relabel scope X.env}) (RR acc k.locals) s₄) E s₃) E s2:=by
 refine KD (wpAny_newFunctionEnv S.nocell (by intro y hy;simp at hy) (λh₁ l B=>?_) S.kind);dsimp only at l B ⊢;have I3:=I2.lnew (its:=[]) (ys:=[]) (t':=s2.toks) .nil (Ef _);have U:H2 s2.heap.objs.size=none:=I2.fresh;obtain⟨W,⟨m0,w0⟩,Z⟩:=q s2.heap.objs.size U;have D:(s2.heap.push { cls:=.type "list",dict:=none,data:=.seq ([]:U5).toArray}).objs.size=s2.heap.objs.size+1:=K1 ..;have a1:∀b∈fp,b<s2.heap.objs.size:=λb a=>by
  obtain⟨o,e,_⟩:=T.obj _ _ st2 b a;exact Bk e
 have L:∀b∈fp,Dq X pins (upd H2 s2.heap.objs.size (.lst [])) b:=λb a=>⟨by rw[Bq (Cy (a1 b a))];exact(f2 b a).1,(f2 b a).2⟩;have h:Inv X pins σ (upd H2 s2.heap.objs.size (.lst [])) (Dg s2):=I3;have hsz:(Dg s2).heap.objs.size=s2.heap.objs.size+1:=D;have m:∀b∈fp,b<(Dg s2).heap.objs.size:=λb a=>by rw[hsz];exact Rm (a1 b a)
 have k3:∀b o,(Dg s2).heap.get? b=some o->h₁.get? b=some o:=λb o e=>B.extBut b o (Cy (Bk e)) (Ca _ e);have Ic:=uK (tk:=(Dg s2).toks) h S L m l k3;have a0:tn 0 h₁:=T.keep _ _ _ st2 λb a o e=>k3 b o (Ca _ e);have cC:X.s₀.heap.objs.size<=(Dg s2).heap.objs.size:=h.sz;have cL:(Dg s2).heap.objs.size≠X.env.locals:=Kz h.lt;have cc:∀x c,X.env.cells.lookup x=some c->c≠(Dg s2).heap.objs.size:=λx c e=>by
  obtain⟨v,o,ho,_⟩:=h.cell x c e;exact Cy (Bk ho)
 have cp:∀p∈X.pn++pins,p.1≠(Dg s2).heap.objs.size:=λp hp=>Cy (Bk (h.pin p hp).1);have j:∀{H':Hp},(∀b∈fp,H' b=none)->∀b∈fp,Dq (Bl X scope Nc fp pins (Dg s2) (upd H2 s2.heap.objs.size (.lst []))) [] H' b:=λhn b a =>
  ⟨hn b a,Cy (m b a),λz=>by
   rcases DY.mp (h.stkSub b z) with e | e
   ·exact(L b a).2.1 e
   ·exact(L b a).2.2.1 e,.inl a,λx c e=>(L b a).2.2.2.2.1 x c (O9 h S e),λp hp=>(L b a).2.2.2.2.2 p (by
    have:p∈(X.pn++pins)++[]:=hp
    simpa using this)⟩
 have t:∀s4:Shared,s4={ (Dg s2) with heap:=h₁,toks:=(Dg s2).toks} ->
   codeAny (model X.prog X.w) X.A (.compLoop (.ListComp elt [⟨tg,iter,[cond],0⟩] scope pos) 0 (.ref it) (.ref s2.heap.objs.size) (Bl X scope Nc fp pins (Dg s2) (upd H2 s2.heap.objs.size (.lst []))).env)
    (RR (.ref s2.heap.objs.size) (Dg s2).heap.objs.size) s4:=by
  rintro s4 rfl;refine _R (λn s'=>∃i ys σ' H',Inv (Bl X scope Nc fp pins (Dg s2) (upd H2 s2.heap.objs.size (.lst []))) [] σ' H' s'/\tn i s'.heap/\(∀b∈fp,H' b=none)/\W i n ys σ' H') ?_ m0
   ⟨0,[],sub mp σ,_,Ic,a0,λb a=>(L b a).1,w0⟩
  rintro n s5 ⟨i,ys,σ5,H5,I5,R,P,w5⟩;rcases Z i n ys σ5 H5 w5 with ⟨stop,qn⟩ | ⟨go,step⟩
  ·refine Eb (T.done (Bl X scope Nc fp pins (Dg s2) (upd H2 s2.heap.objs.size (.lst []))) rfl rfl rfl hc i [] s5 σ5 H5 (λ_ _=>False) I5 (j P) R stop) (λr s6 ⟨hr,I6⟩=>?_) λ_ _ f=>f.elim;subst hr;obtain⟨m6,a6,_⟩:=I6.loc;refine⟨λ_=>?_,λ_ z=>nomatch z⟩;exact fin _ _ H5 s6 m6 qn (wY h L I6) a6 I6.free cC cL cc cp
  ·refine Eb (T.item (Bl X scope Nc fp pins (Dg s2) (upd H2 s2.heap.objs.size (.lst []))) rfl rfl rfl hc i [] s5 σ5 H5 (λ_ _=>False) I5 (j P) R go) (λr s6 ⟨u,hr,h6⟩=>?_) λ_ _ f=>f.elim;subst hr;refine⟨(λz=>by cases z),?_⟩;rintro _ ⟨⟩;refine Eb h6 (λ_ s7 ⟨x,H7,I7,r7,y7,I,a9⟩=>?_) λ_ _ f=>f.elim;have a2:=I7.pinned (j a9) (T.obj _ _ I);refine Eb (hg _ _ _ _ _ s7 σ5 H7 x u _ a2 r7 (step x H7 y7)) (λ_ s8 ⟨M,H8,I8,q8⟩=>?_) λ_ _ f=>f.elim;refine Eb (ht _ _ _ _ _ s8 M H8 _ I8 q8) (λbb s9 ⟨H9,I9,p9,n9⟩=>?_) λ_ _ f=>f.elim;have keeps:∀{H':Hp}{s':U7},Inv (Bl X scope Nc fp pins (Dg s2) (upd H2 s2.heap.objs.size (.lst []))) ([]++Ft fp s7.heap) M H' s'->tn (i+1) s'.heap/\∀b∈fp,H' b=none:=λ{H' s'} J' =>
    ⟨T.keep _ _ _ I λb a o e=>(J'.pin (b,o) (Ho _ (Ho _ (TF a e)))).1,λb a=>by
     obtain⟨o,e,d⟩:=T.obj _ _ I b a
     exact(J'.pin (b,o) (Ho _ (Ho _ (TF a e)))).2.1⟩
   cases bb with
   | false =>
    obtain⟨Y,G,w9⟩:=n9 rfl;rw[if_neg DK];exact⟨Y,G,i+1,ys,M,H9,I9.unpinned,(keeps I9).1,(keeps I9).2,w9⟩
   | true =>
    rw[if_pos rfl];refine Eb (he _ _ _ _ _ s9 M H9 _ I9 (p9 rfl)) (λv a8 ⟨y,V,a',a5,a7,l10,Y,G,a3⟩=>?_) λ_ _ f=>f.elim;refine Eb (Sy (X:=Bl X scope Nc fp pins (Dg s2) (upd H2 s2.heap.objs.size (.lst []))) _ a8 M V (.ref s2.heap.objs.size) [y] (.ref s2.heap.objs.size) [v] (λz Hz=>z=.non/\Hz=upd V s2.heap.objs.size (.lst (ys++[y]))) a' rfl (.cons a5 .nil) ⟨_,ys,y,O,O,a7,l10,O,O⟩) (λb1 b0 ⟨z,b2,F,_,_,a4⟩=>?_) λ_ _ f=>f.elim;subst a4;exact⟨Y,G,i+1,ys++[y],M,_,F.unpinned,(keeps F).1,(keeps F).2,a3⟩
 exact oh (t _ rfl) (T.self _ 0 _ _ _ a0 (t _ rfl))
theorem lF{i:Nat}{x:Str}{pos' spos:Pos}(hc:X.calm=true)(hN:X.N.Nodup)(hi':X.N[i]?=some x)(hx:X.env.scope.names.lookup x=some .local)(S:Bw X.N X.env.scope scope Nc mp)(hi:PI X tg iter wi)
  (hg:∀ex pins s H,PG (Bl X scope Nc ex pins s H) tg g) (ht:∀ex pins s H,PT (Bl X scope Nc ex pins s H) cond tc) (he:∀ex pins s H,PE (Bl X scope Nc ex pins s H) elt te)
  (hsw:swapsWith (.ListComp elt [⟨tg,iter,[cond],0⟩] scope pos) (some (.Name x pos')) spos.line X.env=pure true)
  (hf:autoParam (∀x,foldedSetIterable iter X.env x=pure x) PySem.wpAny_For._auto_3):PS X (.Assign [.Name x pos'] (.ListComp elt [⟨tg,iter,[cond],0⟩] scope pos) spos) (Mu (Z2 mp wi g tc te) (CK i)):=by
 intro pins s σ H D I h;rw[oU _ _ _ _ hsw];refine Ak (Oh (Ak ?_));show wpAny _ X.A (do let _ ← comprehension (.ListComp elt [⟨tg,iter,[cond],0⟩] scope pos) scope X.env _ (newList []) false (eval iter X.env) (some (assign (.Name x pos') X.env))) _ _ s
 refine Ak (Eb (bw (use:=some (assign (.Name x pos') X.env)) (Q:=λ_ s'=>SP X pins D .next s') rfl hf (lK (Y5 I S)) S.kind S.names
  (Bd (hi pins s σ H _ I h) λv K h1=>Bd h1 λt L h2=>?_)) (λ_ s' E=>BZ (BZ E)) λ_ _ e=>e)
 obtain⟨it,fp,tn,J,H2,e,p,T,f,y,q⟩:=h2;subst e;refine X5r (Q:=λx H1=>CK i x σ H1 D.nx) (RR:=λacc C=>compPost (model X.prog X.w) X.A X.xe (some (assign (.Name x pos') X.env)) (λ_ s'=>SP X pins D .next s') acc C) hc S hg ht he p T f y q ?_;intro acc C H' s' B qq m r k c1 c2 c3 l;show wpAny _ X.A (assign (.Name x pos') X.env (.ref acc)) _ _ _;refine au (lJ (v:=.ref acc) m hN hi' (.inl hx) rfl (λn j ⟨a,c,F⟩=>?_) (.inr hx));have d:C≠a:=by
  rcases F with z | z
  ·rw[z];exact c2
  ·exact Ne.symm (c3 x a z)
 refine⟨B,r.sameBut c d,λh' G=>⟨σ.set i (some (.ref acc)),H',?_,qq⟩⟩;exact j.turnedNew (t':=n.toks) (λb o u e=>G.extBut b o u e) k c1 c2 c3 l
end
def UL (t:TE):TT:=λσ H Q=>t σ H λx H'=>∃i,x=.int i/\Q (i != 0) H'
theorem Kd{X:Cx}{a:Expr}{ta:TE}(ha:PE X a ta)(he:∀whole,isTrue a X.env whole=(do let v ← whole;standAt a.pos;holding [v] (truthy v))):PT X a (UL ta):=by
 intro pins s σ H Q I h;refine isTrue_plain (Bd (ha pins s σ H _ I h) λv c ⟨x,H1,f,b,i,e,d⟩=>?_) (he _);subst e;exact X7j pins c σ H1 (.int i) v Q f b ⟨_,O,d⟩
theorem Y7d{lo:Int}{n:Nat}{tc:TT}{te:TE}{fr:St}{H1:Hp}{acc:Y1}{Q:VK}(Pv:Nat->List V->Hp->Prop)(hn:n<=sizeLine)(h0:Pv 0 [] (upd H1 acc (.lst [])))
  (hs:∀i ys H (N:Bool->Hp->Prop),i<n->ys.length<=i->Pv i ys H->(∀b a,(b=true->te (some (.int (lo+i))::fr) a λy c=>c acc=some (.lst ys)/\Pv (i+1) (ys++[y]) (upd c acc (.lst (ys++[y]))))->(b=false->Pv (i+1) ys a)->N b a)->tc (some (.int (lo+i))::fr) H N)
  (mono:∀{σ H}{R R':VK},(∀v H,R v H->R' v H)->te σ H R->te σ H R')
  (hd:∀ys H,Pv n ys H->Q (.ref acc) H):Lg (GZ lo n) (CK 0) tc te (none::fr) H1 acc Q:=by
 refine⟨λi m ys d H2=>m=n-i/\i<=n/\ys.length<=i/\(∃v,d=v::fr)/\Pv i ys H2,⟨n,by simp,Ef _,Bc _,⟨_,O⟩,h0⟩,?_⟩;rintro i m ys d H2 ⟨rfl,hi,j,⟨v,rfl⟩,p⟩;by_cases hlt:i<n
 ·refine .inr ⟨hlt,λx k g=>?_⟩;obtain⟨rfl,rfl⟩:=g;show tc ((v::fr).set 0 (some (.int (lo+i)))) _ _;rw[List.set_cons_zero];refine hs i ys _ _ hlt j p λb a h f=>⟨λe=>mono (λy c q=>?_) (h e),λe=>⟨n-(i+1),by lia,O,hlt,by lia,⟨_,O⟩,f e⟩⟩;exact⟨q.1,by lia,n-(i+1),by lia,O,hlt,by rw[Gh];simp;omega,⟨_,O⟩,q.2⟩
 ·have e:i=n:=by lia
  subst e;exact .inl ⟨Bc _,hd ys H2 p⟩
end L2
namespace Al
open L2 Am Pc Ba
theorem Ml{X:Cx}{st:Stmt}:PS X st (λ_ _ _=>False):=λ_ _ _ _ _ _ h=>h.elim
theorem _J{ns:U6}(h:ns.Nodup):unlike ns=ns.length:=by
 have key:∀i,i<=ns.length->(firstMet (λi=>ns.getD i 0) i).length=i:=by
  intro i;induction i with
  | zero=>intro _;rfl
  | succ i ih =>
   intro hi;rw[firstMet_succ,step_length,firstMet_any,if_neg,ih (by lia)];intro z;obtain⟨y,b,e⟩:=aW.mp z;obtain⟨j,a,rfl⟩:=Jl.mp b;have a:=Gg.mp a;have e:ns.getD j 0=ns.getD i 0:=by simpa using e
   rw[G5,G5,Di (by lia),Di (by lia)]at e;have:=(List.getElem_inj h).mp e;lia
 exact key _ (Bc _)
noncomputable abbrev NB:List (Str×Int):=[("flip",1),("mix",1),("turn",2),("if",2),("pair",2),("swap",2),("cross",3)]
noncomputable abbrev Mr (nm:Str)(ns:U6):HO:=.tup (.str nm::ns.map V.int)
noncomputable def named (nm:Str)(ns:U6):List Int:=if nm="turn" then ns.take 1 else ns
structure Form (nm:Str) (ns:U6):Prop where
 num:numAt NB nm=some (.int ns.length)
 len:ns.length<=3
 turn:nm="turn"->∃a k,ns=[a,k]/\1<=k/\k<=7
structure Fits (nm:Str) (ns:U6) (c:Nat):Prop where
 form:Form nm ns
 low:∀a∈named nm ns,0<=a/\a<c
 nd:(named nm ns).Nodup
def qK:Sp:=λvs H Q _=>∃(p:Y1) (nm:Str) (ns:U6),vs=[.ref p]/\H p=some (Mr nm ns)/\Form nm ns/\∀H',Same H H'->Q (.bl true) H'
def mq:Sp:=λvs H Q _=>∃(p:Y1) (nm:Str) (ns:U6),vs=[.ref p]/\H p=some (Mr nm ns)/\Form nm ns/\∀(r:Y1) (H':Hp),Same H H'->H' r=some (.tup ((named nm ns).map V.int))->Q (.ref r) H'
def tG:Sp:=λvs H Q _=>∃(p:Y1) (nm:Str) (ns:U6) (c:Nat),vs=[.ref p,.int c]/\H p=some (Mr nm ns)/\Fits nm ns c/\∀H',Same H H'->Q (.ref p) H'
def qJ (K:U0):Sp:=λvs H Q _=>∃(l:Y1) (xs:List V) (c:Nat),vs=[.ref l]/\Ax K H l xs/\xs.length=2^c/\c<=6/\Q (.int c) H
variable{c:Nat}
theorem jt(h:c<=6):Builtin.Int.intBits (((2^c:Nat):Int))=c+1:=by
 have:c=0\/c=1\/c=2\/c=3\/c=4\/c=5\/c=6:=by lia
 rcases this with rfl | rfl | rfl | rfl | rfl | rfl | rfl<;>decide +kernel
variable{x:V}{xs:List V}
theorem at0:GC (x::xs) 0=some x:=Mf (show (x::xs)[0]?=some x from rfl)
theorem R9:HT.Bp (x::xs).length 0 (some 1)=1:=by
 have:=HT.Wb (x::xs).length 0 1;rw[show ((1:Nat):Int)=1 from rfl]at this;rw[this];simp
theorem WW:Dy (x::xs) (some 1) none=xs:=by
 unfold Dy;rw[R9];have e2:HT.Bp (x::xs).length (x::xs).length none=(x::xs).length:=rfl;rw[e2];simp
theorem X9b(K:U0):PySem.W.kitOne K (.type "str") (.type "str")=some true:=by unfold PySem.W.kitOne;rw[if_pos (by decide)]
section
variable {P:U8}{w:W3}{K:U0}{mg:U4}{base:Heap}{k:Nat}{h:Heap}
theorem Y4d(F:Ab K "is_whole" (top 14) .none)(X:K.In h)(G:Ng h mg)(B:Bs mg):Ar P w K mg base (k+1) "is_whole" ["thing"] Nu:=by
 refine F.cal X G ["thing"] (bi:=Ql λ_ _ _ _ _ _ _=>rfl) (len:=λ_ _ _ _ h=>by obtain⟨_,rfl,_⟩:=h;rfl) λa H vs Q E b h=>?_;obtain⟨i,rfl,q⟩:=h;refine⟨_,(@Av _ _ _ (Bb (KZ (DP Ny rfl B.isinstance Jm (Aa (pv 0) (Aa (Mh (v:=.ty "int") rfl B.int Rx rfl) Af))) (Jt (lZ (DP Ny rfl B.isinstance Jm (Aa (pv 0) (Aa (Mh (v:=.ty "bool") rfl B.bool boot_bool rfl) Af)))))))),?_⟩;try dsimp only[Bu]
 refine⟨_,O,_,_,_,true,O,Cq.int i,lW K,_,O,Df ?_⟩;exact⟨_,O,_,_,_,false,O,Cq.int i,lV K,_,O,q⟩
theorem Y4f(F:Ab K "cells_of" (top 38) .none)(X:K.In h)(G:Ng h mg)(B:Bs mg):Ar P w K mg base (k+1) "cells_of" ["board"] (qJ K):=by
 refine F.cal X G ["board"] (bi:=Ql λ_ _ _ _ _ _ _=>rfl) (len:=λ_ _ _ _ h=>by obtain⟨_,_,_,rfl,_⟩:=h;rfl) λd H vs Q E e h=>?_;obtain⟨l,xs,c,rfl,a,len,b,q⟩:=h;refine⟨_,(@Av _ _ _ (Bb (Ag Ii (lY bY Yb dh lE (DP Jw rfl B.len JR (Aa (pv 0) Af))) Ad))),?_⟩;try dsimp only[Bu]
 refine⟨_,O,l,_,O,.inl a,O,_,O,O,_,_,O,O,?_⟩;show Q (.int (((Builtin.Int.intBits ((xs.length:Nat):Int):Nat):Int)-1)) H;rw[len,jt b,show (((c+1:Nat):Int)-1)=(c:Int) by lia];exact q
theorem _3(F:Ab K "named_cells" (top 45) .none)(X:K.In h)(G:Ng h mg)(B:Bs mg):Ar P w K mg base (k+1) "named_cells" ["move"] mq:=by
 refine F.cal X G ["move"] (bi:=Ql λ_ _ _ _ _ _ _=>rfl) (len:=λ_ _ _ _ h=>by obtain⟨_,_,_,rfl,_⟩:=h;rfl) λg H vs Q E b h=>?_;obtain⟨p,nm,ns,rfl,hp,f,d⟩:=h;have SP:Ao K H p (.str nm::ns.map V.int):=Ao.of hp;refine⟨_,(@Av _ _ _ (Bb (Mj (Bx Cz (Ai Aq (pv 0) Ad (λ_ _=>rfl)) Ej (Ae _)) (Ld Wc (pv 0) (Jv Ad) (Jv Ad)) (Ld Wc (pv 0) (Jv Ad) Nq)))),?_⟩;try dsimp only[Bu]
 refine⟨_,O,p,_,_,.str nm,O,O,SP,at0,O,_,O,Ay (λz=>?_) (λz=>?_)⟩
 ·have e:nm="turn":=V.str.inj z;obtain⟨a,kk,rfl,_⟩:=f.turn e;refine⟨_,O,_,O,_,O,p,_,O,SP,.inr ⟨λc=>absurd c.1 (by rw[R9];decide),λr b=>d r _ (BW b _) ?_⟩⟩;rw[Az];unfold named;rw[if_pos e];rfl
 ·have e:nm≠"turn":=λc=>z (by rw[c]);refine⟨_,O,_,O,p,_,O,SP,.inr ⟨λc=>absurd c.1 (by rw[R9];decide),λr b=>d r _ (BW b _) ?_⟩⟩;rw[Az,WW];unfold named;rw[if_neg e]
theorem X5b(F:Ab K "has_move_form" (top 44) .none)(X:K.In h)(G:Ng h mg)(B:Bs mg){aN:Y1}(gN:mg "NUMBERS_BEHIND"=some (.ref aN))(DN:Jy K w.params aN NB)(c7:Ar P w K mg base k "is_whole" ["thing"] Nu):
  Ar P w K mg base (k+1) "has_move_form" ["thing"] qK:=by
 refine F.cal X G ["thing"] (bi:=Ql λ_ _ _ _ _ _ _=>rfl) (len:=λ_ _ _ _ h=>by obtain⟨_,_,_,rfl,_⟩:=h;rfl) λA H vs Q E j h=>?_;obtain⟨p,nm,ns,rfl,hp,g,q⟩:=h;have SP:Ao K H p (.str nm::ns.map V.int):=Ao.of hp;have l3:=g.len;have m:(V.str nm::ns.map V.int).length=ns.length+1:=by rw[J9,Bj]
 refine⟨_,(@Aw _ _ _ _ _ (CQ (PW.pt (Jb (Ij (Fp (DP Ny rfl B.isinstance Jm (Aa (pv 0) (Aa (Mh (v:=.ty "tuple") rfl B.tuple boot_tuple rfl) Af))))) (La (Bx Cz (DP Jw rfl B.len JR (Aa (pv 0) Af)) Ad (Ae _)))))
   (@Av _ _ _ (Bb MP))
   CT)
  (@Aw _ _ _ _ _ (CQ (PW.pt (Jb (Ij (Fp (DP Ny rfl B.isinstance Jm (Aa (Ai Aq (pv 0) Ad (λ_ _=>rfl)) (Aa (Mh (v:=.ty "str") rfl B.str boot_str rfl) Af))))) (La (X7v (Y6b DN (Ai Aq (pv 0) Ad (λ_ _=>rfl)) (HY (v:=.ref aN) rfl gN rfl))))))
   (@Av _ _ _ (Bb MP))
   CT)
  (@Aw _ _ _ _ _ (CQ (Bx LC (DP Jw rfl B.len JR (Aa (pv 0) Af)) (Ag DX Ad (X4f DN (HY (v:=.ref aN) rfl gN rfl) (Ai Aq (pv 0) Ad (λ_ _=>rfl)) (λ_ _=>rfl))) (Ae _))
   (@Av _ _ _ (Bb MP))
   CT)
  (@Aw _ _ _ _ _ (CQ (Ij (Fp (DP (kJ rfl) rfl B.all boot_all (Aa (KY rfl (Bw.of (Nc:=["number"]) (mp:=[none]) (by kernel_rfl)) (XQ (Ld Wc (pv 0) (Jv Ad) Nq)) (λ_ _ _ _=>(CN (i:=0) (show (["number"]:W0).Nodup by decide +kernel) rfl (Or.inl rfl))) (λ_ _ _ _=>(BP c7 j rfl (Aa (pv 0) Af)))) Af))))
   (@Av _ _ _ (Bb MP))
   CT)
  (@Av _ _ _ (Bb (vP (GX LC (Ai Aq (pv 0) Ad (λ_ _=>rfl)) Ej (Ae _)) (Jt (KZ (GX nA (Ai Aq (pv 0) Ad (λ_ _=>rfl)) Ad (Ae _)) (Jt (GX vK (Ai Aq (pv 0) Ad (λ_ _=>rfl)) Ad (Ae _)))))))))))),?_⟩
 try dsimp only[Bu]
 refine⟨_,O,_,_,_,true,O,Cq.tup hp,wW K,_,O,CP ⟨_,O,p,_,O,.inr SP,O,_,O,JZ (λz=>absurd z (by rw[m];lia)) (λ_=>?_)⟩⟩;refine⟨_,O,p,_,_,.str nm,O,O,SP,at0,_,_,_,true,O,Cq.str nm,X9b K,_,O,CP ⟨_,O,p,_,_,.str nm,O,O,SP,at0,nm,O,_,O,?_⟩⟩;rw[g.num];refine CP ⟨_,O,p,_,O,.inr SP,_,O,p,_,_,.str nm,O,O,SP,at0,nm,_,O,g.num,_,_,O,O,O,_,O,Ov (λz=>absurd (by rw[m];omega) z) (λ_=>?_)⟩;refine⟨_,O,_,O,p,_,O,SP,.inr ⟨λc=>absurd c.1 (by rw[R9];decide),λr j=>?_⟩⟩;rw[WW];have s:=BW j (.tup (ns.map V.int));refine⟨r,O,⟨_,Ao.of Az⟩,λacc f=>?_⟩;refine mO (K:=K) (λ_=>.bl true) (Ao.of Az) (JK (by lia)) f (λn H2 N y x t=>⟨_,O,n,O,t⟩) (λl S3 o=>?_);have e:ns.map (λ_=>V.bl true)=(ns.map λ_=>true).map V.bl:=by rw[Lx];rfl
 rw[e]at o;have d:=s.trans S3;have b:Ao K l p (.str nm::ns.map V.int):=Ao.of (d _ _ hp);refine⟨acc,_,O,Ax.of o,_,O,Iv (λz=>absurd z (by simp)) (λ_=>?_)⟩;refine⟨_,O,p,_,_,.str nm,O,O,b,at0,O,_,O,Iv (λ_=>q _ d) (λz=>?_)⟩;obtain⟨a,kk,rfl,k1,u⟩:=g.turn (V.str.inj (M6 z));refine⟨_,O,p,_,_,.int kk,O,O,b,O,_,_,O,O,_,O,Ay (λ_=>?_) (λz=>absurd k1 z)⟩;refine⟨_,O,p,_,_,.int kk,O,O,b,O,_,_,O,O,?_⟩;show Q (.bl (decide (kk<=7))) l;rw[Cj u];exact q _ d
theorem X0d(F:Ab K "check_move" (top 43) .none)(X:K.In h)(G:Ng h mg)(B:Bs mg)(cV:Ar P w K mg base k "has_move_form" ["thing"] qK)(cH:Ar P w K mg base k "named_cells" ["move"] mq):
  Ar P w K mg base (k+1) "check_move" ["move","cells"] tG:=by
 refine F.cal X G ["move","cells","named"] (bi:=Qk λ_ _ _ _ _ _ _ _=>rfl) (len:=λ_ _ _ _ h=>by obtain⟨_,_,_,_,rfl,_⟩:=h;rfl) λnd H vs Q E f h=>?_;obtain⟨p,nm,ns,c,rfl,hp,b,u⟩:=h;have l3:(named nm ns).length<=3:=by
  have:=b.form.len;unfold named;split
  ·rw[J_];lia
  ·exact this
 refine⟨_,(@Aw _ _ _ _ _ (CQ (Ij (Fp (BP cV f rfl (Aa (pv 0) Af))))
   (@Av _ _ _ Ml)
   CT)
  (@Aw _ _ _ _ _ (@BR _ _ 2 _ _ _ _ nd rfl (Or.inl rfl) (BP cH f rfl (Aa (pv 0) Af)) rfl (.inl rfl))
  (@Aw _ _ _ _ _ (CQ (Fp (DP (Y8i rfl) rfl B.any boot_any (Aa (KY rfl (Bw.of (Nc:=["cell","cells"]) (mp:=[none,some 1]) (by kernel_rfl)) (XQ (pv 2)) (λ_ _ _ _=>(CN (i:=0) (show (["cell","cells"]:W0).Nodup by decide +kernel) rfl (Or.inl rfl))) (λ_ _ _ _=>(vP (GX Q9 (pv 0) Ad (Ae _)) (Jt (GX nA (pv 0) (pv 1) (Ae _)))))) Af)))
   (@Av _ _ _ Ml)
   CT)
  (@Aw _ _ _ _ _ (CQ (Bx LC (DP Y8h rfl B.len JR (Aa (Qz (Y8e rfl) rfl B.set boot_set (Aa (pv 2) Af)) Af)) (DP Jw rfl B.len JR (Aa (pv 2) Af)) (Ae _))
   (@Av _ _ _ Ml)
   CT)
  (@Av _ _ _ (Bb (pv 0))))))),?_⟩
 try dsimp only[Bu]
 refine⟨_,O,p,nm,ns,O,hp,b.form,λH1 g=>⟨_,O,CP ?_⟩⟩;refine⟨_,O,p,nm,ns,O,g _ _ hp,b.form,λr H2 j f=>?_⟩;have d:Ao K H2 r ((named nm ns).map V.int):=Ao.of f;refine⟨_,O,r,O,⟨_,d⟩,λacc a=>?_⟩;refine mO (K:=K) (λ_=>.bl false) d (JK (by lia)) a (λn H2 N q j s=>?_) (λv S3 m=>?_)
 ·obtain⟨y,x⟩:=b.low n q;refine⟨_,O,_,_,O,O,_,O,Ay (λz=>absurd z (by lia)) (λ_=>?_)⟩;refine⟨_,O,_,O,_,_,O,O,?_⟩;show N (.bl (decide ((c:Int)<=n))) _;rw[Cd (by lia)];exact s
 have e:(named nm ns).map (λ_=>V.bl false)=((named nm ns).map λ_=>false).map V.bl:=by rw[Lx];rfl
 rw[e]at m;refine⟨acc,_,O,Ax.of m,_,O,?_⟩;rw[show ((named nm ns).map λ_=>false).any id=false by simp];refine CP ?_;refine⟨_,O,r,_,O,S3.tup d,by lia,λl S t=>?_⟩;have o:=BW t (.set S (unlike (named nm ns)));have un:=_J b.nd;refine⟨l,S,_,O,Az,by lia,_,O,r,_,O,.inr (o.tup (S3.tup d)),O,_,O,Ov (λz=>absurd (by rw[un,Bj]) z) (λ_=>?_)⟩;exact⟨_,O,u _ (((g.trans j).trans S3).trans o)⟩
end
inductive Mv where
 | flip (a:Nat)
 | turn (a k:Nat)
 | iff (a b:Nat)
 | pair (a b:Nat)
 | swap (a b:Nat)
 | cross (a b d:Nat)
noncomputable def Iz (w a b:Nat):Nat:=if w&&&(2^a ||| 2^b)=2^a\/w&&&(2^a ||| 2^b)=2^b then w^^^(2^a ||| 2^b) else w
namespace Mv
noncomputable def nm:Mv->Str
 | flip _=>"flip"
 | turn _ _=>"turn"
 | iff _ _=>"if"
 | pair _ _=>"pair"
 | swap _ _=>"swap"
 | cross _ _ _=>"cross"
noncomputable def ns:Mv->List Int
 | flip a=>[(a:Int)]
 | turn a k=>[(a:Int),(k:Int)]
 | iff a b=>[(a:Int),(b:Int)]
 | pair a b=>[(a:Int),(b:Int)]
 | swap a b=>[(a:Int),(b:Int)]
 | cross a b d=>[(a:Int),(b:Int),(d:Int)]
def Ok (c:Nat):Mv->Prop
 | flip a=>a<c
 | turn a k=>a<c/\1<=k/\k<=7
 | iff a b=>a<c/\b<c/\a≠b
 | pair a b=>a<c/\b<c/\a≠b
 | swap a b=>a<c/\b<c/\a≠b
 | cross a b d=>a<c/\b<c/\d<c/\a≠b/\a≠d/\b≠d
noncomputable def to (w:Nat):Mv->Nat
 | flip a=>w^^^2^a
 | iff a b=>if w&&&2^a=0 then w else w^^^2^b
 | swap a b=>Iz w a b
 | cross a b d=>if w&&&2^a=0 then w else Iz w b d
 | _=>w
noncomputable def sp (w:Nat):Mv->Nat
 | turn a k=>if w&&&2^a=2^a then k else 0
 | pair a b=>if w&&&(2^a ||| 2^b)=(2^a ||| 2^b) then 4 else 0
 | _=>0
end Mv
noncomputable abbrev at2 (w a:Nat):Nat:=w / 2^a%2
noncomputable def c1 (c a w:Nat):Bool:=decide ((Mv.flip a).to w<2^c) && decide ((Mv.flip a).to ((Mv.flip a).to w)=w) && decide ((w:Int)+(1-2*(at2 w a:Int))*((2^a:Nat):Int)=((Mv.flip a).to w:Nat)) &&
 decide ((if w&&&2^a=2^a then 1 else 0)=at2 w a)
noncomputable def c2 (c a b w:Nat):Bool:=decide (a=b) || (decide ((Mv.iff a b).to w<2^c) && decide ((Mv.iff a b).to ((Mv.iff a b).to w)=w) && decide ((w:Int)+(at2 w a:Int)*(1-2*(at2 w b:Int))*((2^b:Nat):Int)=((Mv.iff a b).to w:Nat)) &&
 decide ((Mv.swap a b).to w<2^c) && decide ((Mv.swap a b).to ((Mv.swap a b).to w)=w) && decide ((w:Int)+((at2 w b:Int)-(at2 w a:Int))*(((2^a:Nat):Int)-((2^b:Nat):Int))=((Mv.swap a b).to w:Nat)) &&
 decide (4*at2 w a*at2 w b=(Mv.pair a b).sp w))
noncomputable def c3 (c a b d w:Nat):Bool:=decide (a=b) || decide (a=d) || decide (b=d) || (decide ((Mv.cross a b d).to w<2^c) && decide ((Mv.cross a b d).to ((Mv.cross a b d).to w)=w) &&
 decide ((w:Int)+(at2 w a:Int)*((at2 w d:Int)-(at2 w b:Int))*(((2^b:Nat):Int)-((2^d:Nat):Int))=((Mv.cross a b d).to w:Nat)))
theorem W0h:((List.range 7).all λc=>(List.range c).all λa=>(List.range (2^c)).all λw=>c1 c a w)=true:=by decide +kernel
theorem W0g:((List.range 7).all λc=>(List.range c).all λa=>(List.range c).all λb=>(List.range (2^c)).all λw=>c2 c a b w)=true:=by decide +kernel
theorem W0f:((List.range 7).all λc=>(List.range c).all λa=>(List.range c).all λb=>(List.range c).all λd=>(List.range (2^c)).all λw=>c3 c a b d w)=true:=by decide +kernel
theorem Cp{p:Nat->Bool}{n i:Nat}(h:(List.range n).all p=true)(hi:i<n):p i=true:=QM.mp h i (Gg.mpr hi)
section
variable {c a b d w:Nat}
theorem W2q(hc:c<=6)(ha:a<c)(hw:w<2^c):c1 c a w=true:=Cp (Cp (Cp W0h (by lia:c<7)) ha) hw
theorem W2p(hc:c<=6)(ha:a<c)(hb:b<c)(hw:w<2^c):c2 c a b w=true:=Cp (Cp (Cp (Cp W0g (by lia:c<7)) ha) hb) hw
theorem W2o(hc:c<=6)(ha:a<c)(hb:b<c)(hd:d<c)(hw:w<2^c):c3 c a b d w=true:=Cp (Cp (Cp (Cp (Cp W0f (by lia:c<7)) ha) hb) hd) hw
theorem X9y(hc:c<=6)(ha:a<c)(hw:w<2^c):(Mv.flip a).to w<2^c/\(Mv.flip a).to ((Mv.flip a).to w)=w/\(w:Int)+(1-2*(at2 w a:Int))*((2^a:Nat):Int)=((Mv.flip a).to w:Nat)/\(if w&&&2^a=2^a then 1 else 0)=at2 w a:=by
 have:=W2q hc ha hw;unfold c1 at this;simp only[GQ,KC]at this;exact⟨this.1.1.1,this.1.1.2,this.1.2,this.2⟩
theorem vH(hc:c<=6)(ha:a<c)(hb:b<c)(n:a≠b)(hw:w<2^c):((Mv.iff a b).to w<2^c/\(Mv.iff a b).to ((Mv.iff a b).to w)=w/\(w:Int)+(at2 w a:Int)*(1-2*(at2 w b:Int))*((2^b:Nat):Int)=((Mv.iff a b).to w:Nat)) /\
  ((Mv.swap a b).to w<2^c/\(Mv.swap a b).to ((Mv.swap a b).to w)=w/\(w:Int)+((at2 w b:Int)-(at2 w a:Int))*(((2^a:Nat):Int)-((2^b:Nat):Int))=((Mv.swap a b).to w:Nat))/\4*at2 w a*at2 w b=(Mv.pair a b).sp w:=by
 have:=W2p hc ha hb hw;unfold c2 at this;rw[Cd n,QD]at this;simp only[GQ,KC]at this;obtain⟨⟨⟨⟨⟨⟨h1,h2⟩,d⟩,e⟩,f⟩,h⟩,g⟩:=this;exact⟨⟨h1,h2,d⟩,⟨e,f,h⟩,g⟩
theorem X6b(hc:c<=6)(ha:a<c)(hb:b<c)(hd:d<c)(n1:a≠b)(n2:a≠d)(n3:b≠d)(hw:w<2^c):(Mv.cross a b d).to w<2^c/\(Mv.cross a b d).to ((Mv.cross a b d).to w)=w /\
  (w:Int)+(at2 w a:Int)*((at2 w d:Int)-(at2 w b:Int))*(((2^b:Nat):Int)-((2^d:Nat):Int))=((Mv.cross a b d).to w:Nat):=by
 have:=W2o hc ha hb hd hw;unfold c3 at this;rw[Cd n1,Cd n2,Cd n3,QD,QD,QD]at this;simp only[GQ,KC]at this;exact⟨this.1.1,this.1.2,this.2⟩
end
theorem Mv.to_lt{v:Mv}{w:Nat}(hc:c<=6)(h:v.Ok c)(hw:w<2^c):v.to w<2^c:=by
 cases v with
 | flip a=>exact(X9y hc h hw).1
 | turn a k=>exact hw
 | iff a b=>exact(vH hc h.1 h.2.1 h.2.2 hw).1.1
 | pair a b=>exact hw
 | swap a b=>exact(vH hc h.1 h.2.1 h.2.2 hw).2.1.1
 | cross a b d=>exact(X6b hc h.1 h.2.1 h.2.2.1 h.2.2.2.1 h.2.2.2.2.1 h.2.2.2.2.2 hw).1
theorem Mv.fits{v:Mv}(h:v.Ok c):Fits v.nm v.ns c:=by
 cases v with
 | flip a =>
  have e:named "flip" [(a:Int)]=[(a:Int)]:=by unfold named;rw[if_neg (by decide +kernel)]
  have h:a<c:=h;exact⟨⟨(show numAt NB "flip"=some (.int ((1:Nat):Int)) by decide +kernel),(show 1<=3 by decide),λz=>absurd (show ("flip":Str)="turn" from z) (by decide +kernel)⟩,by show ∀x∈named "flip" [(a:Int)],_;rw[e];intro b g;rw[GK.mp g];lia,by show (named "flip" [(a:Int)]).Nodup;rw[e];simp⟩
 | turn a k =>
  have e:named "turn" [(a:Int),(k:Int)]=[(a:Int)]:=by unfold named;rw[if_pos rfl];rfl
  have h:a<c/\1<=k/\k<=7:=h;exact⟨⟨(show numAt NB "turn"=some (.int ((2:Nat):Int)) by decide +kernel),(show 2<=3 by decide),λ_=>⟨a,k,O,by lia,by lia⟩⟩,by show ∀x∈named "turn" [(a:Int),(k:Int)],_;rw[e];intro b g;rw[GK.mp g];lia,by show (named "turn" [(a:Int),(k:Int)]).Nodup;rw[e];simp⟩
 | iff a b =>
  have e:named "if" [(a:Int),(b:Int)]=[(a:Int),(b:Int)]:=by unfold named;rw[if_neg (by decide +kernel)]
  have h:a<c/\b<c/\a≠b:=h;exact⟨⟨(show numAt NB "if"=some (.int ((2:Nat):Int)) by decide +kernel),(show 2<=3 by decide),λz=>absurd (show ("if":Str)="turn" from z) (by decide +kernel)⟩,by show ∀x∈named "if" [(a:Int),(b:Int)],_;rw[e];intro x f;simp at f;lia,by show (named "if" [(a:Int),(b:Int)]).Nodup;rw[e];simp;lia⟩
 | pair a b =>
  have e:named "pair" [(a:Int),(b:Int)]=[(a:Int),(b:Int)]:=by unfold named;rw[if_neg (by decide +kernel)]
  have h:a<c/\b<c/\a≠b:=h;exact⟨⟨(show numAt NB "pair"=some (.int ((2:Nat):Int)) by decide +kernel),(show 2<=3 by decide),λz=>absurd (show ("pair":Str)="turn" from z) (by decide +kernel)⟩,by show ∀x∈named "pair" [(a:Int),(b:Int)],_;rw[e];intro x f;simp at f;lia,by show (named "pair" [(a:Int),(b:Int)]).Nodup;rw[e];simp;lia⟩
 | swap a b =>
  have e:named "swap" [(a:Int),(b:Int)]=[(a:Int),(b:Int)]:=by unfold named;rw[if_neg (by decide +kernel)]
  have h:a<c/\b<c/\a≠b:=h;exact⟨⟨(show numAt NB "swap"=some (.int ((2:Nat):Int)) by decide +kernel),(show 2<=3 by decide),λz=>absurd (show ("swap":Str)="turn" from z) (by decide +kernel)⟩,by show ∀x∈named "swap" [(a:Int),(b:Int)],_;rw[e];intro x f;simp at f;lia,by show (named "swap" [(a:Int),(b:Int)]).Nodup;rw[e];simp;lia⟩
 | cross a b d =>
  have e:named "cross" [(a:Int),(b:Int),(d:Int)]=[(a:Int),(b:Int),(d:Int)]:=by unfold named;rw[if_neg (by decide +kernel)]
  have h:a<c/\b<c/\d<c/\a≠b/\a≠d/\b≠d:=h;exact⟨⟨(show numAt NB "cross"=some (.int ((3:Nat):Int)) by decide +kernel),(show 3<=3 by decide),λz=>absurd (show ("cross":Str)="turn" from z) (by decide +kernel)⟩,by show ∀x∈named "cross" [(a:Int),(b:Int),(d:Int)],_;rw[e];intro x f;simp at f;lia,by show (named "cross" [(a:Int),(b:Int),(d:Int)]).Nodup;rw[e];simp;lia⟩
end Al
namespace L2
def nu (s:U7)(P:Nat->Value->Prop)(n:Nat)(q:Result)(s':U7):Prop:=q=.ok (.ret (.ref s.heap.objs.size))/\∃h' tk,s'={s with heap:=h',toks:=tk}/\(∀b o,s.heap.get? b=some o->h'.get? b=some o) /\
 ∃acc c,ItemsOf P acc n/\h'.get? s.heap.objs.size=some { cls:=.type "list",dict:=none,data:=.seq acc c,slots:=#[]}
theorem gather{prog:U8}{w:W3}{A:W8}{E:U2}{s:U7}{T:String}{r d:Y1}{n:Nat}{P:Nat->Value->Prop}{OK:Heap->Prop}{R:List Value->Shared->Prop}(K:PySem.W.KdlSrc prog w T r d n P OK)(hh:A.handled=none)(hok:OK s.heap)(hn:n<=sizeLine)
  (h:∀(h':Heap) (tk:Nat) (acc:U9),(∀b o,s.heap.get? b=some o->h'.get? b=some o)->s.heap.objs.size<h'.objs.size->ItemsOf P acc n->R acc.toList {s with heap:=h',toks:=tk}):wpAny (model prog w) A (collect (.ref r)) R E s:=by
 obtain⟨l1,l2⟩:=K.there _ hok;have up:∀b o,s.heap.get? b=some o->(s.heap.push { cls:=.type "list",data:=.seq ([]:U5).toArray}).get? b=some o:=λb o e=>Ca _ e;have g:=PySem.W.kdl_extend (A:=A) (s:={s with heap:=s.heap.push { cls:=.type "list",data:=.seq ([]:U5).toArray}}) (R:=nu s P n) K hh (K.keep _ _ hok λb _=>up b) s.heap.objs.size (Kz l1) (Kz l2) (.ref s.heap.objs.size) 0
  (Ew _ rfl) (λh' tk acc c i a j=>⟨O,h',tk,O,λb o e=>i b o (Cy (Bk e)) (up b o e),acc,c,j,a⟩) hn
 unfold collect;refine Ak (wpAny_runValue (aU entry_proto_collect' ?_));rw[Around.under_plainId PySem.F.plain_proto_collect _];show wpAny _ A.in1 (newList [] >>= λl=>again (.builtin "list.__iadd__" ⟨[l,.ref r],[]⟩)) _ _ s;refine Ak (KD (BZ ⟨plainId_quiet pC _,aU entry_list_iadd' ?_⟩));rw[Around.under_plainId pC _];refine Eb g (λf s' x=>?_) λe s' x=>by cases x.1
 cases f with
 | done f =>
  obtain⟨e,h',tk,rfl,i,acc,c,j,a⟩:=x;cases e;exact Ak (wpAny_load a (BZ (h h' tk acc i (Bk a) j)))
 | again c =>
  refine⟨x.1,Mz x.2 λq k y=>?_⟩;obtain⟨rfl,h',tk,rfl,i,acc,c,j,a⟩:=y;exact Ak (wpAny_load a (BZ (h h' tk acc i (Bk a) j)))
end L2
namespace Dk
open PySem.Sem (wp)
def Raw (h:Heap)(d:Y1)(es:Array DictEntry)(ep:Nat):Prop:=∃o,h.get? d=some o/\o.ExactDict/\o.data=.dict es ep
variable{es:Array DictEntry}{ep:Nat}
theorem Raw.at{h h':Heap}{d:Y1}(x:Raw h d es ep)(e:∀o,h.get? d=some o->h'.get? d=some o):Raw h' d es ep:=let ⟨o,q,r⟩:=x;⟨o,e o q,r⟩
theorem Raw.type{s:U7}{d:Y1}(x:Raw s.heap d es ep):s.TypeIs (.ref d) "dict":=let ⟨o,q,r,_⟩:=x;⟨o,q,r.1⟩
section
variable {prog:U8}{w:W3}{A:W8}{E:U2}{s:U7}{d it:Y1}{es:Array DictEntry}{i ep:Nat}
theorem iter{Q:U2}(lo:(d == sysModules)=false)(x:Raw s.heap d es ep)(q:Q (.ref s.heap.objs.size) {s with heap:=s.heap.push { cls:=.type "dict_keyiterator",data:=.fields #[.ref d,.int 0 0,.int es.size 0,.int ep 0]}}):
  wpAny (model prog w) A (pyIter (.ref d)) Q E s:=by
 have ty:=x.type;obtain⟨o,a,b,hd⟩:=x;refine wpAny_pyIter_slot ty F.slot_dict_iter (Rj F.slot_dict_iter ty F.entry_dict_iter ?_ (F.args_dict_iter_1 _));unfold Builtin.«dict.__iter__» Builtin.Dict.dictSlotNone Builtin.Dict.showsAll;refine Ak (Ak (wpAny_notOrdered_dict ty (BZ ?_)));refine Ak (m:=Builtin.Dict.addrOf (Value.ref d)) (BZ ?_);rw[if_neg (show ¬ ((d == sysModules)=true) by rw[lo];decide)];refine Ak (BZ (Ak (wpAny_dictEntries a hd (Ak (wpAny_dictEpoch a hd (Ak (KD (BZ ⟨_,O,"dict_keyiterator",_,⟨_,Ew _ rfl,O⟩,F.slot_dict_keyiterator_next.lookup,?_⟩))))))));simpa [rawInt] using q
theorem step{Q:Option Value->Shared->Prop}(hh:es[i]?=none->A.handled=none)(hi:s.heap.IsKeyIter it d i es.size ep)(x:Raw s.heap d es ep)
  (go:∀(hlt:i<es.size) h',h'.IsKeyIter it d (i+1) es.size ep->Heap.SameBut it s.heap h'->Q (some es[i].key) {s with heap:=h'})
  (stop:∀h',es.size<=i->Heap.ExtBut it s.heap h'->Q none {s with heap:=h'}):wpAny (model prog w) A (pyNext (.ref it)) Q E s:=by
 have ty:=hi.typeIs;obtain⟨o,e,k,hd⟩:=id hi;obtain⟨od,g,h,f⟩:=x;unfold pyNext;refine Ak (RT (YT (name:=Str.ofString "__next__") ty F.slot_dict_keyiterator_next (Rj F.slot_dict_keyiterator_next ty F.entry_dict_keyiterator_next ?_ (F.args_dict_keyiterator_next_1 _))));refine Ak (BZ (Ak (Ak ?_)));first | refine Ak (dj ty (BZ (Ak (wpAny_fieldsOf e hd ?_)))) | refine Ak (bx ty (BZ (Ak (wpAny_fieldsOf e hd ?_))))
 simp only[show Builtin.Dict_items.ownsTuple "dict_keyiterator"=false by decide,M8,Ir];show wpAny _ _ (if (Value.ref d == Value.none)=true then _ else _) _ _ s;rw[if_neg (show ¬ ((Value.ref d == Value.none)=true) from DK)];refine Ak (BZ (Ak (wpAny_dictEntries g f ?_)));rw[if_neg (by simp)];refine Ak (BZ (Ak (wpAny_dictEpoch g f ?_)));rw[if_neg (by simp)];refine BZ ?_;rcases Nat.lt_or_ge i es.size with c | c
 ·simp only[show ¬ ((i:Int)<0) by lia,Ir,L_,Array.getElem?_eq_getElem c];refine Ak ?_;first | refine Ak (dj ty (BZ (Ak (bR ty ?_)))) | refine Ak (bx ty (BZ (Ak (bR ty ?_))))
  show wpAny _ _ (setField (.ref it) 1 (rawInt ((i:Int)+1)) >>= _) _ _ s;refine Ak (QG e hd (by simp) ?_);have h2:(s.heap.update it (Obj.mapFields (·.setIfInBounds 1 (rawInt ((i:Int)+1))))).IsKeyIter it d (i+1) es.size ep:=⟨_,Oq _ e (Obj.isFreed_of_fields (Obj.data_mapFields hd _)),(Obj.cls_mapFields ..).trans k,by rw[Obj.data_mapFields hd];simp[rawInt]⟩;refine Ak (JQ (Ak (bR (s:={s with heap:=s.heap.update it (Obj.mapFields (·.setIfInBounds 1 (rawInt ((i:Int)+1))))}) h2.typeIs ?_)));exact BZ (BZ ⟨_,O,BZ (go c _ h2 (Heap.SameBut.update ..))⟩)
 ·have j:=hh (oX c);simp only[show ¬ ((i:Int)<0) by lia,Ir,L_,oX c];refine Ak ?_;first | refine Ak (dj ty (BZ ?_)) | refine Ak (bx ty (BZ ?_))
  show wpAny _ _ (setField (.ref it) 0 .none >>= _) _ _ s;refine Ak (QG e hd (by simp) ?_);show wpAny _ _ (newExc (.type "StopIteration") [] >>= _) _ _ _;refine Ak ?_;simp only[newExc,newTuple];refine Ak (KD ?_ (by size_fits));refine Ak (m:=firstArgMember _ _) (wpAny_of_eq (a:=Value.none) (by first | rfl | (simp only[firstArgMember];rfl)) ?_);refine KD ?_ (by size_fits);simp only[raiseNew];refine Ak (wpAny_handled ?_);rw[show A.in1.handled=none from j];refine Ak (BZ (wpAny_throw ?_));refine Ak (wpAny_isInstance (T:="StopIteration") (b:=true) ⟨_,Ew _ rfl,O⟩ isSubtype_stop ?_);exact BZ (stop _ c (((Heap.SameBut.update ..).extBut.push _).push _))
theorem walks(hh:A.handled=none)(I d:Y1)(hne:d≠I)(es:Array DictEntry)(ep:Nat):
  Walks prog w A I [I,d] [I] es.size (λi v=>∃e,es[i]?=some e/\v=e.key) (λi h=>h.IsKeyIter I d i es.size ep/\Raw h d es ep) where
 sub:=λb a=>by simp at a;simp[a]
 frame:=λ_ _ _ st j=>⟨st.1.at λo e=>j I (by simp) o e,st.2.at λo e=>j d (by simp) o e⟩
 item:=λi s Q E hi st f=>step (λ_=>hh) st.1 st.2 (λc h' k g=>f _ h' s.toks ⟨es[i],by simp[c],rfl⟩ ⟨k,st.2.at λo e=>g.extBut _ _ hne e⟩ λb o a e=>g.extBut b o (λz=>a (by simp[z])) e) λh' c _=>absurd hi (by lia)
 done:=λs Q E st f=>step (λ_=>hh) st.1 st.2 (λc=>absurd c (J4 _)) λh' c l=>f h' s.toks λb o a e=>l b o (λz=>a (by simp[z])) e
 self:=λ_ _ _ _ st f=>wpAny_pyIter_keyiter st.1 f
theorem src(lo:(d == sysModules)=false):PySem.W.KdlSrc prog w "dict" d d es.size (λi v=>∃e,es[i]?=some e/\v=e.key) (λh=>Raw h d es ep) where
 type:=λ_ a=>a.type
 there:=λ_ a=>let ⟨_,ho,_⟩:=a;⟨Bk ho,Bk ho⟩
 keep:=λ_ _ a c=>a.at λo e=>c d (.inl rfl) o e
 notList:=by decide
 notTuple:=by decide
 hint:=λ_ _ _ _ a b=>PySem.W.kdl_hint_dict a.type b
 iter:=λ_ s f a=>⟨_,_,(λ_ _ b=>iter lo a b),walks f _ d (let ⟨_,ho,_⟩:=a;Cy (Bk ho)) es ep,⟨⟨_,Ew _ rfl,O,O⟩,a.at λo e=>Ca _ e⟩⟩
end
end Dk
namespace L2
def Ite (K:U0)(l:Y1):It :=
 ⟨λi H=>∃xs x,Ax K H l xs/\xs[i]?=some x,
 λi H v H'=>∃T x,v=.ref T/\H T=none/\H'=upd H T (.tup [.int i,x])/\∀xs,Ax K H l xs->xs[i]?=some x,
 λi H=>∃xs,Ax K H l xs/\xs.length<=i⟩
theorem Y4y{P:U8}{w:W3}{K:U0}{es:List Expr}{kk:Nat}{tp:Pos}{e it l:Y1}(ne:e≠it)(nl:l≠e):
  Turn P w K (.Tuple es kk tp) (Ite K l) [e,it] e (λi h=>(∃a,IsEnum h e it i a)/\h.IsListIter it l i) where
 mem:=by simp
 obj:=λi h st b c=>by
  obtain⟨⟨a,d⟩,o,f,_,W⟩:=st;simp only[DY,Gx,Gu]at c;rcases c with rfl | rfl
  ·exact⟨_,d,λv q=>by have J:Data.fields _=Data.cell v:=q;cases J⟩
  ·exact⟨o,f,λv z=>by rw[W]at z;cases z⟩
 keep:=λi h h' st k=>by
  obtain⟨⟨a,d⟩,f⟩:=st;exact⟨⟨a,k e (by simp) _ d⟩,f.at λo q=>k it (by simp) o q⟩
 item:=by
  intro X y B r G i pins s σ H E I g st A;subst y B r;obtain⟨xs,x,j,F⟩:=A;obtain⟨⟨a,d⟩,f⟩:=st;obtain⟨its,m,p,T⟩:=I.list j;obtain⟨t,C,R⟩:=m.get F;refine wpAny_pyNext_enum_item d f p.isList (x:=t) (by simpa using C) ne λh' U V L Z S=>?_;refine⟨_,O,wpAny_letOwnedTupleGo_enum U λh2 c1 n=>?_⟩;have M:s.heap.objs.size≠e:=Kz (Bk d);have k2:∀b o,b∉[e,it]->s.heap.get? b=some o->h2.get? b=some o:=λb o c q=>by
   simp only[DY,Gx,Gu,not_or]at c;exact n.extBut b o c.1 (S b o c.1 c.2 q)
  have N:IsTup h2 s.heap.objs.size ([.int i s.toks,t]:U5).toArray:=⟨_,n.extBut _ _ M L,O,_,O⟩;refine⟨.ref s.heap.objs.size,upd H s.heap.objs.size (.tup [.int i,x]),I.turnedT (t':=s.toks+1) k2 g (Bc _) (.cons ⟨_,O⟩ (.cons R .nil)) (by show 2<=sizeLine;decide) N,O,⟨_,x,O,I.hok.fresh (Bc _),O,λQ h1=>?_⟩,⟨⟨t,?_⟩,?_⟩,λb c=>?_⟩
  ·rw[I.list_inj h1 j];exact F
  ·exact_mod_cast c1
  ·exact V.at λo q=>n.extBut _ _ ne.symm q
  ·have u:b<s.heap.objs.size:=by
    simp only[DY,Gx,Gu]at c;rcases c with rfl | rfl
    ·exact Bk d
    ·obtain⟨o,q,_⟩:=f;exact Bk q
   rw[Bq (Cy u)];exact(g b c).1
 done:=by
  intro X y B r G i pins s σ H E I g st A;subst y B r;obtain⟨xs,j,D⟩:=A;obtain⟨⟨a,d⟩,f⟩:=st;obtain⟨its,m,p,T⟩:=I.list j;have e1:=m.length;refine wpAny_pyNext_enum_end (I.ok.hd G) d f p.isList (by simp;lia) λh' Y=>⟨O,I.turnedL (t':=s.toks) (ch:=[e,it]) (λb o c q=>?_) g⟩;simp only[DY,Gx,Gu,not_or]at c;exact Y b o c.2 q
 self:=λ_ _ _ _ _ st h=>by
  obtain⟨⟨a,d⟩,_⟩:=st;exact wpAny_pyIter_enum d h
section
variable {X:Cx}{es:List Expr}{kk:Nat}{tp:Pos}
def V7 (K:U0)(ta:TA):TI:=λσ H R=>ta σ H λvs H1=>∃l xs,vs=[.ref l]/\Ax K H1 l xs/\R (Ite K l) H1
theorem mX{a:Expr}{ta:TA}{p pos:Pos}(hg:Gl X "enumerate")(hm:X.mg "enumerate"=none)(ha:PA X [a] ta)(hs:autoParam (starEach [a] X.env=[(false,eval a X.env)]) PySem.W.hit_SB._auto_3):
  PI X (.Tuple es kk tp) (.Call (.Name "enumerate" p) [a] [] pos) (V7 X.K ta):=by
 intro pins s σ H R I h;refine Call_ (Qo I hg hm boot_enumerate (PyProof.Rows.callWith_type1 (Bd (ha pos pins s σ H _ I h) λus c ⟨vs,H1,f,t,u⟩=>?_) (by rw[hs];rfl) (by rfl)));obtain⟨l,xs,e,h1,q⟩:=u;subst e;cases t with
 | cons r rr =>
  cases rr;cases r;obtain⟨its,w,i,y⟩:=f.list h1;refine call_enumerate_list i.isList λh' k v x m=>?_;have n:Inv X pins σ H1 {c with heap:=h'}:=f.kept (t':=c.toks) m;have g:l<c.heap.objs.size:=by obtain⟨o,q,_⟩:=i.isList;exact Bk q
  refine wpAny_pyIter_enum k ⟨_,[c.heap.objs.size+1,c.heap.objs.size],_,_,H1,O,n,Y4y (Nat.succ_ne_self _) (Cy (Rm g)),⟨⟨_,k⟩,v⟩,λb j=>?_,q⟩;have d:c.heap.objs.size<=b:=by
   simp only[DY,Gx,Gu]at j;rcases j with rfl | rfl
   ·exact Nat.le_succ _
   ·exact Bc _
  exact f.fpOk d (f.hok.fresh d)
end
theorem uD{K:U0}{a:Y1}{xs:List V}{g:TG}{tb:TS}{D:Ends}{σ:St}{H:Hp}(Pv:Nat->St->Hp->Prop)(h0:Pv 0 σ H)(hl:∀i σ H,i<=xs.length->Pv i σ H->Ax K H a xs)
  (hs:∀i x σ H T,xs[i]?=some x->Pv i σ H->H T=none->g (.ref T) σ (upd H T (.tup [.int i,x])) λb H2=>tb {D with nx:=Pv (i+1),ct:=Pv (i+1),bk:=D.nx} b H2) (hd:∀σ H,Pv xs.length σ H->D.nx σ H):
  ∃W:Nat->Nat->St->Hp->Prop,(∃m,W 0 m σ H)/\∀i m σ H,W i m σ H ->
   ((Ite K a).stop i H/\D.nx σ H)\/((Ite K a).go i H/\∃N:St->Hp->Prop,(∀c H',N c H'->∃m',m'<m/\W (i+1) m' c H')/\∀x H',(Ite K a).yld i H x H'->g x σ H' λb H2=>tb {D with nx:=N,ct:=N,bk:=D.nx} b H2):=by
 refine⟨λi m σ H=>m=xs.length-i/\i<=xs.length/\Pv i σ H,⟨xs.length,by simp,Ef _,h0⟩,?_⟩;rintro i m σ H ⟨rfl,hi,p⟩;have q:=hl i σ H hi p;by_cases hlt:i<xs.length
 ·refine .inr ⟨⟨xs,xs[i],q,by simp[hlt]⟩,Pv (i+1),λc H' f=>⟨xs.length-(i+1),by lia,O,hlt,f⟩,λv H' y=>?_⟩;obtain⟨T,x,rfl,d,rfl,y⟩:=y;exact hs i x σ H T (y xs q) p d
 ·have e:i=xs.length:=by lia
  subst e;exact .inl ⟨⟨xs,q,Bc _⟩,hd σ H p⟩
end L2
namespace L2
theorem X0r{K:U0}{l:Y1}{ns:U6}{tc:TT}{te:TE}{fr:St}{H1:Hp}{acc:Y1}{Q:VK}(p:Int->Bool)(f:Int->Int)(hn:ns.length<=sizeLine)(hacc:H1 acc=none)(hl:Ax K H1 l (ns.map V.int))
  (hs:∀n H (N:Bool->Hp->Prop),n∈ns->Same H1 H->N (p n) H->tc (some (.int n)::fr) H N)
  (ht:∀n H (N:V->Hp->Prop),n∈ns->p n=true->Same H1 H->N (.int (f n)) H->te (some (.int n)::fr) H N)
  (hd:∀H2,Same H1 H2->H2 acc=some (.lst (((ns.filter p).map f).map V.int))->Q (.ref acc) H2):Lg (Lh K l) (CK 0) tc te (none::fr) H1 acc Q:=by
 refine⟨λi m zs d H2=>m=ns.length-i/\i<=ns.length/\(∃v,d=v::fr)/\Same H1 H2/\H2 acc=some (.lst zs)/\zs=(((ns.take i).filter p).map f).map V.int,⟨ns.length,by simp,Ef _,⟨_,O⟩,BW hacc _,Az,by simp⟩,?_⟩;rintro i m zs d H2 ⟨rfl,hi,⟨v,rfl⟩,a,c,e2⟩;by_cases hlt:i<ns.length
 ·have e1:ns[i]?=some ns[i]:=by simp[hlt]
  have g:(ns.map V.int)[i]?=some (.int ns[i]):=by rw[FN,e1];rfl
  have o:zs.length<=i:=by
   rw[e2,Bj,Bj];exact Fq (YM _ _) (by rw[J_];lia)
  have b:ns[i]∈ns:=Rg hlt;refine .inr ⟨⟨_,_,a.seq hl,g⟩,λu k h=>?_⟩;obtain⟨rfl,j⟩:=h;have:=j _ (a.seq hl);rw[g]at this;cases this;refine hs ns[i] _ _ b a ⟨λhp=>ht ns[i] _ _ b hp a ⟨c,by lia,ns.length-(i+1),by lia,O,hlt,⟨_,O⟩,Gn a hacc,Az,?_⟩,λhp=>⟨ns.length-(i+1),by lia,O,hlt,⟨_,O⟩,a,c,?_⟩⟩
  ·rw[JT,e1,VN,Rn,Dt,Dt,e2];simp[hp]
  ·rw[JT,e1,VN,Rn,Dt,Dt,e2];simp[hp]
 ·have e:i=ns.length:=by lia
  subst e;exact .inl ⟨⟨_,a.seq hl,by rw[Bj];exact Bc _⟩,hd H2 a (by rw[c,e2,Oj])⟩
end L2
namespace Al
open L2 Am Pc Ba
theorem NK(x y:Nat):Builtin.bitOr (x:Int) (y:Int)=((x ||| y:Nat):Int):=by
 have h:Builtin.bitXor (x:Int) (y:Int)=Builtin.bitOr x y-Builtin.bitAnd x y:=rfl;rw[RB,KR]at h;have e:=nC (x+y+1) x y (by lia) (by lia);lia
variable{K:U0}{l:Y1}
theorem X0p{g:TG}{xs:List V}{te:TE}{fr:L2.St}{H1:Hp}{acc:Y1}{Q:VK}(Pv:Nat->List V->Hp->Prop)(hn:xs.length<=sizeLine)(h0:Pv 0 [] (upd H1 acc (.lst [])))
  (hl:∀i ys H,Pv i ys H->Ax K H l xs)
  (hg:∀{a:Y1}{x y:V}{w1 w2:Option V}{H:Hp}{Q:L2.St->Hp->Prop},H a=some (.tup [x,y])->Q (some x::some y::fr) H->g (.ref a) (w1::w2::fr) H Q)
  (hs:∀i x ys H (T:Y1) (N:V->Hp->Prop),xs[i]?=some x->ys.length=i->Pv i ys H->H T=none->(∀y b,b acc=some (.lst ys)->Pv (i+1) (ys++[y]) (upd b acc (.lst (ys++[y])))->N y b)->te (some (.int i)::some x::fr) (upd H T (.tup [.int i,x])) N)
  (hd:∀ys H,ys.length=xs.length->Pv xs.length ys H->Q (.ref acc) H):Jx (Ite K l) g te (none::none::fr) H1 acc Q:=by
 refine⟨λi m zs f H2=>m=xs.length-i/\i<=xs.length/\zs.length=i/\(∃v w,f=v::w::fr)/\Pv i zs H2,⟨xs.length,by simp,Ef _,O,⟨_,_,O⟩,h0⟩,?_⟩;rintro i m zs f H2 ⟨rfl,hi,c,⟨v,w,rfl⟩,p⟩;have d:=hl i zs H2 p;by_cases hlt:i<xs.length
 ·have e1:xs[i]?=some xs[i]:=by simp[hlt]
  refine .inr ⟨⟨xs,_,d,e1⟩,λu q k=>?_⟩;obtain⟨T,x,rfl,h,rfl,h1⟩:=k;have n:=h1 xs d;refine hg (x:=.int i) (y:=x) Az (hs i x zs H2 T _ n c p h λy b j o=>⟨j,by lia,xs.length-(i+1),by lia,O,hlt,by simp[c],⟨_,_,O⟩,o⟩)
 ·have e:i=xs.length:=by lia
  subst e;exact .inl ⟨⟨xs,d,Bc _⟩,hd zs H2 c p⟩
def Gr:Sp:=λvs H Q _=>∃w a b:Nat,vs=[.int w,.int ((2^a:Nat):Int),.int ((2^b:Nat):Int)]/\∀H',Same H H'->Q (.int (Iz w a b:Nat)) H'
def uU:Sp:=λvs H Q _=>∃(w:Nat) (p:Y1) (v:Mv) (c:Nat),vs=[.int w,.ref p]/\H p=some (Mr v.nm v.ns)/\v.Ok c/\c<=6/\v.nm≠"turn"/\v.nm≠"pair"/\∀H',Same H H'->Q (.int (v.to w:Nat)) H'
structure Bo (K:U0) (H:Hp) (l:Y1) (ps:U3) (f:Nat->A5) (c:Nat):Prop where
 lst:H l=some (.lst (ps.map V.ref))
 len:ps.length=2^c
 vals:BX K H ps f
variable{H H':Hp}{ps:U3}{f:Nat->A5}{c:Nat}
theorem Bo.same(b:Bo K H l ps f c)(s:Same H H'):Bo K H' l ps f c:=⟨s _ _ b.lst,b.len,b.vals.same s⟩
theorem Bo.at{i:Nat}(b:Bo K H l ps f c)(hi:i<2^c):∃p,ps[i]?=some p/\Bh K H p (f i)/\GC (ps.map V.ref) (i:Int)=some (.ref p):=by
 have a:i<ps.length:=by rw[b.len];exact hi
 refine⟨ps[i],Di a,b.vals i _ (Di a),Mf (by rw[FN,Di a];rfl)⟩
def ud (K:U0):Sp:=λvs H Q _=>∃(l:Y1) (ps:U3) (f:Nat->A5) (c bits:Nat) (k:Int),vs=[.ref l,.int bits,.int k]/\Bo K H l ps f c/\c<=6 /\
 ∀(r:Y1) (H':Hp) (qs:U3) (g:Nat->A5),H r=none->Same H H'->Bo K H' r qs g c->(∀w,w<2^c->g w=if w&&&bits=bits then Dw (f w) k else f w)->Q (.ref r) H'
theorem jd(x a b:Int):inV (.int x) [.int a,.int b]=(decide (a=x) || decide (b=x)):=by
 unfold inV;simp only[RQ,List.any_nil,Bool.or_false];rfl
section
variable {P:U8}{w:W3}{K:U0}{mg:U4}{base:Heap}{k:Nat}{h:Heap}
theorem X5c(F:Ab K "exchanged" (top 51) .none)(X:K.In h)(G:Ng h mg):Ar P w K mg base (k+1) "exchanged" ["word","bit","other"] Gr:=by
 refine F.cal X G ["word","bit","other","both"] (bi:=Qj λ_ _ _ _ _ _ _ _ _=>rfl) (len:=λ_ _ _ _ h=>by obtain⟨_,_,_,rfl,_⟩:=h;rfl) λf H vs Q E i h=>?_;obtain⟨x,a,b,rfl,q⟩:=h
 refine⟨_,(@Aw _ _ _ _ _ (@BR _ _ 3 _ _ _ _ f rfl (Or.inl rfl) (Ag Ph (pv 1) (pv 2)) rfl (.inl rfl))
  (@Av _ _ _ (Bb (Mj (Bx Y6g (Ag Fg (pv 0) (pv 3)) (@Dj _ _ _ _ _ (Aa (pv 1) (Aa (pv 2) Af))) rfl) (Ag LK (pv 0) (pv 3)) (pv 0))))),?_⟩
 try dsimp only[Bu]
 refine⟨_,O,_,O,_,_,O,O,?_⟩;refine⟨_,O,_,O,_,_,O,O,_,O,_,O,t2,λtp e=>?_⟩;refine⟨tp,_,O,.inr (Ao.of Az),O,O,_,O,?_⟩;have g:=BW e (.tup [.int ((2^a:Nat):Int),.int ((2^b:Nat):Int)]);have d:=q _ g;unfold Iz at d;show if (inV (.int (Builtin.bitAnd (x:Int) (Builtin.bitOr ((2^a:Nat):Int) ((2^b:Nat):Int)))) [.int ((2^a:Nat):Int),.int ((2^b:Nat):Int)])=true then _ else _;rw[NK,KR,jd];by_cases c:x&&&(2^a ||| 2^b)=2^a\/x&&&(2^a ||| 2^b)=2^b
 ·rw[if_pos (by rw[QH,KC,KC];lia)];rw[if_pos c]at d;refine⟨_,O,_,O,_,_,O,O,?_⟩;show Q (.int (Builtin.bitXor (x:Int) (Builtin.bitOr ((2^a:Nat):Int) ((2^b:Nat):Int)))) _;rw[NK,RB];exact d
 ·rw[if_neg (by rw[QH,KC,KC];lia)];rw[if_neg c]at d;exact⟨_,O,d⟩
theorem Y6s(F:Ab K "word_behind" (top 50) .none)(X:K.In h)(G:Ng h mg)(cH:Ar P w K mg base k "named_cells" ["move"] mq)(cD:Ar P w K mg base k "exchanged" ["word","bit","other"] Gr):
  Ar P w K mg base (k+1) "word_behind" ["word","move"] uU:=by
 refine F.cal X G ["word","move","bits"] (bi:=Qk λ_ _ _ _ _ _ _ _=>rfl) (len:=λ_ _ _ _ h=>by obtain⟨_,_,_,_,rfl,_⟩:=h;rfl) λD H vs Q E m h=>?_;obtain⟨x,p,v,c,rfl,hp,ok,R,nt,np,q⟩:=h;have t:=Mv.fits ok;have en:named v.nm v.ns=v.ns:=by unfold named;rw[if_neg nt]
 have B:v.ns.length<=3:=t.form.len;have low:∀a∈v.ns,0<=a/\a<6:=λa J=>by
  have:=t.low a (by rw[en];exact J);lia
 refine⟨_,(@Aw _ _ _ _ _ (Wm (i:=2) rfl D rfl rfl (Bw.of (Nc:=["cell"]) (mp:=[none]) (by kernel_rfl)) (XQ (BP cH m rfl (Aa (pv 1) Af))) (λ_ _ _ _=>(CN (i:=0) (show (["cell"]:W0).Nodup by decide +kernel) rfl (Or.inl rfl))) (λ_ _ _ _=>(Ag Hy Ad (pv 0))) rfl)
  (@Aw _ _ _ _ _ (CQ (Bx Cz (Ai Aq (pv 1) Ad (λ_ _=>rfl)) Ej (Ae _))
   (@Av _ _ _ (Bb (Ag LK (pv 0) (Ai Dl (pv 2) Ad (λ_ _=>rfl)))))
   CT)
  (@Aw _ _ _ _ _ (CQ (Bx Cz (Ai Aq (pv 1) Ad (λ_ _=>rfl)) Ej (Ae _))
   (@Av _ _ _ (Bb (BP cD m rfl (Aa (pv 0) (Aa (Ai Dl (pv 2) Ad (λ_ _=>rfl)) (Aa (Ai Dl (pv 2) Ad (λ_ _=>rfl)) Af))))))
   CT)
  (@Aw _ _ _ _ _ (CQ (Ij (Kd (Ag Fg (pv 0) (Ai Dl (pv 2) Ad (λ_ _=>rfl))) (by intro _;rfl)))
   (@Av _ _ _ (Bb (pv 0)))
   CT)
  (@Aw _ _ _ _ _ (CQ (Bx Cz (Ai Aq (pv 1) Ad (λ_ _=>rfl)) Ej (Ae _))
   (@Av _ _ _ (Bb (Ag LK (pv 0) (Ai Dl (pv 2) Ad (λ_ _=>rfl)))))
   CT)
  (@Av _ _ _ (Bb (BP cD m rfl (Aa (pv 0) (Aa (Ai Dl (pv 2) Ad (λ_ _=>rfl)) (Aa (Ai Dl (pv 2) Ad (λ_ _=>rfl)) Af))))))))))),?_⟩
 try dsimp only[Bu]
 refine⟨_,O,p,v.nm,v.ns,O,hp,t.form,λr H1 C m=>?_⟩;rw[en]at m;refine⟨r,O,⟨_,Ao.of m⟩,λacc o=>?_⟩;refine mO (K:=K) (λn=>.int (1*2^n.toNat)) (Ao.of m) (JK (by lia)) o (λn H2 N y M I=>⟨_,O,_,_,O,O,⟨1,Ie,(low n y).1,by have:=(low n y).2;lia⟩,I⟩) (λH3 S3 L=>?_);have f:=C.trans S3;have A:=q H3 f;have SP:Ao K H3 p (.str v.nm::v.ns.map V.int):=Ao.of (f _ _ hp);have j:Ax K H3 acc (v.ns.map λn=>V.int (1*2^n.toNat)):=Ax.of L;have l:∀a:Nat,(1:Int)*2^((a:Int)).toNat=((2^a:Nat):Int):=λa=>ipow a;cases v with
 | flip a =>
  refine⟨_,O,p,_,_,.str "flip",O,O,SP,at0,O,_,O,Ay (λ_=>?_) (λz=>absurd rfl z)⟩;refine⟨_,O,_,O,acc,_,_,.int (1*2^((a:Int)).toNat),O,O,j,O,_,_,O,O,?_⟩;show Q (.int (Builtin.bitXor (x:Int) (1*2^((a:Int)).toNat))) H3;rw[l,RB];exact A
 | turn a k=>exact absurd rfl nt
 | pair a b=>exact absurd rfl np
 | swap a b =>
  refine⟨_,O,p,_,_,.str "swap",O,O,SP,at0,O,_,O,Ay (λz=>absurd (V.str.inj z) (by decide +kernel)) (λ_=>?_)⟩;refine⟨_,O,p,_,_,.str "swap",O,O,SP,at0,O,_,O,Ay (λ_=>?_) (λz=>absurd rfl z)⟩;refine⟨_,O,_,O,acc,_,_,.int (1*2^((a:Int)).toNat),O,O,j,O,_,O,acc,_,_,.int (1*2^((b:Int)).toNat),O,O,j,O,?_⟩;exact⟨x,a,b,by show [V.int (x:Int),V.int (1*2^((a:Int)).toNat),V.int (1*2^((b:Int)).toNat)]=_;rw[l,l],λs u=>q s (f.trans u)⟩
 | iff a b =>
  refine⟨_,O,p,_,_,.str "if",O,O,SP,at0,O,_,O,Ay (λz=>absurd (V.str.inj z) (by decide +kernel)) (λ_=>?_)⟩;refine⟨_,O,p,_,_,.str "if",O,O,SP,at0,O,_,O,Ay (λz=>absurd (V.str.inj z) (by decide +kernel)) (λ_=>?_)⟩;refine⟨_,O,_,O,acc,_,_,.int (1*2^((a:Int)).toNat),O,O,j,O,_,_,O,O,_,O,?_⟩;rw[l,KR];have g:Q (.int ((if x&&&2^a=0 then x else x^^^2^b:Nat):Int)) H3:=A;by_cases e:x&&&2^a=0
  ·rw[if_pos e]at g;rw[e];exact Df ⟨_,O,g⟩
  ·rw[if_neg e]at g;rw[show ((((x&&&2^a:Nat):Int) != 0)=true) by simpa using e];refine CP ⟨_,O,p,_,_,.str "if",O,O,SP,at0,O,_,O,Ay (λ_=>?_) (λz=>absurd rfl z)⟩;refine⟨_,O,_,O,acc,_,_,.int (1*2^((b:Int)).toNat),O,O,j,O,_,_,O,O,?_⟩;show Q (.int (Builtin.bitXor (x:Int) (1*2^((b:Int)).toNat))) H3;rw[l,RB];exact g
 | cross a b d =>
  refine⟨_,O,p,_,_,.str "cross",O,O,SP,at0,O,_,O,Ay (λz=>absurd (V.str.inj z) (by decide +kernel)) (λ_=>?_)⟩;refine⟨_,O,p,_,_,.str "cross",O,O,SP,at0,O,_,O,Ay (λz=>absurd (V.str.inj z) (by decide +kernel)) (λ_=>?_)⟩;refine⟨_,O,_,O,acc,_,_,.int (1*2^((a:Int)).toNat),O,O,j,O,_,_,O,O,_,O,?_⟩;rw[l,KR];have g:∀H',Same H H'->Q (.int ((if x&&&2^a=0 then x else Iz x b d:Nat):Int)) H':=q;by_cases e:x&&&2^a=0
  ·rw[if_pos e]at g;rw[e];exact Df ⟨_,O,g _ f⟩
  ·rw[if_neg e]at g;rw[show ((((x&&&2^a:Nat):Int) != 0)=true) by simpa using e];refine CP ⟨_,O,p,_,_,.str "cross",O,O,SP,at0,O,_,O,Ay (λz=>absurd (V.str.inj z) (by decide +kernel)) (λ_=>?_)⟩;refine⟨_,O,_,O,acc,_,_,.int (1*2^((b:Int)).toNat),O,O,j,O,_,O,acc,_,_,.int (1*2^((d:Int)).toNat),O,O,j,O,?_⟩;exact⟨x,b,d,by show [V.int (x:Int),V.int (1*2^((b:Int)).toNat),V.int (1*2^((d:Int)).toNat)]=_;rw[l,l],λs u=>g s (f.trans u)⟩
theorem X5i(v:Mv):v.nm≠"mix":=by
 cases v with
 | flip a=>exact(show ("flip":Str)≠"mix" by decide +kernel)
 | turn a k=>exact(show ("turn":Str)≠"mix" by decide +kernel)
 | iff a b=>exact(show ("if":Str)≠"mix" by decide +kernel)
 | pair a b=>exact(show ("pair":Str)≠"mix" by decide +kernel)
 | swap a b=>exact(show ("swap":Str)≠"mix" by decide +kernel)
 | cross a b d=>exact(show ("cross":Str)≠"mix" by decide +kernel)
variable{v:Mv}
theorem X5l(h:v.nm="turn"):∃a k,v=.turn a k:=by
 cases v with
 | flip a=>exact absurd h (show ("flip":Str)≠"turn" by decide +kernel)
 | turn a k=>exact⟨a,k,rfl⟩
 | iff a b=>exact absurd h (show ("if":Str)≠"turn" by decide +kernel)
 | pair a b=>exact absurd h (show ("pair":Str)≠"turn" by decide +kernel)
 | swap a b=>exact absurd h (show ("swap":Str)≠"turn" by decide +kernel)
 | cross a b d=>exact absurd h (show ("cross":Str)≠"turn" by decide +kernel)
theorem X5m(h:v.nm="pair"):∃a b,v=.pair a b:=by
 cases v with
 | flip a=>exact absurd h (show ("flip":Str)≠"pair" by decide +kernel)
 | turn a k=>exact absurd h (show ("turn":Str)≠"pair" by decide +kernel)
 | iff a b=>exact absurd h (show ("if":Str)≠"pair" by decide +kernel)
 | pair a b=>exact⟨a,b,rfl⟩
 | swap a b=>exact absurd h (show ("swap":Str)≠"pair" by decide +kernel)
 | cross a b d=>exact absurd h (show ("cross":Str)≠"pair" by decide +kernel)
theorem X3t(h:v.nm≠"turn")(h':v.nm≠"pair")(w:Nat):v.sp w=0:=by
 cases v with
 | turn a k=>exact absurd rfl h
 | pair a b=>exact absurd rfl h'
 | flip a=>rfl
 | iff a b=>rfl
 | swap a b=>rfl
 | cross a b d=>rfl
theorem Y9r(F:Ab K "spun_where" (top 49) .none)(X:K.In h)(G:Ng h mg)(B:Bs mg)(cB:Ar P w K mg base k "spun" ["one","k"] (Lb K)):Ar P w K mg base (k+1) "spun_where" ["board","bits","k"] (ud K):=by
 refine F.cal X G ["board","bits","k"] (bi:=Qj λ_ _ _ _ _ _ _ _ _=>rfl) (len:=λ_ _ _ _ h=>by obtain⟨_,_,_,_,_,_,rfl,_⟩:=h;rfl) λnd H vs Q E n h=>?_;obtain⟨l,ps,g,c,bits,kk,rfl,u,R,Z⟩:=h;have Y:=Hq R;have M:Ax K H l (ps.map V.ref):=Ax.of u.lst;have m:(ps.map V.ref).length=2^c:=by rw[Bj,u.len]
 refine⟨_,(@Av _ _ _ (Bb (KY rfl (Bw.of (Nc:=["word","one","bits","k"]) (mp:=[none,none,some 1,some 2]) (by kernel_rfl)) (mX rfl B.enumerate (Aa (pv 0) Af)) (λ_ _ _ _=>(Wk rfl (show (["word","one","bits","k"]:W0).Nodup by decide +kernel) rfl rfl rfl rfl)) (λ_ _ _ _=>(Mj (Bx Cz (Ag Fg (pv 0) (pv 2)) (pv 2) (Ae _)) (BP cB n rfl (Aa (pv 1) (Aa (pv 3) Af))) (pv 1)))))),?_⟩;try dsimp only[Bu]
 refine⟨_,O,l,_,O,M,λacc b=>?_⟩;refine X0p (K:=K) (l:=l) (xs:=ps.map V.ref) (fr:=[some (.int bits),some (.int kk)]) (λi ys H'=>∃(a:U3) (y:Nat->A5),Same H H'/\H' acc=some (.lst ys)/\ys=a.map V.ref/\a.length=i/\BX K H' a y/\∀j,j<i->y j=if j&&&bits=bits then Dw (g j) kk else g j) (by rw[m];exact JK Y)
  ⟨[],λ_=>((0,0,0,0),0),BW b _,Az,O,O,(λ_ _ z=>by cases z),λj C=>absurd C (Ly _)⟩ (λi ys H' p=>by obtain⟨a,y,L,_⟩:=p;exact Ax.of (L _ _ u.lst)) (λh q=>⟨_,_,O,Ao.of h,O,_,_,O,_,_,O,O,q⟩) ?_ ?_
 ·rintro i x ys H2 T N D W ⟨a,y,t,s,rfl,o,v2,f⟩ J U;rw[FN]at D;obtain⟨p,hp,rfl⟩:=G3.mp D;have I:=(u.vals i p hp).same t;have A:=BW J (.tup [.int i,.ref p]);have fin:∀(r:Y1) (H5:Hp) (z:A5),Same (upd H2 T (.tup [.int i,.ref p])) H5->Bh K H5 r z->z=(if i&&&bits=bits then Dw (g i) kk else g i)->N (.ref r) H5:=λr H5 z v n S=>by
   have d:=A.trans v;refine U (.ref r) H5 (d _ _ s) ⟨a++[r],λj=>if j=a.length then z else y j,Gn (t.trans d) b,Az,by rw[Dt];rfl,by simp[o],Qy (xs:=a.map V.ref) (S_ v2 d n) (d _ _ s),λj C=>?_⟩;show (if j=a.length then z else y j)=_;by_cases e:j=a.length
   ·rw[if_pos e,S,e,o]
   ·rw[if_neg e];exact f j (by lia)
  refine⟨_,O,_,O,_,_,O,O,_,O,O,_,O,?_⟩;show if decide (V.int (Builtin.bitAnd (i:Int) (bits:Int))=V.int (bits:Int))=true then _ else _;rw[KR];by_cases e:i&&&bits=bits
  ·rw[Cj (by rw[e])];refine Df ⟨_,O,_,O,p,_,_,_,_,_,_,O,I.same A,λr H5 v n=>fin r H5 (Dw (g i) kk) v n (by rw[if_pos e])⟩
  ·rw[Cd (λz=>e (by have:=V.int.inj z;lia))];exact CP ⟨_,O,fin p _ (g i) (Same.refl _) (I.same A) (by rw[if_neg e])⟩
 ·rintro ys H2 W ⟨a,y,t,s,rfl,o,v2,f⟩;rw[m]at o f;exact Z acc H2 a y b t ⟨s,o,v2⟩ f
noncomputable def Xm (c a w:Nat):Bool:=decide (w&&&2^a=0) == decide (w / 2^a%2=0) && if w / 2^a%2=0 then decide ((w ||| 2^a)=w+2^a) && decide (w+2^a<2^c) && decide ((w+2^a) / 2^a%2=1) else decide ((w^^^2^a)=w-2^a) && decide (2^a<=w) && decide ((w-2^a) / 2^a%2=0)
theorem X3f:((List.range 7).all λc=>(List.range c).all λa=>(List.range (2^c)).all λw=>Xm c a w)=true:=by decide +kernel
variable{a:Nat}
theorem oH{w:Nat}(hc:c<=6)(ha:a<c)(hw:w<2^c):Xm c a w=true :=
 QM.mp (QM.mp (QM.mp X3f c (Gg.mpr (by lia))) a (Gg.mpr ha)) w (Gg.mpr hw)
theorem vU{w:Nat}(hc:c<=6)(ha:a<c)(hw:w<2^c)(h:w / 2^a%2=0):w&&&2^a=0/\(w ||| 2^a)=w+2^a/\w+2^a<2^c/\(w+2^a) / 2^a%2=1:=by
 have:=oH hc ha hw;unfold Xm at this;rw[if_pos h,Cj h]at this;simpa [and_assoc] using this
theorem X7h{w:Nat}(hc:c<=6)(ha:a<c)(hw:w<2^c)(h:¬ w / 2^a%2=0):w&&&2^a≠0/\(w^^^2^a)=w-2^a/\2^a<=w/\(w-2^a) / 2^a%2=0:=by
 have:=oH hc ha hw;unfold Xm at this;rw[if_neg h,Cd h]at this;simpa [and_assoc] using this
structure Mix (s:Int) (x y z:A5):Prop where
 ex:∃p:A5,Sum x.1.1 x.1.2.1 x.1.2.2.1 x.1.2.2.2 x.2 (s*y.1.1) (s*y.1.2.1) (s*y.1.2.2.1) (s*y.1.2.2.2) y.2 p.1.1 p.1.2.1 p.1.2.2.1 p.1.2.2.2 p.2 /\
  Ls z.1.1 z.1.2.1 z.1.2.2.1 z.1.2.2.2 z.2/\Cu (p.1.2.1-p.1.2.2.2) (p.1.1+p.1.2.2.1) (p.1.2.1+p.1.2.2.2) (p.1.2.2.1-p.1.1) (p.2+1) z.1.1 z.1.2.1 z.1.2.2.1 z.1.2.2.2 z.2
def DR (f:Nat->A5)(a w:Nat)(z:A5):Prop:=if w / 2^a%2=0 then Mix 1 (f w) (f (w+2^a)) z else Mix (-1) (f (w-2^a)) (f w) z
structure Ez (K:U0) (H:Hp) (l:Y1) (ps:U3) (f:Nat->A5) (c n m:Nat):Prop where
 lst:H l=some (.lst (ps.map V.ref))
 len:ps.length=2^c
 vals:BX K H ps f
 ok:∀i,i<2^c->Cr n m (f i)
variable{n m:Nat}
theorem Ez.same(b:Ez K H l ps f c n m)(s:Same H H'):Ez K H' l ps f c n m:=⟨s _ _ b.lst,b.len,b.vals.same s,b.ok⟩
theorem Ez.at{i:Nat}(b:Ez K H l ps f c n m)(hi:i<2^c):∃p,ps[i]?=some p/\Bh K H p (f i)/\GC (ps.map V.ref) (i:Int)=some (.ref p):=by
 have a:i<ps.length:=by rw[b.len];exact hi
 refine⟨ps[i],Di a,b.vals i _ (Di a),Mf (by rw[FN,Di a];rfl)⟩
def qY (K:U0):Sp:=λvs H Q _=>∃(l:Y1) (ps:U3) (f:Nat->A5) (c n m a wd:Nat),vs=[.ref l,.int wd,.int ((2^a:Nat):Int)]/\Ez K H l ps f c n m/\c<=6/\a<c/\wd<2^c/\n<=450000/\m<=10000 /\
 ∀(r:Y1) (H':Hp) (z:A5),Same H H'->H' r=some (tA z)->Cr (n+2*m+3) (m+1:Nat) z->DR f a wd z->Q (.ref r) H'
def uY (K:U0):Sp:=λvs H Q _=>∃(l:Y1) (ps:U3) (f:Nat->A5) (c n m a:Nat),vs=[.ref l,.int ((2^a:Nat):Int)]/\Ez K H l ps f c n m/\c<=6/\a<c/\n<=450000/\m<=10000 /\
 ∀(r:Y1) (H':Hp) (qs:U3) (g:Nat->A5),H r=none->Same H H'->Ez K H' r qs g c (n+2*m+3) (m+1)->(∀w,w<2^c->DR f a w (g w))->Q (.ref r) H'
theorem wz{x y z p:A5}(ox:Cr n m x)(oy:Cr n m y)(hp:p.2<=max x.2 y.2)(sp:H_ (n+x.2.toNat+y.2.toNat+2) p.1.1 p.1.2.1 p.1.2.2.1 p.1.2.2.2)
  (r:Red (p.1.2.1-p.1.2.2.2) (p.1.1+p.1.2.2.1) (p.1.2.1+p.1.2.2.2) (p.1.2.2.1-p.1.1) (p.2+1) z.1.1 z.1.2.1 z.1.2.2.1 z.1.2.2.2 z.2):Cr (n+2*m+3) (m+1:Nat) z:=by
 have e:=ox.le;have f:=oy.le;have c:=ox.amt.nn;have d:=oy.amt.nn;have s:H_ (n+2*m+2) p.1.1 p.1.2.1 p.1.2.2.1 p.1.2.2.2:=sp.mono (by lia);have neg:∀{u v:Int},Sz (n+2*m+2) u->Sz (n+2*m+2) v->Sz (n+2*m+3) (u-v):=λb a=>by rw[Int.sub_eq_add_neg];exact(b.add a.neg).mono (by lia)
 have add:∀{u v:Int},Sz (n+2*m+2) u->Sz (n+2*m+2) v->Sz (n+2*m+3) (u+v):=λb a=>(b.add a).mono (by lia);refine⟨r.sz ⟨neg s.z2 s.z4,add s.z1 s.z3,add s.z2 s.z4,neg s.z3 s.z1⟩,r.amt,?_⟩;have:=r.le;omega
theorem wU{p q:Y1}{x y:A5}(hp:Bh K H p x)(hq:Bh K H q y)(ox:Cr n m x)(oy:Cr n m y)(hn:n<=450000)(hm:m<=10000):RM K n [.ref p,.ref q] H p q x.1.1 x.1.2.1 x.1.2.2.1 x.1.2.2.2 x.2 y.1.1 y.1.2.1 y.1.2.2.1 y.1.2.2.2 y.2:=by
 have:=ox.le;have:=oy.le;exact⟨O,hp,hq,ox.amt.nn,oy.amt.nn,by lia,by lia,ox.sz,oy.sz⟩
theorem Y4c(F:Ab K "mixed_at" (top 48) .none)(X:K.In h)(G:Ng h mg)(dL:Ar P w K mg base k "rooted" ["one"] uZ)(d8:Ar P w K mg base k "minus" ["one","other"] (Wq K))(cF:Ar P w K mg base k "plus" ["one","other"] (Mi K)):
  Ar P w K mg base (k+1) "mixed_at" ["board","word","bit"] (qY K):=by
 refine F.cal X G ["board","word","bit"] (bi:=Qj λ_ _ _ _ _ _ _ _ _=>rfl) (len:=λ_ _ _ _ h=>by obtain⟨_,_,_,_,_,_,_,_,rfl,_⟩:=h;rfl) λnd H vs Q E s h=>?_;obtain⟨l,ps,g,c,n,m,a,A,rfl,b,c6,ac,d,Z,m1,kq⟩:=h;have t:Ax K H l (ps.map V.ref):=Ax.of b.lst
 refine⟨_,(@Aw _ _ _ _ _ (CQ (Kd (Ag Fg (pv 1) (pv 2)) (by intro _;rfl))
   (@Av _ _ _ (Bb (BP dL s rfl (Aa (BP d8 s rfl (Aa (Ai Dl (pv 0) (Ag LK (pv 1) (pv 2)) (λ_ _=>rfl)) (Aa (Ai Dl (pv 0) (pv 1) (λ_ _=>rfl)) Af))) Af))))
   CT)
  (@Av _ _ _ (Bb (BP dL s rfl (Aa (BP cF s rfl (Aa (Ai Dl (pv 0) (pv 1) (λ_ _=>rfl)) (Aa (Ai Dl (pv 0) (Ag Ph (pv 1) (pv 2)) (λ_ _=>rfl)) Af))) Af))))),?_⟩
 try dsimp only[Bu]
 by_cases hb:A / 2^a%2=0
 ·obtain⟨e1,e2,R,_⟩:=vU c6 ac d hb;obtain⟨p,_,hp,W⟩:=b.at d;obtain⟨q,_,S,T⟩:=b.at R;refine⟨_,O,_,O,_,_,O,O,_,O,?_⟩;rw[KR,e1];refine CP ?_;refine⟨_,O,_,O,l,_,_,_,O,O,t,W,_,O,_,O,_,O,_,_,O,O,l,_,_,_,O,O,t,(by rw[NK,e2];exact T),?_⟩;have ox:=b.ok _ d;have r:=b.ok _ R;refine⟨n,p,q,_,_,_,_,_,_,_,_,_,_,wU hp S ox r Z m1,λJ H1 x y z u v C f o U=>?_⟩;refine⟨J,x,y,z,u,v,O,f,o.amt.nn,λB H2 Y L M D N I j e=>?_⟩;refine kq B H2 ((Y,L,M,D),N) (C.trans I) j (wz (p:=((x,y,z,u),v)) ox r o.le U e) ?_;unfold DR;rw[if_pos hb];exact⟨((x,y,z,u),v),by simpa only[Jk] using o,e.amt,e.same⟩
 ·obtain⟨e1,e2,R,_⟩:=X7h c6 ac d hb;obtain⟨p,_,hp,W⟩:=b.at (i:=A-2^a) (VL (Nat.sub_le _ _) d);obtain⟨q,_,S,T⟩:=b.at d;have ox:=b.ok (A-2^a) (VL (Nat.sub_le _ _) d);have r:=b.ok _ d;refine⟨_,O,_,O,_,_,O,O,_,O,?_⟩;rw[KR,show ((((A&&&2^a:Nat):Int) != 0)=true) by simpa using e1];refine Df ?_;refine⟨_,O,_,O,_,O,_,_,O,O,l,_,_,_,O,O,t,(by rw[RB,e2];exact W),_,O,_,O,l,_,_,_,O,O,t,T,?_⟩;refine⟨n,p,q,_,_,_,_,_,_,_,_,_,_,wU hp S ox r Z m1,λJ H1 x y z u v C f o U=>?_⟩;refine⟨J,x,y,z,u,v,O,f,o.amt.nn,λB H2 Y L M D N I j e=>?_⟩;refine kq B H2 ((Y,L,M,D),N) (C.trans I) j (wz (p:=((x,y,z,u),v)) ox r o.le U e) ?_;unfold DR;rw[if_neg hb];exact⟨((x,y,z,u),v),by simpa only[jX] using o,e.amt,e.same⟩
theorem X0a(F:Ab K "mixed" (top 47) .none)(X:K.In h)(G:Ng h mg)(B:Bs mg)(dZ:Ar P w K mg base k "mixed_at" ["board","word","bit"] (qY K)):Ar P w K mg base (k+1) "mixed" ["board","bit"] (uY K):=by
 refine F.cal X G ["board","bit"] (bi:=Qk λ_ _ _ _ _ _ _ _=>rfl) (len:=λ_ _ _ _ h=>by obtain⟨_,_,_,_,_,_,_,rfl,_⟩:=h;rfl) λZ H vs Q E C h=>?_;obtain⟨l,ps,g,c,n,m,a,rfl,o,v,Y,A,M,U⟩:=h;have T:=Hq v;have I:Ax K H l (ps.map V.ref):=Ax.of o.lst;have p:(((ps.map V.ref).length:Nat):Int).toNat=2^c:=by rw[Bj,o.len,L_]
 refine⟨_,(@Av _ _ _ (Bb (KY rfl (Bw.of (Nc:=["word","board","bit"]) (mp:=[none,some 0,some 1]) (by kernel_rfl)) (Mp rfl B.range (Aa (DP Jw rfl B.len JR (Aa (pv 0) Af)) Af)) (λ_ _ _ _=>(CN (i:=0) (show (["word","board","bit"]:W0).Nodup by decide +kernel) rfl (Or.inl rfl))) (λ_ _ _ _=>(BP dZ C rfl (Aa (pv 1) (Aa (pv 0) (Aa (pv 2) Af)))))))),?_⟩;try dsimp only[Bu]
 refine⟨_,O,l,_,O,.inl I,_,O,by rw[Bj,o.len];lia,by rw[Bj,o.len];lia,λacc d=>?_⟩;rw[p];refine Wj (n:=2^c) (fr:=[some (.ref l),some (.int ((2^a:Nat):Int))]) (λi ys H'=>∃(b:U3) (y:Nat->A5),Same H H'/\H' acc=some (.lst ys)/\ys=b.map V.ref/\b.length=i/\BX K H' b y/\∀j,j<i->Cr (n+2*m+3) (m+1:Nat) (y j)/\DR g a j (y j)) (JK T)
  ⟨[],λ_=>((0,0,0,0),0),BW d _,Az,O,O,(λ_ _ z=>by cases z),λj x=>absurd x (Ly _)⟩ ?_ ?_
 ·rintro i ys H2 N hi R ⟨b,y,s,q,rfl,t,v2,f⟩ L;refine⟨_,O,_,O,_,O,l,ps,g,c,n,m,a,i,(by show [V.ref l,V.int (0+(i:Int)),_]=_;rw[RP]),o.same s,v,Y,hi,A,M,λr J z S3 u D S=>?_⟩;refine L (.ref r) J (S3 _ _ q) ⟨b++[r],λj=>if j=b.length then z else y j,Gn (s.trans S3) d,Az,by rw[Dt];rfl,by simp[t],Qy (xs:=b.map V.ref) (S_ v2 S3 (Bh.of u)) (S3 _ _ q),λj x=>?_⟩;by_cases e:j=b.length
  ·show Cr _ _ (if j=b.length then z else y j)/\DR g a j (if j=b.length then z else y j);rw[if_pos e,e,t];exact⟨D,S⟩
  ·show Cr _ _ (if j=b.length then z else y j)/\DR g a j (if j=b.length then z else y j);rw[if_neg e];exact f j (by lia)
 ·rintro ys H2 R ⟨b,y,s,q,rfl,t,v2,f⟩;exact U acc H2 b y d s ⟨q,t,v2,λi hi=>(f i hi).1⟩ λw W=>(f w W).2
end
end Al
namespace L2
abbrev Mm:=Str×List Int
noncomputable abbrev mT (m:Mm):HO:=.tup (.str m.1::m.2.map V.int)
noncomputable abbrev mD (m:Mm):PyData:=.tuple (.str m.1::m.2.map PyData.int)
def DQ (H:Hp):List Addr->List Mm->Prop:=Paired λp m=>H p=some (mT m)
variable{ms:List Mm}
theorem DQ.same{H H':Hp}{ps:U3}(h:DQ H ps ms)(s:Same H H'):DQ H' ps ms:=Paired.imp' (λ_ _ c=>s _ _ c) h
def Ib (ms:List Mm):Prop:=∀m∈ms,PyData.strOk m.1=true
section
variable {P:U8}{w:W3}{H:Hp}{h:Heap}
theorem X3y{a:Y1}{m:Mm}{its:U5}(ht:IsTup h a its.toArray)(rv:Vals (.str m.1::m.2.map V.int) its):Reads h (.ref a) (mD m) []:=by
 cases rv with
 | cons r rs =>
  obtain⟨t,rfl⟩:=r;obtain⟨o,b,c,n,hd⟩:=ht;exact Reads.tuple b c hd (.cons (as:=[]) (bs:=[]) (Reads.str _ _) (pH (ZL rs)))
theorem qU(ok:EY P w H h):∀{ps:U3}{ms:List Mm}{us:U5},DQ H ps ms->Vals (ps.map V.ref) us->∃as,ReadsAll h us (ms.map mD) as
 | [],[],us,.nil,r=>by cases r;exact⟨[],.nil⟩
 | p::ps,m::ms,us,.cons e r,rv=>by
  cases rv with
  | cons ru rr =>
   cases ru;obtain⟨as,b⟩:=qU ok r rr;obtain⟨_,its,a,c⟩:=(show BJ P w H h p (mT m) from ok p _ e);exact⟨_,.cons (X3y c a) b⟩
end
theorem X1g{m:Mm}(o:PyData.strOk m.1=true):PyData.canLay0 (mD m)=true:=by
 simp[PyData.canLay0,PyData.canLayAll0,o,pD m.2]
theorem X6d(m:Mm):PyData.depth (mD m)<=2:=by
 have:=oN m.2;simp only[PyData.depth,PyData.depthAll];lia
theorem uz:∀{ms:List Mm},Ib ms->PyData.canLayAll0 (ms.map mD)=true
 | [],_=>by simp[PyData.canLayAll0]
 | m::r,h=>by
  have h1:=X1g (h m (.head _));have h2:=uz (ms:=r) λx a=>h x (.tail _ a);simp only[GP,PyData.canLayAll0,GQ];exact⟨h1,h2⟩
theorem tu:∀ms:List Mm,PyData.depthAll (ms.map mD)<=2
 | []=>by simp[PyData.depthAll]
 | m::r=>by
  have h1:=tu r;have h2:=X6d m;simp only[GP,PyData.depthAll];lia
theorem ZJ(h:Ib ms):SeqAt.shaped (.list (ms.map mD))=true:=by
 have:=tu ms;show (PyData.canLay0 _ && decide _)=true;rw[GQ];refine⟨by simp only[PyData.canLay0];exact uz h,Cj ?_⟩;simp only[PyData.depth];lia
theorem X5j(m n:Mm):SeqAt.noMix (mD m) (mD n)=true:=by
 simp only[SeqAt.noMix,SeqAt.noMixAll,GQ];exact⟨by simp[SeqAt.noMix],PySem.W.noMix_ints m.2 n.2⟩
theorem jz:∀xs ys:List Mm,SeqAt.noMixAll (xs.map mD) (ys.map mD)=true
 | [],[]=>by simp[SeqAt.noMixAll]
 | [],_::_=>by simp[SeqAt.noMixAll]
 | _::_,[]=>by simp[SeqAt.noMixAll]
 | n::r,m::q=>by
  simp only[GP,SeqAt.noMixAll,GQ];exact⟨X5j n m,jz r q⟩
theorem X7p(m n:Mm):PySem.Spec.same (mD m) (mD n)=decide (m=n):=by
 simp only[PySem.Spec.same,PySem.Spec.sameAll,PySem.W.same_ints];obtain⟨a,b⟩:=m;obtain⟨c,d⟩:=n;by_cases e:a=c<;>by_cases f:b=d<;>simp[e,f]
theorem mZ:∀xs ys:List Mm,PySem.Spec.sameAll (xs.map mD) (ys.map mD)=decide (xs=ys)
 | [],[]=>by simp[PySem.Spec.sameAll]
 | [],_::_=>by simp[PySem.Spec.sameAll]
 | _::_,[]=>by simp[PySem.Spec.sameAll]
 | n::r,m::q=>by
  simp only[GP,PySem.Spec.sameAll,X7p,mZ r q];by_cases e:n=m<;>simp[e]
section
variable {X:Cx}
def Oc (neg:Bool):R2:=λx y H Q=>∃(a b:Y1) (ps qs:U3) (xs ys:List Mm),x=.ref a/\y=.ref b/\H a=some (.lst (ps.map V.ref))/\H b=some (.lst (qs.map V.ref))/\DQ H ps xs/\DQ H qs ys/\Ib xs/\Ib ys/\Q (.bl (if neg then !decide (xs=ys) else decide (xs=ys))) H
theorem ZG{pins:U1}{σ:St}{H:Hp}{s:U7}(I:Inv X pins σ H s){a:Y1}{ps:U3}{xs:List Mm}(h:H a=some (.lst (ps.map V.ref)))(r:DQ H ps xs):∃as,Reads s.heap (.ref a) (.list (xs.map mD)) as:=by
 obtain⟨its,e,d,_⟩:=I.list (Ax.of h);obtain⟨as,c⟩:=qU I.hok r e;obtain⟨o,b,f,n,hd⟩:=d.isList;exact⟨_,Reads.list b f hd (by simpa using c)⟩
theorem X4r(hu:X.A.units+64<cLine):Ed X (compareOp .Eq) (Oc false):=by
 intro pins s σ H x y v u Q I g f h;obtain⟨a,b,ps,j,xs,ys,rfl,rfl,h1,h2,d,c,o1,o2,q⟩:=h;cases g;cases f;obtain⟨as,e⟩:=ZG I h1 d;obtain⟨bs,i⟩:=ZG I h2 c;refine eq_dataH_same e i (ZJ o1) (ZJ o2) hu (by simp only[SeqAt.noMix];exact jz xs ys) ⟨.bl (decide (xs=ys)),H,I,?_,q⟩;show _=_;simp only[PySem.Spec.same];rw[mZ]
theorem X4p(hu:X.A.units+64<cLine):Ed X (compareOp .NotEq) (Oc true):=by
 intro pins s σ H x y v u Q I g f h;obtain⟨a,b,ps,j,xs,ys,rfl,rfl,h1,h2,d,c,o1,o2,q⟩:=h;cases g;cases f;obtain⟨as,e⟩:=ZG I h1 d;obtain⟨bs,i⟩:=ZG I h2 c;refine ne_dataH_same e i (ZJ o1) (ZJ o2) hu (by simp only[SeqAt.noMix];exact jz xs ys) ⟨.bl (!decide (xs=ys)),H,I,?_,q⟩;show _=_;simp only[PySem.Spec.same];rw[mZ]
end
end L2
namespace L2
theorem X1i:bootBuiltins "reversed"=some (.type "reversed"):=by decide +kernel
def Xi (K:U0)(a:Y1)(n:Nat):It :=
 ⟨λi H=>i<n/\∃xs,Ax K H a xs/\xs.length=n,λi H x H'=>H'=H/\∀xs,Ax K H a xs->xs[n-1-i]?=some x,λi _=>i=n⟩
theorem Y8w{P:U8}{w:W3}{K:U0}{tg:Expr}(a it:Y1)(n:Nat):Turn P w K tg (Xi K a n) [it] it (λi h=>i<=n/\h.IsRevIter it a ((n:Int)-1-(i:Int))) where
 mem:=by simp
 obj:=λi h st b g=>by
  cases GK.mp g;obtain⟨_,o,e,c,d⟩:=st;exact⟨o,e,λv z=>by rw[d]at z;cases z⟩
 keep:=λi h h' st k=>⟨st.1,st.2.at λo e=>k it (by simp) o e⟩
 item:=by
  intro X A D r J i pins s σ H E I m st B;subst A D r;obtain⟨hi,xs,G,V⟩:=B;obtain⟨its,M,p,W⟩:=I.list G;have l:n-1-i<xs.length:=by omega
  obtain⟨u,R,L⟩:=M.get (Di l);obtain⟨t,q,Q,y,C,F⟩:=m it (by simp);have e1:(n:Int)-1-(i:Int)=((n-1-i:Nat):Int):=by lia
  have f:=st.2;rw[e1]at f;refine wpAny_pyNext_rev_item f p.isList (x:=u) (by simpa using R) λh' j N=>?_;have S:Inv X pins σ H {s with heap:=h'}:=I.turned (t':=s.toks) (λb o g e=>(N.2 b g).trans e) t q y C F;rw[show ((n-1-i:Nat):Int)-1=(n:Int)-1-((i+1:Nat):Int) by lia]at j;obtain⟨o,e,c,d⟩:=id j;refine⟨u,O,Zi (s:={s with heap:=h'}) e c d (by decide) ⟨xs[n-1-i],H,S,L,⟨O,λys T=>?_⟩,⟨hi,j⟩,λb g=>(m b g).1⟩⟩;rw[I.list_inj T G];exact Di l
 done:=by
  intro X A D r J i pins s σ H E I m st B;subst A D r;obtain⟨t,q,Q,y,C,F⟩:=m it (by simp);have hi:i=n:=B;have f:=st.2;rw[hi,show (n:Int)-1-(n:Int)=-1 by lia]at f;exact wpAny_pyNext_rev_end (I.ok.hd J) f λh' U=>⟨O,I.turned (t':=s.toks) (λb o g e=>U b o g e) t q y C F⟩
 self:=λ_ _ _ _ _ st h=>wpAny_pyIter_revIter st.2 h
def jg (K:U0)(ta:TA):TI:=λσ H R=>ta σ H λvs H1=>∃(l:Y1) (xs:List V),vs=[.ref l]/\Ax K H1 l xs/\R (Xi K l xs.length) H1
theorem X7x{X:Cx}{tg a:Expr}{ta:TA}{p pos:Pos}(hg:Gl X "reversed")(hm:X.mg "reversed"=none)(ha:PA X [a] ta)(hs:autoParam (starEach [a] X.env=[(false,eval a X.env)]) PySem.W.hit_SB._auto_3):
  PI X tg (.Call (.Name "reversed" p) [a] [] pos) (jg X.K ta):=by
 intro pins s σ H R I h;refine Call_ (Qo I hg hm X1i (PyProof.Rows.callWith_type1 (Bd (ha pos pins s σ H _ I h) λus c ⟨vs,H1,f,k,m⟩=>?_) (by rw[hs];rfl) (by rfl)));obtain⟨l,xs,e,h1,q⟩:=m;subst e;cases k with
 | cons r rr =>
  cases rr;cases r;obtain⟨its,i,g,t⟩:=f.list h1;have n:=i.length;refine call_reversed_list g.isList ?_;have d:(c.heap.push (revObj l ((its.toArray.size:Int)-1))).IsRevIter c.heap.objs.size l ((xs.length:Int)-1-((0:Nat):Int)):=⟨_,Ew _ rfl,O,by rw[Du,<-n];simp;rfl⟩;refine wpAny_pyIter_revIter (s:={c with heap:=c.heap.push (revObj l ((its.toArray.size:Int)-1))}) d ⟨c.heap.objs.size,[c.heap.objs.size],_,_,H1,O,f.kept (t':=c.toks) λb o e=>Ca _ e,Y8w l _ xs.length,⟨Ef _,d⟩,λb j=>?_,q⟩;cases GK.mp j;exact f.fpOk (Bc _) (f.hok.fresh (Bc _))
end L2
namespace Al
open L2 Am Pc Ba
theorem wN{x h y g N:Int}(hh:0<=h)(hg:0<=g)(h1:h<=N)(h2:g<=N):FZ x h y g↔x*p2 (N-h)=y*p2 (N-g):=by
 unfold FZ;have e1:=Qp hh h1;have e2:=Qp hg h2;have e:=MN h;have c:=MN g;have f:=MN (N-h);have i:=MN (N-g);have d:=MN N;constructor
 ·intro z;have:(x*p2 (N-h))*(p2 h*p2 g)=(y*p2 (N-g))*(p2 h*p2 g):=by
   have b:(x*p2 (N-h))*(p2 h*p2 g)=(x*p2 g)*p2 N:=by rw[e1];grind
   have a:(y*p2 (N-g))*(p2 h*p2 g)=(y*p2 h)*p2 N:=by rw[e2];grind
   rw[b,a,z]
  exact M_ (Oi e c) this
 ·intro z;have:(x*p2 g)*p2 N=(y*p2 h)*p2 N:=by
   have b:(x*p2 (N-h))*(p2 h*p2 g)=(x*p2 g)*p2 N:=by rw[e1];grind
   have a:(y*p2 (N-g))*(p2 h*p2 g)=(y*p2 h)*p2 N:=by rw[e2];grind
   rw[<-b,<-a,z]
  exact M_ d this
noncomputable def va (x:A5)(M:Int):Int:=x.1.1*p2 (M-x.2)
noncomputable def vb (x:A5)(M:Int):Int:=x.1.2.1*p2 (M-x.2)
noncomputable def vc (x:A5)(M:Int):Int:=x.1.2.2.1*p2 (M-x.2)
noncomputable def vd (x:A5)(M:Int):Int:=x.1.2.2.2*p2 (M-x.2)
variable{M:Int}
theorem Yw{a a' u h h' g:Int}(h0:0<=h)(h0':0<=h')(g0:0<=g)(l1:h+h'<=M)(l2:g<=M)(e:FZ (a*p2 h'+a'*p2 h) (h+h') u g):u*p2 (M-g)=a*p2 (M-h)+a'*p2 (M-h'):=by
 have z:=(wN (by lia) g0 l1 l2).mp e;have e1:p2 (M-h)=p2 (M-(h+h'))*p2 h':=by rw[<-LQ (by lia) h0'];congr 1;lia
 have e2:p2 (M-h')=p2 (M-(h+h'))*p2 h:=by rw[<-LQ (by lia) h0];congr 1;lia
 rw[<-z,e1,e2];grind
theorem Y7{u v h g:Int}(h0:0<=h)(g0:0<=g)(l1:h<=M)(l2:g<=M+1)(e:FZ u (h+1) v g):v*p2 (M+1-g)=u*p2 (M-h):=by
 have z:=(wN (N:=M+1) (by lia) g0 (by lia) l2).mp e;rw[<-z];congr 2;lia
variable{x y z:A5}
theorem Mix.vals{s:Int}(m:Mix s x y z)(hx:0<=x.2)(hy:0<=y.2):∃M0:Int,∀M,M0<=M ->
  va z (M+1)=(vb x M+s*vb y M)-(vd x M+s*vd y M)/\vb z (M+1)=(va x M+s*va y M)+(vc x M+s*vc y M)/\vc z (M+1)=(vb x M+s*vb y M)+(vd x M+s*vd y M)/\vd z (M+1)=(vc x M+s*vc y M)-(va x M+s*va y M):=by
 obtain⟨p,S,h,R⟩:=m.ex;have a:=S.amt.nn;have z0:=h.nn;refine⟨x.2+y.2+p.2+z.2,λM k=>?_⟩;have l1:x.2+y.2<=M:=by lia
 have l2:p.2<=M:=by lia
 have l3:z.2<=M+1:=by lia
 have e:=Yw hx hy a l1 l2 S.same.e1;have c:=Yw hx hy a l1 l2 S.same.e2;have j:=Yw hx hy a l1 l2 S.same.e3;have f:=Yw hx hy a l1 l2 S.same.e4;have d:=Y7 a z0 l2 l3 R.e1;have b:=Y7 a z0 l2 l3 R.e2;have i:=Y7 a z0 l2 l3 R.e3;have g:=Y7 a z0 l2 l3 R.e4;unfold va vb vc vd;rw[d,b,i,g,Int.sub_mul,Int.add_mul,Int.add_mul,Int.sub_mul,e,c,j,f];refine⟨?_,?_,?_,?_⟩<;>grind
theorem Mix.amt{s:Int}(m:Mix s x y z):Ls z.1.1 z.1.2.1 z.1.2.2.1 z.1.2.2.2 z.2:=by
 obtain⟨p,_,a,_⟩:=m.ex;exact a
inductive Gm where
 | mv (v:Mv)
 | mix (a:Nat)
namespace Gm
noncomputable def nm:Gm->Str
 | mv v=>v.nm
 | mix _=>"mix"
noncomputable def ns:Gm->List Int
 | mv v=>v.ns
 | mix a=>[(a:Int)]
def Ok (c:Nat):Gm->Prop
 | mv v=>v.Ok c
 | mix a=>a<c
noncomputable abbrev mm (m:Gm):Mm:=(m.nm,m.ns)
end Gm
def Step (c:Nat):Gm->(Nat->A5)->(Nat->A5)->Prop
 | .mv v,f,g=>∀w,w<2^c->g w=Dw (f (v.to w)) (v.sp w:Nat)
 | .mix a,f,g=>∀w,w<2^c->DR f a w (g w)
inductive Steps (c:Nat):List Gm->(Nat->A5)->(Nat->A5)->Prop
 | nil {f:Nat->A5}:Steps c [] f f
 | cons {m:Gm}{ms:List Gm}{f g h:Nat->A5}:Step c m f g->Steps c ms g h->Steps c (m::ms) f h
theorem Steps.snoc{c:Nat}:∀{a:List Gm}{m:Gm}{f g h:Nat->A5},Steps c a f g->Step c m g h->Steps c (a++[m]) f h
 | _,_,_,_,_,.nil,s=>.cons s .nil
 | _,_,_,_,_,.cons s t,r=>.cons s (Steps.snoc t r)
abbrev Mt (c:Nat)(f:Nat->A5):Prop:=∀w,w<2^c->Ls (f w).1.1 (f w).1.2.1 (f w).1.2.2.1 (f w).1.2.2.2 (f w).2
theorem rA{v:Int×Int×Int×Int}{h:Int}(o:Ls v.1 v.2.1 v.2.2.1 v.2.2.2 h):∀k,Ls (Bm k v).1 (Bm k v).2.1 (Bm k v).2.2.1 (Bm k v).2.2.2 h
 | 0=>o
 | k+1=>by
  have:=rA o k;refine⟨this.nn,?_⟩;have o:h=0\/(Bm k v).1%2=1\/(Bm k v).2.1%2=1\/(Bm k v).2.2.1%2=1\/(Bm k v).2.2.2%2=1:=this.odd;show h=0\/(-(Bm k v).2.2.2)%2=1\/(Bm k v).1%2=1\/(Bm k v).2.1%2=1\/(Bm k v).2.2.1%2=1;lia
variable{c:Nat}{m:Gm}{f:Nat->A5}
theorem Step.ams{g:Nat->A5}(hc:c<=6)(ok:m.Ok c)(s:Step c m f g)(a:Mt c f):Mt c g:=by
 intro w b;cases m with
 | mv v =>
  have e:g w=Dw (f (v.to w)) (v.sp w:Nat):=s w b;rw[e];exact rA (a _ (Mv.to_lt hc ok b)) _
 | mix a =>
  have e:DR f a w (g w):=s w b;unfold DR at e;split at e
  ·exact e.amt
  ·exact e.amt
theorem Gm.fits(h:m.Ok c):Fits m.nm m.ns c:=by
 cases m with
 | mv v=>exact Mv.fits h
 | mix a =>
  have e:named "mix" [(a:Int)]=[(a:Int)]:=by unfold named;rw[if_neg (by decide +kernel)]
  have h:a<c:=h;exact⟨⟨(show numAt NB "mix"=some (.int ((1:Nat):Int)) by decide +kernel),(show 1<=3 by decide),λz=>absurd (show ("mix":Str)="turn" from z) (by decide +kernel)⟩,by show ∀x∈named "mix" [(a:Int)],_;rw[e];intro b d;rw[GK.mp d];lia,by show (named "mix" [(a:Int)]).Nodup;rw[e];simp⟩
theorem j5{n:Nat}{k:Int}(o:Cr n M x):Cr n M (Dw x k):=XM o _
theorem Ez.bo{K:U0}{H:Hp}{l:Y1}{ps:U3}{n m:Nat}(b:Ez K H l ps f c n m):Bo K H l ps f c:=⟨b.lst,b.len,b.vals⟩
def qO (K:U0):Sp:=λvs H Q _=>∃(l p:Y1) (ps:U3) (f:Nat->A5) (c n M:Nat) (m:Gm),vs=[.ref l,.ref p]/\H p=some (Mr m.nm m.ns)/\m.Ok c/\Ez K H l ps f c n M/\c<=6/\n<=450000/\M<=10000 /\
 ∀(r:Y1) (H':Hp) (qs:U3) (g:Nat->A5),H r=none->Same H H'->Ez K H' r qs g c (n+2*M+3) (M+1)->Step c m f g->Q (.ref r) H'
section
variable {P:U8}{w:W3}{K:U0}{mg:U4}{base:Heap}{k:Nat}{h:Heap}
theorem Y6j(F:Ab K "turned" (top 46) .none)(X:K.In h)(G:Ng h mg)(B:Bs mg)(dH:Ar P w K mg base k "check_move" ["move","cells"] tG)(dX:Ar P w K mg base k "cells_of" ["board"] (qJ K))(eE:Ar P w K mg base k "mixed" ["board","bit"] (uY K))(cR:Ar P w K mg base k "spun_where" ["board","bits","k"] (ud K))
  (dE:Ar P w K mg base k "word_behind" ["word","move"] uU):Ar P w K mg base (k+1) "turned" ["board","move"] (qO K):=by
 refine F.cal X G ["board","move"] (bi:=Qk λ_ _ _ _ _ _ _ _=>rfl) (len:=λ_ _ _ _ h=>by obtain⟨_,_,_,_,_,_,_,_,rfl,_⟩:=h;rfl) λnd H vs Q E C h=>?_;obtain⟨l,p,ps,g,c,n,M,m,rfl,hp,ok,Y,u,n4,m1,D⟩:=h;have p6:=Hq u;have A:=Y.bo;have U:∀a:Nat,(1:Int)*2^((a:Int)).toNat=((2^a:Nat):Int):=λa=>ipow a
 refine⟨_,(@Aw _ _ _ _ _ (Nr (BP dH C rfl (Aa (pv 1) (Aa (BP dX C rfl (Aa (pv 0) Af)) Af))))
  (@Aw _ _ _ _ _ (CQ (Bx Cz (Ai Aq (pv 1) Ad (λ_ _=>rfl)) Ej (Ae _))
   (@Av _ _ _ (Bb (BP eE C rfl (Aa (pv 0) (Aa (Ag Hy Ad (Ai Aq (pv 1) Ad (λ_ _=>rfl))) Af)))))
   CT)
  (@Aw _ _ _ _ _ (CQ (Bx Cz (Ai Aq (pv 1) Ad (λ_ _=>rfl)) Ej (Ae _))
   (@Av _ _ _ (Bb (BP cR C rfl (Aa (pv 0) (Aa (Ag Hy Ad (Ai Aq (pv 1) Ad (λ_ _=>rfl))) (Aa (Ai Aq (pv 1) Ad (λ_ _=>rfl)) Af))))))
   CT)
  (@Aw _ _ _ _ _ (CQ (Bx Cz (Ai Aq (pv 1) Ad (λ_ _=>rfl)) Ej (Ae _))
   (@Av _ _ _ (Bb (BP cR C rfl (Aa (pv 0) (Aa (Ag Ph (Ag Hy Ad (Ai Aq (pv 1) Ad (λ_ _=>rfl))) (Ag Hy Ad (Ai Aq (pv 1) Ad (λ_ _=>rfl)))) (Aa Ad Af))))))
   CT)
  (@Av _ _ _ (Bb (KY rfl (Bw.of (Nc:=["word","board","move"]) (mp:=[none,some 0,some 1]) (by kernel_rfl)) (Mp rfl B.range (Aa (DP Jw rfl B.len JR (Aa (pv 0) Af)) Af)) (λ_ _ _ _=>(CN (i:=0) (show (["word","board","move"]:W0).Nodup by decide +kernel) rfl (Or.inl rfl))) (λ_ _ _ _=>(Ai jw (pv 1) (BP dE C rfl (Aa (pv 0) (Aa (pv 2) Af))) (λ_ _=>rfl)))))))))),?_⟩
 try dsimp only[Bu]
 refine⟨_,O,_,O,l,_,c,O,Ax.of A.lst,by rw[Bj,A.len],u,p,m.nm,m.ns,c,O,hp,Gm.fits ok,λH1 f=>?_⟩;have SP:Ao K H1 p (.str m.nm::m.ns.map V.int):=Ao.of (f _ _ hp);have J:=A.same f;have W:=Y.same f;cases m with
 | mix a =>
  have ac:a<c:=ok;refine⟨_,O,p,_,_,.str "mix",O,O,SP,at0,O,_,O,Ay (λ_=>?_) (λz=>absurd rfl z)⟩;refine⟨_,O,_,O,p,_,_,.int a,O,O,SP,O,_,_,O,O,⟨1,Ie,by lia,by lia⟩,?_⟩;exact⟨l,ps,g,c,n,M,a,congrArg (λz=>[V.ref l,V.int z]) (U a),W,u,ac,n4,m1,λr H2 d y t o L M2=>D r H2 d y (f.free t) (f.trans o) L M2⟩
 | mv v =>
 have SP:Ao K H1 p (.str v.nm::v.ns.map V.int):=SP;have ok:v.Ok c:=ok;have hp:H p=some (Mr v.nm v.ns):=hp;have kq:∀(r:Y1) (H':Hp) (d:U3) (y:Nat->A5),H r=none->Same H H'->Bo K H' r d y c->(∀w,w<2^c->y w=Dw (g (v.to w)) (v.sp w:Nat))->Q (.ref r) H':=λr H' d y h1 h2 Z h4 =>
  D r H' d y h1 h2 ⟨Z.lst,Z.len,Z.vals,λi hi=>by rw[h4 i hi];exact(j5 (Y.ok _ (Mv.to_lt u ok hi))).mono (by lia) (by lia)⟩ h4
 refine⟨_,O,p,_,_,.str v.nm,O,O,SP,at0,O,_,O,Ay (λz=>absurd (V.str.inj z) (X5i v)) (λ_=>?_)⟩;refine⟨_,O,p,_,_,.str v.nm,O,O,SP,at0,O,_,O,Ay (λz=>?_) (λzt=>?_)⟩
 ·obtain⟨a,kk,rfl⟩:=X5l (V.str.inj z);have ok:a<c/\1<=kk/\kk<=7:=ok;refine⟨_,O,_,O,p,_,_,.int a,O,O,SP,O,_,_,O,O,⟨1,Ie,by lia,by lia⟩,_,O,p,_,_,.int kk,O,O,SP,O,?_⟩;refine⟨l,ps,g,c,2^a,kk,(by show [V.ref l,V.int (1*2^((a:Int)).toNat),V.int (kk:Int)]=_;rw[U]),J,u,λr H2 d y t o L M2=>kq r H2 d y (f.free t) (f.trans o) L λw I=>?_⟩;rw[M2 w I];show _=Dw (g w) ((if w&&&2^a=2^a then kk else 0:Nat):Int);split
  ·rfl
  ·rfl
 refine⟨_,O,p,_,_,.str v.nm,O,O,SP,at0,O,_,O,Ay (λz=>?_) (λzp=>?_)⟩
 ·obtain⟨a,b,rfl⟩:=X5m (V.str.inj z);have ok:a<c/\b<c/\a≠b:=ok;refine⟨_,O,_,O,p,_,_,.int a,O,O,SP,O,_,_,O,O,⟨1,Ie,by lia,by lia⟩,_,O,p,_,_,.int b,O,O,SP,O,_,_,O,O,⟨1,Ie,by lia,by lia⟩,_,_,O,O,?_⟩;refine⟨l,ps,g,c,2^a ||| 2^b,4,(by show [V.ref l,V.int (Builtin.bitOr (1*2^((a:Int)).toNat) (1*2^((b:Int)).toNat)),V.int 4]=_;rw[U,U,NK]),J,u,λr H2 d y t o L M2=>kq r H2 d y (f.free t) (f.trans o) L λw I=>?_⟩;rw[M2 w I];show _=Dw (g w) ((if w&&&(2^a ||| 2^b)=(2^a ||| 2^b) then 4 else 0:Nat):Int);split
  ·rfl
  ·rfl
 have nt:v.nm≠"turn":=λe=>zt (by rw[e]);have np:v.nm≠"pair":=λe=>zp (by rw[e]);have R:(((ps.map V.ref).length:Nat):Int).toNat=2^c:=by rw[Bj,A.len,L_]
 have SL:Ax K H1 l (ps.map V.ref):=Ax.of J.lst;refine⟨_,O,l,_,O,.inl SL,_,O,by rw[Bj,A.len];lia,by rw[Bj,A.len];lia,λacc s=>?_⟩;rw[R];refine Wj (n:=2^c) (fr:=[some (.ref l),some (.ref p)]) (λi ys H'=>∃(d:U3) (y:Nat->A5),Same H1 H'/\H' acc=some (.lst ys)/\ys=d.map V.ref/\d.length=i/\BX K H' d y/\∀j,j<i->y j=g (v.to j)) (JK p6)
  ⟨[],λ_=>((0,0,0,0),0),BW s _,Az,O,O,(λ_ _ z=>by cases z),λj hj=>absurd hj (Ly _)⟩ ?_ ?_
 ·rintro i ys H2 N hi hy ⟨d,y,o,S,rfl,T,v2,x⟩ kN;refine⟨_,O,_,O,_,O,i,p,v,c,(by show [V.int (0+(i:Int)),V.ref p]=_;rw[RP]),o _ _ (f _ _ hp),ok,u,nt,np,λH3 S3=>?_⟩;obtain⟨q,_,hq,aq⟩:=((J.same o).same S3).at (Mv.to_lt u ok hi);refine⟨l,_,_,_,O,O,Ax.of (S3 _ _ (o _ _ J.lst)),aq,?_⟩;refine kN (.ref q) H3 (S3 _ _ S) ⟨d++[q],λj=>if j=d.length then g (v.to i) else y j,Gn (o.trans S3) s,Az,by rw[Dt];rfl,by simp[T],Qy (xs:=d.map V.ref) (S_ v2 S3 hq) (S3 _ _ S),λj hj=>?_⟩;show (if j=d.length then g (v.to i) else y j)=_;by_cases e:j=d.length
  ·rw[if_pos e,e,T]
  ·rw[if_neg e];exact x j (by lia)
 ·rintro ys H2 hy ⟨d,y,o,S,rfl,T,v2,x⟩;refine kq acc H2 d y (f.free s) (f.trans o) ⟨S,T,v2⟩ λw I=>?_;rw[x w I,X3t nt np w];rfl
def Ti (H:Hp)(ps:U3)(ms:List Gm):Prop:=DQ H ps (ms.map Gm.mm)
theorem Ti.length{H:Hp}{ps:U3}{ms:List Gm}(h:Ti H ps ms):ps.length=ms.length:=by
 have:=Paired.length h;rw[Bj]at this;exact this
theorem Ti.get{H:Hp}:∀{ps:U3}{ms:List Gm}{i:Nat}{p:Y1},Ti H ps ms->ps[i]?=some p->∃m,ms[i]?=some m/\H p=some (Mr m.nm m.ns)
 | p'::ps,m::ms,0,p,.cons a r,h=>by
  have:p'=p:=by simpa using h
  subst this;exact⟨m,O,a⟩
 | p'::ps,m::ms,i+1,p,.cons a r,h=>by
  obtain⟨d,b,c⟩:=Ti.get (ps:=ps) (ms:=ms) (i:=i) (p:=p) r (by simpa using h);exact⟨d,b,c⟩
structure Rw (H:Hp) (l:Y1) (ps:U3) (ms:List Gm) (c:Nat):Prop where
 lst:H l=some (.lst (ps.map V.ref))
 mvs:Ti H ps ms
 ok:∀m∈ms,m.Ok c
 len:ms.length<=200
def Gq (K:U0):Sp:=λvs H Q _=>∃(l lr:Y1) (ps rp:U3) (f:Nat->A5) (c n M:Nat) (ms:List Gm),vs=[.ref l,.ref lr]/\Rw H lr rp ms c/\Ez K H l ps f c n M/\c<=6/\M<=300/\n<=210000 /\
 ∀(r:Y1) (H':Hp) (qs:U3) (g:Nat->A5),H r=none->Same H H'->Ez K H' r qs g c (n+1010*ms.length) (M+ms.length)->Steps c ms f g->Q (.ref r) H'
theorem X8j(F:Ab K "run" (top 71) .none)(X:K.In h)(G:Ng h mg)(B:Bs mg)(eC:Ar P w K mg base k "turned" ["board","move"] (qO K)):Ar P w K mg base (k+1) "run" ["board","row"] (Gq K):=by
 refine F.cal X G ["board","row","behind","move"] (bi:=Qk λ_ _ _ _ _ _ _ _=>rfl) (len:=λ_ _ _ _ h=>by obtain⟨_,_,_,_,_,_,_,_,_,rfl,_⟩:=h;rfl) λI H vs Q E D h=>?_;obtain⟨l,t,ps,W,g,c,n,M,ms,rfl,o,A,c6,M3,n2,kq⟩:=h;have U:=o.len;have C:=o.mvs.length;have R:Ax K H t (W.map V.ref):=Ax.of o.lst
 refine⟨_,(@Aw _ _ _ _ _ (@BR _ _ 2 _ _ _ _ I rfl (Or.inl rfl) (Qz lN rfl B.list boot_list (Aa (pv 0) Af)) rfl (.inl rfl))
  (@Aw _ _ _ _ _ (JC PassesOwn.never rfl (Je (pv 1)) (CN (i:=3) I rfl (Or.inl rfl))
   (@Av _ _ _ (@BR _ _ 2 _ _ _ _ I rfl (Or.inl rfl) (BP eC D rfl (Aa (pv 2) (Aa (pv 3) Af))) rfl (.inl rfl))))
  (@Av _ _ _ (Bb (pv 2))))),?_⟩
 try dsimp only[Bu]
 refine⟨_,O,l,_,O,.inl (Ax.of A.lst),λb0 q=>?_⟩;have J:=BW q (.lst (ps.map V.ref))
 refine⟨_,O,t,O,⟨_,J.seq R⟩,Ss (K:=K) (a:=t) (xs:=W.map V.ref) (λi σ H'=>Same H H'/\∃(b:Y1) (s:U3) (y:Nat->A5) (L:Option V),H b=none/\Ez K H' b s y c (n+1010*i) (M+i)/\Steps c (ms.take i) g y/\σ=[some (.ref l),some (.ref t),some (.ref b),L])
  ⟨J,b0,ps,g,none,q,⟨Az,A.len,A.vals.same J,A.ok⟩,by rw[jV];exact .nil,O⟩ (λi σ H' _ e=>e.1.seq R) ?_ ?_⟩
 ·rintro i x σ H1 N ⟨f,b,s,y,L,S,u,d,rfl⟩;have Y:i<ms.length:=by
   have:=(G4.mp N).1;rw[Bj]at this;lia
  rw[FN]at N;obtain⟨p,hp,rfl⟩:=G3.mp N;obtain⟨m,T,p0⟩:=o.mvs.get hp;refine⟨_,O,_,O,b,p,s,y,c,_,_,m,O,f _ _ p0,o.ok m (Jo T),u,c6,by lia,by lia,λr H2 rs z D Z v st=>?_⟩;refine⟨f.trans Z,r,rs,z,_,f.free D,⟨v.lst,v.len,v.vals,λj hj=>(v.ok j hj).mono (by lia) (by lia)⟩,?_,O⟩;rw[JT,T];exact d.snoc st
 ·rintro σ H1 ⟨f,b,s,y,L,S,u,d,rfl⟩;rw[Bj,C]at u d;rw[Oj]at d;exact⟨_,O,kq b H1 s y S f u d⟩
end
end Al
namespace Eu
inductive Mv where
 | flip (a:Int)
 | mix (a:Int)
 | turn (a k:Int)
 | iff (a b:Int)
 | pair (a b:Int)
 | swap (a b:Int)
 | cross (a b d:Int)
deriving DecidableEq
namespace Mv
noncomputable def cells:Mv->List Int
 | flip a=>[a]
 | mix a=>[a]
 | turn a _=>[a]
 | iff a b=>[a,b]
 | pair a b=>[a,b]
 | swap a b=>[a,b]
 | cross a b d=>[a,b,d]
end Mv
open Mv
end Eu
set_option maxHeartbeats 1000000
namespace Ce
open Eu Eu.Mv
abbrev V4:=Int×Int×Int×Int
noncomputable def add (x y:V4):V4:=(x.1+y.1,x.2.1+y.2.1,x.2.2.1+y.2.2.1,x.2.2.2+y.2.2.2)
noncomputable def sm (n:Int)(x:V4):V4:=(n*x.1,n*x.2.1,n*x.2.2.1,n*x.2.2.2)
noncomputable def E (x:V4):V4:=(-x.2.2.2,x.1,x.2.1,x.2.2.1)
noncomputable def En:Nat->V4->V4
 | 0,x=>x
 | n+1,x=>E (En n x)
noncomputable def root (x:V4):V4:=(x.2.1-x.2.2.2,x.1+x.2.2.1,x.2.1+x.2.2.2,x.2.2.1-x.1)
theorem ext{x y:V4}(h1:x.1=y.1)(h2:x.2.1=y.2.1)(h3:x.2.2.1=y.2.2.1)(h4:x.2.2.2=y.2.2.2):x=y:=by
 obtain⟨a,b,c,d⟩:=x;obtain⟨g,e,f,d'⟩:=y;simp only at h1 h2 h3 h4;rw[h1,h2,h3,h4]
theorem W2u(x y:V4):E (add x y)=add (E x) (E y):=by apply ext<;>simp only[E,add]<;>lia
theorem n6(n:Int)(x:V4):E (sm n x)=sm n (E x):=by apply ext<;>simp only[E,sm]<;>grind
theorem W0q(x:V4):E (root x)=root (E x):=by apply ext<;>simp only[E,root]<;>lia
theorem Y9f(x y:V4):root (add x y)=add (root x) (root y):=by apply ext<;>simp only[root,add]<;>lia
theorem lu(n:Int)(x y:V4):sm n (add x y)=add (sm n x) (sm n y):=by apply ext<;>simp only[sm,add]<;>grind
theorem Q_(m n:Int)(x:V4):sm m (sm n x)=sm (m*n) x:=by apply ext<;>simp only[sm]<;>grind
theorem Nk(x:V4):sm 1 x=x:=by apply ext<;>simp only[sm]<;>lia
theorem add_comm(x y:V4):add x y=add y x:=by apply ext<;>simp only[add]<;>lia
theorem ZR(n:Nat)(x y:V4):En n (add x y)=add (En n x) (En n y):=by
 induction n with
 | zero=>rfl
 | succ n ih=>simp only[En,ih,W2u]
theorem Wt(n:Nat)(k:Int)(x:V4):En n (sm k x)=sm k (En n x):=by
 induction n with
 | zero=>rfl
 | succ n ih=>simp only[En,ih,n6]
theorem X6m(n:Nat)(x:V4):En n (root x)=root (En n x):=by
 induction n with
 | zero=>rfl
 | succ n ih=>simp only[En,ih,W0q]
theorem KQ(m n:Nat)(x:V4):En m (En n x)=En (m+n) x:=by
 induction m with
 | zero=>rw[Gv];rfl
 | succ m ih=>rw[Nat.succ_add];simp only[En,ih]
theorem yK(x:V4):En 4 x=sm (-1) x:=by apply ext<;>simp only[En,E,sm]<;>lia
theorem yJ(x:V4):En 8 x=x:=by apply ext<;>simp only[En,E]<;>lia
theorem lQ(n:Nat)(x:V4):En n x=En (n%8) x:=by
 have:∀q r,En (8*q+r) x=En r x:=by
  intro q r;induction q with
  | zero=>rw[Nat.mul_zero,Gv]
  | succ q ih=>rw[show 8*(q+1)+r=8+(8*q+r) by lia,<-KQ 8,yJ,ih]
 conv=>lhs;rw[<-Nat.div_add_mod n 8]
 exact this _ _
noncomputable def fl (w a:Nat):Nat:=w^^^2^a
noncomputable def sw (w a b:Nat):Nat:=if w.testBit a=w.testBit b then w else fl (fl w a) b
theorem XF(w a j:Nat):(fl w a).testBit j=(w.testBit j ^^ decide (a=j)):=by
 unfold fl;rw[HX,Va]
theorem K9(w a:Nat):fl (fl w a) a=w:=by
 unfold fl;rw[J5,QB,QC]
theorem Jc(w a b j:Nat)(h:a≠b):(sw w a b).testBit j=if j=a then w.testBit b else if j=b then w.testBit a else w.testBit j:=by
 unfold sw;by_cases e:w.testBit a=w.testBit b
 ·rw[if_pos e];split
  ·rename_i z;rw[z,e]
  ·split
   ·rename_i z;rw[z,e]
   ·rfl
 ·rw[if_neg e,XF,XF];by_cases ja:j=a
  ·rw[if_pos ja,ja,Cj rfl,Cd (λz=>h z.symm)];revert e;cases w.testBit a<;>cases w.testBit b<;>simp
  ·rw[if_neg ja];by_cases jb:j=b
   ·rw[if_pos jb,jb,Cj (rfl:b=b),Cd h];revert e;cases w.testBit a<;>cases w.testBit b<;>simp
   ·rw[if_neg jb,Cd (λz=>ja z.symm),Cd (λz=>jb z.symm)];simp
theorem kE{w v:Nat}(h:∀j,w.testBit j=v.testBit j):w=v:=bN h
noncomputable def to:Mv->Nat->Nat
 | .flip a,w=>fl w a.toNat
 | iff a b,w=>if w.testBit a.toNat then fl w b.toNat else w
 | swap a b,w=>sw w a.toNat b.toNat
 | cross a b d,w=>if w.testBit a.toNat then sw w b.toNat d.toNat else w
 | _,w=>w
noncomputable def sp:Mv->Nat->Nat
 | turn a k,w=>if w.testBit a.toNat then k.toNat else 0
 | pair a b,w=>if w.testBit a.toNat && w.testBit b.toNat then 4 else 0
 | _,_=>0
noncomputable def sg (w a:Nat):Int:=if w.testBit a then -1 else 1
abbrev Bv:=Nat->V4
noncomputable def op:Mv->Bv->Bv
 | mix a,F=>λw=>root (add (sm (sg w a.toNat) (F w)) (F (fl w a.toNat)))
 | m,F=>λw=>sm 2 (En (sp m w) (F (to m w)))
def Ok:Mv->Prop
 | .flip a=>0<=a
 | mix a=>0<=a
 | turn a k=>0<=a/\1<=k/\k<=7
 | iff a b=>0<=a/\0<=b/\a≠b
 | pair a b=>0<=a/\0<=b/\a≠b
 | swap a b=>0<=a/\0<=b/\a≠b
 | cross a b d=>0<=a/\0<=b/\0<=d/\a≠b/\a≠d/\b≠d
noncomputable def Fy:Mv->Bool
 | mix _=>true
 | _=>false
theorem Pa{m:Mv}(h:Fy m=false)(F:Bv)(w:Nat):op m F w=sm 2 (En (sp m w) (F (to m w))):=by
 cases m<;>first | rfl | cases h
theorem Ok.nn{m:Mv}(ok:Ok m):∀c∈m.cells,0<=c:=by
 cases m<;>simp only[Ok,cells]at*<;> simp<;>lia
end Ce
namespace Dp
open Eu Eu.Mv Ce Pc
noncomputable def bn (b:Bool):Nat:=if b then 1 else 0
noncomputable def bp (x:Nat):Bool:=decide (pc x%2=1)
theorem ZS(x y:Nat):bp (x^^^y)=(bp x ^^ bp y):=by
 unfold bp;have:=yW x y;have c:pc (x^^^y)%2=(pc x%2+pc y%2)%2:=by lia
 rw[c];rcases Jp (pc x) with a | a<;>rcases Jp (pc y) with b | b<;>rw[a,b]<;>rfl
theorem xG(a:Nat):pc (2^a)=1:=by
 induction a with
 | zero=>decide +kernel
 | succ n ih =>
  have b:(2:Nat)^(n+1)≠0:=Kz (Lz _);rw[nG,if_neg b,jP,Nat.mul_mod_left,Nat.mul_div_cancel _ (by decide),ih]
theorem X6f:bp 0=false:=by decide +kernel
theorem W0l(s a:Nat):bp (2^a&&&s)=s.testBit a:=by
 have e:(2^a&&&s)=if s.testBit a then 2^a else 0:=by
  apply bN;intro j;rw[QK,Va];by_cases h:a=j
  ·subst h;cases hb:s.testBit a<;>simp
  ·cases hb:s.testBit a<;>simp[h,Va]
 rw[e];cases s.testBit a
 ·exact X6f
 ·show bp (2^a)=true;unfold bp;rw[xG];rfl
theorem R7(x s a:Nat):bp (fl x a&&&s)=(bp (x&&&s) ^^ s.testBit a):=by
 unfold fl;rw[pI,ZS,W0l]
theorem Qv(x s a:Nat):bp (x&&&fl s a)=(bp (x&&&s) ^^ x.testBit a):=by
 rw[Nat.and_comm,R7,Nat.and_comm s]
theorem W2r(x a b:Nat):bp (sw x a b)=bp x:=by
 unfold sw;split
 ·rfl
 ·unfold fl;rw[ZS,ZS];have h:∀j,bp (2^j)=true:=λj=>by unfold bp;rw[xG];rfl
  rw[h,h];cases bp x<;>rfl
abbrev Mk:=Nat×Nat×Nat
noncomputable def lay (m:Mk)(F:Bv):Bv:=λw=>En (2*m.1+4*bn (bp ((w^^^m.2.1)&&&m.2.2))) (F (w^^^m.2.1))
noncomputable def CZ:Mv->Mk->Mk
 | .flip a,(k,f,s)=>(if s.testBit a.toNat then (k+2)%4 else k,f,s)
 | mix a,(k,f,s)=>(if f.testBit a.toNat && s.testBit a.toNat then (k+2)%4 else k,if f.testBit a.toNat=s.testBit a.toNat then f else fl f a.toNat,if f.testBit a.toNat=s.testBit a.toNat then s else fl s a.toNat)
 | turn a j,(k,f,s)=>if f.testBit a.toNat then ((k+j.toNat / 2)%4,f,if j.toNat%4=2 then fl s a.toNat else s) else (k,f,s)
 | iff a b,(k,f,s)=>(k,if f.testBit a.toNat then fl f b.toNat else f,if s.testBit b.toNat then fl s a.toNat else s)
 | pair a b,(k,f,s)=>(if f.testBit a.toNat && f.testBit b.toNat then (k+2)%4 else k,f,(if f.testBit b.toNat then fl (if f.testBit a.toNat then fl s b.toNat else s) a.toNat else if f.testBit a.toNat then fl s b.toNat else s))
 | swap a b,(k,f,s)=>(k,sw f a.toNat b.toNat,sw s a.toNat b.toNat)
 | _,m=>m
def Br:Mv->Prop
 | cross _ _ _=>False
 | turn _ j=>j.toNat%2=0
 | _=>True
theorem TJ{m n:Nat}(h:m%8=n%8)(x:V4):En m x=En n x:=by rw[lQ m,lQ n,h]
theorem Sq{m:Mv}(hm:Fy m=false){F:Bv}{w:Nat}{p q:Mk}(h1:to m w^^^p.2.1=to m (w^^^q.2.1))
  (h2:(sp m w+(2*p.1+4*bn (bp ((to m w^^^p.2.1)&&&p.2.2))))%8=(2*q.1+4*bn (bp ((w^^^q.2.1)&&&q.2.2))+sp m (w^^^q.2.1))%8):op m (lay p F) w=lay q (op m F) w:=by
 unfold lay;rw[Pa hm,Pa hm,Wt,KQ,KQ,h1];congr 1;rw[<-h1];exact TJ h2 _
theorem XH(w f a:Nat):fl w a^^^f=fl (w^^^f) a:=by
 unfold fl;rw[J5,Nat.xor_comm (2^a),<-J5]
theorem Ze(w f a:Nat):w^^^fl f a=fl (w^^^f) a:=by
 unfold fl;rw[J5]
variable{a:Int}
theorem Y9b(F:Bv)(w:Nat)(p:Mk):op (.flip a) (lay p F) w=lay (CZ (.flip a) p) (op (.flip a) F) w:=by
 obtain⟨k,f,s⟩:=p;refine Sq rfl (XH _ _ _) ?_;show (0+(2*k+4*bn (bp ((fl w a.toNat^^^f)&&&s))))%8=(2*(if s.testBit a.toNat then (k+2)%4 else k)+4*bn (bp ((w^^^f)&&&s))+0)%8;rw[XH,R7];cases s.testBit a.toNat<;>cases bp ((w^^^f)&&&s)<;>simp[bn]<;>lia
theorem Y8y{j:Int}(he:j.toNat%2=0)(hj:j.toNat<=7)(F:Bv)(w:Nat)(p:Mk):op (turn a j) (lay p F) w=lay (CZ (turn a j) p) (op (turn a j) F) w:=by
 obtain⟨k,f,s⟩:=p;generalize hJ:j.toNat=J at he hj;by_cases hf:f.testBit a.toNat=true
 ·have e:CZ (turn a j) (k,f,s)=((k+J / 2)%4,f,if J%4=2 then fl s a.toNat else s):=by
   show (if _ then _ else _)=_;rw[if_pos hf,hJ]
  rw[e];refine Sq rfl rfl ?_;show ((if w.testBit a.toNat then j.toNat else 0)+(2*k+4*bn (bp ((w^^^f)&&&s))))%8=(2*((k+J / 2)%4)+4*bn (bp ((w^^^f)&&&if J%4=2 then fl s a.toNat else s))+(if (w^^^f).testBit a.toNat then j.toNat else 0))%8;have b:(w^^^f).testBit a.toNat=!w.testBit a.toNat:=by rw[HX,hf];cases w.testBit a.toNat<;>rfl
  rw[b,hJ];have:J=0\/J=2\/J=4\/J=6:=by lia
  rcases this with rfl | rfl | rfl | rfl
  ·rw[if_neg (show ¬ (0:Nat)%4=2 by decide)];generalize bn (bp ((w^^^f)&&&s))=Z;cases w.testBit a.toNat<;>simp<;>lia
  ·rw[if_pos (show (2:Nat)%4=2 by decide),Qv,b];cases w.testBit a.toNat<;>cases bp ((w^^^f)&&&s)<;>simp[bn]<;>lia
  ·rw[if_neg (show ¬ (4:Nat)%4=2 by decide)];generalize bn (bp ((w^^^f)&&&s))=Z;cases w.testBit a.toNat<;>simp<;>lia
  ·rw[if_pos (show (6:Nat)%4=2 by decide),Qv,b];cases w.testBit a.toNat<;>cases bp ((w^^^f)&&&s)<;>simp[bn]<;>lia
 ·have e:CZ (turn a j) (k,f,s)=(k,f,s):=by
   show (if _ then _ else _)=_;rw[if_neg hf]
  rw[e];refine Sq rfl rfl ?_;show ((if w.testBit a.toNat then j.toNat else 0)+_)%8=(_+(if (w^^^f).testBit a.toNat then j.toNat else 0))%8;have b:(w^^^f).testBit a.toNat=w.testBit a.toNat:=by
   rw[HX,(by simpa using hf:f.testBit a.toNat=false)];cases w.testBit a.toNat<;>rfl
  rw[b,Py];rfl
theorem Pg{w a b:Nat}(h:a≠b):(fl w b).testBit a=w.testBit a:=by
 rw[XF,Cd (λz:b=a=>h z.symm)];cases w.testBit a<;>rfl
theorem kI(w a:Nat):(fl w a).testBit a=!w.testBit a:=by
 rw[XF];simp
variable{b:Int}
theorem X3l(ne:a.toNat≠b.toNat)(F:Bv)(w:Nat)(p:Mk):op (iff a b) (lay p F) w=lay (CZ (iff a b) p) (op (iff a b) F) w:=by
 obtain⟨k,f,s⟩:=p;generalize hA:a.toNat=A at ne;generalize hB:b.toNat=B at ne;have t:∀v,to (iff a b) v=if v.testBit A then fl v B else v:=λv=>by show (if _ then _ else _)=_;rw[hA,hB]
 have e:CZ (iff a b) (k,f,s)=(k,if f.testBit A then fl f B else f,if s.testBit B then fl s A else s):=by
  show (_,(if _ then _ else _),(if _ then _ else _))=_;rw[hA,hB]
 rw[e];have h1:to (iff a b) w^^^f=to (iff a b) (w^^^if f.testBit A then fl f B else f):=by
  rw[t,t];cases hf:f.testBit A<;>cases hw:w.testBit A<;>simp[hf,hw,HX,Ze,XH,Pg ne,K9]
 refine Sq rfl h1 ?_;show (0+(2*k+4*bn (bp ((to (iff a b) w^^^f)&&&s))))%8=(2*k+4*bn (bp ((w^^^if f.testBit A then fl f B else f)&&&if s.testBit B then fl s A else s))+0)%8;rw[Gv,P_];congr 3;congr 1;rw[t];cases hf:f.testBit A<;>cases hw:w.testBit A<;>cases hs:s.testBit B<;>simp[Ze,XH,R7,Qv,HX,hf,hw,hs,Pg ne,Pg (Ne.symm ne)]
theorem Y9a(ne:a.toNat≠b.toNat)(F:Bv)(w:Nat)(p:Mk):op (pair a b) (lay p F) w=lay (CZ (pair a b) p) (op (pair a b) F) w:=by
 obtain⟨k,f,s⟩:=p;refine Sq rfl rfl ?_;show ((if w.testBit a.toNat && w.testBit b.toNat then 4 else 0)+(2*k+4*bn (bp ((w^^^f)&&&s))))%8=(2*(if f.testBit a.toNat && f.testBit b.toNat then (k+2)%4 else k)+4*bn (bp ((w^^^f)&&&(if f.testBit b.toNat then fl (if f.testBit a.toNat then fl s b.toNat else s) a.toNat else if f.testBit a.toNat then fl s b.toNat else s)))+(if (w^^^f).testBit a.toNat && (w^^^f).testBit b.toNat then 4 else 0))%8;rw[HX,HX];generalize a.toNat=A at *;generalize b.toNat=B at *;cases hfa:f.testBit A<;>cases hfb:f.testBit B<;>cases hwa:w.testBit A<;>cases hwb:w.testBit B<;>simp[Qv,HX,hfa,hfb,hwa,hwb]<;>cases bp ((w^^^f)&&&s)<;>simp[bn]<;>lia
theorem Y8z(ne:a.toNat≠b.toNat)(F:Bv)(w:Nat)(p:Mk):op (swap a b) (lay p F) w=lay (CZ (swap a b) p) (op (swap a b) F) w:=by
 obtain⟨k,f,s⟩:=p;have h1:sw w a.toNat b.toNat^^^f=sw (w^^^sw f a.toNat b.toNat) a.toNat b.toNat:=by
  apply kE;intro j;rw[HX,Jc _ _ _ _ ne,Jc _ _ _ _ ne,HX,HX,HX,Jc _ _ _ _ ne,Jc _ _ _ _ ne,Jc _ _ _ _ ne];by_cases ja:j=a.toNat
  ·subst ja;simp[Ne.symm ne]
  ·by_cases jb:j=b.toNat
   ·subst jb;simp[Ne.symm ne]
   ·simp[ja,jb]
 refine Sq rfl h1 ?_;show (0+(2*k+4*bn (bp ((sw w a.toNat b.toNat^^^f)&&&s))))%8=(2*k+4*bn (bp ((w^^^sw f a.toNat b.toNat)&&&sw s a.toNat b.toNat))+0)%8;have e:((sw w a.toNat b.toNat^^^f)&&&s)=sw ((w^^^sw f a.toNat b.toNat)&&&sw s a.toNat b.toNat) a.toNat b.toNat:=by
  rw[h1];apply kE;intro j;rw[QK,Jc _ _ _ _ ne,Jc _ _ _ _ ne,QK,QK,QK,Jc s _ _ _ ne,Jc s _ _ _ ne,Jc s _ _ _ ne];by_cases ja:j=a.toNat
  ·subst ja;simp[Ne.symm ne]
  ·by_cases jb:j=b.toNat
   ·subst jb;simp[Ne.symm ne]
   ·simp[ja,jb]
 rw[e,W2r,Gv,P_]
noncomputable def Ip (b:Bool):Int:=if b then -1 else 1
theorem Q5(n:Nat)(b:Bool)(x:V4):En (n+4*bn b) x=sm (Ip b) (En n x):=by
 cases b
 ·show En (n+0) x=sm 1 (En n x);rw[Nk,P_]
 ·show En (n+4) x=sm (-1) (En n x);rw[Py,<-KQ,yK]
theorem X7o(w a:Nat):sg w a=Ip (w.testBit a):=by
 unfold sg Ip;cases w.testBit a<;>rfl
theorem Yt(a b:Bool):Ip a*Ip b=Ip (a ^^ b):=by cases a<;>cases b<;>rfl
theorem X3k(F:Bv)(w:Nat)(p:Mk):op (mix a) (lay p F) w=lay (CZ (mix a) p) (op (mix a) F) w:=by
 obtain⟨k,f,s⟩:=p;generalize hA:a.toNat=A;have b:∀G:Bv,∀v,op (mix a) G v=root (add (sm (Ip (v.testBit A)) (G v)) (G (fl v A))):=λG v=>by
  show root (add (sm (sg v a.toNat) (G v)) (G (fl v a.toNat)))=_;rw[hA,X7o]
 have e:CZ (mix a) (k,f,s)=(if f.testBit A && s.testBit A then (k+2)%4 else k,if f.testBit A=s.testBit A then f else fl f A,if f.testBit A=s.testBit A then s else fl s A):=by
  show ((if _ then _ else _),(if _ then _ else _),(if _ then _ else _))=_;rw[hA]
 rw[e,b];unfold lay;simp only[];rw[b,X6m,ZR,Wt,Q5,Q5,Q5,Q5,Q_,Q_,Yt,Yt,XH,R7];have k2:∀x:V4,En (2*((k+2)%4)) x=sm (Ip true) (En (2*k) x):=λx=>by
  rw[<-Q5];exact TJ (by show (2*((k+2)%4))%8=(2*k+4*1)%8;lia) x
 cases hf:f.testBit A<;>cases hs:s.testBit A
 ·simp[HX,hf,hs]
 ·simp[HX,hf,hs,Ze,R7,Qv,K9,kI];rw[add_comm];cases w.testBit A<;>cases bp ((w^^^f)&&&s)<;>simp[Ip]
 ·simp[HX,hf,hs,Ze,R7,Qv,K9,kI];rw[add_comm];cases w.testBit A<;>cases bp ((w^^^f)&&&s)<;>simp[Ip]
 ·simp[HX,hf,hs,k2,Q_,Yt]
theorem X3j{m:Mv}(o:Ok m)(b:Br m)(F:Bv)(p:Mk):op m (lay p F)=lay (CZ m p) (op m F):=by
 funext w;cases m with
 | flip a=>exact Y9b F w p
 | mix a=>exact X3k F w p
 | turn a j=>exact Y8y b (by have:0<=a/\1<=j/\j<=7:=o;lia) F w p
 | iff a c=>exact X3l (by have:0<=a/\0<=c/\a≠c:=o;lia) F w p
 | pair a c=>exact Y9a (by have:0<=a/\0<=c/\a≠c:=o;lia) F w p
 | swap a c=>exact Y8z (by have:0<=a/\0<=c/\a≠c:=o;lia) F w p
 | cross a c d=>exact absurd b id
end Dp
namespace Ce
open Eu Eu.Mv
noncomputable def Aj:List Mv->Bv->Bv
 | [],F=>F
 | m::ms,F=>Aj ms (op m F)
theorem X7n{n:Int}(h:n≠0){x y:V4}(e:sm n x=sm n y):x=y:=by
 have e1:=congrArg (λt:V4=>t.1) e;have e2:=congrArg (λt:V4=>t.2.1) e;have a:=congrArg (λt:V4=>t.2.2.1) e;have b:=congrArg (λt:V4=>t.2.2.2) e;exact ext (K3 h e1) (K3 h e2) (K3 h a) (K3 h b)
theorem nJ{w a b:Nat}(n:a≠b):sw (sw w a b) a b=w:=by
 apply kE;intro j;rw[Jc _ _ _ _ n];by_cases ja:j=a
 ·rw[if_pos ja,Jc _ _ _ _ n,if_neg (λz=>n z.symm),if_pos rfl,ja]
 ·rw[if_neg ja];by_cases jb:j=b
  ·rw[if_pos jb,Jc _ _ _ _ n,if_pos rfl,jb]
  ·rw[if_neg jb,Jc _ _ _ _ n,if_neg ja,if_neg jb]
theorem W0z(w a:Nat):sg (fl w a) a=-sg w a:=by
 unfold sg;rw[XF,Cj rfl];cases w.testBit a<;>rfl
def DG (c:Nat)(m:Mv):Prop:=Ok m/\∀x∈m.cells,x<(c:Int)
end Ce
set_option maxHeartbeats 4000000
namespace L2
section
variable {X:Cx}
end
end L2
namespace L2
theorem Y8g{X:Cx}(hc:X.calm=true):CJ X (.builtin "max") (λxs H Q=>∃(p:Y1) (ns:U6),xs=[.ref p]/\Ax X.K H p (ns.map V.int)/\0<ns.length/\∀M,M∈ns->(∀a,a∈ns->a<=M)->Q (.int M) H):=by
 intro pins s σ H xs us Q I r h;obtain⟨p,ns,rfl,x,m,q⟩:=h;obtain⟨u,rfl,g⟩:=r.one;cases g;obtain⟨its,l,k,y⟩:=I.list x;have hi:=ZL l;have c:=k.isList;obtain⟨xs,e⟩:=hi.allInts.items;have b:ns=xs.toList.map (·.1):=by
  rw[<-hi.numsOf,<-nums_intItems,<-e]
 have hsz:0<xs.size:=by
  have d:=m;rw[b,Bj,Ep]at d;exact d
 rw[e]at c;refine max_intList (show X.A.handled=none from I.ok.hd hc) c hsz λv h' tk o n=>?_;obtain⟨t,rfl⟩:=intItems_at o;obtain⟨h1,h2⟩:=argBest_gt (PySem.numAt xs) (xs.size-1);refine⟨.int (PySem.numAt xs (argBest (λi j=>decide (PySem.numAt xs i>PySem.numAt xs j)) (xs.size-1))),H,I.kept (t':=tk) n,⟨_,O⟩,q _ ?_ λa f=>?_⟩
 ·rw[b,numAt_eq];exact getD_mem (by rw[Bj,Ep];lia)
 ·rw[b]at f;obtain⟨j,w,rfl⟩:=mem_getD f;rw[Bj,Ep]at w;rw[<-numAt_eq];exact h2 j (by lia)
end L2
namespace L2
section
variable {prog:U8}{w:W3}{A:W8}{E:U2}{s:U7}{l:Y1}
end
section
variable {X:Cx}
end
end L2
namespace A_
open L2 Ba Eu
open Al (top Bs)
noncomputable def nm:Mv->Str
 | .flip _=>"flip"
 | .mix _=>"mix"
 | .turn _ _=>"turn"
 | .iff _ _=>"if"
 | .pair _ _=>"pair"
 | .swap _ _=>"swap"
 | .cross _ _ _=>"cross"
noncomputable def ns:Mv->List Int
 | .flip a=>[a]
 | .mix a=>[a]
 | .turn a k=>[a,k]
 | .iff a b=>[a,b]
 | .pair a b=>[a,b]
 | .swap a b=>[a,b]
 | .cross a b d=>[a,b,d]
noncomputable def hd:Mv->Int
 | .flip a=>a
 | .mix a=>a
 | .turn a _=>a
 | .iff a _=>a
 | .pair a _=>a
 | .swap a _=>a
 | .cross a _ _=>a
noncomputable def code:Mv->Nat
 | .flip _=>0
 | .mix _=>1
 | .turn _ _=>2
 | .iff _ _=>3
 | .pair _ _=>4
 | .swap _ _=>5
 | .cross _ _ _=>6
noncomputable def nms:List Str:=["flip","mix","turn","if","pair","swap","cross"]
theorem mU(m:Mv):nm m=nms.getD (code m) "":=by cases m<;>rfl
theorem X5k:∀i,i<7->∀j,j<7->nms.getD i ""=nms.getD j ""->i=j:=by decide +kernel
theorem rF(m:Mv):code m<7:=by cases m<;>simp[code]
theorem vJ{x:Mv}{i:Nat}(hi:i<7):nm x=nms.getD i ""↔code x=i:=⟨λh=>X5k _ (rF x) _ hi (by rw[<-mU,h]),λh=>by rw[mU,h]⟩
noncomputable abbrev mm (m:Mv):Mm:=(nm m,ns m)
theorem yd:∀i,i<7->PyData.strOk (nms.getD i "")=true:=by decide +kernel
theorem yc(m:Mv):PyData.strOk (mm m).1=true:=by
 show PyData.strOk (nm m)=true;rw[mU];exact yd _ (rF m)
theorem X5h(m:Mv):∃r,ns m=hd m::r:=by cases m<;>exact⟨_,O⟩
theorem Hu(m:Mv):GC (.str (nm m)::(ns m).map V.int) 0=some (.str (nm m)):=L2.Mf (show (V.str (nm m)::(ns m).map V.int)[0]?=some _ from rfl)
theorem jo(m:Mv):GC (.str (nm m)::(ns m).map V.int) 1=some (.int (hd m)):=by
 obtain⟨r,e⟩:=X5h m;rw[e];exact L2.Mf (show (V.str (nm m)::V.int (hd m)::r.map V.int)[1]?=some _ from rfl)
theorem X5w(m:Mv):nm m="turn"↔code m=2:=vJ (i:=2) (by decide)
theorem X0u(m:Mv):nm m="cross"↔code m=6:=vJ (i:=6) (by decide)
theorem Y4p(m:Mv):∃r,m.cells=hd m::r:=by cases m<;>exact⟨_,O⟩
theorem uE{H H':Hp}{l:Y1}(s:Same H H')(h:H' l=none):H l=none:=by
 cases e:H l with
 | none=>rfl
 | some o=>rw[s _ _ e]at h;cases h
def Cv (H:Hp)(l:Y1)(row:List Mv):Prop:=∃ps,H l=some (.lst (ps.map V.ref))/\DQ H ps (row.map mm)
theorem Cv.same{H H':Hp}{l:Y1}{row:List Mv}(h:Cv H l row)(s:Same H H'):Cv H' l row:=by
 obtain⟨ps,a,b⟩:=h;exact⟨ps,s _ _ a,b.same s⟩
variable{xs:List V}
theorem R9{x:V}:HT.Bp (x::xs).length 0 (some 1)=1:=by
 have:=HT.Wb (x::xs).length 0 1;rw[show ((1:Nat):Int)=1 from rfl]at this;rw[this];simp
theorem WW{x:V}:Dy (x::xs) (some 1) none=xs:=by
 unfold Dy;rw[R9];have e2:HT.Bp (x::xs).length (x::xs).length none=(x::xs).length:=rfl;rw[e2];simp
end A_
namespace A_
open L2 Ba Am Eu
open Al (top Bs va vb vc vd Gm Step Steps Mt Mix DR)
open Ce (V4 sm add root E En fl sw sg Aj op DG)
def Vl (m:Nat)(v:V4)(x:A5):Prop:=∃M0:Int,∀M,M0<=M->va x M=v.1*p2 (M-m)/\vb x M=v.2.1*p2 (M-m)/\vc x M=v.2.2.1*p2 (M-m)/\vd x M=v.2.2.2*p2 (M-m)
variable{m:Nat}{v:V4}
theorem Vl.once{x:V4}{h:Int}(l:Vl m v (x,h)):Vl m (E v) (E x,h):=by
 obtain⟨b,l⟩:=l;refine⟨b,λM a=>?_⟩;obtain⟨l1,l2,l3,l4⟩:=l M a;unfold va at l1;unfold vb at l2;unfold vc at l3;unfold vd at l4;unfold va vb vc vd;simp only[E]at l1 l2 l3 l4 ⊢;rw[Int.neg_mul,Int.neg_mul,l4];exact⟨O,l1,l2,l3⟩
theorem Vl.Bm{m:Nat}{v x:V4}{h:Int}(l:Vl m v (x,h)):∀j,Vl m (En j v) (Ba.Bm j x,h)
 | 0=>l
 | j+1=>(Vl.Bm l j).once
variable{x:A5}
theorem Vl.up(l:Vl m v x)(n:Nat):Vl (m+n) (sm (2^n) v) x:=by
 obtain⟨c,l⟩:=l;refine⟨max c 0+m+n,λM d=>?_⟩;obtain⟨l1,l2,l3,l4⟩:=l M (by lia);have e:p2 (M-m)=2^n*p2 (M-((m+n:Nat):Int)):=by
  rw[Qp (a:=M-m) (b:=(n:Int)) (by lia) (by lia),Uz];congr 1;unfold p2;congr 1;lia
 rw[l1,l2,l3,l4,e];simp only[sm];refine⟨?_,?_,?_,?_⟩<;>grind
theorem Vl.mix{s:Int}{u:V4}{y z:A5}(l:Vl m v x)(a:Vl m u y)(mx:Mix s x y z)(x0:0<=x.2)(y0:0<=y.2):Vl (m+1) (root (add v (sm s u))) z:=by
 obtain⟨o,l⟩:=l;obtain⟨M2,a⟩:=a;obtain⟨M3,k⟩:=mx.vals x0 y0;refine⟨max o 0+max M2 0+max M3 0+1,λN p=>?_⟩;obtain⟨M,rfl⟩:∃M,N=M+1:=⟨N-1,by lia⟩;obtain⟨f,b,n,g⟩:=l M (by lia);obtain⟨i,j,c,h⟩:=a M (by lia);obtain⟨c1,c2,c3,d⟩:=k M (by lia);have e:M+1-((m+1:Nat):Int)=M-m:=by lia
 rw[c1,c2,c3,d,f,b,n,g,i,j,c,h,e];simp only[root,add,sm];refine⟨?_,?_,?_,?_⟩<;>grind
theorem Vl.of{N:Nat}(h0:0<=x.2)(h:x.2<=(N:Int)):Vl N (sm (2^(N-x.2.toNat)) x.1) x:=by
 have b:Vl x.2.toNat x.1 x:=by
  refine⟨0,λM _=>?_⟩;have:((x.2.toNat:Nat):Int)=x.2:=VR h0;rw[this];exact⟨O,O,O,O⟩
 have:=b.up (N-x.2.toNat);rw[show x.2.toNat+(N-x.2.toNat)=N by lia]at this;exact this
noncomputable def e1 (a w:Nat):Bool:=(decide (w&&&2^a=0) == !w.testBit a) && (decide (w&&&2^a=2^a) == w.testBit a) && (decide (w / 2^a%2=0) == !w.testBit a) && (w.testBit a || decide (fl w a=w+2^a)) && (!w.testBit a || decide (fl w a=w-2^a))
noncomputable def e2 (a b w:Nat):Bool:=decide (a=b) || (decide (Al.Iz w a b=sw w a b) && (decide (w&&&(2^a ||| 2^b)=(2^a ||| 2^b)) == (w.testBit a && w.testBit b)))
theorem W0c:((List.range 6).all λa=>(List.range 64).all λw=>e1 a w)=true:=by decide +kernel
theorem W0b:((List.range 6).all λa=>(List.range 6).all λb=>(List.range 64).all λw=>e2 a b w)=true:=by decide +kernel
variable{c w:Nat}
theorem Xn(hc:c<=6)(hw:w<2^c):w<64:=GR hw (Rt (by decide) hc:2^c<=2^6)
theorem Q7{a:Nat}(hc:c<=6)(ha:a<c)(hw:w<2^c):(w&&&2^a=0↔w.testBit a=false)/\(w&&&2^a=2^a↔w.testBit a=true)/\(w / 2^a%2=0↔w.testBit a=false)/\(w.testBit a=false->fl w a=w+2^a)/\(w.testBit a=true->fl w a=w-2^a):=by
 have h:=Al.Cp (Al.Cp W0c (show a<6 by lia)) (Xn hc hw);unfold e1 at h;simp only[GQ,QH,HS,KC]at h;obtain⟨⟨⟨⟨h1,h2⟩,b⟩,d⟩,e⟩:=h;cases hb:w.testBit a
 ·rw[hb]at h1 h2 b d e;simp at h1 h2 b d e;exact⟨⟨λ_=>rfl,λ_=>h1⟩,⟨λz=>absurd z h2,λz=>by cases z⟩,⟨λ_=>rfl,λ_=>b⟩,λ_=>d,λz=>by cases z⟩
 ·rw[hb]at h1 h2 b d e;simp at h1 h2 b d e;exact⟨⟨λz=>absurd z h1,λz=>by cases z⟩,⟨λ_=>rfl,λ_=>h2⟩,⟨λz=>absurd z (by lia),λz=>by cases z⟩,(λz=>by cases z),λ_=>e⟩
theorem TQ{a b:Nat}(hc:c<=6)(ha:a<c)(hb:b<c)(n:a≠b)(hw:w<2^c):Al.Iz w a b=sw w a b/\(w&&&(2^a ||| 2^b)=(2^a ||| 2^b)↔(w.testBit a && w.testBit b)=true):=by
 have h:=Al.Cp (Al.Cp (Al.Cp W0b (show a<6 by lia)) (show b<6 by lia)) (Xn hc hw);unfold e2 at h;simp only[GQ,QH,HS,KC]at h;rcases h with h | ⟨h1,h2⟩
 ·exact absurd h n
 ·refine⟨h1,?_⟩;rw[<-h2];simp
noncomputable def gm:Mv->Gm
 | .flip a=>.mv (.flip a.toNat)
 | .mix a=>.mix a.toNat
 | .turn a k=>.mv (.turn a.toNat k.toNat)
 | .iff a b=>.mv (.iff a.toNat b.toNat)
 | .pair a b=>.mv (.pair a.toNat b.toNat)
 | .swap a b=>.mv (.swap a.toNat b.toNat)
 | .cross a b d=>.mv (.cross a.toNat b.toNat d.toNat)
theorem tn{a:Int}(h:0<=a):((a.toNat:Nat):Int)=a:=VR h
variable{m:Mv}
theorem W2i(o:DG c m):(gm m).mm=mm m:=by
 obtain⟨o,_⟩:=o;cases m with
 | flip a=>show (_,[((a.toNat:Nat):Int)])=_;rw[tn o];rfl
 | mix a=>show (_,[((a.toNat:Nat):Int)])=_;rw[tn o];rfl
 | turn a k=>show (_,[((a.toNat:Nat):Int),((k.toNat:Nat):Int)])=_;rw[tn o.1,tn (show 0<=k by have:=o.2.1;lia)];rfl
 | iff a b=>show (_,[((a.toNat:Nat):Int),((b.toNat:Nat):Int)])=_;rw[tn o.1,tn o.2.1];rfl
 | pair a b=>show (_,[((a.toNat:Nat):Int),((b.toNat:Nat):Int)])=_;rw[tn o.1,tn o.2.1];rfl
 | swap a b=>show (_,[((a.toNat:Nat):Int),((b.toNat:Nat):Int)])=_;rw[tn o.1,tn o.2.1];rfl
 | cross a b d=>show (_,[((a.toNat:Nat):Int),((b.toNat:Nat):Int),((d.toNat:Nat):Int)])=_;rw[tn o.1,tn o.2.1,tn o.2.2.1];rfl
theorem Zh(o:DG c m):(gm m).Ok c:=by
 obtain⟨o,x⟩:=o;cases m with
 | flip a=>have h:=x a (by simp[Mv.cells]);have o:0<=a:=o;show a.toNat<c;lia
 | mix a=>have h:=x a (by simp[Mv.cells]);have o:0<=a:=o;show a.toNat<c;lia
 | turn a k=>have h:=x a (by simp[Mv.cells]);have o:0<=a/\1<=k/\k<=7:=o;show a.toNat<c/\1<=k.toNat/\k.toNat<=7;lia
 | iff a b=>have h:=x a (by simp[Mv.cells]);have h2:=x b (by simp[Mv.cells]);have o:0<=a/\0<=b/\a≠b:=o;show a.toNat<c/\b.toNat<c/\a.toNat≠b.toNat;lia
 | pair a b=>have h:=x a (by simp[Mv.cells]);have h2:=x b (by simp[Mv.cells]);have o:0<=a/\0<=b/\a≠b:=o;show a.toNat<c/\b.toNat<c/\a.toNat≠b.toNat;lia
 | swap a b=>have h:=x a (by simp[Mv.cells]);have h2:=x b (by simp[Mv.cells]);have o:0<=a/\0<=b/\a≠b:=o;show a.toNat<c/\b.toNat<c/\a.toNat≠b.toNat;lia
 | cross a b d=>have h:=x a (by simp[Mv.cells]);have h2:=x b (by simp[Mv.cells]);have e:=x d (by simp[Mv.cells]);have o:0<=a/\0<=b/\0<=d/\a≠b/\a≠d/\b≠d:=o;show a.toNat<c/\b.toNat<c/\d.toNat<c/\a.toNat≠b.toNat/\a.toNat≠d.toNat/\b.toNat≠d.toNat;lia
variable{F:Ce.Bv}{f:Nat->A5}
theorem TY{n k:Nat}{z:A5}{v:Al.Mv}{t:Nat}(hl:v.to w<2^c)(h:∀w,w<2^c->Vl n (F w) (f w))(et:v.to w=t)(es:v.sp w=k)(k8:k<8)(e:z=Dw (f (v.to w)) (v.sp w:Nat)):Vl (n+1) (sm 2 (En k (F t))) z:=by
 subst et es;rw[e];have q:=(h _ hl).Bm (v.sp w);have e2:(((v.sp w:Nat):Int)%8).toNat=v.sp w:=by lia
 unfold Dw;rw[e2];exact q.up 1
theorem X3r{n:Nat}{f':Nat->A5}(hc:c<=6)(o:DG c m)(af:Mt c f)(h:∀w,w<2^c->Vl n (F w) (f w))(s:Step c (gm m) f f'):∀w,w<2^c->Vl (n+1) (op m F w) (f' w):=by
 intro w i;have ok:=Zh o;cases m with
 | flip a=>exact TY (v:=.flip a.toNat) (Al.Mv.to_lt hc ok i) h rfl rfl (show 0<8 by decide) (s w i)
 | turn a j =>
  have ok:a.toNat<c/\1<=j.toNat/\j.toNat<=7:=ok;refine TY (v:=.turn a.toNat j.toNat) i h rfl ?_ ?_ (s w i)
  ·show (if _ then _ else _)=(if _ then _ else _);by_cases b:w.testBit a.toNat=true
   ·rw[if_pos b,if_pos ((Q7 hc ok.1 i).2.1.mpr b)]
   ·rw[if_neg b,if_neg (λz=>b ((Q7 hc ok.1 i).2.1.mp z))]
  ·show (if w.testBit a.toNat then j.toNat else 0)<8;split<;>lia
 | iff a b =>
  have g:a.toNat<c/\b.toNat<c/\a.toNat≠b.toNat:=ok;refine TY (v:=.iff a.toNat b.toNat) (Al.Mv.to_lt hc ok i) h ?_ rfl (show 0<8 by decide) (s w i);show (if _ then _ else _)=(if _ then _ else _);by_cases b:w.testBit a.toNat=true
  ·rw[if_pos b,if_neg (λz=>by rw[(Q7 hc g.1 i).1.mp z]at b;cases b)];rfl
  ·rw[if_neg b,if_pos ((Q7 hc g.1 i).1.mpr (by simpa using b))]
 | pair a b =>
  have g:a.toNat<c/\b.toNat<c/\a.toNat≠b.toNat:=ok;refine TY (v:=.pair a.toNat b.toNat) i h rfl ?_ ?_ (s w i)
  ·show (if _ then _ else _)=(if _ then _ else _);by_cases b':(w.testBit a.toNat && w.testBit b.toNat)=true
   ·rw[if_pos b',if_pos ((TQ hc g.1 g.2.1 g.2.2 i).2.mpr b')]
   ·rw[if_neg b',if_neg (λz=>b' ((TQ hc g.1 g.2.1 g.2.2 i).2.mp z))]
  ·show (if _ then _ else _)<8;split<;>lia
 | swap a b =>
  have g:a.toNat<c/\b.toNat<c/\a.toNat≠b.toNat:=ok;exact TY (v:=.swap a.toNat b.toNat) (Al.Mv.to_lt hc ok i) h (TQ hc g.1 g.2.1 g.2.2 i).1 rfl (show 0<8 by decide) (s w i)
 | cross a b d =>
  have g:a.toNat<c/\b.toNat<c/\d.toNat<c/\a.toNat≠b.toNat/\a.toNat≠d.toNat/\b.toNat≠d.toNat:=ok;refine TY (v:=.cross a.toNat b.toNat d.toNat) (Al.Mv.to_lt hc ok i) h ?_ rfl (show 0<8 by decide) (s w i);show (if _ then _ else _)=(if _ then _ else _);by_cases b:w.testBit a.toNat=true
  ·rw[if_pos b,if_neg (λz=>by rw[(Q7 hc g.1 i).1.mp z]at b;cases b)];exact(TQ hc g.2.1 g.2.2.1 g.2.2.2.2.2 i).1
  ·rw[if_neg b,if_pos ((Q7 hc g.1 i).1.mpr (by simpa using b))]
 | mix a =>
  have p:a.toNat<c:=ok;have e:=s w i;have e:DR f a.toNat w (f' w):=e;unfold DR at e;obtain⟨_,_,l,q,r⟩:=Q7 hc p i;show Vl (n+1) (root (add (sm (sg w a.toNat) (F w)) (F (fl w a.toNat)))) (f' w);unfold sg;by_cases hb:w.testBit a.toNat=false
  ·have z:=l.mpr hb;obtain⟨_,_,l2,_⟩:=Al.vU hc p i z;rw[if_pos z]at e;rw[if_neg (by rw[hb];decide),q hb,Ce.Nk];have:=(h _ i).mix (h _ l2) e (af _ i).nn (af _ l2).nn;rw[Ce.Nk]at this;exact this
  ·have k:w.testBit a.toNat=true:=by simpa using hb
   have z:¬ w / 2^a.toNat%2=0:=λz=>hb (l.mp z);have l2:w-2^a.toNat<2^c:=VL (Nat.sub_le _ _) i;rw[if_neg z]at e;rw[if_pos k,r k,Ce.add_comm];exact(h _ l2).mix (h _ i) e (af _ l2).nn (af _ i).nn
theorem ug{c:Nat}(hc:c<=6):∀{row:List Mv}{n:Nat}{F:Ce.Bv}{f f':Nat->A5},(∀m∈row,DG c m)->Mt c f->(∀w,w<2^c->Vl n (F w) (f w))->Steps c (row.map gm) f f'->(∀w,w<2^c->Vl (n+row.length) (Aj row F w) (f' w))/\Mt c f'
 | [],n,F,f,f',_,af,h,a=>by
  cases a;exact⟨h,af⟩
 | m::row,n,F,f,f',ok,af,h,a=>by
  cases a with
  | cons a a' =>
   have b:=ok m (.head _);have:=ug hc (row:=row) (λx d=>ok x (.tail _ d)) (a.ams hc (Zh b) af) (X3r hc b af h a) a';rw[J9,show n+(row.length+1)=n+1+row.length by lia];exact this
theorem X7t{H:Hp}{l:Y1}{row:List Mv}(h:Cv H l row)(ok:∀m∈row,DG c m)(len:row.length<=200):∃ps,Al.Rw H l ps (row.map gm) c:=by
 obtain⟨ps,b,f⟩:=h;refine⟨ps,b,?_,?_,by rw[Bj];exact len⟩
 ·show DQ H ps ((row.map gm).map Gm.mm);have e:(row.map gm).map Gm.mm=row.map mm:=by
   rw[Lx];exact bK λm a=>W2i (ok m a)
  rw[e];exact f
 ·intro m a;obtain⟨x,d,rfl⟩:=Jl.mp a;exact Zh (ok x d)
end A_
namespace A_
open L2 Ba Am Pc Eu
open Al (top Bs)
open Ce (fl sw DG)
open Dp (Mk CZ Br)
noncomputable abbrev Eh (m:Mk):List V:=[.int (m.1:Nat),.int (m.2.1:Nat),.int (m.2.2:Nat)]
structure Ik (c:Nat) (m:Mk):Prop where
 k:m.1<4
 f:m.2.1<2^c
 s:m.2.2<2^c
theorem X6j(f a:Nat):(f&&&2^a)=if f.testBit a then 2^a else 0:=by
 apply bN;intro j;rw[QK,Va];by_cases h:a=j
 ·subst h;cases hb:f.testBit a<;>simp
 ·cases hb:f.testBit a<;>simp[h,Va]
theorem tb(f a:Nat):(Builtin.bitAnd (f:Int) ((2^a:Nat):Int) != 0)=f.testBit a:=by
 rw[KR,X6j];cases f.testBit a
 ·rfl
 ·have b:=Lz a;have:((2^a:Nat):Int)≠0:=by lia
  exact bne_iff_ne.mpr this
theorem xb(f a:Nat):Builtin.bitXor (f:Int) ((2^a:Nat):Int)=((fl f a:Nat):Int):=RB f (2^a)
noncomputable abbrev Jr (a f s:Nat):Nat:=if f.testBit a=s.testBit a then f else fl f a
noncomputable abbrev KJ (a f s:Nat):Nat:=if f.testBit a=s.testBit a then s else fl s a
noncomputable abbrev Yd (f s b:Int):Int:=Builtin.bitOr (Builtin.bitAnd f (Builtin.bitNot b)) (Builtin.bitAnd s b)
noncomputable def Ve (a f s:Nat):Bool :=
 decide (Yd f s ((2^a:Nat):Int)=(Jr a f s:Int)) && decide (Yd s f ((2^a:Nat):Int)=(KJ a f s:Int)) &&
 decide (((Jr a f s).testBit a && (KJ a f s).testBit a)=(f.testBit a && s.testBit a))
theorem X8t:((List.range 6).all λa=>(List.range 64).all λf=>(List.range 64).all λs=>Ve a f s)=true:=by decide +kernel
variable{c a f:Nat}
theorem W1e{s:Nat}(hc:c<=6)(ha:a<c)(hf:f<2^c)(hs:s<2^c):Yd f s ((2^a:Nat):Int)=(Jr a f s:Int)/\Yd s f ((2^a:Nat):Int)=(KJ a f s:Int)/\((Jr a f s).testBit a && (KJ a f s).testBit a)=(f.testBit a && s.testBit a):=by
 have h:=Al.Cp (Al.Cp (Al.Cp X8t (show a<6 by lia)) (Xn hc hf)) (Xn hc hs);unfold Ve at h;rw[GQ,GQ]at h;exact⟨M6 h.1.1,M6 h.1.2,M6 h.2⟩
theorem tb2(f s a:Nat):(Builtin.bitAnd (Builtin.bitAnd (f:Int) (s:Int)) ((2^a:Nat):Int) != 0)=(f.testBit a && s.testBit a):=by
 rw[KR,tb,QK]
theorem Hx(hf:f<2^c)(ha:a<c):fl f a<2^c:=Ol hf (YJ (by decide) ha)
theorem Wy{b:Nat}(hf:f<2^c)(ha:a<c)(hb:b<c):sw f a b<2^c:=by
 unfold sw;split
 ·exact hf
 ·exact Hx (Hx hf ha) hb
theorem X8u{x:Mv}{m:Mk}(o:DG c x)(h:Ik c m):Ik c (CZ x m):=by
 obtain⟨k,f,s⟩:=m;obtain⟨l,i,g⟩:=h;have ok:=Zh o;have p:∀n:Nat,n%4<4:=λn=>Yg _ (by decide);cases x with
 | flip a=>exact⟨by show (if _ then _ else _)<4;split;exact p _;exact l,i,g⟩
 | mix a =>
  have e:a.toNat<c:=ok;exact⟨by show (if _ then _ else _)<4;split;exact p _;exact l,by show (if _ then _ else _)<2^c;split;exact i;exact Hx i e,by show (if _ then _ else _)<2^c;split;exact g;exact Hx g e⟩
 | turn a j =>
  have e:a.toNat<c/\_:=ok;show Ik c (if _ then _ else _);split
  ·exact⟨p _,i,by show (if _ then _ else _)<2^c;split;exact Hx g e.1;exact g⟩
  ·exact⟨l,i,g⟩
 | iff a b =>
  have e:a.toNat<c/\b.toNat<c/\_:=ok;exact⟨l,by show (if _ then _ else _)<2^c;split;exact Hx i e.2.1;exact i,by show (if _ then _ else _)<2^c;split;exact Hx g e.1;exact g⟩
 | pair a b =>
  have e:a.toNat<c/\b.toNat<c/\_:=ok;refine⟨by show (if _ then _ else _)<4;split;exact p _;exact l,i,?_⟩;show (if _ then _ else _)<2^c;split
  ·refine Hx ?_ e.1;split
   ·exact Hx g e.2.1
   ·exact g
  ·split
   ·exact Hx g e.2.1
   ·exact g
 | swap a b =>
  have e:a.toNat<c/\b.toNat<c/\_:=ok;exact⟨l,Wy i e.1 e.2.1,Wy g e.1 e.2.1⟩
 | cross a b d=>exact⟨l,i,g⟩
abbrev Tj (K:U0)(H:Hp)(Q:VK)(m:Mk):Prop:=∀(r:Y1) (H':Hp),Same H H'->Ao K H' r (Eh m)->Q (.ref r) H'
def Yu (K:U0):Sp:=λvs H Q _=>∃(p:Y1) (m:Mk),vs=[.ref p]/\Ao K H p (Eh m)/\Tj K H Q ((m.1+2)%4,m.2.1,m.2.2)
def sZ (K:U0):Sp:=λvs H Q _=>∃(p:Y1) (m:Mk) (c a:Nat),vs=[.ref p,.int ((2^a:Nat):Int)]/\Ao K H p (Eh m)/\Ik c m/\c<=6/\a<c/\Tj K H Q (CZ (.mix (a:Int)) m)
def uW (K:U0):Sp:=λvs H Q _=>∃(p:Y1) (m:Mk) (a j:Nat),vs=[.ref p,.int ((2^a:Nat):Int),.int (j:Int)]/\Ao K H p (Eh m)/\Tj K H Q (CZ (.turn (a:Int) (j:Int)) m)
def Kr (K:U0):Sp:=λvs H Q _=>∃(p:Y1) (m:Mk) (a b:Nat),vs=[.ref p,.int ((2^a:Nat):Int),.int ((2^b:Nat):Int)]/\Ao K H p (Eh m)/\Tj K H Q (CZ (.iff (a:Int) (b:Int)) m)
def uV (K:U0):Sp:=λvs H Q _=>∃(p:Y1) (m:Mk) (a b:Nat),vs=[.ref p,.int ((2^a:Nat):Int),.int ((2^b:Nat):Int)]/\Ao K H p (Eh m)/\Tj K H Q (CZ (.pair (a:Int) (b:Int)) m)
variable{x y z:V}
theorem k0:GC [x,y,z] 0=some x:=rfl
theorem k1:GC [x,y,z] 1=some y:=rfl
theorem k2:GC [x,y,z] 2=some z:=rfl
theorem rW(a k f s:Nat):CZ (.mix (a:Int)) (k,f,s)=(if f.testBit a && s.testBit a then (k+2)%4 else k,Jr a f s,KJ a f s):=rfl
theorem X0k(a j k f s:Nat):CZ (.turn (a:Int) (j:Int)) (k,f,s)=if f.testBit a then ((k+j / 2)%4,f,if j%4=2 then fl s a else s) else (k,f,s):=rfl
theorem X5n(a b k f s:Nat):CZ (.iff (a:Int) (b:Int)) (k,f,s)=(k,if f.testBit a then fl f b else f,if s.testBit b then fl s a else s):=rfl
noncomputable abbrev Ou (a b f s:Nat):Nat:=if f.testBit b then fl (if f.testBit a then fl s b else s) a else if f.testBit a then fl s b else s
theorem X0l(a b k f s:Nat):CZ (.pair (a:Int) (b:Int)) (k,f,s)=(if f.testBit a && f.testBit b then (k+2)%4 else k,f,Ou a b f s):=rfl
section
variable {P:U8}{w:W3}{K:U0}{mg:U4}{base:Heap}{k:Nat}{h:Heap}
theorem X0i(F:Ab K "turned_about" (top 31) .none)(X:K.In h)(G:Ng h mg):Ar P w K mg base (k+1) "turned_about" ["mark"] (Yu K):=by
 refine F.cal X G ["mark"] (bi:=Ql λ_ _ _ _ _ _ _=>rfl) (len:=λ_ _ _ _ h=>by obtain⟨_,_,rfl,_⟩:=h;rfl) λb H vs Q E a h=>?_;obtain⟨p,⟨k,f,s⟩,rfl,S,q⟩:=h;refine⟨_,(@Av _ _ _ (Bb (@Dj _ _ _ _ _ (Aa (Ag Ec (Ag DX (Ai Aq (pv 0) Ad (λ_ _=>rfl)) Ad) Ad) (Aa (Ai Aq (pv 0) Ad (λ_ _=>rfl)) (Aa (Ai Aq (pv 0) Ad (λ_ _=>rfl)) Af)))))),?_⟩;try dsimp only[Bu]
 refine⟨_,O,p,_,_,.int k,O,O,S,k0,_,_,O,O,_,_,O,O,(by show (0:Int)<_;decide),_,O,p,_,_,.int f,O,O,S,k1,_,O,p,_,_,.int s,O,O,S,k2,t3,λr a=>q r _ (BW a _) (Ao.of ?_)⟩;rw[Az];have e:((k:Int)+2)%4=(((k+2)%4:Nat):Int):=by lia
 show some (HO.tup [.int (((k:Int)+2)%4),.int f,.int s])=_;rw[e]
theorem X0e(F:Ab K "moved_by_mix" (top 58) .none)(X:K.In h)(G:Ng h mg)(c9:Ar P w K mg base k "turned_about" ["mark"] (Yu K)):Ar P w K mg base (k+1) "moved_by_mix" ["mark","bit"] (sZ K):=by
 refine F.cal X G ["mark","bit","flips","signs","moved"] (bi:=Qk λ_ _ _ _ _ _ _ _=>rfl) (len:=λ_ _ _ _ h=>by obtain⟨_,_,_,_,rfl,_⟩:=h;rfl) λd H vs Q E j h=>?_;obtain⟨p,⟨k,f,s⟩,c,a,rfl,S,o,l,u,q⟩:=h;obtain⟨e1,e2,n⟩:=W1e (f:=f) (s:=s) l u o.f o.s
 refine⟨_,(@Eo _ _ _ _ _ (@BR _ _ 2 _ _ _ _ d rfl (Or.inl rfl) (Ag Ph (Ag Fg (Ai Aq (pv 0) Ad (λ_ _=>rfl)) (Ni xV (pv 1))) (Ag Fg (Ai Aq (pv 0) Ad (λ_ _=>rfl)) (pv 1))) rfl (.inl rfl))
  (@Eo _ _ _ _ _ (@BR _ _ 3 _ _ _ _ d rfl (Or.inl rfl) (Ag Ph (Ag Fg (Ai Aq (pv 0) Ad (λ_ _=>rfl)) (Ni xV (pv 1))) (Ag Fg (Ai Aq (pv 0) Ad (λ_ _=>rfl)) (pv 1))) rfl (.inl rfl))
  (@Aw _ _ _ _ _ (@BR _ _ 4 _ _ _ _ d rfl (Or.inl rfl) (@Dj _ _ _ _ _ (Aa (Ai Aq (pv 0) Ad (λ_ _=>rfl)) (Aa (pv 2) (Aa (pv 3) Af)))) rfl (.inl rfl))
  (@Av _ _ _ (Bb (Mj (Kd (Ag Fg (Ag Fg (pv 2) (pv 3)) (pv 1)) (by intro _;rfl)) (BP c9 j rfl (Aa (pv 4) Af)) (pv 4))))))),?_⟩
 try dsimp only[Bu]
 refine⟨λb H'=>H=H'/\b=[some (.ref p),some (.int ((2^a:Nat):Int)),some (.int (Jr a f s:Nat)),none,none],?_,?_⟩
 ·exact⟨_,O,p,_,_,.int f,O,O,S,k1,_,O,_,O,_,_,O,O,_,O,p,_,_,.int s,O,O,S,k2,_,O,_,_,O,O,_,_,O,O,O,by rw[<-e1];rfl⟩
 rintro b _ ⟨rfl,rfl⟩;refine⟨λb H'=>H=H'/\b=[some (.ref p),some (.int ((2^a:Nat):Int)),some (.int (Jr a f s:Nat)),some (.int (KJ a f s:Nat)),none],?_,?_⟩
 ·exact⟨_,O,p,_,_,.int s,O,O,S,k2,_,O,_,O,_,_,O,O,_,O,p,_,_,.int f,O,O,S,k1,_,O,_,_,O,O,_,_,O,O,O,by rw[<-e2];rfl⟩
 rintro b _ ⟨rfl,rfl⟩;refine⟨_,O,p,_,_,.int k,O,O,S,k0,_,O,_,O,t3,λt m=>?_⟩;have e:=BW m (.tup (Eh (k,Jr a f s,KJ a f s)));have g:Ao K (upd H t (.tup (Eh (k,Jr a f s,KJ a f s)))) t (Eh (k,Jr a f s,KJ a f s)):=Ao.of Az;refine⟨_,O,_,O,_,_,O,O,_,O,_,_,O,O,_,O,?_⟩;rw[tb2,n];refine Js (λz=>?_) (λz=>?_)
 ·refine⟨_,O,t,(k,Jr a f s,KJ a f s),O,g,λr H2 i h2=>q r H2 (e.trans i) ?_⟩;have:CZ (.mix (a:Int)) (k,f,s)=((k+2)%4,Jr a f s,KJ a f s):=by
   rw[rW,if_pos z]
  rw[this];exact h2
 ·refine⟨_,O,q t _ e ?_⟩;have:CZ (.mix (a:Int)) (k,f,s)=(k,Jr a f s,KJ a f s):=by
   rw[rW,if_neg (by rw[z];decide)]
  rw[this];exact g
theorem Y6q(F:Ab K "moved_by_turn" (top 59) .none)(X:K.In h)(G:Ng h mg):Ar P w K mg base (k+1) "moved_by_turn" ["mark","bit","k"] (uW K):=by
 refine F.cal X G ["mark","bit","k","signs"] (bi:=Qj λ_ _ _ _ _ _ _ _ _=>rfl) (len:=λ_ _ _ _ h=>by obtain⟨_,_,_,_,rfl,_⟩:=h;rfl) λd H vs Q E b h=>?_;obtain⟨p,⟨k,f,s⟩,a,j,rfl,S,q⟩:=h
 refine⟨_,(@Aw _ _ _ _ _ (CQ (Ij (Kd (Ag Fg (Ai Aq (pv 0) Ad (λ_ _=>rfl)) (pv 1)) (by intro _;rfl)))
   (@Av _ _ _ (Bb (pv 0)))
   CT)
  (@Eo _ _ _ _ _ (@BR _ _ 3 _ _ _ _ d rfl (Or.inl rfl) (Mj (Bx Cz (Ag Ec (pv 2) Ad) Ad (Ae _)) (Ag LK (Ai Aq (pv 0) Ad (λ_ _=>rfl)) (pv 1)) (Ai Aq (pv 0) Ad (λ_ _=>rfl))) rfl (.inl rfl))
  (@Av _ _ _ (Bb (@Dj _ _ _ _ _ (Aa (Ag Ec (Ag DX (Ai Aq (pv 0) Ad (λ_ _=>rfl)) (Ag Jd (pv 2) Ad)) Ad) (Aa (Ai Aq (pv 0) Ad (λ_ _=>rfl)) (Aa (pv 3) Af)))))))),?_⟩
 try dsimp only[Bu]
 refine⟨_,O,p,_,_,.int f,O,O,S,k1,_,O,_,_,O,O,_,O,?_⟩;rw[tb];rw[X0k]at q;refine Iv (λz=>?_) (λz=>?_)
 ·rw[if_neg (by rw[z];decide)]at q;exact⟨_,O,q p H (Same.refl _) S⟩
 rw[if_pos z]at q;refine⟨λc H'=>H=H'/\c=[some (.ref p),some (.int ((2^a:Nat):Int)),some (.int (j:Int)),some (.int ((if j%4=2 then fl s a else s:Nat):Int))],?_,?_⟩
 ·refine⟨_,O,_,_,O,O,(by show (0:Int)<_;decide),O,_,O,JZ (λy=>?_) (λy=>?_)⟩
  ·exact⟨_,O,p,_,_,.int s,O,O,S,k2,_,O,_,_,O,O,O,by rw[if_pos (by lia),<-xb];rfl⟩
  ·exact⟨_,O,p,_,_,.int s,O,O,S,k2,O,by rw[if_neg (by lia)];rfl⟩
 rintro c _ ⟨rfl,rfl⟩;refine⟨_,O,p,_,_,.int k,O,O,S,k0,_,O,_,_,O,O,⟨by decide,by decide⟩,_,_,O,O,_,_,O,O,(by show (0:Int)<_;decide),_,O,p,_,_,.int f,O,O,S,k1,_,O,t3,λr b=>q r _ (BW b _) (Ao.of ?_)⟩;rw[Az];have e:((k:Int)+(j:Int) / 2)%4=(((k+j / 2)%4:Nat):Int):=by lia
 show some (HO.tup [.int (((k:Int)+(j:Int) / 2)%4),.int f,.int ((if j%4=2 then fl s a else s:Nat):Int)])=_;rw[e]
theorem X5e(F:Ab K "moved_by_if" (top 60) .none)(X:K.In h)(G:Ng h mg):Ar P w K mg base (k+1) "moved_by_if" ["mark","bit","other"] (Kr K):=by
 refine F.cal X G ["mark","bit","other","flips","signs"] (bi:=Qj λ_ _ _ _ _ _ _ _ _=>rfl) (len:=λ_ _ _ _ h=>by obtain⟨_,_,_,_,rfl,_⟩:=h;rfl) λe H vs Q E d h=>?_;obtain⟨p,⟨k,f,s⟩,a,b,rfl,S,q⟩:=h;rw[X5n]at q
 refine⟨_,(@Eo _ _ _ _ _ (@BR _ _ 3 _ _ _ _ e rfl (Or.inl rfl) (Mj (Kd (Ag Fg (Ai Aq (pv 0) Ad (λ_ _=>rfl)) (pv 1)) (by intro _;rfl)) (Ag LK (Ai Aq (pv 0) Ad (λ_ _=>rfl)) (pv 2)) (Ai Aq (pv 0) Ad (λ_ _=>rfl))) rfl (.inl rfl))
  (@Eo _ _ _ _ _ (@BR _ _ 4 _ _ _ _ e rfl (Or.inl rfl) (Mj (Kd (Ag Fg (Ai Aq (pv 0) Ad (λ_ _=>rfl)) (pv 2)) (by intro _;rfl)) (Ag LK (Ai Aq (pv 0) Ad (λ_ _=>rfl)) (pv 1)) (Ai Aq (pv 0) Ad (λ_ _=>rfl))) rfl (.inl rfl))
  (@Av _ _ _ (Bb (@Dj _ _ _ _ _ (Aa (Ai Aq (pv 0) Ad (λ_ _=>rfl)) (Aa (pv 3) (Aa (pv 4) Af)))))))),?_⟩
 try dsimp only[Bu]
 refine⟨λc H'=>H=H'/\c=[some (.ref p),some (.int ((2^a:Nat):Int)),some (.int ((2^b:Nat):Int)),some (.int ((if f.testBit a then fl f b else f:Nat):Int)),none],?_,?_⟩
 ·refine⟨_,O,p,_,_,.int f,O,O,S,k1,_,O,_,_,O,O,_,O,?_⟩;rw[tb];refine Js (λz=>?_) (λz=>?_)
  ·exact⟨_,O,p,_,_,.int f,O,O,S,k1,_,O,_,_,O,O,O,by rw[if_pos z,<-xb];rfl⟩
  ·exact⟨_,O,p,_,_,.int f,O,O,S,k1,O,by rw[if_neg (by rw[z];decide)];rfl⟩
 rintro c _ ⟨rfl,rfl⟩;refine⟨λc H'=>H=H'/\c=[some (.ref p),some (.int ((2^a:Nat):Int)),some (.int ((2^b:Nat):Int)),some (.int ((if f.testBit a then fl f b else f:Nat):Int)),some (.int ((if s.testBit b then fl s a else s:Nat):Int))],?_,?_⟩
 ·refine⟨_,O,p,_,_,.int s,O,O,S,k2,_,O,_,_,O,O,_,O,?_⟩;rw[tb];refine Js (λz=>?_) (λz=>?_)
  ·exact⟨_,O,p,_,_,.int s,O,O,S,k2,_,O,_,_,O,O,O,by rw[if_pos z,<-xb];rfl⟩
  ·exact⟨_,O,p,_,_,.int s,O,O,S,k2,O,by rw[if_neg (show ¬ s.testBit b=true by rw[z];decide)];rfl⟩
 rintro c _ ⟨rfl,rfl⟩;exact⟨_,O,p,_,_,.int k,O,O,S,k0,_,O,_,O,t3,λr d=>q r _ (BW d _) (Ao.of Az)⟩
theorem Y6r(F:Ab K "moved_by_pair" (top 61) .none)(X:K.In h)(G:Ng h mg)(c9:Ar P w K mg base k "turned_about" ["mark"] (Yu K)):Ar P w K mg base (k+1) "moved_by_pair" ["mark","bit","other"] (uV K):=by
 refine F.cal X G ["mark","bit","other","signs","moved"] (bi:=Qj λ_ _ _ _ _ _ _ _ _=>rfl) (len:=λ_ _ _ _ h=>by obtain⟨_,_,_,_,rfl,_⟩:=h;rfl) λe H vs Q E l h=>?_;obtain⟨p,⟨k,f,s⟩,a,b,rfl,S,q⟩:=h;rw[X0l]at q
 refine⟨_,(@Aw _ _ _ _ _ (@BR _ _ 3 _ _ _ _ e rfl (Or.inl rfl) (Ai Aq (pv 0) Ad (λ_ _=>rfl)) rfl (.inl rfl))
  (@Eo _ _ _ _ _ (CQ (Kd (Ag Fg (Ai Aq (pv 0) Ad (λ_ _=>rfl)) (pv 1)) (by intro _;rfl))
   (@Av _ _ _ (@BR _ _ 3 _ _ _ _ e rfl (Or.inl rfl) (Ag LK (pv 3) (pv 2)) rfl (.inl rfl)))
   CT)
  (@Eo _ _ _ _ _ (CQ (Kd (Ag Fg (Ai Aq (pv 0) Ad (λ_ _=>rfl)) (pv 2)) (by intro _;rfl))
   (@Av _ _ _ (@BR _ _ 3 _ _ _ _ e rfl (Or.inl rfl) (Ag LK (pv 3) (pv 1)) rfl (.inl rfl)))
   CT)
  (@Aw _ _ _ _ _ (@BR _ _ 4 _ _ _ _ e rfl (Or.inl rfl) (@Dj _ _ _ _ _ (Aa (Ai Aq (pv 0) Ad (λ_ _=>rfl)) (Aa (Ai Aq (pv 0) Ad (λ_ _=>rfl)) (Aa (pv 3) Af)))) rfl (.inl rfl))
  (@Av _ _ _ (Bb (Mj (PW.pt (Ma (Kd (Ag Fg (Ai Aq (pv 0) Ad (λ_ _=>rfl)) (pv 1)) (by intro _;rfl)) (Nt (Kd (Ag Fg (Ai Aq (pv 0) Ad (λ_ _=>rfl)) (pv 2)) (by intro _;rfl))))) (BP c9 l rfl (Aa (pv 4) Af)) (pv 4)))))))),?_⟩
 try dsimp only[Bu]
 refine⟨_,O,p,_,_,.int s,O,O,S,k2,?_⟩;refine⟨λc H'=>H=H'/\c=[some (.ref p),some (.int ((2^a:Nat):Int)),some (.int ((2^b:Nat):Int)),some (.int ((if f.testBit a then fl s b else s:Nat):Int)),none],?_,?_⟩
 ·refine⟨_,O,p,_,_,.int f,O,O,S,k1,_,O,_,_,O,O,_,O,?_⟩;rw[tb];refine Js (λz=>?_) (λz=>?_)
  ·exact⟨_,O,_,O,_,_,O,O,O,by rw[if_pos z,<-xb];rfl⟩
  ·exact⟨O,by rw[if_neg (by rw[z];decide)];rfl⟩
 rintro c _ ⟨rfl,rfl⟩;refine⟨λc H'=>H=H'/\c=[some (.ref p),some (.int ((2^a:Nat):Int)),some (.int ((2^b:Nat):Int)),some (.int (Ou a b f s:Nat)),none],?_,?_⟩
 ·refine⟨_,O,p,_,_,.int f,O,O,S,k1,_,O,_,_,O,O,_,O,?_⟩;rw[tb];refine Js (λz=>?_) (λz=>?_)
  ·exact⟨_,O,_,O,_,_,O,O,O,by rw[Ou,if_pos z,<-xb];rfl⟩
  ·exact⟨O,by rw[Ou,if_neg (show ¬ f.testBit b=true by rw[z];decide)]⟩
 rintro c _ ⟨rfl,rfl⟩;refine⟨_,O,p,_,_,.int k,O,O,S,k0,_,O,p,_,_,.int f,O,O,S,k1,_,O,t3,λt m=>?_⟩;have d:=BW m (.tup (Eh (k,f,Ou a b f s)));have g:Ao K (upd H t (.tup (Eh (k,f,Ou a b f s)))) t (Eh (k,f,Ou a b f s)):=Ao.of Az;have i:=d.tup S;refine⟨_,O,p,_,_,.int f,O,O,i,k1,_,O,_,_,O,O,_,O,?_⟩;rw[tb];refine Js (λz=>?_) (λz=>?_)
 ·refine⟨_,O,p,_,_,.int f,O,O,i,k1,_,O,_,_,O,O,_,O,?_⟩;rw[tb];refine Js (λy=>?_) (λy=>?_)
  ·rw[if_pos (by rw[z,y];rfl)]at q;exact⟨_,O,t,(k,f,Ou a b f s),O,g,λr H2 j h2=>q r H2 (d.trans j) h2⟩
  ·rw[if_neg (by rw[z,y];decide)]at q;exact⟨_,O,q t _ d g⟩
 ·rw[if_neg (by rw[z];simp)]at q;exact CP ⟨_,O,q t _ d g⟩
end
end A_
namespace A_
open L2 Ba Am Pc Eu
open Al (top Bs Gr)
open Ce (fl sw DG)
open Dp (Mk CZ Br)
def qL (K:U0):Sp:=λvs H Q _=>∃(p q:Y1) (m:Mk) (x:Mv) (c:Nat),vs=[.ref p,.ref q]/\Ao K H p (Eh m)/\H q=some (mT (mm x))/\Ik c m/\c<=6/\DG c x/\Br x/\Tj K H Q (CZ x m)
theorem at0{x:V}{xs:List V}:GC (x::xs) 0=some x:=L2.Mf (j:=0) rfl
theorem uT{a:Int}(h0:0<=a):(1:Int)*2^a.toNat=((2^a.toNat:Nat):Int):=by simp
theorem X0m(a k f s:Nat):CZ (.flip (a:Int)) (k,f,s)=(if s.testBit a then (k+2)%4 else k,f,s):=rfl
theorem Sw{H:Hp}:∀{ps:U3}{ms:List Mm},DQ H ps ms->ps.length=ms.length
 | [],[],.nil=>rfl
 | _::_,_::_,.cons _ r=>by rw[J9,J9,Sw r]
theorem Wo{H:Hp}:∀{ps:U3}{row:List Mv}{i:Nat}{p:Y1},DQ H ps (row.map mm)->ps[i]?=some p->∃m,row[i]?=some m/\H p=some (mT (mm m))
 | p'::ps,m::ms,0,p,.cons a r,h=>by
  have:p'=p:=by simpa using h
  subst this;exact⟨m,O,a⟩
 | p'::ps,m::ms,i+1,p,.cons a r,h=>by
  obtain⟨d,b,c⟩:=Wo (ps:=ps) (row:=ms) (i:=i) (p:=p) r (by simpa using h);exact⟨d,b,c⟩
section
variable {P:U8}{w:W3}{K:U0}{mg:U4}{base:Heap}{k:Nat}{h:Heap}
theorem Y4b(F:Ab K "moved_by" (top 57) .none)(X:K.In h)(G:Ng h mg)(c9:Ar P w K mg base k "turned_about" ["mark"] (Yu K))(d9:Ar P w K mg base k "moved_by_mix" ["mark","bit"] (sZ K))(cX:Ar P w K mg base k "moved_by_turn" ["mark","bit","k"] (uW K))
  (dB:Ar P w K mg base k "moved_by_if" ["mark","bit","other"] (Kr K)) (cW:Ar P w K mg base k "moved_by_pair" ["mark","bit","other"] (uV K)) (cD:Ar P w K mg base k "exchanged" ["word","bit","other"] Gr):Ar P w K mg base (k+1) "moved_by" ["mark","move"] (qL K):=by
 refine F.cal X G ["mark","move","bit","other"] (bi:=Qk λ_ _ _ _ _ _ _ _=>rfl) (len:=λ_ _ _ _ h=>by obtain⟨_,_,_,_,_,rfl,_⟩:=h;rfl) λy H vs Q E m h=>?_;obtain⟨p,q,⟨k,f,s⟩,x,c,rfl,S,I,o,n,ok,L,l⟩:=h;have SP:Ao K H q (.str (nm x)::(ns x).map V.int):=Ao.of I;obtain⟨g0,g1⟩:0<=hd x/\hd x<(c:Int):=by
  obtain⟨r,e⟩:=Y4p x;have B:hd x∈x.cells:=by rw[e];exact .head _
  exact⟨ok.1.nn _ B,ok.2 _ B⟩
 refine⟨_,(@Eo _ _ _ _ _ (@BR _ _ 2 _ _ _ _ y rfl (Or.inl rfl) (Ag Hy Ad (Ai Aq (pv 1) Ad (λ_ _=>rfl))) rfl (.inl rfl))
  (@Aw _ _ _ _ _ (CQ (Bx Cz (Ai Aq (pv 1) Ad (λ_ _=>rfl)) Ej (Ae _))
   (@Av _ _ _ (Bb (Mj (Kd (Ag Fg (Ai Aq (pv 0) Ad (λ_ _=>rfl)) (pv 2)) (by intro _;rfl)) (BP c9 m rfl (Aa (pv 0) Af)) (pv 0))))
   CT)
  (@Aw _ _ _ _ _ (CQ (Bx Cz (Ai Aq (pv 1) Ad (λ_ _=>rfl)) Ej (Ae _))
   (@Av _ _ _ (Bb (BP d9 m rfl (Aa (pv 0) (Aa (pv 2) Af)))))
   CT)
  (@Aw _ _ _ _ _ (CQ (Bx Cz (Ai Aq (pv 1) Ad (λ_ _=>rfl)) Ej (Ae _))
   (@Av _ _ _ (Bb (BP cX m rfl (Aa (pv 0) (Aa (pv 2) (Aa (Ai Aq (pv 1) Ad (λ_ _=>rfl)) Af))))))
   CT)
  (@Eo _ _ _ _ _ (@BR _ _ 3 _ _ _ _ y rfl (Or.inl rfl) (Ag Hy Ad (Ai Aq (pv 1) Ad (λ_ _=>rfl))) rfl (.inl rfl))
  (@Aw _ _ _ _ _ (CQ (Bx Cz (Ai Aq (pv 1) Ad (λ_ _=>rfl)) Ej (Ae _))
   (@Av _ _ _ (Bb (BP dB m rfl (Aa (pv 0) (Aa (pv 2) (Aa (pv 3) Af))))))
   CT)
  (@Aw _ _ _ _ _ (CQ (Bx Cz (Ai Aq (pv 1) Ad (λ_ _=>rfl)) Ej (Ae _))
   (@Av _ _ _ (Bb (BP cW m rfl (Aa (pv 0) (Aa (pv 2) (Aa (pv 3) Af))))))
   CT)
  (@Av _ _ _ (Bb (@Dj _ _ _ _ _ (Aa (Ai Aq (pv 0) Ad (λ_ _=>rfl)) (Aa (BP cD m rfl (Aa (Ai Aq (pv 0) Ad (λ_ _=>rfl)) (Aa (pv 2) (Aa (pv 3) Af)))) (Aa (BP cD m rfl (Aa (Ai Aq (pv 0) Ad (λ_ _=>rfl)) (Aa (pv 2) (Aa (pv 3) Af)))) Af))))))))))))),?_⟩
 try dsimp only[Bu]
 refine⟨λi H'=>H=H'/\i=[some (.ref p),some (.ref q),some (.int ((2^(hd x).toNat:Nat):Int)),none],?_,?_⟩
 ·exact⟨_,O,q,_,_,.int (hd x),O,O,SP,jo x,_,_,O,O,⟨1,Ie,by omega,by lia⟩,O,by rw[<-uT g0];rfl⟩
 rintro i _ ⟨rfl,rfl⟩;cases x with
 | flip a =>
  obtain⟨A,rfl⟩:∃A:Nat,a=(A:Int):=⟨a.toNat,(tn g0).symm⟩;rw[X0m]at l;refine⟨_,O,q,_,_,.str "flip",O,O,SP,at0,O,_,O,Ay (λ_=>?_) (λz=>absurd rfl z)⟩;refine⟨_,O,p,_,_,.int s,O,O,S,k2,_,O,_,_,O,O,_,O,?_⟩;show (if (Builtin.bitAnd (s:Int) ((2^A:Nat):Int) != 0)=true then _ else _);rw[tb];refine Js (λz=>?_) (λz=>?_)
  ·rw[if_pos z]at l;exact⟨_,O,p,(k,f,s),O,S,l⟩
  ·rw[if_neg (by rw[z];decide)]at l;exact⟨_,O,l p H (Same.refl _) S⟩
 | mix a =>
  obtain⟨A,rfl⟩:∃A:Nat,a=(A:Int):=⟨a.toNat,(tn g0).symm⟩;refine⟨_,O,q,_,_,.str "mix",O,O,SP,at0,O,_,O,Ay (λz=>absurd (V.str.inj z) (by decide)) (λ_=>?_)⟩;refine⟨_,O,q,_,_,.str "mix",O,O,SP,at0,O,_,O,Ay (λ_=>?_) (λz=>absurd rfl z)⟩;exact⟨_,O,_,O,p,(k,f,s),c,A,O,S,o,n,by have:(A:Int)<c:=g1;lia,l⟩
 | turn a j =>
  have g:0<=a/\1<=j/\j<=7:=ok.1;obtain⟨A,rfl⟩:∃A:Nat,a=(A:Int):=⟨a.toNat,(tn g0).symm⟩;obtain⟨J,rfl⟩:∃J:Nat,j=(J:Int):=⟨j.toNat,(tn (by lia)).symm⟩;refine⟨_,O,q,_,_,.str "turn",O,O,SP,at0,O,_,O,Ay (λz=>absurd (V.str.inj z) (by decide)) (λ_=>?_)⟩;refine⟨_,O,q,_,_,.str "turn",O,O,SP,at0,O,_,O,Ay (λz=>absurd (V.str.inj z) (by decide)) (λ_=>?_)⟩;refine⟨_,O,q,_,_,.str "turn",O,O,SP,at0,O,_,O,Ay (λ_=>?_) (λz=>absurd rfl z)⟩;exact⟨_,O,_,O,_,O,q,_,_,.int J,O,O,SP,k2,p,(k,f,s),A,J,O,S,l⟩
 | iff a b =>
  have g:0<=a/\0<=b/\a≠b:=ok.1;have v:b<(c:Int):=ok.2 b (by simp[Mv.cells]);obtain⟨A,rfl⟩:∃A:Nat,a=(A:Int):=⟨a.toNat,(tn g0).symm⟩;obtain⟨J,rfl⟩:∃J:Nat,b=(J:Int):=⟨b.toNat,(tn g.2.1).symm⟩;refine⟨_,O,q,_,_,.str "if",O,O,SP,at0,O,_,O,Ay (λz=>absurd (V.str.inj z) (by decide)) (λ_=>?_)⟩;refine⟨_,O,q,_,_,.str "if",O,O,SP,at0,O,_,O,Ay (λz=>absurd (V.str.inj z) (by decide)) (λ_=>?_)⟩;refine⟨_,O,q,_,_,.str "if",O,O,SP,at0,O,_,O,Ay (λz=>absurd (V.str.inj z) (by decide)) (λ_=>?_)⟩;refine⟨λi H'=>H=H'/\i=[some (.ref p),some (.ref q),some (.int ((2^A:Nat):Int)),some (.int ((2^J:Nat):Int))],?_,?_⟩
  ·exact⟨_,O,q,_,_,.int J,O,O,SP,k2,_,_,O,O,⟨1,Ie,by lia,by lia⟩,O,by rw[<-ipow J];rfl⟩
  rintro i _ ⟨rfl,rfl⟩;refine⟨_,O,q,_,_,.str "if",O,O,SP,at0,O,_,O,Ay (λ_=>?_) (λz=>absurd rfl z)⟩;exact⟨_,O,_,O,_,O,p,(k,f,s),A,J,O,S,l⟩
 | pair a b =>
  have g:0<=a/\0<=b/\a≠b:=ok.1;have v:b<(c:Int):=ok.2 b (by simp[Mv.cells]);obtain⟨A,rfl⟩:∃A:Nat,a=(A:Int):=⟨a.toNat,(tn g0).symm⟩;obtain⟨J,rfl⟩:∃J:Nat,b=(J:Int):=⟨b.toNat,(tn g.2.1).symm⟩;refine⟨_,O,q,_,_,.str "pair",O,O,SP,at0,O,_,O,Ay (λz=>absurd (V.str.inj z) (by decide)) (λ_=>?_)⟩;refine⟨_,O,q,_,_,.str "pair",O,O,SP,at0,O,_,O,Ay (λz=>absurd (V.str.inj z) (by decide)) (λ_=>?_)⟩;refine⟨_,O,q,_,_,.str "pair",O,O,SP,at0,O,_,O,Ay (λz=>absurd (V.str.inj z) (by decide)) (λ_=>?_)⟩;refine⟨λi H'=>H=H'/\i=[some (.ref p),some (.ref q),some (.int ((2^A:Nat):Int)),some (.int ((2^J:Nat):Int))],?_,?_⟩
  ·exact⟨_,O,q,_,_,.int J,O,O,SP,k2,_,_,O,O,⟨1,Ie,by lia,by lia⟩,O,by rw[<-ipow J];rfl⟩
  rintro i _ ⟨rfl,rfl⟩;refine⟨_,O,q,_,_,.str "pair",O,O,SP,at0,O,_,O,Ay (λz=>absurd (V.str.inj z) (by decide)) (λ_=>?_)⟩;refine⟨_,O,q,_,_,.str "pair",O,O,SP,at0,O,_,O,Ay (λ_=>?_) (λz=>absurd rfl z)⟩;exact⟨_,O,_,O,_,O,p,(k,f,s),A,J,O,S,l⟩
 | swap a b =>
  have g:0<=a/\0<=b/\a≠b:=ok.1;have v:b<(c:Int):=ok.2 b (by simp[Mv.cells]);obtain⟨A,rfl⟩:∃A:Nat,a=(A:Int):=⟨a.toNat,(tn g0).symm⟩;obtain⟨J,rfl⟩:∃J:Nat,b=(J:Int):=⟨b.toNat,(tn g.2.1).symm⟩;refine⟨_,O,q,_,_,.str "swap",O,O,SP,at0,O,_,O,Ay (λz=>absurd (V.str.inj z) (by decide)) (λ_=>?_)⟩;refine⟨_,O,q,_,_,.str "swap",O,O,SP,at0,O,_,O,Ay (λz=>absurd (V.str.inj z) (by decide)) (λ_=>?_)⟩;refine⟨_,O,q,_,_,.str "swap",O,O,SP,at0,O,_,O,Ay (λz=>absurd (V.str.inj z) (by decide)) (λ_=>?_)⟩;refine⟨λi H'=>H=H'/\i=[some (.ref p),some (.ref q),some (.int ((2^A:Nat):Int)),some (.int ((2^J:Nat):Int))],?_,?_⟩
  ·exact⟨_,O,q,_,_,.int J,O,O,SP,k2,_,_,O,O,⟨1,Ie,by lia,by lia⟩,O,by rw[<-ipow J];rfl⟩
  rintro i _ ⟨rfl,rfl⟩;refine⟨_,O,q,_,_,.str "swap",O,O,SP,at0,O,_,O,Ay (λz=>absurd (V.str.inj z) (by decide)) (λ_=>?_)⟩;refine⟨_,O,q,_,_,.str "swap",O,O,SP,at0,O,_,O,Ay (λz=>absurd (V.str.inj z) (by decide)) (λ_=>?_)⟩;have C:A<c:=by have:(A:Int)<c:=g1;lia
  have t:J<c:=by lia
  have ne:A≠J:=λz=>g.2.2 (by rw[z]);refine⟨_,O,p,_,_,.int k,O,O,S,k0,_,O,p,_,_,.int f,O,O,S,k1,_,O,_,O,f,A,J,O,λH1 u=>?_⟩;refine⟨_,O,p,_,_,.int s,O,O,u.tup S,k2,_,O,_,O,s,A,J,O,λH2 D=>⟨t3,λr m=>l r _ ((u.trans D).trans (BW m _)) (Ao.of ?_)⟩⟩;rw[Az,(TQ n C t ne o.f).1,(TQ n C t ne o.s).1];rfl
 | cross a b d=>exact absurd L id
end
end A_
namespace A_
open L2 Ba Am Pc Eu
open Al (top Bs)
open Ce (fl sw DG)
open Dp (Mk CZ Br)
noncomputable def Fj:Mv->Bool
 | .turn _ j=>decide (V.int (j%2)=V.int 1)
 | _=>false
noncomputable def qG:Mv->Bool
 | .cross _ _ _=>false
 | x=>!Fj x
def JL:Sp:=λvs H Q _=>∃(p:Y1) (x:Mv),vs=[.ref p]/\H p=some (mT (mm x))/\Q (.bl (Fj x)) H
variable{x:Mv}
theorem Wg(e:nm x="turn"):∃a j,x=.turn a j:=by
 have:=(X5w x).mp e;cases x<;>first | exact⟨_,_,O⟩ | simp[code]at this
theorem Ys(e:nm x≠"turn"):Fj x=false:=by cases x<;>first | rfl | exact absurd rfl e
theorem W0j(e:nm x≠"cross"):qG x=!Fj x:=by cases x<;>first | rfl | exact absurd rfl e
theorem W0k(o:Ce.Ok x):qG x=true↔Br x:=by
 cases x with
 | turn a j =>
  have:0<=a/\1<=j/\j<=7:=o;show (!decide (V.int (j%2)=V.int 1))=true↔j.toNat%2=0;by_cases h:j%2=1
  ·rw[Cj (by rw[h])];simp;lia
  ·rw[Cd (λz=>h (V.int.inj z))];simp;lia
 | cross a b d=>exact⟨λz=>(nomatch z),λz=>z.elim⟩
 | _=>exact⟨λ_=>trivial,λ_=>rfl⟩
noncomputable def oV:Option Nat->V
 | none=>.non
 | some n=>.int n
section
variable {P:U8}{w:W3}{K:U0}{mg:U4}{base:Heap}{k:Nat}{h:Heap}
theorem X8k(F:Ab K "is_odd_turn" (top 56) .none)(X:K.In h)(G:Ng h mg):Ar P w K mg base (k+1) "is_odd_turn" ["move"] JL:=by
 refine F.cal X G ["move"] (bi:=Ql λ_ _ _ _ _ _ _=>rfl) (len:=λ_ _ _ _ h=>by obtain⟨_,_,rfl,_⟩:=h;rfl) λb H vs Q E c h=>?_;obtain⟨p,x,rfl,hp,q⟩:=h;have SP:Ao K H p (.str (nm x)::(ns x).map V.int):=Ao.of hp;refine⟨_,(@Av _ _ _ (Bb (KZ (GX Cz (Ai Aq (pv 0) Ad (λ_ _=>rfl)) Ej (Ae _)) (Jt (GX Cz (Ag Ec (Ai Aq (pv 0) Ad (λ_ _=>rfl)) Ad) Ad (Ae _)))))),?_⟩;try dsimp only[Bu]
 refine⟨_,O,p,_,_,.str (nm x),O,O,SP,Hu x,O,?_⟩;by_cases e:nm x="turn"
 ·obtain⟨a,j,rfl⟩:=Wg e;exact⟨_,O,Ay (λ_=>⟨_,O,p,_,_,.int j,O,O,SP,k2,_,_,O,O,(by show (0:Int)<_;decide),O,q⟩) (λz=>absurd rfl z)⟩
 ·refine⟨_,O,Ay (λz=>absurd (V.str.inj z) e) (λ_=>?_)⟩;rw[Ys e]at q;exact q
end
end A_
namespace A_
open L2 Ba Am Pc Eu
open Al (top Bs Ez BX Bh Lb S_ Qy Mt j5)
open Ce (fl sw DG V4 En sm Aj)
open Dp (Mk CZ Br lay bn bp)
noncomputable abbrev layW (m:Mk)(f:Nat->A5)(w:Nat):A5:=Dw (f (w^^^m.2.1)) ((2*m.1+4*pc ((w^^^m.2.1)&&&m.2.2):Nat):Int)
def Km (K:U0):Sp:=λvs H Q _=>∃(l p:Y1) (ps:U3) (f:Nat->A5) (c n M:Nat) (m:Mk),vs=[.ref l,.ref p]/\Ez K H l ps f c n M/\c<=6/\Ao K H p (Eh m)/\Ik c m /\
 ∀(r:Y1) (H':Hp) (qs:U3),H r=none->Same H H'->Ez K H' r qs (layW m f) c n M->Q (.ref r) H'
theorem X3x(n:Nat)(x:V4):Ba.Bm n x=En n x:=by
 induction n with
 | zero=>rfl
 | succ n ih=>show Ce.E (Ba.Bm n x)=Ce.E (En n x);rw[ih]
theorem X8z{c n:Nat}{m:Mk}{F:Ce.Bv}{f:Nat->A5}(o:Ik c m)(h:∀w,w<2^c->Vl n (F w) (f w)):∀w,w<2^c->Vl n (lay m F w) (layW m f w):=by
 intro w g;have d:=h (w^^^m.2.1) (Ol g o.f);have q:=d.Bm ((((2*m.1+4*pc ((w^^^m.2.1)&&&m.2.2):Nat):Int)%8).toNat);have e:lay m F w=En ((((2*m.1+4*pc ((w^^^m.2.1)&&&m.2.2):Nat):Int)%8).toNat) (F (w^^^m.2.1)):=by
  unfold lay;refine Dp.TJ ?_ _;have b:bn (bp ((w^^^m.2.1)&&&m.2.2))=pc ((w^^^m.2.1)&&&m.2.2)%2:=by
   unfold bp bn;rcases Jp (pc ((w^^^m.2.1)&&&m.2.2)) with a | a<;>rw[a]<;>rfl
  rw[b];lia
 rw[e];exact q
theorem WY{x y:Nat}:[V.int (Builtin.bitAnd (x:Int) (y:Int))]=[V.int ((x&&&y:Nat):Int)]:=by rw[KR]
section
variable {P:U8}{w:W3}{K:U0}{mg:U4}{base:Heap}{k:Nat}{h:Heap}
theorem X4w(F:Ab K "ones" (top 29) .none)(X:K.In h)(G:Ng h mg):Ar P w K mg base (k+1) "ones" ["number"] E_:=by
 refine F.cal X G ["number","many","rest"] (bi:=Ql λ_ _ _ _ _ _ _=>rfl) (len:=λ_ _ _ _ h=>by obtain⟨_,rfl,_⟩:=h;rfl) λa H vs Q E f h=>?_;obtain⟨n,rfl,q⟩:=h
 refine⟨_,(@Aw _ _ _ _ _ (@BR _ _ 1 _ _ _ _ a rfl (Or.inl rfl) Ad rfl (.inl rfl))
  (@Aw _ _ _ _ _ (@BR _ _ 2 _ _ _ _ a rfl (Or.inl rfl) (pv 0) rfl (.inl rfl))
  (@Aw _ _ _ _ _ (Wn PassesOwn.never (Bx LC (pv 2) Ad (Ae _))
   (@Aw _ _ _ _ _ (@BR _ _ 2 _ _ _ _ a rfl (Or.inl rfl) (Ag Fg (pv 2) (Ag Ii (pv 2) Ad)) rfl (.inl rfl))
   (@Av _ _ _ (@BR _ _ 1 _ _ _ _ a rfl (Or.inl rfl) (Ag DX (pv 1) Ad) rfl (.inl rfl)))))
  (@Av _ _ _ (Bb (pv 1)))))),?_⟩
 try dsimp only[Bu]
 refine⟨_,O,λm σ H'=>H'=H/\∃j r:Nat,m=pc r/\j+pc r=pc n/\σ=[some (.int n),some (.int j),some (.int r)],⟨_,O,0,n,O,Gv _,O⟩,?_⟩;rintro m σ H' ⟨rfl,j,r,rfl,d,rfl⟩;refine⟨_,O,O,_,O,Ov (λc=>?_) (λc=>?_)⟩
 ·have b:r≠0:=by lia
  have e:=sE (r+1) r (by lia) b;refine⟨_,λg H' x=>x,?_⟩;refine⟨_,O,_,O,_,_,O,O,_,_,O,O,?_⟩;refine⟨_,O,_,_,O,O,⟨pc (r&&&(r-1)),by lia,O,j+1,r&&&(r-1),O,by lia,?_⟩⟩;have e2:Builtin.bitAnd (r:Int) ((r:Int)-1)=((r&&&(r-1):Nat):Int):=by rw[show (r:Int)-1=((r-1:Nat):Int) by lia,KR]
  show [some (V.int n),some (V.int ((j:Int)+1)),some (V.int (Builtin.bitAnd (r:Int) ((r:Int)-1)))]=_;rw[e2];rfl
 ·have b:r=0:=by lia
  subst b;rw[Wa,P_]at d;subst d;exact⟨_,O,q⟩
end
end A_
set_option maxHeartbeats 1000000
namespace Dp
open Eu Eu.Mv Ce Pc
end Dp
namespace Xd
open Eu Mv Ce Dp
noncomputable def bk:Mv->Mv
 | .turn a j=>.turn a (8-j)
 | x=>x
theorem Qc{k:Nat}(h:k<4):((k+2)%4+2)%4=k:=by omega
variable{x:Mv}
theorem lX(o:Ok x)(b:Br x){m:Mk}(h:m.1<4):CZ (bk x) (CZ x m)=m:=by
 obtain⟨k,f,s⟩:=m;have h:k<4:=h;cases x with
 | flip a =>
  show (if s.testBit a.toNat then ((if s.testBit a.toNat then (k+2)%4 else k)+2)%4 else (if s.testBit a.toNat then (k+2)%4 else k),f,s)=_;by_cases c:s.testBit a.toNat=true
  ·simp only[c,J0];rw[Qc h]
  ·simp only[c,Ir];simp
 | mix a =>
  by_cases c:f.testBit a.toNat=true<;>by_cases d:s.testBit a.toNat=true<;>(delta bk CZ;simp[c,d,kI,Ce.K9,Qc h])
 | turn a j =>
  obtain⟨g,r,q⟩:0<=a/\1<=j/\j<=7:=o;have b:j.toNat%2=0:=b;have p:j=2\/j=4\/j=6:=by lia
  by_cases c:f.testBit a.toNat=true
  ·rcases p with rfl | rfl | rfl<;>(delta bk CZ;simp[c,Ce.K9])<;>lia
  ·(delta bk CZ;simp[c])
 | iff a b' =>
  obtain⟨g,i,n⟩:0<=a/\0<=b'/\a≠b':=o;have e:a.toNat≠b'.toNat:=by lia
  by_cases c:f.testBit a.toNat=true<;>by_cases d:s.testBit b'.toNat=true<;>(delta bk CZ;simp[c,d,Pg e,Pg e.symm,Ce.K9])
 | pair a b' =>
  obtain⟨g,i,n⟩:0<=a/\0<=b'/\a≠b':=o;have l:∀w,fl (fl w a.toNat) b'.toNat=fl (fl w b'.toNat) a.toNat:=λw=>by
   unfold fl;rw[J5,Nat.xor_comm (2^a.toNat),<-J5]
  by_cases c:f.testBit a.toNat=true<;>by_cases d:f.testBit b'.toNat=true<;>(delta bk CZ;simp[c,d,Ce.K9,l,Qc h])
 | swap a b' =>
  obtain⟨g,i,n⟩:0<=a/\0<=b'/\a≠b':=o;have e:a.toNat≠b'.toNat:=by lia
  (delta bk CZ;simp[nJ e])
 | cross a b' d=>exact b.elim
theorem Zf{c:Nat}(o:DG c x):DG c (bk x):=by
 cases x with
 | turn a j =>
  obtain⟨⟨b,e,d⟩,h⟩:=o;exact⟨⟨b,by lia,by lia⟩,h⟩
 | _=>exact o
theorem Wu(o:Ok x)(b:Br x):Br (bk x):=by
 cases x with
 | turn a j =>
  obtain⟨d,e,c⟩:0<=a/\1<=j/\j<=7:=o;have b:j.toNat%2=0:=b;show (8-j).toNat%2=0;lia
 | _=>exact b
end Xd
namespace Cw
open Eu Mv Ce Dp Xd Pc
noncomputable def mul (x y:V4):V4:=(x.1*y.1-x.2.1*y.2.2.2-x.2.2.1*y.2.2.1-x.2.2.2*y.2.1,x.1*y.2.1+x.2.1*y.1-x.2.2.1*y.2.2.2-x.2.2.2*y.2.2.1,
 x.1*y.2.2.1+x.2.1*y.2.1+x.2.2.1*y.1-x.2.2.2*y.2.2.2,x.1*y.2.2.2+x.2.1*y.2.2.1+x.2.2.1*y.2.1+x.2.2.2*y.1)
noncomputable def z0:V4:=(0,0,0,0)
noncomputable def one:V4:=(1,0,0,0)
theorem mul_add(v x y:V4):mul v (add x y)=add (mul v x) (mul v y):=by apply ext<;>simp only[mul,add]<;>grind
theorem add_mul(v x y:V4):mul (add x y) v=add (mul x v) (mul y v):=by apply ext<;>simp only[mul,add]<;>grind
theorem O_(n:Int)(v x:V4):mul v (sm n x)=sm n (mul v x):=by apply ext<;>simp only[mul,sm]<;>grind
theorem Qs(n:Int)(v x:V4):mul (sm n v) x=sm n (mul v x):=by apply ext<;>simp only[mul,sm]<;>grind
theorem W1h(v x:V4):mul v (E x)=E (mul v x):=by apply ext<;>simp only[mul,E]<;>grind
theorem W2t(v x:V4):mul (E v) x=E (mul v x):=by apply ext<;>simp only[mul,E]<;>grind
theorem X0n(v x:V4):mul v (root x)=root (mul v x):=by apply ext<;>simp only[mul,root]<;>grind
theorem mul_assoc(x y v:V4):mul (mul x y) v=mul x (mul y v):=by apply ext<;>simp only[mul]<;>grind
theorem XJ(v x:V4):∀n,mul v (En n x)=En n (mul v x)
 | 0=>rfl
 | n+1=>by show mul v (E (En n x))=E (En n (mul v x));rw[W1h,XJ v x n]
theorem XC(v x:V4):∀n,mul (En n v) x=En n (mul v x)
 | 0=>rfl
 | n+1=>by show mul (E (En n v)) x=E (En n (mul v x));rw[W2t,XC v x n]
theorem one_mul(x:V4):mul one x=x:=by apply ext<;>simp only[mul,one]<;>lia
theorem W_(x:V4):mul z0 x=z0:=by apply ext<;>simp only[mul,z0]<;>lia
theorem Q6(x:V4):add x z0=x:=by apply ext<;>simp only[add,z0]<;>lia
theorem ZQ(x:V4):add z0 x=x:=by apply ext<;>simp only[add,z0]<;>lia
theorem ZC(x y v:V4):add (add x y) v=add x (add y v):=by apply ext<;>simp only[add]<;>lia
theorem X1l(x y v:V4):add x (add y v)=add y (add x v):=by apply ext<;>simp only[add]<;>lia
abbrev Te:=V4×Mk
noncomputable def ts:List Te->Bv->Bv
 | [],_=>λ_=>z0
 | t::r,F=>λw=>add (mul t.1 (lay t.2 F w)) (ts r F w)
theorem Qt(F:Bv)(w:Nat):∀a b:List Te,ts (a++b) F w=add (ts a F w) (ts b F w)
 | [],b=>(ZQ _).symm
 | t::a,b=>by
  show add _ (ts (a++b) F w)=add (add _ (ts a F w)) (ts b F w);rw[Qt F w a b,ZC]
theorem X3i(F:Bv)(w:Nat){a b:List Te}(p:a.Perm b):ts a F w=ts b F w:=by
 induction p with
 | nil=>rfl
 | cons x _ ih=>show add _ _=add _ _;rw[ih]
 | swap x y l=>show add _ (add _ _)=add _ (add _ _);rw[X1l]
 | trans _ _ h1 h2=>rw[h1,h2]
theorem DX(x:Mv)(G G':Bv)(w:Nat):op x (λw=>add (G w) (G' w)) w=add (op x G w) (op x G' w):=by
 by_cases h:Fy x=true
 ·cases x with
  | mix a =>
   show root (add (sm _ (add _ _)) (add _ _))=add (root (add _ _)) (root (add _ _));rw[<-Y9f];congr 1;apply ext<;>simp only[add,sm]<;>grind
  | _=>cases h
 ·have h:Fy x=false:=by simpa using h
  rw[Pa h,Pa h,Pa h,ZR,lu]
theorem JB(x:Mv)(v:V4)(G:Bv)(w:Nat):op x (λw=>mul v (G w)) w=mul v (op x G w):=by
 by_cases h:Fy x=true
 ·cases x with
  | mix a =>
   show root (add (sm _ (mul v _)) (mul v _))=mul v (root (add _ _));rw[X0n,mul_add,O_]
  | _=>cases h
 ·have h:Fy x=false:=by simpa using h
  rw[Pa h,Pa h,O_,XJ]
theorem QZ(x:Mv)(w:Nat):op x (λ_=>z0) w=z0:=by
 have:=JB x z0 (λ_=>z0) w;rw[W_]at this;rw[this,W_]
theorem vM(x:Mv)(F:Bv)(w:Nat)(t:Te)(r:List Te):op x (ts (t::r) F) w=add (mul t.1 (op x (lay t.2 F) w)) (op x (ts r F) w):=by
 show op x (λw=>add ((λw=>mul t.1 (lay t.2 F w)) w) (ts r F w)) w=_;rw[DX,JB]
variable{x:Mv}
theorem W2s(o:Ok x):bk (bk x)=x:=by
 cases x with
 | turn a j =>
  show turn a (8-(8-j))=turn a j;rw[show 8-(8-j)=j by lia]
 | _=>rfl
theorem okb(o:Ok x):Ok (bk x):=by
 cases x with
 | turn a j =>
  have:0<=a/\1<=j/\j<=7:=o;exact⟨this.1,by lia,by lia⟩
 | _=>exact o
theorem uO{x:Mv}(o:Ok x)(b:Br x)(F:Bv):∀T:List Te,(∀t∈T,t.2.1<4)->op x (ts (T.map λt=>(t.1,CZ (bk x) t.2)) F)=ts T (op x F)
 | [],_=>by funext w;exact QZ x w
 | t::T,h=>by
  funext w;rw[GP,vM,uO o b F T λx a=>h x (.tail _ a)];show add (mul t.1 (op x (lay (CZ (bk x) t.2) F) w)) _=add (mul t.1 (lay t.2 (op x F) w)) _;rw[X3j o b];have e:=lX (okb o) (Wu o b) (h t (.head _));rw[W2s o]at e;rw[e]
noncomputable def fa (J:Nat):V4:=add (En (8-J) one) (En J one)
noncomputable def fs (J:Nat):V4:=add (En (8-J) one) (sm (-1) (En J one))
inductive Od (A J:Nat):List Te->List Te->Prop
 | nil:Od A J [] []
 | flip {T T':List Te}{v y z:V4}{m:Mk}:Od A J T T'->m.2.1.testBit A=true->sm 2 y=mul v (fa J)->sm 2 z=mul v (fs J)->Od A J (T++[(v,m)]) (T'++[(y,m),(z,(m.1,m.2.1,fl m.2.2 A))])
 | keep {T T':List Te}{v:V4}{m:Mk}:Od A J T T'->m.2.1.testBit A=false->Od A J (T++[(v,m)]) (T'++[(v,m)])
theorem X0s(m:Mk)(A:Nat)(F:Bv)(w:Nat):lay (m.1,m.2.1,fl m.2.2 A) F w=sm (Ip ((w^^^m.2.1).testBit A)) (lay m F w):=by
 show En (2*m.1+4*bn (bp ((w^^^m.2.1)&&&fl m.2.2 A))) _=sm _ (En (2*m.1+4*bn (bp ((w^^^m.2.1)&&&m.2.2))) _);rw[Qv,Q5,Q5,Q_];congr 1;rw[Yt,Bool.xor_comm]
theorem rm(a j:Int)(G:Bv)(w:Nat):op (turn a j) G w=sm 2 (En (if w.testBit a.toNat then j.toNat else 0) (G w)):=rfl
theorem uH(a j:Int)(m:Mk)(F:Bv)(w:Nat):lay m (op (turn a j) F) w=sm 2 (En (if (w^^^m.2.1).testBit a.toNat then j.toNat else 0) (lay m F w)):=by
 show En _ (sm 2 (En _ _))=sm 2 (En _ (En _ _));rw[Wt,KQ,KQ,Py];rfl
theorem Um{x y:V4}(h:sm 2 x=sm 2 y):x=y:=X7n (by decide) h
theorem w6(x:Mv)(a b:List Te)(F:Bv)(w:Nat):op x (ts (a++b) F) w=add (op x (ts a F) w) (op x (ts b F) w):=by
 have e:ts (a++b) F=λw=>add (ts a F w) (ts b F w):=funext λw=>Qt F w a b;rw[e,DX]
variable{T T':List Te}
theorem Y6f{a j:Int}(hj:1<=j/\j<=7)(h:Od a.toNat j.toNat T T')(F:Bv):op (turn a j) (ts T' F)=ts T (op (turn a j) F):=by
 funext w;induction h with
 | nil=>exact QZ _ w
 | @keep T T' v m _ hb ih =>
  rw[w6,ih,Qt];congr 1;show op _ (ts [(v,m)] F) w=add (mul v (lay m (op (turn a j) F) w)) z0;rw[vM,uH,rm,HX,hb,Bool.xor_false];show add _ (op _ (λ_=>z0) w)=_;rw[QZ]
 | @flip T T' v y z m _ hb hy hz ih =>
  rw[w6,ih,Qt];congr 1;have b:∀L:V4,∀s:Int,sm 2 (add (mul y L) (mul z (sm s L)))=mul v (mul (add (fa j.toNat) (sm s (fs j.toNat))) L):=λL s=>by
   rw[lu,<-Qs,hy,O_,Q_,Uz,<-Q_,<-Qs,hz,add_mul,mul_add,Qs,mul_assoc,mul_assoc,O_]
  have e1:add (fa j.toNat) (sm 1 (fs j.toNat))=sm 2 (En (8-j.toNat) one):=by unfold fa fs;apply ext<;>simp only[add,sm]<;>lia
  have e2:add (fa j.toNat) (sm (-1) (fs j.toNat))=sm 2 (En j.toNat one):=by unfold fa fs;apply ext<;>simp only[add,sm]<;>lia
  have key:op (turn a j) (λw=>add (mul y (lay m F w)) (mul z (lay (m.1,m.2.1,fl m.2.2 a.toNat) F w))) w=mul v (lay m (op (turn a j) F) w):=by
   rw[rm,uH,X0s];have x1:(w^^^m.2.1).testBit a.toNat=!w.testBit a.toNat:=by rw[HX,hb,Bool.xor_true]
   rw[x1];by_cases c:w.testBit a.toNat=true
   ·rw[c];have g:add (mul y (lay m F w)) (mul z (sm (Ip (!true)) (lay m F w)))=mul v (En (8-j.toNat) (lay m F w)):=by
     apply Um;rw[b,show Ip (!true)=1 from rfl,e1,Qs,XC,one_mul,O_]
    rw[g,if_pos rfl,if_neg (by decide)];show sm 2 (En j.toNat (mul v (En (8-j.toNat) (lay m F w))))=mul v (sm 2 (lay m F w));rw[XJ,KQ,show j.toNat+(8-j.toNat)=8 by lia,yJ,O_]
   ·have c:w.testBit a.toNat=false:=by simpa using c
    rw[c];have g:add (mul y (lay m F w)) (mul z (sm (Ip (!false)) (lay m F w)))=mul v (En j.toNat (lay m F w)):=by
     apply Um;rw[b,show Ip (!false)=-1 from rfl,e2,Qs,XC,one_mul,O_]
    rw[g,if_neg (by decide),if_pos (by decide)];show sm 2 (mul v (En j.toNat (lay m F w)))=_;rw[O_]
  have d:ts [(y,m),(z,(m.1,m.2.1,fl m.2.2 a.toNat))] F=λw=>add (mul y (lay m F w)) (mul z (lay (m.1,m.2.1,fl m.2.2 a.toNat) F w)):=by
   funext w;show add _ (add _ z0)=_;rw[Q6]
  rw[d,key];show _=add (mul v (lay m (op (turn a j) F) w)) z0;rw[Q6]
def Ah (x:Mv)(T T':List Te):Prop:=(Br x/\T'=T.map λt=>(t.1,CZ (bk x) t.2))\/∃a j,x=turn a j/\Od a.toNat j.toNat T T'
theorem X6k(o:Ok x)(h:Ah x T T')(m4:∀t∈T,t.2.1<4)(F:Bv):op x (ts T' F)=ts T (op x F):=by
 rcases h with ⟨b,rfl⟩ | ⟨a,j,rfl,od⟩
 ·exact uO o b F T m4
 ·exact Y6f (by have:0<=a/\1<=j/\j<=7:=o;exact this.2) od F
def Et (N:Nat)(m:Mk)(row:List Mv)(T:List Te):Prop:=∀(F:Bv) (w:Nat),Aj row (ts T F) w=sm (2^N) (lay m (Aj row F) w)
theorem Y9d(N:Nat)(m:Mk):Et N m [] [(sm (2^N) one,m)]:=λF w=>by
 show add (mul (sm (2^N) one) (lay m F w)) z0=sm (2^N) (lay m F w);rw[Q6,Qs,one_mul]
theorem Y5c{N:Nat}{m:Mk}{row:List Mv}(o:Ok x)(s:Et N m row T)(h:Ah x T T')(m4:∀t∈T,t.2.1<4):Et N m (x::row) T':=λF w=>by
 show Aj row (op x (ts T' F)) w=sm (2^N) (lay m (Aj row (op x F)) w);rw[X6k o h m4];exact s (op x F) w
noncomputable def Hr (k:Nat×Nat):Mk:=(pc (k.1&&&k.2)%4,k.1,k.2)
noncomputable abbrev gt (val:Nat×Nat->V4)(ks:List (Nat×Nat)):List Te:=ks.map λk=>(val k,Hr k)
theorem X5v{q f s j:Nat}(h:(j+2*(pc (f&&&s)%4))%8=2*q%8)(v:V4)(F:Bv)(w:Nat):mul (En j v) (lay (Hr (f,s)) F w)=mul v (lay (q,f,s) F w):=by
 rw[XC,<-XJ];congr 1;show En j (En (2*(pc (f&&&s)%4)+4*bn (bp ((w^^^f)&&&s))) (F (w^^^f)))=En (2*q+4*bn (bp ((w^^^f)&&&s))) (F (w^^^f));rw[KQ];exact TJ (by lia) _
variable{val':Nat×Nat->V4}
theorem rO{val:Nat×Nat->V4}:∀{ks:List (Nat×Nat)},(∀k∈ks,val k=val' k)->gt val ks=gt val' ks:=λh=>bK λk a=>by rw[h k a]
theorem X9u{val:Nat×Nat->V4}{ks:List (Nat×Nat)}{k0:Nat×Nat}(n:k0∉ks)(h:∀k,k≠k0->val' k=val k)(F:Bv)(w:Nat):ts (gt val' (ks++[k0])) F w=add (ts (gt val ks) F w) (mul (val' k0) (lay (Hr k0) F w)):=by
 rw[gt,Dt,Qt,show ks.map (λk=>(val' k,Hr k))=gt val ks from rO λk a=>h k λe=>n (by rw[<-e];exact a)];show add _ (add _ z0)=_;rw[Q6]
theorem wR{val val':Nat×Nat->V4}{u:V4}{k0:Nat×Nat}(h:∀k,k≠k0->val' k=val k)(h0:val' k0=add (val k0) u)(F:Bv)(w:Nat):∀{ks:List (Nat×Nat)},ks.Nodup->k0∈ks->ts (gt val' ks) F w=add (ts (gt val ks) F w) (mul u (lay (Hr k0) F w))
 | [],_,m=>nomatch m
 | k::ks,nd,m=>by
  obtain⟨c,a⟩:=QJ.mp nd;show add (mul (val' k) (lay (Hr k) F w)) (ts (gt val' ks) F w)=add (add (mul (val k) (lay (Hr k) F w)) (ts (gt val ks) F w)) _;by_cases e:k=k0
  ·subst e;rw[show gt val' ks=gt val ks from rO λj b=>h j λe=>c (by rw[<-e];exact b),h0,add_mul,ZC,ZC,add_comm (mul u _)]
  ·rw[h k e,wR h h0 F w a (by rcases DY.mp m with q | q;exact absurd q.symm e;exact q),ZC]
end Cw
set_option maxHeartbeats 4000000
namespace Al
open L2 Am Pc Ba
noncomputable def sm (fs:U6)(v:Int×Int×Int×Int):Nat->Int×Int×Int×Int
 | 0=>(0,0,0,0)
 | i+1=>let (a,b,c,d):=sm fs v i;let (x,y,z,u):=Bm i v;let f:=fs.getD i 0;(a+f*x,b+f*y,c+f*z,d+f*u)
abbrev Q4 (n:Nat)(v:Int×Int×Int×Int):Prop:=H_ n v.1 v.2.1 v.2.2.1 v.2.2.2
theorem lg{n:Nat}{v:Int×Int×Int×Int}(h:Q4 n v):∀i,Q4 n (Bm i v)
 | 0=>h
 | i+1=>let r:=lg h i;⟨r.z4.neg,r.z1,r.z2,r.z3⟩
theorem vR{n n':Nat}{fs:U6}{v:Int×Int×Int×Int}(h:Q4 n v)(hf:∀f∈fs,Sz n' f):∀i,Q4 (n+n'+i) (sm fs v i)
 | 0=>⟨Uy (by decide),Uy (by decide),Uy (by decide),Uy (by decide)⟩
 | i+1=>by
  have r:=lg h i;have s:=vR h hf i;have a:Sz n' (fs.getD i 0):=by
   rw[G5];cases e:fs[i]? with
   | none=>exact Uy (by decide)
   | some f=>exact hf f (Jo e)
  exact⟨(s.z1.add (a.mul r.z1)).mono (by lia),(s.z2.add (a.mul r.z2)).mono (by lia),(s.z3.add (a.mul r.z3)).mono (by lia),(s.z4.add (a.mul r.z4)).mono (by lia)⟩
noncomputable abbrev L4 (v:Int×Int×Int×Int):List Int:=[v.1,v.2.1,v.2.2.1,v.2.2.2]
structure Xa (x y z:A5):Prop where
 amt:Ls z.1.1 z.1.2.1 z.1.2.2.1 z.1.2.2.2 z.2
 same:Cu (x.1.1*y.1.1-x.1.2.1*y.1.2.2.2-x.1.2.2.1*y.1.2.2.1-x.1.2.2.2*y.1.2.1) (x.1.1*y.1.2.1+x.1.2.1*y.1.1-x.1.2.2.1*y.1.2.2.2-x.1.2.2.2*y.1.2.2.1)
  (x.1.1*y.1.2.2.1+x.1.2.1*y.1.2.1+x.1.2.2.1*y.1.1-x.1.2.2.2*y.1.2.2.2) (x.1.1*y.1.2.2.2+x.1.2.1*y.1.2.2.1+x.1.2.2.1*y.1.2.1+x.1.2.2.2*y.1.1) (x.2+y.2) z.1.1 z.1.2.1 z.1.2.2.1 z.1.2.2.2 z.2
 le:z.2<=x.2+y.2
def Y9 (K:U0):Sp:=λvs H Q _=>∃(p q:Y1) (x y:A5) (n n':Nat) (m m':Int),vs=[.ref p,.ref q]/\Bh K H p x/\Bh K H q y/\Cr n m x/\Cr n' m' y/\n+n'<=100000 /\
 ∀(r:Y1) (H':Hp) (z:A5),Same H H'->H' r=some (tA z)->Xa x y z->Cr (n+n'+4) (m+m') z->Q (.ref r) H'
def ZK:Sp:=λvs H Q _=>∃(p:Y1) (a b c d h:Int),vs=[.ref p]/\H p=some (T5 a b c d h)/\0<=h/\∀(r:Y1) (H':Hp) (x y z u g:Int),Same H H'->H' r=some (T5 x y z u g)->Red a b c d (h+1) x y z u g->Q (.ref r) H'
section
variable {P:U8}{w:W3}{K:U0}{mg:U4}{base:Heap}{k:Nat}{h:Heap}
theorem Y9s(F:Ab K "times" (top 23) .none)(X:K.In h)(G:Ng h mg)(B:Bs mg)(c8:Ar P w K mg base k "halved_out" ["a","b","c","d","h"] FJ)(cM:Ar P w K mg base k "spun_once" ["one"] (m7 K)):Ar P w K mg base (k+1) "times" ["one","other"] (Y9 K):=by
 refine F.cal X G ["one","other","sums","turning","factor"] (bi:=Qk λ_ _ _ _ _ _ _ _=>rfl) (len:=λ_ _ _ _ h=>by obtain⟨_,_,_,_,_,_,_,_,rfl,_⟩:=h;rfl) λD H vs Q E hr h=>?_;obtain⟨p,q,⟨⟨a,b,c,d⟩,h⟩,⟨⟨a',b',c',d'⟩,h'⟩,n,Y,m,m',rfl,e1,e2,ox,W,hn,kq⟩:=h;have h0:0<=h:=ox.amt.nn;have a1:0<=h':=W.amt.nn;have z:=ox.sz;have M:=W.sz;have o:h<=m:=ox.le;have j:h'<=m':=W.le;have S:Ao K H p [.int a,.int b,.int c,.int d,.int h]:=e1;have S':Ao K H q [.int a',.int b',.int c',.int d',.int h']:=e2;have hz:Q4 n (a,b,c,d):=z;have hf:∀f∈[a',b',c',d'],Sz Y f:=by
  intro f C;simp only[DY,Gx,Gu]at C;rcases C with rfl | rfl | rfl | rfl
  ·exact M.z1
  ·exact M.z2
  ·exact M.z3
  ·exact M.z4
 refine⟨_,(@Aw _ _ _ _ _ (@BR _ _ 2 _ _ _ _ D rfl (Or.inl rfl) (@PB _ _ _ _ (Aa Ad (Aa Ad (Aa Ad (Aa Ad Af))))) rfl (.inl rfl))
  (@Aw _ _ _ _ _ (@BR _ _ 3 _ _ _ _ D rfl (Or.inl rfl) (pv 0) rfl (.inl rfl))
  (@Aw _ _ _ _ _ (JC PassesOwn.never rfl (XQ (Ld WQ (pv 1) Nq (Jv Ad))) (CN (i:=4) D rfl (Or.inr rfl))
   (@Aw _ _ _ _ _ (Wm (i:=2) rfl D rfl rfl (Bw.of (Nc:=["x","y","factor"]) (mp:=[none,none,some 4]) (by kernel_rfl)) (xK false true rfl B.zip (Aa (pv 2) (Aa (Ld WQ (pv 3) Nq (Jv Ad)) Af))) (λ_ _ _ _=>(Wk rfl (show (["x","y","factor"]:W0).Nodup by decide +kernel) rfl rfl rfl rfl)) (λ_ _ _ _=>(Ag DX (pv 0) (Ag Ey (pv 2) (pv 1)))) rfl)
   (@Av _ _ _ (@BR _ _ 3 _ _ _ _ D rfl (Or.inl rfl) (BP cM hr rfl (Aa (pv 3) Af)) rfl (.inl rfl)))))
  (@Av _ _ _ (Bb (BP c8 hr rfl (Aa (Ai Dl (pv 2) Ad (λ_ _=>rfl)) (Aa (Ai Dl (pv 2) Ad (λ_ _=>rfl)) (Aa (Ai Dl (pv 2) Ad (λ_ _=>rfl)) (Aa (Ai Dl (pv 2) Ad (λ_ _=>rfl)) (Aa (Ag DX (Ai Aq (pv 0) Ad (λ_ _=>rfl)) (Ai Aq (pv 1) Ad (λ_ _=>rfl))) Af))))))))))),?_⟩
 try dsimp only[Bu]
 refine⟨(by show 4<=sizeLine;decide),λl0 a0=>?_⟩;have s1:=BW a0 (.lst [.int 0,.int 0,.int 0,.int 0]);refine⟨_,O,?_⟩;refine⟨_,O,4,O,q,_,O,s1.tup S',Ja,λl1 o=>⟨l1,O,⟨_,Ao.of Az⟩,?_⟩⟩;have s2:=s1.trans (BW o (.tup ([a',b',c',d'].map V.int)))
 refine X5z (K:=K) (a:=l1) (xs:=[a',b',c',d'].map V.int) (λi σ H'=>Same (upd (upd H l0 (.lst [.int 0,.int 0,.int 0,.int 0])) l1 (.tup ([a',b',c',d'].map V.int))) H'/\∃l t v,σ=[some (.ref p),some (.ref q),some (.ref l),some (.ref t),v] /\
   H' l=some (.lst ((L4 (sm [a',b',c',d'] (a,b,c,d) i)).map V.int))/\Bh K H' t (Bm i (a,b,c,d),h))
  ⟨Same.refl _,l0,p,none,O,?_,e1.same s2⟩ (λi σ H' _ p=>p.1.tup (Ao.of Az)) ?_ ?_
 ·rw[Bq (λe=>by rw[<-e,Az]at o;cases o),Az];rfl
 ·rintro i x σ H2 C ⟨Z,l,t,v,rfl,R,T⟩;rw[FN]at C;obtain⟨fa,J,rfl⟩:=G3.mp C;have zf:=hf fa (Jo J);have L:=lg hz i;have ef:[a',b',c',d'].getD i 0=fa:=by rw[G5,J];rfl
  refine⟨_,O,_,O,4,O,t,_,O,T,Ja,λl2 j=>?_⟩;refine⟨l,l2,_,(L4 (Bm i (a,b,c,d))).map V.int,O,(BW j _).seq (Ax.of R),Ao.of Az,λacc I=>?_⟩;refine rR (K:=K) (ns:=L4 (sm [a',b',c',d'] (a,b,c,d) i)) (ms:=L4 (Bm i (a,b,c,d))) (fr:=[some (.int fa)]) (λx y=>x+fa*y) rfl (show 4<=sizeLine by decide) ((BW j _).seq (Ax.of R)) (Ao.of Az) I
   (λha hQ=>⟨_,_,O,Ao.of ha,O,_,_,O,_,_,O,O,hQ⟩) ?_ ?_
  ·intro x y H2 N C hy kN;have zy:Sz n y:=by
    simp only[DY,Gx,Gu]at hy;rcases hy with rfl | rfl | rfl | rfl
    ·exact L.z1
    ·exact L.z2
    ·exact L.z3
    ·exact L.z4
   exact⟨_,O,_,O,_,O,_,_,O,O,⟨Y,n,zf,zy,by lia⟩,_,_,O,O,kN⟩
  intro H3 U a4;have s5:=(BW j (.tup ((L4 (Bm i (a,b,c,d))).map V.int))).trans U;refine⟨_,O,t,_,_,_,_,_,O,T.same s5,λr H4 s6 e6=>?_⟩;refine⟨Z.trans (s5.trans s6),acc,r,_,O,?_,Bh.of e6⟩;rw[s6 _ _ a4,<-ef];rfl
 ·rintro σ H2 ⟨Z,l,t,v,rfl,R,T⟩;have S2:=s2.trans Z;have s:Ax K H2 l ((L4 (sm [a',b',c',d'] (a,b,c,d) 4)).map V.int):=Ax.of R;have zz:Q4 (n+Y+4) (sm [a',b',c',d'] (a,b,c,d) 4):=vR hz hf 4;refine⟨_,O,l,_,_,_,O,O,s,O,_,O,l,_,_,_,O,O,s,O,_,O,l,_,_,_,O,O,s,O,_,O,l,_,_,_,O,O,s,O,_,O,p,_,_,_,O,O,S2.tup S,O,_,O,q,_,_,_,O,O,S2.tup S',O,_,_,O,O,?_⟩;refine⟨_,_,_,_,_,O,(by show 0<=h+h';lia),λr H' x y v u g U e4 A=>?_⟩;refine kq r H' ((x,y,v,u),g) (S2.trans U) e4 ⟨A.amt,?_,A.le⟩ ⟨A.sz zz,A.amt,(by have:=A.le;show g<=m+m';lia)⟩;show Cu (a*a'-b*d'-c*c'-d*b') (a*b'+b*a'-c*d'-d*c') (a*c'+b*b'+c*a'-d*d') (a*d'+b*c'+c*b'+d*a') (h+h') x y v u g;have hs:=A.same;have q1:(sm [a',b',c',d'] (a,b,c,d) 4).1=a*a'-b*d'-c*c'-d*b':=by
   show 0+a'*a+b'*-d+c'*-c+d'*-b=_;grind
  have q2:(sm [a',b',c',d'] (a,b,c,d) 4).2.1=a*b'+b*a'-c*d'-d*c':=by
   show 0+a'*b+b'*a+c'*-d+d'*-c=_;grind
  have q3:(sm [a',b',c',d'] (a,b,c,d) 4).2.2.1=a*c'+b*b'+c*a'-d*d':=by
   show 0+a'*c+b'*b+c'*a+d'*-d=_;grind
  have q4:(sm [a',b',c',d'] (a,b,c,d) 4).2.2.2=a*d'+b*c'+c*b'+d*a':=by
   show 0+a'*d+b'*c+c'*b+d'*a=_;grind
  rw[<-q1,<-q2,<-q3,<-q4];exact hs
theorem Y6p(F:Ab K "halved" (top 40) .none)(X:K.In h)(G:Ng h mg)(c8:Ar P w K mg base k "halved_out" ["a","b","c","d","h"] FJ):Ar P w K mg base (k+1) "halved" ["one"] ZK:=by
 refine F.cal X G ["one"] (bi:=Ql λ_ _ _ _ _ _ _=>rfl) (len:=λ_ _ _ _ h=>by obtain⟨_,_,_,_,_,_,rfl,_⟩:=h;rfl) λf H vs Q g e h=>?_;obtain⟨p,a,b,c,d,h,rfl,hp,i,q⟩:=h;have S:Ao K H p [.int a,.int b,.int c,.int d,.int h]:=Ao.of hp;refine⟨_,(@Av _ _ _ (Bb (BP c8 e rfl (Aa (Ai Aq (pv 0) Ad (λ_ _=>rfl)) (Aa (Ai Aq (pv 0) Ad (λ_ _=>rfl)) (Aa (Ai Aq (pv 0) Ad (λ_ _=>rfl)) (Aa (Ai Aq (pv 0) Ad (λ_ _=>rfl)) (Aa (Ag DX (Ai Aq (pv 0) Ad (λ_ _=>rfl)) Ad) Af)))))))),?_⟩;try dsimp only[Bu]
 exact⟨_,O,p,_,_,_,O,O,S,O,_,O,p,_,_,_,O,O,S,O,_,O,p,_,_,_,O,O,S,O,_,O,p,_,_,_,O,O,S,O,_,O,p,_,_,_,O,O,S,O,_,_,O,O,a,b,c,d,h+1,O,by lia,q⟩
end
end Al
namespace L2
variable{K:U0}{a:Y1}{xs:List V}
theorem X6a{g:TG}{tb:TS}{D:Ends}{σ:St}{H:Hp}(Pv:Nat->St->Hp->Prop)(h0:Pv 0 σ H)(hl:∀i σ H,i<=xs.length->Pv i σ H->Ax K H a xs)
  (hs:∀i x σ H,xs.reverse[i]?=some x->Pv i σ H->g x σ H λb H2=>tb {D with nx:=Pv (i+1),ct:=Pv (i+1),bk:=D.nx} b H2) (hd:∀σ H,Pv xs.length σ H->D.nx σ H):
  ∃W:Nat->Nat->St->Hp->Prop,(∃m,W 0 m σ H)/\∀i m σ H,W i m σ H ->
   ((Xi K a xs.length).stop i H/\D.nx σ H)\/((Xi K a xs.length).go i H/\∃N:St->Hp->Prop,(∀c H',N c H'->∃m',m'<m/\W (i+1) m' c H')/\∀x H',(Xi K a xs.length).yld i H x H'->g x σ H' λb H2=>tb {D with nx:=N,ct:=N,bk:=D.nx} b H2):=by
 refine⟨λi m σ H=>m=xs.length-i/\i<=xs.length/\Pv i σ H,⟨xs.length,by simp,Ef _,h0⟩,?_⟩;rintro i m σ H ⟨rfl,hi,p⟩;have q:=hl i σ H hi p;by_cases hlt:i<xs.length
 ·refine .inr ⟨⟨hlt,xs,q,O⟩,Pv (i+1),λc H' d=>⟨xs.length-(i+1),by lia,O,hlt,d⟩,λx H' y=>?_⟩;obtain⟨e,y⟩:=y;subst e;exact hs i x σ _ (by rw[p7 hlt];exact y xs q) p
 ·have e:i=xs.length:=by lia
  subst e;exact .inl ⟨O,hd σ H p⟩
theorem uI{g:TG}{te:TE}{fr:St}{H1:Hp}{acc:Y1}{Q:VK}(Pv:Nat->List V->Hp->Prop)(hn:xs.length<=sizeLine)(h0:Pv 0 [] (upd H1 acc (.lst [])))
  (hl:∀i ys H,Pv i ys H->Ax K H a xs)
  (hs:∀i x ys H (N:St->V->Hp->Prop) (w1 w2:Option V),xs[i]?=some x->ys.length=i->Pv i ys H->(∀v1 v2 y b,b acc=some (.lst ys)->Pv (i+1) (ys++[y]) (upd b acc (.lst (ys++[y])))->N (v1::v2::fr) y b)->g x (w1::w2::fr) H λc h=>te c h (N c))
  (hd:∀ys H,ys.length=xs.length->Pv xs.length ys H->Q (.ref acc) H):Jx (Lh K a) g te (none::none::fr) H1 acc Q:=by
 refine⟨λi m ys f H2=>m=xs.length-i/\i<=xs.length/\ys.length=i/\(∃v1 v2,f=v1::v2::fr)/\Pv i ys H2,⟨xs.length,by simp,Ef _,O,⟨_,_,O⟩,h0⟩,?_⟩;rintro i m ys f H2 ⟨rfl,hi,d,⟨v1,v2,rfl⟩,p⟩;by_cases hlt:i<xs.length
 ·have e1:xs[i]?=some xs[i]:=by simp[hlt]
  refine .inr ⟨⟨xs,_,hl i ys H2 p,e1⟩,λx o k=>?_⟩;obtain⟨rfl,q⟩:=k;exact hs i x ys _ (λc y b=>b acc=some (.lst ys)/\ys.length<sizeLine/\∃m',m'<xs.length-i/\_) _ _ (q xs (hl i ys _ p)) d p λn r y b j l=>⟨j,by lia,xs.length-(i+1),by lia,O,hlt,by simp[d],⟨_,_,O⟩,l⟩
 ·have e:i=xs.length:=by lia
  subst e;exact .inl ⟨⟨xs,hl _ ys H2 p,Bc _⟩,hd ys H2 d p⟩
theorem X0q{l:Y1}{tc:TT}{te:TE}{fr:L2.St}{H1:Hp}{acc:Y1}{Q:VK}(Pv:Nat->List V->Hp->Prop)(hn:xs.length<=sizeLine)(h0:Pv 0 [] (upd H1 acc (.lst [])))(hl:∀i ys H,Pv i ys H->Ax K H l xs)
  (hs:∀i x ys H (N:Bool->Hp->Prop),xs[i]?=some x->ys.length<=i->Pv i ys H->(∀b a,(b=true->te (some x::fr) a λy d=>d acc=some (.lst ys)/\Pv (i+1) (ys++[y]) (upd d acc (.lst (ys++[y]))))->(b=false->Pv (i+1) ys a)->N b a)->tc (some x::fr) H N)
  (mono:∀{σ H}{R R':VK},(∀v H,R v H->R' v H)->te σ H R->te σ H R')
  (hd:∀ys H,Pv xs.length ys H->Q (.ref acc) H):Lg (Lh K l) (CK 0) tc te (none::fr) H1 acc Q:=by
 refine⟨λi m ys g H2=>m=xs.length-i/\i<=xs.length/\ys.length<=i/\(∃v,g=v::fr)/\Pv i ys H2,⟨xs.length,by simp,Ef _,Bc _,⟨_,O⟩,h0⟩,?_⟩;rintro i m ys g H2 ⟨rfl,hi,c,⟨v,rfl⟩,p⟩;have sq:=hl i ys H2 p;by_cases hlt:i<xs.length
 ·have f:xs[i]?=some xs[i]:=by simp[hlt]
  refine .inr ⟨⟨_,_,sq,f⟩,λu o j=>?_⟩;obtain⟨rfl,n⟩:=j;have:=n _ sq;rw[f]at this;cases this;refine hs i _ ys _ _ f c p λb a k h=>⟨λe=>mono (λy d q=>?_) (k e),λe=>⟨xs.length-(i+1),by lia,O,hlt,by lia,⟨_,O⟩,h e⟩⟩;exact⟨q.1,by lia,xs.length-(i+1),by lia,O,hlt,by rw[Gh];simp;omega,⟨_,O⟩,q.2⟩
 ·have e:i=xs.length:=by lia
  subst e;exact .inl ⟨⟨_,sq,Bc _⟩,hd ys H2 p⟩
end L2
namespace Sr
open PySem.W
variable {cmp:Nat->Nat->(Bool->Shared->Prop)->Shared->Prop}{z:Nat->Int}{n:Nat}{s:U7}{p:Array Nat}
def Mq (cmp:Nat->Nat->(Bool->Shared->Prop)->Shared->Prop)(z:Nat->Int)(n:Nat)(s:U7):Prop:=∀i j C,i<n->j<n->C (decide (z i<z j)) s->cmp i j C s
noncomputable def kz (z:Nat->Int)(p:Array Nat)(i:Nat):Int:=z (p.getD i 0)
structure Pm (p:Array Nat) (n:Nat):Prop where
 size:p.size=n
 perm:p.toList.Perm (List.range n)
variable{i:Nat}
theorem Wi(h:i<p.size):p.getD i 0=p[i]:=by simp[Array.getD,h]
theorem Pm.lt(h:Pm p n)(hi:i<n):p.getD i 0<n:=by
 have a:i<p.size:=by rw[h.size];exact hi
 rw[Wi a];exact Gg.mp (h.perm.mem_iff.mp (bf a))
theorem Pm.inj(h:Pm p n){j:Nat}(hi:i<n)(hj:j<n)(e:p.getD i 0=p.getD j 0):i=j:=by
 have h1:i<p.size:=by rw[h.size];exact hi
 have h2:j<p.size:=by rw[h.size];exact hj
 rw[Wi h1,Wi h2,<-Gz,<-Gz]at e;have a:p.toList.Nodup:=h.perm.nodup_iff.mpr aX;have g:=MJ.mp a;rcases Nat.lt_trichotomy i j with q | q | q
 ·exact absurd e (g i j _ _ q)
 ·exact q
 ·exact absurd e.symm (g j i _ _ q)
def Up (z:Nat->Int)(p:Array Nat)(m:Nat):Prop:=∀i j,i<j->j<m->kz z p i<kz z p j
def Dn (z:Nat->Int)(p:Array Nat)(m:Nat):Prop:=∀i j,i<j->j<m->kz z p j<kz z p i
def Lj (z:Nat->Int)(n:Nat):Prop:=∀i j,i<n->j<n->z i=z j->i=j
theorem dz(d:Lj z n)(h:Pm p n){j:Nat}(hi:i<n)(hj:j<n)(ij:i≠j):kz z p i≠kz z p j:=λe=>ij (h.inj hi hj (d _ _ (h.lt hi) (h.lt hj) e))
theorem asc(o:Mq cmp z n s)(d:Lj z n)(h:Pm p n){Q:Nat->Shared->Prop}:∀f a,1<=a->a+f<=n->Up z p a->(∀m,a<=m->m<=a+f->Up z p m->(m=a+f\/kz z p m<kz z p (m-1))->Q m s)->(kas_asc p f a).kasWp cmp Q s
 | 0,a,_,_,u,q=>q a (Bc _) (Bc _) u (.inl rfl)
 | f+1,a,a1,an,u,q=>by
  refine o _ _ _ (h.lt (by lia)) (h.lt (by lia)) ?_;by_cases c:z (p.getD a 0)<z (p.getD (a-1) 0)
  ·rw[Cj c];exact q a (Bc _) (by lia) u (.inr c)
  ·rw[Cd c];refine asc o d h f (a+1) (by lia) (by lia) (λi j k l=>?_) (λm h1 h2 b g=>q m (by lia) (by lia) b (by rw[show a+(f+1)=a+1+f by lia];exact g));by_cases e:j=a
   ·subst e;have k1:=dz d h (i:=j) (j:=j-1) (by lia) (by lia) (by lia);have r:¬ kz z p j<kz z p (j-1):=c;by_cases e2:i=j-1
    ·subst e2;lia
    ·have:=u i (j-1) (by lia) (by lia);lia
   ·exact u i j k (by lia)
theorem desc(o:Mq cmp z n s)(d:Lj z n)(h:Pm p n){Q:Array Nat×Nat×Nat->Shared->Prop}:∀f a,1<=a->a+f<=n->Dn z p a->(∀m,a<=m->m<=a+f->Dn z p m->Q (p,m,0) s)->(kas_desc f p a 0).kasWp cmp Q s
 | 0,a,_,_,u,q=>q a (Bc _) (Bc _) u
 | f+1,a,a1,an,u,q=>by
  refine o _ _ _ (h.lt (by lia)) (h.lt (by lia)) ?_;have k1:=dz d h (i:=a) (j:=a-1) (by lia) (by lia) (by lia);by_cases c:z (p.getD a 0)<z (p.getD (a-1) 0)
  ·rw[Cj c];refine desc o d h f (a+1) (by lia) (by lia) (λi j g l=>?_) (λm h1 h2 b=>q m (by lia) (by lia) b);by_cases e:j=a
   ·subst e;have k:kz z p j<kz z p (j-1):=c;by_cases e2:i=j-1
    ·subst e2;omega
    ·have:=u i (j-1) (by lia) (by lia);lia
   ·exact u i j g (by lia)
  ·rw[Cd c];refine o _ _ _ (h.lt (by lia)) (h.lt (by lia)) ?_;have k:¬ kz z p a<kz z p (a-1):=c;have c2:z (p.getD (a-1) 0)<z (p.getD a 0):=(show kz z p (a-1)<kz z p a by lia);rw[Cj c2];exact q a (Bc _) (by lia) u
variable{m:Nat}
theorem xM(hm:m<=p.size):(kas_rev p 0 m).getD i 0=if i<m then p.getD (m-1-i) 0 else p.getD i 0:=by
 have e:=bL (i:=0) hm i;unfold kas_rev;rw[Ot,e];by_cases h:i<m
 ·rw[if_pos ⟨Ef _,h⟩,if_pos h,<-Ot,Gv]
 ·rw[if_neg (λq=>h q.2),if_neg h,<-Ot]
theorem xP(h:Pm p n):Pm (kas_rev p 0 m) n:=⟨(mirror_size _ _ _ _).trans h.size,(YZ.mp (mirror_perm p 0 m _)).trans h.perm⟩
variable{Q:Nat×Array Nat->Shared->Prop}
theorem tail(o:Mq cmp z n s)(d:Lj z n)(h:Pm p n)(m1:1<=m)(mn:m<=n)(u:Dn z p m)(q:∀r p',Pm p' n->1<=r->r<=n->Up z p' r->Q (r,p') s):(kas_tail3 m n p).kasWp cmp Q s:=by
 unfold kas_tail3;rw[KasT.kasWp_bind];have a:m<=p.size:=by rw[h.size];exact mn
 refine asc o d (xP h) (n-m) m m1 (by lia) (λi j e c=>?_) (λr h1 h2 b _=>q r _ (xP h) (by lia) (by lia) b);unfold kz;rw[xM a,xM a,if_pos (by lia),if_pos c];exact u (m-1-j) (m-1-i) (by omega) (by lia)
theorem count(o:Mq cmp z n s)(d:Lj z n)(h:Pm p n)(n2:2<=n)(q:∀r p',Pm p' n->1<=r->r<=n->Up z p' r->Q (r,p') s):(kas_count n p).kasWp cmp Q s:=by
 unfold kas_count;rw[KasT.kasWp_bind];refine asc o d h (n-1) 1 (Bc _) (by lia) (λi j f c=>by lia) (λm h1 h2 a b=>?_);by_cases e:(m == n)=true
 ·rw[if_pos e];exact q m p h h1 (by lia) a
 rw[if_neg e];have l:m≠n:=λx=>e (by rw[x];exact Ri n);by_cases g:m>1
 ·rw[if_pos g];refine o _ _ _ (h.lt (by lia)) (h.lt (by lia)) ?_;rw[Cj (show z (p.getD 0 0)<z (p.getD (m-1) 0) from a 0 (m-1) (by lia) (by lia))];exact q m p h h1 (by lia) a
 rw[if_neg g];have k:m=1:=by lia
 subst k;have lt:kz z p 1<kz z p 0:=by
  rcases b with b | b
  ·lia
  ·exact b
 unfold kas_descPart;rw[KasT.kasWp_bind];refine desc o d h (n-(1+1)) (1+1) (by lia) (by lia) (λi j f c=>?_) (λm h1 h2 a=>?_)
 ·have e1:i=0:=by lia
  have e2:j=1:=by lia
  rw[e1,e2];exact lt
 ·show (if (0:Nat)>0 then _ else kas_tail3 m n p).kasWp cmp Q s;rw[if_neg (by lia)];exact tail o d h (by lia) (by lia) a q
theorem place(o:Mq cmp z n s)(d:Lj z n)(h:Pm p n){k:Nat}(kn:k<n)(u:Up z p k){Q:Nat->Shared->Prop}:∀f l r,r-l<=f->l<=r->r<=k->(∀i,i<l->kz z p i<kz z p k)->(∀i,r<=i->i<k->kz z p k<kz z p i) ->
  (∀l,l<=k->(∀i,i<l->kz z p i<kz z p k)->(∀i,l<=i->i<k->kz z p k<kz z p i)->Q l s)->(kas_place p k f l r).kasWp cmp Q s
 | 0,l,r,f0,lr,rk,a,b,q=>q l (by lia) a (λi hi=>b i (by lia))
 | f+1,l,r,f0,lr,rk,a,b,q=>by
  unfold kas_place;by_cases e:l>=r
  ·rw[if_pos e];exact q l (by lia) a (λi hi=>b i (by lia))
  rw[if_neg e];refine o _ _ _ (h.lt kn) (h.lt (by lia)) ?_;have k1:=dz d h (i:=k) (j:=(l+r) / 2) kn (by lia) (by lia);by_cases c:z (p.getD k 0)<z (p.getD ((l+r) / 2) 0)
  ·rw[Cj c];have g:kz z p k<kz z p ((l+r) / 2):=c;refine place o d h kn u f l ((l+r) / 2) (by lia) (by lia) (by lia) a (λi h1 h2=>?_) q;by_cases e2:i=(l+r) / 2
   ·rw[e2];exact g
   ·have:=u ((l+r) / 2) i (by lia) h2;lia
  ·rw[Cd c];have g:¬ kz z p k<kz z p ((l+r) / 2):=c;refine place o d h kn u f ((l+r) / 2+1) r (by lia) (by lia) rk (λi h1=>?_) b q;by_cases e2:i=(l+r) / 2
   ·rw[e2];lia
   ·have:=u i ((l+r) / 2) (by lia) (by lia);lia
theorem ZV{k l:Nat}(hk:k<p.size)(hl:l<=k):(bubble p k (k-l)).getD i 0=if i=l then p.getD k 0 else if l<i/\i<=k then p.getD (i-1) 0 else p.getD i 0:=by
 have e:=aV hk (k-l) (by lia) i;rw[show k-(k-l)=l by lia]at e;rw[Ot,e];by_cases h1:i=l
 ·rw[if_pos h1,if_pos h1,<-Ot]
 ·rw[if_neg h1,if_neg h1];by_cases h2:l<i/\i<=k
  ·rw[if_pos h2,if_pos h2,<-Ot]
  ·rw[if_neg h2,if_neg h2,<-Ot]
theorem W0i{k l:Nat}(h:Pm p n):Pm (bubble p k l) n:=⟨(bubble_size _ _ _).trans h.size,(YZ.mp (bubble_perm p k l)).trans h.perm⟩
theorem bin(o:Mq cmp z n s)(d:Lj z n){Q:Array Nat->Shared->Prop}(q:∀p',Pm p' n->Up z p' n->Q p' s):∀f (p:Array Nat) k,Pm p n->k+f=n->Up z p k->(kas_bin f p k).kasWp cmp Q s
 | 0,p,k,h,e,u=>q p h (by rw[<-e];exact u)
 | f+1,p,k,h,e,u=>by
  unfold kas_bin;rw[KasT.kasWp_bind];refine place o d h (by lia) u k 0 k (by lia) (by lia) (Bc _) (λi hi=>by lia) (λi h1 h2=>by lia) (λl g a b=>?_);refine bin o d q f _ (k+1) (W0i h) (by lia) (λi j m r=>?_);have c:k<p.size:=by rw[h.size];lia
  unfold kz;rw[ZV c g,ZV c g];by_cases i1:i=l
  ·rw[if_pos i1,if_neg (by lia),if_pos (by lia)];exact b (j-1) (by lia) (by lia)
  ·rw[if_neg i1];by_cases j1:j=l
   ·rw[if_pos j1,if_neg (by lia)];exact a i (by lia)
   ·rw[if_neg j1];by_cases i2:l<i/\i<=k
    ·rw[if_pos i2,if_pos (by lia)];exact u (i-1) (j-1) (by lia) (by lia)
    ·rw[if_neg i2];by_cases j2:l<j/\j<=k
     ·rw[if_pos j2];by_cases e3:i=j-1
      ·lia
      ·exact u i (j-1) (by lia) (by lia)
     ·rw[if_neg j2];exact u i j m (by lia)
theorem uQ(n:Nat):Pm (List.toArray (List.range n)) n:=⟨by simp,by simp⟩
theorem sort(o:Mq cmp z n s)(d:Lj z n)(n2:2<=n){Q:Array Nat->Shared->Prop}(q:∀a,Pm a n->Up z a n->Q a s):(kas_sort n).kasWp cmp Q s:=by
 unfold kas_sort;rw[KasT.kasWp_bind];refine count o d (uQ n) n2 (λr a h1 c b u=>?_);show (if r<n then kas_bin (n-max r 1) a (max r 1) else .ret a).kasWp cmp Q s;by_cases e:r<n
 ·rw[if_pos e,show max r 1=r by lia];exact bin o d q _ a r h1 (by lia) u
 ·rw[if_neg e];have:r=n:=by lia
  subst this;exact q a h1 u
end Sr
namespace Tg
open PySem.W
variable {prog:U8}{w:W3}{A:W8}{E:U2}{s:U7}{κ:SortKind}{ky:Keyed->Int}{V:Keyed->Prop}{st:SortSt}
def Ask (prog:U8)(w:W3)(A:W8)(s:U7)(κ:SortKind)(ky:Keyed->Int)(V:Keyed->Prop):Prop :=
 ∀x y,V x->V y->∀C:Bool->Shared->Prop,C (decide (ky x<ky y)) s->wpAny (model prog w) A (keyLt' κ x.1 y.1) C (λ_ _=>False) s
variable{Q:Option Bool->SortSt->Prop}
theorem Wx(o:Ask prog w A s κ ky V){x y:Keyed}(k:kindOf st=κ)(vx:V x)(vy:V y)(h:Q (some (decide (ky x<ky y))) st):wpS (model prog w) A E s (lt' x y) Q st:=by
 rw[lt'_eq];refine BK (Hj ?_);rw[k];refine BK (Oe (RT (Eb (o x y vx vy (λb s'=>s'=s/\b=decide (ky x<ky y)) ⟨O,O⟩) (λb s' e=>⟨e.1,?_⟩) λ_ _ e=>e.elim)));rw[e.2];exact Bg h
theorem GD{xs:Array Keyed}{i:Nat}{x:Keyed}(e:xs[i]?=some x){Q:Keyed->SortSt->Prop}(h:Q x st):wpS (model prog w) A E s (elem' xs i) Q st:=by
 rw[elem'_eq,e];exact Bg h
noncomputable def gal:Bool->Keyed->Array Keyed->Nat->Nat->Nat->StateT SortSt Sem (Option Nat):=sortPriv% PySem.Builtin.gallop
structure Zv (ky:Keyed->Int) (V:Keyed->Prop) (left:Bool) (key:Keyed) (arr:Array Keyed) (base n T:Nat):Prop where
 at_:∀i,i<n->∃x,arr[base+i]?=some x/\V x/\((if left=true then ky x<ky key else ky x<=ky key)↔i<T)
 le:T<=n
variable{arr:Array Keyed}{base n T:Nat}
theorem W0n(o:Ask prog w A s κ ky V){left:Bool}{key:Keyed}{i:Nat}(k:kindOf st=κ)(vk:V key)(B:Zv ky V left key arr base n T)(hi:i<n)(h:Q (some (decide (i<T))) st):
  wpS (model prog w) A E s (do let x ← elem' arr (base+i);if left=true then lt' x key else do { let r ← lt' key x;pure (r.map λb=>!b)}) Q st:=by
 obtain⟨x,e,c,a⟩:=B.at_ i hi;refine BK (GD e ?_);cases left with
 | true =>
  rw[if_pos rfl]at a ⊢;refine Wx o k c vk ?_;rw[decide_eq_decide.mpr a];exact h
 | false =>
  rw[if_neg DK]at a ⊢;refine BK (Wx o k vk c (Bg ?_));show Q (some (!decide (ky key<ky x))) st;rw[show (!decide (ky key<ky x))=decide (i<T) by rw[<-decide_not];exact decide_eq_decide.mpr (by rw[<-a];lia)];exact h
theorem wK{M:Model}{f:Nat->Option (Option Nat)×Nat×Nat->StateT SortSt Sem (ForInStep (Option (Option Nat)×Nat×Nat))}{lo hi:Nat}
  (hf:∀x lo hi (Q:ForInStep (Option (Option Nat)×Nat×Nat)->SortSt->Prop),hi<=n->(lo>=hi->Q (.done (none,lo,hi)) st)->(lo<hi->lo+(hi-lo) / 2<T->Q (.yield (none,lo+(hi-lo) / 2+1,hi)) st)->(lo<hi->¬ lo+(hi-lo) / 2<T->Q (.yield (none,lo,lo+(hi-lo) / 2)) st)->wpS M A E s (f x (none,lo,hi)) Q st)
  (h1:lo<=T) (h2:T<=hi) (b:hi<=n) {Q:Option (Option Nat)×Nat×Nat->SortSt->Prop} (h:∀lo,Q (none,lo,T) st):wpS M A E s (forIn [:n] (none,lo,hi) f) Q st:=by
 refine HW (λx c a=>a=st/\∃lo hi,c=(none,lo,hi)/\lo<=T/\T<=hi/\hi<=n/\hi-lo<=n-x) ?_ ?_ ⟨O,lo,hi,O,h1,h2,b,by lia⟩
 ·rintro x c a _ g ⟨rfl,lo,hi,rfl,h1,h2,b,d⟩;refine hf x lo hi _ b (λe=>?_) (λe q=>⟨O,_,_,O,by lia,h2,b,by lia⟩) (λe q=>⟨O,_,_,O,h1,by lia,by lia,by lia⟩);have:hi=T:=by lia
  subst this;exact h lo
 ·rintro c a ⟨rfl,lo,hi,rfl,h1,h2,b,d⟩;have:hi=T:=by lia
  subst this;exact h lo
theorem R8(o:Ask prog w A s κ ky V){left:Bool}{key:Keyed}{hint:Nat}(k:kindOf st=κ)(vk:V key)(B:Zv ky V left key arr base n T)(hn:hint<n){Q:Option Nat->SortSt->Prop}(h:Q (some T) st):wpS (model prog w) A E s (gal left key arr base n hint) Q st:=by
 have g:∀i,i<n->∀Q:Option Bool->SortSt->Prop,Q (some (decide (i<T))) st->wpS (model prog w) A E s (do let x ← elem' arr (base+i);if left=true then lt' x key else do { let r ← lt' key x;pure (r.map λb=>!b)}) Q st:=λi hi Q q=>W0n o k vk B hi q;have tn:=B.le;refine BK (g _ hn _ ?_);dsimp only;by_cases q:hint<T
 ·rw[Cj q,if_pos rfl];refine BK (HF (HW (Q:=λc d=>d=st/\∃f of,c=(none,f,of)/\hint+f+1<=T/\T<=hint+min of (n-hint)) (λx c d=>d=st/\∃f of,c=(none,f,of)/\hint+f<T/\x+1<=of) ?_ ?_ ⟨O,0,1,O,q,by lia⟩) ?_)
  ·rintro x c d _ l ⟨rfl,f,of,rfl,h1,h2⟩;dsimp only;by_cases e:of>=n-hint
   ·rw[if_pos e];exact Bg ⟨O,_,_,O,h1,by lia⟩
   ·rw[if_neg e];refine BK (g _ (by lia) _ ?_);dsimp only;by_cases q2:hint+of<T
    ·rw[Cj q2];exact Bg ⟨O,_,_,O,q2,by lia⟩
    ·rw[Cd q2];exact Bg ⟨O,_,_,O,h1,by lia⟩
  ·rintro c d ⟨rfl,f,of,rfl,h1,h2⟩;exact⟨O,_,_,O,h1,by lia⟩
  ·rintro c d ⟨rfl,f,of,rfl,h1,h2⟩;dsimp only;refine BK (wK (T:=T) (λx lo hi Q j a b c=>?_) h1 h2 (by lia) λlo=>?_)
   ·dsimp only;by_cases e:lo>=hi
    ·rw[if_pos e];exact Bg (a e)
    ·rw[if_neg e];refine BK (g _ (by lia) _ ?_);dsimp only;by_cases q2:lo+(hi-lo) / 2<T
     ·rw[Cj q2];exact Bg (b (by lia) q2)
     ·rw[Cd q2];exact Bg (c (by lia) q2)
   ·exact Bg h
 ·rw[Cd q,if_neg DK];refine BK (HF (HW (Q:=λc d=>d=st/\∃f of,c=(none,f,of)/\hint+1-min of (hint+1)<=T/\T<=hint-f/\f<=hint) (λx c d=>d=st/\∃f of,c=(none,f,of)/\T<=hint-f/\f<=hint/\x+1<=of) ?_ ?_ ⟨O,0,1,O,by lia,by lia,by lia⟩) ?_)
  ·rintro x c d _ l ⟨rfl,f,of,rfl,h1,h2,j⟩;dsimp only;by_cases e:of>=hint+1
   ·rw[if_pos e];exact Bg ⟨O,_,_,O,by lia,h1,h2⟩
   ·rw[if_neg e];refine BK (g _ (by lia) _ ?_);dsimp only;by_cases q2:hint-of<T
    ·rw[Cj q2];exact Bg ⟨O,_,_,O,by lia,h1,h2⟩
    ·rw[Cd q2];exact Bg ⟨O,_,_,O,by lia,by lia,by lia⟩
  ·rintro c d ⟨rfl,f,of,rfl,h1,h2,j⟩;exact⟨O,_,_,O,by lia,h1,h2⟩
  ·rintro c d ⟨rfl,f,of,rfl,h1,h2,j⟩;dsimp only;refine BK (wK (T:=T) (λx lo hi Q j a b c=>?_) h1 h2 (by lia) λlo=>?_)
   ·dsimp only;by_cases e:lo>=hi
    ·rw[if_pos e];exact Bg (a e)
    ·rw[if_neg e];refine BK (g _ (by lia) _ ?_);dsimp only;by_cases q2:lo+(hi-lo) / 2<T
     ·rw[Cj q2];exact Bg (b (by lia) q2)
     ·rw[Cd q2];exact Bg (c (by lia) q2)
   ·exact Bg h
variable {ky:Keyed->Int}{V:Keyed->Prop}
def Ci (ky:Keyed->Int)(l:List Keyed):Prop:=l.Pairwise λx y=>ky x<=ky y
def Mg (ky:Keyed->Int)(a b:Array Keyed)(r:Array Keyed):Prop:=r.toList.Perm (a.toList++b.toList)/\Ci ky r.toList
structure Two (ky:Keyed->Int) (V:Keyed->Prop) (a b:Array Keyed):Prop where
 sa:Ci ky a.toList
 sb:Ci ky b.toList
 va:∀x∈a.toList,V x
 vb:∀x∈b.toList,V x
 last:∀x y,a[a.size-1]?=some x->y∈b.toList->ky y<ky x
 first:∀x y,b[0]?=some y->x∈a.toList->ky y<ky x
structure Inv (ky:Keyed->Int) (a b out:List Keyed) (i j:Nat):Prop where
 perm:(out++a.drop i++b.drop j).Perm (a++b)
 srt:Ci ky out
 le:∀x∈out,∀y,y∈a.drop i\/y∈b.drop j->ky x<=ky y
variable {a b out:List Keyed}{i j k:Nat}
theorem Nv(h:Ci ky a)(i:Nat):Ci ky (a.drop i):=h.sublist (List.drop_sublist _ _)
theorem Pb(h:Ci ky a)(i:Nat):Ci ky (a.take i):=h.sublist (List.take_sublist _ _)
theorem Wf(h:Ci ky a)(i:Nat):∀x∈a.take i,∀y∈a.drop i,ky x<=ky y:=by
 unfold Ci at h;rw[<-Ru i a]at h;exact(JV.mp h).2.2
theorem Inv.takeA(I:Inv ky a b out i j)(sa:Ci ky a)(h:∀x∈(a.drop i).take k,∀y∈b.drop j,ky x<=ky y):Inv ky a b (out++(a.drop i).take k) (i+k) j:=by
 have e:=Nv sa i;refine⟨?_,JV.mpr ⟨I.srt,Pb e k,λx d y c=>I.le x d y (.inl (Rr c))⟩,λx d y c=>?_⟩
 ·rw[MF out,show a.drop (i+k)=(a.drop i).drop k by rw[RX],Ru];exact I.perm
 ·rw[show a.drop (i+k)=(a.drop i).drop k by rw[RX]]at c;rcases Gw.mp d with d | d
  ·exact I.le x d y (c.imp_left bM)
  ·rcases c with c | c
   ·exact Wf e k x d y c
   ·exact h x d y c
theorem Inv.takeB(I:Inv ky a b out i j)(sb:Ci ky b)(h:∀x∈(b.drop j).take k,∀y∈a.drop i,ky x<=ky y):Inv ky a b (out++(b.drop j).take k) i (j+k):=by
 have f:=Nv sb j;have e:b.drop (j+k)=(b.drop j).drop k:=by rw[RX]
 refine⟨?_,JV.mpr ⟨I.srt,Pb f k,λx d y c=>I.le x d y (.inr (Rr c))⟩,λx d y c=>?_⟩
 ·have p:(out++(b.drop j).take k++a.drop i++(b.drop j).drop k).Perm (out++a.drop i++((b.drop j).take k++(b.drop j).drop k)):=by
   simp only[MF];exact List.Perm.append_left out (pN _ _ _)
  rw[Ru]at p;rw[e];exact p.trans I.perm
 ·rw[e]at c;rcases Gw.mp d with d | d
  ·exact I.le x d y (c.imp_right bM)
  ·rcases c with c | c
   ·exact h x d y c
   ·exact Wf f k x d y c
theorem Inv.done(I:Inv ky a b out i j)(sa:Ci ky a)(h:b.length<=j):(out++a.drop i++b.drop j).Perm (a++b)/\Ci ky (out++a.drop i++b.drop j):=by
 refine⟨I.perm,?_⟩;rw[bT h,M4];exact JV.mpr ⟨I.srt,Nv sa i,λx d y c=>I.le x d y (.inl c)⟩
theorem Inv.last(I:Inv ky a b out i j)(sa:Ci ky a)(sb:Ci ky b)(h:∀x∈a.drop i,∀y∈b,ky y<=ky x):(out++b.drop j++a.drop i).Perm (a++b)/\Ci ky (out++b.drop j++a.drop i):=by
 refine⟨List.Perm.trans ?_ I.perm,?_⟩
 ·rw[MF,MF];exact List.Perm.append_left out qC
 ·refine JV.mpr ⟨JV.mpr ⟨I.srt,Nv sb j,λx c y d=>I.le x c y (.inr d)⟩,Nv sa i,λx c y d=>?_⟩;rcases Gw.mp c with c | c
  ·exact I.le x c y (.inl d)
  ·exact h y d x (bM c)
theorem XD{key:Keyed}{arr:Array Keyed}{left:Bool}(base:Nat)(sr:Ci ky arr.toList)(v:∀x∈arr.toList,V x):∀n,base+n<=arr.size->∃T,Zv ky V left key arr base n T
 | 0,_=>⟨0,λi hi=>absurd hi (Ly _),Bc _⟩
 | n+1,hn=>by
  obtain⟨T,B⟩:=XD (left:=left) base sr v n (by lia);have at_:∀i,i<n+1->arr[base+i]?=some arr.toList[base+i]!/\V arr.toList[base+i]!:=λi hi=>by
   have l:base+i<arr.size:=by lia
   have e:(arr.toList[base+i]!)=arr[base+i]:=by simp[l]
   rw[e];exact⟨by simp[l],v _ (bf l)⟩
  obtain⟨e,b⟩:=at_ n (by lia);have mono:∀i x,i<n->arr[base+i]?=some x->ky x<=ky arr.toList[base+n]!:=λi x hi c=>by
   have l:base+n<arr.size:=by lia
   obtain⟨a,d⟩:=JW.mp c;have:=MJ.mp sr (base+i) (base+n) (by simpa using a) (by simpa using l) (by lia);rw[Gz,Gz,d]at this;simpa [l] using this
  by_cases q:(if left=true then ky arr.toList[base+n]!<ky key else ky arr.toList[base+n]!<=ky key)
  ·refine⟨n+1,λi hi=>?_,Bc _⟩;obtain⟨e1,v1⟩:=at_ i hi;refine⟨_,e1,v1,⟨λ_=>hi,λ_=>?_⟩⟩;by_cases z:i=n
   ·rw[z];exact q
   ·have:=mono i _ (by lia) e1;cases left
    ·simp only[M8,Ir]at q ⊢;lia
    ·simp only[J0]at q ⊢;lia
  ·refine⟨T,λi hi=>?_,Nat.le_succ_of_le B.le⟩;by_cases z:i=n
   ·subst z;exact⟨_,e,b,⟨λy=>absurd y q,λy=>absurd B.le (by lia)⟩⟩
   ·exact B.at_ i (by lia)
end Tg
namespace Tg
theorem Yx{α β:Type}{R Y:α->β->Prop}{G:Prop}(h:(∀u v,R u v->Y u v)->G)(b:∀u v,R u v->Y u v):G:=h b
theorem rZ{Y:Nat->Prop}{G:Prop}(h:(∀g,Y g)->G)(b:∀g,Y g):G:=h b
open PySem.W
variable {prog:U8}{w:W3}{A:W8}{E:U2}{s:U7}{κ:SortKind}{ky:Keyed->Int}{V:Keyed->Prop}{st:SortSt}
structure Sg (st st':SortSt):Prop where
 kind:kindOf st'=kindOf st
 arr:arrOf st'=arrOf st
 pend:pendingOf st'=pendingOf st
 fail:failedOf st'=failedOf st
variable {a b out:Array Keyed}{i j k:Nat}{x y:Keyed}
theorem ZX(a:Array Keyed)(i k:Nat):(a.extract i (i+k)).toList=(a.toList.drop i).take k:=by
 rw[Vb];show (a.toList.drop i).take (i+k-i)=_;rw[pA]
theorem Yp(a:Array Keyed)(i:Nat):(a.extract i).toList=a.toList.drop i:=by
 rw[Vb];show (a.toList.drop i).take (a.size-i)=_;rw[Rv (by simp)]
theorem Nm(h:a[i]?=some x):a.toList.drop i=x::a.toList.drop (i+1):=by
 obtain⟨l,e⟩:=JW.mp h;rw[b_ (by simpa using l),Gz,e]
theorem Nj(h:a[i]?=some x):(a.toList.drop i).take 1=[x]:=by rw[Nm h];rfl
theorem G9(h:i<a.size):∃x,a[i]?=some x:=⟨a[i],by simp[h]⟩
theorem Ih(h:a[i]?=some x):x∈a.toList:=by
 obtain⟨l,e⟩:=JW.mp h;rw[<-e];exact bf l
theorem Sv(sr:Ci ky a.toList)(h:a[i]?=some x):∀z∈a.toList.drop i,ky x<=ky z:=λz b=>by
 rw[Nm h]at b;rcases DY.mp b with rfl | b
 ·exact Gf _
 ·have:=Nv sr i;unfold Ci at this;rw[Nm h]at this;exact(List.pairwise_cons.mp this).1 z b
theorem SJ{z:Keyed}(h:z∈(a.toList.drop i).take k):∃t,t<k/\a[i+t]?=some z:=by
 obtain⟨t,l,e⟩:=List.getElem_of_mem h;rw[J_]at l;refine⟨t,by lia,?_⟩;rw[VJ,VH,Gz]at e;rw[<-e];have:i+t<a.size:=by
  have:=(show t<min k (a.toList.drop i).length from l);rw[Rh,Ep]at this;lia
 simp[this]
structure Lo (ky:Keyed->Int) (a b out:Array Keyed) (i j:Nat):Prop where
 inv:Inv ky a.toList b.toList out.toList i j
 ia:i+1<a.size
 jb:j<b.size
theorem Inv.pushB(I:Inv ky a.toList b.toList out.toList i j)(T:Two ky V a b)(hy:b[j]?=some y)(h:∀z∈a.toList.drop i,ky y<=ky z):Inv ky a.toList b.toList (out.push y).toList i (j+1):=by
 have:=I.takeB (k:=1) T.sb (λz c q d=>by rw[Nj hy]at c;rw[GK.mp c];exact h q d);rw[Nj hy]at this;rw[X6];exact this
theorem Inv.pushA(I:Inv ky a.toList b.toList out.toList i j)(T:Two ky V a b)(hx:a[i]?=some x)(h:∀z∈b.toList.drop j,ky x<=ky z):Inv ky a.toList b.toList (out.push x).toList (i+1) j:=by
 have:=I.takeA (k:=1) T.sa (λz c q d=>by rw[Nj hx]at c;rw[GK.mp c];exact h q d);rw[Nj hx]at this;rw[X6];exact this
theorem Inv.mgD(I:Inv ky a.toList b.toList out.toList i j)(T:Two ky V a b)(h:j=b.size):Mg ky a b (out++a.extract i++b.extract j):=by
 unfold Mg;rw[KH,KH,Yp,Yp];exact I.done T.sa (by rw[Ep];lia)
theorem Inv.mgL(I:Inv ky a.toList b.toList out.toList i j)(T:Two ky V a b)(h:i+1=a.size):Mg ky a b (out++b.extract j++a.extract i):=by
 unfold Mg;rw[KH,KH,Yp,Yp];refine I.last T.sa T.sb λx c y d=>Lw (T.last x y ?_ d);obtain⟨q,e⟩:=G9 (a:=a) (i:=i) (by lia);rw[Nm e,bT (by rw[Ep];lia)]at c;rw[GK.mp c,show a.size-1=i by lia];exact e
noncomputable def yg:Array Keyed->Array Keyed->StateT SortSt Sem (Array Keyed):=sortPriv% PySem.Builtin.mergeLo
theorem X8v(o:Ask prog w A s κ ky V)(k:kindOf st=κ)(T:Two ky V a b)(na:0<a.size)(nb:0<b.size){Q:Array Keyed->SortSt->Prop}(h:∀r d,Sg st d->Mg ky a b r->Q r d):wpS (model prog w) A E s (yg a b) Q st:=by
 refine BK (Oe (Mx ⟨O,?_⟩));obtain⟨y0,J⟩:=G9 nb;refine BK (GD J ?_);have I0:Inv ky a.toList b.toList (#[]:Array Keyed).toList 0 0:=⟨List.Perm.refl _,List.Pairwise.nil,λx m=>nomatch m⟩;have I1:=I0.pushB T J (λz f=>Lw (T.first z y0 J f));dsimp only;by_cases e1:(1 == b.size)=true
 ·rw[if_pos e1];exact Bg (h _ _ ⟨O,O,O,O⟩ (I1.mgD T (Fo e1)))
 rw[if_neg e1];have e1:1≠b.size:=λz=>e1 (by rw[<-z];rfl);by_cases e2:(0+1 == a.size)=true
 ·rw[if_pos e2];exact Bg (h _ _ ⟨O,O,O,O⟩ (I1.mgL T (Fo e2)))
 rw[if_neg e2];have e2:0+1≠a.size:=λz=>e2 (by rw[<-z];rfl);refine BK (Hj ?_);have L1:Lo ky a b ((#[]:Array Keyed).push y0) 0 1:=⟨I1,by lia,by lia⟩;refine BK (HF (HW (Q:=λc d=>Sg st d/\∃r,c.1=some r/\Mg ky a b r) (λt c d=>Sg st d/\c.1=none/\Lo ky a b c.2.1 c.2.2.1 c.2.2.2.1/\t+1<=c.2.2.1+c.2.2.2.1) ?_ ?_ ⟨⟨O,O,O,O⟩,O,L1,by show 0+1<=0+1;lia⟩) ?_)
 ·rintro t ⟨r0,out,i,j,g⟩ G _ ht ⟨Z,rfl,L,pr⟩;dsimp only at L pr ⊢;refine BK (HF (HW (Q:=λc d=>Sg st d/\((∃r,c.1=some r/\Mg ky a b r)\/c.1=none/\Lo ky a b c.2.1 c.2.2.1 c.2.2.2.1/\t+2<=c.2.2.1+c.2.2.2.1)) (λu c d=>Sg st d/\c.1=none/\Lo ky a b c.2.1 c.2.2.1 c.2.2.2.1/\t+1<=c.2.2.1+c.2.2.2.1/\(0<u->t+2<=c.2.2.1+c.2.2.2.1)) ?_ ?_ ⟨Z,O,L,pr,λz=>absurd z (by lia)⟩) ?_)
  ·rintro u ⟨r,out,i,j,P,S⟩ N _ hu ⟨p,rfl,D,p1,p2⟩;dsimp only at D p1 p2 ⊢;have l1:=D.ia;have l2:=D.jb;have kd:=p.kind.trans k;obtain⟨y,n⟩:=G9 l2;obtain⟨x,m⟩:=G9 (a:=a) (i:=i) (by lia);refine BK (GD n (BK (GD m (BK (Wx o kd (T.vb _ (Ih n)) (T.va _ (Ih m)) ?_)))));dsimp only;by_cases q:ky y<ky x
   ·rw[Cj q,if_pos rfl];refine BK (GD n ?_);have I:=D.inv.pushB T n λz f=>J3 (Lw q) (Sv T.sa m z f);by_cases e:(j+1 == b.size)=true
    ·rw[if_pos e];exact Bg ⟨p,.inl ⟨_,O,I.mgD T (Fo e)⟩⟩
    rw[if_neg e];have e:j+1≠b.size:=λz=>e (by rw[<-z];exact Ri _);split
    ·exact Bg ⟨p,.inr ⟨O,⟨I,l1,by dsimp only;lia⟩,by dsimp only;lia⟩⟩
    ·exact Bg ⟨p,O,⟨I,l1,by dsimp only;lia⟩,by dsimp only;lia,λ_=>by dsimp only;lia⟩
   ·rw[Cd q,if_neg DK];refine BK (GD m ?_);have I:=D.inv.pushA T m λz f=>J3 (Int.not_lt.mp q) (Sv T.sb n z f);by_cases e:(i+1+1 == a.size)=true
    ·rw[if_pos e];exact Bg ⟨p,.inl ⟨_,O,I.mgL T (Fo e)⟩⟩
    rw[if_neg e];have e:i+1+1≠a.size:=λz=>e (by rw[<-z];exact Ri _);split
    ·exact Bg ⟨p,.inr ⟨O,⟨I,by dsimp only;lia,l2⟩,by dsimp only;lia⟩⟩
    ·exact Bg ⟨p,O,⟨I,by dsimp only;lia,l2⟩,by dsimp only;lia,λ_=>by dsimp only;lia⟩
  ·rintro ⟨r,out,i,j,P,S⟩ N ⟨p,rfl,D,p1,p2⟩;exact⟨p,.inr ⟨O,D,p2 (by lia)⟩⟩
  ·rintro ⟨r,out,i,j,P,S⟩ N ⟨p,h2⟩;rcases h2 with ⟨r,rfl,Y⟩ | ⟨rfl,D,p2⟩
   ·exact Bg ⟨p,r,O,Y⟩
   ·dsimp only at D p2 ⊢;refine BK (Oe (Mx ⟨O,?_⟩));refine BK (HF (HW (Q:=λc d=>Sg st d/\((∃r,c.1=some r/\Mg ky a b r)\/c.1=none/\Lo ky a b c.2.1 c.2.2.1 c.2.2.2.1/\t+2<=c.2.2.1+c.2.2.2.1)) (λu c d=>Sg st d/\c.1=none/\Lo ky a b c.2.1 c.2.2.1 c.2.2.2.1/\t+2<=c.2.2.1+c.2.2.2.1) ?_ ?_ ⟨p,O,D,p2⟩) ?_)
    ·rintro u ⟨r,out,i,j,g,P,S⟩ U _ hu ⟨S3,rfl,C,W⟩;dsimp only at C W ⊢;have l1:=C.ia;have l2:=C.jb;obtain⟨y,n⟩:=G9 l2;have vy:=T.vb _ (Ih n);obtain⟨tA,X⟩:=XD (V:=V) (key:=y) (left:=false) i T.sa T.va (a.size-i) (by lia);have ta:tA+1<=a.size-i:=by
      apply Classical.byContradiction;intro z;obtain⟨x,m,_,ix⟩:=X.at_ (a.size-i-1) (by lia);have:=ix.mpr (by have:=X.le;lia);rw[if_neg DK]at this;have:=T.last x y (by rw[<-m];congr 1;lia) (Ih n);lia
     obtain⟨x,m,vx,ix⟩:=X.at_ tA (by lia);have xy:ky y<ky x:=by
      have:¬ ky x<=ky y:=λz=>absurd (ix.mp (by rw[if_neg DK];exact z)) (J4 _);lia
     have IA:Inv ky a.toList b.toList (out++a.extract i (i+tA)).toList (i+tA) j:=by
      rw[KH,ZX];refine C.inv.takeA T.sa λz f q hq=>?_;obtain⟨t',M,e'⟩:=SJ f;obtain⟨z',e2,_,iz⟩:=X.at_ t' (by lia);rw[e']at e2;cases e2;have:=iz.mpr M;rw[if_neg DK]at this;exact J3 this (Sv T.sb n q hq)
     have xl:=Sv T.sa m;apply rZ
     case h =>
      intro F;by_cases gg:g>1
      ·rw[if_pos gg];generalize g-1=g1;exact F g1
      ·rw[if_neg gg];exact F g
     intro g1;refine BK (Jj ?_);refine BK (GD n (BK (R8 o (by exact S3.kind.trans k) vy X (show 0<a.size-i by lia) ?_)));dsimp only;apply Yx (R:=λ(u:Array Keyed) (v:Nat)=>Inv ky a.toList b.toList u.toList v j/\v+1<a.size/\a[v]?=some x/\i<=v)
     case h =>
      intro F;by_cases k0:tA>0
      ·rw[if_pos k0];by_cases q1:(i+tA+1 == a.size)=true
       ·rw[if_pos q1];exact Bg ⟨⟨S3.kind,S3.arr,S3.pend,S3.fail⟩,.inl ⟨_,O,IA.mgL T (Fo q1)⟩⟩
       rw[if_neg q1,if_neg (λz=>by have:=Fo z;lia)];simp only[HS]at q1;have H:Inv ky a.toList b.toList (out++a.extract i (i+tA)).toList (i+tA) j/\i+tA+1<a.size/\a[i+tA]?=some x/\i<=i+tA:=⟨IA,by lia,m,by lia⟩;generalize out++a.extract i (i+tA)=u at H ⊢;generalize i+tA=v at H ⊢;exact F u v H
      ·rw[if_neg k0];have z:tA=0:=by lia
       exact F out i ⟨C.inv,l1,by rw[z]at m;exact m,Bc _⟩
     rintro u v ⟨I2,h2,hv,iv⟩;have xl:=Sv T.sa hv;refine BK (GD n ?_);have I3:=I2.pushB T n λz f=>J3 (Lw xy) (xl z f);by_cases q2:(j+1 == b.size)=true
     ·rw[if_pos q2];exact Bg ⟨⟨S3.kind,S3.arr,S3.pend,S3.fail⟩,.inl ⟨_,O,I3.mgD T (Fo q2)⟩⟩
     rw[if_neg q2];simp only[HS]at q2;obtain⟨tB,BB⟩:=XD (V:=V) (key:=x) (left:=true) (j+1) T.sb T.vb (b.size-(j+1)) (by lia);have tb:=BB.le;refine BK (GD hv (BK (R8 o (by exact S3.kind.trans k) vx BB (show 0<b.size-(j+1) by lia) ?_)));dsimp only;have IB:=I3.takeB (k:=tB) T.sb λz f q hq=>by
      obtain⟨t',M,e'⟩:=SJ f;obtain⟨z',e2,_,iz⟩:=BB.at_ t' (by lia);rw[e']at e2;cases e2;have:=iz.mpr M;rw[if_pos rfl]at this;exact J3 (Lw this) (xl q hq)
     rw[<-ZX,<-KH]at IB;have B:∀z∈b.toList.drop (j+1+tB),ky x<=ky z:=λz f=>by
      by_cases l:j+1+tB<b.size
      ·obtain⟨y',a0,_,iy⟩:=BB.at_ tB (by lia);have:¬ ky y'<ky x:=λq=>absurd (iy.mp (by rw[if_pos rfl];exact q)) (J4 _);have:=Sv T.sb a0 z f;lia
      ·rw[bT (by rw[Ep];lia)]at f;cases f
     apply Yx (R:=λ(u':Array Keyed) (K:Nat)=>Inv ky a.toList b.toList u'.toList v K/\K<b.size/\(∀z∈b.toList.drop K,ky x<=ky z)/\j+1<=K)
     case h =>
      intro F;by_cases k1:tB>0
      ·rw[if_pos k1];by_cases q3:(j+1+tB == b.size)=true
       ·rw[if_pos q3];exact Bg ⟨⟨S3.kind,S3.arr,S3.pend,S3.fail⟩,.inl ⟨_,O,IB.mgD T (Fo q3)⟩⟩
       rw[if_neg q3];simp only[HS]at q3;have H:Inv ky a.toList b.toList (u.push y++b.extract (j+1) (j+1+tB)).toList v (j+1+tB)/\j+1+tB<b.size/\(∀z∈b.toList.drop (j+1+tB),ky x<=ky z)/\j+1<=j+1+tB:=⟨IB,by lia,B,by lia⟩;generalize u.push y++b.extract (j+1) (j+1+tB)=u' at H ⊢;generalize j+1+tB=K at H ⊢;exact F u' K H
      ·rw[if_neg k1];have z:tB=0:=by lia
       exact F _ (j+1) ⟨I3,by lia,by rw[z]at B;exact B,Bc _⟩
     rintro u' K ⟨I5,h5,B,jl⟩;refine BK (GD hv ?_);have I6:=I5.pushA T hv B;split
     ·rename_i q4;exact Bg ⟨⟨S3.kind,S3.arr,S3.pend,S3.fail⟩,.inl ⟨_,O,I6.mgL T (Fo q4)⟩⟩
     ·rename_i q4;simp only[HS]at q4;split
      ·exact Bg ⟨⟨S3.kind,S3.arr,S3.pend,S3.fail⟩,.inr ⟨O,⟨I6,by dsimp only;lia,h5⟩,by dsimp only;lia⟩⟩
      ·exact Bg ⟨⟨S3.kind,S3.arr,S3.pend,S3.fail⟩,O,⟨I6,by dsimp only;lia,h5⟩,by dsimp only;lia⟩
    ·rintro ⟨r,out,i,j,g,P,S⟩ U ⟨S3,rfl,C,W⟩;exact⟨S3,.inr ⟨O,C,W⟩⟩
    ·rintro ⟨r,out,i,j,g,P,S⟩ U ⟨S3,h3⟩;rcases h3 with ⟨r,rfl,Y⟩ | ⟨rfl,C,W⟩
     ·exact Bg ⟨S3,r,O,Y⟩
     ·dsimp only at C W ⊢;exact BK (Jj (Bg ⟨⟨S3.kind,S3.arr,S3.pend,S3.fail⟩,O,C,by dsimp only;omega⟩))
 ·rintro ⟨r0,out,i,j,g⟩ G ⟨Z,rfl,L,pr⟩;dsimp only at L pr;have:=L.ia;have:=L.jb;lia
 ·rintro ⟨r0,out,i,j,g⟩ G ⟨Z,r,rfl,Y⟩;exact Bg (h r G Z Y)
end Tg
namespace Tg
open PySem.W
section
variable {ky:Keyed->Int}{V:Keyed->Prop}
structure C_ (ky:Keyed->Int) (a b R:List Keyed) (m n:Nat):Prop where
 perm:(a.take m++b.take n++R).Perm (a++b)
 srt:Ci ky R
 le:∀y,y∈a.take m\/y∈b.take n->∀x∈R,ky y<=ky x
variable {a b R:List Keyed}{m n k:Nat}
theorem Ws(a:List Keyed)(m k:Nat):a.take (m+k)=a.take m++(a.drop m).take k:=List.take_add
theorem sO(sa:Ci ky a)(m k:Nat):Ci ky ((a.drop m).take k):=Pb (Nv sa m) k
theorem C_.takeA(I:C_ ky a b R (m+k) n)(sa:Ci ky a)(h:∀x∈(a.drop m).take k,∀y∈b.take n,ky y<=ky x):C_ ky a b ((a.drop m).take k++R) m n:=by
 have e:=Ws a m k;refine⟨?_,JV.mpr ⟨sO sa m k,I.srt,λx c y d=>I.le x (.inl (by rw[e];exact Ho _ c)) y d⟩,λy d x c=>?_⟩
 ·refine List.Perm.trans ?_ I.perm;rw[e];simp only[MF];exact List.Perm.append_left _ (pN _ _ _)
 ·rcases Gw.mp c with c | c
  ·rcases d with d | d
   ·exact Wf sa m y d x (Rr c)
   ·exact h x c y d
  ·exact I.le y (d.imp_left λq=>by rw[e];exact Oo _ q) x c
theorem C_.takeB(I:C_ ky a b R m (n+k))(sb:Ci ky b)(h:∀x∈(b.drop n).take k,∀y∈a.take m,ky y<=ky x):C_ ky a b ((b.drop n).take k++R) m n:=by
 have e:=Ws b n k;refine⟨?_,JV.mpr ⟨sO sb n k,I.srt,λx c y d=>I.le x (.inr (by rw[e];exact Ho _ c)) y d⟩,λy d x c=>?_⟩
 ·refine List.Perm.trans ?_ I.perm;rw[e];simp only[MF];exact List.Perm.refl _
 ·rcases Gw.mp c with c | c
  ·rcases d with d | d
   ·exact h x c y d
   ·exact Wf sb n y d x (Rr c)
  ·exact I.le y (d.imp_right λq=>by rw[e];exact Oo _ q) x c
theorem C_.done(I:C_ ky a b R 0 n)(sb:Ci ky b):Ci ky (a.take 0++b.take n++R):=by
 rw[jV,List.nil_append];exact JV.mpr ⟨Pb sb n,I.srt,λx d y c=>I.le x (.inr d) y c⟩
theorem C_.first(I:C_ ky a b R m n)(sa:Ci ky a)(sb:Ci ky b)(h:∀x∈a,∀y∈b.take n,ky y<=ky x):(b.take n++a.take m++R).Perm (a++b)/\Ci ky (b.take n++a.take m++R):=by
 refine⟨(qC.append_right R).trans I.perm,JV.mpr ⟨JV.mpr ⟨Pb sb n,Pb sa m,λx c y d=>h y (Rr d) x c⟩,I.srt,λx c y d=>?_⟩⟩;rcases Gw.mp c with c | c
 ·exact I.le x (.inr c) y d
 ·exact I.le x (.inl c) y d
end
section
variable {prog:U8}{w:W3}{A:W8}{E:U2}{s:U7}{κ:SortKind}{ky:Keyed->Int}{V:Keyed->Prop}{st:SortSt}
variable {a b out:Array Keyed}{m n k:Nat}{x y:Keyed}
abbrev HI (ky:Keyed->Int)(a b out:Array Keyed)(m n:Nat):Prop:=C_ ky a.toList b.toList out.toList.reverse m n
theorem Y4(a:Array Keyed)(m:Nat):(a.extract 0 m).toList=a.toList.take m:=by
 rw[Vb]<;>rfl
theorem WX(a:Array Keyed)(m k:Nat)(h:m<=k):(a.extract m k).toList=(a.toList.drop m).take (k-m):=by
 rw[Vb]<;>rfl
theorem ZF(sr:Ci ky a.toList)(h:a[m]?=some x):∀z∈a.toList.take (m+1),ky z<=ky x:=λz b=>by
 rw[Ws,Nj h]at b;rcases Gw.mp b with b | b
 ·exact Wf sr m z b x (by rw[Nm h];exact Ro)
 ·rw[GK.mp b];exact Gf _
theorem Sh{z:Keyed}(h:z∈a.toList.take m):∃t,t<m/\a[t]?=some z:=by
 have:=SJ (i:=0) (k:=m) (a:=a) (z:=z) (by rw[VB];exact h);obtain⟨t,l,e⟩:=this;rw[Gv]at e;exact⟨t,l,e⟩
theorem Iw(I:HI ky a b out (m+1) n)(T:Two ky V a b)(hx:a[m]?=some x)(h:∀z∈b.toList.take n,ky z<=ky x):HI ky a b (out.push x) m n:=by
 have:=C_.takeA (k:=1) I T.sa (λz c q d=>by rw[Nj hx]at c;rw[GK.mp c];exact h q d);rw[Nj hx]at this;show C_ _ _ _ _ _ _;rw[X6,YB];exact this
theorem K7(I:HI ky a b out m (n+1))(T:Two ky V a b)(hy:b[n]?=some y)(h:∀z∈a.toList.take m,ky z<=ky y):HI ky a b (out.push y) m n:=by
 have:=C_.takeB (k:=1) I T.sb (λz c q d=>by rw[Nj hy]at c;rw[GK.mp c];exact h q d);rw[Nj hy]at this;show C_ _ _ _ _ _ _;rw[X6,YB];exact this
theorem V9(I:HI ky a b out k n)(T:Two ky V a b)(mk:m<=k)(h:∀x∈(a.toList.drop m).take (k-m),∀y∈b.toList.take n,ky y<=ky x):HI ky a b (out++(a.extract m k).reverse) m n:=by
 have I:C_ ky a.toList b.toList out.toList.reverse (m+(k-m)) n:=by rw[Om mk];exact I
 show C_ _ _ _ _ _ _;rw[KH,YD,YB,List.reverse_reverse,WX _ _ _ mk];exact I.takeA T.sa h
theorem V8(I:HI ky a b out m k)(T:Two ky V a b)(nk:n<=k)(h:∀x∈(b.toList.drop n).take (k-n),∀y∈a.toList.take m,ky y<=ky x):HI ky a b (out++(b.extract n k).reverse) m n:=by
 have I:C_ ky a.toList b.toList out.toList.reverse m (n+(k-n)):=by rw[Om nk];exact I
 show C_ _ _ _ _ _ _;rw[KH,YD,YB,List.reverse_reverse,WX _ _ _ nk];exact I.takeB T.sb h
theorem hD(I:HI ky a b out m n)(T:Two ky V a b)(h:m=0):Mg ky a b (a.extract 0 m++b.extract 0 n++out.reverse):=by
 subst h;unfold Mg;rw[KH,KH,Y4,Y4,YD];exact⟨I.perm,C_.done I T.sb⟩
theorem hF(I:HI ky a b out m n)(T:Two ky V a b)(nb:0<b.size)(h:n=1):Mg ky a b (b.extract 0 n++a.extract 0 m++out.reverse):=by
 subst h;unfold Mg;rw[KH,KH,Y4,Y4,YD];refine C_.first I T.sa T.sb λx c y d=>?_
 obtain⟨t,f,e⟩:=Sh d;obtain rfl:t=0:=by lia
 exact Lw (T.first x y e c)
structure Hi (ky:Keyed->Int) (a b out:Array Keyed) (m n:Nat):Prop where
 inv:HI ky a b out m n
 m0:0<m
 mA:m<=a.size
 n1:1<n
 nB:n<=b.size
noncomputable def yj:Array Keyed->Array Keyed->StateT SortSt Sem (Array Keyed):=sortPriv% PySem.Builtin.mergeHi
theorem X8w(o:Ask prog w A s κ ky V)(k:kindOf st=κ)(T:Two ky V a b)(na:0<a.size)(nb:0<b.size){Q:Array Keyed->SortSt->Prop}(h:∀r d,Sg st d->Mg ky a b r->Q r d):wpS (model prog w) A E s (yj a b) Q st:=by
 refine BK (Oe (Mx ⟨O,?_⟩));obtain⟨x0,N⟩:=G9 (a:=a) (i:=a.size-1) (by omega);refine BK (GD N ?_);have I0:HI ky a b #[] (a.size-1+1) b.size:=by
  refine⟨?_,List.Pairwise.nil,λy _ x f=>nomatch f⟩;rw[Nat.sub_add_cancel na,Rv (by simp),Rv (by simp)];simp
 have I1:=Iw I0 T N (λz l=>Lw (T.last x0 z N (Rr l)));dsimp only;by_cases e1:(a.size-1 == 0)=true
 ·rw[if_pos e1];exact Bg (h _ _ ⟨O,O,O,O⟩ (hD I1 T (Fo e1)))
 rw[if_neg e1];simp only[HS]at e1;by_cases e2:(b.size == 1)=true
 ·rw[if_pos e2];exact Bg (h _ _ ⟨O,O,O,O⟩ (hF I1 T nb (Fo e2)))
 rw[if_neg e2];simp only[HS]at e2;refine BK (Hj ?_);have L1:Hi ky a b ((#[]:Array Keyed).push x0) (a.size-1) b.size:=⟨I1,by lia,by lia,by lia,by lia⟩;refine BK (HF (HW (Q:=λc d=>Sg st d/\∃r,c.1=some r/\Mg ky a b r) (λt c d=>Sg st d/\c.1=none/\Hi ky a b c.2.2.2.1 c.2.1 c.2.2.1/\c.2.1+c.2.2.1+t+1<=a.size+b.size) ?_ ?_ ⟨⟨O,O,O,O⟩,O,L1,by dsimp only;lia⟩) ?_)
 ·rintro t ⟨r0,i,j,out,g⟩ H _ ht ⟨S1,rfl,L,pr⟩;dsimp only at L pr ⊢;refine BK (HF (HW (Q:=λc d=>Sg st d/\((∃r,c.1=some r/\Mg ky a b r)\/c.1=none/\Hi ky a b c.2.2.2.1 c.2.1 c.2.2.1/\c.2.1+c.2.2.1+t+2<=a.size+b.size)) (λu c d=>Sg st d/\c.1=none/\Hi ky a b c.2.2.2.1 c.2.1 c.2.2.1/\c.2.1+c.2.2.1+t+1<=a.size+b.size/\(0<u->c.2.1+c.2.2.1+t+2<=a.size+b.size)) ?_ ?_ ⟨S1,O,L,pr,λz=>absurd z (by lia)⟩) ?_)
  ·rintro u ⟨r,i,j,out,W,X⟩ S _ hu ⟨C,rfl,B,p1,p2⟩;dsimp only at B p1 p2 ⊢;have l1:=B.m0;have l2:=B.n1;have l3:=B.mA;have l4:=B.nB;have kd:=C.kind.trans k;obtain⟨i,rfl⟩:∃i',i=i'+1:=⟨i-1,by lia⟩;obtain⟨j,rfl⟩:∃j',j=j'+1:=⟨j-1,by lia⟩;simp only[bD];obtain⟨y,D⟩:=G9 (a:=b) (i:=j) (by lia);obtain⟨x,f⟩:=G9 (a:=a) (i:=i) (by lia);refine BK (GD D (BK (GD f (BK (Wx o kd (T.vb _ (Ih D)) (T.va _ (Ih f)) ?_)))));dsimp only;by_cases q:ky y<ky x
   ·rw[Cj q,if_pos rfl];refine BK (GD f ?_);have I:=Iw B.inv T f λz l=>J3 (ZF T.sb D z l) (Lw q);by_cases e:(i == 0)=true
    ·rw[if_pos e];exact Bg ⟨C,.inl ⟨_,O,hD I T (Fo e)⟩⟩
    rw[if_neg e];simp only[HS]at e;split
    ·exact Bg ⟨C,.inr ⟨O,⟨I,by dsimp only;lia,by dsimp only;lia,l2,l4⟩,by dsimp only;lia⟩⟩
    ·exact Bg ⟨C,O,⟨I,by dsimp only;lia,by dsimp only;lia,l2,l4⟩,by dsimp only;lia,λ_=>by dsimp only;lia⟩
   ·rw[Cd q,if_neg DK];refine BK (GD D ?_);have I:=K7 B.inv T D λz l=>J3 (ZF T.sa f z l) (Int.not_lt.mp q);by_cases e:(j == 1)=true
    ·rw[if_pos e];exact Bg ⟨C,.inl ⟨_,O,hF I T nb (Fo e)⟩⟩
    rw[if_neg e];simp only[HS]at e;split
    ·exact Bg ⟨C,.inr ⟨O,⟨I,l1,l3,by dsimp only;lia,by dsimp only;lia⟩,by dsimp only;lia⟩⟩
    ·exact Bg ⟨C,O,⟨I,l1,l3,by dsimp only;lia,by dsimp only;lia⟩,by dsimp only;lia,λ_=>by dsimp only;lia⟩
  ·rintro ⟨r,i,j,out,W,X⟩ S ⟨C,rfl,B,p1,p2⟩;exact⟨C,.inr ⟨O,B,p2 (by lia)⟩⟩
  ·rintro ⟨r,i,j,out,W,X⟩ S ⟨C,h2⟩;rcases h2 with ⟨r,rfl,hr⟩ | ⟨rfl,B,p2⟩
   ·exact Bg ⟨C,r,O,hr⟩
   ·dsimp only at B p2 ⊢;refine BK (Oe (Mx ⟨O,?_⟩));refine BK (HF (HW (Q:=λc d=>Sg st d/\((∃r,c.1=some r/\Mg ky a b r)\/c.1=none/\Hi ky a b c.2.2.2.1 c.2.1 c.2.2.1/\c.2.1+c.2.2.1+t+2<=a.size+b.size)) (λu c d=>Sg st d/\c.1=none/\Hi ky a b c.2.2.2.1 c.2.1 c.2.2.1/\c.2.1+c.2.2.1+t+2<=a.size+b.size) ?_ ?_ ⟨C,O,B,p2⟩) ?_)
    ·rintro u ⟨r,i,j,out,g,W,X⟩ Y _ hu ⟨S3,rfl,p,p3⟩;dsimp only at p p3 ⊢;have l1:=p.m0;have l2:=p.n1;have l3:=p.mA;have l4:=p.nB;obtain⟨j,rfl⟩:∃j',j=j'+1:=⟨j-1,by lia⟩;simp only[bD];obtain⟨y,D⟩:=G9 (a:=b) (i:=j) (by lia);have vy:=T.vb _ (Ih D);have yh:=ZF T.sb D;obtain⟨tA,BA⟩:=XD (V:=V) (key:=y) (left:=false) 0 T.sa T.va i (by lia);have ta:=BA.le;have IA:=V9 p.inv T ta (m:=tA) λz l q hq=>by
      obtain⟨t',F,M⟩:=SJ l;obtain⟨z',e2,_,K⟩:=BA.at_ (tA+t') (by lia);rw[Gv,M]at e2;cases e2;have:¬ ky z<=ky y:=λq=>absurd (K.mp (by rw[if_neg DK];exact q)) (by lia);have:=yh q hq;lia
     have Z:∀z∈a.toList.take tA,ky z<=ky y:=λz l=>by
      obtain⟨t',F,M⟩:=Sh l;obtain⟨z',e2,_,K⟩:=BA.at_ t' (by lia);rw[Gv,M]at e2;cases e2;have:=K.mpr F;rw[if_neg DK]at this;exact this
     apply rZ
     case h =>
      intro G;by_cases gg:g>1
      ·rw[if_pos gg];generalize g-1=g1;exact G g1
      ·rw[if_neg gg];exact G g
     intro g1;refine BK (Jj ?_);refine BK (GD D (BK (R8 o (by exact S3.kind.trans k) vy BA (show i-1<i by lia) ?_)));dsimp only;have hk:∃kk,i-tA=kk:=⟨_,O⟩;obtain⟨kk,hk⟩:=hk;rw[hk];apply Yx (R:=λ(u:Array Keyed) (v:Nat)=>HI ky a b u v (j+1)/\0<v/\v<=i/\(∀z∈a.toList.take v,ky z<=ky y))
     case h =>
      intro G;by_cases k0:kk>0
      ·rw[if_pos k0];by_cases q1:(tA == 0)=true
       ·rw[if_pos q1];exact Bg ⟨⟨S3.kind,S3.arr,S3.pend,S3.fail⟩,.inl ⟨_,O,hD IA T (Fo q1)⟩⟩
       rw[if_neg q1];simp only[HS]at q1;have J:HI ky a b (out++(a.extract tA i).reverse) tA (j+1)/\0<tA/\tA<=i/\(∀z∈a.toList.take tA,ky z<=ky y):=⟨IA,by lia,by omega,Z⟩;generalize out++(a.extract tA i).reverse=u at J ⊢;generalize tA=v at J ⊢;exact G u v J
      ·rw[if_neg k0];have z:tA=i:=by lia
       exact G out i ⟨p.inv,by omega,Bc _,by rw[z]at Z;exact Z⟩
     rintro u v ⟨I2,v0,vi,Z⟩;obtain⟨U,e2⟩:∃U,v=U+1:=⟨v-1,by lia⟩;refine BK (GD D ?_);have I3:=K7 I2 T D Z;by_cases q2:(j == 1)=true
     ·rw[if_pos q2];exact Bg ⟨⟨S3.kind,S3.arr,S3.pend,S3.fail⟩,.inl ⟨_,O,hF I3 T nb (Fo q2)⟩⟩
     rw[if_neg q2];simp only[HS]at q2;subst e2;simp only[bD];obtain⟨x,f⟩:=G9 (a:=a) (i:=U) (by lia);have vx:=T.va _ (Ih f);have xh:=ZF T.sa f;obtain⟨tB,BB⟩:=XD (V:=V) (key:=x) (left:=true) 0 T.sb T.vb j (by lia);have tb:=BB.le;have a1:0<tB:=by
      obtain⟨y',a0,_,iy⟩:=BB.at_ 0 (by lia);exact iy.mp (by rw[if_pos rfl];exact T.first x y' a0 (Ih f))
     refine BK (GD f (BK (R8 o (by exact S3.kind.trans k) vx BB (show j-1<j by lia) ?_)));dsimp only;have IB:=V8 I3 T tb (n:=tB) λz l q hq=>by
      obtain⟨t',F,M⟩:=SJ l;obtain⟨z',e2,_,K⟩:=BB.at_ (tB+t') (by lia);rw[Gv,M]at e2;cases e2;have:¬ ky z<ky x:=λq=>absurd (K.mp (by rw[if_pos rfl];exact q)) (by lia);have:=xh q hq;lia
     have P:∀z∈b.toList.take tB,ky z<=ky x:=λz l=>by
      obtain⟨t',F,M⟩:=Sh l;obtain⟨z',e2,_,K⟩:=BB.at_ t' (by lia);rw[Gv,M]at e2;cases e2;have:=K.mpr F;rw[if_pos rfl]at this;exact Lw this
     have hj:∃kj,j-tB=kj:=⟨_,O⟩;obtain⟨kj,hj⟩:=hj;rw[hj];apply Yx (R:=λ(u:Array Keyed) (v:Nat)=>HI ky a b u (U+1) v/\1<v/\v<=j/\(∀z∈b.toList.take v,ky z<=ky x))
     case h =>
      intro G;by_cases k1:kj>0
      ·rw[if_pos k1];by_cases q3:(tB == 1)=true
       ·rw[if_pos q3];exact Bg ⟨⟨S3.kind,S3.arr,S3.pend,S3.fail⟩,.inl ⟨_,O,hF IB T nb (Fo q3)⟩⟩
       rw[if_neg q3,if_neg (λz=>by have:=Fo z;lia)];simp only[HS]at q3;have J:HI ky a b (u.push y++(b.extract tB j).reverse) (U+1) tB/\1<tB/\tB<=j/\(∀z∈b.toList.take tB,ky z<=ky x):=⟨IB,by lia,by omega,P⟩;generalize u.push y++(b.extract tB j).reverse=u' at J ⊢;generalize tB=v' at J ⊢;exact G u' v' J
      ·rw[if_neg k1];have z:tB=j:=by lia
       exact G _ j ⟨I3,by lia,Bc _,by rw[z]at P;exact P⟩
     rintro u' v' ⟨I5,v1,vj,P⟩;refine BK (GD f ?_);have I6:=Iw I5 T f P;split
     ·rename_i q4;exact Bg ⟨⟨S3.kind,S3.arr,S3.pend,S3.fail⟩,.inl ⟨_,O,hD I6 T (Fo q4)⟩⟩
     ·rename_i q4;simp only[HS]at q4;split
      ·exact Bg ⟨⟨S3.kind,S3.arr,S3.pend,S3.fail⟩,.inr ⟨O,⟨I6,by dsimp only;lia,by dsimp only;lia,by dsimp only;omega,by dsimp only;lia⟩,by dsimp only;lia⟩⟩
      ·exact Bg ⟨⟨S3.kind,S3.arr,S3.pend,S3.fail⟩,O,⟨I6,by dsimp only;lia,by dsimp only;lia,by dsimp only;omega,by dsimp only;lia⟩,by dsimp only;lia⟩
    ·rintro ⟨r,i,j,out,g,W,X⟩ Y ⟨S3,rfl,p,p3⟩;exact⟨S3,.inr ⟨O,p,p3⟩⟩
    ·rintro ⟨r,i,j,out,g,W,X⟩ Y ⟨S3,h3⟩;rcases h3 with ⟨r,rfl,hr⟩ | ⟨rfl,p,p3⟩
     ·exact Bg ⟨S3,r,O,hr⟩
     ·dsimp only at p p3 ⊢;exact BK (Jj (Bg ⟨⟨S3.kind,S3.arr,S3.pend,S3.fail⟩,O,p,by dsimp only;omega⟩))
 ·rintro ⟨r0,i,j,out,g⟩ H ⟨S1,rfl,L,pr⟩;dsimp only at L pr;lia
 ·rintro ⟨r0,i,j,out,g⟩ H ⟨S1,r,rfl,hr⟩;exact Bg (h r H S1 hr)
end
variable {prog:U8}{w:W3}{A:W8}{E:U2}{s:U7}{κ:SortKind}{ky:Keyed->Int}{V:Keyed->Prop}{st:SortSt}
theorem t_(c:Nat):∀(l:List Keyed) (m:Nat) (xs:Array Keyed),c+m+l.length<=xs.size ->
  ((l.zipIdx m).foldl (λa (p:Keyed×Nat)=>a.setIfInBounds (c+p.2) p.1) xs).toList=xs.toList.take (c+m)++l++xs.toList.drop (c+m+l.length)
 | [],m,xs,_=>by simp
 | x::l,m,xs,h=>by
  rw[J9]at h;rw[List.zipIdx_cons,List.foldl_cons,t_ c l (m+1) _ (by rw[Array.size_setIfInBounds];lia),Array.toList_setIfInBounds];have b:c+m<xs.toList.length:=by simp;lia
  rw[List.set_eq_take_append_cons_drop,if_pos b];have e1:(xs.toList.take (c+m)++x::xs.toList.drop (c+m+1)).take (c+(m+1))=xs.toList.take (c+m)++[x]:=by
   rw[show c+(m+1)=(xs.toList.take (c+m)).length+1 by rw[J_];lia,List.take_length_add_append];rfl
  have e2:(xs.toList.take (c+m)++x::xs.toList.drop (c+m+1)).drop (c+(m+1)+l.length)=xs.toList.drop (c+m+(x::l).length):=by
   rw[show c+(m+1)+l.length=(xs.toList.take (c+m)).length+(1+l.length) by rw[J_];lia,List.drop_length_add_append,Py 1,List.drop_succ_cons,RX,J9];congr 1;lia
  rw[e1,e2,MF (xs.toList.take (c+m))];rfl
variable{xs:Array Keyed}{i k:Nat}
theorem SN{z:Keyed}(h:z∈(xs.extract i k).toList):∃t,i<=t/\t<k/\xs[t]?=some z:=by
 by_cases ik:i<=k
 ·rw[WX xs i k ik]at h;obtain⟨t,l,e⟩:=SJ h;exact⟨i+t,by lia,by lia,e⟩
 ·rw[Vb]at h;have:(xs.toList.drop i).take (k-i)=[]:=by rw[show k-i=0 by lia];rfl
  rw[show xs.toList.extract i k=(xs.toList.drop i).take (k-i) from rfl,this]at h;cases h
variable{lo:Nat}
theorem X6c(ik:i<=k)(h:Ci ky ((xs.toList.drop lo).take (k-lo)))(li:lo<=i):Ci ky (xs.extract i k).toList:=by
 rw[WX xs i k ik];have e:(xs.toList.drop i).take (k-i)=((xs.toList.drop lo).take (k-lo)).drop (i-lo):=by
  rw[List.drop_take,RX,show lo+(i-lo)=i by lia,show k-lo-(i-lo)=k-i by lia]
 rw[e];exact Nv h _
variable{j:Nat}
theorem xT{l:List Keyed}(h:Ci ky l)(hj:j<l.length)(ij:i<=j):ky l[i]<=ky l[j]:=by
 by_cases e:i=j
 ·subst e;exact Gf _
 ·exact MJ.mp h i j _ hj (by lia)
theorem mH{key:Keyed}{arr:Array Keyed}{left:Bool}(base:Nat)(v:∀x∈arr.toList,V x):∀n,base+n<=arr.size->(∀{i j x y},arr[i]?=some x->arr[j]?=some y->base<=i->i<=j->j<base+n->ky x<=ky y)->∃T,Zv ky V left key arr base n T
 | 0,_,_=>⟨0,λi hi=>absurd hi (Ly _),Bc _⟩
 | n+1,hn,mono=>by
  obtain⟨T,B⟩:=mH (left:=left) (key:=key) base v n (by lia) λa b c d e=>mono a b c d (by lia);obtain⟨x,e⟩:=G9 (a:=arr) (i:=base+n) (by lia);have f:=v x (Ih e);by_cases q:(if left=true then ky x<ky key else ky x<=ky key)
  ·refine⟨n+1,λi hi=>?_,Bc _⟩;obtain⟨x1,e1⟩:=G9 (a:=arr) (i:=base+i) (by lia);refine⟨x1,e1,v x1 (Ih e1),⟨λ_=>hi,λ_=>?_⟩⟩;have:=mono e1 e (by lia) (by lia) (by lia);cases left
   ·simp only[M8,Ir]at q ⊢;lia
   ·simp only[J0]at q ⊢;lia
  ·refine⟨T,λi hi=>?_,Nat.le_succ_of_le B.le⟩;by_cases z:i=n
   ·subst z;exact⟨x,e,f,⟨λy=>absurd y q,λy=>absurd B.le (by lia)⟩⟩
   ·exact B.at_ i (by lia)
variable{n:Nat}
theorem Y7a{y:Keyed}(sr:Ci ky (xs.toList.drop n))(h:xs[n]?=some y):∀z∈xs.toList.drop (n+1),ky y<=ky z:=λz a=>by
 unfold Ci at sr;rw[Nm h]at sr;exact(List.pairwise_cons.mp sr).1 z a
structure Li (ky:Keyed->Int) (V:Keyed->Prop) (xs:Array Keyed) (n:Nat):Prop where
 lo:Ci ky (xs.toList.take n)
 hi:Ci ky (xs.toList.drop n)
 v:∀x∈xs.toList,V x
 n0:0<n
 n1:n<xs.size
theorem X4e(x y z:Nat×Nat×Nat):(#[x,y].setIfInBounds 0 z).eraseIdxIfInBounds (0+1)=#[z]:=by
 simp[Array.eraseIdxIfInBounds]
noncomputable def yp:Nat->StateT SortSt Sem Bool:=sortPriv% PySem.Builtin.mergeAt
theorem X3e{σ:Type}{M:Model}{x st:σ}{Q:PUnit->σ->Prop}(h:Q ⟨⟩ x):wpS M A E s (set x:StateT σ Sem PUnit) Q st:=by
 unfold wpS;rw[StateT.run_set];exact BZ ⟨O,h⟩
variable{Q:Bool->SortSt->Prop}
theorem X8x(o:Ask prog w A s κ ky V){p q g:Nat}(Hv:Li ky V xs n)
  (h:∀c:SortSt,PyProof.Rows.kindOf c=κ->failedOf c=none->pendingOf c=#[(0,n+(xs.size-n),p)]->(arrOf c).toList.Perm xs.toList->Ci ky (arrOf c).toList->Q true c):wpS (model prog w) A E s (yp 0) Q (SortSt.mk' κ xs #[(0,n,p),(n,xs.size-n,q)] g none):=by
 have n0:=Hv.n0;have n1:=Hv.n1;have rest:xs.toList.take n++xs.toList.drop n=xs.toList:=Ru _ _;have at_:∀i,i<xs.size->∃x,xs[i]?=some x/\V x:=λi hi=>by
  obtain⟨x,e⟩:=G9 hi;exact⟨x,e,Hv.v x (Ih e)⟩
 have F:∀{i j x y},xs[i]?=some x->xs[j]?=some y->i<=j->j<n->ky x<=ky y:=λ{i j x y} d k G jn=>by
  obtain⟨l1,rfl⟩:=JW.mp d;obtain⟨l2,rfl⟩:=JW.mp k;have:=xT Hv.lo (i:=i) (j:=j) (by rw[J_,Ep];lia) G;rw[VJ,VJ,Gz,Gz]at this;exact this
 have D:∀{i j x y},xs[i]?=some x->xs[j]?=some y->n<=i->i<=j->ky x<=ky y:=λ{i j x y} d k N G=>by
  obtain⟨l1,rfl⟩:=JW.mp d;obtain⟨l2,rfl⟩:=JW.mp k;have:=xT Hv.hi (i:=i-n) (j:=j-n) (by rw[Rh,Ep];lia) (by lia);simp only[VH,Gz,Om N,Om (Fq N G)]at this;exact this
 refine BK (Hj ?_);refine BK (X3e ?_);rw[X4e];obtain⟨y,k,Z⟩:=at_ n n1;refine BK (GD k ?_);obtain⟨tA,O⟩:=mH (ky:=ky) (V:=V) (key:=y) (left:=false) 0 Hv.v n (by lia) λd k _ G jn=>F d k G (by lia);refine BK (R8 o (by rfl) Z O (show 0<n by omega) ?_);dsimp only;have ta:=O.le;have L:∀{i x},xs[i]?=some x->i<n->(ky x<=ky y↔i<tA):=λ{i x} d hi=>by
  obtain⟨x',e,_,I⟩:=O.at_ i hi;rw[Gv,d]at e;cases e;rw[if_neg DK]at I;exact I
 by_cases e1:(n-tA == 0)=true
 ·rw[if_pos e1];have e1:n-tA=0:=Fo e1;refine Bg (h _ rfl rfl rfl (List.Perm.refl _) ?_);show Ci ky xs.toList;rw[<-rest];refine JV.mpr ⟨Hv.lo,Hv.hi,λa f b m=>?_⟩;obtain⟨t,C,e⟩:=Sh f;rw[Nm k]at m;have l1:=(L e C).mpr (by lia);rcases DY.mp m with rfl | m
  ·exact l1
  ·exact J3 l1 (Y7a Hv.hi k b m)
 rw[if_neg e1];simp only[HS]at e1;rw[Gv,Om ta];obtain⟨x,d,vx⟩:=at_ (n-1) (by lia);have xy:ky y<ky x:=by
  have:=L d (by omega);have:¬ ky x<=ky y:=λz=>by have:=this.mp z;lia
  lia
 obtain⟨tB,BB⟩:=mH (ky:=ky) (V:=V) (key:=x) (left:=true) n Hv.v (xs.size-n) (by lia) λd k N G _=>D d k N G;have tb:=BB.le;have P:∀{i z},xs[n+i]?=some z->i<xs.size-n->(ky z<ky x↔i<tB):=λ{i z} B hi=>by
  obtain⟨x',e,_,I⟩:=BB.at_ i hi;rw[B]at e;cases e;rw[if_pos rfl]at I;exact I
 have a0:0<tB:=(P (i:=0) k (by lia)).mp xy;refine BK (GD d (BK (R8 o (by rfl) vx BB (show xs.size-n-1<xs.size-n by omega) ?_)));dsimp only;rw[if_neg (show ¬ (tB == 0)=true by simp only[HS];lia)];have X:(xs.extract tA n).size=n-tA:=by rw[Array.size_extract];lia
 have sy:(xs.extract n (n+tB)).size=tB:=by rw[Array.size_extract];lia
 have T:Two ky V (xs.extract tA n) (xs.extract n (n+tB)):=by
  refine⟨X6c (lo:=0) ta (by rw[VB];exact Hv.lo) (Ef _),?_,λz B=>?_,λz B=>?_,λa b f m=>?_,λa b m f=>?_⟩
  ·rw[ZX];exact Pb Hv.hi tB
  ·obtain⟨t,_,_,e⟩:=SN B;exact Hv.v z (Ih e)
  ·obtain⟨t,_,_,e⟩:=SN B;exact Hv.v z (Ih e)
  ·rw[X,oY,if_pos (by lia),show tA+(n-tA-1)=n-1 by lia,d]at f;cases f;obtain⟨t,t1,t2,e⟩:=SN m;rw[show t=n+(t-n) by lia]at e;exact(P e (by lia)).mpr (by lia)
  ·rw[oY,if_pos (by lia),P_,k]at m;cases m;obtain⟨t,t1,t2,e⟩:=SN f;have:¬ ky a<=ky y:=λz=>by have:=(L e t2).mp z;lia
   lia
 have fin:∀(r:Array Keyed) (c:SortSt),Sg (SortSt.mk' κ xs #[(0,n+(xs.size-n),p)] g none) c->Mg ky (xs.extract tA n) (xs.extract n (n+tB)) r ->
   Q true (SortSt.mk' (PyProof.Rows.kindOf c) (r.toList.zipIdx.foldl (λa (x:Keyed×Nat)=>a.setIfInBounds (tA+x.2) x.1) (arrOf c)) (pendingOf c) (gallopOf c) (failedOf c)):=λr c S M=>by
  have lr:r.toList.length=n-tA+tB:=by
   have:=M.1.length_eq;rw[Gh,Ep,Ep,Ep,X,sy]at this;rw[Ep];exact this
  have H:=t_ tA r.toList 0 (arrOf c) (by rw[S.arr];show tA+0+_<=xs.size;lia);rw[S.arr]at H;have H:(r.toList.zipIdx.foldl (λa (x:Keyed×Nat)=>a.setIfInBounds (tA+x.2) x.1) xs).toList=xs.toList.take tA++r.toList++xs.toList.drop (n+tB):=by
   rw[show n+tB=tA+0+r.toList.length by lia];exact H
  refine h _ S.kind S.fail S.pend ?_ ?_
  ·show ((r.toList.zipIdx.foldl (λa (x:Keyed×Nat)=>a.setIfInBounds (tA+x.2) x.1) (arrOf c)).toList).Perm _;rw[S.arr];show ((r.toList.zipIdx.foldl (λa (x:Keyed×Nat)=>a.setIfInBounds (tA+x.2) x.1) xs).toList).Perm _;rw[H];have e0:xs.toList=xs.toList.take tA++((xs.extract tA n).toList++(xs.extract n (n+tB)).toList)++xs.toList.drop (n+tB):=by
    rw[WX xs tA n ta,ZX,<-MF,<-Ws,Om ta,<-Ws,Ru]
   refine List.Perm.trans ?_ (List.Perm.of_eq e0.symm);exact(M.1.append_left _).append_right _
  ·show Ci ky ((r.toList.zipIdx.foldl (λa (x:Keyed×Nat)=>a.setIfInBounds (tA+x.2) x.1) (arrOf c)).toList);rw[S.arr];show Ci ky ((r.toList.zipIdx.foldl (λa (x:Keyed×Nat)=>a.setIfInBounds (tA+x.2) x.1) xs).toList);rw[H];have J:∀z∈r.toList,∃t,tA<=t/\t<n+tB/\xs[t]?=some z:=λz B=>by
    rcases Gw.mp (M.1.mem_iff.mp B) with q | q
    ·obtain⟨t,a,b,e⟩:=SN q;exact⟨t,a,by lia,e⟩
    ·obtain⟨t,a,b,e⟩:=SN q;exact⟨t,by lia,b,e⟩
   have K:∀{t z t' z'},xs[t]?=some z->t<tA->xs[t']?=some z'->tA<=t'->ky z<=ky z':=λ{t z t' z'} e C u R=>by
    by_cases q:t'<n
    ·exact F e u (by lia) q
    ·exact J3 ((L e (by lia)).mpr C) (D k u (Bc _) (by lia))
   have U:∀{t z t' z'},xs[t]?=some z->t<n+tB->xs[t']?=some z'->n+tB<=t'->ky z<=ky z':=λ{t z t' z'} e C u R=>by
    by_cases q:t<n
    ·have l':=(JW.mp u).1;rw[show t'=n+(t'-n) by lia]at u;have:¬ ky z'<ky x:=λy=>by have:=(P u (by lia)).mp y;lia
     exact J3 (F e d (by lia) (by lia)) (Int.not_lt.mp this)
    ·exact D e u (by lia) (by lia)
   have dr:∀z∈xs.toList.drop (n+tB),∃t,n+tB<=t/\xs[t]?=some z:=λz B=>by
    obtain⟨t,l,e⟩:=List.getElem_of_mem B;rw[Rh,Ep]at l;rw[VH,Gz]at e;exact⟨n+tB+t,by lia,by rw[<-e];simp⟩
   refine JV.mpr ⟨JV.mpr ⟨?_,M.2,λa f b m=>?_⟩,?_,λa f b m=>?_⟩
   ·have:=Pb Hv.lo tA;rw[List.take_take,Nat.min_eq_left ta]at this;exact this
   ·obtain⟨t,C,e⟩:=Sh f;obtain⟨t',Y,_,u⟩:=J b m;exact K e C u Y
   ·have:=Nv Hv.hi tB;rw[RX]at this;exact this
   ·obtain⟨t',b1,u⟩:=dr b m;rcases Gw.mp f with f | f
    ·obtain⟨t,C,e⟩:=Sh f;exact K e C u (by lia)
    ·obtain⟨t,Y,a2,e⟩:=J a f;exact U e a2 u b1
 split
 ·refine BK (X8v o (by rfl) T (by lia) (by lia) λr c S M=>?_);refine BK (Jj (BK (Hj (Bg ?_))));have:=fin r c S M;have W:failedOf c=none:=S.fail;show Q (failedOf c).isNone _;rw[show (failedOf c).isNone=true by rw[W];rfl];exact this
 ·refine BK (X8w o (by rfl) T (by lia) (by lia) λr c S M=>?_);refine BK (Jj (BK (Hj (Bg ?_))));have:=fin r c S M;have W:failedOf c=none:=S.fail;show Q (failedOf c).isNone _;rw[show (failedOf c).isNone=true by rw[W];rfl];exact this
variable {prog:U8}{w:W3}{A:W8}{E:U2}{s:U7}{κ:SortKind}{ky:Keyed->Int}{V:Keyed->Prop}{st:SortSt}
noncomputable def kz (ky:Keyed->Int)(xs:Array Keyed)(i:Nat):Int:=match xs[i]? with
 | some p=>ky p
 | none=>0
theorem Q8{ys:Array Keyed}(h:xs[i]?=ys[j]?):kz ky xs i=kz ky ys j:=by unfold kz;rw[h]
theorem TX{x:Keyed}(h:xs[i]?=some x):kz ky xs i=ky x:=by unfold kz;rw[h]
structure Gd (ky:Keyed->Int) (V:Keyed->Prop) (xs:Array Keyed):Prop where
 v:∀x∈xs.toList,V x
 nd:(xs.toList.map ky).Nodup
structure Be (xs xs':Array Keyed) (lo:Nat):Prop where
 perm:xs'.toList.Perm xs.toList
 below:∀i,i<lo->xs'[i]?=xs[i]?
theorem Gd.of{xs':Array Keyed}(g:Gd ky V xs)(p:xs'.toList.Perm xs.toList):Gd ky V xs':=⟨λx a=>g.v x (p.mem_iff.mp a),(p.map ky).nodup_iff.mpr g.nd⟩
theorem Gd.ne(g:Gd ky V xs)(hi:i<xs.size)(hj:j<xs.size)(ij:i≠j):kz ky xs i≠kz ky xs j:=λe=>by
 obtain⟨x,b⟩:=G9 hi;obtain⟨y,c⟩:=G9 hj;rw[TX b,TX c]at e;have nd:=MJ.mp g.nd;have ex:=(JW.mp b).2;have a:=(JW.mp c).2;rcases Nat.lt_or_gt_of_ne ij with l | l
 ·refine nd i j (by simpa using hi) (by simpa using hj) l ?_;rw[M5,M5,Gz,Gz,ex,a,e]
 ·refine nd j i (by simpa using hj) (by simpa using hi) l ?_;rw[M5,M5,Gz,Gz,ex,a,e]
theorem SM(o:Ask prog w A s κ ky V)(k:PyProof.Rows.kindOf st=κ)(g:Gd ky V (arrOf st))(hi:i<(arrOf st).size)(hj:j<(arrOf st).size){Q:Option Bool->SortSt->Prop}(h:Q (some (decide (kz ky (arrOf st) i<kz ky (arrOf st) j))) st):wpS (model prog w) A E s (ltAt' i j) Q st:=by
 obtain⟨x,b⟩:=G9 hi;obtain⟨y,a⟩:=G9 hj;rw[TX b,TX a]at h;rw[ltAt'_eq];exact BK (Hj (BK (GD b (BK (GD a (Wx o k (g.v x (Ih b)) (g.v y (Ih a)) h))))))
def Up (ky:Keyed->Int)(xs:Array Keyed)(lo hi:Nat):Prop:=∀i j,lo<=i->i<j->j<hi->kz ky xs i<kz ky xs j
def Dn (ky:Keyed->Int)(xs:Array Keyed)(lo hi:Nat):Prop:=∀i j,lo<=i->i<j->j<hi->kz ky xs j<kz ky xs i
theorem wL(o:Ask prog w A s κ ky V)(k:PyProof.Rows.kindOf st=κ)(g:Gd ky V (arrOf st)){nrem:Nat}(e:lo+nrem=(arrOf st).size)(n1:1<=nrem){Q:Option Nat->SortSt->Prop}(h:∀m xs',1<=m->m<=nrem->Be (arrOf st) xs' lo->Up ky xs' lo (lo+m)->Q (some m) (setArr st xs')):wpS (model prog w) A E s (countRun' lo nrem) Q st:=by
 unfold countRun';refine BK (HF (HW (Q:=λc f=>f=st/\∃m,c=(none,m)/\1<=m/\m<=nrem/\Up ky (arrOf st) lo (lo+m)/\(m=nrem\/kz ky (arrOf st) (lo+m)<kz ky (arrOf st) (lo+m-1))) (λx c f=>f=st/\c=(none,x)/\Up ky (arrOf st) lo (lo+x)) ?_ ?_ ⟨O,O,λi j a b c=>by lia⟩) ?_)
 ·rintro x c f x1 t ⟨rfl,rfl,up⟩;dsimp only;refine BK (SM o k g (by lia) (by lia) ?_);dsimp only;by_cases q:kz ky (arrOf f) (lo+x)<kz ky (arrOf f) (lo+x-1)
  ·rw[Cj q,if_pos rfl];exact Bg ⟨O,x,O,x1,by lia,up,.inr q⟩
  ·rw[Cd q,if_neg DK];refine Bg ⟨O,O,λi j a b c=>?_⟩;by_cases z:j=lo+x
   ·subst z;have:=g.ne (i:=lo+x) (j:=lo+x-1) (by lia) (by lia) (by lia);by_cases z2:i=lo+x-1
    ·subst z2;lia
    ·have:=up i (lo+x-1) a (by lia) (by lia);lia
   ·exact up i j a b (by lia)
 ·rintro c f ⟨rfl,rfl,up⟩;rw[show max 1 nrem=nrem by lia]at up ⊢;exact⟨O,nrem,O,n1,Bc _,up,.inl rfl⟩
 rintro c f ⟨rfl,m,rfl,v,p,up,or⟩;dsimp only;by_cases e1:(m == nrem)=true
 ·rw[if_pos e1];exact Bg (h m (arrOf f) v p ⟨List.Perm.refl _,λ_ _=>rfl⟩ up)
 rw[if_neg e1];simp only[HS]at e1;by_cases e2:m>1
 ·rw[if_pos e2];refine BK (SM o k g (by lia) (by lia) ?_);dsimp only;rw[Cj (up lo (lo+m-1) (Bc _) (by lia) (by lia)),if_pos rfl];exact Bg (h m (arrOf f) v p ⟨List.Perm.refl _,λ_ _=>rfl⟩ up)
 rw[if_neg e2];obtain rfl:m=1:=by lia
 have lt:=or.resolve_left e1;refine BK (Oe (Mx ⟨O,?_⟩))
 refine BK (HF (HW (Q:=λc d=>d=f/\∃m,c=(none,m,0)/\2<=m/\m<=nrem/\Dn ky (arrOf f) lo (lo+m)) (λx c d=>d=f/\c=(none,x,0)/\Dn ky (arrOf f) lo (lo+x)) ?_ ?_ ⟨O,O,λi j a b c=>by
  obtain rfl:i=lo:=by lia
  obtain rfl:j=i+1:=by lia
  exact lt⟩) ?_)
 ·rintro x c d x1 t ⟨rfl,rfl,dn⟩;dsimp only;refine BK (SM o k g (by lia) (by lia) ?_);dsimp only;have ne:=g.ne (i:=lo+x) (j:=lo+x-1) (by lia) (by lia) (by lia);by_cases q:kz ky (arrOf d) (lo+x)<kz ky (arrOf d) (lo+x-1)
  ·rw[Cj q,if_pos rfl,if_neg (by lia)];refine Bg ⟨O,O,λi j a b c=>?_⟩;by_cases z:j=lo+x
   ·subst z;by_cases z2:i=lo+x-1
    ·subst z2;omega
    ·have:=dn i (lo+x-1) a (by lia) (by lia);lia
   ·exact dn i j a b (by lia)
  ·rw[Cd q,if_neg DK];refine BK (SM o k g (by lia) (by lia) ?_);dsimp only;rw[Cj (by lia),if_pos rfl];exact Bg ⟨O,x,O,x1,by lia,dn⟩
 ·rintro c d ⟨rfl,rfl,dn⟩;rw[show max (1+1) nrem=nrem by lia]at dn ⊢;exact⟨O,nrem,O,by lia,Bc _,dn⟩
 rintro c d ⟨rfl,m,rfl,F,p,dn⟩;dsimp only;rw[if_neg (by lia)];refine BK (wpS_reverse ?_);have sz:lo+m<=(arrOf d).size:=by lia
 have B:∀i,kz ky (mirror (arrOf d) lo (lo+m) ((lo+m-lo) / 2)) i=if lo<=i/\i<lo+m then kz ky (arrOf d) (lo+(lo+m)-1-i) else kz ky (arrOf d) i:=λi=>by
  have e:=bL (i:=lo) sz i;by_cases c:lo<=i/\i<lo+m
  ·rw[if_pos c]at e ⊢;exact Q8 e
  ·rw[if_neg c]at e ⊢;exact Q8 e
 have y:(mirror (arrOf d) lo (lo+m) ((lo+m-lo) / 2)).toList.Perm (arrOf d).toList:=YZ.mp (mirror_perm _ _ _ _);have u:Be (arrOf d) (mirror (arrOf d) lo (lo+m) ((lo+m-lo) / 2)) lo:=⟨y,λi hi=>by rw[bL sz,if_neg (by lia)]⟩;have g':=g.of y;have s':(mirror (arrOf d) lo (lo+m) ((lo+m-lo) / 2)).size=(arrOf d).size:=mirror_size _ _ _ _;have n:Up ky (mirror (arrOf d) lo (lo+m) ((lo+m-lo) / 2)) lo (lo+m):=λi j a b c=>by
  rw[B,B,if_pos (by lia),if_pos (by lia)];exact dn _ _ (by lia) (by lia) (by lia)
 generalize mirror (arrOf d) lo (lo+m) ((lo+m-lo) / 2)=ys at u g' s' n;refine BK (HF (HW (Q:=λc l=>l=setArr d ys/\∃r,c=(none,r)/\m<=r/\r<=nrem/\Up ky ys lo (lo+r)) (λx c l=>l=setArr d ys/\c=(none,x)/\Up ky ys lo (lo+x)) ?_ ?_ ⟨O,O,n⟩) ?_)
 ·rintro x c l x1 t ⟨rfl,rfl,up⟩;dsimp only;refine BK (SM (st:=setArr d ys) o k g' (by show _<ys.size;lia) (by show _<ys.size;lia) ?_);show wpS _ _ _ _ (if decide (kz ky ys (lo+x)<kz ky ys (lo+x-1))=true then _ else _) _ _;by_cases q:kz ky ys (lo+x)<kz ky ys (lo+x-1)
  ·rw[Cj q,if_pos rfl];exact Bg ⟨O,x,O,x1,by lia,up⟩
  ·rw[Cd q,if_neg DK];refine Bg ⟨O,O,λi j a b c=>?_⟩;by_cases z:j=lo+x
   ·subst z;have:=g'.ne (i:=lo+x) (j:=lo+x-1) (by lia) (by lia) (by lia);by_cases z2:i=lo+x-1
    ·subst z2;lia
    ·have:=up i (lo+x-1) a (by lia) (by lia);lia
   ·exact up i j a b (by lia)
 ·rintro c l ⟨rfl,rfl,up⟩;rw[show max m nrem=nrem by lia]at up ⊢;exact⟨O,nrem,O,p,Bc _,up⟩
 rintro c l ⟨rfl,r,rfl,D,C,up⟩;exact Bg (h r ys (by lia) C u up)
theorem Be.refl(xs:Array Keyed)(lo:Nat):Be xs xs lo:=⟨List.Perm.refl _,λ_ _=>rfl⟩
theorem ZV{src l:Nat}(hs:src<xs.size)(hl:l<=src)(i:Nat):kz ky (bubble xs src (src-l)) i=if i=l then kz ky xs src else if l<i/\i<=src then kz ky xs (i-1) else kz ky xs i:=by
 have e:=aV hs (src-l) (by lia) i;rw[show src-(src-l)=l by lia]at e;by_cases c:i=l
 ·rw[if_pos c]at e ⊢;exact Q8 e
 ·rw[if_neg c]at e ⊢;by_cases d:l<i/\i<=src
  ·rw[if_pos d]at e ⊢;exact Q8 e
  ·rw[if_neg d]at e ⊢;exact Q8 e
theorem wJ(o:Ask prog w A s κ ky V)(k:PyProof.Rows.kindOf st=κ)(g:Gd ky V (arrOf st)){ok:Nat}(e:lo+n<=(arrOf st).size)(o1:1<=ok)(on:ok<=n)(u:Up ky (arrOf st) lo (lo+ok))(h:∀xs',Be (arrOf st) xs' lo->Up ky xs' lo (lo+n)->Q true (setArr st xs')):wpS (model prog w) A E s (binarySort' lo n ok) Q st:=by
 unfold binarySort';refine BK (HF (HW (Q:=λc d=>c=(none,())/\∃ys,d=setArr st ys/\Be (arrOf st) ys lo/\Up ky ys lo (lo+n)) (λx c d=>c=(none,())/\∃ys,d=setArr st ys/\Be (arrOf st) ys lo/\Up ky ys lo (lo+x)) ?_ ?_ ⟨O,arrOf st,O,Be.refl _ _,by rw[show max ok 1=ok by lia];exact u⟩) ?_)
 ·rintro x c d x1 D ⟨rfl,ys,rfl,f,up⟩;have g':=g.of f.perm;have sz:ys.size=(arrOf st).size:=by simpa using f.perm.length_eq
  have v:lo+x<ys.size:=by lia
  refine BK (HF (HW (Q:=λc d=>d=setArr st ys/\∃l r,c=(none,l,r)/\l<=x/\(∀i,lo<=i->i<lo+l->kz ky ys i<kz ky ys (lo+x))/\∀i,lo+l<=i->i<lo+x->kz ky ys (lo+x)<kz ky ys i) (λt c d=>d=setArr st ys/\∃l r,c=(none,l,r)/\l<=r/\r<=x/\r-l<=x-t/\(∀i,lo<=i->i<lo+l->kz ky ys i<kz ky ys (lo+x))/\∀i,lo+r<=i->i<lo+x->kz ky ys (lo+x)<kz ky ys i) ?_ ?_ ⟨O,0,x,O,by lia,by lia,by lia,λi a b=>by lia,λi a b=>by lia⟩) ?_)
  ·rintro t c d _ F ⟨rfl,l,r,rfl,C,B,dd,p,m⟩;dsimp only;by_cases q:l>=r
   ·rw[if_pos q];obtain rfl:l=r:=by lia
    exact Bg ⟨O,l,l,O,B,p,m⟩
   ·rw[if_neg q];refine BK (SM (st:=setArr st ys) o k g' v (by show _<ys.size;lia) ?_);show wpS _ _ _ _ (if decide (kz ky ys (lo+x)<kz ky ys (lo+(l+r) / 2))=true then _ else _) _ _;have ne:=g'.ne (i:=lo+x) (j:=lo+(l+r) / 2) v (by lia) (by lia);by_cases z:kz ky ys (lo+x)<kz ky ys (lo+(l+r) / 2)
    ·rw[Cj z,if_pos rfl];refine Bg ⟨O,l,_,O,by lia,by lia,by lia,p,λi a b=>?_⟩;by_cases y:i=lo+(l+r) / 2
     ·rw[y];exact z
     ·have:=up (lo+(l+r) / 2) i (by lia) (by lia) b;lia
    ·rw[Cd z,if_neg DK];refine Bg ⟨O,_,r,O,by lia,B,by lia,λi a b=>?_,m⟩;by_cases y:i=lo+(l+r) / 2
     ·rw[y];lia
     ·have:=up i (lo+(l+r) / 2) a (by lia) (by lia);lia
  ·rintro c d ⟨rfl,l,r,rfl,C,B,dd,p,m⟩;obtain rfl:l=r:=by lia
   exact⟨O,l,l,O,B,p,m⟩
  ·rintro c d ⟨rfl,l,r,rfl,G,p,m⟩;dsimp only;refine BK (Jj (Bg ⟨O,bubble ys (lo+x) (lo+x-(lo+l)),O,⟨(YZ.mp (bubble_perm _ _ _)).trans f.perm,λi hi=>?_⟩,λi j a b c=>?_⟩))
   ·rw[aV v _ (by lia),if_neg (by lia),if_neg (by lia)];exact f.below i hi
   ·have bi:=ZV (ky:=ky) v (show lo+l<=lo+x by lia);rw[bi,bi];by_cases i1:i=lo+l
    ·rw[if_pos i1,if_neg (by lia),if_pos (by lia)];exact m (j-1) (by lia) (by lia)
    ·rw[if_neg i1];by_cases j1:j=lo+l
     ·rw[if_pos j1,if_neg (by lia)];exact p i a (by lia)
     ·rw[if_neg j1];by_cases i2:lo+l<i/\i<=lo+x
      ·rw[if_pos i2,if_pos (by lia)];exact up (i-1) (j-1) (by lia) (by lia) (by lia)
      ·rw[if_neg i2];by_cases j2:lo+l<j/\j<=lo+x
       ·rw[if_pos j2];exact up i (j-1) a (by lia) (by lia)
       ·rw[if_neg j2];exact up i j a b (by lia)
 ·rintro c d ⟨rfl,ys,rfl,f,up⟩;rw[show max (max ok 1) n=n by lia]at up;exact⟨O,ys,O,f,up⟩
 ·rintro c d ⟨rfl,ys,rfl,f,up⟩;exact Bg (h ys f up)
variable {prog:U8}{w:W3}{A:W8}{E:U2}{s:U7}{κ:SortKind}{ky:Keyed->Int}{V:Keyed->Prop}
theorem mF{hi:Nat}(h:Up ky xs lo hi)(hh:hi<=xs.size):Ci ky ((xs.toList.drop lo).take (hi-lo)):=by
 refine MJ.mpr λi j b e f=>?_;rw[J_,Rh,Ep]at b e;have:=h (lo+i) (lo+j) (by lia) (by lia) (by lia);obtain⟨x,c⟩:=G9 (a:=xs) (i:=lo+i) (by lia);obtain⟨y,d⟩:=G9 (a:=xs) (i:=lo+j) (by lia);rw[TX c,TX d]at this;rw[VJ,VJ,VH,VH,Gz,Gz,(JW.mp c).2,(JW.mp d).2];exact Lw this
noncomputable def St (κ:SortKind)(xs:Array Keyed)(pd:Array (Nat×Nat×Nat)):SortSt:=SortSt.mk' κ xs pd 7 none
inductive Runs (ky:Keyed->Int) (κ:SortKind) (xs:Array Keyed):SortSt->Prop
 | one {ys:Array Keyed} (p:ys.toList.Perm xs.toList) (u:Up ky ys 0 64):Runs ky κ xs (St κ ys #[(0,64,0)])
 | two {ys:Array Keyed}{n pw:Nat} (p:ys.toList.Perm xs.toList) (n0:0<n) (n1:n<64) (u:Up ky ys 0 n) (u':Up ky ys n 64):Runs ky κ xs (St κ ys #[(0,n,pw),(n,64-n,0)])
theorem Uu(o:Ask prog w A s κ ky V)(g:Gd ky V xs)(hs:xs.size=64){Q:Unit->SortSt->Prop}(h:∀k:SortSt,failedOf k=none->(arrOf k).toList.Perm xs.toList->Ci ky (arrOf k).toList->Q () k):wpS (model prog w) A E s sortRuns' Q (SortSt.mk' κ xs #[] 7 none):=by
 have K:(sortPriv% PySem.Builtin.minRun) 64 64 0=32:=by decide +kernel
 have r:∀{ys:Array Keyed},ys.toList.Perm xs.toList->ys.size=64:=λp=>by
  have:=p.length_eq;simp only[Ep]at this;lia
 unfold sortRuns';refine BK (Hj ?_);dsimp only;rw[hs];refine BK (HF (HW (Q:=λc k=>c.1=none/\Runs ky κ xs k) (λx c k=>c.1=none/\(x=0/\c.2=0/\k=St κ xs #[]\/x=1/\(∃ys,32<=c.2/\c.2<=64/\k=St κ ys #[(0,c.2,0)]/\ys.toList.Perm xs.toList/\Up ky ys 0 c.2)\/2<=x/\c.2=64/\Runs ky κ xs k)) ?_ ?_ ⟨O,.inl ⟨O,O,O⟩⟩) ?_)
 ·rintro x ⟨c1,lo⟩ k _ J ⟨rfl,h1⟩;dsimp only at h1 ⊢;rw[K];rcases h1 with ⟨rfl,rfl,rfl⟩ | ⟨rfl,ys,l32,l64,rfl,p,up⟩ | ⟨x2,rfl,R⟩
  ·rw[if_neg (by lia)];refine BK (wL (st:=St κ xs #[]) o rfl g (lo:=0) (nrem:=64-0) (by show 0+(64-0)=xs.size;lia) (by lia) λm ys I L t up=>?_);dsimp only;have D:=r t.perm;by_cases q:m<32
   ·rw[if_pos q];refine BK (Oe (Mx ⟨O,?_⟩));refine BK (wJ (st:=setArr (St κ xs #[]) ys) o rfl (g.of t.perm) (lo:=0) (n:=min (64-0) 32) (ok:=m) (by show 0+min (64-0) 32<=ys.size;lia) I (by lia) up λzs B y=>?_);rw[if_neg (by decide)];refine BK (Hj ?_);refine BK (Jj (Bg ⟨O,.inr (.inl ⟨O,zs,by decide,by decide,O,B.perm.trans t.perm,y⟩)⟩))
   ·rw[if_neg q];refine BK (Hj ?_);refine BK (Jj (Bg ⟨O,.inr (.inl ⟨O,ys,by dsimp only;lia,by dsimp only;lia,?_,t.perm,by rw[Gv]at up;dsimp only;rw[Gv];exact up⟩)⟩));dsimp only;rw[Gv];rfl
  ·by_cases n64:lo>=64
   ·rw[if_pos n64];obtain rfl:lo=64:=by lia
    exact Bg ⟨O,.one p up⟩
   rw[if_neg n64];have D:=r p;refine BK (wL (st:=St κ ys #[(0,lo,0)]) o rfl (g.of p) (lo:=lo) (nrem:=64-lo) (by show lo+(64-lo)=ys.size;lia) (by lia) λm zs I L t C=>?_);dsimp only;have keep:∀{us:Array Keyed},(∀i,i<lo->us[i]?=ys[i]?)->Up ky us 0 lo:=λe i j a b c=>by
    rw[Q8 (e i (by lia)),Q8 (e j c)];exact up i j a b c
   by_cases q:m<32
   ·rw[if_pos q];refine BK (Oe (Mx ⟨O,?_⟩));refine BK (wJ (st:=setArr (St κ ys #[(0,lo,0)]) zs) o rfl ((g.of p).of t.perm) (lo:=lo) (n:=min (64-lo) 32) (ok:=m) (by show lo+min (64-lo) 32<=zs.size;rw[r (t.perm.trans p)];lia) I (by lia) C λus B y=>?_);rw[if_neg (by decide)];refine BK (Hj ?_);refine BK (HF (HW (Q:=λc f=>c.1=none/\f=St κ us #[(0,lo,0)]) (λ_ c f=>c.1=none/\f=St κ us #[(0,lo,0)]) ?_ (λc f e=>e) ⟨O,O⟩) ?_)
    ·rintro x ⟨c,u⟩ f _ _ ⟨rfl,rfl⟩;refine BK (Hj (Bg ⟨O,O⟩))
    ·rintro ⟨c,u⟩ f ⟨rfl,rfl⟩;refine BK (Jj (BK (Jj (Bg ⟨O,.inr (.inr ⟨by lia,by dsimp only;lia,?_⟩)⟩))));rw[show min (64-lo) 32=64-lo by lia]at y ⊢;refine cast ?_ (Runs.two (κ:=κ) (pw:=(sortPriv% PySem.Builtin.power) 64 (2*0+lo) (2*0+lo+lo+(64-lo)) 64) ((B.perm.trans t.perm).trans p) (by lia) (by lia) (keep λi hi=>(B.below i hi).trans (t.below i hi)) (by rw[Om l64]at y;exact y));congr 1
   ·rw[if_neg q];obtain rfl:m=64-lo:=by lia
    refine BK (Hj ?_);refine BK (HF (HW (Q:=λc f=>c.1=none/\f=St κ zs #[(0,lo,0)]) (λ_ c f=>c.1=none/\f=St κ zs #[(0,lo,0)]) ?_ (λc f e=>e) ⟨O,O⟩) ?_)
    ·rintro x ⟨c,u⟩ f _ _ ⟨rfl,rfl⟩;refine BK (Hj (Bg ⟨O,O⟩))
    ·rintro ⟨c,u⟩ f ⟨rfl,rfl⟩;refine BK (Jj (BK (Jj (Bg ⟨O,.inr (.inr ⟨by lia,by dsimp only;lia,?_⟩)⟩))));refine cast ?_ (Runs.two (κ:=κ) (pw:=(sortPriv% PySem.Builtin.power) 64 (2*0+lo) (2*0+lo+lo+(64-lo)) 64) (t.perm.trans p) (by lia) (by lia) (keep t.below) (by rw[Om l64]at C;exact C));congr 1
  ·rw[if_pos (by lia)];exact Bg ⟨O,R⟩
 ·rintro ⟨c1,lo⟩ k ⟨rfl,h1⟩;rcases h1 with ⟨z,_⟩ | ⟨z,_⟩ | ⟨_,_,R⟩
  ·simp at z
  ·simp at z
  ·exact⟨O,R⟩
 rintro ⟨c1,lo⟩ k ⟨rfl,R⟩;dsimp only;refine BK (HF (HW (Q:=λc f=>c.1=none/\failedOf f=none/\(arrOf f).toList.Perm xs.toList/\Ci ky (arrOf f).toList) (λx c f=>c.1=none/\(x=0/\Runs ky κ xs f\/1<=x/\(pendingOf f).size<=1/\failedOf f=none/\(arrOf f).toList.Perm xs.toList/\Ci ky (arrOf f).toList)) ?_ ?_ ⟨O,.inl ⟨O,R⟩⟩) ?_)
 ·rintro x ⟨c1,u⟩ f _ _ ⟨rfl,h2⟩;rcases h2 with ⟨rfl,R2⟩ | ⟨x1,p1,F,H,G⟩
  ·cases R2 with
   | @one ys p up =>
    refine BK (Hj ?_);refine Bg ⟨O,O,p,?_⟩;have:=mF up (Nat.le_of_eq (r p).symm);rw[VB,Rv (by simp[r p])]at this;exact this
   | @two ys n pw p n0 n1 up up' =>
    refine BK (Hj ?_);have D:=r p;have Hv:Li ky V ys n:=by
     refine⟨?_,?_,λx J=>g.v x (p.mem_iff.mp J),n0,by lia⟩
     ·have:=mF up (by lia);rw[VB,Xr]at this;exact this
     ·have:=mF up' (by lia);rw[Rv (by simp[D])]at this;exact this
    have M:=X8x (E:=E) (p:=pw) (q:=0) (g:=7) o Hv (Q:=λb l=>b=true/\(pendingOf l).size<=1/\failedOf l=none/\(arrOf l).toList.Perm xs.toList/\Ci ky (arrOf l).toList) λl _ b c d e=>⟨O,by rw[c];exact Bc 1,b,d.trans p,e⟩;rw[D]at M;refine BK (HF M ?_);rintro b l ⟨rfl,d⟩;exact Bg ⟨O,.inr ⟨by lia,d⟩⟩
  ·refine BK (Hj ?_);rw[if_pos p1];exact Bg ⟨O,F,H,G⟩
 ·rintro ⟨c1,u⟩ f ⟨rfl,h2⟩;rcases h2 with ⟨z,_⟩ | ⟨_,_,d⟩
  ·simp at z
  ·exact⟨O,d⟩
 ·rintro ⟨c1,u⟩ f ⟨rfl,F,H,G⟩;exact Bg (h f F H G)
variable {prog:U8}{w:W3}{A:W8}{E:U2}{s:U7}{κ:SortKind}
theorem Y9j{α β:Type}(f:α->β){l l':List β}(p:l.Perm l'):∀{m:List α},l'=m.map f->∃c:List α,c.Perm m/\l=c.map f:=by
 induction p with
 | nil =>
  intro m e;match m,e with
  | [],_=>exact⟨[],List.Perm.refl _,rfl⟩
 | cons x _ ih =>
  intro m e;match m,e with
  | a::m,e =>
   obtain⟨e1,e2⟩:=List.cons.inj e;obtain⟨c,q,r⟩:=ih e2;exact⟨a::c,q.cons a,by rw[e1,r];rfl⟩
 | swap x y l =>
  intro m e;match m,e with
  | a::b::m,e =>
   obtain⟨e1,e2⟩:=List.cons.inj e;obtain⟨h,i⟩:=List.cons.inj e2;exact⟨b::a::m,List.Perm.swap _ _ _,by rw[e1,h,i];rfl⟩
 | trans _ _ ih1 ih2 =>
  intro m e;obtain⟨c,q,r⟩:=ih2 e;obtain⟨j,d,g⟩:=ih1 r;exact⟨j,d.trans q,g⟩
variable{z:Nat->Int}
theorem W1a{ks vs:U5}(hl:ks.length=vs.length)(h64:vs.length=64)(ora:Sr.Mq (kas_ask prog w A κ ks) z 64 s)(dis:Sr.Lj z 64)(inj:∀i j,i<64->j<64->ks.getD i .none=ks.getD j .none->z i=z j){Q:SortSt->Prop}
  (h:∀(p:Array Nat) (a:SortSt),Sr.Pm p 64->Sr.Up z p 64->failedOf a=none->arrOf a=p.map (Ky (ks.toArray.zip vs.toArray))->Q a):
  wpS (model prog w) A E s sortRuns' (λ_ a=>Q a) (SortSt.mk' κ (ks.toArray.zip vs.toArray) #[] 7 none):=by
 classical
 have it:∀i,Ky (ks.toArray.zip vs.toArray) i=(ks.getD i .none,vs.getD i .none):=kat_item hl;let V:Keyed->Prop:=λp=>∃i,i<64/\p=Ky (ks.toArray.zip vs.toArray) i;let ky:Keyed->Int:=λp=>if h:V p then z h.choose else 0;have b:∀i,i<64->ky (Ky (ks.toArray.zip vs.toArray) i)=z i:=λi hi=>by
  have v:V (Ky (ks.toArray.zip vs.toArray) i):=⟨i,hi,O⟩;show (if h:V _ then z h.choose else 0)=z i;rw[dif_pos v];obtain⟨c1,c2⟩:=v.choose_spec;refine(inj i _ hi c1 ?_).symm;exact congrArg Prod.fst ((it i).symm.trans (c2.trans (it _)))
 have sz:(ks.toArray.zip vs.toArray).size=64:=by simp[hl,h64]
 have tl:(ks.toArray.zip vs.toArray).toList=(List.range 64).map (Ky (ks.toArray.zip vs.toArray)):=by
  apply X3
  ·rw[Ep,sz,Bj,ao]
  ·intro i h1 h2;rw[Ep]at h1;rw[M5,bC,Gz];show _=(ks.toArray.zip vs.toArray).getD i (Value.none,Value.none);rw[Ot,getElem?_pos _ i h1];rfl
 have g:Gd ky V (ks.toArray.zip vs.toArray):=by
  refine⟨λx o=>?_,?_⟩
  ·rw[tl]at o;obtain⟨i,hi,rfl⟩:=Jl.mp o;exact⟨i,Gg.mp hi,O⟩
  ·rw[tl,Lx];refine MJ.mpr λi j h1 h2 k=>?_;rw[Bj,ao]at h1 h2;rw[M5,M5,bC,bC];show ky (Ky _ i)≠ky (Ky _ j);rw[b i h1,b j h2];exact λe=>Cy k (dis i j h1 h2 e)
 refine Uu (ky:=ky) (V:=V) ?_ g sz λa f p n=>?_
 ·rintro x y ⟨i,hi,rfl⟩ ⟨j,m,rfl⟩ C q;rw[b i hi,b j m]at q;have:=ora i j C hi m q;rw[it,it];exact this
 ·obtain⟨l,d,r⟩:=Y9j _ p tl;have len:l.length=64:=by rw[d.length_eq,ao]
  have lt:∀(i:Nat) (hi:i<l.length),l[i]<64:=λi hi=>Gg.mp (d.mem_iff.mp (Rg hi));refine h l.toArray a ⟨by simp[len],d⟩ (λi j k m=>?_) f ?_
  ·show z (l.toArray.getD i 0)<z (l.toArray.getD j 0);have hi:i<l.length:=by lia
   have c:j<l.length:=by lia
   have e1:l.toArray.getD i 0=l[i]:=by simp[Array.getD,hi]
   have e2:l.toArray.getD j 0=l[j]:=by simp[Array.getD,c]
   rw[e1,e2];unfold Ci at n;rw[r]at n;have:=MJ.mp n i j (by simpa using hi) (by simpa using c) k;rw[M5,M5,b _ (lt i hi),b _ (lt j c)]at this;have t:l.Nodup:=d.nodup_iff.mpr aX;have ne:l[i]≠l[j]:=MJ.mp t i j hi c k;have:z l[i]≠z l[j]:=λe=>ne (dis _ _ (lt i hi) (lt j c) e);lia
  ·apply Array.toList_inj.mp;rw[r];simp
theorem X3w{us:U5}(h2:2<=us.length)(h64:us.length<=64)(ora:Sr.Mq (kas_ask prog w A κ us) z us.length s)(dis:Sr.Lj z us.length)(inj:∀i j,i<us.length->j<us.length->us.getD i .none=us.getD j .none->z i=z j):
  wpAny (model prog w) A (sortRuns'.run (SortSt.mk' κ (us.toArray.zip us.toArray) #[] 7 none)) (λr s'=>∃p:Array Nat,arrOf r.2=p.map (Ky (us.toArray.zip us.toArray))/\failedOf r.2=none/\s'=s/\Sr.Pm p us.length/\Sr.Up z p us.length) E s:=by
 by_cases e:us.length<64
 ·exact kat_run (Q:=λf s'=>∃p:Array Nat,arrOf f=p.map (Ky (us.toArray.zip us.toArray))/\failedOf f=none/\s'=s/\Sr.Pm p us.length/\Sr.Up z p us.length) (G:=λp s'=>s'=s/\Sr.Pm p us.length/\Sr.Up z p us.length) rfl h2 e (λp f s' _ h g k=>⟨p,h,g,k⟩) (Sr.sort ora dis h2 λp g1 g2=>⟨O,g1,g2⟩)
 ·have e:us.length=64:=by lia
  rw[e]at ora dis inj ⊢;refine Eb (W1a (E:=E) (Q:=λf=>∃p:Array Nat,arrOf f=p.map (Ky (us.toArray.zip us.toArray))/\failedOf f=none/\Sr.Pm p 64/\Sr.Up z p 64) rfl e ora dis inj λp f a b c d=>⟨p,d,c,a,b⟩) ?_ λ_ _ x=>x;rintro r s' ⟨rfl,p,a,b,c,d⟩;exact⟨p,a,b,O,c,d⟩
end Tg
namespace L2
open PySem.W
def Two (h:Heap)(us:U5)(x y:Nat->Int):Prop:=∀(j:Nat) u,us[j]?=some u->∃b o t t' n,u=Value.ref b/\h.get? b=some o/\o.cls=.type "tuple"/\o.data=.seq #[.int (x j) t,.int (y j) t'] n
theorem Two.keep{h h':Heap}{us:U5}{x y:Nat->Int}(T:Two h us x y)(k:∀b o,o.cls=.type "tuple"->h.get? b=some o->h'.get? b=some o):Two h' us x y:=λj u e=>by
 obtain⟨b,o,t,t',n,h1,h2,a,c⟩:=T j u e;exact⟨b,o,t,t',n,h1,k b o a h2,a,c⟩
theorem qb{h:Heap}:∀{us:U5}{x y:Nat->Int},Two h us x y->∃fs,KatTups h us fs/\fs.length=us.length/\∀v∈fs,∃i t,v=Value.int i t
 | [],_,_,_=>⟨[],trivial,rfl,λv c=>nomatch c⟩
 | u::us,x,y,T=>by
  obtain⟨b,o,t,t',n,rfl,h2,d,f⟩:=T 0 u rfl;obtain⟨fs,k,l,a⟩:=qb (us:=us) (x:=λj=>x (j+1)) (y:=λj=>y (j+1)) λj u e=>T (j+1) u e;refine⟨Value.int (x 0) t::fs,.cons h2 d f rfl k,by simp[l],λv c=>?_⟩;rcases DY.mp c with rfl | c
  ·exact⟨_,_,O⟩
  ·exact a v c
section
variable {prog:U8}{w:W3}{A:W8}{E:U2}{s:U7}
variable{x y z:Nat->Int}
theorem X3h{us:U5}(T:Two s.heap us x y)(hz:∀i j,i<us.length->j<us.length->(z i<z j↔x i<x j\/x i=x j/\y i<y j)):Sr.Mq (kas_ask prog w A (tuples' true) us) z us.length s:=by
 intro i j C hi d q;unfold kas_ask;have h:us.getD i Value.none=us[i]:=by simp[hi]
 have g:us.getD j Value.none=us[j]:=by simp[d]
 rw[h,g];obtain⟨b,o,t,t',n,h1,h2,p,f⟩:=T i us[i] (Di hi);obtain⟨l,o',u,k,m,g1,g2,g3,g4⟩:=T j us[j] (Di d);rw[h1,g1];refine kat_lt h2 f g2 g4 (kat_cons (aj ?_));have a:=hz i j hi d;refine kat_go (λe=>kat_yes (kat_cons (aj (kat_go (λc=>kat_yes (kat_nil ?_)) λc=>kat_no ?_)))) (λe=>kat_no (oneLt_int ?_))
 ·have e:=Fo e;have c:=Fo c;rw[show decide (z i<z j)=false from Cd (by rw[a];lia)]at q;exact q
 ·have e:=Fo e;refine kat_one _ _ (wpAny_lt_int ?_);rw[show decide (z i<z j)=decide (y i<y j) from decide_eq_decide.mpr (by rw[a];lia)]at q;exact q
 ·have e:x i≠x j:=λz=>by rw[z]at e;simp at e
  rw[show decide (z i<z j)=decide (x i<x j) from decide_eq_decide.mpr (by rw[a];lia)]at q;exact q
theorem Qd{a:Y1}{us:U5}{n:Nat}{P:PySem.Fin->Shared->Prop}(ho:s.heap.get? a=some (seqObj "list" us.toArray n))(h64:us.length<=64)(T:Two s.heap us x y)
  (hz:∀i j,i<us.length->j<us.length->(z i<z j↔x i<x j\/x i=x j/\y i<y j)) (d:Sr.Lj z us.length)
  (h:∀p,Sr.Pm p us.length->Sr.Up z p us.length->P (.done (.ret .none)) {s with heap:=sortedHeap s.heap a us (List.toArray (p.toList.map λi=>us.getD i Value.none))}):
  wpAny (model prog w) A (Builtin.«list.sort» ⟨[.ref a],[]⟩) P E s:=by
 have U:a<s.heap.objs.size:=Bk ho;have L:us.length<=sizeLine:=by rw[Yk];lia
 rw[list_sort_plain];refine Ak (listItems_at ho rfl (Ak (jR ho rfl ?_ (by rw[Du];omega) (Ef _))));obtain⟨e1,f⟩:∃e1,(s.heap.update a (Obj.mapSeq λ_=>(#[]:U9))).get? a=some (seqObj "list" #[] e1):=⟨_,get?_update_seq ho λ_=>#[]⟩;refine Ak (seqEpoch_at f rfl (Ak (wpAny_newTuple (Ak (wpAny_newList (JQ ?_) (Ef _))) (by show us.length<=_;omega))));have J:∀b o,b≠a->s.heap.get? b=some o->(((s.heap.update a (Obj.mapSeq λ_=>(#[]:U9))).push (seqObj "tuple" us.toArray 0)).push (seqObj "list" #[] 0)).get? b=some o:=λb o D e =>
  Ca _ (Ca _ (by rw[bI _ _ _ _ D];exact e))
 have c:(((s.heap.update a (Obj.mapSeq λ_=>(#[]:U9))).push (seqObj "tuple" us.toArray 0)).push (seqObj "list" #[] 0)).get? a=some (seqObj "list" #[] e1):=Ca _ (Ca _ f);show wpAny (model prog w) A _ P E {s with heap:=((s.heap.update a (Obj.mapSeq λ_=>(#[]:U9))).push (seqObj "tuple" us.toArray 0)).push (seqObj "list" #[] 0)};dsimp only;by_cases h2:us.toArray.size<2
 ·rw[if_pos h2,if_pos h2];refine Ak (BZ ?_);rw[StateT.run_pure];refine Ak (BZ ?_);dsimp only;refine Ak (seqEpoch_at c rfl (Ak (jR c rfl ?_ (Ef _) (by rw[Array.size_map];show (us.toArray.zip us.toArray).size<=_;rw[Array.size_zip,Nat.min_self,Du];lia))));simp only[bne_self_eq_false,M8,Ir];refine BZ ?_;have k:=h _ (Sr.uQ us.length) (λi j X l=>by rw[Du]at h2;lia);have e:(List.toArray ((List.toArray (List.range us.length)).toList.map λi=>us.getD i Value.none))=(us.toArray.zip us.toArray).map (·.2):=by
   apply Array.toList_inj.mp;simp only[Array.toList_map,Array.toList_zip];apply X3
   ·simp
   ·intro i M Q;have:i<us.length:=by simpa using M
    simp[this]
  rw[e]at k;exact k
 ·rw[if_neg h2,if_neg h2];rw[Du]at h2;have T':Two (((s.heap.update a (Obj.mapSeq λ_=>(#[]:U9))).push (seqObj "tuple" us.toArray 0)).push (seqObj "list" #[] 0)) us x y:=T.keep λb o O e=>J b o (λq=>by rw[q,ho]at e;cases e;exact absurd O (by simp[seqObj])) e;obtain⟨fs,k1,k2,k3⟩:=qb T';refine Ak (kat_kind k1 (by lia) (T:=.type "int") (λv H=>by obtain⟨i,t,rfl⟩:=k3 v H;exact .now) (by decide) ?_);rw[show (Value.type "int" != Value.type "tuple")=true by decide];refine Ak (Eb (Tg.X3w (by lia) h64 (X3h T' hz) d λi j hi l e=>?_) ?_ λ_ _ e=>e)
  ·have K:us.getD i Value.none=us[i]:=by simp[hi]
   have I:us.getD j Value.none=us[j]:=by simp[l]
   obtain⟨b,o,t,t',n,F,C,W,G⟩:=T' i us[i] (Di hi);obtain⟨S,o',u,R,V,g1,g2,g3,g4⟩:=T' j us[j] (Di l);rw[K,I,F,g1]at e;cases e;rw[C]at g2;cases g2;rw[G]at g4;have e1:x i=x j/\y i=y j:=by
    injection g4 with e5 _;simp at e5;exact⟨e5.1.1,e5.2.1⟩
   have h1:=hz i j hi l;have h2:=hz j i l hi;lia
  rintro ⟨⟨⟩,N⟩ s' ⟨p,m,B,rfl,r,up⟩;dsimp only;have g:=kat_snds rfl m;rw[g];refine Ak (seqEpoch_at c rfl (Ak (jR c rfl ?_ (Ef _) (by rw[Du,Bj,Ep,r.size];lia))));rw[B];simp only[bne_self_eq_false,M8,Ir];exact BZ (h p r up)
end
end L2
namespace L2
open PySem.W
noncomputable abbrev kk (k:Nat×Nat):List Key:=[Sum.inl (k.1:Int),Sum.inl (k.2:Int)]
theorem Y8r{f s:Int}{its:U5}(r:Vals [V.int f,V.int s] its):∃t t',its=[Value.int f t,Value.int s t']:=by
 obtain⟨u,v,rfl,a,b⟩:=Vals.two r;obtain⟨t,rfl⟩:=a;obtain⟨t',rfl⟩:=b;exact⟨_,_,O⟩
theorem Y0o{X:Cx}(hc:X.calm=true):CJ X (.builtin "sorted") (λxs H Q=>∃(p:Y1) (kvs:List (List Key×V)) (ks:List (Nat×Nat)),xs=[.ref p]/\H p=some (.dT kvs)/\kvs.map (·.1)=ks.map kk/\kvs.length<=64/\(∀k∈ks,k.2<64) /\
  ∀(l:Y1) (bs:U3) (ks':List (Nat×Nat)),H l=none->ks'.Perm ks->ks'.Pairwise (λa b=>a.1*64+a.2<b.1*64+b.2)->Paired (λb (k:Nat×Nat)=>H b=some (.tup [.int (k.1:Int),.int (k.2:Int)])) bs ks'->Q (.ref l) (upd H l (.lst (bs.map V.ref)))):=by
 intro pins s σ H xs us Q I r h;obtain⟨p,kvs,ks,rfl,hp,S,hn,N,q⟩:=h;obtain⟨u,rfl,rx⟩:=vals1 r;cases rx;obtain⟨z,lo,d,M,o,es,ep,ho,he,hd,G,T⟩:kvs.length<=sizeLine/\(p == sysModules)=false/\∃xs:List (List Key×Addr×Value),
   Paired (λ(p:List Key×V) (q:List Key×Addr×Value)=>p.1=q.1/\H q.2.1=some (.tup (p.1.map kV))/\RelV p.2 q.2.2) kvs xs /\
   ∃o es ep,s.heap.get? p=some o/\o.ExactDict/\o.data=.dict es ep/\es.toList=xs.map (entryOfKey (tupleKind (G_ X.prog X.w)))/\(xs.map λx:List Key×Addr×Value=>x.1).Nodup:=I.hok p _ hp
 have K:kvs.length=d.length:=Paired.length M;have hsz:es.size=d.length:=by rw[<-Ep,G,Bj]
 have P:ks.length=d.length:=by have:=congrArg List.length S;simp at this;lia
 have a5:(64:Nat)<=sizeLine:=by decide
 have v:∀(i:Nat) (e:List Key×Addr×Value),d[i]?=some e->∃k,ks[i]?=some k/\e.1=kk k/\H e.2.1=some (.tup [.int (k.1:Int),.int (k.2:Int)]):=by
  clear G T hsz P z hn hp q N a5 K;induction M generalizing ks with
  | nil=>intro i e x;cases x
  | @cons a b as bs ab t ih =>
   intro i e x;cases ks with
   | nil=>cases S
   | cons k ks =>
    rw[GP,GP]at S;injection S with k1 k2;cases i with
    | zero =>
     cases x;refine⟨k,O,by rw[<-ab.1,k1],?_⟩;rw[ab.2.1,k1];rfl
    | succ i=>exact ih ks k2 i e x
 have U:ks.Nodup:=by
  have e:(d.map λx:List Key×Addr×Value=>x.1)=ks.map kk:=by
   apply List.ext_getElem?;intro i;rw[FN,FN];cases c:d[i]? with
   | none =>
    have:ks[i]?=none:=by rw[List.getElem?_eq_none_iff]at c ⊢;lia
    rw[this];rfl
   | some e =>
    obtain⟨k,k1,k2,_⟩:=v i e c;rw[k1,Rf,Rf,k2]
  rw[e]at T;exact(X7.mp T).imp λh e=>h (by rw[e])
 refine Calls.call_function_entry kind_sorted plain_sorted entry_sorted (args_sorted1 _) ?_;unfold Builtin.«sorted»;refine Ak (m:=checkCount "sorted" 1 1 _) (BZ (Ak (gather (A:=X.A.in1) (Dk.src (es:=es) (ep:=ep) lo) (I.ok.hd hc) ⟨o,ho,he,hd⟩ (by lia) λh' tk acc E L B=>?_)));have D:=Xq L;have J:acc.toList.length=d.length:=by rw[Ep,B.1,hsz]
 have C:∀(j:Nat) (u:W4),acc.toList[j]?=some u->∃e,d[j]?=some e/\u=Value.ref e.2.1:=λj u W=>by
  obtain⟨e,e1,e2⟩:=B.2 j u (by rw[<-bO];exact W);rw[<-bO,G,FN]at e1;obtain⟨k,c1,c2⟩:=G3.mp e1;exact⟨k,c1,by rw[e2,<-c2];rfl⟩
 refine Ak (wpAny_newList ?_ (by lia));have F:(h'.push (seqObj "list" acc.toList.toArray 0)).get? h'.objs.size=some (seqObj "list" acc.toList.toArray 0):=Ew _ rfl;have TW:Two (h'.push (seqObj "list" acc.toList.toArray 0)) acc.toList (λj=>((ks.getD j (0,0)).1:Int)) (λj=>((ks.getD j (0,0)).2:Int)):=λj u W=>by
  obtain⟨e,e1,e2⟩:=C j u W;obtain⟨k,k1,k2,k3⟩:=v j e e1;obtain⟨_,its,r,o,h1,h2,n,h3⟩:=(show BJ X.prog X.w H s.heap e.2.1 (.tup [.int (k.1:Int),.int (k.2:Int)]) from I.hok _ _ k3);obtain⟨t,t',rfl⟩:=Y8r r;refine⟨e.2.1,o,t,t',n,e2,Ca _ (E _ _ h1),h2,?_⟩;show _=Data.seq #[Value.int ((ks.getD j (0,0)).1:Int) t,Value.int ((ks.getD j (0,0)).2:Int) t'] n;rw[h3,G5,k1];rfl
 have sm:∀j,j<acc.toList.length->(ks.getD j (0,0)).2<64:=λj f=>by
  have:j<ks.length:=by lia
  rw[G5,Di this];exact N _ (Rg this)
 refine Ak (JQ (Rj slot_list_sort ⟨_,F,O⟩ entry_list_sort (Qd (z:=λj=>((ks.getD j (0,0)).1:Int)*64+((ks.getD j (0,0)).2:Int)) F (by lia) TW (λi j hi f=>?_) (λi j hi f e=>?_) λy h1 h2=>⟨_,O,?_⟩) (args_list_sort _)))
 ·have:=sm i hi;have:=sm j f;lia
 ·have a1:=sm i hi;have a2:=sm j f;have i1:i<ks.length:=by lia
  have j1:j<ks.length:=by lia
  have e:((ks.getD i (0,0)).1:Int)*64+((ks.getD i (0,0)).2:Int)=((ks.getD j (0,0)).1:Int)*64+((ks.getD j (0,0)).2:Int):=e;have Z:ks.getD i (0,0)=ks.getD j (0,0):=by
   apply Prod.ext<;>lia
  rw[G5,G5,Di i1,Di j1]at Z;have g:=MJ.mp U;rcases Nat.lt_trichotomy i j with q | q | q
  ·exact absurd Z (g i j _ _ q)
  ·exact q
  ·exact absurd Z.symm (g j i _ _ q)
 refine BZ ⟨_,O,?_⟩;have a0:(h'.push (seqObj "list" acc.toList.toArray 0)).get? h'.objs.size=some (seqObj "list" acc.toList.toArray 0):=F;obtain⟨e,a4⟩:=sortedHeap_at (out:=List.toArray (y.toList.map λi=>acc.toList.getD i Value.none)) a0;have kp:∀b o,s.heap.get? b=some o->(sortedHeap (h'.push (seqObj "list" acc.toList.toArray 0)) h'.objs.size acc.toList (List.toArray (y.toList.map λi=>acc.toList.getD i Value.none))).get? b=some o:=λb o x=>by
  have lt:=Bk (E b o x);rw[sortedHeap_old (Cy lt) (by rw[size_push'];exact Rm lt)];exact Ca _ (E b o x)
 have pl:∀i∈y.toList,i<d.length:=λi hi=>by rw[<-J];exact Gg.mp (h1.perm.mem_iff.mp hi)
 have Y:∀l:List Nat,(∀i∈l,i<d.length)->Vals ((l.map λi=>(d.getD i ([],0,Value.none)).2.1).map V.ref) (l.map λi=>acc.toList.getD i Value.none):=by
  intro l;induction l with
  | nil=>intro _;exact .nil
  | cons i l ih =>
   intro K;refine .cons ?_ (ih λj f=>K j (.tail _ f));have hi:=K i (.head _);have ha:i<acc.toList.length:=by lia
   obtain⟨e,e1,e2⟩:=C i acc.toList[i] (Di ha);show RelV (V.ref (d.getD i ([],0,Value.none)).2.1) (acc.toList.getD i Value.none);rw[G5,e1,G5,Di ha];exact e2
 have a3:∀l:List Nat,(∀i∈l,i<d.length)->Paired (λb (k:Nat×Nat)=>H b=some (.tup [.int (k.1:Int),.int (k.2:Int)])) (l.map λi=>(d.getD i ([],0,Value.none)).2.1) (l.map λi=>ks.getD i (0,0)):=by
  intro l;induction l with
  | nil=>intro _;exact .nil
  | cons i l ih =>
   intro K;refine .cons ?_ (ih λj f=>K j (.tail _ f));have hi:=K i (.head _);obtain⟨k,k1,k2,k3⟩:=v i d[i] (Di hi);show H (d.getD i ([],0,Value.none)).2.1=some (.tup [.int ((ks.getD i (0,0)).1:Int),.int ((ks.getD i (0,0)).2:Int)]);rw[G5,Di hi,G5,k1];exact k3
 have R:y.toList.length=d.length:=by rw[Ep,h1.size,J]
 refine⟨.ref h'.objs.size,_,I.laid (t':=tk) kp D (show BJ X.prog X.w _ _ _ (.lst ((y.toList.map λi=>(d.getD i ([],0,Value.none)).2.1).map V.ref)) from ⟨by rw[Bj,Bj,R];lia,_,e,Y _ pl,a4⟩),O,q _ _ (y.toList.map λi=>ks.getD i (0,0)) (I.hok.fresh D) ?_ ?_ (a3 _ pl)⟩
 ·have e:(List.range acc.toList.length).map (λi=>ks.getD i (0,0))=ks:=by
   rw[J,<-P];apply X3
   ·simp
   ·intro i q1 q2;simp[q2]
  rw[<-e];rw[e];have:=h1.perm.map (λi=>ks.getD i (0,0));rw[e]at this;exact this
 ·rw[X7];refine MJ.mpr λi j hi f ij=>?_;have hs:y.size=acc.toList.length:=h1.size;have up:=h2 i j ij (by rw[Ep]at f;lia);unfold Sr.kz at up;rw[Sr.Wi (by rw[Ep]at hi;exact hi),Sr.Wi (by rw[Ep]at f;exact f)]at up;rw[Gz,Gz];have up:((ks.getD y[i] (0,0)).1:Int)*64+((ks.getD y[i] (0,0)).2:Int)<((ks.getD y[j] (0,0)).1:Int)*64+((ks.getD y[j] (0,0)).2:Int):=up;lia
end L2
namespace A_
open L2 Ba Am Pc Eu
open Al (top Bs Bh BX va vb vc vd Xa Y9 ZK Lb Mi Wq RM)
open Ce (V4 sm add E En fl sw DG)
open Dp (Mk CZ Br)
open Xd (bk)
open Cw (mul one fa fs z0)
variable{m:Nat}{v u:V4}{x:A5}
theorem Vl.uniq(l:Vl m v x)(a:Vl m u x):v=u:=by
 obtain⟨b,l⟩:=l;obtain⟨M2,a⟩:=a;obtain⟨h,d,e,j⟩:=l (max b M2) (by omega);obtain⟨g,i,f,c⟩:=a (max b M2) (by lia);have p:=MN (max b M2-m);apply Ce.ext
 ·exact M_ p (by rw[<-h,<-g])
 ·exact M_ p (by rw[<-d,<-i])
 ·exact M_ p (by rw[<-e,<-f])
 ·exact M_ p (by rw[<-j,<-c])
theorem Yr{P x1 x2 x3 x4 y1 y2 y3 y4 v1 v2 v3 v4 u1 u2 u3 u4 A B A' B':Int}(h1:x1*A=v1*A')(h2:x2*A=v2*A')(h3:x3*A=v3*A')(h4:x4*A=v4*A')(g1:y1*B=u1*B')(g2:y2*B=u2*B')(g3:y3*B=u3*B')(g4:y4*B=u4*B')(s2 s3 s4:Int)
  (e:P=x1*y1+s2*(x2*y2)+s3*(x3*y3)+s4*(x4*y4)):P*(A*B)=(v1*u1+s2*(v2*u2)+s3*(v3*u3)+s4*(v4*u4))*(A'*B'):=by
 have e1:P*(A*B)=(x1*A)*(y1*B)+s2*((x2*A)*(y2*B))+s3*((x3*A)*(y3*B))+s4*((x4*A)*(y4*B)):=by rw[e];grind
 rw[e1,h1,h2,h3,h4,g1,g2,g3,g4];grind
theorem Np{P z h g M:Int}(h0:0<=h)(g0:0<=g)(hM:h+g<=M)(e:FZ P h z g):z*p2 (M-g)=P*p2 (M-h):=by
 unfold FZ at e;have e1:p2 (M-g)=p2 (M-g-h)*p2 h:=by rw[<-LQ (by lia) h0];congr 1;lia
 have e2:p2 (M-h)=p2 (M-g-h)*p2 g:=by rw[<-LQ (by lia) g0];congr 1;lia
 rw[e1,e2];have:z*(p2 (M-g-h)*p2 h)=p2 (M-g-h)*(z*p2 h):=by grind
 rw[this,<-e];grind
theorem Vl.mul{n:Nat}{y z:A5}(l:Vl m v x)(o:Vl n u y)(p:Xa x y z)(x0:0<=x.2)(y0:0<=y.2):Vl (m+n) (Cw.mul v u) z:=by
 obtain⟨k,l⟩:=l;obtain⟨M2,o⟩:=o;have z0:=p.amt.nn;refine⟨max k 0+max M2 0+m+n+x.2+y.2+z.2,λM w=>?_⟩;obtain⟨a,N2,rfl,c1,c2,c3,q,t,r⟩:∃a N2:Int,M=a+N2/\k<=a/\M2<=N2/\m+x.2<=a/\n+y.2<=N2/\0<=a/\0<=N2:=⟨max k 0+m+x.2,M-(max k 0+m+x.2),by lia,by lia,by lia,by lia,by lia,by lia,by lia⟩;obtain⟨e,c,j,f⟩:=l a c1;obtain⟨h,i,d,g⟩:=o N2 c2;have e1:p2 (a+N2-(x.2+y.2))=p2 (a-x.2)*p2 (N2-y.2):=by rw[<-LQ (by lia) (by lia)];congr 1;lia
 have e2:p2 (a+N2-((m+n:Nat):Int))=p2 (a-m)*p2 (N2-n):=by rw[<-LQ (by lia) (by lia)];congr 1;lia
 have s:=p.same;unfold va at e h;unfold vb at c i;unfold vc at j d;unfold vd at f g;unfold va vb vc vd;have b:x.2+y.2+z.2<=a+N2:=by lia
 refine⟨?_,?_,?_,?_⟩
 ·rw[Np (by lia) z0 b s.e1,e1,e2,Yr e c j f h g d i (-1) (-1) (-1) (by grind)];simp only[Cw.mul];grind
 ·rw[Np (by lia) z0 b s.e2,e1,e2,Yr e c j f i h g d 1 (-1) (-1) (by grind)];simp only[Cw.mul];grind
 ·rw[Np (by lia) z0 b s.e3,e1,e2,Yr e c j f d i h g 1 1 (-1) (by grind)];simp only[Cw.mul];grind
 ·rw[Np (by lia) z0 b s.e4,e1,e2,Yr e c j f g d i h 1 1 1 (by grind)];simp only[Cw.mul];grind
theorem Vl.add{y z:A5}{s:Int}(l:Vl m v x)(d:Vl m u y)(x0:0<=x.2)(y0:0<=y.2)(am:Ls z.1.1 z.1.2.1 z.1.2.2.1 z.1.2.2.2 z.2)
  (sm4:Cu (x.1.1*p2 y.2+s*y.1.1*p2 x.2) (x.1.2.1*p2 y.2+s*y.1.2.1*p2 x.2) (x.1.2.2.1*p2 y.2+s*y.1.2.2.1*p2 x.2) (x.1.2.2.2*p2 y.2+s*y.1.2.2.2*p2 x.2) (x.2+y.2) z.1.1 z.1.2.1 z.1.2.2.1 z.1.2.2.2 z.2):Vl m (Ce.add v (sm s u)) z:=by
 obtain⟨t,l⟩:=l;obtain⟨M2,d⟩:=d;have z0:=am.nn;refine⟨max t 0+max M2 0+x.2+y.2+z.2,λM w=>?_⟩;obtain⟨j,g,r,k⟩:=l M (by omega);obtain⟨o,p,h,n⟩:=d M (by omega);unfold va at j o;unfold vb at g p;unfold vc at r h;unfold vd at k n;have key:∀{a b f c v1:Int},FZ (a*p2 y.2+s*b*p2 x.2) (x.2+y.2) f z.2->a*p2 (M-x.2)=v1*p2 (M-m)->b*p2 (M-y.2)=c*p2 (M-m)->f*p2 (M-z.2)=(v1+s*c)*p2 (M-m):=λ{a b f c v1} e q i=>by
  rw[Np (by lia) z0 (by lia) e];have e1:p2 (M-x.2)=p2 y.2*p2 (M-(x.2+y.2)):=by rw[<-LQ y0 (by lia)];congr 1;lia
  have e2:p2 (M-y.2)=p2 x.2*p2 (M-(x.2+y.2)):=by rw[<-LQ x0 (by lia)];congr 1;lia
  rw[e1]at q;rw[e2]at i;have:(a*p2 y.2+s*b*p2 x.2)*p2 (M-(x.2+y.2))=a*(p2 y.2*p2 (M-(x.2+y.2)))+s*(b*(p2 x.2*p2 (M-(x.2+y.2)))):=by grind
  rw[this,q,i];grind
 unfold va vb vc vd;exact⟨key sm4.e1 j o,key sm4.e2 g p,key sm4.e3 r h,key sm4.e4 k n⟩
theorem Vl.half{a b c d h x y z u g:Int}(l:Vl m v ((a,b,c,d),h))(h0:0<=h)(r:Red a b c d (h+1) x y z u g):Vl (m+1) v ((x,y,z,u),g):=by
 obtain⟨o,l⟩:=l;have z0:=r.amt.nn;refine⟨max o 0+m+1+h+1+g+1,λM p=>?_⟩;obtain⟨k,j,i,n⟩:=l (M-1) (by lia);have s:=r.same;have e:p2 (M-((m+1:Nat):Int))=p2 (M-1-m):=by congr 1;lia
 have f:p2 (M-(h+1))=p2 (M-1-h):=by congr 1;lia
 unfold va at k;unfold vb at j;unfold vc at i;unfold vd at n;unfold va vb vc vd;refine⟨?_,?_,?_,?_⟩
 ·show x*p2 (M-g)=_;rw[Np (by lia) z0 (by lia) s.e1,f,e];exact k
 ·show y*p2 (M-g)=_;rw[Np (by lia) z0 (by lia) s.e2,f,e];exact j
 ·show z*p2 (M-g)=_;rw[Np (by lia) z0 (by lia) s.e3,f,e];exact i
 ·show u*p2 (M-g)=_;rw[Np (by lia) z0 (by lia) s.e4,f,e];exact n
theorem Vl.one(N:Nat):Vl N (sm (2^N) one) ((1,0,0,0),0):=by
 have:=Vl.of (x:=((1,0,0,0),0)) (N:=N) (Gf 0) (by show (0:Int)<=N;lia);exact this
end A_
namespace A_
open L2 Ba Am Pc Eu
open Al (top Bs Ez BX Bh Mt j5 Steps Gq)
open Ce (fl sw DG V4 En sm Aj)
open Dp (Mk CZ Br lay bn bp)
theorem PK{α:Type}{F:Addr->α->Prop}:∀{ps:U3}{ms:List α},Paired F ps ms->ps.length=ms.length
 | [],[],.nil=>rfl
 | _::_,_::_,.cons _ r=>by rw[J9,J9,PK r]
theorem Qq{α:Type}{F:Addr->α->Prop}:∀{ps:U3}{ms:List α}{i:Nat}{p:Y1},Paired F ps ms->ps[i]?=some p->∃m,ms[i]?=some m/\F p m
 | p'::ps,m::ms,0,p,.cons a r,h=>by
  have:p'=p:=by simpa using h
  subst this;exact⟨m,O,a⟩
 | p'::ps,m::ms,i+1,p,.cons a r,h=>by
  obtain⟨d,b,c⟩:=Qq (ps:=ps) (ms:=ms) (i:=i) (p:=p) r (by simpa using h);exact⟨d,by simpa using b,c⟩
theorem Sd{α:Type}{F:Addr->α->Prop}{a:Y1}{b:α}:∀{l:U3}{m:List α},Paired F l m->F a b->Paired F (l++[a]) (m++[b])
 | _,_,.nil,h=>.cons h .nil
 | _,_,.cons x r,h=>.cons x (Sd r h)
theorem PJ{α:Type}{F G:Addr->α->Prop}(f:∀a b,F a b->G a b):∀{l:U3}{m:List α},Paired F l m->Paired G l m
 | _,_,.nil=>.nil
 | _,_,.cons x r=>.cons (f _ _ x) (PJ f r)
theorem X3s{K:U0}{H:Hp}{p l:Y1}{zs:List V}{xs ys:List V}(h:Ao K H p zs)(e:H l=some (.lst xs)):Ao K (upd H l (.lst ys)) p zs:=by
 rcases h with h | h
 ·left;rcases h with h | ⟨o,h⟩
  ·exact .inl (by rw[Bq (K_ h e (by intro z;cases z))];exact h)
  ·exact .inr ⟨o,by rw[Bq (K_ h e (by intro z;cases z))];exact h⟩
 ·exact .inr h
section
variable {P:U8}{w:W3}{K:U0}{mg:U4}{base:Heap}{k:Nat}{h:Heap}
end
end A_
set_option maxHeartbeats 1000000
namespace A_
open L2 Ba Am Pc Eu
open Al (top Bs Bh BX Xa Y9 ZK Lb Mi Wq RM FJ)
open Ce (V4 sm add En fl sw DG)
open Dp (Mk CZ Br)
open Xd (bk)
open Cw (mul one fa fs z0 Te Od Ah)
abbrev Tm:=A5×Mk
noncomputable def vv (x:A5):V4:=sm (2^(60-x.2.toNat)) x.1
noncomputable def tv (t:Tm):Te:=(vv t.1,t.2)
theorem Wz{x:A5}(h0:0<=x.2)(h:x.2<=60):Vl 60 (vv x) x:=Vl.of (N:=60) h0 h
def D_ (K:U0)(H:Hp)(p:Y1)(t:Tm):Prop:=∃a b,H p=some (.tup [.ref a,.ref b])/\Bh K H a t.1/\Ao K H b (Eh t.2)
variable{K:U0}{H H':Hp}{p:Y1}
theorem D_.same{t:Tm}(h:D_ K H p t)(s:Same H H'):D_ K H' p t:=by
 obtain⟨a,b,h1,h2,c⟩:=h;exact⟨a,b,s _ _ h1,h2.same s,s.tup c⟩
variable{l:Y1}
theorem D_.upd{t:Tm}{xs ys:List V}(h:D_ K H p t)(e:H l=some (.lst xs)):D_ K (upd H l (.lst ys)) p t:=by
 obtain⟨a,b,h1,h2,c⟩:=h;exact⟨a,b,by rw[Bq (K_ h1 e (by intro z;cases z))];exact h1,h2.upd e,X3s c e⟩
structure JD (K:U0) (H:Hp) (l:Y1) (ps:U3) (T:List Tm):Prop where
 lst:H l=some (.lst (ps.map V.ref))
 tms:Paired (D_ K H) ps T
variable{T:List Tm}
theorem JD.same{ps:U3}(h:JD K H l ps T)(s:Same H H'):JD K H' l ps T:=⟨s _ _ h.lst,PJ (λ_ _ x=>x.same s) h.tms⟩
theorem JD.push{ps:U3}{t:Tm}(h:JD K H l ps T)(s:Same H H')(e:D_ K H' p t):JD K (upd H' l (.lst (ps.map V.ref++[V.ref p]))) l (ps++[p]) (T++[t]):=
 ⟨by rw[Az,Dt];rfl,Sd (PJ (λ_ _ x=>(x.same s).upd (s _ _ h.lst)) h.tms) (e.upd (s _ _ h.lst))⟩
structure IW (c i:Nat) (z:Prop) (T:List Tm):Prop where
 ok:∀t∈T,Cr (1+7*i) ((i:Nat):Int) t.1/\Ik c t.2
 ky:∀t∈T,t.2.2=(0,0)↔z
theorem IW.app{c i:Nat}{z:Prop}{T':List Tm}(h:IW c i z T)(h':IW c i z T'):IW c i z (T++T'):=⟨λt a=>by
 rcases Gw.mp a with q | q
 ·exact h.ok t q
 ·exact h'.ok t q,λt a=>by
 rcases Gw.mp a with q | q
 ·exact h.ky t q
 ·exact h'.ky t q⟩
theorem IW.one{c i:Nat}{z:Prop}{t:Tm}(h:Cr (1+7*i) ((i:Nat):Int) t.1)(k:Ik c t.2)(y:t.2.2=(0,0)↔z):IW c i z [t]:=⟨λu a=>by rw[GK.mp a];exact⟨h,k⟩,λu a=>by rw[GK.mp a];exact y⟩
theorem wu{x y z:A5}{u:V4}(p:Xa x y z)(x0:0<=x.2)(x60:x.2<=60)(y0:0<=y.2)(z60:z.2<=60)(l:Vl 1 u y):sm 2 (vv z)=mul (vv x) u :=
 ((Wz p.amt.nn z60).up 1).uniq ((Wz x0 x60).mul l p x0 y0)
theorem Yy(n:Nat):Vl 0 (En n one) (Bm n (1,0,0,0),0):=by
 have:=(Vl.one 0).Bm n;rw[show sm (2^0) one=one from rfl]at this;exact this
theorem W2l{a b x y z u g x' y' z' u' g':Int}{v v':V4}{J:Nat}(s:Al.Sum v.1 v.2.1 v.2.2.1 v.2.2.2 0 v'.1 v'.2.1 v'.2.2.1 v'.2.2.2 0 x y z u g)(r:Red x y z u (g+1) x' y' z' u' g')(l:Vl 0 (En (8-J) one) (v,0))(l':Vl 0 (En J one) (v',0)):Vl 1 (fa J) ((x',y',z',u'),g'):=by
 have h:=Vl.add (s:=1) (z:=((x,y,z,u),g)) l l' (Gf 0) (Gf 0) s.amt (by have:=s.same;simp only[Jk];exact this);rw[show sm 1 (En J one)=En J one from Ce.Nk _]at h;exact h.half s.amt.nn r
theorem W2k{a b x y z u g x' y' z' u' g':Int}{v v':V4}{J:Nat}(s:Al.Sum v.1 v.2.1 v.2.2.1 v.2.2.2 0 (-v'.1) (-v'.2.1) (-v'.2.2.1) (-v'.2.2.2) 0 x y z u g)(r:Red x y z u (g+1) x' y' z' u' g')(l:Vl 0 (En (8-J) one) (v,0))(l':Vl 0 (En J one) (v',0)):Vl 1 (fs J) ((x',y',z',u'),g'):=by
 have h:=Vl.add (s:=-1) (z:=((x,y,z,u),g)) l l' (Gf 0) (Gf 0) s.amt (by have:=s.same;simp only[jX];exact this);exact h.half s.amt.nn r
theorem mY:∀n,H_ 1 (Bm n (1,0,0,0)).1 (Bm n (1,0,0,0)).2.1 (Bm n (1,0,0,0)).2.2.1 (Bm n (1,0,0,0)).2.2.2
 | 0=>⟨by decide +kernel,by decide +kernel,by decide +kernel,by decide +kernel⟩
 | n+1=>let r:=mY n;⟨r.z4.neg,r.z1,r.z2,r.z3⟩
def Ul:Sp:=λvs H Q _=>∃(p:Y1) (x:Mv),vs=[.ref p]/\H p=some (mT (mm x))/\∀(t:Y1) (H':Hp),Same H H'->H' t=some (mT (mm (bk x)))->Q (.ref t) H'
def sV (K:U0):Sp:=λvs H Q _=>∃(l:Y1) (ps:U3) (T:List Tm) (A J c i:Nat) (z:Prop),vs=[.ref l,.int ((2^A:Nat):Int),.int (J:Int)]/\JD K H l ps T/\T.length<=100/\IW c i z T/\i<=40/\A<c/\1<=J/\J<=7 /\
 ∀(r:Y1) (H':Hp) (qs:U3) (T':List Tm),Same H H'->JD K H' r qs T'->IW c (i+1) z T'->T'.length<=2*T.length->Od A J (T.map tv) (T'.map tv)->Q (.ref r) H'
theorem Vi{f s A:Nat}(h:f.testBit A=true):¬ (f,s)=(0,0):=λz=>by
 injection z with z1 z2;rw[z1]at h;simp at h
section
variable {P:U8}{w:W3}{K:U0}{mg:U4}{base:Heap}{k:Nat}{h:Heap}
theorem X8q(F:Ab K "back_move" (top 52) .none)(X:K.In h)(G:Ng h mg):Ar P w K mg base (k+1) "back_move" ["move"] Ul:=by
 refine F.cal X G ["move"] (bi:=Ql λ_ _ _ _ _ _ _=>rfl) (len:=λ_ _ _ _ h=>by obtain⟨_,_,rfl,_⟩:=h;rfl) λd H vs Q E c h=>?_;obtain⟨p,x,rfl,hp,q⟩:=h;have SP:Ao K H p (.str (nm x)::(ns x).map V.int):=Ao.of hp
 refine⟨_,(@Aw _ _ _ _ _ (CQ (Bx Cz (Ai Aq (pv 0) Ad (λ_ _=>rfl)) Ej (Ae _))
   (@Av _ _ _ (Bb (@Dj _ _ _ _ _ (Aa Ej (Aa (Ai Aq (pv 0) Ad (λ_ _=>rfl)) (Aa (Ag Ii Ad (Ai Aq (pv 0) Ad (λ_ _=>rfl))) Af))))))
   CT)
  (@Av _ _ _ (Bb (pv 0)))),?_⟩
 try dsimp only[Bu]
 refine⟨_,O,p,_,_,.str (nm x),O,O,SP,Hu x,O,?_⟩;by_cases e:nm x="turn"
 ·obtain⟨a,j,rfl⟩:=Wg e;exact⟨_,O,Ay (λ_=>⟨_,O,p,_,_,.int a,O,O,SP,k1,_,O,p,_,_,.int j,O,O,SP,k2,_,_,O,O,t3,λt b=>q t _ (BW b _) Az⟩) (λz=>absurd rfl z)⟩
 ·refine⟨_,O,Ay (λz=>absurd (V.str.inj z) e) (λ_=>?_)⟩;refine⟨_,O,q p H (Same.refl _) ?_⟩;have:bk x=x:=by cases x<;>first | rfl | exact absurd rfl e
  rw[this];exact hp
theorem X0g(F:Ab K "terms_ahead_of_odd_turn" (top 67) .none)(X:K.In h)(G:Ng h mg){aO:Y1}(gO:mg "ONE"=some (.ref aO))(kO:∀H,Bh K H aO ((1,0,0,0),0))(dI:Ar P w K mg base k "halved" ["one"] ZK)(cF:Ar P w K mg base k "plus" ["one","other"] (Mi K))(d8:Ar P w K mg base k "minus" ["one","other"] (Wq K))
  (cB:Ar P w K mg base k "spun" ["one","k"] (Lb K)) (dR:Ar P w K mg base k "times" ["one","other"] (Y9 K)):Ar P w K mg base (k+1) "terms_ahead_of_odd_turn" ["terms","bit","k"] (sV K):=by
 refine F.cal X G ["terms","bit","k","for_all","for_sign","ahead","one","mark"] (bi:=Qj λ_ _ _ _ _ _ _ _ _=>rfl) (len:=λ_ _ _ _ h=>by obtain⟨_,_,_,_,_,_,_,_,rfl,_⟩:=h;rfl) λnd H vs Q E N h=>?_;obtain⟨l,ps,T,D,J,c,i,z,rfl,TM,c0,OT,c4,Ac,J1,J7,kq⟩:=h
 refine⟨_,(@Aw _ _ _ _ _ (@BR _ _ 3 _ _ _ _ nd rfl (Or.inl rfl) (BP dI N rfl (Aa (BP cF N rfl (Aa (BP cB N rfl (Aa (HY (v:=.ref aO) rfl gO rfl) (Aa (Ni Qu (pv 2)) Af))) (Aa (BP cB N rfl (Aa (HY (v:=.ref aO) rfl gO rfl) (Aa (pv 2) Af))) Af))) Af)) rfl (.inl rfl))
  (@Aw _ _ _ _ _ (@BR _ _ 4 _ _ _ _ nd rfl (Or.inl rfl) (BP dI N rfl (Aa (BP d8 N rfl (Aa (BP cB N rfl (Aa (HY (v:=.ref aO) rfl gO rfl) (Aa (Ni Qu (pv 2)) Af))) (Aa (BP cB N rfl (Aa (HY (v:=.ref aO) rfl gO rfl) (Aa (pv 2) Af))) Af))) Af)) rfl (.inl rfl))
  (@Aw _ _ _ _ _ (@BR _ _ 5 _ _ _ _ nd rfl (Or.inl rfl) (@PB _ _ _ _ Af) rfl (.inl rfl))
  (@Aw _ _ _ _ _ (JC PassesOwn.never rfl (Je (pv 0)) (@Ka _ _ _ _ _ _ rfl (@Dz _ _ _ _ _ (@CN _ _ 6 _ nd rfl (Or.inl rfl) (by first | exact .inl rfl | exact .inr rfl)) (@Dz _ _ _ _ _ (@CN _ _ 7 _ nd rfl (Or.inl rfl) (by first | exact .inl rfl | exact .inr rfl)) Kc rfl) rfl) rfl rfl)
   (@Av _ _ _ (CQ (Kd (Ag Fg (Ai Aq (pv 7) Ad (λ_ _=>rfl)) (pv 1)) (by intro _;rfl))
    (@Aw _ _ _ _ _ (Nr (ZM YS YW YX Sy (pv 5) (Aa (@Dj _ _ _ _ _ (Aa (BP dR N rfl (Aa (pv 6) (Aa (pv 3) Af))) (Aa (pv 7) Af))) Af)))
    (@Av _ _ _ (Nr (ZM YS YW YX Sy (pv 5) (Aa (@Dj _ _ _ _ _ (Aa (BP dR N rfl (Aa (pv 6) (Aa (pv 4) Af))) (Aa (@Dj _ _ _ _ _ (Aa (Ai Aq (pv 7) Ad (λ_ _=>rfl)) (Aa (Ai Aq (pv 7) Ad (λ_ _=>rfl)) (Aa (Ag LK (Ai Aq (pv 7) Ad (λ_ _=>rfl)) (pv 1)) Af)))) Af))) Af)))))
    (@Av _ _ _ (Nr (ZM YS YW YX Sy (pv 5) (Aa (@Dj _ _ _ _ _ (Aa (pv 6) (Aa (pv 7) Af))) Af)))))))
  (@Av _ _ _ (Bb (pv 5))))))),?_⟩
 try dsimp only[Bu]
 have eJ:((-(J:Int))%8).toNat=8-J:=by lia
 have b2:((J:Int)%8).toNat=J:=by lia
 have b3:∀{H1:Hp}{p q:Y1}{m n:Nat},Bh K H1 p (Bm m (1,0,0,0),0)->Bh K H1 q (Bm n (1,0,0,0),0)->RM K 1 [.ref p,.ref q] H1 p q (Bm m (1,0,0,0)).1 (Bm m (1,0,0,0)).2.1 (Bm m (1,0,0,0)).2.2.1 (Bm m (1,0,0,0)).2.2.2 0 (Bm n (1,0,0,0)).1 (Bm n (1,0,0,0)).2.1 (Bm n (1,0,0,0)).2.2.1 (Bm n (1,0,0,0)).2.2.2 0 :=
  λ{H1 p q m n} hp hq=>⟨O,hp,hq,Gf 0,Gf 0,by decide,by decide,mY m,mY n⟩
 refine⟨_,O,_,O,aO,1,0,0,0,0,_,O,kO _,λr1 H1 U e1=>⟨_,O,aO,1,0,0,0,0,_,O,kO _,λr2 H2 S2 e2=>?_⟩⟩;rw[eJ]at e1;rw[b2]at e2;refine⟨1,r1,r2,_,_,_,_,_,_,_,_,_,_,b3 (e1.same S2) e2,λr3 H3 x3 y3 z3 u3 g3 S3 e3 C q3=>⟨r3,_,_,_,_,_,O,e3,C.amt.nn,λr4 H4 x4 y4 z4 u4 g4 S4 e4 s4=>?_⟩⟩;have F4:Vl 1 (fa J) ((x4,y4,z4,u4),g4):=W2l (a:=0) (b:=0) C s4 (Yy _) (Yy _);have O4:Cr 3 1 ((x4,y4,z4,u4),g4):=⟨s4.sz q3,s4.amt,by have:=s4.le;have:=C.le;show g4<=1;lia⟩;have a7:=((U.trans S2).trans S3).trans S4;clear e1 e2 e3 q3 C s4 U S2 S3 S4;refine⟨_,O,_,O,aO,1,0,0,0,0,_,O,kO _,λr5 H5 S5 e5=>⟨_,O,aO,1,0,0,0,0,_,O,kO _,λr6 H6 S6 e6=>?_⟩⟩;rw[eJ]at e5;rw[b2]at e6;refine⟨1,r5,r6,_,_,_,_,_,_,_,_,_,_,b3 (e5.same S6) e6,λr7 H7 x7 y7 z7 u7 g7 S7 e7 s7 q7=>⟨r7,_,_,_,_,_,O,e7,s7.amt.nn,λr8 H8 x8 y8 z8 u8 g8 S8 e8 s8=>?_⟩⟩;have F8:Vl 1 (fs J) ((x8,y8,z8,u8),g8):=W2k (a:=0) (b:=0) s7 s8 (Yy _) (Yy _);have O8:Cr 3 1 ((x8,y8,z8,u8),g8):=⟨s8.sz q7,s8.amt,by have:=s8.le;have:=s7.le;show g8<=1;lia⟩;have a0:=((S5.trans S6).trans S7).trans S8;have I:=a7.trans a0;have E4:=a0 _ _ e4;clear e5 e6 e7 q7 s7 s8 S5 S6 S7 S8 a7 a0 e4;refine⟨Ef _,λM Y=>?_⟩;have s9:=BW Y (.lst []);have a9:upd H8 M (.lst []) M=some (.lst []):=Az;generalize upd H8 M (.lst [])=H9 at s9 a9 ⊢;have big:(1000:Nat)<sizeLine:=by decide
 have lp:=PK TM.tms
 refine⟨_,O,l,O,⟨_,(I.trans s9).seq (Ax.of TM.lst)⟩,Ss (K:=K) (a:=l) (xs:=ps.map V.ref) (λj σ H'=>Same H8 H'/\∃(qs:U3) (T':List Tm) (v6 v7:Option V),JD K H' M qs T'/\IW c (i+1) z T'/\T'.length<=2*j/\Od D J ((T.take j).map tv) (T'.map tv)/\σ=[some (.ref l),some (.int ((2^D:Nat):Int)),some (.int (J:Int)),some (.ref r4),some (.ref r8),some (.ref M),v6,v7])
  ⟨s9,[],[],none,none,⟨a9,.nil⟩,⟨(λt ht=>by cases ht),λt ht=>by cases ht⟩,Ef _,.nil,O⟩ (λj σ H' _ e=>(I.trans e.1).seq (Ax.of TM.lst)) ?_ ?_⟩
 ·rintro j x σ H1 hx ⟨U,qs,T',v6,v7,o,W,l1,od,rfl⟩;rw[FN]at hx;obtain⟨p,hp,rfl⟩:=G3.mp hx;obtain⟨t,ht,pa,u,ep,ea,eb⟩:=Qq TM.tms hp;have tm:=Jo ht;have jl:j<T.length:=(G4.mp ht).1;have tk:T.take (j+1)=T.take j++[t]:=by rw[JT,ht];rfl
  have lq:=PK o.tms;obtain⟨x1,kk,d,r⟩:=t;obtain⟨A,L⟩:Cr (1+7*i) ((i:Nat):Int) x1/\Ik c (kk,d,r):=OT.ok _ tm;have ky:(d,r)=(0,0)↔z:=OT.ky _ tm;have a2:=I.trans U;have a8:Bh K H1 pa x1:=ea.same a2;have a1:Ao K H1 u (Eh (kk,d,r)):=a2.tup eb;have xl:x1.2<=((i:Nat):Int):=A.le;have b0:x1.2<=60:=by lia
  refine⟨p,_,O,Ao.of (a2 _ _ ep),O,_,_,O,_,_,O,O,?_⟩;refine⟨_,O,u,_,_,.int d,O,O,a1,k1,_,O,_,_,O,O,_,O,?_⟩;show (if (Builtin.bitAnd (d:Int) ((2^D:Nat):Int) != 0)=true then _ else _);rw[tb];refine Js (λhb=>?_) (λhb=>?_)
  ·refine⟨_,O,.inl ⟨O,_,Ax.of o.lst⟩,_,O,_,O,pa,r4,x1,((x4,y4,z4,u4),g4),_,3,_,1,O,a8,Bh.of (U _ _ E4),A,O4,by lia,λr2 H2 y2 S2 e2 p2 o2=>⟨_,O,t2,λtp y=>⟨M,_,_,O,O,(S2.trans (BW y _)) _ _ o.lst,(by rw[Bj];lia),?_⟩⟩⟩;have C:=S2.trans (BW y (.tup [.ref r2,.ref u]));have ty:D_ K (upd H2 tp (.tup [.ref r2,.ref u])) tp (y2,(kk,d,r)):=⟨r2,u,Az,Bh.of ((BW y _) _ _ e2),C.tup a1⟩;have Z:=o.push C ty;have sU:Same H8 (upd (upd H2 tp (.tup [.ref r2,.ref u])) M (.lst (qs.map V.ref++[V.ref tp]))):=Gn (U.trans C) Y;have b7:y2.2<=60:=by have:=o2.le;lia
   generalize upd (upd H2 tp (.tup [.ref r2,.ref u])) M (.lst (qs.map V.ref++[V.ref tp]))=H3 at Z sU ⊢;have b4:=I.trans sU;refine⟨_,O,.inl ⟨O,_,Ax.of Z.lst⟩,_,O,_,O,pa,r8,x1,((x8,y8,z8,u8),g8),_,3,_,1,O,ea.same b4,Bh.of (sU _ _ e8),A,O8,by lia,λS B a3 b5 b8 b9 a6=>?_⟩;have a4:Ao K B u (Eh (kk,d,r)):=(b4.trans b5).tup eb;refine⟨_,O,u,_,_,.int kk,O,O,a4,k0,_,O,u,_,_,.int d,O,O,a4,k1,_,O,u,_,_,.int r,O,O,a4,k2,_,O,_,_,O,O,t3,λg a'=>?_⟩;have e5:[V.int (kk:Int),V.int (d:Int),V.int (Builtin.bitXor (r:Int) ((2^D:Nat):Int))]=Eh (kk,d,fl r D):=by rw[xb]
   have s5:=b5.trans (BW a' (.tup (Eh (kk,d,fl r D))));have q5:upd B g (.tup (Eh (kk,d,fl r D))) g=some (.tup (Eh (kk,d,fl r D))):=Az;have a5:upd B g (.tup (Eh (kk,d,fl r D))) S=some (tA a3):=(BW a' _) _ _ b8;rw[show upd B g (.tup [V.int (kk:Int),V.int (d:Int),V.int (Builtin.bitXor (r:Int) ((2^D:Nat):Int))])=upd B g (.tup (Eh (kk,d,fl r D))) by rw[e5]];generalize upd B g (.tup (Eh (kk,d,fl r D)))=H5 at s5 q5 a5 ⊢;refine⟨t2,λtq R=>⟨M,_,_,O,O,(s5.trans (BW R _)) _ _ Z.lst,(by rw[Bj,Gh,p8];lia),?_⟩⟩;have s6:=s5.trans (BW R (.tup [.ref S,.ref g]));have b':D_ K (upd H5 tq (.tup [.ref S,.ref g])) tq (a3,(kk,d,fl r D)):=⟨S,g,Az,Bh.of ((BW R _) _ _ a5),Ao.of ((BW R _) _ _ q5)⟩;have b6:=Z.push s6 b';have b1:a3.2<=60:=by have:=a6.le;lia
   refine⟨Gn (sU.trans s6) Y,_,_,_,_,b6,(W.app (IW.one (o2.mono (by lia) (by lia)) L ky)).app (IW.one (a6.mono (by lia) (by lia)) ⟨L.k,L.f,Hx L.s Ac⟩ ⟨λq=>absurd q (Vi hb),λq=>absurd (ky.mpr q) (Vi hb)⟩),by simp;lia,?_,O⟩;rw[tk,Dt,MF,Dt];exact Od.flip od hb (wu p2 A.amt.nn b0 O4.amt.nn b7 F4) (wu b9 A.amt.nn b0 O8.amt.nn b1 F8)
  ·refine⟨_,O,.inl ⟨O,_,Ax.of o.lst⟩,_,O,_,O,t2,λtp y=>⟨M,_,_,O,O,(BW y _) _ _ o.lst,(by rw[Bj];lia),?_⟩⟩;have C:=BW y (.tup [.ref pa,.ref u]);have ty:D_ K (upd H1 tp (.tup [.ref pa,.ref u])) tp (x1,(kk,d,r)):=⟨pa,u,Az,a8.same C,C.tup a1⟩;refine⟨Gn (U.trans C) Y,_,_,_,_,o.push C ty,W.app (IW.one (A.mono (by lia) (by lia)) L ky),by simp;lia,?_,O⟩;rw[tk,Dt,Dt];exact Od.keep od hb
 ·rintro σ H1 ⟨U,qs,T',v6,v7,o,W,l1,od,rfl⟩;rw[Bj,lp]at l1;rw[Bj,lp,Oj]at od;exact⟨_,O,kq M H1 qs T' (I.trans U) o W l1 od⟩
end
end A_
namespace A_
open L2 Ba Am Pc Eu
open Al (top Bs Bh BX)
open Ce (V4 sm add En fl sw DG)
open Dp (Mk CZ Br)
open Xd (bk Zf Wu lX)
open Cw (mul one z0 Te Od Ah)
variable{x:Mv}
theorem wg(b:Br x)(k:Nat):(CZ x (k,0,0)).2=(0,0):=by
 cases x with
 | cross a b' d=>exact b.elim
 | _=>(delta CZ;simp[sw])
theorem W1f{m:Mk}(o:Ce.Ok x)(b:Br x)(h:m.1<4):(CZ x m).2=(0,0)↔m.2=(0,0):=by
 constructor
 ·intro e;have q:=lX o b h;have z:=wg (Wu o b) (CZ x m).1;rw[<-e,show ((CZ x m).1,(CZ x m).2)=CZ x m from rfl,q]at z;exact z.trans e
 ·intro e;have z:=wg b m.1;rw[<-e]at z;exact z.trans e
noncomputable def cO (row:List Mv):Nat:=(row.filter Fj).length
noncomputable def K6 (x:Mv):Bool:=decide (nm x="cross")
noncomputable abbrev o1 (x:Mv):Nat:=if Fj x then 1 else 0
noncomputable def G6:Nat->List Mv->Option Nat
 | _,[]=>none
 | o,x::r=>if K6 x || decide (6<o+o1 x) then some 0 else (G6 (o+o1 x) r).map (·+1)
theorem PN(r:List Mv)(x:Mv):cO (r++[x])=cO r+o1 x:=by
 unfold cO;rw[Rn,Gh];cases h:Fj x<;>simp[h]
theorem mJ(r:List Mv)(x:Mv):cO (x::r)=o1 x+cO r:=by
 unfold cO o1;cases h:Fj x<;>simp[h];lia
structure NS (row:List Mv) (i:Nat):Prop where
 le:cO (row.take i)<=6
 eq:G6 0 row=(G6 (cO (row.take i)) (row.drop i)).map (·+i)
theorem NS.zero(row:List Mv):NS row 0:=⟨by simp[cO],by simp[cO]⟩
variable{row:List Mv}{i:Nat}
theorem NS.at(n:NS row i)(hx:row[i]?=some x):G6 0 row=if K6 x || decide (6<cO (row.take i)+o1 x) then some i else (G6 (cO (row.take i)+o1 x) (row.drop (i+1))).map (·+(i+1)):=by
 obtain⟨a,b⟩:=G4.mp hx;rw[n.eq,b_ a,b];show (if _ then _ else _:Option Nat).map _=_;split
 ·simp
 ·rw[Option.map_map];congr 1;funext y;show y+1+i=y+(i+1);lia
theorem NS.stop(n:NS row i)(hx:row[i]?=some x)(s:(K6 x || decide (6<cO (row.take i)+o1 x))=true):G6 0 row=some i:=by rw[n.at hx,if_pos s]
theorem NS.next(n:NS row i)(hx:row[i]?=some x)(s:(K6 x || decide (6<cO (row.take i)+o1 x))=false):NS row (i+1):=by
 have e:=n.at hx;rw[if_neg (by rw[s];decide)]at e;have t:cO (row.take (i+1))=cO (row.take i)+o1 x:=by rw[JT,hx];exact PN _ _
 rw[<-t]at e;refine⟨?_,e⟩;rw[YF]at s;have:=VP s.2;lia
theorem NS.fin(n:NS row row.length):G6 0 row=none:=by
 rw[n.eq,Xz];rfl
theorem j6:∀{row:List Mv}{o:Nat},G6 o row=none->o<=6->(∀x∈row,nm x≠"cross")/\o+cO row<=6
 | [],o,_,h=>⟨(λx b=>nomatch b),by simpa [cO] using h⟩
 | x::r,o,e,h=>by
  have e:(if K6 x || decide (6<o+o1 x) then some 0 else (G6 (o+o1 x) r).map (·+1))=none:=e;cases s:(K6 x || decide (6<o+o1 x)) with
  | true=>rw[if_pos s]at e;cases e
  | false =>
   rw[if_neg (by rw[s];decide)]at e;rw[YF]at s;have c:=VP s.2;have:=j6 (row:=r) (o:=o+o1 x) (by cases q:G6 (o+o1 x) r with | none=>rfl | some v=>rw[q]at e;cases e) (by lia);refine⟨λy a=>?_,by rw[mJ];lia⟩;rcases DY.mp a with rfl | a
   ·exact VP s.1
   ·exact this.1 y a
def sW (K:U0):Sp:=λvs H Q _=>∃(l q:Y1) (ps:U3) (T:List Tm) (x:Mv) (c i:Nat) (z:Prop),vs=[.ref l,.ref q]/\JD K H l ps T/\T.length<=100/\IW c i z T/\i<=40/\c<=6/\H q=some (mT (mm x))/\DG c x/\nm x≠"cross" /\
 ∀(r:Y1) (H':Hp) (qs:U3) (T':List Tm),Same H H'->JD K H' r qs T'->IW c (i+o1 x) z T'->T'.length<=2^o1 x*T.length->Ah x (T.map tv) (T'.map tv)->Q (.ref r) H'
def uc:Sp:=λvs H Q _=>∃(l:Y1) (row:List Mv),vs=[.ref l]/\Cv H l row/\row.length<=200/\G6 0 row=none/\∀H',Same H H'->Q .non H'
section
variable {P:U8}{w:W3}{K:U0}{mg:U4}{base:Heap}{k:Nat}{h:Heap}
theorem X0h(F:Ab K "terms_ahead" (top 66) .none)(X:K.In h)(G:Ng h mg)(cA:Ar P w K mg base k "is_odd_turn" ["move"] JL)(cI:Ar P w K mg base k "terms_ahead_of_odd_turn" ["terms","bit","k"] (sV K))(dP:Ar P w K mg base k "back_move" ["move"] Ul)(eA:Ar P w K mg base k "moved_by" ["mark","move"] (qL K)):
  Ar P w K mg base (k+1) "terms_ahead" ["terms","move"] (sW K):=by
 refine F.cal X G ["terms","move","back"] (bi:=Qk λ_ _ _ _ _ _ _ _=>rfl) (len:=λ_ _ _ _ h=>by obtain⟨_,_,_,_,_,_,_,_,rfl,_⟩:=h;rfl) λnd H vs Q E I h=>?_;obtain⟨l,q,ps,T,x,c,i,z,rfl,R,A,s,W,c6,Z,f,nx,kq⟩:=h;have SP:Ao K H q (.str (nm x)::(ns x).map V.int):=Ao.of Z
 refine⟨_,(@Aw _ _ _ _ _ (CQ (Fp (BP cA I rfl (Aa (pv 1) Af)))
   (@Av _ _ _ (Bb (BP cI I rfl (Aa (pv 0) (Aa (Ag Hy Ad (Ai Aq (pv 1) Ad (λ_ _=>rfl))) (Aa (Ai Aq (pv 1) Ad (λ_ _=>rfl)) Af))))))
   CT)
  (@Aw _ _ _ _ _ (@BR _ _ 2 _ _ _ _ nd rfl (Or.inr rfl) (BP dP I rfl (Aa (pv 1) Af)) rfl (.inl rfl))
  (@Av _ _ _ (Bb (KY rfl (Bw.of (Nc:=["one","mark","back"]) (mp:=[none,none,some 2]) (by kernel_rfl)) (Je (pv 0)) (λ_ _ _ _=>(Wk rfl (show (["one","mark","back"]:W0).Nodup by decide +kernel) rfl rfl rfl rfl)) (λ_ _ _ _=>(@Dj _ _ _ _ _ (Aa (pv 0) (Aa (BP eA I rfl (Aa (pv 1) (Aa (pv 2) Af))) Af))))))))),?_⟩
 try dsimp only[Bu]
 refine⟨_,O,q,x,O,Z,_,O,Js (λg=>?_) (λg=>?_)⟩
 ·have et:nm x="turn":=Classical.byContradiction λe=>by rw[Ys e]at g;cases g
  obtain⟨a,j,rfl⟩:=Wg et;obtain⟨a0,j1,j7⟩:0<=a/\1<=j/\j<=7:=f.1;have ac:a<(c:Int):=f.2 a (by simp[Mv.cells]);refine⟨_,O,_,O,q,_,_,.int a,O,O,SP,k1,_,_,O,O,⟨1,Ie,by omega,by lia⟩,_,O,q,_,_,.int j,O,O,SP,k2,?_⟩;refine⟨l,ps,T,a.toNat,j.toNat,c,i,z,?_,R,A,s,W,by lia,by lia,by lia,λr H' d T' S' Y S l' od=>kq r H' d T' S' Y (by rw[show o1 (.turn a j)=1 from if_pos g];exact S) ?_ (.inr ⟨a,j,O,od⟩)⟩
  ·show [V.ref l,V.int (1*2^a.toNat),V.int j]=_;rw[uT a0,tn (show 0<=j by lia)]
  ·show _<=2^(if Fj (.turn a j) then 1 else 0)*_;rw[if_pos g];exact l'
 ·have U:Br x:=(W0k f.1).mp (by rw[W0j nx,g];rfl);refine⟨_,O,q,x,O,Z,λt H1 S1 ht=>?_⟩;have lp:=PK R.tms;have sl:(100:Nat)<=sizeLine:=by decide
  have T1:=R.same S1;refine⟨_,O,l,O,⟨_,Ax.of T1.lst⟩,λacc b=>?_⟩;refine uI (K:=K) (a:=l) (xs:=ps.map V.ref) (fr:=[some (.ref t)]) (λj ys H'=>Same H1 H'/\H' acc=some (.lst ys)/\∃d,ys=d.map V.ref/\Paired (D_ K H') d ((T.take j).map λt=>(t.1,CZ (bk x) t.2))) (by rw[Bj];lia) ⟨BW b _,Az,[],O,.nil⟩ (λj ys H' e=>e.1.seq (Ax.of T1.lst)) ?_ ?_
  ·rintro j v ys H2 N w1 w2 hx n ⟨o,L,d,rfl,C⟩ kN;rw[FN]at hx;obtain⟨p,hp,rfl⟩:=G3.mp hx;obtain⟨u,m,pa,pb,ep,ea,eb⟩:=Qq T1.tms hp;have ok:=s.ok u (Jo m);refine⟨p,_,O,Ao.of (o _ _ ep),O,_,_,O,_,_,O,O,?_⟩;refine⟨_,O,_,O,_,O,pb,t,u.2,bk x,c,O,o.tup eb,o _ _ ht,ok.2,c6,Zf f,Wu f.1 U,λr H3 S3 e3=>⟨t2,λtp J=>?_⟩⟩;have D:=BW J (.tup [.ref pa,.ref r]);have B:=o.trans (S3.trans D);have M:=(S3.trans D) _ _ L;have e4:D_ K (upd H3 tp (.tup [.ref pa,.ref r])) tp (u.1,CZ (bk x) u.2):=⟨pa,r,Az,ea.same B,D.tup e3⟩;refine kN _ _ _ _ M ⟨Gn B b,Az,d++[tp],by rw[Dt];rfl,?_⟩;rw[JT,m,VN,Dt];exact Sd (PJ (λ_ _ y=>(y.same (S3.trans D)).upd M) C) (e4.upd M)
  ·rintro ys H2 n ⟨o,L,d,rfl,C⟩;rw[Bj,lp,Oj]at C;refine kq acc H2 d _ (S1.trans o) ⟨L,C⟩ ⟨λu m=>?_,λu m=>?_⟩ ?_ (.inl ⟨U,?_⟩)
   ·obtain⟨y,n,rfl⟩:=Jl.mp m;have ok:=s.ok y n;exact⟨ok.1.mono (by lia) (by lia),X8u (Zf f) ok.2⟩
   ·obtain⟨y,n,rfl⟩:=Jl.mp m;exact(W1f (Zf f).1 (Wu f.1 U) (s.ok y n).2.k).trans (s.ky y n)
   ·rw[Bj];exact bW _ (Lz _)
   ·rw[Lx,Lx];rfl
theorem Ge:Bf ["row","odd_turns","place","move"] ["row"] (CV (top 65)):=fS
theorem Y6k(F:Ab K "check_summed" (top 65) .none)(X:K.In h)(G:Ng h mg)(B:Bs mg)(gM:mg "MOST_ODD_TURNS"=some (.int 6 tM))(cA:Ar P w K mg base k "is_odd_turn" ["move"] JL):Ar P w K mg base (k+1) "check_summed" ["row"] uc:=by
 refine F.cal X G _ (S:=Ge) (bi:=Ql λ_ _ _ _ _ _ _=>rfl) (len:=λ_ _ _ _ h=>by obtain⟨_,_,rfl,_⟩:=h;rfl) λf H vs Q E A h=>?_;obtain⟨l,row,rfl,⟨ps,C,b⟩,r,pn,I⟩:=h;have o:Ax K H l (ps.map V.ref):=Ax.of C;have J:ps.length=row.length:=by have:=Sw b;rw[Bj]at this;exact this
 refine⟨_,(@Aw _ _ _ _ _ (@BR _ _ 1 _ _ _ _ f rfl (Or.inl rfl) Ad rfl (.inl rfl))
  (@Av _ _ _ (JC PassesOwn.never rfl (mX rfl B.enumerate (Aa (pv 0) Af)) (@Ka _ _ _ _ _ _ rfl (@Dz _ _ _ _ _ (@CN _ _ 2 _ f rfl (Or.inl rfl) (by first | exact .inl rfl | exact .inr rfl)) (@Dz _ _ _ _ _ (@CN _ _ 3 _ f rfl (Or.inl rfl) (by first | exact .inl rfl | exact .inr rfl)) Kc rfl) rfl) rfl rfl)
   (@Eo _ _ _ _ _ (CQ (Fp (BP cA A rfl (Aa (pv 3) Af)))
    (@Av _ _ _ (@BR _ _ 1 _ _ _ _ f rfl (Or.inl rfl) (Ag DX (pv 1) Ad) rfl (.inl rfl)))
    CT)
   (@Av _ _ _ (CQ (PW.pt (Jb (Bx Cz (Ai Aq (pv 3) Ad (λ_ _=>rfl)) Ej (Ae _)) (La (Bx MK (pv 1) (HY (v:=.int 6) rfl gM ⟨_,O⟩) (Ae _)))))
    (@Av _ _ _ Ml)
    CT)))))),?_⟩
 try dsimp only[Bu]
 refine⟨_,O,l,_,O,o,uD (K:=K) (a:=l) (xs:=ps.map V.ref) (λi σ H'=>Same H H'/\NS row i/\∃(v1 v2:Option V),σ=[some (.ref l),some (.int ((cO (row.take i):Nat):Int)),v1,v2])
  ⟨Same.refl _,NS.zero _,none,none,O⟩ (λi σ H' _ e=>e.1.seq o) ?_ ?_⟩
 ·rintro i x σ H1 T t ⟨g,j,v1,v2,rfl⟩ z;rw[FN]at t;obtain⟨q,D,rfl⟩:=G3.mp t;obtain⟨y,n,s⟩:=Wo b D;have d:=g.trans (BW z (.tup [.int i,.ref q]));refine⟨T,_,O,Ao.of Az,O,_,_,O,_,_,O,O,?_⟩;generalize upd H1 T (.tup [.int i,.ref q])=H2 at d ⊢;have p:cO (row.take (i+1))=cO (row.take i)+o1 y:=by rw[JT,n];exact PN _ _
  have c:(K6 y || decide (6<cO (row.take i)+o1 y))=false:=by
   cases e:(K6 y || decide (6<cO (row.take i)+o1 y)) with
   | false=>rfl
   | true=>rw[j.stop n e]at pn;cases pn
  have nx:=j.next n c
  refine⟨λu H'=>H2=H'/\u=[some (.ref l),some (.int ((cO (row.take (i+1)):Nat):Int)),some (.int i),some (.ref q)],?_,?_⟩
  ·refine⟨_,O,q,y,O,d _ _ s,_,O,Js (λm=>⟨_,O,_,_,O,O,O,?_⟩) (λm=>⟨O,?_⟩)⟩
   ·rw[p,o1,if_pos m];rfl
   ·rw[p,o1,if_neg (by rw[m];decide)];rfl
  rintro u _ ⟨rfl,rfl⟩;have SP:Ao K H2 q (.str (nm y)::(ns y).map V.int):=Ao.of (d _ _ s);rw[YF]at c;refine⟨_,O,q,_,_,.str (nm y),O,O,SP,Hu y,O,_,O,Ay (λe=>absurd (V.str.inj e) (VP c.1)) (λ_=>?_)⟩;refine⟨_,O,_,_,O,O,_,O,Ay (λe=>?_) (λ_=>⟨d,nx,_,_,O⟩)⟩;have:=nx.le;lia
 ·rintro σ H1 ⟨g,j,v1,v2,rfl⟩;exact I _ g
end
end A_
set_option maxHeartbeats 4000000
namespace Xf
open Pc
end Xf
namespace Zr
open Pc Xf
end Zr
namespace nq
open Pc Xf Zr
end nq
namespace M53
open Pc Xf Zr nq
end M53
namespace M82
open Pc Xf Zr nq Ba
variable {c:Nat}{f:Nat->A5}
end M82
set_option maxHeartbeats 1000000
namespace A_
open L2 Ba Am Pc Eu
open Al (top Bs Bh BX Lb Mi RM)
open Ce (V4 sm add En fl sw DG)
open Dp (Mk)
open Cw (mul one z0 Te ts gt Hr)
noncomputable abbrev Zz:A5:=((0,0,0,0),0)
variable{K:U0}{H:Hp}{p:Y1}{kvs:List (List Key×V)}{o:HO}
theorem uf{l:Y1}{zs:List V}(h:Ao K H p zs)(e:H l=some (.dT kvs)):Ao K (upd H l o) p zs:=by
 rcases h with h | h
 ·left;rcases h with h | ⟨o,h⟩
  ·exact .inl (by rw[Bq (K_ h e (by intro z;cases z))];exact h)
  ·exact .inr ⟨o,by rw[Bq (K_ h e (by intro z;cases z))];exact h⟩
 ·exact .inr h
theorem wX{a b:Nat×Nat}(h:kk a=kk b):a=b:=by
 unfold kk at h;injection h with h1 h2;injection h2 with h2 _;injection h1 with h1;injection h2 with h2;exact Prod.ext (by lia) (by lia)
theorem Y8s{k:List Key}(h:k∉kvs.map (·.1)):B_ kvs k=none:=by
 unfold B_;rw[Option.map_eq_none_iff,List.find?_eq_none];intro x a z;exact h (by rw[<-M6 z];exact Jl.mpr ⟨x,a,O⟩)
structure Jz (K:U0) (H:Hp) (kvs:List (List Key×V)) (ks:List (Nat×Nat)) (va:Nat×Nat->A5):Prop where
 keys:kvs.map (·.1)=ks.map kk
 vals:∀k∈ks,∃p,B_ kvs (kk k)=some (.ref p)/\Bh K H p (va k)
variable{ks:List (Nat×Nat)}{k:Nat×Nat}
theorem Jz.none{va:Nat×Nat->A5}(d:Jz K H kvs ks va)(h:k∉ks):B_ kvs (kk k)=none:=Y8s (by
 rw[d.keys]
 intro z
 obtain⟨y,a,e⟩:=Jl.mp z
 rw[wX e]at a
 exact h a)
theorem Jz.same{H':Hp}{va:Nat×Nat->A5}(d:Jz K H kvs ks va)(s:Same H H'):Jz K H' kvs ks va:=⟨d.keys,λk c=>by
 obtain⟨p,a,b⟩:=d.vals k c
 exact⟨p,a,b.same s⟩⟩
theorem Jz.len{va:Nat×Nat->A5}(d:Jz K H kvs ks va):kvs.length=ks.length:=by
 have:=congrArg List.length d.keys;rw[Bj,Bj]at this;exact this
variable{kvs0:List (List Key×V)}{z:A5}
theorem Jz.vput{va:Nat×Nat->A5}{t:Y1}{k0:Nat×Nat}(d:Jz K H kvs ks va)(ht:H t=some (.dT kvs0))(e:Bh K H p z)(hk:k∈ks\/k=k0):
  ∃q,B_ (putK kvs (kk k0) (.ref p)) (kk k)=some (.ref q)/\Bh K (upd H t o) q (if k=k0 then z else va k):=by
 rw[Y8t];by_cases c:k=k0
 ·rw[if_pos (by rw[c]),if_pos c];exact⟨p,O,uf e ht⟩
 ·rw[if_neg (λe=>c (wX e)),if_neg c];rcases hk with hk | hk
  ·obtain⟨q,a,b⟩:=d.vals k hk;exact⟨q,a,uf b ht⟩
  ·exact absurd hk c
theorem Jz.put{va:Nat×Nat->A5}{t:Y1}{k0:Nat×Nat}(d:Jz K H kvs ks va)(ht:H t=some (.dT kvs0))(e:Bh K H p z):
  Jz K (upd H t o) (putK kvs (kk k0) (.ref p)) (if k0∈ks then ks else ks++[k0]) (λk=>if k=k0 then z else va k):=by
 by_cases c:k0∈ks
 ·rw[if_pos c];refine⟨?_,λk f=>d.vput ht e (.inl f)⟩;unfold putK;obtain⟨q,a,_⟩:=d.vals k0 c;rw[Sx,a,if_pos (show (some (V.ref q)).isSome=true from rfl),Lx,<-d.keys];apply bK;intro b _;show (if b.1=kk k0 then (b.1,V.ref p) else b).1=b.1;split<;>rfl
 ·rw[if_neg c];refine⟨?_,λk f=>d.vput ht e ?_⟩
  ·rw[Y9h _ (d.none c),Dt,d.keys,Dt];rfl
  ·rcases Gw.mp f with q | q
   ·exact .inl q
   ·exact .inr (GK.mp q)
theorem xY(n:Nat)(v:V4)(h:Int):vv (Bm n v,h)=En n (vv (v,h)):=by
 show sm _ (Bm n v)=En n (sm _ v);rw[X3x,Ce.Wt]
theorem X3g:vv Zz=z0:=rfl
variable{x y:A5}
theorem tX(s:Al.Sum x.1.1 x.1.2.1 x.1.2.2.1 x.1.2.2.2 x.2 y.1.1 y.1.2.1 y.1.2.2.1 y.1.2.2.2 y.2 z.1.1 z.1.2.1 z.1.2.2.1 z.1.2.2.2 z.2)(x0:0<=x.2)(y0:0<=y.2)(x1:x.2<=60)(y1:y.2<=60):vv z=add (vv x) (vv y):=by
 have a:z.2<=60:=by have:=s.le;lia
 have h:=Vl.add (s:=1) (Wz x0 x1) (Wz y0 y1) x0 y0 s.amt (by have:=s.same;simp only[Jk];exact this);rw[Ce.Nk]at h;exact(Wz s.amt.nn a).uniq h
structure Gs (c j:Nat) (z:Prop) (T:List Tm) (ks:List (Nat×Nat)) (va:Nat×Nat->A5):Prop where
 nd:ks.Nodup
 len:ks.length<=j
 key:∀k∈ks,k.1<2^c/\k.2<2^c/\(k=(0,0)↔z)
 ok:∀k∈ks,Cr (300+85*j) 40 (va k)
 sum:∀F w,ts (gt (λk=>vv (va k)) ks) F w=ts ((T.take j).map tv) F w
theorem wk{kk' ff ss:Nat}(F:Ce.Bv)(w:Nat):mul (vv (Bm ((2*((kk':Int)-(pc (ff&&&ss):Nat)))%8).toNat x.1,x.2)) (Dp.lay (Hr (ff,ss)) F w)=mul (vv x) (Dp.lay (kk',ff,ss) F w):=by
 rw[xY];exact Cw.X5v (by lia) _ F w
variable{T:List Tm}
theorem Gs.step{c j:Nat}{z:Prop}{va:Nat×Nat->A5}(g:Gs c j z T ks va){kk' ff ss:Nat}(ht:T[j]?=some (x,(kk',ff,ss)))(k4:ff<2^c/\ss<2^c/\((ff,ss)=(0,0)↔z))(oy:Cr (300+85*(j+1)) 40 y)
  (e:vv y=add (if (ff,ss)∈ks then vv (va (ff,ss)) else z0) (vv (Bm ((2*((kk':Int)-(pc (ff&&&ss):Nat)))%8).toNat x.1,x.2))):
  Gs c (j+1) z T (if (ff,ss)∈ks then ks else ks++[(ff,ss)]) (λk=>if k=(ff,ss) then y else va k):=by
 have tk:(T.take (j+1)).map tv=(T.take j).map tv++[tv (x,(kk',ff,ss))]:=by rw[JT,ht,Dt];rfl
 have i:∀F w,ts ((T.take (j+1)).map tv) F w=add (ts ((T.take j).map tv) F w) (mul (vv x) (Dp.lay (kk',ff,ss) F w)):=λF w=>by
  rw[tk,Cw.Qt];show add _ (add _ z0)=_;rw[Cw.Q6];rfl
 have f:∀k,k≠(ff,ss)->vv (if k=(ff,ss) then y else va k)=vv (va k):=λk d=>by rw[if_neg d]
 have h:∀k,k=(ff,ss)\/k∈ks->Cr (300+85*(j+1)) 40 (if k=(ff,ss) then y else va k):=λk d=>by
  by_cases q:k=(ff,ss)
  ·rw[if_pos q];exact oy
  ·rw[if_neg q];rcases d with d | d
   ·exact absurd d q
   ·exact(g.ok k d).mono (by lia) (by lia)
 by_cases m:(ff,ss)∈ks
 ·rw[if_pos m]at e ⊢;refine⟨g.nd,by have:=g.len;lia,g.key,λk d=>h k (.inr d),λF w=>?_⟩;rw[i,<-g.sum,<-wk F w];refine Cw.wR (val:=λk=>vv (va k)) f ?_ F w g.nd m;show vv (if (ff,ss)=(ff,ss) then y else va (ff,ss))=_;rw[if_pos rfl,e]
 ·rw[if_neg m]at e ⊢;refine⟨List.nodup_append.mpr ⟨g.nd,by simp,λa n b l=>by rw[GK.mp l];exact λq=>m (by rw[<-q];exact n)⟩,by have:=g.len;simp;omega,λk d=>?_,λk d=>h k ?_,λF w=>?_⟩
  ·rcases Gw.mp d with q | q
   ·exact g.key k q
   ·rw[GK.mp q];exact k4
  ·rcases Gw.mp d with q | q
   ·exact .inr q
   ·exact .inl (GK.mp q)
  ·rw[i,<-g.sum,<-wk F w,Cw.X9u (val:=λk=>vv (va k)) m f];congr 2;show vv (if (ff,ss)=(ff,ss) then y else va (ff,ss))=_;rw[if_pos rfl,e,Cw.ZQ]
noncomputable abbrev key (k:Nat×Nat):Nat:=k.1*64+k.2
structure Gd (c:Nat) (T R:List Tm):Prop where
 up:R.Pairwise λa b=>key a.2.2<key b.2.2
 ok:∀t∈R,Cr 6000 40 t.1/\Ik c t.2/\t.1≠Zz/\t.2.1=pc (t.2.2.1&&&t.2.2.2)%4
 len:R.length<=T.length
 sum:∀F w,ts (R.map tv) F w=ts (T.map tv) F w
def Ko (K:U0):Sp:=λvs H Q _=>∃(l:Y1) (ps:U3) (T:List Tm) (c i:Nat) (z:Prop),vs=[.ref l]/\JD K H l ps T/\IW c i z T/\i<=40/\c<=6/\T.length<=64 /\
 ∀(r:Y1) (H':Hp) (qs:U3) (R:List Tm),H r=none->Same H H'->JD K H' r qs R->Gd c T R->Q (.ref r) H'
theorem W2j{c:Nat}{z:Prop}{ks':List (Nat×Nat)}{va:Nat×Nat->A5}(c6:c<=6)(g:Gs c T.length z T ks va)(l64:T.length<=64)(p:ks'.Perm ks)(up:ks'.Pairwise λa b=>a.1*64+a.2<b.1*64+b.2):Gd c T ((ks'.filter λk=>decide (va k≠Zz)).map λk=>(va k,Hr k)):=by
 refine⟨?_,λt i=>?_,?_,λF w=>?_⟩
 ·rw[X7];exact up.filter _
 ·obtain⟨k,f,rfl⟩:=Jl.mp i;obtain⟨m,h⟩:=Rc.mp f;have d:=p.mem_iff.mp m;obtain⟨a,b,_⟩:=g.key k d;exact⟨(g.ok k d).mono (by lia) (by decide),⟨Yg _ (by decide),a,b⟩,M6 h,O⟩
 ·rw[Bj];exact Fq (YM _ _) (by rw[p.length_eq];exact g.len)
 ·have e:=g.sum F w;rw[Oj]at e;rw[<-e,<-Cw.X3i F w (p.map λk=>(vv (va k),Hr k)),Lx];show ts ((ks'.filter λk=>decide (va k≠Zz)).map λk=>(vv (va k),Hr k)) F w=_;clear e up p;induction ks' with
  | nil=>rfl
  | cons k r ih =>
   by_cases q:va k=Zz
   ·rw[o7 (by simpa using q),ih];show _=add (mul (vv (va k)) _) _;rw[q,X3g,Cw.W_,Cw.ZQ]<;>rfl
   ·rw[o9 (by simpa using q)];show add _ _=add _ _;rw[ih]<;>rfl
abbrev Xe (H:Hp)(b:Y1)(k:Nat×Nat):Prop:=H b=some (.tup [.int (k.1:Int),.int (k.2:Int)])
theorem Vg:l5 x=[0,0,0,0,0]↔x=Zz:=by
 obtain⟨⟨a,b,c,d⟩,h⟩:=x;constructor
 ·intro e;have e:[a,b,c,d,h]=[0,0,0,0,0]:=e;injection e with e1 e;injection e with e2 e;injection e with e3 e;injection e with e4 e;injection e with e5 _;subst e1 e2 e3 e4 e5;rfl
 ·intro e;rw[e];rfl
theorem O6(a b c:V):¬ (HT.Bp [a,b,c].length 0 (some 1)=0/\HT.Bp [a,b,c].length [a,b,c].length none=[a,b,c].length):=by
 show ¬ (HT.Bp 3 0 (some 1)=0/\HT.Bp 3 3 none=3);decide
section
variable {P:U8}{w:W3}{K:U0}{mg:U4}{base:Heap}{k:Nat}{h:Heap}
theorem X5a(F:Ab K "gathered" (top 68) .none)(X:K.In h)(G:Ng h mg)(B:Bs mg){aZ:Y1}(gZ:mg "NOUGHT"=some (.ref aZ))(kZ:∀H,Bh K H aZ ((0,0,0,0),0))(cB:Ar P w K mg base k "spun" ["one","k"] (Lb K))(cY:Ar P w K mg base k "ones" ["number"] E_)(cF:Ar P w K mg base k "plus" ["one","other"] (Mi K)):
  Ar P w K mg base (k+1) "gathered" ["terms"] (Ko K):=by
 refine F.cal X G ["terms","totals","one","mark","words","unspun","left"] (bi:=Ql λ_ _ _ _ _ _ _=>rfl) (len:=λ_ _ _ _ h=>by obtain⟨_,_,_,_,_,_,rfl,_⟩:=h;rfl) λnd H vs Q E U h=>?_;obtain⟨l,ps,T,c,i,z,rfl,TM,OT,c8,c6,a7,kq⟩:=h;have lp:=PK TM.tms;have sl:(100:Nat)<sizeLine:=by decide
 have oz:Cr 1 0 Zz:=⟨⟨by decide +kernel,by decide +kernel,by decide +kernel,by decide +kernel⟩,⟨Gf 0,.inl rfl⟩,Gf 0⟩
 refine⟨_,(@Aw _ _ _ _ _ (@BR _ _ 1 _ _ _ _ nd rfl (Or.inr rfl) Y9l rfl (.inl rfl))
  (@Aw _ _ _ _ _ (JC PassesOwn.never rfl (Je (pv 0)) (@Ka _ _ _ _ _ _ rfl (@Dz _ _ _ _ _ (@CN _ _ 2 _ nd rfl (Or.inl rfl) (by first | exact .inl rfl | exact .inr rfl)) (@Dz _ _ _ _ _ (@CN _ _ 3 _ nd rfl (Or.inl rfl) (by first | exact .inl rfl | exact .inr rfl)) Kc rfl) rfl) rfl rfl)
   (@Aw _ _ _ _ _ (@BR _ _ 4 _ _ _ _ nd rfl (Or.inl rfl) (Ld Wc (pv 3) (Jv Ad) Nq) rfl (.inl rfl))
   (@Aw _ _ _ _ _ (@BR _ _ 5 _ _ _ _ nd rfl (Or.inl rfl) (BP cB U rfl (Aa (pv 2) (Aa (Ag JB Ad (Ag Ii (Ai Aq (pv 3) Ad (λ_ _=>rfl)) (BP cY U rfl (Aa (Ag Fg (Ai Aq (pv 3) Ad (λ_ _=>rfl)) (Ai Aq (pv 3) Ad (λ_ _=>rfl))) Af)))) Af))) rfl (.inl rfl))
   (@Av _ _ _ (X4d (Zj U) (pv 1) (pv 4) (BP cF U rfl (Aa (Y9m (Zj U) (pv 1) (pv 4) (HY (v:=.ref aZ) rfl gZ rfl) ⟨O,O,O,O⟩) (Aa (pv 5) Af))) rfl)))))
  (@Aw _ _ _ _ _ (lF (i:=6) rfl nd rfl rfl (Bw.of (Nc:=["words","totals"]) (mp:=[none,some 1]) (by kernel_rfl)) (Je (DP (Y0o rfl) rfl B.sorted boot_sorted (Aa (pv 1) Af))) (λ_ _ _ _=>(CN (i:=0) (show (["words","totals"]:W0).Nodup by decide +kernel) rfl (Or.inl rfl))) (λ_ _ _ _=>(Bx (Y9o U.units) (sI (Zj U) (pv 1) (pv 0) (λ_ _=>rfl)) (HY (v:=.ref aZ) rfl gZ rfl) (Ae _))) (λ_ _ _ _=>(pv 0)) rfl)
  (@Av _ _ _ (Bb (KY rfl (Bw.of (Nc:=["f","s","totals"]) (mp:=[none,none,some 1]) (by kernel_rfl)) (Je (pv 6)) (λ_ _ _ _=>(Wk rfl (show (["f","s","totals"]:W0).Nodup by decide +kernel) rfl rfl rfl rfl)) (λ_ _ _ _=>(@Dj _ _ _ _ _ (Aa (sI (Zj U) (pv 2) (@Dj _ _ _ _ _ (Aa (pv 0) (Aa (pv 1) Af))) (λ_ _=>rfl)) (Aa (@Dj _ _ _ _ _ (Aa (Ag Ec (BP cY U rfl (Aa (Ag Fg (pv 0) (pv 1)) Af)) Ad) (Aa (pv 0) (Aa (pv 1) Af)))) Af)))))))))),?_⟩
 try dsimp only[Bu]
 refine λtd b0=>?_;have s0:=BW b0 (.dT [])
 refine⟨_,O,l,O,⟨_,s0.seq (Ax.of TM.lst)⟩,Ss (K:=K) (a:=l) (xs:=ps.map V.ref) (λj σ H'=>Same H H'/\∃(kvs:List (List Key×V)) (ks:List (Nat×Nat)) (va:Nat×Nat->A5) (v2 v3 v4 v5:Option V),H' td=some (.dT kvs)/\Jz K H' kvs ks va/\Gs c j z T ks va/\σ=[some (.ref l),some (.ref td),v2,v3,v4,v5,none])
  ⟨s0,[],[],(λ_=>Zz),none,none,none,none,Az,⟨O,λk u=>by cases u⟩,⟨jU,Ef _,(λk u=>by cases u),(λk u=>by cases u),λF w=>by rw[jV];rfl⟩,O⟩ (λj σ H' _ e=>e.1.seq (Ax.of TM.lst)) ?_ ?_⟩
 ·rintro j x σ H1 hx ⟨S1,kvs,ks,va,v2,v3,v4,v5,M,D1,Z,rfl⟩;rw[FN]at hx;obtain⟨p,hp,rfl⟩:=G3.mp hx;obtain⟨t,ht,pa,W,ep,ea,eb⟩:=Qq TM.tms hp;have tm:=Jo ht;have jl:j<T.length:=(G4.mp ht).1;obtain⟨x1,A,n,g⟩:=t;obtain⟨a0,b3⟩:Cr (1+7*i) ((i:Nat):Int) x1/\Ik c (A,n,g):=OT.ok _ tm;have ky:(n,g)=(0,0)↔z:=OT.ky _ tm;have a6:Ao K H1 W (Eh (A,n,g)):=S1.tup eb;have xl:x1.2<=((i:Nat):Int):=a0.le;refine⟨p,_,O,Ao.of (S1 _ _ ep),O,_,_,O,_,_,O,O,?_⟩;refine⟨_,O,1,O,W,_,O,a6,.inr ⟨O6 _ _ _,λtw c0=>?_⟩⟩;rw[WW];have r:=BW c0 (.tup [V.int (n:Int),V.int (g:Int)]);have q2:upd H1 tw (.tup [V.int (n:Int),V.int (g:Int)]) tw=some (.tup ((kk (n,g)).map kV)):=Az;have D:=r _ _ M;generalize upd H1 tw (.tup [V.int (n:Int),V.int (g:Int)])=H2 at r q2 D ⊢;have a2:=r.tup a6;refine⟨_,O,_,O,W,_,_,.int A,O,O,a2,k0,_,O,W,_,_,.int n,O,O,a2,k1,_,O,W,_,_,.int g,O,O,a2,k2,_,_,O,O,n&&&g,WY,_,_,O,O,_,_,O,O,.inl ⟨by decide,by decide⟩,?_⟩;refine⟨pa,x1.1.1,x1.1.2.1,x1.1.2.2.1,x1.1.2.2.2,x1.2,_,O,ea.same (S1.trans r),λr3 H3 S3 e3=>?_⟩;have J:=S3 _ _ D;have D3:=(D1.same r).same S3;obtain⟨pO,I,eO,aO,oO,vO⟩:∃(pO:Y1) (I:A5),(B_ kvs (kk (n,g))).getD (.ref aZ)=.ref pO/\Bh K H3 pO I/\Cr (300+85*j) 40 I/\vv I=(if (n,g)∈ks then vv (va (n,g)) else z0):=by
   by_cases m:(n,g)∈ks
   ·obtain⟨p,a,b⟩:=D3.vals _ m;exact⟨p,_,by rw[a];rfl,b,Z.ok _ m,by rw[if_pos m]⟩
   ·exact⟨aZ,Zz,by rw[D3.none m];rfl,kZ _,oz.mono (by lia) (by decide),by rw[if_neg m];rfl⟩
  have hy:∀y,y=Bm ((2*((A:Int)-(pc (n&&&g):Nat)))%8).toNat x1.1->Bh K H3 r3 (y,x1.2):=λy e=>by rw[e];exact e3
  have o3:Cr (1+7*i) ((i:Nat):Int) (Bm ((2*((A:Int)-(pc (n&&&g):Nat)))%8).toNat x1.1,x1.2):=XM a0 _;refine⟨_,O,td,O,.inr ⟨_,.inl J⟩,_,O,_,Gb.t J (S3 _ _ q2),_,O,?_⟩;rw[eO];have c7:I.2<=40:=oO.le;have b2:=oO.amt.nn;have b5:0<=x1.2:=a0.amt.nn;refine⟨300+85*j,pO,r3,I.1.1,I.1.2.1,I.1.2.2.1,I.1.2.2.2,I.2,_,_,_,_,x1.2,⟨O,aO,e3,b2,b5,by lia,by lia,oO.sz,o3.sz.mono (by lia)⟩,λr4 H4 a4 b4 c4 d4 g4 S e4 s4 z4=>?_⟩;have o4:Cr (300+85*(j+1)) 40 ((a4,b4,c4,d4),g4):=⟨z4.mono (by lia),s4.amt,by have:=s4.le;show g4<=40;lia⟩;have a8:=S _ _ J;refine⟨_,O,_,O,td,_,O,Ln.t a8 (S _ _ (S3 _ _ q2)) (by rw[D1.len];have:=Z.len;lia),?_⟩;have b7:=(r.trans S3).trans S;refine⟨Gn (S1.trans b7) b0,_,_,_,_,_,_,_,Az,(D3.same S).put (z:=((a4,b4,c4,d4),g4)) a8 (Bh.of e4),Z.step ht ⟨b3.f,b3.s,ky⟩ o4 ?_,O⟩;rw[<-vO];exact tX (x:=I) (y:=(Bm ((2*((A:Int)-(pc (n&&&g):Nat)))%8).toNat x1.1,x1.2)) (z:=((a4,b4,c4,d4),g4)) s4 b2 b5 (by lia) (by show x1.2<=60;lia)
 ·rintro σ H1 ⟨S1,kvs,ks,va,v2,v3,v4,v5,M,D1,Z,rfl⟩;rw[Bj,lp]at Z;have c5:=Fq Z.len a7;have p6:=Hq c6;refine⟨_,O,td,kvs,ks,O,M,D1.keys,by rw[D1.len];exact c5,(λk u=>by have:=(Z.key k u).2.1;lia),λls bs ks' b9 pm up W=>?_⟩;have r:=BW b9 (.lst (bs.map V.ref));have q2:upd H1 ls (.lst (bs.map V.ref)) ls=some (.lst (bs.map V.ref)):=Az;have lb:=PK W;have kl:ks'.length=ks.length:=pm.length_eq;have P2:Paired (Xe (upd H1 ls (.lst (bs.map V.ref)))) bs ks':=PJ (λ_ _ e=>r _ _ e) W;generalize upd H1 ls (.lst (bs.map V.ref))=H2 at r q2 P2 ⊢;have D2:=D1.same r;have D:=r _ _ M;refine⟨ls,O,⟨_,Ax.of q2⟩,λacc Y=>?_⟩;refine X0q (K:=K) (l:=ls) (xs:=bs.map V.ref) (fr:=[some (.ref td)]) (λi ys H'=>Same H2 H'/\H' acc=some (.lst ys)/\∃cs:List Addr,ys=cs.map V.ref/\Paired (Xe H') cs ((ks'.take i).filter λk=>decide (va k≠Zz))) (by rw[Bj];lia) ⟨BW Y _,Az,[],O,.nil⟩ (λi ys H' e=>e.1.seq (Ax.of q2)) ?_ (λ{σ H R R'} m q=>by obtain⟨v,a,b⟩:=q;exact⟨v,a,m _ _ b⟩) ?_
  ·rintro i x ys H3 N hx hy ⟨S3,a3,cs,rfl,P3⟩ kN;rw[FN]at hx;obtain⟨b,hb,rfl⟩:=G3.mp hx;obtain⟨d,u,ek⟩:=Qq P2 hb;have mk:=pm.mem_iff.mp (Jo u);obtain⟨o,hv,av⟩:=D2.vals d mk;have a1:H3 b=some (.tup ((kk d).map kV)):=S3 _ _ ek;refine⟨_,O,_,O,td,.ref o,O,?_,?_⟩
   ·rw[<-hv];exact Gb.t (S3 _ _ D) a1
   refine⟨o,aZ,l5 (va d),l5 Zz,O,O,av.same S3,kZ _,_,O,?_⟩;have tk:ks'.take (i+1)=ks'.take i++[d]:=by rw[JT,u];rfl
   refine kN _ _ (λC=>⟨_,O,a3,Gn S3 Y,Az,cs++[b],by rw[Dt];rfl,?_⟩) (λC=>⟨S3,a3,cs,O,?_⟩)
   ·have nz:va d≠Zz:=λe=>by rw[e]at C;exact absurd C (by decide)
    rw[tk,Rn,o9 (by simpa using nz)];exact Sd (PJ (λ_ _ e=>by show upd _ _ _ _=_;rw[Bq (K_ e a3 (by intro z;cases z))];exact e) P3) (by show upd _ _ _ _=_;rw[Bq (K_ a1 a3 (by intro z;cases z))];exact a1)
   ·have nz:va d=Zz:=Classical.byContradiction λe=>by
     have:decide (l5 (va d)=l5 Zz)=false:=Cd λq=>e (Vg.mp q);rw[this]at C;exact absurd C (by decide)
    rw[tk,Rn,o7 (by simpa using nz),List.filter_nil,M4];exact P3
  ·rintro ys H3 ⟨S3,a3,cs,rfl,P3⟩;rw[Bj,lb,Oj]at P3;have lc:=PK P3;have lf:(ks'.filter λk=>decide (va k≠Zz)).length<=ks'.length:=YM _ _;have D3:=D2.same S3;have J:=S3 _ _ D;refine⟨_,O,acc,O,⟨_,Ax.of a3⟩,λb1 L=>?_⟩;refine uI (K:=K) (a:=acc) (xs:=cs.map V.ref) (fr:=[some (.ref td)]) (λj ys H'=>Same H3 H'/\H' b1=some (.lst ys)/\∃qs,ys=qs.map V.ref/\Paired (D_ K H') qs ((((ks'.filter λk=>decide (va k≠Zz))).take j).map λk=>(va k,Hr k))) (by rw[Bj];lia) ⟨BW L _,Az,[],O,.nil⟩ (λj ys H' e=>e.1.seq (Ax.of a3)) ?_ ?_
   ·rintro j v ys H4 N w1 w2 hx hy ⟨S,a4,qs,rfl,P4⟩ kN;rw[FN]at hx;obtain⟨b,hb,rfl⟩:=G3.mp hx;obtain⟨d,u,ek⟩:=Qq P3 hb;have mk:=pm.mem_iff.mp (Rc.mp (Jo u)).1;obtain⟨o,hv,av⟩:=D3.vals d mk;refine⟨b,_,O,Ao.of (S _ _ ek),O,_,_,O,_,_,O,O,?_⟩;refine⟨_,O,_,O,_,O,t2,λtq b6=>?_⟩;have s5:=BW b6 (.tup [V.int (d.1:Int),V.int (d.2:Int)]);have q5:upd H4 tq (.tup [V.int (d.1:Int),V.int (d.2:Int)]) tq=some (.tup ((kk d).map kV)):=Az;generalize upd H4 tq (.tup [V.int (d.1:Int),V.int (d.2:Int)])=H5 at s5 q5 ⊢;have a9:=S.trans s5;refine⟨td,.ref o,O,?_,?_⟩
    ·rw[<-hv];exact Gb.t (a9 _ _ J) q5
    refine⟨_,O,_,O,_,_,O,O,d.1&&&d.2,WY,_,_,O,O,(by decide:(0:Int)<4),_,O,_,O,t3,λtm b'=>⟨t2,λtp b8=>?_⟩⟩;have s6:=BW b' (.tup (Eh (Hr d)));have s7:=BW b8 (.tup [.ref o,.ref tm]);have a5:=s6.trans s7;have a':=a9.trans a5;have q7:=(s5.trans a5) _ _ a4;have e7:D_ K (upd (upd H5 tm (.tup (Eh (Hr d)))) tp (.tup [.ref o,.ref tm])) tp (va d,Hr d):=⟨o,tm,Az,av.same a',Ao.of (s7 _ _ Az)⟩;refine kN _ _ _ _ q7 ⟨Gn a' L,Az,qs++[tp],by rw[Dt];rfl,?_⟩;rw[JT,u,VN,Dt];exact Sd (PJ (λ_ _ y=>(y.same (s5.trans a5)).upd q7) P4) (e7.upd q7)
   ·rintro ys H4 hy ⟨S,a4,qs,rfl,P4⟩;rw[Bj,lc,Oj]at P4;exact kq b1 H4 qs _ (uE (((S1.trans r).trans S3)) L) (((S1.trans r).trans S3).trans S) ⟨a4,P4⟩ (W2j c6 Z a7 pm up)
end
end A_
namespace A_
open L2 Ba Am Pc Eu
open Al (top Bs Bh BX)
open Ce (V4 sm add En fl sw DG)
open Dp (Mk)
open Cw (mul one z0 Te ts gt Hr Et)
def Ks (K:U0):Sp:=λvs H Q _=>∃(pm l:Y1) (m:Mk) (row:List Mv) (c:Nat),vs=[.ref pm,.ref l]/\Ao K H pm (Eh m)/\Cv H l row/\Ik c m/\c<=6/\(∀x∈row,DG c x)/\row.length<=200/\G6 0 row=none /\
 ∀(r:Y1) (H':Hp) (qs:U3) (R T:List Tm),H r=none->Same H H'->JD K H' r qs R->Gd c T R->Et 60 m row (T.map tv)->T.length<=2^cO row->Q (.ref r) H'
theorem Nm{row:List Mv}{i:Nat}{x:Mv}(h:i<row.length)(hx:row[row.length-1-i]?=some x):row.drop (row.length-(i+1))=x::row.drop (row.length-i):=by
 have e:row.length-(i+1)=row.length-1-i:=by lia
 obtain⟨a,b⟩:=G4.mp hx;rw[e,b_ a,b];congr 2;lia
theorem rC(row:List Mv)(n:Nat):cO (row.drop n)<=cO row:=by
 have e:row=row.take n++row.drop n:=(Ru n row).symm;unfold cO;conv=>rhs;rw[e]
 rw[Rn,Gh];lia
section
variable {P:U8}{w:W3}{K:U0}{mg:U4}{base:Heap}{k:Nat}{h:Heap}
theorem JN:Bf ["mark","row","terms","move"] ["mark","row"] (CV (top 64)):=fS
theorem X5f(F:Ab K "back_sum" (top 64) .none)(X:K.In h)(G:Ng h mg)(B:Bs mg){aO:Y1}(gO:mg "ONE"=some (.ref aO))(kO:∀H,Bh K H aO ((1,0,0,0),0))(d7:Ar P w K mg base k "check_summed" ["row"] uc)(dD:Ar P w K mg base k "terms_ahead" ["terms","move"] (sW K))(dY:Ar P w K mg base k "gathered" ["terms"] (Ko K)):
  Ar P w K mg base (k+1) "back_sum" ["mark","row"] (Ks K):=by
 refine F.cal X G _ (S:=JN) (bi:=Qk λ_ _ _ _ _ _ _ _=>rfl) (len:=λ_ _ _ _ h=>by obtain⟨_,_,_,_,_,rfl,_⟩:=h;rfl) λC H vs Q E Y h=>?_;obtain⟨g,l,m,row,c,rfl,hm,R0,om,c6,vo,a1,pn,kq⟩:=h;obtain⟨nx,s⟩:=j6 pn (Ef _);rw[Gv]at s;obtain⟨rp,hl,b⟩:=id R0;have lr:rp.length=row.length:=by have:=Sw b;rw[Bj]at this;exact this
 refine⟨_,(@Aw _ _ _ _ _ (Nr (BP d7 Y rfl (Aa (pv 1) Af)))
  (@Aw _ _ _ _ _ (@BR _ _ 2 _ _ _ _ C rfl (Or.inl rfl) (@PB _ _ _ _ (Aa (@Dj _ _ _ _ _ (Aa (HY (v:=.ref aO) rfl gO rfl) (Aa (pv 0) Af))) Af)) rfl (.inl rfl))
  (@Aw _ _ _ _ _ (JC PassesOwn.never rfl (X7x rfl B.reversed (Aa (pv 1) Af)) (CN (i:=3) C rfl (Or.inl rfl))
   (@Av _ _ _ (@BR _ _ 2 _ _ _ _ C rfl (Or.inl rfl) (BP dD Y rfl (Aa (pv 2) (Aa (pv 3) Af))) rfl (.inl rfl))))
  (@Av _ _ _ (Bb (BP dY Y rfl (Aa (pv 2) Af))))))),?_⟩
 try dsimp only[Bu]
 refine⟨_,O,l,row,O,R0,by omega,pn,λH1 S1=>?_⟩;refine⟨_,O,t2,λtp D=>⟨(show 1<=sizeLine by decide),λl2 j=>?_⟩⟩;have s2:=BW D (.tup [.ref aO,.ref g]);have U:=s2.trans (BW j (.lst [V.ref tp]));have q3:upd (upd H1 tp (.tup [.ref aO,.ref g])) l2 (.lst [V.ref tp]) l2=some (.lst [V.ref tp]):=Az;have e3:D_ K (upd (upd H1 tp (.tup [.ref aO,.ref g])) l2 (.lst [V.ref tp])) tp (((1,0,0,0),0),m):=⟨aO,g,(BW j _) _ _ Az,kO _,(S1.trans U).tup hm⟩;generalize upd (upd H1 tp (.tup [.ref aO,.ref g])) l2 (.lst [V.ref tp])=H3 at U q3 e3 ⊢;have S3:=S1.trans U;have M:Cr 1 0 (((1,0,0,0),0):A5):=⟨⟨by decide +kernel,by decide +kernel,by decide +kernel,by decide +kernel⟩,⟨Gf 0,.inl rfl⟩,Gf 0⟩
 refine⟨_,O,l,_,O,Ax.of (S3 _ _ hl),X6a (K:=K) (a:=l) (xs:=rp.map V.ref) (λi σ H'=>Same H H'/\∃(lt:Y1) (ps:U3) (T:List Tm) (L:Option V),JD K H' lt ps T/\IW c (cO (row.drop (row.length-i))) (m.2=(0,0)) T/\T.length<=2^cO (row.drop (row.length-i))/\Et 60 m (row.drop (row.length-i)) (T.map tv)/\σ=[some (.ref g),some (.ref l),some (.ref lt),L])
  ⟨S3,l2,[tp],[(((1,0,0,0),0),m)],none,⟨q3,.cons e3 .nil⟩,by rw[Xr,Xz];exact IW.one M om Iff.rfl,?_,?_,O⟩ (λi σ H' _ e=>e.1.seq (Ax.of hl)) ?_ ?_⟩
 ·rw[Xr,Xz];exact Bc 1
 ·rw[Xr,Xz];exact Cw.Y9d 60 m
 ·rintro i x σ H4 hx ⟨o,lt,ps,T,L,I,f,n,q,rfl⟩;have W:i<row.length:=by
   have:=(G4.mp hx).1;rw[List.length_reverse,Bj]at this;lia
  rw[p7 (by rw[Bj];lia),FN,Bj,lr]at hx;obtain⟨p,hp,rfl⟩:=G3.mp hx;obtain⟨y,hy,ey⟩:=Wo b hp;have z:=Nm W hy;have A:=Jo hy;have JK:2^cO (row.drop (row.length-i))<=2^6:=Rt (by decide) (Fq (rC _ _) s);have cd:=Fq (rC row (row.length-i)) s;refine⟨_,O,_,O,lt,p,ps,T,y,c,_,_,O,I,by lia,f,by lia,c6,o _ _ ey,vo y A,nx y A,λr H5 N T' J d a0 l5 ah=>?_⟩;refine⟨o.trans J,r,N,T',_,d,by rw[z,mJ,Py];exact a0,?_,?_,O⟩
  ·rw[z,mJ,Nat.pow_add];exact Fq l5 (Nat.mul_le_mul (Bc _) n)
  ·rw[z];exact Cw.Y5c (vo y A).1 q ah λt ht=>by
    obtain⟨u,hu,rfl⟩:=Jl.mp ht;exact(f.ok u hu).2.k
 ·rintro σ H4 ⟨o,lt,ps,T,L,I,f,n,q,rfl⟩;rw[Bj,lr]at f n q;rw[Nat.sub_self,VB]at f n q;have JK:2^cO row<=2^6:=Rt (by decide) s;exact⟨_,O,lt,ps,T,c,cO row,_,O,I,f,by lia,c6,by lia,λr H5 N R Z J d gd=>kq r H5 N R T (uE o Z) (o.trans J) d gd q n⟩
end
end A_
set_option maxHeartbeats 4000000
namespace Fx
def Tr (di:W7)(e T:Y1)(cls fl:W4)(h:Heap):Prop:=∃oe vs oT ts,h.get? e=some oe/\(oe.cls=cls/\oe.dict=di)/\oe.data=.fields vs/\(vs[1]?=some (.ref T)/\vs[2]?=some .none)/\T≠e/\h.get? T=some oT/\oT.data=.fields ts/\ts[3]?=some fl/\3<ts.size
structure Kp (fs xs:U3) (h h':Heap):Prop where
 keep:∀b o,h.get? b=some o->b∉fs->b∉xs->h'.get? b=some o
 slot:∀b o,h.get? b=some o->b∉xs->∃sl,h'.get? b=some {o with slots:=sl}
 there:∀b o,h.get? b=some o->∃o',h'.get? b=some o'
section
variable {fs xs:U3}{h h1 h2:Heap}
theorem Kp.trans(p:Kp fs xs h h1)(q:Kp fs xs h1 h2):Kp fs xs h h2 where
 keep:=λb o e n m=>q.keep b o (p.keep b o e n m) n m
 slot:=λb o e m=>by
  obtain⟨c,e1⟩:=p.slot b o e m;obtain⟨a,e2⟩:=q.slot b _ e1 m;exact⟨a,e2⟩
 there:=λb o e=>by
  obtain⟨o1,e1⟩:=p.there b o e;exact q.there b o1 e1
theorem Kp.same(k:∀b o,h.get? b=some o->h1.get? b=some o):Kp fs xs h h1:=⟨λb o e _ _=>k b o e,λb o e _=>⟨o.slots,k b o e⟩,λb o e=>⟨o,k b o e⟩⟩
theorem Kp.new(o:Obj):Kp fs xs h (h.push o):=.same λ_ _ e=>Ca _ e
theorem Kp.slots(p:Heap.SlotsOnly fs h h1):Kp fs xs h h1 where
 keep:=λb o e n _=>(p.2.1 b n).trans e
 slot:=λb o e _=>p.2.2 b o e
 there:=λb o e=>let ⟨_,q⟩:=p.2.2 b o e;⟨_,q⟩
theorem Kp.field{a:Y1}{o:Obj}{vs:U9}{f:Array Value->Array Value}(ha:a∈xs)(e:h.get? a=some o)(d:o.data=.fields vs):Kp fs xs h (h.update a (Obj.mapFields f)):=by
 have k:∀b u,b≠a->h.get? b=some u->(h.update a (Obj.mapFields f)).get? b=some u:=λb u n q=>(QX _ _ n.symm).trans q;have c:=Oq (Obj.mapFields f) e (Obj.isFreed_of_fields (Obj.data_mapFields d f));exact⟨λb u q _ m=>k b u (λz=>m (z ▸ ha)) q,λb u q m=>⟨u.slots,k b u (λz=>m (z ▸ ha)) q⟩,λb u q=>(Classical.em (b=a)).elim (λz=>⟨o.mapFields f,by rw[z];exact c⟩) λz=>⟨u,k b u z q⟩⟩
theorem Kp.fresh(p:Kp fs xs h h1){b:Y1}(e:h1.get? b=none):h.get? b=none:=by
 cases q:h.get? b with
 | none=>rfl
 | some o=>obtain⟨o',a⟩:=p.there b o q;rw[e]at a;cases a
end
def Rec (h:Heap)(a:Y1)(o:Obj)(vs:U9):Prop:=h.get? a=some o/\o.data=.fields vs
variable{vs:U9}
theorem Rec.put{h:Heap}{a:Y1}{o:Obj}(r:Rec h a o vs)(f:Array Value->Array Value):Rec (h.update a (Obj.mapFields f)) a (o.mapFields f) (f vs):=
 ⟨Oq _ r.1 (Obj.isFreed_of_fields (Obj.data_mapFields r.2 f)),Obj.data_mapFields r.2 f⟩
theorem Rec.off{h:Heap}{a b:Y1}{o:Obj}(r:Rec h a o vs)(n:a≠b)(f:Obj->Obj):Rec (h.update b f) a o vs:=⟨(QX _ _ n.symm).trans r.1,r.2⟩
theorem X4a(o:Obj)(f:Array Value->Array Value):(o.mapFields f).cls=o.cls/\(o.mapFields f).dict=o.dict:=by
 obtain⟨c,d,a,b⟩:=o;cases a<;>exact⟨O,O⟩
variable{e T:Y1}{oe:Obj}
theorem Tr.of{h:Heap}{oT:Obj}{ts:U9}{cls fl:W4}(r:Rec h e oe vs)(c:oe.cls=cls/\oe.dict=di)(r':Rec h T oT ts)(n:T≠e)(v:vs[1]?=some (.ref T)/\vs[2]?=some .none)(t:ts[3]?=some fl)(z:3<ts.size):Tr di e T cls fl h :=
 ⟨oe,vs,oT,ts,r.1,c,r.2,v,n,r'.1,r'.2,t,z⟩
section
variable {M:Model}{A:W8}{E:U2}{s:U7}
variable{base:Heap}{env:Env}{outer:List Env}{L:Y1}{Q:Unit->Shared->Prop}
theorem hung{head:W4}{b:Bool}{xs:U3}
  (ha:A.frames=some (env::outer)) (hf:s.heap.FunFrames base (env::outer)) (hl:env.frame=some L) (r:Rec s.heap e oe vs) (hd:oe.dict=di) (two:1<vs.size) (ctx:vs[2]?=some .none) (he:e∈xs)
  (k:∀h' T,s.heap.get? T=none->Tr di e T oe.cls .none h'->Kp ((env::outer).filterMap (·.frame)) xs s.heap h'->Q () {s with heap:=h'}):
  wpAny M A (do let a ← frameOf env;let i ← entryPlaceOf L b;let t ← EntryCells.newEntry head a .none (rawInt L) .none i;setField (.ref e) 1 t) (λ_ s'=>wpAny M A (setFlight (.ref e) none) Q E s') E s:=by
 have D:e∉(env::outer).filterMap (·.frame):=λz=>by
  obtain⟨_,o,q,n⟩:=hf.mem z;exact n vs (Option.some.inj (r.1.symm.trans q) ▸ r.2)
 refine Ak (wpAny_frameOf_fun ha hf hl λh1 j=>Ak (wpAny_entryPlaceOf λi place=>Ak ?_));have y:Kp ((env::outer).filterMap (·.frame)) xs s.heap h1:=.slots j;have p:Rec h1 e oe vs:=⟨(j.2.1 e D).trans r.1,r.2⟩;have ne:h1.objs.size≠e:=Kz (Bk p.1);have new:s.heap.get? h1.objs.size=none:=y.fresh (YG (Bc _));simp only[EntryCells.newEntry,newFields];refine KD ?_ (place.sizeOk5 _ _ _ _ _);obtain⟨o,C,ts,d,t3,tz⟩:∃o:Obj,o={ cls:=.type "traceback",dict:=none,data:=.fields ([head,.ref L,.none,rawInt L,.none]++(if i.isEmpty then List.replicate 6 Value.none else i)).toArray}/\∃ts:Array Value,o.data=.fields ts/\ts[3]?=some (rawInt L)/\3<ts.size:=by
  refine⟨_,O,_,O,?_,?_⟩
  ·rcases place with rfl | ⟨_,_,_,_,_,_,_,rfl⟩<;>simp
  ·simp only[Du,Gh,J9,jZ];lia
 rw[<-C];have h:Rec (h1.push o) e oe vs:=⟨Ca _ p.1,p.2⟩;have B:Rec (h1.push o) h1.objs.size o ts:=⟨Ew _ (Obj.isFreed_of_fields d),d⟩;have p2:=y.trans (Kp.new o);refine QG h.1 h.2 two ?_;have v:=h.put (·.setIfInBounds 1 (Value.ref h1.objs.size));have l:=B.off ne (Obj.mapFields (·.setIfInBounds 1 (Value.ref h1.objs.size)));have x:=p2.trans (Kp.field (f:=(·.setIfInBounds 1 (Value.ref h1.objs.size))) he h.1 h.2);have v1:(vs.setIfInBounds 1 (Value.ref h1.objs.size))[1]?=some (.ref h1.objs.size):=by simp[two]
 refine wpAny_setFlight_none v.1 v.2 v1 l.1 l.2 tz (k _ h1.objs.size new ?_ ?_)
 ·have c:=X4a oe (·.setIfInBounds 1 (Value.ref h1.objs.size));exact Tr.of (v.off ne.symm _) ⟨c.1,c.2.trans hd⟩ (l.put _) ne ⟨v1,by rw[Array.getElem?_setIfInBounds_ne (by decide)];exact ctx⟩ (by simp[tz]) (by simpa using tz)
 ·have q:∀b u,b≠h1.objs.size->Heap.get? ((h1.push o).update e (Obj.mapFields (·.setIfInBounds 1 (Value.ref h1.objs.size)))) b=some u->Heap.get? (((h1.push o).update e (Obj.mapFields (·.setIfInBounds 1 (Value.ref h1.objs.size)))).update h1.objs.size (Obj.mapFields (·.setIfInBounds 3 .none))) b=some u:=λb u n z=>(QX _ _ n.symm).trans z;have g:∀b u,s.heap.get? b=some u->b≠h1.objs.size:=λb u z w=>by rw[w,new]at z;cases z
  exact⟨λb u z n m=>q b u (g b u z) (x.keep b u z n m),λb u z m=>let ⟨j,w⟩:=x.slot b u z m;⟨j,q b _ (g b u z) w⟩,λb u z=>let ⟨u',w⟩:=x.there b u z;⟨u',q b u' (g b u z) w⟩⟩
theorem flight{cls fl:W4}(t:Tr di e T cls fl s.heap)(k:∀h',Tr di e T cls .none h'->(∀b,b≠T->h'.get? b=s.heap.get? b)->Q () {s with heap:=h'}):wpAny M A (setFlight (.ref e) none) Q E s:=by
 obtain⟨oe,vs,d,ts,e1,c,e2,v,n,a,t2,-,z⟩:=t;have r:Rec s.heap e oe vs:=⟨e1,e2⟩;have f:Rec s.heap T d ts:=⟨a,t2⟩;exact wpAny_setFlight_none e1 e2 v.1 a t2 z (k _ (Tr.of (r.off n.symm _) c (f.put _) n v (by simp[z]) (by simpa using z)) λb m=>QX _ _ m.symm)
theorem Y1q
  (ha:A.frames=some (env::outer)) (hf:s.heap.FunFrames base (env::outer)) (hl:env.frame=some L) (e1:s.heap.get? e=some oe) (hd:oe.dict=di) (e2:oe.data=.fields vs) (one:vs[1]?=some .none) (ctx:vs[2]?=some .none)
  (k:∀h' T,s.heap.get? T=none->Tr di e T oe.cls .none h'->Kp ((env::outer).filterMap (·.frame)) [e] s.heap h'->Q () {s with heap:=h'}):wpAny M A (leaving env (.ref e)) Q E s:=by
 have r:Rec s.heap e oe vs:=⟨e1,e2⟩;unfold leaving noteFrame;simp only[hl];exact Ak (Ak (J2 e1 e2 one (hung ha hf hl r hd (JW.mp one).1 ctx (by simp) k)))
theorem vA{T0:Y1}{cls:W4}
  (ha:A.frames=some (env::outer)) (hf:s.heap.FunFrames base (env::outer)) (hl:env.frame=some L) (ht:Tr di e T0 cls .none s.heap)
  (k:∀h' T,s.heap.get? T=none->Tr di e T cls .none h'->Kp ((env::outer).filterMap (·.frame)) [e,T0] s.heap h'->Q () {s with heap:=h'}):wpAny M A (noteFrame (.ref e) env) (λ_ s'=>wpAny M A (setFlight (.ref e) none) Q E s') E s:=by
 obtain⟨oe,vs,i,ts,e1,⟨c,hd⟩,e2,⟨one,g⟩,n,f,t2,a,d⟩:=ht;have r:Rec s.heap e oe vs:=⟨e1,e2⟩;have m:Rec s.heap T0 i ts:=⟨f,t2⟩;have p:Kp ((env::outer).filterMap (·.frame)) [e,T0] s.heap (s.heap.update T0 (Obj.mapFields (·.setIfInBounds 3 Value.none))):=.field (by simp) f t2
 have fr:Heap.FunFrames (s.heap.update T0 (Obj.mapFields (·.setIfInBounds 3 Value.none))) base (env::outer):=hf.of_keeps λb o q j=>⟨o,(QX _ _ λz=>by
  rw[<-z,f]at q;exact j ts (Option.some.inj q ▸ t2)).trans q,O⟩
 unfold noteFrame;simp only[hl];refine Ak (J2 e1 e2 one ?_);simp only[show (Value.ref T0 != Value.none)=true from rfl,J0];refine Ak (J2 f t2 a ?_);simp only[show (Value.none == rawInt L)=false from rfl,M8,Ir];refine Ak (QG f t2 d ?_);refine hung (s:={s with heap:=s.heap.update T0 (Obj.mapFields (·.setIfInBounds 3 Value.none))}) (xs:=[e,T0]) ha fr hl (r.off n.symm _) hd (JW.mp one).1 g (.head _) λh' T l h q=>?_;rw[c]at h;exact k h' T (p.fresh l) h (p.trans q)
theorem Y4k{T0:Y1}{cls:W4}
  (ha:A.frames=some (env::outer)) (hf:s.heap.FunFrames base (env::outer)) (hl:env.frame=some L) (ht:Tr di e T0 cls .none s.heap)
  (k:∀h' T,s.heap.get? T=none->Tr di e T cls .none h'->Kp ((env::outer).filterMap (·.frame)) [e,T0] s.heap h'->Q () {s with heap:=h'}):wpAny M A (leaving env (.ref e)) Q E s :=
 Ak (vA ha hf hl ht k)
end
end Fx
namespace L2
open Fx
noncomputable def Ms (P:U8)(w:W3):Lp:=λouter H s E e s'=>∃(a T:Y1) (cls:W4) (di:W7) (H':Hp),e=.ref a/\s'.os=s.os/\AllBare s'.gens/\Un (frs outer) [] H H' s.heap s'.heap/\EY P w H' s'.heap /\
 Tr di a T cls .none s'.heap/\s.heap.get? a=none/\s.heap.get? T=none/\H' a=none/\H' T=none/\E cls di H'
theorem BJ.get{P:U8}{w:W3}{H:Hp}{h:Heap}{a:Y1}{o:HO}(x:BJ P w H h a o):∃ob,h.get? a=some ob:=by
 cases o with
 | lst xs=>obtain⟨_,_,_,_,e⟩:=x;exact⟨_,e⟩
 | tup xs=>obtain⟨_,_,_,ob,e,_⟩:=x;exact⟨_,e⟩
 | dK kvs=>obtain⟨_,_,_,_,o,_,_,e,_⟩:=x;exact⟨_,e⟩
 | dT kvs=>obtain⟨_,_,_,_,o,_,_,e,_⟩:=x;exact⟨_,e⟩
 | set S n=>obtain⟨o,_,_,_,e,_⟩:=x;exact⟨_,e⟩
 | ins C dx fs=>obtain⟨_,_,_,e,_⟩:=x;exact⟨_,e⟩
 | own y=>obtain⟨_,e⟩:=x;exact⟨_,e⟩
 | xd fs=>obtain⟨_,⟨_,_,_,e,_⟩,_⟩:=x;exact⟨_,e⟩
 | rng lo hi=>obtain⟨_,_,_,e⟩:=x;exact⟨_,e⟩
 | frz ob u=>obtain⟨e,_⟩:=x;exact⟨_,e⟩
 | tbl ps=>exact⟨_,x⟩
 | met f y=>exact⟨_,x⟩
 | ext φ=>obtain⟨_,⟨_,e⟩,_⟩:=x;exact⟨_,e⟩
structure GJ (X:Cx) (E:XK):Prop where
 xe:∀e s',wpAny (model X.prog X.w) X.A (leaving X.env e) (λ_ s''=>Ms X.prog X.w X.outer X.H₀ X.s₀ E e s'') (λe' s''=>Ms X.prog X.w X.outer X.H₀ X.s₀ E e' s'') s'->X.xe e s'
 stk:X.stack=X.env::X.outer/\X.env.frame=some X.env.locals
 ex:X.ex=[]
section
variable {X:Cx}{pins:U1}{σ:St}{H:Hp}{s:U7}{E:XK}
theorem Inv.new0(I:Inv X pins σ H s)(F:GJ X E){b:Y1}(hb:s.heap.get? b=none):X.s₀.heap.get? b=none:=by
 cases q:X.s₀.heap.get? b with
 | none=>rfl
 | some o =>
  obtain⟨o',a⟩:=I.base.there b o q (by rw[F.ex];intro z;cases z);rw[hb]at a;cases a
theorem Inv.newH(I:Inv X pins σ H s){b:Y1}(hb:s.heap.get? b=none):H b=none:=by
 cases q:H b with
 | none=>rfl
 | some o =>
  obtain⟨c,a⟩:=BJ.get (I.hok b o q);rw[hb]at a;cases a
theorem Inv.left{h1 h':Heap}{e T:Y1}{xs:U3}{cls:W4}{di:W7}(I:Inv X pins σ H s)(F:GJ X E)(k1:∀b o,s.heap.get? b=some o->h1.get? b=some o)(hxs:∀b∈xs,X.s₀.heap.get? b=none/\H b=none)
  (kp:Kp ((X.env::X.outer).filterMap (·.frame)) xs h1 h') (he:X.s₀.heap.get? e=none/\H e=none) (hT:X.s₀.heap.get? T=none/\H T=none) (tr:Tr di e T cls .none h') (q:E cls di H):Ms X.prog X.w X.outer X.H₀ X.s₀ E (.ref e) {s with heap:=h'}:=by
 have n:∀b,b∈(X.env::X.outer).filterMap (·.frame)->b=X.env.locals\/b∈X.fs:=λb d=>by
  have:=I.stkSub b (by rw[F.stk.1];exact d);exact DY.mp this
 have p:∀b o,X.s₀.heap.get? b=some o->b≠X.env.locals:=λb o d z=>by
  have h1:=Bk d;have h2:=I.ok.above;rw[z]at h1;exact J4 _ (GR h1 h2)
 have f:∀b,b∉X.ex:=λb d=>by rw[F.ex]at d;cases d
 have i:∀b o,X.s₀.heap.get? b=some o->b∉xs:=λb o d g=>by rw[(hxs b g).1]at d;cases d
 refine⟨e,T,cls,di,H,O,I.os,I.bare,⟨λb o d h k _=>?_,λb o d h k _=>?_,λb o d h _=>I.base.free b o d h (f b),λb o d _=>?_,I.base.tups,I.base.frzs,I.base.tbls⟩,λa o t=>?_,tr,he.1,hT.1,he.2,hT.2,q⟩
 ·have j:=I.base.keep b o d h k (f b);exact kp.keep b o (k1 b o j) (λg=>(n b g).elim (p b o d) k) (i b o d)
 ·obtain⟨A,j⟩:=I.base.slot b o d h k (f b);obtain⟨r,x⟩:=kp.slot b _ (k1 b _ j) (i b o d);exact⟨r,x⟩
 ·obtain⟨o',j⟩:=I.base.there b o d (f b);exact kp.there b o' (k1 b o' j)
 ·refine(I.hok a o t).stay (λc v y q=>?_) (λ_ q=>q) λ_ _ q=>q;have l:∃u,H c=some u:=by
   rcases y with z | z
   ·rw[z];exact⟨_,t⟩
   ·exact⟨_,z⟩
  obtain⟨u,m⟩:=l;refine kp.keep c v (k1 c v q) (λg=>?_) (λg=>by rw[(hxs c g).2]at m;cases m);have:=I.stkFree c (by rw[F.stk.1];exact g);rw[m]at this;cases this
theorem Inv.flyOn{E':XK}{e:W4}{s':U7}(I:Inv X pins σ H s)(F:GJ X E)(c:Ms X.prog X.w X.stack H s E' e s')(hE:∀cls j H',E' cls j H'->E cls j H'):X.xe e s':=by
 obtain⟨a,T,cls,j,H1,rfl,os,f,un,i,n,l,t,m,p,q⟩:=c;have h:Inv X pins σ H1 s':=I.call' (ch:=[]) os un i f (λb d=>by cases d);refine F.xe _ _ ?_;refine Y4k (base:=X.base) (outer:=X.outer) (by rw[I.ok.frames,F.stk.1]) (by rw[<-F.stk.1];exact h.stack) F.stk.2 n λh' T' g k r=>?_;refine Inv.left (s:=s') (h1:=s'.heap) (h':=h') h F (λb o d=>d) (λb d=>?_) r ⟨I.new0 F l,m⟩ ⟨h.new0 F g,h.newH g⟩ k (hE _ _ _ q);simp only[DY,Gx,Gu]at d;rcases d with rfl | rfl
 ·exact⟨I.new0 F l,m⟩
 ·exact⟨I.new0 F t,p⟩
theorem GJ.passes{E':XK}(F:GJ X E)(hE:∀cls di H',E' cls di H'->E cls di H'):Passes (Ms X.prog X.w) X E':=λpins σ H s e s' I c=>I.flyOn F c hE
theorem Fz{P:U8}{w:W3}{K:U0}{mg:U4}{base:Heap}{N:W0}{qual:Str}{scope:Scope}{f:Y1}{cd:W4}{A:W8}{outer:List Env}{E:XK} :
  GJ (FP (Ms P w) P w K mg base N qual scope f cd A outer s H E) E:=⟨λ_ _ h=>h,⟨O,O⟩,O⟩
end
noncomputable abbrev Nh:List Value:=[.type "ValueError",.type "Exception",.type "BaseException",.type "object"]
structure ExcAt (K:U0) (C:Y1) (bm:U5):Prop where
 ex:∃N nm q bs hdct sn sub ab col dd k0 k1 k2 k3 k5,K.lookup C=some (excClassObj nm q C N bs bm hdct sn sub ab col dd k0 k1 k2 k3 k5 "ValueError.__new__")/\PySem.W.nsOkIn K N=true/\PySem.W.nsIn K N "__init__"=some none
 tail:PySem.W.tailIn K Nh bm=true
theorem excAt{K:U0}{C N:Y1}{nm q:Str}{bs bm:U5}{hdct:Bool}{sn:W0}{sub:U5}{ab:Bool}{col:Option Bool}{dd:W7}{k0 k1 k2 k3 k5:Option Value}
  (l:K.lookup C=some (excClassObj nm q C N bs bm hdct sn sub ab col dd k0 k1 k2 k3 k5 "ValueError.__new__")) (o:PySem.W.nsOkIn K N=true) (n:PySem.W.nsIn K N "__init__"=some none) (t:PySem.W.tailIn K Nh bm=true):ExcAt K C bm :=
 ⟨⟨N,nm,q,bs,hdct,sn,sub,ab,col,dd,k0,k1,k2,k3,k5,l,o,n⟩,t⟩
section
variable {X:Cx}{E:XK}{x:Str}{C:Y1}{e:Expr}{es:List Expr}{t:TA}{np cpos pos:Pos}{bm:U5}
end
end L2
namespace PySem
section
variable {M:Model}{A:W8}{E:U2}
theorem _V{h:Heap}{g:Array GenState}{d:Drawn}{t:Nat}{os:OsState}{e C D:Y1}{oe:Obj}{Q:Bool->Shared->Prop}
  {nm q:Str}{N:Y1}{bs bm:U5}{hdct:Bool}{sn:W0}{sub:U5}{ab:Bool}{col:Option Bool}{dd:W7}{k0 k1 k2 k3 k5:Option Value}{newId:String}
  {nm' q':Str}{N':Y1}{bs' bm':U5}{hdct':Bool}{sn':W0}{sub':U5}{ab':Bool}{col':Option Bool}{dd':W7}{k0' k1' k2' k3' k5':Option Value}{newId':String}
  (hC:h.get? C=some (excClassObj nm q C N bs bm hdct sn sub ab col dd k0 k1 k2 k3 k5 newId)) (hD:h.get? D=some (excClassObj nm' q' D N' bs' bm' hdct' sn' sub' ab' col' dd' k0' k1' k2' k3' k5' newId'))
  (he:h.get? e=some oe) (hcls:oe.cls=.ref C) (hbase:bm'.contains (.type "BaseException")=true) (hsub:(Value.ref C::bm).contains (.ref D)=true)
  (hq:Q true ⟨h,g,d,t,os⟩):wpAny M A (excMatches (.ref e) (.ref D)) Q E ⟨h,g,d,t,os⟩:=by
 have a:(Value.ref D::bm').contains (.type "BaseException")=true:=by rw[bB,hbase,jO]
 have f:=tc_notTuple;unfold excMatches;repeat (first | (with_reducible refine QS he ?_;rw[hcls]) | with_reducible refine QS hD ?_ | (with_reducible refine YC hD ?_;rw[a]) | (with_reducible refine YC hC ?_;rw[hsub]) | wp_step)
 exact hq
end
end PySem
namespace L2
open Fx
noncomputable def Dr (di:W7)(a:Y1)(cls:W4):HO:=.ext λh=>∃o vs,h.get? a=some o/\(o.cls=cls/\o.dict=di)/\o.data=.fields vs/\vs[2]?=some .none
noncomputable def Xt (X:Cx)(pins:U1)(σ0:St)(E:XK):Cx:={X with pn:=X.pn++pins,xe:=λe s'=>∃H1 s1,Inv X pins σ0 H1 s1/\Ms X.prog X.w X.stack H1 s1 E e s'}
variable{X:Cx}{pins:U1}{σ0 σ:St}{H:Hp}{s:U7}
theorem Inv.ofXt{p2:U1}{E:XK}(I:Inv (Xt X pins σ0 E) p2 σ H s):Inv X pins σ H s :=
 ⟨⟨I.ok.mod,I.ok.kind,I.ok.glob,I.ok.blt,I.ok.above,I.ok.inj,I.ok.has,I.ok.cab,I.ok.hd,I.ok.frames,I.ok.stk,I.ok.exf,I.ok.bs,I.ok.bsz,I.ok.noex,I.ok.exfs,I.ok.funs,I.ok.frf⟩,
  I.os,I.bare,I.base,I.loc,I.cell,I.free,I.freeC,λp hp=>I.pin p (Oo _ hp),I.hok,I.len⟩
theorem Inv.toXt{E:XK}(I:Inv X pins σ H s):Inv (Xt X pins σ0 E) [] σ H s :=
 ⟨⟨I.ok.mod,I.ok.kind,I.ok.glob,I.ok.blt,I.ok.above,I.ok.inj,I.ok.has,I.ok.cab,I.ok.hd,I.ok.frames,I.ok.stk,I.ok.exf,I.ok.bs,I.ok.bsz,I.ok.noex,I.ok.exfs,I.ok.funs,I.ok.frf⟩,
  I.os,I.bare,I.base,I.loc,I.cell,I.free,I.freeC,λp hp=>I.pin p (by rw[M4]at hp;exact hp),I.hok,I.len⟩
noncomputable def Xh (X:Cx)(a:Y1):Cx:={X with A:=X.A.mark (some (.ref a)),calm:=false,xe:=λ_ _=>False}
variable{a:Y1}
theorem Inv.toXh(I:Inv X pins σ H s):Inv (Xh X a) pins σ H s :=
 ⟨⟨I.ok.mod,I.ok.kind,I.ok.glob,I.ok.blt,I.ok.above,I.ok.inj,I.ok.has,I.ok.cab,(λz=>by cases z),I.ok.frames,I.ok.stk,I.ok.exf,I.ok.bs,I.ok.bsz,I.ok.noex,I.ok.exfs,I.ok.funs,I.ok.frf⟩,
  I.os,I.bare,I.base,I.loc,I.cell,I.free,I.freeC,I.pin,I.hok,I.len⟩
theorem Inv.ofXh(ok:X.Ok)(I:Inv (Xh X a) pins σ H s):Inv X pins σ H s :=
 ⟨ok,I.os,I.bare,I.base,I.loc,I.cell,I.free,I.freeC,I.pin,I.hok,I.len⟩
theorem Inv.landed{H1 H':Hp}{s1 s':U7}{T T':Y1}{cls:W4}{h':Heap}(I:Inv X pins σ H1 s1)(os:s'.os=s1.os)(bare:AllBare s'.gens)(un:Un (frs X.stack) [] H1 H' s1.heap s'.heap)(hok:EY X.prog X.w H' s'.heap)
  (kp:Kp (frs X.stack) [a,T] s'.heap h') (na:s1.heap.get? a=none) (nT:s1.heap.get? T=none) (ha:H' a=none) (hT:H' T=none) (tr:Tr di a T' cls .none h'):Inv X pins σ (upd H' a (Dr di a cls)) { s' with heap:=h'}:=by
 obtain⟨oe,vs,G,ts,x,F,hd,h1,y,A,C,K,H⟩:=tr;have nx:∀b o,s1.heap.get? b=some o->b∉[a,T]:=λb o e h=>by
  simp only[DY,Gx,Gu]at h;rcases h with rfl | rfl
  ·rw[na]at e;cases e
  ·rw[nT]at e;cases e
 have f:∀b u,H' b=some u->b≠a:=λb u e z=>by rw[z,ha]at e;cases e
 have p:∀b,b∈frs X.stack->H' b=none:=λb e=>by
  obtain⟨_,o,B,_⟩:=I.stack.mem e;exact un.free b o B (I.stkFree b e) (by intro z;cases z)
 refine I.call' (ch:=[]) (s':={ s' with heap:=h'}) os ⟨λb o e j m ox=>?_,λb o e j m ox=>?_,λb o e j ox=>?_,λb o e ox=>?_,λb xs e=>?_,λb o u e=>?_,λb ps e=>?_⟩ (λc o g=>?_) bare (λb e=>by cases e)
 ·exact kp.keep b o (un.keep b o e j m ox) m (nx b o e)
 ·obtain⟨J,q⟩:=un.slot b o e j m ox;obtain⟨t,n⟩:=kp.slot b _ q (nx b o e);exact⟨t,n⟩
 ·rw[Bq (λz=>nx b o e (by simp[z]))];exact un.free b o e j ox
 ·obtain⟨o',q⟩:=un.there b o e ox;exact kp.there b o' q
 ·have:=un.tups b xs e;rw[Bq (f b _ this)];exact this
 ·have:=un.frzs b o u e;rw[Bq (f b _ this)];exact this
 ·obtain⟨l,this⟩:=un.tbls b ps e;exact⟨l,by rw[Bq (f b _ this)];exact this⟩
 ·by_cases hca:c=a
  ·subst hca;rw[Az]at g;cases g;exact⟨⟨oe,vs,x,F,hd,h1.2⟩,⟨oe,x⟩,λh1 h2 ⟨o,vs,D,n,E⟩ k=>⟨o,vs,k o D,n,E⟩⟩
  ·rw[Bq hca]at g;refine(hok c o g).stay (λd v r q=>?_) (λb q=>by rw[Bq (f b _ q)];exact q) λb xs q=>by rw[Bq (f b _ q)];exact q
   have s:∃u,H' d=some u:=by
    rcases r with z | z
    ·rw[z];exact⟨_,g⟩
    ·exact⟨_,z⟩
   obtain⟨u,i⟩:=s;refine kp.keep d v q (λh=>?_) (λh=>?_)
   ·rw[p d h]at i;cases i
   ·simp only[DY,Gx,Gu]at h;rcases h with rfl | rfl
    ·rw[ha]at i;cases i
    ·rw[hT]at i;cases i
theorem Inv.blank{h':Heap}{m':U4}{tk:Nat}(I:Inv X pins σ H s)(hn:h'.Ns X.env.locals m')(hs:Heap.SameBut X.env.locals s.heap h'):Inv X pins (List.replicate X.N.length none) H {s with heap:=h',toks:=tk}:=by
 have a:∀b o,X.s₀.heap.get? b=some o->b≠X.env.locals:=λb o e=>Cy (GR (Bk e) I.ok.above);refine⟨I.ok,I.os,I.bare,⟨λb o e n f nx=>?_,λb o e n f nx=>?_,I.base.free,λb o e nx=>?_,I.base.tups,I.base.frzs,I.base.tbls⟩,⟨m',hn,λi x v k1 e2 w=>?_⟩,λx c e=>?_,I.free,I.freeC,λp hp=>?_,λb l e=>?_,by simp⟩
 ·exact(hs.2 b (a b o e)).trans (I.base.keep b o e n f nx)
 ·obtain⟨r,k1⟩:=I.base.slot b o e n f nx;exact⟨r,(hs.2 b (a b o e)).trans k1⟩
 ·obtain⟨o',k1⟩:=I.base.there b o e nx;exact⟨o',(hs.2 b (a b o e)).trans k1⟩
 ·rw[o_]at e2;split at e2<;>cases e2
 ·obtain⟨v,o,m,hd⟩:=I.cell x c e;exact⟨v,o,(hs.2 c (I.cne x c e)).trans m,hd⟩
 ·obtain⟨t,h,g,k,j⟩:=I.pin p hp;exact⟨(hs.2 _ g).trans t,h,g,k,j⟩
 ·refine(I.hok b l e).stay (λc u d q=>(hs.2 c ?_).trans q) (λ_ q=>q) λ_ _ q=>q;rintro rfl;rcases d with rfl | d
  ·rw[I.free]at e;cases e
  ·rw[I.free]at d;cases d
section
variable {X:Cx}{E:XK}
end
end L2
namespace PySem.W
open PySem.Calls Builtin Builtin.ObjectAttr
noncomputable def Ck:List Value->Bool
 | .ref _::r=>Ck r
 | [.type a,.type b,.type c,.type d]=>a == "ValueError" && b == "Exception" && c == "BaseException" && d == "object"
 | _=>false
theorem xW{l:U5}(e:Ck l=true):(∃c r,l=.ref c::r/\Ck r=true)\/l=[.type "ValueError",.type "Exception",.type "BaseException",.type "object"]:=by
 unfold Ck at e;split at e
 ·exact .inl ⟨_,_,O,e⟩
 ·simp only[GQ,HS]at e;obtain⟨⟨⟨rfl,rfl⟩,rfl⟩,rfl⟩:=e;exact .inr rfl
 ·cases e
theorem vC(self:W4):∀{l:U5},Ck l=true->refuseLoop self "__setattr__" l=pure ()
 | [],e=>by cases e
 | v::r,e=>by
  rcases xW e with ⟨c,r',q,e'⟩ | q
  ·obtain⟨rfl,rfl⟩:=List.cons.inj q;rw[refuseLoop_ref];exact vC self e'
  ·rw[q];exact PySem.F.store_ValueError.passes self
theorem xX:∀{l:U5},Ck l=true->l.contains (.type "object")=true
 | [],e=>by cases e
 | v::r,e=>by
  rcases xW e with ⟨c,r',q,e'⟩ | q
  ·obtain⟨rfl,rfl⟩:=List.cons.inj q;rw[bB,xX e',jO]
  ·rw[q];rfl
section
variable {prog:U8}{w:W3}{A:W8}{E:U2}{K:Frag}{x C:Y1}{s:U7}{R:Result->Shared->Prop}
variable{name:Str}{v:W4}
theorem Y6d{ox:Obj}{od:Option Obj}{tk:Tok}(X:K.In s.heap)(I:InstAt s.heap x ox C od)(hp:((clsIn K C).any λa=>Ck a.mro)=true)(ht:findIn K (.ref C) name=some none)
  (h:∀b,wpAny (model prog w) A.in1 (storeInOwnDict (.ref x) (.ref C) (.str name tk) name v b)
   (λfin s'=>match fin with | .done f=>R (.ok f) s' | .again c'=>c'.quiet=true/\codeAny (model prog w) A c' R s') (λe s'=>R (.error e) s') s):
  codeAny (model prog w) A (.call (.builtin "object.__setattr__") ⟨[.ref x,.str name tk,v],[]⟩) R s:=by
 have c:=PySem.F.store_object;obtain⟨a,g,d⟩:=any_some hp;have ne:a.mro.isEmpty=false:=by cases q:a.mro with | nil=>rw[q]at d;cases d | cons _ _=>rfl
 have sub:Looks (model prog w) s.heap (isInstance (.ref x) (.type "object")) true:=I.type.andThen (looks_mroIn X (by unfold mroIn;rw[g,Option.bind_some,if_neg (by rw[ne];decide),xX d]));refine YK c.slot.plain c.entry (@check_slot (model prog w) _ _ s "object.__setattr__" "object" "__setattr__" (.ref x) [.str name tk,v] [] _ c.kind c.split sub (c.args (.ref x) (.str name tk) v) ?_);have i:Looks (model prog w) s.heap (mroOf (.ref C)) a.mro:=(looks_clsIn X g).andThen .now;rw[osa_eq,refuse_eq];refine Ak (Ak (I.type.here (Ak (i.here ?_))));rw[vC _ d];have j:Looks (model prog w) s.heap (storeTaker? none) none:=.now;refine BZ (Ak (I.type.here (Ak ((U_ X ht).here (Ak (j.here ?_))))));exact h _
theorem Ji{ox:Obj}{Q:Unit->Shared->Prop}(X:K.In s.heap)(I:InstAt s.heap x ox C none)(hd:ox.dict=none)(hf:ox.isFreed=false)
  (m:findIn K (.ref C) "__setattr__"=some (some (.builtin "object.__setattr__"))) (hp:((clsIn K C).any λH=>Ck H.mro)=true) (ht:findIn K (.ref C) name=some none) (hh:hasDictIn K C=true)
  (h:∀h':Heap,h'.get? x=some {ox with dict:=some s.heap.objs.size}->h'.Ns1 s.heap.objs.size (λy=>if y=name then some v else none)->(∀b o,b≠x->s.heap.get? b=some o->h'.get? b=some o)->Q () {s with heap:=h',toks:=s.toks+2}):
  wpAny (model prog w) A (setAttr (.ref x) name v) Q E s:=by
 refine set_plain X I m (Y6d (s:={s with toks:=s.toks+1}) X I hp ht λb=>?_);obtain⟨H,T,q⟩:=any_some hh;have B:=I.at_;have N:=I.no;obtain⟨c,g,d,t,os⟩:=s;obtain⟨R,M,i,F⟩:=ox;cases hd;cases (show R=Value.ref C from I.cls);have j:x≠c.objs.size:=Cy (Bk B);have k:(c.push { cls:=.type "dict",data:=.dict #[]}).get? x=some ⟨.ref C,none,i,F⟩:=Ca _ B;have u:((c.push { cls:=.type "dict",data:=.dict #[]}).update x λo=>{ cls:=o.cls,dict:=some c.objs.size,data:=o.data,slots:=o.slots}).get? c.objs.size=some { cls:=.type "dict",data:=.dict #[]} :=
  (bI _ _ _ _ j.symm).trans (Heap.get?_push_at rfl rfl)
 have D:((c.push { cls:=.type "dict",data:=.dict #[]}).update x λo=>{ cls:=o.cls,dict:=some c.objs.size,data:=o.data,slots:=o.slots}).Ns c.objs.size (λ_=>none):=
  ⟨_,#[],_,u,O,λe S=>absurd S (by simp),λ_=>rfl⟩
 refine Ak (BZ (Ak (Ak (wpAny_loadPart B (Ak (Looks.here (s:=⟨c,g,d,t+1,os⟩) (looks_clsIn X T) ?_))))));rw[q,if_neg (by decide),if_neg (by simp[typeHasDict])]
 have fin:wpAny (model prog w) A.in1 (do
   let d ← alloc { cls:=Value.type "dict",data:=Data.dict #[]}
   update x λo=>{ cls:=o.cls,dict:=some d,data:=o.data,slots:=o.slots}
   dictMade (Value.ref C) x d) (λa s'=>wpAny (model prog w) A.in1 (match a with
    | some d_1=>storeInDict d_1 (Value.str name t) name v
    | none=>noDictFor (Value.ref x) (Value.ref C) name b)
    (λfin s'=>match fin with
     | Fin.done f=>(match (Except.ok f:Result) with
      | Except.ok (Flow.ret v)=>Q () s'
      | Except.ok a=>False
      | Except.error e=>E e s')
     | Fin.again c'=>c'.quiet=true/\codeAny (model prog w) A c' (λr s'=>match r with
         | Except.ok (Flow.ret v)=>Q () s'
         | Except.ok a=>False
         | Except.error e=>E e s') s') (λe s'=>E e s') s') (λe s'=>E e s') ⟨c,g,d,t+1,os⟩:=by
  refine Ak (wpAny_alloc' (Ak (wpAny_update' k (BZ ?_))));show wpAny _ _ (storeInDict c.objs.size (.str name t) name v) _ _ _;unfold storeInDict newKeyGuard;refine Ak (BZ (Ak (wpAny_nsSet1 (Heap.Ns1.of_empty D) λh' l m=>?_)));obtain⟨U,P,L,p,z,n⟩:=l.count (Within.cons name v Within.nil);refine Ak (wpAny_lookBehind p (by rw[z];exact pastItsLine_dict (Fq n (by rw[J9,jZ,Yk];lia))) ?_);refine BZ (h h' ?_ l λb o G J=>?_)
  ·refine(m.2 x j).trans (Oq _ k ?_);cases i<;>first | rfl | exact hf
  ·exact(m.2 b (Cy (Bk J))).trans ((bI _ _ _ _ G).trans (Ca _ J))
 cases i<;>first | exact fin | cases N
end
end PySem.W
namespace PySem.W
open PySem.Calls
structure FW (K:Frag) (D:Y1):Prop where
 ga:findIn K (.ref D) "__getattribute__"=some (some (.builtin "BaseException.__getattribute__"))
 gt:findIn K (.ref D) "__getattr__"=some none
 ff:∀od,findObj K D od "__class__"=some (.bind (.builtin "getset_descriptor.__get__") (.builtin "object.__class__"))
 ob:mroIn K D (.type "object")=some true
 be:kitCls K (.ref D) (.type "BaseException")=some true
 me:kitCls K (.ref D) (.ref D)=some true
 dc:hasDictIn K D=true
section
variable {prog:U8}{w:W3}{A:W8}{E:U2}{K:Frag}{x D:Y1}{ox:Obj}{od:Option Obj}
variable{s:U7}{Q:Fin->Shared->Prop}
theorem X1c{tk:Tok}(g:FW K D)(X:K.In s.heap)(I:InstAt s.heap x ox D od)(q:Q (.done (.ret (.ref D))) s):
  wpAny (model prog w) A (Builtin.«object.__getattribute__» ⟨[.ref x,.str "__class__" tk],[]⟩) Q E s:=by
 have a:=I.type (M:=model prog w);have b:=looks_find (M:=model prog w) X I (g.ff od);unfold Builtin.«object.__getattribute__»;refine Ak (BZ (Ak (BZ (Ak (a.at (Ak (b.at ?_)))))));show wpAny _ _ (Builtin.ObjectAttr.bindTo _ _ _ _) _ _ _;unfold Builtin.ObjectAttr.bindTo;show wpAny _ _ (holding [Value.builtin "object.__class__"] (call (Value.builtin "getset_descriptor.__get__") [Value.builtin "object.__class__",Value.ref x,Value.ref D]) >>= ret) _ _ _;exact Ak (JQ (Mw (class_get (ox:=ox) (od:=od) X I g.ob (BZ q))))
variable{name:Str}{v:W4}
theorem Y7q{tk:Tok}(X:K.In s.heap)(I:InstAt s.heap x ox D od)(hf:findObj K D od name=some (.value v))(q:Q (.done (.ret v)) s):
  wpAny (model prog w) A (Builtin.«object.__getattribute__» ⟨[.ref x,.str name tk],[]⟩) Q E s:=by
 have a:=I.type (M:=model prog w);have b:=looks_find (M:=model prog w) X I hf;unfold Builtin.«object.__getattribute__»;refine Ak (BZ (Ak (BZ (Ak (a.at (Ak (b.at ?_)))))));exact BZ q
theorem Y7r{Q:Option Value->Shared->Prop}(g:FW K D)(X:K.In s.heap)(I:InstAt s.heap x ox D od)(q:Q (some (.ref D)) {s with toks:=s.toks+1}):wpAny (model prog w) A (getAttr? (.ref x) "__class__") Q E s:=by
 have c:=I.type (M:=model prog w);have i:=U_ (M:=model prog w) X g.ga;have h:=U_ (M:=model prog w) X g.gt;have e:=(kit_cls (M:=model prog w) X g.be).2.2;have j:=YQ.ga.bind (.ref x);unfold getAttr? getAttrBy? getAttrBy;refine Ak (wpAny_mkText (Ak (RT (JQ (Ak (c.at (Ak (i.at ?_))))))));show wpAny _ _ (getAttrByItsOwn _ _ _ _ _ _) _ _ _;unfold getAttrByItsOwn;refine Ak (h.at (Ak (RT (JQ ?_))));show wpAny _ _ (boundAndCalled _ _ _) _ _ _;unfold boundAndCalled;rw[j];refine Ak (BZ (Mw (YK YQ.ga.plain F.entry_bexc_ga ?_)));have d:builtinKind "BaseException.__getattribute__"=some .slot:=by decide +kernel
 have b:splitId "BaseException.__getattribute__"=some ("BaseException","__getattribute__"):=by decide +kernel
 have f:=F.args_bexc_ga (.ref x) (.str "__class__" s.toks);simp only[checkBuiltinCall,d,b];refine Ak (Ak (c.at (e.at ?_)));refine wpAny_of_eq (a:=()) f ?_;exact X1c (s:={s with toks:=s.toks+1}) g X I (handed_on rfl (BZ q))
theorem NZ{expr:Bool}{Q:U2}(g:FW K D)(X:K.In s.heap)(I:InstAt s.heap x ox D od)(hf:findObj K D od name=some (.value v))(hh:handedIn v=true)(q:Q v {s with toks:=s.toks+1}):
  wpAny (model prog w) A (getAttr (.ref x) name expr) Q E s:=by
 have d:=I.type (M:=model prog w);have j:=U_ (M:=model prog w) X g.ga;have i:=U_ (M:=model prog w) X g.gt;have f:=(kit_cls (M:=model prog w) X g.be).2.2;have k:=YQ.ga.bind (.ref x);unfold getAttr getAttrBy;refine Ak (wpAny_mkText (JQ (Ak (d.at (Ak (j.at ?_))))));show wpAny _ _ (getAttrByItsOwn _ _ _ _ _ _) _ _ _;unfold getAttrByItsOwn;refine Ak (i.at (Ak (RT (JQ ?_))));have c:(expr && onTheHeap (Value.builtin "BaseException.__getattribute__"))=false:=by cases expr<;>rfl
 unfold callGetattribute;rw[c];show wpAny _ _ (boundAndCalled _ _ _) _ _ _;unfold boundAndCalled;rw[k];refine Ak (BZ (Mw (YK YQ.ga.plain F.entry_bexc_ga ?_)));have e:builtinKind "BaseException.__getattribute__"=some .slot:=by decide +kernel
 have b:splitId "BaseException.__getattribute__"=some ("BaseException","__getattribute__"):=by decide +kernel
 have h:=F.args_bexc_ga (.ref x) (.str name s.toks);simp only[checkBuiltinCall,e,b];refine Ak (Ak (d.at (f.at ?_)));refine wpAny_of_eq (a:=()) h ?_;refine Y7q (s:={s with toks:=s.toks+1}) X I hf ?_;show wpAny _ _ (handedOut v) _ _ _;rw[handedOut_of hh];exact BZ q
theorem Gj(g:FW K D):KitX K (.ref x) (.ref D) (λh=>∃ox od,InstAt h x ox D od) where
 ty:=λ_ _ _ p=>p.elim λ_ p=>p.elim λ_ I=>I.type
 it:=λ_ _ X _=>(kit_cls X g.me).2.1
 ne:=λh tp dd its n c X a=>by
  refine Bool.eq_false_iff.mpr λq=>?_;obtain rfl:D=tp:=Value.ref.inj (beq_iff_eq.mp q);obtain⟨d,b,_⟩:=any_some g.dc;unfold clsIn at b;split at b
  ·rename_i c' d' cd' sl' ho;cases (X _ _ ho).symm.trans a
  ·cases b
 ca:=λX p k=>p.elim λ_ p=>p.elim λ_ I=>Y7r g X I k
end
end PySem.W
namespace L2
noncomputable def qF:V->Option Value
 | .ty T=>some (.type T)
 | .ref D=>some (.ref D)
 | _=>none
def Dx (H:Hp)(di:W7):Prop:=∀dx,di=some dx->∃fs,H dx=some (.xd fs)
section
variable {X:Cx}{pins:U1}{σ:St}{H:Hp}{s:U7}
theorem wQ{a C:Y1}{di:W7}(I:Inv X pins σ H s)(hH:H a=some (Dr di a (.ref C)))(hd:Dx H di):∃o od,PySem.W.InstAt s.heap a o C od/\o.dict=di:=by
 obtain⟨⟨o,vs,d,⟨c,b⟩,g,_⟩,_,_⟩:=(show BJ X.prog X.w H s.heap a (Dr di a (.ref C)) from I.hok a _ hH);have e:PySem.W.notCls o=true:=by unfold PySem.W.notCls;rw[g]
 cases di with
 | none=>exact⟨o,none,⟨d,c,e,by rw[b];trivial⟩,b⟩
 | some dx =>
  obtain⟨fs,f⟩:=hd dx rfl;obtain⟨mA,⟨od,es,ep,e1,_⟩,_⟩:=(show BJ X.prog X.w H s.heap dx (.xd fs) from I.hok dx _ f);exact⟨o,some od,⟨d,c,e,by rw[b];exact e1⟩,b⟩
theorem Y0q:CJ X (.builtin "isinstance") (λxs H Q=>∃a d C c cv b,xs=[.ref a,c]/\H a=some (Dr d a (.ref C))/\Dx H d/\PySem.W.FW X.K C/\qF c=some cv/\PySem.W.kitOne X.K (.ref C) cv=some b/\Q (.bl b) H):=by
 intro pins s σ H xs us Q I r h;obtain⟨a,d,C,c,cv,b,rfl,l,hd,j,f,e,q⟩:=h;obtain⟨u,v,rfl,g,i⟩:=r.two;cases g;have k:v=cv:=by
  cases c<;>first | (cases f;cases i;rfl) | cases f
 subst k;obtain⟨o,od,J,_⟩:=wQ I l hd;exact J8 (PySem.W.Gj j) I.kIn ⟨o,od,J⟩ e (λz=>nomatch z) λtk=>⟨.bl b,H,I.tok tk,O,q⟩
def N8 (K:U0)(ta:TE)(f:Str):TE:=λσ H Q=>ta σ H λx H1=>∃a dx C fs v,x=.ref a/\H1 a=some (Dr (some dx) a (.ref C))/\H1 dx=some (.xd fs)/\PySem.W.FW K C/\Dm K C f/\fs.lookup f=some v/\Q v H1
theorem X4g{e:Expr}{f:Str}{pos:Pos}{ta:TE}(he:PE X e ta)(hb:attributeBase e f X.env (eval e X.env)=eval e X.env):PE X (.Attribute e f pos) (N8 X.K ta f):=by
 intro pins s σ H Q I h;refine X6i hb (Bd (he pins s σ H _ I h) λu d ⟨x,H1,c,p,a,dx,C,fs,v,ex,j,k,g,n,l,q⟩=>?_);subst ex;obtain rfl:u=Value.ref a:=p;obtain⟨⟨o,vs,y,⟨i,A⟩,m,_⟩,_,_⟩:=(show BJ X.prog X.w H1 d.heap a (Dr (some dx) a (.ref C)) from c.hok a _ j);obtain⟨mA,ns,B⟩:=(show BJ X.prog X.w H1 d.heap dx (.xd fs) from c.hok dx _ k);obtain⟨w,z,b⟩:=Ek.some_of (v:=v) (o:=mA f) (by rw[<-l];exact B f);have r:PySem.W.notCls o=true:=by unfold PySem.W.notCls;rw[m]
 obtain⟨od,e1,t⟩:=u_ ns;have J:PySem.W.InstAt d.heap a o C (some od):=⟨y,i,r,by rw[A];exact e1⟩;exact PySem.W.NZ g c.kIn J (PySem.W.findObj_own g.dc n rfl (by rw[t,z])) (Y7m b) ⟨v,H1,c.tok _,b,q⟩
end
end L2
namespace PySem
open PySem.Sem (wp)
section
variable {prog:U8}{w:W3}{A:W8}{E:U2}{h:Heap}{g:Array GenState}{d:Drawn}{t:Nat}{os:OsState}
variable {nm q:Str}{C N:Y1}{bs bm bmB:U5}{hdct:Bool}{sn:W0}{sub:U5}{ab:Bool}{col:Option Bool}{dd:W7}{k0 k1 k2 k3 k5:Option Value}{B newId initId:String}
theorem _2(F:ExcBaseFacts B newId initId bmB)(T:OwnTail h bmB bm){mN:U4}{rest:U5}{fI:Y1}{oI:Obj}{Q:Fin->Shared->Prop}
  (hC:h.get? C=some (excClassObj nm q C N bs bm hdct sn sub ab col dd k0 k1 k2 k3 k5 newId)) (hn:h.Ns N mN) (hi:mN "__init__"=some (.ref fI))
  (hfI:h.get? fI=some oI) (hfc:oI.cls=.type "function")
  (hq:∀h' e,Heap.MadeExcOf h h' e (.ref C) rest ->
   wpAny (model prog w) A (call (.ref fI) (.ref e::rest)) (λr s'=>r=.none/\Q (.done (.ret (.ref e))) s') E ⟨h',g,d,t,os⟩) (hrest:autoParam (rest.length<=sizeLine) PySem.SB.add._auto_1):
  wpAny (model prog w) A (Builtin.«type.__call__» ⟨.ref C::rest,[]⟩) Q E ⟨h,g,d,t,os⟩:=by
 repeat (first | with_reducible refine QS hC ?_ | with_reducible refine wpAny_madeBy_exc hC ?_ | wp_step)
 refine codeAny_call_builtin_code (Code.quiet_builtin _ F.quiet) (wpAny_check_new_subT F T hC ?_);refine codeAny_exc_new_subT F T hC ?_ hrest;show wpAny _ _ _ _ _ _;have c:=Ca { cls:=.ref C,data:=.fields #[.ref h.objs.size,.none,.none,.none,.bool false,.none]}
  (Ca { cls:=.type "tuple",data:=.seq rest.toArray} hC)
 have f:=Ca { cls:=.ref C,data:=.fields #[.ref h.objs.size,.none,.none,.none,.bool false,.none]}
  (Ca { cls:=.type "tuple",data:=.seq rest.toArray} hfI)
 have i:((h.push { cls:=.type "tuple",data:=.seq rest.toArray}).push { cls:=.ref C,data:=.fields #[.ref h.objs.size,.none,.none,.none,.bool false,.none]}).Ns N mN :=
  let ⟨o,es,ep,e,r⟩:=hn;⟨o,es,ep,Ca _ (Ca _ e),r⟩
 have a:((h.push { cls:=.type "tuple",data:=.seq rest.toArray}).push
   { cls:=.ref C,data:=.fields #[.ref h.objs.size,.none,.none,.none,.bool false,.none]}).get? (h.objs.size+1)=some
   { cls:=.ref C,data:=.fields #[.ref h.objs.size,.none,.none,.none,.bool false,.none]}:=by heap_get
 have j:(Value.ref C::bm).contains (.ref C)=true:=by simp
 have m:=T.keeps (h':=(h.push { cls:=.type "tuple",data:=.seq rest.toArray}).push { cls:=.ref C,data:=.fields #[.ref h.objs.size,.none,.none,.none,.bool false,.none]})
  λb o e=>Ca _ (Ca _ e)
 unfold isInstance;repeat (first | with_reducible refine QS a ?_ | (with_reducible refine YC c ?_;rw[j]) | wp_step)
 show wpAny _ _ (typeLookup (.ref C) _) _ _ _;refine wpAny_typeLookup_tail c i m F.mroIs F.init.lookup ?_;rw[hi];refine JQ (Ak ?_);unfold bindSpecial;refine Ak (Xu (T:="function") ⟨_,f,hfc⟩ ?_);rw[if_pos (by decide)];refine BZ (Ak (Eb (hq _ (h.objs.size+1) ⟨λb o k=>Ca _ (Ca _ k),YG (Nat.le_succ _),h.objs.size,a,YG (Bc _),?_⟩) (λr s' n=>?_) λ_ _ x=>x))
 ·exact Ca _ (Heap.get?_push_at rfl rfl)
 ·obtain⟨rfl,l⟩:=n;wp_walk;exact l
theorem _z(F:ExcBaseFacts B newId initId bmB)(T:OwnTail h bmB bm){mN:U4}{rest:U5}{fI:Y1}{oI:Obj}{Q:U2}
  (hC:h.get? C=some (excClassObj nm q C N bs bm hdct sn sub ab col dd k0 k1 k2 k3 k5 newId)) (hn:h.Ns N mN) (hi:mN "__init__"=some (.ref fI))
  (hfI:h.get? fI=some oI) (hfc:oI.cls=.type "function")
  (hq:∀h' e,Heap.MadeExcOf h h' e (.ref C) rest ->
   wpAny (model prog w) (A.under (.builtin "type.__call__" ⟨.ref C::rest,[]⟩)) (call (.ref fI) (.ref e::rest)) (λr s'=>r=.none/\Q (.ref e) s') E ⟨h',g,d,t,os⟩) (hrest:autoParam (rest.length<=sizeLine) PySem.SB.add._auto_1):
  wpAny (model prog w) A (call (.ref C) rest) Q E ⟨h,g,d,t,os⟩:=by
 have c:=tc_lookup;have b:=tc_bind (.ref C);have f:(⟨h,g,d,t,os⟩:U7).TypeIs (.ref C) "type":=⟨_,hC,O⟩;refine Mw (codeAny_of_tree ?_);show wpAny _ _ (callAny (.ref C) _) _ _ _;repeat (any_goals (first | assumption | with_reducible refine QS hC ?_ | wp_step))
 refine⟨O,?_⟩;refine codeAny_call_builtin_at (Code.quiet_builtin _ (by decide +kernel)) entry_typeCall (wpAny_check_type_call_sub hC (_2 (hrest:=hrest) F T hC hn hi hfI hfc λh' e a=>?_));exact hq h' e a
end
end PySem
namespace PySem
section
variable {M:Model}{A:W8}{E:U2}{env:Env}
variable {nm q:Str}{C N:Y1}{bs bm:U5}{hdct:Bool}{sn:W0}{sub:U5}{ab:Bool}{col:Option Bool}{dd:W7}{k0 k1 k2 k3 k5:Option Value}{newId:String}
theorem _M{s:U7}{x:Sem Value}{Q:Flow->Shared->Prop}(hbase:bm.contains (.type "BaseException")=true)(hh:A.handled=none)
  (h:wpAny M A x (λv a=>∃e o,v=.ref e/\a.heap.get? C=some (excClassObj nm q C N bs bm hdct sn sub ab col dd k0 k1 k2 k3 k5 newId) /\
   a.heap.get? e=some o/\o.cls=.ref C/\(∃vs,o.data=.fields vs/\vs[1]?=some .none)/\E (.ref e) a) E s):
  wpAny M A (raiseStmt env (some x) none) Q E s:=by
 have b:(Value.ref C::bm).contains (.type "BaseException")=true:=by rw[bB,hbase,jO]
 unfold raiseStmt;refine Ak (Eb h (λv a k=>?_) λ_ _ x=>x);obtain⟨e,⟨n,p,r,t⟩,rfl,i,m,f,⟨vs,c,l⟩,j⟩:=k;cases f;cases c;obtain⟨hp,g,d,tk,os⟩:=a;repeat (first | with_reducible refine QS m ?_ | with_reducible refine QS i ?_ | (with_reducible refine YC i ?_;rw[b]) | wp_step)
 rw[l];refine BZ ?_;rw[if_neg (by decide)];exact BZ (wpAny_raiseNew_none hh j)
end
end PySem
namespace L2
open Fx
structure FT (K:U0) (C f:Y1) (qual:Str) (st:Stmt) (bm:U5):Prop where
 cl:∃N nm q bs hdct sn sub ab col dd k0 k1 k2 k3 k5,K.lookup C=some (excClassObj nm q C N bs bm hdct sn sub ab col dd k0 k1 k2 k3 k5 "ValueError.__new__")/\PySem.W.nsOkIn K N=true/\PySem.W.nsIn K N "__init__"=some (some (.ref f))
 tail:PySem.W.tailIn K Nh bm=true
 fn:∃od kV doc pm an cdv ct osl,K.lookup f=some ⟨.type "function",od,.func (PySem.W.fnOf "__init__" qual (Dv st) (DW st) (CV st) .none kV doc pm an cdv ct),osl⟩/\PySem.W.codeIn K cdv qual=true
 kp:PySem.W.keepIn K (.ref C)=true
 sa:PySem.W.findIn K (.ref C) "__setattr__"=some (some (.builtin "object.__setattr__"))
 po:((PySem.W.clsIn K C).any λcd=>PySem.W.Ck cd.mro)=true
 g:PySem.W.FW K C
variable{K:U0}{C N:Y1}{qual:Str}{bm:U5}
theorem Qe{f:Y1}{st:Stmt}{nm q:Str}{bs:U5}{hdct:Bool}{sn:W0}{sub:U5}{ab:Bool}{col:Option Bool}{dd od an:W7}{k0 k1 k2 k3 k5:Option Value}{kV doc pm cdv ct:W4}{osl:W6}
  (l:K.lookup C=some (excClassObj nm q C N bs bm hdct sn sub ab col dd k0 k1 k2 k3 k5 "ValueError.__new__")) (o:PySem.W.nsOkIn K N=true) (n:PySem.W.nsIn K N "__init__"=some (some (.ref f))) (t:PySem.W.tailIn K Nh bm=true)
  (lf:K.lookup f=some ⟨.type "function",od,.func (PySem.W.fnOf "__init__" qual (Dv st) (DW st) (CV st) .none kV doc pm an cdv ct),osl⟩) (c:PySem.W.codeIn K cdv qual=true)
  (kp:PySem.W.keepIn K (.ref C)=true) (sa:PySem.W.findIn K (.ref C) "__setattr__"=some (some (.builtin "object.__setattr__"))) (po:((PySem.W.clsIn K C).any λa=>PySem.W.Ck a.mro)=true) (g:PySem.W.FW K C):FT K C f qual st bm :=
 ⟨⟨N,nm,q,bs,hdct,sn,sub,ab,col,dd,k0,k1,k2,k3,k5,l,o,n⟩,t,⟨od,kV,doc,pm,an,cdv,ct,osl,lf,c⟩,kp,sa,po,g⟩
noncomputable def Ea (di:W7)(a C:Y1):HO:=.ext λh=>∃o vs,h.get? a=some o/\(o.cls=.ref C/\o.dict=di)/\o.data=.fields vs/\vs[1]?=some .none/\vs[2]?=some .none
noncomputable def drop (H:Hp)(a:Y1):Hp:=λb=>if b=a then none else H b
variable{a:Y1}
theorem PX{H:Hp}{b:Y1}(h:b≠a):drop H a b=H b:=by unfold drop;rw[if_neg h]
theorem kY{H:Hp}:drop H a a=none:=by unfold drop;rw[if_pos rfl]
section
variable {X:Cx}{pins:U1}{σ:St}{H:Hp}{s:U7}
theorem rM{P:U8}{w:W3}{h:Heap}{di:W7}{o:Obj}{vs:U9}(e:h.get? a=some o)(c:o.cls=.ref C/\o.dict=di)(d:o.data=.fields vs)(v:vs[1]?=some .none/\vs[2]?=some .none):BJ P w H h a (Ea di a C):=
 ⟨⟨o,vs,e,c,d,v⟩,⟨o,e⟩,λh1 h2 ⟨o,vs,f,b,g⟩ k=>⟨o,vs,k o f,b,g⟩⟩
theorem Inv.drop{φ:Heap->Prop}(I:Inv X pins σ H s)(e:H a=some (.ext φ)):Inv X pins σ (L2.drop H a) s:=by
 have ne:∀b u,H b=some u->(∀φ,u≠.ext φ)->b≠a:=λb u f i z=>by subst z;rw[e]at f;exact i φ (Option.some.inj f).symm
 refine I.call' (ch:=[]) rfl ⟨λb o f h _ _=>f,λb o f h _ _=>⟨o.slots,f⟩,λb o f h _=>?_,λb o f _=>⟨o,f⟩,λb xs f=>?_,λb o u f=>?_,λb ps f=>?_⟩ (λc o g=>?_) I.bare (λb f=>by cases f)
 ·by_cases z:b=a
  ·subst z;exact kY
  ·rw[PX z];exact h
 ·rw[PX (ne b _ f (by intro φ z;cases z))];exact f
 ·rw[PX (ne b _ f (by intro φ z;cases z))];exact f
 ·exact⟨#[],by rw[PX (ne b _ f (by intro φ z;cases z)),f,bA]⟩
 ·have z:c≠a:=λz=>by subst z;rw[kY]at g;cases g
  rw[PX z]at g;exact(I.hok c o g).stay (λd v hd q=>q) (λb q=>by rw[PX (ne b _ q (by intro φ z;cases z))];exact q) λb xs q=>by rw[PX (ne b _ q (by intro φ z;cases z))];exact q
theorem Inv.madeExc{h1:Heap}{args:U5}(I:Inv X pins σ H s)(m:Heap.MadeExcOf s.heap h1 a (.ref C) args):Inv X pins σ (upd H a (Ea none a C)) {s with heap:=h1}:=by
 obtain⟨t,i,_,_⟩:=m.there;have j:=I.newH m.new;have f:∀b u,H b=some u->b≠a:=λb u e z=>by rw[z,j]at e;cases e
 refine I.call' (s':={s with heap:=h1}) (ch:=[]) rfl ⟨λb o e h _ _=>m.keeps b o e,λb o e h _ _=>⟨o.slots,m.keeps b o e⟩,λb o e h _=>?_,λb o e _=>⟨o,m.keeps b o e⟩,λb xs e=>?_,λb o u e=>?_,λb ps e=>?_⟩ (λc o g=>?_) I.bare (λb e=>by cases e)
 ·rw[Bq (λz=>by rw[z,m.new]at e;cases e)];exact h
 ·rw[Bq (f b _ e)];exact e
 ·rw[Bq (f b _ e)];exact e
 ·exact⟨#[],by rw[Bq (f b _ e),e,bA]⟩
 ·by_cases hca:c=a
  ·subst hca;rw[Az]at g;cases g;exact rM i ⟨O,O⟩ rfl ⟨O,O⟩
  ·rw[Bq hca]at g;exact(I.hok c o g).stay (λd v _ q=>m.keeps d v q) (λb q=>by rw[Bq (f b _ q)];exact q) λb xs q=>by rw[Bq (f b _ q)];exact q
end
variable{n:Str}
theorem W1d{h:Heap}{m:U4}{v:W4}(X:K.In h)(G:h.Ns N m)(e:PySem.W.nsIn K N n=some (some v)):m n=some v:=by
 obtain⟨o,es,ep,a,hd,_,b⟩:=G;unfold PySem.W.nsIn at e;split at e
 ·rename_i c d es' n' sl q;have:=X _ _ q;rw[a]at this;cases this;cases hd;split at e
  ·rename_i en he;cases e;rw[<-b];unfold nsFind findBy;rw[<-Array.find?_toList,he];rfl
  ·split at e<;>cases e
 ·cases e
def Us (C:Y1)(ta tv:TE)(f:Str):TS:=λD σ H=>tv σ H λy H1=>ta σ H1 λx H2=>∃a,x=.ref a/\H2 a=some (Ea none a C)/\∀dx,H2 dx=none->dx≠a->D.nx σ (upd (upd H2 dx (.xd [(f,y)])) a (Ea (some dx) a C))
section
variable {X:Cx}{pins:U1}{σ:St}{H:Hp}{s:U7}
theorem Inv.firstDict{s':U7}{dx:Y1}{f:Str}{y:V}{u:W4}{o':Obj}{vs:U9}(I:Inv X pins σ H s)(e:H a=some (Ea none a C))(hos:s'.os=s.os)(h:AllBare s'.gens)(hd:dx=s.heap.objs.size)(ha:s'.heap.get? a=some o')(hc:o'.cls=.ref C/\o'.dict=some dx)(hv:o'.data=.fields vs/\vs[1]?=some .none/\vs[2]?=some .none)
  (j:s'.heap.Ns1 dx (λz=>if z=f then some u else none)) (ru:RelV y u) (k:∀b o,b≠a->s.heap.get? b=some o->s'.heap.get? b=some o):
  Inv X pins σ (upd (upd H dx (.xd [(f,y)])) a (Ea (some dx) a C)) s':=by
 have t:H dx=none:=by rw[hd];exact I.hok.fresh (Bc _)
 have l:∀b u,H b=some u->(∀φ,u≠.ext φ)->b≠a:=λb u h p z=>by subst z;rw[e]at h;exact p _ (Option.some.inj h).symm
 have m:∀b u,H b=some u->b≠dx:=λb u h z=>by rw[z,t]at h;cases h
 have up:∀b u,H b=some u->(∀φ,u≠.ext φ)->upd (upd H dx (.xd [(f,y)])) a (Ea (some dx) a C) b=some u:=λb u h p=>by rw[Bq (l b u h p),Bq (m b u h)];exact h
 have off:∀b o,s.heap.get? b=some o->b≠dx:=λb o q z=>by rw[z,hd]at q;exact J4 _ (Bk q)
 have r:∀b,H b=none->b≠a:=λb h z=>by rw[z,e]at h;cases h
 refine I.call' (s':=s') (ch:=[]) hos ⟨λb o h j _ _=>k b o (r b j) h,λb o h j _ _=>⟨o.slots,k b o (r b j) h⟩,λb o h j _=>?_,λb o h _=>?_,λb xs h=>up b _ h (by intro φ z;cases z),λb o u h=>up b _ h (by intro φ z;cases z),λb ps h=>⟨#[],by rw[up b _ h (by intro φ z;cases z),bA]⟩⟩ (λc o i=>?_) h (λb h=>by cases h)
 ·rw[Bq (r b j),Bq (off b o h)];exact j
 ·by_cases z:b=a
  ·subst z;exact⟨_,ha⟩
  ·exact⟨o,k b o z h⟩
 ·by_cases hca:c=a
  ·subst hca;rw[Az]at i;cases i;exact rM ha hc hv.1 hv.2
  ·rw[Bq hca]at i;by_cases hcd:c=dx
   ·subst hcd;rw[Az]at i;cases i;refine⟨_,j,λg=>?_⟩;by_cases hg:g=f
    ·subst hg;simp only[List.lookup,Ri,J0];exact ru
    ·simp only[List.lookup,beq_eq_false_iff_ne.mpr hg,if_neg hg];trivial
   ·rw[Bq hcd]at i;refine(I.hok c o i).stay (λd v n q=>k d v ?_ q) (λb q=>up b _ q (by intro φ z;cases z)) λb xs q=>up b _ q (by intro φ z;cases z);rcases n with rfl | q'
    ·exact hca
    ·exact l d _ q' (by intro φ z;cases z)
theorem X4c{o value:Expr}{f:Str}{pos pos':Pos}{ta tv:TE}(hs':PySem.W.findIn X.K (.ref C) "__setattr__"=some (some (.builtin "object.__setattr__")))(hp:((PySem.W.clsIn X.K C).any λl=>PySem.W.Ck l.mro)=true)(hh:PySem.W.hasDictIn X.K C=true)(hn:Dm X.K C f)
  (ha:PE X o ta) (hv:PE X value tv) (hs:swapsWith value (some (.Attribute o f pos')) pos.line X.env=pure false):PS X (.Assign [.Attribute o f pos'] value pos) (Us C ta tv f):=by
 intro pins s σ H D I h;refine plainObj_wpAny_Assign_Attribute (Bd (hv pins s σ H _ I h) λu n ⟨y,H1,A,p,q⟩=>Bd (ha pins n σ H1 _ A q) λB d ⟨x,H2,b,r,a,ex,g,k⟩=>?_) hs;subst ex;obtain rfl:B=Value.ref a:=r;obtain⟨⟨o,vs,i,⟨c,j⟩,e,m⟩,_,_⟩:=(show BJ X.prog X.w H2 d.heap a (Ea none a C) from b.hok a _ g);have t:PySem.W.notCls o=true:=by unfold PySem.W.notCls;rw[e]
 have J:PySem.W.InstAt d.heap a o C none:=⟨i,c,t,by rw[j];trivial⟩;refine PySem.W.Ji b.kIn J j (Obj.isFreed_of_fields e) hs' hp hn hh λh' e1 e2 v=>?_;refine⟨σ,_,Inv.firstDict (s':={d with heap:=h',toks:=d.toks+2}) b g rfl b.bare rfl e1 ⟨c,O⟩ ⟨e,m⟩ e2 p v,k _ (b.hok.fresh (Bc _)) λz=>?_⟩;have:=Bk i;rw[<-z]at this;exact J4 _ this
end
def Io (C:Y1)(f:Str):Sp:=λvs H Q _=>∃a y,vs=[.ref a,y]/\H a=some (Ea none a C)/\∀dx,H dx=none->dx≠a->Q .non (upd (upd H dx (.xd [(f,y)])) a (Ea (some dx) a C))
structure Cg (P:U8) (w:W3) (K:U0) (mg:U4) (base:Heap) (k:Nat) (C:Y1) (bm:U5) (f:Str):Prop where
 ex:∃(fi:Y1) (qual:Str) (st:Stmt) (fd:FuncData) (ps:W0),FT K C fi qual st bm/\Em P w K mg base JF k fi fd ps (Io C f)/\Binds K fd ps []
 na:Dm K C f
variable{P:U8}{w:W3}{mg:U4}{base:Heap}{k:Nat}{f:Str}{N:W0}
theorem FT.cal{fi:Y1}{st:Stmt}{x0 x1:Str}(x:FT K C fi qual st bm)(na:Dm K C f)(S:Bf N [x0,x1] (CV st))
  (bi:∀(kV c i:W4) (d:W7) (b ct:W4) (a0 a1:W4),bindArgs (PySem.W.fnOf "__init__" qual (Dv st) (DW st) (CV st) .none kV c i d b ct) ⟨[a0,a1],[]⟩=pure [(x0,a0),(x1,a1)])
  (hbody:∀(f':Y1) (b:W4) (A:W8) (outer:List Env) (s:U7) (H:Hp) (vs:List V) (Q:VK) (E:XK),Io C f vs H Q E ->
   ∃t,GF (FP JF P w K mg base N qual (CV st) f' b A outer s H E).nox (DW st) t/\t { nx:=λ_ H'=>Q .non H',rt:=Q} (start N vs) H):Cg P w K mg base (k+1) C bm f:=by
 obtain⟨od,kV,c,i,d,b,ct,m,l,g⟩:=x.fn;refine⟨⟨fi,qual,st,_,_,x,Zg l g S (λvs H Q E h=>?_) λA outer s H vs Q E n e=>?_,.all λus j=>?_⟩,na⟩
 ·obtain⟨a,y,rfl,_⟩:=h;rfl
 ·obtain⟨t,h,q⟩:=hbody fi b A outer s H vs Q E e;exact⟨t,h.nox,q⟩
 ·match us,j with
  | [a0,a1],_=>exact bi kV c i d b ct a0 a1
section
variable {X:Cx}{E:XK}{x f:Str}{C:Y1}{e:Expr}{es:List Expr}{t:TA}{np cpos pos:Pos}{bm:U5}{k:Nat}
def X3m (E:XK)(C:Y1)(f:Str)(t:TA):TS:=λ_ σ H=>t σ H λvs H1=>∃y,vs=[y]/\∀dx,H1 dx=none->E (.ref C) (some dx) (upd H1 dx (.xd [(f,y)]))
theorem Y5u(c:Cg X.prog X.w X.K X.mg X.base k C bm f)(hr:CG (k+1) X.A)(F:GJ X E)(hc:X.calm=true)(hg:Gl X x)(hm:X.mg x=some (.ref C))(ha:PA X (e::es) t)(hdb:autoParam ((x == ("__debug__":Str))=false) PySem.ldc._auto_1)
  (he:autoParam (starEach (e::es) X.env=(false,eval e X.env)::starEach es X.env) PySem.W.hit_SB._auto_3) (hpl:autoParam ((backTo cpos (starEach es X.env)).any (·.1)=false) PySem.W.hit_SB._auto_3):
  PS X (.Raise (some (.Call (.Name x np) (e::es) [] cpos)) none pos) (X3m E C f t):=by
 intro pins s σ H D I h;obtain⟨⟨fi,qual,st,fd,ps,G,fo,bi⟩,na⟩:=c;obtain⟨N,nm,q,bs,hdct,sn,sub,ab,col,dd,k0,k1,k2,k3,k5,lk,ok,ni⟩:=G.cl;obtain⟨od,kV,a1,pm,an,a2,ct,a4,lf,_⟩:=G.fn;have n:=I.ok.mod.kin;have hC:=n _ _ lk;have hF:=n _ _ lf;have hN:X.base.Ns N _:=.of_isNs (PySem.W.isNs_of_in n ok);have Q:=W1d n hN ni;have T:=PySem.W.tail_of_in n G.tail
 have call:wpAny (model X.prog X.w) X.A (eval (.Call (.Name x np) (e::es) [] cpos) X.env) (λv S=>∃e o,v=.ref e/\S.heap.get? C=some (excClassObj nm q C N bs bm hdct sn sub ab col dd k0 k1 k2 k3 k5 "ValueError.__new__") /\
   S.heap.get? e=some o/\o.cls=.ref C/\(∃vs,o.data=.fields vs/\vs[1]?=some .none)/\X.xe (.ref e) S) X.xe s:=by
  refine Rp (Qw I hg hm ?_ hdb);refine X_ (h₀:=X.base) I.ok.mod.kin G.kp (Bd (ha cpos pins s σ H _ I h) λus s1 ⟨vs,H1,g,r,y,ey,q1⟩=>⟨g.kIn,?_⟩) he hpl;subst ey;obtain⟨u,rfl,ru⟩:∃u,us=[u]/\RelV y u:=by
   cases r with
   | cons r0 rn=>cases rn with
    | nil=>exact⟨_,rfl,r0⟩
  obtain⟨a0,g1,d1,t1,a3⟩:=s1;refine _z dg (T.keeps g.bk) (g.bk _ _ hC) (hN.keeps g.bk) Q (g.bk _ _ hF) rfl (λh' a m=>?_) (by show 1<=sizeLine;decide);have L:=g.madeExc m;have U:H1 a=none:=g.newH m.new;have r2:Vals [V.ref a,y] ([Value.ref a,u]++[]):=.cons rfl (.cons ru .nil);have j:Io C f [.ref a,y] (upd H1 a (Ea none a C)) (λv H2=>v=.non/\∃dx,H1 dx=none/\dx≠a/\H2=upd (upd (upd H1 a (Ea none a C)) dx (.xd [(f,y)])) a (Ea (some dx) a C)) E0 :=
   ⟨a,y,O,Az,λdx hd Y=>⟨O,dx,by rw[Bq Y]at hd;exact hd,Y,O⟩⟩
  have hl:([Value.ref a,u]++[]).length=ps.length:=by rw[<-r2.length];exact fo.len _ _ _ _ j
  refine Mw (Mz (fo.run _ X.stack _ _ ⟨[Value.ref a,u],[]⟩ ([Value.ref a,u]++[]) _ _ E0 (hr.make C [u] []) (L.env0.make C [u] []) (bi _ [Value.ref a,u] L.kIn hl) r2 j) λrr s' d=>?_);cases rr with
  | error e=>exact False.elim d
  | ok fl =>
   cases fl with
   | next=>exact False.elim d
   | brk=>exact False.elim d
   | cont=>exact False.elim d
   | ret uu =>
    obtain⟨v,H2,M,rv,ev,dx,R,l,eH⟩:=L.after d;subst ev;subst eH;obtain⟨⟨o,J,i,⟨B,q3⟩,q4,P⟩,_,_⟩:=(show BJ X.prog X.w _ s'.heap a (Ea (some dx) a C) from M.hok a _ Az);have p:=M.drop (a:=a) Az;have eD:L2.drop (upd (upd (upd H1 a (Ea none a C)) dx (.xd [(f,y)])) a (Ea (some dx) a C)) a=upd H1 dx (.xd [(f,y)]):=by
     funext b;by_cases z:b=a
     ·subst z;rw[kY,Bq (Ne.symm l),U]
     ·rw[PX z,Bq z];by_cases z2:b=dx
      ·subst z2;rw[Az,Az]
      ·rw[Bq z2,Bq z2,Bq z]
    rw[eD]at p;refine⟨rv,a,o,O,M.bk _ _ hC,i,B,⟨J,q4,P.1⟩,?_⟩;have ne:X.s₀.heap.get? a=none/\(upd H1 dx (.xd [(f,y)])) a=none:=⟨g.new0 F m.new,by rw[Bq (Ne.symm l)];exact U⟩;refine F.xe _ _ ?_;refine Y1q (base:=X.base) (outer:=X.outer) (s:=s') (by rw[I.ok.frames,F.stk.1]) (by rw[<-F.stk.1];exact p.stack) F.stk.2 i q3 q4 P.1 P.2 λh' T' nT Z kp=>?_;rw[B]at Z;exact Inv.left (s:=s') (h1:=s'.heap) (h':=h') p F (λ_ _ e=>e) (λb hb=>by rw[GK.mp hb];exact ne) kp ne ⟨p.new0 F nT,p.newH nT⟩ Z (q1 dx R)
 rw[arm_exec_Raise];refine Ak (Oh (_M (C:=C) (nm:=nm) (q:=q) (N:=N) (bs:=bs) (bm:=bm) (hdct:=hdct) (sn:=sn) (sub:=sub) (ab:=ab) (col:=col) (dd:=dd) (k0:=k0) (k1:=k1) (k2:=k2) (k3:=k3) (k5:=k5) (newId:="ValueError.__new__") (T.hasType dg.hasBase) (I.ok.hd hc) (Ak (Eb call (λv s₃ h₃=>Ak (Oh (BZ h₃))) λ_ _ x=>x))))
end
section
variable {X:Cx}
theorem LR{x:Str}{pos:Pos}(hg:Gl X x)(hm:X.mg x=some (.ref C))(hd:autoParam ((x == ("__debug__":Str))=false) PySem.ldc._auto_1):PE X (.Name x pos) (tC (.ref C)):=
 λ_ _ _ H _ I h=>Qw I hg hm ⟨.ref C,H,I,O,h⟩ hd
end
structure HD (P:U8) (w:W3) (K:U0) (mg:U4) (base:Heap) (k:Nat) (x:Str) (ps:W0) (sp:Sp):Prop where
 ex:∃f fd,Em P w K mg base (Ms P w) k f fd ps sp/\Binds K fd ps []/\PySem.W.keepIn K (.ref f)=true/\mg x=some (.ref f)
section
variable {X:Cx}{k:Nat}{x:Str}{ps:W0}{sp:Sp}{p pos:Pos}{e:Expr}{es:List Expr}{t:TA}{E:XK}
theorem sG(c:HD X.prog X.w X.K X.mg X.base k x ps sp)(hx:Passes (Ms X.prog X.w) X E)(hr:CG k X.A)(hg:Gl X x)(ha:PA X (e::es) t)(hdb:autoParam ((x == ("__debug__":Str))=false) PySem.ldc._auto_1)
  (he:autoParam (starEach (e::es) X.env=(false,eval e X.env)::starEach es X.env) PySem.W.hit_SB._auto_3) (hpl:autoParam ((backTo pos (starEach es X.env)).any (·.1)=false) PySem.W.hit_SB._auto_3):PE X (.Call (.Name x p) (e::es) [] pos) (JH sp [] E t):=by
 obtain⟨f,fd,F,b,a,m⟩:=c.ex;exact sH F hr hg m a b .nil hx ha hdb he hpl
def Pr (σ0:St)(sp:Sp)(E:XK)(t:TA):TE:=λσ H Q=>t σ H λvs H1=>σ=σ0/\sp vs H1 Q E
theorem X4h{pins:U1}{σ0:St}(c:HD X.prog X.w X.K X.mg X.base k x ps sp)(hr:CG k X.A)(hg:Gl X x)(ha:PA (Xt X pins σ0 E) (e::es) t)(hdb:autoParam ((x == ("__debug__":Str))=false) PySem.ldc._auto_1)
  (he:autoParam (starEach (e::es) X.env=(false,eval e X.env)::starEach es X.env) PySem.W.hit_SB._auto_3) (hpl:autoParam ((backTo pos (starEach es X.env)).any (·.1)=false) PySem.W.hit_SB._auto_3):PE (Xt X pins σ0 E) (.Call (.Name x p) (e::es) [] pos) (Pr σ0 sp E t):=by
 obtain⟨f,fd,F,b,j,m⟩:=c.ex;intro p2 s σ H Q I h;refine Rp (Qw I hg m ?_ hdb);refine X_ (h₀:=X.base) I.ok.mod.kin j (Bd (ha pos p2 s σ H _ I h) λus g ⟨vs,H1,d,r,e1,q⟩=>⟨d.kIn,?_⟩) he hpl;subst e1;have l:us.length=ps.length:=by rw[<-r.length];exact F.len _ _ _ _ q
 have i:=b g us d.kIn (by rw[M4];exact l);rw[M4]at i;refine Mw (Mz (F.run X.A X.stack g H1 ⟨us,[]⟩ us vs Q E hr d.env0 i r q) λr s' a=>?_);cases r with
 | error e=>exact⟨H1,g,d.ofXt,a⟩
 | ok fl =>
  cases fl with
  | ret u=>exact d.after a
  | next=>exact False.elim a
  | brk=>exact False.elim a
  | cont=>exact False.elim a
end
section
variable {P:U8}{w:W3}{K:U0}{mg:U4}{base:Heap}
theorem Ab.calX{x:Str}{st:Stmt}{dV:W4}{ps:W0}{sp:Sp}(F:Ab K x st dV){h:Heap}(X:K.In h)(G:Ng h mg)(N:W0)
  (hbody:∀{f:Y1}{a:W4}{A:W8}{outer:List Env}{s:U7},N.Nodup->∀(H:Hp) (vs:List V) (Q:VK) (E:XK),CG k (A.deeper (envOfC x (CV st) s.heap.objs.size f a))->sp vs H Q E ->
   ∃t,GF (FP (Ms P w) P w K mg base N x (CV st) f a A outer s H E) (DW st) t/\t { nx:=λ_ H'=>Q .non H',rt:=Q} (start N vs) H)(S:Bf N ps (CV st):=by exact fS) (bi:Jf K x st dV ps) (len:∀vs H Q E,sp vs H Q E->vs.length=ps.length):HD P w K mg base (k+1) x ps sp:=by
 obtain⟨f,n,od,kV,d,l,i,a,ct,m,j,c,e,ns⟩:=F.ex;exact⟨f,_,Zg j c S len λA outer s H vs Q E g b=>hbody S.nd H vs Q E g b,bi kV d l i a ct,e,Fb X G ns⟩
end
def ClsAt (K:U0)(C:Y1)(bm:U5):Prop:=∃N nm q bs hdct sn sub ab col dd k0 k1 k2 k3 k5,K.lookup C=some (excClassObj nm q C N bs bm hdct sn sub ab col dd k0 k1 k2 k3 k5 "ValueError.__new__")
theorem Cg.cls(c:Cg P w K mg base k C bm f):ClsAt K C bm:=by
 obtain⟨fi,qual,st,fd,ps,x,_⟩:=c.ex;obtain⟨N,nm,q,bs,hdct,sn,sub,ab,col,dd,k0,k1,k2,k3,k5,l,_⟩:=x.cl;exact⟨N,nm,q,bs,hdct,sn,sub,ab,col,dd,k0,k1,k2,k3,k5,l⟩
theorem Cg.g(c:Cg P w K mg base k C bm f):PySem.W.FW K C:=by
 obtain⟨fi,qual,st,fd,ps,x,_⟩:=c.ex;exact x.g
section
variable {X:Cx}{E:XK}{pins:U1}{σ:St}{H:Hp}{s:U7}
theorem Inv.unset{h':Heap}{m:U4}{v:Option Value}{tk i:Nat}(I:Inv X pins σ H s)(hN:X.N.Nodup)(hi:X.N[i]?=some n)(hm:s.heap.Ns X.env.locals m)
  (hl:∀(i:Nat) (x:Str) (v:V),X.N[i]?=some x->σ[i]?=some (some v)->XS X.env.scope x->∃u,RelV v u/\Look X.env s.heap m x u)
  (hn:h'.Ns X.env.locals (λx=>if x=n then v else m x)) (hs:Heap.SameBut X.env.locals s.heap h'):Inv X pins (σ.set i none) H {s with heap:=h',toks:=tk}:=by
 have a:∀b o,X.s₀.heap.get? b=some o->b≠X.env.locals:=λb o e=>Cy (GR (Bk e) I.ok.above);have cne:=I.cne;refine⟨I.ok,I.os,I.bare,⟨λb o e n f nx=>?_,λb o e n f nx=>?_,I.base.free,λb o e nx=>?_,I.base.tups,I.base.frzs,I.base.tbls⟩,⟨_,hn,λj y E e1 e2 F=>?_⟩,λx c e=>?_,I.free,I.freeC,λp hp=>?_,λb A e=>?_,by rw[Xx];exact I.len⟩
 ·exact(hs.2 b (a b o e)).trans (I.base.keep b o e n f nx)
 ·obtain⟨C,k1⟩:=I.base.slot b o e n f nx;exact⟨C,(hs.2 b (a b o e)).trans k1⟩
 ·obtain⟨o',k1⟩:=I.base.there b o e nx;exact⟨o',(hs.2 b (a b o e)).trans k1⟩
 ·by_cases hj:j=i
  ·subst hj;by_cases hz:j<σ.length
   ·rw[bU hz]at e2;cases e2
   ·rw[List.getElem?_eq_none (by rw[Xx];lia)]at e2;cases e2
  ·rw[YH (Ne.symm hj)]at e2;obtain⟨l,w,q⟩:=hl j y E e1 e2 F;refine⟨l,w,?_⟩;rcases q with ⟨k,e⟩ | ⟨k,c,e,z⟩
   ·refine .inl ⟨k,?_⟩;have:y≠n:=λe=>hj (j4 hN e1 (e ▸ hi));simp[this,e]
   ·exact .inr ⟨k,c,e,z.sameBut hs (cne y c e)⟩
 ·obtain⟨v,o,B,hd⟩:=I.cell x c e;exact⟨v,o,(hs.2 c (I.cne x c e)).trans B,hd⟩
 ·obtain⟨D,h,g,t,r⟩:=I.pin p hp;exact⟨(hs.2 _ g).trans D,h,g,t,r⟩
 ·refine(I.hok b A e).stay (λc G d q=>(hs.2 c ?_).trans q) (λ_ q=>q) λ_ _ q=>q;rintro rfl;rcases d with rfl | d
  ·rw[I.free]at e;cases e
  ·rw[I.free]at d;cases d
def UJ (E:XK)(tb:St->TS)(th:Addr->TS)(i:Nat):TS:=λD σ H=>tb σ D σ H/\∀a cls di H',E cls di H'->H' a=none->th a { nx:=λσ' H''=>D.nx (σ'.set i none) H'',rt:=D.rt} (σ.set i (some (.ref a))) (upd H' a (Dr di a cls))
theorem X4b{st b₀:Stmt}{suite:Y0}{cx:Str}{D:Y1}{i:Nat}{np hpos pos:Pos}{tb:St->TS}{th:Addr->TS}{bm':U5}(hst:X.stack=X.env::X.outer/\X.env.frame=some X.env.locals)(hN:X.N.Nodup)(hi:X.N[i]?=some n)(hloc:X.env.scope.names.lookup n=some .local)
  (hg:Gl X cx) (hm:X.mg cx=some (.ref D)) (hC:ClsAt X.K C bm) (hD:ExcAt X.K D bm') (hsub:(Value.ref C::bm).contains (.ref D)=true) (hE:∀cls A H',E cls A H'->cls=.ref C)
  (c:∀pins σ,GF (Xt X pins σ E) [st] (tb σ)) (hh:∀a,GF (Xh X a) (b₀::suite) (th a)) (hdb:autoParam ((cx == ("__debug__":Str))=false) PySem.ldc._auto_1):
  PS X (.Try [st] [.ExceptHandler (some (.Name cx np)) (some n) (b₀::suite) hpos] [] [] pos) (UJ E tb th i):=by
 intro pins s σ H D' I h;obtain⟨h1,h2⟩:=h;refine wpAny_Try_except (Eb (c pins σ [] s σ H D' I.toXt h1) (λf s1 q=>?_) (λe s1 q=>?_))
 ·cases f with
  | next=>obtain⟨j,H',w,q⟩:=q;exact VF ⟨j,H',w.ofXt,q⟩
  | brk=>obtain⟨j,H',w,q⟩:=q;exact⟨j,H',w.ofXt,q⟩
  | cont=>obtain⟨j,H',w,q⟩:=q;exact⟨j,H',w.ofXt,q⟩
  | ret u=>obtain⟨v,j,H',w,r,q⟩:=q;exact⟨v,j,H',w.ofXt,r,q⟩
 obtain⟨H1,s0,S,a,T,cls,A,H',rfl,os,g,un,d,tr,Y,Z,R,V,q⟩:=q;obtain rfl:=hE cls A H' q;have I1:Inv X pins σ H' s1:=S.call' (ch:=[]) os un d g (λb c=>by cases c);have l:X.env.kindOf n=some .local:=hloc;refine vA (base:=X.base) (outer:=X.outer) (by rw[I.ok.frames,hst.1]) (by rw[<-hst.1];exact I1.stack) hst.2 tr λh' T' M y kp=>?_;have k:Kp (frs X.stack) [a,T] s1.heap h':=by rw[hst.1];exact kp
 have G:Inv X pins σ (upd H' a (Dr A a (.ref C))) {s1 with heap:=h'}:=S.landed os g un d k Y Z R V y;obtain⟨_,_,_,_,_,_,_,_,_,_,_,_,_,_,_,lC⟩:=hC;obtain⟨_,_,_,_,_,_,_,_,_,_,_,_,_,_,_,lD,_,_⟩:=hD.ex;have TD:=PySem.W.tail_of_in G.kIn hD.tail;obtain⟨oe,vs,oT,ts,he,⟨hc,_⟩,_⟩:=id y;refine wpAny_handleBy_cons (codeAny_handlers_test (Qw (X:=Xh X a) (G.toXh (a:=a)) hg hm ?_ hdb)) (by intro q;cases q);refine _V (G.kIn _ _ lC) (G.kIn _ _ lD) he hc (TD.hasType dg.hasBase) hsub ?_;refine codeAny_handlers_suite_as ?_;refine flight (s:={s1 with heap:=h'}) y λh3 P same=>?_;have O:Kp (frs X.stack) [a,T] s1.heap h3:=by
  have ne:∀b o,s1.heap.get? b=some o->b≠T':=λb o c z=>by rw[z,M]at c;cases c
  exact⟨λb o c hf Q=>(same b (ne b o c)).trans (k.keep b o c hf Q),λb o c Q=>let ⟨slo,e⟩:=k.slot b o c Q;⟨slo,(same b (ne b o c)).trans e⟩,λb o c=>let ⟨o',e⟩:=k.there b o c;⟨o',(same b (ne b o c)).trans e⟩⟩
 have I3:Inv X pins σ (upd H' a (Dr A a (.ref C))) {s1 with heap:=h3}:=S.landed os g un d O Y Z R V P;refine Wr (X:=Xh X a) (v:=.ref a) (I3.toXh (a:=a)) hN hi (.inl hloc) rfl (λs4 I4=>?_) (.inr hloc);refine Eb (hh a pins s4 _ _ _ I4 (h2 a _ A H' q R)) (λf s5 J=>?_) (λx s5 z=>z.elim);cases f with
 | next =>
  obtain⟨j,L,B,U⟩:=J;obtain⟨m,F,hl⟩:=id B.loc;refine wpAny_nameGoes_keeps l F (by rw[I.ok.kind];rfl) λh6 v6 t p=>?_;exact⟨_,L,(B.ofXh I.ok).unset hN hi F hl t p,U⟩
 | brk=>obtain⟨_,_,_,z⟩:=J;exact z.elim
 | cont=>obtain⟨_,_,_,z⟩:=J;exact z.elim
 | ret u =>
  obtain⟨v,j,L,B,r,U⟩:=J;obtain⟨m,F,_⟩:=id B.loc;refine wpAny_nameGoes l F (by rw[I.ok.kind];rfl) λh6 m6 t p=>?_;exact⟨v,_,L,(B.ofXh I.ok).blank t p,r,U⟩
end
theorem qx{X:Cx}{e:Y1}:CJ (Xh X e) (.builtin "isinstance") (λxs H Q=>∃a di C c cv b,xs=[.ref a,c]/\H a=some (Dr di a (.ref C))/\Dx H di/\PySem.W.FW X.K C/\qF c=some cv/\PySem.W.kitOne X.K (.ref C) cv=some b/\Q (.bl b) H):=Y0q
theorem uP{X:Cx}{e:Expr}{pos:Pos}{ta:TE}(he:PE (Xh X a) e ta)(hb:attributeBase e f X.env (eval e X.env)=eval e X.env):PE (Xh X a) (.Attribute e f pos) (N8 X.K ta f):=X4g he hb
end L2
namespace PySem
section
variable {M:Model}{A:W8}{E:U2}
end
end PySem
namespace L2
open Fx
section
variable {X:Cx}{E:XK}
end
end L2
namespace L2
theorem sJ:∀{cs:U3}{its:U5},Vals (cs.map V.ref) its->its=cs.map Value.ref
 | [],_,.nil=>rfl
 | c::r,_,.cons h hs=>by
  cases h;rw[sJ hs];rfl
section
variable {X:Cx}
theorem _K:CJ X (.builtin "isinstance") (λxs H Q=>∃(a:Y1) (g:W7) (C p:Y1) (f:U3) (b:Bool),xs=[.ref a,.ref p]/\H a=some (Dr g a (.ref C))/\Dx H g/\PySem.W.FW X.K C/\Ao X.K H p (f.map V.ref)/\PySem.W.kitAny X.K (.ref C) (f.map Value.ref)=some b/\Q (.bl b) H):=by
 intro pins s σ H xs us Q I r h;obtain⟨a,g,C,p,f,b,rfl,w,i,t,hp,e,q⟩:=h;obtain⟨u,v,rfl,k,l⟩:=r.two;cases k;cases l;obtain⟨its,rr,⟨o',m,j,n,hd⟩,_⟩:=I.tuple hp;have:=sJ rr;subst this;obtain⟨c,dd,x,y⟩:=o'
 replace j:c=.type "tuple":=j
 replace hd:x=.seq (f.map Value.ref).toArray n:=hd
 subst j hd;obtain⟨o,od,d,_⟩:=wQ I w i;exact PySem.W.kia_tup (PySem.W.Gj t) I.kIn ⟨o,od,d⟩ m e (λz=>nomatch z) λtk=>⟨.bl b,H,I.tok tk,O,q⟩
theorem qy{e:Y1}:CJ (Xh X e) (.builtin "isinstance") (λxs H Q=>∃(a:Y1) (di:W7) (C p:Y1) (cs:U3) (b:Bool),xs=[.ref a,.ref p]/\H a=some (Dr di a (.ref C))/\Dx H di/\PySem.W.FW X.K C/\Ao X.K H p (cs.map V.ref)/\PySem.W.kitAny X.K (.ref C) (cs.map Value.ref)=some b/\Q (.bl b) H):=_K
end
end L2
namespace L2
open Fx
structure Fi (g:Y1) (k:Nat) (A:W8):Prop where
 dp:A.depth+3*k+5<recursionLimit
 un:A.units+16*k+200<cLine
 hd:A.handled=some (.ref g)
variable{k:Nat}{A:W8}
theorem CG.h(r:CG k A)(g:Y1):Fi g k (A.mark (some (.ref g))):=⟨r.dp,r.un,O⟩
theorem Fi.deeper(r:Fi g (k+1) A)(env:Env):Fi g k (A.deeper env):=
 ⟨by have:=r.dp;show A.depth+1+3*k+5<_;lia,by have:=r.un;show A.units+3+16*k+200<_;lia,r.hd⟩
noncomputable def WL (P:U8)(w:W3)(K:U0)(mg:U4)(base:Heap)(N:W0)(qual:Str)(scope:Scope)(f:Y1)(cd:W4)(A:W8)(outer:List Env)(s:U7)(H:Hp):Cx :=
 { (FP JF P w K mg base N qual scope f cd A outer s H E0).nox with calm:=false}
structure Pj (g:Y1) (P:U8) (w:W3) (K:U0) (mg:U4) (base:Heap) (k:Nat) (f:Y1) (fd:FuncData) (ps:W0) (sp:Sp):Prop where
 len:∀vs H Q E,sp vs H Q E->vs.length=ps.length
 run:∀(A:W8) (outer:List Env) (s:U7) (H:Hp) (args:Args) (us:U5) (vs:List V) (Q:VK) (E:XK),Fi g k A->Ga P w K mg base A outer s H->BindsTo s fd args (ps.zip us)->Vals vs us->sp vs H Q E ->
  codeAny (model P w) A (.call (.ref f) args) (CR JF outer P w H s Q E) s
variable{P:U8}{w:W3}{K:U0}{mg:U4}{base:Heap}{N ps:W0}{qual:Str}{scope:Scope}{f:Y1}
theorem Px{cd:W4}{outer:List Env}{s s1:U7}{H:Hp}{us:U5}{vs:List V}
  (S:Bf N ps scope) (en:Ga P w K mg base A outer s H) (hl:vs.length=ps.length) (r:Vals vs us)
  (x:InCallC s s.heap.objs.size (bindL (envOfC qual scope s.heap.objs.size f cd).kindOf (ps.zip us) λ_=>none) (cellsFrom (s.heap.objs.size+1) scope.names []) (bindC (envOfC qual scope s.heap.objs.size f cd).kindOf (ps.zip us) λ_=>none) s1):
  Inv (WL P w K mg base N qual scope f cd A outer s H) [] (start N vs) H s1:=by
 have b:Ga P w K mg base {A with handled:=none} outer s H:=⟨en.frames,en.mod,en.bs,en.bsz,en.funs,en.frf,en.hok,en.bare⟩;have a:Inv (FP JF P w K mg base N qual scope f cd {A with handled:=none} outer s H E0) [] (start N vs) H s1:=u6 S rfl b hl r x
 exact⟨⟨a.ok.mod,a.ok.kind,a.ok.glob,a.ok.blt,a.ok.above,a.ok.inj,a.ok.has,a.ok.cab,(λz=>by cases z),a.ok.frames,a.ok.stk,a.ok.exf,a.ok.bs,a.ok.bsz,a.ok.noex,a.ok.exfs,a.ok.funs,a.ok.frf⟩,
  a.os,a.bare,a.base,a.loc,a.cell,a.free,a.freeC,a.pin,a.hok,a.len⟩
theorem X9w{name:Str}{params:Arguments}{body:Y0}{dV kV doc pm cdv ct oc:W4}{an od:W7}
  {osl:W6}{sp:Sp} (lk:K.lookup f=some ⟨oc,od,.func (PySem.W.fnOf name qual params body scope dV kV doc pm an cdv ct),osl⟩) (hcd:PySem.W.codeIn K cdv qual=true) (S:Bf N ps scope)
  (len:∀vs H Q E,sp vs H Q E->vs.length=ps.length)
  (hbody:∀(A:W8) (outer:List Env) (s:U7) (H:Hp) (vs:List V) (Q:VK) (E:XK),Fi g k (A.deeper (envOfC qual scope s.heap.objs.size f cdv))->sp vs H Q E ->
   ∃t,GF (WL P w K mg base N qual scope f cdv A outer s H) body t/\t { nx:=λ_ H'=>Q .non H',rt:=Q} (start N vs) H):
  Pj g P w K mg base (k+1) f (PySem.W.fnOf name qual params body scope dV kV doc pm an cdv ct) ps sp:=by
 refine⟨len,λA outer s H args us vs Q E m h z r d=>?_⟩;have D:=len _ _ _ _ d;have p:K.In s.heap:=h.mod.kin.keeps λb o e=>(h.bs b o e).1;have l:s.heap.NoLimit:=h.mod.nolimit.keeps λb o e=>(h.bs b o e).1;have a:∀y∈ps.zip us,scope.names.lookup y.1=some .local\/(scope.names.lookup y.1=some .cell/\((cellsFrom (s.heap.objs.size+1) scope.names []).lookup y.1).isSome=true):=λ⟨n,v⟩ G=>by
  rcases S.par n (Xy G).1 with q | q
  ·exact .inl q
  ·exact .inr ⟨q,bZ _ _ _ (.inl q)⟩
 refine oR (by have:=m.dp;lia) (p _ _ lk) rfl S.co S.gen rfl (PySem.W.codeRec_of p hcd) (z _ _ _ _ ?_);refine pL S.kind a λenv C s1 x=>?_;subst C;refine⟨l.keeps x.toInCall.keep,codeAny_func ?_⟩;obtain⟨t,B,F⟩:=hbody A outer s H vs Q E (m.deeper _) d;have I:Inv (WL P w K mg base N qual scope f cdv A outer s H) [] (start N vs) H s1:=Px S h D r x;refine Eb (B [] s1 (start N vs) H _ I F) (λfl s' c=>?_) λe s' c=>False.elim c;have fin:∀{i:St}{H':Hp}{v:V}{u:W4},Inv (WL P w K mg base N qual scope f cdv A outer s H) [] i H' s'->RelV v u->Q v H'->CE outer P w H s Q u s' :=
  λ{i H' v u} J j q=>⟨v,H',J.os,J.bare,J.base,J.hok,j,q⟩
 cases fl with
 | ret u =>
  obtain⟨v,i,H',J,j,q⟩:=c;exact fin J j q
 | next =>
  obtain⟨i,H',J,q⟩:=c;exact fin (v:=V.non) (u:=Value.none) J rfl q
 | brk =>
  obtain⟨_,_,_,q⟩:=c;exact False.elim q
 | cont =>
  obtain⟨_,_,_,q⟩:=c;exact False.elim q
structure N7 (g:Y1) (P:U8) (w:W3) (K:U0) (mg:U4) (base:Heap) (k:Nat) (x:Str) (ps:W0) (sp:Sp):Prop where
 ex:∃f fd,Pj g P w K mg base k f fd ps sp/\Binds K fd ps []/\PySem.W.keepIn K (.ref f)=true/\mg x=some (.ref f)
section
variable {X:Cx}{k:Nat}{x:Str}{ps:W0}{sp:Sp}{p pos:Pos}{e:Expr}{es:List Expr}{t:TA}{E:XK}
theorem X4i(c:N7 g X.prog X.w X.K X.mg X.base k x ps sp)(hr:Fi g k X.A)(hg:Gl X x)(ha:PA X (e::es) t)(hdb:autoParam ((x == ("__debug__":Str))=false) PySem.ldc._auto_1)
  (he:autoParam (starEach (e::es) X.env=(false,eval e X.env)::starEach es X.env) PySem.W.hit_SB._auto_3) (hpl:autoParam ((backTo pos (starEach es X.env)).any (·.1)=false) PySem.W.hit_SB._auto_3):PE X (.Call (.Name x p) (e::es) [] pos) (JH sp [] E0 t):=by
 obtain⟨f,fd,F,b,o,m⟩:=c.ex;intro p2 s σ H Q I h;refine Rp (Qw I hg m ?_ hdb);refine X_ (h₀:=X.base) I.ok.mod.kin o (Bd (ha pos p2 s σ H _ I h) λus l ⟨vs,H1,d,r,q⟩=>⟨d.kIn,?_⟩) he hpl;have j:sp vs H1 Q E0:=by have i:sp (vs++[]) H1 Q E0:=q;rw[M4]at i;exact i
 have v:us.length=ps.length:=by rw[<-r.length];exact F.len _ _ _ _ j
 have n:=b l us d.kIn (by rw[M4];exact v);rw[M4]at n;refine Mw (Mz (F.run X.A X.stack l H1 ⟨us,[]⟩ us vs Q E0 hr d.env0 n r j) λr s' a=>?_);cases r with
 | error e=>exact False.elim a
 | ok fl =>
  cases fl with
  | ret u=>exact d.after a
  | next=>exact False.elim a
  | brk=>exact False.elim a
  | cont=>exact False.elim a
end
theorem Ab.calH{x:Str}{st:Stmt}{dV:W4}{sp:Sp}(F:Ab K x st dV){h:Heap}(X:K.In h)(G:Ng h mg)(N:W0)
  (hbody:∀{f:Y1}{a:W4}{A:W8}{outer:List Env}{s:U7},N.Nodup->∀(H:Hp) (vs:List V) (Q:VK) (E:XK),Fi g k (A.deeper (envOfC x (CV st) s.heap.objs.size f a))->sp vs H Q E ->
   ∃t,GF (WL P w K mg base N x (CV st) f a A outer s H) (DW st) t/\t { nx:=λ_ H'=>Q .non H',rt:=Q} (start N vs) H)(S:Bf N ps (CV st):=by exact fS) (bi:Jf K x st dV ps) (len:∀vs H Q E,sp vs H Q E->vs.length=ps.length):N7 g P w K mg base (k+1) x ps sp:=by
 obtain⟨f,o,od,kV,d,m,j,a,ct,n,l,c,e,ns⟩:=F.ex;exact⟨f,_,X9w l c S len λA outer s H vs Q E i b=>hbody S.nd H vs Q E i b,bi kV d m j a ct,e,Fb X G ns⟩
end L2
set_option maxHeartbeats 1000000
namespace A_
open L2 Ba Am Pc Eu
open Al (top Bs Bh BX)
open Ce (DG)
open Dp (Mk)
theorem X6g:bootBuiltins "ValueError"=some (.type "ValueError"):=by decide +kernel
set_option genInjectivity false in
set_option genSizeOf false in
structure yI (K:U0) (mg:U4) (C D:Y1) (bm bm':U5) where
 mD:mg "BoardError"=some (.ref D)
 mV:mg "ValueError"=none
 mC:mg "NotBorne"=some (.ref C)
 hC:ClsAt K C bm
 xD:ExcAt K D bm'
 sub:(Value.ref C::bm).contains (.ref D)=true
 gC:PySem.W.FW K C
 na:Dm K C "place"
 ve:PySem.W.kitOne K (.ref C) (.type "ValueError")=some true
 own:PySem.W.kitOne K (.ref C) (.ref C)=some true
 a_NeverSo:Addr
 mo_NeverSo:mg "NeverSo"=some (.ref a_NeverSo)
 a_NoAmount:Addr
 mo_NoAmount:mg "NoAmount"=some (.ref a_NoAmount)
 a_NoBoard:Addr
 mo_NoBoard:mg "NoBoard"=some (.ref a_NoBoard)
 a_NoCell:Addr
 mo_NoCell:mg "NoCell"=some (.ref a_NoCell)
 a_NoMark:Addr
 mo_NoMark:mg "NoMark"=some (.ref a_NoMark)
 a_NoMove:Addr
 mo_NoMove:mg "NoMove"=some (.ref a_NoMove)
 a_NoShare:Addr
 mo_NoShare:mg "NoShare"=some (.ref a_NoShare)
 a_NoTable:Addr
 mo_NoTable:mg "NoTable"=some (.ref a_NoTable)
 a_NoText:Addr
 mo_NoText:mg "NoText"=some (.ref a_NoText)
 a_Unguarded:Addr
 mo_Unguarded:mg "Unguarded"=some (.ref a_Unguarded)
 k1:PySem.W.kitAny K (.ref C) [.ref a_NeverSo,.ref a_NoAmount,.ref a_NoBoard,.ref a_NoCell,.ref a_NoMark,.ref a_NoMove,.ref a_NoShare]=some false
 k2:PySem.W.kitAny K (.ref C) [.ref a_NoTable,.ref a_NoText,.ref a_Unguarded]=some false
def qN (C:Y1):Sp:=λvs H _ E=>∃(l:Y1) (row:List Mv) (i:Nat),vs=[.ref l]/\Cv H l row/\row.length<=200/\G6 0 row=some i/\∀(H':Hp) (dx:Y1),Same H H'->H' dx=some (.xd [("place",.int i)])->E (.ref C) (some dx) H'
def sX (C:Y1):Sp:=λvs H _ E=>∃(v:V) (l:Y1) (row:List Mv) (i:Nat),vs=[v,.ref l]/\Cv H l row/\row.length<=200/\G6 0 row=some i/\∀(H':Hp) (dx:Y1),Same H H'->H' dx=some (.xd [("place",.int i)])->E (.ref C) (some dx) H'
def Kl (C:Y1):Sp:=λvs H _ E=>∃(v:V) (l:Y1) (v':V) (row:List Mv) (i:Nat),vs=[v,.ref l,v']/\Cv H l row/\row.length<=200/\G6 0 row=some i/\∀(H':Hp) (dx:Y1),Same H H'->H' dx=some (.xd [("place",.int i)])->E (.ref C) (some dx) H'
def qM:Sp:=λvs H Q _=>∃(v:V) (l:Y1) (v':V) (row:List Mv) (i:Nat),vs=[v,.ref l,v',.int i]/\Cv H l row/\row.length<=200/\G6 0 row=some i/\∀H':Hp,Same H H'->Q (.bl true) H'
section
variable {P:U8}{w:W3}{K:U0}{mg:U4}{base:Heap}{k:Nat}{h:Heap}{C D fi:Y1}{bm bm':U5}{qual:Str}
theorem X3v:Bf ["self","place"] ["self","place"] (CV (Ju (top 11) 0)):=fS
theorem X4y(x:FT K C fi qual (Ju (top 11) 0) bm)(na:Dm K C "place"):Cg P w K mg base (k+1) C bm "place":=by
 refine x.cal na X3v (λ_ _ _ _ _ _ _ _=>rfl) λd b A outer s H vs Q E h=>?_;obtain⟨a,y,rfl,c,q⟩:=h;refine⟨_,@Av _ _ _ (X4c (C:=C) x.sa x.po x.g.dc na (pv 0) (pv 1) rfl),?_⟩;exact⟨_,O,_,O,a,O,c,λdx h1 h2=>q dx h1 h2⟩
theorem Y3z{tM:Tok}(F:Ab K "check_summed" (top 65) .none)(X:K.In h)(G:Ng h mg)(B:Bs mg)(mI:mg "NotBorne"=some (.ref C))(gM:mg "MOST_ODD_TURNS"=some (.int 6 tM))(eG:Cg P w K mg base k C bm "place")(cA:Ar P w K mg base (k+1) "is_odd_turn" ["move"] JL):HD P w K mg base (k+2) "check_summed" ["row"] (qN C):=by
 refine F.calX X G _ (S:=Ge) (bi:=Ql λ_ _ _ _ _ _ _=>rfl) (len:=λ_ _ _ _ h=>by obtain⟨_,_,_,rfl,_⟩:=h;rfl) λf H vs Q E n h=>?_;obtain⟨l,row,M,rfl,⟨ps,N,b⟩,r,pn,D⟩:=h;have o:Ax K H l (ps.map V.ref):=Ax.of N;have J:ps.length=row.length:=by have:=Sw b;rw[Bj]at this;exact this
 refine⟨_,(@Aw _ _ _ _ _ (@BR _ _ 1 _ _ _ _ f rfl (Or.inl rfl) Ad rfl (.inl rfl))
  (@Av _ _ _ (JC PassesOwn.leaving rfl (mX rfl B.enumerate (Aa (pv 0) Af)) (@Ka _ _ _ _ _ _ rfl (@Dz _ _ _ _ _ (@CN _ _ 2 _ f rfl (Or.inl rfl) (by first | exact .inl rfl | exact .inr rfl)) (@Dz _ _ _ _ _ (@CN _ _ 3 _ f rfl (Or.inl rfl) (by first | exact .inl rfl | exact .inr rfl)) Kc rfl) rfl) rfl rfl)
   (@Eo _ _ _ _ _ (CQ (Fp (BP cA n rfl (Aa (pv 3) Af)))
    (@Av _ _ _ (@BR _ _ 1 _ _ _ _ f rfl (Or.inl rfl) (Ag DX (pv 1) Ad) rfl (.inl rfl)))
    CT)
   (@Av _ _ _ (CQ (PW.pt (Jb (Bx Cz (Ai Aq (pv 3) Ad (λ_ _=>rfl)) Ej (Ae _)) (La (Bx MK (pv 1) (HY (v:=.int 6) rfl gM ⟨_,O⟩) (Ae _)))))
    (@Av _ _ _ (Y5u eG n Fz rfl rfl mI (Aa (pv 2) Af)))
    CT)))))),?_⟩
 try dsimp only[Bu]
 refine⟨_,O,l,_,O,o,uD (K:=K) (a:=l) (xs:=ps.map V.ref) (λi σ H'=>Same H H'/\NS row i/\∃(v1 v2:Option V),σ=[some (.ref l),some (.int ((cO (row.take i):Nat):Int)),v1,v2])
  ⟨Same.refl _,NS.zero _,none,none,O⟩ (λi σ H' _ e=>e.1.seq o) ?_ ?_⟩
 ·rintro i x σ H1 T t ⟨m,d,v1,v2,rfl⟩ L;rw[FN]at t;obtain⟨q,R,rfl⟩:=G3.mp t;obtain⟨y,j,s⟩:=Wo b R;have c:=m.trans (BW L (.tup [.int i,.ref q]));refine⟨T,_,O,Ao.of Az,O,_,_,O,_,_,O,O,?_⟩;generalize upd H1 T (.tup [.int i,.ref q])=H2 at c ⊢;have p:cO (row.take (i+1))=cO (row.take i)+o1 y:=by rw[JT,j];exact PN _ _
  refine⟨λI H'=>H2=H'/\I=[some (.ref l),some (.int ((cO (row.take (i+1)):Nat):Int)),some (.int i),some (.ref q)],?_,?_⟩
  ·refine⟨_,O,q,y,O,c _ _ s,_,O,Js (λg=>⟨_,O,_,_,O,O,O,?_⟩) (λg=>⟨O,?_⟩)⟩
   ·rw[p,o1,if_pos g];rfl
   ·rw[p,o1,if_neg (by rw[g];decide)];rfl
  rintro I _ ⟨rfl,rfl⟩;have SP:Ao K H2 q (.str (nm y)::(ns y).map V.int):=Ao.of (c _ _ s);have u:(K6 y || decide (6<cO (row.take i)+o1 y))=true->M=i:=λe=>by
   rw[d.stop j e]at pn;exact(Option.some.inj pn).symm
  refine⟨_,O,q,_,_,.str (nm y),O,O,SP,Hu y,O,_,O,Ay (λe=>?_) (λe=>?_)⟩
  ·have:=u (by rw[show K6 y=true from Cj (V.str.inj e)];rfl);subst this;exact⟨_,O,_,O,λdx hd=>D _ dx (c.trans (BW hd _)) Az⟩
  ·have A:K6 y=false:=Cd λz=>e (by rw[z]);refine⟨_,O,_,_,O,O,_,O,Ay (λe=>?_) (λe=>⟨c,d.next j (by rw[A,QD];exact Cd (by lia)),_,_,O⟩)⟩;have:=u (by rw[A,QD];exact Cj (by lia));subst this;exact⟨_,O,_,O,λdx hd=>D _ dx (c.trans (BW hd _)) Az⟩
 ·rintro σ H1 ⟨m,d,v1,v2,rfl⟩;rw[Bj,J]at d;rw[d.fin]at pn;cases pn
theorem Y9p(F:Ab K "back_sum" (top 64) .none)(X:K.In h)(G:Ng h mg)(x_summed:HD P w K mg base k "check_summed" ["row"] (qN C)):HD P w K mg base (k+1) "back_sum" ["mark","row"] (sX C):=by
 refine F.calX X G _ (S:=JN) (bi:=Qk λ_ _ _ _ _ _ _ _=>rfl) (len:=λ_ _ _ _ h=>by obtain⟨_,_,_,_,rfl,_⟩:=h;rfl) λd H vs Q E c h=>?_;obtain⟨v,l,row,i,rfl,R,a,fi,b⟩:=h;refine⟨_,(@Aw _ _ _ _ _ (Nr (sG x_summed (Fz.passes λ_ _ _ z=>z) c rfl (Aa (pv 1) Af))) lG),?_⟩;try dsimp only[Bu]
 exact⟨_,O,l,row,i,O,R,a,fi,b⟩
theorem Ku:Bf ["word","row","mark","total","one","each"] ["word","row","mark"] (CV (top 69)):=fS
theorem X4s{aZ:Y1}(gZ:mg "NOUGHT"=some (.ref aZ))(F:Ab K "sum_share" (top 69) .none)(X:K.In h)(G:Ng h mg)(x_back:HD P w K mg base k "back_sum" ["mark","row"] (sX C)):HD P w K mg base (k+1) "sum_share" ["word","row","mark"] (Kl C):=by
 refine F.calX X G _ (S:=Ku) (bi:=Qj λ_ _ _ _ _ _ _ _ _=>rfl) (len:=λ_ _ _ _ h=>by obtain⟨_,_,_,_,_,rfl,_⟩:=h;rfl) λb H vs Q E c h=>?_;obtain⟨v,l,d,row,i,rfl,R,a,fi,e⟩:=h
 refine⟨_,(@Aw _ _ _ _ _ (@BR _ _ 3 _ _ _ _ b rfl (Or.inl rfl) (HY (v:=.ref aZ) rfl gZ rfl) rfl (.inl rfl))
  (@Aw _ _ _ _ _ (JC PassesOwn.leaving rfl (Je (sG x_back (Fz.passes λ_ _ _ z=>z) c rfl (Aa (pv 2) (Aa (pv 1) Af)))) (@Ka _ _ _ _ _ _ rfl (@Dz _ _ _ _ _ (@CN _ _ 4 _ b rfl (Or.inl rfl) (by first | exact .inl rfl | exact .inr rfl)) (@Dz _ _ _ _ _ (@CN _ _ 5 _ b rfl (Or.inl rfl) (by first | exact .inl rfl | exact .inr rfl)) Kc rfl) rfl) rfl rfl) lG) lG)),?_⟩
 try dsimp only[Bu]
 exact⟨_,O,_,O,d,l,row,i,O,R,a,fi,e⟩
theorem Y6i(g:Y1)(F:Ab K "_law_whole" (top 74) .none)(X:K.In h)(G:Ng h mg)(B:Bs mg):N7 g P w K mg base (k+1) "_law_whole" ["_law_found"] Nu:=by
 refine F.calH X G _ (S:=Al.Hh) (bi:=Ql λ_ _ _ _ _ _ _=>rfl) (len:=λ_ _ _ _ h=>by obtain⟨_,rfl,_⟩:=h;rfl) λa H vs Q E b h=>?_;obtain⟨i,rfl,q⟩:=h;refine⟨_,(@Av _ _ _ (Bb (KZ (DP Ny rfl B.isinstance Jm (Aa (pv 0) (Aa (Mh (v:=.ty "int") rfl B.int Rx rfl) Af))) (Jt (lZ (DP Ny rfl B.isinstance Jm (Aa (pv 0) (Aa (Mh (v:=.ty "bool") rfl B.bool boot_bool rfl) Af)))))))),?_⟩;try dsimp only[Bu]
 exact⟨_,O,_,_,_,true,O,Cq.int i,lW K,_,O,Df ⟨_,O,_,_,_,false,O,Cq.int i,lV K,_,O,q⟩⟩
theorem Y4a(F:Ab K "_law_refused" (top 85) .none)(X:K.In h)(G:Ng h mg)(B:Bs mg)(x:yI K mg C D bm bm')(x_sum:HD P w K mg base k "sum_share" ["word","row","mark"] (Kl C))(h_whole:∀g,N7 g P w K mg base k "_law_whole" ["_law_found"] Nu):
  Ar P w K mg base (k+1) "_law_refused" ["_law_word","_law_row","_law_mark","_law_place_here"] qM:=by
 refine F.cal X G ["_law_word","_law_row","_law_mark","_law_place_here","e","_law_others"] (bi:=Qi λ_ _ _ _ _ _ _ _ _ _=>rfl) (len:=λ_ _ _ _ h=>by obtain⟨_,_,_,_,_,rfl,_⟩:=h;rfl) λs H vs Q E r h=>?_;obtain⟨v,l,J,row,i,rfl,R,m,fi,L⟩:=h
 refine⟨_,(@Aw _ _ _ _ _ (X4b (E:=λcls t H1=>cls=.ref C/\Same H H1/\∃dx,t=some dx/\H1 dx=some (.xd [("place",.int ((i:Nat):Int))])) (i:=4) ⟨O,O⟩ s rfl rfl rfl x.mD x.hC x.xD x.sub (λ_ _ _ z=>z.1)
   (λpins σ=>@Av _ _ _ (Nr (X4h (σ0:=σ) x_sum r rfl (Aa (pv 0) (Aa (pv 1) (Aa (pv 2) Af))))))
   (λa=>@Aw _ _ _ _ _ (@BR _ _ 5 _ _ _ _ s rfl (Or.inl rfl) (DP qy rfl B.isinstance Jm (Aa (pv 4) (Aa (@Dj _ _ _ _ _ (Aa (LR rfl (x.mo_NeverSo)) (Aa (LR rfl (x.mo_NoAmount)) (Aa (LR rfl (x.mo_NoBoard)) (Aa (LR rfl (x.mo_NoCell)) (Aa (LR rfl (x.mo_NoMark)) (Aa (LR rfl (x.mo_NoMove)) (Aa (LR rfl (x.mo_NoShare)) Af)))))))) Af))) rfl (.inl rfl))
    (@Aw _ _ _ _ _ (CQ (PW.pt (Jb (Fp (pv 5)) (Jb (Fp (DP qy rfl B.isinstance Jm (Aa (pv 4) (Aa (@Dj _ _ _ _ _ (Aa (LR rfl (x.mo_NoTable)) (Aa (LR rfl (x.mo_NoText)) (Aa (LR rfl (x.mo_Unguarded)) Af)))) Af)))) (La (Ij (Fp (DP qx rfl B.isinstance Jm (Aa (pv 4) (Aa (Mh (v:=.ty "ValueError") rfl x.mV X6g rfl) Af))))))))) (@Av _ _ _ (Bb MP)) CT)
    (@Av _ _ _ (Bb (KZ (DP qx rfl B.isinstance Jm (Aa (pv 4) (Aa (LR rfl (x.mC)) Af))) (KZ (X4i (h_whole a) (r.h a) rfl (Aa (uP (pv 4) rfl) Af)) (Jt (GX Cz (uP (pv 4) rfl) (pv 3) (Ae _))))))))))
  (@Av _ _ _ (Bb MP))),?_⟩
 try dsimp only[Bu]
 refine⟨?_,?_⟩
 ·exact⟨_,O,_,O,_,O,O,v,l,J,row,i,O,R,m,fi,λH' dx S hd=>⟨O,S,dx,O,hd⟩⟩
 ·rintro b cls t H2 ⟨rfl,y,dx,rfl,hd⟩ n;have j:upd H2 b (Dr (some dx) b (.ref C)) b=some (Dr (some dx) b (.ref C)):=Az;have S3:=y.trans (BW n (Dr (some dx) b (.ref C)));have o:upd H2 b (Dr (some dx) b (.ref C)) dx=some (.xd [("place",.int i)]):=BW n _ _ _ hd;generalize upd H2 b (Dr (some dx) b (.ref C))=H3 at j S3 o ⊢;have f:∀{H':Hp},Same H3 H'->Dx H' (some dx):=λS d e=>by cases e;exact⟨_,S _ _ o⟩
  refine⟨_,O,(show 7<=sizeLine by decide),λI u=>?_⟩;have p:=BW u (.tup ([x.a_NeverSo,x.a_NoAmount,x.a_NoBoard,x.a_NoCell,x.a_NoMark,x.a_NoMove,x.a_NoShare].map V.ref));refine⟨b,some dx,C,I,[x.a_NeverSo,x.a_NoAmount,x.a_NoBoard,x.a_NoCell,x.a_NoMark,x.a_NoMove,x.a_NoShare],false,O,p _ _ j,f p,x.gC,Ao.of Az,x.k1,?_⟩;refine⟨_,O,_,O,CP ⟨_,O,(show 3<=sizeLine by decide),λq A=>?_⟩⟩;have c:=p.trans (BW A (.tup ([x.a_NoTable,x.a_NoText,x.a_Unguarded].map V.ref)));refine⟨b,some dx,C,q,[x.a_NoTable,x.a_NoText,x.a_Unguarded],false,O,c _ _ j,f c,x.gC,Ao.of Az,x.k2,_,O,CP ?_⟩;refine⟨_,O,b,some dx,C,_,_,true,O,c _ _ j,f c,x.gC,O,x.ve,_,O,CP ?_⟩;refine⟨_,O,b,some dx,C,_,_,true,O,c _ _ j,f c,x.gC,O,x.own,_,O,Df ?_⟩;refine⟨_,O,b,dx,C,_,_,O,c _ _ j,c _ _ o,x.gC,x.na,O,i,O,_,O,Df ?_⟩;refine⟨_,O,b,dx,C,_,_,O,c _ _ j,c _ _ o,x.gC,x.na,O,_,O,O,?_⟩;show Q (.bl (decide (V.int (i:Nat)=V.int (i:Nat)))) _;rw[Cj rfl];exact L _ (S3.trans c)
end
end A_
set_option maxHeartbeats 4000000
namespace Al
open L2 Am Pc Ba
def Y8:Sp:=λvs H Q _=>∃(cl:Int) (c:Nat),vs=[.int cl,.int c]/\1<=c/\c<=6/\∀(r:Y1) (H':Hp) (nm:Str) (ns:U6),Same H H'->H' r=some (Mr nm ns)->((nm="mix"/\∃a:Nat,a<c/\ns=[(a:Int)])\/∃v:Mv,v.Ok c/\nm=v.nm/\ns=v.ns)->Q (.ref r) H'
theorem pick{L:U6}{i:Int}(h0:0<=i)(h1:i<L.length):∃e∈L,GC (L.map V.int) i=some (.int e):=by
 refine⟨L.getD i.toNat 0,?_,wI h0 h1⟩;rw[G5,Di (by lia)];exact Rg _
structure Rest (c:Nat) (no:W5) (R:U6):Prop where
 only:∀e∈R,∃j:Nat,e=(j:Int)/\j<c/\j∉no
 all:∀j:Nat,j<c->j∉no->(j:Int)∈R
 len:R.length<=6
variable{c a:Nat}{R:U6}
theorem Rest.pos1(r:Rest c [a] R)(h:2<=c):0<R.length:=by
 by_cases e:a=0
 ·exact bV (r.all 1 (by lia) (by simp;lia))
 ·exact bV (r.all 0 (by lia) (by simp;lia))
theorem Rest.pos2{b:Nat}(r:Rest c [a,b] R)(h:3<=c):0<R.length:=by
 have:∃j:Nat,j<3/\j≠a/\j≠b:=by
  by_cases h0:0≠a/\0≠b
  ·exact⟨0,by decide,h0.1,h0.2⟩
  ·by_cases h1:1≠a/\1≠b
   ·exact⟨1,by decide,h1.1,h1.2⟩
   ·exact⟨2,by decide,by lia,by lia⟩
 obtain⟨j,d,f,e⟩:=this;exact bV (r.all j (by lia) (by simp;lia))
theorem Rest.filter{b:Nat}(r:Rest c [a] R){p:Int->Bool}(hp:∀e,p e=!decide (V.int e=V.int b)):Rest c [a,b] ((R.filter p).map id):=by
 rw[List.map_id];refine⟨λe g=>?_,λj k d=>?_,Fq (YM _ _) r.len⟩
 ·obtain⟨h1,h2⟩:=Rc.mp g;obtain⟨j,rfl,l,m⟩:=r.only e h1;refine⟨j,O,l,?_⟩;rw[hp]at h2;have f:¬ (V.int (j:Int)=V.int (b:Int)):=by simpa using h2
  have h:j≠b:=λz=>f (by rw[z]);have i:j≠a:=by simpa using m
  simp;exact⟨i,h⟩
 ·simp at d;refine Rc.mpr ⟨r.all j k (by simp;exact d.1),?_⟩;rw[hp,Cd (λz=>d.2 (by have:=V.int.inj z;lia))];rfl
section
variable {P:U8}{w:W3}{K:U0}{mg:U4}{base:Heap}{k:Nat}{h:Heap}
theorem Y6n(F:Ab K "_law_move_by" (top 81) .none)(X:K.In h)(G:Ng h mg)(B:Bs mg):Ar P w K mg base (k+1) "_law_move_by" ["_law_cell","_law_cells"] Y8:=by
 refine F.cal X G ["_law_cell","_law_cells","_law_far","_law_kind","_law_a","_law_rest","_law_b"] (bi:=Qk λ_ _ _ _ _ _ _ _=>rfl) (len:=λ_ _ _ _ h=>by obtain⟨_,_,rfl,_⟩:=h;rfl) λu H vs Q E m h=>?_;obtain⟨q,c,rfl,c1,c6,A⟩:=h;have cpos:(0:Int)<(c:Int):=by lia
 refine⟨_,(@Eo _ _ _ _ _ (@BR _ _ 2 _ _ _ _ u rfl (Or.inl rfl) (Ag Ec (Ag JB (pv 0) Ad) Ad) rfl (.inl rfl))
  (@Eo _ _ _ _ _ (@BR _ _ 3 _ _ _ _ u rfl (Or.inl rfl) (Ag Ec (pv 2) Ad) rfl (.inl rfl))
  (@Eo _ _ _ _ _ (CQ (PW.pt (Jb (Bx Cz (pv 1) Ad (Ae _)) (La (PW.pt (Ma (Bx Cz (pv 1) Ad (Ae _)) (Nt (Bx Cz (pv 3) Ad (Ae _))))))))
   (@Av _ _ _ (@BR _ _ 3 _ _ _ _ u rfl (Or.inl rfl) (Ag Ec (pv 3) Ad) rfl (.inl rfl)))
   CT)
  (@Eo _ _ _ _ _ (@BR _ _ 4 _ _ _ _ u rfl (Or.inr rfl) (Ag Ec (Ag Jd (pv 2) Ad) (pv 1)) rfl (.inl rfl))
  (@Aw _ _ _ _ _ (CQ (Bx Cz (pv 3) Ad (Ae _))
   (@Av _ _ _ (Bb (@Dj _ _ _ _ _ (Aa Ej (Aa (pv 4) (Aa (Ag DX Ad (Ag Ec (Ag Jd (pv 2) Ad) Ad)) Af))))))
   CT)
  (@Aw _ _ _ _ _ (CQ (Bx Q9 (pv 3) Ad (Ae _))
   (@Av _ _ _ (Bb (@Dj _ _ _ _ _ (Aa (Ai Dl (@PB _ _ _ _ (Aa Ej (Aa Ej Af))) (pv 3) (λ_ _=>rfl)) (Aa (pv 4) Af)))))
   CT)
  (@Eo _ _ _ _ _ (lF (i:=5) rfl u rfl rfl (Bw.of (Nc:=["_law_c","_law_a"]) (mp:=[none,some 4]) (by kernel_rfl)) (Mp rfl B.range (Aa (pv 1) Af)) (λ_ _ _ _=>(CN (i:=0) (show (["_law_c","_law_a"]:W0).Nodup by decide +kernel) rfl (Or.inl rfl))) (λ_ _ _ _=>(Bx LC (pv 0) (pv 1) (Ae _))) (λ_ _ _ _=>(pv 0)) rfl)
  (@Eo _ _ _ _ _ (@BR _ _ 6 _ _ _ _ u rfl (Or.inr rfl) (Ai Dl (pv 5) (Ag Ec (Ag Jd (pv 2) Ad) (DP Jw rfl B.len JR (Aa (pv 5) Af))) (λ_ _=>rfl)) rfl (.inl rfl))
  (@Aw _ _ _ _ _ (CQ (Bx Q9 (pv 3) Ad (Ae _))
   (@Av _ _ _ (Bb (@Dj _ _ _ _ _ (Aa (Ai Dl (@PB _ _ _ _ (Aa Ej (Aa Ej (Aa Ej Af)))) (Ag Ii (pv 3) Ad) (λ_ _=>rfl)) (Aa (pv 4) (Aa (pv 6) Af))))))
   CT)
  (@Eo _ _ _ _ _ (lF (i:=5) rfl u rfl rfl (Bw.of (Nc:=["_law_c","_law_b"]) (mp:=[none,some 6]) (by kernel_rfl)) (Je (pv 5)) (λ_ _ _ _=>(CN (i:=0) (show (["_law_c","_law_b"]:W0).Nodup by decide +kernel) rfl (Or.inl rfl))) (λ_ _ _ _=>(Bx LC (pv 0) (pv 1) (Ae _))) (λ_ _ _ _=>(pv 0)) rfl)
  (@Av _ _ _ (Bb (@Dj _ _ _ _ _ (Aa Ej (Aa (pv 4) (Aa (pv 6) (Aa (Ai Dl (pv 5) (Ag Ec (Ag Jd (pv 2) Ad) (DP Jw rfl B.len JR (Aa (pv 5) Af))) (λ_ _=>rfl)) Af))))))))))))))))),?_⟩
 try dsimp only[Bu]
 refine⟨λσ H'=>H'=H/\∃n:Nat,σ=[some (.int q),some (.int c),some (.int n),none,none,none,none],?_,?_⟩
 ·refine⟨_,O,_,_,O,O,.inr ⟨by decide,by decide⟩,_,_,O,O,nF,O,?_⟩;have h0:=J6 (q*48271) (Og nF);refine⟨(q*48271%2147483647).toNat,?_⟩;rw[VR h0];rfl
 rintro σ1 H1 ⟨rfl,n,rfl⟩;refine⟨λσ H'=>H'=H1/\∃t:Nat,t<7/\σ=[some (.int q),some (.int c),some (.int n),some (.int t),none,none,none],?_,?_⟩
 ·refine⟨_,O,_,_,O,O,pQ,O,n%7,Yg _ (by decide),?_⟩;rfl
 rintro σ2 H2 ⟨rfl,t,t7,rfl⟩;refine⟨λσ H'=>H'=H2/\∃t:Nat,t<7/\(c=1->t<3)/\(c=2->t≠6)/\σ=[some (.int q),some (.int c),some (.int n),some (.int t),none,none,none],?_,?_⟩
 ·have mod:∃t':Nat,t'<7/\(c=1->t'<3)/\(c=2->t'≠6)/\[some (V.int q),some (V.int c),some (V.int n),some (V.int ((t:Int)%3)),none,none,none]=[some (V.int q),some (V.int c),some (V.int n),some (V.int t'),none,none,none]:=⟨t%3,by lia,by lia,by lia,O⟩;refine⟨_,O,O,_,O,JZ (λ_=>?_) (λW=>?_)⟩
  ·exact⟨_,O,_,_,O,O,Yc,O,mod⟩
  ·refine⟨_,O,O,_,O,JZ (λ_=>⟨_,O,O,_,O,JZ (λ_=>⟨_,O,_,_,O,O,Yc,O,mod⟩) (λh6=>⟨O,t,t7,λz=>absurd (by rw[z];rfl) W,λ_ z=>h6 (by rw[z];rfl),O⟩)⟩) (λa2=>⟨O,t,t7,λz=>absurd (by rw[z];rfl) W,λz=>absurd (by rw[z];rfl) a2,O⟩)⟩
 rintro σ3 H3 ⟨rfl,t,t7,t1,a6,rfl⟩;refine⟨λσ H'=>H'=H3/\∃a:Nat,a<c/\σ=[some (.int q),some (.int c),some (.int n),some (.int t),some (.int a),none,none],?_,?_⟩
 ·refine⟨_,O,_,_,O,O,⟨by decide,by decide⟩,_,O,_,_,O,O,cpos,O,n / 7%c,Yg _ (by lia),?_⟩;rfl
 rintro σ4 H4 ⟨rfl,a,x,rfl⟩;refine⟨_,O,O,_,O,JZ (λ_=>?_) (λn2=>?_)⟩
 ·refine⟨_,O,_,O,_,_,O,O,⟨by decide,by decide⟩,_,_,O,O,pQ,_,_,O,O,t3,λr m=>?_⟩;refine A r _ "turn" [(a:Int),((1+n / 49%7:Nat):Int)] (BW m _) ?_ (.inr ⟨.turn a (1+n / 49%7),⟨x,by lia,by lia⟩,O,O⟩);rw[Az];rfl
 refine⟨_,O,_,_,O,O,_,O,Ay (λl2=>?_) (λl2=>?_)⟩
 ·refine⟨t2,λC y=>?_⟩;have I:=BW y (.lst [.str "flip",.str "mix"]);have tt:t=0\/t=1:=by lia
  rcases tt with rfl | rfl
  ·refine⟨_,O,C,_,_,.str "flip",O,O,Ax.of Az,O,_,O,t2,λr m=>?_⟩;exact A r _ "flip" [(a:Int)] (I.trans (BW m _)) Az (.inr ⟨.flip a,x,O,O⟩)
  ·refine⟨_,O,C,_,_,.str "mix",O,O,Ax.of Az,O,_,O,t2,λr m=>?_⟩;exact A r _ "mix" [(a:Int)] (I.trans (BW m _)) Az (.inl ⟨O,a,x,O⟩)
 have a4:3<=t:=by lia
 have c2:2<=c:=by lia
 refine⟨λσ H'=>Same H4 H'/\∃(l:Y1) (R:U6),H' l=some (.lst (R.map V.int))/\Rest c [a] R/\σ=[some (.int q),some (.int c),some (.int n),some (.int t),some (.int a),some (.ref l),none],?_,?_⟩
 ·refine⟨_,O,_,O,by lia,by lia,λacc g=>?_⟩;rw[L_];refine Y7d (n:=c) (fr:=[some (.int a)]) (λi ys H'=>Same H4 H'/\H' acc=some (.lst ys)/\∃R:List Int,ys=R.map V.int/\Rest i [a] R/\R.length<=i) (JK (by lia)) ⟨BW g _,Az,[],O,⟨λe p=>(nomatch p),λj hj=>absurd hj (Ly _),by decide⟩,Bc _⟩ ?_ (λhm z=>?_) ?_
  ·rintro i ys H5 N hi hl ⟨s,a5,R,rfl,RR,lR⟩ S;have z0:(0:Int)+(i:Int)=(i:Int):=RP _;refine⟨_,O,_,O,O,_,O,S _ _ (λZ=>?_) (λZ=>?_)⟩
   ·have ne:i≠a:=λz=>by
     subst z;rw[z0,Cj rfl]at Z;cases Z
    refine⟨_,O,a5,Gn s g,Az,R++[(i:Int)],by rw[Dt,z0];rfl,⟨λe p=>?_,λj hj hn=>?_,by rw[Gh];simp;lia⟩,by rw[Gh];simp;omega⟩
    ·rcases Gw.mp p with h | h
     ·obtain⟨j,e1,e2,e3⟩:=RR.only e h;exact⟨j,e1,by lia,e3⟩
     ·exact⟨i,GK.mp h,by lia,by simp;exact ne⟩
    ·by_cases e:j=i
     ·rw[e];exact Ho _ (GK.mpr rfl)
     ·exact Oo _ (RR.all j (by lia) hn)
   ·have eq:i=a:=by
     rw[z0]at Z;have:((i:Int))=(a:Int):=by
      have h2:decide (V.int (i:Int)=V.int (a:Int))=true:=by simpa using Z
      exact V.int.inj (M6 h2)
     lia
    exact⟨s,a5,R,O,⟨λe p=>by obtain⟨j,e1,e2,e3⟩:=RR.only e p;exact⟨j,e1,by lia,e3⟩,λj hj hn=>RR.all j (by have:j≠i:=(λz=>hn (by simp;lia));lia) hn,RR.len⟩,by lia⟩
  ·obtain⟨v,e,z⟩:=z;exact⟨v,e,hm _ _ z⟩
  ·rintro ys H5 ⟨s,a5,R,rfl,RR,lR⟩;exact⟨s,acc,R,a5,RR,O⟩
 rintro σ5 H5 ⟨s,l,R,hl,RR,rfl⟩;have a3:=RR.pos1 c2;have SL:Ax K H5 l (R.map V.int):=Ax.of hl;have o:(R.map V.int).length=R.length:=Bj _;refine⟨λσ H'=>H'=H5/\∃b:Nat,b<c/\b≠a/\σ=[some (.int q),some (.int c),some (.int n),some (.int t),some (.int a),some (.ref l),some (.int b)],?_,?_⟩
 ·obtain⟨e,p,ae⟩:=pick (L:=R) (i:=((n:Int) / 49)%((R.map V.int).length:Int)) (J6 _ (by rw[o];lia)) (by rw[o];exact M9 _ (by lia));obtain⟨b,rfl,D,J⟩:=RR.only e p;refine⟨_,O,_,O,_,_,O,O,⟨by decide,by decide⟩,_,O,l,_,O,.inl SL,_,_,O,O,(by rw[o];lia),l,_,_,_,O,O,SL,ae,O,b,D,by simpa using J,O⟩
 rintro σ6 H6 ⟨rfl,b,D,J,rfl⟩;refine⟨_,O,_,_,O,O,_,O,Ay (λl6=>?_) (λl6=>?_)⟩
 ·refine⟨t3,λC y=>?_⟩;have I:=BW y (.lst [.str "if",.str "pair",.str "swap"]);have tt:t=3\/t=4\/t=5:=by lia
  rcases tt with rfl | rfl | rfl
  ·refine⟨_,O,_,_,O,O,C,_,_,.str "if",O,O,Ax.of Az,O,_,O,_,O,t3,λr m=>?_⟩;exact A r _ "if" [(a:Int),(b:Int)] ((s.trans I).trans (BW m _)) Az (.inr ⟨.iff a b,⟨x,D,Ne.symm J⟩,O,O⟩)
  ·refine⟨_,O,_,_,O,O,C,_,_,.str "pair",O,O,Ax.of Az,O,_,O,_,O,t3,λr m=>?_⟩;exact A r _ "pair" [(a:Int),(b:Int)] ((s.trans I).trans (BW m _)) Az (.inr ⟨.pair a b,⟨x,D,Ne.symm J⟩,O,O⟩)
  ·refine⟨_,O,_,_,O,O,C,_,_,.str "swap",O,O,Ax.of Az,O,_,O,_,O,t3,λr m=>?_⟩;exact A r _ "swap" [(a:Int),(b:Int)] ((s.trans I).trans (BW m _)) Az (.inr ⟨.swap a b,⟨x,D,Ne.symm J⟩,O,O⟩)
 have c3:3<=c:=by lia
 refine⟨λσ H'=>Same H6 H'/\∃(l:Y1) (R:U6),H' l=some (.lst (R.map V.int))/\Rest c [a,b] R/\σ=[some (.int q),some (.int c),some (.int n),some (.int t),some (.int a),some (.ref l),some (.int b)],?_,?_⟩
 ·refine⟨_,O,l,O,⟨_,SL⟩,λacc g=>?_⟩;have lr:=RR.len;refine X0r (K:=K) (l:=l) (ns:=R) (fr:=[some (.int b)]) (λe=>!decide (V.int e=V.int b)) id (JK (by lia)) g SL (λe H7 N p M S=>⟨_,O,_,O,O,_,O,S⟩) (λe H7 N p hp M S=>⟨_,O,S⟩) (λH7 M a7=>?_);exact⟨M,acc,_,a7,RR.filter λ_=>rfl,O⟩
 rintro σ7 H7 ⟨M,l2,R2,a0,U,rfl⟩;have a1:=U.pos2 c3;have Y:Ax K H7 l2 (R2.map V.int):=Ax.of a0;have f:(R2.map V.int).length=R2.length:=Bj _;obtain⟨e,p,ae⟩:=pick (L:=R2) (i:=((n:Int) / 343)%((R2.map V.int).length:Int)) (J6 _ (by rw[f];lia)) (by rw[f];exact M9 _ (by lia));obtain⟨d,rfl,dc,dn⟩:=U.only e p;have T:d≠a/\d≠b:=by simpa using dn
 refine⟨_,O,_,O,_,O,_,O,_,_,O,O,⟨by decide,by decide⟩,_,O,l2,_,O,.inl Y,_,_,O,O,(by rw[f];lia),l2,_,_,_,O,O,Y,ae,t4,λr m=>?_⟩;exact A r _ "cross" [(a:Int),(b:Int),(d:Int)] ((s.trans M).trans (BW m _)) Az (.inr ⟨.cross a b d,⟨x,D,dc,Ne.symm J,Ne.symm T.1,Ne.symm T.2⟩,O,O⟩)
def Yv (K:U0):Sp:=λvs H Q _=>∃(p:Y1) (x:A5) (k:Int),vs=[.ref p,.int k]/\Bh K H p x/\∀(r:Y1) (H':Hp),Same H H'->H' r=some (tA (Dw x k))->Q (.ref r) H'
theorem _8(F:Ab K "_law_spin" (top 77) .none)(X:K.In h)(G:Ng h mg)(B:Bs mg):Ar P w K mg base (k+1) "_law_spin" ["_law_one","_law_k"] (Yv K):=by
 refine F.cal X G ["_law_one","_law_k","_law_a","_law_b","_law_c","_law_d","_law_h","_law_j"] (bi:=Qk λ_ _ _ _ _ _ _ _=>rfl) (len:=λ_ _ _ _ h=>by obtain⟨_,_,_,rfl,_⟩:=h;rfl) λa H vs Q E d h=>?_;obtain⟨p,x,k,rfl,hp,q⟩:=h
 refine⟨_,(@Aw _ _ _ _ _ (XR (pv 0) (Ka rfl (Dz (CN (i:=2) a rfl (Or.inl rfl)) (Dz (CN (i:=3) a rfl (Or.inl rfl)) (Dz (CN (i:=4) a rfl (Or.inl rfl)) (Dz (CN (i:=5) a rfl (Or.inl rfl)) (Dz (CN (i:=6) a rfl (Or.inl rfl)) Kc)))))))
  (@Aw _ _ _ _ _ (JC PassesOwn.never rfl (Mp rfl B.range (Aa (Ag Ec (pv 1) Ad) Af)) (CN (i:=7) a rfl (Or.inl rfl))
   (@Av _ _ _ (XR (@Dj _ _ _ _ _ (Aa (Ni Qu (pv 5)) (Aa (pv 2) (Aa (pv 3) (Aa (pv 4) Af))))) (Ka rfl (Dz (CN (i:=2) a rfl (Or.inl rfl)) (Dz (CN (i:=3) a rfl (Or.inl rfl)) (Dz (CN (i:=4) a rfl (Or.inl rfl)) (Dz (CN (i:=5) a rfl (Or.inl rfl)) Kc))))))))
  (@Av _ _ _ (Bb (@Dj _ _ _ _ _ (Aa (pv 2) (Aa (pv 3) (Aa (pv 4) (Aa (pv 5) (Aa (pv 6) Af)))))))))),?_⟩
 try dsimp only[Bu]
 refine⟨_,O,p,_,O,hp,O,_,_,O,_,_,O,_,_,O,_,_,O,_,_,O,O,?_⟩;refine⟨_,O,_,_,O,O,pP,_,O,by lia,by lia,ZD (n:=(k%8).toNat) (λi σ H'=>Same H H'/\∃b,σ=[some (.ref p),some (.int k),some (.int (Bm i x.1).1),some (.int (Bm i x.1).2.1),some (.int (Bm i x.1).2.2.1),some (.int (Bm i x.1).2.2.2),some (.int x.2),b]) ⟨Same.refl _,_,O⟩ ?_ ?_⟩
 ·rintro i σ H' hi ⟨c,b,rfl⟩;refine⟨_,O,_,O,_,O,_,O,_,O,t4,λt e=>⟨t,_,O,Ao.of Az,O,_,_,O,_,_,O,_,_,O,_,_,O,O,c.trans (BW e _),_,O⟩⟩
 ·rintro σ H' ⟨c,b,rfl⟩;exact⟨_,O,_,O,_,O,_,O,_,O,t5,λr d=>q r _ (c.trans (BW d _)) Az⟩
end
end Al
namespace Al.V
open L2 Am Pc Ba
section
variable {P:U8}{w:W3}{K:U0}{mg:U4}{base:Heap}{k:Nat}{h:Heap}
theorem K5(F:Ab K "_law_cells_by" (top 75) .none)(X:K.In h)(G:Ng h mg):Ar P w K mg base (k+1) "_law_cells_by" ["_law_cell"] tE:=by
 refine F.cal X G ["_law_cell"] (bi:=Ql λ_ _ _ _ _ _ _=>rfl) (len:=λ_ _ _ _ h=>by obtain⟨_,rfl,_⟩:=h;rfl) λa H vs Q E b h=>?_;obtain⟨c,rfl,q⟩:=h
 refine⟨_,(@Aw _ _ _ _ _ (CQ (Bx Cz (Ag Ec (Ag Jd (pv 0) Ad) Ad) Ad (Ae _))
   (@Av _ _ _ (Bb (Ag DX Ad (Ag Ec (Ag Jd (pv 0) Ad) Ad))))
   CT)
  (@Av _ _ _ (Bb (Ag DX Ad (Ag Ec (pv 0) Ad))))),?_⟩
 try dsimp only[Bu]
 refine⟨_,O,_,_,O,O,⟨by decide,by decide⟩,_,_,O,O,pP,O,_,O,JZ (λ_=>?_) (λ_=>?_)⟩
 ·refine⟨_,O,_,_,O,O,⟨by decide,by decide⟩,_,_,O,O,Yc,_,_,O,O,?_⟩;have:=q (4+c / 24%3).toNat (by lia) (by lia);rw[show (((4+c / 24%3).toNat:Nat):Int)=4+c / 24%3 by lia]at this;exact this
 ·refine⟨_,O,_,_,O,O,Yc,_,_,O,O,?_⟩;have:=q (1+c%3).toNat (by lia) (by lia);rw[show (((1+c%3).toNat:Nat):Int)=1+c%3 by lia]at this;exact this
theorem Jq(F:Ab K "_law_mark_by" (top 78) .none)(X:K.In h)(G:Ng h mg):Ar P w K mg base (k+1) "_law_mark_by" ["_law_cell","_law_cells"] uX:=by
 refine F.cal X G ["_law_cell","_law_cells","_law_mixed_up","_law_size"] (bi:=Qk λ_ _ _ _ _ _ _ _=>rfl) (len:=λ_ _ _ _ h=>by obtain⟨_,_,rfl,_⟩:=h;rfl) λe H vs Q E d h=>?_;obtain⟨c,n,rfl,f,g⟩:=h
 refine⟨_,(@Aw _ _ _ _ _ (@BR _ _ 2 _ _ _ _ e rfl (Or.inl rfl) (Ag Ec (Ag JB (pv 0) Ad) Ad) rfl (.inl rfl))
  (@Aw _ _ _ _ _ (@BR _ _ 3 _ _ _ _ e rfl (Or.inl rfl) (Ag Hy Ad (pv 1)) rfl (.inl rfl))
  (@Av _ _ _ (Bb (@Dj _ _ _ _ _ (Aa (Ag Ec (pv 2) Ad) (Aa (Ag Ec (Ag Jd (pv 2) Ad) (pv 3)) (Aa (Ag Ec (Ag Y6 (Ag Jd (pv 2) Ad) (pv 3)) (pv 3)) Af)))))))),?_⟩
 try dsimp only[Bu]
 have p:=Hq f;have o:0<2^n:=Lz n;have b:(1:Int)*2^((n:Int).toNat)=((2^n:Nat):Int):=ipow n;have a:(0:Int)<1*2^((n:Int).toNat):=by rw[b];lia
 refine⟨_,O,_,_,O,O,.inr ⟨by decide,by decide⟩,_,_,O,O,nF,?_⟩;refine⟨_,O,_,_,O,O,⟨1,by decide +kernel,by lia,by lia⟩,?_⟩;refine⟨_,O,_,_,O,O,yX,_,O,_,_,O,O,⟨by decide,by decide⟩,_,O,_,_,O,O,a,?_⟩;refine⟨_,O,_,_,O,O,⟨by decide,by decide⟩,_,O,_,_,O,O,⟨Og a,?_⟩,_,O,_,_,O,O,a,(by show 3<=sizeLine;decide),λr d=>?_⟩
 ·rw[b];exact(show Sz 7 ((2^n:Nat):Int) by unfold Sz;rw[QT];lia).mono (by decide)
 generalize hm:c*48271%2147483647=m;have l:0<=m:=by lia
 have i:0<=m / 4:=by lia
 have e1:(m%4).toNat<4:=by lia
 have l1:0<=m / 4%((2^n:Nat):Int)/\m / 4%((2^n:Nat):Int)<((2^n:Nat):Int):=⟨J6 _ (by lia),M9 _ (by lia)⟩;have l2:0<=(m / 4).fdiv ((2^n:Nat):Int)%((2^n:Nat):Int)/\(m / 4).fdiv ((2^n:Nat):Int)%((2^n:Nat):Int)<((2^n:Nat):Int):=⟨J6 _ (by lia),M9 _ (by lia)⟩;refine g r _ (m%4).toNat (m / 4%((2^n:Nat):Int)).toNat ((m / 4).fdiv ((2^n:Nat):Int)%((2^n:Nat):Int)).toNat (BW d _) ?_ e1 (by lia) (by lia);rw[Az];have t:∀z:Int,0<=z->((z.toNat:Nat):Int)=z:=λz j=>by lia
 show some (HO.tup [.int (m%4),.int (m / 4%(1*2^((n:Int).toNat))),.int ((m / 4).fdiv (1*2^((n:Int).toNat))%(1*2^((n:Int).toNat)))])=some (HO.tup [.int _,.int _,.int _]);rw[b,t _ (by lia),t _ l1.1,t _ l2.1]
theorem NQ(F:Ab K "_law_bits" (top 79) .none)(X:K.In h)(G:Ng h mg):Ar P w K mg base (k+1) "_law_bits" ["_law_number"] E_:=by
 refine F.cal X G ["_law_number","_law_many"] (bi:=Ql λ_ _ _ _ _ _ _=>rfl) (len:=λ_ _ _ _ h=>by obtain⟨_,rfl,_⟩:=h;rfl) λa H vs Q E f h=>?_;obtain⟨n,rfl,q⟩:=h
 refine⟨_,(@Aw _ _ _ _ _ (@BR _ _ 1 _ _ _ _ a rfl (Or.inl rfl) Ad rfl (.inl rfl))
  (@Aw _ _ _ _ _ (Wn PassesOwn.never (Bx MK (pv 0) Ad (Ae _))
   (@Aw _ _ _ _ _ (@BR _ _ 1 _ _ _ _ a rfl (Or.inl rfl) (Ag DX (pv 1) (Ag Ec (pv 0) Ad)) rfl (.inl rfl))
   (@Av _ _ _ (@BR _ _ 0 _ _ _ _ a rfl (Or.inl rfl) (Ag Jd (pv 0) Ad) rfl (.inl rfl)))))
  (@Av _ _ _ (Bb (pv 1))))),?_⟩
 try dsimp only[Bu]
 refine⟨λm σ H'=>H'=H/\∃j:Nat,j+pc m=pc n/\σ=[some (.int m),some (.int j)],⟨n,O,0,Gv _,O⟩,?_⟩;rintro m σ H' ⟨rfl,j,c,rfl⟩;refine⟨_,O,_,_,O,O,_,O,Ay (λb=>?_) (λb=>?_)⟩
 ·have g:0<m:=by lia
  have e:=SQ m;refine⟨_,λi H' x=>x,?_⟩;refine⟨_,O,_,O,_,_,O,O,pR,_,_,O,O,?_⟩;refine⟨_,O,_,_,O,O,⟨by decide,by decide⟩,⟨m / 2,by lia,O,j+m%2,by lia,O⟩⟩
 ·have d:m=0:=by lia
  subst d;rw[Wa,P_]at c;subst c;exact⟨_,O,q⟩
end
end Al.V
namespace Al
open L2 Am Pc Ba
def mj (K:U0):Sp:=λvs H Q _=>∃(p q:Y1) (x y:A5) (s:Int) (n m:Nat),vs=[.ref p,.ref q,.int s]/\(s=1\/s=-1)/\Bh K H p x/\Bh K H q y/\Cr n m x/\Cr n m y/\n<=300000/\m<=10000 /\
 ∀(r:Y1) (H':Hp) (z:A5),Same H H'->H' r=some (tA z)->Sum x.1.1 x.1.2.1 x.1.2.2.1 x.1.2.2.2 x.2 (s*y.1.1) (s*y.1.2.1) (s*y.1.2.2.1) (s*y.1.2.2.2) y.2 z.1.1 z.1.2.1 z.1.2.2.1 z.1.2.2.2 z.2 ->
  H_ (n+x.2.toNat+y.2.toNat+2) z.1.1 z.1.2.1 z.1.2.2.1 z.1.2.2.2->Q (.ref r) H'
section
variable {P:U8}{w:W3}{K:U0}{mg:U4}{base:Heap}{k:Nat}{h:Heap}
theorem X0c(F:Ab K "_law_plus" (top 80) .none)(X:K.In h)(G:Ng h mg)(B:Bs mg)(dU:Ar P w K mg base k "_law_low" ["_law_parts","_law_h"] OD):Ar P w K mg base (k+1) "_law_plus" ["_law_one","_law_other","_law_sign"] (mj K):=by
 refine F.cal X G ["_law_one","_law_other","_law_sign","_law_most","_law_here","_law_there"] (bi:=Qj λ_ _ _ _ _ _ _ _ _=>rfl) (len:=λ_ _ _ _ h=>by obtain⟨_,_,_,_,_,_,_,rfl,_⟩:=h;rfl) λD H vs Q E hr h=>?_;obtain⟨p,q,x,y,sg,n,m,rfl,hs,hp,hq,ox,f,n3,m1,kq⟩:=h;obtain⟨⟨a,b,c,d⟩,h⟩:=x;obtain⟨⟨o,t,s,d'⟩,h'⟩:=y;have W:0<=h:=ox.amt.nn;have J:0<=h':=f.amt.nn;have a0:h<=m:=ox.le;have a1:h'<=m:=f.le;have L:Ao K H p [.int a,.int b,.int c,.int d,.int h]:=hp;have Y:Ao K H q [.int o,.int t,.int s,.int d',.int h']:=hq
 refine⟨_,(@Aw _ _ _ _ _ (@BR _ _ 3 _ _ _ _ D rfl (Or.inl rfl) (DP (uy rfl) rfl B.max boot_max (Aa (Ai Aq (pv 0) Ad (λ_ _=>rfl)) (Aa (Ai Aq (pv 1) Ad (λ_ _=>rfl)) Af))) rfl (.inl rfl))
  (@Aw _ _ _ _ _ (@BR _ _ 4 _ _ _ _ D rfl (Or.inr rfl) (Ag Hy Ad (Ag Ii (pv 3) (Ai Aq (pv 0) Ad (λ_ _=>rfl)))) rfl (.inl rfl))
  (@Aw _ _ _ _ _ (@BR _ _ 5 _ _ _ _ D rfl (Or.inr rfl) (Ag Ey (pv 2) (Ag Hy Ad (Ag Ii (pv 3) (Ai Aq (pv 1) Ad (λ_ _=>rfl))))) rfl (.inl rfl))
  (@Av _ _ _ (Bb (BP dU hr rfl (Aa (KY rfl (Bw.of (Nc:=["_law_k","_law_one","_law_other","_law_here","_law_there"]) (mp:=[none,some 0,some 1,some 4,some 5]) (by kernel_rfl)) (Mp rfl B.range (Aa Ad Af)) (λ_ _ _ _=>(CN (i:=0) (show (["_law_k","_law_one","_law_other","_law_here","_law_there"]:W0).Nodup by decide +kernel) rfl (Or.inl rfl))) (λ_ _ _ _=>(Ag DX (Ag Ey (Ai mK (pv 1) (pv 0) (λ_ _=>rfl)) (pv 3)) (Ag Ey (Ai mK (pv 2) (pv 0) (λ_ _=>rfl)) (pv 4))))) (Aa (pv 3) Af)))))))),?_⟩
 try dsimp only[Bu]
 refine⟨_,O,p,_,_,_,O,O,L,O,_,O,q,_,_,_,O,O,Y,O,_,_,O,?_⟩;generalize hm:(if h'>h then h' else h)=M;have e1:h<=M:=by rw[<-hm];split<;>lia
 have e2:h'<=M:=by rw[<-hm];split<;>lia
 have T:M-h<=h'/\M-h'<=h/\M<=max h h':=by rw[<-hm];split<;>lia
 refine⟨_,O,_,O,p,_,_,_,O,O,L,O,_,_,O,O,_,_,O,O,⟨1,Ie,by lia,by lia⟩,?_⟩;have zs:Sz 2 sg:=by rcases hs with rfl | rfl<;>decide +kernel
 have I:∀j:Nat,Sz (j+1) (1*2^j):=λj=>by rw[Jk];exact PL j
 refine⟨_,O,_,O,_,O,q,_,_,_,O,O,Y,O,_,_,O,O,_,_,O,O,⟨1,Ie,by lia,by lia⟩,_,_,O,O,?_,?_⟩
 ·exact⟨2,_,zs,I _,by lia⟩
 have zh:=I (M-h).toNat;have zt:Sz (2+((M-h').toNat+1)) (sg*(1*2^(M-h').toNat)):=zs.mul (I (M-h').toNat);have eh:(1:Int)*2^(M-h).toNat=2^(M-h).toNat:=Jk _;have et:sg*((1:Int)*2^(M-h').toNat)=sg*2^(M-h').toNat:=by rw[Jk]
 refine⟨_,O,by decide,by decide,λacc g=>?_⟩;refine Wj (lo:=0) (n:=4) (fr:=[some (.ref p),some (.ref q),some (.int ((1:Int)*2^(M-h).toNat)),some (.int (sg*((1:Int)*2^(M-h').toNat)))]) (λi ys H'=>Same H H'/\H' acc=some (.lst ys)/\ys=((List.range i).map λj=>[a,b,c,d].getD j 0*((1:Int)*2^(M-h).toNat)+[o,t,s,d'].getD j 0*(sg*((1:Int)*2^(M-h').toNat))).map V.int) t4 ⟨BW g _,Az,O⟩ ?_ ?_
 ·rintro i ys H2 N hi hy ⟨l,R,rfl⟩ kN;have g1:GC [V.int a,.int b,.int c,.int d,.int h] (0+(i:Int))=some (.int ([a,b,c,d].getD i 0))/\GC [V.int o,.int t,.int s,.int d',.int h'] (0+(i:Int))=some (.int ([o,t,s,d'].getD i 0))/\Sz n ([a,b,c,d].getD i 0)/\Sz n ([o,t,s,d'].getD i 0):=by
   have:i=0\/i=1\/i=2\/i=3:=by lia
   rcases this with rfl | rfl | rfl | rfl
   ·exact⟨O,O,ox.sz.z1,f.sz.z1⟩
   ·exact⟨O,O,ox.sz.z2,f.sz.z2⟩
   ·exact⟨O,O,ox.sz.z3,f.sz.z3⟩
   ·exact⟨O,O,ox.sz.z4,f.sz.z4⟩
  obtain⟨ga,gb,za,zb⟩:=g1;refine⟨_,O,_,O,p,_,_,_,O,O,l.tup L,ga,_,O,_,_,O,O,⟨_,_,za,zh,by lia⟩,_,O,_,O,q,_,_,_,O,O,l.tup Y,gb,_,O,_,_,O,O,⟨_,_,zb,zt,by lia⟩,_,_,O,O,?_⟩;refine kN _ _ R ⟨Gn l g,Az,?_⟩;rw[aR,Dt,Dt];rfl
 ·rintro ys H2 hy ⟨l,R,rfl⟩;refine⟨_,O,acc,_,_,_,_,_,O,R,by lia,λr H3 x' y' Z e v' s3 U v=>?_⟩;have key:∀{u e:Int},u*((1:Int)*2^(M-h).toNat)+e*(sg*((1:Int)*2^(M-h').toNat))=u*2^(M-h).toNat+(sg*e)*2^(M-h').toNat:=λ{u e}=>by rw[eh,et,Uz sg e,QF]
  have A:∀{u e:Int},FZ (u*p2 h'+(sg*e)*p2 h) (h+h') (u*((1:Int)*2^(M-h).toNat)+e*(sg*((1:Int)*2^(M-h').toNat))) M:=λ{u e}=>by rw[key];exact WR W J e1 e2
  have S:∀{e:Int},Sz n e->Sz n (sg*e):=λ{e} z=>by
   rcases hs with rfl | rfl
   ·rw[Jk];exact z
   ·rw[jX];exact z.neg
  have C:∀{u e:Int},Sz n u->Sz n e->Sz (n+h.toNat+h'.toNat+2) (u*((1:Int)*2^(M-h).toNat)+e*(sg*((1:Int)*2^(M-h').toNat))):=λ{u e} z Z=>by rw[key];exact WT ⟨T.1,T.2.1⟩ z (S Z) (Bc _)
  refine kq r H3 ((x',y',Z,e),v') (l.trans s3) U ⟨v.amt,Cu.trans ⟨A,A,A,A⟩ v.same,?_⟩ (v.sz ⟨C ox.sz.z1 f.sz.z1,C ox.sz.z2 f.sz.z2,C ox.sz.z3 f.sz.z3,C ox.sz.z4 f.sz.z4⟩);have:=v.le;exact J3 this T.2.2
end
end Al
set_option maxHeartbeats 1000000
namespace A_
open L2 Ba Am Pc Eu
open Al (top Bs Bh BX Ez Y8 Yv Mr)
open Ce (V4 sm add En fl sw DG)
open Dp (Mk)
theorem W1g{c:Nat}{nm':Str}{ns':U6}(h:(nm'="mix"/\∃a:Nat,a<c/\ns'=[(a:Int)])\/∃v:Al.Mv,v.Ok c/\nm'=v.nm/\ns'=v.ns):∃x:Mv,DG c x/\Mr nm' ns'=mT (mm x):=by
 have f:∀{a:Nat},a<c->(0:Int)<=(a:Int)/\(a:Int)<(c:Int):=λ{a} h=>⟨by lia,by lia⟩;rcases h with ⟨rfl,a,ha,rfl⟩ | ⟨v,ok,rfl,rfl⟩
 ·exact⟨.mix a,⟨(f ha).1,λy e=>by simp[Mv.cells]at e;lia⟩,O⟩
 ·cases v with
  | flip a=>have ok:a<c:=ok;exact⟨.flip a,⟨(f ok).1,λy e=>by simp[Mv.cells]at e;lia⟩,rfl⟩
  | turn a k=>have ok:a<c/\1<=k/\k<=7:=ok;exact⟨.turn a k,⟨⟨by lia,by lia,by lia⟩,λy e=>by simp[Mv.cells]at e;lia⟩,rfl⟩
  | iff a b=>have ok:a<c/\b<c/\a≠b:=ok;exact⟨.iff a b,⟨⟨by lia,by lia,by lia⟩,λy e=>by simp[Mv.cells]at e;lia⟩,rfl⟩
  | pair a b=>have ok:a<c/\b<c/\a≠b:=ok;exact⟨.pair a b,⟨⟨by lia,by lia,by lia⟩,λy e=>by simp[Mv.cells]at e;lia⟩,rfl⟩
  | swap a b=>have ok:a<c/\b<c/\a≠b:=ok;exact⟨.swap a b,⟨⟨by lia,by lia,by lia⟩,λy e=>by simp[Mv.cells]at e;lia⟩,rfl⟩
  | cross a b d=>have ok:a<c/\b<c/\d<c/\a≠b/\a≠d/\b≠d:=ok;exact⟨.cross a b d,⟨⟨by lia,by lia,by lia,by lia,by lia,by lia⟩,λy e=>by simp[Mv.cells]at e;lia⟩,rfl⟩
theorem X1f{x:Mv}(e:nm x="cross"):∃a b d,x=.cross a b d:=by
 have:=(X0u x).mp e;cases x<;>first | exact⟨_,_,_,O⟩ | simp[code]at this
def tL (K:U0):Sp:=λvs H Q _=>∃(a:Y1) (ns:U6) (c:Nat) (wl:Bool),vs=[.ref a,.int c,.bl wl]/\Ax K H a (ns.map V.int)/\ns.length<=200/\1<=c/\c<=6 /\
 ∀(l:Y1) (H':Hp) (row:List Mv),H l=none->Same H H'->Cv H' l row->row.length=ns.length->(∀x∈row,DG c x)->(wl=false->3<c->cO row<=2)->Q (.ref l) H'
def tK:Sp:=λvs H Q _=>∃(l:Y1) (row:List Mv),vs=[.ref l]/\Cv H l row/\row.length<=200/\Q (oV (G6 0 row)) H
theorem Y4v{K:U0}{H:Hp}{ps:U3}{f:Nat->A5}{p:Y1}{x:A5}{j:Nat}(v:BX K H ps f)(e:Bh K H p x):BX K H (ps.set j p) (λi=>if i=j then x else f i):=by
 intro i q a;by_cases hi:i=j
 ·subst hi;rw[List.getElem?_set_self']at a;show Bh K H q (if i=i then x else f i);rw[if_pos rfl];cases h:ps[i]? with
  | none=>rw[h]at a;cases a
  | some r=>rw[h]at a;cases a;exact e
 ·rw[YH (λz=>hi z.symm)]at a;show Bh K H q (if i=j then x else f i);rw[if_neg hi];exact v i q a
section
variable {P:U8}{w:W3}{K:U0}{mg:U4}{base:Heap}{k:Nat}{h:Heap}
theorem _6(F:Ab K "_law_row_by" (top 83) .none)(X:K.In h)(G:Ng h mg)(B:Bs mg)(d5:Ar P w K mg base k "_law_move_by" ["_law_cell","_law_cells"] Y8):Ar P w K mg base (k+1) "_law_row_by" ["_law_numbers","_law_cells","_law_wild"] (tL K):=by
 refine F.cal X G ["_law_numbers","_law_cells","_law_wild","_law_row","_law_odd","_law_most","_law_number","_law_move"] (bi:=Qj λ_ _ _ _ _ _ _ _ _=>rfl) (len:=λ_ _ _ _ h=>by obtain⟨_,_,_,_,rfl,_⟩:=h;rfl) λl H vs Q E hr h=>?_;obtain⟨a,nl,c,p,rfl,hS,a9,c1,c6,kq⟩:=h;have big:(1000:Nat)<sizeLine:=by decide
 refine⟨_,(@Aw _ _ _ _ _ (@BR _ _ 3 _ _ _ _ l rfl (Or.inl rfl) (@PB _ _ _ _ Af) rfl (.inl rfl))
  (@Aw _ _ _ _ _ (@BR _ _ 4 _ _ _ _ l rfl (Or.inl rfl) Ad rfl (.inl rfl))
  (@Aw _ _ _ _ _ (@BR _ _ 5 _ _ _ _ l rfl (Or.inl rfl) (Ai Dl (@PB _ _ _ _ (Aa Ad (Aa Ad Af))) (Qz kW rfl B.int Rx (Aa (GX MK (pv 1) Ad (Ae _)) Af)) (λ_ _=>rfl)) rfl (.inl rfl))
  (@Aw _ _ _ _ _ (JC PassesOwn.never rfl (Je (pv 0)) (CN (i:=6) l rfl (Or.inl rfl))
   (@Aw _ _ _ _ _ (@BR _ _ 7 _ _ _ _ l rfl (Or.inl rfl) (BP d5 hr rfl (Aa (pv 6) (Aa (pv 1) Af))) rfl (.inl rfl))
   (@Eo _ _ _ _ _ (CQ (PW.pt (Ma (Bx Cz (Ai Aq (pv 7) Ad (λ_ _=>rfl)) Ej (Ae _)) (Nt (Ij (Fp (pv 2))))))
    (@Av _ _ _ (@BR _ _ 7 _ _ _ _ l rfl (Or.inl rfl) (@Dj _ _ _ _ _ (Aa Ej (Aa (Ai Aq (pv 7) Ad (λ_ _=>rfl)) (Aa (Ai Aq (pv 7) Ad (λ_ _=>rfl)) Af)))) rfl (.inl rfl)))
    CT)
   (@Eo _ _ _ _ _ (CQ (PW.pt (Ma (Bx Cz (Ai Aq (pv 7) Ad (λ_ _=>rfl)) Ej (Ae _)) (Nt (Bx Cz (Ag Ec (Ai Aq (pv 7) Ad (λ_ _=>rfl)) Ad) Ad (Ae _)))))
    (@Aw _ _ _ _ _ (@BR _ _ 4 _ _ _ _ l rfl (Or.inl rfl) (Ag DX (pv 4) Ad) rfl (.inl rfl))
    (@Av _ _ _ (CQ (PW.pt (Ma (Bx MK (pv 4) (pv 5) (Ae _)) (Nt (Ij (Fp (pv 2))))))
     (@Av _ _ _ (@BR _ _ 7 _ _ _ _ l rfl (Or.inl rfl) (@Dj _ _ _ _ _ (Aa Ej (Aa (Ai Aq (pv 7) Ad (λ_ _=>rfl)) (Aa Ad Af)))) rfl (.inl rfl)))
     CT)))
    CT)
   (@Av _ _ _ (Nr (ZM YS YW YX Sy (pv 3) (Aa (pv 7) Af))))))))
  (@Av _ _ _ (Bb (pv 3))))))),?_⟩
 try dsimp only[Bu]
 refine⟨Ef _,λf t=>?_⟩;have s0:=BW t (.lst []);have q0:upd H f (.lst []) f=some (.lst []):=Az;generalize upd H f (.lst [])=H0 at s0 q0 ⊢;refine⟨t2,λL a4=>?_⟩;have s4:=BW a4 (.lst [.int 6,.int 2]);have q4:upd H0 L (.lst [.int 6,.int 2]) L=some (.lst [.int 6,.int 2]):=Az;have C:=s4 _ _ q0;generalize upd H0 L (.lst [.int 6,.int 2])=H4 at s4 q4 C ⊢;obtain⟨d,hm,e⟩:∃d:Nat,(3<c->d=2)/\GC [V.int 6,V.int 2] (if decide ((c:Int)>3) then 1 else 0)=some (.int d):=by
  by_cases c3:(c:Int)>3
  ·exact⟨2,λ_=>rfl,by rw[Cj c3];rfl⟩
  ·exact⟨6,λz=>absurd z (by lia),by rw[Cd c3];rfl⟩
 refine⟨_,O,_,_,O,O,.inr ⟨_,O,L,_,_,.int d,O,O,Ax.of q4,e,?_⟩⟩;have S4:=s0.trans s4
 refine⟨_,O,a,O,⟨_,S4.seq hS⟩,Ss (K:=K) (a:=a) (xs:=nl.map V.int) (λj σ H'=>Same H H'/\∃(u:U3) (row:List Mv) (o:Nat) (U Y:Option V),H' f=some (.lst (u.map V.ref))/\DQ H' u (row.map mm)/\(∀x∈row,DG c x)/\row.length=j/\cO row<=o/\(p=false->cO row<=d)/\σ=[some (.ref a),some (.int c),some (.bl p),some (.ref f),some (.int o),some (.int d),U,Y])
  ⟨S4,[],[],0,none,none,C,.nil,(λx T=>nomatch T),O,Bc _,λ_=>Ef _,O⟩ (λj σ H' _ e=>e.1.seq hS) ?_ ?_⟩
 ·rintro j x σ H1 T ⟨Z,u,row,o,U,Y,a1,M,O1,l1,co,S,rfl⟩;rw[FN]at T;obtain⟨n,hn,rfl⟩:=G3.mp T;have jl:j<nl.length:=(G4.mp hn).1;refine⟨_,O,_,O,n,c,O,c1,c6,λr H2 b1 a7 S2 e2 h2=>?_⟩;obtain⟨x,R,ex⟩:=W1g h2;rw[ex]at e2;clear h2 ex;refine⟨λσ H'=>Same H2 H'/\∃(r:Y1) (x:Mv),H' r=some (mT (mm x))/\DG c x/\σ=[some (.ref a),some (.int c),some (.bl p),some (.ref f),some (.int o),some (.int d),some (.int n),some (.ref r)],?_,?_⟩
  ·have SP:Ao K H2 r (.str (nm x)::(ns x).map V.int):=Ao.of e2;refine⟨_,O,r,_,_,.str (nm x),O,O,SP,Hu x,O,_,O,Ay (λv=>?_) (λ_=>⟨Same.refl _,r,x,e2,R,O⟩)⟩;refine⟨_,O,_,O,Iv (λ_=>?_) (λ_=>⟨Same.refl _,r,x,e2,R,O⟩)⟩;obtain⟨b,J,d',rfl⟩:=X1f (V.str.inj v);refine⟨_,O,r,_,_,.int b,O,O,SP,L2.Mf (j:=1) rfl,_,O,r,_,_,.int J,O,O,SP,L2.Mf (j:=2) rfl,t3,λr2 a6=>⟨BW a6 _,r2,.swap b J,Az,?_,O⟩⟩;obtain⟨ok,cl⟩:=R;have ok:0<=b/\0<=J/\0<=d'/\b≠J/\b≠d'/\J≠d':=ok;exact⟨⟨ok.1,ok.2.1,ok.2.2.2.1⟩,λy D=>cl y (by simp[Mv.cells]at D ⊢;lia)⟩
  rintro σ A ⟨S3,m,x3,N,g,rfl⟩;clear e2 R;refine⟨λσ H'=>Same A H'/\∃(r:Y1) (x:Mv) (o':Nat),H' r=some (mT (mm x))/\DG c x/\cO (row++[x])<=o'/\(p=false->cO (row++[x])<=d)/\σ=[some (.ref a),some (.int c),some (.bl p),some (.ref f),some (.int o'),some (.int d),some (.int n),some (.ref r)],?_,?_⟩
  ·have SP:Ao K A m (.str (nm x3)::(ns x3).map V.int):=Ao.of N;have no:Fj x3=false->Same A A/\∃(r:Y1) (x:Mv) (o':Nat),A r=some (mT (mm x))/\DG c x/\cO (row++[x])<=o'/\(p=false->cO (row++[x])<=d)/\[some (V.ref a),some (.int c),some (.bl p),some (.ref f),some (.int o),some (.int d),some (.int n),some (.ref m)]=[some (.ref a),some (.int c),some (.bl p),some (.ref f),some (.int o'),some (.int d),some (.int n),some (.ref r)]:=λz=>by
    have e:cO (row++[x3])=cO row:=by rw[PN,o1,if_neg (by rw[z];decide),P_]
    exact⟨Same.refl _,m,x3,o,N,g,by rw[e];exact co,by rw[e];exact S,O⟩
   refine⟨_,O,m,_,_,.str (nm x3),O,O,SP,Hu x3,O,_,O,Ay (λv=>?_) (λv=>no (Ys λz=>v (by rw[z])))⟩;obtain⟨b,I,rfl⟩:=Wg (V.str.inj v);refine⟨_,O,m,_,_,.int I,O,O,SP,k2,_,_,O,O,(by show (0:Int)<_;decide),O,_,O,Ay (λeo=>?_) (λeo=>no (Cd eo))⟩;have od:Fj (.turn b I)=true:=Cj eo;have e1:cO (row++[.turn b I])=cO row+1:=by rw[PN,o1,if_pos od]
   have a8:V.int ((o:Int)+1)=V.int ((o+1:Nat):Int):=rfl;refine⟨_,O,_,_,O,O,?_⟩;refine⟨_,O,_,O,_,_,O,O,_,O,Ay (λgt=>?_) (λgt=>⟨Same.refl _,m,_,o+1,N,g,by lia,λ_=>by lia,O⟩)⟩;refine⟨_,O,_,O,Iv (λwf=>?_) (λwt=>⟨Same.refl _,m,_,o+1,N,g,by lia,λz=>(by rw[z]at wt;cases wt),O⟩)⟩;refine⟨_,O,m,_,_,.int b,O,O,SP,k1,t3,λr4 a3=>⟨BW a3 _,r4,.turn b 4,o+1,Az,?_,?_,?_,O⟩⟩
   ·obtain⟨ok,cl⟩:=g;have ok:0<=b/\1<=I/\I<=7:=ok;exact⟨⟨ok.1,by decide,by decide⟩,λy D=>cl y D⟩
   ·rw[PN,show o1 (.turn b 4)=0 from rfl];lia
   ·intro z;rw[PN,show o1 (.turn b 4)=0 from rfl];exact S z
  rintro σ H5 ⟨S5,r5,x5,o',e5,a0,a2,W,rfl⟩;have s:=(S2.trans S3).trans S5;have a5:=s _ _ a1;have b0:u.length=row.length:=by have:=Sw M;rw[Bj]at this;exact this
  refine⟨_,O,.inl ⟨O,_,Ax.of a5⟩,_,O,f,_,_,O,O,a5,(by rw[Bj];lia),?_⟩;refine⟨Gn (Z.trans s) t,u++[r5],row++[x5],o',_,_,by rw[Az,Dt];rfl,?_,λy D=>?_,by rw[Gh,l1];rfl,a2,W,O⟩
  ·rw[Dt];exact PJ (λ_ _ e=>by rw[Bq (K_ e a5 (by intro z;cases z))];exact e) (Sd (M.same s) e5)
  ·rcases Gw.mp D with q | q
   ·exact O1 y q
   ·rw[GK.mp q];exact a0
 ·rintro σ H1 ⟨Z,u,row,o,U,Y,a1,M,O1,l1,co,S,rfl⟩;rw[Bj]at l1;exact⟨_,O,kq f H1 row t Z ⟨u,a1,M⟩ l1 O1 λw3 c3=>by rw[<-hm c3];exact S w3⟩
theorem _4(F:Ab K "_law_place" (top 84) .none)(X:K.In h)(G:Ng h mg)(B:Bs mg):Ar P w K mg base (k+1) "_law_place" ["_law_row"] tK:=by
 refine F.cal X G ["_law_row","_law_odd","_law_k"] (bi:=Ql λ_ _ _ _ _ _ _=>rfl) (len:=λ_ _ _ _ h=>by obtain⟨_,_,rfl,_⟩:=h;rfl) λr H vs Q E L h=>?_;obtain⟨l,row,rfl,⟨ps,I,d⟩,s,m⟩:=h;have q:Ax K H l (ps.map V.ref):=Ax.of I;have x:ps.length=row.length:=by have:=Sw d;rw[Bj]at this;exact this
 refine⟨_,(@Aw _ _ _ _ _ (@BR _ _ 1 _ _ _ _ r rfl (Or.inl rfl) Ad rfl (.inl rfl))
  (@Aw _ _ _ _ _ (JC PassesOwn.never rfl (Mp rfl B.range (Aa (DP Jw rfl B.len JR (Aa (pv 0) Af)) Af)) (CN (i:=2) r rfl (Or.inl rfl))
   (@Eo _ _ _ _ _ (@BR _ _ 1 _ _ _ _ r rfl (Or.inl rfl) (Ag DX (pv 1) (Qz kW rfl B.int Rx (Aa (KZ (GX Cz (Ai Aq (Ai Dl (pv 0) (pv 2) (λ_ _=>rfl)) Ad (λ_ _=>rfl)) Ej (Ae _)) (Jt (GX Cz (Ag Ec (Ai Aq (Ai Dl (pv 0) (pv 2) (λ_ _=>rfl)) Ad (λ_ _=>rfl)) Ad) Ad (Ae _)))) Af))) rfl (.inl rfl))
   (@Av _ _ _ (CQ (PW.pt (Jb (Bx Cz (pv 1) Ad (Ae _)) (La (Bx Cz (Ai Aq (Ai Dl (pv 0) (pv 2) (λ_ _=>rfl)) Ad (λ_ _=>rfl)) Ej (Ae _)))))
    (@Av _ _ _ (Bb (pv 2)))
    CT))))
  (@Av _ _ _ (Bb xJ)))),?_⟩
 try dsimp only[Bu]
 have A:(((ps.map V.ref).length:Nat):Int).toNat=row.length:=by rw[Bj,x];rfl
 refine⟨_,O,l,_,O,.inl q,_,O,by lia,by rw[Bj];lia,?_⟩;rw[A];refine ZD (n:=row.length) (λi σ H'=>H'=H/\NS row i/\∃v:Option V,σ=[some (.ref l),some (.int ((cO (row.take i):Nat):Int)),v]) ⟨O,NS.zero _,none,O⟩ ?_ ?_
 ·rintro i σ H1 hi ⟨rfl,c,v,rfl⟩;have g:row[i]?=some row[i]:=Di hi;generalize row[i]=y at g;have o:i<ps.length:=by lia
  obtain⟨M,p,J⟩:=Wo d (Di o);rw[g]at p;cases p;have f:=Yo (ps:=ps) (j:=0+(i:Int)) o (by lia);have SP:Ao K H1 ps[i] (.str (nm y)::(ns y).map V.int):=Ao.of J;have D:cO (row.take (i+1))=cO (row.take i)+o1 y:=by rw[JT,g];exact PN _ _
  have key:∀b:Bool,b=Fj y->((cO (row.take i):Nat):Int)+(if b then 1 else 0)=((cO (row.take (i+1)):Nat):Int):=λb e=>by
   rw[D,o1,e];split<;>simp
  have C:=c.le;have t:o1 y<=1:=by unfold o1;split<;>lia
  refine⟨λu H'=>H1=H'/\u=[some (.ref l),some (.int ((cO (row.take (i+1)):Nat):Int)),some (.int (0+(i:Int)))],?_,?_⟩
  ·refine⟨_,O,_,O,_,O,l,_,_,.ref ps[i],O,O,q,f,ps[i],_,_,.str (nm y),O,O,SP,Hu y,O,?_⟩;by_cases e:nm y="turn"
   ·obtain⟨a,j,rfl⟩:=Wg e;refine⟨_,O,Ay (λ_=>?_) (λz=>absurd rfl z)⟩;refine⟨_,O,_,O,l,_,_,.ref ps[i],O,O,q,f,ps[i],_,_,.int j,O,O,SP,k2,_,_,O,O,(by show (0:Int)<_;decide),O,.inr ⟨_,O,_,_,O,O,O,?_⟩⟩;rw[<-key _ rfl];rfl
   ·refine⟨_,O,Ay (λz=>absurd (V.str.inj z) e) (λ_=>.inr ⟨_,O,_,_,O,O,O,?_⟩)⟩;rw[<-key false (Ys e).symm];rfl
  rintro u _ ⟨rfl,rfl⟩;refine⟨_,O,O,_,O,JZ (λR=>?_) (λN=>?_)⟩
  ·rw[c.stop g (by rw[QH];right;exact Cj (by lia))]at m;rw[show (0:Int)+(i:Int)=(i:Int) from RP _];exact⟨_,O,m⟩
  ·refine⟨_,O,_,O,l,_,_,.ref ps[i],O,O,q,f,ps[i],_,_,.str (nm y),O,O,SP,Hu y,O,_,O,Ay (λe=>?_) (λe=>?_)⟩
   ·rw[c.stop g (by rw[QH];left;exact Cj (V.str.inj e))]at m;rw[show (0:Int)+(i:Int)=(i:Int) from RP _];exact⟨_,O,m⟩
   ·exact⟨O,c.next g (by rw[YF];exact⟨Cd λz=>e (by rw[z]),Cd (by lia)⟩),_,O⟩
 ·rintro σ H1 ⟨rfl,c,v,rfl⟩;rw[c.fin]at m;exact m
end
end A_
set_option maxHeartbeats 4000000
namespace L2
section
variable {X:Cx}{scope:Scope}{Nc:W0}{ex:U3}{pins:U1}{s:U7}{H:Hp}
end
end L2
set_option maxHeartbeats 1000000
namespace A_
open L2 Ba Am Pc Eu
open Al (top Bs Bh BX Ez Y8 Yv)
open Ce (V4 sm add En fl sw DG)
open Dp (Mk)
section
variable {P:U8}{w:W3}{K:U0}{mg:U4}{base:Heap}{k:Nat}{h:Heap}
theorem X8m(F:Ab K "_law_lay" (top 82) .none)(X:K.In h)(G:Ng h mg)(B:Bs mg)(dO:Ar P w K mg base k "_law_spin" ["_law_one","_law_k"] (Yv K))(cK:Ar P w K mg base k "_law_bits" ["_law_number"] E_):Ar P w K mg base (k+1) "_law_lay" ["_law_board","_law_mark"] (Km K):=by
 refine F.cal X G ["_law_board","_law_mark","_law_q","_law_f","_law_s","_law_due","_law_word"] (bi:=Qk λ_ _ _ _ _ _ _ _=>rfl) (len:=λ_ _ _ _ h=>by obtain⟨_,_,_,_,_,_,_,_,rfl,_⟩:=h;rfl) λy H vs Q E U h=>?_;obtain⟨l,p,ps,d,c,n,M,⟨b,a,m⟩,rfl,s,c6,hm,R,kq⟩:=h;have p6:=Hq c6
 refine⟨_,(@Aw _ _ _ _ _ (XR (pv 1) (Ka rfl (Dz (CN (i:=2) y rfl (Or.inl rfl)) (Dz (CN (i:=3) y rfl (Or.inl rfl)) (Dz (CN (i:=4) y rfl (Or.inl rfl)) Kc)))))
  (@Aw _ _ _ _ _ (@BR _ _ 5 _ _ _ _ y rfl (Or.inl rfl) (Qz lN rfl B.list boot_list (Aa (pv 0) Af)) rfl (.inl rfl))
  (@Aw _ _ _ _ _ (JC PassesOwn.never rfl (Mp rfl B.range (Aa (DP Jw rfl B.len JR (Aa (pv 0) Af)) Af)) (CN (i:=6) y rfl (Or.inl rfl))
   (@Av _ _ _ (XR (BP dO U rfl (Aa (Ai Dl (pv 0) (pv 6) (λ_ _=>rfl)) (Aa (Ag DX (Ag JB Ad (pv 2)) (Ag JB Ad (BP cK U rfl (Aa (Ag Fg (pv 6) (pv 4)) Af)))) Af))) (X7y (pv 5) (Ag LK (pv 6) (pv 3)) Y9e))))
  (@Av _ _ _ (Bb (pv 5)))))),?_⟩
 try dsimp only[Bu]
 refine⟨_,O,p,_,O,hm,O,_,_,O,_,_,O,_,_,O,O,?_⟩;refine⟨_,O,l,_,O,.inl (Ax.of s.lst),λo t=>?_⟩;have C:=BW t (.lst (ps.map V.ref));have W:upd H o (.lst (ps.map V.ref)) o=some (.lst (ps.map V.ref)):=Az;generalize upd H o (.lst (ps.map V.ref))=H0 at C W ⊢;have Z:(((ps.map V.ref).length:Nat):Int).toNat=2^c:=by rw[Bj,s.len];rfl
 have D:=s.len;refine⟨_,O,l,_,O,.inl (Ax.of (C _ _ s.lst)),_,O,by lia,by rw[Bj];lia,?_⟩;rw[Z];refine ZD (n:=2^c) (λi σ H'=>Same H H'/\∃(g:U3) (v:Option V),H' o=some (.lst (g.map V.ref))/\g.length=2^c/\BX K H' g (λw=>if (w^^^a)<i then layW (b,a,m) d w else d w)/\σ=[some (.ref l),some (.ref p),some (.int b),some (.int a),some (.int m),some (.ref o),v]) ⟨C,ps,none,W,D,λi q u=>by show Bh K H0 q (if (i^^^a)<0 then _ else _);rw[if_neg (Ly _)];exact(s.vals i q u).same C,O⟩ ?_ ?_
 ·rintro i σ H1 hi ⟨x,g,v,L,l1,J,rfl⟩;have A:i<ps.length:=by lia
  have N:=Yo (ps:=ps) (j:=0+(i:Int)) A (by lia);have Y:(0:Int)+(i:Int)=(i:Int):=RP _;have ax:=(s.vals i _ (Di A)).same x;have tw:(i^^^a)<2^c:=Ol hi R.f;refine⟨_,O,_,O,l,_,_,.ref ps[i],O,O,Ax.of (x _ _ s.lst),N,_,O,_,_,O,O,.inl ⟨by decide,by decide⟩,_,O,_,O,_,_,O,O,i&&&m,by rw[Y];exact WY,_,_,O,O,.inl ⟨by decide,by decide⟩,_,_,O,O,?_⟩;refine⟨ps[i],d i,_,O,ax,λr H2 I e2=>?_⟩;have T:=I _ _ L;refine⟨_,O,_,O,_,O,_,_,O,O,o,_,_,i^^^a,O,O,T,?_,?_⟩
  ·show NT (g.map V.ref).length (Builtin.bitXor (0+(i:Int)) (a:Int))=some (i^^^a);rw[Y,RB];unfold NT;rw[if_pos (by lia),Bj,l1,if_pos (by lia),L_]
  refine⟨Gn (x.trans I) t,g.set (i^^^a) r,_,by rw[Az,List.map_set],by rw[Xx];exact l1,?_,O⟩;have V2:=Y4v (j:=i^^^a) (J.same I) (Bh.of e2);have V3:BX K (upd H2 o (.lst ((g.map V.ref).set (i^^^a) (V.ref r)))) (g.set (i^^^a) r) _:=Al.Qy V2 T;intro w q u;have:=V3 w q u;have e:(if w=i^^^a then Dw (d i) (2*(b:Int)+4*((pc (i&&&m):Nat):Int)) else if (w^^^a)<i then layW (b,a,m) d w else d w)=(if (w^^^a)<i+1 then layW (b,a,m) d w else d w):=by
   by_cases c1:w=i^^^a
   ·have c2:w^^^a=i:=by rw[c1,J5,QB,QC]
    rw[if_pos c1,if_pos (by lia)];show _=Dw (d (w^^^a)) ((2*b+4*pc ((w^^^a)&&&m):Nat):Int);rw[c2];congr 1
   ·have c2:w^^^a≠i:=λz=>c1 (by rw[<-z,J5,QB,QC]);rw[if_neg c1];by_cases c3:(w^^^a)<i
    ·rw[if_pos c3,if_pos (by lia)]
    ·rw[if_neg c3,if_neg (by lia)]
  show Bh K _ q (if (w^^^a)<i+1 then layW (b,a,m) d w else d w);rw[<-e];exact this
 ·rintro σ H1 ⟨x,g,v,L,l1,J,rfl⟩;refine⟨_,O,kq o H1 g t x ⟨L,l1,λw q u=>?_,λw S=>XM (s.ok _ (Ol S R.f)) _⟩⟩;have S:w<2^c:=by rw[<-l1];exact(G4.mp u).1
  have:Bh K H1 q (if (w^^^a)<2^c then layW (b,a,m) d w else d w):=J w q u;rw[if_pos (show (w^^^a)<2^c from Ol S R.f)]at this;exact this
end
end A_
set_option maxRecDepth 10000
namespace N6
open L2 (Sz)
def Xk (p q n:Int):Prop:=Nat.gcd (Nat.gcd p.natAbs q.natAbs) n.natAbs=1
structure Low (t r b p q n:Int):Prop where
 ex:∃g:Int,g≠0/\t=g*p/\r=g*q/\b=g*n
 pos:0<n
 cop:Xk p q n
theorem Low.sizes{t r b p q n:Int}(h:Low t r b p q n):p.natAbs<=t.natAbs/\q.natAbs<=r.natAbs/\n.natAbs<=b.natAbs:=by
 obtain⟨g,c,rfl,rfl,rfl⟩:=h.ex;have a:0<g.natAbs:=by lia
 refine⟨?_,?_,?_⟩<;>(rw[RV];exact bW _ a)
theorem rN{a b c:Nat}(h:c≠0):0<Nat.gcd (Nat.gcd a b) c:=Nat.gcd_pos_of_pos_right _ (by lia)
theorem X5o{t r b:Int}(hb:b≠0){G:Nat}(hG:G=Nat.gcd (Nat.gcd t.natAbs r.natAbs) b.natAbs){g:Int}(hg:g=if b<0 then -(G:Int) else G):
  Low t r b (t.fdiv g) (r.fdiv g) (b.fdiv g):=by
 have j:0<G:=by rw[hG];exact rN (by lia)
 have d:g≠0:=by rw[hg];split<;>lia
 have c:g.natAbs=G:=by rw[hg];split<;>lia
 have s:g ∣ t:=YL.mp (by rw[c,hG];exact Nat.dvd_trans (aY _ _) (aY _ _));have k:g ∣ r:=YL.mp (by rw[c,hG];exact Nat.dvd_trans (aY _ _) (Nat.gcd_dvd_right _ _));have l:g ∣ b:=YL.mp (by rw[c,hG];exact Nat.gcd_dvd_right _ _);obtain⟨p,hp⟩:=s;obtain⟨q,i⟩:=k;obtain⟨n,f⟩:=l;have ep:t.fdiv g=p:=by rw[hp];exact bh _ d
 have o:r.fdiv g=q:=by rw[i];exact bh _ d
 have en:b.fdiv g=n:=by rw[f];exact bh _ d
 rw[ep,o,en];refine⟨⟨g,d,hp,i,f⟩,?_,?_⟩
 ·apply Int.lt_of_not_ge;intro h;have m:n≠0:=by rintro rfl;rw[Yl]at f;exact hb f
  by_cases hbn:b<0
  ·rw[if_pos hbn]at hg;have:=Int.mul_nonneg_of_nonpos_of_nonpos (a:=g) (b:=n) (by lia) h;lia
  ·rw[if_neg hbn]at hg;have:=Int.mul_neg_of_pos_of_neg (a:=g) (b:=n) (by lia) (by lia);lia
 ·unfold Xk;have e:G*Nat.gcd (Nat.gcd p.natAbs q.natAbs) n.natAbs=G*1:=by
   rw[<-Nat.gcd_mul_left,<-Nat.gcd_mul_left,<-c,<-RV,<-RV,<-RV,<-hp,<-i,<-f,c,Nat.mul_one];exact hG.symm
  exact Nat.eq_of_mul_eq_mul_left j e
theorem Y7p(t r b:Nat):Nat.gcd (Nat.gcd b r) t=Nat.gcd (Nat.gcd t r) b:=by
 rw[Xp (Nat.gcd b r) t,Xp b r,<-Nat.gcd_assoc]
end N6
set_option maxHeartbeats 4000000
namespace Ia
open L2 Am N6
noncomputable def tt (a b c d:Int):Int:=a*a+b*b+c*c+d*d
noncomputable def rr (a b c d:Int):Int:=a*b+b*c+c*d-d*a
theorem X7i(k a b c d:Int):tt (a*k) (b*k) (c*k) (d*k)=tt a b c d*(k*k):=by unfold tt;grind
theorem X7s(k a b c d:Int):rr (a*k) (b*k) (c*k) (d*k)=rr a b c d*(k*k):=by unfold rr;grind
theorem yZ(h:Int):0<p2 h:=by unfold p2;exact Yj (by decide)
end Ia
namespace Hw
open L2 Am Pc Ba N6 Ia
noncomputable def BL (F:Nat->Int):Nat->Int
 | 0=>0
 | n+1=>BL F n+F n
theorem Nx{F G:Nat->Int}:∀{n},(∀i,i<n->F i=G i)->BL F n=BL G n
 | 0,_=>rfl
 | n+1,h=>by
  show BL F n+F n=BL G n+G n;rw[Nx λi hi=>h i (by lia),h n (by lia)]
theorem j9{F G:Nat->Int}:∀n,BL (λi=>F i+G i) n=BL F n+BL G n
 | 0=>rfl
 | n+1=>by
  show BL (λi=>F i+G i) n+(F n+G n)=(BL F n+F n)+(BL G n+G n);rw[j9 n];lia
theorem Qx{F:Nat->Int}{k:Int}:∀n,BL (λi=>k*F i) n=k*BL F n
 | 0=>by show (0:Int)=k*0;rw[Yl]
 | n+1=>by
  show BL (λi=>k*F i) n+k*F n=k*(BL F n+F n);rw[Qx n,Int.mul_add]
noncomputable def lsum (F:Nat->Int):List Nat->Int
 | []=>0
 | a::l=>F a+lsum F l
variable{F:Nat->Int}
theorem Y6z{l l':W5}(h:l.Perm l'):lsum F l=lsum F l':=by
 induction h with
 | nil=>rfl
 | cons x _ ih=>show F x+_=F x+_;rw[ih]
 | swap x y l=>show F y+(F x+lsum F l)=F x+(F y+lsum F l);lia
 | trans _ _ a b=>exact a.trans b
theorem uL{F:Nat->Int}:∀l l',lsum F (l++l')=lsum F l+lsum F l'
 | [],l'=>by show lsum F l'=0+lsum F l';lia
 | a::l,l'=>by
  show F a+lsum F (l++l')=F a+lsum F l+lsum F l';rw[uL l l'];lia
theorem lM{F:Nat->Int}:∀n,BL F n=lsum F (List.range n)
 | 0=>rfl
 | n+1=>by
  rw[aR,uL,<-lM n];show BL F n+F n=BL F n+(F n+0);lia
theorem uM{F:Nat->Int}{t:Nat->Nat}:∀l,lsum (λi=>F (t i)) l=lsum F (l.map t)
 | []=>rfl
 | a::l=>by
  show F (t a)+_=F (t a)+_;rw[uM l]
theorem qw{t:Nat->Nat}:∀{l:W5},(∀a∈l,∀b∈l,t a=t b->a=b)->l.Nodup->(l.map t).Nodup
 | [],_,_=>jU
 | a::l,h,d=>by
  rw[GP,QJ];have d':=QJ.mp d;refine⟨λf=>?_,qw (λx g y i=>h x (.tail _ g) y (.tail _ i)) d'.2⟩;obtain⟨b,c,e⟩:=Jl.mp f;have:=h b (.tail _ c) a (.head _) e;subst this;exact d'.1 c
variable{n:Nat}
theorem Y9k{t:Nat->Nat}(h1:∀i,i<n->t i<n)(h2:∀i,i<n->t (t i)=i):((List.range n).map t).Perm (List.range n):=by
 rw[List.perm_iff_count];intro a;have d:(List.range n).Nodup:=aX
 have d2:((List.range n).map t).Nodup:=qw (λx g y h e=>by
  have:=h2 x (Gg.mp g)
  rw[e,h2 y (Gg.mp h)]at this
  exact this.symm) d
 rw[d.count,d2.count];have:a∈(List.range n).map t↔a∈List.range n:=by
  rw[Jl,Gg];constructor
  ·rintro ⟨b,f,rfl⟩;exact h1 b (Gg.mp f)
  ·intro c;exact⟨t a,Gg.mpr (h1 a c),h2 a c⟩
 by_cases q:a∈List.range n
 ·rw[if_pos (this.mpr q),if_pos q]
 ·rw[if_neg (λz=>q (this.mp z)),if_neg q]
theorem Y_{t:Nat->Nat}(h1:∀i,i<n->t i<n)(h2:∀i,i<n->t (t i)=i):BL (λi=>F (t i)) n=BL F n:=by
 rw[lM,lM,uM];exact Y6z (Y9k h1 h2)
noncomputable def va (x:A5)(M:Int):Int:=x.1.1*p2 (M-x.2)
noncomputable def vb (x:A5)(M:Int):Int:=x.1.2.1*p2 (M-x.2)
noncomputable def vc (x:A5)(M:Int):Int:=x.1.2.2.1*p2 (M-x.2)
noncomputable def vd (x:A5)(M:Int):Int:=x.1.2.2.2*p2 (M-x.2)
noncomputable def G7 (x:A5)(M:Int):Int:=tt (va x M) (vb x M) (vc x M) (vd x M)
noncomputable def Es (x:A5)(M:Int):Int:=rr (va x M) (vb x M) (vc x M) (vd x M)
theorem mQ(x:A5)(M:Int):G7 x M=tt x.1.1 x.1.2.1 x.1.2.2.1 x.1.2.2.2*(p2 (M-x.2)*p2 (M-x.2)):=X7i _ _ _ _ _
theorem jy(x:A5)(M:Int):Es x M=rr x.1.1 x.1.2.1 x.1.2.2.1 x.1.2.2.2*(p2 (M-x.2)*p2 (M-x.2)):=X7s _ _ _ _ _
theorem wj{x:A5}{M N:Int}(h:x.2<=M)(h':M<=N):G7 x N=(p2 (N-M)*p2 (N-M))*G7 x M/\Es x N=(p2 (N-M)*p2 (N-M))*Es x M:=by
 have e:p2 (N-x.2)=p2 (N-M)*p2 (M-x.2):=by
  rw[<-LQ (by lia) (by lia)];congr 1;lia
 rw[mQ,mQ,jy,jy,e];constructor<;>grind
noncomputable def Cm (f:Nat->A5)(n:Nat)(M:Int):Int:=BL (λw=>G7 (f w) M) n
noncomputable def CW (f:Nat->A5)(n:Nat)(M:Int):Int:=BL (λw=>Es (f w) M) n
theorem xQ{f:Nat->A5}{M N:Int}(h:∀w,w<n->(f w).2<=M)(h':M<=N):Cm f n N=(p2 (N-M)*p2 (N-M))*Cm f n M/\CW f n N=(p2 (N-M)*p2 (N-M))*CW f n M:=by
 unfold Cm CW;rw[<-Qx,<-Qx];exact⟨Nx λi hi=>(wj (h i hi) h').1,Nx λi hi=>(wj (h i hi) h').2⟩
end Hw
namespace Lk
open L2 Am Pc Ba N6 Ia Hw
end Lk
namespace Lq
open L2 Am Pc Ba N6 Ia Hw Lk
end Lq
set_option maxHeartbeats 1000000
namespace Fl
open Eu Mv Ce Dp Pc Hw
open Cw (mul one z0 Te ts Et)
structure Qf (q:V4->Int):Prop where
 e:∀v,q (E v)=q v
 s:∀n v,q (sm n v)=n*n*q v
 p:∀u v,q (add u v)+q (add (sm (-1) u) v)=2*q u+2*q v
 r:∀v,q (root v)=2*q v
noncomputable def nt (v:V4):Int:=v.1*v.1+v.2.1*v.2.1+v.2.2.1*v.2.2.1+v.2.2.2*v.2.2.2
noncomputable def nr (v:V4):Int:=v.1*v.2.1+v.2.1*v.2.2.1+v.2.2.1*v.2.2.2-v.2.2.2*v.1
theorem qt:Qf nt:=⟨λv=>by simp only[nt,E];grind,λn v=>by simp only[nt,sm];grind,λu v=>by simp only[nt,sm,add];grind,λv=>by simp only[nt,root];grind⟩
theorem qr:Qf nr:=⟨λv=>by simp only[nr,E];grind,λn v=>by simp only[nr,sm];grind,λu v=>by simp only[nr,sm,add];grind,λv=>by simp only[nr,root];grind⟩
variable {q:V4->Int}{c:Nat}
theorem mul_comm(x y:V4):mul x y=mul y x:=by apply Ce.ext<;>simp only[mul]<;>grind
theorem Qf.en(Q:Qf q)(v:V4):∀n,q (En n v)=q v
 | 0=>rfl
 | n+1=>(Q.e _).trans (Q.en v n)
noncomputable def sq (q:V4->Int)(c:Nat)(F:Bv):Int:=BL (λw=>q (F w)) (2^c)
variable{w a:Nat}
theorem Hx(h:w<2^c)(ha:a<c):fl w a<2^c:=Ol h (YJ (by decide) ha)
theorem Wy{b:Nat}(h:w<2^c)(ha:a<c)(hb:b<c):sw w a b<2^c:=by
 unfold sw;split
 ·exact h
 ·exact Hx (Hx h ha) hb
theorem Z_{b d:Nat}(h1:d≠a)(h2:d≠b):(sw w a b).testBit d=w.testBit d:=by
 unfold sw;split
 ·rfl
 ·rw[Pg h2,Pg h1]
theorem X7k{x:Mv}(o:DG c x):(∀w,w<2^c->to x w<2^c)/\∀w,to x (to x w)=w:=by
 obtain⟨o,f⟩:=o;cases x with
 | flip a =>
  have g:0<=a:=o;have:=f a (by simp[Mv.cells]);exact⟨λw e=>Hx e (by lia),λw=>K9 _ _⟩
 | iff a b =>
  obtain⟨g,h1,ne⟩:0<=a/\0<=b/\a≠b:=o;have:=f b (by simp[Mv.cells]);refine⟨λw e=>?_,λw=>?_⟩
  ·show (if w.testBit a.toNat then fl w b.toNat else w)<_;split
   ·exact Hx e (by lia)
   ·exact e
  ·show (if (if w.testBit a.toNat then fl w b.toNat else w).testBit a.toNat then fl (if w.testBit a.toNat then fl w b.toNat else w) b.toNat else (if w.testBit a.toNat then fl w b.toNat else w))=w;by_cases h:w.testBit a.toNat=true
   ·rw[if_pos h,Pg (by lia),if_pos h,K9]
   ·rw[if_neg h,if_neg h]
 | swap a b =>
  obtain⟨g,h1,ne⟩:0<=a/\0<=b/\a≠b:=o;have:=f a (by simp[Mv.cells]);have:=f b (by simp[Mv.cells]);exact⟨λw e=>Wy e (by lia) (by lia),λw=>nJ (by lia)⟩
 | cross a b d =>
  obtain⟨g,h1,h2,j,i,k⟩:0<=a/\0<=b/\0<=d/\a≠b/\a≠d/\b≠d:=o;have:=f b (by simp[Mv.cells]);have:=f d (by simp[Mv.cells]);refine⟨λw e=>?_,λw=>?_⟩
  ·show (if w.testBit a.toNat then sw w b.toNat d.toNat else w)<_;split
   ·exact Wy e (by lia) (by lia)
   ·exact e
  ·show (if (if w.testBit a.toNat then sw w b.toNat d.toNat else w).testBit a.toNat then sw (if w.testBit a.toNat then sw w b.toNat d.toNat else w) b.toNat d.toNat else (if w.testBit a.toNat then sw w b.toNat d.toNat else w))=w;by_cases h:w.testBit a.toNat=true
   ·rw[if_pos h,Z_ (by lia) (by lia),if_pos h,nJ (by lia)]
   ·rw[if_neg h,if_neg h]
 | _=>exact⟨λw e=>e,λw=>rfl⟩
theorem tR(Q:Qf q){t:Nat->Nat}{F G:Bv}{k:Int}(h1:∀i,i<2^c->t i<2^c)(h2:∀i,i<2^c->t (t i)=i)(h:∀w,w<2^c->q (G w)+q (G (t w))=k*(q (F w)+q (F (t w)))):sq q c G=k*sq q c F:=by
 have e:=Nx (n:=2^c) h;rw[Qx,j9,j9,Y_ (F:=λw=>q (G w)) h1 h2,Y_ (F:=λw=>q (F w)) h1 h2]at e;show BL (λw=>q (G w)) (2^c)=k*BL (λw=>q (F w)) (2^c);have:k*(BL (λw=>q (F w)) (2^c)+BL (λw=>q (F w)) (2^c))=2*(k*BL (λw=>q (F w)) (2^c)):=by grind
 lia
theorem W0w(Q:Qf q){x:Mv}(o:DG c x)(F:Bv):sq q c (op x F)=4*sq q c F:=by
 by_cases m:Fy x=false
 ·have e:∀w,w<2^c->q (op x F w)=4*q (F (to x w)):=λw _=>by rw[Pa m,Q.s,Q.en];rfl
  obtain⟨a,b⟩:=X7k o;show BL _ _=4*BL _ _;rw[Nx e,Qx,Y_ (F:=λw=>q (F w)) a λi _=>b i]
 ·cases x with
  | mix a =>
   have h:0<=a:=o.1;have:=o.2 a (by simp[Mv.cells]);refine tR Q (t:=λw=>fl w a.toNat) (λi hi=>Hx hi (by lia)) (λi _=>K9 _ _) λw g=>?_;show q (root (add (sm (sg w a.toNat) (F w)) (F (fl w a.toNat))))+q (root (add (sm (sg (fl w a.toNat) a.toNat) (F (fl w a.toNat))) (F (fl (fl w a.toNat) a.toNat))))=_;rw[K9,Q.r,Q.r,W0z];have f:=Q.p (F w) (F (fl w a.toNat));have p2:=Q.p (F (fl w a.toNat)) (F w);have d:add (F (fl w a.toNat)) (F w)=add (F w) (F (fl w a.toNat)):=by unfold add;simp only[Int.add_comm]
   rw[d]at p2;unfold sg;split
   ·rw[show -(-1:Int)=1 from rfl,Nk,d];lia
   ·rw[Nk];lia
  | _=>exact absurd rfl m
theorem Zc(Q:Qf q):∀{row:List Mv},(∀x∈row,DG c x)->∀F:Bv,sq q c (Aj row F)=4^row.length*sq q c F
 | [],_,F=>by
  show sq q c F=1*_;rw[Jk]
 | x::r,h,F=>by
  show sq q c (Aj r (op x F))=_;rw[Zc Q (λy a=>h y (.tail _ a)),W0w Q (h x (.head _)),J9,RN,QF]
theorem qH:∀(row:List Mv) (F G:Bv),Aj row (λw=>add (F w) (G w))=λw=>add (Aj row F w) (Aj row G w)
 | [],F,G=>rfl
 | x::r,F,G=>by
  show Aj r (op x _)=λw=>add (Aj r (op x F) w) (Aj r (op x G) w);rw[show op x (λw=>add (F w) (G w))=λw=>add (op x F w) (op x G w) from funext λw=>Cw.DX x F G w,qH r]
theorem qI(v:V4):∀(row:List Mv) (F:Bv),Aj row (λw=>mul v (F w))=λw=>mul v (Aj row F w)
 | [],F=>rfl
 | x::r,F=>by
  show Aj r (op x _)=λw=>mul v (Aj r (op x F) w);rw[show op x (λw=>mul v (F w))=λw=>mul v (op x F w) from funext λw=>Cw.JB x v F w,qI v r]
theorem X7l(Q:Qf q){m:Mk}(hf:m.2.1<2^c)(F:Bv):sq q c (lay m F)=sq q c F:=by
 show BL (λw=>q (En _ (F (w^^^m.2.1)))) _=BL _ _;rw[Nx (G:=λw=>q (F (w^^^m.2.1))) λw _=>Q.en _ _];exact Y_ (F:=λw=>q (F w)) (λi hi=>Ol hi hf) λi _=>by rw[J5,QB,QC]
theorem qZ(Q:Qf q){m:Mk}(hf:m.2.1<2^c)(em:(m.1+bn (bp (m.2.1&&&m.2.2)))%2=0)(F:Bv):sq q c (λw=>add (En 2 (F w)) (lay m F w))=2*sq q c F:=by
 refine tR Q (t:=λw=>w^^^m.2.1) (λi hi=>Ol hi hf) (λi _=>by rw[J5,QB,QC]) λw e=>?_;show q (add (En 2 (F w)) (En (2*m.1+4*bn (bp ((w^^^m.2.1)&&&m.2.2))) (F (w^^^m.2.1))))+q (add (En 2 (F (w^^^m.2.1))) (En (2*m.1+4*bn (bp ((w^^^m.2.1^^^m.2.1)&&&m.2.2))) (F (w^^^m.2.1^^^m.2.1))))=2*(q (F w)+q (F (w^^^m.2.1)));have a:w^^^m.2.1^^^m.2.1=w:=by rw[J5,QB,QC]
 rw[a];generalize hk:2*m.1+4*bn (bp ((w^^^m.2.1)&&&m.2.2))=k;generalize hk':2*m.1+4*bn (bp (w&&&m.2.2))=k';have d:(k'+k)%8=0:=by
  rw[pI,ZS]at hk;revert hk hk' em;cases bp (w&&&m.2.2)<;>cases bp (m.2.1&&&m.2.2)<;>simp[bn]<;>lia
 have b:F (w^^^m.2.1)=En k' (En k (F (w^^^m.2.1))):=by rw[KQ,lQ,d];rfl
 have e2:add (En 2 (F (w^^^m.2.1))) (En k' (F w))=En k' (En 2 (add (sm (-1) (En 2 (F w))) (En k (F (w^^^m.2.1))))):=by
  rw[ZR 2,Wt,KQ 2 2,show 2+2=4 from rfl,yK,Q_,show (-1:Int)*-1=1 from rfl,Nk,ZR k',KQ k' 2,Py k' 2,<-KQ 2 k',<-b];unfold add;simp only[Int.add_comm]
 rw[e2,Q.en,Q.en];have:=Q.p (En 2 (F w)) (En k (F (w^^^m.2.1)));rw[Q.en,Q.en]at this;lia
theorem j_{f g:Nat->Int}{x:Nat}(h:∀i,i≠x->f i=g i):∀n,x<n->BL f n=BL g n-g x+f x
 | n+1,hx=>by
  show BL f n+f n=BL g n+g n-g x+f x;by_cases e:x=n
  ·subst e;rw[Nx (F:=f) (G:=g) λi hi=>h i (by lia)];lia
  ·rw[j_ h n (by lia),h n (λz=>e z.symm)];lia
noncomputable def F0 (x:Nat):Bv:=λw=>if w=x then one else z0
theorem aA(Q:Qf q)(n:Nat):BL (λ_=>q z0) n=0:=by
 have z:q z0=0:=by
  have:=Q.s 0 z0;rw[show sm 0 z0=z0 from rfl]at this;lia
 rw[z];induction n with
 | zero=>rfl
 | succ n ih=>show BL (λ_=>0) n+0=0;rw[ih];rfl
theorem aQ(Q:Qf q):q z0=0:=by
 have:=Q.s 0 z0;rw[show sm 0 z0=z0 from rfl]at this;lia
theorem W0x(Q:Qf q){x:Nat}(hx:x<2^c):sq q c (F0 x)=q one:=by
 show BL (λw=>q (F0 x w)) _=_;rw[j_ (g:=λ_=>q z0) (x:=x) (λi hi=>by show q (if i=x then one else z0)=q z0;rw[if_neg hi]) _ hx,aA Q,aQ Q];show 0-0+q (if x=x then one else z0)=_;rw[if_pos rfl];lia
variable {x N:Nat}{m:Mk}{row:List Mv}{T:List Te}
theorem Zd(Q:Qf q)(hx:x<2^c)(vo:∀y∈row,DG c y)(su:Et N m row T)(u:V4):
  (2^N*2^N:Int)*sq q c (λw=>add (mul u (Aj row (F0 x) w)) (lay m (Aj row (F0 x)) w))=4^row.length*(sq q c (ts T (F0 x))-q (ts T (F0 x) x)+q (add (sm (2^N) u) (ts T (F0 x) x))):=by
 have e1:Aj row (λw=>add (mul (sm (2^N) u) (F0 x w)) (ts T (F0 x) w))=λw=>sm (2^N) (add (mul u (Aj row (F0 x) w)) (lay m (Aj row (F0 x)) w)):=by
  rw[qH,qI];funext w;show add (mul (sm (2^N) u) (Aj row (F0 x) w)) (Aj row (ts T (F0 x)) w)=_;rw[su,Cw.Qs,lu]
 have h:=Zc Q vo (λw=>add (mul (sm (2^N) u) (F0 x w)) (ts T (F0 x) w));rw[e1]at h;have e2:sq q c (λw=>sm (2^N) (add (mul u (Aj row (F0 x) w)) (lay m (Aj row (F0 x)) w)))=(2^N*2^N:Int)*sq q c (λw=>add (mul u (Aj row (F0 x) w)) (lay m (Aj row (F0 x)) w)):=by
  show BL _ _=_*BL _ _;rw[<-Qx];exact Nx λi _=>Q.s _ _
 rw[e2]at h;rw[h];congr 1;show BL _ _=BL _ _-_+_;refine(j_ (g:=λw=>q (ts T (F0 x) w)) (x:=x) (λi hi=>?_) _ hx).trans ?_
 ·show q (add (mul (sm (2^N) u) (if i=x then one else z0)) _)=_;rw[if_neg hi,mul_comm,Cw.W_,Cw.ZQ]
 ·show _-_+q (add (mul (sm (2^N) u) (if x=x then one else z0)) (ts T (F0 x) x))=_;rw[if_pos rfl,mul_comm,Cw.one_mul]
theorem vN(n:Nat):(4:Int)^n≠0:=jY (by decide)
theorem xR(Q:Qf q)(hx:x<2^c)(hf:m.2.1<2^c)(vo:∀y∈row,DG c y)(su:Et N m row T):sq q c (Aj row (F0 x))=4^row.length*q one/\sq q c (ts T (F0 x))=(2^N*2^N:Int)*q one:=by
 have b:=Zc Q vo (F0 x);rw[W0x Q hx]at b;refine⟨b,?_⟩;have h:=Zc Q vo (ts T (F0 x));have e:sq q c (Aj row (ts T (F0 x)))=(2^N*2^N:Int)*sq q c (lay m (Aj row (F0 x))):=by
  show BL _ _=_*BL _ _;rw[<-Qx];exact Nx λi _=>by rw[su];exact Q.s _ _
 rw[e,X7l Q hf,b]at h;have:=vN row.length;apply K3 this;rw[<-h,<-QF,<-QF,Uz (4^row.length)]
theorem look(hx:x<2^c)(hf:m.2.1<2^c)(em:(m.1+bn (bp (m.2.1&&&m.2.2)))%2=0)(vo:∀y∈row,DG c y)(su:Et N m row T){a b d e:Int}(hv:ts T (F0 x) x=(a,b,d,e)):
  d=0/\e=-b/\sq nt c (Aj row (F0 x))=4^row.length/\sq nr c (Aj row (F0 x))=0 /\
  (2^N:Int)*sq nt c (λw=>add (Aj row (F0 x) w) (lay m (Aj row (F0 x)) w))=4^row.length*(2*(2^N+a)) /\
  (2^N:Int)*sq nr c (λw=>add (Aj row (F0 x) w) (lay m (Aj row (F0 x)) w))=4^row.length*(2*b):=by
 have pn:(2^N:Int)≠0:=jY (by decide);have n:=vN row.length;obtain⟨k,t2⟩:=xR qt hx hf vo su;obtain⟨j,h⟩:=xR qr hx hf vo su;rw[show nt one=1 from rfl,Int.mul_one]at k t2;rw[show nr one=0 from rfl,Yl]at j h;have r:∀w,mul (En 2 one) (Aj row (F0 x) w)=En 2 (Aj row (F0 x) w):=λw=>by rw[Cw.XC,Cw.one_mul]
 have q:∀w,mul one (Aj row (F0 x) w)=Aj row (F0 x) w:=λw=>Cw.one_mul _;have it:=Zd qt hx vo su (En 2 one);have i:=Zd qr hx vo su (En 2 one);have l:=Zd qt hx vo su one;have g:=Zd qr hx vo su one;simp only[r,q]at it i l g;rw[qZ qt hf em,k,t2,hv]at it;rw[qZ qr hf em,j,h,hv]at i;rw[t2,hv]at l;rw[h,hv]at g;generalize hP:(2^N:Int)=P at *;generalize hq4:(4:Int)^row.length=K at *;have p:d=0:=by
  have f:nt (add (sm P (En 2 one)) (a,b,d,e))=a*a+b*b+(P+d)*(P+d)+e*e:=by simp only[nt,add,sm,En,E,one];grind
  rw[f,show nt (a,b,d,e)=a*a+b*b+d*d+e*e from rfl]at it;have:K*(P*d)=0:=by grind
  rcases Ra.mp this with z | z
  ·exact absurd z n
  ·exact(Ra.mp z).resolve_left pn
 have o:e=-b:=by
  have f:nr (add (sm P (En 2 one)) (a,b,d,e))=a*b+b*(P+d)+(P+d)*e-e*a:=by simp only[nr,add,sm,En,E,one];grind
  rw[f,show nr (a,b,d,e)=a*b+b*d+d*e-e*a from rfl]at i;have:K*(P*(b+e))=0:=by grind
  rcases Ra.mp this with z | z
  ·exact absurd z n
  ·have:=(Ra.mp z).resolve_left pn;lia
 refine⟨p,o,k,j,?_,?_⟩
 ·have f:nt (add (sm P one) (a,b,d,e))=(P+a)*(P+a)+b*b+d*d+e*e:=by simp only[nt,add,sm,one];grind
  rw[f,show nt (a,b,d,e)=a*a+b*b+d*d+e*e from rfl]at l;apply K3 pn;grind
 ·have f:nr (add (sm P one) (a,b,d,e))=(P+a)*b+b*d+d*e-e*(P+a):=by simp only[nr,add,sm,one];grind
  rw[f,show nr (a,b,d,e)=a*b+b*d+d*e-e*a from rfl]at g;apply K3 pn;rw[o]at g;grind
end Fl
namespace El
open L2 Am Pc Ba N6 Ia Hw
open Al (top Bs Bh)
noncomputable abbrev T3 (x y z:Int):HO:=.tup [.int x,.int y,.int z]
theorem PL(n:Nat):Sz (n+1) ((2:Int)^n):=by
 unfold Sz;rw[jT];exact YJ (by decide) (X5 n)
def OJ:Sp:=λvs H Q _=>∃a b:Int,vs=[.int a,.int b]/\0<=a/\0<=b/\Q (.int (Int.gcd a b:Nat)) H
def Wd:Sp:=λvs H Q _=>∃t r b:Int,vs=[.int t,.int r,.int b]/\b≠0/\Sz 9000 b/\∀(p:Y1) (H':Hp) (x y z:Int),Same H H'->H' p=some (T3 x y z)->Low t r b x y z->Q (.ref p) H'
def Il (K:U0):Sp:=λvs H Q _=>∃(p:Y1) (a b c d h:Int),vs=[.ref p]/\Ao K H p [.int a,.int b,.int c,.int d,.int h]/\c=0/\d=-b/\0<=h/\h<=8000/\∀(r:Y1) (H':Hp) (x y z:Int),Same H H'->H' r=some (T3 x y z)->Low a b (p2 h) x y z->Q (.ref r) H'
theorem aB(h:Int):(1:Int)*2^h.toNat=p2 h:=by unfold p2;rw[Jk]
theorem yQ{n:Nat}{h:Int}(hn:h.toNat+1<=n):Sz n (p2 h):=(PL h.toNat).mono hn
theorem O7(i:Int):(if i<0 then -i else i)=(i.natAbs:Int):=by split<;>lia
theorem X5y(t r b:Int):Int.gcd ((Int.gcd (b.natAbs:Int) (r.natAbs:Int):Nat):Int) (t.natAbs:Int)=Nat.gcd (Nat.gcd t.natAbs r.natAbs) b.natAbs:=by
 simp only[Int.gcd,QT];exact Y7p _ _ _
theorem uF{a b:Int}(h0:0<=a)(hb:0<b):Int.gcd b (a%b)=Int.gcd a b:=by
 have e:(a%b).natAbs=a.natAbs%b.natAbs:=by
  obtain⟨m,rfl⟩:∃m:Nat,a=m:=⟨a.natAbs,by lia⟩;obtain⟨n,rfl⟩:∃n:Nat,b=n:=⟨b.natAbs,by lia⟩;rw[<-Int.natCast_emod,QT,QT,QT]
 show Nat.gcd b.natAbs (a%b).natAbs=Nat.gcd a.natAbs b.natAbs;rw[e,Xp a.natAbs,Nat.gcd_rec b.natAbs a.natAbs,Xp]
theorem Yn{t r b x y z:Int}(l:Low t r b x y z):x*b=t*z/\y*b=r*z:=by
 obtain⟨g,_,e1,e2,a⟩:=l.ex;subst e1 e2 a;constructor<;>grind
structure S3 (B D:Nat) (x y z:Int):Prop where
 x:Sz B x
 y:Sz B y
 z:Sz D z
def j8 (K:U0):Sp:=λvs H Q _=>∃(a b:Y1) (p q n p' q' n':Int),vs=[.ref a,.ref b]/\Ao K H a [.int p,.int q,.int n]/\Ao K H b [.int p',.int q',.int n']/\0<n/\0<n'/\S3 12000 500 p q n/\S3 12000 500 p' q' n'/\∀(r:Y1) (H':Hp) (x y z:Int),Same H H'->H' r=some (T3 x y z)->Low (p*p'+2*q*q') (p*q'+q*p') (n*n') x y z->Q (.ref r) H'
def m8 (K:U0):Sp:=λvs H Q _=>∃(a b:Y1) (p q n p' q' n':Int),vs=[.ref a,.ref b]/\Ao K H a [.int p,.int q,.int n]/\Ao K H b [.int p',.int q',.int n']/\0<n/\0<n'/\S3 12000 500 p q n/\S3 12000 500 p' q' n'/\∀(r:Y1) (H':Hp) (x y z:Int),Same H H'->H' r=some (T3 x y z)->Low (p*n'+p'*n) (q*n'+q'*n) (n*n') x y z->Q (.ref r) H'
section
variable {P:U8}{w:W3}{K:U0}{mg:U4}{base:Heap}{k:Nat}{h:Heap}
theorem X8o(F:Ab K "common_divisor" (top 16) .none)(X:K.In h)(G:Ng h mg):Ar P w K mg base (k+1) "common_divisor" ["one","other"] OJ:=by
 refine F.cal X G ["one","other","rest"] (bi:=Qk λ_ _ _ _ _ _ _ _=>rfl) (len:=λ_ _ _ _ h=>by obtain⟨_,_,rfl,_⟩:=h;rfl) λg H vs Q E t h=>?_;obtain⟨a,b,rfl,s,n,q⟩:=h
 refine⟨_,(@Aw _ _ _ _ _ (Wn PassesOwn.never (Bx LC (pv 1) Ad (Ae _))
   (@Aw _ _ _ _ _ (@BR _ _ 2 _ _ _ _ g rfl (Or.inl rfl) (Ag Ec (pv 0) (pv 1)) rfl (.inl rfl))
   (@Aw _ _ _ _ _ (@BR _ _ 0 _ _ _ _ g rfl (Or.inl rfl) (pv 1) rfl (.inl rfl))
   (@Av _ _ _ (@BR _ _ 1 _ _ _ _ g rfl (Or.inl rfl) (pv 2) rfl (.inl rfl))))))
  (@Av _ _ _ (Bb (pv 0)))),?_⟩
 try dsimp only[Bu]
 refine Y8q (λσ H'=>H'=H/\∃f d r,σ=[some (.int f),some (.int d),r]/\0<=f/\0<=d/\Int.gcd f d=Int.gcd a b)
  (λσ _=>match σ with | [_,some (.int d),_]=>d.toNat | _=>0) ⟨O,a,b,none,O,s,n,O⟩ ?_ ?_
 ·rintro σ H' ⟨rfl,f,d,r,rfl,i,j,e⟩;refine⟨_,O,O,_,O,Ov (λc=>?_) (λc=>?_)⟩
  ·refine⟨_,O,_,O,_,_,O,O,(by show 0<d;lia),?_⟩;refine⟨_,O,_,O,⟨O,d,f%d,some (.int (f%d)),O,j,J6 _ c,?_⟩,?_⟩
   ·rw[uF i (by lia)];exact e
   ·show (f%d).toNat<d.toNat;have:=M9 f (show 0<d by lia);have:=J6 f c;lia
  ·subst c;refine⟨_,O,?_⟩;rw[Int.gcd_zero_right]at e;have m:(f:Int)=(Int.gcd a b:Nat):=by lia
   show Q (.int f) H';rw[m];exact q
 ·rintro σ H1 x u p ⟨v,e,l,k1,e1,o⟩;exact⟨v,e,l,k1,e1,p _ _ o⟩
theorem Y1z{D:Y1}{oc:W4}{od:W7}{n:Nat}{sl:W6}{t0 t1:Tok}(l:K.lookup D=some ⟨oc,od,.seq #[.int 0 t0,.int 1 t1] n,sl⟩):Jf K "share" (top 15) (.ref D) ["top","root","bottom"]:=by
 intro kV f g h d ct s us X e;match us,e with
 | [a,b,c],_=>exact BindsTo.of_defaults rfl (X _ _ l) rfl rfl rfl
theorem _7{dV:W4}(F:Ab K "share" (top 15) dV)(bi:Jf K "share" (top 15) dV ["top","root","bottom"])(X:K.In h)(G:Ng h mg)(B:Bs mg)(c7:Ar P w K mg base k "is_whole" ["thing"] Nu)(cJ:Ar P w K mg base k "common_divisor" ["one","other"] OJ):
  Ar P w K mg base (k+1) "share" ["top","root","bottom"] Wd:=by
 refine F.cal X G ["top","root","bottom","common"] (len:=λ_ _ _ _ h=>by obtain⟨_,_,_,rfl,_⟩:=h;rfl) (bi:=bi) λn H vs Q E f h=>?_;obtain⟨t,r,b,rfl,m,o,q⟩:=h
 refine⟨_,(@Aw _ _ _ _ _ (CQ (Ij (PW.pt (Ma (Fp (BP c7 f rfl (Aa (pv 0) Af))) (Ma (Fp (BP c7 f rfl (Aa (pv 1) Af))) (Nt (Fp (BP c7 f rfl (Aa (pv 2) Af))))))))
   (@Av _ _ _ Ml)
   CT)
  (@Aw _ _ _ _ _ (CQ (Bx Cz (pv 2) Ad (Ae _))
   (@Av _ _ _ Ml)
   CT)
  (@Aw _ _ _ _ _ (@BR _ _ 3 _ _ _ _ n rfl (Or.inl rfl) (BP cJ f rfl (Aa (BP cJ f rfl (Aa (DP Wh rfl B.abs V0 (Aa (pv 2) Af)) (Aa (DP Wh rfl B.abs V0 (Aa (pv 1) Af)) Af))) (Aa (DP Wh rfl B.abs V0 (Aa (pv 0) Af)) Af))) rfl (.inl rfl))
  (@Eo _ _ _ _ _ (CQ (Bx Q9 (pv 2) Ad (Ae _))
   (@Av _ _ _ (@BR _ _ 3 _ _ _ _ n rfl (Or.inl rfl) (Ni Qu (pv 3)) rfl (.inl rfl)))
   CT)
  (@Av _ _ _ (Bb (@Dj _ _ _ _ _ (Aa (Ag Y6 (pv 0) (pv 3)) (Aa (Ag Y6 (pv 1) (pv 3)) (Aa (Ag Y6 (pv 2) (pv 3)) Af)))))))))),?_⟩
 try dsimp only[Bu]
 refine⟨_,O,_,O,_,O,Df ⟨_,O,_,O,_,O,Df ⟨_,O,_,O,_,O,CP ?_⟩⟩⟩;refine⟨_,O,O,_,O,JZ (λc=>absurd c m) (λ_=>?_)⟩;refine⟨_,O,_,O,_,O,_,O,_,_,O,(by rw[O7];lia),(by rw[O7];lia),_,O,_,O,_,_,O,by lia,(by rw[O7];lia),?_⟩;rw[O7,O7,O7,X5y];generalize hG:Nat.gcd (Nat.gcd t.natAbs r.natAbs) b.natAbs=g;have fin:∀c:Int,c=(if b<0 then -(g:Int) else g)->(Ub (UG (JG (Pk (rI Jh λi j=>.int (i.fdiv j)) (Hg 0) (Hg 3)) (JG (Pk (rI Jh λi j=>.int (i.fdiv j)) (Hg 1) (Hg 3)) (JG (Pk (rI Jh λi j=>.int (i.fdiv j)) (Hg 2) (Hg 3)) Ue)))))
   { nx:=λ_ H'=>Q .non H',rt:=Q} [some (.int t),some (.int r),some (.int b),some (.int c)] H:=by
  intro c l;have s:0<g:=by rw[<-hG];exact rN (by lia)
  have u:g<=b.natAbs:=by rw[<-hG];exact Nat.gcd_le_right _ (by lia)
  have a:c≠0:=by rw[l];split<;>lia
  have d:Sz 9000 c:=o.le (by rw[l];split<;>lia);have e:=X5o (t:=t) (r:=r) m hG.symm l;refine⟨_,O,_,O,_,_,O,O,⟨a,d⟩,_,O,_,O,_,_,O,O,⟨a,d⟩,_,O,_,O,_,_,O,O,⟨a,d⟩,t3,λp hp=>?_⟩;exact q p _ _ _ _ (BW hp _) Az e
 refine⟨λσ H'=>H'=H/\σ=[some (.int t),some (.int r),some (.int b),some (.int (if b<0 then -(g:Int) else g))],⟨_,O,_,_,O,O,_,O,Ay (λc=>?_) (λc=>?_)⟩,?_⟩
 ·refine⟨_,O,_,O,O,?_⟩;rw[if_pos c];rfl
 ·refine⟨O,?_⟩;rw[if_neg c];rfl
 rintro σ H' ⟨rfl,rfl⟩;exact fin _ rfl
theorem X4u(F:Ab K "real_share" (top 27) .none)(X:K.In h)(G:Ng h mg)(cQ:Ar P w K mg base k "share" ["top","root","bottom"] Wd):Ar P w K mg base (k+1) "real_share" ["one"] (Il K):=by
 refine F.cal X G ["one"] (bi:=Ql λ_ _ _ _ _ _ _=>rfl) (len:=λ_ _ _ _ h=>by obtain⟨_,_,_,_,_,_,rfl,_⟩:=h;rfl) λm H vs Q E f h=>?_;obtain⟨p,a,b,c,d,h,rfl,S,j,e,l,n,q⟩:=h
 refine⟨_,(@Aw _ _ _ _ _ (CQ (PW.pt (Jb (Bx LC (Ai Aq (pv 0) Ad (λ_ _=>rfl)) Ad (Ae _)) (La (Bx LC (Ai Aq (pv 0) Ad (λ_ _=>rfl)) (Ni Qu (Ai Aq (pv 0) Ad (λ_ _=>rfl))) (Ae _)))))
   (@Av _ _ _ Ml)
   CT)
  (@Av _ _ _ (Bb (BP cQ f rfl (Aa (Ai Aq (pv 0) Ad (λ_ _=>rfl)) (Aa (Ai Aq (pv 0) Ad (λ_ _=>rfl)) (Aa (Ag Hy Ad (Ai Aq (pv 0) Ad (λ_ _=>rfl))) Af))))))),?_⟩
 try dsimp only[Bu]
 refine⟨_,O,p,_,_,_,O,O,S,O,O,_,O,Ov (λz=>absurd j z) (λ_=>?_)⟩;refine⟨_,O,p,_,_,_,O,O,S,O,_,O,p,_,_,_,O,O,S,O,_,O,O,_,O,Ov (λz=>absurd e z) (λ_=>?_)⟩;refine⟨_,O,p,_,_,_,O,O,S,O,_,O,p,_,_,_,O,O,S,O,_,O,p,_,_,_,O,O,S,O,_,_,O,O,⟨1,Ie,by omega,by lia⟩,a,b,p2 h,?_,Og (yZ h),yQ (by lia),λr H' x y z s' g i=>q r H' x y z s' g i⟩;show [V.int a,V.int b,V.int (1*2^h.toNat)]=_;rw[aB]
theorem Y6l(F:Ab K "share_times" (top 18) .none)(X:K.In h)(G:Ng h mg)(cQ:Ar P w K mg base k "share" ["top","root","bottom"] Wd):Ar P w K mg base (k+1) "share_times" ["one","other"] (j8 K):=by
 refine F.cal X G ["one","other","top","root"] (bi:=Qk λ_ _ _ _ _ _ _ _=>rfl) (len:=λ_ _ _ _ h=>by obtain⟨_,_,_,_,_,_,_,_,rfl,_⟩:=h;rfl) λg H vs Q E v h=>?_;obtain⟨a,b,p,q,n,B,t,C,rfl,D,A,J,I,⟨s,o,l⟩,⟨f,e,m⟩,kk⟩:=h;have c:Ao K H a [.int p,.int q,.int n]:=D;have d:Ao K H b [.int B,.int t,.int C]:=A;have two:Sz 12002 (2*q):=((show Sz 2 2 by decide).mul o).mono (by decide);have mm:∀{x y:Int}{i j:Nat},Sz i x->Sz j y->i<=20000->j<=20000->Gp x y:=λh h' a b=>⟨_,_,h,h',by lia⟩
 refine⟨_,(@Aw _ _ _ _ _ (@BR _ _ 2 _ _ _ _ g rfl (Or.inl rfl) (Ag DX (Ag Ey (Ai Aq (pv 0) Ad (λ_ _=>rfl)) (Ai Aq (pv 1) Ad (λ_ _=>rfl))) (Ag Ey (Ag JB Ad (Ai Aq (pv 0) Ad (λ_ _=>rfl))) (Ai Aq (pv 1) Ad (λ_ _=>rfl)))) rfl (.inl rfl))
  (@Aw _ _ _ _ _ (@BR _ _ 3 _ _ _ _ g rfl (Or.inl rfl) (Ag DX (Ag Ey (Ai Aq (pv 0) Ad (λ_ _=>rfl)) (Ai Aq (pv 1) Ad (λ_ _=>rfl))) (Ag Ey (Ai Aq (pv 0) Ad (λ_ _=>rfl)) (Ai Aq (pv 1) Ad (λ_ _=>rfl)))) rfl (.inl rfl))
  (@Av _ _ _ (Bb (BP cQ v rfl (Aa (pv 2) (Aa (pv 3) (Aa (Ag Ey (Ai Aq (pv 0) Ad (λ_ _=>rfl)) (Ai Aq (pv 1) Ad (λ_ _=>rfl))) Af)))))))),?_⟩
 try dsimp only[Bu]
 refine⟨_,O,a,_,_,_,O,O,c,O,_,O,b,_,_,_,O,O,d,O,_,_,O,O,mm s f (by decide) (by decide),_,O,a,_,_,_,O,O,c,O,_,_,O,O,.inl ⟨by decide,by decide⟩,_,O,b,_,_,_,O,O,d,O,_,_,O,O,mm two e (by decide) (by decide),_,_,O,O,?_⟩;refine⟨_,O,a,_,_,_,O,O,c,O,_,O,b,_,_,_,O,O,d,O,_,_,O,O,mm s e (by decide) (by decide),_,O,a,_,_,_,O,O,c,O,_,O,b,_,_,_,O,O,d,O,_,_,O,O,mm o f (by decide) (by decide),_,_,O,O,?_⟩;exact⟨_,O,_,O,_,O,a,_,_,_,O,O,c,O,_,O,b,_,_,_,O,O,d,O,_,_,O,O,mm l m (by decide) (by decide),_,_,_,O,Oi (by lia) (by lia),(l.mul m).mono (by decide),λr H' x y z u e1 l1=>kk r H' x y z u e1 l1⟩
end
end El
namespace A_
open L2 Ba Am Pc Eu
open N6 (Low)
open Al (top Bs Bh BX Mi Lb)
open El (T3 S3 j8 m8 Il Wd Yn)
open Ce (V4 sm add En fl sw DG)
open Dp (Mk lay)
open Cw (mul one z0 Te ts Et)
open Fl (F0)
theorem tV(F:Ce.Bv)(w:Nat)(a:List Te)(t:Te):ts (a++[t]) F w=add (ts a F w) (mul t.1 (lay t.2 F w)):=by
 rw[Cw.Qt];show add _ (add (mul t.1 (lay t.2 F w)) z0)=_;rw[Cw.Q6]
theorem Xj:∀n:Nat,En n z0=z0
 | 0=>rfl
 | n+1=>by show Ce.E (En n z0)=_;rw[Xj n];rfl
theorem X5u{x:Nat}{m:Mk}(h:m.2.1≠0):lay m (F0 x) x=z0:=by
 show En _ (if x^^^m.2.1=x then one else z0)=z0;rw[if_neg (λe=>h ?_),Xj];have:x^^^(x^^^m.2.1)=x^^^x:=by rw[e]
 rw[<-J5,QB,Nat.zero_xor]at this;exact this
theorem X9a{x s:Nat}:lay (0,0,s) (F0 x) x=En (4*pc (x&&&s)) one:=by
 show En (2*0+4*Dp.bn (Dp.bp ((x^^^0)&&&s))) (if x^^^0=x then one else z0)=_;rw[QC,if_pos rfl];refine Dp.TJ ?_ _;unfold Dp.bn Dp.bp;by_cases h:pc (x&&&s)%2=1
 ·rw[Cj h,if_pos rfl];lia
 ·rw[Cd h,if_neg DK];lia
theorem vD{m:Mk}(h:(m.1+pc (m.2.1&&&m.2.2))%2=0):(m.1+Dp.bn (Dp.bp (m.2.1&&&m.2.2)))%2=0:=by
 unfold Dp.bn Dp.bp;by_cases q:pc (m.2.1&&&m.2.2)%2=1
 ·rw[Cj q,if_pos rfl];lia
 ·rw[Cd q,if_neg DK];lia
def N_ (K:U0):Sp:=λvs H Q _=>∃(x:Nat) (l pm:Y1) (m:Mk) (row:List Mv) (c:Nat),vs=[.int x,.ref l,.ref pm]/\Ao K H pm (Eh m)/\Cv H l row/\Ik c m/\c<=6/\x<2^c/\(m.1+pc (m.2.1&&&m.2.2))%2=0/\(∀y∈row,DG c y)/\row.length<=200/\G6 0 row=none /\
 ∀(r:Y1) (H':Hp) (T:List Te) (X Y Z:Int),Same H H'->H' r=some (T3 X Y Z)->Et 60 m row T->0<Z->N6.Xk X Y Z->2*(2^60:Int)*X=(2^60+(ts T (F0 x) x).1)*Z->2*(2^60:Int)*Y=(ts T (F0 x) x).2.1*Z->S3 13000 500 X Y Z->Q (.ref r) H'
section
variable {P:U8}{w:W3}{K:U0}{mg:U4}{base:Heap}{k:Nat}{h:Heap}
theorem _9(F:Ab K "share_plus" (top 17) .none)(X:K.In h)(G:Ng h mg)(cQ:Ar P w K mg base k "share" ["top","root","bottom"] Wd):Ar P w K mg base (k+1) "share_plus" ["one","other"] (m8 K):=by
 refine F.cal X G ["one","other","top","root"] (bi:=Qk λ_ _ _ _ _ _ _ _=>rfl) (len:=λ_ _ _ _ h=>by obtain⟨_,_,_,_,_,_,_,_,rfl,_⟩:=h;rfl) λg H vs Q E t h=>?_;obtain⟨a,b,p,q,n,v,l,A,rfl,B,u,J,I,⟨D,C,e⟩,⟨s,o,f⟩,kk⟩:=h;have c:Ao K H a [.int p,.int q,.int n]:=B;have d:Ao K H b [.int v,.int l,.int A]:=u;have mm:∀{x y:Int}{i j:Nat},Sz i x->Sz j y->i<=20000->j<=20000->Gp x y:=λh h' a b=>⟨_,_,h,h',by lia⟩
 refine⟨_,(@Aw _ _ _ _ _ (@BR _ _ 2 _ _ _ _ g rfl (Or.inl rfl) (Ag DX (Ag Ey (Ai Aq (pv 0) Ad (λ_ _=>rfl)) (Ai Aq (pv 1) Ad (λ_ _=>rfl))) (Ag Ey (Ai Aq (pv 1) Ad (λ_ _=>rfl)) (Ai Aq (pv 0) Ad (λ_ _=>rfl)))) rfl (.inl rfl))
  (@Aw _ _ _ _ _ (@BR _ _ 3 _ _ _ _ g rfl (Or.inl rfl) (Ag DX (Ag Ey (Ai Aq (pv 0) Ad (λ_ _=>rfl)) (Ai Aq (pv 1) Ad (λ_ _=>rfl))) (Ag Ey (Ai Aq (pv 1) Ad (λ_ _=>rfl)) (Ai Aq (pv 0) Ad (λ_ _=>rfl)))) rfl (.inl rfl))
  (@Av _ _ _ (Bb (BP cQ t rfl (Aa (pv 2) (Aa (pv 3) (Aa (Ag Ey (Ai Aq (pv 0) Ad (λ_ _=>rfl)) (Ai Aq (pv 1) Ad (λ_ _=>rfl))) Af)))))))),?_⟩
 try dsimp only[Bu]
 refine⟨_,O,a,_,_,_,O,O,c,O,_,O,b,_,_,_,O,O,d,O,_,_,O,O,mm D f (by decide) (by decide),_,O,b,_,_,_,O,O,d,O,_,O,a,_,_,_,O,O,c,O,_,_,O,O,mm s e (by decide) (by decide),_,_,O,O,?_⟩;refine⟨_,O,a,_,_,_,O,O,c,O,_,O,b,_,_,_,O,O,d,O,_,_,O,O,mm C f (by decide) (by decide),_,O,b,_,_,_,O,O,d,O,_,O,a,_,_,_,O,O,c,O,_,_,O,O,mm o e (by decide) (by decide),_,_,O,O,?_⟩;exact⟨_,O,_,O,_,O,a,_,_,_,O,O,c,O,_,O,b,_,_,_,O,O,d,O,_,_,O,O,mm e f (by decide) (by decide),_,_,_,O,Oi (by lia) (by lia),(e.mul f).mono (by decide),λr H' x y z m e1 l1=>kk r H' x y z m e1 l1⟩
theorem X8i{aZ aSURE aHALF:Y1}(gZ:mg "NOUGHT"=some (.ref aZ))(kZ:∀H,Bh K H aZ ((0,0,0,0),0))(gSURE:mg "SURE"=some (.ref aSURE))(kS:∀H,Ao K H aSURE ([1,0,1].map V.int))(gHALF:mg "HALF"=some (.ref aHALF))(kH:∀H,Ao K H aHALF ([1,0,2].map V.int))(F:Ab K "sum_share" (top 69) .none)(X:K.In h)(G:Ng h mg)
  (dW:Ar P w K mg base k "back_sum" ["mark","row"] (Ks K)) (cF:Ar P w K mg base k "plus" ["one","other"] (Mi K)) (cB:Ar P w K mg base k "spun" ["one","k"] (Lb K)) (cY:Ar P w K mg base k "ones" ["number"] E_) (dC:Ar P w K mg base k "share_times" ["one","other"] (j8 K)) (dM:Ar P w K mg base k "share_plus" ["one","other"] (m8 K)) (dJ:Ar P w K mg base k "real_share" ["one"] (Il K)):Ar P w K mg base (k+1) "sum_share" ["word","row","mark"] (N_ K):=by
 refine F.cal X G _ (S:=Ku) (bi:=Qj λ_ _ _ _ _ _ _ _ _=>rfl) (len:=λ_ _ _ _ h=>by obtain⟨_,_,_,_,_,_,rfl,_⟩:=h;rfl) λI H vs Q E A h=>?_;obtain⟨x,l,pm,m,row,c,rfl,hm,R0,om,c6,hx,em,vo,C,pn,kq⟩:=h
 refine⟨_,(@Aw _ _ _ _ _ (@BR _ _ 3 _ _ _ _ I rfl (Or.inl rfl) (HY (v:=.ref aZ) rfl gZ rfl) rfl (.inl rfl))
  (@Aw _ _ _ _ _ (JC PassesOwn.never rfl (Je (BP dW A rfl (Aa (pv 2) (Aa (pv 1) Af)))) (@Ka _ _ _ _ _ _ rfl (@Dz _ _ _ _ _ (@CN _ _ 4 _ I rfl (Or.inl rfl) (by first | exact .inl rfl | exact .inr rfl)) (@Dz _ _ _ _ _ (@CN _ _ 5 _ I rfl (Or.inl rfl) (by first | exact .inl rfl | exact .inr rfl)) Kc rfl) rfl) rfl rfl)
   (@Av _ _ _ (CQ (Bx Cz (Ai Aq (pv 5) Ad (λ_ _=>rfl)) Ad (Ae _))
    (@Av _ _ _ (@BR _ _ 3 _ _ _ _ I rfl (Or.inl rfl) (BP cF A rfl (Aa (pv 3) (Aa (BP cB A rfl (Aa (pv 4) (Aa (Ag JB Ad (BP cY A rfl (Aa (Ag Fg (pv 0) (Ai Aq (pv 5) Ad (λ_ _=>rfl))) Af))) Af))) Af))) rfl (.inl rfl)))
    CT)))
  (@Av _ _ _ (Bb (BP dC A rfl (Aa (HY (v:=.ref aHALF) rfl gHALF rfl) (Aa (BP dM A rfl (Aa (HY (v:=.ref aSURE) rfl gSURE rfl) (Aa (BP dJ A rfl (Aa (pv 3) Af)) Af))) Af))))))),?_⟩
 try dsimp only[Bu]
 refine⟨_,O,_,O,pm,l,m,row,c,O,hm,R0,om,c6,vo,C,pn,λr1 H1 ps R T _ S1 L Y su lT=>?_⟩;have lp:=PK L.tms;have a3:R.length<=64:=by
  have:=Y.len;obtain⟨_,o6⟩:=j6 pn (Ef _);rw[Gv]at o6;have:2^cO row<=2^6:=Rt (by decide) o6;lia
 refine⟨r1,O,⟨_,Ax.of L.lst⟩,Ss (K:=K) (a:=r1) (xs:=ps.map V.ref) (λi σ H'=>Same H1 H'/\∃(p:Y1) (t:A5) (v4 W:Option V),Bh K H' p t/\Cr (6000+85*i) 40 t/\vv t=ts ((R.take i).map tv) (F0 x) x/\σ=[some (.int x),some (.ref l),some (.ref pm),some (.ref p),v4,W]) ?_ (λi σ H' _ e=>e.1.seq (Ax.of L.lst)) ?_ ?_⟩
 ·exact⟨Same.refl _,aZ,Zz,none,none,kZ _,⟨⟨by decide +kernel,by decide +kernel,by decide +kernel,by decide +kernel⟩,⟨Gf 0,.inl rfl⟩,by decide⟩,O,O⟩
 ·rintro i y σ H2 hy ⟨u,p,t,v4,W,hp,g,q,rfl⟩;rw[FN]at hy;obtain⟨p2,a0,rfl⟩:=G3.mp hy;obtain⟨t1,N,pa,M,ep,ea,eb⟩:=Qq L.tms a0;have tm:=Jo N;have il:i<R.length:=(G4.mp N).1;obtain⟨x1,j,r,n⟩:=t1;obtain⟨s,a6,_,hq⟩:=Y.ok _ tm;have hq:j=pc (r&&&n)%4:=hq;have xl:x1.2<=40:=s.le;have xn:0<=x1.2:=s.amt.nn;have tn:=g.amt.nn;have tl:t.2<=40:=g.le;have D:Ao K H2 M (Eh (j,r,n)):=u.tup eb;have tk:(R.take (i+1)).map tv=(R.take i).map tv++[tv (x1,(j,r,n))]:=by rw[JT,N,VN,Dt];rfl
  refine⟨p2,_,O,Ao.of (u _ _ ep),O,_,_,O,_,_,O,O,?_⟩;refine⟨_,O,M,_,_,.int r,O,O,D,k1,O,_,O,JZ (λe=>?_) (λe=>?_)⟩
  ·have f0:r=0:=by lia
   subst f0;have a1:j=0:=by rw[hq,Nat.zero_and,Wa]
   subst a1;refine⟨_,O,_,O,_,O,_,O,M,_,_,.int n,O,O,D,k2,_,_,O,O,x&&&n,WY,_,_,O,O,.inl ⟨by decide,by decide⟩,?_⟩;refine⟨pa,x1.1.1,x1.1.2.1,x1.1.2.2.1,x1.1.2.2.2,x1.2,_,O,ea.same u,λr3 H3 o Z=>?_⟩;have o3:Cr 6000 40 (Bm ((4*((pc (x&&&n):Nat):Int))%8).toNat x1.1,x1.2):=XM s _;refine⟨6000+85*i,p,r3,t.1.1,t.1.2.1,t.1.2.2.1,t.1.2.2.2,t.2,_,_,_,_,x1.2,⟨O,hp.same o,Z,tn,xn,by lia,by lia,g.sz,o3.sz.mono (by lia)⟩,λU H4 a4 b4 c4 d4 g4 S4 e4 s4 z4=>?_⟩;refine⟨(u.trans o).trans S4,U,((a4,b4,c4,d4),g4),_,_,Bh.of e4,⟨z4.mono (by lia),s4.amt,by have:=s4.le;show g4<=40;lia⟩,?_,O⟩;rw[tk,tV,<-q,tX (x:=t) (y:=(Bm ((4*((pc (x&&&n):Nat):Int))%8).toNat x1.1,x1.2)) (z:=((a4,b4,c4,d4),g4)) s4 tn xn (by lia) (by show x1.2<=60;lia)];congr 1;show vv (Bm _ x1.1,x1.2)=mul (vv x1) (lay (0,0,n) (F0 x) x);rw[xY,X9a,Cw.XJ,Fl.mul_comm,Cw.one_mul];exact Dp.TJ (by lia) _
  ·refine⟨u,p,t,_,_,hp,g.mono (by lia) (Gf _),?_,O⟩;rw[tk,tV,<-q];show vv t=add (vv t) (mul (vv x1) (lay (j,r,n) (F0 x) x));rw[X5u (show r≠0 by lia),Fl.mul_comm,Cw.W_,Cw.Q6]
 ·rintro σ H2 ⟨u,p,t,v4,W,hp,g,q,rfl⟩;rw[Bj,lp]at g q;rw[Oj,Y.sum]at q;have tn:=g.amt.nn;have tl:t.2<=40:=g.le;obtain⟨⟨a,b,d,e⟩,hh⟩:=t;have tn:0<=hh:=tn;have tl:hh<=40:=tl;have P0:(2:Int)^(60-hh.toNat)≠0:=jY (by decide);have lk:=Fl.look hx om.f (vD em) vo su (a:=2^(60-hh.toNat)*a) (b:=2^(60-hh.toNat)*b) (d:=2^(60-hh.toNat)*d) (e:=2^(60-hh.toNat)*e) q.symm;have d0:d=0:=(Ra.mp lk.1).resolve_left P0;have e0:e=-b:=by
   apply K3 P0;rw[lk.2.1];grind
  have B:(2^60:Int)=2^(60-hh.toNat)*p2 hh:=by
   unfold p2;rw[<-Yi,show 60-hh.toNat+hh.toNat=60 by lia]
  refine⟨_,O,p,a,b,d,e,hh,O,hp,d0,e0,tn,by lia,λr2 H3 x1 y1 z1 o Z l1=>?_⟩;obtain⟨m1,m2,m3⟩:=l1.sizes;have zp:Sz 42 (p2 hh):=(El.PL hh.toNat).mono (by lia);have w1:Sz 11500 x1:=(g.sz.z1.mono (by lia)).le m1;have w2:Sz 11500 y1:=(g.sz.z2.mono (by lia)).le m2;have J:Sz 42 z1:=zp.le m3;refine⟨aSURE,r2,1,0,1,x1,y1,z1,O,kS _,Ao.of Z,by decide,l1.pos,⟨by decide +kernel,by decide +kernel,by decide +kernel⟩,⟨w1.mono (by decide),w2.mono (by decide),J.mono (by decide)⟩,λU H4 x2 y2 z2 S4 e4 l2=>?_⟩;obtain⟨n1,n2,n3⟩:=l2.sizes;have v1:Sz 11600 x2:=(((show Sz 1 1 by decide +kernel).mul J).add (w1.mul (show Sz 1 1 by decide +kernel)) |>.mono (by decide)).le n1;have v2:Sz 11600 y2:=(((show Sz 1 0 by decide +kernel).mul J).add (w2.mul (show Sz 1 1 by decide +kernel)) |>.mono (by decide)).le n2;have v3:Sz 50 z2:=(((show Sz 1 1 by decide +kernel).mul J).mono (by decide)).le n3;refine⟨aHALF,U,1,0,2,x2,y2,z2,O,kH _,Ao.of e4,by decide,l2.pos,⟨by decide +kernel,by decide +kernel,by decide +kernel⟩,⟨v1.mono (by decide),v2.mono (by decide),v3.mono (by decide)⟩,λr5 H5 x3 y3 z3 S5 e5 l3=>?_⟩;obtain⟨q1,q2,q3⟩:=l3.sizes;obtain⟨g1,g2⟩:=Yn l1;obtain⟨g3,g4⟩:=Yn l2;obtain⟨g5,g6⟩:=Yn l3;have a2:=l1.pos;have a5:=l2.pos;refine kq r5 H5 (T.map tv) x3 y3 z3 ((((S1.trans u).trans o).trans S4).trans S5) e5 su l3.pos l3.cop ?_ ?_ ⟨?_,?_,?_⟩
  ·rw[<-q];show 2*(2^60:Int)*x3=(2^60+2^(60-hh.toNat)*a)*z3;rw[B];apply M_ (show z1*z2≠0 from Oi (by lia) (by lia));grind
  ·rw[<-q];show 2*(2^60:Int)*y3=(2^(60-hh.toNat)*b)*z3;rw[B];apply M_ (show z1*z2≠0 from Oi (by lia) (by lia));grind
  ·exact((((show Sz 1 1 by decide +kernel).mul v1).add (((show Sz 2 2 by decide +kernel).mul (show Sz 1 0 by decide +kernel)).mul v2)).mono (by decide)).le q1
  ·exact((((show Sz 1 1 by decide +kernel).mul v2).add ((show Sz 1 0 by decide +kernel).mul v1)).mono (by decide)).le q2
  ·exact(((show Sz 2 2 by decide +kernel).mul v3).mono (by decide)).le q3
end
end A_
namespace El
open L2 Am Pc Ba N6 Ia Hw
open Al (top Bs Bh Ez BX)
def Oa:Sp:=λvs H Q _=>∃a b:Int,vs=[.int a,.int b]/\Q (.int (Int.gcd a b:Nat)) H
def Im:Sp:=λvs H Q _=>∃(p:Y1) (x y z:Int),vs=[.ref p]/\H p=some (T3 x y z)/\0<z/\Xk x y z/\∀H',Same H H'->Q (.bl true) H'
def Kg (K:U0):Sp:=λvs H Q _=>∃(l:Y1) (ps:U3) (f:Nat->A5) (c n m:Nat) (M:Int),vs=[.ref l,.int M]/\Ez K H l ps f c n m/\c<=6/\n<=1000000/\M<=1000/\(∀w,w<2^c->(f w).2<=M)/\∀(r:Y1) (H':Hp),Same H H'->H' r=some (.tup [.int (Cm f (2^c) M),.int (CW f (2^c) M)])->Q (.ref r) H'
theorem Uo{k:Int}(h:0<=k):(1:Int)*2^(2*k).toNat=p2 k*p2 k:=by
 unfold p2;rw[Jk,<-Yi];congr 1;lia
section
variable {P:U8}{w:W3}{K:U0}{mg:U4}{base:Heap}{k:Nat}{h:Heap}
theorem X8p(F:Ab K "_law_divisor" (top 86) .none)(X:K.In h)(G:Ng h mg)(B:Bs mg):Ar P w K mg base (k+1) "_law_divisor" ["_law_one","_law_other"] Oa:=by
 refine F.cal X G ["_law_one","_law_other"] (bi:=Qk λ_ _ _ _ _ _ _ _=>rfl) (len:=λ_ _ _ _ h=>by obtain⟨_,_,rfl,_⟩:=h;rfl) λf H vs Q E o h=>?_;obtain⟨a,b,rfl,q⟩:=h
 refine⟨_,(@Aw _ _ _ _ _ (@BR _ _ 0 _ _ _ _ f rfl (Or.inl rfl) (DP Wh rfl B.abs V0 (Aa (pv 0) Af)) rfl (.inl rfl))
  (@Aw _ _ _ _ _ (@BR _ _ 1 _ _ _ _ f rfl (Or.inl rfl) (DP Wh rfl B.abs V0 (Aa (pv 1) Af)) rfl (.inl rfl))
  (@Aw _ _ _ _ _ (Wn PassesOwn.never (Bx MK (pv 1) Ad (Ae _))
   (@Av _ _ _ (X7w (i:=0) (j:=1) rfl f rfl rfl (by decide) rfl rfl (Aa (pv 1) (Aa (Ag Ec (pv 0) (pv 1)) Af)) rfl)))
  (@Av _ _ _ (Bb (pv 0)))))),?_⟩
 try dsimp only[Bu]
 refine⟨_,O,_,O,_,O,_,O,λm σ H'=>H'=H/\∃a' d:Int,m=d.toNat/\σ=[some (.int a'),some (.int d)]/\0<=a'/\0<=d/\Int.gcd a' d=Int.gcd a b,⟨_,O,_,_,O,O,(by split<;>lia),(by split<;>lia),?_⟩,?_⟩
 ·rw[O7,O7];simp[Int.gcd]
 rintro m σ H' ⟨rfl,a',d,rfl,rfl,n,l,e⟩;refine⟨_,O,_,_,O,O,_,O,Ay (λc=>?_) (λc=>?_)⟩
 ·refine⟨_,λ_ _ z=>z,_,O,_,O,_,O,_,_,O,O,c,_,_,O,(a'%d).toNat,?_,O,_,_,O,O,l,J6 _ (Og c),?_⟩
  ·have:=M9 a' c;have:=J6 a' (Og c);lia
  ·rw[uF n c];exact e
 ·have g:d=0:=by lia
  subst g;rw[Int.gcd_zero_right]at e;refine⟨_,O,?_⟩;rw[<-e]at q;have:((a'.natAbs:Nat):Int)=a':=by lia
  rw[this]at q;exact q
theorem Y4e(F:Ab K "_law_is_share" (top 87) .none)(X:K.In h)(G:Ng h mg)(B:Bs mg)(dG:Ar P w K mg base k "_law_whole" ["_law_found"] Nu)(cN:Ar P w K mg base k "_law_divisor" ["_law_one","_law_other"] Oa):Ar P w K mg base (k+1) "_law_is_share" ["_law_found"] Im:=by
 refine F.cal X G ["_law_found"] (bi:=Ql λ_ _ _ _ _ _ _=>rfl) (len:=λ_ _ _ _ h=>by obtain⟨_,_,_,_,rfl,_⟩:=h;rfl) λn H vs Q E b h=>?_;obtain⟨p,x,y,z,rfl,hp,z0,co,l⟩:=h;have S:Ao K H p ([x,y,z].map V.int):=Ao.of hp
 refine⟨_,(@Aw _ _ _ _ _ (CQ (PW.pt (Jb (Ij (Fp (DP Ny rfl B.isinstance Jm (Aa (pv 0) (Aa (Mh (v:=.ty "tuple") rfl B.tuple boot_tuple rfl) Af))))) (Jb (Bx LC (DP Jw rfl B.len JR (Aa (pv 0) Af)) Ad (Ae _)) (La (Ij (Fp (DP (kJ rfl) rfl B.all boot_all (Aa (KY rfl (Bw.of (Nc:=["_law_part"]) (mp:=[none]) (by kernel_rfl)) (XQ (pv 0)) (λ_ _ _ _=>(CN (i:=0) (show (["_law_part"]:W0).Nodup by decide +kernel) rfl (Or.inl rfl))) (λ_ _ _ _=>(BP dG b rfl (Aa (pv 0) Af)))) Af))))))))
   (@Av _ _ _ (Bb MP))
   CT)
  (@Av _ _ _ (Bb (KZ (GX MK (Ai Aq (pv 0) Ad (λ_ _=>rfl)) Ad (Ae _)) (Jt (GX Cz (BP cN b rfl (Aa (BP cN b rfl (Aa (Ai Aq (pv 0) Ad (λ_ _=>rfl)) (Aa (Ai Aq (pv 0) Ad (λ_ _=>rfl)) Af))) (Aa (Ai Aq (pv 0) Ad (λ_ _=>rfl)) Af))) Ad (Ae _))))))),?_⟩
 try dsimp only[Bu]
 refine⟨_,O,_,_,_,true,O,Cq.tup hp,wW K,_,O,CP ⟨_,O,p,_,O,.inr S,O,_,O,Ov (λc=>absurd rfl c) (λ_=>⟨_,O,p,O,⟨_,S⟩,λacc a=>?_⟩)⟩⟩;refine X5q (ns:=[x,y,z]) (fr:=[]) (λ_=>.bl true) S t3 a (λi H2 N m g=>⟨_,O,i,O,g⟩) (λH2 e f=>?_);refine⟨acc,[true,true,true],O,Ax.of f,_,O,CP ?_⟩;have T2:=e.tup S;have d:Int.gcd ((Int.gcd x y:Nat):Int) z=1:=by
  unfold Xk at co;simp only[Int.gcd,QT];exact co
 refine⟨_,O,p,_,_,_,O,O,T2,O,_,_,O,O,_,O,Ay (λ_=>?_) (λj=>absurd z0 j)⟩;refine⟨_,O,p,_,_,_,O,O,T2,O,_,O,p,_,_,_,O,O,T2,O,_,_,O,_,O,p,_,_,_,O,O,T2,O,_,_,O,O,?_⟩;rw[d];exact l _ e
theorem X8h(F:Ab K "_law_weights" (top 88) .none)(X:K.In h)(G:Ng h mg):Ar P w K mg base (k+1) "_law_weights" ["_law_board","_law_most"] (Kg K):=by
 refine F.cal X G ["_law_board","_law_most","_law_top","_law_side","_law_a","_law_b","_law_c","_law_d","_law_h","_law_by"] (bi:=Qk λ_ _ _ _ _ _ _ _=>rfl) (len:=λ_ _ _ _ h=>by obtain⟨_,_,_,_,_,_,_,rfl,_⟩:=h;rfl) λb H vs Q E D h=>?_;obtain⟨l,ps,g,c,n,m,M,rfl,s,Z,n1,m1,W,Y⟩:=h;have t:(ps.map V.ref).length=2^c:=by rw[Bj,s.len]
 have J:=Ax.of (K:=K) s.lst
 refine⟨_,(@Aw _ _ _ _ _ (@BR _ _ 2 _ _ _ _ b rfl (Or.inl rfl) Ad rfl (.inl rfl))
  (@Aw _ _ _ _ _ (@BR _ _ 3 _ _ _ _ b rfl (Or.inl rfl) Ad rfl (.inl rfl))
  (@Aw _ _ _ _ _ (JC PassesOwn.never rfl (Je (pv 0)) (@Ka _ _ _ _ _ _ rfl (@Dz _ _ _ _ _ (@CN _ _ 4 _ b rfl (Or.inl rfl) (by first | exact .inl rfl | exact .inr rfl)) (@Dz _ _ _ _ _ (@CN _ _ 5 _ b rfl (Or.inl rfl) (by first | exact .inl rfl | exact .inr rfl)) (@Dz _ _ _ _ _ (@CN _ _ 6 _ b rfl (Or.inl rfl) (by first | exact .inl rfl | exact .inr rfl)) (@Dz _ _ _ _ _ (@CN _ _ 7 _ b rfl (Or.inl rfl) (by first | exact .inl rfl | exact .inr rfl)) (@Dz _ _ _ _ _ (@CN _ _ 8 _ b rfl (Or.inl rfl) (by first | exact .inl rfl | exact .inr rfl)) Kc rfl) rfl) rfl) rfl) rfl) rfl rfl)
   (@Aw _ _ _ _ _ (@BR _ _ 9 _ _ _ _ b rfl (Or.inl rfl) (Ag Hy Ad (Ag JB Ad (Ag Ii (pv 1) (pv 8)))) rfl (.inl rfl))
   (@Aw _ _ _ _ _ (@BR _ _ 2 _ _ _ _ b rfl (Or.inl rfl) (Ag DX (pv 2) (Ag Ey (Ag DX (Ag DX (Ag DX (Ag Ey (pv 4) (pv 4)) (Ag Ey (pv 5) (pv 5))) (Ag Ey (pv 6) (pv 6))) (Ag Ey (pv 7) (pv 7))) (pv 9))) rfl (.inl rfl))
   (@Av _ _ _ (@BR _ _ 3 _ _ _ _ b rfl (Or.inl rfl) (Ag DX (pv 3) (Ag Ey (Ag Ii (Ag DX (Ag DX (Ag Ey (pv 4) (pv 5)) (Ag Ey (pv 5) (pv 6))) (Ag Ey (pv 6) (pv 7))) (Ag Ey (pv 7) (pv 4))) (pv 9))) rfl (.inl rfl))))))
  (@Av _ _ _ (Bb (@Dj _ _ _ _ _ (Aa (pv 2) (Aa (pv 3) Af)))))))),?_⟩
 try dsimp only[Bu]
 refine⟨_,O,l,O,⟨_,J⟩,Ss (K:=K) (a:=l) (xs:=ps.map V.ref) (λj σ H'=>H'=H/\∃z u A B x p,σ=[some (.ref l),some (.int M),some (.int (Cm g j M)),some (.int (CW g j M)),z,u,A,B,x,p]) ⟨O,_,_,_,_,_,_,O⟩ (λj σ H' _ e=>by rw[e.1];exact J) ?_ ?_⟩
 ·rintro j v σ H' N ⟨rfl,z,u,A,B,x,p,rfl⟩;rw[FN]at N;obtain⟨C,q,rfl⟩:=G3.mp N;have I:j<2^c:=by rw[<-s.len];exact(G4.mp q).1
  have U:=s.vals j C q;have ok:=s.ok j I;have yl:=W j I;have y0:0<=(g j).2:=ok.amt.nn;have d:=ok.sz.z1;have f:=ok.sz.z2;have o:=ok.sz.z3;have i:=ok.sz.z4;have L:=Uo (k:=M-(g j).2) (by lia);have R:=(((d.mul d).add (f.mul f)).add (o.mul o)).add (i.mul i);have y:=(((d.mul f).add (f.mul o)).add (o.mul i)).sub (i.mul d);have zs:Sz 2100 ((1:Int)*2^(2*(M-(g j).2)).toNat):=by
   rw[Jk];exact(PL _).mono (by lia)
  refine⟨C,_,O,U,O,_,_,O,_,_,O,_,_,O,_,_,O,_,_,O,O,?_⟩;refine⟨_,O,_,O,_,_,O,O,_,_,O,O,.inl ⟨by decide,by decide⟩,_,_,O,O,⟨1,Ie,by lia,by lia⟩,?_⟩;refine⟨_,O,_,O,_,O,_,_,O,O,⟨_,_,d,d,by lia⟩,_,O,_,O,_,_,O,O,⟨_,_,f,f,by lia⟩,_,_,O,O,_,O,_,O,_,_,O,O,⟨_,_,o,o,by lia⟩,_,_,O,O,_,O,_,O,_,_,O,O,⟨_,_,i,i,by lia⟩,_,_,O,O,_,O,_,_,O,O,⟨_,_,R,zs,by lia⟩,_,_,O,O,?_⟩;refine⟨_,O,_,O,_,O,_,_,O,O,⟨_,_,d,f,by lia⟩,_,O,_,O,_,_,O,O,⟨_,_,f,o,by lia⟩,_,_,O,O,_,O,_,O,_,_,O,O,⟨_,_,o,i,by lia⟩,_,_,O,O,_,O,_,O,_,_,O,O,⟨_,_,i,d,by lia⟩,_,_,O,O,_,O,_,_,O,O,⟨_,_,y,zs,by lia⟩,_,_,O,O,?_⟩;have S:Cm g (j+1) M=Cm g j M+((g j).1.1*(g j).1.1+(g j).1.2.1*(g j).1.2.1+(g j).1.2.2.1*(g j).1.2.2.1+(g j).1.2.2.2*(g j).1.2.2.2)*(1*2^(2*(M-(g j).2)).toNat):=by
   rw[L];show Cm g j M+G7 (g j) M=_;rw[mQ];rfl
  have T:CW g (j+1) M=CW g j M+((g j).1.1*(g j).1.2.1+(g j).1.2.1*(g j).1.2.2.1+(g j).1.2.2.1*(g j).1.2.2.2-(g j).1.2.2.2*(g j).1.1)*(1*2^(2*(M-(g j).2)).toNat):=by
   rw[L];show CW g j M+Es (g j) M=_;rw[jy];rfl
  refine⟨O,some (.int (g j).1.1),some (.int (g j).1.2.1),some (.int (g j).1.2.2.1),some (.int (g j).1.2.2.2),some (.int (g j).2),some (.int (1*2^(2*(M-(g j).2)).toNat)),?_⟩;rw[S,T];rfl
 ·rintro σ H' ⟨rfl,z,u,A,B,x,p,rfl⟩;rw[t];exact⟨_,O,_,O,t2,λr D=>Y r _ (BW D _) Az⟩
end
end El
set_option maxHeartbeats 4000000
namespace Al
open L2 Am Pc Ba
theorem X1k:((List.range 7).all λc=>(List.range (2^c)).all λx=>decide (Builtin.Int.intBits ((x:Nat):Int)<=c))=true:=by decide +kernel
theorem X6h{c x:Nat}(h:c<=6)(hx:x<2^c):Builtin.Int.intBits ((x:Nat):Int)<=c:=M6 (Cp (Cp X1k (by lia:c<7)) hx)
def Kh:Sp:=λvs H Q _=>∃x c:Nat,vs=[.int x,.int c]/\c<=6/\x<2^c/\Q (.bl true) H
noncomputable def st (x w:Nat):A5:=if w=x then ((1,0,0,0),0) else ((0,0,0,0),0)
theorem W0v(x w:Nat):Cr 100 40 (st x w):=by
 unfold st;split
 ·exact⟨⟨s_1,s_0,s_0,s_0⟩,⟨Gf 0,.inl rfl⟩,Ox⟩
 ·exact⟨⟨s_0,s_0,s_0,s_0⟩,⟨Gf 0,.inl rfl⟩,Ox⟩
def m9 (K:U0):Sp:=λvs H Q _=>∃c x:Nat,vs=[.int c,.int x]/\1<=c/\c<=6/\x<2^c/\∀(r:Y1) (H':Hp) (qs:U3),H r=none->Same H H'->Ez K H' r qs (st x) c 100 40->Q (.ref r) H'
section
variable {P:U8}{w:W3}{K:U0}{mg:U4}{base:Heap}{k:Nat}{h:Heap}
theorem Y6o(F:Ab K "is_word" (top 30) .none)(X:K.In h)(G:Ng h mg)(c7:Ar P w K mg base k "is_whole" ["thing"] Nu):Ar P w K mg base (k+1) "is_word" ["thing","cells"] Kh:=by
 refine F.cal X G ["thing","cells"] (bi:=Qk λ_ _ _ _ _ _ _ _=>rfl) (len:=λ_ _ _ _ h=>by obtain⟨_,_,rfl,_⟩:=h;rfl) λd H vs Q E a h=>?_;obtain⟨x,N,rfl,c,lt,q⟩:=h
 refine⟨_,(@Aw _ _ _ _ _ (CQ (Ij (PW.pt (Ma (Fp (BP c7 a rfl (Aa (pv 0) Af))) (Nt (Fp (BP c7 a rfl (Aa (pv 1) Af)))))))
   (@Av _ _ _ (Bb MP))
   CT)
  (@Av _ _ _ (Bb (KZ (GX nA (pv 0) Ad (Ae _)) (Jt (GX vK (lY bY Yb dh lE (pv 0)) (pv 1) (Ae _))))))),?_⟩
 try dsimp only[Bu]
 refine⟨_,O,_,O,_,O,Df ⟨_,O,_,O,_,O,CP ?_⟩⟩;refine⟨_,O,_,_,O,O,_,O,Ay (λ_=>?_) (λz=>absurd (show (x:Int)>=0 by lia) z)⟩;refine⟨_,O,O,_,O,O,_,O,_,_,O,O,?_⟩;have b:=X6h c lt;show Q (.bl (decide (((Builtin.Int.intBits ((x:Nat):Int):Nat):Int)<=(N:Int)))) H;rw[Cj (by lia)];exact q
def sY:Sp:=λvs H Q _=>∃c x:Nat,vs=[.int c,.int x]/\1<=c/\c<=6/\x<2^c/\Q .non H
theorem X0f{tM:Tok}(gM:mg "MOST_CELLS"=some (.int 6 tM))(F:Ab K "check_beginning" (top 37) .none)(X:K.In h)(G:Ng h mg)(c7:Ar P w K mg base k "is_whole" ["thing"] Nu)(eB:Ar P w K mg base k "is_word" ["thing","cells"] Kh):Ar P w K mg base (k+1) "check_beginning" ["cells","word"] sY:=by
 refine F.cal X G ["cells","word"] (bi:=Qk λ_ _ _ _ _ _ _ _=>rfl) (len:=λ_ _ _ _ h=>by obtain⟨_,_,rfl,_⟩:=h;rfl) λf H vs Q E a h=>?_;obtain⟨c,x,rfl,c1,b,d,e⟩:=h
 refine⟨_,(@Aw _ _ _ _ _ (CQ (PW.pt (Jb (Ij (Fp (BP c7 a rfl (Aa (pv 0) Af)))) (Jb (Bx Q9 (pv 0) Ad (Ae _)) (La (Bx MK (pv 0) (HY (v:=.int 6) rfl gM ⟨tM,O⟩) (Ae _))))))
   (@Av _ _ _ Ml)
   CT)
  (@Av _ _ _ (CQ (Ij (Fp (BP eB a rfl (Aa (pv 1) (Aa (pv 0) Af)))))
   (@Av _ _ _ Ml)
   CT))),?_⟩
 try dsimp only[Bu]
 refine⟨_,O,_,O,_,O,CP ⟨_,O,_,_,O,O,_,O,Ay (λz=>absurd z (by lia)) (λ_=>⟨_,O,_,_,O,O,_,O,Ay (λz=>absurd z (by lia)) (λ_=>?_)⟩)⟩⟩;exact⟨_,O,_,O,x,c,O,b,d,_,O,CP e⟩
theorem Y1y{D:Y1}{oc:W4}{od:W7}{n:Nat}{sl:W6}{t0:Tok}(l:K.lookup D=some ⟨oc,od,.seq #[.int 0 t0] n,sl⟩):Jf K "start" (top 36) (.ref D) ["cells","word"]:=by
 intro kV e f g c ct s us X d;match us,d with
 | [a,b],_=>exact BindsTo.of_defaults rfl (X _ _ l) rfl rfl rfl
theorem Y9t{dV:W4}(F:Ab K "start" (top 36) dV)(bi:Jf K "start" (top 36) dV ["cells","word"])(X:K.In h)(G:Ng h mg)(B:Bs mg){aO aZ:Y1}(gO:mg "ONE"=some (.ref aO))(gZ:mg "NOUGHT"=some (.ref aZ))(kO:∀H,Bh K H aO ((1,0,0,0),0))(kZ:∀H,Bh K H aZ ((0,0,0,0),0))
  (cS:Ar P w K mg base k "check_beginning" ["cells","word"] sY):Ar P w K mg base (k+1) "start" ["cells","word"] (m9 K):=by
 refine F.cal X G ["cells","word"] (len:=λ_ _ _ _ h=>by obtain⟨_,_,rfl,_⟩:=h;rfl) (bi:=bi) λI H vs Q E l h=>?_;obtain⟨c,x,rfl,c1,o,s,C⟩:=h;have A:=Hq o;have m:(1:Int)*2^((c:Int).toNat)=((2^c:Nat):Int):=ipow c;have u:(1*2^((c:Int).toNat):Int).toNat=2^c:=by rw[m,L_]
 refine⟨_,(@Aw _ _ _ _ _ (Nr (BP cS l rfl (Aa (pv 0) (Aa (pv 1) Af))))
  (@Av _ _ _ (Bb (KY rfl (Bw.of (Nc:=["place","word"]) (mp:=[none,some 1]) (by kernel_rfl)) (Mp rfl B.range (Aa (Ag Hy Ad (pv 0)) Af)) (λ_ _ _ _=>(CN (i:=0) (show (["place","word"]:W0).Nodup by decide +kernel) rfl (Or.inl rfl))) (λ_ _ _ _=>(Mj (Bx Cz (pv 0) (pv 1) (Ae _)) (HY (v:=.ref aO) rfl gO rfl) (HY (v:=.ref aZ) rfl gZ rfl))))))),?_⟩
 try dsimp only[Bu]
 refine⟨_,O,_,O,c,x,O,c1,o,s,?_⟩;refine⟨_,O,_,_,O,O,⟨1,Ie,by lia,by lia⟩,_,O,by rw[m];lia,by rw[m];lia,λacc a=>?_⟩;rw[u];refine Wj (n:=2^c) (fr:=[some (.int x)]) (λi ys H'=>∃b:List Addr,Same H H'/\H' acc=some (.lst ys)/\ys=b.map V.ref/\b.length=i/\BX K H' b (st x)) (JK A)
  ⟨[],BW a _,Az,O,O,(λ_ _ z=>by cases z)⟩ ?_ ?_
 ·rintro i ys H2 N hi D ⟨b,g,d,rfl,f,v2⟩ t;have fin:∀(r:Y1),Bh K H2 r (st x i)->N (.ref r) H2:=λr l=>by
   refine t (.ref r) H2 d ⟨b++[r],Gn g a,Az,by rw[Dt];rfl,by simp[f],?_⟩;have:=Qy (ys:=b.map V.ref++[.ref r]) (xs:=b.map V.ref) (S_ v2 (Same.refl _) l) d;intro j p y;have q:=this j p y;have e:(if j=b.length then st x i else st x j)=st x j:=by
    by_cases e:j=b.length
    ·rw[if_pos e,e,f]
    ·rw[if_neg e]
   rw[<-e];exact q
  refine⟨_,O,_,O,O,_,O,JZ (λe=>fin aO ?_) (λe=>fin aZ ?_)⟩
  ·have:st x i=((1,0,0,0),0):=by unfold st;rw[if_pos (by lia)]
   rw[this];exact kO _
  ·have:st x i=((0,0,0,0),0):=by unfold st;rw[if_neg (by lia)]
   rw[this];exact kZ _
 ·rintro ys H2 D ⟨b,g,d,rfl,f,v2⟩;exact C acc H2 b a g ⟨d,f,v2,λi _=>W0v x i⟩
end
theorem JX{K:U0}{a:Y1}{od:W7}{sl:W6}{n:Nat}{v1 v2 v3 v4 v5:Int}{t1 t2 t3 t4 t5:Tok}(h:K.lookup a=some ⟨.type "tuple",od,.seq #[.int v1 t1,.int v2 t2,.int v3 t3,.int v4 t4,.int v5 t5] n,sl⟩)(H:Hp):Bh K H a ((v1,v2,v3,v4),v5):=
 .inr ⟨_,_,_,h,O,O,(show 5<=sizeLine by decide),.cons ⟨_,O⟩ (.cons ⟨_,O⟩ (.cons ⟨_,O⟩ (.cons ⟨_,O⟩ (.cons ⟨_,O⟩ .nil))))⟩
end Al
namespace A_
open L2 Ba Am Pc Eu
open Al (top Bs Bh BX Ez Steps Mt Gq m9 st mj)
open El (T3 Im Kg)
open Ce (V4 sm add En fl sw DG Aj)
open Dp (Mk lay)
open Cw (ts Et)
open Fl (F0)
theorem X1e(ns:U6)(a b:Nat)(h:a<=b):∃nl:List Int,Dy (ns.map V.int) (some (a:Int)) (some (b:Int))=nl.map V.int/\nl.length<=b-a:=by
 unfold Dy;rw[HT.Wb,HT.Wb];refine⟨(ns.drop (min a (ns.map V.int).length)).take (min b (ns.map V.int).length-min a (ns.map V.int).length),by rw[List.map_take,List.map_drop],?_⟩;rw[J_];lia
theorem X6e(ns:U6):∃nl:List Int,Dy (ns.map V.int) none (some 200)=nl.map V.int/\nl.length<=200:=by
 unfold Dy;rw[show (200:Int)=((200:Nat):Int) from rfl,HT.Wb];refine⟨_,by rw[<-List.map_drop,<-List.map_take],?_⟩;rw[J_];lia
theorem uR(ns:U6):∀n:Nat,(List.replicate n (ns.map V.int)).flatten=((List.replicate n ns).flatten).map V.int
 | 0=>rfl
 | n+1=>by rw[QV,Rk,uR ns n,QV,Rk,Dt]
variable{f:Nat->A5}{c n:Nat}
theorem W0o{K:U0}{H:Hp}{l:Y1}{ps:U3}{m:Nat}(b:Ez K H l ps f c n m):Mt c f:=λw a=>(b.ok w a).amt
theorem W0t(n:Nat):Vl n Cw.z0 Zz:=⟨0,λM _=>⟨by show (0:Int)*_=0*_;simp,by show (0:Int)*_=0*_;simp,by show (0:Int)*_=0*_;simp,by show (0:Int)*_=0*_;simp⟩⟩
theorem Y8u{B G:Prop}(h:B->G)(b:B):G:=h b
theorem W0u(x w:Nat):Vl 0 (F0 x w) (st x w):=by
 unfold F0 Al.st;by_cases h:w=x
 ·rw[if_pos h,if_pos h];have:=Vl.one 0;rw[show sm (2^0) Cw.one=Cw.one from rfl]at this;exact this
 ·rw[if_neg h,if_neg h];exact W0t 0
variable{M:Int}
theorem ZP{a h:Int}(z:Sz n a)(h0:0<=h):Sz (n+M.toNat+1) (a*p2 (M-h)):=(z.mul (El.PL (M-h).toNat)).mono (by lia)
theorem Z9{x:A5}(z:H_ n x.1.1 x.1.2.1 x.1.2.2.1 x.1.2.2.2)(h0:0<=x.2):Sz (2*(n+M.toNat+1)+3) (Hw.G7 x M)/\Sz (2*(n+M.toNat+1)+3) (Hw.Es x M):=by
 have a:=ZP (M:=M) z.z1 h0;have b:=ZP (M:=M) z.z2 h0;have c:=ZP (M:=M) z.z3 h0;have d:=ZP (M:=M) z.z4 h0;constructor
 ·exact((((a.mul a).add (b.mul b)).add (c.mul c)).add (d.mul d)).mono (by lia)
 ·exact((((a.mul b).add (b.mul c)).add (c.mul d)).sub (d.mul a)).mono (by lia)
theorem Pu{f:Nat->A5}{n:Nat}{M:Int}:∀i:Nat,(∀w,w<i->H_ n (f w).1.1 (f w).1.2.1 (f w).1.2.2.1 (f w).1.2.2.2/\0<=(f w).2)->Sz (2*(n+M.toNat+1)+3+i) (Hw.Cm f i M)/\Sz (2*(n+M.toNat+1)+3+i) (Hw.CW f i M)
 | 0,_=>⟨Lz _,Lz _⟩
 | i+1,h=>by
  obtain⟨a,b⟩:=Pu i λw e=>h w (by lia);obtain⟨c,d⟩:=Z9 (M:=M) (h i (by lia)).1 (h i (by lia)).2;exact⟨(a.add c).mono (by lia),(b.add d).mono (by lia)⟩
theorem vV{V:Ce.Bv}(h:∀w,w<2^c->Vl n (V w) (f w)):∃M0:Int,∀M,M0<=M->Hw.Cm f (2^c) M=p2 (M-n)*p2 (M-n)*Fl.sq Fl.nt c V/\Hw.CW f (2^c) M=p2 (M-n)*p2 (M-n)*Fl.sq Fl.nr c V:=by
 have all:∀k,k<=2^c->∃M0:Int,∀M,M0<=M->Hw.BL (λw=>Hw.G7 (f w) M) k=p2 (M-n)*p2 (M-n)*Hw.BL (λw=>Fl.nt (V w)) k/\Hw.BL (λw=>Hw.Es (f w) M) k=p2 (M-n)*p2 (M-n)*Hw.BL (λw=>Fl.nr (V w)) k:=by
  intro k;induction k with
  | zero=>exact λ_=>⟨0,λM _=>⟨by show (0:Int)=_*0;simp,by show (0:Int)=_*0;simp⟩⟩
  | succ k ih =>
   intro m;obtain⟨A,i⟩:=ih (by lia);obtain⟨B,g⟩:=h k (by lia);refine⟨max A B,λM o=>?_⟩;obtain⟨l,j⟩:=i M (by omega);obtain⟨d,e,b,a⟩:=g M (by lia);have d:Hw.va (f k) M=_:=d;have e:Hw.vb (f k) M=_:=e;have b:Hw.vc (f k) M=_:=b;have a:Hw.vd (f k) M=_:=a;constructor
   ·show Hw.BL _ k+Hw.G7 (f k) M=_*(Hw.BL _ k+Fl.nt (V k));rw[l];unfold Hw.G7 Ia.tt Fl.nt;rw[d,e,b,a];grind
   ·show Hw.BL _ k+Hw.Es (f k) M=_*(Hw.BL _ k+Fl.nr (V k));rw[j];unfold Hw.Es Ia.rr Fl.nr;rw[d,e,b,a];grind
 exact all _ (Bc _)
theorem asked{x:Nat}{m:Mk}{row:List Mv}{T:List Cw.Te}{g:Nat->A5}{X Y Z:Int}(hx:x<2^c)(om:Ik c m)(em:(m.1+pc (m.2.1&&&m.2.2))%2=0)(vo:∀y∈row,DG c y)(su:Et 60 m row T)(p:2*(2^60:Int)*X=(2^60+(ts T (F0 x) x).1)*Z)(j:2*(2^60:Int)*Y=(ts T (F0 x) x).2.1*Z)
  (hf:∀w,w<2^c->Vl n (Aj row (F0 x) w) (f w)) (hg:∀w,w<2^c->Vl n (add (Aj row (F0 x) w) (lay m (Aj row (F0 x)) w)) (g w)) (fM:∀w,w<2^c->(f w).2<=M) (gM:∀w,w<2^c->(g w).2<=M):
  Hw.CW f (2^c) M=0/\4*X*Hw.Cm f (2^c) M=Hw.Cm g (2^c) M*Z/\4*Y*Hw.Cm f (2^c) M=Hw.CW g (2^c) M*Z:=by
 obtain⟨A,D⟩:=vV hf;obtain⟨B,v⟩:=vV hg;obtain⟨N,i⟩:∃N:Int,A<=N/\B<=N/\M<=N:=⟨max A (max B M),by lia,by lia,by lia⟩;obtain⟨h,o⟩:=D N i.1;obtain⟨g1,g2⟩:=v N i.2.1;obtain⟨l1,l2⟩:=Hw.xQ fM i.2.2;obtain⟨l3,l4⟩:=Hw.xQ gM i.2.2;rw[l1]at h;rw[l2]at o;rw[l3]at g1;rw[l4]at g2;obtain⟨a,b,d,e,t⟩:∃a b d e,ts T (F0 x) x=(a,b,d,e):=⟨_,_,_,_,O⟩;obtain⟨_,_,C,z,t2,u⟩:=Fl.look hx om.f (vD em) vo su t;rw[t]at p j;have p:2*(2^60:Int)*X=(2^60+a)*Z:=p;have j:2*(2^60:Int)*Y=b*Z:=j;rw[C]at h;rw[z,Yl]at o;have l:p2 (N-M)*p2 (N-M)≠0:=Oi (MN _) (MN _);have s:(2^60:Int)≠0:=by decide
 generalize (2^60:Int)=P at *;generalize p2 (N-M)*p2 (N-M)=q at *;generalize p2 (N-n)*p2 (N-n)=k at *;generalize (4:Int)^row.length=L at *;refine⟨(Ra.mp o).resolve_left l,?_,?_⟩
 ·apply K3 (Oi l s);have e1:q*P*(4*X*Hw.Cm f (2^c) M)=4*X*P*(q*Hw.Cm f (2^c) M):=by grind
  have e2:q*P*(Hw.Cm g (2^c) M*Z)=Z*P*(q*Hw.Cm g (2^c) M):=by grind
  rw[e1,e2,h,g1];have r:Z*P*(k*Fl.sq Fl.nt c (λw=>add (Aj row (F0 x) w) (lay m (Aj row (F0 x)) w)))=Z*k*(P*Fl.sq Fl.nt c (λw=>add (Aj row (F0 x) w) (lay m (Aj row (F0 x)) w))):=by grind
  rw[r,t2];grind
 ·apply K3 (Oi l s);have e1:q*P*(4*Y*Hw.Cm f (2^c) M)=4*Y*P*(q*Hw.Cm f (2^c) M):=by grind
  have e2:q*P*(Hw.CW g (2^c) M*Z)=Z*P*(q*Hw.CW g (2^c) M):=by grind
  rw[e1,e2,h,g2];have r:Z*P*(k*Fl.sq Fl.nr c (λw=>add (Aj row (F0 x) w) (lay m (Aj row (F0 x)) w)))=Z*k*(P*Fl.sq Fl.nr c (λw=>add (Aj row (F0 x) w) (lay m (Aj row (F0 x)) w))):=by grind
  rw[r,u];grind
section
variable {P:U8}{w:W3}{K:U0}{mg:U4}{base:Heap}{k:Nat}{h:Heap}
theorem Kv:Bf ["_law_script","_law_head","_law_cells","_law_word","_law_f","_law_s","_law_mark","_law_numbers","_law_row","_law_kept","_law_place_here","_law_found","_law_board","_law_led","_law_both","_law_most","_law_whole_here","_law_half"] ["_law_script"] (CV (top 89)):=fS
theorem X8n(hn:n<=63){f:Y1}{fd:FuncData}(F:Zu K "law" "law" (top 89) f fd)(B:Bs mg)(cG:Ar P w K mg base k "_law_cell_at" ["_law_script","_law_k"] (Kq K))(cT:Ar P w K mg base k "_law_cells_by" ["_law_cell"] tE)(cZ:Ar P w K mg base k "_law_mark_by" ["_law_cell","_law_cells"] uX)(cK:Ar P w K mg base k "_law_bits" ["_law_number"] E_)
  (dA:Ar P w K mg base k "_law_row_by" ["_law_numbers","_law_cells","_law_wild"] (tL K)) (dF:Ar P w K mg base k "_law_place" ["_law_row"] tK) (d6:Ar P w K mg base k "_law_refused" ["_law_word","_law_row","_law_mark","_law_place_here"] qM) (dQ:Ar P w K mg base k "sum_share" ["word","row","mark"] (N_ K)) (cU:Ar P w K mg base k "_law_is_share" ["_law_found"] Im)
  (dS:Ar P w K mg base k "_law_lay" ["_law_board","_law_mark"] (Km K)) (eI:Ar P w K mg base k "run" ["board","row"] (Gq K)) (eF:Ar P w K mg base k "start" ["cells","word"] (m9 K)) (dN:Ar P w K mg base k "_law_plus" ["_law_one","_law_other","_law_sign"] (mj K)) (cP:Ar P w K mg base k "_law_weights" ["_law_board","_law_most"] (Kg K)):
  Em P w K mg base JF (k+1) f fd ["_law_script"] (JM K n):=by
 have nd:=Kv.nd;refine F.ok Kv (λvs H Q E h=>?_) (λi6 A outer s H vs Q E o h=>?_)
 ·obtain⟨a,ns,rfl,_⟩:=h;rfl
 obtain⟨L,nl,rfl,hS,i3,lt,kk⟩:=h;have sl:(1000000:Nat)<sizeLine:=by decide
 refine⟨_,(@Eo _ _ _ _ _ (@BR _ _ 1 _ _ _ _ nd rfl (Or.inl rfl) (BP cG o rfl (Aa (pv 0) (Aa Ad Af))) rfl (.inl rfl))
  (@Eo _ _ _ _ _ (@BR _ _ 2 _ _ _ _ nd rfl (Or.inl rfl) (BP cT o rfl (Aa (pv 1) Af)) rfl (.inl rfl))
  (@Eo _ _ _ _ _ (@BR _ _ 3 _ _ _ _ nd rfl (Or.inl rfl) (Ag Ec (BP cG o rfl (Aa (pv 0) (Aa Ad Af))) (Ag Hy Ad (pv 2))) rfl (.inl rfl))
  (@Eo _ _ _ _ _ (XR (Ld Wc (BP cZ o rfl (Aa (BP cG o rfl (Aa (pv 0) (Aa Ad Af))) (Aa (pv 2) Af))) (Jv Ad) Nq) (Ka rfl (Dz (CN (i:=4) nd rfl (Or.inl rfl)) (Dz (CN (i:=5) nd rfl (Or.inl rfl)) Kc))))
  (@Eo _ _ _ _ _ (@BR _ _ 6 _ _ _ _ nd rfl (Or.inl rfl) (@Dj _ _ _ _ _ (Aa (Ag Ec (Ag DX (BP cK o rfl (Aa (Ag Fg (pv 4) (pv 5)) Af)) (Ag JB Ad (Ag Ec (Ag Jd (pv 1) Ad) Ad))) Ad) (Aa (pv 4) (Aa (pv 5) Af)))) rfl (.inl rfl))
  (@Eo _ _ _ _ _ (@BR _ _ 7 _ _ _ _ nd rfl (Or.inl rfl) (Ld sS (pv 0) (Jv Ad) (Jv (Ag DX Ad (@Ai _ _ _ _ _ _ _ Dl (@PB _ _ _ _ (@Aa _ _ _ _ _ Ad (@Aa _ _ _ _ _ Ad Af rfl) rfl)) (Qz kW rfl B.int Rx (@Aa _ _ _ _ _ (GX MK (pv 2) Ad (Ae _)) Af rfl)) (λ_ _=>rfl))))) rfl (.inl rfl))
  (@Eo _ _ _ _ _ (CQ (PW.pt (Ma (Bx Q9 (pv 2) Ad (Ae _)) (Nt (Bx Cz (Ag Ec (Ag Jd (pv 1) Ad) Ad) Ad (Ae _)))))
   (@Av _ _ _ (@BR _ _ 7 _ _ _ _ nd rfl (Or.inl rfl) (Ld sS (Ag X8e (pv 7) Ad) Nq (Jv Ad)) rfl (.inl rfl)))
   CT)
  (@Eo _ _ _ _ _ (@BR _ _ 8 _ _ _ _ nd rfl (Or.inl rfl) (BP dA o rfl (Aa (pv 7) (Aa (pv 2) (Aa (GX Cz (Ag Ec (Ag Jd (pv 1) Ad) Ad) Ad (Ae _)) Af)))) rfl (.inl rfl))
  (@Aw _ _ _ _ _ (@BR _ _ 9 _ _ _ _ nd rfl (Or.inl rfl) (Qz lN rfl B.list boot_list (Aa (pv 8) Af)) rfl (.inl rfl))
  (@Aw _ _ _ _ _ (@BR _ _ 10 _ _ _ _ nd rfl (Or.inl rfl) (BP dF o rfl (Aa (pv 8) Af)) rfl (.inl rfl))
  (@Aw _ _ _ _ _ (CQ (Bx X4n (pv 10) xJ (Ae _))
   (@Av _ _ _ (Bb (KZ (BP d6 o rfl (Aa (pv 3) (Aa (pv 8) (Aa (pv 6) (Aa (pv 10) Af))))) (Jt (GX (X4r o.units) (pv 8) (pv 9) (Ae _))))))
   CT)
  (@Aw _ _ _ _ _ (@BR _ _ 11 _ _ _ _ nd rfl (Or.inl rfl) (BP dQ o rfl (Aa (pv 3) (Aa (pv 8) (Aa (pv 6) Af)))) rfl (.inl rfl))
  (@Aw _ _ _ _ _ (CQ (PW.pt (Jb (Ij (Fp (BP cU o rfl (Aa (pv 11) Af)))) (La (Bx (X4p o.units) (pv 8) (pv 9) (Ae _)))))
   (@Av _ _ _ (Bb MP))
   CT)
  (@Aw _ _ _ _ _ (@BR _ _ 12 _ _ _ _ nd rfl (Or.inr rfl) (BP eI o rfl (Aa (BP eF o rfl (Aa (pv 2) (Aa (pv 3) Af))) (Aa (pv 8) Af))) rfl (.inl rfl))
  (@Aw _ _ _ _ _ (@BR _ _ 13 _ _ _ _ nd rfl (Or.inr rfl) (BP dS o rfl (Aa (pv 12) (Aa (pv 6) Af))) rfl (.inl rfl))
  (@Aw _ _ _ _ _ (Wm (i:=14) rfl nd rfl rfl (Bw.of (Nc:=["_law_k","_law_board","_law_led"]) (mp:=[none,some 12,some 13]) (by kernel_rfl)) (Mp rfl B.range (Aa (DP Jw rfl B.len JR (Aa (pv 12) Af)) Af)) (λ_ _ _ _=>(CN (i:=0) (show (["_law_k","_law_board","_law_led"]:W0).Nodup by decide +kernel) rfl (Or.inl rfl))) (λ_ _ _ _=>(BP dN o rfl (Aa (Ai jw (pv 1) (pv 0) (λ_ _=>rfl)) (Aa (Ai jw (pv 2) (pv 0) (λ_ _=>rfl)) (Aa Ad Af))))) rfl)
  (@Aw _ _ _ _ _ (@BR _ _ 15 _ _ _ _ nd rfl (Or.inl rfl) (DP (Y8g rfl) rfl B.max boot_max (Aa (KY rfl (Bw.of (Nc:=["_law_one"]) (mp:=[none]) (by kernel_rfl)) (Je (Ag X8g (pv 12) (pv 14))) (λ_ _ _ _=>(CN (i:=0) (show (["_law_one"]:W0).Nodup by decide +kernel) rfl (Or.inl rfl))) (λ_ _ _ _=>(Ai mK (pv 0) Ad (λ_ _=>rfl)))) Af)) rfl (.inl rfl))
  (@Aw _ _ _ _ _ (@BR _ _ 16 _ _ _ _ nd rfl (Or.inl rfl) (BP cP o rfl (Aa (pv 12) (Aa (pv 15) Af))) rfl (.inl rfl))
  (@Aw _ _ _ _ _ (@BR _ _ 17 _ _ _ _ nd rfl (Or.inl rfl) (BP cP o rfl (Aa (pv 14) (Aa (pv 15) Af))) rfl (.inl rfl))
  (@Aw _ _ _ _ _ (CQ (Bx LC (Ai Aq (pv 16) Ad (λ_ _=>rfl)) Ad (Ae _))
   (@Av _ _ _ (Bb MP))
   CT)
  (@Av _ _ _ (Bb (KZ (GX Cz (Ag Ey (Ag JB Ad (Ai Aq (pv 11) Ad (λ_ _=>rfl))) (Ai Aq (pv 16) Ad (λ_ _=>rfl))) (Ag Ey (Ai Aq (pv 17) Ad (λ_ _=>rfl)) (Ai Aq (pv 11) Ad (λ_ _=>rfl))) (Ae _)) (Jt (GX Cz (Ag Ey (Ag JB Ad (Ai Aq (pv 11) Ad (λ_ _=>rfl))) (Ai Aq (pv 16) Ad (λ_ _=>rfl))) (Ag Ey (Ai Aq (pv 17) Ad (λ_ _=>rfl)) (Ai Aq (pv 11) Ad (λ_ _=>rfl))) (Ae _)))))))))))))))))))))))))),?_⟩
 try dsimp only[Bu]
 refine⟨λσ H'=>H=H'/\∃hd:Int,σ=[some (.ref L),some (.int hd),none,none,none,none,none,none,none,none,none,none,none,none,none,none,none,none],⟨_,O,L,nl,0,O,hS,Gf 0,O,_,O⟩,?_⟩;rintro σ _ ⟨rfl,hd,rfl⟩;refine⟨λσ H'=>H=H'/\∃c:Nat,1<=c/\c<=6/\σ=[some (.ref L),some (.int hd),some (.int c),none,none,none,none,none,none,none,none,none,none,none,none,none,none,none],⟨_,O,hd,O,λc c1 R=>⟨O,c,c1,R,O⟩⟩,?_⟩;rintro σ _ ⟨rfl,c,c1,R,rfl⟩;have p6:=Hq R;have d2:(1:Int)*2^((c:Nat):Int).toNat=((2^c:Nat):Int):=by rw[Jk,L_];push_cast;rfl
 have cs:Xl 1 (c:Int):=⟨1,Ie,by lia,by lia⟩;have d1:(0:Int)<1*2^((c:Nat):Int).toNat:=by rw[d2];exact Int.natCast_pos.mpr (Lz c)
 refine⟨λσ H'=>H=H'/\∃x:Nat,x<2^c/\σ=[some (.ref L),some (.int hd),some (.int c),some (.int x),none,none,none,none,none,none,none,none,none,none,none,none,none,none],?_,?_⟩
 ·refine⟨_,O,L,nl,1,O,hS,by decide,_,O,_,_,O,O,cs,_,_,O,O,d1,O,(cell nl 1%(1*2^((c:Nat):Int).toNat)).toNat,?_,?_⟩
  ·have:=M9 (cell nl 1) d1;rw[d2]at this ⊢;omega
  ·rw[VR (J6 _ (Og d1))];rfl
 rintro σ _ ⟨rfl,x,hx,rfl⟩;refine⟨λσ H'=>Same H H'/\∃I C:Nat,I<2^c/\C<2^c/\σ=[some (.ref L),some (.int hd),some (.int c),some (.int x),some (.int I),some (.int C),none,none,none,none,none,none,none,none,none,none,none,none],?_,?_⟩
 ·refine⟨_,O,L,nl,2,O,hS,by decide,_,O,_,c,O,R,λr H1 q I C S1 e1 q4 hf hs=>?_⟩;refine⟨1,O,r,_,O,Ao.of e1,.inr ⟨O6 _ _ _,λt ht=>?_⟩⟩;rw[WW];exact⟨t,_,O,Ao.of Az,O,_,_,O,_,_,O,O,S1.trans (BW ht _),I,C,hf,hs,O⟩
 rintro σ H1 ⟨S1,I,C,hf,hs,rfl⟩;refine⟨λσ H'=>Same H H'/\∃(pm:Y1) (m:Mk),Ao K H' pm (Eh m)/\Ik c m/\(m.1+pc (m.2.1&&&m.2.2))%2=0/\σ=[some (.ref L),some (.int hd),some (.int c),some (.int x),some (.int I),some (.int C),some (.ref pm),none,none,none,none,none,none,none,none,none,none,none],?_,?_⟩
 ·refine⟨_,O,_,O,_,_,O,O,I&&&C,WY,_,O,_,_,O,O,⟨by decide,by decide⟩,_,_,O,O,(by decide:(0:Int)<2),_,_,O,O,.inl ⟨by decide,by decide⟩,_,_,O,O,_,_,O,O,(by decide:(0:Int)<4),_,O,_,O,t3,λpm f6=>?_⟩;have a0:=J6 (((pc (I&&&C):Nat):Int)+2*(hd / 144%2)) (show (4:Int)≠0 by decide);have a1:=M9 (((pc (I&&&C):Nat):Int)+2*(hd / 144%2)) (show (0:Int)<4 by decide);refine⟨S1.trans (BW f6 _),pm,((((pc (I&&&C):Nat):Int)+2*(hd / 144%2))%4 |>.toNat,I,C),Ao.of ?_,⟨by show Int.toNat _<4;lia,hf,hs⟩,by show (Int.toNat _+pc (I&&&C))%2=0;lia,O⟩;rw[Az];show some (HO.tup [V.int _,_,_])=some (HO.tup [V.int ((Int.toNat _:Nat):Int),_,_]);rw[VR a0]<;>rfl
 rintro σ H2 ⟨S2,pm,m,em,om,ev,rfl⟩;refine⟨λσ H'=>Same H2 H'/\∃(ln:Y1) (nn:U6),H' ln=some (.lst (nn.map V.int))/\nn.length<=24/\σ=[some (.ref L),some (.int hd),some (.int c),some (.int x),some (.int I),some (.int C),some (.ref pm),some (.ref ln),none,none,none,none,none,none,none,none,none,none],?_,?_⟩
 ·refine⟨_,O,3,O,t2,λlq h3=>?_⟩;have s5:=BW h3 (.lst [.int 24,.int 12]);have q5:upd H2 lq (.lst [.int 24,.int 12]) lq=some (.lst [.int 24,.int 12]):=Az;generalize upd H2 lq (.lst [.int 24,.int 12])=H5 at s5 q5 ⊢;have ix:∃mo:Nat,mo<=24/\GC [V.int 24,.int 12] (if decide ((4:Int)<(c:Int))=true then 1 else 0)=some (.int mo):=by
   by_cases c3:(4:Int)<(c:Int)
   ·rw[if_pos (Cj c3)];exact⟨12,by decide,O⟩
   ·rw[if_neg (by rw[Cd c3];decide)];exact⟨24,by decide,O⟩
  obtain⟨mo,hm,e⟩:=ix;refine⟨_,O,_,_,O,O,.inr ⟨_,O,lq,_,_,.int mo,O,O,Ax.of q5,e,_,_,O,O,_,O,L,_,O,(S2.trans s5).seq hS,λcp f2=>?_⟩⟩;obtain⟨nn,en,ln⟩:=X1e nl 3 (3+mo) (by lia);have en:Dy (nl.map V.int) (some 3) (some (3+(mo:Int)))=nn.map V.int:=en;rw[en];exact⟨s5.trans (BW f2 _),cp,nn,Az,by lia,O⟩
 rintro σ H3 ⟨G,e4,b5,q3,f3,rfl⟩;refine⟨λσ H'=>Same H2 H'/\∃(ln:Y1) (nn:U6),H' ln=some (.lst (nn.map V.int))/\nn.length<=200/\σ=[some (.ref L),some (.int hd),some (.int c),some (.int x),some (.int I),some (.int C),some (.ref pm),some (.ref ln),none,none,none,none,none,none,none,none,none,none],?_,?_⟩
 ·refine Y8u (λno=>⟨_,O,_,_,O,O,_,O,Ay (λ_=>⟨_,O,_,_,O,O,⟨by decide,by decide⟩,_,_,O,O,(by decide:(0:Int)<9),O,_,O,JZ (λ_=>?_) (λ_=>no)⟩) (λ_=>CP no)⟩) ?_
  ·refine⟨_,O,e4,200,_,O,O,q3,by decide,by decide,by rw[Bj];show b5.length*200<=sizeLine;lia,λlp f'=>?_⟩;rw[show (200:Int).toNat=200 from rfl,uR];have s4:=BW f' (.lst (((List.replicate 200 b5).flatten).map V.int));refine⟨200,O,lp,_,O,Ax.of Az,λlc c9=>?_⟩;obtain⟨nn,en,l2⟩:=X6e ((List.replicate 200 b5).flatten);rw[en];exact⟨(G.trans s4).trans (BW c9 _),lc,nn,Az,l2,O⟩
  ·exact⟨G,e4,b5,q3,by lia,O⟩
 clear q3 f3 G;rintro σ H3 ⟨G,ln,nn,q3,d,rfl⟩;have S3:=S2.trans G;refine⟨λσ H'=>Same H2 H'/\∃(lr:Y1) (row:List Mv),Cv H' lr row/\row.length<=200/\(∀x∈row,DG c x)/\σ=[some (.ref L),some (.int hd),some (.int c),some (.int x),some (.int I),some (.int C),some (.ref pm),some (.ref ln),some (.ref lr),none,none,none,none,none,none,none,none,none],?_,?_⟩
 ·refine⟨_,O,_,O,_,O,_,_,O,O,⟨by decide,by decide⟩,_,_,O,O,(by decide:(0:Int)<4),O,?_⟩;exact⟨ln,nn,c,_,O,Ax.of q3,d,c1,R,λl H' row fr S' R' l' h5 co=>⟨G.trans S',l,row,R',by lia,h5,O⟩⟩
 clear q3 d G S3;rintro σ H5 ⟨d5,lr,row,R5,d,vo,rfl⟩;have S5:=S2.trans d5;obtain⟨rp,d4,h6⟩:=id R5;have a':Ib (row.map mm):=λm hm=>by
  obtain⟨x,_,rfl⟩:=Jl.mp hm;exact yc x
 refine⟨_,O,lr,_,O,.inl (Ax.of d4),λlk f1=>?_⟩;have s6:=BW f1 (.lst (rp.map V.ref));have q6:upd H5 lk (.lst (rp.map V.ref)) lk=some (.lst (rp.map V.ref)):=Az;generalize upd H5 lk (.lst (rp.map V.ref))=H6 at s6 q6 ⊢;have R6:=R5.same s6;have d3:=s6 _ _ d4;have b0:=h6.same s6;have e6:=(d5.trans s6).tup em;refine⟨_,O,lr,row,O,R6,d,?_⟩;cases pl:G6 0 row with
 | some i =>
  refine⟨_,O,O,_,O,Iv (λ_=>?_) (λz=>absurd (M6 z) (by intro z;cases z))⟩;refine⟨_,O,_,O,_,O,_,O,_,lr,_,row,i,O,R6,d,pl,λH7 S7=>⟨_,O,Df ?_⟩⟩;refine⟨_,O,_,O,lr,lk,rp,rp,row.map mm,row.map mm,O,O,S7 _ _ d3,S7 _ _ q6,b0.same S7,b0.same S7,a',a',?_⟩;rw[Cj rfl];exact kk _
 | none =>
  refine⟨_,O,O,_,O,Iv (λz=>absurd rfl (VP z)) (λ_=>?_)⟩;refine⟨_,O,_,O,_,O,x,lr,pm,m,row,c,O,e6,R6,om,R,hx,ev,vo,d,pl,λr7 H7 T X Y Z S7 e7 su Zp co hX hY sz=>?_⟩;refine⟨_,O,r7,X,Y,Z,O,e7,Zp,co,λH8 S8=>⟨_,O,CP ?_⟩⟩;have a3:=S7.trans S8;refine⟨_,O,_,O,lr,lk,rp,rp,row.map mm,row.map mm,O,O,a3 _ _ d3,a3 _ _ q6,b0.same a3,b0.same a3,a',a',_,O,?_⟩;rw[Cj rfl];refine CP ?_;have ml:(row.map gm).length=row.length:=Bj _;refine⟨_,O,_,O,c,x,O,c1,R,hx,λh7 H9 e5 _ S9 B9=>?_⟩;have c0:=a3.trans S9;obtain⟨h8,h4⟩:=X7t (R6.same c0) vo d;refine⟨_,O,h7,lr,e5,h8,st x,c,100,40,row.map gm,O,h4,B9,R,by decide,by decide,λlb i5 ps J _ c4 b4 Tf=>?_⟩;rw[ml]at b4;have b':=c0.trans c4;refine⟨_,O,_,O,lb,pm,ps,J,c,_,_,m,O,b4,R,b'.tup e6,om,λld h0 qd _ b6 U=>?_⟩;have BB:=b4.same b6;have a6:=BB.len;have i4:=U.len;have hn:(((ps.map V.ref).length:Nat):Int).toNat=2^c:=by rw[Bj,a6];rfl
  have vB:∀w,w<2^c->Vl (0+row.length) (Aj row (F0 x) w) (J w):=(ug R vo (W0o B9) (λw _=>W0u x w) Tf).1;have vL:=X8z om vB;refine⟨_,O,lb,_,O,.inl (Ax.of BB.lst),_,O,by lia,by rw[Bj];lia,λacc b9=>?_⟩;rw[hn];refine Wj (lo:=0) (n:=2^c) (fr:=[some (.ref lb),some (.ref ld)]) (λi ys H'=>Same h0 H'/\H' acc=some (.lst ys)/\∃(u:U3) (z:Nat->A5),ys=u.map V.ref/\u.length=i/\BX K H' u z/\(∀w,w<i->Cr 203000 240 (z w)/\Vl (0+row.length) (add (Aj row (F0 x) w) (lay m (Aj row (F0 x)) w)) (z w))) (by lia) ⟨BW b9 _,Az,[],(λ_=>Zz),O,O,(λi q hq=>nomatch hq),λw v=>absurd v (Ly _)⟩ ?_ ?_
  ·rintro i ys a5 N hi f0 ⟨g,a9,u,z,rfl,D,b3,a4⟩ kN;have a1:=Yo (ps:=ps) (j:=0+(i:Int)) (show i<ps.length by lia) (by lia);have a2:=Yo (ps:=qd) (j:=0+(i:Int)) (show i<qd.length by lia) (by lia);have b1:=(BB.vals i _ (Di (show i<ps.length by lia))).same g;have b2:=(U.vals i _ (Di (show i<qd.length by lia))).same g;have o1:=BB.ok i hi;have o2:=U.ok i hi;refine⟨_,O,_,O,lb,_,_,_,O,O,Ax.of (g _ _ BB.lst),a1,_,O,_,O,ld,_,_,_,O,O,Ax.of (g _ _ U.lst),a2,?_⟩;refine⟨_,_,J i,layW m J i,1,_,_,O,.inl rfl,b1,b2,o1,o2,by lia,by lia,λr8 e0 x8 c' e8 s8 z8=>?_⟩;have a8:=c' _ _ a9;have n1:=o1.amt.nn;have n2:=o2.amt.nn;have m1:=o1.le;have m2:=o2.le;have v8:=Vl.add (s:=1) (vB i hi) (vL i hi) n1 n2 s8.amt (by have:=s8.same;simp only[Jk]at this ⊢;exact this);rw[Ce.Nk]at v8;have o8:Cr 203000 240 x8:=⟨z8.mono (by lia),s8.amt,by have:=s8.le;lia⟩;refine kN _ _ a8 ⟨Gn (g.trans c') b9,Az,u++[r8],(λw=>if w=u.length then x8 else z w),by rw[Dt];rfl,by rw[Gh,D];rfl,Al.Qy (Al.S_ b3 c' (Bh.of e8)) a8,λw v=>?_⟩;show Cr _ _ (if w=u.length then x8 else z w)/\Vl _ _ (if w=u.length then x8 else z w);by_cases e:w=u.length
   ·rw[if_pos e];rw[e,D];exact⟨o8,v8⟩
   ·rw[if_neg e];exact a4 w (by lia)
  rintro ys a5 f0 ⟨g,a9,u,z,rfl,D,b3,a4⟩;have BF:Ez K a5 lb ps J c 203000 240:=⟨g _ _ BB.lst,BB.len,BB.vals.same g,λw v=>(BB.ok w v).mono (by lia) (by lia)⟩;have BG:Ez K a5 acc u z c 203000 240:=⟨a9,D,b3,λw v=>(a4 w v).1⟩;have vG:=λw v=>(a4 w v).2;have i1:=(b'.trans b6).trans g;have f7:=(S8.trans ((S9.trans c4).trans (b6.trans g))) _ _ e7;clear c4 b6 g BB b4 U Tf vL S9 c0 a4 b3 a9;refine⟨_,O,_,O,lb,acc,_,_,O,O,BF.lst,BG.lst,by rw[Bj,Bj,a6,D];exact Fq (Nat.add_le_add p6 p6) (by decide),λlc c9=>?_⟩;have s0:=BW c9 (.lst (ps.map V.ref++u.map V.ref));have SC:Ax K (upd a5 lc (.lst (ps.map V.ref++u.map V.ref))) lc ((ps++u).map V.ref):=by rw[Dt];exact Ax.of Az
  generalize upd a5 lc (.lst (ps.map V.ref++u.map V.ref))=e0 at *;refine⟨lc,O,⟨_,SC⟩,λac e'=>?_⟩;refine X5s (K:=K) (a:=lc) (xs:=(ps++u).map V.ref) (fr:=[]) (λi ys H'=>Same e0 H'/\H' ac=some (.lst ys)/\∃hs:List Int,ys=hs.map V.int/\hs.length=i/\(∀e∈hs,e<=240)/\(∀j,j<i->j<2^c->(J j).2∈hs)/\(∀j,j<2^c->2^c+j<i->(z j).2∈hs))
   (by rw[Bj,Gh,a6,D];exact Fq (Nat.add_le_add p6 p6) (by decide)) ⟨BW e' _,Az,[],O,O,by simp,λj hj=>absurd hj (Ly _),λj _ hj=>absurd hj (Ly _)⟩ (λi ys H' e=>e.1.seq SC) ?_ ?_
  ·rintro i xx ys c5 N d9 hy ⟨S,d0,c8,rfl,hl,he,h1,h2⟩ kN;rw[FN]at d9;obtain⟨p,hp,rfl⟩:=G3.mp d9;obtain⟨y,py,oy,q1,q2⟩:∃y:A5,Bh K c5 p y/\Cr 203000 240 y/\(i<2^c->y=J i)/\(∀j,2^c+j=i->y=z j):=by
    by_cases q:i<2^c
    ·rw[cj (by lia)]at hp;exact⟨J i,((BF.vals i p hp).same s0).same S,BF.ok i q,λ_=>rfl,λj hj=>absurd hj (by lia)⟩
    ·rw[cu (by lia),a6]at hp;have il:i-2^c<2^c:=by have:=(G4.mp hp).1;lia
     exact⟨z (i-2^c),((BG.vals _ p hp).same s0).same S,BG.ok _ il,λw=>absurd w q,λj hj=>by rw[<-hj,pA]⟩
   have SP:Ao K c5 p [.int y.1.1,.int y.1.2.1,.int y.1.2.2.1,.int y.1.2.2.2,.int y.2]:=py;refine⟨_,O,p,_,_,_,O,O,SP,O,?_⟩;refine kN _ _ d0 ⟨Gn S e',Az,c8++[y.2],by rw[Dt];rfl,by simp[hl],λe hm=>?_,λj hj hc=>?_,λj hc hj=>?_⟩
   ·rcases Gw.mp hm with w | w
    ·exact he e w
    ·rw[GK.mp w];exact oy.le
   ·by_cases e:j=i
    ·subst e;rw[<-q1 hc];simp
    ·exact Oo _ (h1 j (by lia) hc)
   ·by_cases e:2^c+j=i
    ·rw[<-q2 j e];simp
    ·exact Oo _ (h2 j hc (by lia))
  rintro ys c5 hy ⟨S,d0,c8,rfl,hl,he,h1,h2⟩;have xl:((ps++u).map V.ref).length=2^c+2^c:=by rw[Bj,Gh,a6,D]
  rw[xl]at h1 h2 hl;have i7:=Lz c;refine⟨ac,c8,O,Ax.of d0,by lia,λM i0 e3=>?_⟩;have Mm:M<=240:=he M i0;have M1:∀w,w<2^c->(J w).2<=M:=λw v=>e3 _ (h1 w (by lia) v);have M2:∀w,w<2^c->(z w).2<=M:=λw v=>e3 _ (h2 w v (by lia));have W:=s0.trans S;obtain⟨A1,A2,A3⟩:=asked hx om ev vo su hX hY vB vG M1 M2;obtain⟨z1,z2⟩:=Pu (f:=J) (n:=203000) (M:=M) (2^c) λw v=>⟨(BF.ok w v).sz,(BF.ok w v).amt.nn⟩;obtain⟨z3,z4⟩:=Pu (f:=z) (n:=203000) (M:=M) (2^c) λw v=>⟨(BG.ok w v).sz,(BG.ok w v).amt.nn⟩;refine⟨_,O,_,O,lb,ps,J,c,203000,240,M,O,BF.same W,R,by decide,by lia,M1,λa7 i2 d7 f5=>?_⟩;refine⟨_,O,_,O,acc,u,z,c,203000,240,M,O,BG.same (W.trans d7),R,by decide,by lia,M2,λc7 b7 d8 f8=>?_⟩;have W1:Ao K b7 a7 [.int (Hw.Cm J (2^c) M),.int (Hw.CW J (2^c) M)]:=Ao.of (d8 _ _ f5);have W2:Ao K b7 c7 [.int (Hw.Cm z (2^c) M),.int (Hw.CW z (2^c) M)]:=Ao.of f8;have FD:Ao K b7 r7 [.int X,.int Y,.int Z]:=Ao.of ((W.trans (d7.trans d8)) _ _ f7);have b8:∀{x y:Int}{i j:Nat},Sz i x->Sz j y->i<=1000000->j<=1000000->Gp x y:=λh h' a b=>⟨_,_,h,h',by lia⟩;obtain⟨x1,x2,x3⟩:=sz;refine⟨_,O,a7,_,_,_,O,O,W1,O,O,_,O,Ov (λe=>absurd A1 e) (λ_=>?_)⟩;have f4:Lr 4 X:=.inl ⟨by decide,by decide⟩;have h9:Lr 4 Y:=.inl ⟨by decide,by decide⟩;have w4:∀{y:Int}{i:Nat},Sz i y->Sz (3+i) (4*y):=λh=>(show Sz 3 4 by decide +kernel).mul h;refine⟨_,O,r7,_,_,_,O,O,FD,O,_,_,O,O,f4,_,O,a7,_,_,_,O,O,W1,O,_,_,O,O,b8 (w4 x1) z1 (by decide) (by lia),?_⟩;refine⟨_,O,c7,_,_,_,O,O,W2,O,_,O,r7,_,_,_,O,O,FD,O,_,_,O,O,b8 z3 x3 (by lia) (by decide),O,_,O,JZ (λ_=>?_) (λe=>absurd A2 e)⟩;refine⟨_,O,r7,_,_,_,O,O,FD,O,_,_,O,O,h9,_,O,a7,_,_,_,O,O,W1,O,_,_,O,O,b8 (w4 x2) z1 (by decide) (by lia),?_⟩;refine⟨_,O,c7,_,_,_,O,O,W2,O,_,O,r7,_,_,_,O,O,FD,O,_,_,O,O,b8 z4 x3 (by lia) (by decide),O,?_⟩;show Q (.bl (decide (V.int (4*Y*Hw.Cm J (2^c) M)=V.int (Hw.CW z (2^c) M*Z)))) b7;rw[A3,Cj rfl];exact kk _
end
end A_
noncomputable section
namespace Al
open L2 Ba
variable{l:PySem.W.OpenLaw}
theorem W0p{w:W3}{K:U0}{h:Heap}{mg:U4}{fa f:Y1}(X:K.In h)(G:Ng h mg)(hfa:mg "law"=some (.ref fa))
  {od an:W7}{sl:W6}{oc kV dc pm cd ct:W4}{aN aO aZ Dd:Y1}{odO odZ odD:W7}{slO slZ slD:W6}{ocD:W4}{nO nZ nD:Nat}{d0 o1 o2 o3 o4 o5 y1 y2 y3 y4 y5:Tok}{nN:Nat}{a1 a2 a3 a4 a5 a6 a7 b1 b2 b3 b4 b5 b6 b7 tM:Tok}{C D fi aS aH Ds A_NeverSo A_NoAmount A_NoBoard A_NoCell A_NoMark A_NoMove A_NoShare A_NoTable A_NoText A_Unguarded:Y1}{bm bm2:U5}{odS odH odQ:W7}{slS slH slQ:W6}{ocQ:W4}{nS nH nQ:Nat}{tW s0 s1 s2 h0 h1 h2 e0 e1:Tok}
  (aL:PySem.W.nsIn K mainGlobals "law"=some (some (.ref f))) (lL:K.lookup f=some ⟨oc,od,.func (PySem.W.fnOf "law" "law" (Dv (top 89)) (DW (top 89)) (CV (top 89)) .none kV dc pm an cd ct),sl⟩) (cL:PySem.W.codeIn K cd "law"=true) (kL:PySem.W.keepIn K (.ref f)=true)
  (t14:Ab K "is_whole" (top 14) .none)
  (t15:Ab K "share" (top 15) (.ref Ds))
  (t16:Ab K "common_divisor" (top 16) .none)
  (t17:Ab K "share_plus" (top 17) .none)
  (t18:Ab K "share_times" (top 18) .none)
  (t20:Ab K "halved_out" (top 20) .none)
  (t21:Ab K "plus" (top 21) .none)
  (t22:Ab K "minus" (top 22) .none)
  (t23:Ab K "times" (top 23) .none)
  (t24:Ab K "spun" (top 24) .none)
  (t25:Ab K "spun_once" (top 25) .none)
  (t26:Ab K "rooted" (top 26) .none)
  (t27:Ab K "real_share" (top 27) .none)
  (t29:Ab K "ones" (top 29) .none)
  (t30:Ab K "is_word" (top 30) .none)
  (t31:Ab K "turned_about" (top 31) .none)
  (t36:Ab K "start" (top 36) (.ref Dd))
  (t37:Ab K "check_beginning" (top 37) .none)
  (t38:Ab K "cells_of" (top 38) .none)
  (t40:Ab K "halved" (top 40) .none)
  (t43:Ab K "check_move" (top 43) .none)
  (t44:Ab K "has_move_form" (top 44) .none)
  (t45:Ab K "named_cells" (top 45) .none)
  (t46:Ab K "turned" (top 46) .none)
  (t47:Ab K "mixed" (top 47) .none)
  (t48:Ab K "mixed_at" (top 48) .none)
  (t49:Ab K "spun_where" (top 49) .none)
  (t50:Ab K "word_behind" (top 50) .none)
  (t51:Ab K "exchanged" (top 51) .none)
  (t52:Ab K "back_move" (top 52) .none)
  (t56:Ab K "is_odd_turn" (top 56) .none)
  (t57:Ab K "moved_by" (top 57) .none)
  (t58:Ab K "moved_by_mix" (top 58) .none)
  (t59:Ab K "moved_by_turn" (top 59) .none)
  (t60:Ab K "moved_by_if" (top 60) .none)
  (t61:Ab K "moved_by_pair" (top 61) .none)
  (JK:Ab K "back_sum" (top 64) .none)
  (t65:Ab K "check_summed" (top 65) .none)
  (t66:Ab K "terms_ahead" (top 66) .none)
  (t67:Ab K "terms_ahead_of_odd_turn" (top 67) .none)
  (t68:Ab K "gathered" (top 68) .none)
  (t69:Ab K "sum_share" (top 69) .none)
  (t71:Ab K "run" (top 71) .none)
  (t73:Ab K "_law_cell_at" (top 73) .none)
  (t74:Ab K "_law_whole" (top 74) .none)
  (t75:Ab K "_law_cells_by" (top 75) .none)
  (t76:Ab K "_law_low" (top 76) .none)
  (t77:Ab K "_law_spin" (top 77) .none)
  (t78:Ab K "_law_mark_by" (top 78) .none)
  (t79:Ab K "_law_bits" (top 79) .none)
  (t80:Ab K "_law_plus" (top 80) .none)
  (t81:Ab K "_law_move_by" (top 81) .none)
  (t82:Ab K "_law_lay" (top 82) .none)
  (t83:Ab K "_law_row_by" (top 83) .none)
  (t84:Ab K "_law_place" (top 84) .none)
  (t85:Ab K "_law_refused" (top 85) .none)
  (t86:Ab K "_law_divisor" (top 86) .none)
  (t87:Ab K "_law_is_share" (top 87) .none)
  (t88:Ab K "_law_weights" (top 88) .none)
  (z0:PySem.W.nsIn K mainGlobals "isinstance"=some none)
  (z1:PySem.W.nsIn K mainGlobals "int"=some none)
  (z2:PySem.W.nsIn K mainGlobals "bool"=some none)
  (z3:PySem.W.nsIn K mainGlobals "tuple"=some none)
  (z4:PySem.W.nsIn K mainGlobals "list"=some none)
  (z5:PySem.W.nsIn K mainGlobals "len"=some none)
  (z6:PySem.W.nsIn K mainGlobals "range"=some none)
  (z7:PySem.W.nsIn K mainGlobals "all"=some none)
  (z8:PySem.W.nsIn K mainGlobals "any"=some none)
  (z9:PySem.W.nsIn K mainGlobals "max"=some none)
  (z10:PySem.W.nsIn K mainGlobals "min"=some none)
  (z11:PySem.W.nsIn K mainGlobals "zip"=some none)
  (z12:PySem.W.nsIn K mainGlobals "set"=some none)
  (z13:PySem.W.nsIn K mainGlobals "str"=some none)
  (z14:PySem.W.nsIn K mainGlobals "enumerate"=some none)
  (z15:PySem.W.nsIn K mainGlobals "reversed"=some none)
  (z16:PySem.W.nsIn K mainGlobals "sorted"=some none)
  (z17:PySem.W.nsIn K mainGlobals "abs"=some none)
  (gM0:PySem.W.nsIn K mainGlobals "MOST_CELLS"=some (some (.int 6 tM)))
  (tD:K.lookup Dd=some ⟨ocD,odD,.seq #[.int 0 d0] nD,slD⟩)
  (gO0:PySem.W.nsIn K mainGlobals "ONE"=some (some (.ref aO)))
  (tO:K.lookup aO=some ⟨.type "tuple",odO,.seq #[.int 1 o1,.int 0 o2,.int 0 o3,.int 0 o4,.int 0 o5] nO,slO⟩)
  (gZ0:PySem.W.nsIn K mainGlobals "NOUGHT"=some (some (.ref aZ)))
  (tZ:K.lookup aZ=some ⟨.type "tuple",odZ,.seq #[.int 0 y1,.int 0 y2,.int 0 y3,.int 0 y4,.int 0 y5] nZ,slZ⟩)
  (gN0:PySem.W.nsIn K mainGlobals "NUMBERS_BEHIND"=some (some (.ref aN)))
  (tN:K.lookup aN=some ⟨.type "dict",none,.dict #[⟨PyData.keyHash w.params "flip",.str "flip" a1,.int 1 b1⟩,⟨PyData.keyHash w.params "mix",.str "mix" a2,.int 1 b2⟩,⟨PyData.keyHash w.params "turn",.str "turn" a3,.int 2 b3⟩,⟨PyData.keyHash w.params "if",.str "if" a4,.int 2 b4⟩,⟨PyData.keyHash w.params "pair",.str "pair" a5,.int 2 b5⟩,⟨PyData.keyHash w.params "swap",.str "swap" a6,.int 2 b6⟩,⟨PyData.keyHash w.params "cross",.str "cross" a7,.int 3 b7⟩] nN,#[]⟩)
  (nN0:(aN == sysModules)=false)
  (gW0:PySem.W.nsIn K mainGlobals "MOST_ODD_TURNS"=some (some (.int 6 tW)))
  (gS0:PySem.W.nsIn K mainGlobals "SURE"=some (some (.ref aS)))
  (tS:K.lookup aS=some ⟨.type "tuple",odS,.seq #[.int 1 s0,.int 0 s1,.int 1 s2] nS,slS⟩)
  (gH0:PySem.W.nsIn K mainGlobals "HALF"=some (some (.ref aH)))
  (tH:K.lookup aH=some ⟨.type "tuple",odH,.seq #[.int 1 h0,.int 0 h1,.int 2 h2] nH,slH⟩)
  (tQ:K.lookup Ds=some ⟨ocQ,odQ,.seq #[.int 0 e0,.int 1 e1] nQ,slQ⟩)
  (aC:PySem.W.nsIn K mainGlobals "NotBorne"=some (some (.ref C)))
  (aD:PySem.W.nsIn K mainGlobals "BoardError"=some (some (.ref D)))
  (zV:PySem.W.nsIn K mainGlobals "ValueError"=some none)
  (ia:FT K C fi "NotBorne.__init__" (Ju (top 11) 0) bm)
  (na:Dm K C "place")
  (xD:ExcAt K D bm2)
  (sub:(Value.ref C::bm).contains (.ref D)=true)
  (own:PySem.W.kitOne K (.ref C) (.ref C)=some true)
  (ve:PySem.W.kitOne K (.ref C) (.type "ValueError")=some true)
  (n_NeverSo:PySem.W.nsIn K mainGlobals "NeverSo"=some (some (.ref A_NeverSo)))
  (n_NoAmount:PySem.W.nsIn K mainGlobals "NoAmount"=some (some (.ref A_NoAmount)))
  (n_NoBoard:PySem.W.nsIn K mainGlobals "NoBoard"=some (some (.ref A_NoBoard)))
  (n_NoCell:PySem.W.nsIn K mainGlobals "NoCell"=some (some (.ref A_NoCell)))
  (n_NoMark:PySem.W.nsIn K mainGlobals "NoMark"=some (some (.ref A_NoMark)))
  (n_NoMove:PySem.W.nsIn K mainGlobals "NoMove"=some (some (.ref A_NoMove)))
  (n_NoShare:PySem.W.nsIn K mainGlobals "NoShare"=some (some (.ref A_NoShare)))
  (n_NoTable:PySem.W.nsIn K mainGlobals "NoTable"=some (some (.ref A_NoTable)))
  (n_NoText:PySem.W.nsIn K mainGlobals "NoText"=some (some (.ref A_NoText)))
  (n_Unguarded:PySem.W.nsIn K mainGlobals "Unguarded"=some (some (.ref A_Unguarded)))
  (kA:PySem.W.kitAny K (.ref C) [.ref A_NeverSo,.ref A_NoAmount,.ref A_NoBoard,.ref A_NoCell,.ref A_NoMark,.ref A_NoMove,.ref A_NoShare]=some false)
  (kB:PySem.W.kitAny K (.ref C) [.ref A_NoTable,.ref A_NoText,.ref A_Unguarded]=some false)
  : ∃fd:FuncData,(∀(s:U7) (v:W4),BindsTo s fd ⟨[v],[]⟩ [("_law_script",v)])/\∀base:Heap,K.In base->base.Ns mainGlobals mg->Em l.prog w K mg base JF 9 fa fd ["_law_script"] (JM K 63):=by
 have e:=hfa.symm.trans (Fb X G aL);cases e;have F:=X9v (st:=top 89) lL cL kL;have B:Bs mg:=⟨Gy X G z0,Gy X G z1,Gy X G z2,Gy X G z3,Gy X G z4,Gy X G z5,Gy X G z6,Gy X G z7,Gy X G z8,Gy X G z9,Gy X G z10,Gy X G z11,Gy X G z12,Gy X G z13,Gy X G z14,Gy X G z15,Gy X G z16,Gy X G z17⟩;refine⟨PySem.W.fnOf "law" "law" (Dv (top 89)) (DW (top 89)) (CV (top 89)) .none kV dc pm an cd ct,λs v=>.of_eq rfl,λbase _ _=>?_⟩;have gN:=Fb X G gN0;have DN:Jy K w.params aN NB:=⟨⟨_,_,_,tN,⟨O,O,O⟩,O,.cons ⟨_,_,O⟩ (.cons ⟨_,_,O⟩ (.cons ⟨_,_,O⟩ (.cons ⟨_,_,O⟩ (.cons ⟨_,_,O⟩ (.cons ⟨_,_,O⟩ (.cons ⟨_,_,O⟩ .nil))))))⟩,by decide +kernel,nN0⟩;have d:=X4z (P:=l.prog) (w:=w) (base:=base) (k:=0) t20 X G B;have r:=X4x (P:=l.prog) (w:=w) (base:=base) (k:=0) t25 X G;have A:=Y6m t26 X G d;have b:=X4t t24 X G B r;have a:=X4v t21 X G B d;have q:=X0b t22 X G a b;have c:=Y4d (P:=l.prog) (w:=w) (base:=base) (k:=0) t14 X G B;have d4:=Y4f (P:=l.prog) (w:=w) (base:=base) (k:=0) t38 X G B;have o:=_3 (P:=l.prog) (w:=w) (base:=base) (k:=0) t45 X G B;have d7:=X5b t44 X G B gN DN c;have S:=X0d t43 X G B d7 (o.mono (by decide));have b0:=Y4c t48 X G (A.mono (by decide)) q (a.mono (by decide));have e5:=X0a t47 X G B b0;have p:=X5c (P:=l.prog) (w:=w) (base:=base) (k:=0) t51 X G;have d9:=Y6s t50 X G o p;have M:=Y9r t49 X G B b;have u:=Y6j (k:=5) t46 X G B (S.mono (by decide)) (d4.mono (by decide)) e5 (M.mono (by decide)) (d9.mono (by decide));have R:=X8j t71 X G B u;have c6:=X5d (P:=l.prog) (w:=w) (base:=base) (k:=0) t73 X G B;have z:=Y9q (P:=l.prog) (w:=w) (base:=base) (k:=0) t74 X G B;have c9:=X8l (P:=l.prog) (w:=w) (base:=base) (k:=0) t76 X G B;have U:=Y6o t30 X G c;have c7:=X0f (Fb X G gM0) t37 X G (c.mono (by decide)) U;have L:=Y9t t36 (Y1y tD) X G B (Fb X G gO0) (Fb X G gZ0) (JX tO) (JX tZ) c7;have gM:=Fb X G gW0;have gO:=Fb X G gO0;have gZ:=Fb X G gZ0;have kO:=Al.JX tO;have kZ:=Al.JX tZ;have ci:Cg l.prog w K mg base 2 C bm "place":=A_.X4y ia na;have b8:=Y9s t23 X G B d r;have I:=Y6p t40 X G d;have i:=A_.X0i (P:=l.prog) (w:=w) (base:=base) (k:=0) t31 X G;have N:=A_.X0e t58 X G i;have E:=A_.Y6q (P:=l.prog) (w:=w) (base:=base) (k:=0) t59 X G;have Q:=A_.X5e (P:=l.prog) (w:=w) (base:=base) (k:=0) t60 X G;have c':=A_.Y6r t61 X G i;have Y:=A_.Y4b (k:=2) t57 X G (i.mono (by decide)) (N.mono (by decide)) (E.mono (by decide)) (Q.mono (by decide)) (c'.mono (by decide)) (p.mono (by decide));have j:=A_.X8k (P:=l.prog) (w:=w) (base:=base) (k:=0) t56 X G;have n:=A_.X4w (P:=l.prog) (w:=w) (base:=base) (k:=0) t29 X G;have J:=A_.X8q (P:=l.prog) (w:=w) (base:=base) (k:=0) t52 X G;have b':=A_.X0g (k:=3) t67 X G gO kO (I.mono (by decide)) (a.mono (by decide)) q (b.mono (by decide)) (b8.mono (by decide));have d3:=A_.X0h (k:=4) t66 X G (j.mono (by decide)) b' (J.mono (by decide)) (Y.mono (by decide));have d6:=A_.Y6k t65 X G B gM j;have x:=A_.X5a (k:=2) t68 X G B gZ kZ b (n.mono (by decide)) a;have a9:=A_.X5f (k:=5) JK X G B gO kO (d6.mono (by decide)) d3 (x.mono (by decide));have ex:A_.yI K mg C D bm bm2:=⟨Fb X G aD,Gy X G zV,Fb X G aC,ci.cls,xD,sub,ci.g,na,ve,own,A_NeverSo,Fb X G n_NeverSo,A_NoAmount,Fb X G n_NoAmount,A_NoBoard,Fb X G n_NoBoard,A_NoCell,Fb X G n_NoCell,A_NoMark,Fb X G n_NoMark,A_NoMove,Fb X G n_NoMove,A_NoShare,Fb X G n_NoShare,A_NoTable,Fb X G n_NoTable,A_NoText,Fb X G n_NoText,A_Unguarded,Fb X G n_Unguarded,kA,kB⟩;have x1:=A_.Y3z (k:=2) t65 X G B (Fb X G aC) gM ci (j.mono (by decide));have x2:=A_.Y9p JK X G x1;have kS:∀H,Ao K H aS ([1,0,1].map V.int):=λH=>.inr ⟨_,_,_,tS,O,O,(show 3<=sizeLine by decide),.cons ⟨_,O⟩ (.cons ⟨_,O⟩ (.cons ⟨_,O⟩ .nil))⟩;have kH:∀H,Ao K H aH ([1,0,2].map V.int):=λH=>.inr ⟨_,_,_,tH,O,O,(show 3<=sizeLine by decide),.cons ⟨_,O⟩ (.cons ⟨_,O⟩ (.cons ⟨_,O⟩ .nil))⟩;have gS:=Fb X G gS0;have gH:=Fb X G gH0;have x3:=A_.X4s gZ t69 X G x2;have b9:=A_.Y4a t85 X G B ex x3 (λg=>A_.Y6i g t74 X G B);have e4:=El.X8o (P:=l.prog) (w:=w) (base:=base) (k:=0) t16 X G;have m:=El._7 t15 (El.Y1z tQ) X G B c e4;have y:=El.X4u t27 X G m;have a0:=El.Y6l t18 X G m;have d1:=A_._9 t17 X G m;have c8:=A_.X8i (k:=6) gZ kZ gS kS gH kH t69 X G (a9.mono (by decide)) (a.mono (by decide)) (b.mono (by decide)) (n.mono (by decide)) (a0.mono (by decide)) (d1.mono (by decide)) (y.mono (by decide));have d2:=_8 (P:=l.prog) (w:=w) (base:=base) (k:=0) t77 X G B;have c0:=Al.V.K5 (P:=l.prog) (w:=w) (base:=base) (k:=0) t75 X G;have T:=Al.V.Jq (P:=l.prog) (w:=w) (base:=base) (k:=0) t78 X G;have t:=Al.V.NQ (P:=l.prog) (w:=w) (base:=base) (k:=0) t79 X G;have c4:=Y6n (P:=l.prog) (w:=w) (base:=base) (k:=0) t81 X G B;have a':=A_._6 t83 X G B c4;have d8:=A_._4 (P:=l.prog) (w:=w) (base:=base) (k:=0) t84 X G B;have c5:=A_.X8m t82 X G B d2 t;have e3:=X0c t80 X G B c9;have Z:=El.X8p (P:=l.prog) (w:=w) (base:=base) (k:=0) t86 X G B;have a8:=El.Y4e t87 X G B z Z;have d5:=El.X8h (P:=l.prog) (w:=w) (base:=base) (k:=0) t88 X G;exact A_.X8n (k:=8) (by decide) F B (c6.mono (by decide)) (c0.mono (by decide)) (T.mono (by decide)) (t.mono (by decide)) (a'.mono (by decide)) (d8.mono (by decide)) (b9.mono (by decide)) (c8.mono (by decide)) (a8.mono (by decide)) (c5.mono (by decide)) (R.mono (by decide)) (L.mono (by decide)) (e3.mono (by decide)) (d5.mono (by decide))
theorem walk{q:U8}{loose:W0}{XP:(Str->Option Value)->Heap->Prop}{YP:World->Heap->Prop}{d:DefRec}{K:Params->U0}(hn:l.most=some 63)(hdf:d.params.defaults=[])
  (hY:∀(w:W3) (h:Heap),YP w h->(K w.params).In h)
  (F:∀(w:W3) (mg:U4) (fa:Y1) (h:Heap),(K w.params).In h->h.Ns mainGlobals mg->mg d.name=some (.ref fa) ->
   ∃fd:FuncData,(∀(s:U7) (u:W4),BindsTo s fd ⟨[u],[]⟩ [("_law_script",u)])/\∀base:Heap,(K w.params).In base->base.Ns mainGlobals mg->Em l.prog w (K w.params) mg base JF 9 fa fd ["_law_script"] (JM (K w.params) 63)):
  PySem.W.WalkO q loose XP YP l.row.toRowW d [] (λf vs=>PySem.call f vs):=
 L2.Y3t (n:=63) (k:=9) (x:="_law_script") (CX:=λ_=>JF) (sp:=λw=>JM (K w.params) 63) hn (by decide) hdf ⟨O,by decide,by decide⟩ hY F (λ_ _ a ns b lt c=>⟨a,ns,O,c,b,lt,λ_=>rfl⟩) λ_ _ _ _ _ z=>z
end Al
open PySem.W
set_option maxRecDepth 100000 in
set_option maxHeartbeats 0 in
theorem PySem.Challenge.cw_spinboard_k65_whole_shares_by_marks_holds : PySem.Challenge.rw_spinboard_k65_whole_shares_by_marks.Holds := by
 refine holds_law Al.Hd.Ur λsaid=>?_
 refine holds_open (q:=Al.Hd.qq) (loose:=Al.Hd.loose) (Xt:=Al.Hd.Xt) (XP:=XL Al.Hd.qq Al.Hd.lv) (Yf:=Al.Hd.HH.obs) (Ya:=Al.Hd.HH.val) (YP:=Al.Hd.HH.says) (d:=⟨"law",L2.Dv (Al.top 89),L2.DW (Al.top 89),L2.CV (Al.top 89),Al.Hd.jm (Al.top 89)⟩) (kwd:=[]) (N:=Al.Hd.NN) Al.Hd.Vf Al.Hd.HH.of Al.Hd.HH.keeps (λs e=>xl_of s (Bool.and_eq_true_iff.mp e).1) XL.keeps (by kernel_rfl) (by kernel_rfl) (by kernel_rfl) (λs e=>recFacts_of (Bool.and_eq_true_iff.mp e).2) (by kernel_rfl) said (by kernel_rfl) ⟨O,O,O,O,O,by decide +kernel⟩ ?hw ?hc
 case hw=>w_witness2
 refine Al.walk (l:=PySem.Challenge.rw_spinboard_k65_whole_shares_by_marks) rfl rfl (λw h Y=>PySem.W.kIn_of Y) ?F
 case F =>
  intro w mg fa h KX G hmg
  refine' Al.W0p (K:=Al.Hd.KK w.params) (f:=575) (C:=159) (D:=24) (fi:=156) (aN:=319) (aO:=291) (aZ:=290) (A_NeverSo:=109) (A_NoAmount:=49) (A_NoBoard:=73) (A_NoCell:=97) (A_NoMark:=61) (A_NoMove:=85) (A_NoShare:=37) (A_NoTable:=121) (A_NoText:=140) (A_Unguarded:=178) (Dd:=292) (aS:=378) (aH:=379) (Ds:=188) (tM:=569) (tW:=767) KX G hmg ?_ (Al.Hd.eN _) ?_ ?_ (Al.Hd.fz "spinboard.shares" 412 187 186) (Al.Hd.zu _) (Al.Hd.fz "spinboard.shares" 412 202 201) (Al.Hd.zq _) (Al.Hd.fz "spinboard.shares" 412 216 215) (Al.Hd.fz "spinboard.amounts" 462 223 222) (Al.Hd.fz "spinboard.amounts" 462 228 227) (Al.Hd.fz "spinboard.amounts" 462 235 234) (Al.Hd.fz "spinboard.amounts" 462 240 239) (Al.Hd.fz "spinboard.amounts" 462 247 246) (Al.Hd.fz "spinboard.amounts" 462 254 253) (Al.Hd.zm _) (Al.Hd.fz "spinboard.amounts" 462 268 267) (Al.Hd.fz "spinboard.marks" 529 275 274) (Al.Hd.fz "spinboard.marks" 529 282 281) (Al.Hd.fz "spinboard.marks" 529 289 288) (Al.Hd.zj _) (Al.Hd.fz "spinboard.boards" 555 304 303) (Al.Hd.fz "spinboard.boards" 555 311 310) (Al.Hd.fz "spinboard.looks" 593 318 317) (Al.Hd.fz "spinboard.moves" 602 324 323) (Al.Hd.fz "spinboard.moves" 602 329 328) (Al.Hd.zZ _) (Al.Hd.fz "spinboard.moves" 602 341 340) (Al.Hd.fz "spinboard.moves" 602 346 345) (Al.Hd.fz "spinboard.moves" 602 353 352) (Al.Hd.fz "spinboard.moves" 602 358 357) (Al.Hd.fz "spinboard.moves" 602 363 362) (Al.Hd.fz "spinboard.moves" 602 370 369) (Al.Hd.zY _) (Al.Hd.fz "spinboard.tableturns" 695 386 385) (Al.Hd.fz "spinboard.tableturns" 695 393 392) (Al.Hd.fz "spinboard.tableturns" 695 400 399) (Al.Hd.fz "spinboard.tableturns" 695 407 406) (Al.Hd.fz "spinboard.tableturns" 695 414 413) (Al.Hd.fz "spinboard.tableturns" 695 421 420) (Al.Hd.fz "spinboard.sums" 765 428 427) (Al.Hd.fz "spinboard.sums" 765 435 434) (Al.Hd.fz "spinboard.sums" 765 440 439) (Al.Hd.fz "spinboard.sums" 765 447 446) (Al.Hd.fz "spinboard.sums" 765 452 451) (Al.Hd.fz "spinboard.sums" 765 459 458) (Al.Hd.fz "spinboard.rows" 827 466 465) (Al.Hd.fz "law_spinboard_k65_whole_shares_by_marks" 839 473 472) (Al.Hd.fz "law_spinboard_k65_whole_shares_by_marks" 839 480 479) (Al.Hd.fz "law_spinboard_k65_whole_shares_by_marks" 839 487 486) (Al.Hd.fz "law_spinboard_k65_whole_shares_by_marks" 839 492 491) (Al.Hd.fz "law_spinboard_k65_whole_shares_by_marks" 839 499 498) (Al.Hd.fz "law_spinboard_k65_whole_shares_by_marks" 839 506 505) (Al.Hd.fz "law_spinboard_k65_whole_shares_by_marks" 839 513 512) (Al.Hd.fz "law_spinboard_k65_whole_shares_by_marks" 839 518 517) (Al.Hd.fz "law_spinboard_k65_whole_shares_by_marks" 839 523 522) (Al.Hd.fz "law_spinboard_k65_whole_shares_by_marks" 839 530 529) (Al.Hd.fz "law_spinboard_k65_whole_shares_by_marks" 839 537 536) (Al.Hd.fz "law_spinboard_k65_whole_shares_by_marks" 839 544 543) (Al.Hd.fz "law_spinboard_k65_whole_shares_by_marks" 839 551 550) (Al.Hd.fz "law_spinboard_k65_whole_shares_by_marks" 839 558 557) (Al.Hd.fz "law_spinboard_k65_whole_shares_by_marks" 839 563 562) (Al.Hd.fz "law_spinboard_k65_whole_shares_by_marks" 839 570 569) ?_ ?_ ?_ ?_ ?_ ?_ ?_ ?_ ?_ ?_ ?_ ?_ ?_ ?_ ?_ ?_ ?_ ?_ ?_ (Al.Hd.fC _) ?_ (Al.Hd.fD _) ?_ (Al.Hd.fG _) ?_ (Al.Hd.eZ _) (by decide) ?_ ?_ (Al.Hd.eV _) ?_ (Al.Hd.eU _) (Al.Hd.fL _) ?_ ?_ ?_ (L2.Qe (Al.Hd.fO _) ?_ ?_ ?_ (Al.Hd.fP _) ?_ ?_ ?_ ?_ ⟨?_,?_,(λod=>by kernel_rfl),?_,?_,?_,?_⟩) (by unfold L2.Dm;kernel_rfl) (L2.excAt (Al.Hd.yw _) ?_ ?_ ?_) ?_ ?_ ?_ ?_ ?_ ?_ ?_ ?_ ?_ ?_ ?_ ?_ ?_ ?_ ?_
  all_goals kernel_rfl
