import PyProof.Rows.All
import Wide.All
import OpenK.AllK
import Wide.FinOn
import Lean
import PyProof.EqAt
import PyProof.EqKinds
import PyProof.TupleCall
import PyProof.Rows.BitMore
import PyProof.ConsumeWalk
import PyProof.Rows.SortWalk
import PyProof.Rows.TupDisplay
import PyProof.EnumMake
import PyProof.Rows.EnumRows
import PyProof.SumAny
import PyProof.Rows.MinMaxN
import PyProof.NeKinds
import PyProof.DictFindH
import PyProof.P3In
import PyProof.StationsW
import PyProof.ExcClass3
import PyProof.ExcBaseAll.ValueError
import PyProof.RulesAs
import PyProof.ExcArgsOwn
import PyProof.ExcAttrAll.ValueError
import PySem.Challenge.RW_spinboard_k44_outcomes_and_words
noncomputable section
open PySem PySem.Spec PyProof.Rows
theorem U{α:Sort u}{a:α}:a=a:=rfl
abbrev U0:=PySem.W.Frag
abbrev U1:=List (Addr×Obj)
abbrev U2:=Value->Shared->Prop
abbrev U3:=List Addr
abbrev U4:=Str->Option Value
abbrev U5:=List Value
abbrev U6:=List Int
abbrev U7:=Shared
abbrev U8:=Program
abbrev U9:=Array Value
abbrev W4:=List Str
abbrev W5:=World
abbrev W8:=Value
abbrev W9:=List Nat
abbrev Y0:=Array (Option Value)
abbrev Y5:=Option Addr
abbrev Y6:=Around
abbrev Y7:=List (Option Nat)
abbrev Y8:=List Stmt
abbrev Y9:=Addr
noncomputable abbrev Ng (h:Heap)(m:Str->Option Value):=h.Ns mainGlobals m
set_option linter.all false
section
open PySem.W
def BL:=@List.length_map
def Cv:=@List.getElem?_eq_getElem
def DW:=@List.getElem?_eq_some_iff
def Az:=@wpAny_bind
def BX:=@Nat.le_refl
def DR:=@Heap.get?_push_of_some
def Dm:=@Option.map_eq_some_iff
def Cp:=@List.getElem?_map
def DN:=@List.length_append
def Bp:=@Heap.lt_size
def FW:=@List.getD_eq_getElem?_getD
def DQ:=@List.size_toArray
def BJ:=@wpS_bind
def Dz:=@Array.length_toList
def Dw:=@Bool.false_ne_true
def CZ:=@Nat.le_trans
def Cw:=@List.mem_cons
def DK:=@decide_eq_true
def Dl:=@decide_eq_false
def Dj:=@List.map_append
def Bb:=@wpS_pure
def CP:=@wpAny_pure
def FT:=@Heap.get?_push_size
def GR:=@List.mem_append_right
def FQ:=@Nat.lt_of_lt_of_le
def GQ:=@Array.getElem_toList
def Dc:=@Nat.ne_of_lt
def Jb:=@Array.getElem?_eq_some_iff
def GP:=@PySem.W.mg_none_of
def GK:=@List.mem_singleton
def FJ:=@boot_isinstance
def Em:=@List.mem_range
def GJ:=@Int.toNat_natCast
def Hq:=@List.mem_of_getElem?
def Jm:=@List.pairwise_iff_getElem
def J9:=@Int.eq_of_mul_eq_mul_right
def Ib:=@Nat.pow_le_pow_right
def FP:=@PySem.boot_len
def J8:=@List.getElem?_append_left
def Gm:=@List.not_mem_nil
def Fx:=@Int.natAbs_mul
def Ja:=@List.pairwise_append
def MJ:=@Nat.mod_two_eq_zero_or_one
def J7:=@List.length_singleton
def Ho:=@List.mem_append
def Ek:=@wpAny_mono
def JG:=@List.length_take
def Jl:=@Int.emod_lt_of_pos
def Oh:=@List.getElem?_concat_length
def J6:=@Array.toList_append
def Og:=@Array.getD_eq_getD_getElem?
def MF:=@List.take_of_length_le
def GF:=@List.mem_map
def Fg:=@Nat.zero_le
def Jk:=@List.take_add_one
def G_:=@PySem.W.mg_of
def JF:=@Nat.not_lt_zero
def JD:=@Int.mul_ne_zero
def JC:=@Int.emod_nonneg
def GD:=@Int.mul_pos
def GC:=@Int.le_refl
def K_:=@List.mem_cons_self
def K9:=@Bool.false_eq_true
def Gz:=@wpS_forRange
def Jj:=@PySem.W.kia_one
def Ji:=@Nat.two_pow_pos
def Uq:=@Int.mul_nonneg_of_nonpos_of_nonpos
def K8:=@List.append_assoc
def Hj:=@Nat.zero_add
def Mv:=@List.mem_cons_of_mem
def K7:=@List.getElem_mem
def Oe:=@List.mem_of_mem_take
def JB:=@Int.mul_comm
def I_:=@Int.le_trans
def Px:=@Heap.get?_update_other
def Fw:=@eq_of_beq
def RG:=@Int.eq_of_mul_eq_mul_left
def Jh:=@List.map_cons
def L_:=@Bool.and_eq_true
def Od:=@Nat.add_sub_cancel'
def K6:=@Heap.size_push
def Oc:=@Option.toList_some
def Mu:=@List.getElem_map
def Uo:=@List.getElem?_append_right
def Ob:=@wpAny_newObj_type
def Ia:=@beq_iff_eq
def Pu:=@PySem.mem_of_lookup
def Pr:=@List.replicate_succ
def Oa:=@List.length_range
def Pq:=@List.filterMap_cons
def K5:=@wpAny_holding
def RD:=@List.take_append_drop
def J5:=@Int.zero_add
def J0:=@Int.le_of_lt
def RB:=@Heap.get?_update_self
def Um:=@PySem.F.type_list_append
def Ul:=@PySem.F.slot_list_append
def Pn:=@Int.natAbs_natCast
def OJ:=@List.take_length
def OD:=@List.length_drop
def Hh:=@segRun_of
def Hg:=@piece_app
def Q_:=@List.mem_append_left
def Uk:=@PySem.F.plainAttrs_list
def Lz:=@Nat.lt_irrefl
def Uj:=@List.length_eq_zero_iff
def Ui:=@List.filter_cons_of_pos
def Mt:=@Bool.false_and
def Pk:=@wpAny_truthy_bool
def Jz:=@wpAny_field
def W_:=@PySem.F.slot_int_bit_length
def N_:=@List.range_succ
def N8:=@Int.mul_eq_zero
def Q9:=@Heap.get?_update_ne
def Gk:=@or_false
def Wz:=@PySem.F.excBase_ValueError
def Wx:=@Array.perm_iff_toList_perm
def Jg:=@wpS_modify
def Pj:=@List.length_cons
def Gy:=@wpS_mono
def Q8:=@Nat.lt_of_le_of_lt
def Q7:=@List.pairwise_cons
def Ly:=@List.map_map
def Uh:=@List.length_filter_le
def Q6:=@List.filter_append
def Ww:=@List.drop_eq_getElem_cons
def Ug:=@List.mem_of_mem_drop
def Ue:=@Array.toList_extract
def Ph:=@wpAny_passesOwn
def Pg:=@Bool.eq_iff_iff
def Ms:=@Int.ne_of_gt
def N7:=@listUpdate_at
def Wv:=@List.filter_cons_of_neg
def Q0:=@Nat.gcd_mul_left
def aM:=@Int.mul_le_mul_of_nonneg_left
def Pb:=@Int.mul_nonneg
def Ud:=@wpAny_Call_Name_kw
def Qz:=@wpAny_execs_nil
def aK:=@PySem.F.type_int_bit_length
def N6:=@Nat.ne_of_gt
def Qy:=@List.nodup_cons
def Qx:=@List.append_nil
def Wu:=@Int.natAbs_dvd_natAbs
def N5:=@Int.add_zero
def Uc:=@of_decide_eq_true
def JZ:=@if_false
def Ub:=@List.getElem_take
def Ua:=@List.getElem_drop
def UW:=@List.flatten_cons
def Pa:=@Int.mul_assoc
def UL:=@Array.toList_push
def HY:=@wpS_get
def HX:=@if_true
def Ws:=@Array.toList_reverse
def Qw:=@List.drop_drop
def UJ:=@beq_self_eq_true
def UG:=@Option.getD_some
def T_:=@Nat.lt_succ_self
def Tz:=@List.lookup_cons
def Tv:=@List.ext_getElem
def Wr:=@List.reverse_append
def Wq:=@List.map_congr_left
def Mr:=@wpAny_rule
def aJ:=@wpAny_comprehension_free
def aH:=@PySem.F.args_tuple_add_2
def aG:=@List.filterMap_cons_some
def aF:=@Int.mul_fdiv_cancel_left
def aB:=@Array.getElem_mem_toList
def Qv:=@wpAny_standAt
def Wo:=@of_decide_eq_false
def Jy:=@kas_item
def Tq:=@get?_update_seq
def Z_:=@PySem.F.entry_tuple_add
def Wn:=@List.getElem_range
def Zz:=@List.getElem?_replicate
def Wm:=@Int.natCast_nonneg
def Zy:=@PySem.F.slot_tuple_add
def Zx:=@PySem.F.plainAttrs_int
def Zw:=@Nat.le_mul_of_pos_left
def Zv:=@List.drop_of_length_le
def Wk:=@wpAny_pyIter_list
def Wj:=@decide_eq_true_eq
def Wi:=@Nat.lt_succ_of_lt
def PX:=@Int.one_mul
def Tp:=@wpAny_setField
def Tn:=@wpAny_seqItems
def Tj:=@Nat.mul_le_mul
def Ti:=@List.drop_zero
def Qu:=@Nat.gcd_comm
def Zu:=@List.filterMap_append
def Qt:=@Int.pow_succ
def Qs:=@Int.le_total
def Wh:=@Nat.le_add_right
def Wg:=@List.nodup_range
def Wf:=@List.all_eq_true
def Zt:=@Nat.pow_lt_pow_right
def Zr:=@List.reverse_reverse
def Zq:=@List.mem_iff_getElem
def Zm:=@List.getElem?_set_ne
def Te:=@wpAny_newList
def Tc:=@wpAny_attempt
def TY:=@Bool.true_and
def Zk:=@getElem?_mirror_all
def Nz:=@boot_list
def m8:=@List.perm_append_comm_assoc
def Wc:=@List.nil_append
def Qq:=@Int.pow_pos
def Qp:=@Int.mul_one
def m7:=@Int.mul_lt_mul_of_pos_right
def Wb:=@Int.emod_two_eq
def Wa:=@Bool.or_eq_true
def mz:=@Int.fdiv_eq_ediv_of_nonneg
def TX:=@listItems_at
def Zj:=@assignInOrder_cons
def Zi:=@PySem.W.tail_of_in
def Zh:=@PySem.W.noMix_ints
def TV:=@Nat.pow_succ
def Zg:=@Nat.add_sub_cancel
def TQ:=@List.map_nil
def Zf:=@List.filterMap_nil
def mj:=@List.getElem?_zip_eq_some
def Qo:=@boot_tuple
def Ze:=@bne_self_eq_false
def Zd:=@PySem.W.same_ints
def Zc:=@Nat.gcd_dvd_right
def Zb:=@Nat.dvd_mul_right
def Za:=@List.pairwise_map
def ZX:=@List.flatMap_cons
def mZ:=@List.filterMap_cons_none
def mY:=@Int.mul_ediv_cancel_left
def Ny:=@wpS_lift
def mX:=@wpAny_callSpecial?_slot
def TJ:=@seqEpoch_at
def WY:=@bitNot_bitNot
def mW:=@PySem.W.canLayAll0_ints
def mU:=@PySem.F.plain_list_iadd
def mQ:=@PySem.F.attr_ValueError
def TF:=@Nat.pow_pos
def S_:=@Nat.log2_lt
def WX:=@Nat.le_of_dvd
def ZW:=@wpAny_execs_cons
def ZV:=@wpAny_call_entry
def ZS:=@noFill_tuple_add
def ZR:=@Nat.gcd_dvd_left
def ZQ:=@List.any_eq_true
def ZP:=@Int.lt_of_not_ge
def ZM:=@Int.le_max_right
def ZL:=@Heap.size_update
def ZK:=@Array.toList_inj
def mO:=@wpAny_pyNext_range_end
def mL:=@wpAny_pyIter_rangeiter
def mK:=@subscriptTail_builtinR
def mJ:=@codeAny_compStart_list
def mH:=@PySem.W.cellsFrom_some
def mG:=@List.getElem?_set_self
def mF:=@Array.getElem?_extract
def ZJ:=@getElem?_bubble
def WW:=@codeAny_mono
def nR:=@codeAny_handlers_test
def nQ:=@PySem.W.depthAll_ints
def h_:=@Nat.min_eq_left
def XS:=@Nat.le_of_lt
def g_:=@List.sum_append
def nP:=@List.perm_append_comm
def gw:=@List.of_mem_zip
def nO:=@List.mem_iff_getElem?
def gq:=@List.mem_filter
def nM:=@List.length_replicate
def gk:=@Int.ediv_nonneg
def gj:=@Int.natAbs_pow
def XR:=@Int.neg_sub
def XQ:=@Int.neg_mul
def gb:=@seq_tuple_add
def gY:=@ne_dataH_same
def RK:=@boot_all
def gW:=@Nat.gcd_assoc
def XM:=@wpAny_call
def XJ:=@typeIs_int
def XH:=@size_push'
def XF:=@Nat.mod_lt
def gU:=@seqIndex_neg
def gR:=@concat_meets
def gQ:=@Nat.zero_mul
def gP:=@Nat.succ_mul
def bY:=@Nat.sub_self
def bW:=@Nat.mul_zero
def bV:=@Nat.add_zero
def bU:=@Nat.add_comm
def bT:=@Int.sub_self
def U_:=@boot_abs
def RJ:=@kas_ask
end
set_option Elab.async false
set_option maxRecDepth 100000
namespace L2
abbrev Key:=Sum Int Str
noncomputable def Oq:Key->Value->Bool
 | .inl k,v=>Value.isInt k v
 | .inr x,v=>Value.isStrOf x v
noncomputable def aX (w:W5):Key->Int
 | .inl k=>hashInt k
 | .inr x=>hashStr w x
theorem Ni:∀{k:Key}{v:W8},Oq k v=true->(∃i t,k=Sum.inl i/\v=Value.int i t)\/(∃x t,k=Sum.inr x/\v=Value.str x t)
 | .inl i,v,h=>by
  obtain⟨t,e⟩:=Value.isInt_shape (k:=i) (v:=v) h;exact .inl ⟨i,t,U,e⟩
 | .inr x,v,h=>by
  obtain⟨t,e⟩:=Value.isStrOf_shape (x:=x) (v:=v) h;exact .inr ⟨x,t,U,e⟩
theorem X6m(a b:Int):decide ((Sum.inl a:Key)=Sum.inl b)=(a == b):=by
 by_cases e:a=b
 ·subst e;simp
 ·have h:¬ (Sum.inl a:Key)=Sum.inl b:=λq=>e (Sum.inl.inj q);rw[Dl h];exact(beq_eq_false_iff_ne.mpr e).symm
theorem X6j(a b:Str):decide ((Sum.inr a:Key)=Sum.inr b)=decide (a=b):=by
 by_cases e:a=b
 ·subst e;simp
 ·have h:¬ (Sum.inr a:Key)=Sum.inr b:=λq=>e (Sum.inr.inj q);rw[Dl h,Dl e]
theorem X6l(a:Int)(b:Str):decide ((Sum.inl a:Key)=Sum.inr b)=false:=Dl (λq=>nomatch q)
theorem X6k(a:Str)(b:Int):decide ((Sum.inr a:Key)=Sum.inl b)=false:=Dl (λq=>nomatch q)
noncomputable def qu (prog:U8)(w:W5):PySem.KeyKind prog w Key where
 is:=Oq
 hash:=aX w
 inj:=λv a b ha hb=>by
  rcases Ni ha with ⟨i,t,rfl,rfl⟩ | ⟨x,t,rfl,rfl⟩
  ·rcases Ni hb with ⟨j,u,rfl,e⟩ | ⟨y,u,rfl,e⟩
   ·injection e with e1 _;rw[e1]
   ·exact nomatch e
  ·rcases Ni hb with ⟨j,u,rfl,e⟩ | ⟨y,u,rfl,e⟩
   ·exact nomatch e
   ·injection e with e1 _;rw[e1]
 byValue:=λk v h=>by
  rcases Ni h with ⟨i,t,rfl,rfl⟩ | ⟨x,t,rfl,rfl⟩<;>rfl
 pyHash:=λhv h=>by
  rcases Ni hv with ⟨i,t,rfl,rfl⟩ | ⟨x,t,rfl,rfl⟩
  ·exact wpAny_pyHash_int h
  ·exact wpAny_pyHash_str h
 eqBool:=λhu hv h=>by
  rcases Ni hu with ⟨i,t,rfl,rfl⟩ | ⟨x,t,rfl,rfl⟩
  ·rcases Ni hv with ⟨j,u,rfl,rfl⟩ | ⟨y,u,rfl,rfl⟩
   ·rw[X6m]at h;exact wpAny_eqBool_int h
   ·rw[X6l]at h;exact SeqAt.EqAt.int_str i t y u _ _ _ _ h
  ·rcases Ni hv with ⟨j,u,rfl,rfl⟩ | ⟨y,u,rfl,rfl⟩
   ·rw[X6k]at h;exact SeqAt.EqAt.str_int x t j u _ _ _ _ h
   ·rw[X6j]at h;exact wpAny_eqBool_str h
 «strs»:=λk x t v h=>by
  rcases Ni h with ⟨i,u,rfl,e⟩ | ⟨y,u,rfl,e⟩
  ·exact nomatch e
  ·injection e with e1 _
   subst e1
   cases v<;>rfl
inductive V where
 | non | bl (b:Bool) | int (i:Int) | str (x:Str) | byt (b:Array UInt8) | flt (b:UInt64) | ref (a:Y9) | ty (n:String)
 deriving DecidableEq
def RelV:V->Value->Prop
 | .non,u=>u=Value.none
 | .bl b,u=>u=Value.bool b
 | .int i,u=>∃t,u=Value.int i t
 | .str x,u=>∃t,u=Value.str x t
 | .byt b,u=>∃t,u=Value.bytes b t
 | .flt b,u=>∃t,u=Value.float b t
 | .ref a,u=>u=Value.ref a
 | .ty n,u=>u=Value.type n
abbrev Vals:List V->List Value->Prop:=Paired RelV
variable{xs:List V}{us:U5}
theorem Vals.length(r:Vals xs us):xs.length=us.length:=Paired.length r
theorem Vals.get:∀{xs:List V}{us:U5}{i:Nat}{x:V},Vals xs us->xs[i]?=some x->∃u,us[i]?=some u/\RelV x u
 | _,_,_,_,.nil,e=>by simp at e
 | _,_,0,_,.cons r _,e=>by simp at e;subst e;exact⟨_,rfl,r⟩
 | _,_,i+1,x,.cons _ t,e=>by
  obtain⟨u,h1,h2⟩:=Vals.get (i:=i) (x:=x) t (by simpa using e);exact⟨u,by simpa using h1,h2⟩
theorem Vals.set{x:V}{u:W8}(r:RelV x u):∀{xs:List V}{us:U5} (i:Nat),Vals xs us->Vals (xs.set i x) (us.set i u)
 | _,_,_,.nil=>.nil
 | _,_,0,.cons _ t=>.cons r t
 | _,_,i+1,.cons q t=>.cons q (Vals.set r i t)
theorem Vals.append:∀{xs ys:List V}{us ws:U5},Vals xs us->Vals ys ws->Vals (xs++ys) (us++ws)
 | _,_,_,_,.nil,s=>s
 | _,_,_,_,.cons r t,s=>.cons r (Vals.append t s)
theorem Vals.take:∀{xs:List V}{us:U5} (n:Nat),Vals xs us->Vals (xs.take n) (us.take n)
 | _,_,0,_=>.nil
 | _,_,_+1,.nil=>.nil
 | _,_,n+1,.cons r t=>.cons r (Vals.take n t)
theorem Vals.drop:∀{xs:List V}{us:U5} (n:Nat),Vals xs us->Vals (xs.drop n) (us.drop n)
 | _,_,0,r=>r
 | _,_,_+1,.nil=>.nil
 | _,_,n+1,.cons _ t=>Vals.drop n t
def Qi:Option V->Option Value->Prop
 | some v,some u=>RelV v u
 | none,none=>True
 | _,_=>False
def KV {κ:Type}:List (κ×V)->List (κ×Value)->Prop:=Paired λ(p:κ×V) (q:κ×Value)=>p.1=q.1/\RelV p.2 q.2
noncomputable def kV:Key->V
 | .inl i=>.int i
 | .inr x=>.str x
inductive HO where
 | lst (xs:List V)
 | tup (xs:List V)
 | dK (kvs:List (Key×V)) | dT (kvs:List (List Key×V))
 | set (S:Int->Bool) (n:Nat)
 | ins (C dx:Y9) (fs:List (Str×V))
 | own (x:Y9)
 | xd (fs:List (Str×V))
 | met (f x:Y9)
 | rng (lo hi:Int)
 | frz (o:Obj) (u:HO)
 | tbl (ps:U9)
 | ext (φ:Heap->Prop)
abbrev Hp:=Addr->Option HO
noncomputable def upd (H:Hp)(a:Y9)(o:HO):Hp:=λb=>if b=a then some o else H b
variable{H:Hp}{a:Y9}{o:HO}
theorem Al:upd H a o a=some o:=by unfold upd;rw[if_pos rfl]
variable{b:Y9}
theorem Bw(h:b≠a):upd H a o b=H b:=by unfold upd;rw[if_neg h]
theorem Ie{u:HO}(h:H a=some o)(h':H b=some u)(d:o≠u):a≠b:=by
 intro e;subst e;rw[h]at h';exact d (Option.some.inj h')
theorem Qf(h:H a=some o)(h':H b=none):a≠b:=by
 intro e;subst e;rw[h]at h';cases h'
section
variable (P:U8) (w:W5)
def Bc (H:Hp)(h:Heap)(a:Y9):HO->Prop
 | .lst xs=>xs.length<=sizeLine/\∃(its:U5) (n:Nat),Vals xs its/\h.get? a=some { cls:=.type "list",data:=.seq its.toArray n}
 | .tup xs=>xs.length<=sizeLine/\∃its:List Value,Vals xs its/\IsTup h a its.toArray
 | .dK kvs=>kvs.length<=sizeLine/\(a == sysModules)=false/\∃vs,KV kvs vs/\h.DictOf (qu P w) a vs
 | .dT kvs=>kvs.length<=sizeLine/\(a == sysModules)=false/\∃xs:List (List Key×Addr×Value),
   Paired (λ(p:List Key×V) (q:List Key×Addr×Value)=>p.1=q.1/\H q.2.1=some (.tup (p.1.map kV))/\RelV p.2 q.2.2) kvs xs /\
   ∃o es ep,h.get? a=some o/\o.ExactDict/\o.data=.dict es ep/\es.toList=xs.map (entryOfKey (tupleKind (qu P w)))/\(xs.map (·.1)).Nodup
 | .set S n=>h.SetOf (intKind P w) a S n
 | .ins C dx fs=>H dx=some (.own a)/\fs.length<=1000/\dx≠a/\h.get? a=some (PySem.W.instObj C dx) /\
   ∃mA,h.Ns1 dx mA/\(∀f,Qi (fs.lookup f) (mA f))/\PySem.Within mA (fs.map (·.1))
 | .own _=>∃o,h.get? a=some o
 | .xd fs=>∃mA,h.Ns1 a mA/\∀f,Qi (fs.lookup f) (mA f)
 | .rng lo hi=>∃t u v,h.get? a=some { cls:=.type "range",data:=.fields #[.int lo t,.int hi u,.int 1 v]}
 | .frz o u=>h.get? a=some o/\Bc H h a u
 | .tbl ps=>h.get? a=some { cls:=.none,data:=.fields ps}
 | .met f x=>h.get? a=some (PySem.W.methodObj (.ref f) (.ref x))
 | .ext φ=>φ h/\(∃o,h.get? a=some o)/\∀h1 h2:Heap,φ h1->(∀o,h1.get? a=some o->h2.get? a=some o)->φ h2
def Et (H:Hp)(h:Heap):Prop:=∀a o,H a=some o->Bc P w H h a o
end
section
variable {P:U8}{w:W5}{H H':Hp}{h h':Heap}{a:Y9}{o:HO}
theorem Bc.lt(x:Bc P w H h a o):a<h.objs.size:=by
 cases o with
 | lst xs=>obtain⟨_,_,_,_,e⟩:=x;exact Bp e
 | tup xs=>obtain⟨_,_,_,p⟩:=x;exact p.lt
 | dK kvs=>obtain⟨_,_,_,_,o,_,_,e,_⟩:=x;exact Bp e
 | dT kvs=>obtain⟨_,_,_,_,o,_,_,e,_⟩:=x;exact Bp e
 | set S n=>obtain⟨o,_,_,_,e,_⟩:=x;exact Bp e
 | ins C dx fs=>obtain⟨_,_,_,e,_⟩:=x;exact Bp e
 | own y=>obtain⟨_,e⟩:=x;exact Bp e
 | xd fs=>obtain⟨_,⟨_,_,_,e,_⟩,_⟩:=x;exact Bp e
 | rng lo hi=>obtain⟨_,_,_,e⟩:=x;exact Bp e
 | frz ob u=>obtain⟨e,_⟩:=x;exact Bp e
 | tbl ps=>exact Bp (show h.get? a=some _ from x)
 | met f y=>exact Bp (show h.get? a=some _ from x)
 | ext φ=>obtain⟨_,⟨_,e⟩,_⟩:=x;exact Bp e
theorem Paired.mapP{α β:Type}{F G:α->β->Prop}:∀{l₁:List α}{l₂:List β},Paired F l₁ l₂->(∀a b,F a b->G a b)->Paired G l₁ l₂
 | _,_,.nil,_=>.nil
 | _,_,.cons r t,f=>.cons (f _ _ r) (Paired.mapP t f)
theorem Paired.imp'{α β:Type}{F G:α->β->Prop}(f:∀a b,F a b->G a b){l₁:List α}{l₂:List β}(r:Paired F l₁ l₂):Paired G l₁ l₂:=Paired.mapP r f
theorem Bc.stay(x:Bc P w H h a o)(k:∀b u,(b=a\/H b=some (.own a))->h.get? b=some u->h'.get? b=some u)
  (ho:∀b,H b=some (.own a)->H' b=some (.own a)) (ht:∀b xs,H b=some (.tup xs)->H' b=some (.tup xs)):Bc P w H' h' a o:=by
 induction o with
 | lst xs=>obtain⟨z,its,n,r,e⟩:=x;exact⟨z,its,n,r,k _ _ (.inl rfl) e⟩
 | tup xs=>obtain⟨z,its,r,g,e,c⟩:=x;exact⟨z,its,r,g,k _ _ (.inl rfl) e,c⟩
 | dK kvs=>obtain⟨z,y,vs,r,g,es,ep,e,c⟩:=x;exact⟨z,y,vs,r,g,es,ep,k _ _ (.inl rfl) e,c⟩
 | dT kvs =>
  obtain⟨z,y,xs,r,g,es,ep,e,c⟩:=x;exact⟨z,y,xs,Paired.mapP r λp q z=>⟨z.1,ht _ _ z.2.1,z.2.2⟩,g,es,ep,k _ _ (.inl rfl) e,c⟩
 | set S n=>obtain⟨g,es,ep,t,e,c⟩:=x;exact⟨g,es,ep,t,k _ _ (.inl rfl) e,c⟩
 | ins C dx fs =>
  obtain⟨d,z,ne,e,mA,⟨od,es,ep,i,c⟩,r⟩:=x;exact⟨ho _ d,z,ne,k _ _ (.inl rfl) e,mA,⟨od,es,ep,k _ _ (.inr d) i,c⟩,r⟩
 | own y=>obtain⟨g,e⟩:=x;exact⟨g,k _ _ (.inl rfl) e⟩
 | xd fs=>obtain⟨mA,⟨od,es,ep,e,c⟩,r⟩:=x;exact⟨mA,⟨od,es,ep,k _ _ (.inl rfl) e,c⟩,r⟩
 | rng lo hi=>obtain⟨t,u,v,e⟩:=x;exact⟨t,u,v,k _ _ (.inl rfl) e⟩
 | frz g u ih=>obtain⟨e,q⟩:=x;exact⟨k _ _ (.inl rfl) e,ih q⟩
 | tbl ps =>
  have e:h.get? a=some { cls:=.none,data:=.fields ps}:=x;show h'.get? a=some { cls:=.none,data:=.fields ps};exact k a _ (.inl rfl) e
 | met f y =>
  have e:h.get? a=some (PySem.W.methodObj (.ref f) (.ref y)):=x;show h'.get? a=some (PySem.W.methodObj (.ref f) (.ref y));exact k a _ (.inl rfl) e
 | ext φ=>obtain⟨p,⟨o,e⟩,st⟩:=x;exact⟨st _ _ p λo q=>k _ _ (.inl rfl) q,⟨o,k _ _ (.inl rfl) e⟩,st⟩
theorem Et.lt(x:Et P w H h)(e:H a=some o):a<h.objs.size:=(x a o e).lt
theorem Et.fresh(x:Et P w H h)(e:h.objs.size<=a):H a=none:=by
 cases q:H a with
 | none=>rfl
 | some u=>exact absurd (FQ (x.lt q) e) (Lz _)
theorem Et.kept(x:Et P w H h)(k:∀b u,h.get? b=some u->h'.get? b=some u):Et P w H h':=λa o e =>
 (x a o e).stay (λb u _ q=>k b u q) (λ_ q=>q) λ_ _ q=>q
theorem Et.laid(x:Et P w H h)(k:∀b u,h.get? b=some u->h'.get? b=some u)(hp:h.objs.size<=a)(new:Bc P w (upd H a o) h' a o):Et P w (upd H a o) h':=λb u e=>by
 have d:=x.fresh hp;by_cases hb:b=a
 ·subst hb;rw[Al]at e;cases e;exact new
 ·rw[Bw hb]at e;exact(x b u e).stay (λc v _ q=>k c v q) (λc q=>by rw[Bw (Qf q d)];exact q) λc xs q=>by rw[Bw (Qf q d)];exact q
end
def Rd (H:Hp)(a:Y9)(u:HO):Prop:=H a=some u\/∃o,H a=some (.frz o u)
variable{P:U8}{w:W5}{h:Heap}
theorem Rd.ok{u:HO}(r:Rd H a u)(x:Et P w H h):Bc P w H h a u:=by
 rcases r with r | ⟨o,r⟩
 ·exact x a u r
 ·obtain⟨_,q⟩:=x a _ r;exact q
def Yj:Option HO->Prop
 | some (.lst _)=>True
 | some (.dK _)=>True
 | some (.dT _)=>True
 | some (.set _ _)=>True
 | some (.ins _ _ _)=>True
 | some (.ext _)=>True
 | _=>False
section
variable {P:U8}{w:W5}{H:Hp}{h h':Heap}{x e:Y9}{o':HO}
theorem Et.write(ok:Et P w H h)(mu:Yj (H x))(he:e=x\/H e=some (.own x))(k:∀b u,b≠e->h.get? b=some u->h'.get? b=some u)(heo:∃u,h'.get? e=some u)
  (new:Bc P w (upd H x o') h' x o'):Et P w (upd H x o') h':=λb u q=>by
 have a:∀c y,H c=some (.own y)->c≠x:=λc y r z=>by subst z;rw[r]at mu;exact mu
 have d:∀c xs,H c=some (.tup xs)->c≠x:=λc xs r z=>by subst z;rw[r]at mu;exact mu
 by_cases hb:b=x
 ·subst hb;rw[Al]at q;cases q;exact new
 ·rw[Bw hb]at q;by_cases hbe:b=e
  ·have q':H b=some (.own x):=by
    rcases he with z | z
    ·exact absurd (hbe.trans z) hb
    ·rw[hbe];exact z
   rw[q]at q';cases q';obtain⟨v,g⟩:=heo;exact⟨v,by rw[hbe];exact g⟩
  ·refine(ok b u q).stay (λc v f r=>k c v ?_ r) (λc r=>by rw[Bw (a c b r)];exact r) λc xs r=>by rw[Bw (d c xs r)];exact r
   rcases f with rfl | f
   ·exact hbe
   ·rintro rfl;rcases he with z | z
    ·exact a c b f z
    ·rw[f]at z;cases z;exact hb rfl
end
structure Un (fs ex:U3) (H H':Hp) (h h':Heap):Prop where
 keep:∀b o,h.get? b=some o->H b=none->b∉fs->b∉ex->h'.get? b=some o
 slot:∀b o,h.get? b=some o->H b=none->b∈fs->b∉ex->∃sl,h'.get? b=some {o with slots:=sl}
 free:∀b o,h.get? b=some o->H b=none->b∉ex->H' b=none
 there:∀b o,h.get? b=some o->b∉ex->∃o',h'.get? b=some o'
 tups:∀b xs,H b=some (.tup xs)->H' b=some (.tup xs)
 frzs:∀b o u,H b=some (.frz o u)->H' b=some (.frz o u)
 tbls:∀b ps,H b=some (.tbl ps)->∃more,H' b=some (.tbl (ps++more))
section
variable {fs fs' ex ex':U3}{H H1 H2:Hp}{h h1 h2 h':Heap}{a x e:Y9}{o:HO}
theorem Un.any(u:Un fs ex H H1 h h1){ob:Obj}(q:h.get? b=some ob)(n:H b=none)(hx:b∉ex):∃sl,h1.get? b=some {ob with slots:=sl}:=by
 by_cases hb:b∈fs
 ·exact u.slot b ob q n hb hx
 ·exact⟨ob.slots,u.keep b ob q n hb hx⟩
theorem Un.kept(k:∀b u,h.get? b=some u->h'.get? b=some u):Un fs ex H H h h' :=
 ⟨λb a q _ _ _=>k b a q,λb a q _ _ _=>⟨a.slots,k b a q⟩,λ_ _ _ n _=>n,λb a q _=>⟨a,k b a q⟩,λ_ _ q=>q,λ_ _ _ q=>q,λ_ ps q=>⟨#[],by rw[q];simp⟩⟩
theorem Un.refl:Un fs ex H H h h:=Un.kept λ_ _ q=>q
theorem Un.laid(k:∀b u,h.get? b=some u->h'.get? b=some u)(hp:h.objs.size<=a)(hn:H a=none):Un fs ex H (upd H a o) h h' where
 keep:=λb u q _ _ _=>k b u q
 slot:=λb u q _ _ _=>⟨u.slots,k b u q⟩
 free:=λb u q n _=>by rw[Bw (Dc (FQ (Bp q) hp))];exact n
 there:=λb u q _=>⟨u,k b u q⟩
 tups:=λb xs q=>by rw[Bw (Qf q hn)];exact q
 frzs:=λb u xs q=>by rw[Bw (Qf q hn)];exact q
 tbls:=λb ps q=>⟨#[],by rw[Bw (Qf q hn),q];simp⟩
theorem Un.write(mu:Yj (H x))(he:e=x\/H e=some (.own x))(k:∀b u,b≠e->h.get? b=some u->h'.get? b=some u)(heo:∃u,h'.get? e=some u):Un fs ex H (upd H x o) h h':=by
 have d:∀b,H b=none->b≠x:=λb n z=>by subst z;rw[n]at mu;exact mu
 have c:∀b,H b=none->b≠e:=λb n z=>by
  subst z;rcases he with r | r
  ·exact d b n r
  ·rw[n]at r;cases r
 have a:∀b u,H b=some u->¬ Yj (some u)->b≠x:=λb u q nm z=>by subst z;rw[q]at mu;exact nm mu
 refine⟨λb u q n _ _=>k b u (c b n) q,λb u q n _ _=>⟨u.slots,k b u (c b n) q⟩,λb u q n _=>by rw[Bw (d b n)];exact n,λb u q _=>?_,
  λb xs q=>by rw[Bw (a b _ q λz=>z)];exact q,λb u xs q=>by rw[Bw (a b _ q λz=>z)];exact q,λb ps q=>⟨#[],by rw[Bw (a b _ q λz=>z),q];simp⟩⟩
 by_cases hbe:b=e
 ·subst hbe;exact heo
 ·exact⟨u,k b u hbe q⟩
end
noncomputable def WM (h:Heap)(H:Hp):List Addr:=(List.range h.objs.size).filter λa=>(H a).isSome
noncomputable def Gq (h:Heap)(H:Hp):Heap:=PySem.W.hideAll h (WM h H)
theorem _W(h:Heap)(H:Hp):(Gq h H).objs.size=h.objs.size:=PySem.W.hideAll_size _ _
variable{o:Obj}
theorem yO(e:h.get? b=some o)(n:H b=none):(Gq h H).get? b=some o :=
 PySem.W.hideAll_get _ e λa=>by
  have q:(H b).isSome=true:=(gq.mp a).2;rw[n]at q;simp at q
theorem X2z(e:(Gq h H).get? b=some o):h.get? b=some o/\H b=none:=by
 have a:h.get? b=some o:=PySem.W.of_hideAll (WM h H) e;refine⟨a,?_⟩;cases q:H b with
 | none=>rfl
 | some x =>
  have c:b∈WM h H:=gq.mpr ⟨Em.mpr (Bp a),by simp[q]⟩;have z:(Gq h H).get? b=none:=PySem.W.hideAll_none (WM h H) c;rw[z]at e;cases e
structure Mod (K:U0) (mg:U4) (base:Heap):Prop where
 kin:K.In base
 glob:base.Ns mainGlobals mg
 blt:∃mb,base.Ns builtinsNs mb/\∀x:Str,x≠"__name__"->mb x=bootBuiltins x
 nolimit:base.NoLimit
structure Cx where
 prog:Program
 w:World
 K:U0
 mg:Str->Option Value
 base:Heap
 A:Around
 N:List Str
 s₀:Shared
 H₀:Hp
 env:Env
 outer:List Env
 stack:List Env
 ex:List Addr
 fn:Str->Bool
 calm:Bool
 pn:List (Addr×Obj)
 xe:Value->Shared->Prop
noncomputable def frs (l:List Env):List Addr:=l.filterMap (·.frame)
noncomputable abbrev Cx.fs (X:Cx):List Addr:=frs X.outer
def Yh (sc:Scope)(x:Str):Prop:=sc.names.lookup x=some .local\/sc.names.lookup x=some .cell\/sc.names.lookup x=some .free
def Loc (sc:Scope)(x:Str):Prop:=sc.names.lookup x=some .local\/sc.names.lookup x=some .cell
def Look (env:Env)(h:Heap)(m:U4)(x:Str)(u:W8):Prop :=
 (env.kindOf x=some .local/\m x=some u)\/((env.kindOf x=some .cell\/env.kindOf x=some .free)/\∃c,env.cells.lookup x=some c/\h.IsCell c (some u))
structure Cx.Ok (X:Cx):Prop where
 mod:Mod X.K X.mg X.base
 kind:X.env.scope.kind=.function
 glob:X.env.globals=mainGlobals
 blt:X.env.builtins=builtinsNs
 above:X.s₀.heap.objs.size<=X.env.locals
 inj:∀x y c,X.env.cells.lookup x=some c->X.env.cells.lookup y=some c->x=y
 has:∀x,(X.env.kindOf x=some .cell\/X.env.kindOf x=some .free)->∃c,X.env.cells.lookup x=some c
 cab:∀x c,X.fn x=true->X.env.cells.lookup x=some c->X.s₀.heap.objs.size<=c
 hd:X.calm=true->X.A.handled=none
 frames:X.A.frames=some X.stack
 stk:X.stack=X.outer\/(X.stack=X.env::X.outer/\X.env.frame=some X.env.locals)
 exf:∀b∈X.ex,b≠X.env.locals/\∀x c,X.env.cells.lookup x=some c->c≠b
 bs:∀b o,X.base.get? b=some o->X.s₀.heap.get? b=some o/\X.H₀ b=none
 bsz:X.base.objs.size<=X.s₀.heap.objs.size
 noex:∀b o,X.base.get? b=some o->b∉X.ex
 exfs:∀b∈X.ex,b∉X.fs
 funs:X.s₀.heap.FunFrames X.base X.outer
 frf:∀b∈X.fs,X.H₀ b=none
structure Inv (X:Cx) (pins:U1) (σ:List (Option V)) (H:Hp) (s:U7):Prop where
 ok:X.Ok
 os:s.os=X.s₀.os
 bare:AllBare s.gens
 base:Un X.fs X.ex X.H₀ H X.s₀.heap s.heap
 loc:∃m,s.heap.Ns X.env.locals m/\∀(i:Nat) (x:Str) (v:V),X.N[i]?=some x->σ[i]?=some (some v)->Yh X.env.scope x->∃u,RelV v u/\Look X.env s.heap m x u
 cell:∀x c,X.env.cells.lookup x=some c->∃v,s.heap.IsCell c v
 free:H X.env.locals=none
 freeC:∀x c,X.env.cells.lookup x=some c->H c=none
 pin:∀p∈X.pn++pins,s.heap.get? p.1=some p.2/\H p.1=none/\p.1≠X.env.locals/\p.1∉X.fs/\∀v,p.2.data≠.cell v
 hok:Et X.prog X.w H s.heap
 len:σ.length=X.N.length
section
variable {X:Cx}{pins:U1}{σ:List (Option V)}{H H':Hp}{s:U7}{h':Heap}
theorem Cx.Ok.nofr(ok:X.Ok)(e:X.base.get? b=some o):b∉X.fs:=λa=>by
 have:=(ok.funs.mem a).1;rw[e]at this;cases this
theorem Inv.bs(I:Inv X pins σ H s):∀b o,X.base.get? b=some o->s.heap.get? b=some o/\H b=none:=λb o e =>
 ⟨I.base.keep b o (I.ok.bs b o e).1 (I.ok.bs b o e).2 (I.ok.nofr e) (I.ok.noex b o e),I.base.free b o (I.ok.bs b o e).1 (I.ok.bs b o e).2 (I.ok.noex b o e)⟩
theorem Inv.bk(I:Inv X pins σ H s):∀b o,X.base.get? b=some o->s.heap.get? b=some o:=λb o e=>(I.bs b o e).1
theorem Inv.mod(I:Inv X pins σ H s):Mod X.K X.mg X.base:=I.ok.mod
theorem Inv.kIn(I:Inv X pins σ H s):X.K.In s.heap:=I.ok.mod.kin.keeps I.bk
theorem Inv.lt(I:Inv X pins σ H s):X.env.locals<s.heap.objs.size:=let ⟨_,hn,_⟩:=I.loc;hn.lt
theorem Inv.sz(I:Inv X pins σ H s):X.s₀.heap.objs.size<=s.heap.objs.size:=CZ I.ok.above (XS I.lt)
theorem Inv.nofs(I:Inv X pins σ H s)(h:s.heap.objs.size<=a):a∉X.fs:=λb=>by
 obtain⟨_,o,c,_⟩:=I.ok.funs.mem b;exact absurd (FQ (Bp c) (CZ I.sz h)) (Lz _)
theorem Inv.cne(I:Inv X pins σ H s):∀x c,X.env.cells.lookup x=some c->c≠X.env.locals:=λx c e z=>by
 obtain⟨v,o,f,d⟩:=I.cell x c e;obtain⟨m,⟨o',es,ep,a,b,_⟩,_⟩:=I.loc;rw[z,a]at f;cases f;rw[b]at d;cases d
theorem Inv.funs(I:Inv X pins σ H s):s.heap.FunFrames X.base X.outer:=by
 have all:∀(l:List Env),(∀b∈frs l,b∈X.fs)->X.s₀.heap.FunFrames X.base l->s.heap.FunFrames X.base l:=by
  intro l;induction l with
  | nil=>intro _ _;trivial
  | cons env r ih =>
   intro d f;obtain⟨g,⟨L,o,hf,j,i,h⟩,k⟩:=f;have a:L∈X.fs:=d L (by unfold frs;rw[Pq,hf];exact K_);obtain⟨m,e⟩:=I.base.slot L o i (I.ok.frf L a) a λz=>I.ok.exfs L z a;exact⟨g,⟨L,_,hf,j,e,h⟩,ih (λb c=>d b (by unfold frs;rw[Pq,hf];exact Mv _ c)) k⟩
 exact all X.outer (λ_ c=>c) I.ok.funs
theorem Inv.stack(I:Inv X pins σ H s):s.heap.FunFrames X.base X.stack:=by
 rcases I.ok.stk with e | ⟨e,hf⟩
 ·rw[e];exact I.funs
 ·rw[e];obtain⟨m,a,_⟩:=I.loc;refine .cons (by rw[I.ok.kind];decide) hf a ?_ I.funs;exact Heap.get?_none_of_le (CZ I.ok.bsz I.ok.above)
theorem Inv.stkSub(I:Inv X pins σ H s):∀b∈frs X.stack,b∈X.env.locals::X.fs:=λb a=>by
 rcases I.ok.stk with e | ⟨e,hf⟩
 ·rw[e]at a;exact Mv _ a
 ·rw[e]at a;unfold frs at a;rw[Pq,hf]at a;exact a
theorem Inv.stkFree(I:Inv X pins σ H s):∀b∈frs X.stack,H b=none:=λb a=>by
 rcases Cw.mp (I.stkSub b a) with e | a
 ·rw[e];exact I.free
 ·obtain⟨_,o,c,_⟩:=I.ok.funs.mem a;exact I.base.free b o c (I.ok.frf b a) λz=>I.ok.exfs b z a
variable{g':Array GenState}{t':Nat}{d':Drawn}{ch:U3}
theorem Inv.step(I:Inv X pins σ H s)
  (hch:∀b∈ch,(b∈X.ex\/X.s₀.heap.objs.size<=b)/\b≠X.env.locals/\(∀x c,X.env.cells.lookup x=some c->c≠b)/\∀p∈X.pn++pins,p.1≠b)
  (keep:∀b o,b≠X.env.locals->b∉X.fs->b∉ch->s.heap.get? b=some o->H b=none->h'.get? b=some o)
  (slot:∀b o,b≠X.env.locals->b∈X.fs->b∉ch->s.heap.get? b=some o->H b=none->∃E,h'.get? b=some {o with slots:=E}) (free:∀b o,b∉ch->s.heap.get? b=some o->H b=none->H' b=none)
  (there:∀b o,b∉ch->s.heap.get? b=some o->∃o',h'.get? b=some o')
  (tups:∀b xs,H b=some (.tup xs)->H' b=some (.tup xs)) (frzs:∀b o u,H b=some (.frz o u)->H' b=some (.frz o u)) (tbls:∀b ps,H b=some (.tbl ps)->∃more,H' b=some (.tbl (ps++more)))
  (ns:∀m,s.heap.Ns X.env.locals m->h'.Ns X.env.locals m) (hok:Et X.prog X.w H' h') (hg:AllBare g'):
  Inv X pins σ H' {s with heap:=h',gens:=g',drawn:=d',toks:=t'}:=by
 have A:∀b o,X.s₀.heap.get? b=some o->b≠X.env.locals:=λb o e=>Dc (FQ (Bp e) I.ok.above);have h:∀b o,X.s₀.heap.get? b=some o->b∉X.ex->b∉ch:=λb o e a t=>by
  rcases (hch b t).1 with z | z
  ·exact a z
  ·exact absurd (FQ (Bp e) z) (Lz _)
 have f:∀x c,X.env.cells.lookup x=some c->∀v,s.heap.IsCell c v->h'.IsCell c v:=λx c e v ⟨o,y,C⟩=>by
  have g:c∉ch:=λz=>(hch c z).2.2.1 x c e rfl;by_cases hc:c∈X.fs
  ·obtain⟨E,q⟩:=slot c o (I.cne x c e) hc g y (I.freeC x c e);exact⟨_,q,C⟩
  ·exact⟨o,keep c o (I.cne x c e) hc g y (I.freeC x c e),C⟩
 refine⟨I.ok,I.os,hg,⟨λb o e n t a=>?_,λb o e n t a=>?_,λb o e n a=>?_,λb o e a=>?_,λb xs e=>tups b xs (I.base.tups b xs e),λb o xs e=>frzs b o xs (I.base.frzs b o xs e),λb ps e=>?_⟩,?_,λx c e=>?_,?_,λx c e=>?_,λp hp=>?_,hok,I.len⟩
 ·exact keep b o (A b o e) t (h b o e a) (I.base.keep b o e n t a) (I.base.free b o e n a)
 ·obtain⟨E,j⟩:=I.base.slot b o e n t a;obtain⟨D,B⟩:=slot b _ (A b o e) t (h b o e a) j (I.base.free b o e n a);exact⟨D,B⟩
 ·obtain⟨o',j⟩:=I.base.there b o e a;exact free b o' (h b o e a) j (I.base.free b o e n a)
 ·obtain⟨o',j⟩:=I.base.there b o e a;exact there b o' (h b o e a) j
 ·obtain⟨L,j⟩:=I.base.tbls b ps e;obtain⟨G,B⟩:=tbls b _ j;exact⟨L++G,by rw[B,Array.append_assoc]⟩
 ·obtain⟨m,M,K⟩:=I.loc;refine⟨m,ns m M,λi x v j B J=>?_⟩;obtain⟨u,r,l⟩:=K i x v j B J;refine⟨u,r,?_⟩;rcases l with l | ⟨k,c,e,z⟩
  ·exact .inl l
  ·exact .inr ⟨k,c,e,f x c e _ z⟩
 ·obtain⟨v,z⟩:=I.cell x c e;exact⟨v,f x c e v z⟩
 ·obtain⟨m,⟨o,_,_,y,_⟩,_⟩:=I.loc;exact free _ o (λz=>(hch _ z).2.1 rfl) y I.free
 ·obtain⟨v,o,y,C⟩:=I.cell x c e;exact free c o (λz=>(hch c z).2.2.1 x c e rfl) y (I.freeC x c e)
 ·obtain⟨e,n,ne,F,d⟩:=I.pin p hp;have g:p.1∉ch:=λz=>(hch p.1 z).2.2.2 p hp rfl;exact⟨keep p.1 p.2 ne F g e n,free p.1 p.2 g e n,ne,F,d⟩
theorem Inv.un(I:Inv X pins σ H s)(u:Un X.fs [] H H' s.heap h')(hok:Et X.prog X.w H' h'):Inv X pins σ H' {s with heap:=h',toks:=t'}:=by
 obtain⟨m,⟨o,es,ep,g,r⟩,_⟩:=id I.loc;obtain⟨l,h⟩:=u.any g I.free (by simp)
 exact I.step (g':=s.gens) (d':=s.drawn) (ch:=[]) (λ_ z=>nomatch z) (λb o _ f _ e n=>u.keep b o e n f (by simp)) (λb o _ f _ e n=>u.slot b o e n f (by simp)) (λb o _ e n=>u.free b o e n (by simp)) (λb o _ e=>u.there b o e (by simp)) u.tups u.frzs u.tbls (λk i=>by
  obtain⟨o',c,d,a,j⟩:=i
  rw[g]at a;cases a
  exact⟨_,c,d,h,j⟩) hok I.bare
theorem Inv.call(I:Inv X pins σ H s)(u:Un (frs X.stack) ch H H' s.heap h')(hok:Et X.prog X.w H' h')(hg:AllBare g')
  (hch:∀b∈ch,(b∈X.ex\/X.s₀.heap.objs.size<=b)/\b≠X.env.locals/\(∀x c,X.env.cells.lookup x=some c->c≠b)/\∀p∈X.pn++pins,p.1≠b):
  Inv X pins σ H' {s with heap:=h',gens:=g',drawn:=d',toks:=t'}:=by
 obtain⟨m,⟨o,es,ep,i,r⟩,_⟩:=id I.loc;obtain⟨t,f⟩:=u.any i I.free λz=>(hch _ z).2.1 rfl
 exact I.step (ch:=ch) hch (λb o f l a e n=>u.keep b o e n (λz=>(Cw.mp (I.stkSub b z)).elim f l) a) (λb o _ _ a e n=>u.any e n a) (λb o a e n=>u.free b o e n a) (λb o a e=>u.there b o e a) u.tups u.frzs u.tbls (λq j=>by
  obtain⟨o',g,h,d,k⟩:=j
  rw[i]at d;cases d
  exact⟨_,g,h,f,k⟩) hok hg
theorem Inv.turned{it:Y9}(I:Inv X pins σ H s)(k:∀b o,b≠it->s.heap.get? b=some o->h'.get? b=some o)(hn:H it=none)(hL:it≠X.env.locals)
  (h1:it∈X.ex\/X.s₀.heap.objs.size<=it) (h2:∀x c,X.env.cells.lookup x=some c->c≠it) (h3:∀p∈X.pn++pins,p.1≠it):Inv X pins σ H {s with heap:=h',toks:=t'}:=by
 have d:∀b u,H b=some u->b≠it:=λb u e z=>by rw[z,hn]at e;cases e
 refine I.step (g':=s.gens) (d':=s.drawn) (ch:=[it]) (λb h=>?_) (λb o _ _ a e _=>k b o (λz=>a (by simp[z])) e) (λb o _ _ a e _=>⟨o.slots,k b o (λz=>a (by simp[z])) e⟩) (λ_ _ _ _ n=>n)
  (λb o a e=>⟨o,k b o (λz=>a (by simp[z])) e⟩) (λ_ _ e=>e) (λ_ _ _ e=>e) (λb ps e=>⟨#[],by rw[e];simp⟩) (λm g=>?_) (λb u e=>?_) I.bare
 ·have e:b=it:=by simpa using h
  subst e;exact⟨h1,hL,h2,h3⟩
 ·obtain⟨o,es,ep,f,r⟩:=g;exact⟨o,es,ep,k _ o (Ne.symm hL) f,r⟩
 ·refine(I.hok b u e).stay (λc v a q=>k c v ?_ q) (λ_ q=>q) λ_ _ q=>q;rcases a with z | z
  ·rw[z];exact d b u e
  ·exact d c _ z
theorem Inv.tok(I:Inv X pins σ H s)(t:Nat):Inv X pins σ H {s with toks:=t}:=I.un (h':=s.heap) (t':=t) Un.refl I.hok
theorem Inv.kept(I:Inv X pins σ H s)(k:∀b u,s.heap.get? b=some u->h'.get? b=some u):Inv X pins σ H {s with heap:=h',toks:=t'}:=I.un (Un.kept k) (I.hok.kept k)
theorem Inv.laid{o:HO}(I:Inv X pins σ H s)(k:∀b u,s.heap.get? b=some u->h'.get? b=some u)(hp:s.heap.objs.size<=a)(new:Bc X.prog X.w (upd H a o) h' a o):
  Inv X pins σ (upd H a o) {s with heap:=h',toks:=t'}:=I.un (Un.laid k hp (I.hok.fresh hp)) (I.hok.laid k hp new)
theorem Inv.write{x e:Y9}{o:HO}(I:Inv X pins σ H s)(mu:Yj (H x))(he:e=x\/H e=some (.own x))(k:∀b u,b≠e->s.heap.get? b=some u->h'.get? b=some u)(heo:∃u,h'.get? e=some u)
  (new:Bc X.prog X.w (upd H x o) h' x o):Inv X pins σ (upd H x o) {s with heap:=h',toks:=t'}:=I.un (Un.write mu he k heo) (I.hok.write mu he k heo new)
theorem Inv.pins_of{pins':U1}(I:Inv X pins σ H s)(h:∀p∈pins',s.heap.get? p.1=some p.2/\H p.1=none/\p.1≠X.env.locals/\p.1∉X.fs/\∀v,p.2.data≠.cell v):Inv X pins' σ H s :=
 ⟨I.ok,I.os,I.bare,I.base,I.loc,I.cell,I.free,I.freeC,λp hp=>(Ho.mp hp).elim (λz=>I.pin p (Q_ _ z)) (h p),I.hok,I.len⟩
variable{i:Nat}{x:Str}
theorem tG{N:W4}(hN:N.Nodup){j:Nat}(a:N[i]?=some x)(b:N[j]?=some x):i=j:=by
 obtain⟨h1,c⟩:=DW.mp a;obtain⟨h2,d⟩:=DW.mp b;exact(List.getElem_inj hN).mp (c.trans d.symm)
variable{Q:Unit->Shared->Prop}
theorem oM{M:Model}{A:Y6}{E:U2}{v:V}{u:W8}(I:Inv X pins σ H s)(hN:X.N.Nodup)(hi:X.N[i]?=some x)(B:Loc X.env.scope x)(r:RelV v u)
  (h:∀s',Inv X pins (σ.set i (some v)) H s'->(∃a,Heap.SameBut a s.heap s'.heap/\(a=X.env.locals\/X.env.cells.lookup x=some a))->Q () s') (hf:X.fn x=true\/X.env.scope.names.lookup x=some .local:=by first | exact .inl rfl | exact .inr rfl | assumption):wpAny M A (storeName X.env x u) Q E s:=by
 obtain⟨m,Z,hl⟩:=id I.loc;have P:(X.env.scope.kind == .class || (X.env.scope.kind == .module && X.env.locals != X.env.globals))=false:=by rw[I.ok.kind];rfl
 have K:i<σ.length:=by rw[I.len];exact(DW.mp hi).1
 have cne:=I.cne;have g:∀{a:Y9}{h':Heap},(∃o,s.heap.get? a=some o/\H a=none)->Heap.SameBut a s.heap h'->Et X.prog X.w H h':=λ{a h'} ha f b ob e=>by
  obtain⟨_,_,C⟩:=ha;refine(I.hok b ob e).stay (λc R t q=>(f.2 c ?_).trans q) (λ_ q=>q) λ_ _ q=>q;rintro rfl;rcases t with rfl | t
  ·rw[C]at e;cases e
  ·rw[C]at t;cases t
 rcases B with hk | hk
 ·refine wpAny_storeName_local hk Z (λh' W f=>?_) P;obtain⟨oL,_,_,a0,_⟩:=id Z;refine h _ ⟨I.ok,I.os,I.bare,⟨λb o e n G B=>?_,λb o e n G B=>?_,I.base.free,λb o e B=>?_,I.base.tups,I.base.frzs,I.base.tbls⟩,⟨_,W,λj y T l D S=>?_⟩,λy c e=>?_,I.free,I.freeC,λp hp=>?_,g ⟨oL,a0,I.free⟩ f,by simpa using I.len⟩ ⟨_,f,.inl rfl⟩
  ·exact(f.2 b (Dc (FQ (Bp e) I.ok.above))).trans (I.base.keep b o e n G B)
  ·obtain⟨sl,l⟩:=I.base.slot b o e n G B;exact⟨sl,(f.2 b (Dc (FQ (Bp e) I.ok.above))).trans l⟩
  ·obtain⟨o',l⟩:=I.base.there b o e B;exact⟨o',(f.2 b (Dc (FQ (Bp e) I.ok.above))).trans l⟩
  ·by_cases hj:j=i
   ·subst hj;rw[hi]at l;cases l;rw[mG K]at D;cases D;exact⟨u,r,.inl ⟨hk,by simp⟩⟩
   ·rw[Zm (Ne.symm hj)]at D;obtain⟨U,Y,q⟩:=hl j y T l D S;refine⟨U,Y,?_⟩;rcases q with ⟨k,e⟩ | ⟨k,c,e,z⟩
    ·refine .inl ⟨k,?_⟩;have:y≠x:=λe=>hj (tG hN l (e ▸ hi));simp[this,e]
    ·exact .inr ⟨k,c,e,z.sameBut f (cne y c e)⟩
  ·obtain⟨R,z⟩:=I.cell y c e;exact⟨R,z.sameBut f (cne y c e)⟩
  ·obtain⟨e,n,ne,nf,d⟩:=I.pin p hp;exact⟨(f.2 p.1 ne).trans e,n,ne,nf,d⟩
 ·have F:X.fn x=true:=by
   rcases hf with z | z
   ·exact z
   ·rw[z]at hk;cases hk
  obtain⟨c,t⟩:=I.ok.has x (.inl hk);obtain⟨R,z⟩:=I.cell x c t;refine wpAny_storeName_cell I.ok.kind hk t z (λh' O f=>?_);obtain⟨oc,L,J⟩:=id z;refine h {s with heap:=h'} ⟨I.ok,I.os,I.bare,⟨λb o e n G B=>?_,λb o e n G B=>?_,I.base.free,λb o e B=>?_,I.base.tups,I.base.frzs,I.base.tbls⟩,⟨m,Z.sameBut f (Ne.symm (cne x c t)),λj y T l D S=>?_⟩,λy c' e=>?_,I.free,I.freeC,λp hp=>?_,g ⟨oc,L,I.freeC x c t⟩ f,by simpa using I.len⟩ ⟨c,f,.inr t⟩
  ·exact(f.2 b (Dc (FQ (Bp e) (I.ok.cab x c F t)))).trans (I.base.keep b o e n G B)
  ·obtain⟨sl,l⟩:=I.base.slot b o e n G B;exact⟨sl,(f.2 b (Dc (FQ (Bp e) (I.ok.cab x c F t)))).trans l⟩
  ·obtain⟨o',l⟩:=I.base.there b o e B;exact⟨o',(f.2 b (Dc (FQ (Bp e) (I.ok.cab x c F t)))).trans l⟩
  ·by_cases hj:j=i
   ·subst hj;rw[hi]at l;cases l;rw[mG K]at D;cases D;exact⟨u,r,.inr ⟨.inl hk,c,t,O⟩⟩
   ·rw[Zm (Ne.symm hj)]at D;obtain⟨U,Y,q⟩:=hl j y T l D S;refine⟨U,Y,?_⟩;rcases q with q | ⟨k,c',e,z'⟩
    ·exact .inl q
    ·refine .inr ⟨k,c',e,z'.sameBut f ?_⟩;rintro rfl;exact hj (tG hN l (I.ok.inj _ _ _ e t ▸ hi))
  ·by_cases hcc:c'=c
   ·subst hcc;exact⟨_,O⟩
   ·obtain⟨w2,z2⟩:=I.cell y c' e;exact⟨w2,z2.sameBut f hcc⟩
  ·obtain⟨e,n,ne,nf,d⟩:=I.pin p hp;refine⟨(f.2 p.1 ?_).trans e,n,ne,nf,d⟩;intro q;rw[q,L]at e;have q':oc=p.2:=Option.some.inj e;exact d R (by rw[<-q'];exact J)
theorem V0{M:Model}{A:Y6}{E:U2}{v:V}{u:W8}(I:Inv X pins σ H s)(hN:X.N.Nodup)(hi:X.N[i]?=some x)(hx:Loc X.env.scope x)(r:RelV v u)
  (h:∀s',Inv X pins (σ.set i (some v)) H s'->Q () s') (hf:X.fn x=true\/X.env.scope.names.lookup x=some .local:=by first | exact .inl rfl | exact .inr rfl | assumption):wpAny M A (storeName X.env x u) Q E s :=
 oM I hN hi hx r (λs' a _=>h s' a) hf
theorem Inv.call'{s':U7}(I:Inv X pins σ H s)(ho:s'.os=s.os)(u:Un (frs X.stack) ch H H' s.heap s'.heap)(hok:Et X.prog X.w H' s'.heap)(hg:AllBare s'.gens)
  (hch:∀b∈ch,(b∈X.ex\/X.s₀.heap.objs.size<=b)/\b≠X.env.locals/\(∀x c,X.env.cells.lookup x=some c->c≠b)/\∀p∈X.pn++pins,p.1≠b):Inv X pins σ H' s':=by
 obtain⟨h',g',d',t',o'⟩:=s';have e:o'=s.os:=ho;subst e;exact I.call (g':=g') (t':=t') (d':=d') u hok hg hch
end
abbrev XK:=Value->Option Addr->Hp->Prop
abbrev St:=List (Option V)
abbrev VK:=V->Hp->Prop
abbrev TE:=St->Hp->VK->Prop
abbrev TT:=St->Hp->(Bool->Hp->Prop)->Prop
abbrev TA:=St->Hp->(List V->Hp->Prop)->Prop
structure Ends where
 nx:St->Hp->Prop
 rt:VK
 bk:St->Hp->Prop:=λ_ _=>False
 ct:St->Hp->Prop:=λ_ _=>False
abbrev TS:=Ends->St->Hp->Prop
def EP (X:Cx)(pins:U1)(σ:St)(Q:VK)(u:W8)(s':U7):Prop:=∃v H',Inv X pins σ H' s'/\RelV v u/\Q v H'
def TP (X:Cx)(pins:U1)(σ:St)(Q:Bool->Hp->Prop)(b:Bool)(s':U7):Prop:=∃H',Inv X pins σ H' s'/\Q b H'
def AP (X:Cx)(pins:U1)(σ:St)(Q:List V->Hp->Prop)(us:U5)(s':U7):Prop:=∃vs H',Inv X pins σ H' s'/\Vals vs us/\Q vs H'
def SP (X:Cx)(pins:U1)(D:Ends)(f:Flow)(s':U7):Prop :=
 match f with
 | .next=>∃σ' H',Inv X pins σ' H' s'/\D.nx σ' H'
 | .brk=>∃σ' H',Inv X pins σ' H' s'/\D.bk σ' H'
 | .cont=>∃σ' H',Inv X pins σ' H' s'/\D.ct σ' H'
 | .ret u=>∃v σ' H',Inv X pins σ' H' s'/\RelV v u/\D.rt v H'
def PE (X:Cx)(e:Expr)(t:TE):Prop :=
 ∀(pins:U1) (s:U7) (σ:St) (H:Hp) (Q:VK),Inv X pins σ H s->t σ H Q->wpAny (model X.prog X.w) X.A (eval e X.env) (EP X pins σ Q) X.xe s
def PT (X:Cx)(e:Expr)(t:TT):Prop :=
 ∀(pins:U1) (s:U7) (σ:St) (H:Hp) (Q:Bool->Hp->Prop),Inv X pins σ H s->t σ H Q->wpAny (model X.prog X.w) X.A (isTrue e X.env (eval e X.env)) (TP X pins σ Q) X.xe s
def PW (X:Cx)(e:Expr)(t:TT):Prop :=
 ∀(whole:Sem Value) (pins:U1) (s:U7) (σ:St) (H:Hp) (Q:Bool->Hp->Prop),Inv X pins σ H s->t σ H Q->wpAny (model X.prog X.w) X.A (isTrue e X.env whole) (TP X pins σ Q) X.xe s
variable{X:Cx}{e:Expr}
theorem PW.pt{t:TT}(h:PW X e t):PT X e t:=h _
def PA (X:Cx)(es:List Expr)(t:TA):Prop :=
 ∀(pos:Pos) (pins:U1) (s:U7) (σ:St) (H:Hp) (Q:List V->Hp->Prop),Inv X pins σ H s->t σ H Q->wpAny (model X.prog X.w) X.A (spliced (backTo pos (starEach es X.env))) (AP X pins σ Q) X.xe s
def PS (X:Cx)(st:Stmt)(t:TS):Prop :=
 ∀(pins:U1) (s:U7) (σ:St) (H:Hp) (D:Ends),Inv X pins σ H s->t D σ H->wpAny (model X.prog X.w) X.A (exec st X.env) (SP X pins D) X.xe s
def Fd (X:Cx)(st:Y8)(t:TS):Prop :=
 ∀(pins:U1) (s:U7) (σ:St) (H:Hp) (D:Ends),Inv X pins σ H s->t D σ H->wpAny (model X.prog X.w) X.A (execs st X.env) (SP X pins D) X.xe s
variable{A:Y6}{E:U2}{s:U7}
theorem Bl{α:Type}{t:Sem α}{Q Q':α->Shared->Prop}{M:Model}(h:wpAny M A t Q E s)(hQ:∀a s,Q a s->Q' a s):wpAny M A t Q' E s:=Ek h hQ λ_ _ x=>x
section
variable {X:Cx}
def B_ (i:Nat):TE:=λσ H Q=>∃v,σ[i]?=some (some v)/\Q v H
def tC (v:V):TE:=λ_ H Q=>Q v H
variable{x:Str}
theorem X5f{i:Nat}{pos:Pos}(hN:X.N[i]?=some x)(hv:Yh X.env.scope x)(hd:(x == ("__debug__":Str))=false:=by decide)(hcd:(x == ("__classdict__":Str))=false:=by decide):PE X (.Name x pos) (B_ i):=by
 intro pins s σ H Q I h;obtain⟨v,e,h⟩:=h;obtain⟨m,b,a⟩:=I.loc;obtain⟨u,r,l⟩:=a i x v hN e hv;have fin:EP X pins σ Q u s:=⟨v,H,I,r,h⟩;rcases l with ⟨hk,hm⟩ | ⟨hk,c,hc,hcell⟩
 ·exact wpAny_Name (wpAny_loadName_local I.ok.kind hk b hm fin) hd
 ·rcases hk with hk | hk
  ·exact wpAny_Name (wpAny_loadName_cell I.ok.kind hk hc hcell fin) hd
  ·exact wpAny_Name (wpAny_loadName_free I.ok.kind hk hc hcell fin hcd) hd
theorem Ac{i j pos}:PE X (.Constant (.int i) j pos) (tC (.int i)):=λ_ _ _ H _ I h=>wpAny_Constant_int ⟨.int i,H,I.tok _,⟨_,U⟩,h⟩
theorem Ef{b j pos}:PE X (.Constant (.bool b) j pos) (tC (.bl b)):=λ_ _ _ H _ I h=>Constant_bool ⟨.bl b,H,I,U,h⟩
theorem YW{j pos}:PE X (.Constant .none j pos) (tC .non):=λ_ _ _ H _ I h=>Constant_none ⟨.non,H,I,U,h⟩
theorem jw{x j pos}:PE X (.Constant (.str x) j pos) (tC (.str x)):=λ_ _ _ H _ I h=>Calls.Constant_str ⟨.str x,H,I.tok _,⟨_,U⟩,h⟩
def Gl (X:Cx)(x:Str):Prop:=X.env.kindOf x=some .globalImplicit
variable{u:W8}{Q:U2}
theorem QT{pins:U1}{σ:St}{pos:Pos}(I:Inv X pins σ H s)(hg:Gl X x)(hm:X.mg x=some u)(h:Q u s)
  (hd:(x == ("__debug__":Str))=false:=by decide):wpAny (model X.prog X.w) X.A (eval (.Name x pos) X.env) Q E s :=
 Calls.Name_function_global I.ok.kind hg (Calls.loadGlobal_global (by rw[I.ok.glob];exact I.mod.glob.keeps I.bk) hm h) hd
theorem Oz{pins:U1}{σ:St}{pos:Pos}(I:Inv X pins σ H s)(hg:Gl X x)(hm:X.mg x=none)(hv:bootBuiltins x=some u)(h:Q u s)
  (hn:x≠"__name__":=by decide) (hd:(x == ("__debug__":Str))=false:=by decide):wpAny (model X.prog X.w) X.A (eval (.Name x pos) X.env) Q E s:=by
 obtain⟨a,h1,h2⟩:=I.mod.blt;exact Calls.Name_function_global I.ok.kind hg (Calls.loadGlobal_builtin (by rw[I.ok.glob];exact I.mod.glob.keeps I.bk) hm (by rw[I.ok.blt];exact h1.keeps I.bk) ((h2 x hn).trans hv) h) hd
theorem iZ{v:V}{pos:Pos}(hg:Gl X x)(hm:X.mg x=some u)(r:RelV v u)(hd:(x == ("__debug__":Str))=false:=by decide):PE X (.Name x pos) (tC v):=
 λ_ _ _ H _ I h=>QT I hg hm ⟨v,H,I,r,h⟩ hd
theorem Je{v:V}{pos:Pos}(hg:Gl X x)(hm:X.mg x=none)(hv:bootBuiltins x=some u)(r:RelV v u)(hn:x≠"__name__":=by decide)(hd:(x == ("__debug__":Str))=false:=by decide):PE X (.Name x pos) (tC v):=
 λ_ _ _ H _ I h=>Oz I hg hm hv ⟨v,H,I,r,h⟩ hn hd
variable {a b:Expr}{ta tb:TE}{pos:Pos}
def tB (t:TE):TT:=λσ H Q=>t σ H λx H1=>∃c,x=.bl c/\Q c H1
theorem Cr{t:TE}(h:PE X e t)(he:∀whole,isTrue e X.env whole=(do let v ← whole;standAt e.pos;holding [v] (truthy v)):=by intro _;rfl):PT X e (tB t):=by
 intro pins s σ H Q I c;refine isTrue_plain (Bl (h pins s σ H _ I c) λv g ⟨x,H1,b,f,a⟩=>?_) (he _);obtain⟨d,rfl,q⟩:=a;cases f;exact Pk ⟨H1,b,q⟩
variable {tA tB':TT}{rest:List Expr}
def R_ (t u:TT):TT:=λσ H Q=>t σ H λc H1=>if c=true then u σ H1 Q else Q false H1
def vh (t u:TT):TT:=λσ H Q=>t σ H λc H1=>if c=true then Q true H1 else u σ H1 Q
def Yr (t:TT):TT:=λσ H Q=>t σ H λc H1=>Q (!c) H1
theorem QW(ha:PT X a tA):PW X (.BoolOp .And [a] pos) tA:=by
 intro d pins s σ H Q I h;refine isTrue_and (Bl (ha pins s σ H Q I h) λc b e=>?_);cases c with
 | true=>exact isTrue_and_nil e
 | false=>exact e
theorem Gg(ha:PT X a tA):PW X (.BoolOp .Or [a] pos) tA:=by
 intro d pins s σ H Q I h;refine isTrue_or (Bl (ha pins s σ H Q I h) λc b e=>?_);cases c with
 | false=>exact isTrue_or_nil e
 | true=>exact e
theorem MN(ha:PT X a tA)(hb:PW X (.BoolOp .And (b::rest) pos) tB'):PW X (.BoolOp .And (a::b::rest) pos) (R_ tA tB'):=by
 intro g pins s σ H Q I h;refine isTrue_and (Bl (ha pins s σ H _ I h) λc f ⟨H1,e,d⟩=>?_);cases c with
 | true=>exact hb g pins f σ H1 Q e d
 | false=>exact⟨H1,e,d⟩
theorem Eh(ha:PT X a tA)(hb:PW X (.BoolOp .Or (b::rest) pos) tB'):PW X (.BoolOp .Or (a::b::rest) pos) (vh tA tB'):=by
 intro g pins s σ H Q I h;refine isTrue_or (Bl (ha pins s σ H _ I h) λc f ⟨H1,e,d⟩=>?_);cases c with
 | true=>exact⟨H1,e,d⟩
 | false=>exact hb g pins f σ H1 Q e d
theorem Ec(ha:PT X a tA):PT X (.UnaryOp .Not a pos) (Yr tA):=by
 intro pins s σ H Q I h;exact isTrue_not (ha pins s σ H (λc H1=>Q (!c) H1) I h)
def R9 (ta tb:TE):TE:=λσ H Q=>ta σ H λx H1=>∃c,x=.bl c/\if c=true then tb σ H1 Q else Q (.bl false) H1
def Yq (ta tb:TE):TE:=λσ H Q=>ta σ H λx H1=>∃c,x=.bl c/\if c=true then Q (.bl true) H1 else tb σ H1 Q
def R7 (ta:TE):TE:=λσ H Q=>ta σ H λx H1=>∃c,x=.bl c/\Q (.bl (!c)) H1
theorem KH{op}{t:TE}(h:PE X a t):PE X (.BoolOp op [a] pos) t:=λpins s σ H Q I b=>BoolOp_one (h pins s σ H Q I b)
theorem Lh(ha:PE X a ta)(hb:PE X (.BoolOp .And (b::rest) pos) tb):PE X (.BoolOp .And (a::b::rest) pos) (R9 ta tb):=by
 intro pins s σ H Q I h;refine BoolOp_and (Bl (ha pins s σ H _ I h) λv f ⟨x,H1,e,g,d⟩=>?_);obtain⟨c,rfl,d⟩:=d;cases g;refine Pk ?_;cases c with
 | true=>exact hb pins f σ H1 Q e d
 | false=>exact⟨.bl false,H1,e,rfl,d⟩
theorem X7z(ha:PE X a ta)(hb:PE X (.BoolOp .Or (b::rest) pos) tb):PE X (.BoolOp .Or (a::b::rest) pos) (Yq ta tb):=by
 intro pins s σ H Q I h;refine BoolOp_or (Bl (ha pins s σ H _ I h) λv f ⟨x,H1,e,g,d⟩=>?_);obtain⟨c,rfl,d⟩:=d;cases g;refine Pk ?_;cases c with
 | false=>exact hb pins f σ H1 Q e d
 | true=>exact⟨.bl true,H1,e,rfl,d⟩
theorem pP(ha:PE X a ta):PE X (.UnaryOp .Not a pos) (R7 ta):=by
 intro pins s σ H Q I h;refine UnaryOp_ (Bl (ha pins s σ H _ I h) λv f ⟨x,H1,d,e,b⟩=>?_);obtain⟨c,rfl,b⟩:=b;cases e;exact not_of (Pk ⟨.bl (!c),H1,d,U,b⟩)
end
def Ai (K:U0)(H:Hp)(a:Y9)(xs:List V):Prop :=
 Rd H a (.lst xs) \/
  ∃(o:Obj) (its:U9) (n:Nat),K.lookup a=some o/\o.cls=.type "list"/\o.dict=none/\o.data=.seq its n/\its.size<=sizeLine/\Vals xs its.toList
def Ah (K:U0)(H:Hp)(a:Y9)(xs:List V):Prop :=
 Rd H a (.tup xs) \/
  ∃(o:Obj) (its:U9) (n:Nat),K.lookup a=some o/\o.cls=.type "tuple"/\o.data=.seq its n/\its.size<=sizeLine/\Vals xs its.toList
noncomputable def iJ:Value->Option V
 | .none=>some .non
 | .bool b=>some (.bl b)
 | .int i _=>some (.int i)
 | .str x _=>some (.str x)
 | .bytes b _=>some (.byt b)
 | .float b _=>some (.flt b)
 | .ref a=>some (.ref a)
 | .type n=>some (.ty n)
 | _=>none
variable{x:V}{u:W8}
theorem RelV.abs(r:RelV x u):iJ u=some x:=by
 cases x with
 | non=>cases r;rfl
 | bl _=>cases r;rfl
 | int _=>obtain⟨t,rfl⟩:=r;rfl
 | str _=>obtain⟨t,rfl⟩:=r;rfl
 | byt _=>obtain⟨t,rfl⟩:=r;rfl
 | flt _=>obtain⟨t,rfl⟩:=r;rfl
 | ref _=>cases r;rfl
 | ty _=>cases r;rfl
theorem RelV.inj{y:V}(r:RelV x u)(q:RelV y u):x=y:=Option.some.inj (r.abs.symm.trans q.abs)
theorem Vals.inj{ys:List V}(h:Vals xs us)(h':Vals ys us):xs=ys:=by
 induction h generalizing ys with
 | nil=>cases h';rfl
 | cons r t ih=>cases h' with
  | cons r' t'=>rw[r.inj r',ih t']
section
variable {X:Cx}{pins:U1}{σ:St}{H:Hp}{s:U7}{a:Y9}{xs ys:List V}
theorem Ai.of{K:U0}(h:H a=some (.lst xs)):Ai K H a xs:=.inl (.inl h)
theorem Ah.of{K:U0}(h:H a=some (.tup xs)):Ah K H a xs:=.inl (.inl h)
theorem Inv.list(I:Inv X pins σ H s)(h:Ai X.K H a xs):∃its:List Value,Vals xs its/\PlainL s.heap a its.toArray/\xs.length<=sizeLine:=by
 rcases h with h | ⟨o,its,n,hk,hc,hd,hs,hz,r⟩
 ·obtain⟨z,its,n,r,e⟩:=h.ok I.hok;exact⟨its,r,⟨_,n,e,U,U,U⟩,z⟩
 ·refine⟨its.toList,r,⟨o,n,I.kIn a o hk,hc,hd,by simpa using hs⟩,?_⟩;have e:=r.length;simp only[Dz]at e;lia
theorem Inv.tuple(I:Inv X pins σ H s)(h:Ah X.K H a xs):∃its:List Value,Vals xs its/\IsTup s.heap a its.toArray/\xs.length<=sizeLine:=by
 rcases h with h | ⟨o,its,n,hk,hc,hs,hz,r⟩
 ·obtain⟨z,its,r,p⟩:=h.ok I.hok;exact⟨its,r,p,z⟩
 ·refine⟨its.toList,r,⟨o,I.kIn a o hk,hc,n,by simpa using hs⟩,?_⟩;have e:=r.length;simp only[Dz]at e;lia
theorem Inv.list_inj(I:Inv X pins σ H s)(h:Ai X.K H a xs)(h':Ai X.K H a ys):xs=ys:=by
 obtain⟨its,r,⟨o,n,e,_,_,d⟩,_⟩:=I.list h;obtain⟨its',c,⟨o',n',b,_,_,d'⟩,_⟩:=I.list h';rw[e]at b;cases b;rw[d]at d';injection d' with d1 _;have:its=its':=by simpa using congrArg Array.toList d1
 subst this;exact r.inj c
theorem Inv.tuple_inj(I:Inv X pins σ H s)(h:Ah X.K H a xs)(h':Ah X.K H a ys):xs=ys:=by
 obtain⟨its,r,⟨o,e,_,n,d⟩,_⟩:=I.tuple h;obtain⟨its',c,⟨o',b,_,n',d'⟩,_⟩:=I.tuple h';rw[e]at b;cases b;rw[d]at d';injection d' with d1 _;have:its=its':=by simpa using congrArg Array.toList d1
 subst this;exact r.inj c
end
noncomputable abbrev Cx.wish (X:Cx)(E:U2):Cx:={X with xe:=E}
noncomputable abbrev Cx.nox (X:Cx):Cx:=X.wish λ_ _=>False
theorem Cx.Ok.wish(ok:X.Ok)(E:U2):(X.wish E).Ok :=
 ⟨ok.mod,ok.kind,ok.glob,ok.blt,ok.above,ok.inj,ok.has,ok.cab,ok.hd,ok.frames,ok.stk,ok.exf,ok.bs,ok.bsz,ok.noex,ok.exfs,ok.funs,ok.frf⟩
theorem Cx.Ok.unwish(ok:(X.wish E).Ok):X.Ok :=
 ⟨ok.mod,ok.kind,ok.glob,ok.blt,ok.above,ok.inj,ok.has,ok.cab,ok.hd,ok.frames,ok.stk,ok.exf,ok.bs,ok.bsz,ok.noex,ok.exfs,ok.funs,ok.frf⟩
section
variable {X:Cx}{pins:U1}{σ:St}{H:Hp}{s:U7}{E:U2}
theorem Inv.wish(I:Inv X pins σ H s)(E:U2):Inv (X.wish E) pins σ H s:=⟨I.ok.wish E,I.os,I.bare,I.base,I.loc,I.cell,I.free,I.freeC,I.pin,I.hok,I.len⟩
theorem Inv.unwish(I:Inv (X.wish E) pins σ H s):Inv X pins σ H s:=⟨I.ok.unwish,I.os,I.bare,I.base,I.loc,I.cell,I.free,I.freeC,I.pin,I.hok,I.len⟩
theorem SP.unwish{D:Ends}{f:Flow}{s':U7}(h:SP (X.wish E) pins D f s'):SP X pins D f s':=by
 cases f with
 | next=>obtain⟨a,H',I,q⟩:=h;exact⟨a,H',I.unwish,q⟩
 | brk=>obtain⟨a,H',I,q⟩:=h;exact⟨a,H',I.unwish,q⟩
 | cont=>obtain⟨a,H',I,q⟩:=h;exact⟨a,H',I.unwish,q⟩
 | ret u=>obtain⟨v,a,H',I,r,q⟩:=h;exact⟨v,a,H',I.unwish,r,q⟩
theorem Fd.nox{st:Y8}{t:TS}(h:Fd X.nox st t):Fd X st t:=λpins s σ H D I a =>
 Ek (h pins s σ H D (I.wish _) a) (λ_ _ q=>q.unwish) λ_ _ z=>False.elim z
end
section
variable {X:Cx}{st:Stmt}{rest:Y8}{t u:TS}{e:Expr}{te:TE}{pos:Pos}
def JT:TS:=λD σ H=>D.nx σ H
def Kd (t u:TS):TS:=λD σ H=>t {D with nx:=u D} σ H
theorem Ce:Fd X [] JT:=λ_ _ σ H _ I h=>Qz ⟨σ,H,I,h⟩
theorem Ao(h1:PS X st t)(h2:Fd X rest u):Fd X (st::rest) (Kd t u):=by
 intro pins s σ H D I h;refine ZW (Bl (h1 pins s σ H {D with nx:=u D} I h) λf a q=>?_);cases f with
 | next =>
  obtain⟨b,H',c,q⟩:=q;exact h2 pins a b H' D c q
 | ret v=>exact q
 | brk=>exact q
 | cont=>exact q
theorem Aq(h1:PS X st t):Fd X [st] t:=by
 intro pins s σ H D I h;refine ZW (Bl (h1 pins s σ H D I h) λf a q=>?_);cases f with
 | next=>exact Qz q
 | ret v=>exact q
 | brk=>exact q
 | cont=>exact q
theorem Inv.quiet{pins:U1}{σ:St}(I:Inv X pins σ H s):interactive X.env=false:=by simp[interactive,I.ok.kind]
def R8 (te:TE):TS:=λD σ H=>te σ H λ_ H1=>D.nx σ H1
theorem NT(he:PE X e te)(hs:swapsWith e none pos.line X.env=pure false:=by rfl):PS X (.Expr e pos) (R8 te):=by
 intro pins s σ H D I h;exact wpAny_Expr_any (Bl (he pins s σ H _ I h) λv c ⟨x,H1,b,d,a⟩=>⟨σ,H1,b,a⟩) I.quiet hs
def Ik (te:TE):TS:=λD σ H=>te σ H D.rt
theorem BW(he:PE X e te):PS X (.Return (some e) pos) (Ik te):=by
 intro pins s σ H D I h;exact wpAny_Return_some (Bl (he pins s σ H _ I h) λv d ⟨x,H1,b,c,a⟩=>⟨x,σ,H1,b,c,a⟩)
def Ml (c:TT)(t u:TS):TS:=λD σ H=>c σ H λb H1=>if b=true then t D σ H1 else u D σ H1
theorem Cd{c:Expr}{a b:Y8}{tc:TT}(hc:PT X c tc)(ha:Fd X a t)(hb:Fd X b u):PS X (.If c a b pos) (Ml tc t u):=by
 intro pins s σ H D I h;refine wpAny_If (Bl (hc pins s σ H _ I h) λd f ⟨H1,g,e⟩=>?_);cases d with
 | true=>exact ha pins f σ H1 D g e
 | false=>exact hb pins f σ H1 D g e
def O_:TS:=λ_ _ _=>False
theorem Vy:PS X st O_:=λ_ _ _ _ _ _ h=>h.elim
end
abbrev TG:=V->St->Hp->(St->Hp->Prop)->Prop
abbrev Qh:=List V->St->Hp->(St->Hp->Prop)->Prop
def PG (X:Cx)(target:Expr)(t:TG):Prop :=
 ∀(pins:U1) (s:U7) (σ:St) (H:Hp) (v:V) (u:W8) (Q:St->Hp->Prop),Inv X pins σ H s->RelV v u->t v σ H Q ->
  wpAny (model X.prog X.w) X.A (assign target X.env u) (λ_ s'=>∃σ' H',Inv X pins σ' H' s'/\Q σ' H') X.xe s
def Yi (X:Cx)(ts:List Expr)(t:Qh):Prop :=
 ∀(pins:U1) (s:U7) (σ:St) (H:Hp) (vs:List V) (us:U5) (Q:St->Hp->Prop),Inv X pins σ H s->Vals vs us->t vs σ H Q ->
  wpAny (model X.prog X.w) X.A (assignInOrder ((assignEach ts X.env).map (·.2)) us) (λ_ s'=>∃σ' H',Inv X pins σ' H' s'/\Q σ' H') X.xe s
abbrev Qg:=V->V->V->Hp->(Hp->Prop)->Prop
def WD (X:Cx)(t:Qg):Prop :=
 ∀(pins:U1) (s:U7) (σ:St) (H:Hp) (o i v:V) (ov iv u:W8) (Q:Hp->Prop),Inv X pins σ H s->RelV o ov->RelV i iv->RelV v u->t o i v H Q ->
  wpAny (model X.prog X.w) X.A (setItem ov iv u) (λ_ s'=>∃H',Inv X pins σ H' s'/\Q H') X.xe s
section
variable {X:Cx}{pos:Pos}
def CQ (i:Nat):TG:=λv σ H Q=>Q (σ.set i (some v)) H
theorem Bq{i:Nat}{x:Str}(hN:X.N.Nodup)(hi:X.N[i]?=some x)(hx:Loc X.env.scope x)(hf:X.fn x=true\/X.env.scope.names.lookup x=some .local:=by first | exact .inl rfl | exact .inr rfl | assumption):PG X (.Name x pos) (CQ i):=by
 intro pins s σ H v u Q I r h;exact wpAny_assign_Name (V0 I hN hi hx r (λs' a=>⟨_,H,a,h⟩) hf)
def Vb:Qh:=λvs σ H Q=>vs=[]/\Q σ H
def Ld (t:TG)(u:Qh):Qh:=λvs σ H Q=>∃v r,vs=v::r/\t v σ H λσ' H'=>u r σ' H' Q
theorem QV:Yi X [] Vb:=by
 intro pins s σ H vs us Q I r h;obtain⟨e,h⟩:=h;subst e;cases r;exact assignInOrder_nil ⟨σ,H,I,h⟩
theorem FZ{e:Expr}{es:List Expr}{t:TG}{u:Qh}(h1:PG X e t)(h2:Yi X es u)
  (hs:(assignEach (e::es) X.env).map (·.2)=assign e X.env::(assignEach es X.env).map (·.2):=by rfl):Yi X (e::es) (Ld t u):=by
 intro pins s σ H vs us Q I r h;obtain⟨v,g,c,h⟩:=h;subst c;cases r with
 | cons r rr =>
  rw[hs];refine Zj (Bl (h1 pins s σ H _ _ _ I r h) λ_ b ⟨f,H1,d,a⟩=>?_);exact h2 pins b f H1 _ _ Q d rr a
def Va (K:U0)(n:Nat)(t:Qh):TG:=λv σ H Q=>∃a xs,v=.ref a/\Ah K H a xs/\xs.length=n/\t xs σ H Q
theorem QK{es:List Expr}{k:Nat}{t:Qh}{n:Nat}(hc:X.calm=true)(h:Yi X es t)
  (hn:(assignEach es X.env).length=n:=by rfl) (hst:(assignEach es X.env).findIdx? (·.1)=none:=by rfl):PG X (.Tuple es k pos) (Va X.K n t):=by
 intro pins s σ H v u Q I r c;obtain⟨a,xs,g,l,f,c⟩:=c;subst g;cases r;obtain⟨its,d,j,p⟩:=I.tuple l;refine assign_Tuple_tuple (I.ok.hd hc) j (by simp[hn,<-f,d.length]) hst λh' m=>?_;have i:Inv X pins σ H {s with heap:=h'}:=I.kept (t':=s.toks) λb o e=>m b o (Dc (Bp e)) e;exact h pins _ σ H xs _ Q i (by simpa using d) c
def iD (to ti:TE)(t:Qg):TG:=λv σ H Q=>to σ H λo H1=>ti σ H1 λi H2=>t o i v H2 λH3=>Q σ H3
theorem YX{o i:Expr}{to ti:TE}{t:Qg}(ho:PE X o to)(hi:PE X i ti)(hs:WD X t)
  (ha:∀v,assign (.Subscript o i pos) X.env v=(do
   let a ← holding [v] (eval o X.env)
   let iv ← holding [v,a] (eval i X.env)
   standAt pos
   holding [v,a,iv] (setItem a iv v)
   release [v,a,iv] []):=by intro _;rfl):PG X (.Subscript o i pos) (iD to ti t):=by
 intro pins s σ H v u Q I r h;rw[ha];refine Az (K5 (Bl (ho pins s σ H _ I h) λa g ⟨x,H1,k,l,b⟩=>?_));refine Az (K5 (Bl (hi pins g σ H1 _ k b) λiv f ⟨y,H2,m,d,c⟩=>?_));refine Az (Qv (Az (K5 (Bl (hs pins f σ H2 x y v a iv u _ m l d r c) λ_ n ⟨j,I3,e⟩=>?_))));exact wpAny_release ⟨σ,j,I3,e⟩
def PJ (te:TE)(g:TG):TS:=λD σ H=>te σ H λx H1=>g x σ H1 D.nx
theorem QM{tg:Expr}{te:TE}{g:TG}(he:PE X e te)(hg:PG X tg g)(hs:swapsWithSole [tg] e pos.line X.env=pure false:=by rfl)(hw:swappedStores [tg] e X.env=pure none:=by rfl)
  (h1:(assignEach [tg] X.env).map (·.2)=[assign tg X.env]:=by rfl):PS X (.Assign [tg] e pos) (PJ te g):=by
 intro pins s σ H D I h;refine wpAny_Assign_stores (Bl (he pins s σ H _ I h) λv b ⟨x,H1,c,d,a⟩=>?_) hs hw;rw[h1];exact Bl (hg pins b σ H1 x v _ c d a) λ_ f q=>q
theorem BR{i:Nat}{x:Str}{e:Expr}{te:TE}{pos':Pos}(hN:X.N.Nodup)(hi:X.N[i]?=some x)(hx:Loc X.env.scope x)(he:PE X e te)(hs:swapsWith e (some (.Name x pos')) pos.line X.env=pure false:=by rfl)(hf:X.fn x=true\/X.env.scope.names.lookup x=some .local:=by first | exact .inl rfl | exact .inr rfl | assumption):
  PS X (.Assign [.Name x pos'] e pos) (PJ te (CQ i)):=by
 intro pins s σ H D I h;refine wpAny_Assign_Name (Bl (he pins s σ H _ I h) λv g ⟨y,H1,b,c,a⟩=>?_) hs;exact V0 b hN hi hx c (λf d=>⟨_,H1,d,a⟩) hf
def Yp (i j:Nat)(ta:TA):TS:=λD σ H=>ta σ H λvs H1=>∃v w,vs=[v,w]/\D.nx ((σ.set i (some v)).set j (some w)) H1
theorem X5d{i j:Nat}{x y:Str}{a b:Expr}{ta:TA}{px py pt:Pos}{kt k2 pt2}(hc:X.calm=true)(hN:X.N.Nodup)(hi:X.N[i]?=some x)(hj:X.N[j]?=some y)(hij:i≠j)
  (hx:X.env.scope.names.lookup x=some .local) (hy:X.env.scope.names.lookup y=some .local) (ha:PA X [a,b] ta)
  (hw:swappedStores [.Tuple [.Name x px,.Name y py] kt pt] (.Tuple [a,b] k2 pt2) X.env=pure (some [x,y]))
  (hs:swapsWithSole [.Tuple [.Name x px,.Name y py] kt pt] (.Tuple [a,b] k2 pt2) pos.line X.env=pure false:=by rfl):
  PS X (.Assign [.Tuple [.Name x px,.Name y py] kt pt] (.Tuple [a,b] k2 pt2) pos) (Yp i j ta):=by
 intro pins s σ H D I h;rw[exec_Assign_arm];refine Az (Qv ?_);rw[hs];refine Az (CP ?_);rw[if_neg (by decide)];refine Az (Tuple_ (Bl (ha _ pins s σ H _ I h) λus c ⟨vs,H1,n,r,f⟩=>?_));obtain⟨v,w,m,f⟩:=f;subst m;obtain⟨d,u2,rfl,u,k⟩:∃d u2,us=[d,u2]/\RelV v d/\RelV w u2:=by
  cases r with
  | cons p q =>
   cases q with
   | cons p' q' =>
    cases q';exact⟨_,_,U,p,p'⟩
 refine Ob ?_ (by show 2<=sizeLine;decide);have z:Inv X pins σ H1 {c with heap:=c.heap.push { cls:=.type "tuple",data:=.seq [d,u2].toArray}}:=n.kept (t':=c.toks) λb o e=>DR _ e;rw[hw];refine Az (CP ?_);show wpAny (model X.prog X.w) X.A (do rule "assign.swapped-stores";let items ← unpackItems (.ref c.heap.objs.size) 2 none;assignInOrder [λv=>bindName X.env y v,λv=>bindName X.env x v] items.reverse;pure Flow.next) _ _ _;refine Az (Mr (Az (unpackItems_tuple (items:=#[d,u2]) (I.ok.hd hc) (IsTup.new c.heap _) λh' g=>?_)));have I3:=z.kept (h':=h') (t':=c.toks) λb o e=>g b o (Dc (Bp e)) e;show wpAny _ _ (assignInOrder [λv=>bindName X.env y v,λv=>bindName X.env x v] [u2,d] >>= λ_=>pure Flow.next) _ _ _;refine Az (Zj (wpAny_bindName (V0 I3 hN hj (.inl hy) k (λB t=>?_) (.inr hy))));refine Zj (wpAny_bindName (V0 t hN hi (.inl hx) u (λC l=>assignInOrder_nil (CP ?_)) (.inr hx)));rw[List.set_comm _ _ (Ne.symm hij)]at l;exact⟨_,H1,l,f⟩
end
section
variable {X:Cx}{pos:Pos}
def Kc (c:TT)(tb:TS):TS:=λD σ H=>∃W:Nat->St->Hp->Prop,(∃m,W m σ H)/\∀m σ H,W m σ H ->
 c σ H λb H1=>if b=true then ∃N:St->Hp->Prop,(∀σ' H',N σ' H'->∃m',m'<m/\W m' σ' H')/\tb {D with nx:=N,ct:=N,bk:=D.nx} σ H1 else D.nx σ H1
theorem Vz{c:Expr}{body:Y8}{tc:TT}{tb:TS}(hp:PassesOwn (model X.prog X.w) X.A X.env X.xe)(hc:PT X c tc)(hb:Fd X body tb):PS X (.While c body [] pos) (Kc tc tb):=by
 intro pins s σ H D I h;obtain⟨W,⟨x,r⟩,a⟩:=h;refine wpAny_While (codeAny_whileLoop (λn s'=>∃σ' H',Inv X pins σ' H' s'/\W n σ' H') ?_ x ⟨σ,H,I,r⟩);rintro n u ⟨j,H1,z,y⟩;refine Ph hp (Bl (hc pins u j H1 _ z (a n j H1 y)) λb t ⟨H2,q,g⟩=>?_);cases b with
 | true =>
  obtain⟨N,p,g⟩:=g;rw[if_pos rfl];refine Ph hp (Bl (hb pins t j H2 _ q g) λf B i=>?_);cases f with
  | next =>
   obtain⟨e,d,I3,k⟩:=i;obtain⟨m,l,o⟩:=p e d k;exact⟨m,l,e,d,I3,o⟩
  | cont =>
   obtain⟨e,d,I3,k⟩:=i;obtain⟨m,l,o⟩:=p e d k;exact⟨m,l,e,d,I3,o⟩
  | brk=>exact i
  | ret v=>exact i
 | false =>
  rw[if_neg Dw];exact Qz ⟨j,H2,q,g⟩
end
structure It where
 go:Nat->Hp->Prop
 yld:Nat->Hp->V->Hp->Prop
 stop:Nat->Hp->Prop
def DG (X:Cx)(pins:U1)(H:Hp)(b:Y9):Prop :=
 H b=none/\b≠X.env.locals/\b∉X.fs/\(b∈X.ex\/X.s₀.heap.objs.size<=b)/\(∀x c,X.env.cells.lookup x=some c->c≠b)/\∀p∈X.pn++pins,p.1≠b
variable{pins:U1}{σ:St}
theorem Inv.fpOk{H':Hp}(I:Inv X pins σ H s)(hb:s.heap.objs.size<=b)(hn:H' b=none):DG X pins H' b:=by
 refine⟨hn,N6 (FQ I.lt hb),I.nofs hb,.inr (CZ I.sz hb),λx c e z=>?_,λp hp z=>?_⟩
 ·obtain⟨v,q⟩:=I.cell x c e;exact absurd (FQ q.lt (by rw[z];exact hb)) (Lz _)
 ·exact absurd (FQ (Bp (I.pin p hp).1) (by rw[z];exact hb)) (Lz _)
structure Turn (P:U8) (w:W5) (K:U0) (tg:Expr) (J:It) (fp:U3) (it:Y9) (tn:Nat->Heap->Prop):Prop where
 mem:it∈fp
 obj:∀i h,tn i h->∀b∈fp,∃o,h.get? b=some o/\∀v,o.data≠.cell v
 keep:∀i h h',tn i h->(∀b∈fp,∀o,h.get? b=some o->h'.get? b=some o)->tn i h'
 item:∀(X:Cx),X.prog=P->X.w=w->X.K=K->X.calm=true->∀(i:Nat) (pins:U1) (s:U7) (σ:St) (H:Hp) (E:U2),Inv X pins σ H s->(∀b∈fp,DG X pins H b)->tn i s.heap->J.go i H ->
  wpAny (model P w) X.A (pyNext (.ref it)) (λr s1=>∃u,r=some u /\
   wpAny (model P w) X.A (letOwnedTupleGo tg (.ref it) u) (λ_ s2=>∃x H',Inv X pins σ H' s2/\RelV x u/\J.yld i H x H'/\tn (i+1) s2.heap/\∀b∈fp,H' b=none) E s1) E s
 done:∀(X:Cx),X.prog=P->X.w=w->X.K=K->X.calm=true->∀(i:Nat) (pins:U1) (s:U7) (σ:St) (H:Hp) (E:U2),Inv X pins σ H s->(∀b∈fp,DG X pins H b)->tn i s.heap->J.stop i H ->
  wpAny (model P w) X.A (pyNext (.ref it)) (λr s1=>r=none/\Inv X pins σ H s1) E s
 self:∀(A:Y6) (i:Nat) (s:U7) (Q:U2) (E:U2),tn i s.heap->Q (.ref it) s->wpAny (model P w) A (pyIter (.ref it)) Q E s
abbrev TI:=St->Hp->(It->Hp->Prop)->Prop
def PIE (X:Cx)(pins:U1)(σ:St)(tg:Expr)(R:It->Hp->Prop)(itv:W8)(s2:U7):Prop :=
 ∃(it:Y9) (fp:U3) (tn:Nat->Heap->Prop) (J:It) (H':Hp),itv=.ref it/\Inv X pins σ H' s2/\Turn X.prog X.w X.K tg J fp it tn/\tn 0 s2.heap/\(∀b∈fp,DG X pins H' b)/\R J H'
def PI (X:Cx)(tg iter:Expr)(wi:TI):Prop :=
 ∀(pins:U1) (s:U7) (σ:St) (H:Hp) (R:It->Hp->Prop),Inv X pins σ H s->wi σ H R ->
  wpAny (model X.prog X.w) X.A (eval iter X.env) (λv s1=>wpAny (model X.prog X.w) X.A (pyIter v) (PIE X pins σ tg R) X.xe s1) X.xe s
variable{tg:Expr}
theorem X6{M:Model}{it:Y9}{n:String}{vs:U9}{Q:Unit->Shared->Prop}(ho:s.heap.get? it=some o)(hc:o.cls=.type n)(hd:o.data=.fields vs)
  (hn:["enumerate","zip","dict_itemiterator","dict_reverseitemiterator","odict_iterator","itertools.zip_longest","itertools.pairwise"].contains n=false) (hQ:Q () s):wpAny M A (letOwnedTupleGo tg (.ref it) u) Q E s:=by
 unfold letOwnedTupleGo;cases tg<;>first
  | exact CP hQ
  | (cases u<;>first
    | exact CP hQ
    | (refine Az (wpAny_load ho ?_);rw[hc,hd];show wpAny M A (if (["enumerate","zip","dict_itemiterator","dict_reverseitemiterator","odict_iterator","itertools.zip_longest","itertools.pairwise"].contains n && vs[0]? == some (rawInt _))=true then _ else _) Q E s;rw[if_neg (by intro h;rw[hn,Mt]at h;cases h)];exact CP hQ))
def KZ (K:U0)(a:Y9):It :=
 ⟨λi H=>∃xs x,Ai K H a xs/\xs[i]?=some x,λi H x H'=>H'=H/\∀xs,Ai K H a xs->xs[i]?=some x,λi H=>∃xs,Ai K H a xs/\xs.length<=i⟩
def Qm (K:U0)(a:Y9):It :=
 ⟨λi H=>∃xs x,Ah K H a xs/\xs[i]?=some x,λi H x H'=>H'=H/\∀xs,Ah K H a xs->xs[i]?=some x,λi H=>∃xs,Ah K H a xs/\xs.length<=i⟩
def Fz (lo:Int)(n:Nat):It:=⟨λi _=>i<n,λi H x H'=>H'=H/\x=.int (lo+i),λi _=>n<=i⟩
variable{K:U0}
theorem Y2x(a it:Y9):Turn P w K tg (KZ K a) [it] it (λi h=>h.IsListIter it a i) where
 mem:=by simp
 obj:=λi h st b f=>by
  have e:b=it:=by simpa using f
  subst e;obtain⟨o,e,c,d⟩:=st;exact⟨o,e,λv z=>by rw[d]at z;cases z⟩
 keep:=λi h h' st k=>st.at λo e=>k it (by simp) o e
 item:=by
  intro X q r l C i pins s σ H E I hf st A;subst q r l;obtain⟨xs,x,j,B⟩:=A;obtain⟨its,y,p,N⟩:=I.list j;obtain⟨u,F,G⟩:=y.get B;obtain⟨f0,f1,J,m,n,t⟩:=hf it (by simp);refine wpAny_pyNext_list_item st p.isList (x:=u) (by simpa using F) λh' g D=>?_;have L:Inv X pins σ H {s with heap:=h'}:=I.turned (t':=s.toks) (λb o f e=>(D.2 b f).trans e) f0 f1 m n t;obtain⟨o,e,c,d⟩:=id g;exact⟨u,U,X6 (s:={s with heap:=h'}) e c d (by decide) ⟨x,H,L,G,⟨U,λys O=>by rw[I.list_inj O j];exact B⟩,g,λb f=>(hf b f).1⟩⟩
 done:=by
  intro X q r l C i pins s σ H E I hf st A;subst q r l;obtain⟨xs,j,B⟩:=A;obtain⟨its,y,p,N⟩:=I.list j;obtain⟨f0,f1,J,m,n,t⟩:=hf it (by simp);have Q:=y.length;exact wpAny_pyNext_list_end (I.ok.hd C) st p.isList (by simp;lia) λh' M=>⟨U,I.turned (t':=s.toks) (λb o f e=>M b o f e) f0 f1 m n t⟩
 self:=λ_ _ _ _ _ st h=>wpAny_pyIter_listiter st h
theorem Y1y(a it:Y9):Turn P w K tg (Qm K a) [it] it (λi h=>h.IsTupleIter it a i) where
 mem:=by simp
 obj:=λi h st b f=>by
  have e:b=it:=by simpa using f
  subst e;obtain⟨o,e,c,d⟩:=st;exact⟨o,e,λv z=>by rw[d]at z;cases z⟩
 keep:=λi h h' st k=>st.at λo e=>k it (by simp) o e
 item:=by
  intro X q r l C i pins s σ H E I hf st A;subst q r l;obtain⟨xs,x,j,B⟩:=A;obtain⟨its,y,p,N⟩:=I.tuple j;obtain⟨u,F,G⟩:=y.get B;obtain⟨f0,f1,J,m,n,t⟩:=hf it (by simp);refine wpAny_pyNext_tuple_item st (show s.heap.IsTuple a its.toArray from p) (x:=u) (by simpa using F) λh' g D=>?_;have L:Inv X pins σ H {s with heap:=h'}:=I.turned (t':=s.toks) (λb o f e=>(D.2 b f).trans e) f0 f1 m n t;obtain⟨o,e,c,d⟩:=id g;exact⟨u,U,X6 (s:={s with heap:=h'}) e c d (by decide) ⟨x,H,L,G,⟨U,λys O=>by rw[I.tuple_inj O j];exact B⟩,g,λb f=>(hf b f).1⟩⟩
 done:=by
  intro X q r l C i pins s σ H E I hf st A;subst q r l;obtain⟨xs,j,B⟩:=A;obtain⟨its,y,p,N⟩:=I.tuple j;obtain⟨f0,f1,J,m,n,t⟩:=hf it (by simp);have Q:=y.length;exact wpAny_pyNext_tuple_end (I.ok.hd C) st (show s.heap.IsTuple a its.toArray from p) (by simp;lia) λh' M=>⟨U,I.turned (t':=s.toks) (λb o f e=>M b o f e) f0 f1 m n t⟩
 self:=λ_ _ _ _ _ st h=>wpAny_pyIter_tupleiter st h
theorem Y2a(it:Y9)(lo:Int)(n:Nat):Turn P w K tg (Fz lo n) [it] it (λi h=>IsRangeIter h it (lo+(i:Nat)*1) ((n:Int)-(i:Nat)) 1) where
 mem:=by simp
 obj:=λi h st b a=>by
  have e:b=it:=by simpa using a
  subst e
  exact⟨_,st,λv z=>by
   have r:Data.fields _=Data.cell v:=z
   cases r⟩
 keep:=λi h h' st k=>k it (by simp) _ st
 item:=by
  intro X l m d f i pins s σ H E I hf st q;subst l m d;obtain⟨f0,f1,u,g,j,p⟩:=hf it (by simp);have W:=Walks.range (prog:=X.prog) (w:=X.w) (I.ok.hd f) it lo 1 n;refine W.item i s _ _ q st λv h' tk A c kk=>?_;obtain⟨t,rfl⟩:=A;have x:Inv X pins σ H {s with heap:=h',toks:=tk}:=I.turned (λb o a e=>kk b o (by simpa using a) e) f0 f1 g j p;refine⟨_,U,X6 (s:={s with heap:=h',toks:=tk}) (n:="range_iterator") c rfl rfl (by decide) ⟨.int (lo+i),H,x,⟨t,?_⟩,⟨U,U⟩,c,λb a=>(hf b a).1⟩⟩;rw[Qp]
 done:=by
  intro X l m d f i pins s σ H E I hf st q;subst l m d;obtain⟨f0,f1,u,g,j,p⟩:=hf it (by simp);exact mO (I.ok.hd f) st (by have:n<=i:=q;lia) λh' y=>⟨U,I.turned (t':=s.toks) (λb o a e=>y b o a e) f0 f1 g j p⟩
 self:=λ_ _ _ _ _ st h=>mL st h
section
variable {X:Cx}{tg:Expr}
def VJ (K:U0)(tl:TE):TI:=λσ H R=>tl σ H λx H1=>∃a,x=.ref a/\(∃xs,Ai K H1 a xs)/\R (KZ K a) H1
def iC (K:U0)(tl:TE):TI:=λσ H R=>tl σ H λx H1=>∃a,x=.ref a/\(∃xs,Ah K H1 a xs)/\R (Qm K a) H1
theorem Es{l:Expr}{tl:TE}(hl:PE X l tl):PI X tg l (VJ X.K tl):=by
 intro pins s σ H R I h;refine Bl (hl pins s σ H _ I h) λv c ⟨x,H1,d,g,f⟩=>?_;obtain⟨a,e,⟨xs,i⟩,q⟩:=f;subst e;cases g;obtain⟨its,k,p,m⟩:=d.list i;refine Wk p.isList ?_;refine⟨c.heap.objs.size,[c.heap.objs.size],_,_,H1,U,d.kept (t':=c.toks) λb o e=>DR _ e,Y2x a _,⟨_,FT _ rfl,U,U⟩,λb j=>?_,q⟩;have e:b=c.heap.objs.size:=by simpa using j
 subst e;exact d.fpOk (BX _) (d.hok.fresh (BX _))
theorem RT{l:Expr}{tl:TE}(hl:PE X l tl):PI X tg l (iC X.K tl):=by
 intro pins s σ H R I h;refine Bl (hl pins s σ H _ I h) λv c ⟨x,H1,d,g,f⟩=>?_;obtain⟨a,e,⟨xs,i⟩,q⟩:=f;subst e;cases g;obtain⟨its,k,p,m⟩:=d.tuple i;refine wpAny_pyIter_tuple (show c.heap.IsTuple a its.toArray from p) ?_;refine⟨c.heap.objs.size,[c.heap.objs.size],_,_,H1,U,d.kept (t':=c.toks) λb o e=>DR _ e,Y1y a _,⟨_,FT _ rfl,U,U⟩,λb j=>?_,q⟩;have e:b=c.heap.objs.size:=by simpa using j
 subst e;exact d.fpOk (BX _) (d.hok.fresh (BX _))
theorem zW{R:It->Hp->Prop}{lo hi:Int}{t u v:Tok}{tk:Nat}(I:Inv X pins σ H s)(h1:-(2^62)<=lo)(h2:lo<2^62)(h3:-(2^62)<=hi)(h4:hi<2^62)
  (q:R (Fz lo (hi-lo).toNat) H):wpAny (model X.prog X.w) X.A (pyIter (.ref s.heap.objs.size)) (PIE X pins σ tg R) E {s with heap:=s.heap.push { cls:=.type "range",data:=.fields #[.int lo t,.int hi u,.int 1 v]},toks:=tk}:=by
 refine wpAny_pyIter_range (IsRange.new ..) (small_one h1 h2 h3 h4) ?_;have a:Inv X pins σ H {s with heap:=s.heap.push { cls:=.type "range",data:=.fields #[.int lo t,.int hi u,.int 1 v]},toks:=tk}:=I.kept λb o e=>DR _ e
 refine⟨(s.heap.push { cls:=.type "range",data:=.fields #[.int lo t,.int hi u,.int 1 v]}).objs.size,[(s.heap.push { cls:=.type "range",data:=.fields #[.int lo t,.int hi u,.int 1 v]}).objs.size],_,_,H,U,
  a.kept (t':=tk) λb o e=>DR _ e,Y2a _ lo (hi-lo).toNat,?_,λb d=>?_,q⟩
 ·have f:lo+((0:Nat):Int)*1=lo:=by simp
  have c:(((hi-lo).toNat:Nat):Int)-((0:Nat):Int)=Builtin.Range.rangeSize lo hi 1:=by rw[rangeSize_one];split<;>lia
  show IsRangeIter _ _ (lo+((0:Nat):Int)*1) ((((hi-lo).toNat:Nat):Int)-((0:Nat):Int)) 1;rw[f,c];exact FT _ rfl
 ·have e:b=(s.heap.push { cls:=.type "range",data:=.fields #[.int lo t,.int hi u,.int 1 v]}).objs.size:=by simpa using d
  subst e;exact a.fpOk (BX _) (a.hok.fresh (BX _))
def VH (ta:TA):TI:=λσ H R=>ta σ H λvs H1=>∃j:Int,vs=[.int j]/\-(2^62)<=j/\j<2^62/\R (Fz 0 j.toNat) H1
theorem Ln{a:Expr}{ta:TA}{p pos:Pos}(hg:Gl X "range")(hm:X.mg "range"=none)(ha:PA X [a] ta)(hs:starEach [a] X.env=[(false,eval a X.env)]:=by rfl):PI X tg (.Call (.Name "range" p) [a] [] pos) (VH ta):=by
 intro pins s σ H R I h;refine Call_ (Oz I hg hm boot_range (PyProof.Rows.callWith_type1 (Bl (ha pos pins s σ H _ I h) λus g ⟨vs,H1,d,f,b⟩=>?_) hs rfl));obtain⟨j,e,b,c,q⟩:=b;subst e;cases f with
 | cons r rr =>
  cases rr;obtain⟨t,rfl⟩:=r;exact call_range_1 (zW d (by lia) (by lia) b c (by simpa using q))
def Yu (wi:TI)(g:TG)(tb:TS):TS:=λD σ H=>wi σ H λJ H1=>∃W:Nat->Nat->St->Hp->Prop,(∃m,W 0 m σ H1)/\∀i m σ H,W i m σ H ->
 (J.stop i H/\D.nx σ H)\/(J.go i H/\∃N:St->Hp->Prop,(∀σ' H',N σ' H'->∃m',m'<m/\W (i+1) m' σ' H')/\∀x H',J.yld i H x H'->g x σ H' λσ2 H2=>tb {D with nx:=N,ct:=N,bk:=D.nx} σ2 H2)
noncomputable def Fi (fp:U3)(h:Heap):List (Addr×Obj):=fp.filterMap λb=>(h.get? b).map λo=>(b,o)
variable{fp:U3}
theorem Rn(hb:b∈fp)(e:h.get? b=some o):(b,o)∈Fi fp h:=List.mem_filterMap.mpr ⟨b,hb,by rw[e];rfl⟩
theorem _8{p:Addr×Obj}(hp:p∈Fi fp h):p.1∈fp/\h.get? p.1=some p.2:=by
 obtain⟨b,a,e⟩:=List.mem_filterMap.mp hp;cases q:h.get? b with
 | none=>rw[q]at e;cases e
 | some o =>
  rw[q]at e;have c:(b,o)=p:=Option.some.inj e;subst c;exact⟨a,q⟩
theorem Inv.pinned(I:Inv X pins σ H s)(hf:∀b∈fp,DG X pins H b)(ho:∀b∈fp,∃o,s.heap.get? b=some o/\∀v,o.data≠.cell v):Inv X (pins++Fi fp s.heap) σ H s :=
 I.pins_of λp hp=>(Ho.mp hp).elim (λz=>I.pin p (GR _ z)) λz=>by
  obtain⟨a,e⟩:=_8 z;obtain⟨f0,f1,f,_⟩:=hf p.1 a;obtain⟨o,c,d⟩:=ho p.1 a;rw[e]at c;cases c;exact⟨e,f0,f1,f,d⟩
theorem Inv.unpinned{pl:U1}(I:Inv X (pins++pl) σ H s):Inv X pins σ H s:=I.pins_of λp hp=>I.pin p (GR _ (Q_ _ hp))
theorem Gf{iter:Expr}{body:Y8}{wi:TI}{g:TG}{tb:TS}{pos:Pos}(hp:PassesOwn (model X.prog X.w) X.A X.env X.xe)(hc:X.calm=true)(hi:PI X tg iter wi)(hg:PG X tg g)(j:Fd X body tb)
  (hs:∀x,foldedSetIterable iter X.env x=pure x:=by intro _;rfl):PS X (.For tg iter body [] pos) (Yu wi g tb):=by
 intro pins s σ H D I h;refine wpAny_For (Bl (hi pins s σ H _ I h) λv s1 h1=>Bl h1 λa0 s2 h2=>?_) hs;obtain⟨it,fp,Q,J,H2,e,I2,T,K,S,W,⟨m0,w0⟩,C⟩:=h2;subst e;have c:∀{H':Hp},(∀b∈fp,H' b=none)->∀b∈fp,DG X pins H' b:=λhn b j=>⟨hn b j,(S b j).2⟩;refine codeAny_forLoop_any (λn s'=>∃i σ' H',Inv X pins σ' H' s'/\Q i s'.heap/\(∀b∈fp,H' b=none)/\W i n σ' H') ?_ m0 ⟨0,σ,H2,I2,K,λb j=>(S b j).1,w0⟩;rintro n U ⟨i,B,F,I3,E,z,w3⟩;rcases C i n B F w3 with ⟨stop,qn⟩ | ⟨go,N,hN,step⟩
 ·refine Ph hp (Bl (T.done X rfl rfl rfl hc i pins U B F X.xe I3 (c z) E stop) λr Y ⟨O,I4⟩=>?_);subst O;exact Qz ⟨B,F,I4,qn⟩
 ·refine Ph hp (Bl (T.item X rfl rfl rfl hc i pins U B F X.xe I3 (c z) E go) λr Y ⟨u,O,h4⟩=>?_);subst O;refine Ph hp (Bl h4 λ_ R ⟨x,P,I5,r5,y5,t,M⟩=>?_);have L:=I5.pinned (c M) (T.obj _ _ t);refine Ph hp (Bl (hg _ R B P x u _ L r5 (step x P y5)) λ_ s6 ⟨σ6,V,I6,q6⟩=>?_);refine Ph hp (Bl (j _ s6 σ6 V _ I6 q6) λf G q=>?_);have k:∀{a:St}{l:Hp},Inv X (pins++Fi fp R.heap) a l G->N a l->∃m,m<n/\∃i σ' H',Inv X pins σ' H' G/\Q i G.heap/\(∀b∈fp,H' b=none)/\W i m σ' H':=λ{a l} p y=>by
   obtain⟨m',Z,w7⟩:=hN a l y;refine⟨m',Z,i+1,a,l,p.unpinned,T.keep _ _ _ t λb j o e=>(p.pin (b,o) (GR _ (GR _ (Rn j e)))).1,λb j=>?_,w7⟩;obtain⟨o,e,d⟩:=T.obj _ _ t b j;exact(p.pin (b,o) (GR _ (GR _ (Rn j e)))).2.1
  cases f with
  | next=>obtain⟨a,l,p,y⟩:=q;exact k p y
  | cont=>obtain⟨a,l,p,y⟩:=q;exact k p y
  | brk=>obtain⟨a,l,p,q⟩:=q;exact⟨a,l,p.unpinned,q⟩
  | ret v=>obtain⟨x7,a,l,p,r7,q⟩:=q;exact⟨x7,a,l,p.unpinned,r7,q⟩
end
variable{g:TG}{tb:TS}{D:Ends}
theorem KN(Pv:Nat->St->Hp->Prop)(h0:Pv 0 σ H)(hl:∀i σ H,i<=xs.length->Pv i σ H->Ai K H a xs)
  (hs:∀i x σ H,xs[i]?=some x->Pv i σ H->g x σ H λc H2=>tb {D with nx:=Pv (i+1),ct:=Pv (i+1),bk:=D.nx} c H2) (hd:∀σ H,Pv xs.length σ H->D.nx σ H):
  ∃W:Nat->Nat->St->Hp->Prop,(∃m,W 0 m σ H)/\∀i m σ H,W i m σ H ->
   ((KZ K a).stop i H/\D.nx σ H)\/((KZ K a).go i H/\∃N:St->Hp->Prop,(∀b H',N b H'->∃m',m'<m/\W (i+1) m' b H')/\∀x H',(KZ K a).yld i H x H'->g x σ H' λc H2=>tb {D with nx:=N,ct:=N,bk:=D.nx} c H2):=by
 refine⟨λi m σ H=>m=xs.length-i/\i<=xs.length/\Pv i σ H,⟨xs.length,by simp,Fg _,h0⟩,?_⟩;rintro i m σ H ⟨rfl,hi,p⟩;have q:=hl i σ H hi p;by_cases hlt:i<xs.length
 ·refine .inr ⟨⟨xs,xs[i],q,by simp[hlt]⟩,Pv (i+1),λb H' p'=>⟨xs.length-(i+1),by lia,U,hlt,p'⟩,λx H' y=>?_⟩;obtain⟨e,y⟩:=y;subst e;exact hs i x σ _ (y xs q) p
 ·have e:i=xs.length:=by lia
  subst e;exact .inl ⟨⟨xs,q,BX _⟩,hd σ H p⟩
theorem qX(Pv:Nat->St->Hp->Prop)(h0:Pv 0 σ H)(hl:∀i σ H,i<=xs.length->Pv i σ H->Ah K H a xs)
  (hs:∀i x σ H,xs[i]?=some x->Pv i σ H->g x σ H λc H2=>tb {D with nx:=Pv (i+1),ct:=Pv (i+1),bk:=D.nx} c H2) (hd:∀σ H,Pv xs.length σ H->D.nx σ H):
  ∃W:Nat->Nat->St->Hp->Prop,(∃m,W 0 m σ H)/\∀i m σ H,W i m σ H ->
   ((Qm K a).stop i H/\D.nx σ H)\/((Qm K a).go i H/\∃N:St->Hp->Prop,(∀b H',N b H'->∃m',m'<m/\W (i+1) m' b H')/\∀x H',(Qm K a).yld i H x H'->g x σ H' λc H2=>tb {D with nx:=N,ct:=N,bk:=D.nx} c H2):=by
 refine⟨λi m σ H=>m=xs.length-i/\i<=xs.length/\Pv i σ H,⟨xs.length,by simp,Fg _,h0⟩,?_⟩;rintro i m σ H ⟨rfl,hi,p⟩;have q:=hl i σ H hi p;by_cases hlt:i<xs.length
 ·refine .inr ⟨⟨xs,xs[i],q,by simp[hlt]⟩,Pv (i+1),λb H' p'=>⟨xs.length-(i+1),by lia,U,hlt,p'⟩,λx H' y=>?_⟩;obtain⟨e,y⟩:=y;subst e;exact hs i x σ _ (y xs q) p
 ·have e:i=xs.length:=by lia
  subst e;exact .inl ⟨⟨xs,q,BX _⟩,hd σ H p⟩
theorem V3{lo:Int}{n:Nat}(Pv:Nat->St->Hp->Prop)(h0:Pv 0 σ H)
  (hs:∀i σ H,i<n->Pv i σ H->g (.int (lo+i)) σ H λb H2=>tb {D with nx:=Pv (i+1),ct:=Pv (i+1),bk:=D.nx} b H2) (hd:∀σ H,Pv n σ H->D.nx σ H):
  ∃W:Nat->Nat->St->Hp->Prop,(∃m,W 0 m σ H)/\∀i m σ H,W i m σ H ->
   ((Fz lo n).stop i H/\D.nx σ H)\/((Fz lo n).go i H/\∃N:St->Hp->Prop,(∀a H',N a H'->∃m',m'<m/\W (i+1) m' a H')/\∀x H',(Fz lo n).yld i H x H'->g x σ H' λb H2=>tb {D with nx:=N,ct:=N,bk:=D.nx} b H2):=by
 refine⟨λi m σ H=>m=n-i/\i<=n/\Pv i σ H,⟨n,by simp,Fg _,h0⟩,?_⟩;rintro i m σ H ⟨rfl,hi,p⟩;by_cases hlt:i<n
 ·refine .inr ⟨hlt,Pv (i+1),λa H' p'=>⟨n-(i+1),by lia,U,hlt,p'⟩,λx H' y=>?_⟩;obtain⟨e,y⟩:=y;subst e y;exact hs i σ _ hlt p
 ·have e:i=n:=by lia
  subst e;exact .inl ⟨BX _,hd σ H p⟩
theorem zq{c:TT}(Pv:St->Hp->Prop)(μ:St->Hp->Nat)(h0:Pv σ H)
  (hs:∀σ H,Pv σ H->c σ H λb H1=>if b=true then tb {D with nx:=λa H'=>Pv a H'/\μ a H'<μ σ H,ct:=λa H'=>Pv a H'/\μ a H'<μ σ H,bk:=D.nx} σ H1 else D.nx σ H1)
  (mono:∀σ H Q Q',(∀b H1,Q b H1->Q' b H1)->c σ H Q->c σ H Q'):Kc c tb D σ H:=by
 refine⟨λm σ H=>m=μ σ H/\Pv σ H,⟨_,U,h0⟩,?_⟩;rintro m σ H ⟨rfl,p⟩;refine mono σ H _ _ (λb H1 q=>?_) (hs σ H p);cases b with
 | true=>exact⟨_,λa H' ⟨p',l⟩=>⟨_,l,rfl,p'⟩,q⟩
 | false=>exact q
abbrev R2:=V->V->Hp->VK->Prop
def DP (X:Cx)(f:Value->Value->Sem Value)(r:R2):Prop :=
 ∀(pins:U1) (s:U7) (σ:St) (H:Hp) (x y:V) (v u:W8) (Q:VK),Inv X pins σ H s->RelV x v->RelV y u->r x y H Q ->
  wpAny (model X.prog X.w) X.A (f v u) (EP X pins σ Q) X.xe s
def kY (X:Cx)(f:Value->Sem Value)(r:V->Hp->VK->Prop):Prop :=
 ∀(pins:U1) (s:U7) (σ:St) (H:Hp) (x:V) (v:W8) (Q:VK),Inv X pins σ H s->RelV x v->r x H Q ->
  wpAny (model X.prog X.w) X.A (f v) (EP X pins σ Q) X.xe s
def CW (X:Cx)(f:W8)(r:List V->Hp->VK->Prop):Prop :=
 ∀(pins:U1) (s:U7) (σ:St) (H:Hp) (xs:List V) (us:U5) (Q:VK),Inv X pins σ H s->Vals xs us->r xs H Q ->
  wpAny (model X.prog X.w) X.A (call f us) (EP X pins σ Q) X.xe s
def Ej (r:R2)(ta tb:TE):TE:=λσ H Q=>ta σ H λx H1=>tb σ H1 λy H2=>r x y H2 Q
def vf (r:V->Hp->VK->Prop)(ta:TE):TE:=λσ H Q=>ta σ H λx H1=>r x H1 Q
def rI (C:Int->Int->Prop)(g:Int->Int->V):R2:=λx y H Q=>∃i j,x=.int i/\y=.int j/\C i j/\Q (g i j) H
def Gj (g:Int->Int->V):R2:=λx y H Q=>∃i j,x=.int i/\y=.int j/\Q (g i j) H
def rU (g:Int->V):V->Hp->VK->Prop:=λx H Q=>∃i,x=.int i/\Q (g i) H
section
variable {X:Cx}{a b c:Expr}{ta tb tc:TE}{pos:Pos}
variable{f:Value->Value->Sem Value}
theorem QF(ha:PE X a ta)(hb:PE X b tb){R:V->V->Hp->Prop}(I:Inv X pins σ H s)
  (h:ta σ H λx H1=>tb σ H1 λy H2=>R x y H2) {Q:U2}
  (hf:∀v u c x y H2,Inv X pins σ H2 c->RelV x v->RelV y u->R x y H2->wpAny (model X.prog X.w) X.A (f v u) Q X.xe c):
  wpAny (model X.prog X.w) X.A (eval a X.env) (λv m=>wpAny (model X.prog X.w) X.A (eval b X.env) (λu d=>wpAny (model X.prog X.w) X.A (f v u) Q X.xe d) X.xe m) X.xe s:=by
 refine Bl (ha pins s σ H _ I h) λv g ⟨x,H1,j,k,e⟩=>?_;refine Bl (hb pins g σ H1 _ j e) λu c ⟨y,H2,l,n,i⟩=>?_;exact hf v u c x y H2 l k n i
theorem Af{op:Operator}{r:R2}(ho:DP X (binaryOp op) r)(ha:PE X a ta)(hb:PE X b tb):PE X (.BinOp a op b pos) (Ej r ta tb):=by
 intro pins s σ H Q I h;exact wpAny_BinOp (QF ha hb I h λv u d x y H2 f c e q=>ho pins d σ H2 x y v u Q f c e q)
theorem Js{op:UnaryOp}{r:V->Hp->VK->Prop}(ho:kY X (unaryOp op) r)(ha:PE X a ta):PE X (.UnaryOp op a pos) (vf r ta):=by
 intro pins s σ H Q I h;exact UnaryOp_ (Bl (ha pins s σ H _ I h) λv c ⟨x,H1,d,e,b⟩=>ho pins c σ H1 x v Q d e b)
variable{g:Int->Int->Int}
theorem Om{C:Int->Int->Prop}
  (rule:∀(i j:Int) (t u:Tok) (s:U7) (Q:U2) (E:U2),C i j->Q (.int (g i j) s.toks) {s with toks:=s.toks+1}->wpAny (model X.prog X.w) X.A (f (.int i t) (.int j u)) Q E s):
  DP X f (rI C λi j=>.int (g i j)):=by
 intro pins s σ H x y v u Q I c b h;obtain⟨i,j,rfl,rfl,a,q⟩:=h;obtain⟨t,rfl⟩:=c;obtain⟨t',rfl⟩:=b;exact rule i j t t' s _ _ a ⟨.int (g i j),H,I.tok _,⟨_,U⟩,q⟩
theorem LR
  (rule:∀(i j:Int) (t u:Tok) (s:U7) (Q:U2) (E:U2),Q (.int (g i j) s.toks) {s with toks:=s.toks+1}->wpAny (model X.prog X.w) X.A (f (.int i t) (.int j u)) Q E s):
  DP X f (Gj λi j=>.int (g i j)):=by
 intro pins s σ H x y v u Q I b a h;obtain⟨i,j,rfl,rfl,q⟩:=h;obtain⟨t,rfl⟩:=b;obtain⟨t',rfl⟩:=a;exact rule i j t t' s _ _ ⟨.int (g i j),H,I.tok _,⟨_,U⟩,q⟩
theorem Mw{g:Int->Int->Bool}
  (rule:∀(i j:Int) (t u:Tok) (s:U7) (Q:U2) (E:U2),Q (.bool (g i j)) s->wpAny (model X.prog X.w) X.A (f (.int i t) (.int j u)) Q E s):
  DP X f (Gj λi j=>.bl (g i j)):=by
 intro pins s σ H x y v u Q I b a h;obtain⟨i,j,rfl,rfl,q⟩:=h;obtain⟨t,rfl⟩:=b;obtain⟨t',rfl⟩:=a;exact rule i j t t' s _ _ ⟨.bl (g i j),H,I,U,q⟩
def lU (i j:Int):Prop:=0<j/\j<1073741824
def WL (i j:Int):Prop:=0<=j/\j<=1000000/\i.natAbs<2^64
def JR (i j:Int):Prop:=(-(2^64)<i/\i<2^64)\/(-(2^64)<j/\j<2^64)
theorem JR.ok{i j:Int}(h:JR i j):IntMulOk i j:=by
 rcases h with ⟨h1,h2⟩ | ⟨h1,h2⟩
 ·exact .of_left (intBits_le_64 h1 h2)
 ·exact .of_right (intBits_le_64 h1 h2)
theorem Y1x(k:Nat):(0:Int)<=2^k:=by
 rw[two_pow_cast];exact Wm _
theorem C_:DP X (binaryOp .Add) (Gj λi j=>.int (i+j)):=LR λ_ _ _ _ _ _ _ q=>add_int q
theorem Fy:DP X (binaryOp .Sub) (Gj λi j=>.int (i-j)):=LR λ_ _ _ _ _ _ _ q=>sub_int q
theorem Gs:DP X (binaryOp .Mult) (rI JR λi j=>.int (i*j)):=Om λ_ _ _ _ _ _ _ a q=>mul_int q a.ok
theorem Hx:DP X (binaryOp .FloorDiv) (rI lU λi j=>.int (i / j)):=Om λi j _ _ _ _ _ a q=>by
 have h1:(0:Int)<j:=a.1;have h2:j<1073741824:=a.2;exact floordiv_int (by lia) (by rw[mz i (by lia)];exact q) (.inl (PyProof.noPylong_small (by lia)))
theorem Dv:DP X (binaryOp .Mod) (rI (λ_ j=>0<j) λi j=>.int (i%j)):=Om λi j _ _ _ _ _ a q=>by
 have h1:(0:Int)<j:=a;exact mod_int' (by lia) (by rw[Int.fmod_eq_emod_of_nonneg i (by lia)];exact q)
theorem YT:DP X (binaryOp .Pow) (rI WL λi j=>.int (i^j.toNat)):=Om λ_ _ _ _ _ _ _ a q=>pow_int_small a.1 a.2.1 a.2.2 q
theorem Vr:DP X (binaryOp .RShift) (rI (λ_ j=>0<=j) λi j=>.int (i / 2^j.toNat)):=Om λi j _ _ _ _ _ a q =>
 rshift_int a (by rw[mz i (Y1x _)];exact q)
theorem RP:DP X (binaryOp .BitAnd) (Gj λi j=>.int (Builtin.bitAnd i j)):=LR λ_ _ _ _ _ _ _ q=>and_int q
theorem kI:DP X (binaryOp .BitOr) (Gj λi j=>.int (Builtin.bitOr i j)):=LR λ_ _ _ _ _ _ _ q=>or_int q
theorem X5m:DP X (binaryOp .BitXor) (Gj λi j=>.int (Builtin.bitXor i j)):=LR λ_ _ _ _ _ _ _ q=>xor_int q
theorem vZ{f:Value->Sem Value}{g:Int->Int}
  (rule:∀(i:Int) (t:Tok) (s:U7) (Q:U2) (E:U2),Q (.int (g i) s.toks) {s with toks:=s.toks+1}->wpAny (model X.prog X.w) X.A (f (.int i t)) Q E s):
  kY X f (rU λi=>.int (g i)):=by
 intro pins s σ H x v Q I a h;obtain⟨i,rfl,q⟩:=h;obtain⟨t,rfl⟩:=a;exact rule i t s _ _ ⟨.int (g i),H,I.tok _,⟨_,U⟩,q⟩
theorem Jt:kY X (unaryOp .USub) (rU λi=>.int (-i)):=vZ λ_ _ _ _ _ q=>neg_int q
end
noncomputable def SN:V->V->Bool
 | .non,.non=>true | .non,.int _=>true | .int _,.non=>true | .non,.bl _=>true | .bl _,.non=>true | .non,.str _=>true | .str _,.non=>true
 | .int _,.int _=>true | .bl _,.bl _=>true | .str _,.str _=>true | .byt _,.byt _=>true
 | .int _,.str _=>true | .str _,.int _=>true | .bl _,.str _=>true | .str _,.bl _=>true
 | _,_=>false
def wA:R2:=λx y H Q=>SN x y=true/\Q (.bl (decide (x=y))) H
def vq:R2:=λx y H Q=>SN x y=true/\Q (.bl (!decide (x=y))) H
theorem qU{i j:Int}:decide (V.int i=V.int j)=(i == j):=by
 rw[Pg];simp
theorem vM{i j:Bool}:decide (V.bl i=V.bl j)=(i == j):=by
 rw[Pg];simp
theorem qW{i j:Str}:decide (V.str i=V.str j)=(i == j):=by
 rw[Pg];simp
theorem qT{i j:Array UInt8}:decide (V.byt i=V.byt j)=(i.toList == j.toList):=by
 rw[Pg];cases i;cases j;simp
section
variable {X:Cx}{a b c:Expr}{ta tb tc:TE}{pos:Pos}
theorem Eb{Q:VK}{k k':Bool}(I:Inv X pins σ H s)(q:Q (.bl k) H)(e:k=k'):EP X pins σ Q (.bool k') s:=by
 subst e;exact⟨.bl k,H,I,U,q⟩
theorem HF:DP X (compareOp .Eq) wA:=by
 intro pins s σ H x y v u Q I c a h;obtain⟨b,q⟩:=h;cases x with
 | non =>
  cases c;cases y with
  | non=>cases a;exact PySem.EqNone.eq_none_none (Eb I q (by simp))
  | bl j=>cases a;exact PySem.EqNone.eq_none_bool (Eb I q (by simp))
  | int j=>obtain⟨t',rfl⟩:=a;exact PySem.EqNone.eq_none_int (Eb I q (by simp))
  | str j=>obtain⟨t',rfl⟩:=a;exact PySem.EqNone.eq_none_str (Eb I q (by simp))
  | _=>exact absurd (show false=true from b) Dw
 | bl i =>
  cases c;cases y with
  | non=>cases a;exact PySem.EqNone.eq_bool_none (Eb I q (by simp))
  | bl j=>cases a;exact eq_bool (Eb I q vM)
  | str j=>obtain⟨t',rfl⟩:=a;exact PySem.EqMixed.eq_bool_str (Eb I q (by simp))
  | _=>exact absurd (show false=true from b) Dw
 | int i =>
  obtain⟨t,rfl⟩:=c;cases y with
  | non=>cases a;exact PySem.EqNone.eq_int_none (Eb I q (by simp))
  | int j=>obtain⟨t',rfl⟩:=a;exact eq_int (Eb I q qU)
  | str j=>obtain⟨t',rfl⟩:=a;exact PySem.EqMixed.eq_int_str (Eb I q (by simp))
  | _=>exact absurd (show false=true from b) Dw
 | str i =>
  obtain⟨t,rfl⟩:=c;cases y with
  | non=>cases a;exact PySem.EqNone.eq_str_none (Eb I q (by simp))
  | bl j=>cases a;exact PySem.EqMixed.eq_str_bool (Eb I q (by simp))
  | int j=>obtain⟨t',rfl⟩:=a;exact PySem.EqMixed.eq_str_int (Eb I q (by simp))
  | str j=>obtain⟨t',rfl⟩:=a;exact eq_str (Eb I q qW)
  | _=>exact absurd (show false=true from b) Dw
 | byt i =>
  obtain⟨t,rfl⟩:=c;cases y with
  | byt j=>obtain⟨t',rfl⟩:=a;exact PySem.W.eq_bytes (Eb I q qT)
  | _=>exact absurd (show false=true from b) Dw
 | _=>cases y<;>exact absurd (show false=true from b) Dw
theorem Lg:DP X (compareOp .NotEq) vq:=by
 intro pins s σ H x y v u Q I c a h;obtain⟨b,q⟩:=h;cases x with
 | non =>
  cases c;cases y with
  | non=>cases a;exact PySem.EqNone.ne_none_none (Eb I q (by simp))
  | bl j=>cases a;exact PySem.EqNone.ne_none_bool (Eb I q (by simp))
  | int j=>obtain⟨t',rfl⟩:=a;exact PySem.EqNone.ne_none_int (Eb I q (by simp))
  | str j=>obtain⟨t',rfl⟩:=a;exact PySem.EqNone.ne_none_str (Eb I q (by simp))
  | _=>exact absurd (show false=true from b) Dw
 | bl i =>
  cases c;cases y with
  | non=>cases a;exact PySem.EqNone.ne_bool_none (Eb I q (by simp))
  | bl j=>cases a;exact ne_bool (Eb I q (congrArg not vM))
  | str j=>obtain⟨t',rfl⟩:=a;exact PySem.EqMixed.ne_bool_str (Eb I q (by simp))
  | _=>exact absurd (show false=true from b) Dw
 | int i =>
  obtain⟨t,rfl⟩:=c;cases y with
  | non=>cases a;exact PySem.EqNone.ne_int_none (Eb I q (by simp))
  | int j=>obtain⟨t',rfl⟩:=a;exact ne_int (Eb I q (congrArg not qU))
  | str j=>obtain⟨t',rfl⟩:=a;exact PySem.EqMixed.ne_int_str (Eb I q (by simp))
  | _=>exact absurd (show false=true from b) Dw
 | str i =>
  obtain⟨t,rfl⟩:=c;cases y with
  | non=>cases a;exact PySem.EqNone.ne_str_none (Eb I q (by simp))
  | bl j=>cases a;exact PySem.EqMixed.ne_str_bool (Eb I q (by simp))
  | int j=>obtain⟨t',rfl⟩:=a;exact PySem.EqMixed.ne_str_int (Eb I q (by simp))
  | str j=>obtain⟨t',rfl⟩:=a;exact ne_str (Eb I q (congrArg not qW))
  | _=>exact absurd (show false=true from b) Dw
 | byt i =>
  obtain⟨t,rfl⟩:=c;cases y with
  | byt j=>obtain⟨t',rfl⟩:=a;exact PySem.W.ne_bytes (Eb I q (congrArg not qT))
  | _=>exact absurd (show false=true from b) Dw
 | _=>cases y<;>exact absurd (show false=true from b) Dw
theorem QH:DP X (compareOp .Lt) (Gj λi j=>.bl (decide (i<j))):=Mw λ_ _ _ _ _ _ _ q=>lt_int q
theorem kE:DP X (compareOp .LtE) (Gj λi j=>.bl (decide (i<=j))):=Mw λ_ _ _ _ _ _ _ q=>le_int q
theorem MK:DP X (compareOp .Gt) (Gj λi j=>.bl (decide (j<i))):=Mw λ_ _ _ _ _ _ _ q=>gt_int q
theorem X8:DP X (compareOp .GtE) (Gj λi j=>.bl (decide (j<=i))):=Mw λ_ _ _ _ _ _ _ q=>ge_int q
theorem X1y:DP X (compareOp .IsNot) (λx y H Q=>y=.non/\Q (.bl (!decide (x=.non))) H):=by
 intro pins s σ H x y v u Q I a b h;obtain⟨rfl,q⟩:=h;cases b;refine isnot_none_gen (Eb I q ?_);cases x<;>first
  | (cases a;rfl)
  | (obtain⟨t,rfl⟩:=a;rfl)
variable{op:CmpOp}
theorem Ad(b:Expr)(h:op≠.In:=by decide)(h2:op≠.NotIn:=by decide):behindInMarks op b=false:=by
 have a:(op == CmpOp.In)=false:=by cases op<;>first | rfl | exact absurd rfl h
 have c:(op == CmpOp.NotIn)=false:=by cases op<;>first | rfl | exact absurd rfl h2
 cases b<;>simp[behindInMarks,a,c]
theorem Gu{r:R2}(ho:DP X (compareOp op) r)(ha:PE X a ta)(hb:PE X b tb)(hm:behindInMarks op b=false):PE X (.Compare a [op] [b] pos) (Ej r ta tb):=by
 intro pins s σ H Q I h;exact wpAny_Compare1 (QF ha hb I h λv u d x y H2 f c e q=>ho pins d σ H2 x y v u Q f c e q) hm
def HN (t:TE):TT:=λσ H Q=>t σ H λx H'=>∃k,x=.bl k/\Q k H'
theorem Cg{r:R2}(ho:DP X (compareOp op) r)(ha:PE X a ta)(hb:PE X b tb)(hm:behindInMarks op b=false):PT X (.Compare a [op] [b] pos) (HN (Ej r ta tb)):=by
 intro pins s σ H Q I h
 refine wpAny_isTrue_Compare1 (Bl (ha pins s σ H _ I h) λv m ⟨x,H1,o,p,d⟩=>Bl (hb pins m σ H1 _ o d) λu l ⟨y,H2,q,g,f⟩ =>
  Bl (ho pins l σ H2 x y v u _ q p g f) λc t ⟨z,n,I3,i,k,e,j⟩=>?_) hm
 subst e;cases i;exact Pk ⟨n,I3,j⟩
theorem Gp:(sizeLine:Nat)<2^63:=by rw[sizeLine_eq];decide
theorem vals1(r:Vals [x] us):∃u,us=[u]/\RelV x u:=by
 cases r with
 | cons r1 r2=>cases r2;exact⟨_,rfl,r1⟩
theorem vals2{y:V}(r:Vals [x,y] us):∃u w',us=[u,w']/\RelV x u/\RelV y w':=by
 cases r with
 | cons r1 r2 =>
  cases r2 with
  | cons r3 r4=>cases r4;exact⟨_,_,rfl,r1,r3⟩
theorem Vx:CW X (.builtin "abs") (λxs H Q=>∃i,xs=[.int i]/\Q (.int (if i<0 then -i else i)) H):=by
 intro pins s σ H xs us Q I r h;obtain⟨i,rfl,q⟩:=h;obtain⟨u,rfl,t,rfl⟩:=vals1 r;exact call_abs_int λu tk=>⟨.int (if i<0 then -i else i),H,I.tok _,⟨_,U⟩,q⟩
theorem _G(hc:X.calm=true):CW X (.builtin "max") (λxs H Q=>∃i j,xs=[.int i,.int j]/\Q (.int (if j>i then j else i)) H):=by
 intro pins s σ H xs us Q I r h;obtain⟨i,j,rfl,q⟩:=h;obtain⟨u,a,rfl,⟨t,rfl⟩,⟨t',rfl⟩⟩:=vals2 r;refine max_two_ints (I.ok.hd hc) λh' tk k=>⟨_,H,I.kept k,?_,q⟩;by_cases hj:j>i
 ·rw[if_pos hj,if_pos hj];exact⟨_,U⟩
 ·rw[if_neg hj,if_neg hj];exact⟨_,U⟩
theorem _K(hc:X.calm=true):CW X (.builtin "min") (λxs H Q=>∃i j,xs=[.int i,.int j]/\Q (.int (if j<i then j else i)) H):=by
 intro pins s σ H xs us Q I r h;obtain⟨i,j,rfl,q⟩:=h;obtain⟨u,a,rfl,⟨t,rfl⟩,⟨t',rfl⟩⟩:=vals2 r;refine min_two_ints (I.ok.hd hc) λh' tk k=>⟨_,H,I.kept k,?_,q⟩;by_cases hj:j<i
 ·rw[if_pos hj,if_pos hj];exact⟨_,U⟩
 ·rw[if_neg hj,if_neg hj];exact⟨_,U⟩
end
structure Qj (h:Heap) (x dx C:Y9) (mA:U4):Prop where
 obj:h.get? x=some (PySem.W.instObj C dx)
 ns:h.Ns1 dx mA
 ne:dx≠x
theorem _2{dx:Y9}{mA:U4}(n:h.Ns1 dx mA):∃od,h.get? dx=some od/\∀name,PySem.W.lookIn name od=some (mA name):=by
 obtain⟨o,es,ep,f,d,c,_,g⟩:=n;refine⟨o,f,λname=>?_⟩;have e:=g name;unfold nsFind findBy at e;rw[<-Array.find?_toList]at e;unfold PySem.W.lookIn;rw[d];dsimp only;split
 ·rename_i y q;rw[q]at e;exact congrArg some e
 ·rename_i q;rw[q]at e;have a:es.toList.any (·.refKey)=false:=by
   rw[List.any_eq_false];intro y i;obtain⟨z,t,b⟩:=c y (Array.mem_toList_iff.mp i);simp[DictEntry.refKey,b]
  have a':¬ es.toList.any (·.refKey)=true:=by rw[a];exact Dw
  rw[if_neg a'];exact congrArg some e
theorem Qj.look{x dx C:Y9}{mA:U4}(I:Qj h x dx C mA):∃od,PySem.W.InstAt h x (PySem.W.instObj C dx) C (some od)/\∀name,PySem.W.lookIn name od=some (mA name):=
 let ⟨od,ho,hl⟩:=_2 I.ns
 ⟨od,⟨I.obj,U,U,ho⟩,hl⟩
section
variable {prog:U8}{w:W5}{A:Y6}{E:U2}{s:U7}{K:U0}{x dx C f:Y9}{mA:U4}{name:Str}{v:W8}
end
section
variable {P:U8}{w:W5}{H H':Hp}{h h':Heap}{a C dx:Y9}{fs fs':List (Str×V)}
theorem X3h(hok:Et P w H h)(e:H a=some (.ins C dx fs)):∃mA,Qj h a dx C mA/\(∀f,Qi (fs.lookup f) (mA f))/\PySem.Within mA (fs.map (·.1))/\fs.length<=1000/\H dx=some (.own a):=by
 obtain⟨d,z,ne,b,mA,n,r,q⟩:=(show Bc P w H h a (.ins C dx fs) from hok a _ e);exact⟨mA,⟨b,n,ne⟩,r,q,z,d⟩
end
structure Cls (K:U0) (C:Y9):Prop where
 pg:PySem.W.plainGet K C Str.empty=true
 hd:PySem.W.hasDictIn K C=true
 po:PySem.W.plainOver K C=true
 sa:PySem.W.findIn K (.ref C) "__setattr__"=some (some (.builtin "object.__setattr__"))
theorem Cls.get{K:U0}{C:Y9}(c:Cls K C)(f:Str):PySem.W.plainGet K C f=true:=c.pg
section
variable {X:Cx}{pins:U1}{σ:St}{H:Hp}{s:U7}{a C dx:Y9}{fs:List (Str×V)}{f:Str}{v:V}{A:Y6}{E:U2}
end
section
variable {X:Cx}{o e value:Expr}{f:Str}{pos pos' tpos:Pos}{ta tv:TE}
end
section
variable {X:Cx}{pins:U1}{σ:St}{H:Hp}{s:U7}{A:Y6}{E:U2}{Q:U2}{c:W8}{b:Bool}
inductive Bk (K:U0) (H:Hp):V->Value->Prop where
 | non:Bk K H .non (.type "NoneType")
 | bl (x:Bool):Bk K H (.bl x) (.type "bool")
 | int (i:Int):Bk K H (.int i) (.type "int")
 | str (x:Str):Bk K H (.str x) (.type "str")
 | flt (x:UInt64):Bk K H (.flt x) (.type "float")
 | lst {a:Y9}{xs:List V} (e:H a=some (.lst xs)):Bk K H (.ref a) (.type "list")
 | frz {a:Y9}{o:Obj}{xs:List V} (e:H a=some (.frz o (.lst xs))):Bk K H (.ref a) (.type "list")
 | tup {a:Y9}{xs:List V} (e:H a=some (.tup xs)):Bk K H (.ref a) (.type "tuple")
 | dK {a:Y9}{kvs:List (Key×V)} (e:H a=some (.dK kvs)):Bk K H (.ref a) (.type "dict")
 | dT {a:Y9}{kvs:List (List Key×V)} (e:H a=some (.dT kvs)):Bk K H (.ref a) (.type "dict")
 | ins {a C dx:Y9}{fs:List (Str×V)} (e:H a=some (.ins C dx fs)) (cl:Cls K C) (ha:PySem.W.findIn K (.ref C) "__class__"=some (some (.builtin "object.__class__")))
   (hn:PySem.W.specialIn K (.builtin "object.__class__") "__get__"=some (some (.builtin "getset_descriptor.__get__"))) (htk:PySem.W.takesIn K (.builtin "object.__class__")=some true)
   (hm:PySem.W.mroIn K C (.type "object")=some true):Bk K H (.ref a) (.ref C)
theorem _Z{t:W8}(I:Inv X pins σ H s)(rx:RelV x u)(ty:Bk X.K H x t)(e:PySem.W.kitOne X.K t c=some b)(h:∀tk,Q (.bool b) {s with toks:=tk}):
  wpAny (model X.prog X.w) A (call (.builtin "isinstance") [u,c]) Q E s:=by
 cases ty with
 | non=>cases (show u=Value.none from rx);exact Jj PySem.W.kitx_none I.kIn True.intro e (λz=>nomatch z) h
 | bl y=>cases (show u=Value.bool y from rx);exact Jj PySem.W.kitx_bool I.kIn True.intro e (λz=>nomatch z) h
 | int i=>obtain⟨t,q⟩:=(show ∃t,u=Value.int i t from rx);cases q;exact Jj PySem.W.kitx_int I.kIn True.intro e (λz=>nomatch z) h
 | str y=>obtain⟨t,q⟩:=(show ∃t,u=Value.str y t from rx);cases q;exact Jj PySem.W.kitx_str I.kIn True.intro e (λz=>nomatch z) h
 | flt y=>obtain⟨t,q⟩:=(show ∃t,u=Value.float y t from rx);cases q;exact Jj PySem.W.kitx_float I.kIn True.intro e (λz=>nomatch z) h
 | @lst a xs ea =>
  cases (show u=Value.ref a from rx);obtain⟨_,_,n,_,h1⟩:=(show Bc X.prog X.w H s.heap a (.lst xs) from I.hok a _ ea);exact Jj PySem.W.kitx_list I.kIn ⟨_,h1,U⟩ e (λz=>nomatch z) h
 | @frz a ob xs ea =>
  cases (show u=Value.ref a from rx);obtain⟨_,_,_,n,_,h1⟩:=(show Bc X.prog X.w H s.heap a (.frz ob (.lst xs)) from I.hok a _ ea);exact Jj PySem.W.kitx_list I.kIn ⟨_,h1,U⟩ e (λz=>nomatch z) h
 | @tup a xs ea =>
  cases (show u=Value.ref a from rx);obtain⟨_,_,_,p⟩:=(show Bc X.prog X.w H s.heap a (.tup xs) from I.hok a _ ea);obtain⟨o,h1,h2,_⟩:=p;exact Jj PySem.W.kitx_tuple I.kIn ⟨o,h1,h2⟩ e (λz=>nomatch z) h
 | @dK a kvs ea =>
  cases (show u=Value.ref a from rx);obtain⟨_,_,vs,_,p⟩:=(show Bc X.prog X.w H s.heap a (.dK kvs) from I.hok a _ ea);obtain⟨o,es,ep,h1,h2,_⟩:=p;exact Jj PySem.W.kitx_dict I.kIn ⟨o,h1,h2.1⟩ e (λz=>nomatch z) h
 | @dT a kvs ea =>
  cases (show u=Value.ref a from rx);obtain⟨_,_,xs,_,o,es,ep,h1,h2,_⟩:=(show Bc X.prog X.w H s.heap a (.dT kvs) from I.hok a _ ea);exact Jj PySem.W.kitx_dict I.kIn ⟨o,h1,h2.1⟩ e (λz=>nomatch z) h
 | @ins a C dx fs ea cl ha hn htk hm =>
  cases (show u=Value.ref a from rx);obtain⟨mA,O,_⟩:=X3h I.hok ea;obtain⟨od,J,_⟩:=O.look;exact Jj (PySem.W.kitx_own (cl.get _) cl.hd ha hn htk hm) I.kIn J e (λz=>nomatch z) h
end
structure CK (k:Nat) (A:Y6):Prop where
 hd:A.handled=none
 dp:A.depth+3*k+5<recursionLimit
 un:A.units+16*k+200<cLine
variable{k:Nat}
theorem CK.mono{j:Nat}(r:CK k A)(h:j<=k):CK j A:=⟨r.hd,by have:=r.dp;lia,by have:=r.un;lia⟩
theorem CK.deeper(r:CK (k+1) A)(env:Env):CK k (A.deeper env):=
 ⟨r.hd,by have:=r.dp;show A.depth+1+3*k+5<_;lia,by have:=r.un;show A.units+3+16*k+200<_;lia⟩
theorem CK.in1(r:CK (k+1) A):CK k A.in1 :=
 ⟨r.hd,by have:=r.dp;show A.depth+3*k+5<_;lia,by have:=r.un;show A.units+1+16*k+200<_;lia⟩
theorem CK.depth(r:CK k A):A.depth<recursionLimit:=by have:=r.dp;lia
theorem CK.units(r:CK k A):A.units+64<cLine:=by have:=r.un;lia
def O9:TA:=λ_ H Q=>Q [] H
def HS (ta:TE)(tr:TA):TA:=λσ H Q=>ta σ H λx H1=>tr σ H1 λxs H2=>Q (x::xs) H2
section
variable {X:Cx}{e:Expr}{es:List Expr}{te:TE}{t:TA}{pos:Pos}
theorem Ae:PA X [] O9:=λ_ _ _ _ H Q I h=>Calls.spliced_nil ⟨[],H,I,.nil,h⟩
theorem Aa(ha:PE X e te)(hr:PA X es t)(hs:starEach (e::es) X.env=(false,eval e X.env)::starEach es X.env:=by rfl):PA X (e::es) (HS te t):=by
 intro pos pins s σ H Q I h;rw[hs];show wpAny _ _ (spliced ((false,eval e X.env)::backTo pos (starEach es X.env))) _ _ s;refine Calls.spliced_cons (Bl (ha pins s σ H _ I h) λu d ⟨x,H1,f,g,a⟩=>?_);exact Bl (hr pos pins d σ H1 _ f a) λus j ⟨xs,H2,i,c,b⟩=>⟨x::xs,H2,i,.cons g c,b⟩
def R4 (t:TA):TE:=λσ H Q=>t σ H λxs H1=>xs.length<=sizeLine/\∀p,H1 p=none->Q (.ref p) (upd H1 p (.tup xs))
def Ys (t:TA):TE:=λσ H Q=>t σ H λxs H1=>xs.length<=sizeLine/\∀p,H1 p=none->Q (.ref p) (upd H1 p (.lst xs))
theorem Cq{x1}(h:PA X es t):PE X (.Tuple es x1 pos) (R4 t):=by
 intro pins s σ H Q I d;refine wpAny_Tuple_spliced (Bl (h pos pins s σ H _ I d) λus a ⟨xs,H1,c,r,z,q⟩=>⟨by rw[<-r.length];exact z,?_⟩);have hf:H1 a.heap.objs.size=none:=c.hok.fresh (BX _);refine⟨.ref a.heap.objs.size,upd H1 a.heap.objs.size (.tup xs),c.laid (t':=a.toks) (λb u e=>DR _ e) (BX _) ?_,U,q _ hf⟩;exact⟨z,us,r,⟨_,FT _ rfl,U,_,U⟩⟩
theorem Ii(h:PA X es t):PE X (.List es pos) (Ys t):=by
 intro pins s σ H Q I d;refine wpAny_List_spliced (Bl (h pos pins s σ H _ I d) λus a ⟨xs,H1,c,r,z,q⟩=>⟨by rw[<-r.length];exact z,?_⟩);have hf:H1 a.heap.objs.size=none:=c.hok.fresh (BX _);refine⟨.ref a.heap.objs.size,upd H1 a.heap.objs.size (.lst xs),c.laid (t':=a.toks) (λb u e=>DR _ e) (BX _) ?_,U,q _ hf⟩;exact⟨z,us,0,r,FT _ rfl⟩
end
abbrev Sp:=List V->Hp->VK->XK->Prop
abbrev Ls:=List Env->Hp->Shared->XK->Value->Shared->Prop
structure Nm (P:U8) (w:W5) (K:U0) (mg:U4) (base:Heap) (A:Y6) (outer:List Env) (s:U7) (H:Hp):Prop where
 frames:A.frames=some outer
 mod:Mod K mg base
 bs:∀b o,base.get? b=some o->s.heap.get? b=some o/\H b=none
 bsz:base.objs.size<=s.heap.objs.size
 funs:s.heap.FunFrames base outer
 frf:∀b∈frs outer,H b=none
 hok:Et P w H s.heap
 bare:AllBare s.gens
def CE (outer:List Env)(P:U8)(w:W5)(H:Hp)(s:U7)(Q:VK)(u:W8)(s':U7):Prop :=
 ∃v H',s'.os=s.os/\AllBare s'.gens/\Un (frs outer) [] H H' s.heap s'.heap/\Et P w H' s'.heap/\RelV v u/\Q v H'
def CR (CX:Ls)(outer:List Env)(P:U8)(w:W5)(H:Hp)(s:U7)(Q:VK)(E:XK)(r:Result)(s':U7):Prop :=
 match r with
 | .ok (.ret u)=>CE outer P w H s Q u s'
 | .ok _=>False
 | .error e=>CX outer H s E e s'
structure Dh (P:U8) (w:W5) (K:U0) (mg:U4) (base:Heap) (CX:Ls) (k:Nat) (f:Y9) (fd:FuncData) (ps:W4) (sp:Sp):Prop where
 len:∀vs H Q E,sp vs H Q E->vs.length=ps.length
 run:∀(A:Y6) (outer:List Env) (s:U7) (H:Hp) (args:Args) (us:U5) (vs:List V) (Q:VK) (E:XK),CK k A->Nm P w K mg base A outer s H->BindsTo s fd args (ps.zip us)->Vals vs us->sp vs H Q E ->
  codeAny (model P w) A (.call (.ref f) args) (CR CX outer P w H s Q E) s
variable{mg:U4}{base:Heap}{CX:Ls}{f:Y9}{fd:FuncData}{ps:W4}{sp:Sp}
theorem Dh.mono{j:Nat}(F:Dh P w K mg base CX j f fd ps sp)(h:j<=k):
  Dh P w K mg base CX k f fd ps sp:=⟨F.len,λA outer s H args us vs Q E a=>F.run A outer s H args us vs Q E (a.mono h)⟩
theorem Dh.imp{sp':Sp}(F:Dh P w K mg base CX k f fd ps sp)
  (h:∀vs H Q E,sp' vs H Q E->sp vs H Q E):Dh P w K mg base CX k f fd ps sp' :=
 ⟨λvs H Q E q=>F.len vs H Q E (h _ _ _ _ q),λA outer s H args us vs Q E d a c e b=>F.run A outer s H args us vs Q E d a c e (h _ _ _ _ b)⟩
section
variable {X:Cx}{pins:U1}{σ:St}{H:Hp}{s s':U7}
theorem Inv.env0(I:Inv X pins σ H s):Nm X.prog X.w X.K X.mg X.base X.A X.stack s H :=
 ⟨I.ok.frames,I.ok.mod,I.bs,CZ I.ok.bsz I.sz,I.stack,I.stkFree,I.hok,I.bare⟩
theorem Inv.after{Q:VK}(I:Inv X pins σ H s)(h:CE X.stack X.prog X.w H s Q u s'):EP X pins σ Q u s':=by
 obtain⟨v,H',os,a,un,c,r,q⟩:=h;obtain⟨f,g,d,t,e⟩:=s';obtain rfl:e=s.os:=os;exact⟨v,H',I.call (h':=f) (g':=g) (d':=d) (t':=t) (ch:=[]) un c a (λb z=>absurd z (by simp)),r,q⟩
end
def Ke (sp:Sp)(dvs:List V)(E:XK)(t:TA):TE:=λσ H Q=>t σ H λvs H1=>sp (vs++dvs) H1 Q E
def Binds (K:U0)(fd:FuncData)(ps:W4)(ds:U5):Prop :=
 ∀(s:U7) (us:U5),K.In s.heap->(us++ds).length=ps.length->BindsTo s fd ⟨us,[]⟩ (ps.zip (us++ds))
theorem Binds.all(h:∀us:List Value,us.length=ps.length->bindArgs fd ⟨us,[]⟩=pure (ps.zip us)):Binds K fd ps []:=λs us _ a=>by
 rw[Qx]at a ⊢;exact .of_eq (h us a)
def Passes (CX:Ls)(X:Cx)(E:XK):Prop:=∀(pins:U1) (σ:St) (H:Hp) (s:U7) (e:W8) (s':U7),Inv X pins σ H s->CX X.stack H s E e s'->X.xe e s'
section
variable {X:Cx}{CX:Ls}{k:Nat}{f C:Y9}{fd:FuncData}{ps:W4}{sp:Sp}{dvs:List V}{ds:U5}{E:XK}{x m:Str}{p pos apos:Pos}{e o:Expr}{es:List Expr}{ta:TE}{t:TA}
theorem pW{Q:VK}{vs:List V}(F:Dh X.prog X.w X.K X.mg X.base CX k f fd ps sp)(hr:CK k X.A)(hb:Binds X.K fd ps ds)(hd:Vals dvs ds)(hx:Passes CX X E)
  (I:Inv X pins σ H s) (r:Vals vs us) (h:sp (vs++dvs) H Q E):wpAny (model X.prog X.w) X.A (call (.ref f) us) (EP X pins σ Q) X.xe s:=by
 have b:Vals (vs++dvs) (us++ds):=r.append hd;have c:(us++ds).length=ps.length:=by rw[<-b.length];exact F.len _ _ _ _ h
 refine XM (WW (F.run X.A X.stack s H ⟨us,[]⟩ (us++ds) (vs++dvs) Q E hr I.env0 (hb s us I.kIn c) b h) λr s' a=>?_);cases r with
 | error e=>exact hx pins σ H s e s' I a
 | ok fl =>
  cases fl with
  | ret u=>exact I.after a
  | next=>exact False.elim a
  | brk=>exact False.elim a
  | cont=>exact False.elim a
theorem rB(F:Dh X.prog X.w X.K X.mg X.base CX k f fd ps sp)(hr:CK k X.A)(hg:Gl X x)(hm:X.mg x=some (.ref f))(hk:PySem.W.keepIn X.K (.ref f)=true)(hb:Binds X.K fd ps ds)(hd:Vals dvs ds)(hx:Passes CX X E)
  (ha:PA X (e::es) t) (hdb:(x == ("__debug__":Str))=false:=by decide) (he:starEach (e::es) X.env=(false,eval e X.env)::starEach es X.env:=by rfl) (hpl:(backTo pos (starEach es X.env)).any (·.1)=false:=by rfl):
  PE X (.Call (.Name x p) (e::es) [] pos) (Ke sp dvs E t):=by
 intro pins s σ H Q I h;refine Ud (QT I hg hm ?_ hdb);refine PySem.W.callWith_K (h₀:=X.base) I.ok.mod.kin hk (Bl (ha pos pins s σ H _ I h) λus b ⟨vs,H1,a,r,q⟩=>⟨a.kIn,?_⟩) he hpl;exact pW F hr hb hd hx a r q
end
def PK (X:Cx)(kws:List Keyword)(t:TA):Prop :=
 ∀(pos:Pos) (pins:U1) (s:U7) (σ:St) (H:Hp) (Q:List V->Hp->Prop),Inv X pins σ H s->t σ H Q->wpAny (model X.prog X.w) X.A (evalAll ((backToKw pos (keywordEach kws X.env)).map (·.2))) (AP X pins σ Q) X.xe s
section
variable {X:Cx}{CX:Ls}{k:Nat}{f C:Y9}{fd:FuncData}{ps ks:W4}{sp:Sp}{E:XK}{x m:Str}{p pos apos kpos:Pos}{e o:Expr}{es:List Expr}{kws:List Keyword}{te ta:TE}{t tk:TA}{nm:Option Str}
theorem X5e:PK X [] O9:=λ_ _ _ _ H Q I h=>wpAny_evalAll_nil ⟨[],H,I,.nil,h⟩
theorem X1p(ha:PE X e te)(hr:PK X kws t):PK X (⟨nm,e,kpos⟩::kws) (HS te t):=by
 intro pos pins s σ H Q I h;show wpAny _ _ (evalAll ((do let v ← eval e X.env;standAt pos;pure v)::(backToKw pos (keywordEach kws X.env)).map (·.2))) _ _ s;refine wpAny_evalAll_cons (Az (Bl (ha pins s σ H _ I h) λu d ⟨x,H1,f,g,a⟩=>Az (Qv (CP ?_))));exact Bl (hr pos pins d σ H1 _ f a) λus j ⟨xs,H2,i,c,b⟩=>⟨x::xs,H2,i,.cons g c,b⟩
variable {g:List Value->List Value->List Value}{gV:List V->List V->List V}
end
structure Ck (N P:W4) (sc:Scope):Prop where
 kind:sc.kind=.function
 co:sc.isCoroutine=false
 gen:sc.isGenerator=false
 nd:N.Nodup
 pre:N.take P.length=P
 par:∀x∈P,sc.names.lookup x=some .local\/sc.names.lookup x=some .cell
 nofree:∀y∈sc.names,y.2≠.free
theorem oE{kindOf:Str->Option NameKind}{x:Str}:∀{binds:List (Str×Value)}{m:U4},(∀v,(x,v)∉binds)->bindL kindOf binds m x=m x
 | [],_,_=>rfl
 | (n,v)::r,m,h=>by
  unfold bindL;rw[oE λw a=>h w (Mv _ a)];split
  ·have:x≠n:=by rintro rfl;exact h v K_
   simp[this]
  ·rfl
theorem n_{kindOf:Str->Option NameKind}{x:Str}:∀{binds:List (Str×Value)}{m:U4},(∀v,(x,v)∉binds)->bindC kindOf binds m x=m x
 | [],_,_=>rfl
 | (n,v)::r,m,h=>by
  unfold bindC;rw[n_ λw a=>h w (Mv _ a)];split
  ·rfl
  ·have:x≠n:=by rintro rfl;exact h v K_
   simp[this]
theorem oA{kindOf:Str->Option NameKind}{x:Str}{v:W8}:∀{P:W4}{vs:U5}{i:Nat}{m:U4},P.Nodup->P[i]?=some x->vs[i]?=some v->kindOf x=some .local ->
  bindL kindOf (P.zip vs) m x=some v
 | [],_,_,_,_,h,_,_=>by simp at h
 | _::_,[],_,_,_,_,h,_=>by simp at h
 | p::P,w::vs,0,m,nd,h1,h2,hk=>by
  simp at h1 h2;subst h1;subst h2;show bindL kindOf ((p,w)::P.zip vs) m p=_;unfold bindL;rw[oE λv a=>(Qy.mp nd).1 (gw a).1,if_pos hk];simp
 | p::P,w::vs,i+1,m,nd,h1,h2,hk=>by
  show bindL kindOf ((p,w)::P.zip vs) m x=_;unfold bindL;exact oA (i:=i) (Qy.mp nd).2 (by simpa using h1) (by simpa using h2) hk
theorem n8{kindOf:Str->Option NameKind}{x:Str}{v:W8}:∀{P:W4}{vs:U5}{i:Nat}{m:U4},P.Nodup->P[i]?=some x->vs[i]?=some v->kindOf x≠some .local ->
  bindC kindOf (P.zip vs) m x=some v
 | [],_,_,_,_,h,_,_=>by simp at h
 | _::_,[],_,_,_,_,h,_=>by simp at h
 | p::P,w::vs,0,m,nd,h1,h2,hk=>by
  simp at h1 h2;subst h1;subst h2;show bindC kindOf ((p,w)::P.zip vs) m p=_;unfold bindC;rw[n_ λv a=>(Qy.mp nd).1 (gw a).1,if_neg hk];simp
 | p::P,w::vs,i+1,m,nd,h1,h2,hk=>by
  show bindC kindOf ((p,w)::P.zip vs) m x=_;unfold bindC;exact n8 (i:=i) (Qy.mp nd).2 (by simpa using h1) (by simpa using h2) hk
noncomputable def start (N:W4)(vs:List V):St:=vs.map some++List.replicate (N.length-vs.length) none
noncomputable def GX (CX:Ls)(P:U8)(w:W5)(K:U0)(mg:U4)(base:Heap)(N:W4)(qual:Str)(scope:Scope)(f:Y9)(cd:W8)(A:Y6)(outer:List Env)(s:U7)(H:Hp)(E:XK):Cx where
 prog:=P
 w:=w
 K:=K
 mg:=mg
 base:=base
 A:=A.deeper (envOfC qual scope s.heap.objs.size f cd)
 N:=N
 s₀:=s
 H₀:=H
 env:=envOfC qual scope s.heap.objs.size f cd
 outer:=outer
 stack:=envOfC qual scope s.heap.objs.size f cd::outer
 ex:=[]
 calm:=true
 fn:=λ_=>true
 pn:=[]
 xe:=λe s'=>wpAny (model P w) (A.deeper (envOfC qual scope s.heap.objs.size f cd)) (leaving (envOfC qual scope s.heap.objs.size f cd) e) (λ_ s''=>CX outer H s E e s'') (λe' s''=>CX outer H s E e' s'') s'
theorem sJ{sc:Scope}{n:Nat}{x:Str}(h:sc.names.lookup x=some .cell):∃c,(cellsFrom n sc.names []).lookup x=some c:=by
 have q:=mH sc.names n [] (.inl h);exact Option.isSome_iff_exists.mp q
variable{qual:Str}{scope:Scope}
theorem _Y{N:W4}{cd:W8}{outer:List Env}{s1:U7}{E:XK}{vs:List V}
  (S:Ck N ps scope) (hd:A.handled=none) (e0:Nm P w K mg base A outer s H) (hl:vs.length=ps.length) (r:Vals vs us)
  (x:InCallC s s.heap.objs.size (bindL (envOfC qual scope s.heap.objs.size f cd).kindOf (ps.zip us) λ_=>none) (cellsFrom (s.heap.objs.size+1) scope.names []) (bindC (envOfC qual scope s.heap.objs.size f cd).kindOf (ps.zip us) λ_=>none) s1):
  Inv (GX CX P w K mg base N qual scope f cd A outer s H E) [] (start N vs) H s1:=by
 have t:ps.length<=N.length:=by have:=congrArg List.length S.pre;rw[JG]at this;lia
 obtain⟨h1,tk,rfl,m⟩:=x.done;have d:∀b:Addr,b∉(GX CX P w K mg base N qual scope f cd A outer s H E).ex:=λb z=>absurd (show b∈([]:U3) from z) (by simp)
 refine⟨⟨e0.mod,S.kind,U,U,BX _,λy z c h1 h2=>?_,λy g=>?_,λy c _ h=>?_,λ_=>hd,Around.frames_deeper e0.frames,.inr ⟨U,U⟩,λb z=>absurd z (d b),e0.bs,e0.bsz,λb _ _=>d b,λb z=>absurd z (d b),e0.funs,e0.frf⟩,
  rfl,e0.bare,Un.kept m,⟨_,x.toInCall.ns,λi y v h1 h2 C=>?_⟩,λy c h=>⟨_,x.cell y c h⟩,e0.hok.fresh (BX _),λy c h=>?_,λp hp=>absurd (show p∈([]:U1) from hp) (by simp),e0.hok.kept m,?_⟩
 ·exact name_of_addr x.apart (Pu h1) (Pu h2)
 ·have g:scope.names.lookup y=some .cell\/scope.names.lookup y=some .free:=g;rcases g with g | g
  ·exact sJ g
  ·exact absurd rfl (S.nofree _ (Pu g))
 ·exact XS (x.above y c (Pu h))
 ·have hi:i<vs.length:=by
   unfold start at h2;by_cases hi:i<vs.length
   ·exact hi
   ·rw[Uo (by simpa using hi)]at h2;rw[Zz]at h2;split at h2<;>cases h2
  have o:vs[i]?=some v:=by
   unfold start at h2;rw[J8 (by simpa using hi),Cp]at h2;cases e:vs[i]? with
   | none=>rw[e]at h2;cases h2
   | some a=>rw[e]at h2;cases h2;rfl
  obtain⟨u,l,B⟩:=r.get o;have hp:ps[i]?=some y:=by
   rw[<-S.pre,List.getElem?_take_of_lt (by lia)];exact h1
  have j:ps.Nodup:=by rw[<-S.pre];exact S.nd.sublist (List.take_sublist _ _)
  refine⟨u,B,?_⟩;rcases S.par y (Hq hp) with k | k
  ·exact .inl ⟨k,oA j hp l k⟩
  ·obtain⟨c,e⟩:=sJ (n:=s.heap.objs.size+1) k;refine .inr ⟨.inl k,c,e,?_⟩;have q:=x.cell y c e;rw[n8 j hp l (by show scope.names.lookup y≠_;rw[k];decide)]at q;exact q
 ·exact e0.hok.fresh (XS (x.above y c (Pu h)))
 ·unfold start;show _=N.length;rw[DN,BL,nM];lia
theorem j8{name:Str}{params:Arguments}{body:Y8}{dV kV doc pm cdv ct oc:W8}{an od:Y5}
  {osl:Y0}{N:W4} (lk:K.lookup f=some ⟨oc,od,.func (PySem.W.fnOf name qual params body scope dV kV doc pm an cdv ct),osl⟩) (hcd:PySem.W.codeIn K cdv qual=true) (S:Ck N ps scope)
  (len:∀vs H Q E,sp vs H Q E->vs.length=ps.length)
  (hbody:∀(A:Y6) (outer:List Env) (s:U7) (H:Hp) (vs:List V) (Q:VK) (E:XK),CK k (A.deeper (envOfC qual scope s.heap.objs.size f cdv))->sp vs H Q E ->
   ∃t,Fd (GX CX P w K mg base N qual scope f cdv A outer s H E) body t/\t { nx:=λ_ H'=>Q .non H',rt:=Q} (start N vs) H):
  Dh P w K mg base CX (k+1) f (PySem.W.fnOf name qual params body scope dV kV doc pm an cdv ct) ps sp:=by
 refine⟨len,λA outer s H args us vs Q E l g D r d=>?_⟩;have p:=len _ _ _ _ d;have m:K.In s.heap:=g.mod.kin.keeps λb o e=>(g.bs b o e).1;have i:s.heap.NoLimit:=g.mod.nolimit.keeps λb o e=>(g.bs b o e).1;have a:∀y∈ps.zip us,scope.names.lookup y.1=some .local\/(scope.names.lookup y.1=some .cell/\((cellsFrom (s.heap.objs.size+1) scope.names []).lookup y.1).isSome=true):=λ⟨n,v⟩ F=>by
  rcases S.par n (gw F).1 with q | q
  ·exact .inl q
  ·exact .inr ⟨q,mH _ _ _ (.inl q)⟩
 refine codeAny_call_function l.depth (m _ _ lk) rfl S.co S.gen rfl (PySem.W.codeRec_of m hcd) (D _ _ _ _ ?_);refine wpAny_newFunctionEnv_cells S.kind a λenv C s1 x=>?_;subst C;refine⟨i.keeps x.toInCall.keep,codeAny_func ?_⟩;obtain⟨t,z,B⟩:=hbody A outer s H vs Q E (l.deeper _) d;have I:Inv (GX CX P w K mg base N qual scope f cdv A outer s H E) [] (start N vs) H s1:=_Y S l.hd g p r x;refine Ek (z [] s1 (start N vs) H _ I B) (λfl s' c=>?_) λe s' c=>c;have fin:∀{h:St}{H':Hp}{v:V}{u:W8},Inv (GX CX P w K mg base N qual scope f cdv A outer s H E) [] h H' s'->RelV v u->Q v H'->CE outer P w H s Q u s' :=
  λ{h H' v u} J j q=>⟨v,H',J.os,J.bare,J.base,J.hok,j,q⟩
 cases fl with
 | ret u =>
  obtain⟨v,h,H',J,j,q⟩:=c;exact fin J j q
 | next =>
  obtain⟨h,H',J,q⟩:=c;exact fin (v:=V.non) (u:=Value.none) J rfl q
 | brk =>
  obtain⟨_,_,_,q⟩:=c;exact False.elim q
 | cont =>
  obtain⟨_,_,_,q⟩:=c;exact False.elim q
section
variable {X:Cx}{x:Str}{p pos:Pos}{e:Expr}{es:List Expr}{t:TA}{id T:String}{r:List V->Hp->VK->Prop}
def lu (r:List V->Hp->VK->Prop)(t:TA):TE:=λσ H Q=>t σ H λvs H1=>r vs H1 Q
theorem Bm(hc:CW X (.builtin id) r)(hg:Gl X x)(hm:X.mg x=none)(hv:bootBuiltins x=some (.builtin id))(ha:PA X (e::es) t)(hn:x≠"__name__":=by decide)(hdb:(x == ("__debug__":Str))=false:=by decide)
  (he:starEach (e::es) X.env=(false,eval e X.env)::starEach es X.env:=by rfl) (hpl:(backTo pos (starEach es X.env)).any (·.1)=false:=by rfl):PE X (.Call (.Name x p) (e::es) [] pos) (lu r t):=by
 intro pins s σ H Q I h;refine Ud (Oz I hg hm hv ?_ hn hdb);exact PyProof.Rows.callWith_builtin1 (Bl (ha pos pins s σ H _ I h) λus b ⟨vs,H1,c,d,a⟩=>hc pins b σ H1 vs us Q c d a) he hpl
theorem V5(hc:CW X (.type T) r)(hg:Gl X x)(hm:X.mg x=none)(hv:bootBuiltins x=some (.type T))(ha:PA X (e::es) t)(hn:x≠"__name__":=by decide)(hdb:(x == ("__debug__":Str))=false:=by decide)
  (he:starEach (e::es) X.env=(false,eval e X.env)::starEach es X.env:=by rfl) (hpl:(backTo pos (starEach es X.env)).any (·.1)=false:=by rfl):PE X (.Call (.Name x p) (e::es) [] pos) (lu r t):=by
 intro pins s σ H Q I h;refine Ud (Oz I hg hm hv ?_ hn hdb);exact PyProof.Rows.callWith_type1 (Bl (ha pos pins s σ H _ I h) λus b ⟨vs,H1,c,d,a⟩=>hc pins b σ H1 vs us Q c d a) he hpl
end
end L2
namespace HT
noncomputable def lexLt:List Int->List Int->Bool
 | [],[]=>false
 | [],_::_=>true
 | _::_,[]=>false
 | x::xs,y::ys=>if x=y then lexLt xs ys else decide (x<y)
theorem oX(x y:Int)(xs ys:U6):lexLt (x::xs) (y::ys)=if x=y then lexLt xs ys else decide (x<y):=rfl
section
open PySem.SeqAt
open PySem.AutoSeq1 (wpAny_loadPart')
open PySem.MeetsSeq PySem.MeetsSeq2 PySem.MeetsSeq3
end
section
variable {prog:U8}{w:W5}{A:Y6}{E:U2}{s:U7}
theorem X3s{t b:Y9}{vs ws:U5}{Q:U2}(ht:IsTup s.heap t vs.toArray)(hb:IsTup s.heap b ws.toArray)(hv:vs≠[])
  (h1:ws=[]->Q (.ref t) s) (h2:ws≠[]->Q (.ref s.heap.objs.size) {s with heap:=s.heap.push { cls:=.type "tuple",data:=.seq (vs++ws).toArray}})
  (hsz:vs.length+ws.length<=sizeLine):wpAny (model prog w) A (binaryOp .Add (.ref t) (.ref b)) Q E s:=by
 obtain⟨⟨cls,dd,data,l⟩,h,o,n,j⟩:=id ht;obtain⟨⟨k,d,i,g⟩,a,c,m,f⟩:=id hb;simp only at o j c f;subst o j c f;have e:vs.toArray++ws.toArray=(vs++ws).toArray:=by simp
 by_cases hw:ws=[]
 ·exact gR ⟨_,h,U⟩ ⟨_,a,U⟩ ZS gb Zy Z_ (aH _ _)
   (tuple_addW1 t b vs.toArray ws.toArray n m dd d l g (by simpa using hv) (by simp[hw])) ⟨h,a,h1 hw⟩
 ·refine gR ⟨_,h,U⟩ ⟨_,a,U⟩ ZS gb Zy Z_ (aH _ _)
   (tuple_addW2 t b vs.toArray ws.toArray n m dd d l g (by simpa using hv) (by simpa using hw) (by rw[DQ,DQ];exact hsz)) ⟨h,a,?_⟩
  rw[e];exact h2 hw
noncomputable def CN (n d:Nat):Option Int->Nat
 | none=>d
 | some v=>if v<0 then (v+(n:Int)).toNat else min v.toNat n
theorem rE(n d k:Nat):CN n d (some (k:Int))=min k n:=by
 show (if (k:Int)<0 then ((k:Int)+(n:Int)).toNat else min (k:Int).toNat n)=min k n;rw[if_neg (by lia),GJ]
theorem X4z(n d:Nat)(hd:d<=n)(o:Option Int):CN n d o<=n:=by
 cases o with
 | none=>exact hd
 | some v =>
  show (if v<0 then (v+(n:Int)).toNat else min v.toNat n)<=n;by_cases hv:v<0
  ·rw[if_pos hv];lia
  ·rw[if_neg hv];exact Nat.min_le_right _ _
theorem qQ(v:Int)(n d:Nat):(if v<0 then max (v+(n:Int)) 0 else min v (n:Int))=((CN n d (some v):Nat):Int):=by
 show (if v<0 then max (v+(n:Int)) 0 else min v (n:Int))=(((if v<0 then (v+(n:Int)).toNat else min v.toNat n):Nat):Int);by_cases hv:v<0
 ·simp only[if_pos hv];lia
 ·simp only[if_neg hv];lia
theorem Y2n(lo hi:Option Int)(n:Nat):Builtin.Slice.sliceAdjust lo hi 1 (n:Int)=(((CN n 0 lo:Nat):Int),((CN n n hi:Nat):Int)):=by
 have h1:¬ ((1:Int)<0):=by lia
 unfold Builtin.Slice.sliceAdjust;simp only[h1,JZ];refine Prod.ext ?_ ?_
 ·cases lo with
  | none=>rfl
  | some v=>exact qQ v n 0
 ·cases hi with
  | none=>rfl
  | some v=>exact qQ v n n
theorem Y2b(i j:Nat):Builtin.Slice.slicePlaces (i:Int) (j:Int) 1=j-i:=by
 unfold Builtin.Slice.slicePlaces;have h1:(1:Int)>0:=by lia
 simp only[h1,HX,Int.ediv_one];split<;>lia
theorem oZ{v:W8}{o:Option Int}{Q:Option Int->Shared->Prop}(p:IsPart v o)(h:Q o s):wpAny (model prog w) A (Builtin.Slice.slicePartIndex v) Q E s:=by
 cases p with
 | none=>exact slicePart_none h
 | int i t=>exact slicePart_int h
variable{lo hi:Option Int}
theorem yH{sl:Y9}{vl vu:W8}{n:Nat}{Q:Int×Int×Nat->Shared->Prop}(hs:s.heap.IsSliceOf sl vl vu .none)(pl:IsPart vl lo)(pu:IsPart vu hi)
  (h:Q (((CN n 0 lo:Nat):Int),1,CN n n hi-CN n 0 lo) s):wpAny (model prog w) A (Builtin.Slice.sliceApplied (.ref sl) (pure (n:Int))) Q E s:=by
 obtain⟨os,b,c,a⟩:=id hs;unfold Builtin.Slice.sliceApplied Builtin.Slice.sliceFields;refine Az (Az (Jz b a (x:=vl) rfl (Az (Jz b a (x:=vu) rfl (Az (Jz b a (x:=.none) rfl (CP ?_)))))));refine Az (slicePart_none ?_);show wpAny _ _ (if ((1:Int) == 0)=true then _ else _) _ _ s;rw[if_neg (by decide)];refine Az (oZ pl (Az (oZ pu (Az (CP ?_)))));show wpAny _ _ (match Builtin.Slice.sliceAdjust lo hi 1 (n:Int) with | (lo,hi)=>pure (lo,(1:Int),Builtin.Slice.slicePlaces lo hi 1)) _ _ s;rw[Y2n lo hi n];show wpAny _ _ (pure (((CN n 0 lo:Nat):Int),(1:Int),Builtin.Slice.slicePlaces ((CN n 0 lo:Nat):Int) ((CN n n hi:Nat):Int) 1)) _ _ s;rw[Y2b];exact CP h
theorem zU(xs:U9)(i k:Nat):((List.range k).filterMap λ(m:Nat)=>xs[((i:Int)+(m:Int)*1).toNat]?).toArray=((xs.toList.drop i).take k).toArray:=by
 have e:(λ(m:Nat)=>xs[((i:Int)+(m:Int)*1).toNat]?)=λm=>xs[i+m]?:=by
  funext m;have:((i:Int)+(m:Int)*1).toNat=i+m:=by lia
  rw[this]
 rw[e];have:=pick_run xs i k;rw[List.filterMap_map]at this;have a:((λx=>xs[x]?) ∘ λx=>i+x)=λm=>xs[i+m]?:=rfl;rw[a]at this;rw[this]
theorem yI{t sl:Y9}{items:U9}{vl vu:W8}{Q:U2}(ht:IsTup s.heap t items)(hs:s.heap.IsSliceOf sl vl vu .none)(pl:IsPart vl lo)(pu:IsPart vu hi)
  (hw:¬ (CN items.size 0 lo=0/\CN items.size items.size hi=items.size))
  (h:Q (.ref s.heap.objs.size) {s with heap:=s.heap.push { cls:=.type "tuple",data:=.seq ((items.toList.drop (CN items.size 0 lo)).take (CN items.size items.size hi-CN items.size 0 lo)).toArray}})
  (hsz:items.size<=sizeLine):wpAny (model prog w) A (getItem (.ref t) (.ref sl)) Q E s:=by
 have a:sizeOk (.seq ((items.toList.drop (CN items.size 0 lo)).take (CN items.size items.size hi-CN items.size 0 lo)).toArray):=by
  show ((items.toList.drop (CN items.size 0 lo)).take (CN items.size items.size hi-CN items.size 0 lo)).toArray.size<=sizeLine;rw[DQ,JG,OD,Dz];lia
 have j:CN items.size items.size hi<=items.size:=X4z _ _ (BX _) hi;obtain⟨os,c,d,f⟩:=id hs;have e:s.TypeIs (.ref sl) "slice":=⟨os,c,d⟩;unfold getItem;try with_reducible refine K5 ?_
 first | refine Az (CP ?_) | skip
 refine Az (wpAny_sequenceKey ht.typeIs (by decide) ?_)
 refine Az (mX (name:=Str.ofString "__getitem__") ht.typeIs PyProof.Rows.slot_tuple_getitem
  (ZV PyProof.Rows.slot_tuple_getitem ht.typeIs entry_tuple_getitem ?_ (args_tuple_getitem _ _)))
 show wpAny _ _ (Builtin.Tuple.tupleItemsOf (.ref t) >>= _) _ _ s;refine Az (tupleItemsOf_ ht ?_);refine Az (wpAny_typeOf e ?_);rw[if_pos (by decide)];refine Az (yH hs pl pu ?_);have b:¬ ((((CN items.size 0 lo:Nat):Int) == 0 && (1:Int) == 1 && (CN items.size items.size hi-CN items.size 0 lo) == items.size)=true):=by
  intro q;rw[L_,L_]at q;have g:((CN items.size 0 lo:Nat):Int)=0:=Fw q.1.1;have i:CN items.size items.size hi-CN items.size 0 lo=items.size:=Fw q.2;exact hw ⟨by lia,by lia⟩
 show wpAny _ _ (if (((CN items.size 0 lo:Nat):Int) == 0 && (1:Int) == 1 && (CN items.size items.size hi-CN items.size 0 lo) == items.size)=true then _ else _) _ _ s;rw[if_neg b,zU];first
  | exact Az (m:=Builtin.Tuple.tupleExact _) (Ob (CP ⟨_,rfl,CP h⟩) a)
  | exact Az (m:=Builtin.Tuple.tupleExact _) (Ob (Az (CP (CP ⟨_,rfl,CP h⟩))) a)
  | exact Az (Az (m:=Builtin.Tuple.tupleExact _) (Ob (CP (CP ⟨_,rfl,CP h⟩)) a))
  | exact Az (Az (m:=Builtin.Tuple.tupleExact _) (Ob (CP ⟨_,rfl,CP h⟩) a))
end
end HT
namespace L2
abbrev TO:=St->Hp->(Option Int->Hp->Prop)->Prop
def PO (X:Cx)(e:Option Expr)(t:TO):Prop :=
 ∀(pins:U1) (s:U7) (σ:St) (H:Hp) (Q:Option Int->Hp->Prop),Inv X pins σ H s->t σ H Q ->
  wpAny (model X.prog X.w) X.A (evalPart e X.env) (λu s'=>∃o H',Inv X pins σ H' s'/\IsPart u o/\Q o H') X.xe s
def X0x:TO:=λ_ H Q=>Q none H
def R6 (t:TE):TO:=λσ H Q=>t σ H λx H1=>∃i,x=.int i/\Q (some i) H1
theorem Ma{ns:U6}:∀{us:U5},Vals (ns.map V.int) us->IntsAre us ns:=by
 induction ns with
 | nil=>intro us r;rw[TQ]at r;cases r;exact .nil
 | cons n ns ih =>
  intro us r;rw[Jh]at r;cases r with
  | cons r1 r2 =>
   obtain⟨t,e⟩:=r1;subst e;exact .cons n t (ih r2)
section
variable {X:Cx}{e:Expr}{te:TE}{lo hi:Option Expr}{tl th:TO}{pos p2:Pos}
theorem NP:PO X none X0x:=by
 intro pins s σ H Q I h;rw[evalPart_none];exact CP ⟨none,H,I,.none,h⟩
theorem NQ(h:PE X e te):PO X (some e) (R6 te):=by
 intro pins s σ H Q I c;rw[evalPart_some];refine Bl (h pins s σ H _ I c) λu f ⟨x,H1,b,d,a⟩=>?_;obtain⟨i,rfl,q⟩:=a;obtain⟨t,rfl⟩:=d;exact⟨some i,H1,b,.int i t,q⟩
def lK (X:Cx)(r:V->Option Int->Option Int->Hp->VK->Prop):Prop :=
 ∀(pins:U1) (s:U7) (σ:St) (H:Hp) (x:V) (v vl vu:W8) (lo hi:Option Int) (sl:Y9) (Q:VK),Inv X pins σ H s->RelV x v->s.heap.IsSliceOf sl vl vu .none->IsPart vl lo->IsPart vu hi->r x lo hi H Q ->
  ∃T id,typeLookup (.type T) "__getitem__"=pure (some (.builtin id))/\s.TypeIs v T/\wpAny (model X.prog X.w) X.A (getItem v (.ref sl)) (EP X pins σ Q) X.xe s
def vg (r:V->Option Int->Option Int->Hp->VK->Prop)(te:TE)(tl th:TO):TE:=λσ H Q=>te σ H λx H1=>tl σ H1 λl H2=>th σ H2 λu H3=>r x l u H3 Q
theorem Nb{r:V->Option Int->Option Int->Hp->VK->Prop}(hr:lK X r)(he:PE X e te)(hl:PO X lo tl)(hu:PO X hi th):PE X (.Subscript e (.Slice lo hi none p2) pos) (vg r te tl th):=by
 intro pins s σ H Q I h;refine Subscript_ (Bl (he pins s σ H _ I h) λv o ⟨x,H1,p,t,g⟩=>?_);refine wpAny_Slice (Bl (hl pins o σ H1 _ p g) λc n ⟨l,H2,B,j,i⟩=>Bl (hu pins n σ H2 _ B i) λd a ⟨u,f,I3,k,m⟩=>?_);rw[evalPart_none];refine CP ?_;have y:Inv X pins σ f {a with heap:=a.heap.push { cls:=.type "slice",data:=.fields #[c,d,.none]}}:=I3.kept (t':=a.toks) λb E q=>DR _ q;obtain⟨T,id,D,z,C⟩:=hr pins {a with heap:=a.heap.push { cls:=.type "slice",data:=.fields #[c,d,.none]}} σ f x v c d l u a.heap.objs.size Q y t (Heap.IsSliceOf.new ..) j k m;show wpAny (model X.prog X.w) X.A (subscriptTail e (.Slice lo hi none p2) v (.ref a.heap.objs.size)) (EP X pins σ Q) X.xe {a with heap:=a.heap.push { cls:=.type "slice",data:=.fields #[c,d,.none]}};exact tail_any (ops:=[.ref a.heap.objs.size,v]) z D C (by with_unfolding_all rfl)
noncomputable def EY (xs:List V)(lo hi:Option Int):List V:=(xs.drop (HT.CN xs.length 0 lo)).take (HT.CN xs.length xs.length hi-HT.CN xs.length 0 lo)
theorem o8(xs:List V)(lo hi:Option Int):(EY xs lo hi).length<=xs.length:=by
 unfold EY;rw[JG,OD];lia
def ZC (K:U0):V->Option Int->Option Int->Hp->VK->Prop:=λx lo hi H Q=>∃a xs,x=.ref a/\Ah K H a xs /\
 ¬ (HT.CN xs.length 0 lo=0/\HT.CN xs.length xs.length hi=xs.length)/\∀p,H p=none->Q (.ref p) (upd H p (.tup (EY xs lo hi)))
theorem RW:lK X (ZC X.K):=by
 intro pins s σ H x v m p lo hi t Q I j k f g h;obtain⟨a,xs,rfl,l,i,q⟩:=h;cases j;obtain⟨its,r,d,e⟩:=I.tuple l;have c:its.toArray.size=xs.length:=by rw[DQ];exact r.length.symm
 refine⟨"tuple",_,PyProof.Rows.slot_tuple_getitem.lookup,d.typeIs,?_⟩;refine HT.yI d k f g (by rw[c];exact i) ?_ (by rw[c];exact e);rw[c];refine⟨.ref s.heap.objs.size,_,I.laid (t':=s.toks) (o:=.tup (EY xs lo hi)) (λb n q=>DR _ q) (BX _) ?_,U,q _ (I.hok.fresh (BX _))⟩;exact⟨CZ (o8 xs lo hi) e,_,(r.drop (HT.CN xs.length 0 lo)).take (HT.CN xs.length xs.length hi-HT.CN xs.length 0 lo),IsTup.new _ _⟩
def Sw (K:U0):R2:=λx y H Q=>∃a b xs ys,x=.ref a/\y=.ref b/\Ah K H a xs/\Ah K H b ys/\xs≠[]/\xs.length+ys.length<=sizeLine /\
 (ys=[]->Q (.ref a) H)/\(ys≠[]->∀p,H p=none->Q (.ref p) (upd H p (.tup (xs++ys))))
theorem Vals.nil_iff{xs:List V}{us:U5}(r:Vals xs us):us=[]↔xs=[]:=by
 cases r with
 | nil=>simp
 | cons _ _=>simp
theorem X2b:DP X (binaryOp .Add) (Sw X.K):=by
 intro pins s σ H x y v u Q I m k h;obtain⟨a,b,xs,ys,rfl,rfl,j,n,p,f,g,i⟩:=h;cases m;cases k;obtain⟨its,d,l,_⟩:=I.tuple j;obtain⟨e,c,p2,_⟩:=I.tuple n;refine HT.X3s l p2 (λz=>p (d.nil_iff.mp z)) (λz=>⟨.ref a,H,I,U,g (c.nil_iff.mp z)⟩) (λz=>?_) (by rw[<-d.length,<-c.length];exact f);refine⟨.ref s.heap.objs.size,_,I.laid (t':=s.toks) (o:=.tup (xs++ys)) (λb r q=>DR _ q) (BX _) ?_,U,i (λw=>z (c.nil_iff.mpr w)) _ (I.hok.fresh (BX _))⟩;exact⟨by rw[DN];exact f,_,d.append c,IsTup.new _ _⟩
end
noncomputable def M6 (n:Nat)(i:Int):Option Nat:=if 0<=i then (if i<n then some i.toNat else none) else if -(n:Int)<=i then some (i+n).toNat else none
noncomputable def Le {α:Type}(xs:List α)(i:Int):Option α:=(M6 xs.length i).bind λj=>xs[j]?
variable{n j:Nat}{i:Int}
theorem qd(h:M6 n i=some j):seqIndex? i n=some j/\j<n/\-(n:Int)<=i/\i<n:=by
 unfold M6 at h;by_cases h0:0<=i
 ·rw[if_pos h0]at h;by_cases h1:i<n
  ·rw[if_pos h1]at h;have e:i.toNat=j:=Option.some.inj h;exact⟨by rw[seqIndex_of h0 h1,e],by lia,by lia,h1⟩
  ·rw[if_neg h1]at h;cases h
 ·rw[if_neg h0]at h;by_cases h1:-(n:Int)<=i
  ·rw[if_pos h1]at h;have e:(i+n).toNat=j:=Option.some.inj h;exact⟨by rw[gU (by lia) h1,e],by lia,h1,by lia⟩
  ·rw[if_neg h1]at h;cases h
variable{α:Type}
theorem qP{xs:List α}{v:α}(h:Le xs i=some v):∃j,seqIndex? i xs.length=some j/\xs[j]?=some v/\j<xs.length/\-(xs.length:Int)<=i/\i<xs.length:=by
 unfold Le at h;cases e:M6 xs.length i with
 | none=>rw[e]at h;cases h
 | some j =>
  rw[e]at h;obtain⟨h1,h2,a,b⟩:=qd e;exact⟨j,h1,h,h2,a,b⟩
theorem Ju{xs:List α}{v:α}(h:xs[j]?=some v):Le xs (j:Int)=some v:=by
 have a:j<xs.length:=(DW.mp h).1;have e:M6 xs.length (j:Int)=some j:=by
  unfold M6;rw[if_pos (by lia),if_pos (by lia)];simp
 unfold Le;rw[e];exact h
def X3z (b:Expr):Prop:=∀o i,subscripted b false o i=operate [o,i] (getItem o i)
def Ql (X:Cx)(r:R2):Prop :=
 ∀(value slice:Expr) (pins:U1) (s:U7) (σ:St) (H:Hp) (x y:V) (v u:W8) (Q:VK),Inv X pins σ H s->RelV x v->RelV y u->r x y H Q ->
  subscripted slice false v u=operate [v,u] (getItem v u)->wpAny (model X.prog X.w) X.A (subscriptTail value slice v u) (EP X pins σ Q) X.xe s
def lM (X:Cx)(id:String)(r:V->List V->Hp->VK->Prop):Prop :=
 ∀(pins:U1) (s:U7) (σ:St) (H:Hp) (x:V) (xs:List V) (v:W8) (us:U5) (Q:VK),Inv X pins σ H s->RelV x v->Vals xs us->r x xs H Q ->
  wpAny (model X.prog X.w) X.A (call (.builtin id) (v::us)) (EP X pins σ Q) X.xe s
section
variable {X:Cx}{a b:Expr}{ta tb:TE}{pos:Pos}
theorem Ak{r:R2}(hr:Ql X r)(ha:PE X a ta)(hb:PE X b tb)(hs:X3z b):PE X (.Subscript a b pos) (Ej r ta tb):=by
 intro pins s σ H Q I h;exact Subscript_ (QF ha hb I h λv u d x y H2 f c e q=>hr a b pins d σ H2 x y v u Q f c e q (hs _ _))
def PN (K:U0):R2:=λx y H Q=>∃p xs i v,x=.ref p/\y=.int i/\Ai K H p xs/\Le xs i=some v/\Q v H
def PL (K:U0):R2:=λx y H Q=>∃p xs i v,x=.ref p/\y=.int i/\Ah K H p xs/\Le xs i=some v/\Q v H
theorem Dy:Ql X (PN X.K):=by
 intro value b pins s σ H x y v u Q I A m h f;obtain⟨p,xs,i,z,rfl,rfl,n,o,q⟩:=h;cases A;obtain⟨t,rfl⟩:=m;obtain⟨its,r,a,D⟩:=I.list n;obtain⟨j,h1,h2,C,l,k⟩:=qP o;obtain⟨w,e,d⟩:=r.get h2;have g:=r.length;have B:=Gp;have fin:EP X pins σ Q w s:=⟨z,H,I,d,q⟩;by_cases h0:0<=i
 ·have c:i.toNat=j:=by
   rw[seqIndex_of h0 k]at h1;exact Option.some.inj h1
  exact item_listR a.isList h0 (by lia) (by rw[c];simpa using e) fin f
 ·have c:(i+(its.toArray.size:Int)).toNat=j:=by
   rw[gU (by lia) l]at h1;rw[DQ,<-g];exact Option.some.inj h1
  exact mK (x:=w) a.isList.typeIs slot_list_getitem.lookup
   (wpAny_getItem_list_neg (Q:=λr s'=>r=w/\EP X pins σ Q r s') a.isList (by lia) (by rw[DQ]<;>lia) (by lia) (by rw[c];simpa using e) ⟨U,fin⟩) f
theorem Ax:Ql X (PL X.K):=by
 intro value a pins s σ H x y v u Q I l f h m;obtain⟨p,xs,i,z,rfl,rfl,g,k,q⟩:=h;cases l;obtain⟨t,rfl⟩:=f;obtain⟨its,r,c,C⟩:=I.tuple g;obtain⟨j,h1,h2,B,A,n⟩:=qP k;obtain⟨w,d,b⟩:=r.get h2;have e:=r.length;have o:=Gp;have fin:EP X pins σ Q w s:=⟨z,H,I,b,q⟩;exact mK (x:=w) c.typeIs slot_tuple_getitem.lookup
  (getItem_tuple (j:=j) (Q:=λr s'=>r=w/\EP X pins σ Q r s') c (by lia) (by lia) (by rw[DQ,<-e];exact h1) (by simpa using d) ⟨U,fin⟩) m
theorem Y2g(its:U5)(n j:Nat)(u:W8):Obj.mapSeq (·.setIfInBounds j u) { cls:=.type "list",data:=.seq its.toArray n}={ cls:=.type "list",data:=.seq (its.set j u).toArray n}:=by
 simp[Obj.mapSeq]
theorem Inv.lst{pins:U1}{σ:St}{H:Hp}{s:U7}{p:Y9}{xs:List V}(I:Inv X pins σ H s)(h:H p=some (.lst xs)):
  ∃(its:U5) (n:Nat),Vals xs its/\s.heap.get? p=some { cls:=.type "list",data:=.seq its.toArray n}/\xs.length<=sizeLine:=by
 obtain⟨z,its,n,r,e⟩:=I.hok p _ h;exact⟨its,n,r,e,z⟩
theorem Inv.lstUpd{pins:U1}{σ:St}{H:Hp}{s:U7}{p:Y9}{xs ys:List V}{its its':U5}{n':Nat}{f:Obj->Obj}(I:Inv X pins σ H s)(h:H p=some (.lst xs))
  (ho:s.heap.get? p=some { cls:=.type "list",data:=.seq its.toArray n}) (hf:f { cls:=.type "list",data:=.seq its.toArray n}={ cls:=.type "list",data:=.seq its'.toArray n'}) (r:Vals ys its') (hz:ys.length<=sizeLine) (t:Nat):
  Inv X pins σ (upd H p (.lst ys)) {s with heap:=s.heap.update p f,toks:=t}:=by
 have e:(s.heap.update p f).get? p=some { cls:=.type "list",data:=.seq its'.toArray n'}:=by
  rw[RB f ho (by rw[hf]<;>rfl),hf]
 refine I.write (x:=p) (e:=p) (by rw[h];trivial) (.inl rfl) (λb u a q=>(Px _ _ (Ne.symm a)).trans q) ⟨_,e⟩ ?_;exact⟨hz,its',n',r,e⟩
def Sq:V->V->V->Hp->(Hp->Prop)->Prop:=λo i v H Q=>∃p xs k j,o=.ref p/\i=.int k/\H p=some (.lst xs)/\M6 xs.length k=some j/\Q (upd H p (.lst (xs.set j v)))
theorem Xo:WD X Sq:=by
 intro pins s σ H o i v y iv u Q I l x m h;obtain⟨p,xs,k,j,rfl,rfl,hp,g,q⟩:=h;cases l;obtain⟨t,rfl⟩:=x;obtain⟨its,n,r,c,w⟩:=I.lst hp;obtain⟨h1,h2,f,d⟩:=qd g;have a:=r.length;have z:=Gp;have e:Inv X pins σ (upd H p (.lst (xs.set j v))) {s with heap:=s.heap.update p (Obj.mapSeq (·.setIfInBounds j u))} :=
  I.lstUpd hp c (Y2g its n j u) (r.set m j) (by rw[List.length_set];exact w) s.toks
 by_cases h0:0<=k
 ·have b:k.toNat=j:=by
   rw[seqIndex_of h0 d]at h1;exact Option.some.inj h1
  exact PySem.W.ki_setAt c h0 (by lia) (by rw[DQ,<-a];exact d) (by rw[b];exact⟨_,e,q⟩)
 ·have b:(k+(its.toArray.size:Int)).toNat=j:=by
   rw[gU (by lia) f]at h1;rw[DQ,<-a];exact Option.some.inj h1
  exact PySem.W.ki_setBack c (by lia) (by rw[DQ,<-a];exact f) (by lia) (by rw[b];exact⟨_,e,q⟩)
theorem xq(lo hi:Option Int)(n:Nat):(sliceBounds lo hi none n).1=((HT.CN n 0 lo:Nat):Int)/\(sliceBounds lo hi none n).2.1=((HT.CN n n hi:Nat):Int)/\(sliceBounds lo hi none n).2.2=1:=by
 refine⟨?_,?_,U⟩
 ·cases lo with
  | none=>simp[sliceBounds,HT.CN]
  | some i =>
   simp only[sliceBounds,HT.CN,Option.getD_none,show (1:Int)>0 by decide,HX];by_cases h:i<0
   ·simp only[h,HX]<;>lia
   ·simp only[h,JZ]<;>lia
 ·cases hi with
  | none=>simp[sliceBounds,HT.CN]
  | some i =>
   simp only[sliceBounds,HT.CN,Option.getD_none,show (1:Int)>0 by decide,HX];by_cases h:i<0
   ·simp only[h,HX]<;>lia
   ·simp only[h,JZ]<;>lia
theorem yE(its:U5)(lo hi:Option Int):slicePick its.toArray lo hi none=((its.drop (HT.CN its.length 0 lo)).take (HT.CN its.length its.length hi-HT.CN its.length 0 lo)).toArray:=by
 obtain⟨h1,h2,a⟩:=xq lo hi its.toArray.size;unfold slicePick;rw[h1,h2,a];simp only[sliceRange_one,pick_run,DQ]<;>rfl
def ZD (K:U0):V->Option Int->Option Int->Hp->VK->Prop:=λx lo hi H Q=>∃a xs,x=.ref a/\Ai K H a xs/\∀p,H p=none->Q (.ref p) (upd H p (.lst (EY xs lo hi)))
theorem iw:lK X (ZD X.K):=by
 intro pins s σ H x v l n lo hi p Q I i j e f h;obtain⟨a,xs,rfl,k,q⟩:=h;cases i;obtain⟨its,r,d,g⟩:=I.list k;have c:=r.length;refine⟨"list",_,slot_list_getitem.lookup,d.isList.typeIs,?_⟩;refine wpAny_getItem_list_slice d.isList j e f .none (by simp) ?_ (by rw[DQ]<;>lia);rw[yE,<-c];refine⟨.ref s.heap.objs.size,_,I.laid (t':=s.toks) (o:=.lst (EY xs lo hi)) (λb m q=>DR _ q) (BX _) ?_,U,q _ (I.hok.fresh (BX _))⟩;exact⟨CZ (o8 xs lo hi) g,_,0,(r.drop (HT.CN xs.length 0 lo)).take (HT.CN xs.length xs.length hi-HT.CN xs.length 0 lo),FT _ rfl⟩
theorem Fb:CW X (.builtin "len") (λxs H Q=>∃p ys,xs=[.ref p]/\(Ai X.K H p ys\/Ah X.K H p ys)/\Q (.int ys.length) H):=by
 intro pins s σ H xs us Q I r h;obtain⟨p,ys,rfl,b,q⟩:=h;obtain⟨u,rfl,f⟩:=vals1 r;cases f;have g:=Gp;rcases b with b | b
 ·obtain⟨its,d,c,e⟩:=I.list b;have a:=d.length;exact Calls.call_len_list c.isList (by simp only[DQ]<;>lia) ⟨.int ys.length,H,I.tok _,⟨s.toks+1,by rw[DQ,a]⟩,q⟩
 ·obtain⟨its,d,c,e⟩:=I.tuple b;have a:=d.length;exact len_tuple c (by simp only[DQ]<;>lia) ⟨.int ys.length,H,I.tok _,⟨s.toks+1,by rw[DQ,a]⟩,q⟩
theorem X5:CW X (.type "list") (λxs H Q=>∃p ys,xs=[.ref p]/\(Ai X.K H p ys\/Ah X.K H p ys)/\∀l,H l=none->Q (.ref l) (upd H l (.lst ys))):=by
 intro pins s σ H xs us Q I r h;obtain⟨p,ys,rfl,d,q⟩:=h;obtain⟨u,rfl,m⟩:=vals1 r;cases m;have fin:∀(its:U5),Vals ys its->ys.length<=sizeLine->∀(h':Heap) (c':Nat),(∀b o',s.heap.get? b=some o'->h'.get? b=some o') ->
   h'.get? s.heap.objs.size=some { cls:=.type "list",dict:=none,data:=.seq its.toArray c',slots:=#[]}->EP X pins σ Q (.ref s.heap.objs.size) {s with heap:=h'}:=λits a f h' c' kp e =>
  ⟨.ref s.heap.objs.size,_,I.laid (t':=s.toks) kp (BX _) (show Bc X.prog X.w _ h' _ (.lst ys) from ⟨f,its,c',a,e⟩),U,q _ (I.hok.fresh (BX _))⟩
 rcases d with d | d
 ·obtain⟨its,a,g,f⟩:=I.list d;have c:=a.length;obtain⟨o,k,i,n,j⟩:=g.isList;exact call_list_seq p (.inl rfl) k i j (λh' c' kp e=>fin its a f h' c' kp e) (by simp only[DQ]<;>lia)
 ·obtain⟨its,a,g,f⟩:=I.tuple d;have c:=a.length;obtain⟨o,k,i,n,j⟩:=g;exact call_list_seq p (.inr rfl) k i j (λh' c' kp e=>fin its a f h' c' kp e) (by simp only[DQ]<;>lia)
theorem xu:CW X (.type "tuple") (λxs H Q=>∃p ys,xs=[.ref p]/\((Ai X.K H p ys/\∀l,H l=none->Q (.ref l) (upd H l (.tup ys)))\/(Ah X.K H p ys/\Q (.ref p) H))):=by
 intro pins s σ H xs us Q I r h;obtain⟨p,ys,rfl,h⟩:=h;obtain⟨u,rfl,j⟩:=vals1 r;cases j;rcases h with ⟨hq,q⟩ | ⟨hq,q⟩
 ·obtain⟨its,c,a,g⟩:=I.list hq;have d:=c.length;refine call_tuple_list a.isList (λh' kp=>?_) (by simp only[DQ]<;>lia);have f:Inv X pins σ H {s with heap:=h'}:=I.kept (t':=s.toks) kp;have i:Inv X pins σ (upd H h'.objs.size (.tup ys)) {s with heap:=h'.push { cls:=.type "tuple",data:=.seq its.toArray}} :=
   f.laid (t':=s.toks) (λb o e=>DR _ e) (BX _) (show Bc X.prog X.w _ _ _ (.tup ys) from ⟨g,its,c,IsTup.new _ _⟩)
  exact⟨.ref h'.objs.size,_,i,U,q _ (f.hok.fresh (BX _))⟩
 ·obtain⟨its,c,a,g⟩:=I.tuple hq;exact call_tuple_same a ⟨.ref p,H,I,U,q⟩
def Yn (K:U0)(T:String)(x:V)(H:Hp):Prop:=match x with
 | .str _=>T="str"
 | .int _=>T="int"
 | .ref p=>(T="list"/\∃xs,Ai K H p xs)\/(T="tuple"/\∃o,K.lookup p=some o/\o.cls=.type "tuple"/\o.dict=none) \/
   (T="dict"/\((∃kvs,H p=some (.dK kvs))\/∃kvs,H p=some (.dT kvs)))\/(T="set"/\∃S n,H p=some (.set S n))
 | _=>False
theorem qC{pins:U1}{σ:St}{H:Hp}{s:U7}{T:String}{x:V}{v:W8}(I:Inv X pins σ H s)(r:RelV x v)(ty:Yn X.K T x H):
  s.TypeIs v T/\∀a,v=.ref a->∃ob,s.heap.get? a=some ob/\ob.dict=none:=by
 cases x with
 | str z =>
  obtain⟨t,rfl⟩:=r;cases (show T="str" from ty);exact⟨typeIs_str s z t,λ_ e=>nomatch e⟩
 | int i =>
  obtain⟨t,rfl⟩:=r;cases (show T="int" from ty);exact⟨XJ s i t,λ_ e=>nomatch e⟩
 | ref p =>
  cases r;rcases ty with ⟨rfl,xs,hq⟩ | ⟨rfl,o,hk,hc,d⟩ | ⟨rfl,hk⟩ | ⟨rfl,S,n,hk⟩
  ·obtain⟨its,_,f,_⟩:=I.list hq;refine⟨f.isList.typeIs,λa e=>?_⟩;cases e;obtain⟨o,n,e,c,d,_⟩:=f;exact⟨o,e,d⟩
  ·refine⟨⟨o,I.kIn p o hk,hc⟩,λa e=>?_⟩;cases e;exact⟨o,I.kIn _ o hk,d⟩
  ·have z:∃o,s.heap.get? p=some o/\o.ExactDict:=by
    rcases hk with ⟨kvs,hk⟩ | ⟨kvs,hk⟩
    ·obtain⟨_,_,_,_,o,_,_,e,ex,_⟩:=I.hok p _ hk;exact⟨o,e,ex⟩
    ·obtain⟨_,_,_,_,o,_,_,e,ex,_⟩:=I.hok p _ hk;exact⟨o,e,ex⟩
   obtain⟨o,e,ex⟩:=z;refine⟨⟨o,e,ex.1⟩,λa b=>?_⟩;cases b;exact⟨o,e,ex.2.1⟩
  ·obtain⟨o,_,_,_,e,ex,_⟩:=I.hok p _ hk;refine⟨⟨o,e,ex.1⟩,λa b=>?_⟩;cases b;exact⟨o,e,ex.2.1⟩
 | _=>exact False.elim ty
def Yw (K:U0)(T:String)(r:V->List V->Hp->VK->Prop)(to:TE):TE:=λσ H Q=>to σ H λx H1=>Yn K T x H1/\r x [] H1 Q
def vm (K:U0)(T:String)(r:V->List V->Hp->VK->Prop)(to:TE)(t:TA):TE:=λσ H Q=>to σ H λx H1=>Yn K T x H1/\t σ H1 λxs H2=>r x xs H2 Q
variable {o e:Expr}{es:List Expr}{to:TE}{t:TA}{name:Str}{apos cpos:Pos}{T id:String}{r:V->List V->Hp->VK->Prop}
theorem ju(pa:PlainAttrs T)(slot:Slot T name id)(hty:typeOf (.builtin id)=pure (.type "method_descriptor"))(hm:lM X id r)(ho:PE X o to)
  (hbase:attributeBase o name X.env (eval o X.env)=eval o X.env:=by rfl) (hline:(apos.endLine == cpos.line)=true:=by rfl):PE X (.Call (.Attribute o name apos) [] [] cpos) (Yw X.K T r to):=by
 intro pins s σ H Q I h;refine wpAny_Call_method0_late hbase hline (Bl (ho pins s σ H _ I h) λv d ⟨x,H1,a,b,ty,c⟩=>?_);obtain⟨h1,h2⟩:=qC a b ty;exact⟨T,id,pa,slot,hty,h1,h2,Calls.callWith_builtin rfl (PySem.evalArgs_none (hm pins d σ H1 x [] v [] Q a b .nil c))⟩
theorem V9(pa:PlainAttrs T)(slot:Slot T name id)(hty:typeOf (.builtin id)=pure (.type "method_descriptor"))(hm:lM X id r)(ho:PE X o to)(ha:PA X (e::es) t)
  (hbase:attributeBase o name X.env (eval o X.env)=eval o X.env:=by rfl)
  (hfew:((backTo cpos (starEach (e::es) X.env)).all (λx=>!x.1) && (backToKw cpos (keywordEach [] X.env)).all (λx=>x.1.isSome)
   && decide ((e::es).length+([]:List Keyword).length+(if ([]:List Keyword).isEmpty then 0 else 1)<30))=true:=by rfl)
  (hline:(apos.endLine == cpos.line)=true:=by rfl) (hs:starEach (e::es) X.env=(false,eval e X.env)::starEach es X.env:=by rfl) (hplain:(backTo cpos (starEach es X.env)).any (·.1)=false:=by rfl):
  PE X (.Call (.Attribute o name apos) (e::es) [] cpos) (vm X.K T r to t):=by
 intro pins s σ H Q I h;refine wpAny_Call_method_late hbase hfew hline rfl (Bl (ho pins s σ H _ I h) λv j ⟨x,H1,b,c,ty,d⟩=>?_);obtain⟨h1,h2⟩:=qC b c ty;refine⟨T,id,pa,slot,hty,h1,h2,?_⟩;have a:=ha cpos pins j σ H1 _ b d;rw[hs]at a ⊢;refine Calls.callWith_builtin (by show (false || (backTo cpos (starEach es X.env)).any (·.1))=false;rw[hplain]<;>rfl) (Calls.evalArgs_plain ?_);exact Bl a λus i ⟨vs,H2,k,g,f⟩=>hm pins i σ H2 x vs v us Q k c g f
end
def MtM (X:Cx)(id:String)(r:V->List V->Hp->VK->Prop):Prop :=
 ∀(pins:U1) (s:U7) (σ:St) (H:Hp) (x:V) (xs:List V) (v:W8) (us:U5) (Q:VK),Inv X pins σ H s->RelV x v->Vals xs us->r x xs H Q ->
  wpAny (model X.prog X.w) X.A (call (.builtin id) (v::us)) (EP X pins σ Q) X.xe s
theorem Vals.one{x:V}{us:U5}(h:Vals [x] us):∃u,us=[u]/\RelV x u:=by
 cases h with
 | cons r t=>cases t;exact⟨_,rfl,r⟩
theorem Vals.two{x y:V}{us:U5}(h:Vals [x,y] us):∃u v,us=[u,v]/\RelV x u/\RelV y v:=by
 cases h with
 | cons r t=>cases t with
  | cons q t=>cases t;exact⟨_,_,rfl,r,q⟩
theorem Vals.rep{xs:List V}{us:U5}(h:Vals xs us):∀k:Nat,Vals (List.replicate k xs).flatten (List.replicate k us).flatten
 | 0=>.nil
 | k+1=>by
  rw[Pr,Pr,UW,UW];exact Vals.append h (Vals.rep h k)
theorem oF(its:U5):∀(k:Nat) (acc:U5),
  List.foldl (λx1 x2=>x1++x2) acc.toArray (List.replicate k its.toArray)=(acc++(List.replicate k its).flatten).toArray
 | 0,acc=>by simp
 | k+1,acc=>by
  have e:acc.toArray++its.toArray=(acc++its).toArray:=by simp
  have a:(acc++its)++(List.replicate k its).flatten=acc++(List.replicate (k+1) its).flatten:=by
   rw[Pr,UW,K8]
  rw[<-a,<-oF its k (acc++its),<-e,Pr,List.foldl_cons]
section
variable {X:Cx}{pins:U1}{σ:St}{H:Hp}{s:U7}{l b:Y9}{xs ys zs:List V}
theorem Inv.lset{its its':U5}{f:Array Value->Array Value}{t':Nat}(I:Inv X pins σ H s)(hH:H l=some (.lst xs))
  (e:s.heap.get? l=some { cls:=.type "list",data:=.seq its.toArray n}) (hf:f its.toArray=its'.toArray) (hv:Vals ys its') (hz:ys.length<=sizeLine):
  Inv X pins σ (upd H l (.lst ys)) {s with heap:=s.heap.update l (Obj.mapSeq f),toks:=t'}:=by
 have q:=PySem.IsL.update e f;rw[hf]at q;refine I.write (x:=l) (e:=l) (by rw[hH];exact trivial) (.inl rfl) (λb' u b a=>(Px s.heap (Obj.mapSeq f) (Ne.symm b)).trans a) ⟨_,q⟩ ?_;exact⟨hz,its',_,hv,q⟩
theorem Inv.lnew{its:U5}{t':Nat}(I:Inv X pins σ H s)(hv:Vals ys its)(hz:ys.length<=sizeLine):
  Inv X pins σ (upd H s.heap.objs.size (.lst ys)) {s with heap:=s.heap.push { cls:=.type "list",data:=.seq its.toArray},toks:=t'} :=
 I.laid (λ_ _ q=>DR _ q) (BX _) ⟨hz,its,0,hv,FT _ rfl⟩
theorem Inv.fresh(I:Inv X pins σ H s):H s.heap.objs.size=none:=I.hok.fresh (BX _)
theorem Inv.lstM(I:Inv X pins σ H s)(hH:H l=some (.lst xs)):xs.length<=sizeLine/\∃(its:U5) (n:Nat),Vals xs its/\xs.length=its.length/\s.heap.get? l=some { cls:=.type "list",data:=.seq its.toArray n}:=by
 obtain⟨z,its,n,r,e⟩:=I.hok l _ hH;exact⟨z,its,n,r,r.length,e⟩
theorem yX(h:n<=sizeLine):Builtin.List.listTooLong n=false:=by
 unfold Builtin.List.listTooLong;exact Dl (by lia)
end
section
variable {X:Cx}
def X1k:V->List V->Hp->VK->Prop:=λx vs H Q=>∃l xs y,x=.ref l/\vs=[y]/\H l=some (.lst xs)/\xs.length<sizeLine/\Q .non (upd H l (.lst (xs++[y])))
theorem Qd:MtM X "list.append" X1k:=by
 intro pins s σ H x vs v us Q I d c h;obtain⟨l,xs,y,rfl,rfl,a,g,q⟩:=h;cases d;obtain⟨u,rfl,b⟩:=c.one;obtain⟨z,its,n,r,f,e⟩:=I.lstM a;refine call_meets F.slot_list_append ⟨_,e,U⟩ F.entry_list_append (F.args_list_append_2 _ _) (PySem.list_append l its.toArray n u (by rw[DQ];lia)) ⟨e,?_⟩;refine⟨.non,_,I.lset (its':=its++[u]) a e (by simp) (r.append (.cons b .nil)) ?_,U,q⟩;rw[DN,J7];lia
def X7y:V->List V->Hp->VK->Prop:=λx vs H Q=>∃l b xs zs,x=.ref l/\vs=[.ref b]/\H l=some (.lst xs)/\H b=some (.lst zs)/\xs.length+zs.length<=sizeLine/\Q .non (upd H l (.lst (xs++zs)))
def ZG:R2:=λx y H Q=>∃l b xs zs,x=.ref l/\y=.ref b/\H l=some (.lst xs)/\H b=some (.lst zs)/\xs.length+zs.length<=sizeLine/\∀p,H p=none->Q (.ref p) (upd H p (.lst (xs++zs)))
theorem YS:DP X (binaryOp .Add) ZG:=by
 intro pins s σ H x y v u Q I k i h;obtain⟨l,b,xs,zs,rfl,rfl,g,c,w,q⟩:=h;cases k;cases i;obtain⟨z,its,n,r,p,e⟩:=I.lstM g;obtain⟨o,a,t,d,j,m⟩:=I.lstM c;refine PySem.P.add_list e m ?_ (by rw[DQ,DQ];lia);have f:its.toArray++a.toArray=(its++a).toArray:=by simp
 rw[f];exact⟨.ref _,_,I.lnew (t':=s.toks) (r.append d) (by rw[DN];lia),U,q _ I.fresh⟩
def ZF:R2:=λx y H Q=>∃l k xs,x=.ref l/\y=.int k/\H l=some (.lst xs)/\-(2^63)<=k/\k<2^63/\xs.length*k.toNat<=sizeLine /\
 ∀p,H p=none->Q (.ref p) (upd H p (.lst (List.replicate k.toNat xs).flatten))
theorem X3c(xs:List α)(k:Nat):(List.replicate k xs).flatten.length=k*xs.length:=by
 induction k with
 | zero=>simp
 | succ k ih=>rw[Pr,UW,DN,ih,gP,bU]
theorem jt:DP X (binaryOp .Mult) ZF:=by
 intro pins s σ H x y v u Q I w p h;obtain⟨l,k,xs,rfl,rfl,o,h1,h2,i,q⟩:=h;cases w;obtain⟨t,rfl⟩:=p;obtain⟨z,its,n,r,j,e⟩:=I.lstM o;have f:its.toArray.size*k.toNat<=sizeLine:=by rw[DQ,<-j];exact i
 have g:¬ its.toArray.size*k.toNat>(2^63-1) / 8:=by
  have:(sizeLine:Nat)<=(2^63-1) / 8:=by decide
  lia
 have d:¬ (!Builtin.List.listFitsIndex k)=true:=by
  rw[fitsIndex_both h1 h2];exact Dw
 have b:¬ Builtin.List.listTooLong (its.toArray.size*k.toNat)=true:=by
  rw[yX f];exact Dw
 have c:List.foldl (λx1 x2=>x1++x2) #[] (List.replicate (if its.toArray.isEmpty=true then 0 else k.toNat) its.toArray)=(List.replicate k.toNat its).flatten.toArray:=by
  have f0:∀m:Nat,List.foldl (λx1 x2=>x1++x2) #[] (List.replicate m its.toArray)=(List.replicate m its).flatten.toArray:=λm=>by
   have:=oF its m [];rw[Wc]at this;exact this
  rw[f0];cases its with
  | nil=>simp
  | cons a r'=>rw[if_neg (by simp)]
 refine wpAny_binaryOp_repeat_ref (T:="list") (U:="int") (by decide) ⟨_,e,rfl⟩ (λs'=>XJ s' k t) noFill_list_mul F.fills_int_mul F.slot_int_rmul repeat_list F.slot_int_index.lookup
  (call_meets F.slot_int_rmul (XJ s k t) F.entry_int_rmul (F.args_int_rmul_2 _ _) (int___rmul___int_list k t l its.toArray n)
   ⟨e,rfl,⟨_,e,rfl⟩,call_meets F.slot_list_mul ⟨_,e,rfl⟩ F.entry_list_mul (F.args_list_mul_2 _ _) (AutoListH.list___mul___list_int_3 l its.toArray n k t d g b) ⟨e,?_⟩⟩)
 rw[c];exact⟨.ref _,_,I.lnew (t':=s.toks) (r.rep k.toNat) (by rw[X3c,Nat.mul_comm];exact i),rfl,q _ I.fresh⟩
end
section
variable {prog:U8}{w:W5}{A:Y6}{E:U2}{s:U7}
end
section
variable {X:Cx}
end
end L2
namespace vY
open PySem.W PySem.Calls
variable{P:Params}{h:Heap}
theorem yG:∀(ns:U6) (vs:U5),WellAll P h vs (ns.map WData.int)->IntsAre vs ns:=by
 intro ns;induction ns with
 | nil =>
  intro vs w;rw[TQ]at w;cases w;exact .nil
 | cons n ns ih =>
  intro vs w;rw[Jh]at w;cases w with
  | cons a b =>
   cases a;exact .cons _ _ (ih _ b)
variable{l:OpenLaw}{n:Nat}
theorem Y3o(hn:l.most=some n){args:List WData}{vals:U5}
  (hpre:l.row.toRowW.claim.pre args=true) (hwl:WellAll P h vals args):
  ∃a vs ns,vals=[Value.ref a]/\args=[WData.list (ns.map WData.int)]/\h.get? a=some { cls:=.type "list",data:=.seq vs.toArray}/\IntsAre vs ns/\ns.length<=n:=by
 have f:WShape.hasAll [] args [.list .int]=true:=(pre_splitW hpre).1;have g:l.pre.holds [] { args:=args}=true:=(pre_splitW hpre).2;obtain⟨d,r,rfl,h1,h2⟩:=hasAllW_cons f;obtain rfl:=hasAllW_nil h2;obtain⟨xs,rfl,i⟩:=hasW_list h1;obtain⟨ns,rfl⟩:=items_int i;have b:ns.length<=n:=by
  unfold OpenLaw.pre at g;have c:(WTm.not (.lt (.lit (.int (n:Int))) (.len (.arg 0)))).holds [] { args:=[.list (ns.map .int)]}=true:=by
   have c:=(holds_andW g).1;rw[hn]at c;exact c
  have e:=condW_of c (w_not (w_lt w_lit (w_len_list (w_arg rfl))));rw[BL]at e;refine Nat.le_of_not_lt λq=>?_;have q':(n:Int)<((ns.length:Nat):Int):=by lia
  first
   | (rw[DK q']at e;exact absurd e (by decide))
   | (simp at e;lia)
 cases hwl with
 | cons w1 w2 =>
  cases w2;cases w1 with
  | list ho hall=>exact⟨_,_,ns,rfl,rfl,ho,yG ns _ hall,b⟩
theorem Y3v(l:OpenLaw)(args:List WData):l.row.toRowW.claim.post args (.bool true) args=true :=
 postW_of (r:=l.row.toRowW) (X:=(true == true))
  (show WShape.has [] (.bool true) .bool=true by first | rfl | decide | simp[WShape.has,WShape.arms,WShape.armsAll])
  (show (WTm.eq .res (.lit (.bool true))).value [] { args:=args,res:=some (.bool true),after:=args}=some (.bool (true == true)) from w_eq_bool (w_res rfl) w_lit) rfl
theorem Y0a{q:U8}{loose:W4}{XP:(Str->Option Value)->Heap->Prop}{YP:World->Heap->Prop}{d:DefRec}
  (hn:l.most=some n) (hdf:d.params.defaults=[])
  (call:∀(w:W5) (m b:U7) (mg t:U4) (j:Y9) (o:Obj) (s k c:W8) (a:Y9) (vs:U5) (ns:U6),
   Ground q loose [] XP w m mg t b.heap->YP w b.heap ->
   b.heap.get? j=some o->o.data=.func (docDef d.name d.params d.body d.scope s k c)->b.heap.CodeRec k d.name->mg d.name=some (.ref j) ->
   b.heap.get? a=some { cls:=.type "list",data:=.seq vs.toArray}->IntsAre vs ns->ns.length<=n->b.gens=#[] ->
   codeAny (model l.prog w) callerA (.call (.ref j) ⟨[.ref a],[]⟩) (λr s'=>r=.ok (.ret (.bool true))/\OldK b.heap s'.heap/\s'.os=b.os/\AllBare s'.gens) b):
  WalkO q loose XP YP l.row.toRowW d [] (λf vs=>PySem.call f vs):=by
 intro w m b mg t G Y j o s k c F kV B A v hD p J args x K i y z u D;obtain rfl:F=.none:=Dflts.none hD hdf;obtain rfl:kV=.none:=Dflts.noKw hD;obtain⟨a,vs,ns,rfl,rfl,g,e,h⟩:=Y3o hn i u;refine enter_call (WW (call w m b mg t j o s k c a vs ns G Y B (fd_plain A) v p g e h J) λr s' I=>?_);obtain⟨rfl,h2,H,E⟩:=I;exact⟨.inl ⟨.bool true,.bool true,[],U,λ_=>rfl,.bool true,Y3v l _,λ_=>⟨List.Pairwise.nil,λ_ C=>(nomatch C)⟩⟩,h2,H,E⟩
section
variable {prog:U8}{w:W5}{A:Y6}{E:U2}{s:U7}{K:Frag}
end
end vY
namespace L2
theorem oN:∀{vs:U5}{ns:U6},IntsAre vs ns->Vals (ns.map V.int) vs
 | _,_,.nil=>.nil
 | _,_,.cons n t h=>.cons ⟨t,rfl⟩ (oN h)
def Only (H:Hp):Prop:=∀b,H b=none\/∃o xs,H b=some (.frz o (.lst xs))
theorem yS{P:U8}{w:W5}{K:U0}{mg mb:U4}{CX:Ls}{k:Nat}{fa a:Y9}{fd:FuncData}{x:Str}{sp:Sp}{s₁:U7}{vs:U5}{ns:U6}
  (KX:K.In s₁.heap) (hns:s₁.heap.Ns mainGlobals mg) (f:s₁.heap.Ns builtinsNs mb) (hbb:∀x:Str,x≠"__name__"->mb x=bootBuiltins x) (hlim:s₁.heap.NoLimit) (hg:s₁.gens=#[])
  (ha:s₁.heap.get? a=some { cls:=.type "list",data:=.seq vs.toArray}) (hi:IntsAre vs ns) (hl:ns.length<=sizeLine) (hr:CK k callerA)
  (F:∀base:Heap,K.In base->base.Ns mainGlobals mg->Dh P w K mg base CX k fa fd [x] sp) (hbind:∀(s:U7) (u:W8),BindsTo s fd ⟨[u],[]⟩ [(x,u)])
  (hsp:∀H:Hp,Only H->Ai K H a (ns.map V.int)->sp [.ref a] H (λv _=>v=.bl true) λ_ _ _=>False)
  (hCX:∀H e s',CX [] H s₁ (λ_ _ _=>False) e s'->False):
  codeAny (model P w) callerA (.call (.ref fa) ⟨[.ref a],[]⟩) (λr s'=>r=.ok (.ret (.bool true))/\OldK s₁.heap s'.heap/\s'.os=s₁.os/\AllBare s'.gens) s₁:=by
 have G:=oN hi;have t:=hi.length;have i:∀H:Hp,Only H->Ai K H a (ns.map V.int)->Et P w H s₁.heap->(∀b,H b≠none->b=a)->(H a≠none->K.lookup a=none) ->
   codeAny (model P w) callerA (.call (.ref fa) ⟨[.ref a],[]⟩) (λr s'=>r=.ok (.ret (.bool true))/\OldK s₁.heap s'.heap/\s'.os=s₁.os/\AllBare s'.gens) s₁:=by
  intro H I R y D L;have c:∀{b:Y9}{o:Obj},s₁.heap.get? b=some o->H b=none->(Gq s₁.heap H).get? b=some o:=λe n=>yO e n;have C:∀{b:Y9}{o:Obj}{es:Array DictEntry}{ep:Nat},s₁.heap.get? b=some o->o.data=.dict es ep->H b=none:=λ{b o es ep} e d=>by
   cases q:H b with
   | none=>rfl
   | some u =>
    have B:b=a:=D b (by rw[q];simp);subst B;rw[ha]at e;cases e;have d':Data.seq vs.toArray _=Data.dict es ep:=d;cases d'
  have g:∀{b:Y9}{m:U4},s₁.heap.Ns b m->(Gq s₁.heap H).Ns b m:=λ{b m} ⟨o,es,ep,e,d,r⟩=>⟨o,es,ep,c e (C e d),d,r⟩
  have p:K.In (Gq s₁.heap H):=λb o e=>c (KX b o e) (by
   cases q:H b with
   | none=>rfl
   | some u =>
    have B:b=a:=D b (by rw[q];simp)
    subst B
    rw[L (by rw[q];simp)]at e;cases e)
  have N:Mod K mg (Gq s₁.heap H):=⟨p,g hns,⟨mb,g f,hbb⟩,let ⟨mc,h1,h2⟩:=hlim;⟨mc,g h1,h2⟩⟩;have Q:Nm P w K mg (Gq s₁.heap H) callerA [] s₁ H:=⟨U,N,λb o e=>X2z e,Nat.le_of_eq (_W _ _),trivial,λb f=>absurd (show b∈([]:U3) from f) (by simp),y,.of_eq hg⟩;refine WW ((F _ p (g hns)).run callerA [] s₁ H ⟨[.ref a],[]⟩ [.ref a] [.ref a] _ _ hr Q (hbind s₁ (.ref a)) (.cons rfl .nil) (hsp H I R)) λr s' h=>?_;cases r with
  | error e=>exact(hCX H e s' h).elim
  | ok fl =>
   cases fl with
   | next=>exact False.elim h
   | brk=>exact False.elim h
   | cont=>exact False.elim h
   | ret u =>
    obtain⟨v,H',os,l,un,A,M,q⟩:=h;have q':v=.bl true:=q;subst q';obtain rfl:u=Value.bool true:=M;refine⟨U,OldK.of_keep λb o e=>?_,os,l⟩;cases q:H b with
    | none=>exact un.keep b o e q (by intro z;exact absurd (show b∈([]:U3) from z) (by simp)) (by simp)
    | some u =>
     rcases I b with z | ⟨ob,xs,z⟩
     ·rw[q]at z;cases z
     ·have J:=un.frzs b ob _ z;obtain⟨E,_⟩:=y b _ z;obtain⟨O,_⟩:=A b _ J;rw[e]at E;cases E;exact O
 cases hk:K.lookup a with
 | some o =>
  have e:=KX a o hk;rw[ha]at e;cases e;refine i (λ_=>none) (λ_=>.inl rfl) (.inr ⟨_,vs.toArray,_,hk,U,U,U,by rw[DQ,t];exact hl,by simpa using G⟩) (λb u z=>by have j:(none:Option HO)=some u:=z;cases j) (λb z=>absurd rfl z) λz=>absurd rfl z
 | none =>
  refine i (λb=>if b=a then some (.frz { cls:=.type "list",data:=.seq vs.toArray} (.lst (ns.map V.int))) else none) (λb=>?_) (.inl (.inr ⟨{ cls:=.type "list",data:=.seq vs.toArray},if_pos rfl⟩)) (λb u z=>?_) (λb z=>?_) λ_=>hk
  ·by_cases f:b=a
   ·exact .inr ⟨_,_,if_pos f⟩
   ·exact .inl (if_neg f)
  ·by_cases f:b=a
   ·have j:=(if_pos f).symm.trans z;cases j;subst f;exact⟨ha,by rw[BL];exact hl,vs,_,G,ha⟩
   ·have j:=(if_neg f).symm.trans z;cases j
  ·by_cases f:b=a
   ·exact f
   ·exact absurd (if_neg f) z
theorem X0s{l:PySem.W.OpenLaw}{n k:Nat}{q:U8}{loose:W4}{XP:(Str->Option Value)->Heap->Prop}{YP:World->Heap->Prop}{d:DefRec}{K:Params->U0}{CX:World->Ls}{sp:World->Sp}{x:Str}
  (hn:l.most=some n) (hn2:n<=sizeLine) (hdf:d.params.defaults=[]) (hr:CK k callerA)
  (hY:∀(w:W5) (h:Heap),YP w h->(K w.params).In h)
  (F:∀(w:W5) (mg:U4) (m:Y9) (h:Heap),(K w.params).In h->h.Ns mainGlobals mg->mg d.name=some (.ref m) ->
   ∃fd:FuncData,(∀(s:U7) (u:W8),BindsTo s fd ⟨[u],[]⟩ [(x,u)]) /\
    ∀base:Heap,(K w.params).In base->base.Ns mainGlobals mg->Dh l.prog w (K w.params) mg base (CX w) k m fd [x] (sp w))
  (hsp:∀(w:W5) (H:Hp) (a:Y9) (ns:U6),ns.length<=n->Only H->Ai (K w.params) H a (ns.map V.int)->sp w [.ref a] H (λv _=>v=.bl true) λ_ _ _=>False)
  (hCX:∀(w:W5) (H:Hp) (s:U7) (e:W8) (s':U7),CX w [] H s (λ_ _ _=>False) e s'->False):
  PySem.W.WalkO q loose XP YP l.row.toRowW d [] (λf vs=>PySem.call f vs):=by
 refine vY.Y0a hn hdf λw E y mg N m o I J t a vs ns G Y M L D p j i c z=>?_;have r:=hY w _ Y;obtain⟨fd,A,hF⟩:=F w mg m _ r G.T.g p;exact yS r G.T.g G.T.b G.T.builtins G.T.nolimit z j i (CZ c hn2) hr hF A (λH B C=>hsp w H a ns c B C) λH e s'=>hCX w H y e s'
end L2
namespace L2
noncomputable def MP (s:Stmt)(j:Nat):Stmt:=match s with
 | .ClassDef _ _ _ body _ _ _ _ _ _ _=>body.getD j (.Pass ⟨0,0,0,0⟩)
 | _=>.Pass ⟨0,0,0,0⟩
noncomputable def Ey (s:Stmt):Arguments:=match s with
 | .FunctionDef _ a _ _ _ _ _ _ _ _=>a
 | _=>{ posonlyargs:=[],args:=[],vararg:=none,kwonlyargs:=[],kw_defaults:=[],kwarg:=none,defaults:=[]}
noncomputable def Ei (s:Stmt):List Stmt:=match s with
 | .FunctionDef _ _ b _ _ _ _ _ _ _=>b
 | _=>[]
noncomputable def DX (s:Stmt):Scope:=match s with
 | .FunctionDef _ _ _ _ _ _ sc _ _ _=>sc
 | _=>{ kind:=.function,names:=[],isGenerator:=false,isCoroutine:=false}
noncomputable abbrev Lw:Ls:=λ_ _ _ _ _ _=>False
abbrev E0:XK:=λ_ _ _=>False
theorem Oi{X:Cx}:Passes Lw X E0:=λ_ _ _ _ _ _ _ h=>h.elim
structure Yk (K:U0) (x qual:Str) (st:Stmt) (f:Y9) (fd:FuncData):Prop where
 ex:∃(oc:W8) (od:Y5) (kV doc pm:W8) (an:Y5) (cdv ct:W8) (osl:Y0),
  fd=PySem.W.fnOf x qual (Ey st) (Ei st) (DX st) .none kV doc pm an cdv ct/\K.lookup f=some ⟨oc,od,.func fd,osl⟩/\PySem.W.codeIn K cdv qual=true
 kp:PySem.W.keepIn K (.ref f)=true
section
variable {P:U8}{w:W5}{K:U0}{mg:U4}{base:Heap}
variable{qual:Str}{f:Y9}
theorem Yk.ok{x:Str}{st:Stmt}{fd:FuncData}{N ps:W4}{k:Nat}{sp:Sp}(F:Yk K x qual st f fd)(S:Ck N ps (DX st))(len:∀vs H Q E,sp vs H Q E->vs.length=ps.length)
  (hbody:∀(a:W8) (A:Y6) (outer:List Env) (s:U7) (H:Hp) (vs:List V) (Q:VK) (E:XK),CK k (A.deeper (envOfC qual (DX st) s.heap.objs.size f a))->sp vs H Q E ->
   ∃t,Fd (GX Lw P w K mg base N qual (DX st) f a A outer s H E).nox (Ei st) t/\t { nx:=λ_ H'=>Q .non H',rt:=Q} (start N vs) H):Dh P w K mg base Lw (k+1) f fd ps sp:=by
 obtain⟨m,od,kV,d,j,l,a,ct,e,rfl,g,c⟩:=F.ex;refine j8 g c S len λA outer s H vs Q E i b=>?_;obtain⟨t,h,q⟩:=hbody a A outer s H vs Q E i b;exact⟨t,h.nox,q⟩
theorem X7e{x:Str}{st:Stmt}{oc:W8}{od an:Y5}{osl:Y0}{kV doc pm cdv ct:W8}(l:K.lookup f=some ⟨oc,od,.func (PySem.W.fnOf x qual (Ey st) (Ei st) (DX st) .none kV doc pm an cdv ct),osl⟩)
  (c:PySem.W.codeIn K cdv qual=true) (k:PySem.W.keepIn K (.ref f)=true):Yk K x qual st f (PySem.W.fnOf x qual (Ey st) (Ei st) (DX st) .none kV doc pm an cdv ct):=⟨⟨oc,od,kV,doc,pm,an,cdv,ct,osl,U,l,c⟩,k⟩
end
section
variable {X:Cx}
theorem pv(i:Nat){x:Str}{pos:Pos}(hN:X.N[i]?=some x:=by rfl)(hv:Yh X.env.scope x:=by first | exact Or.inl rfl | exact Or.inr (Or.inl rfl) | exact Or.inr (Or.inr rfl))(hd:(x == ("__debug__":Str))=false:=by decide)
  (hcd:(x == ("__classdict__":Str))=false:=by decide):PE X (.Name x pos) (B_ i):=X5f hN hv hd hcd
end
theorem Ay{A B:Prop}(h:B):if false=true then A else B:=by
 rw[if_neg Dw];exact h
theorem Df{A B:Prop}(h:A):if true=true then A else B:=by
 rw[if_pos rfl];exact h
def Same (H H':Hp):Prop:=∀b o,H b=some o->H' b=some o
theorem Same.refl(H:Hp):Same H H:=λ_ _ h=>h
variable{H:Hp}
theorem Same.trans{H1 H2:Hp}(a:Same H H1)(b:Same H1 H2):Same H H2:=λc o h=>b c o (a c o h)
theorem Same.free{H':Hp}(e:Same H H'){l:Y9}(h:H' l=Option.none):H l=Option.none:=by
 cases q:H l with
 | none=>rfl
 | some o =>
  rw[e l o q]at h;cases h
theorem Same.seq{K:U0}{H':Hp}{a:Y9}{xs:List V}(e:Same H H')(h:Ai K H a xs):Ai K H' a xs:=by
 rcases h with (h | ⟨o,h⟩) | h
 ·exact .inl (.inl (e _ _ h))
 ·exact .inl (.inr ⟨o,e _ _ h⟩)
 ·exact .inr h
end L2
set_option maxHeartbeats 4000000
namespace L2
def Sz (k:Nat)(x:Int):Prop:=x.natAbs<2^k
instance (k:Nat) (x:Int):Decidable (Sz k x):=by unfold Sz;infer_instance
variable{j k:Nat}{x:Int}
theorem Sz.mono(h:Sz j x)(hjk:j<=k):Sz k x:=FQ h (Ib (by decide) hjk)
variable{y:Int}
theorem Sz.le(h:Sz k x)(hy:y.natAbs<=x.natAbs):Sz k y:=Q8 hy h
theorem Sz.mul(h:Sz j x)(h':Sz k y):Sz (j+k) (x*y):=by
 unfold Sz at *;rw[Fx,Nat.pow_add];exact Nat.mul_lt_mul'' h h'
theorem Sz.neg(h:Sz k x):Sz k (-x):=by unfold Sz at *;rwa [Int.natAbs_neg]
theorem Sz.add(h:Sz j x)(h':Sz k y):Sz (max j k+1) (x+y):=by
 have h1:=h.mono (Nat.le_max_left j k);have h2:=h'.mono (Nat.le_max_right j k);unfold Sz at *;rw[TV];have:=Int.natAbs_add_le x y;lia
theorem Sz.sub(h:Sz j x)(h':Sz k y):Sz (max j k+1) (x-y):=by
 have:=h.add h'.neg;rwa [<-Int.sub_eq_add_neg]at this
theorem Sz.bits(h:Sz k x):Builtin.Int.intBits x<=k:=by
 unfold Builtin.Int.intBits;split
 ·exact Fg _
 ·rename_i hx;have a:x≠0:=by simpa using hx
  have b:x.natAbs≠0:=by lia
  exact(S_ b).mpr h
theorem Sz.log2(h:Sz k x)(hk:0<k):x.natAbs.log2<k:=by
 by_cases hn:x.natAbs=0
 ·rw[hn];simpa using hk
 ·exact(S_ hn).mpr h
def IW (_i j:Int):Prop:=j≠0/\Sz 9000 j
section
variable {X:Cx}
theorem Qa:DP X (binaryOp .FloorDiv) (rI IW λi j=>.int (i.fdiv j)):=Om λ_ _ _ _ _ _ _ a q=>floordiv_int a.1 q (.inl (PyProof.noPylong_of_log2 (a.2.log2 (by decide))))
theorem V6{h:Heap}{a:Y9}{vs:U5}{ns:U6}(hl:IsTup h a vs.toArray)(hi:IntsAre vs ns):Reads h (.ref a) (.tuple (ns.map PyData.int)) []:=by
 obtain⟨o,c,d,n,b⟩:=hl;exact Reads.tuple c d b (by simpa using PySem.W.readsAll_of_ints hi)
theorem Xz(ns:U6):SeqAt.shaped (.tuple (ns.map PyData.int))=true:=by
 have h1:=nQ ns;have h2:PyData.depth (.tuple (ns.map PyData.int))<=64:=by simp only[PyData.depth];lia
 show (PyData.canLay0 (.tuple (ns.map PyData.int)) && decide (PyData.depth (.tuple (ns.map PyData.int))<=64))=true;rw[L_];exact⟨by simp only[PyData.canLay0];exact mW ns,DK h2⟩
def HW (K:U0)(neg:Bool):R2:=λx y H Q=>∃(a b:Y9) (ns ms:U6),x=.ref a/\y=.ref b/\Ah K H a (ns.map V.int)/\Ah K H b (ms.map V.int)/\Q (.bl (if neg then !decide (ns=ms) else decide (ns=ms))) H
theorem q9(hu:X.A.units+64<cLine):DP X (compareOp .Eq) (HW X.K false):=by
 intro pins s σ H x y v u Q I f d h;obtain⟨a,b,ns,ms,rfl,rfl,h1,h2,q⟩:=h;cases f;cases d;obtain⟨its,e,p,_⟩:=I.tuple h1;obtain⟨its',c,p',_⟩:=I.tuple h2;refine eq_dataH_same (V6 p (Ma e)) (V6 p' (Ma c)) (Xz ns) (Xz ms) hu (by simp only[SeqAt.noMix];exact Zh ns ms) ?_;refine⟨.bl (decide (ns=ms)),H,I,?_,q⟩;show _=_;simp only[PySem.Spec.same];rw[Zd]
theorem Xe(hu:X.A.units+64<cLine):DP X (compareOp .NotEq) (HW X.K true):=by
 intro pins s σ H x y v u Q I f d h;obtain⟨a,b,ns,ms,rfl,rfl,h1,h2,q⟩:=h;cases f;cases d;obtain⟨its,e,p,_⟩:=I.tuple h1;obtain⟨its',c,p',_⟩:=I.tuple h2;refine gY (V6 p (Ma e)) (V6 p' (Ma c)) (Xz ns) (Xz ms) hu (by simp only[SeqAt.noMix];exact Zh ns ms) ?_;refine⟨.bl (!decide (ns=ms)),H,I,?_,q⟩;show _=_;simp only[PySem.Spec.same];rw[Zd]
theorem KQ:CW X (.builtin "isinstance") (λxs H Q=>∃x T t b,xs=[x,.ty T]/\Bk X.K H x t/\PySem.W.kitOne X.K t (.type T)=some b/\Q (.bl b) H):=by
 intro pins s σ H xs us Q I r h;obtain⟨x,T,t,b,rfl,ty,e,q⟩:=h;obtain⟨u,v,rfl,a,c⟩:=r.two;cases c;exact _Z I a ty e λtk=>⟨.bl b,H,I.tok tk,U,q⟩
end
section
variable {prog:U8}{w:W5}{A:Y6}{E:U2}
end
section
variable {X:Cx}{pos:Pos}
end
def Its (lo st:Int)(n:Nat):It:=⟨λi _=>i<n,λi H x H'=>H'=H/\x=.int (lo+i*st),λi _=>n<=i⟩
theorem Y1z{P:U8}{w:W5}{K:U0}{tg:Expr}(it:Y9)(lo st:Int)(n:Nat):Turn P w K tg (Its lo st n) [it] it (λi h=>IsRangeIter h it (lo+(i:Nat)*st) ((n:Int)-(i:Nat)) st) where
 mem:=by simp
 obj:=λi h st b d=>by
  have e:b=it:=by simpa using d
  subst e
  exact⟨_,st,λv z=>by
   have u:Data.fields _=Data.cell v:=z
   cases u⟩
 keep:=λi h h' st k=>k it (by simp) _ st
 item:=by
  intro X m p f g i pins s σ H E I hf a r;subst m p f;obtain⟨f0,f1,x,j,l,q⟩:=hf it (by simp);have W:=Walks.range (prog:=X.prog) (w:=X.w) (I.ok.hd g) it lo st n;refine W.item i s _ _ r a λv h' tk B c kk=>?_;obtain⟨t,rfl⟩:=B;have y:Inv X pins σ H {s with heap:=h',toks:=tk}:=I.turned (λb o d e=>kk b o (by simpa using d) e) f0 f1 j l q;exact⟨_,U,X6 (s:={s with heap:=h',toks:=tk}) (n:="range_iterator") c rfl rfl (by decide) ⟨.int (lo+i*st),H,y,⟨t,U⟩,⟨U,U⟩,c,λb d=>(hf b d).1⟩⟩
 done:=by
  intro X m p f g i pins s σ H E I hf a r;subst m p f;obtain⟨f0,f1,x,j,l,q⟩:=hf it (by simp);exact mO (I.ok.hd g) a (by have:n<=i:=r;lia) λh' A=>⟨U,I.turned (t':=s.toks) (λb o d e=>A b o d e) f0 f1 j l q⟩
 self:=λ_ _ _ _ _ a h=>mL a h
section
variable {X:Cx}{tg:Expr}
def VG (ta:TA):TI:=λσ H R=>ta σ H λvs H1=>∃i j k:Int,vs=[.int i,.int j,.int k]/\(0<=i/\i<=j/\j<2^40/\0<k/\k<2^20)/\R (Its i k (Builtin.Range.rangeSize i j k).toNat) H1
theorem jc{i j k:Int}(h:i<=j)(hk:0<k):0<=Builtin.Range.rangeSize i j k/\Builtin.Range.rangeSize i j k*k<=j-i-1+k/\(i=j->Builtin.Range.rangeSize i j k=0):=by
 unfold Builtin.Range.rangeSize;rw[if_pos (by lia)];split
 ·have h1:0<=(j-i-1) / k:=gk (by lia) (by lia);have h2:(j-i-1) / k*k<=j-i-1:=Int.ediv_mul_le _ (by lia);refine⟨by lia,?_,by lia⟩;rw[Int.add_mul];lia
 ·refine⟨by lia,by lia,λ_=>rfl⟩
theorem xX{i j k:Int}(h0:0<=i)(h1:i<=j)(h2:j<2^40)(h3:0<k)(h4:k<2^20):Builtin.Range.small i j k=true:=by
 obtain⟨a,c,b⟩:=jc h1 h3;unfold Builtin.Range.small;generalize Builtin.Range.rangeSize i j k=r at a c b ⊢;have d:r<=r*k:=by
  have:=aM (show (1:Int)<=k by lia) a;lia
 simp only[Builtin.Range.rangeFitsLong,L_,Wa,Wj,Ia,show k>0 by lia,HX];lia
theorem Y3x{a b c:Expr}{ta:TA}{p pos:Pos}(hg:Gl X "range")(hm:X.mg "range"=none)(ha:PA X [a,b,c] ta)(hs:starEach [a,b,c] X.env=[(false,eval a X.env),(false,eval b X.env),(false,eval c X.env)]:=by rfl)
  (hs2:starEach [b,c] X.env=[(false,eval b X.env),(false,eval c X.env)]:=by rfl):PI X tg (.Call (.Name "range" p) [a,b,c] [] pos) (VG ta):=by
 intro pins s σ H R I h;refine Call_ (Oz I hg hm boot_range (PyProof.Rows.callWith_type1 (Bl (ha pos pins s σ H _ I h) λus f ⟨vs,H1,x,y,g⟩=>?_) (by rw[hs,hs2]) (by rw[hs2];rfl)));obtain⟨i,j,k,e,⟨g,m,v,n,u⟩,q⟩:=g;subst e;cases y with
 | cons r rr =>
  cases rr with
  | cons r' rr =>
   cases rr with
   | cons r'' rr =>
    cases rr;obtain⟨t,rfl⟩:=r;obtain⟨t',rfl⟩:=r';obtain⟨d,rfl⟩:=r'';refine call_range_3 (by lia) ?_ (.inl (PyProof.noPylong_small (by lia)));refine wpAny_pyIter_range (IsRange.new ..) (xX g m v n u) ?_;have l:Inv X pins σ H1 {f with heap:=f.heap.push { cls:=.type "range",data:=.fields #[.int i t,.int j t',.int k d]},toks:=f.toks}:=x.kept λb o e=>DR _ e
    refine⟨(f.heap.push { cls:=.type "range",data:=.fields #[.int i t,.int j t',.int k d]}).objs.size,[(f.heap.push { cls:=.type "range",data:=.fields #[.int i t,.int j t',.int k d]}).objs.size],_,_,H1,U,
     l.kept (t':=f.toks) λb o e=>DR _ e,Y1z _ i k (Builtin.Range.rangeSize i j k).toNat,?_,λb A=>?_,q⟩
    ·have w:i+((0:Nat):Int)*k=i:=by simp
     have z:(((Builtin.Range.rangeSize i j k).toNat:Nat):Int)-((0:Nat):Int)=Builtin.Range.rangeSize i j k:=by have:=(jc m n).1;lia
     show IsRangeIter _ _ (i+((0:Nat):Int)*k) ((((Builtin.Range.rangeSize i j k).toNat:Nat):Int)-((0:Nat):Int)) k;rw[w,z];exact FT _ rfl
    ·have e:b=(f.heap.push { cls:=.type "range",data:=.fields #[.int i t,.int j t',.int k d]}).objs.size:=by simpa using A
     subst e;exact l.fpOk (BX _) (l.hok.fresh (BX _))
end
end L2
namespace L2
theorem oW{α β:Type}{f:α->β->Sem (ForInStep β)}{g:β->α->β}:∀(l:List α) (b:β),(∀x∈l,∀b,f x b=pure (.yield (g b x)))->forIn l b f=pure (l.foldl g b)
 | [],b,_=>rfl
 | x::r,b,h=>by
  rw[List.forIn_cons,h x K_ b,pure_bind];exact oW r (g b x) λy a=>h y (Mv _ a)
noncomputable def JL (cells:List (Str×Addr))(cs:List (Str×Addr))(x:Str×NameKind):List (Str×Addr):=if x.2 == .free then (x.1,(cells.lookup x.1).getD 0)::cs else cs
noncomputable def clo (names:List (Str×NameKind))(cells:List (Str×Addr)):List (Str×Addr):=names.foldl (JL cells) []
variable{env:Env}
theorem jX{scope:Scope}(h:∀x∈scope.names,x.2=.free->∃c,env.cells.lookup x.1=some c):closureFor scope env=pure (clo scope.names env.cells):=by
 simp only[closureFor];unfold clo
 rw[oW (g:=JL env.cells) scope.names [] (λx e b=>by
  obtain⟨n,k⟩:=x
  unfold JL
  by_cases hk:k=.free
  ·subst hk
   obtain⟨c,f⟩:=h (n,.free) e rfl
   have a:env.cells.lookup n=some c:=f
   simp[cellOf,a]
  ·have d:(k == NameKind.free)=false:=by simpa using hk
   simp[d])]
 rfl
variable{x:Str}{c:Y9}
theorem pD{n:Str}{l:List (Str×Addr)}:List.lookup x ((n,c)::l)=if x=n then some c else List.lookup x l:=by
 by_cases h:x=n
 ·subst h;rw[if_pos rfl,List.lookup_cons_self]
 ·rw[if_neg h,Tz];have:(x == n)=false:=by simpa using h
  rw[this]
theorem qR{cells:List (Str×Addr)}:∀(names:List (Str×NameKind)) (cs:List (Str×Addr)),(∀x∈names,x.2=.free->∃c,cells.lookup x.1=some c)->(∀x c,cs.lookup x=some c->cells.lookup x=some c) ->
  ∀x c,(names.foldl (JL cells) cs).lookup x=some c->cells.lookup x=some c
 | [],cs,_,h0=>h0
 | (n,k)::r,cs,h,h0=>by
  refine qR r _ (λy d=>h y (Mv _ d)) λx c e=>?_;unfold JL at e;by_cases hk:k=.free
  ·subst hk;obtain⟨c',a⟩:=h (n,.free) K_ rfl;simp only[UJ,HX]at e;rw[pD]at e;have a:cells.lookup n=some c':=a;by_cases hx:x=n
   ·subst hx;rw[if_pos rfl,a]at e;rw[a];exact e
   ·rw[if_neg hx]at e;exact h0 x c e
  ·have b:(k == NameKind.free)=false:=by simpa using hk
   simp only[b,K9,JZ]at e;exact h0 x c e
theorem jF{cells:List (Str×Addr)}:∀(names:List (Str×NameKind)) (cs:List (Str×Addr)) (x:Str),((x,NameKind.free)∈names\/∃c,cs.lookup x=some c)->∃c,(names.foldl (JL cells) cs).lookup x=some c
 | [],cs,x,h=>by
  rcases h with h | h
  ·cases h
  ·exact h
 | (n,k)::r,cs,x,h=>by
  refine jF r _ x ?_;unfold JL;by_cases hk:k=.free
  ·subst hk;simp only[UJ,HX];rw[pD];by_cases hx:x=n
   ·exact .inr ⟨_,if_pos hx⟩
   ·rw[if_neg hx];rcases h with h | h
    ·rcases Cw.mp h with h | h
     ·exact absurd (congrArg Prod.fst h) hx
     ·exact .inl h
    ·exact .inr h
  ·have a:(k == NameKind.free)=false:=by simpa using hk
   simp only[a,K9,JZ];rcases h with h | h
   ·rcases Cw.mp h with h | h
    ·exact absurd (congrArg Prod.snd h).symm hk
    ·exact .inl h
   ·exact .inr h
structure BZ (N:W4) (osc sc:Scope) (Nc:W4) (mp:Y7):Prop where
 kind:sc.kind=.function
 nocell:∀y∈sc.names,y.2≠.cell
 names:∀y∈sc.names,y.2=.local->sc.names.lookup y.1=some .local
 free:∀y∈sc.names,y.2=.free->osc.names.lookup y.1=some .cell\/osc.names.lookup y.1=some .free
 len:mp.length=Nc.length
 map:∀(i j:Nat),mp[i]?=some (some j)->∃x,Nc[i]?=some x/\N[j]?=some x/\sc.names.lookup x=some .free
noncomputable def Oo (N:W4)(osc sc:Scope)(Nc:W4)(mp:Y7):Bool :=
 decide (sc.kind=.function) && sc.names.all (λy=>!decide (y.2=.cell) && (!decide (y.2=.local) || decide (sc.names.lookup y.1=some .local)) &&
  (!decide (y.2=.free) || decide (osc.names.lookup y.1=some .cell) || decide (osc.names.lookup y.1=some .free))) &&
 decide (mp.length=Nc.length) && (List.range mp.length).all λi=>match mp[i]? with
  | some (some j)=>match Nc[i]? with
   | some x=>decide (N[j]?=some x) && decide (sc.names.lookup x=some .free)
   | none=>false
  | _=>true
variable{sc:Scope}{mp:Y7}
theorem BZ.of{N:W4}{osc:Scope}{Nc:W4}(h:Oo N osc sc Nc mp=true):BZ N osc sc Nc mp:=by
 unfold Oo at h;simp only[L_,Wj,Wf,Wa,Bool.not_eq_true',decide_eq_false_iff_not]at h;obtain⟨⟨⟨h1,h2⟩,c⟩,b⟩:=h;refine⟨h1,λy a=>(h2 y a).1.1,λy a e=>?_,λy a e=>?_,c,λi j e=>?_⟩
 ·rcases (h2 y a).1.2 with q | q
  ·exact absurd e q
  ·exact q
 ·rcases (h2 y a).2 with (q | q) | q
  ·exact absurd e q
  ·exact .inl q
  ·exact .inr q
 ·have hi:i<mp.length:=(DW.mp e).1;have q:=b i (Em.mpr hi);rw[e]at q;cases hx:Nc[i]? with
  | none=>rw[hx]at q;simp at q
  | some x =>
   rw[hx]at q;simp only[L_,Wj]at q;exact⟨x,U,q.1,q.2⟩
theorem pG{f:Str×NameKind->Str×NameKind}(h1:∀p,(f p).1=p.1)(h2:∀p,p.2=.free->(f p).2=.cell\/(f p).2=.free):∀{names:List (Str×NameKind)}{x:Str},names.lookup x=some .free->(names.map f).lookup x=some .cell\/(names.map f).lookup x=some .free
 | [],_,h=>by simp at h
 | (n,k)::r,x,h=>by
  have j:=@pG f h1 h2 r x;rw[Jh];have c:=h1 (n,k);have d:=h2 (n,k);generalize f (n,k)=z at c d;obtain⟨n',g⟩:=z;have a:n'=n:=c;subst a;cases hx:x == n' with
  | true =>
   rw[Tz,hx]at h;have i:k=.free:=by simpa using h
   rw[Tz,hx];rcases d i with e | e
   ·have b:g=.cell:=e;subst b;exact .inl rfl
   ·have b:g=.free:=e;subst b;exact .inr rfl
  | false =>
   rw[Tz,hx]at h;rw[Tz,hx];exact j h
variable{names:List (Str×NameKind)}
theorem yJ(h:names.lookup x=some .free):
  (names.map λ(n,k)=>if (k == NameKind.free && env.scope.kind == .function && env.kindOf n == some .cell) then (n,NameKind.cell) else (n,k)).lookup x=some .cell \/
  (names.map λ(n,k)=>if (k == NameKind.free && env.scope.kind == .function && env.kindOf n == some .cell) then (n,NameKind.cell) else (n,k)).lookup x=some .free:=by
 refine pG (λp=>?_) (λp hp=>?_) h
 ·obtain⟨n,k⟩:=p;dsimp only;split<;>rfl
 ·obtain⟨n,k⟩:=p;dsimp only;split
  ·exact .inl rfl
  ·exact .inr hp
theorem o9{k':NameKind}(hc:∀y∈names,y.2≠.cell)(hk:k'=.cell\/k'=.free)
  (h:(names.map λ(n,k)=>if (k == NameKind.free && env.scope.kind == .function && env.kindOf n == some .cell) then (n,NameKind.cell) else (n,k)).lookup x=some k'):(x,NameKind.free)∈names:=by
 have m:=Pu h;obtain⟨⟨n,k⟩,a,e⟩:=GF.mp m;dsimp only at e;by_cases hf:k=.free
 ·subst hf;have c:n=x:=by
   by_cases hc':(NameKind.free == NameKind.free && env.scope.kind == .function && env.kindOf n == some .cell)=true
   ·rw[if_pos hc']at e;exact congrArg Prod.fst e
   ·rw[if_neg hc']at e;exact congrArg Prod.fst e
  exact c ▸ a
 ·have b:(k == NameKind.free)=false:=by simpa using hf
  simp only[b,Mt,K9,JZ]at e;cases e;rcases hk with z | z
  ·exact absurd z (hc _ a)
  ·exact absurd z hf
noncomputable def Bg (X:Cx)(scope:Scope)(Nc:W4)(ex:U3)(pins:U1)(s:U7)(H:Hp):Cx where
 prog:=X.prog
 w:=X.w
 K:=X.K
 mg:=X.mg
 base:=X.base
 A:=X.A
 N:=Nc
 s₀:=s
 H₀:=H
 env:=compEnvC scope (clo scope.names X.env.cells) s.heap.objs.size X.env
 outer:=X.stack
 stack:=X.stack
 ex:=ex
 fn:=λ_=>false
 calm:=X.calm
 pn:=X.pn++pins
 xe:=λ_ _=>False
noncomputable def sub (mp:Y7)(σ:St):St:=mp.map λo=>match o with | some j=>(σ[j]?).join | none=>none
theorem X0z{σ:St}{i:Nat}{v:V}(h:(sub mp σ)[i]?=some (some v)):∃j,mp[i]?=some (some j)/\σ[j]?=some (some v):=by
 unfold sub at h;rw[Cp]at h;cases e:mp[i]? with
 | none=>rw[e]at h;cases h
 | some o =>
  rw[e]at h;cases o with
  | none=>cases h
  | some j =>
   refine⟨j,U,?_⟩;have h':(σ[j]?).join=some v:=Option.some.inj h;cases q:σ[j]? with
   | none=>rw[q]at h';cases h'
   | some z=>rw[q]at h';exact congrArg some h'
section
variable {X:Cx}{pins:U1}{σ:St}{H:Hp}{s:U7}{scope:Scope}{Nc:W4}{mp:Y7}{fp:U3}
theorem Xl(I:Inv X pins σ H s)(S:BZ X.N X.env.scope scope Nc mp):∀x∈scope.names,x.2=.free->∃c,X.env.cells.lookup x.1=some c:=λx a e =>
 I.ok.has x.1 (S.free x a e)
theorem Ox(I:Inv X pins σ H s)(S:BZ X.N X.env.scope scope Nc mp)(h:(clo scope.names X.env.cells).lookup x=some c):X.env.cells.lookup x=some c :=
 qR scope.names [] (Xl I S) (λ_ _ e=>by cases e) x c h
theorem X8c(I:Inv X pins σ H s)(S:BZ X.N X.env.scope scope Nc mp)(hf:∀b∈fp,DG X pins H b)(hl:∀b∈fp,b<s.heap.objs.size):(Bg X scope Nc fp pins s H).Ok where
 mod:=I.ok.mod
 kind:=S.kind
 glob:=I.ok.glob
 blt:=I.ok.blt
 above:=BX _
 inj:=λx y c g d=>I.ok.inj x y c (Ox I S g) (Ox I S d)
 has:=λx h=>by
  have f:(x,NameKind.free)∈scope.names:=by
   rcases h with h | h
   ·exact o9 S.nocell (.inl rfl) h
   ·exact o9 S.nocell (.inr rfl) h
  exact jF scope.names [] x (.inl f)
 cab:=λx c h _=>by cases h
 hd:=I.ok.hd
 frames:=I.ok.frames
 stk:=.inl rfl
 exf:=λb a=>⟨Dc (hl b a),λx c e=>(hf b a).2.2.2.2.1 x c (Ox I S e)⟩
 bs:=I.bs
 bsz:=CZ I.ok.bsz I.sz
 noex:=λb o e a=>by
  rcases (hf b a).2.2.2.1 with z | z
  ·exact I.ok.noex b o e z
  ·exact absurd (FQ (Bp e) (CZ I.ok.bsz z)) (Lz _)
 exfs:=λb a z=>by
  rcases Cw.mp (I.stkSub b z) with e | e
  ·exact(hf b a).2.1 e
  ·exact(hf b a).2.2.1 e
 funs:=I.stack
 frf:=I.stkFree
theorem sY(I:Inv X pins σ H s)(S:BZ X.N X.env.scope scope Nc mp)(hf:∀b∈fp,DG X pins H b)(hl:∀b∈fp,b<s.heap.objs.size){h₁:Heap}{m:U4}{tk:Nat}
  (hn:h₁.Ns s.heap.objs.size m) (k:∀b o,s.heap.get? b=some o->h₁.get? b=some o):Inv (Bg X scope Nc fp pins s H) [] (sub mp σ) H {s with heap:=h₁,toks:=tk}:=by
 refine⟨X8c I S hf hl,U,I.bare,Un.kept k,⟨m,hn,λi x v J M _=>?_⟩,λx c e=>?_,I.hok.fresh (BX _),λx c e=>I.freeC x c (Ox I S e),λp hp=>?_,I.hok.kept k,?_⟩
 ·obtain⟨j,G,K⟩:=X0z M;obtain⟨y,D,E,B⟩:=S.map i j G;have A:Nc[i]?=some x:=J;rw[A]at D;cases D;have l:=Pu B;have t:Yh X.env.scope x:=.inr (S.free _ l rfl);obtain⟨P,_,a⟩:=I.loc;obtain⟨u,F,L⟩:=a j x v E K t;refine⟨u,F,.inr ⟨yJ B,?_⟩⟩;obtain⟨c,C⟩:=jF (cells:=X.env.cells) scope.names [] x (.inl l);have r:=Ox I S C;rcases L with ⟨z,_⟩ | ⟨_,c',z,q⟩
  ·rcases S.free _ l rfl with z' | z'<;>(have w:X.env.scope.names.lookup x=some .local:=z;rw[w]at z';cases z')
  ·rw[r]at z;cases z;obtain⟨o,h,g⟩:=q;exact⟨c,C,o,k c o h,g⟩
 ·obtain⟨v,o,h,g⟩:=I.cell x c (Ox I S e);exact⟨v,o,k c o h,g⟩
 ·have f:p∈X.pn++pins:=by
   have:p∈(X.pn++pins)++[]:=hp;simpa using this
  obtain⟨e,n,ne,O,d⟩:=I.pin p f;refine⟨k _ _ e,n,Dc (Bp e),λz=>?_,d⟩;rcases Cw.mp (I.stkSub p.1 z) with q | q
  ·exact ne q
  ·exact O q
 ·show (sub mp σ).length=Nc.length;unfold sub;rw[BL];exact S.len
theorem pI(I:Inv X pins σ H s)(hf:∀b∈fp,DG X pins H b){σ':St}{H':Hp}{s':U7}{pl:U1}(J:Inv (Bg X scope Nc fp pins s H) pl σ' H' s'):Inv X pins σ H' s' :=
 I.call' J.os J.base J.hok J.bare λb a=>⟨(hf b a).2.2.2.1,(hf b a).2.1,(hf b a).2.2.2.2.1,(hf b a).2.2.2.2.2⟩
theorem Inv.turnedNew(I:Inv X pins σ H s){C:Y9}{h':Heap}{t':Nat}(k:∀b o,b≠C->s.heap.get? b=some o->h'.get? b=some o)(hn:H C=none)(h1:X.s₀.heap.objs.size<=C)
  (hL:C≠X.env.locals) (hc:∀x c,X.env.cells.lookup x=some c->c≠C) (hp:∀p∈X.pn++pins,p.1≠C):Inv X pins σ H {s with heap:=h',toks:=t'} :=
 I.turned k hn hL (.inr h1) hc hp
end
section
variable {M:Model}{A:Y6}{E:U2}
abbrev Calm:Value->Shared->Prop:=λ_ _=>False
theorem Dp{α β:Type}{m:Sem α}{f:α->Sem β}{P:α->Shared->Prop}{Q:β->Shared->Prop}{s:U7}(h:wpAny M A m P Calm s)(k:∀x s',P x s'->wpAny M A (f x) Q E s'):wpAny M A (m >>= f) Q E s :=
 Az (Ek h k λ_ _ z=>z.elim)
end
theorem yD{prog:U8}{w:W5}{A:Y6}{R:Result->Shared->Prop}{s:U7}{e t i:Expr}{pos:Pos}{it acc:W8}(J:Nat->Shared->Prop)
  (turn:∀n s,J n s->wpAny (model prog w) A (pyNext it) (λr a=>(r=none->R (.ok .next) a)/\∀v,r=some v ->
   wpAny (model prog w) A (letOwnedTupleGo t it v) (λ_ b=>wpAny (model prog w) A (assign t env v) (λ_ d=>wpAny (model prog w) A (eval e env) (λx f =>
    wpAny (model prog w) A (call (.builtin "list.append") [acc,x]) (λ_ c=>∃m,m<n/\J m c) Calm f) Calm d) Calm b) Calm a) Calm s)
  (n:Nat) (h:J n s):codeAny (model prog w) A (.compLoop (.ListComp e [⟨t,i,[],0⟩] sc pos) 0 it acc env) R s:=by
 have p:=compTurn_list1 e t i sc pos it acc env;refine codeAny_loop rfl J (λn s j=>wpAny_noted (m:=compTurn (.ListComp e [⟨t,i,[],0⟩] sc pos) 0 it acc env) ?_) n h;rw[p];refine Az (Qv (Dp (turn n s j) λr a q=>?_));match r,q with
 | none,q=>exact CP (q.1 rfl)
 | some v,q=>exact Dp (q.2 v rfl) λ_ b l=>Dp l λ_ d g=>Az (Dp g λx f k=>Dp k λ_ c o=>CP (CP ⟨rfl,o⟩))
def IV (J:It)(g:TG)(te:TE)(σ:St)(H:Hp)(acc:Y9)(Q:VK):Prop:=∃W:Nat->Nat->List V->St->Hp->Prop,(∃m,W 0 m [] σ (upd H acc (.lst []))) /\
 ∀i m ys σ2 H2,W i m ys σ2 H2->(J.stop i H2/\Q (.ref acc) H2)\/(J.go i H2/\∀x H3,J.yld i H2 x H3->g x σ2 H3 λσ4 H4=>te σ4 H4 λy H5 =>
  H5 acc=some (.lst ys)/\ys.length<sizeLine/\∃m',m'<m/\W (i+1) m' (ys++[y]) σ4 (upd H5 acc (.lst (ys++[y]))))
def lZ (mp:Y7)(wi:TI)(g:TG)(te:TE):TE:=λσ H Q=>wi σ H λJ H1=>∀acc,H1 acc=none->IV J g te (sub mp σ) H1 acc Q
section
variable {X:Cx}{elt tg iter:Expr}{scope:Scope}{pos:Pos}{wi:TI}{g:TG}{te:TE}{Nc:W4}{mp:Y7}
noncomputable abbrev Dg (s:U7):Shared:={s with heap:=s.heap.push { cls:=.type "list",dict:=none,data:=.seq ([]:U5).toArray}}
theorem pJ(hc:X.calm=true)(S:BZ X.N X.env.scope scope Nc mp)(hg:∀ex pins s H,PG (Bg X scope Nc ex pins s H) tg g)(he:∀ex pins s H,PE (Bg X scope Nc ex pins s H) elt te)
  {pins:U1}{σ:St}{H2:Hp}{s2:U7}{E:U2}{it:Y9}{fp:U3}{tn:Nat->Heap->Prop}{J:It}{Q:VK}{RR:Value->Addr->Result->Shared->Prop}
  (I2:Inv X pins σ H2 s2) (T:Turn X.prog X.w X.K tg J fp it tn) (st2:tn 0 s2.heap) (f2:∀b∈fp,DG X pins H2 b)
  (q:∀acc,H2 acc=none->IV J g te (sub mp σ) H2 acc Q)
  (fin:∀acc C H' s' m',Q (.ref acc) H'->Inv X pins σ H' s'->s'.heap.Ns C m'->H' C=none->X.s₀.heap.objs.size<=C->C≠X.env.locals->(∀x c,X.env.cells.lookup x=some c->c≠C)->(∀p∈X.pn++pins,p.1≠C)->RR (.ref acc) C (.ok .next) s'):
  wpAny (model X.prog X.w) X.A (newList []) (λacc s₃=>wpAny (model X.prog X.w) X.A (newFunctionEnv scope X.env.globals (clo scope.names X.env.cells) [] X.env.qual none .none (some X.env)) (λm s₄ =>
   codeAny (model X.prog X.w) X.A (.compStart (.ListComp elt [⟨tg,iter,[],0⟩] scope pos) 0 (.ref it) acc {m with scope:=relabel scope X.env}) (RR acc m.locals) s₄) E s₃) E s2:=by
 refine Ob (wpAny_newFunctionEnv S.nocell (by intro y hy;simp at hy) (λh₁ k B=>?_) S.kind);dsimp only at k B ⊢;have I3:=I2.lnew (its:=[]) (ys:=[]) (t':=s2.toks) .nil (Fg _);have O:H2 s2.heap.objs.size=none:=I2.fresh;obtain⟨W,⟨m0,w0⟩,M⟩:=q s2.heap.objs.size O;have D:(s2.heap.push { cls:=.type "list",dict:=none,data:=.seq ([]:U5).toArray}).objs.size=s2.heap.objs.size+1:=K6 ..;have L:∀b∈fp,b<s2.heap.objs.size:=λb a=>by
  obtain⟨o,e,_⟩:=T.obj _ _ st2 b a;exact Bp e
 have I:∀b∈fp,DG X pins (upd H2 s2.heap.objs.size (.lst [])) b:=λb a=>⟨by rw[Bw (Dc (L b a))];exact(f2 b a).1,(f2 b a).2⟩;have h:Inv X pins σ (upd H2 s2.heap.objs.size (.lst [])) (Dg s2):=I3;have a2:(Dg s2).heap.objs.size=s2.heap.objs.size+1:=D;have l:∀b∈fp,b<(Dg s2).heap.objs.size:=λb a=>by rw[a2];exact Wi (L b a)
 have k3:∀b o,(Dg s2).heap.get? b=some o->h₁.get? b=some o:=λb o e=>B.extBut b o (Dc (Bp e)) (DR _ e);have Ic:=sY (tk:=(Dg s2).toks) h S I l k k3;have R:tn 0 h₁:=T.keep _ _ _ st2 λb a o e=>k3 b o (DR _ e);have cC:X.s₀.heap.objs.size<=(Dg s2).heap.objs.size:=h.sz;have cL:(Dg s2).heap.objs.size≠X.env.locals:=N6 h.lt;have cc:∀x c,X.env.cells.lookup x=some c->c≠(Dg s2).heap.objs.size:=λx c e=>by
  obtain⟨v,o,ho,_⟩:=h.cell x c e;exact Dc (Bp ho)
 have cp:∀p∈X.pn++pins,p.1≠(Dg s2).heap.objs.size:=λp hp=>Dc (Bp (h.pin p hp).1);have j:∀{H':Hp},(∀b∈fp,H' b=none)->∀b∈fp,DG (Bg X scope Nc fp pins (Dg s2) (upd H2 s2.heap.objs.size (.lst []))) [] H' b:=λhn b a =>
  ⟨hn b a,Dc (l b a),λz=>by
   rcases Cw.mp (h.stkSub b z) with e | e
   ·exact(I b a).2.1 e
   ·exact(I b a).2.2.1 e,.inl a,λx c e=>(I b a).2.2.2.2.1 x c (Ox h S e),λp hp=>(I b a).2.2.2.2.2 p (by
    have:p∈(X.pn++pins)++[]:=hp
    simpa using this)⟩
 have t:∀s4:Shared,s4={ (Dg s2) with heap:=h₁,toks:=(Dg s2).toks} ->
   codeAny (model X.prog X.w) X.A (.compLoop (.ListComp elt [⟨tg,iter,[],0⟩] scope pos) 0 (.ref it) (.ref s2.heap.objs.size) (Bg X scope Nc fp pins (Dg s2) (upd H2 s2.heap.objs.size (.lst []))).env)
    (RR (.ref s2.heap.objs.size) (Dg s2).heap.objs.size) s4:=by
  rintro s4 rfl;refine yD (λn s'=>∃i ys σ' H',Inv (Bg X scope Nc fp pins (Dg s2) (upd H2 s2.heap.objs.size (.lst []))) [] σ' H' s'/\tn i s'.heap/\(∀b∈fp,H' b=none)/\W i n ys σ' H') ?_ m0
   ⟨0,[],sub mp σ,_,Ic,R,λb a=>(I b a).1,w0⟩
  rintro n s5 ⟨i,ys,Z,Y,I5,V,P,w5⟩;rcases M i n ys Z Y w5 with ⟨stop,qn⟩ | ⟨go,step⟩
  ·refine Ek (T.done (Bg X scope Nc fp pins (Dg s2) (upd H2 s2.heap.objs.size (.lst []))) rfl rfl rfl hc i [] s5 Z Y (λ_ _=>False) I5 (j P) V stop) (λr s6 ⟨hr,I6⟩=>?_) λ_ _ f=>f.elim;subst hr;obtain⟨m6,a5,_⟩:=I6.loc;refine⟨λ_=>?_,λ_ z=>nomatch z⟩;exact fin _ _ Y s6 m6 qn (pI h I I6) a5 I6.free cC cL cc cp
  ·refine Ek (T.item (Bg X scope Nc fp pins (Dg s2) (upd H2 s2.heap.objs.size (.lst []))) rfl rfl rfl hc i [] s5 Z Y (λ_ _=>False) I5 (j P) V go) (λr s6 ⟨u,hr,h6⟩=>?_) λ_ _ f=>f.elim;subst hr;refine⟨(λz=>by cases z),?_⟩;rintro _ ⟨⟩;refine Ek h6 (λ_ s7 ⟨x,H7,I7,r7,y7,F,a1⟩=>?_) λ_ _ f=>f.elim;have a3:=I7.pinned (j a1) (T.obj _ _ F);refine Ek (hg _ _ _ _ _ s7 Z H7 x u _ a3 r7 (step x H7 y7)) (λ_ s8 ⟨σ8,H8,I8,q8⟩=>?_) λ_ _ f=>f.elim;refine Ek (he _ _ _ _ _ s8 σ8 H8 _ I8 q8) (λv s9 ⟨y,H9,I9,r9,a9,l9,m',a4,w9⟩=>?_) λ_ _ f=>f.elim;refine Ek (Qd (X:=Bg X scope Nc fp pins (Dg s2) (upd H2 s2.heap.objs.size (.lst []))) _ s9 σ8 H9 (.ref s2.heap.objs.size) [y] (.ref s2.heap.objs.size) [v] (λz Hz=>z=.non/\Hz=upd H9 s2.heap.objs.size (.lst (ys++[y]))) I9 rfl (.cons r9 .nil) ⟨_,ys,y,U,U,a9,l9,U,U⟩) (λa6 a8 ⟨z,a7,G,_,_,a0⟩=>?_) λ_ _ f=>f.elim;subst a0;refine⟨m',a4,i+1,ys++[y],σ8,_,G.unpinned,T.keep _ _ _ F λb a o e=>(G.pin (b,o) (GR _ (GR _ (Rn a e)))).1,λb a=>?_,w9⟩;obtain⟨o,e,d⟩:=T.obj _ _ F b a;exact(G.pin (b,o) (GR _ (GR _ (Rn a e)))).2.1
 exact mJ (t _ rfl) (T.self _ 0 _ _ _ R (t _ rfl))
theorem GZ(hc:X.calm=true)(S:BZ X.N X.env.scope scope Nc mp)(hi:PI X tg iter wi)(hg:∀ex pins s H,PG (Bg X scope Nc ex pins s H) tg g)(he:∀ex pins s H,PE (Bg X scope Nc ex pins s H) elt te)
  (hf:∀x,foldedSetIterable iter X.env x=pure x:=by intro _;rfl):PE X (.ListComp elt [⟨tg,iter,[],0⟩] scope pos) (lZ mp wi g te):=by
 intro pins s σ H Q I h;rw[eval_ListComp];refine aJ (use:=none) rfl hf (jX (Xl I S)) S.kind S.names (Bl (hi pins s σ H _ I h) λv z h1=>Bl h1 λn y h2=>?_);obtain⟨it,fp,B,J,H2,e,p,T,a,i,q⟩:=h2;subst e;refine pJ (RR:=λacc C=>compPost (model X.prog X.w) X.A X.xe none (EP X pins σ Q) acc C) hc S hg he p T a i q ?_;intro acc C H' s' r qq m j d c l k f;refine⟨r,j,λh' t=>⟨.ref acc,H',?_,U,qq⟩⟩;exact m.turnedNew (t':=s'.toks) (λb o u e=>t.extBut b o u e) d c l k f
theorem Qc{i:Nat}{pos' spos:Pos}(hc:X.calm=true)(hN:X.N.Nodup)(hi':X.N[i]?=some x)(hx:X.env.scope.names.lookup x=some .local)(S:BZ X.N X.env.scope scope Nc mp)(hi:PI X tg iter wi)
  (hg:∀ex pins s H,PG (Bg X scope Nc ex pins s H) tg g) (he:∀ex pins s H,PE (Bg X scope Nc ex pins s H) elt te)
  (hsw:swapsWith (.ListComp elt [⟨tg,iter,[],0⟩] scope pos) (some (.Name x pos')) spos.line X.env=pure true)
  (hf:∀x,foldedSetIterable iter X.env x=pure x:=by intro _;rfl):PS X (.Assign [.Name x pos'] (.ListComp elt [⟨tg,iter,[],0⟩] scope pos) spos) (PJ (lZ mp wi g te) (CQ i)):=by
 intro pins s σ H D I h;rw[exec_Assign_Name_used _ _ _ _ hsw];refine Az (Qv (Az ?_));show wpAny _ X.A (do let _ ← comprehension (.ListComp elt [⟨tg,iter,[],0⟩] scope pos) scope X.env _ (newList []) false (eval iter X.env) (some (assign (.Name x pos') X.env))) _ _ s
 refine Az (Ek (aJ (use:=some (assign (.Name x pos') X.env)) (Q:=λ_ s'=>SP X pins D .next s') rfl hf (jX (Xl I S)) S.kind S.names
  (Bl (hi pins s σ H _ I h) λv P h1=>Bl h1 λB O h2=>?_)) (λ_ s' F=>CP (CP F)) λ_ _ e=>e)
 obtain⟨it,fp,R,J,H2,e,E,T,d,p,q⟩:=h2;subst e;refine pJ (Q:=λx H1=>CQ i x σ H1 D.nx) (RR:=λacc C=>compPost (model X.prog X.w) X.A X.xe (some (assign (.Name x pos') X.env)) (λ_ s'=>SP X pins D .next s') acc C) hc S hg he E T d p q ?_;intro acc C H' s' G qq y r m l k j n;show wpAny _ X.A (assign (.Name x pos') X.env (.ref acc)) _ _ _;refine wpAny_assign_Name (oM (v:=.ref acc) y hN hi' (.inl hx) rfl (λu M ⟨a,c,t⟩=>?_) (.inr hx));have f:C≠a:=by
  rcases t with z | z
  ·rw[z];exact k
  ·exact Ne.symm (j x a z)
 refine⟨G,r.sameBut c f,λh' K=>⟨σ.set i (some (.ref acc)),H',?_,qq⟩⟩;exact M.turnedNew (t':=u.toks) (λb o L e=>K.extBut b o L e) m l k j n
end
variable{te:TE}{fr:St}{H1:Hp}{acc:Y9}{Q:VK}
theorem j_{J:It}{n:Nat}{val:Nat->V}(Pv:Nat->List V->Hp->Prop)(hn:n<=sizeLine)(h0:Pv 0 [] (upd H1 acc (.lst [])))
  (hgo:∀i ys H,i<n->Pv i ys H->J.go i H/\∀x H',J.yld i H x H'->H'=H/\x=val i) (hst:∀ys H,Pv n ys H->J.stop n H)
  (hs:∀i ys H (N:V->Hp->Prop),i<n->ys.length=i->Pv i ys H->(∀y a,a acc=some (.lst ys)->Pv (i+1) (ys++[y]) (upd a acc (.lst (ys++[y])))->N y a)->te (some (val i)::fr) H N)
  (hd:∀ys H,ys.length=n->Pv n ys H->Q (.ref acc) H):
  IV (J) (CQ 0) te (none::fr) H1 acc Q:=by
 refine⟨λi m ys d H2=>m=n-i/\i<=n/\ys.length=i/\(∃v,d=v::fr)/\Pv i ys H2,⟨n,by simp,Fg _,U,⟨_,U⟩,h0⟩,?_⟩;rintro i m ys d H2 ⟨rfl,hi,b,⟨v,rfl⟩,p⟩;by_cases hlt:i<n
 ·obtain⟨go,j⟩:=hgo i ys H2 hlt p;refine .inr ⟨go,λx c f=>?_⟩;obtain⟨h,k⟩:=j x c f;subst h k;show te ((v::fr).set 0 (some (val i))) c _;rw[List.set_cons_zero];refine hs i ys c _ hlt b p λy a l g=>⟨l,by lia,n-(i+1),by lia,U,hlt,by rw[DN,b];rfl,⟨_,U⟩,g⟩
 ·have e:i=n:=by lia
  subst e;exact .inl ⟨hst ys H2 p,hd ys H2 b p⟩
theorem Xm{lo:Int}{n:Nat}(Pv:Nat->List V->Hp->Prop)(hn:n<=sizeLine)(h0:Pv 0 [] (upd H1 acc (.lst [])))
  (hs:∀i ys H (N:V->Hp->Prop),i<n->ys.length=i->Pv i ys H->(∀y H5,H5 acc=some (.lst ys)->Pv (i+1) (ys++[y]) (upd H5 acc (.lst (ys++[y])))->N y H5)->te (some (.int (lo+i))::fr) H N)
  (hd:∀ys H,ys.length=n->Pv n ys H->Q (.ref acc) H):
  IV (Fz lo n) (CQ 0) te (none::fr) H1 acc Q :=
 j_ (J:=Fz lo n) (val:=λi=>.int (lo+i)) Pv hn h0 (λi ys H hi p=>⟨hi,λx H' y=>y⟩) (λys H p=>BX _) hs hd
theorem M_{K:U0}{a:Y9}{xs:List V}(Pv:Nat->List V->Hp->Prop)(hn:xs.length<=sizeLine)(h0:Pv 0 [] (upd H1 acc (.lst [])))
  (hl:∀i ys H,Pv i ys H->Ai K H a xs)
  (hs:∀i x ys H (N:V->Hp->Prop),xs[i]?=some x->ys.length=i->Pv i ys H->(∀y H5,H5 acc=some (.lst ys)->Pv (i+1) (ys++[y]) (upd H5 acc (.lst (ys++[y])))->N y H5)->te (some x::fr) H N)
  (hd:∀ys H,ys.length=xs.length->Pv xs.length ys H->Q (.ref acc) H):
  IV (KZ K a) (CQ 0) te (none::fr) H1 acc Q :=
 j_ (J:=KZ K a) (n:=xs.length) (val:=λi=>xs.getD i .non) Pv hn h0
  (λi ys H hi p=>⟨⟨xs,xs[i],hl i ys H p,by simp[hi]⟩,λx H' y=>⟨y.1,by
   have:=y.2 xs (hl i ys H p)
   rw[FW,this];rfl⟩⟩)
  (λys H p=>⟨xs,hl _ ys H p,BX _⟩)
  (λi ys H N hi b p k=>by
   have e:xs[i]?=some (xs.getD i .non):=by rw[FW,Cv hi];rfl
   exact hs i _ ys H N e b p k) hd
end L2
namespace L2
structure Aj (P:U8) (w:W5) (K:U0) (mg:U4) (base:Heap) (k:Nat) (x:Str) (ps:W4) (sp:Sp):Prop where
 ex:∃f fd,Dh P w K mg base Lw k f fd ps sp/\Binds K fd ps []/\PySem.W.keepIn K (.ref f)=true/\mg x=some (.ref f)
variable{K:U0}{mg:U4}{base:Heap}{k:Nat}{x:Str}{ps:W4}{sp:Sp}
theorem Aj.mono{P:U8}{w:W5}{j:Nat}(c:Aj P w K mg base j x ps sp)(h:j<=k):Aj P w K mg base k x ps sp :=
 let ⟨f,fd,F,b,kp,m⟩:=c.ex
 ⟨f,fd,F.mono h,b,kp,m⟩
section
variable {X:Cx}{k:Nat}{x:Str}{ps:W4}{sp:Sp}{p pos:Pos}{e:Expr}{es:List Expr}{t:TA}
theorem A_(c:Aj X.prog X.w X.K X.mg X.base k x ps sp)(hr:CK k X.A)(hg:Gl X x)(ha:PA X (e::es) t)(hdb:(x == ("__debug__":Str))=false:=by decide)
  (he:starEach (e::es) X.env=(false,eval e X.env)::starEach es X.env:=by rfl) (hpl:(backTo pos (starEach es X.env)).any (·.1)=false:=by rfl):PE X (.Call (.Name x p) (e::es) [] pos) (Ke sp [] E0 t):=by
 obtain⟨f,fd,F,b,kp,m⟩:=c.ex;exact rB F hr hg m kp b .nil Oi ha hdb he hpl
end
structure Ab (K:U0) (x:Str) (st:Stmt) (dV:W8):Prop where
 ex:∃(f:Y9) (oc:W8) (od:Y5) (kV doc pm:W8) (an:Y5) (cdv ct:W8) (osl:Y0),
  K.lookup f=some ⟨oc,od,.func (PySem.W.fnOf x x (Ey st) (Ei st) (DX st) dV kV doc pm an cdv ct),osl⟩/\PySem.W.codeIn K cdv x=true/\PySem.W.keepIn K (.ref f)=true/\PySem.W.nsIn K mainGlobals x=some (some (.ref f))
theorem xM{st:Stmt}{f:Y9}{oc:W8}{od an:Y5}{osl:Y0}{dV kV doc pm cdv ct:W8}(a:PySem.W.nsIn K mainGlobals x=some (some (.ref f)))
  (l:K.lookup f=some ⟨oc,od,.func (PySem.W.fnOf x x (Ey st) (Ei st) (DX st) dV kV doc pm an cdv ct),osl⟩) (c:PySem.W.codeIn K cdv x=true) (k:PySem.W.keepIn K (.ref f)=true):Ab K x st dV :=
 ⟨f,oc,od,kV,doc,pm,an,cdv,ct,osl,l,c,k,a⟩
def Lj (K:U0)(x:Str)(st:Stmt)(dV:W8)(ps:W4):Prop:=∀(kV doc pm:W8) (an:Y5) (cdv ct:W8),Binds K (PySem.W.fnOf x x (Ey st) (Ei st) (DX st) dV kV doc pm an cdv ct) ps []
theorem Ep{st:Stmt}
  (h:∀(kV a c:W8) (d:Y5) (b ct:W8) (us:U5),us.length=ps.length->bindArgs (PySem.W.fnOf x x (Ey st) (Ei st) (DX st) .none kV a c d b ct) ⟨us,[]⟩=pure (ps.zip us)):Lj K x st .none ps :=
 λkV a c d b ct=>.all (h kV a c d b ct)
variable{nm:Str}
theorem Vj{st:Stmt}(h:∀(kV a c:W8) (d:Y5) (b ct:W8),bindArgs (PySem.W.fnOf nm nm (Ey st) (Ei st) (DX st) .none kV a c d b ct) ⟨[],[]⟩=pure []):Lj K nm st .none []:=Ep λkV a c d b ct us e=>by
 cases us with
 | nil=>exact h kV a c d b ct
 | cons=>cases e
variable{x0:Str}
theorem Vi{st:Stmt}(h:∀(kV a c:W8) (d:Y5) (b ct:W8) (a0:W8),bindArgs (PySem.W.fnOf nm nm (Ey st) (Ei st) (DX st) .none kV a c d b ct) ⟨[a0],[]⟩=pure [(x0,a0)]):Lj K nm st .none [x0]:=Ep λkV a c d b ct us e=>by
 cases us with
 | nil=>cases e
 | cons b0 t0 =>
  cases t0 with
  | nil=>exact h kV a c d b ct b0
  | cons=>cases e
theorem Vh{st:Stmt}{x1:Str}(h:∀(kV a c:W8) (e:Y5) (b ct:W8) (a0 a1:W8),bindArgs (PySem.W.fnOf nm nm (Ey st) (Ei st) (DX st) .none kV a c e b ct) ⟨[a0,a1],[]⟩=pure [(x0,a0),(x1,a1)]):Lj K nm st .none [x0,x1]:=Ep λkV a c e b ct us d=>by
 cases us with
 | nil=>cases d
 | cons b0 t0 =>
  cases t0 with
  | nil=>cases d
  | cons b1 t1 =>
   cases t1 with
   | nil=>exact h kV a c e b ct b0 b1
   | cons=>cases d
theorem Vg{st:Stmt}{x1 x2:Str}(h:∀(kV a d:W8) (e:Y5) (b ct:W8) (a0 a1 a2:W8),bindArgs (PySem.W.fnOf nm nm (Ey st) (Ei st) (DX st) .none kV a d e b ct) ⟨[a0,a1,a2],[]⟩=pure [(x0,a0),(x1,a1),(x2,a2)]):Lj K nm st .none [x0,x1,x2]:=Ep λkV a d e b ct us c=>by
 cases us with
 | nil=>cases c
 | cons b0 t0 =>
  cases t0 with
  | nil=>cases c
  | cons b1 t1 =>
   cases t1 with
   | nil=>cases c
   | cons b2 t2 =>
    cases t2 with
    | nil=>exact h kV a d e b ct b0 b1 b2
    | cons=>cases c
theorem Vf{st:Stmt}{x1 x2 x3:Str}(h:∀(kV a d:W8) (e:Y5) (b ct:W8) (a0 a1 a2 a3:W8),bindArgs (PySem.W.fnOf nm nm (Ey st) (Ei st) (DX st) .none kV a d e b ct) ⟨[a0,a1,a2,a3],[]⟩=pure [(x0,a0),(x1,a1),(x2,a2),(x3,a3)]):Lj K nm st .none [x0,x1,x2,x3]:=Ep λkV a d e b ct us c=>by
 cases us with
 | nil=>cases c
 | cons b0 t0 =>
  cases t0 with
  | nil=>cases c
  | cons b1 t1 =>
   cases t1 with
   | nil=>cases c
   | cons b2 t2 =>
    cases t2 with
    | nil=>cases c
    | cons b3 t3 =>
     cases t3 with
     | nil=>exact h kV a d e b ct b0 b1 b2 b3
     | cons=>cases c
theorem Ve{st:Stmt}{x1 x2 x3 x4:Str}(h:∀(kV a d:W8) (e:Y5) (b ct:W8) (a0 a1 a2 a3 a4:W8),bindArgs (PySem.W.fnOf nm nm (Ey st) (Ei st) (DX st) .none kV a d e b ct) ⟨[a0,a1,a2,a3,a4],[]⟩=pure [(x0,a0),(x1,a1),(x2,a2),(x3,a3),(x4,a4)]):Lj K nm st .none [x0,x1,x2,x3,x4]:=Ep λkV a d e b ct us c=>by
 cases us with
 | nil=>cases c
 | cons b0 t0 =>
  cases t0 with
  | nil=>cases c
  | cons b1 t1 =>
   cases t1 with
   | nil=>cases c
   | cons b2 t2 =>
    cases t2 with
    | nil=>cases c
    | cons b3 t3 =>
     cases t3 with
     | nil=>cases c
     | cons b4 t4 =>
      cases t4 with
      | nil=>exact h kV a d e b ct b0 b1 b2 b3 b4
      | cons=>cases c
section
variable {P:U8}{w:W5}{K:U0}{mg:U4}{base:Heap}
theorem fS{N P:W4}{sc:Scope}(a:sc.kind=.function:=by exact rfl)(b:sc.isCoroutine=false:=by exact rfl)(c:sc.isGenerator=false:=by exact rfl)(d:N.Nodup:=by decide +kernel)(e:N.take P.length=P:=by exact rfl)(f:∀x∈P,sc.names.lookup x=some .local\/sc.names.lookup x=some .cell:=by decide +kernel)(g:∀y∈sc.names,y.2≠.free:=by decide +kernel):Ck N P sc:=⟨a,b,c,d,e,f,g⟩
theorem Ab.cal{st:Stmt}{dV:W8}(F:Ab K x st dV){h:Heap}(X:K.In h)(G:Ng h mg)(N:W4)
  (hbody:∀{f:Y9}{a:W8}{A:Y6}{outer:List Env}{s:U7},N.Nodup->∀(H:Hp) (vs:List V) (Q:VK) (E:XK),CK k (A.deeper (envOfC x (DX st) s.heap.objs.size f a))->sp vs H Q E ->
   ∃t,Fd (GX Lw P w K mg base N x (DX st) f a A outer s H E).nox (Ei st) t/\t { nx:=λ_ H'=>Q .non H',rt:=Q} (start N vs) H)(S:Ck N ps (DX st):=by exact fS) (bi:Lj K x st dV ps:=by first | exact Vi λ_ _ _ _ _ _ _=>rfl | exact Vh λ_ _ _ _ _ _ _ _=>rfl | exact Vg λ_ _ _ _ _ _ _ _ _=>rfl | exact Vf λ_ _ _ _ _ _ _ _ _ _=>rfl | exact Ve λ_ _ _ _ _ _ _ _ _ _ _=>rfl | exact Vj λ_ _ _ _ _ _=>rfl) (len:∀vs H Q E,sp vs H Q E->vs.length=ps.length:=by intro _ _ _ _ h;repeat first | (obtain⟨rfl,_⟩:=h;rfl) | (obtain⟨⟨rfl,_⟩,_⟩:=h;rfl) | (obtain⟨_,h⟩:=h)):Aj P w K mg base (k+1) x ps sp:=by
 obtain⟨f,m,od,kV,c,e,g,a,ct,i,j,d,kp,ns⟩:=F.ex;refine⟨f,_,j8 j d S len λA outer s H vs Q E l b=>?_,bi kV c e g a ct,kp,G_ X G ns⟩;obtain⟨t,h,q⟩:=hbody S.nd H vs Q E l b;exact⟨t,h.nox,q⟩
end
variable{H:Hp}
theorem Bv{P:U8}{w:W5}{N:W4}{sc:Scope}{f:Y9}{cdv:W8}{A:Y6}{outer:List Env}{s:U7}{E:XK}:(GX Lw P w K mg base N x sc f cdv A outer s H E).nox.K=K:=rfl
theorem Aw{p:Y9}(h:H p=none)(o:HO):Same H (upd H p o):=λb u q=>by rw[Bw (Qf q h)];exact q
theorem vU(K:U0):PySem.W.kitOne K (.type "int") (.type "int")=some true:=by unfold PySem.W.kitOne;rw[if_pos (by decide)]
theorem X6i(K:U0):PySem.W.kitOne K (.type "bool") (.type "bool")=some true:=by unfold PySem.W.kitOne;rw[if_pos (by decide)]
theorem vR(K:U0):PySem.W.kitOne K (.type "int") (.type "bool")=some false:=by with_unfolding_all rfl
variable{A B:Prop}
theorem Jr{a b:Int}(h1:a=b->A)(h2:a≠b->B):if decide (V.int a=V.int b)=true then A else B:=by
 by_cases h:a=b
 ·subst h;rw[DK rfl];exact Df (h1 rfl)
 ·rw[Dl λe=>h (V.int.inj e)];exact Ay (h2 h)
theorem J_{a b:Int}(h1:a≠b->A)(h2:a=b->B):if (!decide (V.int a=V.int b))=true then A else B:=by
 by_cases h:a=b
 ·subst h;rw[DK rfl];exact Ay (h2 rfl)
 ·rw[Dl λe=>h (V.int.inj e)];exact Df (h1 h)
theorem Ca{p:Prop}[Decidable p](h1:p->A)(h2:¬ p->B):if decide p=true then A else B:=by
 by_cases h:p
 ·rw[DK h];exact Df (h1 h)
 ·rw[Dl h];exact Ay (h2 h)
theorem iI{c:Bool}(h1:c=true->A)(h2:c=false->B):if c=true then A else B:=by
 cases c
 ·exact Ay (h2 rfl)
 ·exact Df (h1 rfl)
theorem Mz{c:Bool}(h1:c=false->A)(h2:c=true->B):if (!c)=true then A else B:=by
 cases c
 ·exact Df (h1 rfl)
 ·exact Ay (h2 rfl)
def Yv (t u:TS):TS:=λD σ H=>∃Good:St->Hp->Prop,t {D with nx:=Good} σ H/\∀σ' H',Good σ' H'->u D σ' H'
theorem JM{X:Cx}{st:Stmt}{rest:Y8}{t u:TS}(h1:PS X st t)(h2:Fd X rest u):Fd X (st::rest) (Yv t u):=by
 intro pins s σ H D I h;obtain⟨a,g,c⟩:=h;refine ZW (Bl (h1 pins s σ H {D with nx:=a} I g) λf d q=>?_);cases f with
 | next =>
  obtain⟨b,H',e,q⟩:=q;exact h2 pins d b H' D e (c b H' q)
 | ret v=>exact q
 | brk=>exact q
 | cont=>exact q
theorem El{H':Hp}{p:Y9}{o:HO}(h:Same H H')(hn:H p=none):Same H (upd H' p o):=λb u q=>by rw[Bw (Qf q hn)];exact h b u q
end L2
namespace Zo
open PySem.Sem (wp)
def Stop (h:Heap)(e:Y9):Prop:=∃o,h.get? e=some o/\o.cls=.type "StopIteration"
def Rest (S:U3)(h h':Heap):Prop:=∀c o,c∉S->h.get? c=some o->h'.get? c=some o
variable{S:U3}{h h1:Heap}
theorem Rest.trans{h2:Heap}(a:Rest S h h1)(b:Rest S h1 h2):Rest S h h2:=λc o n e=>b c o n (a c o n e)
theorem Rest.sub{T:U3}(a:Rest S h h1)(q:∀c,c∈S->c∈T):Rest T h h1:=λc o n e=>a c o (λz=>n (q c z)) e
theorem Rest.ext{b:Y9}(e:Heap.ExtBut b h h1)(q:b∈S):Rest S h h1:=λc o n x=>e c o (λz=>n (z ▸ q)) x
theorem Rest.but{b:Y9}(e:Heap.SameBut b h h1)(q:b∈S):Rest S h h1:=Rest.ext e.extBut q
theorem Rest.new(o:Obj):Rest S h (h.push o):=λc u n x=>DR _ x
def H_ (S:U3)(G:Heap->Prop):Prop:=∀h h',Rest S h h'->G h->G h'
def Told (it:Y9)(hp:Heap)(g:Array GenState)(d:Drawn)(tk:Nat)(os:OsState)(G:Heap->Prop)(ox:Option Value)(Q E:U2):Prop :=
 (∀x h',ox=some x->G h'->Heap.SameBut it hp h'->Q x ⟨h',g,d,tk,os⟩) /\
 (∀e h',ox=none->Heap.ExtBut it hp h'->Stop h' e->E (.ref e) ⟨h',g,d,tk,os⟩)
def Pull (prog:U8)(w:W5)(A:Y6)(it:Y9)(G G':Heap->Prop)(ox:Option Value):Prop :=
 ∀{Q E:U2}{hp:Heap}{g:Array GenState}{d:Drawn}{tk:Nat}{os:OsState},G hp->Told it hp g d tk os G' ox Q E ->
  wpAny (model prog w) A (Builtin.SmallTypes.nextOf (.ref it)) Q E ⟨hp,g,d,tk,os⟩
section
variable {prog:U8}{w:W5}{A:Y6}{E:U2}{hp:Heap}{g:Array GenState}{d:Drawn}{tk:Nat}{os:OsState}
variable{ox:Option Value}
theorem Pull.behind{it:Y9}{G G':Heap->Prop}(p:Pull prog w A it G G' ox)(hg:G hp){α:Type}{f:Value->Sem α}{k:Value->Sem Unit}{Q:α->Shared->Prop}
  (t:Told it hp g d tk os G' ox (λx s'=>wpAny (model prog w) A (f x) Q (λe a=>wpAny (model prog w) A (k e) (λ_ b=>E e b) E a) s') (λe a=>wpAny (model prog w) A (k e) (λ_ b=>E e b) E a)):
  wpAny (model prog w) A ((Builtin.SmallTypes.nextOf (.ref it) >>= f).onRaise k) Q E ⟨hp,g,d,tk,os⟩:=wpAny_onRaise (Az (p hg t))
theorem freed{z I O e:Y9}{v:W8}(gz:IsZip h z I O v)(st:Stop h e)(k:∀h',Rest [z] h h'->Stop h' e->E (.ref e) ⟨h',g,d,tk,os⟩):
  wpAny (model prog w) A (setField (.ref z) 0 .none) (λ_ c=>E (.ref e) c) E ⟨h,g,d,tk,os⟩:=by
 obtain⟨o,a,b⟩:=st;have ne:e≠z:=by
  rintro rfl;have q:=a.symm.trans gz;cases q;exact absurd (Value.type.inj b) (by decide)
 refine Tp gz rfl (by simp) (k _ (Rest.but (Heap.SameBut.update ..) (by simp)) ⟨o,(Heap.SameBut.update ..).extBut _ _ ne a,b⟩)
theorem step{z I O i j:Y9}{oy:Option Value}{a b:W8}{G1 G1' G2 G2':Heap->Prop}{R:PySem.Fin->Shared->Prop}
  (gz:IsZip hp z I O .none) (gI:IsPair hp I (.ref i) (.ref j)) (gO:IsPair hp O a b) (ne:O≠z/\O≠i/\O≠j/\i≠z/\j≠z)
  (p1:Pull prog w A i G1 G1' ox) (p2:Pull prog w A j G2 G2' oy) (a1:G1 hp) (a2:G2 hp)
  (k1:H_ [z,O,j] G1) (k2:H_ [z,O,i] G2) (k3:H_ [z,O,j] G1') (k4:H_ [z,O,i] G2')
  (go:∀x y h',ox=some x->oy=some y->IsZip h' z I O (rawInt hp.objs.size)->IsPair h' O x y->IsPair h' hp.objs.size x y->G1' h'->G2' h'->Rest [z,O,i,j] hp h'->R (.done (.ret (.ref hp.objs.size))) ⟨h',g,d,tk,os⟩)
  (stop:∀e h',ox=none\/oy=none->Rest [z,O,i,j] hp h'->Stop h' e->E (.ref e) ⟨h',g,d,tk,os⟩):
  wpAny (model prog w) A (Builtin.«zip.__next__» ⟨[.ref z],[]⟩) R E ⟨hp,g,d,tk,os⟩:=by
 obtain⟨o,W,M,t,F⟩:=ne;have c0:(#[Value.none,.bool false,.bool false,.ref I,.ref O]:U9)[0]?=some .none:=rfl;have Z:(#[Value.none,.bool false,.bool false,.ref I,.ref O]:U9)[2]?=some (.bool false):=rfl;have X:(#[Value.none,.bool false,.bool false,.ref I,.ref O]:U9)[3]?=some (.ref I):=rfl;have V:(#[Value.none,.bool false,.bool false,.ref I,.ref O]:U9)[4]?=some (.ref O):=rfl;have Y:0<(#[Value.none,.bool false,.bool false,.ref I,.ref O]:U9).size:=by simp
 wp_walk using Jz gz rfl Z,Jz gz rfl X,Tn gI rfl,Jz gz rfl c0,Jz gz rfl V,wpAny_setField_rec gz Y;intro h1 u B;have r:Rest [z] hp h1:=.but B (by simp);wp_walk;refine p1.behind (f:=λx=>pure (some x)) (k:=λ_=>setField (.ref z) 0 .none) (k1 _ _ (r.sub (by simp)) a1) ⟨λx h2 C b2 c=>?_,λe h2 C c st=>?_⟩
 ·have L:IsPair h2 O a b:=c.extBut _ _ W (B.extBut _ _ o gO);wp_walk using Tn L rfl,wpAny_updateSeq_pair L;intro h3 O3 m;wp_walk using wpAny_letGo;have s:Rest [z,O,i] hp h3:=((r.sub (by simp)).trans (.but c (by simp))).trans (.but m (by simp));refine p2.behind (f:=λx=>pure (some x)) (k:=λ_=>setField (.ref z) 0 .none) (k2 _ _ s a2) ⟨λy J D U h=>?_,λe J D h st=>?_⟩
  ·have K:IsPair J O x b:=h.extBut _ _ M O3;wp_walk using Tn K rfl,wpAny_updateSeq_pair K;intro h5 P l;have p:IsPair h5 O x y:=P;have N:Rest [z,O,i,j] hp h5:=((s.sub (by simp)).trans (.but h (by simp))).trans (.but l (by simp));have H:IsZip h5 z I O .ellipsis:=l.extBut _ _ o.symm (h.extBut _ _ F.symm (m.extBut _ _ o.symm (c.extBut _ _ t.symm u)));have sz:h5.objs.size=hp.objs.size:=(((l.1.trans h.1).trans m.1).trans c.1).trans B.1;have lt:z<h5.objs.size:=Bp H;have Q:IsZip (h5.push { cls:=.type "tuple",data:=.seq #[x,y].toList.toArray}) z I O .ellipsis:=DR _ H;wp_walk using wpAny_letGo,Tn p rfl;have z8:=RB (Obj.mapFields λv=>v.setIfInBounds 1 (Value.bool false)) (RB (Obj.mapFields λv=>v.setIfInBounds 0 (rawInt h5.objs.size)) Q rfl) rfl;have G:Rest [z] (h5.push { cls:=.type "tuple",data:=.seq #[x,y].toList.toArray}) _:=(Rest.but (b:=z) (Heap.SameBut.update (f:=Obj.mapFields λv=>v.setIfInBounds 0 (rawInt h5.objs.size)) ..) (by simp)).trans (Rest.but (b:=z) (Heap.SameBut.update (f:=Obj.mapFields λv=>v.setIfInBounds 1 (Value.bool false)) ..) (by simp));have q:=(Rest.new _).trans G;have T8:=G h5.objs.size _ (by simp;exact N6 lt) (FT _ rfl);simp only[<-sz]at go;exact go x y _ C D z8 (q _ _ (by simp[o]) p) T8 (k3 _ _ ((((Rest.but (S:=[z,O,j]) m (by simp)).trans (.but h (by simp))).trans (.but l (by simp))).trans (q.sub (T:=[z,O,j]) (by simp))) b2)
    (k4 _ _ ((Rest.but (S:=[z,O,i]) l (by simp)).trans (q.sub (T:=[z,O,i]) (by simp))) U) (N.trans (q.sub (T:=[z,O,i,j]) (by simp)))
  ·exact freed (h _ _ F.symm (m.extBut _ _ o.symm (c.extBut _ _ t.symm u))) st λh5 l n =>
    stop e h5 (.inr D) (((s.sub (by simp)).trans (.ext h (by simp))).trans (l.sub (by simp))) n
 ·exact freed (c _ _ t.symm u) st λh3 m n=>stop e h3 (.inl C) (((r.sub (by simp)).trans (.ext c (by simp))).trans (m.sub (by simp))) n
end
end Zo
namespace Zn
open PySem.Sem (wp)
section
variable {prog:U8}{w:W5}{A:Y6}{E:U2}{hp:Heap}{g:Array GenState}{d:Drawn}{tk:Nat}{os:OsState}{it l:Y9}{i n:Nat}{its:U9}{oi ol:Obj}{R:PySem.Fin->Shared->Prop}
theorem zY(hh:its[i]?=none->A.handled=none)(gi:hp.get? it=some oi)(di:oi.data=.fields #[.ref l,.int i 0])(gl:hp.get? l=some ol)(dl:ol.data=.seq its n)
  (go:∀x,its[i]?=some x->R (.done (.ret x)) ⟨hp.update it (Obj.mapFields (·.setIfInBounds 1 (rawInt (i+1)))),g,d,tk,os⟩)
  (stop:∀h' e,its[i]?=none->Heap.ExtBut it hp h'->(∃o,h'.get? e=some o/\o.cls=.type "StopIteration")->E (.ref e) ⟨h',g,d,tk,os⟩):
  wpAny (model prog w) A (Builtin.«tuple_iterator.__next__» ⟨[.ref it],[]⟩) R E ⟨hp,g,d,tk,os⟩:=by
 have f0:(#[Value.ref l,.int i 0]:U9)[0]?=some (.ref l):=rfl;have f1:(#[Value.ref l,.int i 0]:U9)[1]?=some (.int i 0):=rfl;have a:0<(#[Value.ref l,.int i 0]:U9).size:=by simp
 have c:1<(#[Value.ref l,.int i 0]:U9).size:=by simp
 wp_walk using Jz gi di f0,Jz gi di f1,Tn gl dl;rw[GJ];cases hx:its[i]? with
 | some x =>
  dsimp only;wp_walk using Tp gi di c;exact go x hx
 | none =>
  dsimp only;have b:=hh hx;wp_walk using Tp gi di a;exact wpAny_raiseNew_none b (stop _ _ hx (((Heap.SameBut.update ..).extBut.push _).push _) ⟨_,FT _ rfl,U⟩)
end
end Zn
namespace Zp
open Zo
open PySem.Sem (wp)
def Dat (t:Bool)(h:Heap)(l:Y9)(xs:U9):Prop:=if t then h.IsTuple l xs else h.IsList l xs
def Fz (t:Bool)(h:Heap)(it l:Y9)(i:Nat):Prop:=if t then h.IsTupleIter it l i else h.IsListIter it l i
variable{t:Bool}{h h':Heap}{l:Y9}{xs:U9}
theorem Dat.at(d:Dat t h l xs)(e:∀o,h.get? l=some o->h'.get? l=some o):Dat t h' l xs:=by
 cases t<;>exact let ⟨o,q,r⟩:=d;⟨o,e o q,r⟩
variable{it:Y9}{i:Nat}
theorem Fz.at(d:Fz t h it l i)(e:∀o,h.get? it=some o->h'.get? it=some o):Fz t h' it l i:=by
 cases t<;>exact let ⟨o,q,r⟩:=d;⟨o,e o q,r⟩
theorem Fz.obj(d:Fz t h it l i):∃o,h.get? it=some o/\∀v,o.data≠.cell v:=by
 cases t<;>exact let ⟨o,e,_,q⟩:=d;⟨o,e,λv z=>by rw[q]at z;cases z⟩
theorem Dat.push(d:Dat t h l xs)(o:Obj):Dat t (h.push o) l xs:=d.at λ_ q=>DR _ q
def Stand (t:Bool)(it l:Y9)(k:Nat)(xs:U9)(h:Heap):Prop:=Fz t h it l k/\Dat t h l xs
theorem Stand.stays{k:Nat}{S:U3}(a:it∉S)(b:l∉S):H_ S (Stand t it l k xs):=λh h' r d=>⟨d.1.at λo q=>r _ o a q,d.2.at λo q=>r _ o b q⟩
section
variable {prog:U8}{w:W5}{A:Y6}
variable{Q:Option Value->Shared->Prop}
theorem via{E:U2}{T id:String}{f:Builtin}{a:Y9}{s:U7}(sl:Slot T (Str.ofString "__next__") id)(en:entryFor table id=some f)(ar:argsOk id ⟨[.ref a],[]⟩)(ty:s.TypeIs (.ref a) T)
  (h:wpAny (model prog w) A.in1 (f ⟨[.ref a],[]⟩) (λr s'=>∃v,r=.done (.ret v)/\Q (some v) s') E s):wpAny (model prog w) A (callSpecial? (.ref a) (Str.ofString "__next__")) Q E s :=
 mX ty sl (ZV sl ty en h ar)
theorem pull{k:Nat}(hh:A.handled=none):Pull prog w A it (Stand t it l k xs) (Stand t it l (k+1) xs) xs[k]?:=by
 intro Q E hp g d tk os st td;have j:∀{h'},Heap.SameBut it hp h'->l≠it->Dat t h' l xs:=λr n=>st.2.at λo q=>r.extBut _ _ n q;cases t with
 | false =>
  obtain⟨a,b⟩:hp.IsListIter it l k/\hp.IsList l xs:=st;have n:l≠it:=by
   rintro rfl;obtain⟨o,q,_,r⟩:=a;obtain⟨o',q',_,_,h⟩:=b;rw[q]at q';cases q';rw[r]at h;cases h
  cases f:xs[k]? with
  | some x=>exact wpAny_nextOf_list_item a b f λh' i r=>td.1 x h' f ⟨i,j r n⟩ r
  | none=>exact wpAny_nextOf_list_end hh a b f λh' e r s=>td.2 e h' f r s
 | true =>
  obtain⟨a,b⟩:hp.IsTupleIter it l k/\hp.IsTuple l xs:=st;have ty:(⟨hp,g,d,tk,os⟩:U7).TypeIs (.ref it) "tuple_iterator":=a.typeIs;obtain⟨o,q,c,r⟩:=a;obtain⟨o',q',c',m,h⟩:=b;have n:l≠it:=by rintro rfl;rw[q]at q';cases q';rw[r]at h;cases h
  unfold Builtin.SmallTypes.nextOf;refine Az (via F.slot_tuple_iterator_next F.entry_tuple_iterator_next (F.args_tuple_iterator_next_1 _) ty (Zn.zY (λ_=>hh) q r q' h (λx f=>⟨x,U,CP (td.1 x _ f ?_ (Heap.SameBut.update ..))⟩) λh' e f ex s=>td.2 e h' f ex s));refine⟨(⟨_,RB _ q (Obj.isFreed_of_fields (Obj.data_mapFields r _)),(Obj.cls_mapFields ..).trans c,?_⟩:Heap.IsTupleIter _ it l (k+1)),j (Heap.SameBut.update ..) n⟩;rw[Obj.data_mapFields r];rfl
variable {E:U2}
theorem tE{t1 t2:Bool}{z I O i j m:Y9}{k1 k2:Nat}{ys:U9}{a b:W8}{s:U7}(hh:A.handled=none)(D:ZipApart z I O i j l m)
  (gz:IsZip s.heap z I O .none) (gI:IsPair s.heap I (.ref i) (.ref j)) (gO:IsPair s.heap O a b) (d1:Stand t1 i l k1 xs s.heap) (d2:Stand t2 j m k2 ys s.heap)
  (go:∀x y h',xs[k1]?=some x->ys[k2]?=some y->IsZip h' z I O (rawInt s.heap.objs.size)->IsPair h' O x y->IsPair h' s.heap.objs.size x y->Stand t1 i l (k1+1) xs h'->Stand t2 j m (k2+1) ys h' ->
   Rest [z,O,i,j] s.heap h'->Q (some (.ref s.heap.objs.size)) ⟨h',s.gens,s.drawn,s.toks,s.os⟩)
  (stop:∀h',xs[k1]?=none\/ys[k2]?=none->Rest [z,O,i,j] s.heap h'->Q none ⟨h',s.gens,s.drawn,s.toks,s.os⟩):wpAny (model prog w) A (pyNext (.ref z)) Q E s:=by
 obtain⟨hp,g,d,tk,os⟩:=s;unfold pyNext;refine Az (Tc (via F.slot_zip_next F.entry_zip_next (F.args_zip_next_1 _) ⟨_,gz,U⟩ (step gz gI gO ⟨D.TOz,D.TOi1,D.TOi2,D.i1z,D.i2z⟩ (pull (A:=A.in1) hh) (pull (A:=A.in1) hh) d1 d2 ?_ ?_ ?_ ?_ ?_ ?_)))
 ·exact Stand.stays (by simp[D.i1z,D.TOi1.symm,D.i12]) (by simp[D.l1z,D.l1TO,D.l1i2])
 ·exact Stand.stays (by simp[D.i2z,D.TOi2.symm,D.i12.symm]) (by simp[D.l2z,D.l2TO,D.l2i1])
 ·exact Stand.stays (by simp[D.i1z,D.TOi1.symm,D.i12]) (by simp[D.l1z,D.l1TO,D.l1i2])
 ·exact Stand.stays (by simp[D.i2z,D.TOi2.symm,D.i12.symm]) (by simp[D.l2z,D.l2TO,D.l2i1])
 ·exact λx y h' p v h u f k B t=>⟨_,U,CP (go x y h' p v h u f k B t)⟩
 ·rintro e h' n r ⟨o,q,c⟩;exact Az (wpAny_isInstance (b:=true) ⟨o,q,c⟩ isSubtype_stop (CP (stop h' n r)))
end
noncomputable abbrev Fj (t:Bool)(l:Y9):Obj:={ cls:=.type (if t then "tuple_iterator" else "list_iterator"),data:=.fields #[.ref l,.int 0 0]}
theorem qb(e:h.get? it=some (Fj t l)):Fz t h it l 0:=by
 cases t<;>exact⟨_,e,U,U⟩
theorem Ur{o0 o1 o2 o3 o4:Obj}(f0:o0.isFreed=false)(f1:o1.isFreed=false)(f2:o2.isFreed=false)(f3:o3.isFreed=false)(f4:o4.isFreed=false){H:Heap}(e:H=((((h.push o0).push o1).push o2).push o3).push o4):
  H.get? h.objs.size=some o0/\H.get? (h.objs.size+1)=some o1/\H.get? (h.objs.size+2)=some o2/\H.get? (h.objs.size+3)=some o3/\H.get? (h.objs.size+4)=some o4/\∀c o,h.get? c=some o->H.get? c=some o:=by
 subst e;have w:∀{h:Heap}{a:Y9}{o o':Obj},h.get? a=some o->(h.push o').get? a=some o:=λq=>DR _ q;have d:(h.push o0).objs.size=h.objs.size+1:=K6 ..;have b:((h.push o0).push o1).objs.size=h.objs.size+2:=by rw[K6,d]
 have f:(((h.push o0).push o1).push o2).objs.size=h.objs.size+3:=by rw[K6,b]
 have g:((((h.push o0).push o1).push o2).push o3).objs.size=h.objs.size+4:=by rw[K6,f]
 refine⟨w (w (w (w (FT _ f0)))),?_,?_,?_,?_,λc o q=>w (w (w (w (w q))))⟩
 ·rw[<-d];exact w (w (w (FT _ f1)))
 ·rw[<-b];exact w (w (FT _ f2))
 ·rw[<-f];exact w (FT _ f3)
 ·rw[<-g];exact FT _ f4
structure New (t1 t2:Bool) (h h':Heap) (l m:Y9):Prop where
 z:IsZip h' (h.objs.size+4) (h.objs.size+2) (h.objs.size+3) .none
 I:IsPair h' (h.objs.size+2) (.ref h.objs.size) (.ref (h.objs.size+1))
 O:IsPair h' (h.objs.size+3) .none .none
 i:Fz t1 h' h.objs.size l 0
 j:Fz t2 h' (h.objs.size+1) m 0
 k:Rest [] h h'
section
variable {prog:U8}{w:W5}{A:Y6}{E:U2}{s:U7}
theorem sW{Q:U2}(hl:Dat t s.heap l xs)(h:Q (.ref s.heap.objs.size) {s with heap:=s.heap.push (Fj t l)}):wpAny (model prog w) A (pyIter (.ref l)) Q E s:=by
 cases t
 ·exact Wk (show s.heap.IsList l xs from hl) h
 ·exact wpAny_pyIter_tuple (show s.heap.IsTuple l xs from hl) h
theorem _6(t1 t2:Bool)(l m:Y9)(xs ys:U9):
  Meets (Builtin.«zip.__new__» ⟨[.type "zip",.ref l,.ref m],[]⟩) (λ_ R s=>Dat t1 s.heap l xs/\Dat t2 s.heap m ys /\
   ∀h',New t1 t2 s.heap h' l m->R (.ok (.ret (.ref (s.heap.objs.size+4)))) {s with heap:=h'}):=
 .of_wp λprog w A R s h=>by
  rcases s with ⟨hp,g,d,tk,os⟩;rcases h with ⟨b1,b2,h⟩;have a:=sub_zip;have i:Dat t1 (Shared.heap ⟨hp,g,d,tk,os⟩) l xs:=b1;have L2:Dat t2 (Shared.heap ⟨hp.push (Fj t1 l),g,d,tk,os⟩) m ys:=b2.push _;wp_walk using sW i,sW L2;have key:∀n1 n2 n3 n4,n1=hp.objs.size+1->n2=hp.objs.size+2->n3=hp.objs.size+3->n4=hp.objs.size+4 ->
    R (.ok (.ret (.ref n4))) ⟨((((hp.push (Fj t1 l)).push (Fj t2 m)).push { cls:=.type "tuple",data:=.seq #[.ref hp.objs.size,.ref n1]}).push { cls:=.type "tuple",data:=.seq #[.none,.none]}).push
     { cls:=.type "zip",data:=.fields #[.none,.bool false,.bool false,.ref n2,.ref n3]},g,d,tk,os⟩:=by
   rintro _ _ _ _ rfl rfl rfl rfl;obtain⟨f,e,k,j,b,n⟩:=Ur (h:=hp) (o0:=Fj t1 l) (o1:=Fj t2 m) (o2:={ cls:=.type "tuple",data:=.seq #[.ref hp.objs.size,.ref (hp.objs.size+1)]}) (o3:={ cls:=.type "tuple",data:=.seq #[.none,.none]})
    (o4:={ cls:=.type "zip",data:=.fields #[.none,.bool false,.bool false,.ref (hp.objs.size+2),.ref (hp.objs.size+3)]}) rfl rfl rfl rfl rfl rfl
   exact h _ ⟨b,k,j,qb f,qb e,λc o _ q=>n c o q⟩
  exact⟨_,U,key _ _ _ _ (by simp only[K6]) (by simp only[K6]) (by simp only[K6]) (by simp only[K6])⟩
theorem yK{t1 t2:Bool}{m:Y9}{ys:U9}{Q:U2}(b1:Dat t1 s.heap l xs)(b2:Dat t2 s.heap m ys)
  (k:∀h',New t1 t2 s.heap h' l m->Q (.ref (s.heap.objs.size+4)) {s with heap:=h'}):wpAny (model prog w) A (call (.type "zip") [.ref l,.ref m]) Q E s :=
 callType_new F.called_zip (by decide) (F.typeCall_zip_2 _ _) (F.newCall_zip_2 _ _) (λo=>F.args_object_init_3 o _ _) F.entry_zip_new (_6 t1 t2 l m xs ys) ⟨b1,b2,λh' n=>⟨⟨_,n.z,U⟩,k h' n⟩⟩
end
end Zp
namespace L2
section
variable {X:Cx}{pins:U1}{σ:St}{H:Hp}{s:U7}{h':Heap}
theorem Inv.turnedL{t':Nat}{ch:U3}(I:Inv X pins σ H s)(k:∀b o,b∉ch->s.heap.get? b=some o->h'.get? b=some o)(hf:∀b∈ch,DG X pins H b):Inv X pins σ H {s with heap:=h',toks:=t'}:=by
 have d:∀b u,H b=some u->b∉ch:=λb u e z=>by rw[(hf b z).1]at e;cases e
 refine I.step (g':=s.gens) (d':=s.drawn) (ch:=ch) (λb f=>⟨(hf b f).2.2.2.1,(hf b f).2.1,(hf b f).2.2.2.2.1,(hf b f).2.2.2.2.2⟩) (λb o _ _ a e _=>k b o a e) (λb o _ _ a e _=>⟨o.slots,k b o a e⟩) (λ_ _ _ _ n=>n)
  (λb o a e=>⟨o,k b o a e⟩) (λ_ _ e=>e) (λ_ _ _ e=>e) (λb ps e=>⟨#[],by rw[e];simp⟩) (λm h=>?_) (λb u e=>?_) I.bare
 ·obtain⟨o,es,ep,g,r⟩:=h;exact⟨o,es,ep,k _ o (λz=>(hf _ z).2.1 rfl) g,r⟩
 ·refine(I.hok b u e).stay (λc v a q=>k c v ?_ q) (λ_ q=>q) λ_ _ q=>q;rcases a with z | z
  ·rw[z];exact d b u e
  ·exact d c _ z
theorem Inv.turnedT{t':Nat}{ch:U3}{T:Y9}{xs:List V}{its:U5}(I:Inv X pins σ H s)(k:∀b o,b∉ch->s.heap.get? b=some o->h'.get? b=some o)(hf:∀b∈ch,DG X pins H b)(hT:s.heap.objs.size<=T)(hv:Vals xs its)(hz:xs.length<=sizeLine)(ht:IsTup h' T its.toArray):
  Inv X pins σ (upd H T (.tup xs)) {s with heap:=h',toks:=t'}:=by
 have g:∀b u,H b=some u->b∉ch:=λb u e z=>by rw[(hf b z).1]at e;cases e
 have h:H T=none:=I.hok.fresh hT;have i:∀b o,s.heap.get? b=some o->b≠T:=λb o e=>Dc (FQ (Bp e) hT);have a:∀b u,H b=some u->b≠T:=λb u e z=>by rw[z,h]at e;cases e
 refine I.step (g':=s.gens) (d':=s.drawn) (ch:=ch) (λb f=>⟨(hf b f).2.2.2.1,(hf b f).2.1,(hf b f).2.2.2.2.1,(hf b f).2.2.2.2.2⟩) (λb o _ _ d e _=>k b o d e) (λb o _ _ d e _=>⟨o.slots,k b o d e⟩)
  (λb o _ e n=>by rw[Bw (i b o e)];exact n)
  (λb o d e=>⟨o,k b o d e⟩) (λb ys e=>by rw[Bw (a b _ e)];exact e) (λb o u e=>by rw[Bw (a b _ e)];exact e) (λb ps e=>⟨#[],by rw[Bw (a b _ e),e];simp⟩) (λm l=>?_) (λb u e=>?_) I.bare
 ·obtain⟨o,es,ep,j,r⟩:=l;exact⟨o,es,ep,k _ o (λz=>(hf _ z).2.1 rfl) j,r⟩
 ·by_cases f:b=T
  ·subst f;rw[Al]at e;cases e;exact⟨hz,its,hv,ht⟩
  ·rw[Bw f]at e;refine(I.hok b u e).stay (λc v d q=>k c v ?_ q) (λc q=>by rw[Bw (a c _ q)];exact q) λc ys q=>by rw[Bw (a c _ q)];exact q
   rcases d with z | z
   ·rw[z];exact g b u e
   ·exact g c _ z
end
def IK (t:Bool)(K:U0)(H:Hp)(a:Y9)(xs:List V):Prop:=if t then Ah K H a xs else Ai K H a xs
variable{xs:List V}
theorem Inv.sqx{X:Cx}{pins:U1}{σ:St}{H:Hp}{s:U7}{t:Bool}{a:Y9}(I:Inv X pins σ H s)(h:IK t X.K H a xs):∃its:List Value,Vals xs its/\Zp.Dat t s.heap a its.toArray/\xs.length<=sizeLine:=by
 cases t
 ·obtain⟨its,v,p,z⟩:=I.list (show Ai X.K H a xs from h);exact⟨its,v,p.isList,z⟩
 ·obtain⟨its,v,p,z⟩:=I.tuple (show Ah X.K H a xs from h);exact⟨its,v,p,z⟩
variable{ys:List V}
theorem Inv.sqx_inj{X:Cx}{pins:U1}{σ:St}{H:Hp}{s:U7}{t:Bool}{a:Y9}(I:Inv X pins σ H s)(h:IK t X.K H a xs)(h':IK t X.K H a ys):xs=ys:=by
 cases t
 ·exact I.list_inj (show Ai X.K H a xs from h) h'
 ·exact I.tuple_inj (show Ah X.K H a xs from h) h'
def WK (t1 t2:Bool)(K:U0)(l1 l2:Y9):It :=
 ⟨λi H=>∃xs x ys y,IK t1 K H l1 xs/\xs[i]?=some x/\IK t2 K H l2 ys/\ys[i]?=some y,
 λi H v H'=>∃T x y,v=.ref T/\H T=none/\H'=upd H T (.tup [x,y])/\(∀xs,IK t1 K H l1 xs->xs[i]?=some x)/\∀ys,IK t2 K H l2 ys->ys[i]?=some y,
 λi H=>∃xs ys,IK t1 K H l1 xs/\IK t2 K H l2 ys/\(xs.length<=i\/ys.length<=i)⟩
theorem zZ{P:U8}{w:W5}{K:U0}{es:List Expr}{kk:Nat}{tp:Pos}{t1 t2:Bool}{z TI TO i1 i2 l1 l2:Y9}(D:ZipApart z TI TO i1 i2 l1 l2):
  Turn P w K (.Tuple es kk tp) (WK t1 t2 K l1 l2) [z,TI,TO,i1,i2] z (λi h=>IsZip h z TI TO .none/\IsPair h TI (.ref i1) (.ref i2)/\(∃a b,IsPair h TO a b)/\Zp.Fz t1 h i1 l1 i/\Zp.Fz t2 h i2 l2 i) where
 mem:=by simp
 obj:=λi h st b c=>by
  obtain⟨f,d,⟨x,y,j⟩,g,l⟩:=st;simp only[Cw,Gm,Gk]at c;rcases c with rfl | rfl | rfl | rfl | rfl
  ·exact⟨_,f,λv q=>by have q':Data.fields _=Data.cell v:=q;cases q'⟩
  ·exact⟨_,d,λv q=>by have q':Data.seq _ _=Data.cell v:=q;cases q'⟩
  ·exact⟨_,j,λv q=>by have q':Data.seq _ _=Data.cell v:=q;cases q'⟩
  ·exact g.obj
  ·exact l.obj
 keep:=λi h h' st k=>by
  obtain⟨f,d,⟨x,y,j⟩,g,l⟩:=st;exact⟨k z (by simp) _ f,k TI (by simp) _ d,⟨x,y,k TO (by simp) _ j⟩,g.at λo e=>k i1 (by simp) o e,l.at λo e=>k i2 (by simp) o e⟩
 item:=by
  intro X Q V L M i pins s σ H E I hf st N;subst Q V L;obtain⟨xs,x,ys,y,G,Z,J,hy⟩:=N;obtain⟨f,d,⟨u1,u2,j⟩,g,l⟩:=st;obtain⟨its,R,W,hz⟩:=I.sqx G;obtain⟨its',m,r,S⟩:=I.sqx J;obtain⟨u,C,rx⟩:=R.get Z;obtain⟨F,A,ry⟩:=m.get hy;refine Zp.tE (I.ok.hd M) D f d j (d1:=⟨g,W⟩) (d2:=⟨l,r⟩) (λwx wy h' f1 T Y b2 b5 b3 b4 bk=>?_) (λh' n _=>?_);rotate_left
  ·exfalso;rcases n with n | n
   ·rw[show its.toArray[i]?=some u by simpa using C]at n;cases n
   ·rw[show its'.toArray[i]?=some F by simpa using A]at n;cases n
  obtain rfl:u=wx:=Option.some.inj ((show its.toArray[i]?=some u by simpa using C).symm.trans f1);obtain rfl:F=wy:=Option.some.inj ((show its'.toArray[i]?=some F by simpa using A).symm.trans T);refine⟨_,U,wpAny_letOwnedTupleGo_zip Y λh2 c1 t=>?_⟩;have zT:s.heap.objs.size≠z:=N6 (Bp f);have k2:∀b o,b∉[z,TI,TO,i1,i2]->s.heap.get? b=some o->h2.get? b=some o:=λb o c e=>by
   simp only[Cw,Gm,Gk,not_or]at c;exact t.extBut b o c.1 (bk b o (by simp[c]) e)
  have hT:IsTup h2 s.heap.objs.size ([u,F]:U5).toArray:=⟨_,t.extBut _ _ zT b5,U,_,U⟩;refine⟨.ref s.heap.objs.size,upd H s.heap.objs.size (.tup [x,y]),I.turnedT (t':=s.toks) k2 hf (BX _) (.cons rx (.cons ry .nil)) (by show 2<=sizeLine;decide) hT,U,⟨_,x,y,U,I.hok.fresh (BX _),U,λa6 h1=>?_,λa0 h1=>?_⟩,⟨c1,?_,⟨u,F,?_⟩,?_,?_⟩,λb c=>?_⟩
  ·rw[I.sqx_inj h1 G];exact Z
  ·rw[I.sqx_inj h1 J];exact hy
  ·exact t.extBut _ _ D.TIz (bk _ _ (by simp[D.TIz,D.TITO,D.TIi1,D.TIi2]) d)
  ·exact t.extBut _ _ D.TOz b2
  ·exact b3.1.at λo q=>t.extBut _ _ D.i1z q
  ·exact b4.1.at λo q=>t.extBut _ _ D.i2z q
  ·have O:b<s.heap.objs.size:=by
    simp only[Cw,Gm,Gk]at c;rcases c with rfl | rfl | rfl | rfl | rfl
    ·exact Bp f
    ·exact Bp d
    ·exact Bp j
    ·obtain⟨o,e,_⟩:=g.obj;exact Bp e
    ·obtain⟨o,e,_⟩:=l.obj;exact Bp e
   rw[Bw (Dc O)];exact(hf b c).1
 done:=by
  intro X Q V L M i pins s σ H E I hf st N;subst Q V L;obtain⟨xs,ys,G,J,B⟩:=N;obtain⟨f,d,⟨u1,u2,j⟩,g,l⟩:=st;obtain⟨its,R,W,hz⟩:=I.sqx G;obtain⟨its',m,r,S⟩:=I.sqx J;have e1:=R.length;have e2:=m.length;have p:its.toArray[i]?=none\/its'.toArray[i]?=none:=by
   rcases B with h | h
   ·left;simp;lia
   ·right;simp;lia
  refine Zp.tE (I.ok.hd M) D f d j (d1:=⟨g,W⟩) (d2:=⟨l,r⟩) (λwx wy h' f1 T Y b2 b5 b3 b4 bk=>?_) (λh' n bk=>⟨U,I.turnedL (t':=s.toks) (λb o c e=>?_) hf⟩)
  ·exfalso;rcases p with n | n
   ·rw[f1]at n;cases n
   ·rw[T]at n;cases n
  ·simp only[Cw,Gm,Gk,not_or]at c;exact bk b o (by simp[c]) e
 self:=λ_ _ _ _ _ st h=>wpAny_pyIter_zip st.1 h
section
variable {X:Cx}{es:List Expr}{kk:Nat}{tp:Pos}
def iB (t1 t2:Bool)(K:U0)(ta:TA):TI:=λσ H R=>ta σ H λvs H1=>∃l1 l2 xs ys,vs=[.ref l1,.ref l2]/\IK t1 K H1 l1 xs/\IK t2 K H1 l2 ys/\R (WK t1 t2 K l1 l2) H1
theorem YZ(t1 t2:Bool){a b:Expr}{ta:TA}{p pos:Pos}(hg:Gl X "zip")(hm:X.mg "zip"=none)(ha:PA X [a,b] ta)(hs:starEach [a,b] X.env=[(false,eval a X.env),(false,eval b X.env)]:=by rfl)(hs2:starEach [b] X.env=[(false,eval b X.env)]:=by rfl):
  PI X (.Tuple es kk tp) (.Call (.Name "zip" p) [a,b] [] pos) (iB t1 t2 X.K ta):=by
 intro pins s σ H R I h;refine Call_ (Oz I hg hm boot_zip (PyProof.Rows.callWith_type1 (Bl (ha pos pins s σ H _ I h) λus d ⟨vs,H1,g,y,u⟩=>?_) (by rw[hs,hs2]) (by rw[hs2];rfl)));obtain⟨l1,l2,xs,ys,e,h1,h2,q⟩:=u;subst e;cases y with
 | cons r rr =>
  cases rr with
  | cons r' rr =>
   cases rr;cases r;cases r';obtain⟨its,F,l,G⟩:=g.sqx h1;obtain⟨its',B,f,w⟩:=g.sqx h2;refine Zp.yK l f λh' ⟨n,v,E,A,x,j⟩=>?_;have C:∀c o,d.heap.get? c=some o->h'.get? c=some o:=λc o q=>j c o (by simp) q;have z:Inv X pins σ H1 {d with heap:=h'}:=g.kept (t':=d.toks) C;have k:l1<d.heap.objs.size:=by
    cases t1
    ·obtain⟨o,e,_⟩:=(show d.heap.IsList l1 _ from l);exact Bp e
    ·obtain⟨o,e,_⟩:=(show d.heap.IsTuple l1 _ from l);exact Bp e
   have m:l2<d.heap.objs.size:=by
    cases t2
    ·obtain⟨o,e,_⟩:=(show d.heap.IsList l2 _ from f);exact Bp e
    ·obtain⟨o,e,_⟩:=(show d.heap.IsTuple l2 _ from f);exact Bp e
   have D:ZipApart (d.heap.objs.size+4) (d.heap.objs.size+2) (d.heap.objs.size+3) d.heap.objs.size (d.heap.objs.size+1) l1 l2:=zipApart_new k m;refine wpAny_pyIter_zip n ⟨_,_,_,_,H1,U,z,zZ D,⟨n,v,⟨_,_,E⟩,A,x⟩,λb t=>?_,q⟩;have i:d.heap.objs.size<=b:=by
    simp only[Cw,Gm,Gk]at t;rcases t with rfl | rfl | rfl | rfl | rfl
    ·exact Wh _ _
    ·exact Wh _ _
    ·exact Wh _ _
    ·exact BX _
    ·exact Wh _ _
   exact g.fpOk i (g.hok.fresh i)
end
theorem pL{t1 t2:Bool}{K:U0}{l1 l2:Y9}{g:TG}{te:TE}{fr:St}{H1:Hp}{acc:Y9}{Q:VK}(Pv:Nat->List V->Hp->Prop)(hxy:xs.length=ys.length)(hn:xs.length<=sizeLine)(h0:Pv 0 [] (upd H1 acc (.lst [])))
  (hg:∀{a:Y9}{x y v1 v2:V}{w1 w2:Option V}{H:Hp}{Q:St->Hp->Prop},H a=some (.tup [x,y])->Q (some x::some y::fr) H->g (.ref a) (w1::w2::fr) H Q)
  (hl:∀i zs H,Pv i zs H->IK t1 K H l1 xs/\IK t2 K H l2 ys)
  (hs:∀i x y zs H T (N:V->Hp->Prop),xs[i]?=some x->ys[i]?=some y->zs.length=i->Pv i zs H->H T=none->(∀z c,c acc=some (.lst zs)->Pv (i+1) (zs++[z]) (upd c acc (.lst (zs++[z])))->N z c)->te (some x::some y::fr) (upd H T (.tup [x,y])) N)
  (hd:∀zs H,zs.length=xs.length->Pv xs.length zs H->Q (.ref acc) H):IV (WK t1 t2 K l1 l2) g te (none::none::fr) H1 acc Q:=by
 refine⟨λi m zs h H2=>m=xs.length-i/\i<=xs.length/\zs.length=i/\(∃v w,h=v::w::fr)/\Pv i zs H2,⟨xs.length,by simp,Fg _,U,⟨_,_,U⟩,h0⟩,?_⟩;rintro i m zs h H2 ⟨rfl,hi,b,⟨v,w,rfl⟩,p⟩;obtain⟨f,d⟩:=hl i zs H2 p;by_cases hlt:i<xs.length
 ·have l:xs[i]?=some xs[i]:=by simp[hlt]
  have n:ys[i]?=some (ys[i]'(by lia)):=by simp[show i<ys.length by lia]
  refine .inr ⟨⟨xs,_,ys,_,f,l,d,n⟩,λu t j=>?_⟩;obtain⟨T,x,y,rfl,s,rfl,h1,h2⟩:=j;have o:=h1 xs f;have r:=h2 ys d;refine hg (v1:=x) (v2:=y) (Al) ?_;refine hs i x y zs H2 T _ o r b p s λz c q k=>⟨q,by lia,xs.length-(i+1),by lia,U,hlt,by rw[DN,b];rfl,⟨_,_,U⟩,k⟩
 ·have e:i=xs.length:=by lia
  subst e;exact .inl ⟨⟨xs,ys,f,d,.inl (BX _)⟩,hd zs H2 b p⟩
end L2
namespace Bt
theorem iT(x y:Nat):(x&&&y)=2*((x / 2)&&&(y / 2))+(x%2)*(y%2):=by
 have h1:(x&&&y) / 2=(x / 2)&&&(y / 2):=Nat.and_div_two;have h2:(x&&&y)%2=1↔x%2=1/\y%2=1:=Nat.and_mod_two_eq_one;rcases MJ x with a | a<;>rcases MJ y with b | b<;>rw[a,b]at h2 ⊢<;>lia
theorem X5w(x y:Nat):(x ||| y)=2*((x / 2) ||| (y / 2))+(x%2+y%2-(x%2)*(y%2)):=by
 have h1:(x ||| y) / 2=(x / 2) ||| (y / 2):=Nat.or_div_two
 have h2:(x ||| y)%2=1↔x%2=1\/y%2=1:=Nat.or_mod_two_eq_one;rcases MJ x with a | a<;>rcases MJ y with b | b<;>rw[a,b]at h2 ⊢<;>lia
def Half (x y:Int):Prop:=Builtin.bitAnd x y=2*Builtin.bitAnd (x / 2) (y / 2)+(x%2)*(y%2)
variable{x y:Int}
theorem Half.swap(h:Half x y):Half y x:=by
 unfold Half at h ⊢;rw[bitAnd_comm y x,bitAnd_comm (y / 2),JB (y%2)];exact h
theorem Half.flip(h:Half x (Builtin.bitNot y)):Half x y:=by
 unfold Half at h ⊢;have e:=bitAnd_not x (Builtin.bitNot y);have a:=bitAnd_not (x / 2) (Builtin.bitNot (y / 2));rw[WY]at e a;have q:Builtin.bitNot (y / 2)=Builtin.bitNot y / 2:=by unfold Builtin.bitNot;lia
 have p:x%2*(y%2)=x%2-x%2*(Builtin.bitNot y%2):=by
  rw[show y%2=1-Builtin.bitNot y%2 by unfold Builtin.bitNot;lia,Int.mul_sub,Qp]
 rw[e,a,q,h,p];lia
theorem Half.pos(hx:0<=x)(hy:0<=y):Half x y:=by
 have h:∀{z:Int},0<=z->z.toNat / 2=(z / 2).toNat/\((z.toNat%2:Nat):Int)=z%2:=λh=>by lia
 unfold Half;rw[bitAnd_pp hx hy,bitAnd_pp (gk hx (by decide)) (gk hy (by decide)),iT,(h hx).1,(h hy).1,<-(h hx).2,<-(h hy).2,Int.natCast_add,Int.natCast_mul,Int.natCast_mul];rfl
theorem Half.right(hx:0<=x)(y:Int):Half x y :=
 (Classical.em (0<=y)).elim (Half.pos hx) λa=>(Half.pos hx (bitNot_nonneg.mpr a)).flip
theorem jC(x y:Int):Builtin.bitAnd x y=2*Builtin.bitAnd (x / 2) (y / 2)+(x%2)*(y%2):=
 (Classical.em (0<=x)).elim (λa=>Half.right a y) λa=>(Half.right (bitNot_nonneg.mpr a) y).swap.flip.swap
theorem X1w(x y:Int):Builtin.bitOr x y=2*Builtin.bitOr (x / 2) (y / 2)+(x%2+y%2-(x%2)*(y%2)):=by
 rw[bitOr_and,bitOr_and,jC];lia
theorem je{v:Nat}:(2:Int)^(v+1) ∣ x↔x%2=0/\(2:Int)^v ∣ x / 2:=by
 constructor
 ·rintro ⟨k,rfl⟩;have e:(2:Int)^(v+1)*k=2*(2^v*k):=by rw[Qt];grind
  rw[e];exact⟨by lia,⟨k,by lia⟩⟩
 ·rintro ⟨b,k,a⟩;refine⟨k,?_⟩;have e:(2:Int)^(v+1)*k=2*(2^v*k):=by rw[Qt];grind
  rw[e,<-a];lia
theorem RQ:∀(v:Nat) (x y:Int),(2:Int)^v ∣ Builtin.bitOr x y↔(2:Int)^v ∣ x/\(2:Int)^v ∣ y
 | 0,x,y=>by simp
 | v+1,x,y=>by
  rw[je,je,je];have e:=X1w x y;have g:=RQ v (x / 2) (y / 2);have ex:=Wb x;have f:=Wb y;rcases ex with a | a<;>rcases f with b | b<;>rw[a,b]at e ⊢
  ·have d:Builtin.bitOr x y / 2=Builtin.bitOr (x / 2) (y / 2):=by lia
   rw[d,g];have c:Builtin.bitOr x y%2=0:=by lia
   simp[c]
  all_goals
   have c:Builtin.bitOr x y%2=1:=by lia
   simp[c]
theorem Y2h(n:Nat):n<2^n:=Nat.lt_two_pow_self
theorem o_(h:∀v:Nat,(2:Int)^v ∣ x):x=0:=by
 have h1:=h x.natAbs;apply Classical.byContradiction;intro b;have h2:=Wu.mpr h1;have a:=WX (by lia) h2;rw[gj]at a;have:=Y2h x.natAbs;have e:(2:Int).natAbs=2:=rfl;rw[e]at a;lia
theorem iV:Builtin.bitOr x y=0↔x=0/\y=0:=by
 constructor
 ·intro h;have a:∀v:Nat,(2:Int)^v ∣ Builtin.bitOr x y:=λv=>by rw[h];exact Int.dvd_zero _
  exact⟨o_ λv=>((RQ v x y).mp (a v)).1,o_ λv=>((RQ v x y).mp (a v)).2⟩
 ·rintro ⟨rfl,rfl⟩;decide +kernel
theorem qp:∀(n:Nat) (p:Int),p.natAbs<n->p≠0->∃(v:Nat) (q:Int),p=2^v*q/\q%2=1/\Builtin.bitAnd p (-p)=((2^v:Nat):Int)
 | 0,p,h,_=>by lia
 | n+1,p,h,hp=>by
  rcases Wb p with h0 | h1
  ·obtain⟨v,q,e,o,b⟩:=qp n (p / 2) (by lia) (by lia);refine⟨v+1,q,?_,o,?_⟩
   ·have a:(2:Int)^(v+1)*q=2*(2^v*q):=by rw[Qt];grind
    rw[a,<-e];lia
   ·rw[jC,show (-p) / 2=-(p / 2) by lia,b,h0,TV];lia
  ·refine⟨0,p,by simp,h1,?_⟩;rw[jC,show (-p) / 2=Builtin.bitNot (p / 2) by unfold Builtin.bitNot;lia,bitAnd_not,bitAnd_self,h1,show (-p)%2=1 by lia];rw[bT];rfl
theorem jD(v:Nat):Builtin.Int.intBits ((2^v:Nat):Int)=v+1:=by
 unfold Builtin.Int.intBits;have hp:0<2^v:=Ji v;have a:((((2^v:Nat):Int)) == 0)=false:=by
  rw[beq_eq_false_iff_ne];lia
 rw[a,Pn,Nat.log2_two_pow];rfl
end Bt
namespace L2
section
variable {X:Cx}
def lR (i j:Int):Prop:=∃a,Sz a i/\0<=j/\(a:Int)+j<=1048576
theorem KJ:DP X (binaryOp .LShift) (rI lR λi j=>.int (i*2^j.toNat)):=Om λi j _ _ _ _ _ b q=>by
 obtain⟨a,h1,h2,c⟩:=b;have:=h1.bits;exact lshift_int h2 (by lia) q
theorem jR:lM X "int.bit_length" (λx xs H Q=>∃i,x=.int i/\xs=[]/\Q (.int (Builtin.Int.intBits i:Nat)) H):=by
 intro pins s σ H x xs v us Q I a b h;obtain⟨i,rfl,rfl,q⟩:=h;obtain⟨t,rfl⟩:=a;cases b;refine call_gives W_ (XJ s i t) PySem.F.entry_int_bit_length (PySem.F.args_int_bit_length_1 _) (PySem.AutoIntG2.int_bit_length_int_0 i t) ?_;exact⟨.int (Builtin.Int.intBits i:Nat),H,I.tok _,⟨_,U⟩,q⟩
theorem jQ(hc:X.calm=true):CW X (.builtin "any") (λxs H Q=>∃(p:Y9) (bs:List Bool),xs=[.ref p]/\Ai X.K H p (bs.map V.bl)/\Q (.bl (bs.any id)) H):=by
 intro pins s σ H xs us Q I r h;obtain⟨p,bs,rfl,z,q⟩:=h;obtain⟨u,rfl,k⟩:=r.one;cases k;obtain⟨its,n,g,D⟩:=I.list z;have a:its.length=bs.length:=by rw[<-n.length,BL]
 refine call_any_walk (Wk g.isList ?_)
 have W:=Walks.list (prog:=X.prog) (w:=X.w) (A:=X.A.in1) (show X.A.in1.handled=none from I.ok.hd hc) s.heap.objs.size p (by
  obtain⟨o,e,_⟩:=g.isList
  exact Dc (Bp e)) its.toArray
 refine⟨s.heap.objs.size,_,_,_,_,_,λi=>bs.getD i false,U,W,⟨⟨_,FT _ rfl,U,U⟩,g.isList.push _⟩,?_,λh' tk x=>?_⟩
 ·intro i v s' C B y t;have f:its[i]?=some v:=by simpa using y
  have hi:i<bs.length:=by rw[<-a];exact(DW.mp f).1
  have c:(bs.map V.bl)[i]?=some (.bl (bs.getD i false)):=by
   rw[Cp,Cv hi,FW,Cv hi];rfl
  obtain⟨u,l,k⟩:=n.get c;rw[f]at l;cases l;cases k;exact Pk t
 ·have e:(List.range its.toArray.size).any (λi=>bs.getD i false)=bs.any id:=by
   rw[DQ,a];rw[Pg,ZQ,ZQ];constructor
   ·rintro ⟨i,hi,c⟩;have d:i<bs.length:=Em.mp hi;rw[FW,Cv d]at c;exact⟨bs[i],K7 d,c⟩
   ·rintro ⟨b,c,j⟩;obtain⟨i,hi,rfl⟩:=Zq.mp c;refine⟨i,Em.mpr hi,?_⟩;rw[FW,Cv hi];exact j
  rw[e];refine⟨.bl (bs.any id),H,?_,U,q⟩;exact I.kept (t':=tk) λb o m=>x b o (by simp;exact Dc (Bp m)) (DR _ m)
def Sv (K:U0)(neg:Bool):R2:=λx y H Q=>∃(a b:Y9) (ns ms:U6),x=.ref a/\y=.ref b/\Ai K H a (ns.map V.int)/\Ai K H b (ms.map V.int)/\Q (.bl (if neg then !decide (ns=ms) else decide (ns=ms))) H
theorem X1z(hu:X.A.units+64<cLine):DP X (compareOp .NotEq) (Sv X.K true):=by
 intro pins s σ H x y v u Q I f d h;obtain⟨a,b,ns,ms,rfl,rfl,h1,h2,q⟩:=h;cases f;cases d;obtain⟨its,e,p,_⟩:=I.list h1;obtain⟨its',c,p',_⟩:=I.list h2;exact PySem.W.ne_intsK p.isList (Ma e) p'.isList (Ma c) hu ⟨.bl (!decide (ns=ms)),H,I,U,q⟩
end
end L2
namespace Am
noncomputable abbrev p2 (h:Int):Int:=2^h.toNat
theorem QJ(h:Int):0<p2 h:=Qq (by decide)
theorem Ed(h:Int):p2 h≠0:=by have:=QJ h;lia
variable{a b:Int}
theorem Ih(ha:0<=a)(hb:0<=b):p2 (a+b)=p2 a*p2 b:=by
 unfold p2;rw[show (a+b).toNat=a.toNat+b.toNat by lia,Int.pow_add]
theorem KD(hb:0<=b)(h:b<=a):p2 a=p2 (a-b)*p2 b:=by
 rw[<-Ih (by lia) hb];congr 1;lia
structure Ka (a b c d h:Int):Prop where
 nn:0<=h
 odd:h=0\/a%2=1\/b%2=1\/c%2=1\/d%2=1
def D_ (x h y g:Int):Prop:=x*p2 g=y*p2 h
structure CV (a b c d h a' b' c' d' h':Int):Prop where
 e1:D_ a h a' h'
 e2:D_ b h b' h'
 e3:D_ c h c' h'
 e4:D_ d h d' h'
variable{c d h a' b' c' d' h':Int}
theorem CV.symm(s:CV a b c d h a' b' c' d' h'):CV a' b' c' d' h' a b c d h:=⟨s.e1.symm,s.e2.symm,s.e3.symm,s.e4.symm⟩
variable{x y g:Int}
theorem D_.trans{z k:Int}(a:D_ x h y g)(b:D_ y g z k):D_ x h z k:=by
 unfold D_ at *;have h1:(x*p2 k)*p2 g=(z*p2 h)*p2 g:=by
  have c:(x*p2 k)*p2 g=(x*p2 g)*p2 k:=by grind
  have d:(z*p2 h)*p2 g=(z*p2 g)*p2 h:=by grind
  rw[c,d,a,<-b];grind
 exact J9 (Ed g) h1
theorem CV.trans{a2 b2 c2 d2 h2:Int}(s:CV a b c d h a' b' c' d' h')(t:CV a' b' c' d' h' a2 b2 c2 d2 h2):CV a b c d h a2 b2 c2 d2 h2 :=
 ⟨s.e1.trans t.e1,s.e2.trans t.e2,s.e3.trans t.e3,s.e4.trans t.e4⟩
theorem D_.lift(hh:0<=h)(hg:h<=g)(e:D_ x h y g):y=x*p2 (g-h):=by
 unfold D_ at e;rw[KD hh hg]at e;have:(x*p2 (g-h))*p2 h=y*p2 h:=by rw[<-e];grind
 exact(J9 (Ed h) this).symm
theorem Xq{n:Int}(hn:0<n):(x*p2 n)%2=0:=by
 have e:p2 n=p2 (n-1)*2:=by
  rw[KD (a:=n) (b:=1) (by decide) (by lia)];rfl
 rw[e,<-Pa];lia
theorem Ka.unique_le(x:Ka a b c d h)(y:Ka a' b' c' d' h')(s:CV a b c d h a' b' c' d' h')(hle:h<=h'):a=a'/\b=b'/\c=c'/\d=d'/\h=h':=by
 have e1:=s.e1.lift x.nn hle;have e2:=s.e2.lift x.nn hle;have e3:=s.e3.lift x.nn hle;have e4:=s.e4.lift x.nn hle;have e:h=h':=by
  apply Classical.byContradiction;intro f;have hp:0<h'-h:=by lia
  have o:=y.odd;rw[e1,e2,e3,e4,Xq hp,Xq hp,Xq hp,Xq hp]at o;have:=x.nn;lia
 subst e;simp only[bT,p2,Int.toNat_zero,Int.pow_zero,Qp]at e1 e2 e3 e4;exact⟨e1.symm,e2.symm,e3.symm,e4.symm,U⟩
theorem Ka.unique(x:Ka a b c d h)(y:Ka a' b' c' d' h')(s:CV a b c d h a' b' c' d' h'):a=a'/\b=b'/\c=c'/\d=d'/\h=h':=by
 rcases Qs h h' with hle | hle
 ·exact x.unique_le y s hle
 ·obtain⟨e,i,f,g,j⟩:=y.unique_le x s.symm hle;exact⟨e.symm,i.symm,f.symm,g.symm,j.symm⟩
noncomputable abbrev Eu (a b c d:Int):Int:=Builtin.bitOr (Builtin.bitOr (Builtin.bitOr a b) c) d
variable{v:Nat}
theorem Ge:(2:Int)^v ∣ Eu a b c d↔((2:Int)^v ∣ a/\(2:Int)^v ∣ b/\(2:Int)^v ∣ c/\(2:Int)^v ∣ d):=by
 unfold Eu;rw[Bt.RQ,Bt.RQ,Bt.RQ];constructor
 ·rintro ⟨⟨⟨h1,h2⟩,e⟩,f⟩;exact⟨h1,h2,e,f⟩
 ·rintro ⟨h1,h2,e,f⟩;exact⟨⟨⟨h1,h2⟩,e⟩,f⟩
theorem JH:Eu a b c d=0↔(a=0/\b=0/\c=0/\d=0):=by
 unfold Eu;rw[Bt.iV,Bt.iV,Bt.iV];constructor
 ·rintro ⟨⟨⟨h1,h2⟩,e⟩,f⟩;exact⟨h1,h2,e,f⟩
 ·rintro ⟨h1,h2,e,f⟩;exact⟨⟨⟨h1,h2⟩,e⟩,f⟩
theorem lowest(hp:Eu a b c d≠0):∃v:Nat,((Builtin.Int.intBits (Builtin.bitAnd (Eu a b c d) (-(Eu a b c d))):Nat):Int)-1=v/\((2:Int)^v ∣ a/\(2:Int)^v ∣ b/\(2:Int)^v ∣ c/\(2:Int)^v ∣ d) /\
  ¬ ((2:Int)^(v+1) ∣ a/\(2:Int)^(v+1) ∣ b/\(2:Int)^(v+1) ∣ c/\(2:Int)^(v+1) ∣ d):=by
 obtain⟨v,q,e,o,g⟩:=Bt.qp _ (Eu a b c d) (T_ _) hp;refine⟨v,by rw[g,Bt.jD];lia,Ge.mp ⟨q,e⟩,λh=>?_⟩;have h':=Ge.mpr h;obtain⟨k,f⟩:=h';rw[e,Qt,Pa]at f;have:=RG (Ms (Qq (by decide):(0:Int)<2^v)) f;lia
theorem Xj{m:Int}(hm:0<=m)(hmh:m<=h)(hd:(2:Int)^m.toNat ∣ x):D_ x h (x / 2^m.toNat) (h-m)/\(x / 2^m.toNat).natAbs<=x.natAbs:=by
 obtain⟨k,rfl⟩:=hd;have a:(2:Int)^m.toNat≠0:=Ed m;rw[mY _ a];constructor
 ·unfold D_;rw[KD hm hmh];show 2^m.toNat*k*p2 (h-m)=k*(p2 (h-m)*2^m.toNat);grind
 ·rw[Fx];exact Zw _ (by lia)
theorem YK{m:Nat}(h:m<=v)(hd:(2:Int)^v ∣ x):(2:Int)^m ∣ x:=by
 obtain⟨k,rfl⟩:=hd;refine⟨2^(v-m)*k,?_⟩;rw[<-Pa,<-Int.pow_add,show m+(v-m)=v by lia]
theorem VR(hh:0<=h)(hd:(2:Int)^v ∣ a/\(2:Int)^v ∣ b/\(2:Int)^v ∣ c/\(2:Int)^v ∣ d)
  (hn:¬ ((2:Int)^(v+1) ∣ a/\(2:Int)^(v+1) ∣ b/\(2:Int)^(v+1) ∣ c/\(2:Int)^(v+1) ∣ d)) {m:Int} (hm:m=if h<v then h else v):
  0<=m/\m<=h/\Ka (a / 2^m.toNat) (b / 2^m.toNat) (c / 2^m.toNat) (d / 2^m.toNat) (h-m)/\CV a b c d h (a / 2^m.toNat) (b / 2^m.toNat) (c / 2^m.toNat) (d / 2^m.toNat) (h-m) /\
  ((a / 2^m.toNat).natAbs<=a.natAbs/\(b / 2^m.toNat).natAbs<=b.natAbs/\(c / 2^m.toNat).natAbs<=c.natAbs/\(d / 2^m.toNat).natAbs<=d.natAbs):=by
 have g:0<=m:=by rw[hm];split<;>lia
 have f:m<=h:=by rw[hm];split<;>lia
 have i:m.toNat<=v:=by rw[hm];split<;>lia
 obtain⟨d1,d2,s,q⟩:=hd;have n:=Xj g f (YK i d1);have p:=Xj g f (YK i d2);have r:=Xj g f (YK i s);have t:=Xj g f (YK i q);refine⟨g,f,⟨by lia,?_⟩,⟨n.1,p.1,r.1,t.1⟩,n.2,p.2,r.2,t.2⟩;by_cases hlt:h<v
 ·left;rw[hm,if_pos hlt];lia
 ·right;have j:m.toNat=v:=by rw[hm,if_neg hlt];lia
  rw[j];have tail:∀x:Int,(2:Int)^v ∣ x->¬ (x / 2^v)%2=1->(2:Int)^(v+1) ∣ x:=by
   rintro x ⟨k,rfl⟩ u;have l:(2:Int)^v≠0:=Ms (Qq (by decide));rw[mY _ l]at u;refine⟨k / 2,?_⟩;rw[Qt,Pa];congr 1;lia
  apply Classical.byContradiction;intro e;apply hn;refine⟨tail a d1 λo=>e (.inl o),tail b d2 λo=>e (.inr (.inl o)),tail c s λo=>e (.inr (.inr (.inl o))),tail d q λo=>e (.inr (.inr (.inr o)))⟩
end Am
namespace Pc
noncomputable def pc (n:Nat):Nat:=if h:n=0 then 0 else n%2+pc (n / 2)
theorem uU(n:Nat):pc n=if n=0 then 0 else n%2+pc (n / 2):=by
 delta pc;rw[WellFounded.Nat.fix_eq];rfl
theorem iY:pc 0=0:=by rw[uU];rfl
theorem iW(n:Nat):pc n=n%2+pc (n / 2):=by
 by_cases h:n=0
 ·subst h;rw[show (0 / 2:Nat)=0 from rfl,iY]
 ·rw[uU n,if_neg h]
theorem X3a(x y:Nat):(x^^^y)=2*((x / 2)^^^(y / 2))+(x%2+y%2)%2:=by
 have h1:(x^^^y) / 2=(x / 2)^^^(y / 2):=Nat.xor_div_two;have h2:(x^^^y)%2=(x%2+y%2)%2:=by
  have:=Nat.xor_mod_two_eq_one (a:=x) (b:=y);rcases MJ x with a | a<;>rcases MJ y with b | b<;>rcases MJ (x^^^y) with c | c<;>simp[a,b,c]at this ⊢
 lia
theorem q_:∀(m n:Nat),n<m->n≠0->pc (n&&&(n-1))+1=pc n
 | 0,n,h,_=>by lia
 | m+1,n,h,hn=>by
  have e:=Bt.iT n (n-1);rw[iW n,iW (n&&&(n-1))];rcases MJ n with a | a
  ·have d:(n-1) / 2=n / 2-1:=by lia
   rw[d,a,gQ]at e;have b:(n&&&(n-1)) / 2=n / 2&&&(n / 2-1):=by lia
   have c:(n&&&(n-1))%2=0:=by lia
   rw[b,c,a];have:=q_ m (n / 2) (by lia) (by lia);lia
  ·have d:(n-1) / 2=n / 2:=by lia
   have f:(n-1)%2=0:=by lia
   rw[d,f,bW,Nat.and_self]at e;have b:(n&&&(n-1)) / 2=n / 2:=by lia
   have c:(n&&&(n-1))%2=0:=by lia
   rw[b,c,a];lia
theorem uR:∀(m x y:Nat),x<m->y<m->(x ||| y)=(x^^^y)+(x&&&y)
 | 0,x,y,h,_=>by lia
 | m+1,x,y,hx,hy=>by
  by_cases z:x=0/\y=0
  ·obtain⟨rfl,rfl⟩:=z;rfl
  ·have e:=X3a x y;have c:=Bt.iT x y;have d:=Bt.X5w x y;by_cases q:x / 2<m/\y / 2<m
   ·have:=uR m (x / 2) (y / 2) q.1 q.2;rcases MJ x with a | a<;>rcases MJ y with b | b<;>rw[a,b]at e c d<;>lia
   ·exfalso;lia
theorem V7(x y:Nat):Builtin.bitAnd (x:Int) (y:Int)=((x&&&y:Nat):Int):=by rw[bitAnd_pp (by lia) (by lia)];simp
theorem X7q(x y:Nat):Builtin.bitXor (x:Int) (y:Int)=((x^^^y:Nat):Int):=by
 have h:Builtin.bitXor (x:Int) (y:Int)=Builtin.bitOr x y-Builtin.bitAnd x y:=rfl;have h2:Builtin.bitOr (x:Int) (y:Int)=((x ||| y:Nat):Int):=by
  unfold Builtin.bitOr;rw[bitAnd_nn (by unfold Builtin.bitNot;lia) (by unfold Builtin.bitNot;lia),WY,WY,WY];simp
 rw[h,h2,V7,uR (x+y+1) x y (by lia) (by lia)];lia
theorem Yg{x y n:Nat}(h:x<2^n)(h':y<2^n):(x^^^y)<2^n:=Nat.xor_lt_two_pow h h'
end Pc
namespace L2
theorem Same.tup{K:U0}{H H':Hp}{a:Y9}{xs:List V}(e:Same H H')(h:Ah K H a xs):Ah K H' a xs:=by
 rcases h with h | h
 ·rcases h with h | ⟨o,h⟩
  ·exact .inl (.inl (e _ _ h))
  ·exact .inl (.inr ⟨o,e _ _ h⟩)
 ·exact .inr h
theorem Same.sqx{t:Bool}{K:U0}{H H':Hp}{a:Y9}{xs:List V}(e:Same H H')(h:IK t K H a xs):IK t K H' a xs:=by
 cases t
 ·exact e.seq (show Ai K H a xs from h)
 ·exact e.tup (show Ah K H a xs from h)
section
variable {X:Cx}{scope:Scope}{Nc:W4}{ex:U3}{pins:U1}{s:U7}{H:Hp}
theorem yQ:Ql (Bg X scope Nc ex pins s H) (PN X.K):=Dy
theorem iR:Ql (Bg X scope Nc ex pins s H) (PL X.K):=Ax
theorem Rk{x y:Str}{k:Nat}{p1 p2 pos:Pos}(hc:(Bg X scope Nc ex pins s H).calm=true)(hN:Nc.Nodup)(h0:Nc[0]?=some x)(h1:Nc[1]?=some y)(l0:(Bg X scope Nc ex pins s H).env.scope.names.lookup x=some .local)(l1:(Bg X scope Nc ex pins s H).env.scope.names.lookup y=some .local):
  PG (Bg X scope Nc ex pins s H) (.Tuple [.Name x p1,.Name y p2] k pos) (Va X.K 2 (Ld (CQ 0) (Ld (CQ 1) Vb))):=
 QK (X:=Bg X scope Nc ex pins s H) hc (FZ (Bq (i:=0) hN h0 (.inl l0) (.inr l0)) (FZ (Bq (i:=1) hN h1 (.inl l1) (.inr l1)) QV))
end
theorem qm{t1 t2:Bool}{K:U0}{l1 l2:Y9}{g:TG}{ns ms:U6}{te:TE}{fr:St}{H1:Hp}{acc:Y9}{Q:VK}(f:Int->Int->Int)(hxy:ns.length=ms.length)(hn:ns.length<=sizeLine)
  (h1:IK t1 K H1 l1 (ns.map V.int)) (h2:IK t2 K H1 l2 (ms.map V.int)) (hacc:H1 acc=none)
  (hg:∀{a:Y9}{x y:V}{w1 w2:Option V}{H:Hp}{Q:St->Hp->Prop},H a=some (.tup [x,y])->Q (some x::some y::fr) H->g (.ref a) (w1::w2::fr) H Q)
  (hs:∀n m H (N:V->Hp->Prop),n∈ns->m∈ms->N (.int (f n m)) H->te (some (.int n)::some (.int m)::fr) H N)
  (hd:∀H2,Same H1 H2->H2 acc=some (.lst ((List.zipWith f ns ms).map V.int))->Q (.ref acc) H2):IV (WK t1 t2 K l1 l2) g te (none::none::fr) H1 acc Q:=by
 refine pL (xs:=ns.map V.int) (ys:=ms.map V.int) (λi zs H'=>Same H1 H'/\H' acc=some (.lst zs)/\zs=((List.zipWith f ns ms).take i).map V.int) (by simp[hxy]) (by simp;exact hn)
  ⟨Aw hacc _,Al,U⟩ (λt s=>hg t s) (λi zs H p=>⟨p.1.sqx h1,p.1.sqx h2⟩) ?_ ?_
 ·rintro i x y zs H T N o q r ⟨h,d,k⟩ l u;rw[Cp]at o q;obtain⟨n,c,rfl⟩:=Dm.mp o;obtain⟨m,b,rfl⟩:=Dm.mp q;refine hs n m _ _ (Hq c) (Hq b) ?_;have j:acc≠T:=λe=>by rw[<-e,d]at l;cases l
  refine u _ _ (by rw[Bw j];exact d) ⟨El (h.trans (Aw l _)) hacc,Al,?_⟩;have:(List.zipWith f ns ms)[i]?=some (f n m):=by rw[List.getElem?_zipWith,c,b]
  rw[Jk,this,Dj,k];rfl
 ·rintro zs H r ⟨h,d,k⟩;refine hd H h ?_;rw[d,k,MF];simp only[List.length_zipWith,BL];lia
section
variable {K:U0}{a:Y9}{ns:U6}{te:TE}{fr:St}{H1:Hp}{acc:Y9}{Q:VK}
theorem Vt{J:It}{n:Nat}{val:Nat->V}(f:Nat->V)(hn:n<=sizeLine)(hacc:H1 acc=none)
  (hgo:∀i H,i<n->Same H1 H->J.go i H/\∀x H',J.yld i H x H'->H'=H/\x=val i) (hst:∀H,Same H1 H->J.stop n H)
  (hs:∀i H (N:V->Hp->Prop),i<n->Same H1 H->N (f i) H->te (some (val i)::fr) H N)
  (hd:∀H2,Same H1 H2->H2 acc=some (.lst ((List.range n).map f))->Q (.ref acc) H2):IV J (CQ 0) te (none::fr) H1 acc Q:=by
 refine j_ (val:=val) (λi ys H'=>Same H1 H'/\H' acc=some (.lst ys)/\ys=(List.range i).map f) hn ⟨Aw hacc _,Al,U⟩ (λi ys H hi p=>hgo i H hi p.1) (λys H p=>hst H p.1) ?_ ?_
 ·rintro i ys H N hi e ⟨a,c,b⟩ d;refine hs i H N hi a (d _ _ c ⟨El a hacc,Al,?_⟩);rw[b,N_,Dj];rfl
 ·rintro ys H e ⟨a,c,b⟩;exact hd H a (by rw[c,b])
theorem _z{lo:Int}{n:Nat}(f:Nat->V)(hn:n<=sizeLine)(hacc:H1 acc=none)(hs:∀i H (N:V->Hp->Prop),i<n->Same H1 H->N (f i) H->te (some (.int (lo+i))::fr) H N)
  (hd:∀H2,Same H1 H2->H2 acc=some (.lst ((List.range n).map f))->Q (.ref acc) H2):IV (Fz lo n) (CQ 0) te (none::fr) H1 acc Q :=
 Vt (val:=λi=>.int (lo+i)) f hn hacc (λi H hi s=>⟨hi,λx H' y=>y⟩) (λH s=>BX _) hs hd
theorem Xu(ns:U6)(f:Int->V):(List.range ns.length).map (λi=>f (ns.getD i 0))=ns.map f:=by
 apply Tv
 ·simp
 ·intro i h1 h2;simp at h1;simp[h1]
theorem jH(f:Int->V)(hl:Ai K H1 a (ns.map V.int))(hn:ns.length<=sizeLine)(hacc:H1 acc=none)(hs:∀n H (N:V->Hp->Prop),Same H1 H->N (f n) H->te (some (.int n)::fr) H N)
  (hd:∀H2,Same H1 H2->H2 acc=some (.lst (ns.map f))->Q (.ref acc) H2):IV (KZ K a) (CQ 0) te (none::fr) H1 acc Q:=by
 refine Vt (n:=ns.length) (val:=λi=>.int (ns.getD i 0)) (λi=>f (ns.getD i 0)) hn hacc (λi H hi s=>?_) (λH s=>⟨_,s.seq hl,by simp⟩) (λi H N hi s b=>hs _ H N s b) (λH2 s h=>hd H2 s (by rw[h,Xu]));have e:(ns.map V.int)[i]?=some (.int (ns.getD i 0)):=by simp[hi]
 refine⟨⟨_,_,s.seq hl,e⟩,λx H' y=>⟨y.1,?_⟩⟩;have:=y.2 _ (s.seq hl);rw[e]at this;exact(Option.some.inj this).symm
theorem qj(f:Int->V)(hl:Ah K H1 a (ns.map V.int))(hn:ns.length<=sizeLine)(hacc:H1 acc=none)(hs:∀n H (N:V->Hp->Prop),Same H1 H->N (f n) H->te (some (.int n)::fr) H N)
  (hd:∀H2,Same H1 H2->H2 acc=some (.lst (ns.map f))->Q (.ref acc) H2):IV (Qm K a) (CQ 0) te (none::fr) H1 acc Q:=by
 refine Vt (n:=ns.length) (val:=λi=>.int (ns.getD i 0)) (λi=>f (ns.getD i 0)) hn hacc (λi H hi s=>?_) (λH s=>⟨_,s.tup hl,by simp⟩) (λi H N hi s b=>hs _ H N s b) (λH2 s h=>hd H2 s (by rw[h,Xu]));have e:(ns.map V.int)[i]?=some (.int (ns.getD i 0)):=by simp[hi]
 refine⟨⟨_,_,s.tup hl,e⟩,λx H' y=>⟨y.1,?_⟩⟩;have:=y.2 _ (s.tup hl);rw[e]at this;exact(Option.some.inj this).symm
end
section
variable {X:Cx}
end
section
variable {κ:Type} [DecidableEq κ]
noncomputable def Ym (kvs:List (κ×V))(k:κ):Option V:=(kvs.find? λkv=>decide (kv.1=k)).map (·.2)
theorem X7o{k:κ}:Ym ([]:List (κ×V)) k=none:=rfl
end
section
variable {P:U8}{w:W5}{H:Hp}{h:Heap}{a:Y9}
end
section
variable {X:Cx}{pins:U1}{σ:St}{H:Hp}{s:U7}{a:Y9}{y v:V}{u r:W8}{o:Option V}{A:Y6}{E:U2}
end
section
variable {X:Cx}{pins:U1}{σ:St}{H:Hp}{s:U7}{a:Y9}{kvs:List (Key×V)}{k:Key}{u:W8}{A:Y6}{E:U2}
end
section
variable {X:Cx}{o i e value:Expr}{pos pos' tpos:Pos}{td ty tv:TE}
end
section
variable {X:Cx}{pos:Pos}
end
section
variable {X:Cx}{pins:U1}{σ:St}{H:Hp}{s:U7}{a:Y9}{y d:V}{u r:W8}{o:Option V}{A:Y6}{E:U2}
end
section
variable {X:Cx}{o e f:Expr}{apos cpos:Pos}{td ty tx:TE}
end
end L2
namespace L2
def CG (i j:Int):Prop:=∃a b,Sz a i/\Sz b j/\a+b<=100000000
theorem CG.ok{i j:Int}(h:CG i j):IntMulOk i j:=by
 obtain⟨a,b,h1,h2,d⟩:=h;have e:=h1.bits;have c:=h2.bits;unfold IntMulOk
 rw[show Builtin.Int.intTooBig (Builtin.Int.intBits i+Builtin.Int.intBits j)=false by
  unfold Builtin.Int.intTooBig
  have:bitsLine=134217728:=rfl
  rw[this]
  exact Dl (by lia)]
 simp
section
variable {X:Cx}
theorem CT:DP X (binaryOp .Mult) (rI CG λi j=>.int (i*j)):=Om λ_ _ _ _ _ _ _ a q=>mul_int q a.ok
theorem Rm(hc:X.calm=true):CW X (.builtin "all") (λxs H Q=>∃(p:Y9) (bs:List Bool),xs=[.ref p]/\Ai X.K H p (bs.map V.bl)/\Q (.bl (bs.all id)) H):=by
 intro pins s σ H xs us Q I r h;obtain⟨p,bs,rfl,x,q⟩:=h;obtain⟨u,rfl,g⟩:=r.one;cases g;obtain⟨its,l,f,D⟩:=I.list x;have a:its.length=bs.length:=by rw[<-l.length,BL]
 refine call_all_walk (Wk f.isList ?_)
 have W:=Walks.list (prog:=X.prog) (w:=X.w) (A:=X.A.in1) (show X.A.in1.handled=none from I.ok.hd hc) s.heap.objs.size p (by
  obtain⟨o,e,_⟩:=f.isList
  exact Dc (Bp e)) its.toArray
 refine⟨s.heap.objs.size,_,_,_,_,_,λi=>bs.getD i false,U,W,⟨⟨_,FT _ rfl,U,U⟩,f.isList.push _⟩,?_,λh' tk n=>?_⟩
 ·intro i v s' C B t m;have d:its[i]?=some v:=by simpa using t
  have hi:i<bs.length:=by rw[<-a];exact(DW.mp d).1
  obtain⟨u,j,g⟩:=l.get (show (bs.map V.bl)[i]?=some (.bl (bs.getD i false)) by simp[hi]);rw[d]at j;cases j;cases g;exact Pk m
 ·have e:(List.range its.toArray.size).all (λi=>bs.getD i false)=bs.all id:=by
   rw[DQ,a,Pg,Wf,Wf];constructor
   ·intro z b y;obtain⟨i,hi,rfl⟩:=Zq.mp y;have:=z i (Em.mpr hi);simpa [hi] using this
   ·intro z i hi;have c:i<bs.length:=Em.mp hi;have:=z bs[i] (K7 c);simpa [c] using this
  rw[e];refine⟨.bl (bs.all id),H,?_,U,q⟩;exact I.kept (t':=tk) λb o k=>n b o (by simp;exact Dc (Bp k)) (DR _ k)
end
section
variable {P:U8}{w:W5}{H:Hp}{h:Heap}
def Fq (H:Hp):List Addr->List (List Int)->Prop:=Paired λp ns=>H p=some (.tup (ns.map V.int))
theorem pC(ok:Et P w H h):∀{ps:U3}{xs:List (List Int)}{us:U5},Fq H ps xs->Vals (ps.map V.ref) us->∃b,ReadsAll h us (xs.map λns=>PyData.tuple (ns.map PyData.int)) b
 | [],[],us,.nil,r=>by cases r;exact⟨[],.nil⟩
 | p::ps,ns::xs,us,.cons e r,rv=>by
  cases rv with
  | cons ru rr =>
   cases ru;obtain⟨b,c⟩:=pC ok r rr;obtain⟨_,its,a,d⟩:=(show Bc P w H h p (.tup (ns.map V.int)) from ok p _ e);exact⟨_,.cons (V6 d (Ma a)) c⟩
end
section
variable {X:Cx}
theorem o7:∀xs:List (List Int),PyData.canLayAll0 (xs.map λns=>PyData.tuple (ns.map PyData.int))=true
 | []=>by simp[PyData.canLayAll0]
 | n::r=>by simp[PyData.canLayAll0,PyData.canLay0,o7 r,mW n]
theorem oU:∀xs:List (List Int),PyData.depthAll (xs.map λns=>PyData.tuple (ns.map PyData.int))<=2
 | []=>by simp[PyData.depthAll]
 | n::r=>by
  have h1:=oU r;have h2:=nQ n;simp only[Jh,PyData.depthAll,PyData.depth];lia
theorem Xy(xs:List (List Int)):SeqAt.shaped (.list (xs.map λns=>PyData.tuple (ns.map PyData.int)))=true:=by
 have h2:PyData.depth (.list (xs.map λns=>PyData.tuple (ns.map PyData.int)))<=64:=by
  have:=oU xs;simp only[PyData.depth];lia
 show (PyData.canLay0 _ && decide _)=true;rw[L_];exact⟨by simp only[PyData.canLay0];exact o7 xs,DK h2⟩
theorem jZ:∀xs ys:List (List Int),SeqAt.noMixAll (xs.map λns=>PyData.tuple (ns.map PyData.int)) (ys.map λns=>PyData.tuple (ns.map PyData.int))=true
 | [],[]=>by simp[SeqAt.noMixAll]
 | [],_::_=>by simp[SeqAt.noMixAll]
 | _::_,[]=>by simp[SeqAt.noMixAll]
 | n::r,m::q=>by
  simp only[Jh,SeqAt.noMixAll,SeqAt.noMix,L_];exact⟨Zh n m,jZ r q⟩
theorem jU:∀xs ys:List (List Int),PySem.Spec.sameAll (xs.map λns=>PyData.tuple (ns.map PyData.int)) (ys.map λns=>PyData.tuple (ns.map PyData.int))=decide (xs=ys)
 | [],[]=>by simp[PySem.Spec.sameAll]
 | [],_::_=>by simp[PySem.Spec.sameAll]
 | _::_,[]=>by simp[PySem.Spec.sameAll]
 | n::r,m::q=>by
  simp only[Jh,PySem.Spec.sameAll,PySem.Spec.same,Zd,jU r q];by_cases e:n=m<;>simp[e]
def Nv (neg:Bool):R2:=λx y H Q=>∃(a b:Y9) (ps qs:U3) (xs ys:List (List Int)),x=.ref a/\y=.ref b/\H a=some (.lst (ps.map V.ref))/\H b=some (.lst (qs.map V.ref))/\Fq H ps xs/\Fq H qs ys/\Q (.bl (if neg then !decide (xs=ys) else decide (xs=ys))) H
theorem Xx{pins:U1}{σ:St}{H:Hp}{s:U7}(I:Inv X pins σ H s){a:Y9}{ps:U3}{xs:List (List Int)}(h:H a=some (.lst (ps.map V.ref)))(r:Fq H ps xs):∃as,Reads s.heap (.ref a) (.list (xs.map λns=>PyData.tuple (ns.map PyData.int))) as:=by
 obtain⟨its,f,c,_⟩:=I.list (Ai.of h);obtain⟨as,b⟩:=pC I.hok r f;obtain⟨o,e,g,n,d⟩:=c.isList;exact⟨_,Reads.list e g d (by simpa using b)⟩
theorem qz(hu:X.A.units+64<cLine):DP X (compareOp .Eq) (Nv false):=by
 intro pins s σ H x y v u Q I g d h;obtain⟨a,b,ps,k,xs,ys,rfl,rfl,h1,h2,e,c,q⟩:=h;cases g;cases d;obtain⟨j,f⟩:=Xx I h1 e;obtain⟨bs,i⟩:=Xx I h2 c;refine eq_dataH_same f i (Xy xs) (Xy ys) hu (by simp only[SeqAt.noMix];exact jZ xs ys) ⟨.bl (decide (xs=ys)),H,I,?_,q⟩;show _=_;simp only[PySem.Spec.same];rw[jU]
theorem iU(hu:X.A.units+64<cLine):DP X (compareOp .NotEq) (Nv true):=by
 intro pins s σ H x y v u Q I g d h;obtain⟨a,b,ps,k,xs,ys,rfl,rfl,h1,h2,e,c,q⟩:=h;cases g;cases d;obtain⟨j,f⟩:=Xx I h1 e;obtain⟨bs,i⟩:=Xx I h2 c;refine gY f i (Xy xs) (Xy ys) hu (by simp only[SeqAt.noMix];exact jZ xs ys) ⟨.bl (!decide (xs=ys)),H,I,?_,q⟩;show _=_;simp only[PySem.Spec.same];rw[jU]
end
section
variable {X:Cx}{scope:Scope}{Nc:W4}{ex:U3}{pins:U1}{s:U7}{H:Hp}
theorem jJ(hu:X.A.units+64<cLine):DP (Bg X scope Nc ex pins s H) (compareOp .Eq) (HW X.K false):=q9 hu
theorem tH(hu:X.A.units+64<cLine):DP (Bg X scope Nc ex pins s H) (compareOp .NotEq) (HW X.K true):=Xe hu
end
end L2
namespace Ba
open L2 Am Pc
noncomputable abbrev T5 (a b c d h:Int):HO:=.tup [.int a,.int b,.int c,.int d,.int h]
structure Red (a b c d h x y z u g:Int):Prop where
 amt:Ka x y z u g
 same:CV a b c d h x y z u g
 s1:x.natAbs<=a.natAbs
 s2:y.natAbs<=b.natAbs
 s3:z.natAbs<=c.natAbs
 s4:u.natAbs<=d.natAbs
 le:g<=h
structure Gw (n:Nat) (a b c d:Int):Prop where
 z1:Sz n a
 z2:Sz n b
 z3:Sz n c
 z4:Sz n d
variable{a b c d h x y z u g:Int}{n:Nat}
theorem Red.sz(r:Red a b c d h x y z u g)(s:Gw n a b c d):Gw n x y z u:=⟨s.z1.le r.s1,s.z2.le r.s2,s.z3.le r.s3,s.z4.le r.s4⟩
theorem Gw.mono{m:Nat}(s:Gw m a b c d)(h:m<=n):Gw n a b c d:=⟨s.z1.mono h,s.z2.mono h,s.z3.mono h,s.z4.mono h⟩
noncomputable def Bx:Nat->Int×Int×Int×Int->Int×Int×Int×Int
 | 0,v=>v
 | n+1,v=>let (a,b,c,d):=Bx n v;(-d,a,b,c)
noncomputable abbrev T4 (v:Int×Int×Int×Int)(h:Int):HO:=T5 v.1 v.2.1 v.2.2.1 v.2.2.2 h
abbrev A5:=(Int×Int×Int×Int)×Int
noncomputable abbrev tA (x:A5):HO:=T4 x.1 x.2
noncomputable def E_ (x:A5)(k:Int):A5:=(Bx (k%8).toNat x.1,x.2)
structure Gh (n:Nat) (m:Int) (x:A5):Prop where
 sz:Gw n x.1.1 x.1.2.1 x.1.2.2.1 x.1.2.2.2
 amt:Ka x.1.1 x.1.2.1 x.1.2.2.1 x.1.2.2.2 x.2
 le:x.2<=m
theorem Gh.mono{n':Nat}{m m':Int}{x:A5}(o:Gh n m x)(h:n<=n')(h':m<=m'):Gh n' m' x:=⟨o.sz.mono h,o.amt,I_ o.le h'⟩
theorem jr{n:Nat}{m:Int}{v:Int×Int×Int×Int}{h:Int}(o:Gh n m (v,h)):∀k,Gh n m (Bx k v,h)
 | 0=>o
 | k+1=>by
  have:=jr o k;show Gh n m ((-(Bx k v).2.2.2,(Bx k v).1,(Bx k v).2.1,(Bx k v).2.2.1),h);refine⟨⟨this.sz.z4.neg,this.sz.z1,this.sz.z2,this.sz.z3⟩,⟨this.amt.nn,?_⟩,this.le⟩;have o:h=0\/(Bx k v).1%2=1\/(Bx k v).2.1%2=1\/(Bx k v).2.2.1%2=1\/(Bx k v).2.2.2%2=1:=this.amt.odd;show h=0\/(-(Bx k v).2.2.2)%2=1\/(Bx k v).1%2=1\/(Bx k v).2.1%2=1\/(Bx k v).2.2.1%2=1;lia
def Bj (H:Hp)(ps:U3)(f:Nat->A5):Prop:=∀i p,ps[i]?=some p->H p=some (tA (f i))
theorem Bj.same{H H':Hp}{ps:U3}{f:Nat->A5}(v:Bj H ps f)(s:Same H H'):Bj H' ps f:=λi p e=>s _ _ (v i p e)
noncomputable def l5 (x:A5):List Int:=[x.1.1,x.1.2.1,x.1.2.2.1,x.1.2.2.2,x.2]
theorem rD{H:Hp}:∀{ps:U3}{f:Nat->A5},Bj H ps f->Fq H ps ((List.range ps.length).map λi=>l5 (f i))
 | [],f,_=>.nil
 | p::ps,f,v=>by
  rw[Pj,List.range_succ_eq_map,Jh,Ly];exact .cons (v 0 p rfl) (rD (ps:=ps) (f:=λi=>f (i+1)) λi q e=>v (i+1) q e)
structure Hv (a b c d h x y z u g:Int):Prop where
 same:CV a b c d h x y z u g
 s1:x.natAbs<=a.natAbs
 s2:y.natAbs<=b.natAbs
 s3:z.natAbs<=c.natAbs
 s4:u.natAbs<=d.natAbs
 le:g<=h
 nn:0<=g
theorem Hv.red(v:Hv a b c d h x y z u g)(o:g=0\/x%2=1\/y%2=1\/z%2=1\/u%2=1):Red a b c d h x y z u g:=⟨⟨v.nn,o⟩,v.same,v.s1,v.s2,v.s3,v.s4,v.le⟩
theorem Xd(hx:x%2=0)(hg:0<g):D_ x g (x / 2) (g-1):=by
 unfold D_;have e:p2 g=p2 (g-1)*2:=by rw[KD (a:=g) (b:=1) (by decide) (by lia)];rfl
 rw[e];have:x=2*(x / 2):=by lia
 generalize x / 2=y at *;subst this;grind
theorem Hv.half(v:Hv a b c d h x y z u g)(hg:0<g)(e:x%2=0/\y%2=0/\z%2=0/\u%2=0):Hv a b c d h (x / 2) (y / 2) (z / 2) (u / 2) (g-1):=by
 obtain⟨i,j,f,k⟩:=e;have:=v.s1;have:=v.s2;have:=v.s3;have:=v.s4;have:=v.le;exact⟨v.same.trans ⟨Xd i hg,Xd j hg,Xd f hg,Xd k hg⟩,by lia,by lia,by lia,by lia,by lia,by lia⟩
noncomputable abbrev M3 (q f s:Nat):HO:=.tup [.int q,.int f,.int s]
noncomputable def cell (ns:U6)(i:Int):Int:=if i<ns.length then ns.getD i.toNat 0 else 0
def Ip:Sp:=λvs H Q _=>∃(p:Y9) (a b c d h:Int),vs=[.ref p]/\H p=some (T5 a b c d h)/\∀(r:Y9) (H':Hp),Same H H'->H' r=some (T5 (-d) a b c h)->Q (.ref r) H'
def Kh:Sp:=λvs H Q _=>∃(p:Y9) (x:A5) (k:Int),vs=[.ref p,.int k]/\H p=some (tA x)/\∀(r:Y9) (H':Hp),Same H H'->H' r=some (tA (E_ x k))->Q (.ref r) H'
def Fe:Sp:=λvs H Q _=>∃n:Nat,vs=[.int n]/\Q (.int (pc n)) H
def Iz (K:U0):Sp:=λvs H Q _=>∃(a:Y9) (ns:U6) (i:Int),vs=[.ref a,.int i]/\Ai K H a (ns.map V.int)/\0<=i/\Q (.int (cell ns i)) H
def QX:Sp:=λvs H Q _=>∃i:Int,vs=[.int i]/\Q (.bl true) H
def SJ:Sp:=λvs H Q _=>∃(l:Y9) (a b c d h:Int),vs=[.ref l,.int h]/\H l=some (.lst ([a,b,c,d].map V.int))/\0<=h/\∀(p:Y9) (H':Hp) (x y z u g:Int),Same H H'->H' p=some (T5 x y z u g)->Red a b c d h x y z u g->Q (.ref p) H'
theorem X7k{ns:U6}{i:Int}(h0:0<=i)(h:i<ns.length):Le (ns.map V.int) i=some (.int (ns.getD i.toNat 0)):=by
 have a:i.toNat<ns.length:=by lia
 have b:i=((i.toNat:Nat):Int):=by lia
 have q:Le (ns.map V.int) ((i.toNat:Nat):Int)=some (.int ns[i.toNat]):=Ju (by rw[Cp,Cv a]<;>rfl);rw[<-b]at q;rw[q,FW,Cv a];rfl
theorem X3w{ps:U3}{i:Nat}{j:Int}(h:i<ps.length)(e:j=i):Le (ps.map V.ref) j=some (.ref ps[i]):=by
 subst e;exact Ju (by rw[Cp,Cv h];rfl)
theorem t2:2<=sizeLine:=by decide
theorem t3:3<=sizeLine:=by decide
theorem t4:4<=sizeLine:=by decide
theorem t5:5<=sizeLine:=by decide
theorem Lx(h:n<=64):n<=sizeLine:=CZ h (by decide)
theorem Hr(h:n<=6):2^n<=64:=CZ (Ib (by decide) h) (by decide)
theorem ipow(n:Nat):(1:Int)*2^((n:Int).toNat)=((2^n:Nat):Int):=by simp
theorem Qn:Sz 1 1:=by decide +kernel
theorem aP:(0:Int)<2:=by decide
theorem m_:(0:Int)<3:=by decide
theorem XC:(0:Int)<4:=by decide
theorem wB:(0:Int)<5:=by decide
theorem m9:(0:Int)<7:=by decide
theorem aO:(0:Int)<8:=by decide
theorem Ut:(0:Int)<40:=by decide
theorem X_:(0:Int)<2147483647:=by decide
theorem X2d{x y:Nat}:[V.int (Builtin.bitAnd (x:Int) y)]=[V.int ((x&&&y:Nat):Int)]:=by rw[V7]
theorem Fp(K:U0):PySem.W.kitOne K (.type "tuple") (.type "tuple")=some true:=by unfold PySem.W.kitOne;rw[if_pos (by decide)]
theorem YM(K:U0):PySem.W.kitOne K (.type "list") (.type "list")=some true:=by unfold PySem.W.kitOne;rw[if_pos (by decide)]
end Ba
namespace Av
open L2 Am Pc Ba
noncomputable def top (i:Nat):Stmt:=PySem.Challenge.pw_spinboard_k44_outcomes_and_words.main.body.getD i (.Pass ⟨0,0,0,0⟩)
structure Bs (mg:U4):Prop where
 isinstance:mg "isinstance"=none
 int:mg "int"=none
 bool:mg "bool"=none
 tuple:mg "tuple"=none
 list:mg "list"=none
 len:mg "len"=none
 range:mg "range"=none
 all:mg "all"=none
 any:mg "any"=none
 max:mg "max"=none
 min:mg "min"=none
 zip:mg "zip"=none
 set:mg "set"=none
 str:mg "str"=none
 enumerate:mg "enumerate"=none
 reversed:mg "reversed"=none
 abs:mg "abs"=none
 divmod:mg "divmod"=none
 sum:mg "sum"=none
 sorted:mg "sorted"=none
section
variable {P:U8}{w:W5}{K:U0}{mg:U4}{base:Heap}{k:Nat}{h:Heap}
theorem X2w(F:Ab K "_law_cell_at" (top 56) .none)(X:K.In h)(G:Ng h mg)(B:Bs mg):Aj P w K mg base (k+1) "_law_cell_at" ["_law_script","_law_k"] (Iz K):=by
 refine F.cal X G ["_law_script","_law_k"] λf H vs Q E g h=>?_;obtain⟨a,ns,i,rfl,d,e,q⟩:=h
 refine⟨_,(@Ao _ _ _ _ _ (Cd (Cg QH (pv 1) (Bm Fb rfl B.len FP (Aa (pv 0) Ae)) (Ad _))
   (@Aq _ _ _ (BW (Ak Dy (pv 0) (pv 1) (λ_ _=>rfl))))
   Ce)
  (@Aq _ _ _ (BW Ac))),?_⟩
 try dsimp only[Bv]
 have b:(ns.map V.int).length=ns.length:=BL _;refine⟨_,U,_,U,a,_,U,.inl d,_,_,U,U,_,U,Ca (λc=>?_) (λc=>?_)⟩
 ·rw[b]at c;refine⟨_,U,_,U,a,_,_,_,U,U,d,X7k e c,?_⟩;unfold cell at q;rw[if_pos c]at q;exact q
 ·rw[b]at c;unfold cell at q;rw[if_neg c]at q;exact q
theorem zG(F:Ab K "_law_whole" (top 57) .none)(X:K.In h)(G:Ng h mg)(B:Bs mg):Aj P w K mg base (k+1) "_law_whole" ["_law_found"] QX:=by
 refine F.cal X G ["_law_found"] λa H vs Q E b h=>?_;obtain⟨i,rfl,q⟩:=h;refine⟨_,(@Aq _ _ _ (BW (Lh (Bm KQ rfl B.isinstance FJ (Aa (pv 0) (Aa (Je (v:=.ty "int") rfl B.int boot_int rfl) Ae))) (KH (pP (Bm KQ rfl B.isinstance FJ (Aa (pv 0) (Aa (Je (v:=.ty "bool") rfl B.bool boot_bool rfl) Ae)))))))),?_⟩;try dsimp only[Bv]
 refine⟨_,U,_,_,_,true,U,Bk.int i,vU K,_,U,Df ?_⟩;exact⟨_,U,_,_,_,false,U,Bk.int i,vR K,_,U,q⟩
theorem X2i(F:Ab K "_law_spin" (top 59) .none)(X:K.In h)(G:Ng h mg)(B:Bs mg):Aj P w K mg base (k+1) "_law_spin" ["_law_one","_law_k"] Kh:=by
 refine F.cal X G ["_law_one","_law_k","_law_a","_law_b","_law_c","_law_d","_law_h","_law_j"] λa H vs Q E d h=>?_;obtain⟨p,x,k,rfl,hp,q⟩:=h
 refine⟨_,(@Ao _ _ _ _ _ (QM (pv 0) (QK rfl (FZ (Bq (i:=2) a rfl (Or.inl rfl)) (FZ (Bq (i:=3) a rfl (Or.inl rfl)) (FZ (Bq (i:=4) a rfl (Or.inl rfl)) (FZ (Bq (i:=5) a rfl (Or.inl rfl)) (FZ (Bq (i:=6) a rfl (Or.inl rfl)) QV)))))))
  (@Ao _ _ _ _ _ (Gf PassesOwn.never rfl (Ln rfl B.range (Aa (Af Dv (pv 1) Ac) Ae)) (Bq (i:=7) a rfl (Or.inl rfl))
   (@Aq _ _ _ (QM (@Cq _ _ _ _ _ (Aa (Js Jt (pv 5)) (Aa (pv 2) (Aa (pv 3) (Aa (pv 4) Ae))))) (QK rfl (FZ (Bq (i:=2) a rfl (Or.inl rfl)) (FZ (Bq (i:=3) a rfl (Or.inl rfl)) (FZ (Bq (i:=4) a rfl (Or.inl rfl)) (FZ (Bq (i:=5) a rfl (Or.inl rfl)) QV))))))))
  (@Aq _ _ _ (BW (@Cq _ _ _ _ _ (Aa (pv 2) (Aa (pv 3) (Aa (pv 4) (Aa (pv 5) (Aa (pv 6) Ae)))))))))),?_⟩
 try dsimp only[Bv]
 refine⟨_,U,p,_,U,Ah.of hp,U,_,_,U,_,_,U,_,_,U,_,_,U,_,_,U,U,?_⟩;refine⟨_,U,_,_,U,U,aO,_,U,by lia,by lia,V3 (n:=(k%8).toNat) (λi σ H'=>Same H H'/\∃b,σ=[some (.ref p),some (.int k),some (.int (Bx i x.1).1),some (.int (Bx i x.1).2.1),some (.int (Bx i x.1).2.2.1),some (.int (Bx i x.1).2.2.2),some (.int x.2),b]) ⟨Same.refl _,_,U⟩ ?_ ?_⟩
 ·rintro i σ H' hi ⟨c,b,rfl⟩;refine⟨_,U,_,U,_,U,_,U,_,U,t4,λt e=>⟨t,_,U,Ah.of Al,U,_,_,U,_,_,U,_,_,U,_,_,U,U,c.trans (Aw e _),_,U⟩⟩
 ·rintro σ H' ⟨c,b,rfl⟩;exact⟨_,U,_,U,_,U,_,U,_,U,t5,λr d=>q r _ (c.trans (Aw d _)) Al⟩
end
end Av
noncomputable section
namespace Av
open L2
namespace Hd
open PySem.W
set_option maxHeartbeats 0
noncomputable abbrev pr:Program:=PySem.Challenge.pw_spinboard_k44_outcomes_and_words
abbrev kh:=PyData.keyHash
noncomputable def iH (s:Stmt):Pos:=match s with
 | .FunctionDef _ _ _ _ _ _ _ _ _ p=>p
 | _=>⟨0,0,0,0⟩
noncomputable def life:Life:=(Life.mk [] [] [] 0 [] [] false #[] [] 0 false false false 0 [2000,10,10] false 0 true [] [] 0 false)
noncomputable def en:Env:={ scope:=pr.main.scope,locals:=mainNs,globals:=mainNs,cells:=[],code:=(.ref 13),frame:=some 14}
noncomputable def dn (P:Params)(x:Str)(t:Nat)(v:W8):DictEntry:=DictEntry.mk (kh P x) (.str x t) v
noncomputable def Jc (n:Str)(t1:Nat)(q:Str)(t2 t3:Nat)(i1 i2 i3 i4 i5:Int)(r1:Y9)(b:Bool)(i6:Int)(r2:Y9)(v1 v2 v3:W8)(i7 i8:Int)(t4:Nat):Obj:=Obj.mk (.type "code") none (Data.fields #[.str n t1,.str q t2,.str "/claim/cut.py" t3,.int i1 0,.int i2 0,.int i3 0,.int i4 0,.int i5 0,.ref r1,.bool b,.int i6 0,.ref r2,.none,v1,v2,v3,.int i7 0,.int i8 0,.str "/claim/cut.py" t4]) #[]
noncomputable def Vc (n q:Str)(s:Stmt)(k j:Nat):Obj:=Obj.mk .none none (Data.func (FuncData.mk n q (Ey s) (FuncBody.stmts (Ei s)) (DX s) k [] .none .none .none .none none .none .none j)) #[]
noncomputable def RL (n q:Str)(s:Stmt)(k:Nat)(m:Str)(t:Nat)(c:Y9)(j:Nat):Obj:=Obj.mk (.type "function") none (Data.func (FuncData.mk n q (Ey s) (FuncBody.stmts (Ei s)) (DX s) k [] .none .none .none (.str m t) none (.ref c) .none j)) #[]
noncomputable def Jx (T:String)(n:Nat):Obj:=Obj.mk (.type T) none (Data.seq #[] n) #[]
noncomputable def tq (a:U9):Obj:=Obj.mk (.type "tuple") none (Data.seq a 0) #[]
noncomputable def Jp:Obj:=Obj.mk .none none (Data.fields #[]) #[]
abbrev Pz:=Params
noncomputable abbrev tz:Obj:=Jx "tuple" 0
noncomputable def iL (t:BT):List (Nat×Obj)->BT
 | []=>t
 | x::l=>iL (t.ins x.1 x.2) l
noncomputable def iF (t:BT):Nat->List Obj->BT
 | _,[]=>t
 | n,x::l=>iF (t.ins n x) (n+1) l
noncomputable def En (l:List DictEntry)(n:Nat):Obj:=Obj.mk (.type "dict") none (Data.dict (Array.mk l) n) #[]
noncomputable def Dq (l:U5):Obj:=Obj.mk .none none (Data.fields (Array.mk l)) #[]
noncomputable def nt:Nat->List Str->List Value
 | _,[]=>[]
 | t,x::l=>.str x t::nt (t+1) l
noncomputable def dd (m:Str)(mt:Nat)(n:Str)(i:Nat)(l k:Int)(a t:Nat):List Str->List Obj
 | []=>[tz,Jp,Vc n n (top i) 0 0,Jc n t n (t+1) (t+2) l k 0 0 3 a true 181 (a+1) .none .none (.ref (a+2)) ((t+3:Nat):Int) l (t+4),RL n n (top i) 3 m mt (a+3) 0]
 | x::xs=>[tz,Jp,Obj.mk (.type "tuple") none (Data.seq (Array.mk (nt (t+3) (x::xs))) 0) #[],tz,Vc n n (top i) 0 0,Jc n t n (t+1) (t+2) l k 0 0 3 a true 181 (a+1) (.ref (a+2)) (.ref (a+3)) (.ref (a+4)) ((t+4+xs.length:Nat):Int) l (t+5+xs.length),RL n n (top i) 3 m mt (a+5) 0]
noncomputable def co (n:Str)(A t:Nat):Obj:=Obj.mk (.type "type") none (Data.cls (ClassData.mk n [(.ref 24)] [(.ref (A+9)),(.ref 24),(.type "ValueError"),(.type "Exception"),(.type "BaseException"),(.type "object")] (A+8) n true [] [] false none false)) #[(some (.ref A)),none,(some (.str n t)),(some (.str n (t+8))),(some (.builtin "ValueError.__new__")),(some (.bool true))]
noncomputable def KC (l:W9):Obj:=Obj.mk (.type "type") none (Data.cls (ClassData.mk "BoardError" [(.type "ValueError")] [(.ref 24),(.type "ValueError"),(.type "Exception"),(.type "BaseException"),(.type "object")] 23 "BoardError" true [] (l.map Value.ref) false none false)) #[(some (.ref 15)),none,(some (.str "BoardError" 189)),(some (.str "BoardError" 197)),(some (.builtin "ValueError.__new__")),(some (.bool true))]
noncomputable def QD (n:Str)(i:Nat)(l k:Int)(a t:Nat)(ns:W4):List Obj:=dd "spinboard.shares" 412 n i l k a t ns
noncomputable def Ot (n:Str)(i:Nat)(l k:Int)(a t:Nat)(ns:W4):List Obj:=dd "spinboard.amounts" 496 n i l k a t ns
noncomputable def Vd (n:Str)(i:Nat)(l k:Int)(a t:Nat)(ns:W4):List Obj:=dd "spinboard.marks" 569 n i l k a t ns
noncomputable def Xb (n:Str)(i:Nat)(l k:Int)(a t:Nat)(ns:W4):List Obj:=dd "spinboard.boards" 611 n i l k a t ns
noncomputable def M7 (n:Str)(i:Nat)(l k:Int)(a t:Nat)(ns:W4):List Obj:=dd "spinboard.looks" 650 n i l k a t ns
noncomputable abbrev e5 (n:Str)(i c:Nat):Obj:=RL n n (top i) 3 "law_spinboard_k44_outcomes_and_words" 720 c 0
noncomputable def Ew (n:Str)(i:Nat)(l k:Int)(a t:Nat)(ns:W4):List Obj:=dd "law_spinboard_k44_outcomes_and_words" 720 n i l k a t ns
def gG(P:Pz):=(Jc "<module>" 182 "<module>" 183 184 1 0 0 0 0 11 false 181 12 .none .none .none 185 1 186)
noncomputable def fj(P:Pz):=Obj.mk (.type "frame") none Data.plain #[(some (.ref 13)),(some (.ref 3)),(some (.ref 3)),none,(some (.str "__main__" 164)),none,(some (.ref 0))]
def Ha (P:Pz):Heap:=Heap.mk (Array.mk [boot_o_0 P,boot_o_1 P,boot_o_2 P,boot_o_3 P,boot_o_4 P,boot_o_5 P,boot_o_6 P,boot_o_7 P,boot_o_8 P,boot_o_9 P,boot_o_10 P,tz,Jp,gG P,fj P]) life
def T0 (P:Pz):BT:=(.node (boot_o_0 P) (.node (boot_o_1 P) (.node (boot_o_3 P) (.node (boot_o_7 P) .nil .nil) (.node tz .nil .nil)) (.node (boot_o_5 P) (.node (boot_o_9 P) .nil .nil) (.node (gG P) .nil .nil))) (.node (boot_o_2 P) (.node (boot_o_4 P) (.node (boot_o_8 P) .nil .nil) (.node Jp .nil .nil)) (.node (boot_o_6 P) (.node (boot_o_10 P) .nil .nil) (.node (fj P) .nil .nil))))
noncomputable def l0:List Stmt:=[top 0,top 1]
noncomputable def l1:List Stmt:=[top 2]
noncomputable def l2:List Stmt:=[top 3]
noncomputable def l3:List Stmt:=[top 4]
noncomputable def l4:List Stmt:=[top 5]
noncomputable def l5:List Stmt:=[top 6]
noncomputable def l6:List Stmt:=[top 7]
noncomputable def l7:List Stmt:=[top 8]
noncomputable def l8:List Stmt:=[top 9]
noncomputable def l9:List Stmt:=[top 10]
noncomputable def l10:List Stmt:=[top 11]
noncomputable def nH:List Stmt:=[top 12,top 13,top 14,top 15,top 16,top 17]
noncomputable def nG:List Stmt:=[top 18,top 19,top 20,top 21,top 22,top 23,top 24,top 25,top 26,top 27,top 28,top 29,top 30,top 31]
noncomputable def nF:List Stmt:=[top 32,top 33,top 34,top 35,top 36,top 37,top 38,top 39,top 40,top 41,top 42,top 43,top 44,top 45,top 46,top 47]
noncomputable def nD:List Stmt:=[top 48,top 49,top 50,top 51,top 52,top 53,top 54,top 55,top 56,top 57,top 58,top 59,top 60,top 61]
noncomputable def nC:List Stmt:=[top 62,top 63,top 64,top 65,top 66,top 67,top 68,top 69,top 70,top 71,top 72,top 73,top 74]
noncomputable def nA:List Stmt:=[top 75,top 76,top 77,top 78,top 79,top 80,top 81]
noncomputable def bE:List Stmt:=l0++(l1++(l2++(l3++(l4++(l5++(l6++(l7++(l8++(l9++(l10++(nH++(nG++(nF++(nD++(nC++(nA++[]))))))))))))))))
noncomputable abbrev cE:Code:=Code.body bE en
noncomputable abbrev BB:List Frame:=[topFrame (Pos.mk 0 0 0 0)]
theorem aN(w:W5)(os:OsState):topGo treeTable pr w 11 (some (.ref 6)) 12 (Shared.mk (boot_heap w.params) (Array.mk []) boot_drawn boot_toks os) (topStub pr)=some (Shared.mk (Ha w.params) (Array.mk []) (Drawn.mk 0 0 0 0) 187 os,Thread.mk (denote treeTable cE) cE (Pos.mk 0 0 0 0) BB):=by rw[PySem.W.Fast.te15667345088766844465,PySem.W.Fast.te11892475500146522536,PySem.W.Fast.te14364793385576792824];kernel_rfl
theorem X7i(w:W5)(os:OsState):segRun treeTable pr w 11 (some (.ref 6)) 1 1 (Shared.mk (Ha w.params) (Array.mk []) (Drawn.mk 0 0 0 0) 187 os) (blockOf bE en cE (Pos.mk 0 0 0 0) BB)=some (Flow.next,(SharedT.mk (T0 w.params) 15 life (Array.mk []) (Drawn.mk 0 0 0 0) 187 os).abs,cE,(Pos.mk 0 0 0 0)):=by rw[PySem.W.Fast.te14374325043358763698,PySem.W.Fast.te14364793385576792824];kernel_rfl
noncomputable def R3(P:Pz):List DictEntry:=[(dn P "__doc__" 166 .none),(dn P "__package__" 167 .none),(dn P "__loader__" 168 (.builtin "__main__.__loader__#opaque")),(dn P "__spec__" 169 .none),(dn P "__annotations__" 170 (.ref 6)),(dn P "__builtins__" 171 (.ref 4)),(dn P "__file__" 173 (.str "/claim/cut.py" 172)),(dn P "__cached__" 174 .none),(dn P "BoardError" 206 (.ref 24))]
def bK(P:Pz):=En ((dn P "__name__" 165 (.str "spinboard.errors" 187))::R3 P) 10
noncomputable def uc(P:Pz):List Value:=[(.int 2 0),(.int 0 0),(.ref 20)]
def X9a(P:Pz):=Dq (uc P)
def wZ(P:Pz):=tq #[(.type "ValueError")]
noncomputable def VF(P:Pz):=Obj.mk (.type "builtin_function_or_method") none (Data.fields #[(.builtin "type.__prepare__"),(.type "type")]) #[]
def wY(P:Pz):=En [(dn P "__module__" 196 (.str "spinboard.errors" 187)),(dn P "__qualname__" 198 (.str "BoardError" 197)),(dn P "__firstlineno__" 200 (.int 2 199)),(dn P "__static_attributes__" 201 (.ref 22))] 4
def wX(P:Pz):=(Jc "BoardError" 191 "BoardError" 192 193 2 0 0 0 0 18 false 181 19 .none .none .none 194 2 195)
noncomputable def wW(P:Pz):=Obj.mk (.type "frame") none Data.plain #[(some (.ref 20)),(some (.ref 3)),(some (.ref 17)),none,(some (.str "spinboard.errors" 187)),none,(some (.ref 0))]
def wV(P:Pz):=En [(dn P "__module__" 196 (.str "spinboard.errors" 187)),(dn P "__firstlineno__" 200 (.int 2 199)),(dn P "__static_attributes__" 201 (.ref 22)),(dn P "__weakref__" 203 (.ref 25)),(dn P "__doc__" 204 .none)] 3
def X8s(P:Pz):=KC []
noncomputable def wU(P:Pz):=Obj.mk (.type "getset_descriptor") none (Data.fields #[(.str "__weakref__" 202),(.ref 24),(.builtin "ExceptionGroup.__weakref__"),.none]) #[]
noncomputable def wR(P:Pz):=Obj.mk (.type "super") none (Data.fields #[(.ref 24),(.ref 24),(.ref 24)]) #[]
noncomputable def wQ(P:Pz):=Obj.mk (.type "builtin_function_or_method") none (Data.fields #[(.builtin "object.__init_subclass__"),(.ref 24)]) #[]
def x1(P:Pz):List Obj:=[wZ P,VF P,wY P,tz,Jp,wX P,wW P,tz,wV P,X8s P,wU P,wR P,wQ P]
def T1 (P:Pz):BT:=iF (iL (T0 P) [(3,bK P),(12,X9a P)]) 15 (x1 P)
abbrev gs (p:U8)(b:Y8)(w:W5)(os:OsState)(k:Nat)(T:Pz->BT)(n t:Nat)(l:Y8)(q:Pos)(T':Pz->BT)(n' t':Nat)(q':Pos):Prop:=segRunT treeTable p w 11 (some (.ref 6)) 1 k (SharedT.mk (T w.params) n life (Array.mk []) (Drawn.mk 0 0 0 0) t os) (piecesOf l en (Code.body b en) q BB)=some (Flow.next,(SharedT.mk (T' w.params) n' life (Array.mk []) (Drawn.mk 0 0 0 0) t' os),Code.body b en,q')
theorem g0(p:U8)(b:Y8)(w:W5)(os:OsState):gs p b w os 196 T0 15 187 l0 (Pos.mk 0 0 0 0) T1 28 207 (Pos.mk 2 0 3 8):=by unfold gs;rw[PySem.W.Fast.te10110043849684766642,PySem.W.Fast.te14364793385576792824];kernel_rfl
def R0(P:Pz):List DictEntry:=R3 P++[(dn P "NoShare" 222 (.ref 37))]
def bJ(P:Pz):=En ((dn P "__name__" 165 (.str "spinboard.errors" 187))::R0 P) 11
def ud(P:Pz):List Value:=uc P++[(.int 4 0),(.int 0 0),(.ref 33)]
def X8z(P:Pz):=Dq (ud P)
def X8r(P:Pz):=KC [37]
def XD(P:Pz):=tq #[(.ref 24)]
def cc (P:Pz)(n:Str)(l:Int)(A t:Nat):List Obj:=[XD P,VF P,En [(dn P "__module__" (t+7) (.str "spinboard.errors" 187)),(dn P "__qualname__" (t+9) (.str n (t+8))),(dn P "__firstlineno__" (t+11) (.int l (t+10))),(dn P "__static_attributes__" (t+12) (.ref (A+7)))] 4,tz,Jp,Jc n (t+2) n (t+3) (t+4) l 0 0 0 0 (A+3) false 181 (A+4) .none .none .none ((t+5:Nat):Int) l (t+6),Obj.mk (.type "frame") none Data.plain #[(some (.ref (A+5))),(some (.ref 3)),(some (.ref (A+2))),none,(some (.str "spinboard.errors" 187)),none,(some (.ref 0))],tz,En [(dn P "__module__" (t+7) (.str "spinboard.errors" 187)),(dn P "__firstlineno__" (t+11) (.int l (t+10))),(dn P "__static_attributes__" (t+12) (.ref (A+7))),(dn P "__doc__" (t+13) .none)] 2,co n A t,Obj.mk (.type "super") none (Data.fields #[(.ref (A+9)),(.ref (A+9)),(.ref (A+9))]) #[],Obj.mk (.type "builtin_function_or_method") none (Data.fields #[(.builtin "object.__init_subclass__"),(.ref (A+9))]) #[]]
def j37(P:Pz):=co "NoShare" 28 207
def x2(P:Pz):List Obj:=cc P "NoShare" 4 28 207
def T2 (P:Pz):BT:=iF (iL (T1 P) [(3,bJ P),(12,X8z P),(24,X8r P)]) 28 (x2 P)
theorem g1(p:U8)(b:Y8)(w:W5)(os:OsState):gs p b w os 214 T1 28 207 l1 (Pos.mk 2 0 3 8) T2 40 223 (Pos.mk 4 0 5 8):=by unfold gs;rw[PySem.W.Fast.te10110043849684766642,PySem.W.Fast.te14364793385576792824];kernel_rfl
def Rz(P:Pz):List DictEntry:=R0 P++[(dn P "NoAmount" 238 (.ref 49))]
def bI(P:Pz):=En ((dn P "__name__" 165 (.str "spinboard.errors" 187))::Rz P) 12
def uf(P:Pz):List Value:=ud P++[(.int 6 0),(.int 0 0),(.ref 45)]
def X8y(P:Pz):=Dq (uf P)
def X8q(P:Pz):=KC [37,49]
def j49(P:Pz):=co "NoAmount" 40 223
def x3(P:Pz):List Obj:=cc P "NoAmount" 6 40 223
def T3 (P:Pz):BT:=iF (iL (T2 P) [(3,bI P),(12,X8y P),(24,X8q P)]) 40 (x3 P)
theorem g2(p:U8)(b:Y8)(w:W5)(os:OsState):gs p b w os 214 T2 40 223 l2 (Pos.mk 4 0 5 8) T3 52 239 (Pos.mk 6 0 7 8):=by unfold gs;rw[PySem.W.Fast.te10110043849684766642,PySem.W.Fast.te14364793385576792824];kernel_rfl
def Ry(P:Pz):List DictEntry:=Rz P++[(dn P "NoMark" 254 (.ref 61))]
def bH(P:Pz):=En ((dn P "__name__" 165 (.str "spinboard.errors" 187))::Ry P) 13
def ug(P:Pz):List Value:=uf P++[(.int 8 0),(.int 0 0),(.ref 57)]
def X8x(P:Pz):=Dq (ug P)
def X8p(P:Pz):=KC [37,49,61]
def wO(P:Pz):=co "NoMark" 52 239
def x4(P:Pz):List Obj:=cc P "NoMark" 8 52 239
def T4 (P:Pz):BT:=iF (iL (T3 P) [(3,bH P),(12,X8x P),(24,X8p P)]) 52 (x4 P)
theorem g3(p:U8)(b:Y8)(w:W5)(os:OsState):gs p b w os 214 T3 52 239 l3 (Pos.mk 6 0 7 8) T4 64 255 (Pos.mk 8 0 9 8):=by unfold gs;rw[PySem.W.Fast.te10110043849684766642,PySem.W.Fast.te14364793385576792824];kernel_rfl
def Rx(P:Pz):List DictEntry:=Ry P++[(dn P "NoBoard" 270 (.ref 73))]
def bG(P:Pz):=En ((dn P "__name__" 165 (.str "spinboard.errors" 187))::Rx P) 14
def uh(P:Pz):List Value:=ug P++[(.int 10 0),(.int 0 0),(.ref 69)]
def X8w(P:Pz):=Dq (uh P)
def X8o(P:Pz):=KC [37,49,61,73]
def j73(P:Pz):=co "NoBoard" 64 255
def x5(P:Pz):List Obj:=cc P "NoBoard" 10 64 255
def T5 (P:Pz):BT:=iF (iL (T4 P) [(3,bG P),(12,X8w P),(24,X8o P)]) 64 (x5 P)
theorem g4(p:U8)(b:Y8)(w:W5)(os:OsState):gs p b w os 214 T4 64 255 l4 (Pos.mk 8 0 9 8) T5 76 271 (Pos.mk 10 0 11 8):=by unfold gs;rw[PySem.W.Fast.te10110043849684766642,PySem.W.Fast.te14364793385576792824];kernel_rfl
def Rw(P:Pz):List DictEntry:=Rx P++[(dn P "NoMove" 286 (.ref 85))]
def bF(P:Pz):=En ((dn P "__name__" 165 (.str "spinboard.errors" 187))::Rw P) 15
def um(P:Pz):List Value:=uh P++[(.int 12 0),(.int 0 0),(.ref 81)]
def X8v(P:Pz):=Dq (um P)
def X8n(P:Pz):=KC [37,49,61,73,85]
def j85(P:Pz):=co "NoMove" 76 271
def x6(P:Pz):List Obj:=cc P "NoMove" 12 76 271
def T6 (P:Pz):BT:=iF (iL (T5 P) [(3,bF P),(12,X8v P),(24,X8n P)]) 76 (x6 P)
theorem g5(p:U8)(b:Y8)(w:W5)(os:OsState):gs p b w os 214 T5 76 271 l5 (Pos.mk 10 0 11 8) T6 88 287 (Pos.mk 12 0 13 8):=by unfold gs;rw[PySem.W.Fast.te10110043849684766642,PySem.W.Fast.te14364793385576792824];kernel_rfl
def Rv(P:Pz):List DictEntry:=Rw P++[(dn P "NoCell" 302 (.ref 97))]
def bD(P:Pz):=En ((dn P "__name__" 165 (.str "spinboard.errors" 187))::Rv P) 16
def uo(P:Pz):List Value:=um P++[(.int 14 0),(.int 0 0),(.ref 93)]
def X8u(P:Pz):=Dq (uo P)
def X8m(P:Pz):=KC [37,49,61,73,85,97]
def j97(P:Pz):=co "NoCell" 88 287
def x7(P:Pz):List Obj:=cc P "NoCell" 14 88 287
def T7 (P:Pz):BT:=iF (iL (T6 P) [(3,bD P),(12,X8u P),(24,X8m P)]) 88 (x7 P)
theorem g6(p:U8)(b:Y8)(w:W5)(os:OsState):gs p b w os 214 T6 88 287 l6 (Pos.mk 12 0 13 8) T7 100 303 (Pos.mk 14 0 15 8):=by unfold gs;rw[PySem.W.Fast.te10110043849684766642,PySem.W.Fast.te14364793385576792824];kernel_rfl
def Ru(P:Pz):List DictEntry:=Rv P++[(dn P "NeverSo" 318 (.ref 109))]
def bC(P:Pz):=En ((dn P "__name__" 165 (.str "spinboard.errors" 187))::Ru P) 17
def uq(P:Pz):List Value:=uo P++[(.int 16 0),(.int 0 0),(.ref 105)]
def X8t(P:Pz):=Dq (uq P)
def X8l(P:Pz):=KC [37,49,61,73,85,97,109]
def gM(P:Pz):=co "NeverSo" 100 303
def x8(P:Pz):List Obj:=cc P "NeverSo" 16 100 303
def T8 (P:Pz):BT:=iF (iL (T7 P) [(3,bC P),(12,X8t P),(24,X8l P)]) 100 (x8 P)
theorem g7(p:U8)(b:Y8)(w:W5)(os:OsState):gs p b w os 214 T7 100 303 l7 (Pos.mk 14 0 15 8) T8 112 319 (Pos.mk 16 0 17 8):=by unfold gs;rw[PySem.W.Fast.te10110043849684766642,PySem.W.Fast.te14364793385576792824];kernel_rfl
def ur(P:Pz):List DictEntry:=Ru P++[(dn P "NoTable" 334 (.ref 121))]
def X8k(P:Pz):=En ((dn P "__name__" 165 (.str "spinboard.errors" 187))::ur P) 18
def qH(P:Pz):List Value:=uq P++[(.int 18 0),(.int 0 0),(.ref 117)]
def X6y(P:Pz):=Dq (qH P)
def X6q(P:Pz):=KC [37,49,61,73,85,97,109,121]
def wg(P:Pz):=co "NoTable" 112 319
def x9(P:Pz):List Obj:=cc P "NoTable" 18 112 319
def T9 (P:Pz):BT:=iF (iL (T8 P) [(3,X8k P),(12,X6y P),(24,X6q P)]) 112 (x9 P)
theorem g8(p:U8)(b:Y8)(w:W5)(os:OsState):gs p b w os 214 T8 112 319 l8 (Pos.mk 16 0 17 8) T9 124 335 (Pos.mk 18 0 19 8):=by unfold gs;rw[PySem.W.Fast.te10110043849684766642,PySem.W.Fast.te14364793385576792824];kernel_rfl
def uw(P:Pz):List DictEntry:=ur P++[(dn P "NoText" 359 (.ref 140))]
def X8j(P:Pz):=En ((dn P "__name__" 165 (.str "spinboard.errors" 187))::uw P) 19
def qI(P:Pz):List Value:=qH P++[(.int 20 0),(.int 0 0),(.ref 129)]
def X6x(P:Pz):=Dq (qI P)
def X6p(P:Pz):=KC [37,49,61,73,85,97,109,121,140]
def gK(P:Pz):=En [(dn P "__module__" 342 (.str "spinboard.errors" 187)),(dn P "__qualname__" 344 (.str "NoText" 343)),(dn P "__firstlineno__" 346 (.int 20 345)),(dn P "__init__" 354 (.ref 137)),(dn P "__static_attributes__" 356 (.ref 138))] 5
noncomputable def gJ(P:Pz):=Obj.mk .none none (Data.fields #[(.int 22 0),(.int 4 0),(.ref 136)]) #[]
def gH(P:Pz):=(Jc "NoText" 337 "NoText" 338 339 20 0 0 0 0 127 false 181 128 .none .none .none 340 20 341)
noncomputable def gF(P:Pz):=Obj.mk (.type "frame") none Data.plain #[(some (.ref 129)),(some (.ref 3)),(some (.ref 126)),none,(some (.str "spinboard.errors" 187)),none,(some (.ref 0))]
def gD(P:Pz):=tq #[(.str "self" 350),(.str "place" 351)]
noncomputable def gC(P:Pz):=Obj.mk .none none (Data.func (FuncData.mk "__init__" "NoText.__init__" (Ey (MP (top 10) 0)) (FuncBody.stmts (Ei (MP (top 10) 0))) (DX (MP (top 11) 0)) 0 [] .none .none .none .none none .none .none 0)) #[]
def gB(P:Pz):=(Jc "__init__" 347 "NoText.__init__" 348 349 22 2 0 0 3 131 true 181 132 (.ref 133) (.ref 134) (.ref 135) 352 22 353)
noncomputable def gA(P:Pz):=Obj.mk (.type "function") none (Data.func (FuncData.mk "__init__" "NoText.__init__" (Ey (MP (top 10) 0)) (FuncBody.stmts (Ei (MP (top 10) 0))) (DX (MP (top 11) 0)) 3 [] .none .none .none (.str "spinboard.errors" 187) none (.ref 136) .none 0)) #[]
def f9(P:Pz):=tq #[(.str "place" 355)]
def fu(P:Pz):=En [(dn P "__module__" 342 (.str "spinboard.errors" 187)),(dn P "__firstlineno__" 346 (.int 20 345)),(dn P "__init__" 354 (.ref 137)),(dn P "__static_attributes__" 356 (.ref 138)),(dn P "__doc__" 357 .none)] 2
noncomputable def fZ(P:Pz):=Obj.mk (.type "type") none (Data.cls (ClassData.mk "NoText" [(.ref 24)] [(.ref 140),(.ref 24),(.type "ValueError"),(.type "Exception"),(.type "BaseException"),(.type "object")] 139 "NoText" true [] [] false none false)) #[(some (.ref 124)),none,(some (.str "NoText" 335)),(some (.str "NoText" 343)),(some (.builtin "ValueError.__new__")),(some (.bool true))]
noncomputable def fY(P:Pz):=Obj.mk (.type "super") none (Data.fields #[(.ref 140),(.ref 140),(.ref 140)]) #[]
noncomputable def fX(P:Pz):=Obj.mk (.type "builtin_function_or_method") none (Data.fields #[(.builtin "object.__init_subclass__"),(.ref 140)]) #[]
def x10(P:Pz):List Obj:=[XD P,VF P,gK P,tz,gJ P,gH P,gF P,tz,Jp,gD P,tz,gC P,gB P,gA P,f9 P,fu P,fZ P,fY P,fX P]
def lJ (P:Pz):BT:=iF (iL (T9 P) [(3,X8j P),(12,X6x P),(24,X6p P)]) 124 (x10 P)
theorem g9(p:U8)(b:Y8)(w:W5)(os:OsState):gs p b w os 246 T9 124 335 l9 (Pos.mk 18 0 19 8) lJ 143 360 (Pos.mk 20 0 23 26):=by unfold gs;rw[PySem.W.Fast.te10110043849684766642,PySem.W.Fast.te14364793385576792824];kernel_rfl
def u5(P:Pz):List DictEntry:=uw P++[(dn P "NotBorne" 384 (.ref 159))]
def X8i(P:Pz):=En ((dn P "__name__" 165 (.str "spinboard.errors" 187))::u5 P) 20
def qJ(P:Pz):List Value:=qI P++[(.int 24 0),(.int 0 0),(.ref 148)]
def X6w(P:Pz):=Dq (qJ P)
def X6o(P:Pz):=KC [37,49,61,73,85,97,109,121,140,159]
def fW(P:Pz):=En [(dn P "__module__" 367 (.str "spinboard.errors" 187)),(dn P "__qualname__" 369 (.str "NotBorne" 368)),(dn P "__firstlineno__" 371 (.int 24 370)),(dn P "__init__" 379 (.ref 156)),(dn P "__static_attributes__" 381 (.ref 157))] 5
noncomputable def fV(P:Pz):=Obj.mk .none none (Data.fields #[(.int 26 0),(.int 4 0),(.ref 155)]) #[]
def fU(P:Pz):=(Jc "NotBorne" 362 "NotBorne" 363 364 24 0 0 0 0 146 false 181 147 .none .none .none 365 24 366)
noncomputable def fQ(P:Pz):=Obj.mk (.type "frame") none Data.plain #[(some (.ref 148)),(some (.ref 3)),(some (.ref 145)),none,(some (.str "spinboard.errors" 187)),none,(some (.ref 0))]
def fP(P:Pz):=tq #[(.str "self" 375),(.str "place" 376)]
def fO(P:Pz):=(Vc "__init__" "NotBorne.__init__" (MP (top 11) 0) 0 0)
def fL(P:Pz):=(Jc "__init__" 372 "NotBorne.__init__" 373 374 26 2 0 0 3 150 true 181 151 (.ref 152) (.ref 153) (.ref 154) 377 26 378)
def fJ(P:Pz):=(RL "__init__" "NotBorne.__init__" (MP (top 11) 0) 3 "spinboard.errors" 187 155 0)
def fH(P:Pz):=tq #[(.str "place" 380)]
def fG(P:Pz):=En [(dn P "__module__" 367 (.str "spinboard.errors" 187)),(dn P "__firstlineno__" 371 (.int 24 370)),(dn P "__init__" 379 (.ref 156)),(dn P "__static_attributes__" 381 (.ref 157)),(dn P "__doc__" 382 .none)] 2
noncomputable def fC(P:Pz):=Obj.mk (.type "type") none (Data.cls (ClassData.mk "NotBorne" [(.ref 24)] [(.ref 159),(.ref 24),(.type "ValueError"),(.type "Exception"),(.type "BaseException"),(.type "object")] 158 "NotBorne" true [] [] false none false)) #[(some (.ref 143)),none,(some (.str "NotBorne" 360)),(some (.str "NotBorne" 368)),(some (.builtin "ValueError.__new__")),(some (.bool true))]
noncomputable def fB(P:Pz):=Obj.mk (.type "super") none (Data.fields #[(.ref 159),(.ref 159),(.ref 159)]) #[]
noncomputable def eZ(P:Pz):=Obj.mk (.type "builtin_function_or_method") none (Data.fields #[(.builtin "object.__init_subclass__"),(.ref 159)]) #[]
def x11(P:Pz):List Obj:=[XD P,VF P,fW P,tz,fV P,fU P,fQ P,tz,Jp,fP P,tz,fO P,fL P,fJ P,fH P,fG P,fC P,fB P,eZ P]
def lH (P:Pz):BT:=iF (iL (lJ P) [(3,X8i P),(12,X6w P),(24,X6o P)]) 143 (x11 P)
theorem xK(p:U8)(b:Y8)(w:W5)(os:OsState):gs p b w os 246 lJ 143 360 l10 (Pos.mk 20 0 23 26) lH 162 385 (Pos.mk 24 0 27 26):=by unfold gs;rw[PySem.W.Fast.te10110043849684766642,PySem.W.Fast.te14364793385576792824];kernel_rfl
def u6(P:Pz):List DictEntry:=u5 P++[(dn P "Unguarded" 411 (.ref 178)),(dn P "is_whole" 420 (.ref 187)),(dn P "share" 432 (.ref 195)),(dn P "common_divisor" 441 (.ref 202)),(dn P "share_plus" 451 (.ref 209))]
def X8h(P:Pz):=En ((dn P "__name__" 165 (.str "spinboard.shares" 412))::u6 P) 25
def qK(P:Pz):List Value:=qJ P++[(.int 28 0),(.int 0 0),(.ref 167),(.int 34 0),(.int 0 0),(.ref 186),(.int 36 0),(.int 0 0),(.ref 194),(.int 45 0),(.int 0 0),(.ref 201),(.int 51 0),(.int 0 0),(.ref 208)]
def X6v(P:Pz):=Dq (qK P)
def jo(P:Pz):=KC [37,49,61,73,85,97,109,121,140,159,178]
def eY(P:Pz):=En [(dn P "__module__" 392 (.str "spinboard.errors" 187)),(dn P "__qualname__" 394 (.str "Unguarded" 393)),(dn P "__firstlineno__" 396 (.int 28 395)),(dn P "__init__" 405 (.ref 175)),(dn P "__static_attributes__" 408 (.ref 176))] 5
noncomputable def eX(P:Pz):=Obj.mk .none none (Data.fields #[(.int 30 0),(.int 4 0),(.ref 174)]) #[]
def eV(P:Pz):=(Jc "Unguarded" 387 "Unguarded" 388 389 28 0 0 0 0 165 false 181 166 .none .none .none 390 28 391)
noncomputable def eU(P:Pz):=Obj.mk (.type "frame") none Data.plain #[(some (.ref 167)),(some (.ref 3)),(some (.ref 164)),none,(some (.str "spinboard.errors" 187)),none,(some (.ref 0))]
def d_(P:Pz):=tq #[(.str "self" 400),(.str "one" 401),(.str "other" 402)]
def dz(P:Pz):=(Vc "__init__" "Unguarded.__init__" (MP (top 12) 0) 0 0)
def dw(P:Pz):=(Jc "__init__" 397 "Unguarded.__init__" 398 399 30 3 0 0 3 169 true 181 170 (.ref 171) (.ref 172) (.ref 173) 403 30 404)
def dh(P:Pz):=(RL "__init__" "Unguarded.__init__" (MP (top 12) 0) 3 "spinboard.errors" 187 174 0)
def dg(P:Pz):=tq #[(.str "one" 406),(.str "other" 407)]
def cu(P:Pz):=En [(dn P "__module__" 392 (.str "spinboard.errors" 187)),(dn P "__firstlineno__" 396 (.int 28 395)),(dn P "__init__" 405 (.ref 175)),(dn P "__static_attributes__" 408 (.ref 176)),(dn P "__doc__" 409 .none)] 2
noncomputable def cj(P:Pz):=Obj.mk (.type "type") none (Data.cls (ClassData.mk "Unguarded" [(.ref 24)] [(.ref 178),(.ref 24),(.type "ValueError"),(.type "Exception"),(.type "BaseException"),(.type "object")] 177 "Unguarded" true [] [] false none false)) #[(some (.ref 162)),none,(some (.str "Unguarded" 385)),(some (.str "Unguarded" 393)),(some (.builtin "ValueError.__new__")),(some (.bool true))]
noncomputable def b_(P:Pz):=Obj.mk (.type "super") none (Data.fields #[(.ref 178),(.ref 178),(.ref 178)]) #[]
noncomputable def bx(P:Pz):=Obj.mk (.type "builtin_function_or_method") none (Data.fields #[(.builtin "object.__init_subclass__"),(.ref 178)]) #[]
def VD(P:Pz):=tq #[(.int 0 421),(.int 1 422)]
def bh(P:Pz):=tq #[(.str "top" 426),(.str "root" 427),(.str "bottom" 428),(.str "common" 429)]
def bf(P:Pz):=(Vc "share" "share" (top 15) 0 0)
def bZ(P:Pz):=(Jc "share" 423 "share" 424 425 36 3 0 0 3 189 true 181 190 (.ref 191) (.ref 192) (.ref 193) 430 36 431)
noncomputable def VB(P:Pz):=Obj.mk (.type "function") none (Data.func (FuncData.mk "share" "share" (Ey (top 15)) (FuncBody.stmts (Ei (top 15))) (DX (top 15)) 3 [] (.ref 188) .none .none (.str "spinboard.shares" 412) none (.ref 194) .none 0)) #[]
def bR(P:Pz):=tq #[(.str "one" 445),(.str "other" 446),(.str "top" 447),(.str "root" 448)]
noncomputable def bQ(P:Pz):=Obj.mk .none none (Data.func (FuncData.mk "share_plus" "share_plus" (Ey (top 17)) (FuncBody.stmts (Ei (top 17))) (DX (top 19)) 0 [] .none .none .none .none none .none .none 0)) #[]
def bO(P:Pz):=(Jc "share_plus" 442 "share_plus" 443 444 51 2 0 0 3 203 true 181 204 (.ref 205) (.ref 206) (.ref 207) 449 51 450)
noncomputable def Uz(P:Pz):=Obj.mk (.type "function") none (Data.func (FuncData.mk "share_plus" "share_plus" (Ey (top 17)) (FuncBody.stmts (Ei (top 17))) (DX (top 19)) 3 [] .none .none .none (.str "spinboard.shares" 412) none (.ref 208) .none 0)) #[]
def x12(P:Pz):List Obj:=[XD P,VF P,eY P,tz,eX P,eV P,eU P,tz,Jp,d_ P,tz,dz P,dw P,dh P,dg P,cu P,cj P,b_ P,bx P]++(QD "is_whole" 14 34 1 181 414 ["thing"]++([VD P,tz,Jp,bh P,tz,bf P,bZ P,VB P]++(QD "common_divisor" 16 45 2 196 433 ["one","other","rest"]++([tz,Jp,bR P,tz,bQ P,bO P,Uz P]))))
def lG (P:Pz):BT:=iF (iL (lH P) [(3,X8h P),(12,X6v P),(24,jo P)]) 162 (x12 P)
theorem xJ(p:U8)(b:Y8)(w:W5)(os:OsState):gs p b w os 384 lH 162 385 nH (Pos.mk 24 0 27 26) lG 210 452 (Pos.mk 51 0 54 46):=by unfold gs;rw[PySem.W.Fast.te10110043849684766642,PySem.W.Fast.te14364793385576792824];kernel_rfl
def u9(P:Pz):List DictEntry:=u6 P++[(dn P "share_minus" 459 (.ref 216)),(dn P "share_times" 469 (.ref 223)),(dn P "share_over" 478 (.ref 230)),(dn P "share_under" 487 (.ref 237)),(dn P "is_below_nought" 495 (.ref 244)),(dn P "halved_out" 511 (.ref 251)),(dn P "plus" 517 (.ref 256)),(dn P "minus" 525 (.ref 263)),(dn P "times" 531 (.ref 268)),(dn P "spun" 541 (.ref 275)),(dn P "spun_once" 548 (.ref 282)),(dn P "mirror" 555 (.ref 289)),(dn P "weight" 561 (.ref 294))]
def X8g(P:Pz):=En ((dn P "__name__" 165 (.str "spinboard.amounts" 496))::u9 P) 38
def qL(P:Pz):List Value:=qK P++[(.int 55 0),(.int 0 0),(.ref 215),(.int 57 0),(.int 0 0),(.ref 222),(.int 61 0),(.int 0 0),(.ref 229),(.int 66 0),(.int 0 0),(.ref 236),(.int 69 0),(.int 0 0),(.ref 243),(.int 78 0),(.int 0 0),(.ref 250),(.int 85 0),(.int 0 0),(.ref 255),(.int 91 0),(.int 0 0),(.ref 262),(.int 93 0),(.int 0 0),(.ref 267),(.int 100 0),(.int 0 0),(.ref 274),(.int 105 0),(.int 0 0),(.ref 281),(.int 107 0),(.int 0 0),(.ref 288),(.int 109 0),(.int 0 0),(.ref 293)]
def X6u(P:Pz):=Dq (qL P)
def bN(P:Pz):=tq #[(.str "one" 545)]
noncomputable def bM(P:Pz):=Obj.mk .none none (Data.func (FuncData.mk "spun_once" "spun_once" (Ey (top 29)) (FuncBody.stmts (Ei (top 29))) (DX (top 30)) 0 [] .none .none .none .none none .none .none 0)) #[]
def bL(P:Pz):=(Jc "spun_once" 542 "spun_once" 543 544 105 1 0 0 3 276 true 181 277 (.ref 278) (.ref 279) (.ref 280) 546 105 547)
noncomputable def Uy(P:Pz):=Obj.mk (.type "function") none (Data.func (FuncData.mk "spun_once" "spun_once" (Ey (top 29)) (FuncBody.stmts (Ei (top 29))) (DX (top 30)) 3 [] .none .none .none (.str "spinboard.amounts" 496) none (.ref 281) .none 0)) #[]
def lY(P:Pz):List Obj:=QD "share_minus" 18 55 2 210 452 ["one","other"]++(QD "share_times" 19 57 2 217 460 ["one","other","top","root"]++(QD "share_over" 20 61 2 224 470 ["one","other","rootless"]++(QD "share_under" 21 66 2 231 479 ["one","other","gap"]++(QD "is_below_nought" 22 69 2 238 488 ["top","root"]++(Ot "halved_out" 24 78 5 245 498 ["a","b","c","d","h","places","lowest","less"]++(Ot "plus" 25 85 2 252 512 []++(Ot "minus" 26 91 2 257 518 ["one","other"]++(Ot "times" 27 93 2 264 526 []++(Ot "spun" 28 100 2 269 532 ["one","k","turning","step"]++([tz,Jp,bN P,tz,bM P,bL P,Uy P]++(Ot "mirror" 30 107 1 283 549 ["one"]++(Ot "weight" 31 109 1 290 556 []))))))))))))
def lF (P:Pz):BT:=iF (iL (lG P) [(3,X8g P),(12,X6u P)]) 210 (lY P)
theorem xH(p:U8)(b:Y8)(w:W5)(os:OsState):gs p b w os 398 lG 210 452 nG (Pos.mk 51 0 54 46) lF 295 562 (Pos.mk 109 0 112 44):=by unfold gs;rw[PySem.W.Fast.te10110043849684766642,PySem.W.Fast.te14364793385576792824];kernel_rfl
def u_(P:Pz):List DictEntry:=u9 P++[(dn P "real_share" 568 (.ref 301)),(dn P "ones" 579 (.ref 308)),(dn P "is_word" 587 (.ref 315)),(dn P "is_mark" 595 (.ref 322)),(dn P "is_even" 602 (.ref 329)),(dn P "is_even_mark" 610 (.ref 336)),(dn P "NOUGHT" 618 (.ref 337)),(dn P "cells_of" 625 (.ref 344)),(dn P "heft" 634 (.ref 351)),(dn P "laid_on" 640 (.ref 356)),(dn P "spun_by_mark" 649 (.ref 363)),(dn P "settled" 661 (.ref 370)),(dn P "check_look" 669 (.ref 377))]
def X8f(P:Pz):=En ((dn P "__name__" 165 (.str "spinboard.looks" 650))::u_ P) 51
def qM(P:Pz):List Value:=qL P++[(.int 113 0),(.int 0 0),(.ref 300),(.int 118 0),(.int 0 0),(.ref 307),(.int 125 0),(.int 0 0),(.ref 314),(.int 129 0),(.int 0 0),(.ref 321),(.int 135 0),(.int 0 0),(.ref 328),(.int 137 0),(.int 0 0),(.ref 335),(.int 141 0),(.int 0 0),(.ref 343),(.int 143 0),(.int 0 0),(.ref 350),(.int 148 0),(.int 0 0),(.ref 355),(.int 150 0),(.int 0 0),(.ref 362),(.int 153 0),(.int 0 0),(.ref 369),(.int 159 0),(.int 0 0),(.ref 376)]
def X6t(P:Pz):=Dq (qM P)
def Ux(P:Pz):=tq #[(.int 0 613),(.int 0 614),(.int 0 615),(.int 0 616),(.int 0 617)]
def lX(P:Pz):List Obj:=Ot "real_share" 32 113 1 295 562 ["one"]++(Vd "ones" 34 118 1 302 571 ["number","many","rest"]++(Vd "is_word" 35 125 2 309 580 ["thing","cells"]++(Vd "is_mark" 36 129 2 316 588 ["thing","cells"]++(Vd "is_even" 37 135 1 323 596 ["mark"]++(Vd "is_even_mark" 38 137 2 330 603 ["thing","cells"]++([Ux P]++(Xb "cells_of" 41 141 1 338 619 ["board"]++(Xb "heft" 42 143 1 345 626 ["board","total","one"]++(Xb "laid_on" 43 148 2 352 635 []++(Xb "spun_by_mark" 44 150 3 357 641 ["board","word","mark"]++(M7 "settled" 46 153 3 364 652 ["board","mark","outcome","behind"]++(M7 "check_look" 47 159 2 371 662 ["mark","cells"]))))))))))))
def lE (P:Pz):BT:=iF (iL (lF P) [(3,X8f P),(12,X6t P)]) 295 (lX P)
theorem xG(p:U8)(b:Y8)(w:W5)(os:OsState):gs p b w os 401 lF 295 562 nF (Pos.mk 109 0 112 44) lE 378 670 (Pos.mk 159 0 161 70):=by unfold gs;rw[PySem.W.Fast.te10110043849684766642,PySem.W.Fast.te14364793385576792824];kernel_rfl
def vA(P:Pz):List DictEntry:=u_ P++[(dn P "half_left" 675 (.ref 382)),(dn P "halved" 682 (.ref 389)),(dn P "is_nothing" 688 (.ref 394)),(dn P "outcomes" 694 (.ref 399)),(dn P "ways_on" 707 (.ref 406)),(dn P "word_shares" 713 (.ref 411)),(dn P "likeliest" 719 (.ref 416)),(dn P "_law_cell_at" 729 (.ref 423)),(dn P "_law_whole" 736 (.ref 430)),(dn P "_law_lowest" 742 (.ref 435)),(dn P "_law_spin" 756 (.ref 442)),(dn P "_law_amount_by" 762 (.ref 447)),(dn P "_law_cells_by" 769 (.ref 454))]
def X8e(P:Pz):=En ((dn P "__name__" 165 (.str "law_spinboard_k44_outcomes_and_words" 720))::vA P) 64
def qN(P:Pz):List Value:=qM P++[(.int 162 0),(.int 0 0),(.ref 381),(.int 167 0),(.int 0 0),(.ref 388),(.int 169 0),(.int 0 0),(.ref 393),(.int 171 0),(.int 0 0),(.ref 398),(.int 179 0),(.int 0 0),(.ref 405),(.int 187 0),(.int 0 0),(.ref 410),(.int 190 0),(.int 0 0),(.ref 415),(.int 198 0),(.int 0 0),(.ref 422),(.int 202 0),(.int 0 0),(.ref 429),(.int 204 0),(.int 0 0),(.ref 434),(.int 211 0),(.int 0 0),(.ref 441),(.int 216 0),(.int 0 0),(.ref 446),(.int 229 0),(.int 0 0),(.ref 453)]
def X6s(P:Pz):=Dq (qN P)
def lW(P:Pz):List Obj:=M7 "half_left" 48 162 3 378 670 []++(M7 "halved" 49 167 1 383 676 ["one"]++(M7 "is_nothing" 50 169 1 390 683 []++(M7 "outcomes" 51 171 2 395 689 []++(M7 "ways_on" 52 179 2 400 695 ["ways","mark","further","outs","behind","outcome","left"]++(M7 "word_shares" 53 187 1 407 708 []++(M7 "likeliest" 54 190 1 412 714 []++(Ew "_law_cell_at" 56 198 2 417 722 ["_law_script","_law_k"]++(Ew "_law_whole" 57 202 1 424 730 ["_law_found"]++(Ew "_law_lowest" 58 204 2 431 737 []++(Ew "_law_spin" 59 211 2 436 743 ["_law_one","_law_k","_law_a","_law_b","_law_c","_law_d","_law_h","_law_j"]++(Ew "_law_amount_by" 60 216 2 443 757 []++(Ew "_law_cells_by" 61 229 1 448 763 ["_law_head"]))))))))))))
def T15 (P:Pz):BT:=iF (iL (lE P) [(3,X8e P),(12,X6s P)]) 378 (lW P)
theorem wu(p:U8)(b:Y8)(w:W5)(os:OsState):gs p b w os 380 lE 378 670 nD (Pos.mk 159 0 161 70) T15 455 770 (Pos.mk 229 0 232 33):=by unfold gs;rw[PySem.W.Fast.te10110043849684766642,PySem.W.Fast.te14364793385576792824];kernel_rfl
def vB(P:Pz):List DictEntry:=vA P++[(dn P "_law_board_by" 775 (.ref 459)),(dn P "_law_thin" 786 (.ref 466)),(dn P "_law_ones" 794 (.ref 473)),(dn P "_law_mark_by" 805 (.ref 480)),(dn P "_law_is_board" 811 (.ref 485)),(dn P "_law_heft" 817 (.ref 490)),(dn P "_law_divisor" 825 (.ref 497)),(dn P "_law_is_share" 831 (.ref 502)),(dn P "_law_is_times" 843 (.ref 509)),(dn P "_law_above" 853 (.ref 516)),(dn P "_law_way" 863 (.ref 523)),(dn P "_law_all_outs" 869 (.ref 528)),(dn P "_law_told_is" 875 (.ref 533))]
def X8d(P:Pz):=En ((dn P "__name__" 165 (.str "law_spinboard_k44_outcomes_and_words" 720))::vB P) 77
def qO(P:Pz):List Value:=qN P++[(.int 233 0),(.int 0 0),(.ref 458),(.int 238 0),(.int 0 0),(.ref 465),(.int 248 0),(.int 0 0),(.ref 472),(.int 254 0),(.int 0 0),(.ref 479),(.int 259 0),(.int 0 0),(.ref 484),(.int 268 0),(.int 0 0),(.ref 489),(.int 276 0),(.int 0 0),(.ref 496),(.int 282 0),(.int 0 0),(.ref 501),(.int 286 0),(.int 0 0),(.ref 508),(.int 291 0),(.int 0 0),(.ref 515),(.int 295 0),(.int 0 0),(.ref 522),(.int 302 0),(.int 0 0),(.ref 527),(.int 307 0),(.int 0 0),(.ref 532)]
def X6r(P:Pz):=Dq (qO P)
def lV(P:Pz):List Obj:=Ew "_law_board_by" 62 233 2 455 770 []++(Ew "_law_thin" 63 238 2 460 776 ["_law_board","_law_cell","_law_rest","_law_made","_law_word"]++(Ew "_law_ones" 64 248 1 467 787 ["_law_number","_law_many"]++(Ew "_law_mark_by" 65 254 2 474 795 ["_law_cell","_law_cells","_law_mixed","_law_f","_law_s"]++(Ew "_law_is_board" 66 259 2 481 806 []++(Ew "_law_heft" 67 268 1 486 812 []++(Ew "_law_divisor" 68 276 2 491 818 ["_law_one","_law_other"]++(Ew "_law_is_share" 69 282 1 498 826 []++(Ew "_law_is_times" 70 286 3 503 832 ["_law_part","_law_one","_law_whole_here","_law_top","_law_root","_law_below"]++(Ew "_law_above" 71 291 2 510 844 ["_law_one","_law_other","_law_top","_law_root"]++(Ew "_law_way" 72 295 3 517 854 ["_law_board","_law_marks","_law_outs","_law_k"]++(Ew "_law_all_outs" 73 302 1 524 864 []++(Ew "_law_told_is" 74 307 4 529 870 []))))))))))))
def k_ (P:Pz):BT:=iF (iL (T15 P) [(3,X8d P),(12,X6r P)]) 455 (lV P)
theorem wk(p:U8)(b:Y8)(w:W5)(os:OsState):gs p b w os 381 T15 455 770 nC (Pos.mk 229 0 232 33) k_ 534 876 (Pos.mk 307 0 314 79):=by unfold gs;rw[PySem.W.Fast.te10110043849684766642,PySem.W.Fast.te14364793385576792824];kernel_rfl
def X7p(P:Pz):List DictEntry:=vB P++[(dn P "_law_sums_to_one" 890 (.ref 540)),(dn P "_law_outcomes_are" 896 (.ref 545)),(dn P "_law_words_are" 902 (.ref 550)),(dn P "_law_odd_mark" 917 (.ref 557)),(dn P "_law_first" 924 (.ref 564)),(dn P "_law_refused" 933 (.ref 571)),(dn P "law" 939 (.ref 576))]
def uM(P:Pz):=En ((dn P "__name__" 165 (.str "law_spinboard_k44_outcomes_and_words" 720))::X7p P) 84
def X4q(P:Pz):List Value:=qO P++[(.int 315 0),(.int 0 0),(.ref 539),(.int 324 0),(.int 0 0),(.ref 544),(.int 341 0),(.int 0 0),(.ref 549),(.int 369 0),(.int 0 0),(.ref 556),(.int 376 0),(.int 0 0),(.ref 563),(.int 378 0),(.int 0 0),(.ref 570),(.int 390 0),(.int 0 0),(.ref 575)]
def vQ(P:Pz):=Dq (X4q P)
def x17(P:Pz):List Obj:=Ew "_law_sums_to_one" 75 315 1 534 876 ["_law_shares","_law_whole_here","_law_p","_law_q","_law_n","_law_top","_law_root","_law_below","_law_over"]++(Ew "_law_outcomes_are" 76 324 2 541 891 []++(Ew "_law_words_are" 77 341 2 546 897 []++(Ew "_law_odd_mark" 78 369 3 551 903 ["_law_mark","_law_cells","_law_cell","_law_q","_law_f","_law_s","_law_far","_law_beyond","_law_some"]++(Ew "_law_first" 79 376 1 558 918 ["_law_one"]++(Ew "_law_refused" 80 378 2 565 925 ["_law_board","_law_marks","e"]++(Ew "law" 81 390 1 572 934 []))))))
def vV (P:Pz):BT:=iF (iL (k_ P) [(3,uM P),(12,vQ P)]) 534 (x17 P)
theorem wj(p:U8)(b:Y8)(w:W5)(os:OsState):gs p b w os 213 k_ 534 876 nA (Pos.mk 307 0 314 79) vV 577 940 (Pos.mk 390 0 408 76):=by unfold gs;rw[PySem.W.Fast.te10110043849684766642,PySem.W.Fast.te14364793385576792824];kernel_rfl
def Hl(P:Pz):List Obj:=[boot_o_0 P,boot_o_1 P,boot_o_2 P,uM P,boot_o_4 P,boot_o_5 P,boot_o_6 P,boot_o_7 P,boot_o_8 P,boot_o_9 P,boot_o_10 P,tz,vQ P,gG P,fj P]++(((x1 P).set 9 (jo P))++((x2 P)++((x3 P)++((x4 P)++((x5 P)++((x6 P)++((x7 P)++((x8 P)++((x9 P)++((x10 P)++((x11 P)++((x12 P)++((lY P)++((lX P)++((lW P)++((lV P)++(x17 P)))))))))))))))))
def Hf (P:Pz):Heap:=Heap.mk (Array.mk (Hl P)) life
theorem iG(w:W5)(os:OsState):topRun treeTable pr w 11 (some (.ref 6)) 2 ((SharedT.mk (vV w.params) 577 life (Array.mk []) (Drawn.mk 0 0 0 0) 940 os).abs) (Thread.mk (doneF .next) cE (Pos.mk 390 0 408 76) BB)=some (Shared.mk (Hf w.params) (Array.mk []) (Drawn.mk 0 0 0 0) 940 os):=by rw[PySem.W.Fast.te14082659384304107361,PySem.W.Fast.te14364793385576792824];kernel_rfl
noncomputable abbrev MM:Nat:=12+(1+(196+(214+(214+(214+(214+(214+(214+(214+(214+(246+(246+(384+(398+(401+(380+(381+(213+2))))))))))))))))))
theorem Y_(w:W5)(os:OsState):topRun treeTable pr w 11 (some (.ref 6)) MM (Shared.mk (boot_heap w.params) (Array.mk []) boot_drawn boot_toks os) (topStub pr)=some (Shared.mk (Hf w.params) (Array.mk []) (Drawn.mk 0 0 0 0) 940 os):=go_top (aN w os) (piece_block (X7i w os) (Hg (Hh (g0 _ _ w os)) (Hg (Hh (g1 _ _ w os)) (Hg (Hh (g2 _ _ w os)) (Hg (Hh (g3 _ _ w os)) (Hg (Hh (g4 _ _ w os)) (Hg (Hh (g5 _ _ w os)) (Hg (Hh (g6 _ _ w os)) (Hg (Hh (g7 _ _ w os)) (Hg (Hh (g8 _ _ w os)) (Hg (Hh (g9 _ _ w os)) (Hg (Hh (xK _ _ w os)) (Hg (Hh (xJ _ _ w os)) (Hg (Hh (xH _ _ w os)) (Hg (Hh (xG _ _ w os)) (Hg (Hh (wu _ _ w os)) (Hg (Hh (wk _ _ w os)) (Hg (Hh (wj _ _ w os)) (piece_nil (iG w os))))))))))))))))))))
noncomputable def qq:Program:={pr with main:={ pr.main with body:=[top 1,top 2,top 3,top 4,top 5,top 6,top 7,top 8,top 9,top 10,top 11,top 12,top 14,top 16,top 17,top 18,top 19,top 20,top 21,top 22,top 24,top 25,top 26,top 27,top 28,top 29,top 30,top 31,top 32,top 34,top 35,top 36,top 37,top 38,top 40,top 41,top 42,top 43,top 44,top 46,top 47,top 48,top 49,top 50,top 51,top 52,top 53,top 54,top 56,top 57,top 58,top 59,top 60,top 61,top 62,top 63,top 64,top 65,top 66,top 67,top 68,top 69,top 70,top 71,top 72,top 73,top 74,top 75,top 76,top 77,top 78,top 79,top 80,top 81]}}
noncomputable def loose:List PySem.Str:=[Str.ofString "share"]
noncomputable def lv:List (PySem.Str×WData):=[]
noncomputable abbrev NN:Nat:=9206
noncomputable def aa:List Addr:=[2,3,15,22,23,24,25,28,35,36,37,40,47,48,49,52,59,60,61,64,71,72,73,76,83,84,85,88,95,96,97,100,107,108,109,112,119,120,121,124,131,133,134,136,137,138,139,140,143,150,152,153,155,156,157,158,159,162,169,171,172,174,175,176,177,178,181,183,184,186,187,188,189,191,192,194,195,196,198,199,201,202,203,205,206,208,209,210,212,213,215,216,217,219,220,222,223,224,226,227,229,230,231,233,234,236,237,238,240,241,243,244,245,247,248,250,251,252,255,256,257,259,260,262,263,264,267,268,269,271,272,274,275,276,278,279,281,282,283,285,286,288,289,290,293,294,295,297,298,300,301,302,304,305,307,308,309,311,312,314,315,316,318,319,321,322,323,325,326,328,329,330,332,333,335,336,337,338,340,341,343,344,345,347,348,350,351,352,355,356,357,359,360,362,363,364,366,367,369,370,371,373,374,376,377,378,381,382,383,385,386,388,389,390,393,394,395,398,399,400,402,403,405,406,407,410,411,412,415,416,417,419,420,422,423,424,426,427,429,430,431,434,435,436,438,439,441,442,443,446,447,448,450,451,453,454,455,458,459,460,462,463,465,466,467,469,470,472,473,474,476,477,479,480,481,484,485,486,489,490,491,493,494,496,497,498,501,502,503,505,506,508,509,510,512,513,515,516,517,519,520,522,523,524,527,528,529,532,533,534,536,537,539,540,541,544,545,546,549,550,551,553,554,556,557,558,560,561,563,564,565,567,568,570,571,572,575,576]
def KK (P:Pz):Frag:=aa.map λa=>(a,(Hl P).getD a Jp)
theorem X8a:∀w:World,(fencedOpening treeTable pr w NN).map (λs=>(s.heap,s.gens,s.drawn,s.toks))=some (boot_heap w.params,Array.mk [],boot_drawn,boot_toks):=
 boot_open (p:=pr) (N:=NN) (by kernel_rfl) (by kernel_rfl) (λs=>by kernel_rfl)
theorem X7s(w:W5):((boot_heap w.params).isNs mainGlobals && (Array.mk []:Array GenState).size == 0,(boot_heap w.params).objs.size,(boot_heap w.params).nsMap mainGlobals "__annotations__")=(true,11,((some (.ref 6)):Option Value)):=by kernel_rfl
theorem wK:Nat.ble MM NN=true:=by kernel_rfl
noncomputable abbrev rr:OpenRow:=PySem.Challenge.rw_spinboard_k44_outcomes_and_words.row
noncomputable abbrev HH:Hook:=kHook KK aa (λ_=>by kernel_rfl)
noncomputable abbrev Xt (s:U7):Bool:=xlAt qq lv s && recOk (RowW.records rr.toRowW) s
noncomputable abbrev sf (w:W5)(os:OsState):Shared:=Shared.mk (Hf w.params) (Array.mk []) (Drawn.mk 0 0 0 0) 940 os
theorem wJ(w:W5)(os:OsState):(staticsOk (importedModules pr.main.body) (boot_heap w.params) (Hf w.params) && namesBound pr (Hf w.params) && gensDone (sf w os) && laidKept (boot_heap w.params) (Hf w.params))=true:=by rw[PySem.W.Fast.te5923862056798008813];kernel_rfl
theorem wI(w:W5)(os:OsState):openSeen qq loose (importedModules pr.main.body) Xt true (sf w os)=openGood qq loose:=by rw[PySem.W.Fast.te4187177175401517315,PySem.W.Fast.te5923862056798008813];kernel_rfl
theorem wH(w:W5)(os:OsState):HH.obs (sf w os)=HH.val w:=by kernel_rfl
theorem Uw:LeftO pr qq loose Xt HH.obs HH.val NN :=
 LeftO.of_pieces (H₀:=boot_heap) (H₁:=Hf) X8a X7s Y_ wK λw=>funext λos=>looks_pair (wJ w os) (looks_pair (wI w os) (wH w os))
theorem SQ:PySem.Challenge.rw_spinboard_k44_outcomes_and_words.wellSaid=true:=by rw[PySem.W.Fast.te9446332074065402090];kernel_rfl
theorem aY(P:Pz):(KK P).lookup 576=some (e5 "law" 81 575):=by kernel_rfl
theorem au(P:Pz):(KK P).lookup 195=some (VB P):=by kernel_rfl
theorem aq(P:Pz):(KK P).lookup 209=some (Uz P):=by kernel_rfl
theorem ak(P:Pz):(KK P).lookup 282=some (Uy P):=by kernel_rfl
theorem bB(P:Pz):(KK P).lookup 109=some (gM P):=by kernel_rfl
theorem wL(P:Pz):(KK P).lookup 61=some (wO P):=by kernel_rfl
theorem wN(P:Pz):(KK P).lookup 24=some (jo P):=by kernel_rfl
theorem aj(P:Pz):(KK P).lookup 337=some (Ux P):=by kernel_rfl
theorem bA(P:Pz):(KK P).lookup 188=some (VD P):=by kernel_rfl
theorem ft{K:U0}{x:Str}{st:Stmt}{f:Y9}{oc:W8}{od an:Y5}{osl:Y0}{dV kV doc pm cdv ct:W8}
  (l:K.lookup f=some ⟨oc,od,.func (PySem.W.fnOf x x (Ey st) (Ei st) (DX st) dV kV doc pm an cdv ct),osl⟩) (a:PySem.W.nsIn K mainGlobals x=some (some (.ref f)):=by kernel_rfl) (c:PySem.W.codeIn K cdv x=true:=by kernel_rfl) (k:PySem.W.keepIn K (.ref f)=true:=by kernel_rfl):Ab K x st dV:=xM a l c k
theorem fz{P:Pz}{n:Str}{i:Nat}(m:Str)(mt a c:Nat)(l:(KK P).lookup a=some (RL n n (top i) 3 m mt c 0):=by kernel_rfl)(x:PySem.W.nsIn (KK P) mainGlobals n=some (some (.ref a)):=by kernel_rfl)(y:PySem.W.codeIn (KK P) (.ref c) n=true:=by kernel_rfl)(z:PySem.W.keepIn (KK P) (.ref a)=true:=by kernel_rfl):Ab (KK P) n (top i) .none:=ft l x y z
theorem xQ(P:Pz):Ab (KK P) "share" (top 15) (.ref 188):=ft (au P)
theorem xP(P:Pz):Ab (KK P) "share_plus" (top 17) .none:=ft (aq P)
theorem xO(P:Pz):Ab (KK P) "spun_once" (top 29) .none:=ft (ak P)
end Hd
end Av
end
set_option maxHeartbeats 4000000
namespace Av
open L2 Am Pc Ba
section
variable {P:U8}{w:W5}{K:U0}{mg:U4}{base:Heap}{k:Nat}{h:Heap}
theorem tY{x:Int}(h1:-16<x)(h2:x<16):Sz 100 x:=Sz.mono (j:=5) (by unfold Sz;lia) (by decide)
theorem s_0:Sz 100 0:=tY (by decide) (by decide)
theorem s_1:Sz 100 1:=tY (by decide) (by decide)
def Du (f:Nat->A5)(i:Nat)(bs:List Bool):Prop:=bs=(List.range i).map λj=>decide (l5 (f j)=[0,0,0,0,0])
variable{f:Nat->A5}
theorem Du.nil:Du f 0 []:=rfl
theorem Du.snoc{i:Nat}{bs:List Bool}(h:Du f i bs):Du f (i+1) (bs++[decide (l5 (f i)=[0,0,0,0,0])]):=by
 unfold Du at *;rw[h,N_,Dj];rfl
variable{H:Hp}{ps:U3}{p:Y9}{x:A5}
theorem oO{H':Hp}(v:Bj H ps f)(s:Same H H')(e:H' p=some (tA x)):Bj H' (ps++[p]) (λj=>if j=ps.length then x else f j):=by
 intro i q a;by_cases hi:i<ps.length
 ·rw[J8 hi]at a;show H' q=some (tA (if i=ps.length then x else f i));rw[if_neg (by lia)];exact s _ _ (v i q a)
 ·rw[Uo (by lia)]at a;have b:i=ps.length:=by
   have:=(DW.mp a).1;simp at this;lia
  subst b;simp at a;subst a;show H' _=some (tA (if ps.length=ps.length then x else f ps.length));rw[if_pos rfl];exact e
theorem V2{l:Y9}{xs ys:List V}(v:Bj H ps f)(e:H l=some (.lst xs)):Bj (upd H l (.lst ys)) ps f:=λi q a=>by
 have:=v i q a;rw[Bw (Ie this e (by intro z;cases z))];exact this
theorem zm{j:Nat}(v:Bj H ps f)(e:H p=some (tA x)):Bj H (ps.set j p) (λi=>if i=j then x else f i):=by
 intro i q a;by_cases hi:i=j
 ·subst hi;rw[List.getElem?_set_self']at a;show H q=some (tA (if i=i then x else f i));rw[if_pos rfl];cases h:ps[i]? with
  | none=>rw[h]at a;cases a
  | some r=>rw[h]at a;cases a;exact e
 ·rw[Zm (λz=>hi z.symm)]at a;show H q=some (tA (if i=j then x else f i));rw[if_neg hi];exact v i q a
theorem qg{a:Y9}{ns:U6}{te:TE}{fr:L2.St}{H1:Hp}{acc:Y9}{Q:VK}(f:Int->V)(hl:Ah K H1 a (ns.map V.int))(hn:ns.length<=sizeLine)(hacc:H1 acc=none)(hs:∀n H (N:V->Hp->Prop),n∈ns->Same H1 H->N (f n) H->te (some (.int n)::fr) H N)
  (hd:∀H2,Same H1 H2->H2 acc=some (.lst (ns.map f))->Q (.ref acc) H2):IV (Qm K a) (CQ 0) te (none::fr) H1 acc Q:=by
 refine Vt (n:=ns.length) (val:=λi=>.int (ns.getD i 0)) (λi=>f (ns.getD i 0)) hn hacc (λi H hi s=>?_) (λH s=>⟨_,s.tup hl,by simp⟩) (λi H N hi s b=>hs _ H N (by simp[hi]) s b) (λH2 s h=>hd H2 s (by rw[h,Xu]));have e:(ns.map V.int)[i]?=some (.int (ns.getD i 0)):=by simp[hi]
 refine⟨⟨_,_,s.tup hl,e⟩,λx H' y=>⟨y.1,?_⟩⟩;have:=y.2 _ (s.tup hl);rw[e]at this;exact(Option.some.inj this).symm
theorem Hu:¬ (HT.CN 5 0 none=0/\HT.CN 5 5 (some 4)=5):=by decide
def Gi:Sp:=λvs H Q _=>∃a b c d h:Int,vs=[.int a,.int b,.int c,.int d,.int h]/\0<=h/\∀(p:Y9) (H':Hp) (x y z u g:Int),Same H H'->H' p=some (T5 x y z u g)->Red a b c d h x y z u g->Q (.ref p) H'
def Im:Sp:=λvs H Q _=>∃(p:Y9) (a b c d h k:Int),vs=[.ref p,.int k]/\H p=some (T5 a b c d h)/\∀(r:Y9) (H':Hp),Same H H'->H' r=some (T4 (Bx (k%8).toNat (a,b,c,d)) h)->Q (.ref r) H'
theorem X2v(F:Ab K "halved_out" (top 24) .none)(X:K.In h)(G:Ng h mg)(B:Bs mg):Aj P w K mg base (k+1) "halved_out" ["a","b","c","d","h"] Gi:=by
 refine F.cal X G ["a","b","c","d","h","places","lowest","less"] λg H vs Q E A h=>?_;obtain⟨a,b,c,d,h,rfl,j,q⟩:=h
 refine⟨_,(@Ao _ _ _ _ _ (@BR _ _ 5 _ _ _ _ g rfl (Or.inl rfl) (Af kI (Af kI (Af kI (pv 0) (pv 1)) (pv 2)) (pv 3)) rfl (.inl rfl))
  (@Ao _ _ _ _ _ (Cd (Cg HF (pv 5) Ac (Ad _))
   (@Aq _ _ _ (BW (@Cq _ _ _ _ _ (Aa Ac (Aa Ac (Aa Ac (Aa Ac (Aa Ac Ae))))))))
   Ce)
  (@Ao _ _ _ _ _ (@BR _ _ 6 _ _ _ _ g rfl (Or.inl rfl) (Af Fy (ju Zx W_ aK jR (Af RP (pv 5) (Js Jt (pv 5)))) Ac) rfl (.inl rfl))
  (@Ao _ _ _ _ _ (@BR _ _ 7 _ _ _ _ g rfl (Or.inl rfl) (Bm (_K rfl) rfl B.min boot_min (Aa (pv 6) (Aa (pv 4) Ae))) rfl (.inl rfl))
  (@Aq _ _ _ (BW (@Cq _ _ _ _ _ (Aa (Af Vr (pv 0) (pv 7)) (Aa (Af Vr (pv 1) (pv 7)) (Aa (Af Vr (pv 2) (pv 7)) (Aa (Af Vr (pv 3) (pv 7)) (Aa (Af Fy (pv 4) (pv 7)) Ae)))))))))))),?_⟩
 try dsimp only[Bv]
 refine⟨_,U,_,U,_,_,U,U,_,U,_,_,U,U,_,U,_,_,U,U,?_⟩;refine⟨_,U,U,_,U,Jr (λe=>?_) (λe=>?_)⟩
 ·obtain⟨rfl,rfl,rfl,rfl⟩:=JH.mp e;exact⟨by show 5<=sizeLine;decide,λp hp=>q p _ 0 0 0 0 0 (Aw hp _) Al ⟨⟨by lia,.inl rfl⟩,⟨by simp[D_],by simp[D_],by simp[D_],by simp[D_]⟩,BX _,BX _,BX _,BX _,j⟩⟩
 obtain⟨v,l,s,t⟩:=lowest e;obtain⟨f,z,u,y,o,x,n,r⟩:=VR j s t rfl;have i:((Builtin.Int.intBits (Builtin.bitAnd (Builtin.bitOr (Builtin.bitOr (Builtin.bitOr a b) c) d) (-(Builtin.bitOr (Builtin.bitOr (Builtin.bitOr a b) c) d))):Nat):Int)-1=v:=l;refine⟨_,U,_,U,_,U,_,_,U,U,U,_,U,U,_,_,U,U,?_⟩;show Kd _ _ _ (List.set _ 6 (some (V.int (((Builtin.Int.intBits (Builtin.bitAnd (Builtin.bitOr (Builtin.bitOr (Builtin.bitOr a b) c) d) (-(Builtin.bitOr (Builtin.bitOr (Builtin.bitOr a b) c) d))):Nat):Int)-1)))) H;rw[i];generalize hm:(if h<(v:Int) then h else (v:Int))=m at *;refine⟨_,U,_,U,_,_,U,?_⟩;rw[hm];refine⟨_,U,_,U,_,_,U,U,f,_,U,_,U,_,_,U,U,f,_,U,_,U,_,_,U,U,f,_,U,_,U,_,_,U,U,f,_,U,_,U,_,_,U,U,(by show 5<=sizeLine;decide),λp hp=>?_⟩;exact q p _ _ _ _ _ _ (Aw hp _) Al ⟨u,y,o,x,n,r,by lia⟩
theorem X2n(F:Ab K "spun_once" (top 29) .none)(X:K.In h)(G:Ng h mg):Aj P w K mg base (k+1) "spun_once" ["one"] Ip:=by
 refine F.cal X G ["one"] λf H vs Q E e h=>?_;obtain⟨p,a,b,c,d,h,rfl,hp,q⟩:=h;have S:Ah K H p [.int a,.int b,.int c,.int d,.int h]:=Ah.of hp;refine⟨_,(@Aq _ _ _ (BW (@Cq _ _ _ _ _ (Aa (Js Jt (Ak Ax (pv 0) Ac (λ_ _=>rfl))) (Aa (Ak Ax (pv 0) Ac (λ_ _=>rfl)) (Aa (Ak Ax (pv 0) Ac (λ_ _=>rfl)) (Aa (Ak Ax (pv 0) Ac (λ_ _=>rfl)) (Aa (Ak Ax (pv 0) Ac (λ_ _=>rfl)) Ae)))))))),?_⟩;try dsimp only[Bv]
 refine⟨_,U,p,_,_,_,U,U,S,U,_,U,_,U,p,_,_,_,U,U,S,U,_,U,p,_,_,_,U,U,S,U,_,U,p,_,_,_,U,U,S,U,_,U,p,_,_,_,U,U,S,U,(by show 5<=sizeLine;decide),λr e=>?_⟩;exact q r _ (Aw e _) Al
theorem X2h(F:Ab K "spun" (top 28) .none)(X:K.In h)(G:Ng h mg)(B:Bs mg)(cS:Aj P w K mg base k "spun_once" ["one"] Ip):Aj P w K mg base (k+1) "spun" ["one","k"] Im:=by
 refine F.cal X G ["one","k","turning","step"] λe H vs Q E o h=>?_;obtain⟨p,a,b,c,d,h,j,rfl,hp,q⟩:=h;have S:Ah K H p [.int a,.int b,.int c,.int d,.int h]:=Ah.of hp
 refine⟨_,(@Ao _ _ _ _ _ (@BR _ _ 2 _ _ _ _ e rfl (Or.inl rfl) (pv 0) rfl (.inl rfl))
  (@Ao _ _ _ _ _ (Gf PassesOwn.never rfl (Ln rfl B.range (Aa (Af Dv (pv 1) Ac) Ae)) (Bq (i:=3) e rfl (Or.inl rfl))
   (@Aq _ _ _ (@BR _ _ 2 _ _ _ _ e rfl (Or.inl rfl) (A_ cS o rfl (Aa (pv 2) Ae)) rfl (.inl rfl))))
  (@Aq _ _ _ (BW (pv 2))))),?_⟩
 try dsimp only[Bv]
 have u:=JC j (show (8:Int)≠0 by decide);have s:=Jl j (show (0:Int)<8 by decide);refine⟨_,U,_,U,_,_,U,U,(by show (0:Int)<8;decide),_,U,(by lia),(by lia),V3 (n:=(j%8).toNat) (λi σ H'=>Same H H'/\∃t v,σ=[some (.ref p),some (.int j),some (.ref t),v]/\H' t=some (T4 (Bx i (a,b,c,d)) h)) ⟨Same.refl _,p,none,U,hp⟩ ?_ ?_⟩
 ·rintro i σ H2 hi ⟨f,t,v,rfl,g⟩;refine⟨_,U,t,_,_,_,_,_,U,g,λr H' m l=>?_⟩;exact⟨f.trans m,r,_,U,l⟩
 ·rintro σ H2 ⟨f,t,v,rfl,g⟩;exact⟨_,U,q t H2 f g⟩
structure Sum (a b c d h a' b' c' d' h' x y z u g:Int):Prop where
 amt:Ka x y z u g
 same:CV (a*p2 h'+a'*p2 h) (b*p2 h'+b'*p2 h) (c*p2 h'+c'*p2 h) (d*p2 h'+d'*p2 h) (h+h') x y z u g
 le:g<=max h h'
theorem Yc{a a' h h' m:Int}(h0:0<=h)(h0':0<=h')(hm:h<=m)(hm':h'<=m):D_ (a*p2 h'+a'*p2 h) (h+h') (a*2^(m-h).toNat+a'*2^(m-h').toNat) m:=by
 unfold D_;rw[Ih h0 h0'];show _=(a*p2 (m-h)+a'*p2 (m-h'))*(p2 h*p2 h');have b:=KD h0 hm;have c:=KD h0' hm';have l1:(a*p2 h'+a'*p2 h)*p2 m=a*p2 h'*p2 m+a'*p2 h*p2 m:=Int.add_mul ..;rw[l1,show a*p2 h'*p2 m=a*p2 h'*(p2 (m-h)*p2 h) by rw[<-b],show a'*p2 h*p2 m=a'*p2 h*(p2 (m-h')*p2 h') by rw[<-c]];grind
theorem Ye(n:Nat):Sz (n+1) ((2:Int)^n):=by
 unfold Sz;rw[gj];exact Zt (by decide) (T_ n)
theorem Yd{a a' h h' m:Int}{n N:Nat}(hm:m-h<=h'/\m-h'<=h)(z:Sz n a)(z':Sz n a')(hN:n+h.toNat+h'.toNat+2<=N):Sz N (a*2^(m-h).toNat+a'*2^(m-h').toNat):=by
 refine((z.mul (Ye (m-h).toNat)).add (z'.mul (Ye (m-h').toNat))).mono ?_;lia
structure vW (n:Nat) (vs:List V) (H:Hp) (p q:Y9) (a b c d h a' b' c' d' h':Int):Prop where
 vs:vs=[.ref p,.ref q]
 one:H p=some (T5 a b c d h)
 other:H q=some (T5 a' b' c' d' h')
 h0:0<=h
 h0':0<=h'
 hh:h+h'<=40000
 hn:n<=500000
 z:Gw n a b c d
 z':Gw n a' b' c' d'
structure lN (K:U0) (n:Nat) (vs:List V) (H:Hp) (p q:Y9) (a b c d h a' b' c' d' h':Int):Prop where
 vs:vs=[.ref p,.ref q]
 one:Ah K H p [.int a,.int b,.int c,.int d,.int h]
 other:H q=some (T5 a' b' c' d' h')
 h0:0<=h
 h0':0<=h'
 hh:h+h'<=40000
 hn:n<=500000
 z:Gw n a b c d
 z':Gw n a' b' c' d'
def Xg (K:U0):Sp:=λvs H Q _=>∃n p q a b c d h a' b' c' d' h',lN K n vs H p q a b c d h a' b' c' d' h'/\∀(r:Y9) (H':Hp) (x y z u g:Int),Same H H'->H' r=some (T5 x y z u g)->Sum a b c d h a' b' c' d' h' x y z u g->Gw (n+h.toNat+h'.toNat+2) x y z u->Q (.ref r) H'
def rP:Sp:=λvs H Q _=>∃n p q a b c d h a' b' c' d' h',vW n vs H p q a b c d h a' b' c' d' h'/\∀(r:Y9) (H':Hp) (x y z u g:Int),Same H H'->H' r=some (T5 x y z u g)->Sum a b c d h (-a') (-b') (-c') (-d') h' x y z u g->Gw (n+h.toNat+h'.toNat+2) x y z u->Q (.ref r) H'
theorem X2k(F:Ab K "plus" (top 25) .none)(X:K.In h)(G:Ng h mg)(B:Bs mg)(cD:Aj P w K mg base k "halved_out" ["a","b","c","d","h"] Gi):Aj P w K mg base (k+1) "plus" ["one","other"] (Xg K):=by
 refine F.cal X G ["one","other","h","up","other_up","sums"] λs H vs Q E hr h=>?_;obtain⟨n,p,q,a,b,c,d,h,a',b',c',d',h',⟨rfl,e1,e2,I,e,hh,hn,z,f⟩,Y⟩:=h;have S:Ah K H p [.int a,.int b,.int c,.int d,.int h]:=e1;have M:Ah K H q [.int a',.int b',.int c',.int d',.int h']:=Ah.of e2
 refine⟨_,(@Ao _ _ _ _ _ (@BR _ _ 2 _ _ _ _ s rfl (Or.inl rfl) (Bm (_G rfl) rfl B.max boot_max (Aa (Ak Ax (pv 0) Ac (λ_ _=>rfl)) (Aa (Ak Ax (pv 1) Ac (λ_ _=>rfl)) Ae))) rfl (.inl rfl))
  (@Ao _ _ _ _ _ (@BR _ _ 3 _ _ _ _ s rfl (Or.inr rfl) (Af Fy (pv 2) (Ak Ax (pv 0) Ac (λ_ _=>rfl))) rfl (.inl rfl))
  (@Ao _ _ _ _ _ (@BR _ _ 4 _ _ _ _ s rfl (Or.inr rfl) (Af Fy (pv 2) (Ak Ax (pv 1) Ac (λ_ _=>rfl))) rfl (.inl rfl))
  (@Ao _ _ _ _ _ (Qc (i:=5) rfl s rfl rfl (BZ.of (Nc:=["x","y","up","other_up"]) (mp:=[none,none,some 3,some 4]) (by kernel_rfl)) (YZ true true rfl B.zip (Aa (Nb RW (pv 0) NP (NQ Ac)) (Aa (Nb RW (pv 1) NP (NQ Ac)) Ae))) (λ_ _ _ _=>(Rk rfl (show (["x","y","up","other_up"]:W4).Nodup by decide +kernel) rfl rfl rfl rfl)) (λ_ _ _ _=>(Af C_ (Af KJ (pv 0) (pv 2)) (Af KJ (pv 1) (pv 3)))) rfl)
  (@Aq _ _ _ (BW (A_ cD hr rfl (Aa (Ak Dy (pv 5) Ac (λ_ _=>rfl)) (Aa (Ak Dy (pv 5) Ac (λ_ _=>rfl)) (Aa (Ak Dy (pv 5) Ac (λ_ _=>rfl)) (Aa (Ak Dy (pv 5) Ac (λ_ _=>rfl)) (Aa (pv 2) Ae)))))))))))),?_⟩
 try dsimp only[Bv]
 refine⟨_,U,p,_,_,_,U,U,S,U,_,U,q,_,_,_,U,U,M,U,_,_,U,?_⟩;generalize hm:(if h'>h then h' else h)=m;have C:h<=m:=by rw[<-hm];split<;>lia
 have t:h'<=m:=by rw[<-hm];split<;>lia
 have O:m-h<=h'/\m-h'<=h/\m<=h+h':=by rw[<-hm];split<;>lia
 refine⟨_,U,_,U,p,_,_,_,U,U,S,U,_,_,U,U,?_⟩;refine⟨_,U,_,U,q,_,_,_,U,U,M,U,_,_,U,U,?_⟩;refine⟨_,U,4,U,p,_,U,S,Hu,λl1 l=>?_⟩;refine⟨_,U,4,U,q,_,U,(Aw l _).tup M,Hu,λl2 j=>?_⟩;have Z:Same H (upd (upd H l1 (.tup ([a,b,c,d].map V.int))) l2 (.tup ([a',b',c',d'].map V.int))):=(Aw l _).trans (Aw j _);refine⟨l1,l2,[a,b,c,d].map V.int,[a',b',c',d'].map V.int,U,(Aw j _).tup (Ah.of Al),Ah.of Al,λacc o=>?_⟩;refine qm (K:=K) (ns:=[a,b,c,d]) (ms:=[a',b',c',d']) (fr:=[some (.int (m-h)),some (.int (m-h'))]) (λx y=>x*2^(m-h).toNat+y*2^(m-h').toNat) rfl (show 4<=sizeLine by decide) ((Aw j _).tup (Ah.of Al)) (Ah.of Al) o
  (λha W=>⟨_,_,U,Ah.of ha,U,_,_,U,_,_,U,U,W⟩) ?_ ?_
 ·intro x y H2 N R T kN;have zx:Sz n x:=by
   simp only[Cw,Gm,Gk]at R;rcases R with rfl | rfl | rfl | rfl
   ·exact z.z1
   ·exact z.z2
   ·exact z.z3
   ·exact z.z4
  have zy:Sz n y:=by
   simp only[Cw,Gm,Gk]at T;rcases T with rfl | rfl | rfl | rfl
   ·exact f.z1
   ·exact f.z2
   ·exact f.z3
   ·exact f.z4
  exact⟨_,U,_,U,_,_,U,U,⟨n,zx,(by lia),(by lia)⟩,_,U,_,U,_,_,U,U,⟨n,zy,(by lia),(by lia)⟩,_,_,U,U,kN⟩
 intro H2 s3 a3;have L:Ai K H2 acc ((List.zipWith (λx y=>x*2^(m-h).toNat+y*2^(m-h').toNat) [a,b,c,d] [a',b',c',d']).map V.int):=Ai.of a3;refine⟨_,U,acc,_,_,_,U,U,L,U,_,U,acc,_,_,_,U,U,L,U,_,U,acc,_,_,_,U,U,L,U,_,U,acc,_,_,_,U,U,L,U,_,U,_,_,_,_,_,U,(by show 0<=m;lia),λr H' x y v u g s4 e4 A=>?_⟩;have D:n+h.toNat+h'.toNat+2<=n+h.toNat+h'.toNat+2:=BX _;have J:m-h<=h'/\m-h'<=h:=⟨O.1,O.2.1⟩;refine Y r H' x y v u g (Z.trans (s3.trans s4)) e4 ⟨A.amt,CV.trans ⟨Yc I e C t,Yc I e C t,Yc I e C t,Yc I e C t⟩ A.same,by have:=A.le;rw[<-hm]at this;split at this<;>lia⟩ (A.sz ⟨?_,?_,?_,?_⟩)
 ·exact Yd J z.z1 f.z1 D
 ·exact Yd J z.z2 f.z2 D
 ·exact Yd J z.z3 f.z3 D
 ·exact Yd J z.z4 f.z4 D
theorem yt(F:Ab K "minus" (top 26) .none)(X:K.In h)(G:Ng h mg)(cW:Aj P w K mg base k "plus" ["one","other"] (Xg K))(dS:Aj P w K mg base k "spun" ["one","k"] Im):Aj P w K mg base (k+1) "minus" ["one","other"] rP:=by
 refine F.cal X G ["one","other"] λL H vs Q E l h=>?_;obtain⟨n,p,q,a,b,c,d,h,a',b',c',d',h',⟨rfl,t,I,B,f,D,A,z,e⟩,m⟩:=h;refine⟨_,(@Aq _ _ _ (BW (A_ cW l rfl (Aa (pv 0) (Aa (A_ dS l rfl (Aa (pv 1) (Aa Ac Ae))) Ae))))),?_⟩;try dsimp only[Bv]
 refine⟨_,U,_,U,q,_,_,_,_,_,_,U,I,λr H2 j J=>?_⟩;have i:H2 r=some (T5 (-a') (-b') (-c') (-d') h'):=J;exact⟨n,p,r,a,b,c,d,h,-a',-b',-c',-d',h',⟨U,Ah.of (j _ _ t),i,B,f,D,A,z,⟨e.z1.neg,e.z2.neg,e.z3.neg,e.z4.neg⟩⟩,λs o x y v u g C=>m s o x y v u g (j.trans C)⟩
end
end Av
set_option maxRecDepth 10000
namespace FN
open L2 (Sz)
def Pos (t r:Int):Prop:=(0<t/\2*r*r<t*t)\/(0<r/\t*t<2*r*r)
instance (t r:Int):Decidable (Pos t r):=by unfold Pos;infer_instance
theorem tX:∀(n:Nat) (a b:Int),b.natAbs<n->a*a=2*b*b->a=0/\b=0
 | 0,_,_,h,_=>by lia
 | n+1,a,b,h,e=>by
  by_cases hb:b=0
  ·subst hb;have j:a*a=0:=by simpa using e
   exact⟨(N8.mp j).elim id id,U⟩
  ·have k:a%2=0:=by
    rcases Wb a with h0 | h1
    ·exact h0
    ·exfalso;have:(a*a)%2=1:=by rw[Int.mul_emod,h1];rfl
     rw[e,Pa]at this;lia
   obtain⟨c,rfl⟩:∃c,a=2*c:=⟨a / 2,by lia⟩;have g:b*b=2*c*c:=by grind
   have i:c.natAbs<b.natAbs:=by
    have h1:b.natAbs*b.natAbs=2*(c.natAbs*c.natAbs):=by
     have:=congrArg Int.natAbs g;rw[Fx,Pa,Fx,Fx]at this;simpa using this
    have d:0<b.natAbs:=by lia
    apply Nat.lt_of_not_le;intro f;have h2:b.natAbs*b.natAbs<=c.natAbs*c.natAbs:=Tj f f;have l:0<b.natAbs*b.natAbs:=Nat.mul_pos d d;lia
   have:=tX n b c (by lia) g;exact absurd this.1 hb
variable{a b:Int}
theorem JX(e:a*a=2*b*b):a=0/\b=0:=tX _ a b (T_ _) e
theorem jf{u v:Int}(hu:0<u)(h:v*v<u*u):0<u+v:=by
 apply ZP;intro a;have h1:0<=-v-u:=by lia
 have h2:0<=(-v-u)*(-v+u):=Pb h1 (by lia);grind
variable{t r:Int}
theorem Pos.tri(h:¬ (t=0/\r=0)):Pos t r\/Pos (-t) (-r):=by
 have a:t*t≠2*r*r:=λe=>h (JX e);unfold Pos;have c:-t*-t=t*t:=by grind
 have b:2*-r*-r=2*r*r:=by grind
 rw[c,b];rcases Int.lt_or_gt_of_ne a with hlt | hgt
 ·have:r≠0:=by
   rintro rfl;have:0<=t*t:=by
    rcases Qs 0 t with h | h
    ·exact Pb h h
    ·exact Uq h h
   lia
  lia
 ·have:t≠0:=by
   rintro rfl;have:0<=2*r*r:=by
    rcases Qs 0 r with h | h
    ·exact Pb (by lia) h
    ·exact Uq (by lia) h
   lia
  lia
theorem Pos.not_both(h:Pos t r)(h':Pos (-t) (-r)):False:=by
 unfold Pos at h h';have a:-t*-t=t*t:=by grind
 have b:2*-r*-r=2*r*r:=by grind
 rw[a,b]at h';lia
theorem Pos.zero:¬ Pos 0 0:=by unfold Pos;lia
theorem pB{u v:Int}(hu:0<u)(h:v*v<u*u):0<u+v/\0<u-v:=by
 constructor
 ·exact jf hu h
 ·have:=jf (v:=-v) hu (by grind);lia
theorem JN(a:Int):0<=a*a:=by
 rcases Qs 0 a with h | h
 ·exact Pb h h
 ·exact Uq h h
variable{c d:Int}
theorem Vn(ha:0<a)(hc:0<c)(h1:2*b*b<a*a)(h2:2*d*d<c*c):0<a*c+2*b*d/\0<a*c-2*b*d:=by
 have e:0<a*c:=GD ha hc;have f:0<(a*a-2*b*b)*(c*c):=GD (by lia) (GD hc hc);have p2:0<=(b*b)*(c*c-2*d*d):=Pb (JN b) (by lia);exact pB e (by grind)
theorem Vm(hb:0<b)(hd:0<d)(h1:a*a<2*b*b)(h2:c*c<2*d*d):0<2*b*d+a*c/\0<2*b*d-a*c:=by
 have e:0<2*b*d:=GD (by lia) hd;have f:0<(2*b*b-a*a)*(d*d):=GD (by lia) (GD hd hd);have p2:0<=(a*a)*(2*d*d-c*c):=Pb (JN a) (by lia);exact pB e (by grind)
theorem Vl(ha:0<a)(hd:0<d)(h1:2*b*b<a*a)(h2:c*c<2*d*d):0<a*d+b*c:=by
 have e:0<a*d:=GD ha hd;have f:0<(a*a-2*b*b)*(d*d):=GD (by lia) (GD hd hd);have p2:0<=(b*b)*(2*d*d-c*c):=Pb (JN b) (by lia);exact jf e (by grind)
theorem Pos.mul(x:Pos a b)(y:Pos c d):Pos (a*c+2*b*d) (a*d+b*c):=by
 rcases x with ⟨ha,n1⟩ | ⟨hb,n1⟩
 ·rcases y with ⟨hc,n2⟩ | ⟨hd,n2⟩
  ·have p:0<(a*a-2*b*b)*(c*c-2*d*d):=GD (by lia) (by lia);exact .inl ⟨(Vn ha hc n1 n2).1,by grind⟩
  ·have p:0<(a*a-2*b*b)*(2*d*d-c*c):=GD (by lia) (by lia);exact .inr ⟨Vl ha hd n1 n2,by grind⟩
 ·rcases y with ⟨hc,n2⟩ | ⟨hd,n2⟩
  ·have p:0<(2*b*b-a*a)*(c*c-2*d*d):=GD (by lia) (by lia);have q:=Vl hc hb n2 n1;exact .inr ⟨by grind,by grind⟩
  ·have p:0<(2*b*b-a*a)*(2*d*d-c*c):=GD (by lia) (by lia);have q:=(Vm hb hd n1 n2).1;exact .inl ⟨by grind,by grind⟩
theorem nq(ha:0<a)(hc:0<c)(n1:2*b*b<a*a)(n2:2*d*d<c*c):0<a+c/\2*(b+d)*(b+d)<(a+c)*(a+c):=by
 have q:=(Vn ha hc n1 n2).2;exact⟨by lia,by grind⟩
theorem nu(hb:0<b)(hd:0<d)(n1:a*a<2*b*b)(n2:c*c<2*d*d):0<b+d/\(a+c)*(a+c)<2*(b+d)*(b+d):=by
 have q:=(Vm hb hd n1 n2).2;exact⟨by lia,by grind⟩
theorem nY(ha:0<a)(n1:2*b*b<a*a)(hd:0<d)(n2:c*c<2*d*d):Pos (a+c) (b+d):=by
 have e:¬ (a+c=0/\b+d=0):=by
  rintro ⟨f,g⟩;obtain rfl:c=-a:=by lia
  obtain rfl:d=-b:=by lia
  grind
 rcases Pos.tri e with h | h
 ·exact h
 ·exfalso;rcases h with ⟨h1,h2⟩ | ⟨h1,h2⟩
  ·have:=(nq h1 ha h2 n1).2;grind
  ·have:=(nu h1 hd h2 n2).2;grind
theorem Pos.add(x:Pos a b)(y:Pos c d):Pos (a+c) (b+d):=by
 rcases x with ⟨ha,n1⟩ | ⟨hb,n1⟩
 ·rcases y with ⟨hc,n2⟩ | ⟨hd,n2⟩
  ·exact .inl (nq ha hc n1 n2)
  ·exact nY ha n1 hd n2
 ·rcases y with ⟨hc,n2⟩ | ⟨hd,n2⟩
  ·have:=nY hc n2 hb n1;rw[Int.add_comm a c,Int.add_comm b d];exact this
  ·exact .inr (nu hb hd n1 n2)
theorem Pos.nat{k:Int}(h:0<k):Pos k 0:=.inl ⟨h,by have:=GD h h;lia⟩
theorem Pos.mul_iff(x:Pos a b):Pos (a*c+2*b*d) (a*d+b*c)↔Pos c d:=by
 refine⟨λh=>?_,λh=>x.mul h⟩;by_cases hz:c=0/\d=0
 ·obtain⟨rfl,rfl⟩:=hz;simp at h;exact absurd h Pos.zero
 ·rcases Pos.tri hz with q | q
  ·exact q
  ·exfalso;have:=x.mul q;refine Pos.not_both h ?_;have e:a*-c+2*b*-d=-(a*c+2*b*d):=by grind
   have f:a*-d+b*-c=-(a*d+b*c):=by grind
   rw[e,f]at this;exact this
theorem Pos.scale{k:Int}(hk:0<k):Pos (k*c) (k*d)↔Pos c d:=by
 have:=Pos.mul_iff (c:=c) (d:=d) (Pos.nat hk);simpa using this
noncomputable def Dr (t r:Int):Bool:=if 0<=t/\0<=r then false else if t<=0/\r<=0 then true else if r<0 then decide (t*t<2*r*r) else decide (2*r*r<t*t)
noncomputable def Ea (t r:Int):Bool:=(decide (0<t) && decide (2*r*r<t*t)) || (decide (0<r) && decide (t*t<2*r*r))
theorem z_(t r:Int):Ea t r=decide (Pos t r):=by
 rw[Pg,decide_eq_true_iff];unfold Ea Pos;simp only[Wa,L_,Wj]
theorem _E(t r:Int):Dr t r=decide (Pos (-t) (-r)):=by
 have a:-t*-t=t*t:=by grind
 have b:2*-r*-r=2*r*r:=by grind
 unfold Dr;split
 ·rename_i h;symm;apply Dl;unfold Pos;lia
 ·split
  ·rename_i h1 h2;symm;apply DK;rcases Pos.tri (t:=-t) (r:=-r) (by lia) with q | q
   ·exact q
   ·exfalso;unfold Pos at q;simp only[Int.neg_neg]at q;lia
  ·split
   ·apply decide_eq_decide.mpr;unfold Pos;rw[a,b];lia
   ·apply decide_eq_decide.mpr;unfold Pos;rw[a,b];lia
def HJ (p q n:Int):Prop:=Nat.gcd (Nat.gcd p.natAbs q.natAbs) n.natAbs=1
structure Low (t r b p q n:Int):Prop where
 ex:∃g:Int,g≠0/\t=g*p/\r=g*q/\b=g*n
 pos:0<n
 cop:HJ p q n
variable{p q n:Int}
theorem Low.sizes(h:Low t r b p q n):p.natAbs<=t.natAbs/\q.natAbs<=r.natAbs/\n.natAbs<=b.natAbs:=by
 obtain⟨g,c,rfl,rfl,rfl⟩:=h.ex;have a:0<g.natAbs:=by lia
 refine⟨?_,?_,?_⟩<;>(rw[Fx];exact Zw _ a)
theorem Low.gpos(h:Low t r b p q n)(hb:0<b):∃g:Int,0<g/\t=g*p/\r=g*q/\b=g*n:=by
 obtain⟨g,d,h1,h2,c⟩:=h.ex;refine⟨g,?_,h1,h2,c⟩;apply ZP;intro a;have:=Uq a (by have:=h.pos;lia:-n<=0);rw[Int.mul_neg,<-c]at this;lia
theorem iM{a b c:Nat}(h:c≠0):0<Nat.gcd (Nat.gcd a b) c:=Nat.gcd_pos_of_pos_right _ (by lia)
theorem qt(hb:b≠0){G:Nat}(hG:G=Nat.gcd (Nat.gcd t.natAbs r.natAbs) b.natAbs){g:Int}(hg:g=if b<0 then -(G:Int) else G):
  Low t r b (t.fdiv g) (r.fdiv g) (b.fdiv g):=by
 have h:0<G:=by rw[hG];exact iM (by lia)
 have d:g≠0:=by rw[hg];split<;>lia
 have c:g.natAbs=G:=by rw[hg];split<;>lia
 have s:g ∣ t:=Wu.mp (by rw[c,hG];exact Nat.dvd_trans (ZR _ _) (ZR _ _));have k:g ∣ r:=Wu.mp (by rw[c,hG];exact Nat.dvd_trans (ZR _ _) (Zc _ _));have o:g ∣ b:=Wu.mp (by rw[c,hG];exact Zc _ _);obtain⟨p,hp⟩:=s;obtain⟨q,j⟩:=k;obtain⟨n,f⟩:=o;have ep:t.fdiv g=p:=by rw[hp];exact aF _ d
 have l:r.fdiv g=q:=by rw[j];exact aF _ d
 have en:b.fdiv g=n:=by rw[f];exact aF _ d
 rw[ep,l,en];refine⟨⟨g,d,hp,j,f⟩,?_,?_⟩
 ·apply ZP;intro i;have m:n≠0:=by rintro rfl;rw[Int.mul_zero]at f;exact hb f
  by_cases hbn:b<0
  ·rw[if_pos hbn]at hg;have:=Uq (a:=g) (b:=n) (by lia) i;lia
  ·rw[if_neg hbn]at hg;have:=Int.mul_neg_of_pos_of_neg (a:=g) (b:=n) (by lia) (by lia);lia
 ·unfold HJ;have e:G*Nat.gcd (Nat.gcd p.natAbs q.natAbs) n.natAbs=G*1:=by
   rw[<-Q0,<-Q0,<-c,<-Fx,<-Fx,<-Fx,<-hp,<-j,<-f,c,Nat.mul_one];exact hG.symm
  exact Nat.eq_of_mul_eq_mul_left h e
theorem _R(t r b:Nat):Nat.gcd (Nat.gcd b r) t=Nat.gcd (Nat.gcd t r) b:=by
 rw[Qu (Nat.gcd b r) t,Qu b r,<-gW]
variable{p' q' n':Int}
theorem Low.unique(h:0<n)(h':0<n')(c:HJ p q n)(c':HJ p' q' n')(e1:p'*n=p*n')(e2:q'*n=q*n'):p=p'/\q=q'/\n=n':=by
 have en:n.natAbs=n'.natAbs:=by
  have e:n.natAbs*Nat.gcd (Nat.gcd p'.natAbs q'.natAbs) n'.natAbs=n'.natAbs*Nat.gcd (Nat.gcd p.natAbs q.natAbs) n.natAbs:=by
   rw[<-Q0,<-Q0,<-Q0,<-Q0,<-Fx,<-Fx,<-Fx,<-Fx,<-Fx,<-Fx,
    JB n p',JB n q',JB n' p,JB n' q,e1,e2,JB n n']
  have f:Nat.gcd (Nat.gcd p.natAbs q.natAbs) n.natAbs=1:=c;have d:Nat.gcd (Nat.gcd p'.natAbs q'.natAbs) n'.natAbs=1:=c';rw[f,d]at e;lia
 have a:n=n':=by lia
 subst a;have b:n≠0:=by lia
 exact⟨(J9 b e1).symm,(J9 b e2).symm,U⟩
def Lt (p q n p' q' n':Int):Prop:=Pos (p'*n-p*n') (q'*n-q*n')
instance (p q n p' q' n':Int):Decidable (Lt p q n p' q' n'):=by unfold Lt;infer_instance
theorem zj(h:Low (p*n'+-p'*n) (q*n'+-q'*n) (n*n') a b c)(hn:0<n)(hn':0<n'):Dr a b=decide (Lt p q n p' q' n'):=by
 rw[_E];apply decide_eq_decide.mpr;obtain⟨g,d,j,i,_⟩:=h.gpos (GD hn hn');unfold Lt;have e:p'*n-p*n'=g*-a:=by grind
 have f:q'*n-q*n'=g*-b:=by grind
 rw[e,f];exact(Pos.scale d).symm
theorem Lt.asymm(h:Lt p q n p' q' n')(h':Lt p' q' n' p q n):False:=by
 unfold Lt at *;refine Pos.not_both h ?_;rw[XR,XR];exact h'
theorem Lt.total(hn:0<n)(hn':0<n')(c:HJ p q n)(c':HJ p' q' n')(h:¬ Lt p q n p' q' n')(h':¬ Lt p' q' n' p q n):p=p'/\q=q'/\n=n':=by
 by_cases hz:p'*n-p*n'=0/\q'*n-q*n'=0
 ·exact Low.unique hn hn' c c' (by omega) (by omega)
 ·exfalso;rcases Pos.tri hz with k | k
  ·exact h k
  ·rw[XR,XR]at k;exact h' k
theorem Lt.trans{p3 q3 n3:Int}(hn:0<n)(hn':0<n')(hn3:0<n3)(h:Lt p q n p' q' n')(h':Lt p' q' n' p3 q3 n3):Lt p q n p3 q3 n3:=by
 unfold Lt at *;have a:=(Pos.scale hn3).mpr h;have b:=(Pos.scale hn).mpr h';have s:=a.add b;have d:n3*(p'*n-p*n')+n*(p3*n'-p'*n3)=n'*(p3*n-p*n3):=by grind
 have c:n3*(q'*n-q*n')+n*(q3*n'-q'*n3)=n'*(q3*n-q*n3):=by grind
 rw[d,c]at s;exact(Pos.scale hn').mp s
end FN
namespace Ci
open L2 Am FN
noncomputable def tt (a b c d:Int):Int:=a*a+b*b+c*c+d*d
noncomputable def rr (a b c d:Int):Int:=a*b+b*c+c*d-d*a
theorem X0v(a b c d a' b' c' d':Int):tt (a+a') (b+b') (c+c') (d+d')+tt (a-a') (b-b') (c-c') (d-d')=2*(tt a b c d+tt a' b' c' d'):=by
 unfold tt;grind
theorem X1g(a b c d a' b' c' d':Int):rr (a+a') (b+b') (c+c') (d+d')+rr (a-a') (b-b') (c-c') (d-d')=2*(rr a b c d+rr a' b' c' d'):=by
 unfold rr;grind
theorem X4v(k a b c d:Int):tt (a*k) (b*k) (c*k) (d*k)=tt a b c d*(k*k):=by unfold tt;grind
theorem X5a(k a b c d:Int):rr (a*k) (b*k) (c*k) (d*k)=rr a b c d*(k*k):=by unfold rr;grind
theorem X0u(a b c d:Int):tt (-d) a b c=tt a b c d:=by unfold tt;grind
theorem X1f(a b c d:Int):rr (-d) a b c=rr a b c d:=by unfold rr;grind
theorem Uu(a b c d:Int):tt a b c d*tt a b c d-2*rr a b c d*rr a b c d=(a*a-c*c+2*b*d)*(a*a-c*c+2*b*d)+(2*a*c-b*b+d*d)*(2*a*c-b*b+d*d):=by
 unfold tt rr;grind
theorem Jx{x:Int}(h:x*x=0):x=0:=by rcases N8.mp h with h | h<;>exact h
variable{b c d:Int}
theorem Uv{a:Int}(hA:a*a-c*c+2*b*d=0)(hB:2*a*c-b*b+d*d=0):a=0/\b=0/\c=0/\d=0:=by
 have o:(a*b+c*d)*(a*b+c*d)=(b*c-a*d)*(b*c-a*d):=by grind
 have k:2*(a*b+c*d)*(b*c-a*d)=(b*b+d*d)*(b*b+d*d):=by grind
 have t:0<=b*b+d*d:=Int.add_nonneg (JN b) (JN d);have p:(2*(a*b+c*d)*(a*b+c*d))*(2*(a*b+c*d)*(a*b+c*d))=((b*b+d*d)*(b*b+d*d))*((b*b+d*d)*(b*b+d*d)):=by
  rw[<-k];have:(2*(a*b+c*d)*(a*b+c*d))*(2*(a*b+c*d)*(a*b+c*d))=4*((a*b+c*d)*(a*b+c*d))*((a*b+c*d)*(a*b+c*d)):=by grind
  rw[this];have h2:2*(a*b+c*d)*(b*c-a*d)*(2*(a*b+c*d)*(b*c-a*d))=4*((a*b+c*d)*(a*b+c*d))*((b*c-a*d)*(b*c-a*d)):=by grind
  rw[h2,<-o]
 have g:0<=2*(a*b+c*d)*(a*b+c*d):=by
  have:=JN (a*b+c*d);have e:2*(a*b+c*d)*(a*b+c*d)=2*((a*b+c*d)*(a*b+c*d)):=by grind
  rw[e];lia
 have j:0<=(b*b+d*d)*(b*b+d*d):=JN _;have n:(b*b+d*d)*(b*b+d*d)=2*(a*b+c*d)*(a*b+c*d):=by
  generalize 2*(a*b+c*d)*(a*b+c*d)=u at *;generalize (b*b+d*d)*(b*b+d*d)=v at *;rcases Int.lt_trichotomy u v with h | h | h
  ·have h1:u*u<=u*v:=aM (J0 h) g;have h2:u*v<v*v:=m7 h (by lia);lia
  ·exact h.symm
  ·have h1:v*v<=v*u:=aM (J0 h) j;have h2:v*u<u*u:=m7 h (by lia);lia
 have r:=JX n;have q:=JN b;have s:=JN d;have l:b=0:=Jx (by omega);have i:d=0:=Jx (by omega);subst l i;have f:a*c=0:=by grind
 have m:a*a=c*c:=by grind
 rcases N8.mp f with h | h
 ·subst h;exact⟨U,U,Jx (by lia),U⟩
 ·subst h;exact⟨Jx (by lia),U,U,U⟩
theorem Y1v{a:Int}(h:¬ (a=0/\b=0/\c=0/\d=0)):Pos (tt a b c d) (rr a b c d):=by
 have n:=Uu a b c d;have j:=JN (a*a-c*c+2*b*d);have m:=JN (2*a*c-b*b+d*d);have i:=JN a;have g:=JN b;have k:=JN c;have l:=JN d;have tpos:0<tt a b c d:=by
  unfold tt;apply Classical.byContradiction;intro f;exact h ⟨Jx (by omega),Jx (by omega),Jx (by omega),Jx (by omega)⟩
 refine .inl ⟨tpos,?_⟩;apply Classical.byContradiction;intro f;generalize hX:a*a-c*c+2*b*d=X at *;generalize hY:2*a*c-b*b+d*d=Y at *;have x0:X=0:=Jx (by omega);have e:Y=0:=Jx (by omega);subst x0 e;exact h (Uv hX hY)
theorem wC(h:Int):0<p2 h:=by unfold p2;exact Qq (by decide)
theorem can{k x y:Int}(hk:k≠0)(h:k*x=k*y):x=y:=RG hk h
theorem Low.cr{t r p q n:Int}(l:Low t r b p q n):p*b=t*n/\q*b=r*n:=by
 obtain⟨g,_,rfl,rfl,rfl⟩:=l.ex;constructor<;>grind
end Ci
namespace Hw
open L2 Am Pc Ba FN Ci
noncomputable def CJ (F:Nat->Int):Nat->Int
 | 0=>0
 | n+1=>CJ F n+F n
theorem Nh{F G:Nat->Int}:∀{n},(∀i,i<n->F i=G i)->CJ F n=CJ G n
 | 0,_=>rfl
 | n+1,h=>by
  show CJ F n+F n=CJ G n+G n;rw[Nh λi hi=>h i (by lia),h n (by lia)]
theorem jO{F G:Nat->Int}:∀n,CJ (λi=>F i+G i) n=CJ F n+CJ G n
 | 0=>rfl
 | n+1=>by
  show CJ (λi=>F i+G i) n+(F n+G n)=(CJ F n+F n)+(CJ G n+G n);rw[jO n];lia
theorem Xp{F:Nat->Int}{k:Int}:∀n,CJ (λi=>k*F i) n=k*CJ F n
 | 0=>by show (0:Int)=k*0;rw[Int.mul_zero]
 | n+1=>by
  show CJ (λi=>k*F i) n+k*F n=k*(CJ F n+F n);rw[Xp n,Int.mul_add]
noncomputable def lsum (F:Nat->Int):List Nat->Int
 | []=>0
 | a::l=>F a+lsum F l
variable{F:Nat->Int}
theorem _4{l l':W9}(h:l.Perm l'):lsum F l=lsum F l':=by
 induction h with
 | nil=>rfl
 | cons x _ ih=>show F x+_=F x+_;rw[ih]
 | swap x y l=>show F y+(F x+lsum F l)=F x+(F y+lsum F l);lia
 | trans _ _ a b=>exact a.trans b
theorem su{F:Nat->Int}:∀l l',lsum F (l++l')=lsum F l+lsum F l'
 | [],l'=>by show lsum F l'=0+lsum F l';lia
 | a::l,l'=>by
  show F a+lsum F (l++l')=F a+lsum F l+lsum F l';rw[su l l'];lia
theorem jd{F:Nat->Int}:∀n,CJ F n=lsum F (List.range n)
 | 0=>rfl
 | n+1=>by
  rw[N_,su,<-jd n];show CJ F n+F n=CJ F n+(F n+0);lia
theorem tD{F:Nat->Int}{t:Nat->Nat}:∀l,lsum (λi=>F (t i)) l=lsum F (l.map t)
 | []=>rfl
 | a::l=>by
  show F (t a)+_=F (t a)+_;rw[tD l]
theorem pA{t:Nat->Nat}:∀{l:W9},(∀a∈l,∀b∈l,t a=t b->a=b)->l.Nodup->(l.map t).Nodup
 | [],_,_=>List.nodup_nil
 | a::l,h,d=>by
  rw[Jh,Qy];have d':=Qy.mp d;refine⟨λg=>?_,pA (λx f y i=>h x (.tail _ f) y (.tail _ i)) d'.2⟩;obtain⟨b,c,e⟩:=GF.mp g;have:=h b (.tail _ c) a (.head _) e;subst this;exact d'.1 c
variable{n:Nat}{t:Nat->Nat}
theorem zP(h1:∀i,i<n->t i<n)(h2:∀i,i<n->t (t i)=i):((List.range n).map t).Perm (List.range n):=by
 rw[List.perm_iff_count];intro a;have d:(List.range n).Nodup:=Wg
 have d2:((List.range n).map t).Nodup:=pA (λx g y h e=>by
  have:=h2 x (Em.mp g)
  rw[e,h2 y (Em.mp h)]at this
  exact this.symm) d
 rw[d.count,d2.count];have:a∈(List.range n).map t↔a∈List.range n:=by
  rw[GF,Em];constructor
  ·rintro ⟨b,f,rfl⟩;exact h1 b (Em.mp f)
  ·intro c;exact⟨t a,Em.mpr (h1 a c),h2 a c⟩
 by_cases q:a∈List.range n
 ·rw[if_pos (this.mpr q),if_pos q]
 ·rw[if_neg (λz=>q (this.mp z)),if_neg q]
theorem tu(h1:∀i,i<n->t i<n)(h2:∀i,i<n->t (t i)=i):CJ (λi=>F (t i)) n=CJ F n:=by
 rw[jd,jd,tD];exact _4 (zP h1 h2)
noncomputable def va (x:A5)(M:Int):Int:=x.1.1*p2 (M-x.2)
noncomputable def vb (x:A5)(M:Int):Int:=x.1.2.1*p2 (M-x.2)
noncomputable def vc (x:A5)(M:Int):Int:=x.1.2.2.1*p2 (M-x.2)
noncomputable def vd (x:A5)(M:Int):Int:=x.1.2.2.2*p2 (M-x.2)
noncomputable def Bo (x:A5)(M:Int):Int:=tt (va x M) (vb x M) (vc x M) (vd x M)
noncomputable def BK (x:A5)(M:Int):Int:=rr (va x M) (vb x M) (vc x M) (vd x M)
theorem NK(x:A5)(M:Int):Bo x M=tt x.1.1 x.1.2.1 x.1.2.2.1 x.1.2.2.2*(p2 (M-x.2)*p2 (M-x.2)):=X4v _ _ _ _ _
theorem NZ(x:A5)(M:Int):BK x M=rr x.1.1 x.1.2.1 x.1.2.2.1 x.1.2.2.2*(p2 (M-x.2)*p2 (M-x.2)):=X5a _ _ _ _ _
theorem uP{v:Int×Int×Int×Int}{h M:Int}:∀j,Bo (Ba.Bx j v,h) M=Bo (v,h) M/\BK (Ba.Bx j v,h) M=BK (v,h) M
 | 0=>⟨rfl,rfl⟩
 | j+1=>by
  obtain⟨a,b⟩:=uP (v:=v) (h:=h) (M:=M) j;rw[<-a,<-b,NK,NK,NZ,NZ];exact⟨congrArg (·*_) (X0u _ _ _ _),congrArg (·*_) (X1f _ _ _ _)⟩
variable{M:Int}
theorem La{x:A5}{k:Int}:Bo (Ba.E_ x k) M=Bo x M/\BK (Ba.E_ x k) M=BK x M:=uP _
variable{N:Int}
theorem pN{x:A5}(h:x.2<=M)(h':M<=N):Bo x N=(p2 (N-M)*p2 (N-M))*Bo x M/\BK x N=(p2 (N-M)*p2 (N-M))*BK x M:=by
 have e:p2 (N-x.2)=p2 (N-M)*p2 (M-x.2):=by
  rw[<-Ih (by lia) (by lia)];congr 1;lia
 rw[NK,NK,NZ,NZ,e];constructor<;>grind
noncomputable def Ar (f:Nat->A5)(n:Nat)(M:Int):Int:=CJ (λw=>Bo (f w) M) n
noncomputable def Ag (f:Nat->A5)(n:Nat)(M:Int):Int:=CJ (λw=>BK (f w) M) n
variable{f:Nat->A5}
theorem Yb(h:∀w,w<n->(f w).2<=M)(h':M<=N):Ar f n N=(p2 (N-M)*p2 (N-M))*Ar f n M/\Ag f n N=(p2 (N-M)*p2 (N-M))*Ag f n M:=by
 unfold Ar Ag;rw[<-Xp,<-Xp];exact⟨Nh λi hi=>(pN (h i hi) h').1,Nh λi hi=>(pN (h i hi) h').2⟩
def Gb (f:Nat->A5)(n:Nat)(x y z M:Int):Prop:=x*(p2 M*p2 M)=Ar f n M*z/\y*(p2 M*p2 M)=Ag f n M*z
structure He (f:Nat->A5) (n:Nat) (x y z:Int):Prop where
 pos:0<z
 cop:HJ x y z
 eq:∀M,0<=M->(∀w,w<n->(f w).2<=M)->Gb f n x y z M
variable{x y z:Int}
theorem Gb.move(h0:0<=M)(h:∀w,w<n->(f w).2<=M)(h':M<=N):Gb f n x y z M↔Gb f n x y z N:=by
 obtain⟨g,d⟩:=Yb h h';have e:p2 N=p2 (N-M)*p2 M:=by rw[<-Ih (by lia) h0];congr 1;lia
 have c:p2 (N-M)*p2 (N-M)≠0:=JD (Ed _) (Ed _);unfold Gb;rw[g,d,e];generalize p2 (N-M)=q at *;constructor
 ·rintro ⟨a,b⟩;constructor<;>grind
 ·rintro ⟨a,b⟩;constructor
  ·apply can c;grind
  ·apply can c;grind
theorem He.of(pos:0<z)(cop:HJ x y z)(h0:0<=M)(h:∀w,w<n->(f w).2<=M)(e:Gb f n x y z M):He f n x y z:=by
 refine⟨pos,cop,λN b a=>?_⟩;rcases Qs M N with l | l
 ·exact(Gb.move h0 h l).mp e
 ·exact(Gb.move b a l).mpr e
theorem bound{f:Nat->A5}:∀n:Nat,∃M:Int,0<=M/\∀w,w<n->(f w).2<=M
 | 0=>⟨0,GC 0,λw h=>absurd h (JF w)⟩
 | n+1=>by
  obtain⟨M,a,h⟩:=bound (f:=f) n;refine⟨max M (f n).2,by lia,λw b=>?_⟩;by_cases e:w=n
  ·subst e;lia
  ·have:=h w (by lia);lia
variable{g:Nat->A5}
theorem He.unique{x' y' z':Int}(a:He f n x y z)(b:He g n x' y' z')(e:∃c,∀M,c<=M->Ar f n M=Ar g n M/\Ag f n M=Ag g n M):x=x'/\y=y'/\z=z':=by
 obtain⟨c,e⟩:=e;obtain⟨k,t,h1⟩:=bound (f:=f) n;obtain⟨l,s,h2⟩:=bound (f:=g) n;let M:=max c (max k l);have k0:c<=M:=Int.le_max_left _ _;have k1:k<=M:=I_ (Int.le_max_left _ _) (ZM _ _);have k2:l<=M:=I_ (ZM _ _) (ZM _ _);obtain⟨i,j⟩:=a.eq M (by lia) λw d=>I_ (h1 w d) k1;obtain⟨m,p⟩:=b.eq M (by lia) λw d=>I_ (h2 w d) k2;obtain⟨o,r⟩:=e M k0;rw[o]at i;rw[r]at j;have h:p2 M*p2 M≠0:=JD (Ed _) (Ed _);generalize Ar g n M=T at *;generalize Ag g n M=R at *;generalize p2 M*p2 M=q at *;refine Low.unique a.pos b.pos a.cop b.cop ?_ ?_
 ·apply can h;have:q*(x'*z)=x'*q*z:=by grind
  rw[this,m];have:q*(x*z')=x*q*z':=by grind
  rw[this,i];grind
 ·apply can h;have:q*(y'*z)=y'*q*z:=by grind
  rw[this,p];have:q*(y*z')=y*q*z':=by grind
  rw[this,j];grind
theorem X7v{k:Nat->Int}(h1:∀i,i<n->t i<n)(h2:∀i,i<n->t (t i)=i)(e:∀i,i<n->g i=E_ (f (t i)) (k i))(M:Int):Ar g n M=Ar f n M/\Ag g n M=Ag f n M:=by
 unfold Ar Ag
 rw[Nh (F:=λw=>Bo (g w) M) (G:=λw=>Bo (f (t w)) M) λi hi=>by rw[e i hi];exact La.1,
  Nh (F:=λw=>BK (g w) M) (G:=λw=>BK (f (t w)) M) λi hi=>by rw[e i hi];exact La.2]
 exact⟨tu (F:=λw=>Bo (f w) M) h1 h2,tu (F:=λw=>BK (f w) M) h1 h2⟩
end Hw
namespace Lk
open L2 Am Pc Ba FN Ci Hw
abbrev V4:=Int×Int×Int×Int
theorem Jd{u v:V4}(h1:u.1=v.1)(h2:u.2.1=v.2.1)(h3:u.2.2.1=v.2.2.1)(h4:u.2.2.2=v.2.2.2):u=v:=by
 obtain⟨a,b,c,d⟩:=u;obtain⟨a',b',c',d'⟩:=v;simp only at h1 h2 h3 h4;subst h1 h2 h3 h4;rfl
noncomputable def add (u v:V4):V4:=(u.1+v.1,u.2.1+v.2.1,u.2.2.1+v.2.2.1,u.2.2.2+v.2.2.2)
noncomputable def sm (k:Int)(v:V4):V4:=(k*v.1,k*v.2.1,k*v.2.2.1,k*v.2.2.2)
noncomputable def vec (x:A5)(M:Int):V4:=(va x M,vb x M,vc x M,vd x M)
abbrev Fv (x:A5):Prop:=Ka x.1.1 x.1.2.1 x.1.2.2.1 x.1.2.2.2 x.2
noncomputable abbrev nought:A5:=((0,0,0,0),0)
theorem ig(v:V4)(j:Nat):∀i,Bx i (Bx j v)=Bx (i+j) v
 | 0=>by rw[Hj];rfl
 | i+1=>by
  rw[show i+1+j=(i+j)+1 by lia];show (-(Bx i (Bx j v)).2.2.2,(Bx i (Bx j v)).1,(Bx i (Bx j v)).2.1,(Bx i (Bx j v)).2.2.1)=_;rw[ig v j i];rfl
theorem kO(v:V4):Bx 4 v=sm (-1) v:=by
 refine Jd ?_ ?_ ?_ ?_<;>simp[Bx,sm]
theorem X7x(v:V4):Bx 8 v=v:=by
 rw[show 8=4+4 from rfl,<-ig,kO,kO];refine Jd ?_ ?_ ?_ ?_<;>simp[sm]
theorem X1h(v:V4)(k:Nat):Bx (k%8) v=Bx k v:=by
 have:∀q r,Bx (r+8*q) v=Bx r v:=by
  intro q;induction q with
  | zero=>intro r;rfl
  | succ q ih =>
   intro r;rw[show r+8*(q+1)=(r+8*q)+8 by lia,<-ig,X7x,ih]
 have e:=this (k / 8) (k%8);rw[show k%8+8*(k / 8)=k by lia]at e;exact e.symm
theorem rm{v:V4}{h M:Int}:∀k,vec (Bx k v,h) M=Bx k (vec (v,h) M)
 | 0=>rfl
 | k+1=>by
  show vec ((-(Bx k v).2.2.2,(Bx k v).1,(Bx k v).2.1,(Bx k v).2.2.1),h) M=(-(Bx k (vec (v,h) M)).2.2.2,(Bx k (vec (v,h) M)).1,(Bx k (vec (v,h) M)).2.1,(Bx k (vec (v,h) M)).2.2.1);rw[<-rm k];refine Jd ?_ rfl rfl rfl;show -(Bx k v).2.2.2*p2 (M-h)=-((Bx k v).2.2.2*p2 (M-h));rw[XQ]
variable{x:A5}{M:Int}
theorem uD(k:Nat):vec (E_ x k) M=Bx k (vec x M):=by
 show vec (Bx ((k:Int)%8).toNat x.1,x.2) M=_;rw[rm,show ((k:Int)%8).toNat=k%8 by lia,X1h]
variable{y:A5}
theorem zX(hx0:0<=x.2)(hy0:0<=y.2)(hx:x.2<=M)(hy:y.2<=M)(e:vec x M=vec y M):CV x.1.1 x.1.2.1 x.1.2.2.1 x.1.2.2.2 x.2 y.1.1 y.1.2.1 y.1.2.2.1 y.1.2.2.2 y.2:=by
 have k:∀{a b:Int},a*p2 (M-x.2)=b*p2 (M-y.2)->D_ a x.2 b y.2:=λ{a b} q=>by
  unfold D_;have g:=KD hx0 hx;have c:=KD hy0 hy;apply J9 (Ed M);have f:a*p2 y.2*p2 M=(a*p2 (M-x.2))*(p2 x.2*p2 y.2):=by rw[g];grind
  have d:b*p2 x.2*p2 M=(b*p2 (M-y.2))*(p2 x.2*p2 y.2):=by rw[c];grind
  rw[f,d,q]
 exact⟨k (congrArg (λt:V4=>t.1) e),k (congrArg (λt:V4=>t.2.1) e),k (congrArg (λt:V4=>t.2.2.1) e),k (congrArg (λt:V4=>t.2.2.2) e)⟩
theorem qD(hx0:0<=x.2)(hy0:0<=y.2)(hx:x.2<=M)(hy:y.2<=M)(s:CV x.1.1 x.1.2.1 x.1.2.2.1 x.1.2.2.2 x.2 y.1.1 y.1.2.1 y.1.2.2.1 y.1.2.2.2 y.2):vec x M=vec y M:=by
 have k:∀{a b:Int},D_ a x.2 b y.2->a*p2 (M-x.2)=b*p2 (M-y.2):=λ{a b} q=>by
  unfold D_ at q;have e1:=KD hx0 hx;have e2:=KD hy0 hy;apply J9 (JD (Ed x.2) (Ed y.2));have d:a*p2 (M-x.2)*(p2 x.2*p2 y.2)=(a*p2 y.2)*p2 M:=by rw[e1];grind
  have c:b*p2 (M-y.2)*(p2 x.2*p2 y.2)=(b*p2 x.2)*p2 M:=by rw[e2];grind
  rw[d,c,q]
 exact Jd (k s.e1) (k s.e2) (k s.e3) (k s.e4)
theorem YF(h:x.1.1=y.1.1/\x.1.2.1=y.1.2.1/\x.1.2.2.1=y.1.2.2.1/\x.1.2.2.2=y.1.2.2.2/\x.2=y.2):x=y:=by
 obtain⟨⟨a,b,c,d⟩,h1⟩:=x;obtain⟨⟨a',b',c',d'⟩,h2⟩:=y;obtain⟨rfl,rfl,rfl,rfl,rfl⟩:=h;rfl
theorem X0t(ax:Fv x)(ay:Fv y)(hx:x.2<=M)(hy:y.2<=M)(e:vec x M=vec y M):x=y:=YF (ax.unique ay (zX ax.nn ay.nn hx hy e))
theorem Y1w(a:Fv x):vec x M=(0,0,0,0)↔x=nought:=by
 constructor
 ·intro e;have n:=Ed (M-x.2);have z:∀{t:Int},t*p2 (M-x.2)=0->t=0:=λ{t} h=>by
   rcases N8.mp h with q | q
   ·exact q
   ·exact absurd q n
  have f:=z (congrArg (λt:V4=>t.1) e);have b:=z (congrArg (λt:V4=>t.2.1) e);have c:=z (congrArg (λt:V4=>t.2.2.1) e);have d:=z (congrArg (λt:V4=>t.2.2.2) e);have o:=a.odd;exact YF ⟨f,b,c,d,by show x.2=0;lia⟩
 ·rintro rfl;refine Jd ?_ ?_ ?_ ?_<;>simp[vec,va,vb,vc,vd]
structure Bh (s:Int) (x y z:A5):Prop where
 amt:Fv z
 eq:∀M,x.2<=M->y.2<=M->z.2<=M->sm 2 (vec z M)=add (vec x M) (sm s (vec y M))
theorem pZ{k:Int}(h:k≠0){u v:V4}(e:sm k u=sm k v):u=v:=by
 have d:k*u.1=k*v.1:=congrArg (λt:V4=>t.1) e;have a:k*u.2.1=k*v.2.1:=congrArg (λt:V4=>t.2.1) e;have b:k*u.2.2.1=k*v.2.2.1:=congrArg (λt:V4=>t.2.2.1) e;have c:k*u.2.2.2=k*v.2.2.2:=congrArg (λt:V4=>t.2.2.2) e;exact Jd (RG h d) (RG h a) (RG h b) (RG h c)
theorem Bh.unique{s:Int}{z z':A5}(a:Bh s x y z)(b:Bh s x y z'):z=z':=by
 have k1:x.2<=max (max x.2 y.2) (max z.2 z'.2):=by lia
 have k2:y.2<=max (max x.2 y.2) (max z.2 z'.2):=by lia
 have k3:z.2<=max (max x.2 y.2) (max z.2 z'.2):=by lia
 have c:z'.2<=max (max x.2 y.2) (max z.2 z'.2):=by lia
 exact X0t a.amt b.amt k3 c (pZ (by decide) ((a.eq _ k1 k2 k3).trans (b.eq _ k1 k2 c).symm))
theorem Bh.of{s:Int}{z:A5}(am:Fv z)(x0:0<=x.2)(y0:0<=y.2)(hx:x.2<=M)(hy:y.2<=M)(hz:z.2<=M)(e:sm 2 (vec z M)=add (vec x M) (sm s (vec y M))):Bh s x y z:=by
 refine⟨am,λN nx o m=>?_⟩;have d:∀{t:A5}{A B:Int},t.2<=A->A<=B->vec t B=sm (p2 (B-A)) (vec t A):=λ{t A B} h h'=>by
  have q:p2 (B-t.2)=p2 (B-A)*p2 (A-t.2):=by rw[<-Ih (by lia) (by lia)];congr 1;lia
  refine Jd ?_ ?_ ?_ ?_<;>simp only[vec,va,vb,vc,vd,sm,q]<;>grind
 have f:∀(k:Int) {a b c:V4},sm 2 a=add b (sm s c)->sm 2 (sm k a)=add (sm k b) (sm s (sm k c)):=λk {a b c} q=>by
  have g:2*a.1=b.1+s*c.1:=congrArg (λt:V4=>t.1) q;have i:2*a.2.1=b.2.1+s*c.2.1:=congrArg (λt:V4=>t.2.1) q;have j:2*a.2.2.1=b.2.2.1+s*c.2.2.1:=congrArg (λt:V4=>t.2.2.1) q;have p:2*a.2.2.2=b.2.2.2+s*c.2.2.2:=congrArg (λt:V4=>t.2.2.2) q;refine Jd ?_ ?_ ?_ ?_<;>simp only[add,sm]<;>grind
 rcases Qs M N with l | l
 ·rw[d hz l,d hx l,d hy l];exact f _ e
 ·rw[d m l,d nx l,d o l]at e;have n:=Ed (M-N);apply pZ n;have g:2*(p2 (M-N)*(vec z N).1)=p2 (M-N)*(vec x N).1+s*(p2 (M-N)*(vec y N).1):=congrArg (λt:V4=>t.1) e;have i:2*(p2 (M-N)*(vec z N).2.1)=p2 (M-N)*(vec x N).2.1+s*(p2 (M-N)*(vec y N).2.1):=congrArg (λt:V4=>t.2.1) e;have j:2*(p2 (M-N)*(vec z N).2.2.1)=p2 (M-N)*(vec x N).2.2.1+s*(p2 (M-N)*(vec y N).2.2.1):=congrArg (λt:V4=>t.2.2.1) e;have p:2*(p2 (M-N)*(vec z N).2.2.2)=p2 (M-N)*(vec x N).2.2.2+s*(p2 (M-N)*(vec y N).2.2.2):=congrArg (λt:V4=>t.2.2.2) e;refine Jd ?_ ?_ ?_ ?_<;>simp only[add,sm]<;>grind
theorem uV(a b:Int)(v:V4):sm a (sm b v)=sm (a*b) v:=by
 refine Jd ?_ ?_ ?_ ?_<;>simp only[sm,Pa]
theorem pq(v:V4):sm 1 v=v:=by refine Jd ?_ ?_ ?_ ?_<;>simp only[sm,PX]
noncomputable def BP (q fl s:Nat)(f:Nat->A5):Nat->A5:=λv=>E_ (f (v^^^fl)) (2*q+4*pc ((v^^^fl)&&&s))
theorem X6d{q fl s:Nat}{f:Nat->A5}{v:Nat}:(BP q fl s f v).2=(f (v^^^fl)).2:=rfl
theorem Hy(x y:Nat):(x^^^y)^^^y=x:=by rw[Nat.xor_assoc,Nat.xor_self,Nat.xor_zero]
def Jf (q fl s:Nat)(o:Int)(n:Nat)(f g:Nat->A5):Prop:=∀v,v<n->Bh o (f v) (BP q fl s f v) (g v)
noncomputable def sg (o:Nat):Int:=1-2*o
theorem X7u{o:Nat}(h:o<2):sg o*sg o=1:=by
 rcases (show o=0\/o=1 by lia) with rfl | rfl<;>decide
theorem pU{o:Nat}(h:o<2)(v:V4):Bx (4*o) v=sm (sg o) v:=by
 rcases (show o=0\/o=1 by lia) with rfl | rfl
 ·exact(pq v).symm
 ·exact kO v
end Lk
namespace Av
open L2 Am Pc Ba
structure Bd (H:Hp) (l:Y9) (ps:U3) (f:Nat->A5) (c n m:Nat):Prop where
 lst:H l=some (.lst (ps.map V.ref))
 len:ps.length=2^c
 vals:Bj H ps f
 ok:∀i,i<2^c->Gh n m (f i)
variable{f:Nat->A5}{c n m:Nat}
theorem Bd.same{H H':Hp}{l:Y9}{ps:U3}(b:Bd H l ps f c n m)(s:Same H H'):Bd H' l ps f c n m:=⟨s _ _ b.lst,b.len,b.vals.same s,b.ok⟩
theorem Bd.at{H:Hp}{l:Y9}{ps:U3}{i:Nat}(b:Bd H l ps f c n m)(hi:i<2^c):∃p,ps[i]?=some p/\H p=some (tA (f i))/\Le (ps.map V.ref) (i:Int)=some (.ref p):=by
 have a:i<ps.length:=by rw[b.len];exact hi
 refine⟨ps[i],Cv a,b.vals i _ (Cv a),L2.Ju (by rw[Cp,Cv a];rfl)⟩
theorem pH{x y:A5}:l5 x=l5 y↔x=y:=by
 constructor
 ·intro h;unfold l5 at h;simp only[List.cons.injEq,and_true]at h;exact Lk.YF h
 ·rintro rfl;rfl
theorem M5{x:A5}:l5 x=[0,0,0,0,0]↔x=((0,0,0,0),0):=pH (y:=((0,0,0,0),0))
end Av
namespace Dk
open PySem.Sem (wp)
section
variable {prog:U8}{w:W5}{A:Y6}{E:U2}{s:U7}{d it:Y9}{es:Array DictEntry}{i ep:Nat}
end
end Dk
namespace L2
def Ite (K:U0)(l:Y9):It :=
 ⟨λi H=>∃xs x,Ai K H l xs/\xs[i]?=some x,
 λi H v H'=>∃T x,v=.ref T/\H T=none/\H'=upd H T (.tup [.int i,x])/\∀xs,Ai K H l xs->xs[i]?=some x,
 λi H=>∃xs,Ai K H l xs/\xs.length<=i⟩
theorem Y2y{P:U8}{w:W5}{K:U0}{es:List Expr}{kk:Nat}{tp:Pos}{e it l:Y9}(ne:e≠it)(nl:l≠e):
  Turn P w K (.Tuple es kk tp) (Ite K l) [e,it] e (λi h=>(∃a,IsEnum h e it i a)/\h.IsListIter it l i) where
 mem:=by simp
 obj:=λi h st b c=>by
  obtain⟨⟨a,d⟩,o,f,_,O⟩:=st;simp only[Cw,Gm,Gk]at c;rcases c with rfl | rfl
  ·exact⟨_,d,λv q=>by have q':Data.fields _=Data.cell v:=q;cases q'⟩
  ·exact⟨o,f,λv z=>by rw[O]at z;cases z⟩
 keep:=λi h h' st k=>by
  obtain⟨⟨a,d⟩,f⟩:=st;exact⟨⟨a,k e (by simp) _ d⟩,f.at λo q=>k it (by simp) o q⟩
 item:=by
  intro X t u n D i pins s σ H E I hf st A;subst t u n;obtain⟨xs,x,g,F⟩:=A;obtain⟨⟨a,d⟩,f⟩:=st;obtain⟨its,y,p,S⟩:=I.list g;obtain⟨m,r,T⟩:=y.get F;refine wpAny_pyNext_enum_item d f p.isList (x:=m) (by simpa using r) ne λh' M Q L Y W=>?_;refine⟨_,U,wpAny_letOwnedTupleGo_enum M λh2 N j=>?_⟩;have G:s.heap.objs.size≠e:=N6 (Bp d);have k2:∀b o,b∉[e,it]->s.heap.get? b=some o->h2.get? b=some o:=λb o c q=>by
   simp only[Cw,Gm,Gk,not_or]at c;exact j.extBut b o c.1 (W b o c.1 c.2 q)
  have V:IsTup h2 s.heap.objs.size ([.int i s.toks,m]:U5).toArray:=⟨_,j.extBut _ _ G L,U,_,U⟩;refine⟨.ref s.heap.objs.size,upd H s.heap.objs.size (.tup [.int i,x]),I.turnedT (t':=s.toks+1) k2 hf (BX _) (.cons ⟨_,U⟩ (.cons T .nil)) (by show 2<=sizeLine;decide) V,U,⟨_,x,U,I.hok.fresh (BX _),U,λJ h1=>?_⟩,⟨⟨m,?_⟩,?_⟩,λb c=>?_⟩
  ·rw[I.list_inj h1 g];exact F
  ·exact_mod_cast N
  ·exact Q.at λo q=>j.extBut _ _ ne.symm q
  ·have B:b<s.heap.objs.size:=by
    simp only[Cw,Gm,Gk]at c;rcases c with rfl | rfl
    ·exact Bp d
    ·obtain⟨o,q,_⟩:=f;exact Bp q
   rw[Bw (Dc B)];exact(hf b c).1
 done:=by
  intro X t u n D i pins s σ H E I hf st A;subst t u n;obtain⟨xs,g,C⟩:=A;obtain⟨⟨a,d⟩,f⟩:=st;obtain⟨its,y,p,S⟩:=I.list g;have Z:=y.length;refine wpAny_pyNext_enum_end (I.ok.hd D) d f p.isList (by simp;lia) λh' R=>⟨U,I.turnedL (t':=s.toks) (ch:=[e,it]) (λb o c q=>?_) hf⟩;simp only[Cw,Gm,Gk,not_or]at c;exact R b o c.2 q
 self:=λ_ _ _ _ _ st h=>by
  obtain⟨⟨a,d⟩,_⟩:=st;exact wpAny_pyIter_enum d h
section
variable {X:Cx}{es:List Expr}{kk:Nat}{tp:Pos}
def VL (K:U0)(ta:TA):TI:=λσ H R=>ta σ H λvs H1=>∃l xs,vs=[.ref l]/\Ai K H1 l xs/\R (Ite K l) H1
theorem X1q{a:Expr}{ta:TA}{p pos:Pos}(hg:Gl X "enumerate")(hm:X.mg "enumerate"=none)(ha:PA X [a] ta)(hs:starEach [a] X.env=[(false,eval a X.env)]:=by rfl):
  PI X (.Tuple es kk tp) (.Call (.Name "enumerate" p) [a] [] pos) (VL X.K ta):=by
 intro pins s σ H R I h;refine Call_ (Oz I hg hm boot_enumerate (PyProof.Rows.callWith_type1 (Bl (ha pos pins s σ H _ I h) λus c ⟨vs,H1,f,t,m⟩=>?_) (by rw[hs];rfl) (by rfl)));obtain⟨l,xs,e,h1,q⟩:=m;subst e;cases t with
 | cons r rr =>
  cases rr;cases r;obtain⟨its,w,i,x⟩:=f.list h1;refine call_enumerate_list i.isList λh' j n y v=>?_;have u:Inv X pins σ H1 {c with heap:=h'}:=f.kept (t':=c.toks) v;have g:l<c.heap.objs.size:=by obtain⟨o,q,_⟩:=i.isList;exact Bp q
  refine wpAny_pyIter_enum j ⟨_,[c.heap.objs.size+1,c.heap.objs.size],_,_,H1,U,u,Y2y (Nat.succ_ne_self _) (Dc (Wi g)),⟨⟨_,j⟩,n⟩,λb k=>?_,q⟩;have d:c.heap.objs.size<=b:=by
   simp only[Cw,Gm,Gk]at k;rcases k with rfl | rfl
   ·exact Nat.le_succ _
   ·exact BX _
  exact f.fpOk d (f.hok.fresh d)
end
end L2
namespace L2
theorem Y2z{prog:U8}{w:W5}{A:Y6}{env:Env}{c:Expr}{s:U7}{Q:Bool->Shared->Prop}(h:wpAny (model prog w) A (isTrue c env (eval c env)) Q Calm s):
  wpAny (model prog w) A (forIn [c] true λc r=>if r=true then do let ok ← isTrue c env (eval c env);pure (ForInStep.yield ok) else pure (ForInStep.yield r)) Q Calm s:=wpAny_tests_one h
theorem yF{prog:U8}{w:W5}{A:Y6}{R:Result->Shared->Prop}{s:U7}{e t i c:Expr}{sc:Scope}{pos:Pos}{it acc:W8}{env:Env}(J:Nat->Shared->Prop)
  (turn:∀n s,J n s->wpAny (model prog w) A (pyNext it) (λr b=>(r=none->R (.ok .next) b)/\∀v,r=some v ->
   wpAny (model prog w) A (letOwnedTupleGo t it v) (λ_ d=>wpAny (model prog w) A (assign t env v) (λ_ k=>wpAny (model prog w) A (isTrue c env (eval c env)) (λok a=>if ok=true then wpAny (model prog w) A (eval e env) (λx f =>
    wpAny (model prog w) A (call (.builtin "list.append") [acc,x]) (λ_ g=>∃m,m<n/\J m g) Calm f) Calm a else ∃m,m<n/\J m a) Calm k) Calm d) Calm b) Calm s)
  (n:Nat) (h:J n s):codeAny (model prog w) A (.compLoop (.ListComp e [⟨t,i,[c],0⟩] sc pos) 0 it acc env) R s:=by
 have u:=compTurn_list e t i [c] sc pos it acc env;refine codeAny_loop rfl J (λn s j=>wpAny_noted (m:=compTurn (.ListComp e [⟨t,i,[c],0⟩] sc pos) 0 it acc env) ?_) n h;rw[u];refine Az (Qv (Dp (turn n s j) λr b q=>?_));match r,q with
 | none,q=>exact CP (q.1 rfl)
 | some v,q =>
  refine Dp (q.2 v rfl) λ_ d o=>Dp o λ_ k y=>Dp (Y2z y) λok f l=>?_;cases ok with
  | false=>exact CP ⟨rfl,l⟩
  | true=>exact Az (Dp l λx g p=>Dp p λ_ B z=>CP (CP ⟨rfl,z⟩))
def Nk (J:It)(g:TG)(tc:TT)(te:TE)(σ:St)(H:Hp)(acc:Y9)(Q:VK):Prop:=∃W:Nat->Nat->List V->St->Hp->Prop,(∃m,W 0 m [] σ (upd H acc (.lst []))) /\
 ∀i m ys σ2 H2,W i m ys σ2 H2->(J.stop i H2/\Q (.ref acc) H2)\/(J.go i H2/\∀x H3,J.yld i H2 x H3->g x σ2 H3 λσ4 H4=>tc σ4 H4 λb H5 =>
  (b=true->te σ4 H5 λy H6=>H6 acc=some (.lst ys)/\ys.length<sizeLine/\∃m',m'<m/\W (i+1) m' (ys++[y]) σ4 (upd H6 acc (.lst (ys++[y]))))/\(b=false->∃m',m'<m/\W (i+1) m' ys σ4 H5))
def Yt (mp:Y7)(wi:TI)(g:TG)(tc:TT)(te:TE):TE:=λσ H Q=>wi σ H λJ H1=>∀acc,H1 acc=none->Nk J g tc te (sub mp σ) H1 acc Q
section
variable {X:Cx}{elt tg iter cond:Expr}{scope:Scope}{pos:Pos}{wi:TI}{g:TG}{tc:TT}{te:TE}{Nc:W4}{mp:Y7}
theorem X3e(hc:X.calm=true)(S:BZ X.N X.env.scope scope Nc mp)(hg:∀ex pins s H,PG (Bg X scope Nc ex pins s H) tg g)(ht:∀ex pins s H,PT (Bg X scope Nc ex pins s H) cond tc)(he:∀ex pins s H,PE (Bg X scope Nc ex pins s H) elt te)
  {pins:U1}{σ:St}{H2:Hp}{s2:U7}{E:U2}{it:Y9}{fp:U3}{tn:Nat->Heap->Prop}{J:It}{Q:VK}{RR:Value->Addr->Result->Shared->Prop}
  (I2:Inv X pins σ H2 s2) (T:Turn X.prog X.w X.K tg J fp it tn) (st2:tn 0 s2.heap) (f2:∀b∈fp,DG X pins H2 b)
  (q:∀acc,H2 acc=none->Nk J g tc te (sub mp σ) H2 acc Q)
  (fin:∀acc C H' s' m',Q (.ref acc) H'->Inv X pins σ H' s'->s'.heap.Ns C m'->H' C=none->X.s₀.heap.objs.size<=C->C≠X.env.locals->(∀x c,X.env.cells.lookup x=some c->c≠C)->(∀p∈X.pn++pins,p.1≠C)->RR (.ref acc) C (.ok .next) s'):
  wpAny (model X.prog X.w) X.A (newList []) (λacc s₃=>wpAny (model X.prog X.w) X.A (newFunctionEnv scope X.env.globals (clo scope.names X.env.cells) [] X.env.qual none .none (some X.env)) (λt s₄ =>
   codeAny (model X.prog X.w) X.A (.compStart (.ListComp elt [⟨tg,iter,[cond],0⟩] scope pos) 0 (.ref it) acc {t with scope:=relabel scope X.env}) (RR acc t.locals) s₄) E s₃) E s2:=by
 refine Ob (wpAny_newFunctionEnv S.nocell (by intro y hy;simp at hy) (λh₁ l D=>?_) S.kind);dsimp only at l D ⊢;have I3:=I2.lnew (its:=[]) (ys:=[]) (t':=s2.toks) .nil (Fg _);have Y:H2 s2.heap.objs.size=none:=I2.fresh;obtain⟨W,⟨m0,w0⟩,R⟩:=q s2.heap.objs.size Y;have F:(s2.heap.push { cls:=.type "list",dict:=none,data:=.seq ([]:U5).toArray}).objs.size=s2.heap.objs.size+1:=K6 ..;have P:∀b∈fp,b<s2.heap.objs.size:=λb a=>by
  obtain⟨o,e,_⟩:=T.obj _ _ st2 b a;exact Bp e
 have L:∀b∈fp,DG X pins (upd H2 s2.heap.objs.size (.lst [])) b:=λb a=>⟨by rw[Bw (Dc (P b a))];exact(f2 b a).1,(f2 b a).2⟩;have j:Inv X pins σ (upd H2 s2.heap.objs.size (.lst [])) (Dg s2):=I3;have a5:(Dg s2).heap.objs.size=s2.heap.objs.size+1:=F;have m:∀b∈fp,b<(Dg s2).heap.objs.size:=λb a=>by rw[a5];exact Wi (P b a)
 have k3:∀b o,(Dg s2).heap.get? b=some o->h₁.get? b=some o:=λb o e=>D.extBut b o (Dc (Bp e)) (DR _ e);have Ic:=sY (tk:=(Dg s2).toks) j S L m l k3;have a0:tn 0 h₁:=T.keep _ _ _ st2 λb a o e=>k3 b o (DR _ e);have cC:X.s₀.heap.objs.size<=(Dg s2).heap.objs.size:=j.sz;have cL:(Dg s2).heap.objs.size≠X.env.locals:=N6 j.lt;have cc:∀x c,X.env.cells.lookup x=some c->c≠(Dg s2).heap.objs.size:=λx c e=>by
  obtain⟨v,o,ho,_⟩:=j.cell x c e;exact Dc (Bp ho)
 have cp:∀p∈X.pn++pins,p.1≠(Dg s2).heap.objs.size:=λp hp=>Dc (Bp (j.pin p hp).1);have k:∀{H':Hp},(∀b∈fp,H' b=none)->∀b∈fp,DG (Bg X scope Nc fp pins (Dg s2) (upd H2 s2.heap.objs.size (.lst []))) [] H' b:=λhn b a =>
  ⟨hn b a,Dc (m b a),λz=>by
   rcases Cw.mp (j.stkSub b z) with e | e
   ·exact(L b a).2.1 e
   ·exact(L b a).2.2.1 e,.inl a,λx c e=>(L b a).2.2.2.2.1 x c (Ox j S e),λp hp=>(L b a).2.2.2.2.2 p (by
    have:p∈(X.pn++pins)++[]:=hp
    simpa using this)⟩
 have B:∀s4:Shared,s4={ (Dg s2) with heap:=h₁,toks:=(Dg s2).toks} ->
   codeAny (model X.prog X.w) X.A (.compLoop (.ListComp elt [⟨tg,iter,[cond],0⟩] scope pos) 0 (.ref it) (.ref s2.heap.objs.size) (Bg X scope Nc fp pins (Dg s2) (upd H2 s2.heap.objs.size (.lst []))).env)
    (RR (.ref s2.heap.objs.size) (Dg s2).heap.objs.size) s4:=by
  rintro s4 rfl;refine yF (λn s'=>∃i ys σ' H',Inv (Bg X scope Nc fp pins (Dg s2) (upd H2 s2.heap.objs.size (.lst []))) [] σ' H' s'/\tn i s'.heap/\(∀b∈fp,H' b=none)/\W i n ys σ' H') ?_ m0
   ⟨0,[],sub mp σ,_,Ic,a0,λb a=>(L b a).1,w0⟩
  rintro n s5 ⟨i,ys,σ5,H5,I5,a1,Z,w5⟩;rcases R i n ys σ5 H5 w5 with ⟨stop,qn⟩ | ⟨go,step⟩
  ·refine Ek (T.done (Bg X scope Nc fp pins (Dg s2) (upd H2 s2.heap.objs.size (.lst []))) rfl rfl rfl hc i [] s5 σ5 H5 (λ_ _=>False) I5 (k Z) a1 stop) (λr s6 ⟨hr,I6⟩=>?_) λ_ _ f=>f.elim;subst hr;obtain⟨m6,b1,_⟩:=I6.loc;refine⟨λ_=>?_,λ_ z=>nomatch z⟩;exact fin _ _ H5 s6 m6 qn (pI j L I6) b1 I6.free cC cL cc cp
  ·refine Ek (T.item (Bg X scope Nc fp pins (Dg s2) (upd H2 s2.heap.objs.size (.lst []))) rfl rfl rfl hc i [] s5 σ5 H5 (λ_ _=>False) I5 (k Z) a1 go) (λr s6 ⟨u,hr,h6⟩=>?_) λ_ _ f=>f.elim;subst hr;refine⟨(λz=>by cases z),?_⟩;rintro _ ⟨⟩;refine Ek h6 (λ_ s7 ⟨x,H7,I7,r7,y7,G,a4⟩=>?_) λ_ _ f=>f.elim;have b0:=I7.pinned (k a4) (T.obj _ _ G);refine Ek (hg _ _ _ _ _ s7 σ5 H7 x u _ b0 r7 (step x H7 y7)) (λ_ s8 ⟨O,H8,I8,q8⟩=>?_) λ_ _ f=>f.elim;refine Ek (ht _ _ _ _ _ s8 O H8 _ I8 q8) (λbb s9 ⟨H9,I9,p9,n9⟩=>?_) λ_ _ f=>f.elim;have h:∀{H':Hp}{s':U7},Inv (Bg X scope Nc fp pins (Dg s2) (upd H2 s2.heap.objs.size (.lst []))) ([]++Fi fp s7.heap) O H' s'->tn (i+1) s'.heap/\∀b∈fp,H' b=none:=λ{H' s'} J' =>
    ⟨T.keep _ _ _ G λb a o e=>(J'.pin (b,o) (GR _ (GR _ (Rn a e)))).1,λb a=>by
     obtain⟨o,e,d⟩:=T.obj _ _ G b a
     exact(J'.pin (b,o) (GR _ (GR _ (Rn a e)))).2.1⟩
   cases bb with
   | false =>
    obtain⟨m',M,w9⟩:=n9 rfl;rw[if_neg Dw];exact⟨m',M,i+1,ys,O,H9,I9.unpinned,(h I9).1,(h I9).2,w9⟩
   | true =>
    rw[if_pos rfl];refine Ek (he _ _ _ _ _ s9 O H9 _ I9 (p9 rfl)) (λv a7 ⟨y,V,a6,a2,a3,l10,m',M,a9⟩=>?_) λ_ _ f=>f.elim;refine Ek (Qd (X:=Bg X scope Nc fp pins (Dg s2) (upd H2 s2.heap.objs.size (.lst []))) _ a7 O V (.ref s2.heap.objs.size) [y] (.ref s2.heap.objs.size) [v] (λz Hz=>z=.non/\Hz=upd V s2.heap.objs.size (.lst (ys++[y]))) a6 rfl (.cons a2 .nil) ⟨_,ys,y,U,U,a3,l10,U,U⟩) (λb4 b2 ⟨z,b3,I,_,_,a8⟩=>?_) λ_ _ f=>f.elim;subst a8;exact⟨m',M,i+1,ys++[y],O,_,I.unpinned,(h I).1,(h I).2,a9⟩
 exact mJ (B _ rfl) (T.self _ 0 _ _ _ a0 (B _ rfl))
theorem pO(hc:X.calm=true)(S:BZ X.N X.env.scope scope Nc mp)(hi:PI X tg iter wi)(hg:∀ex pins s H,PG (Bg X scope Nc ex pins s H) tg g)(ht:∀ex pins s H,PT (Bg X scope Nc ex pins s H) cond tc)(he:∀ex pins s H,PE (Bg X scope Nc ex pins s H) elt te)
  (hf:∀x,foldedSetIterable iter X.env x=pure x:=by intro _;rfl):PE X (.ListComp elt [⟨tg,iter,[cond],0⟩] scope pos) (Yt mp wi g tc te):=by
 intro pins s σ H Q I h;rw[eval_ListComp];refine aJ (use:=none) rfl hf (jX (Xl I S)) S.kind S.names (Bl (hi pins s σ H _ I h) λv z h1=>Bl h1 λn y h2=>?_);obtain⟨it,fp,B,J,H2,e,p,T,a,i,q⟩:=h2;subst e;refine X3e (RR:=λacc C=>compPost (model X.prog X.w) X.A X.xe none (EP X pins σ Q) acc C) hc S hg ht he p T a i q ?_;intro acc C H' s' r qq m j d c l k f;refine⟨r,j,λh' t=>⟨.ref acc,H',?_,U,qq⟩⟩;exact m.turnedNew (t':=s'.toks) (λb o u e=>t.extBut b o u e) d c l k f
end
theorem _j{lo:Int}{n:Nat}{tc:TT}{te:TE}{fr:St}{H1:Hp}{acc:Y9}{Q:VK}(Pv:Nat->List V->Hp->Prop)(hn:n<=sizeLine)(h0:Pv 0 [] (upd H1 acc (.lst [])))
  (hs:∀i ys H (N:Bool->Hp->Prop),i<n->ys.length<=i->Pv i ys H->(∀b a,(b=true->te (some (.int (lo+i))::fr) a λy c=>c acc=some (.lst ys)/\Pv (i+1) (ys++[y]) (upd c acc (.lst (ys++[y]))))->(b=false->Pv (i+1) ys a)->N b a)->tc (some (.int (lo+i))::fr) H N)
  (mono:∀{σ H}{R R':VK},(∀v H,R v H->R' v H)->te σ H R->te σ H R')
  (hd:∀ys H,Pv n ys H->Q (.ref acc) H):Nk (Fz lo n) (CQ 0) tc te (none::fr) H1 acc Q:=by
 refine⟨λi m ys d H2=>m=n-i/\i<=n/\ys.length<=i/\(∃v,d=v::fr)/\Pv i ys H2,⟨n,by simp,Fg _,BX _,⟨_,U⟩,h0⟩,?_⟩;rintro i m ys d H2 ⟨rfl,hi,f,⟨v,rfl⟩,p⟩;by_cases hlt:i<n
 ·refine .inr ⟨hlt,λx j g=>?_⟩;obtain⟨rfl,rfl⟩:=g;show tc ((v::fr).set 0 (some (.int (lo+i)))) _ _;rw[List.set_cons_zero];refine hs i ys _ _ hlt f p λb a h hf=>⟨λe=>mono (λy c q=>?_) (h e),λe=>⟨n-(i+1),by lia,U,hlt,by lia,⟨_,U⟩,hf e⟩⟩;exact⟨q.1,by lia,n-(i+1),by lia,U,hlt,by rw[DN];simp;lia,⟨_,U⟩,q.2⟩
 ·have e:i=n:=by lia
  subst e;exact .inl ⟨BX _,hd ys H2 p⟩
end L2
namespace L2
theorem _L{X:Cx}(hc:X.calm=true):CW X (.builtin "sum") (λxs H Q=>∃(p:Y9) (ns:U6),xs=[.ref p]/\Ai X.K H p (ns.map V.int)/\Q (.int ns.sum) H):=by
 intro pins s σ H xs us Q I r h;obtain⟨p,ns,rfl,i,q⟩:=h;obtain⟨u,rfl,d⟩:=r.one;cases d;obtain⟨its,g,c,k⟩:=I.list i;have hi:=Ma g;have a:=c.isList;have b:=hi.numsOf;obtain⟨xs,e⟩:=hi.allInts.items;have j:its=(intItems xs).toList:=by rw[<-e]
 rw[e]at a;rw[j,nums_intItems]at b;refine sum_intListG (show X.A.handled=none from I.ok.hd hc) a λh' tk t' f=>?_;rw[preSum_eq,MF (by simp),b];exact⟨.int ns.sum,H,I.kept (t':=tk) f,⟨_,U⟩,q⟩
end L2
namespace L2
theorem _J{X:Cx}(hc:X.calm=true):CW X (.builtin "max") (λxs H Q=>∃(p:Y9) (ns:U6),xs=[.ref p]/\Ai X.K H p (ns.map V.int)/\0<ns.length/\∀M,M∈ns->(∀a,a∈ns->a<=M)->Q (.int M) H):=by
 intro pins s σ H xs us Q I r h;obtain⟨p,ns,rfl,y,o,q⟩:=h;obtain⟨u,rfl,l⟩:=r.one;cases l;obtain⟨its,w,k,z⟩:=I.list y;have hi:=Ma w;have d:=k.isList;obtain⟨xs,e⟩:=hi.allInts.items;have b:ns=xs.toList.map (·.1):=by
  rw[<-hi.numsOf,<-nums_intItems,<-e]
 have c:0<xs.size:=by
  have g:=o;rw[b,BL,Dz]at g;exact g
 rw[e]at d;refine max_intList (show X.A.handled=none from I.ok.hd hc) d c λv h' tk x n=>?_;obtain⟨t,rfl⟩:=intItems_at x;obtain⟨h1,h2⟩:=argBest_gt (PySem.numAt xs) (xs.size-1);refine⟨.int (PySem.numAt xs (argBest (λi j=>decide (PySem.numAt xs i>PySem.numAt xs j)) (xs.size-1))),H,I.kept (t':=tk) n,⟨_,U⟩,q _ ?_ λa f=>?_⟩
 ·rw[b,numAt_eq];exact getD_mem (by rw[BL,Dz];lia)
 ·rw[b]at f;obtain⟨j,m,rfl⟩:=mem_getD f;rw[BL,Dz]at m;rw[<-numAt_eq];exact h2 j (by lia)
end L2
namespace Av
open L2 Am Pc Ba
variable{H:Hp}
theorem sU{H':Hp}{a:Y9}(s:Same H H')(h:H' a=none):H a=none:=by
 cases e:H a with
 | none=>rfl
 | some o=>rw[s _ _ e]at h;cases h
def Ij (f:Nat->A5)(c:Nat):Prop:=∃j,j<2^c/\f j≠((0,0,0,0),0)
theorem Xa{N i:Nat}(h:i<N):M6 N (i:Int)=some i:=by
 unfold M6;rw[if_pos (Wm i),if_pos (by lia),GJ]
theorem Rb(z:Int){N:Nat}(h:0<N):∃i:Nat,i<N/\z%(N:Int)=(i:Int):=by
 have a:=JC z (show (N:Int)≠0 by lia);have h1:=Jl z (show (0:Int)<N by lia);exact⟨(z%(N:Int)).toNat,by lia,by lia⟩
variable{f:Nat->A5}{c n m:Nat}
theorem Bd.mod{l:Y9}{ps:U3}(b:Bd H l ps f c n m)(z:Int):∃i:Nat,i<2^c/\z%((ps.map V.ref).length:Nat)=(i:Int):=by
 rw[BL,b.len];exact Rb z (Ji c)
theorem Bd.put{l p:Y9}{ps:U3}{j:Nat}{x:A5}(b:Bd H l ps f c n m)(hp:H p=some (tA x))(ox:Gh n m x):Bd (upd H l (.lst ((ps.map V.ref).set j (.ref p)))) l (ps.set j p) (λi=>if i=j then x else f i) c n m:=by
 refine⟨by rw[Al,List.map_set],by rw[List.length_set,b.len],V2 (zm b.vals hp) b.lst,λi hi=>?_⟩;show Gh n m (if i=j then x else f i);split
 ·exact ox
 ·exact b.ok i hi
theorem P_:Gh 100 (m:Int) ((0,0,0,0),0):=⟨⟨s_0,s_0,s_0,s_0⟩,⟨GC 0,.inl rfl⟩,Wm m⟩
theorem QB:Gh 100 (m:Int) ((1,0,0,0),0):=⟨⟨s_1,s_0,s_0,s_0⟩,⟨GC 0,.inl rfl⟩,Wm m⟩
theorem qZ{j:Nat}{x:A5}(hj:j<2^c)(nx:x≠((0,0,0,0),0)):Ij (λi=>if i=j then x else f i) c:=⟨j,hj,by show (if j=j then x else f j)≠_;rw[if_pos rfl];exact nx⟩
theorem X1j(t:Y9)(n:Nat):(List.replicate n [V.ref t]).flatten=(List.replicate n t).map V.ref:=by
 induction n with
 | zero=>rfl
 | succ n ih=>rw[Pr,UW,ih,Pr,Jh];rfl
end Av
namespace Av
open L2 Am Pc Ba FN Ci Hw
def Kr:Sp:=λvs H Q _=>∃(l:Y9) (ps:U3) (f:Nat->A5) (wd:Nat) (m:Y9) (q fl s:Nat),vs=[.ref l,.int wd,.ref m]/\H l=some (.lst (ps.map V.ref))/\Bj H ps f/\wd<ps.length/\H m=some (M3 q fl s) /\
 ∀(r:Y9) (H':Hp),Same H H'->H' r=some (tA (E_ (f wd) (2*q+4*pc (wd&&&s))))->Q (.ref r) H'
def Ks:Sp:=λvs H Q _=>∃(l:Y9) (ps:U3) (f:Nat->A5) (c:Nat) (m:Y9) (q fl s:Nat),vs=[.ref l,.ref m]/\H l=some (.lst (ps.map V.ref))/\Bj H ps f/\ps.length=2^c/\c<=6/\H m=some (M3 q fl s)/\fl<2^c /\
 ∀(r:Y9) (H':Hp) (qs:U3),H r=none->Same H H'->H' r=some (.lst (qs.map V.ref))->qs.length=2^c->Bj H' qs (λv=>E_ (f (v^^^fl)) (2*q+4*pc ((v^^^fl)&&&s)))->Q (.ref r) H'
section
variable {P:U8}{w:W5}{K:U0}{mg:U4}{base:Heap}{k:Nat}{h:Heap}
theorem Y2u{H H':Hp}{ps:U3}{f:Nat->A5}{p:Y9}(v:Bj H ps f)(s:Same H H')(e:H' p=some (tA (f ps.length))):Bj H' (ps++[p]) f:=by
 intro i q a;by_cases hi:i<ps.length
 ·rw[J8 hi]at a;exact s _ _ (v i q a)
 ·rw[Uo (by lia)]at a;have b:i=ps.length:=by
   have:=(DW.mp a).1;simp at this;lia
  subst b;simp at a;subst a;exact e
theorem X2m(F:Ab K "ones" (top 34) .none)(X:K.In h)(G:Ng h mg)(B:Bs mg):Aj P w K mg base (k+1) "ones" ["number"] Fe:=by
 refine F.cal X G ["number","many","rest"] λa H vs Q E i h=>?_;obtain⟨n,rfl,q⟩:=h
 refine⟨_,(@Ao _ _ _ _ _ (@BR _ _ 1 _ _ _ _ a rfl (Or.inl rfl) Ac rfl (.inl rfl))
  (@Ao _ _ _ _ _ (@BR _ _ 2 _ _ _ _ a rfl (Or.inl rfl) (pv 0) rfl (.inl rfl))
  (@Ao _ _ _ _ _ (Vz PassesOwn.never (Cg Lg (pv 2) Ac (Ad _))
   (@Ao _ _ _ _ _ (@BR _ _ 2 _ _ _ _ a rfl (Or.inl rfl) (Af RP (pv 2) (Af Fy (pv 2) Ac)) rfl (.inl rfl))
   (@Aq _ _ _ (@BR _ _ 1 _ _ _ _ a rfl (Or.inl rfl) (Af C_ (pv 1) Ac) rfl (.inl rfl)))))
  (@Aq _ _ _ (BW (pv 1)))))),?_⟩
 try dsimp only[Bv]
 refine⟨_,U,λm σ H'=>H'=H/\∃j r:Nat,m=pc r/\j+pc r=pc n/\σ=[some (.int n),some (.int j),some (.int r)],⟨_,U,0,n,U,Hj _,U⟩,?_⟩;rintro m σ H' ⟨rfl,j,r,rfl,d,rfl⟩;refine⟨_,U,U,_,U,J_ (λc=>?_) (λc=>?_)⟩
 ·have b:r≠0:=by lia
  have e:=q_ (r+1) r (by lia) b;refine⟨_,λg H' x=>x,?_⟩;refine⟨_,U,_,U,_,_,U,U,_,_,U,U,?_⟩;refine⟨_,U,_,_,U,U,⟨pc (r&&&(r-1)),by lia,U,j+1,r&&&(r-1),U,by lia,?_⟩⟩;have f:Builtin.bitAnd (r:Int) ((r:Int)-1)=((r&&&(r-1):Nat):Int):=by rw[show (r:Int)-1=((r-1:Nat):Int) by lia,V7]
  show [some (V.int n),some (V.int ((j:Int)+1)),some (V.int (Builtin.bitAnd (r:Int) ((r:Int)-1)))]=_;rw[f];rfl
 ·have b:r=0:=by lia
  subst b;rw[iY,bV]at d;subst d;exact⟨_,U,q⟩
theorem yw(F:Ab K "spun_by_mark" (top 44) .none)(X:K.In h)(G:Ng h mg)(dS:Aj P w K mg base k "spun" ["one","k"] Im)(dP:Aj P w K mg base k "ones" ["number"] Fe):Aj P w K mg base (k+1) "spun_by_mark" ["board","word","mark"] Kr:=by
 refine F.cal X G ["board","word","mark"] λn H vs Q E c h=>?_;obtain⟨l,ps,f,a,m,q,fl,s,rfl,d,j,b,i,g⟩:=h;have S:Ah K H m [.int q,.int fl,.int s]:=Ah.of i;refine⟨_,(@Aq _ _ _ (BW (A_ dS c rfl (Aa (Ak Dy (pv 0) (pv 1) (λ_ _=>rfl)) (Aa (Af C_ (Af Gs Ac (Ak Ax (pv 2) Ac (λ_ _=>rfl))) (Af Gs Ac (A_ dP c rfl (Aa (Af RP (pv 1) (Ak Ax (pv 2) Ac (λ_ _=>rfl))) Ae)))) Ae))))),?_⟩;try dsimp only[Bv]
 refine⟨_,U,_,U,l,_,_,_,U,U,Ai.of d,X3w b rfl,?_⟩;refine⟨_,U,m,_,_,_,U,U,S,U,_,_,U,U,.inl ⟨by decide,by decide⟩,_,U,_,U,m,_,_,_,U,U,S,U,_,_,U,U,a&&&s,X2d,_,_,U,U,.inl ⟨by decide,by decide⟩,_,_,U,U,?_⟩;exact⟨_,_,_,_,_,_,_,U,j a _ (Cv b),λr H' s' e=>g r H' s' e⟩
theorem X2r(F:Ab K "laid_on" (top 43) .none)(X:K.In h)(G:Ng h mg)(B:Bs mg)(dE:Aj P w K mg base k "spun_by_mark" ["board","word","mark"] Kr):Aj P w K mg base (k+1) "laid_on" ["board","mark"] Ks:=by
 refine F.cal X G ["board","mark"] λO H vs Q E L h=>?_;obtain⟨l,ps,f,c,m,q,fl,s,rfl,t,I,len,A,u,hf,C⟩:=h;refine⟨_,(@Aq _ _ _ (BW (GZ rfl (BZ.of (Nc:=["word","board","mark"]) (mp:=[none,some 0,some 1]) (by kernel_rfl)) (Ln rfl B.range (Aa (Bm Fb rfl B.len FP (Aa (pv 0) Ae)) Ae)) (λ_ _ _ _=>(Bq (i:=0) (show (["word","board","mark"]:W4).Nodup by decide +kernel) rfl (Or.inl rfl))) (λ_ _ _ _=>(A_ dE L rfl (Aa (pv 1) (Aa (Af X5m (pv 0) (Ak iR (pv 2) Ac (λ_ _=>rfl))) (Aa (pv 2) Ae)))))))),?_⟩;try dsimp only[Bv]
 have y:=Hr A;have a:(((ps.map V.ref).length:Nat):Int).toNat=2^c:=by rw[BL,len,GJ]
 refine⟨_,U,l,_,U,.inl (Ai.of t),_,U,by rw[BL];lia,by rw[BL];lia,λacc b=>?_⟩;refine Xm (n:=(((ps.map V.ref).length:Nat):Int).toNat) (fr:=[some (.ref l),some (.ref m)]) (λi ys H'=>∃d:List Addr,Same H H'/\H' acc=some (.lst ys)/\ys=d.map V.ref/\d.length=i/\Bj H' d (λv=>E_ (f (v^^^fl)) (2*q+4*pc ((v^^^fl)&&&s)))) (by rw[a];exact Lx y) ⟨[],Aw b _,Al,U,U,λ_ _ z=>by cases z⟩ ?_ ?_
 ·rintro i ys H2 N hi M ⟨d,e,o,rfl,p,g⟩ J;rw[a]at hi;have S:Ah K H2 m [.int q,.int fl,.int s]:=Ah.of (e _ _ u);refine⟨_,U,_,U,_,U,m,_,_,_,U,U,S,U,_,_,U,U,_,U,l,ps,f,i^^^fl,m,q,fl,s,?_,e _ _ t,I.same e,(by rw[len];exact Yg hi hf),e _ _ u,λr D j x=>?_⟩
  ·show [V.ref l,V.int (Builtin.bitXor (0+(i:Int)) fl),V.ref m]=_;rw[J5,X7q]
  ·refine J (.ref r) D (j _ _ o) ⟨d++[r],El (e.trans j) b,Al,by rw[Dj];rfl,by simp[p],?_⟩;refine V2 (xs:=d.map V.ref) ?_ (j _ _ o);exact Y2u g j (by rw[p];exact x)
 ·rintro ys H2 M ⟨d,e,o,rfl,p,g⟩;exact C acc H2 d b e o (by rw[p,a]) g
end
end Av
namespace Av
open L2 Am Pc Ba
noncomputable def sm (fs:U6)(v:Int×Int×Int×Int):Nat->Int×Int×Int×Int
 | 0=>(0,0,0,0)
 | i+1=>let (a,b,c,d):=sm fs v i;let (x,y,z,u):=Bx i v;let f:=fs.getD i 0;(a+f*x,b+f*y,c+f*z,d+f*u)
abbrev Q4 (n:Nat)(v:Int×Int×Int×Int):Prop:=Gw n v.1 v.2.1 v.2.2.1 v.2.2.2
theorem jy{n:Nat}{v:Int×Int×Int×Int}(h:Q4 n v):∀i,Q4 n (Bx i v)
 | 0=>h
 | i+1=>let r:=jy h i;⟨r.z4.neg,r.z1,r.z2,r.z3⟩
theorem uW{n n':Nat}{fs:U6}{v:Int×Int×Int×Int}(h:Q4 n v)(hf:∀f∈fs,Sz n' f):∀i,Q4 (n+n'+i) (sm fs v i)
 | 0=>⟨TF (by decide),TF (by decide),TF (by decide),TF (by decide)⟩
 | i+1=>by
  have r:=jy h i;have s:=uW h hf i;have f0:Sz n' (fs.getD i 0):=by
   rw[FW];cases e:fs[i]? with
   | none=>exact TF (by decide)
   | some f=>exact hf f (Hq e)
  exact⟨(s.z1.add (f0.mul r.z1)).mono (by lia),(s.z2.add (f0.mul r.z2)).mono (by lia),(s.z3.add (f0.mul r.z3)).mono (by lia),(s.z4.add (f0.mul r.z4)).mono (by lia)⟩
noncomputable abbrev L4 (v:Int×Int×Int×Int):List Int:=[v.1,v.2.1,v.2.2.1,v.2.2.2]
structure O7 (a b c d h a' b' c' d' h' x y z u g:Int):Prop where
 amt:Ka x y z u g
 same:CV (a*a'-d*b'-c*c'-b*d') (b*a'+a*b'-d*c'-c*d') (c*a'+b*b'+a*c'-d*d') (d*a'+c*b'+b*c'+a*d') (h+h') x y z u g
 le:g<=h+h'
def rR:Sp:=λvs H Q _=>∃n p q a b c d h a' b' c' d' h',vW n vs H p q a b c d h a' b' c' d' h'/\∀(r:Y9) (H':Hp) (x y z u g:Int),Same H H'->H' r=some (T5 x y z u g)->O7 a b c d h a' b' c' d' h' x y z u g->Gw (n+n+4) x y z u->Q (.ref r) H'
section
variable {P:U8}{w:W5}{K:U0}{mg:U4}{base:Heap}{k:Nat}{h:Heap}
theorem zF(F:Ab K "times" (top 27) .none)(X:K.In h)(G:Ng h mg)(B:Bs mg)(cD:Aj P w K mg base k "halved_out" ["a","b","c","d","h"] Gi)(cS:Aj P w K mg base k "spun_once" ["one"] Ip):Aj P w K mg base (k+1) "times" ["one","other"] rR:=by
 refine F.cal X G ["one","other","sums","turning","factor"] λD H vs Q E hr h=>?_;obtain⟨n,p,q,a,b,c,d,h,a',b',c',d',h',⟨rfl,e1,e2,h0,a0,hh,hn,z,I⟩,kq⟩:=h;have S:Ah K H p [.int a,.int b,.int c,.int d,.int h]:=Ah.of e1;have S':Ah K H q [.int a',.int b',.int c',.int d',.int h']:=Ah.of e2;have Z:Q4 n (a,b,c,d):=z;have hf:∀f∈[a',b',c',d'],Sz n f:=by
  intro f s;simp only[Cw,Gm,Gk]at s;rcases s with rfl | rfl | rfl | rfl
  ·exact I.z1
  ·exact I.z2
  ·exact I.z3
  ·exact I.z4
 refine⟨_,(@Ao _ _ _ _ _ (@BR _ _ 2 _ _ _ _ D rfl (Or.inl rfl) (@Ii _ _ _ _ (Aa Ac (Aa Ac (Aa Ac (Aa Ac Ae))))) rfl (.inl rfl))
  (@Ao _ _ _ _ _ (@BR _ _ 3 _ _ _ _ D rfl (Or.inl rfl) (pv 0) rfl (.inl rfl))
  (@Ao _ _ _ _ _ (Gf PassesOwn.never rfl (RT (Nb RW (pv 1) NP (NQ Ac))) (Bq (i:=4) D rfl (Or.inr rfl))
   (@Ao _ _ _ _ _ (Qc (i:=2) rfl D rfl rfl (BZ.of (Nc:=["x","y","factor"]) (mp:=[none,none,some 4]) (by kernel_rfl)) (YZ false true rfl B.zip (Aa (pv 2) (Aa (Nb RW (pv 3) NP (NQ Ac)) Ae))) (λ_ _ _ _=>(Rk rfl (show (["x","y","factor"]:W4).Nodup by decide +kernel) rfl rfl rfl rfl)) (λ_ _ _ _=>(Af C_ (pv 0) (Af CT (pv 2) (pv 1)))) rfl)
   (@Aq _ _ _ (@BR _ _ 3 _ _ _ _ D rfl (Or.inl rfl) (A_ cS hr rfl (Aa (pv 3) Ae)) rfl (.inl rfl)))))
  (@Aq _ _ _ (BW (A_ cD hr rfl (Aa (Ak Dy (pv 2) Ac (λ_ _=>rfl)) (Aa (Ak Dy (pv 2) Ac (λ_ _=>rfl)) (Aa (Ak Dy (pv 2) Ac (λ_ _=>rfl)) (Aa (Ak Dy (pv 2) Ac (λ_ _=>rfl)) (Aa (Af C_ (Ak Ax (pv 0) Ac (λ_ _=>rfl)) (Ak Ax (pv 1) Ac (λ_ _=>rfl))) Ae))))))))))),?_⟩
 try dsimp only[Bv]
 refine⟨(by show 4<=sizeLine;decide),λl0 R=>?_⟩;have s1:=Aw R (.lst [.int 0,.int 0,.int 0,.int 0]);refine⟨_,U,?_⟩;refine⟨_,U,4,U,q,_,U,s1.tup S',Hu,λl1 m=>⟨l1,U,⟨_,Ah.of Al⟩,?_⟩⟩;have s2:=s1.trans (Aw m (.tup ([a',b',c',d'].map V.int)))
 refine qX (K:=K) (a:=l1) (xs:=[a',b',c',d'].map V.int) (λi σ H'=>Same (upd (upd H l0 (.lst [.int 0,.int 0,.int 0,.int 0])) l1 (.tup ([a',b',c',d'].map V.int))) H'/\∃l t v,σ=[some (.ref p),some (.ref q),some (.ref l),some (.ref t),v] /\
   H' l=some (.lst ((L4 (sm [a',b',c',d'] (a,b,c,d) i)).map V.int))/\H' t=some (T4 (Bx i (a,b,c,d)) h))
  ⟨Same.refl _,l0,p,none,U,?_,s2 _ _ e1⟩ (λi σ H' _ p=>p.1.tup (Ah.of Al)) ?_ ?_
 ·rw[Bw (λe=>by rw[<-e,Al]at m;cases m),Al];rfl
 ·rintro i x σ H2 s ⟨T,l,t,v,rfl,L,Y⟩;rw[Cp]at s;obtain⟨fa,A,rfl⟩:=Dm.mp s;have zf:=hf fa (Hq A);have J:=jy Z i;have ef:[a',b',c',d'].getD i 0=fa:=by rw[FW,A];rfl
  refine⟨_,U,_,U,4,U,t,_,U,Ah.of Y,Hu,λl2 o=>?_⟩;refine⟨l,l2,_,(L4 (Bx i (a,b,c,d))).map V.int,U,(Aw o _).seq (Ai.of L),Ah.of Al,λacc C=>?_⟩;refine qm (K:=K) (ns:=L4 (sm [a',b',c',d'] (a,b,c,d) i)) (ms:=L4 (Bx i (a,b,c,d))) (fr:=[some (.int fa)]) (λx y=>x+fa*y) rfl (show 4<=sizeLine by decide) ((Aw o _).seq (Ai.of L)) (Ah.of Al) C
   (λha hQ=>⟨_,_,U,Ah.of ha,U,_,_,U,_,_,U,U,hQ⟩) ?_ ?_
  ·intro x y H2 N s hy kN;have zy:Sz n y:=by
    simp only[Cw,Gm,Gk]at hy;rcases hy with rfl | rfl | rfl | rfl
    ·exact J.z1
    ·exact J.z2
    ·exact J.z3
    ·exact J.z4
   exact⟨_,U,_,U,_,U,_,_,U,U,⟨n,n,zf,zy,by lia⟩,_,_,U,U,kN⟩
  intro H3 O a4;have s5:=(Aw o (.tup ((L4 (Bx i (a,b,c,d))).map V.int))).trans O;refine⟨_,U,t,_,_,_,_,_,U,s5 _ _ Y,λr H4 s6 e6=>?_⟩;refine⟨T.trans (s5.trans s6),acc,r,_,U,?_,e6⟩;rw[s6 _ _ a4,<-ef];rfl
 ·rintro σ H2 ⟨T,l,t,v,rfl,L,Y⟩;have W:=s2.trans T;have j:Ai K H2 l ((L4 (sm [a',b',c',d'] (a,b,c,d) 4)).map V.int):=Ai.of L;have zz:Q4 (n+n+4) (sm [a',b',c',d'] (a,b,c,d) 4):=uW Z hf 4;refine⟨_,U,l,_,_,_,U,U,j,U,_,U,l,_,_,_,U,U,j,U,_,U,l,_,_,_,U,U,j,U,_,U,l,_,_,_,U,U,j,U,_,U,p,_,_,_,U,U,W.tup S,U,_,U,q,_,_,_,U,U,W.tup S',U,_,_,U,U,?_⟩;refine⟨_,_,_,_,_,U,(by show 0<=h+h';lia),λr H' x y v u g O e4 M=>?_⟩;refine kq r H' x y v u g (W.trans O) e4 ⟨M.amt,?_,M.le⟩ (M.sz zz);have hs:=M.same;have q1:(sm [a',b',c',d'] (a,b,c,d) 4).1=a*a'-d*b'-c*c'-b*d':=by
   show 0+a'*a+b'*-d+c'*-c+d'*-b=_;grind
  have q2:(sm [a',b',c',d'] (a,b,c,d) 4).2.1=b*a'+a*b'-d*c'-c*d':=by
   show 0+a'*b+b'*a+c'*-d+d'*-c=_;grind
  have q3:(sm [a',b',c',d'] (a,b,c,d) 4).2.2.1=c*a'+b*b'+a*c'-d*d':=by
   show 0+a'*c+b'*b+c'*a+d'*-d=_;grind
  have q4:(sm [a',b',c',d'] (a,b,c,d) 4).2.2.2=d*a'+c*b'+b*c'+a*d':=by
   show 0+a'*d+b'*c+c'*b+d'*a=_;grind
  rw[<-q1,<-q2,<-q3,<-q4];exact hs
end
theorem Ow{x h y g N:Int}(hh:0<=h)(hg:0<=g)(h1:h<=N)(h2:g<=N):D_ x h y g↔x*p2 (N-h)=y*p2 (N-g):=by
 unfold D_;have d:=KD hh h1;have c:=KD hg h2;have i:=Ed h;have f:=Ed g;have k:=Ed (N-h);have j:=Ed (N-g);have e:=Ed N;constructor
 ·intro z;have:(x*p2 (N-h))*(p2 h*p2 g)=(y*p2 (N-g))*(p2 h*p2 g):=by
   have a:(x*p2 (N-h))*(p2 h*p2 g)=(x*p2 g)*p2 N:=by rw[d];grind
   have b:(y*p2 (N-g))*(p2 h*p2 g)=(y*p2 h)*p2 N:=by rw[c];grind
   rw[a,b,z]
  exact J9 (JD i f) this
 ·intro z;have:(x*p2 g)*p2 N=(y*p2 h)*p2 N:=by
   have a:(x*p2 (N-h))*(p2 h*p2 g)=(x*p2 g)*p2 N:=by rw[d];grind
   have b:(y*p2 (N-g))*(p2 h*p2 g)=(y*p2 h)*p2 N:=by rw[c];grind
   rw[<-a,<-b,z]
  exact J9 e this
end Av
namespace Lq
open L2 Am Pc Ba FN Ci Hw Lk
variable{M:Int}
theorem Gn:Bo nought M=0/\BK nought M=0:=by
 rw[NK,NZ];constructor<;>simp[tt,rr]
theorem X8b{x:A5}(a:Fv x)(nz:x≠nought):Pos (Bo x M) (BK x M):=by
 rw[NK,NZ,JB,JB (rr _ _ _ _),Pos.scale (GD (QJ _) (QJ _))];refine Y1v λh=>nz ?_;have o:=a.odd;obtain⟨h1,h2,c,b⟩:=h;exact Lk.YF ⟨h1,h2,c,b,by show x.2=0;lia⟩
theorem j4{f:Nat->A5}{M:Int}:∀n:Nat,(∀w,w<n->Fv (f w))->(Ar f n M=0/\Ag f n M=0/\∀w,w<n->f w=nought)\/(Pos (Ar f n M) (Ag f n M)/\∃w,w<n/\f w≠nought)
 | 0,_=>.inl ⟨rfl,rfl,λw h=>absurd h (JF w)⟩
 | n+1,h=>by
  have g:=j4 (f:=f) (M:=M) n λw d=>h w (by lia);have j:Ar f (n+1) M=Ar f n M+Bo (f n) M:=rfl;have i:Ag f (n+1) M=Ag f n M+BK (f n) M:=rfl;rw[j,i];by_cases z:f n=nought
  ·rw[z,Gn.1,Gn.2,N5,N5];rcases g with ⟨a,b,c⟩ | ⟨a,w,d,nw⟩
   ·refine .inl ⟨a,b,λw d=>?_⟩;by_cases e:w=n
    ·rw[e];exact z
    ·exact c w (by lia)
   ·exact .inr ⟨a,w,by lia,nw⟩
  ·have p:=X8b (M:=M) (h n (by lia)) z;rcases g with ⟨a,b,c⟩ | ⟨a,w,d,nw⟩
   ·rw[a,b,J5,J5];exact .inr ⟨p,n,by lia,z⟩
   ·exact .inr ⟨a.add p,n,by lia,z⟩
variable{f:Nat->A5}{n:Nat}
theorem YB(h:∀w,w<n->Fv (f w))(nz:∃w,w<n/\f w≠nought):Pos (Ar f n M) (Ag f n M):=by
 rcases j4 (M:=M) n h with ⟨_,_,c⟩ | ⟨p,_⟩
 ·obtain⟨w,a,b⟩:=nz;exact absurd (c w a) b
 ·exact p
theorem jx{t r:Int}(p:Pos t r):t*t-2*r*r≠0:=λe=>by
 obtain⟨rfl,rfl⟩:=JX (show t*t=2*r*r by lia);exact Pos.zero p
def V_ (f g:Nat->A5)(n:Nat)(x y z M:Int):Prop:=Ar g n M*z=x*Ar f n M+2*y*Ag f n M/\Ag g n M*z=x*Ag f n M+y*Ar f n M
structure Sh (f g:Nat->A5) (n:Nat) (x y z:Int):Prop where
 pos:0<z
 cop:HJ x y z
 eq:∃M0,∀M,M0<=M->V_ f g n x y z M
def Nj (p q n p' q' n' x y z:Int):Prop:=0<z/\HJ x y z/\p*(z*n')=(x*p'+2*y*q')*n/\q*(z*n')=(x*q'+y*p')*n
variable{g:Nat->A5}{x y z:Int}
theorem Sh.of{ux uy uz hx hy hz:Int}(hu:He g n ux uy uz)(hh:He f n hx hy hz)(o:Nj ux uy uz hx hy hz x y z):Sh f g n x y z:=by
 obtain⟨k,co,j,r⟩:=o;obtain⟨p,u,h⟩:=bound (f:=f) n;obtain⟨s,A,m⟩:=bound (f:=g) n;refine⟨k,co,max p s,λM v=>?_⟩;obtain⟨i,l⟩:=hu.eq M (by lia) λw c=>by have:=m w c;lia
 obtain⟨d1,d2⟩:=hh.eq M (by lia) λw c=>by have:=h w c;lia
 have t:p2 M*p2 M≠0:=JD (Ed _) (Ed _);have e:uz*hz≠0:=JD (by have:=hu.pos;lia) (by have:=hh.pos;lia);unfold V_;generalize Ar g n M=Tg at *;generalize Ag g n M=Rg at *;generalize Ar f n M=Tf at *;generalize Ag f n M=Rf at *;generalize p2 M*p2 M=q at *;constructor
 ·apply can e;have b:uz*hz*(Tg*z)=(Tg*uz)*(z*hz):=by grind
  have a:uz*hz*(x*Tf+2*y*Rf)=(x*(Tf*hz)+2*y*(Rf*hz))*uz:=by grind
  rw[b,a,<-i,<-d1,<-d2];have d:ux*q*(z*hz)=q*(ux*(z*hz)):=by grind
  rw[d,j];grind
 ·apply can e;have b:uz*hz*(Rg*z)=(Rg*uz)*(z*hz):=by grind
  have a:uz*hz*(x*Rf+y*Tf)=(x*(Rf*hz)+y*(Tf*hz))*uz:=by grind
  rw[b,a,<-l,<-d1,<-d2];have d:uy*q*(z*hz)=q*(uy*(z*hz)):=by grind
  rw[d,r];grind
theorem t_{a b T R:Int}(n:T*T-2*R*R≠0)(h1:a*T+2*b*R=0)(h2:a*R+b*T=0):a=0/\b=0:=by
 constructor
 ·have:a*(T*T-2*R*R)=0:=by grind
  rcases N8.mp this with h | h
  ·exact h
  ·exact absurd h n
 ·have:b*(T*T-2*R*R)=0:=by grind
  rcases N8.mp this with h | h
  ·exact h
  ·exact absurd h n
theorem Sh.same{f' g':Nat->A5}{x' y' z':Int}(a:Sh f g n x y z)(b:Sh f' g' n x' y' z')(af:∀w,w<n->Fv (f w))(nz:∃w,w<n/\f w≠nought)(ef:∃M0,∀M,M0<=M->Ar f n M=Ar f' n M/\Ag f n M=Ag f' n M)(eg:∃M0,∀M,M0<=M->Ar g n M=Ar g' n M/\Ag g n M=Ag g' n M):x=x'/\y=y'/\z=z':=by
 obtain⟨d,m⟩:=a.eq;obtain⟨e,p⟩:=b.eq;obtain⟨M3,k⟩:=ef;obtain⟨c,q⟩:=eg;have k1:d<=max (max d e) (max M3 c):=by lia
 have k2:e<=max (max d e) (max M3 c):=by lia
 have k3:M3<=max (max d e) (max M3 c):=by lia
 have j:c<=max (max d e) (max M3 c):=by lia
 generalize max (max d e) (max M3 c)=M at k1 k2 k3 j;obtain⟨r,u⟩:=m M k1;obtain⟨l,o⟩:=p M k2;obtain⟨h,i⟩:=k M k3;obtain⟨d1,d2⟩:=q M j;have ne:=jx (YB (M:=M) af nz);rw[<-h,<-i,<-d1]at l;rw[<-h,<-i,<-d2]at o;generalize Ar g n M=Tg at *;generalize Ag g n M=Rg at *;generalize Ar f n M=Tf at *;generalize Ag f n M=Rf at *;obtain⟨t,s⟩:=t_ (a:=x*z'-x'*z) (b:=y*z'-y'*z) ne (by grind) (by grind);exact Low.unique a.pos b.pos a.cop b.cop (by lia) (by lia)
theorem Y2l{q fl s c:Nat}{g0 g1:Nat->A5}(hf:fl<2^c)(h0:Jf q fl s 1 (2^c) f g0)(h1:Jf q fl s (-1) (2^c) f g1):∃M0,∀M,M0<=M->Ar g0 (2^c) M+Ar g1 (2^c) M=Ar f (2^c) M/\Ag g0 (2^c) M+Ag g1 (2^c) M=Ag f (2^c) M:=by
 obtain⟨u,_,h⟩:=bound (f:=f) (2^c);obtain⟨x,_,r⟩:=bound (f:=g0) (2^c);obtain⟨M3,_,l⟩:=bound (f:=g1) (2^c);refine⟨max u (max x M3),λM E=>?_⟩;have key:∀w,w<2^c->2*(Bo (g0 w) M+Bo (g1 w) M)=Bo (f w) M+Bo (BP q fl s f w) M/\2*(BK (g0 w) M+BK (g1 w) M)=BK (f w) M+BK (BP q fl s f w) M:=λw a=>by
  have k1:(f w).2<=M:=by have:=h w a;lia
  have k2:(BP q fl s f w).2<=M:=by rw[X6d];have:=h _ (Yg a hf);lia
  have e:=(h0 w a).eq M k1 k2 (by have:=r w a;lia);have d:=(h1 w a).eq M k1 k2 (by have:=l w a;lia);have H:2*va (g0 w) M=va (f w) M+1*va (BP q fl s f w) M:=congrArg (λt:V4=>t.1) e;have j:2*vb (g0 w) M=vb (f w) M+1*vb (BP q fl s f w) M:=congrArg (λt:V4=>t.2.1) e;have C:2*vc (g0 w) M=vc (f w) M+1*vc (BP q fl s f w) M:=congrArg (λt:V4=>t.2.2.1) e;have A:2*vd (g0 w) M=vd (f w) M+1*vd (BP q fl s f w) M:=congrArg (λt:V4=>t.2.2.2) e;have z:2*va (g1 w) M=va (f w) M+-1*va (BP q fl s f w) M:=congrArg (λt:V4=>t.1) d;have B:2*vb (g1 w) M=vb (f w) M+-1*vb (BP q fl s f w) M:=congrArg (λt:V4=>t.2.1) d;have D:2*vc (g1 w) M=vc (f w) M+-1*vc (BP q fl s f w) M:=congrArg (λt:V4=>t.2.2.1) d;have I:2*vd (g1 w) M=vd (f w) M+-1*vd (BP q fl s f w) M:=congrArg (λt:V4=>t.2.2.2) d;unfold Bo BK;generalize va (g0 w) M=a0 at *;generalize vb (g0 w) M=a1 at *;generalize vc (g0 w) M=a2 at *;generalize vd (g0 w) M=a3 at *;generalize va (g1 w) M=c0 at *;generalize vb (g1 w) M=c1 at *;generalize vc (g1 w) M=c2 at *;generalize vd (g1 w) M=c3 at *;have f0:va (f w) M=a0+c0:=by lia
  have f1:vb (f w) M=a1+c1:=by lia
  have m:vc (f w) M=a2+c2:=by lia
  have p:vd (f w) M=a3+c3:=by lia
  have l0:va (BP q fl s f w) M=a0-c0:=by lia
  have l1:vb (BP q fl s f w) M=a1-c1:=by lia
  have l2:vc (BP q fl s f w) M=a2-c2:=by lia
  have l3:vd (BP q fl s f w) M=a3-c3:=by lia
  rw[f0,f1,m,p,l0,l1,l2,l3,X0v,X1g];exact⟨U,U⟩
 have t1:=Nh (n:=2^c) (F:=λw=>2*(Bo (g0 w) M+Bo (g1 w) M)) (G:=λw=>Bo (f w) M+Bo (BP q fl s f w) M) λw a=>(key w a).1;have t2:=Nh (n:=2^c) (F:=λw=>2*(BK (g0 w) M+BK (g1 w) M)) (G:=λw=>BK (f w) M+BK (BP q fl s f w) M) λw a=>(key w a).2;rw[Xp,jO,jO]at t1 t2;have b:=X7v (f:=f) (g:=BP q fl s f) (n:=2^c) (t:=λv=>v^^^fl) (k:=λv=>2*q+4*pc ((v^^^fl)&&&s)) (λi hi=>Yg hi hf) (λi _=>Lk.Hy i fl) (λ_ _=>rfl) M;have o:CJ (λw=>Bo (BP q fl s f w) M) (2^c)=CJ (λw=>Bo (f w) M) (2^c):=b.1;have y:CJ (λw=>BK (BP q fl s f w) M) (2^c)=CJ (λw=>BK (f w) M) (2^c):=b.2;rw[o]at t1;rw[y]at t2;unfold Ar Ag;constructor<;>lia
theorem jk(h:He f n x y z)(af:∀w,w<n->Fv (f w))(nz:∃w,w<n/\f w≠nought):Pos x y:=by
 obtain⟨M,c,b⟩:=bound (f:=f) n;obtain⟨d,a⟩:=h.eq M c b;have p:=YB (M:=M) af nz;rw[<-Pos.scale (k:=p2 M*p2 M) (GD (QJ _) (QJ _)),JB _ x,JB _ y,d,a,JB,JB (Ag f n M),Pos.scale h.pos];exact p
end Lq
namespace Av
open L2 Am Pc Ba FN Ci Hw
noncomputable abbrev T3 (x y z:Int):HO:=.tup [.int x,.int y,.int z]
def tR:Sp:=λvs H Q _=>∃(p:Y9) (a b c d h:Int),vs=[.ref p]/\H p=some (T5 a b c d h)/\∀(r:Y9) (H':Hp),Same H H'->H' r=some (T5 a (-d) (-c) (-b) h)->Q (.ref r) H'
def Nu:Sp:=λvs H Q _=>∃a b:Int,vs=[.int a,.int b]/\0<=a/\0<=b/\Q (.int (Int.gcd a b:Nat)) H
def Rc:Sp:=λvs H Q _=>∃t r b:Int,vs=[.int t,.int r,.int b]/\b≠0/\Sz 9000 b/\∀(p:Y9) (H':Hp) (x y z:Int),Same H H'->H' p=some (T3 x y z)->Low t r b x y z->Q (.ref p) H'
def Km (K:U0):Sp:=λvs H Q _=>∃(p:Y9) (a b c d h:Int),vs=[.ref p]/\Ah K H p [.int a,.int b,.int c,.int d,.int h]/\c=0/\d=-b/\0<=h/\h<=8000/\∀(r:Y9) (H':Hp) (x y z:Int),Same H H'->H' r=some (T3 x y z)->Low a b (p2 h) x y z->Q (.ref r) H'
def Iv:Sp:=λvs H Q _=>∃(l:Y9) (ps:U3) (f:Nat->A5) (c n m:Nat),vs=[.ref l]/\Bd H l ps f c n m/\c<=6/\n<=10000/\m<=1500/\∀(r:Y9) (H':Hp) (x y z:Int),Same H H'->H' r=some (T3 x y z)->He f (2^c) x y z->Sz (2*n+4*m+70) x->Sz (2*n+4*m+70) y->Sz (2*m+1) z->Q (.ref r) H'
theorem Yz(h:Int):(1:Int)*2^h.toNat=p2 h:=by unfold p2;rw[PX]
variable{n:Nat}{h:Int}
theorem WT(hn:h.toNat+1<=n):Sz n (p2 h):=(Ye h.toNat).mono hn
theorem Ov(i:Int):(if i<0 then -i else i)=(i.natAbs:Int):=by split<;>lia
theorem X3m(t r b:Int):Int.gcd ((Int.gcd (b.natAbs:Int) (r.natAbs:Int):Nat):Int) (t.natAbs:Int)=Nat.gcd (Nat.gcd t.natAbs r.natAbs) b.natAbs:=by
 simp only[Int.gcd,Pn];exact _R _ _ _
variable{a b:Int}
theorem sV(h0:0<=a)(hb:0<b):Int.gcd b (a%b)=Int.gcd a b:=by
 have e:(a%b).natAbs=a.natAbs%b.natAbs:=by
  obtain⟨m,rfl⟩:∃m:Nat,a=m:=⟨a.natAbs,by lia⟩;obtain⟨n,rfl⟩:∃n:Nat,b=n:=⟨b.natAbs,by lia⟩;rw[<-Int.natCast_emod,Pn,Pn,Pn]
 show Nat.gcd b.natAbs (a%b).natAbs=Nat.gcd a.natAbs b.natAbs;rw[e,Qu a.natAbs,Nat.gcd_rec b.natAbs a.natAbs,Qu]
theorem YC{M:Int}(z:Sz n a)(h0:0<=h):Sz (n+M.toNat+1) (a*p2 (M-h)):=(z.mul (Ye (M-h).toNat)).mono (by lia)
theorem Yx{x:A5}{M:Int}(z:Gw n x.1.1 x.1.2.1 x.1.2.2.1 x.1.2.2.2)(h0:0<=x.2):Sz (2*(n+M.toNat+1)+3) (Bo x M)/\Sz (2*(n+M.toNat+1)+3) (BK x M):=by
 have a:=YC (M:=M) z.z1 h0;have b:=YC (M:=M) z.z2 h0;have c:=YC (M:=M) z.z3 h0;have d:=YC (M:=M) z.z4 h0;constructor
 ·exact((((a.mul a).add (b.mul b)).add (c.mul c)).add (d.mul d)).mono (by lia)
 ·exact((((a.mul b).add (b.mul c)).add (c.mul d)).sub (d.mul a)).mono (by lia)
theorem Mp{f:Nat->A5}{n:Nat}{M:Int}:∀i:Nat,(∀w,w<i->Gw n (f w).1.1 (f w).1.2.1 (f w).1.2.2.1 (f w).1.2.2.2/\0<=(f w).2)->Sz (2*(n+M.toNat+1)+3+i) (Ar f i M)/\Sz (2*(n+M.toNat+1)+3+i) (Ag f i M)
 | 0,_=>⟨Ji _,Ji _⟩
 | i+1,h=>by
  obtain⟨a,b⟩:=Mp i λw e=>h w (by lia);obtain⟨c,d⟩:=Yx (M:=M) (h i (by lia)).1 (h i (by lia)).2;exact⟨(a.add c).mono (by lia),(b.add d).mono (by lia)⟩
theorem vC{k:Int}(h:0<k):a.natAbs<=(a*k).natAbs:=by rw[Fx];exact Nat.le_mul_of_pos_right _ (by lia)
structure Rr (f:Nat->A5) (m n i:Nat) (a b c d h:Int):Prop where
 h0:0<=h
 hm:h<=2*m
 ta:a*p2 (4*m-h)=Ar f i (2*m)
 tb:b*p2 (4*m-h)=Ag f i (2*m)
 tc:c=0
 td:d=-b
 sz:Gw (2*n+4+i*(4*m+2)) a b c d
variable{f:Nat->A5}{m:Nat}{c d x y z:Int}
theorem Rr.step{i:Nat}{A B C D hh u g a' b' c' d' h':Int}(t:Rr f m n i a b c d h)(e:f i=((A,B,C,D),hh))(g0:0<=hh)(gm:hh<=m)(pr:O7 A B C D hh A (-D) (-C) (-B) hh x y z u g)(sm:Sum a b c d h x y z u g a' b' c' d' h')(sz:Gw (2*n+4+i*(4*m+2)+h.toNat+g.toNat+2) a' b' c' d'):Rr f m n (i+1) a' b' c' d' h':=by
 have h0:=t.h0;have hm:=t.hm;have o:=pr.amt.nn;have W:=pr.le;have j:=sm.amt.nn;have V:=sm.le;have s:=pr.same;have R:=(Ow (N:=4*m) (by lia) o (by lia) (by lia)).mp s.e1;have K:=(Ow (N:=4*m) (by lia) o (by lia) (by lia)).mp s.e2;have L:=(Ow (N:=4*m) (by lia) o (by lia) (by lia)).mp s.e3;have J:=(Ow (N:=4*m) (by lia) o (by lia) (by lia)).mp s.e4;have q:=sm.same;have H:=(Ow (N:=4*m) (by lia) j (by lia) (by lia)).mp q.e1;have I:=(Ow (N:=4*m) (by lia) j (by lia) (by lia)).mp q.e2;have M:=(Ow (N:=4*m) (by lia) j (by lia) (by lia)).mp q.e3;have S:=(Ow (N:=4*m) (by lia) j (by lia) (by lia)).mp q.e4;have r:p2 (4*m-(hh+hh))=p2 (2*m-hh)*p2 (2*m-hh):=by rw[<-Ih (by lia) (by lia)];congr 1;lia
 have k:p2 (4*m-h)=p2 (4*m-(h+g))*p2 g:=by rw[<-Ih (by lia) (by lia)];congr 1;lia
 have p:p2 (4*m-g)=p2 (4*m-(h+g))*p2 h:=by rw[<-Ih (by lia) (by lia)];congr 1;lia
 have v:=NK (f i) (2*m);have l:=NZ (f i) (2*m);rw[e]at v l;simp only at v l;have G:=Ed (4*m-h');have ta:=t.ta;have tb:=t.tb;have tc:=t.tc;have td:=t.td;have U:x*p2 (4*m-g)=Bo ((A,B,C,D),hh) (2*m):=by rw[<-R,v,r];unfold tt;grind
 have w:y*p2 (4*m-g)=BK ((A,B,C,D),hh) (2*m):=by rw[<-K,l,r];unfold rr;grind
 have P:z*p2 (4*m-g)=0:=by rw[<-L];grind
 have Q:u*p2 (4*m-g)=-BK ((A,B,C,D),hh) (2*m):=by rw[<-J,l,r];unfold rr;grind
 have T:a'*p2 (4*m-h')=a*p2 (4*m-h)+x*p2 (4*m-g):=by rw[<-H,k,p];grind
 have E:b'*p2 (4*m-h')=b*p2 (4*m-h)+y*p2 (4*m-g):=by rw[<-I,k,p];grind
 have F:c'*p2 (4*m-h')=c*p2 (4*m-h)+z*p2 (4*m-g):=by rw[<-M,k,p];grind
 have O:d'*p2 (4*m-h')=d*p2 (4*m-h)+u*p2 (4*m-g):=by rw[<-S,k,p];grind
 refine⟨j,by lia,?_,?_,?_,?_,?_⟩
 ·rw[T,U,ta,<-e];rfl
 ·rw[E,w,tb,<-e];rfl
 ·rw[P,tc]at F;rcases N8.mp (show c'*p2 (4*m-h')=0 by rw[F];lia) with z | z
  ·exact z
  ·exact absurd z G
 ·apply J9 G;rw[O,Q,td,XQ b',E,w];generalize BK ((A,B,C,D),hh) (2*m)=N;rw[XQ];lia
 ·refine sz.mono ?_;rw[Nat.add_mul];lia
theorem Rr.heft{N:Nat}(t:Rr f m n N a b c d h)(hf:∀w,w<N->(f w).2<=m)(l:Low a b (p2 h) x y z):He f N x y z:=by
 refine He.of (M:=2*m) l.pos l.cop (by lia) (λw g=>by have:=hf w g;lia) ?_;obtain⟨i,e⟩:=Low.cr l;have h0:=t.h0;have hm:=t.hm;have w:p2 (2*m)*p2 (2*m)=p2 (4*m-h)*p2 h:=by rw[<-Ih (by lia) (by lia),<-Ih (by lia) (by lia)];congr 1;lia
 unfold Gb;rw[w,<-t.ta,<-t.tb];constructor
 ·have:x*(p2 (4*m-h)*p2 h)=(x*p2 h)*p2 (4*m-h):=by grind
  rw[this,i];grind
 ·have:y*(p2 (4*m-h)*p2 h)=(y*p2 h)*p2 (4*m-h):=by grind
  rw[this,e];grind
section
variable {P:U8}{w:W5}{K:U0}{mg:U4}{base:Heap}{k:Nat}{h:Heap}
theorem Y4s(F:Ab K "mirror" (top 30) .none)(X:K.In h)(G:Ng h mg):Aj P w K mg base (k+1) "mirror" ["one"] tR:=by
 refine F.cal X G ["one"] λf H vs Q E e h=>?_;obtain⟨p,a,b,c,d,h,rfl,hp,q⟩:=h;have S:Ah K H p [.int a,.int b,.int c,.int d,.int h]:=Ah.of hp;refine⟨_,(@Aq _ _ _ (BW (@Cq _ _ _ _ _ (Aa (Ak Ax (pv 0) Ac (λ_ _=>rfl)) (Aa (Js Jt (Ak Ax (pv 0) Ac (λ_ _=>rfl))) (Aa (Js Jt (Ak Ax (pv 0) Ac (λ_ _=>rfl))) (Aa (Js Jt (Ak Ax (pv 0) Ac (λ_ _=>rfl))) (Aa (Ak Ax (pv 0) Ac (λ_ _=>rfl)) Ae)))))))),?_⟩;try dsimp only[Bv]
 refine⟨_,U,p,_,_,_,U,U,S,U,_,U,p,_,_,_,U,U,S,U,_,U,_,U,p,_,_,_,U,U,S,U,_,U,_,U,p,_,_,_,U,U,S,U,_,U,_,U,p,_,_,_,U,U,S,U,t5,λr e=>?_⟩;exact q r _ (Aw e _) Al
theorem X5r(F:Ab K "common_divisor" (top 16) .none)(X:K.In h)(G:Ng h mg):Aj P w K mg base (k+1) "common_divisor" ["one","other"] Nu:=by
 refine F.cal X G ["one","other","rest"] λd H vs Q E t h=>?_;obtain⟨a,b,rfl,n,p,q⟩:=h
 refine⟨_,(@Ao _ _ _ _ _ (Vz PassesOwn.never (Cg Lg (pv 1) Ac (Ad _))
   (@Ao _ _ _ _ _ (@BR _ _ 2 _ _ _ _ d rfl (Or.inl rfl) (Af Dv (pv 0) (pv 1)) rfl (.inl rfl))
   (@Ao _ _ _ _ _ (@BR _ _ 0 _ _ _ _ d rfl (Or.inl rfl) (pv 1) rfl (.inl rfl))
   (@Aq _ _ _ (@BR _ _ 1 _ _ _ _ d rfl (Or.inl rfl) (pv 2) rfl (.inl rfl))))))
  (@Aq _ _ _ (BW (pv 0)))),?_⟩
 try dsimp only[Bv]
 refine zq (λσ H'=>H'=H/\∃a' b' r,σ=[some (.int a'),some (.int b'),r]/\0<=a'/\0<=b'/\Int.gcd a' b'=Int.gcd a b)
  (λσ _=>match σ with | [_,some (.int b'),_]=>b'.toNat | _=>0) ⟨U,a,b,none,U,n,p,U⟩ ?_ ?_
 ·rintro σ H' ⟨rfl,a',b',r,rfl,g,f,e⟩;refine⟨_,U,U,_,U,J_ (λc=>?_) (λc=>?_)⟩
  ·refine⟨_,U,_,U,_,_,U,U,(by show 0<b';lia),?_⟩;refine⟨_,U,_,U,⟨U,b',a'%b',some (.int (a'%b')),U,f,JC _ c,?_⟩,?_⟩
   ·rw[sV g (by lia)];exact e
   ·show (a'%b').toNat<b'.toNat;have:=Jl a' (show 0<b' by lia);have:=JC a' c;lia
  ·subst c;refine⟨_,U,?_⟩;rw[Int.gcd_zero_right]at e;have j:(a':Int)=(Int.gcd a b:Nat):=by lia
   show Q (.int a') H';rw[j];exact q
 ·rintro σ H1 s u o ⟨v,e,l,k1,m,i⟩;exact⟨v,e,l,k1,m,o _ _ i⟩
theorem xR{D:Y9}{oc:W8}{od:Y5}{sl:Y0}{t0 t1:Tok}(l:K.lookup D=some ⟨oc,od,.seq #[.int 0 t0,.int 1 t1] n,sl⟩):Lj K "share" (top 15) (.ref D) ["top","root","bottom"]:=by
 intro kV d g h f ct s us X e;match us,e with
 | [a,b,c],_=>exact BindsTo.of_defaults rfl (X _ _ l) rfl rfl rfl
theorem yu{dV:W8}(F:Ab K "share" (top 15) dV)(bi:Lj K "share" (top 15) dV ["top","root","bottom"])(X:K.In h)(G:Ng h mg)(B:Bs mg)(c8:Aj P w K mg base k "is_whole" ["thing"] QX)(cO:Aj P w K mg base k "common_divisor" ["one","other"] Nu):
  Aj P w K mg base (k+1) "share" ["top","root","bottom"] Rc:=by
 refine F.cal X G ["top","root","bottom","common"] (bi:=bi) λm H vs Q E f h=>?_;obtain⟨t,r,b,rfl,n,s,q⟩:=h
 refine⟨_,(@Ao _ _ _ _ _ (Cd (Ec (PW.pt (MN (Cr (A_ c8 f rfl (Aa (pv 0) Ae))) (MN (Cr (A_ c8 f rfl (Aa (pv 1) Ae))) (QW (Cr (A_ c8 f rfl (Aa (pv 2) Ae))))))))
   (@Aq _ _ _ Vy)
   Ce)
  (@Ao _ _ _ _ _ (Cd (Cg HF (pv 2) Ac (Ad _))
   (@Aq _ _ _ Vy)
   Ce)
  (@Ao _ _ _ _ _ (@BR _ _ 3 _ _ _ _ m rfl (Or.inl rfl) (A_ cO f rfl (Aa (A_ cO f rfl (Aa (Bm Vx rfl B.abs U_ (Aa (pv 2) Ae)) (Aa (Bm Vx rfl B.abs U_ (Aa (pv 1) Ae)) Ae))) (Aa (Bm Vx rfl B.abs U_ (Aa (pv 0) Ae)) Ae))) rfl (.inl rfl))
  (@JM _ _ _ _ _ (Cd (Cg QH (pv 2) Ac (Ad _))
   (@Aq _ _ _ (@BR _ _ 3 _ _ _ _ m rfl (Or.inl rfl) (Js Jt (pv 3)) rfl (.inl rfl)))
   Ce)
  (@Aq _ _ _ (BW (@Cq _ _ _ _ _ (Aa (Af Qa (pv 0) (pv 3)) (Aa (Af Qa (pv 1) (pv 3)) (Aa (Af Qa (pv 2) (pv 3)) Ae)))))))))),?_⟩
 try dsimp only[Bv]
 refine⟨_,U,_,U,_,U,Df ⟨_,U,_,U,_,U,Df ⟨_,U,_,U,_,U,Ay ?_⟩⟩⟩;refine⟨_,U,U,_,U,Jr (λc=>absurd c n) (λ_=>?_)⟩;refine⟨_,U,_,U,_,U,_,U,_,_,U,(by rw[Ov];lia),(by rw[Ov];lia),_,U,_,U,_,_,U,by lia,(by rw[Ov];lia),?_⟩;rw[Ov,Ov,Ov,X3m];generalize hG:Nat.gcd (Nat.gcd t.natAbs r.natAbs) b.natAbs=g;have fin:∀c:Int,c=(if b<0 then -(g:Int) else g)->(Ik (R4 (HS (Ej (rI IW λi j=>.int (i.fdiv j)) (B_ 0) (B_ 3)) (HS (Ej (rI IW λi j=>.int (i.fdiv j)) (B_ 1) (B_ 3)) (HS (Ej (rI IW λi j=>.int (i.fdiv j)) (B_ 2) (B_ 3)) O9)))))
   { nx:=λ_ H'=>Q .non H',rt:=Q} [some (.int t),some (.int r),some (.int b),some (.int c)] H:=by
  intro c l;have o:0<g:=by rw[<-hG];exact iM (by lia)
  have u:g<=b.natAbs:=by rw[<-hG];exact Nat.gcd_le_right _ (by lia)
  have d:c≠0:=by rw[l];split<;>lia
  have a:Sz 9000 c:=s.le (by rw[l];split<;>lia);have e:=qt (t:=t) (r:=r) n hG.symm l;refine⟨_,U,_,U,_,_,U,U,⟨d,a⟩,_,U,_,U,_,_,U,U,⟨d,a⟩,_,U,_,U,_,_,U,U,⟨d,a⟩,t3,λp hp=>?_⟩;exact q p _ _ _ _ (Aw hp _) Al e
 refine⟨λσ H'=>H'=H/\σ=[some (.int t),some (.int r),some (.int b),some (.int (if b<0 then -(g:Int) else g))],⟨_,U,_,_,U,U,_,U,Ca (λc=>?_) (λc=>?_)⟩,?_⟩
 ·refine⟨_,U,_,U,U,?_⟩;rw[if_pos c];rfl
 ·refine⟨U,?_⟩;rw[if_neg c];rfl
 rintro σ H' ⟨rfl,rfl⟩;exact fin _ rfl
theorem X2j(F:Ab K "real_share" (top 32) .none)(X:K.In h)(G:Ng h mg)(cF:Aj P w K mg base k "share" ["top","root","bottom"] Rc):Aj P w K mg base (k+1) "real_share" ["one"] (Km K):=by
 refine F.cal X G ["one"] λl H vs Q E j h=>?_;obtain⟨p,a,b,c,d,h,rfl,S,i,e,m,n,q⟩:=h
 refine⟨_,(@Ao _ _ _ _ _ (Cd (PW.pt (Eh (Cg Lg (Ak Ax (pv 0) Ac (λ_ _=>rfl)) Ac (Ad _)) (Gg (Cg Lg (Ak Ax (pv 0) Ac (λ_ _=>rfl)) (Js Jt (Ak Ax (pv 0) Ac (λ_ _=>rfl))) (Ad _)))))
   (@Aq _ _ _ Vy)
   Ce)
  (@Aq _ _ _ (BW (A_ cF j rfl (Aa (Ak Ax (pv 0) Ac (λ_ _=>rfl)) (Aa (Ak Ax (pv 0) Ac (λ_ _=>rfl)) (Aa (Af KJ Ac (Ak Ax (pv 0) Ac (λ_ _=>rfl))) Ae))))))),?_⟩
 try dsimp only[Bv]
 refine⟨_,U,p,_,_,_,U,U,S,U,U,_,U,J_ (λz=>absurd i z) (λ_=>?_)⟩;refine⟨_,U,p,_,_,_,U,U,S,U,_,U,p,_,_,_,U,U,S,U,_,U,U,_,U,J_ (λz=>absurd e z) (λ_=>?_)⟩;refine⟨_,U,p,_,_,_,U,U,S,U,_,U,p,_,_,_,U,U,S,U,_,U,p,_,_,_,U,U,S,U,_,_,U,U,⟨1,Qn,by lia,by lia⟩,a,b,p2 h,?_,Ms (wC h),WT (by lia),λr H' x y z s' f g=>q r H' x y z s' f g⟩;show [V.int a,V.int b,V.int (1*2^h.toNat)]=_;rw[Yz]
theorem X2u{aZ:Y9}(gZ:mg "NOUGHT"=some (.ref aZ))(kZ:∀H,Ah K H aZ ([0,0,0,0,0].map V.int))(F:Ab K "heft" (top 42) .none)(X:K.In h)(G:Ng h mg)(cW:Aj P w K mg base k "plus" ["one","other"] (Xg K))(eO:Aj P w K mg base k "times" ["one","other"] rR)(eK:Aj P w K mg base k "mirror" ["one"] tR)(dQ:Aj P w K mg base k "real_share" ["one"] (Km K)):Aj P w K mg base (k+1) "heft" ["board"] Iv:=by
 refine F.cal X G ["board","total","one"] λI H vs Q E C h=>?_;obtain⟨l,ps,f,c,n,m,rfl,j,c6,n1,m1,q⟩:=h;have p6:=Hr c6;have D:(ps.map V.ref).length=2^c:=by rw[BL,j.len]
 refine⟨_,(@Ao _ _ _ _ _ (@BR _ _ 1 _ _ _ _ I rfl (Or.inl rfl) (iZ (v:=.ref aZ) rfl gZ rfl) rfl (.inl rfl))
  (@Ao _ _ _ _ _ (Gf PassesOwn.never rfl (Es (pv 0)) (Bq (i:=2) I rfl (Or.inl rfl))
   (@Aq _ _ _ (@BR _ _ 1 _ _ _ _ I rfl (Or.inl rfl) (A_ cW C rfl (Aa (pv 1) (Aa (A_ eO C rfl (Aa (pv 2) (Aa (A_ eK C rfl (Aa (pv 2) Ae)) Ae))) Ae))) rfl (.inl rfl))))
  (@Aq _ _ _ (BW (A_ dQ C rfl (Aa (pv 1) Ae)))))),?_⟩
 try dsimp only[Bv]
 refine⟨_,U,l,U,⟨_,Ai.of j.lst⟩,KN (K:=K) (a:=l) (xs:=ps.map V.ref) (λi σ H'=>Same H H'/\∃(p:Y9) (a b c d h:Int) (v:Option V),Ah K H' p [.int a,.int b,.int c,.int d,.int h]/\Rr f m n i a b c d h/\σ=[some (.ref l),some (.ref p),v]) ⟨Same.refl _,aZ,0,0,0,0,0,none,kZ H,⟨GC 0,by lia,?_,?_,U,U,?_⟩,U⟩ (λi σ H' _ e=>e.1.seq (Ai.of j.lst)) ?_ ?_⟩
 ·show 0*p2 (4*m-0)=0;lia
 ·show 0*p2 (4*m-0)=0;lia
 ·have t:Sz (2*n+4+0*(4*m+2)) 0:=Ji _;exact⟨t,t,t,t⟩
 ·rintro i x σ H1 R ⟨A,p,a,b,c',d,h,v,SP,T,rfl⟩;rw[Cp]at R;obtain⟨O,hp,rfl⟩:=Dm.mp R;have hi:i<2^c:=by
   have:=(DW.mp hp).1;rw[j.len]at this;exact this
  have N:=A _ _ (j.vals i O hp);have ok:=j.ok i hi;have im:i*(4*m+2)<=63*(4*m+2):=Nat.mul_le_mul_right _ (by lia);rcases hf:f i with ⟨⟨A1,B1,C1,D1⟩,hh⟩;rw[hf]at N ok;have o0:0<=hh:=ok.amt.nn;have om:hh<=m:=ok.le;have o:Gw n A1 B1 C1 D1:=ok.sz;have J:=T.h0;have Y:=T.hm;refine⟨_,U,_,U,_,U,O,_,_,_,_,_,U,N,λr H2 s L=>?_⟩;refine⟨n,O,r,A1,B1,C1,D1,hh,A1,-D1,-C1,-B1,hh,⟨U,s _ _ N,L,o0,o0,by lia,by lia,o,⟨o.z1,o.z4.neg,o.z3.neg,o.z2.neg⟩⟩,λr2 H3 x y z u g S W pr pz=>?_⟩;have gn:=pr.amt.nn;have gl:=pr.le;refine⟨2*n+4+i*(4*m+2),p,r2,a,b,c',d,h,x,y,z,u,g,⟨U,(s.trans S).tup SP,W,J,gn,by lia,by lia,T.sz,pz.mono (by lia)⟩,λZ H4 x' y' z' u' g' s4 e4 sm sz=>?_⟩;exact⟨(A.trans s).trans (S.trans s4),Z,_,_,_,_,_,_,Ah.of e4,T.step hf o0 om pr sm sz,U⟩
 ·rintro σ H1 ⟨A,p,a,b,c',d,h,v,SP,T,rfl⟩;rw[D]at T;have J:=T.h0;have Y:=T.hm;have cm:2^c*(4*m+2)<=64*(4*m+2):=Nat.mul_le_mul_right _ p6;refine⟨_,U,p,a,b,c',d,h,U,SP,T.tc,T.td,J,by lia,λr H2 x y z s L lo=>?_⟩;obtain⟨z1,z2,z3⟩:=lo.sizes;obtain⟨y1,y2⟩:=Mp (f:=f) (n:=n) (M:=2*m) (2^c) λw B=>⟨(j.ok w B).sz,(j.ok w B).amt.nn⟩;have ha:Sz (2*n+4*m+70) a:=(y1.mono (by lia)).le (by rw[<-T.ta];exact vC (QJ _));have hb:Sz (2*n+4*m+70) b:=(y2.mono (by lia)).le (by rw[<-T.tb];exact vC (QJ _));exact q r H2 x y z (A.trans s) L (T.heft (λw B=>(j.ok w B).le) lo) (ha.le z1) (hb.le z2) ((WT (n:=2*m+1) (h:=h) (by lia)).le z3)
end
end Av
namespace L2
section
variable {X:Cx}{e st:Expr}{lo hi:Option Expr}{te:TE}{tl th ts:TO}{p2 pos:Pos}
end
end L2
namespace HT
section
variable {prog:U8}{w:W5}{A:Y6}{E:U2}{s:U7}
end
end HT
namespace L2
section
variable {X:Cx}
end
section
variable {X:Cx}{k:Nat}{x:Str}{ps ks:W4}{sp:Sp}{p pos:Pos}{e:Expr}{es:List Expr}{t tk:TA}{dvs:List V}{gV:List V->List V->List V}{kws:List Keyword}
end
end L2
namespace Pt
open L2
noncomputable def isI:V->Bool
 | .int _=>true
 | _=>false
structure Part (K:U0) (H:Hp) (v:V):Prop where
 ex:∃t b1 b2,Bk K H v t/\PySem.W.kitOne K t (.type "int")=some b1/\PySem.W.kitOne K t (.type "bool")=some b2/\(b1 && !b2)=isI v
theorem Fp(K:U0):PySem.W.kitOne K (.type "tuple") (.type "tuple")=some true:=by unfold PySem.W.kitOne;rw[if_pos (by decide)]
section
variable {K:U0}{H:Hp}
theorem Part.int(i:Int):Part K H (.int i):=⟨_,true,false,.int i,vU K,vR K,U⟩
theorem Part.bl(b:Bool):Part K H (.bl b):=⟨_,true,true,.bl b,by with_unfolding_all rfl,X6i K,U⟩
theorem Part.non:Part K H .non:=⟨_,false,false,.non,by with_unfolding_all rfl,by with_unfolding_all rfl,U⟩
end
def jV (K:U0):Sp:=λvs H Q _=>∃v,vs=[v]/\Part K H v/\Q (.bl (isI v)) H
end Pt
namespace L2
theorem Aj.imp{P:U8}{w:W5}{K:U0}{mg:U4}{base:Heap}{k:Nat}{x:Str}{ps:W4}{sp sp':Sp}(c:Aj P w K mg base k x ps sp)(h:∀vs H Q E,sp' vs H Q E->sp vs H Q E):Aj P w K mg base k x ps sp' :=
 let ⟨f,fd,F,r⟩:=c.ex
 ⟨f,fd,F.imp h,r⟩
end L2
namespace Av
open L2 Am Pc Ba Hw
open Lk hiding Hy
open Pt hiding Fp
variable{K:U0}{H H':Hp}{v:V}
theorem Bk.same{t:W8}(ty:Bk K H v t)(s:Same H H'):Bk K H' v t:=by
 cases ty with
 | non=>exact .non
 | bl b=>exact .bl b
 | int i=>exact .int i
 | str x=>exact .str x
 | flt x=>exact .flt x
 | lst e=>exact .lst (s _ _ e)
 | frz e=>exact .frz (s _ _ e)
 | tup e=>exact .tup (s _ _ e)
 | dK e=>exact .dK (s _ _ e)
 | dT e=>exact .dT (s _ _ e)
 | ins e cl ha hn htk hm=>exact .ins (s _ _ e) cl ha hn htk hm
theorem Part.same(p:Part K H v)(s:Same H H'):Part K H' v:=by
 obtain⟨t,d,c,ty,e,a,b⟩:=p;exact⟨t,d,c,Bk.same ty s,e,a,b⟩
noncomputable def Mx:V->Bool
 | .int i=>decide (0<=i/\i<=3)
 | _=>false
noncomputable def Jo (n:Nat):V->Bool
 | .int i=>decide (0<=i/\i<((2^n:Nat):Int))
 | _=>false
inductive Tells (K:U0) (H:Hp) (n:Nat):V->Bool->Prop where
 | odd {v:V}{t:W8} (ty:Bk K H v t) (e:PySem.W.kitOne K t (.type "tuple")=some false):Tells K H n v false
 | many {p:Y9}{xs:List V} (e:H p=some (.tup xs)) (l:xs.length≠3):Tells K H n (.ref p) false
 | three {p:Y9}{x y z:V} (e:H p=some (.tup [x,y,z])) (hx:Part K H x) (hy:Part K H y) (hz:Part K H z):Tells K H n (.ref p) (Mx x && (Jo n y && Jo n z))
variable{n:Nat}{b:Bool}
theorem Tells.same(t:Tells K H n v b)(s:Same H H'):Tells K H' n v b:=by
 cases t with
 | odd ty e=>exact .odd (Bk.same ty s) e
 | many e l=>exact .many (s _ _ e) l
 | three e hx hy hz=>exact .three (s _ _ e) (Part.same hx s) (Part.same hy s) (Part.same hz s)
theorem Tells.mark{K:U0}{H:Hp}{n:Nat}{p:Y9}{q f s:Nat}(e:H p=some (M3 q f s))(hq:q<4)(hf:f<2^n)(hs:s<2^n):Tells K H n (.ref p) true:=by
 have t:=Tells.three (K:=K) (n:=n) e (Part.int _) (Part.int _) (Part.int _);have b:Mx (.int (q:Nat))=true:=DK ⟨by lia,by lia⟩;have c:Jo n (.int (f:Nat))=true:=DK ⟨by lia,by lia⟩;have a:Jo n (.int (s:Nat))=true:=DK ⟨by lia,by lia⟩;rw[b,c,a]at t;exact t
noncomputable def RM (q f s:Nat):Bool:=decide ((q+pc (f&&&s))%2=0)
inductive Br (K:U0) (H:Hp) (n:Nat):V->Bool->Prop where
 | no {v:V} (t:Tells K H n v false):Br K H n v false
 | mark {p:Y9}{q f s:Nat} (e:H p=some (M3 q f s)) (hq:q<4) (hf:f<2^n) (hs:s<2^n):Br K H n (.ref p) (RM q f s)
theorem Br.same(t:Br K H n v b)(s:Same H H'):Br K H' n v b:=by
 cases t with
 | no t=>exact .no (t.same s)
 | mark e hq hf hs=>exact .mark (s _ _ e) hq hf hs
def rW (K:U0):Sp:=λvs H Q _=>∃(v:V) (n:Nat),vs=[v,.int n]/\Part K H v/\Q (.bl (Jo n v)) H
def rO (K:U0):Sp:=λvs H Q _=>∃(v:V) (n:Nat) (b:Bool),vs=[v,.int n]/\Tells K H n v b/\Q (.bl b) H
def rK (K:U0):Sp:=λvs H Q _=>∃(p:Y9) (q f s:Nat),vs=[.ref p]/\Ah K H p [.int q,.int f,.int s]/\Q (.bl (RM q f s)) H
def Iw (K:U0):Sp:=λvs H Q _=>∃(v:V) (n:Nat) (b:Bool),vs=[v,.int n]/\Br K H n v b/\Q (.bl b) H
def Xv (K:U0):Sp:=λvs H Q _=>∃(l:Y9) (xs:List V) (c:Nat),vs=[.ref l]/\Ai K H l xs/\xs.length=2^c/\c<=6/\Q (.int c) H
structure Look (H:Hp) (p:Y9) (c q f s:Nat):Prop where
 at_:H p=some (M3 q f s)
 q4:q<4
 fc:f<2^c
 sc:s<2^c
 ev:(q+pc (f&&&s))%2=0
variable{c q f s:Nat}
theorem Look.same{p:Y9}(l:Look H p c q f s)(S:Same H H'):Look H' p c q f s:=⟨S _ _ l.at_,l.q4,l.fc,l.sc,l.ev⟩
theorem Look.tell{p:Y9}(l:Look H p c q f s):Br K H c (.ref p) true:=by
 have t:=Br.mark (K:=K) l.at_ l.q4 l.fc l.sc;rw[show RM q f s=true from DK l.ev]at t;exact t
def Ky (K:U0):Sp:=λvs H Q _=>∃(v:V) (n:Nat),vs=[v,.int n]/\Br K H n v true/\Q .non H
def tQ:Sp:=λvs H Q _=>∃(p:Y9) (a b c d h:Int),vs=[.ref p]/\H p=some (T5 a b c d h)/\0<=h/\∀(r:Y9) (H':Hp) (x y z u g:Int),Same H H'->H' r=some (T5 x y z u g)->Red a b c d (h+1) x y z u g->Q (.ref r) H'
def jA:Sp:=λvs H Q _=>∃(l p:Y9) (ps:U3) (f:Nat->A5) (c n m q fl s o:Nat),vs=[.ref l,.ref p,.int o]/\Bd H l ps f c n m/\c<=6/\n<=100000/\m<=10000/\H p=some (M3 q fl s)/\fl<2^c/\o<2/\∀(r:Y9) (H':Hp) (qs:U3) (g:Nat->A5),H r=none->Same H H'->Bd H' r qs g c (n+2*m+2) (m+1)->Jf q fl s (sg o) (2^c) f g->Q (.ref r) H'
def jW:Sp:=λvs H Q _=>∃(l:Y9) (ps:U3) (f:Nat->A5) (c n m:Nat),vs=[.ref l]/\Bd H l ps f c n m/\c<=6/\∀(b:Bool) (H':Hp),Same H H'->(b=true↔∀i,i<2^c->f i=nought)->Q (.bl b) H'
theorem qY{x y t z:A5}{s:Int}(x0:0<=x.2)(y0:0<=y.2)(sm:Sum x.1.1 x.1.2.1 x.1.2.2.1 x.1.2.2.2 x.2 (s*y.1.1) (s*y.1.2.1) (s*y.1.2.2.1) (s*y.1.2.2.2) y.2 t.1.1 t.1.2.1 t.1.2.2.1 t.1.2.2.2 t.2)(rd:Red t.1.1 t.1.2.1 t.1.2.2.1 t.1.2.2.2 (t.2+1) z.1.1 z.1.2.1 z.1.2.2.1 z.1.2.2.2 z.2):Bh s x y z:=by
 have f:0<=t.2:=sm.amt.nn;have c:0<=z.2:=rd.amt.nn;obtain⟨M,k1,k2,k3⟩:∃M:Int,x.2+y.2<=M/\t.2+1<=M/\z.2<=M:=⟨max (x.2+y.2) (max (t.2+1) z.2),by lia,by lia,by lia⟩;have g:p2 (M-x.2)=p2 (M-(x.2+y.2))*p2 y.2:=by rw[<-Ih (by lia) y0];congr 1;lia
 have d:p2 (M-y.2)=p2 (M-(x.2+y.2))*p2 x.2:=by rw[<-Ih (by lia) x0];congr 1;lia
 have e:p2 (M-t.2)=2*p2 (M-(t.2+1)):=by
  rw[show M-t.2=(M-(t.2+1))+1 by lia,Ih (by lia) (by decide),show p2 1=2 from rfl,JB]
 have v1:=qD (x:=((x.1.1*p2 y.2+s*y.1.1*p2 x.2,x.1.2.1*p2 y.2+s*y.1.2.1*p2 x.2,x.1.2.2.1*p2 y.2+s*y.1.2.2.1*p2 x.2,x.1.2.2.2*p2 y.2+s*y.1.2.2.2*p2 x.2),x.2+y.2)) (y:=t) (M:=M) (by show 0<=x.2+y.2;lia) f k1 (by lia) sm.same;have v2:=qD (x:=(t.1,t.2+1)) (y:=z) (M:=M) (by show 0<=t.2+1;lia) c k2 k3 rd.same;refine Bh.of (M:=M) rd.amt x0 y0 (by lia) (by lia) k3 ?_;rw[<-v2];have q:∀{a b tt:Int},(a*p2 y.2+s*b*p2 x.2)*p2 (M-(x.2+y.2))=tt*p2 (M-t.2)->2*(tt*p2 (M-(t.2+1)))=a*p2 (M-x.2)+s*(b*p2 (M-y.2)):=λ{a b tt} h=>by
  rw[e]at h;rw[g,d];grind
 exact Jd (q (congrArg (λt:V4=>t.1) v1)) (q (congrArg (λt:V4=>t.2.1) v1)) (q (congrArg (λt:V4=>t.2.2.1) v1)) (q (congrArg (λt:V4=>t.2.2.2) v1))
theorem X3v{i:Int}(h:0<=i):((Builtin.Int.intBits i:Nat):Int)<=n↔i<((2^n:Nat):Int):=by
 unfold Builtin.Int.intBits;by_cases h0:i=0
 ·subst h0;have:=Ji n;rw[show ((0:Int) == 0)=true from rfl,if_pos rfl];constructor<;>intro<;>lia
 ·have b:(i == 0)=false:=by simpa using h0
  rw[b];have a:i.natAbs≠0:=by lia
  have:=S_ (k:=n) a;simp only[K9,JZ];constructor
  ·intro z;have:i.natAbs.log2<n:=by lia
   rw[S_ a]at this;lia
  ·intro z;have:i.natAbs<2^n:=by lia
   rw[<-S_ a]at this;lia
theorem jD(h:c<=6):Builtin.Int.intBits (((2^c:Nat):Int))=c+1:=by
 rcases (show c=0\/c=1\/c=2\/c=3\/c=4\/c=5\/c=6 by lia) with rfl | rfl | rfl | rfl | rfl | rfl | rfl<;>decide
theorem uG(x y:Nat):[V.int (Builtin.bitAnd (x:Int) (y:Int))]=[V.int ((x&&&y:Nat):Int)]:=by rw[V7]
variable{f:Nat->A5}
theorem Du.iff{bs:List Bool}(h:Du f n bs):bs.all id=true↔∀i,i<n->f i=((0,0,0,0),0):=by
 unfold Du at h;subst h;rw[Wf];constructor
 ·intro a i hi;have:=a _ (GF.mpr ⟨i,Em.mpr hi,U⟩);exact M5.mp (Uc this)
 ·intro a x c;obtain⟨j,b,e⟩:=GF.mp c;rw[<-e];exact DK (M5.mpr (a j (Em.mp b)))
variable{l aZ acc:Y9}{ps:U3}{fr:L2.St}{H1:Hp}{Q:VK}
theorem X3d(kZ:∀H,Ah K H aZ ([0,0,0,0,0].map V.int))(hl:H1 l=some (.lst (ps.map V.ref)))(l64:ps.length<=64)(v:Bj H1 ps f)(hacc:H1 acc=none)
  (hd:∀H2 bs,Same H1 H2->H2 acc=some (.lst (bs.map V.bl))->Du f ps.length bs->Q (.ref acc) H2):IV (KZ K l) (CQ 0) (Ej (HW K false) (B_ 0) (tC (.ref aZ))) (none::fr) H1 acc Q:=by
 refine M_ (K:=K) (a:=l) (xs:=ps.map V.ref) (fr:=fr) (λi ys H'=>Same H1 H'/\H' acc=some (.lst ys)/\∃bs:List Bool,ys=bs.map V.bl/\Du f i bs) (by rw[BL];exact Lx l64) ⟨Aw hacc _,Al,[],U,.nil⟩ (λi ys H' e=>Ai.of (e.1 _ _ hl)) ?_ ?_
 ·rintro i x ys H2 N g j ⟨c,d,bs,rfl,b⟩ h;rw[Cp]at g;obtain⟨p,hp,rfl⟩:=Dm.mp g;refine⟨_,U,p,aZ,l5 (f i),[0,0,0,0,0],U,U,Ah.of (c _ _ (v i p hp)),kZ _,h _ _ d ⟨El c hacc,Al,bs++[decide (l5 (f i)=[0,0,0,0,0])],?_,b.snoc⟩⟩;rw[Dj];rfl
 ·rintro ys H2 j ⟨c,d,bs,rfl,b⟩;rw[BL]at b;exact hd H2 bs c d b
variable{te:TE}
theorem pK{l':Y9}{ps':U3}{f':Nat->A5}{g:TG}(R:Nat->A5->Prop)(n' m':Nat)(h1:H1 l=some (.lst (ps.map V.ref)))(h2:H1 l'=some (.lst (ps'.map V.ref)))(len1:ps.length=2^c)(len2:ps'.length=2^c)(v1:Bj H1 ps f)(v2:Bj H1 ps' f')(c6:c<=6)(hacc:H1 acc=none)
  (hg:∀{a:Y9}{x y:V}{w1 d:Option V}{H:Hp}{Q:L2.St->Hp->Prop},H a=some (.tup [x,y])->Q [some x,some y] H->g (.ref a) [w1,d] H Q)
  (hs:∀i p p' H (N:V->Hp->Prop),H p=some (tA (f i))->H p'=some (tA (f' i))->i<2^c->Same H1 H->(∀r k z,Same H k->k r=some (tA z)->Gh n' m' z->R i z->N (.ref r) k)->te [some (.ref p),some (.ref p')] H N)
  (hd:∀H2 b g,Same H1 H2->Bd H2 acc b g c n' m'->(∀i,i<2^c->R i (g i))->Q (.ref acc) H2):IV (WK false false K l l') g te [none,none] H1 acc Q:=by
 have F:=Hr c6;refine pL (t1:=false) (t2:=false) (K:=K) (l1:=l) (l2:=l') (xs:=ps.map V.ref) (ys:=ps'.map V.ref) (fr:=[]) (λi ys H'=>∃(b:U3) (g:Nat->A5),Same H1 H'/\H' acc=some (.lst ys)/\ys=b.map V.ref/\b.length=i/\Bj H' b g/\∀j,j<i->Gh n' m' (g j)/\R j (g j)) (by rw[BL,BL,len1,len2]) (by rw[BL,len1];exact Lx F)
  ⟨[],λ_=>((0,0,0,0),0),Aw hacc _,Al,U,U,(λ_ _ z=>by cases z),λj B=>absurd B (JF _)⟩ (λh q=>hg h q) (λi zs H h=>by obtain⟨_,_,s,_⟩:=h;exact⟨Ai.of (s _ _ h1),Ai.of (s _ _ h2)⟩) ?_ ?_
 ·rintro i x y zs H T N C D O ⟨b,g',A,u,rfl,n,d,m⟩ M J;rw[Cp]at C D;obtain⟨p,hp,rfl⟩:=Dm.mp C;obtain⟨p',w,rfl⟩:=Dm.mp D;have hi:i<2^c:=by
   have:=(DW.mp hp).1;rw[len1]at this;exact this
  have v:=Aw M (.tup [.ref p,.ref p']);have t:=A.trans v;refine hs i p p' _ N (t _ _ (v1 i p hp)) (t _ _ (v2 i p' w)) hi t λr k z o L G E=>J (.ref r) k (o _ _ (v _ _ u)) ⟨b++[r],λj=>if j=b.length then z else g' j,El (t.trans o) hacc,Al,by rw[Dj];rfl,by simp[n],V2 (oO d (v.trans o) L) (o _ _ (v _ _ u)),λj B=>?_⟩;show Gh n' m' (if j=b.length then z else g' j)/\R j (if j=b.length then z else g' j);split
  ·rename_i e;rw[e,n];exact⟨G,E⟩
  ·rename_i e;exact m j (by lia)
 ·rintro zs H2 I ⟨b,g',A,u,rfl,n,d,m⟩;rw[BL,len1]at n m;exact hd H2 b g' A ⟨u,n,d,λi hi=>(m i hi).1⟩ λi hi=>(m i hi).2
section
variable {P:U8}{w:W5}{K:U0}{mg:U4}{base:Heap}{k:Nat}{h:Heap}
theorem Y2d(F:Ab K "is_whole" (top 14) .none)(X:K.In h)(G:Ng h mg)(B:Bs mg):Aj P w K mg base (k+1) "is_whole" ["thing"] (jV K):=by
 refine F.cal X G ["thing"] λf H vs Q E g h=>?_;obtain⟨v,rfl,⟨t,d,c,ty,e,b,a⟩,q⟩:=h;refine⟨_,(@Aq _ _ _ (BW (Lh (Bm KQ rfl B.isinstance FJ (Aa (pv 0) (Aa (Je (v:=.ty "int") rfl B.int boot_int rfl) Ae))) (KH (pP (Bm KQ rfl B.isinstance FJ (Aa (pv 0) (Aa (Je (v:=.ty "bool") rfl B.bool boot_bool rfl) Ae)))))))),?_⟩;try dsimp only[Bv]
 refine⟨_,U,_,_,_,d,U,ty,e,_,U,iI (λz=>?_) (λz=>?_)⟩
 ·subst z;refine⟨_,U,_,_,_,c,U,ty,b,_,U,?_⟩;rw[TY]at a;rw[a];exact q
 ·subst z;rw[Mt]at a;rw[a];exact q
theorem Y4v(F:Ab K "is_word" (top 35) .none)(X:K.In h)(G:Ng h mg)(c8:Aj P w K mg base k "is_whole" ["thing"] (jV K)):Aj P w K mg base (k+1) "is_word" ["thing","cells"] (rW K):=by
 refine F.cal X G ["thing","cells"] λc H vs Q E b h=>?_;obtain⟨v,n,rfl,pt,q⟩:=h
 refine⟨_,(@Ao _ _ _ _ _ (Cd (Ec (PW.pt (MN (Cr (A_ c8 b rfl (Aa (pv 0) Ae))) (QW (Cr (A_ c8 b rfl (Aa (pv 1) Ae)))))))
   (@Aq _ _ _ (BW Ef))
   Ce)
  (@Aq _ _ _ (BW (Lh (Gu X8 (pv 0) Ac (Ad _)) (KH (Gu kE (ju Zx W_ aK jR (pv 0)) (pv 1) (Ad _))))))),?_⟩
 try dsimp only[Bv]
 refine⟨_,U,v,U,pt,_,U,iI (λz=>?_) (λz=>?_)⟩
 ·refine⟨_,U,_,U,Part.int n,_,U,Ay ?_⟩;cases v with
  | int i =>
   refine⟨_,U,_,_,U,U,_,U,Ca (λa=>?_) (λa=>?_)⟩
   ·refine⟨_,U,U,_,U,U,_,U,_,_,U,U,?_⟩;have e:decide (((Builtin.Int.intBits i:Nat):Int)<=n)=Jo n (.int i):=by
     show _=decide _;rw[decide_eq_decide,X3v a];exact⟨λz=>⟨a,z⟩,λz=>z.2⟩
    show Q (.bl (decide (((Builtin.Int.intBits i:Nat):Int)<=n))) H;rw[e];exact q
   ·have e:Jo n (.int i)=false:=Dl λz=>a z.1;rw[e]at q;exact q
  | _=>cases z
 ·have e:Jo n v=false:=by cases v<;>first | rfl | cases z
  rw[e]at q;exact Df q
theorem Y4w(F:Ab K "is_mark" (top 36) .none)(X:K.In h)(G:Ng h mg)(B:Bs mg)(c8:Aj P w K mg base k "is_whole" ["thing"] (jV K))(dF:Aj P w K mg base k "is_word" ["thing","cells"] (rW K)):Aj P w K mg base (k+1) "is_mark" ["thing","cells"] (rO K):=by
 refine F.cal X G ["thing","cells"] λg H vs Q E a h=>?_;obtain⟨v,n,b,rfl,tl,q⟩:=h
 refine⟨_,(@Ao _ _ _ _ _ (Cd (PW.pt (Eh (Ec (Cr (Bm KQ rfl B.isinstance FJ (Aa (pv 0) (Aa (Je (v:=.ty "tuple") rfl B.tuple Qo rfl) Ae))))) (Gg (Cg Lg (Bm Fb rfl B.len FP (Aa (pv 0) Ae)) Ac (Ad _)))))
   (@Aq _ _ _ (BW Ef))
   Ce)
  (@Ao _ _ _ _ _ (Cd (PW.pt (Eh (Ec (Cr (A_ c8 a rfl (Aa (Ak Ax (pv 0) Ac (λ_ _=>rfl)) Ae)))) (Eh (Cg QH (Ak Ax (pv 0) Ac (λ_ _=>rfl)) Ac (Ad _)) (Gg (Cg MK (Ak Ax (pv 0) Ac (λ_ _=>rfl)) Ac (Ad _))))))
   (@Aq _ _ _ (BW Ef))
   Ce)
  (@Aq _ _ _ (BW (Lh (A_ dF a rfl (Aa (Ak Ax (pv 0) Ac (λ_ _=>rfl)) (Aa (pv 1) Ae))) (KH (A_ dF a rfl (Aa (Ak Ax (pv 0) Ac (λ_ _=>rfl)) (Aa (pv 1) Ae))))))))),?_⟩
 try dsimp only[Bv]
 cases tl with
 | odd ty e=>exact⟨_,rfl,_,_,_,false,rfl,ty,e,_,rfl,Df q⟩
 | @many p xs e l=>exact⟨_,rfl,_,_,_,true,rfl,Bk.tup e,Ba.Fp K,_,rfl,Ay ⟨_,rfl,p,_,rfl,.inr (Ah.of e),rfl,_,rfl,J_ (λ_=>q) (λz=>absurd z (by lia))⟩⟩
 | @three p x y z e hx hy hz =>
  have S:Ah K H p [x,y,z]:=Ah.of e;refine⟨_,U,_,_,_,true,U,Bk.tup e,Ba.Fp K,_,U,Ay ⟨_,U,p,_,U,.inr S,U,_,U,J_ (λz=>absurd rfl z) (λ_=>?_)⟩⟩;refine⟨_,U,p,_,_,_,U,U,S,U,x,U,hx,_,U,Mz (λc=>?_) (λc=>?_)⟩
  ·have e:Mx x=false:=by cases x<;>first | rfl | cases c
   rw[e,Mt]at q;exact q
  cases x with
  | int i =>
   refine⟨_,U,p,_,_,_,U,U,S,U,_,_,U,U,_,U,Ca (λf=>?_) (λf=>?_)⟩
   ·have e:Mx (.int i)=false:=Dl λz=>by lia
    rw[e,Mt]at q;exact q
   refine⟨_,U,p,_,_,_,U,U,S,U,_,_,U,U,_,U,Ca (λd=>?_) (λd=>?_)⟩
   ·have e:Mx (.int i)=false:=Dl λz=>by lia
    rw[e,Mt]at q;exact q
   have e:Mx (.int i)=true:=DK ⟨by lia,by lia⟩;rw[e,TY]at q;refine⟨_,U,p,_,_,_,U,U,S,U,_,U,y,n,U,hy,_,U,iI (λc=>?_) (λc=>?_)⟩
   ·rw[c,TY]at q;exact⟨_,U,p,_,_,_,U,U,S,U,_,U,z,n,U,hz,q⟩
   ·rw[c,Mt]at q;exact q
  | _=>cases c
theorem Y4x(F:Ab K "is_even" (top 37) .none)(X:K.In h)(G:Ng h mg)(dP:Aj P w K mg base k "ones" ["number"] Fe):Aj P w K mg base (k+1) "is_even" ["mark"] (rK K):=by
 refine F.cal X G ["mark"] λd H vs Q f c h=>?_;obtain⟨p,b,a,ms,rfl,SP,q⟩:=h;refine⟨_,(@Aq _ _ _ (BW (Gu HF (Af Dv (Af C_ (Ak Ax (pv 0) Ac (λ_ _=>rfl)) (A_ dP c rfl (Aa (Af RP (Ak Ax (pv 0) Ac (λ_ _=>rfl)) (Ak Ax (pv 0) Ac (λ_ _=>rfl))) Ae))) Ac) Ac (Ad _)))),?_⟩;try dsimp only[Bv]
 refine⟨_,U,p,_,_,_,U,U,SP,U,_,U,p,_,_,_,U,U,SP,U,_,U,p,_,_,_,U,U,SP,U,_,_,U,U,a&&&ms,uG _ _,_,_,U,U,_,_,U,U,aP,U,?_⟩;show Q (.bl (decide (V.int (((b:Int)+((pc (a&&&ms):Nat):Int))%2)=V.int 0))) H;have e:decide (V.int (((b:Int)+((pc (a&&&ms):Nat):Int))%2)=V.int 0)=RM b a ms:=by
  unfold RM;rw[decide_eq_decide];constructor
  ·intro z;have:=V.int.inj z;lia
  ·intro z;congr 1;lia
 rw[e];exact q
theorem yp(F:Ab K "is_even_mark" (top 38) .none)(X:K.In h)(G:Ng h mg)(eF:Aj P w K mg base k "is_mark" ["thing","cells"] (rO K))(eE:Aj P w K mg base k "is_even" ["mark"] (rK K)):Aj P w K mg base (k+1) "is_even_mark" ["thing","cells"] (Iw K):=by
 refine F.cal X G ["thing","cells"] λc H vs Q d a h=>?_;obtain⟨v,n,b,rfl,t,q⟩:=h;refine⟨_,(@Aq _ _ _ (BW (Lh (A_ eF a rfl (Aa (pv 0) (Aa (pv 1) Ae))) (KH (A_ eE a rfl (Aa (pv 0) Ae)))))),?_⟩;try dsimp only[Bv]
 cases t with
 | no t=>exact⟨_,rfl,_,rfl,v,n,false,rfl,t,_,rfl,Ay q⟩
 | @mark p mq mf ms e hq hf hs=>exact⟨_,rfl,_,rfl,_,n,true,rfl,Tells.mark e hq hf hs,_,rfl,Df ⟨_,rfl,p,mq,mf,ms,rfl,Ah.of e,q⟩⟩
theorem Y2f(F:Ab K "cells_of" (top 41) .none)(X:K.In h)(G:Ng h mg)(B:Bs mg):Aj P w K mg base (k+1) "cells_of" ["board"] (Xv K):=by
 refine F.cal X G ["board"] λd H vs Q E e h=>?_;obtain⟨l,xs,c,rfl,a,len,b,q⟩:=h;refine⟨_,(@Aq _ _ _ (BW (Af Fy (ju Zx W_ aK jR (Bm Fb rfl B.len FP (Aa (pv 0) Ae))) Ac))),?_⟩;try dsimp only[Bv]
 refine⟨_,U,l,_,U,.inl a,U,_,U,U,_,_,U,U,?_⟩;show Q (.int (((Builtin.Int.intBits ((xs.length:Nat):Int):Nat):Int)-1)) H;rw[len,jD b,show (((c+1:Nat):Int)-1)=(c:Int) by lia];exact q
theorem K4:Ck ["mark","cells"] ["mark","cells"] (DX (top 47)):=fS
theorem X5t(F:Ab K "check_look" (top 47) .none)(X:K.In h)(G:Ng h mg)(cK:Aj P w K mg base k "is_even_mark" ["thing","cells"] (Iw K)):Aj P w K mg base (k+1) "check_look" ["mark","cells"] (Ky K):=by
 refine F.cal X G _ (S:=K4) λb H vs Q c a h=>?_;obtain⟨v,n,rfl,t,q⟩:=h
 refine⟨_,(@Aq _ _ _ (Cd (Ec (Cr (A_ cK a rfl (Aa (pv 0) (Aa (pv 1) Ae)))))
   (@Aq _ _ _ Vy)
   Ce)),?_⟩
 try dsimp only[Bv]
 exact⟨_,U,_,U,v,n,true,U,t,_,U,Ay q⟩
theorem _9(F:Ab K "halved" (top 49) .none)(X:K.In h)(G:Ng h mg)(cD:Aj P w K mg base k "halved_out" ["a","b","c","d","h"] Gi):Aj P w K mg base (k+1) "halved" ["one"] tQ:=by
 refine F.cal X G ["one"] λf H vs Q i e h=>?_;obtain⟨p,a,b,c,d,h,rfl,hp,g,q⟩:=h;have S:Ah K H p [.int a,.int b,.int c,.int d,.int h]:=Ah.of hp;refine⟨_,(@Aq _ _ _ (BW (A_ cD e rfl (Aa (Ak Ax (pv 0) Ac (λ_ _=>rfl)) (Aa (Ak Ax (pv 0) Ac (λ_ _=>rfl)) (Aa (Ak Ax (pv 0) Ac (λ_ _=>rfl)) (Aa (Ak Ax (pv 0) Ac (λ_ _=>rfl)) (Aa (Af C_ (Ak Ax (pv 0) Ac (λ_ _=>rfl)) Ac) Ae)))))))),?_⟩;try dsimp only[Bv]
 exact⟨_,U,p,_,_,_,U,U,S,U,_,U,p,_,_,_,U,U,S,U,_,U,p,_,_,_,U,U,S,U,_,U,p,_,_,_,U,U,S,U,_,U,p,_,_,_,U,U,S,U,_,_,U,U,a,b,c,d,h+1,U,by lia,q⟩
theorem yj(F:Ab K "half_left" (top 48) .none)(X:K.In h)(G:Ng h mg)(B:Bs mg)(eH:Aj P w K mg base k "laid_on" ["board","mark"] Ks)(cW:Aj P w K mg base k "plus" ["one","other"] (Xg K))(eM:Aj P w K mg base k "minus" ["one","other"] rP)(dN:Aj P w K mg base k "halved" ["one"] tQ):Aj P w K mg base (k+1) "half_left" ["board","mark","outcome"] jA:=by
 refine F.cal X G ["board","mark","outcome","laid"] λnd H vs Q E' E h=>?_;obtain⟨l,p,ps,f,c,n,m,q,fl,ms,o,rfl,e,c6,n1,m1,hp,hf,o2,kq⟩:=h
 refine⟨_,(@Ao _ _ _ _ _ (@BR _ _ 3 _ _ _ _ nd rfl (Or.inl rfl) (A_ eH E rfl (Aa (pv 0) (Aa (pv 1) Ae))) rfl (.inl rfl))
  (@Ao _ _ _ _ _ (Cd (Cg HF (pv 2) Ac (Ad _))
   (@Aq _ _ _ (BW (GZ rfl (BZ.of (Nc:=["one","other"]) (mp:=[none,none]) (by kernel_rfl)) (YZ false false rfl B.zip (Aa (pv 0) (Aa (pv 3) Ae))) (λ_ _ _ _=>(Rk rfl (show (["one","other"]:W4).Nodup by decide +kernel) rfl rfl rfl rfl)) (λ_ _ _ _=>(A_ dN E rfl (Aa (A_ cW E rfl (Aa (pv 0) (Aa (pv 1) Ae))) Ae))))))
   Ce)
  (@Aq _ _ _ (BW (GZ rfl (BZ.of (Nc:=["one","other"]) (mp:=[none,none]) (by kernel_rfl)) (YZ false false rfl B.zip (Aa (pv 0) (Aa (pv 3) Ae))) (λ_ _ _ _=>(Rk rfl (show (["one","other"]:W4).Nodup by decide +kernel) rfl rfl rfl rfl)) (λ_ _ _ _=>(A_ dN E rfl (Aa (A_ eM E rfl (Aa (pv 0) (Aa (pv 1) Ae))) Ae)))))))),?_⟩
 try dsimp only[Bv]
 refine⟨_,U,_,U,l,ps,f,c,p,q,fl,ms,U,e.lst,e.vals,e.len,c6,hp,hf,λr H1 qs a0 D M ql v1=>?_⟩;have a:=e.same D;have I:Bj H1 qs (BP q fl ms f):=v1;have L:∀i,i<2^c->Gh n m (BP q fl ms f i):=λi hi=>jr (v:=(f (i^^^fl)).1) (h:=(f (i^^^fl)).2) (e.ok _ (Yg hi hf)) _;refine⟨_,U,U,_,U,Jr (λo0=>?_) (λo0=>?_)⟩
 ·have oo:o=0:=by lia
  subst oo;refine⟨_,U,_,U,l,r,_,_,U,Ai.of a.lst,Ai.of M,λacc b=>?_⟩;refine pK (K:=K) (λi z=>Bh 1 (f i) (BP q fl ms f i) z) (n+2*m+2) (m+1) a.lst M a.len ql a.vals I c6 b (λZ R=>⟨_,_,U,Ah.of Z,U,_,_,U,_,_,U,U,R⟩) (λi p1 j H2 N e2 s hi C V=>?_) (λH2 A g C Y r2=>kq acc H2 A g (sU D b) (D.trans C) Y r2);have oi:=e.ok i hi;have ol:=L i hi;have J:0<=(f i).2:=oi.amt.nn;have l0:0<=(BP q fl ms f i).2:=ol.amt.nn;have im:=oi.le;have lm:=ol.le;refine⟨_,U,_,U,n,p1,j,_,_,_,_,_,_,_,_,_,_,⟨U,Ah.of e2,s,J,l0,by lia,by lia,oi.sz,ol.sz⟩,λS H3 x y z u g s3 O sm sz=>?_⟩;refine⟨S,x,y,z,u,g,U,O,sm.amt.nn,λr4 H4 x' y' W u' g' T e4 d=>V r4 H4 ((x',y',W,u'),g') (s3.trans T) e4 ⟨(d.sz sz).mono (by lia),d.amt,?_⟩ ?_⟩
  ·have:=d.le;have:=sm.le;show g'<=((m+1:Nat):Int);lia
  ·refine qY (t:=((x,y,z,u),g)) J l0 ?_ d;simp only[PX];exact sm
 ·have oo:o=1:=by lia
  subst oo;refine⟨_,U,_,U,l,r,_,_,U,Ai.of a.lst,Ai.of M,λacc b=>?_⟩;refine pK (K:=K) (λi z=>Bh (-1) (f i) (BP q fl ms f i) z) (n+2*m+2) (m+1) a.lst M a.len ql a.vals I c6 b (λZ R=>⟨_,_,U,Ah.of Z,U,_,_,U,_,_,U,U,R⟩) (λi p1 j H2 N e2 s hi C V=>?_) (λH2 A g C Y r2=>kq acc H2 A g (sU D b) (D.trans C) Y r2);have oi:=e.ok i hi;have ol:=L i hi;have J:0<=(f i).2:=oi.amt.nn;have l0:0<=(BP q fl ms f i).2:=ol.amt.nn;have im:=oi.le;have lm:=ol.le;refine⟨_,U,_,U,n,p1,j,_,_,_,_,_,_,_,_,_,_,⟨U,e2,s,J,l0,by lia,by lia,oi.sz,ol.sz⟩,λS H3 x y z u g s3 O sm sz=>?_⟩;refine⟨S,x,y,z,u,g,U,O,sm.amt.nn,λr4 H4 x' y' W u' g' T e4 d=>V r4 H4 ((x',y',W,u'),g') (s3.trans T) e4 ⟨(d.sz sz).mono (by lia),d.amt,?_⟩ ?_⟩
  ·have:=d.le;have:=sm.le;show g'<=((m+1:Nat):Int);lia
  ·refine qY (t:=((x,y,z,u),g)) J l0 ?_ d;simp only[XQ,PX];exact sm
theorem X2q(gZ:mg "NOUGHT"=some (.ref aZ))(kZ:∀H,Ah K H aZ ([0,0,0,0,0].map V.int))(F:Ab K "is_nothing" (top 50) .none)(X:K.In h)(G:Ng h mg)(B:Bs mg):Aj P w K mg base (k+1) "is_nothing" ["amounts"] jW:=by
 refine F.cal X G ["amounts"] λq H vs Q r p h=>?_;obtain⟨l,ps,f,c,n,m,rfl,a,e,g⟩:=h;refine⟨_,(@Aq _ _ _ (BW (Bm (Rm rfl) rfl B.all RK (Aa (GZ rfl (BZ.of (Nc:=["one"]) (mp:=[none]) (by kernel_rfl)) (Es (pv 0)) (λ_ _ _ _=>(Bq (i:=0) (show (["one"]:W4).Nodup by decide +kernel) rfl (Or.inl rfl))) (λ_ _ _ _=>(Gu (jJ p.units) (pv 0) (iZ (v:=.ref aZ) rfl gZ rfl) (Ad _)))) Ae)))),?_⟩;try dsimp only[Bv]
 refine⟨_,U,l,U,⟨_,Ai.of a.lst⟩,λacc b=>X3d (fr:=[]) kZ a.lst (by rw[a.len];exact Hr e) a.vals b λH2 bs j o d=>?_⟩;rw[a.len]at d;exact⟨acc,bs,U,Ai.of o,g _ H2 j d.iff⟩
theorem Vp{a b c d:Int}(h:([a,b,c,d].map λn=>decide (V.int (n%2)=V.int 1)).any id=false):a%2=0/\b%2=0/\c%2=0/\d%2=0:=by
 have e:∀n:Int,decide (V.int (n%2)=V.int 1)=false->n%2=0:=λn z=>by
  have:n%2≠1:=λq=>Wo z (by rw[q]);lia
 simp only[Jh,TQ,List.any_cons,List.any_nil,id,Bool.or_false,Bool.or_eq_false_iff]at h;exact⟨e a h.1,e b h.2.1,e c h.2.2.1,e d h.2.2.2⟩
theorem Vo{a b c d:Int}(h:([a,b,c,d].map λn=>decide (V.int (n%2)=V.int 1)).any id=true):a%2=1\/b%2=1\/c%2=1\/d%2=1:=by
 have e:∀n:Int,decide (V.int (n%2)=V.int 1)=true->n%2=1:=λn z=>V.int.inj (Uc z);simp only[Jh,TQ,List.any_cons,List.any_nil,id,Bool.or_false,Wa]at h;rcases h with h | h | h | h
 ·exact .inl (e a h)
 ·exact .inr (.inl (e b h))
 ·exact .inr (.inr (.inl (e c h)))
 ·exact .inr (.inr (.inr (e d h)))
theorem Ol:(0:Int)<1009:=by decide
theorem LQ:(0:Int)<2003:=by decide
theorem Py:(0:Int)<2147483629:=by decide
theorem M8:WL 10 30:=⟨by decide,by decide,by decide⟩
theorem aR:(0:Int)<2*10^(30:Int).toNat+1:=by decide
theorem Yy{z:Int}:Sz 102 (z%(2*10^(30:Int).toNat+1)-10^(30:Int).toNat):=by
 have h1:=JC z (Ms aR);have h2:=Jl z aR;have b:(2*10^(30:Int).toNat+1:Int)<2^102:=by decide +kernel
 have a:(10:Int)^(30:Int).toNat<2^102:=by decide +kernel
 have c:(0:Int)<10^(30:Int).toNat:=by decide +kernel
 unfold Sz;generalize (10:Int)^(30:Int).toNat=T at *;have e:(2:Int)^102=((2^102:Nat):Int):=by decide +kernel
 rw[e]at b a;generalize z%(2*T+1)=y at *;generalize (2^102:Nat)=B at *;lia
theorem WR{x:Int}(h:x.natAbs<2^20)(hn:20<=n):Sz n x:=by
 unfold Sz;exact FQ h (Ib (by decide) hn)
def jM:Sp:=SJ
def tM:Sp:=λvs H Q _=>∃(z:Int) (i:Nat),vs=[.int z,.int i]/\i<=64/\∀(p:Y9) (H':Hp) (x:A5),Same H H'->H' p=some (tA x)->Gh 102 40 x->Q (.ref p) H'
def tO:Sp:=λvs H Q _=>∃z:Int,vs=[.int z]/\∀n:Nat,1<=n->n<=6->Q (.int n) H
def rN:Sp:=λvs H Q _=>∃(z:Int) (n:Nat),vs=[.int z,.int n]/\n<=6/\∀(r:Y9) (H':Hp) (q f s:Nat),Same H H'->Look H' r n q f s->Q (.ref r) H'
def Ku:Sp:=λvs H Q _=>∃(l:Y9) (ps:U3) (f:Nat->A5) (c n m:Nat) (i:Int),vs=[.ref l,.int i]/\i=((2^c:Nat):Int)/\Bd H l ps f c n m/\c<=6/\Ij f c/\∀H',Same H H'->Q (.bl true) H'
theorem AskedN.iff:((List.range n).map λj=>!decide (l5 (f j)=[0,0,0,0,0])).any id=true↔∃i,i<n/\f i≠nought:=by
 rw[ZQ];constructor
 ·rintro ⟨b,c,e⟩;obtain⟨j,a,rfl⟩:=GF.mp c;refine⟨j,Em.mp a,λz=>?_⟩;rw[DK (M5.mpr z)]at e;cases e
 ·rintro ⟨j,a,d⟩;refine⟨_,GF.mpr ⟨j,Em.mpr a,U⟩,?_⟩;rw[Dl λz=>d (M5.mp z)];rfl
theorem uO(hl:H1 l=some (.lst (ps.map V.ref)))(l64:ps.length<=64)(v:Bj H1 ps f)(hacc:H1 acc=none)
  (hs:∀p x H (N:V->Hp->Prop),H p=some (tA x)->(∀t,H t=none->N (.bl (!decide (l5 x=[0,0,0,0,0]))) (upd H t (tA ((0,0,0,0),0))))->te (some (.ref p)::fr) H N)
  (hd:∀H2,Same H1 H2->H2 acc=some (.lst (((List.range ps.length).map λj=>!decide (l5 (f j)=[0,0,0,0,0])).map V.bl))->Q (.ref acc) H2):IV (KZ K l) (CQ 0) te (none::fr) H1 acc Q:=by
 refine M_ (K:=K) (a:=l) (xs:=ps.map V.ref) (fr:=fr) (λi ys H'=>Same H1 H'/\H' acc=some (.lst ys)/\ys=((List.range i).map λj=>!decide (l5 (f j)=[0,0,0,0,0])).map V.bl) (by rw[BL];exact Lx l64) ⟨Aw hacc _,Al,U⟩ (λi ys H' e=>Ai.of (e.1 _ _ hl)) ?_ ?_
 ·rintro i x ys H2 N d k ⟨b,c,rfl⟩ h;rw[Cp]at d;obtain⟨p,hp,rfl⟩:=Dm.mp d;refine hs p (f i) H2 N (b _ _ (v i p hp)) λt g=>h _ _ (Aw g _ _ _ c) ⟨El (b.trans (Aw g _)) hacc,Al,?_⟩;rw[N_,Dj,Dj];rfl
 ·rintro ys H2 k ⟨b,c,rfl⟩;rw[BL]at c;exact hd H2 b c
theorem yW{a:Y9}{ns:U6}(f:Int->V)(hl:Ai K H1 a (ns.map V.int))(hn:ns.length<=sizeLine)(hacc:H1 acc=none)(hs:∀n H (N:V->Hp->Prop),n∈ns->Same H1 H->N (f n) H->te (some (.int n)::fr) H N)
  (hd:∀H2,Same H1 H2->H2 acc=some (.lst (ns.map f))->Q (.ref acc) H2):IV (KZ K a) (CQ 0) te (none::fr) H1 acc Q:=by
 refine Vt (n:=ns.length) (val:=λi=>.int (ns.getD i 0)) (λi=>f (ns.getD i 0)) hn hacc (λi H hi s=>?_) (λH s=>⟨_,s.seq hl,by simp⟩) (λi H N hi s b=>hs _ H N (by simp[hi]) s b) (λH2 s h=>hd H2 s (by rw[h,Xu]));have e:(ns.map V.int)[i]?=some (.int (ns.getD i 0)):=by simp[hi]
 refine⟨⟨_,_,s.seq hl,e⟩,λx H' y=>⟨y.1,?_⟩⟩;have:=y.2 _ (s.seq hl);rw[e]at this;exact(Option.some.inj this).symm
theorem Y4u(F:Ab K "_law_lowest" (top 58) .none)(X:K.In h)(G:Ng h mg)(B:Bs mg):Aj P w K mg base (k+1) "_law_lowest" ["_law_parts","_law_h"] jM:=by
 refine F.cal X G ["_law_parts","_law_h"] λT H vs Q E hr h=>?_;obtain⟨l,a,b,c,d,h,rfl,Y,Z,q⟩:=h;have L:Ai K H l ([a,b,c,d].map V.int):=Ai.of Y
 refine⟨_,(@JM _ _ _ _ _ (Cd (PW.pt (MN (Cg HF (Ak Dy (pv 0) Ac (λ_ _=>rfl)) Ac (Ad _)) (MN (Cg HF (Ak Dy (pv 0) Ac (λ_ _=>rfl)) Ac (Ad _)) (MN (Cg HF (Ak Dy (pv 0) Ac (λ_ _=>rfl)) Ac (Ad _)) (QW (Cg HF (Ak Dy (pv 0) Ac (λ_ _=>rfl)) Ac (Ad _)))))))
   (@Aq _ _ _ (BW (@Cq _ _ _ _ _ (Aa Ac (Aa Ac (Aa Ac (Aa Ac (Aa Ac Ae))))))))
   Ce)
  (@Ao _ _ _ _ _ (Vz PassesOwn.never (PW.pt (MN (Cg MK (pv 1) Ac (Ad _)) (QW (Ec (Cr (Bm (jQ rfl) rfl B.any boot_any (Aa (GZ rfl (BZ.of (Nc:=["_law_part"]) (mp:=[none]) (by kernel_rfl)) (Es (pv 0)) (λ_ _ _ _=>(Bq (i:=0) (show (["_law_part"]:W4).Nodup by decide +kernel) rfl (Or.inl rfl))) (λ_ _ _ _=>(Gu HF (Af Dv (pv 0) Ac) Ac (Ad _)))) Ae)))))))
   (@Ao _ _ _ _ _ (Qc (i:=0) rfl T rfl rfl (BZ.of (Nc:=["_law_part"]) (mp:=[none]) (by kernel_rfl)) (Es (pv 0)) (λ_ _ _ _=>(Bq (i:=0) (show (["_law_part"]:W4).Nodup by decide +kernel) rfl (Or.inl rfl))) (λ_ _ _ _=>(Af Hx (pv 0) Ac)) rfl)
   (@Aq _ _ _ (@BR _ _ 1 _ _ _ _ T rfl (Or.inl rfl) (Af Fy (pv 1) Ac) rfl (.inl rfl)))))
  (@Aq _ _ _ (BW (@Cq _ _ _ _ _ (Aa (Ak Dy (pv 0) Ac (λ_ _=>rfl)) (Aa (Ak Dy (pv 0) Ac (λ_ _=>rfl)) (Aa (Ak Dy (pv 0) Ac (λ_ _=>rfl)) (Aa (Ak Dy (pv 0) Ac (λ_ _=>rfl)) (Aa (pv 1) Ae)))))))))),?_⟩
 try dsimp only[Bv]
 refine⟨λσ H'=>H'=H/\σ=[some (.ref l),some (.int h)]/\¬ (a=0/\b=0/\c=0/\d=0),?_,?_⟩
 ·have z5:∀H',Same H H'->a=0->b=0->c=0->d=0->∀p,H' p=none->Q (.ref p) (upd H' p (T5 0 0 0 0 0)):=λH' S j o A f p hp=>by
   subst j o A f;exact q p _ 0 0 0 0 0 (S.trans (Aw hp _)) Al ⟨⟨by lia,.inl rfl⟩,⟨by simp[D_],by simp[D_],by simp[D_],by simp[D_]⟩,BX _,BX _,BX _,BX _,Z⟩
  refine⟨_,U,l,_,_,_,U,U,L,U,U,_,U,Jr (λj=>?_) (λj=>⟨U,U,λz=>j z.1⟩)⟩;refine⟨_,U,l,_,_,_,U,U,L,U,U,_,U,Jr (λo=>?_) (λo=>⟨U,U,λz=>o z.2.1⟩)⟩;refine⟨_,U,l,_,_,_,U,U,L,U,U,_,U,Jr (λA=>?_) (λA=>⟨U,U,λz=>A z.2.2.1⟩)⟩;refine⟨_,U,l,_,_,_,U,U,L,U,U,_,U,Jr (λf=>?_) (λf=>⟨U,U,λz=>f z.2.2.2⟩)⟩;exact⟨t5,λp hp=>z5 H (Same.refl _) j o A f p hp⟩
 rintro σ0 H' ⟨rfl,rfl,_⟩;refine⟨λm σ r=>∃e x y u v g,m=g.toNat/\σ=[some (.ref e),some (.int g)]/\Same H' r/\r e=some (.lst ([x,y,u,v].map V.int))/\Hv a b c d h x y u v g,⟨_,l,a,b,c,d,h,U,U,Same.refl _,Y,⟨U,U,U,U⟩,BX _,BX _,BX _,BX _,GC _,Z⟩,?_⟩;rintro m σ H2 ⟨e,x,y,u,v,g,rfl,rfl,J,l2,D⟩;refine⟨_,U,_,_,U,U,_,U,Ca (λW=>?_) (λW=>?_)⟩
 ·refine⟨_,U,e,U,⟨_,Ai.of l2⟩,λacc s=>?_⟩;refine jH (ns:=[x,y,u,v]) (fr:=[]) (λn=>.bl (decide (V.int (n%2)=V.int 1))) (Ai.of l2) t4 s (λn M N _ R=>?_) (λM C a3=>?_)
  ·exact⟨_,U,_,_,U,U,aP,U,R⟩
  refine⟨acc,[x,y,u,v].map λn=>decide (V.int (n%2)=V.int 1),U,Ai.of (by rw[a3];rfl),_,U,Mz (λc=>?_) (λc=>?_)⟩
  ·have l3:=C _ _ l2;refine⟨_,λ_ _ h=>h,_,U,e,U,⟨_,Ai.of l3⟩,λac I=>?_⟩;refine jH (ns:=[x,y,u,v]) (fr:=[]) (λn=>.int (n / 2)) (Ai.of l3) t4 I (λn M N _ R=>?_) (λH4 s4 a4=>?_)
   ·exact⟨_,U,_,_,U,U,⟨by decide,by decide⟩,R⟩
   refine⟨_,U,_,_,U,U,?_⟩;refine⟨(g-1).toNat,by lia,ac,x / 2,y / 2,u / 2,v / 2,g-1,U,U,J.trans (C.trans s4),a4,D.half W (Vp c)⟩
  ·have l3:Ai K M e ([x,y,u,v].map V.int):=Ai.of (C _ _ l2);refine⟨_,U,e,_,_,_,U,U,l3,U,_,U,e,_,_,_,U,U,l3,U,_,U,e,_,_,_,U,U,l3,U,_,U,e,_,_,_,U,U,l3,U,_,U,t5,λt O=>?_⟩;exact q t _ x y u v g (J.trans (C.trans (Aw O _))) Al (D.red (.inr (Vo c)))
 ·have l3:Ai K H2 e ([x,y,u,v].map V.int):=Ai.of l2;refine⟨_,U,e,_,_,_,U,U,l3,U,_,U,e,_,_,_,U,U,l3,U,_,U,e,_,_,_,U,U,l3,U,_,U,e,_,_,_,U,U,l3,U,_,U,t5,λt O=>?_⟩;exact q t _ x y u v g (J.trans (Aw O _)) Al (D.red (.inl (by have:=D.nn;lia)))
theorem yc(F:Ab K "_law_amount_by" (top 60) .none)(X:K.In h)(G:Ng h mg)(cG:Aj P w K mg base k "_law_lowest" ["_law_parts","_law_h"] jM)(dW:Aj P w K mg base k "_law_spin" ["_law_one","_law_k"] Kh):Aj P w K mg base (k+1) "_law_amount_by" ["_law_cell","_law_k"] tM:=by
 refine F.cal X G ["_law_cell","_law_k","_law_mixed","_law_way_here","_law_far","_law_parts"] λc H vs Q E t h=>?_;obtain⟨z,i,rfl,M,q⟩:=h;have D:Sz 20 ((i:Int)+1):=WR (by lia) (by decide)
 refine⟨_,(@JM _ _ _ _ _ (@BR _ _ 2 _ _ _ _ c rfl (Or.inr rfl) (Af Dv (Af C_ (Af Gs (pv 0) Ac) (Af Gs (Af CT (Af C_ (pv 1) Ac) (Af C_ (pv 1) Ac)) Ac)) Ac) rfl (.inl rfl))
  (@JM _ _ _ _ _ (@BR _ _ 2 _ _ _ _ c rfl (Or.inr rfl) (Af Dv (Af CT (pv 2) (pv 2)) Ac) rfl (.inl rfl))
  (@Ao _ _ _ _ _ (@BR _ _ 3 _ _ _ _ c rfl (Or.inl rfl) (Af Dv (pv 2) Ac) rfl (.inl rfl))
  (@Ao _ _ _ _ _ (Cd (Cg HF (pv 3) Ac (Ad _))
   (@Aq _ _ _ (BW (@Cq _ _ _ _ _ (Aa Ac (Aa Ac (Aa Ac (Aa Ac (Aa Ac Ae))))))))
   Ce)
  (@Ao _ _ _ _ _ (Cd (Cg HF (pv 3) Ac (Ad _))
   (@Aq _ _ _ (BW (A_ dW t rfl (Aa (@Cq _ _ _ _ _ (Aa Ac (Aa Ac (Aa Ac (Aa Ac (Aa Ac Ae)))))) (Aa (Af Hx (pv 2) Ac) Ae)))))
   Ce)
  (@Ao _ _ _ _ _ (Cd (Cg HF (pv 3) Ac (Ad _))
   (@Aq _ _ _ (BW (A_ cG t rfl (Aa (GZ rfl (BZ.of (Nc:=["_law_by","_law_mixed"]) (mp:=[none,some 2]) (by kernel_rfl)) (Es (@Ii _ _ _ _ (Aa Ac (Aa Ac (Aa Ac (Aa Ac Ae)))))) (λ_ _ _ _=>(Bq (i:=0) (show (["_law_by","_law_mixed"]:W4).Nodup by decide +kernel) rfl (Or.inl rfl))) (λ_ _ _ _=>(Af Fy (Af Dv (Af Qa (pv 1) (pv 0)) Ac) Ac))) (Aa (Af Dv (Af Hx (pv 2) Ac) Ac) Ae)))))
   Ce)
  (@JM _ _ _ _ _ (@BR _ _ 4 _ _ _ _ c rfl (Or.inl rfl) (Af Fy (Af Dv (Af C_ (pv 0) (Af YT Ac Ac)) (Af C_ (Af Gs Ac (Af YT Ac Ac)) Ac)) (Af YT Ac Ac)) rfl (.inl rfl))
  (@Ao _ _ _ _ _ (@BR _ _ 5 _ _ _ _ c rfl (Or.inl rfl) (@Ii _ _ _ _ (Aa (pv 4) (Aa (Af Fy (Af Dv (Af Hx (pv 2) Ac) Ac) Ac) (Aa (Af Fy (Af Dv (Af Hx (pv 2) Ac) Ac) Ac) (Aa (Af Dv (Af Hx (pv 2) Ac) Ac) Ae))))) rfl (.inl rfl))
  (@Aq _ _ _ (BW (A_ cG t rfl (Aa (pv 5) (Aa (Af Dv (Af Hx (pv 2) Ac) Ac) Ae))))))))))))),?_⟩
 try dsimp only[Bv]
 refine⟨λσ H'=>H'=H/\∃m:Int,0<=m/\m<2147483647/\σ=[some (.int z),some (.int i),some (.int m),none,none,none],?_,?_⟩
 ·refine⟨_,U,_,_,U,U,.inr ⟨by decide,by decide⟩,_,U,_,_,U,U,_,U,_,_,U,U,_,_,U,U,⟨20,20,D,D,by decide⟩,_,_,U,U,.inr ⟨by decide,by decide⟩,_,_,U,U,_,_,U,U,X_,U,_,JC _ (Ms X_),Jl _ X_,U⟩
 rintro σ1 H ⟨rfl,m0,J,L,rfl⟩;have b:Sz 32 m0:=by unfold Sz;lia
 refine⟨λσ H'=>H'=H/\∃m:Int,0<=m/\m<2147483629/\σ=[some (.int z),some (.int i),some (.int m),none,none,none],?_,?_⟩
 ·refine⟨_,U,_,U,_,_,U,U,⟨32,32,b,b,by decide⟩,_,_,U,U,Py,U,_,JC _ (Ms Py),Jl _ Py,U⟩
 clear b J L;rintro σ2 H ⟨rfl,m,m0,Z,rfl⟩;refine⟨_,U,_,_,U,U,wB,?_⟩;refine⟨_,U,U,_,U,Jr (λ_=>?_) (λ_=>?_)⟩
 ·exact⟨t5,λp hp=>q p _ ((0,0,0,0),0) (Aw hp _) Al ((P_ (m:=40)).mono (by decide) (by decide))⟩
 refine⟨_,U,U,_,U,Jr (λ_=>?_) (λ_=>?_)⟩
 ·refine⟨t5,λp hp=>⟨_,U,_,_,U,U,⟨by decide,by decide⟩,p,((1,0,0,0),0),_,U,Al,λr H' s' I=>q r H' _ ((Aw hp _).trans s') I (jr (v:=(1,0,0,0)) (h:=0) ((QB (m:=40)).mono (by decide) (by decide)) _)⟩⟩
 refine⟨_,U,U,_,U,Jr (λ_=>?_) (λ_=>?_)⟩
 ·refine⟨t4,λV Y=>⟨V,U,⟨_,Ai.of Al⟩,λacc d=>?_⟩⟩;refine yW (ns:=[5,35,245,1715]) (fr:=[some (.int m)]) (λn=>.int (m.fdiv n%7-3)) (Ai.of Al) t4 d (λn H2 N C B W=>?_) (λH2 B T=>?_)
  ·refine⟨_,U,_,U,_,_,U,U,?_,_,_,U,U,m9,_,_,U,U,W⟩;simp only[Cw,Gm,Gk]at C;rcases C with rfl | rfl | rfl | rfl<;>exact⟨by decide,by decide +kernel⟩
  ·have e:∀y:Int,Sz 102 (y%7-3):=λy=>WR (by have:=JC y (show (7:Int)≠0 by decide);have:=Jl y m9;lia) (by decide);refine⟨_,U,_,_,U,U,⟨by decide,by decide⟩,_,_,U,U,XC,acc,_,_,_,_,_,U,T,JC _ (by decide),λp l x y u v g s f a=>?_⟩;refine q p l ((x,y,u,v),g) (((Aw Y _).trans B).trans s) f ⟨a.sz ⟨e _,e _,e _,e _⟩,a.amt,?_⟩;have:=a.le;have:=Jl (m / 12005) XC;show g<=40;lia
 refine⟨λσ H'=>H'=H/\∃j:Int,Sz 102 j/\σ=[some (.int z),some (.int i),some (.int m),some (.int (m%5)),some (.int j),none],?_,?_⟩
 ·exact⟨_,U,_,_,U,U,M8,_,_,U,U,_,_,U,U,M8,_,_,U,U,.inl ⟨by decide,by decide⟩,_,_,U,U,_,_,U,U,aR,_,_,U,U,M8,_,_,U,U,U,_,Yy,U⟩
 rintro σ3 H ⟨rfl,j,R,rfl⟩;refine⟨_,U,_,U,_,_,U,U,⟨by decide,by decide⟩,_,_,U,U,LQ,_,_,U,U,_,U,_,_,U,U,⟨by decide,by decide⟩,_,_,U,U,LQ,_,_,U,U,_,U,_,_,U,U,⟨by decide,by decide⟩,_,_,U,U,Ol,t4,λO o=>?_⟩;have A:∀y:Int,Sz 102 (y%2003-1001):=λy=>WR (by have:=JC y (show (2003:Int)≠0 by decide);have:=Jl y LQ;lia) (by decide);have S:∀y:Int,Sz 102 (y%1009):=λy=>WR (by have:=JC y (show (1009:Int)≠0 by decide);have:=Jl y Ol;lia) (by decide);refine⟨_,U,_,U,_,_,U,U,⟨by decide,by decide⟩,_,_,U,U,Ut,O,_,_,_,_,_,U,Al,JC _ (by decide),λp l x y u v g s f a=>?_⟩;refine q p l ((x,y,u,v),g) ((Aw o _).trans s) f ⟨a.sz ⟨R,A _,A _,S _⟩,a.amt,?_⟩;have:=a.le;have:=Jl (m / 11) Ut;show g<=40;lia
theorem yd(F:Ab K "_law_cells_by" (top 61) .none)(X:K.In h)(G:Ng h mg):Aj P w K mg base (k+1) "_law_cells_by" ["_law_head"] tO:=by
 refine F.cal X G ["_law_head"] λa H vs Q E b h=>?_;obtain⟨c,rfl,q⟩:=h
 refine⟨_,(@Ao _ _ _ _ _ (Cd (Cg HF (Af Dv (pv 0) Ac) Ac (Ad _))
   (@Aq _ _ _ (BW (Af C_ Ac (Af Dv (Af Hx (pv 0) Ac) Ac))))
   Ce)
  (@Aq _ _ _ (BW (Af C_ Ac (Af Dv (Af Hx (pv 0) Ac) Ac))))),?_⟩
 try dsimp only[Bv]
 refine⟨_,U,_,_,U,U,aO,U,_,U,Jr (λ_=>?_) (λ_=>?_)⟩
 ·refine⟨_,U,_,_,U,U,⟨by decide,by decide⟩,_,_,U,U,m_,_,_,U,U,?_⟩;have:=q (4+c / 8%3).toNat (by lia) (by lia);rw[show (((4+c / 8%3).toNat:Nat):Int)=4+c / 8%3 by lia]at this;exact this
 ·refine⟨_,U,_,_,U,U,⟨by decide,by decide⟩,_,_,U,U,m_,_,_,U,U,?_⟩;have:=q (1+c / 8%3).toNat (by lia) (by lia);rw[show (((1+c / 8%3).toNat:Nat):Int)=1+c / 8%3 by lia]at this;exact this
theorem yr(F:Ab K "_law_ones" (top 64) .none)(X:K.In h)(G:Ng h mg):Aj P w K mg base (k+1) "_law_ones" ["_law_number"] Fe:=by
 refine F.cal X G ["_law_number","_law_many"] λa H vs Q E i h=>?_;obtain⟨n,rfl,q⟩:=h
 refine⟨_,(@Ao _ _ _ _ _ (@BR _ _ 1 _ _ _ _ a rfl (Or.inl rfl) Ac rfl (.inl rfl))
  (@Ao _ _ _ _ _ (Vz PassesOwn.never (Cg MK (pv 0) Ac (Ad _))
   (@Ao _ _ _ _ _ (@BR _ _ 1 _ _ _ _ a rfl (Or.inl rfl) (Af C_ (pv 1) (Af Dv (pv 0) Ac)) rfl (.inl rfl))
   (@Aq _ _ _ (@BR _ _ 0 _ _ _ _ a rfl (Or.inl rfl) (Af Hx (pv 0) Ac) rfl (.inl rfl)))))
  (@Aq _ _ _ (BW (pv 1))))),?_⟩
 try dsimp only[Bv]
 refine⟨λm σ H'=>H'=H/\∃j:Nat,j+pc m=pc n/\σ=[some (.int m),some (.int j)],⟨n,U,0,Hj _,U⟩,?_⟩;rintro m σ H' ⟨rfl,j,c,rfl⟩;refine⟨_,U,_,_,U,U,_,U,Ca (λb=>?_) (λb=>?_)⟩
 ·have f:0<m:=by lia
  have e:=iW m;refine⟨_,λg H' x=>x,?_⟩;refine⟨_,U,_,U,_,_,U,U,aP,_,_,U,U,?_⟩;refine⟨_,U,_,_,U,U,⟨by decide,by decide⟩,⟨m / 2,by lia,U,j+m%2,by lia,U⟩⟩
 ·have d:m=0:=by lia
  subst d;rw[iY,bV]at c;subst c;exact⟨_,U,q⟩
theorem X2t(F:Ab K "_law_is_board" (top 66) .none)(X:K.In h)(G:Ng h mg)(B:Bs mg)(c7:Aj P w K mg base k "_law_whole" ["_law_found"] QX)(cG:Aj P w K mg base k "_law_lowest" ["_law_parts","_law_h"] jM):Aj P w K mg base (k+1) "_law_is_board" ["_law_found","_law_many"] Ku:=by
 refine F.cal X G ["_law_found","_law_many","_law_one"] λnd H vs Q E J h=>?_;obtain⟨l,ps,g,c,n,m,i,rfl,Y,j,c6,O,kq⟩:=h;have p6:=Hr c6;have L:Ai K H l (ps.map V.ref):=Ai.of j.lst
 refine⟨_,(@Ao _ _ _ _ _ (Cd (PW.pt (Eh (Ec (Cr (Bm KQ rfl B.isinstance FJ (Aa (pv 0) (Aa (Je (v:=.ty "list") rfl B.list Nz rfl) Ae))))) (Gg (Cg Lg (Bm Fb rfl B.len FP (Aa (pv 0) Ae)) (pv 1) (Ad _)))))
   (@Aq _ _ _ (BW Ef))
   Ce)
  (@Ao _ _ _ _ _ (Gf PassesOwn.never rfl (Es (pv 0)) (Bq (i:=2) nd rfl (Or.inl rfl))
   (@Ao _ _ _ _ _ (Cd (PW.pt (Eh (Ec (Cr (Bm KQ rfl B.isinstance FJ (Aa (pv 2) (Aa (Je (v:=.ty "tuple") rfl B.tuple Qo rfl) Ae))))) (Eh (Cg Lg (Bm Fb rfl B.len FP (Aa (pv 2) Ae)) Ac (Ad _)) (Gg (Ec (Cr (Bm (Rm rfl) rfl B.all RK (Aa (GZ rfl (BZ.of (Nc:=["_law_part"]) (mp:=[none]) (by kernel_rfl)) (RT (pv 2)) (λ_ _ _ _=>(Bq (i:=0) (show (["_law_part"]:W4).Nodup by decide +kernel) rfl (Or.inl rfl))) (λ_ _ _ _=>(A_ c7 J rfl (Aa (pv 0) Ae)))) Ae))))))))
    (@Aq _ _ _ (BW Ef))
    Ce)
   (@Aq _ _ _ (Cd (PW.pt (Eh (Cg QH (Ak Ax (pv 2) Ac (λ_ _=>rfl)) Ac (Ad _)) (Gg (Cg (Xe J.units) (A_ cG J rfl (Aa (V5 X5 rfl B.list Nz (Aa (Nb RW (pv 2) NP (NQ Ac)) Ae)) (Aa (Ak Ax (pv 2) Ac (λ_ _=>rfl)) Ae))) (pv 2) (Ad _)))))
    (@Aq _ _ _ (BW Ef))
    Ce))))
  (@Aq _ _ _ (BW (Bm (jQ rfl) rfl B.any boot_any (Aa (GZ rfl (BZ.of (Nc:=["_law_one"]) (mp:=[none]) (by kernel_rfl)) (Es (pv 0)) (λ_ _ _ _=>(Bq (i:=0) (show (["_law_one"]:W4).Nodup by decide +kernel) rfl (Or.inl rfl))) (λ_ _ _ _=>(Gu (tH J.units) (pv 0) (@Cq _ _ _ _ _ (Aa Ac (Aa Ac (Aa Ac (Aa Ac (Aa Ac Ae)))))) (Ad _)))) Ae)))))),?_⟩
 try dsimp only[Bv]
 refine⟨_,U,_,_,_,true,U,Bk.lst j.lst,YM K,_,U,Ay ⟨_,U,l,_,U,.inl L,_,U,U,_,U,J_ (λz=>absurd (by rw[BL,j.len,Y]) z) (λ_=>?_)⟩⟩;refine⟨_,U,l,U,⟨_,L⟩,KN (K:=K) (a:=l) (xs:=ps.map V.ref) (λi σ H'=>Same H H'/\∃v,σ=[some (.ref l),some (.int ((2^c:Nat):Int)),v]) ⟨Same.refl _,none,by rw[<-Y];rfl⟩ (λi σ H' _ e=>e.1.seq L) ?_ ?_⟩
 ·rintro i x σ H1 hx ⟨o,v,rfl⟩;rw[Cp]at hx;obtain⟨p,hp,rfl⟩:=Dm.mp hx;have il:i<2^c:=by rw[<-j.len];exact(DW.mp hp).1
  have D:=o _ _ (j.vals i p hp);have ok:=j.ok i il;revert D ok;generalize g i=y;obtain⟨⟨a,b,cc,d⟩,h⟩:=y;intro D ok;have Z:0<=h:=ok.amt.nn;have SP:Ah K H1 p [.int a,.int b,.int cc,.int d,.int h]:=Ah.of D;have S:H1 p=some (.tup [.int a,.int b,.int cc,.int d,.int h]):=D;refine⟨_,U,_,_,_,true,U,Bk.tup S,Fp K,_,U,Ay ⟨_,U,p,_,U,.inr SP,U,_,U,J_ (λz=>absurd rfl z) (λ_=>?_)⟩⟩;refine⟨_,U,p,U,⟨_,SP⟩,λacc f=>?_⟩;refine qg (K:=K) (ns:=[a,b,cc,d,h]) (λ_=>.bl true) SP (Lx (show 5<=64 by decide)) f (λn H2 N hn q W=>⟨_,U,n,U,W⟩) (λH2 q T=>?_);refine⟨acc,[true,true,true,true,true],U,Ai.of T,_,U,Ay ?_⟩;have s:=q.tup SP;refine⟨_,U,p,_,_,_,U,U,s,U,_,_,U,U,_,U,Ca (λz=>absurd Z (by lia)) (λ_=>?_)⟩;refine⟨_,U,_,U,p,_,U,s,(λz=>absurd z.2 (show ¬ (4:Nat)=5 by decide)),λt I=>?_⟩;have s3:=Aw I (.tup (EY [V.int a,.int b,.int cc,.int d,.int h] none (some 4)));refine⟨t,_,U,.inr (Ah.of Al),λu hu=>?_⟩;have s4:=Aw hu (.lst (EY [V.int a,.int b,.int cc,.int d,.int h] none (some 4)));have A:=(q.trans s3).trans s4;refine⟨_,U,p,_,_,_,U,U,A.tup SP,U,u,a,b,cc,d,h,U,Al,Z,λr H5 x' y' z' u' v' S5 R RE=>?_⟩;obtain⟨rfl,rfl,rfl,rfl,rfl⟩:=ok.amt.unique RE.amt RE.same;have C:=A.trans S5;refine⟨_,U,r,p,[a,b,cc,d,h],[a,b,cc,d,h],U,U,Ah.of R,C.tup SP,_,U,?_⟩;rw[DK rfl];exact Ay ⟨o.trans C,_,U⟩
 ·rintro σ H1 ⟨o,v,rfl⟩;have M:=j.same o;refine⟨_,U,l,U,⟨_,Ai.of M.lst⟩,λacc f=>uO (fr:=[]) M.lst (by rw[j.len];exact p6) M.vals f (λp x H2 N hp W=>⟨_,U,t5,λt I=>⟨p,t,l5 x,[0,0,0,0,0],U,U,Ah.of (Aw I _ _ _ hp),Ah.of Al,W t I⟩⟩) λH2 q T=>?_⟩;refine⟨acc,_,U,Ai.of T,?_⟩;rw[j.len,AskedN.iff.mpr O];exact kq _ (o.trans q)
end
end Av
namespace Av
open L2 Am Pc Ba Hw FN Ci Lq
open Lk hiding Hy
open Pt hiding Fp
variable{x y z:Int}
theorem nU{t r b:Int}(l:Low t r b x y z):x*b=t*z/\y*b=r*z:=by
 obtain⟨g,_,d,a,c⟩:=l.ex;subst d a c;constructor<;>grind
theorem X5i{p q n p' q' n' a b c:Int}(hz:0<z)(e1:x*(p'*p'-2*q'*q')=n'*p'*z)(e2:y*(p'*p'-2*q'*q')=-n'*q'*z)(R:p'*p'-2*q'*q'≠0)
  (hc:0<c) (co:HJ a b c) (f1:a*(n*z)=(p*x+2*q*y)*c) (f2:b*(n*z)=(p*y+q*x)*c):Nj p q n p' q' n' a b c:=by
 have g1:x*p'+2*y*q'=n'*z:=by
  apply J9 R;have:(x*p'+2*y*q')*(p'*p'-2*q'*q')=x*(p'*p'-2*q'*q')*p'+2*(y*(p'*p'-2*q'*q'))*q':=by grind
  rw[this,e1,e2];grind
 have g2:y*p'+x*q'=0:=by
  have:(y*p'+x*q')*(p'*p'-2*q'*q')=0:=by
   have:(y*p'+x*q')*(p'*p'-2*q'*q')=y*(p'*p'-2*q'*q')*p'+x*(p'*p'-2*q'*q')*q':=by grind
   rw[this,e1,e2];grind
  rcases N8.mp this with h | h
  ·exact h
  ·exact absurd h R
 have d:z≠0:=by lia
 refine⟨hc,co,?_,?_⟩
 ·apply J9 d;have:(a*p'+2*b*q')*n*z=a*(n*z)*p'+2*(b*(n*z))*q':=by grind
  rw[this,f1,f2];have:(p*x+2*q*y)*c*p'+2*((p*y+q*x)*c)*q'=c*(p*(x*p'+2*y*q')+2*q*(y*p'+x*q')):=by grind
  rw[this,g1,g2];grind
 ·apply J9 d;have:(a*q'+b*p')*n*z=a*(n*z)*q'+b*(n*z)*p':=by grind
  rw[this,f1,f2];have:(p*x+2*q*y)*c*q'+(p*y+q*x)*c*p'=c*(p*(y*p'+x*q')+q*(x*p'+2*y*q')):=by grind
  rw[this,g1,g2];grind
structure S3 (B D:Nat) (x y z:Int):Prop where
 x:Sz B x
 y:Sz B y
 z:Sz D z
theorem S3.mono{B D B' D':Nat}(s:S3 B D x y z)(h:B<=B')(h':D<=D'):S3 B' D' x y z:=⟨s.x.mono h,s.y.mono h,s.z.mono h'⟩
def tV:Sp:=λvs H Q _=>∃(a b:Y9) (p q n p' q' n':Int),vs=[.ref a,.ref b]/\H a=some (T3 p q n)/\H b=some (T3 p' q' n')/\0<n/\0<n'/\S3 3000 500 p q n/\S3 2700 5000 p' q' n'/\∀(r:Y9) (H':Hp) (x y z:Int),Same H H'->H' r=some (T3 x y z)->Low (p*p'+2*q*q') (p*q'+q*p') (n*n') x y z->Q (.ref r) H'
def jB:Sp:=λvs H Q _=>∃(a b:Y9) (p q n p' q' n':Int),vs=[.ref a,.ref b]/\H a=some (T3 p q n)/\H b=some (T3 p' q' n')/\0<n/\0<n'/\S3 3000 500 p q n/\S3 2400 200 p' q' n'/\¬ (p'=0/\q'=0)/\∀(r:Y9) (H':Hp) (x y z:Int),Same H H'->H' r=some (T3 x y z)->Nj p q n p' q' n' x y z->S3 5800 5800 x y z->Q (.ref r) H'
section
variable {P:U8}{w:W5}{K:U0}{mg:U4}{base:Heap}{k:Nat}{h:Heap}
theorem Y4p(F:Ab K "share_times" (top 19) .none)(X:K.In h)(G:Ng h mg)(cF:Aj P w K mg base k "share" ["top","root","bottom"] Rc):Aj P w K mg base (k+1) "share_times" ["one","other"] tV:=by
 refine F.cal X G ["one","other","top","root"] λf H vs Q E D h=>?_;obtain⟨a,b,p,q,n,p',q',n',rfl,B,C,I,v,⟨t,g,s⟩,⟨o,l,m⟩,kk⟩:=h;have c:Ah K H a [.int p,.int q,.int n]:=Ah.of B;have d:Ah K H b [.int p',.int q',.int n']:=Ah.of C;have two:Sz 3002 (2*q):=((show Sz 2 2 by decide).mul g).mono (by decide);have e:∀{x y:Int}{i j:Nat},Sz i x->Sz j y->i<=10000->j<=10000->CG x y:=λh h' a b=>⟨_,_,h,h',by lia⟩
 refine⟨_,(@Ao _ _ _ _ _ (@BR _ _ 2 _ _ _ _ f rfl (Or.inl rfl) (Af C_ (Af CT (Ak Ax (pv 0) Ac (λ_ _=>rfl)) (Ak Ax (pv 1) Ac (λ_ _=>rfl))) (Af CT (Af Gs Ac (Ak Ax (pv 0) Ac (λ_ _=>rfl))) (Ak Ax (pv 1) Ac (λ_ _=>rfl)))) rfl (.inl rfl))
  (@Ao _ _ _ _ _ (@BR _ _ 3 _ _ _ _ f rfl (Or.inl rfl) (Af C_ (Af CT (Ak Ax (pv 0) Ac (λ_ _=>rfl)) (Ak Ax (pv 1) Ac (λ_ _=>rfl))) (Af CT (Ak Ax (pv 0) Ac (λ_ _=>rfl)) (Ak Ax (pv 1) Ac (λ_ _=>rfl)))) rfl (.inl rfl))
  (@Aq _ _ _ (BW (A_ cF D rfl (Aa (pv 2) (Aa (pv 3) (Aa (Af CT (Ak Ax (pv 0) Ac (λ_ _=>rfl)) (Ak Ax (pv 1) Ac (λ_ _=>rfl))) Ae)))))))),?_⟩
 try dsimp only[Bv]
 refine⟨_,U,a,_,_,_,U,U,c,U,_,U,b,_,_,_,U,U,d,U,_,_,U,U,e t o (by decide) (by decide),_,U,a,_,_,_,U,U,c,U,_,_,U,U,.inl ⟨by decide,by decide⟩,_,U,b,_,_,_,U,U,d,U,_,_,U,U,e two l (by decide) (by decide),_,_,U,U,?_⟩;refine⟨_,U,a,_,_,_,U,U,c,U,_,U,b,_,_,_,U,U,d,U,_,_,U,U,e t l (by decide) (by decide),_,U,a,_,_,_,U,U,c,U,_,U,b,_,_,_,U,U,d,U,_,_,U,U,e g o (by decide) (by decide),_,_,U,U,?_⟩;exact⟨_,U,_,U,_,U,a,_,_,_,U,U,c,U,_,U,b,_,_,_,U,U,d,U,_,_,U,U,e s m (by decide) (by decide),_,_,_,U,JD (by lia) (by lia),(s.mul m).mono (by decide),λr H' x y z u A l1=>kk r H' x y z u A l1⟩
theorem yx(F:Ab K "share_over" (top 20) .none)(X:K.In h)(G:Ng h mg)(cF:Aj P w K mg base k "share" ["top","root","bottom"] Rc)(dH:Aj P w K mg base k "share_times" ["one","other"] tV):Aj P w K mg base (k+1) "share_over" ["one","other"] jB:=by
 refine F.cal X G ["one","other","rootless"] λI H vs Q E D h=>?_;obtain⟨a,b,p,q,n,p',q',n',rfl,ha,hb,Y,V,⟨u,o,A⟩,⟨f,g,l⟩,S,kk⟩:=h;have d:Ah K H b [.int p',.int q',.int n']:=Ah.of hb;have m:∀{x y:Int}{i j:Nat},Sz i x->Sz j y->i<=10000->j<=10000->CG x y:=λh h' a b=>⟨_,_,h,h',by lia⟩;have two:Sz 2402 (2*q'):=((show Sz 2 2 by decide).mul g).mono (by decide);have R:p'*p'-2*q'*q'≠0:=λe=>S (JX (by lia));have B:Sz 4804 (p'*p'-2*q'*q'):=((f.mul f).sub (two.mul g)).mono (by decide)
 refine⟨_,(@Ao _ _ _ _ _ (@BR _ _ 2 _ _ _ _ I rfl (Or.inl rfl) (Af Fy (Af CT (Ak Ax (pv 1) Ac (λ_ _=>rfl)) (Ak Ax (pv 1) Ac (λ_ _=>rfl))) (Af CT (Af Gs Ac (Ak Ax (pv 1) Ac (λ_ _=>rfl))) (Ak Ax (pv 1) Ac (λ_ _=>rfl)))) rfl (.inl rfl))
  (@Ao _ _ _ _ _ (Cd (Cg HF (pv 2) Ac (Ad _))
   (@Aq _ _ _ Vy)
   Ce)
  (@Aq _ _ _ (BW (A_ dH D rfl (Aa (pv 0) (Aa (A_ cF D rfl (Aa (Af CT (Ak Ax (pv 1) Ac (λ_ _=>rfl)) (Ak Ax (pv 1) Ac (λ_ _=>rfl))) (Aa (Af CT (Js Jt (Ak Ax (pv 1) Ac (λ_ _=>rfl))) (Ak Ax (pv 1) Ac (λ_ _=>rfl))) (Aa (pv 2) Ae)))) Ae))))))),?_⟩
 try dsimp only[Bv]
 refine⟨_,U,b,_,_,_,U,U,d,U,_,U,b,_,_,_,U,U,d,U,_,_,U,U,m f f (by decide) (by decide),_,U,b,_,_,_,U,U,d,U,_,_,U,U,.inl ⟨by decide,by decide⟩,_,U,b,_,_,_,U,U,d,U,_,_,U,U,m two g (by decide) (by decide),_,_,U,U,?_⟩;refine⟨_,U,U,_,U,Jr (λc=>absurd c R) (λ_=>?_)⟩;refine⟨_,U,_,U,b,_,_,_,U,U,d,U,_,U,b,_,_,_,U,U,d,U,_,_,U,U,m l f (by decide) (by decide),_,U,b,_,_,_,U,U,d,U,_,U,_,U,b,_,_,_,U,U,d,U,_,_,U,U,m l.neg g (by decide) (by decide),_,U,_,_,_,U,R,B.mono (by decide),λr1 H1 x y z v Z l1=>?_⟩;obtain⟨N,L,W⟩:=l1.sizes;have t:Sz 2700 x:=((l.mul f).mono (by decide)).le N;have s:Sz 2700 y:=((l.neg.mul g).mono (by decide)).le L;have C:Sz 4804 z:=B.le W;refine⟨a,r1,p,q,n,x,y,z,U,v _ _ ha,Z,Y,l1.pos,⟨u,o,A⟩,⟨t,s,C.mono (by decide)⟩,λr H' a' b' c' O e2 l2=>?_⟩;obtain⟨J,M⟩:=nU l1;obtain⟨f1,T⟩:=nU l2;obtain⟨o1,o2,o3⟩:=l2.sizes;refine kk r H' a' b' c' (v.trans O) e2 (X5i l1.pos J M R l2.pos l2.cop f1 T) ⟨?_,?_,?_⟩
 ·exact(((u.mul t).add (((show Sz 2 2 by decide).mul o).mul s)).mono (by decide)).le o1
 ·exact(((u.mul s).add (o.mul t)).mono (by decide)).le o2
 ·exact((A.mul C).mono (by decide)).le o3
def rQ:Sp:=λvs H Q _=>∃(a b:Y9) (p q n p' q' n':Int),vs=[.ref a,.ref b]/\H a=some (T3 p q n)/\H b=some (T3 p' q' n')/\0<n/\0<n'/\S3 6000 3000 p q n/\S3 6000 3000 p' q' n'/\∀(r:Y9) (H':Hp) (x y z:Int),Same H H'->H' r=some (T3 x y z)->Low (p*n'+p'*n) (q*n'+q'*n) (n*n') x y z->Q (.ref r) H'
def tU:Sp:=λvs H Q _=>∃(a b:Y9) (p q n p' q' n':Int),vs=[.ref a,.ref b]/\H a=some (T3 p q n)/\H b=some (T3 p' q' n')/\0<n/\0<n'/\S3 6000 3000 p q n/\S3 6000 3000 p' q' n'/\∀(r:Y9) (H':Hp) (x y z:Int),Same H H'->H' r=some (T3 x y z)->Low (p*n'+-p'*n) (q*n'+-q'*n) (n*n') x y z->Q (.ref r) H'
def rJ:Sp:=λvs H Q _=>∃t r:Int,vs=[.int t,.int r]/\Sz 30000 t/\Sz 30000 r/\Q (.bl (Dr t r)) H
def rT:Sp:=λvs H Q _=>∃(a b:Y9) (p q n p' q' n':Int),vs=[.ref a,.ref b]/\H a=some (T3 p q n)/\H b=some (T3 p' q' n')/\0<n/\0<n'/\S3 6000 3000 p q n/\S3 6000 3000 p' q' n'/\∀H',Same H H'->Q (.bl (decide (Lt p q n p' q' n'))) H'
def jN:Sp:=λvs H Q _=>∃(p:Y9) (x:A5) (n m:Nat),vs=[.ref p]/\H p=some (tA x)/\Gh n m x/\n<=1000/\m<=1000/\∀(r:Y9) (H':Hp) (a b c:Int),Same H H'->H' r=some (T3 a b c)->Low (tt x.1.1 x.1.2.1 x.1.2.2.1 x.1.2.2.2) (rr x.1.1 x.1.2.1 x.1.2.2.1 x.1.2.2.2) (p2 x.2*p2 x.2) a b c->Q (.ref r) H'
theorem zE(F:Ab K "share_plus" (top 17) .none)(X:K.In h)(G:Ng h mg)(cF:Aj P w K mg base k "share" ["top","root","bottom"] Rc):Aj P w K mg base (k+1) "share_plus" ["one","other"] rQ:=by
 refine F.cal X G ["one","other","top","root"] λl H vs Q E D h=>?_;obtain⟨a,b,p,q,n,p',q',n',rfl,A,C,I,t,⟨B,m,g⟩,⟨u,o,f⟩,kk⟩:=h;have c:Ah K H a [.int p,.int q,.int n]:=Ah.of A;have d:Ah K H b [.int p',.int q',.int n']:=Ah.of C;have e:∀{x y:Int}{i j:Nat},Sz i x->Sz j y->i<=20000->j<=20000->CG x y:=λh h' a b=>⟨_,_,h,h',by lia⟩
 refine⟨_,(@Ao _ _ _ _ _ (@BR _ _ 2 _ _ _ _ l rfl (Or.inl rfl) (Af C_ (Af CT (Ak Ax (pv 0) Ac (λ_ _=>rfl)) (Ak Ax (pv 1) Ac (λ_ _=>rfl))) (Af CT (Ak Ax (pv 1) Ac (λ_ _=>rfl)) (Ak Ax (pv 0) Ac (λ_ _=>rfl)))) rfl (.inl rfl))
  (@Ao _ _ _ _ _ (@BR _ _ 3 _ _ _ _ l rfl (Or.inl rfl) (Af C_ (Af CT (Ak Ax (pv 0) Ac (λ_ _=>rfl)) (Ak Ax (pv 1) Ac (λ_ _=>rfl))) (Af CT (Ak Ax (pv 1) Ac (λ_ _=>rfl)) (Ak Ax (pv 0) Ac (λ_ _=>rfl)))) rfl (.inl rfl))
  (@Aq _ _ _ (BW (A_ cF D rfl (Aa (pv 2) (Aa (pv 3) (Aa (Af CT (Ak Ax (pv 0) Ac (λ_ _=>rfl)) (Ak Ax (pv 1) Ac (λ_ _=>rfl))) Ae)))))))),?_⟩
 try dsimp only[Bv]
 refine⟨_,U,a,_,_,_,U,U,c,U,_,U,b,_,_,_,U,U,d,U,_,_,U,U,e B f (by decide) (by decide),_,U,b,_,_,_,U,U,d,U,_,U,a,_,_,_,U,U,c,U,_,_,U,U,e u g (by decide) (by decide),_,_,U,U,?_⟩;refine⟨_,U,a,_,_,_,U,U,c,U,_,U,b,_,_,_,U,U,d,U,_,_,U,U,e m f (by decide) (by decide),_,U,b,_,_,_,U,U,d,U,_,U,a,_,_,_,U,U,c,U,_,_,U,U,e o g (by decide) (by decide),_,_,U,U,?_⟩;exact⟨_,U,_,U,_,U,a,_,_,_,U,U,c,U,_,U,b,_,_,_,U,U,d,U,_,_,U,U,e g f (by decide) (by decide),_,_,_,U,JD (by lia) (by lia),(g.mul f).mono (by decide),λr H' x y z s v l1=>kk r H' x y z s v l1⟩
theorem Y4q(F:Ab K "share_minus" (top 18) .none)(X:K.In h)(G:Ng h mg)(dR:Aj P w K mg base k "share_plus" ["one","other"] rQ):Aj P w K mg base (k+1) "share_minus" ["one","other"] tU:=by
 refine F.cal X G ["one","other"] λC H vs Q E B h=>?_;obtain⟨a,b,p,q,n,p',q',n',rfl,t,A,s,e,⟨u,f,o⟩,⟨m,g,i⟩,kk⟩:=h;refine⟨_,(@Aq _ _ _ (BW (A_ dR B rfl (Aa (pv 0) (Aa (@Cq _ _ _ _ _ (Aa (Js Jt (Ak Ax (pv 1) Ac (λ_ _=>rfl))) (Aa (Js Jt (Ak Ax (pv 1) Ac (λ_ _=>rfl))) (Aa (Ak Ax (pv 1) Ac (λ_ _=>rfl)) Ae)))) Ae))))),?_⟩;try dsimp only[Bv]
 have d:Ah K H b [.int p',.int q',.int n']:=Ah.of A;refine⟨_,U,_,U,b,_,_,_,U,U,d,U,_,U,_,U,b,_,_,_,U,U,d,U,_,U,_,U,b,_,_,_,U,U,d,U,(by show 3<=sizeLine;decide),λr c=>?_⟩;exact⟨a,r,p,q,n,-p',-q',n',U,Aw c _ _ _ t,Al,s,e,⟨u,f,o⟩,⟨m.neg,g.neg,i⟩,λj H2 x y z l v l2=>kk j H2 x y z ((Aw c _).trans l) v l2⟩
theorem xW(F:Ab K "is_below_nought" (top 22) .none)(X:K.In h)(G:Ng h mg):Aj P w K mg base (k+1) "is_below_nought" ["top","root"] rJ:=by
 refine F.cal X G ["top","root"] λp H vs Q E s h=>?_;obtain⟨t,r,rfl,o,n,q⟩:=h
 refine⟨_,(@Ao _ _ _ _ _ (Cd (PW.pt (MN (Cg X8 (pv 0) Ac (Ad _)) (QW (Cg X8 (pv 1) Ac (Ad _)))))
   (@Aq _ _ _ (BW Ef))
   Ce)
  (@Ao _ _ _ _ _ (Cd (PW.pt (MN (Cg kE (pv 0) Ac (Ad _)) (QW (Cg kE (pv 1) Ac (Ad _)))))
   (@Aq _ _ _ (BW Ef))
   Ce)
  (@Ao _ _ _ _ _ (Cd (Cg QH (pv 1) Ac (Ad _))
   (@Aq _ _ _ (BW (Gu QH (Af CT (pv 0) (pv 0)) (Af CT (Af Gs Ac (pv 1)) (pv 1)) (Ad _))))
   Ce)
  (@Aq _ _ _ (BW (Gu MK (Af CT (pv 0) (pv 0)) (Af CT (Af Gs Ac (pv 1)) (pv 1)) (Ad _))))))),?_⟩
 try dsimp only[Bv]
 have l:Sz 30010 (2*r):=(Sz.mul (show Sz 2 2 by decide +kernel) n).mono (by decide);have e:Sz 30010 t:=o.mono (by decide);have g:Sz 30010 r:=n.mono (by decide);have m:∀{x y:Int}{i j:Nat},Sz i x->Sz j y->i<=100000->j<=100000->CG x y:=λh h' a b=>⟨_,_,h,h',by lia⟩
 have last:¬ (0<=t/\0<=r)->¬ (t<=0/\r<=0)->Kd (Ml (HN (Ej (Gj λi j=>.bl (decide (i<j))) (B_ 1) (tC (.int 0))))
   (Ik (Ej (Gj λi j=>.bl (decide (i<j))) (Ej (rI CG λi j=>.int (i*j)) (B_ 0) (B_ 0)) (Ej (rI CG λi j=>.int (i*j)) (Ej (rI JR λi j=>.int (i*j)) (tC (.int 2)) (B_ 1)) (B_ 1)))) JT)
   (Ik (Ej (Gj λi j=>.bl (decide (j<i))) (Ej (rI CG λi j=>.int (i*j)) (B_ 0) (B_ 0)) (Ej (rI CG λi j=>.int (i*j)) (Ej (rI JR λi j=>.int (i*j)) (tC (.int 2)) (B_ 1)) (B_ 1))))
   { nx:=λ_ H'=>Q .non H',rt:=Q} [some (.int t),some (.int r)] H:=by
  intro h1 h2;unfold Dr at q;rw[if_neg h1,if_neg h2]at q;refine⟨_,U,_,_,U,U,_,U,Ca (λc=>?_) (λc=>?_)⟩
  ·rw[if_pos c]at q;exact⟨_,U,_,U,_,_,U,U,m e e (by decide) (by decide),_,U,_,_,U,U,.inl ⟨by decide,by decide⟩,_,U,_,_,U,U,m l g (by decide) (by decide),_,_,U,U,q⟩
  ·rw[if_neg c]at q;exact⟨_,U,_,U,_,_,U,U,m e e (by decide) (by decide),_,U,_,_,U,U,.inl ⟨by decide,by decide⟩,_,U,_,_,U,U,m l g (by decide) (by decide),_,_,U,U,q⟩
 have d:¬ (0<=t/\0<=r)->Kd (Ml (R_ (HN (Ej (Gj λi j=>.bl (decide (i<=j))) (B_ 0) (tC (.int 0)))) (HN (Ej (Gj λi j=>.bl (decide (i<=j))) (B_ 1) (tC (.int 0))))) (Ik (tC (.bl true))) JT)
   (Kd (Ml (HN (Ej (Gj λi j=>.bl (decide (i<j))) (B_ 1) (tC (.int 0))))
   (Ik (Ej (Gj λi j=>.bl (decide (i<j))) (Ej (rI CG λi j=>.int (i*j)) (B_ 0) (B_ 0)) (Ej (rI CG λi j=>.int (i*j)) (Ej (rI JR λi j=>.int (i*j)) (tC (.int 2)) (B_ 1)) (B_ 1)))) JT)
   (Ik (Ej (Gj λi j=>.bl (decide (j<i))) (Ej (rI CG λi j=>.int (i*j)) (B_ 0) (B_ 0)) (Ej (rI CG λi j=>.int (i*j)) (Ej (rI JR λi j=>.int (i*j)) (tC (.int 2)) (B_ 1)) (B_ 1)))))
   { nx:=λ_ H'=>Q .non H',rt:=Q} [some (.int t),some (.int r)] H:=by
  intro h1;refine⟨_,U,_,_,U,U,_,U,Ca (λc=>?_) (λc=>?_)⟩
  ·refine⟨_,U,_,_,U,U,_,U,Ca (λf=>?_) (λf=>?_)⟩
   ·unfold Dr at q;rw[if_neg h1,if_pos ⟨c,f⟩]at q;exact q
   ·exact last h1 (λz=>f z.2)
  ·exact Ay (last h1 (λz=>c z.1))
 refine⟨_,U,_,_,U,U,_,U,Ca (λc=>?_) (λc=>?_)⟩
 ·refine⟨_,U,_,_,U,U,_,U,Ca (λf=>?_) (λf=>?_)⟩
  ·unfold Dr at q;rw[if_pos ⟨c,f⟩]at q;exact q
  ·exact d (λz=>f z.2)
 ·exact Ay (d (λz=>c z.1))
theorem Y4o(F:Ab K "share_under" (top 21) .none)(X:K.In h)(G:Ng h mg)(dG:Aj P w K mg base k "share_minus" ["one","other"] tU)(cX:Aj P w K mg base k "is_below_nought" ["top","root"] rJ):Aj P w K mg base (k+1) "share_under" ["one","other"] rT:=by
 refine F.cal X G ["one","other","gap"] λs H vs Q E m h=>?_;obtain⟨a,b,p,q,n,p',q',n',rfl,u,A,j,c,⟨l,f,e⟩,⟨i,g,d⟩,kk⟩:=h
 refine⟨_,(@Ao _ _ _ _ _ (@BR _ _ 2 _ _ _ _ s rfl (Or.inl rfl) (A_ dG m rfl (Aa (pv 0) (Aa (pv 1) Ae))) rfl (.inl rfl))
  (@Aq _ _ _ (BW (A_ cX m rfl (Aa (Ak Ax (pv 2) Ac (λ_ _=>rfl)) (Aa (Ak Ax (pv 2) Ac (λ_ _=>rfl)) Ae)))))),?_⟩
 try dsimp only[Bv]
 refine⟨_,U,_,U,a,b,p,q,n,p',q',n',U,u,A,j,c,⟨l,f,e⟩,⟨i,g,d⟩,λr H2 x y z t v l2=>?_⟩;have o:Ah K H2 r [.int x,.int y,.int z]:=Ah.of v;have sz:=l2.sizes;refine⟨_,U,r,_,_,_,U,U,o,U,_,U,r,_,_,_,U,U,o,U,_,_,U,?_,?_,?_⟩
 ·exact(((l.mul d).add (i.neg.mul e)).mono (by decide)).le sz.1
 ·exact(((f.mul d).add (g.neg.mul e)).mono (by decide)).le sz.2.1
 ·show Q (.bl (Dr x y)) H2;rw[zj l2 j c];exact kk H2 t
theorem Y4m(F:Ab K "weight" (top 31) .none)(X:K.In h)(G:Ng h mg)(B:Bs mg)(cF:Aj P w K mg base k "share" ["top","root","bottom"] Rc):Aj P w K mg base (k+1) "weight" ["one"] jN:=by
 refine F.cal X G ["one","top","root"] λu H vs Q E R h=>?_;obtain⟨p,x,n,m,rfl,hp,ox,Z,Y,kk⟩:=h;obtain⟨⟨a,b,c,d⟩,g⟩:=x;have S:Ah K H p [.int a,.int b,.int c,.int d,.int g]:=Ah.of hp;obtain⟨⟨s,l,q,t⟩,J,le⟩:=ox;have g0:0<=g:=J.nn;have le:g<=m:=le;have e:∀{x y:Int},Sz n x->Sz n y->CG x y:=λh h'=>⟨_,_,h,h',by lia⟩
 refine⟨_,(@Ao _ _ _ _ _ (@BR _ _ 1 _ _ _ _ u rfl (Or.inl rfl) (Bm (_L rfl) rfl B.sum boot_sum (Aa (GZ rfl (BZ.of (Nc:=["part"]) (mp:=[none]) (by kernel_rfl)) (RT (Nb RW (pv 0) NP (NQ Ac))) (λ_ _ _ _=>(Bq (i:=0) (show (["part"]:W4).Nodup by decide +kernel) rfl (Or.inl rfl))) (λ_ _ _ _=>(Af CT (pv 0) (pv 0)))) Ae)) rfl (.inl rfl))
  (@Ao _ _ _ _ _ (@BR _ _ 2 _ _ _ _ u rfl (Or.inl rfl) (Af Fy (Af C_ (Af C_ (Af CT (Ak Ax (pv 0) Ac (λ_ _=>rfl)) (Ak Ax (pv 0) Ac (λ_ _=>rfl))) (Af CT (Ak Ax (pv 0) Ac (λ_ _=>rfl)) (Ak Ax (pv 0) Ac (λ_ _=>rfl)))) (Af CT (Ak Ax (pv 0) Ac (λ_ _=>rfl)) (Ak Ax (pv 0) Ac (λ_ _=>rfl)))) (Af CT (Ak Ax (pv 0) Ac (λ_ _=>rfl)) (Ak Ax (pv 0) Ac (λ_ _=>rfl)))) rfl (.inl rfl))
  (@Aq _ _ _ (BW (A_ cF R rfl (Aa (pv 1) (Aa (pv 2) (Aa (Af KJ Ac (Af Gs Ac (Ak Ax (pv 0) Ac (λ_ _=>rfl)))) Ae)))))))),?_⟩
 try dsimp only[Bv]
 refine⟨_,U,4,U,p,_,U,S,Hu,λl1 o=>?_⟩;have v:=Aw o (.tup (EY [V.int a,.int b,.int c,.int d,.int g] none (some 4)));have T1:Ah K (upd H l1 (.tup (EY [V.int a,.int b,.int c,.int d,.int g] none (some 4)))) l1 ([a,b,c,d].map V.int):=Ah.of Al;generalize upd H l1 (.tup (EY [V.int a,.int b,.int c,.int d,.int g] none (some 4)))=H1 at v T1 ⊢;refine⟨l1,U,⟨_,T1⟩,λacc j=>?_⟩;refine qg (ns:=[a,b,c,d]) (fr:=[]) (λi=>.int (i*i)) T1 (show 4<=sizeLine by decide) j (λi H2 N hi W O=>?_) (λH2 D M=>?_)
 ·have A:Sz n i:=by
   rcases Cw.mp hi with rfl | hi
   ·exact s
   ·rcases Cw.mp hi with rfl | hi
    ·exact l
    ·rcases Cw.mp hi with rfl | hi
     ·exact q
     ·rw[GK.mp hi];exact t
  exact⟨_,U,_,U,_,_,U,U,e A A,O⟩
 have f:=v.trans D;have T2:Ah K H2 p [.int a,.int b,.int c,.int d,.int g]:=f.tup S;refine⟨acc,[a*a,b*b,c*c,d*d],U,Ai.of M,?_⟩;have T:[a*a,b*b,c*c,d*d].sum=tt a b c d:=by
  show a*a+(b*b+(c*c+(d*d+0)))=a*a+b*b+c*c+d*d;lia
 rw[T];refine⟨_,U,p,_,_,_,U,U,T2,U,_,U,p,_,_,_,U,U,T2,U,_,_,U,U,e s l,_,U,p,_,_,_,U,U,T2,U,_,U,p,_,_,_,U,U,T2,U,_,_,U,U,e l q,_,_,U,U,?_⟩;refine⟨_,U,p,_,_,_,U,U,T2,U,_,U,p,_,_,_,U,U,T2,U,_,_,U,U,e q t,_,_,U,U,_,U,p,_,_,_,U,U,T2,U,_,U,p,_,_,_,U,U,T2,U,_,_,U,U,e t s,_,_,U,U,?_⟩;refine⟨_,U,_,U,_,U,p,_,_,_,U,U,T2,U,_,_,U,U,.inl ⟨by decide,by decide⟩,_,_,U,U,⟨1,Qn,by lia,by lia⟩,?_⟩;have e5:(1:Int)*2^(2*g).toNat=p2 g*p2 g:=by
  unfold p2;rw[PX,<-Int.pow_add];congr 1;lia
 refine⟨tt a b c d,rr a b c d,p2 g*p2 g,?_,JD (Ed _) (Ed _),((WT (n:=1001) (h:=g) (by lia)).mul (WT (n:=1001) (h:=g) (by lia))).mono (by decide),λr I x y z L C l3=>kk r I x y z (f.trans L) C l3⟩;show [V.int (tt a b c d),V.int (a*b+b*c+c*d-d*a),V.int (1*2^(2*g).toNat)]=_;rw[e5];rfl
end
end Av
set_option maxHeartbeats 1000000
namespace Cj
open L2 Am Pc Ba FN Ci Hw Lk Lq
abbrev Mk:=Nat×Nat×Nat
abbrev Bf:=Nat->A5
abbrev Wy:=List Nat×Bf
abbrev Hd (c:Nat)(g:Bf):Prop:=∃j,j<2^c/\g j≠nought
abbrev Hb (m:Mk)(o c:Nat)(f g:Bf):Prop:=Jf m.1 m.2.1 m.2.2 (sg o) (2^c) f g
open Classical in
noncomputable def hf (m:Mk) (o:Nat) (g:Bf):Bf:=λw=>if h:∃z,Bh (sg o) (g w) (BP m.1 m.2.1 m.2.2 g w) z then h.choose else nought
variable{m:Mk}{o c:Nat}{f g:Bf}
theorem Lf{w:Nat}(h:Hb m o c f g)(hw:w<2^c):g w=hf m o f w:=by
 have e:∃z,Bh (sg o) (f w) (BP m.1 m.2.1 m.2.2 f w) z:=⟨_,h w hw⟩;unfold hf;rw[dif_pos e];exact(h w hw).unique e.choose_spec
theorem Rp(h:Hb m o c f g):Hb m o c f (hf m o f):=λv a=>by
 rw[<-Lf h a];exact h v a
open Classical in
noncomputable def st (c:Nat) (m:Mk) (x:Wy):List Wy:=([0,1].filter λo=>decide (Hd c (hf m o x.2))).map λo=>(x.1++[o],hf m o x.2)
noncomputable def nx (c:Nat) (W:List Wy) (m:Mk):List Wy:=W.flatMap (st c m)
noncomputable def wT (c:Nat)(W:List Wy)(M:Int):Int:=(W.map λx=>Ar x.2 (2^c) M).sum
noncomputable def wS (c:Nat)(W:List Wy)(M:Int):Int:=(W.map λx=>Ag x.2 (2^c) M).sum
theorem qG(c:Nat)(M:Int)(V W:List Wy):wT c (V++W) M=wT c V M+wT c W M:=by unfold wT;rw[Dj,g_]
theorem qF(c:Nat)(M:Int)(V W:List Wy):wS c (V++W) M=wS c V M+wS c W M:=by unfold wS;rw[Dj,g_]
theorem jz{M:Int}(a:∀w,w<2^c->Fv (g w))(n:¬ Hd c g):Ar g (2^c) M=0/\Ag g (2^c) M=0:=by
 rcases j4 (M:=M) (2^c) a with ⟨x,y,_⟩ | ⟨_,w,hw,nw⟩
 ·exact⟨x,y⟩
 ·exact absurd ⟨w,hw,nw⟩ n
theorem Vw{x:Wy}{g0 g1:Bf}(hl:m.2.1<2^c)(h0:Hb m 0 c x.2 g0)(h1:Hb m 1 c x.2 g1):∃f,∀M,f<=M->wT c (st c m x) M=Ar x.2 (2^c) M/\wS c (st c m x) M=Ag x.2 (2^c) M:=by
 have k0:=Rp h0;have k1:=Rp h1;obtain⟨f,e⟩:=Y2l hl k0 k1;refine⟨f,λM h=>?_⟩;obtain⟨n,j⟩:=e M h;have l:∀w,w<2^c->Fv (hf m 0 x.2 w):=λw d=>(k0 w d).amt;have g:∀w,w<2^c->Fv (hf m 1 x.2 w):=λw d=>(k1 w d).amt;rw[<-n,<-j];unfold st wT wS;by_cases q0:Hd c (hf m 0 x.2)
 ·by_cases q1:Hd c (hf m 1 x.2)
  ·rw[Ui (by simpa using q0),Ui (by simpa using q1)];constructor<;>simp
  ·obtain⟨b,a⟩:=jz (M:=M) g q1;rw[Ui (by simpa using q0),Wv (by simpa using q1)];constructor<;>simp[b,a]
 ·obtain⟨b,a⟩:=jz (M:=M) l q0;rw[Wv (by simpa using q0)];by_cases q1:Hd c (hf m 1 x.2)
  ·rw[Ui (by simpa using q1)];constructor<;>simp[b,a]
  ·obtain⟨i,k⟩:=jz (M:=M) g q1;rw[Wv (by simpa using q1)];constructor<;>simp[b,a,i,k]
open Classical in
noncomputable def wy (c:Nat):List Mk->List Nat->Bf->Option Bf
 | m::ms,o::os,g=>if Hd c (hf m o g) then wy c ms os (hf m o g) else none
 | [],_,g=>some g
 | _::_,[],g=>some g
theorem sG{c:Nat}{m:Mk}{o:Nat}:∀(ms:List Mk) (os:W9) (g:Bf),ms.length=os.length->wy c (ms++[m]) (os++[o]) g=(wy c ms os g).bind λg'=>wy c [m] [o] g'
 | [],[],g,_=>rfl
 | [],_::_,_,h=>nomatch h
 | _::_,[],_,h=>nomatch h
 | a::ms,b::os,g,h=>by
  have h:ms.length=os.length:=Nat.succ.inj h;show wy c (a::(ms++[m])) (b::(os++[o])) g=_;unfold wy;by_cases q:Hd c (hf a b g)
  ·rw[if_pos q,if_pos q];exact sG ms os _ h
  ·rw[if_neg q,if_neg q];rfl
noncomputable def ao:Nat->List (List Nat)
 | 0=>[[]]
 | j+1=>(ao j).flatMap λo=>[o++[0],o++[1]]
theorem jh:∀(j:Nat) {o:W9},o∈ao j->o.length=j/\∀e∈o,e<2
 | 0,o,h=>by
  rw[GK.mp h];exact⟨U,λe a=>nomatch a⟩
 | j+1,o,h=>by
  obtain⟨o',h',h2⟩:=List.mem_flatMap.mp h;obtain⟨l,al⟩:=jh j h';have two:∀k,k<2->(o'++[k]).length=j+1/\∀e∈o'++[k],e<2:=λk b=>by
   refine⟨by rw[DN,l];rfl,λe a=>?_⟩;rcases Ho.mp a with a | a
   ·exact al e a
   ·rw[GK.mp a];exact b
  rcases Cw.mp h2 with rfl | h2
  ·exact two 0 (by decide)
  ·rw[GK.mp h2];exact two 1 (by decide)
noncomputable def ws (c:Nat) (f:Bf) (ms:List Mk):List Wy:=ms.foldl (nx c) [([],f)]
theorem O1(c:Nat)(f:Bf)(ms:List Mk)(m:Mk):ws c f (ms++[m])=nx c (ws c f ms) m:=by unfold ws;rw[List.foldl_append];rfl
noncomputable def go (c:Nat) (f:Bf) (ms:List Mk) (o:W9):Option Wy:=(wy c ms o f).map λg=>(o,g)
theorem X7r{o:W9}:st c m (o,g)=[o++[0],o++[1]].filterMap λo'=>(wy c [m] [o'.getLastD 0] g).map λg'=>(o',g'):=by
 unfold st;have a:∀k,wy c [m] [k] g=if Hd c (hf m k g) then some (hf m k g) else none:=λk=>by
  unfold wy;by_cases q:Hd c (hf m k g)
  ·rw[if_pos q,if_pos q];rfl
  ·rw[if_neg q,if_neg q]
 have g0:∀k:Nat,(o++[k]).getLastD 0=k:=λk=>by simp
 simp only[Pq,Zf,g0,a];by_cases q0:Hd c (hf m 0 g)<;>by_cases q1:Hd c (hf m 1 g)<;>simp[q0,q1,List.filter_cons]
theorem YD(c:Nat)(f:Bf):∀(n:Nat) (ms:List Mk),ms.length=n->ws c f ms=(ao n).filterMap (go c f ms)
 | 0,ms,h=>by
  rw[Uj.mp h];rfl
 | n+1,ms,h=>by
  obtain⟨a,m,rfl⟩:∃a m,ms=a++[m]:=by
   refine⟨ms.dropLast,ms.getLast (λe=>by rw[e]at h;cases h),?_⟩;exact(List.dropLast_concat_getLast _).symm
  have h':a.length=n:=by rw[DN]at h;exact Nat.succ.inj h
  rw[O1,YD c f n a h'];show ((ao n).filterMap (go c f a)).flatMap (st c m)=((ao n).flatMap λo=>[o++[0],o++[1]]).filterMap (go c f (a++[m]));rw[List.filterMap_flatMap];have all:∀l:List (List Nat),(∀o∈l,o.length=n)->(l.filterMap (go c f a)).flatMap (st c m)=l.flatMap λo=>[o++[0],o++[1]].filterMap (go c f (a++[m])):=by
   intro l;induction l with
   | nil=>intro _;rfl
   | cons o l d =>
    intro j;have d:=d λo' i=>j o' (Mv _ i);have lo:=j o (K_ ..);rw[ZX,<-d,Pq];have one:∀k,go c f (a++[m]) (o++[k])=((wy c a o f).bind λg'=>wy c [m] [k] g').map λg=>(o++[k],g):=λk=>by
     unfold go;rw[sG a o f (by lia)]
    have g0:∀k:Nat,(o++[k]).getLastD 0=k:=λk=>by simp
    cases e:wy c a o f with
    | none =>
     have b:go c f a o=none:=by unfold go;rw[e];rfl
     rw[b];simp only[Pq,Zf,one,e,Option.bind_none,Option.map_none,Wc]
    | some g =>
     have b:go c f a o=some (o,g):=by unfold go;rw[e];rfl
     rw[b];simp only[ZX,X7r];simp only[Pq,Zf,one,e,Option.bind_some,g0]
  exact all _ λo i=>(jh n i).1
end Cj
namespace L2
def Sy (K:U0):R2:=λx y H Q=>∃a b xs ys,x=.ref a/\y=.ref b/\Ah K H a xs/\Ah K H b ys/\xs.length+ys.length<=sizeLine/\(xs=[]->Q (.ref b) H)/\(xs≠[]->ys≠[]/\∀p,H p=none->Q (.ref p) (upd H p (.tup (xs++ys))))
theorem X2c{X:Cx}:DP X (binaryOp .Add) (Sy X.K):=by
 intro pins s σ H x y v u Q I t r h;obtain⟨a,b,xs,ys,rfl,rfl,q,w,G,B,k⟩:=h;by_cases e:xs=[]
 ·cases t;cases r;obtain⟨its,E,F,_⟩:=I.tuple q;obtain⟨l,L,p2,_⟩:=I.tuple w;have D:its=[]:=E.nil_iff.mpr e;obtain⟨⟨cls,dd,data,J⟩,p,m,n,o⟩:=F;obtain⟨⟨A,i,g,j⟩,d,f,C,c⟩:=p2;simp only at m o f c;subst m o f c;exact gR ⟨_,p,U⟩ ⟨_,d,U⟩ ZS gb Zy Z_ (aH _ _) (tuple_addW0 a b _ _ n C dd i J j (by simp[D])) ⟨p,d,.ref b,H,I,U,B e⟩
 ·exact X2b pins s σ H _ _ v u Q I t r ⟨a,b,xs,ys,U,U,q,w,e,G,λz=>absurd z (k e).1,λz=>(k e).2⟩
def Nx (K:U0):R2:=λx y H Q=>∃a b xs ys,x=.ref a/\y=.ref b/\Ah K H a xs/\Ah K H b ys/\ys≠[]/\xs.length+ys.length<=sizeLine/\∀(p:Y9) (H':Hp),Same H H'->Ah K H' p (xs++ys)->Q (.ref p) H'
theorem qy{X:Cx}:DP X (binaryOp .Add) (Nx X.K):=by
 intro pins s σ H x y v u Q I i f h;obtain⟨a,b,xs,ys,rfl,rfl,d,c,ne,g,q⟩:=h;refine X2c pins s σ H _ _ v u Q I i f ⟨a,b,xs,ys,U,U,d,c,g,λe=>q b H (Same.refl _) ?_,λ_=>⟨ne,λp hp=>q p _ (Aw hp _) (Ah.of Al)⟩⟩;rw[e];exact c
end L2
namespace Av
open L2 Am Pc Ba Hw FN Ci Lq
open Lk hiding Hy
open Pt hiding Fp
open Cj (Mk Bf Wy Hd Hb hf Lf Rp nx wT wS Vw)
noncomputable abbrev oV (o:W9):List V:=o.map λi:Nat=>V.int (i:Int)
variable{H:Hp}{l:Y9}{ps:U3}{f:Nat->A5}{c n m:Nat}
theorem Bd.to{f':Nat->A5}(b:Bd H l ps f c n m)(e:∀w,w<2^c->f w=f' w):Bd H l ps f' c n m :=
 ⟨b.lst,b.len,λi q a=>(by rw[<-e i (by have:=(DW.mp a).1;have:=b.len;lia)];exact b.vals i q a),λi hi=>by rw[<-e i hi];exact b.ok i hi⟩
variable{lf:Y9}{xs ys:List V}
theorem Bd.upd(b:Bd H l ps f c n m)(h:H lf=some (.lst xs))(ne:l≠lf):Bd (upd H lf (.lst ys)) l ps f c n m:=⟨by rw[Bw ne];exact b.lst,b.len,V2 b.vals h,b.ok⟩
variable{p:Y9}
theorem Rh{K:U0}{zs:List V}(h:Ah K H p zs)(e:H l=some (.lst xs)):Ah K (upd H l (.lst ys)) p zs:=by
 rcases h with h | h
 ·rcases h with h | ⟨o,h⟩
  ·exact .inl (.inl (by rw[Bw (Ie h e (by intro z;cases z))];exact h))
  ·exact .inl (.inr ⟨o,by rw[Bw (Ie h e (by intro z;cases z))];exact h⟩)
 ·exact .inr h
def Cu (K:U0)(N:Addr->Prop)(H:Hp)(p:Y9)(x:Wy)(c n m:Nat):Prop:=∃(ao ab:Y9) (bs:U3),N ab/\H p=some (.tup [.ref ao,.ref ab])/\Ah K H ao (oV x.1)/\Bd H ab bs x.2 c n m
def Nw (H0:Hp)(lf:Y9):Addr->Prop:=λa=>a≠lf/\H0 a=none
section
variable {K:U0}
variable{N N':Addr->Prop}{x:Wy}
theorem Cu.imp(w:Cu K N H p x c n m)(hN:∀a,N a->N' a):Cu K N' H p x c n m:=by
 obtain⟨ao,ab,bs,b,r⟩:=w;exact⟨ao,ab,bs,hN _ b,r⟩
theorem Cu.same{H':Hp}(w:Cu K N H p x c n m)(s:Same H H'):Cu K N H' p x c n m:=by
 obtain⟨ao,ab,bs,d,e,a,b⟩:=w;exact⟨ao,ab,bs,d,s _ _ e,s.tup a,b.same s⟩
theorem Cu.upd{H0:Hp}(w:Cu K (Nw H0 lf) H p x c n m)(h:H lf=some (.lst xs)):Cu K (Nw H0 lf) (upd H lf (.lst ys)) p x c n m:=by
 obtain⟨ao,ab,bs,d,a,g,b⟩:=w;have f:p≠lf:=λe=>by rw[e,h]at a;cases a
 exact⟨ao,ab,bs,d,by rw[Bw f];exact a,Rh g h,b.upd h d.1⟩
def Dt (K:U0)(N:Addr->Prop)(H:Hp)(ps:U3)(W:List Wy)(c n m:Nat):Prop:=ps.length=W.length/\∀(i:Nat) (p:Y9) (x:Wy),ps[i]?=some p->W[i]?=some x->Cu K N H p x c n m
variable{W:List Wy}
theorem Dt.same{H':Hp}(w:Dt K N H ps W c n m)(s:Same H H'):Dt K N H' ps W c n m:=⟨w.1,λi p x a b=>(w.2 i p x a b).same s⟩
theorem Dt.imp(w:Dt K N H ps W c n m)(hN:∀a,N a->N' a):Dt K N' H ps W c n m:=⟨w.1,λi p x a b=>(w.2 i p x a b).imp hN⟩
theorem Dt.push{H0:Hp}(w:Dt K (Nw H0 lf) H ps W c n m)(e:Cu K (Nw H0 lf) H p x c n m)(h:H lf=some (.lst xs)):Dt K (Nw H0 lf) (upd H lf (.lst ys)) (ps++[p]) (W++[x]) c n m:=by
 refine⟨by rw[DN,DN,w.1];rfl,λi q y a b=>?_⟩;by_cases hi:i<ps.length
 ·rw[J8 hi]at a;rw[J8 (by rw[<-w.1];exact hi)]at b;exact(w.2 i q y a b).upd h
 ·have d:=(DW.mp a).1;rw[DN]at d;have f:i=ps.length:=by simp only[J7]at d;lia
  rw[f]at a b;rw[Oh]at a;rw[w.1,Oh]at b;cases a;cases b;exact e.upd h
end
open Classical in
noncomputable def part (c:Nat) (m:Mk) (x:Wy) (j:Nat):List Wy:=(([0,1].take j).filter λo=>decide (Hd c (hf m o x.2))).map λo=>(x.1++[o],hf m o x.2)
theorem X5h(c:Nat)(m:Mk)(x:Wy):part c m x 0=[]:=rfl
theorem X1u{m:Mk}{x:Wy}{j:Nat}(hj:j<2)(h:Hd c (hf m j x.2)):part c m x (j+1)=part c m x j++[(x.1++[j],hf m j x.2)]:=by
 have:j=0\/j=1:=by lia
 unfold part;rw[Jk,Q6,Dj];rcases this with rfl | rfl<;>simp[h]
theorem zO{m:Mk}{x:Wy}{j:Nat}(hj:j<2)(h:¬ Hd c (hf m j x.2)):part c m x (j+1)=part c m x j:=by
 have:j=0\/j=1:=by lia
 unfold part;rw[Jk,Q6,Dj];rcases this with rfl | rfl<;>simp[h]
theorem jq(c:Nat):∀(W:List Wy) (k:Mk),(nx c W k).length<=2*W.length
 | [],k=>BX _
 | x::W,k=>by
  have a:=jq c W k;have h:(Cj.st c k x).length<=2:=by
   unfold Cj.st;rw[BL];exact CZ (Uh _ _) (by decide)
  unfold nx at a ⊢;rw[ZX,DN,Pj];lia
theorem zN(c:Nat)(m:Mk)(x:Wy)(j:Nat):(part c m x j).length<=2:=by
 unfold part;rw[BL];refine CZ (Uh _ _) ?_;rw[JG];exact Nat.min_le_right _ _
def Hs (c:Nat)(V W:List Wy):Prop:=∃M0:Int,∀M,M0<=M->wT c V M=wT c W M/\wS c V M=wS c W M
def tW (K:U0):Sp:=λvs H Q _=>∃(l p:Y9) (ps:U3) (W:List Wy) (c n m:Nat) (k:Mk),vs=[.ref l,.ref p]/\H l=some (.lst (ps.map V.ref))/\Dt K (λ_=>True) H ps W c n m/\c<=6/\n<=100000/\m<=10000/\W.length<=64/\(∀x∈W,x.1.length<=64)/\H p=some (M3 k.1 k.2.1 k.2.2)/\k.2.1<2^c /\
 ∀(r:Y9) (H':Hp) (qs:U3),H r=none->Same H H'->H' r=some (.lst (qs.map V.ref))->Dt K (λa=>H a=none) H' qs (nx c W k) c (n+2*m+2) (m+1)->Hs c (nx c W k) W->Q (.ref r) H'
section
variable {P:U8}{w:W5}{K:U0}{mg:U4}{base:Heap}{k:Nat}{h:Heap}
theorem Y4n(F:Ab K "ways_on" (top 52) .none)(X:K.In h)(G:Ng h mg)(cR:Aj P w K mg base k "half_left" ["board","mark","outcome"] jA)(cP:Aj P w K mg base k "is_nothing" ["amounts"] jW):Aj P w K mg base (k+1) "ways_on" ["ways","mark"] (tW K):=by
 refine F.cal X G ["ways","mark","further","outs","behind","outcome","left"] λZ H vs Q E hr h=>?_;obtain⟨l,p,ps,W,c,n,m,d,rfl,hl,WS,c6,n5,m4,b4,a8,hm,S,kq⟩:=h
 refine⟨_,(@Ao _ _ _ _ _ (@BR _ _ 2 _ _ _ _ Z rfl (Or.inl rfl) (@Ii _ _ _ _ Ae) rfl (.inl rfl))
  (@Ao _ _ _ _ _ (Gf PassesOwn.never rfl (Es (pv 0)) (@QK _ _ _ _ _ _ rfl (@FZ _ _ _ _ _ (@Bq _ _ 3 _ Z rfl (Or.inl rfl) (by first | exact .inl rfl | exact .inr rfl)) (@FZ _ _ _ _ _ (@Bq _ _ 4 _ Z rfl (Or.inl rfl) (by first | exact .inl rfl | exact .inr rfl)) QV rfl) rfl) rfl rfl)
   (@Aq _ _ _ (Gf PassesOwn.never rfl (RT (@Cq _ _ _ _ _ (Aa Ac (Aa Ac Ae)))) (Bq (i:=5) Z rfl (Or.inl rfl))
    (@Ao _ _ _ _ _ (@BR _ _ 6 _ _ _ _ Z rfl (Or.inl rfl) (A_ cR hr rfl (Aa (pv 4) (Aa (pv 1) (Aa (pv 5) Ae)))) rfl (.inl rfl))
    (@Aq _ _ _ (Cd (Ec (Cr (A_ cP hr rfl (Aa (pv 6) Ae))))
     (@Aq _ _ _ (NT (V9 Uk Ul Um Qd (pv 2) (Aa (@Cq _ _ _ _ _ (Aa (Af qy (pv 3) (@Cq _ _ _ _ _ (Aa (pv 5) Ae))) (Aa (pv 6) Ae))) Ae))))
     Ce))))))
  (@Aq _ _ _ (BW (pv 2))))),?_⟩
 try dsimp only[Bv]
 refine⟨Lx (by decide),λlf I=>?_⟩;have s0:=Aw I (.lst []);refine⟨_,U,l,U,⟨_,Ai.of (s0 _ _ hl)⟩,KN (K:=K) (a:=l) (xs:=ps.map V.ref) (λi σ H'=>Same H H'/\∃(fs:U3) (v3 v4 v A:Option V),H' lf=some (.lst (fs.map V.ref))/\Dt K (Nw H lf) H' fs (nx c (W.take i) d) c (n+2*m+2) (m+1)/\Hs c (nx c (W.take i) d) (W.take i)/\σ=[some (.ref l),some (.ref p),some (.ref lf),v3,v4,v,A]) ?_ (λi σ H' _ e=>Ai.of (e.1 _ _ hl)) ?_ ?_⟩
 ·exact⟨s0,[],none,none,none,none,Al,⟨U,λi p x hp=>nomatch hp⟩,⟨0,λM _=>⟨U,U⟩⟩,U⟩
 ·rintro i y σ H1 Y ⟨S1,fs,v3,v4,v,A,C,W1,Z1,rfl⟩;rw[Cp]at Y;obtain⟨p1,a6,rfl⟩:=Dm.mp Y;have il:i<W.length:=by rw[<-WS.1];exact(DW.mp a6).1
  have O:W[i]?=some W[i]:=Cv il;generalize W[i]=x at O;obtain⟨o,g⟩:=x;obtain⟨ao,ab,bs,_,e1,e2,BD⟩:=WS.2 i p1 _ a6 O;have ol:o.length<=64:=a8 _ (Hq O);refine⟨p1,_,U,Ah.of (S1 _ _ e1),U,_,_,U,_,_,U,U,?_⟩;have b5:=S1 _ _ hm;have T:nx c (W.take (i+1)) d=nx c (W.take i) d++Cj.st c d (o,g):=by
   unfold nx;rw[Jk,O,Oc,List.flatMap_append,List.flatMap_singleton]
  refine⟨t2,λlt a7=>?_⟩;have s2:=Aw a7 (.tup [.int 0,.int 1]);have T2:Ah K (upd H1 lt (.tup [.int 0,.int 1])) lt [.int 0,.int 1]:=Ah.of Al;have N:=s2 _ _ C;have W2:=W1.same s2;have S2:=S1.trans s2;generalize upd H1 lt (.tup [.int 0,.int 1])=H2 at s2 T2 N W2 S2 ⊢;refine⟨lt,U,⟨_,T2⟩,qX (K:=K) (a:=lt) (xs:=[.int 0,.int 1]) (λj σ H'=>Same H H'/\∃(fs:U3) (v A:Option V),Ah K H' lt [.int 0,.int 1]/\H' lf=some (.lst (fs.map V.ref))/\Dt K (Nw H lf) H' fs (nx c (W.take i) d++part c d (o,g) j) c (n+2*m+2) (m+1)/\(∀k,k<j->∃g',Hb d k c g g')/\σ=[some (.ref l),some (.ref p),some (.ref lf),some (.ref ao),some (.ref ab),v,A]) ?_ (λj σ H' _ e=>by obtain⟨_,_,_,_,e,_⟩:=e;exact e) ?_ ?_⟩
  ·exact⟨S2,fs,v,A,T2,N,by rw[X5h,Qx];exact W2,λk hk=>absurd hk (JF _),U⟩
  ·rintro j y σ H3 Y ⟨S3,fs,v,A,R,f,L,X3,rfl⟩;have hj:j<2:=(DW.mp Y).1;obtain rfl:y=.int (j:Int):=by
    have:j=0\/j=1:=by lia
    rcases this with rfl | rfl<;>cases Y<;>rfl
   refine⟨_,U,_,U,_,U,ab,p,bs,g,c,n,m,d.1,d.2.1,d.2.2,j,U,BD.same S3,c6,n5,m4,S3 _ _ hm,S,hj,λr H4 qs g' fr S4 B4 hb=>?_⟩;have hd:Hd c (hf d j g)↔∃i,i<2^c/\g' i≠nought:=⟨λ⟨i,hi,z⟩=>⟨i,hi,by rw[Lf hb hi];exact z⟩,λ⟨i,hi,z⟩=>⟨i,hi,by rw[<-Lf hb hi];exact z⟩⟩;have X4:∀k,k<j+1->∃g',Hb d k c g g':=λk hk=>by
    by_cases e:k=j
    ·rw[e];exact⟨g',hb⟩
    ·exact X3 k (by lia)
   have b2:=S3.trans S4;refine⟨_,U,r,qs,g',c,_,_,U,B4,c6,λb H5 S5 a0=>?_⟩;have a5:=b2.trans S5;have s:=S4.trans S5;cases b with
   | true =>
    refine⟨_,U,Ay ?_⟩;have nh:¬ Hd c (hf d j (o,g).2):=λz=>by
     obtain⟨i,hi,ne⟩:=hd.mp z;exact ne (a0.mp rfl i hi)
    exact⟨a5,fs,_,_,s.tup R,s _ _ f,by rw[zO hj nh];exact L.same s,X4,U⟩
   | false =>
    refine⟨_,U,Df ?_⟩
    have yh:Hd c (hf d j (o,g).2):=hd.mpr (Classical.byContradiction λz=>by
     have:=a0.mpr λi hi=>Classical.byContradiction λq=>z ⟨i,hi,q⟩
     cases this)
    have b3:=s _ _ f;refine⟨_,U,.inl ⟨U,_,Ai.of b3⟩,_,U,_,U,(show 1<=sizeLine by decide),λB h1=>?_⟩;have s6:=Aw h1 (.tup [.int (j:Int)]);have e6:Ah K (upd H5 B (.tup [.int (j:Int)])) B [.int (j:Int)]:=Ah.of Al;generalize upd H5 B (.tup [.int (j:Int)])=H6 at s6 e6 ⊢;refine⟨ao,B,oV o,[.int (j:Int)],U,U,((a5.trans s6).tup e2),e6,(by intro z;cases z),?_,λu H7 S7 e7=>?_⟩
    ·rw[BL];exact CZ (show o.length+1<=65 by lia) (by decide)
    refine⟨_,U,(show 2<=sizeLine by decide),λp' a9=>?_⟩;have s8:=Aw a9 (.tup [.ref u,.ref r]);have e8:upd H7 p' (.tup [.ref u,.ref r]) p'=some (.tup [.ref u,.ref r]):=Al;generalize upd H7 p' (.tup [.ref u,.ref r])=H8 at s8 e8 ⊢;have J:=S5.trans (s6.trans (S7.trans s8));have t:=S4.trans J;have D:=t _ _ f;have fl:fs.length<=140:=by
     rw[L.1,DN];have B:=jq c (W.take i) d;have u:=zN c d (o,g) j;rw[JG]at B;lia
    refine⟨lf,_,_,U,U,D,(by rw[BL];exact Q8 fl (by decide)),?_⟩;have rl:r≠lf:=λz=>by rw[z,f]at fr;cases fr
    have WA:Cu K (Nw H lf) H8 p' (o++[j],hf d j g) c (n+2*m+2) (m+1):=⟨u,r,qs,⟨rl,S3.free fr⟩,e8,(by have:=s8.tup e7;rw[show oV (o++[j])=oV o++[.int (j:Int)] by unfold oV;rw[Dj];rfl];exact this),(B4.same J).to λw hw=>Lf hb hw⟩;refine⟨El (S3.trans t) I,fs++[p'],_,_,Rh (t.tup R) D,(by rw[Al,Dj];rfl),?_,X4,U⟩;rw[X1u hj yh,<-K8];exact Dt.push (L.same t) WA D
  ·rintro σ H3 ⟨S3,fs,v,A,_,f,L,X3,rfl⟩;obtain⟨g0,b0⟩:=X3 0 (by decide);obtain⟨g1,b1⟩:=X3 1 (by decide);refine⟨S3,fs,_,_,_,_,f,by rw[T];exact L,?_,U⟩;obtain⟨M1,q1⟩:=Z1;obtain⟨M2,q2⟩:=Vw (x:=(o,g)) S b0 b1;refine⟨max M1 M2,λM hM=>?_⟩;obtain⟨B,u⟩:=q1 M (by lia);obtain⟨a3,a4⟩:=q2 M (by lia);rw[T,Jk,O,Oc,Cj.qG,Cj.qF,Cj.qG,Cj.qF,B,u,a3,a4];have e1:wT c [(o,g)] M=Ar g (2^c) M:=N5 _;have e2:wS c [(o,g)] M=Ag g (2^c) M:=N5 _;rw[e1,e2];exact⟨U,U⟩
 ·rintro σ H1 ⟨S1,fs,v3,v4,v,A,C,W1,Z1,rfl⟩;rw[BL,WS.1,OJ]at W1 Z1;exact⟨_,U,kq lf H1 fs I S1 C (W1.imp λ_ z=>z.2) Z1⟩
end
end Av
set_option maxHeartbeats 4000000
namespace L2
theorem yV{K:U0}{a:Y9}{xs:List V}{g:TG}{te:TE}{fr:St}{H1:Hp}{acc:Y9}{Q:VK}(Pv:Nat->List V->Hp->Prop)(hn:xs.length<=sizeLine)(h0:Pv 0 [] (upd H1 acc (.lst [])))
  (hl:∀i ys H,Pv i ys H->Ai K H a xs)
  (hs:∀i x ys H (N:St->V->Hp->Prop) (w1 w2:Option V),xs[i]?=some x->ys.length=i->Pv i ys H->(∀v1 v2 y b,b acc=some (.lst ys)->Pv (i+1) (ys++[y]) (upd b acc (.lst (ys++[y])))->N (v1::v2::fr) y b)->g x (w1::w2::fr) H λc l=>te c l (N c))
  (hd:∀ys H,ys.length=xs.length->Pv xs.length ys H->Q (.ref acc) H):IV (KZ K a) g te (none::none::fr) H1 acc Q:=by
 refine⟨λi m ys f H2=>m=xs.length-i/\i<=xs.length/\ys.length=i/\(∃v1 v2,f=v1::v2::fr)/\Pv i ys H2,⟨xs.length,by simp,Fg _,U,⟨_,_,U⟩,h0⟩,?_⟩;rintro i m ys f H2 ⟨rfl,hi,d,⟨v1,v2,rfl⟩,p⟩;by_cases hlt:i<xs.length
 ·have k:xs[i]?=some xs[i]:=by simp[hlt]
  refine .inr ⟨⟨xs,_,hl i ys H2 p,k⟩,λx r h=>?_⟩;obtain⟨rfl,q⟩:=h;exact hs i x ys _ (λc y b=>b acc=some (.lst ys)/\ys.length<sizeLine/\∃m',m'<xs.length-i/\_) _ _ (q xs (hl i ys _ p)) d p λo s y b n j=>⟨n,by lia,xs.length-(i+1),by lia,U,hlt,by simp[d],⟨_,_,U⟩,j⟩
 ·have e:i=xs.length:=by lia
  subst e;exact .inl ⟨⟨xs,hl _ ys H2 p,BX _⟩,hd ys H2 d p⟩
end L2
set_option maxHeartbeats 1000000
namespace Av
open L2 Am Pc Ba Hw FN Ci Lq
open Lk hiding Hy
open Pt hiding Fp
open Cj (Mk Bf Wy Hd Hb hf Lf Rp nx wT wS Vw ws O1)
theorem rC{α:Type}{p:List α->Prop}(h0:p [])(h1:∀l a,p l->p (l++[a]))(l:List α):p l:=by
 have:∀r:List α,p r.reverse:=λr=>by
  induction r with
  | nil=>exact h0
  | cons a r ih=>rw[List.reverse_cons];exact h1 _ _ ih
 have:=this l.reverse;rwa [Zr]at this
def Mi (H:Hp)(c:Nat):List Addr->List Mk->Prop:=Paired λp k=>Look H p c k.1 k.2.1 k.2.2
variable{H H':Hp}{c:Nat}
theorem Mi.same{ps:U3}{ks:List Mk}(l:Mi H c ps ks)(s:Same H H'):Mi H' c ps ks:=Paired.imp' (λ_ _ e=>e.same s) l
theorem RX{H:Hp}{c:Nat}:∀{ps:U3}{ks:List Mk}{i:Nat}{p:Y9},Mi H c ps ks->ps[i]?=some p->∃k,ks[i]?=some k/\Look H p c k.1 k.2.1 k.2.2
 | _,_,_,_,.nil,h=>by cases h
 | _::_,k::_,0,_,.cons e r,h=>by cases h;exact⟨k,rfl,e⟩
 | _::ps,_::ks,i+1,p,.cons e r,h=>RX (ps:=ps) (ks:=ks) (i:=i) (p:=p) r h
def Cy (K:U0)(N:Addr->Prop)(H:Hp)(f:Nat->A5)(c n m:Nat)(a:Y9)(x:Wy):Prop:=∃(ao sh ab:Y9) (bs:U3) (X Y Z:Int),N ab/\H a=some (.tup [.ref ao,.ref sh,.ref ab])/\Ah K H ao (oV x.1)/\H sh=some (T3 X Y Z)/\Sh f x.2 (2^c) X Y Z/\S3 5800 5800 X Y Z/\Bd H ab bs x.2 c n m
variable{K:U0}{N:Addr->Prop}{f:Nat->A5}{n m:Nat}{a:Y9}{x:Wy}
theorem Cy.same(o:Cy K N H f c n m a x)(s:Same H H'):Cy K N H' f c n m a x:=by
 obtain⟨ao,sh,ab,bs,X,Y,Z,b,h1,h2,e,d,h,g⟩:=o;exact⟨ao,sh,ab,bs,X,Y,Z,b,s _ _ h1,s.tup h2,s _ _ e,d,h,g.same s⟩
theorem Cy.upd{H0:Hp}{lf:Y9}{xs ys:List V}(o:Cy K (Nw H0 lf) H f c n m a x)(h:H lf=some (.lst xs)):Cy K (Nw H0 lf) (upd H lf (.lst ys)) f c n m a x:=by
 obtain⟨ao,sh,ab,bs,X,Y,Z,b,h1,h2,d,e,i,g⟩:=o;exact⟨ao,sh,ab,bs,X,Y,Z,b,by rw[Bw (Ie h1 h (by intro z;cases z))];exact h1,Rh h2 h,by rw[Bw (Ie d h (by intro z;cases z))];exact d,e,i,g.upd h b.1⟩
theorem Cy.any(o:Cy K N H f c n m a x):Cy K (λ_=>True) H f c n m a x:=by
 obtain⟨ao,sh,ab,bs,X,Y,Z,b,r⟩:=o;exact⟨ao,sh,ab,bs,X,Y,Z,trivial,r⟩
theorem j7(c:Nat)(f:Bf)(ks:List Mk):(ws c f ks).length<=2^ks.length:=by
 refine rC (p:=λks=>(ws c f ks).length<=2^ks.length) (BX _) (λks k a=>?_) ks;show (ws c f (ks++[k])).length<=2^(ks++[k]).length;rw[O1,DN,J7,TV];exact CZ (jq c _ k) (by lia)
theorem X0q(c:Nat)(f:Bf)(ks:List Mk):∀x∈ws c f ks,x.1.length=ks.length:=by
 refine rC (p:=λks=>∀x∈ws c f ks,x.1.length=ks.length) (λx a=>?_) (λks k b x a=>?_) ks
 ·rw[GK.mp a];rfl
 ·rw[O1]at a;unfold nx Cj.st at a;obtain⟨y,d,a⟩:=List.mem_flatMap.mp a;obtain⟨o,_,rfl⟩:=GF.mp a;rw[DN,DN,b y d];rfl
theorem Cu.mono{p:Y9}{n' m':Nat}(w:Cu K N H p x c n m)(hn:n<=n')(hm:m<=m'):Cu K N H p x c n' m':=by
 obtain⟨ao,ab,bs,d,e,a,b⟩:=w;exact⟨ao,ab,bs,d,e,a,⟨b.lst,b.len,b.vals,λi hi=>(b.ok i hi).mono hn (by lia)⟩⟩
def Io (K:U0):Sp:=λvs H Q _=>∃(lb lm:Y9) (bs qs:U3) (f:Nat->A5) (c n m:Nat) (ks:List Mk),vs=[.ref lb,.ref lm]/\Bd H lb bs f c n m/\c<=6/\n<=400/\m<=50/\Ij f c/\H lm=some (.lst (qs.map V.ref))/\Mi H c qs ks/\ks.length<=6 /\
 ∀(r:Y9) (H':Hp) (as:U3),H r=none->Same H H'->H' r=some (.lst (as.map V.ref))->Paired (Cy K (Nw H r) H' f c (n+2*(ks.length*(m+ks.length))+2*ks.length) (m+ks.length)) as (ws c f ks)->Hs c (ws c f ks) [([],f)]->Q (.ref r) H'
def Nr:Sp:=λvs H Q _=>∃(lb:Y9) (bs:U3) (f:Nat->A5) (c n m:Nat),vs=[.ref lb]/\Bd H lb bs f c n m/\c<=6/\n<=400/\m<=50/\Ij f c /\
 ∀(r:Y9) (H':Hp) (as:U3) (sh:Nat->Int×Int×Int),H r=none->Same H H'->H' r=some (.lst (as.map V.ref))->as.length=2^c->(∀i a,as[i]?=some a->H' a=some (T3 (sh i).1 (sh i).2.1 (sh i).2.2))->(∀i,i<2^c->∃(hx hy hz wx wy wz:Int),He f (2^c) hx hy hz/\Low (tt (f i).1.1 (f i).1.2.1 (f i).1.2.2.1 (f i).1.2.2.2) (rr (f i).1.1 (f i).1.2.1 (f i).1.2.2.1 (f i).1.2.2.2) (p2 (f i).2*p2 (f i).2) wx wy wz/\Nj wx wy wz hx hy hz (sh i).1 (sh i).2.1 (sh i).2.2/\S3 5800 5800 (sh i).1 (sh i).2.1 (sh i).2.2)->Q (.ref r) H'
section
variable {P:U8}{w:W5}{K:U0}{mg:U4}{base:Heap}{k:Nat}{h:Heap}
theorem JW:Ck ["board","marks","mark","ways","ahead"] ["board","marks"] (DX (top 51)):=fS
theorem X2l(F:Ab K "outcomes" (top 51) .none)(X:K.In h)(G:Ng h mg)(B:Bs mg)(cN:Aj P w K mg base k "check_look" ["mark","cells"] (Ky K))(cJ:Aj P w K mg base k "cells_of" ["board"] (Xv K))(eI:Aj P w K mg base k "ways_on" ["ways","mark"] (tW K))(dA:Aj P w K mg base k "heft" ["board"] Iv)(cQ:Aj P w K mg base k "share_over" ["one","other"] jB):Aj P w K mg base (k+1) "outcomes" ["board","marks"] (Io K):=by
 refine F.cal X G _ (S:=JW) λnd H vs Q E W h=>?_;obtain⟨lb,lm,bs,qs,f,c,n,m,ks,rfl,A,c6,n4,m5,c2,u,LK,k6,kq⟩:=h;have lq:qs.length=ks.length:=Paired.length LK
 refine⟨_,(@Ao _ _ _ _ _ (Gf PassesOwn.never rfl (Es (pv 1)) (Bq (i:=2) nd rfl (Or.inl rfl))
   (@Aq _ _ _ (NT (A_ cN W rfl (Aa (pv 2) (Aa (A_ cJ W rfl (Aa (pv 0) Ae)) Ae))))))
  (@Ao _ _ _ _ _ (@BR _ _ 3 _ _ _ _ nd rfl (Or.inl rfl) (@Ii _ _ _ _ (Aa (@Cq _ _ _ _ _ (Aa (@Cq _ _ _ _ _ Ae) (Aa (V5 X5 rfl B.list Nz (Aa (pv 0) Ae)) Ae))) Ae)) rfl (.inl rfl))
  (@Ao _ _ _ _ _ (Gf PassesOwn.never rfl (Es (pv 1)) (Bq (i:=2) nd rfl (Or.inl rfl))
   (@Aq _ _ _ (@BR _ _ 3 _ _ _ _ nd rfl (Or.inl rfl) (A_ eI W rfl (Aa (pv 3) (Aa (pv 2) Ae))) rfl (.inl rfl))))
  (@Ao _ _ _ _ _ (@BR _ _ 4 _ _ _ _ nd rfl (Or.inr rfl) (A_ dA W rfl (Aa (pv 0) Ae)) rfl (.inl rfl))
  (@Aq _ _ _ (BW (GZ rfl (BZ.of (Nc:=["outs","behind","ahead"]) (mp:=[none,none,some 4]) (by kernel_rfl)) (Es (pv 3)) (λ_ _ _ _=>(Rk rfl (show (["outs","behind","ahead"]:W4).Nodup by decide +kernel) rfl rfl rfl rfl)) (λ_ _ _ _=>(@Cq _ _ _ _ _ (Aa (pv 0) (Aa (A_ cQ W rfl (Aa (A_ dA W rfl (Aa (pv 1) Ae)) (Aa (pv 2) Ae))) (Aa (pv 1) Ae)))))))))))),?_⟩
 try dsimp only[Bv]
 refine⟨_,U,lm,U,⟨_,Ai.of u⟩,KN (K:=K) (a:=lm) (xs:=qs.map V.ref) (λi σ H'=>H'=H/\∃v2,σ=[some (.ref lb),some (.ref lm),v2,none,none]) ⟨U,none,U⟩ (λi σ H' _ e=>by rw[e.1];exact Ai.of u) ?_ ?_⟩
 ·rintro i x σ H1 t ⟨rfl,v2,rfl⟩;rw[Cp]at t;obtain⟨p,hp,rfl⟩:=Dm.mp t;obtain⟨kk,_,lk⟩:=RX LK hp;exact⟨_,U,_,U,lb,_,c,U,Ai.of A.lst,by rw[BL,A.len],c6,_,c,U,lk.tell,U,_,U⟩
 rintro σ H1 ⟨rfl,v2,rfl⟩;refine⟨(show 0<=sizeLine by decide),λv b5=>?_⟩;have s1:=Aw b5 (.tup []);have e1:Ah K (upd H1 v (.tup [])) v (oV []):=Ah.of Al;generalize upd H1 v (.tup [])=H2 at s1 e1 ⊢;refine⟨_,U,lb,_,U,.inl (Ai.of (s1 _ _ A.lst)),λl2 a5=>?_⟩;have s2:=Aw a5 (.lst (bs.map V.ref));have e2:upd H2 l2 (.lst (bs.map V.ref)) l2=some (.lst (bs.map V.ref)):=Al;generalize upd H2 l2 (.lst (bs.map V.ref))=H3 at s2 e2 ⊢;refine⟨(show 2<=sizeLine by decide),λt1 b8=>?_⟩;have J:=Aw b8 (.tup [.ref v,.ref l2]);have e3:upd H3 t1 (.tup [.ref v,.ref l2]) t1=some (.tup [.ref v,.ref l2]):=Al;generalize upd H3 t1 (.tup [.ref v,.ref l2])=H4 at J e3 ⊢;refine⟨(show 1<=sizeLine by decide),λlw b0=>?_⟩;have s4:=Aw b0 (.lst [V.ref t1]);have e4:upd H4 lw (.lst [V.ref t1]) lw=some (.lst [V.ref t1]):=Al;have f4:H1 lw=none:=(s1.trans (s2.trans J)).free b0;generalize upd H4 lw (.lst [V.ref t1])=H5 at s4 e4 ⊢;have S5:=s1.trans (s2.trans (J.trans s4))
 have W0:Dt K (λa=>H1 a=none) H5 [t1] [([],f)] c n m:=⟨U,λi p x hp t=>by
  cases i with
  | zero=>cases hp;cases t;exact⟨v,l2,bs,s1.free a5,s4 _ _ e3,(s2.trans (J.trans s4)).tup e1,⟨(J.trans s4) _ _ e2,A.len,(A.same S5).vals,A.ok⟩⟩
  | succ i=>cases hp⟩
 refine⟨_,U,lm,U,⟨_,Ai.of (S5 _ _ u)⟩,KN (K:=K) (a:=lm) (xs:=qs.map V.ref) (λi σ H'=>Same H1 H'/\∃(l:Y9) (ps:U3) (v2:Option V),H' l=some (.lst (ps.map V.ref))/\Dt K (λa=>H1 a=none) H' ps (ws c f (ks.take i)) c (n+2*(i*(m+i))+2*i) (m+i)/\Hs c (ws c f (ks.take i)) [([],f)]/\σ=[some (.ref lb),some (.ref lm),v2,some (.ref l),none]) ⟨S5,lw,[t1],v2,e4,by rw[gQ,bW];exact W0,⟨0,λM _=>⟨U,U⟩⟩,U⟩ (λi σ H' _ e=>Ai.of (e.1 _ _ u)) ?_ ?_⟩
 ·rintro i x σ H6 t ⟨T,l,ps,v2,I,W6,Z6,rfl⟩;rw[Cp]at t;obtain⟨p,hp,rfl⟩:=Dm.mp t;obtain⟨kk,hk,lk⟩:=RX LK hp;have il:i<ks.length:=(DW.mp hk).1;have tk:ks.take (i+1)=ks.take i++[kk]:=by rw[Jk,hk];rfl
  have C:=j7 c f (ks.take i);have tl:(ks.take i).length=i:=by rw[JG];lia
  have b1:2^i<=64:=CZ (Ib (by decide) (show i<=6 by lia)) (by decide);have nb:n+2*(i*(m+i))+2*i<=100000:=by
   have:=Tj (show i<=6 by lia) (show m+i<=56 by lia);lia
  refine⟨_,U,_,U,l,p,ps,ws c f (ks.take i),c,_,_,kk,U,I,Dt.imp W6 (λ_ _=>trivial),c6,nb,(by lia),(by rw[tl]at C;lia),(λx t=>by rw[X0q c f _ x t,tl];lia),T _ _ lk.at_,lk.fc,λr H7 rs _ S7 c4 O Z7=>?_⟩;refine⟨T.trans S7,r,rs,_,c4,?_,?_,U⟩
  ·rw[tk,O1];refine⟨O.1,λj q x a b=>((O.2 j q x a b).imp λ_ z=>T.free z).mono ?_ (by lia)⟩;have e:(i+1)*(m+(i+1))=i*(m+i)+i+(m+(i+1)):=by rw[gP,<-Nat.add_assoc m i 1,Nat.mul_succ]
   rw[e];lia
  ·rw[tk,O1];obtain⟨M1,q1⟩:=Z6;obtain⟨M2,q2⟩:=Z7;exact⟨max M1 M2,λM hM=>⟨(q2 M (by lia)).1.trans (q1 M (by lia)).1,(q2 M (by lia)).2.trans (q1 M (by lia)).2⟩⟩
 rintro σ H6 ⟨T,l,ps,v2,I,W6,Z6,rfl⟩;rw[BL,lq,OJ]at W6 Z6;have B6:=A.same T;refine⟨_,U,lb,bs,f,c,n,m,U,B6,c6,(by lia),(by lia),λra H7 t hy hz S7 e7 he sx sy sz=>?_⟩;have C:=j7 c f ks;have b1:2^ks.length<=64:=CZ (Ib (by decide) k6) (by decide);have nb:n+2*(ks.length*(m+ks.length))+2*ks.length<=1100:=by
  have:=Tj k6 (show m+ks.length<=56 by lia);lia
 generalize n+2*(ks.length*(m+ks.length))+2*ks.length=n' at W6 nb kq;have mb:m+ks.length<=56:=by lia
 generalize m+ks.length=m' at W6 mb kq;have a4:=S7 _ _ I;have O:=W6.same S7;have a2:(ps.map V.ref).length=(ws c f ks).length:=by rw[BL,O.1]
 have a7:=T.trans S7;have y:=jk he (λw hw=>(B6.ok w hw).amt) (by obtain⟨j,hj,e⟩:=c2;exact⟨j,hj,e⟩);refine⟨_,U,l,U,⟨_,Ai.of a4⟩,λacc s=>?_⟩;refine yV (K:=K) (a:=l) (xs:=ps.map V.ref) (fr:=[some (.ref ra)]) (λj ys H'=>Same H7 H'/\H' acc=some (.lst ys)/\∃R:List Addr,ys=R.map V.ref/\Paired (Cy K (Nw H1 acc) H' f c n' m') R ((ws c f ks).take j)) (by rw[a2];exact CZ C (CZ b1 (by decide))) ⟨Aw s _,Al,[],U,.nil⟩ (λj ys H' e=>Ai.of (e.1 _ _ a4)) ?_ ?_
 ·rintro j x ys H8 NN w1 w2 a6 b3 ⟨N,a8,R,rfl,P8⟩ kN;rw[Cp]at a6;obtain⟨p1,a9,rfl⟩:=Dm.mp a6;have jl:j<(ws c f ks).length:=by rw[<-O.1];exact(DW.mp a9).1
  have L:(ws c f ks)[j]?=some (ws c f ks)[j]:=Cv jl;generalize (ws c f ks)[j]=xw at L;obtain⟨o,g⟩:=xw;obtain⟨ao,ab,bb,nf,c3,b4,a3⟩:=O.2 j p1 _ a9 L;have b6:=N _ _ c3;have b7:=N.tup b4;have D:=a3.same N;refine⟨p1,_,U,Ah.of b6,U,_,_,U,_,_,U,U,?_⟩;refine⟨_,U,?_⟩;have c9:=λw hw=>D.ok w hw;refine⟨_,U,ab,bb,g,c,n',m',U,D,c6,(by lia),(by lia),λrh H9 ux uy uz S9 e9 hu c5 c1 c7=>?_⟩;have sh:S3 2400 200 t hy hz:=⟨sx.mono (by lia),sy.mono (by lia),sz.mono (by lia)⟩;refine⟨_,U,rh,ra,ux,uy,uz,t,hy,hz,U,e9,(N.trans S9) _ _ e7,hu.pos,he.pos,⟨c5.mono (by lia),c1.mono (by lia),c7.mono (by lia)⟩,sh,(λz=>?_),λrs c8 X Y Z b9 b2 ov J=>?_⟩
  ·rw[z.1,z.2]at y;exact Pos.zero y
  refine⟨_,U,(show 3<=sizeLine by decide),λta c0=>?_⟩;have a0:=Aw c0 (.tup [.ref ao,.ref rs,.ref ab]);have d:=S9.trans (b9.trans a0);refine kN _ _ _ _ (d _ _ a8) ⟨El (N.trans d) s,Al,R++[ta],by rw[Dj];rfl,?_⟩;have a1:=d _ _ a8;have na:ab≠acc:=λz=>by
   have q:=a3.lst;rw[z,s]at q;cases q
  rw[Jk,L,Oc];refine Paired.snoc (Paired.imp' (λ_ _ e=>(e.same d).upd a1) P8) (Cy.upd ⟨ao,rs,ab,bb,X,Y,Z,⟨na,nf⟩,Al,d.tup b7,a0 _ _ b2,Sh.of hu he ov,J,D.same d⟩ a1)
 rintro ys H8 b3 ⟨N,a8,R,rfl,P8⟩;rw[a2,OJ]at P8;exact kq acc H8 R (a7.free s) (a7.trans N) a8 P8 Z6
end
end Av
namespace Av
open L2 Am Pc Ba Hw FN Ci Lq
open Lk hiding Hy
open Pt hiding Fp
def Wt (x:A5)(a b c:Int):Prop:=Low (tt x.1.1 x.1.2.1 x.1.2.2.1 x.1.2.2.2) (rr x.1.1 x.1.2.1 x.1.2.2.1 x.1.2.2.2) (p2 x.2*p2 x.2) a b c
theorem kW{n:Nat}{x y:Int}(h:Sz n y)(l:x.natAbs<=y.natAbs):Sz n x:=by unfold Sz at h ⊢;lia
theorem Vu{h:Int}{m:Nat}(h0:0<=h)(l:h<=(m:Int)):Sz (m+1) (p2 h):=by
 unfold Sz p2;have:((2:Int)^h.toNat).natAbs=2^h.toNat:=by rw[gj];rfl
 rw[this];exact Zt (by decide) (by lia)
theorem uY{x:A5}{a b c:Int}{n m:Nat}(o:Gh n m x)(w:Wt x a b c):Sz (2*n+4) a/\Sz (2*n+4) b/\Sz (2*m+2) c:=by
 obtain⟨i,h,j⟩:=w.sizes;obtain⟨e,d,g,f⟩:=o.sz;have q:=Vu o.amt.nn o.le;refine⟨kW ((((e.mul e).add (d.mul d)).add (g.mul g)).add (f.mul f) |>.mono (by lia)) i,kW ((((e.mul d).add (d.mul g)).add (g.mul f)).sub (f.mul e) |>.mono (by lia)) h,kW ((q.mul q).mono (by lia)) j⟩
theorem X4u{x:A5}{a b c:Int}(w:Wt x a b c):0<c:=w.pos
section
variable {P:U8}{w:W5}{K:U0}{mg:U4}{base:Heap}{k:Nat}{h:Heap}
theorem X5n(F:Ab K "word_shares" (top 53) .none)(X:K.In h)(G:Ng h mg)(dA:Aj P w K mg base k "heft" ["board"] Iv)(cZ:Aj P w K mg base k "weight" ["one"] jN)(cQ:Aj P w K mg base k "share_over" ["one","other"] jB):Aj P w K mg base (k+1) "word_shares" ["board"] Nr:=by
 refine F.cal X G ["board","ahead"] λnd H vs Q E hr h=>?_;obtain⟨lb,bs,f,c,n,m,rfl,s,c6,n4,m5,T,kq⟩:=h;have p6:2^c<=64:=CZ (Ib (by decide) c6) (by decide)
 refine⟨_,(@Ao _ _ _ _ _ (@BR _ _ 1 _ _ _ _ nd rfl (Or.inr rfl) (A_ dA hr rfl (Aa (pv 0) Ae)) rfl (.inl rfl))
  (@Aq _ _ _ (BW (GZ rfl (BZ.of (Nc:=["one","ahead"]) (mp:=[none,some 1]) (by kernel_rfl)) (Es (pv 0)) (λ_ _ _ _=>(Bq (i:=0) (show (["one","ahead"]:W4).Nodup by decide +kernel) rfl (Or.inl rfl))) (λ_ _ _ _=>(A_ cQ hr rfl (Aa (A_ cZ hr rfl (Aa (pv 0) Ae)) (Aa (pv 1) Ae)))))))),?_⟩
 try dsimp only[Bv]
 refine⟨_,U,lb,bs,f,c,n,m,U,s,c6,(by lia),(by lia),λra H1 B C hz R e1 J sx sy sz=>?_⟩;have N:=s.same R;have u:(bs.map V.ref).length=2^c:=by rw[BL,s.len]
 have l:=jk J (λw hw=>(s.ok w hw).amt) (by obtain⟨j,hj,e⟩:=T;exact⟨j,hj,e⟩);refine⟨_,U,lb,U,⟨_,Ai.of N.lst⟩,λacc d=>?_⟩;refine M_ (K:=K) (a:=lb) (xs:=bs.map V.ref) (fr:=[some (.ref ra)]) (λj ys H'=>Same H1 H'/\H' acc=some (.lst ys)/\∃(o:U3) (sh:Nat->Int×Int×Int),ys=o.map V.ref/\o.length=j/\(∀i a,o[i]?=some a->H' a=some (T3 (sh i).1 (sh i).2.1 (sh i).2.2))/\∀i,i<j->∃(g wy wz:Int),Wt (f i) g wy wz/\Nj g wy wz B C hz (sh i).1 (sh i).2.1 (sh i).2.2/\S3 5800 5800 (sh i).1 (sh i).2.1 (sh i).2.2) (by rw[u];exact CZ p6 (by decide)) ⟨Aw d _,Al,[],λ_=>(0,0,0),U,U,λi a h=>(by cases h),λi hi=>absurd hi (JF _)⟩ (λj ys H' e=>e.1.seq (Ai.of N.lst)) ?_ ?_
 ·rintro j x ys H2 NN y L ⟨A,O,o,sh,rfl,b,S,D⟩ kN;rw[Cp]at y;obtain⟨p,hp,rfl⟩:=Dm.mp y;have jl:j<2^c:=by have:=(DW.mp hp).1;have:=s.len;lia
  have vp:=(N.same A).vals j p hp;have ok:=s.ok j jl;refine⟨_,U,p,f j,n,m,U,vp,ok,(by lia),(by lia),λrw H3 g wy wz v e3 lw=>?_⟩;have wt:Wt (f j) g wy wz:=lw;obtain⟨z1,z2,z3⟩:=uY ok wt;have M:S3 2400 200 B C hz:=⟨sx.mono (by lia),sy.mono (by lia),sz.mono (by lia)⟩;refine⟨_,U,rw,ra,g,wy,wz,B,C,hz,U,e3,(A.trans v) _ _ e1,X4u wt,J.pos,⟨z1.mono (by lia),z2.mono (by lia),z3.mono (by lia)⟩,M,(λz=>by rw[z.1,z.2]at l;exact Pos.zero l),λrs H4 X Y Z S4 e4 W s3=>?_⟩;have r:=v.trans S4;have I:=r _ _ O;refine kN _ _ I ⟨El (A.trans r) d,Al,o++[rs],λi=>if i=j then (X,Y,Z) else sh i,by rw[Dj];rfl,by rw[DN,b];rfl,λi a t=>?_,λi hi=>?_⟩
  ·by_cases e:i=j
   ·subst e;rw[<-b,Oh]at t;cases t;simp only[HX];rw[Bw (Ie e4 I (by intro z;cases z))];exact e4
   ·have il:i<o.length:=by
     have:=(DW.mp t).1;rw[DN,J7]at this;lia
    rw[J8 il]at t;have q:=r _ _ (S i a t);simp only[if_neg e];rw[Bw (Ie q I (by intro z;cases z))];exact q
  ·by_cases e:i=j
   ·subst e;simp only[HX];exact⟨g,wy,wz,wt,W,s3⟩
   ·simp only[if_neg e];exact D i (by lia)
 rintro ys H2 L ⟨A,O,o,sh,rfl,b,S,D⟩;rw[u]at b D;refine kq acc H2 o sh (R.free d) (R.trans A) O b S λi hi=>?_;obtain⟨g,wy,wz,wt,W,s3⟩:=D i hi;exact⟨B,C,hz,g,wy,wz,J,wt,W,s3⟩
end
end Av
namespace L2
theorem yU{K:U0}{l:Y9}{g:TG}{xs:List V}{tc:TT}{te:TE}{fr:L2.St}{H1:Hp}{acc:Y9}{Q:VK}(p:Nat->V->Bool)(f:Nat->V->V)(Pv:Nat->List V->Prop)(hn:xs.length<=sizeLine)(hacc:H1 acc=none)(hl:Ai K H1 l xs)(h0:Pv 0 [])
  (hg:∀{a:Y9}{x y:V}{w1 w2:Option V}{H:Hp}{Q:L2.St->Hp->Prop},H a=some (.tup [x,y])->Q (some x::some y::fr) H->g (.ref a) (w1::w2::fr) H Q)
  (hs:∀i x H (N:Bool->Hp->Prop),xs[i]?=some x->Same H1 H->N (p i x) H->tc (some (.int i)::some x::fr) H N)
  (ht:∀i x H (N:V->Hp->Prop),xs[i]?=some x->p i x=true->Same H1 H->N (f i x) H->te (some (.int i)::some x::fr) H N)
  (hp:∀i x zs,xs[i]?=some x->Pv i zs->(p i x=true->Pv (i+1) (zs++[f i x]))/\(p i x=false->Pv (i+1) zs))
  (hd:∀zs H2,Same H1 H2->H2 acc=some (.lst zs)->Pv xs.length zs->Q (.ref acc) H2):Nk (Ite K l) g tc te (none::none::fr) H1 acc Q:=by
 refine⟨λi m zs k H2=>m=xs.length-i/\i<=xs.length/\(∃v w,k=v::w::fr)/\Same H1 H2/\H2 acc=some (.lst zs)/\zs.length<=i/\Pv i zs,⟨xs.length,by simp,Fg _,⟨_,_,U⟩,Aw hacc _,Al,BX _,h0⟩,?_⟩;rintro i m zs k H2 ⟨rfl,hi,⟨v,w,rfl⟩,c,h,s,pv⟩;by_cases hlt:i<xs.length
 ·have o:xs[i]?=some xs[i]:=by simp[hlt]
  refine .inr ⟨⟨xs,_,c.seq hl,o⟩,λu r n=>?_⟩;obtain⟨T,x,rfl,q,rfl,h1⟩:=n;have j:=h1 xs (c.seq hl);have d:=Aw q (.tup [.int i,x]);obtain⟨st,sf⟩:=hp i x zs j pv
  refine hg (x:=.int i) (y:=x) Al (hs i x _ _ j (c.trans d) ⟨λb=>ht i x _ _ j b (c.trans d) ⟨d _ _ h,by lia,xs.length-(i+1),by lia,U,hlt,⟨_,_,U⟩,El (c.trans d) hacc,Al,by simp;lia,st b⟩,
   λb=>⟨xs.length-(i+1),by lia,U,hlt,⟨_,_,U⟩,c.trans d,d _ _ h,by lia,sf b⟩⟩)
 ·have e:i=xs.length:=by lia
  subst e;exact .inl ⟨⟨xs,c.seq hl,BX _⟩,hd zs H2 c h pv⟩
end L2
namespace Av
open L2 Am Pc Ba Hw FN Ci Lq
open Lk hiding Hy
open Pt hiding Fp
abbrev I3:=Int×Int×Int
noncomputable abbrev tI (t:I3):HO:=T3 t.1 t.2.1 t.2.2
abbrev Qk (a b:I3):Prop:=Lt a.1 a.2.1 a.2.2 b.1 b.2.1 b.2.2
noncomputable def gr (wt:Nat->I3)(g:I3)(n:Nat):List Nat:=(List.range n).filter λi=>decide (wt i=g)
def Nt:Sp:=λvs H Q _=>∃(lb:Y9) (bs:U3) (f:Nat->A5) (c n m:Nat),vs=[.ref lb]/\Bd H lb bs f c n m/\c<=6/\n<=400/\m<=50 /\
 ∀(r:Y9) (H':Hp) (wt:Nat->I3) (g:I3),H r=none->Same H H'->(∀i,i<2^c->Wt (f i) (wt i).1 (wt i).2.1 (wt i).2.2)->(∃j,j<2^c/\wt j=g)->(∀i,i<2^c->¬ Qk g (wt i))->H' r=some (.lst ((gr wt g (2^c)).map λi:Nat=>V.int (i:Int)))->Q (.ref r) H'
variable{wt:Nat->I3}{g:I3}{n:Nat}
theorem uI(h:wt n=g):gr wt g (n+1)=gr wt g n++[n]:=by unfold gr;rw[N_,Q6];simp[h]
theorem vO(h:wt n≠g):gr wt g (n+1)=gr wt g n:=by unfold gr;rw[N_,Q6];simp[h]
theorem uK{a b:I3}:decide ([a.1,a.2.1,a.2.2]=[b.1,b.2.1,b.2.2])=decide (a=b):=by
 obtain⟨j,i,d⟩:=a;obtain⟨g,f,e⟩:=b;refine decide_eq_decide.mpr ⟨λh=>?_,λh=>by rw[h]⟩;simp at h;obtain⟨h1,h2,c⟩:=h;rw[h1,h2,c]
section
variable {P:U8}{w:W5}{K:U0}{mg:U4}{base:Heap}{k:Nat}{h:Heap}
theorem X5p(F:Ab K "likeliest" (top 54) .none)(X:K.In h)(G:Ng h mg)(B:Bs mg)(cZ:Aj P w K mg base k "weight" ["one"] jN)(dI:Aj P w K mg base k "share_under" ["one","other"] rT):Aj P w K mg base (k+1) "likeliest" ["board"] Nt:=by
 refine F.cal X G ["board","weights","greatest","one"] λR H vs Q E hr h=>?_;obtain⟨lb,bs,f,c,n,m,rfl,D,c6,n4,m5,kq⟩:=h;have p6:2^c<=64:=CZ (Ib (by decide) c6) (by decide);have p0:=Ji c;have M:(bs.map V.ref).length=2^c:=by rw[BL,D.len]
 refine⟨_,(@Ao _ _ _ _ _ (Qc (i:=1) rfl R rfl rfl (BZ.of (Nc:=["one"]) (mp:=[none]) (by kernel_rfl)) (Es (pv 0)) (λ_ _ _ _=>(Bq (i:=0) (show (["one"]:W4).Nodup by decide +kernel) rfl (Or.inl rfl))) (λ_ _ _ _=>(A_ cZ hr rfl (Aa (pv 0) Ae))) rfl)
  (@Ao _ _ _ _ _ (@BR _ _ 2 _ _ _ _ R rfl (Or.inr rfl) (Ak Dy (pv 1) Ac (λ_ _=>rfl)) rfl (.inl rfl))
  (@Ao _ _ _ _ _ (Gf PassesOwn.never rfl (Es (pv 1)) (Bq (i:=3) R rfl (Or.inl rfl))
   (@Aq _ _ _ (Cd (Cr (A_ dI hr rfl (Aa (pv 2) (Aa (pv 3) Ae))))
    (@Aq _ _ _ (@BR _ _ 2 _ _ _ _ R rfl (Or.inr rfl) (pv 3) rfl (.inl rfl)))
    Ce)))
  (@Aq _ _ _ (BW (pO rfl (BZ.of (Nc:=["word","one","greatest"]) (mp:=[none,none,some 2]) (by kernel_rfl)) (X1q rfl B.enumerate (Aa (pv 1) Ae)) (λ_ _ _ _=>(Rk rfl (show (["word","one","greatest"]:W4).Nodup by decide +kernel) rfl rfl rfl rfl)) (λ_ _ _ _=>(Cg (jJ hr.units) (pv 1) (pv 2) (Ad _))) (λ_ _ _ _=>(pv 0)))))))),?_⟩
 try dsimp only[Bv]
 refine⟨_,U,lb,U,⟨_,Ai.of D.lst⟩,λacc A=>?_⟩;refine M_ (K:=K) (a:=lb) (xs:=bs.map V.ref) (fr:=[]) (λj ys H'=>Same H H'/\H' acc=some (.lst ys)/\∃(r:U3) (wt:Nat->I3),ys=r.map V.ref/\r.length=j/\(∀i a,r[i]?=some a->H' a=some (tI (wt i)))/\∀i,i<j->Wt (f i) (wt i).1 (wt i).2.1 (wt i).2.2) (by rw[M];exact CZ p6 (by decide)) ⟨Aw A _,Al,[],λ_=>(0,0,0),U,U,λi a h=>(by cases h),λi hi=>absurd hi (JF _)⟩ (λj ys H' e=>e.1.seq (Ai.of D.lst)) ?_ ?_
 ·rintro j x ys H2 NN d a0 ⟨o,O,r,wt,rfl,g,P2,Q2⟩ kN;rw[Cp]at d;obtain⟨p,hp,rfl⟩:=Dm.mp d;have C:j<2^c:=by have:=(DW.mp hp).1;have:=D.len;lia
  have vp:=(D.same o).vals j p hp;have ok:=D.ok j C;refine⟨_,U,p,f j,n,m,U,vp,ok,(by lia),(by lia),λrw I wx wy wz b e3 lw=>?_⟩;have W:=b _ _ O;refine kN _ _ W ⟨El (o.trans b) A,Al,r++[rw],λi=>if i=j then (wx,wy,wz) else wt i,by rw[Dj];rfl,by rw[DN,g];rfl,λi a J=>?_,λi hi=>?_⟩
  ·by_cases e:i=j
   ·subst e;rw[<-g,Oh]at J;cases J;simp only[HX];rw[Bw (Ie e3 W (by intro z;cases z))];exact e3
   ·have il:i<r.length:=by
     have:=(DW.mp J).1;rw[DN,J7]at this;lia
    rw[J8 il]at J;have q:=b _ _ (P2 i a J);simp only[if_neg e];rw[Bw (Ie q W (by intro z;cases z))];exact q
  ·by_cases e:i=j
   ·subst e;simp only[HX];exact lw
   ·simp only[if_neg e];exact Q2 i (by lia)
 rintro ys H1 a0 ⟨S1,S,r,wt,rfl,g,P1,v⟩;rw[M]at g v;have a5:∀i,i<2^c->∃a,r[i]?=some a/\H1 a=some (tI (wt i)):=λi hi=>⟨_,Cv (by lia),P1 i _ (Cv (by lia))⟩;have L:∀i,i<2^c->S3 6000 3000 (wt i).1 (wt i).2.1 (wt i).2.2:=λi hi=>by
  obtain⟨z1,z2,z3⟩:=uY (D.ok i hi) (v i hi);exact⟨z1.mono (by lia),z2.mono (by lia),z3.mono (by lia)⟩
 obtain⟨g0,T,Y⟩:=a5 0 p0;refine⟨_,U,acc,_,_,.ref g0,U,U,Ai.of S,(Ju (j:=0) (by rw[Cp,T];rfl)),?_⟩;refine⟨_,U,acc,U,⟨_,Ai.of S⟩,KN (K:=K) (a:=acc) (xs:=r.map V.ref) (λt σ H'=>Same H1 H'/\∃(u:Y9) (v3:Option V) (j:Nat),j<2^c/\H' u=some (tI (wt j))/\(∀i,i<t->¬ Qk (wt j) (wt i))/\σ=[some (.ref lb),some (.ref acc),some (.ref u),v3]) ⟨Same.refl _,g0,none,0,p0,Y,λi hi=>absurd hi (JF _),U⟩ (λt σ H' _ e=>Ai.of (e.1 _ _ S)) ?_ ?_⟩
 ·rintro t x σ H2 d ⟨o,u,v3,j,C,tg,N,rfl⟩;rw[Cp]at d;obtain⟨p,hp,rfl⟩:=Dm.mp d;have tl:t<2^c:=by have:=(DW.mp hp).1;lia
  have tp:=o _ _ (P1 t p hp);refine⟨_,U,_,U,u,p,_,_,_,_,_,_,U,tg,tp,(v j C).pos,(v t tl).pos,L j C,L t tl,λI b=>⟨_,U,Ca (λlt=>?_) (λge=>?_)⟩⟩
  ·refine⟨_,U,o.trans b,p,_,t,tl,b _ _ tp,λi hi z=>?_,U⟩;by_cases e:i=t
   ·subst e;exact Lt.asymm z z
   ·exact N i (by lia) (Lt.trans (v j C).pos (v t tl).pos (v i (by lia)).pos lt z)
  ·refine⟨o.trans b,u,_,j,C,b _ _ tg,λi hi=>?_,U⟩;by_cases e:i=t
   ·subst e;exact ge
   ·exact N i (by lia)
 rintro σ H2 ⟨o,u,v3,j,C,tg,N,rfl⟩;rw[BL,g]at N;have O:=o _ _ S;refine⟨_,U,acc,_,U,Ai.of O,λZ s=>?_⟩;refine yU (K:=K) (l:=acc) (xs:=r.map V.ref) (fr:=[some (.ref u)]) (λi _=>decide (wt i=wt j)) (λi _=>.int (i:Int)) (λi zs=>zs=(gr wt (wt j) i).map λi:Nat=>V.int (i:Int)) (by rw[BL,g];exact CZ p6 (by decide)) s (Ai.of O) rfl ?_ ?_ ?_ ?_ ?_
 ·intro a x y w1 w2 H Q h q;exact⟨a,_,U,Ah.of h,U,_,_,U,_,_,U,U,q⟩
 ·rintro i x I NN d b q;rw[Cp]at d;obtain⟨p,hp,rfl⟩:=Dm.mp d;have tp:=(o.trans b) _ _ (P1 i p hp);refine⟨_,U,_,U,p,u,[(wt i).1,(wt i).2.1,(wt i).2.2],[(wt j).1,(wt j).2.1,(wt j).2.2],U,U,Ah.of tp,Ah.of (b _ _ tg),_,U,?_⟩;show NN (decide ([(wt i).1,(wt i).2.1,(wt i).2.2]=[(wt j).1,(wt j).2.1,(wt j).2.2])) I;rw[uK];exact q
 ·rintro i x I NN _ _ _ q;exact⟨_,U,q⟩
 ·rintro i x zs _ rfl;refine⟨λhb=>?_,λhb=>?_⟩
  ·rw[uI (Uc hb),Dj];rfl
  ·rw[vO (Wo hb)]
 ·rintro zs I b a3 rfl;rw[BL,g]at a3;exact kq Z I wt (wt j) ((S1.trans o).free s) ((S1.trans o).trans b) v ⟨j,C,U⟩ N a3
theorem SM{k:Int}(h:0<=k):(2:Int)^(2*k).toNat=p2 k*p2 k:=by
 rw[<-Ih h h,show 2*k=k+k by lia]
def Xf:Sp:=λvs H Q _=>∃(l:Y9) (ps:U3) (f:Nat->A5) (c n m:Nat),vs=[.ref l]/\Bd H l ps f c n m/\c<=6/\n<=10000/\m<=1500/\∀(r:Y9) (H':Hp) (M:Int),Same H H'->H' r=some (T3 (Ar f (2^c) M) (Ag f (2^c) M) (p2 M*p2 M))->0<=M->M<=m->(∀w,w<2^c->(f w).2<=M)->Q (.ref r) H'
def Kv:Sp:=λvs H Q _=>∃a b:Int,vs=[.int a,.int b]/\Q (.int (Int.gcd a b:Nat)) H
def Iu:Sp:=λvs H Q _=>∃(p:Y9) (x y z:Int),vs=[.ref p]/\H p=some (T3 x y z)/\0<z/\HJ x y z/\∀H',Same H H'->Q (.bl true) H'
theorem Bd.rows{H:Hp}{l:Y9}{ps:U3}{f:Nat->A5}{c m:Nat}(b:Bd H l ps f c n m):Fq H ps ((List.range (2^c)).map λi=>l5 (f i)):=by have:=rD b.vals;rw[b.len]at this;exact this
theorem yq(F:Ab K "_law_heft" (top 67) .none)(X:K.In h)(G:Ng h mg)(B:Bs mg):Aj P w K mg base (k+1) "_law_heft" ["_law_board"] Xf:=by
 refine F.cal X G ["_law_board","_law_most","_law_top","_law_root","_law_a","_law_b","_law_c","_law_d","_law_h"] λb H vs Q E hr h=>?_;obtain⟨l,ps,g,c,n,m,rfl,p,c6,n1,m1,kq⟩:=h;have p6:=Hr c6;have pp:0<2^c:=Ji c;have u:(ps.map V.ref).length=2^c:=by rw[BL,p.len]
 have SC:=Ai.of (K:=K) p.lst
 refine⟨_,(@Ao _ _ _ _ _ (@BR _ _ 1 _ _ _ _ b rfl (Or.inl rfl) (Bm (_J rfl) rfl B.max boot_max (Aa (GZ rfl (BZ.of (Nc:=["_law_one"]) (mp:=[none]) (by kernel_rfl)) (Es (pv 0)) (λ_ _ _ _=>(Bq (i:=0) (show (["_law_one"]:W4).Nodup by decide +kernel) rfl (Or.inl rfl))) (λ_ _ _ _=>(Ak iR (pv 0) Ac (λ_ _=>rfl)))) Ae)) rfl (.inl rfl))
  (@Ao _ _ _ _ _ (@BR _ _ 2 _ _ _ _ b rfl (Or.inl rfl) Ac rfl (.inl rfl))
  (@Ao _ _ _ _ _ (@BR _ _ 3 _ _ _ _ b rfl (Or.inl rfl) Ac rfl (.inl rfl))
  (@Ao _ _ _ _ _ (Gf PassesOwn.never rfl (Es (pv 0)) (@QK _ _ _ _ _ _ rfl (@FZ _ _ _ _ _ (@Bq _ _ 4 _ b rfl (Or.inl rfl) (by first | exact .inl rfl | exact .inr rfl)) (@FZ _ _ _ _ _ (@Bq _ _ 5 _ b rfl (Or.inl rfl) (by first | exact .inl rfl | exact .inr rfl)) (@FZ _ _ _ _ _ (@Bq _ _ 6 _ b rfl (Or.inl rfl) (by first | exact .inl rfl | exact .inr rfl)) (@FZ _ _ _ _ _ (@Bq _ _ 7 _ b rfl (Or.inl rfl) (by first | exact .inl rfl | exact .inr rfl)) (@FZ _ _ _ _ _ (@Bq _ _ 8 _ b rfl (Or.inl rfl) (by first | exact .inl rfl | exact .inr rfl)) QV rfl) rfl) rfl) rfl) rfl) rfl rfl)
   (@Ao _ _ _ _ _ (@BR _ _ 2 _ _ _ _ b rfl (Or.inl rfl) (Af C_ (pv 2) (Af KJ (Af C_ (Af C_ (Af C_ (Af CT (pv 4) (pv 4)) (Af CT (pv 5) (pv 5))) (Af CT (pv 6) (pv 6))) (Af CT (pv 7) (pv 7))) (Af Gs Ac (Af Fy (pv 1) (pv 8))))) rfl (.inl rfl))
   (@Aq _ _ _ (@BR _ _ 3 _ _ _ _ b rfl (Or.inl rfl) (Af C_ (pv 3) (Af KJ (Af Fy (Af C_ (Af C_ (Af CT (pv 4) (pv 5)) (Af CT (pv 5) (pv 6))) (Af CT (pv 6) (pv 7))) (Af CT (pv 7) (pv 4))) (Af Gs Ac (Af Fy (pv 1) (pv 8))))) rfl (.inl rfl)))))
  (@Aq _ _ _ (BW (@Cq _ _ _ _ _ (Aa (pv 2) (Aa (pv 3) (Aa (Af KJ Ac (Af Gs Ac (pv 1))) Ae)))))))))),?_⟩
 try dsimp only[Bv]
 refine⟨_,U,l,U,⟨_,SC⟩,λx d=>?_⟩;refine M_ (K:=K) (a:=l) (xs:=ps.map V.ref) (fr:=[]) (λi ys H'=>Same H H'/\H' x=some (.lst ys)/\∃t:List Int,ys=t.map V.int/\t.length=i/\(∀e∈t,0<=e/\e<=m)/\(∀j,j<i->(g j).2∈t))
  (by rw[u];exact Lx p6) ⟨Aw d _,Al,[],U,U,by simp,λj hj=>absurd hj (JF _)⟩ (λi ys H' e=>e.1.seq SC) ?_ ?_
 ·rintro i v ys Y N A hy ⟨S3,J,t,rfl,hl,I,h1⟩ kN;rw[Cp]at A;obtain⟨pi,C,rfl⟩:=Dm.mp A;have il:i<2^c:=by rw[<-p.len];exact(DW.mp C).1
  have oy:=p.ok i il;have SP:Ah K Y pi ((l5 (g i)).map V.int):=Ah.of (S3 _ _ (p.vals i pi C));refine⟨_,U,pi,_,_,_,U,U,SP,U,?_⟩;refine kN _ _ J ⟨El S3 d,Al,t++[(g i).2],by rw[Dj];rfl,by simp[hl],λe a0=>?_,λj hj=>?_⟩
  ·rcases Ho.mp a0 with z | z
   ·exact I e z
   ·rw[GK.mp z];exact⟨oy.amt.nn,oy.le⟩
  ·by_cases e:j=i
   ·subst e;simp
   ·exact Q_ _ (h1 j (by lia))
 rintro ys Y hy ⟨S3,J,t,rfl,hl,I,h1⟩;rw[u]at hl h1;refine⟨x,t,U,Ai.of J,by lia,λM Z R=>?_⟩;have L:=I M Z;have M1:∀w,w<2^c->(g w).2<=M:=λw hw=>R _ (h1 w hw);have y:=p.same S3;have SX:=Ai.of (K:=K) y.lst;refine⟨_,U,l,U,⟨_,SX⟩,KN (K:=K) (a:=l) (xs:=ps.map V.ref) (λj σ H'=>H'=Y/\∃T v6 v7 W O,σ=[some (.ref l),some (.int M),some (.int (Ar g j M)),some (.int (Ag g j M)),T,v6,v7,W,O]) ⟨U,_,_,_,_,_,U⟩ (λj σ H' _ e=>by rw[e.1];exact SX) ?_ ?_⟩
 ·rintro j v σ H' A ⟨rfl,T,v6,v7,W,O,rfl⟩;rw[Cp]at A;obtain⟨pj,D,rfl⟩:=Dm.mp A;have jl:j<2^c:=by rw[<-p.len];exact(DW.mp D).1
  have p0:=y.vals j pj D;have ok:=p.ok j jl;have yl:=M1 j jl;have y0:0<=(g j).2:=ok.amt.nn;have o:=ok.sz.z1;have f:=ok.sz.z2;have s:=ok.sz.z3;have q:=ok.sz.z4;have e0:=SM (k:=M-(g j).2) (by lia);have t1:=(((o.mul o).add (f.mul f)).add (s.mul s)).add (q.mul q);have S:=(((o.mul f).add (f.mul s)).add (s.mul q)).sub (q.mul o);refine⟨pj,_,U,Ah.of p0,U,_,_,U,_,_,U,_,_,U,_,_,U,_,_,U,U,?_⟩;refine⟨_,U,_,U,_,U,_,_,U,U,⟨_,_,o,o,by lia⟩,_,U,_,U,_,_,U,U,⟨_,_,f,f,by lia⟩,_,_,U,U,_,U,_,U,_,_,U,U,⟨_,_,s,s,by lia⟩,_,_,U,U,_,U,_,U,_,_,U,U,⟨_,_,q,q,by lia⟩,_,_,U,U,_,U,_,U,_,_,U,U,_,_,U,U,.inl ⟨by decide,by decide⟩,_,_,U,U,⟨_,t1,by lia,by lia⟩,_,_,U,U,?_⟩;refine⟨_,U,_,U,_,U,_,_,U,U,⟨_,_,o,f,by lia⟩,_,U,_,U,_,_,U,U,⟨_,_,f,s,by lia⟩,_,_,U,U,_,U,_,U,_,_,U,U,⟨_,_,s,q,by lia⟩,_,_,U,U,_,U,_,U,_,_,U,U,⟨_,_,q,o,by lia⟩,_,_,U,U,_,U,_,U,_,_,U,U,_,_,U,U,.inl ⟨by decide,by decide⟩,_,_,U,U,⟨_,S,by lia,by lia⟩,_,_,U,U,?_⟩;have X1:Ar g (j+1) M=Ar g j M+((g j).1.1*(g j).1.1+(g j).1.2.1*(g j).1.2.1+(g j).1.2.2.1*(g j).1.2.2.1+(g j).1.2.2.2*(g j).1.2.2.2)*2^(2*(M-(g j).2)).toNat:=by
   rw[e0];show Ar g j M+Bo (g j) M=_;rw[NK];rfl
  have X2:Ag g (j+1) M=Ag g j M+((g j).1.1*(g j).1.2.1+(g j).1.2.1*(g j).1.2.2.1+(g j).1.2.2.1*(g j).1.2.2.2-(g j).1.2.2.2*(g j).1.1)*2^(2*(M-(g j).2)).toNat:=by
   rw[e0];show Ag g j M+BK (g j) M=_;rw[NZ];rfl
  refine⟨U,some (.int (g j).1.1),some (.int (g j).1.2.1),some (.int (g j).1.2.2.1),some (.int (g j).1.2.2.2),some (.int (g j).2),?_⟩;rw[X1,X2];rfl
 ·rintro σ H' ⟨rfl,T,v6,v7,W,O,rfl⟩;rw[u];refine⟨_,U,_,U,_,U,_,_,U,U,.inl ⟨by decide,by decide⟩,_,_,U,U,⟨1,Qn,by lia,by lia⟩,t3,λr hr=>kq r _ M (S3.trans (Aw hr _)) ?_ L.1 L.2 M1⟩;rw[Al];show some (HO.tup [.int (Ar g (2^c) M),.int (Ag g (2^c) M),.int (1*2^(2*M).toNat)])=_;rw[PX,SM L.1]
theorem X5s(F:Ab K "_law_divisor" (top 68) .none)(X:K.In h)(G:Ng h mg)(B:Bs mg):Aj P w K mg base (k+1) "_law_divisor" ["_law_one","_law_other"] Kv:=by
 refine F.cal X G ["_law_one","_law_other"] λd H vs Q E n h=>?_;obtain⟨a,b,rfl,q⟩:=h
 refine⟨_,(@Ao _ _ _ _ _ (@BR _ _ 0 _ _ _ _ d rfl (Or.inl rfl) (Bm Vx rfl B.abs U_ (Aa (pv 0) Ae)) rfl (.inl rfl))
  (@Ao _ _ _ _ _ (@BR _ _ 1 _ _ _ _ d rfl (Or.inl rfl) (Bm Vx rfl B.abs U_ (Aa (pv 1) Ae)) rfl (.inl rfl))
  (@Ao _ _ _ _ _ (Vz PassesOwn.never (Cg MK (pv 1) Ac (Ad _))
   (@Aq _ _ _ (X5d (i:=0) (j:=1) rfl d rfl rfl (by decide) rfl rfl (Aa (pv 1) (Aa (Af Dv (pv 0) (pv 1)) Ae)) rfl)))
  (@Aq _ _ _ (BW (pv 0)))))),?_⟩
 try dsimp only[Bv]
 refine⟨_,U,_,U,_,U,_,U,λm σ H'=>H'=H/\∃a' b':Int,m=b'.toNat/\σ=[some (.int a'),some (.int b')]/\0<=a'/\0<=b'/\Int.gcd a' b'=Int.gcd a b,⟨_,U,_,_,U,U,(by split<;>lia),(by split<;>lia),?_⟩,?_⟩
 ·rw[Ov,Ov];simp[Int.gcd]
 rintro m σ H' ⟨rfl,a',b',rfl,rfl,g,l,e⟩;refine⟨_,U,_,_,U,U,_,U,Ca (λc=>?_) (λc=>?_)⟩
 ·refine⟨_,λ_ _ z=>z,_,U,_,U,_,U,_,_,U,U,c,_,_,U,(a'%b').toNat,?_,U,_,_,U,U,l,JC _ (Ms c),?_⟩
  ·have:=Jl a' c;have:=JC a' (Ms c);lia
  ·rw[sV g c];exact e
 ·have f:b'=0:=by lia
  subst f;rw[Int.gcd_zero_right]at e;refine⟨_,U,?_⟩;rw[<-e]at q;have:((a'.natAbs:Nat):Int)=a':=by lia
  rw[this]at q;exact q
theorem Y2e(F:Ab K "_law_is_share" (top 69) .none)(X:K.In h)(G:Ng h mg)(B:Bs mg)(c7:Aj P w K mg base k "_law_whole" ["_law_found"] QX)(c9:Aj P w K mg base k "_law_divisor" ["_law_one","_law_other"] Kv):Aj P w K mg base (k+1) "_law_is_share" ["_law_found"] Iu:=by
 refine F.cal X G ["_law_found"] λn H vs Q E d h=>?_;obtain⟨p,x,y,z,rfl,hp,g,co,f⟩:=h;have S:Ah K H p ([x,y,z].map V.int):=Ah.of hp
 refine⟨_,(@Ao _ _ _ _ _ (Cd (PW.pt (Eh (Ec (Cr (Bm KQ rfl B.isinstance FJ (Aa (pv 0) (Aa (Je (v:=.ty "tuple") rfl B.tuple Qo rfl) Ae))))) (Eh (Cg Lg (Bm Fb rfl B.len FP (Aa (pv 0) Ae)) Ac (Ad _)) (Gg (Ec (Cr (Bm (Rm rfl) rfl B.all RK (Aa (GZ rfl (BZ.of (Nc:=["_law_part"]) (mp:=[none]) (by kernel_rfl)) (RT (pv 0)) (λ_ _ _ _=>(Bq (i:=0) (show (["_law_part"]:W4).Nodup by decide +kernel) rfl (Or.inl rfl))) (λ_ _ _ _=>(A_ c7 d rfl (Aa (pv 0) Ae)))) Ae))))))))
   (@Aq _ _ _ (BW Ef))
   Ce)
  (@Aq _ _ _ (BW (Lh (Gu MK (Ak Ax (pv 0) Ac (λ_ _=>rfl)) Ac (Ad _)) (KH (Gu HF (A_ c9 d rfl (Aa (Ak Ax (pv 0) Ac (λ_ _=>rfl)) (Aa (A_ c9 d rfl (Aa (Ak Ax (pv 0) Ac (λ_ _=>rfl)) (Aa (Ak Ax (pv 0) Ac (λ_ _=>rfl)) Ae))) Ae))) Ac (Ad _))))))),?_⟩
 try dsimp only[Bv]
 refine⟨_,U,_,_,_,true,U,Bk.tup hp,Fp K,_,U,Ay ⟨_,U,p,_,U,.inr S,U,_,U,J_ (λc=>absurd rfl c) (λ_=>⟨_,U,p,U,⟨_,S⟩,λacc a=>?_⟩)⟩⟩;refine qj (ns:=[x,y,z]) (fr:=[]) (λ_=>.bl true) S t3 a (λi H2 N o m=>⟨_,U,i,U,m⟩) (λH2 e l=>?_);refine⟨acc,[true,true,true],U,Ai.of l,_,U,Ay ?_⟩;have T2:=e.tup S;have b:Int.gcd y ((Int.gcd x z:Nat):Int)=1:=by
  unfold HJ at co;simp only[Int.gcd,Pn];rw[<-gW,Qu y.natAbs];exact co
 refine⟨_,U,p,_,_,_,U,U,T2,U,_,_,U,U,_,U,Ca (λ_=>?_) (λj=>absurd g j)⟩;refine⟨_,U,p,_,_,_,U,U,T2,U,_,U,p,_,_,_,U,U,T2,U,_,U,p,_,_,_,U,U,T2,U,_,_,U,_,_,U,U,?_⟩;show Q (.bl (decide (V.int ((Int.gcd y ((Int.gcd x z:Nat):Int):Nat):Int)=V.int 1))) H2;rw[b,show decide (V.int ((1:Nat):Int)=V.int 1)=true from DK rfl];exact f H2 e
def Ir:Sp:=λvs H Q _=>∃(a b d:Y9) (p q n x y z A B D:Int),vs=[.ref a,.ref b,.ref d]/\H a=some (T3 p q n)/\H b=some (T3 x y z)/\H d=some (T3 A B D)/\S3 100000 100000 p q n/\S3 100000 100000 x y z/\S3 100000 100000 A B D/\p*(z*D)=(x*A+2*y*B)*n/\q*(z*D)=(x*B+y*A)*n/\Q (.bl true) H
theorem X2s(F:Ab K "_law_is_times" (top 70) .none)(X:K.In h)(G:Ng h mg):Aj P w K mg base (k+1) "_law_is_times" ["_law_part","_law_one","_law_whole_here"] Ir:=by
 refine F.cal X G ["_law_part","_law_one","_law_whole_here","_law_top","_law_root","_law_below"] λr H vs Q E J h=>?_;obtain⟨a,b,d,p,q,n,x,y,z,l,m,s,rfl,B,D,v,j,f,e,A,C,u⟩:=h;have o:Ah K H a ([p,q,n].map V.int):=Ah.of B;have g:Ah K H b ([x,y,z].map V.int):=Ah.of D;have i:Ah K H d ([l,m,s].map V.int):=Ah.of v;have two:Sz 100002 (2*y):=((show Sz 2 2 by decide).mul f.y).mono (by decide);have st:Sz 300000 (x*l+2*y*m):=((f.x.mul e.x).add (two.mul e.y)).mono (by decide);have I:Sz 300000 (x*m+y*l):=((f.x.mul e.y).add (f.y.mul e.x)).mono (by decide);have t:Sz 300000 (z*s):=(f.z.mul e.z).mono (by decide)
 refine⟨_,(@Ao _ _ _ _ _ (@BR _ _ 3 _ _ _ _ r rfl (Or.inl rfl) (Af C_ (Af CT (Ak Ax (pv 1) Ac (λ_ _=>rfl)) (Ak Ax (pv 2) Ac (λ_ _=>rfl))) (Af CT (Af Gs Ac (Ak Ax (pv 1) Ac (λ_ _=>rfl))) (Ak Ax (pv 2) Ac (λ_ _=>rfl)))) rfl (.inl rfl))
  (@Ao _ _ _ _ _ (@BR _ _ 4 _ _ _ _ r rfl (Or.inl rfl) (Af C_ (Af CT (Ak Ax (pv 1) Ac (λ_ _=>rfl)) (Ak Ax (pv 2) Ac (λ_ _=>rfl))) (Af CT (Ak Ax (pv 1) Ac (λ_ _=>rfl)) (Ak Ax (pv 2) Ac (λ_ _=>rfl)))) rfl (.inl rfl))
  (@Ao _ _ _ _ _ (@BR _ _ 5 _ _ _ _ r rfl (Or.inl rfl) (Af CT (Ak Ax (pv 1) Ac (λ_ _=>rfl)) (Ak Ax (pv 2) Ac (λ_ _=>rfl))) rfl (.inl rfl))
  (@Aq _ _ _ (BW (Lh (Gu HF (Af CT (Ak Ax (pv 0) Ac (λ_ _=>rfl)) (pv 5)) (Af CT (pv 3) (Ak Ax (pv 0) Ac (λ_ _=>rfl))) (Ad _)) (KH (Gu HF (Af CT (Ak Ax (pv 0) Ac (λ_ _=>rfl)) (pv 5)) (Af CT (pv 4) (Ak Ax (pv 0) Ac (λ_ _=>rfl))) (Ad _))))))))),?_⟩
 try dsimp only[Bv]
 refine⟨_,U,b,_,_,_,U,U,g,U,_,U,d,_,_,_,U,U,i,U,_,_,U,U,⟨_,_,f.x,e.x,by decide⟩,_,U,b,_,_,_,U,U,g,U,_,_,U,U,.inl ⟨by decide,by decide⟩,_,U,d,_,_,_,U,U,i,U,_,_,U,U,⟨_,_,two,e.y,by decide⟩,_,_,U,U,?_⟩;refine⟨_,U,b,_,_,_,U,U,g,U,_,U,d,_,_,_,U,U,i,U,_,_,U,U,⟨_,_,f.x,e.y,by decide⟩,_,U,b,_,_,_,U,U,g,U,_,U,d,_,_,_,U,U,i,U,_,_,U,U,⟨_,_,f.y,e.x,by decide⟩,_,_,U,U,?_⟩;refine⟨_,U,b,_,_,_,U,U,g,U,_,U,d,_,_,_,U,U,i,U,_,_,U,U,⟨_,_,f.z,e.z,by decide⟩,?_⟩;refine⟨_,U,a,_,_,_,U,U,o,U,_,U,_,_,U,U,⟨_,_,j.x,t,by decide⟩,_,U,_,U,a,_,_,_,U,U,o,U,_,_,U,U,⟨_,_,st,j.z,by decide⟩,U,_,U,Jr (λ_=>?_) (λc=>absurd A c)⟩;refine⟨_,U,a,_,_,_,U,U,o,U,_,U,_,_,U,U,⟨_,_,j.y,t,by decide⟩,_,U,_,U,a,_,_,_,U,U,o,U,_,_,U,U,⟨_,_,I,j.z,by decide⟩,U,?_⟩;show Q (.bl (decide (V.int (q*(z*s))=V.int ((x*m+y*l)*n)))) H;rw[DK (congrArg V.int C)];exact u
end
end Av
set_option maxHeartbeats 4000000
namespace Dd
section
variable {prog:U8}{w:W5}{K:Type} [DecidableEq K] {knd:HeapKind prog w K}{A:Y6}{E:U2}{s:U7}
end
end Dd
namespace L2
section
variable {X:Cx}{pins:U1}{σ:St}{H:Hp}{s:U7}{a b:Y9}{v:V}{r:W8}{A:Y6}{E:U2}
end
section
variable {X:Cx}{o e f:Expr}{apos cpos:Pos}{td ty tx:TE}
end
end L2
namespace Di
section
variable {prog:U8}{w:W5}{A:Y6}{E:U2}{s:U7}{d it:Y9}{es:Array DictEntry}{i ep:Nat}{f0 f1 x y:W8}
end
end Di
namespace Sr
open PySem.W
variable {cmp:Nat->Nat->(Bool->Shared->Prop)->Shared->Prop}{z:Nat->Int}{n:Nat}{s:U7}{p:Array Nat}
def KY (cmp:Nat->Nat->(Bool->Shared->Prop)->Shared->Prop)(z:Nat->Int)(n:Nat)(s:U7):Prop:=∀i j C,i<n->j<n->C (decide (z i<z j)) s->cmp i j C s
noncomputable def kz (z:Nat->Int)(p:Array Nat)(i:Nat):Int:=z (p.getD i 0)
structure Pm (p:Array Nat) (n:Nat):Prop where
 size:p.size=n
 perm:p.toList.Perm (List.range n)
variable{i:Nat}
theorem QZ(h:i<p.size):p.getD i 0=p[i]:=by simp[Array.getD,h]
theorem Pm.lt(h:Pm p n)(hi:i<n):p.getD i 0<n:=by
 have a:i<p.size:=by rw[h.size];exact hi
 rw[QZ a];exact Em.mp (h.perm.mem_iff.mp (aB a))
theorem Pm.inj(h:Pm p n){j:Nat}(hi:i<n)(hj:j<n)(e:p.getD i 0=p.getD j 0):i=j:=by
 have h1:i<p.size:=by rw[h.size];exact hi
 have h2:j<p.size:=by rw[h.size];exact hj
 rw[QZ h1,QZ h2,<-GQ,<-GQ]at e;have a:p.toList.Nodup:=h.perm.nodup_iff.mpr Wg;have g:=Jm.mp a;rcases Nat.lt_trichotomy i j with q | q | q
 ·exact absurd e (g i j _ _ q)
 ·exact q
 ·exact absurd e.symm (g j i _ _ q)
def Up (z:Nat->Int)(p:Array Nat)(m:Nat):Prop:=∀i j,i<j->j<m->kz z p i<kz z p j
def Dn (z:Nat->Int)(p:Array Nat)(m:Nat):Prop:=∀i j,i<j->j<m->kz z p j<kz z p i
def Jv (z:Nat->Int)(n:Nat):Prop:=∀i j,i<n->j<n->z i=z j->i=j
theorem aW(d:Jv z n)(h:Pm p n){j:Nat}(hi:i<n)(hj:j<n)(ij:i≠j):kz z p i≠kz z p j:=λe=>ij (h.inj hi hj (d _ _ (h.lt hi) (h.lt hj) e))
theorem asc(o:KY cmp z n s)(d:Jv z n)(h:Pm p n){Q:Nat->Shared->Prop}:∀f a,1<=a->a+f<=n->Up z p a->(∀m,a<=m->m<=a+f->Up z p m->(m=a+f\/kz z p m<kz z p (m-1))->Q m s)->(kas_asc p f a).kasWp cmp Q s
 | 0,a,_,_,u,q=>q a (BX _) (BX _) u (.inl rfl)
 | f+1,a,a1,an,u,q=>by
  refine o _ _ _ (h.lt (by lia)) (h.lt (by lia)) ?_;by_cases c:z (p.getD a 0)<z (p.getD (a-1) 0)
  ·rw[DK c];exact q a (BX _) (by lia) u (.inr c)
  ·rw[Dl c];refine asc o d h f (a+1) (by lia) (by lia) (λi j g l=>?_) (λm h1 h2 k b=>q m (by lia) (by lia) k (by rw[show a+(f+1)=a+1+f by lia];exact b));by_cases e:j=a
   ·subst e;have k1:=aW d h (i:=j) (j:=j-1) (by lia) (by lia) (by lia);have c':¬ kz z p j<kz z p (j-1):=c;by_cases e2:i=j-1
    ·subst e2;lia
    ·have:=u i (j-1) (by lia) (by lia);lia
   ·exact u i j g (by lia)
theorem desc(o:KY cmp z n s)(d:Jv z n)(h:Pm p n){Q:Array Nat×Nat×Nat->Shared->Prop}:∀f a,1<=a->a+f<=n->Dn z p a->(∀m,a<=m->m<=a+f->Dn z p m->Q (p,m,0) s)->(kas_desc f p a 0).kasWp cmp Q s
 | 0,a,_,_,u,q=>q a (BX _) (BX _) u
 | f+1,a,a1,an,u,q=>by
  refine o _ _ _ (h.lt (by lia)) (h.lt (by lia)) ?_;have k1:=aW d h (i:=a) (j:=a-1) (by lia) (by lia) (by lia);by_cases c:z (p.getD a 0)<z (p.getD (a-1) 0)
  ·rw[DK c];refine desc o d h f (a+1) (by lia) (by lia) (λi j g l=>?_) (λm h1 h2 k=>q m (by lia) (by lia) k);by_cases e:j=a
   ·subst e;have c':kz z p j<kz z p (j-1):=c;by_cases e2:i=j-1
    ·subst e2;lia
    ·have:=u i (j-1) (by lia) (by lia);lia
   ·exact u i j g (by lia)
  ·rw[Dl c];refine o _ _ _ (h.lt (by lia)) (h.lt (by lia)) ?_;have c':¬ kz z p a<kz z p (a-1):=c;have b:z (p.getD (a-1) 0)<z (p.getD a 0):=(show kz z p (a-1)<kz z p a by lia);rw[DK b];exact q a (BX _) (by lia) u
variable{m:Nat}
theorem pQ(hm:m<=p.size):(kas_rev p 0 m).getD i 0=if i<m then p.getD (m-1-i) 0 else p.getD i 0:=by
 have e:=Zk (i:=0) hm i;unfold kas_rev;rw[Og,e];by_cases h:i<m
 ·rw[if_pos ⟨Fg _,h⟩,if_pos h,<-Og,Hj]
 ·rw[if_neg (λq=>h q.2),if_neg h,<-Og]
theorem pR(h:Pm p n):Pm (kas_rev p 0 m) n:=⟨(mirror_size _ _ _ _).trans h.size,(Wx.mp (mirror_perm p 0 m _)).trans h.perm⟩
variable{Q:Nat×Array Nat->Shared->Prop}
theorem tail(o:KY cmp z n s)(d:Jv z n)(h:Pm p n)(m1:1<=m)(mn:m<=n)(u:Dn z p m)(q:∀r p',Pm p' n->1<=r->r<=n->Up z p' r->Q (r,p') s):(kas_tail3 m n p).kasWp cmp Q s:=by
 unfold kas_tail3;rw[KasT.kasWp_bind];have a:m<=p.size:=by rw[h.size];exact mn
 refine asc o d (pR h) (n-m) m m1 (by lia) (λi j e b=>?_) (λr h1 h2 c _=>q r _ (pR h) (by lia) (by lia) c);unfold kz;rw[pQ a,pQ a,if_pos (by lia),if_pos b];exact u (m-1-j) (m-1-i) (by lia) (by lia)
theorem count(o:KY cmp z n s)(d:Jv z n)(h:Pm p n)(n2:2<=n)(q:∀r p',Pm p' n->1<=r->r<=n->Up z p' r->Q (r,p') s):(kas_count n p).kasWp cmp Q s:=by
 unfold kas_count;rw[KasT.kasWp_bind];refine asc o d h (n-1) 1 (BX _) (by lia) (λi j l k=>by lia) (λm h1 h2 a b=>?_);by_cases e:(m == n)=true
 ·rw[if_pos e];exact q m p h h1 (by lia) a
 rw[if_neg e];have u:m≠n:=λx=>e (by rw[x];exact UJ n);by_cases g:m>1
 ·rw[if_pos g];refine o _ _ _ (h.lt (by lia)) (h.lt (by lia)) ?_;rw[DK (show z (p.getD 0 0)<z (p.getD (m-1) 0) from a 0 (m-1) (by lia) (by lia))];exact q m p h h1 (by lia) a
 rw[if_neg g];have c:m=1:=by lia
 subst c;have lt:kz z p 1<kz z p 0:=by
  rcases b with b | b
  ·lia
  ·exact b
 unfold kas_descPart;rw[KasT.kasWp_bind];refine desc o d h (n-(1+1)) (1+1) (by lia) (by lia) (λi j l k=>?_) (λm h1 h2 a=>?_)
 ·have t:i=0:=by lia
  have f:j=1:=by lia
  rw[t,f];exact lt
 ·show (if (0:Nat)>0 then _ else kas_tail3 m n p).kasWp cmp Q s;rw[if_neg (by lia)];exact tail o d h (by lia) (by lia) a q
theorem place(o:KY cmp z n s)(d:Jv z n)(h:Pm p n){k:Nat}(kn:k<n)(u:Up z p k){Q:Nat->Shared->Prop}:∀f l r,r-l<=f->l<=r->r<=k->(∀i,i<l->kz z p i<kz z p k)->(∀i,r<=i->i<k->kz z p k<kz z p i) ->
  (∀l,l<=k->(∀i,i<l->kz z p i<kz z p k)->(∀i,l<=i->i<k->kz z p k<kz z p i)->Q l s)->(kas_place p k f l r).kasWp cmp Q s
 | 0,l,r,f0,lr,rk,a,b,q=>q l (by lia) a (λi hi=>b i (by lia))
 | f+1,l,r,f0,lr,rk,a,b,q=>by
  unfold kas_place;by_cases e:l>=r
  ·rw[if_pos e];exact q l (by lia) a (λi hi=>b i (by lia))
  rw[if_neg e];refine o _ _ _ (h.lt kn) (h.lt (by lia)) ?_;have k1:=aW d h (i:=k) (j:=(l+r) / 2) kn (by lia) (by lia);by_cases c:z (p.getD k 0)<z (p.getD ((l+r) / 2) 0)
  ·rw[DK c];have c':kz z p k<kz z p ((l+r) / 2):=c;refine place o d h kn u f l ((l+r) / 2) (by lia) (by lia) (by lia) a (λi h1 h2=>?_) q;by_cases e2:i=(l+r) / 2
   ·rw[e2];exact c'
   ·have:=u ((l+r) / 2) i (by lia) h2;lia
  ·rw[Dl c];have c':¬ kz z p k<kz z p ((l+r) / 2):=c;refine place o d h kn u f ((l+r) / 2+1) r (by lia) (by lia) rk (λi h1=>?_) b q;by_cases e2:i=(l+r) / 2
   ·rw[e2];lia
   ·have:=u i ((l+r) / 2) (by lia) (by lia);lia
theorem YH{k l:Nat}(hk:k<p.size)(hl:l<=k):(bubble p k (k-l)).getD i 0=if i=l then p.getD k 0 else if l<i/\i<=k then p.getD (i-1) 0 else p.getD i 0:=by
 have e:=ZJ hk (k-l) (by lia) i;rw[show k-(k-l)=l by lia]at e;rw[Og,e];by_cases h1:i=l
 ·rw[if_pos h1,if_pos h1,<-Og]
 ·rw[if_neg h1,if_neg h1];by_cases h2:l<i/\i<=k
  ·rw[if_pos h2,if_pos h2,<-Og]
  ·rw[if_neg h2,if_neg h2,<-Og]
theorem X7h{k l:Nat}(h:Pm p n):Pm (bubble p k l) n:=⟨(bubble_size _ _ _).trans h.size,(Wx.mp (bubble_perm p k l)).trans h.perm⟩
theorem bin(o:KY cmp z n s)(d:Jv z n){Q:Array Nat->Shared->Prop}(q:∀p',Pm p' n->Up z p' n->Q p' s):∀f (p:Array Nat) k,Pm p n->k+f=n->Up z p k->(kas_bin f p k).kasWp cmp Q s
 | 0,p,k,h,e,u=>q p h (by rw[<-e];exact u)
 | f+1,p,k,h,e,u=>by
  unfold kas_bin;rw[KasT.kasWp_bind];refine place o d h (by lia) u k 0 k (by lia) (by lia) (BX _) (λi hi=>by lia) (λi h1 h2=>by lia) (λl g a b=>?_);refine bin o d q f _ (k+1) (X7h h) (by lia) (λi j m r=>?_);have c:k<p.size:=by rw[h.size];lia
  unfold kz;rw[YH c g,YH c g];by_cases i1:i=l
  ·rw[if_pos i1,if_neg (by lia),if_pos (by lia)];exact b (j-1) (by lia) (by lia)
  ·rw[if_neg i1];by_cases j1:j=l
   ·rw[if_pos j1,if_neg (by lia)];exact a i (by lia)
   ·rw[if_neg j1];by_cases i2:l<i/\i<=k
    ·rw[if_pos i2,if_pos (by lia)];exact u (i-1) (j-1) (by lia) (by lia)
    ·rw[if_neg i2];by_cases j2:l<j/\j<=k
     ·rw[if_pos j2];by_cases e3:i=j-1
      ·lia
      ·exact u i (j-1) (by lia) (by lia)
     ·rw[if_neg j2];exact u i j m (by lia)
theorem jK(n:Nat):Pm (List.toArray (List.range n)) n:=⟨by simp,by simp⟩
theorem sort(o:KY cmp z n s)(d:Jv z n)(n2:2<=n){Q:Array Nat->Shared->Prop}(q:∀p',Pm p' n->Up z p' n->Q p' s):(kas_sort n).kasWp cmp Q s:=by
 unfold kas_sort;rw[KasT.kasWp_bind];refine count o d (jK n) n2 (λr p' h1 a b u=>?_);show (if r<n then kas_bin (n-max r 1) p' (max r 1) else .ret p').kasWp cmp Q s;by_cases e:r<n
 ·rw[if_pos e,show max r 1=r by lia];exact bin o d q _ p' r h1 (by lia) u
 ·rw[if_neg e];have:r=n:=by lia
  subst this;exact q p' h1 u
end Sr
namespace L2
open PySem.W
noncomputable def bv:List Int->Int
 | []=>0
 | x::xs=>x*2^xs.length+bv xs
def Jw (n:Nat)(k:U6):Prop:=k.length=n/\∀x∈k,x=0\/x=1
theorem jE:∀{k:U6},(∀x∈k,x=0\/x=1)->0<=bv k/\bv k<2^k.length
 | [],_=>⟨GC 0,by decide⟩
 | x::xs,h=>by
  obtain⟨a,b⟩:=jE (k:=xs) λy c=>h y (.tail _ c);have p:(0:Int)<2^xs.length:=Qq (by decide);show 0<=x*2^xs.length+bv xs/\x*2^xs.length+bv xs<2^(xs.length+1);rw[Qt];rcases h x (.head _) with rfl | rfl<;>lia
theorem jj:∀{k l:U6},k.length=l.length->(∀x∈k,x=0\/x=1)->(∀x∈l,x=0\/x=1)->HT.lexLt k l=decide (bv k<bv l)/\(bv k=bv l->k=l)
 | [],[],_,_,_=>⟨by decide,λ_=>rfl⟩
 | x::xs,y::ys,e,h,g=>by
  have e:xs.length=ys.length:=Nat.succ.inj e;have h':∀z∈xs,z=0\/z=1:=λz a=>h z (.tail _ a);have g':∀z∈ys,z=0\/z=1:=λz a=>g z (.tail _ a);obtain⟨d,b⟩:=jj e h' g';obtain⟨j,i⟩:=jE h';obtain⟨f,c⟩:=jE g';rw[<-e]at c;show HT.lexLt (x::xs) (y::ys)=decide (x*2^xs.length+bv xs<y*2^ys.length+bv ys)/\(x*2^xs.length+bv xs=y*2^ys.length+bv ys->_);rw[<-e,HT.oX];have p:(0:Int)<2^xs.length:=Qq (by decide);by_cases q:x=y
  ·subst q;rw[if_pos rfl,d];exact⟨decide_eq_decide.mpr (by lia),λz=>by rw[b (by lia)]⟩
  ·rw[if_neg q];rcases h x (.head _) with rfl | rfl<;>rcases g y (.head _) with rfl | rfl<;>first | exact absurd rfl q | exact⟨decide_eq_decide.mpr (by lia),λz=>by lia⟩
section
variable {prog:U8}{w:W5}{A:Y6}{E:U2}{s:U7}
theorem X6b{b:Bool}{x y:Int}{t u:Tok}{Q:Bool->Shared->Prop}(h:Q (decide (x<y)) s):wpAny (model prog w) A (oneLt' b (.int x t) (.int y u)) Q E s:=by
 cases b with
 | true=>exact oneLt_int h
 | false=>exact kat_one _ _ (wpAny_lt_int h)
theorem sZ{b:Bool}{Q:Bool->Shared->Prop}:∀{us vs:U5}{xs ys:U6}{i:Nat},IntsAre us xs->IntsAre vs ys->xs.length=ys.length->Q (HT.lexLt xs ys) s->KatLex prog w A b false Q (us.zip vs) i s
 | _,_,_,_,i,.nil,.nil,_,q=>q
 | _,_,_,_,i,.cons x t r,.cons y u r',e,q=>by
  refine kat_cons (wpAny_eqBool_int ?_);rw[HT.oX]at q;refine kat_go (λz=>kat_yes (sZ r r' (Nat.succ.inj e) ?_)) (λz=>kat_no (X6b ?_))
  ·rw[if_pos (Fw z)]at q;exact q
  ·rw[if_neg (λw=>by rw[w]at z;simp at z)]at q;exact q
end
theorem iQ:∀{us:U5}{xs:U6},IntsAre us xs->us.length=xs.length
 | _,_,.nil=>rfl
 | _,_,.cons _ _ r=>by rw[Pj,Pj,iQ r]
def Gv (h:Heap)(us:U5)(ks:List (List Int)):Prop:=∀(j:Nat) u,us[j]?=some u->∃b o its n k,u=Value.ref b/\ks[j]?=some k/\h.get? b=some o/\o.cls=.type "tuple"/\o.data=.seq (List.toArray its) n/\IntsAre its k
theorem Gv.firsts{h:Heap}:∀{us:U5}{ks:List (List Int)},Gv h us ks->(∀k∈ks,1<=k.length)->∃fs,KatTups h us fs/\fs.length=us.length/\∀v∈fs,∃i t,v=Value.int i t
 | [],_,_,_=>⟨[],trivial,rfl,λv c=>nomatch c⟩
 | u::us,ks,T,hk=>by
  obtain⟨b,o,its,n,k,rfl,h1,h2,p,m,f⟩:=T 0 u rfl
  obtain⟨fs,q,l,a⟩:=Gv.firsts (us:=us) (ks:=ks.drop 1) (λj u e=>by
   obtain⟨b,o,its,n,k,r⟩:=T (j+1) u (by simpa using e)
   exact⟨b,o,its,n,k,r.1,by rw[List.getElem?_drop,bU];exact r.2.1,r.2.2⟩) λk d=>hk k (Ug d)
  have g:=hk k (Hq h1);cases f with
  | nil=>exact absurd g (by decide)
  | cons x t r =>
   refine⟨Value.int x t::fs,.cons h2 p m rfl q,by simp[l],λv c=>?_⟩;rcases Cw.mp c with rfl | c
   ·exact⟨_,_,U⟩
   ·exact a v c
section
variable {prog:U8}{w:W5}{A:Y6}{E:U2}{s:U7}
theorem Gv.ask{b:Bool}{n:Nat}{us:U5}{ks:List (List Int)}(T:Gv s.heap us ks)(hk:∀k∈ks,Jw n k):Sr.KY (RJ prog w A (tuples' b) us) (λj=>bv (ks.getD j [])) us.length s:=by
 intro i j C hi d q;unfold RJ kas_ask;have h:us.getD i Value.none=us[i]:=by simp[hi]
 have o:us.getD j Value.none=us[j]:=by simp[d]
 rw[h,o];obtain⟨p,o1,l,v,k1,h1,h2,m,t,g,e⟩:=T i us[i] (Cv hi);obtain⟨u,o2,f,r,k2,g1,g2,g3,g4,g5,g6⟩:=T j us[j] (Cv d);rw[h1,g1];have a:=hk k1 (Hq h2);have c:=hk k2 (Hq g2);have l1:=iQ e;have l2:=iQ g6;have q:C (decide (bv (ks.getD i [])<bv (ks.getD j []))) s:=q;rw[FW,FW,h2,g2]at q;refine kat_lt m g g3 g5 ?_;rw[show decide ((List.toArray l).size<(List.toArray f).size)=false from Dl (by rw[DQ,DQ,l1,l2,a.1,c.1];exact Lz _)];refine sZ e g6 (by rw[a.1,c.1]) ?_;rw[(jj (by rw[a.1,c.1]) a.2 c.2).1];exact q
end
theorem vN{n:Nat}{ks:List (List Int)}(nd:ks.Nodup)(hk:∀k∈ks,Jw n k){m:Nat}(hm:m=ks.length):Sr.Jv (λj=>bv (ks.getD j [])) m:=λi j hi d e=>by
 subst hm;have e:bv (ks.getD i [])=bv (ks.getD j []):=e;rw[FW,FW,Cv hi,Cv d]at e;have a:=hk _ (K7 hi);have b:=hk _ (K7 d);have q:ks[i]=ks[j]:=(jj (by rw[a.1,b.1]) a.2 b.2).2 e;have g:=Jm.mp nd;rcases Nat.lt_trichotomy i j with c | c | c
 ·exact absurd q (g i j _ _ c)
 ·exact c
 ·exact absurd q.symm (g j i _ _ c)
end L2
namespace Rt
open PySem.W
variable {prog:U8}{w:W5}{A:Y6}{E:U2}{s:U7}{κ:SortKind}{ky:Keyed->Int}{V:Keyed->Prop}{st:SortSt}
def Ask (prog:U8)(w:W5)(A:Y6)(s:U7)(κ:SortKind)(ky:Keyed->Int)(V:Keyed->Prop):Prop :=
 ∀x y,V x->V y->∀C:Bool->Shared->Prop,C (decide (ky x<ky y)) s->wpAny (model prog w) A (keyLt' κ x.1 y.1) C (λ_ _=>False) s
variable{Q:Option Bool->SortSt->Prop}
theorem V8(o:Ask prog w A s κ ky V){x y:Keyed}(k:kindOf st=κ)(vx:V x)(vy:V y)(h:Q (some (decide (ky x<ky y))) st):wpS (model prog w) A E s (lt' x y) Q st:=by
 rw[lt'_eq];refine BJ (HY ?_);rw[k];refine BJ (Ny (Tc (Ek (o x y vx vy (λb s'=>s'=s/\b=decide (ky x<ky y)) ⟨U,U⟩) (λb s' e=>⟨e.1,?_⟩) λ_ _ e=>e.elim)));rw[e.2];exact Bb h
theorem Fo{xs:Array Keyed}{i:Nat}{x:Keyed}(e:xs[i]?=some x){Q:Keyed->SortSt->Prop}(h:Q x st):wpS (model prog w) A E s (elem' xs i) Q st:=by
 rw[elem'_eq,e];exact Bb h
noncomputable def gal:Bool->Keyed->Array Keyed->Nat->Nat->Nat->StateT SortSt Sem (Option Nat):=sortPriv% PySem.Builtin.gallop
structure Yl (ky:Keyed->Int) (V:Keyed->Prop) (left:Bool) (key:Keyed) (arr:Array Keyed) (base n T:Nat):Prop where
 at_:∀i,i<n->∃x,arr[base+i]?=some x/\V x/\((if left=true then ky x<ky key else ky x<=ky key)↔i<T)
 le:T<=n
variable{key:Keyed}{arr:Array Keyed}{base n T:Nat}
theorem X7j(o:Ask prog w A s κ ky V){left:Bool}{i:Nat}(k:kindOf st=κ)(vk:V key)(B:Yl ky V left key arr base n T)(hi:i<n)(h:Q (some (decide (i<T))) st):
  wpS (model prog w) A E s (do let x ← elem' arr (base+i);if left=true then lt' x key else do { let r ← lt' key x;pure (r.map λb=>!b)}) Q st:=by
 obtain⟨x,e,c,a⟩:=B.at_ i hi;refine BJ (Fo e ?_);cases left with
 | true =>
  rw[if_pos rfl]at a ⊢;refine V8 o k c vk ?_;rw[decide_eq_decide.mpr a];exact h
 | false =>
  rw[if_neg Dw]at a ⊢;refine BJ (V8 o k vk c (Bb ?_));show Q (some (!decide (ky key<ky x))) st;rw[show (!decide (ky key<ky x))=decide (i<T) by rw[<-decide_not];exact decide_eq_decide.mpr (by rw[<-a];lia)];exact h
theorem vH{M:Model}{f:Nat->Option (Option Nat)×Nat×Nat->StateT SortSt Sem (ForInStep (Option (Option Nat)×Nat×Nat))}{lo hi:Nat}
  (hf:∀x lo hi (Q:ForInStep (Option (Option Nat)×Nat×Nat)->SortSt->Prop),hi<=n->(lo>=hi->Q (.done (none,lo,hi)) st)->(lo<hi->lo+(hi-lo) / 2<T->Q (.yield (none,lo+(hi-lo) / 2+1,hi)) st)->(lo<hi->¬ lo+(hi-lo) / 2<T->Q (.yield (none,lo,lo+(hi-lo) / 2)) st)->wpS M A E s (f x (none,lo,hi)) Q st)
  (h1:lo<=T) (h2:T<=hi) (b:hi<=n) {Q:Option (Option Nat)×Nat×Nat->SortSt->Prop} (h:∀lo,Q (none,lo,T) st):wpS M A E s (forIn [:n] (none,lo,hi) f) Q st:=by
 refine Gz (λx c a=>a=st/\∃lo hi,c=(none,lo,hi)/\lo<=T/\T<=hi/\hi<=n/\hi-lo<=n-x) ?_ ?_ ⟨U,lo,hi,U,h1,h2,b,by lia⟩
 ·rintro x c a _ g ⟨rfl,lo,hi,rfl,h1,h2,b,d⟩;refine hf x lo hi _ b (λe=>?_) (λe q=>⟨U,_,_,U,by lia,h2,b,by lia⟩) (λe q=>⟨U,_,_,U,h1,by lia,by lia,by lia⟩);have:hi=T:=by lia
  subst this;exact h lo
 ·rintro c a ⟨rfl,lo,hi,rfl,h1,h2,b,d⟩;have:hi=T:=by lia
  subst this;exact h lo
theorem RN(o:Ask prog w A s κ ky V){left:Bool}{hint:Nat}(k:kindOf st=κ)(vk:V key)(B:Yl ky V left key arr base n T)(hn:hint<n){Q:Option Nat->SortSt->Prop}(h:Q (some T) st):wpS (model prog w) A E s (gal left key arr base n hint) Q st:=by
 have g:∀i,i<n->∀Q:Option Bool->SortSt->Prop,Q (some (decide (i<T))) st->wpS (model prog w) A E s (do let x ← elem' arr (base+i);if left=true then lt' x key else do { let r ← lt' key x;pure (r.map λb=>!b)}) Q st:=λi hi Q q=>X7j o k vk B hi q;have m:=B.le;refine BJ (g _ hn _ ?_);dsimp only;by_cases q:hint<T
 ·rw[DK q,if_pos rfl];refine BJ (Gy (Gz (Q:=λc d=>d=st/\∃f of,c=(none,f,of)/\hint+f+1<=T/\T<=hint+min of (n-hint)) (λx c d=>d=st/\∃f of,c=(none,f,of)/\hint+f<T/\x+1<=of) ?_ ?_ ⟨U,0,1,U,q,by lia⟩) ?_)
  ·rintro x c d _ l ⟨rfl,f,of,rfl,h1,h2⟩;dsimp only;by_cases e:of>=n-hint
   ·rw[if_pos e];exact Bb ⟨U,_,_,U,h1,by lia⟩
   ·rw[if_neg e];refine BJ (g _ (by lia) _ ?_);dsimp only;by_cases q2:hint+of<T
    ·rw[DK q2];exact Bb ⟨U,_,_,U,q2,by lia⟩
    ·rw[Dl q2];exact Bb ⟨U,_,_,U,h1,by lia⟩
  ·rintro c d ⟨rfl,f,of,rfl,h1,h2⟩;exact⟨U,_,_,U,h1,by lia⟩
  ·rintro c d ⟨rfl,f,of,rfl,h1,h2⟩;dsimp only;refine BJ (vH (T:=T) (λx lo hi Q j a b c=>?_) h1 h2 (by lia) λlo=>?_)
   ·dsimp only;by_cases e:lo>=hi
    ·rw[if_pos e];exact Bb (a e)
    ·rw[if_neg e];refine BJ (g _ (by lia) _ ?_);dsimp only;by_cases q2:lo+(hi-lo) / 2<T
     ·rw[DK q2];exact Bb (b (by lia) q2)
     ·rw[Dl q2];exact Bb (c (by lia) q2)
   ·exact Bb h
 ·rw[Dl q,if_neg Dw];refine BJ (Gy (Gz (Q:=λc d=>d=st/\∃f of,c=(none,f,of)/\hint+1-min of (hint+1)<=T/\T<=hint-f/\f<=hint) (λx c d=>d=st/\∃f of,c=(none,f,of)/\T<=hint-f/\f<=hint/\x+1<=of) ?_ ?_ ⟨U,0,1,U,by lia,by lia,by lia⟩) ?_)
  ·rintro x c d _ l ⟨rfl,f,of,rfl,h1,h2,j⟩;dsimp only;by_cases e:of>=hint+1
   ·rw[if_pos e];exact Bb ⟨U,_,_,U,by lia,h1,h2⟩
   ·rw[if_neg e];refine BJ (g _ (by lia) _ ?_);dsimp only;by_cases q2:hint-of<T
    ·rw[DK q2];exact Bb ⟨U,_,_,U,by lia,h1,h2⟩
    ·rw[Dl q2];exact Bb ⟨U,_,_,U,by lia,by lia,by lia⟩
  ·rintro c d ⟨rfl,f,of,rfl,h1,h2,j⟩;exact⟨U,_,_,U,by lia,h1,h2⟩
  ·rintro c d ⟨rfl,f,of,rfl,h1,h2,j⟩;dsimp only;refine BJ (vH (T:=T) (λx lo hi Q j a b c=>?_) h1 h2 (by lia) λlo=>?_)
   ·dsimp only;by_cases e:lo>=hi
    ·rw[if_pos e];exact Bb (a e)
    ·rw[if_neg e];refine BJ (g _ (by lia) _ ?_);dsimp only;by_cases q2:lo+(hi-lo) / 2<T
     ·rw[DK q2];exact Bb (b (by lia) q2)
     ·rw[Dl q2];exact Bb (c (by lia) q2)
   ·exact Bb h
variable {ky:Keyed->Int}{V:Keyed->Prop}
def Cm (ky:Keyed->Int)(l:List Keyed):Prop:=l.Pairwise λx y=>ky x<=ky y
def Mg (ky:Keyed->Int)(a b:Array Keyed)(r:Array Keyed):Prop:=r.toList.Perm (a.toList++b.toList)/\Cm ky r.toList
structure Two (ky:Keyed->Int) (V:Keyed->Prop) (a b:Array Keyed):Prop where
 sa:Cm ky a.toList
 sb:Cm ky b.toList
 va:∀x∈a.toList,V x
 vb:∀x∈b.toList,V x
 last:∀x y,a[a.size-1]?=some x->y∈b.toList->ky y<ky x
 first:∀x y,b[0]?=some y->x∈a.toList->ky y<ky x
structure Inv (ky:Keyed->Int) (a b out:List Keyed) (i j:Nat):Prop where
 perm:(out++a.drop i++b.drop j).Perm (a++b)
 srt:Cm ky out
 le:∀x∈out,∀y,y∈a.drop i\/y∈b.drop j->ky x<=ky y
variable {a b out:List Keyed}{i j k:Nat}
theorem Nf(h:Cm ky a)(i:Nat):Cm ky (a.drop i):=h.sublist (List.drop_sublist _ _)
theorem O6(h:Cm ky a)(i:Nat):Cm ky (a.take i):=h.sublist (List.take_sublist _ _)
theorem Vv(h:Cm ky a)(i:Nat):∀x∈a.take i,∀y∈a.drop i,ky x<=ky y:=by
 unfold Cm at h;rw[<-RD i a]at h;exact(Ja.mp h).2.2
theorem Inv.takeA(I:Inv ky a b out i j)(sa:Cm ky a)(h:∀x∈(a.drop i).take k,∀y∈b.drop j,ky x<=ky y):Inv ky a b (out++(a.drop i).take k) (i+k) j:=by
 have e:=Nf sa i;refine⟨?_,Ja.mpr ⟨I.srt,O6 e k,λx d y c=>I.le x d y (.inl (Oe c))⟩,λx d y c=>?_⟩
 ·rw[K8 out,show a.drop (i+k)=(a.drop i).drop k by rw[Qw],RD];exact I.perm
 ·rw[show a.drop (i+k)=(a.drop i).drop k by rw[Qw]]at c;rcases Ho.mp d with d | d
  ·exact I.le x d y (c.imp_left Ug)
  ·rcases c with c | c
   ·exact Vv e k x d y c
   ·exact h x d y c
theorem Inv.takeB(I:Inv ky a b out i j)(sb:Cm ky b)(h:∀x∈(b.drop j).take k,∀y∈a.drop i,ky x<=ky y):Inv ky a b (out++(b.drop j).take k) i (j+k):=by
 have f:=Nf sb j;have e:b.drop (j+k)=(b.drop j).drop k:=by rw[Qw]
 refine⟨?_,Ja.mpr ⟨I.srt,O6 f k,λx d y c=>I.le x d y (.inr (Oe c))⟩,λx d y c=>?_⟩
 ·have p:(out++(b.drop j).take k++a.drop i++(b.drop j).drop k).Perm (out++a.drop i++((b.drop j).take k++(b.drop j).drop k)):=by
   simp only[K8];exact List.Perm.append_left out (m8 _ _ _)
  rw[RD]at p;rw[e];exact p.trans I.perm
 ·rw[e]at c;rcases Ho.mp d with d | d
  ·exact I.le x d y (c.imp_right Ug)
  ·rcases c with c | c
   ·exact h x d y c
   ·exact Vv f k x d y c
theorem Inv.done(I:Inv ky a b out i j)(sa:Cm ky a)(h:b.length<=j):(out++a.drop i++b.drop j).Perm (a++b)/\Cm ky (out++a.drop i++b.drop j):=by
 refine⟨I.perm,?_⟩;rw[Zv h,Qx];exact Ja.mpr ⟨I.srt,Nf sa i,λx d y c=>I.le x d y (.inl c)⟩
theorem Inv.last(I:Inv ky a b out i j)(sa:Cm ky a)(sb:Cm ky b)(h:∀x∈a.drop i,∀y∈b,ky y<=ky x):(out++b.drop j++a.drop i).Perm (a++b)/\Cm ky (out++b.drop j++a.drop i):=by
 refine⟨List.Perm.trans ?_ I.perm,?_⟩
 ·rw[K8,K8];exact List.Perm.append_left out nP
 ·refine Ja.mpr ⟨Ja.mpr ⟨I.srt,Nf sb j,λx c y d=>I.le x c y (.inr d)⟩,Nf sa i,λx c y d=>?_⟩;rcases Ho.mp c with c | c
  ·exact I.le x c y (.inl d)
  ·exact h y d x (Ug c)
theorem Vq{key:Keyed}{arr:Array Keyed}{left:Bool}(base:Nat)(sr:Cm ky arr.toList)(v:∀x∈arr.toList,V x):∀n,base+n<=arr.size->∃T,Yl ky V left key arr base n T
 | 0,_=>⟨0,λi hi=>absurd hi (JF _),BX _⟩
 | n+1,hn=>by
  obtain⟨T,B⟩:=Vq (left:=left) base sr v n (by lia);have at_:∀i,i<n+1->arr[base+i]?=some arr.toList[base+i]!/\V arr.toList[base+i]!:=λi hi=>by
   have l:base+i<arr.size:=by lia
   have e:(arr.toList[base+i]!)=arr[base+i]:=by simp[l]
   rw[e];exact⟨by simp[l],v _ (aB l)⟩
  obtain⟨e,c⟩:=at_ n (by lia);have mono:∀i x,i<n->arr[base+i]?=some x->ky x<=ky arr.toList[base+n]!:=λi x hi b=>by
   have l:base+n<arr.size:=by lia
   obtain⟨f,d⟩:=Jb.mp b;have:=Jm.mp sr (base+i) (base+n) (by simpa using f) (by simpa using l) (by lia);rw[GQ,GQ,d]at this;simpa [l] using this
  by_cases q:(if left=true then ky arr.toList[base+n]!<ky key else ky arr.toList[base+n]!<=ky key)
  ·refine⟨n+1,λi hi=>?_,BX _⟩;obtain⟨a,v1⟩:=at_ i hi;refine⟨_,a,v1,⟨λ_=>hi,λ_=>?_⟩⟩;by_cases z:i=n
   ·rw[z];exact q
   ·have:=mono i _ (by lia) a;cases left
    ·simp only[K9,JZ]at q ⊢;lia
    ·simp only[HX]at q ⊢;lia
  ·refine⟨T,λi hi=>?_,Nat.le_succ_of_le B.le⟩;by_cases z:i=n
   ·subst z;exact⟨_,e,c,⟨λy=>absurd y q,λy=>absurd B.le (by lia)⟩⟩
   ·exact B.at_ i (by lia)
end Rt
namespace Rt
theorem Xi{α β:Type}{R Y:α->β->Prop}{G:Prop}(h:(∀u v,R u v->Y u v)->G)(b:∀u v,R u v->Y u v):G:=h b
theorem qw{Y:Nat->Prop}{G:Prop}(h:(∀g,Y g)->G)(b:∀g,Y g):G:=h b
open PySem.W
variable {prog:U8}{w:W5}{A:Y6}{E:U2}{s:U7}{κ:SortKind}{ky:Keyed->Int}{V:Keyed->Prop}{st:SortSt}
structure Sg (st st':SortSt):Prop where
 kind:kindOf st'=kindOf st
 arr:arrOf st'=arrOf st
 pend:pendingOf st'=pendingOf st
 fail:failedOf st'=failedOf st
variable {a b out:Array Keyed}{i j k:Nat}{x y:Keyed}
theorem YL(a:Array Keyed)(i k:Nat):(a.extract i (i+k)).toList=(a.toList.drop i).take k:=by
 rw[Ue];show (a.toList.drop i).take (i+k-i)=_;rw[Nat.add_sub_cancel_left]
theorem Xc(a:Array Keyed)(i:Nat):(a.extract i).toList=a.toList.drop i:=by
 rw[Ue];show (a.toList.drop i).take (a.size-i)=_;rw[MF (by simp)]
theorem QS(h:a[i]?=some x):a.toList.drop i=x::a.toList.drop (i+1):=by
 obtain⟨l,e⟩:=Jb.mp h;rw[Ww (by simpa using l),GQ,e]
theorem M9(h:a[i]?=some x):(a.toList.drop i).take 1=[x]:=by rw[QS h];rfl
theorem Gr(h:i<a.size):∃x,a[i]?=some x:=⟨a[i],by simp[h]⟩
theorem Ig(h:a[i]?=some x):x∈a.toList:=by
 obtain⟨l,e⟩:=Jb.mp h;rw[<-e];exact aB l
theorem Rj(sr:Cm ky a.toList)(h:a[i]?=some x):∀z∈a.toList.drop i,ky x<=ky z:=λz b=>by
 rw[QS h]at b;rcases Cw.mp b with rfl | b
 ·exact GC _
 ·have:=Nf sr i;unfold Cm at this;rw[QS h]at this;exact(Q7.mp this).1 z b
theorem RV{z:Keyed}(h:z∈(a.toList.drop i).take k):∃t,t<k/\a[i+t]?=some z:=by
 obtain⟨t,l,e⟩:=List.getElem_of_mem h;rw[JG]at l;refine⟨t,by lia,?_⟩;rw[Ub,Ua,GQ]at e;rw[<-e];have:i+t<a.size:=by
  have:=(show t<min k (a.toList.drop i).length from l);rw[OD,Dz]at this;lia
 simp[this]
structure Lo (ky:Keyed->Int) (a b out:Array Keyed) (i j:Nat):Prop where
 inv:Inv ky a.toList b.toList out.toList i j
 ia:i+1<a.size
 jb:j<b.size
theorem Inv.pushB(I:Inv ky a.toList b.toList out.toList i j)(T:Two ky V a b)(hy:b[j]?=some y)(h:∀z∈a.toList.drop i,ky y<=ky z):Inv ky a.toList b.toList (out.push y).toList i (j+1):=by
 have:=I.takeB (k:=1) T.sb (λz c q d=>by rw[M9 hy]at c;rw[GK.mp c];exact h q d);rw[M9 hy]at this;rw[UL];exact this
theorem Inv.pushA(I:Inv ky a.toList b.toList out.toList i j)(T:Two ky V a b)(hx:a[i]?=some x)(h:∀z∈b.toList.drop j,ky x<=ky z):Inv ky a.toList b.toList (out.push x).toList (i+1) j:=by
 have:=I.takeA (k:=1) T.sa (λz c q d=>by rw[M9 hx]at c;rw[GK.mp c];exact h q d);rw[M9 hx]at this;rw[UL];exact this
theorem Inv.mgD(I:Inv ky a.toList b.toList out.toList i j)(T:Two ky V a b)(h:j=b.size):Mg ky a b (out++a.extract i++b.extract j):=by
 unfold Mg;rw[J6,J6,Xc,Xc];exact I.done T.sa (by rw[Dz];lia)
theorem Inv.mgL(I:Inv ky a.toList b.toList out.toList i j)(T:Two ky V a b)(h:i+1=a.size):Mg ky a b (out++b.extract j++a.extract i):=by
 unfold Mg;rw[J6,J6,Xc,Xc];refine I.last T.sa T.sb λx c y d=>J0 (T.last x y ?_ d);obtain⟨q,e⟩:=Gr (a:=a) (i:=i) (by lia);rw[QS e,Zv (by rw[Dz];lia)]at c;rw[GK.mp c,show a.size-1=i by lia];exact e
noncomputable def wD:Array Keyed->Array Keyed->StateT SortSt Sem (Array Keyed):=sortPriv% PySem.Builtin.mergeLo
theorem X5y(o:Ask prog w A s κ ky V)(k:kindOf st=κ)(T:Two ky V a b)(na:0<a.size)(nb:0<b.size){Q:Array Keyed->SortSt->Prop}(h:∀r d,Sg st d->Mg ky a b r->Q r d):wpS (model prog w) A E s (wD a b) Q st:=by
 refine BJ (Ny (Mr ⟨U,?_⟩));obtain⟨y0,F⟩:=Gr nb;refine BJ (Fo F ?_);have I0:Inv ky a.toList b.toList (#[]:Array Keyed).toList 0 0:=⟨List.Perm.refl _,List.Pairwise.nil,λx m=>nomatch m⟩;have I1:=I0.pushB T F (λz f=>J0 (T.first z y0 F f));dsimp only;by_cases Y:(1 == b.size)=true
 ·rw[if_pos Y];exact Bb (h _ _ ⟨U,U,U,U⟩ (I1.mgD T (Fw Y)))
 rw[if_neg Y];have Y:1≠b.size:=λz=>Y (by rw[<-z];rfl);by_cases B:(0+1 == a.size)=true
 ·rw[if_pos B];exact Bb (h _ _ ⟨U,U,U,U⟩ (I1.mgL T (Fw B)))
 rw[if_neg B];have B:0+1≠a.size:=λz=>B (by rw[<-z];rfl);refine BJ (HY ?_);have L1:Lo ky a b ((#[]:Array Keyed).push y0) 0 1:=⟨I1,by lia,by lia⟩;refine BJ (Gy (Gz (Q:=λc d=>Sg st d/\∃r,c.1=some r/\Mg ky a b r) (λt c d=>Sg st d/\c.1=none/\Lo ky a b c.2.1 c.2.2.1 c.2.2.2.1/\t+1<=c.2.2.1+c.2.2.2.1) ?_ ?_ ⟨⟨U,U,U,U⟩,U,L1,by show 0+1<=0+1;lia⟩) ?_)
 ·rintro t ⟨r0,out,i,j,g⟩ H _ ht ⟨Z,rfl,L,pr⟩;dsimp only at L pr ⊢;refine BJ (Gy (Gz (Q:=λc d=>Sg st d/\((∃r,c.1=some r/\Mg ky a b r)\/c.1=none/\Lo ky a b c.2.1 c.2.2.1 c.2.2.2.1/\t+2<=c.2.2.1+c.2.2.2.1)) (λu c d=>Sg st d/\c.1=none/\Lo ky a b c.2.1 c.2.2.1 c.2.2.2.1/\t+1<=c.2.2.1+c.2.2.2.1/\(0<u->t+2<=c.2.2.1+c.2.2.2.1)) ?_ ?_ ⟨Z,U,L,pr,λz=>absurd z (by lia)⟩) ?_)
  ·rintro u ⟨r,out,i,j,S,N⟩ P _ hu ⟨p,rfl,L2,p1,p2⟩;dsimp only at L2 p1 p2 ⊢;have l1:=L2.ia;have l2:=L2.jb;have kd:=p.kind.trans k;obtain⟨y,n⟩:=Gr l2;obtain⟨x,m⟩:=Gr (a:=a) (i:=i) (by lia);refine BJ (Fo n (BJ (Fo m (BJ (V8 o kd (T.vb _ (Ig n)) (T.va _ (Ig m)) ?_)))));dsimp only;by_cases q:ky y<ky x
   ·rw[DK q,if_pos rfl];refine BJ (Fo n ?_);have I:=L2.inv.pushB T n λz f=>I_ (J0 q) (Rj T.sa m z f);by_cases e:(j+1 == b.size)=true
    ·rw[if_pos e];exact Bb ⟨p,.inl ⟨_,U,I.mgD T (Fw e)⟩⟩
    rw[if_neg e];have e:j+1≠b.size:=λz=>e (by rw[<-z];exact UJ _);split
    ·exact Bb ⟨p,.inr ⟨U,⟨I,l1,by dsimp only;lia⟩,by dsimp only;lia⟩⟩
    ·exact Bb ⟨p,U,⟨I,l1,by dsimp only;lia⟩,by dsimp only;lia,λ_=>by dsimp only;lia⟩
   ·rw[Dl q,if_neg Dw];refine BJ (Fo m ?_);have I:=L2.inv.pushA T m λz f=>I_ (Int.not_lt.mp q) (Rj T.sb n z f);by_cases e:(i+1+1 == a.size)=true
    ·rw[if_pos e];exact Bb ⟨p,.inl ⟨_,U,I.mgL T (Fw e)⟩⟩
    rw[if_neg e];have e:i+1+1≠a.size:=λz=>e (by rw[<-z];exact UJ _);split
    ·exact Bb ⟨p,.inr ⟨U,⟨I,by dsimp only;lia,l2⟩,by dsimp only;lia⟩⟩
    ·exact Bb ⟨p,U,⟨I,by dsimp only;lia,l2⟩,by dsimp only;lia,λ_=>by dsimp only;lia⟩
  ·rintro ⟨r,out,i,j,S,N⟩ P ⟨p,rfl,L2,p1,p2⟩;exact⟨p,.inr ⟨U,L2,p2 (by lia)⟩⟩
  ·rintro ⟨r,out,i,j,S,N⟩ P ⟨p,h2⟩;rcases h2 with ⟨r,rfl,X⟩ | ⟨rfl,L2,p2⟩
   ·exact Bb ⟨p,r,U,X⟩
   ·dsimp only at L2 p2 ⊢;refine BJ (Ny (Mr ⟨U,?_⟩));refine BJ (Gy (Gz (Q:=λc d=>Sg st d/\((∃r,c.1=some r/\Mg ky a b r)\/c.1=none/\Lo ky a b c.2.1 c.2.2.1 c.2.2.2.1/\t+2<=c.2.2.1+c.2.2.2.1)) (λu c d=>Sg st d/\c.1=none/\Lo ky a b c.2.1 c.2.2.1 c.2.2.2.1/\t+2<=c.2.2.1+c.2.2.2.1) ?_ ?_ ⟨p,U,L2,p2⟩) ?_)
    ·rintro u ⟨r,out,i,j,g,S,N⟩ W _ hu ⟨S3,rfl,C,M⟩;dsimp only at C M ⊢;have l1:=C.ia;have l2:=C.jb;obtain⟨y,n⟩:=Gr l2;have vy:=T.vb _ (Ig n);obtain⟨tA,O⟩:=Vq (V:=V) (key:=y) (left:=false) i T.sa T.va (a.size-i) (by lia);have ta:tA+1<=a.size-i:=by
      apply Classical.byContradiction;intro z;obtain⟨x,m,_,ix⟩:=O.at_ (a.size-i-1) (by lia);have:=ix.mpr (by have:=O.le;lia);rw[if_neg Dw]at this;have:=T.last x y (by rw[<-m];congr 1;lia) (Ig n);lia
     obtain⟨x,m,vx,ix⟩:=O.at_ tA (by lia);have xy:ky y<ky x:=by
      have:¬ ky x<=ky y:=λz=>absurd (ix.mp (by rw[if_neg Dw];exact z)) (Lz _);lia
     have IA:Inv ky a.toList b.toList (out++a.extract i (i+tA)).toList (i+tA) j:=by
      rw[J6,YL];refine C.inv.takeA T.sa λz f q hq=>?_;obtain⟨t',K,e'⟩:=RV f;obtain⟨z',B,_,iz⟩:=O.at_ t' (by lia);rw[e']at B;cases B;have:=iz.mpr K;rw[if_neg Dw]at this;exact I_ this (Rj T.sb n q hq)
     have xl:=Rj T.sa m;apply qw
     case h =>
      intro D;by_cases gg:g>1
      ·rw[if_pos gg];generalize g-1=g1;exact D g1
      ·rw[if_neg gg];exact D g
     intro g1;refine BJ (Jg ?_);refine BJ (Fo n (BJ (RN o (by exact S3.kind.trans k) vy O (show 0<a.size-i by lia) ?_)));dsimp only;apply Xi (R:=λ(u:Array Keyed) (v:Nat)=>Inv ky a.toList b.toList u.toList v j/\v+1<a.size/\a[v]?=some x/\i<=v)
     case h =>
      intro D;by_cases k0:tA>0
      ·rw[if_pos k0];by_cases q1:(i+tA+1 == a.size)=true
       ·rw[if_pos q1];exact Bb ⟨⟨S3.kind,S3.arr,S3.pend,S3.fail⟩,.inl ⟨_,U,IA.mgL T (Fw q1)⟩⟩
       rw[if_neg q1,if_neg (λz=>by have:=Fw z;lia)];simp only[Ia]at q1;have J:Inv ky a.toList b.toList (out++a.extract i (i+tA)).toList (i+tA) j/\i+tA+1<a.size/\a[i+tA]?=some x/\i<=i+tA:=⟨IA,by lia,m,by lia⟩;generalize out++a.extract i (i+tA)=u at J ⊢;generalize i+tA=v at J ⊢;exact D u v J
      ·rw[if_neg k0];have z:tA=0:=by lia
       exact D out i ⟨C.inv,l1,by rw[z]at m;exact m,BX _⟩
     rintro u v ⟨I2,h2,hv,iv⟩;have xl:=Rj T.sa hv;refine BJ (Fo n ?_);have I3:=I2.pushB T n λz f=>I_ (J0 xy) (xl z f);by_cases q2:(j+1 == b.size)=true
     ·rw[if_pos q2];exact Bb ⟨⟨S3.kind,S3.arr,S3.pend,S3.fail⟩,.inl ⟨_,U,I3.mgD T (Fw q2)⟩⟩
     rw[if_neg q2];simp only[Ia]at q2;obtain⟨tB,BB⟩:=Vq (V:=V) (key:=x) (left:=true) (j+1) T.sb T.vb (b.size-(j+1)) (by lia);have tb:=BB.le;refine BJ (Fo hv (BJ (RN o (by exact S3.kind.trans k) vx BB (show 0<b.size-(j+1) by lia) ?_)));dsimp only;have IB:=I3.takeB (k:=tB) T.sb λz f q hq=>by
      obtain⟨t',K,e'⟩:=RV f;obtain⟨z',B,_,iz⟩:=BB.at_ t' (by lia);rw[e']at B;cases B;have:=iz.mpr K;rw[if_pos rfl]at this;exact I_ (J0 this) (xl q hq)
     rw[<-YL,<-J6]at IB;have low:∀z∈b.toList.drop (j+1+tB),ky x<=ky z:=λz f=>by
      by_cases l:j+1+tB<b.size
      ·obtain⟨y',a0,_,iy⟩:=BB.at_ tB (by lia);have:¬ ky y'<ky x:=λq=>absurd (iy.mp (by rw[if_pos rfl];exact q)) (Lz _);have:=Rj T.sb a0 z f;lia
      ·rw[Zv (by rw[Dz];lia)]at f;cases f
     apply Xi (R:=λ(u':Array Keyed) (G:Nat)=>Inv ky a.toList b.toList u'.toList v G/\G<b.size/\(∀z∈b.toList.drop G,ky x<=ky z)/\j+1<=G)
     case h =>
      intro D;by_cases k1:tB>0
      ·rw[if_pos k1];by_cases q3:(j+1+tB == b.size)=true
       ·rw[if_pos q3];exact Bb ⟨⟨S3.kind,S3.arr,S3.pend,S3.fail⟩,.inl ⟨_,U,IB.mgD T (Fw q3)⟩⟩
       rw[if_neg q3];simp only[Ia]at q3;have J:Inv ky a.toList b.toList (u.push y++b.extract (j+1) (j+1+tB)).toList v (j+1+tB)/\j+1+tB<b.size/\(∀z∈b.toList.drop (j+1+tB),ky x<=ky z)/\j+1<=j+1+tB:=⟨IB,by lia,low,by lia⟩;generalize u.push y++b.extract (j+1) (j+1+tB)=u' at J ⊢;generalize j+1+tB=G at J ⊢;exact D u' G J
      ·rw[if_neg k1];have z:tB=0:=by lia
       exact D _ (j+1) ⟨I3,by lia,by rw[z]at low;exact low,BX _⟩
     rintro u' G ⟨I5,h5,low,jl⟩;refine BJ (Fo hv ?_);have I6:=I5.pushA T hv low;split
     ·rename_i q4;exact Bb ⟨⟨S3.kind,S3.arr,S3.pend,S3.fail⟩,.inl ⟨_,U,I6.mgL T (Fw q4)⟩⟩
     ·rename_i q4;simp only[Ia]at q4;split
      ·exact Bb ⟨⟨S3.kind,S3.arr,S3.pend,S3.fail⟩,.inr ⟨U,⟨I6,by dsimp only;lia,h5⟩,by dsimp only;lia⟩⟩
      ·exact Bb ⟨⟨S3.kind,S3.arr,S3.pend,S3.fail⟩,U,⟨I6,by dsimp only;lia,h5⟩,by dsimp only;lia⟩
    ·rintro ⟨r,out,i,j,g,S,N⟩ W ⟨S3,rfl,C,M⟩;exact⟨S3,.inr ⟨U,C,M⟩⟩
    ·rintro ⟨r,out,i,j,g,S,N⟩ W ⟨S3,h3⟩;rcases h3 with ⟨r,rfl,X⟩ | ⟨rfl,C,M⟩
     ·exact Bb ⟨S3,r,U,X⟩
     ·dsimp only at C M ⊢;exact BJ (Jg (Bb ⟨⟨S3.kind,S3.arr,S3.pend,S3.fail⟩,U,C,by dsimp only;lia⟩))
 ·rintro ⟨r0,out,i,j,g⟩ H ⟨Z,rfl,L,pr⟩;dsimp only at L pr;have:=L.ia;have:=L.jb;lia
 ·rintro ⟨r0,out,i,j,g⟩ H ⟨Z,r,rfl,X⟩;exact Bb (h r H Z X)
end Rt
namespace Rt
open PySem.W
section
variable {ky:Keyed->Int}{V:Keyed->Prop}
structure Cz (ky:Keyed->Int) (a b R:List Keyed) (m n:Nat):Prop where
 perm:(a.take m++b.take n++R).Perm (a++b)
 srt:Cm ky R
 le:∀y,y∈a.take m\/y∈b.take n->∀x∈R,ky y<=ky x
variable {a b R:List Keyed}{m n k:Nat}
theorem V1(a:List Keyed)(m k:Nat):a.take (m+k)=a.take m++(a.drop m).take k:=List.take_add
theorem rF(sa:Cm ky a)(m k:Nat):Cm ky ((a.drop m).take k):=O6 (Nf sa m) k
theorem Cz.takeA(I:Cz ky a b R (m+k) n)(sa:Cm ky a)(h:∀x∈(a.drop m).take k,∀y∈b.take n,ky y<=ky x):Cz ky a b ((a.drop m).take k++R) m n:=by
 have e:=V1 a m k;refine⟨?_,Ja.mpr ⟨rF sa m k,I.srt,λx c y d=>I.le x (.inl (by rw[e];exact GR _ c)) y d⟩,λy d x c=>?_⟩
 ·refine List.Perm.trans ?_ I.perm;rw[e];simp only[K8];exact List.Perm.append_left _ (m8 _ _ _)
 ·rcases Ho.mp c with c | c
  ·rcases d with d | d
   ·exact Vv sa m y d x (Oe c)
   ·exact h x c y d
  ·exact I.le y (d.imp_left λq=>by rw[e];exact Q_ _ q) x c
theorem Cz.takeB(I:Cz ky a b R m (n+k))(sb:Cm ky b)(h:∀x∈(b.drop n).take k,∀y∈a.take m,ky y<=ky x):Cz ky a b ((b.drop n).take k++R) m n:=by
 have e:=V1 b n k;refine⟨?_,Ja.mpr ⟨rF sb n k,I.srt,λx c y d=>I.le x (.inr (by rw[e];exact GR _ c)) y d⟩,λy d x c=>?_⟩
 ·refine List.Perm.trans ?_ I.perm;rw[e];simp only[K8];exact List.Perm.refl _
 ·rcases Ho.mp c with c | c
  ·rcases d with d | d
   ·exact h x c y d
   ·exact Vv sb n y d x (Oe c)
  ·exact I.le y (d.imp_right λq=>by rw[e];exact Q_ _ q) x c
theorem Cz.done(I:Cz ky a b R 0 n)(sb:Cm ky b):Cm ky (a.take 0++b.take n++R):=by
 rw[List.take_zero,Wc];exact Ja.mpr ⟨O6 sb n,I.srt,λx d y c=>I.le x (.inr d) y c⟩
theorem Cz.first(I:Cz ky a b R m n)(sa:Cm ky a)(sb:Cm ky b)(h:∀x∈a,∀y∈b.take n,ky y<=ky x):(b.take n++a.take m++R).Perm (a++b)/\Cm ky (b.take n++a.take m++R):=by
 refine⟨(nP.append_right R).trans I.perm,Ja.mpr ⟨Ja.mpr ⟨O6 sb n,O6 sa m,λx c y d=>h y (Oe d) x c⟩,I.srt,λx c y d=>?_⟩⟩;rcases Ho.mp c with c | c
 ·exact I.le x (.inr c) y d
 ·exact I.le x (.inl c) y d
end
section
variable {prog:U8}{w:W5}{A:Y6}{E:U2}{s:U7}{κ:SortKind}{ky:Keyed->Int}{V:Keyed->Prop}{st:SortSt}
variable {a b out:Array Keyed}{m n k:Nat}{x y:Keyed}
abbrev HI (ky:Keyed->Int)(a b out:Array Keyed)(m n:Nat):Prop:=Cz ky a.toList b.toList out.toList.reverse m n
theorem Xk(a:Array Keyed)(m:Nat):(a.extract 0 m).toList=a.toList.take m:=by
 rw[Ue]<;>rfl
theorem Vs(a:Array Keyed)(m k:Nat)(h:m<=k):(a.extract m k).toList=(a.toList.drop m).take (k-m):=by
 rw[Ue]<;>rfl
theorem Xr(sr:Cm ky a.toList)(h:a[m]?=some x):∀z∈a.toList.take (m+1),ky z<=ky x:=λz b=>by
 rw[V1,M9 h]at b;rcases Ho.mp b with b | b
 ·exact Vv sr m z b x (by rw[QS h];exact K_)
 ·rw[GK.mp b];exact GC _
theorem Ri{z:Keyed}(h:z∈a.toList.take m):∃t,t<m/\a[t]?=some z:=by
 have:=RV (i:=0) (k:=m) (a:=a) (z:=z) (by rw[Ti];exact h);obtain⟨t,l,e⟩:=this;rw[Hj]at e;exact⟨t,l,e⟩
theorem JK(I:HI ky a b out (m+1) n)(T:Two ky V a b)(hx:a[m]?=some x)(h:∀z∈b.toList.take n,ky z<=ky x):HI ky a b (out.push x) m n:=by
 have:=Cz.takeA (k:=1) I T.sa (λz c q d=>by rw[M9 hx]at c;rw[GK.mp c];exact h q d);rw[M9 hx]at this;show Cz _ _ _ _ _ _;rw[UL,Wr];exact this
theorem Lb(I:HI ky a b out m (n+1))(T:Two ky V a b)(hy:b[n]?=some y)(h:∀z∈a.toList.take m,ky z<=ky y):HI ky a b (out.push y) m n:=by
 have:=Cz.takeB (k:=1) I T.sb (λz c q d=>by rw[M9 hy]at c;rw[GK.mp c];exact h q d);rw[M9 hy]at this;show Cz _ _ _ _ _ _;rw[UL,Wr];exact this
theorem VP(I:HI ky a b out k n)(T:Two ky V a b)(mk:m<=k)(h:∀x∈(a.toList.drop m).take (k-m),∀y∈b.toList.take n,ky y<=ky x):HI ky a b (out++(a.extract m k).reverse) m n:=by
 have I:Cz ky a.toList b.toList out.toList.reverse (m+(k-m)) n:=by rw[Od mk];exact I
 show Cz _ _ _ _ _ _;rw[J6,Ws,Wr,Zr,Vs _ _ _ mk];exact I.takeA T.sa h
theorem VN(I:HI ky a b out m k)(T:Two ky V a b)(nk:n<=k)(h:∀x∈(b.toList.drop n).take (k-n),∀y∈a.toList.take m,ky y<=ky x):HI ky a b (out++(b.extract n k).reverse) m n:=by
 have I:Cz ky a.toList b.toList out.toList.reverse m (n+(k-n)):=by rw[Od nk];exact I
 show Cz _ _ _ _ _ _;rw[J6,Ws,Wr,Zr,Vs _ _ _ nk];exact I.takeB T.sb h
theorem hD(I:HI ky a b out m n)(T:Two ky V a b)(h:m=0):Mg ky a b (a.extract 0 m++b.extract 0 n++out.reverse):=by
 subst h;unfold Mg;rw[J6,J6,Xk,Xk,Ws];exact⟨I.perm,Cz.done I T.sb⟩
theorem hF(I:HI ky a b out m n)(T:Two ky V a b)(nb:0<b.size)(h:n=1):Mg ky a b (b.extract 0 n++a.extract 0 m++out.reverse):=by
 subst h;unfold Mg;rw[J6,J6,Xk,Xk,Ws];refine Cz.first I T.sa T.sb λx c y d=>?_
 obtain⟨t,f,e⟩:=Ri d;obtain rfl:t=0:=by lia
 exact J0 (T.first x y e c)
structure Hi (ky:Keyed->Int) (a b out:Array Keyed) (m n:Nat):Prop where
 inv:HI ky a b out m n
 m0:0<m
 mA:m<=a.size
 n1:1<n
 nB:n<=b.size
noncomputable def wF:Array Keyed->Array Keyed->StateT SortSt Sem (Array Keyed):=sortPriv% PySem.Builtin.mergeHi
theorem X5z(o:Ask prog w A s κ ky V)(k:kindOf st=κ)(T:Two ky V a b)(na:0<a.size)(nb:0<b.size){Q:Array Keyed->SortSt->Prop}(h:∀r d,Sg st d->Mg ky a b r->Q r d):wpS (model prog w) A E s (wF a b) Q st:=by
 refine BJ (Ny (Mr ⟨U,?_⟩));obtain⟨x0,H⟩:=Gr (a:=a) (i:=a.size-1) (by lia);refine BJ (Fo H ?_);have I0:HI ky a b #[] (a.size-1+1) b.size:=by
  refine⟨?_,List.Pairwise.nil,λy _ x l=>nomatch l⟩;rw[Nat.sub_add_cancel na,MF (by simp),MF (by simp)];simp
 have I1:=JK I0 T H (λz p=>J0 (T.last x0 z H (Oe p)));dsimp only;by_cases e1:(a.size-1 == 0)=true
 ·rw[if_pos e1];exact Bb (h _ _ ⟨U,U,U,U⟩ (hD I1 T (Fw e1)))
 rw[if_neg e1];simp only[Ia]at e1;by_cases f:(b.size == 1)=true
 ·rw[if_pos f];exact Bb (h _ _ ⟨U,U,U,U⟩ (hF I1 T nb (Fw f)))
 rw[if_neg f];simp only[Ia]at f;refine BJ (HY ?_);have L1:Hi ky a b ((#[]:Array Keyed).push x0) (a.size-1) b.size:=⟨I1,by lia,by lia,by lia,by lia⟩;refine BJ (Gy (Gz (Q:=λc d=>Sg st d/\∃r,c.1=some r/\Mg ky a b r) (λt c d=>Sg st d/\c.1=none/\Hi ky a b c.2.2.2.1 c.2.1 c.2.2.1/\c.2.1+c.2.2.1+t+1<=a.size+b.size) ?_ ?_ ⟨⟨U,U,U,U⟩,U,L1,by dsimp only;lia⟩) ?_)
 ·rintro t ⟨r0,i,j,out,g⟩ K _ ht ⟨S1,rfl,L,pr⟩;dsimp only at L pr ⊢;refine BJ (Gy (Gz (Q:=λc d=>Sg st d/\((∃r,c.1=some r/\Mg ky a b r)\/c.1=none/\Hi ky a b c.2.2.2.1 c.2.1 c.2.2.1/\c.2.1+c.2.2.1+t+2<=a.size+b.size)) (λu c d=>Sg st d/\c.1=none/\Hi ky a b c.2.2.2.1 c.2.1 c.2.2.1/\c.2.1+c.2.2.1+t+1<=a.size+b.size/\(0<u->c.2.1+c.2.2.1+t+2<=a.size+b.size)) ?_ ?_ ⟨S1,U,L,pr,λz=>absurd z (by lia)⟩) ?_)
  ·rintro u ⟨r,i,j,out,W,P⟩ S _ hu ⟨C,rfl,L2,p1,p2⟩;dsimp only at L2 p1 p2 ⊢;have l1:=L2.m0;have l2:=L2.n1;have l3:=L2.mA;have l4:=L2.nB;have kd:=C.kind.trans k;obtain⟨i,rfl⟩:∃i',i=i'+1:=⟨i-1,by lia⟩;obtain⟨j,rfl⟩:∃j',j=j'+1:=⟨j-1,by lia⟩;simp only[Zg];obtain⟨y,D⟩:=Gr (a:=b) (i:=j) (by lia);obtain⟨x,l⟩:=Gr (a:=a) (i:=i) (by lia);refine BJ (Fo D (BJ (Fo l (BJ (V8 o kd (T.vb _ (Ig D)) (T.va _ (Ig l)) ?_)))));dsimp only;by_cases q:ky y<ky x
   ·rw[DK q,if_pos rfl];refine BJ (Fo l ?_);have I:=JK L2.inv T l λz p=>I_ (Xr T.sb D z p) (J0 q);by_cases e:(i == 0)=true
    ·rw[if_pos e];exact Bb ⟨C,.inl ⟨_,U,hD I T (Fw e)⟩⟩
    rw[if_neg e];simp only[Ia]at e;split
    ·exact Bb ⟨C,.inr ⟨U,⟨I,by dsimp only;lia,by dsimp only;lia,l2,l4⟩,by dsimp only;lia⟩⟩
    ·exact Bb ⟨C,U,⟨I,by dsimp only;lia,by dsimp only;lia,l2,l4⟩,by dsimp only;lia,λ_=>by dsimp only;lia⟩
   ·rw[Dl q,if_neg Dw];refine BJ (Fo D ?_);have I:=Lb L2.inv T D λz p=>I_ (Xr T.sa l z p) (Int.not_lt.mp q);by_cases e:(j == 1)=true
    ·rw[if_pos e];exact Bb ⟨C,.inl ⟨_,U,hF I T nb (Fw e)⟩⟩
    rw[if_neg e];simp only[Ia]at e;split
    ·exact Bb ⟨C,.inr ⟨U,⟨I,l1,l3,by dsimp only;lia,by dsimp only;lia⟩,by dsimp only;lia⟩⟩
    ·exact Bb ⟨C,U,⟨I,l1,l3,by dsimp only;lia,by dsimp only;lia⟩,by dsimp only;lia,λ_=>by dsimp only;lia⟩
  ·rintro ⟨r,i,j,out,W,P⟩ S ⟨C,rfl,L2,p1,p2⟩;exact⟨C,.inr ⟨U,L2,p2 (by lia)⟩⟩
  ·rintro ⟨r,i,j,out,W,P⟩ S ⟨C,h2⟩;rcases h2 with ⟨r,rfl,hr⟩ | ⟨rfl,L2,p2⟩
   ·exact Bb ⟨C,r,U,hr⟩
   ·dsimp only at L2 p2 ⊢;refine BJ (Ny (Mr ⟨U,?_⟩));refine BJ (Gy (Gz (Q:=λc d=>Sg st d/\((∃r,c.1=some r/\Mg ky a b r)\/c.1=none/\Hi ky a b c.2.2.2.1 c.2.1 c.2.2.1/\c.2.1+c.2.2.1+t+2<=a.size+b.size)) (λu c d=>Sg st d/\c.1=none/\Hi ky a b c.2.2.2.1 c.2.1 c.2.2.1/\c.2.1+c.2.2.1+t+2<=a.size+b.size) ?_ ?_ ⟨C,U,L2,p2⟩) ?_)
    ·rintro u ⟨r,i,j,out,g,W,P⟩ a0 _ hu ⟨S3,rfl,B,O⟩;dsimp only at B O ⊢;have l1:=B.m0;have l2:=B.n1;have l3:=B.mA;have l4:=B.nB;obtain⟨j,rfl⟩:∃j',j=j'+1:=⟨j-1,by lia⟩;simp only[Zg];obtain⟨y,D⟩:=Gr (a:=b) (i:=j) (by lia);have vy:=T.vb _ (Ig D);have yh:=Xr T.sb D;obtain⟨tA,BA⟩:=Vq (V:=V) (key:=y) (left:=false) 0 T.sa T.va i (by lia);have ta:=BA.le;have IA:=VP B.inv T ta (m:=tA) λz p q hq=>by
      obtain⟨t',F,J⟩:=RV p;obtain⟨z',f,_,N⟩:=BA.at_ (tA+t') (by lia);rw[Hj,J]at f;cases f;have:¬ ky z<=ky y:=λq=>absurd (N.mp (by rw[if_neg Dw];exact q)) (by lia);have:=yh q hq;lia
     have Y:∀z∈a.toList.take tA,ky z<=ky y:=λz p=>by
      obtain⟨t',F,J⟩:=Ri p;obtain⟨z',f,_,N⟩:=BA.at_ t' (by lia);rw[Hj,J]at f;cases f;have:=N.mpr F;rw[if_neg Dw]at this;exact this
     apply qw
     case h =>
      intro G;by_cases gg:g>1
      ·rw[if_pos gg];generalize g-1=g1;exact G g1
      ·rw[if_neg gg];exact G g
     intro g1;refine BJ (Jg ?_);refine BJ (Fo D (BJ (RN o (by exact S3.kind.trans k) vy BA (show i-1<i by lia) ?_)));dsimp only;have hk:∃kk,i-tA=kk:=⟨_,U⟩;obtain⟨kk,hk⟩:=hk;rw[hk];apply Xi (R:=λ(u:Array Keyed) (v:Nat)=>HI ky a b u v (j+1)/\0<v/\v<=i/\(∀z∈a.toList.take v,ky z<=ky y))
     case h =>
      intro G;by_cases k0:kk>0
      ·rw[if_pos k0];by_cases q1:(tA == 0)=true
       ·rw[if_pos q1];exact Bb ⟨⟨S3.kind,S3.arr,S3.pend,S3.fail⟩,.inl ⟨_,U,hD IA T (Fw q1)⟩⟩
       rw[if_neg q1];simp only[Ia]at q1;have M:HI ky a b (out++(a.extract tA i).reverse) tA (j+1)/\0<tA/\tA<=i/\(∀z∈a.toList.take tA,ky z<=ky y):=⟨IA,by lia,by lia,Y⟩;generalize out++(a.extract tA i).reverse=u at M ⊢;generalize tA=v at M ⊢;exact G u v M
      ·rw[if_neg k0];have z:tA=i:=by lia
       exact G out i ⟨B.inv,by lia,BX _,by rw[z]at Y;exact Y⟩
     rintro u v ⟨I2,v0,vi,Y⟩;obtain⟨X,f⟩:∃X,v=X+1:=⟨v-1,by lia⟩;refine BJ (Fo D ?_);have I3:=Lb I2 T D Y;by_cases q2:(j == 1)=true
     ·rw[if_pos q2];exact Bb ⟨⟨S3.kind,S3.arr,S3.pend,S3.fail⟩,.inl ⟨_,U,hF I3 T nb (Fw q2)⟩⟩
     rw[if_neg q2];simp only[Ia]at q2;subst f;simp only[Zg];obtain⟨x,l⟩:=Gr (a:=a) (i:=X) (by lia);have vx:=T.va _ (Ig l);have xh:=Xr T.sa l;obtain⟨tB,BB⟩:=Vq (V:=V) (key:=x) (left:=true) 0 T.sb T.vb j (by lia);have tb:=BB.le;have a2:0<tB:=by
      obtain⟨y',a1,_,iy⟩:=BB.at_ 0 (by lia);exact iy.mp (by rw[if_pos rfl];exact T.first x y' a1 (Ig l))
     refine BJ (Fo l (BJ (RN o (by exact S3.kind.trans k) vx BB (show j-1<j by lia) ?_)));dsimp only;have IB:=VN I3 T tb (n:=tB) λz p q hq=>by
      obtain⟨t',F,J⟩:=RV p;obtain⟨z',f,_,N⟩:=BB.at_ (tB+t') (by lia);rw[Hj,J]at f;cases f;have:¬ ky z<ky x:=λq=>absurd (N.mp (by rw[if_pos rfl];exact q)) (by lia);have:=xh q hq;lia
     have Z:∀z∈b.toList.take tB,ky z<=ky x:=λz p=>by
      obtain⟨t',F,J⟩:=Ri p;obtain⟨z',f,_,N⟩:=BB.at_ t' (by lia);rw[Hj,J]at f;cases f;have:=N.mpr F;rw[if_pos rfl]at this;exact J0 this
     have hj:∃kj,j-tB=kj:=⟨_,U⟩;obtain⟨kj,hj⟩:=hj;rw[hj];apply Xi (R:=λ(u:Array Keyed) (v:Nat)=>HI ky a b u (X+1) v/\1<v/\v<=j/\(∀z∈b.toList.take v,ky z<=ky x))
     case h =>
      intro G;by_cases k1:kj>0
      ·rw[if_pos k1];by_cases q3:(tB == 1)=true
       ·rw[if_pos q3];exact Bb ⟨⟨S3.kind,S3.arr,S3.pend,S3.fail⟩,.inl ⟨_,U,hF IB T nb (Fw q3)⟩⟩
       rw[if_neg q3,if_neg (λz=>by have:=Fw z;lia)];simp only[Ia]at q3;have M:HI ky a b (u.push y++(b.extract tB j).reverse) (X+1) tB/\1<tB/\tB<=j/\(∀z∈b.toList.take tB,ky z<=ky x):=⟨IB,by lia,by lia,Z⟩;generalize u.push y++(b.extract tB j).reverse=u' at M ⊢;generalize tB=v' at M ⊢;exact G u' v' M
      ·rw[if_neg k1];have z:tB=j:=by lia
       exact G _ j ⟨I3,by lia,BX _,by rw[z]at Z;exact Z⟩
     rintro u' v' ⟨I5,v1,vj,Z⟩;refine BJ (Fo l ?_);have I6:=JK I5 T l Z;split
     ·rename_i q4;exact Bb ⟨⟨S3.kind,S3.arr,S3.pend,S3.fail⟩,.inl ⟨_,U,hD I6 T (Fw q4)⟩⟩
     ·rename_i q4;simp only[Ia]at q4;split
      ·exact Bb ⟨⟨S3.kind,S3.arr,S3.pend,S3.fail⟩,.inr ⟨U,⟨I6,by dsimp only;lia,by dsimp only;lia,by dsimp only;lia,by dsimp only;lia⟩,by dsimp only;lia⟩⟩
      ·exact Bb ⟨⟨S3.kind,S3.arr,S3.pend,S3.fail⟩,U,⟨I6,by dsimp only;lia,by dsimp only;lia,by dsimp only;lia,by dsimp only;lia⟩,by dsimp only;lia⟩
    ·rintro ⟨r,i,j,out,g,W,P⟩ a0 ⟨S3,rfl,B,O⟩;exact⟨S3,.inr ⟨U,B,O⟩⟩
    ·rintro ⟨r,i,j,out,g,W,P⟩ a0 ⟨S3,h3⟩;rcases h3 with ⟨r,rfl,hr⟩ | ⟨rfl,B,O⟩
     ·exact Bb ⟨S3,r,U,hr⟩
     ·dsimp only at B O ⊢;exact BJ (Jg (Bb ⟨⟨S3.kind,S3.arr,S3.pend,S3.fail⟩,U,B,by dsimp only;lia⟩))
 ·rintro ⟨r0,i,j,out,g⟩ K ⟨S1,rfl,L,pr⟩;dsimp only at L pr;lia
 ·rintro ⟨r0,i,j,out,g⟩ K ⟨S1,r,rfl,hr⟩;exact Bb (h r K S1 hr)
end
variable {prog:U8}{w:W5}{A:Y6}{E:U2}{s:U7}{κ:SortKind}{ky:Keyed->Int}{V:Keyed->Prop}{st:SortSt}
theorem sO(c:Nat):∀(l:List Keyed) (m:Nat) (xs:Array Keyed),c+m+l.length<=xs.size ->
  ((l.zipIdx m).foldl (λa (p:Keyed×Nat)=>a.setIfInBounds (c+p.2) p.1) xs).toList=xs.toList.take (c+m)++l++xs.toList.drop (c+m+l.length)
 | [],m,xs,_=>by simp
 | x::l,m,xs,h=>by
  rw[Pj]at h;rw[List.zipIdx_cons,List.foldl_cons,sO c l (m+1) _ (by rw[Array.size_setIfInBounds];lia),Array.toList_setIfInBounds];have d:c+m<xs.toList.length:=by simp;lia
  rw[List.set_eq_take_append_cons_drop,if_pos d];have e:(xs.toList.take (c+m)++x::xs.toList.drop (c+m+1)).take (c+(m+1))=xs.toList.take (c+m)++[x]:=by
   rw[show c+(m+1)=(xs.toList.take (c+m)).length+1 by rw[JG];lia,List.take_length_add_append];rfl
  have b:(xs.toList.take (c+m)++x::xs.toList.drop (c+m+1)).drop (c+(m+1)+l.length)=xs.toList.drop (c+m+(x::l).length):=by
   rw[show c+(m+1)+l.length=(xs.toList.take (c+m)).length+(1+l.length) by rw[JG];lia,List.drop_length_add_append,bU 1,List.drop_succ_cons,Qw,Pj];congr 1;lia
  rw[e,b,K8 (xs.toList.take (c+m))];rfl
variable{xs:Array Keyed}{i k:Nat}
theorem Ra{z:Keyed}(h:z∈(xs.extract i k).toList):∃t,i<=t/\t<k/\xs[t]?=some z:=by
 by_cases ik:i<=k
 ·rw[Vs xs i k ik]at h;obtain⟨t,l,e⟩:=RV h;exact⟨i+t,by lia,by lia,e⟩
 ·rw[Ue]at h;have:(xs.toList.drop i).take (k-i)=[]:=by rw[show k-i=0 by lia];rfl
  rw[show xs.toList.extract i k=(xs.toList.drop i).take (k-i) from rfl,this]at h;cases h
variable{lo:Nat}
theorem X3q(ik:i<=k)(h:Cm ky ((xs.toList.drop lo).take (k-lo)))(li:lo<=i):Cm ky (xs.extract i k).toList:=by
 rw[Vs xs i k ik];have e:(xs.toList.drop i).take (k-i)=((xs.toList.drop lo).take (k-lo)).drop (i-lo):=by
  rw[List.drop_take,Qw,show lo+(i-lo)=i by lia,show k-lo-(i-lo)=k-i by lia]
 rw[e];exact Nf h _
variable{j:Nat}
theorem p8{l:List Keyed}(h:Cm ky l)(hj:j<l.length)(ij:i<=j):ky l[i]<=ky l[j]:=by
 by_cases e:i=j
 ·subst e;exact GC _
 ·exact Jm.mp h i j _ hj (by lia)
theorem iK{key:Keyed}{arr:Array Keyed}{left:Bool}(base:Nat)(v:∀x∈arr.toList,V x):∀n,base+n<=arr.size->(∀{i j x y},arr[i]?=some x->arr[j]?=some y->base<=i->i<=j->j<base+n->ky x<=ky y)->∃T,Yl ky V left key arr base n T
 | 0,_,_=>⟨0,λi hi=>absurd hi (JF _),BX _⟩
 | n+1,hn,mono=>by
  obtain⟨T,B⟩:=iK (left:=left) (key:=key) base v n (by lia) λa b c d e=>mono a b c d (by lia);obtain⟨x,e⟩:=Gr (a:=arr) (i:=base+n) (by lia);have g:=v x (Ig e);by_cases q:(if left=true then ky x<ky key else ky x<=ky key)
  ·refine⟨n+1,λi hi=>?_,BX _⟩;obtain⟨x1,f⟩:=Gr (a:=arr) (i:=base+i) (by lia);refine⟨x1,f,v x1 (Ig f),⟨λ_=>hi,λ_=>?_⟩⟩;have:=mono f e (by lia) (by lia) (by lia);cases left
   ·simp only[K9,JZ]at q ⊢;lia
   ·simp only[HX]at q ⊢;lia
  ·refine⟨T,λi hi=>?_,Nat.le_succ_of_le B.le⟩;by_cases z:i=n
   ·subst z;exact⟨x,e,g,⟨λy=>absurd y q,λy=>absurd B.le (by lia)⟩⟩
   ·exact B.at_ i (by lia)
variable{n:Nat}
theorem _3{y:Keyed}(sr:Cm ky (xs.toList.drop n))(h:xs[n]?=some y):∀z∈xs.toList.drop (n+1),ky y<=ky z:=λz a=>by
 unfold Cm at sr;rw[QS h]at sr;exact(Q7.mp sr).1 z a
structure Lr (ky:Keyed->Int) (V:Keyed->Prop) (xs:Array Keyed) (n:Nat):Prop where
 lo:Cm ky (xs.toList.take n)
 hi:Cm ky (xs.toList.drop n)
 v:∀x∈xs.toList,V x
 n0:0<n
 n1:n<xs.size
theorem X1r(x y z:Nat×Nat×Nat):(#[x,y].setIfInBounds 0 z).eraseIdxIfInBounds (0+1)=#[z]:=by
 simp[Array.eraseIdxIfInBounds]
noncomputable def wG:Nat->StateT SortSt Sem Bool:=sortPriv% PySem.Builtin.mergeAt
theorem X0r{σ:Type}{M:Model}{x st:σ}{Q:PUnit->σ->Prop}(h:Q ⟨⟩ x):wpS M A E s (set x:StateT σ Sem PUnit) Q st:=by
 unfold wpS;rw[StateT.run_set];exact CP ⟨U,h⟩
variable{Q:Bool->SortSt->Prop}
theorem X6a(o:Ask prog w A s κ ky V){p q g:Nat}(Hv:Lr ky V xs n)
  (h:∀c:SortSt,PyProof.Rows.kindOf c=κ->failedOf c=none->pendingOf c=#[(0,n+(xs.size-n),p)]->(arrOf c).toList.Perm xs.toList->Cm ky (arrOf c).toList->Q true c):wpS (model prog w) A E s (wG 0) Q (SortSt.mk' κ xs #[(0,n,p),(n,xs.size-n,q)] g none):=by
 have n0:=Hv.n0;have n1:=Hv.n1;have rest:xs.toList.take n++xs.toList.drop n=xs.toList:=RD _ _;have at_:∀i,i<xs.size->∃x,xs[i]?=some x/\V x:=λi hi=>by
  obtain⟨x,e⟩:=Gr hi;exact⟨x,e,Hv.v x (Ig e)⟩
 have D:∀{i j x y},xs[i]?=some x->xs[j]?=some y->i<=j->j<n->ky x<=ky y:=λ{i j x y} f k G jn=>by
  obtain⟨l1,rfl⟩:=Jb.mp f;obtain⟨l2,rfl⟩:=Jb.mp k;have:=p8 Hv.lo (i:=i) (j:=j) (by rw[JG,Dz];lia) G;rw[Ub,Ub,GQ,GQ]at this;exact this
 have F:∀{i j x y},xs[i]?=some x->xs[j]?=some y->n<=i->i<=j->ky x<=ky y:=λ{i j x y} f k N G=>by
  obtain⟨l1,rfl⟩:=Jb.mp f;obtain⟨l2,rfl⟩:=Jb.mp k;have:=p8 Hv.hi (i:=i-n) (j:=j-n) (by rw[OD,Dz];lia) (by lia);simp only[Ua,GQ,Od N,Od (CZ N G)]at this;exact this
 refine BJ (HY ?_);refine BJ (X0r ?_);rw[X1r];obtain⟨y,k,vy⟩:=at_ n n1;refine BJ (Fo k ?_);obtain⟨tA,X⟩:=iK (ky:=ky) (V:=V) (key:=y) (left:=false) 0 Hv.v n (by lia) λf k _ G jn=>D f k G (by lia);refine BJ (RN o (by rfl) vy X (show 0<n by lia) ?_);dsimp only;have ta:=X.le;have O:∀{i x},xs[i]?=some x->i<n->(ky x<=ky y↔i<tA):=λ{i x} f hi=>by
  obtain⟨x',e,_,K⟩:=X.at_ i hi;rw[Hj,f]at e;cases e;rw[if_neg Dw]at K;exact K
 by_cases I:(n-tA == 0)=true
 ·rw[if_pos I];have I:n-tA=0:=Fw I;refine Bb (h _ rfl rfl rfl (List.Perm.refl _) ?_);show Cm ky xs.toList;rw[<-rest];refine Ja.mpr ⟨Hv.lo,Hv.hi,λa d b m=>?_⟩;obtain⟨t,C,e⟩:=Ri d;rw[QS k]at m;have l1:=(O e C).mpr (by lia);rcases Cw.mp m with rfl | m
  ·exact l1
  ·exact I_ l1 (_3 Hv.hi k b m)
 rw[if_neg I];simp only[Ia]at I;rw[Hj,Od ta];obtain⟨x,f,vx⟩:=at_ (n-1) (by lia);have xy:ky y<ky x:=by
  have:=O f (by lia);have:¬ ky x<=ky y:=λz=>by have:=this.mp z;lia
  lia
 obtain⟨tB,BB⟩:=iK (ky:=ky) (V:=V) (key:=x) (left:=true) n Hv.v (xs.size-n) (by lia) λf k N G _=>F f k N G;have tb:=BB.le;have R:∀{i z},xs[n+i]?=some z->i<xs.size-n->(ky z<ky x↔i<tB):=λ{i z} B hi=>by
  obtain⟨x',e,_,K⟩:=BB.at_ i hi;rw[B]at e;cases e;rw[if_pos rfl]at K;exact K
 have a0:0<tB:=(R (i:=0) k (by lia)).mp xy;refine BJ (Fo f (BJ (RN o (by rfl) vx BB (show xs.size-n-1<xs.size-n by lia) ?_)));dsimp only;rw[if_neg (show ¬ (tB == 0)=true by simp only[Ia];lia)];have Y:(xs.extract tA n).size=n-tA:=by rw[Array.size_extract];lia
 have sy:(xs.extract n (n+tB)).size=tB:=by rw[Array.size_extract];lia
 have T:Two ky V (xs.extract tA n) (xs.extract n (n+tB)):=by
  refine⟨X3q (lo:=0) ta (by rw[Ti];exact Hv.lo) (Fg _),?_,λz B=>?_,λz B=>?_,λa b d m=>?_,λa b m d=>?_⟩
  ·rw[YL];exact O6 Hv.hi tB
  ·obtain⟨t,_,_,e⟩:=Ra B;exact Hv.v z (Ig e)
  ·obtain⟨t,_,_,e⟩:=Ra B;exact Hv.v z (Ig e)
  ·rw[Y,mF,if_pos (by lia),show tA+(n-tA-1)=n-1 by lia,f]at d;cases d;obtain⟨t,t1,t2,e⟩:=Ra m;rw[show t=n+(t-n) by lia]at e;exact(R e (by lia)).mpr (by lia)
  ·rw[mF,if_pos (by lia),bV,k]at m;cases m;obtain⟨t,t1,t2,e⟩:=Ra d;have:¬ ky a<=ky y:=λz=>by have:=(O e t2).mp z;lia
   lia
 have fin:∀(r:Array Keyed) (c:SortSt),Sg (SortSt.mk' κ xs #[(0,n+(xs.size-n),p)] g none) c->Mg ky (xs.extract tA n) (xs.extract n (n+tB)) r ->
   Q true (SortSt.mk' (PyProof.Rows.kindOf c) (r.toList.zipIdx.foldl (λa (x:Keyed×Nat)=>a.setIfInBounds (tA+x.2) x.1) (arrOf c)) (pendingOf c) (gallopOf c) (failedOf c)):=λr c S M=>by
  have lr:r.toList.length=n-tA+tB:=by
   have:=M.1.length_eq;rw[DN,Dz,Dz,Dz,Y,sy]at this;rw[Dz];exact this
  have L:=sO tA r.toList 0 (arrOf c) (by rw[S.arr];show tA+0+_<=xs.size;lia);rw[S.arr]at L;have L:(r.toList.zipIdx.foldl (λa (x:Keyed×Nat)=>a.setIfInBounds (tA+x.2) x.1) xs).toList=xs.toList.take tA++r.toList++xs.toList.drop (n+tB):=by
   rw[show n+tB=tA+0+r.toList.length by lia];exact L
  refine h _ S.kind S.fail S.pend ?_ ?_
  ·show ((r.toList.zipIdx.foldl (λa (x:Keyed×Nat)=>a.setIfInBounds (tA+x.2) x.1) (arrOf c)).toList).Perm _;rw[S.arr];show ((r.toList.zipIdx.foldl (λa (x:Keyed×Nat)=>a.setIfInBounds (tA+x.2) x.1) xs).toList).Perm _;rw[L];have e0:xs.toList=xs.toList.take tA++((xs.extract tA n).toList++(xs.extract n (n+tB)).toList)++xs.toList.drop (n+tB):=by
    rw[Vs xs tA n ta,YL,<-K8,<-V1,Od ta,<-V1,RD]
   refine List.Perm.trans ?_ (List.Perm.of_eq e0.symm);exact(M.1.append_left _).append_right _
  ·show Cm ky ((r.toList.zipIdx.foldl (λa (x:Keyed×Nat)=>a.setIfInBounds (tA+x.2) x.1) (arrOf c)).toList);rw[S.arr];show Cm ky ((r.toList.zipIdx.foldl (λa (x:Keyed×Nat)=>a.setIfInBounds (tA+x.2) x.1) xs).toList);rw[L];have H:∀z∈r.toList,∃t,tA<=t/\t<n+tB/\xs[t]?=some z:=λz B=>by
    rcases Ho.mp (M.1.mem_iff.mp B) with q | q
    ·obtain⟨t,a,b,e⟩:=Ra q;exact⟨t,a,by lia,e⟩
    ·obtain⟨t,a,b,e⟩:=Ra q;exact⟨t,by lia,b,e⟩
   have J:∀{t z t' z'},xs[t]?=some z->t<tA->xs[t']?=some z'->tA<=t'->ky z<=ky z':=λ{t z t' z'} e C u U=>by
    by_cases q:t'<n
    ·exact D e u (by lia) q
    ·exact I_ ((O e (by lia)).mpr C) (F k u (BX _) (by lia))
   have P:∀{t z t' z'},xs[t]?=some z->t<n+tB->xs[t']?=some z'->n+tB<=t'->ky z<=ky z':=λ{t z t' z'} e C u U=>by
    by_cases q:t<n
    ·have l':=(Jb.mp u).1;rw[show t'=n+(t'-n) by lia]at u;have:¬ ky z'<ky x:=λy=>by have:=(R u (by lia)).mp y;lia
     exact I_ (D e f (by lia) (by lia)) (Int.not_lt.mp this)
    ·exact F e u (by lia) (by lia)
   have dr:∀z∈xs.toList.drop (n+tB),∃t,n+tB<=t/\xs[t]?=some z:=λz B=>by
    obtain⟨t,l,e⟩:=List.getElem_of_mem B;rw[OD,Dz]at l;rw[Ua,GQ]at e;exact⟨n+tB+t,by lia,by rw[<-e];simp⟩
   refine Ja.mpr ⟨Ja.mpr ⟨?_,M.2,λa d b m=>?_⟩,?_,λa d b m=>?_⟩
   ·have:=O6 Hv.lo tA;rw[List.take_take,h_ ta]at this;exact this
   ·obtain⟨t,C,e⟩:=Ri d;obtain⟨t',Z,_,u⟩:=H b m;exact J e C u Z
   ·have:=Nf Hv.hi tB;rw[Qw]at this;exact this
   ·obtain⟨t',b1,u⟩:=dr b m;rcases Ho.mp d with d | d
    ·obtain⟨t,C,e⟩:=Ri d;exact J e C u (by lia)
    ·obtain⟨t,Z,a2,e⟩:=H a d;exact P e a2 u b1
 split
 ·refine BJ (X5y o (by rfl) T (by lia) (by lia) λr c S M=>?_);refine BJ (Jg (BJ (HY (Bb ?_))));have:=fin r c S M;have W:failedOf c=none:=S.fail;show Q (failedOf c).isNone _;rw[show (failedOf c).isNone=true by rw[W];rfl];exact this
 ·refine BJ (X5z o (by rfl) T (by lia) (by lia) λr c S M=>?_);refine BJ (Jg (BJ (HY (Bb ?_))));have:=fin r c S M;have W:failedOf c=none:=S.fail;show Q (failedOf c).isNone _;rw[show (failedOf c).isNone=true by rw[W];rfl];exact this
variable {prog:U8}{w:W5}{A:Y6}{E:U2}{s:U7}{κ:SortKind}{ky:Keyed->Int}{V:Keyed->Prop}{st:SortSt}
noncomputable def kz (ky:Keyed->Int)(xs:Array Keyed)(i:Nat):Int:=match xs[i]? with
 | some p=>ky p
 | none=>0
theorem QG{ys:Array Keyed}(h:xs[i]?=ys[j]?):kz ky xs i=kz ky ys j:=by unfold kz;rw[h]
theorem Rq{x:Keyed}(h:xs[i]?=some x):kz ky xs i=ky x:=by unfold kz;rw[h]
structure Gd (ky:Keyed->Int) (V:Keyed->Prop) (xs:Array Keyed):Prop where
 v:∀x∈xs.toList,V x
 nd:(xs.toList.map ky).Nodup
structure Be (xs xs':Array Keyed) (lo:Nat):Prop where
 perm:xs'.toList.Perm xs.toList
 below:∀i,i<lo->xs'[i]?=xs[i]?
theorem Gd.of{xs':Array Keyed}(g:Gd ky V xs)(p:xs'.toList.Perm xs.toList):Gd ky V xs':=⟨λx a=>g.v x (p.mem_iff.mp a),(p.map ky).nodup_iff.mpr g.nd⟩
theorem Gd.ne(g:Gd ky V xs)(hi:i<xs.size)(hj:j<xs.size)(ij:i≠j):kz ky xs i≠kz ky xs j:=λe=>by
 obtain⟨x,a⟩:=Gr hi;obtain⟨y,c⟩:=Gr hj;rw[Rq a,Rq c]at e;have nd:=Jm.mp g.nd;have ex:=(Jb.mp a).2;have b:=(Jb.mp c).2;rcases Nat.lt_or_gt_of_ne ij with l | l
 ·refine nd i j (by simpa using hi) (by simpa using hj) l ?_;rw[Mu,Mu,GQ,GQ,ex,b,e]
 ·refine nd j i (by simpa using hj) (by simpa using hi) l ?_;rw[Mu,Mu,GQ,GQ,ex,b,e]
theorem RZ(o:Ask prog w A s κ ky V)(k:PyProof.Rows.kindOf st=κ)(g:Gd ky V (arrOf st))(hi:i<(arrOf st).size)(hj:j<(arrOf st).size){Q:Option Bool->SortSt->Prop}(h:Q (some (decide (kz ky (arrOf st) i<kz ky (arrOf st) j))) st):wpS (model prog w) A E s (ltAt' i j) Q st:=by
 obtain⟨x,b⟩:=Gr hi;obtain⟨y,a⟩:=Gr hj;rw[Rq b,Rq a]at h;rw[ltAt'_eq];exact BJ (HY (BJ (Fo b (BJ (Fo a (V8 o k (g.v x (Ig b)) (g.v y (Ig a)) h))))))
def Up (ky:Keyed->Int)(xs:Array Keyed)(lo hi:Nat):Prop:=∀i j,lo<=i->i<j->j<hi->kz ky xs i<kz ky xs j
def Dn (ky:Keyed->Int)(xs:Array Keyed)(lo hi:Nat):Prop:=∀i j,lo<=i->i<j->j<hi->kz ky xs j<kz ky xs i
theorem vJ(o:Ask prog w A s κ ky V)(k:PyProof.Rows.kindOf st=κ)(g:Gd ky V (arrOf st)){nrem:Nat}(e:lo+nrem=(arrOf st).size)(n1:1<=nrem){Q:Option Nat->SortSt->Prop}(h:∀m xs',1<=m->m<=nrem->Be (arrOf st) xs' lo->Up ky xs' lo (lo+m)->Q (some m) (setArr st xs')):wpS (model prog w) A E s (countRun' lo nrem) Q st:=by
 unfold countRun';refine BJ (Gy (Gz (Q:=λc f=>f=st/\∃m,c=(none,m)/\1<=m/\m<=nrem/\Up ky (arrOf st) lo (lo+m)/\(m=nrem\/kz ky (arrOf st) (lo+m)<kz ky (arrOf st) (lo+m-1))) (λx c f=>f=st/\c=(none,x)/\Up ky (arrOf st) lo (lo+x)) ?_ ?_ ⟨U,U,λi j a b c=>by lia⟩) ?_)
 ·rintro x c f x1 B ⟨rfl,rfl,l⟩;dsimp only;refine BJ (RZ o k g (by lia) (by lia) ?_);dsimp only;by_cases q:kz ky (arrOf f) (lo+x)<kz ky (arrOf f) (lo+x-1)
  ·rw[DK q,if_pos rfl];exact Bb ⟨U,x,U,x1,by lia,l,.inr q⟩
  ·rw[Dl q,if_neg Dw];refine Bb ⟨U,U,λi j a b c=>?_⟩;by_cases z:j=lo+x
   ·subst z;have:=g.ne (i:=lo+x) (j:=lo+x-1) (by lia) (by lia) (by lia);by_cases z2:i=lo+x-1
    ·subst z2;lia
    ·have:=l i (lo+x-1) a (by lia) (by lia);lia
   ·exact l i j a b (by lia)
 ·rintro c f ⟨rfl,rfl,l⟩;rw[show max 1 nrem=nrem by lia]at l ⊢;exact⟨U,nrem,U,n1,BX _,l,.inl rfl⟩
 rintro c f ⟨rfl,m,rfl,y,t,l,or⟩;dsimp only;by_cases e1:(m == nrem)=true
 ·rw[if_pos e1];exact Bb (h m (arrOf f) y t ⟨List.Perm.refl _,λ_ _=>rfl⟩ l)
 rw[if_neg e1];simp only[Ia]at e1;by_cases e2:m>1
 ·rw[if_pos e2];refine BJ (RZ o k g (by lia) (by lia) ?_);dsimp only;rw[DK (l lo (lo+m-1) (BX _) (by lia) (by lia)),if_pos rfl];exact Bb (h m (arrOf f) y t ⟨List.Perm.refl _,λ_ _=>rfl⟩ l)
 rw[if_neg e2];obtain rfl:m=1:=by lia
 have lt:=or.resolve_left e1;refine BJ (Ny (Mr ⟨U,?_⟩))
 refine BJ (Gy (Gz (Q:=λc d=>d=f/\∃m,c=(none,m,0)/\2<=m/\m<=nrem/\Dn ky (arrOf f) lo (lo+m)) (λx c d=>d=f/\c=(none,x,0)/\Dn ky (arrOf f) lo (lo+x)) ?_ ?_ ⟨U,U,λi j a b c=>by
  obtain rfl:i=lo:=by lia
  obtain rfl:j=i+1:=by lia
  exact lt⟩) ?_)
 ·rintro x c d x1 B ⟨rfl,rfl,dn⟩;dsimp only;refine BJ (RZ o k g (by lia) (by lia) ?_);dsimp only;have ne:=g.ne (i:=lo+x) (j:=lo+x-1) (by lia) (by lia) (by lia);by_cases q:kz ky (arrOf d) (lo+x)<kz ky (arrOf d) (lo+x-1)
  ·rw[DK q,if_pos rfl,if_neg (by lia)];refine Bb ⟨U,U,λi j a b c=>?_⟩;by_cases z:j=lo+x
   ·subst z;by_cases z2:i=lo+x-1
    ·subst z2;lia
    ·have:=dn i (lo+x-1) a (by lia) (by lia);lia
   ·exact dn i j a b (by lia)
  ·rw[Dl q,if_neg Dw];refine BJ (RZ o k g (by lia) (by lia) ?_);dsimp only;rw[DK (by lia),if_pos rfl];exact Bb ⟨U,x,U,x1,by lia,dn⟩
 ·rintro c d ⟨rfl,rfl,dn⟩;rw[show max (1+1) nrem=nrem by lia]at dn ⊢;exact⟨U,nrem,U,by lia,BX _,dn⟩
 rintro c d ⟨rfl,m,rfl,F,t,dn⟩;dsimp only;rw[if_neg (by lia)];refine BJ (wpS_reverse ?_);have sz:lo+m<=(arrOf d).size:=by lia
 have C:∀i,kz ky (mirror (arrOf d) lo (lo+m) ((lo+m-lo) / 2)) i=if lo<=i/\i<lo+m then kz ky (arrOf d) (lo+(lo+m)-1-i) else kz ky (arrOf d) i:=λi=>by
  have e:=Zk (i:=lo) sz i;by_cases c:lo<=i/\i<lo+m
  ·rw[if_pos c]at e ⊢;exact QG e
  ·rw[if_neg c]at e ⊢;exact QG e
 have v:(mirror (arrOf d) lo (lo+m) ((lo+m-lo) / 2)).toList.Perm (arrOf d).toList:=Wx.mp (mirror_perm _ _ _ _);have u:Be (arrOf d) (mirror (arrOf d) lo (lo+m) ((lo+m-lo) / 2)) lo:=⟨v,λi hi=>by rw[Zk sz,if_neg (by lia)]⟩;have g':=g.of v;have s':(mirror (arrOf d) lo (lo+m) ((lo+m-lo) / 2)).size=(arrOf d).size:=mirror_size _ _ _ _;have p:Up ky (mirror (arrOf d) lo (lo+m) ((lo+m-lo) / 2)) lo (lo+m):=λi j a b c=>by
  rw[C,C,if_pos (by lia),if_pos (by lia)];exact dn _ _ (by lia) (by lia) (by lia)
 generalize mirror (arrOf d) lo (lo+m) ((lo+m-lo) / 2)=ys at u g' s' p;refine BJ (Gy (Gz (Q:=λc n=>n=setArr d ys/\∃r,c=(none,r)/\m<=r/\r<=nrem/\Up ky ys lo (lo+r)) (λx c n=>n=setArr d ys/\c=(none,x)/\Up ky ys lo (lo+x)) ?_ ?_ ⟨U,U,p⟩) ?_)
 ·rintro x c n x1 B ⟨rfl,rfl,l⟩;dsimp only;refine BJ (RZ (st:=setArr d ys) o k g' (by show _<ys.size;lia) (by show _<ys.size;lia) ?_);show wpS _ _ _ _ (if decide (kz ky ys (lo+x)<kz ky ys (lo+x-1))=true then _ else _) _ _;by_cases q:kz ky ys (lo+x)<kz ky ys (lo+x-1)
  ·rw[DK q,if_pos rfl];exact Bb ⟨U,x,U,x1,by lia,l⟩
  ·rw[Dl q,if_neg Dw];refine Bb ⟨U,U,λi j a b c=>?_⟩;by_cases z:j=lo+x
   ·subst z;have:=g'.ne (i:=lo+x) (j:=lo+x-1) (by lia) (by lia) (by lia);by_cases z2:i=lo+x-1
    ·subst z2;lia
    ·have:=l i (lo+x-1) a (by lia) (by lia);lia
   ·exact l i j a b (by lia)
 ·rintro c n ⟨rfl,rfl,l⟩;rw[show max m nrem=nrem by lia]at l ⊢;exact⟨U,nrem,U,t,BX _,l⟩
 rintro c n ⟨rfl,r,rfl,G,D,l⟩;exact Bb (h r ys (by lia) D u l)
theorem Be.refl(xs:Array Keyed)(lo:Nat):Be xs xs lo:=⟨List.Perm.refl _,λ_ _=>rfl⟩
theorem YH{src l:Nat}(hs:src<xs.size)(hl:l<=src)(i:Nat):kz ky (bubble xs src (src-l)) i=if i=l then kz ky xs src else if l<i/\i<=src then kz ky xs (i-1) else kz ky xs i:=by
 have e:=ZJ hs (src-l) (by lia) i;rw[show src-(src-l)=l by lia]at e;by_cases c:i=l
 ·rw[if_pos c]at e ⊢;exact QG e
 ·rw[if_neg c]at e ⊢;by_cases d:l<i/\i<=src
  ·rw[if_pos d]at e ⊢;exact QG e
  ·rw[if_neg d]at e ⊢;exact QG e
theorem vG(o:Ask prog w A s κ ky V)(k:PyProof.Rows.kindOf st=κ)(g:Gd ky V (arrOf st)){ok:Nat}(e:lo+n<=(arrOf st).size)(o1:1<=ok)(on:ok<=n)(u:Up ky (arrOf st) lo (lo+ok))(h:∀xs',Be (arrOf st) xs' lo->Up ky xs' lo (lo+n)->Q true (setArr st xs')):wpS (model prog w) A E s (binarySort' lo n ok) Q st:=by
 unfold binarySort';refine BJ (Gy (Gz (Q:=λc d=>c=(none,())/\∃ys,d=setArr st ys/\Be (arrOf st) ys lo/\Up ky ys lo (lo+n)) (λx c d=>c=(none,())/\∃ys,d=setArr st ys/\Be (arrOf st) ys lo/\Up ky ys lo (lo+x)) ?_ ?_ ⟨U,arrOf st,U,Be.refl _ _,by rw[show max ok 1=ok by lia];exact u⟩) ?_)
 ·rintro x c d x1 F ⟨rfl,ys,rfl,m,f⟩;have g':=g.of m.perm;have sz:ys.size=(arrOf st).size:=by simpa using m.perm.length_eq
  have B:lo+x<ys.size:=by lia
  refine BJ (Gy (Gz (Q:=λc d=>d=setArr st ys/\∃l r,c=(none,l,r)/\l<=x/\(∀i,lo<=i->i<lo+l->kz ky ys i<kz ky ys (lo+x))/\∀i,lo+l<=i->i<lo+x->kz ky ys (lo+x)<kz ky ys i) (λt c d=>d=setArr st ys/\∃l r,c=(none,l,r)/\l<=r/\r<=x/\r-l<=x-t/\(∀i,lo<=i->i<lo+l->kz ky ys i<kz ky ys (lo+x))/\∀i,lo+r<=i->i<lo+x->kz ky ys (lo+x)<kz ky ys i) ?_ ?_ ⟨U,0,x,U,by lia,by lia,by lia,λi a b=>by lia,λi a b=>by lia⟩) ?_)
  ·rintro t c d _ G ⟨rfl,l,r,rfl,D,C,dd,p,v⟩;dsimp only;by_cases q:l>=r
   ·rw[if_pos q];obtain rfl:l=r:=by lia
    exact Bb ⟨U,l,l,U,C,p,v⟩
   ·rw[if_neg q];refine BJ (RZ (st:=setArr st ys) o k g' B (by show _<ys.size;lia) ?_);show wpS _ _ _ _ (if decide (kz ky ys (lo+x)<kz ky ys (lo+(l+r) / 2))=true then _ else _) _ _;have ne:=g'.ne (i:=lo+x) (j:=lo+(l+r) / 2) B (by lia) (by lia);by_cases z:kz ky ys (lo+x)<kz ky ys (lo+(l+r) / 2)
    ·rw[DK z,if_pos rfl];refine Bb ⟨U,l,_,U,by lia,by lia,by lia,p,λi a b=>?_⟩;by_cases y:i=lo+(l+r) / 2
     ·rw[y];exact z
     ·have:=f (lo+(l+r) / 2) i (by lia) (by lia) b;lia
    ·rw[Dl z,if_neg Dw];refine Bb ⟨U,_,r,U,by lia,C,by lia,λi a b=>?_,v⟩;by_cases y:i=lo+(l+r) / 2
     ·rw[y];lia
     ·have:=f i (lo+(l+r) / 2) a (by lia) (by lia);lia
  ·rintro c d ⟨rfl,l,r,rfl,D,C,dd,p,v⟩;obtain rfl:l=r:=by lia
   exact⟨U,l,l,U,C,p,v⟩
  ·rintro c d ⟨rfl,l,r,rfl,H,p,v⟩;dsimp only;refine BJ (Jg (Bb ⟨U,bubble ys (lo+x) (lo+x-(lo+l)),U,⟨(Wx.mp (bubble_perm _ _ _)).trans m.perm,λi hi=>?_⟩,λi j a b c=>?_⟩))
   ·rw[ZJ B _ (by lia),if_neg (by lia),if_neg (by lia)];exact m.below i hi
   ·have bi:=YH (ky:=ky) B (show lo+l<=lo+x by lia);rw[bi,bi];by_cases i1:i=lo+l
    ·rw[if_pos i1,if_neg (by lia),if_pos (by lia)];exact v (j-1) (by lia) (by lia)
    ·rw[if_neg i1];by_cases j1:j=lo+l
     ·rw[if_pos j1,if_neg (by lia)];exact p i a (by lia)
     ·rw[if_neg j1];by_cases i2:lo+l<i/\i<=lo+x
      ·rw[if_pos i2,if_pos (by lia)];exact f (i-1) (j-1) (by lia) (by lia) (by lia)
      ·rw[if_neg i2];by_cases j2:lo+l<j/\j<=lo+x
       ·rw[if_pos j2];exact f i (j-1) a (by lia) (by lia)
       ·rw[if_neg j2];exact f i j a b (by lia)
 ·rintro c d ⟨rfl,ys,rfl,m,f⟩;rw[show max (max ok 1) n=n by lia]at f;exact⟨U,ys,U,m,f⟩
 ·rintro c d ⟨rfl,ys,rfl,m,f⟩;exact Bb (h ys m f)
variable {prog:U8}{w:W5}{A:Y6}{E:U2}{s:U7}{κ:SortKind}{ky:Keyed->Int}{V:Keyed->Prop}
theorem j5{hi:Nat}(h:Up ky xs lo hi)(hh:hi<=xs.size):Cm ky ((xs.toList.drop lo).take (hi-lo)):=by
 refine Jm.mpr λi j b e f=>?_;rw[JG,OD,Dz]at b e;have:=h (lo+i) (lo+j) (by lia) (by lia) (by lia);obtain⟨x,c⟩:=Gr (a:=xs) (i:=lo+i) (by lia);obtain⟨y,d⟩:=Gr (a:=xs) (i:=lo+j) (by lia);rw[Rq c,Rq d]at this;rw[Ub,Ub,Ua,Ua,GQ,GQ,(Jb.mp c).2,(Jb.mp d).2];exact J0 this
noncomputable def St (κ:SortKind)(xs:Array Keyed)(pd:Array (Nat×Nat×Nat)):SortSt:=SortSt.mk' κ xs pd 7 none
inductive Runs (ky:Keyed->Int) (κ:SortKind) (xs:Array Keyed):SortSt->Prop
 | one {ys:Array Keyed} (p:ys.toList.Perm xs.toList) (u:Up ky ys 0 64):Runs ky κ xs (St κ ys #[(0,64,0)])
 | two {ys:Array Keyed}{n pw:Nat} (p:ys.toList.Perm xs.toList) (n0:0<n) (n1:n<64) (u:Up ky ys 0 n) (u':Up ky ys n 64):Runs ky κ xs (St κ ys #[(0,n,pw),(n,64-n,0)])
theorem Sd(o:Ask prog w A s κ ky V)(g:Gd ky V xs)(hs:xs.size=64){Q:Unit->SortSt->Prop}(h:∀k:SortSt,failedOf k=none->(arrOf k).toList.Perm xs.toList->Cm ky (arrOf k).toList->Q () k):wpS (model prog w) A E s sortRuns' Q (SortSt.mk' κ xs #[] 7 none):=by
 have O:(sortPriv% PySem.Builtin.minRun) 64 64 0=32:=by decide +kernel
 have l:∀{ys:Array Keyed},ys.toList.Perm xs.toList->ys.size=64:=λp=>by
  have:=p.length_eq;simp only[Dz]at this;lia
 unfold sortRuns';refine BJ (HY ?_);dsimp only;rw[hs];refine BJ (Gy (Gz (Q:=λc k=>c.1=none/\Runs ky κ xs k) (λx c k=>c.1=none/\(x=0/\c.2=0/\k=St κ xs #[]\/x=1/\(∃ys,32<=c.2/\c.2<=64/\k=St κ ys #[(0,c.2,0)]/\ys.toList.Perm xs.toList/\Up ky ys 0 c.2)\/2<=x/\c.2=64/\Runs ky κ xs k)) ?_ ?_ ⟨U,.inl ⟨U,U,U⟩⟩) ?_)
 ·rintro x ⟨G,lo⟩ k _ L ⟨rfl,h1⟩;dsimp only at h1 ⊢;rw[O];rcases h1 with ⟨rfl,rfl,rfl⟩ | ⟨rfl,ys,l32,l64,rfl,p,B⟩ | ⟨x2,rfl,R⟩
  ·rw[if_neg (by lia)];refine BJ (vJ (st:=St κ xs #[]) o rfl g (lo:=0) (nrem:=64-0) (by show 0+(64-0)=xs.size;lia) (by lia) λm ys J N t B=>?_);dsimp only;have H:=l t.perm;by_cases q:m<32
   ·rw[if_pos q];refine BJ (Ny (Mr ⟨U,?_⟩));refine BJ (vG (st:=setArr (St κ xs #[]) ys) o rfl (g.of t.perm) (lo:=0) (n:=min (64-0) 32) (ok:=m) (by show 0+min (64-0) 32<=ys.size;lia) J (by lia) B λzs C y=>?_);rw[if_neg (by decide)];refine BJ (HY ?_);refine BJ (Jg (Bb ⟨U,.inr (.inl ⟨U,zs,by decide,by decide,U,C.perm.trans t.perm,y⟩)⟩))
   ·rw[if_neg q];refine BJ (HY ?_);refine BJ (Jg (Bb ⟨U,.inr (.inl ⟨U,ys,by dsimp only;lia,by dsimp only;lia,?_,t.perm,by rw[Hj]at B;dsimp only;rw[Hj];exact B⟩)⟩));dsimp only;rw[Hj];rfl
  ·by_cases n64:lo>=64
   ·rw[if_pos n64];obtain rfl:lo=64:=by lia
    exact Bb ⟨U,.one p B⟩
   rw[if_neg n64];have H:=l p;refine BJ (vJ (st:=St κ ys #[(0,lo,0)]) o rfl (g.of p) (lo:=lo) (nrem:=64-lo) (by show lo+(64-lo)=ys.size;lia) (by lia) λm zs J N t F=>?_);dsimp only;have D:∀{us:Array Keyed},(∀i,i<lo->us[i]?=ys[i]?)->Up ky us 0 lo:=λe i j a b c=>by
    rw[QG (e i (by lia)),QG (e j c)];exact B i j a b c
   by_cases q:m<32
   ·rw[if_pos q];refine BJ (Ny (Mr ⟨U,?_⟩));refine BJ (vG (st:=setArr (St κ ys #[(0,lo,0)]) zs) o rfl ((g.of p).of t.perm) (lo:=lo) (n:=min (64-lo) 32) (ok:=m) (by show lo+min (64-lo) 32<=zs.size;rw[l (t.perm.trans p)];lia) J (by lia) F λus C y=>?_);rw[if_neg (by decide)];refine BJ (HY ?_);refine BJ (Gy (Gz (Q:=λc f=>c.1=none/\f=St κ us #[(0,lo,0)]) (λ_ c f=>c.1=none/\f=St κ us #[(0,lo,0)]) ?_ (λc f e=>e) ⟨U,U⟩) ?_)
    ·rintro x ⟨c,u⟩ f _ _ ⟨rfl,rfl⟩;refine BJ (HY (Bb ⟨U,U⟩))
    ·rintro ⟨c,u⟩ f ⟨rfl,rfl⟩;refine BJ (Jg (BJ (Jg (Bb ⟨U,.inr (.inr ⟨by lia,by dsimp only;lia,?_⟩)⟩))));rw[show min (64-lo) 32=64-lo by lia]at y ⊢;refine cast ?_ (Runs.two (κ:=κ) (pw:=(sortPriv% PySem.Builtin.power) 64 (2*0+lo) (2*0+lo+lo+(64-lo)) 64) ((C.perm.trans t.perm).trans p) (by lia) (by lia) (D λi hi=>(C.below i hi).trans (t.below i hi)) (by rw[Od l64]at y;exact y));congr 1
   ·rw[if_neg q];obtain rfl:m=64-lo:=by lia
    refine BJ (HY ?_);refine BJ (Gy (Gz (Q:=λc f=>c.1=none/\f=St κ zs #[(0,lo,0)]) (λ_ c f=>c.1=none/\f=St κ zs #[(0,lo,0)]) ?_ (λc f e=>e) ⟨U,U⟩) ?_)
    ·rintro x ⟨c,u⟩ f _ _ ⟨rfl,rfl⟩;refine BJ (HY (Bb ⟨U,U⟩))
    ·rintro ⟨c,u⟩ f ⟨rfl,rfl⟩;refine BJ (Jg (BJ (Jg (Bb ⟨U,.inr (.inr ⟨by lia,by dsimp only;lia,?_⟩)⟩))));refine cast ?_ (Runs.two (κ:=κ) (pw:=(sortPriv% PySem.Builtin.power) 64 (2*0+lo) (2*0+lo+lo+(64-lo)) 64) (t.perm.trans p) (by lia) (by lia) (D t.below) (by rw[Od l64]at F;exact F));congr 1
  ·rw[if_pos (by lia)];exact Bb ⟨U,R⟩
 ·rintro ⟨G,lo⟩ k ⟨rfl,h1⟩;rcases h1 with ⟨z,_⟩ | ⟨z,_⟩ | ⟨_,_,R⟩
  ·simp at z
  ·simp at z
  ·exact⟨U,R⟩
 rintro ⟨G,lo⟩ k ⟨rfl,R⟩;dsimp only;refine BJ (Gy (Gz (Q:=λc f=>c.1=none/\failedOf f=none/\(arrOf f).toList.Perm xs.toList/\Cm ky (arrOf f).toList) (λx c f=>c.1=none/\(x=0/\Runs ky κ xs f\/1<=x/\(pendingOf f).size<=1/\failedOf f=none/\(arrOf f).toList.Perm xs.toList/\Cm ky (arrOf f).toList)) ?_ ?_ ⟨U,.inl ⟨U,R⟩⟩) ?_)
 ·rintro x ⟨G,u⟩ f _ _ ⟨rfl,h2⟩;rcases h2 with ⟨rfl,R2⟩ | ⟨x1,p1,f1,I,K⟩
  ·cases R2 with
   | @one ys p B =>
    refine BJ (HY ?_);refine Bb ⟨U,U,p,?_⟩;have:=j5 B (Nat.le_of_eq (l p).symm);rw[Ti,MF (by simp[l p])]at this;exact this
   | @two ys n pw p n0 n1 B up' =>
    refine BJ (HY ?_);have H:=l p;have Hv:Lr ky V ys n:=by
     refine⟨?_,?_,λx L=>g.v x (p.mem_iff.mp L),n0,by lia⟩
     ·have:=j5 B (by lia);rw[Ti,Nat.sub_zero]at this;exact this
     ·have:=j5 up' (by lia);rw[MF (by simp[H])]at this;exact this
    have M:=X6a (E:=E) (p:=pw) (q:=0) (g:=7) o Hv (Q:=λb r=>b=true/\(pendingOf r).size<=1/\failedOf r=none/\(arrOf r).toList.Perm xs.toList/\Cm ky (arrOf r).toList) λr _ b c d e=>⟨U,by rw[c];exact BX 1,b,d.trans p,e⟩;rw[H]at M;refine BJ (Gy M ?_);rintro b r ⟨rfl,d⟩;exact Bb ⟨U,.inr ⟨by lia,d⟩⟩
  ·refine BJ (HY ?_);rw[if_pos p1];exact Bb ⟨U,f1,I,K⟩
 ·rintro ⟨G,u⟩ f ⟨rfl,h2⟩;rcases h2 with ⟨z,_⟩ | ⟨_,_,d⟩
  ·simp at z
  ·exact⟨U,d⟩
 ·rintro ⟨G,u⟩ f ⟨rfl,f1,I,K⟩;exact Bb (h f f1 I K)
variable {prog:U8}{w:W5}{A:Y6}{E:U2}{s:U7}{κ:SortKind}
theorem zQ{α β:Type}(f:α->β){l l':List β}(p:l.Perm l'):∀{m:List α},l'=m.map f->∃c:List α,c.Perm m/\l=c.map f:=by
 induction p with
 | nil =>
  intro m e;match m,e with
  | [],_=>exact⟨[],List.Perm.refl _,rfl⟩
 | cons x _ ih =>
  intro m e;match m,e with
  | a::m,e =>
   obtain⟨g,d⟩:=List.cons.inj e;obtain⟨c,q,r⟩:=ih d;exact⟨a::c,q.cons a,by rw[g,r];rfl⟩
 | swap x y l =>
  intro m e;match m,e with
  | a::b::m,e =>
   obtain⟨g,d⟩:=List.cons.inj e;obtain⟨j,k⟩:=List.cons.inj d;exact⟨b::a::m,List.Perm.swap _ _ _,by rw[g,j,k];rfl⟩
 | trans _ _ ih1 ih2 =>
  intro m e;obtain⟨c,q,r⟩:=ih2 e;obtain⟨h,i,n⟩:=ih1 r;exact⟨h,i.trans q,n⟩
variable{z:Nat->Int}
theorem X7w{ks vs:U5}(hl:ks.length=vs.length)(h64:vs.length=64)(ora:Sr.KY (RJ prog w A κ ks) z 64 s)(dis:Sr.Jv z 64)(inj:∀i j,i<64->j<64->ks.getD i .none=ks.getD j .none->z i=z j){Q:SortSt->Prop}
  (h:∀(p:Array Nat) (a:SortSt),Sr.Pm p 64->Sr.Up z p 64->failedOf a=none->arrOf a=p.map (Jy (ks.toArray.zip vs.toArray))->Q a):
  wpS (model prog w) A E s sortRuns' (λ_ a=>Q a) (SortSt.mk' κ (ks.toArray.zip vs.toArray) #[] 7 none):=by
 classical
 have it:∀i,Jy (ks.toArray.zip vs.toArray) i=(ks.getD i .none,vs.getD i .none):=kat_item hl;let V:Keyed->Prop:=λp=>∃i,i<64/\p=Jy (ks.toArray.zip vs.toArray) i;let ky:Keyed->Int:=λp=>if h:V p then z h.choose else 0;have b:∀i,i<64->ky (Jy (ks.toArray.zip vs.toArray) i)=z i:=λi hi=>by
  have v:V (Jy (ks.toArray.zip vs.toArray) i):=⟨i,hi,U⟩;show (if h:V _ then z h.choose else 0)=z i;rw[dif_pos v];obtain⟨B,F⟩:=v.choose_spec;refine(inj i _ hi B ?_).symm;exact congrArg Prod.fst ((it i).symm.trans (F.trans (it _)))
 have sz:(ks.toArray.zip vs.toArray).size=64:=by simp[hl,h64]
 have tl:(ks.toArray.zip vs.toArray).toList=(List.range 64).map (Jy (ks.toArray.zip vs.toArray)):=by
  apply Tv
  ·rw[Dz,sz,BL,Oa]
  ·intro i h1 h2;rw[Dz]at h1;rw[Mu,Wn,GQ];show _=(ks.toArray.zip vs.toArray).getD i (Value.none,Value.none);rw[Og,getElem?_pos _ i h1];rfl
 have g:Gd ky V (ks.toArray.zip vs.toArray):=by
  refine⟨λx t=>?_,?_⟩
  ·rw[tl]at t;obtain⟨i,hi,rfl⟩:=GF.mp t;exact⟨i,Em.mp hi,U⟩
  ·rw[tl,Ly];refine Jm.mpr λi j h1 h2 k=>?_;rw[BL,Oa]at h1 h2;rw[Mu,Mu,Wn,Wn];show ky (Jy _ i)≠ky (Jy _ j);rw[b i h1,b j h2];exact λe=>Dc k (dis i j h1 h2 e)
 refine Sd (ky:=ky) (V:=V) ?_ g sz λa f p o=>?_
 ·rintro x y ⟨i,hi,rfl⟩ ⟨j,m,rfl⟩ C q;rw[b i hi,b j m]at q;have:=ora i j C hi m q;rw[it,it];exact this
 ·obtain⟨l,d,r⟩:=zQ _ p tl;have n:l.length=64:=by rw[d.length_eq,Oa]
  have lt:∀(i:Nat) (hi:i<l.length),l[i]<64:=λi hi=>Em.mp (d.mem_iff.mp (K7 hi));refine h l.toArray a ⟨by simp[n],d⟩ (λi j k m=>?_) f ?_
  ·show z (l.toArray.getD i 0)<z (l.toArray.getD j 0);have hi:i<l.length:=by lia
   have c:j<l.length:=by lia
   have D:l.toArray.getD i 0=l[i]:=by simp[Array.getD,hi]
   have G:l.toArray.getD j 0=l[j]:=by simp[Array.getD,c]
   rw[D,G];unfold Cm at o;rw[r]at o;have:=Jm.mp o i j (by simpa using hi) (by simpa using c) k;rw[Mu,Mu,b _ (lt i hi),b _ (lt j c)]at this;have u:l.Nodup:=d.nodup_iff.mpr Wg;have ne:l[i]≠l[j]:=Jm.mp u i j hi c k;have:z l[i]≠z l[j]:=λe=>ne (dis _ _ (lt i hi) (lt j c) e);lia
  ·apply ZK.mp;rw[r];simp
theorem X1e{us:U5}(h2:2<=us.length)(h64:us.length<=64)(ora:Sr.KY (RJ prog w A κ us) z us.length s)(dis:Sr.Jv z us.length)(inj:∀i j,i<us.length->j<us.length->us.getD i .none=us.getD j .none->z i=z j):
  wpAny (model prog w) A (sortRuns'.run (SortSt.mk' κ (us.toArray.zip us.toArray) #[] 7 none)) (λr s'=>∃p:Array Nat,arrOf r.2=p.map (Jy (us.toArray.zip us.toArray))/\failedOf r.2=none/\s'=s/\Sr.Pm p us.length/\Sr.Up z p us.length) E s:=by
 by_cases e:us.length<64
 ·exact kat_run (Q:=λf s'=>∃p:Array Nat,arrOf f=p.map (Jy (us.toArray.zip us.toArray))/\failedOf f=none/\s'=s/\Sr.Pm p us.length/\Sr.Up z p us.length) (G:=λp s'=>s'=s/\Sr.Pm p us.length/\Sr.Up z p us.length) rfl h2 e (λp f s' _ k h g=>⟨p,k,h,g⟩) (Sr.sort ora dis h2 λp g1 g2=>⟨U,g1,g2⟩)
 ·have e:us.length=64:=by lia
  rw[e]at ora dis inj ⊢;refine Ek (X7w (E:=E) (Q:=λf=>∃p:Array Nat,arrOf f=p.map (Jy (us.toArray.zip us.toArray))/\failedOf f=none/\Sr.Pm p 64/\Sr.Up z p 64) rfl e ora dis inj λp f a b c d=>⟨p,d,c,a,b⟩) ?_ λ_ _ x=>x;rintro r s' ⟨rfl,p,a,b,c,d⟩;exact⟨p,a,b,U,c,d⟩
end Rt
namespace L2
section
variable {P:U8}{w:W5}{H:Hp}{h:Heap}
end
section
variable {X:Cx}
end
end L2
namespace L2
section
variable {prog:U8}{w:W5}{A:Y6}{E:U2}{s:U7}{l:Y9}
end
section
variable {X:Cx}
end
end L2
namespace L2
section
variable {prog:U8}{w:W5}{A:Y6}{E:U2}{s:U7}{l:Y9}
theorem X3n{us:U5}{R:List Value->Shared->Prop}(ht:s.heap.IsList l us.toArray)(hn:us.length<=sizeLine)
  (h:∀h':Heap,(∀b o,s.heap.get? b=some o->h'.get? b=some o)->s.heap.objs.size<h'.objs.size->R us {s with heap:=h'}):wpAny (model prog w) A (collect (.ref l)) R E s:=by
 obtain⟨o,d,g,n,f⟩:=ht;have low:=Bp d;have c:∀b o,s.heap.get? b=some o->(s.heap.push (seqObj "list" #[] 0)).get? b=some o:=λb o e=>DR _ e;unfold collect;refine Az (wpAny_runValue (codeAny_builtin entry_proto_collect' ?_));rw[Around.under_plainId PySem.F.plain_proto_collect _];show wpAny _ A.in1 (newList [] >>= λa=>again (.builtin "list.__iadd__" ⟨[a,.ref l],[]⟩)) _ _ s;refine Az (Te (CP ⟨plainId_quiet mU _,codeAny_builtin entry_list_iadd' ?_⟩));rw[Around.under_plainId mU _];show wpAny _ _ (Builtin.List.listExtendWith (.ref s.heap.objs.size) (.ref l) (.ref s.heap.objs.size)) _ _ {s with heap:=s.heap.push (seqObj "list" #[] 0)};unfold Builtin.List.listExtendWith;refine Az (wpAny_typeOf (T:="list") ⟨o,c _ _ d,g⟩ ?_);rw[if_pos (by rw[show (Value.type "list" == Value.type "list")=true from rfl,Bool.or_true,Bool.true_or])];refine Az (TX (c _ _ d) f (Az (TX (xs:=#[]) (n:=0) (FT _ rfl) rfl ?_)));rw[if_neg (by simp)];refine Az (N7 (xs:=#[]) (n:=0) (FT _ rfl) rfl (CP ?_) (Fg _) (by simp;lia));refine Az (wpAny_load (Tq (FT _ rfl) _) ?_);show wpAny _ _ (pure ((#[]:U9)++us.toArray).toList) _ _ _;rw[show ((#[]:U9)++us.toArray).toList=us by simp];refine CP (h _ (λb q e=>?_) ?_)
 ·have:=Bp e;exact(Q9 _ b s.heap.objs.size _ (Dc this)).trans (c b q e)
 ·show _<((s.heap.push (seqObj "list" #[] 0)).update _ _).objs.size;rw[ZL,K6];exact T_ _
end
section
variable {X:Cx}
end
end L2
set_option maxHeartbeats 1000000
namespace L2
section
variable {X:Cx}
end
end L2
namespace L2
section
variable {X:Cx}
theorem oR:∀{ps:U3}{us:U5},Vals (ps.map V.ref) us->us=ps.map Value.ref
 | [],_,.nil=>rfl
 | p::ps,_,.cons r t=>by cases r;rw[oR t];rfl
end
end L2
set_option maxHeartbeats 4000000
namespace L2
open PySem.W
theorem Ht{α β:Type}{F:α->β->Prop}:∀{l:List α}{m:List β}{i:Nat}{a:α},Paired F l m->l[i]?=some a->∃b,m[i]?=some b/\F a b
 | _,_,_,_,.nil,h=>by cases h
 | _::_,b::_,0,_,.cons e r,h=>by cases h;exact⟨b,rfl,e⟩
 | _::l,_::m,i+1,a,.cons e r,h=>Ht (l:=l) (m:=m) (i:=i) (a:=a) r h
theorem oG:∀{us:U5}{xs ys:U6},IntsAre us xs->IntsAre us ys->xs=ys
 | _,_,_,.nil,.nil=>rfl
 | _,_,_,.cons _ _ r,.cons _ _ r'=>by rw[oG r r']
theorem Xw{X:Cx}{pins:U1}{σ:St}{H:Hp}{s:U7}{b:Y9}{k:U6}(I:Inv X pins σ H s)(e:Ah X.K H b (k.map V.int)):∃o its n,s.heap.get? b=some o/\o.cls=.type "tuple"/\o.data=.seq (List.toArray its) n/\IntsAre its k:=by
 obtain⟨its,r,⟨o,h1,h2,n,a⟩,_⟩:=I.tuple e;exact⟨o,its,n,h1,h2,a,Ma r⟩
section
variable {prog:U8}{w:W5}{A:Y6}{E:U2}{s:U7}
theorem X3b{a:Y9}{us:U5}{n:Nat}{z:Nat->Int}{P:PySem.Fin->Shared->Prop}(ho:s.heap.get? a=some (seqObj "list" us.toArray n))(h64:us.length<=64)
  (T:2<=us.length->∀h':Heap,(∀b o,b≠a->s.heap.get? b=some o->h'.get? b=some o)->∃(fs:U5) (T:W8),KatTups h' us fs/\fs.length=us.length/\(∀v∈fs,Looks (model prog w) h' (typeOf v) T)/\(T == T)=true/\Sr.KY (RJ prog w A (tuples' (T != Value.type "tuple")) us) z us.length {s with heap:=h'}) (d:Sr.Jv z us.length) (inj:∀i j,i<us.length->j<us.length->us.getD i Value.none=us.getD j Value.none->z i=z j)
  (h:∀p,Sr.Pm p us.length->Sr.Up z p us.length->P (.done (.ret .none)) {s with heap:=sortedHeap s.heap a us (List.toArray (p.toList.map λi=>us.getD i Value.none))}):
  wpAny (model prog w) A (Builtin.«list.sort» ⟨[.ref a],[]⟩) P E s:=by
 have I:a<s.heap.objs.size:=Bp ho;have x:us.length<=sizeLine:=by rw[sizeLine_eq];lia
 rw[list_sort_plain];refine Az (TX ho rfl (Az (N7 ho rfl ?_ (by rw[DQ];lia) (Fg _))));obtain⟨l,g⟩:∃l,(s.heap.update a (Obj.mapSeq λ_=>(#[]:U9))).get? a=some (seqObj "list" #[] l):=⟨_,Tq ho λ_=>#[]⟩;refine Az (TJ g rfl (Az (wpAny_newTuple (Az (Te (K5 ?_) (Fg _))) (by show us.length<=_;lia))));have u:∀b o,b≠a->s.heap.get? b=some o->(((s.heap.update a (Obj.mapSeq λ_=>(#[]:U9))).push (seqObj "tuple" us.toArray 0)).push (seqObj "list" #[] 0)).get? b=some o:=λb o D e =>
  DR _ (DR _ (by rw[Q9 _ _ _ _ D];exact e))
 have c:(((s.heap.update a (Obj.mapSeq λ_=>(#[]:U9))).push (seqObj "tuple" us.toArray 0)).push (seqObj "list" #[] 0)).get? a=some (seqObj "list" #[] l):=DR _ (DR _ g);show wpAny (model prog w) A _ P E {s with heap:=((s.heap.update a (Obj.mapSeq λ_=>(#[]:U9))).push (seqObj "tuple" us.toArray 0)).push (seqObj "list" #[] 0)};dsimp only;by_cases h2:us.toArray.size<2
 ·rw[if_pos h2,if_pos h2];refine Az (CP ?_);rw[StateT.run_pure];refine Az (CP ?_);dsimp only;refine Az (TJ c rfl (Az (N7 c rfl ?_ (Fg _) (by rw[Array.size_map];show (us.toArray.zip us.toArray).size<=_;rw[Array.size_zip,Nat.min_self,DQ];lia))));simp only[Ze,K9,JZ];refine CP ?_;have k:=h _ (Sr.jK us.length) (λi j H G=>by rw[DQ]at h2;lia);have e:(List.toArray ((List.toArray (List.range us.length)).toList.map λi=>us.getD i Value.none))=(us.toArray.zip us.toArray).map (·.2):=by
   apply ZK.mp;simp only[Array.toList_map,Array.toList_zip];apply Tv
   ·simp
   ·intro i r F;have:i<us.length:=by simpa using r
    simp[this]
  rw[e]at k;exact k
 ·rw[if_neg h2,if_neg h2];rw[DQ]at h2;obtain⟨fs,y,k1,k2,k3,B,or⟩:=T (by lia) _ u;refine Az (kat_kind k1 (by lia) (T:=y) k3 B ?_);refine Az (Ek (Rt.X1e (by lia) h64 or d inj) ?_ λ_ _ e=>e);rintro ⟨⟨⟩,C⟩ s' ⟨p,m,hf,rfl,q,t⟩;dsimp only;have f:=kat_snds rfl m;rw[f];refine Az (TJ c rfl (Az (N7 c rfl ?_ (Fg _) (by rw[DQ,BL,Dz,q.size];lia))));rw[hf];simp only[Ze,K9,JZ];exact CP (h p q t)
end
theorem xg{X:Cx}:CW X (.builtin "sorted") (λxs H Q=>∃(p:Y9) (ps:U3) (ks:List (List Int)) (n:Nat),xs=[.ref p]/\Ai X.K H p (ps.map V.ref)/\Paired (λp (k:U6)=>Ah X.K H p (k.map V.int)) ps ks/\ks.length<=64/\ks.Nodup/\(∀k∈ks,Jw n k) /\
  ∀(l:Y9) (bs:U3) (ks':List (List Int)),H l=none->ks'.Perm ks->ks'.Pairwise (λa b=>bv a<bv b)->Paired (λb (k:U6)=>Ah X.K H b (k.map V.int)) bs ks'->Q (.ref l) (upd H l (.lst (bs.map V.ref)))):=by
 intro pins s σ H xs us Q I r h;obtain⟨p,ps,ks,n,rfl,hp,J,hn,nd,M,q⟩:=h;obtain⟨u,rfl,rx⟩:=vals1 r;cases rx;obtain⟨its,rv,L,hz⟩:=I.list hp;have a0:its.length=ks.length:=by have:=rv.length;rw[BL,Paired.length J]at this;exact this.symm
 have a1:(64:Nat)<=sizeLine:=by decide
 refine Calls.call_function_entry kind_sorted plain_sorted entry_sorted (args_sorted1 _) ?_;unfold Builtin.«sorted»;refine Az (m:=checkCount "sorted" 1 1 _) (CP (Az (X3n (A:=X.A.in1) L.isList (by lia) λh' E O=>?_)));have g:=XS O;have d:its.length=ks.length:=a0;have c:∀(j:Nat) (u:W8),its[j]?=some u->∃b k,u=Value.ref b/\ks[j]?=some k/\Ah X.K H b (k.map V.int):=λj u S=>by
  obtain rfl:=oR rv;rw[Cp]at S;obtain⟨b,hb,rfl⟩:=Dm.mp S;obtain⟨k,k1,k2⟩:=Ht J hb;exact⟨b,k,U,k1,k2⟩
 have B:∀i j,i<its.length->j<its.length->its.getD i Value.none=its.getD j Value.none->bv (ks.getD i [])=bv (ks.getD j []):=λi j hi f e=>by
  obtain⟨b,k,F,C,G⟩:=c i its[i] (Cv hi);obtain⟨b',k',g1,g2,g3⟩:=c j its[j] (Cv f);rw[FW,Cv hi,FW,Cv f,UG,UG,F,g1]at e;cases e;obtain⟨o,iv,m,o1,_,o3,o4⟩:=Xw I G;obtain⟨o',iv',m',p1,_,R,p4⟩:=Xw I g3;rw[o1]at p1;cases p1;rw[o3]at R;have ev:iv=iv':=by injection R with R _;simpa using R
  subst ev;rw[FW,C,FW,g2,UG,UG,oG o4 p4]
 refine Az (Te ?_ (by lia));have D:(h'.push (seqObj "list" its.toArray 0)).get? h'.objs.size=some (seqObj "list" its.toArray 0):=FT _ rfl;have TW:∀h2:Heap,(∀b o,b≠h'.objs.size->(h'.push (seqObj "list" its.toArray 0)).get? b=some o->h2.get? b=some o)->Gv h2 its ks:=λh2 kp j u S=>by
  obtain⟨b,k,F,C,G⟩:=c j u S;obtain⟨o,W,m,o1,o2,o3,o4⟩:=Xw I G;have:=E _ _ o1;exact⟨b,o,W,m,k,F,C,kp b o (Dc (Bp this)) (DR _ this),o2,o3,o4⟩
 have pos:2<=its.length->∀k∈ks,1<=k.length:=λl2 k hm=>by
  refine Nat.pos_of_ne_zero λz=>?_;have n0:n=0:=by rw[<-(M k hm).1,z]
  have F:ks[0]'(by lia)=[]:=Uj.mp (by rw[(M _ (K7 _)).1,n0]);have C:ks[1]'(by lia)=[]:=Uj.mp (by rw[(M _ (K7 _)).1,n0]);exact Jm.mp nd 0 1 (by lia) (by lia) (by decide) (by rw[F,C])
 refine Az (K5 (ZV slot_list_sort ⟨_,D,U⟩ entry_list_sort (X3b (z:=λj=>bv (ks.getD j [])) D (by lia) (λl2 h2 kp=>?_) (vN nd M d) B λy h1 h2=>⟨_,U,?_⟩) (args_list_sort _)))
 ·obtain⟨fs,k1,k2,k3⟩:=(TW h2 kp).firsts (pos l2);exact⟨fs,.type "int",k1,k2,(λv hv=>by obtain⟨i,t,rfl⟩:=k3 v hv;exact .now),by decide,Gv.ask (s:={s with heap:=h2,toks:=s.toks}) (TW h2 kp) M⟩
 refine CP ⟨_,U,?_⟩;obtain⟨e,Z⟩:=sortedHeap_at (out:=List.toArray (y.toList.map λi=>its.getD i Value.none)) D;have kp:∀b o,s.heap.get? b=some o->(sortedHeap (h'.push (seqObj "list" its.toArray 0)) h'.objs.size its (List.toArray (y.toList.map λi=>its.getD i Value.none))).get? b=some o:=λb o x=>by
  have lt:=Bp (E b o x);rw[sortedHeap_old (Dc lt) (by rw[XH];exact Wi lt)];exact DR _ (E b o x)
 have L:∀i∈y.toList,i<ks.length:=λi hi=>by rw[<-d];exact Em.mp (h1.perm.mem_iff.mp hi)
 have T:∀i,i<ks.length->∃b,its.getD i Value.none=Value.ref b/\Ah X.K H b ((ks.getD i []).map V.int):=λi hi=>by
  have ha:i<its.length:=by lia
  obtain⟨b,k,F,C,G⟩:=c i its[i] (Cv ha);exact⟨b,by rw[FW,Cv ha];exact F,by rw[FW,C];exact G⟩
 obtain⟨bs,Y,N⟩:∃bs:List Addr,Vals (bs.map V.ref) (y.toList.map λi=>its.getD i Value.none)/\Paired (λb (k:U6)=>Ah X.K H b (k.map V.int)) bs (y.toList.map λi=>ks.getD i []):=by
  generalize y.toList=l at L;induction l with
  | nil=>exact⟨[],.nil,.nil⟩
  | cons i l ih =>
   obtain⟨bs,c1,c2⟩:=ih λj f=>L j (.tail _ f);obtain⟨b,d1,d2⟩:=T i (L i (.head _));exact⟨b::bs,.cons d1 c1,.cons d2 c2⟩
 have P:bs.length=ks.length:=by rw[Paired.length N,BL,Dz,h1.size,d]
 refine⟨.ref h'.objs.size,_,I.laid (t':=s.toks) kp g (show Bc X.prog X.w _ _ _ (.lst (bs.map V.ref)) from ⟨by rw[BL,P];lia,_,e,Y,Z⟩),U,q _ _ (y.toList.map λi=>ks.getD i []) (I.hok.fresh g) ?_ ?_ N⟩
 ·have e:(List.range its.length).map (λi=>ks.getD i [])=ks:=by
   rw[d];apply Tv
   ·simp
   ·intro i q1 q2;simp[q2]
  have:=h1.perm.map (λi=>ks.getD i []);rw[e]at this;exact this
 ·rw[Za];refine Jm.mpr λi j hi f ij=>?_;have hs:y.size=its.length:=h1.size;have up:=h2 i j ij (by rw[Dz]at f;lia);unfold Sr.kz at up;rw[Sr.QZ (by rw[Dz]at hi;exact hi),Sr.QZ (by rw[Dz]at f;exact f)]at up;rw[GQ,GQ];exact up
end L2
set_option maxHeartbeats 1000000
namespace L2
theorem qx{X:Cx}{K:U0}(hK:X.K=K:=by rfl):DP X (binaryOp .Add) (Nx K):=by subst hK;exact qy
end L2
namespace Av
open L2 Am Pc Ba Hw FN Ci Lq
open Lk hiding Hy
open Pt hiding Fp
open Cj (ao)
noncomputable def al:Nat->List (List Nat)
 | 0=>[[]]
 | n+1=>(al n).map (·++[0])++(al n).map (·++[1])
noncomputable abbrev iv (o:W9):List Int:=o.map λi:Nat=>(i:Int)
theorem jg:∀n,(al n).length=2^n
 | 0=>rfl
 | n+1=>by show ((al n).map _++(al n).map _).length=_;rw[DN,BL,BL,jg n,TV];lia
theorem YG:∀n,∀o∈al n,o.length=n/\∀e∈o,e<2
 | 0,o,h=>by rw[GK.mp h];exact⟨rfl,λe b=>nomatch b⟩
 | n+1,o,h=>by
  have two:∀k,k<2->o∈(al n).map (·++[k])->o.length=n+1/\∀e∈o,e<2:=λk c h=>by
   obtain⟨o',h',rfl⟩:=GF.mp h;obtain⟨l,a⟩:=YG n o' h';refine⟨by show (o'++[k]).length=_;rw[DN,l];rfl,λe b=>?_⟩;rcases Ho.mp b with b | b
   ·exact a e b
   ·rw[GK.mp b];exact c
  rcases Ho.mp h with h | h
  ·exact two 0 (by decide) h
  ·exact two 1 (by decide) h
theorem X3y:∀n,n<7->(al n).Perm (ao n):=by decide +kernel
theorem X3x:∀n,n<7->((ao n).map iv).Pairwise (λa b=>bv a<bv b):=by decide +kernel
theorem tL{α:Type}{z:α->Int}:∀{l m:List α},l.Perm m->l.Pairwise (λa b=>z a<z b)->m.Pairwise (λa b=>z a<z b)->l=m
 | [],m,p,_,_=>(List.Perm.nil_eq p)
 | a::l,[],p,_,_=>by have:=p.length_eq;simp at this
 | a::l,b::m,p,h,g=>by
  have h':=Q7.mp h;have g':=Q7.mp g;have e:a=b:=by
   rcases Cw.mp (p.mem_iff.mp (K_ (a:=a))) with e | e
   ·exact e
   ·rcases Cw.mp (p.mem_iff.mpr (K_ (a:=b))) with e2 | e2
    ·exact e2.symm
    ·have:=g'.1 a e;have:=h'.1 b e2;lia
  subst e;rw[tL (List.Perm.cons_inv p) h'.2 g'.2]
def Os (K:U0)(H:Hp):List Addr->List (List Nat)->Prop:=Paired λb o=>Ah K H b (oV o)
variable{os:List (List Nat)}
theorem Os.same{K:U0}{H H':Hp}{bs:U3}(h:Os K H bs os)(s:Same H H'):Os K H' bs os:=Paired.imp' (λ_ _ e=>s.tup e) h
theorem Os.upd{K:U0}{H:Hp}{l:Y9}{xs ys:List V}{bs:U3}(h:Os K H bs os)(e:H l=some (.lst xs)):Os K (upd H l (.lst ys)) bs os:=Paired.imp' (λ_ _ c=>Rh c e) h
theorem Oj{α β:Type}{F:α->β->Prop}{l2:List α}{r2:List β}:∀{l1:List α}{r1:List β},Paired F l1 r1->Paired F l2 r2->Paired F (l1++l2) (r1++r2)
 | _,_,.nil,h=>h
 | _,_,.cons e r,h=>.cons e (Oj r h)
theorem uT{K:U0}{H:Hp}:∀{bs:U3}{os:List (List Nat)},Os K H bs os->Paired (λp (k:U6)=>Ah K H p (k.map V.int)) bs (os.map iv)
 | [],[],.nil=>.nil
 | _::_,o::_,.cons e r=>.cons (by rw[show (iv o).map V.int=oV o by unfold iv oV;rw[Ly];rfl];exact e) (uT r)
theorem uL{K:U0}{H:Hp}:∀{bs:U3}{os:List (List Nat)},Paired (λp (k:U6)=>Ah K H p (k.map V.int)) bs (os.map iv)->Os K H bs os
 | [],[],_=>.nil
 | _::_,o::_,.cons e r=>.cons (by rw[show oV o=(iv o).map V.int by unfold iv oV;rw[Ly];rfl];exact e) (uL r)
def Kz (K:U0):Sp:=λvs H Q _=>∃n:Nat,vs=[.int n]/\n<=6/\∀(r:Y9) (H':Hp) (bs:U3),H r=none->Same H H'->H' r=some (.lst (bs.map V.ref))->Os K H' bs (ao n)->Q (.ref r) H'
section
variable {P:U8}{w:W5}{K:U0}{mg:U4}{base:Heap}{k:Nat}{h:Heap}
theorem X2y(F:Ab K "_law_all_outs" (top 73) .none)(X:K.In h)(G:Ng h mg)(B:Bs mg):Aj P w K mg base (k+1) "_law_all_outs" ["_law_many"] (Kz K):=by
 refine F.cal X G ["_law_many","_law_found","_law_k"] λnd H vs Q E hr h=>?_;obtain⟨n,rfl,n6,kq⟩:=h
 refine⟨_,(@Ao _ _ _ _ _ (@BR _ _ 1 _ _ _ _ nd rfl (Or.inl rfl) (@Ii _ _ _ _ (Aa (@Cq _ _ _ _ _ Ae) Ae)) rfl (.inl rfl))
  (@Ao _ _ _ _ _ (Gf PassesOwn.never rfl (Ln rfl B.range (Aa (pv 0) Ae)) (Bq (i:=2) nd rfl (Or.inl rfl))
   (@Aq _ _ _ (@BR _ _ 1 _ _ _ _ nd rfl (Or.inl rfl) (Af YS (GZ rfl (BZ.of (Nc:=["_law_outs"]) (mp:=[none]) (by kernel_rfl)) (Es (pv 1)) (λ_ _ _ _=>(Bq (i:=0) (show (["_law_outs"]:W4).Nodup by decide +kernel) rfl (Or.inl rfl))) (λ_ _ _ _=>(Af qx (pv 0) (@Cq _ _ _ _ _ (Aa Ac Ae))))) (GZ rfl (BZ.of (Nc:=["_law_outs"]) (mp:=[none]) (by kernel_rfl)) (Es (pv 1)) (λ_ _ _ _=>(Bq (i:=0) (show (["_law_outs"]:W4).Nodup by decide +kernel) rfl (Or.inl rfl))) (λ_ _ _ _=>(Af qx (pv 0) (@Cq _ _ _ _ _ (Aa Ac Ae)))))) rfl (.inl rfl))))
  (@Aq _ _ _ (BW (Bm xg rfl B.sorted boot_sorted (Aa (pv 1) Ae)))))),?_⟩
 try dsimp only[Bv]
 refine⟨(show 0<=sizeLine by decide),λs a1=>?_⟩;have s1:=Aw a1 (.tup []);have e1:Ah K (upd H s (.tup [])) s (oV []):=Ah.of Al;generalize upd H s (.tup [])=H1 at s1 e1 ⊢;refine⟨(show 1<=sizeLine by decide),λl0 a0=>?_⟩;have s2:=Aw a0 (.lst [V.ref s]);have Y:upd H1 l0 (.lst [V.ref s]) l0=some (.lst [V.ref s]):=Al;generalize upd H1 l0 (.lst [V.ref s])=H2 at s2 Y ⊢;refine⟨_,U,_,U,by lia,by lia,?_⟩;rw[GJ];refine V3 (lo:=0) (n:=n) (λi σ H'=>Same H H'/\∃(l:Y9) (bs:U3) (v2:Option V),H' l=some (.lst (bs.map V.ref))/\Os K H' bs (al i)/\σ=[some (.int n),some (.ref l),v2]) ?_ ?_ ?_
 ·exact⟨s1.trans s2,l0,[s],none,Y,.cons (s2.tup e1) .nil,U⟩
 ·rintro i σ H3 hi ⟨S3,l,bs,v2,b,R,rfl⟩;have lo:=jg i;have f:2^i<=64:=CZ (Ib (by decide) (show i<=6 by lia)) (by decide);have a6:2^i+2^i<=64:=by
   have:=Ib (show 0<2 by decide) (show i+1<=6 by lia);rw[TV]at this;lia
  have d:bs.length=2^i:=by rw[Paired.length R,lo]
  refine⟨_,U,l,U,⟨_,Ai.of b⟩,λac J=>?_⟩;refine M_ (K:=K) (a:=l) (xs:=bs.map V.ref) (fr:=[]) (λj ys H'=>Same H3 H'/\H' ac=some (.lst ys)/\∃cs:List Addr,ys=cs.map V.ref/\Os K H' cs (((al i).take j).map (·++[0]))) (by rw[BL,d];exact CZ f (by decide)) ⟨Aw J _,Al,[],U,.nil⟩ (λj ys H' e=>Ai.of (e.1 _ _ b)) ?_ ?_
  ·rintro j x ys M NN v N ⟨W,I,cs,rfl,OA⟩ Z;rw[Cp]at v;obtain⟨p,hp,rfl⟩:=Dm.mp v;obtain⟨o,u,C⟩:=Ht R hp;have ol:=(YG i o (Hq u)).1;refine⟨_,U,(show 1<=sizeLine by decide),λt1 y=>?_⟩;have t:=Aw y (.tup [.int 0]);have T:Ah K (upd M t1 (.tup [.int 0])) t1 [.int 0]:=Ah.of Al;generalize upd M t1 (.tup [.int 0])=HB at t T ⊢;refine⟨p,t1,oV o,[.int 0],U,U,(W.trans t).tup C,T,(by intro z;cases z),(by rw[BL,ol];exact CZ (show i+1<=64 by lia) (by decide)),λq HC SC eq=>?_⟩;have c:=t.trans SC;refine Z _ _ (c _ _ I) ⟨El (W.trans c) J,Al,cs++[q],by rw[Dj];rfl,?_⟩;rw[Jk,u,Oc,Dj];exact Paired.snoc ((OA.same c).upd (c _ _ I)) (Rh (by rw[show oV (o++[0])=oV o++[.int 0] by unfold oV;rw[Dj];rfl];exact eq) (c _ _ I))
  rintro ys H4 N ⟨S4,a4,cs,rfl,O4⟩;rw[BL,d,<-lo,OJ]at O4;have S:=S4 _ _ b;have a2:=R.same S4;refine⟨_,U,l,U,⟨_,Ai.of S⟩,λL g=>?_⟩;refine M_ (K:=K) (a:=l) (xs:=bs.map V.ref) (fr:=[]) (λj ys H'=>Same H4 H'/\H' L=some (.lst ys)/\∃cs:List Addr,ys=cs.map V.ref/\Os K H' cs (((al i).take j).map (·++[1]))) (by rw[BL,d];exact CZ f (by decide)) ⟨Aw g _,Al,[],U,.nil⟩ (λj ys H' e=>Ai.of (e.1 _ _ S)) ?_ ?_
  ·rintro j x ys M NN v N ⟨W,I,cs,rfl,OA⟩ Z;rw[Cp]at v;obtain⟨p,hp,rfl⟩:=Dm.mp v;obtain⟨o,u,C⟩:=Ht a2 hp;have ol:=(YG i o (Hq u)).1;refine⟨_,U,(show 1<=sizeLine by decide),λt1 y=>?_⟩;have t:=Aw y (.tup [.int 1]);have T:Ah K (upd M t1 (.tup [.int 1])) t1 [.int 1]:=Ah.of Al;generalize upd M t1 (.tup [.int 1])=HB at t T ⊢;refine⟨p,t1,oV o,[.int 1],U,U,(W.trans t).tup C,T,(by intro z;cases z),(by rw[BL,ol];exact CZ (show i+1<=64 by lia) (by decide)),λq HC SC eq=>?_⟩;have c:=t.trans SC;refine Z _ _ (c _ _ I) ⟨El (W.trans c) g,Al,cs++[q],by rw[Dj];rfl,?_⟩;rw[Jk,u,Oc,Dj];exact Paired.snoc ((OA.same c).upd (c _ _ I)) (Rh (by rw[show oV (o++[1])=oV o++[.int 1] by unfold oV;rw[Dj];rfl];exact eq) (c _ _ I))
  rintro ys H5 a8 ⟨S5,a5,A,rfl,O5⟩;rw[BL,d,<-lo,OJ]at O5;have l1:cs.length=2^i:=by rw[Paired.length O4,BL,lo]
  have l2:A.length=2^i:=by rw[Paired.length O5,BL,lo]
  refine⟨ac,L,_,_,U,U,S5 _ _ a4,a5,(by rw[BL,BL,l1,l2];exact CZ a6 (by decide)),λl3 O=>?_⟩;have s6:=Aw O (.lst (cs.map V.ref++A.map V.ref));refine⟨S3.trans (S4.trans (S5.trans s6)),l3,cs++A,_,by rw[Al,Dj],Oj (O4.same (S5.trans s6)) (O5.same s6),U⟩
 ·rintro σ H3 ⟨S3,l,bs,v2,b,R,rfl⟩;have f:2^n<=64:=CZ (Ib (by decide) n6) (by decide);have n7:n<7:=by lia
  have m:=X3x n n7;have pm:=(X3y n n7).map iv;have a7:((al n).map iv).Nodup:=by
   rw[pm.nodup_iff];exact m.imp λh e=>by rw[e]at h;exact Int.lt_irrefl _ h
  refine⟨_,U,l,bs,(al n).map iv,n,U,Ai.of b,uT R,(by rw[BL,jg];exact f),a7,(λk hk=>?_),λr cs a3 D pk pw pr=>?_⟩
  ·obtain⟨o,u,rfl⟩:=GF.mp hk;obtain⟨lo,Y⟩:=YG n o u;refine⟨by rw[BL];exact lo,λx v=>?_⟩;obtain⟨e,he,rfl⟩:=GF.mp v;have:=Y e he;lia
  ·have ek:a3=(ao n).map iv:=tL (z:=bv) (pk.trans pm) pw m;subst ek;exact kq r _ cs (S3.free D) (S3.trans (Aw D _)) Al ((uL pr).same (Aw D _))
end
end Av
set_option maxHeartbeats 4000000
namespace Ex
def Tr (e T:Y9)(cls fl:W8)(h:Heap):Prop:=∃oe vs oT ts,h.get? e=some oe/\(oe.cls=cls/\oe.dict=none)/\oe.data=.fields vs/\vs[1]?=some (.ref T)/\T≠e/\h.get? T=some oT/\oT.data=.fields ts/\ts[3]?=some fl/\3<ts.size
structure Kp (fs xs:U3) (h h':Heap):Prop where
 keep:∀b o,h.get? b=some o->b∉fs->b∉xs->h'.get? b=some o
 slot:∀b o,h.get? b=some o->b∉xs->∃sl,h'.get? b=some {o with slots:=sl}
 there:∀b o,h.get? b=some o->∃o',h'.get? b=some o'
section
variable {fs xs:U3}{h h1 h2:Heap}
theorem Kp.trans(p:Kp fs xs h h1)(q:Kp fs xs h1 h2):Kp fs xs h h2 where
 keep:=λb o e n m=>q.keep b o (p.keep b o e n m) n m
 slot:=λb o e m=>by
  obtain⟨f,a⟩:=p.slot b o e m;obtain⟨c,d⟩:=q.slot b _ a m;exact⟨c,d⟩
 there:=λb o e=>by
  obtain⟨o1,a⟩:=p.there b o e;exact q.there b o1 a
theorem Kp.same(k:∀b o,h.get? b=some o->h1.get? b=some o):Kp fs xs h h1:=⟨λb o e _ _=>k b o e,λb o e _=>⟨o.slots,k b o e⟩,λb o e=>⟨o,k b o e⟩⟩
theorem Kp.new(o:Obj):Kp fs xs h (h.push o):=.same λ_ _ e=>DR _ e
theorem Kp.slots(p:Heap.SlotsOnly fs h h1):Kp fs xs h h1 where
 keep:=λb o e n _=>(p.2.1 b n).trans e
 slot:=λb o e _=>p.2.2 b o e
 there:=λb o e=>let ⟨_,q⟩:=p.2.2 b o e;⟨_,q⟩
theorem Kp.field{a:Y9}{o:Obj}{vs:U9}{f:Array Value->Array Value}(ha:a∈xs)(e:h.get? a=some o)(d:o.data=.fields vs):Kp fs xs h (h.update a (Obj.mapFields f)):=by
 have k:∀b u,b≠a->h.get? b=some u->(h.update a (Obj.mapFields f)).get? b=some u:=λb u n q=>(Px _ _ n.symm).trans q;have c:=RB (Obj.mapFields f) e (Obj.isFreed_of_fields (Obj.data_mapFields d f));exact⟨λb u q _ m=>k b u (λz=>m (z ▸ ha)) q,λb u q m=>⟨u.slots,k b u (λz=>m (z ▸ ha)) q⟩,λb u q=>(Classical.em (b=a)).elim (λz=>⟨o.mapFields f,by rw[z];exact c⟩) λz=>⟨u,k b u z q⟩⟩
theorem Kp.fresh(p:Kp fs xs h h1){b:Y9}(e:h1.get? b=none):h.get? b=none:=by
 cases q:h.get? b with
 | none=>rfl
 | some o=>obtain⟨o',a⟩:=p.there b o q;rw[e]at a;cases a
end
def Rec (h:Heap)(a:Y9)(o:Obj)(vs:U9):Prop:=h.get? a=some o/\o.data=.fields vs
variable{h:Heap}{a:Y9}{o:Obj}{vs:U9}
theorem Rec.put(r:Rec h a o vs)(f:Array Value->Array Value):Rec (h.update a (Obj.mapFields f)) a (o.mapFields f) (f vs):=
 ⟨RB _ r.1 (Obj.isFreed_of_fields (Obj.data_mapFields r.2 f)),Obj.data_mapFields r.2 f⟩
theorem Rec.off{b:Y9}(r:Rec h a o vs)(n:a≠b)(f:Obj->Obj):Rec (h.update b f) a o vs:=⟨(Px _ _ n.symm).trans r.1,r.2⟩
theorem X1l(o:Obj)(f:Array Value->Array Value):(o.mapFields f).cls=o.cls/\(o.mapFields f).dict=o.dict:=by
 obtain⟨c,d,a,b⟩:=o;cases a<;>exact⟨U,U⟩
variable{e T:Y9}{oe:Obj}{cls fl:W8}
theorem Tr.of{oT:Obj}{ts:U9}(r:Rec h e oe vs)(c:oe.cls=cls/\oe.dict=none)(r':Rec h T oT ts)(n:T≠e)(v:vs[1]?=some (.ref T))(t:ts[3]?=some fl)(z:3<ts.size):Tr e T cls fl h :=
 ⟨oe,vs,oT,ts,r.1,c,r.2,v,n,r'.1,r'.2,t,z⟩
section
variable {M:Model}{A:Y6}{E:U2}{s:U7}
variable{base:Heap}{env:Env}{outer:List Env}{L:Y9}{Q:Unit->Shared->Prop}
theorem hung{head:W8}{b:Bool}{xs:U3}
  (ha:A.frames=some (env::outer)) (hf:s.heap.FunFrames base (env::outer)) (hl:env.frame=some L) (r:Rec s.heap e oe vs) (hd:oe.dict=none) (two:1<vs.size) (he:e∈xs)
  (k:∀h' T,s.heap.get? T=none->Tr e T oe.cls .none h'->Kp ((env::outer).filterMap (·.frame)) xs s.heap h'->Q () {s with heap:=h'}):
  wpAny M A (do let a ← frameOf env;let i ← entryPlaceOf L b;let t ← EntryCells.newEntry head a .none (rawInt L) .none i;setField (.ref e) 1 t) (λ_ s'=>wpAny M A (setFlight (.ref e) none) Q E s') E s:=by
 have D:e∉(env::outer).filterMap (·.frame):=λz=>by
  obtain⟨_,o,q,n⟩:=hf.mem z;exact n vs (Option.some.inj (r.1.symm.trans q) ▸ r.2)
 refine Az (wpAny_frameOf_fun ha hf hl λh1 j=>Az (wpAny_entryPlaceOf λi place=>Az ?_));have y:Kp ((env::outer).filterMap (·.frame)) xs s.heap h1:=.slots j;have x:Rec h1 e oe vs:=⟨(j.2.1 e D).trans r.1,r.2⟩;have ne:h1.objs.size≠e:=N6 (Bp x.1);have new:s.heap.get? h1.objs.size=none:=y.fresh (Heap.get?_none_of_le (BX _));simp only[EntryCells.newEntry,newFields];refine Ob ?_ (place.sizeOk5 _ _ _ _ _);obtain⟨o,B,ts,d,t3,tz⟩:∃o:Obj,o={ cls:=.type "traceback",dict:=none,data:=.fields ([head,.ref L,.none,rawInt L,.none]++(if i.isEmpty then List.replicate 6 Value.none else i)).toArray}/\∃ts:Array Value,o.data=.fields ts/\ts[3]?=some (rawInt L)/\3<ts.size:=by
  refine⟨_,U,_,U,?_,?_⟩
  ·rcases place with rfl | ⟨_,_,_,_,_,_,_,rfl⟩<;>simp
  ·simp only[DQ,DN,Pj,List.length_nil];lia
 rw[<-B];have h:Rec (h1.push o) e oe vs:=⟨DR _ x.1,x.2⟩;have C:Rec (h1.push o) h1.objs.size o ts:=⟨FT _ (Obj.isFreed_of_fields d),d⟩;have p2:=y.trans (Kp.new o);refine Tp h.1 h.2 two ?_;have v:=h.put (·.setIfInBounds 1 (Value.ref h1.objs.size));have l:=C.off ne (Obj.mapFields (·.setIfInBounds 1 (Value.ref h1.objs.size)));have p:=p2.trans (Kp.field (f:=(·.setIfInBounds 1 (Value.ref h1.objs.size))) he h.1 h.2);have v1:(vs.setIfInBounds 1 (Value.ref h1.objs.size))[1]?=some (.ref h1.objs.size):=by simp[two]
 refine wpAny_setFlight_none v.1 v.2 v1 l.1 l.2 tz (k _ h1.objs.size new ?_ ?_)
 ·have c:=X1l oe (·.setIfInBounds 1 (Value.ref h1.objs.size));exact Tr.of (v.off ne.symm _) ⟨c.1,c.2.trans hd⟩ (l.put _) ne v1 (by simp[tz]) (by simpa using tz)
 ·have q:∀b u,b≠h1.objs.size->Heap.get? ((h1.push o).update e (Obj.mapFields (·.setIfInBounds 1 (Value.ref h1.objs.size)))) b=some u->Heap.get? (((h1.push o).update e (Obj.mapFields (·.setIfInBounds 1 (Value.ref h1.objs.size)))).update h1.objs.size (Obj.mapFields (·.setIfInBounds 3 .none))) b=some u:=λb u n z=>(Px _ _ n.symm).trans z;have g:∀b u,s.heap.get? b=some u->b≠h1.objs.size:=λb u z w=>by rw[w,new]at z;cases z
  exact⟨λb u z n m=>q b u (g b u z) (p.keep b u z n m),λb u z m=>let ⟨j,w⟩:=p.slot b u z m;⟨j,q b _ (g b u z) w⟩,λb u z=>let ⟨u',w⟩:=p.there b u z;⟨u',q b u' (g b u z) w⟩⟩
theorem flight(t:Tr e T cls fl s.heap)(k:∀h',Tr e T cls .none h'->(∀b,b≠T->h'.get? b=s.heap.get? b)->Q () {s with heap:=h'}):wpAny M A (setFlight (.ref e) none) Q E s:=by
 obtain⟨oe,vs,f,ts,d,c,a,v,n,t1,t2,-,z⟩:=t;have r:Rec s.heap e oe vs:=⟨d,a⟩;have g:Rec s.heap T f ts:=⟨t1,t2⟩;exact wpAny_setFlight_none d a v t1 t2 z (k _ (Tr.of (r.off n.symm _) c (g.put _) n v (by simp[z]) (by simpa using z)) λb m=>Px _ _ m.symm)
theorem xU
  (ha:A.frames=some (env::outer)) (hf:s.heap.FunFrames base (env::outer)) (hl:env.frame=some L) (e1:s.heap.get? e=some oe) (hd:oe.dict=none) (e2:oe.data=.fields vs) (one:vs[1]?=some .none)
  (k:∀h' T,s.heap.get? T=none->Tr e T oe.cls .none h'->Kp ((env::outer).filterMap (·.frame)) [e] s.heap h'->Q () {s with heap:=h'}):wpAny M A (leaving env (.ref e)) Q E s:=by
 have r:Rec s.heap e oe vs:=⟨e1,e2⟩;unfold leaving noteFrame;simp only[hl];exact Az (Az (Jz e1 e2 one (hung ha hf hl r hd (Jb.mp one).1 (by simp) k)))
theorem jT{T0:Y9}
  (ha:A.frames=some (env::outer)) (hf:s.heap.FunFrames base (env::outer)) (hl:env.frame=some L) (ht:Tr e T0 cls .none s.heap)
  (k:∀h' T,s.heap.get? T=none->Tr e T cls .none h'->Kp ((env::outer).filterMap (·.frame)) [e,T0] s.heap h'->Q () {s with heap:=h'}):wpAny M A (noteFrame (.ref e) env) (λ_ s'=>wpAny M A (setFlight (.ref e) none) Q E s') E s:=by
 obtain⟨oe,vs,j,ts,g,⟨c,i⟩,h,one,n,t1,t2,a,d⟩:=ht;have r:Rec s.heap e oe vs:=⟨g,h⟩;have t:Rec s.heap T0 j ts:=⟨t1,t2⟩;have p:Kp ((env::outer).filterMap (·.frame)) [e,T0] s.heap (s.heap.update T0 (Obj.mapFields (·.setIfInBounds 3 Value.none))):=.field (by simp) t1 t2
 have fr:Heap.FunFrames (s.heap.update T0 (Obj.mapFields (·.setIfInBounds 3 Value.none))) base (env::outer):=hf.of_keeps λb o q m=>⟨o,(Px _ _ λz=>by
  rw[<-z,t1]at q;exact m ts (Option.some.inj q ▸ t2)).trans q,U⟩
 unfold noteFrame;simp only[hl];refine Az (Jz g h one ?_);simp only[show (Value.ref T0 != Value.none)=true from rfl,HX];refine Az (Jz t1 t2 a ?_);simp only[show (Value.none == rawInt L)=false from rfl,K9,JZ];refine Az (Tp t1 t2 d ?_);refine hung (s:={s with heap:=s.heap.update T0 (Obj.mapFields (·.setIfInBounds 3 Value.none))}) (xs:=[e,T0]) ha fr hl (r.off n.symm _) i (Jb.mp one).1 (.head _) λh' T l f q=>?_;rw[c]at f;exact k h' T (p.fresh l) f (p.trans q)
theorem Y2i{T0:Y9}
  (ha:A.frames=some (env::outer)) (hf:s.heap.FunFrames base (env::outer)) (hl:env.frame=some L) (ht:Tr e T0 cls .none s.heap)
  (k:∀h' T,s.heap.get? T=none->Tr e T cls .none h'->Kp ((env::outer).filterMap (·.frame)) [e,T0] s.heap h'->Q () {s with heap:=h'}):wpAny M A (leaving env (.ref e)) Q E s :=
 Az (jT ha hf hl ht k)
end
end Ex
namespace L2
open Ex
noncomputable def Mj (P:U8)(w:W5):Ls:=λouter H s E e s'=>∃(a T:Y9) (cls:W8) (H':Hp),e=.ref a/\s'.os=s.os/\AllBare s'.gens/\Un (frs outer) [] H H' s.heap s'.heap/\Et P w H' s'.heap /\
 Tr a T cls .none s'.heap/\s.heap.get? a=none/\s.heap.get? T=none/\H' a=none/\H' T=none/\E cls none H'
theorem Bc.get{P:U8}{w:W5}{H:Hp}{h:Heap}{a:Y9}{o:HO}(x:Bc P w H h a o):∃ob,h.get? a=some ob:=by
 cases o with
 | lst xs=>obtain⟨_,_,_,_,e⟩:=x;exact⟨_,e⟩
 | tup xs=>obtain⟨_,_,_,ob,e,_⟩:=x;exact⟨_,e⟩
 | dK kvs=>obtain⟨_,_,_,_,o,_,_,e,_⟩:=x;exact⟨_,e⟩
 | dT kvs=>obtain⟨_,_,_,_,o,_,_,e,_⟩:=x;exact⟨_,e⟩
 | set S n=>obtain⟨o,_,_,_,e,_⟩:=x;exact⟨_,e⟩
 | ins C dx fs=>obtain⟨_,_,_,e,_⟩:=x;exact⟨_,e⟩
 | own y=>obtain⟨_,e⟩:=x;exact⟨_,e⟩
 | xd fs=>obtain⟨_,⟨_,_,_,e,_⟩,_⟩:=x;exact⟨_,e⟩
 | rng lo hi=>obtain⟨_,_,_,e⟩:=x;exact⟨_,e⟩
 | frz ob u=>obtain⟨e,_⟩:=x;exact⟨_,e⟩
 | tbl ps=>exact⟨_,x⟩
 | met f y=>exact⟨_,x⟩
 | ext φ=>obtain⟨_,⟨_,e⟩,_⟩:=x;exact⟨_,e⟩
structure Ez (X:Cx) (E:XK):Prop where
 xe:∀e s',wpAny (model X.prog X.w) X.A (leaving X.env e) (λ_ s''=>Mj X.prog X.w X.outer X.H₀ X.s₀ E e s'') (λe' s''=>Mj X.prog X.w X.outer X.H₀ X.s₀ E e' s'') s'->X.xe e s'
 stk:X.stack=X.env::X.outer/\X.env.frame=some X.env.locals
 ex:X.ex=[]
section
variable {X:Cx}{pins:U1}{σ:St}{H:Hp}{s:U7}{E:XK}
theorem Inv.new0(I:Inv X pins σ H s)(F:Ez X E){b:Y9}(hb:s.heap.get? b=none):X.s₀.heap.get? b=none:=by
 cases q:X.s₀.heap.get? b with
 | none=>rfl
 | some o =>
  obtain⟨o',a⟩:=I.base.there b o q (by rw[F.ex];intro z;cases z);rw[hb]at a;cases a
theorem Inv.newH(I:Inv X pins σ H s){b:Y9}(hb:s.heap.get? b=none):H b=none:=by
 cases q:H b with
 | none=>rfl
 | some o =>
  obtain⟨c,a⟩:=Bc.get (I.hok b o q);rw[hb]at a;cases a
theorem Inv.left{h1 h':Heap}{e T:Y9}{xs:U3}{cls:W8}(I:Inv X pins σ H s)(F:Ez X E)(k1:∀b o,s.heap.get? b=some o->h1.get? b=some o)(hxs:∀b∈xs,X.s₀.heap.get? b=none/\H b=none)
  (kp:Kp ((X.env::X.outer).filterMap (·.frame)) xs h1 h') (he:X.s₀.heap.get? e=none/\H e=none) (hT:X.s₀.heap.get? T=none/\H T=none) (tr:Tr e T cls .none h') (q:E cls none H):Mj X.prog X.w X.outer X.H₀ X.s₀ E (.ref e) {s with heap:=h'}:=by
 have l:∀b,b∈(X.env::X.outer).filterMap (·.frame)->b=X.env.locals\/b∈X.fs:=λb d=>by
  have:=I.stkSub b (by rw[F.stk.1];exact d);exact Cw.mp this
 have n:∀b o,X.s₀.heap.get? b=some o->b≠X.env.locals:=λb o d z=>by
  have h1:=Bp d;have h2:=I.ok.above;rw[z]at h1;exact Lz _ (FQ h1 h2)
 have f:∀b,b∉X.ex:=λb d=>by rw[F.ex]at d;cases d
 have j:∀b o,X.s₀.heap.get? b=some o->b∉xs:=λb o d g=>by rw[(hxs b g).1]at d;cases d
 refine⟨e,T,cls,H,U,I.os,I.bare,⟨λb o d i hf _=>?_,λb o d i hf _=>?_,λb o d i _=>I.base.free b o d i (f b),λb o d _=>?_,I.base.tups,I.base.frzs,I.base.tbls⟩,λa o r=>?_,tr,he.1,hT.1,he.2,hT.2,q⟩
 ·have h:=I.base.keep b o d i hf (f b);exact kp.keep b o (k1 b o h) (λg=>(l b g).elim (n b o d) hf) (j b o d)
 ·obtain⟨y,h⟩:=I.base.slot b o d i hf (f b);obtain⟨p,t⟩:=kp.slot b _ (k1 b _ h) (j b o d);exact⟨p,t⟩
 ·obtain⟨o',h⟩:=I.base.there b o d (f b);exact kp.there b o' (k1 b o' h)
 ·refine(I.hok a o r).stay (λc v x q=>?_) (λ_ q=>q) λ_ _ q=>q;have m:∃u,H c=some u:=by
   rcases x with z | z
   ·rw[z];exact⟨_,r⟩
   ·exact⟨_,z⟩
  obtain⟨u,k⟩:=m;refine kp.keep c v (k1 c v q) (λg=>?_) (λg=>by rw[(hxs c g).2]at k;cases k);have:=I.stkFree c (by rw[F.stk.1];exact g);rw[k]at this;cases this
theorem Inv.fly{h1:Heap}{e:Y9}{cls:W8}{args:U5}(I:Inv X pins σ H s)(F:Ez X E)(m:Heap.MadeExcOf s.heap h1 e cls args)(q:E cls none H):X.xe (.ref e) {s with heap:=h1}:=by
 refine F.xe _ _ ?_;obtain⟨t,f,_,_⟩:=m.there;have ne:X.s₀.heap.get? e=none/\H e=none:=⟨I.new0 F m.new,I.newH m.new⟩;refine xU (base:=X.base) (outer:=X.outer) (s:={s with heap:=h1}) (by rw[I.ok.frames,F.stk.1]) ((by rw[<-F.stk.1];exact I.stack:s.heap.FunFrames X.base (X.env::X.outer)).of_keeps λb o d _=>⟨o,m.keeps b o d,U⟩) F.stk.2 f rfl rfl rfl λh' T h g kp=>?_;have a:s.heap.get? T=none:=by
  cases q:s.heap.get? T with
  | none=>rfl
  | some o =>
   have c:h1.get? T=none:=h;rw[m.keeps T o q]at c;cases c
 exact Inv.left (s:=s) (h1:=h1) (h':=h') I F m.keeps (λb d=>by rw[GK.mp d];exact ne) kp ne ⟨I.new0 F a,I.newH a⟩ g q
theorem Inv.flyOn{E':XK}{e:W8}{s':U7}(I:Inv X pins σ H s)(F:Ez X E)(c:Mj X.prog X.w X.stack H s E' e s')(hE:∀cls H',E' cls none H'->E cls none H'):X.xe e s':=by
 obtain⟨a,T,cls,H1,rfl,os,g,un,j,m,k,n,l,p,q⟩:=c;have h:Inv X pins σ H1 s':=I.call' (ch:=[]) os un j g (λb d=>by cases d);refine F.xe _ _ ?_;refine Y2i (base:=X.base) (outer:=X.outer) (by rw[I.ok.frames,F.stk.1]) (by rw[<-F.stk.1];exact h.stack) F.stk.2 m λh' r f i kp=>?_;refine Inv.left (s:=s') (h1:=s'.heap) (h':=h') h F (λb o d=>d) (λb d=>?_) kp ⟨I.new0 F k,l⟩ ⟨h.new0 F f,h.newH f⟩ i (hE _ _ q);simp only[Cw,Gm,Gk]at d;rcases d with rfl | rfl
 ·exact⟨I.new0 F k,l⟩
 ·exact⟨I.new0 F n,p⟩
theorem Ez.passes{E':XK}(F:Ez X E)(hE:∀cls H',E' cls none H'->E cls none H'):Passes (Mj X.prog X.w) X E':=λpins σ H s e s' I c=>I.flyOn F c hE
theorem Fl{P:U8}{w:W5}{K:U0}{mg:U4}{base:Heap}{N:W4}{qual:Str}{scope:Scope}{f:Y9}{cd:W8}{A:Y6}{outer:List Env} :
  Ez (GX (Mj P w) P w K mg base N qual scope f cd A outer s H E) E:=⟨λ_ _ h=>h,⟨U,U⟩,U⟩
end
noncomputable abbrev Vk:List Value:=[.type "ValueError",.type "Exception",.type "BaseException",.type "object"]
structure ExcAt (K:U0) (C:Y9) (bm:U5):Prop where
 ex:∃N nm q bs hdct sn sub ab col dd k0 k1 k2 k3 k5,K.lookup C=some (excClassObj nm q C N bs bm hdct sn sub ab col dd k0 k1 k2 k3 k5 "ValueError.__new__")/\PySem.W.nsOkIn K N=true/\PySem.W.nsIn K N "__init__"=some none
 tail:PySem.W.tailIn K Vk bm=true
theorem excAt{K:U0}{C N:Y9}{nm q:Str}{bs bm:U5}{hdct:Bool}{sn:W4}{sub:U5}{ab:Bool}{col:Option Bool}{dd:Y5}{k0 k1 k2 k3 k5:Option Value}
  (l:K.lookup C=some (excClassObj nm q C N bs bm hdct sn sub ab col dd k0 k1 k2 k3 k5 "ValueError.__new__")) (o:PySem.W.nsOkIn K N=true) (n:PySem.W.nsIn K N "__init__"=some none) (t:PySem.W.tailIn K Vk bm=true):ExcAt K C bm :=
 ⟨⟨N,nm,q,bs,hdct,sn,sub,ab,col,dd,k0,k1,k2,k3,k5,l,o,n⟩,t⟩
section
variable {X:Cx}{E:XK}{x:Str}{C:Y9}{e:Expr}{es:List Expr}{t:TA}{np cpos pos:Pos}{bm:U5}
def O8 (E:XK)(C:Y9)(t:TA):TS:=λ_ σ H=>t σ H λvs H1=>vs.length<=sizeLine/\E (.ref C) none H1
theorem tK(F:Ez X E)(hc:X.calm=true)(hg:Gl X x)(hm:X.mg x=some (.ref C))(hx:ExcAt X.K C bm)(ha:PA X (e::es) t)(hdb:(x == ("__debug__":Str))=false:=by decide)
  (he:starEach (e::es) X.env=(false,eval e X.env)::starEach es X.env:=by rfl) (hpl:(backTo cpos (starEach es X.env)).any (·.1)=false:=by rfl):
  PS X (.Raise (some (.Call (.Name x np) (e::es) [] cpos)) none pos) (O8 E C t):=by
 intro pins s σ H D I h;obtain⟨N,nm,q,bs,hdct,sn,sub,ab,col,dd,k0,k1,k2,k3,k5,l,ok,j⟩:=hx.ex;have c:=I.ok.mod.kin;have i:=c _ _ l;have n:X.base.Ns N _:=.of_isNs (PySem.W.isNs_of_in c ok);have d:=PySem.W.nsMap_none_of_in c ok j;have T:=Zi c hx.tail;refine wpAny_Raise_call_subT (C:=C) (nm:=nm) (q:=q) (N:=N) (bs:=bs) (bm:=bm) (hdct:=hdct) (sn:=sn) (sub:=sub) (ab:=ab) (col:=col) (dd:=dd) (k0:=k0) (k1:=k1) (k2:=k2) (k3:=k3) (k5:=k5)
  Wz (T.hasType Wz.hasBase) (I.ok.hd hc) (by rw[he];show (false || (backTo cpos (starEach es X.env)).any (·.1))=false;rw[hpl];rfl) d (QT I hg hm ⟨U,?_⟩ hdb)
 have h2:=ha cpos pins s σ H _ I h;rw[he]at h2 ⊢;refine Calls.evalArgs_plain (Ek h2 (λus o ⟨vs,H1,b,k,g,f⟩=>⟨U,by rw[<-k.length];exact g,b.bk _ _ i,n.keeps b.bk,T.keeps b.bk,λh' a m=>b.fly F m f⟩) λ_ _ y=>y)
end
end L2
namespace PySem
section
variable {M:Model}{A:Y6}{E:U2}
theorem pF{h:Heap}{g:Array GenState}{d:Drawn}{t:Nat}{os:OsState}{e C D:Y9}{oe:Obj}{Q:Bool->Shared->Prop}
  {nm q:Str}{N:Y9}{bs bm:U5}{hdct:Bool}{sn:W4}{sub:U5}{ab:Bool}{col:Option Bool}{dd:Y5}{k0 k1 k2 k3 k5:Option Value}{newId:String}
  {nm' q':Str}{N':Y9}{bs' bm':U5}{hdct':Bool}{sn':W4}{sub':U5}{ab':Bool}{col':Option Bool}{dd':Y5}{k0' k1' k2' k3' k5':Option Value}{newId':String}
  (hC:h.get? C=some (excClassObj nm q C N bs bm hdct sn sub ab col dd k0 k1 k2 k3 k5 newId)) (hD:h.get? D=some (excClassObj nm' q' D N' bs' bm' hdct' sn' sub' ab' col' dd' k0' k1' k2' k3' k5' newId'))
  (he:h.get? e=some oe) (hcls:oe.cls=.ref C) (hbase:bm'.contains (.type "BaseException")=true) (hsub:(Value.ref C::bm).contains (.ref D)=true)
  (hq:Q true ⟨h,g,d,t,os⟩):wpAny M A (excMatches (.ref e) (.ref D)) Q E ⟨h,g,d,t,os⟩:=by
 have a:(Value.ref D::bm').contains (.type "BaseException")=true:=by rw[List.contains_cons,hbase,Bool.or_true]
 have f:=tc_notTuple;unfold excMatches;repeat (first | (with_reducible refine wpAny_loadPart_at he ?_;rw[hcls]) | with_reducible refine wpAny_loadPart_at hD ?_ | (with_reducible refine wpAny_isSubtype_exc hD ?_;rw[a]) | (with_reducible refine wpAny_isSubtype_exc hC ?_;rw[hsub]) | wp_step)
 exact hq
end
end PySem
namespace L2
open Ex
noncomputable def Ft (a:Y9)(cls:W8):HO:=.ext λh=>∃o vs,h.get? a=some o/\(o.cls=cls/\o.dict=none)/\o.data=.fields vs
noncomputable def Xt (X:Cx)(pins:U1)(σ0:St)(E:XK):Cx:={X with pn:=X.pn++pins,xe:=λe s'=>∃H1 s1,Inv X pins σ0 H1 s1/\Mj X.prog X.w X.stack H1 s1 E e s'}
variable{X:Cx}{pins:U1}{σ0 σ:St}{E:XK}{H:Hp}{s:U7}
theorem Inv.ofXt{p2:U1}(I:Inv (Xt X pins σ0 E) p2 σ H s):Inv X pins σ H s :=
 ⟨⟨I.ok.mod,I.ok.kind,I.ok.glob,I.ok.blt,I.ok.above,I.ok.inj,I.ok.has,I.ok.cab,I.ok.hd,I.ok.frames,I.ok.stk,I.ok.exf,I.ok.bs,I.ok.bsz,I.ok.noex,I.ok.exfs,I.ok.funs,I.ok.frf⟩,
  I.os,I.bare,I.base,I.loc,I.cell,I.free,I.freeC,λp hp=>I.pin p (Q_ _ hp),I.hok,I.len⟩
theorem Inv.toXt(I:Inv X pins σ H s):Inv (Xt X pins σ0 E) [] σ H s :=
 ⟨⟨I.ok.mod,I.ok.kind,I.ok.glob,I.ok.blt,I.ok.above,I.ok.inj,I.ok.has,I.ok.cab,I.ok.hd,I.ok.frames,I.ok.stk,I.ok.exf,I.ok.bs,I.ok.bsz,I.ok.noex,I.ok.exfs,I.ok.funs,I.ok.frf⟩,
  I.os,I.bare,I.base,I.loc,I.cell,I.free,I.freeC,λp hp=>I.pin p (by rw[Qx]at hp;exact hp),I.hok,I.len⟩
noncomputable def Xh (X:Cx)(a:Y9):Cx:={X with A:=X.A.mark (some (.ref a)),calm:=false,xe:=λ_ _=>False}
variable{a:Y9}
theorem Inv.toXh(I:Inv X pins σ H s):Inv (Xh X a) pins σ H s :=
 ⟨⟨I.ok.mod,I.ok.kind,I.ok.glob,I.ok.blt,I.ok.above,I.ok.inj,I.ok.has,I.ok.cab,(λz=>by cases z),I.ok.frames,I.ok.stk,I.ok.exf,I.ok.bs,I.ok.bsz,I.ok.noex,I.ok.exfs,I.ok.funs,I.ok.frf⟩,
  I.os,I.bare,I.base,I.loc,I.cell,I.free,I.freeC,I.pin,I.hok,I.len⟩
theorem Inv.ofXh(ok:X.Ok)(I:Inv (Xh X a) pins σ H s):Inv X pins σ H s :=
 ⟨ok,I.os,I.bare,I.base,I.loc,I.cell,I.free,I.freeC,I.pin,I.hok,I.len⟩
theorem Inv.landed{H1 H':Hp}{s1 s':U7}{T T':Y9}{cls:W8}{h':Heap}(I:Inv X pins σ H1 s1)(os:s'.os=s1.os)(bare:AllBare s'.gens)(un:Un (frs X.stack) [] H1 H' s1.heap s'.heap)(hok:Et X.prog X.w H' s'.heap)
  (kp:Kp (frs X.stack) [a,T] s'.heap h') (na:s1.heap.get? a=none) (nT:s1.heap.get? T=none) (ha:H' a=none) (hT:H' T=none) (tr:Tr a T' cls .none h'):Inv X pins σ (upd H' a (Ft a cls)) { s' with heap:=h'}:=by
 obtain⟨oe,vs,G,ts,t,A,C,h1,E,F,y,H,J⟩:=tr;have nx:∀b o,s1.heap.get? b=some o->b∉[a,T]:=λb o e h=>by
  simp only[Cw,Gm,Gk]at h;rcases h with rfl | rfl
  ·rw[na]at e;cases e
  ·rw[nT]at e;cases e
 have f:∀b u,H' b=some u->b≠a:=λb u e z=>by rw[z,ha]at e;cases e
 have p:∀b,b∈frs X.stack->H' b=none:=λb e=>by
  obtain⟨_,o,D,_⟩:=I.stack.mem e;exact un.free b o D (I.stkFree b e) (by intro z;cases z)
 refine I.call' (ch:=[]) (s':={ s' with heap:=h'}) os ⟨λb o e l hf ox=>?_,λb o e l hf ox=>?_,λb o e l ox=>?_,λb o e ox=>?_,λb xs e=>?_,λb o u e=>?_,λb ps e=>?_⟩ (λc o g=>?_) bare (λb e=>by cases e)
 ·exact kp.keep b o (un.keep b o e l hf ox) hf (nx b o e)
 ·obtain⟨K,q⟩:=un.slot b o e l hf ox;obtain⟨s,n⟩:=kp.slot b _ q (nx b o e);exact⟨s,n⟩
 ·rw[Bw (λz=>nx b o e (by simp[z]))];exact un.free b o e l ox
 ·obtain⟨o',q⟩:=un.there b o e ox;exact kp.there b o' q
 ·have:=un.tups b xs e;rw[Bw (f b _ this)];exact this
 ·have:=un.frzs b o u e;rw[Bw (f b _ this)];exact this
 ·obtain⟨j,this⟩:=un.tbls b ps e;exact⟨j,by rw[Bw (f b _ this)];exact this⟩
 ·by_cases hca:c=a
  ·subst hca;rw[Al]at g;cases g;exact⟨⟨oe,vs,t,A,C⟩,⟨oe,t⟩,λh1 h2 ⟨o,vs,x,n,B⟩ k=>⟨o,vs,k o x,n,B⟩⟩
  ·rw[Bw hca]at g;refine(hok c o g).stay (λd v r q=>?_) (λb q=>by rw[Bw (f b _ q)];exact q) λb xs q=>by rw[Bw (f b _ q)];exact q
   have m:∃u,H' d=some u:=by
    rcases r with z | z
    ·rw[z];exact⟨_,g⟩
    ·exact⟨_,z⟩
   obtain⟨u,i⟩:=m;refine kp.keep d v q (λh=>?_) (λh=>?_)
   ·rw[p d h]at i;cases i
   ·simp only[Cw,Gm,Gk]at h;rcases h with rfl | rfl
    ·rw[ha]at i;cases i
    ·rw[hT]at i;cases i
theorem Inv.blank{h':Heap}{m':U4}{tk:Nat}(I:Inv X pins σ H s)(hn:h'.Ns X.env.locals m')(hs:Heap.SameBut X.env.locals s.heap h'):Inv X pins (List.replicate X.N.length none) H {s with heap:=h',toks:=tk}:=by
 have a:∀b o,X.s₀.heap.get? b=some o->b≠X.env.locals:=λb o e=>Dc (FQ (Bp e) I.ok.above);refine⟨I.ok,I.os,I.bare,⟨λb o e n g nx=>?_,λb o e n g nx=>?_,I.base.free,λb o e nx=>?_,I.base.tups,I.base.frzs,I.base.tbls⟩,⟨m',hn,λi x v k1 f y=>?_⟩,λx c e=>?_,I.free,I.freeC,λp hp=>?_,λb t e=>?_,by simp⟩
 ·exact(hs.2 b (a b o e)).trans (I.base.keep b o e n g nx)
 ·obtain⟨w,k1⟩:=I.base.slot b o e n g nx;exact⟨w,(hs.2 b (a b o e)).trans k1⟩
 ·obtain⟨o',k1⟩:=I.base.there b o e nx;exact⟨o',(hs.2 b (a b o e)).trans k1⟩
 ·rw[Zz]at f;split at f<;>cases f
 ·obtain⟨v,o,r,m⟩:=I.cell x c e;exact⟨v,o,(hs.2 c (I.cne x c e)).trans r,m⟩
 ·obtain⟨j,k,h,u,l⟩:=I.pin p hp;exact⟨(hs.2 _ h).trans j,k,h,u,l⟩
 ·refine(I.hok b t e).stay (λc z d q=>(hs.2 c ?_).trans q) (λ_ q=>q) λ_ _ q=>q;rintro rfl;rcases d with rfl | d
  ·rw[I.free]at e;cases e
  ·rw[I.free]at d;cases d
section
variable {X:Cx}{E:XK}
def Yo (E:XK)(tb:St->TS)(th:TS)(i:Nat):TS:=λD σ H=>tb σ D σ H/\∀a cls H',E cls none H'->H' a=none->th { nx:=λ_ _=>False,rt:=D.rt} (σ.set i (some (.ref a))) (upd H' a (Ft a cls))
theorem X5c{st b₀:Stmt}{suite:Y8}{cx n:Str}{C D:Y9}{i:Nat}{np hpos pos:Pos}{tb:St->TS}{th:TS}{bm bm':U5}(hst:X.stack=X.env::X.outer/\X.env.frame=some X.env.locals)(hN:X.N.Nodup)(hi:X.N[i]?=some n)(hloc:X.env.scope.names.lookup n=some .local)
  (hg:Gl X cx) (hm:X.mg cx=some (.ref D)) (hC:ExcAt X.K C bm) (hD:ExcAt X.K D bm') (hsub:(Value.ref C::bm).contains (.ref D)=true) (hE:∀cls H',E cls none H'->cls=.ref C)
  (c:∀pins σ,Fd (Xt X pins σ E) [st] (tb σ)) (hh:∀a,Fd (Xh X a) (b₀::suite) th) (hdb:(cx == ("__debug__":Str))=false:=by decide):
  PS X (.Try [st] [.ExceptHandler (some (.Name cx np)) (some n) (b₀::suite) hpos] [] [] pos) (Yo E tb th i):=by
 intro pins s σ H D' I h;obtain⟨h1,h2⟩:=h;refine wpAny_Try_except (Ek (c pins σ [] s σ H D' I.toXt h1) (λf s1 q=>?_) (λe s1 q=>?_))
 ·cases f with
  | next=>obtain⟨k,H',l,q⟩:=q;exact Qz ⟨k,H',l.ofXt,q⟩
  | brk=>obtain⟨k,H',l,q⟩:=q;exact⟨k,H',l.ofXt,q⟩
  | cont=>obtain⟨k,H',l,q⟩:=q;exact⟨k,H',l.ofXt,q⟩
  | ret u=>obtain⟨v,k,H',l,r,q⟩:=q;exact⟨v,k,H',l.ofXt,r,q⟩
 obtain⟨H1,s0,J,a,T,cls,H',rfl,os,d,un,g,U,P,R,G,Q,q⟩:=q;obtain rfl:=hE cls H' q;have Y:Inv X pins σ H' s1:=J.call' (ch:=[]) os un g d (λb c=>by cases c);have t:X.env.kindOf n=some .local:=hloc;refine jT (base:=X.base) (outer:=X.outer) (by rw[I.ok.frames,hst.1]) (by rw[<-hst.1];exact Y.stack) hst.2 U λh' T' F p kp=>?_;have j:Kp (frs X.stack) [a,T] s1.heap h':=by rw[hst.1];exact kp
 have y:Inv X pins σ (upd H' a (Ft a (.ref C))) {s1 with heap:=h'}:=J.landed os d un g j P R G Q p;obtain⟨_,_,_,_,_,_,_,_,_,_,_,_,_,_,_,lC,_,_⟩:=hC.ex;obtain⟨_,_,_,_,_,_,_,_,_,_,_,_,_,_,_,lD,_,_⟩:=hD.ex;have TD:=Zi y.kIn hD.tail;obtain⟨oe,vs,oT,ts,he,⟨V,_⟩,_⟩:=id p;refine wpAny_handleBy_cons (nR (QT (X:=Xh X a) (y.toXh (a:=a)) hg hm ?_ hdb)) (by intro q;cases q);refine pF (y.kIn _ _ lC) (y.kIn _ _ lD) he V (TD.hasType Wz.hasBase) hsub ?_;refine codeAny_handlers_suite_as ?_;refine flight (s:={s1 with heap:=h'}) p λh3 A same=>?_;have L:Kp (frs X.stack) [a,T] s1.heap h3:=by
  have ne:∀b o,s1.heap.get? b=some o->b≠T':=λb o c z=>by rw[z,F]at c;cases c
  exact⟨λb o c hf B=>(same b (ne b o c)).trans (j.keep b o c hf B),λb o c B=>let ⟨slo,e⟩:=j.slot b o c B;⟨slo,(same b (ne b o c)).trans e⟩,λb o c=>let ⟨o',e⟩:=j.there b o c;⟨o',(same b (ne b o c)).trans e⟩⟩
 have I3:Inv X pins σ (upd H' a (Ft a (.ref C))) {s1 with heap:=h3}:=J.landed os d un g L P R G Q A;refine V0 (X:=Xh X a) (v:=.ref a) (I3.toXh (a:=a)) hN hi (.inl hloc) rfl (λW Z=>?_) (.inr hloc);refine Ek (hh a pins W _ _ _ Z (h2 a _ H' q G)) (λf s5 w=>?_) (λx s5 z=>z.elim);cases f with
 | next=>obtain⟨_,_,_,z⟩:=w;exact z.elim
 | brk=>obtain⟨_,_,_,z⟩:=w;exact z.elim
 | cont=>obtain⟨_,_,_,z⟩:=w;exact z.elim
 | ret u =>
  obtain⟨v,k,H5,S,r,q6⟩:=w;obtain⟨m,hn,_⟩:=id S.loc;refine wpAny_nameGoes t hn (by rw[I.ok.kind];rfl) λh6 m6 O M=>?_;exact⟨v,_,H5,(S.ofXh I.ok).blank O M,r,q6⟩
end
end L2
namespace L2
open Ex
section
variable {X:Cx}{E:XK}
def Np (E:XK)(tb:St->TS)(th:TS):TS:=λD σ H=>tb σ D σ H/\∀a cls H',E cls none H'->H' a=none->th { nx:=D.nx,rt:=D.rt} σ (upd H' a (Ft a cls))
theorem X1n{st b₀:Stmt}{suite:Y8}{cx:Str}{C D:Y9}{np hpos pos:Pos}{tb:St->TS}{th:TS}{bm bm':U5}(hst:X.stack=X.env::X.outer/\X.env.frame=some X.env.locals)
  (hg:Gl X cx) (hm:X.mg cx=some (.ref D)) (hC:ExcAt X.K C bm) (hD:ExcAt X.K D bm') (hsub:(Value.ref C::bm).contains (.ref D)=true) (hE:∀cls H',E cls none H'->cls=.ref C)
  (c:∀pins σ,Fd (Xt X pins σ E) [st] (tb σ)) (hh:∀a,Fd (Xh X a) (b₀::suite) th) (hdb:(cx == ("__debug__":Str))=false:=by decide):
  PS X (.Try [st] [.ExceptHandler (some (.Name cx np)) none (b₀::suite) hpos] [] [] pos) (Np E tb th):=by
 intro pins s σ H S I h;obtain⟨h1,h2⟩:=h;refine wpAny_Try_except (Ek (c pins σ [] s σ H S I.toXt h1) (λf s1 q=>?_) (λe s1 q=>?_))
 ·cases f with
  | next=>obtain⟨d,H',l,q⟩:=q;exact Qz ⟨d,H',l.ofXt,q⟩
  | brk=>obtain⟨d,H',l,q⟩:=q;exact⟨d,H',l.ofXt,q⟩
  | cont=>obtain⟨d,H',l,q⟩:=q;exact⟨d,H',l.ofXt,q⟩
  | ret u=>obtain⟨v,d,H',l,r,q⟩:=q;exact⟨v,d,H',l.ofXt,r,q⟩
 obtain⟨H1,Z,G,a,T,cls,H',rfl,os,g,un,i,O,L,M,B,N,q⟩:=q;obtain rfl:=hE cls H' q;have V:Inv X pins σ H' s1:=G.call' (ch:=[]) os un i g (λb c=>by cases c);refine jT (base:=X.base) (outer:=X.outer) (by rw[I.ok.frames,hst.1]) (by rw[<-hst.1];exact V.stack) hst.2 O λh' T' y k kp=>?_;have j:Kp (frs X.stack) [a,T] s1.heap h':=by rw[hst.1];exact kp
 have t:Inv X pins σ (upd H' a (Ft a (.ref C))) {s1 with heap:=h'}:=G.landed os g un i j L M B N k;obtain⟨_,_,_,_,_,_,_,_,_,_,_,_,_,_,_,R,_,_⟩:=hC.ex;obtain⟨_,_,_,_,_,_,_,_,_,_,_,_,_,_,_,Y,_,_⟩:=hD.ex;have Q:=Zi t.kIn hD.tail;obtain⟨oe,vs,oT,ts,W,⟨P,_⟩,_⟩:=id k;refine wpAny_handleBy_cons (nR (QT (X:=Xh X a) (t.toXh (a:=a)) hg hm ?_ hdb)) (by intro q;cases q);refine pF (t.kIn _ _ R) (t.kIn _ _ Y) W P (Q.hasType Wz.hasBase) hsub ?_;refine codeAny_handlers_suite ?_;refine flight (s:={s1 with heap:=h'}) k λh3 A same=>?_;have w:Kp (frs X.stack) [a,T] s1.heap h3:=by
  have ne:∀b o,s1.heap.get? b=some o->b≠T':=λb o c z=>by rw[z,y]at c;cases c
  exact⟨λb o c hf J=>(same b (ne b o c)).trans (j.keep b o c hf J),λb o c J=>let ⟨slo,e⟩:=j.slot b o c J;⟨slo,(same b (ne b o c)).trans e⟩,λb o c=>let ⟨o',e⟩:=j.there b o c;⟨o',(same b (ne b o c)).trans e⟩⟩
 have I3:Inv X pins σ (upd H' a (Ft a (.ref C))) {s1 with heap:=h3}:=G.landed os g un i w L M B N A;refine Ek (hh a pins _ σ _ _ (I3.toXh (a:=a)) (h2 a _ H' q B)) (λf U p=>?_) (λx U z=>z.elim);cases f with
 | next=>obtain⟨d,m,n,F⟩:=p;exact⟨d,m,n.ofXh I.ok,F⟩
 | brk=>obtain⟨d,m,n,z⟩:=p;exact z.elim
 | cont=>obtain⟨d,m,n,z⟩:=p;exact z.elim
 | ret u =>
  obtain⟨v,d,m,n,r,F⟩:=p;exact⟨v,d,m,n.ofXh I.ok,r,F⟩
end
end L2
namespace L2
def R5 (C:Y9)(tb:XK->St->TS)(th:TS):TS:=λD σ H=>∃E:XK,(∀cls H',E cls none H'->cls=.ref C)/\Np E (tb E) th D σ H
theorem X1m{X:Cx}{st b₀:Stmt}{suite:Y8}{cx:Str}{C D:Y9}{np hpos pos:Pos}{tb:XK->St->TS}{th:TS}{bm bm':U5}(hst:X.stack=X.env::X.outer/\X.env.frame=some X.env.locals)
  (hg:Gl X cx) (hm:X.mg cx=some (.ref D)) (hC:ExcAt X.K C bm) (hD:ExcAt X.K D bm') (hsub:(Value.ref C::bm).contains (.ref D)=true)
  (hb:∀E pins σ,Fd (Xt X pins σ E) [st] (tb E σ)) (hh:∀a,Fd (Xh X a) (b₀::suite) th) (hdb:(cx == ("__debug__":Str))=false:=by decide):
  PS X (.Try [st] [.ExceptHandler (some (.Name cx np)) none (b₀::suite) hpos] [] [] pos) (R5 C tb th):=by
 intro pins s σ H c I h;obtain⟨E,b,h⟩:=h;exact X1n (E:=E) hst hg hm hC hD hsub b (hb E) hh hdb pins s σ H c I h
end L2
namespace PySem.W
open PySem.Calls
structure JQ (K:Frag) (D:Y9):Prop where
 ga:findIn K (.ref D) "__getattribute__"=some (some (.builtin "BaseException.__getattribute__"))
 gt:findIn K (.ref D) "__getattr__"=some none
 ff:findObj K D none "__class__"=some (.bind (.builtin "getset_descriptor.__get__") (.builtin "object.__class__"))
 ob:mroIn K D (.type "object")=some true
 be:kitCls K (.ref D) (.type "BaseException")=some true
 me:kitCls K (.ref D) (.ref D)=some true
 dc:hasDictIn K D=true
section
variable {prog:U8}{w:W5}{A:Y6}{E:U2}{K:Frag}{x D:Y9}{ox:Obj}
theorem yN{tk:Tok}{s:U7}{Q:Fin->Shared->Prop}(g:JQ K D)(X:K.In s.heap)(I:InstAt s.heap x ox D none)(q:Q (.done (.ret (.ref D))) s):
  wpAny (model prog w) A (Builtin.«object.__getattribute__» ⟨[.ref x,.str "__class__" tk],[]⟩) Q E s:=by
 have a:=I.type (M:=model prog w);have b:=looks_find (M:=model prog w) X I g.ff;unfold Builtin.«object.__getattribute__»;refine Az (CP (Az (CP (Az (a.at (Az (b.at ?_)))))));show wpAny _ _ (Builtin.ObjectAttr.bindTo _ _ _ _) _ _ _;unfold Builtin.ObjectAttr.bindTo;show wpAny _ _ (holding [Value.builtin "object.__class__"] (call (Value.builtin "getset_descriptor.__get__") [Value.builtin "object.__class__",Value.ref x,Value.ref D]) >>= ret) _ _ _;exact Az (K5 (XM (class_get (ox:=ox) (od:=none) X I g.ob (CP q))))
theorem _M{s:U7}{Q:Option Value->Shared->Prop}(g:JQ K D)(X:K.In s.heap)(I:InstAt s.heap x ox D none)(q:Q (some (.ref D)) {s with toks:=s.toks+1}):wpAny (model prog w) A (getAttr? (.ref x) "__class__") Q E s:=by
 have c:=I.type (M:=model prog w);have e:=looks_findIn (M:=model prog w) X g.ga;have L2:=looks_findIn (M:=model prog w) X g.gt;have i:=(kit_cls (M:=model prog w) X g.be).2.2;have f:=mQ.ga.bind (.ref x);unfold getAttr? getAttrBy? getAttrBy;refine Az (wpAny_mkText (Az (Tc (K5 (Az (c.at (Az (e.at ?_))))))));show wpAny _ _ (getAttrByItsOwn _ _ _ _ _ _) _ _ _;unfold getAttrByItsOwn;refine Az (L2.at (Az (Tc (K5 ?_))));show wpAny _ _ (boundAndCalled _ _ _) _ _ _;unfold boundAndCalled;rw[f];refine Az (CP (XM (codeAny_call_builtin mQ.ga.plain F.entry_bexc_ga ?_)));have h:builtinKind "BaseException.__getattribute__"=some .slot:=by decide +kernel
 have b:splitId "BaseException.__getattribute__"=some ("BaseException","__getattribute__"):=by decide +kernel
 have d:=F.args_bexc_ga (.ref x) (.str "__class__" s.toks);simp only[checkBuiltinCall,h,b];refine Az (Az (c.at (i.at ?_)));refine wpAny_of_eq (a:=()) d ?_;exact yN (s:={s with toks:=s.toks+1}) g X I (handed_on rfl (CP q))
theorem Jq(g:JQ K D):KitX K (.ref x) (.ref D) (λh=>∃ox,InstAt h x ox D none) where
 ty:=λ_ _ _ p=>p.elim λ_ I=>I.type
 it:=λ_ _ X _=>(kit_cls X g.me).2.1
 ne:=λh tp dd its n c X b=>by
  refine Bool.eq_false_iff.mpr λq=>?_;obtain rfl:D=tp:=Value.ref.inj (beq_iff_eq.mp q);obtain⟨d,a,_⟩:=any_some g.dc;unfold clsIn at a;split at a
  ·rename_i c' d' cd' sl' ho;cases (X _ _ ho).symm.trans b
  ·cases a
 ca:=λX p k=>p.elim λ_ I=>_M g X I k
end
end PySem.W
namespace L2
noncomputable def nW:V->Option Value
 | .ty T=>some (.type T)
 | .ref D=>some (.ref D)
 | _=>none
section
variable {X:Cx}
theorem xY:CW X (.builtin "isinstance") (λxs H Q=>∃a C c cv b,xs=[.ref a,c]/\H a=some (Ft a (.ref C))/\PySem.W.JQ X.K C/\nW c=some cv/\PySem.W.kitOne X.K (.ref C) cv=some b/\Q (.bl b) H):=by
 intro pins s σ H xs us Q I r h;obtain⟨a,C,c,cv,b,rfl,k,l,d,e,q⟩:=h;obtain⟨u,v,rfl,j,m⟩:=r.two;cases j;have n:v=cv:=by
  cases c<;>first | (cases d;cases m;rfl) | cases d
 subst n;obtain⟨⟨o,vs,f,⟨g,i⟩,p⟩,_,_⟩:=(show Bc X.prog X.w H s.heap a (Ft a (.ref C)) from I.hok a _ k);refine Jj (PySem.W.Jq l) I.kIn ⟨o,f,g,?_,?_⟩ e (λz=>nomatch z) λtk=>⟨.bl b,H,I.tok tk,U,q⟩
 ·unfold PySem.W.notCls;rw[p]
 ·rw[i];trivial
end
end L2
namespace L2
open Ex
section
variable {X:Cx}
theorem Li{x:Str}{C:Y9}{pos:Pos}(hg:Gl X x)(hm:X.mg x=some (.ref C))(hd:(x == ("__debug__":Str))=false:=by decide):PE X (.Name x pos) (tC (.ref C)):=
 λ_ _ _ H _ I h=>QT I hg hm ⟨.ref C,H,I,U,h⟩ hd
end
structure Gx (P:U8) (w:W5) (K:U0) (mg:U4) (base:Heap) (k:Nat) (x:Str) (ps:W4) (sp:Sp):Prop where
 ex:∃f fd,Dh P w K mg base (Mj P w) k f fd ps sp/\Binds K fd ps []/\PySem.W.keepIn K (.ref f)=true/\mg x=some (.ref f)
section
variable {X:Cx}{k:Nat}{x:Str}{ps:W4}{sp:Sp}{p pos:Pos}{e:Expr}{es:List Expr}{t:TA}{E:XK}
theorem X1s(c:Gx X.prog X.w X.K X.mg X.base k x ps sp)(hx:Passes (Mj X.prog X.w) X E)(hr:CK k X.A)(hg:Gl X x)(ha:PA X (e::es) t)(hdb:(x == ("__debug__":Str))=false:=by decide)
  (he:starEach (e::es) X.env=(false,eval e X.env)::starEach es X.env:=by rfl) (hpl:(backTo pos (starEach es X.env)).any (·.1)=false:=by rfl):PE X (.Call (.Name x p) (e::es) [] pos) (Ke sp [] E t):=by
 obtain⟨f,fd,F,b,kp,m⟩:=c.ex;exact rB F hr hg m kp b .nil hx ha hdb he hpl
def PB (σ0:St)(sp:Sp)(E:XK)(t:TA):TE:=λσ H Q=>t σ H λvs H1=>σ=σ0/\sp vs H1 Q E
theorem rA{pins:U1}{σ0:St}(c:Gx X.prog X.w X.K X.mg X.base k x ps sp)(hr:CK k X.A)(hg:Gl X x)(ha:PA (Xt X pins σ0 E) (e::es) t)(hdb:(x == ("__debug__":Str))=false:=by decide)
  (he:starEach (e::es) X.env=(false,eval e X.env)::starEach es X.env:=by rfl) (hpl:(backTo pos (starEach es X.env)).any (·.1)=false:=by rfl):PE (Xt X pins σ0 E) (.Call (.Name x p) (e::es) [] pos) (PB σ0 sp E t):=by
 obtain⟨f,fd,F,b,kp,m⟩:=c.ex;intro p2 s σ H Q I h;refine Ud (QT I hg m ?_ hdb);refine PySem.W.callWith_K (h₀:=X.base) I.ok.mod.kin kp (Bl (ha pos p2 s σ H _ I h) λus g ⟨vs,H1,a,r,l,q⟩=>⟨a.kIn,?_⟩) he hpl;subst l;have j:us.length=ps.length:=by rw[<-r.length];exact F.len _ _ _ _ q
 have i:=b g us a.kIn (by rw[Qx];exact j);rw[Qx]at i;refine XM (WW (F.run X.A X.stack g H1 ⟨us,[]⟩ us vs Q E hr a.env0 i r q) λr s' d=>?_);cases r with
 | error e=>exact⟨H1,g,a.ofXt,d⟩
 | ok fl =>
  cases fl with
  | ret u=>exact a.after d
  | next=>exact False.elim d
  | brk=>exact False.elim d
  | cont=>exact False.elim d
end
section
variable {P:U8}{w:W5}{K:U0}{mg:U4}{base:Heap}
theorem Ab.calX{x:Str}{st:Stmt}{dV:W8}{ps:W4}{k:Nat}{sp:Sp}(F:Ab K x st dV){h:Heap}(X:K.In h)(G:Ng h mg)(N:W4)
  (hbody:∀{f:Y9}{a:W8}{A:Y6}{outer:List Env}{s:U7},N.Nodup->∀(H:Hp) (vs:List V) (Q:VK) (E:XK),CK k (A.deeper (envOfC x (DX st) s.heap.objs.size f a))->sp vs H Q E ->
   ∃t,Fd (GX (Mj P w) P w K mg base N x (DX st) f a A outer s H E) (Ei st) t/\t { nx:=λ_ H'=>Q .non H',rt:=Q} (start N vs) H)(S:Ck N ps (DX st):=by exact fS) (bi:Lj K x st dV ps:=by first | exact Vi λ_ _ _ _ _ _ _=>rfl | exact Vh λ_ _ _ _ _ _ _ _=>rfl | exact Vg λ_ _ _ _ _ _ _ _ _=>rfl | exact Vf λ_ _ _ _ _ _ _ _ _ _=>rfl | exact Ve λ_ _ _ _ _ _ _ _ _ _ _=>rfl | exact Vj λ_ _ _ _ _ _=>rfl) (len:∀vs H Q E,sp vs H Q E->vs.length=ps.length:=by intro _ _ _ _ h;repeat first | (obtain⟨rfl,_⟩:=h;rfl) | (obtain⟨⟨rfl,_⟩,_⟩:=h;rfl) | (obtain⟨_,h⟩:=h)):Gx P w K mg base (k+1) x ps sp:=by
 obtain⟨f,m,od,kV,c,e,g,a,ct,i,j,d,kp,ns⟩:=F.ex;exact⟨f,_,j8 j d S len λA outer s H vs Q E l b=>hbody S.nd H vs Q E l b,bi kV c e g a ct,kp,G_ X G ns⟩
end
end L2
set_option maxHeartbeats 1000000
namespace L2
theorem yR{X:Cx}{pins:U1}{σ:St}{E:XK}:Ql (Xt X pins σ E) (PN X.K):=Dy
theorem X3g{X:Cx}{pins:U1}{σ:St}{E:XK}:Ql (Xt X pins σ E) (PL X.K):=Ax
end L2
namespace Av
open L2 Am Pc Ba Hw FN Ci Lq
open Lk hiding Hy
open Pt hiding Fp
open Cj (Mk Bf Wy Hd Hb hf Lf Rp nx wT wS Vw ws O1 wy ao)
set_option genInjectivity false in
set_option genSizeOf false in
structure lQ (K:U0) (mg:U4) (C:Y9) (bm:U5):Prop where
 mC:mg "NeverSo"=some (.ref C)
 xC:ExcAt K C bm
 sub:(Value.ref C::bm).contains (.ref C)=true
def Kl (C:Y9):Sp:=λvs H Q E=>∃(l p:Y9) (ps:U3) (f:Nat->A5) (c n m o:Nat) (k:Mk),vs=[.ref l,.ref p,.int o]/\Bd H l ps f c n m/\c<=6/\n<=100000/\m<=10000/\Look H p c k.1 k.2.1 k.2.2/\o<2 /\
 (∀(r:Y9) (H':Hp) (qs:U3),H r=none->Same H H'->Bd H' r qs (hf k o f) c (n+2*m+2) (m+1)->Hd c (hf k o f)->Q (.ref r) H')/\(∀H',Same H H'->¬ Hd c (hf k o f)->E (.ref C) none H')
def Nq (K:U0):Sp:=λvs H Q _=>∃(lb lm po:Y9) (bs qs:U3) (f:Nat->A5) (c n m:Nat) (ks:List Mk) (o:W9),vs=[.ref lb,.ref lm,.ref po]/\Bd H lb bs f c n m/\c<=6/\n<=400/\m<=50/\H lm=some (.lst (qs.map V.ref))/\Mi H c qs ks/\ks.length<=6/\Ah K H po (oV o)/\o.length=ks.length/\(∀e∈o,e<2) /\
 (∀H',Same H H'->wy c ks o f=none->Q .non H')/\(∀(r:Y9) (H':Hp) (rs:U3) (g:Bf),Same H H'->wy c ks o f=some g->Bd H' r rs g c (n+2*(ks.length*(m+ks.length))+2*ks.length) (m+ks.length)->Q (.ref r) H')
variable{c o:Nat}{m:Mk}{ms:List Mk}{os:W9}{g:Bf}
theorem sE(h:Hd c (hf m o g)):wy c (m::ms) (o::os) g=wy c ms os (hf m o g):=by conv=>lhs;unfold wy;rw[if_pos h]
theorem sI(h:¬ Hd c (hf m o g)):wy c (m::ms) (o::os) g=none:=by unfold wy;rw[if_neg h]
theorem X4r{o:W9}:wy c [] o g=some g:=by unfold wy;rfl
section
variable {P:U8}{w:W5}{K:U0}{mg:U4}{base:Heap}{k:Nat}{h:Heap}{C:Y9}{bm:U5}
theorem zM(F:Ab K "settled" (top 46) .none)(X:K.In h)(G:Ng h mg)(x:lQ K mg C bm)(cN:Aj P w K mg base k "check_look" ["mark","cells"] (Ky K))(cJ:Aj P w K mg base k "cells_of" ["board"] (Xv K))(cR:Aj P w K mg base k "half_left" ["board","mark","outcome"] jA)(cP:Aj P w K mg base k "is_nothing" ["amounts"] jW):Gx P w K mg base (k+1) "settled" ["board","mark","outcome"] (Kl C):=by
 refine F.calX X G ["board","mark","outcome","behind"] λD H vs Q S d h=>?_;obtain⟨l,p,ps,f,c,n,m,o,kk,rfl,t,e,O,J,s,o2,I,N⟩:=h
 refine⟨_,(@Ao _ _ _ _ _ (NT (A_ cN d rfl (Aa (pv 1) (Aa (A_ cJ d rfl (Aa (pv 0) Ae)) Ae))))
  (@Ao _ _ _ _ _ (@BR _ _ 3 _ _ _ _ D rfl (Or.inl rfl) (A_ cR d rfl (Aa (pv 0) (Aa (pv 1) (Aa (pv 2) Ae)))) rfl (.inl rfl))
  (@Ao _ _ _ _ _ (Cd (Cr (A_ cP d rfl (Aa (pv 3) Ae)))
   (@Aq _ _ _ (tK Fl rfl rfl x.mC x.xC (Aa jw Ae)))
   Ce)
  (@Aq _ _ _ (BW (pv 3)))))),?_⟩
 try dsimp only[Bv]
 refine⟨_,U,_,U,l,_,c,U,Ai.of t.lst,by rw[BL,t.len],e,_,c,U,s.tell,?_⟩;refine⟨_,U,_,U,_,U,l,p,ps,f,c,n,m,kk.1,kk.2.1,kk.2.2,o,U,t,e,O,J,s.at_,s.fc,o2,λr H1 B g R v y u=>?_⟩;have A:Hd c (hf kk o f)↔∃i,i<2^c/\g i≠nought:=⟨λ⟨i,hi,z⟩=>⟨i,hi,by rw[Lf u hi];exact z⟩,λ⟨i,hi,z⟩=>⟨i,hi,by rw[<-Lf u hi];exact z⟩⟩;refine⟨_,U,r,B,g,c,_,_,U,y,e,λb H2 j a=>⟨_,U,?_⟩⟩;cases b with
 | false =>
  have L:Hd c (hf kk o f):=A.mpr (Classical.byContradiction λz=>by
   have:=a.mpr λi hi=>Classical.byContradiction λq=>z ⟨i,hi,q⟩
   cases this)
  exact Ay ⟨_,U,I r H2 B R (v.trans j) ((y.same j).to λw M=>Lf u M) L⟩
 | true =>
  have E:¬ Hd c (hf kk o f):=λz=>by
   obtain⟨i,hi,ne⟩:=A.mp z;exact ne (a.mp rfl i hi)
  exact Df ⟨by decide,N H2 (v.trans j) E⟩
theorem X5o(F:Ab K "_law_way" (top 72) .none)(X:K.In h)(G:Ng h mg)(B:Bs mg)(x:lQ K mg C bm)(x_settled:Gx P w K mg base k "settled" ["board","mark","outcome"] (Kl C)):Aj P w K mg base (k+1) "_law_way" ["_law_board","_law_marks","_law_outs"] (Nq K):=by
 refine F.cal X G ["_law_board","_law_marks","_law_outs","_law_k"] λnd H vs Q E hr h=>?_;obtain⟨lb,N,Z,bs,t,f,c,n,m,ks,o,rfl,BD,c6,n4,m5,v,LK,k6,O,lo,o2,kN,kS⟩:=h;have lq:t.length=ks.length:=Paired.length LK
 refine⟨_,(@Ao _ _ _ _ _ (Gf PassesOwn.never rfl (Ln rfl B.range (Aa (Bm Fb rfl B.len FP (Aa (pv 1) Ae)) Ae)) (Bq (i:=3) nd rfl (Or.inl rfl))
   (@Aq _ _ _ (X1m ⟨U,U⟩ rfl x.mC x.xC x.xC x.sub (λE pins σ=>@Aq _ _ _ (@BR _ _ 0 _ _ _ _ nd rfl (Or.inl rfl) (rA (σ0:=σ) x_settled hr rfl (Aa (pv 0) (Aa (Ak yR (pv 1) (pv 3) (λ_ _=>rfl)) (Aa (Ak X3g (pv 2) (pv 3) (λ_ _=>rfl)) Ae)))) rfl (.inl rfl))) (λa=>@Aq _ _ _ (BW YW)))))
  (@Aq _ _ _ (BW (pv 0)))),?_⟩
 try dsimp only[Bv]
 refine⟨_,U,N,_,U,.inl (Ai.of v),_,U,by lia,by rw[BL];lia,?_⟩;rw[GJ,BL,lq];refine V3 (lo:=0) (n:=ks.length) (λi σ H'=>Same H H'/\∃(l:Y9) (u:U3) (g:Bf) (M:Option V),Bd H' l u g c (n+2*(i*(m+i))+2*i) (m+i)/\wy c (ks.drop i) (o.drop i) g=wy c ks o f/\σ=[some (.ref l),some (.ref N),some (.ref Z),M]) ⟨Same.refl _,lb,bs,f,none,by rw[gQ,bW];exact BD,U,U⟩ ?_ ?_
 ·rintro i σ H1 hi ⟨q,l,u,g,M,I,b,rfl⟩;have iq:i<t.length:=by lia
  have d:t[i]?=some t[i]:=Cv iq;obtain⟨kk,W,lk⟩:=RX (LK.same q) d;have Y:i<o.length:=by lia
  have s:o[i]?=some o[i]:=Cv Y;generalize hp:t[i]=p at d lk;generalize ho:o[i]=oi at s;have T:=o2 oi (Hq s);have dk:ks.drop i=kk::ks.drop (i+1):=by
   rw[Ww hi];rw[Cv hi]at W;rw[Option.some.inj W]
  have dO:o.drop i=oi::o.drop (i+1):=by rw[Ww Y,ho]
  have nb:n+2*(i*(m+i))+2*i<=100000:=by
   have:=Tj (show i<=6 by lia) (show m+i<=56 by lia);lia
  have J:(t.map V.ref)[i]?=some (.ref p):=by rw[Cp,d];rfl
  have S:(oV o)[i]?=some (.int (oi:Int)):=by unfold oV;rw[Cp,s];rfl
  rw[dk,dO]at b;refine⟨λcls _ H'=>cls=.ref C/\Same H1 H'/\¬ Hd c (hf kk oi g),λ_ _ z=>z.1,⟨_,U,_,U,_,U,N,_,_,.ref p,U,U,Ai.of (q _ _ v),(by rw[J5];exact Ju J),_,U,_,U,Z,_,_,.int (oi:Int),U,U,q.tup O,(by rw[J5];exact Ju S),U,l,p,u,g,c,_,_,oi,kk,U,I,c6,nb,(by lia),lk,T,λr H2 L nr R y hd=>?_,λH2 R A=>⟨U,R,A⟩⟩,?_⟩
  ·rw[sE hd]at b;refine⟨q.trans R,r,L,_,_,⟨y.lst,y.len,y.vals,λj hj=>(y.ok j hj).mono ?_ (by lia)⟩,b,U⟩;have e:(i+1)*(m+(i+1))=i*(m+i)+i+(m+(i+1)):=by rw[gP,<-Nat.add_assoc m i 1,Nat.mul_succ]
   rw[e];lia
  ·rintro ea cls H5 ⟨_,S5,A⟩ D;rw[sI A]at b;exact kN _ (q.trans (S5.trans (Aw D _))) b.symm
 ·rintro σ H1 ⟨q,l,u,g,M,I,b,rfl⟩;rw[List.drop_length,X4r]at b;exact⟨_,U,kS l H1 u g q b.symm I⟩
end
end Av
namespace Av
open L2 Am Pc Ba Hw FN Ci Lq
open Lk hiding Hy
open Pt hiding Fp
def rM (K:U0):Sp:=λvs H Q _=>∃(p:Y9) (x:V) (xs:List V),vs=[.ref p]/\Ah K H p (x::xs)/\Q x H
def rH:Sp:=λvs H Q _=>∃(a b:Y9) (p q n p' q' n':Int),vs=[.ref a,.ref b]/\H a=some (T3 p q n)/\H b=some (T3 p' q' n')/\S3 6000 6000 p q n/\S3 6000 6000 p' q' n'/\Q (.bl (Ea (p*n'-p'*n) (q*n'-q'*n))) H
section
variable {P:U8}{w:W5}{K:U0}{mg:U4}{base:Heap}{k:Nat}{h:Heap}
theorem yg(F:Ab K "_law_first" (top 79) .none)(X:K.In h)(G:Ng h mg):Aj P w K mg base (k+1) "_law_first" ["_law_one"] (rM K):=by
 refine F.cal X G ["_law_one"] λa H vs Q E b h=>?_;obtain⟨p,x,xs,rfl,hp,q⟩:=h;refine⟨_,(@Aq _ _ _ (BW (Ak Ax (pv 0) Ac (λ_ _=>rfl)))),?_⟩;try dsimp only[Bv]
 exact⟨_,U,p,_,_,_,U,U,hp,Ju (j:=0) rfl,q⟩
theorem yZ(F:Ab K "_law_above" (top 71) .none)(X:K.In h)(G:Ng h mg):Aj P w K mg base (k+1) "_law_above" ["_law_one","_law_other"] rH:=by
 refine F.cal X G ["_law_one","_law_other","_law_top","_law_root"] λy H vs Q E L h=>?_;obtain⟨a,b,p,q,n,p',q',n',rfl,I,J,⟨D,A,m⟩,⟨C,B,j⟩,l⟩:=h;have o:Ah K H a ([p,q,n].map V.int):=Ah.of I;have i:Ah K H b ([p',q',n'].map V.int):=Ah.of J
 refine⟨_,(@JM _ _ _ _ _ (@BR _ _ 2 _ _ _ _ y rfl (Or.inl rfl) (Af Fy (Af CT (Ak Ax (pv 0) Ac (λ_ _=>rfl)) (Ak Ax (pv 1) Ac (λ_ _=>rfl))) (Af CT (Ak Ax (pv 1) Ac (λ_ _=>rfl)) (Ak Ax (pv 0) Ac (λ_ _=>rfl)))) rfl (.inl rfl))
  (@JM _ _ _ _ _ (@BR _ _ 3 _ _ _ _ y rfl (Or.inl rfl) (Af Fy (Af CT (Ak Ax (pv 0) Ac (λ_ _=>rfl)) (Ak Ax (pv 1) Ac (λ_ _=>rfl))) (Af CT (Ak Ax (pv 1) Ac (λ_ _=>rfl)) (Ak Ax (pv 0) Ac (λ_ _=>rfl)))) rfl (.inl rfl))
  (@Aq _ _ _ (BW (X7z (Lh (Gu MK (pv 2) Ac (Ad _)) (KH (Gu MK (Af CT (pv 2) (pv 2)) (Af CT (Af Gs Ac (pv 3)) (pv 3)) (Ad _)))) (KH (Lh (Gu MK (pv 3) Ac (Ad _)) (KH (Gu MK (Af CT (Af Gs Ac (pv 3)) (pv 3)) (Af CT (pv 2) (pv 2)) (Ad _)))))))))),?_⟩
 try dsimp only[Bv]
 have x:Sz 12001 (p*n'-p'*n):=((D.mul j).sub (C.mul m)).mono (by decide);have u:Sz 12001 (q*n'-q'*n):=((A.mul j).sub (B.mul m)).mono (by decide);refine⟨λσ H'=>H'=H/\σ=[some (.ref a),some (.ref b),some (.int (p*n'-p'*n)),none],⟨_,U,a,_,_,_,U,U,o,U,_,U,b,_,_,_,U,U,i,U,_,_,U,U,⟨_,_,D,j,by decide⟩,_,U,b,_,_,_,U,U,i,U,_,U,a,_,_,_,U,U,o,U,_,_,U,U,⟨_,_,C,m,by decide⟩,_,_,U,U,U,U⟩,?_⟩;rintro σ H ⟨rfl,rfl⟩;refine⟨λσ H'=>H'=H/\σ=[some (.ref a),some (.ref b),some (.int (p*n'-p'*n)),some (.int (q*n'-q'*n))],⟨_,U,a,_,_,_,U,U,o,U,_,U,b,_,_,_,U,U,i,U,_,_,U,U,⟨_,_,A,j,by decide⟩,_,U,b,_,_,_,U,U,i,U,_,U,a,_,_,_,U,U,o,U,_,_,U,U,⟨_,_,B,m,by decide⟩,_,_,U,U,U,U⟩,?_⟩;rintro σ H ⟨rfl,rfl⟩;have g:Sz 12003 (2*(q*n'-q'*n)):=((show Sz 2 2 by decide).mul u).mono (by decide);generalize p*n'-p'*n=t at x l ⊢;generalize q*n'-q'*n=r at u g l ⊢;have c:∀(_:¬ (0<t/\2*r*r<t*t)),Q (.bl (decide (0<r) && decide (t*t<2*r*r))) H:=λf=>by
  have e:Ea t r=(decide (0<r) && decide (t*t<2*r*r)):=by
   unfold Ea;rw[show (decide (0<t) && decide (2*r*r<t*t))=false by rw[<-Bool.decide_and];exact Dl f,Bool.false_or]
  rw[<-e];exact l
 have first:0<t->2*r*r<t*t->Q (.bl true) H:=λa b=>by
  have e:Ea t r=true:=by unfold Ea;rw[DK a,DK b];rfl
  rw[<-e];exact l
 have s:CG t t:=⟨_,_,x,x,by decide⟩;have v:CG (2*r) r:=⟨_,_,g,u,by decide⟩;refine⟨_,U,_,_,U,U,_,U,Ca (λa=>?_) (λa=>?_)⟩
 ·refine⟨_,U,_,U,_,_,U,U,s,_,U,_,_,U,U,.inl ⟨by decide,by decide⟩,_,U,_,_,U,U,v,_,_,U,U,_,U,Ca (λb=>first a b) (λb=>?_)⟩;have f:=c (λz=>b z.2);refine⟨_,U,_,_,U,U,_,U,Ca (λd=>?_) (λd=>?_)⟩
  ·refine⟨_,U,_,_,U,U,.inl ⟨by decide,by decide⟩,_,U,_,_,U,U,v,_,U,_,U,_,_,U,U,s,_,_,U,U,?_⟩;rw[DK d,TY]at f;exact f
  ·rw[Dl d,Mt]at f;exact f
 ·have f:=c (λz=>a z.1);refine⟨_,U,Ay ⟨_,U,_,_,U,U,_,U,Ca (λd=>?_) (λd=>?_)⟩⟩
  ·refine⟨_,U,_,_,U,U,.inl ⟨by decide,by decide⟩,_,U,_,_,U,U,v,_,U,_,U,_,_,U,U,s,_,_,U,U,?_⟩;rw[DK d,TY]at f;exact f
  ·rw[Dl d,Mt]at f;exact f
def Mh (T S a b:Int)(s:I3):Prop:=0<s.2.2/\HJ s.1 s.2.1 s.2.2/\a*s.2.2=s.1*T+2*s.2.1*S/\b*s.2.2=s.1*S+s.2.1*T
variable{T S a b:Int}{s:I3}
theorem rG(h:Mh T S a b s):s.1*(T*T-2*S*S)=s.2.2*(a*T-2*b*S)/\s.2.1*(T*T-2*S*S)=s.2.2*(b*T-a*S):=by
 obtain⟨_,_,c,d⟩:=h;constructor<;>grind
theorem iu(h:Mh T S a b s):s.2.2.natAbs ∣ (T*T-2*S*S).natAbs:=by
 obtain⟨e,c⟩:=rG h;have co:=h.2.1;unfold HJ at co;generalize T*T-2*S*S=N at e c ⊢;have d1:s.2.2.natAbs ∣ s.1.natAbs*N.natAbs:=by rw[<-Fx,e,Fx];exact Zb _ _
 have d2:s.2.2.natAbs ∣ s.2.1.natAbs*N.natAbs:=by rw[<-Fx,c,Fx];exact Zb _ _
 have d:=Nat.dvd_gcd (Nat.dvd_gcd d1 d2) (Zb s.2.2.natAbs N.natAbs);rw[Nat.gcd_mul_right,Nat.gcd_mul_right,co,Nat.one_mul]at d;exact d
variable{x z y:Int}
theorem le_of_eq{N:Int}(n0:N≠0)(e:x*N=z*y)(d:z.natAbs ∣ N.natAbs):x.natAbs<=y.natAbs:=by
 have a:x.natAbs*N.natAbs=z.natAbs*y.natAbs:=by rw[<-Fx,e,Fx]
 have np:0<N.natAbs:=by lia
 have b:=WX np d;have:x.natAbs*N.natAbs<=y.natAbs*N.natAbs:=by rw[a,Nat.mul_comm];exact Nat.mul_le_mul_left _ b
 exact Nat.le_of_mul_le_mul_right this np
theorem pY(h:Mh T S a b s)(n0:T*T-2*S*S≠0)(zT:Sz 2000 T)(zS:Sz 2000 S)(za:Sz 2100 a)(zb:Sz 2100 b):S3 4200 4200 s.1 s.2.1 s.2.2:=by
 obtain⟨e,f⟩:=rG h;have d:=iu h;have c:Sz 2 2:=by decide
 refine⟨(((za.mul zT).sub ((c.mul zb).mul zS)).mono (by decide)).le (le_of_eq n0 e d),(((zb.mul zT).sub (za.mul zS)).mono (by decide)).le (le_of_eq n0 f d),(((zT.mul zT).sub ((c.mul zS).mul zS)).mono (by decide)).le (WX (by omega) d)⟩
theorem aV{a' z' x' y':Int}(e:a*z=x*T+2*y*S)(e':a'*z'=x'*T+2*y'*S):(a+a')*(z*z')=(x*z'+x'*z)*T+2*(y*z'+y'*z)*S:=by
 have:(a+a')*(z*z')=(a*z)*z'+(a'*z')*z:=by grind
 rw[this,e,e'];grind
theorem aU{a' z' x' y':Int}(e:a*z=x*S+y*T)(e':a'*z'=x'*S+y'*T):(a+a')*(z*z')=(x*z'+x'*z)*S+(y*z'+y'*z)*T:=by
 have:(a+a')*(z*z')=(a*z)*z'+(a'*z')*z:=by grind
 rw[this,e,e'];grind
theorem X1c{T S a b a' b' x y z:Int}{s s':I3}(h:Mh T S a b s)(h':Mh T S a' b' s')(l:Low (s.1*s'.2.2+s'.1*s.2.2) (s.2.1*s'.2.2+s'.2.1*s.2.2) (s.2.2*s'.2.2) x y z):Mh T S (a+a') (b+b') (x,y,z):=by
 obtain⟨_,_,m,k⟩:=h;obtain⟨_,_,e,f⟩:=h';obtain⟨⟨g,g0,h1,h2,i⟩,j,co⟩:=l;refine⟨j,co,?_,?_⟩
 ·show (a+a')*z=x*T+2*y*S;apply can g0;have c:g*((a+a')*z)=(a+a')*(g*z):=by grind
  have d:g*(x*T+2*y*S)=(g*x)*T+2*(g*y)*S:=by grind
  rw[c,d,<-h1,<-h2,<-i];exact aV m e
 ·show (b+b')*z=x*S+y*T;apply can g0;have c:g*((b+b')*z)=(b+b')*(g*z):=by grind
  have d:g*(x*S+y*T)=(g*x)*S+(g*y)*T:=by grind
  rw[c,d,<-h1,<-h2,<-i];exact aU k f
theorem X1b(n0:T*T-2*S*S≠0)(h:Mh T S T S s):s=(1,0,1):=by
 obtain⟨c,co,i,e⟩:=h;obtain⟨x,y,z⟩:=s;obtain⟨f,g⟩:=t_ (a:=x-z) (b:=y) n0 (by grind) (by grind);obtain⟨h1,h2,d⟩:=Low.unique (p:=x) (q:=y) (n:=z) (p':=1) (q':=0) (n':=1) c (by decide) co (by unfold HJ;decide) (by lia) (by lia);rw[h1,h2,d]
noncomputable def sn (A:Nat->Int):Nat->Int
 | 0=>0
 | n+1=>sn A n+A n
theorem uX{A:Nat->Int}{n:Nat}(h:∀i,i<n->Sz 2000 (A i))(l:n<=64):Sz 2100 (sn A n):=by
 have:∀j,j<=n->Sz (2000+j+1) (sn A j):=λj=>by
  induction j with
  | zero=>exact λ_=>(show Sz 1 0 by decide).mono (by lia)
  | succ j ih=>exact λa=>((ih (by lia)).add (h j (by lia))).mono (by lia)
 exact(this n (BX _)).mono (by lia)
def Il:Sp:=λvs H Q _=>∃(l:Y9) (as:U3) (sh:Nat->I3) (A B:Nat->Int),vs=[.ref l]/\H l=some (.lst (as.map V.ref))/\as.length<=64/\(∀i a,as[i]?=some a->H a=some (tI (sh i))) /\
 (∀i,i<as.length->Mh (sn A as.length) (sn B as.length) (A i) (B i) (sh i)/\Sz 2000 (A i)/\Sz 2000 (B i))/\sn A as.length*sn A as.length-2*sn B as.length*sn B as.length≠0/\Sz 2000 (sn A as.length)/\Sz 2000 (sn B as.length)/\∀H',Same H H'->Q (.bl true) H'
theorem X2g(F:Ab K "_law_sums_to_one" (top 75) .none)(X:K.In h)(G:Ng h mg)(c9:Aj P w K mg base k "_law_divisor" ["_law_one","_law_other"] Kv):Aj P w K mg base (k+1) "_law_sums_to_one" ["_law_shares"] Il:=by
 refine F.cal X G ["_law_shares","_law_whole_here","_law_p","_law_q","_law_n","_law_top","_law_root","_law_below","_law_over"] λd H vs Q E hr h=>?_;obtain⟨l,u,sh,A,B,rfl,hl,a1,D,c,M,zT,zS,kq⟩:=h
 refine⟨_,(@Ao _ _ _ _ _ (@BR _ _ 1 _ _ _ _ d rfl (Or.inl rfl) (@Cq _ _ _ _ _ (Aa Ac (Aa Ac (Aa Ac Ae)))) rfl (.inl rfl))
  (@Ao _ _ _ _ _ (Gf PassesOwn.never rfl (Es (pv 0)) (@QK _ _ _ _ _ _ rfl (@FZ _ _ _ _ _ (@Bq _ _ 2 _ d rfl (Or.inl rfl) (by first | exact .inl rfl | exact .inr rfl)) (@FZ _ _ _ _ _ (@Bq _ _ 3 _ d rfl (Or.inl rfl) (by first | exact .inl rfl | exact .inr rfl)) (@FZ _ _ _ _ _ (@Bq _ _ 4 _ d rfl (Or.inl rfl) (by first | exact .inl rfl | exact .inr rfl)) QV rfl) rfl) rfl) rfl rfl)
   (@Ao _ _ _ _ _ (@BR _ _ 5 _ _ _ _ d rfl (Or.inl rfl) (Af C_ (Af CT (Ak Ax (pv 1) Ac (λ_ _=>rfl)) (pv 4)) (Af CT (pv 2) (Ak Ax (pv 1) Ac (λ_ _=>rfl)))) rfl (.inl rfl))
   (@Ao _ _ _ _ _ (@BR _ _ 6 _ _ _ _ d rfl (Or.inl rfl) (Af C_ (Af CT (Ak Ax (pv 1) Ac (λ_ _=>rfl)) (pv 4)) (Af CT (pv 3) (Ak Ax (pv 1) Ac (λ_ _=>rfl)))) rfl (.inl rfl))
   (@Ao _ _ _ _ _ (@BR _ _ 7 _ _ _ _ d rfl (Or.inl rfl) (Af CT (Ak Ax (pv 1) Ac (λ_ _=>rfl)) (pv 4)) rfl (.inl rfl))
   (@Ao _ _ _ _ _ (@BR _ _ 8 _ _ _ _ d rfl (Or.inl rfl) (A_ c9 hr rfl (Aa (pv 6) (Aa (A_ c9 hr rfl (Aa (pv 5) (Aa (pv 7) Ae))) Ae))) rfl (.inl rfl))
   (@Aq _ _ _ (@BR _ _ 1 _ _ _ _ d rfl (Or.inl rfl) (@Cq _ _ _ _ _ (Aa (Af Qa (pv 5) (pv 8)) (Aa (Af Qa (pv 6) (pv 8)) (Aa (Af Qa (pv 7) (pv 8)) Ae)))) rfl (.inl rfl))))))))
  (@Aq _ _ _ (BW (Gu (q9 hr.units) (pv 1) (@Cq _ _ _ _ _ (Aa Ac (Aa Ac (Aa Ac Ae)))) (Ad _)))))),?_⟩
 try dsimp only[Bv]
 generalize eT:sn A u.length=T at c M zT;generalize eS:sn B u.length=S at c M zS;have lq:(u.map V.ref).length=u.length:=BL ..;refine⟨t3,λR a0=>?_⟩;have N:=Aw a0 (.tup [.int 0,.int 0,.int 1]);have u0:upd H R (.tup [.int 0,.int 0,.int 1]) R=some (T3 0 0 1):=Al;generalize upd H R (.tup [.int 0,.int 0,.int 1])=H1 at N u0 ⊢;have C:=N _ _ hl;refine⟨_,U,l,U,⟨_,Ai.of C⟩,KN (K:=K) (a:=l) (xs:=u.map V.ref) (λj σ H'=>Same H1 H'/\∃(pw:Y9) (s:I3) (v2 v3 Z v5 v6 v7 v8:Option V),H' pw=some (tI s)/\Mh T S (sn A j) (sn B j) s/\σ=[some (.ref l),some (.ref pw),v2,v3,Z,v5,v6,v7,v8]) ⟨Same.refl _,R,(0,0,1),_,_,_,_,_,_,_,u0,⟨by decide,(by unfold HJ;decide),by simp[sn],by simp[sn]⟩,U⟩ (λj σ H' _ e=>Ai.of (e.1 _ _ C)) ?_ ?_⟩
 ·rintro j v σ H2 hx ⟨Y,pw,s,v2,v3,Z,v5,v6,v7,v8,hw,m,rfl⟩;rw[Cp]at hx;obtain⟨pj,L,rfl⟩:=Dm.mp hx;have jl:j<u.length:=(DW.mp L).1;have pv:=Y _ _ (N _ _ (D j pj L));obtain⟨o,za,zb⟩:=c j jl;have sj:=pY o M zT zS (za.mono (by decide)) (zb.mono (by decide));have ss:=pY m M zT zS (uX (λi hi=>(c i (by lia)).2.1) (by lia)) (uX (λi hi=>(c i (by lia)).2.2) (by lia));have dj:=iu o;have ds:=iu m;have add:=@X1c T S (sn A j) (sn B j) (A j) (B j);generalize sh j=t at pv o sj dj add;obtain⟨p,q,n⟩:=t;obtain⟨x,y,z⟩:=s;obtain⟨j1,j2,O⟩:=sj;obtain⟨i1,i2,W⟩:=ss;have I:∀{x y:Int},Sz 4200 x->Sz 4200 y->CG x y:=λh h'=>⟨_,_,h,h',by decide⟩;have J:Ah K H2 pw ([x,y,z].map V.int):=Ah.of hw;have b0:z*n≠0:=JD (by have:=m.1;simp only at this;lia) (by have:=o.1;simp only at this;lia);have bp:¬ z*n<0:=by have:=GD m.1 o.1;simp only at this;lia
  refine⟨pj,_,U,Ah.of pv,U,_,_,U,_,_,U,_,_,U,U,?_⟩;refine⟨_,U,pw,_,_,_,U,U,J,U,_,U,_,_,U,U,I i1 O,_,U,_,U,pw,_,_,_,U,U,J,U,_,_,U,U,I j1 W,_,_,U,U,?_⟩;refine⟨_,U,pw,_,_,_,U,U,J,U,_,U,_,_,U,U,I i2 O,_,U,_,U,pw,_,_,_,U,U,J,U,_,_,U,U,I j2 W,_,_,U,U,?_⟩;refine⟨_,U,pw,_,_,_,U,U,J,U,_,U,_,_,U,U,I W O,?_⟩;refine⟨_,U,_,U,_,U,_,_,U,_,_,U,?_⟩;have low:=qt (t:=x*n+p*z) (r:=y*n+q*z) (b:=z*n) b0 rfl (g:=_) rfl;rw[if_neg bp]at low;have eg:Int.gcd (y*n+q*z) ((Int.gcd (x*n+p*z) (z*n):Nat):Int)=Nat.gcd (Nat.gcd (x*n+p*z).natAbs (y*n+q*z).natAbs) (z*n).natAbs:=by
   simp only[Int.gcd,Pn];rw[<-gW,Qu (y*n+q*z).natAbs]
  rw[eg];have gl:Nat.gcd (Nat.gcd (x*n+p*z).natAbs (y*n+q*z).natAbs) (z*n).natAbs<=(z*n).natAbs:=WX (by lia) (Zc _ _);have gp:0<Nat.gcd (Nat.gcd (x*n+p*z).natAbs (y*n+q*z).natAbs) (z*n).natAbs:=iM (by lia);have sg:Sz 9000 ((Nat.gcd (Nat.gcd (x*n+p*z).natAbs (y*n+q*z).natAbs) (z*n).natAbs:Nat):Int):=((W.mul O).mono (by decide)).le (by simpa using gl);generalize Nat.gcd (Nat.gcd (x*n+p*z).natAbs (y*n+q*z).natAbs) (z*n).natAbs=g at low gp sg ⊢;have cd:∀i:Int,IW i (g:Int):=λi=>⟨by lia,sg⟩;refine⟨_,U,_,U,_,_,U,U,cd _,_,U,_,U,_,_,U,U,cd _,_,U,_,U,_,_,U,U,cd _,t3,λr f=>?_⟩;exact⟨Y.trans (Aw f _),r,(_,_,_),_,_,_,_,_,_,_,Al,add m o low,U⟩
 rintro σ H2 ⟨Y,pw,s,v2,v3,Z,v5,v6,v7,v8,hw,m,rfl⟩;rw[lq,eT,eS]at m;have e:=X1b M m;subst e;refine⟨_,U,t3,λr f=>?_⟩;exact⟨pw,r,[1,0,1],[1,0,1],U,U,Ah.of (Aw f _ _ _ hw),Ah.of Al,kq _ ((N.trans Y).trans (Aw f _))⟩
end
end Av
set_option maxHeartbeats 4000000
namespace L2
section
variable {X:Cx}
end
end L2
namespace L2
section
variable {X:Cx}
theorem xZ:CW X (.builtin "isinstance") (λxs H Q=>∃a vs T b,xs=[.ref a,.ty T]/\Ah X.K H a vs/\PySem.W.kitOne X.K (.type "tuple") (.type T)=some b/\Q (.bl b) H):=by
 intro pins s σ H xs us Q I r h;obtain⟨a,vs,T,b,rfl,f,e,q⟩:=h;obtain⟨u,v,rfl,c,d⟩:=r.two;cases d;cases c;obtain⟨its,_,⟨o,h1,h2,_⟩,_⟩:=I.tuple f;exact Jj PySem.W.kitx_tuple I.kIn ⟨o,h1,h2⟩ e (λz=>nomatch z) λtk=>⟨.bl b,H,I.tok tk,U,q⟩
end
end L2
set_option maxHeartbeats 1000000
namespace Av
open L2 Am Pc Ba Hw FN Ci Lq
open Lk hiding Hy
open Pt hiding Fp
open Cj
variable{f:Nat->A5}{n:Nat}{M:Int}
theorem jL{g:Nat->A5}{x y z N:Int}(a:Sh f g n x y z)(m0:0<=M)(n0:0<=N)(hg:∀w,w<n->(g w).2<=M)(hf:∀w,w<n->(f w).2<=N):Ar g n M*(z*(p2 N*p2 N))=(x*Ar f n N+2*y*Ag f n N)*(p2 M*p2 M)/\Ag g n M*(z*(p2 N*p2 N))=(x*Ag f n N+y*Ar f n N)*(p2 M*p2 M):=by
 obtain⟨c,e⟩:=a.eq;have k1:c<=max c (max M N):=by lia
 have k2:M<=max c (max M N):=by lia
 have k3:N<=max c (max M N):=by lia
 generalize max c (max M N)=L at k1 k2 k3;obtain⟨i,j⟩:=e L k1;obtain⟨g1,g2⟩:=Yb hg k2;obtain⟨f1,h⟩:=Yb hf k3;have k:p2 L=p2 (L-M)*p2 M:=by rw[<-Ih (by lia) m0];congr 1;lia
 have m:p2 L=p2 (L-N)*p2 N:=by rw[<-Ih (by lia) n0];congr 1;lia
 have p:p2 (L-M)*p2 (L-M)≠0:=JD (Ed _) (Ed _);have o:p2 (L-N)*p2 (L-N)≠0:=JD (Ed _) (Ed _);have qq:p2 (L-M)*p2 M=p2 (L-N)*p2 N:=k.symm.trans m;rw[g1,f1,h]at i;rw[g2,f1,h]at j;generalize Ar g n M=Tg at *;generalize Ag g n M=Rg at *;generalize Ar f n N=Tf at *;generalize Ag f n N=Rf at *;generalize p2 (L-M)=u at *;generalize p2 (L-N)=v at *;generalize p2 M=a at *;generalize p2 N=b at *;have d:u*u*(v*v)≠0:=JD p o;constructor
 ·apply can d;have l:u*u*(v*v)*(Tg*(z*(b*b)))=(u*u*Tg*z)*((v*b)*(v*b)):=by grind
  have r:u*u*(v*v)*((x*Tf+2*y*Rf)*(a*a))=(x*(v*v*Tf)+2*y*(v*v*Rf))*((u*a)*(u*a)):=by grind
  rw[l,r,i,qq]
 ·apply can d;have l:u*u*(v*v)*(Rg*(z*(b*b)))=(u*u*Rg*z)*((v*b)*(v*b)):=by grind
  have r:u*u*(v*v)*((x*Rf+y*Tf)*(a*a))=(x*(v*v*Rf)+y*(v*v*Tf))*((u*a)*(u*a)):=by grind
  rw[l,r,j,qq]
theorem Ro{H:Hp}{l:Y9}{ps:U3}{c m:Nat}(b:Bd H l ps f c n m)(c6:c<=6):Sz (2*(n+M.toNat+1)+67) (Ar f (2^c) M)/\Sz (2*(n+M.toNat+1)+67) (Ag f (2^c) M):=by
 have d:2^c<=64:=CZ (Ib (by decide) c6) (by decide);obtain⟨h1,h2⟩:=Mp (f:=f) (n:=n) (M:=M) (2^c) λw a=>⟨(b.ok w a).sz,(b.ok w a).amt.nn⟩;exact⟨h1.mono (by lia),h2.mono (by lia)⟩
theorem YQ(o:W9):oV o=(o.map λi:Nat=>(i:Int)).map V.int:=by rw[Ly];rfl
def Kf (K:U0):Sp:=λvs H Q _=>∃(pt po pb pw:Y9) (bs:U3) (f:Nat->A5) (x:Wy) (c n m:Nat) (M:Int),vs=[.ref pt,.ref po,.ref pb,.ref pw]/\Cy K (λ_=>True) H f c n m pt x/\Ah K H po (oV x.1)/\x.1.length<=64/\Bd H pb bs x.2 c n m/\c<=6/\n<=10000/\m<=1500/\Ij x.2 c/\H pw=some (T3 (Ar f (2^c) M) (Ag f (2^c) M) (p2 M*p2 M))/\0<=M/\M<=1500/\(∀w,w<2^c->(f w).2<=M)/\Sz 100000 (Ar f (2^c) M)/\Sz 100000 (Ag f (2^c) M)/\∀H',Same H H'->Q (.bl true) H'
section
variable {P:U8}{w:W5}{K:U0}{mg:U4}{base:Heap}{k:Nat}{h:Heap}
theorem X2e(F:Ab K "_law_told_is" (top 74) .none)(X:K.In h)(G:Ng h mg)(B:Bs mg)(c7:Aj P w K mg base k "_law_whole" ["_law_found"] QX)(cH:Aj P w K mg base k "_law_is_share" ["_law_found"] Iu)(d8:Aj P w K mg base k "_law_is_board" ["_law_found","_law_many"] Ku)(cI:Aj P w K mg base k "_law_is_times" ["_law_part","_law_one","_law_whole_here"] Ir)(cA:Aj P w K mg base k "_law_heft" ["_law_board"] Xf):Aj P w K mg base (k+1) "_law_told_is" ["_law_told","_law_outs","_law_behind","_law_whole_here"] (Kf K):=by
 refine F.cal X G ["_law_told","_law_outs","_law_behind","_law_whole_here"] λnd H vs Q E o h=>?_;obtain⟨pt,po,C,pw,bs,f,x,c,n,m,M,rfl,ot,R,xl,t,L,n1,m1,O,T,M0,M1,Mf,zA,zB,kq⟩:=h;obtain⟨ao,sh,ab,cs,X',Y',Z',_,ht,a,s,I,sz,W⟩:=ot;have g:Ah K H pt [.ref ao,.ref sh,.ref ab]:=Ah.of ht
 refine⟨_,(@Ao _ _ _ _ _ (Cd (PW.pt (Eh (Ec (Cr (Bm KQ rfl B.isinstance FJ (Aa (pv 0) (Aa (Je (v:=.ty "tuple") rfl B.tuple Qo rfl) Ae))))) (Eh (Cg Lg (Bm Fb rfl B.len FP (Aa (pv 0) Ae)) Ac (Ad _)) (Eh (Ec (Cr (Bm xZ rfl B.isinstance FJ (Aa (Ak Ax (pv 0) Ac (λ_ _=>rfl)) (Aa (Je (v:=.ty "tuple") rfl B.tuple Qo rfl) Ae))))) (Gg (Cg (Xe o.units) (Ak Ax (pv 0) Ac (λ_ _=>rfl)) (pv 1) (Ad _)))))))
   (@Aq _ _ _ (BW Ef))
   Ce)
  (@Ao _ _ _ _ _ (Cd (PW.pt (Eh (Ec (Cr (Bm (Rm rfl) rfl B.all RK (Aa (GZ rfl (BZ.of (Nc:=["_law_out"]) (mp:=[none]) (by kernel_rfl)) (RT (Ak Ax (pv 0) Ac (λ_ _=>rfl))) (λ_ _ _ _=>(Bq (i:=0) (show (["_law_out"]:W4).Nodup by decide +kernel) rfl (Or.inl rfl))) (λ_ _ _ _=>(A_ c7 o rfl (Aa (pv 0) Ae)))) Ae)))) (Gg (Ec (Cr (A_ cH o rfl (Aa (Ak Ax (pv 0) Ac (λ_ _=>rfl)) Ae)))))))
   (@Aq _ _ _ (BW Ef))
   Ce)
  (@Ao _ _ _ _ _ (Cd (PW.pt (Eh (Ec (Cr (A_ d8 o rfl (Aa (Ak Ax (pv 0) Ac (λ_ _=>rfl)) (Aa (Bm Fb rfl B.len FP (Aa (pv 2) Ae)) Ae))))) (Gg (Cg (iU o.units) (Ak Ax (pv 0) Ac (λ_ _=>rfl)) (pv 2) (Ad _)))))
   (@Aq _ _ _ (BW Ef))
   Ce)
  (@Aq _ _ _ (BW (A_ cI o rfl (Aa (A_ cA o rfl (Aa (pv 2) Ae)) (Aa (Ak Ax (pv 0) Ac (λ_ _=>rfl)) (Aa (pv 3) Ae))))))))),?_⟩
 try dsimp only[Bv]
 refine⟨_,U,_,_,_,true,U,Bk.tup ht,Fp K,_,U,Ay ⟨_,U,pt,_,U,.inr g,U,_,U,J_ (λc=>absurd rfl c) (λ_=>?_)⟩⟩;refine⟨_,U,pt,_,_,_,U,U,g,U,ao,_,_,true,U,a,Fp K,_,U,Ay ?_⟩;refine⟨_,U,pt,_,_,_,U,U,g,U,_,U,ao,po,_,_,U,U,(by rw[<-YQ];exact a),(by rw[<-YQ];exact R),_,U,?_⟩;have eL:∀l:List Int,(if true=true then !decide (l=l) else decide (l=l))=false:=λl=>by simp
 rw[eL];refine Ay ?_;refine⟨_,U,pt,_,_,_,U,U,g,U,ao,U,⟨_,a⟩,λacc q=>?_⟩;refine qj (ns:=x.1.map λi:Nat=>(i:Int)) (fr:=[]) (λ_=>.bl true) (by rw[<-YQ];exact a) (by rw[BL];exact CZ xl (by decide)) q (λi H2 N s2 kN=>⟨_,U,i,U,kN⟩) (λH2 S a2=>?_);refine⟨acc,List.replicate x.1.length true,U,Ai.of (by rw[a2,Ly,List.map_replicate];exact congrArg (λl=>some (HO.lst l)) (List.map_const' ..)),?_⟩;rw[show (List.replicate x.1.length true).all id=true by simp];refine⟨_,U,Ay ?_⟩;refine⟨_,U,pt,_,_,_,U,U,S.tup g,U,sh,X',Y',Z',U,S _ _ s,I.pos,I.cop,λH3 J=>?_⟩;have b:=S.trans J;refine⟨_,U,Ay ?_⟩;have y:=b.tup g;have z:=W.same b;have A:=t.same b;refine⟨_,U,pt,_,_,_,U,U,y,U,_,U,C,_,U,.inl (Ai.of A.lst),ab,cs,x.2,c,n,m,_,U,(by rw[BL,t.len]),z,L,O,λH4 S4=>?_⟩;have e:=b.trans S4;have p:=W.same e;have j:=t.same e;refine⟨_,U,Ay ?_⟩;refine⟨_,U,pt,_,_,_,U,U,e.tup g,U,_,U,ab,C,cs,bs,_,_,U,U,p.lst,j.lst,p.rows,j.rows,_,U,?_⟩;have eR:∀l:List (List Int),(if true=true then !decide (l=l) else decide (l=l))=false:=λl=>by simp
 rw[eR];refine Ay ?_;refine⟨_,U,C,bs,x.2,c,n,m,U,j,L,n1,m1,λr H5 N S5 D N0 N1 u=>?_⟩;have d:=e.trans S5;have Z:=Ro (M:=N) t L;obtain⟨q1,q2⟩:=jL I N0 M0 u Mf;have Y:∀{h:Int},0<=h->h<=1500->Sz 100000 (p2 h*p2 h):=λV h1=>((Vu (m:=1500) V h1).mul (Vu (m:=1500) V h1)).mono (by decide);refine⟨_,U,pt,_,_,_,U,U,d.tup g,U,_,U,r,sh,pw,_,_,_,_,_,_,_,_,_,U,D,d _ _ s,d _ _ T,⟨Z.1.mono (by lia),Z.2.mono (by lia),Y N0 (by lia)⟩,(sz.mono (by decide) (by decide)),⟨zA,zB,Y M0 M1⟩,q1,q2,kq _ d⟩
end
end Av
namespace Av
open L2 Am Pc Ba Hw FN Ci Lq
open Lk hiding Hy
open Pt hiding Fp
open Cj (Mk Bf Wy Hd Hb hf Lf Rp nx wT wS Vw ws O1 wy ao go)
variable{α β:Type}{i:Nat}
theorem X9c{F:α->Option β}{l:List α}{x:α}{y:β}(h:l[i]?=some x)(e:F x=some y):(l.filterMap F)[((l.take i).filterMap F).length]?=some y/\((l.take (i+1)).filterMap F).length=((l.take i).filterMap F).length+1:=by
 have a:=(DW.mp h).1;have d:l.drop i=x::l.drop (i+1):=by rw[Ww a,(DW.mp h).2]
 constructor
 ·conv=>lhs;arg 1;rw[<-RD i l,Zu,d,aG e]
  rw[Uo (BX _),bY];rfl
 ·rw[Jk,h,Oc,Zu,DN,aG e];rfl
theorem X3p{F:α->Option β}{l:List α}{x:α}(h:l[i]?=some x)(e:F x=none):((l.take (i+1)).filterMap F).length=((l.take i).filterMap F).length:=by
 rw[Jk,h,Oc,Zu,DN,mZ e];rfl
theorem QL{α β:Type}{R:α->β->Prop}:∀{ps:List α}{ks:List β}{i:Nat}{p:α},Paired R ps ks->ps[i]?=some p->∃k,ks[i]?=some k/\R p k
 | _,_,_,_,.nil,h=>by cases h
 | _::_,k::_,0,_,.cons e r,h=>by cases h;exact⟨k,rfl,e⟩
 | _::ps,_::ks,i+1,p,.cons e r,h=>QL (ps:=ps) (ks:=ks) (i:=i) (p:=p) r h
theorem kJ{α β:Type}{R:α->β->Prop}:∀{ps:List α}{ks:List β}{i:Nat}{k:β},Paired R ps ks->ks[i]?=some k->∃p,ps[i]?=some p/\R p k
 | _,_,_,_,.nil,h=>by cases h
 | p::_,_::_,0,_,.cons e r,h=>by cases h;exact⟨p,rfl,e⟩
 | _::ps,_::ks,i+1,k,.cons e r,h=>kJ (ps:=ps) (ks:=ks) (i:=i) (k:=k) r h
theorem pX{f g:Nat->A5}{n:Nat}{x y z M:Int}(s:Sh f g n x y z)(m0:0<=M)(hf:∀w,w<n->(f w).2<=M)(hg:∀w,w<n->(g w).2<=M):Mh (Ar f n M) (Ag f n M) (Ar g n M) (Ag g n M) (x,y,z):=by
 obtain⟨b,c⟩:=jL s m0 m0 hg hf;have a:p2 M*p2 M≠0:=JD (Ed _) (Ed _);refine⟨s.pos,s.cop,can a ?_,can a ?_⟩
 ·show p2 M*p2 M*(Ar g n M*z)=p2 M*p2 M*(x*Ar f n M+2*y*Ag f n M);rw[JB _ (x*_+_),<-b];grind
 ·show p2 M*p2 M*(Ag g n M*z)=p2 M*p2 M*(x*Ag f n M+y*Ar f n M);rw[JB _ (x*_+_),<-c];grind
theorem j6{c:Nat}{M L:Int}(h':M<=L):∀W:List Wy,(∀x∈W,∀w,w<2^c->(x.2 w).2<=M)->wT c W L=(p2 (L-M)*p2 (L-M))*wT c W M/\wS c W L=(p2 (L-M)*p2 (L-M))*wS c W M
 | [],_=>⟨by show (0:Int)=_*0;lia,by show (0:Int)=_*0;lia⟩
 | x::W,h=>by
  obtain⟨f,d⟩:=j6 h' W λy e=>h y (Mv _ e);obtain⟨b,a⟩:=Yb (h x K_) h';constructor
  ·show Ar x.2 (2^c) L+wT c W L=_*(Ar x.2 (2^c) M+wT c W M);rw[f,b,Int.mul_add]
  ·show Ag x.2 (2^c) L+wS c W L=_*(Ag x.2 (2^c) M+wS c W M);rw[d,a,Int.mul_add]
theorem X9b{c:Nat}{V W:List Wy}{M:Int}(h:Hs c V W)(hV:∀x∈V,∀w,w<2^c->(x.2 w).2<=M)(hW:∀x∈W,∀w,w<2^c->(x.2 w).2<=M):wT c V M=wT c W M/\wS c V M=wS c W M:=by
 obtain⟨a,e⟩:=h;obtain⟨k,d⟩:=e (max a M) (by lia);obtain⟨j,i⟩:=j6 (L:=max a M) (by lia) V hV;obtain⟨g,f⟩:=j6 (L:=max a M) (by lia) W hW;have b:p2 (max a M-M)*p2 (max a M-M)≠0:=JD (Ed _) (Ed _);exact⟨can b (by rw[<-j,<-g,k]),can b (by rw[<-i,<-f,d])⟩
theorem p7{F:α->Int}(d:Int):∀l:List α,sn (λi=>((l[i]?).map F).getD d) l.length=(l.map F).sum:=λl=>by
 have key:∀j,j<=l.length->sn (λi=>((l[i]?).map F).getD d) j=((l.take j).map F).sum:=λj=>by
  induction j with
  | zero=>exact λ_=>rfl
  | succ j ih =>
   intro a;show sn _ j+_=_;rw[ih (by lia),Jk,Cv (show j<l.length by lia),Oc,Dj,g_];simp[Cv (show j<l.length by lia)]
 rw[key _ (BX _),OJ]
def Kq (K:U0):Sp:=λvs H Q _=>∃(lb lm:Y9) (bs qs:U3) (f:Nat->A5) (c n m:Nat) (ks:List Mk),vs=[.ref lb,.ref lm]/\Bd H lb bs f c n m/\c<=6/\n<=200/\m<=50/\Ij f c/\H lm=some (.lst (qs.map V.ref))/\Mi H c qs ks/\ks.length<=6/\∀H',Same H H'->Q (.bl true) H'
theorem uZ{c:Nat}:∀{ks:List Mk}{o:W9}{f g:Bf},wy c ks o f=some g->Ij f c->Ij g c
 | [],_,f,g,e,h=>by unfold wy at e;cases e;exact h
 | _::_,[],f,g,e,h=>by unfold wy at e;cases e;exact h
 | m::ks,o::os,f,g,e,h=>by
  by_cases hd:Hd c (hf m o f)
  ·rw[sE hd]at e;exact uZ e hd
  ·rw[sI hd]at e;cases e
section
variable {P:U8}{w:W5}{K:U0}{mg:U4}{base:Heap}{k:Nat}{h:Heap}
theorem X2p(F:Ab K "_law_outcomes_are" (top 76) .none)(X:K.In h)(G:Ng h mg)(B:Bs mg)(cA:Aj P w K mg base k "_law_heft" ["_law_board"] Xf)(cU:Aj P w K mg base k "outcomes" ["board","marks"] (Io K))(d5:Aj P w K mg base k "_law_all_outs" ["_law_many"] (Kz K))(dZ:Aj P w K mg base k "_law_way" ["_law_board","_law_marks","_law_outs"] (Nq K))(dD:Aj P w K mg base k "_law_told_is" ["_law_told","_law_outs","_law_behind","_law_whole_here"] (Kf K))(cB:Aj P w K mg base k "_law_sums_to_one" ["_law_shares"] Il):Aj P w K mg base (k+1) "_law_outcomes_are" ["_law_board","_law_marks"] (Kq K):=by
 refine F.cal X G ["_law_board","_law_marks","_law_whole_here","_law_told","_law_at","_law_outs","_law_behind","_law_one"] λnd H vs Q E hr h=>?_;obtain⟨lb,lm,bs,qs,f,c,n,m,ks,rfl,Y,N,n4,m5,a1,a3,LK,k6,kq⟩:=h;have lq:qs.length=ks.length:=Paired.length LK
 refine⟨_,(@Ao _ _ _ _ _ (@BR _ _ 2 _ _ _ _ nd rfl (Or.inl rfl) (A_ cA hr rfl (Aa (pv 0) Ae)) rfl (.inl rfl))
  (@Ao _ _ _ _ _ (@BR _ _ 3 _ _ _ _ nd rfl (Or.inl rfl) (A_ cU hr rfl (Aa (pv 0) (Aa (pv 1) Ae))) rfl (.inl rfl))
  (@Ao _ _ _ _ _ (Cd (Ec (Cr (Bm KQ rfl B.isinstance FJ (Aa (pv 3) (Aa (Je (v:=.ty "list") rfl B.list Nz rfl) Ae)))))
   (@Aq _ _ _ (BW Ef))
   Ce)
  (@Ao _ _ _ _ _ (@BR _ _ 4 _ _ _ _ nd rfl (Or.inl rfl) Ac rfl (.inl rfl))
  (@Ao _ _ _ _ _ (Gf PassesOwn.never rfl (Es (A_ d5 hr rfl (Aa (Bm Fb rfl B.len FP (Aa (pv 1) Ae)) Ae))) (Bq (i:=5) nd rfl (Or.inl rfl))
   (@Ao _ _ _ _ _ (@BR _ _ 6 _ _ _ _ nd rfl (Or.inl rfl) (A_ dZ hr rfl (Aa (pv 0) (Aa (pv 1) (Aa (pv 5) Ae)))) rfl (.inl rfl))
   (@Aq _ _ _ (Cd (Cg X1y (pv 6) YW (Ad _))
    (@Ao _ _ _ _ _ (Cd (PW.pt (Eh (Cg X8 (pv 4) (Bm Fb rfl B.len FP (Aa (pv 3) Ae)) (Ad _)) (Gg (Ec (Cr (A_ dD hr rfl (Aa (Ak Dy (pv 3) (pv 4) (λ_ _=>rfl)) (Aa (pv 5) (Aa (pv 6) (Aa (pv 2) Ae))))))))))
     (@Aq _ _ _ (BW Ef))
     Ce)
    (@Aq _ _ _ (@BR _ _ 4 _ _ _ _ nd rfl (Or.inl rfl) (Af C_ (pv 4) Ac) rfl (.inl rfl))))
    Ce))))
  (@Ao _ _ _ _ _ (Cd (PW.pt (Eh (Cg Lg (pv 4) (Bm Fb rfl B.len FP (Aa (pv 3) Ae)) (Ad _)) (Gg (Ec (Cr (A_ cB hr rfl (Aa (GZ rfl (BZ.of (Nc:=["_law_one"]) (mp:=[none]) (by kernel_rfl)) (Es (pv 3)) (λ_ _ _ _=>(Bq (i:=0) (show (["_law_one"]:W4).Nodup by decide +kernel) rfl (Or.inl rfl))) (λ_ _ _ _=>(Ak iR (pv 0) Ac (λ_ _=>rfl)))) Ae)))))))
   (@Aq _ _ _ (BW Ef))
   Ce)
  (@Ao _ _ _ _ _ (Gf PassesOwn.never rfl (Es (pv 3)) (Bq (i:=7) nd rfl (Or.inl rfl))
   (@Aq _ _ _ (NT (V9 Uk Ul Um Qd (Ak Ax (pv 7) Ac (λ_ _=>rfl)) (Aa Ac Ae)))))
  (@Aq _ _ _ (BW Ef))))))))),?_⟩
 try dsimp only[Bv]
 refine⟨_,U,lb,bs,f,c,n,m,U,Y,N,(by lia),(by lia),λpw H1 M S1 c5 M0 M1 Mf=>?_⟩;refine⟨_,U,_,U,lb,lm,bs,qs,f,c,n,m,ks,U,Y.same S1,N,(by lia),m5,a1,S1 _ _ a3,LK.same S1,k6,λr H2 as d0 S2 C P2 Z2=>?_⟩;have a2:=S1.trans S2;have nb:n+2*(ks.length*(m+ks.length))+2*ks.length<=900:=by
  have:=Tj k6 (show m+ks.length<=56 by lia);lia
 have mb:m+ks.length<=56:=by lia
 have ew:=Cj.YD c f ks.length ks rfl;obtain⟨b9,b5⟩:=Ro (M:=M) Y N;have zA:Sz 100000 (Ar f (2^c) M):=b9.mono (by lia);have zB:Sz 100000 (Ag f (2^c) M):=b5.mono (by lia);have a0:as.length=(ws c f ks).length:=Paired.length P2;have lw:(ws c f ks).length<=64:=CZ (j7 c f ks) (CZ (Ib (by decide) k6) (by decide));refine⟨_,U,_,_,_,true,U,Bk.lst C,YM K,_,U,Ay ?_⟩;refine⟨_,U,lm,_,U,.inl (Ai.of (a2 _ _ a3)),(qs.map V.ref).length,U,(by rw[BL,lq];exact k6),λr3 H3 os c9 S3 b3 O3=>?_⟩;rw[BL,lq]at O3;have c3:=a2.trans S3;have lo:os.length=(ao ks.length).length:=Paired.length O3;refine⟨r3,U,⟨_,Ai.of b3⟩,KN (K:=K) (a:=r3) (xs:=os.map V.ref) (λi σ H'=>Same H3 H'/\∃v5 v6,σ=[some (.ref lb),some (.ref lm),some (.ref pw),some (.ref r),some (.int (((((ao ks.length).take i).filterMap (go c f ks)).length:Nat):Int)),v5,v6,none]) ⟨Same.refl _,_,_,U⟩ (λi σ H' _ e=>Ai.of (e.1 _ _ b3)) ?_ ?_⟩
 ·rintro i x σ H4 b ⟨S,v5,v6,rfl⟩;rw[Cp]at b;obtain⟨p,hp,rfl⟩:=Dm.mp b;obtain⟨o,ho,so⟩:=QL O3 hp;have D:=c3.trans S;obtain⟨ol,ob⟩:=Cj.jh ks.length (Hq ho);refine⟨_,U,_,U,_,U,lb,lm,p,bs,qs,f,c,n,m,ks,o,U,Y.same D,N,(by lia),m5,D _ _ a3,LK.same D,k6,S.tup so,ol,ob,λH5 l e=>?_,λrb H5 rs g l e BG=>?_⟩
  ·have eg:go c f ks o=none:=by unfold go;rw[e];rfl
   refine⟨_,U,U,_,U,Mz (λz=>absurd rfl (Wo z)) (λ_=>?_)⟩;exact⟨S.trans l,_,_,by rw[X3p ho eg];rfl⟩
  ·have eg:go c f ks o=some (o,g):=by unfold go;rw[e];rfl
   obtain⟨W,c7⟩:=X9c ho eg;rw[<-ew]at W;obtain⟨pt,b7,ot⟩:=kJ P2 W;have y:=S3.trans (S.trans l);have d2:=D.trans l;have al:=(DW.mp W).1;refine⟨_,U,U,_,U,Mz (λ_=>?_) (λz=>by cases Uc z)⟩;refine⟨_,U,_,U,r,_,U,.inl (Ai.of (y _ _ C)),_,_,U,U,_,U,Ca (λz=>?_) (λ_=>?_)⟩
   ·rw[BL,a0]at z;lia
   refine⟨_,U,_,U,r,_,_,_,U,U,Ai.of (y _ _ C),Ju (by rw[Cp,b7];rfl),_,U,_,U,_,U,pt,p,rb,pw,rs,f,(o,g),c,_,_,M,U,(ot.any.same y),l.tup (S.tup so),(by show o.length<=64;lia),BG,N,(by lia),(by lia),uZ e a1,(S2.trans y) _ _ c5,M0,(by lia),Mf,zA,zB,λH6 S6=>?_⟩;refine⟨_,U,Ay ?_⟩;exact⟨_,U,_,_,U,U,(S.trans l).trans S6,_,_,by rw[c7];rfl⟩
 rintro σ H4 ⟨S,v5,v6,rfl⟩;rw[BL,lo,OJ,<-ew];have J:=S3.trans S;have u:=J _ _ C;have P4:=Paired.imp' (λ_ _ e=>e.same J) P2;refine⟨_,U,_,U,r,_,U,.inl (Ai.of u),U,_,U,J_ (λz=>absurd (by rw[BL,a0]) z) (λ_=>?_)⟩;refine⟨_,U,r,U,⟨_,Ai.of u⟩,λacc L=>?_⟩;have b1:(as.map V.ref).length=(ws c f ks).length:=by rw[BL,a0]
 refine M_ (K:=K) (a:=r) (xs:=as.map V.ref) (fr:=[]) (λj ys H'=>Same H4 H'/\H' acc=some (.lst ys)/\∃(O:U3) (sh:Nat->I3),ys=O.map V.ref/\O.length=j/\(∀i a,O[i]?=some a->H' a=some (tI (sh i))/\∃x,(ws c f ks)[i]?=some x/\Sh f x.2 (2^c) (sh i).1 (sh i).2.1 (sh i).2.2)) (by rw[b1];exact CZ lw (by decide)) ⟨Aw L _,Al,[],λ_=>(0,0,0),U,U,λi a h=>(by cases h)⟩ (λj ys H' e=>Ai.of (e.1 _ _ u)) ?_ ?_
 ·rintro j x ys H5 NN a9 b6 ⟨l,a5,O,sh,rfl,d,Q5⟩ kN;rw[Cp]at a9;obtain⟨p,hp,rfl⟩:=Dm.mp a9;obtain⟨x,b,I,s',ab,bb,X',Y',Z',nf,t1,s,T,t4,t5,t6⟩:=QL P4 hp;have R:=l _ _ T;refine⟨_,U,p,_,_,_,U,U,Ah.of (l _ _ t1),U,kN _ _ a5 ⟨El l L,Al,O++[s'],λi=>if i=j then (X',Y',Z') else sh i,by rw[Dj];rfl,by rw[DN,d];rfl,λi a t=>?_⟩⟩;by_cases e:i=j
  ·subst e;rw[<-d,Oh]at t;cases t;simp only[HX];exact⟨by rw[Bw (Ie R a5 (by intro z;cases z))];exact R,x,b,t4⟩
  ·have il:i<O.length:=by
    have:=(DW.mp t).1;rw[DN,J7]at this;lia
   rw[J8 il]at t;obtain⟨q,r⟩:=Q5 i a t;simp only[if_neg e];exact⟨by rw[Bw (Ie q a5 (by intro z;cases z))];exact q,r⟩
 rintro ys H5 b6 ⟨l,a5,O,sh,rfl,d,Q5⟩;rw[b1]at d;have d1:=J.trans l;have b0:∀(i:Nat) (x:Wy),(ws c f ks)[i]?=some x->∃(ab:Y9) (bb:U3),Bd H4 ab bb x.2 c (n+2*(ks.length*(m+ks.length))+2*ks.length) (m+ks.length):=λi x b=>by
  obtain⟨p,hp,I,s',ab,bb,X',Y',Z',nf,t1,s,T,t4,t5,t6⟩:=kJ P4 b;exact⟨ab,bb,t6⟩
 have m0:(0:Int)<=((m+ks.length:Nat):Int):=by lia
 have fM:∀w,w<2^c->(f w).2<=((m+ks.length:Nat):Int):=λw hw=>by have:=(Y.ok w hw).le;lia
 have wM:∀x∈ws c f ks,∀w,w<2^c->(x.2 w).2<=((m+ks.length:Nat):Int):=λx b w hw=>by
  obtain⟨i,hi⟩:=List.getElem?_of_mem b;obtain⟨ab,bb,bd⟩:=b0 i x hi;exact(bd.ok w hw).le
 obtain⟨eT,eS⟩:=X9b (M:=((m+ks.length:Nat):Int)) Z2 wM (λx b=>by rw[GK.mp b];exact fM);have b4:wT c [([],f)] ((m+ks.length:Nat):Int)=Ar f (2^c) ((m+ks.length:Nat):Int):=N5 _;have c2:wS c [([],f)] ((m+ks.length:Nat):Int)=Ag f (2^c) ((m+ks.length:Nat):Int):=N5 _;have sT:=p7 (F:=λx:Wy=>Ar x.2 (2^c) ((m+ks.length:Nat):Int)) 0 (ws c f ks);have sS:=p7 (F:=λx:Wy=>Ag x.2 (2^c) ((m+ks.length:Nat):Int)) 0 (ws c f ks);rw[<-d]at sT sS
 replace sT:=sT.trans (eT.trans b4)
 replace sS:=sS.trans (eS.trans c2)
 have ne:=jx (YB (M:=((m+ks.length:Nat):Int)) (λw hw=>(Y.ok w hw).amt) a1);obtain⟨c8,c0⟩:=Ro (M:=((m+ks.length:Nat):Int)) Y N;refine⟨acc,O,sh,(λi=>(Option.map (λx:Wy=>Ar x.2 (2^c) ((m+ks.length:Nat):Int)) (ws c f ks)[i]?).getD 0),(λi=>(Option.map (λx:Wy=>Ag x.2 (2^c) ((m+ks.length:Nat):Int)) (ws c f ks)[i]?).getD 0),U,a5,(by rw[d];exact lw),(λi a t=>(Q5 i a t).1),(λi hi=>?_),(by rw[sT,sS];exact ne),(by rw[sT];exact c8.mono (by lia)),(by rw[sS];exact c0.mono (by lia)),λH6 S6=>?_⟩
 ·obtain⟨_,x,b,sx⟩:=Q5 i _ (Cv hi);obtain⟨ab,bb,bd⟩:=b0 i x b;obtain⟨b8,c1⟩:=Ro (M:=((m+ks.length:Nat):Int)) bd N;rw[sT,sS];simp only[b,Option.map_some,UG];exact⟨pX sx m0 fM λw hw=>wM x (Hq b) w hw,b8.mono (by lia),c1.mono (by lia)⟩
 refine⟨_,U,Ay ?_⟩;have A:=l.trans S6;have c4:Same H H6:=a2.trans (J.trans A);have a6:=A _ _ u;refine⟨_,U,r,U,⟨_,Ai.of a6⟩,KN (K:=K) (a:=r) (xs:=as.map V.ref) (λj σ H'=>Same H H'/\H' r=some (.lst (as.map V.ref))/\(∀(i:Nat) (a:Y9),as[i]?=some a->∃(ao sh ab:Y9) (xs:List V),H' a=some (.tup [.ref ao,.ref sh,.ref ab])/\ab≠r/\H ab=none/\H' ab=some (.lst xs)/\xs.length<=64+j)/\∃v7,σ=[some (.ref lb),some (.ref lm),some (.ref pw),some (.ref r),some (.int ((ws c f ks).length:Int)),v5,v6,v7]) ⟨c4,a6,λi a t=>?_,_,U⟩ (λj σ H' _ e=>Ai.of e.2.1) ?_ ?_⟩
 ·obtain⟨x,b,I,s',ab,bb,X',Y',Z',nf,t1,s,T,t4,t5,t6⟩:=QL P4 t;refine⟨I,s',ab,_,A _ _ t1,nf.1,S1.free nf.2,A _ _ t6.lst,?_⟩;rw[BL,t6.len];exact CZ (Ib (by decide) N) (by decide)
 ·rintro j x σ H7 b ⟨S7,b2,B7,v7,rfl⟩;rw[Cp]at b;obtain⟨p,hp,rfl⟩:=Dm.mp b;obtain⟨I,s',ab,xs,t1,nr,nf,s,ll⟩:=B7 j p hp;have jl:j<as.length:=(DW.mp hp).1;refine⟨_,U,p,_,_,_,U,U,Ah.of t1,U,.inl ⟨U,_,Ai.of s⟩,ab,xs,_,U,U,s,Q8 ll (FQ (show 64+j<200 by lia) (by decide)),?_⟩;refine⟨El S7 nf,by rw[Bw (Ne.symm nr)];exact b2,λi a t=>?_,_,U⟩;obtain⟨a8,s2,Z,ys,u1,a4,a7,u2,l2⟩:=B7 i a t;refine⟨a8,s2,Z,?_⟩;have q1:upd H7 ab (.lst (xs++[.int 0])) a=some (.tup [.ref a8,.ref s2,.ref Z]):=by rw[Bw (Ie u1 s (by intro z;cases z))];exact u1
  by_cases e:Z=ab
  ·subst e;exact⟨_,q1,a4,a7,Al,by rw[DN,J7];lia⟩
  ·exact⟨ys,q1,a4,a7,by rw[Bw e];exact u2,by lia⟩
 ·rintro σ H7 ⟨S7,b2,B7,v7,rfl⟩;exact kq _ S7
end
end Av
set_option maxHeartbeats 4000000
namespace L2
section
variable {X:Cx}{pins:U1}{σ:St}{H:Hp}{s:U7}
end
end L2
namespace L2
section
variable {X:Cx}{scope:Scope}{Nc:W4}{ex:U3}{pins:U1}{s:U7}{H:Hp}
end
end L2
namespace Av
open L2 Am Pc Ba Hw
open Lk hiding Hy
open Pt hiding Fp
def ou (K:U0):Sp:=λvs H Q _=>∃(a:Y9) (ns:U6) (c:Nat),vs=[.ref a,.int c]/\Ai K H a (ns.map V.int)/\1<=c/\c<=6/\∀(l:Y9) (H':Hp) (ps:U3) (f:Nat->A5),Same H H'->Bd H' l ps f c 102 40->Ij f c->Q (.ref l) H'
section
variable {P:U8}{w:W5}{K:U0}{mg:U4}{base:Heap}{k:Nat}{h:Heap}
theorem X2x(F:Ab K "_law_board_by" (top 62) .none)(X:K.In h)(G:Ng h mg)(B:Bs mg)(c5:Aj P w K mg base k "_law_cell_at" ["_law_script","_law_k"] (Iz K))(cY:Aj P w K mg base k "_law_amount_by" ["_law_cell","_law_k"] tM):Aj P w K mg base (k+1) "_law_board_by" ["_law_script","_law_cells"] (ou K):=by
 refine F.cal X G ["_law_script","_law_cells","_law_board"] λS H vs Q E D h=>?_;obtain⟨v,ns,c,rfl,R,c1,Z,kq⟩:=h;have O:=Hr Z;have p0:0<2^c:=Ji c;have M:(1:Int)*2^((c:Int).toNat)=((2^c:Nat):Int):=ipow c;have hM:(1*2^((c:Int).toNat):Int).toNat=2^c:=by rw[M,GJ]
 refine⟨_,(@Ao _ _ _ _ _ (Qc (i:=2) rfl S rfl rfl (BZ.of (Nc:=["_law_k","_law_script"]) (mp:=[none,some 0]) (by kernel_rfl)) (Ln rfl B.range (Aa (Af KJ Ac (pv 1)) Ae)) (λ_ _ _ _=>(Bq (i:=0) (show (["_law_k","_law_script"]:W4).Nodup by decide +kernel) rfl (Or.inl rfl))) (λ_ _ _ _=>(A_ cY D rfl (Aa (A_ c5 D rfl (Aa (pv 1) (Aa (Af C_ Ac (Af Dv (pv 0) Ac)) Ae))) (Aa (pv 0) Ae)))) rfl)
  (@JM _ _ _ _ _ (Cd (Ec (Cr (Bm (jQ rfl) rfl B.any boot_any (Aa (GZ rfl (BZ.of (Nc:=["_law_one"]) (mp:=[none]) (by kernel_rfl)) (Es (pv 2)) (λ_ _ _ _=>(Bq (i:=0) (show (["_law_one"]:W4).Nodup by decide +kernel) rfl (Or.inl rfl))) (λ_ _ _ _=>(Gu (tH D.units) (pv 0) (@Cq _ _ _ _ _ (Aa Ac (Aa Ac (Aa Ac (Aa Ac (Aa Ac Ae)))))) (Ad _)))) Ae))))
   (@Aq _ _ _ (QM (@Cq _ _ _ _ _ (Aa Ac (Aa Ac (Aa Ac (Aa Ac (Aa Ac Ae)))))) (YX (pv 2) (Af Dv (A_ c5 D rfl (Aa (pv 0) (Aa Ac Ae))) (Bm Fb rfl B.len FP (Aa (pv 2) Ae))) Xo)))
   Ce)
  (@Aq _ _ _ (BW (pv 2))))),?_⟩
 try dsimp only[Bv]
 refine⟨_,U,_,_,U,U,⟨1,Qn,by lia,by lia⟩,_,U,by rw[M];lia,by rw[M];lia,λacc b=>?_⟩;rw[hM];refine Xm (n:=2^c) (fr:=[some (.ref v)]) (λi ys H'=>∃(a:U3) (g:Nat->A5),Same H H'/\H' acc=some (.lst ys)/\ys=a.map V.ref/\a.length=i/\Bj H' a g/\∀j,j<i->Gh 102 40 (g j)) (Lx O)
  ⟨[],λ_=>((0,0,0,0),0),Aw b _,Al,U,U,(λ_ _ z=>by cases z),λj r=>absurd r (JF _)⟩ ?_ ?_
 ·rintro i ys H2 N hi hy ⟨a,g,y,o,rfl,e,v2,I⟩ L;refine⟨_,U,_,U,_,_,U,U,aO,_,_,U,U,v,ns,1+(0+(i:Int))%8,U,y.seq R,by lia,_,U,cell ns (1+(0+(i:Int))%8),i,(by rw[J5];rfl),by lia,λp u x A T ox=>?_⟩;refine L (.ref p) u (A _ _ o) ⟨a++[p],λj=>if j=a.length then x else g j,El (y.trans A) b,Al,by rw[Dj];rfl,by simp[e],V2 (oO v2 A T) (A _ _ o),λj r=>?_⟩;show Gh 102 40 (if j=a.length then x else g j);split
  ·exact ox
  ·exact I j (by lia)
 ·rintro ys H2 hy ⟨a,g,y,o,rfl,e,v2,I⟩;have B2:Bd H2 acc a g c 102 40:=⟨o,e,v2,λi hi=>I i hi⟩;refine⟨λσ H'=>∃(ps:U3) (f:Nat->A5),Same H H'/\Bd H' acc ps f c 102 40/\Ij f c/\σ=[some (.ref v),some (.int c),some (.ref acc)],?_,?_⟩
  ·refine⟨_,U,acc,U,⟨_,Ai.of o⟩,λJ q=>uO (fr:=[]) o (by rw[e];exact O) v2 q (λp x u N hp L=>⟨_,U,t5,λt C=>⟨p,t,l5 x,[0,0,0,0,0],U,U,Ah.of (Aw C _ _ _ hp),Ah.of Al,L t C⟩⟩) λu S3 a3=>?_⟩;refine⟨J,_,U,Ai.of a3,_,U,?_⟩;have l:=B2.same S3;have d:=y.trans S3;cases hb:((List.range a.length).map λj=>!decide (l5 (g j)=[0,0,0,0,0])).any id with
   | true =>
    rw[e]at hb;exact Ay ⟨a,g,d,l,AskedN.iff.mp hb,U⟩
   | false =>
    refine Df ⟨t5,λt C=>?_⟩;have s:=Aw C (tA ((1,0,0,0),0));obtain⟨j,r,ej⟩:=l.mod (cell ns 1);have lp:(0:Int)<((a.map V.ref).length:Nat):=by rw[BL,e];lia
    refine⟨_,U,_,U,v,ns,1,U,(d.trans s).seq R,by decide,_,U,acc,_,U,.inl (Ai.of (s _ _ l.lst)),_,_,U,U,lp,acc,_,_,j,U,U,s _ _ l.lst,(by rw[ej,BL,e];exact Xa r),?_⟩;have W:=(l.same s).put (j:=j) (x:=((1,0,0,0),0)) Al ((QB (m:=40)).mono (by decide) (by decide));exact⟨_,_,El (d.trans s) b,W,qZ r (by decide),U⟩
  rintro σ u ⟨ps,f,S3,l,Y,rfl⟩;exact⟨_,U,kq acc u ps f S3 l Y⟩
theorem Y4t(F:Ab K "_law_mark_by" (top 65) .none)(X:K.In h)(G:Ng h mg)(dU:Aj P w K mg base k "_law_ones" ["_law_number"] Fe):Aj P w K mg base (k+1) "_law_mark_by" ["_law_cell","_law_cells"] rN:=by
 refine F.cal X G ["_law_cell","_law_cells","_law_mixed","_law_f","_law_s"] λa H vs Q E b h=>?_;obtain⟨z,n,rfl,i,e⟩:=h;have c:(1:Int)*2^((n:Int).toNat)=((2^n:Nat):Int):=ipow n;have d:(0:Int)<1*2^((n:Int).toNat):=by rw[c];have:=Ji n;lia
 refine⟨_,(@JM _ _ _ _ _ (@BR _ _ 2 _ _ _ _ a rfl (Or.inl rfl) (Af Dv (Af Gs (pv 0) Ac) Ac) rfl (.inl rfl))
  (@JM _ _ _ _ _ (@BR _ _ 3 _ _ _ _ a rfl (Or.inl rfl) (Af Dv (pv 2) (Af KJ Ac (pv 1))) rfl (.inl rfl))
  (@JM _ _ _ _ _ (@BR _ _ 4 _ _ _ _ a rfl (Or.inl rfl) (Af Dv (Af Hx (pv 2) Ac) (Af KJ Ac (pv 1))) rfl (.inl rfl))
  (@Aq _ _ _ (BW (@Cq _ _ _ _ _ (Aa (Af Dv (Af C_ (A_ dU b rfl (Aa (Af RP (pv 3) (pv 4)) Ae)) (Af Gs Ac (Af Hx (pv 2) Ac))) Ac) (Aa (pv 3) (Aa (pv 4) Ae))))))))),?_⟩
 try dsimp only[Bv]
 refine⟨λσ H'=>H'=H/\∃m:Nat,σ=[some (.int z),some (.int n),some (.int m),none,none],?_,?_⟩
 ·obtain⟨m,_,g⟩:=Rb (z*16807) (show 0<2147483647 by decide);refine⟨_,U,_,_,U,U,.inr ⟨by decide,by decide⟩,_,_,U,U,X_,U,m,?_⟩;show [some (V.int z),some (V.int n),some (V.int (z*16807%2147483647)),none,none]=_;rw[show z*16807%2147483647=(m:Int) from g]
 rintro l H ⟨rfl,m,rfl⟩;refine⟨λσ H'=>H'=H/\∃fl:Nat,fl<2^n/\σ=[some (.int z),some (.int n),some (.int m),some (.int fl),none],?_,?_⟩
 ·refine⟨_,U,_,U,_,_,U,U,⟨1,Qn,by lia,by lia⟩,_,_,U,U,d,U,m%2^n,XF _ (Ji n),?_⟩;show [some (V.int z),some (V.int n),some (V.int m),some (V.int ((m:Int)%(1*2^((n:Int).toNat)))),none]=_;rw[c];rfl
 rintro o H ⟨rfl,fl,hf,rfl⟩;refine⟨λσ H'=>H'=H/\∃ms:Nat,ms<2^n/\σ=[some (.int z),some (.int n),some (.int m),some (.int fl),some (.int ms)],?_,?_⟩
 ·refine⟨_,U,_,_,U,U,⟨by decide,by decide⟩,_,U,_,_,U,U,⟨1,Qn,by lia,by lia⟩,_,_,U,U,d,U,m / 64%2^n,XF _ (Ji n),?_⟩;show [some (V.int z),some (V.int n),some (V.int m),some (V.int fl),some (V.int ((m:Int) / 64%(1*2^((n:Int).toNat))))]=_;rw[c];rfl
 rintro j H ⟨rfl,ms,f,rfl⟩;refine⟨_,U,_,U,_,_,U,U,fl&&&ms,uG _ _,_,U,_,_,U,U,⟨by decide,by decide⟩,_,_,U,U,.inl ⟨by decide,by decide⟩,_,_,U,U,_,_,U,U,XC,_,U,_,U,t3,λr b=>?_⟩;refine e r _ ((pc (fl&&&ms)+2*(m / 4096))%4) fl ms (Aw b _) ⟨?_,by lia,hf,f,by lia⟩;rw[Al];rfl
theorem X6g(K:U0):PySem.W.kitOne K (.type "NoneType") (.type "tuple")=some false:=by with_unfolding_all rfl
theorem X6f(K:U0):PySem.W.kitOne K (.type "str") (.type "tuple")=some false:=by with_unfolding_all rfl
theorem X6h(K:U0):PySem.W.kitOne K (.type "list") (.type "tuple")=some false:=by with_unfolding_all rfl
theorem aQ:(0:Int)<14:=by decide
theorem P0:(0:Int)<10^(30:Int).toNat:=by decide
theorem t6:6<=sizeLine:=by decide
theorem t8:8<=sizeLine:=by decide
theorem Ou{H:Hp}{n:Nat}{p:Y9}{x y z:V}(e:H p=some (.tup [x,y,z]))(hx:Part K H x)(hy:Part K H y)(hz:Part K H z)(b:Mx x=false\/Jo n y=false\/Jo n z=false):Br K H n (.ref p) false:=by
 have t:=Tells.three (n:=n) e hx hy hz;have:(Mx x && (Jo n y && Jo n z))=false:=by rcases b with b | b | b<;>rw[b]<;>simp
 rw[this]at t;exact .no t
theorem uQ{i:Int}(h:¬ (0<=i/\i<=3)):Mx (.int i)=false:=Dl h
theorem X7{n:Nat}{i:Int}(h:¬ (0<=i/\i<((2^n:Nat):Int))):Jo n (.int i)=false:=Dl h
def oH (K:U0):Sp:=λvs H Q _=>∃(p:Y9) (c q f s:Nat) (z:Int),vs=[.ref p,.int c,.int z]/\Look H p c q f s/\c<=6/\∀(v:V) (H':Hp),Same H H'->Br K H' c v false->Q v H'
theorem X2o(F:Ab K "_law_odd_mark" (top 78) .none)(X:K.In h)(G:Ng h mg)(B:Bs mg):Aj P w K mg base (k+1) "_law_odd_mark" ["_law_mark","_law_cells","_law_cell"] (oH K):=by
 refine F.cal X G ["_law_mark","_law_cells","_law_cell","_law_q","_law_f","_law_s","_law_far","_law_beyond","_law_some"] λJ H vs Q E hr h=>?_;obtain⟨p,c,a,b,ms,z,rfl,Y,c6,kq⟩:=h;have q4:=Y.q4;have fc:=Y.fc;have sc:=Y.sc;have ev:=Y.ev;have p6:=Hr c6
 refine⟨_,(@Ao _ _ _ _ _ (QM (pv 0) (QK rfl (FZ (Bq (i:=3) J rfl (Or.inl rfl)) (FZ (Bq (i:=4) J rfl (Or.inl rfl)) (FZ (Bq (i:=5) J rfl (Or.inl rfl)) QV)))))
  (@JM _ _ _ _ _ (@BR _ _ 6 _ _ _ _ J rfl (Or.inl rfl) (Af Dv (Af Hx (pv 2) Ac) (Af YT Ac Ac)) rfl (.inl rfl))
  (@JM _ _ _ _ _ (@BR _ _ 7 _ _ _ _ J rfl (Or.inl rfl) (Af KJ (Af C_ Ac (pv 6)) (pv 1)) rfl (.inl rfl))
  (@Ao _ _ _ _ _ (@BR _ _ 8 _ _ _ _ J rfl (Or.inl rfl) (@Ii _ _ _ _ (Aa (@Cq _ _ _ _ _ (Aa (Af Dv (Af C_ (pv 3) Ac) Ac) (Aa (pv 4) (Aa (pv 5) Ae)))) (Aa (@Cq _ _ _ _ _ (Aa (pv 3) (Aa (Af C_ (pv 4) (pv 7)) (Aa (pv 5) Ae)))) (Aa (@Cq _ _ _ _ _ (Aa (pv 3) (Aa (pv 4) (Aa (Af C_ (pv 5) (pv 7)) Ae)))) (Aa (@Cq _ _ _ _ _ (Aa (Af C_ (pv 3) Ac) (Aa (pv 4) (Aa (pv 5) Ae)))) (Aa (@Cq _ _ _ _ _ (Aa (Af Fy (pv 3) Ac) (Aa (pv 4) (Aa (pv 5) Ae)))) (Aa (@Cq _ _ _ _ _ (Aa (pv 3) (Aa (pv 4) Ae))) Ae))))))) rfl (.inl rfl))
  (@Ao _ _ _ _ _ (@BR _ _ 8 _ _ _ _ J rfl (Or.inl rfl) (Af YS (pv 8) (@Ii _ _ _ _ (Aa (@Ii _ _ _ _ (Aa (pv 3) (Aa (pv 4) (Aa (pv 5) Ae)))) (Aa (@Cq _ _ _ _ _ (Aa (pv 3) (Aa (pv 4) (Aa (pv 5) (Aa Ac Ae))))) (Aa (@Cq _ _ _ _ _ (Aa (pv 3) (Aa (Af Fy (Js Jt Ac) (pv 6)) (Aa (pv 5) Ae)))) (Aa (@Cq _ _ _ _ _ (Aa (pv 3) (Aa (pv 4) (Aa (Af Fy (Js Jt Ac) (pv 6)) Ae)))) (Aa YW (Aa jw (Aa (@Cq _ _ _ _ _ (Aa Ef (Aa (pv 4) (Aa (pv 5) Ae)))) (Aa (@Cq _ _ _ _ _ (Aa (pv 3) (Aa YW (Aa (pv 5) Ae)))) Ae)))))))))) rfl (.inl rfl))
  (@Aq _ _ _ (BW (Ak Dy (pv 8) (Af Dv (pv 2) Ac) (λ_ _=>rfl))))))))),?_⟩
 try dsimp only[Bv]
 refine⟨_,U,p,_,U,Ah.of Y.at_,U,_,_,U,_,_,U,_,_,U,U,?_⟩;refine⟨λσ H'=>H'=H/\∃far:Nat,Sz 101 (1+(far:Int))/\σ=[some (.ref p),some (.int c),some (.int z),some (.int a),some (.int b),some (.int ms),some (.int far),none,none],?_,?_⟩
 ·have e0:=JC (z / 14) (Ms P0);have e1:=Jl (z / 14) P0;obtain⟨far,ef⟩:∃far:Nat,z / 14%10^(30:Int).toNat=far:=⟨(z / 14%10^(30:Int).toNat).toNat,by lia⟩;refine⟨_,U,_,_,U,U,⟨by decide,by decide⟩,_,_,U,U,M8,_,_,U,U,P0,U,far,?_,?_⟩
  ·unfold Sz;have:(1+(far:Int)).natAbs=far+1:=by lia
   rw[this];have h3:(10:Int)^(30:Int).toNat<((2^100:Nat):Int):=by decide +kernel
   have h4:(2^100:Nat)+1<2^101:=by decide +kernel
   lia
  ·show [_,_,_,_,_,_,some (V.int (z / 14%10^(30:Int).toNat)),_,_]=_;rw[ef]
 rintro σ1 H ⟨rfl,far,sf,rfl⟩;refine⟨λσ H'=>H'=H/\∃y:Nat,2^c<=y/\σ=[some (.ref p),some (.int c),some (.int z),some (.int a),some (.int b),some (.int ms),some (.int far),some (.int y),none],?_,?_⟩
 ·refine⟨_,U,_,_,U,U,_,U,_,_,U,U,⟨101,sf,by lia,by lia⟩,U,(1+far)*2^c,Zw _ (by lia),?_⟩;show [_,_,_,_,_,_,_,some (V.int ((1+(far:Int))*2^((c:Int).toNat))),_]=_;rw[GJ,show (1+(far:Int))*2^c=(((1+far)*2^c:Nat):Int) by push_cast;rfl]
 rintro σ2 H ⟨rfl,y,b8,rfl⟩;refine⟨_,U,_,_,U,U,_,_,U,U,XC,_,U,_,U,t3,λj h0=>?_⟩;have s0:=Aw h0 (.tup [V.int (((a:Int)+1)%4),V.int (b:Nat),V.int (ms:Nat)]);have e0:upd H j (.tup [V.int (((a:Int)+1)%4),V.int (b:Nat),V.int (ms:Nat)]) j=some (.tup [V.int (((a:Int)+1)%4),V.int (b:Nat),V.int (ms:Nat)]):=Al;generalize upd H j (.tup [V.int (((a:Int)+1)%4),V.int (b:Nat),V.int (ms:Nat)])=G0 at s0 e0 ⊢;refine⟨_,U,_,U,_,U,_,_,U,U,_,U,t3,λx h1=>?_⟩;have s1:=Aw h1 (.tup [V.int (a:Nat),V.int ((b:Int)+(y:Int)),V.int (ms:Nat)]);have e1:upd G0 x (.tup [V.int (a:Nat),V.int ((b:Int)+(y:Int)),V.int (ms:Nat)]) x=some (.tup [V.int (a:Nat),V.int ((b:Int)+(y:Int)),V.int (ms:Nat)]):=Al;generalize upd G0 x (.tup [V.int (a:Nat),V.int ((b:Int)+(y:Int)),V.int (ms:Nat)])=G1 at s1 e1 ⊢;refine⟨_,U,_,U,_,U,_,U,_,_,U,U,t3,λq h2=>?_⟩;have s2:=Aw h2 (.tup [V.int (a:Nat),V.int (b:Nat),V.int ((ms:Int)+(y:Int))]);have e2:upd G1 q (.tup [V.int (a:Nat),V.int (b:Nat),V.int ((ms:Int)+(y:Int))]) q=some (.tup [V.int (a:Nat),V.int (b:Nat),V.int ((ms:Int)+(y:Int))]):=Al;generalize upd G1 q (.tup [V.int (a:Nat),V.int (b:Nat),V.int ((ms:Int)+(y:Int))])=G2 at s2 e2 ⊢;refine⟨_,U,_,_,U,U,_,U,_,U,t3,λm h3=>?_⟩;have s3:=Aw h3 (.tup [V.int ((a:Int)+4),V.int (b:Nat),V.int (ms:Nat)]);have e3:upd G2 m (.tup [V.int ((a:Int)+4),V.int (b:Nat),V.int (ms:Nat)]) m=some (.tup [V.int ((a:Int)+4),V.int (b:Nat),V.int (ms:Nat)]):=Al;generalize upd G2 m (.tup [V.int ((a:Int)+4),V.int (b:Nat),V.int (ms:Nat)])=G3 at s3 e3 ⊢;refine⟨_,U,_,_,U,U,_,U,_,U,t3,λl h4=>?_⟩;have s4:=Aw h4 (.tup [V.int ((a:Int)-4),V.int (b:Nat),V.int (ms:Nat)]);have e4:upd G3 l (.tup [V.int ((a:Int)-4),V.int (b:Nat),V.int (ms:Nat)]) l=some (.tup [V.int ((a:Int)-4),V.int (b:Nat),V.int (ms:Nat)]):=Al;generalize upd G3 l (.tup [V.int ((a:Int)-4),V.int (b:Nat),V.int (ms:Nat)])=G4 at s4 e4 ⊢;refine⟨_,U,_,U,t2,λr h5=>?_⟩;have s5:=Aw h5 (.tup [V.int (a:Nat),V.int (b:Nat)]);have e5:upd G4 r (.tup [V.int (a:Nat),V.int (b:Nat)]) r=some (.tup [V.int (a:Nat),V.int (b:Nat)]):=Al;generalize upd G4 r (.tup [V.int (a:Nat),V.int (b:Nat)])=G5 at s5 e5 ⊢;refine⟨t6,λa6 h6=>?_⟩;have s6:=Aw h6 (.lst [V.ref j,V.ref x,V.ref q,V.ref m,V.ref l,V.ref r]);have e6:upd G5 a6 (.lst [V.ref j,V.ref x,V.ref q,V.ref m,V.ref l,V.ref r]) a6=some (.lst [V.ref j,V.ref x,V.ref q,V.ref m,V.ref l,V.ref r]):=Al;generalize upd G5 a6 (.lst [V.ref j,V.ref x,V.ref q,V.ref m,V.ref l,V.ref r])=G6 at s6 e6 ⊢;refine⟨_,U,_,U,_,U,_,U,t3,λu h7=>?_⟩;have s7:=Aw h7 (.lst [V.int (a:Nat),V.int (b:Nat),V.int (ms:Nat)]);have e7:upd G6 u (.lst [V.int (a:Nat),V.int (b:Nat),V.int (ms:Nat)]) u=some (.lst [V.int (a:Nat),V.int (b:Nat),V.int (ms:Nat)]):=Al;generalize upd G6 u (.lst [V.int (a:Nat),V.int (b:Nat),V.int (ms:Nat)])=G7 at s7 e7 ⊢;refine⟨_,U,_,U,_,U,t4,λs h8=>?_⟩;have s8:=Aw h8 (.tup [V.int (a:Nat),V.int (b:Nat),V.int (ms:Nat),V.int 0]);have e8:upd G7 s (.tup [V.int (a:Nat),V.int (b:Nat),V.int (ms:Nat),V.int 0]) s=some (.tup [V.int (a:Nat),V.int (b:Nat),V.int (ms:Nat),V.int 0]):=Al;generalize upd G7 s (.tup [V.int (a:Nat),V.int (b:Nat),V.int (ms:Nat),V.int 0])=G8 at s8 e8 ⊢;refine⟨_,U,_,U,_,U,_,_,U,U,_,U,t3,λo h9=>?_⟩;have s9:=Aw h9 (.tup [V.int (a:Nat),V.int (-1-(far:Int)),V.int (ms:Nat)]);have e9:upd G8 o (.tup [V.int (a:Nat),V.int (-1-(far:Int)),V.int (ms:Nat)]) o=some (.tup [V.int (a:Nat),V.int (-1-(far:Int)),V.int (ms:Nat)]):=Al;generalize upd G8 o (.tup [V.int (a:Nat),V.int (-1-(far:Int)),V.int (ms:Nat)])=G9 at s9 e9 ⊢;refine⟨_,U,_,U,_,U,_,U,_,_,U,U,t3,λf b4=>?_⟩;have I:=Aw b4 (.tup [V.int (a:Nat),V.int (b:Nat),V.int (-1-(far:Int))]);have S:upd G9 f (.tup [V.int (a:Nat),V.int (b:Nat),V.int (-1-(far:Int))]) f=some (.tup [V.int (a:Nat),V.int (b:Nat),V.int (-1-(far:Int))]):=Al;generalize upd G9 f (.tup [V.int (a:Nat),V.int (b:Nat),V.int (-1-(far:Int))])=G10 at I S ⊢;refine⟨_,U,_,U,t3,λd b7=>?_⟩;have D:=Aw b7 (.tup [V.bl true,V.int (b:Nat),V.int (ms:Nat)]);have Z:upd G10 d (.tup [V.bl true,V.int (b:Nat),V.int (ms:Nat)]) d=some (.tup [V.bl true,V.int (b:Nat),V.int (ms:Nat)]):=Al;generalize upd G10 d (.tup [V.bl true,V.int (b:Nat),V.int (ms:Nat)])=G11 at D Z ⊢;refine⟨_,U,_,U,t3,λg b2=>?_⟩;have N:=Aw b2 (.tup [V.int (a:Nat),V.non,V.int (ms:Nat)]);have b1:upd G11 g (.tup [V.int (a:Nat),V.non,V.int (ms:Nat)]) g=some (.tup [V.int (a:Nat),V.non,V.int (ms:Nat)]):=Al;generalize upd G11 g (.tup [V.int (a:Nat),V.non,V.int (ms:Nat)])=G12 at N b1 ⊢;refine⟨t8,λC b6=>?_⟩;have M:=Aw b6 (.lst [V.ref u,V.ref s,V.ref o,V.ref f,V.non,V.str "+f",V.ref d,V.ref g]);have W:upd G12 C (.lst [V.ref u,V.ref s,V.ref o,V.ref f,V.non,V.str "+f",V.ref d,V.ref g]) C=some (.lst [V.ref u,V.ref s,V.ref o,V.ref f,V.non,V.str "+f",V.ref d,V.ref g]):=Al;generalize upd G12 C (.lst [V.ref u,V.ref s,V.ref o,V.ref f,V.non,V.str "+f",V.ref d,V.ref g])=G13 at M W ⊢;have S7:=s7.trans (s8.trans (s9.trans (I.trans (D.trans (N.trans M)))));refine⟨a6,C,_,_,U,U,S7 _ _ e6,W,(show 14<=sizeLine by decide),λA b5=>?_⟩;have T:=Aw b5 (.lst ([V.ref j,V.ref x,V.ref q,V.ref m,V.ref l,V.ref r]++[V.ref u,V.ref s,V.ref o,V.ref f,V.non,V.str "+f",V.ref d,V.ref g]));have L:upd G13 A (.lst ([V.ref j,V.ref x,V.ref q,V.ref m,V.ref l,V.ref r]++[V.ref u,V.ref s,V.ref o,V.ref f,V.non,V.str "+f",V.ref d,V.ref g])) A=some (.lst ([V.ref j,V.ref x,V.ref q,V.ref m,V.ref l,V.ref r]++[V.ref u,V.ref s,V.ref o,V.ref f,V.non,V.str "+f",V.ref d,V.ref g])):=Al;generalize upd G13 A (.lst ([V.ref j,V.ref x,V.ref q,V.ref m,V.ref l,V.ref r]++[V.ref u,V.ref s,V.ref o,V.ref f,V.non,V.str "+f",V.ref d,V.ref g]))=G14 at T L ⊢;have b3:=T;have b0:=M.trans b3;have R:=N.trans b0;have O:=D.trans R;have Z9:=I.trans O;have Z8:=s9.trans Z9;have Z7:=s8.trans Z8;have Z6:=s7.trans Z7;have Z5:=s6.trans Z6;have Z4:=s5.trans Z5;have Z3:=s4.trans Z4;have Z2:=s3.trans Z3;have Z1:=s2.trans Z2;have Z0:=s1.trans Z1;have all:∀v∈[V.ref j,V.ref x,V.ref q,V.ref m,V.ref l,V.ref r]++[V.ref u,V.ref s,V.ref o,V.ref f,V.non,V.str "+f",V.ref d,V.ref g],Br K G14 c v false:=λv hv=>by
  simp only[List.cons_append,Wc,Cw,Gm,Gk]at hv;rcases hv with rfl | rfl | rfl | rfl | rfl | rfl | rfl | rfl | rfl | rfl | rfl | rfl | rfl | rfl
  ·have e:G14 j=some (M3 ((a+1)%4) b ms):=Z0 _ _ e0;have t:=Br.mark (K:=K) (n:=c) e (XF _ (by decide)) fc sc;rw[show RM ((a+1)%4) b ms=false from Dl (by lia)]at t;exact t
  ·exact Ou (Z1 _ _ e1) (Part.int _) (Part.int _) (Part.int _) (.inr (.inl (X7 λz=>by lia)))
  ·exact Ou (Z2 _ _ e2) (Part.int _) (Part.int _) (Part.int _) (.inr (.inr (X7 λz=>by lia)))
  ·exact Ou (Z3 _ _ e3) (Part.int _) (Part.int _) (Part.int _) (.inl (uQ λz=>by lia))
  ·exact Ou (Z4 _ _ e4) (Part.int _) (Part.int _) (Part.int _) (.inl (uQ λz=>by lia))
  ·exact .no (.many (Z5 _ _ e5) (by simp))
  ·exact .no (.odd (Bk.lst (Z7 _ _ e7)) (X6h K))
  ·exact .no (.many (Z8 _ _ e8) (by simp))
  ·exact Ou (Z9 _ _ e9) (Part.int _) (Part.int _) (Part.int _) (.inr (.inl (X7 λz=>by lia)))
  ·exact Ou (O _ _ S) (Part.int _) (Part.int _) (Part.int _) (.inr (.inr (X7 λz=>by lia)))
  ·exact .no (.odd Bk.non (X6g K))
  ·exact .no (.odd (Bk.str _) (X6f K))
  ·exact Ou (R _ _ Z) (Part.bl _) (Part.int _) (Part.int _) (.inl rfl)
  ·exact Ou (b0 _ _ b1) (Part.int _) Part.non (Part.int _) (.inr (.inl rfl))
 obtain⟨i,b9,ei⟩:=Rb z (show 0<14 by decide);generalize hx:[V.ref j,V.ref x,V.ref q,V.ref m,V.ref l,V.ref r]++[V.ref u,V.ref s,V.ref o,V.ref f,V.non,V.str "+f",V.ref d,V.ref g]=xs at all L;have lx:xs.length=14:=by rw[<-hx];rfl
 have ix:xs[i]?=some (xs[i]'(by lia)):=Cv (by lia);exact⟨_,U,_,U,_,_,U,U,aQ,A,_,_,_,U,U,Ai.of L,(by rw[show z%14=(i:Int) from ei];exact L2.Ju ix),kq _ G14 (s0.trans Z0) (all _ (K7 (show i<xs.length by lia)))⟩
end
end Av
set_option maxHeartbeats 1000000
namespace L2
theorem _O{lo st:Int}{n:Nat}{g:TG}{tb:TS}{D:Ends}{σ:St}{H:Hp}(Pv:Nat->St->Hp->Prop)(h0:Pv 0 σ H)(hs:∀i σ H,i<n->Pv i σ H->g (.int (lo+i*st)) σ H λb H2=>tb {D with nx:=Pv (i+1),ct:=Pv (i+1),bk:=D.nx} b H2)(hd:∀σ H,Pv n σ H->D.nx σ H):∃W:Nat->Nat->St->Hp->Prop,(∃m,W 0 m σ H)/\∀i m σ H,W i m σ H->((Its lo st n).stop i H/\D.nx σ H)\/((Its lo st n).go i H/\∃N:St->Hp->Prop,(∀a H',N a H'->∃m',m'<m/\W (i+1) m' a H')/\∀x H',(Its lo st n).yld i H x H'->g x σ H' λb H2=>tb {D with nx:=N,ct:=N,bk:=D.nx} b H2):=by
 refine⟨λi m σ H=>m+i=n/\Pv i σ H,⟨n,U,h0⟩,λi m σ H e=>?_⟩;obtain⟨c,p⟩:=e;rcases Nat.lt_or_ge i n with hlt | hge
 ·exact .inr ⟨hlt,Pv (i+1),λa H' p'=>⟨m-1,by lia,by lia,p'⟩,λx H' y=>by rw[y.1,y.2];exact hs i σ H hlt p⟩
 ·obtain rfl:i=n:=by lia
  exact .inl ⟨hge,hd σ H p⟩
end L2
namespace Av
open L2 Am Pc Ba Hw FN Ci Lq
open Lk hiding Hy
open Pt hiding Fp
def lO (g:Nat->A5)(c:Nat):Prop:=∃w,w<64/\(w<2^c->g w=nought)
def Kg:Sp:=λvs H Q _=>∃(l:Y9) (ps:U3) (f:Nat->A5) (c n m:Nat) (z:Int),vs=[.ref l,.int z]/\Bd H l ps f c n m/\100<=n/\c<=6/\Ij f c/\∀(r:Y9) (H':Hp) (qs:U3) (g:Nat->A5),Same H H'->Bd H' r qs g c n m->Ij g c->lO g c->Q (.ref r) H'
theorem ji{H:Hp}{l t:Y9}{c n m:Nat}(h:H l=some (.lst (List.replicate (2^c) [V.ref t]).flatten))(ht:H t=some (tA nought))(hn:100<=n):Bd H l (List.replicate (2^c) t) (λ_=>nought) c n m:=by
 refine⟨by rw[h,X1j],nM,λi q a=>?_,λ_ _=>(P_ (m:=m)).mono hn (GC _)⟩;rw[Zz]at a;split at a
 ·cases a;exact ht
 ·cases a
theorem WQ:1<=sizeLine:=by decide
section
variable {P:U8}{w:W5}{K:U0}{mg:U4}{base:Heap}{k:Nat}{h:Heap}
theorem X2f(F:Ab K "_law_thin" (top 63) .none)(X:K.In h)(G:Ng h mg)(B:Bs mg):Aj P w K mg base (k+1) "_law_thin" ["_law_board","_law_cell"] Kg:=by
 refine F.cal X G ["_law_board","_law_cell","_law_rest","_law_made","_law_word"] λR H vs Q E hr h=>?_;obtain⟨l,ps,f,c,n,m,z,rfl,o,W,c6,S,Y⟩:=h;have p6:2^c<=64:=CZ (Ib (by decide) c6) (by decide);have a:(ps.map V.ref).length=2^c:=by rw[BL,o.len]
 have SL:=Ai.of (K:=K) o.lst
 refine⟨_,(@Ao _ _ _ _ _ (Cd (Cg QH (Bm Fb rfl B.len FP (Aa (pv 0) Ae)) Ac (Ad _))
   (@Aq _ _ _ (BW (pv 0)))
   Ce)
  (@Ao _ _ _ _ _ (@BR _ _ 2 _ _ _ _ R rfl (Or.inl rfl) (Af Dv (pv 1) Ac) rfl (.inl rfl))
  (@Ao _ _ _ _ _ (@BR _ _ 3 _ _ _ _ R rfl (Or.inl rfl) (Af jt (@Ii _ _ _ _ (Aa (@Cq _ _ _ _ _ (Aa Ac (Aa Ac (Aa Ac (Aa Ac (Aa Ac Ae)))))) Ae)) (Bm Fb rfl B.len FP (Aa (pv 0) Ae))) rfl (.inl rfl))
  (@Ao _ _ _ _ _ (Gf PassesOwn.never rfl (Y3x rfl B.range (Aa (pv 2) (Aa (Bm Fb rfl B.len FP (Aa (pv 0) Ae)) (Aa Ac Ae)))) (Bq (i:=4) R rfl (Or.inl rfl))
   (@Aq _ _ _ (QM (Ak Dy (pv 0) (pv 4) (λ_ _=>rfl)) (YX (pv 3) (pv 4) Xo))))
  (@JM _ _ _ _ _ (Cd (Cg (qz hr.units) (pv 3) (Af jt (@Ii _ _ _ _ (Aa (@Cq _ _ _ _ _ (Aa Ac (Aa Ac (Aa Ac (Aa Ac (Aa Ac Ae)))))) Ae)) (Bm Fb rfl B.len FP (Aa (pv 0) Ae))) (Ad _))
   (@Aq _ _ _ (QM (@Cq _ _ _ _ _ (Aa Ac (Aa Ac (Aa Ac (Aa Ac (Aa Ac Ae)))))) (YX (pv 3) (pv 2) Xo)))
   Ce)
  (@Aq _ _ _ (BW (pv 3)))))))),?_⟩
 try dsimp only[Bv]
 refine⟨_,U,l,_,U,.inl SL,_,_,U,U,_,U,Ca (λlt=>⟨_,U,Y l H ps f (Same.refl _) o S ⟨63,by decide,λz=>by rw[a]at lt;lia⟩⟩) (λge=>?_)⟩;rw[a]at ge;refine⟨_,U,_,_,U,U,(show (0:Int)<13 by decide),?_⟩;obtain⟨r,a0,er⟩:=Rb z (show 0<13 by decide);have T:(λi j:Int=>V.int (i%j)) z 13=V.int (r:Int):=congrArg V.int er;rw[T];refine⟨t5,λtz D=>⟨WQ,λlo u=>⟨_,U,l,_,U,.inl (Ai.of (Aw u _ _ _ (Aw D _ _ _ o.lst))),lo,_,_,U,U,Al,by rw[a];lia,by rw[a];lia,by rw[a,GJ];exact CZ (by simp;exact p6) (show 64<=sizeLine by decide),λb v=>?_⟩⟩⟩;have s1:=(Aw D (tA nought)).trans (Aw u (.lst [V.ref tz]));have fz:H b=none:=s1.free v;have s2:=s1.trans (Aw v (.lst (List.replicate (((ps.map V.ref).length:Nat):Int).toNat [V.ref tz]).flatten));have B2:Bd (upd (upd (upd H tz (tA nought)) lo (.lst [V.ref tz])) b (.lst (List.replicate (((ps.map V.ref).length:Nat):Int).toNat [V.ref tz]).flatten)) b (List.replicate (2^c) tz) (λ_=>nought) c n m:=ji (by rw[Al,a,GJ]) (Aw v _ _ _ (Aw u _ _ _ Al)) W;refine⟨_,U,_,U,l,_,U,.inl (s2.seq SL),(r:Int),_,13,U,⟨by lia,by rw[a];lia,by rw[a];lia,by decide,by decide⟩,_O (λi σ H'=>Same H H'/\∃(s:U3) (g:Nat->A5) (J:Option V),Bd H' b s g c n m/\g (r+1)=nought/\σ=[some (.ref l),some (.int z),some (.int (r:Int)),some (.ref b),J]) ⟨s2,_,_,none,B2,U,U⟩ ?_ ?_⟩
 ·rintro i σ H3 hi ⟨S3,s,g,J,I,g3,rfl⟩;have sz:=jc (i:=(r:Int)) (j:=(((ps.map V.ref).length:Nat):Int)) (k:=13) (by rw[a];lia) (by decide);have N:r+i*13<2^c:=by rw[a]at sz hi;lia
  obtain⟨p,hp,tp,ap⟩:=(o.same S3).at N;refine⟨_,U,_,U,l,_,_,_,U,U,Ai.of (S3 _ _ o.lst),(by rw[show (r:Int)+(i:Int)*13=((r+i*13:Nat):Int) by lia];exact ap),_,U,_,U,b,_,_,r+i*13,U,U,I.lst,(by rw[BL,I.len,show (r:Int)+(i:Int)*13=((r+i*13:Nat):Int) by lia];exact Xa N),?_⟩;exact⟨El S3 fz,_,_,_,I.put tp (o.ok _ N),(if_neg (by lia)).trans g3,U⟩
 rintro σ H3 ⟨S3,s,g,J,I,g3,rfl⟩;refine⟨λσ H'=>∃(s:U3) (g:Nat->A5),Same H H'/\Bd H' b s g c n m/\Ij g c/\lO g c/\σ=[some (.ref l),some (.int z),some (.int (r:Int)),some (.ref b),J],?_,?_⟩
 ·refine⟨_,U,t5,λty y=>⟨WQ,λC d=>⟨_,U,l,_,U,.inl (Ai.of (Aw d _ _ _ (Aw y _ _ _ (S3 _ _ o.lst)))),C,_,_,U,U,Al,by rw[a];lia,by rw[a];lia,by rw[a,GJ];exact CZ (by simp;exact p6) (show 64<=sizeLine by decide),λM A=>?_⟩⟩⟩;have Z:=((Aw y (tA nought)).trans (Aw d (.lst [V.ref ty]))).trans (Aw A (.lst (List.replicate (((ps.map V.ref).length:Nat):Int).toNat [V.ref ty]).flatten));have B4:Bd (upd (upd (upd H3 ty (tA nought)) C (.lst [V.ref ty])) M (.lst (List.replicate (((ps.map V.ref).length:Nat):Int).toNat [V.ref ty]).flatten)) M (List.replicate (2^c) ty) (λ_=>nought) c n m:=ji (by rw[Al,a,GJ]) (Aw A _ _ _ (Aw d _ _ _ Al)) W;have x:=I.same Z;have S5:=S3.trans Z;refine⟨b,M,s,_,_,_,U,U,x.lst,B4.lst,x.rows,B4.rows,_,U,?_⟩;refine Ca (λe=>?_) (λe=>?_)
  ·refine⟨t5,λt ht=>?_⟩;have L:=Aw ht (tA ((1,0,0,0),0));have rl:r<2^c:=by lia
   refine⟨_,U,_,U,b,_,_,r,U,U,L _ _ x.lst,(by rw[BL,x.len];exact Xa rl),?_⟩;exact⟨_,_,El (S5.trans L) fz,(x.same L).put Al ((QB (m:=m)).mono W (GC _)),qZ rl (by decide),⟨r+1,by lia,λ_=>(if_neg (by lia)).trans g3⟩,U⟩
  ·refine⟨s,g,S5,x,Classical.byContradiction λno=>e ?_,⟨r+1,by lia,λ_=>g3⟩,rfl⟩;refine Wq λi hi=>?_;rw[Classical.byContradiction λq=>no ⟨i,Em.mp hi,q⟩]
 ·rintro σ H6 ⟨O,g',S6,B6,h6,g6,rfl⟩;exact⟨_,U,Y b H6 O g' S6 B6 h6 g6⟩
end
theorem X5b{X:Cx}{sts:Y8}:Fd X sts (λ_ _ _=>False):=λ_ _ _ _ _ _ h=>h.elim
def Kw (K:U0)(C:Y9):Sp:=λvs H Q E=>∃(v:V) (n:Nat) (b:Bool),vs=[v,.int n]/\Br K H n v b/\(b=true->Q .non H)/\(b=false->E (.ref C) none H)
def Ko (K:U0)(C:Y9):Sp:=λvs H _ E=>∃(lb lm:Y9) (bs:U3) (xs:List V) (f:Nat->A5) (c n m:Nat),vs=[.ref lb,.ref lm]/\Bd H lb bs f c n m/\c<=6/\H lm=some (.lst xs)/\(∃(bb:Nat->Bool) (i0:Nat),i0<xs.length/\bb i0=false/\∀(i:Nat) (v:V),xs[i]?=some v->Br K H c v (bb i))/\E (.ref C) none H
section
variable {P:U8}{w:W5}{K:U0}{mg:U4}{base:Heap}{k:Nat}{h:Heap}{C:Y9}{bm:U5}
theorem zJ(F:Ab K "check_look" (top 47) .none)(X:K.In h)(G:Ng h mg)(mM:mg "NoMark"=some (.ref C))(xC:ExcAt K C bm)(cK:Aj P w K mg base k "is_even_mark" ["thing","cells"] (Iw K)):Gx P w K mg base (k+1) "check_look" ["mark","cells"] (Kw K C):=by
 refine F.calX X G _ (S:=K4) λe H vs Q f a h=>?_;obtain⟨v,n,b,rfl,t,d,c⟩:=h;refine⟨_,(@Aq _ _ _ (Cd (Ec (Cr (A_ cK a rfl (Aa (pv 0) (Aa (pv 1) Ae))))) (@Aq _ _ _ (tK Fl rfl rfl mM xC (Aa jw Ae))) Ce)),?_⟩;try dsimp only[Bv]
 refine⟨_,U,_,U,v,n,b,U,t,_,U,?_⟩;cases b with
 | false=>exact Df ⟨(by decide),c rfl⟩
 | true=>exact Ay (d rfl)
theorem zL(F:Ab K "outcomes" (top 51) .none)(X:K.In h)(G:Ng h mg)(B:Bs mg)(x_check_look:Gx P w K mg base k "check_look" ["mark","cells"] (Kw K C))(cJ:Aj P w K mg base k "cells_of" ["board"] (Xv K)):Gx P w K mg base (k+1) "outcomes" ["board","marks"] (Ko K C):=by
 refine F.calX X G _ (S:=JW) λr H vs Q D q h=>?_;obtain⟨o,g,bs,xs,f,c,n,m,rfl,p,t,b,⟨u,v,s,d,all⟩,y⟩:=h
 refine⟨_,(@Ao _ _ _ _ _ (Gf PassesOwn.leaving rfl (Es (pv 1)) (Bq (i:=2) r rfl (Or.inl rfl))
   (@Aq _ _ _ (NT (X1s x_check_look (Fl.passes λ_ _ z=>z) q rfl (Aa (pv 2) (Aa (A_ cJ q rfl (Aa (pv 0) Ae)) Ae)))))) X5b),?_⟩
 try dsimp only[Bv]
 refine⟨_,U,g,U,⟨_,Ai.of b⟩,KN (K:=K) (a:=g) (xs:=xs) (λi σ H'=>H'=H/\i<=v/\∃v2,σ=[some (.ref o),some (.ref g),v2,none,none]) ⟨U,Fg _,none,U⟩ (λi σ H' _ e=>by rw[e.1];exact Ai.of b) ?_ ?_⟩
 ·rintro i x σ H1 A ⟨rfl,j,v2,rfl⟩;have tb:=all i x A;refine⟨_,U,_,U,o,_,c,U,Ai.of p.lst,by rw[BL,p.len],t,_,c,u i,U,tb,λl=>?_,λ_=>y⟩;refine⟨U,Nat.lt_of_le_of_ne j λe=>?_,_,U⟩;rw[e,d]at l;cases l
 ·rintro σ H1 ⟨_,j,_⟩;lia
end
end Av
namespace L2
theorem KR{X:Cx}{e:Y9}:CW (Xh X e) (.builtin "isinstance") (λxs H Q=>∃a C c cv b,xs=[.ref a,c]/\H a=some (Ft a (.ref C))/\PySem.W.JQ X.K C/\nW c=some cv/\PySem.W.kitOne X.K (.ref C) cv=some b/\Q (.bl b) H):=xY
end L2
namespace Av
open L2 Am Pc Ba Hw FN Ci Lq
open Lk hiding Hy
open Pt hiding Fp
theorem X3u:bootBuiltins "ValueError"=some (.type "ValueError"):=by decide +kernel
set_option genInjectivity false in
set_option genSizeOf false in
structure vX (K:U0) (mg:U4) (C D:Y9) (bm bm':U5) where
 mD:mg "BoardError"=some (.ref D)
 mV:mg "ValueError"=none
 xC:ExcAt K C bm
 xD:ExcAt K D bm'
 sub:(Value.ref C::bm).contains (.ref D)=true
 kC:PySem.W.JQ K C
 ve:PySem.W.kitOne K (.ref C) (.type "ValueError")=some true
 a_NeverSo:Addr
 mo_NeverSo:mg "NeverSo"=some (.ref a_NeverSo)
 kn_NeverSo:PySem.W.kitOne K (.ref C) (.ref a_NeverSo)=some false
 a_NoMark:Addr
 mo_NoMark:mg "NoMark"=some (.ref a_NoMark)
 kn_NoMark:PySem.W.kitOne K (.ref C) (.ref a_NoMark)=some true
 a_NoAmount:Addr
 mo_NoAmount:mg "NoAmount"=some (.ref a_NoAmount)
 kn_NoAmount:PySem.W.kitOne K (.ref C) (.ref a_NoAmount)=some false
 a_NoShare:Addr
 mo_NoShare:mg "NoShare"=some (.ref a_NoShare)
 kn_NoShare:PySem.W.kitOne K (.ref C) (.ref a_NoShare)=some false
 a_NoBoard:Addr
 mo_NoBoard:mg "NoBoard"=some (.ref a_NoBoard)
 kn_NoBoard:PySem.W.kitOne K (.ref C) (.ref a_NoBoard)=some false
 a_NoMove:Addr
 mo_NoMove:mg "NoMove"=some (.ref a_NoMove)
 kn_NoMove:PySem.W.kitOne K (.ref C) (.ref a_NoMove)=some false
 a_NoCell:Addr
 mo_NoCell:mg "NoCell"=some (.ref a_NoCell)
 kn_NoCell:PySem.W.kitOne K (.ref C) (.ref a_NoCell)=some false
 a_NoTable:Addr
 mo_NoTable:mg "NoTable"=some (.ref a_NoTable)
 kn_NoTable:PySem.W.kitOne K (.ref C) (.ref a_NoTable)=some false
 a_NoText:Addr
 mo_NoText:mg "NoText"=some (.ref a_NoText)
 kn_NoText:PySem.W.kitOne K (.ref C) (.ref a_NoText)=some false
 a_NotBorne:Addr
 mo_NotBorne:mg "NotBorne"=some (.ref a_NotBorne)
 kn_NotBorne:PySem.W.kitOne K (.ref C) (.ref a_NotBorne)=some false
 a_Unguarded:Addr
 mo_Unguarded:mg "Unguarded"=some (.ref a_Unguarded)
 kn_Unguarded:PySem.W.kitOne K (.ref C) (.ref a_Unguarded)=some false
def oJ (K:U0):Sp:=λvs H Q _=>∃(lb lm:Y9) (bs:U3) (xs:List V) (f:Nat->A5) (c n m:Nat),vs=[.ref lb,.ref lm]/\Bd H lb bs f c n m/\c<=6/\H lm=some (.lst xs)/\(∃(bb:Nat->Bool) (i0:Nat),i0<xs.length/\bb i0=false/\∀(i:Nat) (v:V),xs[i]?=some v->Br K H c v (bb i))/\∀H',Same H H'->Q (.bl true) H'
section
variable {P:U8}{w:W5}{K:U0}{mg:U4}{base:Heap}{k:Nat}{h:Heap}{C D:Y9}{bm bm':U5}
theorem Y2c(F:Ab K "_law_refused" (top 80) .none)(X:K.In h)(G:Ng h mg)(B:Bs mg)(x:vX K mg C D bm bm')(x_outcomes:Gx P w K mg base k "outcomes" ["board","marks"] (Ko K C)):Aj P w K mg base (k+1) "_law_refused" ["_law_board","_law_marks"] (oJ K):=by
 refine F.cal X G ["_law_board","_law_marks","e"] λg H vs Q E s h=>?_;obtain⟨p,t,bs,xs,f,c,n,m,rfl,r,j,d,o,l⟩:=h
 refine⟨_,(@Ao _ _ _ _ _ (X5c (E:=λcls _ H'=>cls=.ref C/\Same H H') (i:=2) ⟨U,U⟩ g rfl rfl rfl x.mD x.xC x.xD x.sub (λ_ _ z=>z.1)
   (λpins σ=>@Aq _ _ _ (NT (rA (σ0:=σ) x_outcomes s rfl (Aa (pv 0) (Aa (pv 1) Ae)))))
   (λa=>(@Ao _ _ _ _ _ (Cd (PW.pt (Eh (Cr (Bm KR rfl B.isinstance FJ (Aa (pv 2) (Aa (Li rfl x.mo_NoAmount) Ae)))) (Eh (Cr (Bm KR rfl B.isinstance FJ (Aa (pv 2) (Aa (Li rfl x.mo_NoShare) Ae)))) (Eh (Cr (Bm KR rfl B.isinstance FJ (Aa (pv 2) (Aa (Li rfl x.mo_NoBoard) Ae)))) (Gg (Cr (Bm KR rfl B.isinstance FJ (Aa (pv 2) (Aa (Li rfl x.mo_NoMove) Ae))))))))) (@Aq _ _ _ (BW Ef)) Ce)
  (@Ao _ _ _ _ _ (Cd (PW.pt (Eh (Cr (Bm KR rfl B.isinstance FJ (Aa (pv 2) (Aa (Li rfl x.mo_NoCell) Ae)))) (Eh (Cr (Bm KR rfl B.isinstance FJ (Aa (pv 2) (Aa (Li rfl x.mo_NoTable) Ae)))) (Eh (Cr (Bm KR rfl B.isinstance FJ (Aa (pv 2) (Aa (Li rfl x.mo_NoText) Ae)))) (Gg (Cr (Bm KR rfl B.isinstance FJ (Aa (pv 2) (Aa (Li rfl x.mo_NotBorne) Ae))))))))) (@Aq _ _ _ (BW Ef)) Ce)
  (@Ao _ _ _ _ _ (Cd (PW.pt (Eh (Cr (Bm KR rfl B.isinstance FJ (Aa (pv 2) (Aa (Li rfl x.mo_Unguarded) Ae)))) (Gg (Cr (Bm KR rfl B.isinstance FJ (Aa (pv 2) (Aa (Li rfl x.mo_NeverSo) Ae))))))) (@Aq _ _ _ (BW Ef)) Ce)
  (@Aq _ _ _ (BW (Lh (Bm KR rfl B.isinstance FJ (Aa (pv 2) (Aa (Li rfl x.mo_NoMark) Ae))) (KH (Bm KR rfl B.isinstance FJ (Aa (pv 2) (Aa (Je (v:=.ty "ValueError") rfl x.mV X3u rfl) Ae))))))))))))
  (@Aq _ _ _ (BW Ef))),?_⟩
 try dsimp only[Bv]
 refine⟨⟨_,U,_,U,U,p,t,bs,xs,f,c,n,m,U,r,j,d,o,U,Same.refl _⟩,?_⟩;rintro b cls u ⟨rfl,S3⟩ e;have q:=S3.trans (Aw e (Ft b (.ref C)));refine⟨_,U,b,C,_,_,false,U,Al,x.kC,U,x.kn_NoAmount,_,U,Ay ⟨_,U,b,C,_,_,false,U,Al,x.kC,U,x.kn_NoShare,_,U,Ay ⟨_,U,b,C,_,_,false,U,Al,x.kC,U,x.kn_NoBoard,_,U,Ay ⟨_,U,b,C,_,_,false,U,Al,x.kC,U,x.kn_NoMove,_,U,Ay ?_⟩⟩⟩⟩;refine⟨_,U,b,C,_,_,false,U,Al,x.kC,U,x.kn_NoCell,_,U,Ay ⟨_,U,b,C,_,_,false,U,Al,x.kC,U,x.kn_NoTable,_,U,Ay ⟨_,U,b,C,_,_,false,U,Al,x.kC,U,x.kn_NoText,_,U,Ay ⟨_,U,b,C,_,_,false,U,Al,x.kC,U,x.kn_NotBorne,_,U,Ay ?_⟩⟩⟩⟩;refine⟨_,U,b,C,_,_,false,U,Al,x.kC,U,x.kn_Unguarded,_,U,Ay ⟨_,U,b,C,_,_,false,U,Al,x.kC,U,x.kn_NeverSo,_,U,Ay ?_⟩⟩;exact⟨_,U,b,C,_,_,true,U,Al,x.kC,U,x.kn_NoMark,_,U,Df ⟨_,U,b,C,_,_,true,U,Al,x.kC,U,x.ve,l _ q⟩⟩
end
end Av
namespace Cj
open L2 Am Pc Ba FN Ci Hw Lk Lq
variable{o:Nat}{x y:A5}
theorem _V(ho:o<2)(ax:Fv x)(e:y=E_ x (4*o:Nat)):Bh (sg o) x y x:=by
 subst e;refine Bh.of (M:=x.2) ax ax.nn ax.nn (GC _) (GC _) (GC _) ?_;rw[uD,pU ho,uV,X7u ho,pq];refine Jd ?_ ?_ ?_ ?_<;>simp only[Lk.sm,Lk.add]<;>lia
theorem xT(ho:o<2)(x0:0<=x.2)(y0:0<=y.2)(e:y=E_ x (4*(1-o):Nat)):Bh (sg o) x y nought:=by
 subst e;refine Bh.of (M:=x.2) ⟨GC 0,.inl rfl⟩ x0 x0 (GC _) (GC _) x0 ?_;rw[uD,pU (by lia),uV];have a:sg o*sg (1-o)=-1:=by rcases (show o=0\/o=1 by lia) with rfl | rfl<;>decide
 rw[a,(Y1w (M:=x.2) ⟨GC 0,.inl rfl⟩).mpr rfl];refine Jd ?_ ?_ ?_ ?_<;>simp only[sm,add]<;>lia
theorem X1t:∀j,j<6->∀w,w<64->pc (w&&&2^j)=w >>> j%2:=by decide +kernel
theorem X3j{c j w:Nat}{f:Bf}(c6:c<=6)(hj:j<c)(ho:o<2)(hw:w<2^c)(a:Fv (f w)):hf (0,0,2^j) o f w=if w >>> j%2=o then f w else nought:=by
 have d:w<64:=FQ hw (CZ (Ib (by decide) c6) (by decide));have e:BP 0 0 (2^j) f w=E_ (f w) (4*(w >>> j%2):Nat):=by
  unfold BP;rw[Nat.xor_zero,X1t j (by lia) w d];congr 1;lia
 have un:∀z,Bh (sg o) (f w) (BP 0 0 (2^j) f w) z->hf (0,0,2^j) o f w=z:=λz h=>by
  have ex:∃z,Bh (sg o) (f w) (BP (0,0,2^j).1 (0,0,2^j).2.1 (0,0,2^j).2.2 f w) z:=⟨z,h⟩;unfold hf;rw[dif_pos ex];exact ex.choose_spec.unique h
 by_cases b:w >>> j%2=o
 ·rw[if_pos b];rw[b]at e;exact un _ (_V ho a e)
 ·rw[if_neg b];have b':w >>> j%2=1-o:=by lia
  rw[b']at e;exact un _ (xT ho a.nn (by rw[e];exact a.nn) e)
end Cj
namespace Cj
open L2 Am Pc Ba FN Ci Hw Lk Lq
noncomputable def kp:Nat->List Nat->Bf->Bf
 | _,[],g=>g
 | j,o::os,g=>kp (j+1) os λw=>if w >>> j%2=o then g w else nought
noncomputable def cs:Nat->Nat->List Mk
 | _,0=>[]
 | j,n+1=>(0,0,2^j)::cs (j+1) n
theorem sX{w:Nat}:∀(os:W9) (j:Nat) {g g':Bf},g w=g' w->kp j os g w=kp j os g' w
 | [],_,_,_,h=>h
 | o::os,j,g,g',h=>sX os (j+1) (by show (if _ then g w else _)=(if _ then g' w else _);rw[h])
theorem uN{w:Nat}:∀(os:W9) (j:Nat) (g:Bf),kp j os g w=g w\/kp j os g w=nought
 | [],_,_=>.inl rfl
 | o::os,j,g=>by
  rcases uN (w:=w) os (j+1) (λw=>if w >>> j%2=o then g w else nought) with h | h
  ·by_cases b:w >>> j%2=o
   ·exact .inl (h.trans (if_pos b))
   ·exact .inr (h.trans (if_neg b))
  ·exact .inr h
theorem uE{c:Nat}(c6:c<=6):∀(os:W9) (j:Nat) (g:Bf),(∀e∈os,e<2)->(∀w,w<2^c->Fv (g w))->j+os.length=c->Hd c g->(Hd c (kp j os g)->∃g',wy c (cs j os.length) os g=some g'/\∀w,w<2^c->g' w=kp j os g w)/\(¬ Hd c (kp j os g)->wy c (cs j os.length) os g=none)
 | [],j,g,_,_,_,hd=>⟨λ_=>⟨g,by show wy c [] [] g=_;unfold wy;rfl,λ_ _=>rfl⟩,λn=>absurd hd n⟩
 | o::os,j,g,hb,a,l,hd=>by
  have o2:o<2:=hb o K_;have v:j+(os.length+1)=c:=l;have h:∀w,w<2^c->hf (0,0,2^j) o g w=if w >>> j%2=o then g w else nought:=λw b=>X3j c6 (by lia) o2 b (a w b);have d:∀w,w<2^c->kp (j+1) os (hf (0,0,2^j) o g) w=kp j (o::os) g w:=λw b=>sX os (j+1) (h w b);have k:wy c (cs j (o::os).length) (o::os) g=if Hd c (hf (0,0,2^j) o g) then wy c (cs (j+1) os.length) os (hf (0,0,2^j) o g) else none:=by
   show wy c ((0,0,2^j)::cs (j+1) os.length) (o::os) g=_;conv=>lhs;unfold wy
  have f:Hd c (kp j (o::os) g)↔Hd c (kp (j+1) os (hf (0,0,2^j) o g)):=⟨λ⟨w,b,z⟩=>⟨w,b,by rw[d w b];exact z⟩,λ⟨w,b,z⟩=>⟨w,b,by rw[<-d w b];exact z⟩⟩;have m:∀w,w<2^c->Fv (hf (0,0,2^j) o g w):=λw b=>by
   rw[h w b];split
   ·exact a w b
   ·exact⟨GC 0,.inl rfl⟩
  rw[k];by_cases h1:Hd c (hf (0,0,2^j) o g)
  ·rw[if_pos h1];obtain⟨p,i⟩:=uE c6 os (j+1) _ (λe t=>hb e (Mv _ t)) m (by lia) h1;refine⟨λz=>?_,λz=>i λq=>z (f.mpr q)⟩;obtain⟨g',s,u⟩:=p (f.mp z);exact⟨g',s,λw b=>by rw[u w b,d w b]⟩
  ·rw[if_neg h1];refine⟨λz=>absurd ?_ h1,λ_=>rfl⟩;obtain⟨w,b,q⟩:=f.mp z;refine⟨w,b,λe=>q ?_⟩;rcases uN (w:=w) os (j+1) (hf (0,0,2^j) o g) with r | r
   ·rw[r,e]
   ·exact r
noncomputable def bt (j n w:Nat):List Nat:=(List.range' j n).map λi=>w >>> i%2
theorem qe{w:Nat}:∀(os:W9) (j:Nat) (g:Bf),kp j os g w=if bt j os.length w=os then g w else nought
 | [],_,_=>(if_pos rfl).symm
 | o::os,j,g=>by
  have e:bt j (o::os).length w=(w >>> j%2)::bt (j+1) os.length w:=rfl;show kp (j+1) os (λw=>if w >>> j%2=o then g w else nought) w=_;rw[qe os (j+1),e];by_cases b:w >>> j%2=o
  ·by_cases d:bt (j+1) os.length w=os
   ·exact((if_pos d).trans (if_pos b)).trans (if_pos (by rw[b,d])).symm
   ·rw[if_neg d,if_neg λz=>d (List.cons.inj z).2]
  ·rw[if_neg λz=>b (List.cons.inj z).1];by_cases d:bt (j+1) os.length w=os
   ·rw[if_pos d];exact if_neg b
   ·rw[if_neg d]
theorem vI:∀c,c<7->∀v,v<2^c->∀w,w<2^c->bt 0 c v=bt 0 c w->v=w:=by decide +kernel
theorem X0p{c w:Nat}{f:Bf}(c6:c<=6)(am:∀w,w<2^c->Fv (f w))(hw:w<2^c)(hd:Hd c f):(f w≠nought->∃g',wy c (cs 0 c) (bt 0 c w) f=some g'/\∀v,v<2^c->g' v=if v=w then f w else nought)/\(f w=nought->wy c (cs 0 c) (bt 0 c w) f=none):=by
 have d:(bt 0 c w).length=c:=by unfold bt;rw[BL,List.length_range']
 obtain⟨h1,h2⟩:=uE c6 (bt 0 c w) 0 f (λe g=>by
  unfold bt at g
  obtain⟨i,_,rfl⟩:=GF.mp g
  exact XF _ (by decide)) am (by rw[d];lia) hd
 have b:∀v,v<2^c->kp 0 (bt 0 c w) f v=if v=w then f w else nought:=λv a=>by
  rw[qe,d];by_cases e:v=w
  ·rw[if_pos e,e,if_pos rfl]
  ·rw[if_neg e,if_neg λz=>e (vI c (by lia) v a w hw z)]
 rw[d]at h1 h2;refine⟨λj=>?_,λz=>h2 ?_⟩
 ·obtain⟨g',k,h⟩:=h1 ⟨w,hw,by rw[b w hw,if_pos rfl];exact j⟩;exact⟨g',k,λv a=>by rw[h v a,b v a]⟩
 ·rintro ⟨v,a,q⟩;rw[b v a]at q;split at q
  ·exact q z
  ·exact q rfl
end Cj
namespace Cj
open L2 Am Pc Ba FN Ci Hw Lk Lq
noncomputable def Er (w:Nat)(x:A5):Bf:=λv=>if v=w then x else nought
theorem Mq{w:Nat}{x:A5}{M:Int}:∀n:Nat,(w<n->Ar (Er w x) n M=Bo x M/\Ag (Er w x) n M=BK x M)/\(n<=w->Ar (Er w x) n M=0/\Ag (Er w x) n M=0)
 | 0=>⟨λh=>absurd h (JF _),λ_=>⟨rfl,rfl⟩⟩
 | n+1=>by
  obtain⟨f,c⟩:=Mq (w:=w) (x:=x) (M:=M) n;have g:Ar (Er w x) (n+1) M=Ar (Er w x) n M+Bo (Er w x n) M:=rfl;have d:Ag (Er w x) (n+1) M=Ag (Er w x) n M+BK (Er w x n) M:=rfl;rw[g,d];unfold Er;by_cases e:n=w
  ·subst e;obtain⟨a,b⟩:=c (BX _);unfold Er at a b;rw[a,b,if_pos rfl,J5,J5];exact⟨λ_=>⟨U,U⟩,λh=>absurd h (by lia)⟩
  ·rw[if_neg e,Gn.1,Gn.2,N5,N5];exact⟨λh=>f (by lia),λh=>c (by lia)⟩
variable{w:Nat}{x:A5}
theorem uF{v:Nat}{M:Int}(h0:0<=M)(h:x.2<=M):(Er w x v).2<=M:=by
 unfold Er;split
 ·exact h
 ·exact h0
variable{n:Nat}{a b c:Int}
theorem j9(am:Fv x)(hw:w<n)(l:Low (tt x.1.1 x.1.2.1 x.1.2.2.1 x.1.2.2.2) (rr x.1.1 x.1.2.1 x.1.2.2.1 x.1.2.2.2) (p2 x.2*p2 x.2) a b c):He (Er w x) n a b c:=by
 obtain⟨f,e⟩:=(Mq (w:=w) (x:=x) (M:=x.2) n).1 hw;obtain⟨k1,k2⟩:=Ci.Low.cr l;refine He.of (M:=x.2) l.pos l.cop am.nn (λv _=>uF am.nn (GC _)) ?_;unfold Gb;have d:p2 (x.2-x.2)=1:=by rw[bT];rfl
 rw[f,e,NK,NZ,d,Qp,Qp,Qp];exact⟨k1,k2⟩
theorem X5j{a' b' c' hx hy hz x y z x' y' z':Int}(ph:Pos hx hy)(h0:0<hz)(c0:0<c)(c0':0<c')(o:Nj a b c hx hy hz x y z)(o':Nj a' b' c' hx hy hz x' y' z'):Lt a b c a' b' c'↔Lt x y z x' y' z':=by
 obtain⟨g,_,m,i⟩:=o;obtain⟨d,_,e,f⟩:=o';unfold Lt;have h:z*z'*hz*(a'*c-a*c')=c*c'*(hx*(x'*z-x*z')+2*hy*(y'*z-y*z')):=by
  have l:z*z'*hz*(a'*c-a*c')=c*z*(a'*(z'*hz))-c'*z'*(a*(z*hz)):=by grind
  rw[l,m,e];grind
 have j:z*z'*hz*(b'*c-b*c')=c*c'*(hx*(y'*z-y*z')+hy*(x'*z-x*z')):=by
  have l:z*z'*hz*(b'*c-b*c')=c*z*(b'*(z'*hz))-c'*z'*(b*(z*hz)):=by grind
  rw[l,i,f];grind
 rw[<-Pos.scale (k:=z*z'*hz) (GD (GD g d) h0),h,j,Pos.scale (GD c0 c0'),Pos.mul_iff ph]
noncomputable def le:List Nat->Nat
 | []=>0
 | b::bs=>b+2*le bs
noncomputable def bw (c:Nat):List Nat:=(ao c).map le
noncomputable def bz (c w:Nat):Int:=bv ((bt 0 c w).map λb:Nat=>(b:Int))
theorem uH:∀c,c<7->(bw c).map (bt 0 c)=ao c/\(∀w∈bw c,w<2^c)/\(∀w,w<2^c->w∈bw c)/\(bw c).Pairwise (λv w=>bz c v<bz c w):=by decide +kernel
theorem YJ:∀n j,(cs j n).length=n
 | 0,_=>rfl
 | n+1,j=>congrArg (·+1) (YJ n (j+1))
open Classical in
noncomputable def hws (c:Nat) (f:Bf):List Nat:=(bw c).filter λw=>decide (f w≠nought)
def Wd (c:Nat)(f:Bf)(w:Nat)(x:Wy):Prop:=w<2^c/\f w≠nought/\x.1=bt 0 c w/\∀v,v<2^c->x.2 v=Er w (f w) v
variable{f:Bf}
theorem zu{c:Nat}(c6:c<=6)(am:∀w,w<2^c->Fv (f w))(hd:Hd c f):Paired (Wd c f) (hws c f) (ws c f (cs 0 c)):=by
 obtain⟨h,d,_,_⟩:=uH c (by lia);rw[YD c f c _ (YJ c 0),<-h];unfold hws;generalize bw c=l at d;induction l with
 | nil=>exact .nil
 | cons w l a =>
  have a:=a λv i=>d v (.tail _ i);have e:=d w (.head _);obtain⟨h1,h2⟩:=X0p c6 am e hd;rw[Jh];by_cases z:f w=nought
  ·rw[Wv (by simpa using z),mZ (by unfold go;rw[h2 z];rfl)];exact a
  ·obtain⟨g',j,g⟩:=h1 z;rw[Ui (by simpa using z),aG (b:=(bt 0 c w,g')) (by unfold go;rw[j];rfl)];exact .cons ⟨e,z,U,g⟩ a
theorem oh{α:Type}(z:α->Int):∀{l m:List α},l.Pairwise (λa b=>z a<z b)->m.Pairwise (λa b=>z a<z b)->(∀a,a∈l↔a∈m)->l=m
 | [],[],_,_,_=>rfl
 | [],b::m,_,_,h=>nomatch (h b).mpr (.head _)
 | a::l,[],_,_,h=>nomatch (h a).mp (.head _)
 | a::l,b::m,hl,hm,h=>by
  obtain⟨l1,l2⟩:=Q7.mp hl;obtain⟨f,g⟩:=Q7.mp hm;have e:a=b:=by
   rcases Cw.mp ((h a).mp (.head _)) with e | e
   ·exact e
   ·rcases Cw.mp ((h b).mpr (.head _)) with e' | e'
    ·exact e'.symm
    ·have:=f a e;have:=l1 b e';lia
  subst e;rw[oh z l2 g λc=>⟨λd=>?_,λd=>?_⟩]
  ·rcases Cw.mp ((h c).mp (.tail _ d)) with e | e
   ·subst e;have:=l1 c d;lia
   ·exact e
  ·rcases Cw.mp ((h c).mpr (.tail _ d)) with e | e
   ·subst e;have:=f c d;lia
   ·exact e
open Classical in
noncomputable def hls (f:Bf) (n:Nat):List Nat:=(List.range n).filter λw=>decide (f w≠nought)
theorem uJ(h:f n≠nought):hls f (n+1)=hls f n++[n]:=by unfold hls;rw[N_,Q6];simp[h]
theorem vP(h:f n=nought):hls f (n+1)=hls f n:=by unfold hls;rw[N_,Q6];simp[h]
theorem Eo:w∈hls f n↔w<n/\f w≠nought:=by unfold hls;simp
theorem yP:(hls f n).Nodup:=List.Nodup.sublist List.filter_sublist Wg
theorem X7c(hn:n<=64)(hw:w<64)(h:w<n->f w=nought):(hls f n).length<64:=by
 by_cases l:w<n
 ·have p:(hls f n).length<(List.range n).length:=by
   unfold hls;rw[List.length_filter_lt_length_iff_exists];exact⟨w,Em.mpr l,by simp[h l]⟩
  rw[Oa]at p;lia
 ·have:(hls f n).length<=(List.range n).length:=Uh ..;rw[Oa]at this;lia
theorem X3i{c:Nat}{p:W9}(c6:c<=6)(pm:p.Perm (List.range (hls f (2^c)).length))(so:p.Pairwise λi j=>bz c ((hls f (2^c)).getD i 0)<bz c ((hls f (2^c)).getD j 0)):p.map (λi=>(hls f (2^c)).getD i 0)=hws c f:=by
 obtain⟨_,b,a,d⟩:=uH c (by lia);refine oh (bz c) (Za.mpr so) (List.Pairwise.sublist List.filter_sublist d) λw=>?_;have e:w∈hws c f↔w<2^c/\f w≠nought:=by
  unfold hws;rw[gq];exact⟨λh=>⟨b w h.1,by simpa using h.2⟩,λh=>⟨a w h.1,by simpa using h.2⟩⟩
 rw[e,<-Eo,GF];constructor
 ·rintro ⟨i,hi,rfl⟩;have hi:=Em.mp (pm.mem_iff.mp hi);rw[FW,Cv hi];exact K7 hi
 ·intro h;obtain⟨i,hi,e⟩:=Zq.mp h;exact⟨i,pm.mem_iff.mpr (Em.mpr hi),by rw[FW,Cv hi];exact e⟩
end Cj
namespace L2
def Bu (K:U0)(H:Hp)(v:V)(d:PyData):Prop:=∀(X:Cx) (pins:U1) (σ:St) (s:U7) (u:W8),X.K=K->Inv X pins σ H s->RelV v u->∃as,Reads s.heap u d as
theorem jY{K:U0}{H:Hp}{X:Cx}{pins:U1}{σ:St}{s:U7}(e:X.K=K)(I:Inv X pins σ H s):∀{xs:List V}{ds:List PyData}{us:U5},Paired (Bu K H) xs ds->Vals xs us->∃a,ReadsAll s.heap us ds a
 | [],[],us,.nil,r=>by cases r;exact⟨[],.nil⟩
 | _::_,_::_,us,.cons f t,r=>by
  cases r with
  | cons ru rr =>
   obtain⟨a,h1⟩:=f X pins σ s _ e I ru;obtain⟨bs,h2⟩:=jY e I t rr;exact⟨_,.cons h1 h2⟩
theorem Bu.int{K:U0}{H:Hp}(i:Int):Bu K H (.int i) (.int i):=λ_ _ _ _ _ _ _ r=>by
 obtain⟨t,rfl⟩:=r;exact⟨_,.int i t⟩
theorem Bu.ints{K:U0}{H:Hp}:∀xs:List Int,Paired (Bu K H) (xs.map V.int) (xs.map PyData.int)
 | []=>.nil
 | x::xs=>.cons (.int x) (Bu.ints xs)
theorem Bu.tup{K:U0}{H:Hp}{p:Y9}{xs:List V}{ds:List PyData}(e:Ah K H p xs)(all:Paired (Bu K H) xs ds):Bu K H (.ref p) (.tuple ds):=by
 intro X pins σ s u a I r;subst a;cases r;obtain⟨its,d,⟨o,c,f,n,b⟩,_⟩:=I.tuple e;obtain⟨g,h⟩:=jY rfl I all d;exact⟨_,Reads.tuple c f b (by simpa using h)⟩
theorem Bu.lst{K:U0}{H:Hp}{p:Y9}{xs:List V}{ds:List PyData}(e:H p=some (.lst xs))(all:Paired (Bu K H) xs ds):Bu K H (.ref p) (.list ds):=by
 intro X pins σ s u g I r;subst g;cases r;obtain⟨its,f,a,_⟩:=I.list (Ai.of e);obtain⟨o,d,b,n,c⟩:=a.isList;obtain⟨i,h⟩:=jY rfl I all f;exact⟨_,Reads.list d b c (by simpa using h)⟩
inductive Ga:Nat->PyData->Prop where
 | int {n:Nat} (i:Int):Ga n (.int i)
 | tup {n:Nat}{ds:List PyData} (h:∀d∈ds,Ga n d):Ga (n+1) (.tuple ds)
 | lst {n:Nat}{ds:List PyData} (h:∀d∈ds,Ga n d):Ga (n+1) (.list ds)
def QC (n:Nat)(d:PyData):Prop:=PyData.canLay0 d=true/\PyData.depth d<=n/\SeqAt.noMix d d=true/\PySem.Spec.same d d=true
theorem finds{n:Nat}:∀{ds:List PyData},(∀d∈ds,QC n d)->PyData.canLayAll0 ds=true/\PyData.depthAll ds<=n/\SeqAt.noMixAll ds ds=true/\PySem.Spec.sameAll ds ds=true
 | [],_=>by simp[PyData.canLayAll0,PyData.depthAll,SeqAt.noMixAll,PySem.Spec.sameAll]
 | d::ds,h=>by
  obtain⟨i,l,c,b⟩:=h d (.head _);obtain⟨g,k,f,j⟩:=finds λe a=>h e (.tail _ a);refine⟨by simp[PyData.canLayAll0,i,g],?_,by simp[SeqAt.noMixAll,c,f],by simp[PySem.Spec.sameAll,b,j]⟩;simp only[PyData.depthAll];lia
theorem Ga.fin:∀{n:Nat}{d:PyData},Ga n d->QC n d:=by
 intro n d h;induction h with
 | int i=>simp[QC,PyData.canLay0,PyData.depth,SeqAt.noMix,PySem.Spec.same]
 | tup h ih =>
  obtain⟨b,e,a,c⟩:=finds ih;exact⟨by simpa [PyData.canLay0] using b,by simp only[PyData.depth];lia,by simpa [SeqAt.noMix] using a,by simpa [PySem.Spec.same] using c⟩
 | lst h ih =>
  obtain⟨b,e,a,c⟩:=finds ih;exact⟨by simpa [PyData.canLay0] using b,by simp only[PyData.depth];lia,by simpa [SeqAt.noMix] using a,by simpa [PySem.Spec.same] using c⟩
def Ss (K:U0)(neg:Bool):R2:=λx y H Q=>∃d:PyData,Bu K H x d/\Bu K H y d/\Ga 64 d/\Q (.bl (!neg)) H
theorem Y4g{X:Cx}(hu:X.A.units+64<cLine):DP X (compareOp .NotEq) (Ss X.K true):=by
 intro pins s σ H x y v u Q I j e h;obtain⟨d,h1,h2,c,q⟩:=h;obtain⟨l,g⟩:=h1 X pins σ s _ rfl I j;obtain⟨bs,k⟩:=h2 X pins σ s _ rfl I e;obtain⟨b,i,f,a⟩:=c.fin;have sh:SeqAt.shaped d=true:=by
  show (PyData.canLay0 _ && decide _)=true;rw[L_];exact⟨b,DK i⟩
 refine gY g k sh sh hu f ⟨.bl false,H,I,?_,q⟩;show _=_;simp only[a];rfl
end L2
set_option maxHeartbeats 4000000
namespace L2
theorem jP:∀{xs:List V}{us:U5},Vals xs us->∀p∈xs.zip us,RelV p.1 p.2
 | _,_,.nil,_,h=>nomatch h
 | _,_,.cons r rs,p,h=>by
  rw[List.zip_cons_cons]at h;rcases Cw.mp h with rfl | h
  ·exact r
  ·exact jP rs p h
noncomputable def Cx.low (X:Cx):Cx:={X with A:=X.A.in1.in1,xe:=Calm}
theorem Cx.Ok.low{X:Cx}(o:X.Ok):X.low.Ok:=⟨o.1,o.2,o.3,o.4,o.5,o.6,o.7,o.8,o.9,o.10,o.11,o.12,o.13,o.14,o.15,o.16,o.17,o.18⟩
section
variable {X:Cx}{pins:U1}{σ:St}{H:Hp}{s:U7}
theorem Inv.low(I:Inv X pins σ H s):Inv X.low pins σ H s:=⟨I.ok.low,I.2,I.3,I.4,I.5,I.6,I.7,I.8,I.9,I.10,I.11⟩
theorem Inv.high(I:Inv X.low pins σ H s)(o:X.Ok):Inv X pins σ H s:=⟨o,I.2,I.3,I.4,I.5,I.6,I.7,I.8,I.9,I.10,I.11⟩
theorem Inv.track{D:Y9}{ys:List V}{us:U5}{n:Nat}(I:Inv X pins σ H s)(f:DG X pins H D)(hz:ys.length<=sizeLine)(r:Vals ys us)(e:s.heap.get? D=some (seqObj "list" us.toArray n)):
  Inv X pins σ (upd H D (.lst ys)) s:=by
 have a:∀b u,H b=some u->b≠D:=λb u q z=>by rw[z,f.1]at q;cases q
 refine I.step (h':=s.heap) (g':=s.gens) (d':=s.drawn) (t':=s.toks) (ch:=[D]) (λb d=>?_) (λb o _ _ _ q _=>q) (λb o _ _ _ q _=>⟨o.slots,q⟩) (λb o h _ q=>?_) (λb o _ q=>⟨o,q⟩)
  (λb xs q=>?_) (λb o u q=>?_) (λb ps q=>⟨#[],?_⟩) (λm g=>g) (λb u q=>?_) I.bare
 ·cases GK.mp d;exact⟨f.2.2.2.1,f.2.1,f.2.2.2.2.1,f.2.2.2.2.2⟩
 ·rw[Bw λz=>h (GK.mpr z)];exact q
 ·rw[Bw (a _ _ q)];exact q
 ·rw[Bw (a _ _ q)];exact q
 ·rw[Bw (a _ _ q),q];simp
 ·by_cases d:b=D
  ·subst d;rw[Al]at q;cases q;exact⟨hz,us,n,r,e⟩
  ·rw[Bw d]at q;exact(I.hok b u q).stay (λ_ _ _ q=>q) (λc q=>by rw[Bw (a _ _ q)];exact q) λc xs q=>by rw[Bw (a _ _ q)];exact q
end
end L2
namespace L2
open PySem.W
theorem rZ{xs:List V}{us:U5}(r:Vals xs us):∀{p:W9},(∀i∈p,i<us.length)->Vals (p.map λi=>xs.getD i .non) (p.map λi=>us.getD i Value.none)
 | [],_=>.nil
 | i::p,h=>by
  have hi:=h i (.head _);have a:i<xs.length:=by rw[r.length];exact hi
  refine .cons ?_ (rZ r λj b=>h j (.tail _ b));show RelV (xs.getD i V.non) (us.getD i Value.none);rw[FW,Cv a,FW,Cv hi];exact jP r (xs[i],us[i]) (nO.mpr ⟨i,by rw[mj];exact⟨Cv a,Cv hi⟩⟩)
theorem X1a{prog:U8}{w:W5}{A:Y6}{E:U2}{s:U7}{D kS:Y9}{us keys:U5}{z:Nat->Int}{e e1:Nat}{P:PySem.Fin->Shared->Prop}
  (nk:s.heap.get? kS=some (seqObj "list" keys.toArray e)) (nd:s.heap.get? D=some (seqObj "list" #[] e1)) (hkd:kS≠D) (hl:keys.length=us.length) (h64:us.length<64)
  (T:2<=us.length->∃(fs:U5) (T:W8),KatTups s.heap keys fs/\fs.length=us.length/\(∀v∈fs,Looks (model prog w) s.heap (typeOf v) T)/\(T == T)=true/\Sr.KY (RJ prog w A (tuples' (T != Value.type "tuple")) keys) z us.length s) (d:Sr.Jv z us.length)
  (h:∀(h1 h2:Heap) (p:Array Nat) (c:Nat),(∀b,b≠kS->h1.get? b=s.heap.get? b)->(∀b,b≠D->h2.get? b=h1.get? b)->h2.get? D=some (seqObj "list" (List.toArray (p.toList.map λi=>us.getD i Value.none)) c)->Sr.Pm p us.length->Sr.Up z p us.length->P (.done (.ret .none)) {s with heap:=h2}):
  wpAny (model prog w) A (ksk_end D false us.toArray e1 (.ref kS) keys.toArray) P E s:=by
 have u:(64:Nat)<=sizeLine:=by decide
 have tail:∀(st:SortSt) (p:Array Nat),(arrOf st).map (·.2)=List.toArray (p.toList.map λi=>us.getD i Value.none)->Sr.Pm p us.length->Sr.Up z p us.length->failedOf st=none->wpAny (model prog w) A (ksk_tail D false e1 (.ref kS) st) P E s:=by
  intro st p m l n hf;have I:((arrOf st).map (·.2)).size=us.length:=by rw[m,DQ,BL,Dz,l.size]
  obtain⟨_,q⟩:=Heap.SameBut.update s.heap kS (Obj.mapSeq λ_=>(#[]:U9));have g:=(q D hkd.symm).trans nd;obtain⟨_,r⟩:=Heap.SameBut.update (s.heap.update kS (Obj.mapSeq λ_=>(#[]:U9))) D (Obj.mapSeq λ_=>(arrOf st).map (·.2));have k:=Tq g λ_=>(arrOf st).map (·.2);unfold ksk_tail;simp only[K9,JZ];refine Az (N7 nk rfl ?_ (by rw[DQ];lia) (Fg _));refine Az (wpAny_letGo (Az (TJ g rfl ?_)));refine Az (N7 g rfl ?_ (Fg _) (by lia));rw[hf];simp only[Ze,K9,JZ];rw[m]at k;rw[m]at r;rw[m];exact CP (h _ _ p _ q r k l n)
 unfold ksk_end;dsimp only;rw[if_neg Dw];by_cases h2:us.toArray.size<2
 ·rw[if_pos h2,if_pos h2];refine Az (CP ?_);rw[StateT.run_pure];refine Az (CP (tail _ _ ?_ (Sr.jK us.length) (λi j H F=>by rw[DQ]at h2;lia) rfl));apply ZK.mp;show ((keys.toArray.zip us.toArray).map (·.2)).toList=_;simp only[Array.toList_map,Array.toList_zip];apply Tv
  ·simp[hl]
  ·intro i a b;have:i<us.length:=by simpa using b
   simp[this]
 ·rw[if_neg h2,if_neg h2];rw[DQ]at h2;obtain⟨fs,y,k1,k2,k3,B,or⟩:=T (by lia);refine Az (kat_kind k1 (by lia) (T:=y) k3 B ?_)
  refine Az (Ek (kat_run (Q:=λf s'=>∃p:Array Nat,arrOf f=p.map (Jy (keys.toArray.zip us.toArray))/\failedOf f=none/\s'=s/\Sr.Pm p us.length/\Sr.Up z p us.length)
   (G:=λp s'=>s'=s/\Sr.Pm p us.length/\Sr.Up z p us.length) hl (by lia) h64 (λp f s' _ C x t=>⟨p,C,x,t⟩) (Sr.sort or d (by lia) λp g1 g2=>⟨U,g1,g2⟩)) ?_ λ_ _ e=>e)
  rintro ⟨⟨⟩,f⟩ s' ⟨p,o,hf,rfl,l,n⟩;exact tail f p (kat_snds hl o) l n hf
theorem xr{X:Cx}{k:Nat}{f:Y9}{fd:FuncData}{p0:Str}{sp:Sp}(F:Dh X.prog X.w X.K X.mg X.base Lw k f fd [p0] sp)(hb:Binds X.K fd [p0] [])(hr:CK (k+2) X.A)
  {pins:U1}{s:U7}{σ:St}{H:Hp}{l:Y9}{xs:List V}{as:U3}{ks:List (List Int)}{N:Nat}{Q:VK} (I:Inv X pins σ H s) (hl:H l=some (.lst xs)) (hkz:as.length=xs.length) (prs:Paired (λp (k:U6)=>Ah X.K H p (k.map V.int)) as ks) (ndk:ks.Nodup) (hB:∀k∈ks,Jw N k) (h64:xs.length<64)
  (turn:∀(i:Nat) x a,xs[i]?=some x->as[i]?=some a->sp [x] H (λv H'=>v=.ref a/\H'=H) E0)
  (q:∀(D:Y9) (p:W9),H D=none->p.Perm (List.range xs.length)->p.Pairwise (λi j=>bv (ks.getD i [])<bv (ks.getD j []))->Q (.ref D) (upd H D (.lst (p.map λi=>xs.getD i .non)))):
  wpAny (model X.prog X.w) X.A (call (.builtin "sorted") [.ref l] [(Str.ofString "key",.ref f)]) (EP X pins σ Q) X.xe s:=by
 obtain⟨_,its,n,rv,el,ho⟩:=I.lstM hl;have Z:its.length<64:=by lia
 have a7:(64:Nat)<=sizeLine:=by decide
 have R:as.length=its.length:=hkz.trans el;have a8:as.length=ks.length:=Paired.length prs;refine call_function_entry_kw kind_sorted plain_sorted entry_sorted (ksk_s1 _ _) ?_;unfold Builtin.«sorted»;refine Az (m:=checkCount "sorted" 1 1 _) (CP ?_);refine Az (collect_list (vs:=its) ⟨_,ho,U,n,U⟩ ?_ (by lia));have k0:∀b o,s.heap.get? b=some o->((s.heap.push (seqObj "list" #[] 0)).update s.heap.objs.size (Obj.mapSeq (·++its.toArray))).get? b=some o:=λb o x=>by
  rw[Q9 _ _ _ _ (Dc (Bp x))];exact DR _ x
 have M:s.heap.objs.size<=((s.heap.push (seqObj "list" #[] 0)).update s.heap.objs.size (Obj.mapSeq (·++its.toArray))).objs.size:=by
  rw[ZL,XH];exact Nat.le_succ _
 revert k0 M;generalize (s.heap.push (seqObj "list" #[] 0)).update s.heap.objs.size (Obj.mapSeq (·++its.toArray))=g;intro k0 M;refine Az (Te ?_ (by lia));have P:(g.push (seqObj "list" its.toArray 0)).get? g.objs.size=some (seqObj "list" its.toArray 0):=FT _ rfl;have k1:∀b o,s.heap.get? b=some o->(g.push (seqObj "list" its.toArray 0)).get? b=some o:=λb o x=>DR _ (k0 b o x);have z1:(g.push (seqObj "list" its.toArray 0)).objs.size=g.objs.size+1:=XH ..;revert M P k1 z1;generalize g.push (seqObj "list" its.toArray 0)=g1;generalize g.objs.size=D;intro M P k1 z1;refine Az (K5 (wpAny_call_entry_kw slot_list_sort ⟨_,P,U⟩ entry_list_sort ?_ (ksk_l1 _ _)));show wpAny (model X.prog X.w) X.low.A (Builtin.«list.sort» ⟨[.ref D],[(Str.ofString "key",.ref f)]⟩) _ _ _;rw[ksk_t1];unfold ksk_tree;refine Az (TX P rfl ?_);refine Az (N7 P rfl ?_ (by rw[DQ];lia) (Fg _));obtain⟨L,E⟩:∃L,(g1.update D (Obj.mapSeq λ_=>(#[]:U9))).get? D=some (seqObj "list" #[] L):=⟨_,Tq P λ_=>#[]⟩;have k2:∀b o,s.heap.get? b=some o->(g1.update D (Obj.mapSeq λ_=>(#[]:U9))).get? b=some o:=λb o x=>by
  rw[Q9 _ _ _ _ (Dc (FQ (Bp x) M))];exact k1 b o x
 have z2:D<(g1.update D (Obj.mapSeq λ_=>(#[]:U9))).objs.size:=by rw[ZL,z1];exact T_ _
 revert E k2 z2;show _->_->_->wpAny _ _ _ _ _ {s with heap:=g1.update D (Obj.mapSeq λ_=>(#[]:U9))};generalize g1.update D (Obj.mapSeq λ_=>(#[]:U9))=g2;intro E k2 z2;refine Az (TJ E rfl ?_);refine Az (wpAny_newTuple ?_ (by show its.length<=_;lia));have k3:∀b o,g2.get? b=some o->(g2.push (seqObj "tuple" its.toArray 0)).get? b=some o:=λb o x=>DR _ x;have z3:(g2.push (seqObj "tuple" its.toArray 0)).objs.size=g2.objs.size+1:=XH ..;revert k3 z3;show _->_->wpAny _ _ _ _ _ {s with heap:=g2.push (seqObj "tuple" its.toArray 0)};generalize g2.push (seqObj "tuple" its.toArray 0)=g3;intro k3 z3;refine Az (Te ?_ (Fg _));have oK:(g3.push (seqObj "list" (#[]:U9) 0)).get? g3.objs.size=some (seqObj "list" #[] 0):=FT _ rfl;have k4:∀b o,g3.get? b=some o->(g3.push (seqObj "list" (#[]:U9) 0)).get? b=some o:=λb o x=>DR _ x;have zK:D<g3.objs.size:=by lia
 revert oK k4 zK;show _->_->_->wpAny _ _ _ _ _ {s with heap:=g3.push (seqObj "list" (#[]:U9) 0)};generalize g3.push (seqObj "list" (#[]:U9) 0)=g4;generalize g3.objs.size=kS;intro oK k4 zK;have hn:∀b,s.heap.objs.size<=b->H b=none:=λb x=>I.hok.fresh x;have G:DG X.low pins H D:=I.fpOk M (hn D M);have B:DG X.low pins H kS:=I.fpOk (by lia) (hn kS (by lia));have W:kS≠D:=N6 zK;have O:∀{s':U7}{r:U9}{e:Nat},Inv X.low pins σ H s'->s'.heap.get? kS=some (seqObj "list" r e)->s'.heap.get? D=some (seqObj "list" #[] L) ->
   Inv X.low (pins++[(kS,seqObj "list" r e),(D,seqObj "list" #[] L)]) σ H s':=λ{s' r e} J a b=>J.pins_of λp hp=>by
  rcases Ho.mp hp with hp | hp
  ·exact J.pin p (GR _ hp)
  ·rcases Cw.mp hp with rfl | hp
   ·exact⟨a,B.1,B.2.1,B.2.2.1,λv z=>by cases z⟩
   ·cases GK.mp hp;exact⟨b,G.1,G.2.1,G.2.2.1,λv z=>by cases z⟩
 have a0:∀{s':U7}{r:U9}{e:Nat},Inv X.low (pins++[(kS,seqObj "list" r e),(D,seqObj "list" #[] L)]) σ H s'->s'.heap.get? kS=some (seqObj "list" r e)/\s'.heap.get? D=some (seqObj "list" #[] L):=λJ =>
  ⟨(J.pin (kS,_) (GR _ (GR _ (.head _)))).1,(J.pin (D,_) (GR _ (GR _ (.tail _ (.head _))))).1⟩
 have I4:Inv X.low pins σ H {s with heap:=g4}:=I.low.kept (t':=s.toks) λb o x=>k4 b o (k3 b o (k2 b o x));have a5:CK k X.low.A:=hr.in1.in1;refine K5 ?_;unfold ksk_rest;refine Az (Mr ?_);rw[List.forIn_toArray]
 refine Az (ksk_fold (λi s'=>∃r e,Inv X.low (pins++[(kS,seqObj "list" r e),(D,seqObj "list" #[] L)]) σ H s'/\r.toList=(as.take i).map Value.ref) its 0 _
  ⟨#[],0,O I4 oK (k4 _ _ (k3 _ _ E)),by simp⟩ (λj u s' T J=>?_) λs' J=>?_)
 ·obtain⟨r,e,J,C⟩:=J;rw[Hj]at C ⊢;have hj:j<its.length:=(DW.mp T).1;obtain⟨z,hz⟩:∃z,as[j]?=some z:=⟨_,Cv (by lia)⟩;obtain⟨x,hx⟩:∃x,xs[j]?=some x:=⟨_,Cv (by lia)⟩;have rx:RelV x u:=jP rv (x,u) (nO.mpr ⟨j,by rw[mj];exact⟨hx,T⟩⟩);have hA:r.size<=its.length:=by
   rw[<-Dz,C,BL,JG];lia
  refine Az (Tc (Ek (pW (X:=X.low) (us:=[u]) (vs:=[x]) (ds:=[]) (dvs:=[]) F a5 hb .nil Oi J (.cons rx .nil) (turn j x z hx hz)) (λv s2 c=>?_) λ_ _ c=>c.elim));obtain⟨y,H2,J2,ry,rfl,rfl⟩:=c;cases ry;obtain⟨Y,a2⟩:=a0 J2;dsimp only;refine Az (N7 Y rfl ?_ (by lia) (by rw[Array.size_push];lia));have J3:=J2.unpinned.turned (t':=s2.toks) (h':=s2.heap.update kS (Obj.mapSeq (·.push (.ref z)))) (it:=kS) (λb o h x=>by rw[Q9 _ _ _ _ h];exact x) B.1 B.2.1 B.2.2.2.1 B.2.2.2.2.1 B.2.2.2.2.2;refine CP ⟨U,r.push (.ref z),_,O J3 (Tq Y _) ((Q9 _ _ _ _ W.symm).trans a2),?_⟩;rw[Jk,hz,UL,C,Dj];rfl
 ·obtain⟨r,e,J,C⟩:=J;rw[Hj,<-R,OJ]at C;obtain⟨Y,a2⟩:=a0 J;refine Az (TX Y rfl ?_);obtain⟨d,rfl⟩:∃d:List Value,r=d.toArray:=⟨r.toList,(Array.toArray_toList).symm⟩;have C:d=as.map Value.ref:=C;have lk:d.length=its.length:=by rw[C,BL,R]
  have TW:Gv s'.heap d ks:=λj u T=>by
   rw[C,Cp]at T;obtain⟨b,hb,rfl⟩:=Dm.mp T;obtain⟨k,k1,k2⟩:=Ht prs hb;obtain⟨o,a3,m,o1,o2,o3,o4⟩:=Xw (X:=X.low) J k2;exact⟨b,o,a3,m,k,U,k1,o1,o2,o3,o4⟩
  have pos:2<=its.length->∀k∈ks,1<=k.length:=λl2 k hm=>by
   refine Nat.pos_of_ne_zero λz=>?_;have n0:N=0:=by rw[<-(hB k hm).1,z]
   have L:ks[0]'(by lia)=[]:=Uj.mp (by rw[(hB _ (K7 _)).1,n0]);have e2:ks[1]'(by lia)=[]:=Uj.mp (by rw[(hB _ (K7 _)).1,n0]);exact Jm.mp ndk 0 1 (by lia) (by lia) (by decide) (by rw[L,e2])
  refine X1a (z:=λj=>bv (ks.getD j [])) Y a2 W lk Z (λl2=>?_) (vN ndk hB (by lia)) λh1 h2 S c q1 q2 a4 p1 p2=>⟨_,U,CP ⟨_,U,?_⟩⟩
  ·obtain⟨fs,k1,k2,k3⟩:=TW.firsts (pos l2);have or:=Gv.ask (prog:=X.prog) (w:=X.w) (A:=X.low.A) (b:=Value.type "int" != Value.type "tuple") TW hB;rw[lk]at or k2;exact⟨fs,.type "int",k1,k2,(λv hv=>by obtain⟨i,t,rfl⟩:=k3 v hv;exact .now),by decide,or⟩
  have J1:=J.unpinned.turned (t':=s'.toks) (h':=h1) (it:=kS) (λb o h x=>by rw[q1 b h];exact x) B.1 B.2.1 B.2.2.2.1 B.2.2.2.2.1 B.2.2.2.2.2;have J2:=J1.turned (t':=s'.toks) (h':=h2) (it:=D) (λb o h x=>by rw[q2 b h];exact x) G.1 G.2.1 G.2.2.2.1 G.2.2.2.2.1 G.2.2.2.2.2;have pv:Vals (S.toList.map λi=>xs.getD i .non) (S.toList.map λi=>its.getD i Value.none):=rZ rv λi hi=>by
   have:=Em.mp (p1.perm.mem_iff.mp hi);lia
  have a6:(S.toList.map λi=>xs.getD i .non).length<=sizeLine:=by
   rw[BL,Dz,p1.size];lia
  have J4:=J2.track G a6 pv (n:=c) a4;refine⟨.ref D,_,J4.high I.ok,U,q D S.toList (hn D M) (by rw[el];exact p1.perm) ?_⟩;refine Jm.mpr λi j hi hj ij=>?_;have hs:S.size=its.length:=p1.size;have up:=p2 i j ij (by rw[Dz]at hj;lia);unfold Sr.kz at up;rw[Sr.QZ (by rw[Dz]at hi;exact hi),Sr.QZ (by rw[Dz]at hj;exact hj)]at up;rw[GQ,GQ];exact up
def Lp (K:U0)(sp:Sp)(Q:VK)(v:V)(H1:Hp):Prop:=∃(l:Y9) (xs:List V) (as:U3) (ks:List (List Int)) (N:Nat),v=.ref l/\H1 l=some (.lst xs)/\as.length=xs.length/\xs.length<64/\Paired (λp (k:U6)=>Ah K H1 p (k.map V.int)) as ks/\ks.Nodup/\(∀k∈ks,Jw N k) /\
 (∀(i:Nat) x a,xs[i]?=some x->as[i]?=some a->sp [x] H1 (λv H'=>v=.ref a/\H'=H1) E0) /\
 ∀(D:Y9) (p:W9),H1 D=none->p.Perm (List.range xs.length)->p.Pairwise (λi j=>bv (ks.getD i [])<bv (ks.getD j []))->Q (.ref D) (upd H1 D (.lst (p.map λi=>xs.getD i .non)))
def X0w (K:U0)(sp:Sp)(te:TE):TE:=λσ H Q=>te σ H λv H1=>Lp K sp Q v H1
theorem Y3z{X:Cx}{k:Nat}{y p0:Str}{sp:Sp}{e:Expr}{te:TE}{p p2 kp pos:Pos}(c:Aj X.prog X.w X.K X.mg X.base k y [p0] sp)(hr:CK (k+2) X.A)(hg:Gl X "sorted")(hm:X.mg "sorted"=none)(hgy:Gl X y)(he:PE X e te)
  (hdy:(y == ("__debug__":Str))=false:=by decide) (hs:starEach [e] X.env=(false,eval e X.env)::starEach [] X.env:=by rfl):
  PE X (.Call (.Name "sorted" p) [e] [⟨some "key",.Name y p2,kp⟩] pos) (X0w X.K sp te):=by
 intro pins s σ H Q I h;obtain⟨f,fd,F,b,B,m⟩:=c.ex;refine Ud (Oz I hg hm boot_sorted ?_ (by decide) (by decide));refine callWith_kw (Bl (Aa he Ae hs pos pins s σ H (λvs H1=>match vs with | [v]=>Lp X.K sp Q v H1 | _=>False) I h) λus n ⟨vs,H1,x,r,a⟩=>?_) (by rw[hs];rfl) (by rw[hs];rfl) rfl rfl;refine Bl (X1p (iZ (v:=.ref f) hgy m rfl hdy) X5e pos pins n σ H1 (λzs H2=>zs=[.ref f]/\H2=H1) x ⟨U,U⟩) λws L ⟨zs,H2,D,d,J,z⟩=>?_;subst J z;obtain⟨u,rfl,j⟩:=vals1 d;cases j;match vs,r,a with
 | [v],r,a =>
  obtain⟨u,rfl,C⟩:=vals1 r;obtain⟨l,xs,M,ks,N,rfl,g,o,G,E,p2,i,t,q⟩:=a;cases C;exact xr F b hr D g o E p2 i G t q
end L2
set_option maxHeartbeats 1000000
namespace Av
open L2 Am Pc Ba Hw FN Ci Lq
open Lk hiding Hy
open Pt hiding Fp
open Cj (Mk Bf Wy Hd ws YD bt cs Er hls hws bz Wd)
theorem Qe{α β:Type}{R:α->β->Prop}:∀{l:List α}{m:List β},l.length=m.length->(∀(i:Nat) a b,l[i]?=some a->m[i]?=some b->R a b)->Paired R l m
 | [],[],_,_=>.nil
 | [],_::_,h,_=>nomatch h
 | _::_,[],h,_=>nomatch h
 | a::l,b::m,h,r=>.cons (r 0 a b rfl rfl) (Qe (Nat.succ.inj h) λi x y c d=>r (i+1) x y c d)
noncomputable abbrev oI (o:W9):List Int:=o.map λi:Nat=>(i:Int)
noncomputable abbrev dB (c:Nat)(g:Bf):PyData:=.list ((List.range (2^c)).map λi=>.tuple ((l5 (g i)).map PyData.int))
noncomputable def dO (c:Nat)(o:W9)(s:I3)(g:Bf):PyData:=.tuple [.tuple ((oI o).map PyData.int),.tuple ([s.1,s.2.1,s.2.2].map PyData.int),dB c g]
variable{n:Nat}
theorem jm(xs:U6):∀d∈xs.map PyData.int,Ga n d:=λd a=>by
 obtain⟨i,_,rfl⟩:=GF.mp a;exact .int i
variable{c:Nat}{s:I3}{g:Bf}
theorem X7f{o:W9}:Ga 63 (dO c o s g):=by
 refine .tup λd a=>?_;rcases Cw.mp a with rfl | a
 ·exact .tup (jm _)
 ·rcases Cw.mp a with rfl | a
  ·exact .tup (jm _)
  ·rw[GK.mp a];refine .lst λd a=>?_;obtain⟨i,_,rfl⟩:=GF.mp a;exact .tup (jm _)
variable{K:U0}{H:Hp}{f:Nat->A5}{m:Nat}
theorem vD{l:Y9}{ps:U3}(b:Bd H l ps f c n m):Bu K H (.ref l) (dB c f):=by
 refine Bu.lst b.lst (Qe (by rw[BL,b.len,BL,Oa]) λi a d e h=>?_);rw[Cp]at e h;obtain⟨p,hp,rfl⟩:=Dm.mp e;obtain⟨j,k,rfl⟩:=Dm.mp h;obtain⟨_,g⟩:=DW.mp k;rw[Wn]at g;subst g;exact Bu.tup (xs:=(l5 (f i)).map V.int) (Ah.of (b.vals i p hp)) (Bu.ints _)
theorem X1d{g g':Nat->A5}{M:Int}(h:∀v,v<n->g v=g' v):Ar g n M=Ar g' n M/\Ag g n M=Ag g' n M:=⟨Nh λi hi=>by rw[h i hi],Nh λi hi=>by rw[h i hi]⟩
theorem yM{g':Bf}(h:∀v,v<2^c->g v=g' v):dB c g=dB c g':=by
 unfold dB;rw[Wq λi hi=>?_];rw[h i (Em.mp hi)]
variable{w:Nat}{a:Y9}
theorem X1v{N:Addr->Prop}{x:Wy}(o:Cy K N H f c n m a x)(wd:Wd c f w x)(sw:Sh f (Er w (f w)) (2^c) s.1 s.2.1 s.2.2)(am:∀w,w<2^c->Fv (f w))(hld:Ij f c):Bu K H (.ref a) (dO c (bt 0 c w) s (Er w (f w))):=by
 obtain⟨ao,sh,ab,bs,X,Y,Z,q,h1,h2,i,h,p,e⟩:=o;obtain⟨r,l,k,b⟩:=wd;obtain⟨g,j,d⟩:=Sh.same h sw am hld ⟨0,λM _=>⟨U,U⟩⟩ ⟨0,λM _=>X1d b⟩;unfold dO;rw[<-g,<-j,<-d,<-yM b,<-k];refine Bu.tup (Ah.of h1) (.cons (Bu.tup (xs:=(oI x.1).map V.int) (by rw[<-YQ];exact h2) (Bu.ints _)) (.cons (Bu.tup (xs:=[X,Y,Z].map V.int) (Ah.of i) (Bu.ints _)) (.cons (vD e) .nil)))
def DY (H:Hp)(f:Nat->A5)(sh:Nat->I3)(c n m:Nat)(ld:Y9)(w:Nat)(d:Addr×Addr):Prop:=∃(ts ab:Y9) (bs:U3),ab≠ld/\H d.1=some (.tup [.ref d.2,.ref ts,.ref ab])/\H d.2=some (.tup ((oI (bt 0 c w)).map V.int))/\H ts=some (tI (sh w))/\Bd H ab bs (Er w (f w)) c n m
variable{sh:Nat->I3}{ld:Y9}{d:Addr×Addr}
theorem DY.same{H':Hp}(o:DY H f sh c n m ld w d)(s:Same H H'):DY H' f sh c n m ld w d:=by
 obtain⟨ts,ab,bs,a,h1,h2,e,b⟩:=o;exact⟨ts,ab,bs,a,s _ _ h1,s _ _ h2,s _ _ e,b.same s⟩
variable{xs ys:List V}
theorem DY.upd(o:DY H f sh c n m ld w d)(h:H ld=some (.lst xs)):DY (upd H ld (.lst ys)) f sh c n m ld w d:=by
 obtain⟨ts,ab,bs,a,h1,h2,b,e⟩:=o;exact⟨ts,ab,bs,a,by rw[Bw (Ie h1 h (by intro z;cases z))];exact h1,by rw[Bw (Ie h2 h (by intro z;cases z))];exact h2,by rw[Bw (Ie b h (by intro z;cases z))];exact b,e.upd h a⟩
theorem X3r(o:DY H f sh c n m ld w d):Bu K H (.ref d.1) (dO c (bt 0 c w) (sh w) (Er w (f w))):=by
 obtain⟨ts,ab,bs,e,h1,h2,b,a⟩:=o;exact Bu.tup (Ah.of h1) (.cons (Bu.tup (Ah.of h2) (Bu.ints _)) (.cons (Bu.tup (xs:=[(sh w).1,(sh w).2.1,(sh w).2.2].map V.int) (Ah.of b) (Bu.ints _)) (.cons (vD a) .nil)))
theorem X7t{i:Nat}:[V.int (Builtin.bitAnd ((w:Int) / 2^((0:Int)+i).toNat) 1)]=[V.int ((w >>> i%2:Nat):Int)]:=by
 rw[J5,GJ,show ((w:Int) / 2^i)=((w / 2^i:Nat):Int) by rw[Int.natCast_ediv,Int.natCast_pow];rfl];have:=V7 (w / 2^i) 1;rw[show ((1:Nat):Int)=1 from rfl]at this;rw[this,Nat.and_one_is_mod,Nat.shiftRight_eq_div_pow]
theorem X9d:(oI (bt 0 c w)).map V.int=(List.range c).map λi=>V.int ((w >>> i%2:Nat):Int):=by
 unfold bt;rw[List.range_eq_range',Ly,Ly];rfl
theorem vK:∀n j i,i<n->(cs j n)[i]?=some (0,0,2^(j+i))
 | 0,_,_,h=>absurd h (JF _)
 | n+1,j,0,_=>rfl
 | n+1,j,i+1,h=>by
  show (cs (j+1) n)[i]?=_;rw[vK n (j+1) i (by lia),show j+1+i=j+(i+1) by lia]
theorem Xn{ll:Y9}{q f s:Nat}(l:Look H a c q f s)(h:H ll=some (.lst xs)):Look (upd H ll (.lst ys)) a c q f s:=⟨by rw[Bw (Ie l.at_ h (by intro z;cases z))];exact l.at_,l.q4,l.fc,l.sc,l.ev⟩
theorem xV{α β:Type}{F:α->β}{l:List α}(inj:∀a∈l,∀b∈l,F a=F b->a=b)(d:l.Nodup):(l.map F).Nodup:=Za.mpr (List.Pairwise.imp_of_mem (λf c h e=>h (inj _ f _ c e)) d)
theorem X5v{a b:W9}(h:oI a=oI b):a=b:=(List.map_inj_right λ_ _ e=>by lia).mp h
theorem X3t:Jw c (oI (bt 0 c w)):=by
 unfold bt;refine⟨by rw[BL,BL,List.length_range'],λx a=>?_⟩;obtain⟨y,b,rfl⟩:=GF.mp a;obtain⟨i,_,rfl⟩:=GF.mp b;lia
theorem jG{α β:Type}{F:α->β}{l:List α}{i:Nat}{d:β}{e:α}(h:i<l.length):(l.map F).getD i d=F (l.getD i e):=by
 rw[FW,Cp,Cv h,FW,Cv h];rfl
theorem i_(F:Nat->Int):∀n,sn F n=CJ F n
 | 0=>rfl
 | n+1=>by show sn F n+F n=CJ F n+F n;rw[i_ F n]
theorem X3l{wt:Nat->I3}{g:I3}{j J:Nat}(am:∀w,w<2^c->Fv (f w))(hld:Ij f c)
  (O:∀i,i<2^c->∃(h k d wx wy wz:Int),He f (2^c) h k d/\Low (tt (f i).1.1 (f i).1.2.1 (f i).1.2.2.1 (f i).1.2.2.2) (rr (f i).1.1 (f i).1.2.1 (f i).1.2.2.1 (f i).1.2.2.2) (p2 (f i).2*p2 (f i).2) wx wy wz/\Nj wx wy wz h k d (sh i).1 (sh i).2.1 (sh i).2.2/\S3 5800 5800 (sh i).1 (sh i).2.1 (sh i).2.2)
  (W:∀i,i<2^c->Wt (f i) (wt i).1 (wt i).2.1 (wt i).2.2) (hj:j<2^c) (nj:∀i,i<2^c->¬ Qk (sh j) (sh i)) (hJ:J<2^c) (eJ:wt J=g) (nJ:∀i,i<2^c->¬ Qk g (wt i)):gr sh (sh j) (2^c)=gr wt g (2^c):=by
 obtain⟨h,k,d,_,_,_,m,_⟩:=O j hj;have r:=jk m am hld;have key:∀i,i<2^c->Nj (wt i).1 (wt i).2.1 (wt i).2.2 h k d (sh i).1 (sh i).2.1 (sh i).2.2:=λi hi=>by
  obtain⟨_,_,_,_,_,_,l,t,o,_⟩:=O i hi;obtain⟨rfl,rfl,rfl⟩:=He.unique l m ⟨0,λM _=>⟨U,U⟩⟩;obtain⟨rfl,rfl,rfl⟩:=He.unique (Cj.j9 (am i hi) hi t) (Cj.j9 (am i hi) hi (W i hi)) ⟨0,λM _=>⟨U,U⟩⟩;exact o
 have lt:∀a b,a<2^c->b<2^c->(Qk (wt a) (wt b)↔Qk (sh a) (sh b)):=λa b p q=>Cj.X5j r m.pos (W a p).pos (W b q).pos (key a p) (key b q);have n:∀{a b:I3},a.1=b.1/\a.2.1=b.2.1/\a.2.2=b.2.2->a=b:=λ{a b} ⟨h1,h2,s⟩=>by
  obtain⟨x,B,y⟩:=a;obtain⟨v,A,u⟩:=b;cases h1;cases h2;cases s;rfl
 subst eJ;unfold gr;refine List.filter_congr λi hi=>decide_eq_decide.mpr ?_;have hi:=Em.mp hi;constructor
 ·intro e;refine n (Lt.total (W i hi).pos (W J hJ).pos (W i hi).cop (W J hJ).cop (λz=>?_) (nJ i hi));have z:=(lt i J hi hJ).mp z;rw[e]at z;exact nj J hJ z
 ·intro e;refine n (Lt.total (key i hi).1 (key j hj).1 (key i hi).2.1 (key j hj).2.1 (λz=>?_) (nj i hi));have z:=(lt i j hi hj).mpr z;rw[e]at z;exact nJ j hj z
def rY (K:U0):Sp:=λvs H Q _=>∃(lb:Y9) (bs:U3) (f:Nat->A5) (c n m:Nat),vs=[.ref lb,.int c]/\Bd H lb bs f c n m/\c<=6/\100<=n/\n<=200/\m<=50/\Ij f c/\lO f c/\∀H',Same H H'->Q (.bl true) H'
section
variable {P:U8}{w:W5}{K:U0}{mg:U4}{base:Heap}{k:Nat}{h:Heap}
theorem zH(F:Ab K "_law_words_are" (top 77) .none)(X:K.In h)(G:Ng h mg)(B:Bs mg)(cA:Aj P w K mg base (k+2) "_law_heft" ["_law_board"] Xf)(dJ:Aj P w K mg base (k+2) "word_shares" ["board"] Nr)(cH:Aj P w K mg base (k+2) "_law_is_share" ["_law_found"] Iu)(cI:Aj P w K mg base (k+2) "_law_is_times" ["_law_part","_law_one","_law_whole_here"] Ir)(cU:Aj P w K mg base (k+2) "outcomes" ["board","marks"] (Io K))(dM:Aj P w K mg base k "_law_first" ["_law_one"] (rM K))(dL:Aj P w K mg base (k+2) "_law_above" ["_law_one","_law_other"] rH)(dY:Aj P w K mg base (k+2) "likeliest" ["board"] Nt)(c7:Aj P w K mg base (k+2) "_law_whole" ["_law_found"] QX)(cB:Aj P w K mg base (k+2) "_law_sums_to_one" ["_law_shares"] Il):Aj P w K mg base (k+3) "_law_words_are" ["_law_board","_law_cells"] (rY K):=by
 refine F.cal X G ["_law_board","_law_cells","_law_whole_here","_law_told","_law_due","_law_word","_law_alone","_law_looks","_law_most","_law_one","_law_found"] λnd H vs Q E hr h=>?_;obtain⟨lb,bs,f,c,n,m,rfl,Z,c6,n1,n2,m5,a1,j1,kq⟩:=h;have p6:2^c<=64:=CZ (Ib (by decide) c6) (by decide);have p0:=Ji c;have C:(bs.map V.ref).length=2^c:=by rw[BL,Z.len]
 have am:∀w,w<2^c->Fv (f w):=λw u=>(Z.ok w u).amt
 refine⟨_,(@Ao _ _ _ _ _ (@BR _ _ 2 _ _ _ _ nd rfl (Or.inl rfl) (A_ cA hr rfl (Aa (pv 0) Ae)) rfl (.inl rfl))
  (@Ao _ _ _ _ _ (@BR _ _ 3 _ _ _ _ nd rfl (Or.inr rfl) (A_ dJ hr rfl (Aa (pv 0) Ae)) rfl (.inl rfl))
  (@Ao _ _ _ _ _ (Cd (PW.pt (Eh (Ec (Cr (Bm KQ rfl B.isinstance FJ (Aa (pv 3) (Aa (Je (v:=.ty "list") rfl B.list Nz rfl) Ae))))) (Eh (Cg Lg (Bm Fb rfl B.len FP (Aa (pv 3) Ae)) (Bm Fb rfl B.len FP (Aa (pv 0) Ae)) (Ad _)) (Gg (Ec (Cr (Bm (Rm rfl) rfl B.all RK (Aa (GZ rfl (BZ.of (Nc:=["_law_one"]) (mp:=[none]) (by kernel_rfl)) (Es (pv 3)) (λ_ _ _ _=>(Bq (i:=0) (show (["_law_one"]:W4).Nodup by decide +kernel) rfl (Or.inl rfl))) (λ_ _ _ _=>(A_ cH hr rfl (Aa (pv 0) Ae)))) Ae))))))))
   (@Aq _ _ _ (BW Ef))
   Ce)
  (@Ao _ _ _ _ _ (@BR _ _ 4 _ _ _ _ nd rfl (Or.inl rfl) (@Ii _ _ _ _ Ae) rfl (.inl rfl))
  (@Ao _ _ _ _ _ (Gf PassesOwn.never rfl (Ln rfl B.range (Aa (Bm Fb rfl B.len FP (Aa (pv 0) Ae)) Ae)) (Bq (i:=5) nd rfl (Or.inr rfl))
   (@Ao _ _ _ _ _ (@BR _ _ 6 _ _ _ _ nd rfl (Or.inl rfl) (Af jt (@Ii _ _ _ _ (Aa (@Cq _ _ _ _ _ (Aa Ac (Aa Ac (Aa Ac (Aa Ac (Aa Ac Ae)))))) Ae)) (Bm Fb rfl B.len FP (Aa (pv 0) Ae))) rfl (.inl rfl))
   (@Ao _ _ _ _ _ (QM (Ak Dy (pv 0) (pv 5) (λ_ _=>rfl)) (YX (pv 6) (pv 5) Xo))
   (@Ao _ _ _ _ _ (Cd (Ec (Cr (A_ cI hr rfl (Aa (A_ cA hr rfl (Aa (pv 6) Ae)) (Aa (Ak Dy (pv 3) (pv 5) (λ_ _=>rfl)) (Aa (pv 2) Ae))))))
    (@Aq _ _ _ (BW Ef))
    Ce)
   (@Aq _ _ _ (Cd (Cg (Xe hr.units) (Ak Dy (pv 0) (pv 5) (λ_ _=>rfl)) (@Cq _ _ _ _ _ (Aa Ac (Aa Ac (Aa Ac (Aa Ac (Aa Ac Ae)))))) (Ad _))
    (@Aq _ _ _ (NT (V9 Uk Ul Um Qd (pv 4) (Aa (@Cq _ _ _ _ _ (Aa (V5 xu rfl B.tuple Qo (Aa (GZ rfl (BZ.of (Nc:=["_law_c","_law_word"]) (mp:=[none,some 5]) (by kernel_rfl)) (Ln rfl B.range (Aa (pv 1) Ae)) (λ_ _ _ _=>(Bq (i:=0) (show (["_law_c","_law_word"]:W4).Nodup by decide +kernel) rfl (Or.inl rfl))) (λ_ _ _ _=>(Af RP (Af Vr (pv 1) (pv 0)) Ac))) Ae)) (Aa (Ak Dy (pv 3) (pv 5) (λ_ _=>rfl)) (Aa (pv 6) Ae)))) Ae))))
    Ce))))))
  (@Ao _ _ _ _ _ (Qc (i:=7) rfl nd rfl rfl (BZ.of (Nc:=["_law_c"]) (mp:=[none]) (by kernel_rfl)) (Ln rfl B.range (Aa (pv 1) Ae)) (λ_ _ _ _=>(Bq (i:=0) (show (["_law_c"]:W4).Nodup by decide +kernel) rfl (Or.inl rfl))) (λ_ _ _ _=>(@Cq _ _ _ _ _ (Aa Ac (Aa Ac (Aa (Af KJ Ac (pv 0)) Ae))))) rfl)
  (@Ao _ _ _ _ _ (Cd (Cg (Y4g hr.units) (A_ cU hr rfl (Aa (pv 0) (Aa (pv 7) Ae))) (Y3z dM hr rfl B.sorted rfl (pv 4)) (Ad _))
   (@Aq _ _ _ (BW Ef))
   Ce)
  (@Ao _ _ _ _ _ (@BR _ _ 8 _ _ _ _ nd rfl (Or.inr rfl) (Ak Dy (pv 3) Ac (λ_ _=>rfl)) rfl (.inl rfl))
  (@Ao _ _ _ _ _ (Gf PassesOwn.never rfl (Es (pv 3)) (Bq (i:=9) nd rfl (Or.inl rfl))
   (@Aq _ _ _ (Cd (Cr (A_ dL hr rfl (Aa (pv 9) (Aa (pv 8) Ae))))
    (@Aq _ _ _ (@BR _ _ 8 _ _ _ _ nd rfl (Or.inr rfl) (pv 9) rfl (.inl rfl)))
    Ce)))
  (@Ao _ _ _ _ _ (@BR _ _ 10 _ _ _ _ nd rfl (Or.inl rfl) (A_ dY hr rfl (Aa (pv 0) Ae)) rfl (.inl rfl))
  (@Ao _ _ _ _ _ (Cd (PW.pt (Eh (Ec (Cr (Bm KQ rfl B.isinstance FJ (Aa (pv 10) (Aa (Je (v:=.ty "list") rfl B.list Nz rfl) Ae))))) (Gg (Ec (Cr (Bm (Rm rfl) rfl B.all RK (Aa (GZ rfl (BZ.of (Nc:=["_law_word"]) (mp:=[none]) (by kernel_rfl)) (Es (pv 10)) (λ_ _ _ _=>(Bq (i:=0) (show (["_law_word"]:W4).Nodup by decide +kernel) rfl (Or.inl rfl))) (λ_ _ _ _=>(A_ c7 hr rfl (Aa (pv 0) Ae)))) Ae)))))))
   (@Aq _ _ _ (BW Ef))
   Ce)
  (@Ao _ _ _ _ _ (Cd (PW.pt (Eh (Cg (X1z hr.units) (pv 10) (pO rfl (BZ.of (Nc:=["_law_word","_law_told","_law_most"]) (mp:=[none,some 3,some 8]) (by kernel_rfl)) (Ln rfl B.range (Aa (Bm Fb rfl B.len FP (Aa (pv 0) Ae)) Ae)) (λ_ _ _ _=>(Bq (i:=0) (show (["_law_word","_law_told","_law_most"]:W4).Nodup by decide +kernel) rfl (Or.inl rfl))) (λ_ _ _ _=>(Cg (jJ hr.units) (Ak yQ (pv 1) (pv 0) (λ_ _=>rfl)) (pv 2) (Ad _))) (λ_ _ _ _=>(pv 0))) (Ad _)) (Gg (Ec (Cr (A_ cB hr rfl (Aa (pv 3) Ae)))))))
   (@Aq _ _ _ (BW Ef))
   Ce)
  (@Ao _ _ _ _ _ (NT (V9 Uk Ul Um Qd (pv 10) (Aa Ac Ae)))
  (@Ao _ _ _ _ _ (NT (V9 Uk Ul Um Qd (pv 3) (Aa Ac Ae)))
  (@Aq _ _ _ (BW Ef)))))))))))))))),?_⟩
 try dsimp only[Bv]
 refine⟨_,U,lb,bs,f,c,n,m,U,Z,c6,(by lia),(by lia),λpw H1 M S1 j' M0 M1 Mf=>?_⟩;refine⟨_,U,lb,bs,f,c,n,m,U,Z.same S1,c6,(by lia),m5,a1,λlt H2 T sh h9 S2 s a8 P2 O2=>?_⟩;have a2:=S1.trans S2;have f':=Ai.of (K:=K) (a2 _ _ Z.lst);have b5:(T.map V.ref).length=2^c:=by rw[BL,a8]
 have S:∀i,i<2^c->0<(sh i).2.2/\HJ (sh i).1 (sh i).2.1 (sh i).2.2:=λi hi=>by
  obtain⟨_,_,_,_,_,_,_,_,o,_⟩:=O2 i hi;exact⟨o.1,o.2.1⟩
 have b0:∀i,i<2^c->Sh f (Er i (f i)) (2^c) (sh i).1 (sh i).2.1 (sh i).2.2/\S3 5800 5800 (sh i).1 (sh i).2.1 (sh i).2.2:=λi hi=>by
  obtain⟨_,_,_,_,_,_,he,lw,o,s3⟩:=O2 i hi;exact⟨Sh.of (Cj.j9 (am i hi) hi lw) he o,s3⟩
 obtain⟨f4,d9⟩:=Ro (M:=M) Z c6;have zA:Sz 100000 (Ar f (2^c) M):=f4.mono (by lia);have zB:Sz 100000 (Ag f (2^c) M):=d9.mono (by lia);have zp:∀{h:Int},0<=h->h<=1500->Sz 100000 (p2 h*p2 h):=λh0 h1=>((Vu (m:=1500) h0 h1).mul (Vu (m:=1500) h0 h1)).mono (by decide);refine⟨_,U,_,_,_,true,U,Bk.lst s,YM K,_,U,Ay ?_⟩;refine⟨_,U,lt,_,U,.inl (Ai.of s),_,U,lb,_,U,.inl f',U,_,U,J_ (λz=>absurd (by rw[b5,C]) z) (λ_=>?_)⟩;refine⟨_,U,lt,U,⟨_,Ai.of s⟩,λacc c1=>?_⟩;refine M_ (K:=K) (a:=lt) (xs:=T.map V.ref) (fr:=[]) (λj ys H'=>Same H2 H'/\H' acc=some (.lst ys)/\ys=(List.replicate j true).map V.bl) (by rw[b5];exact CZ p6 (by decide)) ⟨Aw c1 _,Al,U⟩ (λj ys H' e=>Ai.of (e.1 _ _ s)) ?_ ?_
 ·rintro j x ys H3 NN a9 b2 ⟨e',a3,rfl⟩ kN;rw[Cp]at a9;obtain⟨p,hp,rfl⟩:=Dm.mp a9;have jl:j<2^c:=by have:=(DW.mp hp).1;lia
  refine⟨_,U,p,_,_,_,U,e' _ _ (P2 j p hp),(S j jl).1,(S j jl).2,λH4 S4=>kN _ _ (S4 _ _ a3) ⟨El (e'.trans S4) c1,Al,by rw[List.replicate_succ',Dj];rfl⟩⟩
 rintro ys H3 b2 ⟨a4,a3,rfl⟩;refine⟨acc,_,U,Ai.of a3,?_⟩;rw[show ∀j,(List.replicate j true).all id=true by simp];refine⟨_,U,Ay ?_⟩;refine⟨(show 0<=sizeLine by decide),λld b9=>?_⟩;have d1:=Aw b9 (.lst []);have e4:upd H3 ld (.lst []) ld=some (.lst []):=Al;generalize upd H3 ld (.lst [])=H4 at d1 e4 ⊢;have b6:=a2.trans a4;have fl:H3 ld=none:=b9;refine⟨_,U,lb,_,U,.inl (Ai.of ((b6.trans d1) _ _ Z.lst)),_,U,by lia,by rw[C];lia,?_⟩;rw[GJ,C];refine V3 (lo:=0) (n:=2^c) (λj σ H'=>Same H3 H'/\∃(I:Nat->Addr×Addr) (v5 v6:Option V),H' ld=some (.lst ((hls f j).map λw=>V.ref (I w).1))/\(∀w∈hls f j,DY H' f sh c n m ld w (I w))/\σ=[some (.ref lb),some (.int c),some (.ref pw),some (.ref lt),some (.ref ld),v5,v6,none,none,none,none]) ⟨d1,λ_=>(0,0),_,_,e4,λw u=>absurd (Cj.Eo.mp u).1 (JF _),U⟩ ?_ ?_
 ·rintro i σ H5 hi ⟨S5,I,v5,v6,b7,D5,rfl⟩;rw[show (0:Int)+(i:Int)=i from J5 _];have d2:=b6.trans S5;have B5:=Z.same d2;refine⟨t5,λtz f2=>⟨WQ,λlo d3=>⟨_,U,lb,_,U,.inl (Ai.of (Aw d3 _ _ _ (Aw f2 _ _ _ B5.lst))),lo,_,_,U,U,Al,by rw[C];lia,by rw[C];lia,by rw[C,GJ];exact CZ (by simp;exact p6) (show 64<=sizeLine by decide),λY d4=>?_⟩⟩⟩;have s1:=(Aw f2 (tA nought)).trans (Aw d3 (.lst [V.ref tz]));have fz:H5 Y=none:=s1.free d4;have s2:=s1.trans (Aw d4 (.lst (List.replicate (((bs.map V.ref).length:Nat):Int).toNat [V.ref tz]).flatten));have B6:Bd (upd (upd (upd H5 tz (tA nought)) lo (.lst [V.ref tz])) Y (.lst (List.replicate (((bs.map V.ref).length:Nat):Int).toNat [V.ref tz]).flatten)) Y (List.replicate (2^c) tz) (λ_=>nought) c n m:=ji (by rw[Al,C,GJ]) (Aw d4 _ _ _ (Aw d3 _ _ _ Al)) n1;obtain⟨p,hp,tp,ap⟩:=(B5.same s2).at hi;refine⟨_,U,_,U,lb,_,_,_,U,U,Ai.of (s2 _ _ B5.lst),ap,_,U,_,U,Y,_,_,i,U,U,B6.lst,(by rw[BL,B6.len];exact Xa hi),?_⟩;have BA:=B6.put (j:=i) tp (Z.ok i hi);have a0:Same H5 (upd _ Y (.lst (((List.replicate (2^c) tz).map V.ref).set i (.ref p)))):=El s2 fz;generalize upd (upd (upd (upd H5 tz (tA nought)) lo (.lst [V.ref tz])) Y (.lst (List.replicate (((bs.map V.ref).length:Nat):Int).toNat [V.ref tz]).flatten)) Y (.lst (((List.replicate (2^c) tz).map V.ref).set i (.ref p)))=H7 at BA a0 ⊢;have BA:Bd H7 Y ((List.replicate (2^c) tz).set i p) (Er i (f i)) c n m:=BA;have f8:=S5.trans a0;have i8:=a4.trans f8;refine⟨_,U,Y,_,Er i (f i),c,n,m,U,BA,c6,(by lia),(by lia),λra H8 N S8 j2 N0 N1 h4=>?_⟩;have R:=i8.trans S8;obtain⟨Sx,i2⟩:=b0 i hi;obtain⟨q1,q2⟩:=jL Sx N0 M0 h4 Mf;have L:T[i]?=some (T[i]'(by lia)):=Cv (by lia);generalize T[i]'(by lia)=pt at L;have b1:=P2 i pt L;have zg:=Ro (M:=N) BA c6;refine⟨_,U,_,U,lt,_,_,_,U,U,Ai.of (R _ _ s),Ju (by rw[Cp,L];rfl),_,U,ra,pt,pw,_,_,_,_,_,_,_,_,_,U,j2,R _ _ b1,(S2.trans R) _ _ j',⟨zg.1.mono (by lia),zg.2.mono (by lia),zp N0 (by lia)⟩,(i2.mono (by decide) (by decide)),⟨zA,zB,zp M0 (by lia)⟩,q1,q2,?_⟩;refine⟨_,U,Ay ?_⟩;have e9:=f8.trans S8;have B8:=Z.same (b6.trans e9);obtain⟨p',k3,i9,i3⟩:=B8.at hi;refine⟨_,U,_,U,lb,_,_,_,U,U,Ai.of B8.lst,i3,t5,λty h5=>?_⟩;have s9:=Aw h5 (tA nought);have ey:upd H8 ty (tA nought) ty=some (tA nought):=Al;show ∃_,_;refine⟨p',ty,l5 (f i),l5 nought,U,U,Ah.of (s9 _ _ i9),Ah.of ey,?_⟩;generalize upd H8 ty (tA nought)=H9 at s9 ey ⊢;have f3:=(a0.trans S8).trans s9;have b4:=e9.trans s9;have c5:=f3 _ _ b7;have D9:∀w∈hls f i,DY H9 f sh c n m ld w (I w):=λw u=>(D5 w u).same f3;by_cases z:f i=nought
  ·refine⟨_,U,?_⟩;rw[show (if true=true then !decide (l5 (f i)=l5 nought) else decide (l5 (f i)=l5 nought))=false by simp[z]];refine Ay ⟨b4,I,_,_,by rw[Cj.vP z];exact c5,by rw[Cj.vP z];exact D9,U⟩
  ·refine⟨_,U,?_⟩;rw[show (if true=true then !decide (l5 (f i)=l5 nought) else decide (l5 (f i)=l5 nought))=true by simp[pH,z]];refine Df ?_;refine⟨_,U,.inl ⟨U,_,Ai.of c5⟩,_,U,_,U,by lia,by lia,λh3 d6=>?_⟩;rw[GJ];refine _z (lo:=0) (n:=c) (fr:=[some (.int i)]) (λj=>V.int ((i >>> j%2:Nat):Int)) (CZ c6 (by decide)) d6 (λj HH NN hj sH q=>?_) λHA SA eA=>?_
   ·refine⟨_,U,_,U,_,_,U,U,by lia,_,_,U,U,?_⟩;show NN (V.int (Builtin.bitAnd ((i:Int) / 2^((0:Int)+j).toNat) 1)) HH;rw[(List.cons.inj (X7t (w:=i) (i:=j))).1];exact q
   refine⟨h3,_,U,.inl ⟨Ai.of eA,λtb j0=>?_⟩⟩;rw[<-X9d];have sB:=Aw j0 (.tup ((oI (bt 0 c i)).map V.int));have eB:upd HA tb (.tup ((oI (bt 0 c i)).map V.int)) tb=some (.tup ((oI (bt 0 c i)).map V.int)):=Al;generalize upd HA tb (.tup ((oI (bt 0 c i)).map V.int))=HB at sB eB ⊢;have f6:=SA.trans sB;refine⟨_,U,_,U,lt,_,_,_,U,U,Ai.of (f6 _ _ ((a4.trans b4) _ _ s)),Ju (by rw[Cp,L];rfl),_,U,t3,λtd i'=>?_⟩;have sC:=Aw i' (.tup [.ref tb,.ref pt,.ref Y]);have eC:upd HB td (.tup [.ref tb,.ref pt,.ref Y]) td=some (.tup [.ref tb,.ref pt,.ref Y]):=Al;generalize upd HB td (.tup [.ref tb,.ref pt,.ref Y])=HC at sC eC ⊢;have a5:=f6.trans sC;have c4:=a5 _ _ c5;have nz:Y≠ld:=λe=>by rw[e,b7]at fz;cases fz
   have Di:DY HC f sh c n m ld i (td,tb):=⟨pt,Y,_,nz,eC,sC _ _ eB,a5 _ _ ((a4.trans b4) _ _ b1),BA.same ((S8.trans s9).trans a5)⟩;have b3:((hls f i).map λw=>V.ref (I w).1).length<sizeLine:=by
    rw[BL];have:(hls f i).length<=(List.range i).length:=Uh ..;rw[Oa]at this;exact Q8 this (FQ hi (CZ p6 (by decide)))
   refine⟨ld,_,_,U,U,c4,b3,?_⟩;have nI:∀w∈hls f i,w≠i:=λw u e=>by have:=(Cj.Eo.mp u).1;lia
   refine⟨El (b4.trans a5) fl,λw=>if w=i then (td,tb) else I w,_,_,?_,λw u=>?_,U⟩
   ·have em:(hls f i).map (λw=>V.ref (if w=i then (td,tb) else I w).1)=(hls f i).map λw=>V.ref (I w).1:=Wq λw u=>by simp only[if_neg (nI w u)]
    rw[Al,Cj.uJ z,Dj,em];simp only[Jh,TQ,HX]
   ·rw[Cj.uJ z]at u;show DY _ f sh c n m ld w (if w=i then (td,tb) else I w);rcases Ho.mp u with u | u
    ·rw[if_neg (nI w u)];exact((D9 w u).same a5).upd c4
    ·rw[GK.mp u,if_pos rfl];exact Di.upd c4
 rintro σ H5 ⟨S5,I,v5,v6,b7,D5,rfl⟩;have d2:=b6.trans S5;refine⟨_,U,_,U,by lia,by lia,λll b3=>?_⟩;rw[GJ];refine Xm (lo:=0) (n:=c) (fr:=[]) (λj ys H'=>Same H5 H'/\H' ll=some (.lst ys)/\∃qs:List Addr,ys=qs.map V.ref/\qs.length=j/\∀(i:Nat) a,qs[i]?=some a->Look H' a c 0 0 (2^i)) (CZ c6 (by decide)) ⟨Aw b3 _,Al,[],U,U,λi a h=>by cases h⟩ ?_ ?_
 ·rintro j ys H6 NN hj b2 ⟨S6,a6,qs,rfl,lq,L6⟩ kN;refine⟨_,U,_,_,U,U,?_,t3,λt ht=>?_⟩
  ·exact⟨1,by decide,by lia,by lia⟩
  show NN (.ref t) (upd H6 t (.tup [.int 0,.int 0,.int (1*2^((0:Int)+(j:Int)).toNat)]));rw[show (1:Int)*2^((0:Int)+(j:Int)).toNat=((2^j:Nat):Int) by rw[J5,GJ,PX,Int.natCast_pow];rfl];have s7:=Aw ht (M3 0 0 (2^j));have e7:Look (upd H6 t (M3 0 0 (2^j))) t c 0 0 (2^j):=⟨Al,by decide,p0,Zt (by decide) hj,by rw[Nat.zero_and];decide +kernel⟩;have a7:=s7 _ _ a6;refine kN _ _ a7 ⟨El (S6.trans s7) b3,Al,qs++[t],by rw[Dj];rfl,by rw[DN,lq];rfl,λi a A=>?_⟩;by_cases e:i=j
  ·subst e;rw[<-lq,Oh]at A;cases A;exact Xn e7 a7
  ·have il:i<qs.length:=by
    have:=(DW.mp A).1;rw[DN,J7]at this;lia
   rw[J8 il]at A;exact Xn ((L6 i a A).same s7) a7
 rintro ys H6 b2 ⟨S6,a6,qs,rfl,lq,L6⟩;have LK:Mi H6 c qs (cs 0 c):=Qe (by rw[lq,Cj.YJ]) λi a b A hb=>by
  have il:=(DW.mp A).1;rw[vK c 0 i (by lia),Hj]at hb;cases hb;exact L6 i a A
 have j3:=d2.trans S6;refine⟨_,U,_,U,lb,ll,bs,qs,f,c,n,m,cs 0 c,U,Z.same j3,c6,(by lia),m5,a1,a6,LK,(by rw[Cj.YJ];exact c6),λr H7 os k4 S7 e3 P7 Z7=>?_⟩;have a0:=S6.trans S7;have i4:=a0 _ _ b7;have D7:∀w∈hls f (2^c),DY H7 f sh c n m ld w (I w):=λw u=>(D5 w u).same a0;obtain⟨g1,g2,g3⟩:=j1;have h7:=Cj.X7c p6 g2 g3;have lm:∀{i:Nat}{w:Nat},(hls f (2^c))[i]?=some w->w∈hls f (2^c):=λh=>Hq h;refine⟨_,U,ld,_,(hls f (2^c)).map λw=>(I w).2,(hls f (2^c)).map λw=>oI (bt 0 c w),c,U,i4,(by rw[BL,BL]),(by rw[BL];exact h7),?_,?_,?_,?_,λD p hD pm so=>?_⟩
 ·refine Qe (by rw[BL,BL]) λi a b A hb=>?_;rw[Cp]at A hb;obtain⟨w,u,rfl⟩:=Dm.mp A;rw[u]at hb;cases hb;obtain⟨_,_,_,_,_,h2,_⟩:=D7 w (lm u);exact Ah.of h2
 ·refine xV ?_ Cj.yP;intro x hx y hy e;exact Cj.vI c (by lia) x (Cj.Eo.mp hx).1 y (Cj.Eo.mp hy).1 (X5v e)
 ·intro q hq;obtain⟨w,_,rfl⟩:=GF.mp hq;exact X3t
 ·intro i x a hx A;rw[Cp]at hx A;obtain⟨w,u,rfl⟩:=Dm.mp hx;rw[u]at A;cases A;obtain⟨_,_,_,_,h1,_⟩:=D7 w (lm u);exact⟨_,_,_,U,Ah.of h1,U,U⟩
 rw[BL]at pm;have pl:∀i∈p,i<(hls f (2^c)).length:=λi hi=>Em.mp (pm.mem_iff.mp hi)
 have hs:=Cj.X3i c6 pm (List.Pairwise.imp_of_mem (λ{a b} A hb h=>by
  rw[jG (e:=0) (pl a A),jG (e:=0) (pl b hb)]at h
  exact h) so)
 have ep:(p.map λi=>((hls f (2^c)).map λw=>V.ref (I w).1).getD i .non)=(hws c f).map λw=>V.ref (I w).1:=by
  rw[<-hs,Ly];exact Wq λi hi=>jG (e:=0) (pl i hi)
 rw[ep];have W:=Cj.zu c6 am a1;have sD:=Aw hD (.lst ((hws c f).map λw=>V.ref (I w).1));have eD:upd H7 D (.lst ((hws c f).map λw=>V.ref (I w).1)) D=some (.lst ((hws c f).map λw=>V.ref (I w).1)):=Al;generalize upd H7 D (.lst ((hws c f).map λw=>V.ref (I w).1))=H8 at sD eD ⊢;refine⟨.list ((hws c f).map λw=>dO c (bt 0 c w) (sh w) (Er w (f w))),Bu.lst (sD _ _ e3) (Qe ?_ λi a b A hb=>?_),Bu.lst eD (Qe (by rw[BL,BL]) λi a b A hb=>?_),.lst (λd hd=>?_),?_⟩
 ·rw[BL,BL,Paired.length P7,Paired.length W]
 ·rw[Cp]at A hb;obtain⟨a',h8,rfl⟩:=Dm.mp A;obtain⟨w,u,rfl⟩:=Dm.mp hb;obtain⟨x,hx,ox⟩:=QL P7 h8;obtain⟨x',d8,wx⟩:=QL W u;rw[hx]at d8;cases d8;exact X1v (ox.same sD) wx (b0 w wx.1).1 am a1
 ·rw[Cp]at A hb;obtain⟨w,u,rfl⟩:=Dm.mp A;rw[u]at hb;cases hb;obtain⟨x,hx,wx⟩:=QL W u;exact X3r ((D7 w (Cj.Eo.mpr ⟨wx.1,wx.2.1⟩)).same sD)
 ·obtain⟨w,_,rfl⟩:=GF.mp hd;exact X7f
 refine⟨_,U,Ay ?_⟩;have R:Same H2 H8:=a4.trans (S5.trans (a0.trans sD));have c9:T[0]?=some (T[0]'(by lia)):=Cv (by lia);generalize T[0]'(by lia)=pt0 at c9;have d0:=R _ _ s;refine⟨_,U,lt,_,_,.ref pt0,U,U,Ai.of d0,Ju (j:=0) (by rw[Cp,c9];rfl),?_⟩;refine⟨_,U,lt,U,⟨_,Ai.of d0⟩,KN (K:=K) (a:=lt) (xs:=T.map V.ref) (λt σ H'=>Same H8 H'/\∃(pg:Y9) (v9:Option V) (j:Nat),j<2^c/\H' pg=some (tI (sh j))/\(∀i,i<t->¬ Qk (sh j) (sh i))/\σ=[some (.ref lb),some (.int c),some (.ref pw),some (.ref lt),some (.ref ld),v5,v6,some (.ref ll),some (.ref pg),v9,none]) ⟨Same.refl _,pt0,none,0,p0,R _ _ (P2 0 pt0 c9),λi hi=>absurd hi (JF _),U⟩ (λt σ H' _ e=>Ai.of (e.1 _ _ d0)) ?_ ?_⟩
 ·rintro t x σ H9 a9 ⟨S9,pg,v9,j,jl,tg,no,rfl⟩;rw[Cp]at a9;obtain⟨p,hp,rfl⟩:=Dm.mp a9;have tl:t<2^c:=by have:=(DW.mp hp).1;lia
  have tp:=(R.trans S9) _ _ (P2 t p hp);refine⟨_,U,_,U,p,pg,_,_,_,_,_,_,U,tp,tg,(b0 t tl).2.mono (by decide) (by decide),(b0 j jl).2.mono (by decide) (by decide),?_⟩;rw[z_];refine⟨_,U,Ca (λlt=>?_) (λge=>?_)⟩
  ·refine⟨_,U,S9,p,_,t,tl,tp,λi hi z=>?_,U⟩;by_cases e:i=t
   ·subst e;exact Lt.asymm z z
   ·exact no i (by lia) (Lt.trans (S j jl).1 (S t tl).1 (S i (by lia)).1 lt z)
  ·refine⟨S9,pg,_,j,jl,tg,λi hi=>?_,U⟩;by_cases e:i=t
   ·subst e;exact ge
   ·exact no i (by lia)
 rintro σ H9 ⟨S9,pg,v9,j,jl,tg,no,rfl⟩;rw[b5]at no;have d5:=R.trans S9;have i5:=a2.trans d5;refine⟨_,U,lb,bs,f,c,n,m,U,Z.same i5,c6,(by lia),m5,λrl HA wt g h6 SA k0 ⟨J,hJ,eJ⟩ k2 O=>?_⟩;have eg:=X3l am a1 O2 k0 jl no hJ eJ k2;have e0:=d5.trans SA;have k5:=e0 _ _ s;have eG:((gr wt g (2^c)).map λi:Nat=>V.int (i:Int))=(oI (gr wt g (2^c))).map V.int:=by rw[Ly];rfl
 rw[eG]at O;have lg:(oI (gr wt g (2^c))).length<=64:=by
  rw[BL];have:(gr wt g (2^c)).length<=(List.range (2^c)).length:=Uh ..;rw[Oa]at this;lia
 refine⟨_,U,_,_,_,true,U,Bk.lst O,YM K,_,U,Ay ?_⟩;refine⟨_,U,rl,U,⟨_,Ai.of O⟩,λi6 d7=>?_⟩;refine jH (fr:=[]) (λ_=>.bl true) (Ai.of O) (CZ lg (by decide)) d7 (λi HH NN sH q=>⟨_,U,i,U,q⟩) (λHB SB eB=>?_);refine⟨i6,List.replicate (oI (gr wt g (2^c))).length true,U,Ai.of (by rw[eB,List.map_replicate];exact congrArg (λl=>some (HO.lst l)) (List.map_const' ..)),?_⟩;rw[show ∀j,(List.replicate j true).all id=true by simp];refine⟨_,U,Ay ?_⟩;have b8:=e0.trans SB;have i1:=b8 _ _ s;have k1:=(SA.trans SB) _ _ tg;have i0:=a2.trans b8;refine⟨_,U,_,U,lb,_,U,.inl (Ai.of (i0 _ _ Z.lst)),_,U,by lia,by rw[C];lia,λe8 c3=>?_⟩;rw[GJ,C];refine _j (lo:=0) (n:=2^c) (fr:=[some (.ref lt),some (.ref pg)]) (λi ys H'=>Same HB H'/\H' e8=some (.lst ys)/\ys=(oI (gr sh (sh j) i)).map V.int) (CZ p6 (by decide)) ⟨Aw c3 _,Al,U⟩ ?_ (λh ⟨v,e,q⟩=>⟨v,e,h _ _ q⟩) ?_
 ·rintro i ys HC NN hi b2 ⟨SC,aC,rfl⟩ kN;have L:T[i]?=some (T[i]'(by lia)):=Cv (by lia);generalize T[i]'(by lia)=pt at L;have b1:=(b8.trans SC) _ _ (P2 i pt L);rw[show (0:Int)+(i:Int)=i from J5 _]at kN ⊢;refine⟨_,U,_,U,lt,_,_,.ref pt,U,U,Ai.of (SC _ _ i1),Ju (by rw[Cp,L];rfl),_,U,pt,pg,[(sh i).1,(sh i).2.1,(sh i).2.2],[(sh j).1,(sh j).2.1,(sh j).2.2],U,U,Ah.of b1,Ah.of (SC _ _ k1),_,U,?_⟩;show NN (decide ([(sh i).1,(sh i).2.1,(sh i).2.2]=[(sh j).1,(sh j).2.1,(sh j).2.2])) HC;rw[uK];refine kN _ _ (λe=>⟨_,U,aC,El SC c3,Al,?_⟩) (λe=>⟨SC,aC,?_⟩)
  ·rw[uI (Uc e),show oI (gr sh (sh j) i++[i])=oI (gr sh (sh j) i)++[(i:Int)] from Dj,Dj];rfl
  ·rw[vO (Wo e)]
 rintro ys HC ⟨SC,aC,rfl⟩;rw[eg]at aC;have c2:=(SB.trans SC) _ _ O;refine⟨rl,e8,_,_,U,U,Ai.of c2,Ai.of aC,_,U,?_⟩;rw[show ∀l:List Int,(if true=true then !decide (l=l) else decide (l=l))=false by simp];refine Ay ?_;have c8:=b8.trans SC;have f5:=c8 _ _ s;have eT:sn (λi=>Bo (f i) M) T.length=Ar f (2^c) M:=by rw[i_,a8];rfl
 have eS:sn (λi=>BK (f i) M) T.length=Ag f (2^c) M:=by rw[i_,a8];rfl
 have ne:=jx (YB (M:=M) am a1);have zn:∀i,i<2^c->Sz 2000 (Bo (f i) M)/\Sz 2000 (BK (f i) M):=λi hi=>by
  obtain⟨e1,e2⟩:=(Cj.Mq (w:=i) (x:=f i) (M:=M) (2^c)).1 hi;obtain⟨z1,z2⟩:=Mp (f:=Er i (f i)) (n:=n) (M:=M) (2^c) λv hv=>by
   unfold Cj.Er;split
   ·exact⟨(Z.ok i hi).sz,(Z.ok i hi).amt.nn⟩
   ·have o:=(P_ (m:=m)).mono n1 (GC _);exact⟨o.sz,o.amt.nn⟩
  rw[<-e1,<-e2];exact⟨z1.mono (by lia),z2.mono (by lia)⟩
 refine⟨_,U,lt,T,sh,(λi=>Bo (f i) M),(λi=>BK (f i) M),U,f5,(by rw[a8];exact p6),(λi a A=>c8 _ _ (P2 i a A)),(λi hi=>?_),(by rw[eT,eS];exact ne),(by rw[eT];exact f4.mono (by lia)),(by rw[eS];exact d9.mono (by lia)),λHD SD=>?_⟩
 ·rw[a8]at hi;obtain⟨e1,e2⟩:=(Cj.Mq (w:=i) (x:=f i) (M:=M) (2^c)).1 hi;have sr:=pX (b0 i hi).1 M0 Mf λw u=>Cj.uF (w:=i) (v:=w) M0 (Mf i hi);rw[e1,e2]at sr;rw[eT,eS];exact⟨sr,(zn i hi).1,(zn i hi).2⟩
 refine⟨_,U,Ay ?_⟩;have c0:=SD _ _ c2;have i7:=SD _ _ f5;refine⟨_,U,.inl ⟨U,_,Ai.of c0⟩,rl,_,_,U,U,c0,(by rw[BL];exact Q8 lg (by decide)),?_⟩;have e6:H2 rl=none:=d5.free h6;have nr:lt≠rl:=λe=>by rw[e,e6]at s;cases s
 have f7:upd HD rl (.lst ((oI (gr wt g (2^c))).map V.int++[.int 0])) lt=some (.lst (T.map V.ref)):=by rw[Bw nr];exact i7
 refine⟨_,U,.inl ⟨U,_,Ai.of f7⟩,lt,_,_,U,U,f7,(by rw[b5];exact Q8 p6 (by decide)),?_⟩;exact kq _ (El (El (a2.trans (c8.trans SD)) (a2.free e6)) (S1.free h9))
end
end Av
namespace Av
open L2 Am Pc Ba Hw FN Ci Lq
open Lk hiding Hy
open Pt hiding Fp
open Cj (Mk Bf Wy Hd)
def JV (K:U0)(n:Nat):Sp:=λvs H Q _=>∃(a:Y9) (ns:U6),vs=[.ref a]/\Ai K H a (ns.map V.int)/\ns.length<=n/\∀H',Q (.bl true) H'
variable{xs:List V}{p:Nat}
theorem yL{i:Int}(hi:i=p):EY xs (some i) none=xs.drop p:=by
 subst hi;unfold EY;rw[HT.rE];have a:HT.CN xs.length xs.length none=xs.length:=rfl;rw[a];by_cases h:p<=xs.length
 ·rw[h_ h,MF (by rw[OD];exact BX _)]
 ·rw[Nat.min_eq_right (by lia),bY,List.take_zero,List.drop_eq_nil_of_le (by lia)]
theorem vL{e:Int}(he:e=p):EY xs none (some e)=xs.take p:=by
 subst he;unfold EY;rw[HT.rE];have a:HT.CN xs.length 0 none=0:=rfl;rw[a,Ti,Nat.sub_zero];by_cases h:p<=xs.length
 ·rw[h_ h]
 ·rw[Nat.min_eq_right (by lia),MF (BX _),MF (by lia)]
variable{c:Nat}
theorem Us(c1:1<=c)(c6:c<=6):∃mo:Nat,0<mo/\mo<=7/\Le [V.int 7,V.int 5,V.int 3,V.int 3,V.int 3,V.int 3] ((c:Int)-1)=some (.int (mo:Nat)):=by
 rcases (show c=1\/c=2\/c=3\/c=4\/c=5\/c=6 by lia) with rfl | rfl | rfl | rfl | rfl | rfl
 ·exact⟨7,by decide,by decide,U⟩
 ·exact⟨5,by decide,by decide,U⟩
 ·exact⟨3,by decide,by decide,U⟩
 ·exact⟨3,by decide,by decide,U⟩
 ·exact⟨3,by decide,by decide,U⟩
 ·exact⟨3,by decide,by decide,U⟩
theorem oY{H:Hp}{qs:U3}{ks:List Mk}(l:Mi H c qs ks):Fq H qs (ks.map λk=>[(k.1:Int),(k.2.1:Int),(k.2.2:Int)]):=by
 induction l with
 | nil=>exact .nil
 | cons e r ih=>exact .cons e.at_ ih
theorem _7{K:U0}{H:Hp}{qs:U3}{v:V}(hp:p<=qs.length)(L:∀a∈qs,Br K H c (.ref a) true)(hv:Br K H c v false):∃(bb:Nat->Bool) (i0:Nat),i0<((qs.map V.ref).take p++[v]++(qs.map V.ref).drop p).length/\bb i0=false/\∀(i:Nat) (u:V),((qs.map V.ref).take p++[v]++(qs.map V.ref).drop p)[i]?=some u->Br K H c u (bb i):=by
 have lt:((qs.map V.ref).take p).length=p:=by rw[JG,BL];lia
 refine⟨λi=>!decide (i=p),p,by rw[DN,DN,lt,J7];lia,by simp,λi u b=>?_⟩;have ref:∀u∈qs.map V.ref,Br K H c u true:=λu b=>by
  obtain⟨a,f,rfl⟩:=GF.mp b;exact L a f
 show Br K H c u (!decide (i=p));rw[K8]at b;by_cases e:i<p
 ·rw[J8 (by lia)]at b;rw[show (!decide (i=p))=true by simp;lia];exact ref u (Oe (Hq b))
 ·rw[Uo (by lia),lt]at b;by_cases e2:i=p
  ·subst e2;rw[bY]at b;cases b;rw[show (!decide (i=i))=false by simp];exact hv
  ·rw[show (!decide (i=p))=true by simp[e2]];obtain⟨d,g⟩:∃d,i-p=d+1:=⟨i-p-1,by lia⟩;rw[g]at b;exact ref u (Ug (Hq (l:=(qs.map V.ref).drop p) (i:=d) b))
theorem vo:6<=sizeLine:=by decide
section
variable {P:U8}{w:W5}{K:U0}{mg:U4}{base:Heap}{k:Nat}{h:Heap}
theorem K3:Ck ["_law_script","_law_head","_law_cells","_law_far","_law_board","_law_many","_law_marks","_law_kept","_law_ahead","_law_at","_law_thing","_law_odd"] ["_law_script"] (DX (top 81)):=fS
theorem X5q{n:Nat}{f:Y9}{fd:FuncData}(F:Yk K "law" "law" (top 81) f fd)(B:Bs mg)(c5:Aj P w K mg base k "_law_cell_at" ["_law_script","_law_k"] (Iz K))(d7:Aj P w K mg base k "_law_cells_by" ["_law_head"] tO)(d6:Aj P w K mg base k "_law_board_by" ["_law_script","_law_cells"] (ou K))(dX:Aj P w K mg base k "_law_thin" ["_law_board","_law_cell"] Kg)(cT:Aj P w K mg base k "_law_mark_by" ["_law_cell","_law_cells"] rN)(cM:Aj P w K mg base k "_law_words_are" ["_law_board","_law_cells"] (rY K))(cV:Aj P w K mg base k "_law_outcomes_are" ["_law_board","_law_marks"] (Kq K))(d9:Aj P w K mg base k "_law_odd_mark" ["_law_mark","_law_cells","_law_cell"] (oH K))(dC:Aj P w K mg base k "_law_refused" ["_law_board","_law_marks"] (oJ K)):
  Dh P w K mg base Lw (k+1) f fd ["_law_script"] (JV K n):=by
 have nd:=K3.nd;refine F.ok K3 (λvs H Q E h=>?_) (λd3 A outer s H vs Q E o h=>?_)
 ·obtain⟨a,ns,rfl,_⟩:=h;rfl
 obtain⟨M,ns,rfl,hS,d2,kk⟩:=h
 refine⟨_,(@Ao _ _ _ _ _ (@BR _ _ 1 _ _ _ _ nd rfl (Or.inl rfl) (Af Dv (Af Gs (A_ c5 o rfl (Aa (pv 0) (Aa Ac Ae))) Ac) Ac) rfl (.inl rfl))
  (@Ao _ _ _ _ _ (@BR _ _ 2 _ _ _ _ nd rfl (Or.inr rfl) (A_ d7 o rfl (Aa (pv 1) Ae)) rfl (.inl rfl))
  (@Ao _ _ _ _ _ (@BR _ _ 3 _ _ _ _ nd rfl (Or.inl rfl) (A_ c5 o rfl (Aa (pv 0) (Aa Ac Ae))) rfl (.inl rfl))
  (@Ao _ _ _ _ _ (@BR _ _ 4 _ _ _ _ nd rfl (Or.inl rfl) (A_ dX o rfl (Aa (A_ d6 o rfl (Aa (pv 0) (Aa (pv 2) Ae))) (Aa (Af Hx (pv 3) Ac) Ae))) rfl (.inl rfl))
  (@Ao _ _ _ _ _ (@BR _ _ 5 _ _ _ _ nd rfl (Or.inl rfl) (Af Dv (pv 3) (@Ak _ _ _ _ _ _ _ Dy (@Ii _ _ _ _ (@Aa _ _ _ _ _ Ac (@Aa _ _ _ _ _ Ac (@Aa _ _ _ _ _ Ac (@Aa _ _ _ _ _ Ac (@Aa _ _ _ _ _ Ac (@Aa _ _ _ _ _ Ac Ae rfl) rfl) rfl) rfl) rfl) rfl)) (Af Fy (pv 2) Ac) (λ_ _=>rfl))) rfl (.inl rfl))
  (@Ao _ _ _ _ _ (Qc (i:=6) rfl nd rfl rfl (BZ.of (Nc:=["_law_k","_law_script","_law_cells"]) (mp:=[none,some 0,some 2]) (by kernel_rfl)) (Ln rfl B.range (Aa (pv 5) Ae)) (λ_ _ _ _=>(Bq (i:=0) (show (["_law_k","_law_script","_law_cells"]:W4).Nodup by decide +kernel) rfl (Or.inl rfl))) (λ_ _ _ _=>(A_ cT o rfl (Aa (A_ c5 o rfl (Aa (pv 1) (Aa (Af C_ Ac (pv 0)) Ae))) (Aa (pv 2) Ae)))) rfl)
  (@Ao _ _ _ _ _ (@BR _ _ 7 _ _ _ _ nd rfl (Or.inl rfl) (@Ii _ _ _ _ (Aa (V5 X5 rfl B.list Nz (Aa (pv 4) Ae)) (Aa (V5 X5 rfl B.list Nz (Aa (pv 6) Ae)) Ae))) rfl (.inl rfl))
  (@JM _ _ _ _ _ (Cd (PW.pt (MN (Cg HF (Af Dv (Af Hx (pv 3) Ac) Ac) Ac (Ad _)) (QW (Ec (Cr (A_ cM o rfl (Aa (pv 4) (Aa (pv 2) Ae))))))))
   (@Aq _ _ _ (BW Ef))
   Ce)
  (@Ao _ _ _ _ _ (Cd (PW.pt (Eh (Ec (Cr (A_ cV o rfl (Aa (pv 4) (Aa (pv 6) Ae))))) (Gg (Ec (Cr (A_ cM o rfl (Aa (pv 4) (Aa (pv 2) Ae))))))))
   (@Aq _ _ _ (BW Ef))
   Ce)
  (@Ao _ _ _ _ _ (Cd (PW.pt (Eh (Cg (iU o.units) (pv 4) (Ak Dy (pv 7) Ac (λ_ _=>rfl)) (Ad _)) (Gg (Cg (iU o.units) (pv 6) (Ak Dy (pv 7) Ac (λ_ _=>rfl)) (Ad _)))))
   (@Aq _ _ _ (BW Ef))
   Ce)
  (@Ao _ _ _ _ _ (@BR _ _ 8 _ _ _ _ nd rfl (Or.inl rfl) (Nb iw (pv 6) NP (NQ Ac)) rfl (.inl rfl))
  (@Ao _ _ _ _ _ (@BR _ _ 9 _ _ _ _ nd rfl (Or.inl rfl) (Af Dv (Af Hx (pv 3) Ac) (Af C_ (Bm Fb rfl B.len FP (Aa (pv 8) Ae)) Ac)) rfl (.inl rfl))
  (@Ao _ _ _ _ _ (@BR _ _ 10 _ _ _ _ nd rfl (Or.inl rfl) (A_ d9 o rfl (Aa (A_ cT o rfl (Aa (A_ c5 o rfl (Aa (pv 0) (Aa Ac Ae))) (Aa (pv 2) Ae))) (Aa (pv 2) (Aa (Af Hx (pv 3) Ac) Ae)))) rfl (.inl rfl))
  (@Ao _ _ _ _ _ (@BR _ _ 11 _ _ _ _ nd rfl (Or.inl rfl) (Af YS (Af YS (Nb iw (pv 8) NP (NQ (pv 9))) (@Ii _ _ _ _ (Aa (pv 10) Ae))) (Nb iw (pv 8) (NQ (pv 9)) NP)) rfl (.inl rfl))
  (@Aq _ _ _ (BW (Lh (A_ dC o rfl (Aa (pv 4) (Aa (pv 11) Ae))) (KH (Gu (qz o.units) (pv 4) (Ak Dy (pv 7) Ac (λ_ _=>rfl)) (Ad _)))))))))))))))))))),?_⟩
 try dsimp only[Bv]
 refine⟨_,U,M,ns,0,U,hS,by decide,_,_,U,U,.inr ⟨by decide,by decide⟩,_,_,U,U,(show (0:Int)<2147483647 by decide),_,U,_,U,λc c1 u=>?_⟩;refine⟨_,U,M,ns,9,U,hS,by decide,?_⟩;generalize cell ns 9=far;refine⟨_,U,_,U,M,ns,c,U,hS,c1,u,λl0 H1 c8 f0 S1 B1 Y=>?_⟩;refine⟨_,U,_,_,U,U,⟨by decide,by decide⟩,l0,c8,f0,c,102,40,far / 1680,U,B1,by decide,u,Y,λD H2 bs f S2 BD L a2=>?_⟩;have c0:=S1.trans S2;obtain⟨mo,b8,d1,b6⟩:=Us c1 u;refine⟨_,U,vo,λl6 h6=>⟨_,U,_,_,U,U,l6,_,_,_,U,U,Ai.of Al,b6,_,_,U,U,(show (0:Int)<(mo:Int) by lia),?_⟩⟩;have s3:=Aw h6 (.lst [V.int 7,V.int 5,V.int 3,V.int 3,V.int 3,V.int 3]);generalize upd H2 l6 (.lst [V.int 7,V.int 5,V.int 3,V.int 3,V.int 3,V.int 3])=H3 at s3 ⊢;obtain⟨N,nm,eN⟩:=Rb far b8;have b2:(λi j:Int=>V.int (i%j)) far (mo:Int)=V.int (N:Int):=congrArg V.int eN;rw[b2];have a3:=c0.trans s3;have B3:=BD.same s3;refine⟨_,U,_,U,by lia,by lia,λS a9=>?_⟩;rw[GJ];refine Xm (lo:=0) (n:=N) (fr:=[some (.ref M),some (.int c)]) (λj ys H'=>Same H3 H'/\H' S=some (.lst ys)/\∃(d:U3) (ks:List Mk),ys=d.map V.ref/\ks.length=j/\Mi H' c d ks) (CZ (show N<=7 by lia) (by decide)) ⟨Aw a9 _,Al,[],[],U,U,.nil⟩ ?_ ?_
 ·rintro j ys H4 NN hj b0 ⟨S4,a4,d,ks,rfl,lk,L4⟩ kN;refine⟨_,U,_,U,_,_,U,U,M,ns,_,U,(a3.trans S4).seq hS,by lia,_,U,_,c,U,u,λr H5 q g t S5 L5=>?_⟩;have a5:=S5 _ _ a4;refine kN _ _ a5 ⟨El (S4.trans S5) a9,Al,d++[r],ks++[(q,g,t)],by rw[Dj];rfl,by rw[DN,lk];rfl,?_⟩;refine Qe (by rw[DN,DN,Paired.length L4];rfl) λi a b I hb=>?_;have lq:=Paired.length L4;by_cases e:i<d.length
  ·rw[J8 e]at I;rw[J8 (by lia)]at hb;obtain⟨b',Z,b7⟩:=RX L4 I;rw[hb]at Z;cases Z;exact Xn (b7.same S5) a5
  ·have ie:i=d.length:=by
    have:=(DW.mp I).1;rw[DN,J7]at this;lia
   rw[ie,Oh]at I;rw[ie,lq,Oh]at hb;cases I;cases hb;exact Xn L5 a5
 rintro ys H4 b0 ⟨S4,a4,d,ks,rfl,lk,L4⟩;have k6:ks.length<=6:=by lia
 have lq:d.length=ks.length:=Paired.length L4;have c3:=a3.trans S4;have B4:=B3.same S4;refine⟨_,U,D,_,U,.inl (Ai.of B4.lst),λx b5=>?_⟩;have s5:=Aw b5 (.lst (bs.map V.ref));have e5:upd H4 x (.lst (bs.map V.ref)) x=some (.lst (bs.map V.ref)):=Al;generalize upd H4 x (.lst (bs.map V.ref))=H5 at s5 e5 ⊢;refine⟨_,U,S,_,U,.inl (Ai.of (s5 _ _ a4)),λC c9=>?_⟩;have s6:=Aw c9 (.lst (d.map V.ref));have e6:upd H5 C (.lst (d.map V.ref)) C=some (.lst (d.map V.ref)):=Al;generalize upd H5 C (.lst (d.map V.ref))=H6 at s6 e6 ⊢;refine⟨(show 2<=sizeLine by decide),λkp b3=>?_⟩;have s7:=Aw b3 (.lst [.ref x,.ref C]);have e7:upd H6 kp (.lst [.ref x,.ref C]) kp=some (.lst [.ref x,.ref C]):=Al;generalize upd H6 kp (.lst [.ref x,.ref C])=H7 at s7 e7 ⊢;have y:=s5.trans (s6.trans s7);have K1:=(s6.trans s7) _ _ e5;have K2:=s7 _ _ e6;have R:=B4.same y;have L7:=L4.same y;have a7:=y _ _ a4;have b4:=c3.trans y;refine⟨λσ H'=>Same H7 H'/\∃v1:Option V,σ=[some (.ref M),v1,some (.int c),some (.int far),some (.ref D),some (.int N),some (.ref S),some (.ref kp),none,none,none,none],?_,?_⟩
 ·refine⟨_,U,_,_,U,U,⟨by decide,by decide⟩,_,_,U,U,(show (0:Int)<2 by decide),U,_,U,Ca (λ_=>?_) (λ_=>?_)⟩
  ·refine⟨_,U,_,U,D,bs,f,c,102,40,U,R,u,by decide,by decide,by decide,L,a2,λH8 W=>?_⟩;exact⟨_,U,Ay ⟨W,_,U⟩⟩
  ·exact⟨Same.refl _,_,U⟩
 rintro σ H8 ⟨W,v1,rfl⟩;refine⟨_,U,_,U,D,S,bs,d,f,c,102,40,ks,U,R.same W,u,by decide,by decide,L,W _ _ a7,L7.same W,k6,λH9 S9=>?_⟩;have a0:=W.trans S9;refine⟨_,U,Ay ?_⟩;refine⟨_,U,_,U,D,bs,f,c,102,40,U,R.same a0,u,by decide,by decide,by decide,L,a2,λHA SA=>?_⟩;have m:=a0.trans SA;refine⟨_,U,Ay ?_⟩;have BA:=R.same m;have LA:=L7.same m;refine⟨_,U,_,U,kp,_,_,_,U,U,Ai.of (m _ _ e7),U,D,x,bs,bs,_,_,U,U,BA.lst,m _ _ K1,BA.rows,BA.rows,_,U,?_⟩;have eR:∀l:List (List Int),(if true=true then !decide (l=l) else decide (l=l))=false:=λl=>by simp
 rw[eR];refine Ay ?_;refine⟨_,U,_,U,kp,_,_,_,U,U,Ai.of (m _ _ e7),U,S,C,d,d,_,_,U,U,m _ _ a7,m _ _ K2,oY LA,oY LA,_,U,?_⟩;rw[eR];refine Ay ?_;refine⟨_,U,_,U,S,_,U,Ai.of (m _ _ a7),λT c4=>?_⟩;rw[vL (p:=5) (e:=5) rfl,<-List.map_take];have sB:=Aw c4 (.lst ((d.take 5).map V.ref));have eB:upd HA T (.lst ((d.take 5).map V.ref)) T=some (.lst ((d.take 5).map V.ref)):=Al;generalize upd HA T (.lst ((d.take 5).map V.ref))=HB at sB eB ⊢;refine⟨_,U,_,_,U,U,⟨by decide,by decide⟩,_,U,T,_,U,.inl (Ai.of eB),_,_,U,U,_,_,U,U,(by show (0:Int)<_+1;lia),?_⟩;obtain⟨p,hp,ep⟩:=Rb (far / 15) (show 0<((d.take 5).map V.ref).length+1 by lia);have c7:(λi j:Int=>V.int (i%j)) (far / 15) ((((d.take 5).map V.ref).length:Nat)+1)=V.int (p:Int):=congrArg V.int ep;rw[c7];rw[BL]at hp;have X:=m.trans sB;have b1:=b4.trans X;refine⟨_,U,M,ns,16,U,b1.seq hS,by decide,_,U,_,c,U,u,λr HC q g t SC LC=>?_⟩;refine⟨_,U,_,U,_,_,U,U,⟨by decide,by decide⟩,r,c,q,g,t,_,U,LC,u,λv HD SD tv=>?_⟩;have a1:=SC.trans SD;have eD:=a1 _ _ eB;refine⟨_,U,_,U,_,U,T,_,U,Ai.of eD,λl1 h1=>?_⟩;rw[vL (p:=p) (e:=(p:Int)) rfl];have t1:=Aw h1 (.lst (((d.take 5).map V.ref).take p));have x1:upd HD l1 (.lst (((d.take 5).map V.ref).take p)) l1=some (.lst (((d.take 5).map V.ref).take p)):=Al;generalize upd HD l1 (.lst (((d.take 5).map V.ref).take p))=G1 at t1 x1 ⊢;have l5:((d.take 5).map V.ref).length<=5:=by rw[BL,JG];lia
 have d0:(((d.take 5).map V.ref).take p).length<=5:=by rw[JG];lia
 have d4:(((d.take 5).map V.ref).drop p).length<=5:=by rw[OD];lia
 have d5:(20:Nat)<=sizeLine:=by decide
 refine⟨_,U,WQ,λl2 h2=>?_⟩;have t2:=Aw h2 (.lst [v]);have x2:upd G1 l2 (.lst [v]) l2=some (.lst [v]):=Al;generalize upd G1 l2 (.lst [v])=G2 at t2 x2 ⊢;refine⟨l1,l2,_,_,U,U,t2 _ _ x1,x2,(by rw[J7];lia),λl3 h3=>?_⟩;have G:=Aw h3 (.lst (((d.take 5).map V.ref).take p++[v]));have x3:upd G2 l3 (.lst (((d.take 5).map V.ref).take p++[v])) l3=some (.lst (((d.take 5).map V.ref).take p++[v])):=Al;generalize upd G2 l3 (.lst (((d.take 5).map V.ref).take p++[v]))=G3 at G x3 ⊢;refine⟨_,U,_,U,_,U,T,_,U,Ai.of ((t1.trans (t2.trans G)) _ _ eD),λl4 h4=>?_⟩;rw[yL (p:=p) (i:=(p:Int)) rfl];have t4:=Aw h4 (.lst (((d.take 5).map V.ref).drop p));have x4:upd G3 l4 (.lst (((d.take 5).map V.ref).drop p)) l4=some (.lst (((d.take 5).map V.ref).drop p)):=Al;generalize upd G3 l4 (.lst (((d.take 5).map V.ref).drop p))=G4 at t4 x4 ⊢;refine⟨l3,l4,_,_,U,U,t4 _ _ x3,x4,(by rw[DN,J7];lia),λz c2=>?_⟩;have a8:=Aw c2 (.lst (((d.take 5).map V.ref).take p++[v]++((d.take 5).map V.ref).drop p));have x5:upd G4 z (.lst (((d.take 5).map V.ref).take p++[v]++((d.take 5).map V.ref).drop p)) z=some (.lst (((d.take 5).map V.ref).take p++[v]++((d.take 5).map V.ref).drop p)):=Al;generalize upd G4 z (.lst (((d.take 5).map V.ref).take p++[v]++((d.take 5).map V.ref).drop p))=G5 at a8 x5 ⊢;have a6:=t1.trans (t2.trans (G.trans (t4.trans a8)));have J:=X.trans (a1.trans a6);have L5:=L7.same J;refine⟨_,U,_,U,D,z,bs,_,f,c,102,40,U,R.same J,u,x5,_7 (by lia) (λa I=>?_) (tv.same a6),λHE SE=>?_⟩
 ·obtain⟨i,hi⟩:=List.getElem?_of_mem (Oe I);obtain⟨d8,_,b9⟩:=RX L5 hi;exact b9.tell
 have O:=J.trans SE;have BE:=R.same O;refine⟨_,U,Df ⟨_,U,_,U,kp,_,_,_,U,U,Ai.of (O _ _ e7),U,D,x,bs,bs,_,_,U,U,BE.lst,O _ _ K1,BE.rows,BE.rows,?_⟩⟩;rw[show ∀l:List (List Int),(if false=true then !decide (l=l) else decide (l=l))=true by simp];exact kk _
end
end Av
noncomputable section
namespace Av
open L2
variable{l:PySem.W.OpenLaw}
theorem X7m{w:W5}{K:U0}{h:Heap}{mg:U4}{fa f:Y9}(X:K.In h)(G:Ng h mg)(hfa:mg "law"=some (.ref fa))
  {od an:Y5}{sl:Y0}{oc kV dc pm cd ct:W8}{aZ Ds D A_NeverSo A_NoMark A_NoAmount A_NoShare A_NoBoard A_NoMove A_NoCell A_NoTable A_NoText A_NotBorne A_Unguarded:Y9}{bm bm2 bm3:U5}{odZ odS:Y5}{slZ slS:Y0}{ocS:W8}{nZ nS:Nat}{y0 y1 y2 y3 y4 e0 e1:Tok}
  (aL:PySem.W.nsIn K mainGlobals "law"=some (some (.ref f))) (lL:K.lookup f=some ⟨oc,od,.func (PySem.W.fnOf "law" "law" (Ey (top 81)) (Ei (top 81)) (DX (top 81)) .none kV dc pm an cd ct),sl⟩) (cL:PySem.W.codeIn K cd "law"=true) (kL:PySem.W.keepIn K (.ref f)=true)
  (t14:Ab K "is_whole" (top 14) .none)
  (t15:Ab K "share" (top 15) (.ref Ds))
  (t16:Ab K "common_divisor" (top 16) .none)
  (t17:Ab K "share_plus" (top 17) .none)
  (t18:Ab K "share_minus" (top 18) .none)
  (t19:Ab K "share_times" (top 19) .none)
  (t20:Ab K "share_over" (top 20) .none)
  (t21:Ab K "share_under" (top 21) .none)
  (t22:Ab K "is_below_nought" (top 22) .none)
  (t24:Ab K "halved_out" (top 24) .none)
  (t25:Ab K "plus" (top 25) .none)
  (t26:Ab K "minus" (top 26) .none)
  (t27:Ab K "times" (top 27) .none)
  (t28:Ab K "spun" (top 28) .none)
  (t29:Ab K "spun_once" (top 29) .none)
  (t30:Ab K "mirror" (top 30) .none)
  (t31:Ab K "weight" (top 31) .none)
  (t32:Ab K "real_share" (top 32) .none)
  (t34:Ab K "ones" (top 34) .none)
  (t35:Ab K "is_word" (top 35) .none)
  (t36:Ab K "is_mark" (top 36) .none)
  (t37:Ab K "is_even" (top 37) .none)
  (t38:Ab K "is_even_mark" (top 38) .none)
  (t41:Ab K "cells_of" (top 41) .none)
  (t42:Ab K "heft" (top 42) .none)
  (t43:Ab K "laid_on" (top 43) .none)
  (t44:Ab K "spun_by_mark" (top 44) .none)
  (t46:Ab K "settled" (top 46) .none)
  (t47:Ab K "check_look" (top 47) .none)
  (t48:Ab K "half_left" (top 48) .none)
  (t49:Ab K "halved" (top 49) .none)
  (t50:Ab K "is_nothing" (top 50) .none)
  (t51:Ab K "outcomes" (top 51) .none)
  (t52:Ab K "ways_on" (top 52) .none)
  (t53:Ab K "word_shares" (top 53) .none)
  (t54:Ab K "likeliest" (top 54) .none)
  (t56:Ab K "_law_cell_at" (top 56) .none)
  (t57:Ab K "_law_whole" (top 57) .none)
  (t58:Ab K "_law_lowest" (top 58) .none)
  (t59:Ab K "_law_spin" (top 59) .none)
  (t60:Ab K "_law_amount_by" (top 60) .none)
  (t61:Ab K "_law_cells_by" (top 61) .none)
  (t62:Ab K "_law_board_by" (top 62) .none)
  (t63:Ab K "_law_thin" (top 63) .none)
  (Lx:Ab K "_law_ones" (top 64) .none)
  (t65:Ab K "_law_mark_by" (top 65) .none)
  (t66:Ab K "_law_is_board" (top 66) .none)
  (t67:Ab K "_law_heft" (top 67) .none)
  (t68:Ab K "_law_divisor" (top 68) .none)
  (t69:Ab K "_law_is_share" (top 69) .none)
  (t70:Ab K "_law_is_times" (top 70) .none)
  (t71:Ab K "_law_above" (top 71) .none)
  (t72:Ab K "_law_way" (top 72) .none)
  (t73:Ab K "_law_all_outs" (top 73) .none)
  (t74:Ab K "_law_told_is" (top 74) .none)
  (t75:Ab K "_law_sums_to_one" (top 75) .none)
  (t76:Ab K "_law_outcomes_are" (top 76) .none)
  (t77:Ab K "_law_words_are" (top 77) .none)
  (t78:Ab K "_law_odd_mark" (top 78) .none)
  (t79:Ab K "_law_first" (top 79) .none)
  (t80:Ab K "_law_refused" (top 80) .none)
  (z0:PySem.W.nsIn K mainGlobals "isinstance"=some none)
  (z1:PySem.W.nsIn K mainGlobals "int"=some none)
  (z2:PySem.W.nsIn K mainGlobals "bool"=some none)
  (z3:PySem.W.nsIn K mainGlobals "tuple"=some none)
  (z4:PySem.W.nsIn K mainGlobals "list"=some none)
  (z5:PySem.W.nsIn K mainGlobals "len"=some none)
  (z6:PySem.W.nsIn K mainGlobals "range"=some none)
  (z7:PySem.W.nsIn K mainGlobals "all"=some none)
  (z8:PySem.W.nsIn K mainGlobals "any"=some none)
  (z9:PySem.W.nsIn K mainGlobals "max"=some none)
  (z10:PySem.W.nsIn K mainGlobals "min"=some none)
  (z11:PySem.W.nsIn K mainGlobals "zip"=some none)
  (z12:PySem.W.nsIn K mainGlobals "set"=some none)
  (z13:PySem.W.nsIn K mainGlobals "str"=some none)
  (z14:PySem.W.nsIn K mainGlobals "enumerate"=some none)
  (z15:PySem.W.nsIn K mainGlobals "reversed"=some none)
  (z16:PySem.W.nsIn K mainGlobals "abs"=some none)
  (z17:PySem.W.nsIn K mainGlobals "divmod"=some none)
  (z18:PySem.W.nsIn K mainGlobals "sum"=some none)
  (z19:PySem.W.nsIn K mainGlobals "sorted"=some none)
  (gZ0:PySem.W.nsIn K mainGlobals "NOUGHT"=some (some (.ref aZ)))
  (tZ:K.lookup aZ=some ⟨.type "tuple",odZ,.seq #[.int 0 y0,.int 0 y1,.int 0 y2,.int 0 y3,.int 0 y4] nZ,slZ⟩)
  (tS:K.lookup Ds=some ⟨ocS,odS,.seq #[.int 0 e0,.int 1 e1] nS,slS⟩)
  (aD:PySem.W.nsIn K mainGlobals "BoardError"=some (some (.ref D)))
  (zV:PySem.W.nsIn K mainGlobals "ValueError"=some none)
  (xC:ExcAt K A_NeverSo bm)
  (yC:ExcAt K A_NoMark bm3)
  (xD:ExcAt K D bm2)
  (sub:(Value.ref A_NeverSo::bm).contains (.ref A_NeverSo)=true)
  (sub3:(Value.ref A_NoMark::bm3).contains (.ref D)=true)
  (kM:PySem.W.JQ K A_NoMark)
  (ve3:PySem.W.kitOne K (.ref A_NoMark) (.type "ValueError")=some true)
  (n_NeverSo:PySem.W.nsIn K mainGlobals "NeverSo"=some (some (.ref A_NeverSo)))
  (p_NeverSo:PySem.W.kitOne K (.ref A_NoMark) (.ref A_NeverSo)=some false)
  (n_NoMark:PySem.W.nsIn K mainGlobals "NoMark"=some (some (.ref A_NoMark)))
  (p_NoMark:PySem.W.kitOne K (.ref A_NoMark) (.ref A_NoMark)=some true)
  (n_NoAmount:PySem.W.nsIn K mainGlobals "NoAmount"=some (some (.ref A_NoAmount)))
  (p_NoAmount:PySem.W.kitOne K (.ref A_NoMark) (.ref A_NoAmount)=some false)
  (n_NoShare:PySem.W.nsIn K mainGlobals "NoShare"=some (some (.ref A_NoShare)))
  (p_NoShare:PySem.W.kitOne K (.ref A_NoMark) (.ref A_NoShare)=some false)
  (n_NoBoard:PySem.W.nsIn K mainGlobals "NoBoard"=some (some (.ref A_NoBoard)))
  (p_NoBoard:PySem.W.kitOne K (.ref A_NoMark) (.ref A_NoBoard)=some false)
  (n_NoMove:PySem.W.nsIn K mainGlobals "NoMove"=some (some (.ref A_NoMove)))
  (p_NoMove:PySem.W.kitOne K (.ref A_NoMark) (.ref A_NoMove)=some false)
  (n_NoCell:PySem.W.nsIn K mainGlobals "NoCell"=some (some (.ref A_NoCell)))
  (p_NoCell:PySem.W.kitOne K (.ref A_NoMark) (.ref A_NoCell)=some false)
  (n_NoTable:PySem.W.nsIn K mainGlobals "NoTable"=some (some (.ref A_NoTable)))
  (p_NoTable:PySem.W.kitOne K (.ref A_NoMark) (.ref A_NoTable)=some false)
  (n_NoText:PySem.W.nsIn K mainGlobals "NoText"=some (some (.ref A_NoText)))
  (p_NoText:PySem.W.kitOne K (.ref A_NoMark) (.ref A_NoText)=some false)
  (n_NotBorne:PySem.W.nsIn K mainGlobals "NotBorne"=some (some (.ref A_NotBorne)))
  (p_NotBorne:PySem.W.kitOne K (.ref A_NoMark) (.ref A_NotBorne)=some false)
  (n_Unguarded:PySem.W.nsIn K mainGlobals "Unguarded"=some (some (.ref A_Unguarded)))
  (p_Unguarded:PySem.W.kitOne K (.ref A_NoMark) (.ref A_Unguarded)=some false)
  : ∃fd:FuncData,(∀(s:U7) (v:W8),BindsTo s fd ⟨[v],[]⟩ [("_law_script",v)])/\∀base:Heap,K.In base->base.Ns mainGlobals mg->Dh l.prog w K mg base Lw 9 fa fd ["_law_script"] (JV K 63):=by
 have e:=hfa.symm.trans (G_ X G aL);cases e;have F:=X7e (st:=top 81) lL cL kL;have B:Bs mg:=⟨GP X G z0,GP X G z1,GP X G z2,GP X G z3,GP X G z4,GP X G z5,GP X G z6,GP X G z7,GP X G z8,GP X G z9,GP X G z10,GP X G z11,GP X G z12,GP X G z13,GP X G z14,GP X G z15,GP X G z16,GP X G z17,GP X G z18,GP X G z19⟩;refine⟨PySem.W.fnOf "law" "law" (Ey (top 81)) (Ei (top 81)) (DX (top 81)) .none kV dc pm an cd ct,λs v=>.of_eq rfl,λbase _ _=>?_⟩;have gZ:=G_ X G gZ0;have kZ:∀H,Ah K H aZ ([0,0,0,0,0].map V.int):=λH=>.inr ⟨_,_,_,tZ,U,U,(show 5<=sizeLine by decide),.cons ⟨_,U⟩ (.cons ⟨_,U⟩ (.cons ⟨_,U⟩ (.cons ⟨_,U⟩ (.cons ⟨_,U⟩ .nil))))⟩;have en:lQ K mg A_NeverSo bm:=⟨G_ X G n_NeverSo,xC,sub⟩;have ex:vX K mg A_NoMark D bm3 bm2:=⟨G_ X G aD,GP X G zV,yC,xD,sub3,kM,ve3,A_NeverSo,G_ X G n_NeverSo,p_NeverSo,A_NoMark,G_ X G n_NoMark,p_NoMark,A_NoAmount,G_ X G n_NoAmount,p_NoAmount,A_NoShare,G_ X G n_NoShare,p_NoShare,A_NoBoard,G_ X G n_NoBoard,p_NoBoard,A_NoMove,G_ X G n_NoMove,p_NoMove,A_NoCell,G_ X G n_NoCell,p_NoCell,A_NoTable,G_ X G n_NoTable,p_NoTable,A_NoText,G_ X G n_NoText,p_NoText,A_NotBorne,G_ X G n_NotBorne,p_NotBorne,A_Unguarded,G_ X G n_Unguarded,p_Unguarded⟩;have j:=X2v (P:=l.prog) (w:=w) (base:=base) (k:=0) t24 X G B;have N:=X2n (P:=l.prog) (w:=w) (base:=base) (k:=0) t29 X G;have c2:=zF (k:=1) t27 X G B (j) (N);have p:=X2k (k:=1) t25 X G B (j);have J:=X2h (k:=1) t28 X G B (N);have d1:=yt (k:=2) t26 X G (p) (J);have c3:=Y4s (P:=l.prog) (w:=w) (base:=base) (k:=0) t30 X G;have m:=Y2d (P:=l.prog) (w:=w) (base:=base) (k:=0) t14 X G B;have cw:Aj l.prog w K mg base 1 "is_whole" ["thing"] Ba.QX:=m.imp λvs H Q E ⟨i,e,q⟩=>⟨.int i,e,Pt.Part.int _,q⟩;have c9:=X5r (P:=l.prog) (w:=w) (base:=base) (k:=0) t16 X G;have c:=yu (k:=1) t15 (xR tS) X G B (cw) (c9);have b4:=X2j (k:=2) t32 X G (c);have R:=X2u (k:=3) gZ kZ t42 X G (p.mono (by decide)) (c2.mono (by decide)) (c3.mono (by decide)) (b4);have c6:=Y4p (k:=2) t19 X G (c);have z:=yx (k:=3) t20 X G (c.mono (by decide)) (c6);have b9:=zE (k:=2) t17 X G (c);have a5:=Y4q (k:=3) t18 X G (b9);have c7:=xW (P:=l.prog) (w:=w) (base:=base) (k:=0) t22 X G;have a6:=Y4o (k:=4) t21 X G (a5) (c7.mono (by decide));have x:=Y4m (k:=2) t31 X G B (c);have a8:=Y4v (k:=1) t35 X G (m);have b7:=Y4w (k:=2) t36 X G B (m.mono (by decide)) (a8);have O:=X2m (P:=l.prog) (w:=w) (base:=base) (k:=0) t34 X G B;have a9:=Y4x (k:=1) t37 X G (O);have t:=yp (k:=3) t38 X G (b7) (a9.mono (by decide));have n:=Y2f (P:=l.prog) (w:=w) (base:=base) (k:=0) t41 X G B;have c1:=yw (k:=2) t44 X G (J) (O.mono (by decide));have d2:=X2r (k:=3) t43 X G B (c1);have M:=X5t (k:=4) t47 X G (t);have b0:=_9 (k:=1) t49 X G (j);have I:=yj (k:=4) t48 X G B (d2) (p.mono (by decide)) (d1.mono (by decide)) (b0.mono (by decide));have C:=X2q (P:=l.prog) (w:=w) (base:=base) (k:=0) gZ kZ t50 X G B;have b:=zM (k:=5) t46 X G en (M) (n.mono (by decide)) (I) (C.mono (by decide));have a3:=Y4n (k:=5) t52 X G (I) (C.mono (by decide));have A:=X2l (k:=6) t51 X G B (M.mono (by decide)) (n.mono (by decide)) (a3) (R.mono (by decide)) (z.mono (by decide));have c4:=X5n (k:=4) t53 X G (R) (x.mono (by decide)) (z);have c5:=X5p (k:=5) t54 X G B (x.mono (by decide)) (a6);have d:=zJ (k:=4) t47 X G (G_ X G n_NoMark) yC (t);have a:=zL (k:=5) t51 X G B (d) (n.mono (by decide));have L:=X2w (P:=l.prog) (w:=w) (base:=base) (k:=0) t56 X G B;have g:=zG (P:=l.prog) (w:=w) (base:=base) (k:=0) t57 X G B;have u:=Y4u (P:=l.prog) (w:=w) (base:=base) (k:=0) t58 X G B;have b6:=X2i (P:=l.prog) (w:=w) (base:=base) (k:=0) t59 X G B;have Y:=yc (k:=1) t60 X G (u) (b6);have Z:=yd (P:=l.prog) (w:=w) (base:=base) (k:=0) t61 X G;have c0:=X2x (k:=2) t62 X G B (L.mono (by decide)) (Y);have a4:=X2f (P:=l.prog) (w:=w) (base:=base) (k:=0) t63 X G B;have d3:=yr (P:=l.prog) (w:=w) (base:=base) (k:=0) Lx X G;have b2:=Y4t (k:=1) t65 X G (d3);have a0:=X2t (k:=1) t66 X G B (g) (u);have o:=yq (P:=l.prog) (w:=w) (base:=base) (k:=0) t67 X G B;have T:=X5s (P:=l.prog) (w:=w) (base:=base) (k:=0) t68 X G B;have r:=Y2e (k:=1) t69 X G B (g) (T);have y:=X2s (P:=l.prog) (w:=w) (base:=base) (k:=0) t70 X G;have a1:=yZ (P:=l.prog) (w:=w) (base:=base) (k:=0) t71 X G;have b1:=X5o (k:=6) t72 X G B en (b);have a7:=X2y (P:=l.prog) (w:=w) (base:=base) (k:=0) t73 X G B;have d0:=X2e (k:=2) t74 X G B (g.mono (by decide)) (r) (a0) (y.mono (by decide)) (o.mono (by decide));have S:=X2g (k:=1) t75 X G (T);have b5:=X2p (k:=7) t76 X G B (o.mono (by decide)) (A) (a7.mono (by decide)) (b1) (d0.mono (by decide)) (S.mono (by decide));have a2:=yg (P:=l.prog) (w:=w) (base:=base) (k:=0) t79 X G;have c8:=zH (k:=5) t77 X G B (o.mono (by decide)) (c4.mono (by decide)) (r.mono (by decide)) (y.mono (by decide)) (A) (a2.mono (by decide)) (a1.mono (by decide)) (c5.mono (by decide)) (g.mono (by decide)) (S.mono (by decide));have b8:=X2o (P:=l.prog) (w:=w) (base:=base) (k:=0) t78 X G B;have b3:=Y2c (k:=6) t80 X G B ex (a);exact X5q (k:=8) F B (L.mono (by decide)) (Z.mono (by decide)) (c0.mono (by decide)) (a4.mono (by decide)) (b2.mono (by decide)) (c8) (b5) (b8.mono (by decide)) (b3.mono (by decide))
theorem walk{q:U8}{loose:W4}{XP:(Str->Option Value)->Heap->Prop}{YP:World->Heap->Prop}{d:DefRec}{K:Params->U0}(hn:l.most=some 63)(hdf:d.params.defaults=[])
  (hY:∀(w:W5) (h:Heap),YP w h->(K w.params).In h)
  (F:∀(w:W5) (mg:U4) (fa:Y9) (h:Heap),(K w.params).In h->h.Ns mainGlobals mg->mg d.name=some (.ref fa) ->
   ∃fd:FuncData,(∀(s:U7) (u:W8),BindsTo s fd ⟨[u],[]⟩ [("_law_script",u)])/\∀base:Heap,(K w.params).In base->base.Ns mainGlobals mg->Dh l.prog w (K w.params) mg base Lw 9 fa fd ["_law_script"] (JV (K w.params) 63)):
  PySem.W.WalkO q loose XP YP l.row.toRowW d [] (λf vs=>PySem.call f vs):=
 L2.X0s (n:=63) (k:=9) (x:="_law_script") (CX:=λ_=>Lw) (sp:=λw=>JV (K w.params) 63) hn (by decide) hdf ⟨U,by decide,by decide⟩ hY F (λ_ _ a ns b lt c=>⟨a,ns,U,c,b,λ_=>rfl⟩) λ_ _ _ _ _ z=>z
end Av
open PySem.W
set_option maxRecDepth 100000 in
set_option maxHeartbeats 0 in
theorem PySem.Challenge.cw_spinboard_k44_outcomes_and_words_holds : PySem.Challenge.rw_spinboard_k44_outcomes_and_words.Holds := by
 refine holds_law Av.Hd.SQ λsaid=>?_
 refine holds_open (q:=Av.Hd.qq) (loose:=Av.Hd.loose) (Xt:=Av.Hd.Xt) (XP:=XL Av.Hd.qq Av.Hd.lv) (Yf:=Av.Hd.HH.obs) (Ya:=Av.Hd.HH.val) (YP:=Av.Hd.HH.says) (d:=⟨"law",L2.Ey (Av.top 81),L2.Ei (Av.top 81),L2.DX (Av.top 81),Av.Hd.iH (Av.top 81)⟩) (kwd:=[]) (N:=Av.Hd.NN) Av.Hd.Uw Av.Hd.HH.of Av.Hd.HH.keeps (λs e=>xl_of s (Bool.and_eq_true_iff.mp e).1) XL.keeps (by kernel_rfl) (by kernel_rfl) (by kernel_rfl) (λs e=>recFacts_of (Bool.and_eq_true_iff.mp e).2) (by kernel_rfl) said (by kernel_rfl) ⟨U,U,U,U,U,by decide +kernel⟩ ?hw ?hc
 case hw=>w_witness2
 refine Av.walk (l:=PySem.Challenge.rw_spinboard_k44_outcomes_and_words) rfl rfl (λw h Y=>PySem.W.kIn_of Y) ?F
 case F =>
  intro w mg fa h KX G hmg
  refine' Av.X7m (K:=Av.Hd.KK w.params) (f:=576) (aZ:=337) (D:=24) (Ds:=188) (A_NeverSo:=109) (A_NoMark:=61) (A_NoAmount:=49) (A_NoShare:=37) (A_NoBoard:=73) (A_NoMove:=85) (A_NoCell:=97) (A_NoTable:=121) (A_NoText:=140) (A_NotBorne:=159) (A_Unguarded:=178) KX G hmg ?_ (Av.Hd.aY _) ?_ ?_ (Av.Hd.fz "spinboard.shares" 412 187 186) (Av.Hd.xQ _) (Av.Hd.fz "spinboard.shares" 412 202 201) (Av.Hd.xP _) (Av.Hd.fz "spinboard.shares" 412 216 215) (Av.Hd.fz "spinboard.shares" 412 223 222) (Av.Hd.fz "spinboard.shares" 412 230 229) (Av.Hd.fz "spinboard.shares" 412 237 236) (Av.Hd.fz "spinboard.shares" 412 244 243) (Av.Hd.fz "spinboard.amounts" 496 251 250) (Av.Hd.fz "spinboard.amounts" 496 256 255) (Av.Hd.fz "spinboard.amounts" 496 263 262) (Av.Hd.fz "spinboard.amounts" 496 268 267) (Av.Hd.fz "spinboard.amounts" 496 275 274) (Av.Hd.xO _) (Av.Hd.fz "spinboard.amounts" 496 289 288) (Av.Hd.fz "spinboard.amounts" 496 294 293) (Av.Hd.fz "spinboard.amounts" 496 301 300) (Av.Hd.fz "spinboard.marks" 569 308 307) (Av.Hd.fz "spinboard.marks" 569 315 314) (Av.Hd.fz "spinboard.marks" 569 322 321) (Av.Hd.fz "spinboard.marks" 569 329 328) (Av.Hd.fz "spinboard.marks" 569 336 335) (Av.Hd.fz "spinboard.boards" 611 344 343) (Av.Hd.fz "spinboard.boards" 611 351 350) (Av.Hd.fz "spinboard.boards" 611 356 355) (Av.Hd.fz "spinboard.boards" 611 363 362) (Av.Hd.fz "spinboard.looks" 650 370 369) (Av.Hd.fz "spinboard.looks" 650 377 376) (Av.Hd.fz "spinboard.looks" 650 382 381) (Av.Hd.fz "spinboard.looks" 650 389 388) (Av.Hd.fz "spinboard.looks" 650 394 393) (Av.Hd.fz "spinboard.looks" 650 399 398) (Av.Hd.fz "spinboard.looks" 650 406 405) (Av.Hd.fz "spinboard.looks" 650 411 410) (Av.Hd.fz "spinboard.looks" 650 416 415) (Av.Hd.fz "law_spinboard_k44_outcomes_and_words" 720 423 422) (Av.Hd.fz "law_spinboard_k44_outcomes_and_words" 720 430 429) (Av.Hd.fz "law_spinboard_k44_outcomes_and_words" 720 435 434) (Av.Hd.fz "law_spinboard_k44_outcomes_and_words" 720 442 441) (Av.Hd.fz "law_spinboard_k44_outcomes_and_words" 720 447 446) (Av.Hd.fz "law_spinboard_k44_outcomes_and_words" 720 454 453) (Av.Hd.fz "law_spinboard_k44_outcomes_and_words" 720 459 458) (Av.Hd.fz "law_spinboard_k44_outcomes_and_words" 720 466 465) (Av.Hd.fz "law_spinboard_k44_outcomes_and_words" 720 473 472) (Av.Hd.fz "law_spinboard_k44_outcomes_and_words" 720 480 479) (Av.Hd.fz "law_spinboard_k44_outcomes_and_words" 720 485 484) (Av.Hd.fz "law_spinboard_k44_outcomes_and_words" 720 490 489) (Av.Hd.fz "law_spinboard_k44_outcomes_and_words" 720 497 496) (Av.Hd.fz "law_spinboard_k44_outcomes_and_words" 720 502 501) (Av.Hd.fz "law_spinboard_k44_outcomes_and_words" 720 509 508) (Av.Hd.fz "law_spinboard_k44_outcomes_and_words" 720 516 515) (Av.Hd.fz "law_spinboard_k44_outcomes_and_words" 720 523 522) (Av.Hd.fz "law_spinboard_k44_outcomes_and_words" 720 528 527) (Av.Hd.fz "law_spinboard_k44_outcomes_and_words" 720 533 532) (Av.Hd.fz "law_spinboard_k44_outcomes_and_words" 720 540 539) (Av.Hd.fz "law_spinboard_k44_outcomes_and_words" 720 545 544) (Av.Hd.fz "law_spinboard_k44_outcomes_and_words" 720 550 549) (Av.Hd.fz "law_spinboard_k44_outcomes_and_words" 720 557 556) (Av.Hd.fz "law_spinboard_k44_outcomes_and_words" 720 564 563) (Av.Hd.fz "law_spinboard_k44_outcomes_and_words" 720 571 570) ?_ ?_ ?_ ?_ ?_ ?_ ?_ ?_ ?_ ?_ ?_ ?_ ?_ ?_ ?_ ?_ ?_ ?_ ?_ ?_ ?_ (Av.Hd.aj _) (Av.Hd.bA _) ?_ ?_ (L2.excAt (Av.Hd.bB _) ?_ ?_ ?_) (L2.excAt (Av.Hd.wL _) ?_ ?_ ?_) (L2.excAt (Av.Hd.wN _) ?_ ?_ ?_) ?_ ?_ ⟨?_,?_,?_,?_,?_,?_,?_⟩ ?_ ?_ ?_ ?_ ?_ ?_ ?_ ?_ ?_ ?_ ?_ ?_ ?_ ?_ ?_ ?_ ?_ ?_ ?_ ?_ ?_ ?_ ?_
  all_goals kernel_rfl
