import PyProof.Rows.All
import Wide.All
import OpenK.AllK
import Wide.FinOn
import Lean
import PyProof.EqAt
import PyProof.EqKinds
import PyProof.TupleCall
import PyProof.Rows.BitMore
import PyProof.ConsumeWalk
import PyProof.Rows.SetFrom
import PyProof.WalksMore
import PyProof.FactsAll.subtypes_4
import PyProof.Rows.SortWalk
import PyProof.Rows.TupDisplay
import PyProof.EnumMake
import PyProof.Rows.EnumRows
import PyProof.SumAny
import PyProof.Rows.MinMaxN
import PyProof.StrLawsIdx
import PyProof.StationsW
import PyProof.ExcClass3
import PyProof.ExcBaseAll.ValueError
import PyProof.RulesAs
import PyProof.ExcArgsOwn
import PyProof.ExcAttrAll.ValueError
import PyProof.InstStoreFacts
import PyProof.ExcClass2
import PyProof.ExcInit
import PyProof.NsDelKeeps
import PyProof.Seq
import PyProof.Walks
import PyProof.Rows.SortRev
import PySem.Challenge.RW_spinboard_k82_guarded_and_back
noncomputable section
open PySem PySem.Spec PyProof.Rows
theorem O{α:Sort u}{a:α}:a=a:=rfl
abbrev U0:=PySem.W.Frag
abbrev U1:=List (Addr×Obj)
abbrev U3:=Value->Shared->Prop
abbrev U5:=List Addr
abbrev U6:=Str->Option Value
abbrev U9:=List Value
abbrev W0:=List Int
abbrev W1:=Shared
abbrev W3:=Program
abbrev W4:=Array Value
abbrev W5:=List Str
abbrev W6:=World
abbrev W7:=Value
abbrev W8:=List Nat
abbrev W9:=Array (Option Value)
abbrev Y0:=Option Addr
abbrev Y1:=Around
abbrev Y2:=List (Option Nat)
abbrev Y3:=List Stmt
abbrev Y4:=Addr
noncomputable abbrev Ng (h:Heap)(m:Str->Option Value):=h.Ns mainGlobals m
set_option linter.all false
section
open PySem.W
def A_:=@List.length_map
def Ef:=@List.getD_eq_getElem?_getD
def Cg:=@List.map_append
def DK:=@Nat.lt_of_lt_of_le
def Cz:=@List.getElem?_map
def Fq:=@List.getElem?_eq_some_iff
def Bw:=@wpAny_bind
def Cr:=@decide_eq_false
def FP:=@Heap.get?_push_of_some
def Cv:=@Nat.two_pow_pos
def CT:=@Nat.le_refl
def Dm:=@Int.toNat_natCast
def Cd:=@Heap.lt_size
def Ed:=@List.length_append
def GR:=@List.getElem?_eq_getElem
def Fz:=@Option.map_eq_some_iff
def FJ:=@List.size_toArray
def Fj:=@List.mem_singleton
def Es:=@Nat.testBit_xor
def EY:=@PySem.boot_len
def Ec:=@decide_eq_true
def G3:=@Nat.pow_le_pow_right
def El:=@List.mem_range
def Dw:=@List.mem_cons
def Gv:=@Heap.get?_push_size
def Cq:=@wpAny_pure
def Gu:=@Bool.false_ne_true
def Jb:=@Nat.mod_two_eq_zero_or_one
def Ew:=@PySem.W.mg_of
def Eb:=@Nat.ne_of_lt
def Ek:=@Nat.le_trans
def Hu:=@PySem.W.mg_none_of
def Gz:=@List.all_eq_true
def JH:=@List.mem_append_right
def Gy:=@boot_isinstance
def HX:=@Bool.and_eq_true
def GQ:=@Nat.xor_assoc
def Gh:=@List.map_cons
def GP:=@List.mem_map
def Od:=@PySem.F.slot_int_bit_length
def JG:=@decide_eq_true_eq
def Kg:=@Nat.pow_lt_pow_right
def Kf:=@Nat.eq_of_testBit_eq
def Ke:=@List.mem_of_getElem?
def I_:=@List.not_mem_nil
def Ir:=@List.mem_append
def Jt:=@of_decide_eq_false
def Fy:=@Nat.zero_le
def Pk:=@PySem.F.type_int_bit_length
def Js:=@List.take_add_one
def Li:=@List.mem_cons_of_mem
def Kd:=@of_decide_eq_true
def Kz:=@Option.toList_some
def Ky:=@Int.emod_lt_of_pos
def GK:=@wpAny_mono
def Kc:=@List.take_length
def Ka:=@List.length_take
def Pj:=@PySem.F.plainAttrs_list
def Lh:=@Nat.xor_lt_two_pow
def Lg:=@List.mem_cons_self
def Jr:=@Int.emod_nonneg
def Nb:=@Nat.testBit_two_pow
def HW:=@Nat.pow_add
def Uu:=@Nat.testBit_eq_decide_div_mod_eq
def Ph:=@PySem.F.plainAttrs_int
def Oc:=@List.mem_append_left
def Kw:=@Nat.zero_testBit
def KZ:=@PySem.W.kia_one
def KY:=@Nat.testBit_and
def KR:=@List.append_nil
def Lf:=@List.length_cons
def NZ:=@wpAny_truthy_bool
def Rv:=@List.getElem?_append_left
def Ob:=@Nat.lt_of_le_of_lt
def Ru:=@PySem.F.type_list_append
def Rt:=@PySem.F.slot_list_append
def Ja:=@Nat.xor_self
def Ut:=@Nat.mul_lt_mul_of_pos_right
def Le:=@Bool.or_eq_true
def Pg:=@Array.length_toList
def NQ:=@Nat.mod_eq_of_lt
def KQ:=@Nat.pow_succ'
def Us:=@List.getElem?_append_right
def Qy:=@Nat.div_lt_of_lt_mul
def Rr:=@Heap.get?_update_other
def NP:=@Nat.not_lt_zero
def Oa:=@Nat.lt_succ_self
def KN:=@List.map_map
def KJ:=@Int.zero_add
def NK:=@Heap.size_push
def Qx:=@Int.natCast_nonneg
def Ip:=@segRun_of
def Io:=@piece_app
def Ur:=@Nat.testBit_lt_two_pow
def Qw:=@wpAny_newObj_type
def Rq:=@PySem.mem_of_lookup
def Rp:=@List.replicate_succ
def Ld:=@Nat.xor_zero
def Lb:=@Nat.mul_comm
def La:=@Nat.add_zero
def Uq:=@Heap.get?_update_self
def Ro:=@wpAny_Call_Name_kw
def Ht:=@or_false
def Rn:=@List.filter_append
def OJ:=@Nat.lt_irrefl
def M_:=@Nat.pow_succ
def M9:=@Nat.ne_of_gt
def KH:=@Nat.mod_lt
def LQ:=@wpAny_field
def Qv:=@List.range_succ
def Qu:=@List.nodup_cons
def Zk:=@Int.eq_of_mul_eq_mul_right
def Pb:=@wpAny_holding
def OD:=@Nat.zero_add
def N_:=@Nat.and_comm
def Uo:=@Bool.false_eq_true
def W_:=@List.mem_iff_getElem
def Rm:=@wpAny_passesOwn
def Zj:=@wpAny_comprehension_free
def Um:=@Nat.lt_succ_of_lt
def Ul:=@List.append_assoc
def Pa:=@List.map_nil
def PX:=@Int.ne_of_gt
def Zi:=@Nat.testBit_mod_two_pow
def Zh:=@List.getElem?_replicate
def Qt:=@List.any_cons
def N8:=@Int.one_mul
def Qs:=@Bool.false_or
def Uk:=@List.getElem_mem
def Uj:=@List.any_eq_true
def Zg:=@Nat.testBit_shiftRight
def Wz:=@Nat.add_sub_cancel
def Qq:=@codeAny_mono
def Qp:=@Nat.xor_comm
def PN:=@Nat.one_mul
def Zf:=@List.length_singleton
def Ze:=@List.length_replicate
def Ui:=@List.find?_cons
def PL:=@Int.le_refl
def Uh:=@Bool.eq_iff_iff
def Wy:=@List.flatten_cons
def jV:=@PySem.F.excBase_ValueError
def Zd:=@List.getElem?_set_ne
def jU:=@Nat.and_xor_distrib_right
def Kv:=@if_false
def Wx:=@Nat.div_eq_of_lt
def Ww:=@List.lookup_cons
def Zc:=@List.map_congr_left
def Zb:=@List.length_reverse
def Rk:=@Nat.lt_trans
def jT:=@List.filterMap_cons_some
def Rj:=@Int.mul_comm
def Ug:=@wpAny_standAt
def Wv:=@wpAny_execs_nil
def jR:=@wpAny_callSpecial?_slot
def Za:=@Nat.mul_div_cancel
def ZX:=@Int.natAbs_natCast
def Ue:=@Int.mul_assoc
def jQ:=@PySem.W.cellsFrom_some
def jP:=@List.getElem?_set_self
def ZW:=@wpAny_pyIter_list
def KD:=@if_true
def ZV:=@List.length_range
def ZS:=@List.foldl_append
def Wu:=@wpAny_setField
def Wt:=@wpAny_seqItems
def Ws:=@Bool.false_and
def PJ:=@boot_list
def Ud:=@Nat.le_of_lt
def jO:=@List.length_filter_le
def jN:=@List.getElem?_reverse
def Uc:=@Int.pow_succ
def ZR:=@wpAny_call_entry
def ZQ:=@Nat.le_add_right
def Wr:=@List.map_take
def Wq:=@Bool.or_false
def ZP:=@Nat.div_add_mod
def ZM:=@List.of_mem_zip
def ZL:=@List.length_set
def jM:=@List.filterMap_cons
def tY:=@wpAny_newFunctionEnv_cells
def tX:=@Int.fdiv_eq_ediv_of_nonneg
def tW:=@Array.getElem?_eq_some_iff
def jL:=@wpAny_pyIter_tuple
def jK:=@tupleKind_room_in1
def PB:=@boot_any
def jJ:=@PySem.W.noMix_ints
def jH:=@PySem.W.kitx_tuple
def jG:=@PySem.W.callWith_K
def jF:=@Nat.sub_add_cancel
def jE:=@Nat.and_one_is_mod
def Wo:=@Nat.add_comm
def Wn:=@List.all_map
def tV:=@PySem.F.slot_dict_getitem
def tU:=@Nat.shiftRight_eq_div_pow
def tR:=@Nat.ge_two_pow_of_testBit
def ZK:=@Nat.add_le_add
def tQ:=@List.pairwise_iff_getElem
def tO:=@wpAny_getItem_list_slice
def Ub:=@wpAny_call
def jD:=@wpAny_assign_Name
def jC:=@PySem.W.same_ints
def tL:=@PySem.F.type_list_extend
def tK:=@PySem.F.slot_list_extend
def tH:=@Nat.and_xor_distrib_left
def jB:=@List.pairwise_map
def jA:=@List.flatMap_cons
def tG:=@List.filterMap_cons_none
def tE:=@Int.mul_ediv_cancel_left
def ZJ:=@bitNot_bitNot
def tD:=@PySem.W.canLayAll0_ints
def sy:=@PySem.F.plain_list_iadd
def su:=@PySem.F.attr_ValueError
def sZ:=@Nat.testBit_div_two_pow
def Wk:=@Nat.mod_one
def Wj:=@Int.pow_pos
def i_:=@wpAny_execs_cons
def iz:=@decide_eq_decide
def iy:=@Nat.mul_mod_left
def iu:=@Nat.le_of_not_lt
def ig:=@List.mem_nil_iff
def sY:=@subscriptTail_builtinR
def sX:=@codeAny_compStart_list
def sW:=@Nat.div_div_eq_div_mul
def sV:=@List.take_of_length_le
def sU:=@wpAny_isTrue_Compare1
def sS:=@exec_Assign_Name_used
def sO:=@codeAny_call_function
def iZ:=@codeAny_builtin
def sJ:=@PySem.W.depthAll_ints
def ZG:=@Nat.zero_xor
def ZF:=@Nat.zero_mul
def iY:=@List.sum_append
def iW:=@List.mem_filter
def iV:=@List.foldl_cons
def iU:=@Int.mul_eq_zero
def ZD:=@Int.le_trans
def iT:=@Int.emod_two_eq
def sI:=@Array.getElem?_toList
def Wi:=@Nat.sub_le
def iR:=@Nat.mul_le_mul
def iQ:=@Int.natAbs_pow
def iM:=@Bool.xor_false
def iK:=@Bool.and_false
def ZC:=@Nat.le_succ
def iJ:=@wpAny_attempt
def iI:=@ne_dataH_same
def iH:=@eq_dataH_same
def iG:=@Nat.add_assoc
def iD:=@Bool.true_and
def Y_:=@typeIs_int
def Y9:=@call_meets
def Y8:=@beq_iff_eq
def iC:=@wpAny_typeOf
def iB:=@seqIndex_neg
def h_:=@Nat.zero_and
def g_:=@Nat.mul_zero
def mY:=@List.any_nil
def mX:=@Int.add_zero
def Xf:=@boot_int
def Xe:=@boot_all
end
set_option Elab.async false
set_option maxRecDepth 100000
namespace L2
abbrev Key:=Sum Int Str
noncomputable def G_:Key->Value->Bool
 | .inl k,v=>Value.isInt k v
 | .inr x,v=>Value.isStrOf x v
noncomputable def jf (w:W6):Key->Int
 | .inl k=>hashInt k
 | .inr x=>hashStr w x
theorem Oz:∀{k:Key}{v:W7},G_ k v=true->(∃i t,k=Sum.inl i/\v=Value.int i t)\/(∃x t,k=Sum.inr x/\v=Value.str x t)
 | .inl i,v,h=>by
  obtain⟨t,e⟩:=Value.isInt_shape (k:=i) (v:=v) h;exact .inl ⟨i,t,O,e⟩
 | .inr x,v,h=>by
  obtain⟨t,e⟩:=Value.isStrOf_shape (x:=x) (v:=v) h;exact .inr ⟨x,t,O,e⟩
theorem X0i(i:Int)(t:Tok):G_ (.inl i) (.int i t)=true:=by simp[G_,Value.isInt]
theorem oE(x:Str)(t:Tok):G_ (.inr x) (.str x t)=true:=by simp[G_,Value.isStrOf]
theorem W2r(a b:Int):decide ((Sum.inl a:Key)=Sum.inl b)=(a == b):=by
 by_cases e:a=b
 ·subst e;simp
 ·have h:¬ (Sum.inl a:Key)=Sum.inl b:=λq=>e (Sum.inl.inj q);rw[Cr h];exact(beq_eq_false_iff_ne.mpr e).symm
theorem W2o(a b:Str):decide ((Sum.inr a:Key)=Sum.inr b)=decide (a=b):=by
 by_cases e:a=b
 ·subst e;simp
 ·have h:¬ (Sum.inr a:Key)=Sum.inr b:=λq=>e (Sum.inr.inj q);rw[Cr h,Cr e]
theorem W2q(a:Int)(b:Str):decide ((Sum.inl a:Key)=Sum.inr b)=false:=Cr (λq=>nomatch q)
theorem W2p(a:Str)(b:Int):decide ((Sum.inr a:Key)=Sum.inl b)=false:=Cr (λq=>nomatch q)
noncomputable def JM (prog:W3)(w:W6):PySem.KeyKind prog w Key where
 is:=G_
 hash:=jf w
 inj:=λv a b ha hb=>by
  rcases Oz ha with ⟨i,t,rfl,rfl⟩ | ⟨x,t,rfl,rfl⟩
  ·rcases Oz hb with ⟨j,u,rfl,e⟩ | ⟨y,u,rfl,e⟩
   ·injection e with e1 _;rw[e1]
   ·exact nomatch e
  ·rcases Oz hb with ⟨j,u,rfl,e⟩ | ⟨y,u,rfl,e⟩
   ·exact nomatch e
   ·injection e with e1 _;rw[e1]
 byValue:=λk v h=>by
  rcases Oz h with ⟨i,t,rfl,rfl⟩ | ⟨x,t,rfl,rfl⟩<;>rfl
 pyHash:=λhv h=>by
  rcases Oz hv with ⟨i,t,rfl,rfl⟩ | ⟨x,t,rfl,rfl⟩
  ·exact wpAny_pyHash_int h
  ·exact wpAny_pyHash_str h
 eqBool:=λhu hv h=>by
  rcases Oz hu with ⟨i,t,rfl,rfl⟩ | ⟨x,t,rfl,rfl⟩
  ·rcases Oz hv with ⟨j,u,rfl,rfl⟩ | ⟨y,u,rfl,rfl⟩
   ·rw[W2r]at h;exact wpAny_eqBool_int h
   ·rw[W2q]at h;exact SeqAt.EqAt.int_str i t y u _ _ _ _ h
  ·rcases Oz hv with ⟨j,u,rfl,rfl⟩ | ⟨y,u,rfl,rfl⟩
   ·rw[W2p]at h;exact SeqAt.EqAt.str_int x t j u _ _ _ _ h
   ·rw[W2o]at h;exact wpAny_eqBool_str h
 «strs»:=λk x t v h=>by
  rcases Oz h with ⟨i,u,rfl,e⟩ | ⟨y,u,rfl,e⟩
  ·exact nomatch e
  ·injection e with e1 _
   subst e1
   cases v<;>rfl
theorem Y3b(prog:W3)(w:W6)(i:Int)(t:Tok):(JM prog w).is (.inl i) (.int i t)=true:=X0i i t
theorem Y3a(prog:W3)(w:W6)(x:Str)(t:Tok):(JM prog w).is (.inr x) (.str x t)=true:=oE x t
inductive V where
 | non | bl (b:Bool) | int (i:Int) | str (x:Str) | byt (b:Array UInt8) | flt (b:UInt64) | ref (a:Y4) | ty (n:String)
 deriving DecidableEq
def RelV:V->Value->Prop
 | .non,u=>u=Value.none
 | .bl b,u=>u=Value.bool b
 | .int i,u=>∃t,u=Value.int i t
 | .str x,u=>∃t,u=Value.str x t
 | .byt b,u=>∃t,u=Value.bytes b t
 | .flt b,u=>∃t,u=Value.float b t
 | .ref a,u=>u=Value.ref a
 | .ty n,u=>u=Value.type n
abbrev Vals:List V->List Value->Prop:=Paired RelV
variable{us:U9}
theorem Vals.length{xs:List V}(r:Vals xs us):xs.length=us.length:=Paired.length r
theorem Vals.get:∀{xs:List V}{us:U9}{i:Nat}{x:V},Vals xs us->xs[i]?=some x->∃u,us[i]?=some u/\RelV x u
 | _,_,_,_,.nil,e=>by simp at e
 | _,_,0,_,.cons r _,e=>by simp at e;subst e;exact⟨_,rfl,r⟩
 | _,_,i+1,x,.cons _ t,e=>by
  obtain⟨u,h1,h2⟩:=Vals.get (i:=i) (x:=x) t (by simpa using e);exact⟨u,by simpa using h1,h2⟩
theorem Vals.set{x:V}{u:W7}(r:RelV x u):∀{xs:List V}{us:U9} (i:Nat),Vals xs us->Vals (xs.set i x) (us.set i u)
 | _,_,_,.nil=>.nil
 | _,_,0,.cons _ t=>.cons r t
 | _,_,i+1,.cons q t=>.cons q (Vals.set r i t)
theorem Vals.append:∀{xs ys:List V}{us ws:U9},Vals xs us->Vals ys ws->Vals (xs++ys) (us++ws)
 | _,_,_,_,.nil,s=>s
 | _,_,_,_,.cons r t,s=>.cons r (Vals.append t s)
theorem Vals.take:∀{xs:List V}{us:U9} (n:Nat),Vals xs us->Vals (xs.take n) (us.take n)
 | _,_,0,_=>.nil
 | _,_,_+1,.nil=>.nil
 | _,_,n+1,.cons r t=>.cons r (Vals.take n t)
theorem Vals.drop:∀{xs:List V}{us:U9} (n:Nat),Vals xs us->Vals (xs.drop n) (us.drop n)
 | _,_,0,r=>r
 | _,_,_+1,.nil=>.nil
 | _,_,n+1,.cons _ t=>Vals.drop n t
def Gx:Option V->Option Value->Prop
 | some v,some u=>RelV v u
 | none,none=>True
 | _,_=>False
def KV {κ:Type}:List (κ×V)->List (κ×Value)->Prop:=Paired λ(p:κ×V) (q:κ×Value)=>p.1=q.1/\RelV p.2 q.2
noncomputable def kV:Key->V
 | .inl i=>.int i
 | .inr x=>.str x
inductive HO where
 | lst (xs:List V)
 | tup (xs:List V)
 | dK (kvs:List (Key×V)) | dT (kvs:List (List Key×V))
 | set (S:Int->Bool) (n:Nat)
 | ins (C dx:Y4) (fs:List (Str×V))
 | own (x:Y4)
 | xd (fs:List (Str×V))
 | met (f x:Y4)
 | rng (lo hi:Int)
 | frz (o:Obj) (u:HO)
 | tbl (ps:W4)
 | ext (φ:Heap->Prop)
abbrev Hp:=Addr->Option HO
noncomputable def upd (H:Hp)(a:Y4)(o:HO):Hp:=λb=>if b=a then some o else H b
variable{H:Hp}{a:Y4}{o:HO}
theorem Al:upd H a o a=some o:=by unfold upd;rw[if_pos rfl]
variable{b:Y4}
theorem Cj(h:b≠a):upd H a o b=H b:=by unfold upd;rw[if_neg h]
theorem Lw{u:HO}(h:H a=some o)(h':H b=some u)(d:o≠u):a≠b:=by
 intro e;subst e;rw[h]at h';exact d (Option.some.inj h')
theorem QX(h:H a=some o)(h':H b=none):a≠b:=by
 intro e;subst e;rw[h]at h';cases h'
section
variable (P:W3) (w:W6)
def Bh (H:Hp)(h:Heap)(a:Y4):HO->Prop
 | .lst xs=>xs.length<=sizeLine/\∃(its:U9) (n:Nat),Vals xs its/\h.get? a=some { cls:=.type "list",data:=.seq its.toArray n}
 | .tup xs=>xs.length<=sizeLine/\∃its:List Value,Vals xs its/\IsTup h a its.toArray
 | .dK kvs=>kvs.length<=sizeLine/\(a == sysModules)=false/\∃vs,KV kvs vs/\h.DictOf (JM P w) a vs
 | .dT kvs=>kvs.length<=sizeLine/\(a == sysModules)=false/\∃xs:List (List Key×Addr×Value),
   Paired (λ(p:List Key×V) (q:List Key×Addr×Value)=>p.1=q.1/\H q.2.1=some (.tup (p.1.map kV))/\RelV p.2 q.2.2) kvs xs /\
   ∃o es ep,h.get? a=some o/\o.ExactDict/\o.data=.dict es ep/\es.toList=xs.map (entryOfKey (tupleKind (JM P w)))/\(xs.map (·.1)).Nodup
 | .set S n=>h.SetOf (intKind P w) a S n
 | .ins C dx fs=>H dx=some (.own a)/\fs.length<=1000/\dx≠a/\h.get? a=some (PySem.W.instObj C dx) /\
   ∃mA,h.Ns1 dx mA/\(∀f,Gx (fs.lookup f) (mA f))/\PySem.Within mA (fs.map (·.1))
 | .own _=>∃o,h.get? a=some o
 | .xd fs=>∃mA,h.Ns1 a mA/\∀f,Gx (fs.lookup f) (mA f)
 | .rng lo hi=>∃t u v,h.get? a=some { cls:=.type "range",data:=.fields #[.int lo t,.int hi u,.int 1 v]}
 | .frz o u=>h.get? a=some o/\Bh H h a u
 | .tbl ps=>h.get? a=some { cls:=.none,data:=.fields ps}
 | .met f x=>h.get? a=some (PySem.W.methodObj (.ref f) (.ref x))
 | .ext φ=>φ h/\(∃o,h.get? a=some o)/\∀h1 h2:Heap,φ h1->(∀o,h1.get? a=some o->h2.get? a=some o)->φ h2
def Fb (H:Hp)(h:Heap):Prop:=∀a o,H a=some o->Bh P w H h a o
end
section
variable {P:W3}{w:W6}{H H':Hp}{h h':Heap}{a:Y4}{o:HO}
theorem Bh.lt(x:Bh P w H h a o):a<h.objs.size:=by
 cases o with
 | lst xs=>obtain⟨_,_,_,_,e⟩:=x;exact Cd e
 | tup xs=>obtain⟨_,_,_,p⟩:=x;exact p.lt
 | dK kvs=>obtain⟨_,_,_,_,o,_,_,e,_⟩:=x;exact Cd e
 | dT kvs=>obtain⟨_,_,_,_,o,_,_,e,_⟩:=x;exact Cd e
 | set S n=>obtain⟨o,_,_,_,e,_⟩:=x;exact Cd e
 | ins C dx fs=>obtain⟨_,_,_,e,_⟩:=x;exact Cd e
 | own y=>obtain⟨_,e⟩:=x;exact Cd e
 | xd fs=>obtain⟨_,⟨_,_,_,e,_⟩,_⟩:=x;exact Cd e
 | rng lo hi=>obtain⟨_,_,_,e⟩:=x;exact Cd e
 | frz ob u=>obtain⟨e,_⟩:=x;exact Cd e
 | tbl ps=>exact Cd (show h.get? a=some _ from x)
 | met f y=>exact Cd (show h.get? a=some _ from x)
 | ext φ=>obtain⟨_,⟨_,e⟩,_⟩:=x;exact Cd e
theorem Paired.mapP{α β:Type}{F G:α->β->Prop}:∀{l₁:List α}{l₂:List β},Paired F l₁ l₂->(∀a b,F a b->G a b)->Paired G l₁ l₂
 | _,_,.nil,_=>.nil
 | _,_,.cons r t,f=>.cons (f _ _ r) (Paired.mapP t f)
theorem Paired.imp'{α β:Type}{F G:α->β->Prop}(f:∀a b,F a b->G a b){l₁:List α}{l₂:List β}(r:Paired F l₁ l₂):Paired G l₁ l₂:=Paired.mapP r f
theorem Bh.stay(x:Bh P w H h a o)(k:∀b u,(b=a\/H b=some (.own a))->h.get? b=some u->h'.get? b=some u)
  (ho:∀b,H b=some (.own a)->H' b=some (.own a)) (ht:∀b xs,H b=some (.tup xs)->H' b=some (.tup xs)):Bh P w H' h' a o:=by
 induction o with
 | lst xs=>obtain⟨z,its,n,r,e⟩:=x;exact⟨z,its,n,r,k _ _ (.inl rfl) e⟩
 | tup xs=>obtain⟨z,its,r,g,e,c⟩:=x;exact⟨z,its,r,g,k _ _ (.inl rfl) e,c⟩
 | dK kvs=>obtain⟨z,y,vs,r,g,es,ep,e,c⟩:=x;exact⟨z,y,vs,r,g,es,ep,k _ _ (.inl rfl) e,c⟩
 | dT kvs =>
  obtain⟨z,y,xs,r,g,es,ep,e,c⟩:=x;exact⟨z,y,xs,Paired.mapP r λp q z=>⟨z.1,ht _ _ z.2.1,z.2.2⟩,g,es,ep,k _ _ (.inl rfl) e,c⟩
 | set S n=>obtain⟨g,es,ep,t,e,c⟩:=x;exact⟨g,es,ep,t,k _ _ (.inl rfl) e,c⟩
 | ins C dx fs =>
  obtain⟨d,z,i,e,mA,⟨od,es,ep,e2,c⟩,r⟩:=x;exact⟨ho _ d,z,i,k _ _ (.inl rfl) e,mA,⟨od,es,ep,k _ _ (.inr d) e2,c⟩,r⟩
 | own y=>obtain⟨g,e⟩:=x;exact⟨g,k _ _ (.inl rfl) e⟩
 | xd fs=>obtain⟨mA,⟨od,es,ep,e,c⟩,r⟩:=x;exact⟨mA,⟨od,es,ep,k _ _ (.inl rfl) e,c⟩,r⟩
 | rng lo hi=>obtain⟨t,u,v,e⟩:=x;exact⟨t,u,v,k _ _ (.inl rfl) e⟩
 | frz g u ih=>obtain⟨e,q⟩:=x;exact⟨k _ _ (.inl rfl) e,ih q⟩
 | tbl ps =>
  have e:h.get? a=some { cls:=.none,data:=.fields ps}:=x;show h'.get? a=some { cls:=.none,data:=.fields ps};exact k a _ (.inl rfl) e
 | met f y =>
  have e:h.get? a=some (PySem.W.methodObj (.ref f) (.ref y)):=x;show h'.get? a=some (PySem.W.methodObj (.ref f) (.ref y));exact k a _ (.inl rfl) e
 | ext φ=>obtain⟨p,⟨o,e⟩,st⟩:=x;exact⟨st _ _ p λo q=>k _ _ (.inl rfl) q,⟨o,k _ _ (.inl rfl) e⟩,st⟩
theorem Fb.lt(x:Fb P w H h)(e:H a=some o):a<h.objs.size:=(x a o e).lt
theorem Fb.fresh(x:Fb P w H h)(e:h.objs.size<=a):H a=none:=by
 cases q:H a with
 | none=>rfl
 | some u=>exact absurd (DK (x.lt q) e) (OJ _)
theorem Fb.kept(x:Fb P w H h)(k:∀b u,h.get? b=some u->h'.get? b=some u):Fb P w H h':=λa o e =>
 (x a o e).stay (λb u _ q=>k b u q) (λ_ q=>q) λ_ _ q=>q
theorem Fb.laid(x:Fb P w H h)(k:∀b u,h.get? b=some u->h'.get? b=some u)(hp:h.objs.size<=a)(new:Bh P w (upd H a o) h' a o):Fb P w (upd H a o) h':=λb u e=>by
 have d:=x.fresh hp;by_cases hb:b=a
 ·subst hb;rw[Al]at e;cases e;exact new
 ·rw[Cj hb]at e;exact(x b u e).stay (λc v _ q=>k c v q) (λc q=>by rw[Cj (QX q d)];exact q) λc xs q=>by rw[Cj (QX q d)];exact q
end
def Rd (H:Hp)(a:Y4)(u:HO):Prop:=H a=some u\/∃o,H a=some (.frz o u)
variable{P:W3}{w:W6}
theorem Rd.ok{h:Heap}{u:HO}(r:Rd H a u)(x:Fb P w H h):Bh P w H h a u:=by
 rcases r with r | ⟨o,r⟩
 ·exact x a u r
 ·obtain⟨_,q⟩:=x a _ r;exact q
def Yn:Option HO->Prop
 | some (.lst _)=>True
 | some (.dK _)=>True
 | some (.dT _)=>True
 | some (.set _ _)=>True
 | some (.ins _ _ _)=>True
 | some (.ext _)=>True
 | _=>False
section
variable {P:W3}{w:W6}{H:Hp}{h h':Heap}{x e:Y4}{o':HO}
theorem Fb.write(ok:Fb P w H h)(mu:Yn (H x))(he:e=x\/H e=some (.own x))(k:∀b u,b≠e->h.get? b=some u->h'.get? b=some u)(heo:∃u,h'.get? e=some u)
  (new:Bh P w (upd H x o') h' x o'):Fb P w (upd H x o') h':=λb u q=>by
 have a:∀c y,H c=some (.own y)->c≠x:=λc y r z=>by subst z;rw[r]at mu;exact mu
 have d:∀c xs,H c=some (.tup xs)->c≠x:=λc xs r z=>by subst z;rw[r]at mu;exact mu
 by_cases hb:b=x
 ·subst hb;rw[Al]at q;cases q;exact new
 ·rw[Cj hb]at q;by_cases hbe:b=e
  ·have g:H b=some (.own x):=by
    rcases he with z | z
    ·exact absurd (hbe.trans z) hb
    ·rw[hbe];exact z
   rw[q]at g;cases g;obtain⟨v,i⟩:=heo;exact⟨v,by rw[hbe];exact i⟩
  ·refine(ok b u q).stay (λc v f r=>k c v ?_ r) (λc r=>by rw[Cj (a c b r)];exact r) λc xs r=>by rw[Cj (d c xs r)];exact r
   rcases f with rfl | f
   ·exact hbe
   ·rintro rfl;rcases he with z | z
    ·exact a c b f z
    ·rw[f]at z;cases z;exact hb rfl
end
structure Un (fs ex:U5) (H H':Hp) (h h':Heap):Prop where
 keep:∀b o,h.get? b=some o->H b=none->b∉fs->b∉ex->h'.get? b=some o
 slot:∀b o,h.get? b=some o->H b=none->b∈fs->b∉ex->∃sl,h'.get? b=some {o with slots:=sl}
 free:∀b o,h.get? b=some o->H b=none->b∉ex->H' b=none
 there:∀b o,h.get? b=some o->b∉ex->∃o',h'.get? b=some o'
 tups:∀b xs,H b=some (.tup xs)->H' b=some (.tup xs)
 frzs:∀b o u,H b=some (.frz o u)->H' b=some (.frz o u)
 tbls:∀b ps,H b=some (.tbl ps)->∃more,H' b=some (.tbl (ps++more))
section
variable {fs fs' ex ex':U5}{H H1 H2:Hp}{h h1 h2 h':Heap}{a x e:Y4}{o:HO}
theorem Un.any(u:Un fs ex H H1 h h1){ob:Obj}(q:h.get? b=some ob)(n:H b=none)(hx:b∉ex):∃sl,h1.get? b=some {ob with slots:=sl}:=by
 by_cases hb:b∈fs
 ·exact u.slot b ob q n hb hx
 ·exact⟨ob.slots,u.keep b ob q n hb hx⟩
theorem Un.kept(k:∀b u,h.get? b=some u->h'.get? b=some u):Un fs ex H H h h' :=
 ⟨λb a q _ _ _=>k b a q,λb a q _ _ _=>⟨a.slots,k b a q⟩,λ_ _ _ n _=>n,λb a q _=>⟨a,k b a q⟩,λ_ _ q=>q,λ_ _ _ q=>q,λ_ ps q=>⟨#[],by rw[q];simp⟩⟩
theorem Un.refl:Un fs ex H H h h:=Un.kept λ_ _ q=>q
theorem Un.laid(k:∀b u,h.get? b=some u->h'.get? b=some u)(hp:h.objs.size<=a)(hn:H a=none):Un fs ex H (upd H a o) h h' where
 keep:=λb u q _ _ _=>k b u q
 slot:=λb u q _ _ _=>⟨u.slots,k b u q⟩
 free:=λb u q n _=>by rw[Cj (Eb (DK (Cd q) hp))];exact n
 there:=λb u q _=>⟨u,k b u q⟩
 tups:=λb xs q=>by rw[Cj (QX q hn)];exact q
 frzs:=λb u xs q=>by rw[Cj (QX q hn)];exact q
 tbls:=λb ps q=>⟨#[],by rw[Cj (QX q hn),q];simp⟩
theorem Un.write(mu:Yn (H x))(he:e=x\/H e=some (.own x))(k:∀b u,b≠e->h.get? b=some u->h'.get? b=some u)(heo:∃u,h'.get? e=some u):Un fs ex H (upd H x o) h h':=by
 have c:∀b,H b=none->b≠x:=λb n z=>by subst z;rw[n]at mu;exact mu
 have hb:∀b,H b=none->b≠e:=λb n z=>by
  subst z;rcases he with r | r
  ·exact c b n r
  ·rw[n]at r;cases r
 have a:∀b u,H b=some u->¬ Yn (some u)->b≠x:=λb u q nm z=>by subst z;rw[q]at mu;exact nm mu
 refine⟨λb u q n _ _=>k b u (hb b n) q,λb u q n _ _=>⟨u.slots,k b u (hb b n) q⟩,λb u q n _=>by rw[Cj (c b n)];exact n,λb u q _=>?_,
  λb xs q=>by rw[Cj (a b _ q λz=>z)];exact q,λb u xs q=>by rw[Cj (a b _ q λz=>z)];exact q,λb ps q=>⟨#[],by rw[Cj (a b _ q λz=>z),q];simp⟩⟩
 by_cases hbe:b=e
 ·subst hbe;exact heo
 ·exact⟨u,k b u hbe q⟩
end
noncomputable def Y5 (h:Heap)(H:Hp):List Addr:=(List.range h.objs.size).filter λa=>(H a).isSome
noncomputable def Iu (h:Heap)(H:Hp):Heap:=PySem.W.hideAll h (Y5 h H)
theorem X0o(h:Heap)(H:Hp):(Iu h H).objs.size=h.objs.size:=PySem.W.hideAll_size _ _
variable{o:Obj}
theorem X4d{h:Heap}(e:h.get? b=some o)(n:H b=none):(Iu h H).get? b=some o :=
 PySem.W.hideAll_get _ e λa=>by
  have q:(H b).isSome=true:=(iW.mp a).2;rw[n]at q;simp at q
theorem X8g{h:Heap}(e:(Iu h H).get? b=some o):h.get? b=some o/\H b=none:=by
 have a:h.get? b=some o:=PySem.W.of_hideAll (Y5 h H) e;refine⟨a,?_⟩;cases q:H b with
 | none=>rfl
 | some x =>
  have c:b∈Y5 h H:=iW.mpr ⟨El.mpr (Cd a),by simp[q]⟩;have z:(Iu h H).get? b=none:=PySem.W.hideAll_none (Y5 h H) c;rw[z]at e;cases e
structure Mod (K:U0) (mg:U6) (base:Heap):Prop where
 kin:K.In base
 glob:base.Ns mainGlobals mg
 blt:∃mb,base.Ns builtinsNs mb/\∀x:Str,x≠"__name__"->mb x=bootBuiltins x
 nolimit:base.NoLimit
structure Cx where
 prog:Program
 w:World
 K:U0
 mg:Str->Option Value
 base:Heap
 A:Around
 N:List Str
 s₀:Shared
 H₀:Hp
 env:Env
 outer:List Env
 stack:List Env
 ex:List Addr
 fn:Str->Bool
 calm:Bool
 pn:List (Addr×Obj)
 xe:Value->Shared->Prop
noncomputable def frs (l:List Env):List Addr:=l.filterMap (·.frame)
noncomputable abbrev Cx.fs (X:Cx):List Addr:=frs X.outer
def Yi (sc:Scope)(x:Str):Prop:=sc.names.lookup x=some .local\/sc.names.lookup x=some .cell\/sc.names.lookup x=some .free
def Loc (sc:Scope)(x:Str):Prop:=sc.names.lookup x=some .local\/sc.names.lookup x=some .cell
def Look (env:Env)(h:Heap)(m:U6)(x:Str)(u:W7):Prop :=
 (env.kindOf x=some .local/\m x=some u)\/((env.kindOf x=some .cell\/env.kindOf x=some .free)/\∃c,env.cells.lookup x=some c/\h.IsCell c (some u))
structure Cx.Ok (X:Cx):Prop where
 mod:Mod X.K X.mg X.base
 kind:X.env.scope.kind=.function
 glob:X.env.globals=mainGlobals
 blt:X.env.builtins=builtinsNs
 above:X.s₀.heap.objs.size<=X.env.locals
 inj:∀x y c,X.env.cells.lookup x=some c->X.env.cells.lookup y=some c->x=y
 has:∀x,(X.env.kindOf x=some .cell\/X.env.kindOf x=some .free)->∃c,X.env.cells.lookup x=some c
 cab:∀x c,X.fn x=true->X.env.cells.lookup x=some c->X.s₀.heap.objs.size<=c
 hd:X.calm=true->X.A.handled=none
 frames:X.A.frames=some X.stack
 stk:X.stack=X.outer\/(X.stack=X.env::X.outer/\X.env.frame=some X.env.locals)
 exf:∀b∈X.ex,b≠X.env.locals/\∀x c,X.env.cells.lookup x=some c->c≠b
 bs:∀b o,X.base.get? b=some o->X.s₀.heap.get? b=some o/\X.H₀ b=none
 bsz:X.base.objs.size<=X.s₀.heap.objs.size
 noex:∀b o,X.base.get? b=some o->b∉X.ex
 exfs:∀b∈X.ex,b∉X.fs
 funs:X.s₀.heap.FunFrames X.base X.outer
 frf:∀b∈X.fs,X.H₀ b=none
structure Inv (X:Cx) (pins:U1) (σ:List (Option V)) (H:Hp) (s:W1):Prop where
 ok:X.Ok
 os:s.os=X.s₀.os
 bare:AllBare s.gens
 base:Un X.fs X.ex X.H₀ H X.s₀.heap s.heap
 loc:∃m,s.heap.Ns X.env.locals m/\∀(i:Nat) (x:Str) (v:V),X.N[i]?=some x->σ[i]?=some (some v)->Yi X.env.scope x->∃u,RelV v u/\Look X.env s.heap m x u
 cell:∀x c,X.env.cells.lookup x=some c->∃v,s.heap.IsCell c v
 free:H X.env.locals=none
 freeC:∀x c,X.env.cells.lookup x=some c->H c=none
 pin:∀p∈X.pn++pins,s.heap.get? p.1=some p.2/\H p.1=none/\p.1≠X.env.locals/\p.1∉X.fs/\∀v,p.2.data≠.cell v
 hok:Fb X.prog X.w H s.heap
 len:σ.length=X.N.length
section
variable {X:Cx}{pins:U1}{σ:List (Option V)}{H H':Hp}{s:W1}{h':Heap}
theorem Cx.Ok.nofr(ok:X.Ok)(e:X.base.get? b=some o):b∉X.fs:=λhb=>by
 have:=(ok.funs.mem hb).1;rw[e]at this;cases this
theorem Inv.bs(I:Inv X pins σ H s):∀b o,X.base.get? b=some o->s.heap.get? b=some o/\H b=none:=λb o e =>
 ⟨I.base.keep b o (I.ok.bs b o e).1 (I.ok.bs b o e).2 (I.ok.nofr e) (I.ok.noex b o e),I.base.free b o (I.ok.bs b o e).1 (I.ok.bs b o e).2 (I.ok.noex b o e)⟩
theorem Inv.bk(I:Inv X pins σ H s):∀b o,X.base.get? b=some o->s.heap.get? b=some o:=λb o e=>(I.bs b o e).1
theorem Inv.mod(I:Inv X pins σ H s):Mod X.K X.mg X.base:=I.ok.mod
theorem Inv.kIn(I:Inv X pins σ H s):X.K.In s.heap:=I.ok.mod.kin.keeps I.bk
theorem Inv.lt(I:Inv X pins σ H s):X.env.locals<s.heap.objs.size:=let ⟨_,hn,_⟩:=I.loc;hn.lt
theorem Inv.sz(I:Inv X pins σ H s):X.s₀.heap.objs.size<=s.heap.objs.size:=Ek I.ok.above (Ud I.lt)
theorem Inv.nofs(I:Inv X pins σ H s)(h:s.heap.objs.size<=a):a∉X.fs:=λhb=>by
 obtain⟨_,o,b,_⟩:=I.ok.funs.mem hb;exact absurd (DK (Cd b) (Ek I.sz h)) (OJ _)
theorem Inv.cne(I:Inv X pins σ H s):∀x c,X.env.cells.lookup x=some c->c≠X.env.locals:=λx c e z=>by
 obtain⟨v,o,d,hd⟩:=I.cell x c e;obtain⟨m,⟨o',es,ep,b,a,_⟩,_⟩:=I.loc;rw[z,b]at d;cases d;rw[a]at hd;cases hd
theorem Inv.funs(I:Inv X pins σ H s):s.heap.FunFrames X.base X.outer:=by
 have all:∀(l:List Env),(∀b∈frs l,b∈X.fs)->X.s₀.heap.FunFrames X.base l->s.heap.FunFrames X.base l:=by
  intro l;induction l with
  | nil=>intro _ _;trivial
  | cons env r ih =>
   intro c g;obtain⟨f,⟨L,o,hf,h,d,hd⟩,i⟩:=g;have a:L∈X.fs:=c L (by unfold frs;rw[jM,hf];exact Lg);obtain⟨j,e⟩:=I.base.slot L o d (I.ok.frf L a) a λz=>I.ok.exfs L z a;exact⟨f,⟨L,_,hf,h,e,hd⟩,ih (λb hb=>c b (by unfold frs;rw[jM,hf];exact Li _ hb)) i⟩
 exact all X.outer (λ_ hb=>hb) I.ok.funs
theorem Inv.stack(I:Inv X pins σ H s):s.heap.FunFrames X.base X.stack:=by
 rcases I.ok.stk with e | ⟨e,hf⟩
 ·rw[e];exact I.funs
 ·rw[e];obtain⟨m,a,_⟩:=I.loc;refine .cons (by rw[I.ok.kind];decide) hf a ?_ I.funs;exact Heap.get?_none_of_le (Ek I.ok.bsz I.ok.above)
theorem Inv.stkSub(I:Inv X pins σ H s):∀b∈frs X.stack,b∈X.env.locals::X.fs:=λb hb=>by
 rcases I.ok.stk with e | ⟨e,hf⟩
 ·rw[e]at hb;exact Li _ hb
 ·rw[e]at hb;unfold frs at hb;rw[jM,hf]at hb;exact hb
theorem Inv.stkFree(I:Inv X pins σ H s):∀b∈frs X.stack,H b=none:=λb hb=>by
 rcases Dw.mp (I.stkSub b hb) with e | hb
 ·rw[e];exact I.free
 ·obtain⟨_,o,a,_⟩:=I.ok.funs.mem hb;exact I.base.free b o a (I.ok.frf b hb) λz=>I.ok.exfs b z hb
variable{g':Array GenState}{t':Nat}{d':Drawn}{ch:U5}
theorem Inv.step(I:Inv X pins σ H s)
  (hch:∀b∈ch,(b∈X.ex\/X.s₀.heap.objs.size<=b)/\b≠X.env.locals/\(∀x c,X.env.cells.lookup x=some c->c≠b)/\∀p∈X.pn++pins,p.1≠b)
  (keep:∀b o,b≠X.env.locals->b∉X.fs->b∉ch->s.heap.get? b=some o->H b=none->h'.get? b=some o)
  (slot:∀b o,b≠X.env.locals->b∈X.fs->b∉ch->s.heap.get? b=some o->H b=none->∃A,h'.get? b=some {o with slots:=A}) (free:∀b o,b∉ch->s.heap.get? b=some o->H b=none->H' b=none)
  (there:∀b o,b∉ch->s.heap.get? b=some o->∃o',h'.get? b=some o')
  (tups:∀b xs,H b=some (.tup xs)->H' b=some (.tup xs)) (frzs:∀b o u,H b=some (.frz o u)->H' b=some (.frz o u)) (tbls:∀b ps,H b=some (.tbl ps)->∃more,H' b=some (.tbl (ps++more)))
  (ns:∀m,s.heap.Ns X.env.locals m->h'.Ns X.env.locals m) (hok:Fb X.prog X.w H' h') (hg:AllBare g'):
  Inv X pins σ H' {s with heap:=h',gens:=g',drawn:=d',toks:=t'}:=by
 have t:∀b o,X.s₀.heap.get? b=some o->b≠X.env.locals:=λb o e=>Eb (DK (Cd e) I.ok.above);have h:∀b o,X.s₀.heap.get? b=some o->b∉X.ex->b∉ch:=λb o e a hb=>by
  rcases (hch b hb).1 with z | z
  ·exact a z
  ·exact absurd (DK (Cd e) z) (OJ _)
 have g:∀x c,X.env.cells.lookup x=some c->∀v,s.heap.IsCell c v->h'.IsCell c v:=λx c e v ⟨o,j,hd⟩=>by
  have f:c∉ch:=λz=>(hch c z).2.2.1 x c e rfl;by_cases hc:c∈X.fs
  ·obtain⟨A,q⟩:=slot c o (I.cne x c e) hc f j (I.freeC x c e);exact⟨_,q,hd⟩
  ·exact⟨o,keep c o (I.cne x c e) hc f j (I.freeC x c e),hd⟩
 refine⟨I.ok,I.os,hg,⟨λb o e n hb a=>?_,λb o e n hb a=>?_,λb o e n a=>?_,λb o e a=>?_,λb xs e=>tups b xs (I.base.tups b xs e),λb o xs e=>frzs b o xs (I.base.frzs b o xs e),λb ps e=>?_⟩,?_,λx c e=>?_,?_,λx c e=>?_,λp hp=>?_,hok,I.len⟩
 ·exact keep b o (t b o e) hb (h b o e a) (I.base.keep b o e n hb a) (I.base.free b o e n a)
 ·obtain⟨A,e1⟩:=I.base.slot b o e n hb a;obtain⟨y,e2⟩:=slot b _ (t b o e) hb (h b o e a) e1 (I.base.free b o e n a);exact⟨y,e2⟩
 ·obtain⟨o',e1⟩:=I.base.there b o e a;exact free b o' (h b o e a) e1 (I.base.free b o e n a)
 ·obtain⟨o',e1⟩:=I.base.there b o e a;exact there b o' (h b o e a) e1
 ·obtain⟨E,e1⟩:=I.base.tbls b ps e;obtain⟨G,e2⟩:=tbls b _ e1;exact⟨E++G,by rw[e2,Array.append_assoc]⟩
 ·obtain⟨m,J,F⟩:=I.loc;refine⟨m,ns m J,λi x v e1 e2 D=>?_⟩;obtain⟨u,r,l⟩:=F i x v e1 e2 D;refine⟨u,r,?_⟩;rcases l with l | ⟨k,c,e,z⟩
  ·exact .inl l
  ·exact .inr ⟨k,c,e,g x c e _ z⟩
 ·obtain⟨v,z⟩:=I.cell x c e;exact⟨v,g x c e v z⟩
 ·obtain⟨m,⟨o,_,_,j,_⟩,_⟩:=I.loc;exact free _ o (λz=>(hch _ z).2.1 rfl) j I.free
 ·obtain⟨v,o,j,hd⟩:=I.cell x c e;exact free c o (λz=>(hch c z).2.2.1 x c e rfl) j (I.freeC x c e)
 ·obtain⟨e,n,B,C,d⟩:=I.pin p hp;have f:p.1∉ch:=λz=>(hch p.1 z).2.2.2 p hp rfl;exact⟨keep p.1 p.2 B C f e n,free p.1 p.2 f e n,B,C,d⟩
theorem Inv.un(I:Inv X pins σ H s)(u:Un X.fs [] H H' s.heap h')(hok:Fb X.prog X.w H' h'):Inv X pins σ H' {s with heap:=h',toks:=t'}:=by
 obtain⟨m,⟨o,es,ep,f,r⟩,_⟩:=id I.loc;obtain⟨k,h⟩:=u.any f I.free (by simp)
 exact I.step (g':=s.gens) (d':=s.drawn) (ch:=[]) (λ_ z=>nomatch z) (λb o _ hb _ e n=>u.keep b o e n hb (by simp)) (λb o _ hb _ e n=>u.slot b o e n hb (by simp)) (λb o _ e n=>u.free b o e n (by simp)) (λb o _ e=>u.there b o e (by simp)) u.tups u.frzs u.tbls (λj i=>by
  obtain⟨o',c,d,a,g⟩:=i
  rw[f]at a;cases a
  exact⟨_,c,d,h,g⟩) hok I.bare
theorem Inv.call(I:Inv X pins σ H s)(u:Un (frs X.stack) ch H H' s.heap h')(hok:Fb X.prog X.w H' h')(hg:AllBare g')
  (hch:∀b∈ch,(b∈X.ex\/X.s₀.heap.objs.size<=b)/\b≠X.env.locals/\(∀x c,X.env.cells.lookup x=some c->c≠b)/\∀p∈X.pn++pins,p.1≠b):
  Inv X pins σ H' {s with heap:=h',gens:=g',drawn:=d',toks:=t'}:=by
 obtain⟨m,⟨o,es,ep,i,r⟩,_⟩:=id I.loc;obtain⟨q,g⟩:=u.any i I.free λz=>(hch _ z).2.1 rfl
 exact I.step (ch:=ch) hch (λb o g hb a e n=>u.keep b o e n (λz=>(Dw.mp (I.stkSub b z)).elim g hb) a) (λb o _ _ a e n=>u.any e n a) (λb o a e n=>u.free b o e n a) (λb o a e=>u.there b o e a) u.tups u.frzs u.tbls (λl k=>by
  obtain⟨o',f,h,d,j⟩:=k
  rw[i]at d;cases d
  exact⟨_,f,h,g,j⟩) hok hg
theorem Inv.turned{it:Y4}(I:Inv X pins σ H s)(k:∀b o,b≠it->s.heap.get? b=some o->h'.get? b=some o)(hn:H it=none)(hL:it≠X.env.locals)
  (h1:it∈X.ex\/X.s₀.heap.objs.size<=it) (h2:∀x c,X.env.cells.lookup x=some c->c≠it) (h3:∀p∈X.pn++pins,p.1≠it):Inv X pins σ H {s with heap:=h',toks:=t'}:=by
 have d:∀b u,H b=some u->b≠it:=λb u e z=>by rw[z,hn]at e;cases e
 refine I.step (g':=s.gens) (d':=s.drawn) (ch:=[it]) (λb hb=>?_) (λb o _ _ a e _=>k b o (λz=>a (by simp[z])) e) (λb o _ _ a e _=>⟨o.slots,k b o (λz=>a (by simp[z])) e⟩) (λ_ _ _ _ n=>n)
  (λb o a e=>⟨o,k b o (λz=>a (by simp[z])) e⟩) (λ_ _ e=>e) (λ_ _ _ e=>e) (λb ps e=>⟨#[],by rw[e];simp⟩) (λm g=>?_) (λb u e=>?_) I.bare
 ·have e:b=it:=by simpa using hb
  subst e;exact⟨h1,hL,h2,h3⟩
 ·obtain⟨o,es,ep,f,r⟩:=g;exact⟨o,es,ep,k _ o (Ne.symm hL) f,r⟩
 ·refine(I.hok b u e).stay (λc v a q=>k c v ?_ q) (λ_ q=>q) λ_ _ q=>q;rcases a with z | z
  ·rw[z];exact d b u e
  ·exact d c _ z
theorem Inv.tok(I:Inv X pins σ H s)(t:Nat):Inv X pins σ H {s with toks:=t}:=I.un (h':=s.heap) (t':=t) Un.refl I.hok
theorem Inv.kept(I:Inv X pins σ H s)(k:∀b u,s.heap.get? b=some u->h'.get? b=some u):Inv X pins σ H {s with heap:=h',toks:=t'}:=I.un (Un.kept k) (I.hok.kept k)
theorem Inv.laid{o:HO}(I:Inv X pins σ H s)(k:∀b u,s.heap.get? b=some u->h'.get? b=some u)(hp:s.heap.objs.size<=a)(new:Bh X.prog X.w (upd H a o) h' a o):
  Inv X pins σ (upd H a o) {s with heap:=h',toks:=t'}:=I.un (Un.laid k hp (I.hok.fresh hp)) (I.hok.laid k hp new)
theorem Inv.write{x e:Y4}{o:HO}(I:Inv X pins σ H s)(mu:Yn (H x))(he:e=x\/H e=some (.own x))(k:∀b u,b≠e->s.heap.get? b=some u->h'.get? b=some u)(heo:∃u,h'.get? e=some u)
  (new:Bh X.prog X.w (upd H x o) h' x o):Inv X pins σ (upd H x o) {s with heap:=h',toks:=t'}:=I.un (Un.write mu he k heo) (I.hok.write mu he k heo new)
theorem Inv.pins_of{pins':U1}(I:Inv X pins σ H s)(h:∀p∈pins',s.heap.get? p.1=some p.2/\H p.1=none/\p.1≠X.env.locals/\p.1∉X.fs/\∀v,p.2.data≠.cell v):Inv X pins' σ H s :=
 ⟨I.ok,I.os,I.bare,I.base,I.loc,I.cell,I.free,I.freeC,λp hp=>(Ir.mp hp).elim (λz=>I.pin p (Oc _ z)) (h p),I.hok,I.len⟩
variable{i:Nat}{x:Str}
theorem qO{N:W5}(hN:N.Nodup){j:Nat}(a:N[i]?=some x)(b:N[j]?=some x):i=j:=by
 obtain⟨h1,e1⟩:=Fq.mp a;obtain⟨h2,e2⟩:=Fq.mp b;exact(List.getElem_inj hN).mp (e1.trans e2.symm)
variable{Q:Unit->Shared->Prop}
theorem oM{M:Model}{A:Y1}{E:U3}{v:V}{u:W7}(I:Inv X pins σ H s)(hN:X.N.Nodup)(hi:X.N[i]?=some x)(t:Loc X.env.scope x)(r:RelV v u)
  (h:∀s',Inv X pins (σ.set i (some v)) H s'->(∃a,Heap.SameBut a s.heap s'.heap/\(a=X.env.locals\/X.env.cells.lookup x=some a))->Q () s') (hf:X.fn x=true\/X.env.scope.names.lookup x=some .local:=by first | exact .inl rfl | exact .inr rfl | assumption):wpAny M A (storeName X.env x u) Q E s:=by
 obtain⟨m,Z,hl⟩:=id I.loc;have K:(X.env.scope.kind == .class || (X.env.scope.kind == .module && X.env.locals != X.env.globals))=false:=by rw[I.ok.kind];rfl
 have G:i<σ.length:=by rw[I.len];exact(Fq.mp hi).1
 have cne:=I.cne;have g:∀{a:Y4}{h':Heap},(∃o,s.heap.get? a=some o/\H a=none)->Heap.SameBut a s.heap h'->Fb X.prog X.w H h':=λ{a h'} ha f b ob e=>by
  obtain⟨_,_,B⟩:=ha;refine(I.hok b ob e).stay (λc L l q=>(f.2 c ?_).trans q) (λ_ q=>q) λ_ _ q=>q;rintro rfl;rcases l with rfl | l
  ·rw[B]at e;cases e
  ·rw[B]at l;cases l
 rcases t with hk | hk
 ·refine wpAny_storeName_local hk Z (λh' W f=>?_) K;obtain⟨oL,_,_,R,_⟩:=id Z;refine h _ ⟨I.ok,I.os,I.bare,⟨λb o e n hb t=>?_,λb o e n hb t=>?_,I.base.free,λb o e t=>?_,I.base.tups,I.base.frzs,I.base.tbls⟩,⟨_,W,λj y v' e1 e2 S=>?_⟩,λy c e=>?_,I.free,I.freeC,λp hp=>?_,g ⟨oL,R,I.free⟩ f,by simpa using I.len⟩ ⟨_,f,.inl rfl⟩
  ·exact(f.2 b (Eb (DK (Cd e) I.ok.above))).trans (I.base.keep b o e n hb t)
  ·obtain⟨T,e1⟩:=I.base.slot b o e n hb t;exact⟨T,(f.2 b (Eb (DK (Cd e) I.ok.above))).trans e1⟩
  ·obtain⟨o',e1⟩:=I.base.there b o e t;exact⟨o',(f.2 b (Eb (DK (Cd e) I.ok.above))).trans e1⟩
  ·by_cases hj:j=i
   ·subst hj;rw[hi]at e1;cases e1;rw[jP G]at e2;cases e2;exact⟨u,r,.inl ⟨hk,by simp⟩⟩
   ·rw[Zd (Ne.symm hj)]at e2;obtain⟨U,P,q⟩:=hl j y v' e1 e2 S;refine⟨U,P,?_⟩;rcases q with ⟨k,e⟩ | ⟨k,c,e,z⟩
    ·refine .inl ⟨k,?_⟩;have:y≠x:=λe=>hj (qO hN e1 (e ▸ hi));simp[this,e]
    ·exact .inr ⟨k,c,e,z.sameBut f (cne y c e)⟩
  ·obtain⟨L,z⟩:=I.cell y c e;exact⟨L,z.sameBut f (cne y c e)⟩
  ·obtain⟨e,n,O,Y,d⟩:=I.pin p hp;exact⟨(f.2 p.1 O).trans e,n,O,Y,d⟩
 ·have C:X.fn x=true:=by
   rcases hf with z | z
   ·exact z
   ·rw[z]at hk;cases hk
  obtain⟨c,l⟩:=I.ok.has x (.inl hk);obtain⟨L,z⟩:=I.cell x c l;refine wpAny_storeName_cell I.ok.kind hk l z (λh' D f=>?_);obtain⟨oc,F,J⟩:=id z;refine h {s with heap:=h'} ⟨I.ok,I.os,I.bare,⟨λb o e n hb t=>?_,λb o e n hb t=>?_,I.base.free,λb o e t=>?_,I.base.tups,I.base.frzs,I.base.tbls⟩,⟨m,Z.sameBut f (Ne.symm (cne x c l)),λj y v' e1 e2 S=>?_⟩,λy c' e=>?_,I.free,I.freeC,λp hp=>?_,g ⟨oc,F,I.freeC x c l⟩ f,by simpa using I.len⟩ ⟨c,f,.inr l⟩
  ·exact(f.2 b (Eb (DK (Cd e) (I.ok.cab x c C l)))).trans (I.base.keep b o e n hb t)
  ·obtain⟨T,e1⟩:=I.base.slot b o e n hb t;exact⟨T,(f.2 b (Eb (DK (Cd e) (I.ok.cab x c C l)))).trans e1⟩
  ·obtain⟨o',e1⟩:=I.base.there b o e t;exact⟨o',(f.2 b (Eb (DK (Cd e) (I.ok.cab x c C l)))).trans e1⟩
  ·by_cases hj:j=i
   ·subst hj;rw[hi]at e1;cases e1;rw[jP G]at e2;cases e2;exact⟨u,r,.inr ⟨.inl hk,c,l,D⟩⟩
   ·rw[Zd (Ne.symm hj)]at e2;obtain⟨U,P,q⟩:=hl j y v' e1 e2 S;refine⟨U,P,?_⟩;rcases q with q | ⟨k,c',e,z'⟩
    ·exact .inl q
    ·refine .inr ⟨k,c',e,z'.sameBut f ?_⟩;rintro rfl;exact hj (qO hN e1 (I.ok.inj _ _ _ e l ▸ hi))
  ·by_cases hcc:c'=c
   ·subst hcc;exact⟨_,D⟩
   ·obtain⟨w2,z2⟩:=I.cell y c' e;exact⟨w2,z2.sameBut f hcc⟩
  ·obtain⟨e,n,O,Y,d⟩:=I.pin p hp;refine⟨(f.2 p.1 ?_).trans e,n,O,Y,d⟩;intro q;rw[q,F]at e;have q':oc=p.2:=Option.some.inj e;exact d L (by rw[<-q'];exact J)
theorem nu{M:Model}{A:Y1}{E:U3}{v:V}{u:W7}(I:Inv X pins σ H s)(hN:X.N.Nodup)(hi:X.N[i]?=some x)(hx:Loc X.env.scope x)(r:RelV v u)
  (h:∀s',Inv X pins (σ.set i (some v)) H s'->Q () s') (hf:X.fn x=true\/X.env.scope.names.lookup x=some .local:=by first | exact .inl rfl | exact .inr rfl | assumption):wpAny M A (storeName X.env x u) Q E s :=
 oM I hN hi hx r (λs' a _=>h s' a) hf
theorem Inv.call'{s':W1}(I:Inv X pins σ H s)(ho:s'.os=s.os)(u:Un (frs X.stack) ch H H' s.heap s'.heap)(hok:Fb X.prog X.w H' s'.heap)(hg:AllBare s'.gens)
  (hch:∀b∈ch,(b∈X.ex\/X.s₀.heap.objs.size<=b)/\b≠X.env.locals/\(∀x c,X.env.cells.lookup x=some c->c≠b)/\∀p∈X.pn++pins,p.1≠b):Inv X pins σ H' s':=by
 obtain⟨h',g',d',t',o'⟩:=s';have e:o'=s.os:=ho;subst e;exact I.call (g':=g') (t':=t') (d':=d') u hok hg hch
end
abbrev XK:=Value->Option Addr->Hp->Prop
abbrev St:=List (Option V)
abbrev VK:=V->Hp->Prop
abbrev TE:=St->Hp->VK->Prop
abbrev TT:=St->Hp->(Bool->Hp->Prop)->Prop
abbrev TA:=St->Hp->(List V->Hp->Prop)->Prop
structure Ends where
 nx:St->Hp->Prop
 rt:VK
 bk:St->Hp->Prop:=λ_ _=>False
 ct:St->Hp->Prop:=λ_ _=>False
abbrev TS:=Ends->St->Hp->Prop
def EP (X:Cx)(pins:U1)(σ:St)(Q:VK)(u:W7)(s':W1):Prop:=∃v H',Inv X pins σ H' s'/\RelV v u/\Q v H'
def TP (X:Cx)(pins:U1)(σ:St)(Q:Bool->Hp->Prop)(b:Bool)(s':W1):Prop:=∃H',Inv X pins σ H' s'/\Q b H'
def AP (X:Cx)(pins:U1)(σ:St)(Q:List V->Hp->Prop)(us:U9)(s':W1):Prop:=∃vs H',Inv X pins σ H' s'/\Vals vs us/\Q vs H'
def SP (X:Cx)(pins:U1)(D:Ends)(f:Flow)(s':W1):Prop :=
 match f with
 | .next=>∃σ' H',Inv X pins σ' H' s'/\D.nx σ' H'
 | .brk=>∃σ' H',Inv X pins σ' H' s'/\D.bk σ' H'
 | .cont=>∃σ' H',Inv X pins σ' H' s'/\D.ct σ' H'
 | .ret u=>∃v σ' H',Inv X pins σ' H' s'/\RelV v u/\D.rt v H'
def PE (X:Cx)(e:Expr)(t:TE):Prop :=
 ∀(pins:U1) (s:W1) (σ:St) (H:Hp) (Q:VK),Inv X pins σ H s->t σ H Q->wpAny (model X.prog X.w) X.A (eval e X.env) (EP X pins σ Q) X.xe s
def PT (X:Cx)(e:Expr)(t:TT):Prop :=
 ∀(pins:U1) (s:W1) (σ:St) (H:Hp) (Q:Bool->Hp->Prop),Inv X pins σ H s->t σ H Q->wpAny (model X.prog X.w) X.A (isTrue e X.env (eval e X.env)) (TP X pins σ Q) X.xe s
def PW (X:Cx)(e:Expr)(t:TT):Prop :=
 ∀(whole:Sem Value) (pins:U1) (s:W1) (σ:St) (H:Hp) (Q:Bool->Hp->Prop),Inv X pins σ H s->t σ H Q->wpAny (model X.prog X.w) X.A (isTrue e X.env whole) (TP X pins σ Q) X.xe s
variable{X:Cx}{e:Expr}
theorem PW.pt{t:TT}(h:PW X e t):PT X e t:=h _
def PA (X:Cx)(es:List Expr)(t:TA):Prop :=
 ∀(pos:Pos) (pins:U1) (s:W1) (σ:St) (H:Hp) (Q:List V->Hp->Prop),Inv X pins σ H s->t σ H Q->wpAny (model X.prog X.w) X.A (spliced (backTo pos (starEach es X.env))) (AP X pins σ Q) X.xe s
def PS (X:Cx)(st:Stmt)(t:TS):Prop :=
 ∀(pins:U1) (s:W1) (σ:St) (H:Hp) (D:Ends),Inv X pins σ H s->t D σ H->wpAny (model X.prog X.w) X.A (exec st X.env) (SP X pins D) X.xe s
def Hq (X:Cx)(st:Y3)(t:TS):Prop :=
 ∀(pins:U1) (s:W1) (σ:St) (H:Hp) (D:Ends),Inv X pins σ H s->t D σ H->wpAny (model X.prog X.w) X.A (execs st X.env) (SP X pins D) X.xe s
variable{A:Y1}{s:W1}
theorem Bm{α:Type}{t:Sem α}{Q Q':α->Shared->Prop}{M:Model}{E:U3}(h:wpAny M A t Q E s)(hQ:∀a s,Q a s->Q' a s):wpAny M A t Q' E s:=GK h hQ λ_ _ x=>x
section
variable {X:Cx}
def V7 (i:Nat):TE:=λσ H Q=>∃v,σ[i]?=some (some v)/\Q v H
def tC (v:V):TE:=λ_ H Q=>Q v H
variable{x:Str}
theorem W1l{i:Nat}{pos:Pos}(hN:X.N[i]?=some x)(hv:Yi X.env.scope x)(hd:(x == ("__debug__":Str))=false:=by decide)(hcd:(x == ("__classdict__":Str))=false:=by decide):PE X (.Name x pos) (V7 i):=by
 intro pins s σ H Q I h;obtain⟨v,e,h⟩:=h;obtain⟨m,b,d⟩:=I.loc;obtain⟨u,r,l⟩:=d i x v hN e hv;have a:EP X pins σ Q u s:=⟨v,H,I,r,h⟩;rcases l with ⟨hk,hm⟩ | ⟨hk,c,hc,hcell⟩
 ·exact wpAny_Name (wpAny_loadName_local I.ok.kind hk b hm a) hd
 ·rcases hk with hk | hk
  ·exact wpAny_Name (wpAny_loadName_cell I.ok.kind hk hc hcell a) hd
  ·exact wpAny_Name (wpAny_loadName_free I.ok.kind hk hc hcell a hcd) hd
theorem Ac{i j pos}:PE X (.Constant (.int i) j pos) (tC (.int i)):=λ_ _ _ H _ I h=>wpAny_Constant_int ⟨.int i,H,I.tok _,⟨_,O⟩,h⟩
theorem Cw{b j pos}:PE X (.Constant (.bool b) j pos) (tC (.bl b)):=λ_ _ _ H _ I h=>Constant_bool ⟨.bl b,H,I,O,h⟩
theorem Yb{j pos}:PE X (.Constant .none j pos) (tC .non):=λ_ _ _ H _ I h=>Constant_none ⟨.non,H,I,O,h⟩
theorem Fg{x j pos}:PE X (.Constant (.str x) j pos) (tC (.str x)):=λ_ _ _ H _ I h=>Calls.Constant_str ⟨.str x,H,I.tok _,⟨_,O⟩,h⟩
def Gl (X:Cx)(x:Str):Prop:=X.env.kindOf x=some .globalImplicit
variable{u:W7}{Q:U3}
theorem RG{E:U3}{pins:U1}{σ:St}{pos:Pos}(I:Inv X pins σ H s)(hg:Gl X x)(hm:X.mg x=some u)(h:Q u s)
  (hd:(x == ("__debug__":Str))=false:=by decide):wpAny (model X.prog X.w) X.A (eval (.Name x pos) X.env) Q E s :=
 Calls.Name_function_global I.ok.kind hg (Calls.loadGlobal_global (by rw[I.ok.glob];exact I.mod.glob.keeps I.bk) hm h) hd
theorem QC{E:U3}{pins:U1}{σ:St}{pos:Pos}(I:Inv X pins σ H s)(hg:Gl X x)(hm:X.mg x=none)(hv:bootBuiltins x=some u)(h:Q u s)
  (hn:x≠"__name__":=by decide) (hd:(x == ("__debug__":Str))=false:=by decide):wpAny (model X.prog X.w) X.A (eval (.Name x pos) X.env) Q E s:=by
 obtain⟨a,h1,h2⟩:=I.mod.blt;exact Calls.Name_function_global I.ok.kind hg (Calls.loadGlobal_builtin (by rw[I.ok.glob];exact I.mod.glob.keeps I.bk) hm (by rw[I.ok.blt];exact h1.keeps I.bk) ((h2 x hn).trans hv) h) hd
theorem QL{v:V}{pos:Pos}(hg:Gl X x)(hm:X.mg x=some u)(r:RelV v u)(hd:(x == ("__debug__":Str))=false:=by decide):PE X (.Name x pos) (tC v):=
 λ_ _ _ H _ I h=>RG I hg hm ⟨v,H,I,r,h⟩ hd
theorem K6{v:V}{pos:Pos}(hg:Gl X x)(hm:X.mg x=none)(hv:bootBuiltins x=some u)(r:RelV v u)(hn:x≠"__name__":=by decide)(hd:(x == ("__debug__":Str))=false:=by decide):PE X (.Name x pos) (tC v):=
 λ_ _ _ H _ I h=>QC I hg hm hv ⟨v,H,I,r,h⟩ hn hd
variable {a b:Expr}{ta tb:TE}{pos:Pos}
def PC (X:Cx)(op:CmpOp)(a b:Expr)(t:TE):Prop :=
 ∀(pins:U1) (s:W1) (σ:St) (H:Hp) (Q:VK),Inv X pins σ H s->t σ H Q ->
  wpAny (model X.prog X.w) X.A (eval a X.env) (λv s₁=>wpAny (model X.prog X.w) X.A (eval b X.env) (λu s₂=>wpAny (model X.prog X.w) X.A (compareOp op v u) (EP X pins σ Q) X.xe s₂) X.xe s₁) X.xe s
def tB (t:TE):TT:=λσ H Q=>t σ H λx H1=>∃c,x=.bl c/\Q c H1
variable{t:TE}
theorem zX{op:CmpOp}(h:PC X op a b t)(h1:behindInMarks op b=false:=by first | exact nobehind _ (by decide) (by decide) | rfl):PT X (.Compare a [op] [b] pos) (tB t):=by
 intro pins s σ H Q I g;refine sU (Bm (h pins s σ H _ I g) λv j h1=>Bm h1 λu s2 h2=>Bm h2 λc s3 ⟨x,H1,i,f,e⟩=>?_) h1;obtain⟨d,rfl,q⟩:=e;cases f;exact NZ ⟨H1,i,q⟩
theorem Dd(h:PE X e t)(he:∀whole,isTrue e X.env whole=(do let v ← whole;standAt e.pos;holding [v] (truthy v)):=by intro _;rfl):PT X e (tB t):=by
 intro pins s σ H Q I c;refine isTrue_plain (Bm (h pins s σ H _ I c) λv g ⟨x,H1,f,b,a⟩=>?_) (he _);obtain⟨d,rfl,q⟩:=a;cases b;exact NZ ⟨H1,f,q⟩
variable {tA tB':TT}{rest:List Expr}
def gU (t u:TT):TT:=λσ H Q=>t σ H λc H1=>if c=true then u σ H1 Q else Q false H1
def tOr (t u:TT):TT:=λσ H Q=>t σ H λc H1=>if c=true then Q true H1 else u σ H1 Q
def f9 (t:TT):TT:=λσ H Q=>t σ H λc H1=>Q (!c) H1
theorem RM(ha:PT X a tA):PW X (.BoolOp .And [a] pos) tA:=by
 intro b pins s σ H Q I h;refine isTrue_and (Bm (ha pins s σ H Q I h) λc d e=>?_);cases c with
 | true=>exact isTrue_and_nil e
 | false=>exact e
theorem Je(ha:PT X a tA):PW X (.BoolOp .Or [a] pos) tA:=by
 intro b pins s σ H Q I h;refine isTrue_or (Bm (ha pins s σ H Q I h) λc d e=>?_);cases c with
 | false=>exact isTrue_or_nil e
 | true=>exact e
theorem Oj(ha:PT X a tA)(hb:PW X (.BoolOp .And (b::rest) pos) tB'):PW X (.BoolOp .And (a::b::rest) pos) (gU tA tB'):=by
 intro f pins s σ H Q I h;refine isTrue_and (Bm (ha pins s σ H _ I h) λc g ⟨H1,e,d⟩=>?_);cases c with
 | true=>exact hb f pins g σ H1 Q e d
 | false=>exact⟨H1,e,d⟩
theorem HJ(ha:PT X a tA)(hb:PW X (.BoolOp .Or (b::rest) pos) tB'):PW X (.BoolOp .Or (a::b::rest) pos) (tOr tA tB'):=by
 intro f pins s σ H Q I h;refine isTrue_or (Bm (ha pins s σ H _ I h) λc g ⟨H1,e,d⟩=>?_);cases c with
 | true=>exact⟨H1,e,d⟩
 | false=>exact hb f pins g σ H1 Q e d
theorem Fo(ha:PT X a tA):PT X (.UnaryOp .Not a pos) (f9 tA):=by
 intro pins s σ H Q I h;exact isTrue_not (ha pins s σ H (λc H1=>Q (!c) H1) I h)
def WW (ta tb:TE):TE:=λσ H Q=>ta σ H λx H1=>∃c,x=.bl c/\if c=true then tb σ H1 Q else Q (.bl false) H1
def fu (ta tb:TE):TE:=λσ H Q=>ta σ H λx H1=>∃c,x=.bl c/\if c=true then Q (.bl true) H1 else tb σ H1 Q
def WK (ta:TE):TE:=λσ H Q=>ta σ H λx H1=>∃c,x=.bl c/\Q (.bl (!c)) H1
theorem Kq{op}(h:PE X a t):PE X (.BoolOp op [a] pos) t:=λpins s σ H Q I b=>BoolOp_one (h pins s σ H Q I b)
theorem QG(ha:PE X a ta)(hb:PE X (.BoolOp .And (b::rest) pos) tb):PE X (.BoolOp .And (a::b::rest) pos) (WW ta tb):=by
 intro pins s σ H Q I h;refine BoolOp_and (Bm (ha pins s σ H _ I h) λv g ⟨x,H1,e,f,d⟩=>?_);obtain⟨c,rfl,d⟩:=d;cases f;refine NZ ?_;cases c with
 | true=>exact hb pins g σ H1 Q e d
 | false=>exact⟨.bl false,H1,e,rfl,d⟩
theorem YT(ha:PE X a ta)(hb:PE X (.BoolOp .Or (b::rest) pos) tb):PE X (.BoolOp .Or (a::b::rest) pos) (fu ta tb):=by
 intro pins s σ H Q I h;refine BoolOp_or (Bm (ha pins s σ H _ I h) λv g ⟨x,H1,e,f,d⟩=>?_);obtain⟨c,rfl,d⟩:=d;cases f;refine NZ ?_;cases c with
 | false=>exact hb pins g σ H1 Q e d
 | true=>exact⟨.bl true,H1,e,rfl,d⟩
theorem Yc(ha:PE X a ta):PE X (.UnaryOp .Not a pos) (WK ta):=by
 intro pins s σ H Q I h;refine UnaryOp_ (Bm (ha pins s σ H _ I h) λv f ⟨x,H1,e,d,b⟩=>?_);obtain⟨c,rfl,b⟩:=b;cases d;exact not_of (NZ ⟨.bl (!c),H1,e,O,b⟩)
def tIf (t:TT)(ta tb:TE):TE:=λσ H Q=>t σ H λc H1=>if c=true then ta σ H1 Q else tb σ H1 Q
theorem Nu{c:Expr}(hc:PT X c tA)(ha:PE X a ta)(hb:PE X b tb):PE X (.IfExp c a b pos) (tIf tA ta tb):=by
 intro pins s σ H Q I h;refine wpAny_IfExp (Bm (hc pins s σ H _ I h) λd f ⟨H1,g,e⟩=>?_);cases d with
 | true=>exact ha pins f σ H1 Q g e
 | false=>exact hb pins f σ H1 Q g e
end
def Ag (K:U0)(H:Hp)(a:Y4)(xs:List V):Prop :=
 Rd H a (.lst xs) \/
  ∃(o:Obj) (its:W4) (n:Nat),K.lookup a=some o/\o.cls=.type "list"/\o.dict=none/\o.data=.seq its n/\its.size<=sizeLine/\Vals xs its.toList
def Ax (K:U0)(H:Hp)(a:Y4)(xs:List V):Prop :=
 Rd H a (.tup xs) \/
  ∃(o:Obj) (its:W4) (n:Nat),K.lookup a=some o/\o.cls=.type "tuple"/\o.data=.seq its n/\its.size<=sizeLine/\Vals xs its.toList
noncomputable def nO:Value->Option V
 | .none=>some .non
 | .bool b=>some (.bl b)
 | .int i _=>some (.int i)
 | .str x _=>some (.str x)
 | .bytes b _=>some (.byt b)
 | .float b _=>some (.flt b)
 | .ref a=>some (.ref a)
 | .type n=>some (.ty n)
 | _=>none
variable{x:V}{u:W7}
theorem RelV.abs(r:RelV x u):nO u=some x:=by
 cases x with
 | non=>cases r;rfl
 | bl _=>cases r;rfl
 | int _=>obtain⟨t,rfl⟩:=r;rfl
 | str _=>obtain⟨t,rfl⟩:=r;rfl
 | byt _=>obtain⟨t,rfl⟩:=r;rfl
 | flt _=>obtain⟨t,rfl⟩:=r;rfl
 | ref _=>cases r;rfl
 | ty _=>cases r;rfl
theorem RelV.inj{y:V}(r:RelV x u)(q:RelV y u):x=y:=Option.some.inj (r.abs.symm.trans q.abs)
theorem Vals.inj{xs ys:List V}(h:Vals xs us)(h':Vals ys us):xs=ys:=by
 induction h generalizing ys with
 | nil=>cases h';rfl
 | cons r t ih=>cases h' with
  | cons r' t'=>rw[r.inj r',ih t']
section
variable {X:Cx}{pins:U1}{σ:St}{H:Hp}{s:W1}{a:Y4}{xs ys:List V}
theorem Ag.of{K:U0}(h:H a=some (.lst xs)):Ag K H a xs:=.inl (.inl h)
theorem Ax.of{K:U0}(h:H a=some (.tup xs)):Ax K H a xs:=.inl (.inl h)
theorem Inv.list(I:Inv X pins σ H s)(h:Ag X.K H a xs):∃its:List Value,Vals xs its/\PlainL s.heap a its.toArray/\xs.length<=sizeLine:=by
 rcases h with h | ⟨o,its,n,hk,hc,hd,hs,hz,r⟩
 ·obtain⟨z,its,n,r,e⟩:=h.ok I.hok;exact⟨its,r,⟨_,n,e,O,O,O⟩,z⟩
 ·refine⟨its.toList,r,⟨o,n,I.kIn a o hk,hc,hd,by simpa using hs⟩,?_⟩;have e:=r.length;simp only[Pg]at e;lia
theorem Inv.tuple(I:Inv X pins σ H s)(h:Ax X.K H a xs):∃its:List Value,Vals xs its/\IsTup s.heap a its.toArray/\xs.length<=sizeLine:=by
 rcases h with h | ⟨o,its,n,hk,hc,hs,hz,r⟩
 ·obtain⟨z,its,r,p⟩:=h.ok I.hok;exact⟨its,r,p,z⟩
 ·refine⟨its.toList,r,⟨o,I.kIn a o hk,hc,n,by simpa using hs⟩,?_⟩;have e:=r.length;simp only[Pg]at e;lia
theorem Inv.list_inj(I:Inv X pins σ H s)(h:Ag X.K H a xs)(h':Ag X.K H a ys):xs=ys:=by
 obtain⟨its,r,⟨o,n,e,_,_,d⟩,_⟩:=I.list h;obtain⟨its',c,⟨o',f,b,_,_,d'⟩,_⟩:=I.list h';rw[e]at b;cases b;rw[d]at d';injection d' with d1 _;have:its=its':=by simpa using congrArg Array.toList d1
 subst this;exact r.inj c
theorem Inv.tuple_inj(I:Inv X pins σ H s)(h:Ax X.K H a xs)(h':Ax X.K H a ys):xs=ys:=by
 obtain⟨its,r,⟨o,e,_,n,d⟩,_⟩:=I.tuple h;obtain⟨its',c,⟨o',b,_,f,d'⟩,_⟩:=I.tuple h';rw[e]at b;cases b;rw[d]at d';injection d' with d1 _;have:its=its':=by simpa using congrArg Array.toList d1
 subst this;exact r.inj c
end
noncomputable abbrev Cx.wish (X:Cx)(E:U3):Cx:={X with xe:=E}
noncomputable abbrev Cx.nox (X:Cx):Cx:=X.wish λ_ _=>False
theorem Cx.Ok.wish(ok:X.Ok)(E:U3):(X.wish E).Ok :=
 ⟨ok.mod,ok.kind,ok.glob,ok.blt,ok.above,ok.inj,ok.has,ok.cab,ok.hd,ok.frames,ok.stk,ok.exf,ok.bs,ok.bsz,ok.noex,ok.exfs,ok.funs,ok.frf⟩
theorem Cx.Ok.unwish{E:U3}(ok:(X.wish E).Ok):X.Ok :=
 ⟨ok.mod,ok.kind,ok.glob,ok.blt,ok.above,ok.inj,ok.has,ok.cab,ok.hd,ok.frames,ok.stk,ok.exf,ok.bs,ok.bsz,ok.noex,ok.exfs,ok.funs,ok.frf⟩
section
variable {X:Cx}{pins:U1}{σ:St}{H:Hp}{s:W1}{E:U3}
theorem Inv.wish(I:Inv X pins σ H s)(E:U3):Inv (X.wish E) pins σ H s:=⟨I.ok.wish E,I.os,I.bare,I.base,I.loc,I.cell,I.free,I.freeC,I.pin,I.hok,I.len⟩
theorem Inv.unwish(I:Inv (X.wish E) pins σ H s):Inv X pins σ H s:=⟨I.ok.unwish,I.os,I.bare,I.base,I.loc,I.cell,I.free,I.freeC,I.pin,I.hok,I.len⟩
theorem SP.unwish{D:Ends}{f:Flow}{s':W1}(h:SP (X.wish E) pins D f s'):SP X pins D f s':=by
 cases f with
 | next=>obtain⟨a,H',I,q⟩:=h;exact⟨a,H',I.unwish,q⟩
 | brk=>obtain⟨a,H',I,q⟩:=h;exact⟨a,H',I.unwish,q⟩
 | cont=>obtain⟨a,H',I,q⟩:=h;exact⟨a,H',I.unwish,q⟩
 | ret u=>obtain⟨v,a,H',I,r,q⟩:=h;exact⟨v,a,H',I.unwish,r,q⟩
theorem Hq.nox{st:Y3}{t:TS}(h:Hq X.nox st t):Hq X st t:=λpins s σ H D I a =>
 GK (h pins s σ H D (I.wish _) a) (λ_ _ q=>q.unwish) λ_ _ z=>False.elim z
end
section
variable {X:Cx}{st:Stmt}{rest:Y3}{t u:TS}{e:Expr}{te:TE}{pos:Pos}
def WL:TS:=λD σ H=>D.nx σ H
def V_ (t u:TS):TS:=λD σ H=>t {D with nx:=u D} σ H
theorem CJ:Hq X [] WL:=λ_ _ σ H _ I h=>Wv ⟨σ,H,I,h⟩
theorem Av(h1:PS X st t)(h2:Hq X rest u):Hq X (st::rest) (V_ t u):=by
 intro pins s σ H D I h;refine i_ (Bm (h1 pins s σ H {D with nx:=u D} I h) λf c q=>?_);cases f with
 | next =>
  obtain⟨b,H',a,q⟩:=q;exact h2 pins c b H' D a q
 | ret v=>exact q
 | brk=>exact q
 | cont=>exact q
theorem Aj(h1:PS X st t):Hq X [st] t:=by
 intro pins s σ H D I h;refine i_ (Bm (h1 pins s σ H D I h) λf a q=>?_);cases f with
 | next=>exact Wv q
 | ret v=>exact q
 | brk=>exact q
 | cont=>exact q
theorem Inv.quiet{pins:U1}{σ:St}(I:Inv X pins σ H s):interactive X.env=false:=by simp[interactive,I.ok.kind]
def WR (te:TE):TS:=λD σ H=>te σ H λ_ H1=>D.nx σ H1
theorem H_(he:PE X e te)(hs:swapsWith e none pos.line X.env=pure false:=by rfl):PS X (.Expr e pos) (WR te):=by
 intro pins s σ H D I h;exact wpAny_Expr_any (Bm (he pins s σ H _ I h) λv d ⟨x,H1,b,c,a⟩=>⟨σ,H1,b,a⟩) I.quiet hs
def fj (te:TE):TS:=λD σ H=>te σ H D.rt
theorem BJ(he:PE X e te):PS X (.Return (some e) pos) (fj te):=by
 intro pins s σ H D I h;exact wpAny_Return_some (Bm (he pins s σ H _ I h) λv d ⟨x,H1,c,b,a⟩=>⟨x,σ,H1,c,b,a⟩)
def gG (c:TT)(t u:TS):TS:=λD σ H=>c σ H λb H1=>if b=true then t D σ H1 else u D σ H1
theorem B_{c:Expr}{a b:Y3}{tc:TT}(hc:PT X c tc)(ha:Hq X a t)(hb:Hq X b u):PS X (.If c a b pos) (gG tc t u):=by
 intro pins s σ H D I h;refine wpAny_If (Bm (hc pins s σ H _ I h) λd f ⟨H1,g,e⟩=>?_);cases d with
 | true=>exact ha pins f σ H1 D g e
 | false=>exact hb pins f σ H1 D g e
def MN:TS:=λ_ _ _=>False
theorem Ov:PS X st MN:=λ_ _ _ _ _ _ h=>h.elim
theorem Tg{sts:Y3}:Hq X sts MN:=λ_ _ _ _ _ _ h=>h.elim
end
abbrev TG:=V->St->Hp->(St->Hp->Prop)->Prop
abbrev Tw:=List V->St->Hp->(St->Hp->Prop)->Prop
def PG (X:Cx)(target:Expr)(t:TG):Prop :=
 ∀(pins:U1) (s:W1) (σ:St) (H:Hp) (v:V) (u:W7) (Q:St->Hp->Prop),Inv X pins σ H s->RelV v u->t v σ H Q ->
  wpAny (model X.prog X.w) X.A (assign target X.env u) (λ_ s'=>∃σ' H',Inv X pins σ' H' s'/\Q σ' H') X.xe s
def fM (X:Cx)(ts:List Expr)(t:Tw):Prop :=
 ∀(pins:U1) (s:W1) (σ:St) (H:Hp) (vs:List V) (us:U9) (Q:St->Hp->Prop),Inv X pins σ H s->Vals vs us->t vs σ H Q ->
  wpAny (model X.prog X.w) X.A (assignInOrder ((assignEach ts X.env).map (·.2)) us) (λ_ s'=>∃σ' H',Inv X pins σ' H' s'/\Q σ' H') X.xe s
abbrev Tv:=V->V->V->Hp->(Hp->Prop)->Prop
def Ym (X:Cx)(t:Tv):Prop :=
 ∀(pins:U1) (s:W1) (σ:St) (H:Hp) (o i v:V) (ov iv u:W7) (Q:Hp->Prop),Inv X pins σ H s->RelV o ov->RelV i iv->RelV v u->t o i v H Q ->
  wpAny (model X.prog X.w) X.A (setItem ov iv u) (λ_ s'=>∃H',Inv X pins σ H' s'/\Q H') X.xe s
section
variable {X:Cx}{pos:Pos}
def CQ (i:Nat):TG:=λv σ H Q=>Q (σ.set i (some v)) H
theorem CV{i:Nat}{x:Str}(hN:X.N.Nodup)(hi:X.N[i]?=some x)(hx:Loc X.env.scope x)(hf:X.fn x=true\/X.env.scope.names.lookup x=some .local:=by first | exact .inl rfl | exact .inr rfl | assumption):PG X (.Name x pos) (CQ i):=by
 intro pins s σ H v u Q I r h;exact jD (nu I hN hi hx r (λs' a=>⟨_,H,a,h⟩) hf)
def R_:Tw:=λvs σ H Q=>vs=[]/\Q σ H
def Gn (t:TG)(u:Tw):Tw:=λvs σ H Q=>∃v r,vs=v::r/\t v σ H λσ' H'=>u r σ' H' Q
theorem RK:fM X [] R_:=by
 intro pins s σ H vs us Q I r h;obtain⟨e,h⟩:=h;subst e;cases r;exact assignInOrder_nil ⟨σ,H,I,h⟩
theorem GF{e:Expr}{es:List Expr}{t:TG}{u:Tw}(h1:PG X e t)(h2:fM X es u)
  (hs:(assignEach (e::es) X.env).map (·.2)=assign e X.env::(assignEach es X.env).map (·.2):=by rfl):fM X (e::es) (Gn t u):=by
 intro pins s σ H vs us Q I r h;obtain⟨v,f,e1,h⟩:=h;subst e1;cases r with
 | cons r rr =>
  rw[hs];refine assignInOrder_cons (Bm (h1 pins s σ H _ _ _ I r h) λ_ c ⟨b,H1,d,a⟩=>?_);exact h2 pins c b H1 _ _ Q d rr a
def R9 (K:U0)(n:Nat)(t:Tw):TG:=λv σ H Q=>∃a xs,v=.ref a/\Ax K H a xs/\xs.length=n/\t xs σ H Q
theorem RD{es:List Expr}{k:Nat}{t:Tw}{n:Nat}(hc:X.calm=true)(h:fM X es t)
  (hn:(assignEach es X.env).length=n:=by rfl) (hst:(assignEach es X.env).findIdx? (·.1)=none:=by rfl):PG X (.Tuple es k pos) (R9 X.K n t):=by
 intro pins s σ H v u Q I r c;obtain⟨a,xs,e1,g,i,c⟩:=c;subst e1;cases r;obtain⟨its,d,j,m⟩:=I.tuple g;refine assign_Tuple_tuple (I.ok.hd hc) j (by simp[hn,<-i,d.length]) hst λh' f=>?_;have l:Inv X pins σ H {s with heap:=h'}:=I.kept (t':=s.toks) λb o e=>f b o (Eb (Cd e)) e;exact h pins _ σ H xs _ Q l (by simpa using d) c
def m9 (to ti:TE)(t:Tv):TG:=λv σ H Q=>to σ H λo H1=>ti σ H1 λi H2=>t o i v H2 λH3=>Q σ H3
theorem bO{o i:Expr}{to ti:TE}{t:Tv}(ho:PE X o to)(hi:PE X i ti)(hs:Ym X t)
  (ha:∀v,assign (.Subscript o i pos) X.env v=(do
   let a ← holding [v] (eval o X.env)
   let b ← holding [v,a] (eval i X.env)
   standAt pos
   holding [v,a,b] (setItem a b v)
   release [v,a,b] []):=by intro _;rfl):PG X (.Subscript o i pos) (m9 to ti t):=by
 intro pins s σ H v u Q I r h;rw[ha];refine Bw (Pb (Bm (ho pins s σ H _ I h) λa m ⟨x,H1,n,e,c⟩=>?_));refine Bw (Pb (Bm (hi pins m σ H1 _ n c) λb s2 ⟨y,H2,l,f,d⟩=>?_));refine Bw (Ug (Bw (Pb (Bm (hs pins s2 σ H2 x y v a b u _ l e f r d) λ_ s3 ⟨j,g,k⟩=>?_))));exact wpAny_release ⟨σ,j,g,k⟩
def O8 (te:TE)(g:TG):TS:=λD σ H=>te σ H λx H1=>g x σ H1 D.nx
theorem TV{tg:Expr}{te:TE}{g:TG}(he:PE X e te)(hg:PG X tg g)(hs:swapsWithSole [tg] e pos.line X.env=pure false:=by rfl)(hw:swappedStores [tg] e X.env=pure none:=by rfl)
  (h1:(assignEach [tg] X.env).map (·.2)=[assign tg X.env]:=by rfl):PS X (.Assign [tg] e pos) (O8 te g):=by
 intro pins s σ H D I h;refine wpAny_Assign_stores (Bm (he pins s σ H _ I h) λv c ⟨x,H1,d,b,a⟩=>?_) hs hw;rw[h1];exact Bm (hg pins c σ H1 x v _ d b a) λ_ s2 q=>q
theorem BR{i:Nat}{x:Str}{e:Expr}{te:TE}{pos':Pos}(hN:X.N.Nodup)(hi:X.N[i]?=some x)(hx:Loc X.env.scope x)(he:PE X e te)(hs:swapsWith e (some (.Name x pos')) pos.line X.env=pure false:=by rfl)(hf:X.fn x=true\/X.env.scope.names.lookup x=some .local:=by first | exact .inl rfl | exact .inr rfl | assumption):
  PS X (.Assign [.Name x pos'] e pos) (O8 te (CQ i)):=by
 intro pins s σ H D I h;refine wpAny_Assign_Name (Bm (he pins s σ H _ I h) λv f ⟨y,H1,d,c,b⟩=>?_) hs;exact nu d hN hi hx c (λs2 a=>⟨_,H1,a,b⟩) hf
end
section
variable {X:Cx}{pos:Pos}
def Ra (c:TT)(tb:TS):TS:=λD σ H=>∃W:Nat->St->Hp->Prop,(∃m,W m σ H)/\∀m σ H,W m σ H ->
 c σ H λb H1=>if b=true then ∃N:St->Hp->Prop,(∀σ' H',N σ' H'->∃m',m'<m/\W m' σ' H')/\tb {D with nx:=N,ct:=N,bk:=D.nx} σ H1 else D.nx σ H1
theorem Vc{c:Expr}{body:Y3}{tc:TT}{tb:TS}(hp:PassesOwn (model X.prog X.w) X.A X.env X.xe)(hc:PT X c tc)(hb:Hq X body tb):PS X (.While c body [] pos) (Ra tc tb):=by
 intro pins s σ H D I h;obtain⟨W,⟨u,t⟩,a⟩:=h;refine wpAny_While (codeAny_whileLoop (λn s'=>∃σ' H',Inv X pins σ' H' s'/\W n σ' H') ?_ u ⟨σ,H,I,t⟩);rintro n y ⟨i,H1,z,x⟩;refine Rm hp (Bm (hc pins y i H1 _ z (a n i H1 x)) λb s2 ⟨H2,r,g⟩=>?_);cases b with
 | true =>
  obtain⟨N,q,g⟩:=g;rw[if_pos rfl];refine Rm hp (Bm (hb pins s2 i H2 _ r g) λf s3 j=>?_);cases f with
  | next =>
   obtain⟨e,d,m,k⟩:=j;obtain⟨l,o,p⟩:=q e d k;exact⟨l,o,e,d,m,p⟩
  | cont =>
   obtain⟨e,d,m,k⟩:=j;obtain⟨l,o,p⟩:=q e d k;exact⟨l,o,e,d,m,p⟩
  | brk=>exact j
  | ret v=>exact j
 | false =>
  rw[if_neg Gu];exact Wv ⟨i,H2,r,g⟩
end
structure It where
 go:Nat->Hp->Prop
 yld:Nat->Hp->V->Hp->Prop
 stop:Nat->Hp->Prop
def E_ (X:Cx)(pins:U1)(H:Hp)(b:Y4):Prop :=
 H b=none/\b≠X.env.locals/\b∉X.fs/\(b∈X.ex\/X.s₀.heap.objs.size<=b)/\(∀x c,X.env.cells.lookup x=some c->c≠b)/\∀p∈X.pn++pins,p.1≠b
variable{pins:U1}{σ:St}
theorem Inv.fpOk{H':Hp}(I:Inv X pins σ H s)(hb:s.heap.objs.size<=b)(hn:H' b=none):E_ X pins H' b:=by
 refine⟨hn,M9 (DK I.lt hb),I.nofs hb,.inr (Ek I.sz hb),λx c e z=>?_,λp hp z=>?_⟩
 ·obtain⟨v,q⟩:=I.cell x c e;exact absurd (DK q.lt (by rw[z];exact hb)) (OJ _)
 ·exact absurd (DK (Cd (I.pin p hp).1) (by rw[z];exact hb)) (OJ _)
structure Turn (P:W3) (w:W6) (K:U0) (tg:Expr) (J:It) (fp:U5) (it:Y4) (tn:Nat->Heap->Prop):Prop where
 mem:it∈fp
 obj:∀i h,tn i h->∀b∈fp,∃o,h.get? b=some o/\∀v,o.data≠.cell v
 keep:∀i h h',tn i h->(∀b∈fp,∀o,h.get? b=some o->h'.get? b=some o)->tn i h'
 item:∀(X:Cx),X.prog=P->X.w=w->X.K=K->X.calm=true->∀(i:Nat) (pins:U1) (s:W1) (σ:St) (H:Hp) (E:U3),Inv X pins σ H s->(∀b∈fp,E_ X pins H b)->tn i s.heap->J.go i H ->
  wpAny (model P w) X.A (pyNext (.ref it)) (λr s1=>∃u,r=some u /\
   wpAny (model P w) X.A (letOwnedTupleGo tg (.ref it) u) (λ_ s2=>∃x H',Inv X pins σ H' s2/\RelV x u/\J.yld i H x H'/\tn (i+1) s2.heap/\∀b∈fp,H' b=none) E s1) E s
 done:∀(X:Cx),X.prog=P->X.w=w->X.K=K->X.calm=true->∀(i:Nat) (pins:U1) (s:W1) (σ:St) (H:Hp) (E:U3),Inv X pins σ H s->(∀b∈fp,E_ X pins H b)->tn i s.heap->J.stop i H ->
  wpAny (model P w) X.A (pyNext (.ref it)) (λr s1=>r=none/\Inv X pins σ H s1) E s
 self:∀(A:Y1) (i:Nat) (s:W1) (Q:U3) (E:U3),tn i s.heap->Q (.ref it) s->wpAny (model P w) A (pyIter (.ref it)) Q E s
abbrev TI:=St->Hp->(It->Hp->Prop)->Prop
def PIE (X:Cx)(pins:U1)(σ:St)(tg:Expr)(R:It->Hp->Prop)(itv:W7)(s2:W1):Prop :=
 ∃(it:Y4) (fp:U5) (tn:Nat->Heap->Prop) (J:It) (H':Hp),itv=.ref it/\Inv X pins σ H' s2/\Turn X.prog X.w X.K tg J fp it tn/\tn 0 s2.heap/\(∀b∈fp,E_ X pins H' b)/\R J H'
def PI (X:Cx)(tg iter:Expr)(wi:TI):Prop :=
 ∀(pins:U1) (s:W1) (σ:St) (H:Hp) (R:It->Hp->Prop),Inv X pins σ H s->wi σ H R ->
  wpAny (model X.prog X.w) X.A (eval iter X.env) (λv s1=>wpAny (model X.prog X.w) X.A (pyIter v) (PIE X pins σ tg R) X.xe s1) X.xe s
variable{tg:Expr}
theorem fC{M:Model}{E:U3}{it:Y4}{n:String}{vs:W4}{Q:Unit->Shared->Prop}(ho:s.heap.get? it=some o)(hc:o.cls=.type n)(hd:o.data=.fields vs)
  (hn:["enumerate","zip","dict_itemiterator","dict_reverseitemiterator","odict_iterator","itertools.zip_longest","itertools.pairwise"].contains n=false) (hQ:Q () s):wpAny M A (letOwnedTupleGo tg (.ref it) u) Q E s:=by
 unfold letOwnedTupleGo;cases tg<;>first
  | exact Cq hQ
  | (cases u<;>first
    | exact Cq hQ
    | (refine Bw (wpAny_load ho ?_);rw[hc,hd];show wpAny M A (if (["enumerate","zip","dict_itemiterator","dict_reverseitemiterator","odict_iterator","itertools.zip_longest","itertools.pairwise"].contains n && vs[0]? == some (rawInt _))=true then _ else _) Q E s;rw[if_neg (by intro h;rw[hn,Ws]at h;cases h)];exact Cq hQ))
def K9 (K:U0)(a:Y4):It :=
 ⟨λi H=>∃xs x,Ag K H a xs/\xs[i]?=some x,λi H x H'=>H'=H/\∀xs,Ag K H a xs->xs[i]?=some x,λi H=>∃xs,Ag K H a xs/\xs.length<=i⟩
def fU (K:U0)(a:Y4):It :=
 ⟨λi H=>∃xs x,Ax K H a xs/\xs[i]?=some x,λi H x H'=>H'=H/\∀xs,Ax K H a xs->xs[i]?=some x,λi H=>∃xs,Ax K H a xs/\xs.length<=i⟩
def HS (lo:Int)(n:Nat):It:=⟨λi _=>i<n,λi H x H'=>H'=H/\x=.int (lo+i),λi _=>n<=i⟩
variable{K:U0}
theorem Y7l(a it:Y4):Turn P w K tg (K9 K a) [it] it (λi h=>h.IsListIter it a i) where
 mem:=by simp
 obj:=λi h st b hb=>by
  have e:b=it:=by simpa using hb
  subst e;obtain⟨o,e,c,d⟩:=st;exact⟨o,e,λv z=>by rw[d]at z;cases z⟩
 keep:=λi h h' st k=>st.at λo e=>k it (by simp) o e
 item:=by
  intro X A l m D i pins s σ H E I hf st C;subst A l m;obtain⟨xs,x,g,j⟩:=C;obtain⟨its,q,p,L⟩:=I.list g;obtain⟨u,N,G⟩:=q.get j;obtain⟨r,t,J,B,n,y⟩:=hf it (by simp);refine wpAny_pyNext_list_item st p.isList (x:=u) (by simpa using N) λh' f M=>?_;have R:Inv X pins σ H {s with heap:=h'}:=I.turned (t':=s.toks) (λb o hb e=>(M.2 b hb).trans e) r t B n y;obtain⟨o,e,c,d⟩:=id f;exact⟨u,O,fC (s:={s with heap:=h'}) e c d (by decide) ⟨x,H,R,G,⟨O,λys F=>by rw[I.list_inj F g];exact j⟩,f,λb hb=>(hf b hb).1⟩⟩
 done:=by
  intro X A l m D i pins s σ H E I hf st C;subst A l m;obtain⟨xs,g,j⟩:=C;obtain⟨its,q,p,L⟩:=I.list g;obtain⟨r,t,J,B,n,y⟩:=hf it (by simp);have S:=q.length;exact wpAny_pyNext_list_end (I.ok.hd D) st p.isList (by simp;lia) λh' Q=>⟨O,I.turned (t':=s.toks) (λb o hb e=>Q b o hb e) r t B n y⟩
 self:=λ_ _ _ _ _ st h=>wpAny_pyIter_listiter st h
theorem Y6g(a it:Y4):Turn P w K tg (fU K a) [it] it (λi h=>h.IsTupleIter it a i) where
 mem:=by simp
 obj:=λi h st b hb=>by
  have e:b=it:=by simpa using hb
  subst e;obtain⟨o,e,c,d⟩:=st;exact⟨o,e,λv z=>by rw[d]at z;cases z⟩
 keep:=λi h h' st k=>st.at λo e=>k it (by simp) o e
 item:=by
  intro X A l m D i pins s σ H E I hf st C;subst A l m;obtain⟨xs,x,g,j⟩:=C;obtain⟨its,q,p,L⟩:=I.tuple g;obtain⟨u,N,G⟩:=q.get j;obtain⟨r,t,J,B,n,y⟩:=hf it (by simp);refine wpAny_pyNext_tuple_item st (show s.heap.IsTuple a its.toArray from p) (x:=u) (by simpa using N) λh' f M=>?_;have R:Inv X pins σ H {s with heap:=h'}:=I.turned (t':=s.toks) (λb o hb e=>(M.2 b hb).trans e) r t B n y;obtain⟨o,e,c,d⟩:=id f;exact⟨u,O,fC (s:={s with heap:=h'}) e c d (by decide) ⟨x,H,R,G,⟨O,λys F=>by rw[I.tuple_inj F g];exact j⟩,f,λb hb=>(hf b hb).1⟩⟩
 done:=by
  intro X A l m D i pins s σ H E I hf st C;subst A l m;obtain⟨xs,g,j⟩:=C;obtain⟨its,q,p,L⟩:=I.tuple g;obtain⟨r,t,J,B,n,y⟩:=hf it (by simp);have S:=q.length;exact wpAny_pyNext_tuple_end (I.ok.hd D) st (show s.heap.IsTuple a its.toArray from p) (by simp;lia) λh' Q=>⟨O,I.turned (t':=s.toks) (λb o hb e=>Q b o hb e) r t B n y⟩
 self:=λ_ _ _ _ _ st h=>wpAny_pyIter_tupleiter st h
theorem Y6h(it:Y4)(lo:Int)(n:Nat):Turn P w K tg (HS lo n) [it] it (λi h=>IsRangeIter h it (lo+(i:Nat)*1) ((n:Int)-(i:Nat)) 1) where
 mem:=by simp
 obj:=λi h st b hb=>by
  have e:b=it:=by simpa using hb
  subst e
  exact⟨_,st,λv z=>by
   have A:Data.fields _=Data.cell v:=z
   cases A⟩
 keep:=λi h h' st k=>k it (by simp) _ st
 item:=by
  intro X p c f g i pins s σ H E I hf st r;subst p c f;obtain⟨j,l,u,q,d,m⟩:=hf it (by simp);have W:=Walks.range (prog:=X.prog) (w:=X.w) (I.ok.hd g) it lo 1 n;refine W.item i s _ _ r st λv h' tk x a kk=>?_;obtain⟨t,rfl⟩:=x;have B:Inv X pins σ H {s with heap:=h',toks:=tk}:=I.turned (λb o hb e=>kk b o (by simpa using hb) e) j l q d m;refine⟨_,O,fC (s:={s with heap:=h',toks:=tk}) (n:="range_iterator") a rfl rfl (by decide) ⟨.int (lo+i),H,B,⟨t,?_⟩,⟨O,O⟩,a,λb hb=>(hf b hb).1⟩⟩;rw[Int.mul_one]
 done:=by
  intro X p c f g i pins s σ H E I hf st r;subst p c f;obtain⟨j,l,u,q,d,m⟩:=hf it (by simp);exact wpAny_pyNext_range_end (I.ok.hd g) st (by have:n<=i:=r;lia) λh' y=>⟨O,I.turned (t':=s.toks) (λb o hb e=>y b o hb e) j l q d m⟩
 self:=λ_ _ _ _ _ st h=>wpAny_pyIter_rangeiter st h
section
variable {X:Cx}{tg:Expr}
def Xj (K:U0)(tl:TE):TI:=λσ H R=>tl σ H λx H1=>∃a,x=.ref a/\(∃xs,Ag K H1 a xs)/\R (K9 K a) H1
def mq (K:U0)(tl:TE):TI:=λσ H R=>tl σ H λx H1=>∃a,x=.ref a/\(∃xs,Ax K H1 a xs)/\R (fU K a) H1
theorem GC{l:Expr}{tl:TE}(hl:PE X l tl):PI X tg l (Xj X.K tl):=by
 intro pins s σ H R I h;refine Bm (hl pins s σ H _ I h) λv c ⟨x,H1,d,g,f⟩=>?_;obtain⟨a,e,⟨xs,i⟩,q⟩:=f;subst e;cases g;obtain⟨its,k,p,j⟩:=d.list i;refine ZW p.isList ?_;refine⟨c.heap.objs.size,[c.heap.objs.size],_,_,H1,O,d.kept (t':=c.toks) λb o e=>FP _ e,Y7l a _,⟨_,Gv _ rfl,O,O⟩,λb hb=>?_,q⟩;have e:b=c.heap.objs.size:=by simpa using hb
 subst e;exact d.fpOk (CT _) (d.hok.fresh (CT _))
theorem bQ{l:Expr}{tl:TE}(hl:PE X l tl):PI X tg l (mq X.K tl):=by
 intro pins s σ H R I h;refine Bm (hl pins s σ H _ I h) λv c ⟨x,H1,d,g,f⟩=>?_;obtain⟨a,e,⟨xs,i⟩,q⟩:=f;subst e;cases g;obtain⟨its,k,p,j⟩:=d.tuple i;refine jL (show c.heap.IsTuple a its.toArray from p) ?_;refine⟨c.heap.objs.size,[c.heap.objs.size],_,_,H1,O,d.kept (t':=c.toks) λb o e=>FP _ e,Y6g a _,⟨_,Gv _ rfl,O,O⟩,λb hb=>?_,q⟩;have e:b=c.heap.objs.size:=by simpa using hb
 subst e;exact d.fpOk (CT _) (d.hok.fresh (CT _))
theorem wk{R:It->Hp->Prop}{E:U3}{lo hi:Int}{t u v:Tok}{tk:Nat}(I:Inv X pins σ H s)(h1:-(2^62)<=lo)(h2:lo<2^62)(h3:-(2^62)<=hi)(h4:hi<2^62)
  (q:R (HS lo (hi-lo).toNat) H):wpAny (model X.prog X.w) X.A (pyIter (.ref s.heap.objs.size)) (PIE X pins σ tg R) E {s with heap:=s.heap.push { cls:=.type "range",data:=.fields #[.int lo t,.int hi u,.int 1 v]},toks:=tk}:=by
 refine wpAny_pyIter_range (IsRange.new ..) (small_one h1 h2 h3 h4) ?_;have a:Inv X pins σ H {s with heap:=s.heap.push { cls:=.type "range",data:=.fields #[.int lo t,.int hi u,.int 1 v]},toks:=tk}:=I.kept λb o e=>FP _ e
 refine⟨(s.heap.push { cls:=.type "range",data:=.fields #[.int lo t,.int hi u,.int 1 v]}).objs.size,[(s.heap.push { cls:=.type "range",data:=.fields #[.int lo t,.int hi u,.int 1 v]}).objs.size],_,_,H,O,
  a.kept (t':=tk) λb o e=>FP _ e,Y6h _ lo (hi-lo).toNat,?_,λb hb=>?_,q⟩
 ·have e1:lo+((0:Nat):Int)*1=lo:=by simp
  have e2:(((hi-lo).toNat:Nat):Int)-((0:Nat):Int)=Builtin.Range.rangeSize lo hi 1:=by rw[rangeSize_one];split<;>lia
  show IsRangeIter _ _ (lo+((0:Nat):Int)*1) ((((hi-lo).toNat:Nat):Int)-((0:Nat):Int)) 1;rw[e1,e2];exact Gv _ rfl
 ·have e:b=(s.heap.push { cls:=.type "range",data:=.fields #[.int lo t,.int hi u,.int 1 v]}).objs.size:=by simpa using hb
  subst e;exact a.fpOk (CT _) (a.hok.fresh (CT _))
def Xi (ta:TA):TI:=λσ H R=>ta σ H λvs H1=>∃j:Int,vs=[.int j]/\-(2^62)<=j/\j<2^62/\R (HS 0 j.toNat) H1
def Xg (ta:TA):TI:=λσ H R=>ta σ H λvs H1=>∃i j:Int,vs=[.int i,.int j]/\(-(2^62)<=i/\i<2^62/\-(2^62)<=j/\j<2^62)/\R (HS i (j-i).toNat) H1
theorem J3{a:Expr}{ta:TA}{p pos:Pos}(hg:Gl X "range")(hm:X.mg "range"=none)(ha:PA X [a] ta)(hs:starEach [a] X.env=[(false,eval a X.env)]:=by rfl):PI X tg (.Call (.Name "range" p) [a] [] pos) (Xi ta):=by
 intro pins s σ H R I h;refine Call_ (QC I hg hm boot_range (PyProof.Rows.callWith_type1 (Bm (ha pos pins s σ H _ I h) λus g ⟨vs,H1,f,d,b⟩=>?_) hs rfl));obtain⟨j,e,b,c,q⟩:=b;subst e;cases d with
 | cons r rr =>
  cases rr;obtain⟨t,rfl⟩:=r;exact call_range_1 (wk f (by lia) (by lia) b c (by simpa using q))
theorem Y8l{a b:Expr}{ta:TA}{p pos:Pos}(hg:Gl X "range")(hm:X.mg "range"=none)(ha:PA X [a,b] ta)(hs:starEach [a,b] X.env=[(false,eval a X.env),(false,eval b X.env)]:=by rfl)(hs2:starEach [b] X.env=[(false,eval b X.env)]:=by rfl):
  PI X tg (.Call (.Name "range" p) [a,b] [] pos) (Xg ta):=by
 intro pins s σ H R I h;refine Call_ (QC I hg hm boot_range (PyProof.Rows.callWith_type1 (Bm (ha pos pins s σ H _ I h) λus m ⟨vs,H1,l,f,c⟩=>?_) (by rw[hs,hs2]) (by rw[hs2];rfl)));obtain⟨i,j,e,⟨c,d,k,g⟩,q⟩:=c;subst e;cases f with
 | cons r rr =>
  cases rr with
  | cons r' rr =>
   cases rr;obtain⟨t,rfl⟩:=r;obtain⟨t',rfl⟩:=r';exact call_range_2 (wk l c d k g q)
def gH (wi:TI)(g:TG)(tb:TS):TS:=λD σ H=>wi σ H λJ H1=>∃W:Nat->Nat->St->Hp->Prop,(∃m,W 0 m σ H1)/\∀i m σ H,W i m σ H ->
 (J.stop i H/\D.nx σ H)\/(J.go i H/\∃N:St->Hp->Prop,(∀σ' H',N σ' H'->∃m',m'<m/\W (i+1) m' σ' H')/\∀x H',J.yld i H x H'->g x σ H' λσ2 H2=>tb {D with nx:=N,ct:=N,bk:=D.nx} σ2 H2)
noncomputable def G8 (fp:U5)(h:Heap):List (Addr×Obj):=fp.filterMap λb=>(h.get? b).map λo=>(b,o)
variable{fp:U5}
theorem Vf{h:Heap}(hb:b∈fp)(e:h.get? b=some o):(b,o)∈G8 fp h:=List.mem_filterMap.mpr ⟨b,hb,by rw[e];rfl⟩
theorem Y9q{h:Heap}{p:Addr×Obj}(hp:p∈G8 fp h):p.1∈fp/\h.get? p.1=some p.2:=by
 obtain⟨b,hb,e⟩:=List.mem_filterMap.mp hp;cases q:h.get? b with
 | none=>rw[q]at e;cases e
 | some o =>
  rw[q]at e;have a:(b,o)=p:=Option.some.inj e;subst a;exact⟨hb,q⟩
theorem Inv.pinned(I:Inv X pins σ H s)(hf:∀b∈fp,E_ X pins H b)(ho:∀b∈fp,∃o,s.heap.get? b=some o/\∀v,o.data≠.cell v):Inv X (pins++G8 fp s.heap) σ H s :=
 I.pins_of λp hp=>(Ir.mp hp).elim (λz=>I.pin p (JH _ z)) λz=>by
  obtain⟨hb,e⟩:=Y9q z;obtain⟨c,f,g,_⟩:=hf p.1 hb;obtain⟨o,a,d⟩:=ho p.1 hb;rw[e]at a;cases a;exact⟨e,c,f,g,d⟩
theorem Inv.unpinned{pl:U1}(I:Inv X (pins++pl) σ H s):Inv X pins σ H s:=I.pins_of λp hp=>I.pin p (JH _ (Oc _ hp))
theorem Hy{iter:Expr}{body:Y3}{wi:TI}{g:TG}{tb:TS}{pos:Pos}(hp:PassesOwn (model X.prog X.w) X.A X.env X.xe)(hc:X.calm=true)(hi:PI X tg iter wi)(hg:PG X tg g)(hb:Hq X body tb)
  (hs:∀x,foldedSetIterable iter X.env x=pure x:=by intro _;rfl):PS X (.For tg iter body [] pos) (gH wi g tb):=by
 intro pins s σ H D I h;refine wpAny_For (Bm (hi pins s σ H _ I h) λv s1 h1=>Bm h1 λZ s2 h2=>?_) hs;obtain⟨it,fp,tn,J,H2,e,I2,T,L,R,W,⟨m0,w0⟩,y⟩:=h2;subst e;have a:∀{H':Hp},(∀b∈fp,H' b=none)->∀b∈fp,E_ X pins H' b:=λhn b hb=>⟨hn b hb,(R b hb).2⟩;refine codeAny_forLoop_any (λn s'=>∃i σ' H',Inv X pins σ' H' s'/\tn i s'.heap/\(∀b∈fp,H' b=none)/\W i n σ' H') ?_ m0 ⟨0,σ,H2,I2,L,λb hb=>(R b hb).1,w0⟩;rintro n s3 ⟨i,t,E,P,z,B,w3⟩;rcases y i n t E w3 with ⟨stop,qn⟩ | ⟨go,N,hN,step⟩
 ·refine Rm hp (Bm (T.done X rfl rfl rfl hc i pins s3 t E X.xe P (a B) z stop) λr s4 ⟨M,I4⟩=>?_);subst M;exact Wv ⟨t,E,I4,qn⟩
 ·refine Rm hp (Bm (T.item X rfl rfl rfl hc i pins s3 t E X.xe P (a B) z go) λr s4 ⟨u,M,Y⟩=>?_);subst M;refine Rm hp (Bm Y λ_ Q ⟨x,O,I5,V,y5,q,F⟩=>?_);have K:=I5.pinned (a F) (T.obj _ _ q);refine Rm hp (Bm (hg _ Q t O x u _ K V (step x O y5)) λ_ s6 ⟨σ6,S,I6,U⟩=>?_);refine Rm hp (Bm (hb _ s6 σ6 S _ I6 U) λf G p=>?_);have l:∀{c:St}{k:Hp},Inv X (pins++G8 fp Q.heap) c k G->N c k->∃m,m<n/\∃i σ' H',Inv X pins σ' H' G/\tn i G.heap/\(∀b∈fp,H' b=none)/\W i m σ' H':=λ{c k} j C=>by
   obtain⟨m',hm,w7⟩:=hN c k C;refine⟨m',hm,i+1,c,k,j.unpinned,T.keep _ _ _ q λb hb o e=>(j.pin (b,o) (JH _ (JH _ (Vf hb e)))).1,λb hb=>?_,w7⟩;obtain⟨o,e,d⟩:=T.obj _ _ q b hb;exact(j.pin (b,o) (JH _ (JH _ (Vf hb e)))).2.1
  cases f with
  | next=>obtain⟨c,k,j,C⟩:=p;exact l j C
  | cont=>obtain⟨c,k,j,C⟩:=p;exact l j C
  | brk=>obtain⟨c,k,j,p⟩:=p;exact⟨c,k,j.unpinned,p⟩
  | ret v=>obtain⟨x7,c,k,j,r7,p⟩:=p;exact⟨x7,c,k,j.unpinned,r7,p⟩
end
theorem Ly{xs:List V}{g:TG}{tb:TS}{D:Ends}(Pv:Nat->St->Hp->Prop)(h0:Pv 0 σ H)(hl:∀i σ H,i<=xs.length->Pv i σ H->Ag K H a xs)
  (hs:∀i x σ H,xs[i]?=some x->Pv i σ H->g x σ H λb H2=>tb {D with nx:=Pv (i+1),ct:=Pv (i+1),bk:=D.nx} b H2) (hd:∀σ H,Pv xs.length σ H->D.nx σ H):
  ∃W:Nat->Nat->St->Hp->Prop,(∃m,W 0 m σ H)/\∀i m σ H,W i m σ H ->
   ((K9 K a).stop i H/\D.nx σ H)\/((K9 K a).go i H/\∃N:St->Hp->Prop,(∀c H',N c H'->∃m',m'<m/\W (i+1) m' c H')/\∀x H',(K9 K a).yld i H x H'->g x σ H' λb H2=>tb {D with nx:=N,ct:=N,bk:=D.nx} b H2):=by
 refine⟨λi m σ H=>m=xs.length-i/\i<=xs.length/\Pv i σ H,⟨xs.length,by simp,Fy _,h0⟩,?_⟩;rintro i m σ H ⟨rfl,hi,p⟩;have q:=hl i σ H hi p;by_cases hlt:i<xs.length
 ·refine .inr ⟨⟨xs,xs[i],q,by simp[hlt]⟩,Pv (i+1),λc H' d=>⟨xs.length-(i+1),by lia,O,hlt,d⟩,λx H' y=>?_⟩;obtain⟨e,y⟩:=y;subst e;exact hs i x σ _ (y xs q) p
 ·have e:i=xs.length:=by lia
  subst e;exact .inl ⟨⟨xs,q,CT _⟩,hd σ H p⟩
theorem Tf{lo:Int}{n:Nat}{g:TG}{tb:TS}{D:Ends}(Pv:Nat->St->Hp->Prop)(h0:Pv 0 σ H)
  (hs:∀i σ H,i<n->Pv i σ H->g (.int (lo+i)) σ H λa H2=>tb {D with nx:=Pv (i+1),ct:=Pv (i+1),bk:=D.nx} a H2) (hd:∀σ H,Pv n σ H->D.nx σ H):
  ∃W:Nat->Nat->St->Hp->Prop,(∃m,W 0 m σ H)/\∀i m σ H,W i m σ H ->
   ((HS lo n).stop i H/\D.nx σ H)\/((HS lo n).go i H/\∃N:St->Hp->Prop,(∀b H',N b H'->∃m',m'<m/\W (i+1) m' b H')/\∀x H',(HS lo n).yld i H x H'->g x σ H' λa H2=>tb {D with nx:=N,ct:=N,bk:=D.nx} a H2):=by
 refine⟨λi m σ H=>m=n-i/\i<=n/\Pv i σ H,⟨n,by simp,Fy _,h0⟩,?_⟩;rintro i m σ H ⟨rfl,hi,p⟩;by_cases hlt:i<n
 ·refine .inr ⟨hlt,Pv (i+1),λb H' c=>⟨n-(i+1),by lia,O,hlt,c⟩,λx H' y=>?_⟩;obtain⟨e,y⟩:=y;subst e y;exact hs i σ _ hlt p
 ·have e:i=n:=by lia
  subst e;exact .inl ⟨CT _,hd σ H p⟩
abbrev R2:=V->V->Hp->VK->Prop
def Ei (X:Cx)(f:Value->Value->Sem Value)(r:R2):Prop :=
 ∀(pins:U1) (s:W1) (σ:St) (H:Hp) (x y:V) (v u:W7) (Q:VK),Inv X pins σ H s->RelV x v->RelV y u->r x y H Q ->
  wpAny (model X.prog X.w) X.A (f v u) (EP X pins σ Q) X.xe s
def fL (X:Cx)(f:Value->Sem Value)(r:V->Hp->VK->Prop):Prop :=
 ∀(pins:U1) (s:W1) (σ:St) (H:Hp) (x:V) (v:W7) (Q:VK),Inv X pins σ H s->RelV x v->r x H Q ->
  wpAny (model X.prog X.w) X.A (f v) (EP X pins σ Q) X.xe s
def Cm (X:Cx)(f:W7)(r:List V->Hp->VK->Prop):Prop :=
 ∀(pins:U1) (s:W1) (σ:St) (H:Hp) (xs:List V) (us:U9) (Q:VK),Inv X pins σ H s->Vals xs us->r xs H Q ->
  wpAny (model X.prog X.w) X.A (call f us) (EP X pins σ Q) X.xe s
def q9 (X:Cx)(r:V->Hp->(Bool->Hp->Prop)->Prop):Prop :=
 ∀(pins:U1) (s:W1) (σ:St) (H:Hp) (x:V) (v:W7) (Q:Bool->Hp->Prop),Inv X pins σ H s->RelV x v->r x H Q ->
  wpAny (model X.prog X.w) X.A (truthy v) (TP X pins σ Q) X.xe s
def Y6 (r:R2)(ta tb:TE):TE:=λσ H Q=>ta σ H λx H1=>tb σ H1 λy H2=>r x y H2 Q
def tUn (r:V->Hp->VK->Prop)(ta:TE):TE:=λσ H Q=>ta σ H λx H1=>r x H1 Q
def rI (C:Int->Int->Prop)(g:Int->Int->V):R2:=λx y H Q=>∃i j,x=.int i/\y=.int j/\C i j/\Q (g i j) H
def M6 (g:Int->Int->V):R2:=λx y H Q=>∃i j,x=.int i/\y=.int j/\Q (g i j) H
def rU (g:Int->V):V->Hp->VK->Prop:=λx H Q=>∃i,x=.int i/\Q (g i) H
section
variable {X:Cx}{a b c:Expr}{ta tb tc:TE}{pos:Pos}
variable{f:Value->Value->Sem Value}
theorem TF(ha:PE X a ta)(hb:PE X b tb){R:V->V->Hp->Prop}(I:Inv X pins σ H s)
  (h:ta σ H λx H1=>tb σ H1 λy H2=>R x y H2) {Q:U3}
  (hf:∀v u s2 x y H2,Inv X pins σ H2 s2->RelV x v->RelV y u->R x y H2->wpAny (model X.prog X.w) X.A (f v u) Q X.xe s2):
  wpAny (model X.prog X.w) X.A (eval a X.env) (λv k=>wpAny (model X.prog X.w) X.A (eval b X.env) (λu l=>wpAny (model X.prog X.w) X.A (f v u) Q X.xe l) X.xe k) X.xe s:=by
 refine Bm (ha pins s σ H _ I h) λv g ⟨x,H1,m,i,c⟩=>?_;refine Bm (hb pins g σ H1 _ m c) λu s2 ⟨y,H2,d,j,e⟩=>?_;exact hf v u s2 x y H2 d i j e
theorem Af{op:Operator}{r:R2}(ho:Ei X (binaryOp op) r)(ha:PE X a ta)(hb:PE X b tb):PE X (.BinOp a op b pos) (Y6 r ta tb):=by
 intro pins s σ H Q I h;exact wpAny_BinOp (TF ha hb I h λv u s2 x y H2 c e d q=>ho pins s2 σ H2 x y v u Q c e d q)
theorem Vm{op:UnaryOp}{r:V->Hp->VK->Prop}(ho:fL X (unaryOp op) r)(ha:PE X a ta):PE X (.UnaryOp op a pos) (tUn r ta):=by
 intro pins s σ H Q I h;exact UnaryOp_ (Bm (ha pins s σ H _ I h) λv d ⟨x,H1,e,c,b⟩=>ho pins d σ H1 x v Q e c b)
variable{g:Int->Int->Int}
theorem Q6{C:Int->Int->Prop}
  (rule:∀(i j:Int) (t u:Tok) (s:W1) (Q:U3) (E:U3),C i j->Q (.int (g i j) s.toks) {s with toks:=s.toks+1}->wpAny (model X.prog X.w) X.A (f (.int i t) (.int j u)) Q E s):
  Ei X f (rI C λi j=>.int (g i j)):=by
 intro pins s σ H x y v u Q I c a h;obtain⟨i,j,rfl,rfl,b,q⟩:=h;obtain⟨t,rfl⟩:=c;obtain⟨t',rfl⟩:=a;exact rule i j t t' s _ _ b ⟨.int (g i j),H,I.tok _,⟨_,O⟩,q⟩
theorem Nh
  (rule:∀(i j:Int) (t u:Tok) (s:W1) (Q:U3) (E:U3),Q (.int (g i j) s.toks) {s with toks:=s.toks+1}->wpAny (model X.prog X.w) X.A (f (.int i t) (.int j u)) Q E s):
  Ei X f (M6 λi j=>.int (g i j)):=by
 intro pins s σ H x y v u Q I b a h;obtain⟨i,j,rfl,rfl,q⟩:=h;obtain⟨t,rfl⟩:=b;obtain⟨t',rfl⟩:=a;exact rule i j t t' s _ _ ⟨.int (g i j),H,I.tok _,⟨_,O⟩,q⟩
theorem Pn{g:Int->Int->Bool}
  (rule:∀(i j:Int) (t u:Tok) (s:W1) (Q:U3) (E:U3),Q (.bool (g i j)) s->wpAny (model X.prog X.w) X.A (f (.int i t) (.int j u)) Q E s):
  Ei X f (M6 λi j=>.bl (g i j)):=by
 intro pins s σ H x y v u Q I b a h;obtain⟨i,j,rfl,rfl,q⟩:=h;obtain⟨t,rfl⟩:=b;obtain⟨t',rfl⟩:=a;exact rule i j t t' s _ _ ⟨.bl (g i j),H,I,O,q⟩
def rP (i j:Int):Prop:=0<j/\j<1073741824
def Yw (i j:Int):Prop:=0<=j/\j<=1000000/\i.natAbs<2^64
def Ua (i j:Int):Prop:=(-(2^64)<i/\i<2^64)\/(-(2^64)<j/\j<2^64)
theorem Ua.ok{i j:Int}(h:Ua i j):IntMulOk i j:=by
 rcases h with ⟨h1,h2⟩ | ⟨h1,h2⟩
 ·exact .of_left (intBits_le_64 h1 h2)
 ·exact .of_right (intBits_le_64 h1 h2)
theorem Y6f(k:Nat):(0:Int)<=2^k:=by
 rw[two_pow_cast];exact Qx _
theorem Dn:Ei X (binaryOp .Add) (M6 λi j=>.int (i+j)):=Nh λ_ _ _ _ _ _ _ q=>add_int q
theorem Gq:Ei X (binaryOp .Sub) (M6 λi j=>.int (i-j)):=Nh λ_ _ _ _ _ _ _ q=>sub_int q
theorem J0:Ei X (binaryOp .Mult) (rI Ua λi j=>.int (i*j)):=Q6 λ_ _ _ _ _ _ _ a q=>mul_int q a.ok
theorem Iw:Ei X (binaryOp .FloorDiv) (rI rP λi j=>.int (i / j)):=Q6 λi j _ _ _ _ _ a q=>by
 have h1:(0:Int)<j:=a.1;have h2:j<1073741824:=a.2;exact floordiv_int (by lia) (by rw[tX i (by lia)];exact q) (.inl (PyProof.noPylong_small (by lia)))
theorem Dp:Ei X (binaryOp .Mod) (rI (λ_ j=>0<j) λi j=>.int (i%j)):=Q6 λi j _ _ _ _ _ a q=>by
 have h1:(0:Int)<j:=a;exact mod_int' (by lia) (by rw[Int.fmod_eq_emod_of_nonneg i (by lia)];exact q)
theorem bL:Ei X (binaryOp .Pow) (rI Yw λi j=>.int (i^j.toNat)):=Q6 λ_ _ _ _ _ _ _ a q=>pow_int_small a.1 a.2.1 a.2.2 q
theorem Jd:Ei X (binaryOp .RShift) (rI (λ_ j=>0<=j) λi j=>.int (i / 2^j.toNat)):=Q6 λi j _ _ _ _ _ a q =>
 rshift_int a (by rw[tX i (Y6f _)];exact q)
theorem Di:Ei X (binaryOp .BitAnd) (M6 λi j=>.int (Builtin.bitAnd i j)):=Nh λ_ _ _ _ _ _ _ q=>and_int q
theorem Nq:Ei X (binaryOp .BitOr) (M6 λi j=>.int (Builtin.bitOr i j)):=Nh λ_ _ _ _ _ _ _ q=>or_int q
theorem JL:Ei X (binaryOp .BitXor) (M6 λi j=>.int (Builtin.bitXor i j)):=Nh λ_ _ _ _ _ _ _ q=>xor_int q
theorem sE{f:Value->Sem Value}{g:Int->Int}
  (rule:∀(i:Int) (t:Tok) (s:W1) (Q:U3) (E:U3),Q (.int (g i) s.toks) {s with toks:=s.toks+1}->wpAny (model X.prog X.w) X.A (f (.int i t)) Q E s):
  fL X f (rU λi=>.int (g i)):=by
 intro pins s σ H x v Q I a h;obtain⟨i,rfl,q⟩:=h;obtain⟨t,rfl⟩:=a;exact rule i t s _ _ ⟨.int (g i),H,I.tok _,⟨_,O⟩,q⟩
theorem bw:fL X (unaryOp .USub) (rU λi=>.int (-i)):=sE λ_ _ _ _ _ q=>neg_int q
theorem zq:fL X (unaryOp .Invert) (rU λi=>.int (Builtin.bitNot i)):=sE λ_ _ _ _ _ q=>invert_int q
end
noncomputable def WY:V->V->Bool
 | .non,.non=>true | .non,.int _=>true | .int _,.non=>true | .non,.bl _=>true | .bl _,.non=>true | .non,.str _=>true | .str _,.non=>true
 | .int _,.int _=>true | .bl _,.bl _=>true | .str _,.str _=>true | .byt _,.byt _=>true
 | .int _,.str _=>true | .str _,.int _=>true | .bl _,.str _=>true | .str _,.bl _=>true
 | _,_=>false
def rEq:R2:=λx y H Q=>WY x y=true/\Q (.bl (decide (x=y))) H
def rNe:R2:=λx y H Q=>WY x y=true/\Q (.bl (!decide (x=y))) H
theorem _7{i j:Int}:decide (V.int i=V.int j)=(i == j):=by
 rw[Uh];simp
theorem yr{i j:Bool}:decide (V.bl i=V.bl j)=(i == j):=by
 rw[Uh];simp
theorem _8{i j:Str}:decide (V.str i=V.str j)=(i == j):=by
 rw[Uh];simp
theorem _6{i j:Array UInt8}:decide (V.byt i=V.byt j)=(i.toList == j.toList):=by
 rw[Uh];cases i;cases j;simp
section
variable {X:Cx}{a b c:Expr}{ta tb tc:TE}{pos:Pos}
theorem Fe{Q:VK}{k k':Bool}(I:Inv X pins σ H s)(q:Q (.bl k) H)(e:k=k'):EP X pins σ Q (.bool k') s:=by
 subst e;exact⟨.bl k,H,I,O,q⟩
theorem Df:Ei X (compareOp .Eq) rEq:=by
 intro pins s σ H x y v u Q I c a h;obtain⟨b,q⟩:=h;cases x with
 | non =>
  cases c;cases y with
  | non=>cases a;exact PySem.EqNone.eq_none_none (Fe I q (by simp))
  | bl j=>cases a;exact PySem.EqNone.eq_none_bool (Fe I q (by simp))
  | int j=>obtain⟨t',rfl⟩:=a;exact PySem.EqNone.eq_none_int (Fe I q (by simp))
  | str j=>obtain⟨t',rfl⟩:=a;exact PySem.EqNone.eq_none_str (Fe I q (by simp))
  | _=>exact absurd (show false=true from b) Gu
 | bl i =>
  cases c;cases y with
  | non=>cases a;exact PySem.EqNone.eq_bool_none (Fe I q (by simp))
  | bl j=>cases a;exact eq_bool (Fe I q yr)
  | str j=>obtain⟨t',rfl⟩:=a;exact PySem.EqMixed.eq_bool_str (Fe I q (by simp))
  | _=>exact absurd (show false=true from b) Gu
 | int i =>
  obtain⟨t,rfl⟩:=c;cases y with
  | non=>cases a;exact PySem.EqNone.eq_int_none (Fe I q (by simp))
  | int j=>obtain⟨t',rfl⟩:=a;exact eq_int (Fe I q _7)
  | str j=>obtain⟨t',rfl⟩:=a;exact PySem.EqMixed.eq_int_str (Fe I q (by simp))
  | _=>exact absurd (show false=true from b) Gu
 | str i =>
  obtain⟨t,rfl⟩:=c;cases y with
  | non=>cases a;exact PySem.EqNone.eq_str_none (Fe I q (by simp))
  | bl j=>cases a;exact PySem.EqMixed.eq_str_bool (Fe I q (by simp))
  | int j=>obtain⟨t',rfl⟩:=a;exact PySem.EqMixed.eq_str_int (Fe I q (by simp))
  | str j=>obtain⟨t',rfl⟩:=a;exact eq_str (Fe I q _8)
  | _=>exact absurd (show false=true from b) Gu
 | byt i =>
  obtain⟨t,rfl⟩:=c;cases y with
  | byt j=>obtain⟨t',rfl⟩:=a;exact PySem.W.eq_bytes (Fe I q _6)
  | _=>exact absurd (show false=true from b) Gu
 | _=>cases y<;>exact absurd (show false=true from b) Gu
theorem Jc:Ei X (compareOp .NotEq) rNe:=by
 intro pins s σ H x y v u Q I c a h;obtain⟨b,q⟩:=h;cases x with
 | non =>
  cases c;cases y with
  | non=>cases a;exact PySem.EqNone.ne_none_none (Fe I q (by simp))
  | bl j=>cases a;exact PySem.EqNone.ne_none_bool (Fe I q (by simp))
  | int j=>obtain⟨t',rfl⟩:=a;exact PySem.EqNone.ne_none_int (Fe I q (by simp))
  | str j=>obtain⟨t',rfl⟩:=a;exact PySem.EqNone.ne_none_str (Fe I q (by simp))
  | _=>exact absurd (show false=true from b) Gu
 | bl i =>
  cases c;cases y with
  | non=>cases a;exact PySem.EqNone.ne_bool_none (Fe I q (by simp))
  | bl j=>cases a;exact ne_bool (Fe I q (congrArg not yr))
  | str j=>obtain⟨t',rfl⟩:=a;exact PySem.EqMixed.ne_bool_str (Fe I q (by simp))
  | _=>exact absurd (show false=true from b) Gu
 | int i =>
  obtain⟨t,rfl⟩:=c;cases y with
  | non=>cases a;exact PySem.EqNone.ne_int_none (Fe I q (by simp))
  | int j=>obtain⟨t',rfl⟩:=a;exact ne_int (Fe I q (congrArg not _7))
  | str j=>obtain⟨t',rfl⟩:=a;exact PySem.EqMixed.ne_int_str (Fe I q (by simp))
  | _=>exact absurd (show false=true from b) Gu
 | str i =>
  obtain⟨t,rfl⟩:=c;cases y with
  | non=>cases a;exact PySem.EqNone.ne_str_none (Fe I q (by simp))
  | bl j=>cases a;exact PySem.EqMixed.ne_str_bool (Fe I q (by simp))
  | int j=>obtain⟨t',rfl⟩:=a;exact PySem.EqMixed.ne_str_int (Fe I q (by simp))
  | str j=>obtain⟨t',rfl⟩:=a;exact ne_str (Fe I q (congrArg not _8))
  | _=>exact absurd (show false=true from b) Gu
 | byt i =>
  obtain⟨t,rfl⟩:=c;cases y with
  | byt j=>obtain⟨t',rfl⟩:=a;exact PySem.W.ne_bytes (Fe I q (congrArg not _6))
  | _=>exact absurd (show false=true from b) Gu
 | _=>cases y<;>exact absurd (show false=true from b) Gu
theorem Og:Ei X (compareOp .Lt) (M6 λi j=>.bl (decide (i<j))):=Pn λ_ _ _ _ _ _ _ q=>lt_int q
theorem fH:Ei X (compareOp .LtE) (M6 λi j=>.bl (decide (i<=j))):=Pn λ_ _ _ _ _ _ _ q=>le_int q
theorem RT:Ei X (compareOp .Gt) (M6 λi j=>.bl (decide (j<i))):=Pn λ_ _ _ _ _ _ _ q=>gt_int q
theorem YQ:Ei X (compareOp .GtE) (M6 λi j=>.bl (decide (j<=i))):=Pn λ_ _ _ _ _ _ _ q=>ge_int q
theorem W1o:Ei X (compareOp .Is) (λx y H Q=>y=.non/\Q (.bl (decide (x=.non))) H):=by
 intro pins s σ H x y v u Q I a b h;obtain⟨rfl,q⟩:=h;cases b;refine is_none_gen (Fe I q ?_);cases x<;>first
  | (cases a;rfl)
  | (obtain⟨t,rfl⟩:=a;rfl)
theorem Ad(b:Expr){op:CmpOp}(h:op≠.In:=by decide)(h2:op≠.NotIn:=by decide):behindInMarks op b=false:=by
 have e1:(op == CmpOp.In)=false:=by cases op<;>first | rfl | exact absurd rfl h
 have e2:(op == CmpOp.NotIn)=false:=by cases op<;>first | rfl | exact absurd rfl h2
 cases b<;>simp[behindInMarks,e1,e2]
variable{r:R2}
theorem Fv{op:CmpOp}(ho:Ei X (compareOp op) r)(ha:PE X a ta)(hb:PE X b tb)(hm:behindInMarks op b=false):PE X (.Compare a [op] [b] pos) (Y6 r ta tb):=by
 intro pins s σ H Q I h;exact wpAny_Compare1 (TF ha hb I h λv u s2 x y H2 c e d q=>ho pins s2 σ H2 x y v u Q c e d q) hm
def Qf (t:TE):TT:=λσ H Q=>t σ H λx H'=>∃k,x=.bl k/\Q k H'
theorem CP{op:CmpOp}(ho:Ei X (compareOp op) r)(ha:PE X a ta)(hb:PE X b tb)(hm:behindInMarks op b=false):PT X (.Compare a [op] [b] pos) (Qf (Y6 r ta tb)):=by
 intro pins s σ H Q I h
 refine sU (Bm (ha pins s σ H _ I h) λv m ⟨x,H1,q,g,d⟩=>Bm (hb pins m σ H1 _ q d) λu s2 ⟨y,H2,p,i,f⟩ =>
  Bm (ho pins s2 σ H2 x y v u _ p g i f) λc s3 ⟨z,l,j,n,k,e,o⟩=>?_) hm
 subst e;cases n;exact NZ ⟨l,j,o⟩
def Rg (r r':R2)(ta tb tc:TE):TE:=λσ H Q=>ta σ H λx H1=>tb σ H1 λy H2=>r x y H2 λz H3=>∃k,z=.bl k /\
 (if k=true then tc σ H3 λw' H4=>r' y w' H4 Q else Q (.bl false) H3)
theorem X2n{op op':CmpOp}{r':R2}(ho:Ei X (compareOp op) r)(ho':Ei X (compareOp op') r')(ha:PE X a ta)(hb:PE X b tb)(hc:PE X c tc)
  (hm:lastMarks [op,op'] [b,c]=false:=by with_unfolding_all rfl):PT X (.Compare a [op,op'] [b,c] pos) (Qf (Rg r r' ta tb tc)):=by
 intro pins s σ H Q I h
 refine isTrue_chain (Bm (ha pins s σ H _ I h) λv E ⟨x,H1,M,n,l⟩=>test_link (Bm (hb pins E σ H1 _ M l) λu s2 ⟨y,H2,L,f,m⟩ =>
  Bm (ho pins s2 σ H2 x y v u _ L n f m) λd s3 ⟨z,i,g,F,k,e,j⟩=>?_)) hm
 subst e;cases F;refine NZ ?_;cases k with
 | false =>
  obtain⟨P,C,G⟩:=j;cases C;exact ite_ff ⟨i,g,G⟩
 | true =>
  refine ite_tt (test_last (Bm (hc pins s3 σ i _ g j) λt s4 ⟨J,p,K,B,D⟩=>Bm (ho' pins s4 σ p y J u t _ K f B D) λd' O ⟨N,o,A,w,k2,e2,q⟩=>?_));subst e2;cases w;exact NZ ⟨o,A,q⟩
def qz (K:U0)(x:V)(H:Hp)(k:Bool):Prop :=
 match x with
 | .non=>k=false
 | .bl b=>k=b
 | .int i=>k=(i != 0)
 | .str y=>y.length<=sizeLine/\k=((y.length:Int) != 0)
 | .byt y=>y.size<=sizeLine/\k=((y.size:Int) != 0)
 | .ref p=>(∃xs,Ag K H p xs/\k=!xs.isEmpty)\/(∃xs,Ax K H p xs/\k=!xs.isEmpty)\/∃kvs,H p=some (.dK kvs)/\k=!kvs.isEmpty
 | _=>False
theorem Y6x{κ:Type}{kvs:List (κ×V)}{vs:List (κ×Value)}(r:KV kvs vs):(!vs.isEmpty)=!kvs.isEmpty:=by
 cases r<;>rfl
theorem uM{xs:List V}{its:U9}(r:Vals xs its):(!its.toArray.isEmpty)=!xs.isEmpty:=by
 cases r<;>simp
theorem GX:(sizeLine:Nat)<2^63:=by rw[sizeLine_eq];decide
theorem W0x:q9 X (λx H Q=>∃k,qz X.K x H k/\Q k H):=by
 intro pins s σ H x v Q I d h;obtain⟨k,e,q⟩:=h;have n:=GX;have o:sizeLine=16777216:=sizeLine_eq;cases x with
 | non =>
  cases d;have a:k=false:=e;subst a;exact truthy_none ⟨H,I,q⟩
 | bl b =>
  cases d;have a:k=b:=e;subst a;exact NZ ⟨H,I,q⟩
 | int i =>
  obtain⟨t,rfl⟩:=d;have a:k=(i != 0):=e;subst a;exact PySem.P.truthy_int ⟨H,I,q⟩
 | str y =>
  obtain⟨t,rfl⟩:=d;obtain⟨j,a⟩:y.length<=sizeLine/\k=((y.length:Int) != 0):=e;subst a;exact PySem.P.truthy_str (by lia) ⟨H,I.tok _,q⟩
 | byt y =>
  obtain⟨t,rfl⟩:=d;obtain⟨j,a⟩:y.size<=sizeLine/\k=((y.size:Int) != 0):=e;subst a;exact PySem.W.truthy_bytes (by lia) ⟨H,I.tok _,q⟩
 | ref p =>
  cases d;have a:(∃xs,Ag X.K H p xs/\k=!xs.isEmpty)\/(∃xs,Ax X.K H p xs/\k=!xs.isEmpty)\/∃kvs,H p=some (.dK kvs)/\k=!kvs.isEmpty:=e;rcases a with ⟨xs,hx,a⟩ | ⟨xs,hx,a⟩ | ⟨kvs,hx,a⟩
  ·subst a;obtain⟨its,r,f,g⟩:=I.list hx;have c:=r.length;exact wpAny_truthy_list f.isList (by simp only[FJ];lia) ⟨H,I.tok _,by rw[uM r];exact q⟩
  ·subst a;obtain⟨its,r,f,g⟩:=I.tuple hx;have c:=r.length;exact truthy_tuple f (by simp only[FJ];lia) ⟨H,I.tok _,by rw[uM r];exact q⟩
  ·subst a;obtain⟨g,l,vs,r,m⟩:kvs.length<=sizeLine/\(p == sysModules)=false/\∃vs,KV kvs vs/\s.heap.DictOf (JM X.prog X.w) p vs:=I.hok p _ hx;have c:kvs.length=vs.length:=Paired.length r;exact wpAny_truthy_dict l m (by lia) ⟨H,I.tok _,by rw[Y6x r];exact q⟩
 | _=>exact(show False from e).elim
theorem vals1(r:Vals [x] us):∃u,us=[u]/\RelV x u:=by
 cases r with
 | cons r1 r2=>cases r2;exact⟨_,rfl,r1⟩
theorem vals2{y:V}(r:Vals [x,y] us):∃u w',us=[u,w']/\RelV x u/\RelV y w':=by
 cases r with
 | cons r1 r2 =>
  cases r2 with
  | cons r3 r4=>cases r4;exact⟨_,_,rfl,r1,r3⟩
theorem X1g(hc:X.calm=true):Cm X (.builtin "max") (λxs H Q=>∃i j,xs=[.int i,.int j]/\Q (.int (if j>i then j else i)) H):=by
 intro pins s σ H xs us Q I r h;obtain⟨i,j,rfl,q⟩:=h;obtain⟨u,a,rfl,⟨t,rfl⟩,⟨t',rfl⟩⟩:=vals2 r;refine max_two_ints (I.ok.hd hc) λh' tk k=>⟨_,H,I.kept k,?_,q⟩;by_cases hj:j>i
 ·rw[if_pos hj,if_pos hj];exact⟨_,O⟩
 ·rw[if_neg hj,if_neg hj];exact⟨_,O⟩
theorem aM(hc:X.calm=true):Cm X (.builtin "min") (λxs H Q=>∃i j,xs=[.int i,.int j]/\Q (.int (if j<i then j else i)) H):=by
 intro pins s σ H xs us Q I r h;obtain⟨i,j,rfl,q⟩:=h;obtain⟨u,a,rfl,⟨t,rfl⟩,⟨t',rfl⟩⟩:=vals2 r;refine min_two_ints (I.ok.hd hc) λh' tk k=>⟨_,H,I.kept k,?_,q⟩;by_cases hj:j<i
 ·rw[if_pos hj,if_pos hj];exact⟨_,O⟩
 ·rw[if_neg hj,if_neg hj];exact⟨_,O⟩
theorem xu:Cm X (.type "int") (λxs H Q=>(∃i,xs=[.int i]/\Q (.int i) H)\/∃k,xs=[.bl k]/\Q (.int (if k then 1 else 0)) H):=by
 intro pins s σ H xs us Q I r h;rcases h with ⟨i,rfl,q⟩ | ⟨k,rfl,q⟩
 ·obtain⟨u,rfl,t,rfl⟩:=vals1 r;exact call_int_int ⟨.int i,H,I,⟨_,O⟩,q⟩
 ·obtain⟨u,rfl,a⟩:=vals1 r;cases a;exact call_int_bool ⟨.int (if k then 1 else 0),H,I.tok _,⟨_,O⟩,q⟩
end
structure Tz (h:Heap) (x dx C:Y4) (mA:U6):Prop where
 obj:h.get? x=some (PySem.W.instObj C dx)
 ns:h.Ns1 dx mA
 ne:dx≠x
theorem X0b{h:Heap}{dx:Y4}{mA:U6}(n:h.Ns1 dx mA):∃od,h.get? dx=some od/\∀name,PySem.W.lookIn name od=some (mA name):=by
 obtain⟨o,es,ep,g,hd,d,_,f⟩:=n;refine⟨o,g,λname=>?_⟩;have e:=f name;unfold nsFind findBy at e;rw[<-Array.find?_toList]at e;unfold PySem.W.lookIn;rw[hd];dsimp only;split
 ·rename_i y q;rw[q]at e;exact congrArg some e
 ·rename_i q;rw[q]at e;have a:es.toList.any (·.refKey)=false:=by
   rw[List.any_eq_false];intro y c;obtain⟨z,t,b⟩:=d y (Array.mem_toList_iff.mp c);simp[DictEntry.refKey,b]
  have a':¬ es.toList.any (·.refKey)=true:=by rw[a];exact Gu
  rw[if_neg a'];exact congrArg some e
theorem Tz.look{h:Heap}{x dx C:Y4}{mA:U6}(I:Tz h x dx C mA):∃od,PySem.W.InstAt h x (PySem.W.instObj C dx) C (some od)/\∀name,PySem.W.lookIn name od=some (mA name):=
 let ⟨od,ho,hl⟩:=X0b I.ns
 ⟨od,⟨I.obj,O,O,ho⟩,hl⟩
section
variable {prog:W3}{w:W6}{A:Y1}{E:U3}{s:W1}{K:U0}{x dx C f:Y4}{mA:U6}{name:Str}{v:W7}
end
theorem Gx.some_of{v:V}{o:Option Value}(r:Gx (some v) o):∃u,o=some u/\RelV v u:=by
 cases o with
 | none=>exact(show False from r).elim
 | some u=>exact⟨u,rfl,r⟩
section
variable {P:W3}{w:W6}{H H':Hp}{h h':Heap}{a C dx:Y4}{fs fs':List (Str×V)}
theorem X8z(hok:Fb P w H h)(e:H a=some (.ins C dx fs)):∃mA,Tz h a dx C mA/\(∀f,Gx (fs.lookup f) (mA f))/\PySem.Within mA (fs.map (·.1))/\fs.length<=1000/\H dx=some (.own a):=by
 obtain⟨d,z,b,c,mA,n,r,q⟩:=(show Bh P w H h a (.ins C dx fs) from hok a _ e);exact⟨mA,⟨c,n,b⟩,r,q,z,d⟩
end
structure Cls (K:U0) (C:Y4):Prop where
 pg:PySem.W.plainGet K C Str.empty=true
 hd:PySem.W.hasDictIn K C=true
 po:PySem.W.plainOver K C=true
 sa:PySem.W.findIn K (.ref C) "__setattr__"=some (some (.builtin "object.__setattr__"))
theorem Cls.get{K:U0}{C:Y4}(c:Cls K C)(f:Str):PySem.W.plainGet K C f=true:=c.pg
section
variable {X:Cx}{pins:U1}{σ:St}{H:Hp}{s:W1}{a C dx:Y4}{fs:List (Str×V)}{f:Str}{v:V}{A:Y1}{E:U3}
end
section
variable {X:Cx}{o e value:Expr}{f:Str}{pos pos' tpos:Pos}{ta tv:TE}
end
section
variable {X:Cx}{pins:U1}{σ:St}{H:Hp}{s:W1}{A:Y1}{E:U3}{Q:U3}{c:W7}{b:Bool}
inductive DP (K:U0) (H:Hp):V->Value->Prop where
 | non:DP K H .non (.type "NoneType")
 | bl (x:Bool):DP K H (.bl x) (.type "bool")
 | int (i:Int):DP K H (.int i) (.type "int")
 | str (x:Str):DP K H (.str x) (.type "str")
 | flt (x:UInt64):DP K H (.flt x) (.type "float")
 | lst {a:Y4}{xs:List V} (e:H a=some (.lst xs)):DP K H (.ref a) (.type "list")
 | frz {a:Y4}{o:Obj}{xs:List V} (e:H a=some (.frz o (.lst xs))):DP K H (.ref a) (.type "list")
 | tup {a:Y4}{xs:List V} (e:H a=some (.tup xs)):DP K H (.ref a) (.type "tuple")
 | dK {a:Y4}{kvs:List (Key×V)} (e:H a=some (.dK kvs)):DP K H (.ref a) (.type "dict")
 | dT {a:Y4}{kvs:List (List Key×V)} (e:H a=some (.dT kvs)):DP K H (.ref a) (.type "dict")
 | ins {a C dx:Y4}{fs:List (Str×V)} (e:H a=some (.ins C dx fs)) (cl:Cls K C) (ha:PySem.W.findIn K (.ref C) "__class__"=some (some (.builtin "object.__class__")))
   (hn:PySem.W.specialIn K (.builtin "object.__class__") "__get__"=some (some (.builtin "getset_descriptor.__get__"))) (htk:PySem.W.takesIn K (.builtin "object.__class__")=some true)
   (hm:PySem.W.mroIn K C (.type "object")=some true):DP K H (.ref a) (.ref C)
theorem X0m{t:W7}(I:Inv X pins σ H s)(rx:RelV x u)(ty:DP X.K H x t)(e:PySem.W.kitOne X.K t c=some b)(h:∀tk,Q (.bool b) {s with toks:=tk}):
  wpAny (model X.prog X.w) A (call (.builtin "isinstance") [u,c]) Q E s:=by
 cases ty with
 | non=>cases (show u=Value.none from rx);exact KZ PySem.W.kitx_none I.kIn True.intro e (λz=>nomatch z) h
 | bl y=>cases (show u=Value.bool y from rx);exact KZ PySem.W.kitx_bool I.kIn True.intro e (λz=>nomatch z) h
 | int i=>obtain⟨t,q⟩:=(show ∃t,u=Value.int i t from rx);cases q;exact KZ PySem.W.kitx_int I.kIn True.intro e (λz=>nomatch z) h
 | str y=>obtain⟨t,q⟩:=(show ∃t,u=Value.str y t from rx);cases q;exact KZ PySem.W.kitx_str I.kIn True.intro e (λz=>nomatch z) h
 | flt y=>obtain⟨t,q⟩:=(show ∃t,u=Value.float y t from rx);cases q;exact KZ PySem.W.kitx_float I.kIn True.intro e (λz=>nomatch z) h
 | @lst a xs ea =>
  cases (show u=Value.ref a from rx);obtain⟨_,_,n,_,h1⟩:=(show Bh X.prog X.w H s.heap a (.lst xs) from I.hok a _ ea);exact KZ PySem.W.kitx_list I.kIn ⟨_,h1,rfl⟩ e (λz=>nomatch z) h
 | @frz a ob xs ea =>
  cases (show u=Value.ref a from rx);obtain⟨_,_,_,n,_,h1⟩:=(show Bh X.prog X.w H s.heap a (.frz ob (.lst xs)) from I.hok a _ ea);exact KZ PySem.W.kitx_list I.kIn ⟨_,h1,rfl⟩ e (λz=>nomatch z) h
 | @tup a xs ea =>
  cases (show u=Value.ref a from rx);obtain⟨_,_,_,p⟩:=(show Bh X.prog X.w H s.heap a (.tup xs) from I.hok a _ ea);obtain⟨o,h1,h2,_⟩:=p;exact KZ jH I.kIn ⟨o,h1,h2⟩ e (λz=>nomatch z) h
 | @dK a kvs ea =>
  cases (show u=Value.ref a from rx);obtain⟨_,_,vs,_,p⟩:=(show Bh X.prog X.w H s.heap a (.dK kvs) from I.hok a _ ea);obtain⟨o,es,ep,h1,h2,_⟩:=p;exact KZ PySem.W.kitx_dict I.kIn ⟨o,h1,h2.1⟩ e (λz=>nomatch z) h
 | @dT a kvs ea =>
  cases (show u=Value.ref a from rx);obtain⟨_,_,xs,_,o,es,ep,h1,h2,_⟩:=(show Bh X.prog X.w H s.heap a (.dT kvs) from I.hok a _ ea);exact KZ PySem.W.kitx_dict I.kIn ⟨o,h1,h2.1⟩ e (λz=>nomatch z) h
 | @ins a C dx fs ea cl ha hn htk hm =>
  cases (show u=Value.ref a from rx);obtain⟨mA,O,_⟩:=X8z I.hok ea;obtain⟨od,J,_⟩:=O.look;exact KZ (PySem.W.kitx_own (cl.get _) cl.hd ha hn htk hm) I.kIn J e (λz=>nomatch z) h
end
structure Cp (k:Nat) (A:Y1):Prop where
 hd:A.handled=none
 dp:A.depth+3*k+5<recursionLimit
 un:A.units+16*k+200<cLine
theorem Cp.mono{j k:Nat}(r:Cp k A)(h:j<=k):Cp j A:=⟨r.hd,by have:=r.dp;lia,by have:=r.un;lia⟩
theorem Cp.deeper{k:Nat}(r:Cp (k+1) A)(env:Env):Cp k (A.deeper env):=
 ⟨r.hd,by have:=r.dp;show A.depth+1+3*k+5<_;lia,by have:=r.un;show A.units+3+16*k+200<_;lia⟩
theorem Cp.depth{k:Nat}(r:Cp k A):A.depth<recursionLimit:=by have:=r.dp;lia
theorem Cp.units{k:Nat}(r:Cp k A):A.units+64<cLine:=by have:=r.un;lia
def O7:TA:=λ_ H Q=>Q [] H
def Qg (ta:TE)(tr:TA):TA:=λσ H Q=>ta σ H λx H1=>tr σ H1 λxs H2=>Q (x::xs) H2
section
variable {X:Cx}{e:Expr}{es:List Expr}{te:TE}{t:TA}{pos:Pos}
theorem Ae:PA X [] O7:=λ_ _ _ _ H Q I h=>Calls.spliced_nil ⟨[],H,I,.nil,h⟩
theorem Aa(ha:PE X e te)(hr:PA X es t)(hs:starEach (e::es) X.env=(false,eval e X.env)::starEach es X.env:=by rfl):PA X (e::es) (Qg te t):=by
 intro pos pins s σ H Q I h;rw[hs];show wpAny _ _ (spliced ((false,eval e X.env)::backTo pos (starEach es X.env))) _ _ s;refine Calls.spliced_cons (Bm (ha pins s σ H _ I h) λu g ⟨x,H1,i,c,a⟩=>?_);exact Bm (hr pos pins g σ H1 _ i a) λus s2 ⟨xs,H2,f,d,b⟩=>⟨x::xs,H2,f,.cons c d,b⟩
def fY (t:TA):TE:=λσ H Q=>t σ H λxs H1=>xs.length<=sizeLine/\∀p,H1 p=none->Q (.ref p) (upd H1 p (.tup xs))
def gF (t:TA):TE:=λσ H Q=>t σ H λxs H1=>xs.length<=sizeLine/\∀p,H1 p=none->Q (.ref p) (upd H1 p (.lst xs))
theorem Ci{x1}(h:PA X es t):PE X (.Tuple es x1 pos) (fY t):=by
 intro pins s σ H Q I d;refine wpAny_Tuple_spliced (Bm (h pos pins s σ H _ I d) λus a ⟨xs,H1,c,r,z,q⟩=>⟨by rw[<-r.length];exact z,?_⟩);have hf:H1 a.heap.objs.size=none:=c.hok.fresh (CT _);refine⟨.ref a.heap.objs.size,upd H1 a.heap.objs.size (.tup xs),c.laid (t':=a.toks) (λb u e=>FP _ e) (CT _) ?_,O,q _ hf⟩;exact⟨z,us,r,⟨_,Gv _ rfl,O,_,O⟩⟩
theorem Ga(h:PA X es t):PE X (.List es pos) (gF t):=by
 intro pins s σ H Q I d;refine wpAny_List_spliced (Bm (h pos pins s σ H _ I d) λus a ⟨xs,H1,c,r,z,q⟩=>⟨by rw[<-r.length];exact z,?_⟩);have hf:H1 a.heap.objs.size=none:=c.hok.fresh (CT _);refine⟨.ref a.heap.objs.size,upd H1 a.heap.objs.size (.lst xs),c.laid (t':=a.toks) (λb u e=>FP _ e) (CT _) ?_,O,q _ hf⟩;exact⟨z,us,0,r,Gv _ rfl⟩
end
abbrev Sp:=List V->Hp->VK->XK->Prop
abbrev N7:=List Env->Hp->Shared->XK->Value->Shared->Prop
structure J6 (P:W3) (w:W6) (K:U0) (mg:U6) (base:Heap) (A:Y1) (outer:List Env) (s:W1) (H:Hp):Prop where
 frames:A.frames=some outer
 mod:Mod K mg base
 bs:∀b o,base.get? b=some o->s.heap.get? b=some o/\H b=none
 bsz:base.objs.size<=s.heap.objs.size
 funs:s.heap.FunFrames base outer
 frf:∀b∈frs outer,H b=none
 hok:Fb P w H s.heap
 bare:AllBare s.gens
def CE (outer:List Env)(P:W3)(w:W6)(H:Hp)(s:W1)(Q:VK)(u:W7)(s':W1):Prop :=
 ∃v H',s'.os=s.os/\AllBare s'.gens/\Un (frs outer) [] H H' s.heap s'.heap/\Fb P w H' s'.heap/\RelV v u/\Q v H'
def CR (CX:N7)(outer:List Env)(P:W3)(w:W6)(H:Hp)(s:W1)(Q:VK)(E:XK)(r:Result)(s':W1):Prop :=
 match r with
 | .ok (.ret u)=>CE outer P w H s Q u s'
 | .ok _=>False
 | .error e=>CX outer H s E e s'
structure Er (P:W3) (w:W6) (K:U0) (mg:U6) (base:Heap) (CX:N7) (k:Nat) (f:Y4) (fd:FuncData) (ps:W5) (sp:Sp):Prop where
 len:∀vs H Q E,sp vs H Q E->vs.length=ps.length
 run:∀(A:Y1) (outer:List Env) (s:W1) (H:Hp) (args:Args) (us:U9) (vs:List V) (Q:VK) (E:XK),Cp k A->J6 P w K mg base A outer s H->BindsTo s fd args (ps.zip us)->Vals vs us->sp vs H Q E ->
  codeAny (model P w) A (.call (.ref f) args) (CR CX outer P w H s Q E) s
variable{mg:U6}{base:Heap}{CX:N7}{f:Y4}{fd:FuncData}{ps:W5}
theorem Er.mono{j k:Nat}{sp:Sp}(F:Er P w K mg base CX j f fd ps sp)(h:j<=k):
  Er P w K mg base CX k f fd ps sp:=⟨F.len,λA outer s H args us vs Q E a=>F.run A outer s H args us vs Q E (a.mono h)⟩
theorem Er.imp{k:Nat}{sp sp':Sp}(F:Er P w K mg base CX k f fd ps sp)
  (h:∀vs H Q E,sp' vs H Q E->sp vs H Q E):Er P w K mg base CX k f fd ps sp' :=
 ⟨λvs H Q E q=>F.len vs H Q E (h _ _ _ _ q),λA outer s H args us vs Q E b d hb c a=>F.run A outer s H args us vs Q E b d hb c (h _ _ _ _ a)⟩
section
variable {X:Cx}{pins:U1}{σ:St}{H:Hp}{s s':W1}
theorem Inv.env0(I:Inv X pins σ H s):J6 X.prog X.w X.K X.mg X.base X.A X.stack s H :=
 ⟨I.ok.frames,I.ok.mod,I.bs,Ek I.ok.bsz I.sz,I.stack,I.stkFree,I.hok,I.bare⟩
theorem Inv.after{Q:VK}(I:Inv X pins σ H s)(h:CE X.stack X.prog X.w H s Q u s'):EP X pins σ Q u s':=by
 obtain⟨v,H',os,a,un,e,r,q⟩:=h;obtain⟨f,g,d,t,c⟩:=s';obtain rfl:c=s.os:=os;exact⟨v,H',I.call (h':=f) (g':=g) (d':=d) (t':=t) (ch:=[]) un e a (λb z=>absurd z (by simp)),r,q⟩
end
def IV (sp:Sp)(dvs:List V)(E:XK)(t:TA):TE:=λσ H Q=>t σ H λvs H1=>sp (vs++dvs) H1 Q E
def Binds (K:U0)(fd:FuncData)(ps:W5)(ds:U9):Prop :=
 ∀(s:W1) (us:U9),K.In s.heap->(us++ds).length=ps.length->BindsTo s fd ⟨us,[]⟩ (ps.zip (us++ds))
theorem Binds.all(h:∀us:List Value,us.length=ps.length->bindArgs fd ⟨us,[]⟩=pure (ps.zip us)):Binds K fd ps []:=λs us _ a=>by
 rw[KR]at a ⊢;exact .of_eq (h us a)
def Passes (CX:N7)(X:Cx)(E:XK):Prop:=∀(pins:U1) (σ:St) (H:Hp) (s:W1) (e:W7) (s':W1),Inv X pins σ H s->CX X.stack H s E e s'->X.xe e s'
section
variable {X:Cx}{CX:N7}{k:Nat}{f C:Y4}{fd:FuncData}{ps:W5}{sp:Sp}{dvs:List V}{ds:U9}{E:XK}{x m:Str}{p pos apos:Pos}{e o:Expr}{es:List Expr}{ta:TE}{t:TA}
theorem zZ{Q:VK}{vs:List V}(F:Er X.prog X.w X.K X.mg X.base CX k f fd ps sp)(hr:Cp k X.A)(hb:Binds X.K fd ps ds)(hd:Vals dvs ds)(hx:Passes CX X E)
  (I:Inv X pins σ H s) (r:Vals vs us) (h:sp (vs++dvs) H Q E):wpAny (model X.prog X.w) X.A (call (.ref f) us) (EP X pins σ Q) X.xe s:=by
 have b:Vals (vs++dvs) (us++ds):=r.append hd;have c:(us++ds).length=ps.length:=by rw[<-b.length];exact F.len _ _ _ _ h
 refine Ub (Qq (F.run X.A X.stack s H ⟨us,[]⟩ (us++ds) (vs++dvs) Q E hr I.env0 (hb s us I.kIn c) b h) λr s' a=>?_);cases r with
 | error e=>exact hx pins σ H s e s' I a
 | ok fl =>
  cases fl with
  | ret u=>exact I.after a
  | next=>exact False.elim a
  | brk=>exact False.elim a
  | cont=>exact False.elim a
theorem vL(F:Er X.prog X.w X.K X.mg X.base CX k f fd ps sp)(hr:Cp k X.A)(hg:Gl X x)(hm:X.mg x=some (.ref f))(hk:PySem.W.keepIn X.K (.ref f)=true)(hb:Binds X.K fd ps ds)(hd:Vals dvs ds)(hx:Passes CX X E)
  (ha:PA X (e::es) t) (hdb:(x == ("__debug__":Str))=false:=by decide) (he:starEach (e::es) X.env=(false,eval e X.env)::starEach es X.env:=by rfl) (hpl:(backTo pos (starEach es X.env)).any (·.1)=false:=by rfl):
  PE X (.Call (.Name x p) (e::es) [] pos) (IV sp dvs E t):=by
 intro pins s σ H Q I h;refine Ro (RG I hg hm ?_ hdb);refine jG (h₀:=X.base) I.ok.mod.kin hk (Bm (ha pos pins s σ H _ I h) λus b ⟨vs,H1,a,r,q⟩=>⟨a.kIn,?_⟩) he hpl;exact zZ F hr hb hd hx a r q
theorem X2u(F:Er X.prog X.w X.K X.mg X.base CX k f fd ps sp)(hr:Cp k X.A)(hg:Gl X x)(hm:X.mg x=some (.ref f))(hk:PySem.W.keepIn X.K (.ref f)=true)(hb:Binds X.K fd ps ds)(hd:Vals dvs ds)(hx:Passes CX X E)
  (hdb:(x == ("__debug__":Str))=false:=by decide):PE X (.Call (.Name x p) [] [] pos) (IV sp dvs E O7):=by
 intro pins s σ H Q I h;refine Ro (RG I hg hm ?_ hdb);exact PySem.W.callWith_K0 I.kIn hk (zZ (us:=[]) F hr hb hd hx I .nil h)
end
def PK (X:Cx)(kws:List Keyword)(t:TA):Prop :=
 ∀(pos:Pos) (pins:U1) (s:W1) (σ:St) (H:Hp) (Q:List V->Hp->Prop),Inv X pins σ H s->t σ H Q->wpAny (model X.prog X.w) X.A (evalAll ((backToKw pos (keywordEach kws X.env)).map (·.2))) (AP X pins σ Q) X.xe s
section
variable {X:Cx}{CX:N7}{k:Nat}{f C:Y4}{fd:FuncData}{ps ks:W5}{sp:Sp}{E:XK}{x m:Str}{p pos apos kpos:Pos}{e o:Expr}{es:List Expr}{kws:List Keyword}{te ta:TE}{t tk:TA}{nm:Option Str}
theorem W1i:PK X [] O7:=λ_ _ _ _ H Q I h=>wpAny_evalAll_nil ⟨[],H,I,.nil,h⟩
theorem X7j(ha:PE X e te)(hr:PK X kws t):PK X (⟨nm,e,kpos⟩::kws) (Qg te t):=by
 intro pos pins s σ H Q I h;show wpAny _ _ (evalAll ((do let v ← eval e X.env;standAt pos;pure v)::(backToKw pos (keywordEach kws X.env)).map (·.2))) _ _ s;refine wpAny_evalAll_cons (Bw (Bm (ha pins s σ H _ I h) λu g ⟨x,H1,i,c,a⟩=>Bw (Ug (Cq ?_))));exact Bm (hr pos pins g σ H1 _ i a) λus s2 ⟨xs,H2,f,d,b⟩=>⟨x::xs,H2,f,.cons c d,b⟩
variable {g:List Value->List Value->List Value}{gV:List V->List V->List V}
end
structure BZ (N P:W5) (sc:Scope):Prop where
 kind:sc.kind=.function
 co:sc.isCoroutine=false
 gen:sc.isGenerator=false
 nd:N.Nodup
 pre:N.take P.length=P
 par:∀x∈P,sc.names.lookup x=some .local\/sc.names.lookup x=some .cell
 nofree:∀y∈sc.names,y.2≠.free
theorem xg{kindOf:Str->Option NameKind}{x:Str}:∀{binds:List (Str×Value)}{m:U6},(∀v,(x,v)∉binds)->bindL kindOf binds m x=m x
 | [],_,_=>rfl
 | (n,v)::r,m,h=>by
  unfold bindL;rw[xg λw a=>h w (Li _ a)];split
  ·have:x≠n:=by rintro rfl;exact h v Lg
   simp[this]
  ·rfl
theorem xY{kindOf:Str->Option NameKind}{x:Str}:∀{binds:List (Str×Value)}{m:U6},(∀v,(x,v)∉binds)->bindC kindOf binds m x=m x
 | [],_,_=>rfl
 | (n,v)::r,m,h=>by
  unfold bindC;rw[xY λw a=>h w (Li _ a)];split
  ·rfl
  ·have:x≠n:=by rintro rfl;exact h v Lg
   simp[this]
theorem xZ{kindOf:Str->Option NameKind}{x:Str}{v:W7}:∀{P:W5}{vs:U9}{i:Nat}{m:U6},P.Nodup->P[i]?=some x->vs[i]?=some v->kindOf x=some .local ->
  bindL kindOf (P.zip vs) m x=some v
 | [],_,_,_,_,h,_,_=>by simp at h
 | _::_,[],_,_,_,_,h,_=>by simp at h
 | p::P,w::vs,0,m,nd,h1,h2,hk=>by
  simp at h1 h2;subst h1;subst h2;show bindL kindOf ((p,w)::P.zip vs) m p=_;unfold bindL;rw[xg λv a=>(Qu.mp nd).1 (ZM a).1,if_pos hk];simp
 | p::P,w::vs,i+1,m,nd,h1,h2,hk=>by
  show bindL kindOf ((p,w)::P.zip vs) m x=_;unfold bindL;exact xZ (i:=i) (Qu.mp nd).2 (by simpa using h1) (by simpa using h2) hk
theorem xX{kindOf:Str->Option NameKind}{x:Str}{v:W7}:∀{P:W5}{vs:U9}{i:Nat}{m:U6},P.Nodup->P[i]?=some x->vs[i]?=some v->kindOf x≠some .local ->
  bindC kindOf (P.zip vs) m x=some v
 | [],_,_,_,_,h,_,_=>by simp at h
 | _::_,[],_,_,_,_,h,_=>by simp at h
 | p::P,w::vs,0,m,nd,h1,h2,hk=>by
  simp at h1 h2;subst h1;subst h2;show bindC kindOf ((p,w)::P.zip vs) m p=_;unfold bindC;rw[xY λv a=>(Qu.mp nd).1 (ZM a).1,if_neg hk];simp
 | p::P,w::vs,i+1,m,nd,h1,h2,hk=>by
  show bindC kindOf ((p,w)::P.zip vs) m x=_;unfold bindC;exact xX (i:=i) (Qu.mp nd).2 (by simpa using h1) (by simpa using h2) hk
noncomputable def start (N:W5)(vs:List V):St:=vs.map some++List.replicate (N.length-vs.length) none
noncomputable def Gw (CX:N7)(P:W3)(w:W6)(K:U0)(mg:U6)(base:Heap)(N:W5)(qual:Str)(scope:Scope)(f:Y4)(cd:W7)(A:Y1)(outer:List Env)(s:W1)(H:Hp)(E:XK):Cx where
 prog:=P
 w:=w
 K:=K
 mg:=mg
 base:=base
 A:=A.deeper (envOfC qual scope s.heap.objs.size f cd)
 N:=N
 s₀:=s
 H₀:=H
 env:=envOfC qual scope s.heap.objs.size f cd
 outer:=outer
 stack:=envOfC qual scope s.heap.objs.size f cd::outer
 ex:=[]
 calm:=true
 fn:=λ_=>true
 pn:=[]
 xe:=λe s'=>wpAny (model P w) (A.deeper (envOfC qual scope s.heap.objs.size f cd)) (leaving (envOfC qual scope s.heap.objs.size f cd) e) (λ_ s''=>CX outer H s E e s'') (λe' s''=>CX outer H s E e' s'') s'
theorem wD{sc:Scope}{n:Nat}{x:Str}(h:sc.names.lookup x=some .cell):∃c,(cellsFrom n sc.names []).lookup x=some c:=by
 have q:=jQ sc.names n [] (.inl h);exact Option.isSome_iff_exists.mp q
variable{qual:Str}{scope:Scope}
theorem yH{N:W5}{cd:W7}{outer:List Env}{s1:W1}{E:XK}{vs:List V}
  (S:BZ N ps scope) (hd:A.handled=none) (e0:J6 P w K mg base A outer s H) (hl:vs.length=ps.length) (r:Vals vs us)
  (x:InCallC s s.heap.objs.size (bindL (envOfC qual scope s.heap.objs.size f cd).kindOf (ps.zip us) λ_=>none) (cellsFrom (s.heap.objs.size+1) scope.names []) (bindC (envOfC qual scope s.heap.objs.size f cd).kindOf (ps.zip us) λ_=>none) s1):
  Inv (Gw CX P w K mg base N qual scope f cd A outer s H E) [] (start N vs) H s1:=by
 have B:ps.length<=N.length:=by have:=congrArg List.length S.pre;rw[Ka]at this;lia
 obtain⟨h1,tk,rfl,l⟩:=x.done;have g:∀b:Addr,b∉(Gw CX P w K mg base N qual scope f cd A outer s H E).ex:=λb z=>absurd (show b∈([]:U5) from z) (by simp)
 refine⟨⟨e0.mod,S.kind,O,O,CT _,λy z c h1 h2=>?_,λy d=>?_,λy c _ h=>?_,λ_=>hd,Around.frames_deeper e0.frames,.inr ⟨O,O⟩,λb z=>absurd z (g b),e0.bs,e0.bsz,λb _ _=>g b,λb z=>absurd z (g b),e0.funs,e0.frf⟩,
  rfl,e0.bare,Un.kept l,⟨_,x.toInCall.ns,λi y v h1 h2 C=>?_⟩,λy c h=>⟨_,x.cell y c h⟩,e0.hok.fresh (CT _),λy c h=>?_,λp hp=>absurd (show p∈([]:U1) from hp) (by simp),e0.hok.kept l,?_⟩
 ·exact name_of_addr x.apart (Rq h1) (Rq h2)
 ·have d:scope.names.lookup y=some .cell\/scope.names.lookup y=some .free:=d;rcases d with d | d
  ·exact wD d
  ·exact absurd rfl (S.nofree _ (Rq d))
 ·exact Ud (x.above y c (Rq h))
 ·have hi:i<vs.length:=by
   unfold start at h2;by_cases hi:i<vs.length
   ·exact hi
   ·rw[Us (by simpa using hi)]at h2;rw[Zh]at h2;split at h2<;>cases h2
  have o:vs[i]?=some v:=by
   unfold start at h2;rw[Rv (by simpa using hi),Cz]at h2;cases e:vs[i]? with
   | none=>rw[e]at h2;cases h2
   | some a=>rw[e]at h2;cases h2;rfl
  obtain⟨u,m,t⟩:=r.get o;have hp:ps[i]?=some y:=by
   rw[<-S.pre,List.getElem?_take_of_lt (by lia)];exact h1
  have j:ps.Nodup:=by rw[<-S.pre];exact S.nd.sublist (List.take_sublist _ _)
  refine⟨u,t,?_⟩;rcases S.par y (Ke hp) with k | k
  ·exact .inl ⟨k,xZ j hp m k⟩
  ·obtain⟨c,e⟩:=wD (n:=s.heap.objs.size+1) k;refine .inr ⟨.inl k,c,e,?_⟩;have q:=x.cell y c e;rw[xX j hp m (by show scope.names.lookup y≠_;rw[k];decide)]at q;exact q
 ·exact e0.hok.fresh (Ud (x.above y c (Rq h)))
 ·unfold start;show _=N.length;rw[Ed,A_,Ze];lia
theorem qU{k:Nat}{name:Str}{params:Arguments}{body:Y3}{dV kV doc pm cdv ct oc:W7}{an od:Y0}
  {osl:W9}{N:W5}{sp:Sp} (lk:K.lookup f=some ⟨oc,od,.func (PySem.W.fnOf name qual params body scope dV kV doc pm an cdv ct),osl⟩) (hcd:PySem.W.codeIn K cdv qual=true) (S:BZ N ps scope)
  (len:∀vs H Q E,sp vs H Q E->vs.length=ps.length)
  (hbody:∀(A:Y1) (outer:List Env) (s:W1) (H:Hp) (vs:List V) (Q:VK) (E:XK),Cp k (A.deeper (envOfC qual scope s.heap.objs.size f cdv))->sp vs H Q E ->
   ∃t,Hq (Gw CX P w K mg base N qual scope f cdv A outer s H E) body t/\t { nx:=λ_ H'=>Q .non H',rt:=Q} (start N vs) H):
  Er P w K mg base CX (k+1) f (PySem.W.fnOf name qual params body scope dV kV doc pm an cdv ct) ps sp:=by
 refine⟨len,λA outer s H args us vs Q E l d hb r g=>?_⟩;have C:=len _ _ _ _ g;have p:K.In s.heap:=d.mod.kin.keeps λb o e=>(d.bs b o e).1;have m:s.heap.NoLimit:=d.mod.nolimit.keeps λb o e=>(d.bs b o e).1;have a:∀y∈ps.zip us,scope.names.lookup y.1=some .local\/(scope.names.lookup y.1=some .cell/\((cellsFrom (s.heap.objs.size+1) scope.names []).lookup y.1).isSome=true):=λ⟨n,v⟩ z=>by
  rcases S.par n (ZM z).1 with q | q
  ·exact .inl q
  ·exact .inr ⟨q,jQ _ _ _ (.inl q)⟩
 refine sO l.depth (p _ _ lk) rfl S.co S.gen rfl (PySem.W.codeRec_of p hcd) (hb _ _ _ _ ?_);refine tY S.kind a λenv D s1 x=>?_;subst D;refine⟨m.keeps x.toInCall.keep,codeAny_func ?_⟩;obtain⟨t,F,B⟩:=hbody A outer s H vs Q E (l.deeper _) g;have I:Inv (Gw CX P w K mg base N qual scope f cdv A outer s H E) [] (start N vs) H s1:=yH S l.hd d C r x;refine GK (F [] s1 (start N vs) H _ I B) (λfl s' c=>?_) λe s' c=>c;have h:∀{i:St}{H':Hp}{v:V}{u:W7},Inv (Gw CX P w K mg base N qual scope f cdv A outer s H E) [] i H' s'->RelV v u->Q v H'->CE outer P w H s Q u s' :=
  λ{i H' v u} J j q=>⟨v,H',J.os,J.bare,J.base,J.hok,j,q⟩
 cases fl with
 | ret u =>
  obtain⟨v,i,H',J,j,q⟩:=c;exact h J j q
 | next =>
  obtain⟨i,H',J,q⟩:=c;exact h (v:=V.non) (u:=Value.none) J rfl q
 | brk =>
  obtain⟨_,_,_,q⟩:=c;exact False.elim q
 | cont =>
  obtain⟨_,_,_,q⟩:=c;exact False.elim q
section
variable {X:Cx}{x:Str}{p pos:Pos}{e:Expr}{es:List Expr}{t:TA}{id T:String}{r:List V->Hp->VK->Prop}
def sH (r:List V->Hp->VK->Prop)(t:TA):TE:=λσ H Q=>t σ H λvs H1=>r vs H1 Q
theorem CG(hc:Cm X (.builtin id) r)(hg:Gl X x)(hm:X.mg x=none)(hv:bootBuiltins x=some (.builtin id))(ha:PA X (e::es) t)(hn:x≠"__name__":=by decide)(hdb:(x == ("__debug__":Str))=false:=by decide)
  (he:starEach (e::es) X.env=(false,eval e X.env)::starEach es X.env:=by rfl) (hpl:(backTo pos (starEach es X.env)).any (·.1)=false:=by rfl):PE X (.Call (.Name x p) (e::es) [] pos) (sH r t):=by
 intro pins s σ H Q I h;refine Ro (QC I hg hm hv ?_ hn hdb);exact PyProof.Rows.callWith_builtin1 (Bm (ha pos pins s σ H _ I h) λus c ⟨vs,H1,d,b,a⟩=>hc pins c σ H1 vs us Q d b a) he hpl
theorem Ow(hc:Cm X (.type T) r)(hg:Gl X x)(hm:X.mg x=none)(hv:bootBuiltins x=some (.type T))(ha:PA X (e::es) t)(hn:x≠"__name__":=by decide)(hdb:(x == ("__debug__":Str))=false:=by decide)
  (he:starEach (e::es) X.env=(false,eval e X.env)::starEach es X.env:=by rfl) (hpl:(backTo pos (starEach es X.env)).any (·.1)=false:=by rfl):PE X (.Call (.Name x p) (e::es) [] pos) (sH r t):=by
 intro pins s σ H Q I h;refine Ro (QC I hg hm hv ?_ hn hdb);exact PyProof.Rows.callWith_type1 (Bm (ha pos pins s σ H _ I h) λus c ⟨vs,H1,d,b,a⟩=>hc pins c σ H1 vs us Q d b a) he hpl
end
end L2
namespace HT
section
open PySem.SeqAt
open PySem.AutoSeq1 (wpAny_loadPart')
open PySem.MeetsSeq PySem.MeetsSeq2 PySem.MeetsSeq3
end
section
variable {prog:W3}{w:W6}{A:Y1}{E:U3}{s:W1}
noncomputable def Ca (n d:Nat):Option Int->Nat
 | none=>d
 | some v=>if v<0 then (v+(n:Int)).toNat else min v.toNat n
theorem vR(n d k:Nat):Ca n d (some (k:Int))=min k n:=by
 show (if (k:Int)<0 then ((k:Int)+(n:Int)).toNat else min (k:Int).toNat n)=min k n;rw[if_neg (by lia),Dm]
theorem W1e(n d:Nat)(hd:d<=n)(o:Option Int):Ca n d o<=n:=by
 cases o with
 | none=>exact hd
 | some v =>
  show (if v<0 then (v+(n:Int)).toNat else min v.toNat n)<=n;by_cases hv:v<0
  ·rw[if_pos hv];lia
  ·rw[if_neg hv];exact Nat.min_le_right _ _
theorem _z(v:Int)(n d:Nat):(if v<0 then max (v+(n:Int)) 0 else min v (n:Int))=((Ca n d (some v):Nat):Int):=by
 show (if v<0 then max (v+(n:Int)) 0 else min v (n:Int))=(((if v<0 then (v+(n:Int)).toNat else min v.toNat n):Nat):Int);by_cases hv:v<0
 ·simp only[if_pos hv];lia
 ·simp only[if_neg hv];lia
theorem Y7c(lo hi:Option Int)(n:Nat):Builtin.Slice.sliceAdjust lo hi 1 (n:Int)=(((Ca n 0 lo:Nat):Int),((Ca n n hi:Nat):Int)):=by
 have h1:¬ ((1:Int)<0):=by lia
 unfold Builtin.Slice.sliceAdjust;simp only[h1,Kv];refine Prod.ext ?_ ?_
 ·cases lo with
  | none=>rfl
  | some v=>exact _z v n 0
 ·cases hi with
  | none=>rfl
  | some v=>exact _z v n n
theorem Y6i(i j:Nat):Builtin.Slice.slicePlaces (i:Int) (j:Int) 1=j-i:=by
 unfold Builtin.Slice.slicePlaces;have h1:(1:Int)>0:=by lia
 simp only[h1,KD,Int.ediv_one];split<;>lia
theorem uQ{v:W7}{o:Option Int}{Q:Option Int->Shared->Prop}(p:IsPart v o)(h:Q o s):wpAny (model prog w) A (Builtin.Slice.slicePartIndex v) Q E s:=by
 cases p with
 | none=>exact slicePart_none h
 | int i t=>exact slicePart_int h
variable{lo hi:Option Int}
theorem ux{sl:Y4}{vl vu:W7}{n:Nat}{Q:Int×Int×Nat->Shared->Prop}(hs:s.heap.IsSliceOf sl vl vu .none)(pl:IsPart vl lo)(pu:IsPart vu hi)
  (h:Q (((Ca n 0 lo:Nat):Int),1,Ca n n hi-Ca n 0 lo) s):wpAny (model prog w) A (Builtin.Slice.sliceApplied (.ref sl) (pure (n:Int))) Q E s:=by
 obtain⟨os,a,c,b⟩:=id hs;unfold Builtin.Slice.sliceApplied Builtin.Slice.sliceFields;refine Bw (Bw (LQ a b (x:=vl) rfl (Bw (LQ a b (x:=vu) rfl (Bw (LQ a b (x:=.none) rfl (Cq ?_)))))));refine Bw (slicePart_none ?_);show wpAny _ _ (if ((1:Int) == 0)=true then _ else _) _ _ s;rw[if_neg (by decide)];refine Bw (uQ pl (Bw (uQ pu (Bw (Cq ?_)))));show wpAny _ _ (match Builtin.Slice.sliceAdjust lo hi 1 (n:Int) with | (lo,hi)=>pure (lo,(1:Int),Builtin.Slice.slicePlaces lo hi 1)) _ _ s;rw[Y7c lo hi n];show wpAny _ _ (pure (((Ca n 0 lo:Nat):Int),(1:Int),Builtin.Slice.slicePlaces ((Ca n 0 lo:Nat):Int) ((Ca n n hi:Nat):Int) 1)) _ _ s;rw[Y6i];exact Cq h
theorem X2o(xs:W4)(i k:Nat):((List.range k).filterMap λ(m:Nat)=>xs[((i:Int)+(m:Int)*1).toNat]?).toArray=((xs.toList.drop i).take k).toArray:=by
 have e:(λ(m:Nat)=>xs[((i:Int)+(m:Int)*1).toNat]?)=λm=>xs[i+m]?:=by
  funext m;have:((i:Int)+(m:Int)*1).toNat=i+m:=by lia
  rw[this]
 rw[e];have:=pick_run xs i k;rw[List.filterMap_map]at this;have e2:((λx=>xs[x]?) ∘ λx=>i+x)=λm=>xs[i+m]?:=rfl;rw[e2]at this;rw[this]
theorem Z6r{t sl:Y4}{items:W4}{vl vu:W7}{Q:U3}(ht:IsTup s.heap t items)(hs:s.heap.IsSliceOf sl vl vu .none)(pl:IsPart vl lo)(pu:IsPart vu hi)
  (hw:¬ (Ca items.size 0 lo=0/\Ca items.size items.size hi=items.size))
  (h:Q (.ref s.heap.objs.size) {s with heap:=s.heap.push { cls:=.type "tuple",data:=.seq ((items.toList.drop (Ca items.size 0 lo)).take (Ca items.size items.size hi-Ca items.size 0 lo)).toArray}})
  (hsz:items.size<=sizeLine):wpAny (model prog w) A (getItem (.ref t) (.ref sl)) Q E s:=by
 have a:sizeOk (.seq ((items.toList.drop (Ca items.size 0 lo)).take (Ca items.size items.size hi-Ca items.size 0 lo)).toArray):=by
  show ((items.toList.drop (Ca items.size 0 lo)).take (Ca items.size items.size hi-Ca items.size 0 lo)).toArray.size<=sizeLine;rw[FJ,Ka,List.length_drop,Pg];lia
 have j:Ca items.size items.size hi<=items.size:=W1e _ _ (CT _) hi;obtain⟨os,b,c,f⟩:=id hs;have e:s.TypeIs (.ref sl) "slice":=⟨os,b,c⟩;unfold getItem;try with_reducible refine Pb ?_
 first | refine Bw (Cq ?_) | skip
 refine Bw (wpAny_sequenceKey ht.typeIs (by decide) ?_)
 refine Bw (jR (name:=Str.ofString "__getitem__") ht.typeIs PyProof.Rows.slot_tuple_getitem
  (ZR PyProof.Rows.slot_tuple_getitem ht.typeIs entry_tuple_getitem ?_ (args_tuple_getitem _ _)))
 show wpAny _ _ (Builtin.Tuple.tupleItemsOf (.ref t) >>= _) _ _ s;refine Bw (tupleItemsOf_ ht ?_);refine Bw (iC e ?_);rw[if_pos (by decide)];refine Bw (ux hs pl pu ?_);have d:¬ ((((Ca items.size 0 lo:Nat):Int) == 0 && (1:Int) == 1 && (Ca items.size items.size hi-Ca items.size 0 lo) == items.size)=true):=by
  intro q;rw[HX,HX]at q;have g:((Ca items.size 0 lo:Nat):Int)=0:=eq_of_beq q.1.1;have i:Ca items.size items.size hi-Ca items.size 0 lo=items.size:=eq_of_beq q.2;exact hw ⟨by lia,by lia⟩
 show wpAny _ _ (if (((Ca items.size 0 lo:Nat):Int) == 0 && (1:Int) == 1 && (Ca items.size items.size hi-Ca items.size 0 lo) == items.size)=true then _ else _) _ _ s;rw[if_neg d,X2o];first
  | exact Bw (m:=Builtin.Tuple.tupleExact _) (Qw (Cq ⟨_,rfl,Cq h⟩) a)
  | exact Bw (m:=Builtin.Tuple.tupleExact _) (Qw (Bw (Cq (Cq ⟨_,rfl,Cq h⟩))) a)
  | exact Bw (Bw (m:=Builtin.Tuple.tupleExact _) (Qw (Cq (Cq ⟨_,rfl,Cq h⟩)) a))
  | exact Bw (Bw (m:=Builtin.Tuple.tupleExact _) (Qw (Cq ⟨_,rfl,Cq h⟩) a))
end
end HT
namespace L2
abbrev TO:=St->Hp->(Option Int->Hp->Prop)->Prop
def PO (X:Cx)(e:Option Expr)(t:TO):Prop :=
 ∀(pins:U1) (s:W1) (σ:St) (H:Hp) (Q:Option Int->Hp->Prop),Inv X pins σ H s->t σ H Q ->
  wpAny (model X.prog X.w) X.A (evalPart e X.env) (λu s'=>∃o H',Inv X pins σ H' s'/\IsPart u o/\Q o H') X.xe s
def X6s:TO:=λ_ H Q=>Q none H
def WD (t:TE):TO:=λσ H Q=>t σ H λx H1=>∃i,x=.int i/\Q (some i) H1
theorem RQ{ns:W0}:∀{us:U9},Vals (ns.map V.int) us->IntsAre us ns:=by
 induction ns with
 | nil=>intro us r;rw[Pa]at r;cases r;exact .nil
 | cons n ns ih =>
  intro us r;rw[Gh]at r;cases r with
  | cons r1 r2 =>
   obtain⟨t,e⟩:=r1;subst e;exact .cons n t (ih r2)
section
variable {X:Cx}{e:Expr}{te:TE}{lo hi:Option Expr}{tl th:TO}{pos p2:Pos}
theorem Lx:PO X none X6s:=by
 intro pins s σ H Q I h;rw[evalPart_none];exact Cq ⟨none,H,I,.none,h⟩
theorem K7(h:PE X e te):PO X (some e) (WD te):=by
 intro pins s σ H Q I c;rw[evalPart_some];refine Bm (h pins s σ H _ I c) λu f ⟨x,H1,d,b,a⟩=>?_;obtain⟨i,rfl,q⟩:=a;obtain⟨t,rfl⟩:=b;exact⟨some i,H1,d,.int i t,q⟩
def Yk (X:Cx)(r:V->Option Int->Option Int->Hp->VK->Prop):Prop :=
 ∀(pins:U1) (s:W1) (σ:St) (H:Hp) (x:V) (v vl vu:W7) (lo hi:Option Int) (sl:Y4) (Q:VK),Inv X pins σ H s->RelV x v->s.heap.IsSliceOf sl vl vu .none->IsPart vl lo->IsPart vu hi->r x lo hi H Q ->
  ∃T id,typeLookup (.type T) "__getitem__"=pure (some (.builtin id))/\s.TypeIs v T/\wpAny (model X.prog X.w) X.A (getItem v (.ref sl)) (EP X pins σ Q) X.xe s
def tSl (r:V->Option Int->Option Int->Hp->VK->Prop)(te:TE)(tl th:TO):TE:=λσ H Q=>te σ H λx H1=>tl σ H1 λl H2=>th σ H2 λu H3=>r x l u H3 Q
theorem Nv{r:V->Option Int->Option Int->Hp->VK->Prop}(hr:Yk X r)(he:PE X e te)(hl:PO X lo tl)(hu:PO X hi th):PE X (.Subscript e (.Slice lo hi none p2) pos) (tSl r te tl th):=by
 intro pins s σ H Q I h;refine Subscript_ (Bm (he pins s σ H _ I h) λv z ⟨x,H1,B,i,d⟩=>?_);refine wpAny_Slice (Bm (hl pins z σ H1 _ B d) λvl s2 ⟨l,H2,y,k,f⟩=>Bm (hu pins s2 σ H2 _ y f) λa s3 ⟨u,c,j,o,p⟩=>?_);rw[evalPart_none];refine Cq ?_;have t:Inv X pins σ c {s3 with heap:=s3.heap.push { cls:=.type "slice",data:=.fields #[vl,a,.none]}}:=j.kept (t':=s3.toks) λb C q=>FP _ q;obtain⟨T,id,g,m,n⟩:=hr pins {s3 with heap:=s3.heap.push { cls:=.type "slice",data:=.fields #[vl,a,.none]}} σ c x v vl a l u s3.heap.objs.size Q t i (Heap.IsSliceOf.new ..) k o p;show wpAny (model X.prog X.w) X.A (subscriptTail e (.Slice lo hi none p2) v (.ref s3.heap.objs.size)) (EP X pins σ Q) X.xe {s3 with heap:=s3.heap.push { cls:=.type "slice",data:=.fields #[vl,a,.none]}};exact tail_any (ops:=[.ref s3.heap.objs.size,v]) m g n (by with_unfolding_all rfl)
noncomputable def FT (xs:List V)(lo hi:Option Int):List V:=(xs.drop (HT.Ca xs.length 0 lo)).take (HT.Ca xs.length xs.length hi-HT.Ca xs.length 0 lo)
theorem uY(xs:List V)(lo hi:Option Int):(FT xs lo hi).length<=xs.length:=by
 unfold FT;rw[Ka,List.length_drop];lia
def gj (K:U0):V->Option Int->Option Int->Hp->VK->Prop:=λx lo hi H Q=>∃a xs,x=.ref a/\Ax K H a xs /\
 ¬ (HT.Ca xs.length 0 lo=0/\HT.Ca xs.length xs.length hi=xs.length)/\∀p,H p=none->Q (.ref p) (upd H p (.tup (FT xs lo hi)))
theorem bV:Yk X (gj X.K):=by
 intro pins s σ H x v vl p lo hi m Q I k l i j h;obtain⟨a,xs,rfl,f,g,q⟩:=h;cases k;obtain⟨its,r,e,d⟩:=I.tuple f;have c:its.toArray.size=xs.length:=by rw[FJ];exact r.length.symm
 refine⟨"tuple",_,PyProof.Rows.slot_tuple_getitem.lookup,e.typeIs,?_⟩;refine HT.Z6r e l i j (by rw[c];exact g) ?_ (by rw[c];exact d);rw[c];refine⟨.ref s.heap.objs.size,_,I.laid (t':=s.toks) (o:=.tup (FT xs lo hi)) (λb n q=>FP _ q) (CT _) ?_,O,q _ (I.hok.fresh (CT _))⟩;exact⟨Ek (uY xs lo hi) d,_,(r.drop (HT.Ca xs.length 0 lo)).take (HT.Ca xs.length xs.length hi-HT.Ca xs.length 0 lo),IsTup.new _ _⟩
end
noncomputable def Nm (n:Nat)(i:Int):Option Nat:=if 0<=i then (if i<n then some i.toNat else none) else if -(n:Int)<=i then some (i+n).toNat else none
noncomputable def HF {α:Type}(xs:List α)(i:Int):Option α:=(Nm xs.length i).bind λj=>xs[j]?
variable{n j:Nat}{i:Int}
theorem X0k(h:Nm n i=some j):seqIndex? i n=some j/\j<n/\-(n:Int)<=i/\i<n:=by
 unfold Nm at h;by_cases h0:0<=i
 ·rw[if_pos h0]at h;by_cases h1:i<n
  ·rw[if_pos h1]at h;have e:i.toNat=j:=Option.some.inj h;exact⟨by rw[seqIndex_of h0 h1,e],by lia,by lia,h1⟩
  ·rw[if_neg h1]at h;cases h
 ·rw[if_neg h0]at h;by_cases h1:-(n:Int)<=i
  ·rw[if_pos h1]at h;have e:(i+n).toNat=j:=Option.some.inj h;exact⟨by rw[iB (by lia) h1,e],by lia,h1,by lia⟩
  ·rw[if_neg h1]at h;cases h
variable{α:Type}
theorem o9{xs:List α}{v:α}(h:HF xs i=some v):∃j,seqIndex? i xs.length=some j/\xs[j]?=some v/\j<xs.length/\-(xs.length:Int)<=i/\i<xs.length:=by
 unfold HF at h;cases e:Nm xs.length i with
 | none=>rw[e]at h;cases h
 | some j =>
  rw[e]at h;obtain⟨h1,h2,a,b⟩:=X0k e;exact⟨j,h1,h,h2,a,b⟩
theorem Ol{xs:List α}{v:α}(h:xs[j]?=some v):HF xs (j:Int)=some v:=by
 have a:j<xs.length:=(Fq.mp h).1;have e:Nm xs.length (j:Int)=some j:=by
  unfold Nm;rw[if_pos (by lia),if_pos (by lia)];simp
 unfold HF;rw[e];exact h
def X9u (b:Expr):Prop:=∀o i,subscripted b false o i=operate [o,i] (getItem o i)
def Vs (X:Cx)(r:R2):Prop :=
 ∀(value slice:Expr) (pins:U1) (s:W1) (σ:St) (H:Hp) (x y:V) (v u:W7) (Q:VK),Inv X pins σ H s->RelV x v->RelV y u->r x y H Q ->
  subscripted slice false v u=operate [v,u] (getItem v u)->wpAny (model X.prog X.w) X.A (subscriptTail value slice v u) (EP X pins σ Q) X.xe s
def rH (X:Cx)(id:String)(r:V->List V->Hp->VK->Prop):Prop :=
 ∀(pins:U1) (s:W1) (σ:St) (H:Hp) (x:V) (xs:List V) (v:W7) (us:U9) (Q:VK),Inv X pins σ H s->RelV x v->Vals xs us->r x xs H Q ->
  wpAny (model X.prog X.w) X.A (call (.builtin id) (v::us)) (EP X pins σ Q) X.xe s
section
variable {X:Cx}{a b:Expr}{ta tb:TE}{pos:Pos}
theorem Aw{r:R2}(hr:Vs X r)(ha:PE X a ta)(hb:PE X b tb)(hs:X9u b):PE X (.Subscript a b pos) (Y6 r ta tb):=by
 intro pins s σ H Q I h;exact Subscript_ (TF ha hb I h λv u s2 x y H2 c e d q=>hr a b pins s2 σ H2 x y v u Q c e d q (hs _ _))
def Wh (K:U0):R2:=λx y H Q=>∃p xs i v,x=.ref p/\y=.int i/\Ag K H p xs/\HF xs i=some v/\Q v H
def Wg (K:U0):R2:=λx y H Q=>∃p xs i v,x=.ref p/\y=.int i/\Ax K H p xs/\HF xs i=some v/\Q v H
def gq:R2:=λx y H Q=>∃z i c,x=.str z/\y=.int i/\z.length<=sizeLine/\HF z.cps.toList i=some c/\Q (.str ⟨#[c]⟩) H
theorem Eo:Vs X (Wh X.K):=by
 intro value e pins s σ H x y v u Q I B k h g;obtain⟨p,xs,i,z,rfl,rfl,n,A,q⟩:=h;cases B;obtain⟨t,rfl⟩:=k;obtain⟨its,r,c,C⟩:=I.list n;obtain⟨j,h1,h2,E,m,l⟩:=o9 A;obtain⟨w,f,d⟩:=r.get h2;have o:=r.length;have D:=GX;have a:EP X pins σ Q w s:=⟨z,H,I,d,q⟩;by_cases h0:0<=i
 ·have b:i.toNat=j:=by
   rw[seqIndex_of h0 l]at h1;exact Option.some.inj h1
  exact item_listR c.isList h0 (by lia) (by rw[b];simpa using f) a g
 ·have b:(i+(its.toArray.size:Int)).toNat=j:=by
   rw[iB (by lia) m]at h1;rw[FJ,<-o];exact Option.some.inj h1
  exact sY (x:=w) c.isList.typeIs slot_list_getitem.lookup
   (wpAny_getItem_list_neg (Q:=λr s'=>r=w/\EP X pins σ Q r s') c.isList (by lia) (by rw[FJ]<;>lia) (by lia) (by rw[b];simpa using f) ⟨O,a⟩) g
theorem BL:Vs X (Wg X.K):=by
 intro value c pins s σ H x y v u Q I m e h n;obtain⟨p,xs,i,z,rfl,rfl,g,l,q⟩:=h;cases m;obtain⟨t,rfl⟩:=e;obtain⟨its,r,d,B⟩:=I.tuple g;obtain⟨j,h1,h2,D,A,o⟩:=o9 l;obtain⟨w,f,a⟩:=r.get h2;have k:=r.length;have C:=GX;have b:EP X pins σ Q w s:=⟨z,H,I,a,q⟩;exact sY (x:=w) d.typeIs slot_tuple_getitem.lookup
  (getItem_tuple (j:=j) (Q:=λr s'=>r=w/\EP X pins σ Q r s') d (by lia) (by lia) (by rw[FJ,<-k];exact h1) (by simpa using f) ⟨O,b⟩) n
theorem W3g:Vs X gq:=by
 intro value a pins s σ H x y v u Q I k b h l;obtain⟨z,i,c,rfl,rfl,m,g,q⟩:=h;obtain⟨t,rfl⟩:=k;obtain⟨t',rfl⟩:=b;obtain⟨j,h1,h2,o,e,d⟩:=o9 g;have f:z.cps.toList.length=z.length:=by simp[Str.length]
 rw[f]at h1 e d;have n:=GX
 exact tail_any (typeIs_str s z t) slot_str_getitem.lookup (getItem_str (c:=c) (by
  have e1:decide (i < -(2^63:Int))=false:=Cr (by lia)
  have e2:decide (i>=2^63)=false:=Cr (by lia)
  rw[e1,e2,Wq]) (by rw[h1];simpa using h2) ⟨.str ⟨#[c]⟩,H,I.tok _,⟨_,O⟩,q⟩) l
theorem Y6s(its:U9)(n j:Nat)(u:W7):Obj.mapSeq (·.setIfInBounds j u) { cls:=.type "list",data:=.seq its.toArray n}={ cls:=.type "list",data:=.seq (its.set j u).toArray n}:=by
 simp[Obj.mapSeq]
theorem Inv.lst{pins:U1}{σ:St}{H:Hp}{s:W1}{p:Y4}{xs:List V}(I:Inv X pins σ H s)(h:H p=some (.lst xs)):
  ∃(its:U9) (n:Nat),Vals xs its/\s.heap.get? p=some { cls:=.type "list",data:=.seq its.toArray n}/\xs.length<=sizeLine:=by
 obtain⟨z,its,n,r,e⟩:=I.hok p _ h;exact⟨its,n,r,e,z⟩
variable{s:W1}
theorem Inv.lstUpd{pins:U1}{σ:St}{H:Hp}{p:Y4}{xs ys:List V}{its its':U9}{n':Nat}{f:Obj->Obj}(I:Inv X pins σ H s)(h:H p=some (.lst xs))
  (ho:s.heap.get? p=some { cls:=.type "list",data:=.seq its.toArray n}) (hf:f { cls:=.type "list",data:=.seq its.toArray n}={ cls:=.type "list",data:=.seq its'.toArray n'}) (r:Vals ys its') (hz:ys.length<=sizeLine) (t:Nat):
  Inv X pins σ (upd H p (.lst ys)) {s with heap:=s.heap.update p f,toks:=t}:=by
 have e:(s.heap.update p f).get? p=some { cls:=.type "list",data:=.seq its'.toArray n'}:=by
  rw[Uq f ho (by rw[hf]<;>rfl),hf]
 refine I.write (x:=p) (e:=p) (by rw[h];trivial) (.inl rfl) (λb u hb q=>(Rr _ _ (Ne.symm hb)).trans q) ⟨_,e⟩ ?_;exact⟨hz,its',n',r,e⟩
def Wf:V->V->V->Hp->(Hp->Prop)->Prop:=λo i v H Q=>∃p xs k j,o=.ref p/\i=.int k/\H p=some (.lst xs)/\Nm xs.length k=some j/\Q (upd H p (.lst (xs.set j v)))
theorem aF:Ym X Wf:=by
 intro pins s σ H o i v y A u Q I x g w h;obtain⟨p,xs,k,j,rfl,rfl,hp,l,q⟩:=h;cases x;obtain⟨t,rfl⟩:=g;obtain⟨its,n,r,a,m⟩:=I.lst hp;obtain⟨h1,h2,f,d⟩:=X0k l;have c:=r.length;have z:=GX;have e:Inv X pins σ (upd H p (.lst (xs.set j v))) {s with heap:=s.heap.update p (Obj.mapSeq (·.setIfInBounds j u))} :=
  I.lstUpd hp a (Y6s its n j u) (r.set w j) (by rw[ZL];exact m) s.toks
 by_cases h0:0<=k
 ·have b:k.toNat=j:=by
   rw[seqIndex_of h0 d]at h1;exact Option.some.inj h1
  exact PySem.W.ki_setAt a h0 (by lia) (by rw[FJ,<-c];exact d) (by rw[b];exact⟨_,e,q⟩)
 ·have b:(k+(its.toArray.size:Int)).toNat=j:=by
   rw[iB (by lia) f]at h1;rw[FJ,<-c];exact Option.some.inj h1
  exact PySem.W.ki_setBack a (by lia) (by rw[FJ,<-c];exact f) (by lia) (by rw[b];exact⟨_,e,q⟩)
theorem Y0y(lo hi:Option Int)(n:Nat):(sliceBounds lo hi none n).1=((HT.Ca n 0 lo:Nat):Int)/\(sliceBounds lo hi none n).2.1=((HT.Ca n n hi:Nat):Int)/\(sliceBounds lo hi none n).2.2=1:=by
 refine⟨?_,?_,O⟩
 ·cases lo with
  | none=>simp[sliceBounds,HT.Ca]
  | some i =>
   simp only[sliceBounds,HT.Ca,Option.getD_none,show (1:Int)>0 by decide,KD];by_cases h:i<0
   ·simp only[h,KD]<;>lia
   ·simp only[h,Kv]<;>lia
 ·cases hi with
  | none=>simp[sliceBounds,HT.Ca]
  | some i =>
   simp only[sliceBounds,HT.Ca,Option.getD_none,show (1:Int)>0 by decide,KD];by_cases h:i<0
   ·simp only[h,KD]<;>lia
   ·simp only[h,Kv]<;>lia
theorem Z9s(its:U9)(lo hi:Option Int):slicePick its.toArray lo hi none=((its.drop (HT.Ca its.length 0 lo)).take (HT.Ca its.length its.length hi-HT.Ca its.length 0 lo)).toArray:=by
 obtain⟨h1,h2,a⟩:=Y0y lo hi its.toArray.size;unfold slicePick;rw[h1,h2,a];simp only[sliceRange_one,pick_run,FJ]<;>rfl
def Wd (K:U0):V->Option Int->Option Int->Hp->VK->Prop:=λx lo hi H Q=>∃a xs,x=.ref a/\Ag K H a xs/\∀p,H p=none->Q (.ref p) (upd H p (.lst (FT xs lo hi)))
theorem Xx:Yk X (Wd X.K):=by
 intro pins s σ H x v vl n lo hi l Q I j k g i h;obtain⟨a,xs,rfl,e,q⟩:=h;cases j;obtain⟨its,r,d,f⟩:=I.list e;have c:=r.length;refine⟨"list",_,slot_list_getitem.lookup,d.isList.typeIs,?_⟩;refine tO d.isList k g i .none (by simp) ?_ (by rw[FJ]<;>lia);rw[Z9s,<-c];refine⟨.ref s.heap.objs.size,_,I.laid (t':=s.toks) (o:=.lst (FT xs lo hi)) (λb m q=>FP _ q) (CT _) ?_,O,q _ (I.hok.fresh (CT _))⟩;exact⟨Ek (uY xs lo hi) f,_,0,(r.drop (HT.Ca xs.length 0 lo)).take (HT.Ca xs.length xs.length hi-HT.Ca xs.length 0 lo),Gv _ rfl⟩
noncomputable def Gp:V->Bool
 | .non=>true
 | .bl _=>true
 | .int _=>true
 | .str _=>true
 | _=>false
noncomputable def Pu:V->V->Bool
 | .non,.non=>true
 | .bl a,.bl b=>a == b
 | .bl a,.int b=>(if a then 1 else 0) == b
 | .int a,.bl b=>a == (if b then 1 else 0)
 | .int a,.int b=>a == b
 | .str a,.str b=>a == b
 | _,_=>false
variable{x:V}{u v:W7}
theorem W3l{A:Y1}{y:V}(ry:RelV y u)(rx:RelV x v)(fy:Gp y=true)(fx:Gp x=true):SeqAt.EqAt A s u v (Pu y x):=by
 cases y with
 | non =>
  cases ry;cases x with
  | non=>cases rx;exact SeqAt.EqAt.same _
  | bl b=>cases rx;exact SeqAt.EqAt.none_bool b
  | int b=>obtain⟨t,rfl⟩:=rx;exact SeqAt.EqAt.none_int b t
  | str b=>obtain⟨t,rfl⟩:=rx;exact SeqAt.EqAt.none_str b t
  | _=>exact absurd (show false=true from fx) Gu
 | bl a =>
  cases ry;cases x with
  | non=>cases rx;exact SeqAt.EqAt.bool_none a
  | bl b=>cases rx;exact SeqAt.EqAt.bool_bool a b
  | int b=>obtain⟨t,rfl⟩:=rx;exact SeqAt.EqAt.bool_int a b t
  | str b=>obtain⟨t,rfl⟩:=rx;exact SeqAt.EqAt.bool_str a b t
  | _=>exact absurd (show false=true from fx) Gu
 | int a =>
  obtain⟨t',rfl⟩:=ry;cases x with
  | non=>cases rx;exact SeqAt.EqAt.int_none a t'
  | bl b=>cases rx;exact SeqAt.EqAt.int_bool a t' b
  | int b=>obtain⟨t,rfl⟩:=rx;exact SeqAt.EqAt.int_int a t' b t
  | str b=>obtain⟨t,rfl⟩:=rx;exact SeqAt.EqAt.int_str a t' b t
  | _=>exact absurd (show false=true from fx) Gu
 | str a =>
  obtain⟨t',rfl⟩:=ry;cases x with
  | non=>cases rx;exact SeqAt.EqAt.str_none a t'
  | bl b=>cases rx;exact SeqAt.EqAt.str_bool a t' b
  | int b=>obtain⟨t,rfl⟩:=rx;exact SeqAt.EqAt.str_int a t' b t
  | str b=>obtain⟨t,rfl⟩:=rx;exact SeqAt.EqAt.str_str a t' b t
  | _=>exact absurd (show false=true from fx) Gu
 | _=>exact absurd (show false=true from fy) Gu
noncomputable def Px (x:V)(u:W7):Bool:=match u with
 | .none=>Pu .non x
 | .bool b=>Pu (.bl b) x
 | .int i _=>Pu (.int i) x
 | .str z _=>Pu (.str z) x
 | _=>false
theorem yt{y:V}(r:RelV y u)(f:Gp y=true):Px x u=Pu y x:=by
 cases y with
 | non=>cases r;rfl
 | bl b=>cases r;rfl
 | int i=>obtain⟨t,rfl⟩:=r;rfl
 | str z=>obtain⟨t,rfl⟩:=r;rfl
 | _=>exact absurd (show false=true from f) Gu
theorem o8{x:V}:∀{xs:List V}{us:U9},Vals xs us->xs.all Gp=true->us.any (Px x)=xs.any λy=>Pu y x
 | _,_,.nil,_=>rfl
 | y::xs,u::us,.cons r t,f=>by
  rw[List.all_cons,HX]at f;rw[Qt,Qt,yt r f.1,o8 t f.2]
theorem qM{A:Y1}{s:W1}{x:V}{v:W7}(rx:RelV x v)(fx:Gp x=true):∀{xs:List V}{us:U9},Vals xs us->xs.all Gp=true->∀u∈us,SeqAt.EqAt A s u v (Px x u)
 | _,_,.nil,_=>λu a=>by cases a
 | y::xs,u::us,.cons r t,f=>λb a=>by
  rw[List.all_cons,HX]at f;rcases Dw.mp a with rfl | a
  ·rw[yt r f.1];exact W3l r rx f.1 fx
  ·exact qM rx fx t f.2 b a
noncomputable def inV (x:V)(xs:List V):Bool:=xs.any λy=>Pu y x
def rIn (K:U0)(neg:Bool):R2:=λx y H Q=>∃p xs,y=.ref p/\(Ag K H p xs\/Ax K H p xs)/\Gp x=true/\xs.all Gp=true/\Q (.bl (if neg then !inV x xs else inV x xs)) H
theorem Y8w:Ei X (compareOp .In) (rIn X.K false):=by
 intro pins s σ H x y v u Q I e f h;obtain⟨p,xs,rfl,a,d,fs,q⟩:=h;cases f;rcases a with a | a
 ·obtain⟨its,r,c,g⟩:=I.list a;refine SeqAt.in_listAt (Px x) c.isList (λw b=>qM e d r fs w (by simpa using b)) ⟨.bl _,H,I,O,?_⟩;rw[show its.toArray.any (Px x)=its.any (Px x) by simp,o8 r fs];exact q
 ·obtain⟨its,r,c,g⟩:=I.tuple a;refine SeqAt.in_tupleAt (Px x) c (λw b=>qM e d r fs w (by simpa using b)) ⟨.bl _,H,I,O,?_⟩;rw[show its.toArray.any (Px x)=its.any (Px x) by simp,o8 r fs];exact q
theorem Eh:Cm X (.builtin "len") (λxs H Q=>∃p ys,xs=[.ref p]/\(Ag X.K H p ys\/Ax X.K H p ys)/\Q (.int ys.length) H):=by
 intro pins s σ H xs us Q I r h;obtain⟨p,ys,rfl,b,q⟩:=h;obtain⟨u,rfl,f⟩:=vals1 r;cases f;have g:=GX;rcases b with b | b
 ·obtain⟨its,c,d,e⟩:=I.list b;have a:=c.length;exact Calls.call_len_list d.isList (by simp only[FJ]<;>lia) ⟨.int ys.length,H,I.tok _,⟨s.toks+1,by rw[FJ,a]⟩,q⟩
 ·obtain⟨its,c,d,e⟩:=I.tuple b;have a:=c.length;exact len_tuple d (by simp only[FJ]<;>lia) ⟨.int ys.length,H,I.tok _,⟨s.toks+1,by rw[FJ,a]⟩,q⟩
theorem Tp:Cm X (.type "list") (λxs H Q=>∃p ys,xs=[.ref p]/\(Ag X.K H p ys\/Ax X.K H p ys)/\∀l,H l=none->Q (.ref l) (upd H l (.lst ys))):=by
 intro pins s σ H xs us Q I r h;obtain⟨p,ys,rfl,d,q⟩:=h;obtain⟨u,rfl,t⟩:=vals1 r;cases t;have g:∀(its:U9),Vals ys its->ys.length<=sizeLine->∀(h':Heap) (c':Nat),(∀b o',s.heap.get? b=some o'->h'.get? b=some o') ->
   h'.get? s.heap.objs.size=some { cls:=.type "list",dict:=none,data:=.seq its.toArray c',slots:=#[]}->EP X pins σ Q (.ref s.heap.objs.size) {s with heap:=h'}:=λits a f h' c' c e =>
  ⟨.ref s.heap.objs.size,_,I.laid (t':=s.toks) c (CT _) (show Bh X.prog X.w _ h' _ (.lst ys) from ⟨f,its,c',a,e⟩),O,q _ (I.hok.fresh (CT _))⟩
 rcases d with d | d
 ·obtain⟨its,a,m,f⟩:=I.list d;have i:=a.length;obtain⟨o,j,k,n,hd⟩:=m.isList;exact call_list_seq p (.inl rfl) j k hd (λh' c' c e=>g its a f h' c' c e) (by simp only[FJ]<;>lia)
 ·obtain⟨its,a,m,f⟩:=I.tuple d;have i:=a.length;obtain⟨o,j,k,n,hd⟩:=m;exact call_list_seq p (.inr rfl) j k hd (λh' c' c e=>g its a f h' c' c e) (by simp only[FJ]<;>lia)
def fX (K:U0)(T:String)(x:V)(H:Hp):Prop:=match x with
 | .str _=>T="str"
 | .int _=>T="int"
 | .ref p=>(T="list"/\∃xs,Ag K H p xs)\/(T="tuple"/\∃o,K.lookup p=some o/\o.cls=.type "tuple"/\o.dict=none) \/
   (T="dict"/\((∃kvs,H p=some (.dK kvs))\/∃kvs,H p=some (.dT kvs)))\/(T="set"/\∃S n,H p=some (.set S n))
 | _=>False
theorem zm{pins:U1}{σ:St}{H:Hp}{T:String}(I:Inv X pins σ H s)(r:RelV x v)(ty:fX X.K T x H):
  s.TypeIs v T/\∀a,v=.ref a->∃ob,s.heap.get? a=some ob/\ob.dict=none:=by
 cases x with
 | str z =>
  obtain⟨t,rfl⟩:=r;cases (show T="str" from ty);exact⟨typeIs_str s z t,λ_ e=>nomatch e⟩
 | int i =>
  obtain⟨t,rfl⟩:=r;cases (show T="int" from ty);exact⟨Y_ s i t,λ_ e=>nomatch e⟩
 | ref p =>
  cases r;rcases ty with ⟨rfl,xs,hq⟩ | ⟨rfl,o,hk,hc,hd⟩ | ⟨rfl,hk⟩ | ⟨rfl,S,n,hk⟩
  ·obtain⟨its,_,b,_⟩:=I.list hq;refine⟨b.isList.typeIs,λa e=>?_⟩;cases e;obtain⟨o,n,e,c,hd,_⟩:=b;exact⟨o,e,hd⟩
  ·refine⟨⟨o,I.kIn p o hk,hc⟩,λa e=>?_⟩;cases e;exact⟨o,I.kIn _ o hk,hd⟩
  ·have z:∃o,s.heap.get? p=some o/\o.ExactDict:=by
    rcases hk with ⟨kvs,hk⟩ | ⟨kvs,hk⟩
    ·obtain⟨_,_,_,_,o,_,_,e,ex,_⟩:=I.hok p _ hk;exact⟨o,e,ex⟩
    ·obtain⟨_,_,_,_,o,_,_,e,ex,_⟩:=I.hok p _ hk;exact⟨o,e,ex⟩
   obtain⟨o,e,ex⟩:=z;refine⟨⟨o,e,ex.1⟩,λa e2=>?_⟩;cases e2;exact⟨o,e,ex.2.1⟩
  ·obtain⟨o,_,_,_,e,ex,_⟩:=I.hok p _ hk;refine⟨⟨o,e,ex.1⟩,λa e2=>?_⟩;cases e2;exact⟨o,e,ex.2.1⟩
 | _=>exact False.elim ty
def gQ (K:U0)(T:String)(r:V->List V->Hp->VK->Prop)(to:TE):TE:=λσ H Q=>to σ H λx H1=>fX K T x H1/\r x [] H1 Q
def tBM (K:U0)(T:String)(r:V->List V->Hp->VK->Prop)(to:TE)(t:TA):TE:=λσ H Q=>to σ H λx H1=>fX K T x H1/\t σ H1 λxs H2=>r x xs H2 Q
variable {o e:Expr}{es:List Expr}{to:TE}{t:TA}{name:Str}{apos cpos:Pos}{T id:String}{r:V->List V->Hp->VK->Prop}
theorem QH(pa:PlainAttrs T)(slot:Slot T name id)(hty:typeOf (.builtin id)=pure (.type "method_descriptor"))(hm:rH X id r)(ho:PE X o to)
  (hbase:attributeBase o name X.env (eval o X.env)=eval o X.env:=by rfl) (hline:(apos.endLine == cpos.line)=true:=by rfl):PE X (.Call (.Attribute o name apos) [] [] cpos) (gQ X.K T r to):=by
 intro pins s σ H Q I h;refine wpAny_Call_method0_late hbase hline (Bm (ho pins s σ H _ I h) λv d ⟨x,H1,b,a,ty,c⟩=>?_);obtain⟨h1,h2⟩:=zm b a ty;exact⟨T,id,pa,slot,hty,h1,h2,Calls.callWith_builtin rfl (PySem.evalArgs_none (hm pins d σ H1 x [] v [] Q b a .nil c))⟩
theorem QB(pa:PlainAttrs T)(slot:Slot T name id)(hty:typeOf (.builtin id)=pure (.type "method_descriptor"))(hm:rH X id r)(ho:PE X o to)(ha:PA X (e::es) t)
  (hbase:attributeBase o name X.env (eval o X.env)=eval o X.env:=by rfl)
  (hfew:((backTo cpos (starEach (e::es) X.env)).all (λx=>!x.1) && (backToKw cpos (keywordEach [] X.env)).all (λx=>x.1.isSome)
   && decide ((e::es).length+([]:List Keyword).length+(if ([]:List Keyword).isEmpty then 0 else 1)<30))=true:=by rfl)
  (hline:(apos.endLine == cpos.line)=true:=by rfl) (hs:starEach (e::es) X.env=(false,eval e X.env)::starEach es X.env:=by rfl) (hplain:(backTo cpos (starEach es X.env)).any (·.1)=false:=by rfl):
  PE X (.Call (.Attribute o name apos) (e::es) [] cpos) (tBM X.K T r to t):=by
 intro pins s σ H Q I h;refine wpAny_Call_method_late hbase hfew hline rfl (Bm (ho pins s σ H _ I h) λv j ⟨x,H1,c,a,ty,d⟩=>?_);obtain⟨h1,h2⟩:=zm c a ty;refine⟨T,id,pa,slot,hty,h1,h2,?_⟩;have b:=ha cpos pins j σ H1 _ c d;rw[hs]at b ⊢;refine Calls.callWith_builtin (by show (false || (backTo cpos (starEach es X.env)).any (·.1))=false;rw[hplain]<;>rfl) (Calls.evalArgs_plain ?_);exact Bm b λus s2 ⟨vs,H2,i,g,f⟩=>hm pins s2 σ H2 x vs v us Q i a g f
end
def MtM (X:Cx)(id:String)(r:V->List V->Hp->VK->Prop):Prop :=
 ∀(pins:U1) (s:W1) (σ:St) (H:Hp) (x:V) (xs:List V) (v:W7) (us:U9) (Q:VK),Inv X pins σ H s->RelV x v->Vals xs us->r x xs H Q ->
  wpAny (model X.prog X.w) X.A (call (.builtin id) (v::us)) (EP X pins σ Q) X.xe s
theorem Vals.one{x:V}{us:U9}(h:Vals [x] us):∃u,us=[u]/\RelV x u:=by
 cases h with
 | cons r t=>cases t;exact⟨_,rfl,r⟩
theorem Vals.two{x y:V}{us:U9}(h:Vals [x,y] us):∃u v,us=[u,v]/\RelV x u/\RelV y v:=by
 cases h with
 | cons r t=>cases t with
  | cons q t=>cases t;exact⟨_,_,rfl,r,q⟩
theorem Vals.rep{xs:List V}{us:U9}(h:Vals xs us):∀k:Nat,Vals (List.replicate k xs).flatten (List.replicate k us).flatten
 | 0=>.nil
 | k+1=>by
  rw[Rp,Rp,Wy,Wy];exact Vals.append h (Vals.rep h k)
theorem yE(its:U9):∀(k:Nat) (acc:U9),
  List.foldl (λx1 x2=>x1++x2) acc.toArray (List.replicate k its.toArray)=(acc++(List.replicate k its).flatten).toArray
 | 0,acc=>by simp
 | k+1,acc=>by
  have e:acc.toArray++its.toArray=(acc++its).toArray:=by simp
  have e2:(acc++its)++(List.replicate k its).flatten=acc++(List.replicate (k+1) its).flatten:=by
   rw[Rp,Wy,Ul]
  rw[<-e2,<-yE its k (acc++its),<-e,Rp,iV]
section
variable {X:Cx}{pins:U1}{σ:St}{H:Hp}{s:W1}{l b:Y4}{xs ys zs:List V}
theorem Inv.lset{its its':U9}{f:Array Value->Array Value}{t':Nat}(I:Inv X pins σ H s)(hH:H l=some (.lst xs))
  (e:s.heap.get? l=some { cls:=.type "list",data:=.seq its.toArray n}) (hf:f its.toArray=its'.toArray) (hv:Vals ys its') (hz:ys.length<=sizeLine):
  Inv X pins σ (upd H l (.lst ys)) {s with heap:=s.heap.update l (Obj.mapSeq f),toks:=t'}:=by
 have q:=PySem.IsL.update e f;rw[hf]at q;refine I.write (x:=l) (e:=l) (by rw[hH];exact trivial) (.inl rfl) (λb' u hb a=>(Rr s.heap (Obj.mapSeq f) (Ne.symm hb)).trans a) ⟨_,q⟩ ?_;exact⟨hz,its',_,hv,q⟩
theorem Inv.lnew{its:U9}{t':Nat}(I:Inv X pins σ H s)(hv:Vals ys its)(hz:ys.length<=sizeLine):
  Inv X pins σ (upd H s.heap.objs.size (.lst ys)) {s with heap:=s.heap.push { cls:=.type "list",data:=.seq its.toArray},toks:=t'} :=
 I.laid (λ_ _ q=>FP _ q) (CT _) ⟨hz,its,0,hv,Gv _ rfl⟩
theorem Inv.fresh(I:Inv X pins σ H s):H s.heap.objs.size=none:=I.hok.fresh (CT _)
theorem Inv.lstM(I:Inv X pins σ H s)(hH:H l=some (.lst xs)):xs.length<=sizeLine/\∃(its:U9) (n:Nat),Vals xs its/\xs.length=its.length/\s.heap.get? l=some { cls:=.type "list",data:=.seq its.toArray n}:=by
 obtain⟨z,its,n,r,e⟩:=I.hok l _ hH;exact⟨z,its,n,r,r.length,e⟩
theorem wX(h:n<=sizeLine):Builtin.List.listTooLong n=false:=by
 unfold Builtin.List.listTooLong;exact Cr (by lia)
end
section
variable {X:Cx}
def X7f:V->List V->Hp->VK->Prop:=λx vs H Q=>∃l xs y,x=.ref l/\vs=[y]/\H l=some (.lst xs)/\xs.length<sizeLine/\Q .non (upd H l (.lst (xs++[y])))
theorem QV:MtM X "list.append" X7f:=by
 intro pins s σ H x vs v us Q I d c h;obtain⟨l,xs,y,rfl,rfl,a,f,q⟩:=h;cases d;obtain⟨u,rfl,b⟩:=c.one;obtain⟨z,its,n,r,g,e⟩:=I.lstM a;refine Y9 F.slot_list_append ⟨_,e,O⟩ F.entry_list_append (F.args_list_append_2 _ _) (PySem.list_append l its.toArray n u (by rw[FJ];lia)) ⟨e,?_⟩;refine⟨.non,_,I.lset (its':=its++[u]) a e (by simp) (r.append (.cons b .nil)) ?_,O,q⟩;rw[Ed,Zf];lia
def X7e:V->List V->Hp->VK->Prop:=λx vs H Q=>∃l b xs zs,x=.ref l/\vs=[.ref b]/\H l=some (.lst xs)/\H b=some (.lst zs)/\xs.length+zs.length<=sizeLine/\Q .non (upd H l (.lst (xs++zs)))
theorem yK:MtM X "list.extend" X7e:=by
 intro pins s σ H x vs v us Q I k j h;obtain⟨l,b,xs,zs,rfl,rfl,d,o,t,q⟩:=h;cases k;obtain⟨u,rfl,g⟩:=j.one;cases g;obtain⟨z,its,n,r,w,e⟩:=I.lstM d;obtain⟨p,a,i,f,m,e2⟩:=I.lstM o;have hsz:its.toArray.size+a.toArray.size<=sizeLine:=by rw[FJ,FJ];lia
 have c:¬ (!its.toArray.isEmpty && Builtin.List.listTooLong (its.toArray.size+a.toArray.size))=true:=by
  rw[wX hsz,iK];exact Gu
 refine Y9 F.slot_list_extend ⟨_,e,O⟩ F.entry_list_extend (F.args_list_extend_2 _ _)
  (AutoSeq1.list_extend_list_list_0 l its.toArray n b a.toArray i c (by rw[FJ];lia) (by lia)) ⟨e,e2,?_⟩
 refine⟨.non,_,I.lset (its':=its++a) d e (by simp) (r.append f) ?_,O,q⟩;rw[Ed];lia
def gw:R2:=λx y H Q=>∃l b xs zs,x=.ref l/\y=.ref b/\H l=some (.lst xs)/\H b=some (.lst zs)/\xs.length+zs.length<=sizeLine/\∀p,H p=none->Q (.ref p) (upd H p (.lst (xs++zs)))
theorem Oi:Ei X (binaryOp .Add) gw:=by
 intro pins s σ H x y v u Q I i c h;obtain⟨l,b,xs,zs,rfl,rfl,f,k,p,q⟩:=h;cases i;cases c;obtain⟨z,its,n,r,t,e⟩:=I.lstM f;obtain⟨o,a,m,d,j,e2⟩:=I.lstM k;refine PySem.P.add_list e e2 ?_ (by rw[FJ,FJ];lia);have g:its.toArray++a.toArray=(its++a).toArray:=by simp
 rw[g];exact⟨.ref _,_,I.lnew (t':=s.toks) (r.append d) (by rw[Ed];lia),O,q _ I.fresh⟩
def gn:R2:=λx y H Q=>∃l k xs,x=.ref l/\y=.int k/\H l=some (.lst xs)/\-(2^63)<=k/\k<2^63/\xs.length*k.toNat<=sizeLine /\
 ∀p,H p=none->Q (.ref p) (upd H p (.lst (List.replicate k.toNat xs).flatten))
theorem X8t(xs:List α)(k:Nat):(List.replicate k xs).flatten.length=k*xs.length:=by
 induction k with
 | zero=>simp
 | succ k ih=>rw[Rp,Wy,Ed,ih,Nat.succ_mul,Wo]
theorem bM:Ei X (binaryOp .Mult) gn:=by
 intro pins s σ H x y v u Q I A j h;obtain⟨l,k,xs,rfl,rfl,o,h1,h2,i,q⟩:=h;cases A;obtain⟨t,rfl⟩:=j;obtain⟨z,its,n,r,p,e⟩:=I.lstM o;have d:its.toArray.size*k.toNat<=sizeLine:=by rw[FJ,<-p];exact i
 have f:¬ its.toArray.size*k.toNat>(2^63-1) / 8:=by
  have:(sizeLine:Nat)<=(2^63-1) / 8:=by decide
  lia
 have g:¬ (!Builtin.List.listFitsIndex k)=true:=by
  rw[fitsIndex_both h1 h2];exact Gu
 have b:¬ Builtin.List.listTooLong (its.toArray.size*k.toNat)=true:=by
  rw[wX d];exact Gu
 have c:List.foldl (λx1 x2=>x1++x2) #[] (List.replicate (if its.toArray.isEmpty=true then 0 else k.toNat) its.toArray)=(List.replicate k.toNat its).flatten.toArray:=by
  have w:∀m:Nat,List.foldl (λx1 x2=>x1++x2) #[] (List.replicate m its.toArray)=(List.replicate m its).flatten.toArray:=λm=>by
   have:=yE its m [];rw[List.nil_append]at this;exact this
  rw[w];cases its with
  | nil=>simp
  | cons a r'=>rw[if_neg (by simp)]
 refine wpAny_binaryOp_repeat_ref (T:="list") (U:="int") (by decide) ⟨_,e,O⟩ (λs'=>Y_ s' k t) noFill_list_mul F.fills_int_mul F.slot_int_rmul repeat_list F.slot_int_index.lookup
  (Y9 F.slot_int_rmul (Y_ s k t) F.entry_int_rmul (F.args_int_rmul_2 _ _) (int___rmul___int_list k t l its.toArray n)
   ⟨e,O,⟨_,e,O⟩,Y9 F.slot_list_mul ⟨_,e,O⟩ F.entry_list_mul (F.args_list_mul_2 _ _) (AutoListH.list___mul___list_int_3 l its.toArray n k t g f b) ⟨e,?_⟩⟩)
 rw[c];exact⟨.ref _,_,I.lnew (t':=s.toks) (r.rep k.toNat) (by rw[X8t,Lb];exact i),O,q _ I.fresh⟩
end
section
variable {prog:W3}{w:W6}{A:Y1}{E:U3}{s:W1}
end
section
variable {X:Cx}
end
end L2
namespace Att
open PySem.W PySem.Calls
variable{P:Params}
theorem Z8k{h:Heap}:∀(ns:W0) (vs:U9),WellAll P h vs (ns.map WData.int)->IntsAre vs ns:=by
 intro ns;induction ns with
 | nil =>
  intro vs w;rw[Pa]at w;cases w;exact .nil
 | cons n ns ih =>
  intro vs w;rw[Gh]at w;cases w with
  | cons a b =>
   cases a;exact .cons _ _ (ih _ b)
variable{l:OpenLaw}{n:Nat}
theorem Y8a(hn:l.most=some n){h:Heap}{args:List WData}{vals:U9}
  (hpre:l.row.toRowW.claim.pre args=true) (hwl:WellAll P h vals args):
  ∃a vs ns,vals=[Value.ref a]/\args=[WData.list (ns.map WData.int)]/\h.get? a=some { cls:=.type "list",data:=.seq vs.toArray}/\IntsAre vs ns/\ns.length<=n:=by
 have f:WShape.hasAll [] args [.list .int]=true:=(pre_splitW hpre).1;have g:l.pre.holds [] { args:=args}=true:=(pre_splitW hpre).2;obtain⟨d,r,rfl,h1,h2⟩:=hasAllW_cons f;obtain rfl:=hasAllW_nil h2;obtain⟨xs,rfl,j⟩:=hasW_list h1;obtain⟨ns,rfl⟩:=items_int j;have b:ns.length<=n:=by
  unfold OpenLaw.pre at g;have c:(WTm.not (.lt (.lit (.int (n:Int))) (.len (.arg 0)))).holds [] { args:=[.list (ns.map .int)]}=true:=by
   have c:=(holds_andW g).1;rw[hn]at c;exact c
  have e:=condW_of c (w_not (w_lt w_lit (w_len_list (w_arg rfl))));rw[A_]at e;refine iu λq=>?_;have i:(n:Int)<((ns.length:Nat):Int):=by lia
  first
   | (rw[Ec i]at e;exact absurd e (by decide))
   | (simp at e;lia)
 cases hwl with
 | cons w1 w2 =>
  cases w2;cases w1 with
  | list ho hall=>exact⟨_,_,ns,rfl,rfl,ho,Z8k ns _ hall,b⟩
theorem Y8h(l:OpenLaw)(args:List WData):l.row.toRowW.claim.post args (.bool true) args=true :=
 postW_of (r:=l.row.toRowW) (X:=(true == true))
  (show WShape.has [] (.bool true) .bool=true by first | rfl | decide | simp[WShape.has,WShape.arms,WShape.armsAll])
  (show (WTm.eq .res (.lit (.bool true))).value [] { args:=args,res:=some (.bool true),after:=args}=some (.bool (true == true)) from w_eq_bool (w_res rfl) w_lit) rfl
theorem Y3n{q:W3}{loose:W5}{XP:(Str->Option Value)->Heap->Prop}{YP:World->Heap->Prop}{d:DefRec}
  (hn:l.most=some n) (hdf:d.params.defaults=[])
  (call:∀(w:W6) (u b:W1) (mg t:U6) (h:Y4) (o:Obj) (s k c:W7) (a:Y4) (vs:U9) (ns:W0),
   Ground q loose [] XP w u mg t b.heap->YP w b.heap ->
   b.heap.get? h=some o->o.data=.func (docDef d.name d.params d.body d.scope s k c)->b.heap.CodeRec k d.name->mg d.name=some (.ref h) ->
   b.heap.get? a=some { cls:=.type "list",data:=.seq vs.toArray}->IntsAre vs ns->ns.length<=n->b.gens=#[] ->
   codeAny (model l.prog w) callerA (.call (.ref h) ⟨[.ref a],[]⟩) (λr s'=>r=.ok (.ret (.bool true))/\OldK b.heap s'.heap/\s'.os=b.os/\AllBare s'.gens) b):
  WalkO q loose XP YP l.row.toRowW d [] (λf vs=>PySem.call f vs):=by
 intro w u b mg t G Y h o s k c dV kV B hd v y m H args vals as g x z p A;obtain rfl:dV=.none:=Dflts.none y hdf;obtain rfl:kV=.none:=Dflts.noKw y;obtain⟨a,vs,ns,rfl,rfl,j,e,i⟩:=Y8a hn g p;refine enter_call (Qq (call w u b mg t h o s k c a vs ns G Y B (fd_plain hd) v m j e i H) λr s' D=>?_);obtain⟨rfl,h2,F,C⟩:=D;exact⟨.inl ⟨.bool true,.bool true,[],O,λ_=>rfl,.bool true,Y8h l _,λ_=>⟨List.Pairwise.nil,λ_ E=>(nomatch E)⟩⟩,h2,F,C⟩
section
variable {prog:W3}{w:W6}{A:Y1}{E:U3}{s:W1}{K:Frag}
end
end Att
namespace L2
theorem aU:∀{vs:U9}{ns:W0},IntsAre vs ns->Vals (ns.map V.int) vs
 | _,_,.nil=>.nil
 | _,_,.cons n t h=>.cons ⟨t,rfl⟩ (aU h)
def Only (H:Hp):Prop:=∀b,H b=none\/∃o xs,H b=some (.frz o (.lst xs))
theorem X3z{P:W3}{w:W6}{K:U0}{mg mb:U6}{CX:N7}{k:Nat}{fa a:Y4}{fd:FuncData}{x:Str}{sp:Sp}{s₁:W1}{vs:U9}{ns:W0}
  (KX:K.In s₁.heap) (hns:s₁.heap.Ns mainGlobals mg) (hb:s₁.heap.Ns builtinsNs mb) (hbb:∀x:Str,x≠"__name__"->mb x=bootBuiltins x) (hlim:s₁.heap.NoLimit) (hg:s₁.gens=#[])
  (ha:s₁.heap.get? a=some { cls:=.type "list",data:=.seq vs.toArray}) (hi:IntsAre vs ns) (hl:ns.length<=sizeLine) (hr:Cp k callerA)
  (F:∀base:Heap,K.In base->base.Ns mainGlobals mg->Er P w K mg base CX k fa fd [x] sp) (hbind:∀(s:W1) (u:W7),BindsTo s fd ⟨[u],[]⟩ [(x,u)])
  (hsp:∀H:Hp,Only H->Ag K H a (ns.map V.int)->sp [.ref a] H (λv _=>v=.bl true) λ_ _ _=>False)
  (hCX:∀H e s',CX [] H s₁ (λ_ _ _=>False) e s'->False):
  codeAny (model P w) callerA (.call (.ref fa) ⟨[.ref a],[]⟩) (λr s'=>r=.ok (.ret (.bool true))/\OldK s₁.heap s'.heap/\s'.os=s₁.os/\AllBare s'.gens) s₁:=by
 have E:=aU hi;have y:=hi.length;have g:∀H:Hp,Only H->Ag K H a (ns.map V.int)->Fb P w H s₁.heap->(∀b,H b≠none->b=a)->(H a≠none->K.lookup a=none) ->
   codeAny (model P w) callerA (.call (.ref fa) ⟨[.ref a],[]⟩) (λr s'=>r=.ok (.ret (.bool true))/\OldK s₁.heap s'.heap/\s'.os=s₁.os/\AllBare s'.gens) s₁:=by
  intro H C J l D L;have c:∀{b:Y4}{o:Obj},s₁.heap.get? b=some o->H b=none->(Iu s₁.heap H).get? b=some o:=λe n=>X4d e n;have B:∀{b:Y4}{o:Obj}{es:Array DictEntry}{ep:Nat},s₁.heap.get? b=some o->o.data=.dict es ep->H b=none:=λ{b o es ep} e d=>by
   cases q:H b with
   | none=>rfl
   | some u =>
    have A:b=a:=D b (by rw[q];simp);subst A;rw[ha]at e;cases e;have d':Data.seq vs.toArray _=Data.dict es ep:=d;cases d'
  have f:∀{b:Y4}{m:U6},s₁.heap.Ns b m->(Iu s₁.heap H).Ns b m:=λ{b m} ⟨o,es,ep,e,d,r⟩=>⟨o,es,ep,c e (B e d),d,r⟩
  have i:K.In (Iu s₁.heap H):=λb o e=>c (KX b o e) (by
   cases q:H b with
   | none=>rfl
   | some u =>
    have A:b=a:=D b (by rw[q];simp)
    subst A
    rw[L (by rw[q];simp)]at e;cases e)
  have N:Mod K mg (Iu s₁.heap H):=⟨i,f hns,⟨mb,f hb,hbb⟩,let ⟨mc,h1,h2⟩:=hlim;⟨mc,f h1,h2⟩⟩;have M:J6 P w K mg (Iu s₁.heap H) callerA [] s₁ H:=⟨O,N,λb o e=>X8g e,Nat.le_of_eq (X0o _ _),trivial,λb hb=>absurd (show b∈([]:U5) from hb) (by simp),l,.of_eq hg⟩;refine Qq ((F _ i (f hns)).run callerA [] s₁ H ⟨[.ref a],[]⟩ [.ref a] [.ref a] _ _ hr M (hbind s₁ (.ref a)) (.cons rfl .nil) (hsp H C J)) λr s' h=>?_;cases r with
  | error e=>exact(hCX H e s' h).elim
  | ok fl =>
   cases fl with
   | next=>exact False.elim h
   | brk=>exact False.elim h
   | cont=>exact False.elim h
   | ret u =>
    obtain⟨v,H',os,j,un,p,G,q⟩:=h;have Q:v=.bl true:=q;subst Q;obtain rfl:u=Value.bool true:=G;refine⟨O,OldK.of_keep λb o e=>?_,os,j⟩;cases q:H b with
    | none=>exact un.keep b o e q (by intro z;exact absurd (show b∈([]:U5) from z) (by simp)) (by simp)
    | some u =>
     rcases C b with z | ⟨ob,xs,z⟩
     ·rw[q]at z;cases z
     ·have I:=un.frzs b ob _ z;obtain⟨e1,_⟩:=l b _ z;obtain⟨e2,_⟩:=p b _ I;rw[e]at e1;cases e1;exact e2
 cases hk:K.lookup a with
 | some o =>
  have e:=KX a o hk;rw[ha]at e;cases e;refine g (λ_=>none) (λ_=>.inl rfl) (.inr ⟨_,vs.toArray,_,hk,O,O,O,by rw[FJ,y];exact hl,by simpa using E⟩) (λb u z=>by have t:(none:Option HO)=some u:=z;cases t) (λb z=>absurd rfl z) λz=>absurd rfl z
 | none =>
  refine g (λb=>if b=a then some (.frz { cls:=.type "list",data:=.seq vs.toArray} (.lst (ns.map V.int))) else none) (λb=>?_) (.inl (.inr ⟨{ cls:=.type "list",data:=.seq vs.toArray},if_pos rfl⟩)) (λb u z=>?_) (λb z=>?_) λ_=>hk
  ·by_cases hb:b=a
   ·exact .inr ⟨_,_,if_pos hb⟩
   ·exact .inl (if_neg hb)
  ·by_cases hb:b=a
   ·have t:=(if_pos hb).symm.trans z;cases t;subst hb;exact⟨ha,by rw[A_];exact hl,vs,_,E,ha⟩
   ·have t:=(if_neg hb).symm.trans z;cases t
  ·by_cases hb:b=a
   ·exact hb
   ·exact absurd (if_neg hb) z
theorem X6l{l:PySem.W.OpenLaw}{n k:Nat}{q:W3}{loose:W5}{XP:(Str->Option Value)->Heap->Prop}{YP:World->Heap->Prop}{d:DefRec}{K:Params->U0}{CX:World->N7}{sp:World->Sp}{x:Str}
  (hn:l.most=some n) (hn2:n<=sizeLine) (hdf:d.params.defaults=[]) (hr:Cp k callerA)
  (hY:∀(w:W6) (h:Heap),YP w h->(K w.params).In h)
  (F:∀(w:W6) (mg:U6) (m:Y4) (h:Heap),(K w.params).In h->h.Ns mainGlobals mg->mg d.name=some (.ref m) ->
   ∃fd:FuncData,(∀(s:W1) (u:W7),BindsTo s fd ⟨[u],[]⟩ [(x,u)]) /\
    ∀base:Heap,(K w.params).In base->base.Ns mainGlobals mg->Er l.prog w (K w.params) mg base (CX w) k m fd [x] (sp w))
  (hsp:∀(w:W6) (H:Hp) (a:Y4) (ns:W0),ns.length<=n->Only H->Ag (K w.params) H a (ns.map V.int)->sp w [.ref a] H (λv _=>v=.bl true) λ_ _ _=>False)
  (hCX:∀(w:W6) (H:Hp) (s:W1) (e:W7) (s':W1),CX w [] H s (λ_ _ _=>False) e s'->False):
  PySem.W.WalkO q loose XP YP l.row.toRowW d [] (λf vs=>PySem.call f vs):=by
 refine Att.Y3n hn hdf λw M z mg L m o J I t a vs ns G Y E hd B p j i c D=>?_;have r:=hY w _ Y;obtain⟨fd,hb,C⟩:=F w mg m _ r G.T.g p;exact X3z r G.T.g G.T.b G.T.builtins G.T.nolimit D j i (Ek c hn2) hr C hb (λH y A=>hsp w H a ns c y A) λH e s'=>hCX w H z e s'
end L2
namespace L2
noncomputable def Oo (s:Stmt)(j:Nat):Stmt:=match s with
 | .ClassDef _ _ _ body _ _ _ _ _ _ _=>body.getD j (.Pass ⟨0,0,0,0⟩)
 | _=>.Pass ⟨0,0,0,0⟩
noncomputable def HN (s:Stmt):Arguments:=match s with
 | .FunctionDef _ a _ _ _ _ _ _ _ _=>a
 | _=>{ posonlyargs:=[],args:=[],vararg:=none,kwonlyargs:=[],kw_defaults:=[],kwarg:=none,defaults:=[]}
noncomputable def Gb (s:Stmt):List Stmt:=match s with
 | .FunctionDef _ _ b _ _ _ _ _ _ _=>b
 | _=>[]
noncomputable def DG (s:Stmt):Scope:=match s with
 | .FunctionDef _ _ _ _ _ _ sc _ _ _=>sc
 | _=>{ kind:=.function,names:=[],isGenerator:=false,isCoroutine:=false}
noncomputable abbrev LC:N7:=λ_ _ _ _ _ _=>False
abbrev E0:XK:=λ_ _ _=>False
theorem Q0{X:Cx}:Passes LC X E0:=λ_ _ _ _ _ _ _ h=>h.elim
structure fV (K:U0) (x qual:Str) (st:Stmt) (f:Y4) (fd:FuncData):Prop where
 ex:∃(oc:W7) (od:Y0) (kV doc pm:W7) (an:Y0) (cdv ct:W7) (osl:W9),
  fd=PySem.W.fnOf x qual (HN st) (Gb st) (DG st) .none kV doc pm an cdv ct/\K.lookup f=some ⟨oc,od,.func fd,osl⟩/\PySem.W.codeIn K cdv qual=true
 kp:PySem.W.keepIn K (.ref f)=true
section
variable {P:W3}{w:W6}{K:U0}{mg:U6}{base:Heap}
variable{qual:Str}{st:Stmt}{f:Y4}
theorem fV.ok{x:Str}{fd:FuncData}{N ps:W5}{k:Nat}{sp:Sp}(F:fV K x qual st f fd)(S:BZ N ps (DG st))(len:∀vs H Q E,sp vs H Q E->vs.length=ps.length)
  (hbody:∀(cdv:W7) (A:Y1) (outer:List Env) (s:W1) (H:Hp) (vs:List V) (Q:VK) (E:XK),Cp k (A.deeper (envOfC qual (DG st) s.heap.objs.size f cdv))->sp vs H Q E ->
   ∃t,Hq (Gw LC P w K mg base N qual (DG st) f cdv A outer s H E).nox (Gb st) t/\t { nx:=λ_ H'=>Q .non H',rt:=Q} (start N vs) H):Er P w K mg base LC (k+1) f fd ps sp:=by
 obtain⟨j,od,kV,c,i,l,cdv,ct,d,rfl,g,a⟩:=F.ex;refine qU g a S len λA outer s H vs Q E e b=>?_;obtain⟨t,h,q⟩:=hbody cdv A outer s H vs Q E e b;exact⟨t,h.nox,q⟩
theorem W3h{x:Str}{oc:W7}{od an:Y0}{osl:W9}{kV doc pm cdv ct:W7}(l:K.lookup f=some ⟨oc,od,.func (PySem.W.fnOf x qual (HN st) (Gb st) (DG st) .none kV doc pm an cdv ct),osl⟩)
  (c:PySem.W.codeIn K cdv qual=true) (k:PySem.W.keepIn K (.ref f)=true):fV K x qual st f (PySem.W.fnOf x qual (HN st) (Gb st) (DG st) .none kV doc pm an cdv ct):=⟨⟨oc,od,kV,doc,pm,an,cdv,ct,osl,O,l,c⟩,k⟩
end
theorem fD{A:Y1}{k:Nat}(hr:Cp k A):A.units+1<cLine:=Ob (Nat.add_le_add_left (by decide:1<=64) _) hr.units
section
variable {X:Cx}
theorem pv(i:Nat){x:Str}{pos:Pos}(hN:X.N[i]?=some x:=by rfl)(hv:Yi X.env.scope x:=by first | exact Or.inl rfl | exact Or.inr (Or.inl rfl) | exact Or.inr (Or.inr rfl))(hd:(x == ("__debug__":Str))=false:=by decide)
  (hcd:(x == ("__classdict__":Str))=false:=by decide):PE X (.Name x pos) (V7 i):=W1l hN hv hd hcd
end
theorem Bd{A B:Prop}(h:B):if false=true then A else B:=by
 rw[if_neg Gu];exact h
theorem Ds{A B:Prop}(h:A):if true=true then A else B:=by
 rw[if_pos rfl];exact h
def Same (H H':Hp):Prop:=∀b o,H b=some o->H' b=some o
theorem Same.refl(H:Hp):Same H H:=λ_ _ h=>h
variable{H:Hp}
theorem Same.trans{H1 H2:Hp}(a:Same H H1)(b:Same H1 H2):Same H H2:=λc o h=>b c o (a c o h)
theorem Same.free{H':Hp}(e:Same H H'){l:Y4}(h:H' l=Option.none):H l=Option.none:=by
 cases q:H l with
 | none=>rfl
 | some o =>
  rw[e l o q]at h;cases h
theorem Same.seq{K:U0}{H':Hp}{a:Y4}{xs:List V}(e:Same H H')(h:Ag K H a xs):Ag K H' a xs:=by
 rcases h with (h | ⟨o,h⟩) | h
 ·exact .inl (.inl (e _ _ h))
 ·exact .inl (.inr ⟨o,e _ _ h⟩)
 ·exact .inr h
end L2
set_option maxHeartbeats 4000000
namespace L2
def Sz (k:Nat)(x:Int):Prop:=x.natAbs<2^k
instance (k:Nat) (x:Int):Decidable (Sz k x):=by unfold Sz;infer_instance
variable{j:Nat}{x:Int}
theorem Sz.mono{k:Nat}(h:Sz j x)(hjk:j<=k):Sz k x:=DK h (G3 (by decide) hjk)
variable{y:Int}
theorem Sz.le{k:Nat}(h:Sz k x)(hy:y.natAbs<=x.natAbs):Sz k y:=Ob hy h
theorem Sz.mul{k:Nat}(h:Sz j x)(h':Sz k y):Sz (j+k) (x*y):=by
 unfold Sz at *;rw[Int.natAbs_mul,HW];exact Nat.mul_lt_mul'' h h'
theorem Sz.neg{k:Nat}(h:Sz k x):Sz k (-x):=by unfold Sz at *;rwa [Int.natAbs_neg]
theorem Sz.add{k:Nat}(h:Sz j x)(h':Sz k y):Sz (max j k+1) (x+y):=by
 have h1:=h.mono (Nat.le_max_left j k);have h2:=h'.mono (Nat.le_max_right j k);unfold Sz at *;rw[M_];have:=Int.natAbs_add_le x y;lia
theorem Sz.sub{k:Nat}(h:Sz j x)(h':Sz k y):Sz (max j k+1) (x-y):=by
 have:=h.add h'.neg;rwa [<-Int.sub_eq_add_neg]at this
theorem Sz.bits{k:Nat}(h:Sz k x):Builtin.Int.intBits x<=k:=by
 unfold Builtin.Int.intBits;split
 ·exact Fy _
 ·rename_i hx;have b:x≠0:=by simpa using hx
  have a:x.natAbs≠0:=by lia
  exact(Nat.log2_lt a).mpr h
theorem Sz.log2{k:Nat}(h:Sz k x)(hk:0<k):x.natAbs.log2<k:=by
 by_cases hn:x.natAbs=0
 ·rw[hn];simpa using hk
 ·exact(Nat.log2_lt hn).mpr h
def Yx (_i j:Int):Prop:=j≠0/\Sz 9000 j
section
variable {X:Cx}
theorem X2x:Ei X (binaryOp .FloorDiv) (rI Yx λi j=>.int (i.fdiv j)):=Q6 λ_ _ _ _ _ _ _ a q=>floordiv_int a.1 q (.inl (PyProof.noPylong_of_log2 (a.2.log2 (by decide))))
theorem YJ{h:Heap}{a:Y4}{vs:U9}{ns:W0}(hl:IsTup h a vs.toArray)(hi:IntsAre vs ns):Reads h (.ref a) (.tuple (ns.map PyData.int)) []:=by
 obtain⟨o,c,b,n,hd⟩:=hl;exact Reads.tuple c b hd (by simpa using PySem.W.readsAll_of_ints hi)
theorem ao(ns:W0):SeqAt.shaped (.tuple (ns.map PyData.int))=true:=by
 have h1:=sJ ns;have h2:PyData.depth (.tuple (ns.map PyData.int))<=64:=by simp only[PyData.depth];lia
 show (PyData.canLay0 (.tuple (ns.map PyData.int)) && decide (PyData.depth (.tuple (ns.map PyData.int))<=64))=true;rw[HX];exact⟨by simp only[PyData.canLay0];exact tD ns,Ec h2⟩
def M7 (K:U0)(neg:Bool):R2:=λx y H Q=>∃(a b:Y4) (ns ms:W0),x=.ref a/\y=.ref b/\Ax K H a (ns.map V.int)/\Ax K H b (ms.map V.int)/\Q (.bl (if neg then !decide (ns=ms) else decide (ns=ms))) H
theorem X7o(hu:X.A.units+64<cLine):Ei X (compareOp .Eq) (M7 X.K false):=by
 intro pins s σ H x y v u Q I g d h;obtain⟨a,b,ns,ms,rfl,rfl,h1,h2,q⟩:=h;cases g;cases d;obtain⟨its,f,p,_⟩:=I.tuple h1;obtain⟨its',c,e,_⟩:=I.tuple h2;refine iH (YJ p (RQ f)) (YJ e (RQ c)) (ao ns) (ao ms) hu (by simp only[SeqAt.noMix];exact jJ ns ms) ?_;refine⟨.bl (decide (ns=ms)),H,I,?_,q⟩;show _=_;simp only[PySem.Spec.same];rw[jC]
theorem vK(hu:X.A.units+64<cLine):Ei X (compareOp .NotEq) (M7 X.K true):=by
 intro pins s σ H x y v u Q I g d h;obtain⟨a,b,ns,ms,rfl,rfl,h1,h2,q⟩:=h;cases g;cases d;obtain⟨its,f,p,_⟩:=I.tuple h1;obtain⟨its',c,e,_⟩:=I.tuple h2;refine iI (YJ p (RQ f)) (YJ e (RQ c)) (ao ns) (ao ms) hu (by simp only[SeqAt.noMix];exact jJ ns ms) ?_;refine⟨.bl (!decide (ns=ms)),H,I,?_,q⟩;show _=_;simp only[PySem.Spec.same];rw[jC]
theorem Ox:Cm X (.builtin "isinstance") (λxs H Q=>∃x T t b,xs=[x,.ty T]/\DP X.K H x t/\PySem.W.kitOne X.K t (.type T)=some b/\Q (.bl b) H):=by
 intro pins s σ H xs us Q I r h;obtain⟨x,T,t,b,rfl,ty,e,q⟩:=h;obtain⟨u,v,rfl,a,c⟩:=r.two;cases c;exact X0m I a ty e λtk=>⟨.bl b,H,I.tok tk,O,q⟩
end
section
variable {prog:W3}{w:W6}{A:Y1}{E:U3}
end
section
variable {X:Cx}{pos:Pos}
end
section
variable {X:Cx}{tg:Expr}
end
end L2
namespace L2
theorem uL{α β:Type}{f:α->β->Sem (ForInStep β)}{g:β->α->β}:∀(l:List α) (b:β),(∀x∈l,∀b,f x b=pure (.yield (g b x)))->forIn l b f=pure (l.foldl g b)
 | [],b,_=>rfl
 | x::r,b,h=>by
  rw[List.forIn_cons,h x Lg b,pure_bind];exact uL r (g b x) λy a=>h y (Li _ a)
noncomputable def Jy (cells:List (Str×Addr))(cs:List (Str×Addr))(x:Str×NameKind):List (Str×Addr):=if x.2 == .free then (x.1,(cells.lookup x.1).getD 0)::cs else cs
noncomputable def clo (names:List (Str×NameKind))(cells:List (Str×Addr)):List (Str×Addr):=names.foldl (Jy cells) []
variable{env:Env}
theorem aV{scope:Scope}(h:∀x∈scope.names,x.2=.free->∃c,env.cells.lookup x.1=some c):closureFor scope env=pure (clo scope.names env.cells):=by
 simp only[closureFor];unfold clo
 rw[uL (g:=Jy env.cells) scope.names [] (λx d b=>by
  obtain⟨n,k⟩:=x
  unfold Jy
  by_cases hk:k=.free
  ·subst hk
   obtain⟨c,e⟩:=h (n,.free) d rfl
   have a:env.cells.lookup n=some c:=e
   simp[cellOf,a]
  ·have hb:(k == NameKind.free)=false:=by simpa using hk
   simp[hb])]
 rfl
variable{x:Str}{c:Y4}
theorem uq{n:Str}{l:List (Str×Addr)}:List.lookup x ((n,c)::l)=if x=n then some c else List.lookup x l:=by
 by_cases h:x=n
 ·subst h;rw[if_pos rfl,List.lookup_cons_self]
 ·rw[if_neg h,Ww];have:(x == n)=false:=by simpa using h
  rw[this]
theorem _2{cells:List (Str×Addr)}:∀(names:List (Str×NameKind)) (cs:List (Str×Addr)),(∀x∈names,x.2=.free->∃c,cells.lookup x.1=some c)->(∀x c,cs.lookup x=some c->cells.lookup x=some c) ->
  ∀x c,(names.foldl (Jy cells) cs).lookup x=some c->cells.lookup x=some c
 | [],cs,_,h0=>h0
 | (n,k)::r,cs,h,h0=>by
  refine _2 r _ (λy b=>h y (Li _ b)) λx c e=>?_;unfold Jy at e;by_cases hk:k=.free
  ·subst hk;obtain⟨c',a⟩:=h (n,.free) Lg rfl;simp only[beq_self_eq_true,KD]at e;rw[uq]at e;have a:cells.lookup n=some c':=a;by_cases hx:x=n
   ·subst hx;rw[if_pos rfl,a]at e;rw[a];exact e
   ·rw[if_neg hx]at e;exact h0 x c e
  ·have hb:(k == NameKind.free)=false:=by simpa using hk
   simp only[hb,Uo,Kv]at e;exact h0 x c e
theorem qG{cells:List (Str×Addr)}:∀(names:List (Str×NameKind)) (cs:List (Str×Addr)) (x:Str),((x,NameKind.free)∈names\/∃c,cs.lookup x=some c)->∃c,(names.foldl (Jy cells) cs).lookup x=some c
 | [],cs,x,h=>by
  rcases h with h | h
  ·cases h
  ·exact h
 | (n,k)::r,cs,x,h=>by
  refine qG r _ x ?_;unfold Jy;by_cases hk:k=.free
  ·subst hk;simp only[beq_self_eq_true,KD];rw[uq];by_cases hx:x=n
   ·exact .inr ⟨_,if_pos hx⟩
   ·rw[if_neg hx];rcases h with h | h
    ·rcases Dw.mp h with h | h
     ·exact absurd (congrArg Prod.fst h) hx
     ·exact .inl h
    ·exact .inr h
  ·have hb:(k == NameKind.free)=false:=by simpa using hk
   simp only[hb,Uo,Kv];rcases h with h | h
   ·rcases Dw.mp h with h | h
    ·exact absurd (congrArg Prod.snd h).symm hk
    ·exact .inl h
   ·exact .inr h
structure Bl (N:W5) (osc sc:Scope) (Nc:W5) (mp:Y2):Prop where
 kind:sc.kind=.function
 nocell:∀y∈sc.names,y.2≠.cell
 names:∀y∈sc.names,y.2=.local->sc.names.lookup y.1=some .local
 free:∀y∈sc.names,y.2=.free->osc.names.lookup y.1=some .cell\/osc.names.lookup y.1=some .free
 len:mp.length=Nc.length
 map:∀(i j:Nat),mp[i]?=some (some j)->∃x,Nc[i]?=some x/\N[j]?=some x/\sc.names.lookup x=some .free
noncomputable def Q7 (N:W5)(osc sc:Scope)(Nc:W5)(mp:Y2):Bool :=
 decide (sc.kind=.function) && sc.names.all (λy=>!decide (y.2=.cell) && (!decide (y.2=.local) || decide (sc.names.lookup y.1=some .local)) &&
  (!decide (y.2=.free) || decide (osc.names.lookup y.1=some .cell) || decide (osc.names.lookup y.1=some .free))) &&
 decide (mp.length=Nc.length) && (List.range mp.length).all λi=>match mp[i]? with
  | some (some j)=>match Nc[i]? with
   | some x=>decide (N[j]?=some x) && decide (sc.names.lookup x=some .free)
   | none=>false
  | _=>true
variable{sc:Scope}{mp:Y2}
theorem Bl.of{N:W5}{osc:Scope}{Nc:W5}(h:Q7 N osc sc Nc mp=true):Bl N osc sc Nc mp:=by
 unfold Q7 at h;simp only[HX,JG,Gz,Le,Bool.not_eq_true',decide_eq_false_iff_not]at h;obtain⟨⟨⟨h1,h2⟩,c⟩,b⟩:=h;refine⟨h1,λy a=>(h2 y a).1.1,λy a e=>?_,λy a e=>?_,c,λi j e=>?_⟩
 ·rcases (h2 y a).1.2 with q | q
  ·exact absurd e q
  ·exact q
 ·rcases (h2 y a).2 with (q | q) | q
  ·exact absurd e q
  ·exact .inl q
  ·exact .inr q
 ·have hi:i<mp.length:=(Fq.mp e).1;have q:=b i (El.mpr hi);rw[e]at q;cases hx:Nc[i]? with
  | none=>rw[hx]at q;simp at q
  | some x =>
   rw[hx]at q;simp only[HX,JG]at q;exact⟨x,O,q.1,q.2⟩
theorem uw{f:Str×NameKind->Str×NameKind}(h1:∀p,(f p).1=p.1)(h2:∀p,p.2=.free->(f p).2=.cell\/(f p).2=.free):∀{names:List (Str×NameKind)}{x:Str},names.lookup x=some .free->(names.map f).lookup x=some .cell\/(names.map f).lookup x=some .free
 | [],_,h=>by simp at h
 | (n,k)::r,x,h=>by
  have l:=@uw f h1 h2 r x;rw[Gh];have c:=h1 (n,k);have d:=h2 (n,k);generalize f (n,k)=z at c d;obtain⟨i,g⟩:=z;have a:i=n:=c;subst a;cases hx:x == i with
  | true =>
   rw[Ww,hx]at h;have j:k=.free:=by simpa using h
   rw[Ww,hx];rcases d j with e | e
   ·have b:g=.cell:=e;subst b;exact .inl rfl
   ·have b:g=.free:=e;subst b;exact .inr rfl
  | false =>
   rw[Ww,hx]at h;rw[Ww,hx];exact l h
variable{names:List (Str×NameKind)}
theorem Z5k(h:names.lookup x=some .free):
  (names.map λ(n,k)=>if (k == NameKind.free && env.scope.kind == .function && env.kindOf n == some .cell) then (n,NameKind.cell) else (n,k)).lookup x=some .cell \/
  (names.map λ(n,k)=>if (k == NameKind.free && env.scope.kind == .function && env.kindOf n == some .cell) then (n,NameKind.cell) else (n,k)).lookup x=some .free:=by
 refine uw (λp=>?_) (λp hp=>?_) h
 ·obtain⟨n,k⟩:=p;dsimp only;split<;>rfl
 ·obtain⟨n,k⟩:=p;dsimp only;split
  ·exact .inl rfl
  ·exact .inr hp
theorem uf{k':NameKind}(hc:∀y∈names,y.2≠.cell)(hk:k'=.cell\/k'=.free)
  (h:(names.map λ(n,k)=>if (k == NameKind.free && env.scope.kind == .function && env.kindOf n == some .cell) then (n,NameKind.cell) else (n,k)).lookup x=some k'):(x,NameKind.free)∈names:=by
 have m:=Rq h;obtain⟨⟨n,k⟩,a,e⟩:=GP.mp m;dsimp only at e;by_cases hf:k=.free
 ·subst hf;have e1:n=x:=by
   by_cases hc':(NameKind.free == NameKind.free && env.scope.kind == .function && env.kindOf n == some .cell)=true
   ·rw[if_pos hc']at e;exact congrArg Prod.fst e
   ·rw[if_neg hc']at e;exact congrArg Prod.fst e
  exact e1 ▸ a
 ·have hb:(k == NameKind.free)=false:=by simpa using hf
  simp only[hb,Ws,Uo,Kv]at e;cases e;rcases hk with z | z
  ·exact absurd z (hc _ a)
  ·exact absurd z hf
noncomputable def Bk (X:Cx)(scope:Scope)(Nc:W5)(ex:U5)(pins:U1)(s:W1)(H:Hp):Cx where
 prog:=X.prog
 w:=X.w
 K:=X.K
 mg:=X.mg
 base:=X.base
 A:=X.A
 N:=Nc
 s₀:=s
 H₀:=H
 env:=compEnvC scope (clo scope.names X.env.cells) s.heap.objs.size X.env
 outer:=X.stack
 stack:=X.stack
 ex:=ex
 fn:=λ_=>false
 calm:=X.calm
 pn:=X.pn++pins
 xe:=λ_ _=>False
noncomputable def sub (mp:Y2)(σ:St):St:=mp.map λo=>match o with | some j=>(σ[j]?).join | none=>none
theorem X6v{σ:St}{i:Nat}{v:V}(h:(sub mp σ)[i]?=some (some v)):∃j,mp[i]?=some (some j)/\σ[j]?=some (some v):=by
 unfold sub at h;rw[Cz]at h;cases e:mp[i]? with
 | none=>rw[e]at h;cases h
 | some o =>
  rw[e]at h;cases o with
  | none=>cases h
  | some j =>
   refine⟨j,O,?_⟩;have h':(σ[j]?).join=some v:=Option.some.inj h;cases q:σ[j]? with
   | none=>rw[q]at h';cases h'
   | some z=>rw[q]at h';exact congrArg some h'
section
variable {X:Cx}{pins:U1}{σ:St}{H:Hp}{s:W1}{scope:Scope}{Nc:W5}{mp:Y2}{fp:U5}
theorem X6(I:Inv X pins σ H s)(S:Bl X.N X.env.scope scope Nc mp):∀x∈scope.names,x.2=.free->∃c,X.env.cells.lookup x.1=some c:=λx a e =>
 I.ok.has x.1 (S.free x a e)
theorem RB(I:Inv X pins σ H s)(S:Bl X.N X.env.scope scope Nc mp)(h:(clo scope.names X.env.cells).lookup x=some c):X.env.cells.lookup x=some c :=
 _2 scope.names [] (X6 I S) (λ_ _ e=>by cases e) x c h
theorem W4u(I:Inv X pins σ H s)(S:Bl X.N X.env.scope scope Nc mp)(hf:∀b∈fp,E_ X pins H b)(hl:∀b∈fp,b<s.heap.objs.size):(Bk X scope Nc fp pins s H).Ok where
 mod:=I.ok.mod
 kind:=S.kind
 glob:=I.ok.glob
 blt:=I.ok.blt
 above:=CT _
 inj:=λx y c e1 e2=>I.ok.inj x y c (RB I S e1) (RB I S e2)
 has:=λx h=>by
  have a:(x,NameKind.free)∈scope.names:=by
   rcases h with h | h
   ·exact uf S.nocell (.inl rfl) h
   ·exact uf S.nocell (.inr rfl) h
  exact qG scope.names [] x (.inl a)
 cab:=λx c h _=>by cases h
 hd:=I.ok.hd
 frames:=I.ok.frames
 stk:=.inl rfl
 exf:=λb hb=>⟨Eb (hl b hb),λx c e=>(hf b hb).2.2.2.2.1 x c (RB I S e)⟩
 bs:=I.bs
 bsz:=Ek I.ok.bsz I.sz
 noex:=λb o e hb=>by
  rcases (hf b hb).2.2.2.1 with z | z
  ·exact I.ok.noex b o e z
  ·exact absurd (DK (Cd e) (Ek I.ok.bsz z)) (OJ _)
 exfs:=λb hb z=>by
  rcases Dw.mp (I.stkSub b z) with e | e
  ·exact(hf b hb).2.1 e
  ·exact(hf b hb).2.2.1 e
 funs:=I.stack
 frf:=I.stkFree
theorem wQ(I:Inv X pins σ H s)(S:Bl X.N X.env.scope scope Nc mp)(hf:∀b∈fp,E_ X pins H b)(hl:∀b∈fp,b<s.heap.objs.size){h₁:Heap}{m:U6}{tk:Nat}
  (hn:h₁.Ns s.heap.objs.size m) (k:∀b o,s.heap.get? b=some o->h₁.get? b=some o):Inv (Bk X scope Nc fp pins s H) [] (sub mp σ) H {s with heap:=h₁,toks:=tk}:=by
 refine⟨W4u I S hf hl,O,I.bare,Un.kept k,⟨m,hn,λi x v e1 e2 _=>?_⟩,λx c e=>?_,I.hok.fresh (CT _),λx c e=>I.freeC x c (RB I S e),λp hp=>?_,I.hok.kept k,?_⟩
 ·obtain⟨j,E,K⟩:=X6v e2;obtain⟨y,A,J,C⟩:=S.map i j E;have h:Nc[i]?=some x:=e1;rw[h]at A;cases A;have t:=Rq C;have r:Yi X.env.scope x:=.inr (S.free _ t rfl);obtain⟨M,_,a⟩:=I.loc;obtain⟨u,D,L⟩:=a j x v J K r;refine⟨u,D,.inr ⟨Z5k C,?_⟩⟩;obtain⟨c,B⟩:=qG (cells:=X.env.cells) scope.names [] x (.inl t);have f:=RB I S B;rcases L with ⟨z,_⟩ | ⟨_,c',z,q⟩
  ·rcases S.free _ t rfl with z' | z'<;>(have w:X.env.scope.names.lookup x=some .local:=z;rw[w]at z';cases z')
  ·rw[f]at z;cases z;obtain⟨o,g,hd⟩:=q;exact⟨c,B,o,k c o g,hd⟩
 ·obtain⟨v,o,g,hd⟩:=I.cell x c (RB I S e);exact⟨v,o,k c o g,hd⟩
 ·have l:p∈X.pn++pins:=by
   have:p∈(X.pn++pins)++[]:=hp;simpa using this
  obtain⟨e,n,F,G,d⟩:=I.pin p l;refine⟨k _ _ e,n,Eb (Cd e),λz=>?_,d⟩;rcases Dw.mp (I.stkSub p.1 z) with q | q
  ·exact F q
  ·exact G q
 ·show (sub mp σ).length=Nc.length;unfold sub;rw[A_];exact S.len
theorem zG(I:Inv X pins σ H s)(hf:∀b∈fp,E_ X pins H b){σ':St}{H':Hp}{s':W1}{pl:U1}(J:Inv (Bk X scope Nc fp pins s H) pl σ' H' s'):Inv X pins σ H' s' :=
 I.call' J.os J.base J.hok J.bare λb hb=>⟨(hf b hb).2.2.2.1,(hf b hb).2.1,(hf b hb).2.2.2.2.1,(hf b hb).2.2.2.2.2⟩
theorem Inv.turnedNew(I:Inv X pins σ H s){C:Y4}{h':Heap}{t':Nat}(k:∀b o,b≠C->s.heap.get? b=some o->h'.get? b=some o)(hn:H C=none)(h1:X.s₀.heap.objs.size<=C)
  (hL:C≠X.env.locals) (hc:∀x c,X.env.cells.lookup x=some c->c≠C) (hp:∀p∈X.pn++pins,p.1≠C):Inv X pins σ H {s with heap:=h',toks:=t'} :=
 I.turned k hn hL (.inr h1) hc hp
end
section
variable {M:Model}{A:Y1}{E:U3}
abbrev Calm:Value->Shared->Prop:=λ_ _=>False
theorem Eu{α β:Type}{m:Sem α}{f:α->Sem β}{P:α->Shared->Prop}{Q:β->Shared->Prop}{s:W1}(h:wpAny M A m P Calm s)(k:∀x s',P x s'->wpAny M A (f x) Q E s'):wpAny M A (m >>= f) Q E s :=
 Bw (GK h k λ_ _ z=>z.elim)
end
theorem Y0h{prog:W3}{w:W6}{A:Y1}{R:Result->Shared->Prop}{s:W1}{e t i:Expr}{pos:Pos}{it acc:W7}(J:Nat->Shared->Prop)
  (turn:∀n s,J n s->wpAny (model prog w) A (pyNext it) (λr a=>(r=none->R (.ok .next) a)/\∀v,r=some v ->
   wpAny (model prog w) A (letOwnedTupleGo t it v) (λ_ s2=>wpAny (model prog w) A (assign t env v) (λ_ s3=>wpAny (model prog w) A (eval e env) (λx s4 =>
    wpAny (model prog w) A (call (.builtin "list.append") [acc,x]) (λ_ b=>∃m,m<n/\J m b) Calm s4) Calm s3) Calm s2) Calm a) Calm s)
  (n:Nat) (h:J n s):codeAny (model prog w) A (.compLoop (.ListComp e [⟨t,i,[],0⟩] sc pos) 0 it acc env) R s:=by
 have f:=compTurn_list1 e t i sc pos it acc env;refine codeAny_loop rfl J (λn s j=>wpAny_noted (m:=compTurn (.ListComp e [⟨t,i,[],0⟩] sc pos) 0 it acc env) ?_) n h;rw[f];refine Bw (Ug (Eu (turn n s j) λr a q=>?_));match r,q with
 | none,q=>exact Cq (q.1 rfl)
 | some v,q=>exact Eu (q.2 v rfl) λ_ s2 c=>Eu c λ_ s3 d=>Bw (Eu d λx s4 g=>Eu g λ_ b k=>Cq (Cq ⟨rfl,k⟩))
def Ii (J:It)(g:TG)(te:TE)(σ:St)(H:Hp)(acc:Y4)(Q:VK):Prop:=∃W:Nat->Nat->List V->St->Hp->Prop,(∃m,W 0 m [] σ (upd H acc (.lst []))) /\
 ∀i m ys σ2 H2,W i m ys σ2 H2->(J.stop i H2/\Q (.ref acc) H2)\/(J.go i H2/\∀x H3,J.yld i H2 x H3->g x σ2 H3 λσ4 H4=>te σ4 H4 λy H5 =>
  H5 acc=some (.lst ys)/\ys.length<sizeLine/\∃m',m'<m/\W (i+1) m' (ys++[y]) σ4 (upd H5 acc (.lst (ys++[y]))))
def sG (mp:Y2)(wi:TI)(g:TG)(te:TE):TE:=λσ H Q=>wi σ H λJ H1=>∀acc,H1 acc=none->Ii J g te (sub mp σ) H1 acc Q
section
variable {X:Cx}{elt tg iter:Expr}{scope:Scope}{pos:Pos}{wi:TI}{g:TG}{te:TE}{Nc:W5}{mp:Y2}
noncomputable abbrev Ep (s:W1):Shared:={s with heap:=s.heap.push { cls:=.type "list",dict:=none,data:=.seq ([]:U9).toArray}}
theorem zH(hc:X.calm=true)(S:Bl X.N X.env.scope scope Nc mp)(hg:∀ex pins s H,PG (Bk X scope Nc ex pins s H) tg g)(he:∀ex pins s H,PE (Bk X scope Nc ex pins s H) elt te)
  {pins:U1}{σ:St}{H2:Hp}{s2:W1}{E:U3}{it:Y4}{fp:U5}{tn:Nat->Heap->Prop}{J:It}{Q:VK}{RR:Value->Addr->Result->Shared->Prop}
  (I2:Inv X pins σ H2 s2) (T:Turn X.prog X.w X.K tg J fp it tn) (st2:tn 0 s2.heap) (f2:∀b∈fp,E_ X pins H2 b)
  (q:∀acc,H2 acc=none->Ii J g te (sub mp σ) H2 acc Q)
  (fin:∀acc C H' s' m',Q (.ref acc) H'->Inv X pins σ H' s'->s'.heap.Ns C m'->H' C=none->X.s₀.heap.objs.size<=C->C≠X.env.locals->(∀x c,X.env.cells.lookup x=some c->c≠C)->(∀p∈X.pn++pins,p.1≠C)->RR (.ref acc) C (.ok .next) s'):
  wpAny (model X.prog X.w) X.A (newList []) (λacc s₃=>wpAny (model X.prog X.w) X.A (newFunctionEnv scope X.env.globals (clo scope.names X.env.cells) [] X.env.qual none .none (some X.env)) (λl s₄ =>
   codeAny (model X.prog X.w) X.A (.compStart (.ListComp elt [⟨tg,iter,[],0⟩] scope pos) 0 (.ref it) acc {l with scope:=relabel scope X.env}) (RR acc l.locals) s₄) E s₃) E s2:=by
 refine Qw (wpAny_newFunctionEnv S.nocell (by intro y hy;simp at hy) (λh₁ t k=>?_) S.kind);dsimp only at t k ⊢;have I3:=I2.lnew (its:=[]) (ys:=[]) (t':=s2.toks) .nil (Fy _);have U:H2 s2.heap.objs.size=none:=I2.fresh;obtain⟨W,⟨m0,w0⟩,L⟩:=q s2.heap.objs.size U;have D:(s2.heap.push { cls:=.type "list",dict:=none,data:=.seq ([]:U9).toArray}).objs.size=s2.heap.objs.size+1:=NK ..;have R:∀b∈fp,b<s2.heap.objs.size:=λb hb=>by
  obtain⟨o,e,_⟩:=T.obj _ _ st2 b hb;exact Cd e
 have B:∀b∈fp,E_ X pins (upd H2 s2.heap.objs.size (.lst [])) b:=λb hb=>⟨by rw[Cj (Eb (R b hb))];exact(f2 b hb).1,(f2 b hb).2⟩;have a:Inv X pins σ (upd H2 s2.heap.objs.size (.lst [])) (Ep s2):=I3;have hsz:(Ep s2).heap.objs.size=s2.heap.objs.size+1:=D;have j:∀b∈fp,b<(Ep s2).heap.objs.size:=λb hb=>by rw[hsz];exact Um (R b hb)
 have k3:∀b o,(Ep s2).heap.get? b=some o->h₁.get? b=some o:=λb o e=>k.extBut b o (Eb (Cd e)) (FP _ e);have Ic:=wQ (tk:=(Ep s2).toks) a S B j t k3;have P:tn 0 h₁:=T.keep _ _ _ st2 λb hb o e=>k3 b o (FP _ e);have cC:X.s₀.heap.objs.size<=(Ep s2).heap.objs.size:=a.sz;have cL:(Ep s2).heap.objs.size≠X.env.locals:=M9 a.lt;have cc:∀x c,X.env.cells.lookup x=some c->c≠(Ep s2).heap.objs.size:=λx c e=>by
  obtain⟨v,o,ho,_⟩:=a.cell x c e;exact Eb (Cd ho)
 have cp:∀p∈X.pn++pins,p.1≠(Ep s2).heap.objs.size:=λp hp=>Eb (Cd (a.pin p hp).1);have h:∀{H':Hp},(∀b∈fp,H' b=none)->∀b∈fp,E_ (Bk X scope Nc fp pins (Ep s2) (upd H2 s2.heap.objs.size (.lst []))) [] H' b:=λhn b hb =>
  ⟨hn b hb,Eb (j b hb),λz=>by
   rcases Dw.mp (a.stkSub b z) with e | e
   ·exact(B b hb).2.1 e
   ·exact(B b hb).2.2.1 e,.inl hb,λx c e=>(B b hb).2.2.2.2.1 x c (RB a S e),λp hp=>(B b hb).2.2.2.2.2 p (by
    have:p∈(X.pn++pins)++[]:=hp
    simpa using this)⟩
 have m:∀s4:Shared,s4={ (Ep s2) with heap:=h₁,toks:=(Ep s2).toks} ->
   codeAny (model X.prog X.w) X.A (.compLoop (.ListComp elt [⟨tg,iter,[],0⟩] scope pos) 0 (.ref it) (.ref s2.heap.objs.size) (Bk X scope Nc fp pins (Ep s2) (upd H2 s2.heap.objs.size (.lst []))).env)
    (RR (.ref s2.heap.objs.size) (Ep s2).heap.objs.size) s4:=by
  rintro s4 rfl;refine Y0h (λn s'=>∃i ys σ' H',Inv (Bk X scope Nc fp pins (Ep s2) (upd H2 s2.heap.objs.size (.lst []))) [] σ' H' s'/\tn i s'.heap/\(∀b∈fp,H' b=none)/\W i n ys σ' H') ?_ m0
   ⟨0,[],sub mp σ,_,Ic,P,λb hb=>(B b hb).1,w0⟩
  rintro n s5 ⟨i,ys,V,Y,I5,I,M,w5⟩;rcases L i n ys V Y w5 with ⟨stop,qn⟩ | ⟨go,step⟩
  ·refine GK (T.done (Bk X scope Nc fp pins (Ep s2) (upd H2 s2.heap.objs.size (.lst []))) rfl rfl rfl hc i [] s5 V Y (λ_ _=>False) I5 (h M) I stop) (λr s6 ⟨hr,Z⟩=>?_) λ_ _ f=>f.elim;subst hr;obtain⟨m6,a0,_⟩:=Z.loc;refine⟨λ_=>?_,λ_ z=>nomatch z⟩;exact fin _ _ Y s6 m6 qn (zG a B Z) a0 Z.free cC cL cc cp
  ·refine GK (T.item (Bk X scope Nc fp pins (Ep s2) (upd H2 s2.heap.objs.size (.lst []))) rfl rfl rfl hc i [] s5 V Y (λ_ _=>False) I5 (h M) I go) (λr s6 ⟨u,hr,h6⟩=>?_) λ_ _ f=>f.elim;subst hr;refine⟨(λz=>by cases z),?_⟩;rintro _ ⟨⟩;refine GK h6 (λ_ s7 ⟨x,H7,I7,r7,y7,F,a1⟩=>?_) λ_ _ f=>f.elim;have a2:=I7.pinned (h a1) (T.obj _ _ F);refine GK (hg _ _ _ _ _ s7 V H7 x u _ a2 r7 (step x H7 y7)) (λ_ s8 ⟨σ8,H8,I8,q8⟩=>?_) λ_ _ f=>f.elim;refine GK (he _ _ _ _ _ s8 σ8 H8 _ I8 q8) (λv s9 ⟨y,H9,I9,r9,a9,l9,m',a4,w9⟩=>?_) λ_ _ f=>f.elim;refine GK (QV (X:=Bk X scope Nc fp pins (Ep s2) (upd H2 s2.heap.objs.size (.lst []))) _ s9 σ8 H9 (.ref s2.heap.objs.size) [y] (.ref s2.heap.objs.size) [v] (λz Hz=>z=.non/\Hz=upd H9 s2.heap.objs.size (.lst (ys++[y]))) I9 rfl (.cons r9 .nil) ⟨_,ys,y,O,O,a9,l9,O,O⟩) (λa6 a5 ⟨z,a7,G,_,_,a3⟩=>?_) λ_ _ f=>f.elim;subst a3;refine⟨m',a4,i+1,ys++[y],σ8,_,G.unpinned,T.keep _ _ _ F λb hb o e=>(G.pin (b,o) (JH _ (JH _ (Vf hb e)))).1,λb hb=>?_,w9⟩;obtain⟨o,e,d⟩:=T.obj _ _ F b hb;exact(G.pin (b,o) (JH _ (JH _ (Vf hb e)))).2.1
 exact sX (m _ rfl) (T.self _ 0 _ _ _ P (m _ rfl))
theorem HY(hc:X.calm=true)(S:Bl X.N X.env.scope scope Nc mp)(hi:PI X tg iter wi)(hg:∀ex pins s H,PG (Bk X scope Nc ex pins s H) tg g)(he:∀ex pins s H,PE (Bk X scope Nc ex pins s H) elt te)
  (hf:∀x,foldedSetIterable iter X.env x=pure x:=by intro _;rfl):PE X (.ListComp elt [⟨tg,iter,[],0⟩] scope pos) (sG mp wi g te):=by
 intro pins s σ H Q I h;rw[eval_ListComp];refine Zj (use:=none) rfl hf (aV (X6 I S)) S.kind S.names (Bm (hi pins s σ H _ I h) λv p h1=>Bm h1 λf s2 h2=>?_);obtain⟨it,fp,tn,J,H2,e,n,T,a,i,q⟩:=h2;subst e;refine zH (RR:=λacc C=>compPost (model X.prog X.w) X.A X.xe none (EP X pins σ Q) acc C) hc S hg he n T a i q ?_;intro acc C H' s' c qq j k m c1 c2 c3 d;refine⟨c,k,λh' l=>⟨.ref acc,H',?_,O,qq⟩⟩;exact j.turnedNew (t':=s'.toks) (λb o hb e=>l.extBut b o hb e) m c1 c2 c3 d
theorem Td{i:Nat}{pos' spos:Pos}(hc:X.calm=true)(hN:X.N.Nodup)(hi':X.N[i]?=some x)(hx:X.env.scope.names.lookup x=some .local)(S:Bl X.N X.env.scope scope Nc mp)(hi:PI X tg iter wi)
  (hg:∀ex pins s H,PG (Bk X scope Nc ex pins s H) tg g) (he:∀ex pins s H,PE (Bk X scope Nc ex pins s H) elt te)
  (hsw:swapsWith (.ListComp elt [⟨tg,iter,[],0⟩] scope pos) (some (.Name x pos')) spos.line X.env=pure true)
  (hf:∀x,foldedSetIterable iter X.env x=pure x:=by intro _;rfl):PS X (.Assign [.Name x pos'] (.ListComp elt [⟨tg,iter,[],0⟩] scope pos) spos) (O8 (sG mp wi g te) (CQ i)):=by
 intro pins s σ H D I h;rw[sS _ _ _ _ hsw];refine Bw (Ug (Bw ?_));show wpAny _ X.A (do let _ ← comprehension (.ListComp elt [⟨tg,iter,[],0⟩] scope pos) scope X.env _ (newList []) false (eval iter X.env) (some (assign (.Name x pos') X.env))) _ _ s
 refine Bw (GK (Zj (use:=some (assign (.Name x pos') X.env)) (Q:=λ_ s'=>SP X pins D .next s') rfl hf (aV (X6 I S)) S.kind S.names
  (Bm (hi pins s σ H _ I h) λv G h1=>Bm h1 λl s2 h2=>?_)) (λ_ s' r=>Cq (Cq r)) λ_ _ e=>e)
 obtain⟨it,fp,tn,J,H2,e,F,T,f,p,q⟩:=h2;subst e;refine zH (Q:=λx H1=>CQ i x σ H1 D.nx) (RR:=λacc C=>compPost (model X.prog X.w) X.A X.xe (some (assign (.Name x pos') X.env)) (λ_ s'=>SP X pins D .next s') acc C) hc S hg he F T f p q ?_;intro acc C H' s' j qq u y E c1 c2 c3 k;show wpAny _ X.A (assign (.Name x pos') X.env (.ref acc)) _ _ _;refine jD (oM (v:=.ref acc) u hN hi' (.inl hx) rfl (λt n ⟨a,c,m⟩=>?_) (.inr hx));have d:C≠a:=by
  rcases m with z | z
  ·rw[z];exact c2
  ·exact Ne.symm (c3 x a z)
 refine⟨j,y.sameBut c d,λh' B=>⟨σ.set i (some (.ref acc)),H',?_,qq⟩⟩;exact n.turnedNew (t':=t.toks) (λb o hb e=>B.extBut b o hb e) E c1 c2 c3 k
end
variable{te:TE}{fr:St}{H1:Hp}{acc:Y4}{Q:VK}
theorem fG{J:It}{n:Nat}{val:Nat->V}(Pv:Nat->List V->Hp->Prop)(hn:n<=sizeLine)(h0:Pv 0 [] (upd H1 acc (.lst [])))
  (hgo:∀i ys H,i<n->Pv i ys H->J.go i H/\∀x H',J.yld i H x H'->H'=H/\x=val i) (hst:∀ys H,Pv n ys H->J.stop n H)
  (hs:∀i ys H (N:V->Hp->Prop),i<n->ys.length=i->Pv i ys H->(∀y a,a acc=some (.lst ys)->Pv (i+1) (ys++[y]) (upd a acc (.lst (ys++[y])))->N y a)->te (some (val i)::fr) H N)
  (hd:∀ys H,ys.length=n->Pv n ys H->Q (.ref acc) H):
  Ii (J) (CQ 0) te (none::fr) H1 acc Q:=by
 refine⟨λi m ys d H2=>m=n-i/\i<=n/\ys.length=i/\(∃v,d=v::fr)/\Pv i ys H2,⟨n,by simp,Fy _,O,⟨_,O⟩,h0⟩,?_⟩;rintro i m ys d H2 ⟨rfl,hi,c,⟨v,rfl⟩,p⟩;by_cases hlt:i<n
 ·obtain⟨go,f⟩:=hgo i ys H2 hlt p;refine .inr ⟨go,λx b h=>?_⟩;obtain⟨e1,e2⟩:=f x b h;subst e1 e2;show te ((v::fr).set 0 (some (val i))) b _;rw[List.set_cons_zero];refine hs i ys b _ hlt c p λy a j g=>⟨j,by lia,n-(i+1),by lia,O,hlt,by rw[Ed,c];rfl,⟨_,O⟩,g⟩
 ·have e:i=n:=by lia
  subst e;exact .inl ⟨hst ys H2 p,hd ys H2 c p⟩
theorem VR{lo:Int}{n:Nat}(Pv:Nat->List V->Hp->Prop)(hn:n<=sizeLine)(h0:Pv 0 [] (upd H1 acc (.lst [])))
  (hs:∀i ys H (N:V->Hp->Prop),i<n->ys.length=i->Pv i ys H->(∀y H5,H5 acc=some (.lst ys)->Pv (i+1) (ys++[y]) (upd H5 acc (.lst (ys++[y])))->N y H5)->te (some (.int (lo+i))::fr) H N)
  (hd:∀ys H,ys.length=n->Pv n ys H->Q (.ref acc) H):
  Ii (HS lo n) (CQ 0) te (none::fr) H1 acc Q :=
 fG (J:=HS lo n) (val:=λi=>.int (lo+i)) Pv hn h0 (λi ys H hi p=>⟨hi,λx H' y=>y⟩) (λys H p=>CT _) hs hd
theorem TY{K:U0}{a:Y4}{xs:List V}(Pv:Nat->List V->Hp->Prop)(hn:xs.length<=sizeLine)(h0:Pv 0 [] (upd H1 acc (.lst [])))
  (hl:∀i ys H,Pv i ys H->Ag K H a xs)
  (hs:∀i x ys H (N:V->Hp->Prop),xs[i]?=some x->ys.length=i->Pv i ys H->(∀y H5,H5 acc=some (.lst ys)->Pv (i+1) (ys++[y]) (upd H5 acc (.lst (ys++[y])))->N y H5)->te (some x::fr) H N)
  (hd:∀ys H,ys.length=xs.length->Pv xs.length ys H->Q (.ref acc) H):
  Ii (K9 K a) (CQ 0) te (none::fr) H1 acc Q :=
 fG (J:=K9 K a) (n:=xs.length) (val:=λi=>xs.getD i .non) Pv hn h0
  (λi ys H hi p=>⟨⟨xs,xs[i],hl i ys H p,by simp[hi]⟩,λx H' y=>⟨y.1,by
   have:=y.2 xs (hl i ys H p)
   rw[Ef,this];rfl⟩⟩)
  (λys H p=>⟨xs,hl _ ys H p,CT _⟩)
  (λi ys H N hi b p k=>by
   have e:xs[i]?=some (xs.getD i .non):=by rw[Ef,GR hi];rfl
   exact hs i _ ys H N e b p k) hd
end L2
namespace L2
structure Ai (P:W3) (w:W6) (K:U0) (mg:U6) (base:Heap) (k:Nat) (x:Str) (ps:W5) (sp:Sp):Prop where
 ex:∃f fd,Er P w K mg base LC k f fd ps sp/\Binds K fd ps []/\PySem.W.keepIn K (.ref f)=true/\mg x=some (.ref f)
variable{K:U0}{mg:U6}{base:Heap}{x:Str}{ps:W5}
theorem Ai.mono{P:W3}{w:W6}{j k:Nat}{sp:Sp}(c:Ai P w K mg base j x ps sp)(h:j<=k):Ai P w K mg base k x ps sp :=
 let ⟨f,fd,F,b,kp,m⟩:=c.ex
 ⟨f,fd,F.mono h,b,kp,m⟩
section
variable {X:Cx}{k:Nat}{x:Str}{ps:W5}{sp:Sp}{p pos:Pos}{e:Expr}{es:List Expr}{t:TA}
theorem Ay(c:Ai X.prog X.w X.K X.mg X.base k x ps sp)(hr:Cp k X.A)(hg:Gl X x)(ha:PA X (e::es) t)(hdb:(x == ("__debug__":Str))=false:=by decide)
  (he:starEach (e::es) X.env=(false,eval e X.env)::starEach es X.env:=by rfl) (hpl:(backTo pos (starEach es X.env)).any (·.1)=false:=by rfl):PE X (.Call (.Name x p) (e::es) [] pos) (IV sp [] E0 t):=by
 obtain⟨f,fd,F,b,a,m⟩:=c.ex;exact vL F hr hg m a b .nil Q0 ha hdb he hpl
theorem X7m(c:Ai X.prog X.w X.K X.mg X.base k x ps sp)(hr:Cp k X.A)(hg:Gl X x)(hdb:(x == ("__debug__":Str))=false:=by decide):PE X (.Call (.Name x p) [] [] pos) (IV sp [] E0 O7):=by
 obtain⟨f,fd,F,b,a,m⟩:=c.ex;exact X2u F hr hg m a b .nil Q0 hdb
end
structure Ab (K:U0) (x:Str) (st:Stmt) (dV:W7):Prop where
 ex:∃(f:Y4) (oc:W7) (od:Y0) (kV doc pm:W7) (an:Y0) (cdv ct:W7) (osl:W9),
  K.lookup f=some ⟨oc,od,.func (PySem.W.fnOf x x (HN st) (Gb st) (DG st) dV kV doc pm an cdv ct),osl⟩/\PySem.W.codeIn K cdv x=true/\PySem.W.keepIn K (.ref f)=true/\PySem.W.nsIn K mainGlobals x=some (some (.ref f))
variable{st:Stmt}{f:Y4}{dV cdv:W7}
theorem fat{oc:W7}{od an:Y0}{osl:W9}{kV doc pm ct:W7}(a:PySem.W.nsIn K mainGlobals x=some (some (.ref f)))
  (l:K.lookup f=some ⟨oc,od,.func (PySem.W.fnOf x x (HN st) (Gb st) (DG st) dV kV doc pm an cdv ct),osl⟩) (c:PySem.W.codeIn K cdv x=true) (k:PySem.W.keepIn K (.ref f)=true):Ab K x st dV :=
 ⟨f,oc,od,kV,doc,pm,an,cdv,ct,osl,l,c,k,a⟩
def Ot (K:U0)(x:Str)(st:Stmt)(dV:W7)(ps:W5):Prop:=∀(kV doc pm:W7) (an:Y0) (cdv ct:W7),Binds K (PySem.W.fnOf x x (HN st) (Gb st) (DG st) dV kV doc pm an cdv ct) ps []
theorem GZ
  (h:∀(kV a c:W7) (b:Y0) (cdv ct:W7) (us:U9),us.length=ps.length->bindArgs (PySem.W.fnOf x x (HN st) (Gb st) (DG st) .none kV a c b cdv ct) ⟨us,[]⟩=pure (ps.zip us)):Ot K x st .none ps :=
 λkV a c b cdv ct=>.all (h kV a c b cdv ct)
theorem S_{nm:Str}(h:∀(kV a c:W7) (b:Y0) (cdv ct:W7),bindArgs (PySem.W.fnOf nm nm (HN st) (Gb st) (DG st) .none kV a c b cdv ct) ⟨[],[]⟩=pure []):Ot K nm st .none []:=GZ λkV a c b cdv ct us d=>by
 cases us with
 | nil=>exact h kV a c b cdv ct
 | cons=>cases d
variable{x0:Str}
theorem Sy{nm:Str}(h:∀(kV a c:W7) (b:Y0) (cdv ct:W7) (a0:W7),bindArgs (PySem.W.fnOf nm nm (HN st) (Gb st) (DG st) .none kV a c b cdv ct) ⟨[a0],[]⟩=pure [(x0,a0)]):Ot K nm st .none [x0]:=GZ λkV a c b cdv ct us d=>by
 cases us with
 | nil=>cases d
 | cons b0 t0 =>
  cases t0 with
  | nil=>exact h kV a c b cdv ct b0
  | cons=>cases d
theorem Sx{nm:Str}{x1:Str}(h:∀(kV a c:W7) (b:Y0) (cdv ct:W7) (a0 a1:W7),bindArgs (PySem.W.fnOf nm nm (HN st) (Gb st) (DG st) .none kV a c b cdv ct) ⟨[a0,a1],[]⟩=pure [(x0,a0),(x1,a1)]):Ot K nm st .none [x0,x1]:=GZ λkV a c b cdv ct us d=>by
 cases us with
 | nil=>cases d
 | cons b0 t0 =>
  cases t0 with
  | nil=>cases d
  | cons b1 t1 =>
   cases t1 with
   | nil=>exact h kV a c b cdv ct b0 b1
   | cons=>cases d
theorem Sw{nm:Str}{x1 x2:Str}(h:∀(kV a d:W7) (c:Y0) (cdv ct:W7) (a0 a1 a2:W7),bindArgs (PySem.W.fnOf nm nm (HN st) (Gb st) (DG st) .none kV a d c cdv ct) ⟨[a0,a1,a2],[]⟩=pure [(x0,a0),(x1,a1),(x2,a2)]):Ot K nm st .none [x0,x1,x2]:=GZ λkV a d c cdv ct us b=>by
 cases us with
 | nil=>cases b
 | cons b0 t0 =>
  cases t0 with
  | nil=>cases b
  | cons b1 t1 =>
   cases t1 with
   | nil=>cases b
   | cons b2 t2 =>
    cases t2 with
    | nil=>exact h kV a d c cdv ct b0 b1 b2
    | cons=>cases b
theorem Sv{nm:Str}{x1 x2 x3:Str}(h:∀(kV a d:W7) (c:Y0) (cdv ct:W7) (a0 a1 a2 a3:W7),bindArgs (PySem.W.fnOf nm nm (HN st) (Gb st) (DG st) .none kV a d c cdv ct) ⟨[a0,a1,a2,a3],[]⟩=pure [(x0,a0),(x1,a1),(x2,a2),(x3,a3)]):Ot K nm st .none [x0,x1,x2,x3]:=GZ λkV a d c cdv ct us b=>by
 cases us with
 | nil=>cases b
 | cons b0 t0 =>
  cases t0 with
  | nil=>cases b
  | cons b1 t1 =>
   cases t1 with
   | nil=>cases b
   | cons b2 t2 =>
    cases t2 with
    | nil=>cases b
    | cons b3 t3 =>
     cases t3 with
     | nil=>exact h kV a d c cdv ct b0 b1 b2 b3
     | cons=>cases b
theorem Ss{nm:Str}{x1 x2 x3 x4:Str}(h:∀(kV a d:W7) (c:Y0) (cdv ct:W7) (a0 a1 a2 a3 a4:W7),bindArgs (PySem.W.fnOf nm nm (HN st) (Gb st) (DG st) .none kV a d c cdv ct) ⟨[a0,a1,a2,a3,a4],[]⟩=pure [(x0,a0),(x1,a1),(x2,a2),(x3,a3),(x4,a4)]):Ot K nm st .none [x0,x1,x2,x3,x4]:=GZ λkV a d c cdv ct us b=>by
 cases us with
 | nil=>cases b
 | cons b0 t0 =>
  cases t0 with
  | nil=>cases b
  | cons b1 t1 =>
   cases t1 with
   | nil=>cases b
   | cons b2 t2 =>
    cases t2 with
    | nil=>cases b
    | cons b3 t3 =>
     cases t3 with
     | nil=>cases b
     | cons b4 t4 =>
      cases t4 with
      | nil=>exact h kV a d c cdv ct b0 b1 b2 b3 b4
      | cons=>cases b
section
variable {P:W3}{w:W6}{K:U0}{mg:U6}{base:Heap}
theorem fS{N P:W5}{sc:Scope}(a:sc.kind=.function:=by exact rfl)(b:sc.isCoroutine=false:=by exact rfl)(c:sc.isGenerator=false:=by exact rfl)(d:N.Nodup:=by decide +kernel)(e:N.take P.length=P:=by exact rfl)(f:∀x∈P,sc.names.lookup x=some .local\/sc.names.lookup x=some .cell:=by decide +kernel)(g:∀y∈sc.names,y.2≠.free:=by decide +kernel):BZ N P sc:=⟨a,b,c,d,e,f,g⟩
theorem Ab.cal{k:Nat}{sp:Sp}(F:Ab K x st dV){h:Heap}(X:K.In h)(G:Ng h mg)(N:W5)
  (hbody:∀{f:Y4}{cdv:W7}{A:Y1}{outer:List Env}{s:W1},N.Nodup->∀(H:Hp) (vs:List V) (Q:VK) (E:XK),Cp k (A.deeper (envOfC x (DG st) s.heap.objs.size f cdv))->sp vs H Q E ->
   ∃t,Hq (Gw LC P w K mg base N x (DG st) f cdv A outer s H E).nox (Gb st) t/\t { nx:=λ_ H'=>Q .non H',rt:=Q} (start N vs) H)(S:BZ N ps (DG st):=by exact fS) (bi:Ot K x st dV ps:=by first | exact Sy λ_ _ _ _ _ _ _=>rfl | exact Sx λ_ _ _ _ _ _ _ _=>rfl | exact Sw λ_ _ _ _ _ _ _ _ _=>rfl | exact Sv λ_ _ _ _ _ _ _ _ _ _=>rfl | exact Ss λ_ _ _ _ _ _ _ _ _ _ _=>rfl | exact S_ λ_ _ _ _ _ _=>rfl) (len:∀vs H Q E,sp vs H Q E->vs.length=ps.length:=by intro _ _ _ _ h;repeat first | (obtain⟨rfl,_⟩:=h;rfl) | (obtain⟨⟨rfl,_⟩,_⟩:=h;rfl) | (obtain⟨_,h⟩:=h)):Ai P w K mg base (k+1) x ps sp:=by
 obtain⟨f,m,od,kV,a,e,j,cdv,ct,g,l,b,d,ns⟩:=F.ex;refine⟨f,_,qU l b S len λA outer s H vs Q E i c=>?_,bi kV a e j cdv ct,d,Ew X G ns⟩;obtain⟨t,h,q⟩:=hbody S.nd H vs Q E i c;exact⟨t,h.nox,q⟩
end
variable{H:Hp}
theorem CN{P:W3}{w:W6}{N:W5}{sc:Scope}{A:Y1}{outer:List Env}{s:W1}{E:XK}:(Gw LC P w K mg base N x sc f cdv A outer s H E).nox.K=K:=rfl
theorem Ao{p:Y4}(h:H p=none)(o:HO):Same H (upd H p o):=λb u q=>by rw[Cj (QX q h)];exact q
theorem qt(K:U0):PySem.W.kitOne K (.type "int") (.type "int")=some true:=by unfold PySem.W.kitOne;rw[if_pos (by decide)]
theorem qp(K:U0):PySem.W.kitOne K (.type "int") (.type "bool")=some false:=by with_unfolding_all rfl
variable{A B:Prop}
theorem Iv{a b:Int}(h1:a=b->A)(h2:a≠b->B):if decide (V.int a=V.int b)=true then A else B:=by
 by_cases h:a=b
 ·subst h;rw[Ec rfl];exact Ds (h1 rfl)
 ·rw[Cr λe=>h (V.int.inj e)];exact Bd (h2 h)
theorem Kh{a b:Int}(h1:a≠b->A)(h2:a=b->B):if (!decide (V.int a=V.int b))=true then A else B:=by
 by_cases h:a=b
 ·subst h;rw[Ec rfl];exact Bd (h2 rfl)
 ·rw[Cr λe=>h (V.int.inj e)];exact Ds (h1 h)
theorem BP{p:Prop}[Decidable p](h1:p->A)(h2:¬ p->B):if decide p=true then A else B:=by
 by_cases h:p
 ·rw[Ec h];exact Ds (h1 h)
 ·rw[Cr h];exact Bd (h2 h)
theorem Jz{c:Bool}(h1:c=true->A)(h2:c=false->B):if c=true then A else B:=by
 cases c
 ·exact Bd (h2 rfl)
 ·exact Ds (h1 rfl)
theorem FQ{c:Bool}(h1:c=false->A)(h2:c=true->B):if (!c)=true then A else B:=by
 cases c
 ·exact Ds (h1 rfl)
 ·exact Bd (h2 rfl)
def gK (t u:TS):TS:=λD σ H=>∃Good:St->Hp->Prop,t {D with nx:=Good} σ H/\∀σ' H',Good σ' H'->u D σ' H'
theorem Dv{X:Cx}{st:Stmt}{rest:Y3}{t u:TS}(h1:PS X st t)(h2:Hq X rest u):Hq X (st::rest) (gK t u):=by
 intro pins s σ H D I h;obtain⟨Good,d,c⟩:=h;refine i_ (Bm (h1 pins s σ H {D with nx:=Good} I d) λf e q=>?_);cases f with
 | next =>
  obtain⟨a,H',b,q⟩:=q;exact h2 pins e a H' D b (c a H' q)
 | ret v=>exact q
 | brk=>exact q
 | cont=>exact q
theorem Dy{H':Hp}{p:Y4}{o:HO}(h:Same H H')(hn:H p=none):Same H (upd H' p o):=λb u q=>by rw[Cj (QX q hn)];exact h b u q
end L2
namespace Zo
open PySem.Sem (wp)
def Stop (h:Heap)(e:Y4):Prop:=∃o,h.get? e=some o/\o.cls=.type "StopIteration"
def Rest (S:U5)(h h':Heap):Prop:=∀c o,c∉S->h.get? c=some o->h'.get? c=some o
variable{S:U5}{h1:Heap}
theorem Rest.trans{h h2:Heap}(a:Rest S h h1)(b:Rest S h1 h2):Rest S h h2:=λc o n e=>b c o n (a c o n e)
theorem Rest.sub{T:U5}{h:Heap}(a:Rest S h h1)(q:∀c,c∈S->c∈T):Rest T h h1:=λc o n e=>a c o (λz=>n (q c z)) e
theorem Rest.ext{h:Heap}{b:Y4}(e:Heap.ExtBut b h h1)(q:b∈S):Rest S h h1:=λc o n x=>e c o (λz=>n (z ▸ q)) x
theorem Rest.but{h:Heap}{b:Y4}(e:Heap.SameBut b h h1)(q:b∈S):Rest S h h1:=Rest.ext e.extBut q
theorem Rest.new{h:Heap}(o:Obj):Rest S h (h.push o):=λc u n x=>FP _ x
def JR (S:U5)(G:Heap->Prop):Prop:=∀h h',Rest S h h'->G h->G h'
def Told (it:Y4)(hp:Heap)(g:Array GenState)(d:Drawn)(tk:Nat)(os:OsState)(G:Heap->Prop)(ox:Option Value)(Q E:U3):Prop :=
 (∀x h',ox=some x->G h'->Heap.SameBut it hp h'->Q x ⟨h',g,d,tk,os⟩) /\
 (∀e h',ox=none->Heap.ExtBut it hp h'->Stop h' e->E (.ref e) ⟨h',g,d,tk,os⟩)
def Pull (prog:W3)(w:W6)(A:Y1)(it:Y4)(G G':Heap->Prop)(ox:Option Value):Prop :=
 ∀{Q E:U3}{hp:Heap}{g:Array GenState}{d:Drawn}{tk:Nat}{os:OsState},G hp->Told it hp g d tk os G' ox Q E ->
  wpAny (model prog w) A (Builtin.SmallTypes.nextOf (.ref it)) Q E ⟨hp,g,d,tk,os⟩
section
variable {prog:W3}{w:W6}{A:Y1}{E:U3}{hp:Heap}{g:Array GenState}{d:Drawn}{tk:Nat}{os:OsState}
variable{ox:Option Value}
theorem Pull.behind{it:Y4}{G G':Heap->Prop}(p:Pull prog w A it G G' ox)(hg:G hp){α:Type}{f:Value->Sem α}{k:Value->Sem Unit}{Q:α->Shared->Prop}
  (t:Told it hp g d tk os G' ox (λx s'=>wpAny (model prog w) A (f x) Q (λe s2=>wpAny (model prog w) A (k e) (λ_ s3=>E e s3) E s2) s') (λe s2=>wpAny (model prog w) A (k e) (λ_ s3=>E e s3) E s2)):
  wpAny (model prog w) A ((Builtin.SmallTypes.nextOf (.ref it) >>= f).onRaise k) Q E ⟨hp,g,d,tk,os⟩:=wpAny_onRaise (Bw (p hg t))
theorem freed{z I O e:Y4}{v:W7}{h:Heap}(gz:IsZip h z I O v)(st:Stop h e)(k:∀h',Rest [z] h h'->Stop h' e->E (.ref e) ⟨h',g,d,tk,os⟩):
  wpAny (model prog w) A (setField (.ref z) 0 .none) (λ_ s3=>E (.ref e) s3) E ⟨h,g,d,tk,os⟩:=by
 obtain⟨o,b,a⟩:=st;have c:e≠z:=by
  rintro rfl;have q:=b.symm.trans gz;cases q;exact absurd (Value.type.inj a) (by decide)
 refine Wu gz rfl (by simp) (k _ (Rest.but (Heap.SameBut.update ..) (by simp)) ⟨o,(Heap.SameBut.update ..).extBut _ _ c b,a⟩)
theorem step{z I O i j:Y4}{oy:Option Value}{a b:W7}{G1 G1' G2 G2':Heap->Prop}{R:PySem.Fin->Shared->Prop}
  (gz:IsZip hp z I O .none) (gI:IsPair hp I (.ref i) (.ref j)) (gO:IsPair hp O a b) (ne:O≠z/\O≠i/\O≠j/\i≠z/\j≠z)
  (p1:Pull prog w A i G1 G1' ox) (p2:Pull prog w A j G2 G2' oy) (a1:G1 hp) (a2:G2 hp)
  (k1:JR [z,O,j] G1) (k2:JR [z,O,i] G2) (k3:JR [z,O,j] G1') (k4:JR [z,O,i] G2')
  (go:∀x y h',ox=some x->oy=some y->IsZip h' z I O (rawInt hp.objs.size)->IsPair h' O x y->IsPair h' hp.objs.size x y->G1' h'->G2' h'->Rest [z,O,i,j] hp h'->R (.done (.ret (.ref hp.objs.size))) ⟨h',g,d,tk,os⟩)
  (stop:∀e h',ox=none\/oy=none->Rest [z,O,i,j] hp h'->Stop h' e->E (.ref e) ⟨h',g,d,tk,os⟩):
  wpAny (model prog w) A (Builtin.«zip.__next__» ⟨[.ref z],[]⟩) R E ⟨hp,g,d,tk,os⟩:=by
 obtain⟨p,M,L,B,D⟩:=ne;have X:(#[Value.none,.bool false,.bool false,.ref I,.ref O]:W4)[0]?=some .none:=rfl;have c2:(#[Value.none,.bool false,.bool false,.ref I,.ref O]:W4)[2]?=some (.bool false):=rfl;have c3:(#[Value.none,.bool false,.bool false,.ref I,.ref O]:W4)[3]?=some (.ref I):=rfl;have P:(#[Value.none,.bool false,.bool false,.ref I,.ref O]:W4)[4]?=some (.ref O):=rfl;have z0:0<(#[Value.none,.bool false,.bool false,.ref I,.ref O]:W4).size:=by simp
 wp_walk using LQ gz rfl c2,LQ gz rfl c3,Wt gI rfl,LQ gz rfl X,LQ gz rfl P,wpAny_setField_rec gz z0;intro h1 t s;have r:Rest [z] hp h1:=.but s (by simp);wp_walk;refine p1.behind (f:=λx=>pure (some x)) (k:=λ_=>setField (.ref z) 0 .none) (k1 _ _ (r.sub (by simp)) a1) ⟨λx h2 e2 V c=>?_,λe h2 e2 c st=>?_⟩
 ·have G:IsPair h2 O a b:=c.extBut _ _ M (s.extBut _ _ p gO);wp_walk using Wt G rfl,wpAny_updateSeq_pair G;intro h3 W n;wp_walk using wpAny_letGo;have C:Rest [z,O,i] hp h3:=((r.sub (by simp)).trans (.but c (by simp))).trans (.but n (by simp));refine p2.behind (f:=λx=>pure (some x)) (k:=λ_=>setField (.ref z) 0 .none) (k2 _ _ C a2) ⟨λy F u Z h=>?_,λe F u h st=>?_⟩
  ·have H:IsPair F O x b:=h.extBut _ _ L W;wp_walk using Wt H rfl,wpAny_updateSeq_pair H;intro h5 Y m;have o:IsPair h5 O x y:=Y;have N:Rest [z,O,i,j] hp h5:=((C.sub (by simp)).trans (.but h (by simp))).trans (.but m (by simp));have J:IsZip h5 z I O .ellipsis:=m.extBut _ _ p.symm (h.extBut _ _ D.symm (n.extBut _ _ p.symm (c.extBut _ _ B.symm t)));have sz:h5.objs.size=hp.objs.size:=(((m.1.trans h.1).trans n.1).trans c.1).trans s.1;have lt:z<h5.objs.size:=Cd J;have Q:IsZip (h5.push { cls:=.type "tuple",data:=.seq #[x,y].toList.toArray}) z I O .ellipsis:=FP _ J;wp_walk using wpAny_letGo,Wt o rfl;have U:=Uq (Obj.mapFields λv=>v.setIfInBounds 1 (Value.bool false)) (Uq (Obj.mapFields λv=>v.setIfInBounds 0 (rawInt h5.objs.size)) Q rfl) rfl;have K:Rest [z] (h5.push { cls:=.type "tuple",data:=.seq #[x,y].toList.toArray}) _:=(Rest.but (b:=z) (Heap.SameBut.update (f:=Obj.mapFields λv=>v.setIfInBounds 0 (rawInt h5.objs.size)) ..) (by simp)).trans (Rest.but (b:=z) (Heap.SameBut.update (f:=Obj.mapFields λv=>v.setIfInBounds 1 (Value.bool false)) ..) (by simp));have q:=(Rest.new _).trans K;have T8:=K h5.objs.size _ (by simp;exact M9 lt) (Gv _ rfl);simp only[<-sz]at go;exact go x y _ e2 u U (q _ _ (by simp[p]) o) T8 (k3 _ _ ((((Rest.but (S:=[z,O,j]) n (by simp)).trans (.but h (by simp))).trans (.but m (by simp))).trans (q.sub (T:=[z,O,j]) (by simp))) V)
    (k4 _ _ ((Rest.but (S:=[z,O,i]) m (by simp)).trans (q.sub (T:=[z,O,i]) (by simp))) Z) (N.trans (q.sub (T:=[z,O,i,j]) (by simp)))
  ·exact freed (h _ _ D.symm (n.extBut _ _ p.symm (c.extBut _ _ B.symm t))) st λh5 m l =>
    stop e h5 (.inr u) (((C.sub (by simp)).trans (.ext h (by simp))).trans (m.sub (by simp))) l
 ·exact freed (c _ _ B.symm t) st λh3 n l=>stop e h3 (.inl e2) (((r.sub (by simp)).trans (.ext c (by simp))).trans (n.sub (by simp))) l
end
end Zo
namespace Zn
open PySem.Sem (wp)
section
variable {prog:W3}{w:W6}{A:Y1}{E:U3}{hp:Heap}{g:Array GenState}{d:Drawn}{tk:Nat}{os:OsState}{it l:Y4}{i n:Nat}{its:W4}{oi ol:Obj}{R:PySem.Fin->Shared->Prop}
theorem X1y(hh:its[i]?=none->A.handled=none)(gi:hp.get? it=some oi)(di:oi.data=.fields #[.ref l,.int i 0])(gl:hp.get? l=some ol)(dl:ol.data=.seq its n)
  (go:∀x,its[i]?=some x->R (.done (.ret x)) ⟨hp.update it (Obj.mapFields (·.setIfInBounds 1 (rawInt (i+1)))),g,d,tk,os⟩)
  (stop:∀h' e,its[i]?=none->Heap.ExtBut it hp h'->(∃o,h'.get? e=some o/\o.cls=.type "StopIteration")->E (.ref e) ⟨h',g,d,tk,os⟩):
  wpAny (model prog w) A (Builtin.«tuple_iterator.__next__» ⟨[.ref it],[]⟩) R E ⟨hp,g,d,tk,os⟩:=by
 have a:(#[Value.ref l,.int i 0]:W4)[0]?=some (.ref l):=rfl;have b:(#[Value.ref l,.int i 0]:W4)[1]?=some (.int i 0):=rfl;have z0:0<(#[Value.ref l,.int i 0]:W4).size:=by simp
 have c:1<(#[Value.ref l,.int i 0]:W4).size:=by simp
 wp_walk using LQ gi di a,LQ gi di b,Wt gl dl;rw[Dm];cases hx:its[i]? with
 | some x =>
  dsimp only;wp_walk using Wu gi di c;exact go x hx
 | none =>
  dsimp only;have f:=hh hx;wp_walk using Wu gi di z0;exact wpAny_raiseNew_none f (stop _ _ hx (((Heap.SameBut.update ..).extBut.push _).push _) ⟨_,Gv _ rfl,O⟩)
end
end Zn
namespace Zp
open Zo
open PySem.Sem (wp)
def Dat (t:Bool)(h:Heap)(l:Y4)(xs:W4):Prop:=if t then h.IsTuple l xs else h.IsList l xs
def HS (t:Bool)(h:Heap)(it l:Y4)(i:Nat):Prop:=if t then h.IsTupleIter it l i else h.IsListIter it l i
variable{t:Bool}{h':Heap}{l:Y4}
theorem Dat.at{h:Heap}{xs:W4}(d:Dat t h l xs)(e:∀o,h.get? l=some o->h'.get? l=some o):Dat t h' l xs:=by
 cases t<;>exact let ⟨o,q,r⟩:=d;⟨o,e o q,r⟩
variable{it:Y4}{i:Nat}
theorem HS.at{h:Heap}(d:HS t h it l i)(e:∀o,h.get? it=some o->h'.get? it=some o):HS t h' it l i:=by
 cases t<;>exact let ⟨o,q,r⟩:=d;⟨o,e o q,r⟩
theorem HS.obj{h:Heap}(d:HS t h it l i):∃o,h.get? it=some o/\∀v,o.data≠.cell v:=by
 cases t<;>exact let ⟨o,e,_,q⟩:=d;⟨o,e,λv z=>by rw[q]at z;cases z⟩
theorem Dat.push{h:Heap}{xs:W4}(d:Dat t h l xs)(o:Obj):Dat t (h.push o) l xs:=d.at λ_ q=>FP _ q
def Stand (t:Bool)(it l:Y4)(k:Nat)(xs:W4)(h:Heap):Prop:=HS t h it l k/\Dat t h l xs
theorem Stand.stays{k:Nat}{xs:W4}{S:U5}(a:it∉S)(b:l∉S):JR S (Stand t it l k xs):=λh h' r d=>⟨d.1.at λo q=>r _ o a q,d.2.at λo q=>r _ o b q⟩
section
variable {prog:W3}{w:W6}{A:Y1}
variable{Q:Option Value->Shared->Prop}
theorem via{E:U3}{T id:String}{f:Builtin}{a:Y4}{s:W1}(sl:Slot T (Str.ofString "__next__") id)(en:entryFor table id=some f)(ar:argsOk id ⟨[.ref a],[]⟩)(ty:s.TypeIs (.ref a) T)
  (h:wpAny (model prog w) A.in1 (f ⟨[.ref a],[]⟩) (λr s'=>∃v,r=.done (.ret v)/\Q (some v) s') E s):wpAny (model prog w) A (callSpecial? (.ref a) (Str.ofString "__next__")) Q E s :=
 jR ty sl (ZR sl ty en h ar)
theorem pull{k:Nat}{xs:W4}(hh:A.handled=none):Pull prog w A it (Stand t it l k xs) (Stand t it l (k+1) xs) xs[k]?:=by
 intro Q E hp g d tk os st td;have p:∀{h'},Heap.SameBut it hp h'->l≠it->Dat t h' l xs:=λr n=>st.2.at λo q=>r.extBut _ _ n q;cases t with
 | false =>
  obtain⟨a,b⟩:hp.IsListIter it l k/\hp.IsList l xs:=st;have n:l≠it:=by
   rintro rfl;obtain⟨o,q,_,r⟩:=a;obtain⟨o',j,_,_,h⟩:=b;rw[q]at j;cases j;rw[r]at h;cases h
  cases f:xs[k]? with
  | some x=>exact wpAny_nextOf_list_item a b f λh' i r=>td.1 x h' f ⟨i,p r n⟩ r
  | none=>exact wpAny_nextOf_list_end hh a b f λh' e r s=>td.2 e h' f r s
 | true =>
  obtain⟨a,b⟩:hp.IsTupleIter it l k/\hp.IsTuple l xs:=st;have ty:(⟨hp,g,d,tk,os⟩:W1).TypeIs (.ref it) "tuple_iterator":=a.typeIs;obtain⟨o,q,c,r⟩:=a;obtain⟨o',j,c',m,h⟩:=b;have n:l≠it:=by rintro rfl;rw[q]at j;cases j;rw[r]at h;cases h
  unfold Builtin.SmallTypes.nextOf;refine Bw (via F.slot_tuple_iterator_next F.entry_tuple_iterator_next (F.args_tuple_iterator_next_1 _) ty (Zn.X1y (λ_=>hh) q r j h (λx f=>⟨x,O,Cq (td.1 x _ f ?_ (Heap.SameBut.update ..))⟩) λh' e f ex s=>td.2 e h' f ex s));refine⟨(⟨_,Uq _ q (Obj.isFreed_of_fields (Obj.data_mapFields r _)),(Obj.cls_mapFields ..).trans c,?_⟩:Heap.IsTupleIter _ it l (k+1)),p (Heap.SameBut.update ..) n⟩;rw[Obj.data_mapFields r];rfl
variable {E:U3}
theorem wW{t1 t2:Bool}{z I O i j m:Y4}{k1 k2:Nat}{xs ys:W4}{a b:W7}{s:W1}(hh:A.handled=none)(D:ZipApart z I O i j l m)
  (gz:IsZip s.heap z I O .none) (gI:IsPair s.heap I (.ref i) (.ref j)) (gO:IsPair s.heap O a b) (d1:Stand t1 i l k1 xs s.heap) (d2:Stand t2 j m k2 ys s.heap)
  (go:∀x y h',xs[k1]?=some x->ys[k2]?=some y->IsZip h' z I O (rawInt s.heap.objs.size)->IsPair h' O x y->IsPair h' s.heap.objs.size x y->Stand t1 i l (k1+1) xs h'->Stand t2 j m (k2+1) ys h' ->
   Rest [z,O,i,j] s.heap h'->Q (some (.ref s.heap.objs.size)) ⟨h',s.gens,s.drawn,s.toks,s.os⟩)
  (stop:∀h',xs[k1]?=none\/ys[k2]?=none->Rest [z,O,i,j] s.heap h'->Q none ⟨h',s.gens,s.drawn,s.toks,s.os⟩):wpAny (model prog w) A (pyNext (.ref z)) Q E s:=by
 obtain⟨hp,g,d,tk,os⟩:=s;unfold pyNext;refine Bw (iJ (via F.slot_zip_next F.entry_zip_next (F.args_zip_next_1 _) ⟨_,gz,rfl⟩ (step gz gI gO ⟨D.TOz,D.TOi1,D.TOi2,D.i1z,D.i2z⟩ (pull (A:=A.in1) hh) (pull (A:=A.in1) hh) d1 d2 ?_ ?_ ?_ ?_ ?_ ?_)))
 ·exact Stand.stays (by simp[D.i1z,D.TOi1.symm,D.i12]) (by simp[D.l1z,D.l1TO,D.l1i2])
 ·exact Stand.stays (by simp[D.i2z,D.TOi2.symm,D.i12.symm]) (by simp[D.l2z,D.l2TO,D.l2i1])
 ·exact Stand.stays (by simp[D.i1z,D.TOi1.symm,D.i12]) (by simp[D.l1z,D.l1TO,D.l1i2])
 ·exact Stand.stays (by simp[D.i2z,D.TOi2.symm,D.i12.symm]) (by simp[D.l2z,D.l2TO,D.l2i1])
 ·exact λx y h' e1 e2 h k f u p t=>⟨_,rfl,Cq (go x y h' e1 e2 h k f u p t)⟩
 ·rintro e h' n r ⟨o,q,c⟩;exact Bw (wpAny_isInstance (b:=true) ⟨o,q,c⟩ isSubtype_stop (Cq (stop h' n r)))
end
noncomputable abbrev HD (t:Bool)(l:Y4):Obj:={ cls:=.type (if t then "tuple_iterator" else "list_iterator"),data:=.fields #[.ref l,.int 0 0]}
theorem X0l{h:Heap}(e:h.get? it=some (HD t l)):HS t h it l 0:=by
 cases t<;>exact⟨_,e,O,O⟩
theorem XC{h:Heap}{o0 o1 o2 o3 o4:Obj}(f0:o0.isFreed=false)(f1:o1.isFreed=false)(f2:o2.isFreed=false)(f3:o3.isFreed=false)(f4:o4.isFreed=false){H:Heap}(e:H=((((h.push o0).push o1).push o2).push o3).push o4):
  H.get? h.objs.size=some o0/\H.get? (h.objs.size+1)=some o1/\H.get? (h.objs.size+2)=some o2/\H.get? (h.objs.size+3)=some o3/\H.get? (h.objs.size+4)=some o4/\∀c o,h.get? c=some o->H.get? c=some o:=by
 subst e;have w:∀{h:Heap}{a:Y4}{o o':Obj},h.get? a=some o->(h.push o').get? a=some o:=λq=>FP _ q;have b:(h.push o0).objs.size=h.objs.size+1:=NK ..;have s2:((h.push o0).push o1).objs.size=h.objs.size+2:=by rw[NK,b]
 have s3:(((h.push o0).push o1).push o2).objs.size=h.objs.size+3:=by rw[NK,s2]
 have s4:((((h.push o0).push o1).push o2).push o3).objs.size=h.objs.size+4:=by rw[NK,s3]
 refine⟨w (w (w (w (Gv _ f0)))),?_,?_,?_,?_,λc o q=>w (w (w (w (w q))))⟩
 ·rw[<-b];exact w (w (w (Gv _ f1)))
 ·rw[<-s2];exact w (w (Gv _ f2))
 ·rw[<-s3];exact w (Gv _ f3)
 ·rw[<-s4];exact Gv _ f4
structure New (t1 t2:Bool) (h h':Heap) (l m:Y4):Prop where
 z:IsZip h' (h.objs.size+4) (h.objs.size+2) (h.objs.size+3) .none
 I:IsPair h' (h.objs.size+2) (.ref h.objs.size) (.ref (h.objs.size+1))
 O:IsPair h' (h.objs.size+3) .none .none
 i:HS t1 h' h.objs.size l 0
 j:HS t2 h' (h.objs.size+1) m 0
 k:Rest [] h h'
section
variable {prog:W3}{w:W6}{A:Y1}{E:U3}{s:W1}
theorem wL{xs:W4}{Q:U3}(hl:Dat t s.heap l xs)(h:Q (.ref s.heap.objs.size) {s with heap:=s.heap.push (HD t l)}):wpAny (model prog w) A (pyIter (.ref l)) Q E s:=by
 cases t
 ·exact ZW (show s.heap.IsList l xs from hl) h
 ·exact jL (show s.heap.IsTuple l xs from hl) h
theorem Y9v(t1 t2:Bool)(l m:Y4)(xs ys:W4):
  Meets (Builtin.«zip.__new__» ⟨[.type "zip",.ref l,.ref m],[]⟩) (λ_ R s=>Dat t1 s.heap l xs/\Dat t2 s.heap m ys /\
   ∀h',New t1 t2 s.heap h' l m->R (.ok (.ret (.ref (s.heap.objs.size+4)))) {s with heap:=h'}):=
 .of_wp λprog w A R s h=>by
  rcases s with ⟨hp,g,d,tk,os⟩;rcases h with ⟨b1,b2,h⟩;have b:=sub_zip;have i:Dat t1 (Shared.heap ⟨hp,g,d,tk,os⟩) l xs:=b1;have L2:Dat t2 (Shared.heap ⟨hp.push (HD t1 l),g,d,tk,os⟩) m ys:=b2.push _;wp_walk using wL i,wL L2;have a:∀n1 n2 n3 n4,n1=hp.objs.size+1->n2=hp.objs.size+2->n3=hp.objs.size+3->n4=hp.objs.size+4 ->
    R (.ok (.ret (.ref n4))) ⟨((((hp.push (HD t1 l)).push (HD t2 m)).push { cls:=.type "tuple",data:=.seq #[.ref hp.objs.size,.ref n1]}).push { cls:=.type "tuple",data:=.seq #[.none,.none]}).push
     { cls:=.type "zip",data:=.fields #[.none,.bool false,.bool false,.ref n2,.ref n3]},g,d,tk,os⟩:=by
   rintro _ _ _ _ rfl rfl rfl rfl;obtain⟨p,f,j,e,k,n⟩:=XC (h:=hp) (o0:=HD t1 l) (o1:=HD t2 m) (o2:={ cls:=.type "tuple",data:=.seq #[.ref hp.objs.size,.ref (hp.objs.size+1)]}) (o3:={ cls:=.type "tuple",data:=.seq #[.none,.none]})
    (o4:={ cls:=.type "zip",data:=.fields #[.none,.bool false,.bool false,.ref (hp.objs.size+2),.ref (hp.objs.size+3)]}) rfl rfl rfl rfl rfl rfl
   exact h _ ⟨k,j,e,X0l p,X0l f,λc o _ q=>n c o q⟩
  exact⟨_,O,a _ _ _ _ (by simp only[NK]) (by simp only[NK]) (by simp only[NK]) (by simp only[NK])⟩
theorem X4n{t1 t2:Bool}{m:Y4}{xs ys:W4}{Q:U3}(b1:Dat t1 s.heap l xs)(b2:Dat t2 s.heap m ys)
  (k:∀h',New t1 t2 s.heap h' l m->Q (.ref (s.heap.objs.size+4)) {s with heap:=h'}):wpAny (model prog w) A (call (.type "zip") [.ref l,.ref m]) Q E s :=
 callType_new F.called_zip (by decide) (F.typeCall_zip_2 _ _) (F.newCall_zip_2 _ _) (λo=>F.args_object_init_3 o _ _) F.entry_zip_new (Y9v t1 t2 l m xs ys) ⟨b1,b2,λh' n=>⟨⟨_,n.z,O⟩,k h' n⟩⟩
end
end Zp
namespace L2
section
variable {X:Cx}{pins:U1}{σ:St}{H:Hp}{s:W1}{h':Heap}
theorem Inv.turnedL{t':Nat}{ch:U5}(I:Inv X pins σ H s)(k:∀b o,b∉ch->s.heap.get? b=some o->h'.get? b=some o)(hf:∀b∈ch,E_ X pins H b):Inv X pins σ H {s with heap:=h',toks:=t'}:=by
 have d:∀b u,H b=some u->b∉ch:=λb u e z=>by rw[(hf b z).1]at e;cases e
 refine I.step (g':=s.gens) (d':=s.drawn) (ch:=ch) (λb hb=>⟨(hf b hb).2.2.2.1,(hf b hb).2.1,(hf b hb).2.2.2.2.1,(hf b hb).2.2.2.2.2⟩) (λb o _ _ a e _=>k b o a e) (λb o _ _ a e _=>⟨o.slots,k b o a e⟩) (λ_ _ _ _ n=>n)
  (λb o a e=>⟨o,k b o a e⟩) (λ_ _ e=>e) (λ_ _ _ e=>e) (λb ps e=>⟨#[],by rw[e];simp⟩) (λm g=>?_) (λb u e=>?_) I.bare
 ·obtain⟨o,es,ep,f,r⟩:=g;exact⟨o,es,ep,k _ o (λz=>(hf _ z).2.1 rfl) f,r⟩
 ·refine(I.hok b u e).stay (λc v a q=>k c v ?_ q) (λ_ q=>q) λ_ _ q=>q;rcases a with z | z
  ·rw[z];exact d b u e
  ·exact d c _ z
theorem Inv.turnedT{t':Nat}{ch:U5}{T:Y4}{xs:List V}{its:U9}(I:Inv X pins σ H s)(k:∀b o,b∉ch->s.heap.get? b=some o->h'.get? b=some o)(hf:∀b∈ch,E_ X pins H b)(hT:s.heap.objs.size<=T)(hv:Vals xs its)(hz:xs.length<=sizeLine)(ht:IsTup h' T its.toArray):
  Inv X pins σ (upd H T (.tup xs)) {s with heap:=h',toks:=t'}:=by
 have f:∀b u,H b=some u->b∉ch:=λb u e z=>by rw[(hf b z).1]at e;cases e
 have h:H T=none:=I.hok.fresh hT;have g:∀b o,s.heap.get? b=some o->b≠T:=λb o e=>Eb (DK (Cd e) hT);have a:∀b u,H b=some u->b≠T:=λb u e z=>by rw[z,h]at e;cases e
 refine I.step (g':=s.gens) (d':=s.drawn) (ch:=ch) (λb hb=>⟨(hf b hb).2.2.2.1,(hf b hb).2.1,(hf b hb).2.2.2.2.1,(hf b hb).2.2.2.2.2⟩) (λb o _ _ d e _=>k b o d e) (λb o _ _ d e _=>⟨o.slots,k b o d e⟩)
  (λb o _ e n=>by rw[Cj (g b o e)];exact n)
  (λb o d e=>⟨o,k b o d e⟩) (λb ys e=>by rw[Cj (a b _ e)];exact e) (λb o u e=>by rw[Cj (a b _ e)];exact e) (λb ps e=>⟨#[],by rw[Cj (a b _ e),e];simp⟩) (λm j=>?_) (λb u e=>?_) I.bare
 ·obtain⟨o,es,ep,i,r⟩:=j;exact⟨o,es,ep,k _ o (λz=>(hf _ z).2.1 rfl) i,r⟩
 ·by_cases hb:b=T
  ·subst hb;rw[Al]at e;cases e;exact⟨hz,its,hv,ht⟩
  ·rw[Cj hb]at e;refine(I.hok b u e).stay (λc v d q=>k c v ?_ q) (λc q=>by rw[Cj (a c _ q)];exact q) λc ys q=>by rw[Cj (a c _ q)];exact q
   rcases d with z | z
   ·rw[z];exact f b u e
   ·exact f c _ z
end
def JT (t:Bool)(K:U0)(H:Hp)(a:Y4)(xs:List V):Prop:=if t then Ax K H a xs else Ag K H a xs
theorem Inv.sqx{X:Cx}{pins:U1}{σ:St}{H:Hp}{s:W1}{t:Bool}{a:Y4}{xs:List V}(I:Inv X pins σ H s)(h:JT t X.K H a xs):∃its:List Value,Vals xs its/\Zp.Dat t s.heap a its.toArray/\xs.length<=sizeLine:=by
 cases t
 ·obtain⟨its,v,p,z⟩:=I.list (show Ag X.K H a xs from h);exact⟨its,v,p.isList,z⟩
 ·obtain⟨its,v,p,z⟩:=I.tuple (show Ax X.K H a xs from h);exact⟨its,v,p,z⟩
variable{ys:List V}
theorem Inv.sqx_inj{X:Cx}{pins:U1}{σ:St}{H:Hp}{s:W1}{t:Bool}{a:Y4}{xs:List V}(I:Inv X pins σ H s)(h:JT t X.K H a xs)(h':JT t X.K H a ys):xs=ys:=by
 cases t
 ·exact I.list_inj (show Ag X.K H a xs from h) h'
 ·exact I.tuple_inj (show Ax X.K H a xs from h) h'
def fP (t1 t2:Bool)(K:U0)(l1 l2:Y4):It :=
 ⟨λi H=>∃xs x ys y,JT t1 K H l1 xs/\xs[i]?=some x/\JT t2 K H l2 ys/\ys[i]?=some y,
 λi H v H'=>∃T x y,v=.ref T/\H T=none/\H'=upd H T (.tup [x,y])/\(∀xs,JT t1 K H l1 xs->xs[i]?=some x)/\∀ys,JT t2 K H l2 ys->ys[i]?=some y,
 λi H=>∃xs ys,JT t1 K H l1 xs/\JT t2 K H l2 ys/\(xs.length<=i\/ys.length<=i)⟩
theorem X1w{P:W3}{w:W6}{K:U0}{es:List Expr}{kk:Nat}{tp:Pos}{t1 t2:Bool}{z TI TO i1 i2 l1 l2:Y4}(D:ZipApart z TI TO i1 i2 l1 l2):
  Turn P w K (.Tuple es kk tp) (fP t1 t2 K l1 l2) [z,TI,TO,i1,i2] z (λi h=>IsZip h z TI TO .none/\IsPair h TI (.ref i1) (.ref i2)/\(∃a b,IsPair h TO a b)/\Zp.HS t1 h i1 l1 i/\Zp.HS t2 h i2 l2 i) where
 mem:=by simp
 obj:=λi h st b hb=>by
  obtain⟨d,c,⟨x,y,j⟩,g,f⟩:=st;simp only[Dw,I_,Ht]at hb;rcases hb with rfl | rfl | rfl | rfl | rfl
  ·exact⟨_,d,λv q=>by have F:Data.fields _=Data.cell v:=q;cases F⟩
  ·exact⟨_,c,λv q=>by have F:Data.seq _ _=Data.cell v:=q;cases F⟩
  ·exact⟨_,j,λv q=>by have F:Data.seq _ _=Data.cell v:=q;cases F⟩
  ·exact g.obj
  ·exact f.obj
 keep:=λi h h' st k=>by
  obtain⟨d,c,⟨x,y,j⟩,g,f⟩:=st;exact⟨k z (by simp) _ d,k TI (by simp) _ c,⟨x,y,k TO (by simp) _ j⟩,g.at λo e=>k i1 (by simp) o e,f.at λo e=>k i2 (by simp) o e⟩
 item:=by
  intro X R V N Y i pins s σ H E I hf st T;subst R V N;obtain⟨xs,x,ys,y,G,hx,J,hy⟩:=T;obtain⟨d,c,⟨u1,u2,j⟩,g,f⟩:=st;obtain⟨its,Q,M,hz⟩:=I.sqx G;obtain⟨its',l,m,U⟩:=I.sqx J;obtain⟨u,B,rx⟩:=Q.get hx;obtain⟨t,A,ry⟩:=l.get hy;refine Zp.wW (I.ok.hd Y) D d c j (d1:=⟨g,M⟩) (d2:=⟨f,m⟩) (λwx wy h' L W b1 b2 Z b3 b4 bk=>?_) (λh' n _=>?_);rotate_left
  ·exfalso;rcases n with n | n
   ·rw[show its.toArray[i]?=some u by simpa using B]at n;cases n
   ·rw[show its'.toArray[i]?=some t by simpa using A]at n;cases n
  obtain rfl:u=wx:=Option.some.inj ((show its.toArray[i]?=some u by simpa using B).symm.trans L);obtain rfl:t=wy:=Option.some.inj ((show its'.toArray[i]?=some t by simpa using A).symm.trans W);refine⟨_,O,wpAny_letOwnedTupleGo_zip b1 λh2 c1 r=>?_⟩;have zT:s.heap.objs.size≠z:=M9 (Cd d);have k2:∀b o,b∉[z,TI,TO,i1,i2]->s.heap.get? b=some o->h2.get? b=some o:=λb o hb e=>by
   simp only[Dw,I_,Ht,not_or]at hb;exact r.extBut b o hb.1 (bk b o (by simp[hb]) e)
  have hT:IsTup h2 s.heap.objs.size ([u,t]:U9).toArray:=⟨_,r.extBut _ _ zT Z,O,_,O⟩;refine⟨.ref s.heap.objs.size,upd H s.heap.objs.size (.tup [x,y]),I.turnedT (t':=s.toks) k2 hf (CT _) (.cons rx (.cons ry .nil)) (by show 2<=sizeLine;decide) hT,O,⟨_,x,y,O,I.hok.fresh (CT _),O,λa6 h1=>?_,λa0 h1=>?_⟩,⟨c1,?_,⟨u,t,?_⟩,?_,?_⟩,λb hb=>?_⟩
  ·rw[I.sqx_inj h1 G];exact hx
  ·rw[I.sqx_inj h1 J];exact hy
  ·exact r.extBut _ _ D.TIz (bk _ _ (by simp[D.TIz,D.TITO,D.TIi1,D.TIi2]) c)
  ·exact r.extBut _ _ D.TOz b2
  ·exact b3.1.at λo q=>r.extBut _ _ D.i1z q
  ·exact b4.1.at λo q=>r.extBut _ _ D.i2z q
  ·have S:b<s.heap.objs.size:=by
    simp only[Dw,I_,Ht]at hb;rcases hb with rfl | rfl | rfl | rfl | rfl
    ·exact Cd d
    ·exact Cd c
    ·exact Cd j
    ·obtain⟨o,e,_⟩:=g.obj;exact Cd e
    ·obtain⟨o,e,_⟩:=f.obj;exact Cd e
   rw[Cj (Eb S)];exact(hf b hb).1
 done:=by
  intro X R V N Y i pins s σ H E I hf st T;subst R V N;obtain⟨xs,ys,G,J,C⟩:=T;obtain⟨d,c,⟨u1,u2,j⟩,g,f⟩:=st;obtain⟨its,Q,M,hz⟩:=I.sqx G;obtain⟨its',l,m,U⟩:=I.sqx J;have e1:=Q.length;have e2:=l.length;have p:its.toArray[i]?=none\/its'.toArray[i]?=none:=by
   rcases C with h | h
   ·left;simp;lia
   ·right;simp;lia
  refine Zp.wW (I.ok.hd Y) D d c j (d1:=⟨g,M⟩) (d2:=⟨f,m⟩) (λwx wy h' L W b1 b2 Z b3 b4 bk=>?_) (λh' n bk=>⟨O,I.turnedL (t':=s.toks) (λb o hb e=>?_) hf⟩)
  ·exfalso;rcases p with n | n
   ·rw[L]at n;cases n
   ·rw[W]at n;cases n
  ·simp only[Dw,I_,Ht,not_or]at hb;exact bk b o (by simp[hb]) e
 self:=λ_ _ _ _ _ st h=>wpAny_pyIter_zip st.1 h
section
variable {X:Cx}{es:List Expr}{kk:Nat}{tp:Pos}
def mj (t1 t2:Bool)(K:U0)(ta:TA):TI:=λσ H R=>ta σ H λvs H1=>∃l1 l2 xs ys,vs=[.ref l1,.ref l2]/\JT t1 K H1 l1 xs/\JT t2 K H1 l2 ys/\R (fP t1 t2 K l1 l2) H1
theorem W1j(t1 t2:Bool){a b:Expr}{ta:TA}{p pos:Pos}(hg:Gl X "zip")(hm:X.mg "zip"=none)(ha:PA X [a,b] ta)(hs:starEach [a,b] X.env=[(false,eval a X.env),(false,eval b X.env)]:=by rfl)(hs2:starEach [b] X.env=[(false,eval b X.env)]:=by rfl):
  PI X (.Tuple es kk tp) (.Call (.Name "zip" p) [a,b] [] pos) (mj t1 t2 X.K ta):=by
 intro pins s σ H R I h;refine Call_ (QC I hg hm boot_zip (PyProof.Rows.callWith_type1 (Bm (ha pos pins s σ H _ I h) λus d ⟨vs,H1,i,u,t⟩=>?_) (by rw[hs,hs2]) (by rw[hs2];rfl)));obtain⟨l1,l2,xs,ys,e,h1,h2,q⟩:=t;subst e;cases u with
 | cons r rr =>
  cases rr with
  | cons r' rr =>
   cases rr;cases r;cases r';obtain⟨its,F,j,E⟩:=i.sqx h1;obtain⟨its',y,f,v⟩:=i.sqx h2;refine Zp.X4n j f λh' ⟨n,w,x,A,B,m⟩=>?_;have z:∀c o,d.heap.get? c=some o->h'.get? c=some o:=λc o q=>m c o (by simp) q;have C:Inv X pins σ H1 {d with heap:=h'}:=i.kept (t':=d.toks) z;have l:l1<d.heap.objs.size:=by
    cases t1
    ·obtain⟨o,e,_⟩:=(show d.heap.IsList l1 _ from j);exact Cd e
    ·obtain⟨o,e,_⟩:=(show d.heap.IsTuple l1 _ from j);exact Cd e
   have k:l2<d.heap.objs.size:=by
    cases t2
    ·obtain⟨o,e,_⟩:=(show d.heap.IsList l2 _ from f);exact Cd e
    ·obtain⟨o,e,_⟩:=(show d.heap.IsTuple l2 _ from f);exact Cd e
   have D:ZipApart (d.heap.objs.size+4) (d.heap.objs.size+2) (d.heap.objs.size+3) d.heap.objs.size (d.heap.objs.size+1) l1 l2:=zipApart_new l k;refine wpAny_pyIter_zip n ⟨_,_,_,_,H1,O,C,X1w D,⟨n,w,⟨_,_,x⟩,A,B⟩,λb hb=>?_,q⟩;have g:d.heap.objs.size<=b:=by
    simp only[Dw,I_,Ht]at hb;rcases hb with rfl | rfl | rfl | rfl | rfl
    ·exact ZQ _ _
    ·exact ZQ _ _
    ·exact ZQ _ _
    ·exact CT _
    ·exact ZQ _ _
   exact i.fpOk g (i.hok.fresh g)
end
theorem W2l{t1 t2:Bool}{K:U0}{l1 l2:Y4}{g:TG}{xs:List V}{te:TE}{fr:St}{H1:Hp}{acc:Y4}{Q:VK}(Pv:Nat->List V->Hp->Prop)(hxy:xs.length=ys.length)(hn:xs.length<=sizeLine)(h0:Pv 0 [] (upd H1 acc (.lst [])))
  (hg:∀{a:Y4}{x y v1 v2:V}{w1 w2:Option V}{H:Hp}{Q:St->Hp->Prop},H a=some (.tup [x,y])->Q (some x::some y::fr) H->g (.ref a) (w1::w2::fr) H Q)
  (hl:∀i zs H,Pv i zs H->JT t1 K H l1 xs/\JT t2 K H l2 ys)
  (hs:∀i x y zs H T (N:V->Hp->Prop),xs[i]?=some x->ys[i]?=some y->zs.length=i->Pv i zs H->H T=none->(∀z c,c acc=some (.lst zs)->Pv (i+1) (zs++[z]) (upd c acc (.lst (zs++[z])))->N z c)->te (some x::some y::fr) (upd H T (.tup [x,y])) N)
  (hd:∀zs H,zs.length=xs.length->Pv xs.length zs H->Q (.ref acc) H):Ii (fP t1 t2 K l1 l2) g te (none::none::fr) H1 acc Q:=by
 refine⟨λi m zs f H2=>m=xs.length-i/\i<=xs.length/\zs.length=i/\(∃v w,f=v::w::fr)/\Pv i zs H2,⟨xs.length,by simp,Fy _,O,⟨_,_,O⟩,h0⟩,?_⟩;rintro i m zs f H2 ⟨rfl,hi,b,⟨v,w,rfl⟩,p⟩;obtain⟨d,s2⟩:=hl i zs H2 p;by_cases hlt:i<xs.length
 ·have e1:xs[i]?=some xs[i]:=by simp[hlt]
  have e2:ys[i]?=some (ys[i]'(by lia)):=by simp[show i<ys.length by lia]
  refine .inr ⟨⟨xs,_,ys,_,d,e1,s2,e2⟩,λu q n=>?_⟩;obtain⟨T,x,y,rfl,h,rfl,h1,h2⟩:=n;have j:=h1 xs d;have k:=h2 ys s2;refine hg (v1:=x) (v2:=y) (Al) ?_;refine hs i x y zs H2 T _ j k b p h λz c o l=>⟨o,by lia,xs.length-(i+1),by lia,O,hlt,by rw[Ed,b];rfl,⟨_,_,O⟩,l⟩
 ·have e:i=xs.length:=by lia
  subst e;exact .inl ⟨⟨xs,ys,d,s2,.inl (CT _)⟩,hd zs H2 b p⟩
end L2
namespace Bt
theorem pK(x y:Nat):(x&&&y)=2*((x / 2)&&&(y / 2))+(x%2)*(y%2):=by
 have h1:(x&&&y) / 2=(x / 2)&&&(y / 2):=Nat.and_div_two;have h2:(x&&&y)%2=1↔x%2=1/\y%2=1:=Nat.and_mod_two_eq_one;rcases Jb x with a | a<;>rcases Jb y with b | b<;>rw[a,b]at h2 ⊢<;>lia
theorem W2b(x y:Nat):(x ||| y)=2*((x / 2) ||| (y / 2))+(x%2+y%2-(x%2)*(y%2)):=by
 have h1:(x ||| y) / 2=(x / 2) ||| (y / 2):=Nat.or_div_two
 have h2:(x ||| y)%2=1↔x%2=1\/y%2=1:=Nat.or_mod_two_eq_one;rcases Jb x with a | a<;>rcases Jb y with b | b<;>rw[a,b]at h2 ⊢<;>lia
def Half (x y:Int):Prop:=Builtin.bitAnd x y=2*Builtin.bitAnd (x / 2) (y / 2)+(x%2)*(y%2)
variable{x y:Int}
theorem Half.swap(h:Half x y):Half y x:=by
 unfold Half at h ⊢;rw[bitAnd_comm y x,bitAnd_comm (y / 2),Rj (y%2)];exact h
theorem Half.flip(h:Half x (Builtin.bitNot y)):Half x y:=by
 unfold Half at h ⊢;have e:=bitAnd_not x (Builtin.bitNot y);have e2:=bitAnd_not (x / 2) (Builtin.bitNot (y / 2));rw[ZJ]at e e2;have q:Builtin.bitNot (y / 2)=Builtin.bitNot y / 2:=by unfold Builtin.bitNot;lia
 have p:x%2*(y%2)=x%2-x%2*(Builtin.bitNot y%2):=by
  rw[show y%2=1-Builtin.bitNot y%2 by unfold Builtin.bitNot;lia,Int.mul_sub,Int.mul_one]
 rw[e,e2,q,h,p];lia
theorem Half.pos(hx:0<=x)(hy:0<=y):Half x y:=by
 have h:∀{z:Int},0<=z->z.toNat / 2=(z / 2).toNat/\((z.toNat%2:Nat):Int)=z%2:=λh=>by lia
 unfold Half;rw[bitAnd_pp hx hy,bitAnd_pp (Int.ediv_nonneg hx (by decide)) (Int.ediv_nonneg hy (by decide)),pK,(h hx).1,(h hy).1,<-(h hx).2,<-(h hy).2,Int.natCast_add,Int.natCast_mul,Int.natCast_mul];rfl
theorem Half.right(hx:0<=x)(y:Int):Half x y :=
 (Classical.em (0<=y)).elim (Half.pos hx) λa=>(Half.pos hx (bitNot_nonneg.mpr a)).flip
theorem qF(x y:Int):Builtin.bitAnd x y=2*Builtin.bitAnd (x / 2) (y / 2)+(x%2)*(y%2):=
 (Classical.em (0<=x)).elim (λa=>Half.right a y) λa=>(Half.right (bitNot_nonneg.mpr a) y).swap.flip.swap
theorem X7n(x y:Int):Builtin.bitOr x y=2*Builtin.bitOr (x / 2) (y / 2)+(x%2+y%2-(x%2)*(y%2)):=by
 rw[bitOr_and,bitOr_and,qF];lia
theorem oV{v:Nat}:(2:Int)^(v+1) ∣ x↔x%2=0/\(2:Int)^v ∣ x / 2:=by
 constructor
 ·rintro ⟨k,rfl⟩;have e:(2:Int)^(v+1)*k=2*(2^v*k):=by rw[Uc];grind
  rw[e];exact⟨by lia,⟨k,by lia⟩⟩
 ·rintro ⟨b,k,a⟩;refine⟨k,?_⟩;have e:(2:Int)^(v+1)*k=2*(2^v*k):=by rw[Uc];grind
  rw[e,<-a];lia
theorem U_:∀(v:Nat) (x y:Int),(2:Int)^v ∣ Builtin.bitOr x y↔(2:Int)^v ∣ x/\(2:Int)^v ∣ y
 | 0,x,y=>by simp
 | v+1,x,y=>by
  rw[oV,oV,oV];have e:=X7n x y;have d:=U_ v (x / 2) (y / 2);have ex:=iT x;have f:=iT y;rcases ex with a | a<;>rcases f with b | b<;>rw[a,b]at e ⊢
  ·have e2:Builtin.bitOr x y / 2=Builtin.bitOr (x / 2) (y / 2):=by lia
   rw[e2,d];have c:Builtin.bitOr x y%2=0:=by lia
   simp[c]
  all_goals
   have c:Builtin.bitOr x y%2=1:=by lia
   simp[c]
theorem Y6t(n:Nat):n<2^n:=Nat.lt_two_pow_self
theorem uh(h:∀v:Nat,(2:Int)^v ∣ x):x=0:=by
 have h1:=h x.natAbs;apply Classical.byContradiction;intro b;have h2:=Int.natAbs_dvd_natAbs.mpr h1;have a:=Nat.le_of_dvd (by lia) h2;rw[iQ]at a;have:=Y6t x.natAbs;have e:(2:Int).natAbs=2:=rfl;rw[e]at a;lia
theorem pO:Builtin.bitOr x y=0↔x=0/\y=0:=by
 constructor
 ·intro h;have hd:∀v:Nat,(2:Int)^v ∣ Builtin.bitOr x y:=λv=>by rw[h];exact Int.dvd_zero _
  exact⟨uh λv=>((U_ v x y).mp (hd v)).1,uh λv=>((U_ v x y).mp (hd v)).2⟩
 ·rintro ⟨rfl,rfl⟩;decide +kernel
theorem X0a:∀(n:Nat) (p:Int),p.natAbs<n->p≠0->∃(v:Nat) (q:Int),p=2^v*q/\q%2=1/\Builtin.bitAnd p (-p)=((2^v:Nat):Int)
 | 0,p,h,_=>by lia
 | n+1,p,h,hp=>by
  rcases iT p with h0 | h1
  ·obtain⟨v,q,e,o,b⟩:=X0a n (p / 2) (by lia) (by lia);refine⟨v+1,q,?_,o,?_⟩
   ·have e2:(2:Int)^(v+1)*q=2*(2^v*q):=by rw[Uc];grind
    rw[e2,<-e];lia
   ·rw[qF,show (-p) / 2=-(p / 2) by lia,b,h0,M_];lia
  ·refine⟨0,p,by simp,h1,?_⟩;rw[qF,show (-p) / 2=Builtin.bitNot (p / 2) by unfold Builtin.bitNot;lia,bitAnd_not,bitAnd_self,h1,show (-p)%2=1 by lia];rw[Int.sub_self];rfl
theorem X4(v:Nat):Builtin.Int.intBits ((2^v:Nat):Int)=v+1:=by
 unfold Builtin.Int.intBits;have hp:0<2^v:=Cv v;have a:((((2^v:Nat):Int)) == 0)=false:=by
  rw[beq_eq_false_iff_ne];lia
 rw[a,ZX,Nat.log2_two_pow];rfl
end Bt
namespace L2
section
variable {X:Cx}
def Yv (i j:Int):Prop:=∃a,Sz a i/\0<=j/\(a:Int)+j<=1048576
theorem Ft:Ei X (binaryOp .LShift) (rI Yv λi j=>.int (i*2^j.toNat)):=Q6 λi j _ _ _ _ _ b q=>by
 obtain⟨a,h1,h2,c⟩:=b;have:=h1.bits;exact lshift_int h2 (by lia) q
theorem QW:rH X "int.bit_length" (λx xs H Q=>∃i,x=.int i/\xs=[]/\Q (.int (Builtin.Int.intBits i:Nat)) H):=by
 intro pins s σ H x xs v us Q I b a h;obtain⟨i,rfl,rfl,q⟩:=h;obtain⟨t,rfl⟩:=b;cases a;refine call_gives Od (Y_ s i t) PySem.F.entry_int_bit_length (PySem.F.args_int_bit_length_1 _) (PySem.AutoIntG2.int_bit_length_int_0 i t) ?_;exact⟨.int (Builtin.Int.intBits i:Nat),H,I.tok _,⟨_,O⟩,q⟩
theorem QT(hc:X.calm=true):Cm X (.builtin "any") (λxs H Q=>∃(p:Y4) (bs:List Bool),xs=[.ref p]/\Ag X.K H p (bs.map V.bl)/\Q (.bl (bs.any id)) H):=by
 intro pins s σ H xs us Q I r h;obtain⟨p,bs,rfl,t,q⟩:=h;obtain⟨u,rfl,g⟩:=r.one;cases g;obtain⟨its,k,j,B⟩:=I.list t;have a:its.length=bs.length:=by rw[<-k.length,A_]
 refine call_any_walk (ZW j.isList ?_)
 have W:=Walks.list (prog:=X.prog) (w:=X.w) (A:=X.A.in1) (show X.A.in1.handled=none from I.ok.hd hc) s.heap.objs.size p (by
  obtain⟨o,e,_⟩:=j.isList
  exact Eb (Cd e)) its.toArray
 refine⟨s.heap.objs.size,_,_,_,_,_,λi=>bs.getD i false,O,W,⟨⟨_,Gv _ rfl,O,O⟩,j.isList.push _⟩,?_,λh' tk n=>?_⟩
 ·intro i v s' z C y x;have d:its[i]?=some v:=by simpa using y
  have hi:i<bs.length:=by rw[<-a];exact(Fq.mp d).1
  have hb:(bs.map V.bl)[i]?=some (.bl (bs.getD i false)):=by
   rw[Cz,GR hi,Ef,GR hi];rfl
  obtain⟨u,m,g⟩:=k.get hb;rw[d]at m;cases m;cases g;exact NZ x
 ·have e:(List.range its.toArray.size).any (λi=>bs.getD i false)=bs.any id:=by
   rw[FJ,a];rw[Uh,Uj,Uj];constructor
   ·rintro ⟨i,hi,hb⟩;have c:i<bs.length:=El.mp hi;rw[Ef,GR c]at hb;exact⟨bs[i],Uk c,hb⟩
   ·rintro ⟨b,hb,f⟩;obtain⟨i,hi,rfl⟩:=W_.mp hb;refine⟨i,El.mpr hi,?_⟩;rw[Ef,GR hi];exact f
  rw[e];refine⟨.bl (bs.any id),H,?_,O,q⟩;exact I.kept (t':=tk) λb o l=>n b o (by simp;exact Eb (Cd l)) (FP _ l)
end
end L2
namespace Am
noncomputable abbrev p2 (h:Int):Int:=2^h.toNat
theorem zP(h:Int):0<p2 h:=Wj (by decide)
theorem RV(h:Int):p2 h≠0:=by have:=zP h;lia
variable{a b:Int}
theorem VB(ha:0<=a)(hb:0<=b):p2 (a+b)=p2 a*p2 b:=by
 unfold p2;rw[show (a+b).toNat=a.toNat+b.toNat by lia,Int.pow_add]
theorem QF(hb:0<=b)(h:b<=a):p2 a=p2 (a-b)*p2 b:=by
 rw[<-VB (by lia) hb];congr 1;lia
structure Hr (a b c d h:Int):Prop where
 nn:0<=h
 odd:h=0\/a%2=1\/b%2=1\/c%2=1\/d%2=1
def Fp (x h y g:Int):Prop:=x*p2 g=y*p2 h
structure DQ (a b c d h a' b' c' d' h':Int):Prop where
 e1:Fp a h a' h'
 e2:Fp b h b' h'
 e3:Fp c h c' h'
 e4:Fp d h d' h'
variable{c d a' b' c' d' h':Int}
theorem DQ.symm{h:Int}(s:DQ a b c d h a' b' c' d' h'):DQ a' b' c' d' h' a b c d h:=⟨s.e1.symm,s.e2.symm,s.e3.symm,s.e4.symm⟩
variable{x y g:Int}
theorem Fp.trans{h z k:Int}(a:Fp x h y g)(b:Fp y g z k):Fp x h z k:=by
 unfold Fp at *;have h1:(x*p2 k)*p2 g=(z*p2 h)*p2 g:=by
  have e1:(x*p2 k)*p2 g=(x*p2 g)*p2 k:=by grind
  have e2:(z*p2 h)*p2 g=(z*p2 g)*p2 h:=by grind
  rw[e1,e2,a,<-b];grind
 exact Zk (RV g) h1
theorem DQ.trans{h a2 b2 c2 d2 h2:Int}(s:DQ a b c d h a' b' c' d' h')(t:DQ a' b' c' d' h' a2 b2 c2 d2 h2):DQ a b c d h a2 b2 c2 d2 h2 :=
 ⟨s.e1.trans t.e1,s.e2.trans t.e2,s.e3.trans t.e3,s.e4.trans t.e4⟩
theorem Fp.lift{h:Int}(hh:0<=h)(hg:h<=g)(e:Fp x h y g):y=x*p2 (g-h):=by
 unfold Fp at e;rw[QF hh hg]at e;have:(x*p2 (g-h))*p2 h=y*p2 h:=by rw[<-e];grind
 exact(Zk (RV h) this).symm
theorem aO{n:Int}(hn:0<n):(x*p2 n)%2=0:=by
 have e:p2 n=p2 (n-1)*2:=by
  rw[QF (a:=n) (b:=1) (by decide) (by lia)];rfl
 rw[e,<-Ue];lia
theorem Hr.unique_le{h:Int}(x:Hr a b c d h)(y:Hr a' b' c' d' h')(s:DQ a b c d h a' b' c' d' h')(hle:h<=h'):a=a'/\b=b'/\c=c'/\d=d'/\h=h':=by
 have e1:=s.e1.lift x.nn hle;have e2:=s.e2.lift x.nn hle;have e3:=s.e3.lift x.nn hle;have e4:=s.e4.lift x.nn hle;have f:h=h':=by
  apply Classical.byContradiction;intro e;have hp:0<h'-h:=by lia
  have o:=y.odd;rw[e1,e2,e3,e4,aO hp,aO hp,aO hp,aO hp]at o;have:=x.nn;lia
 subst f;simp only[Int.sub_self,p2,Int.toNat_zero,Int.pow_zero,Int.mul_one]at e1 e2 e3 e4;exact⟨e1.symm,e2.symm,e3.symm,e4.symm,O⟩
theorem Hr.unique{h:Int}(x:Hr a b c d h)(y:Hr a' b' c' d' h')(s:DQ a b c d h a' b' c' d' h'):a=a'/\b=b'/\c=c'/\d=d'/\h=h':=by
 rcases Int.le_total h h' with hle | hle
 ·exact x.unique_le y s hle
 ·obtain⟨e,f,g,i,j⟩:=y.unique_le x s.symm hle;exact⟨e.symm,f.symm,g.symm,i.symm,j.symm⟩
noncomputable abbrev Gi (a b c d:Int):Int:=Builtin.bitOr (Builtin.bitOr (Builtin.bitOr a b) c) d
variable{v:Nat}
theorem Ia:(2:Int)^v ∣ Gi a b c d↔((2:Int)^v ∣ a/\(2:Int)^v ∣ b/\(2:Int)^v ∣ c/\(2:Int)^v ∣ d):=by
 unfold Gi;rw[Bt.U_,Bt.U_,Bt.U_];constructor
 ·rintro ⟨⟨⟨h1,h2⟩,e⟩,f⟩;exact⟨h1,h2,e,f⟩
 ·rintro ⟨h1,h2,e,f⟩;exact⟨⟨⟨h1,h2⟩,e⟩,f⟩
theorem Ju:Gi a b c d=0↔(a=0/\b=0/\c=0/\d=0):=by
 unfold Gi;rw[Bt.pO,Bt.pO,Bt.pO];constructor
 ·rintro ⟨⟨⟨h1,h2⟩,e⟩,f⟩;exact⟨h1,h2,e,f⟩
 ·rintro ⟨h1,h2,e,f⟩;exact⟨⟨⟨h1,h2⟩,e⟩,f⟩
theorem lowest(hp:Gi a b c d≠0):∃v:Nat,((Builtin.Int.intBits (Builtin.bitAnd (Gi a b c d) (-(Gi a b c d))):Nat):Int)-1=v/\((2:Int)^v ∣ a/\(2:Int)^v ∣ b/\(2:Int)^v ∣ c/\(2:Int)^v ∣ d) /\
  ¬ ((2:Int)^(v+1) ∣ a/\(2:Int)^(v+1) ∣ b/\(2:Int)^(v+1) ∣ c/\(2:Int)^(v+1) ∣ d):=by
 obtain⟨v,q,e,o,g⟩:=Bt.X0a _ (Gi a b c d) (Oa _) hp;refine⟨v,by rw[g,Bt.X4];lia,Ia.mp ⟨q,e⟩,λh=>?_⟩;have h':=Ia.mpr h;obtain⟨k,f⟩:=h';rw[e,Uc,Ue]at f;have:=Int.eq_of_mul_eq_mul_left (PX (Wj (by decide):(0:Int)<2^v)) f;lia
theorem Z6{h m:Int}(hm:0<=m)(hmh:m<=h)(hd:(2:Int)^m.toNat ∣ x):Fp x h (x / 2^m.toNat) (h-m)/\(x / 2^m.toNat).natAbs<=x.natAbs:=by
 obtain⟨k,rfl⟩:=hd;have a:(2:Int)^m.toNat≠0:=RV m;rw[tE _ a];constructor
 ·unfold Fp;rw[QF hm hmh];show 2^m.toNat*k*p2 (h-m)=k*(p2 (h-m)*2^m.toNat);grind
 ·rw[Int.natAbs_mul];exact Nat.le_mul_of_pos_left _ (by lia)
theorem bF{m:Nat}(h:m<=v)(hd:(2:Int)^v ∣ x):(2:Int)^m ∣ x:=by
 obtain⟨k,rfl⟩:=hd;refine⟨2^(v-m)*k,?_⟩;rw[<-Ue,<-Int.pow_add,show m+(v-m)=v by lia]
theorem Xl{h:Int}(hh:0<=h)(hd:(2:Int)^v ∣ a/\(2:Int)^v ∣ b/\(2:Int)^v ∣ c/\(2:Int)^v ∣ d)
  (hn:¬ ((2:Int)^(v+1) ∣ a/\(2:Int)^(v+1) ∣ b/\(2:Int)^(v+1) ∣ c/\(2:Int)^(v+1) ∣ d)) {m:Int} (hm:m=if h<v then h else v):
  0<=m/\m<=h/\Hr (a / 2^m.toNat) (b / 2^m.toNat) (c / 2^m.toNat) (d / 2^m.toNat) (h-m)/\DQ a b c d h (a / 2^m.toNat) (b / 2^m.toNat) (c / 2^m.toNat) (d / 2^m.toNat) (h-m) /\
  ((a / 2^m.toNat).natAbs<=a.natAbs/\(b / 2^m.toNat).natAbs<=b.natAbs/\(c / 2^m.toNat).natAbs<=c.natAbs/\(d / 2^m.toNat).natAbs<=d.natAbs):=by
 have i:0<=m:=by rw[hm];split<;>lia
 have g:m<=h:=by rw[hm];split<;>lia
 have j:m.toNat<=v:=by rw[hm];split<;>lia
 obtain⟨d1,d2,s,r⟩:=hd;have p:=Z6 i g (bF j d1);have q:=Z6 i g (bF j d2);have u:=Z6 i g (bF j s);have t:=Z6 i g (bF j r);refine⟨i,g,⟨by lia,?_⟩,⟨p.1,q.1,u.1,t.1⟩,p.2,q.2,u.2,t.2⟩;by_cases hlt:h<v
 ·left;rw[hm,if_pos hlt];lia
 ·right;have l:m.toNat=v:=by rw[hm,if_neg hlt];lia
  rw[l];have e:∀x:Int,(2:Int)^v ∣ x->¬ (x / 2^v)%2=1->(2:Int)^(v+1) ∣ x:=by
   rintro x ⟨k,rfl⟩ w;have n:(2:Int)^v≠0:=PX (Wj (by decide));rw[tE _ n]at w;refine⟨k / 2,?_⟩;rw[Uc,Ue];congr 1;lia
  apply Classical.byContradiction;intro f;apply hn;refine⟨e a d1 λo=>f (.inl o),e b d2 λo=>f (.inr (.inl o)),e c s λo=>f (.inr (.inr (.inl o))),e d r λo=>f (.inr (.inr (.inr o)))⟩
end Am
namespace Pc
noncomputable def pc (n:Nat):Nat:=if h:n=0 then 0 else n%2+pc (n / 2)
theorem J1:pc 0=0:=by unfold pc;simp
theorem RJ(n:Nat):pc n=n%2+pc (n / 2):=by
 by_cases h:n=0
 ·subst h;rw[show (0 / 2:Nat)=0 from rfl,J1]
 ·conv=>lhs;unfold pc
  rw[dif_neg h]
theorem QJ(x y:Nat):(x^^^y)=2*((x / 2)^^^(y / 2))+(x%2+y%2)%2:=by
 have h1:(x^^^y) / 2=(x / 2)^^^(y / 2):=Nat.xor_div_two;have h2:(x^^^y)%2=(x%2+y%2)%2:=by
  have:=Nat.xor_mod_two_eq_one (a:=x) (b:=y);rcases Jb x with a | a<;>rcases Jb y with b | b<;>rcases Jb (x^^^y) with c | c<;>simp[a,b,c]at this ⊢
 lia
theorem pP:∀(m n:Nat),n<m->n≠0->pc (n&&&(n-1))+1=pc n
 | 0,n,h,_=>by lia
 | m+1,n,h,hn=>by
  have e:=Bt.pK n (n-1);rw[RJ n,RJ (n&&&(n-1))];rcases Jb n with a | a
  ·have e1:(n-1) / 2=n / 2-1:=by lia
   rw[e1,a,ZF]at e;have e2:(n&&&(n-1)) / 2=n / 2&&&(n / 2-1):=by lia
   have b:(n&&&(n-1))%2=0:=by lia
   rw[e2,b,a];have:=pP m (n / 2) (by lia) (by lia);lia
  ·have e1:(n-1) / 2=n / 2:=by lia
   have c:(n-1)%2=0:=by lia
   rw[e1,c,g_,Nat.and_self]at e;have e2:(n&&&(n-1)) / 2=n / 2:=by lia
   have b:(n&&&(n-1))%2=0:=by lia
   rw[e2,b,a];lia
theorem zR:∀(m x y:Nat),x<m->y<m->pc (x^^^y)%2=(pc x+pc y)%2
 | 0,x,y,h,_=>by lia
 | m+1,x,y,hx,hy=>by
  by_cases z:x=0/\y=0
  ·obtain⟨rfl,rfl⟩:=z;rw[show (0^^^0:Nat)=0 from rfl,J1]
  ·have e:=QJ x y;rw[RJ (x^^^y),RJ x,RJ y,show (x^^^y) / 2=x / 2^^^y / 2 by lia];by_cases q:x / 2<m/\y / 2<m
   ·have:=zR m (x / 2) (y / 2) q.1 q.2;lia
   ·exfalso;lia
theorem XD(x y:Nat):pc (x^^^y)%2=(pc x+pc y)%2:=zR (x+y+1) x y (by lia) (by lia)
theorem YS:∀(m x y:Nat),x<m->y<m->(x ||| y)=(x^^^y)+(x&&&y)
 | 0,x,y,h,_=>by lia
 | m+1,x,y,hx,hy=>by
  by_cases z:x=0/\y=0
  ·obtain⟨rfl,rfl⟩:=z;rfl
  ·have e:=QJ x y;have e1:=Bt.pK x y;have e2:=Bt.W2b x y;by_cases q:x / 2<m/\y / 2<m
   ·have:=YS m (x / 2) (y / 2) q.1 q.2;rcases Jb x with a | a<;>rcases Jb y with b | b<;>rw[a,b]at e e1 e2<;>lia
   ·exfalso;lia
theorem Ig(x y:Nat):Builtin.bitAnd (x:Int) (y:Int)=((x&&&y:Nat):Int):=by rw[bitAnd_pp (by lia) (by lia)];simp
theorem Ko(x y:Nat):Builtin.bitXor (x:Int) (y:Int)=((x^^^y:Nat):Int):=by
 have h:Builtin.bitXor (x:Int) (y:Int)=Builtin.bitOr x y-Builtin.bitAnd x y:=rfl;have h2:Builtin.bitOr (x:Int) (y:Int)=((x ||| y:Nat):Int):=by
  unfold Builtin.bitOr;rw[bitAnd_nn (by unfold Builtin.bitNot;lia) (by unfold Builtin.bitNot;lia),ZJ,ZJ,ZJ];simp
 rw[h,h2,Ig,YS (x+y+1) x y (by lia) (by lia)];lia
end Pc
namespace L2
theorem Same.tup{K:U0}{H H':Hp}{a:Y4}{xs:List V}(e:Same H H')(h:Ax K H a xs):Ax K H' a xs:=by
 rcases h with h | h
 ·rcases h with h | ⟨o,h⟩
  ·exact .inl (.inl (e _ _ h))
  ·exact .inl (.inr ⟨o,e _ _ h⟩)
 ·exact .inr h
variable{K:U0}{H H':Hp}{a:Y4}
theorem Same.sqx{t:Bool}{xs:List V}(e:Same H H')(h:JT t K H a xs):JT t K H' a xs:=by
 cases t
 ·exact e.seq (show Ag K H a xs from h)
 ·exact e.tup (show Ax K H a xs from h)
section
variable {X:Cx}{scope:Scope}{Nc:W5}{ex:U5}{pins:U1}{s:W1}{H:Hp}
theorem wM:Vs (Bk X scope Nc ex pins s H) (Wh X.K):=Eo
theorem VG:Vs (Bk X scope Nc ex pins s H) (Wg X.K):=BL
theorem Vb{x y:Str}{k:Nat}{p1 p2 pos:Pos}(hc:(Bk X scope Nc ex pins s H).calm=true)(hN:Nc.Nodup)(h0:Nc[0]?=some x)(h1:Nc[1]?=some y)(l0:(Bk X scope Nc ex pins s H).env.scope.names.lookup x=some .local)(l1:(Bk X scope Nc ex pins s H).env.scope.names.lookup y=some .local):
  PG (Bk X scope Nc ex pins s H) (.Tuple [.Name x p1,.Name y p2] k pos) (R9 X.K 2 (Gn (CQ 0) (Gn (CQ 1) R_))):=
 RD (X:=Bk X scope Nc ex pins s H) hc (GF (CV (i:=0) hN h0 (.inl l0) (.inr l0)) (GF (CV (i:=1) hN h1 (.inl l1) (.inr l1)) RK))
end
theorem X8u{t1 t2:Bool}{l1 l2:Y4}{g:TG}{ns ms:W0}{te:TE}{fr:St}{H1:Hp}{acc:Y4}{Q:VK}(f:Int->Int->Int)(hxy:ns.length=ms.length)(hn:ns.length<=sizeLine)
  (h1:JT t1 K H1 l1 (ns.map V.int)) (h2:JT t2 K H1 l2 (ms.map V.int)) (hacc:H1 acc=none)
  (hg:∀{a:Y4}{x y:V}{w1 w2:Option V}{H:Hp}{Q:St->Hp->Prop},H a=some (.tup [x,y])->Q (some x::some y::fr) H->g (.ref a) (w1::w2::fr) H Q)
  (hs:∀n m H (N:V->Hp->Prop),n∈ns->m∈ms->N (.int (f n m)) H->te (some (.int n)::some (.int m)::fr) H N)
  (hd:∀H2,Same H1 H2->H2 acc=some (.lst ((List.zipWith f ns ms).map V.int))->Q (.ref acc) H2):Ii (fP t1 t2 K l1 l2) g te (none::none::fr) H1 acc Q:=by
 refine W2l (xs:=ns.map V.int) (ys:=ms.map V.int) (λi zs H'=>Same H1 H'/\H' acc=some (.lst zs)/\zs=((List.zipWith f ns ms).take i).map V.int) (by simp[hxy]) (by simp;exact hn)
  ⟨Ao hacc _,Al,O⟩ (λo r=>hg o r) (λi zs H p=>⟨p.1.sqx h1,p.1.sqx h2⟩) ?_ ?_
 ·rintro i x y zs H T N k l q ⟨s2,d,e2⟩ h s;rw[Cz]at k l;obtain⟨n,b,rfl⟩:=Fz.mp k;obtain⟨m,c,rfl⟩:=Fz.mp l;refine hs n m _ _ (Ke b) (Ke c) ?_;have j:acc≠T:=λe=>by rw[<-e,d]at h;cases h
  refine s _ _ (by rw[Cj j];exact d) ⟨Dy (s2.trans (Ao h _)) hacc,Al,?_⟩;have:(List.zipWith f ns ms)[i]?=some (f n m):=by rw[List.getElem?_zipWith,b,c]
  rw[Js,this,Cg,e2];rfl
 ·rintro zs H q ⟨s2,d,e2⟩;refine hd H s2 ?_;rw[d,e2,sV];simp only[List.length_zipWith,A_];lia
section
variable {K:U0}{a:Y4}{ns:W0}{te:TE}{fr:St}{H1:Hp}{acc:Y4}{Q:VK}
theorem Xu{J:It}{n:Nat}{val:Nat->V}(f:Nat->V)(hn:n<=sizeLine)(hacc:H1 acc=none)
  (hgo:∀i H,i<n->Same H1 H->J.go i H/\∀x H',J.yld i H x H'->H'=H/\x=val i) (hst:∀H,Same H1 H->J.stop n H)
  (hs:∀i H (N:V->Hp->Prop),i<n->Same H1 H->N (f i) H->te (some (val i)::fr) H N)
  (hd:∀H2,Same H1 H2->H2 acc=some (.lst ((List.range n).map f))->Q (.ref acc) H2):Ii J (CQ 0) te (none::fr) H1 acc Q:=by
 refine fG (val:=val) (λi ys H'=>Same H1 H'/\H' acc=some (.lst ys)/\ys=(List.range i).map f) hn ⟨Ao hacc _,Al,O⟩ (λi ys H hi p=>hgo i H hi p.1) (λys H p=>hst H p.1) ?_ ?_
 ·rintro i ys H N hi c ⟨s2,a,e2⟩ b;refine hs i H N hi s2 (b _ _ a ⟨Dy s2 hacc,Al,?_⟩);rw[e2,Qv,Cg];rfl
 ·rintro ys H c ⟨s2,a,e2⟩;exact hd H s2 (by rw[a,e2])
theorem YG(ns:W0)(f:Int->V):(List.range ns.length).map (λi=>f (ns.getD i 0))=ns.map f:=by
 apply List.ext_getElem
 ·simp
 ·intro i h1 h2;simp at h1;simp[h1]
theorem wO(f:Int->V)(hl:Ag K H1 a (ns.map V.int))(hn:ns.length<=sizeLine)(hacc:H1 acc=none)(hs:∀n H (N:V->Hp->Prop),Same H1 H->N (f n) H->te (some (.int n)::fr) H N)
  (hd:∀H2,Same H1 H2->H2 acc=some (.lst (ns.map f))->Q (.ref acc) H2):Ii (K9 K a) (CQ 0) te (none::fr) H1 acc Q:=by
 refine Xu (n:=ns.length) (val:=λi=>.int (ns.getD i 0)) (λi=>f (ns.getD i 0)) hn hacc (λi H hi s=>?_) (λH s=>⟨_,s.seq hl,by simp⟩) (λi H N hi s b=>hs _ H N s b) (λH2 s h=>hd H2 s (by rw[h,YG]));have e:(ns.map V.int)[i]?=some (.int (ns.getD i 0)):=by simp[hi]
 refine⟨⟨_,_,s.seq hl,e⟩,λx H' y=>⟨y.1,?_⟩⟩;have:=y.2 _ (s.seq hl);rw[e]at this;exact(Option.some.inj this).symm
end
section
variable {X:Cx}
end
theorem qL{ns:W0}{te:TE}{fr:St}{H1:Hp}{acc:Y4}{Q:VK}(f:Int->V)(hl:Ag K H1 a (ns.map V.int))(hn:ns.length<=sizeLine)(hacc:H1 acc=none)(hs:∀n H (N:V->Hp->Prop),n∈ns->Same H1 H->N (f n) H->te (some (.int n)::fr) H N)
  (hd:∀H2,Same H1 H2->H2 acc=some (.lst (ns.map f))->Q (.ref acc) H2):Ii (K9 K a) (CQ 0) te (none::fr) H1 acc Q:=by
 refine Xu (n:=ns.length) (val:=λi=>.int (ns.getD i 0)) (λi=>f (ns.getD i 0)) hn hacc (λi H hi s=>?_) (λH s=>⟨_,s.seq hl,by simp⟩) (λi H N hi s b=>hs _ H N (by simp[hi]) s b) (λH2 s h=>hd H2 s (by rw[h,YG]));have e:(ns.map V.int)[i]?=some (.int (ns.getD i 0)):=by simp[hi]
 refine⟨⟨_,_,s.seq hl,e⟩,λx H' y=>⟨y.1,?_⟩⟩;have:=y.2 _ (s.seq hl);rw[e]at this;exact(Option.some.inj this).symm
section
variable {κ:Type} [DecidableEq κ]
noncomputable def Dq (kvs:List (κ×V))(k:κ):Option V:=(kvs.find? λkv=>decide (kv.1=k)).map (·.2)
noncomputable def putK (kvs:List (κ×V))(k:κ)(v:V):List (κ×V):=
 if (kvs.any λkv=>decide (kv.1=k))=true then kvs.map (λkv=>if kv.1=k then (kv.1,v) else kv) else kvs++[(k,v)]
theorem X1u{k:κ}:Dq ([]:List (κ×V)) k=none:=rfl
variable{p:κ×V}{r:List (κ×V)}
theorem YD{k:κ}(e:p.1=k):Dq (p::r) k=some p.2:=by simp[Dq,Ui,e]
theorem YC{k:κ}(e:¬ p.1=k):Dq (p::r) k=Dq r k:=by simp[Dq,Ui,e]
theorem n_(k:κ):∀kvs:List (κ×V),(kvs.any λa=>decide (a.1=k))=(Dq kvs k).isSome
 | []=>rfl
 | p::r=>by
  rw[Qt];by_cases e:p.1=k
  ·simp only[YD e,Ec e,Bool.true_or,Option.isSome_some]
  ·rw[YC e,Cr e,Qs];exact n_ k r
theorem uZ(kvs:List (κ×V))(k:κ)(v:V):(putK kvs k v).length<=kvs.length+1:=by
 unfold putK;split
 ·rw[A_];lia
 ·rw[Ed,Lf,List.length_nil];lia
variable{kvs:List (κ×V)}
theorem X2m{k:κ}(v:V)(h:Dq kvs k=none):putK kvs k v=kvs++[(k,v)]:=by
 unfold putK;rw[n_,h];exact if_neg (by decide)
theorem Gx.isSome_eq{o:Option V}{u:Option Value}(r:Gx o u):o.isSome=u.isSome:=by
 cases o with
 | none=>cases u with
  | none=>rfl
  | some _=>exact(show False from r).elim
 | some _=>cases u with
  | none=>exact(show False from r).elim
  | some _=>rfl
variable{vs:List (κ×Value)}
theorem KV.val(r:KV kvs vs)(k:κ):Gx (Dq kvs k) (valueAt vs k):=by
 unfold KV at r;induction r with
 | nil=>exact True.intro
 | @cons p q ps qs h t ih =>
  obtain⟨h1,h2⟩:=h;by_cases e:p.1=k
  ·have a:q.1=k:=h1.symm.trans e;have b:valueAt (q::qs) k=some q.2:=by simp[valueAt,Ui,a]
   rw[YD e,b];exact h2
  ·have a:¬ q.1=k:=λz=>e (h1.trans z);have b:valueAt (q::qs) k=valueAt qs k:=by simp[valueAt,Ui,a]
   rw[YC e,b];exact ih
theorem KV.any(r:KV kvs vs)(k:κ):(kvs.any λa=>decide (a.1=k))=vs.any λa=>decide (a.1=k):=by
 unfold KV at r;induction r with
 | nil=>rfl
 | cons h t ih=>rw[Qt,Qt,ih,h.1]
theorem KV.repl(r:KV kvs vs)(k:κ){y:V}{u:W7}(ry:RelV y u):
  KV (kvs.map λa=>if a.1=k then (a.1,y) else a) (vs.map λa=>if a.1=k then (a.1,u) else a):=by
 unfold KV at r ⊢;induction r with
 | nil=>exact .nil
 | @cons p q ps qs h t ih =>
  rw[Gh,Gh];refine .cons ?_ ih;obtain⟨h1,h2⟩:=h;by_cases e:p.1=k
  ·rw[if_pos e,if_pos (h1.symm.trans e)];exact⟨h1,ry⟩
  ·rw[if_neg e,if_neg (λz=>e (h1.trans z))];exact⟨h1,h2⟩
theorem KV.put(r:KV kvs vs)(k:κ){y:V}{u:W7}(ry:RelV y u):KV (putK kvs k y) (stored vs k u):=by
 unfold putK stored;rw[r.any k];by_cases e:(vs.any λa=>decide (a.1=k))=true
 ·rw[if_pos e,if_pos e];exact r.repl k ry
 ·rw[if_neg e,if_neg e];exact Paired.snoc r ⟨O,ry⟩
theorem KV.keys(r:KV kvs vs):kvs.map (·.1)=vs.map (·.1):=by
 unfold KV at r;induction r with
 | nil=>rfl
 | cons h t ih=>rw[Gh,Gh,ih,h.1]
theorem KV.length(r:KV kvs vs):kvs.length=vs.length:=Paired.length r
end
variable{P:W3}{w:W6}{u:W7}
theorem Vj{k:Key}(r:RelV (kV k) u):(JM P w).is k u=true:=by
 cases k with
 | inl i=>obtain⟨t,e⟩:=(show ∃t,u=Value.int i t from r);subst e;exact Y3b P w i t
 | inr x=>obtain⟨t,e⟩:=(show ∃t,u=Value.str x t from r);subst e;exact Y3a P w x t
theorem yI{P:W3}{w:W6}:∀{ks:List Key}{us:U9},Vals (ks.map kV) us->ItemsAre (JM P w) ks us
 | [],_,r=>by rw[Pa]at r;cases r;exact .nil
 | k::ks,_,r=>by
  rw[Gh]at r;cases r with
  | cons h t=>exact .cons (Vj h) (yI t)
abbrev KT (H:Hp):List (List Key×V)->List (List Key×Addr×Value)->Prop:=Paired λp q=>p.1=q.1/\H q.2.1=some (.tup (p.1.map kV))/\RelV p.2 q.2.2
variable{kvs:List (List Key×V)}
theorem KT.val{xs:List (List Key×Addr×Value)}(r:KT H kvs xs)(k:List Key):Gx (Dq kvs k) ((atKey xs k).map (·.2)):=by
 induction r with
 | nil=>exact True.intro
 | @cons p q ps qs h t ih =>
  obtain⟨h1,_,h2⟩:=h;by_cases e:p.1=k
  ·have a:q.1=k:=h1.symm.trans e;have b:atKey (q::qs) k=some q.2:=by simp[atKey,Ui,a]
   rw[YD e,b];exact h2
  ·have a:¬ q.1=k:=λz=>e (h1.trans z);have b:atKey (q::qs) k=atKey qs k:=by simp[atKey,Ui,a]
   rw[YC e,b];exact ih
variable{y:V}
theorem KT.repl{xs:List (List Key×Addr×Value)}(r:KT H kvs xs)(k:List Key)(ry:RelV y u):
  KT H (kvs.map λa=>if a.1=k then (a.1,y) else a) (xs.map (putAt k u)):=by
 induction r with
 | nil=>exact .nil
 | @cons p q ps qs h t ih =>
  rw[Gh,Gh];refine .cons ?_ ih;obtain⟨h1,h2,b⟩:=h;unfold putAt;by_cases e:p.1=k
  ·rw[if_pos e,if_pos (h1.symm.trans e)];exact⟨h1,h2,ry⟩
  ·rw[if_neg e,if_neg (λz=>e (h1.trans z))];exact⟨h1,h2,b⟩
theorem KT.put{xs:List (List Key×Addr×Value)}(r:KT H kvs xs)(k:List Key){b:Y4}(hb:H b=some (.tup (k.map kV)))(ry:RelV y u):
  KT H (putK kvs k y) (storedH xs k b u):=by
 have e:(kvs.any λa=>decide (a.1=k))=(atKey xs k).isSome:=by
  rw[n_,(r.val k).isSome_eq,Option.isSome_map]
 unfold putK storedH;rw[e];by_cases q:(atKey xs k).isSome=true
 ·rw[if_pos q,if_pos q];exact r.repl k ry
 ·rw[if_neg q,if_neg q];exact Paired.snoc r ⟨O,hb,ry⟩
theorem KT.keeps{xs:List (List Key×Addr×Value)}(r:KT H kvs xs)(ht:∀b ys,H b=some (.tup ys)->H' b=some (.tup ys)):KT H' kvs xs :=
 Paired.mapP r λ_ _ z=>⟨z.1,ht _ _ z.2.1,z.2.2⟩
section
variable {P:W3}{w:W6}{H:Hp}{h:Heap}{a:Y4}
theorem W1h{u:HO}(ok:Fb P w H h)(e:Rd H a u):Bh P w H h a u:=e.ok ok
variable{kvs:List (Key×V)}
theorem dz(ok:Fb P w H h)(e:Rd H a (.dK kvs)):kvs.length<=sizeLine/\(a == sysModules)=false/\∃vs,KV kvs vs/\h.DictOf (JM P w) a vs :=
 show Bh P w H h a (.dK kvs) from W1h ok e
theorem W3o(ok:Fb P w H h)(e:H a=some (.dK kvs)):kvs.length<=sizeLine/\(a == sysModules)=false/\∃vs,KV kvs vs/\h.DictOf (JM P w) a vs:=dz ok (.inl e)
theorem bG{ks:List Key}(ok:Fb P w H h)(e:H a=some (.tup (ks.map kV))):(tupleKind (JM P w)).is h ks a:=by
 obtain⟨_,its,r,o,h1,h2,n,b⟩:=(show Bh P w H h a (.tup (ks.map kV)) from ok a _ e);exact⟨o,its.toArray,n,h1,h2,b,by simpa using yI r⟩
variable{kvs:List (List Key×V)}
theorem d_(ok:Fb P w H h)(e:Rd H a (.dT kvs)):kvs.length<=sizeLine/\(a == sysModules)=false /\
  ∃xs,KT H kvs xs/\h.DictOfH (tupleKind (JM P w)) a xs:=by
 obtain⟨z,y,xs,r,o,es,ep,h1,h2,d,c,f⟩:=(show Bh P w H h a (.dT kvs) from W1h ok e);refine⟨z,y,xs,r,o,es,ep,h1,h2,d,c,λx b=>?_,f⟩;have all:∀{l:List (List Key×V)}{m:List (List Key×Addr×Value)},KT H l m->∀x∈m,(tupleKind (JM P w)).is h x.1 x.2.1:=by
  intro l m q;induction q with
  | nil=>intro x b;exact nomatch b
  | @cons p q ps qs hq t ih =>
   intro x b;rcases Dw.mp b with e | b
   ·subst e;exact bG ok (by rw[<-hq.1];exact hq.2.1)
   ·exact ih x b
 exact all r x b
theorem W6c(ok:Fb P w H h)(e:H a=some (.dT kvs)):kvs.length<=sizeLine/\(a == sysModules)=false /\
  ∃xs,KT H kvs xs/\h.DictOfH (tupleKind (JM P w)) a xs:=d_ ok (.inl e)
end
def IK (H:Hp)(a:Y4)(y:V)(r:Option V):Prop :=
 (∃kvs k,Rd H a (.dK kvs)/\y=kV k/\r=Dq kvs k)\/∃kvs k b,Rd H a (.dT kvs)/\y=.ref b/\H b=some (.tup (k.map kV))/\r=Dq kvs k
def N5 (H:Hp)(a:Y4)(y v:V)(H':Hp):Prop :=
 (∃kvs k,H a=some (.dK kvs)/\y=kV k/\kvs.length<sizeLine/\H'=upd H a (.dK (putK kvs k v))) \/
 ∃kvs k b,H a=some (.dT kvs)/\y=.ref b/\H b=some (.tup (k.map kV))/\kvs.length<sizeLine/\H'=upd H a (.dT (putK kvs k v))
variable{kvs:List (Key×V)}
theorem IK.k{k:Key}(e:H a=some (.dK kvs)):IK H a (kV k) (Dq kvs k):=.inl ⟨kvs,k,.inl e,O,O⟩
theorem N5.k{k:Key}{v:V}(e:H a=some (.dK kvs))(hl:kvs.length<sizeLine):N5 H a (kV k) v (upd H a (.dK (putK kvs k v))):=.inl ⟨kvs,k,e,O,hl,O⟩
section
variable {X:Cx}{pins:U1}{σ:St}{H:Hp}{s:W1}{a:Y4}{y v:V}{u r:W7}{o:Option V}{A:Y1}{E:U3}
theorem Inv.big(I:Inv X pins σ H s):sysModules<s.heap.objs.size:=by
 have h:mainGlobals<s.heap.objs.size:=(I.mod.glob.keeps I.bk).lt;exact Rk (by decide) h
theorem X0z{Q:U3}(hu:A.units+1<cLine)(I:Inv X pins σ H s)(g:IK H a y (some v))(ry:RelV y u)(h:∀f s',Inv X pins σ H s'->RelV v f->Q f s'):
  wpAny (model X.prog X.w) A (getItem (.ref a) u) Q E s:=by
 rcases g with ⟨kvs,k,e,ey,l⟩ | ⟨kvs,k,b,e,ey,eb,l⟩
 ·subst ey;obtain⟨z,hd,vs,d,dd⟩:=dz I.hok e;obtain⟨f,i,c⟩:=Gx.some_of (v:=v) (o:=valueAt vs k) (by rw[l];exact d.val k);exact wpAny_getItem_of (Vj ry) dd.mapOf i (h f _ (I.tok _) c)
 ·subst ey;cases (show u=Value.ref b from ry);obtain⟨z,hd,xs,d,dd⟩:=d_ I.hok e;obtain⟨f,i,c⟩:=Gx.some_of (v:=v) (o:=(atKey xs k).map (·.2)) (by rw[l];exact d.val k);obtain⟨p,hp,j⟩:=Fz.mp i;refine wpAny_getItem_heap (jK hu) (bG I.hok eb) dd hp ?_;rw[j];exact h f _ (I.tok _) c
theorem nF{Q:U3}(hu:A.units+1<cLine)(I:Inv X pins σ H s)(g:IK H a y o)(ry:RelV y u)(h:∀s',Inv X pins σ H s'->Q (.bool o.isSome) s'):
  wpAny (model X.prog X.w) A (compareOp .In u (.ref a)) Q E s:=by
 rcases g with ⟨kvs,k,e,ey,l⟩ | ⟨kvs,k,b,e,ey,eb,l⟩
 ·subst ey;obtain⟨z,hd,vs,c,dd⟩:=dz I.hok e;refine wpAny_in_of (Vj ry) hd dd.mapOf ?_;rw[<-(c.val k).isSome_eq,<-l];exact h _ (I.tok _)
 ·subst ey;cases (show u=Value.ref b from ry);obtain⟨z,hd,xs,c,dd⟩:=d_ I.hok e;refine wpAny_in_heap (jK hu) (bG I.hok eb) hd dd ?_;have q:=(c.val k).isSome_eq;rw[Option.isSome_map]at q;rw[<-q,<-l];exact h _ (I.tok _)
theorem _4{h':Heap}{t':Nat}{ob:HO}(I:Inv X pins σ H s)(mu:Yn (H a))(hs:Heap.SameBut a s.heap h')(he:∃q,h'.get? a=some q)(new:Bh X.prog X.w (upd H a ob) h' a ob):
  Inv X pins σ (upd H a ob) {s with heap:=h',toks:=t'} :=
 I.write (x:=a) (e:=a) mu (.inl rfl) (λb q hb z=>(hs.2 b hb).trans z) he new
theorem W3p{h':Heap}{vs:List (Key×Value)}(z:kvs.length<=sizeLine)(hd:(a == sysModules)=false)(rel:KV kvs vs)(dd:h'.DictOf (JM P w) a vs):
  Bh P w H' h' a (.dK kvs):=⟨z,hd,vs,rel,dd⟩
theorem X0y{Q:Unit->Shared->Prop}(hu:A.units+1<cLine)(I:Inv X pins σ H s)(g:N5 H a y v H')(ry:RelV y u)(rv:RelV v r)(h:∀s',Inv X pins σ H' s'->Q () s'):
  wpAny (model X.prog X.w) A (setItem (.ref a) u r) Q E s:=by
 rcases g with ⟨kvs,k,e,ey,l,eH⟩ | ⟨kvs,k,b,e,ey,eb,l,eH⟩
 ·subst ey eH;obtain⟨z,hd,vs,d,dd⟩:=W3o I.hok e;have j:vs.length<=sizeLine:=by rw[<-d.length];exact z
  have m:(putK kvs k v).length<=sizeLine:=by have:=uZ kvs k v;lia
  refine wpAny_setItem_pairs (hsz:=j) (Vj ry) dd λh' f n=>h _ ?_;have x:∃q,h'.get? a=some q:=let ⟨q,_,_,i,_⟩:=f;⟨q,i⟩;exact _4 I (by rw[e];exact True.intro) n x (W3p m hd (d.put k rv) f)
 ·subst ey eH;cases (show u=Value.ref b from ry);obtain⟨z,hd,xs,d,dd⟩:=W6c I.hok e;have j:xs.length<=sizeLine:=by rw[<-Paired.length d];exact z
  have m:(putK kvs k v).length<=sizeLine:=by have:=uZ kvs k v;lia
  refine wpAny_setItem_heap (hsz:=j) (jK hu) (bG I.hok eb) dd λh' f n=>h _ ?_;obtain⟨q,es,ep,i,h2,B,t,_,p⟩:=f;refine _4 I (by rw[e];exact True.intro) n ⟨q,i⟩ ⟨m,hd,_,(d.put k eb rv).keeps λc ys o=>?_,q,es,ep,i,h2,B,t,p⟩;rw[Cj (Lw o e (λz=>nomatch z))];exact o
end
section
variable {X:Cx}{pins:U1}{σ:St}{H:Hp}{s:W1}{a:Y4}{kvs:List (Key×V)}{k:Key}{u:W7}{A:Y1}{E:U3}
end
def UG (i:Expr):Prop:=∀ov iv,subscripted i false ov iv=operate [ov,iv] (getItem ov iv)
theorem vh{prog:W3}{A:Y1}{E:U3}{s:W1}{env:Env}{value slice:Expr}{pos:Pos}{T id:String}{Q:U3}
  (hl:typeLookup (.type T) "__getitem__"=pure (some (.builtin id))) (hs:UG slice)
  (h:wpAny (model prog w) A (eval value env) (λo d=>wpAny (model prog w) A (eval slice env) (λi s₂=>s₂.TypeIs o T/\wpAny (model prog w) A (getItem o i) Q E s₂) E d) E s):
  wpAny (model prog w) A (eval (.Subscript value slice pos) env) Q E s:=by
 refine Subscript_ (GK h (λo d f=>GK f (λi s₂ b=>?_) λ_ _ x=>x) λ_ _ x=>x);obtain⟨c,b⟩:=b;unfold subscriptTail;refine Bw ?_;rw[getitemInPython_of_ne c.not_modules];refine Bw (wpAny_specialOf c hl ?_);have a:wpAny (model prog w) A (subscripted slice false o i) (λr e=>wpAny (model prog w) A (letTemporaryGo value o r >>= λ_=>pure r) Q E e) E s₂:=by
  rw[hs o i];exact wpAny_operating (GK b (λr e g=>Bw (wpAny_letTemporaryGo (Cq g))) λ_ _ x=>x)
 first
  | exact Cq (Bw a)
  | exact Bw (Cq (Bw a))
  | exact Bw a
theorem Y3g{X:Cx}{pins:U1}{σ:St}{s:W1}{o:Option V}(I:Inv X pins σ H s)(g:IK H a y o):s.TypeIs (.ref a) "dict":=by
 rcases g with ⟨kvs,k,e,_,_⟩ | ⟨kvs,k,b,e,_,_,_⟩
 ·obtain⟨_,_,vs,_,dd⟩:=dz I.hok e;exact dd.typeIs
 ·obtain⟨_,_,xs,_,dd⟩:=d_ I.hok e;exact dd.typeIs
def WT (td ty:TE):TE:=λσ H Q=>td σ H λx H1=>ty σ H1 λy H2=>∃a v,x=.ref a/\IK H2 a y (some v)/\Q v H2
def gJ (ty td:TE):TE:=λσ H Q=>ty σ H λy H1=>td σ H1 λx H2=>∃a o,x=.ref a/\IK H2 a y o/\Q (.bl o.isSome) H2
def Wb (td ty tv:TE):TS:=λD σ H=>tv σ H λv H1=>td σ H1 λx H2=>ty σ H2 λy H3=>∃a H4,x=.ref a/\N5 H3 a y v H4/\D.nx σ H4
section
variable {X:Cx}{o i e value:Expr}{pos pos' tpos:Pos}{td ty tv:TE}
theorem vM(hu:X.A.units+1<cLine)(ho:PE X o td)(hi:PE X i ty)(hs:UG i):PE X (.Subscript o i pos) (WT td ty):=by
 intro pins s σ H Q I h;refine vh tV.lookup hs (Bm (ho pins s σ H _ I h) λu l ⟨x,H1,m,k,d⟩=>Bm (hi pins l σ H1 _ m d) λp s2 ⟨y,H2,c,f,a,v,ex,g,e⟩=>?_);subst ex;obtain rfl:u=Value.ref a:=k;exact⟨Y3g c g,X0z hu c g f λn s3 j b=>⟨v,H2,j,b,e⟩⟩
theorem W1m(hu:X.A.units+1<cLine)(hi:PE X i ty)(ho:PE X o td):PC X .In i o (gJ ty td):=by
 intro pins s σ H Q I h;refine Bm (hi pins s σ H _ I h) λn k ⟨y,H1,m,d,b⟩=>Bm (ho pins k σ H1 _ m b) λu s2 ⟨x,H2,l,j,a,f,ex,g,c⟩=>?_;subst ex;obtain rfl:u=Value.ref a:=j;exact nF hu l g d λs3 e=>⟨.bl f.isSome,H2,e,O,c⟩
theorem X7i(hu:X.A.units+1<cLine)(ho:PE X o td)(hi:PE X i ty)(hv:PE X value tv)(hs:swapsWith value (some (.Subscript o i pos')) pos.line X.env=pure false):
  PS X (.Assign [.Subscript o i pos'] value pos) (Wb td ty tv):=by
 intro pins s σ H D I h;refine wpAny_Assign_Subscript (Bm (hv pins s σ H _ I h) λr l ⟨v,H1,q,j,b⟩=>Bm (ho pins l σ H1 _ q b) λu s2 ⟨x,H2,p,k,c⟩=>Bm (hi pins s2 σ H2 _ p c) λw s3 ⟨y,t,f,d,a,e,ex,g,m⟩=>?_) hs;subst ex;obtain rfl:u=Value.ref a:=k;exact X0y hu f g d j λs4 n=>⟨σ,e,n,m⟩
end
theorem X4m(h:Heap)(hb:sysModules<h.objs.size):Bh P w H (h.push { cls:=.type "dict",data:=.dict #[]}) h.objs.size (.dK []):=
 ⟨Fy _,beq_eq_false_iff_ne.mpr (Ne.symm (Eb hb)),[],.nil,Heap.DictOf.new h⟩
def Rf:TE:=λ_ H Q=>∀p,H p=none->Q (.ref p) (upd H p (.dK []))
section
variable {X:Cx}{pos:Pos}
theorem X2t:PE X (.Dict [] [] pos) Rf:=λpins s σ H Q I h =>
 wpAny_Dict_empty ⟨.ref s.heap.objs.size,_,I.laid (a:=s.heap.objs.size) (o:=.dK []) (t':=s.toks) (λ_ _ q=>FP _ q) (CT _) (X4m s.heap I.big),O,h _ (I.hok.fresh (CT _))⟩
end
section
variable {X:Cx}{pins:U1}{σ:St}{H:Hp}{s:W1}{a:Y4}{y d:V}{u r:W7}{o:Option V}{A:Y1}{E:U3}
end
section
variable {X:Cx}{o e f:Expr}{apos cpos:Pos}{td ty tx:TE}
end
end L2
namespace L2
def Ku (i j:Int):Prop:=∃a b,Sz a i/\Sz b j/\a+b<=100000000
theorem Ku.ok{i j:Int}(h:Ku i j):IntMulOk i j:=by
 obtain⟨a,b,h1,h2,c⟩:=h;have e1:=h1.bits;have e2:=h2.bits;unfold IntMulOk
 rw[show Builtin.Int.intTooBig (Builtin.Int.intBits i+Builtin.Int.intBits j)=false by
  unfold Builtin.Int.intTooBig
  have:bitsLine=134217728:=rfl
  rw[this]
  exact Cr (by lia)]
 simp
section
variable {X:Cx}
theorem JN:Ei X (binaryOp .Mult) (rI Ku λi j=>.int (i*j)):=Q6 λ_ _ _ _ _ _ _ a q=>mul_int q a.ok
theorem YF(hc:X.calm=true):Cm X (.builtin "all") (λxs H Q=>∃(p:Y4) (bs:List Bool),xs=[.ref p]/\Ag X.K H p (bs.map V.bl)/\Q (.bl (bs.all id)) H):=by
 intro pins s σ H xs us Q I r h;obtain⟨p,bs,rfl,n,q⟩:=h;obtain⟨u,rfl,f⟩:=r.one;cases f;obtain⟨its,j,g,B⟩:=I.list n;have a:its.length=bs.length:=by rw[<-j.length,A_]
 refine call_all_walk (ZW g.isList ?_)
 have W:=Walks.list (prog:=X.prog) (w:=X.w) (A:=X.A.in1) (show X.A.in1.handled=none from I.ok.hd hc) s.heap.objs.size p (by
  obtain⟨o,e,_⟩:=g.isList
  exact Eb (Cd e)) its.toArray
 refine⟨s.heap.objs.size,_,_,_,_,_,λi=>bs.getD i false,O,W,⟨⟨_,Gv _ rfl,O,O⟩,g.isList.push _⟩,?_,λh' tk m=>?_⟩
 ·intro i v s' y C x t;have d:its[i]?=some v:=by simpa using x
  have hi:i<bs.length:=by rw[<-a];exact(Fq.mp d).1
  obtain⟨u,l,f⟩:=j.get (show (bs.map V.bl)[i]?=some (.bl (bs.getD i false)) by simp[hi]);rw[d]at l;cases l;cases f;exact NZ t
 ·have e:(List.range its.toArray.size).all (λi=>bs.getD i false)=bs.all id:=by
   rw[FJ,a,Uh,Gz,Gz];constructor
   ·intro z b hb;obtain⟨i,hi,rfl⟩:=W_.mp hb;have:=z i (El.mpr hi);simpa [hi] using this
   ·intro z i hi;have c:i<bs.length:=El.mp hi;have:=z bs[i] (Uk c);simpa [c] using this
  rw[e];refine⟨.bl (bs.all id),H,?_,O,q⟩;exact I.kept (t':=tk) λb o k=>m b o (by simp;exact Eb (Cd k)) (FP _ k)
end
section
variable {P:W3}{w:W6}{H:Hp}{h:Heap}
end
section
variable {X:Cx}
theorem uX:∀xs:List (List Int),PyData.canLayAll0 (xs.map λns=>PyData.tuple (ns.map PyData.int))=true
 | []=>by simp[PyData.canLayAll0]
 | n::r=>by simp[PyData.canLayAll0,PyData.canLay0,uX r,tD n]
theorem uK:∀xs:List (List Int),PyData.depthAll (xs.map λns=>PyData.tuple (ns.map PyData.int))<=2
 | []=>by simp[PyData.depthAll]
 | n::r=>by
  have h1:=uK r;have h2:=sJ n;simp only[Gh,PyData.depthAll,PyData.depth];lia
theorem ak(xs:List (List Int)):SeqAt.shaped (.list (xs.map λns=>PyData.tuple (ns.map PyData.int)))=true:=by
 have h2:PyData.depth (.list (xs.map λns=>PyData.tuple (ns.map PyData.int)))<=64:=by
  have:=uK xs;simp only[PyData.depth];lia
 show (PyData.canLay0 _ && decide _)=true;rw[HX];exact⟨by simp only[PyData.canLay0];exact uX xs,Ec h2⟩
theorem oN:∀xs ys:List (List Int),SeqAt.noMixAll (xs.map λns=>PyData.tuple (ns.map PyData.int)) (ys.map λns=>PyData.tuple (ns.map PyData.int))=true
 | [],[]=>by simp[SeqAt.noMixAll]
 | [],_::_=>by simp[SeqAt.noMixAll]
 | _::_,[]=>by simp[SeqAt.noMixAll]
 | n::r,m::q=>by
  simp only[Gh,SeqAt.noMixAll,SeqAt.noMix,HX];exact⟨jJ n m,oN r q⟩
theorem oJ:∀xs ys:List (List Int),PySem.Spec.sameAll (xs.map λns=>PyData.tuple (ns.map PyData.int)) (ys.map λns=>PyData.tuple (ns.map PyData.int))=decide (xs=ys)
 | [],[]=>by simp[PySem.Spec.sameAll]
 | [],_::_=>by simp[PySem.Spec.sameAll]
 | _::_,[]=>by simp[PySem.Spec.sameAll]
 | n::r,m::q=>by
  simp only[Gh,PySem.Spec.sameAll,PySem.Spec.same,jC,oJ r q];by_cases e:n=m<;>simp[e]
end
section
variable {X:Cx}{scope:Scope}{Nc:W5}{ex:U5}{pins:U1}{s:W1}{H:Hp}
theorem X7(hu:X.A.units+64<cLine):Ei (Bk X scope Nc ex pins s H) (compareOp .NotEq) (M7 X.K true):=vK hu
end
end L2
namespace Ba
open L2 Am Pc
noncomputable abbrev T5 (a b c d h:Int):HO:=.tup [.int a,.int b,.int c,.int d,.int h]
structure Red (a b c d h x y z u g:Int):Prop where
 amt:Hr x y z u g
 same:DQ a b c d h x y z u g
 s1:x.natAbs<=a.natAbs
 s2:y.natAbs<=b.natAbs
 s3:z.natAbs<=c.natAbs
 s4:u.natAbs<=d.natAbs
 le:g<=h
structure L_ (n:Nat) (a b c d:Int):Prop where
 z1:Sz n a
 z2:Sz n b
 z3:Sz n c
 z4:Sz n d
variable{a b c d x y z u g:Int}{n:Nat}
theorem Red.sz{h:Int}(r:Red a b c d h x y z u g)(s:L_ n a b c d):L_ n x y z u:=⟨s.z1.le r.s1,s.z2.le r.s2,s.z3.le r.s3,s.z4.le r.s4⟩
theorem L_.mono{m:Nat}(s:L_ m a b c d)(h:m<=n):L_ n a b c d:=⟨s.z1.mono h,s.z2.mono h,s.z3.mono h,s.z4.mono h⟩
noncomputable def Dl:Nat->Int×Int×Int×Int->Int×Int×Int×Int
 | 0,v=>v
 | n+1,v=>let (a,b,c,d):=Dl n v;(-d,a,b,c)
noncomputable abbrev T4 (v:Int×Int×Int×Int)(h:Int):HO:=T5 v.1 v.2.1 v.2.2.1 v.2.2.2 h
abbrev A5:=(Int×Int×Int×Int)×Int
noncomputable abbrev tA (x:A5):HO:=T4 x.1 x.2
noncomputable def D_ (x:A5)(k:Int):A5:=(Dl (k%8).toNat x.1,x.2)
structure FN (n:Nat) (m:Int) (x:A5):Prop where
 sz:L_ n x.1.1 x.1.2.1 x.1.2.2.1 x.1.2.2.2
 amt:Hr x.1.1 x.1.2.1 x.1.2.2.1 x.1.2.2.2 x.2
 le:x.2<=m
theorem FN.mono{n':Nat}{m m':Int}{x:A5}(o:FN n m x)(h:n<=n')(h':m<=m'):FN n' m' x:=⟨o.sz.mono h,o.amt,ZD o.le h'⟩
theorem bJ{n:Nat}{m:Int}{v:Int×Int×Int×Int}{h:Int}(o:FN n m (v,h)):∀k,FN n m (Dl k v,h)
 | 0=>o
 | k+1=>by
  have:=bJ o k;show FN n m ((-(Dl k v).2.2.2,(Dl k v).1,(Dl k v).2.1,(Dl k v).2.2.1),h);refine⟨⟨this.sz.z4.neg,this.sz.z1,this.sz.z2,this.sz.z3⟩,⟨this.amt.nn,?_⟩,this.le⟩;have o:h=0\/(Dl k v).1%2=1\/(Dl k v).2.1%2=1\/(Dl k v).2.2.1%2=1\/(Dl k v).2.2.2%2=1:=this.amt.odd;show h=0\/(-(Dl k v).2.2.2)%2=1\/(Dl k v).1%2=1\/(Dl k v).2.1%2=1\/(Dl k v).2.2.1%2=1;lia
noncomputable def l5 (x:A5):List Int:=[x.1.1,x.1.2.1,x.1.2.2.1,x.1.2.2.2,x.2]
structure Hv (a b c d h x y z u g:Int):Prop where
 same:DQ a b c d h x y z u g
 s1:x.natAbs<=a.natAbs
 s2:y.natAbs<=b.natAbs
 s3:z.natAbs<=c.natAbs
 s4:u.natAbs<=d.natAbs
 le:g<=h
 nn:0<=g
theorem Hv.red{h:Int}(v:Hv a b c d h x y z u g)(o:g=0\/x%2=1\/y%2=1\/z%2=1\/u%2=1):Red a b c d h x y z u g:=⟨⟨v.nn,o⟩,v.same,v.s1,v.s2,v.s3,v.s4,v.le⟩
theorem dg(hx:x%2=0)(hg:0<g):Fp x g (x / 2) (g-1):=by
 unfold Fp;have e:p2 g=p2 (g-1)*2:=by rw[QF (a:=g) (b:=1) (by decide) (by lia)];rfl
 rw[e];have:x=2*(x / 2):=by lia
 generalize x / 2=y at *;subst this;grind
theorem Hv.half{h:Int}(v:Hv a b c d h x y z u g)(hg:0<g)(e:x%2=0/\y%2=0/\z%2=0/\u%2=0):Hv a b c d h (x / 2) (y / 2) (z / 2) (u / 2) (g-1):=by
 obtain⟨e1,e2,f,i⟩:=e;have:=v.s1;have:=v.s2;have:=v.s3;have:=v.s4;have:=v.le;exact⟨v.same.trans ⟨dg e1 hg,dg e2 hg,dg f hg,dg i hg⟩,by lia,by lia,by lia,by lia,by lia,by lia⟩
noncomputable def cell (ns:W0)(i:Int):Int:=if i<ns.length then ns.getD i.toNat 0 else 0
def Cy:Sp:=λvs H Q _=>∃n:Nat,vs=[.int n]/\Q (.int (pc n)) H
def Jq (K:U0):Sp:=λvs H Q _=>∃(a:Y4) (ns:W0) (i:Int),vs=[.ref a,.int i]/\Ag K H a (ns.map V.int)/\0<=i/\Q (.int (cell ns i)) H
def QM:Sp:=λvs H Q _=>∃i:Int,vs=[.int i]/\Q (.bl true) H
def Mg:Sp:=λvs H Q _=>∃(l:Y4) (a b c d h:Int),vs=[.ref l,.int h]/\H l=some (.lst ([a,b,c,d].map V.int))/\0<=h/\∀(p:Y4) (H':Hp) (x y z u g:Int),Same H H'->H' p=some (T5 x y z u g)->Red a b c d h x y z u g->Q (.ref p) H'
theorem W3y{ns:W0}{i:Int}(h0:0<=i)(h:i<ns.length):HF (ns.map V.int) i=some (.int (ns.getD i.toNat 0)):=by
 have a:i.toNat<ns.length:=by lia
 have b:i=((i.toNat:Nat):Int):=by lia
 have q:HF (ns.map V.int) ((i.toNat:Nat):Int)=some (.int ns[i.toNat]):=Ol (by rw[Cz,GR a]<;>rfl);rw[<-b]at q;rw[q,Ef,GR a];rfl
theorem t2:2<=sizeLine:=by decide
theorem t3:3<=sizeLine:=by decide
theorem t4:4<=sizeLine:=by decide
theorem t5:5<=sizeLine:=by decide
theorem Dz(h:n<=64):n<=sizeLine:=Ek h (by decide)
theorem Dr(h:n<=6):2^n<=64:=Ek (G3 (by decide) h) (by decide)
theorem ipow(n:Nat):(1:Int)*2^((n:Int).toNat)=((2^n:Nat):Int):=by simp
theorem GJ:Sz 1 1:=by decide +kernel
theorem Uv:(0:Int)<2:=by decide
theorem XH:(0:Int)<4:=by decide
theorem p_5:(0:Int)<5:=by decide
theorem jX:(0:Int)<7:=by decide
theorem Zm:(0:Int)<8:=by decide
theorem XF:(0:Int)<40:=by decide
theorem Tt:(0:Int)<2147483647:=by decide
theorem qy(K:U0):PySem.W.kitOne K (.type "tuple") (.type "tuple")=some true:=by unfold PySem.W.kitOne;rw[if_pos (by decide)]
theorem qu(K:U0):PySem.W.kitOne K (.type "list") (.type "list")=some true:=by unfold PySem.W.kitOne;rw[if_pos (by decide)]
end Ba
namespace Ar
open L2 Am Pc Ba
noncomputable def top (i:Nat):Stmt:=PySem.Challenge.pw_spinboard_k82_guarded_and_back.main.body.getD i (.Pass ⟨0,0,0,0⟩)
structure Bs (mg:U6):Prop where
 isinstance:mg "isinstance"=none
 int:mg "int"=none
 bool:mg "bool"=none
 tuple:mg "tuple"=none
 list:mg "list"=none
 len:mg "len"=none
 range:mg "range"=none
 all:mg "all"=none
 any:mg "any"=none
 max:mg "max"=none
 min:mg "min"=none
 zip:mg "zip"=none
 set:mg "set"=none
 str:mg "str"=none
 enumerate:mg "enumerate"=none
 reversed:mg "reversed"=none
section
variable {P:W3}{w:W6}{K:U0}{mg:U6}{base:Heap}{k:Nat}{h:Heap}
theorem X8d(F:Ab K "_law_cell_at" (top 87) .none)(X:K.In h)(G:Ng h mg)(B:Bs mg):Ai P w K mg base (k+1) "_law_cell_at" ["_law_script","_law_k"] (Jq K):=by
 refine F.cal X G ["_law_script","_law_k"] λg H vs Q E f h=>?_;obtain⟨a,ns,i,rfl,b,e,q⟩:=h
 refine⟨_,(@Av _ _ _ _ _ (B_ (CP Og (pv 1) (CG Eh rfl B.len EY (Aa (pv 0) Ae)) (Ad _))
   (@Aj _ _ _ (BJ (Aw Eo (pv 0) (pv 1) (λ_ _=>rfl))))
   CJ)
  (@Aj _ _ _ (BJ Ac))),?_⟩
 try dsimp only[CN]
 have d:(ns.map V.int).length=ns.length:=A_ _;refine⟨_,O,_,O,a,_,O,.inl b,_,_,O,O,_,O,BP (λc=>?_) (λc=>?_)⟩
 ·rw[d]at c;refine⟨_,O,_,O,a,_,_,_,O,O,b,W3y e c,?_⟩;unfold cell at q;rw[if_pos c]at q;exact q
 ·rw[d]at c;unfold cell at q;rw[if_neg c]at q;exact q
end
end Ar
noncomputable section
namespace Ar
open L2
namespace Hd
open PySem.W
set_option maxHeartbeats 0
noncomputable abbrev pr:Program:=PySem.Challenge.pw_spinboard_k82_guarded_and_back
abbrev kh:=PyData.keyHash
noncomputable def nG (s:Stmt):Pos:=match s with
 | .FunctionDef _ _ _ _ _ _ _ _ _ p=>p
 | _=>⟨0,0,0,0⟩
noncomputable def life:Life:=(Life.mk [] [] [] 0 [] [] false #[] [] 0 false false false 0 [2000,10,10] false 0 true [] [] 0 false)
noncomputable def en:Env:={ scope:=pr.main.scope,locals:=mainNs,globals:=mainNs,cells:=[],code:=(.ref 13),frame:=some 14}
noncomputable def dn (P:Params)(x:Str)(t:Nat)(v:W7):DictEntry:=DictEntry.mk (kh P x) (.str x t) v
noncomputable def Ln (n:Str)(t1:Nat)(q:Str)(t2 t3:Nat)(i1 i2 i3 i4 i5:Int)(r1:Y4)(b:Bool)(i6:Int)(r2:Y4)(v1 v2 v3:W7)(i7 i8:Int)(t4:Nat):Obj:=Obj.mk (.type "code") none (Data.fields #[.str n t1,.str q t2,.str "/claim/cut.py" t3,.int i1 0,.int i2 0,.int i3 0,.int i4 0,.int i5 0,.ref r1,.bool b,.int i6 0,.ref r2,.none,v1,v2,v3,.int i7 0,.int i8 0,.str "/claim/cut.py" t4]) #[]
noncomputable def Zv (n q:Str)(s:Stmt)(k j:Nat):Obj:=Obj.mk .none none (Data.func (FuncData.mk n q (HN s) (FuncBody.stmts (Gb s)) (DG s) k [] .none .none .none .none none .none .none j)) #[]
noncomputable def Uw (n q:Str)(s:Stmt)(k:Nat)(m:Str)(t:Nat)(c:Y4)(j:Nat):Obj:=Obj.mk (.type "function") none (Data.func (FuncData.mk n q (HN s) (FuncBody.stmts (Gb s)) (DG s) k [] .none .none .none (.str m t) none (.ref c) .none j)) #[]
noncomputable def sq0 (T:String)(n:Nat):Obj:=Obj.mk (.type T) none (Data.seq #[] n) #[]
noncomputable def tq (a:W4):Obj:=Obj.mk (.type "tuple") none (Data.seq a 0) #[]
noncomputable def Ni:Obj:=Obj.mk .none none (Data.fields #[]) #[]
abbrev Pz:=Params
noncomputable abbrev tz:Obj:=sq0 "tuple" 0
noncomputable def iL (t:BT):List (Nat×Obj)->BT
 | []=>t
 | x::l=>iL (t.ins x.1 x.2) l
noncomputable def iF (t:BT):Nat->List Obj->BT
 | _,[]=>t
 | n,x::l=>iF (t.ins n x) (n+1) l
noncomputable def Fl (l:List DictEntry)(n:Nat):Obj:=Obj.mk (.type "dict") none (Data.dict (Array.mk l) n) #[]
noncomputable def Ea (l:U9):Obj:=Obj.mk .none none (Data.fields (Array.mk l)) #[]
noncomputable def nt:Nat->List Str->List Value
 | _,[]=>[]
 | t,x::l=>.str x t::nt (t+1) l
noncomputable def dd (m:Str)(mt:Nat)(n:Str)(i:Nat)(l k:Int)(a t:Nat):List Str->List Obj
 | []=>[tz,Ni,Zv n n (top i) 0 0,Ln n t n (t+1) (t+2) l k 0 0 3 a true 181 (a+1) .none .none (.ref (a+2)) ((t+3:Nat):Int) l (t+4),Uw n n (top i) 3 m mt (a+3) 0]
 | x::xs=>[tz,Ni,Obj.mk (.type "tuple") none (Data.seq (Array.mk (nt (t+3) (x::xs))) 0) #[],tz,Zv n n (top i) 0 0,Ln n t n (t+1) (t+2) l k 0 0 3 a true 181 (a+1) (.ref (a+2)) (.ref (a+3)) (.ref (a+4)) ((t+4+xs.length:Nat):Int) l (t+5+xs.length),Uw n n (top i) 3 m mt (a+5) 0]
noncomputable def co (n:Str)(A t:Nat):Obj:=Obj.mk (.type "type") none (Data.cls (ClassData.mk n [(.ref 24)] [(.ref (A+9)),(.ref 24),(.type "ValueError"),(.type "Exception"),(.type "BaseException"),(.type "object")] (A+8) n true [] [] false none false)) #[(some (.ref A)),none,(some (.str n t)),(some (.str n (t+8))),(some (.builtin "ValueError.__new__")),(some (.bool true))]
noncomputable def Lp (l:W8):Obj:=Obj.mk (.type "type") none (Data.cls (ClassData.mk "BoardError" [(.type "ValueError")] [(.ref 24),(.type "ValueError"),(.type "Exception"),(.type "BaseException"),(.type "object")] 23 "BoardError" true [] (l.map Value.ref) false none false)) #[(some (.ref 15)),none,(some (.str "BoardError" 189)),(some (.str "BoardError" 197)),(some (.builtin "ValueError.__new__")),(some (.bool true))]
noncomputable def de0 (n:Str)(i:Nat)(l k:Int)(a t:Nat)(ns:W5):List Obj:=dd "spinboard.shares" 412 n i l k a t ns
noncomputable def Uy (n:Str)(i:Nat)(l k:Int)(a t:Nat)(ns:W5):List Obj:=dd "spinboard.amounts" 421 n i l k a t ns
noncomputable def P0 (n:Str)(i:Nat)(l k:Int)(a t:Nat)(ns:W5):List Obj:=dd "spinboard.marks" 475 n i l k a t ns
noncomputable def de3 (n:Str)(i:Nat)(l k:Int)(a t:Nat)(ns:W5):List Obj:=dd "spinboard.boards" 553 n i l k a t ns
noncomputable def Zw (n:Str)(i:Nat)(l k:Int)(a t:Nat)(ns:W5):List Obj:=dd "spinboard.bits" 570 n i l k a t ns
noncomputable def Q8 (n:Str)(i:Nat)(l k:Int)(a t:Nat)(ns:W5):List Obj:=dd "spinboard.tables" 609 n i l k a t ns
noncomputable def Py (n:Str)(i:Nat)(l k:Int)(a t:Nat)(ns:W5):List Obj:=dd "spinboard.moves" 669 n i l k a t ns
noncomputable def Ux (n:Str)(i:Nat)(l k:Int)(a t:Nat)(ns:W5):List Obj:=dd "spinboard.tableturns" 762 n i l k a t ns
noncomputable def uH (n:Str)(i:Nat)(l k:Int)(a t:Nat)(ns:W5):List Obj:=dd "spinboard.rows" 827 n i l k a t ns
noncomputable def nD (n:Str)(i:Nat)(l k:Int)(a t:Nat)(ns:W5):List Obj:=dd "spinboard.layers" 845 n i l k a t ns
noncomputable def Jx (n:Str)(i:Nat)(l k:Int)(a t:Nat)(ns:W5):List Obj:=dd "spinboard.words" 872 n i l k a t ns
noncomputable abbrev nC (n:Str)(i c:Nat):Obj:=Uw n n (top i) 3 "law_spinboard_k82_guarded_and_back" 931 c 0
noncomputable def Du (n:Str)(i:Nat)(l k:Int)(a t:Nat)(ns:W5):List Obj:=dd "law_spinboard_k82_guarded_and_back" 931 n i l k a t ns
def mO(P:Pz):=(Ln "<module>" 182 "<module>" 183 184 1 0 0 0 0 11 false 181 12 .none .none .none 185 1 186)
noncomputable def lY(P:Pz):=Obj.mk (.type "frame") none Data.plain #[(some (.ref 13)),(some (.ref 3)),(some (.ref 3)),none,(some (.str "__main__" 164)),none,(some (.ref 0))]
def Ha (P:Pz):Heap:=Heap.mk (Array.mk [boot_o_0 P,boot_o_1 P,boot_o_2 P,boot_o_3 P,boot_o_4 P,boot_o_5 P,boot_o_6 P,boot_o_7 P,boot_o_8 P,boot_o_9 P,boot_o_10 P,tz,Ni,mO P,lY P]) life
def T0 (P:Pz):BT:=(.node (boot_o_0 P) (.node (boot_o_1 P) (.node (boot_o_3 P) (.node (boot_o_7 P) .nil .nil) (.node tz .nil .nil)) (.node (boot_o_5 P) (.node (boot_o_9 P) .nil .nil) (.node (mO P) .nil .nil))) (.node (boot_o_2 P) (.node (boot_o_4 P) (.node (boot_o_8 P) .nil .nil) (.node Ni .nil .nil)) (.node (boot_o_6 P) (.node (boot_o_10 P) .nil .nil) (.node (lY P) .nil .nil))))
noncomputable def l0:List Stmt:=[top 0,top 1]
noncomputable def l1:List Stmt:=[top 2]
noncomputable def l2:List Stmt:=[top 3]
noncomputable def l3:List Stmt:=[top 4]
noncomputable def l4:List Stmt:=[top 5]
noncomputable def l5:List Stmt:=[top 6]
noncomputable def l6:List Stmt:=[top 7]
noncomputable def l7:List Stmt:=[top 8]
noncomputable def l8:List Stmt:=[top 9]
noncomputable def l9:List Stmt:=[top 10]
noncomputable def l10:List Stmt:=[top 11]
noncomputable def uG:List Stmt:=[top 12,top 13,top 14,top 15,top 16,top 17,top 18]
noncomputable def R8:List Stmt:=[top 19,top 20,top 21,top 22,top 23,top 24,top 25,top 26,top 27,top 28,top 29,top 30,top 31,top 32,top 33]
noncomputable def uF:List Stmt:=[top 34,top 35,top 36,top 37,top 38,top 39,top 40,top 41,top 42,top 43,top 44,top 45,top 46,top 47,top 48,top 49]
noncomputable def XR:List Stmt:=[top 50,top 51,top 52,top 53,top 54,top 55,top 56,top 57,top 58,top 59,top 60,top 61]
noncomputable def uE:List Stmt:=[top 62,top 63,top 64,top 65,top 66,top 67,top 68,top 69,top 70,top 71,top 72,top 73,top 74,top 75,top 76]
noncomputable def uD:List Stmt:=[top 77,top 78,top 79,top 80,top 81,top 82,top 83,top 84,top 85,top 86,top 87,top 88,top 89,top 90]
noncomputable def t_:List Stmt:=[top 91,top 92,top 93,top 94,top 95,top 96,top 97,top 98,top 99,top 100,top 101,top 102,top 103]
noncomputable def tu:List Stmt:=[top 104,top 105,top 106]
noncomputable def bE:List Stmt:=l0++(l1++(l2++(l3++(l4++(l5++(l6++(l7++(l8++(l9++(l10++(uG++(R8++(uF++(XR++(uE++(uD++(t_++(tu++[]))))))))))))))))))
noncomputable abbrev cE:Code:=Code.body bE en
noncomputable abbrev BB:List Frame:=[topFrame (Pos.mk 0 0 0 0)]
theorem jW(w:W6)(os:OsState):topGo treeTable pr w 11 (some (.ref 6)) 12 (Shared.mk (boot_heap w.params) (Array.mk []) boot_drawn boot_toks os) (topStub pr)=some (Shared.mk (Ha w.params) (Array.mk []) (Drawn.mk 0 0 0 0) 187 os,Thread.mk (denote treeTable cE) cE (Pos.mk 0 0 0 0) BB):=by rw[PySem.W.Fast.te15667345088766844465,PySem.W.Fast.te11892475500146522536,PySem.W.Fast.te14364793385576792824];kernel_rfl
theorem W3x(w:W6)(os:OsState):segRun treeTable pr w 11 (some (.ref 6)) 1 1 (Shared.mk (Ha w.params) (Array.mk []) (Drawn.mk 0 0 0 0) 187 os) (blockOf bE en cE (Pos.mk 0 0 0 0) BB)=some (Flow.next,(SharedT.mk (T0 w.params) 15 life (Array.mk []) (Drawn.mk 0 0 0 0) 187 os).abs,cE,(Pos.mk 0 0 0 0)):=by rw[PySem.W.Fast.te14374325043358763698,PySem.W.Fast.te14364793385576792824];kernel_rfl
noncomputable def V0(P:Pz):List DictEntry:=[(dn P "__doc__" 166 .none),(dn P "__package__" 167 .none),(dn P "__loader__" 168 (.builtin "__main__.__loader__#opaque")),(dn P "__spec__" 169 .none),(dn P "__annotations__" 170 (.ref 6)),(dn P "__builtins__" 171 (.ref 4)),(dn P "__file__" 173 (.str "/claim/cut.py" 172)),(dn P "__cached__" 174 .none),(dn P "BoardError" 206 (.ref 24))]
def jy(P:Pz):=Fl ((dn P "__name__" 165 (.str "spinboard.errors" 187))::V0 P) 10
noncomputable def W0q(P:Pz):List Value:=[(.int 2 0),(.int 0 0),(.ref 20)]
def W5w(P:Pz):=Ea (W0q P)
def j15(P:Pz):=tq #[(.type "ValueError")]
noncomputable def Xd(P:Pz):=Obj.mk (.type "builtin_function_or_method") none (Data.fields #[(.builtin "type.__prepare__"),(.type "type")]) #[]
def j17(P:Pz):=Fl [(dn P "__module__" 196 (.str "spinboard.errors" 187)),(dn P "__qualname__" 198 (.str "BoardError" 197)),(dn P "__firstlineno__" 200 (.int 2 199)),(dn P "__static_attributes__" 201 (.ref 22))] 4
def j20(P:Pz):=(Ln "BoardError" 191 "BoardError" 192 193 2 0 0 0 0 18 false 181 19 .none .none .none 194 2 195)
noncomputable def j21(P:Pz):=Obj.mk (.type "frame") none Data.plain #[(some (.ref 20)),(some (.ref 3)),(some (.ref 17)),none,(some (.str "spinboard.errors" 187)),none,(some (.ref 0))]
def j23(P:Pz):=Fl [(dn P "__module__" 196 (.str "spinboard.errors" 187)),(dn P "__firstlineno__" 200 (.int 2 199)),(dn P "__static_attributes__" 201 (.ref 22)),(dn P "__weakref__" 203 (.ref 25)),(dn P "__doc__" 204 .none)] 3
def W5o(P:Pz):=Lp []
noncomputable def j25(P:Pz):=Obj.mk (.type "getset_descriptor") none (Data.fields #[(.str "__weakref__" 202),(.ref 24),(.builtin "ExceptionGroup.__weakref__"),.none]) #[]
noncomputable def j26(P:Pz):=Obj.mk (.type "super") none (Data.fields #[(.ref 24),(.ref 24),(.ref 24)]) #[]
noncomputable def j27(P:Pz):=Obj.mk (.type "builtin_function_or_method") none (Data.fields #[(.builtin "object.__init_subclass__"),(.ref 24)]) #[]
def x1(P:Pz):List Obj:=[j15 P,Xd P,j17 P,tz,Ni,j20 P,j21 P,tz,j23 P,W5o P,j25 P,j26 P,j27 P]
def T1 (P:Pz):BT:=iF (iL (T0 P) [(3,jy P),(12,W5w P)]) 15 (x1 P)
abbrev gs (p:W3)(b:Y3)(w:W6)(os:OsState)(k:Nat)(T:Pz->BT)(n t:Nat)(l:Y3)(q:Pos)(T':Pz->BT)(n' t':Nat)(q':Pos):Prop:=segRunT treeTable p w 11 (some (.ref 6)) 1 k (SharedT.mk (T w.params) n life (Array.mk []) (Drawn.mk 0 0 0 0) t os) (piecesOf l en (Code.body b en) q BB)=some (Flow.next,(SharedT.mk (T' w.params) n' life (Array.mk []) (Drawn.mk 0 0 0 0) t' os),Code.body b en,q')
theorem g0(p:W3)(b:Y3)(w:W6)(os:OsState):gs p b w os 196 T0 15 187 l0 (Pos.mk 0 0 0 0) T1 28 207 (Pos.mk 2 0 3 8):=by unfold gs;rw[PySem.W.Fast.te10110043849684766642,PySem.W.Fast.te14364793385576792824];kernel_rfl
def Vz(P:Pz):List DictEntry:=V0 P++[(dn P "NoShare" 222 (.ref 37))]
def jx(P:Pz):=Fl ((dn P "__name__" 165 (.str "spinboard.errors" 187))::Vz P) 11
def W0o(P:Pz):List Value:=W0q P++[(.int 4 0),(.int 0 0),(.ref 33)]
def W5v(P:Pz):=Ea (W0o P)
def W5n(P:Pz):=Lp [37]
def Zt(P:Pz):=tq #[(.ref 24)]
def cc (P:Pz)(n:Str)(l:Int)(A t:Nat):List Obj:=[Zt P,Xd P,Fl [(dn P "__module__" (t+7) (.str "spinboard.errors" 187)),(dn P "__qualname__" (t+9) (.str n (t+8))),(dn P "__firstlineno__" (t+11) (.int l (t+10))),(dn P "__static_attributes__" (t+12) (.ref (A+7)))] 4,tz,Ni,Ln n (t+2) n (t+3) (t+4) l 0 0 0 0 (A+3) false 181 (A+4) .none .none .none ((t+5:Nat):Int) l (t+6),Obj.mk (.type "frame") none Data.plain #[(some (.ref (A+5))),(some (.ref 3)),(some (.ref (A+2))),none,(some (.str "spinboard.errors" 187)),none,(some (.ref 0))],tz,Fl [(dn P "__module__" (t+7) (.str "spinboard.errors" 187)),(dn P "__firstlineno__" (t+11) (.int l (t+10))),(dn P "__static_attributes__" (t+12) (.ref (A+7))),(dn P "__doc__" (t+13) .none)] 2,co n A t,Obj.mk (.type "super") none (Data.fields #[(.ref (A+9)),(.ref (A+9)),(.ref (A+9))]) #[],Obj.mk (.type "builtin_function_or_method") none (Data.fields #[(.builtin "object.__init_subclass__"),(.ref (A+9))]) #[]]
def j37(P:Pz):=co "NoShare" 28 207
def x2(P:Pz):List Obj:=cc P "NoShare" 4 28 207
def T2 (P:Pz):BT:=iF (iL (T1 P) [(3,jx P),(12,W5v P),(24,W5n P)]) 28 (x2 P)
theorem g1(p:W3)(b:Y3)(w:W6)(os:OsState):gs p b w os 214 T1 28 207 l1 (Pos.mk 2 0 3 8) T2 40 223 (Pos.mk 4 0 5 8):=by unfold gs;rw[PySem.W.Fast.te10110043849684766642,PySem.W.Fast.te14364793385576792824];kernel_rfl
def Vy(P:Pz):List DictEntry:=Vz P++[(dn P "NoAmount" 238 (.ref 49))]
def jw(P:Pz):=Fl ((dn P "__name__" 165 (.str "spinboard.errors" 187))::Vy P) 12
def W0n(P:Pz):List Value:=W0o P++[(.int 6 0),(.int 0 0),(.ref 45)]
def W5u(P:Pz):=Ea (W0n P)
def W5m(P:Pz):=Lp [37,49]
def j49(P:Pz):=co "NoAmount" 40 223
def x3(P:Pz):List Obj:=cc P "NoAmount" 6 40 223
def T3 (P:Pz):BT:=iF (iL (T2 P) [(3,jw P),(12,W5u P),(24,W5m P)]) 40 (x3 P)
theorem g2(p:W3)(b:Y3)(w:W6)(os:OsState):gs p b w os 214 T2 40 223 l2 (Pos.mk 4 0 5 8) T3 52 239 (Pos.mk 6 0 7 8):=by unfold gs;rw[PySem.W.Fast.te10110043849684766642,PySem.W.Fast.te14364793385576792824];kernel_rfl
def Vx(P:Pz):List DictEntry:=Vy P++[(dn P "NoMark" 254 (.ref 61))]
def ju(P:Pz):=Fl ((dn P "__name__" 165 (.str "spinboard.errors" 187))::Vx P) 13
def W0m(P:Pz):List Value:=W0n P++[(.int 8 0),(.int 0 0),(.ref 57)]
def W5t(P:Pz):=Ea (W0m P)
def W5l(P:Pz):=Lp [37,49,61]
def j61(P:Pz):=co "NoMark" 52 239
def x4(P:Pz):List Obj:=cc P "NoMark" 8 52 239
def T4 (P:Pz):BT:=iF (iL (T3 P) [(3,ju P),(12,W5t P),(24,W5l P)]) 52 (x4 P)
theorem g3(p:W3)(b:Y3)(w:W6)(os:OsState):gs p b w os 214 T3 52 239 l3 (Pos.mk 6 0 7 8) T4 64 255 (Pos.mk 8 0 9 8):=by unfold gs;rw[PySem.W.Fast.te10110043849684766642,PySem.W.Fast.te14364793385576792824];kernel_rfl
def Vw(P:Pz):List DictEntry:=Vx P++[(dn P "NoBoard" 270 (.ref 73))]
def jt(P:Pz):=Fl ((dn P "__name__" 165 (.str "spinboard.errors" 187))::Vw P) 14
def W0l(P:Pz):List Value:=W0m P++[(.int 10 0),(.int 0 0),(.ref 69)]
def W5s(P:Pz):=Ea (W0l P)
def W5k(P:Pz):=Lp [37,49,61,73]
def j73(P:Pz):=co "NoBoard" 64 255
def x5(P:Pz):List Obj:=cc P "NoBoard" 10 64 255
def T5 (P:Pz):BT:=iF (iL (T4 P) [(3,jt P),(12,W5s P),(24,W5k P)]) 64 (x5 P)
theorem g4(p:W3)(b:Y3)(w:W6)(os:OsState):gs p b w os 214 T4 64 255 l4 (Pos.mk 8 0 9 8) T5 76 271 (Pos.mk 10 0 11 8):=by unfold gs;rw[PySem.W.Fast.te10110043849684766642,PySem.W.Fast.te14364793385576792824];kernel_rfl
def Vv(P:Pz):List DictEntry:=Vw P++[(dn P "NoMove" 286 (.ref 85))]
def jr(P:Pz):=Fl ((dn P "__name__" 165 (.str "spinboard.errors" 187))::Vv P) 15
def W0k(P:Pz):List Value:=W0l P++[(.int 12 0),(.int 0 0),(.ref 81)]
def W5r(P:Pz):=Ea (W0k P)
def W5j(P:Pz):=Lp [37,49,61,73,85]
def j85(P:Pz):=co "NoMove" 76 271
def x6(P:Pz):List Obj:=cc P "NoMove" 12 76 271
def T6 (P:Pz):BT:=iF (iL (T5 P) [(3,jr P),(12,W5r P),(24,W5j P)]) 76 (x6 P)
theorem g5(p:W3)(b:Y3)(w:W6)(os:OsState):gs p b w os 214 T5 76 271 l5 (Pos.mk 10 0 11 8) T6 88 287 (Pos.mk 12 0 13 8):=by unfold gs;rw[PySem.W.Fast.te10110043849684766642,PySem.W.Fast.te14364793385576792824];kernel_rfl
def Vu(P:Pz):List DictEntry:=Vv P++[(dn P "NoCell" 302 (.ref 97))]
def jq(P:Pz):=Fl ((dn P "__name__" 165 (.str "spinboard.errors" 187))::Vu P) 16
def W0j(P:Pz):List Value:=W0k P++[(.int 14 0),(.int 0 0),(.ref 93)]
def W5q(P:Pz):=Ea (W0j P)
def W5i(P:Pz):=Lp [37,49,61,73,85,97]
def j97(P:Pz):=co "NoCell" 88 287
def x7(P:Pz):List Obj:=cc P "NoCell" 14 88 287
def T7 (P:Pz):BT:=iF (iL (T6 P) [(3,jq P),(12,W5q P),(24,W5i P)]) 88 (x7 P)
theorem g6(p:W3)(b:Y3)(w:W6)(os:OsState):gs p b w os 214 T6 88 287 l6 (Pos.mk 12 0 13 8) T7 100 303 (Pos.mk 14 0 15 8):=by unfold gs;rw[PySem.W.Fast.te10110043849684766642,PySem.W.Fast.te14364793385576792824];kernel_rfl
def Vt(P:Pz):List DictEntry:=Vu P++[(dn P "NeverSo" 318 (.ref 109))]
def jo(P:Pz):=Fl ((dn P "__name__" 165 (.str "spinboard.errors" 187))::Vt P) 17
def W0i(P:Pz):List Value:=W0j P++[(.int 16 0),(.int 0 0),(.ref 105)]
def W5p(P:Pz):=Ea (W0i P)
def W5h(P:Pz):=Lp [37,49,61,73,85,97,109]
def A0G(P:Pz):=co "NeverSo" 100 303
def x8(P:Pz):List Obj:=cc P "NeverSo" 16 100 303
def T8 (P:Pz):BT:=iF (iL (T7 P) [(3,jo P),(12,W5p P),(24,W5h P)]) 100 (x8 P)
theorem g7(p:W3)(b:Y3)(w:W6)(os:OsState):gs p b w os 214 T7 100 303 l7 (Pos.mk 14 0 15 8) T8 112 319 (Pos.mk 16 0 17 8):=by unfold gs;rw[PySem.W.Fast.te10110043849684766642,PySem.W.Fast.te14364793385576792824];kernel_rfl
def W0h(P:Pz):List DictEntry:=Vt P++[(dn P "NoTable" 334 (.ref 121))]
def W5g(P:Pz):=Fl ((dn P "__name__" 165 (.str "spinboard.errors" 187))::W0h P) 18
def _E(P:Pz):List Value:=W0i P++[(.int 18 0),(.int 0 0),(.ref 117)]
def W3f(P:Pz):=Ea (_E P)
def W2v(P:Pz):=Lp [37,49,61,73,85,97,109,121]
def mW(P:Pz):=co "NoTable" 112 319
def x9(P:Pz):List Obj:=cc P "NoTable" 18 112 319
def T9 (P:Pz):BT:=iF (iL (T8 P) [(3,W5g P),(12,W3f P),(24,W2v P)]) 112 (x9 P)
theorem g8(p:W3)(b:Y3)(w:W6)(os:OsState):gs p b w os 214 T8 112 319 l8 (Pos.mk 16 0 17 8) T9 124 335 (Pos.mk 18 0 19 8):=by unfold gs;rw[PySem.W.Fast.te10110043849684766642,PySem.W.Fast.te14364793385576792824];kernel_rfl
def W0g(P:Pz):List DictEntry:=W0h P++[(dn P "NoText" 359 (.ref 140))]
def W5f(P:Pz):=Fl ((dn P "__name__" 165 (.str "spinboard.errors" 187))::W0g P) 19
def _G(P:Pz):List Value:=_E P++[(.int 20 0),(.int 0 0),(.ref 129)]
def W3e(P:Pz):=Ea (_G P)
def W2u(P:Pz):=Lp [37,49,61,73,85,97,109,121,140]
def mU(P:Pz):=Fl [(dn P "__module__" 342 (.str "spinboard.errors" 187)),(dn P "__qualname__" 344 (.str "NoText" 343)),(dn P "__firstlineno__" 346 (.int 20 345)),(dn P "__init__" 354 (.ref 137)),(dn P "__static_attributes__" 356 (.ref 138))] 5
noncomputable def mR(P:Pz):=Obj.mk .none none (Data.fields #[(.int 22 0),(.int 4 0),(.ref 136)]) #[]
def mQ(P:Pz):=(Ln "NoText" 337 "NoText" 338 339 20 0 0 0 0 127 false 181 128 .none .none .none 340 20 341)
noncomputable def mL(P:Pz):=Obj.mk (.type "frame") none Data.plain #[(some (.ref 129)),(some (.ref 3)),(some (.ref 126)),none,(some (.str "spinboard.errors" 187)),none,(some (.ref 0))]
def mK(P:Pz):=tq #[(.str "self" 350),(.str "place" 351)]
noncomputable def mJ(P:Pz):=Obj.mk .none none (Data.func (FuncData.mk "__init__" "NoText.__init__" (HN (Oo (top 10) 0)) (FuncBody.stmts (Gb (Oo (top 10) 0))) (DG (Oo (top 11) 0)) 0 [] .none .none .none .none none .none .none 0)) #[]
def mH(P:Pz):=(Ln "__init__" 347 "NoText.__init__" 348 349 22 2 0 0 3 131 true 181 132 (.ref 133) (.ref 134) (.ref 135) 352 22 353)
noncomputable def mG(P:Pz):=Obj.mk (.type "function") none (Data.func (FuncData.mk "__init__" "NoText.__init__" (HN (Oo (top 10) 0)) (FuncBody.stmts (Gb (Oo (top 10) 0))) (DG (Oo (top 11) 0)) 3 [] .none .none .none (.str "spinboard.errors" 187) none (.ref 136) .none 0)) #[]
def mF(P:Pz):=tq #[(.str "place" 355)]
def lZ(P:Pz):=Fl [(dn P "__module__" 342 (.str "spinboard.errors" 187)),(dn P "__firstlineno__" 346 (.int 20 345)),(dn P "__init__" 354 (.ref 137)),(dn P "__static_attributes__" 356 (.ref 138)),(dn P "__doc__" 357 .none)] 2
noncomputable def lX(P:Pz):=Obj.mk (.type "type") none (Data.cls (ClassData.mk "NoText" [(.ref 24)] [(.ref 140),(.ref 24),(.type "ValueError"),(.type "Exception"),(.type "BaseException"),(.type "object")] 139 "NoText" true [] [] false none false)) #[(some (.ref 124)),none,(some (.str "NoText" 335)),(some (.str "NoText" 343)),(some (.builtin "ValueError.__new__")),(some (.bool true))]
noncomputable def lW(P:Pz):=Obj.mk (.type "super") none (Data.fields #[(.ref 140),(.ref 140),(.ref 140)]) #[]
noncomputable def lV(P:Pz):=Obj.mk (.type "builtin_function_or_method") none (Data.fields #[(.builtin "object.__init_subclass__"),(.ref 140)]) #[]
def x10(P:Pz):List Obj:=[Zt P,Xd P,mU P,tz,mR P,mQ P,mL P,tz,Ni,mK P,tz,mJ P,mH P,mG P,mF P,lZ P,lX P,lW P,lV P]
def rF (P:Pz):BT:=iF (iL (T9 P) [(3,W5f P),(12,W3e P),(24,W2u P)]) 124 (x10 P)
theorem g9(p:W3)(b:Y3)(w:W6)(os:OsState):gs p b w os 246 T9 124 335 l9 (Pos.mk 18 0 19 8) rF 143 360 (Pos.mk 20 0 23 26):=by unfold gs;rw[PySem.W.Fast.te10110043849684766642,PySem.W.Fast.te14364793385576792824];kernel_rfl
def W0f(P:Pz):List DictEntry:=W0g P++[(dn P "NotBorne" 384 (.ref 159))]
def W5e(P:Pz):=Fl ((dn P "__name__" 165 (.str "spinboard.errors" 187))::W0f P) 20
def _J(P:Pz):List Value:=_G P++[(.int 24 0),(.int 0 0),(.ref 148)]
def W3d(P:Pz):=Ea (_J P)
def W2t(P:Pz):=Lp [37,49,61,73,85,97,109,121,140,159]
def lU(P:Pz):=Fl [(dn P "__module__" 367 (.str "spinboard.errors" 187)),(dn P "__qualname__" 369 (.str "NotBorne" 368)),(dn P "__firstlineno__" 371 (.int 24 370)),(dn P "__init__" 379 (.ref 156)),(dn P "__static_attributes__" 381 (.ref 157))] 5
noncomputable def lR(P:Pz):=Obj.mk .none none (Data.fields #[(.int 26 0),(.int 4 0),(.ref 155)]) #[]
def lQ(P:Pz):=(Ln "NotBorne" 362 "NotBorne" 363 364 24 0 0 0 0 146 false 181 147 .none .none .none 365 24 366)
noncomputable def lO(P:Pz):=Obj.mk (.type "frame") none Data.plain #[(some (.ref 148)),(some (.ref 3)),(some (.ref 145)),none,(some (.str "spinboard.errors" 187)),none,(some (.ref 0))]
def lN(P:Pz):=tq #[(.str "self" 375),(.str "place" 376)]
def lM(P:Pz):=(Zv "__init__" "NotBorne.__init__" (Oo (top 11) 0) 0 0)
def lK(P:Pz):=(Ln "__init__" 372 "NotBorne.__init__" 373 374 26 2 0 0 3 150 true 181 151 (.ref 152) (.ref 153) (.ref 154) 377 26 378)
def lJ(P:Pz):=(Uw "__init__" "NotBorne.__init__" (Oo (top 11) 0) 3 "spinboard.errors" 187 155 0)
def lH(P:Pz):=tq #[(.str "place" 380)]
def lG(P:Pz):=Fl [(dn P "__module__" 367 (.str "spinboard.errors" 187)),(dn P "__firstlineno__" 371 (.int 24 370)),(dn P "__init__" 379 (.ref 156)),(dn P "__static_attributes__" 381 (.ref 157)),(dn P "__doc__" 382 .none)] 2
noncomputable def lF(P:Pz):=Obj.mk (.type "type") none (Data.cls (ClassData.mk "NotBorne" [(.ref 24)] [(.ref 159),(.ref 24),(.type "ValueError"),(.type "Exception"),(.type "BaseException"),(.type "object")] 158 "NotBorne" true [] [] false none false)) #[(some (.ref 143)),none,(some (.str "NotBorne" 360)),(some (.str "NotBorne" 368)),(some (.builtin "ValueError.__new__")),(some (.bool true))]
noncomputable def lE(P:Pz):=Obj.mk (.type "super") none (Data.fields #[(.ref 159),(.ref 159),(.ref 159)]) #[]
noncomputable def lB(P:Pz):=Obj.mk (.type "builtin_function_or_method") none (Data.fields #[(.builtin "object.__init_subclass__"),(.ref 159)]) #[]
def x11(P:Pz):List Obj:=[Zt P,Xd P,lU P,tz,lR P,lQ P,lO P,tz,Ni,lN P,tz,lM P,lK P,lJ P,lH P,lG P,lF P,lE P,lB P]
def rE (P:Pz):BT:=iF (iL (rF P) [(3,W5e P),(12,W3d P),(24,W2t P)]) 143 (x11 P)
theorem g10(p:W3)(b:Y3)(w:W6)(os:OsState):gs p b w os 246 rF 143 360 l10 (Pos.mk 20 0 23 26) rE 162 385 (Pos.mk 24 0 27 26):=by unfold gs;rw[PySem.W.Fast.te10110043849684766642,PySem.W.Fast.te14364793385576792824];kernel_rfl
def W0e(P:Pz):List DictEntry:=W0f P++[(dn P "Unguarded" 411 (.ref 178)),(dn P "is_whole" 420 (.ref 187)),(dn P "halved_out" 436 (.ref 194)),(dn P "plus" 442 (.ref 199)),(dn P "minus" 450 (.ref 206))]
def W5d(P:Pz):=Fl ((dn P "__name__" 165 (.str "spinboard.amounts" 421))::W0e P) 25
def _K(P:Pz):List Value:=_J P++[(.int 28 0),(.int 0 0),(.ref 167),(.int 34 0),(.int 0 0),(.ref 186),(.int 37 0),(.int 0 0),(.ref 193),(.int 44 0),(.int 0 0),(.ref 198),(.int 50 0),(.int 0 0),(.ref 205)]
def W3c(P:Pz):=Ea (_K P)
def qm(P:Pz):=Lp [37,49,61,73,85,97,109,121,140,159,178]
def lA(P:Pz):=Fl [(dn P "__module__" 392 (.str "spinboard.errors" 187)),(dn P "__qualname__" 394 (.str "Unguarded" 393)),(dn P "__firstlineno__" 396 (.int 28 395)),(dn P "__init__" 405 (.ref 175)),(dn P "__static_attributes__" 408 (.ref 176))] 5
noncomputable def k_(P:Pz):=Obj.mk .none none (Data.fields #[(.int 30 0),(.int 4 0),(.ref 174)]) #[]
def kj(P:Pz):=(Ln "Unguarded" 387 "Unguarded" 388 389 28 0 0 0 0 165 false 181 166 .none .none .none 390 28 391)
noncomputable def kY(P:Pz):=Obj.mk (.type "frame") none Data.plain #[(some (.ref 167)),(some (.ref 3)),(some (.ref 164)),none,(some (.str "spinboard.errors" 187)),none,(some (.ref 0))]
def kW(P:Pz):=tq #[(.str "self" 400),(.str "one" 401),(.str "other" 402)]
def kO(P:Pz):=(Zv "__init__" "Unguarded.__init__" (Oo (top 12) 0) 0 0)
def kJ(P:Pz):=(Ln "__init__" 397 "Unguarded.__init__" 398 399 30 3 0 0 3 169 true 181 170 (.ref 171) (.ref 172) (.ref 173) 403 30 404)
def kI(P:Pz):=(Uw "__init__" "Unguarded.__init__" (Oo (top 12) 0) 3 "spinboard.errors" 187 174 0)
def kE(P:Pz):=tq #[(.str "one" 406),(.str "other" 407)]
def j_(P:Pz):=Fl [(dn P "__module__" 392 (.str "spinboard.errors" 187)),(dn P "__firstlineno__" 396 (.int 28 395)),(dn P "__init__" 405 (.ref 175)),(dn P "__static_attributes__" 408 (.ref 176)),(dn P "__doc__" 409 .none)] 2
noncomputable def j9(P:Pz):=Obj.mk (.type "type") none (Data.cls (ClassData.mk "Unguarded" [(.ref 24)] [(.ref 178),(.ref 24),(.type "ValueError"),(.type "Exception"),(.type "BaseException"),(.type "object")] 177 "Unguarded" true [] [] false none false)) #[(some (.ref 162)),none,(some (.str "Unguarded" 385)),(some (.str "Unguarded" 393)),(some (.builtin "ValueError.__new__")),(some (.bool true))]
noncomputable def j8(P:Pz):=Obj.mk (.type "super") none (Data.fields #[(.ref 178),(.ref 178),(.ref 178)]) #[]
noncomputable def j6(P:Pz):=Obj.mk (.type "builtin_function_or_method") none (Data.fields #[(.builtin "object.__init_subclass__"),(.ref 178)]) #[]
def x12(P:Pz):List Obj:=[Zt P,Xd P,lA P,tz,k_ P,kj P,kY P,tz,Ni,kW P,tz,kO P,kJ P,kI P,kE P,j_ P,j9 P,j8 P,j6 P]++(de0 "is_whole" 14 34 1 181 414 ["thing"]++(Uy "halved_out" 16 37 5 188 423 ["a","b","c","d","h","places","lowest","less"]++(Uy "plus" 17 44 2 195 437 []++(Uy "minus" 18 50 2 200 443 ["one","other"]))))
def rD (P:Pz):BT:=iF (iL (rE P) [(3,W5d P),(12,W3c P),(24,qm P)]) 162 (x12 P)
theorem g11(p:W3)(b:Y3)(w:W6)(os:OsState):gs p b w os 387 rE 162 385 uG (Pos.mk 24 0 27 26) rD 207 451 (Pos.mk 50 0 51 36):=by unfold gs;rw[PySem.W.Fast.te10110043849684766642,PySem.W.Fast.te14364793385576792824];kernel_rfl
def W0d(P:Pz):List DictEntry:=W0e P++[(dn P "spun" 460 (.ref 213)),(dn P "spun_once" 467 (.ref 220)),(dn P "rooted" 474 (.ref 227)),(dn P "CELL_SIGNS" 478 (.str ".fsb" 477)),(dn P "ones" 487 (.ref 234)),(dn P "is_word" 495 (.ref 241)),(dn P "is_mark" 503 (.ref 248)),(dn P "is_even" 510 (.ref 255)),(dn P "is_even_mark" 518 (.ref 262)),(dn P "commute" 526 (.ref 269)),(dn P "product" 535 (.ref 276)),(dn P "turned_about" 542 (.ref 283)),(dn P "cell_sign" 552 (.ref 290))]
def W5c(P:Pz):=Fl ((dn P "__name__" 165 (.str "spinboard.boards" 553))::W0d P) 38
def _L(P:Pz):List Value:=_K P++[(.int 52 0),(.int 0 0),(.ref 212),(.int 57 0),(.int 0 0),(.ref 219),(.int 59 0),(.int 0 0),(.ref 226),(.int 63 0),(.int 0 0),(.ref 233),(.int 70 0),(.int 0 0),(.ref 240),(.int 74 0),(.int 0 0),(.ref 247),(.int 80 0),(.int 0 0),(.ref 254),(.int 82 0),(.int 0 0),(.ref 261),(.int 84 0),(.int 0 0),(.ref 268),(.int 86 0),(.int 0 0),(.ref 275),(.int 89 0),(.int 0 0),(.ref 282),(.int 91 0),(.int 0 0),(.ref 289)]
def W3b(P:Pz):=Ea (_L P)
def rZ(P:Pz):List Obj:=Uy "spun" 19 52 2 207 451 ["one","k","turning","step"]++(Uy "spun_once" 20 57 1 214 461 ["one"]++(Uy "rooted" 21 59 1 221 468 ["one"]++(P0 "ones" 24 63 1 228 479 ["number","many","rest"]++(P0 "is_word" 25 70 2 235 488 ["thing","cells"]++(P0 "is_mark" 26 74 2 242 496 ["thing","cells"]++(P0 "is_even" 27 80 1 249 504 ["mark"]++(P0 "is_even_mark" 28 82 2 256 511 ["thing","cells"]++(P0 "commute" 29 84 2 263 519 ["one","other"]++(P0 "product" 30 86 2 270 527 ["one","other","met"]++(P0 "turned_about" 31 89 1 277 536 ["mark"]++(P0 "cell_sign" 32 91 2 284 543 ["mark","cell","flip","sign"])))))))))))
def rC (P:Pz):BT:=iF (iL (rD P) [(3,W5c P),(12,W3b P)]) 207 (rZ P)
theorem g12(p:W3)(b:Y3)(w:W6)(os:OsState):gs p b w os 390 rD 207 451 R8 (Pos.mk 50 0 51 36) rC 291 555 (Pos.mk 95 0 95 8):=by unfold gs;rw[PySem.W.Fast.te10110043849684766642,PySem.W.Fast.te14364793385576792824];kernel_rfl
def W0c(P:Pz):List DictEntry:=W0d P++[(dn P "NOUGHT" 560 (.ref 291)),(dn P "MOST_CELLS" 562 (.int 6 561)),(dn P "cells_of" 569 (.ref 298)),(dn P "solved" 582 (.ref 305)),(dn P "cleared" 592 (.ref 312)),(dn P "places_at_one" 598 (.ref 317)),(dn P "solution" 608 (.ref 324)),(dn P "PRODUCT_OF_NONE" 614 (.ref 325)),(dn P "is_table" 620 (.ref 330)),(dn P "commutes_with_all" 626 (.ref 335)),(dn P "check_table" 634 (.ref 342)),(dn P "least_cell" 641 (.ref 349)),(dn P "made_of" 647 (.ref 354)),(dn P "rows_with" 653 (.ref 359))]
def W5b(P:Pz):=Fl ((dn P "__name__" 165 (.str "spinboard.tables" 609))::W0c P) 52
def _M(P:Pz):List Value:=_L P++[(.int 98 0),(.int 0 0),(.ref 297),(.int 101 0),(.int 0 0),(.ref 304),(.int 110 0),(.int 0 0),(.ref 311),(.int 116 0),(.int 0 0),(.ref 316),(.int 118 0),(.int 0 0),(.ref 323),(.int 127 0),(.int 0 0),(.ref 329),(.int 135 0),(.int 0 0),(.ref 334),(.int 137 0),(.int 0 0),(.ref 341),(.int 140 0),(.int 0 0),(.ref 348),(.int 142 0),(.int 0 0),(.ref 353),(.int 151 0),(.int 0 0),(.ref 358)]
def W3a(P:Pz):=Ea (_M P)
def Xc(P:Pz):=tq #[(.int 0 555),(.int 0 556),(.int 0 557),(.int 0 558),(.int 0 559)]
def Xb(P:Pz):=tq #[(.int 0 611),(.int 0 612),(.int 0 613)]
def rY(P:Pz):List Obj:=[Xc P]++(de3 "cells_of" 36 98 1 292 563 ["board"]++(Zw "solved" 38 101 1 299 572 ["equations","kept","place","equation","left"]++(Zw "cleared" 39 110 2 306 583 ["equation","kept","left","other"]++(Zw "places_at_one" 40 116 1 313 593 []++(Zw "solution" 41 118 1 318 599 ["kept","x","height","equation"]++([Xb P]++(Q8 "is_table" 44 127 2 326 615 []++(Q8 "commutes_with_all" 45 135 2 331 621 []++(Q8 "check_table" 46 137 2 336 627 ["rows","cells"]++(Q8 "least_cell" 47 140 1 343 635 ["word"]++(Q8 "made_of" 48 142 3 350 642 []++(Q8 "rows_with" 49 151 3 355 648 []))))))))))))
def Vp (P:Pz):BT:=iF (iL (rC P) [(3,W5b P),(12,W3a P)]) 291 (rY P)
theorem g13(p:W3)(b:Y3)(w:W6)(os:OsState):gs p b w os 371 rC 291 555 uF (Pos.mk 95 0 95 8) Vp 360 654 (Pos.mk 151 0 152 84):=by unfold gs;rw[PySem.W.Fast.te10110043849684766642,PySem.W.Fast.te14364793385576792824];kernel_rfl
def W0b(P:Pz):List DictEntry:=W0c P++[(dn P "product_of" 662 (.ref 366)),(dn P "apart_by" 668 (.ref 371)),(dn P "NUMBERS_BEHIND" 692 (.ref 372)),(dn P "check_move" 698 (.ref 377)),(dn P "has_move_form" 704 (.ref 382)),(dn P "named_cells" 711 (.ref 389)),(dn P "turned" 717 (.ref 394)),(dn P "mixed" 723 (.ref 399)),(dn P "mixed_at" 732 (.ref 406)),(dn P "spun_where" 738 (.ref 411)),(dn P "word_behind" 744 (.ref 416))]
def W5a(P:Pz):=Fl ((dn P "__name__" 165 (.str "spinboard.moves" 669))::W0b P) 63
def _O(P:Pz):List Value:=_M P++[(.int 153 0),(.int 0 0),(.ref 365),(.int 158 0),(.int 0 0),(.ref 370),(.int 164 0),(.int 0 0),(.ref 376),(.int 173 0),(.int 0 0),(.ref 381),(.int 183 0),(.int 0 0),(.ref 388),(.int 185 0),(.int 0 0),(.ref 393),(.int 194 0),(.int 0 0),(.ref 398),(.int 196 0),(.int 0 0),(.ref 405),(.int 200 0),(.int 0 0),(.ref 410),(.int 202 0),(.int 0 0),(.ref 415)]
def W2z(P:Pz):=Ea (_O P)
def Xa(P:Pz):=Fl [(dn P "flip" 671 (.int 1 672)),(dn P "mix" 673 (.int 1 674)),(dn P "turn" 675 (.int 2 676)),(dn P "if" 677 (.int 2 678)),(dn P "pair" 679 (.int 2 680)),(dn P "swap" 681 (.int 2 682)),(dn P "cross" 683 (.int 3 684))] 7
def j5(P:Pz):=tq #[(.str "move" 708)]
noncomputable def j4(P:Pz):=Obj.mk .none none (Data.func (FuncData.mk "named_cells" "named_cells" (HN (top 56)) (FuncBody.stmts (Gb (top 56))) (DG (top 63)) 0 [] .none .none .none .none none .none .none 0)) #[]
def jz(P:Pz):=(Ln "named_cells" 705 "named_cells" 706 707 183 1 0 0 3 383 true 181 384 (.ref 385) (.ref 386) (.ref 387) 709 183 710)
noncomputable def XS(P:Pz):=Obj.mk (.type "function") none (Data.func (FuncData.mk "named_cells" "named_cells" (HN (top 56)) (FuncBody.stmts (Gb (top 56))) (DG (top 63)) 3 [] .none .none .none (.str "spinboard.moves" 669) none (.ref 388) .none 0)) #[]
def rW(P:Pz):List Obj:=Q8 "product_of" 50 153 1 360 654 ["marks","made","mark"]++(Q8 "apart_by" 51 158 2 367 663 []++([Xa P]++(Py "check_move" 54 164 2 373 693 []++(Py "has_move_form" 55 173 1 378 699 []++([tz,Ni,j5 P,tz,j4 P,jz P,XS P]++(Py "turned" 57 185 2 390 712 []++(Py "mixed" 58 194 2 395 718 []++(Py "mixed_at" 59 196 3 400 724 ["board","word","bit"]++(Py "spun_where" 60 200 3 407 733 []++(Py "word_behind" 61 202 2 412 739 []))))))))))
def T15 (P:Pz):BT:=iF (iL (Vp P) [(3,W5a P),(12,W2z P)]) 360 (rW P)
theorem g14(p:W3)(b:Y3)(w:W6)(os:OsState):gs p b w os 398 Vp 360 654 XR (Pos.mk 151 0 152 84) T15 417 745 (Pos.mk 202 0 212 44):=
 (byRow2 "special-get-raises" (P:=λw=>(λw:World=>gs p b w os 398 Vp 360 654 XR (Pos.mk 151 0 152 84) T15 417 745 (Pos.mk 202 0 212 44)) w) (λw=>by show (λw:World=>gs p b w os 398 Vp 360 654 XR (Pos.mk 151 0 152 84) T15 417 745 (Pos.mk 202 0 212 44)) (World.withFollow w "special-get-raises" false);unfold gs;rw[PySem.W.Fast.te10110043849684766642,PySem.W.Fast.te14364793385576792824];kernel_rfl) (λw=>by show (λw:World=>gs p b w os 398 Vp 360 654 XR (Pos.mk 151 0 152 84) T15 417 745 (Pos.mk 202 0 212 44)) (World.withFollow w "special-get-raises" true);unfold gs;rw[PySem.W.Fast.te10110043849684766642,PySem.W.Fast.te14364793385576792824];kernel_rfl)) w
def W0a(P:Pz):List DictEntry:=W0b P++[(dn P "exchanged" 754 (.ref 423)),(dn P "back_move" 761 (.ref 430)),(dn P "moved_through" 773 (.ref 437)),(dn P "moved_by" 783 (.ref 444)),(dn P "moved_by_mix" 794 (.ref 451)),(dn P "moved_by_turn" 804 (.ref 458)),(dn P "moved_by_if" 815 (.ref 465)),(dn P "moved_by_pair" 826 (.ref 472)),(dn P "run" 838 (.ref 479)),(dn P "backward" 844 (.ref 484)),(dn P "laid" 857 (.ref 491)),(dn P "layer_to_sign" 863 (.ref 496))]
def W4z(P:Pz):=Fl ((dn P "__name__" 165 (.str "spinboard.layers" 845))::W0a P) 75
def _R(P:Pz):List Value:=_O P++[(.int 213 0),(.int 0 0),(.ref 422),(.int 216 0),(.int 0 0),(.ref 429),(.int 221 0),(.int 0 0),(.ref 436),(.int 226 0),(.int 0 0),(.ref 443),(.int 240 0),(.int 0 0),(.ref 450),(.int 245 0),(.int 0 0),(.ref 457),(.int 250 0),(.int 0 0),(.ref 464),(.int 254 0),(.int 0 0),(.ref 471),(.int 263 0),(.int 0 0),(.ref 478),(.int 268 0),(.int 0 0),(.ref 483),(.int 271 0),(.int 0 0),(.ref 490),(.int 277 0),(.int 0 0),(.ref 495)]
def W2y(P:Pz):=Ea (_R P)
def rT(P:Pz):List Obj:=Py "exchanged" 62 213 3 417 745 ["word","bit","other","both"]++(Py "back_move" 63 216 1 424 755 ["move"]++(Ux "moved_through" 65 221 2 431 764 ["mark","row","behind","move"]++(Ux "moved_by" 66 226 2 438 774 ["mark","move","bit","other"]++(Ux "moved_by_mix" 67 240 2 445 784 ["mark","bit","flips","signs","moved"]++(Ux "moved_by_turn" 68 245 3 452 795 ["mark","bit","k","signs"]++(Ux "moved_by_if" 69 250 3 459 805 ["mark","bit","other","flips","signs"]++(Ux "moved_by_pair" 70 254 3 466 816 ["mark","bit","other","signs","moved"]++(uH "run" 72 263 2 473 829 ["board","row","behind","move"]++(uH "backward" 73 268 1 480 839 []++(nD "laid" 75 271 2 485 847 ["rows","cells","row","cell","mark"]++(nD "layer_to_sign" 76 277 3 492 858 [])))))))))))
def rB (P:Pz):BT:=iF (iL (T15 P) [(3,W4z P),(12,W2y P)]) 417 (rT P)
theorem g15(p:W3)(b:Y3)(w:W6)(os:OsState):gs p b w os 401 T15 417 745 uE (Pos.mk 202 0 212 44) rB 497 864 (Pos.mk 277 0 288 14):=by unfold gs;rw[PySem.W.Fast.te10110043849684766642,PySem.W.Fast.te14364793385576792824];kernel_rfl
def yd(P:Pz):List DictEntry:=W0a P++[(dn P "moves_to_sign" 871 (.ref 503)),(dn P "widened" 879 (.ref 508)),(dn P "widened_at" 888 (.ref 515)),(dn P "has_first_cells" 896 (.ref 522)),(dn P "narrowed" 902 (.ref 527)),(dn P "guarded" 912 (.ref 534)),(dn P "check_cells" 920 (.ref 541)),(dn P "unguarded" 930 (.ref 548)),(dn P "_law_cell_at" 940 (.ref 555)),(dn P "_law_whole" 947 (.ref 562)),(dn P "_law_lowest" 953 (.ref 567)),(dn P "_law_spin" 967 (.ref 574))]
def W4y(P:Pz):=Fl ((dn P "__name__" 165 (.str "law_spinboard_k82_guarded_and_back" 931))::yd P) 87
def _V(P:Pz):List Value:=_R P++[(.int 289 0),(.int 0 0),(.ref 502),(.int 294 0),(.int 0 0),(.ref 507),(.int 298 0),(.int 0 0),(.ref 514),(.int 300 0),(.int 0 0),(.ref 521),(.int 302 0),(.int 0 0),(.ref 526),(.int 308 0),(.int 0 0),(.ref 533),(.int 312 0),(.int 0 0),(.ref 540),(.int 315 0),(.int 0 0),(.ref 547),(.int 320 0),(.int 0 0),(.ref 554),(.int 324 0),(.int 0 0),(.ref 561),(.int 326 0),(.int 0 0),(.ref 566),(.int 333 0),(.int 0 0),(.ref 573)]
def W2x(P:Pz):=Ea (_V P)
def x17(P:Pz):List Obj:=nD "moves_to_sign" 77 289 2 497 864 ["letter","cell"]++(Jx "widened" 79 294 2 504 874 []++(Jx "widened_at" 80 298 3 509 880 ["board","many","word"]++(Jx "has_first_cells" 81 300 2 516 889 ["word","many"]++(Jx "narrowed" 82 302 2 523 897 []++(Jx "guarded" 83 308 3 528 903 ["board","rows","cells","row"]++(Jx "check_cells" 84 312 2 535 913 ["found","cells"]++(Jx "unguarded" 85 315 3 542 921 ["board","rows","cells","row"]++(Du "_law_cell_at" 87 320 2 549 933 ["_law_script","_law_k"]++(Du "_law_whole" 88 324 1 556 941 ["_law_found"]++(Du "_law_lowest" 89 326 2 563 948 []++(Du "_law_spin" 90 333 2 568 954 ["_law_one","_law_k","_law_a","_law_b","_law_c","_law_d","_law_h","_law_j"])))))))))))
def rA (P:Pz):BT:=iF (iL (rB P) [(3,W4y P),(12,W2x P)]) 497 (x17 P)
theorem g16(p:W3)(b:Y3)(w:W6)(os:OsState):gs p b w os 377 rB 497 864 uD (Pos.mk 277 0 288 14) rA 575 968 (Pos.mk 333 0 337 51):=by unfold gs;rw[PySem.W.Fast.te10110043849684766642,PySem.W.Fast.te14364793385576792824];kernel_rfl
def yg(P:Pz):List DictEntry:=yd P++[(dn P "_law_amount_by" 973 (.ref 579)),(dn P "_law_board_by" 979 (.ref 584)),(dn P "_law_great" 987 (.ref 591)),(dn P "_law_ones" 995 (.ref 598)),(dn P "_law_apart" 1003 (.ref 605)),(dn P "_law_left_over" 1013 (.ref 612)),(dn P "_law_kept" 1019 (.ref 617)),(dn P "_law_laid" 1029 (.ref 624)),(dn P "_law_is_board" 1035 (.ref 629)),(dn P "_law_hefts_are" 1041 (.ref 634)),(dn P "_law_is_another" 1048 (.ref 641)),(dn P "_law_refused" 1059 (.ref 648)),(dn P "_law_wide" 1079 (.ref 655))]
def W4x(P:Pz):=Fl ((dn P "__name__" 165 (.str "law_spinboard_k82_guarded_and_back" 931))::yg P) 100
def _W(P:Pz):List Value:=_V P++[(.int 338 0),(.int 0 0),(.ref 578),(.int 351 0),(.int 0 0),(.ref 583),(.int 356 0),(.int 0 0),(.ref 590),(.int 361 0),(.int 0 0),(.ref 597),(.int 367 0),(.int 0 0),(.ref 604),(.int 369 0),(.int 0 0),(.ref 611),(.int 374 0),(.int 0 0),(.ref 616),(.int 388 0),(.int 0 0),(.ref 623),(.int 393 0),(.int 0 0),(.ref 628),(.int 402 0),(.int 0 0),(.ref 633),(.int 414 0),(.int 0 0),(.ref 640),(.int 420 0),(.int 0 0),(.ref 647),(.int 435 0),(.int 0 0),(.ref 654)]
def W2w(P:Pz):=Ea (_W P)
def x18(P:Pz):List Obj:=Du "_law_amount_by" 91 338 2 575 968 []++(Du "_law_board_by" 92 351 2 580 974 []++(Du "_law_great" 93 356 0 585 980 ["_law_found","_law_k"]++(Du "_law_ones" 94 361 1 592 988 ["_law_number","_law_many"]++(Du "_law_apart" 95 367 2 599 996 ["_law_one","_law_other"]++(Du "_law_left_over" 96 369 2 606 1004 ["_law_mark","_law_basis","_law_vector","_law_one"]++(Du "_law_kept" 97 374 3 613 1014 []++(Du "_law_laid" 98 388 2 618 1020 ["_law_board","_law_mark","_law_made","_law_word"]++(Du "_law_is_board" 99 393 2 625 1030 []++(Du "_law_hefts_are" 100 402 2 630 1036 []++(Du "_law_is_another" 101 414 1 635 1042 ["_law_e"]++(Du "_law_refused" 102 420 4 642 1049 ["_law_way","_law_board","_law_rows","_law_cells","_law_e"]++(Du "_law_wide" 103 435 3 649 1060 ["_law_board","_law_k","_law_far","_law_many","_law_kept_here","_law_due","_law_word","_law_found","_law_back","_law_same","_law_some","_law_cells","_law_at","_law_alone"]))))))))))))
def q_ (P:Pz):BT:=iF (iL (rA P) [(3,W4x P),(12,W2w P)]) 575 (x18 P)
theorem g17(p:W3)(b:Y3)(w:W6)(os:OsState):gs p b w os 389 rA 575 968 t_ (Pos.mk 333 0 337 51) q_ 656 1080 (Pos.mk 435 0 467 80):=by unfold gs;rw[PySem.W.Fast.te10110043849684766642,PySem.W.Fast.te14364793385576792824];kernel_rfl
def W4f(P:Pz):List DictEntry:=yg P++[(dn P "_law_sizes" 1085 (.ref 660)),(dn P "_law_hit" 1100 (.ref 667)),(dn P "law" 1106 (.ref 672))]
def W2s(P:Pz):=Fl ((dn P "__name__" 165 (.str "law_spinboard_k82_guarded_and_back" 931))::W4f P) 103
def W0p(P:Pz):List Value:=_W P++[(.int 468 0),(.int 0 0),(.ref 659),(.int 478 0),(.int 0 0),(.ref 666),(.int 489 0),(.int 0 0),(.ref 671)]
def zA(P:Pz):=Ea (W0p P)
def rR(P:Pz):List Obj:=Du "_law_sizes" 104 468 3 656 1080 []++(Du "_law_hit" 105 478 4 661 1086 ["_law_found","_law_rows","_law_cells","_law_cell","_law_q","_law_f","_law_s","_law_at","_law_mark"]++(Du "law" 106 489 1 668 1101 []))
def T19 (P:Pz):BT:=iF (iL (q_ P) [(3,W2s P),(12,zA P)]) 656 (rR P)
theorem g18(p:W3)(b:Y3)(w:W6)(os:OsState):gs p b w os 90 q_ 656 1080 tu (Pos.mk 435 0 467 80) T19 673 1107 (Pos.mk 489 0 525 77):=by unfold gs;rw[PySem.W.Fast.te10110043849684766642,PySem.W.Fast.te14364793385576792824];kernel_rfl
def Hl(P:Pz):List Obj:=[boot_o_0 P,boot_o_1 P,boot_o_2 P,W2s P,boot_o_4 P,boot_o_5 P,boot_o_6 P,boot_o_7 P,boot_o_8 P,boot_o_9 P,boot_o_10 P,tz,zA P,mO P,lY P]++(((x1 P).set 9 (qm P))++((x2 P)++((x3 P)++((x4 P)++((x5 P)++((x6 P)++((x7 P)++((x8 P)++((x9 P)++((x10 P)++((x11 P)++((x12 P)++((rZ P)++((rY P)++((rW P)++((rT P)++((x17 P)++((x18 P)++(rR P)))))))))))))))))))
def Hf (P:Pz):Heap:=Heap.mk (Array.mk (Hl P)) life
theorem m_(w:W6)(os:OsState):topRun treeTable pr w 11 (some (.ref 6)) 2 ((SharedT.mk (T19 w.params) 673 life (Array.mk []) (Drawn.mk 0 0 0 0) 1107 os).abs) (Thread.mk (doneF .next) cE (Pos.mk 489 0 525 77) BB)=some (Shared.mk (Hf w.params) (Array.mk []) (Drawn.mk 0 0 0 0) 1107 os):=by rw[PySem.W.Fast.te14082659384304107361,PySem.W.Fast.te14364793385576792824];kernel_rfl
noncomputable abbrev MM:Nat:=12+(1+(196+(214+(214+(214+(214+(214+(214+(214+(214+(246+(246+(387+(390+(371+(398+(401+(377+(389+(90+2))))))))))))))))))))
theorem gY(w:W6)(os:OsState):topRun treeTable pr w 11 (some (.ref 6)) MM (Shared.mk (boot_heap w.params) (Array.mk []) boot_drawn boot_toks os) (topStub pr)=some (Shared.mk (Hf w.params) (Array.mk []) (Drawn.mk 0 0 0 0) 1107 os):=go_top (jW w os) (piece_block (W3x w os) (Io (Ip (g0 _ _ w os)) (Io (Ip (g1 _ _ w os)) (Io (Ip (g2 _ _ w os)) (Io (Ip (g3 _ _ w os)) (Io (Ip (g4 _ _ w os)) (Io (Ip (g5 _ _ w os)) (Io (Ip (g6 _ _ w os)) (Io (Ip (g7 _ _ w os)) (Io (Ip (g8 _ _ w os)) (Io (Ip (g9 _ _ w os)) (Io (Ip (g10 _ _ w os)) (Io (Ip (g11 _ _ w os)) (Io (Ip (g12 _ _ w os)) (Io (Ip (g13 _ _ w os)) (Io (Ip (g14 _ _ w os)) (Io (Ip (g15 _ _ w os)) (Io (Ip (g16 _ _ w os)) (Io (Ip (g17 _ _ w os)) (Io (Ip (g18 _ _ w os)) (piece_nil (m_ w os))))))))))))))))))))))
noncomputable def qq:Program:={pr with main:={ pr.main with body:=[top 1,top 2,top 3,top 4,top 5,top 6,top 7,top 8,top 9,top 10,top 11,top 12,top 14,top 16,top 17,top 18,top 19,top 20,top 21,top 23,top 24,top 25,top 26,top 27,top 28,top 29,top 30,top 31,top 32,top 34,top 35,top 36,top 38,top 39,top 40,top 41,top 43,top 44,top 45,top 46,top 47,top 48,top 49,top 50,top 51,top 53,top 54,top 55,top 56,top 57,top 58,top 59,top 60,top 61,top 62,top 63,top 65,top 66,top 67,top 68,top 69,top 70,top 72,top 73,top 75,top 76,top 77,top 79,top 80,top 81,top 82,top 83,top 84,top 85,top 87,top 88,top 89,top 90,top 91,top 92,top 93,top 94,top 95,top 96,top 97,top 98,top 99,top 100,top 101,top 102,top 103,top 104,top 105,top 106]}}
noncomputable def loose:List PySem.Str:=[Str.ofString "NUMBERS_BEHIND"]
noncomputable def lv:List (PySem.Str×WData):=[]
noncomputable abbrev NN:Nat:=10494
noncomputable def aa:List Addr:=[2,3,15,22,23,24,25,28,35,36,37,40,47,48,49,52,59,60,61,64,71,72,73,76,83,84,85,88,95,96,97,100,107,108,109,112,119,120,121,124,131,133,134,136,137,138,139,140,143,150,152,153,155,156,157,158,159,162,169,171,172,174,175,176,177,178,181,183,184,186,187,188,190,191,193,194,195,198,199,200,202,203,205,206,207,209,210,212,213,214,216,217,219,220,221,223,224,226,227,228,230,231,233,234,235,237,238,240,241,242,244,245,247,248,249,251,252,254,255,256,258,259,261,262,263,265,266,268,269,270,272,273,275,276,277,279,280,282,283,284,286,287,289,290,291,292,294,295,297,298,299,301,302,304,305,306,308,309,311,312,313,316,317,318,320,321,323,324,325,326,329,330,331,334,335,336,338,339,341,342,343,345,346,348,349,350,353,354,355,358,359,360,362,363,365,366,367,370,371,372,373,376,377,378,381,382,383,385,386,388,389,390,393,394,395,398,399,400,402,403,405,406,407,410,411,412,415,416,417,419,420,422,423,424,426,427,429,430,431,433,434,436,437,438,440,441,443,444,445,447,448,450,451,452,454,455,457,458,459,461,462,464,465,466,468,469,471,472,473,475,476,478,479,480,483,484,485,487,488,490,491,492,495,496,497,499,500,502,503,504,507,508,509,511,512,514,515,516,518,519,521,522,523,526,527,528,530,531,533,534,535,537,538,540,541,542,544,545,547,548,549,551,552,554,555,556,558,559,561,562,563,566,567,568,570,571,573,574,575,578,579,580,583,584,585,587,588,590,591,592,594,595,597,598,599,601,602,604,605,606,608,609,611,612,613,616,617,618,620,621,623,624,625,628,629,630,633,634,635,637,638,640,641,642,644,645,647,648,649,651,652,654,655,656,659,660,661,663,664,666,667,668,671,672]
def KK (P:Pz):Frag:=aa.map λa=>(a,(Hl P).getD a Ni)
theorem W4n:∀w:World,(fencedOpening treeTable pr w NN).map (λs=>(s.heap,s.gens,s.drawn,s.toks))=some (boot_heap w.params,Array.mk [],boot_drawn,boot_toks):=
 boot_open (p:=pr) (N:=NN) (by kernel_rfl) (by kernel_rfl) (λs=>by kernel_rfl)
theorem W4i(w:W6):((boot_heap w.params).isNs mainGlobals && (Array.mk []:Array GenState).size == 0,(boot_heap w.params).objs.size,(boot_heap w.params).nsMap mainGlobals "__annotations__")=(true,11,((some (.ref 6)):Option Value)):=by kernel_rfl
theorem le_:Nat.ble MM NN=true:=by kernel_rfl
noncomputable abbrev rr:OpenRow:=PySem.Challenge.rw_spinboard_k82_guarded_and_back.row
noncomputable abbrev HH:Hook:=kHook KK aa (λ_=>by kernel_rfl)
noncomputable abbrev Xt (s:W1):Bool:=xlAt qq lv s && recOk (RowW.records rr.toRowW) s
noncomputable abbrev sf (w:W6)(os:OsState):Shared:=Shared.mk (Hf w.params) (Array.mk []) (Drawn.mk 0 0 0 0) 1107 os
theorem lk1(w:W6)(os:OsState):(staticsOk (importedModules pr.main.body) (boot_heap w.params) (Hf w.params) && namesBound pr (Hf w.params) && gensDone (sf w os) && laidKept (boot_heap w.params) (Hf w.params))=true:=by rw[PySem.W.Fast.te5923862056798008813];kernel_rfl
theorem lk2g{q:Program}{l}:∀{x},x.1=expectedOf q→x.2.1=bltViewBooted→x.2.2.1=true→x.2.2.2.1=true→x.2.2.2.2=(pinGoodD (drecsOf q),plainGoodE q (looseW q l),plainGoodD q l,wideGood q,clsGoodW q l)→x=openGood q l
| (_,_,_,_,_),rfl,rfl,rfl,rfl,rfl=>rfl
theorem lk2a(w:W6)(os:OsState):(openSeen qq loose (importedModules pr.main.body) Xt true (sf w os)).1=expectedOf qq:=by rw[PySem.W.Fast.te4187177175401517315,PySem.W.Fast.te5923862056798008813];kernel_rfl
theorem lk2b(w:W6)(os:OsState):(openSeen qq loose (importedModules pr.main.body) Xt true (sf w os)).2.1=bltViewBooted:=by rw[PySem.W.Fast.te4187177175401517315,PySem.W.Fast.te5923862056798008813];kernel_rfl
theorem lk2c(w:W6)(os:OsState):(openSeen qq loose (importedModules pr.main.body) Xt true (sf w os)).2.2.1=true:=by rw[PySem.W.Fast.te4187177175401517315,PySem.W.Fast.te5923862056798008813];kernel_rfl
theorem lk2d(w:W6)(os:OsState):(openSeen qq loose (importedModules pr.main.body) Xt true (sf w os)).2.2.2.1=true:=by rw[PySem.W.Fast.te4187177175401517315,PySem.W.Fast.te5923862056798008813];kernel_rfl
theorem lk2e(w:W6)(os:OsState):(openSeen qq loose (importedModules pr.main.body) Xt true (sf w os)).2.2.2.2=(pinGoodD (drecsOf qq),plainGoodE qq (looseW qq loose),plainGoodD qq loose,wideGood qq,clsGoodW qq loose):=by rw[PySem.W.Fast.te4187177175401517315,PySem.W.Fast.te5923862056798008813];kernel_rfl
theorem lk2(w:W6)(os:OsState):openSeen qq loose (importedModules pr.main.body) Xt true (sf w os)=openGood qq loose:=lk2g (lk2a w os) (lk2b w os) (lk2c w os) (lk2d w os) (lk2e w os)
theorem lk3(w:W6)(os:OsState):HH.obs (sf w os)=HH.val w:=by kernel_rfl
theorem XM:LeftO pr qq loose Xt HH.obs HH.val NN :=
 LeftO.of_pieces (H₀:=boot_heap) (H₁:=Hf) W4n W4i gY le_ λw=>funext λos=>looks_pair (lk1 w os) (looks_pair (lk2 w os) (lk3 w os))
theorem Wa:PySem.Challenge.rw_spinboard_k82_guarded_and_back.wellSaid=true:=by rw[PySem.W.Fast.te9446332074065402090];kernel_rfl
theorem jg(P:Pz):(KK P).lookup 672=some (nC "law" 106 671):=by kernel_rfl
theorem jh(P:Pz):(KK P).lookup 389=some (XS P):=by kernel_rfl
theorem jk(P:Pz):(KK P).lookup 291=some (Xc P):=by kernel_rfl
theorem ji(P:Pz):(KK P).lookup 372=some (Xa P):=by kernel_rfl
theorem jj(P:Pz):(KK P).lookup 325=some (Xb P):=by kernel_rfl
theorem jm(P:Pz):(KK P).lookup 121=some (mW P):=by kernel_rfl
theorem k73(P:Pz):(KK P).lookup 73=some (j73 P):=by kernel_rfl
theorem k24(P:Pz):(KK P).lookup 24=some (qm P):=by kernel_rfl
theorem ft{K:U0}{x:Str}{st:Stmt}{f:Y4}{oc:W7}{od an:Y0}{osl:W9}{dV kV doc pm cdv ct:W7}
  (l:K.lookup f=some ⟨oc,od,.func (PySem.W.fnOf x x (HN st) (Gb st) (DG st) dV kV doc pm an cdv ct),osl⟩) (a:PySem.W.nsIn K mainGlobals x=some (some (.ref f)):=by kernel_rfl) (c:PySem.W.codeIn K cdv x=true:=by kernel_rfl) (k:PySem.W.keepIn K (.ref f)=true:=by kernel_rfl):Ab K x st dV:=fat a l c k
theorem fz{P:Pz}{n:Str}{i:Nat}(m:Str)(mt a c:Nat)(l:(KK P).lookup a=some (Uw n n (top i) 3 m mt c 0):=by kernel_rfl)(x:PySem.W.nsIn (KK P) mainGlobals n=some (some (.ref a)):=by kernel_rfl)(y:PySem.W.codeIn (KK P) (.ref c) n=true:=by kernel_rfl)(z:PySem.W.keepIn (KK P) (.ref a)=true:=by kernel_rfl):Ab (KK P) n (top i) .none:=ft l x y z
theorem f56(P:Pz):Ab (KK P) "named_cells" (top 56) .none:=ft (jh P)
end Hd
end Ar
end
set_option maxHeartbeats 4000000
namespace Ar
open L2 Am Pc Ba
section
variable {P:W3}{w:W6}{K:U0}{mg:U6}{base:Heap}{k:Nat}{h:Heap}
theorem xU{x:Int}(h1:-16<x)(h2:x<16):Sz 100 x:=Sz.mono (j:=5) (by unfold Sz;lia) (by decide)
theorem s_0:Sz 100 0:=xU (by decide) (by decide)
theorem s_1:Sz 100 1:=xU (by decide) (by decide)
def CZ (K:U0)(H:Hp)(p:Y4)(x:A5):Prop:=Ax K H p ((l5 x).map V.int)
variable{H:Hp}{p:Y4}{x:A5}
theorem CZ.of(h:H p=some (tA x)):CZ K H p x:=Ax.of h
variable{H':Hp}
theorem CZ.same(h:CZ K H p x)(s:Same H H'):CZ K H' p x:=s.tup h
variable{ys:List V}
theorem CZ.upd{l:Y4}{xs:List V}(h:CZ K H p x)(e:H l=some (.lst xs)):CZ K (upd H l (.lst ys)) p x:=by
 rcases h with h | h
 ·rcases h with h | ⟨o,h⟩
  ·exact .inl (.inl (by rw[Cj (Lw h e (by intro z;cases z))];exact h))
  ·exact .inl (.inr ⟨o,by rw[Cj (Lw h e (by intro z;cases z))];exact h⟩)
 ·exact .inr h
def Bg (K:U0)(H:Hp)(ps:U5)(f:Nat->A5):Prop:=∀i p,ps[i]?=some p->CZ K H p (f i)
variable{ps:U5}{f:Nat->A5}
theorem Bg.same(v:Bg K H ps f)(s:Same H H'):Bg K H' ps f:=λi p e=>(v i p e).same s
theorem J4(v:Bg K H ps f)(s:Same H H')(e:CZ K H' p x):Bg K H' (ps++[p]) (λj=>if j=ps.length then x else f j):=by
 intro i q a;by_cases hi:i<ps.length
 ·rw[Rv hi]at a;show CZ K H' q (if i=ps.length then x else f i);rw[if_neg (by lia)];exact(v i q a).same s
 ·rw[Us (by lia)]at a;have b:i=ps.length:=by
   have:=(Fq.mp a).1;simp at this;lia
  subst b;simp at a;subst a;show CZ K H' _ (if ps.length=ps.length then x else f ps.length);rw[if_pos rfl];exact e
theorem JQ{l:Y4}{xs:List V}(v:Bg K H ps f)(e:H l=some (.lst xs)):Bg K (upd H l (.lst ys)) ps f:=λi q a=>(v i q a).upd e
theorem oU{X:Cx}:Cm X (.builtin "isinstance") (λxs H Q=>∃a ys,xs=[.ref a,.ty "tuple"]/\Ax X.K H a ys/\Q (.bl true) H):=by
 intro pins s σ H xs us Q I r h;obtain⟨a,ys,rfl,b,q⟩:=h;obtain⟨u,v,rfl,c,d⟩:=r.two;cases c;cases d;obtain⟨its,_,⟨o,h1,h2,_⟩,_⟩:=I.tuple b;exact KZ jH I.kIn ⟨o,h1,h2⟩ (qy X.K) (λz=>nomatch z) λtk=>⟨.bl true,H,I.tok tk,O,q⟩
theorem Xv{a:Y4}{ns:W0}{te:TE}{fr:L2.St}{H1:Hp}{acc:Y4}{Q:VK}(f:Int->V)(hl:Ax K H1 a (ns.map V.int))(hn:ns.length<=sizeLine)(hacc:H1 acc=none)(hs:∀n H (N:V->Hp->Prop),n∈ns->Same H1 H->N (f n) H->te (some (.int n)::fr) H N)
  (hd:∀H2,Same H1 H2->H2 acc=some (.lst (ns.map f))->Q (.ref acc) H2):Ii (fU K a) (CQ 0) te (none::fr) H1 acc Q:=by
 refine Xu (n:=ns.length) (val:=λi=>.int (ns.getD i 0)) (λi=>f (ns.getD i 0)) hn hacc (λi H hi s=>?_) (λH s=>⟨_,s.tup hl,by simp⟩) (λi H N hi s b=>hs _ H N (by simp[hi]) s b) (λH2 s h=>hd H2 s (by rw[h,YG]));have e:(ns.map V.int)[i]?=some (.int (ns.getD i 0)):=by simp[hi]
 refine⟨⟨_,_,s.tup hl,e⟩,λx H' y=>⟨y.1,?_⟩⟩;have:=y.2 _ (s.tup hl);rw[e]at this;exact(Option.some.inj this).symm
theorem Q9:¬ (HT.Ca 5 0 none=0/\HT.Ca 5 5 (some 4)=5):=by decide
def Jm:Sp:=λvs H Q _=>∃a b c d h:Int,vs=[.int a,.int b,.int c,.int d,.int h]/\0<=h/\∀(p:Y4) (H':Hp) (x y z u g:Int),Same H H'->H' p=some (T5 x y z u g)->Red a b c d h x y z u g->Q (.ref p) H'
def xQ:Sp:=λvs H Q _=>∃(p:Y4) (a b c d h:Int),vs=[.ref p]/\H p=some (T5 a b c d h)/\0<=h/\∀(r:Y4) (H':Hp) (x y z u g:Int),Same H H'->H' r=some (T5 x y z u g)->Red (b-d) (a+c) (b+d) (c-a) (h+1) x y z u g->Q (.ref r) H'
def vZ (K:U0):Sp:=λvs H Q _=>∃(p:Y4) (a b c d h:Int),vs=[.ref p]/\CZ K H p ((a,b,c,d),h)/\∀(r:Y4) (H':Hp),Same H H'->H' r=some (T5 (-d) a b c h)->Q (.ref r) H'
def Z1 (K:U0):Sp:=λvs H Q _=>∃(p:Y4) (a b c d h k:Int),vs=[.ref p,.int k]/\CZ K H p ((a,b,c,d),h)/\∀(r:Y4) (H':Hp),Same H H'->CZ K H' r (Dl (k%8).toNat (a,b,c,d),h)->Q (.ref r) H'
theorem X8a(F:Ab K "halved_out" (top 16) .none)(X:K.In h)(G:Ng h mg)(B:Bs mg):Ai P w K mg base (k+1) "halved_out" ["a","b","c","d","h"] Jm:=by
 refine F.cal X G ["a","b","c","d","h","places","lowest","less"] λg H vs Q E y h=>?_;obtain⟨a,b,c,d,h,rfl,j,q⟩:=h
 refine⟨_,(@Av _ _ _ _ _ (@BR _ _ 5 _ _ _ _ g rfl (Or.inl rfl) (Af Nq (Af Nq (Af Nq (pv 0) (pv 1)) (pv 2)) (pv 3)) rfl (.inl rfl))
  (@Av _ _ _ _ _ (B_ (CP Df (pv 5) Ac (Ad _))
   (@Aj _ _ _ (BJ (@Ci _ _ _ _ _ (Aa Ac (Aa Ac (Aa Ac (Aa Ac (Aa Ac Ae))))))))
   CJ)
  (@Av _ _ _ _ _ (@BR _ _ 6 _ _ _ _ g rfl (Or.inl rfl) (Af Gq (QH Ph Od Pk QW (Af Di (pv 5) (Vm bw (pv 5)))) Ac) rfl (.inl rfl))
  (@Av _ _ _ _ _ (@BR _ _ 7 _ _ _ _ g rfl (Or.inl rfl) (CG (aM rfl) rfl B.min boot_min (Aa (pv 6) (Aa (pv 4) Ae))) rfl (.inl rfl))
  (@Aj _ _ _ (BJ (@Ci _ _ _ _ _ (Aa (Af Jd (pv 0) (pv 7)) (Aa (Af Jd (pv 1) (pv 7)) (Aa (Af Jd (pv 2) (pv 7)) (Aa (Af Jd (pv 3) (pv 7)) (Aa (Af Gq (pv 4) (pv 7)) Ae)))))))))))),?_⟩
 try dsimp only[CN]
 refine⟨_,O,_,O,_,_,O,O,_,O,_,_,O,O,_,O,_,_,O,O,?_⟩;refine⟨_,O,O,_,O,Iv (λe=>?_) (λe=>?_)⟩
 ·obtain⟨rfl,rfl,rfl,rfl⟩:=Ju.mp e;exact⟨by show 5<=sizeLine;decide,λp hp=>q p _ 0 0 0 0 0 (Ao hp _) Al ⟨⟨by lia,.inl rfl⟩,⟨by simp[Fp],by simp[Fp],by simp[Fp],by simp[Fp]⟩,CT _,CT _,CT _,CT _,j⟩⟩
 obtain⟨v,ev,hd,s⟩:=lowest e;obtain⟨f,x,o,t,n,r,l,u⟩:=Xl j hd s rfl;have i:((Builtin.Int.intBits (Builtin.bitAnd (Builtin.bitOr (Builtin.bitOr (Builtin.bitOr a b) c) d) (-(Builtin.bitOr (Builtin.bitOr (Builtin.bitOr a b) c) d))):Nat):Int)-1=v:=ev;refine⟨_,O,_,O,_,O,_,_,O,O,O,_,O,O,_,_,O,O,?_⟩;show V_ _ _ _ (List.set _ 6 (some (V.int (((Builtin.Int.intBits (Builtin.bitAnd (Builtin.bitOr (Builtin.bitOr (Builtin.bitOr a b) c) d) (-(Builtin.bitOr (Builtin.bitOr (Builtin.bitOr a b) c) d))):Nat):Int)-1)))) H;rw[i];generalize hm:(if h<(v:Int) then h else (v:Int))=m at *;refine⟨_,O,_,O,_,_,O,?_⟩;rw[hm];refine⟨_,O,_,O,_,_,O,O,f,_,O,_,O,_,_,O,O,f,_,O,_,O,_,_,O,O,f,_,O,_,O,_,_,O,O,f,_,O,_,O,_,_,O,O,(by show 5<=sizeLine;decide),λp hp=>?_⟩;exact q p _ _ _ _ _ _ (Ao hp _) Al ⟨o,t,n,r,l,u,by lia⟩
theorem X7t(F:Ab K "spun_once" (top 20) .none)(X:K.In h)(G:Ng h mg):Ai P w K mg base (k+1) "spun_once" ["one"] (vZ K):=by
 refine F.cal X G ["one"] λf H vs Q E e h=>?_;obtain⟨p,a,b,c,d,h,rfl,hp,q⟩:=h;have S:Ax K H p [.int a,.int b,.int c,.int d,.int h]:=hp;refine⟨_,(@Aj _ _ _ (BJ (@Ci _ _ _ _ _ (Aa (Vm bw (Aw BL (pv 0) Ac (λ_ _=>rfl))) (Aa (Aw BL (pv 0) Ac (λ_ _=>rfl)) (Aa (Aw BL (pv 0) Ac (λ_ _=>rfl)) (Aa (Aw BL (pv 0) Ac (λ_ _=>rfl)) (Aa (Aw BL (pv 0) Ac (λ_ _=>rfl)) Ae)))))))),?_⟩;try dsimp only[CN]
 refine⟨_,O,p,_,_,_,O,O,S,O,_,O,_,O,p,_,_,_,O,O,S,O,_,O,p,_,_,_,O,O,S,O,_,O,p,_,_,_,O,O,S,O,_,O,p,_,_,_,O,O,S,O,(by show 5<=sizeLine;decide),λr e=>?_⟩;exact q r _ (Ao e _) Al
theorem Y9f(F:Ab K "rooted" (top 21) .none)(X:K.In h)(G:Ng h mg)(cX:Ai P w K mg base k "halved_out" ["a","b","c","d","h"] Jm):Ai P w K mg base (k+1) "rooted" ["one"] xQ:=by
 refine F.cal X G ["one"] λl H vs Q E f h=>?_;obtain⟨p,a,b,c,d,h,rfl,hp,j,q⟩:=h;have S:Ax K H p [.int a,.int b,.int c,.int d,.int h]:=Ax.of hp;refine⟨_,(@Aj _ _ _ (BJ (Ay cX f rfl (Aa (Af Gq (Aw BL (pv 0) Ac (λ_ _=>rfl)) (Aw BL (pv 0) Ac (λ_ _=>rfl))) (Aa (Af Dn (Aw BL (pv 0) Ac (λ_ _=>rfl)) (Aw BL (pv 0) Ac (λ_ _=>rfl))) (Aa (Af Dn (Aw BL (pv 0) Ac (λ_ _=>rfl)) (Aw BL (pv 0) Ac (λ_ _=>rfl))) (Aa (Af Gq (Aw BL (pv 0) Ac (λ_ _=>rfl)) (Aw BL (pv 0) Ac (λ_ _=>rfl))) (Aa (Af Dn (Aw BL (pv 0) Ac (λ_ _=>rfl)) Ac) Ae)))))))),?_⟩;try dsimp only[CN]
 refine⟨_,O,p,_,_,_,O,O,S,O,_,O,p,_,_,_,O,O,S,O,_,_,O,O,_,O,p,_,_,_,O,O,S,O,_,O,p,_,_,_,O,O,S,O,_,_,O,O,
  _,O,p,_,_,_,O,O,S,O,_,O,p,_,_,_,O,O,S,O,_,_,O,O,_,O,p,_,_,_,O,O,S,O,_,O,p,_,_,_,O,O,S,O,_,_,O,O,_,O,p,_,_,_,O,O,S,O,_,_,O,O,?_⟩
 exact⟨_,_,_,_,_,O,(by show 0<=h+1;lia),λr H' x y z u g i e1 e=>q r H' x y z u g i e1 e⟩
theorem X7q(F:Ab K "spun" (top 19) .none)(X:K.In h)(G:Ng h mg)(B:Bs mg)(eJ:Ai P w K mg base k "spun_once" ["one"] (vZ K)):Ai P w K mg base (k+1) "spun" ["one","k"] (Z1 K):=by
 refine F.cal X G ["one","k","turning","step"] λe H vs Q E l h=>?_;obtain⟨p,a,b,c,d,h,j,rfl,hp,q⟩:=h;have S:Ax K H p [.int a,.int b,.int c,.int d,.int h]:=hp
 refine⟨_,(@Av _ _ _ _ _ (@BR _ _ 2 _ _ _ _ e rfl (Or.inl rfl) (pv 0) rfl (.inl rfl))
  (@Av _ _ _ _ _ (Hy PassesOwn.never rfl (J3 rfl B.range (Aa (Af Dp (pv 1) Ac) Ae)) (CV (i:=3) e rfl (Or.inl rfl))
   (@Aj _ _ _ (@BR _ _ 2 _ _ _ _ e rfl (Or.inl rfl) (Ay eJ l rfl (Aa (pv 2) Ae)) rfl (.inl rfl))))
  (@Aj _ _ _ (BJ (pv 2))))),?_⟩
 try dsimp only[CN]
 have m:=Jr j (show (8:Int)≠0 by decide);have o:=Ky j (show (0:Int)<8 by decide);refine⟨_,O,_,O,_,_,O,O,(by show (0:Int)<8;decide),_,O,(by lia),(by lia),Tf (n:=(j%8).toNat) (λi σ H'=>Same H H'/\∃t v,σ=[some (.ref p),some (.int j),some (.ref t),v]/\CZ K H' t (Dl i (a,b,c,d),h)) ⟨Same.refl _,p,none,O,hp⟩ ?_ ?_⟩
 ·rintro i σ H2 hi ⟨s2,t,v,rfl,f⟩;refine⟨_,O,t,_,_,_,_,_,O,f,λr H' s3 g=>?_⟩;exact⟨s2.trans s3,r,_,O,CZ.of g⟩
 ·rintro σ H2 ⟨s2,t,v,rfl,f⟩;exact⟨_,O,q t H2 s2 f⟩
structure Sum (a b c d h a' b' c' d' h' x y z u g:Int):Prop where
 amt:Hr x y z u g
 same:DQ (a*p2 h'+a'*p2 h) (b*p2 h'+b'*p2 h) (c*p2 h'+c'*p2 h) (d*p2 h'+d'*p2 h) (h+h') x y z u g
 le:g<=max h h'
theorem bY{a a' h h' m:Int}(h0:0<=h)(h0':0<=h')(hm:h<=m)(hm':h'<=m):Fp (a*p2 h'+a'*p2 h) (h+h') (a*2^(m-h).toNat+a'*2^(m-h').toNat) m:=by
 unfold Fp;rw[VB h0 h0'];show _=(a*p2 (m-h)+a'*p2 (m-h'))*(p2 h*p2 h');have e1:=QF h0 hm;have e2:=QF h0' hm';have l1:(a*p2 h'+a'*p2 h)*p2 m=a*p2 h'*p2 m+a'*p2 h*p2 m:=Int.add_mul ..;rw[l1,show a*p2 h'*p2 m=a*p2 h'*(p2 (m-h)*p2 h) by rw[<-e1],show a'*p2 h*p2 m=a'*p2 h*(p2 (m-h')*p2 h') by rw[<-e2]];grind
theorem bh(n:Nat):Sz (n+1) ((2:Int)^n):=by
 unfold Sz;rw[iQ];exact Kg (by decide) (Oa n)
theorem bZ{a a' h h' m:Int}{n N:Nat}(hm:m-h<=h'/\m-h'<=h)(z:Sz n a)(z':Sz n a')(hN:n+h.toNat+h'.toNat+2<=N):Sz N (a*2^(m-h).toNat+a'*2^(m-h').toNat):=by
 refine((z.mul (bh (m-h).toNat)).add (z'.mul (bh (m-h').toNat))).mono ?_;lia
structure rK (K:U0) (n:Nat) (vs:List V) (H:Hp) (p q:Y4) (a b c d h a' b' c' d' h':Int):Prop where
 vs:vs=[.ref p,.ref q]
 one:CZ K H p ((a,b,c,d),h)
 other:CZ K H q ((a',b',c',d'),h')
 h0:0<=h
 h0':0<=h'
 hh:h+h'<=40000
 hn:n<=500000
 z:L_ n a b c d
 z':L_ n a' b' c' d'
def p7 (K:U0):Sp:=λvs H Q _=>∃n p q a b c d h a' b' c' d' h',rK K n vs H p q a b c d h a' b' c' d' h'/\∀(r:Y4) (H':Hp) (x y z u g:Int),Same H H'->H' r=some (T5 x y z u g)->Sum a b c d h a' b' c' d' h' x y z u g->L_ (n+h.toNat+h'.toNat+2) x y z u->Q (.ref r) H'
def xM (K:U0):Sp:=λvs H Q _=>∃n p q a b c d h a' b' c' d' h',rK K n vs H p q a b c d h a' b' c' d' h'/\∀(r:Y4) (H':Hp) (x y z u g:Int),Same H H'->H' r=some (T5 x y z u g)->Sum a b c d h (-a') (-b') (-c') (-d') h' x y z u g->L_ (n+h.toNat+h'.toNat+2) x y z u->Q (.ref r) H'
theorem X7s(F:Ab K "plus" (top 17) .none)(X:K.In h)(G:Ng h mg)(B:Bs mg)(cX:Ai P w K mg base k "halved_out" ["a","b","c","d","h"] Jm):Ai P w K mg base (k+1) "plus" ["one","other"] (p7 K):=by
 refine F.cal X G ["one","other","h","up","other_up","sums"] λJ H vs Q E hr h=>?_;obtain⟨n,p,q,a,b,c,d,h,a',b',c',d',h',⟨rfl,e1,e2,I,e,hh,hn,z,f⟩,kq⟩:=h;have S:Ax K H p [.int a,.int b,.int c,.int d,.int h]:=e1;have M:Ax K H q [.int a',.int b',.int c',.int d',.int h']:=e2
 refine⟨_,(@Av _ _ _ _ _ (@BR _ _ 2 _ _ _ _ J rfl (Or.inl rfl) (CG (X1g rfl) rfl B.max boot_max (Aa (Aw BL (pv 0) Ac (λ_ _=>rfl)) (Aa (Aw BL (pv 1) Ac (λ_ _=>rfl)) Ae))) rfl (.inl rfl))
  (@Av _ _ _ _ _ (@BR _ _ 3 _ _ _ _ J rfl (Or.inr rfl) (Af Gq (pv 2) (Aw BL (pv 0) Ac (λ_ _=>rfl))) rfl (.inl rfl))
  (@Av _ _ _ _ _ (@BR _ _ 4 _ _ _ _ J rfl (Or.inr rfl) (Af Gq (pv 2) (Aw BL (pv 1) Ac (λ_ _=>rfl))) rfl (.inl rfl))
  (@Av _ _ _ _ _ (Td (i:=5) rfl J rfl rfl (Bl.of (Nc:=["x","y","up","other_up"]) (mp:=[none,none,some 3,some 4]) (by kernel_rfl)) (W1j true true rfl B.zip (Aa (Nv bV (pv 0) Lx (K7 Ac)) (Aa (Nv bV (pv 1) Lx (K7 Ac)) Ae))) (λ_ _ _ _=>(Vb rfl (show (["x","y","up","other_up"]:W5).Nodup by decide +kernel) rfl rfl rfl rfl)) (λ_ _ _ _=>(Af Dn (Af Ft (pv 0) (pv 2)) (Af Ft (pv 1) (pv 3)))) rfl)
  (@Aj _ _ _ (BJ (Ay cX hr rfl (Aa (Aw Eo (pv 5) Ac (λ_ _=>rfl)) (Aa (Aw Eo (pv 5) Ac (λ_ _=>rfl)) (Aa (Aw Eo (pv 5) Ac (λ_ _=>rfl)) (Aa (Aw Eo (pv 5) Ac (λ_ _=>rfl)) (Aa (pv 2) Ae)))))))))))),?_⟩
 try dsimp only[CN]
 refine⟨_,O,p,_,_,_,O,O,S,O,_,O,q,_,_,_,O,O,M,O,_,_,O,?_⟩;generalize hm:(if h'>h then h' else h)=m;have t:h<=m:=by rw[<-hm];split<;>lia
 have C:h'<=m:=by rw[<-hm];split<;>lia
 have U:m-h<=h'/\m-h'<=h/\m<=h+h':=by rw[<-hm];split<;>lia
 refine⟨_,O,_,O,p,_,_,_,O,O,S,O,_,_,O,O,?_⟩;refine⟨_,O,_,O,q,_,_,_,O,O,M,O,_,_,O,O,?_⟩;refine⟨_,O,4,O,p,_,O,S,Q9,λl1 o=>?_⟩;refine⟨_,O,4,O,q,_,O,(Ao o _).tup M,Q9,λl2 j=>?_⟩;have s2:Same H (upd (upd H l1 (.tup ([a,b,c,d].map V.int))) l2 (.tup ([a',b',c',d'].map V.int))):=(Ao o _).trans (Ao j _);refine⟨l1,l2,[a,b,c,d].map V.int,[a',b',c',d'].map V.int,O,(Ao j _).tup (Ax.of Al),Ax.of Al,λacc l=>?_⟩;refine X8u (K:=K) (ns:=[a,b,c,d]) (ms:=[a',b',c',d']) (fr:=[some (.int (m-h)),some (.int (m-h'))]) (λx y=>x*2^(m-h).toNat+y*2^(m-h').toNat) rfl (show 4<=sizeLine by decide) ((Ao j _).tup (Ax.of Al)) (Ax.of Al) l
  (λha hQ=>⟨_,_,O,Ax.of ha,O,_,_,O,_,_,O,O,hQ⟩) ?_ ?_
 ·intro x y H2 N R T kN;have zx:Sz n x:=by
   simp only[Dw,I_,Ht]at R;rcases R with rfl | rfl | rfl | rfl
   ·exact z.z1
   ·exact z.z2
   ·exact z.z3
   ·exact z.z4
  have W:Sz n y:=by
   simp only[Dw,I_,Ht]at T;rcases T with rfl | rfl | rfl | rfl
   ·exact f.z1
   ·exact f.z2
   ·exact f.z3
   ·exact f.z4
  exact⟨_,O,_,O,_,_,O,O,⟨n,zx,(by lia),(by lia)⟩,_,O,_,O,_,_,O,O,⟨n,W,(by lia),(by lia)⟩,_,_,O,O,kN⟩
 intro H2 s3 Y;have s:Ag K H2 acc ((List.zipWith (λx y=>x*2^(m-h).toNat+y*2^(m-h').toNat) [a,b,c,d] [a',b',c',d']).map V.int):=Ag.of Y;refine⟨_,O,acc,_,_,_,O,O,s,O,_,O,acc,_,_,_,O,O,s,O,_,O,acc,_,_,_,O,O,s,O,_,O,acc,_,_,_,O,O,s,O,_,O,_,_,_,_,_,O,(by show 0<=m;lia),λr H' x y v u g s4 Z D=>?_⟩;have A:n+h.toNat+h'.toNat+2<=n+h.toNat+h'.toNat+2:=CT _;have L:m-h<=h'/\m-h'<=h:=⟨U.1,U.2.1⟩;refine kq r H' x y v u g (s2.trans (s3.trans s4)) Z ⟨D.amt,DQ.trans ⟨bY I e t C,bY I e t C,bY I e t C,bY I e t C⟩ D.same,by have:=D.le;rw[<-hm]at this;split at this<;>lia⟩ (D.sz ⟨?_,?_,?_,?_⟩)
 ·exact bZ L z.z1 f.z1 A
 ·exact bZ L z.z2 f.z2 A
 ·exact bZ L z.z3 f.z3 A
 ·exact bZ L z.z4 f.z4 A
theorem X3e(F:Ab K "minus" (top 18) .none)(X:K.In h)(G:Ng h mg)(e6:Ai P w K mg base k "plus" ["one","other"] (p7 K))(eA:Ai P w K mg base k "spun" ["one","k"] (Z1 K)):Ai P w K mg base (k+1) "minus" ["one","other"] (xM K):=by
 refine F.cal X G ["one","other"] λC H vs Q E j h=>?_;obtain⟨n,p,q,a,b,c,d,h,a',b',c',d',h',⟨rfl,e1,e2,A,f,s,B,z,e⟩,t⟩:=h;refine⟨_,(@Aj _ _ _ (BJ (Ay e6 j rfl (Aa (pv 0) (Aa (Ay eA j rfl (Aa (pv 1) (Aa Ac Ae))) Ae))))),?_⟩;try dsimp only[CN]
 refine⟨_,O,_,O,q,_,_,_,_,_,_,O,e2,λr H2 s2 m=>?_⟩;have i:CZ K H2 r ((-a',-b',-c',-d'),h'):=m;exact⟨n,p,r,a,b,c,d,h,-a',-b',-c',-d',h',⟨O,e1.same s2,i,A,f,s,B,z,⟨e.z1.neg,e.z2.neg,e.z3.neg,e.z4.neg⟩⟩,λl o x y v u g s3=>t l o x y v u g (s2.trans s3)⟩
end
end Ar
namespace L2
def Qa (P:Params)(e:DictEntry)(p:Str×Int):Prop:=∃t u,e=⟨PyData.keyHash P p.1,.str p.1 t,.int p.2 u⟩
structure K8 (K:U0) (P:Params) (a:Y4) (kvs:List (Str×Int)):Prop where
 ex:∃o es ep,K.lookup a=some o/\o.ExactDict/\o.data=.dict es ep/\Paired (Qa P) es.toList kvs
 nd:(kvs.map (·.1)).Nodup
 ns:(a == sysModules)=false
noncomputable def txt (p:Str×Int):Key×V:=(Sum.inr p.1,.int p.2)
theorem K8.at{K:U0}{prog:W3}{w:W6}{a:Y4}{kvs:List (Str×Int)}{h:Heap}(D:K8 K w.params a kvs)(X:K.In h):∃vs,KV (kvs.map txt) vs/\h.DictOf (JM prog w) a vs:=by
 obtain⟨o,es,ep,i,g,hd,hp⟩:=D.ex;have d:∀{l:List DictEntry}{kvs:List (Str×Int)},Paired (Qa w.params) l kvs->∃vs:List (Key×Value),KV (kvs.map txt) vs/\Pairs (JM prog w) l vs:=by
  intro l kvs h;induction h with
  | nil=>exact⟨[],.nil,.nil⟩
  | @cons e p l kvs b hr ih =>
   obtain⟨vs,c,f⟩:=ih;obtain⟨t,u,rfl⟩:=b;exact⟨(Sum.inr p.1,.int p.2 u)::vs,.cons ⟨O,u,O⟩ c,.cons (oE p.1 t) rfl f⟩
 have all:∀{l:List DictEntry}{kvs:List (Str×Int)},Paired (Qa w.params) l kvs->∀e∈l,∃p,Qa w.params e p:=by
  intro l kvs h;induction h with
  | nil=>intro e b;cases b
  | @cons e p l kvs b hr ih =>
   intro j h';rcases Dw.mp h' with rfl | h'
   ·exact⟨p,b⟩
   ·exact ih j h'
 obtain⟨vs,c,f⟩:=d hp;refine⟨vs,c,o,es,ep,X _ _ i,g,hd,?_,f,?_⟩
 ·intro e b;obtain⟨p,t,u,rfl⟩:=all hp e (Array.mem_toList_iff.mpr b);exact⟨Sum.inr p.1,oE p.1 t,O⟩
 ·rw[<-c.keys,KN];have e:kvs.map ((λk=>k.1) ∘ txt)=(kvs.map (·.1)).map (Sum.inr:Str->Key):=by rw[KN];rfl
  rw[e];exact jB.mpr (D.nd.imp λh z=>h (Sum.inr.inj z))
noncomputable def numAt (kvs:List (Str×Int))(x:Str):Option V:=Dq (kvs.map txt) (Sum.inr x)
def X6t (kvs:List (Str×Int))(ty:TE):TE:=λσ H Q=>ty σ H λy H1=>∃x,y=.str x/\Q (.bl (!(numAt kvs x).isSome)) H1
def WQ (kvs:List (Str×Int))(ty:TE):TE:=λσ H Q=>ty σ H λy H1=>∃x v,y=.str x/\numAt kvs x=some v/\Q v H1
section
variable {X:Cx}{o i:Expr}{pos:Pos}{ty:TE}{aN:Y4}{kvs:List (Str×Int)}
theorem Y8s(D:K8 X.K X.w.params aN kvs)(hi:PE X i ty)(ho:PE X o (tC (.ref aN))):PC X .NotIn i o (X6t kvs ty):=by
 intro pins s σ H Q I h;refine Bm (hi pins s σ H _ I h) λm j ⟨y,H1,l,e,x,f,c⟩=>Bm (ho pins j σ H1 (λv H2=>v=.ref aN/\H2=H1) l ⟨O,O⟩) λu s2 ⟨v,H2,b,g,ev,d⟩=>?_;subst ev d f;cases g;obtain⟨vs,a,dd⟩:=D.at (prog:=X.prog) (w:=X.w) b.kIn;refine wpAny_notIn_of (Vj (k:=Sum.inr x) e) D.ns dd.mapOf ?_;rw[<-(a.val (Sum.inr x)).isSome_eq];exact⟨.bl _,H2,b.tok _,O,c⟩
theorem X7k(D:K8 X.K X.w.params aN kvs)(ho:PE X o (tC (.ref aN)))(hi:PE X i ty)(hs:UG i):PE X (.Subscript o i pos) (WQ kvs ty):=by
 intro pins s σ H Q I h;refine vh tV.lookup hs (Bm (ho pins s σ H (λv H2=>v=.ref aN/\H2=H) I ⟨O,O⟩) λu p ⟨v,H1,q,n,ev,e⟩=>?_);subst ev e;cases n;refine Bm (hi pins p σ H1 _ q h) λr s2 ⟨y,H2,c,f,x,b,l,g,d⟩=>?_;subst l;obtain⟨vs,a,dd⟩:=D.at (prog:=X.prog) (w:=X.w) c.kIn;obtain⟨u,m,j⟩:=Gx.some_of (v:=b) (o:=valueAt vs (Sum.inr x)) (by rw[<-g];exact a.val (Sum.inr x));exact⟨dd.typeIs,wpAny_getItem_of (Vj (k:=Sum.inr x) f) dd.mapOf m ⟨b,H2,c.tok _,j,d⟩⟩
end
end L2
namespace L2
noncomputable abbrev unlike (ns:W0):Nat:=(firstMet (λi=>ns.getD i 0) ns.length).length
noncomputable abbrev fresh0 (led:Bool):Obj:={ cls:=.type "set",dict:=none,data:=.set #[] 0 (.fresh 0 0 led)}
def Iz (prog:W3)(w:W6)(s:W1)(ns:W0)(S:Int->Bool)(s':W1):Prop :=
 ∃h' tk,s'={s with heap:=h',toks:=tk}/\h'.SetOf (intKind prog w) s.heap.objs.size S (unlike ns)/\∀b o,s.heap.get? b=some o->h'.get? b=some o
section
variable {prog:W3}{w:W6}{A:Y1}{E:U3}{s:W1}{p:Y4}{its:W4}{ns:W0}
theorem X4h(hh:A.handled=none)(ht:s.heap.IsTuple p its)(hi:IntsAre its.toList ns)(hb:ns.length+1<scanBound)(led:Bool){R:Result->Shared->Prop}
  (h:∀s',Iz prog w s ns (λk=>(firstMet (λi=>ns.getD i 0) ns.length).any (· == k)) s'->R (.ok (.ret .none)) s'):
  codeAny (model prog w) A (.builtin "set.update.loop" ⟨[.ref s.heap.objs.size,.ref (s.heap.push (fresh0 led)).objs.size],[]⟩) R {s with heap:=(s.heap.push (fresh0 led)).push { cls:=.type "tuple_iterator",data:=.fields #[.ref p,.int 0 0]}}:=by
 obtain⟨o,f,r,n,hd⟩:=id ht;have lt:p<s.heap.objs.size:=Cd f;have e1:(s.heap.push (fresh0 led)).objs.size=s.heap.objs.size+1:=NK ..;have m:its.size=ns.length:=by rw[<-Pg];exact hi.length
 have W:=(Walks.tuple (prog:=prog) (w:=w) (A:=A.in1) (by simp[hh]) (s.heap.push (fresh0 led)).objs.size p (by rw[e1];exact Eb (Um lt)) its).toS;have t:(s.heap.push (fresh0 led)).IsTuple p its:=⟨o,FP _ f,r,n,hd⟩;refine codeAny_set_update_loopS W s.heap.objs.size (by rw[e1];simp only[Dw,I_,Ht,not_or];exact⟨Eb (Oa _),M9 lt⟩) (λi=>ns.getD i 0) (λi v q=>hi.int_at i v (by rw[sI];exact q)) (by rw[m];exact hb) its.size 0 _ rfl (Fy _)
  ⟨⟨_,Gv _ rfl,O,O⟩,t.push _⟩ ?_ ?_
 ·have g:((s.heap.push (fresh0 led)).push { cls:=.type "tuple_iterator",data:=.fields #[.ref p,.int 0 0]}).get? s.heap.objs.size=some (fresh0 led):=FP _ (Gv _ rfl);exact SetOf_congr ((setObjOf_fresh (knd:=intKind prog w) led).setOf g (by unfold scanBound;lia)) (λ_=>rfl) rfl
 ·intro s' a l;rw[m]at l;obtain⟨h',g',d',c,d⟩:=s';obtain rfl:g'=s.gens:=a.gens;obtain rfl:d'=s.drawn:=a.drawn;obtain rfl:d=s.os:=a.os;refine h _ ⟨h',c,O,l,λb o e=>?_⟩;have j:=Cd e;exact a.heap b o (by rw[e1];simp only[Dw,I_,Ht,not_or];exact⟨Eb j,Eb (Um j)⟩) (FP _ (FP _ e))
theorem X4b(hh:A.handled=none)(ht:s.heap.IsTuple p its)(hi:IntsAre its.toList ns)(hb:ns.length+1<scanBound)(led:Bool){R:U3}
  (h:∀s',Iz prog w s ns (λk=>(firstMet (λi=>ns.getD i 0) ns.length).any (· == k)) s'->R .none s'):
  codeAny (model prog w) A (.call (.builtin "set.__init__") ⟨[.ref s.heap.objs.size,.ref p],[]⟩) (wants R E) {s with heap:=s.heap.push (fresh0 led)}:=by
 have ty:Shared.TypeIs {s with heap:=s.heap.push (fresh0 led)} (.ref s.heap.objs.size) "set":=⟨_,Gv _ rfl,O⟩;obtain⟨o,j,f,n,hd⟩:=id ht;obtain⟨g,b,d,a⟩:=o;simp only at f hd;subst f hd;have c:(s.heap.push (fresh0 led)).get? p=some { cls:=.type "tuple",dict:=b,data:=.seq its n,slots:=a}:=FP _ j;have l:(s.heap.push (fresh0 led)).IsTuple p its:=⟨_,c,O,n,O⟩;have r:=F.sub_tuple_set;have q:=F.sub_tuple_frozenset;have m:(Value.type "tuple" == Value.type "dict")=false:=by decide
 refine codeAny_call_builtin F.called_set.init.plain F.entry_set_init (check_set_init_1 ty ?_);unfold Builtin.«set.__init__» noKeywords Builtin.Frozenset.updateFrom;generalize hP:pyIter=PI;wp_walk;subst hP;refine jL l (Bw (wpAny_runValue (X4h (by simp[hh]) ht hi hb led λs' e=>?_)));exact Cq (Cq (h _ e))
theorem X6z(hh:A.handled=none)(ht:s.heap.IsTuple p its)(hi:IntsAre its.toList ns)(hb:ns.length+1<scanBound){Q:U3}
  (h:∀s',Iz prog w s ns (λk=>(firstMet (λi=>ns.getD i 0) ns.length).any (· == k)) s'->Q (.ref s.heap.objs.size) s'):wpAny (model prog w) A (call (.type "set") [.ref p]) Q E s:=by
 obtain⟨c,tl,f⟩:=F.called_set.mro;have m:=F.called_set.made;have o:=F.called_set.sub;have t:=F.called_set.notType;have v:=F.called_set.canCreate;have q:=F.typeCall_set_1 (.ref p);refine Ub (codeAny_of_tree ?_);show wpAny _ _ (callAny (.type "set") _) _ _ _;refine Cq ⟨Code.quiet_builtin _ (by decide +kernel),iZ F.entry_type_call ?_⟩;rw[Around.under_plain (weight_type_call_type "set" [.ref p] []) rfl];repeat any_goals first | assumption | wp_step
 refine Qq (code_set_new_1 (.ref p) (E:=E) (Q₁:=λj g=>∃a:Bool,j=.ref s.heap.objs.size/\g={s with heap:=s.heap.push (fresh0 a)}) λa=>⟨a,O,O⟩) λr g d=>?_;rcases r with e | fl
 ·exact d
 cases fl with
 | ret j =>
  obtain⟨a,rfl,rfl⟩:=d;have ty:Shared.TypeIs {s with heap:=s.heap.push (fresh0 a)} (.ref s.heap.objs.size) "set":=⟨_,Gv _ rfl,O⟩;have x:=F.called_set.init.lookup;have u:=F.called_set.init.bind (.ref s.heap.objs.size);repeat any_goals first | assumption | wp_step
  refine Qq (X4b (E:=E) (R:=λr s'=>r=.none/\Iz prog w s ns (λk=>(firstMet (λi=>ns.getD i 0) ns.length).any (· == k)) s') (by simp[hh]) ht hi hb a λs' e=>⟨O,e⟩) λl n b=>?_;rcases l with e | fl₂
  ·exact b
  cases fl₂ with
  | ret r =>
   obtain⟨rfl,e⟩:=b;repeat any_goals first | assumption | wp_step
   exact h _ e
  | next=>exact b.elim
  | brk=>exact b.elim
  | cont=>exact b.elim
 | next=>exact d.elim
 | brk=>exact d.elim
 | cont=>exact d.elim
end
theorem yG:∀{ns:W0}{us:U9},Vals (ns.map V.int) us->IntsAre us ns
 | [],_,.nil=>.nil
 | n::ns,_,.cons r rs=>by
  obtain⟨t,rfl⟩:=r;exact .cons n t (yG rs)
section
variable {X:Cx}
theorem X1e(hc:X.calm=true):Cm X (.type "set") (λxs H Q=>∃(p:Y4) (ns:W0),xs=[.ref p]/\Ax X.K H p (ns.map V.int)/\ns.length<64/\∀(l:Y4) (S:Int->Bool),H l=none->Q (.ref l) (upd H l (.set S (unlike ns)))):=by
 intro pins s σ H xs us Q I r h;obtain⟨p,ns,rfl,f,b,q⟩:=h;obtain⟨u,rfl,i⟩:=vals1 r;cases i;obtain⟨its,g,k,_⟩:=I.tuple f;obtain⟨o,c,a,n,hd⟩:=k;refine X6z (I.ok.hd hc) ⟨o,c,a,n,hd⟩ (ns:=ns) (yG (by simpa using g)) (by unfold scanBound;lia) λs' ⟨h',tk,e,j,d⟩=>?_;subst e;exact⟨.ref s.heap.objs.size,_,I.laid (o:=.set _ (unlike ns)) (t':=tk) d (CT _) j,O,q _ _ (I.hok.fresh (CT _))⟩
theorem X1h:Cm X (.builtin "len") (λxs H Q=>∃(p:Y4) (S:Int->Bool) (n:Nat),xs=[.ref p]/\H p=some (.set S n)/\n<64/\Q (.int n) H):=by
 intro pins s σ H xs us Q I r h;obtain⟨p,S,n,rfl,hp,c,q⟩:=h;obtain⟨u,rfl,e⟩:=vals1 r;cases e;have f:s.heap.SetOf (intKind X.prog X.w) p S n:=I.hok p _ hp;obtain⟨o,d,b⟩:=f.objOf;obtain⟨a,es,ep,t,hd,_,_,g,hf⟩:=b;subst g;exact call_len_set d a hd hf (by lia) ⟨.int es.size,H,(I.tok _).tok _,⟨_,O⟩,q⟩
end
end L2
namespace L2
section
variable {X:Cx}{e st:Expr}{lo hi:Option Expr}{te:TE}{tl th ts:TO}{p2 pos:Pos}
def Yj (X:Cx)(r:V->Option Int->Option Int->Option Int->Hp->VK->Prop):Prop :=
 ∀(pins:U1) (s:W1) (σ:St) (H:Hp) (x:V) (v vl vu vs:W7) (lo hi st:Option Int) (sl:Y4) (Q:VK),Inv X pins σ H s->RelV x v->s.heap.IsSliceOf sl vl vu vs->IsPart vl lo->IsPart vu hi->IsPart vs st->r x lo hi st H Q ->
  ∃T id,typeLookup (.type T) "__getitem__"=pure (some (.builtin id))/\s.TypeIs v T/\wpAny (model X.prog X.w) X.A (getItem v (.ref sl)) (EP X pins σ Q) X.xe s
def fZ (r:V->Option Int->Option Int->Option Int->Hp->VK->Prop)(te:TE)(tl th ts:TO):TE:=λσ H Q=>te σ H λx H1=>tl σ H1 λl H2=>th σ H2 λu H3=>ts σ H3 λt H4=>r x l u t H4 Q
theorem Y8m{r:V->Option Int->Option Int->Option Int->Hp->VK->Prop}(hr:Yj X r)(he:PE X e te)(hl:PO X lo tl)(hu:PO X hi th)(ht:PO X (some st) ts){ops:Value->Value->List Value}(hsub:∀v u,subscripted (.Slice lo hi (some st) p2) false v u=operate (ops v u) (getItem v u)):PE X (.Subscript e (.Slice lo hi (some st) p2) pos) (fZ r te tl th ts):=by
 intro pins s σ H Q I h;refine Subscript_ (Bm (he pins s σ H _ I h) λv E ⟨x,H1,F,j,f⟩=>?_);refine wpAny_Slice (Bm (hl pins E σ H1 _ F f) λvl s2 ⟨l,H2,D,o,g⟩=>Bm (hu pins s2 σ H2 _ D g) λa s3 ⟨u,m,k,y,B⟩=>Bm (ht pins s3 σ m _ k B) λvs s4 ⟨t,d,C,ps,z⟩=>?_);have n:Inv X pins σ d {s4 with heap:=s4.heap.push { cls:=.type "slice",data:=.fields #[vl,a,vs]}}:=C.kept (t':=s4.toks) λb G q=>FP _ q;obtain⟨T,id,i,c,p⟩:=hr pins {s4 with heap:=s4.heap.push { cls:=.type "slice",data:=.fields #[vl,a,vs]}} σ d x v vl a vs l u t s4.heap.objs.size Q n j (Heap.IsSliceOf.new ..) o y ps z;show wpAny (model X.prog X.w) X.A (subscriptTail e (.Slice lo hi (some st) p2) v (.ref s4.heap.objs.size)) (EP X pins σ Q) X.xe {s4 with heap:=s4.heap.push { cls:=.type "slice",data:=.fields #[vl,a,vs]}};exact tail_any (ops:=ops v (.ref s4.heap.objs.size)) c i p (hsub _ _)
end
end L2
namespace HT
section
variable {prog:W3}{w:W6}{A:Y1}{E:U3}{s:W1}
theorem Z6s{t sl:Y4}{items:W4}{vl vu:W7}{lo hi:Option Int}{Q:U3}(ht:IsTup s.heap t items)(hs:s.heap.IsSliceOf sl vl vu .none)(pl:IsPart vl lo)(pu:IsPart vu hi)
  (h1:Ca items.size 0 lo=0) (h2:Ca items.size items.size hi=items.size) (h:Q (.ref t) s):wpAny (model prog w) A (getItem (.ref t) (.ref sl)) Q E s:=by
 obtain⟨os,a,b,c⟩:=id hs;have ty:s.TypeIs (.ref sl) "slice":=⟨os,a,b⟩;unfold getItem;try with_reducible refine Pb ?_
 first | refine Bw (Cq ?_) | skip
 refine Bw (wpAny_sequenceKey ht.typeIs (by decide) (Bw (jR (name:=Str.ofString "__getitem__") ht.typeIs PyProof.Rows.slot_tuple_getitem (ZR PyProof.Rows.slot_tuple_getitem ht.typeIs entry_tuple_getitem ?_ (args_tuple_getitem _ _)))));show wpAny _ _ (Builtin.Tuple.tupleItemsOf (.ref t) >>= _) _ _ s;refine Bw (tupleItemsOf_ ht (Bw (iC ty ?_)));rw[if_pos (by decide)];refine Bw (ux hs pl pu ?_);show wpAny _ _ (if (((Ca items.size 0 lo:Nat):Int) == 0 && (1:Int) == 1 && (Ca items.size items.size hi-Ca items.size 0 lo) == items.size)=true then _ else _) _ _ s;rw[if_pos (by rw[h1,h2];simp)];refine Bw ?_;unfold Builtin.Tuple.tupleIsExact;refine Bw (iC ht.typeIs (Cq ?_));rw[if_pos (by decide)];exact Bw (wpAny_rule (Cq ⟨_,O,Cq h⟩))
end
end HT
namespace L2
section
variable {X:Cx}
def gk (K:U0):V->Option Int->Option Int->Hp->VK->Prop:=λx lo hi H Q=>∃a xs,x=.ref a/\Ax K H a xs /\
 ((HT.Ca xs.length 0 lo=0/\HT.Ca xs.length xs.length hi=xs.length)/\Q (.ref a) H\/¬ (HT.Ca xs.length 0 lo=0/\HT.Ca xs.length xs.length hi=xs.length)/\∀p,H p=none->Q (.ref p) (upd H p (.tup (FT xs lo hi))))
theorem pW:Yk X (gk X.K):=by
 intro pins s σ H x v vl l lo hi k Q I i j e g h;obtain⟨a,xs,rfl,d,⟨c,q⟩ | ⟨c,q⟩⟩:=h
 ·cases i;obtain⟨its,r,f,m⟩:=I.tuple d;have b:=r.length;refine⟨"tuple",_,slot_tuple_getitem.lookup,f.typeIs,HT.Z6s f j e g (by rw[FJ,<-b];exact c.1) (by rw[FJ,<-b];exact c.2) ⟨.ref a,H,I,O,q⟩⟩
 ·exact bV pins s σ H _ v vl l lo hi k Q I i j e g ⟨a,xs,O,d,c,q⟩
end
end L2
namespace L2
theorem Y7o{prog:W3}{w:W6}{A:Y1}{env:Env}{c:Expr}{s:W1}{Q:Bool->Shared->Prop}(h:wpAny (model prog w) A (isTrue c env (eval c env)) Q Calm s):
  wpAny (model prog w) A (forIn [c] true λc r=>if r=true then do let ok ← isTrue c env (eval c env);pure (ForInStep.yield ok) else pure (ForInStep.yield r)) Q Calm s:=wpAny_tests_one h
theorem Z8t{prog:W3}{w:W6}{A:Y1}{R:Result->Shared->Prop}{s:W1}{e t i c:Expr}{sc:Scope}{pos:Pos}{it acc:W7}{env:Env}(J:Nat->Shared->Prop)
  (turn:∀n s,J n s->wpAny (model prog w) A (pyNext it) (λr b=>(r=none->R (.ok .next) b)/\∀v,r=some v ->
   wpAny (model prog w) A (letOwnedTupleGo t it v) (λ_ s2=>wpAny (model prog w) A (assign t env v) (λ_ s3=>wpAny (model prog w) A (isTrue c env (eval c env)) (λok a=>if ok=true then wpAny (model prog w) A (eval e env) (λx s4 =>
    wpAny (model prog w) A (call (.builtin "list.append") [acc,x]) (λ_ d=>∃m,m<n/\J m d) Calm s4) Calm a else ∃m,m<n/\J m a) Calm s3) Calm s2) Calm b) Calm s)
  (n:Nat) (h:J n s):codeAny (model prog w) A (.compLoop (.ListComp e [⟨t,i,[c],0⟩] sc pos) 0 it acc env) R s:=by
 have o:=compTurn_list e t i [c] sc pos it acc env;refine codeAny_loop rfl J (λn s j=>wpAny_noted (m:=compTurn (.ListComp e [⟨t,i,[c],0⟩] sc pos) 0 it acc env) ?_) n h;rw[o];refine Bw (Ug (Eu (turn n s j) λr b q=>?_));match r,q with
 | none,q=>exact Cq (q.1 rfl)
 | some v,q =>
  refine Eu (q.2 v rfl) λ_ s2 g=>Eu g λ_ s3 p=>Eu (Y7o p) λok s4 f=>?_;cases ok with
  | false=>exact Cq ⟨rfl,f⟩
  | true=>exact Bw (Eu f λx d l=>Eu l λ_ u k=>Cq (Cq ⟨rfl,k⟩))
def Nz (J:It)(g:TG)(tc:TT)(te:TE)(σ:St)(H:Hp)(acc:Y4)(Q:VK):Prop:=∃W:Nat->Nat->List V->St->Hp->Prop,(∃m,W 0 m [] σ (upd H acc (.lst []))) /\
 ∀i m ys σ2 H2,W i m ys σ2 H2->(J.stop i H2/\Q (.ref acc) H2)\/(J.go i H2/\∀x H3,J.yld i H2 x H3->g x σ2 H3 λσ4 H4=>tc σ4 H4 λb H5 =>
  (b=true->te σ4 H5 λy H6=>H6 acc=some (.lst ys)/\ys.length<sizeLine/\∃m',m'<m/\W (i+1) m' (ys++[y]) σ4 (upd H6 acc (.lst (ys++[y]))))/\(b=false->∃m',m'<m/\W (i+1) m' ys σ4 H5))
def WM (mp:Y2)(wi:TI)(g:TG)(tc:TT)(te:TE):TE:=λσ H Q=>wi σ H λJ H1=>∀acc,H1 acc=none->Nz J g tc te (sub mp σ) H1 acc Q
section
variable {X:Cx}{elt tg iter cond:Expr}{scope:Scope}{pos:Pos}{wi:TI}{g:TG}{tc:TT}{te:TE}{Nc:W5}{mp:Y2}
theorem X0c(hc:X.calm=true)(S:Bl X.N X.env.scope scope Nc mp)(hg:∀ex pins s H,PG (Bk X scope Nc ex pins s H) tg g)(ht:∀ex pins s H,PT (Bk X scope Nc ex pins s H) cond tc)(he:∀ex pins s H,PE (Bk X scope Nc ex pins s H) elt te)
  {pins:U1}{σ:St}{H2:Hp}{s2:W1}{E:U3}{it:Y4}{fp:U5}{tn:Nat->Heap->Prop}{J:It}{Q:VK}{RR:Value->Addr->Result->Shared->Prop}
  (I2:Inv X pins σ H2 s2) (T:Turn X.prog X.w X.K tg J fp it tn) (st2:tn 0 s2.heap) (f2:∀b∈fp,E_ X pins H2 b)
  (q:∀acc,H2 acc=none->Nz J g tc te (sub mp σ) H2 acc Q)
  (fin:∀acc C H' s' V,Q (.ref acc) H'->Inv X pins σ H' s'->s'.heap.Ns C V->H' C=none->X.s₀.heap.objs.size<=C->C≠X.env.locals->(∀x c,X.env.cells.lookup x=some c->c≠C)->(∀p∈X.pn++pins,p.1≠C)->RR (.ref acc) C (.ok .next) s'):
  wpAny (model X.prog X.w) X.A (newList []) (λacc s₃=>wpAny (model X.prog X.w) X.A (newFunctionEnv scope X.env.globals (clo scope.names X.env.cells) [] X.env.qual none .none (some X.env)) (λl s₄ =>
   codeAny (model X.prog X.w) X.A (.compStart (.ListComp elt [⟨tg,iter,[cond],0⟩] scope pos) 0 (.ref it) acc {l with scope:=relabel scope X.env}) (RR acc l.locals) s₄) E s₃) E s2:=by
 refine Qw (wpAny_newFunctionEnv S.nocell (by intro y hy;simp at hy) (λh₁ t k=>?_) S.kind);dsimp only at t k ⊢;have I3:=I2.lnew (its:=[]) (ys:=[]) (t':=s2.toks) .nil (Fy _);have Z:H2 s2.heap.objs.size=none:=I2.fresh;obtain⟨W,⟨m0,w0⟩,P⟩:=q s2.heap.objs.size Z;have F:(s2.heap.push { cls:=.type "list",dict:=none,data:=.seq ([]:U9).toArray}).objs.size=s2.heap.objs.size+1:=NK ..;have Y:∀b∈fp,b<s2.heap.objs.size:=λb hb=>by
  obtain⟨o,e,_⟩:=T.obj _ _ st2 b hb;exact Cd e
 have B:∀b∈fp,E_ X pins (upd H2 s2.heap.objs.size (.lst [])) b:=λb hb=>⟨by rw[Cj (Eb (Y b hb))];exact(f2 b hb).1,(f2 b hb).2⟩;have a:Inv X pins σ (upd H2 s2.heap.objs.size (.lst [])) (Ep s2):=I3;have hsz:(Ep s2).heap.objs.size=s2.heap.objs.size+1:=F;have j:∀b∈fp,b<(Ep s2).heap.objs.size:=λb hb=>by rw[hsz];exact Um (Y b hb)
 have k3:∀b o,(Ep s2).heap.get? b=some o->h₁.get? b=some o:=λb o e=>k.extBut b o (Eb (Cd e)) (FP _ e);have Ic:=wQ (tk:=(Ep s2).toks) a S B j t k3;have U:tn 0 h₁:=T.keep _ _ _ st2 λb hb o e=>k3 b o (FP _ e);have cC:X.s₀.heap.objs.size<=(Ep s2).heap.objs.size:=a.sz;have cL:(Ep s2).heap.objs.size≠X.env.locals:=M9 a.lt;have cc:∀x c,X.env.cells.lookup x=some c->c≠(Ep s2).heap.objs.size:=λx c e=>by
  obtain⟨v,o,ho,_⟩:=a.cell x c e;exact Eb (Cd ho)
 have cp:∀p∈X.pn++pins,p.1≠(Ep s2).heap.objs.size:=λp hp=>Eb (Cd (a.pin p hp).1);have h:∀{H':Hp},(∀b∈fp,H' b=none)->∀b∈fp,E_ (Bk X scope Nc fp pins (Ep s2) (upd H2 s2.heap.objs.size (.lst []))) [] H' b:=λhn b hb =>
  ⟨hn b hb,Eb (j b hb),λz=>by
   rcases Dw.mp (a.stkSub b z) with e | e
   ·exact(B b hb).2.1 e
   ·exact(B b hb).2.2.1 e,.inl hb,λx c e=>(B b hb).2.2.2.2.1 x c (RB a S e),λp hp=>(B b hb).2.2.2.2.2 p (by
    have:p∈(X.pn++pins)++[]:=hp
    simpa using this)⟩
 have m:∀s4:Shared,s4={ (Ep s2) with heap:=h₁,toks:=(Ep s2).toks} ->
   codeAny (model X.prog X.w) X.A (.compLoop (.ListComp elt [⟨tg,iter,[cond],0⟩] scope pos) 0 (.ref it) (.ref s2.heap.objs.size) (Bk X scope Nc fp pins (Ep s2) (upd H2 s2.heap.objs.size (.lst []))).env)
    (RR (.ref s2.heap.objs.size) (Ep s2).heap.objs.size) s4:=by
  rintro s4 rfl;refine Z8t (λn s'=>∃i ys σ' H',Inv (Bk X scope Nc fp pins (Ep s2) (upd H2 s2.heap.objs.size (.lst []))) [] σ' H' s'/\tn i s'.heap/\(∀b∈fp,H' b=none)/\W i n ys σ' H') ?_ m0
   ⟨0,[],sub mp σ,_,Ic,U,λb hb=>(B b hb).1,w0⟩
  rintro n s5 ⟨i,ys,σ5,H5,I5,M,R,w5⟩;rcases P i n ys σ5 H5 w5 with ⟨stop,qn⟩ | ⟨go,step⟩
  ·refine GK (T.done (Bk X scope Nc fp pins (Ep s2) (upd H2 s2.heap.objs.size (.lst []))) rfl rfl rfl hc i [] s5 σ5 H5 (λ_ _=>False) I5 (h R) M stop) (λr s6 ⟨hr,I6⟩=>?_) λ_ _ f=>f.elim;subst hr;obtain⟨m6,a3,_⟩:=I6.loc;refine⟨λ_=>?_,λ_ z=>nomatch z⟩;exact fin _ _ H5 s6 m6 qn (zG a B I6) a3 I6.free cC cL cc cp
  ·refine GK (T.item (Bk X scope Nc fp pins (Ep s2) (upd H2 s2.heap.objs.size (.lst []))) rfl rfl rfl hc i [] s5 σ5 H5 (λ_ _=>False) I5 (h R) M go) (λr s6 ⟨u,hr,h6⟩=>?_) λ_ _ f=>f.elim;subst hr;refine⟨(λz=>by cases z),?_⟩;rintro _ ⟨⟩;refine GK h6 (λ_ s7 ⟨x,H7,I7,r7,y7,G,a4⟩=>?_) λ_ _ f=>f.elim;have a7:=I7.pinned (h a4) (T.obj _ _ G);refine GK (hg _ _ _ _ _ s7 σ5 H7 x u _ a7 r7 (step x H7 y7)) (λ_ s8 ⟨L,H8,I8,q8⟩=>?_) λ_ _ f=>f.elim;refine GK (ht _ _ _ _ _ s8 L H8 _ I8 q8) (λbb s9 ⟨H9,I9,p9,n9⟩=>?_) λ_ _ f=>f.elim;have keeps:∀{H':Hp}{s':W1},Inv (Bk X scope Nc fp pins (Ep s2) (upd H2 s2.heap.objs.size (.lst []))) ([]++G8 fp s7.heap) L H' s'->tn (i+1) s'.heap/\∀b∈fp,H' b=none:=λ{H' s'} J' =>
    ⟨T.keep _ _ _ G λb hb o e=>(J'.pin (b,o) (JH _ (JH _ (Vf hb e)))).1,λb hb=>by
     obtain⟨o,e,d⟩:=T.obj _ _ G b hb
     exact(J'.pin (b,o) (JH _ (JH _ (Vf hb e)))).2.1⟩
   cases bb with
   | false =>
    obtain⟨V,I,w9⟩:=n9 rfl;rw[if_neg Gu];exact⟨V,I,i+1,ys,L,H9,I9.unpinned,(keeps I9).1,(keeps I9).2,w9⟩
   | true =>
    rw[if_pos rfl];refine GK (he _ _ _ _ _ s9 L H9 _ I9 (p9 rfl)) (λv a2 ⟨y,a0,a8,a5,a1,l10,V,I,a6⟩=>?_) λ_ _ f=>f.elim;refine GK (QV (X:=Bk X scope Nc fp pins (Ep s2) (upd H2 s2.heap.objs.size (.lst []))) _ a2 L a0 (.ref s2.heap.objs.size) [y] (.ref s2.heap.objs.size) [v] (λz Hz=>z=.non/\Hz=upd a0 s2.heap.objs.size (.lst (ys++[y]))) a8 rfl (.cons a5 .nil) ⟨_,ys,y,O,O,a1,l10,O,O⟩) (λb1 b0 ⟨z,a9,D,_,_,nC⟩=>?_) λ_ _ f=>f.elim;subst nC;exact⟨V,I,i+1,ys++[y],L,_,D.unpinned,(keeps D).1,(keeps D).2,a6⟩
 exact sX (m _ rfl) (T.self _ 0 _ _ _ U (m _ rfl))
theorem VD(hc:X.calm=true)(S:Bl X.N X.env.scope scope Nc mp)(hi:PI X tg iter wi)(hg:∀ex pins s H,PG (Bk X scope Nc ex pins s H) tg g)(ht:∀ex pins s H,PT (Bk X scope Nc ex pins s H) cond tc)(he:∀ex pins s H,PE (Bk X scope Nc ex pins s H) elt te)
  (hf:∀x,foldedSetIterable iter X.env x=pure x:=by intro _;rfl):PE X (.ListComp elt [⟨tg,iter,[cond],0⟩] scope pos) (WM mp wi g tc te):=by
 intro pins s σ H Q I h;rw[eval_ListComp];refine Zj (use:=none) rfl hf (aV (X6 I S)) S.kind S.names (Bm (hi pins s σ H _ I h) λv p h1=>Bm h1 λf s2 h2=>?_);obtain⟨it,fp,tn,J,H2,e,n,T,a,i,q⟩:=h2;subst e;refine X0c (RR:=λacc C=>compPost (model X.prog X.w) X.A X.xe none (EP X pins σ Q) acc C) hc S hg ht he n T a i q ?_;intro acc C H' s' c qq j k m c1 c2 c3 d;refine⟨c,k,λh' l=>⟨.ref acc,H',?_,O,qq⟩⟩;exact j.turnedNew (t':=s'.toks) (λb o hb e=>l.extBut b o hb e) m c1 c2 c3 d
theorem Y8f{i:Nat}{x:Str}{pos' spos:Pos}(hc:X.calm=true)(hN:X.N.Nodup)(hi':X.N[i]?=some x)(hx:X.env.scope.names.lookup x=some .local)(S:Bl X.N X.env.scope scope Nc mp)(hi:PI X tg iter wi)
  (hg:∀ex pins s H,PG (Bk X scope Nc ex pins s H) tg g) (ht:∀ex pins s H,PT (Bk X scope Nc ex pins s H) cond tc) (he:∀ex pins s H,PE (Bk X scope Nc ex pins s H) elt te)
  (hsw:swapsWith (.ListComp elt [⟨tg,iter,[cond],0⟩] scope pos) (some (.Name x pos')) spos.line X.env=pure true)
  (hf:∀x,foldedSetIterable iter X.env x=pure x:=by intro _;rfl):PS X (.Assign [.Name x pos'] (.ListComp elt [⟨tg,iter,[cond],0⟩] scope pos) spos) (O8 (WM mp wi g tc te) (CQ i)):=by
 intro pins s σ H D I h;rw[sS _ _ _ _ hsw];refine Bw (Ug (Bw ?_));show wpAny _ X.A (do let _ ← comprehension (.ListComp elt [⟨tg,iter,[cond],0⟩] scope pos) scope X.env _ (newList []) false (eval iter X.env) (some (assign (.Name x pos') X.env))) _ _ s
 refine Bw (GK (Zj (use:=some (assign (.Name x pos') X.env)) (Q:=λ_ s'=>SP X pins D .next s') rfl hf (aV (X6 I S)) S.kind S.names
  (Bm (hi pins s σ H _ I h) λv G h1=>Bm h1 λl s2 h2=>?_)) (λ_ s' r=>Cq (Cq r)) λ_ _ e=>e)
 obtain⟨it,fp,tn,J,H2,e,F,T,f,p,q⟩:=h2;subst e;refine X0c (Q:=λx H1=>CQ i x σ H1 D.nx) (RR:=λacc C=>compPost (model X.prog X.w) X.A X.xe (some (assign (.Name x pos') X.env)) (λ_ s'=>SP X pins D .next s') acc C) hc S hg ht he F T f p q ?_;intro acc C H' s' j qq u y E c1 c2 c3 k;show wpAny _ X.A (assign (.Name x pos') X.env (.ref acc)) _ _ _;refine jD (oM (v:=.ref acc) u hN hi' (.inl hx) rfl (λt n ⟨a,c,m⟩=>?_) (.inr hx));have d:C≠a:=by
  rcases m with z | z
  ·rw[z];exact c2
  ·exact Ne.symm (c3 x a z)
 refine⟨j,y.sameBut c d,λh' B=>⟨σ.set i (some (.ref acc)),H',?_,qq⟩⟩;exact n.turnedNew (t':=t.toks) (λb o hb e=>B.extBut b o hb e) E c1 c2 c3 k
end
def V9 (t:TE):TT:=λσ H Q=>t σ H λx H'=>∃i,x=.int i/\Q (i != 0) H'
theorem Kr{X:Cx}{a:Expr}{ta:TE}(ha:PE X a ta)(he:∀whole,isTrue a X.env whole=(do let v ← whole;standAt a.pos;holding [v] (truthy v))):PT X a (V9 ta):=by
 intro pins s σ H Q I h;refine isTrue_plain (Bm (ha pins s σ H _ I h) λv d ⟨x,H1,f,c,i,e,b⟩=>?_) (he _);subst e;exact W0x pins d σ H1 (.int i) v Q f c ⟨_,O,b⟩
theorem oF{lo:Int}{n:Nat}{tc:TT}{te:TE}{fr:St}{H1:Hp}{acc:Y4}{Q:VK}(Pv:Nat->List V->Hp->Prop)(hn:n<=sizeLine)(h0:Pv 0 [] (upd H1 acc (.lst [])))
  (hs:∀i ys H (N:Bool->Hp->Prop),i<n->ys.length<=i->Pv i ys H->(∀b a,(b=true->te (some (.int (lo+i))::fr) a λy c=>c acc=some (.lst ys)/\Pv (i+1) (ys++[y]) (upd c acc (.lst (ys++[y]))))->(b=false->Pv (i+1) ys a)->N b a)->tc (some (.int (lo+i))::fr) H N)
  (mono:∀{σ H}{R R':VK},(∀v H,R v H->R' v H)->te σ H R->te σ H R')
  (hd:∀ys H,Pv n ys H->Q (.ref acc) H):Nz (HS lo n) (CQ 0) tc te (none::fr) H1 acc Q:=by
 refine⟨λi m ys d H2=>m=n-i/\i<=n/\ys.length<=i/\(∃v,d=v::fr)/\Pv i ys H2,⟨n,by simp,Fy _,CT _,⟨_,O⟩,h0⟩,?_⟩;rintro i m ys d H2 ⟨rfl,hi,f,⟨v,rfl⟩,p⟩;by_cases hlt:i<n
 ·refine .inr ⟨hlt,λx j g=>?_⟩;obtain⟨rfl,rfl⟩:=g;show tc ((v::fr).set 0 (some (.int (lo+i)))) _ _;rw[List.set_cons_zero];refine hs i ys _ _ hlt f p λb a h hf=>⟨λe=>mono (λy c q=>?_) (h e),λe=>⟨n-(i+1),by lia,O,hlt,by lia,⟨_,O⟩,hf e⟩⟩;exact⟨q.1,by lia,n-(i+1),by lia,O,hlt,by rw[Ed];simp;lia,⟨_,O⟩,q.2⟩
 ·have e:i=n:=by lia
  subst e;exact .inl ⟨CT _,hd ys H2 p⟩
end L2
namespace Ar
open L2 Am Pc Ba
theorem Ov{X:Cx}{st:Stmt}:PS X st (λ_ _ _=>False):=λ_ _ _ _ _ _ h=>h.elim
theorem Y0n{ns:W0}(h:ns.Nodup):unlike ns=ns.length:=by
 have a:∀i,i<=ns.length->(firstMet (λi=>ns.getD i 0) i).length=i:=by
  intro i;induction i with
  | zero=>intro _;rfl
  | succ i ih =>
   intro hi;rw[firstMet_succ,step_length,firstMet_any,if_neg,ih (by lia)];intro z;obtain⟨y,c,e⟩:=Uj.mp z;obtain⟨j,b,rfl⟩:=GP.mp c;have b:=El.mp b;have e:ns.getD j 0=ns.getD i 0:=by simpa using e
   rw[Ef,Ef,GR (by lia),GR (by lia)]at e;have:=(List.getElem_inj h).mp e;lia
 exact a _ (CT _)
noncomputable abbrev NB:List (Str×Int):=[("flip",1),("mix",1),("turn",2),("if",2),("pair",2),("swap",2),("cross",3)]
noncomputable abbrev UJ (nm:Str)(ns:W0):HO:=.tup (.str nm::ns.map V.int)
noncomputable def named (nm:Str)(ns:W0):List Int:=if nm="turn" then ns.take 1 else ns
structure Form (nm:Str) (ns:W0):Prop where
 num:numAt NB nm=some (.int ns.length)
 len:ns.length<=3
 turn:nm="turn"->∃a k,ns=[a,k]/\1<=k/\k<=7
structure Fits (nm:Str) (ns:W0) (c:Nat):Prop where
 form:Form nm ns
 low:∀a∈named nm ns,0<=a/\a<c
 nd:(named nm ns).Nodup
def yU:Sp:=λvs H Q _=>∃(p:Y4) (nm:Str) (ns:W0),vs=[.ref p]/\H p=some (UJ nm ns)/\Form nm ns/\∀H',Same H H'->Q (.bl true) H'
def pZ:Sp:=λvs H Q _=>∃(p:Y4) (nm:Str) (ns:W0),vs=[.ref p]/\H p=some (UJ nm ns)/\Form nm ns/\∀(r:Y4) (H':Hp),Same H H'->H' r=some (.tup ((named nm ns).map V.int))->Q (.ref r) H'
def vW:Sp:=λvs H Q _=>∃(p:Y4) (nm:Str) (ns:W0) (c:Nat),vs=[.ref p,.int c]/\H p=some (UJ nm ns)/\Fits nm ns c/\∀H',Same H H'->Q (.ref p) H'
def Lz (K:U0):Sp:=λvs H Q _=>∃(l:Y4) (xs:List V) (c:Nat),vs=[.ref l]/\Ag K H l xs/\xs.length=2^c/\c<=6/\Q (.int c) H
variable{c:Nat}
theorem X4(h:c<=6):Builtin.Int.intBits (((2^c:Nat):Int))=c+1:=by
 have:c=0\/c=1\/c=2\/c=3\/c=4\/c=5\/c=6:=by lia
 rcases this with rfl | rfl | rfl | rfl | rfl | rfl | rfl<;>decide +kernel
variable{x:V}
theorem at0{xs:List V}:HF (x::xs) 0=some x:=Ol (show (x::xs)[0]?=some x from rfl)
theorem bK{xs:List V}:HT.Ca (x::xs).length 0 (some 1)=1:=by
 have:=HT.vR (x::xs).length 0 1;rw[show ((1:Nat):Int)=1 from rfl]at this;rw[this];simp
theorem _3{xs:List V}:FT (x::xs) (some 1) none=xs:=by
 unfold FT;rw[bK];have e2:HT.Ca (x::xs).length (x::xs).length none=(x::xs).length:=rfl;rw[e2];simp
theorem W2n(K:U0):PySem.W.kitOne K (.type "str") (.type "str")=some true:=by unfold PySem.W.kitOne;rw[if_pos (by decide)]
section
variable {P:W3}{w:W6}{K:U0}{mg:U6}{base:Heap}{k:Nat}{h:Heap}
theorem Fd:BZ ["thing"] ["thing"] (DG (top 14)):=fS
theorem oO(F:Ab K "is_whole" (top 14) .none)(X:K.In h)(G:Ng h mg)(B:Bs mg):Ai P w K mg base (k+1) "is_whole" ["thing"] QM:=by
 refine F.cal X G _ (S:=Fd) λb H vs Q E a h=>?_;obtain⟨i,rfl,q⟩:=h;refine⟨_,(@Aj _ _ _ (BJ (QG (CG Ox rfl B.isinstance Gy (Aa (pv 0) (Aa (K6 (v:=.ty "int") rfl B.int Xf rfl) Ae))) (Kq (Yc (CG Ox rfl B.isinstance Gy (Aa (pv 0) (Aa (K6 (v:=.ty "bool") rfl B.bool boot_bool rfl) Ae)))))))),?_⟩;try dsimp only[CN]
 refine⟨_,O,_,_,_,true,O,DP.int i,qt K,_,O,Ds ?_⟩;exact⟨_,O,_,_,_,false,O,DP.int i,qp K,_,O,q⟩
theorem Y6q(F:Ab K "cells_of" (top 36) .none)(X:K.In h)(G:Ng h mg)(B:Bs mg):Ai P w K mg base (k+1) "cells_of" ["board"] (Lz K):=by
 refine F.cal X G ["board"] λd H vs Q E b h=>?_;obtain⟨l,xs,c,rfl,a,len,c6,q⟩:=h;refine⟨_,(@Aj _ _ _ (BJ (Af Gq (QH Ph Od Pk QW (CG Eh rfl B.len EY (Aa (pv 0) Ae))) Ac))),?_⟩;try dsimp only[CN]
 refine⟨_,O,l,_,O,.inl a,O,_,O,O,_,_,O,O,?_⟩;show Q (.int (((Builtin.Int.intBits ((xs.length:Nat):Int):Nat):Int)-1)) H;rw[len,X4 c6,show (((c+1:Nat):Int)-1)=(c:Int) by lia];exact q
theorem X3c(F:Ab K "named_cells" (top 56) .none)(X:K.In h)(G:Ng h mg)(B:Bs mg):Ai P w K mg base (k+1) "named_cells" ["move"] pZ:=by
 refine F.cal X G ["move"] λg H vs Q E b h=>?_;obtain⟨p,nm,ns,rfl,hp,f,d⟩:=h;have SP:Ax K H p (.str nm::ns.map V.int):=Ax.of hp;refine⟨_,(@Aj _ _ _ (BJ (Nu (CP Df (Aw BL (pv 0) Ac (λ_ _=>rfl)) Fg (Ad _)) (Nv pW (pv 0) (K7 Ac) (K7 Ac)) (Nv pW (pv 0) (K7 Ac) Lx)))),?_⟩;try dsimp only[CN]
 refine⟨_,O,p,_,_,.str nm,O,O,SP,at0,O,_,O,BP (λz=>?_) (λz=>?_)⟩
 ·have e:nm="turn":=V.str.inj z;obtain⟨a,kk,rfl,_⟩:=f.turn e;refine⟨_,O,_,O,_,O,p,_,O,SP,.inr ⟨λc=>absurd c.1 (by rw[bK];decide),λr b=>d r _ (Ao b _) ?_⟩⟩;rw[Al];unfold named;rw[if_pos e];rfl
 ·have e:nm≠"turn":=λc=>z (by rw[c]);refine⟨_,O,_,O,p,_,O,SP,.inr ⟨λc=>absurd c.1 (by rw[bK];decide),λr b=>d r _ (Ao b _) ?_⟩⟩;rw[Al,_3];unfold named;rw[if_neg e]
theorem X8b(F:Ab K "has_move_form" (top 55) .none)(X:K.In h)(G:Ng h mg)(B:Bs mg){aN:Y4}(gN:mg "NUMBERS_BEHIND"=some (.ref aN))(DN:K8 K w.params aN NB)(cG:Ai P w K mg base k "is_whole" ["thing"] QM):
  Ai P w K mg base (k+1) "has_move_form" ["thing"] yU:=by
 refine F.cal X G ["thing"] λA H vs Q E j h=>?_;obtain⟨p,nm,ns,rfl,hp,g,q⟩:=h;have SP:Ax K H p (.str nm::ns.map V.int):=Ax.of hp;have l3:=g.len;have m:(V.str nm::ns.map V.int).length=ns.length+1:=by rw[Lf,A_]
 refine⟨_,(@Av _ _ _ _ _ (B_ (PW.pt (HJ (Fo (Dd (CG Ox rfl B.isinstance Gy (Aa (pv 0) (Aa (K6 (v:=.ty "tuple") rfl B.tuple boot_tuple rfl) Ae))))) (Je (CP Df (CG Eh rfl B.len EY (Aa (pv 0) Ae)) Ac (Ad _)))))
   (@Aj _ _ _ (BJ Cw))
   CJ)
  (@Av _ _ _ _ _ (B_ (PW.pt (HJ (Fo (Dd (CG Ox rfl B.isinstance Gy (Aa (Aw BL (pv 0) Ac (λ_ _=>rfl)) (Aa (K6 (v:=.ty "str") rfl B.str boot_str rfl) Ae))))) (Je (zX (Y8s DN (Aw BL (pv 0) Ac (λ_ _=>rfl)) (QL (v:=.ref aN) rfl gN rfl))))))
   (@Aj _ _ _ (BJ Cw))
   CJ)
  (@Av _ _ _ _ _ (B_ (CP Jc (CG Eh rfl B.len EY (Aa (pv 0) Ae)) (Af Dn Ac (X7k DN (QL (v:=.ref aN) rfl gN rfl) (Aw BL (pv 0) Ac (λ_ _=>rfl)) (λ_ _=>rfl))) (Ad _))
   (@Aj _ _ _ (BJ Cw))
   CJ)
  (@Av _ _ _ _ _ (B_ (Fo (Dd (CG (YF rfl) rfl B.all Xe (Aa (HY rfl (Bl.of (Nc:=["number"]) (mp:=[none]) (by kernel_rfl)) (bQ (Nv pW (pv 0) (K7 Ac) Lx)) (λ_ _ _ _=>(CV (i:=0) (show (["number"]:W5).Nodup by decide +kernel) rfl (Or.inl rfl))) (λ_ _ _ _=>(Ay cG j rfl (Aa (pv 0) Ae)))) Ae))))
   (@Aj _ _ _ (BJ Cw))
   CJ)
  (@Aj _ _ _ (BJ (YT (Fv Jc (Aw BL (pv 0) Ac (λ_ _=>rfl)) Fg (Ad _)) (Kq (QG (Fv YQ (Aw BL (pv 0) Ac (λ_ _=>rfl)) Ac (Ad _)) (Kq (Fv fH (Aw BL (pv 0) Ac (λ_ _=>rfl)) Ac (Ad _)))))))))))),?_⟩
 try dsimp only[CN]
 refine⟨_,O,_,_,_,true,O,DP.tup hp,qy K,_,O,Bd ⟨_,O,p,_,O,.inr SP,O,_,O,Iv (λz=>absurd z (by rw[m];lia)) (λ_=>?_)⟩⟩;refine⟨_,O,p,_,_,.str nm,O,O,SP,at0,_,_,_,true,O,DP.str nm,W2n K,_,O,Bd ⟨_,O,p,_,_,.str nm,O,O,SP,at0,nm,O,_,O,?_⟩⟩;rw[g.num];refine Bd ⟨_,O,p,_,O,.inr SP,_,O,p,_,_,.str nm,O,O,SP,at0,nm,_,O,g.num,_,_,O,O,O,_,O,Kh (λz=>absurd (by rw[m];lia) z) (λ_=>?_)⟩;refine⟨_,O,_,O,p,_,O,SP,.inr ⟨λc=>absurd c.1 (by rw[bK];decide),λr j=>?_⟩⟩;rw[_3];have x:=Ao j (.tup (ns.map V.int));refine⟨r,O,⟨_,Ax.of Al⟩,λacc f=>?_⟩;refine Xv (K:=K) (λ_=>.bl true) (Ax.of Al) (Dz (by lia)) f (λn H2 N C y u=>⟨_,O,n,O,u⟩) (λo s l=>?_);have e:ns.map (λ_=>V.bl true)=(ns.map λ_=>true).map V.bl:=by rw[KN];rfl
 rw[e]at l;have b:=x.trans s;have d:Ax K o p (.str nm::ns.map V.int):=Ax.of (b _ _ hp);refine⟨acc,_,O,Ag.of l,_,O,FQ (λz=>absurd z (by simp)) (λ_=>?_)⟩;refine⟨_,O,p,_,_,.str nm,O,O,d,at0,O,_,O,FQ (λ_=>q _ b) (λz=>?_)⟩;obtain⟨a,kk,rfl,k1,t⟩:=g.turn (V.str.inj (Kd z));refine⟨_,O,p,_,_,.int kk,O,O,d,O,_,_,O,O,_,O,BP (λ_=>?_) (λz=>absurd k1 z)⟩;refine⟨_,O,p,_,_,.int kk,O,O,d,O,_,_,O,O,?_⟩;show Q (.bl (decide (kk<=7))) o;rw[Ec t];exact q _ b
theorem X3n(F:Ab K "check_move" (top 54) .none)(X:K.In h)(G:Ng h mg)(B:Bs mg)(dG:Ai P w K mg base k "has_move_form" ["thing"] yU)(cV:Ai P w K mg base k "named_cells" ["move"] pZ):
  Ai P w K mg base (k+1) "check_move" ["move","cells"] vW:=by
 refine F.cal X G ["move","cells","named"] λnd H vs Q E f h=>?_;obtain⟨p,nm,ns,c,rfl,hp,b,s⟩:=h;have l3:(named nm ns).length<=3:=by
  have:=b.form.len;unfold named;split
  ·rw[Ka];lia
  ·exact this
 refine⟨_,(@Av _ _ _ _ _ (B_ (Fo (Dd (Ay dG f rfl (Aa (pv 0) Ae))))
   (@Aj _ _ _ Ov)
   CJ)
  (@Av _ _ _ _ _ (@BR _ _ 2 _ _ _ _ nd rfl (Or.inl rfl) (Ay cV f rfl (Aa (pv 0) Ae)) rfl (.inl rfl))
  (@Av _ _ _ _ _ (B_ (Dd (CG (QT rfl) rfl B.any PB (Aa (HY rfl (Bl.of (Nc:=["cell","cells"]) (mp:=[none,some 1]) (by kernel_rfl)) (bQ (pv 2)) (λ_ _ _ _=>(CV (i:=0) (show (["cell","cells"]:W5).Nodup by decide +kernel) rfl (Or.inl rfl))) (λ_ _ _ _=>(YT (Fv Og (pv 0) Ac (Ad _)) (Kq (Fv YQ (pv 0) (pv 1) (Ad _)))))) Ae)))
   (@Aj _ _ _ Ov)
   CJ)
  (@Av _ _ _ _ _ (B_ (CP Jc (CG X1h rfl B.len EY (Aa (Ow (X1e rfl) rfl B.set boot_set (Aa (pv 2) Ae)) Ae)) (CG Eh rfl B.len EY (Aa (pv 2) Ae)) (Ad _))
   (@Aj _ _ _ Ov)
   CJ)
  (@Aj _ _ _ (BJ (pv 0))))))),?_⟩
 try dsimp only[CN]
 refine⟨_,O,p,nm,ns,O,hp,b.form,λH1 o=>⟨_,O,Bd ?_⟩⟩;refine⟨_,O,p,nm,ns,O,o _ _ hp,b.form,λr H2 m f=>?_⟩;have d:Ax K H2 r ((named nm ns).map V.int):=Ax.of f;refine⟨_,O,r,O,⟨_,d⟩,λacc a=>?_⟩;refine Xv (K:=K) (λ_=>.bl false) d (Dz (by lia)) a (λn H2 N t m u=>?_) (λy g j=>?_)
 ·obtain⟨x,v⟩:=b.low n t;refine⟨_,O,_,_,O,O,_,O,BP (λz=>absurd z (by lia)) (λ_=>?_)⟩;refine⟨_,O,_,O,_,_,O,O,?_⟩;show N (.bl (decide ((c:Int)<=n))) _;rw[Cr (by lia)];exact u
 have e:(named nm ns).map (λ_=>V.bl false)=((named nm ns).map λ_=>false).map V.bl:=by rw[KN];rfl
 rw[e]at j;refine⟨acc,_,O,Ag.of j,_,O,?_⟩;rw[show ((named nm ns).map λ_=>false).any id=false by simp];refine Bd ?_;refine⟨_,O,r,_,O,g.tup d,by lia,λl S q=>?_⟩;have s4:=Ao q (.set S (unlike (named nm ns)));have un:=Y0n b.nd;refine⟨l,S,_,O,Al,by lia,_,O,r,_,O,.inr (s4.tup (g.tup d)),O,_,O,Kh (λz=>absurd (by rw[un,A_]) z) (λ_=>?_)⟩;exact⟨_,O,s _ (((o.trans m).trans g).trans s4)⟩
end
inductive Mv where
 | flip (a:Nat)
 | turn (a k:Nat)
 | iff (a b:Nat)
 | pair (a b:Nat)
 | swap (a b:Nat)
 | cross (a b d:Nat)
noncomputable def Jw (w a b:Nat):Nat:=if w&&&(2^a ||| 2^b)=2^a\/w&&&(2^a ||| 2^b)=2^b then w^^^(2^a ||| 2^b) else w
namespace Mv
noncomputable def nm:Mv->Str
 | flip _=>"flip"
 | turn _ _=>"turn"
 | iff _ _=>"if"
 | pair _ _=>"pair"
 | swap _ _=>"swap"
 | cross _ _ _=>"cross"
noncomputable def ns:Mv->List Int
 | flip a=>[(a:Int)]
 | turn a k=>[(a:Int),(k:Int)]
 | iff a b=>[(a:Int),(b:Int)]
 | pair a b=>[(a:Int),(b:Int)]
 | swap a b=>[(a:Int),(b:Int)]
 | cross a b d=>[(a:Int),(b:Int),(d:Int)]
def Ok (c:Nat):Mv->Prop
 | flip a=>a<c
 | turn a k=>a<c/\1<=k/\k<=7
 | iff a b=>a<c/\b<c/\a≠b
 | pair a b=>a<c/\b<c/\a≠b
 | swap a b=>a<c/\b<c/\a≠b
 | cross a b d=>a<c/\b<c/\d<c/\a≠b/\a≠d/\b≠d
noncomputable def to (w:Nat):Mv->Nat
 | flip a=>w^^^2^a
 | iff a b=>if w&&&2^a=0 then w else w^^^2^b
 | swap a b=>Jw w a b
 | cross a b d=>if w&&&2^a=0 then w else Jw w b d
 | _=>w
noncomputable def sp (w:Nat):Mv->Nat
 | turn a k=>if w&&&2^a=2^a then k else 0
 | pair a b=>if w&&&(2^a ||| 2^b)=(2^a ||| 2^b) then 4 else 0
 | _=>0
end Mv
noncomputable abbrev at2 (w a:Nat):Nat:=w / 2^a%2
noncomputable def c1 (c a w:Nat):Bool:=decide ((Mv.flip a).to w<2^c) && decide ((Mv.flip a).to ((Mv.flip a).to w)=w) && decide ((w:Int)+(1-2*(at2 w a:Int))*((2^a:Nat):Int)=((Mv.flip a).to w:Nat)) &&
 decide ((if w&&&2^a=2^a then 1 else 0)=at2 w a)
noncomputable def c2 (c a b w:Nat):Bool:=decide (a=b) || (decide ((Mv.iff a b).to w<2^c) && decide ((Mv.iff a b).to ((Mv.iff a b).to w)=w) && decide ((w:Int)+(at2 w a:Int)*(1-2*(at2 w b:Int))*((2^b:Nat):Int)=((Mv.iff a b).to w:Nat)) &&
 decide ((Mv.swap a b).to w<2^c) && decide ((Mv.swap a b).to ((Mv.swap a b).to w)=w) && decide ((w:Int)+((at2 w b:Int)-(at2 w a:Int))*(((2^a:Nat):Int)-((2^b:Nat):Int))=((Mv.swap a b).to w:Nat)) &&
 decide (4*at2 w a*at2 w b=(Mv.pair a b).sp w))
noncomputable def c3 (c a b d w:Nat):Bool:=decide (a=b) || decide (a=d) || decide (b=d) || (decide ((Mv.cross a b d).to w<2^c) && decide ((Mv.cross a b d).to ((Mv.cross a b d).to w)=w) &&
 decide ((w:Int)+(at2 w a:Int)*((at2 w d:Int)-(at2 w b:Int))*(((2^b:Nat):Int)-((2^d:Nat):Int))=((Mv.cross a b d).to w:Nat)))
theorem W3u:((List.range 7).all λc=>(List.range c).all λa=>(List.range (2^c)).all λw=>c1 c a w)=true:=by decide +kernel
theorem W3t:((List.range 7).all λc=>(List.range c).all λa=>(List.range c).all λb=>(List.range (2^c)).all λw=>c2 c a b w)=true:=by decide +kernel
theorem W3s:((List.range 7).all λc=>(List.range c).all λa=>(List.range c).all λb=>(List.range c).all λd=>(List.range (2^c)).all λw=>c3 c a b d w)=true:=by decide +kernel
theorem Dt{p:Nat->Bool}{n i:Nat}(h:(List.range n).all p=true)(hi:i<n):p i=true:=Gz.mp h i (El.mpr hi)
section
variable {c a b d w:Nat}
theorem W6g(hc:c<=6)(ha:a<c)(hw:w<2^c):c1 c a w=true:=Dt (Dt (Dt W3u (by lia:c<7)) ha) hw
theorem W6f(hc:c<=6)(ha:a<c)(hb:b<c)(hw:w<2^c):c2 c a b w=true:=Dt (Dt (Dt (Dt W3t (by lia:c<7)) ha) hb) hw
theorem W6e(hc:c<=6)(ha:a<c)(hb:b<c)(hd:d<c)(hw:w<2^c):c3 c a b d w=true:=Dt (Dt (Dt (Dt (Dt W3s (by lia:c<7)) ha) hb) hd) hw
theorem yu(hc:c<=6)(ha:a<c)(hw:w<2^c):(Mv.flip a).to w<2^c/\(Mv.flip a).to ((Mv.flip a).to w)=w/\(w:Int)+(1-2*(at2 w a:Int))*((2^a:Nat):Int)=((Mv.flip a).to w:Nat)/\(if w&&&2^a=2^a then 1 else 0)=at2 w a:=by
 have:=W6g hc ha hw;unfold c1 at this;simp only[HX,JG]at this;exact⟨this.1.1.1,this.1.1.2,this.1.2,this.2⟩
theorem fB(hc:c<=6)(ha:a<c)(hb:b<c)(n:a≠b)(hw:w<2^c):((Mv.iff a b).to w<2^c/\(Mv.iff a b).to ((Mv.iff a b).to w)=w/\(w:Int)+(at2 w a:Int)*(1-2*(at2 w b:Int))*((2^b:Nat):Int)=((Mv.iff a b).to w:Nat)) /\
  ((Mv.swap a b).to w<2^c/\(Mv.swap a b).to ((Mv.swap a b).to w)=w/\(w:Int)+((at2 w b:Int)-(at2 w a:Int))*(((2^a:Nat):Int)-((2^b:Nat):Int))=((Mv.swap a b).to w:Nat))/\4*at2 w a*at2 w b=(Mv.pair a b).sp w:=by
 have:=W6f hc ha hb hw;unfold c2 at this;rw[Cr n,Qs]at this;simp only[HX,JG]at this;obtain⟨⟨⟨⟨⟨⟨h1,h2⟩,g⟩,d⟩,h⟩,f⟩,e⟩:=this;exact⟨⟨h1,h2,g⟩,⟨d,h,f⟩,e⟩
theorem _9(hc:c<=6)(ha:a<c)(hb:b<c)(hd:d<c)(n1:a≠b)(n2:a≠d)(n3:b≠d)(hw:w<2^c):(Mv.cross a b d).to w<2^c/\(Mv.cross a b d).to ((Mv.cross a b d).to w)=w /\
  (w:Int)+(at2 w a:Int)*((at2 w d:Int)-(at2 w b:Int))*(((2^b:Nat):Int)-((2^d:Nat):Int))=((Mv.cross a b d).to w:Nat):=by
 have:=W6e hc ha hb hd hw;unfold c3 at this;rw[Cr n1,Cr n2,Cr n3,Qs,Qs,Qs]at this;simp only[HX,JG]at this;exact⟨this.1.1,this.1.2,this.2⟩
end
variable{v:Mv}{w:Nat}
theorem Mv.to_lt(hc:c<=6)(h:v.Ok c)(hw:w<2^c):v.to w<2^c:=by
 cases v with
 | flip a=>exact(yu hc h hw).1
 | turn a k=>exact hw
 | iff a b=>exact(fB hc h.1 h.2.1 h.2.2 hw).1.1
 | pair a b=>exact hw
 | swap a b=>exact(fB hc h.1 h.2.1 h.2.2 hw).2.1.1
 | cross a b d=>exact(_9 hc h.1 h.2.1 h.2.2.1 h.2.2.2.1 h.2.2.2.2.1 h.2.2.2.2.2 hw).1
theorem Mv.to_to(hc:c<=6)(h:v.Ok c)(hw:w<2^c):v.to (v.to w)=w:=by
 cases v with
 | flip a=>exact(yu hc h hw).2.1
 | turn a k=>rfl
 | iff a b=>exact(fB hc h.1 h.2.1 h.2.2 hw).1.2.1
 | pair a b=>rfl
 | swap a b=>exact(fB hc h.1 h.2.1 h.2.2 hw).2.1.2.1
 | cross a b d=>exact(_9 hc h.1 h.2.1 h.2.2.1 h.2.2.2.1 h.2.2.2.2.1 h.2.2.2.2.2 hw).2.1
theorem Mv.fits(h:v.Ok c):Fits v.nm v.ns c:=by
 cases v with
 | flip a =>
  have e:named "flip" [(a:Int)]=[(a:Int)]:=by unfold named;rw[if_neg (by decide +kernel)]
  have h:a<c:=h;exact⟨⟨(show numAt NB "flip"=some (.int ((1:Nat):Int)) by decide +kernel),(show 1<=3 by decide),λz=>absurd (show ("flip":Str)="turn" from z) (by decide +kernel)⟩,by show ∀x∈named "flip" [(a:Int)],_;rw[e];intro b hb;rw[Fj.mp hb];lia,by show (named "flip" [(a:Int)]).Nodup;rw[e];simp⟩
 | turn a k =>
  have e:named "turn" [(a:Int),(k:Int)]=[(a:Int)]:=by unfold named;rw[if_pos rfl];rfl
  have h:a<c/\1<=k/\k<=7:=h;exact⟨⟨(show numAt NB "turn"=some (.int ((2:Nat):Int)) by decide +kernel),(show 2<=3 by decide),λ_=>⟨a,k,O,by lia,by lia⟩⟩,by show ∀x∈named "turn" [(a:Int),(k:Int)],_;rw[e];intro b hb;rw[Fj.mp hb];lia,by show (named "turn" [(a:Int),(k:Int)]).Nodup;rw[e];simp⟩
 | iff a b =>
  have e:named "if" [(a:Int),(b:Int)]=[(a:Int),(b:Int)]:=by unfold named;rw[if_neg (by decide +kernel)]
  have h:a<c/\b<c/\a≠b:=h;exact⟨⟨(show numAt NB "if"=some (.int ((2:Nat):Int)) by decide +kernel),(show 2<=3 by decide),λz=>absurd (show ("if":Str)="turn" from z) (by decide +kernel)⟩,by show ∀x∈named "if" [(a:Int),(b:Int)],_;rw[e];intro x f;simp at f;lia,by show (named "if" [(a:Int),(b:Int)]).Nodup;rw[e];simp;lia⟩
 | pair a b =>
  have e:named "pair" [(a:Int),(b:Int)]=[(a:Int),(b:Int)]:=by unfold named;rw[if_neg (by decide +kernel)]
  have h:a<c/\b<c/\a≠b:=h;exact⟨⟨(show numAt NB "pair"=some (.int ((2:Nat):Int)) by decide +kernel),(show 2<=3 by decide),λz=>absurd (show ("pair":Str)="turn" from z) (by decide +kernel)⟩,by show ∀x∈named "pair" [(a:Int),(b:Int)],_;rw[e];intro x f;simp at f;lia,by show (named "pair" [(a:Int),(b:Int)]).Nodup;rw[e];simp;lia⟩
 | swap a b =>
  have e:named "swap" [(a:Int),(b:Int)]=[(a:Int),(b:Int)]:=by unfold named;rw[if_neg (by decide +kernel)]
  have h:a<c/\b<c/\a≠b:=h;exact⟨⟨(show numAt NB "swap"=some (.int ((2:Nat):Int)) by decide +kernel),(show 2<=3 by decide),λz=>absurd (show ("swap":Str)="turn" from z) (by decide +kernel)⟩,by show ∀x∈named "swap" [(a:Int),(b:Int)],_;rw[e];intro x f;simp at f;lia,by show (named "swap" [(a:Int),(b:Int)]).Nodup;rw[e];simp;lia⟩
 | cross a b d =>
  have e:named "cross" [(a:Int),(b:Int),(d:Int)]=[(a:Int),(b:Int),(d:Int)]:=by unfold named;rw[if_neg (by decide +kernel)]
  have h:a<c/\b<c/\d<c/\a≠b/\a≠d/\b≠d:=h;exact⟨⟨(show numAt NB "cross"=some (.int ((3:Nat):Int)) by decide +kernel),(show 3<=3 by decide),λz=>absurd (show ("cross":Str)="turn" from z) (by decide +kernel)⟩,by show ∀x∈named "cross" [(a:Int),(b:Int),(d:Int)],_;rw[e];intro x f;simp at f;lia,by show (named "cross" [(a:Int),(b:Int),(d:Int)]).Nodup;rw[e];simp;lia⟩
end Ar
namespace L2
theorem Np:∀{us:U9}{ks:W0},us.length=ks.length->(∀(j:Nat) u,us[j]?=some u->∃(k:Int) (t:Tok),ks[j]?=some k/\u=Value.int k t)->IntsAre us ks
 | [],[],_,_=>.nil
 | u::us,k::ks,hl,h=>by
  obtain⟨a,t,e,rfl⟩:=h 0 u rfl;cases e;exact .cons _ _ (Np (Nat.succ.inj hl) λj u q=>h (j+1) u q)
def rM (s:W1)(P:Nat->Value->Prop)(n:Nat)(q:Result)(s':W1):Prop:=q=.ok (.ret (.ref s.heap.objs.size))/\∃h' tk,s'={s with heap:=h',toks:=tk}/\(∀b o,s.heap.get? b=some o->h'.get? b=some o) /\
 ∃acc c,ItemsOf P acc n/\h'.get? s.heap.objs.size=some { cls:=.type "list",dict:=none,data:=.seq acc c,slots:=#[]}
theorem gather{prog:W3}{w:W6}{A:Y1}{E:U3}{s:W1}{T:String}{r d:Y4}{n:Nat}{P:Nat->Value->Prop}{OK:Heap->Prop}{R:List Value->Shared->Prop}(K:PySem.W.KdlSrc prog w T r d n P OK)(hh:A.handled=none)(hok:OK s.heap)(hn:n<=sizeLine)
  (h:∀(h':Heap) (tk:Nat) (acc:W4),(∀b o,s.heap.get? b=some o->h'.get? b=some o)->s.heap.objs.size<h'.objs.size->ItemsOf P acc n->R acc.toList {s with heap:=h',toks:=tk}):wpAny (model prog w) A (collect (.ref r)) R E s:=by
 obtain⟨l1,l2⟩:=K.there _ hok;have up:∀b o,s.heap.get? b=some o->(s.heap.push { cls:=.type "list",data:=.seq ([]:U9).toArray}).get? b=some o:=λb o e=>FP _ e;have g:=PySem.W.kdl_extend (A:=A) (s:={s with heap:=s.heap.push { cls:=.type "list",data:=.seq ([]:U9).toArray}}) (R:=rM s P n) K hh (K.keep _ _ hok λb _=>up b) s.heap.objs.size (M9 l1) (M9 l2) (.ref s.heap.objs.size) 0
  (Gv _ rfl) (λh' tk acc c i a j=>⟨O,h',tk,O,λb o e=>i b o (Eb (Cd e)) (up b o e),acc,c,j,a⟩) hn
 unfold collect;refine Bw (wpAny_runValue (iZ entry_proto_collect' ?_));rw[Around.under_plainId PySem.F.plain_proto_collect _];show wpAny _ A.in1 (newList [] >>= λl=>again (.builtin "list.__iadd__" ⟨[l,.ref r],[]⟩)) _ _ s;refine Bw (Qw (Cq ⟨plainId_quiet sy _,iZ entry_list_iadd' ?_⟩));rw[Around.under_plainId sy _];refine GK g (λf s' x=>?_) λe s' x=>by cases x.1
 cases f with
 | done f =>
  obtain⟨e,h',tk,rfl,i,acc,c,j,a⟩:=x;cases e;exact Bw (wpAny_load a (Cq (h h' tk acc i (Cd a) j)))
 | again c =>
  refine⟨x.1,Qq x.2 λq s2 y=>?_⟩;obtain⟨rfl,h',tk,rfl,i,acc,c,j,a⟩:=y;exact Bw (wpAny_load a (Cq (h h' tk acc i (Cd a) j)))
theorem Y1s{X:Cx}(hc:X.calm=true):Cm X (.builtin "sorted") (λxs H Q=>∃(p:Y4) (kvs:List (Key×V)) (ks:W0),xs=[.ref p]/\H p=some (.dK kvs)/\kvs.map (·.1)=ks.map Sum.inl/\kvs.length<64 /\
  ∀(l:Y4) (ks':W0),H l=none->ks'.Perm ks->ks'.Pairwise (·<=·)->Q (.ref l) (upd H l (.lst (ks'.map V.int)))):=by
 intro pins s σ H xs us Q I r h;obtain⟨p,kvs,ks,rfl,hp,L,Y,q⟩:=h;obtain⟨u,rfl,S⟩:=vals1 r;cases S;obtain⟨z,lo,vs,E,dd⟩:=W3o I.hok hp;obtain⟨ep,C⟩:=dd.dictAt;have U:kvs.length=vs.length:=E.length;have a:kvs.map (·.1)=vs.map (·.1):=E.keys;rw[L]at a;have B:ks.length=vs.length:=by have:=congrArg List.length a;simpa using this
 have G:(64:Nat)<=sizeLine:=by decide
 refine Calls.call_function_entry kind_sorted plain_sorted entry_sorted (args_sorted1 _) ?_;unfold Builtin.«sorted»;refine Bw (m:=checkCount "sorted" 1 1 _) (Cq ?_);refine Bw (gather (A:=X.A.in1) (PySem.W.kdl_dict (knd:=JM X.prog X.w) (kvs:=vs) (ep:=ep) lo) (I.ok.hd hc) C (by lia) λh' tk acc n g c=>?_);have hsz:=Ud g;have v:acc.toList.length=vs.length:=by rw[Pg];exact c.1
 have T:IntsAre acc.toList ks:=Np (v.trans B.symm) λj u e=>by
  obtain⟨k,x,R,F⟩:=c.2 j u (by rw[<-sI];exact e);have e2:(ks.map Sum.inl:List Key)[j]?=some k:=by rw[a,Cz,R];rfl
  rw[Cz]at e2;cases e3:ks[j]? with
  | none=>rw[e3]at e2;cases e2
  | some i =>
   rw[e3]at e2;cases e2;rcases Oz (show G_ (Sum.inl i) u=true from F) with ⟨i',t,e4,e5⟩ | ⟨x',t,e4,e5⟩
   ·cases e4;exact⟨i,t,O,e5⟩
   ·cases e4
 refine Bw (wpAny_newList ?_ (by lia));have d:(h'.push (seqObj "list" acc.toList.toArray 0)).get? h'.objs.size=some (seqObj "list" acc.toList.toArray 0):=Gv _ rfl;refine Bw (Pb (ZR slot_list_sort ⟨_,d,O⟩ entry_list_sort (list_sort_tree d T (by lia) λout f P D M=>⟨_,O,?_⟩) (args_list_sort _)));refine Cq ⟨_,O,?_⟩;obtain⟨e,N⟩:=sortedHeap_at (out:=out) d;have K:∀b o,s.heap.get? b=some o->(sortedHeap (h'.push (seqObj "list" acc.toList.toArray 0)) h'.objs.size acc.toList out).get? b=some o:=λb o x=>by
  have lt:=Cd (n b o x);rw[sortedHeap_old (Eb lt) (by rw[size_push'];exact Um lt)];exact FP _ (n b o x)
 have J:=D.length_eq;have y:(out.toList).toArray=out:=Array.toArray_toList;exact⟨.ref h'.objs.size,_,I.laid (t':=tk) K hsz (show Bh X.prog X.w _ _ _ (.lst (f.map V.int)) from ⟨by rw[A_];lia,out.toList,e,aU P,by rw[y];exact N⟩),O,q _ f (I.hok.fresh hsz) D M⟩
end L2
namespace Dk
open PySem.Sem (wp)
section
variable {prog:W3}{w:W6}{A:Y1}{E:U3}{s:W1}{d it:Y4}{es:Array DictEntry}{i ep:Nat}
end
end Dk
namespace L2
def Ite (K:U0)(l:Y4):It :=
 ⟨λi H=>∃xs x,Ag K H l xs/\xs[i]?=some x,
 λi H v H'=>∃T x,v=.ref T/\H T=none/\H'=upd H T (.tup [.int i,x])/\∀xs,Ag K H l xs->xs[i]?=some x,
 λi H=>∃xs,Ag K H l xs/\xs.length<=i⟩
theorem Y7m{P:W3}{w:W6}{K:U0}{es:List Expr}{kk:Nat}{tp:Pos}{e it l:Y4}(ne:e≠it)(nl:l≠e):
  Turn P w K (.Tuple es kk tp) (Ite K l) [e,it] e (λi h=>(∃a,IsEnum h e it i a)/\h.IsListIter it l i) where
 mem:=by simp
 obj:=λi h st b hb=>by
  obtain⟨⟨a,c⟩,o,d,_,G⟩:=st;simp only[Dw,I_,Ht]at hb;rcases hb with rfl | rfl
  ·exact⟨_,c,λv q=>by have S:Data.fields _=Data.cell v:=q;cases S⟩
  ·exact⟨o,d,λv z=>by rw[G]at z;cases z⟩
 keep:=λi h h' st k=>by
  obtain⟨⟨a,c⟩,d⟩:=st;exact⟨⟨a,k e (by simp) _ c⟩,d.at λo q=>k it (by simp) o q⟩
 item:=by
  intro X t g m C i pins s σ H E I hf st y;subst t g m;obtain⟨xs,x,f,B⟩:=y;obtain⟨⟨a,c⟩,d⟩:=st;obtain⟨its,n,p,N⟩:=I.list f;obtain⟨j,A,R⟩:=n.get B;refine wpAny_pyNext_enum_item c d p.isList (x:=j) (by simpa using A) ne λh' L M J W Q=>?_;refine⟨_,O,wpAny_letOwnedTupleGo_enum L λh2 c1 r=>?_⟩;have T:s.heap.objs.size≠e:=M9 (Cd c);have k2:∀b o,b∉[e,it]->s.heap.get? b=some o->h2.get? b=some o:=λb o hb q=>by
   simp only[Dw,I_,Ht,not_or]at hb;exact r.extBut b o hb.1 (Q b o hb.1 hb.2 q)
  have F:IsTup h2 s.heap.objs.size ([.int i s.toks,j]:U9).toArray:=⟨_,r.extBut _ _ T J,O,_,O⟩;refine⟨.ref s.heap.objs.size,upd H s.heap.objs.size (.tup [.int i,x]),I.turnedT (t':=s.toks+1) k2 hf (CT _) (.cons ⟨_,O⟩ (.cons R .nil)) (by show 2<=sizeLine;decide) F,O,⟨_,x,O,I.hok.fresh (CT _),O,λV h1=>?_⟩,⟨⟨j,?_⟩,?_⟩,λb hb=>?_⟩
  ·rw[I.list_inj h1 f];exact B
  ·exact_mod_cast c1
  ·exact M.at λo q=>r.extBut _ _ ne.symm q
  ·have u:b<s.heap.objs.size:=by
    simp only[Dw,I_,Ht]at hb;rcases hb with rfl | rfl
    ·exact Cd c
    ·obtain⟨o,q,_⟩:=d;exact Cd q
   rw[Cj (Eb u)];exact(hf b hb).1
 done:=by
  intro X t g m C i pins s σ H E I hf st y;subst t g m;obtain⟨xs,f,D⟩:=y;obtain⟨⟨a,c⟩,d⟩:=st;obtain⟨its,n,p,N⟩:=I.list f;have e1:=n.length;refine wpAny_pyNext_enum_end (I.ok.hd C) c d p.isList (by simp;lia) λh' U=>⟨O,I.turnedL (t':=s.toks) (ch:=[e,it]) (λb o hb q=>?_) hf⟩;simp only[Dw,I_,Ht,not_or]at hb;exact U b o hb.2 q
 self:=λ_ _ _ _ _ st h=>by
  obtain⟨⟨a,c⟩,_⟩:=st;exact wpAny_pyIter_enum c h
section
variable {X:Cx}{es:List Expr}{kk:Nat}{tp:Pos}
def Xk (K:U0)(ta:TA):TI:=λσ H R=>ta σ H λvs H1=>∃l xs,vs=[.ref l]/\Ag K H1 l xs/\R (Ite K l) H1
theorem Tc{a:Expr}{ta:TA}{p pos:Pos}(hg:Gl X "enumerate")(hm:X.mg "enumerate"=none)(ha:PA X [a] ta)(hs:starEach [a] X.env=[(false,eval a X.env)]:=by rfl):
  PI X (.Tuple es kk tp) (.Call (.Name "enumerate" p) [a] [] pos) (Xk X.K ta):=by
 intro pins s σ H R I h;refine Call_ (QC I hg hm boot_enumerate (PyProof.Rows.callWith_type1 (Bm (ha pos pins s σ H _ I h) λus c ⟨vs,H1,f,m,k⟩=>?_) (by rw[hs];rfl) (by rfl)));obtain⟨l,xs,e,h1,q⟩:=k;subst e;cases m with
 | cons r rr =>
  cases rr;cases r;obtain⟨its,x,j,w⟩:=f.list h1;refine call_enumerate_list j.isList λh' i n v t=>?_;have u:Inv X pins σ H1 {c with heap:=h'}:=f.kept (t':=c.toks) t;have g:l<c.heap.objs.size:=by obtain⟨o,q,_⟩:=j.isList;exact Cd q
  refine wpAny_pyIter_enum i ⟨_,[c.heap.objs.size+1,c.heap.objs.size],_,_,H1,O,u,Y7m (Nat.succ_ne_self _) (Eb (Um g)),⟨⟨_,i⟩,n⟩,λb hb=>?_,q⟩;have d:c.heap.objs.size<=b:=by
   simp only[Dw,I_,Ht]at hb;rcases hb with rfl | rfl
   ·exact ZC _
   ·exact CT _
  exact f.fpOk d (f.hok.fresh d)
end
theorem wJ{K:U0}{a:Y4}{xs:List V}{g:TG}{tb:TS}{D:Ends}{σ:St}{H:Hp}(Pv:Nat->St->Hp->Prop)(h0:Pv 0 σ H)(hl:∀i σ H,i<=xs.length->Pv i σ H->Ag K H a xs)
  (hs:∀i x σ H T,xs[i]?=some x->Pv i σ H->H T=none->g (.ref T) σ (upd H T (.tup [.int i,x])) λb H2=>tb {D with nx:=Pv (i+1),ct:=Pv (i+1),bk:=D.nx} b H2) (hd:∀σ H,Pv xs.length σ H->D.nx σ H):
  ∃W:Nat->Nat->St->Hp->Prop,(∃m,W 0 m σ H)/\∀i m σ H,W i m σ H ->
   ((Ite K a).stop i H/\D.nx σ H)\/((Ite K a).go i H/\∃N:St->Hp->Prop,(∀c H',N c H'->∃m',m'<m/\W (i+1) m' c H')/\∀x H',(Ite K a).yld i H x H'->g x σ H' λb H2=>tb {D with nx:=N,ct:=N,bk:=D.nx} b H2):=by
 refine⟨λi m σ H=>m=xs.length-i/\i<=xs.length/\Pv i σ H,⟨xs.length,by simp,Fy _,h0⟩,?_⟩;rintro i m σ H ⟨rfl,hi,p⟩;have q:=hl i σ H hi p;by_cases hlt:i<xs.length
 ·refine .inr ⟨⟨xs,xs[i],q,by simp[hlt]⟩,Pv (i+1),λc H' f=>⟨xs.length-(i+1),by lia,O,hlt,f⟩,λv H' y=>?_⟩;obtain⟨T,x,rfl,d,rfl,y⟩:=y;exact hs i x σ H T (y xs q) p d
 ·have e:i=xs.length:=by lia
  subst e;exact .inl ⟨⟨xs,q,CT _⟩,hd σ H p⟩
end L2
namespace L2
theorem oA{X:Cx}(hc:X.calm=true):Cm X (.builtin "sum") (λxs H Q=>∃(p:Y4) (ns:W0),xs=[.ref p]/\Ag X.K H p (ns.map V.int)/\Q (.int ns.sum) H):=by
 intro pins s σ H xs us Q I r h;obtain⟨p,ns,rfl,f,q⟩:=h;obtain⟨u,rfl,c⟩:=r.one;cases c;obtain⟨its,g,i,j⟩:=I.list f;have hi:=RQ g;have a:=i.isList;have b:=hi.numsOf;obtain⟨xs,e⟩:=hi.allInts.items;have e2:its=(intItems xs).toList:=by rw[<-e]
 rw[e]at a;rw[e2,nums_intItems]at b;refine sum_intListG (show X.A.handled=none from I.ok.hd hc) a λh' tk t' d=>?_;rw[preSum_eq,sV (by simp),b];exact⟨.int ns.sum,H,I.kept (t':=tk) d,⟨_,O⟩,q⟩
theorem X8w{K:U0}{l:Y4}{g:TG}{xs:List V}{te:TE}{fr:St}{H1:Hp}{acc:Y4}{Q:VK}(f:Nat->V->V)(hn:xs.length<=sizeLine)(hacc:H1 acc=none)(hl:Ag K H1 l xs)
  (hg:∀{a:Y4}{x y:V}{w1 w2:Option V}{H:Hp}{Q:St->Hp->Prop},H a=some (.tup [x,y])->Q (some x::some y::fr) H->g (.ref a) (w1::w2::fr) H Q)
  (hs:∀i x H (N:V->Hp->Prop),xs[i]?=some x->Same H1 H->N (f i x) H->te (some (.int i)::some x::fr) H N)
  (hd:∀H2,Same H1 H2->H2 acc=some (.lst (xs.mapIdx f))->Q (.ref acc) H2):Ii (Ite K l) g te (none::none::fr) H1 acc Q:=by
 refine⟨λi m zs d H2=>m=xs.length-i/\i<=xs.length/\(∃v w,d=v::w::fr)/\Same H1 H2/\H2 acc=some (.lst zs)/\zs=(xs.take i).mapIdx f,⟨xs.length,by simp,Fy _,⟨_,_,O⟩,Ao hacc _,Al,by simp⟩,?_⟩;rintro i m zs d H2 ⟨rfl,hi,⟨v,w,rfl⟩,s2,h,e2⟩;by_cases hlt:i<xs.length
 ·have e1:xs[i]?=some xs[i]:=by simp[hlt]
  refine .inr ⟨⟨xs,_,s2.seq hl,e1⟩,λu n k=>?_⟩;obtain⟨T,x,rfl,j,rfl,h1⟩:=k;have c:=h1 xs (s2.seq hl);have b:=Ao j (.tup [.int i,x]);have o:zs.length=i:=by rw[e2,List.length_mapIdx,Ka];lia
  refine hg (x:=.int i) (y:=x) Al (hs i x _ _ c (s2.trans b) ⟨b _ _ h,by lia,xs.length-(i+1),by lia,O,hlt,⟨_,_,O⟩,Dy (s2.trans b) hacc,Al,?_⟩);rw[Js,c,Kz,List.mapIdx_append,e2];have:(xs.take i).length=i:=by rw[Ka];lia
  simp[this]
 ·have e:i=xs.length:=by lia
  subst e;exact .inl ⟨⟨xs,s2.seq hl,CT _⟩,hd H2 s2 (by rw[h,e2,Kc])⟩
theorem wN{K:U0}{l:Y4}{ns:W0}{tc:TT}{te:TE}{fr:St}{H1:Hp}{acc:Y4}{Q:VK}(p:Int->Bool)(f:Int->Int)(hn:ns.length<=sizeLine)(hacc:H1 acc=none)(hl:Ag K H1 l (ns.map V.int))
  (hs:∀n H (N:Bool->Hp->Prop),n∈ns->Same H1 H->N (p n) H->tc (some (.int n)::fr) H N)
  (ht:∀n H (N:V->Hp->Prop),n∈ns->p n=true->Same H1 H->N (.int (f n)) H->te (some (.int n)::fr) H N)
  (hd:∀H2,Same H1 H2->H2 acc=some (.lst (((ns.filter p).map f).map V.int))->Q (.ref acc) H2):Nz (K9 K l) (CQ 0) tc te (none::fr) H1 acc Q:=by
 refine⟨λi m zs d H2=>m=ns.length-i/\i<=ns.length/\(∃v,d=v::fr)/\Same H1 H2/\H2 acc=some (.lst zs)/\zs=(((ns.take i).filter p).map f).map V.int,⟨ns.length,by simp,Fy _,⟨_,O⟩,Ao hacc _,Al,by simp⟩,?_⟩;rintro i m zs d H2 ⟨rfl,hi,⟨v,rfl⟩,s2,b,e2⟩;by_cases hlt:i<ns.length
 ·have e1:ns[i]?=some ns[i]:=by simp[hlt]
  have c:(ns.map V.int)[i]?=some (.int ns[i]):=by rw[Cz,e1];rfl
  have k:zs.length<=i:=by
   rw[e2,A_,A_];exact Ek (jO _ _) (by rw[Ka];lia)
  have a:ns[i]∈ns:=Uk hlt;refine .inr ⟨⟨_,_,s2.seq hl,c⟩,λu j g=>?_⟩;obtain⟨rfl,h⟩:=g;have:=h _ (s2.seq hl);rw[c]at this;cases this;refine hs ns[i] _ _ a s2 ⟨λhp=>ht ns[i] _ _ a hp s2 ⟨b,by lia,ns.length-(i+1),by lia,O,hlt,⟨_,O⟩,Dy s2 hacc,Al,?_⟩,λhp=>⟨ns.length-(i+1),by lia,O,hlt,⟨_,O⟩,s2,b,?_⟩⟩
  ·rw[Js,e1,Kz,Rn,Cg,Cg,e2];simp[hp]
  ·rw[Js,e1,Kz,Rn,Cg,Cg,e2];simp[hp]
 ·have e:i=ns.length:=by lia
  subst e;exact .inl ⟨⟨_,s2.seq hl,by rw[A_];exact CT _⟩,hd H2 s2 (by rw[b,e2,Kc])⟩
end L2
namespace Ar
open L2 Am Pc Ba
theorem JK(x y:Nat):Builtin.bitOr (x:Int) (y:Int)=((x ||| y:Nat):Int):=by
 have h:Builtin.bitXor (x:Int) (y:Int)=Builtin.bitOr x y-Builtin.bitAnd x y:=rfl;rw[Ko,Ig]at h;have e:=YS (x+y+1) x y (by lia) (by lia);lia
variable{K:U0}{l:Y4}
theorem qK{g:TG}{xs:List V}{te:TE}{fr:L2.St}{H1:Hp}{acc:Y4}{Q:VK}(Pv:Nat->List V->Hp->Prop)(hn:xs.length<=sizeLine)(h0:Pv 0 [] (upd H1 acc (.lst [])))
  (hl:∀i ys H,Pv i ys H->Ag K H l xs)
  (hg:∀{a:Y4}{x y:V}{w1 w2:Option V}{H:Hp}{Q:L2.St->Hp->Prop},H a=some (.tup [x,y])->Q (some x::some y::fr) H->g (.ref a) (w1::w2::fr) H Q)
  (hs:∀i x ys H (T:Y4) (N:V->Hp->Prop),xs[i]?=some x->ys.length=i->Pv i ys H->H T=none->(∀y b,b acc=some (.lst ys)->Pv (i+1) (ys++[y]) (upd b acc (.lst (ys++[y])))->N y b)->te (some (.int i)::some x::fr) (upd H T (.tup [.int i,x])) N)
  (hd:∀ys H,ys.length=xs.length->Pv xs.length ys H->Q (.ref acc) H):Ii (Ite K l) g te (none::none::fr) H1 acc Q:=by
 refine⟨λi m zs f H2=>m=xs.length-i/\i<=xs.length/\zs.length=i/\(∃v w,f=v::w::fr)/\Pv i zs H2,⟨xs.length,by simp,Fy _,O,⟨_,_,O⟩,h0⟩,?_⟩;rintro i m zs f H2 ⟨rfl,hi,d,⟨v,w,rfl⟩,p⟩;have c:=hl i zs H2 p;by_cases hlt:i<xs.length
 ·have e1:xs[i]?=some xs[i]:=by simp[hlt]
  refine .inr ⟨⟨xs,_,c,e1⟩,λu q n=>?_⟩;obtain⟨T,x,rfl,h,rfl,h1⟩:=n;have j:=h1 xs c;refine hg (x:=.int i) (y:=x) Al (hs i x zs H2 T _ j d p h λy b o k=>⟨o,by lia,xs.length-(i+1),by lia,O,hlt,by simp[d],⟨_,_,O⟩,k⟩)
 ·have e:i=xs.length:=by lia
  subst e;exact .inl ⟨⟨xs,c,CT _⟩,hd zs H2 d p⟩
def Ik:Sp:=λvs H Q _=>∃w a b:Nat,vs=[.int w,.int ((2^a:Nat):Int),.int ((2^b:Nat):Int)]/\∀H',Same H H'->Q (.int (Jw w a b:Nat)) H'
def xG:Sp:=λvs H Q _=>∃(w:Nat) (p:Y4) (v:Mv) (c:Nat),vs=[.int w,.ref p]/\H p=some (UJ v.nm v.ns)/\v.Ok c/\c<=6/\v.nm≠"turn"/\v.nm≠"pair"/\∀H',Same H H'->Q (.int (v.to w:Nat)) H'
structure Bo (K:U0) (H:Hp) (l:Y4) (ps:U5) (f:Nat->A5) (c:Nat):Prop where
 lst:H l=some (.lst (ps.map V.ref))
 len:ps.length=2^c
 vals:Bg K H ps f
variable{H H':Hp}{ps:U5}{f:Nat->A5}{c:Nat}
theorem Bo.same(b:Bo K H l ps f c)(s:Same H H'):Bo K H' l ps f c:=⟨s _ _ b.lst,b.len,b.vals.same s⟩
theorem Bo.at{i:Nat}(b:Bo K H l ps f c)(hi:i<2^c):∃p,ps[i]?=some p/\CZ K H p (f i)/\HF (ps.map V.ref) (i:Int)=some (.ref p):=by
 have a:i<ps.length:=by rw[b.len];exact hi
 refine⟨ps[i],GR a,b.vals i _ (GR a),Ol (by rw[Cz,GR a];rfl)⟩
def xT (K:U0):Sp:=λvs H Q _=>∃(l:Y4) (ps:U5) (f:Nat->A5) (c bits:Nat) (k:Int),vs=[.ref l,.int bits,.int k]/\Bo K H l ps f c/\c<=6 /\
 ∀(r:Y4) (H':Hp) (qs:U5) (g:Nat->A5),H r=none->Same H H'->Bo K H' r qs g c->(∀w,w<2^c->g w=if w&&&bits=bits then D_ (f w) k else f w)->Q (.ref r) H'
theorem mZ(x a b:Int):inV (.int x) [.int a,.int b]=(decide (a=x) || decide (b=x)):=by
 unfold inV;simp only[Qt,mY,Wq,Pu];rfl
section
variable {P:W3}{w:W6}{K:U0}{mg:U6}{base:Heap}{k:Nat}{h:Heap}
theorem X8c(F:Ab K "exchanged" (top 62) .none)(X:K.In h)(G:Ng h mg):Ai P w K mg base (k+1) "exchanged" ["word","bit","other"] Ik:=by
 refine F.cal X G ["word","bit","other","both"] λg H vs Q E i h=>?_;obtain⟨x,a,b,rfl,q⟩:=h
 refine⟨_,(@Av _ _ _ _ _ (@BR _ _ 3 _ _ _ _ g rfl (Or.inl rfl) (Af Nq (pv 1) (pv 2)) rfl (.inl rfl))
  (@Aj _ _ _ (BJ (Nu (CP Y8w (Af Di (pv 0) (pv 3)) (@Ci _ _ _ _ _ (Aa (pv 1) (Aa (pv 2) Ae))) rfl) (Af JL (pv 0) (pv 3)) (pv 0))))),?_⟩
 try dsimp only[CN]
 refine⟨_,O,_,O,_,_,O,O,?_⟩;refine⟨_,O,_,O,_,_,O,O,_,O,_,O,t2,λtp e=>?_⟩;refine⟨tp,_,O,.inr (Ax.of Al),O,O,_,O,?_⟩;have f:=Ao e (.tup [.int ((2^a:Nat):Int),.int ((2^b:Nat):Int)]);have d:=q _ f;unfold Jw at d;show if (inV (.int (Builtin.bitAnd (x:Int) (Builtin.bitOr ((2^a:Nat):Int) ((2^b:Nat):Int)))) [.int ((2^a:Nat):Int),.int ((2^b:Nat):Int)])=true then _ else _;rw[JK,Ig,mZ];by_cases c:x&&&(2^a ||| 2^b)=2^a\/x&&&(2^a ||| 2^b)=2^b
 ·rw[if_pos (by rw[Le,JG,JG];lia)];rw[if_pos c]at d;refine⟨_,O,_,O,_,_,O,O,?_⟩;show Q (.int (Builtin.bitXor (x:Int) (Builtin.bitOr ((2^a:Nat):Int) ((2^b:Nat):Int)))) _;rw[JK,Ko];exact d
 ·rw[if_neg (by rw[Le,JG,JG];lia)];rw[if_neg c]at d;exact⟨_,O,d⟩
theorem Y9p(F:Ab K "word_behind" (top 61) .none)(X:K.In h)(G:Ng h mg)(cV:Ai P w K mg base k "named_cells" ["move"] pZ)(cM:Ai P w K mg base k "exchanged" ["word","bit","other"] Ik):
  Ai P w K mg base (k+1) "word_behind" ["word","move"] xG:=by
 refine F.cal X G ["word","move","bits"] λJ H vs Q E m h=>?_;obtain⟨x,p,v,c,rfl,hp,ok,c6,nt,np,q⟩:=h;have t:=Mv.fits ok;have en:named v.nm v.ns=v.ns:=by unfold named;rw[if_neg nt]
 have y:v.ns.length<=3:=t.form.len;have low:∀a∈v.ns,0<=a/\a<6:=λa I=>by
  have:=t.low a (by rw[en];exact I);lia
 refine⟨_,(@Av _ _ _ _ _ (Td (i:=2) rfl J rfl rfl (Bl.of (Nc:=["cell"]) (mp:=[none]) (by kernel_rfl)) (bQ (Ay cV m rfl (Aa (pv 1) Ae))) (λ_ _ _ _=>(CV (i:=0) (show (["cell"]:W5).Nodup by decide +kernel) rfl (Or.inl rfl))) (λ_ _ _ _=>(Af Ft Ac (pv 0))) rfl)
  (@Av _ _ _ _ _ (B_ (CP Df (Aw BL (pv 1) Ac (λ_ _=>rfl)) Fg (Ad _))
   (@Aj _ _ _ (BJ (Af JL (pv 0) (Aw Eo (pv 2) Ac (λ_ _=>rfl)))))
   CJ)
  (@Av _ _ _ _ _ (B_ (CP Df (Aw BL (pv 1) Ac (λ_ _=>rfl)) Fg (Ad _))
   (@Aj _ _ _ (BJ (Ay cM m rfl (Aa (pv 0) (Aa (Aw Eo (pv 2) Ac (λ_ _=>rfl)) (Aa (Aw Eo (pv 2) Ac (λ_ _=>rfl)) Ae))))))
   CJ)
  (@Av _ _ _ _ _ (B_ (Fo (Kr (Af Di (pv 0) (Aw Eo (pv 2) Ac (λ_ _=>rfl))) (by intro _;rfl)))
   (@Aj _ _ _ (BJ (pv 0)))
   CJ)
  (@Av _ _ _ _ _ (B_ (CP Df (Aw BL (pv 1) Ac (λ_ _=>rfl)) Fg (Ad _))
   (@Aj _ _ _ (BJ (Af JL (pv 0) (Aw Eo (pv 2) Ac (λ_ _=>rfl)))))
   CJ)
  (@Aj _ _ _ (BJ (Ay cM m rfl (Aa (pv 0) (Aa (Aw Eo (pv 2) Ac (λ_ _=>rfl)) (Aa (Aw Eo (pv 2) Ac (λ_ _=>rfl)) Ae))))))))))),?_⟩
 try dsimp only[CN]
 refine⟨_,O,p,v.nm,v.ns,O,hp,t.form,λr H1 M m=>?_⟩;rw[en]at m;refine⟨r,O,⟨_,Ax.of m⟩,λacc o=>?_⟩;refine Xv (K:=K) (λn=>.int (1*2^n.toNat)) (Ax.of m) (Dz (by lia)) o (λn H2 N A R L=>⟨_,O,_,_,O,O,⟨1,GJ,(low n A).1,by have:=(low n A).2;lia⟩,L⟩) (λH3 C D=>?_);have f:=M.trans C;have B:=q H3 f;have SP:Ax K H3 p (.str v.nm::v.ns.map V.int):=Ax.of (f _ _ hp);have l:Ag K H3 acc (v.ns.map λn=>V.int (1*2^n.toNat)):=Ag.of D;have j:∀a:Nat,(1:Int)*2^((a:Int)).toNat=((2^a:Nat):Int):=λa=>ipow a;cases v with
 | flip a =>
  refine⟨_,O,p,_,_,.str "flip",O,O,SP,at0,O,_,O,BP (λ_=>?_) (λz=>absurd rfl z)⟩;refine⟨_,O,_,O,acc,_,_,.int (1*2^((a:Int)).toNat),O,O,l,O,_,_,O,O,?_⟩;show Q (.int (Builtin.bitXor (x:Int) (1*2^((a:Int)).toNat))) H3;rw[j,Ko];exact B
 | turn a k=>exact absurd rfl nt
 | pair a b=>exact absurd rfl np
 | swap a b =>
  refine⟨_,O,p,_,_,.str "swap",O,O,SP,at0,O,_,O,BP (λz=>absurd (V.str.inj z) (by decide +kernel)) (λ_=>?_)⟩;refine⟨_,O,p,_,_,.str "swap",O,O,SP,at0,O,_,O,BP (λ_=>?_) (λz=>absurd rfl z)⟩;refine⟨_,O,_,O,acc,_,_,.int (1*2^((a:Int)).toNat),O,O,l,O,_,O,acc,_,_,.int (1*2^((b:Int)).toNat),O,O,l,O,?_⟩;exact⟨x,a,b,by show [V.int (x:Int),V.int (1*2^((a:Int)).toNat),V.int (1*2^((b:Int)).toNat)]=_;rw[j,j],λs u=>q s (f.trans u)⟩
 | iff a b =>
  refine⟨_,O,p,_,_,.str "if",O,O,SP,at0,O,_,O,BP (λz=>absurd (V.str.inj z) (by decide +kernel)) (λ_=>?_)⟩;refine⟨_,O,p,_,_,.str "if",O,O,SP,at0,O,_,O,BP (λz=>absurd (V.str.inj z) (by decide +kernel)) (λ_=>?_)⟩;refine⟨_,O,_,O,acc,_,_,.int (1*2^((a:Int)).toNat),O,O,l,O,_,_,O,O,_,O,?_⟩;rw[j,Ig];have g:Q (.int ((if x&&&2^a=0 then x else x^^^2^b:Nat):Int)) H3:=B;by_cases e:x&&&2^a=0
  ·rw[if_pos e]at g;rw[e];exact Ds ⟨_,O,g⟩
  ·rw[if_neg e]at g;rw[show ((((x&&&2^a:Nat):Int) != 0)=true) by simpa using e];refine Bd ⟨_,O,p,_,_,.str "if",O,O,SP,at0,O,_,O,BP (λ_=>?_) (λz=>absurd rfl z)⟩;refine⟨_,O,_,O,acc,_,_,.int (1*2^((b:Int)).toNat),O,O,l,O,_,_,O,O,?_⟩;show Q (.int (Builtin.bitXor (x:Int) (1*2^((b:Int)).toNat))) H3;rw[j,Ko];exact g
 | cross a b d =>
  refine⟨_,O,p,_,_,.str "cross",O,O,SP,at0,O,_,O,BP (λz=>absurd (V.str.inj z) (by decide +kernel)) (λ_=>?_)⟩;refine⟨_,O,p,_,_,.str "cross",O,O,SP,at0,O,_,O,BP (λz=>absurd (V.str.inj z) (by decide +kernel)) (λ_=>?_)⟩;refine⟨_,O,_,O,acc,_,_,.int (1*2^((a:Int)).toNat),O,O,l,O,_,_,O,O,_,O,?_⟩;rw[j,Ig];have g:∀H',Same H H'->Q (.int ((if x&&&2^a=0 then x else Jw x b d:Nat):Int)) H':=q;by_cases e:x&&&2^a=0
  ·rw[if_pos e]at g;rw[e];exact Ds ⟨_,O,g _ f⟩
  ·rw[if_neg e]at g;rw[show ((((x&&&2^a:Nat):Int) != 0)=true) by simpa using e];refine Bd ⟨_,O,p,_,_,.str "cross",O,O,SP,at0,O,_,O,BP (λz=>absurd (V.str.inj z) (by decide +kernel)) (λ_=>?_)⟩;refine⟨_,O,_,O,acc,_,_,.int (1*2^((b:Int)).toNat),O,O,l,O,_,O,acc,_,_,.int (1*2^((d:Int)).toNat),O,O,l,O,?_⟩;exact⟨x,b,d,by show [V.int (x:Int),V.int (1*2^((b:Int)).toNat),V.int (1*2^((d:Int)).toNat)]=_;rw[j,j],λs u=>g s (f.trans u)⟩
theorem X8j(v:Mv):v.nm≠"mix":=by
 cases v with
 | flip a=>exact(show ("flip":Str)≠"mix" by decide +kernel)
 | turn a k=>exact(show ("turn":Str)≠"mix" by decide +kernel)
 | iff a b=>exact(show ("if":Str)≠"mix" by decide +kernel)
 | pair a b=>exact(show ("pair":Str)≠"mix" by decide +kernel)
 | swap a b=>exact(show ("swap":Str)≠"mix" by decide +kernel)
 | cross a b d=>exact(show ("cross":Str)≠"mix" by decide +kernel)
variable{v:Mv}
theorem X8l(h:v.nm="turn"):∃a k,v=.turn a k:=by
 cases v with
 | flip a=>exact absurd h (show ("flip":Str)≠"turn" by decide +kernel)
 | turn a k=>exact⟨a,k,rfl⟩
 | iff a b=>exact absurd h (show ("if":Str)≠"turn" by decide +kernel)
 | pair a b=>exact absurd h (show ("pair":Str)≠"turn" by decide +kernel)
 | swap a b=>exact absurd h (show ("swap":Str)≠"turn" by decide +kernel)
 | cross a b d=>exact absurd h (show ("cross":Str)≠"turn" by decide +kernel)
theorem X8m(h:v.nm="pair"):∃a b,v=.pair a b:=by
 cases v with
 | flip a=>exact absurd h (show ("flip":Str)≠"pair" by decide +kernel)
 | turn a k=>exact absurd h (show ("turn":Str)≠"pair" by decide +kernel)
 | iff a b=>exact absurd h (show ("if":Str)≠"pair" by decide +kernel)
 | pair a b=>exact⟨a,b,rfl⟩
 | swap a b=>exact absurd h (show ("swap":Str)≠"pair" by decide +kernel)
 | cross a b d=>exact absurd h (show ("cross":Str)≠"pair" by decide +kernel)
theorem X6y(h:v.nm≠"turn")(h':v.nm≠"pair")(w:Nat):v.sp w=0:=by
 cases v with
 | turn a k=>exact absurd rfl h
 | pair a b=>exact absurd rfl h'
 | flip a=>rfl
 | iff a b=>rfl
 | swap a b=>rfl
 | cross a b d=>rfl
theorem X3a(F:Ab K "spun_where" (top 60) .none)(X:K.In h)(G:Ng h mg)(B:Bs mg)(eA:Ai P w K mg base k "spun" ["one","k"] (Z1 K)):Ai P w K mg base (k+1) "spun_where" ["board","bits","k"] (xT K):=by
 refine F.cal X G ["board","bits","k"] λZ H vs Q E s h=>?_;obtain⟨l,ps,g,c,bits,kk,rfl,u,c6,U⟩:=h;have R:=Dr c6;have W:Ag K H l (ps.map V.ref):=Ag.of u.lst;have m:(ps.map V.ref).length=2^c:=by rw[A_,u.len]
 refine⟨_,(@Aj _ _ _ (BJ (HY rfl (Bl.of (Nc:=["word","one","bits","k"]) (mp:=[none,none,some 1,some 2]) (by kernel_rfl)) (Tc rfl B.enumerate (Aa (pv 0) Ae)) (λ_ _ _ _=>(Vb rfl (show (["word","one","bits","k"]:W5).Nodup by decide +kernel) rfl rfl rfl rfl)) (λ_ _ _ _=>(Nu (CP Df (Af Di (pv 0) (pv 2)) (pv 2) (Ad _)) (Ay eA s rfl (Aa (pv 1) (Aa (pv 3) Ae))) (pv 1)))))),?_⟩;try dsimp only[CN]
 refine⟨_,O,l,_,O,W,λacc b=>?_⟩;refine qK (K:=K) (l:=l) (xs:=ps.map V.ref) (fr:=[some (.int bits),some (.int kk)]) (λi ys H'=>∃(a:U5) (y:Nat->A5),Same H H'/\H' acc=some (.lst ys)/\ys=a.map V.ref/\a.length=i/\Bg K H' a y/\∀j,j<i->y j=if j&&&bits=bits then D_ (g j) kk else g j) (by rw[m];exact Dz R)
  ⟨[],λ_=>((0,0,0,0),0),Ao b _,Al,O,O,(λ_ _ z=>by cases z),λj J=>absurd J (NP _)⟩ (λi ys H' p=>by obtain⟨a,y,s2,_⟩:=p;exact Ag.of (s2 _ _ u.lst)) (λh q=>⟨_,_,O,Ax.of h,O,_,_,O,_,_,O,O,q⟩) ?_ ?_
 ·rintro i x ys H2 T N D M ⟨a,y,t,v,rfl,n,v2,f⟩ L Y;rw[Cz]at D;obtain⟨p,hp,rfl⟩:=Fz.mp D;have I:=(u.vals i p hp).same t;have C:=Ao L (.tup [.int i,.ref p]);have o:∀(r:Y4) (H5:Hp) (z:A5),Same (upd H2 T (.tup [.int i,.ref p])) H5->CZ K H5 r z->z=(if i&&&bits=bits then D_ (g i) kk else g i)->N (.ref r) H5:=λr H5 z A s S=>by
   have d:=C.trans A;refine Y (.ref r) H5 (d _ _ v) ⟨a++[r],λj=>if j=a.length then z else y j,Dy (t.trans d) b,Al,by rw[Cg];rfl,by simp[n],JQ (xs:=a.map V.ref) (J4 v2 d s) (d _ _ v),λj J=>?_⟩;show (if j=a.length then z else y j)=_;by_cases e:j=a.length
   ·rw[if_pos e,S,e,n]
   ·rw[if_neg e];exact f j (by lia)
  refine⟨_,O,_,O,_,_,O,O,_,O,O,_,O,?_⟩;show if decide (V.int (Builtin.bitAnd (i:Int) (bits:Int))=V.int (bits:Int))=true then _ else _;rw[Ig];by_cases e:i&&&bits=bits
  ·rw[Ec (by rw[e])];refine Ds ⟨_,O,_,O,p,_,_,_,_,_,_,O,I.same C,λr H5 A s=>o r H5 (D_ (g i) kk) A s (by rw[if_pos e])⟩
  ·rw[Cr (λz=>e (by have:=V.int.inj z;lia))];exact Bd ⟨_,O,o p _ (g i) (Same.refl _) (I.same C) (by rw[if_neg e])⟩
 ·rintro ys H2 M ⟨a,y,t,v,rfl,n,v2,f⟩;rw[m]at n f;exact U acc H2 a y b t ⟨v,n,v2⟩ f
noncomputable def Yy (c a w:Nat):Bool:=decide (w&&&2^a=0) == decide (w / 2^a%2=0) && if w / 2^a%2=0 then decide ((w ||| 2^a)=w+2^a) && decide (w+2^a<2^c) && decide ((w+2^a) / 2^a%2=1) else decide ((w^^^2^a)=w-2^a) && decide (2^a<=w) && decide ((w-2^a) / 2^a%2=0)
theorem X6k:((List.range 7).all λc=>(List.range c).all λa=>(List.range (2^c)).all λw=>Yy c a w)=true:=by decide +kernel
variable{a:Nat}
theorem rm{w:Nat}(hc:c<=6)(ha:a<c)(hw:w<2^c):Yy c a w=true :=
 Gz.mp (Gz.mp (Gz.mp X6k c (El.mpr (by lia))) a (El.mpr ha)) w (El.mpr hw)
theorem YW{w:Nat}(hc:c<=6)(ha:a<c)(hw:w<2^c)(h:w / 2^a%2=0):w&&&2^a=0/\(w ||| 2^a)=w+2^a/\w+2^a<2^c/\(w+2^a) / 2^a%2=1:=by
 have:=rm hc ha hw;unfold Yy at this;rw[if_pos h,Ec h]at this;simpa [and_assoc] using this
theorem ou{w:Nat}(hc:c<=6)(ha:a<c)(hw:w<2^c)(h:¬ w / 2^a%2=0):w&&&2^a≠0/\(w^^^2^a)=w-2^a/\2^a<=w/\(w-2^a) / 2^a%2=0:=by
 have:=rm hc ha hw;unfold Yy at this;rw[if_neg h,Cr h]at this;simpa [and_assoc] using this
structure Mix (s:Int) (x y z:A5):Prop where
 ex:∃p:A5,Sum x.1.1 x.1.2.1 x.1.2.2.1 x.1.2.2.2 x.2 (s*y.1.1) (s*y.1.2.1) (s*y.1.2.2.1) (s*y.1.2.2.2) y.2 p.1.1 p.1.2.1 p.1.2.2.1 p.1.2.2.2 p.2 /\
  Hr z.1.1 z.1.2.1 z.1.2.2.1 z.1.2.2.2 z.2/\DQ (p.1.2.1-p.1.2.2.2) (p.1.1+p.1.2.2.1) (p.1.2.1+p.1.2.2.2) (p.1.2.2.1-p.1.1) (p.2+1) z.1.1 z.1.2.1 z.1.2.2.1 z.1.2.2.2 z.2
variable{x y:A5}
theorem qe(h:x.1.1=y.1.1/\x.1.2.1=y.1.2.1/\x.1.2.2.1=y.1.2.2.1/\x.1.2.2.2=y.1.2.2.2/\x.2=y.2):x=y:=by
 obtain⟨⟨a,b,c,d⟩,h1⟩:=x;obtain⟨⟨a',b',c',d'⟩,h2⟩:=y;obtain⟨rfl,rfl,rfl,rfl,rfl⟩:=h;rfl
def Cu (f:Nat->A5)(a w:Nat)(z:A5):Prop:=if w / 2^a%2=0 then Mix 1 (f w) (f (w+2^a)) z else Mix (-1) (f (w-2^a)) (f w) z
structure Bu (K:U0) (H:Hp) (l:Y4) (ps:U5) (f:Nat->A5) (c n m:Nat):Prop where
 lst:H l=some (.lst (ps.map V.ref))
 len:ps.length=2^c
 vals:Bg K H ps f
 ok:∀i,i<2^c->FN n m (f i)
variable{n m:Nat}
theorem Bu.same(b:Bu K H l ps f c n m)(s:Same H H'):Bu K H' l ps f c n m:=⟨s _ _ b.lst,b.len,b.vals.same s,b.ok⟩
theorem Bu.at{i:Nat}(b:Bu K H l ps f c n m)(hi:i<2^c):∃p,ps[i]?=some p/\CZ K H p (f i)/\HF (ps.map V.ref) (i:Int)=some (.ref p):=by
 have a:i<ps.length:=by rw[b.len];exact hi
 refine⟨ps[i],GR a,b.vals i _ (GR a),Ol (by rw[Cz,GR a];rfl)⟩
def uT (K:U0):Sp:=λvs H Q _=>∃(l:Y4) (ps:U5) (f:Nat->A5) (c n m a wd:Nat),vs=[.ref l,.int wd,.int ((2^a:Nat):Int)]/\Bu K H l ps f c n m/\c<=6/\a<c/\wd<2^c/\n<=450000/\m<=10000 /\
 ∀(r:Y4) (H':Hp) (z:A5),Same H H'->H' r=some (tA z)->FN (n+2*m+3) (m+1:Nat) z->Cu f a wd z->Q (.ref r) H'
def xO (K:U0):Sp:=λvs H Q _=>∃(l:Y4) (ps:U5) (f:Nat->A5) (c n m a:Nat),vs=[.ref l,.int ((2^a:Nat):Int)]/\Bu K H l ps f c n m/\c<=6/\a<c/\n<=450000/\m<=10000 /\
 ∀(r:Y4) (H':Hp) (qs:U5) (g:Nat->A5),H r=none->Same H H'->Bu K H' r qs g c (n+2*m+3) (m+1)->(∀w,w<2^c->Cu f a w (g w))->Q (.ref r) H'
theorem zN{z p:A5}(ox:FN n m x)(oy:FN n m y)(hp:p.2<=max x.2 y.2)(sp:L_ (n+x.2.toNat+y.2.toNat+2) p.1.1 p.1.2.1 p.1.2.2.1 p.1.2.2.2)
  (r:Red (p.1.2.1-p.1.2.2.2) (p.1.1+p.1.2.2.1) (p.1.2.1+p.1.2.2.2) (p.1.2.2.1-p.1.1) (p.2+1) z.1.1 z.1.2.1 z.1.2.2.1 z.1.2.2.2 z.2):FN (n+2*m+3) (m+1:Nat) z:=by
 have f:=ox.le;have e:=oy.le;have c:=ox.amt.nn;have d:=oy.amt.nn;have s:L_ (n+2*m+2) p.1.1 p.1.2.1 p.1.2.2.1 p.1.2.2.2:=sp.mono (by lia);have neg:∀{u v:Int},Sz (n+2*m+2) u->Sz (n+2*m+2) v->Sz (n+2*m+3) (u-v):=λa b=>by rw[Int.sub_eq_add_neg];exact(a.add b.neg).mono (by lia)
 have add:∀{u v:Int},Sz (n+2*m+2) u->Sz (n+2*m+2) v->Sz (n+2*m+3) (u+v):=λa b=>(a.add b).mono (by lia);refine⟨r.sz ⟨neg s.z2 s.z4,add s.z1 s.z3,add s.z2 s.z4,neg s.z3 s.z1⟩,r.amt,?_⟩;have:=r.le;lia
theorem yw{p q:Y4}(hp:CZ K H p x)(hq:CZ K H q y)(ox:FN n m x)(oy:FN n m y)(hn:n<=450000)(hm:m<=10000):rK K n [.ref p,.ref q] H p q x.1.1 x.1.2.1 x.1.2.2.1 x.1.2.2.2 x.2 y.1.1 y.1.2.1 y.1.2.2.1 y.1.2.2.2 y.2:=by
 have:=ox.le;have:=oy.le;exact⟨O,hp,hq,ox.amt.nn,oy.amt.nn,by lia,by lia,ox.sz,oy.sz⟩
theorem Y6o(F:Ab K "mixed_at" (top 59) .none)(X:K.In h)(G:Ng h mg)(e9:Ai P w K mg base k "rooted" ["one"] xQ)(gD:Ai P w K mg base k "minus" ["one","other"] (xM K))(e6:Ai P w K mg base k "plus" ["one","other"] (p7 K)):
  Ai P w K mg base (k+1) "mixed_at" ["board","word","bit"] (uT K):=by
 refine F.cal X G ["board","word","bit"] λnd H vs Q E A h=>?_;obtain⟨l,ps,g,c,n,m,a,s,rfl,b,c6,ac,d,Z,m1,kq⟩:=h;have t:Ag K H l (ps.map V.ref):=Ag.of b.lst
 refine⟨_,(@Av _ _ _ _ _ (B_ (Kr (Af Di (pv 1) (pv 2)) (by intro _;rfl))
   (@Aj _ _ _ (BJ (Ay e9 A rfl (Aa (Ay gD A rfl (Aa (Aw Eo (pv 0) (Af JL (pv 1) (pv 2)) (λ_ _=>rfl)) (Aa (Aw Eo (pv 0) (pv 1) (λ_ _=>rfl)) Ae))) Ae))))
   CJ)
  (@Aj _ _ _ (BJ (Ay e9 A rfl (Aa (Ay e6 A rfl (Aa (Aw Eo (pv 0) (pv 1) (λ_ _=>rfl)) (Aa (Aw Eo (pv 0) (Af Nq (pv 1) (pv 2)) (λ_ _=>rfl)) Ae))) Ae))))),?_⟩
 try dsimp only[CN]
 by_cases hb:s / 2^a%2=0
 ·obtain⟨e1,e2,D,_⟩:=YW c6 ac d hb;obtain⟨p,_,hp,L⟩:=b.at d;obtain⟨q,_,N,T⟩:=b.at D;refine⟨_,O,_,O,_,_,O,O,_,O,?_⟩;rw[Ig,e1];refine Bd ?_;refine⟨_,O,_,O,l,_,_,_,O,O,t,L,_,O,_,O,_,O,_,_,O,O,l,_,_,_,O,O,t,(by rw[JK,e2];exact T),?_⟩;have ox:=b.ok _ d;have r:=b.ok _ D;refine⟨n,p,q,_,_,_,_,_,_,_,_,_,_,yw hp N ox r Z m1,λB H1 x y z u v U o j R=>?_⟩;refine⟨B,x,y,z,u,v,O,o,j.amt.nn,λC H2 I S W M Y J e f=>?_⟩;refine kq C H2 ((I,S,W,M),Y) (U.trans J) e (zN (p:=((x,y,z,u),v)) ox r j.le R f) ?_;unfold Cu;rw[if_pos hb];exact⟨((x,y,z,u),v),by simpa only[N8] using j,f.amt,f.same⟩
 ·obtain⟨e1,e2,D,_⟩:=ou c6 ac d hb;obtain⟨p,_,hp,L⟩:=b.at (i:=s-2^a) (Ob (Wi _ _) d);obtain⟨q,_,N,T⟩:=b.at d;have ox:=b.ok (s-2^a) (Ob (Wi _ _) d);have r:=b.ok _ d;refine⟨_,O,_,O,_,_,O,O,_,O,?_⟩;rw[Ig,show ((((s&&&2^a:Nat):Int) != 0)=true) by simpa using e1];refine Ds ?_;refine⟨_,O,_,O,_,O,_,_,O,O,l,_,_,_,O,O,t,(by rw[Ko,e2];exact L),_,O,_,O,l,_,_,_,O,O,t,T,?_⟩;refine⟨n,p,q,_,_,_,_,_,_,_,_,_,_,yw hp N ox r Z m1,λB H1 x y z u v U o j R=>?_⟩;refine⟨B,x,y,z,u,v,O,o,j.amt.nn,λC H2 I S W M Y J e f=>?_⟩;refine kq C H2 ((I,S,W,M),Y) (U.trans J) e (zN (p:=((x,y,z,u),v)) ox r j.le R f) ?_;unfold Cu;rw[if_neg hb];exact⟨((x,y,z,u),v),by simpa only[Int.neg_one_mul] using j,f.amt,f.same⟩
theorem X3d(F:Ab K "mixed" (top 58) .none)(X:K.In h)(G:Ng h mg)(B:Bs mg)(eP:Ai P w K mg base k "mixed_at" ["board","word","bit"] (uT K)):Ai P w K mg base (k+1) "mixed" ["board","bit"] (xO K):=by
 refine F.cal X G ["board","bit"] λZ H vs Q E W h=>?_;obtain⟨l,ps,g,c,n,m,a,rfl,p,c6,T,A,J,M⟩:=h;have L:=Dr c6;have S:Ag K H l (ps.map V.ref):=Ag.of p.lst;have o:(((ps.map V.ref).length:Nat):Int).toNat=2^c:=by rw[A_,p.len,Dm]
 refine⟨_,(@Aj _ _ _ (BJ (HY rfl (Bl.of (Nc:=["word","board","bit"]) (mp:=[none,some 0,some 1]) (by kernel_rfl)) (J3 rfl B.range (Aa (CG Eh rfl B.len EY (Aa (pv 0) Ae)) Ae)) (λ_ _ _ _=>(CV (i:=0) (show (["word","board","bit"]:W5).Nodup by decide +kernel) rfl (Or.inl rfl))) (λ_ _ _ _=>(Ay eP W rfl (Aa (pv 1) (Aa (pv 0) (Aa (pv 2) Ae)))))))),?_⟩;try dsimp only[CN]
 refine⟨_,O,l,_,O,.inl S,_,O,by rw[A_,p.len];lia,by rw[A_,p.len];lia,λacc d=>?_⟩;rw[o];refine VR (n:=2^c) (fr:=[some (.ref l),some (.int ((2^a:Nat):Int))]) (λi ys H'=>∃(b:U5) (y:Nat->A5),Same H H'/\H' acc=some (.lst ys)/\ys=b.map V.ref/\b.length=i/\Bg K H' b y/\∀j,j<i->FN (n+2*m+3) (m+1:Nat) (y j)/\Cu g a j (y j)) (Dz L)
  ⟨[],λ_=>((0,0,0,0),0),Ao d _,Al,O,O,(λ_ _ z=>by cases z),λj x=>absurd x (NP _)⟩ ?_ ?_
 ·rintro i ys H2 N hi C ⟨b,y,s,u,rfl,t,v2,f⟩ Y;refine⟨_,O,_,O,_,O,l,ps,g,c,n,m,a,i,(by show [V.ref l,V.int (0+(i:Int)),_]=_;rw[KJ]),p.same s,c6,T,hi,A,J,λr D z q v U R=>?_⟩;refine Y (.ref r) D (q _ _ u) ⟨b++[r],λj=>if j=b.length then z else y j,Dy (s.trans q) d,Al,by rw[Cg];rfl,by simp[t],JQ (xs:=b.map V.ref) (J4 v2 q (CZ.of v)) (q _ _ u),λj x=>?_⟩;by_cases e:j=b.length
  ·show FN _ _ (if j=b.length then z else y j)/\Cu g a j (if j=b.length then z else y j);rw[if_pos e,e,t];exact⟨U,R⟩
  ·show FN _ _ (if j=b.length then z else y j)/\Cu g a j (if j=b.length then z else y j);rw[if_neg e];exact f j (by lia)
 ·rintro ys H2 C ⟨b,y,s,u,rfl,t,v2,f⟩;exact M acc H2 b y d s ⟨u,t,v2,λi hi=>(f i hi).1⟩ λw I=>(f w I).2
end
end Ar
namespace L2
abbrev Mm:=Str×List Int
noncomputable abbrev mT (m:Mm):HO:=.tup (.str m.1::m.2.map V.int)
def Ck (H:Hp):List Addr->List Mm->Prop:=Paired λp m=>H p=some (mT m)
theorem Ck.same{H H':Hp}{ps:U5}{ms:List Mm}(h:Ck H ps ms)(s:Same H H'):Ck H' ps ms:=Paired.imp' (λ_ _ c=>s _ _ c) h
section
variable {P:W3}{w:W6}{H:Hp}{h:Heap}
end
section
variable {X:Cx}
end
end L2
namespace L2
theorem X4q:bootBuiltins "reversed"=some (.type "reversed"):=by decide +kernel
def fQ (K:U0)(a:Y4)(n:Nat):It :=
 ⟨λi H=>i<n/\∃xs,Ag K H a xs/\xs.length=n,λi H x H'=>H'=H/\∀xs,Ag K H a xs->xs[n-1-i]?=some x,λi _=>i=n⟩
theorem X1x{P:W3}{w:W6}{K:U0}{tg:Expr}(a it:Y4)(n:Nat):Turn P w K tg (fQ K a n) [it] it (λi h=>i<=n/\h.IsRevIter it a ((n:Int)-1-(i:Int))) where
 mem:=by simp
 obj:=λi h st b hb=>by
  cases Fj.mp hb;obtain⟨_,o,e,c,d⟩:=st;exact⟨o,e,λv z=>by rw[d]at z;cases z⟩
 keep:=λi h h' st k=>⟨st.1,st.2.at λo e=>k it (by simp) o e⟩
 item:=by
  intro X A l m F i pins s σ H E I hf st C;subst A l m;obtain⟨hi,xs,D,U⟩:=C;obtain⟨its,M,p,T⟩:=I.list D;have j:n-1-i<xs.length:=by lia
  obtain⟨u,Q,J⟩:=M.get (GR j);obtain⟨r,t,L,B,q,y⟩:=hf it (by simp);have e1:(n:Int)-1-(i:Int)=((n-1-i:Nat):Int):=by lia
  have f:=st.2;rw[e1]at f;refine wpAny_pyNext_rev_item f p.isList (x:=u) (by simpa using Q) λh' g N=>?_;have S:Inv X pins σ H {s with heap:=h'}:=I.turned (t':=s.toks) (λb o hb e=>(N.2 b hb).trans e) r t B q y;rw[show ((n-1-i:Nat):Int)-1=(n:Int)-1-((i+1:Nat):Int) by lia]at g;obtain⟨o,e,c,d⟩:=id g;refine⟨u,O,fC (s:={s with heap:=h'}) e c d (by decide) ⟨xs[n-1-i],H,S,J,⟨O,λys G=>?_⟩,⟨hi,g⟩,λb hb=>(hf b hb).1⟩⟩;rw[I.list_inj G D];exact GR j
 done:=by
  intro X A l m F i pins s σ H E I hf st C;subst A l m;obtain⟨r,t,L,B,q,y⟩:=hf it (by simp);have hi:i=n:=C;have f:=st.2;rw[hi,show (n:Int)-1-(n:Int)=-1 by lia]at f;exact wpAny_pyNext_rev_end (I.ok.hd F) f λh' R=>⟨O,I.turned (t':=s.toks) (λb o hb e=>R b o hb e) r t B q y⟩
 self:=λ_ _ _ _ _ st h=>wpAny_pyIter_revIter st.2 h
def m7 (K:U0)(ta:TA):TI:=λσ H R=>ta σ H λvs H1=>∃(l:Y4) (xs:List V),vs=[.ref l]/\Ag K H1 l xs/\R (fQ K l xs.length) H1
theorem W1k{X:Cx}{tg a:Expr}{ta:TA}{p pos:Pos}(hg:Gl X "reversed")(hm:X.mg "reversed"=none)(ha:PA X [a] ta)(hs:starEach [a] X.env=[(false,eval a X.env)]:=by rfl):
  PI X tg (.Call (.Name "reversed" p) [a] [] pos) (m7 X.K ta):=by
 intro pins s σ H R I h;refine Call_ (QC I hg hm X4q (PyProof.Rows.callWith_type1 (Bm (ha pos pins s σ H _ I h) λus c ⟨vs,H1,f,i,g⟩=>?_) (by rw[hs];rfl) (by rfl)));obtain⟨l,xs,e,h1,q⟩:=g;subst e;cases i with
 | cons r rr =>
  cases rr;cases r;obtain⟨its,j,k,n⟩:=f.list h1;have m:=j.length;refine call_reversed_list k.isList ?_;have d:(c.heap.push (revObj l ((its.toArray.size:Int)-1))).IsRevIter c.heap.objs.size l ((xs.length:Int)-1-((0:Nat):Int)):=⟨_,Gv _ rfl,O,by rw[FJ,<-m];simp;rfl⟩;refine wpAny_pyIter_revIter (s:={c with heap:=c.heap.push (revObj l ((its.toArray.size:Int)-1))}) d ⟨c.heap.objs.size,[c.heap.objs.size],_,_,H1,O,f.kept (t':=c.toks) λb o e=>FP _ e,X1x l _ xs.length,⟨Fy _,d⟩,λb hb=>?_,q⟩;cases Fj.mp hb;exact f.fpOk (CT _) (f.hok.fresh (CT _))
theorem W2m{K:U0}{a:Y4}{xs:List V}{te:TE}{fr:St}{H1:Hp}{acc:Y4}{Q:VK}(Pv:Nat->List V->Hp->Prop)(hn:xs.length<=sizeLine)(h0:Pv 0 [] (upd H1 acc (.lst [])))
  (hl:∀i ys H,Pv i ys H->Ag K H a xs)
  (hs:∀i x ys H (N:V->Hp->Prop),xs.reverse[i]?=some x->ys.length=i->Pv i ys H->(∀y H5,H5 acc=some (.lst ys)->Pv (i+1) (ys++[y]) (upd H5 acc (.lst (ys++[y])))->N y H5)->te (some x::fr) H N)
  (hd:∀ys H,ys.length=xs.length->Pv xs.length ys H->Q (.ref acc) H):
  Ii (fQ K a xs.length) (CQ 0) te (none::fr) H1 acc Q:=by
 have b:∀i,i<xs.length->xs.reverse[i]?=some (xs.getD (xs.length-1-i) .non)/\xs[xs.length-1-i]?=some (xs.getD (xs.length-1-i) .non):=λi hi=>by
  have c:xs.length-1-i<xs.length:=by lia
  have e:xs[xs.length-1-i]?=some (xs.getD (xs.length-1-i) .non):=by rw[Ef,GR c];rfl
  exact⟨by rw[jN hi];exact e,e⟩
 refine fG (J:=fQ K a xs.length) (n:=xs.length) (val:=λi=>xs.getD (xs.length-1-i) .non) Pv hn h0 (λi ys H hi p=>⟨⟨hi,xs,hl i ys H p,O⟩,λx H' y=>⟨y.1,?_⟩⟩) (λys H p=>rfl) (λi ys H N hi d p f=>hs i _ ys H N (b i hi).1 d p f) hd;have:=y.2 xs (hl i ys H p);rw[(b i hi).2]at this;exact(Option.some.inj this).symm
end L2
namespace Ar
open L2 Am Pc Ba
variable{g:Int}
theorem Uz{x h y N:Int}(hh:0<=h)(hg:0<=g)(h1:h<=N)(h2:g<=N):Fp x h y g↔x*p2 (N-h)=y*p2 (N-g):=by
 unfold Fp;have e1:=QF hh h1;have e2:=QF hg h2;have e:=RV h;have d:=RV g;have f:=RV (N-h);have i:=RV (N-g);have c:=RV N;constructor
 ·intro z;have:(x*p2 (N-h))*(p2 h*p2 g)=(y*p2 (N-g))*(p2 h*p2 g):=by
   have a:(x*p2 (N-h))*(p2 h*p2 g)=(x*p2 g)*p2 N:=by rw[e1];grind
   have b:(y*p2 (N-g))*(p2 h*p2 g)=(y*p2 h)*p2 N:=by rw[e2];grind
   rw[a,b,z]
  exact Zk (Int.mul_ne_zero e d) this
 ·intro z;have:(x*p2 g)*p2 N=(y*p2 h)*p2 N:=by
   have a:(x*p2 (N-h))*(p2 h*p2 g)=(x*p2 g)*p2 N:=by rw[e1];grind
   have b:(y*p2 (N-g))*(p2 h*p2 g)=(y*p2 h)*p2 N:=by rw[e2];grind
   rw[<-a,<-b,z]
  exact Zk c this
noncomputable def va (x:A5)(M:Int):Int:=x.1.1*p2 (M-x.2)
noncomputable def vb (x:A5)(M:Int):Int:=x.1.2.1*p2 (M-x.2)
noncomputable def vc (x:A5)(M:Int):Int:=x.1.2.2.1*p2 (M-x.2)
noncomputable def vd (x:A5)(M:Int):Int:=x.1.2.2.2*p2 (M-x.2)
variable{M:Int}
theorem Z2{a a' u h h':Int}(h0:0<=h)(h0':0<=h')(g0:0<=g)(l1:h+h'<=M)(l2:g<=M)(e:Fp (a*p2 h'+a'*p2 h) (h+h') u g):u*p2 (M-g)=a*p2 (M-h)+a'*p2 (M-h'):=by
 have z:=(Uz (by lia) g0 l1 l2).mp e;have e1:p2 (M-h)=p2 (M-(h+h'))*p2 h':=by rw[<-VB (by lia) h0'];congr 1;lia
 have e2:p2 (M-h')=p2 (M-(h+h'))*p2 h:=by rw[<-VB (by lia) h0];congr 1;lia
 rw[<-z,e1,e2];grind
theorem aA{u v h:Int}(h0:0<=h)(g0:0<=g)(l1:h<=M)(l2:g<=M+1)(e:Fp u (h+1) v g):v*p2 (M+1-g)=u*p2 (M-h):=by
 have z:=(Uz (N:=M+1) (by lia) g0 (by lia) l2).mp e;rw[<-z];congr 2;lia
variable{x y z:A5}
theorem Mix.vals{s:Int}(m:Mix s x y z)(hx:0<=x.2)(hy:0<=y.2):∃M0:Int,∀M,M0<=M ->
  va z (M+1)=(vb x M+s*vb y M)-(vd x M+s*vd y M)/\vb z (M+1)=(va x M+s*va y M)+(vc x M+s*vc y M)/\vc z (M+1)=(vb x M+s*vb y M)+(vd x M+s*vd y M)/\vd z (M+1)=(vc x M+s*vc y M)-(va x M+s*va y M):=by
 obtain⟨p,S,g,R⟩:=m.ex;have a:=S.amt.nn;have z0:=g.nn;refine⟨x.2+y.2+p.2+z.2,λM k=>?_⟩;have l1:x.2+y.2<=M:=by lia
 have l2:p.2<=M:=by lia
 have l3:z.2<=M+1:=by lia
 have f:=Z2 hx hy a l1 l2 S.same.e1;have h:=Z2 hx hy a l1 l2 S.same.e2;have d:=Z2 hx hy a l1 l2 S.same.e3;have j:=Z2 hx hy a l1 l2 S.same.e4;have b:=aA a z0 l2 l3 R.e1;have c:=aA a z0 l2 l3 R.e2;have i:=aA a z0 l2 l3 R.e3;have e:=aA a z0 l2 l3 R.e4;unfold va vb vc vd;rw[b,c,i,e,Int.sub_mul,Int.add_mul,Int.add_mul,Int.sub_mul,f,h,d,j];refine⟨?_,?_,?_,?_⟩<;>grind
theorem X1t(ax:Hr x.1.1 x.1.2.1 x.1.2.2.1 x.1.2.2.2 x.2)(ay:Hr y.1.1 y.1.2.1 y.1.2.2.1 y.1.2.2.2 y.2)(l1:x.2<=M)(l2:y.2<=M)(e1:va x M=va y M)(e2:vb x M=vb y M)(e3:vc x M=vc y M)(e4:vd x M=vd y M):x=y :=
 qe (ax.unique ay ⟨(Uz ax.nn ay.nn l1 l2).mpr e1,(Uz ax.nn ay.nn l1 l2).mpr e2,(Uz ax.nn ay.nn l1 l2).mpr e3,(Uz ax.nn ay.nn l1 l2).mpr e4⟩)
theorem Mix.amt{s:Int}(m:Mix s x y z):Hr z.1.1 z.1.2.1 z.1.2.2.1 z.1.2.2.2 z.2:=by
 obtain⟨p,_,a,_⟩:=m.ex;exact a
inductive Gm where
 | mv (v:Mv)
 | mix (a:Nat)
namespace Gm
noncomputable def nm:Gm->Str
 | mv v=>v.nm
 | mix _=>"mix"
noncomputable def ns:Gm->List Int
 | mv v=>v.ns
 | mix a=>[(a:Int)]
def Ok (c:Nat):Gm->Prop
 | mv v=>v.Ok c
 | mix a=>a<c
noncomputable abbrev mm (m:Gm):Mm:=(m.nm,m.ns)
end Gm
def Step (c:Nat):Gm->(Nat->A5)->(Nat->A5)->Prop
 | .mv v,f,g=>∀w,w<2^c->g w=D_ (f (v.to w)) (v.sp w:Nat)
 | .mix a,f,g=>∀w,w<2^c->Cu f a w (g w)
inductive Steps (c:Nat):List Gm->(Nat->A5)->(Nat->A5)->Prop
 | nil {f:Nat->A5}:Steps c [] f f
 | cons {m:Gm}{ms:List Gm}{f g h:Nat->A5}:Step c m f g->Steps c ms g h->Steps c (m::ms) f h
theorem Steps.snoc{c:Nat}:∀{a:List Gm}{m:Gm}{f g h:Nat->A5},Steps c a f g->Step c m g h->Steps c (a++[m]) f h
 | _,_,_,_,_,.nil,s=>.cons s .nil
 | _,_,_,_,_,.cons s t,r=>.cons s (Steps.snoc t r)
abbrev Fw (c:Nat)(f:Nat->A5):Prop:=∀w,w<2^c->Hr (f w).1.1 (f w).1.2.1 (f w).1.2.2.1 (f w).1.2.2.2 (f w).2
theorem o7{v:Int×Int×Int×Int}{h:Int}(o:Hr v.1 v.2.1 v.2.2.1 v.2.2.2 h):∀k,Hr (Dl k v).1 (Dl k v).2.1 (Dl k v).2.2.1 (Dl k v).2.2.2 h
 | 0=>o
 | k+1=>by
  have:=o7 o k;refine⟨this.nn,?_⟩;have o:h=0\/(Dl k v).1%2=1\/(Dl k v).2.1%2=1\/(Dl k v).2.2.1%2=1\/(Dl k v).2.2.2%2=1:=this.odd;show h=0\/(-(Dl k v).2.2.2)%2=1\/(Dl k v).1%2=1\/(Dl k v).2.1%2=1\/(Dl k v).2.2.1%2=1;lia
variable{c:Nat}{m:Gm}{f:Nat->A5}
theorem Step.ams{g:Nat->A5}(hc:c<=6)(ok:m.Ok c)(s:Step c m f g)(a:Fw c f):Fw c g:=by
 intro w b;cases m with
 | mv v =>
  have e:g w=D_ (f (v.to w)) (v.sp w:Nat):=s w b;rw[e];exact o7 (a _ (Mv.to_lt hc ok b)) _
 | mix a =>
  have e:Cu f a w (g w):=s w b;unfold Cu at e;split at e
  ·exact e.amt
  ·exact e.amt
theorem Gm.fits(h:m.Ok c):Fits m.nm m.ns c:=by
 cases m with
 | mv v=>exact Mv.fits h
 | mix a =>
  have e:named "mix" [(a:Int)]=[(a:Int)]:=by unfold named;rw[if_neg (by decide +kernel)]
  have h:a<c:=h;exact⟨⟨(show numAt NB "mix"=some (.int ((1:Nat):Int)) by decide +kernel),(show 1<=3 by decide),λz=>absurd (show ("mix":Str)="turn" from z) (by decide +kernel)⟩,by show ∀x∈named "mix" [(a:Int)],_;rw[e];intro b hb;rw[Fj.mp hb];lia,by show (named "mix" [(a:Int)]).Nodup;rw[e];simp⟩
variable{n:Nat}
theorem Z_{k:Int}(o:FN n M x):FN n M (D_ x k):=bJ o _
variable{K:U0}{H:Hp}{l:Y4}{ps:U5}{m:Nat}
theorem Bu.bo(b:Bu K H l ps f c n m):Bo K H l ps f c:=⟨b.lst,b.len,b.vals⟩
def yZ (K:U0):Sp:=λvs H Q _=>∃(l p:Y4) (ps:U5) (f:Nat->A5) (c n M:Nat) (m:Gm),vs=[.ref l,.ref p]/\H p=some (UJ m.nm m.ns)/\m.Ok c/\Bu K H l ps f c n M/\c<=6/\n<=450000/\M<=10000 /\
 ∀(r:Y4) (H':Hp) (qs:U5) (g:Nat->A5),H r=none->Same H H'->Bu K H' r qs g c (n+2*M+3) (M+1)->Step c m f g->Q (.ref r) H'
section
variable {P:W3}{w:W6}{K:U0}{mg:U6}{base:Heap}{k:Nat}{h:Heap}
theorem Y9d(F:Ab K "turned" (top 57) .none)(X:K.In h)(G:Ng h mg)(B:Bs mg)(dY:Ai P w K mg base k "check_move" ["move","cells"] vW)(c7:Ai P w K mg base k "cells_of" ["board"] (Lz K))(gE:Ai P w K mg base k "mixed" ["board","bit"] (xO K))(d9:Ai P w K mg base k "spun_where" ["board","bits","k"] (xT K))
  (dR:Ai P w K mg base k "word_behind" ["word","move"] xG):Ai P w K mg base (k+1) "turned" ["board","move"] (yZ K):=by
 refine F.cal X G ["board","move"] λnd H vs Q E C h=>?_;obtain⟨l,p,ps,g,c,n,M,m,rfl,hp,ok,BD,c6,n4,m1,D⟩:=h;have p6:=Dr c6;have x:=BD.bo;have T:∀a:Nat,(1:Int)*2^((a:Int)).toNat=((2^a:Nat):Int):=λa=>ipow a
 refine⟨_,(@Av _ _ _ _ _ (H_ (Ay dY C rfl (Aa (pv 1) (Aa (Ay c7 C rfl (Aa (pv 0) Ae)) Ae))))
  (@Av _ _ _ _ _ (B_ (CP Df (Aw BL (pv 1) Ac (λ_ _=>rfl)) Fg (Ad _))
   (@Aj _ _ _ (BJ (Ay gE C rfl (Aa (pv 0) (Aa (Af Ft Ac (Aw BL (pv 1) Ac (λ_ _=>rfl))) Ae)))))
   CJ)
  (@Av _ _ _ _ _ (B_ (CP Df (Aw BL (pv 1) Ac (λ_ _=>rfl)) Fg (Ad _))
   (@Aj _ _ _ (BJ (Ay d9 C rfl (Aa (pv 0) (Aa (Af Ft Ac (Aw BL (pv 1) Ac (λ_ _=>rfl))) (Aa (Aw BL (pv 1) Ac (λ_ _=>rfl)) Ae))))))
   CJ)
  (@Av _ _ _ _ _ (B_ (CP Df (Aw BL (pv 1) Ac (λ_ _=>rfl)) Fg (Ad _))
   (@Aj _ _ _ (BJ (Ay d9 C rfl (Aa (pv 0) (Aa (Af Nq (Af Ft Ac (Aw BL (pv 1) Ac (λ_ _=>rfl))) (Af Ft Ac (Aw BL (pv 1) Ac (λ_ _=>rfl)))) (Aa Ac Ae))))))
   CJ)
  (@Aj _ _ _ (BJ (HY rfl (Bl.of (Nc:=["word","board","move"]) (mp:=[none,some 0,some 1]) (by kernel_rfl)) (J3 rfl B.range (Aa (CG Eh rfl B.len EY (Aa (pv 0) Ae)) Ae)) (λ_ _ _ _=>(CV (i:=0) (show (["word","board","move"]:W5).Nodup by decide +kernel) rfl (Or.inl rfl))) (λ_ _ _ _=>(Aw wM (pv 1) (Ay dR C rfl (Aa (pv 0) (Aa (pv 2) Ae))) (λ_ _=>rfl)))))))))),?_⟩
 try dsimp only[CN]
 refine⟨_,O,_,O,l,_,c,O,Ag.of x.lst,by rw[A_,x.len],c6,p,m.nm,m.ns,c,O,hp,Gm.fits ok,λH1 o=>?_⟩;have SP:Ax K H1 p (.str m.nm::m.ns.map V.int):=Ax.of (o _ _ hp);have R:=x.same o;have Y:=BD.same o;cases m with
 | mix a =>
  have ac:a<c:=ok;refine⟨_,O,p,_,_,.str "mix",O,O,SP,at0,O,_,O,BP (λ_=>?_) (λz=>absurd rfl z)⟩;refine⟨_,O,_,O,p,_,_,.int a,O,O,SP,O,_,_,O,O,⟨1,GJ,by lia,by lia⟩,?_⟩;exact⟨l,ps,g,c,n,M,a,congrArg (λz=>[V.ref l,V.int z]) (T a),Y,c6,ac,n4,m1,λr H2 d y t f J L=>D r H2 d y (o.free t) (o.trans f) J L⟩
 | mv v =>
 have SP:Ax K H1 p (.str v.nm::v.ns.map V.int):=SP;have ok:v.Ok c:=ok;have hp:H p=some (UJ v.nm v.ns):=hp;have Z:∀(r:Y4) (H':Hp) (d:U5) (y:Nat->A5),H r=none->Same H H'->Bo K H' r d y c->(∀w,w<2^c->y w=D_ (g (v.to w)) (v.sp w:Nat))->Q (.ref r) H':=λr H' d y h1 h2 h3 h4 =>
  D r H' d y h1 h2 ⟨h3.lst,h3.len,h3.vals,λi hi=>by rw[h4 i hi];exact(Z_ (BD.ok _ (Mv.to_lt c6 ok hi))).mono (by lia) (by lia)⟩ h4
 refine⟨_,O,p,_,_,.str v.nm,O,O,SP,at0,O,_,O,BP (λz=>absurd (V.str.inj z) (X8j v)) (λ_=>?_)⟩;refine⟨_,O,p,_,_,.str v.nm,O,O,SP,at0,O,_,O,BP (λz=>?_) (λzt=>?_)⟩
 ·obtain⟨a,kk,rfl⟩:=X8l (V.str.inj z);have ok:a<c/\1<=kk/\kk<=7:=ok;refine⟨_,O,_,O,p,_,_,.int a,O,O,SP,O,_,_,O,O,⟨1,GJ,by lia,by lia⟩,_,O,p,_,_,.int kk,O,O,SP,O,?_⟩;refine⟨l,ps,g,c,2^a,kk,(by show [V.ref l,V.int (1*2^((a:Int)).toNat),V.int (kk:Int)]=_;rw[T]),R,c6,λr H2 d y t f J L=>Z r H2 d y (o.free t) (o.trans f) J λw S=>?_⟩;rw[L w S];show _=D_ (g w) ((if w&&&2^a=2^a then kk else 0:Nat):Int);split
  ·rfl
  ·rfl
 refine⟨_,O,p,_,_,.str v.nm,O,O,SP,at0,O,_,O,BP (λz=>?_) (λzp=>?_)⟩
 ·obtain⟨a,b,rfl⟩:=X8m (V.str.inj z);have ok:a<c/\b<c/\a≠b:=ok;refine⟨_,O,_,O,p,_,_,.int a,O,O,SP,O,_,_,O,O,⟨1,GJ,by lia,by lia⟩,_,O,p,_,_,.int b,O,O,SP,O,_,_,O,O,⟨1,GJ,by lia,by lia⟩,_,_,O,O,?_⟩;refine⟨l,ps,g,c,2^a ||| 2^b,4,(by show [V.ref l,V.int (Builtin.bitOr (1*2^((a:Int)).toNat) (1*2^((b:Int)).toNat)),V.int 4]=_;rw[T,T,JK]),R,c6,λr H2 d y t f J L=>Z r H2 d y (o.free t) (o.trans f) J λw S=>?_⟩;rw[L w S];show _=D_ (g w) ((if w&&&(2^a ||| 2^b)=(2^a ||| 2^b) then 4 else 0:Nat):Int);split
  ·rfl
  ·rfl
 have nt:v.nm≠"turn":=λe=>zt (by rw[e]);have np:v.nm≠"pair":=λe=>zp (by rw[e]);have I:(((ps.map V.ref).length:Nat):Int).toNat=2^c:=by rw[A_,x.len,Dm]
 have SL:Ag K H1 l (ps.map V.ref):=Ag.of R.lst;refine⟨_,O,l,_,O,.inl SL,_,O,by rw[A_,x.len];lia,by rw[A_,x.len];lia,λacc s=>?_⟩;rw[I];refine VR (n:=2^c) (fr:=[some (.ref l),some (.ref p)]) (λi ys H'=>∃(d:U5) (y:Nat->A5),Same H1 H'/\H' acc=some (.lst ys)/\ys=d.map V.ref/\d.length=i/\Bg K H' d y/\∀j,j<i->y j=g (v.to j)) (Dz p6)
  ⟨[],λ_=>((0,0,0,0),0),Ao s _,Al,O,O,(λ_ _ z=>by cases z),λj hj=>absurd hj (NP _)⟩ ?_ ?_
 ·rintro i ys H2 N hi hy ⟨d,y,f,U,rfl,W,v2,u⟩ kN;refine⟨_,O,_,O,_,O,i,p,v,c,(by show [V.int (0+(i:Int)),V.ref p]=_;rw[KJ]),f _ _ (o _ _ hp),ok,c6,nt,np,λH3 A=>?_⟩;obtain⟨q,_,hq,aq⟩:=((R.same f).same A).at (Mv.to_lt c6 ok hi);refine⟨l,_,_,_,O,O,Ag.of (A _ _ (f _ _ R.lst)),aq,?_⟩;refine kN (.ref q) H3 (A _ _ U) ⟨d++[q],λj=>if j=d.length then g (v.to i) else y j,Dy (f.trans A) s,Al,by rw[Cg];rfl,by simp[W],JQ (xs:=d.map V.ref) (J4 v2 A hq) (A _ _ U),λj hj=>?_⟩;show (if j=d.length then g (v.to i) else y j)=_;by_cases e:j=d.length
  ·rw[if_pos e,e,W]
  ·rw[if_neg e];exact u j (by lia)
 ·rintro ys H2 hy ⟨d,y,f,U,rfl,W,v2,u⟩;refine Z acc H2 d y (o.free s) (o.trans f) ⟨U,W,v2⟩ λw S=>?_;rw[u w S,X6y nt np w];rfl
def Vq (H:Hp)(ps:U5)(ms:List Gm):Prop:=Ck H ps (ms.map Gm.mm)
theorem Vq.length{ms:List Gm}(h:Vq H ps ms):ps.length=ms.length:=by
 have:=Paired.length h;rw[A_]at this;exact this
theorem Vq.get{H:Hp}:∀{ps:U5}{ms:List Gm}{i:Nat}{p:Y4},Vq H ps ms->ps[i]?=some p->∃m,ms[i]?=some m/\H p=some (UJ m.nm m.ns)
 | p'::ps,m::ms,0,p,.cons a r,h=>by
  have:p'=p:=by simpa using h
  subst this;exact⟨m,O,a⟩
 | p'::ps,m::ms,i+1,p,.cons a r,h=>by
  obtain⟨d,b,c⟩:=Vq.get (ps:=ps) (ms:=ms) (i:=i) (p:=p) r (by simpa using h);exact⟨d,b,c⟩
structure Rw (H:Hp) (l:Y4) (ps:U5) (ms:List Gm) (c:Nat):Prop where
 lst:H l=some (.lst (ps.map V.ref))
 mvs:Vq H ps ms
 ok:∀m∈ms,m.Ok c
 len:ms.length<=200
def Dh (K:U0):Sp:=λvs H Q _=>∃(l lr:Y4) (ps rp:U5) (f:Nat->A5) (c n M:Nat) (ms:List Gm),vs=[.ref l,.ref lr]/\Rw H lr rp ms c/\Bu K H l ps f c n M/\c<=6/\M<=300/\n<=210000 /\
 ∀(r:Y4) (H':Hp) (qs:U5) (g:Nat->A5),H r=none->Same H H'->Bu K H' r qs g c (n+1010*ms.length) (M+ms.length)->Steps c ms f g->Q (.ref r) H'
theorem W1s(F:Ab K "run" (top 72) .none)(X:K.In h)(G:Ng h mg)(B:Bs mg)(gB:Ai P w K mg base k "turned" ["board","move"] (yZ K)):Ai P w K mg base (k+1) "run" ["board","row"] (Dh K):=by
 refine F.cal X G ["board","row","behind","move"] λJ H vs Q E L h=>?_;obtain⟨l,v,ps,S,g,c,n,M,ms,rfl,s,A,c6,M3,n2,kq⟩:=h;have R:=s.len;have D:=s.mvs.length;have T:Ag K H v (S.map V.ref):=Ag.of s.lst
 refine⟨_,(@Av _ _ _ _ _ (@BR _ _ 2 _ _ _ _ J rfl (Or.inl rfl) (Ow Tp rfl B.list PJ (Aa (pv 0) Ae)) rfl (.inl rfl))
  (@Av _ _ _ _ _ (Hy PassesOwn.never rfl (GC (pv 1)) (CV (i:=3) J rfl (Or.inl rfl))
   (@Aj _ _ _ (@BR _ _ 2 _ _ _ _ J rfl (Or.inl rfl) (Ay gB L rfl (Aa (pv 2) (Aa (pv 3) Ae))) rfl (.inl rfl))))
  (@Aj _ _ _ (BJ (pv 2))))),?_⟩
 try dsimp only[CN]
 refine⟨_,O,l,_,O,.inl (Ag.of A.lst),λb0 f=>?_⟩;have N:=Ao f (.lst (ps.map V.ref))
 refine⟨_,O,v,O,⟨_,N.seq T⟩,Ly (K:=K) (a:=v) (xs:=S.map V.ref) (λi σ H'=>Same H H'/\∃(b:Y4) (d:U5) (y:Nat->A5) (I:Option V),H b=none/\Bu K H' b d y c (n+1010*i) (M+i)/\Steps c (ms.take i) g y/\σ=[some (.ref l),some (.ref v),some (.ref b),I])
  ⟨N,b0,ps,g,none,f,⟨Al,A.len,A.vals.same N,A.ok⟩,by rw[List.take_zero];exact .nil,O⟩ (λi σ H' _ e=>e.1.seq T) ?_ ?_⟩
 ·rintro i x σ H1 C ⟨o,b,d,y,I,hb,t,q,rfl⟩;have W:i<ms.length:=by
   have:=(Fq.mp C).1;rw[A_]at this;lia
  rw[Cz]at C;obtain⟨p,hp,rfl⟩:=Fz.mp C;obtain⟨m,U,p0⟩:=s.mvs.get hp;refine⟨_,O,_,O,b,p,d,y,c,_,_,m,O,o _ _ p0,s.ok m (Ke U),t,c6,by lia,by lia,λr H2 rs z L Y u st=>?_⟩;refine⟨o.trans Y,r,rs,z,_,o.free L,⟨u.lst,u.len,u.vals,λj Z=>(u.ok j Z).mono (by lia) (by lia)⟩,?_,O⟩;rw[Js,U];exact q.snoc st
 ·rintro σ H1 ⟨o,b,d,y,I,hb,t,q,rfl⟩;rw[A_,D]at t q;rw[Kc]at q;exact⟨_,O,kq b H1 d y hb o t q⟩
theorem X1s{p:Y4}{j:Nat}(v:Bg K H ps f)(e:CZ K H p x):Bg K H (ps.set j p) (λi=>if i=j then x else f i):=by
 intro i q a;by_cases hi:i=j
 ·subst hi;rw[List.getElem?_set_self']at a;show CZ K H q (if i=i then x else f i);rw[if_pos rfl];cases h:ps[i]? with
  | none=>rw[h]at a;cases a
  | some r=>rw[h]at a;cases a;exact e
 ·rw[Zd (λz=>hi z.symm)]at a;show CZ K H q (if i=j then x else f i);rw[if_neg hi];exact v i q a
theorem Bu.put{p:Y4}{j:Nat}(b:Bu K H l ps f c n m)(hp:CZ K H p x)(ox:FN n m x):Bu K (upd H l (.lst ((ps.map V.ref).set j (.ref p)))) l (ps.set j p) (λi=>if i=j then x else f i) c n m:=by
 refine⟨by rw[Al,List.map_set],by rw[ZL,b.len],JQ (X1s b.vals hp) b.lst,λi hi=>?_⟩;show FN n m (if i=j then x else f i);split
 ·exact ox
 ·exact b.ok i hi
end
end Ar
namespace Dj
inductive Mv where
 | flip (a:Int)
 | mix (a:Int)
 | turn (a k:Int)
 | iff (a b:Int)
 | pair (a b:Int)
 | swap (a b:Int)
 | cross (a b d:Int)
deriving DecidableEq
namespace Mv
noncomputable def cells:Mv->List Int
 | flip a=>[a]
 | mix a=>[a]
 | turn a _=>[a]
 | iff a b=>[a,b]
 | pair a b=>[a,b]
 | swap a b=>[a,b]
 | cross a b d=>[a,b,d]
end Mv
open Mv
end Dj
set_option maxHeartbeats 1000000
namespace DY
open Dj Dj.Mv
abbrev V4:=Int×Int×Int×Int
noncomputable def add (x y:V4):V4:=(x.1+y.1,x.2.1+y.2.1,x.2.2.1+y.2.2.1,x.2.2.2+y.2.2.2)
noncomputable def sm (n:Int)(x:V4):V4:=(n*x.1,n*x.2.1,n*x.2.2.1,n*x.2.2.2)
noncomputable def E (x:V4):V4:=(-x.2.2.2,x.1,x.2.1,x.2.2.1)
noncomputable def En:Nat->V4->V4
 | 0,x=>x
 | n+1,x=>E (En n x)
noncomputable def root (x:V4):V4:=(x.2.1-x.2.2.2,x.1+x.2.2.1,x.2.1+x.2.2.2,x.2.2.1-x.1)
theorem ext{x y:V4}(h1:x.1=y.1)(h2:x.2.1=y.2.1)(h3:x.2.2.1=y.2.2.1)(h4:x.2.2.2=y.2.2.2):x=y:=by
 obtain⟨a,b,c,d⟩:=x;obtain⟨a',b',c',d'⟩:=y;simp only at h1 h2 h3 h4;rw[h1,h2,h3,h4]
theorem W6l(x y:V4):E (add x y)=add (E x) (E y):=by apply ext<;>simp only[E,add]<;>lia
theorem rO(n:Int)(x:V4):E (sm n x)=sm n (E x):=by apply ext<;>simp only[E,sm]<;>grind
theorem W4e(x:V4):E (root x)=root (E x):=by apply ext<;>simp only[E,root]<;>lia
theorem X2k(x y:V4):root (add x y)=add (root x) (root y):=by apply ext<;>simp only[root,add]<;>lia
theorem vP(n:Int)(x:V4):root (sm n x)=sm n (root x):=by apply ext<;>simp only[root,sm]<;>grind
theorem W1c(n:Int)(x y:V4):sm n (add x y)=add (sm n x) (sm n y):=by apply ext<;>simp only[sm,add]<;>grind
theorem Oh(m n:Int)(x:V4):sm m (sm n x)=sm (m*n) x:=by apply ext<;>simp only[sm]<;>grind
theorem Y8e(x:V4):root (root x)=sm 2 x:=by apply ext<;>simp only[root,sm]<;>lia
theorem bW(x:V4):sm 1 x=x:=by apply ext<;>simp only[sm]<;>lia
theorem add_comm(x y:V4):add x y=add y x:=by apply ext<;>simp only[add]<;>lia
theorem W4b(n:Nat)(x y:V4):En n (add x y)=add (En n x) (En n y):=by
 induction n with
 | zero=>rfl
 | succ n ih=>simp only[En,ih,W6l]
theorem Ye(n:Nat)(k:Int)(x:V4):En n (sm k x)=sm k (En n x):=by
 induction n with
 | zero=>rfl
 | succ n ih=>simp only[En,ih,rO]
theorem X9v(n:Nat)(x:V4):En n (root x)=root (En n x):=by
 induction n with
 | zero=>rfl
 | succ n ih=>simp only[En,ih,W4e]
theorem Vg(m n:Nat)(x:V4):En m (En n x)=En (m+n) x:=by
 induction m with
 | zero=>rw[OD];rfl
 | succ m ih=>rw[Nat.succ_add];simp only[En,ih]
theorem En4(x:V4):En 4 x=sm (-1) x:=by apply ext<;>simp only[En,E,sm]<;>lia
theorem rN(x:V4):En 8 x=x:=by apply ext<;>simp only[En,E]<;>lia
theorem yh(n:Nat)(x:V4):En n x=En (n%8) x:=by
 have:∀q r,En (8*q+r) x=En r x:=by
  intro q r;induction q with
  | zero=>rw[g_,OD]
  | succ q ih=>rw[show 8*(q+1)+r=8+(8*q+r) by lia,<-Vg 8,rN,ih]
 conv=>lhs;rw[<-ZP n 8]
 exact this _ _
noncomputable def fl (w a:Nat):Nat:=w^^^2^a
noncomputable def sw (w a b:Nat):Nat:=if w.testBit a=w.testBit b then w else fl (fl w a) b
theorem Q_(w a j:Nat):(fl w a).testBit j=(w.testBit j ^^ decide (a=j)):=by
 unfold fl;rw[Es,Nb]
theorem Lq(w a:Nat):fl (fl w a) a=w:=by
 unfold fl;rw[GQ,Ja,Ld]
theorem Ih(w a b j:Nat)(h:a≠b):(sw w a b).testBit j=if j=a then w.testBit b else if j=b then w.testBit a else w.testBit j:=by
 unfold sw;by_cases e:w.testBit a=w.testBit b
 ·rw[if_pos e];split
  ·rename_i z;rw[z,e]
  ·split
   ·rename_i z;rw[z,e]
   ·rfl
 ·rw[if_neg e,Q_,Q_];by_cases ja:j=a
  ·rw[if_pos ja,ja,Ec rfl,Cr (λz=>h z.symm)];revert e;cases w.testBit a<;>cases w.testBit b<;>simp
  ·rw[if_neg ja];by_cases jb:j=b
   ·rw[if_pos jb,jb,Ec (rfl:b=b),Cr h];revert e;cases w.testBit a<;>cases w.testBit b<;>simp
   ·rw[if_neg jb,Cr (λz=>ja z.symm),Cr (λz=>jb z.symm)];simp
theorem aJ{w v:Nat}(h:∀j,w.testBit j=v.testBit j):w=v:=Kf h
noncomputable def to:Mv->Nat->Nat
 | .flip a,w=>fl w a.toNat
 | iff a b,w=>if w.testBit a.toNat then fl w b.toNat else w
 | swap a b,w=>sw w a.toNat b.toNat
 | cross a b d,w=>if w.testBit a.toNat then sw w b.toNat d.toNat else w
 | _,w=>w
noncomputable def sp:Mv->Nat->Nat
 | turn a k,w=>if w.testBit a.toNat then k.toNat else 0
 | pair a b,w=>if w.testBit a.toNat && w.testBit b.toNat then 4 else 0
 | _,_=>0
noncomputable def sg (w a:Nat):Int:=if w.testBit a then -1 else 1
abbrev Bv:=Nat->V4
noncomputable def op:Mv->Bv->Bv
 | mix a,F=>λw=>root (add (sm (sg w a.toNat) (F w)) (F (fl w a.toNat)))
 | m,F=>λw=>sm 2 (En (sp m w) (F (to m w)))
def Ok:Mv->Prop
 | .flip a=>0<=a
 | mix a=>0<=a
 | turn a k=>0<=a/\1<=k/\k<=7
 | iff a b=>0<=a/\0<=b/\a≠b
 | pair a b=>0<=a/\0<=b/\a≠b
 | swap a b=>0<=a/\0<=b/\a≠b
 | cross a b d=>0<=a/\0<=b/\0<=d/\a≠b/\a≠d/\b≠d
noncomputable def Gk:Mv->Bool
 | mix _=>true
 | _=>false
variable{m:Mv}
theorem QK(h:Gk m=false)(F:Bv)(w:Nat):op m F w=sm 2 (En (sp m w) (F (to m w))):=by
 cases m<;>first | rfl | cases h
noncomputable def cl (m:Mv):List Nat:=m.cells.map Int.toNat
theorem W0y(ok:Ok m){w j:Nat}(h:j∉cl m):(to m w).testBit j=w.testBit j:=by
 cases m with
 | flip a =>
  simp only[cl,cells,Gh,Pa,Fj]at h;show (fl w a.toNat).testBit j=_;rw[Q_,Cr (λz=>h z.symm)];simp
 | mix a=>rfl
 | turn a k=>rfl
 | pair a b=>rfl
 | iff a b =>
  simp only[cl,cells,Gh,Pa,Dw,ig,Ht,not_or]at h;show (if w.testBit a.toNat then fl w b.toNat else w).testBit j=_;split
  ·rw[Q_,Cr (λz=>h.2 z.symm)];simp
  ·rfl
 | swap a b =>
  obtain⟨e,c,n⟩:=ok;simp only[cl,cells,Gh,Pa,Dw,ig,Ht,not_or]at h;show (sw w a.toNat b.toNat).testBit j=_;rw[Ih _ _ _ _ (by lia),if_neg h.1,if_neg h.2]
 | cross a b d =>
  obtain⟨e,c,i,f,l,g⟩:=ok;simp only[cl,cells,Gh,Pa,Dw,ig,Ht,not_or]at h;show (if w.testBit a.toNat then sw w b.toNat d.toNat else w).testBit j=_;split
  ·rw[Ih _ _ _ _ (by lia),if_neg h.2.1,if_neg h.2.2]
  ·rfl
theorem Ok.nn(ok:Ok m):∀c∈m.cells,0<=c:=by
 cases m<;>simp only[Ok,cells]at*<;> simp<;>lia
end DY
namespace C_
open Dj Dj.Mv DY Pc
noncomputable def bn (b:Bool):Nat:=if b then 1 else 0
noncomputable def bp (x:Nat):Bool:=decide (pc x%2=1)
theorem qg(x y:Nat):bp (x^^^y)=(bp x ^^ bp y):=by
 unfold bp;have:=XD x y;have c:pc (x^^^y)%2=(pc x%2+pc y%2)%2:=by lia
 rw[c];rcases Jb (pc x) with a | a<;>rcases Jb (pc y) with b | b<;>rw[a,b]<;>rfl
theorem zQ(a:Nat):pc (2^a)=1:=by
 induction a with
 | zero=>decide +kernel
 | succ n ih =>
  have b:(2:Nat)^(n+1)≠0:=M9 (Cv _);unfold pc;rw[dif_neg b,M_,iy,Za _ (by decide),ih]
theorem cu:bp 0=false:=by decide +kernel
theorem bA(s a:Nat):bp (2^a&&&s)=s.testBit a:=by
 have e:(2^a&&&s)=if s.testBit a then 2^a else 0:=by
  apply Kf;intro j;rw[KY,Nb];by_cases h:a=j
  ·subst h;cases hb:s.testBit a<;>simp
  ·cases hb:s.testBit a<;>simp[h,Nb]
 rw[e];cases s.testBit a
 ·exact cu
 ·show bp (2^a)=true;unfold bp;rw[zQ];rfl
theorem K4(x s a:Nat):bp (fl x a&&&s)=(bp (x&&&s) ^^ s.testBit a):=by
 unfold fl;rw[jU,qg,bA]
theorem Jf(x s a:Nat):bp (x&&&fl s a)=(bp (x&&&s) ^^ x.testBit a):=by
 rw[N_,K4,N_ s]
theorem W3w(x a b:Nat):bp (sw x a b)=bp x:=by
 unfold sw;split
 ·rfl
 ·unfold fl;rw[qg,qg];have h:∀j,bp (2^j)=true:=λj=>by unfold bp;rw[zQ];rfl
  rw[h,h];cases bp x<;>rfl
abbrev Mk:=Nat×Nat×Nat
noncomputable def lay (m:Mk)(F:Bv):Bv:=λw=>En (2*m.1+4*bn (bp ((w^^^m.2.1)&&&m.2.2))) (F (w^^^m.2.1))
noncomputable def Bj:Mv->Mk->Mk
 | .flip a,(k,f,s)=>(if s.testBit a.toNat then (k+2)%4 else k,f,s)
 | mix a,(k,f,s)=>(if f.testBit a.toNat && s.testBit a.toNat then (k+2)%4 else k,if f.testBit a.toNat=s.testBit a.toNat then f else fl f a.toNat,if f.testBit a.toNat=s.testBit a.toNat then s else fl s a.toNat)
 | turn a j,(k,f,s)=>if f.testBit a.toNat then ((k+j.toNat / 2)%4,f,if j.toNat%4=2 then fl s a.toNat else s) else (k,f,s)
 | iff a b,(k,f,s)=>(k,if f.testBit a.toNat then fl f b.toNat else f,if s.testBit b.toNat then fl s a.toNat else s)
 | pair a b,(k,f,s)=>(if f.testBit a.toNat && f.testBit b.toNat then (k+2)%4 else k,f,(if f.testBit b.toNat then fl (if f.testBit a.toNat then fl s b.toNat else s) a.toNat else if f.testBit a.toNat then fl s b.toNat else s))
 | swap a b,(k,f,s)=>(k,sw f a.toNat b.toNat,sw s a.toNat b.toNat)
 | _,m=>m
def Br:Mv->Prop
 | cross _ _ _=>False
 | turn _ j=>j.toNat%2=0
 | _=>True
theorem qP{m n:Nat}(h:m%8=n%8)(x:V4):En m x=En n x:=by rw[yh m,yh n,h]
theorem VP{m:Mv}(hm:Gk m=false){F:Bv}{w:Nat}{p q:Mk}(h1:to m w^^^p.2.1=to m (w^^^q.2.1))
  (h2:(sp m w+(2*p.1+4*bn (bp ((to m w^^^p.2.1)&&&p.2.2))))%8=(2*q.1+4*bn (bp ((w^^^q.2.1)&&&q.2.2))+sp m (w^^^q.2.1))%8):op m (lay p F) w=lay q (op m F) w:=by
 unfold lay;rw[QK hm,QK hm,Ye,Vg,Vg,h1];congr 1;rw[<-h1];exact qP h2 _
theorem YZ(w f a:Nat):fl w a^^^f=fl (w^^^f) a:=by
 unfold fl;rw[GQ,Qp (2^a),<-GQ]
theorem b_(w f a:Nat):w^^^fl f a=fl (w^^^f) a:=by
 unfold fl;rw[GQ]
variable{a:Int}
theorem X2c(F:Bv)(w:Nat)(p:Mk):op (.flip a) (lay p F) w=lay (Bj (.flip a) p) (op (.flip a) F) w:=by
 obtain⟨k,f,s⟩:=p;refine VP rfl (YZ _ _ _) ?_;show (0+(2*k+4*bn (bp ((fl w a.toNat^^^f)&&&s))))%8=(2*(if s.testBit a.toNat then (k+2)%4 else k)+4*bn (bp ((w^^^f)&&&s))+0)%8;rw[YZ,K4];cases s.testBit a.toNat<;>cases bp ((w^^^f)&&&s)<;>simp[bn]<;>lia
theorem X1z{j:Int}(he:j.toNat%2=0)(hj:j.toNat<=7)(F:Bv)(w:Nat)(p:Mk):op (turn a j) (lay p F) w=lay (Bj (turn a j) p) (op (turn a j) F) w:=by
 obtain⟨k,f,s⟩:=p;generalize hJ:j.toNat=J at he hj;by_cases hf:f.testBit a.toNat=true
 ·have e:Bj (turn a j) (k,f,s)=((k+J / 2)%4,f,if J%4=2 then fl s a.toNat else s):=by
   show (if _ then _ else _)=_;rw[if_pos hf,hJ]
  rw[e];refine VP rfl rfl ?_;show ((if w.testBit a.toNat then j.toNat else 0)+(2*k+4*bn (bp ((w^^^f)&&&s))))%8=(2*((k+J / 2)%4)+4*bn (bp ((w^^^f)&&&if J%4=2 then fl s a.toNat else s))+(if (w^^^f).testBit a.toNat then j.toNat else 0))%8;have b:(w^^^f).testBit a.toNat=!w.testBit a.toNat:=by rw[Es,hf];cases w.testBit a.toNat<;>rfl
  rw[b,hJ];have:J=0\/J=2\/J=4\/J=6:=by lia
  rcases this with rfl | rfl | rfl | rfl
  ·rw[if_neg (show ¬ (0:Nat)%4=2 by decide)];generalize bn (bp ((w^^^f)&&&s))=Z;cases w.testBit a.toNat<;>simp<;>lia
  ·rw[if_pos (show (2:Nat)%4=2 by decide),Jf,b];cases w.testBit a.toNat<;>cases bp ((w^^^f)&&&s)<;>simp[bn]<;>lia
  ·rw[if_neg (show ¬ (4:Nat)%4=2 by decide)];generalize bn (bp ((w^^^f)&&&s))=Z;cases w.testBit a.toNat<;>simp<;>lia
  ·rw[if_pos (show (6:Nat)%4=2 by decide),Jf,b];cases w.testBit a.toNat<;>cases bp ((w^^^f)&&&s)<;>simp[bn]<;>lia
 ·have e:Bj (turn a j) (k,f,s)=(k,f,s):=by
   show (if _ then _ else _)=_;rw[if_neg hf]
  rw[e];refine VP rfl rfl ?_;show ((if w.testBit a.toNat then j.toNat else 0)+_)%8=(_+(if (w^^^f).testBit a.toNat then j.toNat else 0))%8;have b:(w^^^f).testBit a.toNat=w.testBit a.toNat:=by
   rw[Es,(by simpa using hf:f.testBit a.toNat=false)];cases w.testBit a.toNat<;>rfl
  rw[b,Wo];rfl
theorem Ks{w a b:Nat}(h:a≠b):(fl w b).testBit a=w.testBit a:=by
 rw[Q_,Cr (λz:b=a=>h z.symm)];cases w.testBit a<;>rfl
theorem RP(w a:Nat):(fl w a).testBit a=!w.testBit a:=by
 rw[Q_];simp
variable{b:Int}
theorem X6q(ne:a.toNat≠b.toNat)(F:Bv)(w:Nat)(p:Mk):op (iff a b) (lay p F) w=lay (Bj (iff a b) p) (op (iff a b) F) w:=by
 obtain⟨k,f,s⟩:=p;generalize hA:a.toNat=A at ne;generalize hB:b.toNat=B at ne;have t:∀v,to (iff a b) v=if v.testBit A then fl v B else v:=λv=>by show (if _ then _ else _)=_;rw[hA,hB]
 have e:Bj (iff a b) (k,f,s)=(k,if f.testBit A then fl f B else f,if s.testBit B then fl s A else s):=by
  show (_,(if _ then _ else _),(if _ then _ else _))=_;rw[hA,hB]
 rw[e];have h1:to (iff a b) w^^^f=to (iff a b) (w^^^if f.testBit A then fl f B else f):=by
  rw[t,t];cases hf:f.testBit A<;>cases hw:w.testBit A<;>simp[hf,hw,Es,b_,YZ,Ks ne,Lq]
 refine VP rfl h1 ?_;show (0+(2*k+4*bn (bp ((to (iff a b) w^^^f)&&&s))))%8=(2*k+4*bn (bp ((w^^^if f.testBit A then fl f B else f)&&&if s.testBit B then fl s A else s))+0)%8;rw[OD,La];congr 3;congr 1;rw[t];cases hf:f.testBit A<;>cases hw:w.testBit A<;>cases hs:s.testBit B<;>simp[b_,YZ,K4,Jf,Es,hf,hw,hs,Ks ne,Ks (Ne.symm ne)]
theorem X2b(ne:a.toNat≠b.toNat)(F:Bv)(w:Nat)(p:Mk):op (pair a b) (lay p F) w=lay (Bj (pair a b) p) (op (pair a b) F) w:=by
 obtain⟨k,f,s⟩:=p;refine VP rfl rfl ?_;show ((if w.testBit a.toNat && w.testBit b.toNat then 4 else 0)+(2*k+4*bn (bp ((w^^^f)&&&s))))%8=(2*(if f.testBit a.toNat && f.testBit b.toNat then (k+2)%4 else k)+4*bn (bp ((w^^^f)&&&(if f.testBit b.toNat then fl (if f.testBit a.toNat then fl s b.toNat else s) a.toNat else if f.testBit a.toNat then fl s b.toNat else s)))+(if (w^^^f).testBit a.toNat && (w^^^f).testBit b.toNat then 4 else 0))%8;rw[Es,Es];generalize a.toNat=A at *;generalize b.toNat=B at *;cases hfa:f.testBit A<;>cases hfb:f.testBit B<;>cases hwa:w.testBit A<;>cases hwb:w.testBit B<;>simp[Jf,Es,hfa,hfb,hwa,hwb]<;>cases bp ((w^^^f)&&&s)<;>simp[bn]<;>lia
theorem X2a(ne:a.toNat≠b.toNat)(F:Bv)(w:Nat)(p:Mk):op (swap a b) (lay p F) w=lay (Bj (swap a b) p) (op (swap a b) F) w:=by
 obtain⟨k,f,s⟩:=p;have h1:sw w a.toNat b.toNat^^^f=sw (w^^^sw f a.toNat b.toNat) a.toNat b.toNat:=by
  apply aJ;intro j;rw[Es,Ih _ _ _ _ ne,Ih _ _ _ _ ne,Es,Es,Es,Ih _ _ _ _ ne,Ih _ _ _ _ ne,Ih _ _ _ _ ne];by_cases ja:j=a.toNat
  ·subst ja;simp[Ne.symm ne]
  ·by_cases jb:j=b.toNat
   ·subst jb;simp[Ne.symm ne]
   ·simp[ja,jb]
 refine VP rfl h1 ?_;show (0+(2*k+4*bn (bp ((sw w a.toNat b.toNat^^^f)&&&s))))%8=(2*k+4*bn (bp ((w^^^sw f a.toNat b.toNat)&&&sw s a.toNat b.toNat))+0)%8;have e:((sw w a.toNat b.toNat^^^f)&&&s)=sw ((w^^^sw f a.toNat b.toNat)&&&sw s a.toNat b.toNat) a.toNat b.toNat:=by
  rw[h1];apply aJ;intro j;rw[KY,Ih _ _ _ _ ne,Ih _ _ _ _ ne,KY,KY,KY,Ih s _ _ _ ne,Ih s _ _ _ ne,Ih s _ _ _ ne];by_cases ja:j=a.toNat
  ·subst ja;simp[Ne.symm ne]
  ·by_cases jb:j=b.toNat
   ·subst jb;simp[Ne.symm ne]
   ·simp[ja,jb]
 rw[e,W3w,OD,La]
noncomputable def Mr (b:Bool):Int:=if b then -1 else 1
theorem Vh(n:Nat)(b:Bool)(x:V4):En (n+4*bn b) x=sm (Mr b) (En n x):=by
 cases b
 ·show En (n+0) x=sm 1 (En n x);rw[bW,La]
 ·show En (n+4) x=sm (-1) (En n x);rw[Wo,<-Vg,En4]
theorem W1d(w a:Nat):sg w a=Mr (w.testBit a):=by
 unfold sg Mr;cases w.testBit a<;>rfl
theorem pU(a b:Bool):Mr a*Mr b=Mr (a ^^ b):=by cases a<;>cases b<;>rfl
theorem X6p(F:Bv)(w:Nat)(p:Mk):op (mix a) (lay p F) w=lay (Bj (mix a) p) (op (mix a) F) w:=by
 obtain⟨k,f,s⟩:=p;generalize hA:a.toNat=A;have b:∀G:Bv,∀v,op (mix a) G v=root (add (sm (Mr (v.testBit A)) (G v)) (G (fl v A))):=λG v=>by
  show root (add (sm (sg v a.toNat) (G v)) (G (fl v a.toNat)))=_;rw[hA,W1d]
 have e:Bj (mix a) (k,f,s)=(if f.testBit A && s.testBit A then (k+2)%4 else k,if f.testBit A=s.testBit A then f else fl f A,if f.testBit A=s.testBit A then s else fl s A):=by
  show ((if _ then _ else _),(if _ then _ else _),(if _ then _ else _))=_;rw[hA]
 rw[e,b];unfold lay;simp only[];rw[b,X9v,W4b,Ye,Vh,Vh,Vh,Vh,Oh,Oh,pU,pU,YZ,K4];have k2:∀x:V4,En (2*((k+2)%4)) x=sm (Mr true) (En (2*k) x):=λx=>by
  rw[<-Vh];exact qP (by show (2*((k+2)%4))%8=(2*k+4*1)%8;lia) x
 cases hf:f.testBit A<;>cases hs:s.testBit A
 ·simp[Es,hf,hs]
 ·simp[Es,hf,hs,b_,K4,Jf,Lq,RP];rw[add_comm];cases w.testBit A<;>cases bp ((w^^^f)&&&s)<;>simp[Mr]
 ·simp[Es,hf,hs,b_,K4,Jf,Lq,RP];rw[add_comm];cases w.testBit A<;>cases bp ((w^^^f)&&&s)<;>simp[Mr]
 ·simp[Es,hf,hs,k2,Oh,pU]
noncomputable def Ak:List Mv->Mk->Mk
 | [],m=>m
 | x::r,m=>Ak r (Bj x m)
theorem X6o{m:Mv}(o:Ok m)(b:Br m)(F:Bv)(p:Mk):op m (lay p F)=lay (Bj m p) (op m F):=by
 funext w;cases m with
 | flip a=>exact X2c F w p
 | mix a=>exact X6p F w p
 | turn a j=>exact X1z b (by have:0<=a/\1<=j/\j<=7:=o;lia) F w p
 | iff a c=>exact X6q (by have:0<=a/\0<=c/\a≠c:=o;lia) F w p
 | pair a c=>exact X2b (by have:0<=a/\0<=c/\a≠c:=o;lia) F w p
 | swap a c=>exact X2a (by have:0<=a/\0<=c/\a≠c:=o;lia) F w p
 | cross a c d=>exact absurd b id
end C_
namespace DY
open Dj Dj.Mv
noncomputable def Bp:List Mv->Bv->Bv
 | [],F=>F
 | m::ms,F=>Bp ms (op m F)
theorem yO:∀(l r:List Mv) (F:Bv),Bp (l++r) F=Bp r (Bp l F)
 | [],_,_=>rfl
 | m::l,r,F=>yO l r (op m F)
theorem W4o(m:Mv)(n:Int)(F:Bv)(w:Nat):op m (λv=>sm n (F v)) w=sm n (op m F w):=by
 cases h:Gk m with
 | false=>rw[QK h,QK h,Ye,Oh,Oh,Rj]
 | true =>
  cases m with
  | mix a =>
   show root (add (sm (sg w a.toNat) (sm n (F w))) (sm n (F (fl w a.toNat))))=sm n (root (add (sm (sg w a.toNat) (F w)) (F (fl w a.toNat))));rw[<-vP,W1c,Oh,Oh,Rj]
  | _=>cases h
theorem wz:∀(r:List Mv) (n:Int) (F:Bv) (w:Nat),Bp r (λv=>sm n (F v)) w=sm n (Bp r F w)
 | [],_,_,_=>rfl
 | m::r,n,F,w=>by
  have e:op m (λv=>sm n (F v))=λv=>sm n (op m F v):=funext λv=>W4o m n F v;show Bp r (op m (λv=>sm n (F v))) w=sm n (Bp r (op m F) w);rw[e];exact wz r n (op m F) w
theorem qZ{w a b:Nat}(n:a≠b):sw (sw w a b) a b=w:=by
 apply aJ;intro j;rw[Ih _ _ _ _ n];by_cases ja:j=a
 ·rw[if_pos ja,Ih _ _ _ _ n,if_neg (λz=>n z.symm),if_pos rfl,ja]
 ·rw[if_neg ja];by_cases jb:j=b
  ·rw[if_pos jb,Ih _ _ _ _ n,if_pos rfl,jb]
  ·rw[if_neg jb,Ih _ _ _ _ n,if_neg ja,if_neg jb]
theorem W4l(w a:Nat):sg (fl w a) a=-sg w a:=by
 unfold sg;rw[Q_,Ec rfl];cases w.testBit a<;>rfl
theorem W4k(w a:Nat):sg w a*sg w a=1:=by
 unfold sg;split<;>rfl
noncomputable def Jv:Mv->Bool
 | turn _ _=>true
 | _=>false
theorem X2v{x:Mv}(ok:Ok x)(nt:Jv x=false)(F:Bv)(w:Nat):op x (op x F) w=sm 4 (F w):=by
 have mono:Gk x=false->to x (to x w)=w->En (sp x w+sp x (to x w)) (F w)=F w->op x (op x F) w=sm 4 (F w):=by
  intro h1 h2 f;rw[QK h1,QK h1,Ye,Oh,Vg,h2,f];rfl
 cases x with
 | flip a=>exact mono rfl (Lq _ _) rfl
 | mix a =>
  show root (add (sm (sg w a.toNat) (root (add (sm (sg w a.toNat) (F w)) (F (fl w a.toNat))))) (root (add (sm (sg (fl w a.toNat) a.toNat) (F (fl w a.toNat))) (F (fl (fl w a.toNat) a.toNat)))))=_;rw[Lq,W4l,<-vP,<-X2k,Y8e];have s:=W4k w a.toNat;generalize sg w a.toNat=σ at s ⊢;generalize F w=x;generalize F (fl w a.toNat)=y;apply ext<;>simp only[add,sm]<;>grind
 | turn a k=>cases nt
 | iff a b =>
  obtain⟨d,c,n⟩:=ok;refine mono rfl ?_ rfl;show (if (if w.testBit a.toNat then fl w b.toNat else w).testBit a.toNat then fl (if w.testBit a.toNat then fl w b.toNat else w) b.toNat else (if w.testBit a.toNat then fl w b.toNat else w))=w;by_cases e:w.testBit a.toNat=true
  ·rw[if_pos e,Q_,Cr (by lia),e];exact Lq _ _
  ·rw[if_neg e,if_neg e]
 | pair a b =>
  refine mono rfl rfl ?_;show En ((if w.testBit a.toNat && w.testBit b.toNat then 4 else 0)+(if w.testBit a.toNat && w.testBit b.toNat then 4 else 0)) (F w)=F w;split
  ·exact rN _
  ·rfl
 | swap a b =>
  obtain⟨d,c,n⟩:=ok;exact mono rfl (qZ (by lia)) rfl
 | cross e a b =>
  obtain⟨g,d,c,h,j,i⟩:=ok;refine mono rfl ?_ rfl;show (if (if w.testBit e.toNat then sw w a.toNat b.toNat else w).testBit e.toNat then sw (if w.testBit e.toNat then sw w a.toNat b.toNat else w) a.toNat b.toNat else (if w.testBit e.toNat then sw w a.toNat b.toNat else w))=w;by_cases z:w.testBit e.toNat=true
  ·have hb:(sw w a.toNat b.toNat).testBit e.toNat=true:=by
    rw[Ih _ _ _ _ (by lia),if_neg (by lia),if_neg (by lia)];exact z
   rw[if_pos z,if_pos hb];exact qZ (by lia)
  ·rw[if_neg z,if_neg z]
def Dg (c:Nat)(m:Mv):Prop:=Ok m/\∀x∈m.cells,x<(c:Int)
end DY
set_option maxHeartbeats 4000000
namespace L2
def Fi (K:U0)(H:Hp):List Addr->List (List Int)->Prop:=Paired λp ns=>Ax K H p (ns.map V.int)
section
variable {X:Cx}
theorem ur{pins:U1}{σ:St}{H:Hp}{s:W1}(I:Inv X pins σ H s):∀{ps:U5}{xs:List (List Int)}{us:U9},Fi X.K H ps xs->Vals (ps.map V.ref) us->∃as,ReadsAll s.heap us (xs.map λns=>PyData.tuple (ns.map PyData.int)) as
 | [],[],us,.nil,r=>by cases r;exact⟨[],.nil⟩
 | p::ps,ns::xs,us,.cons e r,rv=>by
  cases rv with
  | cons ru rr =>
   cases ru;obtain⟨as,b⟩:=ur I r rr;obtain⟨its,a,c,_⟩:=I.tuple e;exact⟨_,.cons (YJ c (RQ a)) b⟩
theorem au{pins:U1}{σ:St}{H:Hp}{s:W1}(I:Inv X pins σ H s){a:Y4}{ps:U5}{xs:List (List Int)}(h:H a=some (.lst (ps.map V.ref)))(r:Fi X.K H ps xs):∃as,Reads s.heap (.ref a) (.list (xs.map λns=>PyData.tuple (ns.map PyData.int))) as:=by
 obtain⟨its,d,b,_⟩:=I.list (Ag.of h);obtain⟨as,c⟩:=ur I r d;obtain⟨o,f,e,n,hd⟩:=b.isList;exact⟨_,Reads.list f e hd (by simpa using c)⟩
def M8 (K:U0)(neg:Bool):R2:=λx y H Q=>∃(a b:Y4) (ps qs:U5) (xs ys:List (List Int)),x=.ref a/\y=.ref b/\H a=some (.lst (ps.map V.ref))/\H b=some (.lst (qs.map V.ref))/\Fi K H ps xs/\Fi K H qs ys/\Q (.bl (if neg then !decide (xs=ys) else decide (xs=ys))) H
theorem wg(hu:X.A.units+64<cLine):Ei X (compareOp .Eq) (M8 X.K false):=by
 intro pins s σ H x y v u Q I i c h;obtain⟨a,b,ps,j,xs,ys,rfl,rfl,h1,h2,d,e,q⟩:=h;cases i;cases c;obtain⟨as,f⟩:=au I h1 d;obtain⟨bs,g⟩:=au I h2 e;refine iH f g (ak xs) (ak ys) hu (by simp only[SeqAt.noMix];exact oN xs ys) ⟨.bl (decide (xs=ys)),H,I,?_,q⟩;show _=_;simp only[PySem.Spec.same];rw[oJ]
theorem RN(hu:X.A.units+64<cLine):Ei X (compareOp .NotEq) (M8 X.K true):=by
 intro pins s σ H x y v u Q I i c h;obtain⟨a,b,ps,j,xs,ys,rfl,rfl,h1,h2,d,e,q⟩:=h;cases i;cases c;obtain⟨as,f⟩:=au I h1 d;obtain⟨bs,g⟩:=au I h2 e;refine iI f g (ak xs) (ak ys) hu (by simp only[SeqAt.noMix];exact oN xs ys) ⟨.bl (!decide (xs=ys)),H,I,?_,q⟩;show _=_;simp only[PySem.Spec.same];rw[oJ]
end
end L2
namespace L2
theorem X1f{X:Cx}(hc:X.calm=true):Cm X (.builtin "max") (λxs H Q=>∃(p:Y4) (ns:W0),xs=[.ref p]/\Ag X.K H p (ns.map V.int)/\0<ns.length/\∀M,M∈ns->(∀a,a∈ns->a<=M)->Q (.int M) H):=by
 intro pins s σ H xs us Q I r h;obtain⟨p,ns,rfl,m,x,q⟩:=h;obtain⟨u,rfl,g⟩:=r.one;cases g;obtain⟨its,n,o,y⟩:=I.list m;have hi:=RQ n;have d:=o.isList;obtain⟨xs,e⟩:=hi.allInts.items;have b:ns=xs.toList.map (·.1):=by
  rw[<-hi.numsOf,<-nums_intItems,<-e]
 have hsz:0<xs.size:=by
  have f:=x;rw[b,A_,Pg]at f;exact f
 rw[e]at d;refine max_intList (show X.A.handled=none from I.ok.hd hc) d hsz λv h' tk w l=>?_;obtain⟨t,rfl⟩:=intItems_at w;obtain⟨h1,h2⟩:=argBest_gt (PySem.numAt xs) (xs.size-1);refine⟨.int (PySem.numAt xs (argBest (λi j=>decide (PySem.numAt xs i>PySem.numAt xs j)) (xs.size-1))),H,I.kept (t':=tk) l,⟨_,O⟩,q _ ?_ λa c=>?_⟩
 ·rw[b,numAt_eq];exact getD_mem (by rw[A_,Pg];lia)
 ·rw[b]at c;obtain⟨j,k,rfl⟩:=mem_getD c;rw[A_,Pg]at k;rw[<-numAt_eq];exact h2 j (by lia)
end L2
namespace L2
section
variable {prog:W3}{w:W6}{A:Y1}{E:U3}{s:W1}{l:Y4}
end
section
variable {X:Cx}
end
end L2
namespace Ah
open L2 Ba Dj
open Ar (top Bs)
noncomputable def nm:Mv->Str
 | .flip _=>"flip"
 | .mix _=>"mix"
 | .turn _ _=>"turn"
 | .iff _ _=>"if"
 | .pair _ _=>"pair"
 | .swap _ _=>"swap"
 | .cross _ _ _=>"cross"
noncomputable def ns:Mv->List Int
 | .flip a=>[a]
 | .mix a=>[a]
 | .turn a k=>[a,k]
 | .iff a b=>[a,b]
 | .pair a b=>[a,b]
 | .swap a b=>[a,b]
 | .cross a b d=>[a,b,d]
noncomputable def hd:Mv->Int
 | .flip a=>a
 | .mix a=>a
 | .turn a _=>a
 | .iff a _=>a
 | .pair a _=>a
 | .swap a _=>a
 | .cross a _ _=>a
noncomputable def code:Mv->Nat
 | .flip _=>0
 | .mix _=>1
 | .turn _ _=>2
 | .iff _ _=>3
 | .pair _ _=>4
 | .swap _ _=>5
 | .cross _ _ _=>6
noncomputable def nms:List Str:=["flip","mix","turn","if","pair","swap","cross"]
theorem vB(m:Mv):nm m=nms.getD (code m) "":=by cases m<;>rfl
theorem X8k:∀i,i<7->∀j,j<7->nms.getD i ""=nms.getD j ""->i=j:=by decide +kernel
theorem X9g(m:Mv):code m<7:=by cases m<;>simp[code]
theorem W4r{x:Mv}{i:Nat}(hi:i<7):nm x=nms.getD i ""↔code x=i:=⟨λh=>X8k _ (X9g x) _ hi (by rw[<-vB,h]),λh=>by rw[vB,h]⟩
noncomputable abbrev mm (m:Mv):Mm:=(nm m,ns m)
theorem X8i(m:Mv):∃r,ns m=hd m::r:=by cases m<;>exact⟨_,O⟩
theorem nM(m:Mv):HF (.str (nm m)::(ns m).map V.int) 0=some (.str (nm m)):=L2.Ol (show (V.str (nm m)::(ns m).map V.int)[0]?=some _ from rfl)
theorem nJ(m:Mv):HF (.str (nm m)::(ns m).map V.int) 1=some (.int (hd m)):=by
 obtain⟨r,e⟩:=X8i m;rw[e];exact L2.Ol (show (V.str (nm m)::V.int (hd m)::r.map V.int)[1]?=some _ from rfl)
theorem X8x(m:Mv):nm m="turn"↔code m=2:=W4r (i:=2) (by decide)
theorem Y7a(m:Mv):∃r,m.cells=hd m::r:=by cases m<;>exact⟨_,O⟩
theorem J2{H H':Hp}{l:Y4}(s:Same H H')(h:H' l=none):H l=none:=by
 cases e:H l with
 | none=>rfl
 | some o=>rw[s _ _ e]at h;cases h
def Ce (H:Hp)(l:Y4)(row:List Mv):Prop:=∃ps,H l=some (.lst (ps.map V.ref))/\Ck H ps (row.map mm)
theorem Ce.same{H H':Hp}{l:Y4}{row:List Mv}(h:Ce H l row)(s:Same H H'):Ce H' l row:=by
 obtain⟨ps,a,b⟩:=h;exact⟨ps,s _ _ a,b.same s⟩
end Ah
namespace Ah
open L2 Ba Am Dj
open Ar (top Bs va vb vc vd Gm Step Steps Fw Mix Cu)
open DY (V4 sm add root E En fl sw sg Bp op Dg)
def Vl (m:Nat)(v:V4)(x:A5):Prop:=∃M0:Int,∀M,M0<=M->va x M=v.1*p2 (M-m)/\vb x M=v.2.1*p2 (M-m)/\vc x M=v.2.2.1*p2 (M-m)/\vd x M=v.2.2.2*p2 (M-m)
variable{m:Nat}{v:V4}
theorem Vl.once{x:V4}{h:Int}(l:Vl m v (x,h)):Vl m (E v) (E x,h):=by
 obtain⟨b,l⟩:=l;refine⟨b,λM a=>?_⟩;obtain⟨l1,l2,l3,l4⟩:=l M a;unfold va at l1;unfold vb at l2;unfold vc at l3;unfold vd at l4;unfold va vb vc vd;simp only[E]at l1 l2 l3 l4 ⊢;rw[Int.neg_mul,Int.neg_mul,l4];exact⟨O,l1,l2,l3⟩
theorem Vl.Dl{m:Nat}{v x:V4}{h:Int}(l:Vl m v (x,h)):∀j,Vl m (En j v) (Ba.Dl j x,h)
 | 0=>l
 | j+1=>(Vl.Dl l j).once
variable{x:A5}
theorem Vl.up(l:Vl m v x)(n:Nat):Vl (m+n) (sm (2^n) v) x:=by
 obtain⟨c,l⟩:=l;refine⟨max c 0+m+n,λM d=>?_⟩;obtain⟨l1,l2,l3,l4⟩:=l M (by lia);have e:p2 (M-m)=2^n*p2 (M-((m+n:Nat):Int)):=by
  rw[QF (a:=M-m) (b:=(n:Int)) (by lia) (by lia),Rj];congr 1;unfold p2;congr 1;lia
 rw[l1,l2,l3,l4,e];simp only[sm];refine⟨?_,?_,?_,?_⟩<;>grind
theorem Vl.mix{s:Int}{u:V4}{y z:A5}(l:Vl m v x)(a:Vl m u y)(mx:Mix s x y z)(x0:0<=x.2)(y0:0<=y.2):Vl (m+1) (root (add v (sm s u))) z:=by
 obtain⟨i,l⟩:=l;obtain⟨n,a⟩:=a;obtain⟨b,p⟩:=mx.vals x0 y0;refine⟨max i 0+max n 0+max b 0+1,λN r=>?_⟩;obtain⟨M,rfl⟩:∃M,N=M+1:=⟨N-1,by lia⟩;obtain⟨j,k,c,o⟩:=l M (by lia);obtain⟨g,h,d,q⟩:=a M (by lia);obtain⟨c1,c2,c3,f⟩:=p M (by lia);have e:M+1-((m+1:Nat):Int)=M-m:=by lia
 rw[c1,c2,c3,f,j,k,c,o,g,h,d,q,e];simp only[root,add,sm];refine⟨?_,?_,?_,?_⟩<;>grind
theorem Vl.same{y:A5}(l:Vl m v x)(a:Vl m v y)(ax:Hr x.1.1 x.1.2.1 x.1.2.2.1 x.1.2.2.2 x.2)(ay:Hr y.1.1 y.1.2.1 y.1.2.2.1 y.1.2.2.2 y.2):x=y:=by
 obtain⟨b,l⟩:=l;obtain⟨c,a⟩:=a;have x0:=ax.nn;have n:=ay.nn;obtain⟨M,g1,g2,g3,g4⟩:∃M:Int,b<=M/\c<=M/\x.2<=M/\y.2<=M:=⟨max b 0+max c 0+x.2+y.2,by lia,by lia,by lia,by lia⟩;obtain⟨h,i,d,j⟩:=l M g1;obtain⟨f,g,e,k⟩:=a M g2;exact Ar.X1t ax ay g3 g4 (by rw[h,f]) (by rw[i,g]) (by rw[d,e]) (by rw[j,k])
theorem Vl.of{N:Nat}(h0:0<=x.2)(h:x.2<=(N:Int)):Vl N (sm (2^(N-x.2.toNat)) x.1) x:=by
 have b:Vl x.2.toNat x.1 x:=by
  refine⟨0,λM _=>?_⟩;have:((x.2.toNat:Nat):Int)=x.2:=Int.toNat_of_nonneg h0;rw[this];exact⟨O,O,O,O⟩
 have:=b.up (N-x.2.toNat);rw[show x.2.toNat+(N-x.2.toNat)=N by lia]at this;exact this
noncomputable def e1 (a w:Nat):Bool:=(decide (w&&&2^a=0) == !w.testBit a) && (decide (w&&&2^a=2^a) == w.testBit a) && (decide (w / 2^a%2=0) == !w.testBit a) && (w.testBit a || decide (fl w a=w+2^a)) && (!w.testBit a || decide (fl w a=w-2^a))
noncomputable def e2 (a b w:Nat):Bool:=decide (a=b) || (decide (Ar.Jw w a b=sw w a b) && (decide (w&&&(2^a ||| 2^b)=(2^a ||| 2^b)) == (w.testBit a && w.testBit b)))
theorem W3n:((List.range 6).all λa=>(List.range 64).all λw=>e1 a w)=true:=by decide +kernel
theorem W3m:((List.range 6).all λa=>(List.range 6).all λb=>(List.range 64).all λw=>e2 a b w)=true:=by decide +kernel
variable{c w:Nat}
theorem Yz(hc:c<=6)(hw:w<2^c):w<64:=DK hw (G3 (by decide) hc:2^c<=2^6)
theorem Tq{a:Nat}(hc:c<=6)(ha:a<c)(hw:w<2^c):(w&&&2^a=0↔w.testBit a=false)/\(w&&&2^a=2^a↔w.testBit a=true)/\(w / 2^a%2=0↔w.testBit a=false)/\(w.testBit a=false->fl w a=w+2^a)/\(w.testBit a=true->fl w a=w-2^a):=by
 have h:=Ar.Dt (Ar.Dt W3n (show a<6 by lia)) (Yz hc hw);unfold e1 at h;simp only[HX,Le,Y8,JG]at h;obtain⟨⟨⟨⟨h1,h2⟩,d⟩,b⟩,e⟩:=h;cases hb:w.testBit a
 ·rw[hb]at h1 h2 d b e;simp at h1 h2 d b e;exact⟨⟨λ_=>rfl,λ_=>h1⟩,⟨λz=>absurd z h2,λz=>by cases z⟩,⟨λ_=>rfl,λ_=>d⟩,λ_=>b,λz=>by cases z⟩
 ·rw[hb]at h1 h2 d b e;simp at h1 h2 d b e;exact⟨⟨λz=>absurd z h1,λz=>by cases z⟩,⟨λ_=>rfl,λ_=>h2⟩,⟨λz=>absurd z (by lia),λz=>by cases z⟩,(λz=>by cases z),λ_=>e⟩
theorem Vi{a b:Nat}(hc:c<=6)(ha:a<c)(hb:b<c)(n:a≠b)(hw:w<2^c):Ar.Jw w a b=sw w a b/\(w&&&(2^a ||| 2^b)=(2^a ||| 2^b)↔(w.testBit a && w.testBit b)=true):=by
 have h:=Ar.Dt (Ar.Dt (Ar.Dt W3m (show a<6 by lia)) (show b<6 by lia)) (Yz hc hw);unfold e2 at h;simp only[HX,Le,Y8,JG]at h;rcases h with h | ⟨h1,h2⟩
 ·exact absurd h n
 ·refine⟨h1,?_⟩;rw[<-h2];simp
noncomputable def gm:Mv->Gm
 | .flip a=>.mv (.flip a.toNat)
 | .mix a=>.mix a.toNat
 | .turn a k=>.mv (.turn a.toNat k.toNat)
 | .iff a b=>.mv (.iff a.toNat b.toNat)
 | .pair a b=>.mv (.pair a.toNat b.toNat)
 | .swap a b=>.mv (.swap a.toNat b.toNat)
 | .cross a b d=>.mv (.cross a.toNat b.toNat d.toNat)
theorem tn{a:Int}(h:0<=a):((a.toNat:Nat):Int)=a:=Int.toNat_of_nonneg h
variable{m:Mv}
theorem W5x(o:Dg c m):(gm m).mm=mm m:=by
 obtain⟨o,_⟩:=o;cases m with
 | flip a=>show (_,[((a.toNat:Nat):Int)])=_;rw[tn o];rfl
 | mix a=>show (_,[((a.toNat:Nat):Int)])=_;rw[tn o];rfl
 | turn a k=>show (_,[((a.toNat:Nat):Int),((k.toNat:Nat):Int)])=_;rw[tn o.1,tn (show 0<=k by have:=o.2.1;lia)];rfl
 | iff a b=>show (_,[((a.toNat:Nat):Int),((b.toNat:Nat):Int)])=_;rw[tn o.1,tn o.2.1];rfl
 | pair a b=>show (_,[((a.toNat:Nat):Int),((b.toNat:Nat):Int)])=_;rw[tn o.1,tn o.2.1];rfl
 | swap a b=>show (_,[((a.toNat:Nat):Int),((b.toNat:Nat):Int)])=_;rw[tn o.1,tn o.2.1];rfl
 | cross a b d=>show (_,[((a.toNat:Nat):Int),((b.toNat:Nat):Int),((d.toNat:Nat):Int)])=_;rw[tn o.1,tn o.2.1,tn o.2.2.1];rfl
theorem Yh(o:Dg c m):(gm m).Ok c:=by
 obtain⟨o,x⟩:=o;cases m with
 | flip a=>have h:=x a (by simp[Mv.cells]);have o:0<=a:=o;show a.toNat<c;lia
 | mix a=>have h:=x a (by simp[Mv.cells]);have o:0<=a:=o;show a.toNat<c;lia
 | turn a k=>have h:=x a (by simp[Mv.cells]);have o:0<=a/\1<=k/\k<=7:=o;show a.toNat<c/\1<=k.toNat/\k.toNat<=7;lia
 | iff a b=>have h:=x a (by simp[Mv.cells]);have h2:=x b (by simp[Mv.cells]);have o:0<=a/\0<=b/\a≠b:=o;show a.toNat<c/\b.toNat<c/\a.toNat≠b.toNat;lia
 | pair a b=>have h:=x a (by simp[Mv.cells]);have h2:=x b (by simp[Mv.cells]);have o:0<=a/\0<=b/\a≠b:=o;show a.toNat<c/\b.toNat<c/\a.toNat≠b.toNat;lia
 | swap a b=>have h:=x a (by simp[Mv.cells]);have h2:=x b (by simp[Mv.cells]);have o:0<=a/\0<=b/\a≠b:=o;show a.toNat<c/\b.toNat<c/\a.toNat≠b.toNat;lia
 | cross a b d=>have h:=x a (by simp[Mv.cells]);have h2:=x b (by simp[Mv.cells]);have e:=x d (by simp[Mv.cells]);have o:0<=a/\0<=b/\0<=d/\a≠b/\a≠d/\b≠d:=o;show a.toNat<c/\b.toNat<c/\d.toNat<c/\a.toNat≠b.toNat/\a.toNat≠d.toNat/\b.toNat≠d.toNat;lia
variable{F:DY.Bv}{f:Nat->A5}
theorem Vn{n k:Nat}{z:A5}{v:Ar.Mv}{t:Nat}(hl:v.to w<2^c)(h:∀w,w<2^c->Vl n (F w) (f w))(et:v.to w=t)(es:v.sp w=k)(k8:k<8)(e:z=D_ (f (v.to w)) (v.sp w:Nat)):Vl (n+1) (sm 2 (En k (F t))) z:=by
 subst et es;rw[e];have q:=(h _ hl).Dl (v.sp w);have e2:(((v.sp w:Nat):Int)%8).toNat=v.sp w:=by lia
 unfold D_;rw[e2];exact q.up 1
theorem X6w{n:Nat}{f':Nat->A5}(hc:c<=6)(o:Dg c m)(af:Fw c f)(h:∀w,w<2^c->Vl n (F w) (f w))(s:Step c (gm m) f f'):∀w,w<2^c->Vl (n+1) (op m F w) (f' w):=by
 intro w i;have ok:=Yh o;cases m with
 | flip a=>exact Vn (v:=.flip a.toNat) (Ar.Mv.to_lt hc ok i) h rfl rfl (show 0<8 by decide) (s w i)
 | turn a j =>
  have ok:a.toNat<c/\1<=j.toNat/\j.toNat<=7:=ok;refine Vn (v:=.turn a.toNat j.toNat) i h rfl ?_ ?_ (s w i)
  ·show (if _ then _ else _)=(if _ then _ else _);by_cases b:w.testBit a.toNat=true
   ·rw[if_pos b,if_pos ((Tq hc ok.1 i).2.1.mpr b)]
   ·rw[if_neg b,if_neg (λz=>b ((Tq hc ok.1 i).2.1.mp z))]
  ·show (if w.testBit a.toNat then j.toNat else 0)<8;split<;>lia
 | iff a b =>
  have g:a.toNat<c/\b.toNat<c/\a.toNat≠b.toNat:=ok;refine Vn (v:=.iff a.toNat b.toNat) (Ar.Mv.to_lt hc ok i) h ?_ rfl (show 0<8 by decide) (s w i);show (if _ then _ else _)=(if _ then _ else _);by_cases b:w.testBit a.toNat=true
  ·rw[if_pos b,if_neg (λz=>by rw[(Tq hc g.1 i).1.mp z]at b;cases b)];rfl
  ·rw[if_neg b,if_pos ((Tq hc g.1 i).1.mpr (by simpa using b))]
 | pair a b =>
  have g:a.toNat<c/\b.toNat<c/\a.toNat≠b.toNat:=ok;refine Vn (v:=.pair a.toNat b.toNat) i h rfl ?_ ?_ (s w i)
  ·show (if _ then _ else _)=(if _ then _ else _);by_cases b':(w.testBit a.toNat && w.testBit b.toNat)=true
   ·rw[if_pos b',if_pos ((Vi hc g.1 g.2.1 g.2.2 i).2.mpr b')]
   ·rw[if_neg b',if_neg (λz=>b' ((Vi hc g.1 g.2.1 g.2.2 i).2.mp z))]
  ·show (if _ then _ else _)<8;split<;>lia
 | swap a b =>
  have g:a.toNat<c/\b.toNat<c/\a.toNat≠b.toNat:=ok;exact Vn (v:=.swap a.toNat b.toNat) (Ar.Mv.to_lt hc ok i) h (Vi hc g.1 g.2.1 g.2.2 i).1 rfl (show 0<8 by decide) (s w i)
 | cross a b d =>
  have g:a.toNat<c/\b.toNat<c/\d.toNat<c/\a.toNat≠b.toNat/\a.toNat≠d.toNat/\b.toNat≠d.toNat:=ok;refine Vn (v:=.cross a.toNat b.toNat d.toNat) (Ar.Mv.to_lt hc ok i) h ?_ rfl (show 0<8 by decide) (s w i);show (if _ then _ else _)=(if _ then _ else _);by_cases b:w.testBit a.toNat=true
  ·rw[if_pos b,if_neg (λz=>by rw[(Tq hc g.1 i).1.mp z]at b;cases b)];exact(Vi hc g.2.1 g.2.2.1 g.2.2.2.2.2 i).1
  ·rw[if_neg b,if_pos ((Tq hc g.1 i).1.mpr (by simpa using b))]
 | mix a =>
  have p:a.toNat<c:=ok;have e:=s w i;have e:Cu f a.toNat w (f' w):=e;unfold Cu at e;obtain⟨_,_,l,q,r⟩:=Tq hc p i;show Vl (n+1) (root (add (sm (sg w a.toNat) (F w)) (F (fl w a.toNat)))) (f' w);unfold sg;by_cases hb:w.testBit a.toNat=false
  ·have z:=l.mpr hb;obtain⟨_,_,l2,_⟩:=Ar.YW hc p i z;rw[if_pos z]at e;rw[if_neg (by rw[hb];decide),q hb,DY.bW];have:=(h _ i).mix (h _ l2) e (af _ i).nn (af _ l2).nn;rw[DY.bW]at this;exact this
  ·have k:w.testBit a.toNat=true:=by simpa using hb
   have z:¬ w / 2^a.toNat%2=0:=λz=>hb (l.mp z);have l2:w-2^a.toNat<2^c:=Ob (Wi _ _) i;rw[if_neg z]at e;rw[if_pos k,r k,DY.add_comm];exact(h _ l2).mix (h _ i) e (af _ l2).nn (af _ i).nn
theorem aH{c:Nat}(hc:c<=6):∀{row:List Mv}{n:Nat}{F:DY.Bv}{f f':Nat->A5},(∀m∈row,Dg c m)->Fw c f->(∀w,w<2^c->Vl n (F w) (f w))->Steps c (row.map gm) f f'->(∀w,w<2^c->Vl (n+row.length) (Bp row F w) (f' w))/\Fw c f'
 | [],n,F,f,f',_,af,h,a=>by
  cases a;exact⟨h,af⟩
 | m::row,n,F,f,f',ok,af,h,a=>by
  cases a with
  | cons a a' =>
   have b:=ok m (.head _);have:=aH hc (row:=row) (λx d=>ok x (.tail _ d)) (a.ams hc (Yh b) af) (X6w hc b af h a) a';rw[Lf,show n+(row.length+1)=n+1+row.length by lia];exact this
theorem bU{H:Hp}{l:Y4}{row:List Mv}(h:Ce H l row)(ok:∀m∈row,Dg c m)(len:row.length<=200):∃ps,Ar.Rw H l ps (row.map gm) c:=by
 obtain⟨ps,f,b⟩:=h;refine⟨ps,f,?_,?_,by rw[A_];exact len⟩
 ·show Ck H ps ((row.map gm).map Gm.mm);have e:(row.map gm).map Gm.mm=row.map mm:=by
   rw[KN];exact Zc λm a=>W5x (ok m a)
  rw[e];exact b
 ·intro m a;obtain⟨x,d,rfl⟩:=GP.mp a;exact Yh (ok x d)
end Ah
namespace Ah
open L2 Ba Am Pc Dj
open Ar (top Bs)
open DY (fl sw Dg)
open C_ (Mk Bj Br)
noncomputable abbrev Ib (m:Mk):List V:=[.int (m.1:Nat),.int (m.2.1:Nat),.int (m.2.2:Nat)]
structure Jh (c:Nat) (m:Mk):Prop where
 k:m.1<4
 f:m.2.1<2^c
 s:m.2.2<2^c
theorem X9p(f a:Nat):(f&&&2^a)=if f.testBit a then 2^a else 0:=by
 apply Kf;intro j;rw[KY,Nb];by_cases h:a=j
 ·subst h;cases hb:f.testBit a<;>simp
 ·cases hb:f.testBit a<;>simp[h,Nb]
theorem tb(f a:Nat):(Builtin.bitAnd (f:Int) ((2^a:Nat):Int) != 0)=f.testBit a:=by
 rw[Ig,X9p];cases f.testBit a
 ·rfl
 ·have b:=Cv a;have:((2^a:Nat):Int)≠0:=by lia
  exact bne_iff_ne.mpr this
theorem xb(f a:Nat):Builtin.bitXor (f:Int) ((2^a:Nat):Int)=((fl f a:Nat):Int):=Ko f (2^a)
noncomputable abbrev K1 (a f s:Nat):Nat:=if f.testBit a=s.testBit a then f else fl f a
noncomputable abbrev Lj (a f s:Nat):Nat:=if f.testBit a=s.testBit a then s else fl s a
noncomputable abbrev Zq (f s b:Int):Int:=Builtin.bitOr (Builtin.bitAnd f (Builtin.bitNot b)) (Builtin.bitAnd s b)
noncomputable def XJ (a f s:Nat):Bool :=
 decide (Zq f s ((2^a:Nat):Int)=(K1 a f s:Int)) && decide (Zq s f ((2^a:Nat):Int)=(Lj a f s:Int)) &&
 decide (((K1 a f s).testBit a && (Lj a f s).testBit a)=(f.testBit a && s.testBit a))
theorem W2d:((List.range 6).all λa=>(List.range 64).all λf=>(List.range 64).all λs=>XJ a f s)=true:=by decide +kernel
variable{c a f:Nat}
theorem W4s{s:Nat}(hc:c<=6)(ha:a<c)(hf:f<2^c)(hs:s<2^c):Zq f s ((2^a:Nat):Int)=(K1 a f s:Int)/\Zq s f ((2^a:Nat):Int)=(Lj a f s:Int)/\((K1 a f s).testBit a && (Lj a f s).testBit a)=(f.testBit a && s.testBit a):=by
 have h:=Ar.Dt (Ar.Dt (Ar.Dt W2d (show a<6 by lia)) (Yz hc hf)) (Yz hc hs);unfold XJ at h;rw[HX,HX]at h;exact⟨Kd h.1.1,Kd h.1.2,Kd h.2⟩
theorem tb2(f s a:Nat):(Builtin.bitAnd (Builtin.bitAnd (f:Int) (s:Int)) ((2^a:Nat):Int) != 0)=(f.testBit a && s.testBit a):=by
 rw[Ig,tb,KY]
theorem Ls(hf:f<2^c)(ha:a<c):fl f a<2^c:=Lh hf (Kg (by decide) ha)
theorem W0z{b:Nat}(hf:f<2^c)(ha:a<c)(hb:b<c):sw f a b<2^c:=by
 unfold sw;split
 ·exact hf
 ·exact Ls (Ls hf ha) hb
theorem zL{x:Mv}{m:Mk}(o:Dg c x)(h:Jh c m):Jh c (Bj x m):=by
 obtain⟨k,f,s⟩:=m;obtain⟨i,hf,g⟩:=h;have ok:=Yh o;have l:∀n:Nat,n%4<4:=λn=>KH _ (by decide);cases x with
 | flip a=>exact⟨by show (if _ then _ else _)<4;split;exact l _;exact i,hf,g⟩
 | mix a =>
  have e:a.toNat<c:=ok;exact⟨by show (if _ then _ else _)<4;split;exact l _;exact i,by show (if _ then _ else _)<2^c;split;exact hf;exact Ls hf e,by show (if _ then _ else _)<2^c;split;exact g;exact Ls g e⟩
 | turn a j =>
  have e:a.toNat<c/\_:=ok;show Jh c (if _ then _ else _);split
  ·exact⟨l _,hf,by show (if _ then _ else _)<2^c;split;exact Ls g e.1;exact g⟩
  ·exact⟨i,hf,g⟩
 | iff a b =>
  have e:a.toNat<c/\b.toNat<c/\_:=ok;exact⟨i,by show (if _ then _ else _)<2^c;split;exact Ls hf e.2.1;exact hf,by show (if _ then _ else _)<2^c;split;exact Ls g e.1;exact g⟩
 | pair a b =>
  have e:a.toNat<c/\b.toNat<c/\_:=ok;refine⟨by show (if _ then _ else _)<4;split;exact l _;exact i,hf,?_⟩;show (if _ then _ else _)<2^c;split
  ·refine Ls ?_ e.1;split
   ·exact Ls g e.2.1
   ·exact g
  ·split
   ·exact Ls g e.2.1
   ·exact g
 | swap a b =>
  have e:a.toNat<c/\b.toNat<c/\_:=ok;exact⟨i,W0z hf e.1 e.2.1,W0z g e.1 e.2.1⟩
 | cross a b d=>exact⟨i,hf,g⟩
abbrev UL (K:U0)(H:Hp)(Q:VK)(m:Mk):Prop:=∀(r:Y4) (H':Hp),Same H H'->Ax K H' r (Ib m)->Q (.ref r) H'
def Zy (K:U0):Sp:=λvs H Q _=>∃(p:Y4) (m:Mk),vs=[.ref p]/\Ax K H p (Ib m)/\UL K H Q ((m.1+2)%4,m.2.1,m.2.2)
def vV (K:U0):Sp:=λvs H Q _=>∃(p:Y4) (m:Mk) (c a:Nat),vs=[.ref p,.int ((2^a:Nat):Int)]/\Ax K H p (Ib m)/\Jh c m/\c<=6/\a<c/\UL K H Q (Bj (.mix (a:Int)) m)
def xJ (K:U0):Sp:=λvs H Q _=>∃(p:Y4) (m:Mk) (a j:Nat),vs=[.ref p,.int ((2^a:Nat):Int),.int (j:Int)]/\Ax K H p (Ib m)/\UL K H Q (Bj (.turn (a:Int) (j:Int)) m)
def Mq (K:U0):Sp:=λvs H Q _=>∃(p:Y4) (m:Mk) (a b:Nat),vs=[.ref p,.int ((2^a:Nat):Int),.int ((2^b:Nat):Int)]/\Ax K H p (Ib m)/\UL K H Q (Bj (.iff (a:Int) (b:Int)) m)
def xH (K:U0):Sp:=λvs H Q _=>∃(p:Y4) (m:Mk) (a b:Nat),vs=[.ref p,.int ((2^a:Nat):Int),.int ((2^b:Nat):Int)]/\Ax K H p (Ib m)/\UL K H Q (Bj (.pair (a:Int) (b:Int)) m)
variable{x y z:V}
theorem k0:HF [x,y,z] 0=some x:=rfl
theorem k1:HF [x,y,z] 1=some y:=rfl
theorem k2:HF [x,y,z] 2=some z:=rfl
theorem u_(a k f s:Nat):Bj (.mix (a:Int)) (k,f,s)=(if f.testBit a && s.testBit a then (k+2)%4 else k,K1 a f s,Lj a f s):=rfl
theorem X3s(a j k f s:Nat):Bj (.turn (a:Int) (j:Int)) (k,f,s)=if f.testBit a then ((k+j / 2)%4,f,if j%4=2 then fl s a else s) else (k,f,s):=rfl
theorem X8r(a b k f s:Nat):Bj (.iff (a:Int) (b:Int)) (k,f,s)=(k,if f.testBit a then fl f b else f,if s.testBit b then fl s a else s):=rfl
noncomputable abbrev Qz (a b f s:Nat):Nat:=if f.testBit b then fl (if f.testBit a then fl s b else s) a else if f.testBit a then fl s b else s
theorem X3t(a b k f s:Nat):Bj (.pair (a:Int) (b:Int)) (k,f,s)=(if f.testBit a && f.testBit b then (k+2)%4 else k,f,Qz a b f s):=rfl
section
variable {P:W3}{w:W6}{K:U0}{mg:U6}{base:Heap}{k:Nat}{h:Heap}
theorem X3q(F:Ab K "turned_about" (top 31) .none)(X:K.In h)(G:Ng h mg):Ai P w K mg base (k+1) "turned_about" ["mark"] (Zy K):=by
 refine F.cal X G ["mark"] λb H vs Q E a h=>?_;obtain⟨p,⟨k,f,s⟩,rfl,S,q⟩:=h;refine⟨_,(@Aj _ _ _ (BJ (@Ci _ _ _ _ _ (Aa (Af Dp (Af Dn (Aw BL (pv 0) Ac (λ_ _=>rfl)) Ac) Ac) (Aa (Aw BL (pv 0) Ac (λ_ _=>rfl)) (Aa (Aw BL (pv 0) Ac (λ_ _=>rfl)) Ae)))))),?_⟩;try dsimp only[CN]
 refine⟨_,O,p,_,_,.int k,O,O,S,k0,_,_,O,O,_,_,O,O,(by show (0:Int)<_;decide),_,O,p,_,_,.int f,O,O,S,k1,_,O,p,_,_,.int s,O,O,S,k2,t3,λr a=>q r _ (Ao a _) (Ax.of ?_)⟩;rw[Al];have e:((k:Int)+2)%4=(((k+2)%4:Nat):Int):=by lia
 show some (HO.tup [.int (((k:Int)+2)%4),.int f,.int s])=_;rw[e]
theorem X3o(F:Ab K "moved_by_mix" (top 67) .none)(X:K.In h)(G:Ng h mg)(cH:Ai P w K mg base k "turned_about" ["mark"] (Zy K)):Ai P w K mg base (k+1) "moved_by_mix" ["mark","bit"] (vV K):=by
 refine F.cal X G ["mark","bit","flips","signs","moved"] λd H vs Q E m h=>?_;obtain⟨p,⟨k,f,s⟩,c,a,rfl,S,o,c6,l,q⟩:=h;obtain⟨e1,e2,i⟩:=W4s (f:=f) (s:=s) c6 l o.f o.s
 refine⟨_,(@Dv _ _ _ _ _ (@BR _ _ 2 _ _ _ _ d rfl (Or.inl rfl) (Af Nq (Af Di (Aw BL (pv 0) Ac (λ_ _=>rfl)) (Vm zq (pv 1))) (Af Di (Aw BL (pv 0) Ac (λ_ _=>rfl)) (pv 1))) rfl (.inl rfl))
  (@Dv _ _ _ _ _ (@BR _ _ 3 _ _ _ _ d rfl (Or.inl rfl) (Af Nq (Af Di (Aw BL (pv 0) Ac (λ_ _=>rfl)) (Vm zq (pv 1))) (Af Di (Aw BL (pv 0) Ac (λ_ _=>rfl)) (pv 1))) rfl (.inl rfl))
  (@Av _ _ _ _ _ (@BR _ _ 4 _ _ _ _ d rfl (Or.inl rfl) (@Ci _ _ _ _ _ (Aa (Aw BL (pv 0) Ac (λ_ _=>rfl)) (Aa (pv 2) (Aa (pv 3) Ae)))) rfl (.inl rfl))
  (@Aj _ _ _ (BJ (Nu (Kr (Af Di (Af Di (pv 2) (pv 3)) (pv 1)) (by intro _;rfl)) (Ay cH m rfl (Aa (pv 4) Ae)) (pv 4))))))),?_⟩
 try dsimp only[CN]
 refine⟨λb H'=>H=H'/\b=[some (.ref p),some (.int ((2^a:Nat):Int)),some (.int (K1 a f s:Nat)),none,none],?_,?_⟩
 ·exact⟨_,O,p,_,_,.int f,O,O,S,k1,_,O,_,O,_,_,O,O,_,O,p,_,_,.int s,O,O,S,k2,_,O,_,_,O,O,_,_,O,O,O,by rw[<-e1];rfl⟩
 rintro b _ ⟨rfl,rfl⟩;refine⟨λb H'=>H=H'/\b=[some (.ref p),some (.int ((2^a:Nat):Int)),some (.int (K1 a f s:Nat)),some (.int (Lj a f s:Nat)),none],?_,?_⟩
 ·exact⟨_,O,p,_,_,.int s,O,O,S,k2,_,O,_,O,_,_,O,O,_,O,p,_,_,.int f,O,O,S,k1,_,O,_,_,O,O,_,_,O,O,O,by rw[<-e2];rfl⟩
 rintro b _ ⟨rfl,rfl⟩;refine⟨_,O,p,_,_,.int k,O,O,S,k0,_,O,_,O,t3,λt n=>?_⟩;have g:=Ao n (.tup (Ib (k,K1 a f s,Lj a f s)));have e:Ax K (upd H t (.tup (Ib (k,K1 a f s,Lj a f s)))) t (Ib (k,K1 a f s,Lj a f s)):=Ax.of Al;refine⟨_,O,_,O,_,_,O,O,_,O,_,_,O,O,_,O,?_⟩;rw[tb2,i];refine Jz (λz=>?_) (λz=>?_)
 ·refine⟨_,O,t,(k,K1 a f s,Lj a f s),O,e,λr H2 j h2=>q r H2 (g.trans j) ?_⟩;have:Bj (.mix (a:Int)) (k,f,s)=((k+2)%4,K1 a f s,Lj a f s):=by
   rw[u_,if_pos z]
  rw[this];exact h2
 ·refine⟨_,O,q t _ g ?_⟩;have:Bj (.mix (a:Int)) (k,f,s)=(k,K1 a f s,Lj a f s):=by
   rw[u_,if_neg (by rw[z];decide)]
  rw[this];exact e
theorem Y9n(F:Ab K "moved_by_turn" (top 68) .none)(X:K.In h)(G:Ng h mg):Ai P w K mg base (k+1) "moved_by_turn" ["mark","bit","k"] (xJ K):=by
 refine F.cal X G ["mark","bit","k","signs"] λd H vs Q E c h=>?_;obtain⟨p,⟨k,f,s⟩,a,j,rfl,S,q⟩:=h
 refine⟨_,(@Av _ _ _ _ _ (B_ (Fo (Kr (Af Di (Aw BL (pv 0) Ac (λ_ _=>rfl)) (pv 1)) (by intro _;rfl)))
   (@Aj _ _ _ (BJ (pv 0)))
   CJ)
  (@Dv _ _ _ _ _ (@BR _ _ 3 _ _ _ _ d rfl (Or.inl rfl) (Nu (CP Df (Af Dp (pv 2) Ac) Ac (Ad _)) (Af JL (Aw BL (pv 0) Ac (λ_ _=>rfl)) (pv 1)) (Aw BL (pv 0) Ac (λ_ _=>rfl))) rfl (.inl rfl))
  (@Aj _ _ _ (BJ (@Ci _ _ _ _ _ (Aa (Af Dp (Af Dn (Aw BL (pv 0) Ac (λ_ _=>rfl)) (Af Iw (pv 2) Ac)) Ac) (Aa (Aw BL (pv 0) Ac (λ_ _=>rfl)) (Aa (pv 3) Ae)))))))),?_⟩
 try dsimp only[CN]
 refine⟨_,O,p,_,_,.int f,O,O,S,k1,_,O,_,_,O,O,_,O,?_⟩;rw[tb];rw[X3s]at q;refine FQ (λz=>?_) (λz=>?_)
 ·rw[if_neg (by rw[z];decide)]at q;exact⟨_,O,q p H (Same.refl _) S⟩
 rw[if_pos z]at q;refine⟨λb H'=>H=H'/\b=[some (.ref p),some (.int ((2^a:Nat):Int)),some (.int (j:Int)),some (.int ((if j%4=2 then fl s a else s:Nat):Int))],?_,?_⟩
 ·refine⟨_,O,_,_,O,O,(by show (0:Int)<_;decide),O,_,O,Iv (λy=>?_) (λy=>?_)⟩
  ·exact⟨_,O,p,_,_,.int s,O,O,S,k2,_,O,_,_,O,O,O,by rw[if_pos (by lia),<-xb];rfl⟩
  ·exact⟨_,O,p,_,_,.int s,O,O,S,k2,O,by rw[if_neg (by lia)];rfl⟩
 rintro b _ ⟨rfl,rfl⟩;refine⟨_,O,p,_,_,.int k,O,O,S,k0,_,O,_,_,O,O,⟨by decide,by decide⟩,_,_,O,O,_,_,O,O,(by show (0:Int)<_;decide),_,O,p,_,_,.int f,O,O,S,k1,_,O,t3,λr c=>q r _ (Ao c _) (Ax.of ?_)⟩;rw[Al];have e:((k:Int)+(j:Int) / 2)%4=(((k+j / 2)%4:Nat):Int):=by lia
 show some (HO.tup [.int (((k:Int)+(j:Int) / 2)%4),.int f,.int ((if j%4=2 then fl s a else s:Nat):Int)])=_;rw[e]
theorem X8e(F:Ab K "moved_by_if" (top 69) .none)(X:K.In h)(G:Ng h mg):Ai P w K mg base (k+1) "moved_by_if" ["mark","bit","other"] (Mq K):=by
 refine F.cal X G ["mark","bit","other","flips","signs"] λd H vs Q E e h=>?_;obtain⟨p,⟨k,f,s⟩,a,b,rfl,S,q⟩:=h;rw[X8r]at q
 refine⟨_,(@Dv _ _ _ _ _ (@BR _ _ 3 _ _ _ _ d rfl (Or.inl rfl) (Nu (Kr (Af Di (Aw BL (pv 0) Ac (λ_ _=>rfl)) (pv 1)) (by intro _;rfl)) (Af JL (Aw BL (pv 0) Ac (λ_ _=>rfl)) (pv 2)) (Aw BL (pv 0) Ac (λ_ _=>rfl))) rfl (.inl rfl))
  (@Dv _ _ _ _ _ (@BR _ _ 4 _ _ _ _ d rfl (Or.inl rfl) (Nu (Kr (Af Di (Aw BL (pv 0) Ac (λ_ _=>rfl)) (pv 2)) (by intro _;rfl)) (Af JL (Aw BL (pv 0) Ac (λ_ _=>rfl)) (pv 1)) (Aw BL (pv 0) Ac (λ_ _=>rfl))) rfl (.inl rfl))
  (@Aj _ _ _ (BJ (@Ci _ _ _ _ _ (Aa (Aw BL (pv 0) Ac (λ_ _=>rfl)) (Aa (pv 3) (Aa (pv 4) Ae)))))))),?_⟩
 try dsimp only[CN]
 refine⟨λc H'=>H=H'/\c=[some (.ref p),some (.int ((2^a:Nat):Int)),some (.int ((2^b:Nat):Int)),some (.int ((if f.testBit a then fl f b else f:Nat):Int)),none],?_,?_⟩
 ·refine⟨_,O,p,_,_,.int f,O,O,S,k1,_,O,_,_,O,O,_,O,?_⟩;rw[tb];refine Jz (λz=>?_) (λz=>?_)
  ·exact⟨_,O,p,_,_,.int f,O,O,S,k1,_,O,_,_,O,O,O,by rw[if_pos z,<-xb];rfl⟩
  ·exact⟨_,O,p,_,_,.int f,O,O,S,k1,O,by rw[if_neg (by rw[z];decide)];rfl⟩
 rintro c _ ⟨rfl,rfl⟩;refine⟨λc H'=>H=H'/\c=[some (.ref p),some (.int ((2^a:Nat):Int)),some (.int ((2^b:Nat):Int)),some (.int ((if f.testBit a then fl f b else f:Nat):Int)),some (.int ((if s.testBit b then fl s a else s:Nat):Int))],?_,?_⟩
 ·refine⟨_,O,p,_,_,.int s,O,O,S,k2,_,O,_,_,O,O,_,O,?_⟩;rw[tb];refine Jz (λz=>?_) (λz=>?_)
  ·exact⟨_,O,p,_,_,.int s,O,O,S,k2,_,O,_,_,O,O,O,by rw[if_pos z,<-xb];rfl⟩
  ·exact⟨_,O,p,_,_,.int s,O,O,S,k2,O,by rw[if_neg (show ¬ s.testBit b=true by rw[z];decide)];rfl⟩
 rintro c _ ⟨rfl,rfl⟩;exact⟨_,O,p,_,_,.int k,O,O,S,k0,_,O,_,O,t3,λr e=>q r _ (Ao e _) (Ax.of Al)⟩
theorem Y9o(F:Ab K "moved_by_pair" (top 70) .none)(X:K.In h)(G:Ng h mg)(cH:Ai P w K mg base k "turned_about" ["mark"] (Zy K)):Ai P w K mg base (k+1) "moved_by_pair" ["mark","bit","other"] (xH K):=by
 refine F.cal X G ["mark","bit","other","signs","moved"] λd H vs Q E l h=>?_;obtain⟨p,⟨k,f,s⟩,a,b,rfl,S,q⟩:=h;rw[X3t]at q
 refine⟨_,(@Av _ _ _ _ _ (@BR _ _ 3 _ _ _ _ d rfl (Or.inl rfl) (Aw BL (pv 0) Ac (λ_ _=>rfl)) rfl (.inl rfl))
  (@Dv _ _ _ _ _ (B_ (Kr (Af Di (Aw BL (pv 0) Ac (λ_ _=>rfl)) (pv 1)) (by intro _;rfl))
   (@Aj _ _ _ (@BR _ _ 3 _ _ _ _ d rfl (Or.inl rfl) (Af JL (pv 3) (pv 2)) rfl (.inl rfl)))
   CJ)
  (@Dv _ _ _ _ _ (B_ (Kr (Af Di (Aw BL (pv 0) Ac (λ_ _=>rfl)) (pv 2)) (by intro _;rfl))
   (@Aj _ _ _ (@BR _ _ 3 _ _ _ _ d rfl (Or.inl rfl) (Af JL (pv 3) (pv 1)) rfl (.inl rfl)))
   CJ)
  (@Av _ _ _ _ _ (@BR _ _ 4 _ _ _ _ d rfl (Or.inl rfl) (@Ci _ _ _ _ _ (Aa (Aw BL (pv 0) Ac (λ_ _=>rfl)) (Aa (Aw BL (pv 0) Ac (λ_ _=>rfl)) (Aa (pv 3) Ae)))) rfl (.inl rfl))
  (@Aj _ _ _ (BJ (Nu (PW.pt (Oj (Kr (Af Di (Aw BL (pv 0) Ac (λ_ _=>rfl)) (pv 1)) (by intro _;rfl)) (RM (Kr (Af Di (Aw BL (pv 0) Ac (λ_ _=>rfl)) (pv 2)) (by intro _;rfl))))) (Ay cH l rfl (Aa (pv 4) Ae)) (pv 4)))))))),?_⟩
 try dsimp only[CN]
 refine⟨_,O,p,_,_,.int s,O,O,S,k2,?_⟩;refine⟨λc H'=>H=H'/\c=[some (.ref p),some (.int ((2^a:Nat):Int)),some (.int ((2^b:Nat):Int)),some (.int ((if f.testBit a then fl s b else s:Nat):Int)),none],?_,?_⟩
 ·refine⟨_,O,p,_,_,.int f,O,O,S,k1,_,O,_,_,O,O,_,O,?_⟩;rw[tb];refine Jz (λz=>?_) (λz=>?_)
  ·exact⟨_,O,_,O,_,_,O,O,O,by rw[if_pos z,<-xb];rfl⟩
  ·exact⟨O,by rw[if_neg (by rw[z];decide)];rfl⟩
 rintro c _ ⟨rfl,rfl⟩;refine⟨λc H'=>H=H'/\c=[some (.ref p),some (.int ((2^a:Nat):Int)),some (.int ((2^b:Nat):Int)),some (.int (Qz a b f s:Nat)),none],?_,?_⟩
 ·refine⟨_,O,p,_,_,.int f,O,O,S,k1,_,O,_,_,O,O,_,O,?_⟩;rw[tb];refine Jz (λz=>?_) (λz=>?_)
  ·exact⟨_,O,_,O,_,_,O,O,O,by rw[Qz,if_pos z,<-xb];rfl⟩
  ·exact⟨O,by rw[Qz,if_neg (show ¬ f.testBit b=true by rw[z];decide)]⟩
 rintro c _ ⟨rfl,rfl⟩;refine⟨_,O,p,_,_,.int k,O,O,S,k0,_,O,p,_,_,.int f,O,O,S,k1,_,O,t3,λt m=>?_⟩;have e:=Ao m (.tup (Ib (k,f,Qz a b f s)));have g:Ax K (upd H t (.tup (Ib (k,f,Qz a b f s)))) t (Ib (k,f,Qz a b f s)):=Ax.of Al;have i:=e.tup S;refine⟨_,O,p,_,_,.int f,O,O,i,k1,_,O,_,_,O,O,_,O,?_⟩;rw[tb];refine Jz (λz=>?_) (λz=>?_)
 ·refine⟨_,O,p,_,_,.int f,O,O,i,k1,_,O,_,_,O,O,_,O,?_⟩;rw[tb];refine Jz (λy=>?_) (λy=>?_)
  ·rw[if_pos (by rw[z,y];rfl)]at q;exact⟨_,O,t,(k,f,Qz a b f s),O,g,λr H2 j h2=>q r H2 (e.trans j) h2⟩
  ·rw[if_neg (by rw[z,y];decide)]at q;exact⟨_,O,q t _ e g⟩
 ·rw[if_neg (by rw[z];simp)]at q;exact Bd ⟨_,O,q t _ e g⟩
end
end Ah
namespace Ah
open L2 Ba Am Pc Dj
open Ar (top Bs Ik)
open DY (fl sw Dg)
open C_ (Mk Bj Ak Br)
def yW (K:U0):Sp:=λvs H Q _=>∃(p q:Y4) (m:Mk) (x:Mv) (c:Nat),vs=[.ref p,.ref q]/\Ax K H p (Ib m)/\H q=some (mT (mm x))/\Jh c m/\c<=6/\Dg c x/\Br x/\UL K H Q (Bj x m)
def oK (K:U0):Sp:=λvs H Q _=>∃(p l:Y4) (m:Mk) (row:List Mv) (c:Nat),vs=[.ref p,.ref l]/\Ax K H p (Ib m)/\Ce H l row/\Jh c m/\c<=6/\(∀x∈row,Dg c x)/\(∀x∈row,Br x)/\row.length<=200/\UL K H Q (Ak row m)
theorem at0{x:V}{xs:List V}:HF (x::xs) 0=some x:=L2.Ol (j:=0) rfl
theorem X2i{a:Int}(h0:0<=a):(1:Int)*2^a.toNat=((2^a.toNat:Nat):Int):=by simp
theorem X3u(a k f s:Nat):Bj (.flip (a:Int)) (k,f,s)=(if s.testBit a then (k+2)%4 else k,f,s):=rfl
theorem Ou:∀(r t:List Mv) (m:Mk),Ak (r++t) m=Ak t (Ak r m)
 | [],_,_=>rfl
 | x::r,t,m=>Ou r t (Bj x m)
theorem pJ{c:Nat}:∀{row:List Mv}{m:Mk},(∀x∈row,Dg c x)->Jh c m->Jh c (Ak row m)
 | [],_,_,h=>h
 | x::r,m,o,h=>pJ (row:=r) (λy a=>o y (.tail _ a)) (zL (o x (.head _)) h)
theorem QS{H:Hp}:∀{ps:U5}{ms:List Mm},Ck H ps ms->ps.length=ms.length
 | [],[],.nil=>rfl
 | _::_,_::_,.cons _ r=>by rw[Lf,Lf,QS r]
theorem nY{H:Hp}:∀{ps:U5}{row:List Mv}{i:Nat}{p:Y4},Ck H ps (row.map mm)->ps[i]?=some p->∃m,row[i]?=some m/\H p=some (mT (mm m))
 | p'::ps,m::ms,0,p,.cons a r,h=>by
  have:p'=p:=by simpa using h
  subst this;exact⟨m,O,a⟩
 | p'::ps,m::ms,i+1,p,.cons a r,h=>by
  obtain⟨d,b,c⟩:=nY (ps:=ps) (row:=ms) (i:=i) (p:=p) r (by simpa using h);exact⟨d,b,c⟩
section
variable {P:W3}{w:W6}{K:U0}{mg:U6}{base:Heap}{k:Nat}{h:Heap}
theorem Y6n(F:Ab K "moved_by" (top 66) .none)(X:K.In h)(G:Ng h mg)(cH:Ai P w K mg base k "turned_about" ["mark"] (Zy K))(dO:Ai P w K mg base k "moved_by_mix" ["mark","bit"] (vV K))(dJ:Ai P w K mg base k "moved_by_turn" ["mark","bit","k"] (xJ K))
  (dQ:Ai P w K mg base k "moved_by_if" ["mark","bit","other"] (Mq K)) (dI:Ai P w K mg base k "moved_by_pair" ["mark","bit","other"] (xH K)) (cM:Ai P w K mg base k "exchanged" ["word","bit","other"] Ik):Ai P w K mg base (k+1) "moved_by" ["mark","move"] (yW K):=by
 refine F.cal X G ["mark","move","bit","other"] λv H vs Q E m h=>?_;obtain⟨p,q,⟨k,f,s⟩,x,c,rfl,S,D,o,c6,ok,I,l⟩:=h;have SP:Ax K H q (.str (nm x)::(ns x).map V.int):=Ax.of D;obtain⟨g0,g1⟩:0<=hd x/\hd x<(c:Int):=by
  obtain⟨r,e⟩:=Y7a x;have B:hd x∈x.cells:=by rw[e];exact .head _
  exact⟨ok.1.nn _ B,ok.2 _ B⟩
 refine⟨_,(@Dv _ _ _ _ _ (@BR _ _ 2 _ _ _ _ v rfl (Or.inl rfl) (Af Ft Ac (Aw BL (pv 1) Ac (λ_ _=>rfl))) rfl (.inl rfl))
  (@Av _ _ _ _ _ (B_ (CP Df (Aw BL (pv 1) Ac (λ_ _=>rfl)) Fg (Ad _))
   (@Aj _ _ _ (BJ (Nu (Kr (Af Di (Aw BL (pv 0) Ac (λ_ _=>rfl)) (pv 2)) (by intro _;rfl)) (Ay cH m rfl (Aa (pv 0) Ae)) (pv 0))))
   CJ)
  (@Av _ _ _ _ _ (B_ (CP Df (Aw BL (pv 1) Ac (λ_ _=>rfl)) Fg (Ad _))
   (@Aj _ _ _ (BJ (Ay dO m rfl (Aa (pv 0) (Aa (pv 2) Ae)))))
   CJ)
  (@Av _ _ _ _ _ (B_ (CP Df (Aw BL (pv 1) Ac (λ_ _=>rfl)) Fg (Ad _))
   (@Aj _ _ _ (BJ (Ay dJ m rfl (Aa (pv 0) (Aa (pv 2) (Aa (Aw BL (pv 1) Ac (λ_ _=>rfl)) Ae))))))
   CJ)
  (@Dv _ _ _ _ _ (@BR _ _ 3 _ _ _ _ v rfl (Or.inl rfl) (Af Ft Ac (Aw BL (pv 1) Ac (λ_ _=>rfl))) rfl (.inl rfl))
  (@Av _ _ _ _ _ (B_ (CP Df (Aw BL (pv 1) Ac (λ_ _=>rfl)) Fg (Ad _))
   (@Aj _ _ _ (BJ (Ay dQ m rfl (Aa (pv 0) (Aa (pv 2) (Aa (pv 3) Ae))))))
   CJ)
  (@Av _ _ _ _ _ (B_ (CP Df (Aw BL (pv 1) Ac (λ_ _=>rfl)) Fg (Ad _))
   (@Aj _ _ _ (BJ (Ay dI m rfl (Aa (pv 0) (Aa (pv 2) (Aa (pv 3) Ae))))))
   CJ)
  (@Aj _ _ _ (BJ (@Ci _ _ _ _ _ (Aa (Aw BL (pv 0) Ac (λ_ _=>rfl)) (Aa (Ay cM m rfl (Aa (Aw BL (pv 0) Ac (λ_ _=>rfl)) (Aa (pv 2) (Aa (pv 3) Ae)))) (Aa (Ay cM m rfl (Aa (Aw BL (pv 0) Ac (λ_ _=>rfl)) (Aa (pv 2) (Aa (pv 3) Ae)))) Ae))))))))))))),?_⟩
 try dsimp only[CN]
 refine⟨λi H'=>H=H'/\i=[some (.ref p),some (.ref q),some (.int ((2^(hd x).toNat:Nat):Int)),none],?_,?_⟩
 ·exact⟨_,O,q,_,_,.int (hd x),O,O,SP,nJ x,_,_,O,O,⟨1,GJ,by lia,by lia⟩,O,by rw[<-X2i g0];rfl⟩
 rintro i _ ⟨rfl,rfl⟩;cases x with
 | flip a =>
  obtain⟨A,rfl⟩:∃A:Nat,a=(A:Int):=⟨a.toNat,(tn g0).symm⟩;rw[X3u]at l;refine⟨_,O,q,_,_,.str "flip",O,O,SP,at0,O,_,O,BP (λ_=>?_) (λz=>absurd rfl z)⟩;refine⟨_,O,p,_,_,.int s,O,O,S,k2,_,O,_,_,O,O,_,O,?_⟩;show (if (Builtin.bitAnd (s:Int) ((2^A:Nat):Int) != 0)=true then _ else _);rw[tb];refine Jz (λz=>?_) (λz=>?_)
  ·rw[if_pos z]at l;exact⟨_,O,p,(k,f,s),O,S,l⟩
  ·rw[if_neg (by rw[z];decide)]at l;exact⟨_,O,l p H (Same.refl _) S⟩
 | mix a =>
  obtain⟨A,rfl⟩:∃A:Nat,a=(A:Int):=⟨a.toNat,(tn g0).symm⟩;refine⟨_,O,q,_,_,.str "mix",O,O,SP,at0,O,_,O,BP (λz=>absurd (V.str.inj z) (by decide)) (λ_=>?_)⟩;refine⟨_,O,q,_,_,.str "mix",O,O,SP,at0,O,_,O,BP (λ_=>?_) (λz=>absurd rfl z)⟩;exact⟨_,O,_,O,p,(k,f,s),c,A,O,S,o,c6,by have:(A:Int)<c:=g1;lia,l⟩
 | turn a j =>
  have g:0<=a/\1<=j/\j<=7:=ok.1;obtain⟨A,rfl⟩:∃A:Nat,a=(A:Int):=⟨a.toNat,(tn g0).symm⟩;obtain⟨J,rfl⟩:∃J:Nat,j=(J:Int):=⟨j.toNat,(tn (by lia)).symm⟩;refine⟨_,O,q,_,_,.str "turn",O,O,SP,at0,O,_,O,BP (λz=>absurd (V.str.inj z) (by decide)) (λ_=>?_)⟩;refine⟨_,O,q,_,_,.str "turn",O,O,SP,at0,O,_,O,BP (λz=>absurd (V.str.inj z) (by decide)) (λ_=>?_)⟩;refine⟨_,O,q,_,_,.str "turn",O,O,SP,at0,O,_,O,BP (λ_=>?_) (λz=>absurd rfl z)⟩;exact⟨_,O,_,O,_,O,q,_,_,.int J,O,O,SP,k2,p,(k,f,s),A,J,O,S,l⟩
 | iff a b =>
  have g:0<=a/\0<=b/\a≠b:=ok.1;have hb:b<(c:Int):=ok.2 b (by simp[Mv.cells]);obtain⟨A,rfl⟩:∃A:Nat,a=(A:Int):=⟨a.toNat,(tn g0).symm⟩;obtain⟨J,rfl⟩:∃J:Nat,b=(J:Int):=⟨b.toNat,(tn g.2.1).symm⟩;refine⟨_,O,q,_,_,.str "if",O,O,SP,at0,O,_,O,BP (λz=>absurd (V.str.inj z) (by decide)) (λ_=>?_)⟩;refine⟨_,O,q,_,_,.str "if",O,O,SP,at0,O,_,O,BP (λz=>absurd (V.str.inj z) (by decide)) (λ_=>?_)⟩;refine⟨_,O,q,_,_,.str "if",O,O,SP,at0,O,_,O,BP (λz=>absurd (V.str.inj z) (by decide)) (λ_=>?_)⟩;refine⟨λi H'=>H=H'/\i=[some (.ref p),some (.ref q),some (.int ((2^A:Nat):Int)),some (.int ((2^J:Nat):Int))],?_,?_⟩
  ·exact⟨_,O,q,_,_,.int J,O,O,SP,k2,_,_,O,O,⟨1,GJ,by lia,by lia⟩,O,by rw[<-ipow J];rfl⟩
  rintro i _ ⟨rfl,rfl⟩;refine⟨_,O,q,_,_,.str "if",O,O,SP,at0,O,_,O,BP (λ_=>?_) (λz=>absurd rfl z)⟩;exact⟨_,O,_,O,_,O,p,(k,f,s),A,J,O,S,l⟩
 | pair a b =>
  have g:0<=a/\0<=b/\a≠b:=ok.1;have hb:b<(c:Int):=ok.2 b (by simp[Mv.cells]);obtain⟨A,rfl⟩:∃A:Nat,a=(A:Int):=⟨a.toNat,(tn g0).symm⟩;obtain⟨J,rfl⟩:∃J:Nat,b=(J:Int):=⟨b.toNat,(tn g.2.1).symm⟩;refine⟨_,O,q,_,_,.str "pair",O,O,SP,at0,O,_,O,BP (λz=>absurd (V.str.inj z) (by decide)) (λ_=>?_)⟩;refine⟨_,O,q,_,_,.str "pair",O,O,SP,at0,O,_,O,BP (λz=>absurd (V.str.inj z) (by decide)) (λ_=>?_)⟩;refine⟨_,O,q,_,_,.str "pair",O,O,SP,at0,O,_,O,BP (λz=>absurd (V.str.inj z) (by decide)) (λ_=>?_)⟩;refine⟨λi H'=>H=H'/\i=[some (.ref p),some (.ref q),some (.int ((2^A:Nat):Int)),some (.int ((2^J:Nat):Int))],?_,?_⟩
  ·exact⟨_,O,q,_,_,.int J,O,O,SP,k2,_,_,O,O,⟨1,GJ,by lia,by lia⟩,O,by rw[<-ipow J];rfl⟩
  rintro i _ ⟨rfl,rfl⟩;refine⟨_,O,q,_,_,.str "pair",O,O,SP,at0,O,_,O,BP (λz=>absurd (V.str.inj z) (by decide)) (λ_=>?_)⟩;refine⟨_,O,q,_,_,.str "pair",O,O,SP,at0,O,_,O,BP (λ_=>?_) (λz=>absurd rfl z)⟩;exact⟨_,O,_,O,_,O,p,(k,f,s),A,J,O,S,l⟩
 | swap a b =>
  have g:0<=a/\0<=b/\a≠b:=ok.1;have hb:b<(c:Int):=ok.2 b (by simp[Mv.cells]);obtain⟨A,rfl⟩:∃A:Nat,a=(A:Int):=⟨a.toNat,(tn g0).symm⟩;obtain⟨J,rfl⟩:∃J:Nat,b=(J:Int):=⟨b.toNat,(tn g.2.1).symm⟩;refine⟨_,O,q,_,_,.str "swap",O,O,SP,at0,O,_,O,BP (λz=>absurd (V.str.inj z) (by decide)) (λ_=>?_)⟩;refine⟨_,O,q,_,_,.str "swap",O,O,SP,at0,O,_,O,BP (λz=>absurd (V.str.inj z) (by decide)) (λ_=>?_)⟩;refine⟨_,O,q,_,_,.str "swap",O,O,SP,at0,O,_,O,BP (λz=>absurd (V.str.inj z) (by decide)) (λ_=>?_)⟩;refine⟨λi H'=>H=H'/\i=[some (.ref p),some (.ref q),some (.int ((2^A:Nat):Int)),some (.int ((2^J:Nat):Int))],?_,?_⟩
  ·exact⟨_,O,q,_,_,.int J,O,O,SP,k2,_,_,O,O,⟨1,GJ,by lia,by lia⟩,O,by rw[<-ipow J];rfl⟩
  rintro i _ ⟨rfl,rfl⟩;refine⟨_,O,q,_,_,.str "swap",O,O,SP,at0,O,_,O,BP (λz=>absurd (V.str.inj z) (by decide)) (λ_=>?_)⟩;refine⟨_,O,q,_,_,.str "swap",O,O,SP,at0,O,_,O,BP (λz=>absurd (V.str.inj z) (by decide)) (λ_=>?_)⟩;have u:A<c:=by have:(A:Int)<c:=g1;lia
  have t:J<c:=by lia
  have n:A≠J:=λz=>g.2.2 (by rw[z]);refine⟨_,O,p,_,_,.int k,O,O,S,k0,_,O,p,_,_,.int f,O,O,S,k1,_,O,_,O,f,A,J,O,λH1 y=>?_⟩;refine⟨_,O,p,_,_,.int s,O,O,y.tup S,k2,_,O,_,O,s,A,J,O,λH2 C=>⟨t3,λr m=>l r _ ((y.trans C).trans (Ao m _)) (Ax.of ?_)⟩⟩;rw[Al,(Vi c6 u t n o.f).1,(Vi c6 u t n o.s).1];rfl
 | cross a b d=>exact absurd I id
theorem Y6l(F:Ab K "moved_through" (top 65) .none)(X:K.In h)(G:Ng h mg)(eQ:Ai P w K mg base k "moved_by" ["mark","move"] (yW K)):Ai P w K mg base (k+1) "moved_through" ["mark","row"] (oK K):=by
 refine F.cal X G ["mark","row","behind","move"] λj H vs Q E M h=>?_;obtain⟨p,l,m,row,c,rfl,S,⟨ps,I,d⟩,o,c6,ok,N,t,J⟩:=h;have u:Ag K H l (ps.map V.ref):=Ag.of I;have L:ps.length=row.length:=by have:=QS d;rw[A_]at this;exact this
 refine⟨_,(@Av _ _ _ _ _ (@BR _ _ 2 _ _ _ _ j rfl (Or.inl rfl) (pv 0) rfl (.inl rfl))
  (@Av _ _ _ _ _ (Hy PassesOwn.never rfl (GC (pv 1)) (CV (i:=3) j rfl (Or.inl rfl))
   (@Aj _ _ _ (@BR _ _ 2 _ _ _ _ j rfl (Or.inl rfl) (Ay eQ M rfl (Aa (pv 2) (Aa (pv 3) Ae))) rfl (.inl rfl))))
  (@Aj _ _ _ (BJ (pv 2))))),?_⟩
 try dsimp only[CN]
 refine⟨_,O,_,O,l,O,⟨_,u⟩,Ly (K:=K) (a:=l) (xs:=ps.map V.ref) (λi σ H'=>Same H H'/\∃(b:Y4) (g:Option V),Ax K H' b (Ib (Ak (row.take i) m))/\σ=[some (.ref p),some (.ref l),some (.ref b),g])
  ⟨Same.refl _,p,none,by rw[List.take_zero];exact S,O⟩ (λi σ H' _ e=>e.1.seq u) ?_ ?_⟩
 ·rintro i x σ H1 n ⟨f,b,g,hb,rfl⟩;rw[Cz]at n;obtain⟨q,C,rfl⟩:=Fz.mp n;obtain⟨y,s,A⟩:=nY d C;have v:y∈row:=Ke s;refine⟨_,O,_,O,b,q,_,y,c,O,hb,f _ _ A,pJ (λz D=>ok z (List.mem_of_mem_take D)) o,c6,ok y v,N y v,λr H2 B h2=>⟨f.trans B,r,_,?_,O⟩⟩;rw[Js,s,Kz,Ou];exact h2
 ·rintro σ H1 ⟨f,b,g,hb,rfl⟩;rw[A_,L,Kc]at hb;exact⟨_,O,J b H1 f hb⟩
end
end Ah
namespace Ah
open L2 Ba Am Pc Dj
open Ar (top Bs)
open DY (fl sw Dg)
open C_ (Mk Bj Ak Br)
theorem X6n{x:Mv}(e:nm x="turn"):∃a j,x=.turn a j:=by
 have:=(X8x x).mp e;cases x<;>first | exact⟨_,_,O⟩ | simp[code]at this
section
variable {P:W3}{w:W6}{K:U0}{mg:U6}{base:Heap}{k:Nat}{h:Heap}
end
end Ah
namespace Ah
open L2 Ba Am Pc Dj
open Ar (top Bs Bu Bg CZ Z1 J4 JQ Fw Z_)
open DY (fl sw Dg V4 En sm Bp)
open C_ (Mk Bj Ak Br lay bn bp)
noncomputable abbrev layW (m:Mk)(f:Nat->A5)(w:Nat):A5:=D_ (f (w^^^m.2.1)) ((2*m.1+4*pc ((w^^^m.2.1)&&&m.2.2):Nat):Int)
theorem zE{c n:Nat}{m:Mk}{F:DY.Bv}{f:Nat->A5}(o:Jh c m)(h:∀w,w<2^c->Vl n (F w) (f w)):∀w,w<2^c->Vl n (lay m F w) (layW m f w):=by
 intro w d;have b:=h (w^^^m.2.1) (Lh d o.f);have q:=b.Dl ((((2*m.1+4*pc ((w^^^m.2.1)&&&m.2.2):Nat):Int)%8).toNat);have e:lay m F w=En ((((2*m.1+4*pc ((w^^^m.2.1)&&&m.2.2):Nat):Int)%8).toNat) (F (w^^^m.2.1)):=by
  unfold lay;refine C_.qP ?_ _;have hb:bn (bp ((w^^^m.2.1)&&&m.2.2))=pc ((w^^^m.2.1)&&&m.2.2)%2:=by
   unfold bp bn;rcases Jb (pc ((w^^^m.2.1)&&&m.2.2)) with a | a<;>rw[a]<;>rfl
  rw[hb];lia
 rw[e];exact q
theorem VJ{x y:Nat}:[V.int (Builtin.bitAnd (x:Int) (y:Int))]=[V.int ((x&&&y:Nat):Int)]:=by rw[Ig]
section
variable {P:W3}{w:W6}{K:U0}{mg:U6}{base:Heap}{k:Nat}{h:Heap}
theorem Il:BZ ["number","many","rest"] ["number"] (DG (top 24)):=fS
theorem pL(F:Ab K "ones" (top 24) .none)(X:K.In h)(G:Ng h mg):Ai P w K mg base (k+1) "ones" ["number"] Cy:=by
 refine F.cal X G _ (S:=Il) λa H vs Q E g h=>?_;obtain⟨n,rfl,q⟩:=h
 refine⟨_,(@Av _ _ _ _ _ (@BR _ _ 1 _ _ _ _ a rfl (Or.inl rfl) Ac rfl (.inl rfl))
  (@Av _ _ _ _ _ (@BR _ _ 2 _ _ _ _ a rfl (Or.inl rfl) (pv 0) rfl (.inl rfl))
  (@Av _ _ _ _ _ (Vc PassesOwn.never (CP Jc (pv 2) Ac (Ad _))
   (@Av _ _ _ _ _ (@BR _ _ 2 _ _ _ _ a rfl (Or.inl rfl) (Af Di (pv 2) (Af Gq (pv 2) Ac)) rfl (.inl rfl))
   (@Aj _ _ _ (@BR _ _ 1 _ _ _ _ a rfl (Or.inl rfl) (Af Dn (pv 1) Ac) rfl (.inl rfl)))))
  (@Aj _ _ _ (BJ (pv 1)))))),?_⟩
 try dsimp only[CN]
 refine⟨_,O,λm σ H'=>H'=H/\∃j r:Nat,m=pc r/\j+pc r=pc n/\σ=[some (.int n),some (.int j),some (.int r)],⟨_,O,0,n,O,OD _,O⟩,?_⟩;rintro m σ H' ⟨rfl,j,r,rfl,d,rfl⟩;refine⟨_,O,O,_,O,Kh (λb=>?_) (λb=>?_)⟩
 ·have c:r≠0:=by lia
  have e:=pP (r+1) r (by lia) c;refine⟨_,λf H' x=>x,?_⟩;refine⟨_,O,_,O,_,_,O,O,_,_,O,O,?_⟩;refine⟨_,O,_,_,O,O,⟨pc (r&&&(r-1)),by lia,O,j+1,r&&&(r-1),O,by lia,?_⟩⟩;have e2:Builtin.bitAnd (r:Int) ((r:Int)-1)=((r&&&(r-1):Nat):Int):=by rw[show (r:Int)-1=((r-1:Nat):Int) by lia,Ig]
  show [some (V.int n),some (V.int ((j:Int)+1)),some (V.int (Builtin.bitAnd (r:Int) ((r:Int)-1)))]=_;rw[e2];rfl
 ·have c:r=0:=by lia
  subst c;rw[J1,La]at d;subst d;exact⟨_,O,q⟩
end
end Ah
namespace Ah
open L2 Ba Am Pc Dj
open Ar (top Bs Bu Bg CZ Fw Z_ Steps Dh)
open DY (fl sw Dg V4 En sm Bp)
open C_ (Mk Bj Ak Br lay bn bp)
theorem pG{c:Nat}:∀{row:List Mv} (F:DY.Bv) (m:Mk),(∀x∈row,Dg c x)->(∀x∈row,Br x)->Bp row (lay m F)=lay (Ak row m) (Bp row F)
 | [],_,_,_,_=>rfl
 | x::r,F,m,o,b=>by
  show Bp r (DY.op x (lay m F))=lay (Ak r (Bj x m)) (Bp r (DY.op x F));rw[C_.X6o (o x (.head _)).1 (b x (.head _))];exact pG (row:=r) _ _ (λy a=>o y (.tail _ a)) (λy a=>b y (.tail _ a))
theorem vN{α:Type}{F:Addr->α->Prop}{a:Y4}{b:α}:∀{l:U5}{m:List α},Paired F l m->F a b->Paired F (l++[a]) (m++[b])
 | _,_,.nil,h=>.cons h .nil
 | _,_,.cons x r,h=>.cons x (vN r h)
theorem oZ{α:Type}{F G:Addr->α->Prop}(f:∀a b,F a b->G a b):∀{l:U5}{m:List α},Paired F l m->Paired G l m
 | _,_,.nil=>.nil
 | _,_,.cons x r=>.cons (f _ _ x) (oZ f r)
section
variable {P:W3}{w:W6}{K:U0}{mg:U6}{base:Heap}{k:Nat}{h:Heap}
end
end Ah
set_option maxHeartbeats 1000000
namespace C_
open Dj Dj.Mv DY Pc
noncomputable def ev (m:Mk):Nat:=(m.1+bn (bp (m.2.1&&&m.2.2)))%2
theorem Km(k f s:Nat):ev (k,f,s)=(k+bn (bp (f&&&s)))%2:=rfl
theorem W3k{x:Mv}(o:Ok x)(b:Br x)(m:Mk):ev (Bj x m)=ev m:=by
 obtain⟨k,f,s⟩:=m;cases x with
 | flip a =>
  show ev ((if s.testBit a.toNat then (k+2)%4 else k),f,s)=_;rw[Km,Km];split<;>lia
 | mix a =>
  show ev (if f.testBit a.toNat && s.testBit a.toNat then (k+2)%4 else k,if f.testBit a.toNat=s.testBit a.toNat then f else fl f a.toNat,if f.testBit a.toNat=s.testBit a.toNat then s else fl s a.toNat)=_;rw[Km,Km];cases hf:f.testBit a.toNat<;>cases hs:s.testBit a.toNat<;>simp[K4,Jf,hf,hs,RP]
  ·lia
 | turn a j =>
  have l:0<=a/\1<=j/\j<=7:=o;have i:j.toNat%2=0:=b;show ev (if f.testBit a.toNat then ((k+j.toNat / 2)%4,f,if j.toNat%4=2 then fl s a.toNat else s) else (k,f,s))=_;generalize hJ:j.toNat=J at i;have:J=2\/J=4\/J=6:=by lia
  cases hf:f.testBit a.toNat
  ·rfl
  ·rcases this with rfl | rfl | rfl
   ·simp[Km,Jf,hf];cases bp (f&&&s)<;>simp[bn]<;>lia
   ·simp[Km];lia
   ·simp[Km,Jf,hf];cases bp (f&&&s)<;>simp[bn]<;>lia
 | iff a c =>
  have h:0<=a/\0<=c/\a≠c:=o;have g:a.toNat≠c.toNat:=by lia
  show ev (k,if f.testBit a.toNat then fl f c.toNat else f,if s.testBit c.toNat then fl s a.toNat else s)=_;rw[Km,Km];generalize a.toNat=A at *;generalize c.toNat=C at *;cases hf:f.testBit A<;>cases hs:s.testBit C<;>simp[K4,Jf,hf,hs,Ks g,Ks (Ne.symm g)]
 | pair a c =>
  have h:0<=a/\0<=c/\a≠c:=o;have g:a.toNat≠c.toNat:=by lia
  show ev (if f.testBit a.toNat && f.testBit c.toNat then (k+2)%4 else k,f,(if f.testBit c.toNat then fl (if f.testBit a.toNat then fl s c.toNat else s) a.toNat else if f.testBit a.toNat then fl s c.toNat else s))=_;rw[Km,Km];generalize a.toNat=A at *;generalize c.toNat=C at *;cases hf:f.testBit A<;>cases hs:f.testBit C<;>simp[Jf,hf,hs]
  ·lia
 | swap a c =>
  have h:0<=a/\0<=c/\a≠c:=o;have g:a.toNat≠c.toNat:=by lia
  show ev (k,sw f a.toNat c.toNat,sw s a.toNat c.toNat)=_;rw[Km,Km];have e:(sw f a.toNat c.toNat&&&sw s a.toNat c.toNat)=sw (f&&&s) a.toNat c.toNat:=by
   apply aJ;intro j;rw[KY,Ih _ _ _ _ g,Ih _ _ _ _ g,Ih _ _ _ _ g,KY,KY,KY];split
   ·rfl
   ·split<;>rfl
  rw[e,W3w]
 | cross a c d=>exact absurd b id
theorem pF:∀{row:List Mv} (m:Mk),(∀x∈row,Ok x)->(∀x∈row,Br x)->ev (Ak row m)=ev m
 | [],_,_,_=>rfl
 | x::r,m,o,b=>(pF (row:=r) (Bj x m) (λy a=>o y (.tail _ a)) (λy a=>b y (.tail _ a))).trans (W3k (o x (.head _)) (b x (.head _)) m)
end C_
set_option maxHeartbeats 4000000
namespace Ah
open L2 Ba Am Pc Dj
open Ar (top Bs Bu Bg CZ Fw Z_ Steps Dh)
open DY (fl sw Dg V4 En sm Bp)
open C_ (Mk Bj Ak Br lay bn bp ev)
theorem M4{K:U0}{H:Hp}:∀{ps:U5}{f:Nat->A5},Bg K H ps f->Fi K H ps ((List.range ps.length).map λi=>l5 (f i))
 | [],f,_=>.nil
 | p::ps,f,v=>by
  have r:=M4 (ps:=ps) (f:=λi=>f (i+1)) λi q a=>v (i+1) q (by simpa using a);rw[Lf,List.range_succ_eq_map,Gh,KN];exact .cons (v 0 p rfl) r
theorem uW{c:Nat}{g g':Nat->A5}(h:∀w,w<2^c->g w=g' w):((List.range (2^c)).map λi=>l5 (g i))=(List.range (2^c)).map λi=>l5 (g' i):=
 Zc λi hi=>by rw[h i (El.mp hi)]
theorem JC{K:U0}{H:Hp}{l:Y4}{ps:U5}{f:Nat->A5}{c n m:Nat}(b:Bu K H l ps f c n m):Fi K H ps ((List.range (2^c)).map λi=>l5 (f i)):=by
 have:=M4 b.vals;rw[b.len]at this;exact this
theorem W6a(k f s:Nat):ev (k,f,s)=(k+pc (f&&&s))%2:=by
 rw[C_.Km];have hb:bn (bp (f&&&s))=pc (f&&&s)%2:=by
  unfold bp bn;rcases Jb (pc (f&&&s)) with a | a<;>rw[a]<;>rfl
 rw[hb];lia
section
variable {P:W3}{w:W6}{K:U0}{mg:U6}{base:Heap}{k:Nat}{h:Heap}
theorem X2z(F:Ab K "_law_whole" (top 88) .none)(X:K.In h)(G:Ng h mg)(B:Bs mg):Ai P w K mg base (k+1) "_law_whole" ["_law_found"] QM:=by
 refine F.cal X G ["_law_found"] λb H vs Q E a h=>?_;obtain⟨i,rfl,q⟩:=h;refine⟨_,(@Aj _ _ _ (BJ (QG (CG Ox rfl B.isinstance Gy (Aa (pv 0) (Aa (K6 (v:=.ty "int") rfl B.int Xf rfl) Ae))) (Kq (Yc (CG Ox rfl B.isinstance Gy (Aa (pv 0) (Aa (K6 (v:=.ty "bool") rfl B.bool boot_bool rfl) Ae)))))))),?_⟩;try dsimp only[CN]
 refine⟨_,O,_,_,_,true,O,DP.int i,qt K,_,O,Ds ?_⟩;exact⟨_,O,_,_,_,false,O,DP.int i,qp K,_,O,q⟩
theorem X3f(F:Ab K "_law_ones" (top 94) .none)(X:K.In h)(G:Ng h mg):Ai P w K mg base (k+1) "_law_ones" ["_law_number"] Cy:=by
 refine F.cal X G ["_law_number","_law_many"] λb H vs Q E g h=>?_;obtain⟨n,rfl,q⟩:=h
 refine⟨_,(@Av _ _ _ _ _ (@BR _ _ 1 _ _ _ _ b rfl (Or.inl rfl) Ac rfl (.inl rfl))
  (@Av _ _ _ _ _ (Vc PassesOwn.never (CP RT (pv 0) Ac (Ad _))
   (@Av _ _ _ _ _ (@BR _ _ 1 _ _ _ _ b rfl (Or.inl rfl) (Af Dn (pv 1) (Af Dp (pv 0) Ac)) rfl (.inl rfl))
   (@Aj _ _ _ (@BR _ _ 0 _ _ _ _ b rfl (Or.inl rfl) (Af Iw (pv 0) Ac) rfl (.inl rfl)))))
  (@Aj _ _ _ (BJ (pv 1))))),?_⟩
 try dsimp only[CN]
 refine⟨λm σ H'=>H'=H/\∃j:Nat,j+pc m=pc n/\σ=[some (.int m),some (.int j)],⟨n,O,0,OD _,O⟩,?_⟩;rintro m σ H' ⟨rfl,j,c,rfl⟩;refine⟨_,O,_,_,O,O,_,O,BP (λa=>?_) (λa=>?_)⟩
 ·have i:0<m:=by lia
  have e:=RJ m;refine⟨_,λf H' x=>x,?_⟩;refine⟨_,O,_,O,_,_,O,O,(by decide:(0:Int)<2),_,_,O,O,?_⟩;refine⟨_,O,_,_,O,O,⟨by decide,by decide⟩,⟨m / 2,by lia,O,j+m%2,by lia,O⟩⟩
 ·have d:m=0:=by lia
  subst d;rw[J1,La]at c;subst c;exact⟨_,O,q⟩
end
end Ah
namespace L2
section
variable {X:Cx}
theorem oU:Cm X (.builtin "isinstance") (λxs H Q=>∃a vs T b,xs=[.ref a,.ty T]/\Ax X.K H a vs/\PySem.W.kitOne X.K (.type "tuple") (.type T)=some b/\Q (.bl b) H):=by
 intro pins s σ H xs us Q I r h;obtain⟨a,vs,T,b,rfl,f,e,q⟩:=h;obtain⟨u,v,rfl,c,d⟩:=r.two;cases d;cases c;obtain⟨its,_,⟨o,h1,h2,_⟩,_⟩:=I.tuple f;exact KZ jH I.kIn ⟨o,h1,h2⟩ e (λz=>nomatch z) λtk=>⟨.bl b,H,I.tok tk,O,q⟩
end
end L2
namespace JW
open Dj Mv DY C_
noncomputable def bk:Mv->Mv
 | .turn a j=>.turn a (8-j)
 | x=>x
theorem R6{k:Nat}(h:k<4):((k+2)%4+2)%4=k:=by lia
theorem W2e{x:Mv}(o:Ok x)(b:Br x){m:Mk}(h:m.1<4):Bj (bk x) (Bj x m)=m:=by
 obtain⟨k,f,s⟩:=m;have h:k<4:=h;cases x with
 | flip a =>
  show (if s.testBit a.toNat then ((if s.testBit a.toNat then (k+2)%4 else k)+2)%4 else (if s.testBit a.toNat then (k+2)%4 else k),f,s)=_;by_cases c:s.testBit a.toNat=true
  ·simp only[c,KD];rw[R6 h]
  ·simp only[c,Kv];simp
 | mix a =>
  by_cases c:f.testBit a.toNat=true<;>by_cases d:s.testBit a.toNat=true<;>simp[bk,Bj,c,d,RP,DY.Lq,R6 h]
 | turn a j =>
  obtain⟨g,r,q⟩:0<=a/\1<=j/\j<=7:=o;have b:j.toNat%2=0:=b;have l:j=2\/j=4\/j=6:=by lia
  by_cases c:f.testBit a.toNat=true
  ·rcases l with rfl | rfl | rfl<;>simp[bk,Bj,c,DY.Lq]<;>lia
  ·simp[bk,Bj,c]
 | iff a b' =>
  obtain⟨g,i,n⟩:0<=a/\0<=b'/\a≠b':=o;have e:a.toNat≠b'.toNat:=by lia
  by_cases c:f.testBit a.toNat=true<;>by_cases d:s.testBit b'.toNat=true<;>simp[bk,Bj,c,d,Ks e,Ks e.symm,DY.Lq]
 | pair a b' =>
  obtain⟨g,i,n⟩:0<=a/\0<=b'/\a≠b':=o;have p:∀w,fl (fl w a.toNat) b'.toNat=fl (fl w b'.toNat) a.toNat:=λw=>by
   unfold fl;rw[GQ,Qp (2^a.toNat),<-GQ]
  by_cases c:f.testBit a.toNat=true<;>by_cases d:f.testBit b'.toNat=true<;>simp[bk,Bj,c,d,DY.Lq,p,R6 h]
 | swap a b' =>
  obtain⟨g,i,n⟩:0<=a/\0<=b'/\a≠b':=o;have e:a.toNat≠b'.toNat:=by lia
  simp[bk,Bj,qZ e]
 | cross a b' d=>exact b.elim
theorem Ou:∀(r t:List Mv) (m:Mk),Ak (r++t) m=Ak t (Ak r m)
 | [],_,_=>rfl
 | x::r,t,m=>Ou r t (Bj x m)
end JW
namespace Ah
open L2 Ba Am Pc Dj
open Ar (top Bs)
open DY (Dg)
open C_ (Mk Bj Ak Br)
open JW (bk)
section
variable {P:W3}{w:W6}{K:U0}{mg:U6}{base:Heap}{k:Nat}{h:Heap}
end
end Ah
namespace DR
open Dj Mv DY C_ JW
noncomputable def JB (m:Mk)(e:Nat):List Mv:=if m.2.1.testBit e then (if m.2.2.testBit e then [.turn (e:Int) 2,.mix (e:Int)] else [.mix (e:Int)]) else []
noncomputable def low:Nat->Nat->Nat
 | 0,_=>0
 | k+1,w=>if w%2=1 then 0 else low k (w / 2)+1
noncomputable def rg (j n:Nat):List Nat:=(List.range n).map (·+j)
noncomputable def Gj (m:Mk)(j c:Nat):List Mv:=(rg j (c-j)).flatMap (JB m)
noncomputable def G9 (n:Mk)(j:Nat):Nat:=j+low 6 (n.2.2 >>> j)
noncomputable def s2 (n:Mk)(j c:Nat):List Mv:=((List.range c).filter λe=>decide (e≠G9 n j) && n.2.2.testBit e).map λ(e:Nat)=>Mv.iff (e:Int) (G9 n j:Int)
noncomputable def s3 (n:Mk)(j:Nat):List Mv:=if G9 n j=j then [] else [.swap (j:Int) (G9 n j:Int)]
noncomputable def s4 (n:Mk)(j c:Nat):List Mv:=if (Ak (s2 n j c++s3 n j) n).1=0 then [] else [.flip (j:Int)]
noncomputable def Gg (n:Mk)(j c:Nat):List Mv:=s2 n j c++s3 n j++s4 n j c
noncomputable def Ey (m:Mk)(j c:Nat):List Mv:=Gj m j c++Gg (Ak (Gj m j c) m) j c
noncomputable def okb (j c:Nat):Mv->Bool
 | .flip a=>decide ((j:Int)<=a) && decide (a<(c:Int))
 | .mix a=>decide ((j:Int)<=a) && decide (a<(c:Int))
 | .turn a k=>decide ((j:Int)<=a) && decide (a<(c:Int)) && (decide (k=2) || decide (k=4) || decide (k=6))
 | .iff a b=>decide ((j:Int)<=a) && decide (a<(c:Int)) && decide ((j:Int)<=b) && decide (b<(c:Int)) && decide (a≠b)
 | .swap a b=>decide ((j:Int)<=a) && decide (a<(c:Int)) && decide ((j:Int)<=b) && decide (b<(c:Int)) && decide (a≠b)
 | _=>false
noncomputable def allM (n:Nat)(p:Nat->Nat->Bool):Bool:=(List.range 2).all λq=>(List.range n).all λw=>p q w
end DR
namespace Et
open Dj Mv DY C_ JW DR
noncomputable def cm (m n:Mk):Bool:=bp (m.2.1&&&n.2.2) ^^ bp (m.2.2&&&n.2.1)
variable{x:Mv}
theorem W3q(o:Ok x)(b:Br x)(m n:Mk):cm (Bj x m) (Bj x n)=cm m n:=by
 obtain⟨k,f,s⟩:=m;obtain⟨l,g,t⟩:=n;cases x with
 | flip a=>rfl
 | mix a =>
  show (bp ((if f.testBit a.toNat=s.testBit a.toNat then f else fl f a.toNat)&&&(if g.testBit a.toNat=t.testBit a.toNat then t else fl t a.toNat)) ^^ bp ((if f.testBit a.toNat=s.testBit a.toNat then s else fl s a.toNat)&&&(if g.testBit a.toNat=t.testBit a.toNat then g else fl g a.toNat)))=(bp (f&&&t) ^^ bp (s&&&g));cases hf:f.testBit a.toNat<;>cases hs:s.testBit a.toNat<;>cases hg:g.testBit a.toNat<;>cases ht:t.testBit a.toNat<;>simp[K4,Jf,RP,hf,hs,hg,ht]
 | turn a j =>
  show cm (if f.testBit a.toNat then _ else _) (if g.testBit a.toNat then _ else _)=_;cases hf:f.testBit a.toNat<;>cases hg:g.testBit a.toNat<;>by_cases hj:j.toNat%4=2<;>simp[cm,hj,K4,Jf,hf,hg]
 | iff a b' =>
  obtain⟨i,h,n⟩:0<=a/\0<=b'/\a≠b':=o;have c:a.toNat≠b'.toNat:=by lia
  show (bp ((if f.testBit a.toNat then fl f b'.toNat else f)&&&(if t.testBit b'.toNat then fl t a.toNat else t)) ^^ bp ((if s.testBit b'.toNat then fl s a.toNat else s)&&&(if g.testBit a.toNat then fl g b'.toNat else g)))=(bp (f&&&t) ^^ bp (s&&&g));cases hf:f.testBit a.toNat<;>cases hs:s.testBit b'.toNat<;>cases hg:g.testBit a.toNat<;>cases ht:t.testBit b'.toNat<;>simp[K4,Jf,Ks c,Ks c.symm,hf,hs,hg,ht]
 | pair a b' =>
  show (bp (f&&&(if g.testBit b'.toNat then fl (if g.testBit a.toNat then fl t b'.toNat else t) a.toNat else if g.testBit a.toNat then fl t b'.toNat else t)) ^^ bp ((if f.testBit b'.toNat then fl (if f.testBit a.toNat then fl s b'.toNat else s) a.toNat else if f.testBit a.toNat then fl s b'.toNat else s)&&&g))=(bp (f&&&t) ^^ bp (s&&&g));cases hf:f.testBit a.toNat<;>cases hs:f.testBit b'.toNat<;>cases hg:g.testBit a.toNat<;>cases ht:g.testBit b'.toNat<;>simp[K4,Jf,hf,hs,hg,ht]
 | swap a b' =>
  obtain⟨i,h,n⟩:0<=a/\0<=b'/\a≠b':=o;have c:a.toNat≠b'.toNat:=by lia
  show (bp (sw f a.toNat b'.toNat&&&sw t a.toNat b'.toNat) ^^ bp (sw s a.toNat b'.toNat&&&sw g a.toNat b'.toNat))=(bp (f&&&t) ^^ bp (s&&&g));have e:∀x y:Nat,bp (sw x a.toNat b'.toNat&&&sw y a.toNat b'.toNat)=bp (x&&&y):=λx y=>by
   unfold sw;cases hf:x.testBit a.toNat<;>cases hs:x.testBit b'.toNat<;>cases hg:y.testBit a.toNat<;>cases ht:y.testBit b'.toNat<;>simp[K4,Jf,Ks c,Ks c.symm,RP,hf,hs,hg,ht]
  rw[e,e]
 | cross a b' d=>exact b.elim
theorem pD:∀{row:List Mv} (m n:Mk),(∀x∈row,Ok x)->(∀x∈row,Br x)->cm (Ak row m) (Ak row n)=cm m n
 | [],_,_,_,_=>rfl
 | x::r,m,n,o,b=>(pD (row:=r) (Bj x m) (Bj x n) (λy a=>o y (.tail _ a)) (λy a=>b y (.tail _ a))).trans (W3q (o x (.head _)) (b x (.head _)) m n)
theorem Sq(m:Mk)(i:Nat):cm m (0,0,2^i)=m.2.1.testBit i:=by
 unfold cm;show (bp (m.2.1&&&2^i) ^^ bp (m.2.2&&&0))=_;rw[N_,bA,Nat.and_zero,cu,iM]
theorem nH(m:Mk)(i:Nat):cm m (0,2^i,0)=m.2.2.testBit i:=by
 unfold cm;show (bp (m.2.1&&&0) ^^ bp (m.2.2&&&2^i))=_;rw[N_ m.2.2,bA,Nat.and_zero,cu,Bool.false_xor]
theorem QD{j c:Nat}(h:okb j c x=true):Dg c x/\Br x/\∀a∈x.cells,(j:Int)<=a:=by
 cases x<;>simp only[okb,HX,Le,JG,Uo]at h
 ·exact⟨⟨by show (0:Int)<=_;lia,λy b=>by simp[Mv.cells]at b;lia⟩,trivial,λy b=>by simp[Mv.cells]at b;lia⟩
 ·exact⟨⟨by show (0:Int)<=_;lia,λy b=>by simp[Mv.cells]at b;lia⟩,trivial,λy b=>by simp[Mv.cells]at b;lia⟩
 ·rename_i a k;obtain⟨⟨h1,h2⟩,d⟩:=h;refine⟨⟨⟨by lia,by lia,by lia⟩,λy b=>by simp[Mv.cells]at b;lia⟩,?_,λy b=>by simp[Mv.cells]at b;lia⟩;show k.toNat%2=0;lia
 ·exact⟨⟨⟨by lia,by lia,by lia⟩,λy b=>by simp[Mv.cells]at b;lia⟩,trivial,λy b=>by simp[Mv.cells]at b;lia⟩
 ·exact⟨⟨⟨by lia,by lia,by lia⟩,λy b=>by simp[Mv.cells]at b;lia⟩,trivial,λy b=>by simp[Mv.cells]at b;lia⟩
theorem X8p{m:Mk}(h:∀a∈x.cells,m.2.1.testBit a.toNat=false/\m.2.2.testBit a.toNat=false):Bj x m=m:=by
 obtain⟨k,f,s⟩:=m;cases x with
 | flip a =>
  have:=h a (by simp[Mv.cells]);simp[Bj,this.2]
 | mix a =>
  have:=h a (by simp[Mv.cells]);simp[Bj,this.1,this.2]
 | turn a j =>
  have:=h a (by simp[Mv.cells]);simp[Bj,this.1]
 | iff a b =>
  have h1:=h a (by simp[Mv.cells]);have h2:=h b (by simp[Mv.cells]);simp[Bj,h1.1,h2.2]
 | pair a b =>
  have h1:=h a (by simp[Mv.cells]);have h2:=h b (by simp[Mv.cells]);simp[Bj,h1.1,h2.1]
 | swap a b =>
  have h1:=h a (by simp[Mv.cells]);have h2:=h b (by simp[Mv.cells]);simp[Bj,sw,h1.1,h1.2,h2.1,h2.2]
 | cross a b d=>rfl
theorem wV{j c i:Nat}(hi:i<j){m:Mk}(hm:m=(0,0,2^i)\/m=(0,2^i,0)):∀{row:List Mv},(∀x∈row,okb j c x=true)->Ak row m=m
 | [],_=>rfl
 | x::r,h=>by
  have ox:=QD (h x (.head _));have:Bj x m=m:=X8p λa e=>by
   have:=ox.2.2 a e;have b:i≠a.toNat:=by lia
   rcases hm with rfl | rfl
   ·exact⟨Kw _,by show (2^i).testBit _=_;rw[Nb];exact Cr b⟩
   ·exact⟨by show (2^i).testBit _=_;rw[Nb];exact Cr b,Kw _⟩
  show Ak r (Bj x m)=m;rw[this];exact wV hi hm λy d=>h y (.tail _ d)
noncomputable def bwd (row:List Mv):List Mv:=row.reverse.map bk
theorem Z4:∀{row:List Mv}{m:Mk},(∀x∈row,Ok x)->(∀x∈row,Br x)->m.1<4->(∀x (n:Mk),x∈row->n.1<4->(Bj x n).1<4)->Ak (bwd row) (Ak row m)=m
 | [],_,_,_,_,_=>rfl
 | x::r,m,o,b,h,k=>by
  show Ak ((x::r).reverse.map bk) (Ak r (Bj x m))=m;rw[List.reverse_cons,Cg,Ou];rw[show Ak (r.reverse.map bk) (Ak r (Bj x m))=Bj x m from Z4 (λy a=>o y (.tail _ a)) (λy a=>b y (.tail _ a)) (k x m (.head _) h) λy n a=>k y n (.tail _ a)];exact W2e (o x (.head _)) (b x (.head _)) h
end Et
namespace MF
open Dj Mv DY C_ JW DR Et
structure Gf (c:Nat) (m:Mk):Prop where
 k:m.1<4
 f:m.2.1<2^c
 s:m.2.2<2^c
theorem X9s{n:Nat}{p:Nat->Nat->Bool}(h:allM n p=true){q w:Nat}(hq:q<2)(hw:w<n):p q w=true:=by
 unfold allM at h;rw[Gz]at h;have h1:=h q (El.mpr hq);rw[Gz]at h1;exact h1 w (El.mpr hw)
def Sm (i:Nat)(m n:Mk):Prop:=m.2.1.testBit i=n.2.1.testBit i/\m.2.2.testBit i=n.2.2.testBit i
variable{e:Nat}
theorem W2g{m n:Mk}(h:Sm e n m):(Ak (JB m e) n).2.1.testBit e=false/\(Ak (JB m e) n).2.2.testBit e=(m.2.1.testBit e || m.2.2.testBit e)/\∀i,i≠e->Sm i (Ak (JB m e) n) n:=by
 obtain⟨k,f,s⟩:=n;obtain⟨h1,h2⟩:f.testBit e=m.2.1.testBit e/\s.testBit e=m.2.2.testBit e:=h;unfold JB;cases hf:m.2.1.testBit e<;>cases hs:m.2.2.testBit e<;>rw[hf]at h1<;>rw[hs]at h2
 ·exact⟨h1,by show s.testBit e=_;rw[h2];rfl,λi hi=>⟨O,O⟩⟩
 ·exact⟨h1,by show s.testBit e=_;rw[h2];rfl,λi hi=>⟨O,O⟩⟩
 ·simp[Ak,Bj,h1,h2,RP,Sm];intro i hi;rw[Ks hi,Ks hi];exact⟨O,O⟩
 ·simp[Ak,Bj,h1,h2,RP,Sm,DY.Lq];intro i hi;rw[Ks hi]
theorem pH{m:Mk}:∀{es:W8}{n:Mk},es.Nodup->(∀e∈es,Sm e n m)->(∀e∈es,(Ak (es.flatMap (JB m)) n).2.1.testBit e=false/\(Ak (es.flatMap (JB m)) n).2.2.testBit e=(m.2.1.testBit e || m.2.2.testBit e))/\∀i,i∉es->Sm i (Ak (es.flatMap (JB m)) n) n
 | [],n,_,_=>⟨(λe a=>by cases a),λi _=>⟨rfl,rfl⟩⟩
 | x::es,n,b,h=>by
  obtain⟨nx,b⟩:=Qu.mp b;obtain⟨g,j,c⟩:=W2g (h x (.head _));have d:=pH (m:=m) (es:=es) (n:=Ak (JB m x) n) b λe a=>by
   have f:e≠x:=λz=>nx (z ▸ a);exact⟨(c e f).1.trans (h e (.tail _ a)).1,(c e f).2.trans (h e (.tail _ a)).2⟩
  rw[jA,Ou];refine⟨λe a=>?_,λi hi=>?_⟩
  ·rcases Dw.mp a with rfl | a
   ·have:=d.2 e nx;exact⟨this.1.trans g,this.2.trans j⟩
   ·exact d.1 e a
  ·have h1:=d.2 i λz=>hi (.tail _ z);have h2:=c i λz=>hi (z ▸ .head _);exact⟨h1.1.trans h2.1,h1.2.trans h2.2⟩
variable{j:Nat}
theorem Im{n:Nat}:e∈rg j n↔j<=e/\e<j+n:=by
 unfold rg;rw[GP];constructor
 ·rintro ⟨a,b,rfl⟩;have:=El.mp b;lia
 ·rintro ⟨h1,h2⟩;exact⟨e-j,El.mpr (by lia),by lia⟩
theorem W1g(j n:Nat):(rg j n).Nodup:=by
 unfold rg;exact List.Pairwise.map _ (λa b h=>by lia) List.nodup_range
theorem qj{f:Nat->List Mv}{k:Nat}(h:∀e,(f e).length<=k):∀es:List Nat,(es.flatMap f).length<=k*es.length
 | []=>Fy _
 | x::es=>by
  have:=qj h es;have:=h x;rw[jA,Ed,Lf,Nat.mul_add];lia
theorem W5y{f:Nat->List Mv}{c:Nat}{es:W8}(h:∀e,j<=e->e<c->∀x∈f e,okb j c x=true)(he:∀e∈es,j<=e/\e<c):∀x∈es.flatMap f,okb j c x=true:=λx a=>by
 obtain⟨e,h1,h2⟩:=List.mem_flatMap.mp a;exact h e (he e h1).1 (he e h1).2 x h2
theorem W2f{m:Mk}{c:Nat}(h1:j<=e)(h2:e<c):∀x∈JB m e,okb j c x=true:=λx d=>by
 unfold JB at d;have a:decide ((j:Int)<=(e:Int))=true:=Ec (by lia);have b:decide ((e:Int)<(c:Int))=true:=Ec (by lia);split at d
 ·split at d
  ·rcases Dw.mp d with rfl | d
   ·simp[okb,a,b];lia
   ·rw[Fj.mp d];simp[okb];lia
  ·rw[Fj.mp d];simp[okb];lia
 ·cases d
theorem pI(m:Mk)(e:Nat):(JB m e).length<=2:=by
 unfold JB;split
 ·split<;>simp
 ·exact Fy _
theorem pA{c:Nat}(hb:∀(x:Mv) (m:Mk),Dg c x->Gf c m->Gf c (Bj x m)):∀{row:List Mv}{m:Mk},(∀x∈row,Dg c x)->Gf c m->Gf c (Ak row m)
 | [],_,_,h=>h
 | x::r,m,o,h=>pA hb (row:=r) (λy a=>o y (.tail _ a)) (hb x m (o x (.head _)) h)
section
variable {c j:Nat}{m:Mk} (c6:c<=6) (jc:j<c) (hb:∀(x:Mv) (m:Mk),Dg c x->Gf c m->Gf c (Bj x m)) (b:Gf c m) (e:ev m=0) (z:∀i,i<j->m.2.1.testBit i=false/\m.2.2.testBit i=false)
include c6 jc hb b e z
end
end MF
namespace Ah
open L2 Ba Am Pc Dj
open Ar (top Bs)
open DY (Dg)
open C_ (Mk Bj Ak Br bn bp ev)
open JW (bk)
open Et (cm)
theorem X4t:((List.range 7).all λc=>(List.range (2^c)).all λx=>decide (Builtin.Int.intBits ((x:Nat):Int)<=c))=true:=by decide +kernel
theorem X9m{c x:Nat}(h:c<=6)(hx:x<2^c):Builtin.Int.intBits ((x:Nat):Int)<=c:=by
 have a:=Gz.mp X4t c (El.mpr (by lia));exact Kd (Gz.mp a x (El.mpr hx))
def MP:Sp:=λvs H Q _=>∃x c:Nat,vs=[.int x,.int c]/\c<=6/\x<2^c/\Q (.bl true) H
def Qk (K:U0):Sp:=λvs H Q _=>∃(p:Y4) (m:Mk) (c:Nat),vs=[.ref p,.int c]/\Ax K H p (Ib m)/\Jh c m/\c<=6/\Q (.bl true) H
def Qo (K:U0):Sp:=λvs H Q _=>∃(p:Y4) (m:Mk),vs=[.ref p]/\Ax K H p (Ib m)/\Q (.bl (decide (ev m=0))) H
def Ml (K:U0):Sp:=λvs H Q _=>∃(p:Y4) (m:Mk) (c:Nat),vs=[.ref p,.int c]/\Ax K H p (Ib m)/\Jh c m/\c<=6/\Q (.bl (decide (ev m=0))) H
noncomputable def jd (f s:Bool):Str:=if f then (if s then "b" else "f") else (if s then "s" else ".")
def Qi (K:U0):Sp:=λvs H Q _=>∃(p:Y4) (m:Mk) (i:Nat),vs=[.ref p,.int i]/\Ax K H p (Ib m)/\Q (.str (jd (m.2.1.testBit i) (m.2.2.testBit i))) H
def Ql:Sp:=λvs H Q _=>∃w:Nat,vs=[.int w]/\w<64/\w≠0/\Q (.int (DR.low 6 w)) H
def WX:Sp:=λvs H Q _=>∃(p:Y4) (x:Mv),vs=[.ref p]/\H p=some (mT (mm x))/\∀(t:Y4) (H':Hp),Same H H'->H' t=some (mT (mm (bk x)))->Q (.ref t) H'
def KC:Sp:=λvs H Q _=>∃(l:Y4) (row:List Mv),vs=[.ref l]/\Ce H l row/\row.length<=300/\∀(r:Y4) (H':Hp),H r=none->Same H H'->Ce H' r (Et.bwd row)->Q (.ref r) H'
def Qj:Sp:=λvs H Q _=>∃(f s:Bool) (e:Nat) (m:Mk),vs=[.str (jd f s),.int e]/\m.2.1.testBit e=f/\m.2.2.testBit e=s/\∀(r:Y4) (H':Hp),H r=none->Same H H'->Ce H' r (DR.JB m e)->Q (.ref r) H'
theorem X8s:((List.range 64).all λw=>decide (w=0) || decide (Builtin.Int.intBits (Builtin.bitAnd (w:Int) (-(w:Int)))=DR.low 6 w+1))=true:=by decide +kernel
theorem W2k{w:Nat}(h:w<64)(h0:w≠0):Builtin.Int.intBits (Builtin.bitAnd (w:Int) (-(w:Int)))=DR.low 6 w+1:=by
 have a:=Gz.mp X8s w (El.mpr h);rw[Cr h0,Qs]at a;exact Kd a
section
variable {P:W3}{w:W6}{K:U0}{mg:U6}{base:Heap}{k:Nat}{h:Heap}
theorem Y9l(F:Ab K "is_word" (top 25) .none)(X:K.In h)(G:Ng h mg)(cG:Ai P w K mg base k "is_whole" ["thing"] QM):Ai P w K mg base (k+1) "is_word" ["thing","cells"] MP:=by
 refine F.cal X G ["thing","cells"] λc H vs Q E a h=>?_;obtain⟨x,N,rfl,c6,lt,q⟩:=h
 refine⟨_,(@Av _ _ _ _ _ (B_ (Fo (PW.pt (Oj (Dd (Ay cG a rfl (Aa (pv 0) Ae))) (RM (Dd (Ay cG a rfl (Aa (pv 1) Ae)))))))
   (@Aj _ _ _ (BJ Cw))
   CJ)
  (@Aj _ _ _ (BJ (QG (Fv YQ (pv 0) Ac (Ad _)) (Kq (Fv fH (QH Ph Od Pk QW (pv 0)) (pv 1) (Ad _))))))),?_⟩
 try dsimp only[CN]
 refine⟨_,O,_,O,_,O,Ds ⟨_,O,_,O,_,O,Bd ?_⟩⟩;refine⟨_,O,_,_,O,O,_,O,BP (λ_=>?_) (λz=>absurd (show (x:Int)>=0 by lia) z)⟩;refine⟨_,O,O,_,O,O,_,O,_,_,O,O,?_⟩;have b:=X9m c6 lt;show Q (.bl (decide (((Builtin.Int.intBits ((x:Nat):Int):Nat):Int)<=(N:Int)))) H;rw[Ec (by lia)];exact q
theorem X7x(F:Ab K "is_mark" (top 26) .none)(X:K.In h)(G:Ng h mg)(B:Bs mg)(cG:Ai P w K mg base k "is_whole" ["thing"] QM)(dP:Ai P w K mg base k "is_word" ["thing","cells"] MP):Ai P w K mg base (k+1) "is_mark" ["thing","cells"] (Qk K):=by
 refine F.cal X G ["thing","cells"] λd H vs Q b a h=>?_;obtain⟨p,m,N,rfl,SP,ok,c6,q⟩:=h;have c:=ok.k
 refine⟨_,(@Av _ _ _ _ _ (B_ (PW.pt (HJ (Fo (Dd (CG oU rfl B.isinstance Gy (Aa (pv 0) (Aa (K6 (v:=.ty "tuple") rfl B.tuple boot_tuple rfl) Ae))))) (Je (CP Jc (CG Eh rfl B.len EY (Aa (pv 0) Ae)) Ac (Ad _)))))
   (@Aj _ _ _ (BJ Cw))
   CJ)
  (@Av _ _ _ _ _ (B_ (PW.pt (HJ (Fo (Dd (Ay cG a rfl (Aa (Aw BL (pv 0) Ac (λ_ _=>rfl)) Ae)))) (HJ (CP Og (Aw BL (pv 0) Ac (λ_ _=>rfl)) Ac (Ad _)) (Je (CP RT (Aw BL (pv 0) Ac (λ_ _=>rfl)) Ac (Ad _))))))
   (@Aj _ _ _ (BJ Cw))
   CJ)
  (@Aj _ _ _ (BJ (QG (Ay dP a rfl (Aa (Aw BL (pv 0) Ac (λ_ _=>rfl)) (Aa (pv 1) Ae))) (Kq (Ay dP a rfl (Aa (Aw BL (pv 0) Ac (λ_ _=>rfl)) (Aa (pv 1) Ae))))))))),?_⟩
 try dsimp only[CN]
 refine⟨_,O,p,_,_,true,O,SP,qy K,_,O,Bd ⟨_,O,p,_,O,.inr SP,O,_,O,Kh (λz=>absurd rfl z) (λ_=>?_)⟩⟩;refine⟨_,O,p,_,_,_,O,O,SP,k0,_,O,_,O,Bd ⟨_,O,p,_,_,_,O,O,SP,k0,_,_,O,O,_,O,BP (λz=>absurd z (by lia)) (λ_=>⟨_,O,p,_,_,_,O,O,SP,k0,_,_,O,O,_,O,BP (λz=>absurd z (by lia)) (λ_=>?_)⟩)⟩⟩;exact⟨_,O,p,_,_,_,O,O,SP,k1,_,O,m.2.1,N,O,c6,ok.f,_,O,Ds ⟨_,O,p,_,_,_,O,O,SP,k2,_,O,m.2.2,N,O,c6,ok.s,q⟩⟩
theorem X7y(F:Ab K "is_even" (top 27) .none)(X:K.In h)(G:Ng h mg)(cP:Ai P w K mg base k "ones" ["number"] Cy):Ai P w K mg base (k+1) "is_even" ["mark"] (Qo K):=by
 refine F.cal X G ["mark"] λc H vs Q b a h=>?_;obtain⟨p,m,rfl,SP,q⟩:=h;refine⟨_,(@Aj _ _ _ (BJ (Fv Df (Af Dp (Af Dn (Aw BL (pv 0) Ac (λ_ _=>rfl)) (Ay cP a rfl (Aa (Af Di (Aw BL (pv 0) Ac (λ_ _=>rfl)) (Aw BL (pv 0) Ac (λ_ _=>rfl))) Ae))) Ac) Ac (Ad _)))),?_⟩;try dsimp only[CN]
 refine⟨_,O,p,_,_,_,O,O,SP,k0,_,O,p,_,_,_,O,O,SP,k1,_,O,p,_,_,_,O,O,SP,k2,_,_,O,O,m.2.1&&&m.2.2,VJ,_,_,O,O,_,_,O,O,(by decide:(0:Int)<2),O,?_⟩;show Q (.bl (decide (V.int (((m.1:Int)+((pc (m.2.1&&&m.2.2):Nat):Int))%2)=V.int 0))) H;have e:decide (V.int (((m.1:Int)+((pc (m.2.1&&&m.2.2):Nat):Int))%2)=V.int 0)=decide (ev m=0):=by
  rw[iz];have:=W6a m.1 m.2.1 m.2.2;have this:ev m=(m.1+pc (m.2.1&&&m.2.2))%2:=this;rw[this];constructor
  ·intro z;have:=V.int.inj z;lia
  ·intro z;congr 1;lia
 rw[e];exact q
theorem X3j(F:Ab K "is_even_mark" (top 28) .none)(X:K.In h)(G:Ng h mg)(eW:Ai P w K mg base k "is_mark" ["thing","cells"] (Qk K))(eV:Ai P w K mg base k "is_even" ["mark"] (Qo K)):Ai P w K mg base (k+1) "is_even_mark" ["thing","cells"] (Ml K):=by
 refine F.cal X G ["thing","cells"] λc H vs Q b a h=>?_;obtain⟨p,m,N,rfl,SP,ok,c6,q⟩:=h;refine⟨_,(@Aj _ _ _ (BJ (QG (Ay eW a rfl (Aa (pv 0) (Aa (pv 1) Ae))) (Kq (Ay eV a rfl (Aa (pv 0) Ae)))))),?_⟩;try dsimp only[CN]
 exact⟨_,O,_,O,p,m,N,O,SP,ok,c6,_,O,Ds ⟨_,O,p,m,O,SP,q⟩⟩
theorem X3h(F:Ab K "least_cell" (top 47) .none)(X:K.In h)(G:Ng h mg):Ai P w K mg base (k+1) "least_cell" ["word"] Ql:=by
 refine F.cal X G ["word"] λd H vs Q b c h=>?_;obtain⟨x,rfl,a,x0,q⟩:=h;have e:=W2k a x0;refine⟨_,(@Aj _ _ _ (BJ (Af Gq (QH Ph Od Pk QW (Af Di (pv 0) (Vm bw (pv 0)))) Ac))),?_⟩;try dsimp only[CN]
 refine⟨_,O,_,O,_,O,_,_,O,O,O,_,O,O,_,_,O,O,?_⟩;show Q (.int (((Builtin.Int.intBits (Builtin.bitAnd (x:Int) (-(x:Int))):Nat):Int)-1)) H;rw[e,show (((DR.low 6 x+1:Nat):Int)-1)=(DR.low 6 x:Int) by lia];exact q
theorem W2a(F:Ab K "back_move" (top 63) .none)(X:K.In h)(G:Ng h mg):Ai P w K mg base (k+1) "back_move" ["move"] WX:=by
 refine F.cal X G ["move"] λc H vs Q E d h=>?_;obtain⟨p,x,rfl,hp,q⟩:=h;have SP:Ax K H p (.str (nm x)::(ns x).map V.int):=Ax.of hp
 refine⟨_,(@Av _ _ _ _ _ (B_ (CP Df (Aw BL (pv 0) Ac (λ_ _=>rfl)) Fg (Ad _))
   (@Aj _ _ _ (BJ (@Ci _ _ _ _ _ (Aa Fg (Aa (Aw BL (pv 0) Ac (λ_ _=>rfl)) (Aa (Af Gq Ac (Aw BL (pv 0) Ac (λ_ _=>rfl))) Ae))))))
   CJ)
  (@Aj _ _ _ (BJ (pv 0)))),?_⟩
 try dsimp only[CN]
 refine⟨_,O,p,_,_,.str (nm x),O,O,SP,nM x,O,?_⟩;by_cases e:nm x="turn"
 ·obtain⟨a,j,rfl⟩:=X6n e;exact⟨_,O,BP (λ_=>⟨_,O,p,_,_,.int a,O,O,SP,k1,_,O,p,_,_,.int j,O,O,SP,k2,_,_,O,O,t3,λt b=>q t _ (Ao b _) Al⟩) (λz=>absurd rfl z)⟩
 ·refine⟨_,O,BP (λz=>absurd (V.str.inj z) e) (λ_=>?_)⟩;refine⟨_,O,q p H (Same.refl _) ?_⟩;have:bk x=x:=by cases x<;>first | rfl | exact absurd rfl e
  rw[this];exact hp
end
end Ah
namespace Ah
open L2 Ba Am Pc Dj
open Ar (top Bs)
open DY (Dg)
open C_ (Mk Bj Ak Br bn bp ev)
open JW (bk)
theorem Xo(x i:Nat):Builtin.bitAnd ((x:Int) / 2^(i:Int).toNat) 1=if x.testBit i then 1 else 0:=by
 have e:(x:Int) / 2^(i:Int).toNat=((x / 2^i:Nat):Int):=by rw[Dm];simp
 rw[e];have:=Ig (x / 2^i) 1;rw[jE]at this;have this:Builtin.bitAnd ((x / 2^i:Nat):Int) 1=((x / 2^i%2:Nat):Int):=this;rw[this,Uu];have:x / 2^i%2=0\/x / 2^i%2=1:=by lia
 rcases this with a | a<;>rw[a]<;>rfl
theorem W6i(f s:Bool):∃c:Nat,HF (Str.ofString ".fsb").cps.toList ((if f then 1 else 0)+2*(if s then 1 else 0))=some c/\jd f s=⟨#[c]⟩:=by
 cases f<;>cases s
 ·exact⟨46,by decide +kernel,by decide +kernel⟩
 ·exact⟨115,by decide +kernel,by decide +kernel⟩
 ·exact⟨102,by decide +kernel,by decide +kernel⟩
 ·exact⟨98,by decide +kernel,by decide +kernel⟩
theorem je:(Str.ofString ".fsb").length=4:=by decide +kernel
section
variable {P:W3}{w:W6}{K:U0}{mg:U6}{base:Heap}{k:Nat}{h:Heap}
theorem W4q{tC:Tok}(gC:mg "CELL_SIGNS"=some (.str (Str.ofString ".fsb") tC))(F:Ab K "cell_sign" (top 32) .none)(X:K.In h)(G:Ng h mg):Ai P w K mg base (k+1) "cell_sign" ["mark","cell"] (Qi K):=by
 refine F.cal X G ["mark","cell","flip","sign"] λb H vs Q E d h=>?_;obtain⟨p,m,i,rfl,M,q⟩:=h;obtain⟨c,a,e⟩:=W6i (m.2.1.testBit i) (m.2.2.testBit i);rw[<-Xo,<-Xo]at a;rw[e]at q
 refine⟨_,(@Av _ _ _ _ _ (@BR _ _ 2 _ _ _ _ b rfl (Or.inl rfl) (Af Di (Af Jd (Aw BL (pv 0) Ac (λ_ _=>rfl)) (pv 1)) Ac) rfl (.inl rfl))
  (@Av _ _ _ _ _ (@BR _ _ 3 _ _ _ _ b rfl (Or.inl rfl) (Af Di (Af Jd (Aw BL (pv 0) Ac (λ_ _=>rfl)) (pv 1)) Ac) rfl (.inl rfl))
  (@Aj _ _ _ (BJ (Aw W3g (QL (v:=.str (Str.ofString ".fsb")) rfl gC ⟨_,O⟩) (Af Dn (pv 2) (Af J0 Ac (pv 3))) (λ_ _=>rfl)))))),?_⟩
 try dsimp only[CN]
 refine⟨_,O,p,_,_,_,O,O,M,k1,_,O,_,_,O,O,(by show (0:Int)<=(i:Int);lia),_,_,O,O,?_⟩;refine⟨_,O,p,_,_,_,O,O,M,k2,_,O,_,_,O,O,(by show (0:Int)<=(i:Int);lia),_,_,O,O,?_⟩;exact⟨_,O,_,O,_,_,O,O,.inl ⟨by decide,by decide⟩,_,_,O,O,_,_,_,O,O,(by rw[je];decide),a,q⟩
theorem W1u(F:Ab K "moves_to_sign" (top 77) .none)(X:K.In h)(G:Ng h mg):Ai P w K mg base (k+1) "moves_to_sign" ["letter","cell"] Qj:=by
 refine F.cal X G ["letter","cell"] λi H vs Q E j h=>?_;obtain⟨f,s,e,m,rfl,hf,g,q⟩:=h;unfold DR.JB at q;rw[hf,g]at q
 refine⟨_,(@Av _ _ _ _ _ (B_ (CP Df (pv 0) Fg (Ad _))
   (@Aj _ _ _ (BJ (@Ga _ _ _ _ (Aa (@Ci _ _ _ _ _ (Aa Fg (Aa (pv 1) (Aa Ac Ae)))) (Aa (@Ci _ _ _ _ _ (Aa Fg (Aa (pv 1) Ae))) Ae)))))
   CJ)
  (@Aj _ _ _ (BJ (Nu (CP Df (pv 0) Fg (Ad _)) (@Ga _ _ _ _ (Aa (@Ci _ _ _ _ _ (Aa Fg (Aa (pv 1) Ae))) Ae)) (@Ga _ _ _ _ Ae))))),?_⟩
 try dsimp only[CN]
 have nil:∀(l:Y4),H l=none->Ce (upd H l (.lst [])) l []:=λl a=>⟨[],Al,.nil⟩;cases f<;>cases s
 ·refine⟨_,O,O,_,O,BP (λz=>absurd (V.str.inj z) (by decide)) (λ_=>?_)⟩;exact⟨_,O,O,_,O,BP (λz=>absurd (V.str.inj z) (by decide)) (λ_=>⟨Fy _,λl a=>q l _ a (Ao a _) (nil l a)⟩)⟩
 ·refine⟨_,O,O,_,O,BP (λz=>absurd (V.str.inj z) (by decide)) (λ_=>?_)⟩;exact⟨_,O,O,_,O,BP (λz=>absurd (V.str.inj z) (by decide)) (λ_=>⟨Fy _,λl a=>q l _ a (Ao a _) (nil l a)⟩)⟩
 ·refine⟨_,O,O,_,O,BP (λz=>absurd (V.str.inj z) (by decide)) (λ_=>?_)⟩;refine⟨_,O,O,_,O,BP (λ_=>?_) (λz=>absurd rfl z)⟩;refine⟨_,O,t2,λt c=>⟨(show 1<=sizeLine by decide),λl a=>?_⟩⟩;have b:H l=none:=J2 (Ao c _) a;exact q l _ b ((Ao c _).trans (Ao a _)) ⟨[t],Al,.cons (Ao a _ _ _ Al) .nil⟩
 ·refine⟨_,O,O,_,O,BP (λ_=>?_) (λz=>absurd rfl z)⟩;refine⟨_,O,t3,λt c=>⟨_,O,t2,λu d=>⟨t2,λl a=>?_⟩⟩⟩;have b:H l=none:=J2 ((Ao c _).trans (Ao d _)) a;exact q l _ b (((Ao c _).trans (Ao d _)).trans (Ao a _)) ⟨[t,u],Al,.cons (((Ao d _).trans (Ao a _)) _ _ Al) (.cons (Ao a _ _ _ Al) .nil)⟩
theorem W1z(F:Ab K "backward" (top 73) .none)(X:K.In h)(G:Ng h mg)(B:Bs mg)(eG:Ai P w K mg base k "back_move" ["move"] WX):Ai P w K mg base (k+1) "backward" ["row"] KC:=by
 refine F.cal X G ["row"] λR H vs Q E L h=>?_;obtain⟨l,row,rfl,⟨ps,D,g⟩,f,I⟩:=h;have c:ps.length=row.length:=by have:=QS g;rw[A_]at this;exact this
 have y:Ag K H l (ps.map V.ref):=Ag.of D;refine⟨_,(@Aj _ _ _ (BJ (HY rfl (Bl.of (Nc:=["move"]) (mp:=[none]) (by kernel_rfl)) (W1k rfl B.reversed (Aa (pv 0) Ae)) (λ_ _ _ _=>(CV (i:=0) (show (["move"]:W5).Nodup by decide +kernel) rfl (Or.inl rfl))) (λ_ _ _ _=>(Ay eG L rfl (Aa (pv 0) Ae)))))),?_⟩;try dsimp only[CN]
 refine⟨_,O,l,_,O,y,λacc b=>?_⟩;refine W2m (K:=K) (a:=l) (xs:=ps.map V.ref) (fr:=[]) (λi ys H'=>∃d:List Addr,Same H H'/\H' acc=some (.lst ys)/\ys=d.map V.ref/\Ck H' d (((row.reverse.take i).map bk).map mm)) (by rw[A_,c];exact Ek f (by decide)) ⟨[],Ao b _,Al,O,.nil⟩
  (λi ys H' e=>by obtain⟨d,s2,_⟩:=e;exact s2.seq y) ?_ ?_
 ·rintro i x ys H1 N s C ⟨d,q,o,rfl,n⟩ M;have t:i<row.length:=by
   have:=(Fq.mp s).1;rw[Zb,A_]at this;lia
  rw[jN (by rw[A_];lia),Cz]at s;obtain⟨p,hp,rfl⟩:=Fz.mp s;obtain⟨m,A,J⟩:=nY g hp;rw[A_,c]at A;have v:row.reverse[i]?=some m:=by rw[jN t];exact A
  refine⟨_,O,p,m,O,q _ _ J,λr H2 j u=>?_⟩;refine M (.ref r) H2 (j _ _ o) ⟨d++[r],Dy (q.trans j) b,Al,by rw[Cg];rfl,?_⟩;rw[Js,v,Kz,Cg,Cg];have h2:=j _ _ o;exact oZ (λ_ _ e=>by rw[Cj (Lw e h2 (by intro z;cases z))];exact e) (vN (n.same j) u)
 ·rintro ys H1 C ⟨d,q,o,rfl,n⟩;rw[A_,c,show row.length=row.reverse.length from Zb.symm,Kc]at n;exact I acc H1 b q ⟨d,o,n⟩
end
end Ah
set_option maxHeartbeats 1000000
namespace Yq
open Dj Mv DY C_ JW Pc
noncomputable def mul (x y:V4):V4:=(x.1*y.1-x.2.1*y.2.2.2-x.2.2.1*y.2.2.1-x.2.2.2*y.2.1,x.1*y.2.1+x.2.1*y.1-x.2.2.1*y.2.2.2-x.2.2.2*y.2.2.1,
 x.1*y.2.2.1+x.2.1*y.2.1+x.2.2.1*y.1-x.2.2.2*y.2.2.2,x.1*y.2.2.2+x.2.1*y.2.2.1+x.2.2.1*y.2.1+x.2.2.2*y.1)
noncomputable def z0:V4:=(0,0,0,0)
theorem mul_add(v x y:V4):mul v (add x y)=add (mul v x) (mul v y):=by apply ext<;>simp only[mul,add]<;>grind
theorem bI(n:Int)(v x:V4):mul v (sm n x)=sm n (mul v x):=by apply ext<;>simp only[mul,sm]<;>grind
theorem W4t(v x:V4):mul v (E x)=E (mul v x):=by apply ext<;>simp only[mul,E]<;>grind
theorem X3v(v x:V4):mul v (root x)=root (mul v x):=by apply ext<;>simp only[mul,root]<;>grind
theorem bH(v x:V4):∀n,mul v (En n x)=En n (mul v x)
 | 0=>rfl
 | n+1=>by show mul v (E (En n x))=E (En n (mul v x));rw[W4t,bH v x n]
theorem fK(x:V4):mul z0 x=z0:=by apply ext<;>simp only[mul,z0]<;>lia
theorem J0(x:Mv)(v:V4)(G:Bv)(w:Nat):op x (λw=>mul v (G w)) w=mul v (op x G w):=by
 by_cases h:Gk x=true
 ·cases x with
  | mix a =>
   show root (add (sm _ (mul v _)) (mul v _))=mul v (root (add _ _));rw[X3v,mul_add,bI]
  | _=>cases h
 ·have h:Gk x=false:=by simpa using h
  rw[QK h,QK h,bI,bH]
theorem Ry(x:Mv)(w:Nat):op x (λ_=>z0) w=z0:=by
 have:=J0 x z0 (λ_=>z0) w;rw[fK]at this;rw[this,fK]
end Yq
namespace Yp
open Dj Mv DY C_ JW Et Pc
open Yq (mul z0 J0 Ry bH fK bI)
variable{c w:Nat}
theorem Y6u{v:Nat}(hw:w<2^c)(h:∀j,c<=j->v.testBit j=w.testBit j):v<2^c:=by
 apply Nat.lt_of_not_le;intro q;obtain⟨j,a,b⟩:=Nat.exists_ge_and_testBit_of_ge_two_pow q;rw[h j a,Ur (DK hw (G3 (by decide) a))]at b;cases b
variable{x:Mv}
theorem Y8t(o:Dg c x){j:Nat}(hj:c<=j):j∉cl x:=λm=>by
 obtain⟨a,b,rfl⟩:=GP.mp m;have:=o.2 a b;have:=o.1.nn a b;lia
theorem W4h(o:Dg c x)(hw:2^c<=w):2^c<=to x w:=iu λq=>by
 have:=Y6u q λj a=>(W0y o.1 (Y8t o a):(to x w).testBit j=w.testBit j).symm;lia
theorem Ls{a:Nat}(ha:a<c)(hw:w<2^c):fl w a<2^c:=Lh hw (Kg (by decide) ha)
theorem W5z{a:Nat}(ha:a<c)(hw:2^c<=w):2^c<=fl w a:=iu λq=>by
 have:=Ls ha q;rw[Lq]at this;lia
def Out (c:Nat)(F:Bv):Prop:=∀w,2^c<=w->F w=z0
theorem Yt:∀n,En n z0=z0
 | 0=>rfl
 | n+1=>by show E (En n z0)=z0;rw[Yt n];rfl
theorem W1n{F:Bv}(o:Dg c x)(h:Out c F):Out c (op x F):=λw b=>by
 by_cases nm:Gk x=true
 ·cases x with
  | mix a =>
   have d:a.toNat<c:=by have:=o.2 a (by simp[cells]);have:0<=a:=o.1;lia
   show root (add (sm _ (F w)) (F (fl w a.toNat)))=z0;rw[h w b,h _ (W5z d b)];simp[root,add,sm,z0]
  | _=>cases nm
 ·have nm:Gk x=false:=by simpa using nm
  rw[QK nm,h _ (W4h o b),Yt];rfl
theorem yP{c:Nat}:∀{r:List Mv}{F:Bv},(∀x∈r,Dg c x)->Out c F->Out c (Bp r F)
 | [],_,_,h=>h
 | x::r,F,o,h=>yP (r:=r) (λy a=>o y (.tail _ a)) (W1n (o x (.head _)) h)
end Yp
namespace UW
open Dj Mv DY C_ JW Et Yp Pc
open Yq (mul z0 J0 Ry bH fK bI)
theorem uP:∀r:List Mv,Bp r (λ_=>z0)=λ_=>z0
 | []=>rfl
 | x::r=>by
  show Bp r (op x (λ_=>z0))=_;rw[show op x (λ_=>z0)=λ_=>z0 from funext λw=>Ry x w];exact uP r
theorem W4w(i:Nat)(F:Bv)(w:Nat):lay (0,0,2^i) F w=sm (Mr (w.testBit i)) (F w):=by
 show En (2*0+4*bn (bp ((w^^^0)&&&2^i))) (F (w^^^0))=_;rw[Ld,N_,bA,Vh];rfl
theorem W4p{x:Mv}(o:Ok x)(F:Bv):op x (op (bk x) F)=λw=>sm 4 (F w):=funext λw=>by
 by_cases t:Jv x=true
 ·cases x with
  | turn a j =>
   obtain⟨f,d,c⟩:0<=a/\1<=j/\j<=7:=o;show sm 2 (En (if w.testBit a.toNat then j.toNat else 0) (sm 2 (En (if w.testBit a.toNat then (8-j).toNat else 0) (F w))))=_;rw[Ye,Oh,Vg];by_cases b:w.testBit a.toNat=true
   ·rw[if_pos b,if_pos b,show j.toNat+(8-j).toNat=8 by lia,rN];rfl
   ·rw[if_neg b,if_neg b];rfl
  | _=>cases t
 ·have t:Jv x=false:=by simpa using t
  have e:bk x=x:=by cases x<;>first | rfl | cases t
  rw[e];exact X2v o t F w
theorem X4o(x:Mv)(r:List Mv):bwd (x::r)=bwd r++[bk x]:=by
 unfold bwd;rw[List.reverse_cons,Cg];rfl
theorem _Z(r:List Mv):(bwd r).length=r.length:=by unfold bwd;simp
theorem wB:∀{r:List Mv} (F:Bv),(∀x∈r,Ok x)->Bp r (Bp (bwd r) F)=λw=>sm (4^r.length) (F w)
 | [],F,_=>by funext w;exact(bW _).symm
 | x::r,F,o=>by
  rw[X4o,yO];show Bp r (op x (op (bk x) (Bp (bwd r) F)))=_;rw[W4p (o x (.head _))];funext w;rw[wz,wB F λy a=>o y (.tail _ a),Oh];congr 1;rw[Lf,Uc,Rj]
end UW
namespace fO
open Dj Mv DY C_ JW Et Yp UW Pc
open Yq (mul z0)
theorem oW(x:Mv)(n:Mk)(h:n.1<4):(Bj x n).1<4:=by
 obtain⟨k,f,s⟩:=n;have h:k<4:=h;cases x<;>simp only[Bj]<;>(repeat' split)<;>first | exact h | exact KH _ (by decide)
end fO
set_option maxHeartbeats 4000000
namespace Ji
open Pc
abbrev Ej:=Nat×Nat
noncomputable def add (e f:Ej):Ej:=(e.1^^^f.1,e.2^^^f.2)
def sat (x:Nat)(e:Ej):Prop:=pc (e.1&&&x)%2=e.2
noncomputable def bl (m:Nat):Nat:=if m=0 then 0 else m.log2+1
variable{m n:Nat}
theorem Ie:bl m<=n↔m<2^n:=by
 unfold bl;by_cases h:m=0
 ·subst h;simp[Cv]
 ·rw[if_neg h,<-Nat.log2_lt h];lia
theorem G4:bl m=0↔m=0:=by
 unfold bl;by_cases h:m=0<;>simp[h]
theorem dw(m:Nat):m<2^bl m:=Ie.mp (CT _)
theorem dj{k:Nat}(h:bl m=k+1):2^k<=m:=by
 rcases Nat.lt_or_ge m (2^k) with c | c
 ·have:=Ie.mpr c;lia
 ·exact c
theorem wA:∀(k m o:Nat),2^k<=m->m<2^(k+1)->2^k<=o->o<2^(k+1)->(m^^^o)<2^k
 | 0,m,o,a,b,c,d=>by
  obtain rfl:m=1:=by simp at a b;lia
  obtain rfl:o=1:=by simp at c d;lia
  decide
 | k+1,m,o,a,b,c,d=>by
  have e1:2^(k+1+1)=2*2^(k+1):=KQ;have e2:2^(k+1)=2*2^k:=KQ;have:=wA k (m / 2) (o / 2) (by lia) (by lia) (by lia) (by lia);have e:=QJ m o;lia
theorem X1r{o:Nat}(h:bl m=bl o)(h0:m≠0):(m^^^o)<m:=by
 cases e:bl m with
 | zero=>exact absurd (G4.mp e) h0
 | succ k =>
  have a:=dw m;have b:=dw o;rw[<-h,e]at b;rw[e]at a;exact DK (wA k m o (dj e) a (dj (h ▸ e)) b) (dj e)
variable{x:Nat}{e:Ej}
theorem X7c{f:Ej}(he:sat x e)(hf:sat x f)(_:e.2<2)(_:f.2<2):sat x (add e f):=by
 unfold sat add at *;dsimp only;rw[jU,XD];have:=QJ e.2 f.2;have z:e.2 / 2=0:=by lia
 have a:f.2 / 2=0:=by lia
 rw[z,a]at this;have q:(0^^^0:Nat)=0:=rfl;lia
theorem X9t(e f:Ej):add (add e f) f=e:=by
 unfold add;simp[GQ]
theorem Om{a b:Nat}(h1:a<2)(h2:b<2):(a^^^b)<2:=Lh (n:=1) h1 h2
noncomputable def comb:List Ej->Nat->Ej
 | [],_=>(0,0)
 | e::r,c=>if c%2=1 then add e (comb r (c / 2)) else comb r (c / 2)
theorem xV(e f:Ej):add e f=add f e:=by unfold add;rw[Qp e.1,Qp e.2]
theorem Ve(e f g:Ej):add (add e f) g=add e (add f g):=by unfold add;simp[GQ]
theorem wH:∀(es:List Ej) (c d:Nat),comb es (c^^^d)=add (comb es c) (comb es d)
 | [],_,_=>by simp[comb,add]
 | e::r,c,d=>by
  have x:=QJ c d;have h1:(c^^^d) / 2=c / 2^^^d / 2:=by lia
  have h2:(c^^^d)%2=(c%2+d%2)%2:=by lia
  have f:=wH r (c / 2) (d / 2);unfold comb;rw[h1,h2,f];rcases Jb c with a | a<;>rcases Jb d with b | b<;>rw[a,b]
  ·rfl
  ·simp only[show (0+1)%2=1 from rfl,KD,show ¬ (0=1) by decide,Kv];rw[<-Ve,<-Ve,xV e]
  ·simp only[show (1+0)%2=1 from rfl,KD,show ¬ (0=1) by decide,Kv];rw[Ve]
  ·simp only[show ¬ ((1+1)%2=1) by decide,KD,Kv];rw[xV e (comb r (c / 2)),Ve,<-Ve e e,show add e e=(0,0) by unfold add;simp,show add (0,0) (comb r (d / 2))=comb r (d / 2) by unfold add;simp]
theorem yD:∀es:List Ej,comb es 0=(0,0)
 | []=>rfl
 | e::r=>by unfold comb;simp[yD r]
theorem wG:∀(es:List Ej) (i:Nat) (e:Ej),es[i]?=some e->comb es (2^i)=e
 | [],i,e,h=>by simp at h
 | f::r,0,e,h=>by
  have:f=e:=by simpa using h
  subst this;unfold comb;simp[yD,add]
 | f::r,i+1,e,h=>by
  have q:r[i]?=some e:=by simpa using h
  have e1:2^(i+1) / 2=2^i:=by rw[KQ];lia
  have e2:2^(i+1)%2=0:=by rw[KQ];lia
  unfold comb;rw[e1,e2];simpa using wG r i e q
theorem X5:∀(es:List Ej) (c:Nat),(∀e∈es,e.2<2)->(comb es c).2<2
 | [],_,_=>by unfold comb;decide
 | e::r,c,h=>by
  have a:=X5 r (c / 2) λf hf=>h f (Li _ hf);unfold comb;split
  ·exact Om (h e Lg) a
  ·exact a
theorem X9q{k:Nat}(h1:2^k<=m)(h2:m<2^(k+1)):m&&&2^k=2^k:=by
 have e:m / 2^k=1:=by
  rw[KQ]at h2;have p:=Cv k;rw[Nat.div_eq_iff p];lia
 refine Kf λj=>?_;rw[KY,Nb];by_cases q:k=j
 ·subst q;rw[Uu,e];simp
 ·simp[q]
theorem xW{k:Nat}(h:m<2^k):m&&&2^k=0:=by
 refine Kf λj=>?_;rw[KY,Nb,Kw];by_cases q:k=j
 ·subst q;rw[Ur h];rfl
 ·simp[q]
theorem oX:∀k:Nat,pc (2^k)=1
 | 0=>by rw[RJ];show 1%2+pc (1 / 2)=1;rw[show (1 / 2:Nat)=0 from rfl,J1]
 | k+1=>by
  have e1:2^(k+1) / 2=2^k:=by rw[KQ];lia
  have e2:2^(k+1)%2=0:=by rw[KQ];lia
  rw[RJ,e1,e2,oX k]
theorem bN{k:Nat}(h:x<2^k):(x ||| 2^k)=x^^^2^k:=by
 rw[YS (x+2^k+1) x (2^k) (by lia) (by lia),xW h,La]
theorem qD{k:Nat}(h:x<2^k):(x^^^2^k)=x+2^k:=by
 have:=Nat.two_pow_add_eq_or_of_lt h 1;rw[Nat.mul_one]at this;rw[<-bN h,Nat.or_comm,<-this,Wo]
theorem X7b{k:Nat}(hx:x<2^k)(hk:bl e.1=k+1)(hb:e.2<2)(n:¬ sat x e):sat (x ||| 2^k) e:=by
 have a:=dw e.1;rw[hk]at a;unfold sat at *;rw[bN hx,tH,XD,X9q (dj hk) a,oX];lia
theorem X2j{k:Nat}(hx:x<2^k)(hk:bl e.1<=k)(h:sat x e):sat (x ||| 2^k) e:=by
 unfold sat at *;rw[bN hx,tH,XD,xW (Ie.mp hk),J1,La];exact h
theorem W4m{k:Nat}(hx:x<2^k):(x ||| 2^k)<2^(k+1):=by
 rw[bN hx,qD hx,KQ];lia
noncomputable def places (c n:Nat):List Nat:=(List.range n).filter λj=>decide (c / 2^j%2=1)
theorem aR{c p:Nat}(h:p∈places c n):p<n:=El.mp (iW.mp h).1
theorem YK(c n:Nat):places c (n+1)=places c n++(if c / 2^n%2=1 then [n] else []):=by
 unfold places;rw[Qv,Rn];by_cases h:c / 2^n%2=1<;>simp[h]
abbrev Ent:=Nat×Nat×Nat
noncomputable def Dc (t:Ent):Ej:=(t.1,t.2.1)
structure Good (es:List Ej) (i:Nat) (ts:List Ent):Prop where
 nz:∀t∈ts,t.1≠0
 com:∀t∈ts,comb es t.2.2=Dc t
 lt:∀t∈ts,t.2.2<2^i
 nd:(ts.map λt=>bl t.1).Nodup
 len:ts.length<=i
 all:∀x,(∀t∈ts,sat x (Dc t))->∀j e,j<i->es[j]?=some e->sat x e
theorem Good.start(es:List Ej):Good es 0 []:=⟨by simp,by simp,by simp,by simp,by simp,λ_ _ j e h=>by lia⟩
structure Left (es:List Ej) (i:Nat) (ts:List Ent) (e:Ej) (t:Ent):Prop where
 com:comb es t.2.2=Dc t
 lt:t.2.2<2^(i+1)
 sat:∀x,(∀t∈ts,sat x (Dc t))->sat x (Dc t)->sat x e
variable{es:List Ej}{i:Nat}{ts:List Ent}
theorem Left.start(h:es[i]?=some e):Left es i ts e (e.1,e.2,2^i):=
 ⟨wG es i e h,Kg (by decide) (Oa _),λ_ _ z=>z⟩
theorem wI(s t:Ent):Dc (s.1^^^t.1,s.2.1^^^t.2.1,s.2.2^^^t.2.2)=add (Dc s) (Dc t):=rfl
variable{t:Ent}
theorem Left.step{s:Ent}(hb:∀e∈es,e.2<2)(G:Good es i ts)(L:Left es i ts e s)(ht:t∈ts):Left es i ts e (s.1^^^t.1,s.2.1^^^t.2.1,s.2.2^^^t.2.2):=by
 refine⟨?_,?_,λx a z=>L.sat x a ?_⟩
 ·rw[wI];show comb es (s.2.2^^^t.2.2)=_;rw[wH,L.com,G.com t ht]
 ·exact Lh L.lt (Rk (G.lt t ht) (Kg (by decide) (Oa _)))
 ·rw[wI]at z;have c:(Dc s).2<2:=by rw[<-L.com];exact X5 es _ hb
  have b:(Dc t).2<2:=by rw[<-G.com t ht];exact X5 es _ hb
  have q:=X7c z (a t ht) (Om c b) b;rw[X9t]at q;exact q
theorem Left.bit(hb:∀e∈es,e.2<2)(L:Left es i ts e t):t.2.1<2:=by
 have:(Dc t).2<2:=by rw[<-L.com];exact X5 es _ hb
 exact this
theorem ud(i:Nat):2^i<2^(i+1):=Kg (by decide) (Oa _)
theorem Good.put(G:Good es i ts)(he:es[i]?=some e)(L:Left es i ts e t)(h0:t.1≠0)(hn:∀s∈ts,bl s.1≠bl t.1):Good es (i+1) (ts++[t]) where
 nz:=λs c=>by
  rcases Ir.mp c with q | q
  ·exact G.nz s q
  ·rw[Fj.mp q];exact h0
 com:=λs c=>by
  rcases Ir.mp c with q | q
  ·exact G.com s q
  ·rw[Fj.mp q];exact L.com
 lt:=λs c=>by
  rcases Ir.mp c with q | q
  ·exact Rk (G.lt s q) (ud i)
  ·rw[Fj.mp q];exact L.lt
 nd:=by
  rw[Cg,List.nodup_append];refine⟨G.nd,by simp,λa g b hb=>?_⟩;obtain⟨s,c,rfl⟩:=GP.mp g;obtain rfl:b=bl t.1:=by simpa using hb
  exact hn s c
 len:=by rw[Ed];have:=G.len;simp;lia
 all:=λx d j f h hf=>by
  have h1:∀s∈ts,sat x (Dc s):=λs c=>d s (Oc _ c);by_cases hji:j<i
  ·exact G.all x h1 j f hji hf
  ·obtain rfl:j=i:=by lia
   rw[he]at hf;cases hf;exact L.sat x h1 (d t (by simp))
theorem Good.skip(G:Good es i ts)(he:es[i]?=some e)(L:Left es i ts e t)(h0:t.1=0)(hb:t.2.1=0):Good es (i+1) ts where
 nz:=G.nz
 com:=G.com
 lt:=λs b=>Rk (G.lt s b) (ud i)
 nd:=G.nd
 len:=Nat.le_succ_of_le G.len
 all:=λx a j f c hf=>by
  by_cases hji:j<i
  ·exact G.all x a j f hji hf
  ·obtain rfl:j=i:=by lia
   rw[he]at hf;cases hf;refine L.sat x a ?_;unfold sat Dc;rw[h0,hb,h_,J1]
theorem yF{f:Ent->Nat}:∀{ts:List Ent},(ts.map f).Nodup->∀{s t},s∈ts->t∈ts->f s=f t->s=t
 | [],_,s,t,hs,_,_=>by cases hs
 | a::r,nd,s,t,hs,ht,e=>by
  rw[Gh,Qu]at nd;rcases Dw.mp hs with h1 | h1<;>rcases Dw.mp ht with h2 | h2
  ·rw[h1,h2]
  ·exact absurd (GP.mpr ⟨t,h2,by rw[<-e,h1]⟩) nd.1
  ·exact absurd (GP.mpr ⟨s,h1,by rw[e,h2]⟩) nd.1
  ·exact yF nd.2 h1 h2 e
variable{ks:W0}
theorem X9b(nd:(ts.map λt=>bl t.1).Nodup)(p:ks.Perm (ts.map λt=>(bl t.1:Int)))(o:ks.Pairwise (·<=·)):ks.Pairwise (·<·):=by
 have d:(ts.map λt=>(bl t.1:Int)).Nodup:=by
  rw[List.Nodup,jB]at nd ⊢;exact nd.imp λh z=>h (Int.ofNat.inj z)
 have c:ks.Nodup:=p.nodup_iff.mpr d;exact(o.and c).imp λ⟨a,b⟩=>by lia
structure O1 (ts:List Ent) (ks:W0) (j x:Nat):Prop where
 done:∀t∈ts,∀i,i<j->ks[i]?=some (bl t.1:Int)->sat x (Dc t)
 low:∀h,ks[j]?=some h->x<2^(h.toNat-1)
theorem O1.start(ts:List Ent)(ks:W0):O1 ts ks 0 0:=⟨λ_ _ i h=>by lia,λh _=>Cv _⟩
theorem rise(o:ks.Pairwise (·<·)){j:Nat}{a b:Int}(h:i<j)(ha:ks[i]?=some a)(hb:ks[j]?=some b):a<b:=by
 obtain⟨h1,rfl⟩:=Fq.mp ha;obtain⟨h2,rfl⟩:=Fq.mp hb;exact tQ.mp o i j h1 h2 h
theorem O1.step{j:Nat}(S:O1 ts ks j x)(nd:(ts.map λt=>bl t.1).Nodup)(o:ks.Pairwise (·<·))(ht:t∈ts)(nz:t.1≠0)(hb:t.2.1<2)(hj:ks[j]?=some (bl t.1:Int)):
  (sat x (Dc t)->O1 ts ks (j+1) x)/\(¬ sat x (Dc t)->O1 ts ks (j+1) (x ||| 2^(bl t.1-1))):=by
 have d:bl t.1≠0:=λz=>nz (G4.mp z);obtain⟨k,c⟩:∃k,bl t.1=k+1:=⟨bl t.1-1,by lia⟩;have b:=S.low _ hj;rw[Dm,c,Wz]at b;have same:∀s∈ts,ks[j]?=some (bl s.1:Int)->s=t:=λs a e=>yF nd a ht (by rw[e]at hj;exact Int.ofNat.inj (Option.some.inj hj));have next:∀h,ks[j+1]?=some h->k+1<=h.toNat-1:=λh e=>by
  have:=rise o (Oa j) hj e;lia
 rw[c,Wz];constructor
 ·intro z;refine⟨λs a i hi e=>?_,λh e=>?_⟩
  ·by_cases q:i<j
   ·exact S.done s a i q e
   ·obtain rfl:i=j:=by lia
    rw[same s a e];exact z
  ·exact DK b (G3 (by decide) (Ek (ZC k) (next h e)))
 ·intro z;refine⟨λs a i hi e=>?_,λh e=>?_⟩
  ·by_cases q:i<j
   ·have:=rise o q e hj;exact X2j b (by show bl s.1<=k;lia) (S.done s a i q e)
   ·obtain rfl:i=j:=by lia
    rw[same s a e];exact X7b b c hb z
  ·exact DK (W4m b) (G3 (by decide) (next h e))
theorem O1.all(S:O1 ts ks ks.length x)(p:ks.Perm (ts.map λt=>(bl t.1:Int))):∀t∈ts,sat x (Dc t):=λt a=>by
 have m:(bl t.1:Int)∈ks:=p.mem_iff.mpr (GP.mpr ⟨t,a,O⟩);obtain⟨i,hi,e⟩:=W_.mp m;exact S.done t a i hi (by rw[GR hi,e])
end Ji
namespace Ny
open Pc Ji
noncomputable def bit (v n:Nat):Nat:=v / 2^n%2
theorem Ho(v n:Nat):bit v n<2:=KH _ (by decide)
theorem X3(v n:Nat):bit v (n+1)=bit (v / 2) n:=by
 unfold bit;rw[KQ,sW]
theorem Z5(n:Nat):bit 0 n=0:=by unfold bit;simp
theorem Om:∀(n a b:Nat),bit (a^^^b) n=(bit a n+bit b n)%2
 | 0,a,b=>by
  have:=QJ a b;unfold bit;simp only[Nat.pow_zero,Nat.div_one];lia
 | n+1,a,b=>by
  have:=QJ a b;rw[X3,X3,X3,show (a^^^b) / 2=a / 2^^^b / 2 by lia];exact Om n _ _
theorem aW:∀(N a b:Nat),a<2^N->b<2^N->(∀n,n<N->bit a n=bit b n)->a=b
 | 0,a,b,ha,hb,_=>by simp at ha hb;lia
 | N+1,a,b,ha,hb,h=>by
  rw[KQ]at ha hb;have c:=h 0 (Nat.succ_pos N);unfold bit at c;simp only[Nat.pow_zero,Nat.div_one]at c;have:=aW N (a / 2) (b / 2) (by lia) (by lia) λn d=>by rw[<-X3,<-X3];exact h (n+1) (by lia)
  lia
theorem pB{a m n:Nat}(h:a<2^m)(hm:m<=n):bit a n=0:=by
 unfold bit;rw[Wx (DK h (G3 (by decide) hm))]
theorem X9n(m n:Nat):bit (2^m) n=if n=m then 1 else 0:=by
 unfold bit;by_cases h:n=m
 ·subst h;rw[if_pos rfl,Nat.div_self (Cv n)]
 ·rw[if_neg h];rcases Nat.lt_or_ge n m with c | c
  ·obtain⟨d,rfl⟩:∃d,m=n+(d+1):=⟨m-n-1,by lia⟩;rw[HW,Nat.mul_div_cancel_left _ (Cv n),M_,iy]
  ·rw[Wx (Kg (by decide) (by lia))]
theorem X9r(x m:Nat):x&&&2^m=bit x m*2^m:=by
 refine Kf λj=>?_;rw[KY,Nb];by_cases q:m=j
 ·subst q;rw[Uu,Uu,Za _ (Cv m)];show (decide (bit x m=1) && decide (m=m))=decide (bit x m%2=1);rw[NQ (Ho x m)];simp
 ·rcases (by have:=Ho x m;lia:bit x m=0\/bit x m=1) with z | z<;>rw[z]<;>simp[q]
theorem oY{a m x b:Nat}(ha:a<2^m)(hb:b<2):pc ((a+b*2^m)&&&x)%2=(pc (a&&&x)+b*bit x m)%2:=by
 rcases (by lia:b=0\/b=1) with rfl | rfl
 ·simp
 ·rw[PN,<-Ji.qD ha,jU,XD,N_ (2^m),X9r];rcases (by have:=Ho x m;lia:bit x m=0\/bit x m=1) with z | z<;>rw[z]
  ·rw[ZF,J1,g_]
  ·rw[PN,oX]
noncomputable def Wm (fs:W8)(n:Nat):Nat->Nat
 | 0=>0
 | m+1=>Wm fs n m+bit (fs.getD m 0) n*2^m
noncomputable def Xm (fs:W8)(x:Nat):Nat->Nat
 | 0=>0
 | m+1=>if bit x m=1 then Xm fs x m^^^fs.getD m 0 else Xm fs x m
theorem Yg(fs:W8)(n:Nat):∀m,Wm fs n m<2^m
 | 0=>by unfold Wm;decide
 | m+1=>by
  have h:=Yg fs n m;have b:=Ho (fs.getD m 0) n;unfold Wm;rw[KQ];rcases (by lia:bit (fs.getD m 0) n=0\/bit (fs.getD m 0) n=1) with z | z<;>rw[z]<;>lia
theorem dh{fs:W8}{x N:Nat}(h:∀j,fs.getD j 0<2^N):∀m,Xm fs x m<2^N
 | 0=>by unfold Xm;exact Cv N
 | m+1=>by
  unfold Xm;split
  ·exact Lh (dh h m) (h m)
  ·exact dh h m
theorem qY(fs:W8)(x n:Nat):∀m,bit (Xm fs x m) n=pc (Wm fs n m&&&x)%2
 | 0=>by unfold Xm Wm;rw[Z5,h_,J1]
 | m+1=>by
  have a:=qY fs x n m;have bl:=Ho x m;unfold Xm Wm;rw[oY (Yg fs n m) (Ho _ _)];split
  ·rename_i z;rw[Om,a,z];lia
  ·rename_i z;rw[a,show bit x m=0 by lia];lia
theorem qd(fs:W8)(n:Nat):∀m j,j<m->bit (Wm fs n m) j=bit (fs.getD j 0) n
 | 0,j,h=>by lia
 | m+1,j,h=>by
  have a:=Yg fs n m;have b:=Ho (fs.getD m 0) n;unfold Wm;rcases (by lia:bit (fs.getD m 0) n=0\/bit (fs.getD m 0) n=1) with z | z
  ·rw[z,ZF,La];by_cases q:j=m
   ·subst q;rw[z,pB a (CT _)]
   ·exact qd fs n m j (by lia)
  ·rw[z,PN,<-Ji.qD a,Om,X9n];by_cases q:j=m
   ·subst q;rw[if_pos rfl,z,pB a (CT _)]
   ·rw[if_neg q,qd fs n m j (by lia),La,NQ (Ho _ _)]
theorem yj(fs:W8)(n:Nat):∀m,m<=fs.length->((fs.take m).mapIdx λi v=>((bit v n:Nat):Int)*2^i).sum=((Wm fs n m:Nat):Int)
 | 0,_=>by simp[Wm]
 | m+1,h=>by
  have a:=yj fs n m (by lia);have e:fs[m]?=some (fs.getD m 0):=by rw[Ef,GR (by lia)];rfl
  have l:(fs.take m).length=m:=by rw[Ka];lia
  unfold Wm;rw[Js,e,Kz,List.mapIdx_append,iY,a,l];simp
noncomputable def eqs (fs:W8)(v N:Nat):List Ej:=(List.range N).map λn=>(Wm fs n fs.length,bit v n)
theorem VF(fs:W8)(v N:Nat):(eqs fs v N).length=N:=by unfold eqs;simp
theorem aj:∀(l r:List Ej) (c:Nat),comb (l++r) c=add (comb l c) (comb r (c / 2^l.length))
 | [],r,c=>by simp[comb,add]
 | e::l,r,c=>by
  have a:=aj l r (c / 2);have e1:c / 2 / 2^l.length=c / 2^(e::l).length:=by rw[Lf,KQ,sW]
  show (if c%2=1 then add e (comb (l++r) (c / 2)) else comb (l++r) (c / 2))=add (if c%2=1 then add e (comb l (c / 2)) else comb l (c / 2)) _;rw[a,e1];split
  ·rw[Ve]
  ·rfl
theorem Z7(fs:W8)(v N:Nat):eqs fs v (N+1)=eqs fs v N++[(Wm fs N fs.length,bit v N)]:=by
 unfold eqs;rw[Qv,Cg];rfl
theorem Z8(c N:Nat):c%2^(N+1)=c%2^N+bit c N*2^N:=by rw[M_,Nat.mod_mul];unfold bit;rw[Lb (2^N)]
theorem wF(e:Ej)(c:Nat):comb [e] c=if c%2=1 then e else (0,0):=by
 unfold comb comb;split<;>simp[add]
theorem qI(fs:W8)(v c:Nat):∀N,(comb (eqs fs v N) c).2=pc (c%2^N&&&v)%2
 | 0=>by simp[eqs,comb,Wk,J1]
 | N+1=>by
  have b:=qI fs v c N;have hb:=Ho c N;have e:=Ho v N;rw[Z7,aj,VF,wF,Z8,oY (KH _ (Cv N)) hb];show (comb (eqs fs v N) c).2^^^(if c / 2^N%2=1 then (Wm fs N fs.length,bit v N) else (0,0)).2=_;rw[b];have nx:=QJ (pc (c%2^N&&&v)%2) (bit v N);have a:pc (c%2^N&&&v)%2 / 2=0:=by lia
  have d:bit v N / 2=0:=by lia
  rw[a,d]at nx;have q:(0^^^0:Nat)=0:=rfl;rcases (by lia:bit c N=0\/bit c N=1) with z | z
  ·rw[if_neg (show ¬ c / 2^N%2=1 by have:c / 2^N%2=0:=z;lia),z];simp
  ·rw[if_pos (show c / 2^N%2=1 from z),z];show _^^^bit v N=_;lia
theorem qH(fs:W8)(v c j:Nat)(hj:j<fs.length):∀N,bit (comb (eqs fs v N) c).1 j=pc (c%2^N&&&fs.getD j 0)%2
 | 0=>by simp[eqs,comb,Wk,J1,Z5]
 | N+1=>by
  have b:=qH fs v c j hj N;have hb:=Ho c N;have a:=qd fs N fs.length j hj;rw[Z7,aj,VF,wF,Z8,oY (KH _ (Cv N)) hb];show bit ((comb (eqs fs v N) c).1^^^(if c / 2^N%2=1 then (Wm fs N fs.length,bit v N) else (0,0)).1) j=_;rw[Om,b];rcases (by lia:bit c N=0\/bit c N=1) with z | z
  ·rw[if_neg (show ¬ c / 2^N%2=1 by have:c / 2^N%2=0:=z;lia),z,Z5];lia
  ·rw[if_pos (show c / 2^N%2=1 from z),z,a];lia
abbrev Mk:=Nat×Nat×Nat
noncomputable def mul (a b:Mk):Mk:=((a.1+b.1+2*pc (a.2.2&&&b.2.1))%4,a.2.1^^^b.2.1,a.2.2^^^b.2.2)
noncomputable def prod (ms:List Mk):Mk:=ms.foldl mul (0,0,0)
theorem yL(k:Nat):∀(ms:List Mk) (q f s:Nat),ms.foldl mul ((k+q)%4,f,s)=((k+(ms.foldl mul (q%4,f,s)).1)%4,(ms.foldl mul (q%4,f,s)).2)
 | [],q,f,s=>by
  show ((k+q)%4,f,s)=((k+q%4)%4,f,s);rw[Nat.add_mod_mod]
 | m::ms,q,f,s=>by
  rw[iV,iV];have h:=yL k ms (q+m.1+2*pc (s&&&m.2.1)) (f^^^m.2.1) (s^^^m.2.2);have e1:mul ((k+q)%4,f,s) m=((k+(q+m.1+2*pc (s&&&m.2.1)))%4,f^^^m.2.1,s^^^m.2.2):=by
   show (((k+q)%4+m.1+2*pc (s&&&m.2.1))%4,_,_)=_;congr 1;lia
  have e2:mul (q%4,f,s) m=((q+m.1+2*pc (s&&&m.2.1))%4,f^^^m.2.1,s^^^m.2.2):=by
   show ((q%4+m.1+2*pc (s&&&m.2.1))%4,_,_)=_;congr 1;lia
  rw[e1,e2];exact h
theorem uO{k:Nat}(hk:k<4)(ms:List Mk):ms.foldl mul (k,0,0)=((k+(prod ms).1)%4,(prod ms).2):=by
 have:=yL k ms 0 0 0;rw[La,NQ hk]at this;exact this
theorem vO:∀(ms:List Mk) (a:Mk),a.1<4->(ms.foldl mul a).1<4
 | [],a,h=>h
 | m::ms,a,h=>vO ms (mul a m) (KH _ (by decide))
noncomputable def chosen (rows:List Mk)(x m:Nat):List Mk:=(places x m).map λp=>rows.getD p (0,0,0)
theorem aY(rows:List Mk)(x m:Nat):chosen rows x (m+1)=chosen rows x m++(if bit x m=1 then [rows.getD m (0,0,0)] else []):=by
 unfold chosen;rw[YK,Cg];show _++List.map _ (if bit x m=1 then [m] else [])=_;split<;>rfl
theorem bR(rows:List Mk)(x:Nat):∀m,(prod (chosen rows x m)).2.1=Xm (rows.map (·.2.1)) x m
 | 0=>rfl
 | m+1=>by
  have a:=bR rows x m;rw[aY];unfold prod at *;rw[ZS];unfold Xm;split
  ·show (mul _ _).2.1=_;show (List.foldl mul (0,0,0) (chosen rows x m)).2.1^^^(rows.getD m (0,0,0)).2.1=_;rw[a,Ef,Ef,Cz];cases rows[m]?<;>rfl
  ·exact a
theorem bT(rows:List Mk)(x:Nat):∀m,(prod (chosen rows x m)).2.2=Xm (rows.map (·.2.2)) x m
 | 0=>rfl
 | m+1=>by
  have a:=bT rows x m;rw[aY];unfold prod at *;rw[ZS];unfold Xm;split
  ·show (List.foldl mul (0,0,0) (chosen rows x m)).2.2^^^(rows.getD m (0,0,0)).2.2=_;rw[a,Ef,Ef,Cz];cases rows[m]?<;>rfl
  ·exact a
end Ny
namespace DW
open Pc Ji Ny
noncomputable def xs (fs:W8)(c:Nat->Bool):Nat->Nat
 | 0=>0
 | m+1=>if c m then xs fs c m^^^fs.getD m 0 else xs fs c m
theorem V2(fs:W8)(x:Nat):∀m,Xm fs x m=xs fs (λj=>decide (bit x j=1)) m
 | 0=>rfl
 | m+1=>by
  unfold Xm xs;rw[V2 fs x m];by_cases h:bit x m=1<;>simp[h]
theorem aK{fs gs:W8}{c d:Nat->Bool}:∀m,(∀j,j<m->c j=d j/\fs.getD j 0=gs.getD j 0)->xs fs c m=xs gs d m
 | 0,_=>rfl
 | m+1,h=>by
  unfold xs;rw[aK m λj a=>h j (by lia),(h m (by lia)).1,(h m (by lia)).2]
noncomputable def Hx (ms:List Mk):List Nat:=ms.map (·.2.1)
noncomputable def Hs (ms:List Mk):List Nat:=ms.map (·.2.2)
def Indep (ms:List Mk):Prop:=∀c:Nat->Bool,xs (Hx ms) c ms.length=0->xs (Hs ms) c ms.length=0->∀j,j<ms.length->c j=false
theorem X0n{ms:List Mk}(I:Indep ms){x y:Nat}(hx:x<2^ms.length)(hy:y<2^ms.length)(hf:Xm (Hx ms) x ms.length=Xm (Hx ms) y ms.length)(hs:Xm (Hs ms) x ms.length=Xm (Hs ms) y ms.length):x=y:=by
 have a:∀(fs:W8) m,Xm fs (x^^^y) m=Xm fs x m^^^Xm fs y m:=by
  intro fs m;induction m with
  | zero=>show 0=0^^^0;simp
  | succ m ih =>
   have b:=Ny.Om m x y;have g:=Ho x m;have e:=Ho y m;unfold Xm;rw[ih,b];rcases (by lia:bit x m=0\/bit x m=1) with z | z<;>rcases (by lia:bit y m=0\/bit y m=1) with u | u<;>rw[z,u]
   ·simp
   ·simp[GQ]
   ·simp only[show (1+0)%2=1 from rfl,KD,show ¬ (0=1) by decide,Kv];rw[GQ,GQ,Qp (Xm fs y m)]
   ·simp only[show ¬ ((1+1)%2=1) by decide,KD,Kv];rw[GQ,Qp (Xm fs y m) (fs.getD m 0),<-GQ (fs.getD m 0),Ja,ZG]
 have c:Xm (Hx ms) (x^^^y) ms.length=0:=by rw[a,hf,Ja]
 have zs:Xm (Hs ms) (x^^^y) ms.length=0:=by rw[a,hs,Ja]
 rw[V2]at c zs;refine aW ms.length x y hx hy λn d=>?_;have h:=Jt (I _ c zs n d);have b:=Ny.Om n x y;have f:=Ho x n;have e:=Ho y n;lia
end DW
set_option maxHeartbeats 1000000
namespace JV
open Dj Mv DY C_ JW DR Et MF
noncomputable def cT (j c q w:Nat):Bool :=
 let m:Mk:=(q*2,0,w)
 (w >>> j == 0) || (Ak (Gg m j c) m == (0,0,2^j) && (Gg m j c).all (okb 0 c) && decide ((Gg m j c).length<=c+1) && (List.range j).all λi=>Ak (Gg m j c) (0,0,2^i) == (0,0,2^i))
theorem W3r:((List.range 7).all λc=>(List.range c).all λj=>allM (2^c) (cT j c))=true:=by decide +kernel
variable{c i:Nat}
theorem big{x:Nat}(h:x<2^c)(hi:c<=i):x.testBit i=false:=Ur (DK h (G3 (by decide) hi))
variable{j:Nat}
theorem W1p{x:Mv}(h:okb j c x=true):okb 0 c x=true:=by
 cases x<;>simp only[okb,HX,Le,JG,Uo]at h ⊢<;>lia
section
variable {c j:Nat}{m:Mk} (c6:c<=6) (jc:j<c) (hb:∀(x:Mv) (m:Mk),Dg c x->Gf c m->Gf c (Bj x m)) (b:Gf c m) (e:ev m=0) (z:∀i,i<j->m.2.1.testBit i=false)
include c6 jc hb b e z
theorem zJ(nz:¬ (m.2.1=0/\m.2.2 >>> j=0)):(Ak (Gj m j c) m).2.2 >>> j≠0:=by
 have A:=pH (m:=m) (n:=m) (W1g j (c-j)) λe _=>⟨O,O⟩;have d:∀i,j<=i->i<c->(Ak (Gj m j c) m).2.2.testBit i=(m.2.1.testBit i || m.2.2.testBit i):=λi h1 h2=>(A.1 i (Im.mpr (by lia))).2;intro k;have a:∀i,j<=i->m.2.1.testBit i=false/\m.2.2.testBit i=false:=λi h1=>by
  by_cases h2:c<=i
  ·exact⟨big b.f h2,big b.s h2⟩
  ·have h:=d i h1 (by lia);have g:((Ak (Gj m j c) m).2.2 >>> j).testBit (i-j)=(Ak (Gj m j c) m).2.2.testBit i:=by rw[Zg,show j+(i-j)=i by lia]
   rw[k,Kw]at g;rw[<-g]at h;exact Bool.or_eq_false_iff.mp h.symm
 refine nz ⟨?_,?_⟩<;>apply Kf<;>intro i<;>rw[Kw]
 ·by_cases h1:i<j
  ·exact z i h1
  ·exact(a i (by lia)).1
 ·rw[Zg];exact(a (j+i) (by lia)).2
theorem R7(nz:¬ (m.2.1=0/\m.2.2 >>> j=0)):Ak (Ey m j c) m=(0,0,2^j)/\(∀x∈Ey m j c,okb 0 c x=true)/\(Ey m j c).length<=3*c+1/\∀i,i<j->Ak (Ey m j c) (0,0,2^i)=(0,0,2^i):=by
 have o1:∀x∈Gj m j c,okb j c x=true:=W5y (λe h1 h2=>W2f h1 h2) λe o=>by have:=Im.mp o;lia
 have g:=zJ c6 jc hb b e z nz;have A:=pH (m:=m) (n:=m) (W1g j (c-j)) λe _=>⟨O,O⟩;have bn:=pA hb (λx a=>(QD (o1 x a)).1) b;have en:ev (Ak (Gj m j c) m)=0:=(pF m (λx a=>(QD (o1 x a)).1.1) λx a=>(QD (o1 x a)).2.1).trans e;have out:∀i,i<j\/c<=i->(Ak (Gj m j c) m).2.1.testBit i=false:=λi hi=>by
  have:=A.2 i λq=>by have:=Im.mp q;lia
  exact this.1.trans (hi.elim (z i) λh=>big b.f h)
 have d:∀i,j<=i->i<c->(Ak (Gj m j c) m).2.1.testBit i=false:=λi h1 h2=>(A.1 i (Im.mpr (by lia))).1;have off:∀i,i<j->Ak (Gj m j c) (0,0,2^i)=(0,0,2^i):=λi hi=>wV hi (.inl rfl) o1;unfold Ey;have v:(Gj m j c).length<=2*(c-j):=by
  have:=qj (pI m) (rg j (c-j));have r:(rg j (c-j)).length=c-j:=by unfold rg;rw[A_,ZV]
  rw[r]at this;exact this
 rw[Ou];generalize Ak (Gj m j c) m=n at bn en out d g;obtain⟨k,f,s⟩:=n;have p:f=0:=by
  apply Kf;intro i;rw[Kw];by_cases h:j<=i/\i<c
  ·exact d i h.1 h.2
  ·exact out i (by lia)
 subst p;have k2:k%2=0:=by
  have en:(k+C_.bn (bp (0&&&s)))%2=0:=en;rw[h_,cu]at en;exact en
 have t:k<4:=bn.k;have h:=W3r;rw[Gz]at h;have h:=h c (El.mpr (by lia));rw[Gz]at h;have h:=X9s (h j (El.mpr jc)) (q:=k / 2) (w:=s) (by lia) bn.s;unfold cT at h;dsimp only at h;rw[show k / 2*2=k by lia]at h;rcases Le _ _ ▸ h with h | h
 ·rw[Y8]at h;exact absurd h g
 ·rw[HX,HX,HX,Y8,JG,Gz,Gz]at h;obtain⟨⟨⟨h1,h2⟩,u⟩,l⟩:=h;refine⟨h1,λx a=>(Ir.mp a).elim (λq=>W1p (o1 x q)) (h2 x),by rw[Ed];lia,λi hi=>?_⟩;rw[Ou,off i hi];exact eq_of_beq (l i (El.mpr hi))
end
theorem xd(a d:Nat):a^^^d^^^d=a:=by rw[GQ,Ja,Ld]
theorem xl(a b d:Nat):a^^^d^^^b=a^^^b^^^d:=by rw[GQ,Qp d b,<-GQ]
theorem xr(a b d:Nat):a^^^(b^^^d)=a^^^b^^^d:=(GQ _ _ _).symm
theorem zj(f g a b:Nat):sw (f^^^g) a b=sw f a b^^^sw g a b:=by
 unfold sw;rw[Es,Es];cases f.testBit a<;>cases g.testBit a<;>cases f.testBit b<;>cases g.testBit b<;>simp[fl,xd,xl,xr]
theorem X8q(x:Mv)(k:Nat)(m n:Mk):(Bj x (k,m.2.1^^^n.2.1,m.2.2^^^n.2.2)).2=((Bj x m).2.1^^^(Bj x n).2.1,(Bj x m).2.2^^^(Bj x n).2.2):=by
 obtain⟨k1,f,s⟩:=m;obtain⟨k2,g,t⟩:=n;cases x with
 | flip a=>rfl
 | mix a =>
  unfold Bj;dsimp only;rw[Es,Es];cases f.testBit a.toNat<;>cases s.testBit a.toNat<;>cases g.testBit a.toNat<;>cases t.testBit a.toNat<;>simp[fl,xd,xl,xr]
 | turn a j =>
  unfold Bj;dsimp only;rw[Es];by_cases h:j.toNat%4=2
  ·simp only[if_pos h];cases f.testBit a.toNat<;>cases g.testBit a.toNat<;>simp[fl,xd,xl,xr]
  ·simp only[if_neg h];cases f.testBit a.toNat<;>cases g.testBit a.toNat<;>simp
 | iff a b =>
  unfold Bj;dsimp only;rw[Es,Es];cases f.testBit a.toNat<;>cases g.testBit a.toNat<;>cases s.testBit b.toNat<;>cases t.testBit b.toNat<;>simp[fl,xd,xl,xr]
 | pair a b =>
  unfold Bj;dsimp only;rw[Es,Es];cases f.testBit a.toNat<;>cases g.testBit a.toNat<;>cases f.testBit b.toNat<;>cases g.testBit b.toNat<;>simp[fl,xd,xl,xr]
 | swap a b =>
  unfold Bj;dsimp only;rw[zj,zj]
 | cross a b d=>rfl
theorem X8o(x:Mv){m n:Mk}(h:m.2=n.2):(Bj x m).2=(Bj x n).2:=by
 obtain⟨k1,f,s⟩:=m;obtain⟨k2,g,t⟩:=n;cases (show f=g from congrArg Prod.fst h);cases (show s=t from congrArg Prod.snd h);cases x with
 | turn a j =>
  unfold Bj;dsimp only;cases f.testBit a.toNat<;>rfl
 | _=>rfl
theorem qN:∀(r:List Mv) {m n:Mk},m.2=n.2->(Ak r m).2=(Ak r n).2
 | [],_,_,h=>h
 | x::r,_,_,h=>qN r (X8o x h)
theorem Z9:∀(r:List Mv) (k:Nat) (m n:Mk),(Ak r (k,m.2.1^^^n.2.1,m.2.2^^^n.2.2)).2=((Ak r m).2.1^^^(Ak r n).2.1,(Ak r m).2.2^^^(Ak r n).2.2)
 | [],_,_,_=>rfl
 | x::r,k,m,n=>by
  have h:=Z9 r k (Bj x m) (Bj x n);have e:=qN r (m:=Bj x (k,m.2.1^^^n.2.1,m.2.2^^^n.2.2)) (n:=(k,(Bj x m).2.1^^^(Bj x n).2.1,(Bj x m).2.2^^^(Bj x n).2.2)) (X8q x k m n);exact e.trans h
theorem yM(r:List Mv)(k:Nat):(Ak r (k,0,0)).2=(0,0):=by
 have h:=Z9 r k (k,0,0) (k,0,0);rw[Ja,Ja,Ja]at h;exact h
noncomputable def Em (ms:List Mk)(c:Nat):Nat->List Mv
 | 0=>[]
 | j+1=>Em ms c j++Ey (Ak (Em ms c j) (ms.getD j (0,0,0))) j c
noncomputable def sg2 (cb:Nat->Bool):Nat->Nat
 | 0=>0
 | n+1=>if cb n then sg2 cb n^^^2^n else sg2 cb n
theorem _j(s:Nat):∀n i,(sg2 (λk=>s.testBit k) n).testBit i=(decide (i<n) && s.testBit i)
 | 0,i=>by simp[sg2]
 | n+1,i=>by
  unfold sg2;have a:=_j s n i;cases h:s.testBit n with
  | true =>
   rw[if_pos rfl,Es,a,Nb];by_cases e:n=i
   ·subst e;simp[h]
   ·by_cases l:i<n
    ·rw[Ec l,Ec (show i<n+1 by lia),Cr e];simp
    ·rw[Cr l,Cr (show ¬ i<n+1 by lia),Cr e];simp
  | false =>
   rw[if_neg (by decide),a];by_cases e:n=i
   ·subst e;simp[h]
   ·by_cases l:i<n
    ·rw[Ec l,Ec (show i<n+1 by lia)]
    ·rw[Cr l,Cr (show ¬ i<n+1 by lia)]
theorem fget(ms:List Mk)(j:Nat):(DW.Hx ms).getD j 0=(ms.getD j (0,0,0)).2.1:=by
 unfold DW.Hx;rw[Ef,Ef,Cz];cases ms[j]?<;>rfl
theorem O9(ms:List Mk)(j:Nat):(DW.Hs ms).getD j 0=(ms.getD j (0,0,0)).2.2:=by
 unfold DW.Hs;rw[Ef,Ef,Cz];cases ms[j]?<;>rfl
theorem behind{ms:List Mk}{r:List Mv}(cb:Nat->Bool):∀n,(∀i,i<n->(Ak r (ms.getD i (0,0,0))).2=(0,2^i))->(Ak r (0,DW.xs (DW.Hx ms) cb n,DW.xs (DW.Hs ms) cb n)).2=(0,sg2 cb n)
 | 0,_=>yM r 0
 | n+1,h=>by
  have a:=behind cb n λi hi=>h i (by lia);have b:=h n (by lia);unfold DW.xs sg2;cases cb n with
  | false=>exact a
  | true =>
   rw[if_pos rfl,if_pos rfl,if_pos rfl,fget,O9];have:=Z9 r 0 (0,DW.xs (DW.Hx ms) cb n,DW.xs (DW.Hs ms) cb n) (ms.getD n (0,0,0));rw[a,b]at this;rw[show (0:Nat)^^^0=0 from rfl]at this;exact this
theorem W0t{fs:W8}{a b:Nat->Bool}:∀n,(∀i,i<n->a i=b i)->DW.xs fs a n=DW.xs fs b n:=λn h=>DW.aK n λj c=>⟨h j c,O⟩
theorem z_{fs:W8}{a:Nat->Bool}{n:Nat}:∀d,(∀i,n<=i->a i=false)->DW.xs fs a (n+d)=DW.xs fs a n
 | 0,_=>rfl
 | d+1,h=>by
  show (if a (n+d) then DW.xs fs a (n+d)^^^fs.getD (n+d) 0 else DW.xs fs a (n+d))=_;rw[h (n+d) (by lia),if_neg (by decide)];exact z_ d h
variable{ms:List Mk}{r:List Mv}
theorem nQ(I:DW.Indep ms)(hj:j<ms.length)(inv:∀m:Mk,m.1<4->(Ak r m).2=(0,0)->m.2=(0,0))(f:∀i,i<j->(Ak r (ms.getD i (0,0,0))).2=(0,2^i)):¬ ((Ak r (ms.getD j (0,0,0))).2.1=0/\(Ak r (ms.getD j (0,0,0))).2.2 >>> j=0):=by
 rintro ⟨h1,h2⟩;generalize hs:(Ak r (ms.getD j (0,0,0))).2.2=s at h2;have e:(Ak r (ms.getD j (0,0,0))).2=(0,s):=Prod.ext h1 hs;have b:=behind (ms:=ms) (r:=r) (λk=>s.testBit k) j f;have es:sg2 (λk=>s.testBit k) j=s:=by
  apply Kf;intro i;rw[_j];by_cases l:i<j
  ·rw[Ec l];rfl
  ·rw[Cr l];have:=congrArg (λx=>x.testBit (i-j)) h2;rw[Zg,Kw,show j+(i-j)=i by lia]at this;rw[this];rfl
 rw[es]at b;have l:=Z9 r 0 (0,DW.xs (DW.Hx ms) (λk=>s.testBit k) j,DW.xs (DW.Hs ms) (λk=>s.testBit k) j) (ms.getD j (0,0,0));rw[b,e]at l;have z:=inv _ (show (0:Nat)<4 by decide) (l.trans (by rw[Ja,Ja]));have g:DW.xs (DW.Hx ms) (λk=>s.testBit k) j^^^(ms.getD j (0,0,0)).2.1=0:=congrArg Prod.fst z;have c:DW.xs (DW.Hs ms) (λk=>s.testBit k) j^^^(ms.getD j (0,0,0)).2.2=0:=congrArg Prod.snd z;have a:∀fs:List Nat,DW.xs fs (λk=>if k<j then s.testBit k else decide (k=j)) ms.length=DW.xs fs (λk=>s.testBit k) j^^^fs.getD j 0:=λfs=>by
  obtain⟨d,hd⟩:∃d,ms.length=j+1+d:=⟨ms.length-(j+1),by lia⟩;rw[hd,z_ (n:=j+1) d λi hi=>by rw[if_neg (by lia),Cr (by lia)]];show (if (if j<j then s.testBit j else decide (j=j)) then DW.xs fs _ j^^^fs.getD j 0 else DW.xs fs _ j)=_;rw[if_neg (OJ j),Ec rfl,if_pos rfl,W0t j λi hi=>by rw[if_pos hi]]
 have:=I (λk=>if k<j then s.testBit k else decide (k=j)) (by rw[a,fget];exact g) (by rw[a,O9];exact c) j hj;rw[if_neg (OJ j),Ec rfl]at this;cases this
structure QZ (ms:List Mk) (c:Nat):Prop where
 bd:∀m∈ms,Gf c m
 ev:∀m∈ms,C_.ev m=0
 cm:∀m∈ms,∀n∈ms,Et.cm m n=false
 ind:DW.Indep ms
theorem getD_mem(h:j<ms.length):ms.getD j (0,0,0)∈ms:=by
 rw[Ef,GR h];exact Uk h
theorem Wc{row:List Mv}(h:∀x∈row,okb 0 c x=true):(∀x∈row,Dg c x)/\(∀x∈row,Ok x)/\∀x∈row,Br x:=⟨λx a=>(QD (h x a)).1,λx a=>(QD (h x a)).1.1,λx a=>(QD (h x a)).2.1⟩
theorem X8y(h:∀x∈r,okb 0 c x=true)(m:Mk)(m4:m.1<4)(e:(Ak r m).2=(0,0)):m.2=(0,0):=by
 have b:=Z4 (Wc h).2.1 (Wc h).2.2 m4 λx n _ q=>fO.oW x n q;rw[<-b];exact(qN (bwd r) (m:=Ak r m) (n:=((Ak r m).1,0,0)) e).trans (yM _ _)
structure Pre (m:Mk) (c j:Nat):Prop where
 bd:Gf c m
 ev:C_.ev m=0
 z:∀i,i<j->m.2.1.testBit i=false
 nz:¬ (m.2.1=0/\m.2.2 >>> j=0)
 jc:j<c
theorem zW(hb:∀(x:Mv) (m:Mk),Dg c x->Gf c m->Gf c (Bj x m))(T:QZ ms c)(hj:j<ms.length)(jc:j<=c)(ok:∀x∈r,okb 0 c x=true)(fx:∀i,i<j->Ak r (ms.getD i (0,0,0))=(0,0,2^i)):Pre (Ak r (ms.getD j (0,0,0))) c j:=by
 obtain⟨v,o,b⟩:=Wc ok;have bd:=pA hb v (T.bd _ (getD_mem hj));have z:∀i,i<j->(Ak r (ms.getD j (0,0,0))).2.1.testBit i=false:=λi hi=>by
  have h:=pD (row:=r) (ms.getD j (0,0,0)) (ms.getD i (0,0,0)) o b;rw[fx i hi,T.cm _ (getD_mem hj) _ (getD_mem (show i<ms.length by lia)),Sq]at h;exact h
 have a:=nQ T.ind hj (X8y ok) λi hi=>congrArg Prod.snd (fx i hi);refine⟨bd,(pF _ o b).trans (T.ev _ (getD_mem hj)),z,a,Nat.lt_of_le_of_ne jc λe=>a ⟨?_,?_⟩⟩
 ·apply Kf;intro i;rw[Kw];by_cases h:i<j
  ·exact z i h
  ·exact big bd.f (by lia)
 ·apply Kf;intro i;rw[Kw,Zg];exact big bd.s (by lia)
structure Lr (ms:List Mk) (c j:Nat):Prop where
 ok:∀x∈Em ms c j,okb 0 c x=true
 len:(Em ms c j).length<=j*(3*c+1)
 fx:∀i,i<j->Ak (Em ms c j) (ms.getD i (0,0,0))=(0,0,2^i)
 jc:j<=c
theorem VH{ms:List Mk}{c:Nat}(c6:c<=6)(hb:∀(x:Mv) (m:Mk),Dg c x->Gf c m->Gf c (Bj x m))(T:QZ ms c):∀j,j<=ms.length->Lr ms c j
 | 0,_=>⟨(λx a=>by cases a),Fy _,(λi hi=>absurd hi (by lia)),Fy _⟩
 | j+1,hj=>by
  have L:=VH c6 hb T j (by lia);have p:=zW hb T hj L.jc L.ok L.fx;obtain⟨l1,l2,l3,l4⟩:=R7 c6 p.jc hb p.bd p.ev p.z p.nz;refine⟨λx a=>(Ir.mp a).elim (L.ok x) (l2 x),?_,λi hi=>?_,p.jc⟩
  ·have:=L.len;have e:(j+1)*(3*c+1)=j*(3*c+1)+(3*c+1):=Nat.succ_mul _ _;show (Em ms c j++_).length<=_;rw[Ed];lia
  ·show Ak (Em ms c j++_) _=_;rw[Ou];by_cases h:i<j
   ·rw[L.fx i h];exact l4 i h
   ·have:i=j:=by lia
    subst this;exact l1
theorem X3w(c6:c<=6)(hb:∀(x:Mv) (m:Mk),Dg c x->Gf c m->Gf c (Bj x m))(T:QZ ms c)(hj:j<ms.length):Pre (Ak (Em ms c j) (ms.getD j (0,0,0))) c j :=
 have L:=VH c6 hb T j (by lia)
 zW hb T hj L.jc L.ok L.fx
theorem X0d(c6:c<=6)(hb:∀(x:Mv) (m:Mk),Dg c x->Gf c m->Gf c (Bj x m))(T:QZ ms c)(hi:i<ms.length):Ak (bwd (Em ms c ms.length)) (0,0,2^i)=ms.getD i (0,0,0):=by
 have L:=VH c6 hb T ms.length (CT _);rw[<-L.fx i hi];exact Z4 (Wc L.ok).2.1 (Wc L.ok).2.2 (T.bd _ (getD_mem hi)).k λx n _ q=>fO.oW x n q
end JV
set_option maxHeartbeats 4000000
namespace Ah
open L2 Ba Am Pc Dj
open Ar (top Bs)
open DY (Dg)
open C_ (Mk Bj Ak Br bn bp ev)
open JW (bk)
open DR (JB rg Gj Ey G9 okb)
theorem X_{H:Hp}:∀{ps qs:U5}{xs ys:List Mm},Ck H ps xs->Ck H qs ys->Ck H (ps++qs) (xs++ys)
 | [],_,[],_,.nil,h=>h
 | _::_,_,_::_,_,.cons a r,h=>.cons a (X_ r h)
theorem oH{H:Hp}{l:Y4}{xs ys:List V}{ps:U5}{ms:List Mm}(h:Ck H ps ms)(hl:H l=some (.lst xs)):Ck (upd H l (.lst ys)) ps ms :=
 oZ (λ_ _ c=>by rw[Cj (Lw c hl (by intro z;cases z))];exact c) h
variable{row:List Mv}
theorem vQ{H:Hp}{l:Y4}{ps qs:U5}{more:List Mv}(hl:H l=some (.lst (ps.map V.ref)))(h1:Ck H ps (row.map mm))(h2:Ck H qs (more.map mm)):Ce (upd H l (.lst (ps.map V.ref++qs.map V.ref))) l (row++more):=
 ⟨ps++qs,by rw[Al,Cg],by rw[Cg];exact oH (X_ h1 h2) hl⟩
theorem X7d(j i:Nat):rg j (i+1)=rg j i++[i+j]:=by
 unfold rg;rw[Qv,Cg];rfl
theorem hbd{c:Nat}:∀(x:Mv) (m:Mk),Dg c x->MF.Gf c m->MF.Gf c (Bj x m):=λx m o b=>by
 have:=zL o (⟨b.k,b.f,b.s⟩:Jh c m);exact⟨this.k,this.f,this.s⟩
theorem Xw{j c:Nat}(h:∀x∈row,okb j c x=true):(∀x∈row,Dg c x)/\∀x∈row,Br x:=⟨λx a=>(Et.QD (h x a)).1,λx a=>(Et.QD (h x a)).2.1⟩
theorem W4j(x j:Nat):(x:Int) / 2^(j:Int).toNat=((x >>> j:Nat):Int):=by
 rw[Dm,tU];simp
def Mi (K:U0):Sp:=λvs H Q _=>∃(p:Y4) (m:Mk) (j c:Nat),vs=[.ref p,.int j,.int c]/\Ax K H p (Ib m)/\Jh c m/\c<=6/\j<c/\ev m=0/\(∀i,i<j->m.2.1.testBit i=false)/\¬ (m.2.1=0/\m.2.2 >>> j=0) /\
 ∀(r:Y4) (H':Hp),H r=none->Same H H'->Ce H' r (Ey m j c)->Q (.ref r) H'
section
variable {P:W3}{w:W6}{K:U0}{mg:U6}{base:Heap}{k:Nat}{h:Heap}
theorem X7v(F:Ab K "layer_to_sign" (top 76) .none)(X:K.In h)(G:Ng h mg)(B:Bs mg)(dL:Ai P w K mg base k "moves_to_sign" ["letter","cell"] Qj)(eI:Ai P w K mg base k "cell_sign" ["mark","cell"] (Qi K))(cK:Ai P w K mg base k "moved_through" ["mark","row"] (oK K))(dZ:Ai P w K mg base k "least_cell" ["word"] Ql):Ai P w K mg base (k+1) "layer_to_sign" ["mark","cell","cells"] (Mi K):=by
 refine F.cal X G ["mark","cell","cells","row","each","signs","kept"] λnd H vs Q E hr h=>?_;obtain⟨p,m,j,c,rfl,S,o,c6,jc,e,z,nz,q⟩:=h;obtain⟨_,Y,a0,_⟩:=JV.R7 c6 jc hbd (⟨o.k,o.f,o.s⟩:MF.Gf c m) e z nz;have o1:∀x∈Gj m j c,okb 0 c x=true:=λx hx=>Y x (Oc _ hx);obtain⟨v1,b1⟩:=Xw o1;have Z:(Gj m j c).length<=200:=by
  unfold Ey at a0;rw[Ed]at a0;lia
 have on:=pJ v1 o
 refine⟨_,(@Av _ _ _ _ _ (@BR _ _ 3 _ _ _ _ nd rfl (Or.inl rfl) (@Ga _ _ _ _ Ae) rfl (.inl rfl))
  (@Av _ _ _ _ _ (Hy PassesOwn.never rfl (Y8l rfl B.range (Aa (pv 1) (Aa (pv 2) Ae))) (CV (i:=4) nd rfl (Or.inl rfl))
   (@Aj _ _ _ (H_ (QB Pj tK tL yK (pv 3) (Aa (Ay dL hr rfl (Aa (Ay eI hr rfl (Aa (pv 0) (Aa (pv 4) Ae))) (Aa (pv 4) Ae))) Ae)))))
  (@Dv _ _ _ _ _ (@BR _ _ 5 _ _ _ _ nd rfl (Or.inr rfl) (Aw BL (Ay cK hr rfl (Aa (pv 0) (Aa (pv 3) Ae))) Ac (λ_ _=>rfl)) rfl (.inl rfl))
  (@Dv _ _ _ _ _ (@BR _ _ 6 _ _ _ _ nd rfl (Or.inr rfl) (Af Dn (pv 1) (Ay dZ hr rfl (Aa (Af Jd (pv 5) (pv 1)) Ae))) rfl (.inl rfl))
  (@Dv _ _ _ _ _ (H_ (QB Pj tK tL yK (pv 3) (Aa (VD rfl (Bl.of (Nc:=["each","signs","kept"]) (mp:=[none,some 5,some 6]) (by kernel_rfl)) (J3 rfl B.range (Aa (pv 2) Ae)) (λ_ _ _ _=>(CV (i:=0) (show (["each","signs","kept"]:W5).Nodup by decide +kernel) rfl (Or.inl rfl))) (λ_ _ _ _=>(PW.pt (Oj (CP Jc (pv 0) (pv 2) (Ad _)) (RM (Kr (Af Di (Af Jd (pv 1) (pv 0)) Ac) (by intro _;rfl)))))) (λ_ _ _ _=>(@Ci _ _ _ _ _ (Aa Fg (Aa (pv 0) (Aa (pv 2) Ae)))))) Ae)))
  (@Dv _ _ _ _ _ (B_ (CP Jc (pv 6) (pv 1) (Ad _))
   (@Aj _ _ _ (H_ (QB Pj Rt Ru QV (pv 3) (Aa (@Ci _ _ _ _ _ (Aa Fg (Aa (pv 1) (Aa (pv 6) Ae)))) Ae))))
   CJ)
  (@Dv _ _ _ _ _ (B_ (CP Jc (Aw BL (Ay cK hr rfl (Aa (pv 0) (Aa (pv 3) Ae))) Ac (λ_ _=>rfl)) Ac (Ad _))
   (@Aj _ _ _ (H_ (QB Pj Rt Ru QV (pv 3) (Aa (@Ci _ _ _ _ _ (Aa Fg (Aa (pv 1) Ae))) Ae))))
   CJ)
  (@Aj _ _ _ (BJ (pv 3)))))))))),?_⟩
 try dsimp only[CN]
 refine⟨Fy _,λl hl=>?_⟩;refine⟨_,O,_,O,_,_,O,⟨by lia,by lia,by lia,by lia⟩,?_⟩;rw[show ((c:Int)-(j:Int)).toNat=c-j by lia];refine Tf (lo:=(j:Int)) (n:=c-j) (λi σ H'=>∃v:Option V,Same H H'/\Ce H' l ((rg j i).flatMap (JB m))/\σ=[some (.ref p),some (.int j),some (.int c),some (.ref l),v,none,none])
  ⟨none,Ao hl _,⟨[],Al,.nil⟩,O⟩ ?_ ?_
 ·rintro i σ H1 hi ⟨v,S1,⟨ps,h1,r1⟩,rfl⟩;have ei:((j:Int)+(i:Int))=((i+j:Nat):Int):=by lia
  have pl:ps.length<=2*i:=by
   have:=QS r1;rw[A_]at this;have r:=MF.qj (MF.pI m) (rg j i);have rl:(rg j i).length=i:=by unfold rg;rw[A_,ZV]
   rw[rl]at r;lia
  refine⟨_,O,.inl ⟨O,_,Ag.of h1⟩,_,O,_,O,p,m,i+j,by rw[ei];rfl,S1.tup S,_,O,m.2.1.testBit (i+j),m.2.2.testBit (i+j),i+j,m,by rw[ei];rfl,O,O,λr H2 nr C R2=>?_⟩;obtain⟨y,h2,R⟩:=R2;have ql:y.length<=2:=by
   have:=QS R;rw[A_]at this;have:=MF.pI m (i+j);lia
  refine⟨l,r,_,_,O,O,C _ _ h1,h2,?_,?_⟩
  ·rw[A_,A_];exact Ek (show _<=100 by lia) (by decide)
  refine⟨_,Dy (S1.trans C) hl,?_,O⟩;rw[X7d,List.flatMap_append];have:=vQ (more:=[i+j].flatMap (JB m)) (C _ _ h1) (r1.same C) (by rw[jA,List.flatMap_nil,KR];exact R);exact this
 ·rintro σ H1 ⟨v,S1,R1,rfl⟩;have R1:Ce H1 l (Gj m j c):=R1;have a1:=JV.zJ c6 jc hbd (⟨o.k,o.f,o.s⟩:MF.Gf c m) e z nz;obtain⟨n,en⟩:∃n,Ak (Gj m j c) m=n:=⟨_,O⟩;rw[en]at on a1;have lay:Ey m j c=Gj m j c++DR.Gg n j c:=by unfold Ey;rw[en]
  have a3:n.2.2 >>> j<64:=by
   rw[tU];refine Ob (Nat.div_le_self _ _) (DK on.s ?_);exact G3 (by decide) c6
  refine⟨λσ H'=>Same H1 H'/\σ=[some (.ref p),some (.int j),some (.int c),some (.ref l),v,some (.int (n.2.2:Nat)),none],?_,?_⟩
  ·refine⟨_,O,_,O,p,l,m,Gj m j c,c,O,S1.tup S,R1,o,c6,v1,b1,Z,λM H2 C h2=>?_⟩;rw[en]at h2;exact⟨M,_,_,.int (n.2.2:Nat),O,O,h2,k2,C,O⟩
  rintro σ H2 ⟨C,rfl⟩;refine⟨λσ H'=>H2=H'/\σ=[some (.ref p),some (.int j),some (.int c),some (.ref l),v,some (.int (n.2.2:Nat)),some (.int (G9 n j:Nat))],?_,?_⟩
  ·refine⟨_,O,_,O,_,O,_,_,O,O,(by show (0:Int)<=(j:Int);lia),n.2.2 >>> j,?_,a3,a1,_,_,O,O,O,?_⟩
   ·show [V.int ((n.2.2:Int) / 2^(j:Int).toNat)]++[]=_;rw[W4j];rfl
   ·rfl
  rintro σ _ ⟨rfl,rfl⟩;obtain⟨ps,h2,R⟩:=R1.same C;have pl:ps.length=(Gj m j c).length:=by have:=QS R;rw[A_]at this;exact this
  refine⟨λσ H'=>Same H H'/\Ce H' l (Gj m j c++DR.s2 n j c)/\σ=[some (.ref p),some (.int j),some (.int c),some (.ref l),v,some (.int (n.2.2:Nat)),some (.int (G9 n j:Nat))],?_,?_⟩
  ·refine⟨_,O,.inl ⟨O,_,Ag.of h2⟩,_,O,_,O,by lia,by lia,λacc d=>?_⟩;rw[Dm];have ga:acc≠l:=λz=>by rw[z,h2]at d;cases d
   refine oF (n:=c) (fr:=[some (.int (n.2.2:Nat)),some (.int (G9 n j:Nat))]) (λi ys H'=>Same H2 H'/\H' acc=some (.lst ys)/\∃y:List Addr,ys=y.map V.ref/\Ck H' y ((((List.range i).filter λe=>decide (e≠G9 n j) && n.2.2.testBit e).map λ(e:Nat)=>Mv.iff (e:Int) (G9 n j:Int)).map mm)/\y.length<=i) (Dz (by lia)) ⟨Ao d _,Al,[],O,.nil,CT _⟩ ?_ (λhm z=>?_) ?_
   ·rintro i ys D N hi a7 ⟨g,U,y,rfl,M5,ql⟩ kN;have z0:(0:Int)+(i:Int)=(i:Int):=KJ _;have stay:(decide (i≠G9 n j) && n.2.2.testBit i)=false->Same H2 D/\D acc=some (.lst (y.map V.ref))/\∃qs':List Addr,y.map V.ref=qs'.map V.ref/\Ck D qs' ((((List.range (i+1)).filter λe=>decide (e≠G9 n j) && n.2.2.testBit e).map λ(e:Nat)=>Mv.iff (e:Int) (G9 n j:Int)).map mm)/\qs'.length<=i+1:=λhP=>by
     refine⟨g,U,y,O,?_,by lia⟩;rw[Qv,Rn,List.filter_cons_of_neg (by rw[hP];decide),List.filter_nil,KR];exact M5
    refine⟨_,O,_,O,O,_,O,Kh (λne=>?_) (λeq=>kN _ _ (λz=>(nomatch z)) (λ_=>stay ?_))⟩
    ·refine⟨_,O,_,O,_,_,O,O,(by show (0:Int)<=0+(i:Int);lia),_,_,O,O,_,O,?_⟩;show N (Builtin.bitAnd ((n.2.2:Int) / 2^(0+(i:Int)).toNat) 1 != 0) D;rw[z0,Xo];have A:i≠G9 n j:=λz=>ne (by rw[z0,z]);refine kN _ _ (λhb=>?_) (λhb=>stay ?_)
     ·have hP:(decide (i≠G9 n j) && n.2.2.testBit i)=true:=by
       rw[Ec A,iD];cases q:n.2.2.testBit i with
       | true=>rfl
       | false=>rw[q]at hb;cases hb
      refine⟨_,O,_,O,t3,λt b=>⟨Ao b _ _ _ U,Dy (g.trans (Ao b _)) d,Al,y++[t],by rw[Cg];rfl,?_,by rw[Ed,Zf];lia⟩⟩;rw[Qv,Rn,List.filter_cons_of_pos (p:=λe=>decide (e≠G9 n j) && n.2.2.testBit e) hP,List.filter_nil,Cg,Cg];refine oH (X_ (M5.same (Ao b _)) (.cons ?_ .nil)) (Ao b _ _ _ U);rw[Al,z0];rfl
     ·cases q:n.2.2.testBit i with
      | true=>rw[q]at hb;cases hb
      | false=>rw[iK]
    ·have:i=G9 n j:=by rw[z0]at eq;lia
     rw[Cr (λz=>z this),Ws]
   ·obtain⟨u,e1,u2,e2,a4,z⟩:=z;exact⟨u,e1,u2,e2,a4,λt b=>hm _ _ (z t b)⟩
   ·rintro ys D ⟨g,U,y,rfl,M5,ql⟩;refine⟨l,acc,_,_,O,O,g _ _ h2,U,?_,Dy ((S1.trans C).trans g) hl,vQ (g _ _ h2) (R.same g) M5,O⟩;rw[A_,A_];exact Ek (show _<=300 by lia) (by decide)
  rintro σ H3 ⟨S3,R3,rfl⟩
  have o3:∀x∈Gj m j c++DR.s2 n j c++DR.s3 n j,okb 0 c x=true:=λx hx=>Y x (by
   rw[lay]
   unfold DR.Gg
   rw[<-Ul,<-Ul]
   exact Oc _ hx)
  have T:(Ey m j c).length<=20:=by lia
  have eL:Ey m j c=Gj m j c++DR.s2 n j c++DR.s3 n j++DR.s4 n j c:=by
   rw[lay];unfold DR.Gg;rw[<-Ul,<-Ul]
  rw[eL,Ed,Ed,Ed]at T;have add:∀{I:Hp}{row:List Mv}{x:Mv},Same H I->Ce I l row->row.length<=20->∀(t:Y4),I t=none->∃a:List Addr,I l=some (.lst (a.map V.ref))/\a.length<=20/\Ce (upd (upd I t (mT (mm x))) l (.lst (a.map V.ref++[V.ref t]))) l (row++[x])/\Same H (upd (upd I t (mT (mm x))) l (.lst (a.map V.ref++[V.ref t]))):=λ{I row x} S0 W l0 t b=>by
   obtain⟨a,L,M⟩:=W;have a8:a.length=row.length:=by have:=QS M;rw[A_]at this;exact this
   refine⟨a,L,by lia,⟨a++[t],by rw[Al,Cg];rfl,?_⟩,Dy (S0.trans (Ao b _)) hl⟩;rw[Cg];exact oH (X_ (M.same (Ao b _)) (.cons Al .nil)) (Ao b _ _ _ L)
  refine⟨λσ H'=>Same H H'/\Ce H' l (Gj m j c++DR.s2 n j c++DR.s3 n j)/\σ=[some (.ref p),some (.int j),some (.int c),some (.ref l),v,some (.int (n.2.2:Nat)),some (.int (G9 n j:Nat))],?_,?_⟩
  ·refine⟨_,O,_,O,O,_,O,Kh (λne=>?_) (λeq=>⟨S3,?_,O⟩)⟩
   ·have A:G9 n j≠j:=λz=>ne (by rw[z]);have e3:DR.s3 n j=[.swap (j:Int) (G9 n j:Int)]:=by unfold DR.s3;rw[if_neg A]
    obtain⟨b0,h3,r3⟩:=id R3;refine⟨_,O,.inl ⟨O,_,Ag.of h3⟩,_,O,_,O,t3,λt b=>?_⟩;obtain⟨a,L,l0,W,S0⟩:=add (x:=.swap (j:Int) (G9 n j:Int)) S3 R3 (by rw[Ed];lia) t b;refine⟨l,_,_,O,O,Ao b _ _ _ L,?_,S0,?_,O⟩
    ·rw[A_];exact Ob l0 (by decide)
    ·rw[e3];exact W
   ·have J:G9 n j=j:=by lia
    have e3:DR.s3 n j=[]:=by unfold DR.s3;rw[if_pos J]
    rw[e3,KR];exact R3
  rintro σ H4 ⟨S4,R4,rfl⟩;obtain⟨v3,b3⟩:=Xw o3;have a2:Ak (Gj m j c++DR.s2 n j c++DR.s3 n j) m=Ak (DR.s2 n j c++DR.s3 n j) n:=by rw[Ul,JW.Ou,en]
  refine⟨λσ H'=>Same H H'/\Ce H' l (Ey m j c)/\σ=[some (.ref p),some (.int j),some (.int c),some (.ref l),v,some (.int (n.2.2:Nat)),some (.int (G9 n j:Nat))],?_,?_⟩
  ·refine⟨_,O,_,O,p,l,m,_,c,O,S4.tup S,R4,o,c6,v3,b3,by rw[Ed,Ed];lia,λM D g h5=>?_⟩;rw[a2]at h5;refine⟨M,_,_,.int ((Ak (DR.s2 n j c++DR.s3 n j) n).1:Nat),O,O,h5,k0,O,_,O,Kh (λne=>?_) (λeq=>⟨S4.trans g,?_,O⟩)⟩
   ·have A:(Ak (DR.s2 n j c++DR.s3 n j) n).1≠0:=λz=>ne (by rw[z];rfl);have e4:DR.s4 n j c=[.flip (j:Int)]:=by unfold DR.s4;rw[if_neg A]
    have R5:=R4.same g;obtain⟨a9,a6,r5⟩:=id R5;refine⟨_,O,.inl ⟨O,_,Ag.of a6⟩,_,O,t2,λt b=>?_⟩;obtain⟨a,L,l0,W,S0⟩:=add (x:=.flip (j:Int)) (S4.trans g) R5 (by rw[Ed,Ed];lia) t b;refine⟨l,_,_,O,O,Ao b _ _ _ L,?_,S0,?_,O⟩
    ·rw[A_];exact Ob l0 (by decide)
    ·rw[eL,e4];exact W
   ·have J:(Ak (DR.s2 n j c++DR.s3 n j) n).1=0:=by lia
    have e4:DR.s4 n j c=[]:=by unfold DR.s4;rw[if_pos J]
    rw[eL,e4,KR];exact R4.same g
  rintro σ D ⟨g,R5,rfl⟩;exact⟨_,O,q l D hl g R5⟩
end
end Ah
namespace CK
open L2 Pc Ji
noncomputable def top (i:Nat):Stmt:=PySem.Challenge.pw_spinboard_k82_guarded_and_back.main.body.getD i (.Pass ⟨0,0,0,0⟩)
structure Bs (mg:U6):Prop where
 isinstance:mg "isinstance"=none
 int:mg "int"=none
 bool:mg "bool"=none
 tuple:mg "tuple"=none
 list:mg "list"=none
 len:mg "len"=none
 range:mg "range"=none
 enumerate:mg "enumerate"=none
 sorted:mg "sorted"=none
 sum:mg "sum"=none
 str:mg "str"=none
 all:mg "all"=none
 any:mg "any"=none
 min:mg "min"=none
 max:mg "max"=none
theorem pC(m:Nat):Builtin.Int.intBits (m:Int)=bl m:=by
 unfold Builtin.Int.intBits bl;by_cases h:m=0
 ·subst h;rfl
 ·have hb:((m:Int) == 0)=false:=by simpa using h
  rw[hb,if_neg h];simp
noncomputable abbrev T3 (t:Ent):HO:=.tup [.int t.1,.int t.2.1,.int t.2.2]
def Kept (H:Hp):List (Key×V)->List Ent->Prop:=Paired λkv t=>kv.1=Sum.inl (bl t.1:Int)/\∃p,kv.2=.ref p/\H p=some (T3 t)
variable{H H':Hp}{kvs:List (Key×V)}{ts:List Ent}
theorem Kept.same(h:Kept H kvs ts)(s:Same H H'):Kept H' kvs ts :=
 Paired.imp' (λ_ _ ⟨a,p,b,c⟩=>⟨a,p,b,s _ _ c⟩) h
theorem Kept.get{H:Hp}{k:Int}{v:V}:∀{kvs:List (Key×V)}{ts:List Ent},Kept H kvs ts->Dq kvs (Sum.inl k)=some v->∃t∈ts,∃p,(bl t.1:Int)=k/\v=.ref p/\H p=some (T3 t)
 | [],[],_,h=>by simp[X1u]at h
 | kv::kvs,t::ts,.cons ⟨a,p,b,c⟩ r,h=>by
  by_cases e:kv.1=Sum.inl k
  ·rw[YD e]at h;cases h;rw[a]at e;exact⟨t,Lg,p,Sum.inl.inj e,b,c⟩
  ·rw[YC e]at h;obtain⟨t',m,q⟩:=Kept.get r h;exact⟨t',Li _ m,q⟩
theorem Kept.none{H:Hp}{k:Int}:∀{kvs:List (Key×V)}{ts:List Ent},Kept H kvs ts->Dq kvs (Sum.inl k)=none->∀t∈ts,(bl t.1:Int)≠k
 | [],[],_,_,t,ht=>by cases ht
 | kv::kvs,t::ts,.cons ⟨a,p,b,c⟩ r,h,t',ht=>by
  by_cases e:kv.1=Sum.inl k
  ·rw[YD e]at h;cases h
  ·rw[YC e]at h;rcases Dw.mp ht with rfl | ht
   ·intro z;rw[a,z]at e;exact e rfl
   ·exact Kept.none r h t' ht
theorem Kept.snoc{p:Y4}{t:Ent}(h:Kept H kvs ts)(hp:H p=some (T3 t)):Kept H (kvs++[(Sum.inl (bl t.1:Int),.ref p)]) (ts++[t]):=
 Paired.snoc h ⟨O,p,O,hp⟩
theorem Kept.keys{H:Hp}:∀{kvs:List (Key×V)}{ts:List Ent},Kept H kvs ts->kvs.map (·.1)=(ts.map λt=>(bl t.1:Int)).map Sum.inl
 | [],[],_=>rfl
 | kv::kvs,t::ts,.cons ⟨a,_⟩ r=>by rw[Gh,Gh,Gh,Kept.keys r,a]
theorem Kept.length(h:Kept H kvs ts):kvs.length=ts.length:=Paired.length h
noncomputable abbrev T2 (e:Ej):HO:=.tup [.int e.1,.int e.2]
def Eqs (H:Hp):List Addr->List Ej->Prop:=Paired λp e=>H p=some (T2 e)
variable{es:List Ej}
theorem Eqs.same{ps:U5}(h:Eqs H ps es)(s:Same H H'):Eqs H' ps es:=Paired.imp' (λ_ _ c=>s _ _ c) h
theorem Eqs.length{ps:U5}(h:Eqs H ps es):ps.length=es.length:=Paired.length h
theorem Eqs.get{H:Hp}:∀{ps:U5}{es:List Ej}{i:Nat}{p:Y4},Eqs H ps es->ps[i]?=some p->∃e,es[i]?=some e/\H p=some (T2 e)
 | p'::ps,e::es,0,p,.cons a r,h=>by
  have:p'=p:=by simpa using h
  subst this;exact⟨e,O,a⟩
 | p'::ps,e::es,i+1,p,.cons a r,h=>by
  obtain⟨f,b,c⟩:=Eqs.get (ps:=ps) (es:=es) (i:=i) (p:=p) r (by simpa using h);exact⟨f,by simpa using b,c⟩
structure Qe (es:List Ej):Prop where
 bit:∀e∈es,e.2<2
 mask:∀e∈es,e.1<2^200
theorem yC:∀(es:List Ej) (c:Nat),(∀e∈es,e.1<2^200)->(comb es c).1<2^200
 | [],_,_=>by unfold comb;exact Cv 200
 | e::r,c,h=>by
  have a:=yC r (c / 2) λf hf=>h f (Li _ hf);unfold comb;split
  ·exact Lh (h e Lg) a
  ·exact a
def Cy:Sp:=λvs H Q _=>∃n:Nat,vs=[.int n]/\Q (.int (pc n)) H
def xP:Sp:=λvs H Q _=>∃c:Nat,vs=[.int c]/\c<2^64/\∀(l:Y4) (H':Hp),Same H H'->H' l=some (.lst ((places c (bl c)).map λp=>V.int (p:Nat)))->Q (.ref l) H'
def yQ:Sp:=λvs H Q _=>∃(p d:Y4) (t:Ent) (kvs:List (Key×V)) (ts:List Ent) (es:List Ej) (i:Nat) (e:Ej),vs=[.ref p,.ref d]/\H p=some (T3 t)/\H d=some (.dK kvs)/\Kept H kvs ts/\Qe es/\Good es i ts/\Left es i ts e t /\
 ∀(p':Y4) (H':Hp) (t':Ent),Same H H'->H' p'=some (T3 t')->Left es i ts e t'->(∀s∈ts,bl s.1≠bl t'.1)->Q (.ref p') H'
section
variable {P:W3}{w:W6}{K:U0}{mg:U6}{base:Heap}{k:Nat}{h:Heap}
theorem Il:BZ ["number","many","rest"] ["number"] (DG (top 24)):=fS
theorem pL(F:Ab K "ones" (top 24) .none)(X:K.In h)(G:Ng h mg):Ai P w K mg base (k+1) "ones" ["number"] Cy:=by
 refine F.cal X G _ (S:=Il) λa H vs Q E g h=>?_;obtain⟨n,rfl,q⟩:=h
 refine⟨_,(@Av _ _ _ _ _ (@BR _ _ 1 _ _ _ _ a rfl (Or.inl rfl) Ac rfl (.inl rfl))
  (@Av _ _ _ _ _ (@BR _ _ 2 _ _ _ _ a rfl (Or.inl rfl) (pv 0) rfl (.inl rfl))
  (@Av _ _ _ _ _ (Vc PassesOwn.never (CP Jc (pv 2) Ac (Ad _))
   (@Av _ _ _ _ _ (@BR _ _ 2 _ _ _ _ a rfl (Or.inl rfl) (Af Di (pv 2) (Af Gq (pv 2) Ac)) rfl (.inl rfl))
   (@Aj _ _ _ (@BR _ _ 1 _ _ _ _ a rfl (Or.inl rfl) (Af Dn (pv 1) Ac) rfl (.inl rfl)))))
  (@Aj _ _ _ (BJ (pv 1)))))),?_⟩
 try dsimp only[CN]
 refine⟨_,O,λm σ H'=>H'=H/\∃j r:Nat,m=pc r/\j+pc r=pc n/\σ=[some (.int n),some (.int j),some (.int r)],⟨_,O,0,n,O,OD _,O⟩,?_⟩;rintro m σ H' ⟨rfl,j,r,rfl,d,rfl⟩;refine⟨_,O,O,_,O,Kh (λb=>?_) (λb=>?_)⟩
 ·have c:r≠0:=by lia
  have e:=pP (r+1) r (by lia) c;refine⟨_,λf H' x=>x,?_⟩;refine⟨_,O,_,O,_,_,O,O,_,_,O,O,?_⟩;refine⟨_,O,_,_,O,O,⟨pc (r&&&(r-1)),by lia,O,j+1,r&&&(r-1),O,by lia,?_⟩⟩;have e2:Builtin.bitAnd (r:Int) ((r:Int)-1)=((r&&&(r-1):Nat):Int):=by rw[show (r:Int)-1=((r-1:Nat):Int) by lia,Ig]
  show [some (V.int n),some (V.int ((j:Int)+1)),some (V.int (Builtin.bitAnd (r:Int) ((r:Int)-1)))]=_;rw[e2];rfl
 ·have c:r=0:=by lia
  subst c;rw[J1,La]at d;subst d;exact⟨_,O,q⟩
theorem Y6p(F:Ab K "cleared" (top 39) .none)(X:K.In h)(G:Ng h mg):Ai P w K mg base (k+1) "cleared" ["equation","kept"] yQ:=by
 refine F.cal X G ["equation","kept","left","other"] λn H vs Q E g h=>?_;obtain⟨p,d,t,kvs,ts,es,i,e,rfl,hp,hd,A,a,y,R,M⟩:=h
 refine⟨_,(@Av _ _ _ _ _ (@BR _ _ 2 _ _ _ _ n rfl (Or.inl rfl) (pv 0) rfl (.inl rfl))
  (@Av _ _ _ _ _ (Vc PassesOwn.never (zX (W1m (fD g) (QH Ph Od Pk QW (Aw BL (pv 2) Ac (λ_ _=>rfl))) (pv 1)))
   (@Av _ _ _ _ _ (@BR _ _ 3 _ _ _ _ n rfl (Or.inl rfl) (vM (fD g) (pv 1) (QH Ph Od Pk QW (Aw BL (pv 2) Ac (λ_ _=>rfl))) (λ_ _=>rfl)) rfl (.inl rfl))
   (@Aj _ _ _ (@BR _ _ 2 _ _ _ _ n rfl (Or.inl rfl) (@Ci _ _ _ _ _ (Aa (Af JL (Aw BL (pv 2) Ac (λ_ _=>rfl)) (Aw BL (pv 3) Ac (λ_ _=>rfl))) (Aa (Af JL (Aw BL (pv 2) Ac (λ_ _=>rfl)) (Aw BL (pv 3) Ac (λ_ _=>rfl))) (Aa (Af JL (Aw BL (pv 2) Ac (λ_ _=>rfl)) (Aw BL (pv 3) Ac (λ_ _=>rfl))) Ae)))) rfl (.inl rfl)))))
  (@Aj _ _ _ (BJ (pv 2))))),?_⟩
 try dsimp only[CN]
 refine⟨_,O,λm σ H'=>Same H H'/\∃(q:Y4) (u:Ent) (v:Option V),m=u.1/\H' q=some (T3 u)/\Left es i ts e u/\σ=[some (.ref p),some (.ref d),some (.ref q),v],⟨_,Same.refl _,p,t,none,O,hp,R,O⟩,?_⟩;rintro m σ H1 ⟨c,q,u,v,rfl,B,C,rfl⟩;have S:∀{H'},Same H1 H'->Ax K H' q [.int u.1,.int u.2.1,.int u.2.2]:=λz=>Ax.of (z _ _ B);have D:=pC u.1;refine⟨_,O,q,_,_,_,O,O,S (Same.refl _),O,O,_,O,O,?_⟩;rw[D];refine⟨_,O,d,_,O,IK.k (k:=Sum.inl (bl u.1:Int)) (c _ _ hd),_,O,?_⟩;cases hv:Dq kvs (Sum.inl (bl u.1:Int)) with
 | none =>
  refine Bd ⟨_,rfl,?_⟩;exact M q H1 u c B C λs N z=>A.none hv s N (by rw[z])
 | some x =>
  obtain⟨t',I,f,J,rfl,j⟩:=A.get hv;have l:=c _ _ j;have o:∀{H'},Same H1 H'->Ax K H' f [.int t'.1,.int t'.2.1,.int t'.2.2]:=λz=>Ax.of (z _ _ l);refine Ds ⟨_,λT H' x=>x,?_⟩;refine⟨_,O,_,O,q,_,_,_,O,O,S (Same.refl _),O,O,_,O,O,?_⟩;rw[D];refine⟨d,_,O,(by rw[<-hv];exact IK.k (k:=Sum.inl (bl u.1:Int)) (c _ _ hd)),?_⟩;refine⟨_,O,q,_,_,_,O,O,S (Same.refl _),O,_,O,f,_,_,_,O,O,o (Same.refl _),O,_,_,O,O,_,O,q,_,_,_,O,O,S (Same.refl _),O,_,O,f,_,_,_,O,O,o (Same.refl _),O,_,_,O,O,_,O,q,_,_,_,O,O,S (Same.refl _),O,_,O,f,_,_,_,O,O,o (Same.refl _),O,_,_,O,O,(by show 3<=sizeLine;decide),λr g=>?_⟩;have b:bl u.1=bl t'.1:=(Int.ofNat.inj J).symm;have L:u.1≠0:=λz=>y.nz t' I (G4.mp (by rw[<-b,z];rfl));refine⟨u.1^^^t'.1,X1r b L,c.trans (Ao g _),r,(u.1^^^t'.1,u.2.1^^^t'.2.1,u.2.2^^^t'.2.2),_,O,?_,C.step a.bit y I,O⟩;rw[Al];show some (HO.tup [.int (Builtin.bitXor (u.1:Int) t'.1),.int (Builtin.bitXor (u.2.1:Int) t'.2.1),.int (Builtin.bitXor (u.2.2:Int) t'.2.2)])=_;rw[Ko,Ko,Ko]
def uV:Sp:=λvs H Q _=>∃(d:Y4) (kvs:List (Key×V)) (ts:List Ent) (es:List Ej) (i:Nat),vs=[.ref d]/\H d=some (.dK kvs)/\Kept H kvs ts/\Qe es/\Good es i ts/\i<=60 /\
 ∀(x:Nat) (H':Hp),Same H H'->(∀t∈ts,sat x (Dc t))->Q (.int x) H'
def Told (es:List Ej)(H:Hp)(r:Y4):Prop:=(∃x:Nat,H r=some (.tup [.int x,.non])/\∀e∈es,sat x e) \/
 ∃(c:Nat) (q:Y4),H r=some (.tup [.non,.ref q])/\H q=some (.lst ((places c (bl c)).map λp=>V.int (p:Nat)))/\c<2^es.length/\comb es c=(0,1)
def xR (K:U0):Sp:=λvs H Q _=>∃(l:Y4) (ps:U5) (es:List Ej),vs=[.ref l]/\Ag K H l (ps.map V.ref)/\Eqs H ps es/\Qe es/\es.length<=60 /\
 ∀(r:Y4) (H':Hp),Same H H'->Told es H' r->Q (.ref r) H'
theorem JK(x y:Nat):Builtin.bitOr (x:Int) (y:Int)=((x ||| y:Nat):Int):=by
 have h:Builtin.bitXor (x:Int) (y:Int)=Builtin.bitOr x y-Builtin.bitAnd x y:=rfl;rw[Ko,Ig]at h;have e:=YS (x+y+1) x y (by lia) (by lia);lia
theorem Oe(x y:Nat):[V.int (Builtin.bitAnd (x:Int) (y:Int))]=[V.int ((x&&&y:Nat):Int)]:=by rw[Ig]
theorem vp:(0:Int)<2:=by decide
theorem GJ:Sz 1 1:=by decide +kernel
theorem Kept.upd{d:Y4}{kv0 kv1:List (Key×V)}(h:Kept H kvs ts)(hd:H d=some (.dK kv0)):Kept (upd H d (.dK kv1)) kvs ts :=
 Paired.imp' (λ_ _ ⟨a,p,b,c⟩=>⟨a,p,b,by rw[Cj (Lw c hd (by intro z;cases z))];exact c⟩) h
theorem t2:2<=sizeLine:=by decide
theorem qJ:(0:Int)<4:=by decide
theorem LK{n:Nat}(h:n<=64):n<=sizeLine:=Ek h (by decide)
theorem Y9i(F:Ab K "places_at_one" (top 40) .none)(X:K.In h)(G:Ng h mg)(B:Bs mg):Ai P w K mg base (k+1) "places_at_one" ["number"] xP:=by
 refine F.cal X G ["number"] λt H vs Q E u h=>?_;obtain⟨c,rfl,j,l⟩:=h;have hb:bl c<=64:=Ie.mpr j;refine⟨_,(@Aj _ _ _ (BJ (VD rfl (Bl.of (Nc:=["place","number"]) (mp:=[none,some 0]) (by kernel_rfl)) (J3 rfl B.range (Aa (QH Ph Od Pk QW (pv 0)) Ae)) (λ_ _ _ _=>(CV (i:=0) (show (["place","number"]:W5).Nodup by decide +kernel) rfl (Or.inl rfl))) (λ_ _ _ _=>(Kr (Af Di (Af Jd (pv 1) (pv 0)) Ac) (by intro _;rfl))) (λ_ _ _ _=>(pv 0))))),?_⟩;try dsimp only[CN]
 refine⟨_,O,O,_,O,O,?_⟩;rw[pC];refine⟨_,O,by lia,by lia,λacc a=>?_⟩;rw[Dm];refine oF (n:=bl c) (fr:=[some (.int c)]) (λi ys H'=>Same H H'/\H' acc=some (.lst ys)/\ys=(places c i).map λp=>V.int (p:Nat)) (LK hb) ⟨Ao a _,Al,O⟩ ?_ (λr z=>?_) ?_
 ·rintro i ys H2 N hi s ⟨s2,f,rfl⟩ o;refine⟨_,O,_,O,_,_,O,O,by lia,_,_,O,O,_,O,?_⟩;have g:(0:Int)+(i:Int)=(i:Int):=KJ _;have e1:(c:Int) / 2^(0+(i:Int)).toNat=((c / 2^i:Nat):Int):=by rw[g,Dm];simp
  have e2:Builtin.bitAnd ((c / 2^i:Nat):Int) 1=((c / 2^i%2:Nat):Int):=by
   have:=Ig (c / 2^i) 1;rw[jE]at this;exact this
  have ps:=YK c i;rw[e1,e2];refine o _ _ (λb=>?_) (λd=>?_)
  ·have h1:c / 2^i%2=1:=by
    have:c / 2^i%2≠0:=λz=>by rw[z]at b;cases b
    lia
   rw[if_pos h1]at ps;refine⟨_,O,f,Dy s2 a,Al,?_⟩;rw[ps,Cg,g];rfl
  ·have m:¬ c / 2^i%2=1:=λz=>by rw[z]at d;cases d
   rw[if_neg m,KR]at ps;exact⟨s2,f,by rw[ps]⟩
 ·obtain⟨v,e,q⟩:=z;exact⟨v,e,r _ _ q⟩
 ·rintro ys H2 ⟨s2,f,rfl⟩;exact l acc H2 s2 f
theorem Y2s(F:Ab K "solution" (top 41) .none)(X:K.In h)(G:Ng h mg)(B:Bs mg)(cP:Ai P w K mg base k "ones" ["number"] Cy):Ai P w K mg base (k+1) "solution" ["kept"] uV:=by
 refine F.cal X G ["kept","x","height","equation"] λnd H vs Q E M h=>?_;obtain⟨d,kvs,ts,es,i,rfl,hd,s,b,c,hi,Z⟩:=h;have L:=s.length;have I:=c.len
 refine⟨_,(@Av _ _ _ _ _ (@BR _ _ 1 _ _ _ _ nd rfl (Or.inl rfl) Ac rfl (.inl rfl))
  (@Av _ _ _ _ _ (Hy PassesOwn.never rfl (GC (CG (Y1s rfl) rfl B.sorted boot_sorted (Aa (pv 0) Ae))) (CV (i:=2) nd rfl (Or.inl rfl))
   (@Av _ _ _ _ _ (@BR _ _ 3 _ _ _ _ nd rfl (Or.inl rfl) (vM (fD M) (pv 0) (pv 2) (λ_ _=>rfl)) rfl (.inl rfl))
   (@Aj _ _ _ (B_ (CP Jc (Af Dp (Ay cP M rfl (Aa (Af Di (Aw BL (pv 3) Ac (λ_ _=>rfl)) (pv 1)) Ae)) Ac) (Aw BL (pv 3) Ac (λ_ _=>rfl)) (Ad _))
    (@Aj _ _ _ (@BR _ _ 1 _ _ _ _ nd rfl (Or.inl rfl) (Af Nq (pv 1) (Af Ft Ac (Af Gq (pv 2) Ac))) rfl (.inl rfl)))
    CJ))))
  (@Aj _ _ _ (BJ (pv 1))))),?_⟩
 try dsimp only[CN]
 refine⟨_,O,d,kvs,_,O,hd,s.keys,by lia,λl ks Y perm y=>?_⟩;have A:=Ao Y (.lst (ks.map V.int));have o:=X9b c.nd perm y;refine⟨l,O,⟨_,Ag.of Al⟩,Ly (K:=K) (a:=l) (xs:=ks.map V.int) (λj σ H'=>Same (upd H l (.lst (ks.map V.int))) H'/\∃(x:Nat) (v2 u:Option V),O1 ts ks j x/\σ=[some (.ref d),some (.int x),v2,u]) ⟨Same.refl _,0,none,none,O1.start ts ks,O⟩ (λj σ H' _ e=>Ag.of (e.1 _ _ Al)) ?_ ?_⟩
 ·rintro j xv σ H1 D ⟨g,x,v2,u,S,rfl⟩;rw[Cz]at D;obtain⟨W,q,rfl⟩:=Fz.mp D;have hm:W∈ts.map λt=>(bl t.1:Int):=perm.mem_iff.mp (Ke q);obtain⟨J,r,rfl⟩:=GP.mp hm;have C:=g _ _ (A _ _ hd);have m:=(s.same A).same g;cases hv:Dq kvs (Sum.inl (bl J.1:Int)) with
  | none=>exact absurd rfl (m.none hv J r)
  | some v =>
   obtain⟨t,n,p,R,rfl,hp⟩:=m.get hv;have hb:t.2.1<2:=by
    have:(Dc t).2<2:=by rw[<-c.com t n];exact X5 es _ b.bit
    exact this
   have f:t.1<2^200:=by
    have:(Dc t).1<2^200:=by rw[<-c.com t n];exact yC es _ b.mask
    exact this
   have a0:bl t.1<=200:=Ie.mpr f;have h0:bl t.1≠0:=λz=>c.nz t n (G4.mp z);rw[<-R]at q hv ⊢;have st:=S.step c.nd o n (c.nz t n) hb q;have N:Ax K H1 p [.int t.1,.int t.2.1,.int t.2.2]:=Ax.of hp;refine⟨_,O,_,O,d,_,O,(by rw[<-hv];exact IK.k (k:=Sum.inl (bl t.1:Int)) C),?_⟩;refine⟨_,O,p,_,_,_,O,O,N,O,_,O,_,_,O,O,t.1&&&x,Oe _ _,_,_,O,O,vp,_,O,p,_,_,_,O,O,N,O,O,_,O,Kh (λT=>?_) (λU=>?_)⟩
   ·have hn:¬ sat x (Dc t):=λz=>T (by show ((pc (t.1&&&x):Nat):Int)%2=(t.2.1:Int);have:pc (t.1&&&x)%2=t.2.1:=z;lia);refine⟨_,O,_,O,_,_,O,O,_,_,O,O,⟨1,GJ,by lia,by lia⟩,_,_,O,O,g,x ||| 2^(bl t.1-1),some (V.int (bl t.1:Int)),some (V.ref p),st.2 hn,?_⟩;have e1:(1:Int)*2^((bl t.1:Int)-1).toNat=((2^(bl t.1-1):Nat):Int):=by
     rw[show ((bl t.1:Int)-1).toNat=bl t.1-1 by lia];simp
    show [some (V.ref d),some (V.int (Builtin.bitOr (x:Int) (1*2^((bl t.1:Int)-1).toNat))),some (V.int (bl t.1:Int)),some (V.ref p)]=_;rw[e1,JK]
   ·have hs:sat x (Dc t):=by
     show pc (t.1&&&x)%2=t.2.1;have:((pc (t.1&&&x):Nat):Int)%2=(t.2.1:Int):=U;lia
    exact⟨g,x,_,_,st.1 hs,O⟩
 ·rintro σ H1 ⟨g,x,v2,u,S,rfl⟩;rw[A_]at S;exact⟨_,O,Z x H1 (A.trans g) (S.all perm)⟩
theorem Y9e(F:Ab K "solved" (top 38) .none)(X:K.In h)(G:Ng h mg)(B:Bs mg)(eS:Ai P w K mg base k "cleared" ["equation","kept"] yQ)(dM:Ai P w K mg base k "places_at_one" ["number"] xP)(eR:Ai P w K mg base k "solution" ["kept"] uV):Ai P w K mg base (k+1) "solved" ["equations"] (xR K):=by
 refine F.cal X G ["equations","kept","place","equation","left"] λS H vs Q E m h=>?_;obtain⟨l,ps,es,rfl,hS,he,b,a4,kq⟩:=h;have J:=he.length
 refine⟨_,(@Av _ _ _ _ _ (@BR _ _ 1 _ _ _ _ S rfl (Or.inl rfl) X2t rfl (.inl rfl))
  (@Av _ _ _ _ _ (Hy PassesOwn.never rfl (Tc rfl B.enumerate (Aa (pv 0) Ae)) (@RD _ _ _ _ _ _ rfl (@GF _ _ _ _ _ (@CV _ _ 2 _ S rfl (Or.inl rfl) (by first | exact .inl rfl | exact .inr rfl)) (@GF _ _ _ _ _ (@CV _ _ 3 _ S rfl (Or.inl rfl) (by first | exact .inl rfl | exact .inr rfl)) RK rfl) rfl) rfl rfl)
   (@Av _ _ _ _ _ (@BR _ _ 4 _ _ _ _ S rfl (Or.inl rfl) (Ay eS m rfl (Aa (@Ci _ _ _ _ _ (Aa (Aw BL (pv 3) Ac (λ_ _=>rfl)) (Aa (Aw BL (pv 3) Ac (λ_ _=>rfl)) (Aa (Af Ft Ac (pv 2)) Ae)))) (Aa (pv 1) Ae))) rfl (.inl rfl))
   (@Aj _ _ _ (B_ (CP Jc (Aw BL (pv 4) Ac (λ_ _=>rfl)) Ac (Ad _))
    (@Aj _ _ _ (X7i (fD m) (pv 1) (QH Ph Od Pk QW (Aw BL (pv 4) Ac (λ_ _=>rfl))) (pv 4) rfl))
    (@Aj _ _ _ (B_ (CP Df (Aw BL (pv 4) Ac (λ_ _=>rfl)) Ac (Ad _))
     (@Aj _ _ _ (BJ (@Ci _ _ _ _ _ (Aa Yb (Aa (Ay dM m rfl (Aa (Aw BL (pv 4) Ac (λ_ _=>rfl)) Ae)) Ae)))))
     CJ))))))
  (@Aj _ _ _ (BJ (@Ci _ _ _ _ _ (Aa (Ay eR m rfl (Aa (pv 1) Ae)) (Aa Yb Ae))))))),?_⟩
 try dsimp only[CN]
 refine λd hd=>?_
 refine⟨_,O,l,_,O,(Ao hd _).seq hS,wJ (K:=K) (a:=l) (xs:=ps.map V.ref) (λi σ H'=>Same H H'/\∃(kvs:List (Key×V)) (ts:List Ent) (v2 v3 v4:Option V),H' d=some (.dK kvs)/\Kept H' kvs ts/\Good es i ts/\σ=[some (.ref l),some (.ref d),v2,v3,v4])
  ⟨Ao hd _,[],[],none,none,none,Al,.nil,Good.start es,O⟩ (λi σ H' _ e=>e.1.seq hS) ?_ ?_⟩
 ·rintro i x σ H1 T hx ⟨U,kvs,ts,v2,v3,v4,c,I,g,rfl⟩ hT;rw[Cz]at hx;obtain⟨p,hp,rfl⟩:=Fz.mp hx;obtain⟨e,Z,a0⟩:=he.get hp;have a3:i<es.length:=(Fq.mp Z).1;have C:=Ao hT (.tup [.int i,.ref p]);have L:=C _ _ (U _ _ a0);have SP:Ax K (upd H1 T (.tup [.int i,.ref p])) p [.int e.1,.int e.2]:=Ax.of L;refine⟨T,_,O,Ax.of Al,O,_,_,O,_,_,O,O,?_⟩;refine⟨_,O,p,_,_,_,O,O,SP,O,_,O,p,_,_,_,O,O,SP,O,_,O,_,_,O,O,⟨1,GJ,by lia,by lia⟩,(by show 3<=sizeLine;decide),λr m=>?_⟩;have N:=Ao m (.tup [.int e.1,.int e.2,.int ((1:Int)*2^((i:Int)).toNat)]);have e1:(1:Int)*2^((i:Int)).toNat=((2^i:Nat):Int):=by simp
  have a5:upd (upd H1 T (.tup [.int i,.ref p])) r (.tup [.int e.1,.int e.2,.int ((1:Int)*2^((i:Int)).toNat)]) r=some (T3 (e.1,e.2,2^i)):=by rw[Al,e1]
  refine⟨_,O,r,d,(e.1,e.2,2^i),kvs,ts,es,i,e,O,a5,N _ _ (C _ _ c),(I.same C).same N,b,g,Left.start Z,λy H2 t s2 n M apart=>?_⟩;have A:=((U.trans C).trans N).trans s2;have f:=s2 _ _ (N _ _ (C _ _ c));have o:=((I.same C).same N).same s2;have Y:Ax K H2 y [.int t.1,.int t.2.1,.int t.2.2]:=Ax.of n;refine⟨_,O,y,_,_,_,O,O,Y,O,O,_,O,Kh (λne=>?_) (λeq=>?_)⟩
  ·have W:t.1≠0:=λz=>ne (by rw[z];rfl);refine⟨_,O,_,O,_,O,y,_,_,_,O,O,Y,O,O,_,O,O,?_⟩;rw[pC];have hn:Dq kvs (Sum.inl (bl t.1:Int))=none:=by
    cases hv:Dq kvs (Sum.inl (bl t.1:Int)) with
    | none=>rfl
    | some v =>
     obtain⟨u,hu,q,eh,_⟩:=o.get hv;exact absurd (Int.ofNat.inj eh) (apart u hu)
   have a7:=I.length;have a6:=g.len;refine⟨d,_,O,N5.k (k:=Sum.inl (bl t.1:Int)) f (DK (show kvs.length<64 by lia) (by decide)),Dy A hd,_,ts++[t],some (V.int i),some (V.ref p),some (V.ref y),Al,?_,g.put Z M W apart,O⟩;rw[X2m _ hn];exact(o.upd f).snoc (by rw[Cj (Lw n f (by intro z;cases z))];exact n)
  ·have W:t.1=0:=Int.ofNat.inj eq;have tb:=M.bit b.bit;refine⟨_,O,y,_,_,_,O,O,Y,O,O,_,O,Iv (λs=>?_) (λs=>?_)⟩
   ·have b1:t.2.1=1:=Int.ofNat.inj s;have D:t.2.2<2^es.length:=DK M.lt (G3 (by decide) a3);refine⟨_,O,y,_,_,_,O,O,Y,O,t.2.2,O,DK D (G3 (by decide) (by lia)),λql H3 s3 a2=>⟨t2,λrr R=>?_⟩⟩;refine kq rr _ ((A.trans s3).trans (Ao R _)) (.inr ⟨t.2.2,ql,Al,Ao R _ _ _ a2,D,?_⟩);rw[M.com];show (t.1,t.2.1)=_;rw[W,b1]
   ·have b0:t.2.1=0:=by
     have:¬ t.2.1=1:=λz=>s (by rw[z];rfl);lia
    exact⟨A,kvs,ts,some (V.int i),some (V.ref p),some (V.ref y),f,o,g.skip Z M W b0,O⟩
 ·rintro σ H1 ⟨U,kvs,ts,v2,v3,v4,c,I,g,rfl⟩;rw[A_,J]at g;refine⟨_,O,d,kvs,ts,es,es.length,O,c,I,b,g,a4,λx H2 s2 hs=>⟨t2,λr m=>?_⟩⟩;refine kq r _ ((U.trans s2).trans (Ao m _)) (.inl ⟨x,Al,λe a1=>?_⟩);obtain⟨j,hj,rfl⟩:=W_.mp a1;exact g.all x hs j _ hj (GR hj)
end
end CK
namespace CK
open L2 Pc Ji Ny
def FW (H:Hp):List Addr->List Mk->Prop:=Paired λp m=>H p=some (T3 m)
variable{H:Hp}{ps:U5}{ms:List Mk}
theorem FW.same{H':Hp}(h:FW H ps ms)(s:Same H H'):FW H' ps ms:=Paired.imp' (λ_ _ c=>s _ _ c) h
theorem FW.length(h:FW H ps ms):ps.length=ms.length:=Paired.length h
theorem FW.get{H:Hp}:∀{ps:U5}{ms:List Mk}{i:Nat}{p:Y4},FW H ps ms->ps[i]?=some p->∃e,ms[i]?=some e/\H p=some (T3 e)
 | p'::ps,e::es,0,p,.cons a r,h=>by
  have:p'=p:=by simpa using h
  subst this;exact⟨e,O,a⟩
 | p'::ps,e::es,i+1,p,.cons a r,h=>by
  obtain⟨f,b,c⟩:=FW.get (ps:=ps) (ms:=es) (i:=i) (p:=p) r (by simpa using h);exact⟨f,by simpa using b,c⟩
theorem FW.at{i:Nat}(h:FW H ps ms)(hi:i<ms.length):∃p,ps[i]?=some p/\H p=some (T3 (ms.getD i (0,0,0))):=by
 have b:=h.length;have e1:ps[i]?=some (ps[i]'(by lia)):=by simp[show i<ps.length by lia]
 obtain⟨e,e2,a⟩:=h.get e1;refine⟨_,e1,?_⟩;rw[Ef,e2];exact a
noncomputable abbrev gb (m:Mk):List Int:=[(m.1:Int),(m.2.1:Int),(m.2.2:Int)]
noncomputable abbrev L3 (m:Mk):List V:=[.int m.1,.int m.2.1,.int m.2.2]
def yX (K:U0):Sp:=λvs H Q _=>∃(p p':Y4) (m m':Mk),vs=[.ref p,.ref p']/\Ax K H p (L3 m)/\Ax K H p' (L3 m')/\∀(r:Y4) (H':Hp),Same H H'->H' r=some (T3 (mul m m'))->Q (.ref r) H'
def ug (K:U0):Sp:=λvs H Q _=>∃(l:Y4) (ps:U5) (ms:List Mk),vs=[.ref l]/\Ag K H l (ps.map V.ref)/\FW H ps ms/\∀(r:Y4) (H':Hp),Same H H'->Ax K H' r (L3 (prod ms))->Q (.ref r) H'
def uU (K:U0):Sp:=λvs H Q _=>∃(l:Y4) (ps:U5) (ms:List Mk) (pt:Int) (fs:W8) (n:Nat),vs=[.ref l,.int pt,.int n]/\Ag K H l (ps.map V.ref)/\FW H ps ms/\ms.length<=60 /\
 (pt=1/\fs=ms.map (·.2.1)\/pt=2/\fs=ms.map (·.2.2))/\∀H',Same H H'->Q (.int (Wm fs n fs.length:Nat)) H'
def Xy (K:U0):Sp:=λvs H Q _=>∃(l:Y4) (c n:Nat),vs=[.ref l,.int n]/\Ag K H l ((places c (bl c)).map λp=>V.int (p:Nat))/\n<=6/\c<2^(n+n) /\
 ∀(r:Y4) (H':Hp),Same H H'->H' r=some (T3 (pc (c / 2^n&&&c%2^n)%4,c / 2^n,c%2^n))->Q (.ref r) H'
theorem wK(c k:Nat):∀N,((((places c N).map λp=>((p:Nat):Int)).filter λz:Int=>decide ((k:Int)<=z)).map λz:Int=>(1:Int)*2^(z-(k:Int)).toNat).sum=((c%2^N / 2^k:Nat):Int)
 | 0=>by simp[places,Wk]
 | N+1=>by
  have b:=wK c k N;have p:=Cv k;rw[YK,Cg,Rn,Cg,iY,b,Z8];show _+((((if bit c N=1 then [N] else []).map λp=>((p:Nat):Int)).filter λz:Int=>decide ((k:Int)<=z)).map λz:Int=>(1:Int)*2^(z-(k:Int)).toNat).sum=_;have i:c%2^N<2^N:=KH _ (Cv N);rcases (by have:=Ho c N;lia:bit c N=0\/bit c N=1) with z | z
  ·rw[z];simp
  ·rw[z,if_pos rfl,PN];by_cases hk:k<=N
   ·obtain⟨d,rfl⟩:∃d,N=k+d:=⟨N-k,by lia⟩;have e:(c%2^(k+d)+2^(k+d)) / 2^k=c%2^(k+d) / 2^k+2^d:=by rw[HW,Nat.add_mul_div_left _ _ p]
    rw[e];have a:(k:Int)<=(k:Int)+d:=by lia
    have g:((k:Int)+d).toNat-k=d:=by lia
    simp[a,g]
   ·have e:(c%2^N+2^N) / 2^k=0:=Wx (by
     have:=G3 (show 0<2 by decide) (show N+1<=k by lia)
     rw[KQ]at this
     lia)
    have f:c%2^N / 2^k=0:=Wx (Rk i (Kg (by decide) (by lia)));rw[e,f];have h:¬ ((k:Int)<=N):=by lia
    simp[h]
theorem uz(c k:Nat):∀N,((((places c N).map λp=>((p:Nat):Int)).filter λz=>decide (z<(k:Int))).map λz=>(1:Int)*2^z.toNat).sum=((c%2^N%2^k:Nat):Int)
 | 0=>by simp[places,Wk]
 | N+1=>by
  have a:=uz c k N;rw[YK,Cg,Rn,Cg,iY,a,Z8];show _+((((if bit c N=1 then [N] else []).map λp=>((p:Nat):Int)).filter λz=>decide (z<(k:Int))).map λz=>(1:Int)*2^z.toNat).sum=_;have f:c%2^N<2^N:=KH _ (Cv N);rcases (by have:=Ho c N;lia:bit c N=0\/bit c N=1) with z | z
  ·rw[z];simp
  ·rw[z,if_pos rfl,PN];by_cases hk:k<=N
   ·obtain⟨d,rfl⟩:∃d,N=k+d:=⟨N-k,by lia⟩;have e:(c%2^(k+d)+2^(k+d))%2^k=c%2^(k+d)%2^k:=by rw[HW,Nat.add_mul_mod_self_left]
    rw[e];have b:¬ ((k:Int)+d<k):=by lia
    simp[b]
   ·have hp:2*2^N<=2^k:=by
     have:=G3 (show 0<2 by decide) (show N+1<=k by lia);rw[KQ]at this;exact this
    rw[NQ (show c%2^N+2^N<2^k by lia),NQ (show c%2^N<2^k by lia)];simp[show N<k by lia]
theorem t3:3<=sizeLine:=by decide
theorem VJ(x:Nat):Builtin.bitAnd (x:Int) 1=((x%2:Nat):Int):=by
 have:=Ig x 1;rw[jE]at this;exact this
section
variable {P:W3}{w:W6}{K:U0}{mg:U6}{base:Heap}{k:Nat}{h:Heap}
theorem Y6m(F:Ab K "product" (top 30) .none)(X:K.In h)(G:Ng h mg)(cP:Ai P w K mg base k "ones" ["number"] Cy):Ai P w K mg base (k+1) "product" ["one","other"] (yX K):=by
 refine F.cal X G ["one","other","met"] λg H vs Q E e h=>?_;obtain⟨p,c,m,a,rfl,b,d,f⟩:=h
 refine⟨_,(@Av _ _ _ _ _ (@BR _ _ 2 _ _ _ _ g rfl (Or.inl rfl) (Ay cP e rfl (Aa (Af Di (Aw BL (pv 0) Ac (λ_ _=>rfl)) (Aw BL (pv 1) Ac (λ_ _=>rfl))) Ae)) rfl (.inl rfl))
  (@Aj _ _ _ (BJ (@Ci _ _ _ _ _ (Aa (Af Dp (Af Dn (Af Dn (Aw BL (pv 0) Ac (λ_ _=>rfl)) (Aw BL (pv 1) Ac (λ_ _=>rfl))) (Af J0 Ac (pv 2))) Ac) (Aa (Af JL (Aw BL (pv 0) Ac (λ_ _=>rfl)) (Aw BL (pv 1) Ac (λ_ _=>rfl))) (Aa (Af JL (Aw BL (pv 0) Ac (λ_ _=>rfl)) (Aw BL (pv 1) Ac (λ_ _=>rfl))) Ae))))))),?_⟩
 try dsimp only[CN]
 refine⟨_,O,p,_,_,_,O,O,b,O,_,O,c,_,_,_,O,O,d,O,_,_,O,O,m.2.2&&&a.2.1,Oe _ _,?_⟩;refine⟨_,O,p,_,_,_,O,O,b,O,_,O,c,_,_,_,O,O,d,O,_,_,O,O,_,O,_,_,O,O,.inl ⟨by decide,by decide⟩,_,_,O,O,_,_,O,O,qJ,?_⟩;refine⟨_,O,p,_,_,_,O,O,b,O,_,O,c,_,_,_,O,O,d,O,_,_,O,O,_,O,p,_,_,_,O,O,b,O,_,O,c,_,_,_,O,O,d,O,_,_,O,O,t3,λr e=>?_⟩;refine f r _ (Ao e _) ?_;rw[Al];show some (HO.tup [.int (((m.1:Int)+a.1+2*((pc (m.2.2&&&a.2.1):Nat):Int))%4),.int (Builtin.bitXor (m.2.1:Int) a.2.1),.int (Builtin.bitXor (m.2.2:Int) a.2.2)])=_;rw[Ko,Ko];rfl
theorem Y9h(F:Ab K "product_of" (top 50) .none)(X:K.In h)(G:Ng h mg){aP:Y4}(gP:mg "PRODUCT_OF_NONE"=some (.ref aP))(sP:∀H:Hp,Ax K H aP (L3 (0,0,0)))
  (eZ:Ai P w K mg base k "product" ["one","other"] (yX K)):Ai P w K mg base (k+1) "product_of" ["marks"] (ug K):=by
 refine F.cal X G ["marks","made","mark"] λj H vs Q E n h=>?_;obtain⟨l,ps,ms,rfl,q,s,u⟩:=h;have b:=s.length
 refine⟨_,(@Av _ _ _ _ _ (@BR _ _ 1 _ _ _ _ j rfl (Or.inl rfl) (QL (v:=.ref aP) rfl gP rfl) rfl (.inl rfl))
  (@Av _ _ _ _ _ (Hy PassesOwn.never rfl (GC (pv 0)) (CV (i:=2) j rfl (Or.inl rfl))
   (@Aj _ _ _ (@BR _ _ 1 _ _ _ _ j rfl (Or.inl rfl) (Ay eZ n rfl (Aa (pv 1) (Aa (pv 2) Ae))) rfl (.inl rfl))))
  (@Aj _ _ _ (BJ (pv 1))))),?_⟩
 try dsimp only[CN]
 refine⟨_,O,l,O,⟨_,q⟩,Ly (K:=K) (a:=l) (xs:=ps.map V.ref) (λi σ H'=>Same H H'/\∃(p:Y4) (v:Option V),Ax K H' p (L3 ((ms.take i).foldl mul (0,0,0)))/\σ=[some (.ref l),some (.ref p),v]) ⟨Same.refl _,aP,none,sP H,O⟩ (λi σ H' _ e=>e.1.seq q) ?_ ?_⟩
 ·rintro i x σ H1 o ⟨c,p,v,sp,rfl⟩;rw[Cz]at o;obtain⟨t,g,rfl⟩:=Fz.mp o;obtain⟨m,d,f⟩:=s.get g;refine⟨_,O,_,O,p,t,_,m,O,sp,Ax.of (c _ _ f),λr H2 s2 n=>⟨c.trans s2,r,_,?_,O⟩⟩;rw[Js,d,Kz,ZS];exact Ax.of n
 ·rintro σ H1 ⟨c,p,v,sp,rfl⟩;rw[A_,b,Kc]at sp;exact⟨_,O,u p H1 c sp⟩
theorem Y2t(F:Ab K "rows_with" (top 49) .none)(X:K.In h)(G:Ng h mg)(B:Bs mg):Ai P w K mg base (k+1) "rows_with" ["rows","part","cell"] (uU K):=by
 refine F.cal X G ["rows","part","cell"] λI H vs Q E J h=>?_;obtain⟨l,ps,ms,pt,fs,n,rfl,s,u,A,c,z⟩:=h;have d:=u.length;have fl:fs.length=ms.length:=by rcases c with ⟨_,rfl⟩ | ⟨_,rfl⟩<;>exact A_ _
 refine⟨_,(@Aj _ _ _ (BJ (CG (oA rfl) rfl B.sum boot_sum (Aa (HY rfl (Bl.of (Nc:=["place","row","part","cell"]) (mp:=[none,none,some 1,some 2]) (by kernel_rfl)) (Tc rfl B.enumerate (Aa (pv 0) Ae)) (λ_ _ _ _=>(Vb rfl (show (["place","row","part","cell"]:W5).Nodup by decide +kernel) rfl rfl rfl rfl)) (λ_ _ _ _=>(Af Ft (Af Di (Af Jd (Aw VG (pv 1) (pv 2) (λ_ _=>rfl)) (pv 3)) Ac) (pv 0)))) Ae)))),?_⟩;try dsimp only[CN]
 refine⟨_,O,l,_,O,s,λacc b=>?_⟩;refine X8w (l:=l) (xs:=ps.map V.ref) (fr:=[some (.int pt),some (.int n)]) (λi _=>.int (((bit (fs.getD i 0) n:Nat):Int)*2^i)) (by rw[A_];exact LK (by lia)) b s (λh q=>⟨_,_,O,Ax.of h,O,_,_,O,_,_,O,O,q⟩) ?_ ?_
 ·intro i x H2 N p s2 C;rw[Cz]at p;obtain⟨r,g,rfl⟩:=Fz.mp p;obtain⟨m,a,f⟩:=u.get g;have y:i<ms.length:=(Fq.mp a).1;have S:Ax K H2 r (L3 m):=Ax.of (s2 _ _ f);have o:HF (L3 m) pt=some (.int (fs.getD i 0:Nat)):=by
   rcases c with ⟨rfl,rfl⟩ | ⟨rfl,rfl⟩<;>rw[Ef,Cz,a]<;>rfl
  have D:=Ho (fs.getD i 0) n;have e1:((fs.getD i 0:Nat):Int) / 2^((n:Int)).toNat=((fs.getD i 0 / 2^n:Nat):Int):=by rw[Dm];simp
  refine⟨_,O,_,O,r,_,_,_,O,O,S,o,_,O,_,_,O,O,by lia,_,_,O,O,_,O,?_⟩;show rI Yv (λi j=>V.int (i*2^j.toNat)) (V.int (Builtin.bitAnd (((fs.getD i 0:Nat):Int) / 2^((n:Int)).toNat) 1)) (V.int (i:Int)) H2 N;rw[e1,VJ];refine⟨_,_,O,O,⟨1,?_,by lia,by lia⟩,?_⟩
  ·show ((bit (fs.getD i 0) n:Nat):Int).natAbs<2^1;lia
  ·show N (.int (((bit (fs.getD i 0) n:Nat):Int)*2^((i:Int)).toNat)) H2;rw[Dm];exact C
 ·intro H2 s2 t;have e:((ps.map V.ref).mapIdx λi _=>V.int (((bit (fs.getD i 0) n:Nat):Int)*2^i))=(fs.mapIdx λi v=>((bit v n:Nat):Int)*2^i).map V.int:=by
   apply List.ext_getElem
   ·simp[d,fl]
   ·intro i h1 h2;simp only[A_,List.length_mapIdx]at h2;simp[h2]
  rw[e]at t;refine⟨acc,_,O,Ag.of t,?_⟩;have:=yj fs n fs.length (CT _);rw[Kc]at this;rw[this];exact z H2 s2
theorem G7:BZ ["numbers","cells","flips","signs"] ["numbers","cells"] (DG (top 51)):=fS
theorem nR(F:Ab K "apart_by" (top 51) .none)(X:K.In h)(G:Ng h mg)(B:Bs mg)(cP:Ai P w K mg base k "ones" ["number"] Cy):Ai P w K mg base (k+1) "apart_by" ["numbers","cells"] (Xy K):=by
 refine F.cal X G _ (S:=G7) λs H vs Q E q h=>?_;obtain⟨l,c,n,rfl,j,D,u,v⟩:=h;have y:((places c (bl c)).map λp=>V.int (p:Nat))=((places c (bl c)).map λp=>((p:Nat):Int)).map V.int:=by rw[KN];rfl
 rw[y]at j;have hb:bl c<=n+n:=Ie.mpr u;have a:∀z∈(places c (bl c)).map λp=>((p:Nat):Int),∃p:Nat,z=p/\p<12:=λz m=>by
  obtain⟨p,hp,rfl⟩:=GP.mp m;exact⟨p,O,by have:=aR hp;lia⟩
 have b:((places c (bl c)).map λp=>((p:Nat):Int)).length<=sizeLine:=by
  rw[A_];exact LK (Ek (jO _ _) (by rw[ZV];lia))
 have hi:=wK c n (bl c);have lo:=uz c n (bl c);rw[NQ (dw c)]at hi lo;generalize ((places c (bl c)).map λp=>((p:Nat):Int))=ns at *
 refine⟨_,(@Av _ _ _ _ _ (@BR _ _ 2 _ _ _ _ s rfl (Or.inl rfl) (CG (oA rfl) rfl B.sum boot_sum (Aa (VD rfl (Bl.of (Nc:=["number","cells"]) (mp:=[none,some 1]) (by kernel_rfl)) (GC (pv 0)) (λ_ _ _ _=>(CV (i:=0) (show (["number","cells"]:W5).Nodup by decide +kernel) rfl (Or.inl rfl))) (λ_ _ _ _=>(CP YQ (pv 0) (pv 1) (Ad _))) (λ_ _ _ _=>(Af Ft Ac (Af Gq (pv 0) (pv 1))))) Ae)) rfl (.inl rfl))
  (@Av _ _ _ _ _ (@BR _ _ 3 _ _ _ _ s rfl (Or.inl rfl) (CG (oA rfl) rfl B.sum boot_sum (Aa (VD rfl (Bl.of (Nc:=["number","cells"]) (mp:=[none,some 1]) (by kernel_rfl)) (GC (pv 0)) (λ_ _ _ _=>(CV (i:=0) (show (["number","cells"]:W5).Nodup by decide +kernel) rfl (Or.inl rfl))) (λ_ _ _ _=>(CP Og (pv 0) (pv 1) (Ad _))) (λ_ _ _ _=>(Af Ft Ac (pv 0)))) Ae)) rfl (.inl rfl))
  (@Aj _ _ _ (BJ (@Ci _ _ _ _ _ (Aa (Af Dp (Ay cP q rfl (Aa (Af Di (pv 2) (pv 3)) Ae)) Ac) (Aa (pv 2) (Aa (pv 3) Ae)))))))),?_⟩
 try dsimp only[CN]
 refine⟨_,O,l,O,⟨_,j⟩,λacc f=>?_⟩;refine wN (l:=l) (ns:=ns) (fr:=[some (.int n)]) (λz=>decide ((n:Int)<=z)) (λz=>1*2^(z-n).toNat) b f j (λz H2 N _ _ e=>⟨_,O,_,O,_,_,O,O,_,O,e⟩) (λz H2 N m hp _ e=>?_) ?_
 ·obtain⟨p,rfl,g⟩:=a z m;have A:=Kd hp;exact⟨_,O,_,O,_,_,O,O,_,_,O,O,⟨1,GJ,by lia,by lia⟩,e⟩
 intro H2 s2 x;refine⟨acc,_,O,Ag.of x,?_⟩;rw[hi];refine⟨_,O,l,O,⟨_,s2.seq j⟩,λo d=>?_⟩;refine wN (l:=l) (ns:=ns) (fr:=[some (.int n)]) (λz=>decide (z<(n:Int))) (λz=>1*2^z.toNat) b d (s2.seq j) (λz H2 N _ _ e=>⟨_,O,_,O,_,_,O,O,_,O,e⟩) (λz H2 N m hp _ e=>?_) ?_
 ·obtain⟨p,rfl,g⟩:=a z m;exact⟨_,O,_,_,O,O,⟨1,GJ,by lia,by lia⟩,e⟩
 intro C s3 t;refine⟨o,_,O,Ag.of t,?_⟩;rw[lo];refine⟨_,O,_,O,_,_,O,O,c / 2^n&&&c%2^n,Oe _ _,_,_,O,O,qJ,_,O,_,O,t3,λr q=>?_⟩;refine v r _ ((s2.trans s3).trans (Ao q _)) ?_;rw[Al];rfl
noncomputable def comm (a b:Mk):Nat:=(pc (a.2.1&&&b.2.2)+pc (a.2.2&&&b.2.1))%2
structure Jg (N:Nat) (m:Mk):Prop where
 q:m.1<4
 f:m.2.1<2^N
 s:m.2.2<2^N
def Yo (ms:List Mk)(mark:Mk)(N:Nat)(H0 H:Hp)(r:Y4):Prop :=
 (∃(kk x:Nat) (l:Y4),H0 l=none/\H r=some (.tup [.str "made",.int kk,.ref l])/\H l=some (.lst ((places x ms.length).map λp=>V.int (p:Nat)))/\kk<4/\(chosen ms x ms.length).foldl mul (kk,0,0)=mark) \/
 ∃(p:Y4) (o:Mk),H r=some (.tup [.str "apart",.ref p])/\H p=some (T3 o)/\Jg N o/\(o.1+pc (o.2.1&&&o.2.2))%2=0/\comm o mark=1/\∀m∈ms,comm o m=0
def xK (K:U0):Sp:=λvs H Q _=>∃(l pm:Y4) (ps:U5) (ms:List Mk) (mark:Mk) (N:Nat),vs=[.ref l,.ref pm,.int N]/\Ag K H l (ps.map V.ref)/\FW H ps ms/\H pm=some (T3 mark)/\N<=6/\ms.length<=12/\(∀m∈ms,Jg N m)/\Jg N mark /\
 ∀(r:Y4) (H':Hp),Same H H'->Yo ms mark N H H' r->Q (.ref r) H'
theorem FW.pick{H:Hp}{ps:U5}{ms:List Mk}(h:FW H ps ms):∀(pl:W8),(∀p∈pl,p<ms.length)->FW H (pl.map λp=>ps.getD p 0) (pl.map λp=>ms.getD p (0,0,0))
 | [],_=>.nil
 | p::pl,hp=>by
  obtain⟨a,e1,e2⟩:=h.at (hp p Lg);refine .cons ?_ (FW.pick h pl λq b=>hp q (Li _ b));show H (ps.getD p 0)=_;rw[Ef,e1];exact e2
theorem uc{α β:Type}{F:α->β->Prop}{l2:List α}{r2:List β}:∀{l1:List α}{r1:List β},Paired F l1 r1->Paired F l2 r2->Paired F (l1++l2) (r1++r2)
 | [],[],_,h=>h
 | _::_,_::_,.cons a t,h=>.cons a (uc t h)
variable{N:Nat}
theorem X9c(h:∀m∈ms,Jg N m)(j:Nat):(ms.map (·.2.1)).getD j 0<2^N/\(ms.map (·.2.2)).getD j 0<2^N:=by
 rw[Ef,Ef,Cz,Cz];cases e:ms[j]? with
 | none=>exact⟨Cv N,Cv N⟩
 | some m=>exact⟨(h m (Ke e)).f,(h m (Ke e)).s⟩
noncomputable abbrev both (ms:List Mk)(mark:Mk)(N:Nat):List Ej:=eqs (ms.map (·.2.1)) mark.2.1 N++eqs (ms.map (·.2.2)) mark.2.2 N
theorem wC(ms:List Mk)(mark:Mk)(N:Nat):(both ms mark N).length=N+N:=by rw[Ed,VF,VF]
theorem X9e{fs:W8}{v:Nat}{e:Ej}(h:e∈eqs fs v N):∃n,n<N/\e=(Wm fs n fs.length,bit v n):=by
 obtain⟨n,a,rfl⟩:=GP.mp h;exact⟨n,El.mp a,O⟩
variable{mark:Mk}
theorem X1k(h:ms.length<=12):Qe (both ms mark N):=by
 have a:∀e∈both ms mark N,e.2<2/\e.1<2^12:=λe b=>by
  rcases Ir.mp b with q | q<;>obtain⟨n,_,rfl⟩:=X9e q
  ·exact⟨Ho _ _,DK (Yg _ _ _) (G3 (by decide) (by rw[A_];exact h))⟩
  ·exact⟨Ho _ _,DK (Yg _ _ _) (G3 (by decide) (by rw[A_];exact h))⟩
 exact⟨λe b=>(a e b).1,λe b=>Rk (a e b).2 (Kg (by decide) (by decide))⟩
theorem X4p{x:Nat}(hm:∀m∈ms,Jg N m)(hk:Jg N mark)(h:∀e∈both ms mark N,sat x e):(prod (chosen ms x ms.length)).2=mark.2:=by
 have g:=X9c hm;have hf:(prod (chosen ms x ms.length)).2.1=mark.2.1:=by
  rw[bR];refine aW N _ _ (dh (λj=>(g j).1) _) hk.f λn a=>?_;have:=h (Wm (ms.map (·.2.1)) n (ms.map (·.2.1)).length,bit mark.2.1 n) (Oc _ (GP.mpr ⟨n,El.mpr a,O⟩));rw[A_]at this;rw[qY];exact this
 have b:(prod (chosen ms x ms.length)).2.2=mark.2.2:=by
  rw[bT];refine aW N _ _ (dh (λj=>(g j).2) _) hk.s λn a=>?_;have:=h (Wm (ms.map (·.2.2)) n (ms.map (·.2.2)).length,bit mark.2.2 n) (JH _ (GP.mpr ⟨n,El.mpr a,O⟩));rw[A_]at this;rw[qY];exact this
 exact Prod.ext hf b
theorem Eqs.upd{l:Y4}{xs ys:List V}{es:List Ej}(h:Eqs H ps es)(hl:H l=some (.lst xs)):Eqs (upd H l (.lst ys)) ps es :=
 Paired.imp' (λ_ _ c=>by rw[Cj (Lw c hl (by intro z;cases z))];exact c) h
theorem V5{a b:Nat}(ha:a<2)(hb:b<2):a^^^b=(a+b)%2:=by
 have:=QJ a b;have c:a / 2=0:=by lia
 have d:b / 2=0:=by lia
 rw[c,d]at this;have q:(0^^^0:Nat)=0:=rfl;lia
theorem Y7b{c:Nat}(hc:c<2^(N+N))(h:comb (both ms mark N) c=(0,1)):
  comm (pc (c / 2^N&&&c%2^N)%4,c / 2^N,c%2^N) mark=1/\∀m∈ms,comm (pc (c / 2^N&&&c%2^N)%4,c / 2^N,c%2^N) m=0:=by
 rw[aj,VF]at h;have hd:c / 2^N%2^N=c / 2^N:=NQ (by rw[HW]at hc;exact Qy hc);constructor
 ·have h2:(comb (eqs (ms.map (·.2.1)) mark.2.1 N) c).2^^^(comb (eqs (ms.map (·.2.2)) mark.2.2 N) (c / 2^N)).2=1:=congrArg Prod.snd h;rw[qI,qI,hd,V5 (KH _ (by decide)) (KH _ (by decide))]at h2;unfold comm;show (pc (c / 2^N&&&mark.2.2)+pc (c%2^N&&&mark.2.1))%2=1;lia
 ·intro m d;obtain⟨j,a,rfl⟩:=W_.mp d;have h1:(comb (eqs (ms.map (·.2.1)) mark.2.1 N) c).1^^^(comb (eqs (ms.map (·.2.2)) mark.2.2 N) (c / 2^N)).1=0:=congrArg Prod.fst h;have b:bit ((comb (eqs (ms.map (·.2.1)) mark.2.1 N) c).1^^^(comb (eqs (ms.map (·.2.2)) mark.2.2 N) (c / 2^N)).1) j=bit 0 j:=by rw[h1]
  rw[Ny.Om,qH _ _ _ _ (by rw[A_];exact a),qH _ _ _ _ (by rw[A_];exact a),hd,Z5]at b;have e1:(ms.map (·.2.1)).getD j 0=ms[j].2.1:=by rw[Ef,Cz,GR a];rfl
  have e2:(ms.map (·.2.2)).getD j 0=ms[j].2.2:=by rw[Ef,Cz,GR a];rfl
  rw[e1,e2]at b;unfold comm;show (pc (c / 2^N&&&ms[j].2.2)+pc (c%2^N&&&ms[j].2.1))%2=0;lia
theorem Y9j(F:Ab K "made_of" (top 48) .none)(X:K.In h)(G:Ng h mg)(B:Bs mg)(dB:Ai P w K mg base k "rows_with" ["rows","part","cell"] (uU K))(gA:Ai P w K mg base k "solved" ["equations"] (xR K))
  (eO:Ai P w K mg base k "apart_by" ["numbers","cells"] (Xy K)) (e8:Ai P w K mg base k "product_of" ["marks"] (ug K)):Ai P w K mg base (k+1) "made_of" ["rows","mark","cells"] (xK K):=by
 refine F.cal X G ["rows","mark","cells","flips","signs","told","numbers","made"] λJ H vs Q E a h=>?_;obtain⟨l,j,ps,ms,mark,N,rfl,hS,t,o,hN,a7,b4,Y,kq⟩:=h;have T:=t.length
 refine⟨_,(@Av _ _ _ _ _ (Td (i:=3) rfl J rfl rfl (Bl.of (Nc:=["cell","rows","mark"]) (mp:=[none,some 0,some 1]) (by kernel_rfl)) (J3 rfl B.range (Aa (pv 2) Ae)) (λ_ _ _ _=>(CV (i:=0) (show (["cell","rows","mark"]:W5).Nodup by decide +kernel) rfl (Or.inl rfl))) (λ_ _ _ _=>(@Ci _ _ _ _ _ (Aa (Ay dB a rfl (Aa (pv 1) (Aa Ac (Aa (pv 0) Ae)))) (Aa (Af Di (Af Jd (Aw VG (pv 2) Ac (λ_ _=>rfl)) (pv 0)) Ac) Ae)))) rfl)
  (@Av _ _ _ _ _ (Td (i:=4) rfl J rfl rfl (Bl.of (Nc:=["cell","rows","mark"]) (mp:=[none,some 0,some 1]) (by kernel_rfl)) (J3 rfl B.range (Aa (pv 2) Ae)) (λ_ _ _ _=>(CV (i:=0) (show (["cell","rows","mark"]:W5).Nodup by decide +kernel) rfl (Or.inl rfl))) (λ_ _ _ _=>(@Ci _ _ _ _ _ (Aa (Ay dB a rfl (Aa (pv 1) (Aa Ac (Aa (pv 0) Ae)))) (Aa (Af Di (Af Jd (Aw VG (pv 2) Ac (λ_ _=>rfl)) (pv 0)) Ac) Ae)))) rfl)
  (@Av _ _ _ _ _ (@BR _ _ 5 _ _ _ _ J rfl (Or.inr rfl) (Ay gA a rfl (Aa (Af Oi (pv 3) (pv 4)) Ae)) rfl (.inl rfl))
  (@Av _ _ _ _ _ (B_ (CP W1o (Aw BL (pv 5) Ac (λ_ _=>rfl)) Yb (Ad _))
   (@Aj _ _ _ (BJ (@Ci _ _ _ _ _ (Aa Fg (Aa (Ay eO a rfl (Aa (Aw BL (pv 5) Ac (λ_ _=>rfl)) (Aa (pv 2) Ae))) Ae)))))
   CJ)
  (@Av _ _ _ _ _ (Y8f (i:=6) rfl J rfl rfl (Bl.of (Nc:=["place","told"]) (mp:=[none,some 5]) (by kernel_rfl)) (J3 rfl B.range (Aa (CG Eh rfl B.len EY (Aa (pv 0) Ae)) Ae)) (λ_ _ _ _=>(CV (i:=0) (show (["place","told"]:W5).Nodup by decide +kernel) rfl (Or.inl rfl))) (λ_ _ _ _=>(Kr (Af Di (Af Jd (Aw VG (pv 1) Ac (λ_ _=>rfl)) (pv 0)) Ac) (by intro _;rfl))) (λ_ _ _ _=>(pv 0)) rfl)
  (@Av _ _ _ _ _ (@BR _ _ 7 _ _ _ _ J rfl (Or.inl rfl) (Ay e8 a rfl (Aa (HY rfl (Bl.of (Nc:=["place","rows"]) (mp:=[none,some 0]) (by kernel_rfl)) (GC (pv 6)) (λ_ _ _ _=>(CV (i:=0) (show (["place","rows"]:W5).Nodup by decide +kernel) rfl (Or.inl rfl))) (λ_ _ _ _=>(Aw wM (pv 1) (pv 0) (λ_ _=>rfl)))) Ae)) rfl (.inl rfl))
  (@Aj _ _ _ (BJ (@Ci _ _ _ _ _ (Aa Fg (Aa (Af Dp (Af Gq (Aw BL (pv 1) Ac (λ_ _=>rfl)) (Aw BL (pv 7) Ac (λ_ _=>rfl))) Ac) (Aa (pv 6) Ae)))))))))))),?_⟩
 try dsimp only[CN]
 refine⟨_,O,_,O,by lia,by lia,λa1 W=>?_⟩;rw[Dm];refine VR (n:=N) (fr:=[some (.ref l),some (.ref j)]) (λi ys H'=>Same H H'/\H' a1=some (.lst ys)/\∃b:List Addr,ys=b.map V.ref/\Eqs H' b (eqs (ms.map (·.2.1)) mark.2.1 i)) (LK (by lia)) ⟨Ao W _,Al,[],O,.nil⟩ ?_ ?_
 ·rintro i ys H2 NN hi hl ⟨s2,c2,b,rfl,I⟩ g;have m:(0:Int)+(i:Int)=(i:Int):=KJ _;refine⟨_,O,_,O,l,ps,ms,1,_,i,(by rw[m];rfl),s2.seq hS,t.same s2,by lia,.inl ⟨O,O⟩,λH3 s3=>?_⟩;have y:Ax K H3 j (L3 mark):=Ax.of (s3 _ _ (s2 _ _ o));have e1:(mark.2.1:Int) / 2^(0+(i:Int)).toNat=((mark.2.1 / 2^i:Nat):Int):=by rw[m,Dm];simp
  refine⟨_,O,j,_,_,_,O,O,y,O,_,O,_,_,O,O,by lia,_,_,O,O,t2,λr a=>?_⟩;have f:=Ao a (.tup [.int (Wm (ms.map (·.2.1)) i (ms.map (·.2.1)).length:Nat),.int (Builtin.bitAnd ((mark.2.1:Int) / 2^(0+(i:Int)).toNat) 1)]);have hn:a1≠r:=QX (s3 _ _ c2) a;refine g _ _ (f _ _ (s3 _ _ c2)) ⟨Dy ((s2.trans s3).trans f) W,Al,b++[r],by rw[Cg];rfl,?_⟩;rw[Z7];refine Paired.snoc (((I.same s3).same f).upd (f _ _ (s3 _ _ c2))) ?_;rw[Cj (Ne.symm hn),Al];show some (HO.tup [.int _,.int (Builtin.bitAnd ((mark.2.1:Int) / 2^(0+(i:Int)).toNat) 1)])=_;rw[e1,VJ];rfl
 rintro ys H1 b8 ⟨S1,c1,R,rfl,a8⟩;refine⟨_,O,_,O,by lia,by lia,λa2 D=>?_⟩;rw[Dm];refine VR (n:=N) (fr:=[some (.ref l),some (.ref j)]) (λi ys H'=>Same H1 H'/\H' a2=some (.lst ys)/\∃b:List Addr,ys=b.map V.ref/\Eqs H' b (eqs (ms.map (·.2.2)) mark.2.2 i)) (LK (by lia)) ⟨Ao D _,Al,[],O,.nil⟩ ?_ ?_
 ·rintro i ys H2 NN hi hl ⟨s2,c2,b,rfl,I⟩ g;have m:(0:Int)+(i:Int)=(i:Int):=KJ _;refine⟨_,O,_,O,l,ps,ms,2,_,i,(by rw[m];rfl),s2.seq (S1.seq hS),(t.same S1).same s2,by lia,.inr ⟨O,O⟩,λH3 s3=>?_⟩;have y:Ax K H3 j (L3 mark):=Ax.of (s3 _ _ (s2 _ _ (S1 _ _ o)));have e1:(mark.2.2:Int) / 2^(0+(i:Int)).toNat=((mark.2.2 / 2^i:Nat):Int):=by rw[m,Dm];simp
  refine⟨_,O,j,_,_,_,O,O,y,O,_,O,_,_,O,O,by lia,_,_,O,O,t2,λr a=>?_⟩;have f:=Ao a (.tup [.int (Wm (ms.map (·.2.2)) i (ms.map (·.2.2)).length:Nat),.int (Builtin.bitAnd ((mark.2.2:Int) / 2^(0+(i:Int)).toNat) 1)]);have hn:a2≠r:=QX (s3 _ _ c2) a;refine g _ _ (f _ _ (s3 _ _ c2)) ⟨Dy ((s2.trans s3).trans f) D,Al,b++[r],by rw[Cg];rfl,?_⟩;rw[Z7];refine Paired.snoc (((I.same s3).same f).upd (f _ _ (s3 _ _ c2))) ?_;rw[Cj (Ne.symm hn),Al];show some (HO.tup [.int _,.int (Builtin.bitAnd ((mark.2.2:Int) / 2^(0+(i:Int)).toNat) 1)])=_;rw[e1,VJ];rfl
 rintro ys H2 c0 ⟨S2,c2,S,rfl,a0⟩;have b0:=S1.trans S2;have b3:=a8.length;have b6:=a0.length;rw[VF]at b3 b6;refine⟨_,O,_,O,a1,a2,_,_,O,O,S2 _ _ c1,c2,(by rw[A_,A_];exact LK (by lia)),λcl a9=>?_⟩;have y:=Ao a9 (.lst (R.map V.ref++S.map V.ref));refine⟨cl,R++S,both ms mark N,O,?_,?_,X1k a7,by rw[wC];lia,λrt H4 S4 U=>?_⟩
 ·rw[Cg];exact Ag.of Al
 ·exact uc ((a8.same S2).same y) (a0.same y)
 have SS:=b0.trans (y.trans S4);rcases U with ⟨x,a,hs⟩ | ⟨c,q,a,I,clt,hc⟩
 ·have ST:Ax K H4 rt [.int x,.non]:=Ax.of a;refine⟨_,O,rt,_,_,_,O,O,ST,O,O,_,O,Jz (λz=>absurd (Kd z) (by intro z;cases z)) (λ_=>?_)⟩;have lm:(ps.map V.ref).length=ms.length:=by rw[A_,T]
  refine⟨_,O,l,_,O,.inl (SS.seq hS),_,O,by lia,by lia,λa5 u=>?_⟩;rw[Dm,lm];refine oF (n:=ms.length) (fr:=[some (.ref rt)]) (λi ys H'=>Same H4 H'/\H' a5=some (.lst ys)/\ys=(places x i).map λp=>V.int (p:Nat)) (LK (by lia)) ⟨Ao u _,Al,O⟩ ?_ (λt z=>?_) ?_
  ·rintro i ys H5 NN hi hl ⟨s5,c5,rfl⟩ g;have m:(0:Int)+(i:Int)=(i:Int):=KJ _;have e1:(x:Int) / 2^(0+(i:Int)).toNat=((x / 2^i:Nat):Int):=by rw[m,Dm];simp
   refine⟨_,O,rt,_,_,_,O,O,Ax.of (s5 _ _ a),O,_,O,_,_,O,O,by lia,_,_,O,O,_,O,?_⟩;have d:=YK x i;show NN (Builtin.bitAnd ((x:Int) / 2^(0+(i:Int)).toNat) 1 != 0) H5;rw[e1,VJ];refine g _ _ (λZ=>?_) (λM=>?_)
   ·have h1:x / 2^i%2=1:=by
     have:x / 2^i%2≠0:=λz=>by rw[z]at Z;cases Z
     lia
    rw[if_pos h1]at d;refine⟨_,O,c5,Dy s5 u,Al,?_⟩;rw[d,Cg,m];rfl
   ·have h0:¬ x / 2^i%2=1:=λz=>by rw[z]at M;cases M
    rw[if_neg h0,KR]at d;exact⟨s5,c5,by rw[d]⟩
  ·obtain⟨v,e,qq⟩:=z;exact⟨v,e,t _ _ qq⟩
  rintro ys H5 ⟨S5,c5,rfl⟩;have A:=SS.trans S5;have em:((places x ms.length).map λp=>V.int (p:Nat))=((places x ms.length).map λp=>((p:Nat):Int)).map V.int:=by rw[KN];rfl
  have s:=c5;rw[em]at s;have b7:(places x ms.length).length<=12:=Ek (jO _ _) (by rw[ZV];exact a7);refine⟨_,O,a5,O,⟨_,Ag.of s⟩,λa6 b5=>?_⟩;refine qL (ns:=(places x ms.length).map λp=>((p:Nat):Int)) (fr:=[some (.ref l)]) (λz=>.ref (ps.getD z.toNat 0)) (Ag.of s) (by rw[A_];exact LK (by lia)) b5 (λz H6 NN hz s6 g=>?_) ?_
  ·obtain⟨p,hp,rfl⟩:=GP.mp hz;obtain⟨pa,e1,_⟩:=t.at (aR hp);have eg:ps.getD p 0=pa:=by rw[Ef,e1];rfl
   refine⟨_,O,_,O,l,_,_,_,O,O,s6.seq (A.seq hS),Ol (v:=.ref pa) (by rw[Cz,e1];rfl),?_⟩;rw[Dm,eg]at g;exact g
  intro H6 S6 c6;have a4:=A.trans S6;refine⟨a6,(places x ms.length).map (λp=>ps.getD p 0),chosen ms x ms.length,O,?_,(t.same a4).pick _ (λp hp=>aR hp),λrp H7 S7 sp=>?_⟩
  ·rw[KN]at c6;rw[KN];exact Ag.of c6
  have C:=a4.trans S7;have SM:Ax K H7 j (L3 mark):=Ax.of (C _ _ o);have pq:=vO (chosen ms x ms.length) (0,0,0) (by decide);have bs:=X4p b4 Y hs;have qk:=Y.q;refine⟨_,O,j,_,_,_,O,O,SM,O,_,O,rp,_,_,_,O,O,sp,O,_,_,O,O,_,_,O,O,qJ,_,O,t3,λr a3=>?_⟩;have e7:(((mark.1:Int)-((prod (chosen ms x ms.length)).1:Nat))%4)=(((((mark.1:Int)-((prod (chosen ms x ms.length)).1:Nat))%4).toNat:Nat):Int):=by lia
  refine kq r _ (C.trans (Ao a3 _)) (.inl ⟨(((mark.1:Int)-((prod (chosen ms x ms.length)).1:Nat))%4).toNat,x,a5,SS.free u,?_,Ao a3 _ _ _ (S7 _ _ (S6 _ _ c5)),by lia,?_⟩)
  ·rw[Al];show some (HO.tup [.str "made",.int (((mark.1:Int)-((prod (chosen ms x ms.length)).1:Nat))%4),.ref a5])=_;rw[<-e7]
  ·rw[uO (by lia),bs];have b9:(prod (chosen ms x ms.length)).1<4:=pq;refine Prod.ext ?_ rfl;show ((((mark.1:Int)-((prod (chosen ms x ms.length)).1:Nat))%4).toNat+(prod (chosen ms x ms.length)).1)%4=mark.1;lia
 ·have ST:Ax K H4 rt [.non,.ref q]:=Ax.of a;rw[wC]at clt;refine⟨_,O,rt,_,_,_,O,O,ST,O,O,_,O,Ds ?_⟩;refine⟨_,O,rt,_,_,_,O,O,ST,O,_,O,q,c,N,O,Ag.of I,hN,clt,λra H5 S5 ha=>⟨t2,λr L=>?_⟩⟩;obtain⟨b1,b2⟩:=Y7b clt hc;refine kq r _ ((SS.trans S5).trans (Ao L _)) (.inr ⟨ra,_,Al,Ao L _ _ _ ha,⟨KH _ (by decide),?_,KH _ (Cv N)⟩,?_,b1,b2⟩)
  ·rw[HW]at clt;exact Qy clt
  ·show (pc (c / 2^N&&&c%2^N)%4+pc (c / 2^N&&&c%2^N))%2=0;lia
theorem qu(K:U0):PySem.W.kitOne K (.type "list") (.type "list")=some true:=by unfold PySem.W.kitOne;rw[if_pos (by decide)]
def QM:Sp:=λvs H Q _=>∃i:Int,vs=[.int i]/\Q (.bl true) H
def yS (K:U0):Sp:=λvs H Q _=>∃(p p':Y4) (m m':Mk),vs=[.ref p,.ref p']/\Ax K H p (L3 m)/\Ax K H p' (L3 m')/\Q (.bl (decide (comm m m'=0))) H
end
end CK
namespace DW
open Pc Ji Ny
variable{x y:Nat}
theorem Y2n(m:Nat)(h:∀n,n<m->bit x n=bit y n):places x m=places y m:=by
 unfold places;refine List.filter_congr λp hp=>?_;have:=h p (El.mp hp);unfold bit at this;simp only[this]
theorem Y3i(ms:List Mk)(m:Nat)(h:∀n,n<m->bit x n=bit y n):chosen ms x m=chosen ms y m:=by
 unfold chosen;rw[Y2n m h]
theorem X9o(x m:Nat){n:Nat}(h:n<m):bit (x%2^m) n=bit x n:=by
 have t:=Zi x m n;rw[Uu,Uu,Ec h,iD,iz]at t;have a:=Ho (x%2^m) n;have b:=Ho x n;unfold bit at *;lia
theorem uJ(ms:List Mk)(x m:Nat):chosen ms (x%2^m) m=chosen ms x m:=Y3i ms m λn a=>X9o x m a
theorem YH(ms:List Mk){x i:Nat}(h:x<2^i):∀d,chosen ms x (i+d)=chosen ms x i
 | 0=>rfl
 | d+1=>by
  rw[<-iG,aY,if_neg (by rw[pB h (by lia)];decide),KR];exact YH ms h d
noncomputable def E (ms:List Mk)(x:Nat):Mk:=prod (chosen ms x ms.length)
theorem W4c(ms:List Mk):E ms 0=(0,0,0):=by
 unfold E;have:=YH ms (x:=0) (i:=0) (by decide) ms.length;rw[OD]at this;rw[this];rfl
theorem W4d(ms:List Mk){i:Nat}(hx:x<2^i)(hi:i<ms.length):E ms (x+2^i)=mul (E ms x) (ms.getD i (0,0,0)):=by
 obtain⟨d,hd⟩:∃d,ms.length=i+1+d:=⟨ms.length-(i+1),by lia⟩;have lt:x+2^i<2^(i+1):=by rw[M_];lia
 have a:bit (x+2^i) i=1:=by
  unfold bit;rw[Nat.add_div_right _ (Cv i),Wx hx]
 have lo:chosen ms (x+2^i) i=chosen ms x i:=by
  rw[<-uJ,Nat.add_mod_right,NQ hx]
 have e1:chosen ms (x+2^i) ms.length=chosen ms x i++[ms.getD i (0,0,0)]:=by
  rw[hd,YH ms lt d,aY,if_pos a,lo]
 have e2:chosen ms x ms.length=chosen ms x i:=by
  rw[hd,iG];exact YH ms hx _
 unfold E;rw[e1,e2];unfold prod;rw[ZS];rfl
theorem W6j(ms:List Mk){i:Nat}(hi:i<ms.length)(q:(ms.getD i (0,0,0)).1<4):E ms (2^i)=ms.getD i (0,0,0):=by
 have:=W4d ms (x:=0) (Cv i) hi;rw[OD,W4c]at this;rw[this];revert q;generalize ms.getD i (0,0,0)=z;obtain⟨a,b,c⟩:=z;intro q;unfold mul;simp[J1,NQ q]
theorem W6k{ms:List Mk}(I:Indep ms)(hx:x<2^ms.length)(hy:y<2^ms.length)(h:(E ms x).2=(E ms y).2):x=y:=by
 refine X0n I hx hy ?_ ?_
 ·have:=congrArg Prod.fst h;unfold E at this;rw[bR,bR]at this;exact this
 ·have:=congrArg Prod.snd h;unfold E at this;rw[bT,bT]at this;exact this
theorem fget(ms:List Mk)(j:Nat):(Hx ms).getD j 0=(ms.getD j (0,0,0)).2.1:=by
 unfold Hx;rw[Ef,Ef,Cz];cases ms[j]?<;>rfl
theorem O9(ms:List Mk)(j:Nat):(Hs ms).getD j 0=(ms.getD j (0,0,0)).2.2:=by
 unfold Hs;rw[Ef,Ef,Cz];cases ms[j]?<;>rfl
end DW
namespace JX
open Pc Ji Ny DW
noncomputable def cm (a b:Mk):Nat:=(pc (a.2.1&&&b.2.2)+pc (a.2.2&&&b.2.1))%2
def ev (a:Mk):Prop:=(a.1+pc (a.2.1&&&a.2.2))%2=0
theorem X9i(a b:Mk):cm a b=cm b a:=by
 unfold cm;rw[N_ a.2.1,N_ a.2.2,Wo]
structure rG (ms:List Mk):Prop where
 q:∀m∈ms,m.1<4
 even:∀m∈ms,ev m
 com:∀m∈ms,∀r∈ms,cm m r=0
structure V6 (m:Mk):Prop where
 f:m.2.1<2^6
 s:m.2.2<2^6
structure Tb (ms:List Mk):Prop where
 nice:rG ms
 v6:∀m∈ms,V6 m
 ind:Indep ms
end JX
namespace CK
open L2 Pc Ji Ny DW
open JX (V6)
section
variable {P:W3}{w:W6}{K:U0}{mg:U6}{base:Heap}{k:Nat}{h:Heap}
end
end CK
namespace CK
open L2 Pc Ji Ny DW
open JX (V6 ev)
section
variable {P:W3}{w:W6}{K:U0}{mg:U6}{base:Heap}{k:Nat}{h:Heap}
theorem Fd:BZ ["thing"] ["thing"] (DG (top 14)):=fS
theorem oO(F:Ab K "is_whole" (top 14) .none)(X:K.In h)(G:Ng h mg)(B:Bs mg):Ai P w K mg base (k+1) "is_whole" ["thing"] QM:=by
 refine F.cal X G _ (S:=Fd) λb H vs Q E a h=>?_;obtain⟨i,rfl,q⟩:=h;refine⟨_,(@Aj _ _ _ (BJ (QG (CG Ox rfl B.isinstance Gy (Aa (pv 0) (Aa (K6 (v:=.ty "int") rfl B.int Xf rfl) Ae))) (Kq (Yc (CG Ox rfl B.isinstance Gy (Aa (pv 0) (Aa (K6 (v:=.ty "bool") rfl B.bool boot_bool rfl) Ae)))))))),?_⟩;try dsimp only[CN]
 refine⟨_,O,_,_,_,true,O,DP.int i,qt K,_,O,Ds ?_⟩;exact⟨_,O,_,_,_,false,O,DP.int i,qp K,_,O,q⟩
theorem Y2u(F:Ab K "commute" (top 29) .none)(X:K.In h)(G:Ng h mg)(cP:Ai P w K mg base k "ones" ["number"] Cy):Ai P w K mg base (k+1) "commute" ["one","other"] (yS K):=by
 refine F.cal X G ["one","other"] λg H vs Q E b h=>?_;obtain⟨p,d,m,a,rfl,c,f,q⟩:=h;refine⟨_,(@Aj _ _ _ (BJ (Fv Df (Af Dp (Af Dn (Ay cP b rfl (Aa (Af Di (Aw BL (pv 0) Ac (λ_ _=>rfl)) (Aw BL (pv 1) Ac (λ_ _=>rfl))) Ae)) (Ay cP b rfl (Aa (Af Di (Aw BL (pv 0) Ac (λ_ _=>rfl)) (Aw BL (pv 1) Ac (λ_ _=>rfl))) Ae))) Ac) Ac (Ad _)))),?_⟩;try dsimp only[CN]
 refine⟨_,O,p,_,_,_,O,O,c,O,_,O,d,_,_,_,O,O,f,O,_,_,O,O,m.2.1&&&a.2.2,Oe _ _,_,O,p,_,_,_,O,O,c,O,_,O,d,_,_,_,O,O,f,O,_,_,O,O,m.2.2&&&a.2.1,Oe _ _,_,_,O,O,_,_,O,O,vp,O,?_⟩;have e:decide (V.int ((((pc (m.2.1&&&a.2.2):Nat):Int)+((pc (m.2.2&&&a.2.1):Nat):Int))%2)=V.int 0)=decide (comm m a=0):=by
  rw[iz];unfold comm;constructor
  ·intro z;have:=V.int.inj z;lia
  ·intro z;congr 1;lia
 show Q (.bl (decide (V.int ((((pc (m.2.1&&&a.2.2):Nat):Int)+((pc (m.2.2&&&a.2.1):Nat):Int))%2)=V.int 0))) H;rw[e];exact q
theorem X2g{X:Cx}{scope:Scope}{Nc:W5}{ex:U5}{pins:U1}{s:W1}{H:Hp}:Yk (Bk X scope Nc ex pins s H) (Wd X.K):=Xx
variable{i:Nat}
theorem bC{xs:List V}(h:i<=xs.length):FT xs none (some (i:Int))=xs.take i:=by
 unfold FT;have e1:HT.Ca xs.length 0 none=0:=rfl;have e2:HT.Ca xs.length xs.length (some (i:Int))=i:=by rw[HT.vR];exact Nat.min_eq_left h
 rw[e1,e2];rfl
theorem FW.take{H:Hp}:∀{ps:U5}{ms:List Mk} (i:Nat),FW H ps ms->FW H (ps.take i) (ms.take i)
 | [],[],_,.nil=>by rw[List.take_nil,List.take_nil];exact .nil
 | _::_,_::_,0,_=>.nil
 | _::_,_::_,i+1,.cons a r=>.cons a (FW.take i r)
variable{ms:List Mk}{x:Nat}
theorem Y2e(hi:i<=ms.length):chosen (ms.take i) x i=chosen ms x i:=by
 unfold chosen;refine Zc λp hp=>?_;have:=aR hp;rw[Ef,Ef,List.getElem?_take,if_pos this]
theorem nQ(I:Indep ms){kk:Nat}(hi:i<ms.length)(q:(ms.getD i (0,0,0)).1<4)(k4:kk<4)(h:(chosen (ms.take i) x (ms.take i).length).foldl mul (kk,0,0)=ms.getD i (0,0,0)):False:=by
 have lt:(ms.take i).length=i:=by rw[Ka];lia
 rw[lt,Y2e (by lia),uO k4]at h;have a:=KH x (Cv i);have b:E ms (x%2^i)=prod (chosen ms x i):=by
  unfold E;obtain⟨d,hd⟩:∃d,ms.length=i+d:=⟨ms.length-i,by lia⟩;rw[hd,YH ms a d,uJ]
 have e1:=W6j ms hi q;have p2:2^i<2^ms.length:=Kg (by decide) hi;have:=W6k I (Rk a p2) p2 (by rw[b,e1,<-h]);lia
structure Gr (N:Nat) (H:Hp) (l:Y4) (ps:U5) (ms:List Mk):Prop where
 lst:H l=some (.lst (ps.map V.ref))
 mks:FW H ps ms
 ok:∀m∈ms,Jg N m
 tb:JX.Tb ms
 len:ms.length<=6
theorem Gr.same{N:Nat}{H H':Hp}{l:Y4}{ps:U5}(t:Gr N H l ps ms)(s:Same H H'):Gr N H' l ps ms:=⟨s _ _ t.lst,t.mks.same s,t.ok,t.tb,t.len⟩
def yV:Sp:=λvs H Q _=>∃(l:Y4) (ps:U5) (ms:List Mk) (N:Nat),vs=[.ref l,.int N]/\Gr N H l ps ms/\1<=N/\N<=6/\∀H',Same H H'->Q (.bl true) H'
theorem am:¬ (V.str "apart"=V.str "made"):=λe=>absurd (V.str.inj e) (by decide +kernel)
end
theorem FW.upd{H:Hp}{l:Y4}{xs ys:List V}{ps:U5}{ms:List Mk}(h:FW H ps ms)(hl:H l=some (.lst xs)):FW (upd H l (.lst ys)) ps ms :=
 Paired.imp' (λ_ _ c=>by rw[Cj (Lw c hl (by intro z;cases z))];exact c) h
end CK
namespace L2
section
variable {X:Cx}{pins:U1}{σ:St}{H:Hp}{s:W1}
end
end L2
namespace CK
open L2 Pc Ji Ny DW
open JX (V6 ev)
theorem Ov{X:Cx}{st:Stmt}:PS X st (λ_ _ _=>False):=λ_ _ _ _ _ _ h=>h.elim
section
variable {P:W3}{w:W6}{K:U0}{mg:U6}{base:Heap}{k:Nat}{h:Heap}
def aG:Sp:=λvs H Q _=>∃(l:Y4) (ps:U5) (ms:List Mk) (N:Nat),vs=[.ref l,.int N]/\Gr N H l ps ms/\1<=N/\N<=6/\∀H',Same H H'->Q .non H'
theorem IW:BZ ["rows","cells"] ["rows","cells"] (DG (top 46)):=fS
theorem Y9m(F:Ab K "check_table" (top 46) .none)(X:K.In h)(G:Ng h mg)(d5:Ai P w K mg base k "is_table" ["rows","cells"] yV):Ai P w K mg base (k+1) "check_table" ["rows","cells"] aG:=by
 refine F.cal X G _ (S:=IW) λg H vs Q f a h=>?_;obtain⟨l,ps,ms,N,rfl,T,e,d,b⟩:=h
 refine⟨_,(@Aj _ _ _ (B_ (Fo (Dd (Ay d5 a rfl (Aa (pv 0) (Aa (pv 1) Ae)))))
   (@Aj _ _ _ Ov)
   CJ)),?_⟩
 try dsimp only[CN]
 exact⟨_,O,_,O,l,ps,ms,N,O,T,e,d,λH1 c=>⟨_,O,Bd (b H1 c)⟩⟩
noncomputable def SJ (m:Mk):Bool:=decide ((m.1+pc (m.2.1&&&m.2.2))%2=0)
theorem Kl{m:Mk}:SJ m=true↔ev m:=by
 unfold SJ ev;exact decide_eq_true_iff
def Apart (ms:List Mk)(m:Mk):Prop:=∃o:Mk,comm o m=1/\∀r∈ms,comm o r=0
def Md (ms:List Mk)(m:Mk):Prop:=∃kk x:Nat,kk<4/\(chosen ms x ms.length).foldl mul (kk,0,0)=m
def Tab (ms:List Mk)(b:Bool):Prop:=(b=true->(∀m∈ms,ev m)/\(∀m∈ms,∀r∈ms,comm m r=0)/\∀i m,ms[i]?=some m->Apart (ms.take i) m)/\(b=false->(∃m∈ms,¬ ev m)\/(∃m∈ms,∃r∈ms,comm m r≠0)\/∃i m,ms[i]?=some m/\Md (ms.take i) m)
def Mp:Sp:=λvs H Q _=>∃(p:Y4) (m:Mk) (N:Nat),vs=[.ref p,.int N]/\H p=some (T3 m)/\Jg N m/\N<=6/\Q (.bl (SJ m)) H
def yR (K:U0):Sp:=λvs H Q _=>∃(pm l:Y4) (ps:U5) (ms:List Mk) (m:Mk),vs=[.ref pm,.ref l]/\H pm=some (T3 m)/\Ag K H l (ps.map V.ref)/\FW H ps ms/\ms.length<=12/\∀H',Same H H'->Q (.bl (ms.all λr=>decide (comm m r=0))) H'
theorem qK{l:Y4}{g:TG}{xs:List V}{te:TE}{fr:L2.St}{H1:Hp}{acc:Y4}{Q:VK}(Pv:Nat->List V->Prop)(hn:xs.length<=sizeLine)(hacc:H1 acc=none)(hl:Ag K H1 l xs)(h0:Pv 0 [])
  (hg:∀{a:Y4}{x y:V}{w1 w2:Option V}{H:Hp}{Q:L2.St->Hp->Prop},H a=some (.tup [x,y])->Q (some x::some y::fr) H->g (.ref a) (w1::w2::fr) H Q)
  (hs:∀i x zs H (N:V->Hp->Prop),xs[i]?=some x->Same H1 H->Pv i zs->(∀v H',Same H H'->Pv (i+1) (zs++[v])->N v H')->te (some (.int i)::some x::fr) H N)
  (hd:∀zs H2,Same H1 H2->Pv xs.length zs->H2 acc=some (.lst zs)->Q (.ref acc) H2):Ii (Ite K l) g te (none::none::fr) H1 acc Q:=by
 refine⟨λi m zs d H2=>m=xs.length-i/\i<=xs.length/\(∃v w,d=v::w::fr)/\Same H1 H2/\H2 acc=some (.lst zs)/\zs.length=i/\Pv i zs,⟨xs.length,by simp,Fy _,⟨_,_,O⟩,Ao hacc _,Al,O,h0⟩,?_⟩;rintro i m zs d H2 ⟨rfl,hi,⟨v,w,rfl⟩,s2,f,n,pv⟩;by_cases hlt:i<xs.length
 ·have e1:xs[i]?=some xs[i]:=by simp[hlt]
  refine .inr ⟨⟨xs,_,s2.seq hl,e1⟩,λu o k=>?_⟩;obtain⟨T,x,rfl,h,rfl,h1⟩:=k;have j:=h1 xs (s2.seq hl);have c:=Ao h (.tup [.int i,x]);exact hg (x:=.int i) (y:=x) Al (hs i x zs _ _ j (s2.trans c) pv λv H' s' b=>⟨s' _ _ (c _ _ f),by lia,xs.length-(i+1),by lia,O,hlt,⟨_,_,O⟩,Dy ((s2.trans c).trans s') hacc,Al,by simp[n],b⟩)
 ·have e:i=xs.length:=by lia
  subst e;exact .inl ⟨⟨xs,s2.seq hl,CT _⟩,hd zs H2 s2 pv f⟩
def JD:Sp:=λvs H Q _=>∃(N:Nat) (l:Y4) (ps:U5) (ms:List Mk),vs=[.ref l,.int N]/\1<=N/\N<=6/\H l=some (.lst (ps.map V.ref))/\FW H ps ms/\ms.length<=12/\(∀m∈ms,Jg N m)/\∀b H',Same H H'->Tab ms b->Q (.bl b) H'
theorem Y6k(F:Ab K "commutes_with_all" (top 45) .none)(X:K.In h)(G:Ng h mg)(B:Bs mg)(eT:Ai P w K mg base k "commute" ["one","other"] (yS K)):Ai P w K mg base (k+1) "commutes_with_all" ["mark","rows"] (yR K):=by
 refine F.cal X G ["mark","rows"] λL H vs Q J A h=>?_;obtain⟨q,l,ps,ms,m,rfl,f,s,t,R8,y⟩:=h;have c:(ps.map V.ref).length=ms.length:=by rw[A_,t.length]
 refine⟨_,(@Aj _ _ _ (BJ (CG (YF rfl) rfl B.all Xe (Aa (HY rfl (Bl.of (Nc:=["row","mark"]) (mp:=[none,some 0]) (by kernel_rfl)) (GC (pv 1)) (λ_ _ _ _=>(CV (i:=0) (show (["row","mark"]:W5).Nodup by decide +kernel) rfl (Or.inl rfl))) (λ_ _ _ _=>(Ay eT A rfl (Aa (pv 1) (Aa (pv 0) Ae))))) Ae)))),?_⟩;try dsimp only[CN]
 refine⟨_,O,l,O,⟨_,s⟩,λacc b=>?_⟩;refine TY (K:=K) (a:=l) (xs:=ps.map V.ref) (fr:=[some (.ref q)]) (λi ys H'=>Same H H'/\H' acc=some (.lst ys)/\ys=((ms.take i).map λr=>decide (comm m r=0)).map V.bl) (by rw[c];exact LK (by lia)) ⟨Ao b _,Al,O⟩ (λi ys H' e=>e.1.seq s) ?_ ?_
 ·rintro i x ys E NN n I ⟨d,D,rfl⟩ C;rw[Cz]at n;obtain⟨p,hp,rfl⟩:=Fz.mp n;obtain⟨r,j,z⟩:=t.get hp;refine⟨_,O,_,O,q,p,m,r,O,Ax.of (d _ _ f),Ax.of (d _ _ z),?_⟩;refine C _ _ D ⟨Dy d b,Al,?_⟩;rw[Js,j,Kz,Cg,Cg];rfl
 rintro ys u v ⟨g,o,rfl⟩;rw[c,Kc]at o;refine⟨acc,_,O,Ag.of o,?_⟩;have e:(ms.map λr=>decide (comm m r=0)).all id=ms.all λr=>decide (comm m r=0):=by rw[Wn];rfl
 rw[e];exact y u g
theorem Y2r(F:Ab K "is_table" (top 44) .none)(X:K.In h)(G:Ng h mg)(B:Bs mg)(cG:Ai P w K mg base k "is_whole" ["thing"] QM)(dN:Ai P w K mg base k "is_even_mark" ["thing","cells"] Mp)
  (d8:Ai P w K mg base k "commutes_with_all" ["mark","rows"] (yR K)) (eY:Ai P w K mg base k "made_of" ["rows","mark","cells"] (xK K)):Ai P w K mg base (k+1) "is_table" ["rows","cells"] JD:=by
 refine F.cal X G ["rows","cells"] λnd H vs Q E' J h=>?_;obtain⟨N,l,ps,ms,rfl,N1,N6,hl,C,R8,ok,q⟩:=h
 refine⟨_,(@Av _ _ _ _ _ (B_ (PW.pt (HJ (Fo (Dd (CG Ox rfl B.isinstance Gy (Aa (pv 0) (Aa (K6 (v:=.ty "list") rfl B.list PJ rfl) Ae))))) (HJ (Fo (Dd (Ay cG J rfl (Aa (pv 1) Ae)))) (Je (CP Og (pv 1) Ac (Ad _))))))
  (@Aj _ _ _ (BJ Cw))
  CJ)
 (@Av _ _ _ _ _ (B_ (Fo (Dd (CG (YF rfl) rfl B.all Xe (Aa (HY rfl (Bl.of (Nc:=["row","cells"]) (mp:=[none,some 1]) (by kernel_rfl)) (GC (pv 0)) (λ_ _ _ _=>(CV (i:=0) (show (["row","cells"]:W5).Nodup by decide +kernel) rfl (Or.inl rfl))) (λ_ _ _ _=>(Ay dN J rfl (Aa (pv 0) (Aa (pv 1) Ae))))) Ae))))
  (@Aj _ _ _ (BJ Cw))
  CJ)
 (@Av _ _ _ _ _ (B_ (Fo (Dd (CG (YF rfl) rfl B.all Xe (Aa (HY rfl (Bl.of (Nc:=["row","rows"]) (mp:=[none,some 0]) (by kernel_rfl)) (GC (pv 0)) (λ_ _ _ _=>(CV (i:=0) (show (["row","rows"]:W5).Nodup by decide +kernel) rfl (Or.inl rfl))) (λ_ _ _ _=>(Ay d8 J rfl (Aa (pv 0) (Aa (pv 1) Ae))))) Ae))))
  (@Aj _ _ _ (BJ Cw))
  CJ)
 (@Aj _ _ _ (BJ (Yc (CG (QT rfl) rfl B.any PB (Aa (HY rfl (Bl.of (Nc:=["place","row","rows","cells"]) (mp:=[none,none,some 0,some 1]) (by kernel_rfl)) (Tc rfl B.enumerate (Aa (pv 0) Ae)) (λ_ _ _ _=>(Vb rfl (show (["place","row","rows","cells"]:W5).Nodup by decide +kernel) rfl rfl rfl rfl)) (λ_ _ _ _=>(Fv Df (Aw VG (Ay eY J rfl (Aa (Nv X2g (pv 2) Lx (K7 (pv 0))) (Aa (pv 1) (Aa (pv 3) Ae)))) Ac (λ_ _=>rfl)) Fg (Ad _)))) Ae)))))))),?_⟩
 try dsimp only[CN]
 have D:Ag K H l (ps.map V.ref):=Ag.of hl;have n:(ps.map V.ref).length=ms.length:=by rw[A_,C.length]
 refine⟨_,O,_,_,_,true,O,DP.lst hl,qu K,_,O,Bd ⟨_,O,_,O,_,O,Bd ⟨_,O,_,_,O,O,_,O,BP (λz=>absurd z (by lia)) (λ_=>?_)⟩⟩⟩;refine⟨_,O,l,O,⟨_,D⟩,λacc I=>?_⟩;refine TY (K:=K) (a:=l) (xs:=ps.map V.ref) (fr:=[some (.int N)]) (λi ys H'=>Same H H'/\H' acc=some (.lst ys)/\ys=((ms.take i).map SJ).map V.bl) (by rw[n];exact LK (by lia)) ⟨Ao I _,Al,O⟩ (λi ys H' e=>e.1.seq D) ?_ ?_
 ·rintro i x ys HA NN A a4 ⟨Z,cA,rfl⟩ S;rw[Cz]at A;obtain⟨p,hp,rfl⟩:=Fz.mp A;obtain⟨r,f,p0⟩:=C.get hp;refine⟨_,O,_,O,p,r,N,O,Z _ _ p0,ok r (Ke f),N6,?_⟩;refine S _ _ cA ⟨Dy Z I,Al,?_⟩;rw[Js,f,Kz,Cg,Cg];rfl
 rintro ys H1 a8 ⟨W,c1,rfl⟩;rw[n,Kc]at c1;refine⟨acc,_,O,Ag.of c1,_,O,FQ (λz=>?_) (λz=>?_)⟩
 ·refine q false H1 W ⟨(λz=>nomatch z),λ_=>.inl ?_⟩;rw[Wn]at z;refine Classical.byContradiction λM=>?_;have:ms.all (id ∘ SJ)=true:=Gz.mpr λm g=>Kl.mpr (Classical.byContradiction λhe=>M ⟨m,g,he⟩);rw[this]at z;cases z
 have a7:∀m∈ms,ev m:=λm g=>by
  rw[Wn]at z;exact Kl.mp (Gz.mp z m g)
 refine⟨_,O,l,O,⟨_,W.seq D⟩,λE t=>?_⟩;refine TY (K:=K) (a:=l) (xs:=ps.map V.ref) (fr:=[some (.ref l)]) (λi ys H'=>Same H1 H'/\H' E=some (.lst ys)/\ys=((ms.take i).map λm=>ms.all λr=>decide (comm m r=0)).map V.bl) (by rw[n];exact LK (by lia)) ⟨Ao t _,Al,O⟩ (λi ys H' e=>(W.trans e.1).seq D) ?_ ?_
 ·rintro i x ys HA NN A a4 ⟨Z,cA,rfl⟩ S;rw[Cz]at A;obtain⟨p,hp,rfl⟩:=Fz.mp A;obtain⟨r,f,p0⟩:=C.get hp;have L:=W.trans Z;refine⟨_,O,_,O,p,l,ps,ms,r,O,L _ _ p0,L.seq D,C.same L,R8,λHB SB=>?_⟩;refine S _ _ (SB _ _ cA) ⟨Dy (Z.trans SB) t,Al,?_⟩;rw[Js,f,Kz,Cg,Cg];rfl
 rintro ys H2 b0 ⟨S2,c2,rfl⟩;rw[n,Kc]at c2;have s:=W.trans S2;refine⟨E,_,O,Ag.of c2,_,O,FQ (λz=>?_) (λz=>?_)⟩
 ·refine q false H2 s ⟨(λz=>nomatch z),λ_=>.inr (.inl ?_)⟩;rw[Wn]at z;refine Classical.byContradiction λM=>?_;have:ms.all (id ∘ λm=>ms.all λr=>decide (comm m r=0))=true:=Gz.mpr λm g=>Gz.mpr λr J=>Ec (Classical.byContradiction λhe=>M ⟨m,g,r,J,he⟩);rw[this]at z;cases z
 have a2:∀m∈ms,∀r∈ms,comm m r=0:=λm g r J=>by
  rw[Wn]at z;exact Kd (Gz.mp (Gz.mp z m g) r J)
 refine⟨_,O,l,_,O,s.seq D,λU R=>?_⟩;refine qK (l:=l) (xs:=ps.map V.ref) (fr:=[some (.ref l),some (.int N)]) (λi zs=>∃bs:List Bool,zs=bs.map V.bl/\bs.length=i/\∀(j:Nat) (b:Bool) (m:Mk),bs[j]?=some b->ms[j]?=some m->(b=true->Md (ms.take j) m)/\(b=false->Apart (ms.take j) m)) (by rw[n];exact LK (by lia)) R (s.seq D) ⟨[],O,O,λj b m hb=>by simp at hb⟩ (λh q=>⟨_,_,O,Ax.of h,O,_,_,O,_,_,O,O,q⟩) ?_ ?_
 ·rintro i x zs H3 NN A S3 ⟨bs,rfl,bl,u⟩ S;have a9:i<(ps.map V.ref).length:=(Fq.mp A).1;rw[Cz]at A;obtain⟨p,hp,rfl⟩:=Fz.mp A;obtain⟨r,f,p0⟩:=C.get hp;have a0:=Ke f;have L:=s.trans S3;have add:∀c:Bool,((c=true->Md (ms.take i) r)/\(c=false->Apart (ms.take i) r))->∃bs':List Bool,bs.map V.bl++[V.bl c]=bs'.map V.bl/\bs'.length=i+1/\∀(j:Nat) (b:Bool) (m:Mk),bs'[j]?=some b->ms[j]?=some m->(b=true->Md (ms.take j) m)/\(b=false->Apart (ms.take j) m):=λc hc=>by
   refine⟨bs++[c],by rw[Cg];rfl,by rw[Ed,bl];rfl,λj b m hb d=>?_⟩;by_cases T:j<bs.length
   ·rw[Rv T]at hb;exact u j b m hb d
   ·have a6:j=i:=by
     have:=(Fq.mp hb).1;rw[Ed,Zf]at this;lia
    subst a6;rw[Us (by lia),bl,Nat.sub_self]at hb;have hb:c=b:=by simpa using hb
    rw[f]at d;have d:=Option.some.inj d;subst hb;subst d;exact hc
  refine⟨_,O,_,O,_,O,l,_,O,L.seq D,λcp a5=>?_⟩;rw[bC (by lia),<-Wr];have s4:=Ao a5 (.lst ((ps.take i).map V.ref));refine⟨_,O,_,O,cp,p,ps.take i,ms.take i,r,N,O,Ag.of Al,((C.same L).same s4).take i,s4 _ _ (L _ _ p0),N6,by rw[Ka];lia,λm C=>ok m (List.mem_of_mem_take C),ok r a0,λrt H5 S5 Y=>?_⟩;rcases Y with ⟨k1,y,ln,_,hrt,_,k4,hf⟩ | ⟨pp,o,hrt,_,_,_,c1,c0⟩
  ·refine⟨rt,_,_,_,O,O,Ax.of hrt,O,O,?_⟩;rw[Ec rfl];exact S _ H5 (s4.trans S5) (add true ⟨λ_=>⟨k1,y,k4,hf⟩,λz=>nomatch z⟩)
  ·refine⟨rt,_,_,_,O,O,Ax.of hrt,O,O,?_⟩;rw[Cr am];exact S _ H5 (s4.trans S5) (add false ⟨(λz=>nomatch z),λ_=>⟨o,c1,c0⟩⟩)
 ·rintro zs H3 S3 ⟨bs,rfl,bl,u⟩ a3;rw[n]at bl;refine⟨U,_,O,Ag.of a3,_,O,?_⟩;cases ha:bs.any id with
  | true =>
   refine q false H3 (s.trans S3) ⟨(λz=>nomatch z),λ_=>.inr (.inr ?_)⟩;obtain⟨b,hb,eb⟩:=Uj.mp ha;obtain⟨j,T,ej⟩:=List.getElem_of_mem hb;have d:ms[j]?=some (ms[j]'(by lia)):=GR (by lia);exact⟨j,_,d,(u j b _ (by rw[GR T,ej]) d).1 eb⟩
  | false =>
   refine q true H3 (s.trans S3) ⟨λ_=>⟨a7,a2,λj m d=>?_⟩,λz=>nomatch z⟩;have T:j<bs.length:=by have:=(Fq.mp d).1;lia
   have a1:=GR T;have fb:bs[j]=false:=by
    cases hq:bs[j] with
    | false=>rfl
    | true =>
     have:bs.any id=true:=Uj.mpr ⟨bs[j],Uk T,hq⟩;rw[this]at ha;cases ha
   exact(u j _ m a1 d).2 fb
end
theorem X2e{N:Nat}{H:Hp}{l:Y4}{ps:U5}{ms:List Mk}{b:Bool}(T:Gr N H l ps ms)(t:Tab ms b):b=true:=by
 cases b with
 | true=>rfl
 | false =>
  rcases t.2 rfl with ⟨m,hm,he⟩ | ⟨m,hm,r,hr,hc⟩ | ⟨i,m,hmi,kk,x,k4,hf⟩
  ·exact absurd (T.tb.nice.even m hm) he
  ·exact absurd (T.tb.nice.com m hm r hr) hc
  ·have c:i<ms.length:=(Fq.mp hmi).1;have a:ms.getD i (0,0,0)=m:=by rw[Ef,hmi];rfl
   rw[<-a]at hf;exact(nQ T.tb.ind c (by rw[a];exact T.tb.nice.q m (Ke hmi)) k4 hf).elim
variable{base:Heap}
theorem Ai.imp{P:W3}{w:W6}{K:U0}{mg:U6}{k:Nat}{x:Str}{ps:W5}{sp sp':Sp}(c:Ai P w K mg base k x ps sp)(h:∀vs H Q E,sp' vs H Q E->sp vs H Q E):Ai P w K mg base k x ps sp' :=
 let ⟨f,fd,F,b,kp,m⟩:=c.ex
 ⟨f,fd,F.imp h,b,kp,m⟩
theorem X4a{P:W3}{w:W6}{K:U0}{mg:U6}{k:Nat}(c:Ai P w K mg base k "is_table" ["rows","cells"] JD):Ai P w K mg base k "is_table" ["rows","cells"] yV :=
 Ai.imp c λvs H Q E h=>by
  obtain⟨l,ps,ms,N,rfl,T,f,d,a⟩:=h;refine⟨N,l,ps,ms,O,f,d,T.lst,T.mks,Ek T.len (by decide),T.ok,λb H' e t=>?_⟩;rw[X2e T t];exact a H' e
end CK
namespace Fx
def Tr (di:Y0)(e T:Y4)(cls fl:W7)(h:Heap):Prop:=∃oe vs oT ts,h.get? e=some oe/\(oe.cls=cls/\oe.dict=di)/\oe.data=.fields vs/\(vs[1]?=some (.ref T)/\vs[2]?=some .none)/\T≠e/\h.get? T=some oT/\oT.data=.fields ts/\ts[3]?=some fl/\3<ts.size
structure Kp (fs xs:U5) (h h':Heap):Prop where
 keep:∀b o,h.get? b=some o->b∉fs->b∉xs->h'.get? b=some o
 slot:∀b o,h.get? b=some o->b∉xs->∃sl,h'.get? b=some {o with slots:=sl}
 there:∀b o,h.get? b=some o->∃o',h'.get? b=some o'
section
variable {fs xs:U5}{h h1 h2:Heap}
theorem Kp.trans(p:Kp fs xs h h1)(q:Kp fs xs h1 h2):Kp fs xs h h2 where
 keep:=λb o e n m=>q.keep b o (p.keep b o e n m) n m
 slot:=λb o e m=>by
  obtain⟨c,e1⟩:=p.slot b o e m;obtain⟨a,e2⟩:=q.slot b _ e1 m;exact⟨a,e2⟩
 there:=λb o e=>by
  obtain⟨o1,e1⟩:=p.there b o e;exact q.there b o1 e1
theorem Kp.same(k:∀b o,h.get? b=some o->h1.get? b=some o):Kp fs xs h h1:=⟨λb o e _ _=>k b o e,λb o e _=>⟨o.slots,k b o e⟩,λb o e=>⟨o,k b o e⟩⟩
theorem Kp.new(o:Obj):Kp fs xs h (h.push o):=.same λ_ _ e=>FP _ e
theorem Kp.slots(p:Heap.SlotsOnly fs h h1):Kp fs xs h h1 where
 keep:=λb o e n _=>(p.2.1 b n).trans e
 slot:=λb o e _=>p.2.2 b o e
 there:=λb o e=>let ⟨_,q⟩:=p.2.2 b o e;⟨_,q⟩
theorem Kp.field{a:Y4}{o:Obj}{vs:W4}{f:Array Value->Array Value}(ha:a∈xs)(e:h.get? a=some o)(d:o.data=.fields vs):Kp fs xs h (h.update a (Obj.mapFields f)):=by
 have k:∀b u,b≠a->h.get? b=some u->(h.update a (Obj.mapFields f)).get? b=some u:=λb u n q=>(Rr _ _ n.symm).trans q;have c:=Uq (Obj.mapFields f) e (Obj.isFreed_of_fields (Obj.data_mapFields d f));exact⟨λb u q _ m=>k b u (λz=>m (z ▸ ha)) q,λb u q m=>⟨u.slots,k b u (λz=>m (z ▸ ha)) q⟩,λb u q=>(Classical.em (b=a)).elim (λz=>⟨o.mapFields f,by rw[z];exact c⟩) λz=>⟨u,k b u z q⟩⟩
theorem Kp.fresh(p:Kp fs xs h h1){b:Y4}(e:h1.get? b=none):h.get? b=none:=by
 cases q:h.get? b with
 | none=>rfl
 | some o=>obtain⟨o',a⟩:=p.there b o q;rw[e]at a;cases a
end
def Rec (h:Heap)(a:Y4)(o:Obj)(vs:W4):Prop:=h.get? a=some o/\o.data=.fields vs
variable{vs:W4}
theorem Rec.put{h:Heap}{a:Y4}{o:Obj}(r:Rec h a o vs)(f:Array Value->Array Value):Rec (h.update a (Obj.mapFields f)) a (o.mapFields f) (f vs):=
 ⟨Uq _ r.1 (Obj.isFreed_of_fields (Obj.data_mapFields r.2 f)),Obj.data_mapFields r.2 f⟩
theorem Rec.off{h:Heap}{a b:Y4}{o:Obj}(r:Rec h a o vs)(n:a≠b)(f:Obj->Obj):Rec (h.update b f) a o vs:=⟨(Rr _ _ n.symm).trans r.1,r.2⟩
theorem X7g(o:Obj)(f:Array Value->Array Value):(o.mapFields f).cls=o.cls/\(o.mapFields f).dict=o.dict:=by
 obtain⟨c,d,a,b⟩:=o;cases a<;>exact⟨O,O⟩
variable{e T:Y4}{oe:Obj}
theorem Tr.of{h:Heap}{oT:Obj}{ts:W4}{cls fl:W7}(r:Rec h e oe vs)(c:oe.cls=cls/\oe.dict=di)(r':Rec h T oT ts)(n:T≠e)(v:vs[1]?=some (.ref T)/\vs[2]?=some .none)(t:ts[3]?=some fl)(z:3<ts.size):Tr di e T cls fl h :=
 ⟨oe,vs,oT,ts,r.1,c,r.2,v,n,r'.1,r'.2,t,z⟩
section
variable {M:Model}{A:Y1}{E:U3}{s:W1}
variable{base:Heap}{env:Env}{outer:List Env}{L:Y4}{Q:Unit->Shared->Prop}
theorem hung{head:W7}{b:Bool}{xs:U5}
  (ha:A.frames=some (env::outer)) (hf:s.heap.FunFrames base (env::outer)) (hl:env.frame=some L) (r:Rec s.heap e oe vs) (hd:oe.dict=di) (two:1<vs.size) (ctx:vs[2]?=some .none) (he:e∈xs)
  (k:∀h' T,s.heap.get? T=none->Tr di e T oe.cls .none h'->Kp ((env::outer).filterMap (·.frame)) xs s.heap h'->Q () {s with heap:=h'}):
  wpAny M A (do let a ← frameOf env;let l ← entryPlaceOf L b;let t ← EntryCells.newEntry head a .none (rawInt L) .none l;setField (.ref e) 1 t) (λ_ s'=>wpAny M A (setFlight (.ref e) none) Q E s') E s:=by
 have G:e∉(env::outer).filterMap (·.frame):=λz=>by
  obtain⟨_,o,q,n⟩:=hf.mem z;exact n vs (Option.some.inj (r.1.symm.trans q) ▸ r.2)
 refine Bw (wpAny_frameOf_fun ha hf hl λh1 j=>Bw (wpAny_entryPlaceOf λl g=>Bw ?_));have C:Kp ((env::outer).filterMap (·.frame)) xs s.heap h1:=.slots j;have v:Rec h1 e oe vs:=⟨(j.2.1 e G).trans r.1,r.2⟩;have x:h1.objs.size≠e:=M9 (Cd v.1);have new:s.heap.get? h1.objs.size=none:=C.fresh (Heap.get?_none_of_le (CT _));simp only[EntryCells.newEntry,newFields];refine Qw ?_ (g.sizeOk5 _ _ _ _ _);obtain⟨o,F,ts,d,t3,tz⟩:∃o:Obj,o={ cls:=.type "traceback",dict:=none,data:=.fields ([head,.ref L,.none,rawInt L,.none]++(if l.isEmpty then List.replicate 6 Value.none else l)).toArray}/\∃ts:Array Value,o.data=.fields ts/\ts[3]?=some (rawInt L)/\3<ts.size:=by
  refine⟨_,O,_,O,?_,?_⟩
  ·rcases g with rfl | ⟨_,_,_,_,_,_,_,rfl⟩<;>simp
  ·simp only[FJ,Ed,Lf,List.length_nil];lia
 rw[<-F];have i:Rec (h1.push o) e oe vs:=⟨FP _ v.1,v.2⟩;have D:Rec (h1.push o) h1.objs.size o ts:=⟨Gv _ (Obj.isFreed_of_fields d),d⟩;have p2:=C.trans (Kp.new o);refine Wu i.1 i.2 two ?_;have B:=i.put (·.setIfInBounds 1 (Value.ref h1.objs.size));have p:=D.off x (Obj.mapFields (·.setIfInBounds 1 (Value.ref h1.objs.size)));have y:=p2.trans (Kp.field (f:=(·.setIfInBounds 1 (Value.ref h1.objs.size))) he i.1 i.2);have v1:(vs.setIfInBounds 1 (Value.ref h1.objs.size))[1]?=some (.ref h1.objs.size):=by simp[two]
 refine wpAny_setFlight_none B.1 B.2 v1 p.1 p.2 tz (k _ h1.objs.size new ?_ ?_)
 ·have c:=X7g oe (·.setIfInBounds 1 (Value.ref h1.objs.size));exact Tr.of (B.off x.symm _) ⟨c.1,c.2.trans hd⟩ (p.put _) x ⟨v1,by rw[Array.getElem?_setIfInBounds_ne (by decide)];exact ctx⟩ (by simp[tz]) (by simpa using tz)
 ·have q:∀b u,b≠h1.objs.size->Heap.get? ((h1.push o).update e (Obj.mapFields (·.setIfInBounds 1 (Value.ref h1.objs.size)))) b=some u->Heap.get? (((h1.push o).update e (Obj.mapFields (·.setIfInBounds 1 (Value.ref h1.objs.size)))).update h1.objs.size (Obj.mapFields (·.setIfInBounds 3 .none))) b=some u:=λb u n z=>(Rr _ _ n.symm).trans z;have h:∀b u,s.heap.get? b=some u->b≠h1.objs.size:=λb u z w=>by rw[w,new]at z;cases z
  exact⟨λb u z n m=>q b u (h b u z) (y.keep b u z n m),λb u z m=>let ⟨j,w⟩:=y.slot b u z m;⟨j,q b _ (h b u z) w⟩,λb u z=>let ⟨u',w⟩:=y.there b u z;⟨u',q b u' (h b u z) w⟩⟩
theorem flight{cls fl:W7}(t:Tr di e T cls fl s.heap)(k:∀h',Tr di e T cls .none h'->(∀b,b≠T->h'.get? b=s.heap.get? b)->Q () {s with heap:=h'}):wpAny M A (setFlight (.ref e) none) Q E s:=by
 obtain⟨oe,vs,d,ts,e1,c,e2,v,n,a,t2,-,z⟩:=t;have r:Rec s.heap e oe vs:=⟨e1,e2⟩;have f:Rec s.heap T d ts:=⟨a,t2⟩;exact wpAny_setFlight_none e1 e2 v.1 a t2 z (k _ (Tr.of (r.off n.symm _) c (f.put _) n v (by simp[z]) (by simpa using z)) λb m=>Rr _ _ m.symm)
theorem Y3c
  (ha:A.frames=some (env::outer)) (hf:s.heap.FunFrames base (env::outer)) (hl:env.frame=some L) (e1:s.heap.get? e=some oe) (hd:oe.dict=di) (e2:oe.data=.fields vs) (one:vs[1]?=some .none) (ctx:vs[2]?=some .none)
  (k:∀h' T,s.heap.get? T=none->Tr di e T oe.cls .none h'->Kp ((env::outer).filterMap (·.frame)) [e] s.heap h'->Q () {s with heap:=h'}):wpAny M A (leaving env (.ref e)) Q E s:=by
 have r:Rec s.heap e oe vs:=⟨e1,e2⟩;unfold leaving noteFrame;simp only[hl];exact Bw (Bw (LQ e1 e2 one (hung ha hf hl r hd (tW.mp one).1 ctx (by simp) k)))
theorem yN{T0:Y4}{cls:W7}
  (ha:A.frames=some (env::outer)) (hf:s.heap.FunFrames base (env::outer)) (hl:env.frame=some L) (ht:Tr di e T0 cls .none s.heap)
  (k:∀h' T,s.heap.get? T=none->Tr di e T cls .none h'->Kp ((env::outer).filterMap (·.frame)) [e,T0] s.heap h'->Q () {s with heap:=h'}):wpAny M A (noteFrame (.ref e) env) (λ_ s'=>wpAny M A (setFlight (.ref e) none) Q E s') E s:=by
 obtain⟨oe,vs,i,ts,e1,⟨c,hd⟩,e2,⟨one,g⟩,n,f,t2,a,d⟩:=ht;have r:Rec s.heap e oe vs:=⟨e1,e2⟩;have m:Rec s.heap T0 i ts:=⟨f,t2⟩;have p:Kp ((env::outer).filterMap (·.frame)) [e,T0] s.heap (s.heap.update T0 (Obj.mapFields (·.setIfInBounds 3 Value.none))):=.field (by simp) f t2
 have fr:Heap.FunFrames (s.heap.update T0 (Obj.mapFields (·.setIfInBounds 3 Value.none))) base (env::outer):=hf.of_keeps λb o q l=>⟨o,(Rr _ _ λz=>by
  rw[<-z,f]at q;exact l ts (Option.some.inj q ▸ t2)).trans q,O⟩
 unfold noteFrame;simp only[hl];refine Bw (LQ e1 e2 one ?_);simp only[show (Value.ref T0 != Value.none)=true from rfl,KD];refine Bw (LQ f t2 a ?_);simp only[show (Value.none == rawInt L)=false from rfl,Uo,Kv];refine Bw (Wu f t2 d ?_);refine hung (s:={s with heap:=s.heap.update T0 (Obj.mapFields (·.setIfInBounds 3 Value.none))}) (xs:=[e,T0]) ha fr hl (r.off n.symm _) hd (tW.mp one).1 g (.head _) λh' T j h q=>?_;rw[c]at h;exact k h' T (p.fresh j) h (p.trans q)
theorem Y6v{T0:Y4}{cls:W7}
  (ha:A.frames=some (env::outer)) (hf:s.heap.FunFrames base (env::outer)) (hl:env.frame=some L) (ht:Tr di e T0 cls .none s.heap)
  (k:∀h' T,s.heap.get? T=none->Tr di e T cls .none h'->Kp ((env::outer).filterMap (·.frame)) [e,T0] s.heap h'->Q () {s with heap:=h'}):wpAny M A (leaving env (.ref e)) Q E s :=
 Bw (yN ha hf hl ht k)
end
end Fx
namespace L2
open Fx
noncomputable def O6 (P:W3)(w:W6):N7:=λouter H s E e s'=>∃(a T:Y4) (cls:W7) (di:Y0) (H':Hp),e=.ref a/\s'.os=s.os/\AllBare s'.gens/\Un (frs outer) [] H H' s.heap s'.heap/\Fb P w H' s'.heap /\
 Tr di a T cls .none s'.heap/\s.heap.get? a=none/\s.heap.get? T=none/\H' a=none/\H' T=none/\E cls di H'
theorem Bh.get{P:W3}{w:W6}{H:Hp}{h:Heap}{a:Y4}{o:HO}(x:Bh P w H h a o):∃ob,h.get? a=some ob:=by
 cases o with
 | lst xs=>obtain⟨_,_,_,_,e⟩:=x;exact⟨_,e⟩
 | tup xs=>obtain⟨_,_,_,ob,e,_⟩:=x;exact⟨_,e⟩
 | dK kvs=>obtain⟨_,_,_,_,o,_,_,e,_⟩:=x;exact⟨_,e⟩
 | dT kvs=>obtain⟨_,_,_,_,o,_,_,e,_⟩:=x;exact⟨_,e⟩
 | set S n=>obtain⟨o,_,_,_,e,_⟩:=x;exact⟨_,e⟩
 | ins C dx fs=>obtain⟨_,_,_,e,_⟩:=x;exact⟨_,e⟩
 | own y=>obtain⟨_,e⟩:=x;exact⟨_,e⟩
 | xd fs=>obtain⟨_,⟨_,_,_,e,_⟩,_⟩:=x;exact⟨_,e⟩
 | rng lo hi=>obtain⟨_,_,_,e⟩:=x;exact⟨_,e⟩
 | frz ob u=>obtain⟨e,_⟩:=x;exact⟨_,e⟩
 | tbl ps=>exact⟨_,x⟩
 | met f y=>exact⟨_,x⟩
 | ext φ=>obtain⟨_,⟨_,e⟩,_⟩:=x;exact⟨_,e⟩
structure Gs (X:Cx) (E:XK):Prop where
 xe:∀e s',wpAny (model X.prog X.w) X.A (leaving X.env e) (λ_ s''=>O6 X.prog X.w X.outer X.H₀ X.s₀ E e s'') (λe' s''=>O6 X.prog X.w X.outer X.H₀ X.s₀ E e' s'') s'->X.xe e s'
 stk:X.stack=X.env::X.outer/\X.env.frame=some X.env.locals
 ex:X.ex=[]
section
variable {X:Cx}{pins:U1}{σ:St}{H:Hp}{s:W1}{E:XK}
theorem Inv.new0(I:Inv X pins σ H s)(F:Gs X E){b:Y4}(hb:s.heap.get? b=none):X.s₀.heap.get? b=none:=by
 cases q:X.s₀.heap.get? b with
 | none=>rfl
 | some o =>
  obtain⟨o',a⟩:=I.base.there b o q (by rw[F.ex];intro z;cases z);rw[hb]at a;cases a
theorem Inv.newH(I:Inv X pins σ H s){b:Y4}(hb:s.heap.get? b=none):H b=none:=by
 cases q:H b with
 | none=>rfl
 | some o =>
  obtain⟨c,a⟩:=Bh.get (I.hok b o q);rw[hb]at a;cases a
theorem Inv.left{h1 h':Heap}{e T:Y4}{xs:U5}{cls:W7}{di:Y0}(I:Inv X pins σ H s)(F:Gs X E)(k1:∀b o,s.heap.get? b=some o->h1.get? b=some o)(hxs:∀b∈xs,X.s₀.heap.get? b=none/\H b=none)
  (kp:Kp ((X.env::X.outer).filterMap (·.frame)) xs h1 h') (he:X.s₀.heap.get? e=none/\H e=none) (hT:X.s₀.heap.get? T=none/\H T=none) (tr:Tr di e T cls .none h') (q:E cls di H):O6 X.prog X.w X.outer X.H₀ X.s₀ E (.ref e) {s with heap:=h'}:=by
 have n:∀b,b∈(X.env::X.outer).filterMap (·.frame)->b=X.env.locals\/b∈X.fs:=λb hb=>by
  have:=I.stkSub b (by rw[F.stk.1];exact hb);exact Dw.mp this
 have j:∀b o,X.s₀.heap.get? b=some o->b≠X.env.locals:=λb o hb z=>by
  have h1:=Cd hb;have h2:=I.ok.above;rw[z]at h1;exact OJ _ (DK h1 h2)
 have d:∀b,b∉X.ex:=λb hb=>by rw[F.ex]at hb;cases hb
 have h:∀b o,X.s₀.heap.get? b=some o->b∉xs:=λb o hb f=>by rw[(hxs b f).1]at hb;cases hb
 refine⟨e,T,cls,di,H,O,I.os,I.bare,⟨λb o hb i hf _=>?_,λb o hb i hf _=>?_,λb o hb i _=>I.base.free b o hb i (d b),λb o hb _=>?_,I.base.tups,I.base.frzs,I.base.tbls⟩,λa o p=>?_,tr,he.1,hT.1,he.2,hT.2,q⟩
 ·have g:=I.base.keep b o hb i hf (d b);exact kp.keep b o (k1 b o g) (λf=>(n b f).elim (j b o hb) hf) (h b o hb)
 ·obtain⟨x,g⟩:=I.base.slot b o hb i hf (d b);obtain⟨l,r⟩:=kp.slot b _ (k1 b _ g) (h b o hb);exact⟨l,r⟩
 ·obtain⟨o',g⟩:=I.base.there b o hb (d b);exact kp.there b o' (k1 b o' g)
 ·refine(I.hok a o p).stay (λc v t q=>?_) (λ_ q=>q) λ_ _ q=>q;have k:∃u,H c=some u:=by
   rcases t with z | z
   ·rw[z];exact⟨_,p⟩
   ·exact⟨_,z⟩
  obtain⟨u,m⟩:=k;refine kp.keep c v (k1 c v q) (λf=>?_) (λf=>by rw[(hxs c f).2]at m;cases m);have:=I.stkFree c (by rw[F.stk.1];exact f);rw[m]at this;cases this
theorem Inv.fly{h1:Heap}{e:Y4}{cls:W7}{args:U9}(I:Inv X pins σ H s)(F:Gs X E)(m:Heap.MadeExcOf s.heap h1 e cls args)(q:E cls none H):X.xe (.ref e) {s with heap:=h1}:=by
 refine F.xe _ _ ?_;obtain⟨t,i,_,_⟩:=m.there;have d:X.s₀.heap.get? e=none/\H e=none:=⟨I.new0 F m.new,I.newH m.new⟩;refine Y3c (base:=X.base) (outer:=X.outer) (s:={s with heap:=h1}) (by rw[I.ok.frames,F.stk.1]) ((by rw[<-F.stk.1];exact I.stack:s.heap.FunFrames X.base (X.env::X.outer)).of_keeps λb o hb _=>⟨o,m.keeps b o hb,O⟩) F.stk.2 i rfl rfl rfl rfl λh' T f g h=>?_;have a:s.heap.get? T=none:=by
  cases q:s.heap.get? T with
  | none=>rfl
  | some o =>
   have c:h1.get? T=none:=f;rw[m.keeps T o q]at c;cases c
 exact Inv.left (s:=s) (h1:=h1) (h':=h') I F m.keeps (λb hb=>by rw[Fj.mp hb];exact d) h d ⟨I.new0 F a,I.newH a⟩ g q
theorem Inv.flyOn{E':XK}{e:W7}{s':W1}(I:Inv X pins σ H s)(F:Gs X E)(c:O6 X.prog X.w X.stack H s E' e s')(hE:∀cls j H',E' cls j H'->E cls j H'):X.xe e s':=by
 obtain⟨a,T,cls,j,H1,rfl,os,f,un,i,r,k,m,l,n,q⟩:=c;have g:Inv X pins σ H1 s':=I.call' (ch:=[]) os un i f (λb hb=>by cases hb);refine F.xe _ _ ?_;refine Y6v (base:=X.base) (outer:=X.outer) (by rw[I.ok.frames,F.stk.1]) (by rw[<-F.stk.1];exact g.stack) F.stk.2 r λh' t d h p=>?_;refine Inv.left (s:=s') (h1:=s'.heap) (h':=h') g F (λb o hb=>hb) (λb hb=>?_) p ⟨I.new0 F k,l⟩ ⟨g.new0 F d,g.newH d⟩ h (hE _ _ _ q);simp only[Dw,I_,Ht]at hb;rcases hb with rfl | rfl
 ·exact⟨I.new0 F k,l⟩
 ·exact⟨I.new0 F m,n⟩
theorem Gs.passes{E':XK}(F:Gs X E)(hE:∀cls di H',E' cls di H'->E cls di H'):Passes (O6 X.prog X.w) X E':=λpins σ H s e s' I c=>I.flyOn F c hE
theorem CW{P:W3}{w:W6}{K:U0}{mg:U6}{base:Heap}{N:W5}{qual:Str}{scope:Scope}{f:Y4}{cd:W7}{A:Y1}{outer:List Env}{E:XK} :
  Gs (Gw (O6 P w) P w K mg base N qual scope f cd A outer s H E) E:=⟨λ_ _ h=>h,⟨O,O⟩,O⟩
end
noncomputable abbrev Xp:List Value:=[.type "ValueError",.type "Exception",.type "BaseException",.type "object"]
structure ExcAt (K:U0) (C:Y4) (bm:U9):Prop where
 ex:∃N nm q bs hdct sn sub ab col dd k0 k1 k2 k3 k5,K.lookup C=some (excClassObj nm q C N bs bm hdct sn sub ab col dd k0 k1 k2 k3 k5 "ValueError.__new__")/\PySem.W.nsOkIn K N=true/\PySem.W.nsIn K N "__init__"=some none
 tail:PySem.W.tailIn K Xp bm=true
theorem excAt{K:U0}{C N:Y4}{nm q:Str}{bs bm:U9}{hdct:Bool}{sn:W5}{sub:U9}{ab:Bool}{col:Option Bool}{dd:Y0}{k0 k1 k2 k3 k5:Option Value}
  (l:K.lookup C=some (excClassObj nm q C N bs bm hdct sn sub ab col dd k0 k1 k2 k3 k5 "ValueError.__new__")) (o:PySem.W.nsOkIn K N=true) (n:PySem.W.nsIn K N "__init__"=some none) (t:PySem.W.tailIn K Xp bm=true):ExcAt K C bm :=
 ⟨⟨N,nm,q,bs,hdct,sn,sub,ab,col,dd,k0,k1,k2,k3,k5,l,o,n⟩,t⟩
section
variable {X:Cx}{E:XK}{x:Str}{C:Y4}{e:Expr}{es:List Expr}{t:TA}{np cpos pos:Pos}{bm:U9}
def Rc (E:XK)(C:Y4)(t:TA):TS:=λ_ σ H=>t σ H λvs H1=>vs.length<=sizeLine/\E (.ref C) none H1
theorem X8(F:Gs X E)(hc:X.calm=true)(hg:Gl X x)(hm:X.mg x=some (.ref C))(hx:ExcAt X.K C bm)(ha:PA X (e::es) t)(hdb:(x == ("__debug__":Str))=false:=by decide)
  (he:starEach (e::es) X.env=(false,eval e X.env)::starEach es X.env:=by rfl) (hpl:(backTo cpos (starEach es X.env)).any (·.1)=false:=by rfl):
  PS X (.Raise (some (.Call (.Name x np) (e::es) [] cpos)) none pos) (Rc E C t):=by
 intro pins s σ H D I h;obtain⟨N,nm,q,bs,hdct,sn,sub,ab,col,dd,k0,k1,k2,k3,k5,l,ok,n⟩:=hx.ex;have b:=I.ok.mod.kin;have k:=b _ _ l;have j:X.base.Ns N _:=.of_isNs (PySem.W.isNs_of_in b ok);have d:=PySem.W.nsMap_none_of_in b ok n;have T:=PySem.W.tail_of_in b hx.tail;refine wpAny_Raise_call_subT (C:=C) (nm:=nm) (q:=q) (N:=N) (bs:=bs) (bm:=bm) (hdct:=hdct) (sn:=sn) (sub:=sub) (ab:=ab) (col:=col) (dd:=dd) (k0:=k0) (k1:=k1) (k2:=k2) (k3:=k3) (k5:=k5)
  jV (T.hasType jV.hasBase) (I.ok.hd hc) (by rw[he];show (false || (backTo cpos (starEach es X.env)).any (·.1))=false;rw[hpl];rfl) d (RG I hg hm ⟨O,?_⟩ hdb)
 have h2:=ha cpos pins s σ H _ I h;rw[he]at h2 ⊢;refine Calls.evalArgs_plain (GK h2 (λus o ⟨vs,H1,c,g,i,f⟩=>⟨O,by rw[<-g.length];exact i,c.bk _ _ k,j.keeps c.bk,T.keeps c.bk,λh' a m=>c.fly F m f⟩) λ_ _ y=>y)
end
end L2
namespace PySem
section
variable {M:Model}{A:Y1}{E:U3}
theorem Z8l{h:Heap}{g:Array GenState}{d:Drawn}{t:Nat}{os:OsState}{e C D:Y4}{oe:Obj}{Q:Bool->Shared->Prop}
  {nm q:Str}{N:Y4}{bs bm:U9}{hdct:Bool}{sn:W5}{sub:U9}{ab:Bool}{col:Option Bool}{dd:Y0}{k0 k1 k2 k3 k5:Option Value}{newId:String}
  {nm' q':Str}{N':Y4}{bs' bm':U9}{hdct':Bool}{sn':W5}{sub':U9}{ab':Bool}{col':Option Bool}{dd':Y0}{k0' k1' k2' k3' k5':Option Value}{newId':String}
  (hC:h.get? C=some (excClassObj nm q C N bs bm hdct sn sub ab col dd k0 k1 k2 k3 k5 newId)) (hD:h.get? D=some (excClassObj nm' q' D N' bs' bm' hdct' sn' sub' ab' col' dd' k0' k1' k2' k3' k5' newId'))
  (he:h.get? e=some oe) (hcls:oe.cls=.ref C) (hbase:bm'.contains (.type "BaseException")=true) (hsub:(Value.ref C::bm).contains (.ref D)=true)
  (hq:Q true ⟨h,g,d,t,os⟩):wpAny M A (excMatches (.ref e) (.ref D)) Q E ⟨h,g,d,t,os⟩:=by
 have a:(Value.ref D::bm').contains (.type "BaseException")=true:=by rw[List.contains_cons,hbase,Bool.or_true]
 have f:=tc_notTuple;unfold excMatches;repeat (first | (with_reducible refine wpAny_loadPart_at he ?_;rw[hcls]) | with_reducible refine wpAny_loadPart_at hD ?_ | (with_reducible refine wpAny_isSubtype_exc hD ?_;rw[a]) | (with_reducible refine wpAny_isSubtype_exc hC ?_;rw[hsub]) | wp_step)
 exact hq
end
end PySem
namespace L2
open Fx
noncomputable def Ge (di:Y0)(a:Y4)(cls:W7):HO:=.ext λh=>∃o vs,h.get? a=some o/\(o.cls=cls/\o.dict=di)/\o.data=.fields vs/\vs[2]?=some .none
noncomputable def Xt (X:Cx)(pins:U1)(σ0:St)(E:XK):Cx:={X with pn:=X.pn++pins,xe:=λe s'=>∃H1 s1,Inv X pins σ0 H1 s1/\O6 X.prog X.w X.stack H1 s1 E e s'}
variable{X:Cx}{pins:U1}{σ0 σ:St}{H:Hp}{s:W1}
theorem Inv.ofXt{p2:U1}{E:XK}(I:Inv (Xt X pins σ0 E) p2 σ H s):Inv X pins σ H s :=
 ⟨⟨I.ok.mod,I.ok.kind,I.ok.glob,I.ok.blt,I.ok.above,I.ok.inj,I.ok.has,I.ok.cab,I.ok.hd,I.ok.frames,I.ok.stk,I.ok.exf,I.ok.bs,I.ok.bsz,I.ok.noex,I.ok.exfs,I.ok.funs,I.ok.frf⟩,
  I.os,I.bare,I.base,I.loc,I.cell,I.free,I.freeC,λp hp=>I.pin p (Oc _ hp),I.hok,I.len⟩
theorem Inv.toXt{E:XK}(I:Inv X pins σ H s):Inv (Xt X pins σ0 E) [] σ H s :=
 ⟨⟨I.ok.mod,I.ok.kind,I.ok.glob,I.ok.blt,I.ok.above,I.ok.inj,I.ok.has,I.ok.cab,I.ok.hd,I.ok.frames,I.ok.stk,I.ok.exf,I.ok.bs,I.ok.bsz,I.ok.noex,I.ok.exfs,I.ok.funs,I.ok.frf⟩,
  I.os,I.bare,I.base,I.loc,I.cell,I.free,I.freeC,λp hp=>I.pin p (by rw[KR]at hp;exact hp),I.hok,I.len⟩
noncomputable def Xh (X:Cx)(a:Y4):Cx:={X with A:=X.A.mark (some (.ref a)),calm:=false,xe:=λ_ _=>False}
variable{a:Y4}
theorem Inv.toXh(I:Inv X pins σ H s):Inv (Xh X a) pins σ H s :=
 ⟨⟨I.ok.mod,I.ok.kind,I.ok.glob,I.ok.blt,I.ok.above,I.ok.inj,I.ok.has,I.ok.cab,(λz=>by cases z),I.ok.frames,I.ok.stk,I.ok.exf,I.ok.bs,I.ok.bsz,I.ok.noex,I.ok.exfs,I.ok.funs,I.ok.frf⟩,
  I.os,I.bare,I.base,I.loc,I.cell,I.free,I.freeC,I.pin,I.hok,I.len⟩
theorem Inv.ofXh(ok:X.Ok)(I:Inv (Xh X a) pins σ H s):Inv X pins σ H s :=
 ⟨ok,I.os,I.bare,I.base,I.loc,I.cell,I.free,I.freeC,I.pin,I.hok,I.len⟩
theorem Inv.landed{H1 H':Hp}{s1 s':W1}{T T':Y4}{cls:W7}{h':Heap}(I:Inv X pins σ H1 s1)(os:s'.os=s1.os)(bare:AllBare s'.gens)(un:Un (frs X.stack) [] H1 H' s1.heap s'.heap)(hok:Fb X.prog X.w H' s'.heap)
  (kp:Kp (frs X.stack) [a,T] s'.heap h') (na:s1.heap.get? a=none) (nT:s1.heap.get? T=none) (ha:H' a=none) (hT:H' T=none) (tr:Tr di a T' cls .none h'):Inv X pins σ (upd H' a (Ge di a cls)) { s' with heap:=h'}:=by
 obtain⟨oe,vs,D,ts,r,y,hd,h1,t,C,A,G,F⟩:=tr;have nx:∀b o,s1.heap.get? b=some o->b∉[a,T]:=λb o hb g=>by
  simp only[Dw,I_,Ht]at g;rcases g with rfl | rfl
  ·rw[na]at hb;cases hb
  ·rw[nT]at hb;cases hb
 have e:∀b u,H' b=some u->b≠a:=λb u hb z=>by rw[z,ha]at hb;cases hb
 have m:∀b,b∈frs X.stack->H' b=none:=λb hb=>by
  obtain⟨_,o,x,_⟩:=I.stack.mem hb;exact un.free b o x (I.stkFree b hb) (by intro z;cases z)
 refine I.call' (ch:=[]) (s':={ s' with heap:=h'}) os ⟨λb o hb i hf ox=>?_,λb o hb i hf ox=>?_,λb o hb i ox=>?_,λb o hb ox=>?_,λb xs hb=>?_,λb o u hb=>?_,λb ps hb=>?_⟩ (λc o f=>?_) bare (λb hb=>by cases hb)
 ·exact kp.keep b o (un.keep b o hb i hf ox) hf (nx b o hb)
 ·obtain⟨E,q⟩:=un.slot b o hb i hf ox;obtain⟨p,j⟩:=kp.slot b _ q (nx b o hb);exact⟨p,j⟩
 ·rw[Cj (λz=>nx b o hb (by simp[z]))];exact un.free b o hb i ox
 ·obtain⟨o',q⟩:=un.there b o hb ox;exact kp.there b o' q
 ·have:=un.tups b xs hb;rw[Cj (e b _ this)];exact this
 ·have:=un.frzs b o u hb;rw[Cj (e b _ this)];exact this
 ·obtain⟨more,this⟩:=un.tbls b ps hb;exact⟨more,by rw[Cj (e b _ this)];exact this⟩
 ·by_cases hca:c=a
  ·subst hca;rw[Al]at f;cases f;exact⟨⟨oe,vs,r,y,hd,h1.2⟩,⟨oe,r⟩,λh1 h2 ⟨o,vs,s,j,B⟩ k=>⟨o,vs,k o s,j,B⟩⟩
  ·rw[Cj hca]at f;refine(hok c o f).stay (λd v l q=>?_) (λb q=>by rw[Cj (e b _ q)];exact q) λb xs q=>by rw[Cj (e b _ q)];exact q
   have n:∃u,H' d=some u:=by
    rcases l with z | z
    ·rw[z];exact⟨_,f⟩
    ·exact⟨_,z⟩
   obtain⟨u,h⟩:=n;refine kp.keep d v q (λg=>?_) (λg=>?_)
   ·rw[m d g]at h;cases h
   ·simp only[Dw,I_,Ht]at g;rcases g with rfl | rfl
    ·rw[ha]at h;cases h
    ·rw[hT]at h;cases h
theorem Inv.blank{h':Heap}{m':U6}{tk:Nat}(I:Inv X pins σ H s)(hn:h'.Ns X.env.locals m')(hs:Heap.SameBut X.env.locals s.heap h'):Inv X pins (List.replicate X.N.length none) H {s with heap:=h',toks:=tk}:=by
 have a:∀b o,X.s₀.heap.get? b=some o->b≠X.env.locals:=λb o e=>Eb (DK (Cd e) I.ok.above);refine⟨I.ok,I.os,I.bare,⟨λb o e n hb nx=>?_,λb o e n hb nx=>?_,I.base.free,λb o e nx=>?_,I.base.tups,I.base.frzs,I.base.tbls⟩,⟨m',hn,λi x v k1 e2 t=>?_⟩,λx c e=>?_,I.free,I.freeC,λp hp=>?_,λb m e=>?_,by simp⟩
 ·exact(hs.2 b (a b o e)).trans (I.base.keep b o e n hb nx)
 ·obtain⟨j,k1⟩:=I.base.slot b o e n hb nx;exact⟨j,(hs.2 b (a b o e)).trans k1⟩
 ·obtain⟨o',k1⟩:=I.base.there b o e nx;exact⟨o',(hs.2 b (a b o e)).trans k1⟩
 ·rw[Zh]at e2;split at e2<;>cases e2
 ·obtain⟨v,o,l,hd⟩:=I.cell x c e;exact⟨v,o,(hs.2 c (I.cne x c e)).trans l,hd⟩
 ·obtain⟨g,h,f,r,k⟩:=I.pin p hp;exact⟨(hs.2 _ f).trans g,h,f,r,k⟩
 ·refine(I.hok b m e).stay (λc u d q=>(hs.2 c ?_).trans q) (λ_ q=>q) λ_ _ q=>q;rintro rfl;rcases d with rfl | d
  ·rw[I.free]at e;cases e
  ·rw[I.free]at d;cases d
section
variable {X:Cx}{E:XK}
end
end L2
namespace PySem.W
open PySem.Calls Builtin Builtin.ObjectAttr
section
variable {prog:W3}{w:W6}{A:Y1}{E:U3}{K:Frag}{x C:Y4}{s:W1}{R:Result->Shared->Prop}
end
end PySem.W
namespace PySem.W
open PySem.Calls
structure JZ (K:Frag) (D:Y4):Prop where
 ga:findIn K (.ref D) "__getattribute__"=some (some (.builtin "BaseException.__getattribute__"))
 gt:findIn K (.ref D) "__getattr__"=some none
 ff:∀od,findObj K D od "__class__"=some (.bind (.builtin "getset_descriptor.__get__") (.builtin "object.__class__"))
 ob:mroIn K D (.type "object")=some true
 be:kitCls K (.ref D) (.type "BaseException")=some true
 me:kitCls K (.ref D) (.ref D)=some true
 dc:hasDictIn K D=true
section
variable {prog:W3}{w:W6}{A:Y1}{E:U3}{K:Frag}{x D:Y4}{ox:Obj}{od:Option Obj}
theorem X4j{tk:Tok}{s:W1}{Q:Fin->Shared->Prop}(g:JZ K D)(X:K.In s.heap)(I:InstAt s.heap x ox D od)(q:Q (.done (.ret (.ref D))) s):
  wpAny (model prog w) A (Builtin.«object.__getattribute__» ⟨[.ref x,.str "__class__" tk],[]⟩) Q E s:=by
 have b:=I.type (M:=model prog w);have a:=looks_find (M:=model prog w) X I (g.ff od);unfold Builtin.«object.__getattribute__»;refine Bw (Cq (Bw (Cq (Bw (b.at (Bw (a.at ?_)))))));show wpAny _ _ (Builtin.ObjectAttr.bindTo _ _ _ _) _ _ _;unfold Builtin.ObjectAttr.bindTo;show wpAny _ _ (holding [Value.builtin "object.__class__"] (call (Value.builtin "getset_descriptor.__get__") [Value.builtin "object.__class__",Value.ref x,Value.ref D]) >>= ret) _ _ _;exact Bw (Pb (Ub (class_get (ox:=ox) (od:=od) X I g.ob (Cq q))))
theorem X0t{s:W1}{Q:Option Value->Shared->Prop}(g:JZ K D)(X:K.In s.heap)(I:InstAt s.heap x ox D od)(q:Q (some (.ref D)) {s with toks:=s.toks+1}):wpAny (model prog w) A (getAttr? (.ref x) "__class__") Q E s:=by
 have c:=I.type (M:=model prog w);have f:=looks_findIn (M:=model prog w) X g.ga;have L2:=looks_findIn (M:=model prog w) X g.gt;have L3:=(kit_cls (M:=model prog w) X g.be).2.2;have d:=su.ga.bind (.ref x);unfold getAttr? getAttrBy? getAttrBy;refine Bw (wpAny_mkText (Bw (iJ (Pb (Bw (c.at (Bw (f.at ?_))))))));show wpAny _ _ (getAttrByItsOwn _ _ _ _ _ _) _ _ _;unfold getAttrByItsOwn;refine Bw (L2.at (Bw (iJ (Pb ?_))));show wpAny _ _ (boundAndCalled _ _ _) _ _ _;unfold boundAndCalled;rw[d];refine Bw (Cq (Ub (codeAny_call_builtin su.ga.plain F.entry_bexc_ga ?_)));have e:builtinKind "BaseException.__getattribute__"=some .slot:=by decide +kernel
 have b:splitId "BaseException.__getattribute__"=some ("BaseException","__getattribute__"):=by decide +kernel
 have h:=F.args_bexc_ga (.ref x) (.str "__class__" s.toks);simp only[checkBuiltinCall,e,b];refine Bw (Bw (c.at (L3.at ?_)));refine wpAny_of_eq (a:=()) h ?_;exact X4j (s:={s with toks:=s.toks+1}) g X I (handed_on rfl (Cq q))
theorem K3(g:JZ K D):KitX K (.ref x) (.ref D) (λh=>∃ox od,InstAt h x ox D od) where
 ty:=λ_ _ _ p=>p.elim λ_ p=>p.elim λ_ I=>I.type
 it:=λ_ _ X _=>(kit_cls X g.me).2.1
 ne:=λh tp dd its n d X b=>by
  refine Bool.eq_false_iff.mpr λq=>?_;obtain rfl:D=tp:=Value.ref.inj (beq_iff_eq.mp q);obtain⟨c,a,_⟩:=any_some g.dc;unfold clsIn at a;split at a
  ·rename_i c' d' cd' sl' ho;cases (X _ _ ho).symm.trans b
  ·cases a
 ca:=λX p k=>p.elim λ_ p=>p.elim λ_ I=>X0t g X I k
end
end PySem.W
namespace L2
noncomputable def uI:V->Option Value
 | .ty T=>some (.type T)
 | .ref D=>some (.ref D)
 | _=>none
def Dx (H:Hp)(di:Y0):Prop:=∀dx,di=some dx->∃fs,H dx=some (.xd fs)
section
variable {X:Cx}{pins:U1}{σ:St}{H:Hp}{s:W1}
theorem W3j{a C:Y4}{di:Y0}(I:Inv X pins σ H s)(hH:H a=some (Ge di a (.ref C)))(hd:Dx H di):∃o od,PySem.W.InstAt s.heap a o C od/\o.dict=di:=by
 obtain⟨⟨o,vs,c,⟨d,b⟩,g,_⟩,_,_⟩:=(show Bh X.prog X.w H s.heap a (Ge di a (.ref C)) from I.hok a _ hH);have e:PySem.W.notCls o=true:=by unfold PySem.W.notCls;rw[g]
 cases di with
 | none=>exact⟨o,none,⟨c,d,e,by rw[b];trivial⟩,b⟩
 | some dx =>
  obtain⟨fs,f⟩:=hd dx rfl;obtain⟨mA,⟨od,es,ep,e1,_⟩,_⟩:=(show Bh X.prog X.w H s.heap dx (.xd fs) from I.hok dx _ f);exact⟨o,some od,⟨c,d,e,by rw[b];exact e1⟩,b⟩
theorem Nx:Cm X (.builtin "isinstance") (λxs H Q=>∃a d C c cv b,xs=[.ref a,c]/\H a=some (Ge d a (.ref C))/\Dx H d/\PySem.W.JZ X.K C/\uI c=some cv/\PySem.W.kitOne X.K (.ref C) cv=some b/\Q (.bl b) H):=by
 intro pins s σ H xs us Q I r h;obtain⟨a,d,C,c,cv,b,rfl,i,hd,l,f,e,q⟩:=h;obtain⟨u,v,rfl,g,j⟩:=r.two;cases g;have k:v=cv:=by
  cases c<;>first | (cases f;cases j;rfl) | cases f
 subst k;obtain⟨o,od,J,_⟩:=W3j I i hd;exact KZ (PySem.W.K3 l) I.kIn ⟨o,od,J⟩ e (λz=>nomatch z) λtk=>⟨.bl b,H,I.tok tk,O,q⟩
end
end L2
namespace PySem
open PySem.Sem (wp)
section
variable {prog:W3}{w:W6}{A:Y1}{E:U3}{h:Heap}{g:Array GenState}{d:Drawn}{t:Nat}{os:OsState}
variable {nm q:Str}{C N:Y4}{bs bm bmB:U9}{hdct:Bool}{sn:W5}{sub:U9}{ab:Bool}{col:Option Bool}{dd:Y0}{k0 k1 k2 k3 k5:Option Value}{B newId initId:String}
end
end PySem
namespace PySem
section
variable {M:Model}{A:Y1}{E:U3}{env:Env}
variable {nm q:Str}{C N:Y4}{bs bm:U9}{hdct:Bool}{sn:W5}{sub:U9}{ab:Bool}{col:Option Bool}{dd:Y0}{k0 k1 k2 k3 k5:Option Value}{newId:String}
end
end PySem
namespace L2
open Fx
section
variable {X:Cx}{pins:U1}{σ:St}{H:Hp}{s:W1}
end
section
variable {X:Cx}{pins:U1}{σ:St}{H:Hp}{s:W1}
end
section
variable {X:Cx}{E:XK}{x f:Str}{C:Y4}{e:Expr}{es:List Expr}{t:TA}{np cpos pos:Pos}{bm:U9}{k:Nat}
end
section
variable {X:Cx}
theorem Nt{x:Str}{C:Y4}{pos:Pos}(hg:Gl X x)(hm:X.mg x=some (.ref C))(hd:(x == ("__debug__":Str))=false:=by decide):PE X (.Name x pos) (tC (.ref C)):=
 λ_ _ _ H _ I h=>RG I hg hm ⟨.ref C,H,I,O,h⟩ hd
end
structure DX (P:W3) (w:W6) (K:U0) (mg:U6) (base:Heap) (k:Nat) (x:Str) (ps:W5) (sp:Sp):Prop where
 ex:∃f fd,Er P w K mg base (O6 P w) k f fd ps sp/\Binds K fd ps []/\PySem.W.keepIn K (.ref f)=true/\mg x=some (.ref f)
theorem DX.mono{P:W3}{w:W6}{K:U0}{mg:U6}{base:Heap}{j k:Nat}{x:Str}{ps:W5}{sp:Sp}(c:DX P w K mg base j x ps sp)(h:j<=k):DX P w K mg base k x ps sp :=
 let ⟨f,fd,F,b,kp,m⟩:=c.ex
 ⟨f,fd,F.mono h,b,kp,m⟩
section
variable {X:Cx}{k:Nat}{x:Str}{ps:W5}{sp:Sp}{p pos:Pos}{e:Expr}{es:List Expr}{t:TA}{E:XK}
theorem VL(c:DX X.prog X.w X.K X.mg X.base k x ps sp)(hx:Passes (O6 X.prog X.w) X E)(hr:Cp k X.A)(hg:Gl X x)(ha:PA X (e::es) t)(hdb:(x == ("__debug__":Str))=false:=by decide)
  (he:starEach (e::es) X.env=(false,eval e X.env)::starEach es X.env:=by rfl) (hpl:(backTo pos (starEach es X.env)).any (·.1)=false:=by rfl):PE X (.Call (.Name x p) (e::es) [] pos) (IV sp [] E t):=by
 obtain⟨f,fd,F,b,a,m⟩:=c.ex;exact vL F hr hg m a b .nil hx ha hdb he hpl
def Rh (σ0:St)(sp:Sp)(E:XK)(t:TA):TE:=λσ H Q=>t σ H λvs H1=>σ=σ0/\sp vs H1 Q E
theorem Zx{pins:U1}{σ0:St}(c:DX X.prog X.w X.K X.mg X.base k x ps sp)(hr:Cp k X.A)(hg:Gl X x)(ha:PA (Xt X pins σ0 E) (e::es) t)(hdb:(x == ("__debug__":Str))=false:=by decide)
  (he:starEach (e::es) X.env=(false,eval e X.env)::starEach es X.env:=by rfl) (hpl:(backTo pos (starEach es X.env)).any (·.1)=false:=by rfl):PE (Xt X pins σ0 E) (.Call (.Name x p) (e::es) [] pos) (Rh σ0 sp E t):=by
 obtain⟨f,fd,F,b,j,m⟩:=c.ex;intro p2 s σ H Q I h;refine Ro (RG I hg m ?_ hdb);refine jG (h₀:=X.base) I.ok.mod.kin j (Bm (ha pos p2 s σ H _ I h) λus g ⟨vs,H1,d,r,e1,q⟩=>⟨d.kIn,?_⟩) he hpl;subst e1;have l:us.length=ps.length:=by rw[<-r.length];exact F.len _ _ _ _ q
 have i:=b g us d.kIn (by rw[KR];exact l);rw[KR]at i;refine Ub (Qq (F.run X.A X.stack g H1 ⟨us,[]⟩ us vs Q E hr d.env0 i r q) λr s' a=>?_);cases r with
 | error e=>exact⟨H1,g,d.ofXt,a⟩
 | ok fl =>
  cases fl with
  | ret u=>exact d.after a
  | next=>exact False.elim a
  | brk=>exact False.elim a
  | cont=>exact False.elim a
end
section
variable {P:W3}{w:W6}{K:U0}{mg:U6}{base:Heap}
theorem Ab.calX{x:Str}{st:Stmt}{dV:W7}{ps:W5}{k:Nat}{sp:Sp}(F:Ab K x st dV){h:Heap}(X:K.In h)(G:Ng h mg)(N:W5)
  (hbody:∀{f:Y4}{cdv:W7}{A:Y1}{outer:List Env}{s:W1},N.Nodup->∀(H:Hp) (vs:List V) (Q:VK) (E:XK),Cp k (A.deeper (envOfC x (DG st) s.heap.objs.size f cdv))->sp vs H Q E ->
   ∃t,Hq (Gw (O6 P w) P w K mg base N x (DG st) f cdv A outer s H E) (Gb st) t/\t { nx:=λ_ H'=>Q .non H',rt:=Q} (start N vs) H)(S:BZ N ps (DG st):=by exact fS) (bi:Ot K x st dV ps:=by first | exact Sy λ_ _ _ _ _ _ _=>rfl | exact Sx λ_ _ _ _ _ _ _ _=>rfl | exact Sw λ_ _ _ _ _ _ _ _ _=>rfl | exact Sv λ_ _ _ _ _ _ _ _ _ _=>rfl | exact Ss λ_ _ _ _ _ _ _ _ _ _ _=>rfl | exact S_ λ_ _ _ _ _ _=>rfl) (len:∀vs H Q E,sp vs H Q E->vs.length=ps.length:=by intro _ _ _ _ h;repeat first | (obtain⟨rfl,_⟩:=h;rfl) | (obtain⟨⟨rfl,_⟩,_⟩:=h;rfl) | (obtain⟨_,h⟩:=h)):DX P w K mg base (k+1) x ps sp:=by
 obtain⟨f,m,od,kV,a,e,j,cdv,ct,g,l,b,d,ns⟩:=F.ex;exact⟨f,_,qU l b S len λA outer s H vs Q E i c=>hbody S.nd H vs Q E i c,bi kV a e j cdv ct,d,Ew X G ns⟩
end
def ClsAt (K:U0)(C:Y4)(bm:U9):Prop:=∃N nm q bs hdct sn sub ab col dd k0 k1 k2 k3 k5,K.lookup C=some (excClassObj nm q C N bs bm hdct sn sub ab col dd k0 k1 k2 k3 k5 "ValueError.__new__")
theorem ExcAt.cls{K:U0}{C:Y4}{bm:U9}(x:ExcAt K C bm):ClsAt K C bm:=by
 obtain⟨N,nm,q,bs,hdct,sn,sub,ab,col,dd,k0,k1,k2,k3,k5,l,_⟩:=x.ex;exact⟨N,nm,q,bs,hdct,sn,sub,ab,col,dd,k0,k1,k2,k3,k5,l⟩
section
variable {X:Cx}{E:XK}{pins:U1}{σ:St}{H:Hp}{s:W1}
theorem Inv.unset{h':Heap}{m:U6}{v:Option Value}{tk i:Nat}{n:Str}(I:Inv X pins σ H s)(hN:X.N.Nodup)(hi:X.N[i]?=some n)(hm:s.heap.Ns X.env.locals m)
  (hl:∀(i:Nat) (x:Str) (v:V),X.N[i]?=some x->σ[i]?=some (some v)->Yi X.env.scope x->∃u,RelV v u/\Look X.env s.heap m x u)
  (hn:h'.Ns X.env.locals (λx=>if x=n then v else m x)) (hs:Heap.SameBut X.env.locals s.heap h'):Inv X pins (σ.set i none) H {s with heap:=h',toks:=tk}:=by
 have a:∀b o,X.s₀.heap.get? b=some o->b≠X.env.locals:=λb o e=>Eb (DK (Cd e) I.ok.above);have cne:=I.cne;refine⟨I.ok,I.os,I.bare,⟨λb o e n hb nx=>?_,λb o e n hb nx=>?_,I.base.free,λb o e nx=>?_,I.base.tups,I.base.frzs,I.base.tbls⟩,⟨_,hn,λj y E e1 e2 r=>?_⟩,λx c e=>?_,I.free,I.freeC,λp hp=>?_,λb C e=>?_,by rw[ZL];exact I.len⟩
 ·exact(hs.2 b (a b o e)).trans (I.base.keep b o e n hb nx)
 ·obtain⟨t,k1⟩:=I.base.slot b o e n hb nx;exact⟨t,(hs.2 b (a b o e)).trans k1⟩
 ·obtain⟨o',k1⟩:=I.base.there b o e nx;exact⟨o',(hs.2 b (a b o e)).trans k1⟩
 ·by_cases hj:j=i
  ·subst hj;by_cases hz:j<σ.length
   ·rw[jP hz]at e2;cases e2
   ·rw[List.getElem?_eq_none (by rw[ZL];lia)]at e2;cases e2
  ·rw[Zd (Ne.symm hj)]at e2;obtain⟨B,l,q⟩:=hl j y E e1 e2 r;refine⟨B,l,?_⟩;rcases q with ⟨k,e⟩ | ⟨k,c,e,z⟩
   ·refine .inl ⟨k,?_⟩;have:y≠n:=λe=>hj (qO hN e1 (e ▸ hi));simp[this,e]
   ·exact .inr ⟨k,c,e,z.sameBut hs (cne y c e)⟩
 ·obtain⟨v,o,A,hd⟩:=I.cell x c e;exact⟨v,o,(hs.2 c (I.cne x c e)).trans A,hd⟩
 ·obtain⟨g,h,f,D,w⟩:=I.pin p hp;exact⟨(hs.2 _ f).trans g,h,f,D,w⟩
 ·refine(I.hok b C e).stay (λc F d q=>(hs.2 c ?_).trans q) (λ_ q=>q) λ_ _ q=>q;rintro rfl;rcases d with rfl | d
  ·rw[I.free]at e;cases e
  ·rw[I.free]at d;cases d
def V8 (E:XK)(tb:St->TS)(th:Addr->TS)(i:Nat):TS:=λD σ H=>tb σ D σ H/\∀a cls di H',E cls di H'->H' a=none->th a { nx:=λσ' H''=>D.nx (σ'.set i none) H'',rt:=D.rt} (σ.set i (some (.ref a))) (upd H' a (Ge di a cls))
theorem X7h{st b₀:Stmt}{suite:Y3}{cx n:Str}{C D:Y4}{i:Nat}{np hpos pos:Pos}{tb:St->TS}{th:Addr->TS}{bm bm':U9}(hst:X.stack=X.env::X.outer/\X.env.frame=some X.env.locals)(hN:X.N.Nodup)(hi:X.N[i]?=some n)(hloc:X.env.scope.names.lookup n=some .local)
  (hg:Gl X cx) (hm:X.mg cx=some (.ref D)) (hC:ClsAt X.K C bm) (hD:ExcAt X.K D bm') (hsub:(Value.ref C::bm).contains (.ref D)=true) (hE:∀cls y H',E cls y H'->cls=.ref C)
  (hb:∀pins σ,Hq (Xt X pins σ E) [st] (tb σ)) (hh:∀a,Hq (Xh X a) (b₀::suite) (th a)) (hdb:(cx == ("__debug__":Str))=false:=by decide):
  PS X (.Try [st] [.ExceptHandler (some (.Name cx np)) (some n) (b₀::suite) hpos] [] [] pos) (V8 E tb th i):=by
 intro pins s σ H D' I h;obtain⟨h1,h2⟩:=h;refine wpAny_Try_except (GK (hb pins σ [] s σ H D' I.toXt h1) (λf s1 q=>?_) (λe s1 q=>?_))
 ·cases f with
  | next=>obtain⟨j,H',p,q⟩:=q;exact Wv ⟨j,H',p.ofXt,q⟩
  | brk=>obtain⟨j,H',p,q⟩:=q;exact⟨j,H',p.ofXt,q⟩
  | cont=>obtain⟨j,H',p,q⟩:=q;exact⟨j,H',p.ofXt,q⟩
  | ret u=>obtain⟨v,j,H',p,r,q⟩:=q;exact⟨v,j,H',p.ofXt,r,q⟩
 obtain⟨H1,s0,M,a,T,cls,y,H',rfl,os,c,un,d,tr,Z,V,O,Y,q⟩:=q;obtain rfl:=hE cls y H' q;have I1:Inv X pins σ H' s1:=M.call' (ch:=[]) os un d c (λb hb=>by cases hb);have k:X.env.kindOf n=some .local:=hloc;refine yN (base:=X.base) (outer:=X.outer) (by rw[I.ok.frames,hst.1]) (by rw[<-hst.1];exact I1.stack) hst.2 tr λh' T' R l kp=>?_;have g:Kp (frs X.stack) [a,T] s1.heap h':=by rw[hst.1];exact kp
 have B:Inv X pins σ (upd H' a (Ge y a (.ref C))) {s1 with heap:=h'}:=M.landed os c un d g Z V O Y l;obtain⟨_,_,_,_,_,_,_,_,_,_,_,_,_,_,_,lC⟩:=hC;obtain⟨_,_,_,_,_,_,_,_,_,_,_,_,_,_,_,lD,_,_⟩:=hD.ex;have TD:=PySem.W.tail_of_in B.kIn hD.tail;obtain⟨oe,vs,oT,ts,he,⟨hc,_⟩,_⟩:=id l;refine wpAny_handleBy_cons (codeAny_handlers_test (RG (X:=Xh X a) (B.toXh (a:=a)) hg hm ?_ hdb)) (by intro q;cases q);refine Z8l (B.kIn _ _ lC) (B.kIn _ _ lD) he hc (TD.hasType jV.hasBase) hsub ?_;refine codeAny_handlers_suite_as ?_;refine flight (s:={s1 with heap:=h'}) l λh3 J same=>?_;have U:Kp (frs X.stack) [a,T] s1.heap h3:=by
  have S:∀b o,s1.heap.get? b=some o->b≠T':=λb o hb z=>by rw[z,R]at hb;cases hb
  exact⟨λb o hb hf Q=>(same b (S b o hb)).trans (g.keep b o hb hf Q),λb o hb Q=>let ⟨slo,e⟩:=g.slot b o hb Q;⟨slo,(same b (S b o hb)).trans e⟩,λb o hb=>let ⟨o',e⟩:=g.there b o hb;⟨o',(same b (S b o hb)).trans e⟩⟩
 have I3:Inv X pins σ (upd H' a (Ge y a (.ref C))) {s1 with heap:=h3}:=M.landed os c un d U Z V O Y J;refine nu (X:=Xh X a) (v:=.ref a) (I3.toXh (a:=a)) hN hi (.inl hloc) rfl (λs4 I4=>?_) (.inr hloc);refine GK (hh a pins s4 _ _ _ I4 (h2 a _ y H' q O)) (λf s5 G=>?_) (λx s5 z=>z.elim);cases f with
 | next =>
  obtain⟨j,P,A,L⟩:=G;obtain⟨m,F,hl⟩:=id A.loc;refine wpAny_nameGoes_keeps k F (by rw[I.ok.kind];rfl) λh6 v6 t w=>?_;exact⟨_,P,(A.ofXh I.ok).unset hN hi F hl t w,L⟩
 | brk=>obtain⟨_,_,_,z⟩:=G;exact z.elim
 | cont=>obtain⟨_,_,_,z⟩:=G;exact z.elim
 | ret u =>
  obtain⟨v,j,P,A,r,L⟩:=G;obtain⟨m,F,_⟩:=id A.loc;refine wpAny_nameGoes k F (by rw[I.ok.kind];rfl) λh6 m6 t w=>?_;exact⟨v,_,P,(A.ofXh I.ok).blank t w,r,L⟩
end
theorem uo{X:Cx}{e:Y4}:Cm (Xh X e) (.builtin "isinstance") (λxs H Q=>∃a di C c cv b,xs=[.ref a,c]/\H a=some (Ge di a (.ref C))/\Dx H di/\PySem.W.JZ X.K C/\uI c=some cv/\PySem.W.kitOne X.K (.ref C) cv=some b/\Q (.bl b) H):=Nx
end L2
namespace L2
open Fx
structure Ez (g:Y4) (k:Nat) (A:Y1):Prop where
 dp:A.depth+3*k+5<recursionLimit
 un:A.units+16*k+200<cLine
 hd:A.handled=some (.ref g)
variable{A:Y1}
theorem Cp.h{k:Nat}(r:Cp k A)(g:Y4):Ez g k (A.mark (some (.ref g))):=⟨r.dp,r.un,O⟩
theorem Ez.mono{j k:Nat}(r:Ez g k A)(h:j<=k):Ez g j A:=⟨by have:=r.dp;lia,by have:=r.un;lia,r.hd⟩
theorem Ez.deeper{k:Nat}(r:Ez g (k+1) A)(env:Env):Ez g k (A.deeper env):=
 ⟨by have:=r.dp;show A.depth+1+3*k+5<_;lia,by have:=r.un;show A.units+3+16*k+200<_;lia,r.hd⟩
noncomputable def Xn (P:W3)(w:W6)(K:U0)(mg:U6)(base:Heap)(N:W5)(qual:Str)(scope:Scope)(f:Y4)(cd:W7)(A:Y1)(outer:List Env)(s:W1)(H:Hp):Cx :=
 { (Gw LC P w K mg base N qual scope f cd A outer s H E0).nox with calm:=false}
structure RX (g:Y4) (P:W3) (w:W6) (K:U0) (mg:U6) (base:Heap) (k:Nat) (f:Y4) (fd:FuncData) (ps:W5) (sp:Sp):Prop where
 len:∀vs H Q E,sp vs H Q E->vs.length=ps.length
 run:∀(A:Y1) (outer:List Env) (s:W1) (H:Hp) (args:Args) (us:U9) (vs:List V) (Q:VK) (E:XK),Ez g k A->J6 P w K mg base A outer s H->BindsTo s fd args (ps.zip us)->Vals vs us->sp vs H Q E ->
  codeAny (model P w) A (.call (.ref f) args) (CR LC outer P w H s Q E) s
variable{P:W3}{w:W6}{K:U0}{mg:U6}{base:Heap}{N ps:W5}{qual:Str}{scope:Scope}{f:Y4}
theorem Ri{cd:W7}{outer:List Env}{s s1:W1}{H:Hp}{us:U9}{vs:List V}
  (S:BZ N ps scope) (en:J6 P w K mg base A outer s H) (hl:vs.length=ps.length) (r:Vals vs us)
  (x:InCallC s s.heap.objs.size (bindL (envOfC qual scope s.heap.objs.size f cd).kindOf (ps.zip us) λ_=>none) (cellsFrom (s.heap.objs.size+1) scope.names []) (bindC (envOfC qual scope s.heap.objs.size f cd).kindOf (ps.zip us) λ_=>none) s1):
  Inv (Xn P w K mg base N qual scope f cd A outer s H) [] (start N vs) H s1:=by
 have b:J6 P w K mg base {A with handled:=none} outer s H:=⟨en.frames,en.mod,en.bs,en.bsz,en.funs,en.frf,en.hok,en.bare⟩;have a:Inv (Gw LC P w K mg base N qual scope f cd {A with handled:=none} outer s H E0) [] (start N vs) H s1:=yH S rfl b hl r x
 exact⟨⟨a.ok.mod,a.ok.kind,a.ok.glob,a.ok.blt,a.ok.above,a.ok.inj,a.ok.has,a.ok.cab,(λz=>by cases z),a.ok.frames,a.ok.stk,a.ok.exf,a.ok.bs,a.ok.bsz,a.ok.noex,a.ok.exfs,a.ok.funs,a.ok.frf⟩,
  a.os,a.bare,a.base,a.loc,a.cell,a.free,a.freeC,a.pin,a.hok,a.len⟩
theorem W3i{k:Nat}{name:Str}{params:Arguments}{body:Y3}{dV kV doc pm cdv ct oc:W7}{an od:Y0}
  {osl:W9}{sp:Sp} (lk:K.lookup f=some ⟨oc,od,.func (PySem.W.fnOf name qual params body scope dV kV doc pm an cdv ct),osl⟩) (hcd:PySem.W.codeIn K cdv qual=true) (S:BZ N ps scope)
  (len:∀vs H Q E,sp vs H Q E->vs.length=ps.length)
  (hbody:∀(A:Y1) (outer:List Env) (s:W1) (H:Hp) (vs:List V) (Q:VK) (E:XK),Ez g k (A.deeper (envOfC qual scope s.heap.objs.size f cdv))->sp vs H Q E ->
   ∃t,Hq (Xn P w K mg base N qual scope f cdv A outer s H) body t/\t { nx:=λ_ H'=>Q .non H',rt:=Q} (start N vs) H):
  RX g P w K mg base (k+1) f (PySem.W.fnOf name qual params body scope dV kV doc pm an cdv ct) ps sp:=by
 refine⟨len,λA outer s H args us vs Q E z d hb r h=>?_⟩;have D:=len _ _ _ _ h;have p:K.In s.heap:=d.mod.kin.keeps λb o e=>(d.bs b o e).1;have m:s.heap.NoLimit:=d.mod.nolimit.keeps λb o e=>(d.bs b o e).1;have a:∀y∈ps.zip us,scope.names.lookup y.1=some .local\/(scope.names.lookup y.1=some .cell/\((cellsFrom (s.heap.objs.size+1) scope.names []).lookup y.1).isSome=true):=λ⟨n,v⟩ B=>by
  rcases S.par n (ZM B).1 with q | q
  ·exact .inl q
  ·exact .inr ⟨q,jQ _ _ _ (.inl q)⟩
 refine sO (by have:=z.dp;lia) (p _ _ lk) rfl S.co S.gen rfl (PySem.W.codeRec_of p hcd) (hb _ _ _ _ ?_);refine tY S.kind a λenv F s1 x=>?_;subst F;refine⟨m.keeps x.toInCall.keep,codeAny_func ?_⟩;obtain⟨t,G,C⟩:=hbody A outer s H vs Q E (z.deeper _) h;have I:Inv (Xn P w K mg base N qual scope f cdv A outer s H) [] (start N vs) H s1:=Ri S d D r x;refine GK (G [] s1 (start N vs) H _ I C) (λfl s' c=>?_) λe s' c=>False.elim c;have i:∀{j:St}{H':Hp}{v:V}{u:W7},Inv (Xn P w K mg base N qual scope f cdv A outer s H) [] j H' s'->RelV v u->Q v H'->CE outer P w H s Q u s' :=
  λ{j H' v u} J l q=>⟨v,H',J.os,J.bare,J.base,J.hok,l,q⟩
 cases fl with
 | ret u =>
  obtain⟨v,j,H',J,l,q⟩:=c;exact i J l q
 | next =>
  obtain⟨j,H',J,q⟩:=c;exact i (v:=V.non) (u:=Value.none) J rfl q
 | brk =>
  obtain⟨_,_,_,q⟩:=c;exact False.elim q
 | cont =>
  obtain⟨_,_,_,q⟩:=c;exact False.elim q
structure J7 (g:Y4) (P:W3) (w:W6) (K:U0) (mg:U6) (base:Heap) (k:Nat) (x:Str) (ps:W5) (sp:Sp):Prop where
 ex:∃f fd,RX g P w K mg base k f fd ps sp/\Binds K fd ps []/\PySem.W.keepIn K (.ref f)=true/\mg x=some (.ref f)
theorem J7.mono{j k:Nat}{x:Str}{sp:Sp}(c:J7 g P w K mg base j x ps sp)(h:j<=k):J7 g P w K mg base k x ps sp :=
 let ⟨f,fd,F,b,kp,m⟩:=c.ex
 ⟨f,fd,⟨F.len,λA outer s H args us vs Q E a=>F.run A outer s H args us vs Q E (a.mono h)⟩,b,kp,m⟩
section
variable {X:Cx}{k:Nat}{x:Str}{ps:W5}{sp:Sp}{p pos:Pos}{e:Expr}{es:List Expr}{t:TA}{E:XK}
theorem X7l(c:J7 g X.prog X.w X.K X.mg X.base k x ps sp)(hr:Ez g k X.A)(hg:Gl X x)(ha:PA X (e::es) t)(hdb:(x == ("__debug__":Str))=false:=by decide)
  (he:starEach (e::es) X.env=(false,eval e X.env)::starEach es X.env:=by rfl) (hpl:(backTo pos (starEach es X.env)).any (·.1)=false:=by rfl):PE X (.Call (.Name x p) (e::es) [] pos) (IV sp [] E0 t):=by
 obtain⟨f,fd,F,b,o,m⟩:=c.ex;intro p2 s σ H Q I h;refine Ro (RG I hg m ?_ hdb);refine jG (h₀:=X.base) I.ok.mod.kin o (Bm (ha pos p2 s σ H _ I h) λus n ⟨vs,H1,d,r,q⟩=>⟨d.kIn,?_⟩) he hpl;have l:sp vs H1 Q E0:=by have i:sp (vs++[]) H1 Q E0:=q;rw[KR]at i;exact i
 have v:us.length=ps.length:=by rw[<-r.length];exact F.len _ _ _ _ l
 have j:=b n us d.kIn (by rw[KR];exact v);rw[KR]at j;refine Ub (Qq (F.run X.A X.stack n H1 ⟨us,[]⟩ us vs Q E0 hr d.env0 j r l) λr s' a=>?_);cases r with
 | error e=>exact False.elim a
 | ok fl =>
  cases fl with
  | ret u=>exact d.after a
  | next=>exact False.elim a
  | brk=>exact False.elim a
  | cont=>exact False.elim a
end
theorem Ab.calH{x:Str}{st:Stmt}{dV:W7}{k:Nat}{sp:Sp}(F:Ab K x st dV){h:Heap}(X:K.In h)(G:Ng h mg)(N:W5)
  (hbody:∀{f:Y4}{cdv:W7}{A:Y1}{outer:List Env}{s:W1},N.Nodup->∀(H:Hp) (vs:List V) (Q:VK) (E:XK),Ez g k (A.deeper (envOfC x (DG st) s.heap.objs.size f cdv))->sp vs H Q E ->
   ∃t,Hq (Xn P w K mg base N x (DG st) f cdv A outer s H) (Gb st) t/\t { nx:=λ_ H'=>Q .non H',rt:=Q} (start N vs) H)(S:BZ N ps (DG st):=by exact fS) (bi:Ot K x st dV ps:=by first | exact Sy λ_ _ _ _ _ _ _=>rfl | exact Sx λ_ _ _ _ _ _ _ _=>rfl | exact Sw λ_ _ _ _ _ _ _ _ _=>rfl | exact Sv λ_ _ _ _ _ _ _ _ _ _=>rfl | exact Ss λ_ _ _ _ _ _ _ _ _ _ _=>rfl | exact S_ λ_ _ _ _ _ _=>rfl) (len:∀vs H Q E,sp vs H Q E->vs.length=ps.length:=by intro _ _ _ _ h;repeat first | (obtain⟨rfl,_⟩:=h;rfl) | (obtain⟨⟨rfl,_⟩,_⟩:=h;rfl) | (obtain⟨_,h⟩:=h)):J7 g P w K mg base (k+1) x ps sp:=by
 obtain⟨f,n,od,kV,a,e,l,cdv,ct,i,m,b,d,ns⟩:=F.ex;exact⟨f,_,W3i m b S len λA outer s H vs Q E j c=>hbody S.nd H vs Q E j c,bi kV a e l cdv ct,d,Ew X G ns⟩
end L2
namespace PySem
section
variable {prog:W3}{w:W6}{A:Y1}{E:U3}{s:W1}
end
end PySem
set_option maxHeartbeats 1000000
namespace Ah
open L2 Ba Am Pc Dj
open Ar (top Bs)
open DY (Dg)
open C_ (Mk Bj Ak Br)
open DR (Ey okb)
open JV (Em)
open CK (Gr FW aG JD T3 L3)
theorem W6b{m:Mk}(h:JX.ev m):C_.ev m=0:=by
 have h:(m.1+pc (m.2.1&&&m.2.2))%2=0:=h;show (m.1+C_.bn (C_.bp (m.2.1&&&m.2.2)))%2=0;unfold C_.bn C_.bp;by_cases q:pc (m.2.1&&&m.2.2)%2=1
 ·rw[Ec q,if_pos rfl];lia
 ·rw[Cr q,if_neg (by decide)];lia
theorem W6d{m n:Mk}(h:JX.cm m n=0):Et.cm m n=false:=by
 have h:(pc (m.2.1&&&n.2.2)+pc (m.2.2&&&n.2.1))%2=0:=h;unfold Et.cm C_.bp;by_cases q:pc (m.2.1&&&n.2.2)%2=1
 ·rw[Ec q,Ec (show pc (m.2.2&&&n.2.1)%2=1 by lia)];rfl
 ·rw[Cr q,Cr (show ¬ pc (m.2.2&&&n.2.1)%2=1 by lia)];rfl
theorem Yd{N:Nat}{H:Hp}{l:Y4}{ps:U5}{ms:List Mk}(T:Gr N H l ps ms):JV.QZ ms N:=⟨λm a=>⟨(T.ok m a).q,(T.ok m a).f,(T.ok m a).s⟩,λm a=>W6b (T.tb.nice.even m a),λm a n b=>W6d (T.tb.nice.com m a n b),T.tb.ind⟩
noncomputable def Aq (ms:List Mk)(c:Nat):List Mv:=Et.bwd (Em ms c ms.length)
def VN:Sp:=λvs H Q _=>∃(l:Y4) (ps:U5) (ms:List Mk) (c:Nat),vs=[.ref l,.int c]/\Gr c H l ps ms/\1<=c/\c<=6/\∀(r:Y4) (H':Hp),H r=none->Same H H'->Ce H' r (Aq ms c)->Q (.ref r) H'
section
variable {P:W3}{w:W6}{K:U0}{mg:U6}{base:Heap}{k:Nat}{h:Heap}
theorem JF:BZ ["rows","cells","row","cell","mark"] ["rows","cells"] (DG (top 75)):=fS
theorem X3i(F:Ab K "laid" (top 75) .none)(X:K.In h)(G:Ng h mg)(B:Bs mg)(cU:Ai P w K mg base k "check_table" ["rows","cells"] aG)(dH:Ai P w K mg base k "layer_to_sign" ["mark","cell","cells"] (Mi K))(cK:Ai P w K mg base k "moved_through" ["mark","row"] (oK K))(cR:Ai P w K mg base k "backward" ["row"] KC):Ai P w K mg base (k+1) "laid" ["rows","cells"] VN:=by
 refine F.cal X G _ (S:=JF) λu H vs Q E A h=>?_;obtain⟨l,ps,ms,c,rfl,T,c1,c6,q⟩:=h;have I:=Yd T;have lp:=T.mks.length;have l6:=T.len;have R:3*c+1<=19:=by lia
 have d:∀j,j<=6->j*(3*c+1)<=114:=λj hj=>Ek (iR hj R) (by decide)
 refine⟨_,(@Av _ _ _ _ _ (H_ (Ay cU A rfl (Aa (pv 0) (Aa (pv 1) Ae))))
  (@Av _ _ _ _ _ (@BR _ _ 2 _ _ _ _ u rfl (Or.inl rfl) (@Ga _ _ _ _ Ae) rfl (.inl rfl))
  (@Av _ _ _ _ _ (Hy PassesOwn.never rfl (Tc rfl B.enumerate (Aa (pv 0) Ae)) (@RD _ _ _ _ _ _ rfl (@GF _ _ _ _ _ (@CV _ _ 3 _ u rfl (Or.inl rfl) (by first | exact .inl rfl | exact .inr rfl)) (@GF _ _ _ _ _ (@CV _ _ 4 _ u rfl (Or.inl rfl) (by first | exact .inl rfl | exact .inr rfl)) RK rfl) rfl) rfl rfl)
   (@Aj _ _ _ (@BR _ _ 2 _ _ _ _ u rfl (Or.inl rfl) (Af Oi (pv 2) (Ay dH A rfl (Aa (Ay cK A rfl (Aa (pv 4) (Aa (pv 2) Ae))) (Aa (pv 3) (Aa (pv 1) Ae))))) rfl (.inl rfl))))
  (@Aj _ _ _ (BJ (Ay cR A rfl (Aa (pv 2) Ae))))))),?_⟩
 try dsimp only[CN]
 refine⟨_,O,_,O,l,ps,ms,c,O,T,c1,c6,λH1 S1=>⟨Fy _,λr0 o=>?_⟩⟩
 refine⟨_,O,l,_,O,(S1.trans (Ao o _)).seq (Ag.of T.lst),wJ (K:=K) (a:=l) (xs:=ps.map V.ref) (λj σ H'=>Same H H'/\∃(r:Y4) (v J:Option V),Ce H' r (Em ms c j)/\σ=[some (.ref l),some (.int c),some (.ref r),v,J])
  ⟨S1.trans (Ao o _),r0,_,_,⟨[],Al,.nil⟩,O⟩ (λi σ H' _ p=>p.1.seq (Ag.of T.lst)) ?_ ?_⟩
 ·rintro j x σ H2 t hx ⟨n,r,v,J,R2,rfl⟩ ht;rw[Cz]at hx;obtain⟨p,hp,rfl⟩:=Fz.mp hx;obtain⟨m,D,pm⟩:=T.mks.get hp;have jl:j<ms.length:=(Fq.mp D).1;have gm:ms.getD j (0,0,0)=m:=by rw[Ef,D];rfl
  have L:=JV.VH c6 hbd I j (by lia);have b:=JV.X3w c6 hbd I jl;rw[gm]at b;obtain⟨v0,b0⟩:=Xw L.ok;have s3:=Ao ht (.tup [.int j,.ref p]);have e3:upd H2 t (.tup [.int j,.ref p]) t=some (.tup [.int j,.ref p]):=Al;generalize upd H2 t (.tup [.int j,.ref p])=H3 at s3 e3 ⊢;have ln:=Ek L.len (d j (by lia));have om:Jh c m:=by have:=T.ok m (Ke D);exact⟨this.q,this.f,this.s⟩
  obtain⟨pr,W,e⟩:=id (R2.same s3);have a1:pr.length=(Em ms c j).length:=by have:=QS e;rw[A_]at this;exact this
  refine⟨t,_,O,Ax.of e3,O,_,_,O,_,_,O,O,?_⟩;refine⟨_,O,_,O,_,O,p,r,m,Em ms c j,c,O,Ax.of ((n.trans s3) _ _ pm),R2.same s3,om,c6,v0,b0,by lia,λm1 H4 C h4=>?_⟩;refine⟨_,O,_,O,m1,Ak (Em ms c j) m,j,c,O,h4,⟨b.bd.k,b.bd.f,b.bd.s⟩,c6,b.jc,b.ev,b.z,b.nz,λra H5 na U R5=>?_⟩;obtain⟨y,N,g⟩:=R5;have M:=U _ _ (C _ _ W);have a0:y.length=(Ey (Ak (Em ms c j) m) j c).length:=by have:=QS g;rw[A_]at this;exact this
  have l3:=(JV.R7 c6 b.jc hbd b.bd b.ev b.z b.nz).2.2.1;refine⟨r,ra,_,_,O,O,M,N,?_,λr1 Y=>?_⟩
  ·rw[A_,A_];exact Ek (show _<=200 by lia) (by decide)
  have Z:=Ao Y (.lst (pr.map V.ref++y.map V.ref));refine⟨((n.trans s3).trans (C.trans U)).trans Z,r1,_,_,⟨pr++y,by rw[Al,Cg],?_⟩,O⟩;show Ck _ (pr++y) ((Em ms c j++Ey (Ak (Em ms c j) (ms.getD j (0,0,0))) j c).map mm);rw[gm,Cg];exact(X_ (e.same (C.trans U)) g).same Z
 ·rintro σ H2 ⟨n,r,v,J,R2,rfl⟩;rw[A_,lp]at R2;have L:=JV.VH c6 hbd I ms.length (CT _);have ln:=Ek L.len (d _ l6);exact⟨_,O,r,_,O,R2,by lia,λr' H3 nr S3 R3=>q r' H3 (J2 n nr) (n.trans S3) R3⟩
end
end Ah
set_option maxHeartbeats 4000000
namespace L2
noncomputable def FZ (xs:List V)(lo hi st:Option Int):List V:=(sliceRange (sliceBounds lo hi st xs.length).1 (sliceBounds lo hi st xs.length).2.1 (sliceBounds lo hi st xs.length).2.2).filterMap (xs[·]?)
theorem Vals.at{xs:List V}{us:U9}(h:Vals xs us):∀i:Nat,(xs[i]?=none/\us[i]?=none)\/∃x u,xs[i]?=some x/\us[i]?=some u/\RelV x u:=by
 induction h with
 | nil=>exact λi=>.inl ⟨rfl,rfl⟩
 | cons a _ ih =>
  intro i;cases i with
  | zero=>exact .inr ⟨_,_,rfl,rfl,a⟩
  | succ j=>simpa using ih j
theorem Vals.pickI{xs:List V}{us:U9}(h:Vals xs us):∀l:List Nat,Vals (l.filterMap (xs[·]?)) (l.filterMap (us[·]?))
 | []=>.nil
 | i::l=>by
  have t:=Vals.pickI h l;rcases h.at i with ⟨a,b⟩ | ⟨x,u,a,b,r⟩
  ·rw[tG a,tG b];exact t
  ·rw[jT a,jT b];exact .cons r t
section
variable {X:Cx}
theorem X2h:Yj X (λx lo hi st H Q=>∃(a:Y4) (xs:List V),x=.ref a/\Ag X.K H a xs/\st≠some 0/\∀p:Addr,H p=none->Q (.ref p) (upd H p (.lst (FZ xs lo hi st)))):=by
 intro pins s σ H x v vl z vs lo hi st u Q I m t j k ps h;obtain⟨a,xs,rfl,g,l,q⟩:=h;cases m;obtain⟨its,r,f,w⟩:=I.list g;have c:=r.length;have i:=slicePick_size_le its.toArray lo hi st;have hsz:its.toArray.size=its.length:=FJ ..;have e:(slicePick its.toArray lo hi st).toList=(sliceRange (sliceBounds lo hi st xs.length).1 (sliceBounds lo hi st xs.length).2.1 (sliceBounds lo hi st xs.length).2.2).filterMap (its[·]?):=by
  simp[slicePick,c]
 have d:Vals (FZ xs lo hi st) (slicePick its.toArray lo hi st).toList:=by rw[e];exact r.pickI _
 have n:(slicePick its.toArray lo hi st).size=(FZ xs lo hi st).length:=by rw[<-Pg];exact d.length.symm
 refine⟨"list",_,slot_list_getitem.lookup,f.isList.typeIs,tO f.isList t j k ps l ?_ (by rw[FJ];lia)⟩;refine⟨.ref s.heap.objs.size,_,I.laid (t':=s.toks) (o:=.lst (FZ xs lo hi st)) (λb y q=>FP _ q) (CT _) ⟨by show (FZ xs lo hi st).length<=sizeLine;lia,_,0,d,?_⟩,O,q _ (I.hok.fresh (CT _))⟩;rw[Array.toArray_toList];exact Gv _ rfl
end
theorem Y7r:((List.range 7).all λc=>(List.range 7).all λn=>decide (c<n) || decide (sliceRange (sliceBounds none none (some ((2^n:Nat):Int)) (2^c)).1 (sliceBounds none none (some ((2^n:Nat):Int)) (2^c)).2.1 (sliceBounds none none (some ((2^n:Nat):Int)) (2^c)).2.2=(List.range (2^(c-n))).map (·*2^n)))=true:=by decide +kernel
theorem Y8k{xs:List V}{c n:Nat}(c6:c<=6)(hn:n<=c)(hl:xs.length=2^c):FZ xs none none (some ((2^n:Nat):Int))=((List.range (2^(c-n))).map (·*2^n)).filterMap (xs[·]?):=by
 unfold FZ;rw[hl];have:=Gz.mp (Gz.mp Y7r c (El.mpr (by lia))) n (El.mpr (by lia));rw[Le,JG,JG]at this;rcases this with h | h
 ·lia
 ·rw[h]
theorem wj{ps:U5}:∀(l:W8),(∀i∈l,i<ps.length)->l.filterMap ((ps.map V.ref)[·]?)=(l.map λi=>ps.getD i 0).map V.ref
 | [],_=>rfl
 | i::l,h=>by
  have hi:=h i Lg;rw[jT (b:=V.ref (ps.getD i 0)) (by simp[hi]),wj l λj a=>h j (Li _ a)];rfl
end L2
set_option maxHeartbeats 1000000
namespace Ah
open L2 Ba Am Pc Dj
open Ar (top Bs Bu CZ Bg Fw Steps Dh Lz J4 JQ)
noncomputable abbrev Zz:A5:=((0,0,0,0),0)
noncomputable def wf (n:Nat)(f:Nat->A5):Nat->A5:=λw=>if w%2^n=0 then f (w / 2^n) else Zz
variable{n:Nat}
theorem Rz{m:Nat}:FN n (m:Int) Zz:=⟨⟨by unfold Sz;exact Cv _,by unfold Sz;exact Cv _,by unfold Sz;exact Cv _,by unfold Sz;exact Cv _⟩,⟨PL 0,.inl rfl⟩,Qx m⟩
variable{f:Nat->A5}
theorem W4g{c N M:Nat}(o:∀i,i<2^c->FN N M (f i)):∀i,i<2^(c+n)->FN N M (wf n f i):=λi hi=>by
 unfold wf;split
 ·refine o _ ?_;rw[HW]at hi;exact Qy (by rw[Lb];exact hi)
 ·exact Rz
theorem W2i{w:Nat}(n6:n<=6):Builtin.bitAnd (w:Int) ((1:Int)*2^(n:Int).toNat-1)=((w%2^n:Nat):Int):=by
 have p:=Cv n;have e:((1:Int)*2^(n:Int).toNat-1)=((2^n-1:Nat):Int):=by
  rw[N8,Dm,show ((2:Int)^n)=((2^n:Nat):Int) by simp];lia
 rw[e,Ig,Nat.and_two_pow_sub_one_eq_mod]
variable{K:U0}{H:Hp}
theorem aX{ps:U5}{g:Nat->A5}(v:Bg K H ps f)(e:∀i,i<ps.length->f i=g i):Bg K H ps g:=λi p hp=>by
 rw[<-e i (Fq.mp hp).1];exact v i p hp
variable{fr:L2.St}{acc:Y4}{Q:VK}
theorem yJ{l:Y4}{xs:List V}{g:TG}{tc:TT}{te:TE}{H1:Hp}(t v:Nat->Bool)(hn:xs.length<=sizeLine)(hacc:H1 acc=none)(hl:Ag K H1 l xs)
  (hg:∀{a:Y4}{x y:V}{w1 w2:Option V}{H:Hp}{Q:L2.St->Hp->Prop},H a=some (.tup [x,y])->Q (some x::some y::fr) H->g (.ref a) (w1::w2::fr) H Q)
  (hc:∀i x H (N:Bool->Hp->Prop),xs[i]?=some x->Same H1 H->N (t i) H->tc (some (.int i)::some x::fr) H N)
  (hs:∀i x H (N:V->Hp->Prop),xs[i]?=some x->Same H1 H->N (.bl (v i)) H->te (some (.int i)::some x::fr) H N)
  (hd:∀(bs:List Bool) H2,Same H1 H2->(bs.any id=true↔∃i,i<xs.length/\t i=true/\v i=true)->bs.length<=xs.length->H2 acc=some (.lst (bs.map V.bl))->Q (.ref acc) H2):Nz (Ite K l) g tc te (none::none::fr) H1 acc Q:=by
 refine⟨λi m zs n H2=>m=xs.length-i/\i<=xs.length/\(∃v w,n=v::w::fr)/\Same H1 H2/\H2 acc=some (.lst zs)/\zs.length<=i/\∃bs:List Bool,zs=bs.map V.bl/\(bs.any id=true↔∃j,j<i/\t j=true/\v j=true),⟨xs.length,by simp,Fy _,⟨_,_,O⟩,Ao hacc _,Al,CT _,[],O,by simp⟩,?_⟩;rintro i m zs n H2 ⟨rfl,hi,⟨B,z,rfl⟩,s2,h,o,bs,rfl,hb⟩;by_cases hlt:i<xs.length
 ·have e1:xs[i]?=some xs[i]:=by simp[hlt]
  refine .inr ⟨⟨xs,_,s2.seq hl,e1⟩,λu A r=>?_⟩;obtain⟨T,x,rfl,p,rfl,h1⟩:=r;have k:=h1 xs (s2.seq hl);have f:=Ao p (.tup [.int i,x]);have s3:=s2.trans f;refine hg (x:=.int i) (y:=x) Al (hc i x _ _ k s3 ⟨λs=>hs i x _ _ k s3 ⟨f _ _ h,by lia,xs.length-(i+1),by lia,O,hlt,⟨_,_,O⟩,Dy s3 hacc,Al,by simp at o ⊢;lia,bs++[v i],by rw[Cg];rfl,?_⟩,λhf=>⟨xs.length-(i+1),by lia,O,hlt,⟨_,_,O⟩,s3,f _ _ h,by lia,bs,O,?_⟩⟩)
  ·rw[List.any_append,Le,hb];constructor
   ·rintro (⟨j,d,q⟩ | q)
    ·exact⟨j,by lia,q⟩
    ·exact⟨i,by lia,s,by simpa using q⟩
   ·rintro ⟨j,d,b,c⟩;by_cases ej:j=i
    ·subst ej;exact .inr (by simpa using c)
    ·exact .inl ⟨j,by lia,b,c⟩
  ·rw[hb];constructor
   ·rintro ⟨j,d,q⟩;exact⟨j,by lia,q⟩
   ·rintro ⟨j,d,b,c⟩;by_cases ej:j=i
    ·subst ej;rw[hf]at b;cases b
    ·exact⟨j,by lia,b,c⟩
 ·have e:i=xs.length:=by lia
  subst e;exact .inl ⟨⟨xs,s2.seq hl,CT _⟩,hd bs H2 s2 hb (by simpa using o) h⟩
theorem W4v{te:TE}(f:Nat->A5)(n64:n<=64)(hacc:H acc=none)
  (hs:∀i H2 (N:V->Hp->Prop),i<n->Same H H2->(∀r b,Same H2 b->CZ K b r (f i)->N (.ref r) b)->te (some (.int (0+i))::fr) H2 N)
  (hd:∀H2 a,Same H H2->H2 acc=some (.lst (a.map V.ref))->a.length=n->Bg K H2 a f->Q (.ref acc) H2):Ii (HS 0 n) (CQ 0) te (none::fr) H acc Q:=by
 refine VR (n:=n) (fr:=fr) (λi ys H'=>∃a:List Addr,Same H H'/\H' acc=some (.lst ys)/\ys=a.map V.ref/\a.length=i/\Bg K H' a f) (Dz n64) ⟨[],Ao hacc _,Al,O,O,λ_ _ z=>by cases z⟩ ?_ ?_
 ·rintro i ys H2 N hi l ⟨a,d,h,rfl,g,v2⟩ m;refine hs i H2 _ hi d λr b c k=>m (.ref r) b (c _ _ h) ⟨a++[r],Dy (d.trans c) hacc,Al,by rw[Cg];rfl,by simp[g],?_⟩;refine JQ (xs:=a.map V.ref) (aX (J4 v2 c k) λj o=>?_) (c _ _ h);show (if j=a.length then f i else f j)=f j;by_cases e:j=a.length
  ·rw[if_pos e,e,g]
  ·rw[if_neg e]
 ·rintro ys H2 l ⟨a,d,h,rfl,g,v2⟩;exact hd H2 a d h g v2
def Z0:Sp:=λvs H Q _=>∃w n:Nat,vs=[.int w,.int n]/\n<=6/\Q (.bl (!decide (w%2^n=0))) H
def vg (K:U0):Sp:=λvs H Q _=>∃(l:Y4) (ps:U5) (f:Nat->A5) (c n wd N M:Nat),vs=[.ref l,.int n,.int wd]/\Bu K H l ps f c N M/\c+n<=6/\wd<2^(c+n)/\∀p,CZ K H p (wf n f wd)->Q (.ref p) H
def J8 (K:U0):Sp:=λvs H Q _=>∃(l:Y4) (ps:U5) (f:Nat->A5) (c n N M:Nat),vs=[.ref l,.int n]/\Bu K H l ps f c N M/\c+n<=6/\∀(r:Y4) (H':Hp) (qs:U5),H r=none->Same H H'->Bu K H' r qs (wf n f) (c+n) N M->Q (.ref r) H'
def Mf (K:U0):Sp:=λvs H Q _=>∃(l:Y4) (ps:U5) (f:Nat->A5) (c n N M:Nat),vs=[.ref l,.int n]/\Bu K H l ps f c N M/\c<=6/\n<c/\(∀w,w<2^c->w%2^n≠0->f w=Zz)/\∀(r:Y4) (H':Hp) (qs:U5),H r=none->Same H H'->Bu K H' r qs (λw=>f (w*2^n)) (c-n) N M->Q (.ref r) H'
def J_:Sp:=λvs H Q _=>∃n:Nat,vs=[.int n,.int n]/\Q .non H
section
variable {P:W3}{w:W6}{K:U0}{mg:U6}{base:Heap}{k:Nat}{h:Heap}
theorem X3m(F:Ab K "has_first_cells" (top 81) .none)(X:K.In h)(G:Ng h mg):Ai P w K mg base (k+1) "has_first_cells" ["word","many"] Z0:=by
 refine F.cal X G ["word","many"] λd H vs Q E c h=>?_;obtain⟨a,n,rfl,b,q⟩:=h;refine⟨_,(@Aj _ _ _ (BJ (Fv Jc (Af Di (pv 0) (Af Gq (Af Ft Ac (pv 1)) Ac)) Ac (Ad _)))),?_⟩;try dsimp only[CN]
 refine⟨_,O,_,O,_,_,O,O,⟨1,GJ,by lia,by lia⟩,_,_,O,O,_,_,O,O,O,?_⟩;show Q (.bl (!decide (V.int (Builtin.bitAnd (a:Int) ((1:Int)*2^(n:Int).toNat-1))=V.int 0))) H;rw[W2i b,show decide (V.int ((a%2^n:Nat):Int)=V.int 0)=decide (a%2^n=0) from decide_eq_decide.mpr ⟨λz=>by have:=V.int.inj z;lia,λz=>by rw[z];rfl⟩];exact q
theorem X2y{aZ:Y4}(gZ:mg "NOUGHT"=some (.ref aZ))(kZ:∀H,CZ K H aZ Zz)(F:Ab K "widened_at" (top 80) .none)(X:K.In h)(G:Ng h mg)(cF:Ai P w K mg base k "has_first_cells" ["word","many"] Z0):Ai P w K mg base (k+1) "widened_at" ["board","many","word"] (vg K):=by
 refine F.cal X G ["board","many","word"] λj H vs Q E f h=>?_;obtain⟨l,ps,g,c,n,a,N,M,rfl,b,i,d,q⟩:=h;refine⟨_,(@Aj _ _ _ (BJ (Nu (Dd (Ay cF f rfl (Aa (pv 2) (Aa (pv 1) Ae)))) (QL (v:=.ref aZ) rfl gZ rfl) (Aw Eo (pv 0) (Af Jd (pv 2) (pv 1)) (λ_ _=>rfl))))),?_⟩;try dsimp only[CN]
 refine⟨_,O,_,O,a,n,O,by lia,_,O,FQ (λz=>?_) (λz=>?_)⟩
 ·exact q _ (by unfold wf;rw[if_neg (Jt z)];exact kZ H)
 ·have z:=Kd z;have hd:a / 2^n<ps.length:=by rw[b.len];rw[HW]at d;exact Qy (by rw[Lb];exact d)
  have e:((a:Int) / 2^(n:Int).toNat)=((a / 2^n:Nat):Int):=by rw[Dm];simp
  refine⟨_,O,_,O,_,O,_,_,O,O,by lia,l,_,_,.ref (ps.getD (a / 2^n) 0),O,O,Ag.of b.lst,?_,q _ ?_⟩
  ·rw[e];exact Ol (by simp[hd])
  ·unfold wf;rw[if_pos z];exact b.vals _ _ (by simp[hd])
theorem Ms:BZ ["board","many"] ["board","many"] (DG (top 79)):=fS
theorem W1q{tM:Tok}(gM:mg "MOST_CELLS"=some (.int 6 tM))(F:Ab K "widened" (top 79) .none)(X:K.In h)(G:Ng h mg)(B:Bs mg)(c7:Ai P w K mg base k "cells_of" ["board"] (Lz K))(eB:Ai P w K mg base k "widened_at" ["board","many","word"] (vg K)):Ai P w K mg base (k+1) "widened" ["board","many"] (J8 K):=by
 refine F.cal X G _ (S:=Ms) λC H vs Q E o h=>?_;obtain⟨l,ps,g,c,n,N,M,rfl,d,j,q⟩:=h;have m:Ag K H l (ps.map V.ref):=Ag.of d.lst;have b:(ps.map V.ref).length=2^c:=by rw[A_,d.len]
 have y:=Dr (show c<=6 by lia);have pn:=Dr j
 refine⟨_,(@Av _ _ _ _ _ (B_ (CP RT (Af Dn (Ay c7 o rfl (Aa (pv 0) Ae)) (pv 1)) (QL (v:=.int 6) rfl gM ⟨_,O⟩) (Ad _))
   (@Aj _ _ _ Ov)
   CJ)
  (@Aj _ _ _ (BJ (HY rfl (Bl.of (Nc:=["word","board","many"]) (mp:=[none,some 0,some 1]) (by kernel_rfl)) (J3 rfl B.range (Aa (Af Ft (CG Eh rfl B.len EY (Aa (pv 0) Ae)) (pv 1)) Ae)) (λ_ _ _ _=>(CV (i:=0) (show (["word","board","many"]:W5).Nodup by decide +kernel) rfl (Or.inl rfl))) (λ_ _ _ _=>(Ay eB o rfl (Aa (pv 1) (Aa (pv 2) (Aa (pv 0) Ae))))))))),?_⟩
 try dsimp only[CN]
 refine⟨_,O,l,_,c,O,m,b,by lia,_,O,_,_,O,O,_,_,O,O,_,O,BP (λz=>absurd z (by lia)) (λ_=>?_)⟩;have e:((((ps.map V.ref).length:Nat):Int)*2^(n:Int).toNat)=((2^(c+n):Nat):Int):=by rw[b,Dm,HW];simp
 have r:Sz 7 (((ps.map V.ref).length:Nat):Int):=by unfold Sz;rw[ZX,b];lia
 refine⟨_,O,l,_,O,.inl m,_,O,_,_,O,O,⟨7,r,by lia,by lia⟩,?_⟩;refine⟨_,O,ZD (show (-2^62:Int)<=0 by decide) (show 0<=(((ps.map V.ref).length:Nat):Int)*2^(n:Int).toNat by rw[e];exact Qx _),(by show (((ps.map V.ref).length:Nat):Int)*2^(n:Int).toNat<2^62;rw[e];lia),λacc a=>?_⟩;rw[e,Dm];refine W4v (K:=K) (wf n g) (by lia) a (λi H2 A hi f x=>?_) (λH2 s f u t v2=>q acc H2 s a f ⟨u,t,v2,W4g d.ok⟩);exact⟨_,O,_,O,_,O,l,ps,g,c,n,i,N,M,(by show [V.ref l,V.int n,V.int (0+(i:Int))]=_;rw[KJ]),d.same f,j,hi,λp hp=>x p H2 (Same.refl _) hp⟩
theorem Mz:BZ ["found","cells"] ["found","cells"] (DG (top 84)):=fS
theorem W1y(F:Ab K "check_cells" (top 84) .none)(X:K.In h)(G:Ng h mg):Ai P w K mg base (k+1) "check_cells" ["found","cells"] J_:=by
 refine F.cal X G _ (S:=Mz) λb H vs Q E a h=>?_;obtain⟨n,rfl,q⟩:=h
 refine⟨_,(@Aj _ _ _ (B_ (CP Jc (pv 0) (pv 1) (Ad _))
   (@Aj _ _ _ Ov)
   CJ)),?_⟩
 try dsimp only[CN]
 exact⟨_,O,_,O,O,_,O,Kh (λz=>absurd rfl z) (λ_=>q)⟩
theorem Mu:BZ ["board","many"] ["board","many"] (DG (top 82)):=fS
theorem W1t{aZ:Y4}(gZ:mg "NOUGHT"=some (.ref aZ))(kZ:∀H,CZ K H aZ Zz)(F:Ab K "narrowed" (top 82) .none)(X:K.In h)(G:Ng h mg)(B:Bs mg)(c7:Ai P w K mg base k "cells_of" ["board"] (Lz K))(cF:Ai P w K mg base k "has_first_cells" ["word","many"] Z0):Ai P w K mg base (k+1) "narrowed" ["board","many"] (Mf K):=by
 refine F.cal X G _ (S:=Mu) λR H vs Q E e h=>?_;obtain⟨l,ps,g,c,n,N,M,rfl,b,c6,u,J,q⟩:=h;have m:Ag K H l (ps.map V.ref):=Ag.of b.lst;have a:(ps.map V.ref).length=2^c:=by rw[A_,b.len]
 have I:=Dr c6
 refine⟨_,(@Av _ _ _ _ _ (B_ (CP fH (Ay c7 e rfl (Aa (pv 0) Ae)) (pv 1) (Ad _))
   (@Aj _ _ _ Ov)
   CJ)
  (@Av _ _ _ _ _ (B_ (Dd (CG (QT rfl) rfl B.any PB (Aa (VD rfl (Bl.of (Nc:=["word","one","many"]) (mp:=[none,none,some 1]) (by kernel_rfl)) (Tc rfl B.enumerate (Aa (pv 0) Ae)) (λ_ _ _ _=>(Vb rfl (show (["word","one","many"]:W5).Nodup by decide +kernel) rfl rfl rfl rfl)) (λ_ _ _ _=>(Dd (Ay cF e rfl (Aa (pv 0) (Aa (pv 2) Ae))))) (λ_ _ _ _=>(Fv (X7 e.units) (pv 1) (QL (v:=.ref aZ) rfl gZ rfl) (Ad _)))) Ae)))
   (@Aj _ _ _ Ov)
   CJ)
  (@Aj _ _ _ (BJ (Y8m X2h (pv 0) Lx Lx (K7 (Af Ft Ac (pv 1))) (λ_ _=>rfl)))))),?_⟩
 try dsimp only[CN]
 refine⟨_,O,l,_,c,O,m,a,c6,_,O,_,_,O,O,_,O,BP (λz=>absurd z (by lia)) (λ_=>?_)⟩;refine⟨_,O,l,_,O,m,λacc f=>?_⟩;refine yJ (K:=K) (l:=l) (xs:=ps.map V.ref) (fr:=[some (.int n)]) (λi=>!decide (i%2^n=0)) (λi=>!decide (l5 (g i)=[0,0,0,0,0])) (by rw[a];exact Dz I) f m (λh q=>⟨_,_,O,Ax.of h,O,_,_,O,_,_,O,O,q⟩) (λi x H2 N o d s=>⟨_,O,_,O,i,n,O,by lia,_,O,s⟩) ?_ ?_
 ·rintro i x H2 N o d s;rw[Cz]at o;obtain⟨p,hp,rfl⟩:=Fz.mp o;exact⟨_,O,p,aZ,l5 (g i),[0,0,0,0,0],O,O,(b.vals i p hp).same d,kZ H2,s⟩
 rintro bs H2 d hb bl L;refine⟨acc,bs,O,Ag.of L,_,O,Jz (λz=>?_) (λz=>?_)⟩
 ·obtain⟨i,hi,h1,h2⟩:=hb.mp z;rw[a]at hi;have h1:i%2^n≠0:=by simpa using h1
  rw[J i hi h1]at h2;cases h2
 have e2:((1:Int)*2^(n:Int).toNat)=((2^n:Nat):Int):=by rw[N8,Dm];simp
 have pn:=Cv n;refine⟨_,O,_,O,_,_,O,O,⟨1,GJ,by lia,by lia⟩,_,O,l,_,O,d.seq m,(λz=>?_),λr e=>?_⟩
 ·have z:((1:Int)*2^(n:Int).toNat)=0:=Option.some.inj z;rw[e2]at z;lia
 have s3:=Ao e (.lst (FZ (ps.map V.ref) none none (some ((1:Int)*2^(n:Int).toNat))));have C:upd H2 r (.lst (FZ (ps.map V.ref) none none (some ((1:Int)*2^(n:Int).toNat)))) r=some (.lst (FZ (ps.map V.ref) none none (some ((1:Int)*2^(n:Int).toNat)))):=Al;have y:=d.trans s3;have t:∀i,i<2^(c-n)->i*2^n<2^c:=λi hi=>by
  have:=Ut hi pn;rwa [<-HW,jF (Ud u)]at this
 refine q r _ (((List.range (2^(c-n))).map (·*2^n)).map λi=>ps.getD i 0) (J2 d e) y ⟨?_,by simp,λi p hp=>?_,λi hi=>b.ok _ (t i hi)⟩
 ·rw[C,e2,Y8k c6 (Ud u) a,wj _ λi hi=>?_];obtain⟨j,D,rfl⟩:=GP.mp hi;rw[b.len];exact t j (El.mp D)
 ·have hi:i<2^(c-n):=by have:=(Fq.mp hp).1;simpa using this
  have A:=t i hi;rw[<-b.len]at A;have ep:p=ps.getD (i*2^n) 0:=by
   rw[Cz,Cz,List.getElem?_range hi]at hp;exact(Option.some.inj hp).symm
  subst ep;exact(b.vals _ _ (by simp[A])).same y
end
end Ah
namespace Ah
open L2 Ba Am Pc Dj
open Ar (top Bs Bu CZ Bg Fw Steps Dh Lz J4 JQ)
open DY (Dg)
open C_ (Mk Bj Ak Br)
open CK (Gr FW aG JD T3 L3 Tab Jg)
variable{c:Nat}
theorem zO{x:Mv}(h:DR.okb 0 c x=true):DR.okb 0 c (JW.bk x)=true:=by
 cases x with
 | turn a j =>
  simp only[DR.okb,JW.bk,HX,Le,JG]at h ⊢;lia
 | cross a b d=>cases h
 | pair a b=>cases h
 | flip a=>exact h
 | mix a=>exact h
 | iff a b=>exact h
 | swap a b=>exact h
structure LR (ms:List Mk) (c:Nat):Prop where
 ok:∀x∈Aq ms c,DR.okb 0 c x=true
 len:(Aq ms c).length<=ms.length*(3*c+1)
 n:ms.length<=c
 mkd:∀i,i<ms.length->Ak (Aq ms c) (0,0,2^i)=ms.getD i (0,0,0)
variable{ms:List Mk}
theorem YL(c6:c<=6)(T:JV.QZ ms c):LR ms c:=by
 have L:=JV.VH c6 hbd T ms.length (CT _);refine⟨λx a=>?_,?_,L.jc,λi hi=>JV.X0d c6 hbd T hi⟩
 ·unfold Aq Et.bwd at a;obtain⟨y,b,rfl⟩:=GP.mp a;exact zO (L.ok y (List.mem_reverse.mp b))
 ·unfold Aq Et.bwd;rw[A_,Zb];exact L.len
theorem Nr(c6:c<=6)(T:JV.QZ ms c)(n6:ms.length<=6):(∀x∈Aq ms c,Dg c x)/\(∀x∈Aq ms c,Br x)/\(Aq ms c).length<=200:=by
 have L:=YL c6 T;obtain⟨v,b⟩:=Xw L.ok;exact⟨v,b,Ek L.len (Ek (iR n6 (show 3*c+1<=19 by lia)) (by decide))⟩
theorem YX(c6:c<=6)(T:JV.QZ ms c)(n6:ms.length<=6):(∀x∈Et.bwd (Aq ms c),Dg c x)/\(∀x∈Et.bwd (Aq ms c),Br x)/\(Et.bwd (Aq ms c)).length<=200:=by
 have L:=YL c6 T;have o:∀x∈Et.bwd (Aq ms c),DR.okb 0 c x=true:=λx a=>by
  obtain⟨y,d,rfl⟩:=GP.mp a;exact zO (L.ok y (List.mem_reverse.mp d))
 obtain⟨v,b⟩:=Xw o;refine⟨v,b,?_⟩;unfold Et.bwd;rw[A_,Zb];exact(Nr c6 T n6).2.2
theorem XQ{x:A5}(h:l5 x=[0,0,0,0,0]):x=Zz:=by
 obtain⟨⟨a,b,c,d⟩,e⟩:=x;simp[l5]at h;obtain⟨rfl,rfl,rfl,rfl,rfl⟩:=h;rfl
structure T_ (H:Hp) (l:Y4) (c:Nat):Prop where
 ex:∃(ps:U5) (ms:List Mk),H l=some (.lst (ps.map V.ref))/\FW H ps ms/\ms.length<=12/\(∀m∈ms,Jg c m)/\∀b,Tab ms b->b=false
set_option genInjectivity false in
set_option genSizeOf false in
structure RZ (K:U0) (mg:U6) (b:Bool) (C D:Y4) (bm bm':U9) where
 mC:mg (if b then "NoBoard" else "NoTable")=some (.ref C)
 mD:mg "BoardError"=some (.ref D)
 mV:mg "ValueError"=none
 xC:ExcAt K C bm
 xD:ExcAt K D bm'
 sub:(Value.ref C::bm).contains (.ref D)=true
 kC:PySem.W.JZ K C
 ve:PySem.W.kitOne K (.ref C) (.type "ValueError")=some true
 aB:Addr
 aT:Addr
 mB:mg "NoBoard"=some (.ref aB)
 mT:mg "NoTable"=some (.ref aT)
 kB:PySem.W.kitOne K (.ref C) (.ref aB)=some b
 kT:PySem.W.kitOne K (.ref C) (.ref aT)=some (!b)
 a_NoAmount:Addr
 mo_NoAmount:mg "NoAmount"=some (.ref a_NoAmount)
 kn_NoAmount:PySem.W.kitOne K (.ref C) (.ref a_NoAmount)=some false
 a_NoMark:Addr
 mo_NoMark:mg "NoMark"=some (.ref a_NoMark)
 kn_NoMark:PySem.W.kitOne K (.ref C) (.ref a_NoMark)=some false
 a_NoShare:Addr
 mo_NoShare:mg "NoShare"=some (.ref a_NoShare)
 kn_NoShare:PySem.W.kitOne K (.ref C) (.ref a_NoShare)=some false
 a_NoMove:Addr
 mo_NoMove:mg "NoMove"=some (.ref a_NoMove)
 kn_NoMove:PySem.W.kitOne K (.ref C) (.ref a_NoMove)=some false
 a_NoCell:Addr
 mo_NoCell:mg "NoCell"=some (.ref a_NoCell)
 kn_NoCell:PySem.W.kitOne K (.ref C) (.ref a_NoCell)=some false
 a_NeverSo:Addr
 mo_NeverSo:mg "NeverSo"=some (.ref a_NeverSo)
 kn_NeverSo:PySem.W.kitOne K (.ref C) (.ref a_NeverSo)=some false
 a_NoText:Addr
 mo_NoText:mg "NoText"=some (.ref a_NoText)
 kn_NoText:PySem.W.kitOne K (.ref C) (.ref a_NoText)=some false
 a_NotBorne:Addr
 mo_NotBorne:mg "NotBorne"=some (.ref a_NotBorne)
 kn_NotBorne:PySem.W.kitOne K (.ref C) (.ref a_NotBorne)=some false
 a_Unguarded:Addr
 mo_Unguarded:mg "Unguarded"=some (.ref a_Unguarded)
 kn_Unguarded:PySem.W.kitOne K (.ref C) (.ref a_Unguarded)=some false
theorem X9l:bootBuiltins "ValueError"=some (.type "ValueError"):=by decide +kernel
def G6 (C:Y4)(b:Bool):Sp:=λvs H _ E=>b=false/\∃(l:Y4) (c:Nat),vs=[.ref l,.int c]/\1<=c/\c<=6/\T_ H l c/\∀H',Same H H'->E (.ref C) none H'
def Jp (C:Y4)(b:Bool):Sp:=λvs H _ E=>b=true/\∃n m:Nat,vs=[.int n,.int m]/\n≠m/\E (.ref C) none H
def Jj (K:U0)(C:Y4)(b:Bool):Sp:=λvs H _ E=>b=true/\∃(l:Y4) (ps:U5) (f:Nat->A5) (c n N M:Nat),vs=[.ref l,.int n]/\Bu K H l ps f c N M/\c<=6/\6<c+n/\E (.ref C) none H
def J5 (f:Nat->A5)(c n:Nat):Prop:=∃w,w<2^c/\w%2^n≠0/\f w≠Zz
def Ij (K:U0)(C:Y4)(b:Bool):Sp:=λvs H _ E=>b=true/\∃(l:Y4) (ps:U5) (f:Nat->A5) (c n N M:Nat),vs=[.ref l,.int n]/\Bu K H l ps f c N M/\c<=6/\n<=6/\(c<=n\/(n<c/\J5 f c n))/\∀H',Same H H'->E (.ref C) none H'
def Jo (K:U0)(C:Y4)(b:Bool):Sp:=λvs H _ E=>∃(l lr:Y4) (N:Nat),vs=[.ref l,.ref lr,.int N]/\1<=N/\N<=6/\((b=false/\T_ H lr N)\/(b=true/\∃(ps:U5) (f:Nat->A5) (c n m:Nat) (pr:U5) (ms:List Mk),Bu K H l ps f c n m/\c<=6/\Gr N H lr pr ms/\c+ms.length≠N))/\∀H',Same H H'->E (.ref C) none H'
def Jk (K:U0)(C:Y4)(b:Bool):Sp:=λvs H _ E=>∃(l lr:Y4) (N:Nat),vs=[.ref l,.ref lr,.int N]/\1<=N/\N<=6/\((b=false/\T_ H lr N)\/(b=true/\∃(ps:U5) (f:Nat->A5) (c n m:Nat) (pr:U5) (ms:List Mk),Bu K H l ps f c n m/\c<=6/\Gr N H lr pr ms/\c≠N) \/
 (b=true/\∃(ps:U5) (f:Nat->A5) (n m:Nat) (pr:U5) (ms:List Mk),Bu K H l ps f N n m/\m<=300/\n<=210000/\Gr N H lr pr ms/\ms.length<N/\∀g,Steps N ((Et.bwd (Aq ms N)).map gm) f g->J5 g N ms.length))/\∀H',Same H H'->E (.ref C) none H'
def Qn (K:U0):Sp:=λvs H Q _=>∃(l lr:Y4) (ps:U5) (f:Nat->A5) (c N n m:Nat) (pr:U5) (ms:List Mk),vs=[.ref l,.ref lr,.int N]/\Bu K H l ps f c n m/\1<=N/\N<=6/\m<=300/\n<=210000/\Gr N H lr pr ms/\c+ms.length=N /\
 ∀(r:Y4) (H':Hp) (qs:U5) (g:Nat->A5),H r=none->Same H H'->Bu K H' r qs g N (n+1010*((Aq ms N).map gm).length) (m+((Aq ms N).map gm).length)->Steps N ((Aq ms N).map gm) (wf ms.length f) g->Q (.ref r) H'
def Qh (K:U0):Sp:=λvs H Q _=>∃(l lr:Y4) (ps:U5) (f:Nat->A5) (N n m:Nat) (pr:U5) (ms:List Mk),vs=[.ref l,.ref lr,.int N]/\Bu K H l ps f N n m/\1<=N/\N<=6/\m<=300/\n<=210000/\Gr N H lr pr ms/\ms.length<N/\(∀g,Steps N ((Et.bwd (Aq ms N)).map gm) f g->∀w,w<2^N->w%2^ms.length≠0->g w=Zz) /\
 ∀(r:Y4) (H':Hp) (qs:U5) (g:Nat->A5) (n' m':Nat),H r=none->Same H H'->Bu K H' r qs (λw=>g (w*2^ms.length)) (N-ms.length) n' m'->Steps N ((Et.bwd (Aq ms N)).map gm) f g->Q (.ref r) H'
def vU (C:Y4)(g:Y4):Sp:=λvs H Q _=>vs=[.ref g]/\H g=some (Ge none g (.ref C))/\Q (.bl false) H
def G5 (K:U0)(b:Bool):Sp:=λvs H Q _=>∃(wy:Int) (l lr:Y4) (n:Nat),vs=[.int wy,.ref l,.ref lr,.int n]/\(∀C:Addr,∀E:XK,(∀H',Same H H'->E (.ref C) none H')->∀Q',(wy=0/\Jo K C b [.ref l,.ref lr,.int n] H Q' E)\/(wy=1/\Jk K C b [.ref l,.ref lr,.int n] H Q' E)\/(wy=2/\Jj K C b [.ref l,.int n] H Q' E)\/(wy=3/\Ij K C b [.ref l,.int n] H Q' E))/\∀(r:Y4) (H':Hp),Same H H'->H' r=some (.tup [.bl b,.bl (!b)])->Q (.ref r) H'
section
variable {P:W3}{w:W6}{K:U0}{mg:U6}{base:Heap}{k:Nat}{h:Heap}{C D:Y4}{bm bm':U9}{b:Bool}
theorem uN(F:Ab K "check_table" (top 46) .none)(X:K.In h)(G:Ng h mg)(x:RZ K mg b C D bm bm')(d5:Ai P w K mg base k "is_table" ["rows","cells"] JD):DX P w K mg base (k+1) "check_table" ["rows","cells"] (G6 C b):=by
 refine F.calX X G _ (S:=CK.IW) λm H vs Q E f h=>?_;obtain⟨rfl,l,c,rfl,c1,c6,⟨ps,ms,d,g,R8,ok,a⟩,j⟩:=h;refine⟨_,(@Aj _ _ _ (B_ (Fo (Dd (Ay d5 f rfl (Aa (pv 0) (Aa (pv 1) Ae))))) (@Aj _ _ _ (X8 CW rfl rfl x.mC x.xC (Aa Fg Ae))) CJ)),?_⟩;try dsimp only[CN]
 exact⟨_,O,_,O,c,l,ps,ms,O,c1,c6,d,g,R8,ok,λb H' i e=>by rw[a b e];exact⟨_,O,Ds ⟨by decide,j H' i⟩⟩⟩
theorem wZ(F:Ab K "laid" (top 75) .none)(X:K.In h)(G:Ng h mg)(cU:DX P w K mg base k "check_table" ["rows","cells"] (G6 C b)):DX P w K mg base (k+1) "laid" ["rows","cells"] (G6 C b):=by
 refine F.calX X G _ (S:=JF) λd H vs Q E a h=>?_;obtain⟨e,l,c,rfl,t⟩:=h;refine⟨_,(@Av _ _ _ _ _ (H_ (VL cU (CW.passes λ_ _ _ z=>z) a rfl (Aa (pv 0) (Aa (pv 1) Ae)))) Tg),?_⟩;try dsimp only[CN]
 exact⟨_,O,_,O,e,l,c,O,t⟩
theorem vD(F:Ab K "check_cells" (top 84) .none)(X:K.In h)(G:Ng h mg)(x:RZ K mg b C D bm bm'):DX P w K mg base (k+1) "check_cells" ["found","cells"] (Jp C b):=by
 refine F.calX X G _ (S:=Mz) λe H vs Q E c h=>?_;obtain⟨rfl,n,m,rfl,d,a⟩:=h;refine⟨_,(@Aj _ _ _ (B_ (CP Jc (pv 0) (pv 1) (Ad _)) (@Aj _ _ _ (X8 CW rfl rfl x.mC x.xC (Aa Fg Ae))) CJ)),?_⟩;try dsimp only[CN]
 exact⟨_,O,_,O,O,_,O,Kh (λ_=>⟨by decide,a⟩) (λz=>absurd z (by lia))⟩
theorem vJ{tM:Tok}(gM:mg "MOST_CELLS"=some (.int 6 tM))(F:Ab K "widened" (top 79) .none)(X:K.In h)(G:Ng h mg)(x:RZ K mg b C D bm bm')(c7:Ai P w K mg base k "cells_of" ["board"] (Lz K)):DX P w K mg base (k+1) "widened" ["board","many"] (Jj K C b):=by
 refine F.calX X G _ (S:=Ms) λi H vs Q E d h=>?_;obtain⟨rfl,l,ps,g,c,n,N,M,rfl,a,c6,f,e⟩:=h;refine⟨_,(@Av _ _ _ _ _ (B_ (CP RT (Af Dn (Ay c7 d rfl (Aa (pv 0) Ae)) (pv 1)) (QL (v:=.int 6) rfl gM ⟨_,O⟩) (Ad _)) (@Aj _ _ _ (X8 CW rfl rfl x.mC x.xC (Aa Fg Ae))) CJ) Tg),?_⟩;try dsimp only[CN]
 exact⟨_,O,l,_,c,O,Ag.of a.lst,by rw[A_,a.len],c6,_,O,_,_,O,O,_,_,O,O,_,O,BP (λ_=>⟨by decide,e⟩) (λz=>absurd z (by lia))⟩
theorem vH{aZ:Y4}(gZ:mg "NOUGHT"=some (.ref aZ))(kZ:∀H,CZ K H aZ Zz)(F:Ab K "narrowed" (top 82) .none)(X:K.In h)(G:Ng h mg)(B:Bs mg)(x:RZ K mg b C D bm bm')(c7:Ai P w K mg base k "cells_of" ["board"] (Lz K))(cF:Ai P w K mg base k "has_first_cells" ["word","many"] Z0):DX P w K mg base (k+1) "narrowed" ["board","many"] (Ij K C b):=by
 refine F.calX X G _ (S:=Mu) λR H vs Q E m h=>?_;obtain⟨rfl,l,ps,g,c,n,N,M,rfl,r,c6,J,A,s⟩:=h;have j:Ag K H l (ps.map V.ref):=Ag.of r.lst;have a:(ps.map V.ref).length=2^c:=by rw[A_,r.len]
 have u:=Dr c6
 refine⟨_,(@Av _ _ _ _ _ (B_ (CP fH (Ay c7 m rfl (Aa (pv 0) Ae)) (pv 1) (Ad _))
   (@Aj _ _ _ (X8 CW rfl rfl x.mC x.xC (Aa Fg Ae)))
   CJ)
  (@Av _ _ _ _ _ (B_ (Dd (CG (QT rfl) rfl B.any PB (Aa (VD rfl (Bl.of (Nc:=["word","one","many"]) (mp:=[none,none,some 1]) (by kernel_rfl)) (Tc rfl B.enumerate (Aa (pv 0) Ae)) (λ_ _ _ _=>(Vb rfl (show (["word","one","many"]:W5).Nodup by decide +kernel) rfl rfl rfl rfl)) (λ_ _ _ _=>(Dd (Ay cF m rfl (Aa (pv 0) (Aa (pv 2) Ae))))) (λ_ _ _ _=>(Fv (X7 m.units) (pv 1) (QL (v:=.ref aZ) rfl gZ rfl) (Ad _)))) Ae)))
   (@Aj _ _ _ (X8 CW rfl rfl x.mC x.xC (Aa Fg Ae)))
   CJ)
  Tg)),?_⟩
 try dsimp only[CN]
 refine⟨_,O,l,_,c,O,j,a,c6,_,O,_,_,O,O,_,O,BP (λ_=>⟨by decide,s H (Same.refl _)⟩) (λz=>?_)⟩;obtain⟨L,y,t,h1,h2⟩:n<c/\J5 g c n:=A.resolve_left (by lia);refine⟨_,O,l,_,O,j,λacc d=>?_⟩;refine yJ (K:=K) (l:=l) (xs:=ps.map V.ref) (fr:=[some (.int n)]) (λi=>!decide (i%2^n=0)) (λi=>!decide (l5 (g i)=[0,0,0,0,0])) (by rw[a];exact Dz u) d j (λh q=>⟨_,_,O,Ax.of h,O,_,_,O,_,_,O,O,q⟩) (λi x H2 N f e o=>⟨_,O,_,O,i,n,O,by lia,_,O,o⟩) ?_ ?_
 ·rintro i x H2 N f e o;rw[Cz]at f;obtain⟨p,hp,rfl⟩:=Fz.mp f;exact⟨_,O,p,aZ,l5 (g i),[0,0,0,0,0],O,O,(r.vals i p hp).same e,kZ H2,o⟩
 rintro bs H2 e hb bl I;refine⟨acc,bs,O,Ag.of I,_,O,?_⟩;rw[hb.mpr ⟨y,by rw[a];exact t,by simpa using h1,by rw[Cr λz=>h2 (XQ z)];rfl⟩];exact Ds ⟨by decide,s H2 e⟩
theorem Mx:BZ ["board","rows","cells","row"] ["board","rows","cells"] (DG (top 83)):=fS
theorem W1x(F:Ab K "guarded" (top 83) .none)(X:K.In h)(G:Ng h mg)(B:Bs mg)(cO:Ai P w K mg base k "laid" ["rows","cells"] VN)(cI:Ai P w K mg base k "check_cells" ["found","cells"] J_)(c7:Ai P w K mg base k "cells_of" ["board"] (Lz K))(cS:Ai P w K mg base k "widened" ["board","many"] (J8 K))(d7:Ai P w K mg base k "run" ["board","row"] (Dh K)):Ai P w K mg base (k+1) "guarded" ["board","rows","cells"] (Qn K):=by
 refine F.cal X G _ (S:=Mx) λY H vs Q E b h=>?_;obtain⟨l,e,ps,g,c,N,n,m,pr,ms,rfl,z,W,s,Z,A,T,u,q⟩:=h
 refine⟨_,(@Av _ _ _ _ _ (@BR _ _ 3 _ _ _ _ Y rfl (Or.inl rfl) (Ay cO b rfl (Aa (pv 1) (Aa (pv 2) Ae))) rfl (.inl rfl))
  (@Av _ _ _ _ _ (H_ (Ay cI b rfl (Aa (Af Dn (Ay c7 b rfl (Aa (pv 0) Ae)) (CG Eh rfl B.len EY (Aa (pv 1) Ae))) (Aa (pv 2) Ae))))
  (@Aj _ _ _ (BJ (Ay d7 b rfl (Aa (Ay cS b rfl (Aa (pv 0) (Aa (CG Eh rfl B.len EY (Aa (pv 1) Ae)) Ae))) (Aa (pv 3) Ae))))))),?_⟩
 try dsimp only[CN]
 have TB:=Yd T;have x:Ag K H e (pr.map V.ref):=Ag.of T.lst;have a:(pr.map V.ref).length=ms.length:=by rw[A_,T.mks.length]
 refine⟨_,O,_,O,e,pr,ms,N,O,T,W,s,λrw H1 nr d L=>?_⟩;have t:=z.same d;refine⟨_,O,l,_,c,O,Ag.of t.lst,by rw[A_,z.len],by lia,_,O,e,_,O,.inl (d.seq x),_,_,O,O,_,O,N,?_,?_⟩
 ·rw[a,<-u];simp
 refine⟨_,O,_,O,e,_,O,.inl (d.seq x),l,ps,g,c,ms.length,n,m,by rw[a];rfl,t,by lia,λr H2 R D f y=>?_⟩;rw[u]at y;obtain⟨v,br,I⟩:=Nr s TB T.len;obtain⟨U,o⟩:=bU (L.same f) v I;exact⟨_,O,r,rw,R,U,_,N,n,m,(Aq ms N).map gm,O,o,y,s,Z,A,λr3 M i g3 p C J j=>q r3 M i g3 (J2 d (J2 f p)) ((d.trans f).trans C) J j⟩
theorem Mt:BZ ["board","rows","cells","row"] ["board","rows","cells"] (DG (top 85)):=fS
theorem W1r(F:Ab K "unguarded" (top 85) .none)(X:K.In h)(G:Ng h mg)(B:Bs mg)(cO:Ai P w K mg base k "laid" ["rows","cells"] VN)(cI:Ai P w K mg base k "check_cells" ["found","cells"] J_)(c7:Ai P w K mg base k "cells_of" ["board"] (Lz K))(cW:Ai P w K mg base k "narrowed" ["board","many"] (Mf K))(d7:Ai P w K mg base k "run" ["board","row"] (Dh K))(cR:Ai P w K mg base k "backward" ["row"] KC):Ai P w K mg base (k+1) "unguarded" ["board","rows","cells"] (Qh K):=by
 refine F.cal X G _ (S:=Mt) λnd H vs Q E b h=>?_;obtain⟨l,p,ps,g,N,n,m,pr,ms,rfl,x,U,c,m3,z,T,W,y,q⟩:=h
 refine⟨_,(@Av _ _ _ _ _ (@BR _ _ 3 _ _ _ _ nd rfl (Or.inl rfl) (Ay cO b rfl (Aa (pv 1) (Aa (pv 2) Ae))) rfl (.inl rfl))
  (@Av _ _ _ _ _ (H_ (Ay cI b rfl (Aa (Ay c7 b rfl (Aa (pv 0) Ae)) (Aa (pv 2) Ae))))
  (@Aj _ _ _ (BJ (Ay cW b rfl (Aa (Ay d7 b rfl (Aa (pv 0) (Aa (Ay cR b rfl (Aa (pv 3) Ae)) Ae))) (Aa (CG Eh rfl B.len EY (Aa (pv 1) Ae)) Ae))))))),?_⟩
 try dsimp only[CN]
 have u:=Yd T;have SL:Ag K H p (pr.map V.ref):=Ag.of T.lst;have o:(pr.map V.ref).length=ms.length:=by rw[A_,T.mks.length]
 obtain⟨_,_,a0⟩:=Nr c u T.len;obtain⟨v,br,D⟩:=YX c u T.len;refine⟨_,O,_,O,p,pr,ms,N,O,T,U,c,λrw H1 nr t J=>?_⟩;have r:=x.same t;refine⟨_,O,l,_,N,O,Ag.of r.lst,by rw[A_,x.len],c,_,O,N,O,?_⟩;refine⟨_,O,_,O,rw,_,O,J,by lia,λY H2 L s R2=>?_⟩;obtain⟨M,j⟩:=bU R2 v D;refine⟨l,Y,ps,M,g,N,n,m,_,O,j,r.same s,c,m3,z,λr3 H3 f g3 a1 A I d=>?_⟩;have a:=(t.trans s).trans A;exact⟨_,O,p,_,O,.inl (a.seq SL),r3,f,g3,N,ms.length,_,_,by rw[o];rfl,I,c,W,y g3 d,λr4 C e i Z R=>q r4 C e g3 _ _ (J2 a i) (a.trans Z) R d⟩
theorem vG(F:Ab K "guarded" (top 83) .none)(X:K.In h)(G:Ng h mg)(B:Bs mg)(cO:Ai P w K mg base k "laid" ["rows","cells"] VN)(x_laid:DX P w K mg base k "laid" ["rows","cells"] (G6 C b))(x_check_cells:DX P w K mg base k "check_cells" ["found","cells"] (Jp C b))(c7:Ai P w K mg base k "cells_of" ["board"] (Lz K)):DX P w K mg base (k+1) "guarded" ["board","rows","cells"] (Jo K C b):=by
 refine F.calX X G _ (S:=Mx) λj H vs Q E a h=>?_;obtain⟨l,f,N,rfl,i,p,⟨rfl,t⟩ | ⟨rfl,ps,g,c,n,m,pr,ms,q,c6,T,s⟩,o⟩:=h
 ·refine⟨_,(@Av _ _ _ _ _ (@BR _ _ 3 _ _ _ _ j rfl (Or.inl rfl) (VL x_laid (CW.passes λ_ _ _ z=>z) a rfl (Aa (pv 1) (Aa (pv 2) Ae))) rfl (.inl rfl)) Tg),?_⟩;exact⟨_,O,_,O,O,f,N,O,i,p,t,o⟩
 ·refine⟨_,(@Av _ _ _ _ _ (@BR _ _ 3 _ _ _ _ j rfl (Or.inl rfl) (Ay cO a rfl (Aa (pv 1) (Aa (pv 2) Ae))) rfl (.inl rfl)) (@Av _ _ _ _ _ (H_ (VL x_check_cells (CW.passes λ_ _ _ z=>z) a rfl (Aa (Af Dn (Ay c7 a rfl (Aa (pv 0) Ae)) (CG Eh rfl B.len EY (Aa (pv 1) Ae))) (Aa (pv 2) Ae)))) Tg)),?_⟩;refine⟨_,O,_,O,f,pr,ms,N,O,T,i,p,λrw H1 v e u=>?_⟩;have r:=q.same e;have d:(pr.map V.ref).length=ms.length:=by rw[A_,T.mks.length]
  exact⟨_,O,l,_,c,O,Ag.of r.lst,by rw[A_,q.len],c6,_,O,f,_,O,.inl (e.seq (Ag.of T.lst)),_,_,O,O,_,O,O,c+ms.length,N,by rw[d];simp,s,o H1 e⟩
theorem vI(F:Ab K "unguarded" (top 85) .none)(X:K.In h)(G:Ng h mg)(B:Bs mg)(cO:Ai P w K mg base k "laid" ["rows","cells"] VN)(x_laid:DX P w K mg base k "laid" ["rows","cells"] (G6 C b))(cI:Ai P w K mg base k "check_cells" ["found","cells"] J_)(x_check_cells:DX P w K mg base k "check_cells" ["found","cells"] (Jp C b))(c7:Ai P w K mg base k "cells_of" ["board"] (Lz K))(x_narrowed:DX P w K mg base k "narrowed" ["board","many"] (Ij K C b))(d7:Ai P w K mg base k "run" ["board","row"] (Dh K))(cR:Ai P w K mg base k "backward" ["row"] KC):DX P w K mg base (k+1) "unguarded" ["board","rows","cells"] (Jk K C b):=by
 refine F.calX X G _ (S:=Mt) λu H vs Q E a h=>?_;obtain⟨l,i,N,rfl,q,d,⟨rfl,t⟩ | ⟨rfl,ps,g,c,n,m,pr,ms,j,c6,T,W⟩ | ⟨rfl,ps,g,n,m,pr,ms,j,m3,J,T,cN,lo⟩,y⟩:=h
 ·refine⟨_,(@Av _ _ _ _ _ (@BR _ _ 3 _ _ _ _ u rfl (Or.inl rfl) (VL x_laid (CW.passes λ_ _ _ z=>z) a rfl (Aa (pv 1) (Aa (pv 2) Ae))) rfl (.inl rfl)) Tg),?_⟩;exact⟨_,O,_,O,O,i,N,O,q,d,t,y⟩
 ·refine⟨_,(@Av _ _ _ _ _ (@BR _ _ 3 _ _ _ _ u rfl (Or.inl rfl) (Ay cO a rfl (Aa (pv 1) (Aa (pv 2) Ae))) rfl (.inl rfl)) (@Av _ _ _ _ _ (H_ (VL x_check_cells (CW.passes λ_ _ _ z=>z) a rfl (Aa (Ay c7 a rfl (Aa (pv 0) Ae)) (Aa (pv 2) Ae)))) Tg)),?_⟩;refine⟨_,O,_,O,i,pr,ms,N,O,T,q,d,λrw H1 Z f D=>?_⟩;have o:=j.same f;exact⟨_,O,l,_,c,O,Ag.of o.lst,by rw[A_,j.len],c6,_,O,O,c,N,O,W,y H1 f⟩
 ·refine⟨_,(@Av _ _ _ _ _ (@BR _ _ 3 _ _ _ _ u rfl (Or.inl rfl) (Ay cO a rfl (Aa (pv 1) (Aa (pv 2) Ae))) rfl (.inl rfl)) (@Av _ _ _ _ _ (H_ (Ay cI a rfl (Aa (Ay c7 a rfl (Aa (pv 0) Ae)) (Aa (pv 2) Ae)))) (@Aj _ _ _ (BJ (VL x_narrowed (CW.passes λ_ _ _ z=>z) a rfl (Aa (Ay d7 a rfl (Aa (pv 0) (Aa (Ay cR a rfl (Aa (pv 3) Ae)) Ae))) (Aa (CG Eh rfl B.len EY (Aa (pv 1) Ae)) Ae))))))),?_⟩;have I:=Yd T;have SL:Ag K H i (pr.map V.ref):=Ag.of T.lst;have x:(pr.map V.ref).length=ms.length:=by rw[A_,T.mks.length]
  obtain⟨_,_,a0⟩:=Nr d I T.len;obtain⟨v,br,M⟩:=YX d I T.len;refine⟨_,O,_,O,i,pr,ms,N,O,T,q,d,λrw H1 Z f D=>?_⟩;have o:=j.same f;refine⟨_,O,l,_,N,O,Ag.of o.lst,by rw[A_,j.len],d,_,O,N,O,?_⟩;refine⟨_,O,_,O,rw,_,O,D,by lia,λrb H2 U A R2=>?_⟩;obtain⟨Y,s⟩:=bU R2 v M;refine⟨l,rb,ps,Y,g,N,n,m,_,O,s,o.same A,d,m3,J,λr3 H3 p g3 a1 L R r=>?_⟩;have e:=(f.trans A).trans L;exact⟨_,O,i,_,O,.inl (e.seq SL),O,r3,p,g3,N,ms.length,_,_,by rw[x];rfl,R,d,by lia,.inr ⟨cN,lo g3 r⟩,λH' S'=>y H' (e.trans S')⟩
theorem wY{g:Y4}(F:Ab K "_law_is_another" (top 101) .none)(X:K.In h)(G:Ng h mg)(B:Bs mg)(x:RZ K mg b C D bm bm'):J7 g P w K mg base (k+1) "_law_is_another" ["_law_e"] (vU C g):=by
 refine F.calH X G ["_law_e"] λc H vs Q E a h=>?_;obtain⟨rfl,e,q⟩:=h
 refine⟨_,(@Av _ _ _ _ _ (B_ (PW.pt (HJ (Dd (CG Nx rfl B.isinstance Gy (Aa (pv 0) (Aa (Nt rfl x.mo_NoAmount) Ae)))) (HJ (Dd (CG Nx rfl B.isinstance Gy (Aa (pv 0) (Aa (Nt rfl x.mo_NoMark) Ae)))) (HJ (Dd (CG Nx rfl B.isinstance Gy (Aa (pv 0) (Aa (Nt rfl x.mo_NoShare) Ae)))) (Je (Dd (CG Nx rfl B.isinstance Gy (Aa (pv 0) (Aa (Nt rfl x.mo_NoMove) Ae)))))))))
   (@Aj _ _ _ (BJ Cw))
   CJ)
  (@Av _ _ _ _ _ (B_ (PW.pt (HJ (Dd (CG Nx rfl B.isinstance Gy (Aa (pv 0) (Aa (Nt rfl x.mo_NoCell) Ae)))) (HJ (Dd (CG Nx rfl B.isinstance Gy (Aa (pv 0) (Aa (Nt rfl x.mo_NeverSo) Ae)))) (HJ (Dd (CG Nx rfl B.isinstance Gy (Aa (pv 0) (Aa (Nt rfl x.mo_NoText) Ae)))) (Je (Dd (CG Nx rfl B.isinstance Gy (Aa (pv 0) (Aa (Nt rfl x.mo_NotBorne) Ae)))))))))
   (@Aj _ _ _ (BJ Cw))
   CJ)
  (@Aj _ _ _ (BJ (YT (CG Nx rfl B.isinstance Gy (Aa (pv 0) (Aa (Nt rfl x.mo_Unguarded) Ae))) (Kq (Yc (CG Nx rfl B.isinstance Gy (Aa (pv 0) (Aa (K6 (v:=.ty "ValueError") rfl x.mV X9l rfl) Ae)))))))))),?_⟩
 try dsimp only[CN]
 have dx:Dx H none:=λd e=>by cases e
 exact⟨_,O,g,none,C,_,_,false,O,e,dx,x.kC,O,x.kn_NoAmount,_,O,Bd ⟨_,O,g,none,C,_,_,false,O,e,dx,x.kC,O,x.kn_NoMark,_,O,Bd ⟨_,O,g,none,C,_,_,false,O,e,dx,x.kC,O,x.kn_NoShare,_,O,Bd ⟨_,O,g,none,C,_,_,false,O,e,dx,x.kC,O,x.kn_NoMove,_,O,Bd ⟨_,O,g,none,C,_,_,false,O,e,dx,x.kC,O,x.kn_NoCell,_,O,Bd ⟨_,O,g,none,C,_,_,false,O,e,dx,x.kC,O,x.kn_NeverSo,_,O,Bd ⟨_,O,g,none,C,_,_,false,O,e,dx,x.kC,O,x.kn_NoText,_,O,Bd ⟨_,O,g,none,C,_,_,false,O,e,dx,x.kC,O,x.kn_NotBorne,_,O,Bd ⟨_,O,g,none,C,_,_,false,O,e,dx,x.kC,O,x.kn_Unguarded,_,O,Bd ⟨_,O,g,none,C,_,_,true,O,e,dx,x.kC,O,x.ve,_,O,q⟩⟩⟩⟩⟩⟩⟩⟩⟩⟩
theorem vC(F:Ab K "_law_refused" (top 102) .none)(X:K.In h)(G:Ng h mg)(B:Bs mg)(x:RZ K mg b C D bm bm')(x_guarded:DX P w K mg base k "guarded" ["board","rows","cells"] (Jo K C b))(x_unguarded:DX P w K mg base k "unguarded" ["board","rows","cells"] (Jk K C b))(x_widened:DX P w K mg base k "widened" ["board","many"] (Jj K C b))(x_narrowed:DX P w K mg base k "narrowed" ["board","many"] (Ij K C b))(dA:∀g,J7 g P w K mg base k "_law_is_another" ["_law_e"] (vU C g)):Ai P w K mg base (k+1) "_law_refused" ["_law_way","_law_board","_law_rows","_law_cells"] (G5 K b):=by
 refine F.cal X G ["_law_way","_law_board","_law_rows","_law_cells","_law_e"] λu H vs Q E j h=>?_;obtain⟨A,l,I,n,rfl,m,r⟩:=h
 refine⟨_,(@Av _ _ _ _ _ (X7h (E:=λcls c H'=>cls=.ref C/\Same H H'/\c=none) (i:=4) ⟨O,O⟩ u rfl rfl rfl x.mD x.xC.cls x.xD x.sub (λ_ _ _ z=>z.1)
   (λpins σ=>@Aj _ _ _ (B_ (CP Df (pv 0) Ac (Ad _)) (@Aj _ _ _ (H_ (Zx (σ0:=σ) x_guarded j rfl (Aa (pv 1) (Aa (pv 2) (Aa (pv 3) Ae)))))) (@Aj _ _ _ (B_ (CP Df (pv 0) Ac (Ad _)) (@Aj _ _ _ (H_ (Zx (σ0:=σ) x_unguarded j rfl (Aa (pv 1) (Aa (pv 2) (Aa (pv 3) Ae)))))) (@Aj _ _ _ (B_ (CP Df (pv 0) Ac (Ad _)) (@Aj _ _ _ (H_ (Zx (σ0:=σ) x_widened j rfl (Aa (pv 1) (Aa (pv 3) Ae))))) (@Aj _ _ _ (H_ (Zx (σ0:=σ) x_narrowed j rfl (Aa (pv 1) (Aa (pv 3) Ae)))))))))))
   (λa=>@Av _ _ _ _ _ (B_ (Dd (X7l (dA a) (j.h a) rfl (Aa (pv 4) Ae))) (@Aj _ _ _ (BJ Yb)) CJ)
    (@Aj _ _ _ (BJ (@Ci _ _ _ _ _ (Aa (CG uo rfl B.isinstance Gy (Aa (pv 4) (Aa (Nt rfl x.mB) Ae))) (Aa (CG uo rfl B.isinstance Gy (Aa (pv 4) (Aa (Nt rfl x.mT) Ae))) Ae)))))))
  (@Aj _ _ _ (BJ Yb))),?_⟩
 try dsimp only[CN]
 refine⟨?_,?_⟩
 ·refine⟨_,O,O,_,O,Iv (λe=>?_) (λy=>⟨_,O,O,_,O,Iv (λe=>?_) (λe1=>⟨_,O,O,_,O,Iv (λe=>?_) (λe2=>?_)⟩)⟩)⟩
  ·refine⟨_,O,_,O,_,O,O,?_⟩;rcases m C (λcls c H'=>cls=.ref C/\Same H H'/\c=none) (λH' S=>⟨rfl,S,rfl⟩) Q with ⟨_,z⟩ | ⟨z,_⟩ | ⟨z,_⟩ | ⟨z,_⟩
   ·exact z
   all_goals lia
  ·refine⟨_,O,_,O,_,O,O,?_⟩;rcases m C (λcls c H'=>cls=.ref C/\Same H H'/\c=none) (λH' S=>⟨rfl,S,rfl⟩) Q with ⟨z,_⟩ | ⟨_,z⟩ | ⟨z,_⟩ | ⟨z,_⟩
   rotate_left
   ·exact z
   all_goals lia
  ·refine⟨_,O,_,O,O,?_⟩;rcases m C (λcls c H'=>cls=.ref C/\Same H H'/\c=none) (λH' S=>⟨rfl,S,rfl⟩) Q with ⟨z,_⟩ | ⟨z,_⟩ | ⟨_,z⟩ | ⟨z,_⟩
   rotate_left 2
   ·exact z
   all_goals lia
  ·refine⟨_,O,_,O,O,?_⟩;rcases m C (λcls c H'=>cls=.ref C/\Same H H'/\c=none) (λH' S=>⟨rfl,S,rfl⟩) Q with ⟨z,_⟩ | ⟨z,_⟩ | ⟨z,_⟩ | ⟨_,z⟩
   rotate_left 3
   ·exact z
   all_goals lia
 rintro a cls c H1 ⟨rfl,v,rfl⟩ q;have o:upd H1 a (Ge none a (.ref C)) a=some (Ge none a (.ref C)):=Al;have p:=v.trans (Ao q (Ge none a (.ref C)));generalize upd H1 a (Ge none a (.ref C))=H2 at o p ⊢;have f:Dx H2 none:=λd e=>by cases e
 refine⟨_,O,O,o,_,O,Bd ?_⟩;refine⟨_,O,a,none,C,_,_,b,O,o,f,x.kC,O,x.kB,_,O,a,none,C,_,_,!b,O,o,f,x.kC,O,x.kT,(show 2<=sizeLine by decide),λt s=>?_⟩;exact r t _ (p.trans (Ao s _)) Al
end
end Ah
set_option maxRecDepth 10000
namespace rJ
open L2 (Sz)
end rJ
set_option maxHeartbeats 4000000
namespace Yr
open L2 Am rJ
end Yr
namespace Hw
open L2 Am Pc Ba rJ Yr
end Hw
namespace Ah
open L2 Ba Am Pc Dj
open Ar (top Bs Bu CZ Bg Fw J4 JQ)
open C_ (Mk)
theorem Xr{a b c d:Int}(h:([a,b,c,d].map λn=>decide (V.int (n%2)=V.int 1)).any id=false):a%2=0/\b%2=0/\c%2=0/\d%2=0:=by
 have e:∀n:Int,decide (V.int (n%2)=V.int 1)=false->n%2=0:=λn z=>by
  have:n%2≠1:=λq=>Jt z (by rw[q]);lia
 simp only[Gh,Pa,Qt,mY,id,Wq,Bool.or_eq_false_iff]at h;exact⟨e a h.1,e b h.2.1,e c h.2.2.1,e d h.2.2.2⟩
theorem Xq{a b c d:Int}(h:([a,b,c,d].map λn=>decide (V.int (n%2)=V.int 1)).any id=true):a%2=1\/b%2=1\/c%2=1\/d%2=1:=by
 have e:∀n:Int,decide (V.int (n%2)=V.int 1)=true->n%2=1:=λn z=>V.int.inj (Kd z);simp only[Gh,Pa,Qt,mY,id,Wq,Le]at h;rcases h with h | h | h | h
 ·exact .inl (e a h)
 ·exact .inr (.inl (e b h))
 ·exact .inr (.inr (.inl (e c h)))
 ·exact .inr (.inr (.inr (e d h)))
theorem Q5:(0:Int)<1009:=by decide
theorem Nf:(0:Int)<2003:=by decide
theorem Rx:(0:Int)<2147483629:=by decide
theorem SN:Yw 10 30:=⟨by decide,by decide,by decide⟩
theorem jY:(0:Int)<2*10^(30:Int).toNat+1:=by decide
theorem gW{z:Int}:Sz 102 (z%(2*10^(30:Int).toNat+1)-10^(30:Int).toNat):=by
 have h1:=Jr z (PX jY);have h2:=Ky z jY;have b:(2*10^(30:Int).toNat+1:Int)<2^102:=by decide +kernel
 have a:(10:Int)^(30:Int).toNat<2^102:=by decide +kernel
 have c:(0:Int)<10^(30:Int).toNat:=by decide +kernel
 unfold Sz;generalize (10:Int)^(30:Int).toNat=T at *;have e:(2:Int)^102=((2^102:Nat):Int):=by decide +kernel
 rw[e]at b a;generalize z%(2*T+1)=y at *;generalize (2^102:Nat)=B at *;lia
theorem Y7{x:Int}{n:Nat}(h:x.natAbs<2^20)(hn:20<=n):Sz n x:=by
 unfold Sz;exact DK h (G3 (by decide) hn)
variable{fr:L2.St}{H1:Hp}{acc:Y4}{Q:VK}
theorem qL{K:U0}{a:Y4}{ns:W0}{te:TE}(f:Int->V)(hl:Ag K H1 a (ns.map V.int))(hn:ns.length<=sizeLine)(hacc:H1 acc=none)(hs:∀n H (N:V->Hp->Prop),n∈ns->Same H1 H->N (f n) H->te (some (.int n)::fr) H N)
  (hd:∀H2,Same H1 H2->H2 acc=some (.lst (ns.map f))->Q (.ref acc) H2):Ii (K9 K a) (CQ 0) te (none::fr) H1 acc Q:=by
 refine Xu (n:=ns.length) (val:=λi=>.int (ns.getD i 0)) (λi=>f (ns.getD i 0)) hn hacc (λi H hi s=>?_) (λH s=>⟨_,s.seq hl,by simp⟩) (λi H N hi s b=>hs _ H N (by simp[hi]) s b) (λH2 s h=>hd H2 s (by rw[h,YG]));have e:(ns.map V.int)[i]?=some (.int (ns.getD i 0)):=by simp[hi]
 refine⟨⟨_,_,s.seq hl,e⟩,λx H' y=>⟨y.1,?_⟩⟩;have:=y.2 _ (s.seq hl);rw[e]at this;exact(Option.some.inj this).symm
theorem Zu{N i:Nat}(h:i<N):Nm N (i:Int)=some i:=by
 unfold Nm;rw[if_pos (Qx i),if_pos (by lia),Dm]
theorem Oq(z:Int){N:Nat}(h:0<N):∃i:Nat,i<N/\z%(N:Int)=(i:Int):=by
 have a:=Jr z (show (N:Int)≠0 by lia);have h1:=Ky z (show (0:Int)<N by lia);exact⟨(z%(N:Int)).toNat,by lia,by lia⟩
theorem Xv{K:U0}{a:Y4}{ns:W0}{te:TE}(f:Int->V)(hl:Ax K H1 a (ns.map V.int))(hn:ns.length<=sizeLine)(hacc:H1 acc=none)(hs:∀n H (N:V->Hp->Prop),n∈ns->Same H1 H->N (f n) H->te (some (.int n)::fr) H N)
  (hd:∀H2,Same H1 H2->H2 acc=some (.lst (ns.map f))->Q (.ref acc) H2):Ii (fU K a) (CQ 0) te (none::fr) H1 acc Q:=by
 refine Xu (n:=ns.length) (val:=λi=>.int (ns.getD i 0)) (λi=>f (ns.getD i 0)) hn hacc (λi H hi s=>?_) (λH s=>⟨_,s.tup hl,by simp⟩) (λi H N hi s b=>hs _ H N (by simp[hi]) s b) (λH2 s h=>hd H2 s (by rw[h,YG]));have e:(ns.map V.int)[i]?=some (.int (ns.getD i 0)):=by simp[hi]
 refine⟨⟨_,_,s.tup hl,e⟩,λx H' y=>⟨y.1,?_⟩⟩;have:=y.2 _ (s.tup hl);rw[e]at this;exact(Option.some.inj this).symm
theorem Pq{m:Nat}:FN 100 (m:Int) ((1,0,0,0),0):=⟨⟨Ar.s_1,Ar.s_0,Ar.s_0,Ar.s_0⟩,⟨PL 0,.inl rfl⟩,Qx m⟩
theorem jZ{m:Nat}:FN 100 (m:Int) ((0,0,0,0),0):=⟨⟨Ar.s_0,Ar.s_0,Ar.s_0,Ar.s_0⟩,⟨PL 0,.inl rfl⟩,Qx m⟩
def MJ (f:Nat->A5)(c:Nat):Prop:=∃j,j<2^c/\f j≠((0,0,0,0),0)
theorem X9a{f:Nat->A5}{c j:Nat}{x:A5}(hj:j<2^c)(nx:x≠((0,0,0,0),0)):MJ (λi=>if i=j then x else f i) c:=⟨j,hj,by show (if j=j then x else f j)≠_;rw[if_pos rfl];exact nx⟩
end Ah
namespace Ar
open L2 Ba Am Pc Dj
open Ah (Oq aX)
variable{f:Nat->A5}{c n m:Nat}
theorem Bu.mod{K:U0}{H:Hp}{l:Y4}{ps:U5}(b:Bu K H l ps f c n m)(z:Int):∃i:Nat,i<2^c/\z%((ps.map V.ref).length:Nat)=(i:Int):=by
 rw[A_,b.len];exact Oq z (Cv c)
theorem Bu.congr{K:U0}{H:Hp}{l:Y4}{ps:U5}{g:Nat->A5}(b:Bu K H l ps f c n m)(e:∀i,i<2^c->f i=g i):Bu K H l ps g c n m:=⟨b.lst,b.len,aX b.vals λi hi=>e i (by rw[<-b.len];exact hi),λi hi=>by rw[<-e i hi];exact b.ok i hi⟩
end Ar
namespace Ah
open L2 Ba Am Pc Dj
open Ar (top Bs Bu CZ Bg Fw J4 JQ)
open C_ (Mk)
variable{f:Nat->A5}
theorem AskedN.iff{n:Nat}:((List.range n).map λj=>!decide (l5 (f j)=[0,0,0,0,0])).any id=true↔∃i,i<n/\f i≠((0,0,0,0),0):=by
 rw[Uj];constructor
 ·rintro ⟨b,hb,e⟩;obtain⟨j,a,rfl⟩:=GP.mp hb;refine⟨j,El.mp a,λz=>?_⟩;rw[z]at e;cases e
 ·rintro ⟨j,a,c⟩;refine⟨_,GP.mpr ⟨j,El.mpr a,O⟩,?_⟩;rw[Cr λz=>c (XQ z)];rfl
theorem qW{K:U0}{l:Y4}{ps:U5}{te:TE}{fr:L2.St}{H1:Hp}{acc:Y4}{Q:VK}(hl:H1 l=some (.lst (ps.map V.ref)))(l64:ps.length<=64)(v:Bg K H1 ps f)(hacc:H1 acc=none)
  (hs:∀p x H (N:V->Hp->Prop),CZ K H p x->(∀t,H t=none->N (.bl (!decide (l5 x=[0,0,0,0,0]))) (upd H t (tA ((0,0,0,0),0))))->te (some (.ref p)::fr) H N)
  (hd:∀H2,Same H1 H2->H2 acc=some (.lst (((List.range ps.length).map λj=>!decide (l5 (f j)=[0,0,0,0,0])).map V.bl))->Q (.ref acc) H2):Ii (K9 K l) (CQ 0) te (none::fr) H1 acc Q:=by
 refine TY (K:=K) (a:=l) (xs:=ps.map V.ref) (fr:=fr) (λi ys H'=>Same H1 H'/\H' acc=some (.lst ys)/\ys=((List.range i).map λj=>!decide (l5 (f j)=[0,0,0,0,0])).map V.bl) (by rw[A_];exact Dz l64) ⟨Ao hacc _,Al,O⟩ (λi ys H' e=>Ag.of (e.1 _ _ hl)) ?_ ?_
 ·rintro i x ys H2 N d h ⟨b,c,rfl⟩ k;rw[Cz]at d;obtain⟨p,hp,rfl⟩:=Fz.mp d;refine hs p (f i) H2 N ((v i p hp).same b) λt g=>k _ _ (Ao g _ _ _ c) ⟨Dy (b.trans (Ao g _)) hacc,Al,?_⟩;rw[Qv,Cg,Cg];rfl
 ·rintro ys H2 h ⟨b,c,rfl⟩;rw[A_]at c;exact hd H2 b c
def p8 (K:U0):Sp:=λvs H Q _=>∃(p:Y4) (x:A5) (k:Int),vs=[.ref p,.int k]/\CZ K H p x/\∀(r:Y4) (H':Hp),Same H H'->H' r=some (tA (D_ x k))->Q (.ref r) H'
def w6:Sp:=λvs H Q _=>∃(z:Int) (i:Nat),vs=[.int z,.int i]/\i<=64/\∀(p:Y4) (H':Hp) (x:A5),Same H H'->H' p=some (tA x)->FN 102 40 x->Q (.ref p) H'
def uR (K:U0):Sp:=λvs H Q _=>∃(a:Y4) (ns:W0) (c:Nat),vs=[.ref a,.int c]/\Ag K H a (ns.map V.int)/\1<=c/\c<=6/\∀(l:Y4) (H':Hp) (ps:U5) (f:Nat->A5),Same H H'->Bu K H' l ps f c 102 40->MJ f c->Q (.ref l) H'
def vX:Sp:=λvs H Q _=>vs=[]/\∀g:Int,Sz 3010 g->g%2=1->Q (.int g) H
def pY (K:U0):Sp:=λvs H Q _=>∃(l p:Y4) (ps:U5) (f:Nat->A5) (c n m q fl s:Nat),vs=[.ref l,.ref p]/\Bu K H l ps f c n m/\c<=6/\Ax K H p [.int q,.int fl,.int s]/\fl<2^c/\∀(r:Y4) (H':Hp) (qs:U5),H r=none->Same H H'->Bu K H' r qs (layW (q,fl,s) f) c n m->Q (.ref r) H'
def Jl (K:U0):Sp:=λvs H Q _=>∃(l:Y4) (ps:U5) (f:Nat->A5) (c n m:Nat) (i:Int),vs=[.ref l,.int i]/\i=((2^c:Nat):Int)/\Bu K H l ps f c n m/\c<=6/\MJ f c/\∀H',Same H H'->Q (.bl true) H'
theorem cj(a b:Nat):(a^^^b)^^^b=a:=by rw[GQ,Ja,Ld]
theorem zu{a b c:Nat}(ha:a<2^c)(hb:b<2^c):a^^^b<2^c:=Lh ha hb
theorem Oe(x y:Nat):[V.int (Builtin.bitAnd (x:Int) (y:Int))]=[V.int ((x&&&y:Nat):Int)]:=by rw[Ig]
section
variable {P:W3}{w:W6}{K:U0}{mg:U6}{base:Heap}{k:Nat}{h:Heap}
theorem X7r(F:Ab K "_law_spin" (top 90) .none)(X:K.In h)(G:Ng h mg)(B:Bs mg):Ai P w K mg base (k+1) "_law_spin" ["_law_one","_law_k"] (p8 K):=by
 refine F.cal X G ["_law_one","_law_k","_law_a","_law_b","_law_c","_law_d","_law_h","_law_j"] λa H vs Q E d h=>?_;obtain⟨p,x,k,rfl,hp,q⟩:=h
 refine⟨_,(@Av _ _ _ _ _ (TV (pv 0) (RD rfl (GF (CV (i:=2) a rfl (Or.inl rfl)) (GF (CV (i:=3) a rfl (Or.inl rfl)) (GF (CV (i:=4) a rfl (Or.inl rfl)) (GF (CV (i:=5) a rfl (Or.inl rfl)) (GF (CV (i:=6) a rfl (Or.inl rfl)) RK)))))))
  (@Av _ _ _ _ _ (Hy PassesOwn.never rfl (J3 rfl B.range (Aa (Af Dp (pv 1) Ac) Ae)) (CV (i:=7) a rfl (Or.inl rfl))
   (@Aj _ _ _ (TV (@Ci _ _ _ _ _ (Aa (Vm bw (pv 5)) (Aa (pv 2) (Aa (pv 3) (Aa (pv 4) Ae))))) (RD rfl (GF (CV (i:=2) a rfl (Or.inl rfl)) (GF (CV (i:=3) a rfl (Or.inl rfl)) (GF (CV (i:=4) a rfl (Or.inl rfl)) (GF (CV (i:=5) a rfl (Or.inl rfl)) RK))))))))
  (@Aj _ _ _ (BJ (@Ci _ _ _ _ _ (Aa (pv 2) (Aa (pv 3) (Aa (pv 4) (Aa (pv 5) (Aa (pv 6) Ae)))))))))),?_⟩
 try dsimp only[CN]
 refine⟨_,O,p,_,O,hp,O,_,_,O,_,_,O,_,_,O,_,_,O,_,_,O,O,?_⟩;refine⟨_,O,_,_,O,O,Zm,_,O,by lia,by lia,Tf (n:=(k%8).toNat) (λi σ H'=>Same H H'/\∃b,σ=[some (.ref p),some (.int k),some (.int (Dl i x.1).1),some (.int (Dl i x.1).2.1),some (.int (Dl i x.1).2.2.1),some (.int (Dl i x.1).2.2.2),some (.int x.2),b]) ⟨Same.refl _,_,O⟩ ?_ ?_⟩
 ·rintro i σ H' hi ⟨c,b,rfl⟩;refine⟨_,O,_,O,_,O,_,O,_,O,t4,λt e=>⟨t,_,O,Ax.of Al,O,_,_,O,_,_,O,_,_,O,_,_,O,O,c.trans (Ao e _),_,O⟩⟩
 ·rintro σ H' ⟨c,b,rfl⟩;exact⟨_,O,_,O,_,O,_,O,_,O,t5,λr d=>q r _ (c.trans (Ao d _)) Al⟩
theorem Y9k(F:Ab K "_law_lowest" (top 89) .none)(X:K.In h)(G:Ng h mg)(B:Bs mg):Ai P w K mg base (k+1) "_law_lowest" ["_law_parts","_law_h"] Mg:=by
 refine F.cal X G ["_law_parts","_law_h"] λW H vs Q E hr h=>?_;obtain⟨l,a,b,c,d,h,rfl,T,U,q⟩:=h;have L:Ag K H l ([a,b,c,d].map V.int):=Ag.of T
 refine⟨_,(@Dv _ _ _ _ _ (B_ (PW.pt (Oj (CP Df (Aw Eo (pv 0) Ac (λ_ _=>rfl)) Ac (Ad _)) (Oj (CP Df (Aw Eo (pv 0) Ac (λ_ _=>rfl)) Ac (Ad _)) (Oj (CP Df (Aw Eo (pv 0) Ac (λ_ _=>rfl)) Ac (Ad _)) (RM (CP Df (Aw Eo (pv 0) Ac (λ_ _=>rfl)) Ac (Ad _)))))))
   (@Aj _ _ _ (BJ (@Ci _ _ _ _ _ (Aa Ac (Aa Ac (Aa Ac (Aa Ac (Aa Ac Ae))))))))
   CJ)
  (@Av _ _ _ _ _ (Vc PassesOwn.never (PW.pt (Oj (CP RT (pv 1) Ac (Ad _)) (RM (Fo (Dd (CG (QT rfl) rfl B.any PB (Aa (HY rfl (Bl.of (Nc:=["_law_part"]) (mp:=[none]) (by kernel_rfl)) (GC (pv 0)) (λ_ _ _ _=>(CV (i:=0) (show (["_law_part"]:W5).Nodup by decide +kernel) rfl (Or.inl rfl))) (λ_ _ _ _=>(Fv Df (Af Dp (pv 0) Ac) Ac (Ad _)))) Ae)))))))
   (@Av _ _ _ _ _ (Td (i:=0) rfl W rfl rfl (Bl.of (Nc:=["_law_part"]) (mp:=[none]) (by kernel_rfl)) (GC (pv 0)) (λ_ _ _ _=>(CV (i:=0) (show (["_law_part"]:W5).Nodup by decide +kernel) rfl (Or.inl rfl))) (λ_ _ _ _=>(Af Iw (pv 0) Ac)) rfl)
   (@Aj _ _ _ (@BR _ _ 1 _ _ _ _ W rfl (Or.inl rfl) (Af Gq (pv 1) Ac) rfl (.inl rfl)))))
  (@Aj _ _ _ (BJ (@Ci _ _ _ _ _ (Aa (Aw Eo (pv 0) Ac (λ_ _=>rfl)) (Aa (Aw Eo (pv 0) Ac (λ_ _=>rfl)) (Aa (Aw Eo (pv 0) Ac (λ_ _=>rfl)) (Aa (Aw Eo (pv 0) Ac (λ_ _=>rfl)) (Aa (pv 1) Ae)))))))))),?_⟩
 try dsimp only[CN]
 refine⟨λσ H'=>H'=H/\σ=[some (.ref l),some (.int h)]/\¬ (a=0/\b=0/\c=0/\d=0),?_,?_⟩
 ·have z5:∀H',Same H H'->a=0->b=0->c=0->d=0->∀p,H' p=none->Q (.ref p) (upd H' p (T5 0 0 0 0 0)):=λH' S A r j s p hp=>by
   subst A r j s;exact q p _ 0 0 0 0 0 (S.trans (Ao hp _)) Al ⟨⟨by lia,.inl rfl⟩,⟨by simp[Fp],by simp[Fp],by simp[Fp],by simp[Fp]⟩,CT _,CT _,CT _,CT _,U⟩
  refine⟨_,O,l,_,_,_,O,O,L,O,O,_,O,Iv (λA=>?_) (λA=>⟨O,O,λz=>A z.1⟩)⟩;refine⟨_,O,l,_,_,_,O,O,L,O,O,_,O,Iv (λr=>?_) (λr=>⟨O,O,λz=>r z.2.1⟩)⟩;refine⟨_,O,l,_,_,_,O,O,L,O,O,_,O,Iv (λj=>?_) (λj=>⟨O,O,λz=>j z.2.2.1⟩)⟩;refine⟨_,O,l,_,_,_,O,O,L,O,O,_,O,Iv (λs=>?_) (λs=>⟨O,O,λz=>s z.2.2.2⟩)⟩;exact⟨t5,λp hp=>z5 H (Same.refl _) A r j s p hp⟩
 rintro σ0 H' ⟨rfl,rfl,_⟩;refine⟨λm σ o=>∃e x y u v g,m=g.toNat/\σ=[some (.ref e),some (.int g)]/\Same H' o/\o e=some (.lst ([x,y,u,v].map V.int))/\Hv a b c d h x y u v g,⟨_,l,a,b,c,d,h,O,O,Same.refl _,T,⟨O,O,O,O⟩,CT _,CT _,CT _,CT _,PL _,U⟩,?_⟩;rintro m σ H2 ⟨e,x,y,u,v,g,rfl,rfl,s2,l2,C⟩;refine⟨_,O,_,_,O,O,_,O,BP (λR=>?_) (λR=>?_)⟩
 ·refine⟨_,O,e,O,⟨_,Ag.of l2⟩,λacc f=>?_⟩;refine wO (ns:=[x,y,u,v]) (fr:=[]) (λn=>.bl (decide (V.int (n%2)=V.int 1))) (Ag.of l2) t4 f (λn D N _ J=>?_) (λD s3 Y=>?_)
  ·exact⟨_,O,_,_,O,O,Uv,O,J⟩
  refine⟨acc,[x,y,u,v].map λn=>decide (V.int (n%2)=V.int 1),O,Ag.of (by rw[Y];rfl),_,O,FQ (λc=>?_) (λc=>?_)⟩
  ·have l3:=s3 _ _ l2;refine⟨_,λ_ _ h=>h,_,O,e,O,⟨_,Ag.of l3⟩,λZ I=>?_⟩;refine wO (ns:=[x,y,u,v]) (fr:=[]) (λn=>.int (n / 2)) (Ag.of l3) t4 I (λn D N _ J=>?_) (λH4 s4 a4=>?_)
   ·exact⟨_,O,_,_,O,O,⟨by decide,by decide⟩,J⟩
   refine⟨_,O,_,_,O,O,?_⟩;refine⟨(g-1).toNat,by lia,Z,x / 2,y / 2,u / 2,v / 2,g-1,O,O,s2.trans (s3.trans s4),a4,C.half R (Xr c)⟩
  ·have l3:Ag K D e ([x,y,u,v].map V.int):=Ag.of (s3 _ _ l2);refine⟨_,O,e,_,_,_,O,O,l3,O,_,O,e,_,_,_,O,O,l3,O,_,O,e,_,_,_,O,O,l3,O,_,O,e,_,_,_,O,O,l3,O,_,O,t5,λt M=>?_⟩;exact q t _ x y u v g (s2.trans (s3.trans (Ao M _))) Al (C.red (.inr (Xq c)))
 ·have l3:Ag K H2 e ([x,y,u,v].map V.int):=Ag.of l2;refine⟨_,O,e,_,_,_,O,O,l3,O,_,O,e,_,_,_,O,O,l3,O,_,O,e,_,_,_,O,O,l3,O,_,O,e,_,_,_,O,O,l3,O,_,O,t5,λt M=>?_⟩;exact q t _ x y u v g (s2.trans (Ao M _)) Al (C.red (.inl (by have:=C.nn;lia)))
theorem X3p(F:Ab K "_law_amount_by" (top 91) .none)(X:K.In h)(G:Ng h mg)(cQ:Ai P w K mg base k "_law_lowest" ["_law_parts","_law_h"] Mg)(cZ:Ai P w K mg base k "_law_spin" ["_law_one","_law_k"] (p8 K)):Ai P w K mg base (k+1) "_law_amount_by" ["_law_cell","_law_k"] w6:=by
 refine F.cal X G ["_law_cell","_law_k","_law_mixed","_law_way","_law_far","_law_parts"] λc H vs Q E l h=>?_;obtain⟨z,i,rfl,C,q⟩:=h;have s:Sz 20 ((i:Int)+1):=Y7 (by lia) (by decide)
 refine⟨_,(@Dv _ _ _ _ _ (@BR _ _ 2 _ _ _ _ c rfl (Or.inr rfl) (Af Dp (Af Dn (Af J0 (pv 0) Ac) (Af J0 (Af JN (Af Dn (pv 1) Ac) (Af Dn (pv 1) Ac)) Ac)) Ac) rfl (.inl rfl))
  (@Dv _ _ _ _ _ (@BR _ _ 2 _ _ _ _ c rfl (Or.inr rfl) (Af Dp (Af JN (pv 2) (pv 2)) Ac) rfl (.inl rfl))
  (@Av _ _ _ _ _ (@BR _ _ 3 _ _ _ _ c rfl (Or.inl rfl) (Af Dp (pv 2) Ac) rfl (.inl rfl))
  (@Av _ _ _ _ _ (B_ (CP Df (pv 3) Ac (Ad _))
   (@Aj _ _ _ (BJ (@Ci _ _ _ _ _ (Aa Ac (Aa Ac (Aa Ac (Aa Ac (Aa Ac Ae))))))))
   CJ)
  (@Av _ _ _ _ _ (B_ (CP Df (pv 3) Ac (Ad _))
   (@Aj _ _ _ (BJ (Ay cZ l rfl (Aa (@Ci _ _ _ _ _ (Aa Ac (Aa Ac (Aa Ac (Aa Ac (Aa Ac Ae)))))) (Aa (Af Iw (pv 2) Ac) Ae)))))
   CJ)
  (@Av _ _ _ _ _ (B_ (CP Df (pv 3) Ac (Ad _))
   (@Aj _ _ _ (BJ (Ay cQ l rfl (Aa (HY rfl (Bl.of (Nc:=["_law_by","_law_mixed"]) (mp:=[none,some 2]) (by kernel_rfl)) (GC (@Ga _ _ _ _ (Aa Ac (Aa Ac (Aa Ac (Aa Ac Ae)))))) (λ_ _ _ _=>(CV (i:=0) (show (["_law_by","_law_mixed"]:W5).Nodup by decide +kernel) rfl (Or.inl rfl))) (λ_ _ _ _=>(Af Gq (Af Dp (Af X2x (pv 1) (pv 0)) Ac) Ac))) (Aa (Af Dp (Af Iw (pv 2) Ac) Ac) Ae)))))
   CJ)
  (@Dv _ _ _ _ _ (@BR _ _ 4 _ _ _ _ c rfl (Or.inl rfl) (Af Gq (Af Dp (Af Dn (pv 0) (Af bL Ac Ac)) (Af Dn (Af J0 Ac (Af bL Ac Ac)) Ac)) (Af bL Ac Ac)) rfl (.inl rfl))
  (@Av _ _ _ _ _ (@BR _ _ 5 _ _ _ _ c rfl (Or.inl rfl) (@Ga _ _ _ _ (Aa (pv 4) (Aa (Af Gq (Af Dp (Af Iw (pv 2) Ac) Ac) Ac) (Aa (Af Gq (Af Dp (Af Iw (pv 2) Ac) Ac) Ac) (Aa (Af Dp (Af Iw (pv 2) Ac) Ac) Ae))))) rfl (.inl rfl))
  (@Aj _ _ _ (BJ (Ay cQ l rfl (Aa (pv 5) (Aa (Af Dp (Af Iw (pv 2) Ac) Ac) Ae))))))))))))),?_⟩
 try dsimp only[CN]
 refine⟨λσ H'=>H'=H/\∃m:Int,0<=m/\m<2147483647/\σ=[some (.int z),some (.int i),some (.int m),none,none,none],?_,?_⟩
 ·refine⟨_,O,_,_,O,O,.inr ⟨by decide,by decide⟩,_,O,_,_,O,O,_,O,_,_,O,O,_,_,O,O,⟨20,20,s,s,by decide⟩,_,_,O,O,.inr ⟨by decide,by decide⟩,_,_,O,O,_,_,O,O,Tt,O,_,Jr _ (PX Tt),Ky _ Tt,O⟩
 rintro V H ⟨rfl,m0,T,L,rfl⟩;have a:Sz 32 m0:=by unfold Sz;lia
 refine⟨λσ H'=>H'=H/\∃m:Int,0<=m/\m<2147483629/\σ=[some (.int z),some (.int i),some (.int m),none,none,none],?_,?_⟩
 ·refine⟨_,O,_,O,_,_,O,O,⟨32,32,a,a,by decide⟩,_,_,O,O,Rx,O,_,Jr _ (PX Rx),Ky _ Rx,O⟩
 clear a T L;rintro W H ⟨rfl,m,m0,U,rfl⟩;refine⟨_,O,_,_,O,O,p_5,?_⟩;refine⟨_,O,O,_,O,Iv (λ_=>?_) (λ_=>?_)⟩
 ·exact⟨t5,λp hp=>q p _ ((0,0,0,0),0) (Ao hp _) Al ((jZ (m:=40)).mono (by decide) (by decide))⟩
 refine⟨_,O,O,_,O,Iv (λ_=>?_) (λ_=>?_)⟩
 ·refine⟨t5,λp hp=>⟨_,O,_,_,O,O,⟨by decide,by decide⟩,p,((1,0,0,0),0),_,O,CZ.of Al,λr H' s' M=>q r H' _ ((Ao hp _).trans s') M (bJ (v:=(1,0,0,0)) (h:=0) ((Pq (m:=40)).mono (by decide) (by decide)) _)⟩⟩
 refine⟨_,O,O,_,O,Iv (λ_=>?_) (λ_=>?_)⟩
 ·refine⟨t4,λI hb=>⟨I,O,⟨_,Ag.of Al⟩,λacc b=>?_⟩⟩;refine qL (ns:=[5,35,245,1715]) (fr:=[some (.int m)]) (λn=>.int (m.fdiv n%7-3)) (Ag.of Al) t4 b (λn H2 N A s2 S=>?_) (λH2 s2 R=>?_)
  ·refine⟨_,O,_,O,_,_,O,O,?_,_,_,O,O,jX,_,_,O,O,S⟩;simp only[Dw,I_,Ht]at A;rcases A with rfl | rfl | rfl | rfl<;>exact⟨by decide,by decide +kernel⟩
  ·have d:∀y:Int,Sz 102 (y%7-3):=λy=>Y7 (by have:=Jr y (show (7:Int)≠0 by decide);have:=Ky y jX;lia) (by decide);refine⟨_,O,_,_,O,O,⟨by decide,by decide⟩,_,_,O,O,XH,acc,_,_,_,_,_,O,R,Jr _ (by decide),λp f x y u v g s3 e rd=>?_⟩;refine q p f ((x,y,u,v),g) (((Ao hb _).trans s2).trans s3) e ⟨rd.sz ⟨d _,d _,d _,d _⟩,rd.amt,?_⟩;have:=rd.le;have:=Ky (m / 12005) XH;show g<=40;lia
 refine⟨λσ H'=>H'=H/\∃j:Int,Sz 102 j/\σ=[some (.int z),some (.int i),some (.int m),some (.int (m%5)),some (.int j),none],?_,?_⟩
 ·exact⟨_,O,_,_,O,O,SN,_,_,O,O,_,_,O,O,SN,_,_,O,O,.inl ⟨by decide,by decide⟩,_,_,O,O,_,_,O,O,jY,_,_,O,O,SN,_,_,O,O,O,_,gW,O⟩
 rintro Y H ⟨rfl,j,J,rfl⟩;refine⟨_,O,_,O,_,_,O,O,⟨by decide,by decide⟩,_,_,O,O,Nf,_,_,O,O,_,O,_,_,O,O,⟨by decide,by decide⟩,_,_,O,O,Nf,_,_,O,O,_,O,_,_,O,O,⟨by decide,by decide⟩,_,_,O,O,Q5,t4,λB o=>?_⟩;have t:∀y:Int,Sz 102 (y%2003-1001):=λy=>Y7 (by have:=Jr y (show (2003:Int)≠0 by decide);have:=Ky y Nf;lia) (by decide);have D:∀y:Int,Sz 102 (y%1009):=λy=>Y7 (by have:=Jr y (show (1009:Int)≠0 by decide);have:=Ky y Q5;lia) (by decide);refine⟨_,O,_,O,_,_,O,O,⟨by decide,by decide⟩,_,_,O,O,XF,B,_,_,_,_,_,O,Al,Jr _ (by decide),λp f x y u v g s3 e rd=>?_⟩;refine q p f ((x,y,u,v),g) ((Ao o _).trans s3) e ⟨rd.sz ⟨J,t _,t _,D _⟩,rd.amt,?_⟩;have:=rd.le;have:=Ky (m / 11) XF;show g<=40;lia
theorem X8f(F:Ab K "_law_board_by" (top 92) .none)(X:K.In h)(G:Ng h mg)(B:Bs mg)(c9:Ai P w K mg base k "_law_cell_at" ["_law_script","_law_k"] (Jq K))(dC:Ai P w K mg base k "_law_amount_by" ["_law_cell","_law_k"] w6):Ai P w K mg base (k+1) "_law_board_by" ["_law_script","_law_cells"] (uR K):=by
 refine F.cal X G ["_law_script","_law_cells","_law_board"] λnd H vs Q E A h=>?_;obtain⟨y,ns,c,rfl,R,c1,c6,kq⟩:=h;have M:=Dr c6;have p0:0<2^c:=Cv c;have J:(1:Int)*2^((c:Int).toNat)=((2^c:Nat):Int):=ipow c;have hM:(1*2^((c:Int).toNat):Int).toNat=2^c:=by rw[J,Dm]
 refine⟨_,(@Av _ _ _ _ _ (Td (i:=2) rfl nd rfl rfl (Bl.of (Nc:=["_law_k","_law_script"]) (mp:=[none,some 0]) (by kernel_rfl)) (J3 rfl B.range (Aa (Af Ft Ac (pv 1)) Ae)) (λ_ _ _ _=>(CV (i:=0) (show (["_law_k","_law_script"]:W5).Nodup by decide +kernel) rfl (Or.inl rfl))) (λ_ _ _ _=>(Ay dC A rfl (Aa (Ay c9 A rfl (Aa (pv 1) (Aa (Af Dn Ac (Af Dp (pv 0) Ac)) Ae))) (Aa (pv 0) Ae)))) rfl)
  (@Dv _ _ _ _ _ (B_ (Fo (Dd (CG (QT rfl) rfl B.any PB (Aa (HY rfl (Bl.of (Nc:=["_law_one"]) (mp:=[none]) (by kernel_rfl)) (GC (pv 2)) (λ_ _ _ _=>(CV (i:=0) (show (["_law_one"]:W5).Nodup by decide +kernel) rfl (Or.inl rfl))) (λ_ _ _ _=>(Fv (X7 A.units) (pv 0) (@Ci _ _ _ _ _ (Aa Ac (Aa Ac (Aa Ac (Aa Ac (Aa Ac Ae)))))) (Ad _)))) Ae))))
   (@Aj _ _ _ (TV (@Ci _ _ _ _ _ (Aa Ac (Aa Ac (Aa Ac (Aa Ac (Aa Ac Ae)))))) (bO (pv 2) (Af Dp (Ay c9 A rfl (Aa (pv 0) (Aa Ac Ae))) (CG Eh rfl B.len EY (Aa (pv 2) Ae))) aF)))
   CJ)
  (@Aj _ _ _ (BJ (pv 2))))),?_⟩
 try dsimp only[CN]
 refine⟨_,O,_,_,O,O,⟨1,GJ,by lia,by lia⟩,_,O,by rw[J];lia,by rw[J];lia,λacc b=>?_⟩;rw[hM];refine VR (n:=2^c) (fr:=[some (.ref y)]) (λi ys H'=>∃(a:U5) (g:Nat->A5),Same H H'/\H' acc=some (.lst ys)/\ys=a.map V.ref/\a.length=i/\Bg K H' a g/\∀j,j<i->FN 102 40 (g j)) (Dz M)
  ⟨[],λ_=>((0,0,0,0),0),Ao b _,Al,O,O,(λ_ _ z=>by cases z),λj q=>absurd q (NP _)⟩ ?_ ?_
 ·rintro i ys H2 N hi S ⟨a,g,v,o,rfl,e,v2,I⟩ L;refine⟨_,O,_,O,_,_,O,O,Zm,_,_,O,O,y,ns,1+(0+(i:Int))%8,O,v.seq R,by lia,_,O,cell ns (1+(0+(i:Int))%8),i,(by rw[KJ];rfl),by lia,λp r x s3 U ox=>?_⟩;refine L (.ref p) r (s3 _ _ o) ⟨a++[p],λj=>if j=a.length then x else g j,Dy (v.trans s3) b,Al,by rw[Cg];rfl,by simp[e],JQ (J4 v2 s3 (CZ.of U)) (s3 _ _ o),λj q=>?_⟩;show FN 102 40 (if j=a.length then x else g j);split
  ·exact ox
  ·exact I j (by lia)
 ·rintro ys H2 S ⟨a,g,v,o,rfl,e,v2,I⟩;have B2:Bu K H2 acc a g c 102 40:=⟨o,e,v2,λi hi=>I i hi⟩;refine⟨λσ H'=>∃(ps:U5) (f:Nat->A5),Same H H'/\Bu K H' acc ps f c 102 40/\MJ f c/\σ=[some (.ref y),some (.int c),some (.ref acc)],?_,?_⟩
  ·refine⟨_,O,acc,O,⟨_,Ag.of o⟩,λD s=>qW (fr:=[]) o (by rw[e];exact M) v2 s (λp x r N hp L=>⟨_,O,t5,λt C=>⟨p,t,l5 x,[0,0,0,0,0],O,O,hp.same (Ao C _),Ax.of Al,L t C⟩⟩) λr u T=>?_⟩;refine⟨D,_,O,Ag.of T,_,O,?_⟩;have d:=B2.same u;have l:=v.trans u;cases hb:((List.range a.length).map λj=>!decide (l5 (g j)=[0,0,0,0,0])).any id with
   | true =>
    rw[e]at hb;exact Bd ⟨a,g,l,d,AskedN.iff.mp hb,O⟩
   | false =>
    refine Ds ⟨t5,λt C=>?_⟩;have s4:=Ao C (tA ((1,0,0,0),0));obtain⟨j,q,Y⟩:=d.mod (cell ns 1);have W:(0:Int)<((a.map V.ref).length:Nat):=by rw[A_,e];lia
    refine⟨_,O,_,O,y,ns,1,O,(l.trans s4).seq R,by decide,_,O,acc,_,O,.inl (Ag.of (s4 _ _ d.lst)),_,_,O,O,W,acc,_,_,j,O,O,s4 _ _ d.lst,(by rw[Y,A_,e];exact Zu q),?_⟩;have Z:=(d.same s4).put (j:=j) (x:=((1,0,0,0),0)) (CZ.of Al) ((Pq (m:=40)).mono (by decide) (by decide));exact⟨_,_,Dy (l.trans s4) b,Z,X9a q (by decide),O⟩
  rintro σ r ⟨ps,f,u,d,hl,rfl⟩;exact⟨_,O,kq acc r ps f u d hl⟩
theorem X3l(F:Ab K "_law_great" (top 93) .none)(X:K.In h)(G:Ng h mg)(B:Bs mg):Ai P w K mg base (k+1) "_law_great" [] vX:=by
 refine F.cal X G ["_law_found","_law_k"] λc H vs Q E d h=>?_;obtain⟨rfl,q⟩:=h;have a:Sz 200 ((10:Int)^(60:Int).toNat):=by decide +kernel
 refine⟨_,(@Av _ _ _ _ _ (@BR _ _ 0 _ _ _ _ c rfl (Or.inl rfl) Ac rfl (.inl rfl))
  (@Av _ _ _ _ _ (Hy PassesOwn.never rfl (J3 rfl B.range (Aa Ac Ae)) (CV (i:=1) c rfl (Or.inl rfl))
   (@Aj _ _ _ (@BR _ _ 0 _ _ _ _ c rfl (Or.inl rfl) (Af JN (pv 0) (Af bL Ac Ac)) rfl (.inl rfl))))
  (@Aj _ _ _ (BJ (Af Dn (pv 0) Ac))))),?_⟩
 try dsimp only[CN]
 refine⟨15,O,by decide,by decide,Tf (n:=15) (λi σ H'=>H'=H/\∃(x:Int) (v:Option V),Sz (200*i+1) x/\(0<i->x%2=0)/\σ=[some (.int x),v]) ⟨O,1,none,GJ,λz=>absurd z (OJ 0),O⟩ ?_ ?_⟩
 ·rintro i σ H' hi ⟨rfl,x,v,b,ev,rfl⟩;refine⟨_,O,_,_,O,O,⟨by decide,by decide,by decide⟩,_,_,O,O,⟨200*i+1,200,b,a,by lia⟩,O,x*10^(60:Int).toNat,_,(b.mul a).mono (by lia),λ_=>?_,O⟩;have e:(10:Int)^(60:Int).toNat=2*(5*10^59):=by decide +kernel
  rw[e,<-Ue,Rj x 2,Ue];lia
 ·rintro σ H' ⟨rfl,x,v,b,ev,rfl⟩;refine⟨_,O,_,_,O,O,q (x+1) ((b.add GJ).mono (by decide)) ?_⟩;have:=ev (by decide);lia
theorem X3g(F:Ab K "_law_laid" (top 98) .none)(X:K.In h)(G:Ng h mg)(B:Bs mg)(cZ:Ai P w K mg base k "_law_spin" ["_law_one","_law_k"] (p8 K))(cJ:Ai P w K mg base k "_law_ones" ["_law_number"] Cy):Ai P w K mg base (k+1) "_law_laid" ["_law_board","_law_mark"] (pY K):=by
 refine F.cal X G ["_law_board","_law_mark","_law_made","_law_word"] λL H vs Q E o h=>?_;obtain⟨l,p,ps,f,c,n,m,q,fl,ms,rfl,a,c6,hp,hf,Y⟩:=h;have p6:=Dr c6;have d:(ps.map V.ref).length=2^c:=by rw[A_,a.len]
 have b:(((ps.map V.ref).length:Nat):Int).toNat=2^c:=by rw[d,Dm]
 refine⟨_,(@Av _ _ _ _ _ (@BR _ _ 2 _ _ _ _ L rfl (Or.inl rfl) (Ow Tp rfl B.list PJ (Aa (pv 0) Ae)) rfl (.inl rfl))
  (@Av _ _ _ _ _ (Hy PassesOwn.never rfl (J3 rfl B.range (Aa (CG Eh rfl B.len EY (Aa (pv 0) Ae)) Ae)) (CV (i:=3) L rfl (Or.inl rfl))
   (@Aj _ _ _ (TV (Ay cZ o rfl (Aa (Aw Eo (pv 0) (pv 3) (λ_ _=>rfl)) (Aa (Af Dn (Af J0 Ac (Aw BL (pv 1) Ac (λ_ _=>rfl))) (Af J0 Ac (Ay cJ o rfl (Aa (Af Di (pv 3) (Aw BL (pv 1) Ac (λ_ _=>rfl))) Ae)))) Ae))) (bO (pv 2) (Af JL (pv 3) (Aw BL (pv 1) Ac (λ_ _=>rfl))) aF))))
  (@Aj _ _ _ (BJ (pv 2))))),?_⟩
 try dsimp only[CN]
 refine⟨_,O,l,_,O,.inl (Ag.of a.lst),λr o=>?_⟩;have u:=Ao o (.lst (ps.map V.ref));have D:Bu K (upd H r (.lst (ps.map V.ref))) r ps f c n m:=⟨Al,a.len,a.vals.same u,a.ok⟩;generalize upd H r (.lst (ps.map V.ref))=H1 at u D ⊢;refine⟨_,O,l,_,O,.inl (Ag.of (u _ _ a.lst)),_,O,by rw[d];lia,by rw[d];lia,Tf (n:=(((ps.map V.ref).length:Nat):Int).toNat) (λi σ H'=>∃(s:U5) (v:Option V),Same H H'/\Bu K H' r s (λv=>if v^^^fl<i then layW (q,fl,ms) f v else f v) c n m/\σ=[some (.ref l),some (.ref p),some (.ref r),v]) ⟨ps,none,u,D.congr λi _=>by rw[if_neg (NP _)],O⟩ ?_ ?_⟩
 ·rintro i σ H2 hi ⟨s,v,g,x,rfl⟩;rw[b]at hi;obtain⟨R,Z,N,U⟩:=(a.same g).at hi;have I:Ax K H2 p [.int q,.int fl,.int ms]:=g.tup hp;refine⟨_,O,_,O,l,_,_,_,O,O,Ag.of (g _ _ a.lst),(by rw[KJ];exact U),_,O,p,_,_,_,O,O,I,O,_,_,O,O,.inl ⟨by decide,by decide⟩,_,O,_,O,p,_,_,_,O,O,I,O,_,_,O,O,i&&&ms,(by rw[KJ];exact Oe _ _),_,_,O,O,.inl ⟨by decide,by decide⟩,_,_,O,O,R,f i,_,O,N,λt S s3 M=>?_⟩;have C:=g.trans s3;have y:=x.same s3;have T:i^^^fl<2^c:=zu hi hf;have A:Ax K S p [.int q,.int fl,.int ms]:=C.tup hp
  refine⟨_,O,_,O,_,O,p,_,_,_,O,O,A,O,_,_,O,O,r,_,_,i^^^fl,O,O,y.lst,(by
   show Nm (s.map V.ref).length (Builtin.bitXor (0+(i:Int)) fl)=_
   rw[KJ,Ko,A_,y.len]
   exact Zu T),?_⟩
  have W:=y.put (j:=i^^^fl) (CZ.of M) (bJ (v:=(f i).1) (h:=(f i).2) (a.ok i hi) _);refine⟨_,_,Dy C o,W.congr λv J=>?_,O⟩;show (if v=i^^^fl then D_ (f i) (2*(q:Int)+4*((pc (i&&&ms):Nat):Int)) else if v^^^fl<i then layW (q,fl,ms) f v else f v)=if v^^^fl<i+1 then layW (q,fl,ms) f v else f v;by_cases e:v=i^^^fl
  ·subst e;rw[if_pos rfl,cj,if_pos (Oa i)];show _=D_ (f ((i^^^fl)^^^fl)) ((2*q+4*pc (((i^^^fl)^^^fl)&&&ms):Nat):Int);rw[cj];congr 1
  ·have ne:v^^^fl≠i:=λz=>e (by rw[<-z,cj]);rw[if_neg e];by_cases e2:v^^^fl<i
   ·rw[if_pos e2,if_pos (by lia)]
   ·rw[if_neg e2,if_neg (by lia)]
 ·rintro σ H2 ⟨s,v,g,x,rfl⟩;rw[b]at x;exact⟨_,O,Y r H2 s o g (x.congr λv J=>if_pos (zu J hf))⟩
theorem X7z(F:Ab K "_law_is_board" (top 99) .none)(X:K.In h)(G:Ng h mg)(B:Bs mg)(dX:Ai P w K mg base k "_law_whole" ["_law_found"] QM)(cQ:Ai P w K mg base k "_law_lowest" ["_law_parts","_law_h"] Mg):Ai P w K mg base (k+1) "_law_is_board" ["_law_found","_law_many"] (Jl K):=by
 refine F.cal X G ["_law_found","_law_many","_law_one"] λnd H vs Q E D h=>?_;obtain⟨l,ps,g,c,n,m,i,rfl,W,j,c6,Lk,kq⟩:=h;have p6:=Dr c6;have L:Ag K H l (ps.map V.ref):=Ag.of j.lst
 refine⟨_,(@Av _ _ _ _ _ (B_ (PW.pt (HJ (Fo (Dd (CG Ox rfl B.isinstance Gy (Aa (pv 0) (Aa (K6 (v:=.ty "list") rfl B.list PJ rfl) Ae))))) (Je (CP Jc (CG Eh rfl B.len EY (Aa (pv 0) Ae)) (pv 1) (Ad _)))))
   (@Aj _ _ _ (BJ Cw))
   CJ)
  (@Av _ _ _ _ _ (Hy PassesOwn.never rfl (GC (pv 0)) (CV (i:=2) nd rfl (Or.inl rfl))
   (@Av _ _ _ _ _ (B_ (PW.pt (HJ (Fo (Dd (CG Ar.oU rfl B.isinstance Gy (Aa (pv 2) (Aa (K6 (v:=.ty "tuple") rfl B.tuple boot_tuple rfl) Ae))))) (HJ (CP Jc (CG Eh rfl B.len EY (Aa (pv 2) Ae)) Ac (Ad _)) (Je (Fo (Dd (CG (YF rfl) rfl B.all Xe (Aa (HY rfl (Bl.of (Nc:=["_law_part"]) (mp:=[none]) (by kernel_rfl)) (bQ (pv 2)) (λ_ _ _ _=>(CV (i:=0) (show (["_law_part"]:W5).Nodup by decide +kernel) rfl (Or.inl rfl))) (λ_ _ _ _=>(Ay dX D rfl (Aa (pv 0) Ae)))) Ae))))))))
    (@Aj _ _ _ (BJ Cw))
    CJ)
   (@Aj _ _ _ (B_ (PW.pt (HJ (CP Og (Aw BL (pv 2) Ac (λ_ _=>rfl)) Ac (Ad _)) (Je (CP (vK D.units) (Ay cQ D rfl (Aa (Ow Tp rfl B.list PJ (Aa (Nv bV (pv 2) Lx (K7 Ac)) Ae)) (Aa (Aw BL (pv 2) Ac (λ_ _=>rfl)) Ae))) (pv 2) (Ad _)))))
    (@Aj _ _ _ (BJ Cw))
    CJ))))
  (@Aj _ _ _ (BJ (CG (QT rfl) rfl B.any PB (Aa (HY rfl (Bl.of (Nc:=["_law_one"]) (mp:=[none]) (by kernel_rfl)) (GC (pv 0)) (λ_ _ _ _=>(CV (i:=0) (show (["_law_one"]:W5).Nodup by decide +kernel) rfl (Or.inl rfl))) (λ_ _ _ _=>(Fv (X7 D.units) (pv 0) (@Ci _ _ _ _ _ (Aa Ac (Aa Ac (Aa Ac (Aa Ac (Aa Ac Ae)))))) (Ad _)))) Ae)))))),?_⟩
 try dsimp only[CN]
 refine⟨_,O,_,_,_,true,O,DP.lst j.lst,qu K,_,O,Bd ⟨_,O,l,_,O,.inl L,_,O,O,_,O,Kh (λz=>absurd (by rw[A_,j.len,W]) z) (λ_=>?_)⟩⟩;refine⟨_,O,l,O,⟨_,L⟩,Ly (K:=K) (a:=l) (xs:=ps.map V.ref) (λi σ H'=>Same H H'/\∃v,σ=[some (.ref l),some (.int ((2^c:Nat):Int)),v]) ⟨Same.refl _,none,by rw[<-W];rfl⟩ (λi σ H' _ e=>e.1.seq L) ?_ ?_⟩
 ·rintro i x σ H1 U ⟨A,v,rfl⟩;rw[Cz]at U;obtain⟨p,hp,rfl⟩:=Fz.mp U;have il:i<2^c:=by rw[<-j.len];exact(Fq.mp hp).1
  have M:=(j.vals i p hp).same A;have ok:=j.ok i il;revert M ok;generalize g i=y;obtain⟨⟨a,b,cc,d⟩,h⟩:=y;intro M ok;have Z:0<=h:=ok.amt.nn;have SP:Ax K H1 p [.int a,.int b,.int cc,.int d,.int h]:=M;refine⟨_,O,p,_,O,SP,_,O,Bd ⟨_,O,p,_,O,.inr SP,O,_,O,Kh (λz=>absurd rfl z) (λ_=>?_)⟩⟩;refine⟨_,O,p,O,⟨_,SP⟩,λacc f=>?_⟩;refine Xv (K:=K) (ns:=[a,b,cc,d,h]) (λ_=>.bl true) SP (Dz (show 5<=64 by decide)) f (λn H2 N hn s S=>⟨_,O,n,O,S⟩) (λH2 s R=>?_);refine⟨acc,[true,true,true,true,true],O,Ag.of R,_,O,Bd ?_⟩;have o:=s.tup SP;refine⟨_,O,p,_,_,_,O,O,o,O,_,_,O,O,_,O,BP (λz=>absurd Z (by lia)) (λ_=>?_)⟩;refine⟨_,O,_,O,p,_,O,o,(λz=>absurd z.2 (show ¬ (4:Nat)=5 by decide)),λt I=>?_⟩;have s3:=Ao I (.tup (FT [V.int a,.int b,.int cc,.int d,.int h] none (some 4)));refine⟨t,_,O,.inr (Ax.of Al),λu hu=>?_⟩;have s4:=Ao hu (.lst (FT [V.int a,.int b,.int cc,.int d,.int h] none (some 4)));have q:=(s.trans s3).trans s4;refine⟨_,O,p,_,_,_,O,O,q.tup SP,O,u,a,b,cc,d,h,O,Al,Z,λr H5 x' y' z' u' v' S5 T Y=>?_⟩;obtain⟨rfl,rfl,rfl,rfl,rfl⟩:=ok.amt.unique Y.amt Y.same;have C:=q.trans S5;refine⟨_,O,r,p,[a,b,cc,d,h],[a,b,cc,d,h],O,O,Ax.of T,C.tup SP,_,O,?_⟩;rw[Ec rfl];exact Bd ⟨A.trans C,_,O⟩
 ·rintro σ H1 ⟨A,v,rfl⟩;have J:=j.same A;refine⟨_,O,l,O,⟨_,Ag.of J.lst⟩,λacc f=>qW (fr:=[]) J.lst (by rw[j.len];exact p6) J.vals f (λp x H2 N hp S=>⟨_,O,t5,λt I=>⟨p,t,l5 x,[0,0,0,0,0],O,O,hp.same (Ao I _),Ax.of Al,S t I⟩⟩) λH2 s R=>?_⟩;refine⟨acc,_,O,Ag.of R,?_⟩;rw[j.len,AskedN.iff.mpr Lk];exact kq _ (A.trans s)
end
end Ah
namespace Ar
open L2 Am Pc Ba
noncomputable def Bc (F:Nat->Int):Nat->Int
 | 0=>0
 | n+1=>Bc F n+F n
theorem Tn{F G:Nat->Int}:∀{n},(∀i,i<n->F i=G i)->Bc F n=Bc G n
 | 0,_=>rfl
 | n+1,h=>by
  show Bc F n+F n=Bc G n+G n;rw[Tn λi hi=>h i (by lia),h n (by lia)]
theorem YB{F G:Nat->Int}:∀n,Bc (λi=>F i+G i) n=Bc F n+Bc G n
 | 0=>rfl
 | n+1=>by
  show Bc (λi=>F i+G i) n+(F n+G n)=(Bc F n+F n)+(Bc G n+G n);rw[YB n];lia
theorem n8{F:Nat->Int}{k:Int}:∀n,Bc (λi=>k*F i) n=k*Bc F n
 | 0=>by show (0:Int)=k*0;rw[Int.mul_zero]
 | n+1=>by
  show Bc (λi=>k*F i) n+k*F n=k*(Bc F n+F n);rw[n8 n,Int.mul_add]
noncomputable def lsum (F:Nat->Int):List Nat->Int
 | []=>0
 | a::l=>F a+lsum F l
variable{F:Nat->Int}
theorem Y9w{l l':W8}(h:l.Perm l'):lsum F l=lsum F l':=by
 induction h with
 | nil=>rfl
 | cons x _ ih=>show F x+_=F x+_;rw[ih]
 | swap x y l=>show F y+(F x+lsum F l)=F x+(F y+lsum F l);lia
 | trans _ _ a b=>exact a.trans b
theorem wR{F:Nat->Int}:∀l l',lsum F (l++l')=lsum F l+lsum F l'
 | [],l'=>by show lsum F l'=0+lsum F l';lia
 | a::l,l'=>by
  show F a+lsum F (l++l')=F a+lsum F l+lsum F l';rw[wR l l'];lia
theorem oR{F:Nat->Int}:∀n,Bc F n=lsum F (List.range n)
 | 0=>rfl
 | n+1=>by
  rw[Qv,wR,<-oR n];show Bc F n+F n=Bc F n+(F n+0);lia
theorem wU{F:Nat->Int}{t:Nat->Nat}:∀l,lsum (λi=>F (t i)) l=lsum F (l.map t)
 | []=>rfl
 | a::l=>by
  show F (t a)+_=F (t a)+_;rw[wU l]
theorem um{t:Nat->Nat}:∀{l:W8},(∀a∈l,∀b∈l,t a=t b->a=b)->l.Nodup->(l.map t).Nodup
 | [],_,_=>List.nodup_nil
 | a::l,h,d=>by
  rw[Gh,Qu];have d':=Qu.mp d;refine⟨λg=>?_,um (λx c y f=>h x (.tail _ c) y (.tail _ f)) d'.2⟩;obtain⟨b,hb,e⟩:=GP.mp g;have:=h b (.tail _ hb) a (.head _) e;subst this;exact d'.1 hb
variable{n:Nat}{t:Nat->Nat}
theorem X2r(h1:∀i,i<n->t i<n)(h2:∀i,i<n->t (t i)=i):((List.range n).map t).Perm (List.range n):=by
 rw[List.perm_iff_count];intro a;have d:(List.range n).Nodup:=List.nodup_range
 have d2:((List.range n).map t).Nodup:=um (λx f y g e=>by
  have:=h2 x (El.mp f)
  rw[e,h2 y (El.mp g)]at this
  exact this.symm) d
 rw[d.count,d2.count];have:a∈(List.range n).map t↔a∈List.range n:=by
  rw[GP,El];constructor
  ·rintro ⟨b,hb,rfl⟩;exact h1 b (El.mp hb)
  ·intro c;exact⟨t a,El.mpr (h1 a c),h2 a c⟩
 by_cases q:a∈List.range n
 ·rw[if_pos (this.mpr q),if_pos q]
 ·rw[if_neg (λz=>q (this.mp z)),if_neg q]
theorem Vd(h1:∀i,i<n->t i<n)(h2:∀i,i<n->t (t i)=i):Bc (λi=>F (t i)) n=Bc F n:=by
 rw[oR,oR,wU];exact Y9w (X2r h1 h2)
noncomputable def Bq (x:A5)(M:Int):Int:=va x M*va x M+vb x M*vb x M+vc x M*vc x M+vd x M*vd x M
noncomputable def Az (x:A5)(M:Int):Int:=va x M*vb x M+vb x M*vc x M+vc x M*vd x M-vd x M*va x M
variable{M:Int}
theorem zM{v:Int×Int×Int×Int}{h:Int}:Bq ((-v.2.2.2,v.1,v.2.1,v.2.2.1),h) M=Bq (v,h) M/\Az ((-v.2.2.2,v.1,v.2.1,v.2.2.1),h) M=Az (v,h) M:=by
 unfold Bq Az va vb vc vd;simp only;constructor<;>grind
theorem qX{v:Int×Int×Int×Int}{h M:Int}:∀j,Bq (Ba.Dl j v,h) M=Bq (v,h) M/\Az (Ba.Dl j v,h) M=Az (v,h) M
 | 0=>⟨rfl,rfl⟩
 | j+1=>⟨(zM (v:=Ba.Dl j v)).1.trans (qX j).1,(zM (v:=Ba.Dl j v)).2.trans (qX j).2⟩
variable{x:A5}
theorem Nj{k:Int}:Bq (Ba.D_ x k) M=Bq x M/\Az (Ba.D_ x k) M=Az x M:=qX _
theorem Pr(l:x.2<=M):Bq x (M+1)=4*Bq x M/\Az x (M+1)=4*Az x M:=by
 have e:p2 (M+1-x.2)=2*p2 (M-x.2):=by
  rw[show M+1-x.2=(M-x.2)+1 by lia,VB (by lia) (by decide),show p2 1=2 from rfl,Rj]
 unfold Bq Az va vb vc vd;rw[e];constructor<;>grind
theorem W2c{y z0 z1:A5}(m0:Mix 1 x y z0)(m1:Mix (-1) x y z1)(x0:0<=x.2)(y0:0<=y.2):∃M0,∀M,M0<=M->Bq z0 M+Bq z1 M=Bq x M+Bq y M/\Az z0 M+Az z1 M=Az x M+Az y M:=by
 obtain⟨e,h1⟩:=m0.vals x0 y0;obtain⟨k,h2⟩:=m1.vals x0 y0;refine⟨max e 0+max k 0+x.2+y.2+1,λN o=>?_⟩;obtain⟨M,rfl⟩:∃M,N=M+1:=⟨N-1,by lia⟩;obtain⟨g,j,a,l⟩:=h1 M (by lia);obtain⟨c,d,b,m⟩:=h2 M (by lia);obtain⟨i,f⟩:=Pr (x:=x) (M:=M) (by lia);obtain⟨n,h⟩:=Pr (x:=y) (M:=M) (by lia);rw[i,f,n,h];unfold Bq Az;rw[g,j,a,l,c,d,b,m];constructor<;>grind
def Qc (c:Nat)(f g:Nat->A5)(M:Int):Prop:=Bc (λw=>Bq (f w) M) (2^c)=Bc (λw=>Bq (g w) M) (2^c)/\Bc (λw=>Az (f w) M) (2^c)=Bc (λw=>Az (g w) M) (2^c)
def Hf (c:Nat)(f g:Nat->A5):Prop:=∃M0,∀M,M0<=M->Qc c f g M
theorem xq{p:Nat->Int->Prop}:∀n:Nat,(∀w,w<n->∃M0,∀M,M0<=M->p w M)->∃M0:Int,∀M,M0<=M->∀w,w<n->p w M
 | 0,_=>⟨0,λ_ _ w a=>absurd a (NP _)⟩
 | n+1,h=>by
  obtain⟨A,b⟩:=xq n λw a=>h w (by lia);obtain⟨B,hb⟩:=h n (by lia);refine⟨max A B,λM c w a=>?_⟩;by_cases e:w=n
  ·subst e;exact hb M (by lia)
  ·exact b M (by lia) w (by lia)
variable{f g:Nat->A5}
theorem Step.hf{c:Nat}{m:Gm}(hc:c<=6)(ok:m.Ok c)(af:Fw c f)(s:Step c m f g):Hf c g f:=by
 cases m with
 | mv v =>
  have s':∀w,w<2^c->g w=D_ (f (v.to w)) (v.sp w:Nat):=s;refine⟨0,λM _=>⟨?_,?_⟩⟩
  ·rw[Tn (G:=λw=>Bq (f (v.to w)) M) λi hi=>by rw[s' i hi];exact Nj.1];exact Vd (F:=λw=>Bq (f w) M) (t:=λw=>v.to w) (λi hi=>Mv.to_lt hc ok hi) (λi hi=>Mv.to_to hc ok hi)
  ·rw[Tn (G:=λw=>Az (f (v.to w)) M) λi hi=>by rw[s' i hi];exact Nj.2];exact Vd (F:=λw=>Az (f w) M) (t:=λw=>v.to w) (λi hi=>Mv.to_lt hc ok hi) (λi hi=>Mv.to_to hc ok hi)
 | mix a =>
  have ok:a<c:=ok;have s':∀w,w<2^c->Cu f a w (g w):=s;let t:Nat->Nat:=λw=>if w / 2^a%2=0 then w+2^a else w-2^a;have n:∀i,i<2^c->t i<2^c:=λi hi=>by
   show (if i / 2^a%2=0 then i+2^a else i-2^a)<2^c;by_cases hb:i / 2^a%2=0
   ·rw[if_pos hb];exact(YW hc ok hi hb).2.2.1
   ·rw[if_neg hb];exact Ob (Wi _ _) hi
  have t2:∀i,i<2^c->t (t i)=i:=λi hi=>by
   show (if (if i / 2^a%2=0 then i+2^a else i-2^a) / 2^a%2=0 then (if i / 2^a%2=0 then i+2^a else i-2^a)+2^a else (if i / 2^a%2=0 then i+2^a else i-2^a)-2^a)=i;by_cases hb:i / 2^a%2=0
   ·obtain⟨_,_,l2,l⟩:=YW hc ok hi hb;rw[if_pos hb,if_neg (by lia),Wz]
   ·obtain⟨_,_,l2,l⟩:=ou hc ok hi hb;rw[if_neg hb,if_pos l,jF l2]
  have o:∀w,w<2^c->∃k,∀M,k<=M->Bq (g w) M+Bq (g (t w)) M=Bq (f w) M+Bq (f (t w)) M/\Az (g w) M+Az (g (t w)) M=Az (f w) M+Az (f (t w)) M:=λw b=>by
   by_cases hb:w / 2^a%2=0
   ·obtain⟨_,_,l2,l⟩:=YW hc ok b hb;have j:=s' w b;have d:=s' (w+2^a) l2;unfold Cu at j d;rw[if_pos hb]at j;rw[if_neg (by lia),Wz]at d;have e:t w=w+2^a:=if_pos hb;rw[e];exact W2c j d (af _ b).nn (af _ l2).nn
   ·obtain⟨_,_,l2,l⟩:=ou hc ok b hb;have q:w-2^a<2^c:=Ob (Wi _ _) b;have j:=s' (w-2^a) q;have d:=s' w b;unfold Cu at j d;rw[if_pos l,jF l2]at j;rw[if_neg hb]at d;have e:t w=w-2^a:=if_neg hb;rw[e];obtain⟨k,h⟩:=W2c j d (af _ q).nn (af _ b).nn;refine⟨k,λM p=>?_⟩;have:=h M p;lia
  obtain⟨k,h⟩:=xq _ o;refine⟨k,λM p=>?_⟩;have H:=h M p;have r:=Tn (F:=λw=>Bq (g w) M+Bq (g (t w)) M) (G:=λw=>Bq (f w) M+Bq (f (t w)) M) λw b=>(H w b).1;have u:=Tn (F:=λw=>Az (g w) M+Az (g (t w)) M) (G:=λw=>Az (f w) M+Az (f (t w)) M) λw b=>(H w b).2;rw[YB,YB,Vd (F:=λw=>Bq (g w) M) n t2,Vd (F:=λw=>Bq (f w) M) n t2]at r;rw[YB,YB,Vd (F:=λw=>Az (g w) M) n t2,Vd (F:=λw=>Az (f w) M) n t2]at u;exact⟨by lia,by lia⟩
theorem Steps.hf{c:Nat}(hc:c<=6):∀{ms:List Gm}{f g:Nat->A5},(∀m∈ms,m.Ok c)->Fw c f->Steps c ms f g->Hf c g f
 | [],f,g,_,_,a=>by
  cases a;exact⟨0,λ_ _=>⟨O,O⟩⟩
 | m::ms,f,g,ok,af,.cons a a'=>by
  have b:=ok m (.head _);obtain⟨A,e⟩:=a.hf hc b af;obtain⟨B,hb⟩:=Steps.hf hc (λx d=>ok x (.tail _ d)) (a.ams hc b af) a';refine⟨max A B,λM h=>?_⟩;have u:=e M (by lia);have v:=hb M (by lia);exact⟨v.1.trans u.1,v.2.trans u.2⟩
theorem vo(h:∀w,w<n->(f w).2<=M):Bc (λw=>Bq (f w) (M+1)) n=4*Bc (λw=>Bq (f w) M) n/\Bc (λw=>Az (f w) (M+1)) n=4*Bc (λw=>Az (f w) M) n:=by
 rw[<-n8,<-n8];exact⟨Tn λi hi=>(Pr (h i hi)).1,Tn λi hi=>(Pr (h i hi)).2⟩
theorem X0p{c:Nat}{f g:Nat->A5}{M:Int}(h1:∀w,w<2^c->(f w).2<=M)(h2:∀w,w<2^c->(g w).2<=M):∀k:Nat,Qc c f g (M+k)->Qc c f g M
 | 0,h=>by
  have e:M+((0:Nat):Int)=M:=by lia
  rw[e]at h;exact h
 | k+1,h=>by
  have e:M+((k+1:Nat):Int)=(M+k)+1:=by lia
  rw[e]at h;obtain⟨a,b⟩:=h;have u:=vo (f:=f) (n:=2^c) (M:=M+k) λw d=>by have:=h1 w d;lia
  have v:=vo (f:=g) (n:=2^c) (M:=M+k) λw d=>by have:=h2 w d;lia
  rw[u.1,v.1]at a;rw[u.2,v.2]at b;exact X0p h1 h2 k ⟨by lia,by lia⟩
theorem Hf.at{c:Nat}(h:Hf c f g)(h1:∀w,w<2^c->(f w).2<=M)(h2:∀w,w<2^c->(g w).2<=M):Qc c f g M:=by
 obtain⟨a,h⟩:=h;exact X0p h1 h2 (a-M).toNat (h _ (by lia))
end Ar
namespace Ah
open L2 Ba Am Pc Dj
open Ar (top Bs Bu CZ Bg Fw Steps va vb vc vd Bc Bq Az)
theorem W3v{k:Int}(h:0<=k):(1:Int)*2^(2*k).toNat=p2 k*p2 k:=by
 have:(1:Int)*2^(2*k).toNat=p2 (2*k):=N8 _;rw[this,show 2*k=k+k by lia,VB h h]
theorem X8h{a b c d h M:Int}(l:h<=M):(1*2^(2*(M-h)).toNat)*(a*a+b*b+c*c+d*d)=Bq ((a,b,c,d),h) M:=by
 rw[W3v (by lia)];unfold Bq va vb vc vd;simp only;grind
theorem X3r{a b c d h M:Int}(l:h<=M):(1*2^(2*(M-h)).toNat)*(a*b+b*c+c*d-d*a)=Az ((a,b,c,d),h) M:=by
 rw[W3v (by lia)];unfold Az va vb vc vd;simp only;grind
theorem bh(n:Nat):Sz (n+1) ((2:Int)^n):=by
 unfold Sz;rw[iQ];exact Kg (by decide) (Oa n)
def HfE (f g:Nat->A5)(c d:Nat):Prop:=∀M:Int,(∀w,w<2^c->(f w).2<=M)->(∀w,w<2^d->(g w).2<=M)->Bc (λw=>Bq (f w) M) (2^c)=Bc (λw=>Bq (g w) M) (2^d)/\Bc (λw=>Az (f w) M) (2^c)=Bc (λw=>Az (g w) M) (2^d)
def vY (K:U0):Sp:=λvs H Q _=>∃(l l':Y4) (ps ps':U5) (f g:Nat->A5) (c d n m:Nat),vs=[.ref l,.ref l']/\Bu K H l ps f c n m/\Bu K H l' ps' g d n m/\c<=6/\d<=6/\n<=130000/\m<=1000/\HfE f g c d/\∀H',Same H H'->Q (.bl true) H'
section
variable {P:W3}{w:W6}{K:U0}{mg:U6}{base:Heap}{k:Nat}{h:Heap}
theorem X3k(F:Ab K "_law_hefts_are" (top 100) .none)(X:K.In h)(G:Ng h mg)(B:Bs mg):Ai P w K mg base (k+1) "_law_hefts_are" ["_law_board","_law_other"] (vY K):=by
 refine F.cal X G ["_law_board","_law_other","_law_most","_law_found","_law_some","_law_top","_law_root","_law_a","_law_b","_law_c","_law_d","_law_h","_law_by"] λA H vs Q E hr h=>?_;obtain⟨l,I,ps,r,g,g',c,d,n,m,rfl,BD,C,c6,d6,n1,m1,hf,kq⟩:=h;have p6:=Dr c6;have a3:=Dr d6;have b2:0<2^d:=Cv d;have pp:0<2^c:=Cv c;have L1:=BD.len;have a0:=C.len
 refine⟨_,(@Av _ _ _ _ _ (@BR _ _ 2 _ _ _ _ A rfl (Or.inl rfl) (CG (X1f rfl) rfl B.max boot_max (Aa (HY rfl (Bl.of (Nc:=["_law_one"]) (mp:=[none]) (by kernel_rfl)) (GC (Af Oi (pv 0) (pv 1))) (λ_ _ _ _=>(CV (i:=0) (show (["_law_one"]:W5).Nodup by decide +kernel) rfl (Or.inl rfl))) (λ_ _ _ _=>(Aw VG (pv 0) Ac (λ_ _=>rfl)))) Ae)) rfl (.inl rfl))
  (@Av _ _ _ _ _ (@BR _ _ 3 _ _ _ _ A rfl (Or.inl rfl) (@Ga _ _ _ _ Ae) rfl (.inl rfl))
  (@Av _ _ _ _ _ (Hy PassesOwn.never rfl (GC (@Ga _ _ _ _ (Aa (pv 0) (Aa (pv 1) Ae)))) (CV (i:=4) A rfl (Or.inl rfl))
   (@Av _ _ _ _ _ (@BR _ _ 5 _ _ _ _ A rfl (Or.inl rfl) Ac rfl (.inl rfl))
   (@Av _ _ _ _ _ (@BR _ _ 6 _ _ _ _ A rfl (Or.inl rfl) Ac rfl (.inl rfl))
   (@Av _ _ _ _ _ (Hy PassesOwn.never rfl (GC (pv 4)) (@RD _ _ _ _ _ _ rfl (@GF _ _ _ _ _ (@CV _ _ 7 _ A rfl (Or.inl rfl) (by first | exact .inl rfl | exact .inr rfl)) (@GF _ _ _ _ _ (@CV _ _ 8 _ A rfl (Or.inl rfl) (by first | exact .inl rfl | exact .inr rfl)) (@GF _ _ _ _ _ (@CV _ _ 9 _ A rfl (Or.inl rfl) (by first | exact .inl rfl | exact .inr rfl)) (@GF _ _ _ _ _ (@CV _ _ 10 _ A rfl (Or.inl rfl) (by first | exact .inl rfl | exact .inr rfl)) (@GF _ _ _ _ _ (@CV _ _ 11 _ A rfl (Or.inl rfl) (by first | exact .inl rfl | exact .inr rfl)) RK rfl) rfl) rfl) rfl) rfl) rfl rfl)
    (@Av _ _ _ _ _ (@BR _ _ 12 _ _ _ _ A rfl (Or.inl rfl) (Af Ft Ac (Af J0 Ac (Af Gq (pv 2) (pv 11)))) rfl (.inl rfl))
    (@Av _ _ _ _ _ (@BR _ _ 5 _ _ _ _ A rfl (Or.inl rfl) (Af Dn (pv 5) (Af JN (pv 12) (Af Dn (Af Dn (Af Dn (Af JN (pv 7) (pv 7)) (Af JN (pv 8) (pv 8))) (Af JN (pv 9) (pv 9))) (Af JN (pv 10) (pv 10))))) rfl (.inl rfl))
    (@Aj _ _ _ (@BR _ _ 6 _ _ _ _ A rfl (Or.inl rfl) (Af Dn (pv 6) (Af JN (pv 12) (Af Gq (Af Dn (Af Dn (Af JN (pv 7) (pv 8)) (Af JN (pv 8) (pv 9))) (Af JN (pv 9) (pv 10))) (Af JN (pv 10) (pv 7))))) rfl (.inl rfl))))))
   (@Aj _ _ _ (H_ (QB Pj Rt Ru QV (pv 3) (Aa (@Ci _ _ _ _ _ (Aa (pv 5) (Aa (pv 6) Ae))) Ae))))))))
  (@Aj _ _ _ (BJ (Fv (X7o hr.units) (Aw Eo (pv 3) Ac (λ_ _=>rfl)) (Aw Eo (pv 3) Ac (λ_ _=>rfl)) (Ad _))))))),?_⟩
 try dsimp only[CN]
 refine⟨_,O,_,O,l,I,_,_,O,O,BD.lst,C.lst,by rw[A_,A_,L1,a0];exact Ek (ZK p6 a3) (by decide),λlc b1=>?_⟩;have s0:=Ao b1 (.lst (ps.map V.ref++r.map V.ref));have SC:Ag K (upd H lc (.lst (ps.map V.ref++r.map V.ref))) lc ((ps++r).map V.ref):=by rw[Cg];exact Ag.of Al
 generalize upd H lc (.lst (ps.map V.ref++r.map V.ref))=H1 at *;refine⟨lc,O,⟨_,SC⟩,λacc U=>?_⟩;refine TY (K:=K) (a:=lc) (xs:=(ps++r).map V.ref) (fr:=[]) (λi ys H'=>Same H1 H'/\H' acc=some (.lst ys)/\∃J:List Int,ys=J.map V.int/\J.length=i/\(∀e∈J,e<=m)/\(∀j,j<i->j<2^c->(g j).2∈J)/\(∀j,j<2^d->2^c+j<i->(g' j).2∈J))
  (by rw[A_,Ed,L1,a0];exact Ek (ZK p6 a3) (by decide)) ⟨Ao U _,Al,[],O,O,by simp,λj f=>absurd f (NP _),λj _ f=>absurd f (NP _)⟩ (λi ys H' e=>e.1.seq SC) ?_ ?_
 ·rintro i x ys H2 N v hy ⟨S2,a2,J,rfl,hl,he,h1,h2⟩ kN;rw[Cz]at v;obtain⟨p,hp,rfl⟩:=Fz.mp v;obtain⟨y,py,oy,q1,q2⟩:∃y:A5,CZ K H2 p y/\FN n m y/\(i<2^c->y=g i)/\(∀j,2^c+j=i->y=g' j):=by
   by_cases q:i<2^c
   ·rw[Rv (by lia)]at hp;exact⟨g i,((BD.vals i p hp).same s0).same S2,BD.ok i q,λ_=>rfl,λj f=>absurd f (by lia)⟩
   ·rw[Us (by lia),L1]at hp;have il:i-2^c<2^d:=by have:=(Fq.mp hp).1;lia
    exact⟨g' (i-2^c),((C.vals _ p hp).same s0).same S2,C.ok _ il,λz=>absurd z q,λj f=>by rw[<-f,Nat.add_sub_cancel_left]⟩
  have SP:Ax K H2 p [.int y.1.1,.int y.1.2.1,.int y.1.2.2.1,.int y.1.2.2.2,.int y.2]:=py;refine⟨_,O,p,_,_,_,O,O,SP,O,?_⟩;refine kN _ _ a2 ⟨Dy S2 U,Al,J++[y.2],by rw[Cg];rfl,by simp[hl],λe hm=>?_,λj f hc=>?_,λj hc f=>?_⟩
  ·rcases Ir.mp hm with z | z
   ·exact he e z
   ·rw[Fj.mp z];exact oy.le
  ·by_cases e:j=i
   ·subst e;rw[<-q1 hc];simp
   ·exact Oc _ (h1 j (by lia) hc)
  ·by_cases e:2^c+j=i
   ·rw[<-q2 j e];simp
   ·exact Oc _ (h2 j hc (by lia))
 rintro ys H2 hy ⟨S2,a2,J,rfl,hl,he,h1,h2⟩;have xl:((ps++r).map V.ref).length=2^c+2^d:=by rw[A_,Ed,L1,a0]
 rw[xl]at h1 h2 hl;refine⟨acc,J,O,Ag.of a2,by lia,λM a7 a4=>?_⟩;have Mm:M<=m:=he M a7;have M1:∀w,w<2^c->(g w).2<=M:=λw hw=>a4 _ (h1 w (by lia) hw);have M2:∀w,w<2^d->(g' w).2<=M:=λw hw=>a4 _ (h2 w hw (by lia));have HA:=hf M M1 M2;have a6:=s0.trans S2;refine⟨Dz (by decide),λlt a5=>?_⟩;have s3:=Ao a5 (.lst []);refine⟨_,O,_,O,t2,λlq D=>?_⟩;have s4:=Ao D (.lst [.ref l,.ref I]);have AQ:=Al (H:=upd H2 lt (.lst [])) (a:=lq) (o:=.lst [.ref l,.ref I]);have TQ:=s4 _ _ (Al (H:=H2) (a:=lt) (o:=.lst []));have nq:lq≠lt:=λz=>by rw[z,Al]at D;cases D
 have a9:=s3.trans s4;have a8:H2 lt=none:=a5;clear s3 s4 D;generalize upd (upd H2 lt (.lst [])) lq (.lst [.ref l,.ref I])=H4 at *;let Y:Nat->Nat->A5:=λi=>if i=0 then g else g';let Z:Nat->Nat:=λi=>if i=0 then c else d;have YM:∀i w,w<2^Z i->(Y i w).2<=M:=λi w hw=>by
  by_cases e:i=0
  ·subst e;exact M1 w hw
  ·have e1:Y i=g':=if_neg e;have e2:Z i=d:=if_neg e;rw[e1];rw[e2]at hw;exact M2 w hw
 refine⟨lq,O,⟨_,Ag.of AQ⟩,Ly (K:=K) (a:=lq) (xs:=[.ref l,.ref I]) (λi σ H'=>Same H2 H'/\H' lq=some (.lst [.ref l,.ref I])/\∃ts:List Addr,H' lt=some (.lst (ts.map V.ref))/\ts.length=i/\(∀j a,ts[j]?=some a->H' a=some (.tup [.int (Bc (λw=>Bq (Y j w) M) (2^Z j)),.int (Bc (λw=>Az (Y j w) M) (2^Z j))])) /\
   ∃v4 v5 v6 v7 v8 v9 t s u,σ=[some (.ref l),some (.ref I),some (.int M),some (.ref lt),v4,v5,v6,v7,v8,v9,t,s,u]) ⟨a9,AQ,[],TQ,O,(λj a z=>by cases z),_,_,_,_,_,_,_,_,_,O⟩ (λi σ H' _ e=>Ag.of e.2.1) ?_ ?_⟩
 ·rintro i x σ H5 v ⟨S5,aQ,ts,aT,tl,tv,v4,v5,v6,v7,v8,v9,t,s,u,rfl⟩;have a1:=a6.trans S5;obtain⟨lx,qs,rfl,BX⟩:∃(lx:Y4) (qs:U5),x=.ref lx/\Bu K H5 lx qs (Y i) (Z i) n m:=by
   match i,v with
   | 0,v=>exact⟨l,ps,by simpa using v.symm,BD.same a1⟩
   | 1,v=>exact⟨I,r,by simpa using v.symm,C.same a1⟩
   | j+2,v=>simp at v
  have SX:Ag K H5 lx (qs.map V.ref):=Ag.of BX.lst;have YI:=YM i;generalize hY:Y i=y at *;generalize hZ:Z i=z at *;refine⟨_,O,lx,O,⟨_,SX⟩,Ly (K:=K) (a:=lx) (xs:=qs.map V.ref) (λj σ H'=>H'=H5/\∃v7 v8 v9 t s u,σ=[some (.ref l),some (.ref I),some (.int M),some (.ref lt),some (.ref lx),some (.int (Bc (λw=>Bq (y w) M) j)),some (.int (Bc (λw=>Az (y w) M) j)),v7,v8,v9,t,s,u]) ⟨O,_,_,_,_,_,_,O⟩ (λj σ H' _ e=>by rw[e.1];exact SX) ?_ ?_⟩
  ·rintro j x σ H' v ⟨rfl,v7,v8,v9,t,s,u,rfl⟩;rw[Cz]at v;obtain⟨p,hp,rfl⟩:=Fz.mp v;have jl:j<2^z:=by rw[<-BX.len];exact(Fq.mp hp).1
   have p0:=BX.vals j p hp;have ok:=BX.ok j jl;have yl:=YI j jl;have y0:0<=(y j).2:=ok.amt.nn;have T:=ok.sz.z1;have S:=ok.sz.z2;have L:=ok.sz.z3;have R:=ok.sz.z4;have e1:=X8h (a:=(y j).1.1) (b:=(y j).1.2.1) (c:=(y j).1.2.2.1) (d:=(y j).1.2.2.2) yl;have e2:=X3r (a:=(y j).1.1) (b:=(y j).1.2.1) (c:=(y j).1.2.2.1) (d:=(y j).1.2.2.2) yl;have zy:Sz ((2*(M-(y j).2)).toNat+1) (1*2^(2*(M-(y j).2)).toNat):=by rw[N8];exact bh _
   refine⟨p,_,O,p0,O,_,_,O,_,_,O,_,_,O,_,_,O,_,_,O,O,?_⟩;refine⟨_,O,_,O,_,_,O,O,_,_,O,O,.inl ⟨by decide,by decide⟩,_,_,O,O,⟨1,GJ,by lia,by lia⟩,?_⟩;refine⟨_,O,_,O,_,O,_,O,_,_,O,O,⟨_,_,T,T,by lia⟩,_,O,_,O,_,_,O,O,⟨_,_,S,S,by lia⟩,_,_,O,O,_,O,_,O,_,_,O,O,⟨_,_,L,L,by lia⟩,_,_,O,O,_,O,_,O,_,_,O,O,⟨_,_,R,R,by lia⟩,_,_,O,O,_,_,O,O,⟨_,_,zy,(((T.mul T).add (S.mul S)).add (L.mul L)).add (R.mul R),by lia⟩,_,_,O,O,?_⟩;refine⟨_,O,_,O,_,O,_,O,_,_,O,O,⟨_,_,T,S,by lia⟩,_,O,_,O,_,_,O,O,⟨_,_,S,L,by lia⟩,_,_,O,O,_,O,_,O,_,_,O,O,⟨_,_,L,R,by lia⟩,_,_,O,O,_,O,_,O,_,_,O,O,⟨_,_,R,T,by lia⟩,_,_,O,O,_,_,O,O,⟨_,_,zy,(((T.mul S).add (S.mul L)).add (L.mul R)).sub (R.mul T),by lia⟩,_,_,O,O,?_⟩;have E1:Bc (λw=>Bq (y w) M) (j+1)=Bc (λw=>Bq (y w) M) j+(1*2^(2*(M-(y j).2)).toNat)*((y j).1.1*(y j).1.1+(y j).1.2.1*(y j).1.2.1+(y j).1.2.2.1*(y j).1.2.2.1+(y j).1.2.2.2*(y j).1.2.2.2):=by rw[e1];rfl
   have E2:Bc (λw=>Az (y w) M) (j+1)=Bc (λw=>Az (y w) M) j+(1*2^(2*(M-(y j).2)).toNat)*((y j).1.1*(y j).1.2.1+(y j).1.2.1*(y j).1.2.2.1+(y j).1.2.2.1*(y j).1.2.2.2-(y j).1.2.2.2*(y j).1.1):=by rw[e2];rfl
   refine⟨O,some (.int (y j).1.1),some (.int (y j).1.2.1),some (.int (y j).1.2.2.1),some (.int (y j).1.2.2.2),some (.int (y j).2),some (.int (1*2^(2*(M-(y j).2)).toNat)),?_⟩;rw[E1,E2];rfl
  ·rintro σ H' ⟨rfl,v7,v8,v9,t,s,u,rfl⟩;rw[A_,BX.len];refine⟨_,O,.inl ⟨O,_,Ag.of aT⟩,_,O,_,O,t2,λtt b0=>?_⟩;have s6:=Ao b0 (.tup [.int (Bc (λw=>Bq (y w) M) (2^z)),.int (Bc (λw=>Az (y w) M) (2^z))]);have W:=s6 _ _ aT;refine⟨lt,_,_,O,O,W,(by rw[A_];have:i<2:=(Fq.mp v).1;exact DK (show ts.length<2 by lia) (by decide)),?_⟩;refine⟨Dy (S5.trans s6) a8,(by rw[Cj nq];exact s6 _ _ aQ),ts++[tt],(by rw[Al,Cg];rfl),by simp[tl],λj a f=>?_,_,_,_,_,_,_,_,_,_,O⟩;by_cases e:j<ts.length
   ·rw[Rv e]at f;have c0:=s6 _ _ (tv j a f);rw[Cj (Lw c0 W (by intro z;cases z))];exact c0
   ·rw[Us (by lia)]at f;have ej:j=i:=by
     have:=(Fq.mp f).1;simp at this;lia
    subst ej;rw[tl,Nat.sub_self]at f;have:tt=a:=by simpa using f
    subst this;rw[Cj (Lw (Al) W (by intro z;cases z)),Al,hY,hZ]
 ·rintro σ H5 ⟨S5,aQ,ts,aT,tl,tv,v4,v5,v6,v7,v8,v9,t,s,u,rfl⟩;match ts,tl,aT,tv with
  | [t0,t1],_,aT,tv =>
   have k0:=tv 0 t0 rfl;have k1:=tv 1 t1 rfl;refine⟨_,O,lt,_,_,_,O,O,Ag.of aT,O,_,O,lt,_,_,_,O,O,Ag.of aT,O,t0,t1,[_,_],[_,_],O,O,Ax.of k0,Ax.of k1,?_⟩;have e1:Bc (λw=>Bq (Y 0 w) M) (2^Z 0)=Bc (λw=>Bq (Y 1 w) M) (2^Z 1):=HA.1;have e2:Bc (λw=>Az (Y 0 w) M) (2^Z 0)=Bc (λw=>Az (Y 1 w) M) (2^Z 1):=HA.2;rw[e1,e2];show Q (.bl (decide (_=_))) H5;rw[Ec rfl];exact kq _ (a6.trans S5)
end
end Ah
set_option maxHeartbeats 1000000
namespace Vr
open DW
inductive Sp (bs:W8):Nat->Prop where
 | zero:Sp bs 0
 | add {x b:Nat} (h:Sp bs x) (m:b∈bs):Sp bs (x^^^b)
variable{x:Nat}
theorem Sp.xor{bs:W8}{y:Nat}(h:Sp bs x)(g:Sp bs y):Sp bs (x^^^y):=by
 induction g with
 | zero=>rw[Ld];exact h
 | add _ m ih=>rw[<-GQ];exact .add ih m
variable{b:Nat}
theorem Sp.one{bs:W8}(m:b∈bs):Sp bs b:=by have:=Sp.add (Sp.zero (bs:=bs)) m;rwa [ZG]at this
theorem Sp.up{bs cs:W8}(h:∀b∈bs,Sp cs b)(g:Sp bs x):Sp cs x:=by
 induction g with
 | zero=>exact .zero
 | add _ m ih=>exact ih.xor (h _ m)
def Ap (a b:Nat):Prop:=b.testBit a.log2=false/\a.testBit b.log2=false
def Red (bs:W8):Prop:=bs.Pairwise Ap/\∀b∈bs,b≠0
theorem Red.perm{bs cs:W8}(r:Red bs)(p:bs.Perm cs):Red cs:=⟨(p.pairwise_iff λh=>⟨h.2,h.1⟩).mp r.1,λb hb=>r.2 b (p.mem_iff.mpr hb)⟩
theorem Xz(h:b≠0):b.testBit b.log2=true:=by
 exact Nat.testBit_of_two_pow_le_and_two_pow_add_one_gt (Nat.log2_self_le h) Nat.lt_log2_self
theorem X2f{bs:W8}(h:Sp (b::bs) x):Sp bs x\/∃y,Sp bs y/\x=y^^^b:=by
 induction h with
 | zero=>exact .inl .zero
 | add _ m ih =>
  rcases Dw.mp m with rfl | m
  ·rcases ih with h | ⟨y,h,rfl⟩
   ·exact .inr ⟨_,h,O⟩
   ·rw[GQ,Ja,Ld];exact .inl h
  ·rcases ih with h | ⟨y,h,rfl⟩
   ·exact .inl (.add h m)
   ·exact .inr ⟨_,.add h m,by rw[GQ,GQ,Qp b]⟩
variable{i:Nat}
theorem W1a{bs:W8}(h:Sp bs x)(z:∀b∈bs,b.testBit i=false):x.testBit i=false:=by
 induction h with
 | zero=>exact Kw i
 | add _ m ih=>rw[Es,ih,z _ m];rfl
theorem Red.nought:∀{bs:W8}{x:Nat},Red bs->Sp bs x->(∀b∈bs,x.testBit b.log2=false)->x=0
 | [],x,_,h,_=>by
  cases h with
  | zero=>rfl
  | add _ m=>cases m
 | b::bs,x,r,h,z=>by
  have p:=List.pairwise_cons.mp r.1;have d:Red bs:=⟨p.2,λc a=>r.2 c (.tail _ a)⟩;rcases X2f h with hy | ⟨y,hy,rfl⟩
  ·exact Red.nought d hy (λc a=>z c (Li _ a))
  ·have e:=z b (.head _);rw[Es,W1a hy λc a=>(p.1 c a).1,Xz (r.2 b (.head _))]at e;cases e
noncomputable def cl (v b:Nat):Nat:=min v (v^^^b)
theorem qR(v b:Nat):cl v b=v\/cl v b=v^^^b:=by unfold cl;lia
theorem W2j{n m:Nat}(hn:n.testBit i=false)(hm:m.testBit i=true)(h:∀j,i<j->n.testBit j=m.testBit j):n<m:=by
 have e:n / 2^(i+1)=m / 2^(i+1):=Kf λj=>by
  rw[sZ,sZ];exact h _ (by lia)
 have a:n%2^(i+1)<2^i:=Nat.lt_pow_two_of_testBit _ λj d=>by
  rw[Zi];by_cases q:j=i
  ·rw[q,hn,iK]
  ·rw[Cr (by lia),Ws]
 have b:2^i<=m%2^(i+1):=tR (by rw[Zi,hm,Ec (by lia)];rfl);have c:=ZP n (2^(i+1));have f:=ZP m (2^(i+1));rw[e]at c;lia
theorem zK(h:b≠0)(hx:x.testBit b.log2=true):x^^^b<x:=by
 refine W2j (i:=b.log2) ?_ hx λj a=>?_
 ·rw[Es,hx,Xz h];rfl
 ·have hb:b<2^j:=DK Nat.lt_log2_self (G3 (by decide) a);rw[Es,Ur hb,iM]
variable{v:Nat}
theorem yq(h:b≠0):(cl v b).testBit b.log2=false:=by
 cases e:v.testBit b.log2 with
 | true =>
  have:=zK h e;have q:cl v b=v^^^b:=by unfold cl;lia
  rw[q,Es,e,Xz h];rfl
 | false =>
  have f:(v^^^b).testBit b.log2=true:=by rw[Es,e,Xz h];rfl
  have:=zK h f;rw[GQ,Ja,Ld]at this;have q:cl v b=v:=by unfold cl;lia
  rw[q,e]
theorem bB(h:b.testBit i=false):(cl v b).testBit i=v.testBit i:=by
 rcases qR v b with e | e<;>rw[e]
 rw[Es,h,iM]
structure Lo (bs:W8) (v:Nat) (j:Nat) (x:Nat):Prop where
 sp:∃s,Sp bs s/\x=v^^^s
 z:∀b∈bs.take j,x.testBit b.log2=false
theorem Lo.start(bs:W8)(v:Nat):Lo bs v 0 v:=⟨⟨0,.zero,(Ld v).symm⟩,λb hb=>by simp at hb⟩
theorem Lo.step{bs:W8}{j:Nat}(r:Red bs)(h:Lo bs v j x)(hb:bs[j]?=some b):Lo bs v (j+1) (cl x b):=by
 have f:=Ke hb;obtain⟨s,d,rfl⟩:=h.sp;refine⟨?_,λc a=>?_⟩
 ·rcases qR (v^^^s) b with e | e
  ·exact⟨s,d,e⟩
  ·exact⟨s^^^b,.add d f,by rw[e,GQ]⟩
 ·rw[Js,hb,Kz,Ir,Fj]at a;rcases a with a | rfl
  ·obtain⟨i,hi,e⟩:=List.getElem_of_mem a;rw[Ka]at hi;rw[List.getElem_take]at e;obtain⟨g,k⟩:=Fq.mp hb;have:=tQ.mp r.1 i j (by lia) g (by lia);rw[e,k]at this;rw[bB this.1];exact h.z c a
  ·exact yq (r.2 _ f)
theorem grow{bs:W8}(r:Red bs)(h:Lo bs v bs.length x)(x0:x≠0):Red (bs.map (cl · x)++[x])/\Sp (bs.map (cl · x)++[x]) v/\∀y,Sp bs y->Sp (bs.map (cl · x)++[x]) y:=by
 have g:∀b∈bs,x.testBit b.log2=false:=λb hb=>h.z b (by rw[Kc];exact hb);have d:∀b∈bs,(cl b x).log2=b.log2/\cl b x≠0:=λb hb=>by
  have l:=r.2 b hb;have t:(cl b x).testBit b.log2=true:=by rw[bB (g b hb)];exact Xz l
  have k:cl b x≠0:=λz=>by rw[z,Kw]at t;cases t
  have le:cl b x<=b:=by unfold cl;lia
  refine⟨Nat.le_antisymm ?_ ?_,k⟩
  ·exact(Nat.le_log2 l).mpr (Ek (Nat.log2_self_le k) le)
  ·exact(Nat.le_log2 k).mpr (tR t)
 have up:∀y,Sp bs y->Sp (bs.map (cl · x)++[x]) y:=λy n=>n.up λb hb=>by
  have m:cl b x∈bs.map (cl · x)++[x]:=Oc _ (GP.mpr ⟨b,hb,O⟩);have p:x∈bs.map (cl · x)++[x]:=JH _ (Fj.mpr rfl);rcases qR b x with e | e
  ·have q:=Sp.one m;rwa [e]at q
  ·have q:=(Sp.one m).xor (Sp.one p);rwa [e,GQ,Ja,Ld]at q
 refine⟨⟨?_,λb hb=>?_⟩,?_,up⟩
 ·rw[List.pairwise_append];refine⟨jB.mpr ?_,List.pairwise_singleton _ _,λa f c i=>?_⟩
  ·refine r.1.imp_of_mem λ{a c} f i h=>?_;unfold Ap;rw[(d a f).1,(d c i).1,bB (g a f),bB (g c i)];exact h
  ·obtain⟨b,hb,rfl⟩:=GP.mp f;rw[Fj.mp i];exact⟨by rw[(d b hb).1];exact g b hb,yq x0⟩
 ·rcases Ir.mp hb with hb | hb
  ·obtain⟨b',j,rfl⟩:=GP.mp hb;exact(d b' j).2
  ·rw[Fj.mp hb];exact x0
 ·obtain⟨s,o,e⟩:=h.sp;have q:=(Sp.one (JH (bs.map (cl · x)) (Fj.mpr (rfl:x=x)))).xor (up s o);have ev:v=x^^^s:=by rw[e,GQ,Ja,Ld]
  rw[ev];exact q
theorem apart{bs:W8}(r:Red bs)(h:Lo bs v bs.length x)(x0:x≠0):¬ Sp bs v:=λc=>by
 obtain⟨s,a,e⟩:=h.sp;exact x0 (r.nought (by rw[e];exact c.xor a) λb hb=>h.z b (by rw[Kc];exact hb))
noncomputable def vv (f s:Nat):Nat:=f ||| s <<< 6
theorem oh{f s:Nat}(h:f<64):(vv f s).testBit i=if i<6 then f.testBit i else s.testBit (i-6):=by
 unfold vv;rw[Nat.testBit_or,Nat.testBit_shiftLeft];by_cases e:i<6
 ·rw[if_pos e,Cr (by lia),Ws,Wq]
 ·have:f.testBit i=false:=Ur (DK h (G3 (n:=2) (by decide) (show 6<=i by lia)));rw[if_neg e,this,Qs,Ec (by lia),iD]
theorem W0v{f g s t:Nat}(hf:f<64)(hg:g<64):vv (f^^^g) (s^^^t)=vv f s^^^vv g t:=Kf λi=>by
 rw[Es,oh (Lh (n:=6) hf hg),oh hf,oh hg];split<;>rw[Es]
theorem Vo(fs:W8)(c:Nat->Bool)(n:Nat):xs fs c (n+1)=xs fs c n^^^(if c n then fs.getD n 0 else 0):=by
 show (if c n then _ else _)=_;split
 ·rfl
 ·rw[Ld]
theorem rQ{a:Nat}(h:a^^^b=0):a=b:=by
 have:(a^^^b)^^^b=0^^^b:=by rw[h]
 rwa [GQ,Ja,Ld,ZG]at this
theorem W0s{fs:W8}{c:Nat->Bool}:∀n,(∀j,j<n->fs.getD j 0<64)->xs fs c n<64
 | 0,_=>by show 0<64;decide
 | n+1,h=>by
  rw[Vo];refine Lh (n:=6) (W0s n λj a=>h j (by lia)) ?_;split
  ·exact h n (by lia)
  ·decide
theorem W0r{bs fs ss:W8}{c:Nat->Bool}:∀n,(∀j,j<n->fs.getD j 0<64)->(∀j,j<n->Sp bs (vv (fs.getD j 0) (ss.getD j 0)))->Sp bs (vv (xs fs c n) (xs ss c n))
 | 0,_,_=>by show Sp bs (vv 0 0);rw[show vv 0 0=0 from rfl];exact .zero
 | n+1,h,g=>by
  rw[Vo,Vo];have b:=W0r (c:=c) n (λj a=>h j (by lia)) λj a=>g j (by lia);cases e:c n with
  | false=>simpa using b
  | true =>
   rw[if_pos rfl,if_pos rfl,W0v (W0s (c:=c) n λj a=>h j (by lia)) (h n (by lia))];exact b.xor (g n (by lia))
theorem Y6y{ms:List Ji.Ent}{m:Ji.Ent}{bs:W8}(I:Indep ms)(lt:∀r∈ms,r.2.1<64)(sp:∀r∈ms,Sp bs (vv r.2.1 r.2.2))(no:¬ Sp bs (vv m.2.1 m.2.2)):Indep (ms++[m]):=by
 intro c hf d j l;rw[Ed,Zf]at hf d l;have g:∀(g:Ji.Ent->Nat) (i:Nat),i<ms.length->((ms++[m]).map g).getD i 0=(ms.map g).getD i 0:=λg i hi=>by rw[Cg,Ef,Rv (by rw[A_];exact hi),<-Ef]
 have h:∀(g:Ji.Ent->Nat),((ms++[m]).map g).getD ms.length 0=g m:=λg=>by simp
 have k:xs (Hx (ms++[m])) c ms.length=xs (Hx ms) c ms.length:=aK _ λi hi=>⟨O,g _ i hi⟩;have n:xs (Hs (ms++[m])) c ms.length=xs (Hs ms) c ms.length:=aK _ λi hi=>⟨O,g _ i hi⟩;have hf:xs (Hx (ms++[m])) c ms.length^^^(if c ms.length then (Hx (ms++[m])).getD ms.length 0 else 0)=0:=by rw[<-Vo];exact hf
 have d:xs (Hs (ms++[m])) c ms.length^^^(if c ms.length then (Hs (ms++[m])).getD ms.length 0 else 0)=0:=by rw[<-Vo];exact d
 rw[k]at hf;rw[n]at d;have q:∀i,i<ms.length->∃r∈ms,(Hx ms).getD i 0=r.2.1/\(Hs ms).getD i 0=r.2.2:=λi hi=>⟨ms[i],Uk hi,by simp[Hx,hi],by simp[Hs,hi]⟩;cases e:c ms.length with
 | true =>
  rw[e,if_pos rfl]at hf d;have e1:(Hx (ms++[m])).getD ms.length 0=m.2.1:=h _;have e2:(Hs (ms++[m])).getD ms.length 0=m.2.2:=h _;rw[e1]at hf;rw[e2]at d;have o:xs (Hx ms) c ms.length=m.2.1:=rQ hf;have p:xs (Hs ms) c ms.length=m.2.2:=rQ d;refine absurd ?_ no;rw[<-o,<-p];refine W0r ms.length (λi hi=>?_) λi hi=>?_
  ·obtain⟨r,f,a,_⟩:=q i hi;rw[a];exact lt r f
  ·obtain⟨r,f,a,b⟩:=q i hi;rw[a,b];exact sp r f
 | false =>
  rw[e]at hf d;have hf:xs (Hx ms) c ms.length=0:=by simpa using hf
  have d:xs (Hs ms) c ms.length=0:=by simpa using d
  by_cases ej:j=ms.length
  ·rw[ej,e]
  ·exact I c hf d j (by lia)
end Vr
set_option maxHeartbeats 4000000
namespace L2
def Rb (K:U0)(te:TE):TE:=λσ H Q=>te σ H λv H1=>∃(p:Y4) (ns:W0),v=.ref p/\Ag K H1 p (ns.map V.int)/\ns.length<64/\∀(l:Y4) (ns':W0),H1 l=none->ns'.Perm ns->Q (.ref l) (upd H1 l (.lst (ns'.map V.int)))
theorem X2s{X:Cx}{e:Expr}{te:TE}{p kp kq pos:Pos}{kn:Nat}(hg:Gl X "sorted")(hm:X.mg "sorted"=none)(c:PE X e te)
  (hs:starEach [e] X.env=(false,eval e X.env)::starEach [] X.env:=by rfl):
  PE X (.Call (.Name "sorted" p) [e] [⟨some "reverse",.Constant (.bool true) kn kq,kp⟩] pos) (Rb X.K te):=by
 intro pins s σ H Q I h;refine Ro (QC I hg hm boot_sorted ?_ (by decide) (by decide));refine callWith_kw (Bm (Aa c Ae hs pos pins s σ H (λvs H1=>match vs with | [v]=>∃(p:Y4) (ns:W0),v=.ref p/\Ag X.K H1 p (ns.map V.int)/\ns.length<64/\∀(l:Y4) (a:W0),H1 l=none->a.Perm ns->Q (.ref l) (upd H1 l (.lst (a.map V.int))) | _=>False) I h) λus D ⟨vs,H1,E,r,b⟩=>?_) (by rw[hs];rfl) (by rw[hs];rfl) rfl rfl;refine Bm (X7j Cw W1i pos pins D σ H1 (λzs H2=>zs=[.bl true]/\H2=H1) E ⟨O,O⟩) λL s2 ⟨zs,H2,d,B,o,i⟩=>?_;subst o i;obtain⟨u,rfl,j⟩:=vals1 B;cases j;match vs,r,b with
 | [v],r,b =>
  obtain⟨u,rfl,t⟩:=vals1 r;obtain⟨l,ns,rfl,y,J,q⟩:=b;cases t;obtain⟨its,f,z,G⟩:=d.list y;have C:=RQ f;have k:its.length=ns.length:=by have:=f.length;rw[A_]at this;exact this.symm
  have m:(64:Nat)<=sizeLine:=by decide
  refine sorted_ints_rev z.isList C (by lia) λout a A g F=>?_;obtain⟨e,c⟩:=sortedAll_at s2.heap its out;have n:=g.length_eq;exact⟨.ref (s2.heap.objs.size+1),_,d.laid (t':=s2.toks) (λ_ _ x=>sortedAll_old x) (ZC _) (show Bh X.prog X.w _ _ _ (.lst (a.map V.int)) from ⟨by rw[A_];lia,out.toList,e,aU A,c⟩),O,q _ a (d.hok.fresh (ZC _)) g⟩
end L2
set_option maxHeartbeats 1000000
namespace Ah
open L2 Ba Am Pc Dj
open Ar (top Bs)
open C_ (Mk)
open Vr (Sp Red Lo vv cl)
open CK (Gr FW T3 L3 Jg comm)
noncomputable abbrev nI (n:Nat):V:=.int n
theorem yx(bs:W8):bs.map nI=(bs.map λn=>((n:Nat):Int)).map V.int:=by rw[KN];rfl
theorem fW{m:Mk}:Builtin.bitOr (m.2.1:Int) ((m.2.2:Int)*(2:Int)^(6:Int).toNat)=((vv m.2.1 m.2.2:Nat):Int):=by
 have e:((m.2.2:Int)*(2:Int)^(6:Int).toNat)=((m.2.2 <<< 6:Nat):Int):=by rw[Nat.shiftLeft_eq];simp
 rw[e,Ar.JK];rfl
theorem W2h(v b:Nat):(if Builtin.bitXor (v:Int) (b:Int)<(v:Int) then Builtin.bitXor (v:Int) (b:Int) else (v:Int))=((cl v b:Nat):Int):=by
 rw[Ko];unfold cl;split<;>lia
theorem X9h(m:Mk):JX.cm m m=0:=by
 show (pc (m.2.1&&&m.2.2)+pc (m.2.2&&&m.2.1))%2=0;rw[N_ m.2.2];lia
theorem X2d{ms:List Mk}{m:Mk}{N:Nat}(T:JX.Tb ms)(hN:N<=6)(ok:Jg N m)(e:JX.ev m)(cs:∀r∈ms,JX.cm r m=0)(I:DW.Indep (ms++[m])):JX.Tb (ms++[m]):=by
 refine⟨⟨λz a=>?_,λz a=>?_,λz a y b=>?_⟩,λz a=>?_,I⟩
 ·rcases Ir.mp a with h | h
  ·exact T.nice.q z h
  ·rw[Fj.mp h];exact ok.q
 ·rcases Ir.mp a with h | h
  ·exact T.nice.even z h
  ·rw[Fj.mp h];exact e
 ·rcases Ir.mp a with h | h<;>rcases Ir.mp b with h' | h'
  ·exact T.nice.com z h y h'
  ·rw[Fj.mp h'];exact cs z h
  ·rw[Fj.mp h,JX.X9i];exact cs y h'
  ·rw[Fj.mp h,Fj.mp h'];exact X9h m
 ·rcases Ir.mp a with h | h
  ·exact T.v6 z h
  ·rw[Fj.mp h];exact⟨DK ok.f (G3 (by decide) hN),DK ok.s (G3 (by decide) hN)⟩
theorem X6x{K:U0}{H:Hp}{l a:Y4}{xs ys:List V}(h:Ag K H l xs)(ne:l≠a):Ag K (upd H a (.lst ys)) l xs:=by
 rcases h with h | h
 ·rcases h with h | ⟨o,h⟩
  ·exact .inl (.inl (by rw[Cj ne];exact h))
  ·exact .inl (.inr ⟨o,by rw[Cj ne];exact h⟩)
 ·exact .inr h
theorem X2q{bs:W8}{ns:W0}(p:ns.Perm (bs.map λn=>((n:Nat):Int))):∃cs:List Nat,ns=cs.map (λn=>((n:Nat):Int))/\cs.Perm bs:=by
 refine⟨ns.map Int.toNat,?_,?_⟩
 ·rw[KN];symm;refine(Zc λn a=>?_).trans (List.map_id ns);obtain⟨b,_,rfl⟩:=GP.mp (p.mem_iff.mp a);simp
 ·have:=p.map Int.toNat;rw[KN]at this;refine this.trans ?_;rw[show (Int.toNat ∘ λn:Nat=>((n:Nat):Int))=id from funext λn=>Dm n,List.map_id]
def Xy (K:U0):Sp:=λvs H Q _=>∃(p p':Y4) (m m':Mk),vs=[.ref p,.ref p']/\Ax K H p (L3 m)/\Ax K H p' (L3 m')/\Q (.bl (decide (comm m m'=1))) H
noncomputable def Mh (K:U0):L2.Sp:=λvs H Q _=>∃(p lb:Y4) (m:Mk) (bs:W8),vs=[.ref p,.ref lb]/\Ax K H p (L3 m)/\Ag K H lb (bs.map nI)/\m.2.2<64/\Red bs/\∀x:Nat,Lo bs (vv m.2.1 m.2.2) bs.length x->Q (nI x) H
noncomputable def Mj (K:U0):L2.Sp:=λvs H Q _=>∃(c most:Nat) (lt:Y4) (ns:W0),vs=[.int c,.int most,.ref lt]/\1<=c/\c<=6/\most<=5/\Ag K H lt (ns.map V.int)/\∀(l:Y4) (H':Hp) (ps:U5) (ms:List Mk),Same H H'->Gr c H' l ps ms->ms.length<=most->Q (.ref l) H'
section
variable {P:W3}{w:W6}{K:U0}{mg:U6}{base:Heap}{k:Nat}{h:Heap}
theorem G7:BZ ["_law_one","_law_other"] ["_law_one","_law_other"] (DG (top 95)):=fS
theorem nR(F:Ab K "_law_apart" (top 95) .none)(X:K.In h)(G:Ng h mg)(cJ:Ai P w K mg base k "_law_ones" ["_law_number"] Cy):Ai P w K mg base (k+1) "_law_apart" ["_law_one","_law_other"] (Xy K):=by
 refine F.cal X G _ (S:=G7) λe H vs Q E c h=>?_;obtain⟨p,d,m,a,rfl,hp,b,q⟩:=h;refine⟨_,(@Aj _ _ _ (BJ (Fv Df (Af Dp (Af Dn (Ay cJ c rfl (Aa (Af Di (Aw BL (pv 0) Ac (λ_ _=>rfl)) (Aw BL (pv 1) Ac (λ_ _=>rfl))) Ae)) (Ay cJ c rfl (Aa (Af Di (Aw BL (pv 0) Ac (λ_ _=>rfl)) (Aw BL (pv 1) Ac (λ_ _=>rfl))) Ae))) Ac) Ac (Ad _)))),?_⟩;try dsimp only[CN]
 refine⟨_,O,p,_,_,_,O,O,hp,O,_,O,d,_,_,_,O,O,b,O,_,_,O,O,m.2.1&&&a.2.2,Oe _ _,_,O,p,_,_,_,O,O,hp,O,_,O,d,_,_,_,O,O,b,O,_,_,O,O,m.2.2&&&a.2.1,Oe _ _,_,_,O,O,_,_,O,O,Uv,O,?_⟩;show Q (.bl (decide (V.int ((((pc (m.2.1&&&a.2.2):Nat):Int)+((pc (m.2.2&&&a.2.1):Nat):Int))%2)=V.int 1))) H;rw[show decide (V.int ((((pc (m.2.1&&&a.2.2):Nat):Int)+((pc (m.2.2&&&a.2.1):Nat):Int))%2)=V.int 1)=decide (comm m a=1) from decide_eq_decide.mpr ⟨λz=>by have:=V.int.inj z;unfold comm;lia,λz=>by unfold comm at z;congr 1;lia⟩];exact q
theorem X7u(F:Ab K "_law_left_over" (top 96) .none)(X:K.In h)(G:Ng h mg)(B:Bs mg):Ai P w K mg base (k+1) "_law_left_over" ["_law_mark","_law_basis"] (Mh K):=by
 refine F.cal X G ["_law_mark","_law_basis","_law_vector","_law_one"] λf H vs Q E n h=>?_;obtain⟨p,c,m,bs,rfl,hp,hb,l,R,q⟩:=h
 refine⟨_,(@Av _ _ _ _ _ (@BR _ _ 2 _ _ _ _ f rfl (Or.inl rfl) (Af Nq (Aw BL (pv 0) Ac (λ_ _=>rfl)) (Af Ft (Aw BL (pv 0) Ac (λ_ _=>rfl)) Ac)) rfl (.inl rfl))
  (@Av _ _ _ _ _ (Hy PassesOwn.never rfl (GC (pv 1)) (CV (i:=3) f rfl (Or.inl rfl))
   (@Aj _ _ _ (@BR _ _ 2 _ _ _ _ f rfl (Or.inl rfl) (CG (aM rfl) rfl B.min boot_min (Aa (pv 2) (Aa (Af JL (pv 2) (pv 3)) Ae))) rfl (.inl rfl))))
  (@Aj _ _ _ (BJ (pv 2))))),?_⟩
 try dsimp only[CN]
 have sz:Sz 7 ((m.2.2:Nat):Int):=by unfold Sz;rw[ZX];lia
 refine⟨_,O,p,_,_,_,O,O,hp,O,_,O,p,_,_,_,O,O,hp,O,_,_,O,O,⟨7,sz,by lia,by lia⟩,_,_,O,O,?_⟩;refine⟨_,O,c,O,⟨_,hb⟩,Ly (K:=K) (a:=c) (xs:=bs.map nI) (λj σ H'=>H'=H/\∃(x:Nat) (v:Option V),Lo bs (vv m.2.1 m.2.2) j x/\σ=[some (.ref p),some (.ref c),some (nI x),v]) ⟨O,vv m.2.1 m.2.2,none,Lo.start _ _,?_⟩ (λi σ H' _ e=>by rw[e.1];exact hb) ?_ ?_⟩
 ·show [some (V.ref p),some (V.ref c),some (V.int (Builtin.bitOr (m.2.1:Int) ((m.2.2:Int)*(2:Int)^(6:Int).toNat))),none]=_;rw[fW]
 ·rintro j x σ H' g ⟨rfl,y,v,L,rfl⟩;rw[Cz]at g;obtain⟨b,d,rfl⟩:=Fz.mp g;refine⟨_,O,_,O,_,O,_,_,O,O,_,_,O,O,cl y b,some (nI b),L.step R d,?_⟩;show [some (V.ref p),some (V.ref c),some (V.int (if Builtin.bitXor (y:Int) (b:Int)<(y:Int) then Builtin.bitXor (y:Int) (b:Int) else (y:Int))),some (nI b)]=_;rw[W2h]
 ·rintro σ H' ⟨rfl,y,v,L,rfl⟩;rw[A_]at L;exact⟨_,O,q y L⟩
theorem X7w(zS:mg "sorted"=none)(F:Ab K "_law_kept" (top 97) .none)(X:K.In h)(G:Ng h mg)(B:Bs mg)(cJ:Ai P w K mg base k "_law_ones" ["_law_number"] Cy)(dS:Ai P w K mg base k "_law_apart" ["_law_one","_law_other"] (Xy K))(dE:Ai P w K mg base k "_law_left_over" ["_law_mark","_law_basis"] (Mh K)):Ai P w K mg base (k+1) "_law_kept" ["_law_cells","_law_most","_law_told"] (Mj K):=by
 refine F.cal X G ["_law_cells","_law_most","_law_told","_law_rows","_law_basis","_law_cell","_law_mixed","_law_f","_law_s","_law_mark","_law_vector"] λA H vs Q E u h=>?_;obtain⟨N,d,t,ns,rfl,N1,N6,m5,hS,kq⟩:=h;have pN:=Dr N6;have a4:=Cv N;have eN:(1:Int)*2^(N:Int).toNat=((2^N:Nat):Int):=by rw[N8,Dm];simp
 refine⟨_,(@Av _ _ _ _ _ (@BR _ _ 3 _ _ _ _ A rfl (Or.inl rfl) (@Ga _ _ _ _ Ae) rfl (.inl rfl))
  (@Av _ _ _ _ _ (@BR _ _ 4 _ _ _ _ A rfl (Or.inl rfl) (@Ga _ _ _ _ Ae) rfl (.inl rfl))
  (@Av _ _ _ _ _ (Hy PassesOwn.never rfl (GC (pv 2)) (CV (i:=5) A rfl (Or.inl rfl))
   (@Dv _ _ _ _ _ (@BR _ _ 6 _ _ _ _ A rfl (Or.inl rfl) (Af Dp (Af J0 (pv 5) Ac) Ac) rfl (.inl rfl))
   (@Dv _ _ _ _ _ (@BR _ _ 7 _ _ _ _ A rfl (Or.inl rfl) (Af Dp (pv 6) (Af Ft Ac (pv 0))) rfl (.inl rfl))
   (@Dv _ _ _ _ _ (@BR _ _ 8 _ _ _ _ A rfl (Or.inl rfl) (Af Dp (Af Iw (pv 6) Ac) (Af Ft Ac (pv 0))) rfl (.inl rfl))
   (@Dv _ _ _ _ _ (@BR _ _ 9 _ _ _ _ A rfl (Or.inr rfl) (@Ci _ _ _ _ _ (Aa (Af Dp (Af Dn (Ay cJ u rfl (Aa (Af Di (pv 7) (pv 8)) Ae)) (Af J0 Ac (Af Iw (pv 6) Ac))) Ac) (Aa (pv 7) (Aa (pv 8) Ae)))) rfl (.inl rfl))
   (@Aj _ _ _ (B_ (PW.pt (Oj (CP Og (CG Eh rfl B.len EY (Aa (pv 3) Ae)) (pv 1) (Ad _)) (RM (Fo (Dd (CG (QT rfl) rfl B.any PB (Aa (HY rfl (Bl.of (Nc:=["_law_row","_law_mark"]) (mp:=[none,some 9]) (by kernel_rfl)) (GC (pv 3)) (λ_ _ _ _=>(CV (i:=0) (show (["_law_row","_law_mark"]:W5).Nodup by decide +kernel) rfl (Or.inl rfl))) (λ_ _ _ _=>(Ay dS u rfl (Aa (pv 0) (Aa (pv 1) Ae))))) Ae)))))))
    (@Av _ _ _ _ _ (@BR _ _ 10 _ _ _ _ A rfl (Or.inr rfl) (Ay dE u rfl (Aa (pv 9) (Aa (pv 4) Ae))) rfl (.inl rfl))
    (@Aj _ _ _ (B_ (CP RT (pv 10) Ac (Ad _))
     (@Av _ _ _ _ _ (H_ (QB Pj Rt Ru QV (pv 3) (Aa (pv 9) Ae)))
     (@Aj _ _ _ (@BR _ _ 4 _ _ _ _ A rfl (Or.inl rfl) (X2s rfl zS (Af Oi (HY rfl (Bl.of (Nc:=["_law_one","_law_vector"]) (mp:=[none,some 10]) (by kernel_rfl)) (GC (pv 4)) (λ_ _ _ _=>(CV (i:=0) (show (["_law_one","_law_vector"]:W5).Nodup by decide +kernel) rfl (Or.inl rfl))) (λ_ _ _ _=>(CG (aM rfl) rfl B.min boot_min (Aa (pv 0) (Aa (Af JL (pv 0) (pv 1)) Ae))))) (@Ga _ _ _ _ (Aa (pv 10) Ae)))) rfl (.inl rfl))))
     CJ)))
    CJ)))))))
  (@Aj _ _ _ (BJ (pv 3)))))),?_⟩
 try dsimp only[CN]
 refine⟨Dz (by decide),λlr a7=>?_⟩;have s1:=Ao a7 (.lst []);refine⟨Dz (by decide),λlb C=>?_⟩;have s2:=Ao C (.lst []);have b9:H lb=none:=s1.free C;have a9:lr≠lb:=λz=>by rw[<-z,Al]at C;cases C
 have S0:=s1.trans s2
 refine⟨_,O,t,O,⟨_,S0.seq hS⟩,Ly (K:=K) (a:=t) (xs:=ns.map V.int) (λi σ H'=>Same H H'/\∃(ps:U5) (ms:List Mk) (lb:Y4) (bs:W8) (v5 v6 v7 Z S l:Option V),Gr N H' lr ps ms/\ms.length<=d/\Ag K H' lb (bs.map nI)/\lb≠lr/\bs.length=ms.length/\Red bs/\(∀r∈ms,Sp bs (vv r.2.1 r.2.2)) /\
  σ=[some (.int N),some (.int d),some (.ref t),some (.ref lr),some (.ref lb),v5,v6,v7,Z,S,l]) ⟨S0,[],[],lb,[],none,none,none,none,none,none,⟨s2 _ _ Al,.nil,(by simp),⟨⟨by simp,by simp,by simp⟩,by simp,λc _ hs j hj=>absurd hj (NP _)⟩,(by decide)⟩,Fy _,Ag.of Al,a9.symm,O,⟨.nil,by simp⟩,by simp,O⟩ (λi σ H' _ e=>e.1.seq hS) ?_ ?_⟩
 ·rintro i x σ H1 I ⟨S1,ps,ms,lb,bs,v5,v6,v7,Z,S,l,T1,lm,hb,Y,o,R,sp,rfl⟩;rw[Cz]at I;obtain⟨z,hc,rfl⟩:=Fz.mp I;have a5:=T1.mks.length;have v:(ps.map V.ref).length=ms.length:=by rw[A_,a5]
  refine⟨λσ H'=>H'=H1/\∃m:Int,0<=m/\σ=[some (.int N),some (.int d),some (.ref t),some (.ref lr),some (.ref lb),some (.int z),some (.int m),v7,Z,S,l],⟨_,O,_,_,O,O,.inr ⟨by decide,by decide⟩,_,_,O,O,Tt,O,_,Jr _ (PX Tt),O⟩,?_⟩;rintro σ H1 ⟨rfl,m,c4,rfl⟩;obtain⟨fl,hf,ef⟩:=Oq m a4;refine⟨λσ H'=>H'=H1/\σ=[some (.int N),some (.int d),some (.ref t),some (.ref lr),some (.ref lb),some (.int z),some (.int m),some (.int fl),Z,S,l],⟨_,O,_,O,_,_,O,O,⟨1,GJ,by lia,by lia⟩,_,_,O,O,(by rw[eN];lia),O,?_⟩,?_⟩
  ·show [some (V.int N),some (.int d),some (.ref t),some (.ref lr),some (.ref lb),some (.int z),some (.int m),some (.int (m%((1:Int)*2^(N:Int).toNat))),Z,S,l]=_;rw[eN,ef]
  rintro σ H1 ⟨rfl,rfl⟩;obtain⟨sg,hs,es⟩:=Oq (m / 64) a4;refine⟨λσ H'=>H'=H1/\σ=[some (.int N),some (.int d),some (.ref t),some (.ref lr),some (.ref lb),some (.int z),some (.int m),some (.int fl),some (.int sg),S,l],⟨_,O,_,_,O,O,⟨by decide,by decide⟩,_,O,_,_,O,O,⟨1,GJ,by lia,by lia⟩,_,_,O,O,(by rw[eN];lia),O,?_⟩,?_⟩
  ·show [some (V.int N),some (.int d),some (.ref t),some (.ref lr),some (.ref lb),some (.int z),some (.int m),some (.int fl),some (.int (m / 64%((1:Int)*2^(N:Int).toNat))),S,l]=_;rw[eN,es]
  rintro σ H1 ⟨rfl,rfl⟩;obtain⟨q,b6,eq⟩:=Oq (((pc (fl&&&sg):Nat):Int)+2*(m / 4096)) (show 0<4 by decide);have ev:JX.ev ((q,fl,sg):Mk):=by
   show (q+pc (fl&&&sg))%2=0;lia
  refine⟨λσ H'=>Same H1 H'/\∃g:Addr,H' g=some (T3 (q,fl,sg))/\σ=[some (.int N),some (.int d),some (.ref t),some (.ref lr),some (.ref lb),some (.int z),some (.int m),some (.int fl),some (.int sg),some (.ref g),l],⟨_,O,_,O,_,_,O,O,fl&&&sg,Oe _ _,_,O,_,_,O,O,⟨by decide,by decide⟩,_,_,O,O,.inl ⟨by decide,by decide⟩,_,_,O,O,_,_,O,O,XH,_,O,_,O,(show 3<=sizeLine by decide),λg s=>⟨Ao s _,g,?_,O⟩⟩,?_⟩
  ·rw[Al];show some (HO.tup [V.int ((((pc (fl&&&sg):Nat):Int)+2*(m / 4096))%4),V.int fl,V.int sg])=_;rw[show ((4:Nat):Int)=4 from rfl]at eq;rw[eq]
  rintro σ H2 ⟨S2,g,s,rfl⟩;have a3:Jg N ((q,fl,sg):Mk):=⟨b6,hf,hs⟩;have a2:=S1.trans S2;have T2:=T1.same S2;have stay:∀{H':Hp} (a6:Option V),Same H2 H'->Same H H'/\∃(ps:U5) (ms:List Mk) (lb':Y4) (bs:W8) (u5 u6 u7 u8 u9 w10:Option V),Gr N H' lr ps ms/\ms.length<=d/\Ag K H' lb' (bs.map nI)/\lb'≠lr/\bs.length=ms.length/\Red bs/\(∀r∈ms,Sp bs (vv r.2.1 r.2.2)) /\
    [some (V.int N),some (.int d),some (.ref t),some (.ref lr),some (.ref lb),some (.int z),some (.int m),some (.int fl),some (.int sg),some (.ref g),a6]=[some (.int N),some (.int d),some (.ref t),some (.ref lr),some (.ref lb'),u5,u6,u7,u8,u9,w10] :=
   λa6 y=>⟨a2.trans y,ps,ms,lb,bs,_,_,_,_,_,_,T2.same y,lm,(S2.trans y).seq hb,Y,o,R,sp,O⟩
  refine⟨_,O,lr,_,O,.inl (Ag.of T2.lst),_,O,_,_,O,O,_,O,BP (λlt=>?_) (λ_=>stay _ (Same.refl _))⟩;rw[v]at lt;refine⟨_,O,lr,O,⟨_,Ag.of T2.lst⟩,λacc J=>?_⟩;refine TY (K:=K) (a:=lr) (xs:=ps.map V.ref) (fr:=[some (.ref g)]) (λi ys H'=>Same H2 H'/\H' acc=some (.lst ys)/\ys=((ms.take i).map λr=>decide (comm r (q,fl,sg)=1)).map V.bl) (by rw[v];exact Dz (by lia)) ⟨Ao J _,Al,O⟩ (λi ys H' e=>e.1.seq (Ag.of T2.lst)) ?_ ?_
  ·rintro i x ys HA NN I hy ⟨SA,cA,rfl⟩ kN;rw[Cz]at I;obtain⟨p,hp,rfl⟩:=Fz.mp I;obtain⟨r,b0,p0⟩:=T2.mks.get hp;refine⟨_,O,_,O,p,g,r,(q,fl,sg),O,Ax.of (SA _ _ p0),Ax.of (SA _ _ s),?_⟩;refine kN _ _ cA ⟨Dy SA J,Al,?_⟩;rw[Js,b0,Kz,Cg,Cg];rfl
  rintro ys H3 U ⟨M,c3,rfl⟩;rw[v,Kc]at c3;refine⟨acc,_,O,Ag.of c3,_,O,FQ (λhA=>?_) (λ_=>stay _ M)⟩;have b1:∀r∈ms,JX.cm r (q,fl,sg)=0:=λr u=>by
   have:(id ∘ λr=>decide (comm r (q,fl,sg)=1)) r=false:=by
    rw[List.any_map]at hA;exact List.any_eq_false.mp hA r u |> λz=>by simpa using z
   have h2:¬ comm r (q,fl,sg)=1:=by simpa using this
   have h3:comm r (q,fl,sg)<2:=KH _ (by decide);show comm r (q,fl,sg)=0;lia
  have s6:sg<64:=by lia
  have f6:fl<64:=by lia
  refine⟨_,O,_,O,g,lb,(q,fl,sg),bs,O,Ax.of (M _ _ s),(S2.trans M).seq hb,s6,R,λx L=>?_⟩;refine⟨_,O,_,_,O,O,_,O,BP (λx0=>?_) (λ_=>stay _ M)⟩;have x0:x≠0:=by lia
  obtain⟨gR,gv,gu⟩:=Vr.grow R L x0;have no:=Vr.apart R L x0;have TB:=X2d T1.tb N6 a3 ev b1 (Vr.Y6y T1.tb.ind (λr u=>DK (T1.ok r u).f pN) sp no);have a8:=T2.same M;have r3:=a8.lst;have p3:=M _ _ s;refine⟨_,O,.inl ⟨O,_,Ag.of r3⟩,_,O,lr,_,_,O,O,r3,(by rw[v];exact DK (show ms.length<64 by lia) (by decide)),?_⟩;have p4:upd H3 lr (.lst (ps.map V.ref++[.ref g])) g=some (T3 (q,fl,sg)):=by rw[Cj (Lw p3 r3 (by intro z;cases z))];exact p3
  have m4:=a8.mks.upd (ys:=ps.map V.ref++[.ref g]) r3;have r4:upd H3 lr (.lst (ps.map V.ref++[.ref g])) lr=some (.lst ((ps++[g]).map V.ref)):=by rw[Al,Cg];rfl
  have S4:Same H (upd H3 lr (.lst (ps.map V.ref++[.ref g]))):=Dy (a2.trans M) a7;have b4:Ag K (upd H3 lr (.lst (ps.map V.ref++[.ref g]))) lb (bs.map nI):=X6x ((S2.trans M).seq hb) Y;generalize upd H3 lr (.lst (ps.map V.ref++[.ref g]))=H4 at *
  have T4:Gr N H4 lr (ps++[g]) (ms++[(q,fl,sg)]):=⟨r4,Paired.snoc m4 p4,λr u=>by
   rcases Ir.mp u with h | h
   ·exact T1.ok r h
   ·rw[Fj.mp h];exact a3,TB,by rw[Ed];show ms.length+1<=6;lia⟩
  refine⟨_,O,lb,O,⟨_,b4⟩,λa0 D=>?_⟩;refine TY (K:=K) (a:=lb) (xs:=bs.map nI) (fr:=[some (nI x)]) (λi ys H'=>Same H4 H'/\H' a0=some (.lst ys)/\ys=((bs.take i).map (cl · x)).map nI) (by rw[A_,o];exact Dz (by lia)) ⟨Ao D _,Al,O⟩ (λi ys H' e=>e.1.seq b4) ?_ ?_
  ·rintro i y ys HA NN I hy ⟨SA,cA,rfl⟩ kN;rw[Cz]at I;obtain⟨b,b3,rfl⟩:=Fz.mp I;refine⟨_,O,_,O,_,O,_,_,O,O,_,_,O,?_⟩;refine kN _ _ cA ⟨Dy SA D,Al,?_⟩;rw[W2h,Js,b3,Kz,Cg,Cg];rfl
  rintro ys H5 c0 ⟨S5,c5,rfl⟩;rw[A_,Kc]at c5;refine⟨_,O,Dz (show 1<=64 by decide),λl1 b2=>?_⟩;have T:=Ao b2 (.lst [nI x]);refine⟨a0,l1,_,_,O,O,T _ _ c5,Al,?_,λl2 b8=>?_⟩
  ·rw[A_,A_,o];exact Ek (show ms.length+1<=64 by lia) (by decide)
  have s7:=Ao b8 (.lst ((bs.map (cl · x)).map nI++[nI x]));have e7:(bs.map (cl · x)).map nI++[nI x]=((bs.map (cl · x)++[x]).map λn=>((n:Nat):Int)).map V.int:=by rw[<-yx,Cg];rfl
  refine⟨l2,_,O,(by rw[<-e7];exact Ag.of Al),(by rw[A_,Ed,A_,o];show ms.length+1<64;lia),λl3 c7 U b7=>?_⟩;obtain⟨W,e3,pb⟩:=X2q b7;subst e3;have s8:=Ao U (.lst ((W.map λn=>((n:Nat):Int)).map V.int));have a1:=((S5.trans T).trans s7).trans s8;have b5:l3≠lr:=λz=>by
   have:=((S5.trans T).trans s7) _ _ r4;rw[<-z,U]at this;cases this
  refine⟨S4.trans a1,ps++[g],ms++[(q,fl,sg)],l3,W,_,_,_,_,_,_,T4.same a1,by rw[Ed];show ms.length+1<=d;lia,(by rw[yx W];exact Ag.of Al),b5,?_,gR.perm pb.symm,λr u=>?_,O⟩
  ·rw[pb.length_eq,Ed,Ed,A_,o];rfl
  ·refine Sp.up (λb hb=>Sp.one (pb.mem_iff.mpr hb)) ?_;rcases Ir.mp u with h | h
   ·exact gu _ (sp r h)
   ·rw[Fj.mp h];exact gv
 ·rintro σ H1 ⟨S1,ps,ms,lb,bs,v5,v6,v7,Z,S,l,T1,lm,hb,Y,o,R,sp,rfl⟩;exact⟨_,O,kq lr H1 ps ms S1 T1 lm⟩
end
end Ah
set_option maxHeartbeats 4000000
namespace L2
inductive Qd:V->PyData->Prop where
 | non:Qd .non .none
 | bl (b:Bool):Qd (.bl b) (.bool b)
 | int (i:Int):Qd (.int i) (.int i)
 | str (x:Str) (ok:PyData.canLay0 (.str x)=true):Qd (.str x) (.str x)
inductive Yl (H:Hp):V->PyData->Prop where
 | flat {v:V}{d:PyData} (f:Qd v d):Yl H v d
 | tup {p:Y4}{xs:List V}{ds:List PyData} (e:H p=some (.tup xs)) (all:Paired Qd xs ds):Yl H (.ref p) (.tuple ds)
 | lst {p:Y4}{xs:List V}{ds:List PyData} (e:H p=some (.lst xs)) (all:Paired Qd xs ds):Yl H (.ref p) (.list ds)
variable{d:PyData}{u:W7}
theorem wu{h:Heap}{v:V}(f:Qd v d)(r:RelV v u):Reads h u d []:=by
 cases f with
 | non=>cases r;exact .none
 | bl b=>cases r;exact .bool b
 | int i=>obtain⟨t,rfl⟩:=r;exact .int i t
 | str x=>obtain⟨t,rfl⟩:=r;exact .str x t
theorem oG{h:Heap}:∀{xs:List V}{ds:List PyData}{us:U9},Paired Qd xs ds->Vals xs us->ReadsAll h us ds []
 | [],[],us,.nil,r=>by cases r;exact .nil
 | _::_,_::_,us,.cons f t,r=>by
  cases r with
  | cons ru rr=>exact .cons (as:=[]) (bs:=[]) (wu f ru) (oG t rr)
section
variable {X:Cx}{pins:U1}{σ:St}{H:Hp}{s:W1}
theorem X2l(I:Inv X pins σ H s){v:V}(f:Yl H v d)(r:RelV v u):∃as,Reads s.heap u d as:=by
 cases f with
 | flat f=>exact⟨_,wu f r⟩
 | @tup p xs ds e all =>
  cases r;obtain⟨its,a,h,_⟩:=I.tuple (Ax.of e);obtain⟨o,c,b,n,hd⟩:=h;exact⟨_,Reads.tuple c b hd (by simpa using oG all a)⟩
 | @lst p xs ds e all =>
  cases r;obtain⟨its,a,g,_⟩:=I.list (Ag.of e);obtain⟨o,c,b,n,hd⟩:=g.isList;exact⟨_,Reads.list c b hd (by simpa using oG all a)⟩
end
end L2
namespace L2
section
variable {X:Cx}{scope:Scope}{Nc:W5}{ex:U5}{pins:U1}{s:W1}{H:Hp}
theorem X2p{x1 x2 x3 x4 x5:Str}{k:Nat}{p1 p2 p3 p4 p5 pos:Pos}(hc:(Bk X scope Nc ex pins s H).calm=true)(hN:Nc.Nodup)(h1:Nc[0]?=some x1)(h2:Nc[1]?=some x2)(h3:Nc[2]?=some x3)(h4:Nc[3]?=some x4)(h5:Nc[4]?=some x5)
  (l1:(Bk X scope Nc ex pins s H).env.scope.names.lookup x1=some .local) (l2:(Bk X scope Nc ex pins s H).env.scope.names.lookup x2=some .local) (l3:(Bk X scope Nc ex pins s H).env.scope.names.lookup x3=some .local) (l4:(Bk X scope Nc ex pins s H).env.scope.names.lookup x4=some .local) (l5:(Bk X scope Nc ex pins s H).env.scope.names.lookup x5=some .local):
  PG (Bk X scope Nc ex pins s H) (.Tuple [.Name x1 p1,.Name x2 p2,.Name x3 p3,.Name x4 p4,.Name x5 p5] k pos) (R9 X.K 5 (Gn (CQ 0) (Gn (CQ 1) (Gn (CQ 2) (Gn (CQ 3) (Gn (CQ 4) R_)))))):=
 RD (X:=Bk X scope Nc ex pins s H) hc (GF (CV (i:=0) hN h1 (.inl l1) (.inr l1)) (GF (CV (i:=1) hN h2 (.inl l2) (.inr l2)) (GF (CV (i:=2) hN h3 (.inl l3) (.inr l3)) (GF (CV (i:=3) hN h4 (.inl l4) (.inr l4)) (GF (CV (i:=4) hN h5 (.inl l5) (.inr l5)) RK)))))
end
theorem X3x{K:U0}{a:Y4}{xs:List V}{g:TG}{te:TE}{fr:St}{H1:Hp}{acc:Y4}{Q:VK}(Pv:Nat->List V->Hp->Prop)(hn:xs.length<=sizeLine)(h0:Pv 0 [] (upd H1 acc (.lst [])))
  (hl:∀i ys H,Pv i ys H->Ag K H a xs)
  (hs:∀i x ys H (N:St->V->Hp->Prop) (w1 w2 w3 w4 w5:Option V),xs[i]?=some x->ys.length=i->Pv i ys H->(∀v1 v2 c f d y b,b acc=some (.lst ys)->Pv (i+1) (ys++[y]) (upd b acc (.lst (ys++[y])))->N (v1::v2::c::f::d::fr) y b)->g x (w1::w2::w3::w4::w5::fr) H λj l=>te j l (N j))
  (hd:∀ys H,ys.length=xs.length->Pv xs.length ys H->Q (.ref acc) H):Ii (K9 K a) g te (none::none::none::none::none::fr) H1 acc Q:=by
 refine⟨λi m ys k H2=>m=xs.length-i/\i<=xs.length/\ys.length=i/\(∃v1 v2 c f d,k=v1::v2::c::f::d::fr)/\Pv i ys H2,⟨xs.length,by simp,Fy _,O,⟨_,_,_,_,_,O⟩,h0⟩,?_⟩;rintro i m ys k H2 ⟨rfl,hi,h,⟨v1,v2,c,f,d,rfl⟩,p⟩;by_cases hlt:i<xs.length
 ·have e1:xs[i]?=some xs[i]:=by simp[hlt]
  refine .inr ⟨⟨xs,_,hl i ys H2 p,e1⟩,λx s o=>?_⟩;obtain⟨rfl,q⟩:=o;exact hs i x ys _ (λj y b=>b acc=some (.lst ys)/\ys.length<sizeLine/\∃m',m'<xs.length-i/\_) _ _ _ _ _ (q xs (hl i ys _ p)) h p λw t u v z y b r n=>⟨r,by lia,xs.length-(i+1),by lia,O,hlt,by simp[h],⟨_,_,_,_,_,O⟩,n⟩
 ·have e:i=xs.length:=by lia
  subst e;exact .inl ⟨⟨xs,hl _ ys H2 p,CT _⟩,hd ys H2 h p⟩
end L2
set_option maxHeartbeats 1000000
namespace L2
def K_ (H:Hp)(v:V)(d:PyData):Prop:=∀(X:Cx) (pins:U1) (σ:St) (s:W1) (u:W7),Inv X pins σ H s->RelV v u->∃as,Reads s.heap u d as
theorem K_.rd{H:Hp}{v:V}{d:PyData}(r:Yl H v d):K_ H v d:=λX pins σ s u I a=>X2l I r a
def O_ (neg:Bool):R2:=λx y H Q=>∃d e:PyData,K_ H x d/\K_ H y e/\SeqAt.shaped d=true/\SeqAt.shaped e=true/\SeqAt.noMix d e=true/\Q (.bl (if neg then !PySem.Spec.same d e else PySem.Spec.same d e)) H
theorem nU{X:Cx}(hu:X.A.units+64<cLine):Ei X (compareOp .Eq) (O_ false):=by
 intro pins s σ H x y v u Q I f a h;obtain⟨d,e,h1,h2,g,s2,nm,q⟩:=h;obtain⟨as,b⟩:=h1 X pins σ s _ I f;obtain⟨bs,c⟩:=h2 X pins σ s _ I a;exact iH b c g s2 hu nm ⟨.bl (PySem.Spec.same d e),H,I,O,q⟩
theorem Va{X:Cx}(hu:X.A.units+64<cLine):Ei X (compareOp .NotEq) (O_ true):=by
 intro pins s σ H x y v u Q I f a h;obtain⟨d,e,h1,h2,g,s2,nm,q⟩:=h;obtain⟨as,b⟩:=h1 X pins σ s _ I f;obtain⟨bs,c⟩:=h2 X pins σ s _ I a;exact iI b c g s2 hu nm ⟨.bl (!PySem.Spec.same d e),H,I,O,q⟩
end L2
namespace Ah
open L2 Ba Am Pc Dj
open Ar (top Bs Bu CZ Bg Fw J4 JQ X4)
open C_ (Mk)
variable{H:Hp}{r:Y4}{a b:Bool}
theorem bD(e:H r=some (.tup [.bl a,.bl b])):K_ H (.ref r) (.tuple [.bool a,.bool b]):=K_.rd (.tup e (.cons (.bl _) (.cons (.bl _) .nil)))
variable{t:Y4}{Q:VK}
theorem Vk(e:H r=some (.tup [.bl a,.bl b]))(e':H t=some (.tup [.bl a,.bl b]))(q:Q (.bl false) H):O_ true (.ref r) (.ref t) H Q:=⟨_,_,bD e,bD e',O,O,O,by cases a<;>cases b<;>exact q⟩
theorem qT(e:H r=some (.tup [.bl a,.bl b]))(e':H t=some (.tup [.bl a,.bl b]))(q:Q (.bl true) H):O_ false (.ref r) (.ref t) H Q:=⟨_,_,bD e,bD e',O,O,O,by cases a<;>cases b<;>exact q⟩
theorem K5{a b:Y4}{o:HO}(h:H a=some o)(f:H b=none):a≠b:=λz=>by rw[z,f]at h;cases h
theorem pQ(t:Y4)(n:Nat):(List.replicate n [V.ref t]).flatten=(List.replicate n t).map V.ref:=by
 induction n with
 | zero=>rfl
 | succ n ih=>rw[Rp,Wy,ih,Rp,Gh];rfl
variable{c:Nat}
theorem zY{K:U0}{l:Y4}{x:A5}{N M:Nat}(hl:H l=some (.lst ((List.replicate (2^c) t).map V.ref)))(ht:CZ K H t x)(ox:FN N M x):Bu K H l (List.replicate (2^c) t) (λ_=>x) c N M :=
 ⟨hl,Ze,λi p hp=>by rw[Zh]at hp;split at hp<;>cases hp;exact ht,λ_ _=>ox⟩
variable{f:Nat->A5}
theorem TJ{K:U0}{l a:Y4}{ps:U5}{n m:Nat}{xs ys:List V}(b:Bu K H l ps f c n m)(ha:H a=some (.lst xs))(ne:l≠a):Bu K (upd H a (.lst ys)) l ps f c n m:=⟨by rw[Cj ne];exact b.lst,b.len,JQ b.vals ha,b.ok⟩
theorem TX{k:Nat}:∀w,w<2^c->wf k f (w*2^k)=f w:=λw _=>by
 have:=Cv k;unfold wf;rw[iy,if_pos rfl,Za _ this]
theorem W0u{k:Nat}(h:MJ f c):MJ (wf k f) (c+k):=by
 obtain⟨j,a,b⟩:=h;refine⟨j*2^k,?_,by rw[TX j a];exact b⟩;rw[HW];exact Ut a (Cv k)
theorem MK{k:Nat}{w:Nat}(h:w%2^k≠0):wf k f w=Zz:=if_neg h
noncomputable def Ma (K:U0):L2.Sp:=λvs H Q _=>∃(l:Y4) (ps:U5) (f:Nat->A5) (c k N M:Nat) (far:Int),vs=[.ref l,.int k,.int far]/\Bu K H l ps f c N M/\1<=c/\c+k<=6/\100<=N/\MJ f c/\∀H',Same H H'->Q (.bl true) H'
section
variable {P:W3}{w:W6}{K:U0}{mg:U6}{base:Heap}{k:Nat}{h:Heap}
theorem X7p(F:Ab K "_law_wide" (top 103) .none)(X:K.In h)(G:Ng h mg)(B:Bs mg)(cS:Ai P w K mg base k "widened" ["board","many"] (J8 K))(cW:Ai P w K mg base k "narrowed" ["board","many"] (Mf K))(cD:Ai P w K mg base k "_law_is_board" ["_law_found","_law_many"] (Jl K))(c8:Ai P w K mg base k "_law_refused" ["_law_way","_law_board","_law_rows","_law_cells"] (G5 K true)):Ai P w K mg base (k+1) "_law_wide" ["_law_board","_law_k","_law_far"] (Ma K):=by
 refine F.cal X G ["_law_board","_law_k","_law_far","_law_many","_law_kept_here","_law_due","_law_word","_law_found","_law_back","_law_same","_law_some","_law_cells","_law_at","_law_alone"] λnd H vs Q E d h=>?_;obtain⟨l,ps,g,c,kk,N,M,b,rfl,BD,c1,ck,N1,Lk,kq⟩:=h;have c6:c<=6:=by lia
 have p6:=Dr c6;have f7:=Dr ck;have pk:=Cv kk;have i2:=Cv c;have SL:Ag K H l (ps.map V.ref):=Ag.of BD.lst;have y:(ps.map V.ref).length=2^c:=by rw[A_,BD.len]
 have b3:(((ps.map V.ref).length:Nat):Int).toNat=2^c:=by rw[y,Dm]
 have sl:Sz 7 (((ps.map V.ref).length:Nat):Int):=by unfold Sz;rw[ZX,y];lia
 have eD:((((ps.map V.ref).length:Nat):Int)*2^(kk:Int).toNat)=((2^(c+kk):Nat):Int):=by rw[y,Dm,HW];simp
 obtain⟨mn,i1,h0⟩:=Oq b (show 0<7 by decide)
 refine⟨_,(@Av _ _ _ _ _ (@BR _ _ 3 _ _ _ _ nd rfl (Or.inl rfl) (Af Dp (pv 2) Ac) rfl (.inl rfl))
  (@Av _ _ _ _ _ (@BR _ _ 4 _ _ _ _ nd rfl (Or.inl rfl) (Ow Tp rfl B.list PJ (Aa (pv 0) Ae)) rfl (.inl rfl))
  (@Av _ _ _ _ _ (@BR _ _ 5 _ _ _ _ nd rfl (Or.inl rfl) (Af bM (@Ga _ _ _ _ (Aa (@Ci _ _ _ _ _ (Aa Ac (Aa Ac (Aa Ac (Aa Ac (Aa Ac Ae)))))) Ae)) (Af Ft (CG Eh rfl B.len EY (Aa (pv 0) Ae)) (pv 1))) rfl (.inl rfl))
  (@Av _ _ _ _ _ (Hy PassesOwn.never rfl (J3 rfl B.range (Aa (CG Eh rfl B.len EY (Aa (pv 0) Ae)) Ae)) (CV (i:=6) nd rfl (Or.inl rfl))
   (@Aj _ _ _ (TV (Aw Eo (pv 0) (pv 6) (λ_ _=>rfl)) (bO (pv 5) (Af Ft (pv 6) (pv 1)) aF))))
  (@Av _ _ _ _ _ (@BR _ _ 7 _ _ _ _ nd rfl (Or.inl rfl) (Ay cS d rfl (Aa (pv 0) (Aa (pv 1) Ae))) rfl (.inl rfl))
  (@Av _ _ _ _ _ (B_ (PW.pt (HJ (Fo (Dd (Ay cD d rfl (Aa (pv 7) (Aa (CG Eh rfl B.len EY (Aa (pv 5) Ae)) Ae))))) (Je (CP (RN d.units) (pv 7) (pv 5) (Ad _)))))
   (@Aj _ _ _ (BJ Cw))
   CJ)
  (@Av _ _ _ _ _ (@BR _ _ 8 _ _ _ _ nd rfl (Or.inl rfl) (Ay cW d rfl (Aa (pv 7) (Aa (pv 1) Ae))) rfl (.inl rfl))
  (@Av _ _ _ _ _ (@BR _ _ 9 _ _ _ _ nd rfl (Or.inl rfl) (Ay cW d rfl (Aa (pv 0) (Aa Ac Ae))) rfl (.inl rfl))
  (@Av _ _ _ _ _ (B_ (PW.pt (HJ (Fo (Dd (Ay cD d rfl (Aa (pv 8) (Aa (CG Eh rfl B.len EY (Aa (pv 0) Ae)) Ae))))) (Je (CP (RN d.units) (pv 8) (pv 0) (Ad _)))))
   (@Aj _ _ _ (BJ Cw))
   CJ)
  (@Av _ _ _ _ _ (B_ (PW.pt (HJ (Fo (Dd (Ay cD d rfl (Aa (pv 9) (Aa (CG Eh rfl B.len EY (Aa (pv 0) Ae)) Ae))))) (Je (CP (RN d.units) (pv 9) (pv 0) (Ad _)))))
   (@Aj _ _ _ (BJ Cw))
   CJ)
  (@Av _ _ _ _ _ (Hy PassesOwn.never rfl (GC (@Ga _ _ _ _ (Aa (pv 7) (Aa (pv 8) (Aa (pv 9) Ae))))) (CV (i:=10) nd rfl (Or.inl rfl))
   (@Aj _ _ _ (H_ (QB Pj Rt Ru QV (pv 10) (Aa Ac Ae)))))
  (@Av _ _ _ _ _ (B_ (CP (RN d.units) (pv 0) (pv 4) (Ad _))
   (@Aj _ _ _ (BJ Cw))
   CJ)
  (@Dv _ _ _ _ _ (@BR _ _ 11 _ _ _ _ nd rfl (Or.inl rfl) (Af Gq (QH Ph Od Pk QW (CG Eh rfl B.len EY (Aa (pv 0) Ae))) Ac) rfl (.inl rfl))
  (@Dv _ _ _ _ _ (@BR _ _ 12 _ _ _ _ nd rfl (Or.inl rfl) (Af Dp (Af Iw (pv 2) Ac) (CG Eh rfl B.len EY (Aa (pv 5) Ae))) rfl (.inl rfl))
  (@Dv _ _ _ _ _ (@BR _ _ 12 _ _ _ _ nd rfl (Or.inl rfl) (Af Dn (pv 12) (Ow xu rfl B.int Xf (Aa (QG (Fv Df (Af Dp (pv 12) (Af Ft Ac (pv 1))) Ac (Ad _)) (Kq (Fv RT (pv 1) Ac (Ad _)))) Ae))) rfl (.inl rfl))
  (@Av _ _ _ _ _ (TV (@Ci _ _ _ _ _ (Aa Ac (Aa Ac (Aa Ac (Aa Ac (Aa Ac Ae)))))) (bO (pv 5) (pv 12) aF))
  (@Dv _ _ _ _ _ (B_ (CP RT (Af Dn (pv 11) (pv 3)) Ac (Ad _))
   (@Aj _ _ _ (B_ (CP (Va d.units) (Ay c8 d rfl (Aa Ac (Aa (pv 0) (Aa (@Ga _ _ _ _ Ae) (Aa (pv 3) Ae))))) (@Ci _ _ _ _ _ (Aa Cw (Aa Cw Ae))) (Ad _))
    (@Aj _ _ _ (BJ Cw))
    CJ))
   CJ)
  (@Dv _ _ _ _ _ (B_ (CP YQ (pv 3) (pv 11) (Ad _))
   (@Aj _ _ _ (B_ (CP (Va d.units) (Ay c8 d rfl (Aa Ac (Aa (pv 0) (Aa (@Ga _ _ _ _ Ae) (Aa (pv 3) Ae))))) (@Ci _ _ _ _ _ (Aa Cw (Aa Cw Ae))) (Ad _))
    (@Aj _ _ _ (BJ Cw))
    CJ))
   CJ)
  (@Av _ _ _ _ _ (@BR _ _ 13 _ _ _ _ nd rfl (Or.inl rfl) (Af Oi (@Ga _ _ _ _ (Aa (@Ci _ _ _ _ _ (Aa Ac (Aa Ac (Aa Ac (Aa Ac (Aa Ac Ae)))))) Ae)) (Af bM (@Ga _ _ _ _ (Aa (@Ci _ _ _ _ _ (Aa Ac (Aa Ac (Aa Ac (Aa Ac (Aa Ac Ae)))))) Ae)) (Af Gq (CG Eh rfl B.len EY (Aa (pv 0) Ae)) Ac))) rfl (.inl rfl))
  (@Av _ _ _ _ _ (B_ (CP (Va d.units) (Ay c8 d rfl (Aa Ac (Aa (pv 13) (Aa (@Ga _ _ _ _ Ae) (Aa (pv 11) Ae))))) (@Ci _ _ _ _ _ (Aa Cw (Aa Cw Ae))) (Ad _))
   (@Aj _ _ _ (BJ Cw))
   CJ)
  (@Aj _ _ _ (BJ (YT (Fv Df (pv 1) Ac (Ad _)) (Kq (Fv (nU d.units) (Ay c8 d rfl (Aa Ac (Aa (pv 5) (Aa (@Ga _ _ _ _ Ae) (Aa (pv 1) Ae))))) (@Ci _ _ _ _ _ (Aa Cw (Aa Cw Ae))) (Ad _)))))))))))))))))))))))))),?_⟩
 try dsimp only[CN]
 refine⟨_,O,_,_,O,O,jX,?_⟩;refine⟨_,O,l,_,O,.inl SL,λA h5=>?_⟩;have s1:=Ao h5 (.lst (ps.map V.ref));have BK:Bu K (upd H A (.lst (ps.map V.ref))) A ps g c N M:=⟨Al,BD.len,BD.vals.same s1,BD.ok⟩;generalize upd H A (.lst (ps.map V.ref))=H1 at s1 BK ⊢;refine⟨t5,λtz f1=>⟨Dz (show 1<=64 by decide),λl1 d0=>?_⟩⟩;have s2:=Ao f1 (tA Zz);have z2:CZ K (upd H1 tz (tA Zz)) tz Zz:=CZ.of Al;have s3:=Ao d0 (.lst [V.ref tz]);refine⟨_,O,l,_,O,.inl (((s1.trans s2).trans s3).seq SL),_,O,_,_,O,O,⟨7,sl,by lia,by lia⟩,l1,_,_,O,O,Al,?_,?_,?_,λld a3=>?_⟩
 ·exact ZD (show (-(2^63):Int)<=0 by decide) (show 0<=(((ps.map V.ref).length:Nat):Int)*2^(kk:Int).toNat by rw[eD];exact Qx _)
 ·show (((ps.map V.ref).length:Nat):Int)*2^(kk:Int).toNat<2^63;rw[eD];lia
 ·show 1*((((ps.map V.ref).length:Nat):Int)*2^(kk:Int).toNat).toNat<=sizeLine;rw[eD,Dm,PN];exact Dz f7
 rw[eD,Dm,pQ];have s4:=Ao a3 (.lst ((List.replicate (2^(c+kk)) tz).map V.ref));have S4:=((s1.trans s2).trans s3).trans s4;have e7:H ld=none:=J2 ((s1.trans s2).trans s3) a3;have B4:Bu K (upd (upd (upd H1 tz (tA Zz)) l1 (.lst [V.ref tz])) ld (.lst ((List.replicate (2^(c+kk)) tz).map V.ref))) ld (List.replicate (2^(c+kk)) tz) (λ_=>Zz) (c+kk) N M:=zY Al ((z2.same s3).same s4) Rz;have e':=BK.same ((s2.trans s3).trans s4);generalize upd (upd (upd H1 tz (tA Zz)) l1 (.lst [V.ref tz])) ld (.lst ((List.replicate (2^(c+kk)) tz).map V.ref))=H4 at S4 B4 e' ⊢;have f3:A≠ld:=λz=>by have:=BK.lst;rw[z]at this;have q:=(s2.trans s3) _ _ this;rw[a3]at q;cases q
 clear s2 s3 s4 z2 f1 d0;refine⟨_,O,l,_,O,.inl (S4.seq SL),_,O,by rw[y];lia,by rw[y];lia,Tf (n:=(((ps.map V.ref).length:Nat):Int).toNat) (λi σ H'=>Same H H'/\Bu K H' A ps g c N M/\∃(qs:U5) (v:Option V),Bu K H' ld qs (λv=>if v / 2^kk<i then wf kk g v else Zz) (c+kk) N M/\σ=[some (.ref l),some (.int kk),some (.int b),some (.int (b%7)),some (.ref A),some (.ref ld),v,none,none,none,none,none,none,none]) ⟨S4,e',_,none,B4.congr λv _=>by rw[if_neg (NP _)],O⟩ ?_ ?_⟩
 ·rintro i σ H5 hi ⟨Y,a0,qs,v,B5,rfl⟩;rw[b3]at hi;obtain⟨pi,i3,ei,ai⟩:=(BD.same Y).at hi;have e1:((0+(i:Int))*2^(kk:Int).toNat)=((i*2^kk:Nat):Int):=by rw[KJ,Dm];simp
  have si:Sz 7 (0+(i:Int)):=by unfold Sz;lia
  have hj:i*2^kk<2^(c+kk):=by rw[HW];exact Ut hi pk
  refine⟨_,O,_,O,l,_,_,_,O,O,Ag.of (Y _ _ BD.lst),(by rw[KJ];exact ai),_,O,_,O,_,O,_,_,O,O,⟨7,si,by lia,by lia⟩,ld,_,_,i*2^kk,O,O,B5.lst,(by
   show Nm (qs.map V.ref).length ((0+(i:Int))*2^(kk:Int).toNat)=_
   rw[e1,A_,B5.len]
   exact Zu hj),?_⟩
  have B6:=B5.put (j:=i*2^kk) ei (BD.ok i hi);refine⟨Dy Y e7,TJ a0 B5.lst f3,_,_,B6.congr λv hv=>?_,O⟩;show (if v=i*2^kk then g i else if v / 2^kk<i then wf kk g v else Zz)=if v / 2^kk<i+1 then wf kk g v else Zz;by_cases e:v=i*2^kk
  ·subst e;rw[if_pos rfl,Za _ pk,if_pos (Oa i),TX i hi]
  ·rw[if_neg e];by_cases e2:v / 2^kk<i
   ·rw[if_pos e2,if_pos (by lia)]
   ·rw[if_neg e2];by_cases e3:v / 2^kk<i+1
    ·have e4:v / 2^kk=i:=by lia
     have:v%2^kk≠0:=λz=>e (by have:=ZP v (2^kk);rw[e4,z,La,Lb]at this;exact this.symm);rw[if_pos e3,MK this]
    ·rw[if_neg e3]
 rintro σ H5 ⟨Y,a0,qs,v6,B5,rfl⟩;rw[b3]at B5;have B5:Bu K H5 ld qs (wf kk g) (c+kk) N M:=B5.congr λv hv=>if_pos (Qy (by rw[Lb,<-HW];exact hv));have d4:=BD.same Y;refine⟨_,O,_,O,l,ps,g,c,kk,N,M,O,d4,ck,λu H6 qf nf S6 BF=>?_⟩;have f6:c+kk-kk=c:=Wz _ _;have B6:=B5.same S6;have c0:(((qs.map V.ref).length:Nat):Int)=((2^(c+kk):Nat):Int):=by rw[A_,B5.len]
 refine⟨_,O,_,O,ld,_,O,.inl (Ag.of B6.lst),u,qf,_,c+kk,N,M,_,O,c0,BF,ck,W0u Lk,λH7 S7=>⟨_,O,Bd ?_⟩⟩;have T:=BF.same S7;have B7:=B6.same S7;refine⟨_,O,_,O,u,ld,qf,qs,_,_,O,O,T.lst,B7.lst,JC T,JC B7,_,O,FQ (λz=>absurd rfl (Jt z)) (λ_=>?_)⟩;refine⟨_,O,_,O,u,qf,_,c+kk,kk,N,M,O,T,ck,by lia,λw _ h=>MK h,λs H8 qb nb S8 BB=>?_⟩;rw[f6]at BB;have BB:Bu K H8 s qb g c N M:=BB.congr λw hw=>TX w hw;have b8:=((Y.trans S6).trans S7).trans S8;refine⟨_,O,l,ps,g,c,0,N,M,O,BD.same b8,c6,c1,λw _ h=>absurd (Wk w) h,λo H9 qx ns S9 BS=>?_⟩;have BS:Bu K H9 o qx g c N M:=BS.congr λw _=>by show g (w*1)=g w;rw[Nat.mul_one]
 have d7:=b8.trans S9;have b9:=BD.same d7;have b2:(((ps.map V.ref).length:Nat):Int)=((2^c:Nat):Int):=by rw[y]
 have c5:=BB.same S9;refine⟨_,O,_,O,l,_,O,.inl (Ag.of b9.lst),s,qb,g,c,N,M,_,O,b2,c5,c6,Lk,λi0 f=>⟨_,O,Bd ?_⟩⟩;have L:=c5.same f;have R:=b9.same f;refine⟨_,O,_,O,s,l,qb,ps,_,_,O,O,L.lst,R.lst,JC L,JC R,_,O,FQ (λz=>absurd rfl (Jt z)) (λ_=>?_)⟩;have a7:=BS.same f;refine⟨_,O,_,O,l,_,O,.inl (Ag.of R.lst),o,qx,g,c,N,M,_,O,b2,a7,c6,Lk,λd6 D=>⟨_,O,Bd ?_⟩⟩;have J:=a7.same D;have a8:=R.same D;refine⟨_,O,_,O,o,l,qx,ps,_,_,O,O,J.lst,a8.lst,JC J,JC a8,_,O,FQ (λz=>absurd rfl (Jt z)) (λ_=>?_)⟩;refine⟨_,O,_,O,_,O,Dz (show 3<=64 by decide),λlq a5=>?_⟩;have c7:=((((S6.trans S7).trans S8).trans S9).trans f).trans D;have Z:=Ao a5 (.lst [.ref u,.ref s,.ref o]);have c4:upd d6 lq (.lst [.ref u,.ref s,.ref o]) lq=some (.lst [.ref u,.ref s,.ref o]):=Al;have d8:=((d7.trans f).trans D).trans Z;have hF:=Z _ _ ((((S8.trans S9).trans f).trans D) _ _ T.lst);have hB:=Z _ _ (D _ _ L.lst);have hS:=Z _ _ J.lst;have b5:=a0.same (c7.trans Z);have b4:=B5.same (c7.trans Z);have b7:=S8 _ _ T.lst;have n1:=K5 T.lst nb;have n2:=K5 b7 ns;have n3:=K5 BB.lst ns;have d1:=K5 B5.lst nf;have d2:=K5 B7.lst nb;have d3:=K5 (S8 _ _ B7.lst) ns;have k1:=K5 a0.lst nf;have k2:=K5 (a0.same (S6.trans S7)).lst nb;have k3:=K5 (a0.same ((S6.trans S7).trans S8)).lst ns;have q1:=K5 (((S9.trans f).trans D) _ _ b7) a5;have q2:=K5 (D _ _ L.lst) a5;have q3:=K5 J.lst a5;have f0:H u=none:=J2 Y nf;have b0:H s=none:=J2 ((Y.trans S6).trans S7) nb;have x0:H o=none:=J2 b8 ns;have zF:(qf.map V.ref).length<sizeLine:=DK (show (qf.map V.ref).length<128 by rw[A_,BF.len];lia) (by decide);have zB:(qb.map V.ref).length<sizeLine:=DK (show (qb.map V.ref).length<128 by rw[A_,BB.len];lia) (by decide);have zS:(qx.map V.ref).length<sizeLine:=DK (show (qx.map V.ref).length<128 by rw[A_,BS.len];lia) (by decide);generalize upd d6 lq (.lst [.ref u,.ref s,.ref o])=H12 at *;clear Z a5;refine⟨lq,O,⟨_,Ag.of c4⟩,Ly (K:=K) (a:=lq) (xs:=[.ref u,.ref s,.ref o]) (λi σ H'=>Same H H'/\Bu K H' A ps g c N M/\Bu K H' ld qs (wf kk g) (c+kk) N M/\H' lq=some (.lst [.ref u,.ref s,.ref o])/\(i<=0->H' u=some (.lst (qf.map V.ref)))/\(i<=1->H' s=some (.lst (qb.map V.ref)))/\(i<=2->H' o=some (.lst (qx.map V.ref)))/\∃v,σ=[some (.ref l),some (.int kk),some (.int b),some (.int (b%7)),some (.ref A),some (.ref ld),v6,some (.ref u),some (.ref s),some (.ref o),v,none,none,none]) ⟨d8,b5,b4,c4,λ_=>hF,λ_=>hB,λ_=>hS,none,O⟩ (λi σ H' _ e=>Ag.of e.2.2.2.1) ?_ ?_⟩
 ·rintro i x σ H' hx ⟨W,bk,bd,aq,hf,hb,hs,v,rfl⟩;match i,hx with
  | 0,hx =>
   obtain rfl:V.ref u=x:=by simpa using hx
   have e:=hf (by decide);exact⟨_,O,.inl ⟨O,_,Ag.of e⟩,u,_,_,O,O,e,zF,Dy W f0,TJ bk e k1,TJ bd e d1,(by rw[Cj q1.symm];exact aq),λz=>absurd z (by decide),λ_=>(by rw[Cj n1.symm];exact hb (by decide)),λ_=>(by rw[Cj n2.symm];exact hs (by decide)),_,O⟩
  | 1,hx =>
   obtain rfl:V.ref s=x:=by simpa using hx
   have e:=hb (by decide);exact⟨_,O,.inl ⟨O,_,Ag.of e⟩,s,_,_,O,O,e,zB,Dy W b0,TJ bk e k2,TJ bd e d2,(by rw[Cj q2.symm];exact aq),λz=>absurd z (by decide),λz=>absurd z (by decide),λ_=>(by rw[Cj n3.symm];exact hs (by decide)),_,O⟩
  | 2,hx =>
   obtain rfl:V.ref o=x:=by simpa using hx
   have e:=hs (by decide);exact⟨_,O,.inl ⟨O,_,Ag.of e⟩,o,_,_,O,O,e,zS,Dy W x0,TJ bk e k3,TJ bd e d3,(by rw[Cj q3.symm];exact aq),λz=>absurd z (by decide),λz=>absurd z (by decide),λz=>absurd z (by decide),_,O⟩
  | j+3,hx=>simp at hx
 rintro σ H' ⟨W,bk,bd,_,_,_,_,v,rfl⟩;clear b7 n1 n2 n3 d1 d2 d3 k1 k2 k3 q1 q2 q3 f0 b0 x0 zF zB zS b5 b4 hF hB hS d8 c4 J a8 a7 R L c5 b9 BS BB B7 T B6 BF d4 a0 B5;have a4:=BD.same W;refine⟨_,O,_,O,l,A,ps,ps,_,_,O,O,a4.lst,bk.lst,JC a4,JC bk,_,O,FQ (λz=>absurd rfl (Jt z)) (λ_=>?_)⟩;refine⟨λσ H2=>H2=H'/\σ=[some (.ref l),some (.int kk),some (.int b),some (.int mn),some (.ref A),some (.ref ld),v6,some (.ref u),some (.ref s),some (.ref o),v,some (.int c),none,none],⟨_,O,l,_,O,.inl (Ag.of a4.lst),O,_,O,O,_,_,O,O,?_⟩,?_⟩
 ·refine⟨O,?_⟩;show [some (V.ref l),some (.int kk),some (.int b),some (.int (b%7)),some (.ref A),some (.ref ld),v6,some (.ref u),some (.ref s),some (.ref o),v,some (.int (((Builtin.Int.intBits (((ps.map V.ref).length:Nat):Int):Nat):Int)-1)),none,none]=_;rw[y,X4 c6,show (((c+1:Nat):Int)-1)=(c:Int) by lia,show b%7=(mn:Int) from h0]
 rintro σ H2 ⟨rfl,rfl⟩;obtain⟨a1,b1,h6⟩:=Oq (b / 7) (show 0<2^(c+kk) from Cv _);refine⟨λσ H'=>H'=H2/\σ=[some (.ref l),some (.int kk),some (.int b),some (.int mn),some (.ref A),some (.ref ld),v6,some (.ref u),some (.ref s),some (.ref o),v,some (.int c),some (.int a1),none],⟨_,O,_,_,O,O,⟨by decide,by decide⟩,_,O,ld,_,O,.inl (Ag.of bd.lst),_,_,O,O,(by rw[c0];have:=Cv (c+kk);lia),O,?_⟩,?_⟩
 ·show [some (V.ref l),some (.int kk),some (.int b),some (.int mn),some (.ref A),some (.ref ld),v6,some (.ref u),some (.ref s),some (.ref o),v,some (.int c),some (.int (b / 7%(((qs.map V.ref).length:Nat):Int))),none]=_;rw[c0,h6]
 rintro σ H2 ⟨rfl,rfl⟩;have e2:((1:Int)*2^(kk:Int).toNat)=((2^kk:Nat):Int):=by rw[N8,Dm];simp
 have ep:2^(c+kk)=2^c*2^kk:=HW _ _ _;refine⟨λσ H'=>H'=H2/\∃a2:Nat,a2<2^(c+kk)/\(0<kk->a2%2^kk≠0)/\σ=[some (.ref l),some (.int kk),some (.int b),some (.int mn),some (.ref A),some (.ref ld),v6,some (.ref u),some (.ref s),some (.ref o),v,some (.int c),some (.int a2),none],?_,?_⟩
 ·refine⟨_,O,_,O,_,O,_,_,O,O,⟨1,GJ,by lia,by lia⟩,_,_,O,O,(by rw[e2];lia),O,_,O,Jz (λz=>?_) (λz=>?_)⟩
  ·have z:=V.int.inj (Kd z);rw[e2]at z;have z1:((a1%2^kk:Nat):Int)=0:=by rw[<-z];simp
   have z:a1%2^kk=0:=by lia
   refine⟨_,O,_,_,O,O,.inr ⟨_,O,_,_,O,O,O,?_⟩⟩;by_cases k0:0<kk
   ·refine⟨a1+1,?_,λ_=>?_,?_⟩
    ·have h2:2<=2^kk:=Ek (show 2<=2^1 by decide) (G3 (by decide) k0);obtain⟨t,ht⟩:=Nat.dvd_of_mod_eq_zero z;rw[ep,ht,Lb (2^kk) t]at b1;have:=Nat.lt_of_mul_lt_mul_right b1;have h3:=Nat.mul_le_mul_right (2^kk) (show t+1<=2^c from this);rw[Nat.add_mul,PN]at h3;rw[ep,ht,Lb (2^kk) t];lia
    ·have h2:2<=2^kk:=Ek (show 2<=2^1 by decide) (G3 (by decide) k0);rw[Nat.add_mod,z,OD,Nat.mod_mod,NQ (by lia)];decide
    ·show [some (V.ref l),some (.int kk),some (.int b),some (.int mn),some (.ref A),some (.ref ld),v6,some (.ref u),some (.ref s),some (.ref o),v,some (.int c),some (.int ((a1:Int)+(if decide ((0:Int)<(kk:Int)) then 1 else 0))),none]=_;rw[Ec (show (0:Int)<(kk:Int) by lia),if_pos rfl];rfl
   ·refine⟨a1,b1,λh=>absurd h k0,?_⟩;show [some (V.ref l),some (.int kk),some (.int b),some (.int mn),some (.ref A),some (.ref ld),v6,some (.ref u),some (.ref s),some (.ref o),v,some (.int c),some (.int ((a1:Int)+(if decide ((0:Int)<(kk:Int)) then 1 else 0))),none]=_;rw[Cr (show ¬ (0:Int)<(kk:Int) by lia),if_neg (by decide),mX]
  ·have z:=Jt z;refine .inr ⟨_,O,_,_,O,O,O,a1,b1,λ_ h=>z ?_,?_⟩
   ·show V.int ((a1:Int)%((1:Int)*2^(kk:Int).toNat))=V.int 0;rw[e2,show ((a1:Int)%((2^kk:Nat):Int))=((a1%2^kk:Nat):Int) from rfl,h];rfl
   ·show [some (V.ref l),some (.int kk),some (.int b),some (.int mn),some (.ref A),some (.ref ld),v6,some (.ref u),some (.ref s),some (.ref o),v,some (.int c),some (.int ((a1:Int)+0)),none]=_;rw[mX]
 rintro σ H2 ⟨rfl,a2,c9,f5,rfl⟩;refine⟨t5,λto e6=>?_⟩;have s3:=Ao e6 (tA ((1,0,0,0),0));have t3:CZ K (upd H2 to (tA ((1,0,0,0),0))) to ((1,0,0,0),0):=CZ.of Al;have a9:=bd.same s3;have h4:=bk.same s3;have S3:=W.trans s3;have h7:=a4.same s3;refine⟨_,O,_,O,ld,_,_,a2,O,O,a9.lst,(by rw[A_,a9.len];exact Zu c9),?_⟩;have o1:FN N (M:Int) ((1,0,0,0),0):=(Pq (m:=M)).mono N1 (PL _);have f':=a9.put (j:=a2) t3 o1;have S4:Same H (upd (upd H2 to (tA ((1,0,0,0),0))) ld (.lst ((qs.map V.ref).set a2 (V.ref to)))):=Dy S3 e7;generalize upd (upd H2 to (tA ((1,0,0,0),0))) ld (.lst ((qs.map V.ref).set a2 (V.ref to)))=H4 at *;clear s3 t3 a9 h4 S3 h7 bd bk a4 W e6;let I:L2.St->Hp->Prop:=λσ H'=>Same H4 H'/\σ=[some (.ref l),some (.int kk),some (.int b),some (.int mn),some (.ref A),some (.ref ld),v6,some (.ref u),some (.ref s),some (.ref o),v,some (.int c),some (.int a2),none];refine⟨I,⟨_,O,_,O,_,_,O,O,_,_,O,O,_,O,BP (λz=>?_) (λ_=>⟨Same.refl _,O⟩)⟩,?_⟩
 ·refine⟨_,O,Dz (show 0<=64 by decide),λle a6=>⟨_,O,?_⟩⟩;have s5:=Ao a6 (.lst []);refine⟨2,l,le,mn,O,(λC E hE Q'=>.inr (.inr (.inl ⟨O,O,l,ps,g,c,mn,N,M,O,BD.same (S4.trans s5),c6,by lia,hE _ (Same.refl _)⟩))),λr H' W d=>⟨(show 2<=sizeLine by decide),λt ht=>?_⟩⟩;exact Vk (Ao ht _ _ _ d) Al ⟨_,O,Bd ⟨(s5.trans W).trans (Ao ht _),O⟩⟩
 rintro σ H5 ⟨Y,rfl⟩;refine⟨I,⟨_,O,_,O,_,_,O,O,_,O,BP (λz=>?_) (λ_=>⟨Y,O⟩)⟩,?_⟩
 ·refine⟨_,O,Dz (show 0<=64 by decide),λle a6=>⟨_,O,?_⟩⟩;have s5:=Ao a6 (.lst []);refine⟨3,l,le,mn,O,(λC E hE Q'=>.inr (.inr (.inr ⟨O,O,l,ps,g,c,mn,N,M,O,BD.same ((S4.trans Y).trans s5),c6,by lia,.inl (by lia),hE⟩))),λr H' W d=>⟨(show 2<=sizeLine by decide),λt ht=>?_⟩⟩;exact Vk (Ao ht _ _ _ d) Al ⟨_,O,Bd ⟨((Y.trans s5).trans W).trans (Ao ht _),O⟩⟩
 rintro σ H5 ⟨Y,rfl⟩;have b6:=S4.trans Y;have h9:=f'.same Y;refine⟨t5,λS f2=>⟨Dz (show 1<=64 by decide),λm1 e5=>⟨t5,λt2 e0=>⟨Dz (show 1<=64 by decide),λm2 d5=>?_⟩⟩⟩⟩;have u1:=Ao f2 (tA ((1,0,0,0),0));have v1:CZ K (upd H5 S (tA ((1,0,0,0),0))) S ((1,0,0,0),0):=CZ.of Al;have u2:=Ao e5 (.lst [V.ref S]);have w2:upd (upd H5 S (tA ((1,0,0,0),0))) m1 (.lst [V.ref S]) m1=some (.lst [V.ref S]):=Al;have u3:=Ao e0 (tA Zz);have v3:CZ K (upd (upd (upd H5 S (tA ((1,0,0,0),0))) m1 (.lst [V.ref S])) t2 (tA Zz)) t2 Zz:=CZ.of Al;have u4:=Ao d5 (.lst [V.ref t2]);have w4:upd (upd (upd (upd H5 S (tA ((1,0,0,0),0))) m1 (.lst [V.ref S])) t2 (tA Zz)) m2 (.lst [V.ref t2]) m2=some (.lst [V.ref t2]):=Al;have U:=((u1.trans u2).trans u3).trans u4;have V1:=v1.same ((u2.trans u3).trans u4);have V3:=v3.same u4;have W2:=(u3.trans u4) _ _ w2;generalize upd (upd (upd (upd H5 S (tA ((1,0,0,0),0))) m1 (.lst [V.ref S])) t2 (tA Zz)) m2 (.lst [V.ref t2])=H6 at U V1 V3 W2 w4 ⊢;clear u1 v1 u2 w2 u3 v3 u4 f2 e5 e0 d5;have eL:((((ps.map V.ref).length:Nat):Int)-1)=((2^c-1:Nat):Int):=by rw[y];lia
 refine⟨_,O,l,_,O,.inl ((b6.trans U).seq SL),_,_,O,O,m2,_,_,O,O,w4,?_,?_,?_,λm3 h8=>?_⟩
 ·show (-(2^63):Int)<=(((ps.map V.ref).length:Nat):Int)-1;lia
 ·show (((ps.map V.ref).length:Nat):Int)-1<2^63;rw[y];lia
 ·show 1*((((ps.map V.ref).length:Nat):Int)-1).toNat<=sizeLine;rw[eL,Dm,PN];exact Dz (by lia)
 rw[eL,Dm,pQ];have u7:=Ao h8 (.lst ((List.replicate (2^c-1) t2).map V.ref));refine⟨m1,m3,_,_,O,O,u7 _ _ W2,Al,?_,λm4 f8=>?_⟩
 ·rw[A_,Ze];exact Dz (show 1+(2^c-1)<=64 by lia)
 have u8:=Ao f8 (.lst ([V.ref S]++(List.replicate (2^c-1) t2).map V.ref));have BA:Bu K (upd (upd H6 m3 (.lst ((List.replicate (2^c-1) t2).map V.ref))) m4 (.lst ([V.ref S]++(List.replicate (2^c-1) t2).map V.ref))) m4 (S::List.replicate (2^c-1) t2) (λi=>if i=0 then ((1,0,0,0),0) else Zz) c N M:=by
  refine⟨by rw[Al];rfl,by rw[Lf,Ze];lia,λi p hp=>?_,λi _=>?_⟩
  ·cases i with
   | zero=>cases hp;exact(V1.same u7).same u8
   | succ j =>
    rw[List.getElem?_cons_succ,Zh]at hp;split at hp<;>cases hp;exact(V3.same u7).same u8
  ·show FN N M (if i=0 then _ else _);split
   ·exact o1
   ·exact Rz
 have U8:=(U.trans u7).trans u8;generalize upd (upd H6 m3 (.lst ((List.replicate (2^c-1) t2).map V.ref))) m4 (.lst ([V.ref S]++(List.replicate (2^c-1) t2).map V.ref))=H8 at *;refine⟨_,O,Dz (show 0<=64 by decide),λle a6=>⟨_,O,?_⟩⟩;have s9:=Ao a6 (.lst []);refine⟨3,m4,le,c,O,(λC E hE Q'=>.inr (.inr (.inr ⟨O,O,m4,_,_,c,c,N,M,O,BA.same s9,c6,c6,.inl (CT _),hE⟩))),λr H' W d=>⟨(show 2<=sizeLine by decide),λt ht=>?_⟩⟩;refine Vk (Ao ht _ _ _ d) Al ⟨_,O,Bd ?_⟩;have f:=((U8.trans s9).trans W).trans (Ao ht (.tup [.bl true,.bl false]));generalize upd H' t (.tup [.bl true,.bl false])=i0 at f ⊢;refine⟨_,O,O,_,O,Iv (λe=>kq _ (b6.trans f)) (λe=>?_)⟩;have k0:0<kk:=by lia
 refine⟨_,O,Dz (show 0<=64 by decide),λf4 e8=>⟨_,O,?_⟩⟩;have d9:=Ao e8 (.lst []);have e9:=(h9.same f).same d9;refine⟨3,ld,f4,kk,O,(λC E hE Q'=>.inr (.inr (.inr ⟨O,O,ld,_,_,c+kk,kk,N,M,O,e9,ck,by lia,.inr ⟨by lia,a2,c9,f5 k0,by show (if a2=a2 then _ else _)≠_;rw[if_pos rfl];decide⟩,hE⟩))),λr H' W d=>⟨(show 2<=sizeLine by decide),λt ht=>?_⟩⟩;exact qT (Ao ht _ _ _ d) Al (kq _ ((((b6.trans f).trans d9).trans W).trans (Ao ht _)))
end
end Ah
namespace Ah
open L2 Ba Am Pc Dj
open Ar (top Bs Bu CZ Bg Fw J4 JQ)
open C_ (Mk)
open CK (Gr)
variable{f:Nat->A5}{c n m:Nat}
theorem yp{K:U0}{H:Hp}{l r:Y4}{ps:U5}(b:Bu K H l ps f c n m)(hr:H r=some (.lst ((ps++ps).map V.ref))):Bu K H r (ps++ps) (λi=>if i<2^c then f i else f (i-2^c)) (c+1) n m:=by
 refine⟨hr,by rw[Ed,b.len,M_];lia,λi p hp=>?_,λi hi=>?_⟩
 ·show CZ K H p (if i<2^c then f i else f (i-2^c));by_cases q:i<2^c
  ·rw[Rv (by rw[b.len];exact q)]at hp;rw[if_pos q];exact b.vals i p hp
  ·rw[Us (by rw[b.len];lia),b.len]at hp;rw[if_neg q];exact b.vals _ p hp
 ·rw[M_]at hi;show FN n m (if i<2^c then f i else f (i-2^c));split
  ·exact b.ok i ‹_›
  ·exact b.ok _ (by lia)
theorem _Y{K:U0}{H:Hp}{l r:Y4}{ps:U5}(b:Bu K H l ps f (c+1) n m)(hr:H r=some (.lst ((ps.take (2^c)).map V.ref))):Bu K H r (ps.take (2^c)) f c n m:=by
 have e:2^(c+1)=2^c*2:=M_ ..;refine⟨hr,by rw[Ka,b.len];lia,λi p hp=>?_,λi hi=>b.ok i (by lia)⟩;rw[List.getElem?_take]at hp;split at hp
 ·exact b.vals i p hp
 ·cases hp
noncomputable def vf (K:U0):L2.Sp:=λvs H Q _=>∃(l lr:Y4) (ps:U5) (f:Nat->A5) (c N n m:Nat) (pr:U5) (ms:List Mk),vs=[.ref l,.ref lr,.int N]/\Bu K H l ps f c n m/\1<=c/\N<=6/\Gr N H lr pr ms/\c+ms.length=N/\100<=n/\∀H',Same H H'->Q (.bl true) H'
section
variable {P:W3}{w:W6}{K:U0}{mg:U6}{base:Heap}{k:Nat}{h:Heap}
theorem X3b(F:Ab K "_law_sizes" (top 104) .none)(X:K.In h)(G:Ng h mg)(B:Bs mg)(c8:Ai P w K mg base k "_law_refused" ["_law_way","_law_board","_law_rows","_law_cells"] (G5 K true)):Ai P w K mg base (k+1) "_law_sizes" ["_law_board","_law_rows","_law_cells"] (vf K):=by
 refine F.cal X G ["_law_board","_law_rows","_law_cells","_law_spoiled","_law_some","_law_wide_here"] λnd H vs Q E R h=>?_;obtain⟨l,y,ps,g,c,N,n,m,pr,ms,rfl,Y,c1,N6,T,cN,n1,kq⟩:=h;have c6:c<=6:=by lia
 have p6:=Dr c6;obtain⟨d,rfl⟩:∃d,c=d+1:=⟨c-1,by lia⟩;have ed:2^(d+1)=2^d*2:=M_ ..;have SL:Ag K H l (ps.map V.ref):=Ag.of Y.lst;have L:(ps.map V.ref).length=2^(d+1):=by rw[A_,Y.len]
 refine⟨_,(@Dv _ _ _ _ _ (@BR _ _ 3 _ _ _ _ nd rfl (Or.inl rfl) (@Ga _ _ _ _ (Aa (Af Oi (pv 0) (pv 0)) (Aa (Nv Xx (pv 0) Lx (K7 (Af Iw (CG Eh rfl B.len EY (Aa (pv 0) Ae)) Ac))) Ae))) rfl (.inl rfl))
  (@Av _ _ _ _ _ (Hy PassesOwn.never rfl (GC (pv 3)) (CV (i:=4) nd rfl (Or.inl rfl))
   (@Aj _ _ _ (B_ (PW.pt (Oj (X2n Og Og Ac (CG Eh rfl B.len EY (Aa (pv 4) Ae)) Ac) (RM (Dd (CG (QT rfl) rfl B.any PB (Aa (HY rfl (Bl.of (Nc:=["_law_one"]) (mp:=[none]) (by kernel_rfl)) (GC (pv 4)) (λ_ _ _ _=>(CV (i:=0) (show (["_law_one"]:W5).Nodup by decide +kernel) rfl (Or.inl rfl))) (λ_ _ _ _=>(Fv (X7 R.units) (pv 0) (@Ci _ _ _ _ _ (Aa Ac (Aa Ac (Aa Ac (Aa Ac (Aa Ac Ae)))))) (Ad _)))) Ae))))))
    (@Aj _ _ _ (B_ (CP (Va R.units) (Ay c8 R rfl (Aa Ac (Aa (pv 4) (Aa (pv 1) (Aa (pv 2) Ae))))) (@Ci _ _ _ _ _ (Aa Cw (Aa Cw Ae))) (Ad _))
     (@Aj _ _ _ (BJ Cw))
     CJ))
    CJ)))
  (@Av _ _ _ _ _ (@BR _ _ 5 _ _ _ _ nd rfl (Or.inl rfl) (Af bM (@Ga _ _ _ _ (Aa (@Ci _ _ _ _ _ (Aa Ac (Aa Ac (Aa Ac (Aa Ac (Aa Ac Ae)))))) Ae)) (Af Ft Ac (pv 2))) rfl (.inl rfl))
  (@Dv _ _ _ _ _ (B_ (PW.pt (Oj (CP Og (pv 2) Ac (Ad _)) (RM (CP (Va R.units) (Ay c8 R rfl (Aa Ac (Aa (Af Oi (pv 5) (pv 5)) (Aa (pv 1) (Aa (pv 2) Ae))))) (@Ci _ _ _ _ _ (Aa Cw (Aa Cw Ae))) (Ad _)))))
   (@Aj _ _ _ (BJ Cw))
   CJ)
  (@Aj _ _ _ (BJ (YT (Fv Df (pv 2) Ac (Ad _)) (Kq (Fv (nU R.units) (Ay c8 R rfl (Aa Ac (Aa (Nv Xx (pv 5) Lx (K7 (Af Iw (CG Eh rfl B.len EY (Aa (pv 5) Ae)) Ac))) (Aa (pv 1) (Aa (pv 2) Ae))))) (@Ci _ _ _ _ _ (Aa Cw (Aa Cw Ae))) (Ad _)))))))))),?_⟩
 try dsimp only[CN]
 refine⟨λσ H'=>Same H H'/\∃o l2 A:Addr,H' o=some (.lst [.ref l2,.ref A])/\H' l2=some (.lst ((ps++ps).map V.ref))/\H' A=some (.lst ((ps.take (2^d)).map V.ref))/\σ=[some (.ref l),some (.ref y),some (.int N),some (.ref o),none,none],?_,?_⟩
 ·refine⟨_,O,_,O,l,l,_,_,O,O,Y.lst,Y.lst,?_,λl2 h2=>?_⟩
  ·rw[L];exact Ek (ZK p6 p6) (by decide)
  have s2:=Ao h2 (.lst (ps.map V.ref++ps.map V.ref));refine⟨_,O,_,O,l,_,O,.inl (s2.seq SL),_,_,O,O,⟨by decide,by decide⟩,_,O,l,_,O,s2.seq SL,λA hh=>?_⟩;have eh:(((ps.map V.ref).length:Nat):Int) / 2=((2^d:Nat):Int):=by rw[L,ed];lia
  rw[eh,CK.bC (by rw[L];lia),<-Wr];have s3:=Ao hh (.lst ((ps.take (2^d)).map V.ref));refine⟨Dz (show 2<=64 by decide),λo hq=>?_⟩;have s4:=Ao hq (.lst [V.ref l2,.ref A]);exact⟨(s2.trans s3).trans s4,o,l2,A,Al,by rw[Cg];exact s4 _ _ (s3 _ _ Al),s4 _ _ Al,O⟩
 rintro σ H1 ⟨S1,o,l2,A,hq,h2,hh,rfl⟩;have B2:=yp (Y.same S1) h2;have BH:=_Y (Y.same S1) hh;have T1:=T.same S1;have SQ:Ag K H1 o [.ref l2,.ref A]:=Ag.of hq;refine⟨_,O,o,O,⟨_,SQ⟩,Ly (K:=K) (a:=o) (xs:=[.ref l2,.ref A]) (λi σ H'=>Same H1 H'/\∃v:Option V,σ=[some (.ref l),some (.ref y),some (.int N),some (.ref o),v,none]) ⟨Same.refl _,none,O⟩ (λi σ H' _ e=>e.1.seq SQ) ?_ ?_⟩
 ·rintro i x σ H2 M ⟨D,v,rfl⟩;obtain⟨I,qx,gx,cx,rfl,S,cn⟩:∃(I:Y4) (qx:U5) (gx:Nat->A5) (cx:Nat),x=.ref I/\Bu K H2 I qx gx cx n m/\cx+ms.length≠N/\cx<=7:=by
   match i,M with
   | 0,M=>exact⟨l2,_,_,d+1+1,by simpa using M.symm,B2.same D,by lia,by lia⟩
   | 1,M=>exact⟨A,_,_,d,by simpa using M.symm,BH.same D,by lia,by lia⟩
   | j+2,M=>simp at M
  have SX:Ag K H2 I (qx.map V.ref):=Ag.of S.lst;have a9:(qx.map V.ref).length=2^cx:=by rw[A_,S.len]
  have pX:=Cv cx;refine⟨_,O,I,_,O,.inl SX,_,_,O,O,_,O,BP (λz=>⟨_,_,O,O,_,O,BP (λz2=>?_) (λ_=>⟨D,_,O⟩)⟩) (λ_=>⟨_,O,Bd ⟨D,_,O⟩⟩)⟩;rw[a9]at z2;have Z:cx<=6:=by
   refine Nat.le_of_lt_succ (Classical.byContradiction λq=>?_);have e7:cx=7:=by lia
   rw[e7]at z2;exact absurd z2 (by decide)
  refine⟨_,O,I,O,⟨_,SX⟩,λacc a2=>qW (fr:=[]) S.lst (by rw[S.len];exact Dr Z) S.vals a2 (λp x H3 N hp kN=>⟨_,O,t5,λt f=>⟨p,t,l5 x,[0,0,0,0,0],O,O,hp.same (Ao f _),Ax.of Al,kN t f⟩⟩) λH3 S3 a3=>?_⟩;refine⟨acc,_,O,Ag.of a3,_,O,Jz (λ_=>?_) (λ_=>⟨D.trans S3,_,O⟩)⟩;have a1:=D.trans S3;refine⟨_,O,_,O,_,O,0,I,y,N,O,(λC E hE Q'=>.inl ⟨O,I,y,N,O,by lia,N6,.inr ⟨O,qx,gx,cx,n,m,pr,ms,S.same S3,Z,T1.same a1,cn.1⟩,hE⟩),λr H4 U a8=>⟨(show 2<=sizeLine by decide),λt f=>?_⟩⟩;exact Vk (Ao f _ _ _ a8) Al ⟨_,O,Bd ⟨(a1.trans U).trans (Ao f _),_,O⟩⟩
 rintro σ H2 ⟨D,v,rfl⟩;have b0:=S1.trans D;have eN:((1:Int)*2^(N:Int).toNat)=((2^N:Nat):Int):=by rw[N8,Dm];simp
 have pN:=Dr N6;have b1:=Cv N;refine⟨t5,λb a5=>⟨Dz (show 1<=64 by decide),λm1 a0=>?_⟩⟩;have u1:=Ao a5 (tA ((1,0,0,0),0));have v1:CZ K (upd H2 b (tA ((1,0,0,0),0))) b ((1,0,0,0),0):=CZ.of Al;have u2:=Ao a0 (.lst [V.ref b]);refine⟨_,O,_,_,O,O,⟨1,GJ,by lia,by lia⟩,m1,_,_,O,O,Al,?_,?_,?_,λs a4=>?_⟩
 ·show (-(2^63):Int)<=(1:Int)*2^(N:Int).toNat;rw[eN];lia
 ·show (1:Int)*2^(N:Int).toNat<2^63;rw[eN];lia
 ·show 1*((1:Int)*2^(N:Int).toNat).toNat<=sizeLine;rw[eN,Dm,PN];exact Dz pN
 rw[eN,Dm,pQ];have u3:=Ao a4 (.lst ((List.replicate (2^N) b).map V.ref));have o1:FN n (m:Int) ((1,0,0,0),0):=(Pq (m:=m)).mono n1 (PL _);have W:Bu K (upd (upd (upd H2 b (tA ((1,0,0,0),0))) m1 (.lst [V.ref b])) s (.lst ((List.replicate (2^N) b).map V.ref))) s (List.replicate (2^N) b) (λ_=>((1,0,0,0),0)) N n m:=zY Al ((v1.same u2).same u3) o1;have u:=b0.trans ((u1.trans u2).trans u3);generalize upd (upd (upd H2 b (tA ((1,0,0,0),0))) m1 (.lst [V.ref b])) s (.lst ((List.replicate (2^N) b).map V.ref))=H3 at u W ⊢;clear u1 v1 u2 u3 a5 a0 a4;have T3:=T.same u;have J:((List.replicate (2^N) b).map V.ref).length=2^N:=by rw[A_,W.len]
 refine⟨λσ H'=>Same H3 H'/\σ=[some (.ref l),some (.ref y),some (.int N),some (.ref o),v,some (.ref s)],⟨_,O,_,_,O,O,_,O,BP (λz=>?_) (λ_=>⟨Same.refl _,O⟩)⟩,?_⟩
 ·refine⟨_,O,_,O,s,s,_,_,O,O,W.lst,W.lst,?_,λl4 h4=>?_⟩
  ·rw[J];exact Ek (ZK pN pN) (by decide)
  have s4:=Ao h4 (.lst ((List.replicate (2^N) b).map V.ref++(List.replicate (2^N) b).map V.ref));have B4:=yp (W.same s4) (r:=l4) (by rw[Cg];exact Al);refine⟨_,O,_,O,1,l4,y,N,O,(λC E hE Q'=>.inr (.inl ⟨O,l4,y,N,O,by lia,N6,.inr (.inl ⟨O,_,_,N+1,n,m,pr,ms,B4,by lia,T3.same s4,by lia⟩),hE⟩)),λr H5 S5 a7=>⟨(show 2<=sizeLine by decide),λt f=>?_⟩⟩;exact Vk (Ao f _ _ _ a7) Al ⟨_,O,Bd ⟨(s4.trans S5).trans (Ao f _),O⟩⟩
 rintro σ H4 ⟨U,rfl⟩;refine⟨_,O,O,_,O,Iv (λ_=>kq _ (u.trans U)) (λe=>?_)⟩;obtain⟨e1,rfl⟩:∃e,N=e+1:=⟨N-1,by lia⟩;have B4:=W.same U;have SW:Ag K H4 s ((List.replicate (2^(e1+1)) b).map V.ref):=Ag.of B4.lst;have ee:2^(e1+1)=2^e1*2:=M_ ..;have eh:((((List.replicate (2^(e1+1)) b).map V.ref).length:Nat):Int) / 2=((2^e1:Nat):Int):=by rw[J,ee];lia
 refine⟨_,O,_,O,s,_,O,.inl SW,_,_,O,O,⟨by decide,by decide⟩,_,O,s,_,O,SW,λl5 h5=>?_⟩;rw[eh,CK.bC (by rw[J];lia),<-Wr];have s5:=Ao h5 (.lst (((List.replicate (2^(e1+1)) b).take (2^e1)).map V.ref));have B5:=_Y (B4.same s5) (r:=l5) Al;refine⟨_,O,_,O,1,l5,y,e1+1,O,(λC E hE Q'=>.inr (.inl ⟨O,l5,y,e1+1,O,by lia,N6,.inr (.inl ⟨O,_,_,e1,n,m,pr,ms,B5,by lia,(T3.same U).same s5,by lia⟩),hE⟩)),λr H6 S6 a6=>⟨(show 2<=sizeLine by decide),λt f=>?_⟩⟩;exact qT (Ao f _ _ _ a6) Al (kq _ ((((u.trans U).trans s5).trans S6).trans (Ao f _)))
end
end Ah
namespace Ah
open L2 Ba Am Pc Dj
open Ar (top Bs Bu CZ Bg Fw Steps J4 JQ)
open C_ (Mk)
open CK (Gr T3)
def Ys (ms:List Mk)(N:Nat)(G:Nat->A5):Prop:=∀i a,i<ms.length->a<N ->
 ((ms.getD i (0,0,0)).2.1.testBit a=true->∀g,Steps N ((Et.bwd (Aq ms N)).map gm) (layW (0,0,2^a) G) g->J5 g N ms.length) /\
 ((ms.getD i (0,0,0)).2.1.testBit a=false->(ms.getD i (0,0,0)).2.2.testBit a=true->∀g,Steps N ((Et.bwd (Aq ms N)).map gm) (layW (0,2^a,0) G) g->J5 g N ms.length)
noncomputable def Qm (K:U0):L2.Sp:=λvs H Q _=>∃(l lr:Y4) (ps:U5) (f:Nat->A5) (N n m:Nat) (pr:U5) (ms:List Mk) (z:Int),vs=[.ref l,.ref lr,.int N,.int z]/\Bu K H l ps f N n m/\1<=N/\N<=6/\m<=300/\n<=210000/\Gr N H lr pr ms/\ms.length<N/\Ys ms N f/\∀H',Same H H'->Q (.bl true) H'
theorem W1f{ms:List Mk}(I:DW.Indep ms){i:Nat}(hi:i<ms.length):(ms.getD i (0,0,0)).2.1 ||| (ms.getD i (0,0,0)).2.2≠0:=λz=>by
 have hf:(ms.getD i (0,0,0)).2.1=0:=by have:=Nat.left_le_or (n:=(ms.getD i (0,0,0)).2.1) (m:=(ms.getD i (0,0,0)).2.2);lia
 have a:(ms.getD i (0,0,0)).2.2=0:=by have:=Nat.right_le_or (n:=(ms.getD i (0,0,0)).2.1) (m:=(ms.getD i (0,0,0)).2.2);lia
 have e:∀(fs:W8),fs.getD i 0=0->∀n,DW.xs fs (λj=>decide (j=i)) n=0:=λfs h n=>by
  induction n with
  | zero=>rfl
  | succ n ih =>
   rw[Vr.Vo,ih,ZG];by_cases q:n=i
   ·subst q;rw[h];split<;>rfl
   ·rw[Cr q];rfl
 have:=I (λj=>decide (j=i)) (e _ (by rw[DW.fget];exact hf) _) (e _ (by rw[DW.O9];exact a) _) i hi;simp at this
section
variable {P:W3}{w:W6}{K:U0}{mg:U6}{base:Heap}{k:Nat}{h:Heap}
theorem W1w(F:Ab K "_law_hit" (top 105) .none)(X:K.In h)(G:Ng h mg)(B:Bs mg)(cY:Ai P w K mg base k "_law_laid" ["_law_board","_law_mark"] (pY K))(c8:Ai P w K mg base k "_law_refused" ["_law_way","_law_board","_law_rows","_law_cells"] (G5 K true)):Ai P w K mg base (k+1) "_law_hit" ["_law_found","_law_rows","_law_cells","_law_cell"] (Qm K):=by
 refine F.cal X G ["_law_found","_law_rows","_law_cells","_law_cell","_law_q","_law_f","_law_s","_law_at","_law_mark"] λd H vs Q E Z h=>?_;obtain⟨l,c,ps,g,N,n,m,pr,ms,z,rfl,BD,N1,N6,m3,n2,T,cN,Y,kq⟩:=h;have L:Ag K H c (pr.map V.ref):=Ag.of T.lst;have o:(pr.map V.ref).length=ms.length:=by rw[A_,T.mks.length]
 refine⟨_,(@Av _ _ _ _ _ (B_ (CP Df (CG Eh rfl B.len EY (Aa (pv 1) Ae)) Ac (Ad _))
   (@Aj _ _ _ (BJ Cw))
   CJ)
  (@Av _ _ _ _ _ (TV (Aw Eo (pv 1) (Af Dp (pv 3) (CG Eh rfl B.len EY (Aa (pv 1) Ae))) (λ_ _=>rfl)) (RD rfl (GF (CV (i:=4) d rfl (Or.inl rfl)) (GF (CV (i:=5) d rfl (Or.inl rfl)) (GF (CV (i:=6) d rfl (Or.inl rfl)) RK)))))
  (@Av _ _ _ _ _ (@BR _ _ 7 _ _ _ _ d rfl (Or.inl rfl) Ac rfl (.inl rfl))
  (@Av _ _ _ _ _ (Vc PassesOwn.never (CP Df (Af Di (Af Jd (Af Nq (pv 5) (pv 6)) (pv 7)) Ac) Ac (Ad _))
   (@Aj _ _ _ (@BR _ _ 7 _ _ _ _ d rfl (Or.inl rfl) (Af Dn (pv 7) Ac) rfl (.inl rfl))))
  (@Av _ _ _ _ _ (@BR _ _ 8 _ _ _ _ d rfl (Or.inl rfl) (@Ci _ _ _ _ _ (Aa Ac (Aa Ac (Aa (Af Ft Ac (pv 7)) Ae)))) rfl (.inl rfl))
  (@Dv _ _ _ _ _ (B_ (CP Df (Af Di (Af Jd (pv 5) (pv 7)) Ac) Ac (Ad _))
   (@Aj _ _ _ (@BR _ _ 8 _ _ _ _ d rfl (Or.inl rfl) (@Ci _ _ _ _ _ (Aa Ac (Aa (Af Ft Ac (pv 7)) (Aa Ac Ae)))) rfl (.inl rfl)))
   CJ)
  (@Aj _ _ _ (BJ (Fv (nU Z.units) (Ay c8 Z rfl (Aa Ac (Aa (Ay cY Z rfl (Aa (pv 0) (Aa (pv 8) Ae))) (Aa (pv 1) (Aa (pv 2) Ae))))) (@Ci _ _ _ _ _ (Aa Cw (Aa Cw Ae))) (Ad _)))))))))),?_⟩
 try dsimp only[CN]
 refine⟨_,O,c,_,O,.inl L,O,_,O,Iv (λ_=>kq H (Same.refl _)) (λe=>?_)⟩;have l0:0<ms.length:=by rw[o]at e;lia
 obtain⟨i,hi,ei⟩:=Oq z l0;obtain⟨p,hp,pm⟩:=T.mks.at hi;have ok:=T.ok _ (JV.getD_mem hi);have W:=W1f T.tb.ind hi;have HI:=λa=>Y i a hi;generalize ms.getD i (0,0,0)=mk at *
 refine⟨_,O,_,O,_,O,c,_,O,.inl L,_,_,O,O,(by rw[o];lia),c,_,_,.ref p,O,O,L,(by
  show HF (pr.map V.ref) (z%(((pr.map V.ref).length:Nat):Int))=_
  rw[o,ei];exact Ol (by rw[Cz,hp];rfl)),?_⟩
 refine⟨p,_,O,Ax.of pm,O,_,_,O,_,_,O,_,_,O,O,?_⟩;obtain⟨q,fl,sg⟩:=mk;have R:fl<2^N:=ok.f;have U:sg<2^N:=ok.s;have W:fl ||| sg≠0:=W
 have bt:∀a:Nat,V.int (Builtin.bitAnd (Builtin.bitOr (fl:Int) (sg:Int) / 2^(a:Int).toNat) 1)=V.int 0↔(fl ||| sg).testBit a=false:=λa=>by
  rw[Ar.JK,Xo];cases (fl ||| sg).testBit a<;>simp
 have bf:∀a:Nat,V.int (Builtin.bitAnd ((fl:Int) / 2^(a:Int).toNat) 1)=V.int 0↔fl.testBit a=false:=λa=>by
  rw[Xo];cases fl.testBit a<;>simp
 refine⟨λmm σ H'=>H'=H/\∃a:Nat,mm=N-a/\a<=N/\(∀j,j<a->(fl ||| sg).testBit j=false)/\σ=[some (.ref l),some (.ref c),some (.int N),some (.int z),some (.int q),some (.int fl),some (.int sg),some (.int a),none],⟨_,O,0,O,Fy _,λj D=>absurd D (NP _),O⟩,?_⟩;rintro mm σ H' ⟨rfl,a,rfl,aN,hz,rfl⟩
 have I:a<N:=Classical.byContradiction λhn=>W (Kf λj=>by
  rw[Kw]
  by_cases D:j<a
  ·exact hz j D
  ·exact Ur (DK (Nat.or_lt_two_pow R U) (G3 (by decide) (by lia))))
 refine⟨_,O,_,O,_,_,O,O,_,O,_,_,O,O,by lia,_,_,O,O,O,_,O,Jz (λy=>?_) (λy=>?_)⟩
 ·have y:=(bt a).mp (Kd y);refine⟨_,λ_ _ h=>h,_,O,_,_,O,O,N-(a+1),by lia,O,a+1,O,I,λj D=>?_,O⟩;by_cases ej:j=a
  ·rw[ej];exact y
  ·exact hz j (by lia)
 have y:(fl ||| sg).testBit a=true:=by
  cases u:(fl ||| sg).testBit a with
  | true=>rfl
  | false=>exact absurd ((bt a).mpr u) (Jt y)
 rw[Nat.testBit_or]at y;have e2:((1:Int)*2^(a:Int).toNat)=((2^a:Nat):Int):=by rw[N8,Dm];simp
 refine⟨_,O,_,_,O,O,⟨1,GJ,by lia,by lia⟩,(show 3<=sizeLine by decide),λt1 A=>?_⟩;refine⟨λσ H2=>Same H' H2/\∃(J:Y4) (v s':Nat),H2 J=some (.tup [V.int ((0:Nat):Int),.int (v:Int),.int (s':Int)])/\v<2^N/\(∀g',Steps N ((Et.bwd (Aq ms N)).map gm) (layW (0,v,s') g) g'->J5 g' N ms.length)/\σ=[some (.ref l),some (.ref c),some (.int N),some (.int z),some (.int q),some (.int fl),some (.int sg),some (.int a),some (.ref J)],⟨_,O,_,O,_,_,O,O,by lia,_,_,O,O,O,_,O,Jz (λb=>?_) (λb=>?_)⟩,?_⟩
 ·have b:=(bf a).mp (Kd b);rw[b,Qs]at y;refine⟨_,O,_,_,O,O,⟨1,GJ,by lia,by lia⟩,(show 3<=sizeLine by decide),λt2 S=>?_⟩;have s2:=Ao S (.tup [V.int 0,.int ((1:Int)*2^(a:Int).toNat),.int 0]);refine⟨(Ao A _).trans s2,t2,2^a,0,?_,Kg (by decide) I,(HI a I).2 b y,O⟩;rw[Al];show some (HO.tup [V.int 0,V.int ((1:Int)*2^(a:Int).toNat),V.int 0])=_;rw[e2];rfl
 ·have b:fl.testBit a=true:=by
   cases u:fl.testBit a with
   | true=>rfl
   | false=>exact absurd ((bf a).mpr u) (Jt b)
  refine⟨Ao A _,t1,0,2^a,?_,Cv N,(HI a I).1 b,O⟩;rw[Al];show some (HO.tup [V.int 0,V.int 0,V.int ((1:Int)*2^(a:Int).toNat)])=_;rw[e2];rfl
 rintro σ H2 ⟨S2,J,v,s',hm,a0,lo,rfl⟩;refine⟨_,O,_,O,l,J,ps,g,N,n,m,0,v,s',O,BD.same S2,N6,Ax.of hm,a0,λr3 H3 qs nr S3 B3=>?_⟩;have x:=S2.trans S3;refine⟨_,O,_,O,1,r3,c,N,O,(λC E hE Q'=>.inr (.inl ⟨O,r3,c,N,O,N1,N6,.inr (.inr ⟨O,qs,_,n,m,pr,ms,B3,m3,n2,T.same x,cN,lo⟩),hE⟩)),λr H4 S4 M=>⟨(show 2<=sizeLine by decide),λt u=>?_⟩⟩;exact qT (Ao u _ _ _ M) Al (kq _ ((x.trans S4).trans (Ao u _)))
end
end Ah
namespace Ah
open L2 Ba Am Pc Dj
open Ar (top Bs Bu CZ Bg Fw Steps Step Gm Mix Cu va vb vc vd Bc Bq Az)
open DY (Dg V4 sm En Bp)
open C_ (Mk Bj Ak Br lay)
open JW (bk)
open Et (bwd)
variable{c:Nat}{f:Nat->A5}
theorem W3z{k:Nat}(a:Fw c f):Fw (c+k) (wf k f):=λw b=>by
 unfold wf;split
 ·refine a _ ?_;rw[HW]at b;exact Qy (by rw[Lb];exact b)
 ·exact⟨PL 0,.inl rfl⟩
noncomputable def vF (c L:Nat) (f:Nat->A5):DY.Bv:=λw=>if w<2^c then sm (2^(L-(f w).2.toNat)) (f w).1 else (0,0,0,0)
theorem fJ{L:Nat}(a:Fw c f)(le:∀w,w<2^c->(f w).2<=(L:Int)):∀w,w<2^c->Vl L (vF c L f w) (f w):=λw b=>by
 unfold vF;rw[if_pos b];exact Vl.of (a w b).nn (le w b)
variable{n:Nat}{v:V4}{x:A5}
theorem vq(h:Vl n v x)(hx:x=Zz):v=(0,0,0,0):=by
 obtain⟨f,h⟩:=h;have p:=zP ((max f n:Int)-n);obtain⟨a,b,c,d⟩:=h (max f n) (by lia);subst hx;have e:∀y:Int,(0:Int)*p2 (max f ↑n-(0:Int))=y*p2 (max f ↑n-↑n)->y=0:=λy g=>by
  rw[Int.zero_mul]at g;rcases iU.mp g.symm with h | h
  ·exact h
  ·lia
 obtain⟨v1,v2,j,i⟩:=v;have a:=e _ a;have b:=e _ b;have c:=e _ c;have d:=e _ d;simp only at a b c d;rw[a,b,c,d]
theorem W0w(h:Vl n v x)(a:Hr x.1.1 x.1.2.1 x.1.2.2.1 x.1.2.2.2 x.2)(hx:x≠Zz):v≠(0,0,0,0):=λz=>hx (Vl.same h (by
 rw[z]
 exact⟨0,λM _=>by unfold va vb vc vd;simp⟩) a ⟨PL 0,.inl rfl⟩)
theorem Yu(h:v≠(0,0,0,0)):DY.E v≠(0,0,0,0):=λz=>h (by
 obtain⟨a,b,c,d⟩:=v
 unfold DY.E at z
 simp only[Prod.mk.injEq]at z
 obtain⟨i,e,g,f⟩:=z
 rw[e,g,f,show d=0 by lia])
theorem qQ:∀(n:Nat) {v:V4},v≠(0,0,0,0)->En n v≠(0,0,0,0)
 | 0,_,h=>h
 | n+1,v,h=>by first | exact qQ n (Yu h) | exact Yu (qQ n h)
theorem W1b{k:Int}(hk:k≠0)(h:v≠(0,0,0,0)):sm k v≠(0,0,0,0):=λz=>h (by
 obtain⟨a,b,c,d⟩:=v
 unfold sm at z
 simp only[Prod.mk.injEq]at z
 obtain⟨l,f,i,g⟩:=z
 have e:∀y:Int,k*y=0->y=0:=λy j=>(iU.mp j).resolve_left hk
 rw[e _ l,e _ f,e _ i,e _ g])
theorem W6h(x:Mv):bk (bk x)=x:=by
 cases x with
 | turn a j=>show Mv.turn a (8-(8-j))=_;rw[show 8-(8-j)=j by lia]
 | _=>rfl
theorem X9k(r:List Mv):bwd (bwd r)=r:=by
 unfold Et.bwd;rw[<-List.map_reverse,List.reverse_reverse,KN,show bk ∘ bk=id from funext W6h,List.map_id]
theorem nW{r:List Mv}(F:DY.Bv)(o:∀x∈bwd r,Dg c x):Bp (bwd r) (Bp r F)=λw=>sm (4^r.length) (F w):=by
 have:=UW.wB (r:=bwd r) F λx a=>(o x a).1;rw[X9k,UW._Z]at this;exact this
variable{i:Nat}
theorem uy{w:Nat}(hi:i<n)(h:w.testBit i=true):w%2^n≠0:=λz=>by
 have e:=Zi w n i;rw[z,Kw,h,Ec hi]at e;cases e
theorem X6m{k L:Nat}(hi:i<k):lay (0,0,2^i) (vF (c+k) L (wf k f))=vF (c+k) L (wf k f):=funext λw=>by
 rw[UW.W4w];cases b:w.testBit i with
 | false=>show sm 1 _=_;simp[sm]
 | true =>
  have z:vF (c+k) L (wf k f) w=(0,0,0,0):=by
   unfold vF;split
   ·rw[MK (uy hi b)];simp[sm]
   ·rfl
  rw[z];simp[sm]
theorem vA{c:Nat}:∀{row:List Mv}{m:Mk},(∀x∈row,Dg c x)->MF.Gf c m->MF.Gf c (Ak row m)
 | [],_,_,b=>b
 | x::row,m,o,b=>vA (row:=row) (λy a=>o y (.tail _ a)) (hbd x m (o x (.head _)) b)
theorem yc{F:Nat->Int}{a:Nat}:∀n,(∀j,j<n->F (a+j)=0)->Bc F (a+n)=Bc F a
 | 0,_=>rfl
 | n+1,h=>by
  show Bc F (a+n)+F (a+n)=Bc F a;rw[h n (by lia),yc n λj b=>h j (by lia),mX]
theorem qC{G:A5->Int}{k:Nat}{f:Nat->A5}(z:G Zz=0):∀n,Bc (λw=>G (wf k f w)) (n*2^k)=Bc (λw=>G (f w)) n
 | 0=>by rw[ZF];rfl
 | n+1=>by
  have p:=Cv k;have e:(n+1)*2^k=(n*2^k+1)+(2^k-1):=by rw[Nat.add_mul];lia
  rw[e,yc _ λj a=>?_]
  ·show Bc (λw=>G (wf k f w)) (n*2^k)+G (wf k f (n*2^k))=Bc (λw=>G (f w)) n+G (f n);rw[qC z n,TX (c:=n) n Nat.lt_two_pow_self]
  ·have:wf k f (n*2^k+1+j)=Zz:=MK (by
    rw[show n*2^k+1+j=(1+j)+n*2^k by lia,Nat.add_mul_mod_self_right,NQ (by lia)]
    lia)
   show G (wf k f (n*2^k+1+j))=0;rw[this,z]
structure Gd (ms:List Mk) (c N L:Nat) (f g:Nat->A5):Prop where
 c6:N<=6
 T:JV.QZ ms N
 l6:ms.length<=6
 cN:c+ms.length=N
 am:Fw c f
 le:∀w,w<2^c->(f w).2<=(L:Int)
 st:Steps N ((Aq ms N).map gm) (wf ms.length f) g
namespace Gd
variable {ms:List Mk}{c N L:Nat}{f g:Nat->A5}
theorem P_(d:Gd ms c N L f g):Fw N (wf ms.length f):=by have:=W3z (k:=ms.length) d.am;rw[d.cN]at this;exact this
theorem Zr(d:Gd ms c N L f g):∀w,w<2^N->(wf ms.length f w).2<=(L:Int):=λw a=>by
 unfold wf;split
 ·refine d.le _ ?_;rw[<-d.cN,HW]at a;exact Qy (by rw[Lb];exact a)
 ·exact Qx L
theorem vl(d:Gd ms c N L f g):(∀w,w<2^N->Vl (L+(Aq ms N).length) (Bp (Aq ms N) (vF N L (wf ms.length f)) w) (g w))/\Fw N g :=
 aH d.c6 (Nr d.c6 d.T d.l6).1 d.P_ (fJ d.P_ d.Zr) d.st
theorem keep(d:Gd ms c N L f g)(hi:i<ms.length)(ag:Fw N (layW (ms.getD i (0,0,0)) g)):∀w,w<2^N->layW (ms.getD i (0,0,0)) g w=g w:=by
 have LR:=YL d.c6 d.T;obtain⟨v,b,_⟩:=Nr d.c6 d.T d.l6;have bd:=d.T.bd _ (JV.getD_mem hi);obtain⟨l1,j⟩:=d.vl;have l2:=zE (m:=ms.getD i (0,0,0)) (⟨bd.k,bd.f,bd.s⟩:Jh N _) l1;have e:=pG (c:=N) (row:=Aq ms N) (vF N L (wf ms.length f)) (0,0,2^i) v b;have h:=X6m (c:=c) (k:=ms.length) (L:=L) (f:=f) hi;rw[d.cN]at h;rw[h,LR.mkd i hi]at e;intro w a;have q:=l2 w a;rw[<-e]at q;exact Vl.same q (l1 w a) (ag w a) (j w a)
theorem back(d:Gd ms c N L f g){h:Nat->A5}(s:Steps N ((bwd (Aq ms N)).map gm) g h):∀w,w<2^N->h w=wf ms.length f w:=by
 obtain⟨l1,i⟩:=d.vl;obtain⟨v,b,_⟩:=YX d.c6 d.T d.l6;obtain⟨l2,j⟩:=aH d.c6 v i l1 s;rw[nW _ v,UW._Z]at l2;intro w a;have q:=((fJ d.P_ d.Zr) w a).up ((Aq ms N).length+(Aq ms N).length);have e:((2:Int)^((Aq ms N).length+(Aq ms N).length))=4^(Aq ms N).length:=by rw[<-Nat.two_mul,Int.pow_mul];rfl
 rw[e,<-iG]at q;exact Vl.same (l2 w a) q (j w a) (d.P_ w a)
theorem hits(d:Gd ms c N L f g)(hl:MJ f c):Ys ms N g:=by
 obtain⟨l1,F⟩:=d.vl;obtain⟨D,H,_⟩:=Nr d.c6 d.T d.l6;obtain⟨v,b,_⟩:=YX d.c6 d.T d.l6;have LR:=YL d.c6 d.T;have m:∀(i:Nat) (l:Mk),i<ms.length->Jh N l->Et.cm (ms.getD i (0,0,0)) l=true->∀g2,Steps N ((bwd (Aq ms N)).map gm) (layW l g) g2->J5 g2 N ms.length:=λi l hi o cm g2 s=>by
  have I:Fw N (layW l g):=λw C=>Ar.o7 (v:=(g (w^^^l.2.1)).1) (F _ (Lh C o.f)) _;obtain⟨l2,J⟩:=aH d.c6 v I (zE o l1) s;have e:=pG (c:=N) (row:=bwd (Aq ms N)) (Bp (Aq ms N) (vF N L (wf ms.length f))) l v b;rw[e,nW _ v]at l2;have t:MF.Gf N (Ak (bwd (Aq ms N)) l):=vA v ⟨o.k,o.f,o.s⟩;have E:Ak (bwd (Aq ms N)) (ms.getD i (0,0,0))=(0,0,2^i):=by
   rw[<-LR.mkd i hi];exact Et.Z4 (λx p=>(D x p).1) H (by show 0<4;decide) λx n _ G=>fO.oW x n G
  have c2:=Et.pD (row:=bwd (Aq ms N)) (ms.getD i (0,0,0)) l (λx p=>(v x p).1) b;rw[E,cm]at c2;generalize Ak (bwd (Aq ms N)) l=m' at *;have tb:m'.2.1.testBit i=true:=by
   rw[<-Et.Sq m' i,<-c2];unfold Et.cm;simp[N_];exact Bool.xor_comm _ _
  obtain⟨j,u,B⟩:=hl;have r:j*2^ms.length<2^N:=by rw[<-d.cN,HW];exact Ut u (Cv _)
  have A:(j*2^ms.length)^^^m'.2.1<2^N:=Lh r t.f;refine⟨(j*2^ms.length)^^^m'.2.1,A,uy hi ?_,λz=>?_⟩
  ·rw[Es,tb,Lb,Nat.testBit_two_pow_mul,Cr (by lia)];rfl
  ·have q:=vq (l2 _ A) z;have q:En (2*m'.1+4*C_.bn (C_.bp ((((j*2^ms.length)^^^m'.2.1)^^^m'.2.1)&&&m'.2.2))) (sm (4^(Aq ms N).length) (vF N L (wf ms.length f) (((j*2^ms.length)^^^m'.2.1)^^^m'.2.1)))=(0,0,0,0):=q;rw[cj]at q;refine qQ _ (W1b ?_ (W0w (fJ d.P_ d.Zr _ r) (d.P_ _ r) ?_)) q
   ·exact PX (Wj (by decide))
   ·rw[TX j u];exact B
 intro i a hi y;refine⟨λh=>m i _ hi ⟨by show 0<4;decide,Cv N,Kg (by decide) y⟩ (by rw[Et.Sq];exact h),λ_ h=>m i _ hi ⟨by show 0<4;decide,Kg (by decide) y,Cv N⟩ (by rw[Et.nH];exact h)⟩
theorem Lk(d:Gd ms c N L f g)(hl:MJ f c):MJ g N:=Classical.byContradiction λl=>by
 obtain⟨l1,m⟩:=d.vl;obtain⟨v,b,_⟩:=YX d.c6 d.T d.l6;have z:∀w,w<2^N->Bp (Aq ms N) (vF N L (wf ms.length f)) w=(0,0,0,0):=λw a=>vq (l1 w a) (Classical.byContradiction λq=>l ⟨w,a,q⟩);have o:Yp.Out N (vF N L (wf ms.length f)):=λw a=>by unfold vF;rw[if_neg (by lia)];rfl
 have o2:=Yp.yP (Nr d.c6 d.T d.l6).1 o;have e:Bp (Aq ms N) (vF N L (wf ms.length f))=λ_=>Yq.z0:=funext λw=>by
  by_cases a:w<2^N
  ·exact z w a
  ·exact o2 w (by lia)
 have q:=nW (r:=Aq ms N) (vF N L (wf ms.length f)) v;rw[e,UW.uP]at q;obtain⟨j,h,k⟩:=hl;have i:j*2^ms.length<2^N:=by rw[<-d.cN,HW];exact Ut h (Cv _)
 have q:=congrFun q (j*2^ms.length);exact W1b (PX (Wj (by decide))) (W0w (fJ d.P_ d.Zr _ i) (d.P_ _ i) (by rw[TX j h];exact k)) q.symm
theorem hf(d:Gd ms c N L f g):HfE g f N c:=λM h1 h2=>by
 have i:0<=M:=ZD (d.am 0 (Cv c)).nn (h2 0 (Cv c));have a:∀w,w<2^N->(wf ms.length f w).2<=M:=λw a=>by
  unfold wf;split
  ·refine h2 _ ?_;rw[<-d.cN,HW]at a;exact Qy (by rw[Lb];exact a)
  ·exact i
 have H:=(Ar.Steps.hf d.c6 (λx b=>by obtain⟨y,h,rfl⟩:=GP.mp b;exact Yh ((Nr d.c6 d.T d.l6).1 y h)) d.P_ d.st).at h1 a;have e:2^N=2^c*2^ms.length:=by rw[<-d.cN,HW]
 refine⟨H.1.trans ?_,H.2.trans ?_⟩
 ·rw[e];exact qC (G:=λx=>Bq x M) (by unfold Bq va vb vc vd;simp) _
 ·rw[e];exact qC (G:=λx=>Az x M) (by unfold Az va vb vc vd;simp) _
end Gd
end Ah
set_option maxHeartbeats 2000000
namespace Ar
open L2
def J9 (K:U0)(n:Nat):Sp:=λvs H Q _=>∃(a:Y4) (ns:W0),vs=[.ref a]/\Ag K H a (ns.map V.int)/\ns.length<=n/\∀H',Q (.bl true) H'
end Ar
namespace Ah
open L2 Ba Am Pc Dj
open Ar (top Bs Bu CZ Bg Fw Steps Dh J4 JQ)
open C_ (Mk)
open CK (Gr FW T3 L3 Jg Tab)
variable{x:A5}
theorem qe{y:A5}(h:x.1.1=y.1.1/\x.1.2.1=y.1.2.1/\x.1.2.2.1=y.1.2.2.1/\x.1.2.2.2=y.1.2.2.2/\x.2=y.2):x=y:=by
 obtain⟨⟨a,b,c,d⟩,e⟩:=x;obtain⟨⟨a',b',c',d'⟩,f⟩:=y;obtain⟨rfl,rfl,rfl,rfl,rfl⟩:=h;rfl
theorem X4f{g:Int}(a:Hr x.1.1 x.1.2.1 x.1.2.2.1 x.1.2.2.2 x.2)(og:g%2=1):Hr (x.1.1*g) (x.1.2.1*g) (x.1.2.2.1*g) (x.1.2.2.2*g) x.2:=by
 have o:∀{t:Int},t%2=1->t*g%2=1:=λ{t} h=>by
  rw[Int.mul_emod,h,og];decide
 refine⟨a.nn,?_⟩;rcases a.odd with h | h | h | h | h
 ·exact .inl h
 ·exact .inr (.inl (o h))
 ·exact .inr (.inr (.inl (o h)))
 ·exact .inr (.inr (.inr (.inl (o h))))
 ·exact .inr (.inr (.inr (.inr (o h))))
theorem X4e{g:Int}(og:g%2=1)(nz:x≠Zz):((x.1.1*g,x.1.2.1*g,x.1.2.2.1*g,x.1.2.2.2*g),x.2)≠Zz:=by
 intro e;have g0:g≠0:=λz=>by rw[z]at og;cases og
 have z:∀{t:Int},t*g=0->t=0:=λ{t} h=>by
  rcases iU.mp h with q | q
  ·exact q
  ·exact absurd q g0
 have a:x.2=0:=congrArg (λt:A5=>t.2) e;refine nz (qe ⟨z (congrArg (λt:A5=>t.1.1) e),z (congrArg (λt:A5=>t.1.2.1) e),z (congrArg (λt:A5=>t.1.2.2.1) e),z (congrArg (λt:A5=>t.1.2.2.2) e),a⟩)
theorem pR{K:U0}{H:Hp}:∀{ps:U5}{ms:List Mk},FW H ps ms->Fi K H ps (ms.map CK.gb)
 | _,_,.nil=>.nil
 | _,_,.cons e r=>.cons (Ax.of e) (pR r)
theorem o_{K:U0}{H:Hp}{l:Y4}{ps:U5}{f:Nat->A5}{c n m n' m':Nat}(b:Bu K H l ps f c n m)(h:n<=n')(h':m<=m'):Bu K H l ps f c n' m':=⟨b.lst,b.len,b.vals,λi hi=>(b.ok i hi).mono h (by lia)⟩
theorem nA{P:W3}{w:W6}{K:U0}{mg:U6}{base:Heap}{k:Nat}(c:Ai P w K mg base k "is_even_mark" ["thing","cells"] (Ml K)):Ai P w K mg base k "is_even_mark" ["thing","cells"] CK.Mp:=CK.Ai.imp c λvs H Q E h=>by
 obtain⟨p,m,N,rfl,e,ok,a,q⟩:=h;refine⟨p,m,N,O,Ax.of e,⟨ok.q,ok.f,ok.s⟩,a,?_⟩;have z:decide (C_.ev m=0)=CK.SJ m:=by
  unfold CK.SJ C_.ev C_.bn C_.bp;by_cases q:pc (m.2.1&&&m.2.2)%2=1
  ·rw[Ec q,if_pos rfl];exact decide_eq_decide.mpr ⟨λh=>by lia,λh=>by lia⟩
  ·rw[Cr q,if_neg (by decide)];exact decide_eq_decide.mpr ⟨λh=>by lia,λh=>by lia⟩
 rw[z];exact q
variable{ms:List Mk}{m:Mk}{b:Bool}
theorem vm(hm:m∈ms)(ne:¬ JX.ev m)(t:Tab ms b):b=false:=by
 cases b with
 | false=>rfl
 | true=>exact absurd ((t.1 rfl).1 m hm) ne
theorem X6r(t:Tab ((m::ms)++[m]) b):b=false:=by
 cases b with
 | false=>rfl
 | true =>
  obtain⟨o,h1,a⟩:=(t.1 rfl).2.2 (m::ms).length m (by simp);have:=a m (by simp);lia
section
variable {P:W3}{w:W6}{K:U0}{mg:U6}{base:Heap}{k:Nat}{h:Heap}
theorem Mw:BZ ["_law_script","_law_head","_law_cells","_law_rows","_law_board","_law_by","_law_kept_here","_law_found","_law_row","_law_held","_law_back","_law_odd","_law_spoiled","_law_way"] ["_law_script"] (DG (top 106)):=fS
theorem W1v{n:Nat}{f:Y4}{fd:FuncData}(F:fV K "law" "law" (top 106) f fd)(B:Bs mg)(c9:Ai P w K mg base k "_law_cell_at" ["_law_script","_law_k"] (Jq K))(eC:Ai P w K mg base k "_law_kept" ["_law_cells","_law_most","_law_told"] (Mj K))(dF:Ai P w K mg base k "_law_board_by" ["_law_script","_law_cells"] (uR K))(dU:Ai P w K mg base k "_law_great" [] vX)(eF:Ai P w K mg base k "_law_wide" ["_law_board","_law_k","_law_far"] (Ma K))(dW:Ai P w K mg base k "_law_sizes" ["_law_board","_law_rows","_law_cells"] (vf K))(eU:Ai P w K mg base k "guarded" ["board","rows","cells"] (Qn K))(cD:Ai P w K mg base k "_law_is_board" ["_law_found","_law_many"] (Jl K))(dD:Ai P w K mg base k "_law_hefts_are" ["_law_board","_law_other"] (vY K))(cY:Ai P w K mg base k "_law_laid" ["_law_board","_law_mark"] (pY K))(d7:Ai P w K mg base k "run" ["board","row"] (Dh K))(cS:Ai P w K mg base k "widened" ["board","many"] (J8 K))(cO:Ai P w K mg base k "laid" ["rows","cells"] VN)(eK:Ai P w K mg base k "unguarded" ["board","rows","cells"] (Qh K))(eM:Ai P w K mg base k "_law_hit" ["_law_found","_law_rows","_law_cells","_law_cell"] (Qm K))(c8:Ai P w K mg base k "_law_refused" ["_law_way","_law_board","_law_rows","_law_cells"] (G5 K false)):
  Er P w K mg base LC (k+1) f fd ["_law_script"] (Ar.J9 K n):=by
 have nd:=Mw.nd;refine F.ok Mw (λvs H Q E h=>?_) (λcdv A outer s H vs Q E o h=>?_)
 ·obtain⟨a,ns,rfl,_⟩:=h;rfl
 obtain⟨G,Y,rfl,hS,m1,kk⟩:=h
 refine⟨_,(@Dv _ _ _ _ _ (@BR _ _ 1 _ _ _ _ nd rfl (Or.inl rfl) (Af Dp (Af J0 (Ay c9 o rfl (Aa (pv 0) (Aa Ac Ae))) Ac) Ac) rfl (.inl rfl))
  (@Av _ _ _ _ _ (@BR _ _ 2 _ _ _ _ nd rfl (Or.inl rfl) (Af Dn Ac (Af Dp (Af Iw (pv 1) Ac) Ac)) rfl (.inl rfl))
  (@Dv _ _ _ _ _ (B_ (CP Df (Af Dp (pv 1) Ac) Ac (Ad _))
   (@Aj _ _ _ (@BR _ _ 2 _ _ _ _ nd rfl (Or.inl rfl) (Af Dn Ac (Af Dp (Af Iw (pv 1) Ac) Ac)) rfl (.inl rfl)))
   CJ)
  (@Dv _ _ _ _ _ (@BR _ _ 3 _ _ _ _ nd rfl (Or.inl rfl) (Ay eC o rfl (Aa (pv 2) (Aa (CG (aM rfl) rfl B.min boot_min (Aa (Af Gq (pv 2) Ac) (Aa (Af Dp (Af Iw (pv 1) Ac) Ac) Ae))) (Aa (Nv Xx (pv 0) (K7 Ac) Lx) Ae)))) rfl (.inl rfl))
  (@Dv _ _ _ _ _ (@BR _ _ 4 _ _ _ _ nd rfl (Or.inl rfl) (Ay dF o rfl (Aa (pv 0) (Aa (Af Gq (pv 2) (CG Eh rfl B.len EY (Aa (pv 3) Ae))) Ae))) rfl (.inl rfl))
  (@Dv _ _ _ _ _ (B_ (CP Df (Af Dp (Af Iw (pv 1) Ac) Ac) Ac (Ad _))
   (@Av _ _ _ _ _ (@BR _ _ 5 _ _ _ _ nd rfl (Or.inr rfl) (X7m dU o rfl) rfl (.inl rfl))
   (@Aj _ _ _ (Td (i:=4) rfl nd rfl rfl (Bl.of (Nc:=["_law_a","_law_b","_law_c","_law_d","_law_h","_law_by"]) (mp:=[none,none,none,none,none,some 5]) (by kernel_rfl)) (GC (pv 4)) (λ_ _ _ _=>(X2p rfl (show (["_law_a","_law_b","_law_c","_law_d","_law_h","_law_by"]:W5).Nodup by decide +kernel) rfl rfl rfl rfl rfl rfl rfl rfl rfl rfl)) (λ_ _ _ _=>(@Ci _ _ _ _ _ (Aa (Af JN (pv 0) (pv 5)) (Aa (Af JN (pv 1) (pv 5)) (Aa (Af JN (pv 2) (pv 5)) (Aa (Af JN (pv 3) (pv 5)) (Aa (pv 4) Ae))))))) rfl)))
   CJ)
  (@Dv _ _ _ _ _ (@BR _ _ 6 _ _ _ _ nd rfl (Or.inl rfl) (@Ga _ _ _ _ (Aa (Ow Tp rfl B.list PJ (Aa (pv 4) Ae)) (Aa (Ow Tp rfl B.list PJ (Aa (pv 3) Ae)) Ae))) rfl (.inl rfl))
  (@Av _ _ _ _ _ (B_ (PW.pt (HJ (Fo (Dd (Ay eF o rfl (Aa (pv 4) (Aa (CG Eh rfl B.len EY (Aa (pv 3) Ae)) (Aa (Ay c9 o rfl (Aa (pv 0) (Aa Ac Ae))) Ae)))))) (Je (Fo (Dd (Ay dW o rfl (Aa (pv 4) (Aa (pv 3) (Aa (pv 2) Ae)))))))))
   (@Aj _ _ _ (BJ Cw))
   CJ)
  (@Dv _ _ _ _ _ (@BR _ _ 7 _ _ _ _ nd rfl (Or.inl rfl) (Ay eU o rfl (Aa (pv 4) (Aa (pv 3) (Aa (pv 2) Ae)))) rfl (.inl rfl))
  (@Av _ _ _ _ _ (B_ (PW.pt (HJ (Fo (Dd (Ay cD o rfl (Aa (pv 7) (Aa (Af Ft Ac (pv 2)) Ae))))) (Je (Fo (Dd (Ay dD o rfl (Aa (pv 7) (Aa (Aw Eo (pv 6) Ac (λ_ _=>rfl)) Ae))))))))
   (@Aj _ _ _ (BJ Cw))
   CJ)
  (@Av _ _ _ _ _ (Hy PassesOwn.never rfl (GC (pv 3)) (CV (i:=8) nd rfl (Or.inl rfl))
   (@Aj _ _ _ (B_ (CP (RN o.units) (Ay cY o rfl (Aa (pv 7) (Aa (pv 8) Ae))) (pv 7) (Ad _))
    (@Aj _ _ _ (BJ Cw))
    CJ)))
  (@Av _ _ _ _ _ (B_ (CP (RN o.units) (Ay d7 o rfl (Aa (Ay cS o rfl (Aa (pv 4) (Aa (CG Eh rfl B.len EY (Aa (pv 3) Ae)) Ae))) (Aa (Ay cO o rfl (Aa (pv 3) (Aa (pv 2) Ae))) Ae))) (pv 7) (Ad _))
   (@Aj _ _ _ (BJ Cw))
   CJ)
  (@Av _ _ _ _ _ (@BR _ _ 9 _ _ _ _ nd rfl (Or.inl rfl) (Ow Tp rfl B.list PJ (Aa (pv 7) Ae)) rfl (.inl rfl))
  (@Dv _ _ _ _ _ (@BR _ _ 10 _ _ _ _ nd rfl (Or.inl rfl) (Ay eK o rfl (Aa (pv 7) (Aa (pv 3) (Aa (pv 2) Ae)))) rfl (.inl rfl))
  (@Av _ _ _ _ _ (B_ (PW.pt (HJ (Fo (Dd (Ay cD o rfl (Aa (pv 10) (Aa (CG Eh rfl B.len EY (Aa (pv 4) Ae)) Ae))))) (Je (CP (RN o.units) (pv 10) (Aw Eo (pv 6) Ac (λ_ _=>rfl)) (Ad _)))))
   (@Aj _ _ _ (BJ Cw))
   CJ)
  (@Av _ _ _ _ _ (H_ (QB Pj Rt Ru QV (pv 10) (Aa Ac Ae)))
  (@Av _ _ _ _ _ (B_ (CP (RN o.units) (pv 7) (pv 9) (Ad _))
   (@Aj _ _ _ (BJ Cw))
   CJ)
  (@Av _ _ _ _ _ (B_ (Fo (Dd (Ay eM o rfl (Aa (pv 7) (Aa (pv 3) (Aa (pv 2) (Aa (Ay c9 o rfl (Aa (pv 0) (Aa Ac Ae))) Ae)))))))
   (@Aj _ _ _ (BJ Cw))
   CJ)
  (@Dv _ _ _ _ _ (@BR _ _ 11 _ _ _ _ nd rfl (Or.inl rfl) (@Aw _ _ _ _ _ _ _ Eo (@Ga _ _ _ _ (@Aa _ _ _ _ _ (@Ci _ _ _ _ _ (@Aa _ _ _ _ _ Ac (@Aa _ _ _ _ _ Ac (@Aa _ _ _ _ _ Ac Ae rfl) rfl) rfl)) (@Aa _ _ _ _ _ (@Ci _ _ _ _ _ (@Aa _ _ _ _ _ Ac (@Aa _ _ _ _ _ Ac (@Aa _ _ _ _ _ Ac Ae rfl) rfl) rfl)) Ae rfl) rfl)) (Af Dp (Ay c9 o rfl (@Aa _ _ _ _ _ (pv 0) (@Aa _ _ _ _ _ Ac Ae rfl) rfl)) Ac) (λ_ _=>rfl)) rfl (.inl rfl))
  (@Dv _ _ _ _ _ (@BR _ _ 12 _ _ _ _ nd rfl (Or.inl rfl) (@Aw _ _ _ _ _ _ _ Eo (@Ga _ _ _ _ (@Aa _ _ _ _ _ (Af Oi (@Ga _ _ _ _ (@Aa _ _ _ _ _ (pv 11) Ae rfl)) (pv 3)) (@Aa _ _ _ _ _ (Af Oi (Af Oi (pv 3) (Nv Xx (pv 3) Lx (K7 Ac))) (Af bM (@Ga _ _ _ _ (@Aa _ _ _ _ _ (pv 11) Ae rfl)) (Ow xu rfl B.int Xf (@Aa _ _ _ _ _ (Fv Df (CG Eh rfl B.len EY (@Aa _ _ _ _ _ (pv 3) Ae rfl)) Ac (Ad _)) Ae rfl)))) Ae rfl) rfl)) (Af Dp (Af Iw (Ay c9 o rfl (@Aa _ _ _ _ _ (pv 0) (@Aa _ _ _ _ _ Ac Ae rfl) rfl)) Ac) Ac) (λ_ _=>rfl)) rfl (.inl rfl))
  (@Av _ _ _ _ _ (Hy PassesOwn.never rfl (J3 rfl B.range (Aa Ac Ae)) (CV (i:=13) nd rfl (Or.inl rfl))
   (@Aj _ _ _ (B_ (CP (Va o.units) (Ay c8 o rfl (Aa (pv 13) (Aa (pv 4) (Aa (pv 12) (Aa (pv 2) Ae))))) (@Ci _ _ _ _ _ (Aa Cw (Aa Cw Ae))) (Ad _))
    (@Aj _ _ _ (BJ Cw))
    CJ)))
  (@Av _ _ _ _ _ (H_ (QB Pj Rt Ru QV (pv 7) (Aa Ac Ae)))
  (@Aj _ _ _ (BJ (QG (Fv (wg o.units) (pv 4) (Aw Eo (pv 6) Ac (λ_ _=>rfl)) (Ad _)) (Kq (Fv (wg o.units) (pv 3) (Aw Eo (pv 6) Ac (λ_ _=>rfl)) (Ad _)))))))))))))))))))))))))))),?_⟩
 try dsimp only[CN]
 refine⟨λσ H'=>H'=H/\∃hd:Int,0<=hd/\σ=[some (.ref G),some (.int hd),none,none,none,none,none,none,none,none,none,none,none,none],⟨_,O,G,Y,0,O,hS,PL 0,_,_,O,O,.inr ⟨by decide,by decide⟩,_,_,O,O,Tt,O,_,Jr _ (PX Tt),O⟩,?_⟩;rintro σ H ⟨rfl,hd,m6,rfl⟩;refine⟨_,O,_,_,O,O,⟨by decide,by decide⟩,_,_,O,O,XH,_,_,O,O,?_⟩;refine⟨λσ H'=>H'=H/\∃N:Nat,1<=N/\N<=6/\σ=[some (.ref G),some (.int hd),some (.int N),none,none,none,none,none,none,none,none,none,none,none],⟨_,O,_,_,O,O,Zm,O,_,O,Iv (λ_=>?_) (λ_=>?_)⟩,?_⟩
 ·have a0:=Jr (hd / 8) (show (2:Int)≠0 by decide);have a1:=Ky (hd / 8) Uv;refine⟨_,O,_,_,O,O,⟨by decide,by decide⟩,_,_,O,O,Uv,_,_,O,O,O,(5+hd / 8%2).toNat,by lia,by lia,?_⟩;show [some (V.ref G),some (V.int hd),some (V.int (5+hd / 8%2)),none,none,none,none,none,none,none,none,none,none,none]=_;rw[show (((5+hd / 8%2).toNat:Nat):Int)=5+hd / 8%2 by lia]
 ·have a0:=Jr (hd / 8) (show (4:Int)≠0 by decide);have a1:=Ky (hd / 8) XH;refine⟨O,(1+hd / 8%4).toNat,by lia,by lia,?_⟩;show [some (V.ref G),some (V.int hd),some (V.int (1+hd / 8%4)),none,none,none,none,none,none,none,none,none,none,none]=_;rw[show (((1+hd / 8%4).toNat:Nat):Int)=1+hd / 8%4 by lia]
 rintro σ H ⟨rfl,N,N1,J,rfl⟩;obtain⟨dr,i2⟩:∃dr:List Int,FT (Y.map V.int) (some 12) none=dr.map V.int:=by
  unfold FT;first | (rw[<-List.map_drop,<-Wr];exact⟨_,O⟩) | (rw[<-List.map_drop];exact⟨_,O⟩)
 refine⟨λσ H'=>Same H H'/\∃(l:Y4) (pr:U5) (ms:List Mk),Gr N H' l pr ms/\ms.length<N/\σ=[some (.ref G),some (.int hd),some (.int N),some (.ref l),none,none,none,none,none,none,none,none,none,none],?_,?_⟩
 ·have a0:=Jr (hd / 64) (show (6:Int)≠0 by decide);have a1:=Ky (hd / 64) (show (0:Int)<6 by decide);refine⟨_,O,_,O,_,_,O,O,_,O,_,_,O,O,⟨by decide,by decide⟩,_,_,O,O,(by decide:(0:Int)<6),_,_,O,?_⟩;refine⟨_,O,_,O,G,_,O,hS,λcp j2=>?_⟩;rw[i2];have s1:=Ao j2 (.lst (dr.map V.int));refine⟨N,(if hd / 64%6<(N:Int)-1 then hd / 64%6 else (N:Int)-1).toNat,cp,dr,?_,N1,J,by split<;>lia,Ag.of Al,λl H' ps ms S' T lm=>⟨s1.trans S',l,ps,ms,T,by split at lm<;>lia,O⟩⟩;rw[show (((if hd / 64%6<(N:Int)-1 then hd / 64%6 else (N:Int)-1).toNat:Nat):Int)=(if hd / 64%6<(N:Int)-1 then hd / 64%6 else (N:Int)-1) by split<;>lia];rfl
 rintro σ H1 ⟨S1,l,pr,ms,T,lm,rfl⟩;have SR:Ag K H1 l (pr.map V.ref):=Ag.of T.lst;have Z:(pr.map V.ref).length=ms.length:=by rw[A_,T.mks.length]
 obtain⟨c,cN⟩:∃c,c+ms.length=N:=⟨N-ms.length,by lia⟩;have c1:1<=c:=by lia
 have c6:c<=6:=by lia
 refine⟨λσ H'=>Same H1 H'/\∃(D:Y4) (ps:U5) (g:Nat->A5),Bu K H' D ps g c 102 40/\MJ g c/\σ=[some (.ref G),some (.int hd),some (.int N),some (.ref l),some (.ref D),none,none,none,none,none,none,none,none,none],⟨_,O,_,O,_,O,l,_,O,.inl SR,_,_,O,O,G,Y,c,?_,S1.seq hS,c1,c6,λD H2 ps g S2 B2 hl=>⟨S2,D,ps,g,B2,hl,O⟩⟩,?_⟩
 ·rw[Z];show [V.ref G,V.int ((N:Int)-(ms.length:Int))]=_;rw[show ((N:Int)-(ms.length:Int))=(c:Int) by lia]
 rintro σ H2 ⟨S2,l1,b8,L,B2,b6,rfl⟩;have p6:=Dr c6;have T2:=T.same S2;refine⟨λσ H'=>Same H2 H'/\∃(D:Y4) (ps:U5) (g:Nat->A5) (u5:Option V),Bu K H' D ps g c 3120 40/\MJ g c/\σ=[some (.ref G),some (.int hd),some (.int N),some (.ref l),some (.ref D),u5,none,none,none,none,none,none,none,none],?_,?_⟩
 ·refine⟨_,O,_,_,O,O,⟨by decide,by decide⟩,_,_,O,O,Zm,O,_,O,Iv (λ_=>?_) (λ_=>⟨Same.refl _,l1,b8,L,none,o_ B2 (by decide) (by decide),b6,O⟩)⟩;refine⟨O,λgr zg og=>?_⟩;refine⟨_,O,l1,O,⟨_,Ag.of B2.lst⟩,λacc b2=>?_⟩;have a5:(b8.map V.ref).length=2^c:=by rw[A_,B2.len]
  refine X3x (K:=K) (a:=l1) (xs:=b8.map V.ref) (fr:=[some (.int gr)]) (λi ys H'=>∃qs:List Addr,Same H2 H'/\H' acc=some (.lst ys)/\ys=qs.map V.ref/\qs.length=i/\Bg K H' qs (λj=>(((L j).1.1*gr,(L j).1.2.1*gr,(L j).1.2.2.1*gr,(L j).1.2.2.2*gr),(L j).2))) (by rw[a5];exact Dz p6)
   ⟨[],Ao b2 _,Al,O,O,(λ_ _ z=>by cases z)⟩ (λi ys H' h=>by obtain⟨_,s,_⟩:=h;exact Ag.of (s _ _ B2.lst)) ?_ ?_
  ·rintro i x ys H3 NN w1 w2 w3 w4 w5 X hy ⟨qs,S3,a3,rfl,ql,v3⟩ kN;rw[Cz]at X;obtain⟨p,hp,rfl⟩:=Fz.mp X;have hi:i<2^c:=by rw[<-B2.len];exact(Fq.mp hp).1
   have e3:=(B2.vals i p hp).same S3;have oi:=B2.ok i hi;have zz:∀{t:Int},Sz 102 t->Ku t gr:=λ{t} z=>⟨102,3010,z,zg,by decide⟩;refine⟨p,_,O,e3,O,_,_,O,_,_,O,_,_,O,_,_,O,_,_,O,O,?_⟩;refine⟨_,O,_,O,_,_,O,O,zz oi.sz.z1,_,O,_,O,_,_,O,O,zz oi.sz.z2,_,O,_,O,_,_,O,O,zz oi.sz.z3,_,O,_,O,_,_,O,O,zz oi.sz.z4,_,O,t5,λt ht=>?_⟩;have st:=Ao ht (tA (((L i).1.1*gr,(L i).1.2.1*gr,(L i).1.2.2.1*gr,(L i).1.2.2.2*gr),(L i).2));refine kN _ _ _ _ _ (.ref t) _ (st _ _ a3) ⟨qs++[t],Dy (S3.trans st) b2,Al,by rw[Cg];rfl,by simp[ql],JQ (xs:=qs.map V.ref) (aX (J4 (x:=(((L i).1.1*gr,(L i).1.2.1*gr,(L i).1.2.2.1*gr,(L i).1.2.2.2*gr),(L i).2)) v3 st (CZ.of Al)) λj hj=>?_) (st _ _ a3)⟩;show (if j=qs.length then _ else _)=_;by_cases e:j=qs.length
   ·rw[if_pos e,e,ql]
   ·rw[if_neg e]
  ·rintro ys H3 hy ⟨qs,S3,a3,rfl,ql,v3⟩;rw[a5]at ql;obtain⟨j,hj,nj⟩:=b6;refine⟨S3,acc,qs,_,_,⟨a3,ql,v3,λi hi=>?_⟩,⟨j,hj,X4e og nj⟩,O⟩;have oi:=B2.ok i hi;exact⟨⟨(oi.sz.z1.mul zg).mono (by decide),(oi.sz.z2.mul zg).mono (by decide),(oi.sz.z3.mul zg).mono (by decide),(oi.sz.z4.mul zg).mono (by decide)⟩,X4f oi.amt og,oi.le⟩
 clear B2 b6;rintro σ H3 ⟨S3,D,ps,f,u5,BD,Lk,rfl⟩;have f':=T2.same S3;have h9:Ag K H3 l (pr.map V.ref):=Ag.of f'.lst;have a5:(ps.map V.ref).length=2^c:=by rw[A_,BD.len]
 refine⟨λσ H'=>Same H3 H'/\∃M ka kb:Addr,H' M=some (.lst [.ref ka,.ref kb])/\Bu K H' ka ps f c 3120 40/\H' kb=some (.lst (pr.map V.ref))/\H3 M=none/\H3 ka=none/\H3 kb=none/\σ=[some (.ref G),some (.int hd),some (.int N),some (.ref l),some (.ref D),u5,some (.ref M),none,none,none,none,none,none,none],?_,?_⟩
 ·refine⟨_,O,D,_,O,.inl (Ag.of BD.lst),λka d5=>?_⟩;have s1:=Ao d5 (.lst (ps.map V.ref));refine⟨_,O,l,_,O,.inl (s1.seq h9),λkb a7=>?_⟩;have s2:=Ao a7 (.lst (pr.map V.ref));refine⟨Dz (show 2<=64 by decide),λM d0=>?_⟩;have s3:=Ao d0 (.lst [V.ref ka,.ref kb]);exact⟨(s1.trans s2).trans s3,M,ka,kb,Al,⟨s3 _ _ (s2 _ _ Al),BD.len,((BD.vals.same s1).same s2).same s3,BD.ok⟩,s3 _ _ Al,J2 s1 (J2 s2 d0),d5,J2 s1 a7,O⟩
 rintro σ H4 ⟨S4,M,ka,kb,hk,BK,a7,nk,m5,m4,rfl⟩;have a4:=BD.same S4;have T4:=f'.same S4;have i7:Ag K H4 l (pr.map V.ref):=Ag.of T4.lst;have b4:Same H H4:=((S1.trans S2).trans S3).trans S4;have f5:(((pr.map V.ref).length:Nat):Int)=((ms.length:Nat):Int):=by rw[Z]
 refine⟨_,O,_,O,l,_,O,.inl i7,_,O,G,Y,9,O,b4.seq hS,by decide,D,ps,f,c,ms.length,3120,40,_,by rw[f5];rfl,a4,c1,by lia,by decide,Lk,λH5 S5=>⟨_,O,Bd ?_⟩⟩;have e8:=a4.same S5;have T5:=T4.same S5;refine⟨_,O,_,O,_,O,D,l,ps,f,c,N,3120,40,pr,ms,O,e8,c1,J,T5,cN,by decide,λH6 S6=>⟨_,O,Bd ?_⟩⟩;have c5:=S5.trans S6;have i5:=e8.same S6;have T6:=T5.same S6;have TB:=Ah.Yd T;have L6:=T.len;have LN:=(Nr J TB L6).2.2;have LL:(Aq ms N).length<=114:=Ek (YL J TB).len (Ek (iR L6 (show 3*N+1<=19 by lia)) (by decide));refine⟨λσ H'=>Same H6 H'/\∃(y:Y4) (I:U5) (g:Nat->A5),H6 y=none/\Bu K H' y I g N 118260 154/\Gd ms c N 40 f g/\σ=[some (.ref G),some (.int hd),some (.int N),some (.ref l),some (.ref D),u5,some (.ref M),some (.ref y),none,none,none,none,none,none],⟨_,O,_,O,_,O,D,l,ps,f,c,N,3120,40,pr,ms,O,i5,N1,J,by decide,by decide,T6,cN,λy H7 I g nf S7 B7 st=>⟨S7,y,I,g,nf,o_ B7 ?_ ?_,⟨J,TB,L6,cN,λw R=>(BD.ok w R).amt,λw R=>(BD.ok w R).le,st⟩,O⟩⟩,?_⟩
 ·rw[A_];lia
 ·rw[A_];lia
 rintro σ H7 ⟨S7,y,I,g,nf,BF,GD,rfl⟩;have eN:((1:Int)*2^(N:Int).toNat)=((2^N:Nat):Int):=by rw[N8,Dm];simp
 have j3:=c5.trans S7;refine⟨_,O,_,O,_,_,O,O,⟨1,GJ,by lia,by lia⟩,y,I,g,N,118260,154,_,O,eN,BF,J,GD.Lk Lk,λH8 S8=>⟨_,O,Bd ?_⟩⟩;have b9:=j3.trans S8;have d2:=BF.same S8;refine⟨_,O,_,O,M,_,_,_,O,O,Ag.of (b9 _ _ hk),O,y,ka,I,ps,g,f,N,c,118260,154,O,d2,o_ (BK.same b9) (by decide) (by decide),J,c6,by decide,by decide,GD.hf,λH9 S9=>⟨_,O,Bd ?_⟩⟩;have d9:=b9.trans S9;have b5:=d2.same S9;have T9:=T4.same d9;have e6:Ag K H9 l (pr.map V.ref):=Ag.of T9.lst;refine⟨_,O,l,O,⟨_,e6⟩,Ly (K:=K) (a:=l) (xs:=pr.map V.ref) (λi σ H'=>Same H9 H'/\∃v:Option V,σ=[some (.ref G),some (.int hd),some (.int N),some (.ref l),some (.ref D),u5,some (.ref M),some (.ref y),v,none,none,none,none,none]) ⟨Same.refl _,none,O⟩ (λi σ H' _ e=>e.1.seq e6) ?_ ?_⟩
 ·rintro i x σ Ha X ⟨Sa,v,rfl⟩;rw[Cz]at X;obtain⟨p,hp,rfl⟩:=Fz.mp X;obtain⟨m,hm,pm⟩:=T9.mks.get hp;have il:i<ms.length:=(Fq.mp hm).1;have em:ms.getD i (0,0,0)=m:=by rw[Ef,hm];rfl
  have om:=T.ok m (Ke hm);obtain⟨q,fl,sg⟩:=m;refine⟨_,O,_,O,y,p,I,g,N,118260,154,q,fl,sg,O,b5.same Sa,J,Ax.of (Sa _ _ pm),om.f,λr Hb qs nr Sb Bb=>?_⟩;have Bf:=b5.same (Sa.trans Sb);have eq:=GD.keep il (by rw[em];exact λw R=>(Bb.ok w R).amt);rw[em]at eq;refine⟨_,O,r,y,qs,I,_,_,O,O,Bb.lst,Bf.lst,JC Bb,JC Bf,_,O,FQ (λz=>absurd (uW eq) (Jt z)) (λ_=>⟨Sa.trans Sb,_,O⟩)⟩
 rintro σ Ha ⟨Sa,v8,rfl⟩;have f7:=d9.trans Sa;have i3:=b5.same Sa;have Ta:=T9.same Sa;have i6:Ag K Ha l (pr.map V.ref):=Ag.of Ta.lst;refine⟨_,O,_,O,l,_,O,.inl i6,D,ps,f,c,ms.length,3120,40,by rw[f5];rfl,a4.same f7,by lia,λk4 Hb qw nw Sb BW=>?_⟩;rw[cN]at BW;refine⟨_,O,_,O,l,pr,ms,N,O,Ta.same Sb,N1,J,λrl Hc m2 Sc RL=>?_⟩;obtain⟨vl,m3,_⟩:=Nr J TB L6;obtain⟨rp,k9⟩:=bU RL vl LN;refine⟨k4,rl,qw,rp,_,N,3120,40,(Aq ms N).map gm,O,k9,BW.same Sc,J,by decide,by decide,λr3 Hd q3 g3 n3 Sd B3 i1=>?_⟩;have e9:=(Sb.trans Sc).trans Sd;have e':Gd ms c N 40 f g3:=⟨J,TB,L6,cN,GD.am,GD.le,i1⟩;have e3:∀w,w<2^N->g3 w=g w:=λw R=>Vl.same (e'.vl.1 w R) (GD.vl.1 w R) (e'.vl.2 w R) (GD.vl.2 w R);have W:=i3.same e9;refine⟨_,O,r3,y,q3,I,_,_,O,O,B3.lst,W.lst,JC B3,JC W,_,O,FQ (λz=>absurd (uW e3) (Jt z)) (λ_=>?_)⟩;refine⟨_,O,y,_,O,.inl (Ag.of W.lst),λlh f0=>?_⟩;have s1:=Ao f0 (.lst (I.map V.ref));have BH:Bu K (upd Hd lh (.lst (I.map V.ref))) lh I g N 118260 154:=⟨Al,BF.len,W.vals.same s1,BF.ok⟩;have a8:=(f7.trans e9).trans s1;have b7:=W.same s1;have l':y≠lh:=K5 W.lst f0;generalize upd Hd lh (.lst (I.map V.ref))=He at s1 BH a8 b7 ⊢;have Te:=T4.same a8;have Nk:N-ms.length=c:=by lia
 refine⟨λσ H'=>Same He H'/\∃(U:Y4) (qx:U5) (n' m':Nat),He U=none/\Bu K H' U qx f c n' m'/\σ=[some (.ref G),some (.int hd),some (.int N),some (.ref l),some (.ref D),u5,some (.ref M),some (.ref y),v8,some (.ref lh),some (.ref U),none,none,none],⟨_,O,_,O,_,O,y,l,I,g,N,118260,154,pr,ms,O,b7,N1,J,by decide,by decide,Te,lm,λh st w R nz=>(GD.back st w R).trans (MK nz),λU Hf qx h n' m' nx Sf Bx st=>⟨Sf,U,qx,n',m',nx,?_,O⟩⟩,?_⟩
 ·rw[Nk]at Bx;refine Bx.congr λw R=>?_;show h (w*2^ms.length)=f w;rw[GD.back st _ (by rw[<-cN,HW];exact Ut R (Cv _)),TX w R]
 rintro σ Hf ⟨Sf,U,qx,n',m',nx,Bx,rfl⟩;have f3:=a8.trans Sf;have j0:=a4.same f3;have c4:(((ps.map V.ref).length:Nat):Int)=((2^c:Nat):Int):=by rw[a5]
 refine⟨_,O,_,O,D,_,O,.inl (Ag.of j0.lst),U,qx,f,c,n',m',_,O,c4,Bx,c6,Lk,λHg Sg=>⟨_,O,Bd ?_⟩⟩;have f4:=f3.trans Sg;have b1:=Bx.same Sg;have e0:=BK.same f4;refine⟨_,O,_,O,M,_,_,_,O,O,Ag.of (f4 _ _ hk),O,U,ka,qx,ps,_,_,O,O,b1.lst,e0.lst,JC b1,JC e0,_,O,FQ (λz=>absurd rfl (Jt z)) (λ_=>?_)⟩;refine⟨_,O,.inl ⟨O,_,Ag.of b1.lst⟩,U,_,_,O,O,b1.lst,DK (show (qx.map V.ref).length<128 by rw[A_,Bx.len];lia) (by decide),?_⟩;have Sh:Same He (upd Hg U (.lst (qx.map V.ref++[V.int 0]))):=Dy (Sf.trans Sg) nx;generalize upd Hg U (.lst (qx.map V.ref++[V.int 0]))=Hh at Sh ⊢;have c0:=a8.trans Sh;have a9:=b7.same Sh;have d4:=BH.same Sh;refine⟨_,O,_,O,y,lh,I,I,_,_,O,O,a9.lst,d4.lst,JC a9,JC d4,_,O,FQ (λz=>absurd rfl (Jt z)) (λ_=>?_)⟩;have Th:=T4.same c0;refine⟨_,O,_,O,_,O,_,O,G,Y,10,O,(b4.trans c0).seq hS,by decide,y,l,I,g,N,118260,154,pr,ms,_,O,a9,N1,J,by decide,by decide,Th,lm,GD.hits Lk,λHi Si=>⟨_,O,Bd ?_⟩⟩;have e4:=c0.trans Si;have k8:=a9.same Si;have Ti:=Th.same Si;have d1:Same H Hi:=b4.trans e4;refine⟨λσ H'=>Same Hi H'/\∃(u:Y4) (m:Mk),H' u=some (T3 m)/\¬ JX.ev m/\Jg N m/\σ=[some (.ref G),some (.int hd),some (.int N),some (.ref l),some (.ref D),u5,some (.ref M),some (.ref y),v8,some (.ref lh),some (.ref U),some (.ref u),none,none],?_,?_⟩
 ·have p1:(1:Nat)<2^N:=DK (show 1<2^1 by decide) (G3 (by decide) N1);refine⟨(show 3<=sizeLine by decide),λt1 k'=>⟨(show 3<=sizeLine by decide),λt2 j1=>⟨(show 2<=sizeLine by decide),λlo k7=>?_⟩⟩⟩;have u1:=Ao k' (T3 ((1,1,0):Mk));have u2:=Ao j1 (T3 ((3,0,1):Mk));have u3:=Ao k7 (.lst [V.ref t1,.ref t2]);have w1:upd Hi t1 (T3 ((1,1,0):Mk)) t1=some (T3 (1,1,0)):=Al;have w2:upd (upd Hi t1 (T3 ((1,1,0):Mk))) t2 (T3 ((3,0,1):Mk)) t2=some (T3 (3,0,1)):=Al;obtain⟨b,hb,eb⟩:=Oq (cell Y 11) (show 0<2 by decide);refine⟨_,O,G,Y,11,O,(d1.trans ((u1.trans u2).trans u3)).seq hS,by decide,_,_,O,O,Uv,lo,_,_,.ref (if b=0 then t1 else t2),O,O,Ag.of Al,?_,?_⟩
  ·show HF [V.ref t1,V.ref t2] (cell Y 11%2)=_;rw[show cell Y 11%2=(b:Int) from eb];match b,hb with
   | 0,_=>rfl
   | 1,_=>rfl
  ·match b,hb with
   | 0,_=>exact⟨(u1.trans u2).trans u3,t1,(1,1,0),u3 _ _ (u2 _ _ w1),(λz=>by have z:(1+pc (1&&&0))%2=0:=z;rw[show (1:Nat)&&&0=0 from rfl,J1]at z;cases z),⟨by decide,p1,Cv N⟩,rfl⟩
   | 1,_=>exact⟨(u1.trans u2).trans u3,t2,(3,0,1),u3 _ _ w2,(λz=>by have z:(3+pc (0&&&1))%2=0:=z;rw[show (0:Nat)&&&1=0 from rfl,J1]at z;cases z),⟨by decide,Cv N,p1⟩,rfl⟩
 rintro σ Hj ⟨Sj,u,m,j7,d3,d8,rfl⟩;have i4:=e4.trans Sj;have i':=d1.trans Sj;have Tj:=Ti.same Sj;have f6:Ag K Hj l (pr.map V.ref):=Ag.of Tj.lst;have a2:∀{n:Nat},n<=12->n<=sizeLine:=λh=>Dz (by lia);refine⟨λσ H'=>Same Hj H'/\∃ls:Addr,T_ H' ls N/\σ=[some (.ref G),some (.int hd),some (.int N),some (.ref l),some (.ref D),u5,some (.ref M),some (.ref y),v8,some (.ref lh),some (.ref U),some (.ref u),some (.ref ls),none],?_,?_⟩
 ·refine⟨_,O,Dz (show 1<=64 by decide),λl1 h1=>?_⟩;have u1:=Ao h1 (.lst [V.ref u]);refine⟨_,O,l1,l,_,_,O,O,Al,u1 _ _ Tj.lst,?_,λl2 h2=>?_⟩
  ·rw[Z];exact a2 (show 1+ms.length<=12 by lia)
  have u2:=Ao h2 (.lst ([V.ref u]++pr.map V.ref));have w2:upd (upd Hj l1 (.lst [V.ref u])) l2 (.lst ([V.ref u]++pr.map V.ref)) l2=some (.lst ([V.ref u]++pr.map V.ref)):=Al;generalize upd (upd Hj l1 (.lst [V.ref u])) l2 (.lst ([V.ref u]++pr.map V.ref))=Ha at u2 w2 ⊢;have U2:=u1.trans u2;refine⟨_,O,_,O,_,O,l,_,O,U2.seq f6,λl3 h3=>?_⟩;have ct:FT (pr.map V.ref) none (some 1)=(pr.take 1).map V.ref:=by
   cases pr with
   | nil=>rfl
   | cons p ps=>rw[show (1:Int)=((1:Nat):Int) from rfl,CK.bC (by simp),<-Wr]
  rw[ct];have u3:=Ao h3 (.lst ((pr.take 1).map V.ref));refine⟨l,l3,_,_,O,O,(U2.trans u3) _ _ Tj.lst,Al,?_,λl4 h4=>?_⟩
  ·rw[Z,A_];exact a2 (show ms.length+(pr.take 1).length<=12 by rw[Ka];lia)
  have u4:=Ao h4 (.lst (pr.map V.ref++(pr.take 1).map V.ref));have w4:upd (upd Ha l3 (.lst ((pr.take 1).map V.ref))) l4 (.lst (pr.map V.ref++(pr.take 1).map V.ref)) l4=some (.lst (pr.map V.ref++(pr.take 1).map V.ref)):=Al;have U4:=(U2.trans u3).trans u4;have e7:=(u3.trans u4) _ _ w2;generalize upd (upd Ha l3 (.lst ((pr.take 1).map V.ref))) l4 (.lst (pr.map V.ref++(pr.take 1).map V.ref))=Hb at U4 w4 e7 ⊢;refine⟨_,O,Dz (show 1<=64 by decide),λl5 h5=>?_⟩;have b0:=Ao h5 (.lst [V.ref u]);refine⟨_,O,l,_,O,.inl ((U4.trans b0).seq f6),O,.inr ⟨_,O,l5,_,_,O,O,Al,?_,?_,?_,λl6 h6=>?_⟩⟩
  ·split<;>decide
  ·split<;>decide
  ·split
   ·exact a2 (show 1*1<=12 by decide)
   ·exact a2 (show 1*0<=12 by decide)
  have eX:(List.replicate (if decide (V.int (((pr.map V.ref).length:Nat):Int)=V.int 0)=true then (1:Int) else 0).toNat [V.ref u]).flatten=(if ms.length=0 then [u] else []).map V.ref:=by
   rw[Z];by_cases q:ms.length=0
   ·rw[q,if_pos (by decide),if_pos rfl];rfl
   ·rw[Cr (λz=>q (by have:=V.int.inj z;lia)),if_neg (by decide),if_neg q];rfl
  rw[eX];have u6:=Ao h6 (.lst ((if ms.length=0 then [u] else []).map V.ref));refine⟨l4,l6,_,_,O,O,u6 _ _ (b0 _ _ w4),Al,?_,λl7 h7=>?_⟩
  ·rw[Ed,Z,A_,A_];refine a2 ?_;rw[Ka];split
   ·show ms.length+min 1 pr.length+1<=12;lia
   ·show ms.length+min 1 pr.length+0<=12;lia
  have u7:=Ao h7 (.lst (pr.map V.ref++(pr.take 1).map V.ref++(if ms.length=0 then [u] else []).map V.ref));have U7:=((U4.trans b0).trans u6).trans u7;have w7:upd (upd (upd Hb l5 (.lst [V.ref u])) l6 (.lst ((if ms.length=0 then [u] else []).map V.ref))) l7 (.lst (pr.map V.ref++(pr.take 1).map V.ref++(if ms.length=0 then [u] else []).map V.ref)) l7=some (.lst (pr.map V.ref++(pr.take 1).map V.ref++(if ms.length=0 then [u] else []).map V.ref)):=Al;have b3:=((b0.trans u6).trans u7) _ _ e7;generalize upd (upd (upd Hb l5 (.lst [V.ref u])) l6 (.lst ((if ms.length=0 then [u] else []).map V.ref))) l7 (.lst (pr.map V.ref++(pr.take 1).map V.ref++(if ms.length=0 then [u] else []).map V.ref))=Hc at U7 w7 b3 ⊢;refine⟨Dz (show 2<=64 by decide),λl8 h8=>?_⟩;have u8:=Ao h8 (.lst [V.ref l2,.ref l7]);have U8:=U7.trans u8;have m8:=(Tj.same U8).mks;have f2:=U8 _ _ j7
  have NA:T_ (upd Hc l8 (.lst [V.ref l2,.ref l7])) l2 N:=⟨u::pr,m::ms,u8 _ _ b3,.cons f2 m8,by rw[Lf];lia,λx X=>by
   rcases Dw.mp X with rfl | X
   ·exact d8
   ·exact T.ok x X,λb t=>vm (Lg) d3 t⟩
  have NB:T_ (upd Hc l8 (.lst [V.ref l2,.ref l7])) l7 N:=by
   have w8:=u8 _ _ w7;rcases hms:ms with _ | ⟨m0,mr⟩
   ·have a6:pr=[]:=by have:=T.mks.length;rw[hms]at this;exact List.eq_nil_of_length_eq_zero this
    rw[hms,a6]at w8;exact⟨[u],[m],w8,.cons f2 .nil,(show 1<=12 by decide),λx X=>by rw[Fj.mp X];exact d8,λb t=>vm (Fj.mpr rfl) d3 t⟩
   ·rcases a6:pr with _ | ⟨p0,pq⟩
    ·have:=T.mks.length;rw[hms,a6]at this;cases this
    ·rw[hms,a6]at w8 m8;have h0:upd Hc l8 (.lst [V.ref l2,.ref l7]) p0=some (T3 m0):=by cases m8 with | cons e _=>exact e
     refine⟨p0::pq++[p0],m0::mr++[m0],?_,Paired.snoc m8 h0,?_,λx X=>T.ok x ?_,λb t=>X6r t⟩
     ·rw[w8];simp
     ·have:=L6;rw[hms]at this;rw[Ed];show (m0::mr).length+1<=12;lia
     ·rw[hms];rcases Ir.mp X with h | h
      ·exact h
      ·rw[Fj.mp h];exact Lg
  obtain⟨b,hb,eb⟩:=Oq (cell Y 11 / 2) (show 0<2 by decide);refine⟨_,O,G,Y,11,O,(i'.trans U8).seq hS,by decide,_,_,O,O,⟨by decide,by decide⟩,_,_,O,O,Uv,l8,_,_,.ref (if b=0 then l2 else l7),O,O,Ag.of Al,?_,?_⟩
  ·show HF [V.ref l2,V.ref l7] (cell Y 11 / 2%2)=_;rw[show cell Y 11 / 2%2=(b:Int) from eb];match b,hb with
   | 0,_=>rfl
   | 1,_=>rfl
  ·match b,hb with
   | 0,_=>exact⟨U8,l2,NA,rfl⟩
   | 1,_=>exact⟨U8,l7,NB,rfl⟩
 rintro σ Hk ⟨Sk,ls,NT,rfl⟩;have j':=i4.trans Sk;have nt:∀{H'},Same Hk H'->T_ H' ls N:=λ{H'} S=>by
  obtain⟨i0,i8,a,b,c',d,e⟩:=NT.ex;exact⟨i0,i8,S _ _ a,b.same S,c',d,e⟩
 refine⟨2,O,by decide,by decide,Tf (n:=2) (λi σ H'=>Same Hk H'/\∃v:Option V,σ=[some (.ref G),some (.int hd),some (.int N),some (.ref l),some (.ref D),u5,some (.ref M),some (.ref y),v8,some (.ref lh),some (.ref U),some (.ref u),some (.ref ls),v]) ⟨Same.refl _,none,O⟩ ?_ ?_⟩
 ·rintro i σ Hl hi ⟨Sl,v,rfl⟩;refine⟨_,O,_,O,_,O,_,O,0+(i:Int),D,ls,N,O,(λC E hE Q'=>?_),λr Hm Sm o=>⟨(show 2<=sizeLine by decide),λt ht=>?_⟩⟩
  ·match i,hi with
   | 0,_=>exact .inl ⟨rfl,D,ls,N,rfl,N1,J,.inl ⟨rfl,nt Sl⟩,hE⟩
   | 1,_=>exact .inr (.inl ⟨rfl,D,ls,N,rfl,N1,J,.inl ⟨rfl,nt Sl⟩,hE⟩)
  ·exact Vk (Ao ht _ _ _ o) Al ⟨_,O,Bd ⟨(Sl.trans Sm).trans (Ao ht _),_,O⟩⟩
 rintro σ Hl ⟨Sl,v,rfl⟩;have k6:=j'.trans Sl;have c7:=(k8.same (Sj.trans Sk)).same Sl;refine⟨_,O,.inl ⟨O,_,Ag.of c7.lst⟩,y,_,_,O,O,c7.lst,DK (show (I.map V.ref).length<128 by have:=Dr J;rw[A_,BF.len];lia) (by decide),?_⟩;have i9:H4 y=none:=J2 c5 nf;have Sm:Same H4 (upd Hl y (.lst (I.map V.ref++[V.int 0]))):=Dy k6 i9;generalize upd Hl y (.lst (I.map V.ref++[V.int 0]))=Hm at Sm ⊢;have f8:=a4.same Sm;have d6:=BK.same Sm;have Tm:=T4.same Sm;have e5:=Ag.of (K:=K) (Sm _ _ hk);refine⟨_,O,_,O,M,_,_,_,O,O,e5,O,D,ka,ps,ps,_,_,O,O,f8.lst,d6.lst,JC f8,JC d6,_,O,Jz (λ_=>?_) (λz=>absurd rfl (Jt z))⟩;refine⟨_,O,_,O,M,_,_,_,O,O,e5,O,l,kb,pr,pr,_,_,O,O,Tm.lst,Sm _ _ a7,pR Tm.mks,pR Tm.mks,?_⟩;show Q (.bl (decide (_=_))) Hm;rw[Ec rfl];exact kk Hm
end
end Ah
noncomputable section
namespace Ar
open L2
variable{l:PySem.W.OpenLaw}
theorem W4a{w:W6}{K:U0}{h:Heap}{mg:U6}{fa f:Y4}(X:K.In h)(G:Ng h mg)(hfa:mg "law"=some (.ref fa))
  {od an:Y0}{sl:W9}{oc kV dc pm cd ct:W7}{aN aZ aP C CB D A_NoAmount A_NoMark A_NoShare A_NoMove A_NoCell A_NeverSo A_NoText A_NotBorne A_Unguarded:Y4}{odZ odP:Y0}{slZ slP:W9}{nZ nP nN:Nat}{y1 y2 y3 y4 y5 e0 e1 e2 tC tM a1 a2 a3 a4 a5 a6 a7 b1 b2 b3 b4 b5 b6 b7:Tok}{bm bm1 bm2:U9}
  (aL:PySem.W.nsIn K mainGlobals "law"=some (some (.ref f))) (lL:K.lookup f=some ⟨oc,od,.func (PySem.W.fnOf "law" "law" (HN (top 106)) (Gb (top 106)) (DG (top 106)) .none kV dc pm an cd ct),sl⟩) (cL:PySem.W.codeIn K cd "law"=true) (kL:PySem.W.keepIn K (.ref f)=true)
  (t14:Ab K "is_whole" (top 14) .none)
  (t16:Ab K "halved_out" (top 16) .none)
  (t17:Ab K "plus" (top 17) .none)
  (t18:Ab K "minus" (top 18) .none)
  (t19:Ab K "spun" (top 19) .none)
  (t20:Ab K "spun_once" (top 20) .none)
  (t21:Ab K "rooted" (top 21) .none)
  (t24:Ab K "ones" (top 24) .none)
  (t25:Ab K "is_word" (top 25) .none)
  (t26:Ab K "is_mark" (top 26) .none)
  (t27:Ab K "is_even" (top 27) .none)
  (t28:Ab K "is_even_mark" (top 28) .none)
  (t29:Ab K "commute" (top 29) .none)
  (t30:Ab K "product" (top 30) .none)
  (t31:Ab K "turned_about" (top 31) .none)
  (t32:Ab K "cell_sign" (top 32) .none)
  (t36:Ab K "cells_of" (top 36) .none)
  (t38:Ab K "solved" (top 38) .none)
  (t39:Ab K "cleared" (top 39) .none)
  (t40:Ab K "places_at_one" (top 40) .none)
  (t41:Ab K "solution" (top 41) .none)
  (t44:Ab K "is_table" (top 44) .none)
  (t45:Ab K "commutes_with_all" (top 45) .none)
  (t46:Ab K "check_table" (top 46) .none)
  (t47:Ab K "least_cell" (top 47) .none)
  (t48:Ab K "made_of" (top 48) .none)
  (t49:Ab K "rows_with" (top 49) .none)
  (t50:Ab K "product_of" (top 50) .none)
  (t51:Ab K "apart_by" (top 51) .none)
  (t54:Ab K "check_move" (top 54) .none)
  (t55:Ab K "has_move_form" (top 55) .none)
  (t56:Ab K "named_cells" (top 56) .none)
  (t57:Ab K "turned" (top 57) .none)
  (t58:Ab K "mixed" (top 58) .none)
  (t59:Ab K "mixed_at" (top 59) .none)
  (t60:Ab K "spun_where" (top 60) .none)
  (t61:Ab K "word_behind" (top 61) .none)
  (t62:Ab K "exchanged" (top 62) .none)
  (t63:Ab K "back_move" (top 63) .none)
  (t65:Ab K "moved_through" (top 65) .none)
  (t66:Ab K "moved_by" (top 66) .none)
  (t67:Ab K "moved_by_mix" (top 67) .none)
  (t68:Ab K "moved_by_turn" (top 68) .none)
  (t69:Ab K "moved_by_if" (top 69) .none)
  (t70:Ab K "moved_by_pair" (top 70) .none)
  (t72:Ab K "run" (top 72) .none)
  (t73:Ab K "backward" (top 73) .none)
  (t75:Ab K "laid" (top 75) .none)
  (t76:Ab K "layer_to_sign" (top 76) .none)
  (t77:Ab K "moves_to_sign" (top 77) .none)
  (t79:Ab K "widened" (top 79) .none)
  (t80:Ab K "widened_at" (top 80) .none)
  (t81:Ab K "has_first_cells" (top 81) .none)
  (t82:Ab K "narrowed" (top 82) .none)
  (t83:Ab K "guarded" (top 83) .none)
  (t84:Ab K "check_cells" (top 84) .none)
  (t85:Ab K "unguarded" (top 85) .none)
  (t87:Ab K "_law_cell_at" (top 87) .none)
  (t88:Ab K "_law_whole" (top 88) .none)
  (t89:Ab K "_law_lowest" (top 89) .none)
  (t90:Ab K "_law_spin" (top 90) .none)
  (t91:Ab K "_law_amount_by" (top 91) .none)
  (t92:Ab K "_law_board_by" (top 92) .none)
  (t93:Ab K "_law_great" (top 93) .none)
  (t94:Ab K "_law_ones" (top 94) .none)
  (t95:Ab K "_law_apart" (top 95) .none)
  (t96:Ab K "_law_left_over" (top 96) .none)
  (t97:Ab K "_law_kept" (top 97) .none)
  (t98:Ab K "_law_laid" (top 98) .none)
  (t99:Ab K "_law_is_board" (top 99) .none)
  (t100:Ab K "_law_hefts_are" (top 100) .none)
  (t101:Ab K "_law_is_another" (top 101) .none)
  (t102:Ab K "_law_refused" (top 102) .none)
  (t103:Ab K "_law_wide" (top 103) .none)
  (t104:Ab K "_law_sizes" (top 104) .none)
  (t105:Ab K "_law_hit" (top 105) .none)
  (z0:PySem.W.nsIn K mainGlobals "isinstance"=some none)
  (z1:PySem.W.nsIn K mainGlobals "int"=some none)
  (z2:PySem.W.nsIn K mainGlobals "bool"=some none)
  (z3:PySem.W.nsIn K mainGlobals "tuple"=some none)
  (z4:PySem.W.nsIn K mainGlobals "list"=some none)
  (z5:PySem.W.nsIn K mainGlobals "len"=some none)
  (z6:PySem.W.nsIn K mainGlobals "range"=some none)
  (z7:PySem.W.nsIn K mainGlobals "all"=some none)
  (z8:PySem.W.nsIn K mainGlobals "any"=some none)
  (z9:PySem.W.nsIn K mainGlobals "max"=some none)
  (z10:PySem.W.nsIn K mainGlobals "min"=some none)
  (z11:PySem.W.nsIn K mainGlobals "zip"=some none)
  (z12:PySem.W.nsIn K mainGlobals "set"=some none)
  (z13:PySem.W.nsIn K mainGlobals "str"=some none)
  (z14:PySem.W.nsIn K mainGlobals "enumerate"=some none)
  (z15:PySem.W.nsIn K mainGlobals "reversed"=some none)
  (gM0:PySem.W.nsIn K mainGlobals "MOST_CELLS"=some (some (.int 6 tM)))
  (gZ0:PySem.W.nsIn K mainGlobals "NOUGHT"=some (some (.ref aZ)))
  (tZ:K.lookup aZ=some ⟨.type "tuple",odZ,.seq #[.int 0 y1,.int 0 y2,.int 0 y3,.int 0 y4,.int 0 y5] nZ,slZ⟩)
  (gN0:PySem.W.nsIn K mainGlobals "NUMBERS_BEHIND"=some (some (.ref aN)))
  (tN:K.lookup aN=some ⟨.type "dict",none,.dict #[⟨PyData.keyHash w.params "flip",.str "flip" a1,.int 1 b1⟩,⟨PyData.keyHash w.params "mix",.str "mix" a2,.int 1 b2⟩,⟨PyData.keyHash w.params "turn",.str "turn" a3,.int 2 b3⟩,⟨PyData.keyHash w.params "if",.str "if" a4,.int 2 b4⟩,⟨PyData.keyHash w.params "pair",.str "pair" a5,.int 2 b5⟩,⟨PyData.keyHash w.params "swap",.str "swap" a6,.int 2 b6⟩,⟨PyData.keyHash w.params "cross",.str "cross" a7,.int 3 b7⟩] nN,#[]⟩)
  (nN0:(aN == sysModules)=false)
  (gP0:PySem.W.nsIn K mainGlobals "PRODUCT_OF_NONE"=some (some (.ref aP)))
  (tP:K.lookup aP=some ⟨.type "tuple",odP,.seq #[.int 0 e0,.int 0 e1,.int 0 e2] nP,slP⟩)
  (zS:PySem.W.nsIn K mainGlobals "sorted"=some none)
  (zU:PySem.W.nsIn K mainGlobals "sum"=some none)
  (gC0:PySem.W.nsIn K mainGlobals "CELL_SIGNS"=some (some (.str (Str.ofString ".fsb") tC)))
  (aC:PySem.W.nsIn K mainGlobals "NoTable"=some (some (.ref C)))
  (aCB:PySem.W.nsIn K mainGlobals "NoBoard"=some (some (.ref CB)))
  (aD:PySem.W.nsIn K mainGlobals "BoardError"=some (some (.ref D)))
  (zV:PySem.W.nsIn K mainGlobals "ValueError"=some none)
  (xC:ExcAt K C bm)
  (xB:ExcAt K CB bm1)
  (xD:ExcAt K D bm2)
  (sub:(Value.ref C::bm).contains (.ref D)=true)
  (subB:(Value.ref CB::bm1).contains (.ref D)=true)
  (kC:PySem.W.JZ K C)
  (kCB:PySem.W.JZ K CB)
  (ve:PySem.W.kitOne K (.ref C) (.type "ValueError")=some true)
  (veB:PySem.W.kitOne K (.ref CB) (.type "ValueError")=some true)
  (kTT:PySem.W.kitOne K (.ref C) (.ref C)=some true)
  (kTB:PySem.W.kitOne K (.ref C) (.ref CB)=some false)
  (kBB:PySem.W.kitOne K (.ref CB) (.ref CB)=some true)
  (kBT:PySem.W.kitOne K (.ref CB) (.ref C)=some false)
  (n_NoAmount:PySem.W.nsIn K mainGlobals "NoAmount"=some (some (.ref A_NoAmount)))
  (q_NoAmount:PySem.W.kitOne K (.ref C) (.ref A_NoAmount)=some false)
  (r_NoAmount:PySem.W.kitOne K (.ref CB) (.ref A_NoAmount)=some false)
  (n_NoMark:PySem.W.nsIn K mainGlobals "NoMark"=some (some (.ref A_NoMark)))
  (q_NoMark:PySem.W.kitOne K (.ref C) (.ref A_NoMark)=some false)
  (r_NoMark:PySem.W.kitOne K (.ref CB) (.ref A_NoMark)=some false)
  (n_NoShare:PySem.W.nsIn K mainGlobals "NoShare"=some (some (.ref A_NoShare)))
  (q_NoShare:PySem.W.kitOne K (.ref C) (.ref A_NoShare)=some false)
  (r_NoShare:PySem.W.kitOne K (.ref CB) (.ref A_NoShare)=some false)
  (n_NoMove:PySem.W.nsIn K mainGlobals "NoMove"=some (some (.ref A_NoMove)))
  (q_NoMove:PySem.W.kitOne K (.ref C) (.ref A_NoMove)=some false)
  (r_NoMove:PySem.W.kitOne K (.ref CB) (.ref A_NoMove)=some false)
  (n_NoCell:PySem.W.nsIn K mainGlobals "NoCell"=some (some (.ref A_NoCell)))
  (q_NoCell:PySem.W.kitOne K (.ref C) (.ref A_NoCell)=some false)
  (r_NoCell:PySem.W.kitOne K (.ref CB) (.ref A_NoCell)=some false)
  (n_NeverSo:PySem.W.nsIn K mainGlobals "NeverSo"=some (some (.ref A_NeverSo)))
  (q_NeverSo:PySem.W.kitOne K (.ref C) (.ref A_NeverSo)=some false)
  (r_NeverSo:PySem.W.kitOne K (.ref CB) (.ref A_NeverSo)=some false)
  (n_NoText:PySem.W.nsIn K mainGlobals "NoText"=some (some (.ref A_NoText)))
  (q_NoText:PySem.W.kitOne K (.ref C) (.ref A_NoText)=some false)
  (r_NoText:PySem.W.kitOne K (.ref CB) (.ref A_NoText)=some false)
  (n_NotBorne:PySem.W.nsIn K mainGlobals "NotBorne"=some (some (.ref A_NotBorne)))
  (q_NotBorne:PySem.W.kitOne K (.ref C) (.ref A_NotBorne)=some false)
  (r_NotBorne:PySem.W.kitOne K (.ref CB) (.ref A_NotBorne)=some false)
  (n_Unguarded:PySem.W.nsIn K mainGlobals "Unguarded"=some (some (.ref A_Unguarded)))
  (q_Unguarded:PySem.W.kitOne K (.ref C) (.ref A_Unguarded)=some false)
  (r_Unguarded:PySem.W.kitOne K (.ref CB) (.ref A_Unguarded)=some false)
  : ∃fd:FuncData,(∀(s:W1) (v:W7),BindsTo s fd ⟨[v],[]⟩ [("_law_script",v)])/\∀base:Heap,K.In base->base.Ns mainGlobals mg->Er l.prog w K mg base LC 12 fa fd ["_law_script"] (J9 K 63):=by
 have e:=hfa.symm.trans (Ew X G aL);cases e;have F:=W3h (st:=top 106) lL cL kL;have B:Bs mg:=⟨Hu X G z0,Hu X G z1,Hu X G z2,Hu X G z3,Hu X G z4,Hu X G z5,Hu X G z6,Hu X G z7,Hu X G z8,Hu X G z9,Hu X G z10,Hu X G z11,Hu X G z12,Hu X G z13,Hu X G z14,Hu X G z15⟩;refine⟨PySem.W.fnOf "law" "law" (HN (top 106)) (Gb (top 106)) (DG (top 106)) .none kV dc pm an cd ct,λs v=>.of_eq rfl,λbase _ _=>?_⟩;have gN:=Ew X G gN0;have DN:K8 K w.params aN NB:=⟨⟨_,_,_,tN,⟨O,O,O⟩,O,.cons ⟨_,_,O⟩ (.cons ⟨_,_,O⟩ (.cons ⟨_,_,O⟩ (.cons ⟨_,_,O⟩ (.cons ⟨_,_,O⟩ (.cons ⟨_,_,O⟩ (.cons ⟨_,_,O⟩ .nil))))))⟩,by decide +kernel,nN0⟩;have a0:=X8a (P:=l.prog) (w:=w) (base:=base) (k:=0) t16 X G B;have d7:=X7t (P:=l.prog) (w:=w) (base:=base) (k:=0) t20 X G;have h9:=Y9f t21 X G a0;have Y:=X7q t19 X G B d7;have T:=X7s t17 X G B a0;have d2:=X3e t18 X G T Y;have p:=oO (P:=l.prog) (w:=w) (base:=base) (k:=0) t14 X G B;have a:=Y6q (P:=l.prog) (w:=w) (base:=base) (k:=0) t36 X G B;have E:=X3c (P:=l.prog) (w:=w) (base:=base) (k:=0) t56 X G B;have e9:=X8b t55 X G B gN DN p;have f7:=X3n t54 X G B e9 (E.mono (by decide));have d9:=Y6o t59 X G (h9.mono (by decide)) d2 (T.mono (by decide));have h0:=X3d t58 X G B d9;have z:=X8c (P:=l.prog) (w:=w) (base:=base) (k:=0) t62 X G;have e':=Y9p t61 X G E z;have e3:=X3a t60 X G B Y;have j0:=Y9d (k:=5) t57 X G B (f7.mono (by decide)) (a.mono (by decide)) h0 (e3.mono (by decide)) (e'.mono (by decide));have i:=W1s t72 X G B j0;have A:=X8d (P:=l.prog) (w:=w) (base:=base) (k:=0) t87 X G B;have c:Ah.RZ K mg false C D bm bm2:=⟨Ew X G aC,Ew X G aD,Hu X G zV,xC,xD,sub,kC,ve,CB,C,Ew X G aCB,Ew X G aC,kTB,kTT,A_NoAmount,Ew X G n_NoAmount,q_NoAmount,A_NoMark,Ew X G n_NoMark,q_NoMark,A_NoShare,Ew X G n_NoShare,q_NoShare,A_NoMove,Ew X G n_NoMove,q_NoMove,A_NoCell,Ew X G n_NoCell,q_NoCell,A_NeverSo,Ew X G n_NeverSo,q_NeverSo,A_NoText,Ew X G n_NoText,q_NoText,A_NotBorne,Ew X G n_NotBorne,q_NotBorne,A_Unguarded,Ew X G n_Unguarded,q_Unguarded⟩;have d:Ah.RZ K mg true CB D bm1 bm2:=⟨Ew X G aCB,Ew X G aD,Hu X G zV,xB,xD,subB,kCB,veB,CB,C,Ew X G aCB,Ew X G aC,kBB,kBT,A_NoAmount,Ew X G n_NoAmount,r_NoAmount,A_NoMark,Ew X G n_NoMark,r_NoMark,A_NoShare,Ew X G n_NoShare,r_NoShare,A_NoMove,Ew X G n_NoMove,r_NoMove,A_NoCell,Ew X G n_NoCell,r_NoCell,A_NeverSo,Ew X G n_NeverSo,r_NeverSo,A_NoText,Ew X G n_NoText,r_NoText,A_NotBorne,Ew X G n_NotBorne,r_NotBorne,A_Unguarded,Ew X G n_Unguarded,r_Unguarded⟩;have gC:=Ew X G gC0;have gM:=Ew X G gM0;have gZ:=Ew X G gZ0;have x:=Ah.X3q (P:=l.prog) (w:=w) (base:=base) (k:=0) t31 X G;have f0:=Ah.X3o t67 X G x;have i4:=Ah.Y9n (P:=l.prog) (w:=w) (base:=base) (k:=0) t68 X G;have f5:=Ah.X8e (P:=l.prog) (w:=w) (base:=base) (k:=0) t69 X G;have c0:=Ah.Y9o t70 X G x;have c4:=Ah.Y6n (k:=2) t66 X G (x.mono (by decide)) (f0.mono (by decide)) (i4.mono (by decide)) (f5.mono (by decide)) (c0.mono (by decide)) (z.mono (by decide));have b8:=Ah.Y6l t65 X G c4;have d1:=Ah.pL (P:=l.prog) (w:=w) (base:=base) (k:=0) t24 X G;have e8:=Ah.Y9l t25 X G p;have i7:=Ah.X7x (k:=2) t26 X G B (p.mono (by decide)) (e8.mono (by decide));have j1:=Ah.X7y t27 X G d1;have e7:=Ah.X3j (k:=3) t28 X G (i7.mono (by decide)) (j1.mono (by decide));have i6:=Ah.W4q (P:=l.prog) (w:=w) (base:=base) (k:=0) gC t32 X G;have e4:=Ah.W1u (P:=l.prog) (w:=w) (base:=base) (k:=0) t77 X G;have c5:=Ah.X3h (P:=l.prog) (w:=w) (base:=base) (k:=0) t47 X G;have b9:=Ah.W2a (P:=l.prog) (w:=w) (base:=base) (k:=0) t63 X G;have m:=Ah.W1z t73 X G B b9;have d3:=Ah.X7v (k:=4) t76 X G B (e4.mono (by decide)) (i6.mono (by decide)) (b8.mono (by decide)) (c5.mono (by decide));have f2:=Ah.X2z (P:=l.prog) (w:=w) (base:=base) (k:=0) t88 X G B;have o:CK.Bs mg:=⟨B.isinstance,B.int,B.bool,B.tuple,B.list,B.len,B.range,B.enumerate,Hu X G zS,Hu X G zU,B.str,B.all,B.any,B.min,B.max⟩;have gP:=Ew X G gP0;have sP:∀H:Hp,Ax K H aP (CK.L3 (0,0,0)):=λH=>.inr ⟨_,_,_,tP,O,O,(by show 3<=sizeLine;decide),.cons ⟨_,O⟩ (.cons ⟨_,O⟩ (.cons ⟨_,O⟩ .nil))⟩;have kZ:∀H:Hp,Ar.CZ K H aZ Ah.Zz:=λH=>.inr ⟨_,_,_,tZ,O,O,(by show 5<=sizeLine;decide),.cons ⟨_,O⟩ (.cons ⟨_,O⟩ (.cons ⟨_,O⟩ (.cons ⟨_,O⟩ (.cons ⟨_,O⟩ .nil))))⟩;have on:=CK.pL (P:=l.prog) (w:=w) (base:=base) (k:=0) t24 X G;have e5:=CK.Y6m t30 X G on;have i5:=CK.Y6p (P:=l.prog) (w:=w) (base:=base) (k:=0) t39 X G;have i1:=CK.Y9i (P:=l.prog) (w:=w) (base:=base) (k:=0) t40 X G o;have d8:=CK.Y2s t41 X G o on;have f8:=CK.Y9e (k:=2) t38 X G o (i5.mono (by decide)) (i1.mono (by decide)) d8;have d5:=CK.Y2t (P:=l.prog) (w:=w) (base:=base) (k:=0) t49 X G o;have d4:=CK.Y9h t50 X G gP sP e5;have i9:=CK.nR t51 X G o on;have d6:=CK.Y9j (k:=3) t48 X G o (d5.mono (by decide)) f8 (i9.mono (by decide)) d4;have iw:=CK.oO (P:=l.prog) (w:=w) (base:=base) (k:=0) t14 X G o;have f1:=CK.Y2u t29 X G on;have j2:=CK.Y6k t45 X G o f1;have u:=CK.Y2r (k:=4) t44 X G o (iw.mono (by decide)) (Ah.nA (e7.mono (by decide))) (j2.mono (by decide)) d6;have f6:=CK.Y9m t46 X G (CK.X4a u);have b:=Ah.X3i (k:=6) t75 X G B (f6.mono (by decide)) (d3.mono (by decide)) (b8.mono (by decide)) (m.mono (by decide));have j:=Ah.X3m (P:=l.prog) (w:=w) (base:=base) (k:=0) t81 X G;have i':=Ah.X2y gZ kZ t80 X G j;have q:=Ah.W1q (k:=2) gM t79 X G B (a.mono (by decide)) i';have n:=Ah.W1y (P:=l.prog) (w:=w) (base:=base) (k:=0) t84 X G;have L:=Ah.W1t (k:=1) gZ kZ t82 X G B a j;have h4:=Ah.W1x (k:=8) t83 X G B (b.mono (by decide)) (n.mono (by decide)) (a.mono (by decide)) (q.mono (by decide)) (i.mono (by decide));have j3:=Ah.W1r (k:=8) t85 X G B (b.mono (by decide)) (n.mono (by decide)) (a.mono (by decide)) (L.mono (by decide)) (i.mono (by decide)) (m.mono (by decide));have c7:=Ah.uN t46 X G c u;have U:=Ah.wZ t75 X G c7;have R:=Ah.vD (P:=l.prog) (w:=w) (base:=base) (k:=0) t84 X G c;have f4:=Ah.vJ (k:=1) gM t79 X G c a;have a9:=Ah.vH (k:=1) gZ kZ t82 X G B c a j;have i8:=Ah.vG (k:=8) t83 X G B (b.mono (by decide)) (U.mono (by decide)) (R.mono (by decide)) (a.mono (by decide));have f':=Ah.vI (k:=8) t85 X G B (b.mono (by decide)) (U.mono (by decide)) (n.mono (by decide)) (R.mono (by decide)) (a.mono (by decide)) (a9.mono (by decide)) (i.mono (by decide)) (m.mono (by decide));have h6:=λg=>Ah.wY (g:=g) (P:=l.prog) (w:=w) (base:=base) (k:=0) t101 X G B c;have h8:=Ah.vC (k:=9) t102 X G B c i8 f' (f4.mono (by decide)) (a9.mono (by decide)) (λg=>(h6 g).mono (by decide));have c9:=Ah.uN t46 X G d u;have M:=Ah.wZ t75 X G c9;have y:=Ah.vD (P:=l.prog) (w:=w) (base:=base) (k:=0) t84 X G d;have e6:=Ah.vJ (k:=1) gM t79 X G d a;have J:=Ah.vH (k:=1) gZ kZ t82 X G B d a j;have c8:=Ah.vG (k:=8) t83 X G B (b.mono (by decide)) (M.mono (by decide)) (y.mono (by decide)) (a.mono (by decide));have h3:=Ah.vI (k:=8) t85 X G B (b.mono (by decide)) (M.mono (by decide)) (n.mono (by decide)) (y.mono (by decide)) (a.mono (by decide)) (J.mono (by decide)) (i.mono (by decide)) (m.mono (by decide));have i3:=λg=>Ah.wY (g:=g) (P:=l.prog) (w:=w) (base:=base) (k:=0) t101 X G B d;have r:=Ah.vC (k:=9) t102 X G B d c8 h3 (e6.mono (by decide)) (J.mono (by decide)) (λg=>(i3 g).mono (by decide));have t:=Ah.X3f (P:=l.prog) (w:=w) (base:=base) (k:=0) t94 X G;have b0:=Ah.X7r (P:=l.prog) (w:=w) (base:=base) (k:=0) t90 X G B;have N:=Ah.Y9k (P:=l.prog) (w:=w) (base:=base) (k:=0) t89 X G B;have d0:=Ah.X3p t91 X G N b0;have f3:=Ah.X8f t92 X G B (A.mono (by decide)) d0;have h5:=Ah.X3l (P:=l.prog) (w:=w) (base:=base) (k:=0) t93 X G B;have Q:=Ah.X3g t98 X G B b0 t;have S:=Ah.X7z t99 X G B f2 N;have V:=Ah.X3k (P:=l.prog) (w:=w) (base:=base) (k:=0) t100 X G B;have i2:=Ah.nR t95 X G t;have i0:=Ah.X7u (P:=l.prog) (w:=w) (base:=base) (k:=0) t96 X G B;have h7:=Ah.X7w (k:=2) (Hu X G zS) t97 X G B (t.mono (by decide)) i2 (i0.mono (by decide));have a8:=Ah.X7p (k:=10) t103 X G B (q.mono (by decide)) (L.mono (by decide)) (S.mono (by decide)) r;have Z:=Ah.X3b t104 X G B r;have I:=Ah.W1w (k:=10) t105 X G B (Q.mono (by decide)) r;exact Ah.W1v (k:=11) F B (A.mono (by decide)) (h7.mono (by decide)) (f3.mono (by decide)) (h5.mono (by decide)) a8 Z (h4.mono (by decide)) (S.mono (by decide)) (V.mono (by decide)) (Q.mono (by decide)) (i.mono (by decide)) (q.mono (by decide)) (b.mono (by decide)) (j3.mono (by decide)) I (h8.mono (by decide))
theorem walk{q:W3}{loose:W5}{XP:(Str->Option Value)->Heap->Prop}{YP:World->Heap->Prop}{d:DefRec}{K:Params->U0}(hn:l.most=some 63)(hdf:d.params.defaults=[])
  (hY:∀(w:W6) (h:Heap),YP w h->(K w.params).In h)
  (F:∀(w:W6) (mg:U6) (fa:Y4) (h:Heap),(K w.params).In h->h.Ns mainGlobals mg->mg d.name=some (.ref fa) ->
   ∃fd:FuncData,(∀(s:W1) (u:W7),BindsTo s fd ⟨[u],[]⟩ [("_law_script",u)])/\∀base:Heap,(K w.params).In base->base.Ns mainGlobals mg->Er l.prog w (K w.params) mg base LC 12 fa fd ["_law_script"] (J9 (K w.params) 63)):
  PySem.W.WalkO q loose XP YP l.row.toRowW d [] (λf vs=>PySem.call f vs):=
 L2.X6l (n:=63) (k:=12) (x:="_law_script") (CX:=λ_=>LC) (sp:=λw=>J9 (K w.params) 63) hn (by decide) hdf ⟨O,by decide,by decide⟩ hY F (λ_ _ a ns c lt b=>⟨a,ns,O,b,c,λ_=>rfl⟩) λ_ _ _ _ _ z=>z
end Ar
open PySem.W
set_option maxRecDepth 100000 in
set_option maxHeartbeats 0 in
theorem PySem.Challenge.cw_spinboard_k82_guarded_and_back_holds : PySem.Challenge.rw_spinboard_k82_guarded_and_back.Holds := by
 refine holds_law Ar.Hd.Wa λsaid=>?_
 refine holds_open (q:=Ar.Hd.qq) (loose:=Ar.Hd.loose) (Xt:=Ar.Hd.Xt) (XP:=XL Ar.Hd.qq Ar.Hd.lv) (Yf:=Ar.Hd.HH.obs) (Ya:=Ar.Hd.HH.val) (YP:=Ar.Hd.HH.says) (d:=⟨"law",L2.HN (Ar.top 106),L2.Gb (Ar.top 106),L2.DG (Ar.top 106),Ar.Hd.nG (Ar.top 106)⟩) (kwd:=[]) (N:=Ar.Hd.NN) Ar.Hd.XM Ar.Hd.HH.of Ar.Hd.HH.keeps (λs e=>xl_of s (Bool.and_eq_true_iff.mp e).1) XL.keeps (by kernel_rfl) (by kernel_rfl) (by kernel_rfl) (λs e=>recFacts_of (Bool.and_eq_true_iff.mp e).2) (by kernel_rfl) said (by kernel_rfl) ⟨O,O,O,O,O,by decide +kernel⟩ ?hw ?hc
 case hw=>w_witness2
 refine Ar.walk (l:=PySem.Challenge.rw_spinboard_k82_guarded_and_back) rfl rfl (λw h Y=>PySem.W.kIn_of Y) ?F
 case F =>
  intro w mg fa h KX G hmg
  refine' Ar.W4a (K:=Ar.Hd.KK w.params) (f:=672) (aN:=372) (aZ:=291) (aP:=325) (C:=121) (CB:=73) (D:=24) (A_NoAmount:=49) (A_NoMark:=61) (A_NoShare:=37) (A_NoMove:=85) (A_NoCell:=97) (A_NeverSo:=109) (A_NoText:=140) (A_NotBorne:=159) (A_Unguarded:=178) (tC:=477) (tM:=561) KX G hmg ?_ (Ar.Hd.jg _) ?_ ?_ (Ar.Hd.fz "spinboard.shares" 412 187 186) (Ar.Hd.fz "spinboard.amounts" 421 194 193) (Ar.Hd.fz "spinboard.amounts" 421 199 198) (Ar.Hd.fz "spinboard.amounts" 421 206 205) (Ar.Hd.fz "spinboard.amounts" 421 213 212) (Ar.Hd.fz "spinboard.amounts" 421 220 219) (Ar.Hd.fz "spinboard.amounts" 421 227 226) (Ar.Hd.fz "spinboard.marks" 475 234 233) (Ar.Hd.fz "spinboard.marks" 475 241 240) (Ar.Hd.fz "spinboard.marks" 475 248 247) (Ar.Hd.fz "spinboard.marks" 475 255 254) (Ar.Hd.fz "spinboard.marks" 475 262 261) (Ar.Hd.fz "spinboard.marks" 475 269 268) (Ar.Hd.fz "spinboard.marks" 475 276 275) (Ar.Hd.fz "spinboard.marks" 475 283 282) (Ar.Hd.fz "spinboard.marks" 475 290 289) (Ar.Hd.fz "spinboard.boards" 553 298 297) (Ar.Hd.fz "spinboard.bits" 570 305 304) (Ar.Hd.fz "spinboard.bits" 570 312 311) (Ar.Hd.fz "spinboard.bits" 570 317 316) (Ar.Hd.fz "spinboard.bits" 570 324 323) (Ar.Hd.fz "spinboard.tables" 609 330 329) (Ar.Hd.fz "spinboard.tables" 609 335 334) (Ar.Hd.fz "spinboard.tables" 609 342 341) (Ar.Hd.fz "spinboard.tables" 609 349 348) (Ar.Hd.fz "spinboard.tables" 609 354 353) (Ar.Hd.fz "spinboard.tables" 609 359 358) (Ar.Hd.fz "spinboard.tables" 609 366 365) (Ar.Hd.fz "spinboard.tables" 609 371 370) (Ar.Hd.fz "spinboard.moves" 669 377 376) (Ar.Hd.fz "spinboard.moves" 669 382 381) (Ar.Hd.f56 _) (Ar.Hd.fz "spinboard.moves" 669 394 393) (Ar.Hd.fz "spinboard.moves" 669 399 398) (Ar.Hd.fz "spinboard.moves" 669 406 405) (Ar.Hd.fz "spinboard.moves" 669 411 410) (Ar.Hd.fz "spinboard.moves" 669 416 415) (Ar.Hd.fz "spinboard.moves" 669 423 422) (Ar.Hd.fz "spinboard.moves" 669 430 429) (Ar.Hd.fz "spinboard.tableturns" 762 437 436) (Ar.Hd.fz "spinboard.tableturns" 762 444 443) (Ar.Hd.fz "spinboard.tableturns" 762 451 450) (Ar.Hd.fz "spinboard.tableturns" 762 458 457) (Ar.Hd.fz "spinboard.tableturns" 762 465 464) (Ar.Hd.fz "spinboard.tableturns" 762 472 471) (Ar.Hd.fz "spinboard.rows" 827 479 478) (Ar.Hd.fz "spinboard.rows" 827 484 483) (Ar.Hd.fz "spinboard.layers" 845 491 490) (Ar.Hd.fz "spinboard.layers" 845 496 495) (Ar.Hd.fz "spinboard.layers" 845 503 502) (Ar.Hd.fz "spinboard.words" 872 508 507) (Ar.Hd.fz "spinboard.words" 872 515 514) (Ar.Hd.fz "spinboard.words" 872 522 521) (Ar.Hd.fz "spinboard.words" 872 527 526) (Ar.Hd.fz "spinboard.words" 872 534 533) (Ar.Hd.fz "spinboard.words" 872 541 540) (Ar.Hd.fz "spinboard.words" 872 548 547) (Ar.Hd.fz "law_spinboard_k82_guarded_and_back" 931 555 554) (Ar.Hd.fz "law_spinboard_k82_guarded_and_back" 931 562 561) (Ar.Hd.fz "law_spinboard_k82_guarded_and_back" 931 567 566) (Ar.Hd.fz "law_spinboard_k82_guarded_and_back" 931 574 573) (Ar.Hd.fz "law_spinboard_k82_guarded_and_back" 931 579 578) (Ar.Hd.fz "law_spinboard_k82_guarded_and_back" 931 584 583) (Ar.Hd.fz "law_spinboard_k82_guarded_and_back" 931 591 590) (Ar.Hd.fz "law_spinboard_k82_guarded_and_back" 931 598 597) (Ar.Hd.fz "law_spinboard_k82_guarded_and_back" 931 605 604) (Ar.Hd.fz "law_spinboard_k82_guarded_and_back" 931 612 611) (Ar.Hd.fz "law_spinboard_k82_guarded_and_back" 931 617 616) (Ar.Hd.fz "law_spinboard_k82_guarded_and_back" 931 624 623) (Ar.Hd.fz "law_spinboard_k82_guarded_and_back" 931 629 628) (Ar.Hd.fz "law_spinboard_k82_guarded_and_back" 931 634 633) (Ar.Hd.fz "law_spinboard_k82_guarded_and_back" 931 641 640) (Ar.Hd.fz "law_spinboard_k82_guarded_and_back" 931 648 647) (Ar.Hd.fz "law_spinboard_k82_guarded_and_back" 931 655 654) (Ar.Hd.fz "law_spinboard_k82_guarded_and_back" 931 660 659) (Ar.Hd.fz "law_spinboard_k82_guarded_and_back" 931 667 666) ?_ ?_ ?_ ?_ ?_ ?_ ?_ ?_ ?_ ?_ ?_ ?_ ?_ ?_ ?_ ?_ ?_ ?_ (Ar.Hd.jk _) ?_ (Ar.Hd.ji _) (by decide) ?_ (Ar.Hd.jj _) ?_ ?_ ?_ ?_ ?_ ?_ ?_ (L2.excAt (Ar.Hd.jm _) ?_ ?_ ?_) (L2.excAt (Ar.Hd.k73 _) ?_ ?_ ?_) (L2.excAt (Ar.Hd.k24 _) ?_ ?_ ?_) ?_ ?_ ⟨?_,?_,(λod=>by kernel_rfl),?_,?_,?_,?_⟩ ⟨?_,?_,(λod=>by kernel_rfl),?_,?_,?_,?_⟩ ?_ ?_ ?_ ?_ ?_ ?_ ?_ ?_ ?_ ?_ ?_ ?_ ?_ ?_ ?_ ?_ ?_ ?_ ?_ ?_ ?_ ?_ ?_ ?_ ?_ ?_ ?_ ?_ ?_ ?_ ?_ ?_ ?_
  all_goals kernel_rfl
