import PyProof.Rows.All
import Wide.All
import OpenK.AllK
import Wide.FinOn
import Lean
import PyProof.EqAt
import PyProof.EqKinds
import PyProof.TupleCall
import PyProof.Rows.BitMore
import PyProof.ConsumeWalk
import PyProof.Rows.SetFrom
import PyProof.WalksMore
import PyProof.FactsAll.subtypes_4
import PyProof.Rows.SortWalk
import PyProof.Rows.TupDisplay
import PyProof.EnumMake
import PyProof.Rows.EnumRows
import PyProof.SumAny
import PyProof.Rows.MinMaxN
import PyProof.NeKinds
import PyProof.StationsW
import PyProof.ExcClass3
import PyProof.ExcBaseAll.ValueError
import PyProof.RulesAs
import PyProof.ExcArgsOwn
import PyProof.ExcAttrAll.ValueError
import PyProof.InstStoreFacts
import PyProof.ExcClass2
import PyProof.ExcInit
import PyProof.NsDelKeeps
import PyProof.Seq
import PyProof.Walks
import PyProof.Rows.CatchTuple
import PySem.Challenge.RW_spinboard_k56_whole_looks_at_tables
noncomputable section
open PySem PySem.Spec PyProof.Rows
theorem U{α:Sort u}{a:α}:a=a:=rfl
abbrev U0:=PySem.W.Frag
abbrev U1:=List (Addr×Obj)
abbrev U2:=Value->Shared->Prop
abbrev U3:=List Addr
abbrev U4:=Str->Option Value
abbrev U5:=List Value
abbrev U6:=List Int
abbrev U7:=Shared
abbrev U8:=Program
abbrev U9:=Array Value
abbrev W0:=List Str
abbrev W1:=World
abbrev W2:=Value
abbrev W3:=List Nat
abbrev W4:=Array (Option Value)
abbrev W5:=Option Addr
abbrev W6:=Around
abbrev W7:=List (Option Nat)
abbrev W8:=List Stmt
abbrev W9:=Addr
noncomputable abbrev Ng (h:Heap)(m:Str->Option Value):=h.Ns mainGlobals m
set_option linter.all false
section
open PySem.W
def CP:=@List.getD_eq_getElem?_getD
def Bg:=@List.length_map
def Cm:=@List.getElem?_eq_getElem
def BX:=@wpAny_bind
def Cj:=@List.getElem?_map
def Et:=@List.getElem?_eq_some_iff
def Ec:=@Heap.get?_push_of_some
def Cu:=@Nat.two_pow_pos
def CQ:=@Heap.lt_size
def Es:=@Option.map_eq_some_iff
def CG:=@Nat.le_refl
def Ea:=@Nat.lt_of_lt_of_le
def DW:=@List.map_append
def Er:=@Nat.xor_lt_two_pow
def CV:=@wpAny_pure
def GQ:=@List.mem_of_getElem?
def Fj:=@List.mem_singleton
def GC:=@Heap.get?_push_size
def Gn:=@List.mem_append_right
def Dj:=@List.mem_cons
def Fb:=@List.size_toArray
def Df:=@Nat.ne_of_lt
def FJ:=@decide_eq_false
def Ek:=@List.mem_range
def Jv:=@Nat.mod_two_eq_zero_or_one
def Gk:=@Bool.false_ne_true
def Ka:=@Int.eq_of_mul_eq_mul_right
def E_:=@Nat.xor_assoc
def Ez:=@List.map_cons
def Ir:=@Nat.pow_le_pow_right
def Hg:=@PySem.W.mg_none_of
def GP:=@Nat.testBit_xor
def Ej:=@List.mem_map
def G8:=@Int.toNat_natCast
def Jf:=@Nat.pow_lt_pow_right
def Gb:=@decide_eq_true
def HY:=@Bool.and_eq_true
def Ju:=@List.mem_cons_of_mem
def JM:=@List.length_append
def Hx:=@List.length_take
def Je:=@List.mem_cons_self
def Ip:=@List.not_mem_nil
def Ep:=@Nat.mod_lt
def JL:=@Nat.mod_eq_of_lt
def HX:=@PySem.boot_len
def Oo:=@PySem.F.slot_int_bit_length
def Io:=@List.mem_append
def Jt:=@List.take_add_one
def JK:=@boot_isinstance
def Fi:=@wpAny_mono
def Qd:=@PySem.F.type_int_bit_length
def G7:=@Nat.le_trans
def Im:=@PySem.W.mg_of
def HW:=@Nat.xor_self
def Js:=@Nat.not_lt_zero
def Gz:=@Nat.zero_le
def Jd:=@Int.natAbs_mul
def UG:=@Nat.testBit_eq_decide_div_mod_eq
def Le:=@decide_eq_true_eq
def Qc:=@Nat.and_xor_distrib_left
def Il:=@Nat.and_comm
def Ld:=@List.take_length
def Mr:=@of_decide_eq_true
def Rk:=@Nat.and_xor_distrib_right
def Om:=@List.mem_iff_getElem
def Qa:=@PySem.F.plainAttrs_int
def Nq:=@Option.toList_some
def Np:=@Nat.lt_of_le_of_lt
def Lb:=@PySem.W.kia_one
def La:=@List.nodup_cons
def Jc:=@Int.mul_comm
def Ol:=@Array.length_toList
def KZ:=@Nat.pow_succ'
def QZ:=@List.mem_append_left
def JH:=@Int.mul_pos
def Jr:=@Nat.zero_add
def Oj:=@List.filter_append
def T_:=@List.pairwise_iff_getElem
def Mq:=@List.append_nil
def Tz:=@Int.eq_of_mul_eq_mul_left
def Kw:=@wpAny_holding
def Nk:=@List.length_cons
def Nj:=@List.all_eq_true
def QX:=@Nat.testBit_two_pow
def Oi:=@wpAny_truthy_bool
def KY:=@Nat.xor_comm
def KR:=@List.map_map
def Zq:=@Int.mul_nonneg_of_nonpos_of_nonpos
def Mp:=@Heap.size_push
def Ni:=@Nat.testBit_and
def QW:=@Int.emod_lt_of_pos
def Rj:=@Nat.eq_of_testBit_eq
def Oh:=@Nat.lt_succ_self
def Og:=@Nat.div_eq_of_lt
def Kv:=@Nat.add_zero
def Wq:=@List.getElem?_append_right
def Wo:=@Int.fdiv_eq_ediv_of_nonneg
def Tw:=@Heap.get?_update_other
def QV:=@wpAny_newObj_type
def Ri:=@PySem.mem_of_lookup
def Wn:=@List.getElem?_append_left
def LR:=@Nat.ne_of_gt
def LQ:=@Int.zero_add
def Oe:=@Int.emod_nonneg
def Rh:=@Bool.false_eq_true
def Ku:=@Int.le_refl
def JG:=@segRun_of
def JF:=@piece_app
def LK:=@wpAny_field
def QT:=@Int.mul_eq_zero
def Rc:=@List.getElem_mem
def Ik:=@or_false
def Nh:=@Nat.xor_zero
def Wk:=@Heap.get?_update_self
def QS:=@Int.mul_nonneg
def Rb:=@wpAny_passesOwn
def Zm:=@wpAny_comprehension_free
def Tv:=@Nat.lt_succ_of_lt
def Ra:=@List.range_succ
def Tt:=@List.foldl_append
def RZ:=@Int.mul_ne_zero
def Jb:=@if_false
def QM:=@Nat.lt_irrefl
def Wj:=@List.getElem_of_mem
def Tq:=@Nat.gcd_mul_left
def Tp:=@List.filter_cons
def Zk:=@Nat.div_div_eq_div_mul
def Zj:=@List.take_of_length_le
def Wi:=@wpAny_Call_Name_kw
def Wh:=@Nat.add_sub_cancel
def Wg:=@Int.natAbs_natCast
def QL:=@Nat.pow_succ
def Od:=@Nat.pow_add
def Tn:=@List.find?_cons
def Zi:=@Int.natAbs_dvd_natAbs
def Tj:=@Bool.eq_iff_iff
def Wf:=@wpAny_pyIter_list
def Wd:=@List.pairwise_map
def Wc:=@List.length_range
def RX:=@Int.mul_assoc
def jU:=@PySem.F.excBase_ValueError
def Zh:=@List.mem_of_mem_take
def Wb:=@List.lookup_cons
def Wa:=@List.ext_getElem
def Ja:=@if_true
def QK:=@Nat.one_mul
def QJ:=@Int.one_mul
def Zg:=@Heap.get?_update_ne
def RV:=@codeAny_mono
def RT:=@Nat.lt_trans
def jT:=@Int.mul_fdiv_cancel_left
def Ti:=@wpAny_standAt
def WY:=@wpAny_execs_nil
def jR:=@wpAny_callSpecial?_slot
def Zf:=@List.zip_cons_cons
def Te:=@List.any_cons
def WX:=@Bool.or_eq_true
def Td:=@Bool.false_or
def jQ:=@List.getElem?_set_self
def jP:=@List.getElem?_eraseIdx
def WW:=@wpAny_setField
def WT:=@wpAny_seqItems
def WR:=@List.take_zero
def Tc:=@Nat.zero_and
def TY:=@Nat.add_comm
def jO:=@List.length_filter_le
def TX:=@Int.le_total
def jN:=@Array.getElem?_toList
def Ze:=@wpAny_call_entry
def Zd:=@Nat.le_add_right
def Zc:=@List.any_eq_true
def uG:=@Int.mul_le_mul_of_nonneg_left
def jM:=@List.replicate_succ'
def jL:=@List.getElem?_set_ne
def Zb:=@List.of_mem_zip
def Za:=@List.mem_filter
def jK:=@List.map_congr_left
def jJ:=@List.filterMap_cons
def jH:=@Int.toNat_of_nonneg
def TV:=@Int.neg_mul
def uF:=@Int.mul_lt_mul_of_pos_right
def ZX:=@Int.emod_two_eq
def ZW:=@Int.ediv_nonneg
def uE:=@Array.getElem?_eq_some_iff
def jG:=@wpAny_pyIter_tuple
def jF:=@tupleKind_room_in1
def jE:=@of_decide_eq_false
def jD:=@PySem.W.noMix_ints
def WQ:=@Nat.zero_mul
def jC:=@List.mapIdx_append
def jB:=@List.length_mapIdx
def jA:=@List.getElem?_take
def WM:=@Int.pow_succ
def uD:=@PySem.F.slot_dict_getitem
def t_:=@Nat.add_mul_mod_self_left
def i_:=@wpAny_assign_Name
def iz:=@PySem.W.same_ints
def iy:=@Nat.lt_trichotomy
def iu:=@Nat.add_mod_right
def ig:=@Nat.add_div_right
def tu:=@List.mem_of_mem_eraseIdx
def iZ:=@List.getElem_take
def tY:=@Int.mul_ediv_cancel_left
def ZV:=@wpAny_attempt
def ZS:=@listUpdate_at
def tX:=@decide_eq_false_iff_not
def ZR:=@bitNot_bitNot
def tW:=@PySem.W.canLayAll0_ints
def tV:=@PySem.F.plain_list_iadd
def tU:=@PySem.F.attr_ValueError
def WL:=@Nat.pow_pos
def tR:=@List.getElem?_replicate
def iY:=@wpAny_execs_cons
def iW:=@decide_eq_decide
def iV:=@Nat.gcd_dvd_left
def iU:=@List.length_drop
def tK:=@wpAny_pyNext_list_item
def tG:=@subscriptTail_builtinR
def tE:=@codeAny_compStart_list
def su:=@PySem.W.cellsFrom_some
def sZ:=@Nat.testBit_lt_two_pow
def sY:=@Nat.le_mul_of_pos_left
def sX:=@wpAny_pyNext_list_end
def sW:=@wpAny_isTrue_Compare1
def iT:=@get?_update_seq
def sV:=@exec_Assign_Name_used
def iR:=@codeAny_builtin
def sU:=@PySem.W.depthAll_ints
def ZQ:=@Nat.mul_zero
def ZP:=@Nat.le_of_lt
def ZM:=@Nat.gcd_comm
def iQ:=@List.sum_append
def sS:=@List.length_singleton
def iM:=@List.filter_nil
def ZL:=@Int.ne_of_gt
def iK:=@Int.natCast_mul
def WK:=@wpAny_call
def WD:=@Nat.sub_le
def ZK:=@Nat.mul_one
def ZJ:=@Nat.mod_one
def ZG:=@Nat.log2_lt
def ZF:=@Int.pow_pos
def iJ:=@wpAny_newList
def iI:=@ne_dataH_same
def iH:=@List.map_take
def iG:=@List.all_cons
def iD:=@Bool.or_false
def ZD:=@size_push'
def ZC:=@boot_tuple
def iC:=@wpAny_typeOf
def iB:=@Nat.and_zero
def h_:=@List.map_nil
def g_:=@Int.add_zero
def gw:=@Int.add_comm
def V_:=@boot_all
def Y_:=@boot_list
end
set_option Elab.async false
set_option maxRecDepth 100000
namespace L2
abbrev Key:=Sum Int Str
noncomputable def Gr:Key->Value->Bool
 | .inl k,v=>Value.isInt k v
 | .inr x,v=>Value.isStrOf x v
noncomputable def jY (w:W1):Key->Int
 | .inl k=>hashInt k
 | .inr x=>hashStr w x
theorem N8:∀{k:Key}{v:W2},Gr k v=true->(∃i t,k=Sum.inl i/\v=Value.int i t)\/(∃x t,k=Sum.inr x/\v=Value.str x t)
 | .inl i,v,h=>by
  obtain⟨t,e⟩:=Value.isInt_shape (k:=i) (v:=v) h;exact .inl ⟨i,t,U,e⟩
 | .inr x,v,h=>by
  obtain⟨t,e⟩:=Value.isStrOf_shape (x:=x) (v:=v) h;exact .inr ⟨x,t,U,e⟩
theorem X1q(i:Int)(t:Tok):Gr (.inl i) (.int i t)=true:=by simp[Gr,Value.isInt]
theorem nM(x:Str)(t:Tok):Gr (.inr x) (.str x t)=true:=by simp[Gr,Value.isStrOf]
theorem W5d(a b:Int):decide ((Sum.inl a:Key)=Sum.inl b)=(a == b):=by
 by_cases e:a=b
 ·subst e;simp
 ·have h:¬ (Sum.inl a:Key)=Sum.inl b:=λq=>e (Sum.inl.inj q);rw[FJ h];exact(beq_eq_false_iff_ne.mpr e).symm
theorem W5a(a b:Str):decide ((Sum.inr a:Key)=Sum.inr b)=decide (a=b):=by
 by_cases e:a=b
 ·subst e;simp
 ·have h:¬ (Sum.inr a:Key)=Sum.inr b:=λq=>e (Sum.inr.inj q);rw[FJ h,FJ e]
theorem W5c(a:Int)(b:Str):decide ((Sum.inl a:Key)=Sum.inr b)=false:=FJ (λq=>nomatch q)
theorem W5b(a:Str)(b:Int):decide ((Sum.inr a:Key)=Sum.inl b)=false:=FJ (λq=>nomatch q)
noncomputable def JR (prog:U8)(w:W1):PySem.KeyKind prog w Key where
 is:=Gr
 hash:=jY w
 inj:=λv a b ha hb=>by
  rcases N8 ha with ⟨i,t,rfl,rfl⟩ | ⟨x,t,rfl,rfl⟩
  ·rcases N8 hb with ⟨j,u,rfl,e⟩ | ⟨y,u,rfl,e⟩
   ·injection e with e1 _;rw[e1]
   ·exact nomatch e
  ·rcases N8 hb with ⟨j,u,rfl,e⟩ | ⟨y,u,rfl,e⟩
   ·exact nomatch e
   ·injection e with e1 _;rw[e1]
 byValue:=λk v h=>by
  rcases N8 h with ⟨i,t,rfl,rfl⟩ | ⟨x,t,rfl,rfl⟩<;>rfl
 pyHash:=λhv h=>by
  rcases N8 hv with ⟨i,t,rfl,rfl⟩ | ⟨x,t,rfl,rfl⟩
  ·exact wpAny_pyHash_int h
  ·exact wpAny_pyHash_str h
 eqBool:=λhu hv h=>by
  rcases N8 hu with ⟨i,t,rfl,rfl⟩ | ⟨x,t,rfl,rfl⟩
  ·rcases N8 hv with ⟨j,u,rfl,rfl⟩ | ⟨y,u,rfl,rfl⟩
   ·rw[W5d]at h;exact wpAny_eqBool_int h
   ·rw[W5c]at h;exact SeqAt.EqAt.int_str i t y u _ _ _ _ h
  ·rcases N8 hv with ⟨j,u,rfl,rfl⟩ | ⟨y,u,rfl,rfl⟩
   ·rw[W5b]at h;exact SeqAt.EqAt.str_int x t j u _ _ _ _ h
   ·rw[W5a]at h;exact wpAny_eqBool_str h
 «strs»:=λk x t v h=>by
  rcases N8 h with ⟨i,u,rfl,e⟩ | ⟨y,u,rfl,e⟩
  ·exact nomatch e
  ·injection e with e1 _
   subst e1
   cases v<;>rfl
theorem Y4h(prog:U8)(w:W1)(i:Int)(t:Tok):(JR prog w).is (.inl i) (.int i t)=true:=X1q i t
theorem Y4g(prog:U8)(w:W1)(x:Str)(t:Tok):(JR prog w).is (.inr x) (.str x t)=true:=nM x t
inductive V where
 | non | bl (b:Bool) | int (i:Int) | str (x:Str) | byt (b:Array UInt8) | flt (b:UInt64) | ref (a:W9) | ty (n:String)
 deriving DecidableEq
def RelV:V->Value->Prop
 | .non,u=>u=Value.none
 | .bl b,u=>u=Value.bool b
 | .int i,u=>∃t,u=Value.int i t
 | .str x,u=>∃t,u=Value.str x t
 | .byt b,u=>∃t,u=Value.bytes b t
 | .flt b,u=>∃t,u=Value.float b t
 | .ref a,u=>u=Value.ref a
 | .ty n,u=>u=Value.type n
abbrev Vals:List V->List Value->Prop:=Paired RelV
variable{us:U5}
theorem Vals.length{xs:List V}(r:Vals xs us):xs.length=us.length:=Paired.length r
theorem Vals.get:∀{xs:List V}{us:U5}{i:Nat}{x:V},Vals xs us->xs[i]?=some x->∃u,us[i]?=some u/\RelV x u
 | _,_,_,_,.nil,e=>by simp at e
 | _,_,0,_,.cons r _,e=>by simp at e;subst e;exact⟨_,rfl,r⟩
 | _,_,i+1,x,.cons _ t,e=>by
  obtain⟨u,h1,h2⟩:=Vals.get (i:=i) (x:=x) t (by simpa using e);exact⟨u,by simpa using h1,h2⟩
theorem Vals.append:∀{xs ys:List V}{us ws:U5},Vals xs us->Vals ys ws->Vals (xs++ys) (us++ws)
 | _,_,_,_,.nil,s=>s
 | _,_,_,_,.cons r t,s=>.cons r (Vals.append t s)
theorem Vals.take:∀{xs:List V}{us:U5} (n:Nat),Vals xs us->Vals (xs.take n) (us.take n)
 | _,_,0,_=>.nil
 | _,_,_+1,.nil=>.nil
 | _,_,n+1,.cons r t=>.cons r (Vals.take n t)
theorem Vals.drop:∀{xs:List V}{us:U5} (n:Nat),Vals xs us->Vals (xs.drop n) (us.drop n)
 | _,_,0,r=>r
 | _,_,_+1,.nil=>.nil
 | _,_,n+1,.cons _ t=>Vals.drop n t
def GZ:Option V->Option Value->Prop
 | some v,some u=>RelV v u
 | none,none=>True
 | _,_=>False
def KV {κ:Type}:List (κ×V)->List (κ×Value)->Prop:=Paired λ(p:κ×V) (q:κ×Value)=>p.1=q.1/\RelV p.2 q.2
noncomputable def kV:Key->V
 | .inl i=>.int i
 | .inr x=>.str x
inductive HO where
 | lst (xs:List V)
 | tup (xs:List V)
 | dK (kvs:List (Key×V)) | dT (kvs:List (List Key×V))
 | set (S:Int->Bool) (n:Nat)
 | ins (C dx:W9) (fs:List (Str×V))
 | own (x:W9)
 | xd (fs:List (Str×V))
 | met (f x:W9)
 | rng (lo hi:Int)
 | frz (o:Obj) (u:HO)
 | tbl (ps:U9)
 | ext (φ:Heap->Prop)
abbrev Hp:=Addr->Option HO
noncomputable def upd (H:Hp)(a:W9)(o:HO):Hp:=λb=>if b=a then some o else H b
variable{H:Hp}{a:W9}{o:HO}
theorem Ax:upd H a o a=some o:=by unfold upd;rw[if_pos rfl]
variable{b:W9}
theorem Cg(h:b≠a):upd H a o b=H b:=by unfold upd;rw[if_neg h]
theorem Q_{u:HO}(h:H a=some o)(h':H b=some u)(d:o≠u):a≠b:=by
 intro e;subst e;rw[h]at h';exact d (Option.some.inj h')
theorem PN(h:H a=some o)(h':H b=none):a≠b:=by
 intro e;subst e;rw[h]at h';cases h'
section
variable (P:U8) (w:W1)
def Bf (H:Hp)(h:Heap)(a:W9):HO->Prop
 | .lst xs=>xs.length<=sizeLine/\∃(its:U5) (n:Nat),Vals xs its/\h.get? a=some { cls:=.type "list",data:=.seq its.toArray n}
 | .tup xs=>xs.length<=sizeLine/\∃its:List Value,Vals xs its/\IsTup h a its.toArray
 | .dK kvs=>kvs.length<=sizeLine/\(a == sysModules)=false/\∃vs,KV kvs vs/\h.DictOf (JR P w) a vs
 | .dT kvs=>kvs.length<=sizeLine/\(a == sysModules)=false/\∃xs:List (List Key×Addr×Value),
   Paired (λ(p:List Key×V) (q:List Key×Addr×Value)=>p.1=q.1/\H q.2.1=some (.tup (p.1.map kV))/\RelV p.2 q.2.2) kvs xs /\
   ∃o es ep,h.get? a=some o/\o.ExactDict/\o.data=.dict es ep/\es.toList=xs.map (entryOfKey (tupleKind (JR P w)))/\(xs.map (·.1)).Nodup
 | .set S n=>h.SetOf (intKind P w) a S n
 | .ins C dx fs=>H dx=some (.own a)/\fs.length<=1000/\dx≠a/\h.get? a=some (PySem.W.instObj C dx) /\
   ∃mA,h.Ns1 dx mA/\(∀f,GZ (fs.lookup f) (mA f))/\PySem.Within mA (fs.map (·.1))
 | .own _=>∃o,h.get? a=some o
 | .xd fs=>∃mA,h.Ns1 a mA/\∀f,GZ (fs.lookup f) (mA f)
 | .rng lo hi=>∃t u v,h.get? a=some { cls:=.type "range",data:=.fields #[.int lo t,.int hi u,.int 1 v]}
 | .frz o u=>h.get? a=some o/\Bf H h a u
 | .tbl ps=>h.get? a=some { cls:=.none,data:=.fields ps}
 | .met f x=>h.get? a=some (PySem.W.methodObj (.ref f) (.ref x))
 | .ext φ=>φ h/\(∃o,h.get? a=some o)/\∀h1 h2:Heap,φ h1->(∀o,h1.get? a=some o->h2.get? a=some o)->φ h2
def Ey (H:Hp)(h:Heap):Prop:=∀a o,H a=some o->Bf P w H h a o
end
section
variable {P:U8}{w:W1}{H H':Hp}{h h':Heap}{a:W9}{o:HO}
theorem Bf.lt(x:Bf P w H h a o):a<h.objs.size:=by
 cases o with
 | lst xs=>obtain⟨_,_,_,_,e⟩:=x;exact CQ e
 | tup xs=>obtain⟨_,_,_,p⟩:=x;exact p.lt
 | dK kvs=>obtain⟨_,_,_,_,o,_,_,e,_⟩:=x;exact CQ e
 | dT kvs=>obtain⟨_,_,_,_,o,_,_,e,_⟩:=x;exact CQ e
 | set S n=>obtain⟨o,_,_,_,e,_⟩:=x;exact CQ e
 | ins C dx fs=>obtain⟨_,_,_,e,_⟩:=x;exact CQ e
 | own y=>obtain⟨_,e⟩:=x;exact CQ e
 | xd fs=>obtain⟨_,⟨_,_,_,e,_⟩,_⟩:=x;exact CQ e
 | rng lo hi=>obtain⟨_,_,_,e⟩:=x;exact CQ e
 | frz ob u=>obtain⟨e,_⟩:=x;exact CQ e
 | tbl ps=>exact CQ (show h.get? a=some _ from x)
 | met f y=>exact CQ (show h.get? a=some _ from x)
 | ext φ=>obtain⟨_,⟨_,e⟩,_⟩:=x;exact CQ e
theorem Paired.mapP{α β:Type}{F G:α->β->Prop}:∀{l₁:List α}{l₂:List β},Paired F l₁ l₂->(∀a b,F a b->G a b)->Paired G l₁ l₂
 | _,_,.nil,_=>.nil
 | _,_,.cons r t,f=>.cons (f _ _ r) (Paired.mapP t f)
theorem Paired.imp'{α β:Type}{F G:α->β->Prop}(f:∀a b,F a b->G a b){l₁:List α}{l₂:List β}(r:Paired F l₁ l₂):Paired G l₁ l₂:=Paired.mapP r f
theorem Bf.stay(x:Bf P w H h a o)(k:∀b u,(b=a\/H b=some (.own a))->h.get? b=some u->h'.get? b=some u)
  (ho:∀b,H b=some (.own a)->H' b=some (.own a)) (ht:∀b xs,H b=some (.tup xs)->H' b=some (.tup xs)):Bf P w H' h' a o:=by
 induction o with
 | lst xs=>obtain⟨z,its,n,r,e⟩:=x;exact⟨z,its,n,r,k _ _ (.inl rfl) e⟩
 | tup xs=>obtain⟨z,its,r,g,e,c⟩:=x;exact⟨z,its,r,g,k _ _ (.inl rfl) e,c⟩
 | dK kvs=>obtain⟨z,y,vs,r,g,es,ep,e,c⟩:=x;exact⟨z,y,vs,r,g,es,ep,k _ _ (.inl rfl) e,c⟩
 | dT kvs =>
  obtain⟨z,y,xs,r,g,es,ep,e,c⟩:=x;exact⟨z,y,xs,Paired.mapP r λp q z=>⟨z.1,ht _ _ z.2.1,z.2.2⟩,g,es,ep,k _ _ (.inl rfl) e,c⟩
 | set S n=>obtain⟨g,es,ep,t,e,c⟩:=x;exact⟨g,es,ep,t,k _ _ (.inl rfl) e,c⟩
 | ins C dx fs =>
  obtain⟨d,z,i,e,mA,⟨od,es,ep,e2,c⟩,r⟩:=x;exact⟨ho _ d,z,i,k _ _ (.inl rfl) e,mA,⟨od,es,ep,k _ _ (.inr d) e2,c⟩,r⟩
 | own y=>obtain⟨g,e⟩:=x;exact⟨g,k _ _ (.inl rfl) e⟩
 | xd fs=>obtain⟨mA,⟨od,es,ep,e,c⟩,r⟩:=x;exact⟨mA,⟨od,es,ep,k _ _ (.inl rfl) e,c⟩,r⟩
 | rng lo hi=>obtain⟨t,u,v,e⟩:=x;exact⟨t,u,v,k _ _ (.inl rfl) e⟩
 | frz g u ih=>obtain⟨e,q⟩:=x;exact⟨k _ _ (.inl rfl) e,ih q⟩
 | tbl ps =>
  have e:h.get? a=some { cls:=.none,data:=.fields ps}:=x;show h'.get? a=some { cls:=.none,data:=.fields ps};exact k a _ (.inl rfl) e
 | met f y =>
  have e:h.get? a=some (PySem.W.methodObj (.ref f) (.ref y)):=x;show h'.get? a=some (PySem.W.methodObj (.ref f) (.ref y));exact k a _ (.inl rfl) e
 | ext φ=>obtain⟨p,⟨o,e⟩,st⟩:=x;exact⟨st _ _ p λo q=>k _ _ (.inl rfl) q,⟨o,k _ _ (.inl rfl) e⟩,st⟩
theorem Ey.lt(x:Ey P w H h)(e:H a=some o):a<h.objs.size:=(x a o e).lt
theorem Ey.fresh(x:Ey P w H h)(e:h.objs.size<=a):H a=none:=by
 cases q:H a with
 | none=>rfl
 | some u=>exact absurd (Ea (x.lt q) e) (QM _)
theorem Ey.kept(x:Ey P w H h)(k:∀b u,h.get? b=some u->h'.get? b=some u):Ey P w H h':=λa o e =>
 (x a o e).stay (λb u _ q=>k b u q) (λ_ q=>q) λ_ _ q=>q
theorem Ey.laid(x:Ey P w H h)(k:∀b u,h.get? b=some u->h'.get? b=some u)(hp:h.objs.size<=a)(new:Bf P w (upd H a o) h' a o):Ey P w (upd H a o) h':=λb u e=>by
 have d:=x.fresh hp;by_cases hb:b=a
 ·subst hb;rw[Ax]at e;cases e;exact new
 ·rw[Cg hb]at e;exact(x b u e).stay (λc v _ q=>k c v q) (λc q=>by rw[Cg (PN q d)];exact q) λc xs q=>by rw[Cg (PN q d)];exact q
end
def Rd (H:Hp)(a:W9)(u:HO):Prop:=H a=some u\/∃o,H a=some (.frz o u)
variable{P:U8}{w:W1}{h:Heap}
theorem Rd.ok{u:HO}(r:Rd H a u)(x:Ey P w H h):Bf P w H h a u:=by
 rcases r with r | ⟨o,r⟩
 ·exact x a u r
 ·obtain⟨_,q⟩:=x a _ r;exact q
def Yw:Option HO->Prop
 | some (.lst _)=>True
 | some (.dK _)=>True
 | some (.dT _)=>True
 | some (.set _ _)=>True
 | some (.ins _ _ _)=>True
 | some (.ext _)=>True
 | _=>False
section
variable {P:U8}{w:W1}{H:Hp}{h h':Heap}{x e:W9}{o':HO}
theorem Ey.write(ok:Ey P w H h)(mu:Yw (H x))(he:e=x\/H e=some (.own x))(k:∀b u,b≠e->h.get? b=some u->h'.get? b=some u)(heo:∃u,h'.get? e=some u)
  (new:Bf P w (upd H x o') h' x o'):Ey P w (upd H x o') h':=λb u q=>by
 have a:∀c y,H c=some (.own y)->c≠x:=λc y r z=>by subst z;rw[r]at mu;exact mu
 have d:∀c xs,H c=some (.tup xs)->c≠x:=λc xs r z=>by subst z;rw[r]at mu;exact mu
 by_cases hb:b=x
 ·subst hb;rw[Ax]at q;cases q;exact new
 ·rw[Cg hb]at q;by_cases hbe:b=e
  ·have g:H b=some (.own x):=by
    rcases he with z | z
    ·exact absurd (hbe.trans z) hb
    ·rw[hbe];exact z
   rw[q]at g;cases g;obtain⟨v,i⟩:=heo;exact⟨v,by rw[hbe];exact i⟩
  ·refine(ok b u q).stay (λc v f r=>k c v ?_ r) (λc r=>by rw[Cg (a c b r)];exact r) λc xs r=>by rw[Cg (d c xs r)];exact r
   rcases f with rfl | f
   ·exact hbe
   ·rintro rfl;rcases he with z | z
    ·exact a c b f z
    ·rw[f]at z;cases z;exact hb rfl
end
structure Un (fs ex:U3) (H H':Hp) (h h':Heap):Prop where
 keep:∀b o,h.get? b=some o->H b=none->b∉fs->b∉ex->h'.get? b=some o
 slot:∀b o,h.get? b=some o->H b=none->b∈fs->b∉ex->∃sl,h'.get? b=some {o with slots:=sl}
 free:∀b o,h.get? b=some o->H b=none->b∉ex->H' b=none
 there:∀b o,h.get? b=some o->b∉ex->∃o',h'.get? b=some o'
 tups:∀b xs,H b=some (.tup xs)->H' b=some (.tup xs)
 frzs:∀b o u,H b=some (.frz o u)->H' b=some (.frz o u)
 tbls:∀b ps,H b=some (.tbl ps)->∃more,H' b=some (.tbl (ps++more))
section
variable {fs fs' ex ex':U3}{H H1 H2:Hp}{h h1 h2 h':Heap}{a x e:W9}{o:HO}
theorem Un.any(u:Un fs ex H H1 h h1){ob:Obj}(q:h.get? b=some ob)(n:H b=none)(hx:b∉ex):∃sl,h1.get? b=some {ob with slots:=sl}:=by
 by_cases hb:b∈fs
 ·exact u.slot b ob q n hb hx
 ·exact⟨ob.slots,u.keep b ob q n hb hx⟩
theorem Un.kept(k:∀b u,h.get? b=some u->h'.get? b=some u):Un fs ex H H h h' :=
 ⟨λb a q _ _ _=>k b a q,λb a q _ _ _=>⟨a.slots,k b a q⟩,λ_ _ _ n _=>n,λb a q _=>⟨a,k b a q⟩,λ_ _ q=>q,λ_ _ _ q=>q,λ_ ps q=>⟨#[],by rw[q];simp⟩⟩
theorem Un.refl:Un fs ex H H h h:=Un.kept λ_ _ q=>q
theorem Un.laid(k:∀b u,h.get? b=some u->h'.get? b=some u)(hp:h.objs.size<=a)(hn:H a=none):Un fs ex H (upd H a o) h h' where
 keep:=λb u q _ _ _=>k b u q
 slot:=λb u q _ _ _=>⟨u.slots,k b u q⟩
 free:=λb u q n _=>by rw[Cg (Df (Ea (CQ q) hp))];exact n
 there:=λb u q _=>⟨u,k b u q⟩
 tups:=λb xs q=>by rw[Cg (PN q hn)];exact q
 frzs:=λb u xs q=>by rw[Cg (PN q hn)];exact q
 tbls:=λb ps q=>⟨#[],by rw[Cg (PN q hn),q];simp⟩
theorem Un.write(mu:Yw (H x))(he:e=x\/H e=some (.own x))(k:∀b u,b≠e->h.get? b=some u->h'.get? b=some u)(heo:∃u,h'.get? e=some u):Un fs ex H (upd H x o) h h':=by
 have c:∀b,H b=none->b≠x:=λb n z=>by subst z;rw[n]at mu;exact mu
 have hb:∀b,H b=none->b≠e:=λb n z=>by
  subst z;rcases he with r | r
  ·exact c b n r
  ·rw[n]at r;cases r
 have a:∀b u,H b=some u->¬ Yw (some u)->b≠x:=λb u q nm z=>by subst z;rw[q]at mu;exact nm mu
 refine⟨λb u q n _ _=>k b u (hb b n) q,λb u q n _ _=>⟨u.slots,k b u (hb b n) q⟩,λb u q n _=>by rw[Cg (c b n)];exact n,λb u q _=>?_,
  λb xs q=>by rw[Cg (a b _ q λz=>z)];exact q,λb u xs q=>by rw[Cg (a b _ q λz=>z)];exact q,λb ps q=>⟨#[],by rw[Cg (a b _ q λz=>z),q];simp⟩⟩
 by_cases hbe:b=e
 ·subst hbe;exact heo
 ·exact⟨u,k b u hbe q⟩
end
noncomputable def Y9 (h:Heap)(H:Hp):List Addr:=(List.range h.objs.size).filter λa=>(H a).isSome
noncomputable def IV (h:Heap)(H:Hp):Heap:=PySem.W.hideAll h (Y9 h H)
theorem X1z(h:Heap)(H:Hp):(IV h H).objs.size=h.objs.size:=PySem.W.hideAll_size _ _
variable{o:Obj}
theorem X6e(e:h.get? b=some o)(n:H b=none):(IV h H).get? b=some o :=
 PySem.W.hideAll_get _ e λa=>by
  have q:(H b).isSome=true:=(Za.mp a).2;rw[n]at q;simp at q
theorem W0x(e:(IV h H).get? b=some o):h.get? b=some o/\H b=none:=by
 have a:h.get? b=some o:=PySem.W.of_hideAll (Y9 h H) e;refine⟨a,?_⟩;cases q:H b with
 | none=>rfl
 | some x =>
  have c:b∈Y9 h H:=Za.mpr ⟨Ek.mpr (CQ a),by simp[q]⟩;have z:(IV h H).get? b=none:=PySem.W.hideAll_none (Y9 h H) c;rw[z]at e;cases e
structure Mod (K:U0) (mg:U4) (base:Heap):Prop where
 kin:K.In base
 glob:base.Ns mainGlobals mg
 blt:∃mb,base.Ns builtinsNs mb/\∀x:Str,x≠"__name__"->mb x=bootBuiltins x
 nolimit:base.NoLimit
structure Cx where
 prog:Program
 w:World
 K:U0
 mg:Str->Option Value
 base:Heap
 A:Around
 N:List Str
 s₀:Shared
 H₀:Hp
 env:Env
 outer:List Env
 stack:List Env
 ex:List Addr
 fn:Str->Bool
 calm:Bool
 pn:List (Addr×Obj)
 xe:Value->Shared->Prop
noncomputable def frs (l:List Env):List Addr:=l.filterMap (·.frame)
noncomputable abbrev Cx.fs (X:Cx):List Addr:=frs X.outer
def Yt (sc:Scope)(x:Str):Prop:=sc.names.lookup x=some .local\/sc.names.lookup x=some .cell\/sc.names.lookup x=some .free
def Loc (sc:Scope)(x:Str):Prop:=sc.names.lookup x=some .local\/sc.names.lookup x=some .cell
def Look (env:Env)(h:Heap)(m:U4)(x:Str)(u:W2):Prop :=
 (env.kindOf x=some .local/\m x=some u)\/((env.kindOf x=some .cell\/env.kindOf x=some .free)/\∃c,env.cells.lookup x=some c/\h.IsCell c (some u))
structure Cx.Ok (X:Cx):Prop where
 mod:Mod X.K X.mg X.base
 kind:X.env.scope.kind=.function
 glob:X.env.globals=mainGlobals
 blt:X.env.builtins=builtinsNs
 above:X.s₀.heap.objs.size<=X.env.locals
 inj:∀x y c,X.env.cells.lookup x=some c->X.env.cells.lookup y=some c->x=y
 has:∀x,(X.env.kindOf x=some .cell\/X.env.kindOf x=some .free)->∃c,X.env.cells.lookup x=some c
 cab:∀x c,X.fn x=true->X.env.cells.lookup x=some c->X.s₀.heap.objs.size<=c
 hd:X.calm=true->X.A.handled=none
 frames:X.A.frames=some X.stack
 stk:X.stack=X.outer\/(X.stack=X.env::X.outer/\X.env.frame=some X.env.locals)
 exf:∀b∈X.ex,b≠X.env.locals/\∀x c,X.env.cells.lookup x=some c->c≠b
 bs:∀b o,X.base.get? b=some o->X.s₀.heap.get? b=some o/\X.H₀ b=none
 bsz:X.base.objs.size<=X.s₀.heap.objs.size
 noex:∀b o,X.base.get? b=some o->b∉X.ex
 exfs:∀b∈X.ex,b∉X.fs
 funs:X.s₀.heap.FunFrames X.base X.outer
 frf:∀b∈X.fs,X.H₀ b=none
structure Inv (X:Cx) (pins:U1) (σ:List (Option V)) (H:Hp) (s:U7):Prop where
 ok:X.Ok
 os:s.os=X.s₀.os
 bare:AllBare s.gens
 base:Un X.fs X.ex X.H₀ H X.s₀.heap s.heap
 loc:∃m,s.heap.Ns X.env.locals m/\∀(i:Nat) (x:Str) (v:V),X.N[i]?=some x->σ[i]?=some (some v)->Yt X.env.scope x->∃u,RelV v u/\Look X.env s.heap m x u
 cell:∀x c,X.env.cells.lookup x=some c->∃v,s.heap.IsCell c v
 free:H X.env.locals=none
 freeC:∀x c,X.env.cells.lookup x=some c->H c=none
 pin:∀p∈X.pn++pins,s.heap.get? p.1=some p.2/\H p.1=none/\p.1≠X.env.locals/\p.1∉X.fs/\∀v,p.2.data≠.cell v
 hok:Ey X.prog X.w H s.heap
 len:σ.length=X.N.length
section
variable {X:Cx}{pins:U1}{σ:List (Option V)}{H H':Hp}{s:U7}{h':Heap}
theorem Cx.Ok.nofr(ok:X.Ok)(e:X.base.get? b=some o):b∉X.fs:=λhb=>by
 have:=(ok.funs.mem hb).1;rw[e]at this;cases this
theorem Inv.bs(I:Inv X pins σ H s):∀b o,X.base.get? b=some o->s.heap.get? b=some o/\H b=none:=λb o e =>
 ⟨I.base.keep b o (I.ok.bs b o e).1 (I.ok.bs b o e).2 (I.ok.nofr e) (I.ok.noex b o e),I.base.free b o (I.ok.bs b o e).1 (I.ok.bs b o e).2 (I.ok.noex b o e)⟩
theorem Inv.bk(I:Inv X pins σ H s):∀b o,X.base.get? b=some o->s.heap.get? b=some o:=λb o e=>(I.bs b o e).1
theorem Inv.mod(I:Inv X pins σ H s):Mod X.K X.mg X.base:=I.ok.mod
theorem Inv.kIn(I:Inv X pins σ H s):X.K.In s.heap:=I.ok.mod.kin.keeps I.bk
theorem Inv.lt(I:Inv X pins σ H s):X.env.locals<s.heap.objs.size:=let ⟨_,hn,_⟩:=I.loc;hn.lt
theorem Inv.sz(I:Inv X pins σ H s):X.s₀.heap.objs.size<=s.heap.objs.size:=G7 I.ok.above (ZP I.lt)
theorem Inv.nofs(I:Inv X pins σ H s)(h:s.heap.objs.size<=a):a∉X.fs:=λhb=>by
 obtain⟨_,o,b,_⟩:=I.ok.funs.mem hb;exact absurd (Ea (CQ b) (G7 I.sz h)) (QM _)
theorem Inv.cne(I:Inv X pins σ H s):∀x c,X.env.cells.lookup x=some c->c≠X.env.locals:=λx c e z=>by
 obtain⟨v,o,d,hd⟩:=I.cell x c e;obtain⟨m,⟨o',es,ep,a,b,_⟩,_⟩:=I.loc;rw[z,a]at d;cases d;rw[b]at hd;cases hd
theorem Inv.funs(I:Inv X pins σ H s):s.heap.FunFrames X.base X.outer:=by
 have all:∀(l:List Env),(∀b∈frs l,b∈X.fs)->X.s₀.heap.FunFrames X.base l->s.heap.FunFrames X.base l:=by
  intro l;induction l with
  | nil=>intro _ _;trivial
  | cons env r ih =>
   intro c d;obtain⟨i,⟨L,o,hf,g,f,hd⟩,h⟩:=d;have a:L∈X.fs:=c L (by unfold frs;rw[jJ,hf];exact Je);obtain⟨j,e⟩:=I.base.slot L o f (I.ok.frf L a) a λz=>I.ok.exfs L z a;exact⟨i,⟨L,_,hf,g,e,hd⟩,ih (λb hb=>c b (by unfold frs;rw[jJ,hf];exact Ju _ hb)) h⟩
 exact all X.outer (λ_ hb=>hb) I.ok.funs
theorem Inv.stack(I:Inv X pins σ H s):s.heap.FunFrames X.base X.stack:=by
 rcases I.ok.stk with e | ⟨e,hf⟩
 ·rw[e];exact I.funs
 ·rw[e];obtain⟨m,a,_⟩:=I.loc;refine .cons (by rw[I.ok.kind];decide) hf a ?_ I.funs;exact Heap.get?_none_of_le (G7 I.ok.bsz I.ok.above)
theorem Inv.stkSub(I:Inv X pins σ H s):∀b∈frs X.stack,b∈X.env.locals::X.fs:=λb hb=>by
 rcases I.ok.stk with e | ⟨e,hf⟩
 ·rw[e]at hb;exact Ju _ hb
 ·rw[e]at hb;unfold frs at hb;rw[jJ,hf]at hb;exact hb
theorem Inv.stkFree(I:Inv X pins σ H s):∀b∈frs X.stack,H b=none:=λb hb=>by
 rcases Dj.mp (I.stkSub b hb) with e | hb
 ·rw[e];exact I.free
 ·obtain⟨_,o,a,_⟩:=I.ok.funs.mem hb;exact I.base.free b o a (I.ok.frf b hb) λz=>I.ok.exfs b z hb
variable{g':Array GenState}{t':Nat}{d':Drawn}{ch:U3}
theorem Inv.step(I:Inv X pins σ H s)
  (hch:∀b∈ch,(b∈X.ex\/X.s₀.heap.objs.size<=b)/\b≠X.env.locals/\(∀x c,X.env.cells.lookup x=some c->c≠b)/\∀p∈X.pn++pins,p.1≠b)
  (keep:∀b o,b≠X.env.locals->b∉X.fs->b∉ch->s.heap.get? b=some o->H b=none->h'.get? b=some o)
  (slot:∀b o,b≠X.env.locals->b∈X.fs->b∉ch->s.heap.get? b=some o->H b=none->∃A,h'.get? b=some {o with slots:=A}) (free:∀b o,b∉ch->s.heap.get? b=some o->H b=none->H' b=none)
  (there:∀b o,b∉ch->s.heap.get? b=some o->∃o',h'.get? b=some o')
  (tups:∀b xs,H b=some (.tup xs)->H' b=some (.tup xs)) (frzs:∀b o u,H b=some (.frz o u)->H' b=some (.frz o u)) (tbls:∀b ps,H b=some (.tbl ps)->∃more,H' b=some (.tbl (ps++more)))
  (ns:∀m,s.heap.Ns X.env.locals m->h'.Ns X.env.locals m) (hok:Ey X.prog X.w H' h') (hg:AllBare g'):
  Inv X pins σ H' {s with heap:=h',gens:=g',drawn:=d',toks:=t'}:=by
 have t:∀b o,X.s₀.heap.get? b=some o->b≠X.env.locals:=λb o e=>Df (Ea (CQ e) I.ok.above);have h:∀b o,X.s₀.heap.get? b=some o->b∉X.ex->b∉ch:=λb o e a hb=>by
  rcases (hch b hb).1 with z | z
  ·exact a z
  ·exact absurd (Ea (CQ e) z) (QM _)
 have f:∀x c,X.env.cells.lookup x=some c->∀v,s.heap.IsCell c v->h'.IsCell c v:=λx c e v ⟨o,j,hd⟩=>by
  have g:c∉ch:=λz=>(hch c z).2.2.1 x c e rfl;by_cases hc:c∈X.fs
  ·obtain⟨A,q⟩:=slot c o (I.cne x c e) hc g j (I.freeC x c e);exact⟨_,q,hd⟩
  ·exact⟨o,keep c o (I.cne x c e) hc g j (I.freeC x c e),hd⟩
 refine⟨I.ok,I.os,hg,⟨λb o e n hb a=>?_,λb o e n hb a=>?_,λb o e n a=>?_,λb o e a=>?_,λb xs e=>tups b xs (I.base.tups b xs e),λb o xs e=>frzs b o xs (I.base.frzs b o xs e),λb ps e=>?_⟩,?_,λx c e=>?_,?_,λx c e=>?_,λp hp=>?_,hok,I.len⟩
 ·exact keep b o (t b o e) hb (h b o e a) (I.base.keep b o e n hb a) (I.base.free b o e n a)
 ·obtain⟨A,e1⟩:=I.base.slot b o e n hb a;obtain⟨y,e2⟩:=slot b _ (t b o e) hb (h b o e a) e1 (I.base.free b o e n a);exact⟨y,e2⟩
 ·obtain⟨o',e1⟩:=I.base.there b o e a;exact free b o' (h b o e a) e1 (I.base.free b o e n a)
 ·obtain⟨o',e1⟩:=I.base.there b o e a;exact there b o' (h b o e a) e1
 ·obtain⟨E,e1⟩:=I.base.tbls b ps e;obtain⟨F,e2⟩:=tbls b _ e1;exact⟨E++F,by rw[e2,Array.append_assoc]⟩
 ·obtain⟨m,G,D⟩:=I.loc;refine⟨m,ns m G,λi x v e1 e2 J=>?_⟩;obtain⟨u,r,l⟩:=D i x v e1 e2 J;refine⟨u,r,?_⟩;rcases l with l | ⟨k,c,e,z⟩
  ·exact .inl l
  ·exact .inr ⟨k,c,e,f x c e _ z⟩
 ·obtain⟨v,z⟩:=I.cell x c e;exact⟨v,f x c e v z⟩
 ·obtain⟨m,⟨o,_,_,j,_⟩,_⟩:=I.loc;exact free _ o (λz=>(hch _ z).2.1 rfl) j I.free
 ·obtain⟨v,o,j,hd⟩:=I.cell x c e;exact free c o (λz=>(hch c z).2.2.1 x c e rfl) j (I.freeC x c e)
 ·obtain⟨e,n,B,C,d⟩:=I.pin p hp;have g:p.1∉ch:=λz=>(hch p.1 z).2.2.2 p hp rfl;exact⟨keep p.1 p.2 B C g e n,free p.1 p.2 g e n,B,C,d⟩
theorem Inv.un(I:Inv X pins σ H s)(u:Un X.fs [] H H' s.heap h')(hok:Ey X.prog X.w H' h'):Inv X pins σ H' {s with heap:=h',toks:=t'}:=by
 obtain⟨m,⟨o,es,ep,f,r⟩,_⟩:=id I.loc;obtain⟨j,i⟩:=u.any f I.free (by simp)
 exact I.step (g':=s.gens) (d':=s.drawn) (ch:=[]) (λ_ z=>nomatch z) (λb o _ hb _ e n=>u.keep b o e n hb (by simp)) (λb o _ hb _ e n=>u.slot b o e n hb (by simp)) (λb o _ e n=>u.free b o e n (by simp)) (λb o _ e=>u.there b o e (by simp)) u.tups u.frzs u.tbls (λm' h=>by
  obtain⟨o',d,c,a,g⟩:=h
  rw[f]at a;cases a
  exact⟨_,d,c,i,g⟩) hok I.bare
theorem Inv.call(I:Inv X pins σ H s)(u:Un (frs X.stack) ch H H' s.heap h')(hok:Ey X.prog X.w H' h')(hg:AllBare g')
  (hch:∀b∈ch,(b∈X.ex\/X.s₀.heap.objs.size<=b)/\b≠X.env.locals/\(∀x c,X.env.cells.lookup x=some c->c≠b)/\∀p∈X.pn++pins,p.1≠b):
  Inv X pins σ H' {s with heap:=h',gens:=g',drawn:=d',toks:=t'}:=by
 obtain⟨m,⟨o,es,ep,i,r⟩,_⟩:=id I.loc;obtain⟨l,g⟩:=u.any i I.free λz=>(hch _ z).2.1 rfl
 exact I.step (ch:=ch) hch (λb o g hb a e n=>u.keep b o e n (λz=>(Dj.mp (I.stkSub b z)).elim g hb) a) (λb o _ _ a e n=>u.any e n a) (λb o a e n=>u.free b o e n a) (λb o a e=>u.there b o e a) u.tups u.frzs u.tbls (λm' k=>by
  obtain⟨o',h,f,d,j⟩:=k
  rw[i]at d;cases d
  exact⟨_,h,f,g,j⟩) hok hg
theorem Inv.turned{it:W9}(I:Inv X pins σ H s)(k:∀b o,b≠it->s.heap.get? b=some o->h'.get? b=some o)(hn:H it=none)(hL:it≠X.env.locals)
  (h1:it∈X.ex\/X.s₀.heap.objs.size<=it) (h2:∀x c,X.env.cells.lookup x=some c->c≠it) (h3:∀p∈X.pn++pins,p.1≠it):Inv X pins σ H {s with heap:=h',toks:=t'}:=by
 have d:∀b u,H b=some u->b≠it:=λb u e z=>by rw[z,hn]at e;cases e
 refine I.step (g':=s.gens) (d':=s.drawn) (ch:=[it]) (λb hb=>?_) (λb o _ _ a e _=>k b o (λz=>a (by simp[z])) e) (λb o _ _ a e _=>⟨o.slots,k b o (λz=>a (by simp[z])) e⟩) (λ_ _ _ _ n=>n)
  (λb o a e=>⟨o,k b o (λz=>a (by simp[z])) e⟩) (λ_ _ e=>e) (λ_ _ _ e=>e) (λb ps e=>⟨#[],by rw[e];simp⟩) (λm f=>?_) (λb u e=>?_) I.bare
 ·have e:b=it:=by simpa using hb
  subst e;exact⟨h1,hL,h2,h3⟩
 ·obtain⟨o,es,ep,g,r⟩:=f;exact⟨o,es,ep,k _ o (Ne.symm hL) g,r⟩
 ·refine(I.hok b u e).stay (λc v a q=>k c v ?_ q) (λ_ q=>q) λ_ _ q=>q;rcases a with z | z
  ·rw[z];exact d b u e
  ·exact d c _ z
theorem Inv.tok(I:Inv X pins σ H s)(t:Nat):Inv X pins σ H {s with toks:=t}:=I.un (h':=s.heap) (t':=t) Un.refl I.hok
theorem Inv.kept(I:Inv X pins σ H s)(k:∀b u,s.heap.get? b=some u->h'.get? b=some u):Inv X pins σ H {s with heap:=h',toks:=t'}:=I.un (Un.kept k) (I.hok.kept k)
theorem Inv.laid{o:HO}(I:Inv X pins σ H s)(k:∀b u,s.heap.get? b=some u->h'.get? b=some u)(hp:s.heap.objs.size<=a)(new:Bf X.prog X.w (upd H a o) h' a o):
  Inv X pins σ (upd H a o) {s with heap:=h',toks:=t'}:=I.un (Un.laid k hp (I.hok.fresh hp)) (I.hok.laid k hp new)
theorem Inv.write{x e:W9}{o:HO}(I:Inv X pins σ H s)(mu:Yw (H x))(he:e=x\/H e=some (.own x))(k:∀b u,b≠e->s.heap.get? b=some u->h'.get? b=some u)(heo:∃u,h'.get? e=some u)
  (new:Bf X.prog X.w (upd H x o) h' x o):Inv X pins σ (upd H x o) {s with heap:=h',toks:=t'}:=I.un (Un.write mu he k heo) (I.hok.write mu he k heo new)
theorem Inv.pins_of{pins':U1}(I:Inv X pins σ H s)(h:∀p∈pins',s.heap.get? p.1=some p.2/\H p.1=none/\p.1≠X.env.locals/\p.1∉X.fs/\∀v,p.2.data≠.cell v):Inv X pins' σ H s :=
 ⟨I.ok,I.os,I.bare,I.base,I.loc,I.cell,I.free,I.freeC,λp hp=>(Io.mp hp).elim (λz=>I.pin p (QZ _ z)) (h p),I.hok,I.len⟩
variable{i:Nat}{x:Str}
theorem qG{N:W0}(hN:N.Nodup){j:Nat}(a:N[i]?=some x)(b:N[j]?=some x):i=j:=by
 obtain⟨h1,e1⟩:=Et.mp a;obtain⟨h2,e2⟩:=Et.mp b;exact(List.getElem_inj hN).mp (e1.trans e2.symm)
variable{Q:Unit->Shared->Prop}
theorem nu{M:Model}{A:W6}{E:U2}{v:V}{u:W2}(I:Inv X pins σ H s)(hN:X.N.Nodup)(hi:X.N[i]?=some x)(t:Loc X.env.scope x)(r:RelV v u)
  (h:∀s',Inv X pins (σ.set i (some v)) H s'->(∃a,Heap.SameBut a s.heap s'.heap/\(a=X.env.locals\/X.env.cells.lookup x=some a))->Q () s') (hf:X.fn x=true\/X.env.scope.names.lookup x=some .local:=by first | exact .inl rfl | exact .inr rfl | assumption):wpAny M A (storeName X.env x u) Q E s:=by
 obtain⟨m,Z,hl⟩:=id I.loc;have F:(X.env.scope.kind == .class || (X.env.scope.kind == .module && X.env.locals != X.env.globals))=false:=by rw[I.ok.kind];rfl
 have G:i<σ.length:=by rw[I.len];exact(Et.mp hi).1
 have cne:=I.cne;have g:∀{a:W9}{h':Heap},(∃o,s.heap.get? a=some o/\H a=none)->Heap.SameBut a s.heap h'->Ey X.prog X.w H h':=λ{a h'} ha f b ob e=>by
  obtain⟨_,_,B⟩:=ha;refine(I.hok b ob e).stay (λc L l q=>(f.2 c ?_).trans q) (λ_ q=>q) λ_ _ q=>q;rintro rfl;rcases l with rfl | l
  ·rw[B]at e;cases e
  ·rw[B]at l;cases l
 rcases t with hk | hk
 ·refine wpAny_storeName_local hk Z (λh' S f=>?_) F;obtain⟨oL,_,_,U,_⟩:=id Z;refine h _ ⟨I.ok,I.os,I.bare,⟨λb o e n hb t=>?_,λb o e n hb t=>?_,I.base.free,λb o e t=>?_,I.base.tups,I.base.frzs,I.base.tbls⟩,⟨_,S,λj y W e1 e2 e3=>?_⟩,λy c e=>?_,I.free,I.freeC,λp hp=>?_,g ⟨oL,U,I.free⟩ f,by simpa using I.len⟩ ⟨_,f,.inl rfl⟩
  ·exact(f.2 b (Df (Ea (CQ e) I.ok.above))).trans (I.base.keep b o e n hb t)
  ·obtain⟨T,e1⟩:=I.base.slot b o e n hb t;exact⟨T,(f.2 b (Df (Ea (CQ e) I.ok.above))).trans e1⟩
  ·obtain⟨o',e1⟩:=I.base.there b o e t;exact⟨o',(f.2 b (Df (Ea (CQ e) I.ok.above))).trans e1⟩
  ·by_cases hj:j=i
   ·subst hj;rw[hi]at e1;cases e1;rw[jQ G]at e2;cases e2;exact⟨u,r,.inl ⟨hk,by simp⟩⟩
   ·rw[jL (Ne.symm hj)]at e2;obtain⟨P,R,q⟩:=hl j y W e1 e2 e3;refine⟨P,R,?_⟩;rcases q with ⟨k,e⟩ | ⟨k,c,e,z⟩
    ·refine .inl ⟨k,?_⟩;have:y≠x:=λe=>hj (qG hN e1 (e ▸ hi));simp[this,e]
    ·exact .inr ⟨k,c,e,z.sameBut f (cne y c e)⟩
  ·obtain⟨L,z⟩:=I.cell y c e;exact⟨L,z.sameBut f (cne y c e)⟩
  ·obtain⟨e,n,O,Y,d⟩:=I.pin p hp;exact⟨(f.2 p.1 O).trans e,n,O,Y,d⟩
 ·have C:X.fn x=true:=by
   rcases hf with z | z
   ·exact z
   ·rw[z]at hk;cases hk
  obtain⟨c,l⟩:=I.ok.has x (.inl hk);obtain⟨L,z⟩:=I.cell x c l;refine wpAny_storeName_cell I.ok.kind hk l z (λh' J f=>?_);obtain⟨oc,D,K⟩:=id z;refine h {s with heap:=h'} ⟨I.ok,I.os,I.bare,⟨λb o e n hb t=>?_,λb o e n hb t=>?_,I.base.free,λb o e t=>?_,I.base.tups,I.base.frzs,I.base.tbls⟩,⟨m,Z.sameBut f (Ne.symm (cne x c l)),λj y W e1 e2 e3=>?_⟩,λy c' e=>?_,I.free,I.freeC,λp hp=>?_,g ⟨oc,D,I.freeC x c l⟩ f,by simpa using I.len⟩ ⟨c,f,.inr l⟩
  ·exact(f.2 b (Df (Ea (CQ e) (I.ok.cab x c C l)))).trans (I.base.keep b o e n hb t)
  ·obtain⟨T,e1⟩:=I.base.slot b o e n hb t;exact⟨T,(f.2 b (Df (Ea (CQ e) (I.ok.cab x c C l)))).trans e1⟩
  ·obtain⟨o',e1⟩:=I.base.there b o e t;exact⟨o',(f.2 b (Df (Ea (CQ e) (I.ok.cab x c C l)))).trans e1⟩
  ·by_cases hj:j=i
   ·subst hj;rw[hi]at e1;cases e1;rw[jQ G]at e2;cases e2;exact⟨u,r,.inr ⟨.inl hk,c,l,J⟩⟩
   ·rw[jL (Ne.symm hj)]at e2;obtain⟨P,R,q⟩:=hl j y W e1 e2 e3;refine⟨P,R,?_⟩;rcases q with q | ⟨k,c',e,z'⟩
    ·exact .inl q
    ·refine .inr ⟨k,c',e,z'.sameBut f ?_⟩;rintro rfl;exact hj (qG hN e1 (I.ok.inj _ _ _ e l ▸ hi))
  ·by_cases hcc:c'=c
   ·subst hcc;exact⟨_,J⟩
   ·obtain⟨w2,z2⟩:=I.cell y c' e;exact⟨w2,z2.sameBut f hcc⟩
  ·obtain⟨e,n,O,Y,d⟩:=I.pin p hp;refine⟨(f.2 p.1 ?_).trans e,n,O,Y,d⟩;intro q;rw[q,D]at e;have q':oc=p.2:=Option.some.inj e;exact d L (by rw[<-q'];exact K)
theorem qP{M:Model}{A:W6}{E:U2}{v:V}{u:W2}(I:Inv X pins σ H s)(hN:X.N.Nodup)(hi:X.N[i]?=some x)(hx:Loc X.env.scope x)(r:RelV v u)
  (h:∀s',Inv X pins (σ.set i (some v)) H s'->Q () s') (hf:X.fn x=true\/X.env.scope.names.lookup x=some .local:=by first | exact .inl rfl | exact .inr rfl | assumption):wpAny M A (storeName X.env x u) Q E s :=
 nu I hN hi hx r (λs' a _=>h s' a) hf
theorem Inv.call'{s':U7}(I:Inv X pins σ H s)(ho:s'.os=s.os)(u:Un (frs X.stack) ch H H' s.heap s'.heap)(hok:Ey X.prog X.w H' s'.heap)(hg:AllBare s'.gens)
  (hch:∀b∈ch,(b∈X.ex\/X.s₀.heap.objs.size<=b)/\b≠X.env.locals/\(∀x c,X.env.cells.lookup x=some c->c≠b)/\∀p∈X.pn++pins,p.1≠b):Inv X pins σ H' s':=by
 obtain⟨h',g',d',t',o'⟩:=s';have e:o'=s.os:=ho;subst e;exact I.call (g':=g') (t':=t') (d':=d') u hok hg hch
end
abbrev XK:=Value->Option Addr->Hp->Prop
abbrev St:=List (Option V)
abbrev VK:=V->Hp->Prop
abbrev TE:=St->Hp->VK->Prop
abbrev TT:=St->Hp->(Bool->Hp->Prop)->Prop
abbrev TA:=St->Hp->(List V->Hp->Prop)->Prop
structure Ends where
 nx:St->Hp->Prop
 rt:VK
 bk:St->Hp->Prop:=λ_ _=>False
 ct:St->Hp->Prop:=λ_ _=>False
abbrev TS:=Ends->St->Hp->Prop
def EP (X:Cx)(pins:U1)(σ:St)(Q:VK)(u:W2)(s':U7):Prop:=∃v H',Inv X pins σ H' s'/\RelV v u/\Q v H'
def TP (X:Cx)(pins:U1)(σ:St)(Q:Bool->Hp->Prop)(b:Bool)(s':U7):Prop:=∃H',Inv X pins σ H' s'/\Q b H'
def AP (X:Cx)(pins:U1)(σ:St)(Q:List V->Hp->Prop)(us:U5)(s':U7):Prop:=∃vs H',Inv X pins σ H' s'/\Vals vs us/\Q vs H'
def SP (X:Cx)(pins:U1)(D:Ends)(f:Flow)(s':U7):Prop :=
 match f with
 | .next=>∃σ' H',Inv X pins σ' H' s'/\D.nx σ' H'
 | .brk=>∃σ' H',Inv X pins σ' H' s'/\D.bk σ' H'
 | .cont=>∃σ' H',Inv X pins σ' H' s'/\D.ct σ' H'
 | .ret u=>∃v σ' H',Inv X pins σ' H' s'/\RelV v u/\D.rt v H'
def PE (X:Cx)(e:Expr)(t:TE):Prop :=
 ∀(pins:U1) (s:U7) (σ:St) (H:Hp) (Q:VK),Inv X pins σ H s->t σ H Q->wpAny (model X.prog X.w) X.A (eval e X.env) (EP X pins σ Q) X.xe s
def PT (X:Cx)(e:Expr)(t:TT):Prop :=
 ∀(pins:U1) (s:U7) (σ:St) (H:Hp) (Q:Bool->Hp->Prop),Inv X pins σ H s->t σ H Q->wpAny (model X.prog X.w) X.A (isTrue e X.env (eval e X.env)) (TP X pins σ Q) X.xe s
def PW (X:Cx)(e:Expr)(t:TT):Prop :=
 ∀(whole:Sem Value) (pins:U1) (s:U7) (σ:St) (H:Hp) (Q:Bool->Hp->Prop),Inv X pins σ H s->t σ H Q->wpAny (model X.prog X.w) X.A (isTrue e X.env whole) (TP X pins σ Q) X.xe s
variable{X:Cx}{e:Expr}
theorem PW.pt{t:TT}(h:PW X e t):PT X e t:=h _
def PA (X:Cx)(es:List Expr)(t:TA):Prop :=
 ∀(pos:Pos) (pins:U1) (s:U7) (σ:St) (H:Hp) (Q:List V->Hp->Prop),Inv X pins σ H s->t σ H Q->wpAny (model X.prog X.w) X.A (spliced (backTo pos (starEach es X.env))) (AP X pins σ Q) X.xe s
def PS (X:Cx)(st:Stmt)(t:TS):Prop :=
 ∀(pins:U1) (s:U7) (σ:St) (H:Hp) (D:Ends),Inv X pins σ H s->t D σ H->wpAny (model X.prog X.w) X.A (exec st X.env) (SP X pins D) X.xe s
def Ho (X:Cx)(st:W8)(t:TS):Prop :=
 ∀(pins:U1) (s:U7) (σ:St) (H:Hp) (D:Ends),Inv X pins σ H s->t D σ H->wpAny (model X.prog X.w) X.A (execs st X.env) (SP X pins D) X.xe s
variable{A:W6}{s:U7}
theorem Bu{α:Type}{t:Sem α}{Q Q':α->Shared->Prop}{M:Model}{E:U2}(h:wpAny M A t Q E s)(hQ:∀a s,Q a s->Q' a s):wpAny M A t Q' E s:=Fi h hQ λ_ _ x=>x
section
variable {X:Cx}
def Hs (i:Nat):TE:=λσ H Q=>∃v,σ[i]?=some (some v)/\Q v H
def tC (v:V):TE:=λ_ H Q=>Q v H
variable{x:Str}
theorem W3z{i:Nat}{pos:Pos}(hN:X.N[i]?=some x)(hv:Yt X.env.scope x)(hd:(x == ("__debug__":Str))=false:=by decide)(hcd:(x == ("__classdict__":Str))=false:=by decide):PE X (.Name x pos) (Hs i):=by
 intro pins s σ H Q I h;obtain⟨v,e,h⟩:=h;obtain⟨m,b,d⟩:=I.loc;obtain⟨u,r,l⟩:=d i x v hN e hv;have a:EP X pins σ Q u s:=⟨v,H,I,r,h⟩;rcases l with ⟨hk,hm⟩ | ⟨hk,c,hc,hcell⟩
 ·exact wpAny_Name (wpAny_loadName_local I.ok.kind hk b hm a) hd
 ·rcases hk with hk | hk
  ·exact wpAny_Name (wpAny_loadName_cell I.ok.kind hk hc hcell a) hd
  ·exact wpAny_Name (wpAny_loadName_free I.ok.kind hk hc hcell a hcd) hd
theorem Ac{i j pos}:PE X (.Constant (.int i) j pos) (tC (.int i)):=λ_ _ _ H _ I h=>wpAny_Constant_int ⟨.int i,H,I.tok _,⟨_,U⟩,h⟩
theorem Iu{b j pos}:PE X (.Constant (.bool b) j pos) (tC (.bl b)):=λ_ _ _ H _ I h=>Constant_bool ⟨.bl b,H,I,U,h⟩
theorem Lj{j pos}:PE X (.Constant .none j pos) (tC .non):=λ_ _ _ H _ I h=>Constant_none ⟨.non,H,I,U,h⟩
theorem Fq{x j pos}:PE X (.Constant (.str x) j pos) (tC (.str x)):=λ_ _ _ H _ I h=>Calls.Constant_str ⟨.str x,H,I.tok _,⟨_,U⟩,h⟩
def Gl (X:Cx)(x:Str):Prop:=X.env.kindOf x=some .globalImplicit
variable{u:W2}{Q:U2}
theorem Ul{E:U2}{pins:U1}{σ:St}{pos:Pos}(I:Inv X pins σ H s)(hg:Gl X x)(hm:X.mg x=some u)(h:Q u s)
  (hd:(x == ("__debug__":Str))=false:=by decide):wpAny (model X.prog X.w) X.A (eval (.Name x pos) X.env) Q E s :=
 Calls.Name_function_global I.ok.kind hg (Calls.loadGlobal_global (by rw[I.ok.glob];exact I.mod.glob.keeps I.bk) hm h) hd
theorem Rv{E:U2}{pins:U1}{σ:St}{pos:Pos}(I:Inv X pins σ H s)(hg:Gl X x)(hm:X.mg x=none)(hv:bootBuiltins x=some u)(h:Q u s)
  (hn:x≠"__name__":=by decide) (hd:(x == ("__debug__":Str))=false:=by decide):wpAny (model X.prog X.w) X.A (eval (.Name x pos) X.env) Q E s:=by
 obtain⟨a,h1,h2⟩:=I.mod.blt;exact Calls.Name_function_global I.ok.kind hg (Calls.loadGlobal_builtin (by rw[I.ok.glob];exact I.mod.glob.keeps I.bk) hm (by rw[I.ok.blt];exact h1.keeps I.bk) ((h2 x hn).trans hv) h) hd
theorem Hj{v:V}{pos:Pos}(hg:Gl X x)(hm:X.mg x=some u)(r:RelV v u)(hd:(x == ("__debug__":Str))=false:=by decide):PE X (.Name x pos) (tC v):=
 λ_ _ _ H _ I h=>Ul I hg hm ⟨v,H,I,r,h⟩ hd
theorem Lp{v:V}{pos:Pos}(hg:Gl X x)(hm:X.mg x=none)(hv:bootBuiltins x=some u)(r:RelV v u)(hn:x≠"__name__":=by decide)(hd:(x == ("__debug__":Str))=false:=by decide):PE X (.Name x pos) (tC v):=
 λ_ _ _ H _ I h=>Rv I hg hm hv ⟨v,H,I,r,h⟩ hn hd
variable {a b:Expr}{ta tb:TE}{pos:Pos}
def PC (X:Cx)(op:CmpOp)(a b:Expr)(t:TE):Prop :=
 ∀(pins:U1) (s:U7) (σ:St) (H:Hp) (Q:VK),Inv X pins σ H s->t σ H Q ->
  wpAny (model X.prog X.w) X.A (eval a X.env) (λv s₁=>wpAny (model X.prog X.w) X.A (eval b X.env) (λu s₂=>wpAny (model X.prog X.w) X.A (compareOp op v u) (EP X pins σ Q) X.xe s₂) X.xe s₁) X.xe s
def tB (t:TE):TT:=λσ H Q=>t σ H λx H1=>∃c,x=.bl c/\Q c H1
variable{t:TE}
theorem zj{op:CmpOp}(h:PC X op a b t)(h1:behindInMarks op b=false:=by first | exact nobehind _ (by decide) (by decide) | rfl):PT X (.Compare a [op] [b] pos) (tB t):=by
 intro pins s σ H Q I e;refine sW (Bu (h pins s σ H _ I e) λv j h1=>Bu h1 λu l h2=>Bu h2 λc k ⟨x,H1,f,i,g⟩=>?_) h1;obtain⟨d,rfl,q⟩:=g;cases i;exact Oi ⟨H1,f,q⟩
theorem Du(h:PE X e t)(he:∀whole,isTrue e X.env whole=(do let v ← whole;standAt e.pos;holding [v] (truthy v)):=by intro _;rfl):PT X e (tB t):=by
 intro pins s σ H Q I a;refine isTrue_plain (Bu (h pins s σ H _ I a) λv g ⟨x,H1,f,c,b⟩=>?_) (he _);obtain⟨d,rfl,q⟩:=b;cases c;exact Oi ⟨H1,f,q⟩
variable {tA tB':TT}{rest:List Expr}
def fj (t u:TT):TT:=λσ H Q=>t σ H λc H1=>if c=true then u σ H1 Q else Q false H1
def tOr (t u:TT):TT:=λσ H Q=>t σ H λc H1=>if c=true then Q true H1 else u σ H1 Q
def fQ (t:TT):TT:=λσ H Q=>t σ H λc H1=>Q (!c) H1
theorem R3(ha:PT X a tA):PW X (.BoolOp .And [a] pos) tA:=by
 intro d pins s σ H Q I h;refine isTrue_and (Bu (ha pins s σ H Q I h) λc b e=>?_);cases c with
 | true=>exact isTrue_and_nil e
 | false=>exact e
theorem Kh(ha:PT X a tA):PW X (.BoolOp .Or [a] pos) tA:=by
 intro d pins s σ H Q I h;refine isTrue_or (Bu (ha pins s σ H Q I h) λc b e=>?_);cases c with
 | false=>exact isTrue_or_nil e
 | true=>exact e
theorem O1(ha:PT X a tA)(hb:PW X (.BoolOp .And (b::rest) pos) tB'):PW X (.BoolOp .And (a::b::rest) pos) (fj tA tB'):=by
 intro g pins s σ H Q I h;refine isTrue_and (Bu (ha pins s σ H _ I h) λc f ⟨H1,e,d⟩=>?_);cases c with
 | true=>exact hb g pins f σ H1 Q e d
 | false=>exact⟨H1,e,d⟩
theorem IW(ha:PT X a tA)(hb:PW X (.BoolOp .Or (b::rest) pos) tB'):PW X (.BoolOp .Or (a::b::rest) pos) (tOr tA tB'):=by
 intro g pins s σ H Q I h;refine isTrue_or (Bu (ha pins s σ H _ I h) λc f ⟨H1,e,d⟩=>?_);cases c with
 | true=>exact⟨H1,e,d⟩
 | false=>exact hb g pins f σ H1 Q e d
theorem FQ(ha:PT X a tA):PT X (.UnaryOp .Not a pos) (fQ tA):=by
 intro pins s σ H Q I h;exact isTrue_not (ha pins s σ H (λc H1=>Q (!c) H1) I h)
def Vx (ta tb:TE):TE:=λσ H Q=>ta σ H λx H1=>∃c,x=.bl c/\if c=true then tb σ H1 Q else Q (.bl false) H1
def fP (ta tb:TE):TE:=λσ H Q=>ta σ H λx H1=>∃c,x=.bl c/\if c=true then Q (.bl true) H1 else tb σ H1 Q
def Vr (ta:TE):TE:=λσ H Q=>ta σ H λx H1=>∃c,x=.bl c/\Q (.bl (!c)) H1
theorem M6{op}(h:PE X a t):PE X (.BoolOp op [a] pos) t:=λpins s σ H Q I b=>BoolOp_one (h pins s σ H Q I b)
theorem Qp(ha:PE X a ta)(hb:PE X (.BoolOp .And (b::rest) pos) tb):PE X (.BoolOp .And (a::b::rest) pos) (Vx ta tb):=by
 intro pins s σ H Q I h;refine BoolOp_and (Bu (ha pins s σ H _ I h) λv f ⟨x,H1,e,g,d⟩=>?_);obtain⟨c,rfl,d⟩:=d;cases g;refine Oi ?_;cases c with
 | true=>exact hb pins f σ H1 Q e d
 | false=>exact⟨.bl false,H1,e,rfl,d⟩
theorem Ye(ha:PE X a ta)(hb:PE X (.BoolOp .Or (b::rest) pos) tb):PE X (.BoolOp .Or (a::b::rest) pos) (fP ta tb):=by
 intro pins s σ H Q I h;refine BoolOp_or (Bu (ha pins s σ H _ I h) λv f ⟨x,H1,e,g,d⟩=>?_);obtain⟨c,rfl,d⟩:=d;cases g;refine Oi ?_;cases c with
 | false=>exact hb pins f σ H1 Q e d
 | true=>exact⟨.bl true,H1,e,rfl,d⟩
theorem bC(ha:PE X a ta):PE X (.UnaryOp .Not a pos) (Vr ta):=by
 intro pins s σ H Q I h;refine UnaryOp_ (Bu (ha pins s σ H _ I h) λv f ⟨x,H1,e,d,b⟩=>?_);obtain⟨c,rfl,b⟩:=b;cases d;exact not_of (Oi ⟨.bl (!c),H1,e,U,b⟩)
def tIf (t:TT)(ta tb:TE):TE:=λσ H Q=>t σ H λc H1=>if c=true then ta σ H1 Q else tb σ H1 Q
theorem Kl{c:Expr}(hc:PT X c tA)(ha:PE X a ta)(hb:PE X b tb):PE X (.IfExp c a b pos) (tIf tA ta tb):=by
 intro pins s σ H Q I h;refine wpAny_IfExp (Bu (hc pins s σ H _ I h) λd e ⟨H1,g,f⟩=>?_);cases d with
 | true=>exact ha pins e σ H1 Q g f
 | false=>exact hb pins e σ H1 Q g f
end
def Aw (K:U0)(H:Hp)(a:W9)(xs:List V):Prop :=
 Rd H a (.lst xs) \/
  ∃(o:Obj) (its:U9) (n:Nat),K.lookup a=some o/\o.cls=.type "list"/\o.dict=none/\o.data=.seq its n/\its.size<=sizeLine/\Vals xs its.toList
def Ag (K:U0)(H:Hp)(a:W9)(xs:List V):Prop :=
 Rd H a (.tup xs) \/
  ∃(o:Obj) (its:U9) (n:Nat),K.lookup a=some o/\o.cls=.type "tuple"/\o.data=.seq its n/\its.size<=sizeLine/\Vals xs its.toList
noncomputable def m8:Value->Option V
 | .none=>some .non
 | .bool b=>some (.bl b)
 | .int i _=>some (.int i)
 | .str x _=>some (.str x)
 | .bytes b _=>some (.byt b)
 | .float b _=>some (.flt b)
 | .ref a=>some (.ref a)
 | .type n=>some (.ty n)
 | _=>none
variable{x:V}{u:W2}
theorem RelV.abs(r:RelV x u):m8 u=some x:=by
 cases x with
 | non=>cases r;rfl
 | bl _=>cases r;rfl
 | int _=>obtain⟨t,rfl⟩:=r;rfl
 | str _=>obtain⟨t,rfl⟩:=r;rfl
 | byt _=>obtain⟨t,rfl⟩:=r;rfl
 | flt _=>obtain⟨t,rfl⟩:=r;rfl
 | ref _=>cases r;rfl
 | ty _=>cases r;rfl
theorem RelV.inj{y:V}(r:RelV x u)(q:RelV y u):x=y:=Option.some.inj (r.abs.symm.trans q.abs)
theorem Vals.inj{xs ys:List V}(h:Vals xs us)(h':Vals ys us):xs=ys:=by
 induction h generalizing ys with
 | nil=>cases h';rfl
 | cons r t ih=>cases h' with
  | cons r' t'=>rw[r.inj r',ih t']
section
variable {X:Cx}{pins:U1}{σ:St}{H:Hp}{s:U7}{a:W9}{xs ys:List V}
theorem Aw.of{K:U0}(h:H a=some (.lst xs)):Aw K H a xs:=.inl (.inl h)
theorem Ag.of{K:U0}(h:H a=some (.tup xs)):Ag K H a xs:=.inl (.inl h)
theorem Inv.list(I:Inv X pins σ H s)(h:Aw X.K H a xs):∃its:List Value,Vals xs its/\PlainL s.heap a its.toArray/\xs.length<=sizeLine:=by
 rcases h with h | ⟨o,its,n,hk,hc,hd,hs,hz,r⟩
 ·obtain⟨z,its,n,r,e⟩:=h.ok I.hok;exact⟨its,r,⟨_,n,e,U,U,U⟩,z⟩
 ·refine⟨its.toList,r,⟨o,n,I.kIn a o hk,hc,hd,by simpa using hs⟩,?_⟩;have e:=r.length;simp only[Ol]at e;lia
theorem Inv.tuple(I:Inv X pins σ H s)(h:Ag X.K H a xs):∃its:List Value,Vals xs its/\IsTup s.heap a its.toArray/\xs.length<=sizeLine:=by
 rcases h with h | ⟨o,its,n,hk,hc,hs,hz,r⟩
 ·obtain⟨z,its,r,p⟩:=h.ok I.hok;exact⟨its,r,p,z⟩
 ·refine⟨its.toList,r,⟨o,I.kIn a o hk,hc,n,by simpa using hs⟩,?_⟩;have e:=r.length;simp only[Ol]at e;lia
theorem Inv.list_inj(I:Inv X pins σ H s)(h:Aw X.K H a xs)(h':Aw X.K H a ys):xs=ys:=by
 obtain⟨its,r,⟨o,n,e,_,_,d⟩,_⟩:=I.list h;obtain⟨its',c,⟨o',f,b,_,_,d'⟩,_⟩:=I.list h';rw[e]at b;cases b;rw[d]at d';injection d' with d1 _;have:its=its':=by simpa using congrArg Array.toList d1
 subst this;exact r.inj c
theorem Inv.tuple_inj(I:Inv X pins σ H s)(h:Ag X.K H a xs)(h':Ag X.K H a ys):xs=ys:=by
 obtain⟨its,r,⟨o,e,_,n,d⟩,_⟩:=I.tuple h;obtain⟨its',c,⟨o',b,_,f,d'⟩,_⟩:=I.tuple h';rw[e]at b;cases b;rw[d]at d';injection d' with d1 _;have:its=its':=by simpa using congrArg Array.toList d1
 subst this;exact r.inj c
end
noncomputable abbrev Cx.wish (X:Cx)(E:U2):Cx:={X with xe:=E}
noncomputable abbrev Cx.nox (X:Cx):Cx:=X.wish λ_ _=>False
theorem Cx.Ok.wish(ok:X.Ok)(E:U2):(X.wish E).Ok :=
 ⟨ok.mod,ok.kind,ok.glob,ok.blt,ok.above,ok.inj,ok.has,ok.cab,ok.hd,ok.frames,ok.stk,ok.exf,ok.bs,ok.bsz,ok.noex,ok.exfs,ok.funs,ok.frf⟩
theorem Cx.Ok.unwish{E:U2}(ok:(X.wish E).Ok):X.Ok :=
 ⟨ok.mod,ok.kind,ok.glob,ok.blt,ok.above,ok.inj,ok.has,ok.cab,ok.hd,ok.frames,ok.stk,ok.exf,ok.bs,ok.bsz,ok.noex,ok.exfs,ok.funs,ok.frf⟩
section
variable {X:Cx}{pins:U1}{σ:St}{H:Hp}{s:U7}{E:U2}
theorem Inv.wish(I:Inv X pins σ H s)(E:U2):Inv (X.wish E) pins σ H s:=⟨I.ok.wish E,I.os,I.bare,I.base,I.loc,I.cell,I.free,I.freeC,I.pin,I.hok,I.len⟩
theorem Inv.unwish(I:Inv (X.wish E) pins σ H s):Inv X pins σ H s:=⟨I.ok.unwish,I.os,I.bare,I.base,I.loc,I.cell,I.free,I.freeC,I.pin,I.hok,I.len⟩
theorem SP.unwish{D:Ends}{f:Flow}{s':U7}(h:SP (X.wish E) pins D f s'):SP X pins D f s':=by
 cases f with
 | next=>obtain⟨a,H',I,q⟩:=h;exact⟨a,H',I.unwish,q⟩
 | brk=>obtain⟨a,H',I,q⟩:=h;exact⟨a,H',I.unwish,q⟩
 | cont=>obtain⟨a,H',I,q⟩:=h;exact⟨a,H',I.unwish,q⟩
 | ret u=>obtain⟨v,a,H',I,r,q⟩:=h;exact⟨v,a,H',I.unwish,r,q⟩
theorem Ho.nox{st:W8}{t:TS}(h:Ho X.nox st t):Ho X st t:=λpins s σ H D I a =>
 Fi (h pins s σ H D (I.wish _) a) (λ_ _ q=>q.unwish) λ_ _ z=>False.elim z
end
section
variable {X:Cx}{st:Stmt}{rest:W8}{t u:TS}{e:Expr}{te:TE}{pos:Pos}
def Vs:TS:=λD σ H=>D.nx σ H
def Vo (t u:TS):TS:=λD σ H=>t {D with nx:=u D} σ H
theorem CK:Ho X [] Vs:=λ_ _ σ H _ I h=>WY ⟨σ,H,I,h⟩
theorem Aq(h1:PS X st t)(h2:Ho X rest u):Ho X (st::rest) (Vo t u):=by
 intro pins s σ H D I h;refine iY (Bu (h1 pins s σ H {D with nx:=u D} I h) λf b q=>?_);cases f with
 | next =>
  obtain⟨c,H',a,q⟩:=q;exact h2 pins b c H' D a q
 | ret v=>exact q
 | brk=>exact q
 | cont=>exact q
theorem Ak(h1:PS X st t):Ho X [st] t:=by
 intro pins s σ H D I h;refine iY (Bu (h1 pins s σ H D I h) λf a q=>?_);cases f with
 | next=>exact WY q
 | ret v=>exact q
 | brk=>exact q
 | cont=>exact q
theorem Inv.quiet{pins:U1}{σ:St}(I:Inv X pins σ H s):interactive X.env=false:=by simp[interactive,I.ok.kind]
def Vv (te:TE):TS:=λD σ H=>te σ H λ_ H1=>D.nx σ H1
theorem Ny(he:PE X e te)(hs:swapsWith e none pos.line X.env=pure false:=by rfl):PS X (.Expr e pos) (Vv te):=by
 intro pins s σ H D I h;exact wpAny_Expr_any (Bu (he pins s σ H _ I h) λv c ⟨x,H1,b,d,a⟩=>⟨σ,H1,b,a⟩) I.quiet hs
def Vp (te:TE):TS:=λD σ H=>te σ H D.rt
theorem BJ(he:PE X e te):PS X (.Return (some e) pos) (Vp te):=by
 intro pins s σ H D I h;exact wpAny_Return_some (Bu (he pins s σ H _ I h) λv d ⟨x,H1,c,b,a⟩=>⟨x,σ,H1,c,b,a⟩)
def fV (c:TT)(t u:TS):TS:=λD σ H=>c σ H λb H1=>if b=true then t D σ H1 else u D σ H1
theorem Bx{c:Expr}{a b:W8}{tc:TT}(hc:PT X c tc)(ha:Ho X a t)(hb:Ho X b u):PS X (.If c a b pos) (fV tc t u):=by
 intro pins s σ H D I h;refine wpAny_If (Bu (hc pins s σ H _ I h) λd e ⟨H1,g,f⟩=>?_);cases d with
 | true=>exact ha pins e σ H1 D g f
 | false=>exact hb pins e σ H1 D g f
def MF:TS:=λ_ _ _=>False
theorem Jj:PS X st MF:=λ_ _ _ _ _ _ h=>h.elim
theorem yQ{sts:W8}:Ho X sts MF:=λ_ _ _ _ _ _ h=>h.elim
end
abbrev TG:=V->St->Hp->(St->Hp->Prop)->Prop
abbrev Ph:=List V->St->Hp->(St->Hp->Prop)->Prop
def PG (X:Cx)(target:Expr)(t:TG):Prop :=
 ∀(pins:U1) (s:U7) (σ:St) (H:Hp) (v:V) (u:W2) (Q:St->Hp->Prop),Inv X pins σ H s->RelV v u->t v σ H Q ->
  wpAny (model X.prog X.w) X.A (assign target X.env u) (λ_ s'=>∃σ' H',Inv X pins σ' H' s'/\Q σ' H') X.xe s
def Yv (X:Cx)(ts:List Expr)(t:Ph):Prop :=
 ∀(pins:U1) (s:U7) (σ:St) (H:Hp) (vs:List V) (us:U5) (Q:St->Hp->Prop),Inv X pins σ H s->Vals vs us->t vs σ H Q ->
  wpAny (model X.prog X.w) X.A (assignInOrder ((assignEach ts X.env).map (·.2)) us) (λ_ s'=>∃σ' H',Inv X pins σ' H' s'/\Q σ' H') X.xe s
section
variable {X:Cx}{pos:Pos}
def CZ (i:Nat):TG:=λv σ H Q=>Q (σ.set i (some v)) H
theorem DR{i:Nat}{x:Str}(hN:X.N.Nodup)(hi:X.N[i]?=some x)(hx:Loc X.env.scope x)(hf:X.fn x=true\/X.env.scope.names.lookup x=some .local:=by first | exact .inl rfl | exact .inr rfl | assumption):PG X (.Name x pos) (CZ i):=by
 intro pins s σ H v u Q I r h;exact i_ (qP I hN hi hx r (λs' a=>⟨_,H,a,h⟩) hf)
def Xk:Ph:=λvs σ H Q=>vs=[]/\Q σ H
def Mx (t:TG)(u:Ph):Ph:=λvs σ H Q=>∃v r,vs=v::r/\t v σ H λσ' H'=>u r σ' H' Q
theorem bR:Yv X [] Xk:=by
 intro pins s σ H vs us Q I r h;obtain⟨e,h⟩:=h;subst e;cases r;exact assignInOrder_nil ⟨σ,H,I,h⟩
theorem Qy{e:Expr}{es:List Expr}{t:TG}{u:Ph}(h1:PG X e t)(h2:Yv X es u)
  (hs:(assignEach (e::es) X.env).map (·.2)=assign e X.env::(assignEach es X.env).map (·.2):=by rfl):Yv X (e::es) (Mx t u):=by
 intro pins s σ H vs us Q I r h;obtain⟨v,f,e1,h⟩:=h;subst e1;cases r with
 | cons r rr =>
  rw[hs];refine assignInOrder_cons (Bu (h1 pins s σ H _ _ _ I r h) λ_ b ⟨a,H1,c,d⟩=>?_);exact h2 pins b a H1 _ _ Q c rr d
def Xj (K:U0)(n:Nat)(t:Ph):TG:=λv σ H Q=>∃a xs,v=.ref a/\Ag K H a xs/\xs.length=n/\t xs σ H Q
theorem oO{es:List Expr}{k:Nat}{t:Ph}{n:Nat}(hc:X.calm=true)(h:Yv X es t)
  (hn:(assignEach es X.env).length=n:=by rfl) (hst:(assignEach es X.env).findIdx? (·.1)=none:=by rfl):PG X (.Tuple es k pos) (Xj X.K n t):=by
 intro pins s σ H v u Q I r c;obtain⟨a,xs,e1,l,f,c⟩:=c;subst e1;cases r;obtain⟨its,d,j,m⟩:=I.tuple l;refine assign_Tuple_tuple (I.ok.hd hc) j (by simp[hn,<-f,d.length]) hst λh' i=>?_;have g:Inv X pins σ H {s with heap:=h'}:=I.kept (t':=s.toks) λb o e=>i b o (Df (CQ e)) e;exact h pins _ σ H xs _ Q g (by simpa using d) c
def Oa (te:TE)(g:TG):TS:=λD σ H=>te σ H λx H1=>g x σ H1 D.nx
theorem W3v{tg:Expr}{te:TE}{g:TG}(he:PE X e te)(hg:PG X tg g)(hs:swapsWithSole [tg] e pos.line X.env=pure false:=by rfl)(hw:swappedStores [tg] e X.env=pure none:=by rfl)
  (h1:(assignEach [tg] X.env).map (·.2)=[assign tg X.env]:=by rfl):PS X (.Assign [tg] e pos) (Oa te g):=by
 intro pins s σ H D I h;refine wpAny_Assign_stores (Bu (he pins s σ H _ I h) λv a ⟨x,H1,d,c,b⟩=>?_) hs hw;rw[h1];exact Bu (hg pins a σ H1 x v _ d c b) λ_ f q=>q
theorem Bb{i:Nat}{x:Str}{e:Expr}{te:TE}{pos':Pos}(hN:X.N.Nodup)(hi:X.N[i]?=some x)(hx:Loc X.env.scope x)(he:PE X e te)(hs:swapsWith e (some (.Name x pos')) pos.line X.env=pure false:=by rfl)(hf:X.fn x=true\/X.env.scope.names.lookup x=some .local:=by first | exact .inl rfl | exact .inr rfl | assumption):
  PS X (.Assign [.Name x pos'] e pos) (Oa te (CZ i)):=by
 intro pins s σ H D I h;refine wpAny_Assign_Name (Bu (he pins s σ H _ I h) λv f ⟨y,H1,d,b,a⟩=>?_) hs;exact qP d hN hi hx b (λg c=>⟨_,H1,c,a⟩) hf
end
section
variable {X:Cx}{pos:Pos}
def L_ (c:TT)(tb:TS):TS:=λD σ H=>∃W:Nat->St->Hp->Prop,(∃m,W m σ H)/\∀m σ H,W m σ H ->
 c σ H λb H1=>if b=true then ∃N:St->Hp->Prop,(∀σ' H',N σ' H'->∃m',m'<m/\W m' σ' H')/\tb {D with nx:=N,ct:=N,bk:=D.nx} σ H1 else D.nx σ H1
theorem Z2{c:Expr}{body:W8}{tc:TT}{tb:TS}(hp:PassesOwn (model X.prog X.w) X.A X.env X.xe)(hc:PT X c tc)(hb:Ho X body tb):PS X (.While c body [] pos) (L_ tc tb):=by
 intro pins s σ H D I h;obtain⟨W,⟨u,w0⟩,d⟩:=h;refine wpAny_While (codeAny_whileLoop (λn s'=>∃σ' H',Inv X pins σ' H' s'/\W n σ' H') ?_ u ⟨σ,H,I,w0⟩);rintro n r ⟨i,H1,t,x⟩;refine Rb hp (Bu (hc pins r i H1 _ t (d n i H1 x)) λb y ⟨H2,p,g⟩=>?_);cases b with
 | true =>
  obtain⟨N,q,g⟩:=g;rw[if_pos rfl];refine Rb hp (Bu (hb pins y i H2 _ p g) λf z j=>?_);cases f with
  | next =>
   obtain⟨a,e,o,l⟩:=j;obtain⟨m',k,m⟩:=q a e l;exact⟨m',k,a,e,o,m⟩
  | cont =>
   obtain⟨a,e,o,l⟩:=j;obtain⟨m',k,m⟩:=q a e l;exact⟨m',k,a,e,o,m⟩
  | brk=>exact j
  | ret v=>exact j
 | false =>
  rw[if_neg Gk];exact WY ⟨i,H2,p,g⟩
end
structure It where
 go:Nat->Hp->Prop
 yld:Nat->Hp->V->Hp->Prop
 stop:Nat->Hp->Prop
def Dq (X:Cx)(pins:U1)(H:Hp)(b:W9):Prop :=
 H b=none/\b≠X.env.locals/\b∉X.fs/\(b∈X.ex\/X.s₀.heap.objs.size<=b)/\(∀x c,X.env.cells.lookup x=some c->c≠b)/\∀p∈X.pn++pins,p.1≠b
variable{pins:U1}{σ:St}
theorem Inv.fpOk{H':Hp}(I:Inv X pins σ H s)(hb:s.heap.objs.size<=b)(hn:H' b=none):Dq X pins H' b:=by
 refine⟨hn,LR (Ea I.lt hb),I.nofs hb,.inr (G7 I.sz hb),λx c e z=>?_,λp hp z=>?_⟩
 ·obtain⟨v,q⟩:=I.cell x c e;exact absurd (Ea q.lt (by rw[z];exact hb)) (QM _)
 ·exact absurd (Ea (CQ (I.pin p hp).1) (by rw[z];exact hb)) (QM _)
structure Turn (P:U8) (w:W1) (K:U0) (tg:Expr) (J:It) (fp:U3) (it:W9) (tn:Nat->Heap->Prop):Prop where
 mem:it∈fp
 obj:∀i h,tn i h->∀b∈fp,∃o,h.get? b=some o/\∀v,o.data≠.cell v
 keep:∀i h h',tn i h->(∀b∈fp,∀o,h.get? b=some o->h'.get? b=some o)->tn i h'
 item:∀(X:Cx),X.prog=P->X.w=w->X.K=K->X.calm=true->∀(i:Nat) (pins:U1) (s:U7) (σ:St) (H:Hp) (E:U2),Inv X pins σ H s->(∀b∈fp,Dq X pins H b)->tn i s.heap->J.go i H ->
  wpAny (model P w) X.A (pyNext (.ref it)) (λr s1=>∃u,r=some u /\
   wpAny (model P w) X.A (letOwnedTupleGo tg (.ref it) u) (λ_ s2=>∃x H',Inv X pins σ H' s2/\RelV x u/\J.yld i H x H'/\tn (i+1) s2.heap/\∀b∈fp,H' b=none) E s1) E s
 done:∀(X:Cx),X.prog=P->X.w=w->X.K=K->X.calm=true->∀(i:Nat) (pins:U1) (s:U7) (σ:St) (H:Hp) (E:U2),Inv X pins σ H s->(∀b∈fp,Dq X pins H b)->tn i s.heap->J.stop i H ->
  wpAny (model P w) X.A (pyNext (.ref it)) (λr s1=>r=none/\Inv X pins σ H s1) E s
 self:∀(A:W6) (i:Nat) (s:U7) (Q:U2) (E:U2),tn i s.heap->Q (.ref it) s->wpAny (model P w) A (pyIter (.ref it)) Q E s
abbrev TI:=St->Hp->(It->Hp->Prop)->Prop
def PIE (X:Cx)(pins:U1)(σ:St)(tg:Expr)(R:It->Hp->Prop)(itv:W2)(s2:U7):Prop :=
 ∃(it:W9) (fp:U3) (tn:Nat->Heap->Prop) (J:It) (H':Hp),itv=.ref it/\Inv X pins σ H' s2/\Turn X.prog X.w X.K tg J fp it tn/\tn 0 s2.heap/\(∀b∈fp,Dq X pins H' b)/\R J H'
def PI (X:Cx)(tg iter:Expr)(wi:TI):Prop :=
 ∀(pins:U1) (s:U7) (σ:St) (H:Hp) (R:It->Hp->Prop),Inv X pins σ H s->wi σ H R ->
  wpAny (model X.prog X.w) X.A (eval iter X.env) (λv s1=>wpAny (model X.prog X.w) X.A (pyIter v) (PIE X pins σ tg R) X.xe s1) X.xe s
variable{tg:Expr}
theorem qy{M:Model}{E:U2}{it:W9}{n:String}{vs:U9}{Q:Unit->Shared->Prop}(ho:s.heap.get? it=some o)(hc:o.cls=.type n)(hd:o.data=.fields vs)
  (hn:["enumerate","zip","dict_itemiterator","dict_reverseitemiterator","odict_iterator","itertools.zip_longest","itertools.pairwise"].contains n=false) (hQ:Q () s):wpAny M A (letOwnedTupleGo tg (.ref it) u) Q E s:=by
 unfold letOwnedTupleGo;cases tg<;>first
  | exact CV hQ
  | (cases u<;>first
    | exact CV hQ
    | (refine BX (wpAny_load ho ?_);rw[hc,hd];show wpAny M A (if (["enumerate","zip","dict_itemiterator","dict_reverseitemiterator","odict_iterator","itertools.zip_longest","itertools.pairwise"].contains n && vs[0]? == some (rawInt _))=true then _ else _) Q E s;rw[if_neg (by intro h;rw[hn,Bool.false_and]at h;cases h)];exact CV hQ))
def Lx (K:U0)(a:W9):It :=
 ⟨λi H=>∃xs x,Aw K H a xs/\xs[i]?=some x,λi H x H'=>H'=H/\∀xs,Aw K H a xs->xs[i]?=some x,λi H=>∃xs,Aw K H a xs/\xs.length<=i⟩
def VN (K:U0)(a:W9):It :=
 ⟨λi H=>∃xs x,Ag K H a xs/\xs[i]?=some x,λi H x H'=>H'=H/\∀xs,Ag K H a xs->xs[i]?=some x,λi H=>∃xs,Ag K H a xs/\xs.length<=i⟩
def HF (lo:Int)(n:Nat):It:=⟨λi _=>i<n,λi H x H'=>H'=H/\x=.int (lo+i),λi _=>n<=i⟩
variable{K:U0}
theorem Y8q(a it:W9):Turn P w K tg (Lx K a) [it] it (λi h=>h.IsListIter it a i) where
 mem:=by simp
 obj:=λi h st b hb=>by
  have e:b=it:=by simpa using hb
  subst e;obtain⟨o,e,c,d⟩:=st;exact⟨o,e,λv z=>by rw[d]at z;cases z⟩
 keep:=λi h h' st k=>st.at λo e=>k it (by simp) o e
 item:=by
  intro X y j l D i pins s σ H E I hf st t;subst y j l;obtain⟨xs,x,g,n⟩:=t;obtain⟨its,r,p,N⟩:=I.list g;obtain⟨u,Q,L⟩:=r.get n;obtain⟨A,B,J,C,q,m⟩:=hf it (by simp);refine tK st p.isList (x:=u) (by simpa using Q) λh' f F=>?_;have M:Inv X pins σ H {s with heap:=h'}:=I.turned (t':=s.toks) (λb o hb e=>(F.2 b hb).trans e) A B C q m;obtain⟨o,e,c,d⟩:=id f;exact⟨u,U,qy (s:={s with heap:=h'}) e c d (by decide) ⟨x,H,M,L,⟨U,λys O=>by rw[I.list_inj O g];exact n⟩,f,λb hb=>(hf b hb).1⟩⟩
 done:=by
  intro X y j l D i pins s σ H E I hf st t;subst y j l;obtain⟨xs,g,n⟩:=t;obtain⟨its,r,p,N⟩:=I.list g;obtain⟨A,B,J,C,q,m⟩:=hf it (by simp);have R:=r.length;exact sX (I.ok.hd D) st p.isList (by simp;lia) λh' G=>⟨U,I.turned (t':=s.toks) (λb o hb e=>G b o hb e) A B C q m⟩
 self:=λ_ _ _ _ _ st h=>wpAny_pyIter_listiter st h
theorem Y7j(a it:W9):Turn P w K tg (VN K a) [it] it (λi h=>h.IsTupleIter it a i) where
 mem:=by simp
 obj:=λi h st b hb=>by
  have e:b=it:=by simpa using hb
  subst e;obtain⟨o,e,c,d⟩:=st;exact⟨o,e,λv z=>by rw[d]at z;cases z⟩
 keep:=λi h h' st k=>st.at λo e=>k it (by simp) o e
 item:=by
  intro X y j l D i pins s σ H E I hf st t;subst y j l;obtain⟨xs,x,g,n⟩:=t;obtain⟨its,r,p,N⟩:=I.tuple g;obtain⟨u,Q,L⟩:=r.get n;obtain⟨A,B,J,C,q,m⟩:=hf it (by simp);refine wpAny_pyNext_tuple_item st (show s.heap.IsTuple a its.toArray from p) (x:=u) (by simpa using Q) λh' f F=>?_;have M:Inv X pins σ H {s with heap:=h'}:=I.turned (t':=s.toks) (λb o hb e=>(F.2 b hb).trans e) A B C q m;obtain⟨o,e,c,d⟩:=id f;exact⟨u,U,qy (s:={s with heap:=h'}) e c d (by decide) ⟨x,H,M,L,⟨U,λys O=>by rw[I.tuple_inj O g];exact n⟩,f,λb hb=>(hf b hb).1⟩⟩
 done:=by
  intro X y j l D i pins s σ H E I hf st t;subst y j l;obtain⟨xs,g,n⟩:=t;obtain⟨its,r,p,N⟩:=I.tuple g;obtain⟨A,B,J,C,q,m⟩:=hf it (by simp);have R:=r.length;exact wpAny_pyNext_tuple_end (I.ok.hd D) st (show s.heap.IsTuple a its.toArray from p) (by simp;lia) λh' G=>⟨U,I.turned (t':=s.toks) (λb o hb e=>G b o hb e) A B C q m⟩
 self:=λ_ _ _ _ _ st h=>wpAny_pyIter_tupleiter st h
theorem Y7k(it:W9)(lo:Int)(n:Nat):Turn P w K tg (HF lo n) [it] it (λi h=>IsRangeIter h it (lo+(i:Nat)*1) ((n:Int)-(i:Nat)) 1) where
 mem:=by simp
 obj:=λi h st b hb=>by
  have e:b=it:=by simpa using hb
  subst e
  exact⟨_,st,λv z=>by
   have A:Data.fields _=Data.cell v:=z
   cases A⟩
 keep:=λi h h' st k=>k it (by simp) _ st
 item:=by
  intro X m c d f i pins s σ H E I hf st l;subst m c d;obtain⟨p,q,x,r,j,g⟩:=hf it (by simp);have W:=Walks.range (prog:=X.prog) (w:=X.w) (I.ok.hd f) it lo 1 n;refine W.item i s _ _ l st λv h' tk B a kk=>?_;obtain⟨t,rfl⟩:=B;have y:Inv X pins σ H {s with heap:=h',toks:=tk}:=I.turned (λb o hb e=>kk b o (by simpa using hb) e) p q r j g;refine⟨_,U,qy (s:={s with heap:=h',toks:=tk}) (n:="range_iterator") a rfl rfl (by decide) ⟨.int (lo+i),H,y,⟨t,?_⟩,⟨U,U⟩,a,λb hb=>(hf b hb).1⟩⟩;rw[Int.mul_one]
 done:=by
  intro X m c d f i pins s σ H E I hf st l;subst m c d;obtain⟨p,q,x,r,j,g⟩:=hf it (by simp);exact wpAny_pyNext_range_end (I.ok.hd f) st (by have:n<=i:=l;lia) λh' u=>⟨U,I.turned (t':=s.toks) (λb o hb e=>u b o hb e) p q r j g⟩
 self:=λ_ _ _ _ _ st h=>wpAny_pyIter_rangeiter st h
section
variable {X:Cx}{tg:Expr}
def Xf (K:U0)(tl:TE):TI:=λσ H R=>tl σ H λx H1=>∃a,x=.ref a/\(∃xs,Aw K H1 a xs)/\R (Lx K a) H1
def mQ (K:U0)(tl:TE):TI:=λσ H R=>tl σ H λx H1=>∃a,x=.ref a/\(∃xs,Ag K H1 a xs)/\R (VN K a) H1
theorem G_{l:Expr}{tl:TE}(hl:PE X l tl):PI X tg l (Xf X.K tl):=by
 intro pins s σ H R I h;refine Bu (hl pins s σ H _ I h) λv c ⟨x,H1,d,i,f⟩=>?_;obtain⟨a,e,⟨xs,g⟩,q⟩:=f;subst e;cases i;obtain⟨its,k,p,j⟩:=d.list g;refine Wf p.isList ?_;refine⟨c.heap.objs.size,[c.heap.objs.size],_,_,H1,U,d.kept (t':=c.toks) λb o e=>Ec _ e,Y8q a _,⟨_,GC _ rfl,U,U⟩,λb hb=>?_,q⟩;have e:b=c.heap.objs.size:=by simpa using hb
 subst e;exact d.fpOk (CG _) (d.hok.fresh (CG _))
theorem bD{l:Expr}{tl:TE}(hl:PE X l tl):PI X tg l (mQ X.K tl):=by
 intro pins s σ H R I h;refine Bu (hl pins s σ H _ I h) λv c ⟨x,H1,d,i,f⟩=>?_;obtain⟨a,e,⟨xs,g⟩,q⟩:=f;subst e;cases i;obtain⟨its,k,p,j⟩:=d.tuple g;refine jG (show c.heap.IsTuple a its.toArray from p) ?_;refine⟨c.heap.objs.size,[c.heap.objs.size],_,_,H1,U,d.kept (t':=c.toks) λb o e=>Ec _ e,Y7j a _,⟨_,GC _ rfl,U,U⟩,λb hb=>?_,q⟩;have e:b=c.heap.objs.size:=by simpa using hb
 subst e;exact d.fpOk (CG _) (d.hok.fresh (CG _))
theorem X4g{R:It->Hp->Prop}{E:U2}{lo hi:Int}{t u v:Tok}{tk:Nat}(I:Inv X pins σ H s)(h1:-(2^62)<=lo)(h2:lo<2^62)(h3:-(2^62)<=hi)(h4:hi<2^62)
  (q:R (HF lo (hi-lo).toNat) H):wpAny (model X.prog X.w) X.A (pyIter (.ref s.heap.objs.size)) (PIE X pins σ tg R) E {s with heap:=s.heap.push { cls:=.type "range",data:=.fields #[.int lo t,.int hi u,.int 1 v]},toks:=tk}:=by
 refine wpAny_pyIter_range (IsRange.new ..) (small_one h1 h2 h3 h4) ?_;have a:Inv X pins σ H {s with heap:=s.heap.push { cls:=.type "range",data:=.fields #[.int lo t,.int hi u,.int 1 v]},toks:=tk}:=I.kept λb o e=>Ec _ e
 refine⟨(s.heap.push { cls:=.type "range",data:=.fields #[.int lo t,.int hi u,.int 1 v]}).objs.size,[(s.heap.push { cls:=.type "range",data:=.fields #[.int lo t,.int hi u,.int 1 v]}).objs.size],_,_,H,U,
  a.kept (t':=tk) λb o e=>Ec _ e,Y7k _ lo (hi-lo).toNat,?_,λb hb=>?_,q⟩
 ·have e1:lo+((0:Nat):Int)*1=lo:=by simp
  have e2:(((hi-lo).toNat:Nat):Int)-((0:Nat):Int)=Builtin.Range.rangeSize lo hi 1:=by rw[rangeSize_one];split<;>lia
  show IsRangeIter _ _ (lo+((0:Nat):Int)*1) ((((hi-lo).toNat:Nat):Int)-((0:Nat):Int)) 1;rw[e1,e2];exact GC _ rfl
 ·have e:b=(s.heap.push { cls:=.type "range",data:=.fields #[.int lo t,.int hi u,.int 1 v]}).objs.size:=by simpa using hb
  subst e;exact a.fpOk (CG _) (a.hok.fresh (CG _))
def Xe (ta:TA):TI:=λσ H R=>ta σ H λvs H1=>∃j:Int,vs=[.int j]/\-(2^62)<=j/\j<2^62/\R (HF 0 j.toNat) H1
theorem Lw{a:Expr}{ta:TA}{p pos:Pos}(hg:Gl X "range")(hm:X.mg "range"=none)(ha:PA X [a] ta)(hs:starEach [a] X.env=[(false,eval a X.env)]:=by rfl):PI X tg (.Call (.Name "range" p) [a] [] pos) (Xe ta):=by
 intro pins s σ H R I h;refine Call_ (Rv I hg hm boot_range (PyProof.Rows.callWith_type1 (Bu (ha pos pins s σ H _ I h) λus g ⟨vs,H1,d,f,b⟩=>?_) hs rfl));obtain⟨j,e,b,c,q⟩:=b;subst e;cases f with
 | cons r rr =>
  cases rr;obtain⟨t,rfl⟩:=r;exact call_range_1 (X4g d (by lia) (by lia) b c (by simpa using q))
def fW (wi:TI)(g:TG)(tb:TS):TS:=λD σ H=>wi σ H λJ H1=>∃W:Nat->Nat->St->Hp->Prop,(∃m,W 0 m σ H1)/\∀i m σ H,W i m σ H ->
 (J.stop i H/\D.nx σ H)\/(J.go i H/\∃N:St->Hp->Prop,(∀σ' H',N σ' H'->∃m',m'<m/\W (i+1) m' σ' H')/\∀x H',J.yld i H x H'->g x σ H' λσ2 H2=>tb {D with nx:=N,ct:=N,bk:=D.nx} σ2 H2)
noncomputable def Gp (fp:U3)(h:Heap):List (Addr×Obj):=fp.filterMap λb=>(h.get? b).map λo=>(b,o)
variable{fp:U3}
theorem Uv(hb:b∈fp)(e:h.get? b=some o):(b,o)∈Gp fp h:=List.mem_filterMap.mpr ⟨b,hb,by rw[e];rfl⟩
theorem X0u{p:Addr×Obj}(hp:p∈Gp fp h):p.1∈fp/\h.get? p.1=some p.2:=by
 obtain⟨b,hb,e⟩:=List.mem_filterMap.mp hp;cases q:h.get? b with
 | none=>rw[q]at e;cases e
 | some o =>
  rw[q]at e;have a:(b,o)=p:=Option.some.inj e;subst a;exact⟨hb,q⟩
theorem Inv.pinned(I:Inv X pins σ H s)(hf:∀b∈fp,Dq X pins H b)(ho:∀b∈fp,∃o,s.heap.get? b=some o/\∀v,o.data≠.cell v):Inv X (pins++Gp fp s.heap) σ H s :=
 I.pins_of λp hp=>(Io.mp hp).elim (λz=>I.pin p (Gn _ z)) λz=>by
  obtain⟨hb,e⟩:=X0u z;obtain⟨g,f,c,_⟩:=hf p.1 hb;obtain⟨o,a,d⟩:=ho p.1 hb;rw[e]at a;cases a;exact⟨e,g,f,c,d⟩
theorem Inv.unpinned{pl:U1}(I:Inv X (pins++pl) σ H s):Inv X pins σ H s:=I.pins_of λp hp=>I.pin p (Gn _ (QZ _ hp))
theorem J7{iter:Expr}{body:W8}{wi:TI}{g:TG}{tb:TS}{pos:Pos}(hp:PassesOwn (model X.prog X.w) X.A X.env X.xe)(hc:X.calm=true)(hi:PI X tg iter wi)(hg:PG X tg g)(hb:Ho X body tb)
  (hs:∀x,foldedSetIterable iter X.env x=pure x:=by intro _;rfl):PS X (.For tg iter body [] pos) (fW wi g tb):=by
 intro pins s σ H D I h;refine wpAny_For (Bu (hi pins s σ H _ I h) λv s1 h1=>Bu h1 λU s2 h2=>?_) hs;obtain⟨it,fp,tn,J,H2,e,Z,T,G,O,W,⟨Y,w0⟩,y⟩:=h2;subst e;have l:∀{H':Hp},(∀b∈fp,H' b=none)->∀b∈fp,Dq X pins H' b:=λhn b hb=>⟨hn b hb,(O b hb).2⟩;refine codeAny_forLoop_any (λn s'=>∃i σ' H',Inv X pins σ' H' s'/\tn i s'.heap/\(∀b∈fp,H' b=none)/\W i n σ' H') ?_ Y ⟨0,σ,H2,Z,G,λb hb=>(O b hb).1,w0⟩;rintro n Q ⟨i,B,E,P,t,z,w3⟩;rcases y i n B E w3 with ⟨stop,qn⟩ | ⟨go,N,hN,step⟩
 ·refine Rb hp (Bu (T.done X rfl rfl rfl hc i pins Q B E X.xe P (l z) t stop) λr s4 ⟨K,I4⟩=>?_);subst K;exact WY ⟨B,E,I4,qn⟩
 ·refine Rb hp (Bu (T.item X rfl rfl rfl hc i pins Q B E X.xe P (l z) t go) λr s4 ⟨u,K,h4⟩=>?_);subst K;refine Rb hp (Bu h4 λ_ R ⟨x,S,V,r5,y5,q,M⟩=>?_);have F:=V.pinned (l M) (T.obj _ _ q);refine Rb hp (Bu (hg _ R B S x u _ F r5 (step x S y5)) λ_ s6 ⟨σ6,H6,I6,q6⟩=>?_);refine Rb hp (Bu (hb _ s6 σ6 H6 _ I6 q6) λf L p=>?_);have k:∀{j:St}{a:Hp},Inv X (pins++Gp fp R.heap) j a L->N j a->∃m,m<n/\∃i σ' H',Inv X pins σ' H' L/\tn i L.heap/\(∀b∈fp,H' b=none)/\W i m σ' H':=λ{j a} c C=>by
   obtain⟨m',hm,w7⟩:=hN j a C;refine⟨m',hm,i+1,j,a,c.unpinned,T.keep _ _ _ q λb hb o e=>(c.pin (b,o) (Gn _ (Gn _ (Uv hb e)))).1,λb hb=>?_,w7⟩;obtain⟨o,e,d⟩:=T.obj _ _ q b hb;exact(c.pin (b,o) (Gn _ (Gn _ (Uv hb e)))).2.1
  cases f with
  | next=>obtain⟨j,a,c,C⟩:=p;exact k c C
  | cont=>obtain⟨j,a,c,C⟩:=p;exact k c C
  | brk=>obtain⟨j,a,c,p⟩:=p;exact⟨j,a,c.unpinned,p⟩
  | ret v=>obtain⟨x7,j,a,c,r7,p⟩:=p;exact⟨x7,j,a,c.unpinned,r7,p⟩
end
variable{g:TG}{D:Ends}
theorem O8{xs:List V}{tb:TS}(Pv:Nat->St->Hp->Prop)(h0:Pv 0 σ H)(hl:∀i σ H,i<=xs.length->Pv i σ H->Aw K H a xs)
  (hs:∀i x σ H,xs[i]?=some x->Pv i σ H->g x σ H λb H2=>tb {D with nx:=Pv (i+1),ct:=Pv (i+1),bk:=D.nx} b H2) (hd:∀σ H,Pv xs.length σ H->D.nx σ H):
  ∃W:Nat->Nat->St->Hp->Prop,(∃m,W 0 m σ H)/\∀i m σ H,W i m σ H ->
   ((Lx K a).stop i H/\D.nx σ H)\/((Lx K a).go i H/\∃N:St->Hp->Prop,(∀c H',N c H'->∃m',m'<m/\W (i+1) m' c H')/\∀x H',(Lx K a).yld i H x H'->g x σ H' λb H2=>tb {D with nx:=N,ct:=N,bk:=D.nx} b H2):=by
 refine⟨λi m σ H=>m=xs.length-i/\i<=xs.length/\Pv i σ H,⟨xs.length,by simp,Gz _,h0⟩,?_⟩;rintro i m σ H ⟨rfl,hi,p⟩;have q:=hl i σ H hi p;by_cases hlt:i<xs.length
 ·refine .inr ⟨⟨xs,xs[i],q,by simp[hlt]⟩,Pv (i+1),λc H' d=>⟨xs.length-(i+1),by lia,U,hlt,d⟩,λx H' y=>?_⟩;obtain⟨e,y⟩:=y;subst e;exact hs i x σ _ (y xs q) p
 ·have e:i=xs.length:=by lia
  subst e;exact .inl ⟨⟨xs,q,CG _⟩,hd σ H p⟩
theorem W2b{xs:List V}{tb:TS}(Pv:Nat->St->Hp->Prop)(h0:Pv 0 σ H)(hl:∀i σ H,i<=xs.length->Pv i σ H->Ag K H a xs)
  (hs:∀i x σ H,xs[i]?=some x->Pv i σ H->g x σ H λb H2=>tb {D with nx:=Pv (i+1),ct:=Pv (i+1),bk:=D.nx} b H2) (hd:∀σ H,Pv xs.length σ H->D.nx σ H):
  ∃W:Nat->Nat->St->Hp->Prop,(∃m,W 0 m σ H)/\∀i m σ H,W i m σ H ->
   ((VN K a).stop i H/\D.nx σ H)\/((VN K a).go i H/\∃N:St->Hp->Prop,(∀c H',N c H'->∃m',m'<m/\W (i+1) m' c H')/\∀x H',(VN K a).yld i H x H'->g x σ H' λb H2=>tb {D with nx:=N,ct:=N,bk:=D.nx} b H2):=by
 refine⟨λi m σ H=>m=xs.length-i/\i<=xs.length/\Pv i σ H,⟨xs.length,by simp,Gz _,h0⟩,?_⟩;rintro i m σ H ⟨rfl,hi,p⟩;have q:=hl i σ H hi p;by_cases hlt:i<xs.length
 ·refine .inr ⟨⟨xs,xs[i],q,by simp[hlt]⟩,Pv (i+1),λc H' d=>⟨xs.length-(i+1),by lia,U,hlt,d⟩,λx H' y=>?_⟩;obtain⟨e,y⟩:=y;subst e;exact hs i x σ _ (y xs q) p
 ·have e:i=xs.length:=by lia
  subst e;exact .inl ⟨⟨xs,q,CG _⟩,hd σ H p⟩
theorem nG{lo:Int}{n:Nat}{tb:TS}(Pv:Nat->St->Hp->Prop)(h0:Pv 0 σ H)
  (hs:∀i σ H,i<n->Pv i σ H->g (.int (lo+i)) σ H λa H2=>tb {D with nx:=Pv (i+1),ct:=Pv (i+1),bk:=D.nx} a H2) (hd:∀σ H,Pv n σ H->D.nx σ H):
  ∃W:Nat->Nat->St->Hp->Prop,(∃m,W 0 m σ H)/\∀i m σ H,W i m σ H ->
   ((HF lo n).stop i H/\D.nx σ H)\/((HF lo n).go i H/\∃N:St->Hp->Prop,(∀b H',N b H'->∃m',m'<m/\W (i+1) m' b H')/\∀x H',(HF lo n).yld i H x H'->g x σ H' λa H2=>tb {D with nx:=N,ct:=N,bk:=D.nx} a H2):=by
 refine⟨λi m σ H=>m=n-i/\i<=n/\Pv i σ H,⟨n,by simp,Gz _,h0⟩,?_⟩;rintro i m σ H ⟨rfl,hi,p⟩;by_cases hlt:i<n
 ·refine .inr ⟨hlt,Pv (i+1),λb H' c=>⟨n-(i+1),by lia,U,hlt,c⟩,λx H' y=>?_⟩;obtain⟨e,y⟩:=y;subst e y;exact hs i σ _ hlt p
 ·have e:i=n:=by lia
  subst e;exact .inl ⟨CG _,hd σ H p⟩
theorem X3m{c:TT}{tb:TS}(Pv:St->Hp->Prop)(μ:St->Hp->Nat)(h0:Pv σ H)
  (hs:∀σ H,Pv σ H->c σ H λb H1=>if b=true then tb {D with nx:=λa H'=>Pv a H'/\μ a H'<μ σ H,ct:=λa H'=>Pv a H'/\μ a H'<μ σ H,bk:=D.nx} σ H1 else D.nx σ H1)
  (mono:∀σ H Q Q',(∀b H1,Q b H1->Q' b H1)->c σ H Q->c σ H Q'):L_ c tb D σ H:=by
 refine⟨λm σ H=>m=μ σ H/\Pv σ H,⟨_,U,h0⟩,?_⟩;rintro m σ H ⟨rfl,p⟩;refine mono σ H _ _ (λb H1 q=>?_) (hs σ H p);cases b with
 | true=>exact⟨_,λa H' ⟨d,l⟩=>⟨_,l,rfl,d⟩,q⟩
 | false=>exact q
abbrev R2:=V->V->Hp->VK->Prop
def Eh (X:Cx)(f:Value->Value->Sem Value)(r:R2):Prop :=
 ∀(pins:U1) (s:U7) (σ:St) (H:Hp) (x y:V) (v u:W2) (Q:VK),Inv X pins σ H s->RelV x v->RelV y u->r x y H Q ->
  wpAny (model X.prog X.w) X.A (f v u) (EP X pins σ Q) X.xe s
def d_ (X:Cx)(f:Value->Sem Value)(r:V->Hp->VK->Prop):Prop :=
 ∀(pins:U1) (s:U7) (σ:St) (H:Hp) (x:V) (v:W2) (Q:VK),Inv X pins σ H s->RelV x v->r x H Q ->
  wpAny (model X.prog X.w) X.A (f v) (EP X pins σ Q) X.xe s
def Cr (X:Cx)(f:W2)(r:List V->Hp->VK->Prop):Prop :=
 ∀(pins:U1) (s:U7) (σ:St) (H:Hp) (xs:List V) (us:U5) (Q:VK),Inv X pins σ H s->Vals xs us->r xs H Q ->
  wpAny (model X.prog X.w) X.A (call f us) (EP X pins σ Q) X.xe s
def q_ (X:Cx)(r:V->Hp->(Bool->Hp->Prop)->Prop):Prop :=
 ∀(pins:U1) (s:U7) (σ:St) (H:Hp) (x:V) (v:W2) (Q:Bool->Hp->Prop),Inv X pins σ H s->RelV x v->r x H Q ->
  wpAny (model X.prog X.w) X.A (truthy v) (TP X pins σ Q) X.xe s
def Py (r:R2)(ta tb:TE):TE:=λσ H Q=>ta σ H λx H1=>tb σ H1 λy H2=>r x y H2 Q
def tUn (r:V->Hp->VK->Prop)(ta:TE):TE:=λσ H Q=>ta σ H λx H1=>r x H1 Q
def rI (C:Int->Int->Prop)(g:Int->Int->V):R2:=λx y H Q=>∃i j,x=.int i/\y=.int j/\C i j/\Q (g i j) H
def Ml (g:Int->Int->V):R2:=λx y H Q=>∃i j,x=.int i/\y=.int j/\Q (g i j) H
def rU (g:Int->V):V->Hp->VK->Prop:=λx H Q=>∃i,x=.int i/\Q (g i) H
section
variable {X:Cx}{a b c:Expr}{ta tb tc:TE}{pos:Pos}
variable{f:Value->Value->Sem Value}
theorem Rt(ha:PE X a ta)(hb:PE X b tb){R:V->V->Hp->Prop}(I:Inv X pins σ H s)
  (h:ta σ H λx H1=>tb σ H1 λy H2=>R x y H2) {Q:U2}
  (hf:∀v u c x y H2,Inv X pins σ H2 c->RelV x v->RelV y u->R x y H2->wpAny (model X.prog X.w) X.A (f v u) Q X.xe c):
  wpAny (model X.prog X.w) X.A (eval a X.env) (λv n=>wpAny (model X.prog X.w) X.A (eval b X.env) (λu d=>wpAny (model X.prog X.w) X.A (f v u) Q X.xe d) X.xe n) X.xe s:=by
 refine Bu (ha pins s σ H _ I h) λv e ⟨x,H1,m,i,g⟩=>?_;refine Bu (hb pins e σ H1 _ m g) λu c ⟨y,H2,j,l,k⟩=>?_;exact hf v u c x y H2 j i l k
theorem Af{op:Operator}{r:R2}(ho:Eh X (binaryOp op) r)(ha:PE X a ta)(hb:PE X b tb):PE X (.BinOp a op b pos) (Py r ta tb):=by
 intro pins s σ H Q I h;exact wpAny_BinOp (Rt ha hb I h λv u c x y H2 d f e q=>ho pins c σ H2 x y v u Q d f e q)
theorem Mz{op:UnaryOp}{r:V->Hp->VK->Prop}(ho:d_ X (unaryOp op) r)(ha:PE X a ta):PE X (.UnaryOp op a pos) (tUn r ta):=by
 intro pins s σ H Q I h;exact UnaryOp_ (Bu (ha pins s σ H _ I h) λv b ⟨x,H1,e,d,c⟩=>ho pins b σ H1 x v Q e d c)
variable{g:Int->Int->Int}
theorem Rm{C:Int->Int->Prop}
  (rule:∀(i j:Int) (t u:Tok) (s:U7) (Q:U2) (E:U2),C i j->Q (.int (g i j) s.toks) {s with toks:=s.toks+1}->wpAny (model X.prog X.w) X.A (f (.int i t) (.int j u)) Q E s):
  Eh X f (rI C λi j=>.int (g i j)):=by
 intro pins s σ H x y v u Q I c b h;obtain⟨i,j,rfl,rfl,a,q⟩:=h;obtain⟨t,rfl⟩:=c;obtain⟨t',rfl⟩:=b;exact rule i j t t' s _ _ a ⟨.int (g i j),H,I.tok _,⟨_,U⟩,q⟩
theorem Ms
  (rule:∀(i j:Int) (t u:Tok) (s:U7) (Q:U2) (E:U2),Q (.int (g i j) s.toks) {s with toks:=s.toks+1}->wpAny (model X.prog X.w) X.A (f (.int i t) (.int j u)) Q E s):
  Eh X f (Ml λi j=>.int (g i j)):=by
 intro pins s σ H x y v u Q I b a h;obtain⟨i,j,rfl,rfl,q⟩:=h;obtain⟨t,rfl⟩:=b;obtain⟨t',rfl⟩:=a;exact rule i j t t' s _ _ ⟨.int (g i j),H,I.tok _,⟨_,U⟩,q⟩
theorem Oq{g:Int->Int->Bool}
  (rule:∀(i j:Int) (t u:Tok) (s:U7) (Q:U2) (E:U2),Q (.bool (g i j)) s->wpAny (model X.prog X.w) X.A (f (.int i t) (.int j u)) Q E s):
  Eh X f (Ml λi j=>.bl (g i j)):=by
 intro pins s σ H x y v u Q I b a h;obtain⟨i,j,rfl,rfl,q⟩:=h;obtain⟨t,rfl⟩:=b;obtain⟨t',rfl⟩:=a;exact rule i j t t' s _ _ ⟨.bl (g i j),H,I,U,q⟩
def rR (i j:Int):Prop:=0<j/\j<1073741824
def TJ (i j:Int):Prop:=(-(2^64)<i/\i<2^64)\/(-(2^64)<j/\j<2^64)
theorem TJ.ok{i j:Int}(h:TJ i j):IntMulOk i j:=by
 rcases h with ⟨h1,h2⟩ | ⟨h1,h2⟩
 ·exact .of_left (intBits_le_64 h1 h2)
 ·exact .of_right (intBits_le_64 h1 h2)
theorem Y7i(k:Nat):(0:Int)<=2^k:=by
 rw[two_pow_cast];exact Int.natCast_nonneg _
theorem El:Eh X (binaryOp .Add) (Ml λi j=>.int (i+j)):=Ms λ_ _ _ _ _ _ _ q=>add_int q
theorem Ji:Eh X (binaryOp .Sub) (Ml λi j=>.int (i-j)):=Ms λ_ _ _ _ _ _ _ q=>sub_int q
theorem Nu:Eh X (binaryOp .Mult) (rI TJ λi j=>.int (i*j)):=Rm λ_ _ _ _ _ _ _ a q=>mul_int q a.ok
theorem J8:Eh X (binaryOp .FloorDiv) (rI rR λi j=>.int (i / j)):=Rm λi j _ _ _ _ _ a q=>by
 have h1:(0:Int)<j:=a.1;have h2:j<1073741824:=a.2;exact floordiv_int (by lia) (by rw[Wo i (by lia)];exact q) (.inl (PyProof.noPylong_small (by lia)))
theorem Dt:Eh X (binaryOp .Mod) (rI (λ_ j=>0<j) λi j=>.int (i%j)):=Rm λi j _ _ _ _ _ a q=>by
 have h1:(0:Int)<j:=a;exact mod_int' (by lia) (by rw[Int.fmod_eq_emod_of_nonneg i (by lia)];exact q)
theorem M5:Eh X (binaryOp .RShift) (rI (λ_ j=>0<=j) λi j=>.int (i / 2^j.toNat)):=Rm λi j _ _ _ _ _ a q =>
 rshift_int a (by rw[Wo i (Y7i _)];exact q)
theorem Dz:Eh X (binaryOp .BitAnd) (Ml λi j=>.int (Builtin.bitAnd i j)):=Ms λ_ _ _ _ _ _ _ q=>and_int q
theorem Pa:Eh X (binaryOp .BitOr) (Ml λi j=>.int (Builtin.bitOr i j)):=Ms λ_ _ _ _ _ _ _ q=>or_int q
theorem JN:Eh X (binaryOp .BitXor) (Ml λi j=>.int (Builtin.bitXor i j)):=Ms λ_ _ _ _ _ _ _ q=>xor_int q
theorem sH{f:Value->Sem Value}{g:Int->Int}
  (rule:∀(i:Int) (t:Tok) (s:U7) (Q:U2) (E:U2),Q (.int (g i) s.toks) {s with toks:=s.toks+1}->wpAny (model X.prog X.w) X.A (f (.int i t)) Q E s):
  d_ X f (rU λi=>.int (g i)):=by
 intro pins s σ H x v Q I a h;obtain⟨i,rfl,q⟩:=h;obtain⟨t,rfl⟩:=a;exact rule i t s _ _ ⟨.int (g i),H,I.tok _,⟨_,U⟩,q⟩
theorem O6:d_ X (unaryOp .USub) (rU λi=>.int (-i)):=sH λ_ _ _ _ _ q=>neg_int q
theorem _L:d_ X (unaryOp .Invert) (rU λi=>.int (Builtin.bitNot i)):=sH λ_ _ _ _ _ q=>invert_int q
end
noncomputable def V2:V->V->Bool
 | .non,.non=>true | .non,.int _=>true | .int _,.non=>true | .non,.bl _=>true | .bl _,.non=>true | .non,.str _=>true | .str _,.non=>true
 | .int _,.int _=>true | .bl _,.bl _=>true | .str _,.str _=>true | .byt _,.byt _=>true
 | .int _,.str _=>true | .str _,.int _=>true | .bl _,.str _=>true | .str _,.bl _=>true
 | _,_=>false
def rEq:R2:=λx y H Q=>V2 x y=true/\Q (.bl (decide (x=y))) H
def rNe:R2:=λx y H Q=>V2 x y=true/\Q (.bl (!decide (x=y))) H
theorem X2n{i j:Int}:decide (V.int i=V.int j)=(i == j):=by
 rw[Tj];simp
theorem yt{i j:Bool}:decide (V.bl i=V.bl j)=(i == j):=by
 rw[Tj];simp
theorem X2m{i j:Str}:decide (V.str i=V.str j)=(i == j):=by
 rw[Tj];simp
theorem X2o{i j:Array UInt8}:decide (V.byt i=V.byt j)=(i.toList == j.toList):=by
 rw[Tj];cases i;cases j;simp
section
variable {X:Cx}{a b c:Expr}{ta tb tc:TE}{pos:Pos}
theorem Eu{Q:VK}{k k':Bool}(I:Inv X pins σ H s)(q:Q (.bl k) H)(e:k=k'):EP X pins σ Q (.bool k') s:=by
 subst e;exact⟨.bl k,H,I,U,q⟩
theorem Dr:Eh X (compareOp .Eq) rEq:=by
 intro pins s σ H x y v u Q I c a h;obtain⟨b,q⟩:=h;cases x with
 | non =>
  cases c;cases y with
  | non=>cases a;exact PySem.EqNone.eq_none_none (Eu I q (by simp))
  | bl j=>cases a;exact PySem.EqNone.eq_none_bool (Eu I q (by simp))
  | int j=>obtain⟨t',rfl⟩:=a;exact PySem.EqNone.eq_none_int (Eu I q (by simp))
  | str j=>obtain⟨t',rfl⟩:=a;exact PySem.EqNone.eq_none_str (Eu I q (by simp))
  | _=>exact absurd (show false=true from b) Gk
 | bl i =>
  cases c;cases y with
  | non=>cases a;exact PySem.EqNone.eq_bool_none (Eu I q (by simp))
  | bl j=>cases a;exact eq_bool (Eu I q yt)
  | str j=>obtain⟨t',rfl⟩:=a;exact PySem.EqMixed.eq_bool_str (Eu I q (by simp))
  | _=>exact absurd (show false=true from b) Gk
 | int i =>
  obtain⟨t,rfl⟩:=c;cases y with
  | non=>cases a;exact PySem.EqNone.eq_int_none (Eu I q (by simp))
  | int j=>obtain⟨t',rfl⟩:=a;exact eq_int (Eu I q X2n)
  | str j=>obtain⟨t',rfl⟩:=a;exact PySem.EqMixed.eq_int_str (Eu I q (by simp))
  | _=>exact absurd (show false=true from b) Gk
 | str i =>
  obtain⟨t,rfl⟩:=c;cases y with
  | non=>cases a;exact PySem.EqNone.eq_str_none (Eu I q (by simp))
  | bl j=>cases a;exact PySem.EqMixed.eq_str_bool (Eu I q (by simp))
  | int j=>obtain⟨t',rfl⟩:=a;exact PySem.EqMixed.eq_str_int (Eu I q (by simp))
  | str j=>obtain⟨t',rfl⟩:=a;exact eq_str (Eu I q X2m)
  | _=>exact absurd (show false=true from b) Gk
 | byt i =>
  obtain⟨t,rfl⟩:=c;cases y with
  | byt j=>obtain⟨t',rfl⟩:=a;exact PySem.W.eq_bytes (Eu I q X2o)
  | _=>exact absurd (show false=true from b) Gk
 | _=>cases y<;>exact absurd (show false=true from b) Gk
theorem Jh:Eh X (compareOp .NotEq) rNe:=by
 intro pins s σ H x y v u Q I c a h;obtain⟨b,q⟩:=h;cases x with
 | non =>
  cases c;cases y with
  | non=>cases a;exact PySem.EqNone.ne_none_none (Eu I q (by simp))
  | bl j=>cases a;exact PySem.EqNone.ne_none_bool (Eu I q (by simp))
  | int j=>obtain⟨t',rfl⟩:=a;exact PySem.EqNone.ne_none_int (Eu I q (by simp))
  | str j=>obtain⟨t',rfl⟩:=a;exact PySem.EqNone.ne_none_str (Eu I q (by simp))
  | _=>exact absurd (show false=true from b) Gk
 | bl i =>
  cases c;cases y with
  | non=>cases a;exact PySem.EqNone.ne_bool_none (Eu I q (by simp))
  | bl j=>cases a;exact ne_bool (Eu I q (congrArg not yt))
  | str j=>obtain⟨t',rfl⟩:=a;exact PySem.EqMixed.ne_bool_str (Eu I q (by simp))
  | _=>exact absurd (show false=true from b) Gk
 | int i =>
  obtain⟨t,rfl⟩:=c;cases y with
  | non=>cases a;exact PySem.EqNone.ne_int_none (Eu I q (by simp))
  | int j=>obtain⟨t',rfl⟩:=a;exact ne_int (Eu I q (congrArg not X2n))
  | str j=>obtain⟨t',rfl⟩:=a;exact PySem.EqMixed.ne_int_str (Eu I q (by simp))
  | _=>exact absurd (show false=true from b) Gk
 | str i =>
  obtain⟨t,rfl⟩:=c;cases y with
  | non=>cases a;exact PySem.EqNone.ne_str_none (Eu I q (by simp))
  | bl j=>cases a;exact PySem.EqMixed.ne_str_bool (Eu I q (by simp))
  | int j=>obtain⟨t',rfl⟩:=a;exact PySem.EqMixed.ne_str_int (Eu I q (by simp))
  | str j=>obtain⟨t',rfl⟩:=a;exact ne_str (Eu I q (congrArg not X2m))
  | _=>exact absurd (show false=true from b) Gk
 | byt i =>
  obtain⟨t,rfl⟩:=c;cases y with
  | byt j=>obtain⟨t',rfl⟩:=a;exact PySem.W.ne_bytes (Eu I q (congrArg not X2o))
  | _=>exact absurd (show false=true from b) Gk
 | _=>cases y<;>exact absurd (show false=true from b) Gk
theorem Nt:Eh X (compareOp .Lt) (Ml λi j=>.bl (decide (i<j))):=Oq λ_ _ _ _ _ _ _ q=>lt_int q
theorem W4c:Eh X (compareOp .LtE) (Ml λi j=>.bl (decide (i<=j))):=Oq λ_ _ _ _ _ _ _ q=>le_int q
theorem VD:Eh X (compareOp .Gt) (Ml λi j=>.bl (decide (j<i))):=Oq λ_ _ _ _ _ _ _ q=>gt_int q
theorem dw:Eh X (compareOp .GtE) (Ml λi j=>.bl (decide (j<=i))):=Oq λ_ _ _ _ _ _ _ q=>ge_int q
theorem oJ:Eh X (compareOp .Is) (λx y H Q=>y=.non/\Q (.bl (decide (x=.non))) H):=by
 intro pins s σ H x y v u Q I a b h;obtain⟨rfl,q⟩:=h;cases b;refine is_none_gen (Eu I q ?_);cases x<;>first
  | (cases a;rfl)
  | (obtain⟨t,rfl⟩:=a;rfl)
theorem W0e:Eh X (compareOp .IsNot) (λx y H Q=>y=.non/\Q (.bl (!decide (x=.non))) H):=by
 intro pins s σ H x y v u Q I a b h;obtain⟨rfl,q⟩:=h;cases b;refine isnot_none_gen (Eu I q ?_);cases x<;>first
  | (cases a;rfl)
  | (obtain⟨t,rfl⟩:=a;rfl)
theorem Ad(b:Expr){op:CmpOp}(h:op≠.In:=by decide)(h2:op≠.NotIn:=by decide):behindInMarks op b=false:=by
 have e1:(op == CmpOp.In)=false:=by cases op<;>first | rfl | exact absurd rfl h
 have e2:(op == CmpOp.NotIn)=false:=by cases op<;>first | rfl | exact absurd rfl h2
 cases b<;>simp[behindInMarks,e1,e2]
theorem Iz{op:CmpOp}{r:R2}(ho:Eh X (compareOp op) r)(ha:PE X a ta)(hb:PE X b tb)(hm:behindInMarks op b=false):PE X (.Compare a [op] [b] pos) (Py r ta tb):=by
 intro pins s σ H Q I h;exact wpAny_Compare1 (Rt ha hb I h λv u c x y H2 d f e q=>ho pins c σ H2 x y v u Q d f e q) hm
def Vn (t:TE):TT:=λσ H Q=>t σ H λx H'=>∃k,x=.bl k/\Q k H'
theorem B_{op:CmpOp}{r:R2}(ho:Eh X (compareOp op) r)(ha:PE X a ta)(hb:PE X b tb)(hm:behindInMarks op b=false):PT X (.Compare a [op] [b] pos) (Vn (Py r ta tb)):=by
 intro pins s σ H Q I h
 refine sW (Bu (ha pins s σ H _ I h) λv g ⟨x,H1,i,m,j⟩=>Bu (hb pins g σ H1 _ i j) λu o ⟨y,H2,l,f,d⟩ =>
  Bu (ho pins o σ H2 x y v u _ l m f d) λc w ⟨z,t,q,n,k,e,p⟩=>?_) hm
 subst e;cases n;exact Oi ⟨t,q,p⟩
def q9 (K:U0)(x:V)(H:Hp)(k:Bool):Prop :=
 match x with
 | .non=>k=false
 | .bl b=>k=b
 | .int i=>k=(i != 0)
 | .str y=>y.length<=sizeLine/\k=((y.length:Int) != 0)
 | .byt y=>y.size<=sizeLine/\k=((y.size:Int) != 0)
 | .ref p=>(∃xs,Aw K H p xs/\k=!xs.isEmpty)\/(∃xs,Ag K H p xs/\k=!xs.isEmpty)\/∃kvs,H p=some (.dK kvs)/\k=!kvs.isEmpty
 | _=>False
theorem Y8c{κ:Type}{kvs:List (κ×V)}{vs:List (κ×Value)}(r:KV kvs vs):(!vs.isEmpty)=!kvs.isEmpty:=by
 cases r<;>rfl
theorem uV{xs:List V}{its:U5}(r:Vals xs its):(!its.toArray.isEmpty)=!xs.isEmpty:=by
 cases r<;>simp
theorem IK:(sizeLine:Nat)<2^63:=by rw[sizeLine_eq];decide
theorem W3i:q_ X (λx H Q=>∃k,q9 X.K x H k/\Q k H):=by
 intro pins s σ H x v Q I d h;obtain⟨k,e,q⟩:=h;have n:=IK;have o:sizeLine=16777216:=sizeLine_eq;cases x with
 | non =>
  cases d;have a:k=false:=e;subst a;exact truthy_none ⟨H,I,q⟩
 | bl b =>
  cases d;have a:k=b:=e;subst a;exact Oi ⟨H,I,q⟩
 | int i =>
  obtain⟨t,rfl⟩:=d;have a:k=(i != 0):=e;subst a;exact PySem.P.truthy_int ⟨H,I,q⟩
 | str y =>
  obtain⟨t,rfl⟩:=d;obtain⟨j,a⟩:y.length<=sizeLine/\k=((y.length:Int) != 0):=e;subst a;exact PySem.P.truthy_str (by lia) ⟨H,I.tok _,q⟩
 | byt y =>
  obtain⟨t,rfl⟩:=d;obtain⟨j,a⟩:y.size<=sizeLine/\k=((y.size:Int) != 0):=e;subst a;exact PySem.W.truthy_bytes (by lia) ⟨H,I.tok _,q⟩
 | ref p =>
  cases d;have a:(∃xs,Aw X.K H p xs/\k=!xs.isEmpty)\/(∃xs,Ag X.K H p xs/\k=!xs.isEmpty)\/∃kvs,H p=some (.dK kvs)/\k=!kvs.isEmpty:=e;rcases a with ⟨xs,hx,a⟩ | ⟨xs,hx,a⟩ | ⟨kvs,hx,a⟩
  ·subst a;obtain⟨its,r,f,g⟩:=I.list hx;have c:=r.length;exact wpAny_truthy_list f.isList (by simp only[Fb];lia) ⟨H,I.tok _,by rw[uV r];exact q⟩
  ·subst a;obtain⟨its,r,f,g⟩:=I.tuple hx;have c:=r.length;exact truthy_tuple f (by simp only[Fb];lia) ⟨H,I.tok _,by rw[uV r];exact q⟩
  ·subst a;obtain⟨g,l,vs,r,m⟩:kvs.length<=sizeLine/\(p == sysModules)=false/\∃vs,KV kvs vs/\s.heap.DictOf (JR X.prog X.w) p vs:=I.hok p _ hx;have c:kvs.length=vs.length:=Paired.length r;exact wpAny_truthy_dict l m (by lia) ⟨H,I.tok _,by rw[Y8c r];exact q⟩
 | _=>exact(show False from e).elim
theorem vals1(r:Vals [x] us):∃u,us=[u]/\RelV x u:=by
 cases r with
 | cons r1 r2=>cases r2;exact⟨_,rfl,r1⟩
theorem vals2{y:V}(r:Vals [x,y] us):∃u w',us=[u,w']/\RelV x u/\RelV y w':=by
 cases r with
 | cons r1 r2 =>
  cases r2 with
  | cons r3 r4=>cases r4;exact⟨_,_,rfl,r1,r3⟩
theorem pX:Cr X (.builtin "abs") (λxs H Q=>∃i,xs=[.int i]/\Q (.int (if i<0 then -i else i)) H):=by
 intro pins s σ H xs us Q I r h;obtain⟨i,rfl,q⟩:=h;obtain⟨u,rfl,t,rfl⟩:=vals1 r;exact call_abs_int λu tk=>⟨.int (if i<0 then -i else i),H,I.tok _,⟨_,U⟩,q⟩
theorem yE(hc:X.calm=true):Cr X (.builtin "max") (λxs H Q=>∃i j,xs=[.int i,.int j]/\Q (.int (if j>i then j else i)) H):=by
 intro pins s σ H xs us Q I r h;obtain⟨i,j,rfl,q⟩:=h;obtain⟨u,a,rfl,⟨t,rfl⟩,⟨t',rfl⟩⟩:=vals2 r;refine max_two_ints (I.ok.hd hc) λh' tk k=>⟨_,H,I.kept k,?_,q⟩;by_cases hj:j>i
 ·rw[if_pos hj,if_pos hj];exact⟨_,U⟩
 ·rw[if_neg hj,if_neg hj];exact⟨_,U⟩
theorem X2x(hc:X.calm=true):Cr X (.builtin "min") (λxs H Q=>∃i j,xs=[.int i,.int j]/\Q (.int (if j<i then j else i)) H):=by
 intro pins s σ H xs us Q I r h;obtain⟨i,j,rfl,q⟩:=h;obtain⟨u,a,rfl,⟨t,rfl⟩,⟨t',rfl⟩⟩:=vals2 r;refine min_two_ints (I.ok.hd hc) λh' tk k=>⟨_,H,I.kept k,?_,q⟩;by_cases hj:j<i
 ·rw[if_pos hj,if_pos hj];exact⟨_,U⟩
 ·rw[if_neg hj,if_neg hj];exact⟨_,U⟩
theorem X2z:Cr X (.type "int") (λxs H Q=>(∃i,xs=[.int i]/\Q (.int i) H)\/∃k,xs=[.bl k]/\Q (.int (if k then 1 else 0)) H):=by
 intro pins s σ H xs us Q I r h;rcases h with ⟨i,rfl,q⟩ | ⟨k,rfl,q⟩
 ·obtain⟨u,rfl,t,rfl⟩:=vals1 r;exact call_int_int ⟨.int i,H,I,⟨_,U⟩,q⟩
 ·obtain⟨u,rfl,a⟩:=vals1 r;cases a;exact call_int_bool ⟨.int (if k then 1 else 0),H,I.tok _,⟨_,U⟩,q⟩
end
structure Sv (h:Heap) (x dx C:W9) (mA:U4):Prop where
 obj:h.get? x=some (PySem.W.instObj C dx)
 ns:h.Ns1 dx mA
 ne:dx≠x
theorem X1g{dx:W9}{mA:U4}(n:h.Ns1 dx mA):∃od,h.get? dx=some od/\∀name,PySem.W.lookIn name od=some (mA name):=by
 obtain⟨o,es,ep,f,hd,d,_,g⟩:=n;refine⟨o,f,λname=>?_⟩;have e:=g name;unfold nsFind findBy at e;rw[<-Array.find?_toList]at e;unfold PySem.W.lookIn;rw[hd];dsimp only;split
 ·rename_i y q;rw[q]at e;exact congrArg some e
 ·rename_i q;rw[q]at e;have a:es.toList.any (·.refKey)=false:=by
   rw[List.any_eq_false];intro y c;obtain⟨z,t,b⟩:=d y (Array.mem_toList_iff.mp c);simp[DictEntry.refKey,b]
  have a':¬ es.toList.any (·.refKey)=true:=by rw[a];exact Gk
  rw[if_neg a'];exact congrArg some e
theorem Sv.look{x dx C:W9}{mA:U4}(I:Sv h x dx C mA):∃od,PySem.W.InstAt h x (PySem.W.instObj C dx) C (some od)/\∀name,PySem.W.lookIn name od=some (mA name):=
 let ⟨od,ho,hl⟩:=X1g I.ns
 ⟨od,⟨I.obj,U,U,ho⟩,hl⟩
section
variable {prog:U8}{w:W1}{A:W6}{E:U2}{s:U7}{K:U0}{x dx C f:W9}{mA:U4}{name:Str}{v:W2}
end
theorem GZ.some_of{v:V}{o:Option Value}(r:GZ (some v) o):∃u,o=some u/\RelV v u:=by
 cases o with
 | none=>exact(show False from r).elim
 | some u=>exact⟨u,rfl,r⟩
section
variable {P:U8}{w:W1}{H H':Hp}{h h':Heap}{a C dx:W9}{fs fs':List (Str×V)}
theorem W1t(hok:Ey P w H h)(e:H a=some (.ins C dx fs)):∃mA,Sv h a dx C mA/\(∀f,GZ (fs.lookup f) (mA f))/\PySem.Within mA (fs.map (·.1))/\fs.length<=1000/\H dx=some (.own a):=by
 obtain⟨d,z,b,c,mA,n,r,q⟩:=(show Bf P w H h a (.ins C dx fs) from hok a _ e);exact⟨mA,⟨c,n,b⟩,r,q,z,d⟩
end
structure Cls (K:U0) (C:W9):Prop where
 pg:PySem.W.plainGet K C Str.empty=true
 hd:PySem.W.hasDictIn K C=true
 po:PySem.W.plainOver K C=true
 sa:PySem.W.findIn K (.ref C) "__setattr__"=some (some (.builtin "object.__setattr__"))
theorem Cls.get{K:U0}{C:W9}(c:Cls K C)(f:Str):PySem.W.plainGet K C f=true:=c.pg
section
variable {X:Cx}{pins:U1}{σ:St}{H:Hp}{s:U7}{a C dx:W9}{fs:List (Str×V)}{f:Str}{v:V}{A:W6}{E:U2}
end
section
variable {X:Cx}{o e value:Expr}{f:Str}{pos pos' tpos:Pos}{ta tv:TE}
end
section
variable {X:Cx}{pins:U1}{σ:St}{H:Hp}{s:U7}{A:W6}{E:U2}{Q:U2}{c:W2}{b:Bool}
inductive DK (K:U0) (H:Hp):V->Value->Prop where
 | non:DK K H .non (.type "NoneType")
 | bl (x:Bool):DK K H (.bl x) (.type "bool")
 | int (i:Int):DK K H (.int i) (.type "int")
 | str (x:Str):DK K H (.str x) (.type "str")
 | flt (x:UInt64):DK K H (.flt x) (.type "float")
 | lst {a:W9}{xs:List V} (e:H a=some (.lst xs)):DK K H (.ref a) (.type "list")
 | frz {a:W9}{o:Obj}{xs:List V} (e:H a=some (.frz o (.lst xs))):DK K H (.ref a) (.type "list")
 | tup {a:W9}{xs:List V} (e:H a=some (.tup xs)):DK K H (.ref a) (.type "tuple")
 | dK {a:W9}{kvs:List (Key×V)} (e:H a=some (.dK kvs)):DK K H (.ref a) (.type "dict")
 | dT {a:W9}{kvs:List (List Key×V)} (e:H a=some (.dT kvs)):DK K H (.ref a) (.type "dict")
 | ins {a C dx:W9}{fs:List (Str×V)} (e:H a=some (.ins C dx fs)) (cl:Cls K C) (ha:PySem.W.findIn K (.ref C) "__class__"=some (some (.builtin "object.__class__")))
   (hn:PySem.W.specialIn K (.builtin "object.__class__") "__get__"=some (some (.builtin "getset_descriptor.__get__"))) (htk:PySem.W.takesIn K (.builtin "object.__class__")=some true)
   (hm:PySem.W.mroIn K C (.type "object")=some true):DK K H (.ref a) (.ref C)
theorem X1t{t:W2}(I:Inv X pins σ H s)(rx:RelV x u)(ty:DK X.K H x t)(e:PySem.W.kitOne X.K t c=some b)(h:∀tk,Q (.bool b) {s with toks:=tk}):
  wpAny (model X.prog X.w) A (call (.builtin "isinstance") [u,c]) Q E s:=by
 cases ty with
 | non=>cases (show u=Value.none from rx);exact Lb PySem.W.kitx_none I.kIn True.intro e (λz=>nomatch z) h
 | bl y=>cases (show u=Value.bool y from rx);exact Lb PySem.W.kitx_bool I.kIn True.intro e (λz=>nomatch z) h
 | int i=>obtain⟨t,q⟩:=(show ∃t,u=Value.int i t from rx);cases q;exact Lb PySem.W.kitx_int I.kIn True.intro e (λz=>nomatch z) h
 | str y=>obtain⟨t,q⟩:=(show ∃t,u=Value.str y t from rx);cases q;exact Lb PySem.W.kitx_str I.kIn True.intro e (λz=>nomatch z) h
 | flt y=>obtain⟨t,q⟩:=(show ∃t,u=Value.float y t from rx);cases q;exact Lb PySem.W.kitx_float I.kIn True.intro e (λz=>nomatch z) h
 | @lst a xs ea =>
  cases (show u=Value.ref a from rx);obtain⟨_,_,n,_,h1⟩:=(show Bf X.prog X.w H s.heap a (.lst xs) from I.hok a _ ea);exact Lb PySem.W.kitx_list I.kIn ⟨_,h1,U⟩ e (λz=>nomatch z) h
 | @frz a ob xs ea =>
  cases (show u=Value.ref a from rx);obtain⟨_,_,_,n,_,h1⟩:=(show Bf X.prog X.w H s.heap a (.frz ob (.lst xs)) from I.hok a _ ea);exact Lb PySem.W.kitx_list I.kIn ⟨_,h1,U⟩ e (λz=>nomatch z) h
 | @tup a xs ea =>
  cases (show u=Value.ref a from rx);obtain⟨_,_,_,p⟩:=(show Bf X.prog X.w H s.heap a (.tup xs) from I.hok a _ ea);obtain⟨o,h1,h2,_⟩:=p;exact Lb PySem.W.kitx_tuple I.kIn ⟨o,h1,h2⟩ e (λz=>nomatch z) h
 | @dK a kvs ea =>
  cases (show u=Value.ref a from rx);obtain⟨_,_,vs,_,p⟩:=(show Bf X.prog X.w H s.heap a (.dK kvs) from I.hok a _ ea);obtain⟨o,es,ep,h1,h2,_⟩:=p;exact Lb PySem.W.kitx_dict I.kIn ⟨o,h1,h2.1⟩ e (λz=>nomatch z) h
 | @dT a kvs ea =>
  cases (show u=Value.ref a from rx);obtain⟨_,_,xs,_,o,es,ep,h1,h2,_⟩:=(show Bf X.prog X.w H s.heap a (.dT kvs) from I.hok a _ ea);exact Lb PySem.W.kitx_dict I.kIn ⟨o,h1,h2.1⟩ e (λz=>nomatch z) h
 | @ins a C dx fs ea cl ha hn htk hm =>
  cases (show u=Value.ref a from rx);obtain⟨mA,O,_⟩:=W1t I.hok ea;obtain⟨od,J,_⟩:=O.look;exact Lb (PySem.W.kitx_own (cl.get _) cl.hd ha hn htk hm) I.kIn J e (λz=>nomatch z) h
end
structure Ci (k:Nat) (A:W6):Prop where
 hd:A.handled=none
 dp:A.depth+3*k+5<recursionLimit
 un:A.units+16*k+200<cLine
theorem Ci.mono{j k:Nat}(r:Ci k A)(h:j<=k):Ci j A:=⟨r.hd,by have:=r.dp;lia,by have:=r.un;lia⟩
theorem Ci.deeper{k:Nat}(r:Ci (k+1) A)(env:Env):Ci k (A.deeper env):=
 ⟨r.hd,by have:=r.dp;show A.depth+1+3*k+5<_;lia,by have:=r.un;show A.units+3+16*k+200<_;lia⟩
theorem Ci.in1{k:Nat}(r:Ci (k+1) A):Ci k A.in1 :=
 ⟨r.hd,by have:=r.dp;show A.depth+3*k+5<_;lia,by have:=r.un;show A.units+1+16*k+200<_;lia⟩
theorem Ci.depth{k:Nat}(r:Ci k A):A.depth<recursionLimit:=by have:=r.dp;lia
theorem Ci.units{k:Nat}(r:Ci k A):A.units+64<cLine:=by have:=r.un;lia
def RM:TA:=λ_ H Q=>Q [] H
def I_ (ta:TE)(tr:TA):TA:=λσ H Q=>ta σ H λx H1=>tr σ H1 λxs H2=>Q (x::xs) H2
section
variable {X:Cx}{e:Expr}{es:List Expr}{te:TE}{t:TA}{pos:Pos}
theorem Ae:PA X [] RM:=λ_ _ _ _ H Q I h=>Calls.spliced_nil ⟨[],H,I,.nil,h⟩
theorem Aa(ha:PE X e te)(hr:PA X es t)(hs:starEach (e::es) X.env=(false,eval e X.env)::starEach es X.env:=by rfl):PA X (e::es) (I_ te t):=by
 intro pos pins s σ H Q I h;rw[hs];show wpAny _ _ (spliced ((false,eval e X.env)::backTo pos (starEach es X.env))) _ _ s;refine Calls.spliced_cons (Bu (ha pins s σ H _ I h) λu c ⟨x,H1,d,i,f⟩=>?_);exact Bu (hr pos pins c σ H1 _ d f) λus j ⟨xs,H2,g,b,a⟩=>⟨x::xs,H2,g,.cons i b,a⟩
def Vj (t:TA):TE:=λσ H Q=>t σ H λxs H1=>xs.length<=sizeLine/\∀p,H1 p=none->Q (.ref p) (upd H1 p (.tup xs))
def fU (t:TA):TE:=λσ H Q=>t σ H λxs H1=>xs.length<=sizeLine/\∀p,H1 p=none->Q (.ref p) (upd H1 p (.lst xs))
theorem Dg{x1}(h:PA X es t):PE X (.Tuple es x1 pos) (Vj t):=by
 intro pins s σ H Q I d;refine wpAny_Tuple_spliced (Bu (h pos pins s σ H _ I d) λus a ⟨xs,H1,c,r,z,q⟩=>⟨by rw[<-r.length];exact z,?_⟩);have hf:H1 a.heap.objs.size=none:=c.hok.fresh (CG _);refine⟨.ref a.heap.objs.size,upd H1 a.heap.objs.size (.tup xs),c.laid (t':=a.toks) (λb u e=>Ec _ e) (CG _) ?_,U,q _ hf⟩;exact⟨z,us,r,⟨_,GC _ rfl,U,_,U⟩⟩
theorem Li(h:PA X es t):PE X (.List es pos) (fU t):=by
 intro pins s σ H Q I d;refine wpAny_List_spliced (Bu (h pos pins s σ H _ I d) λus a ⟨xs,H1,c,r,z,q⟩=>⟨by rw[<-r.length];exact z,?_⟩);have hf:H1 a.heap.objs.size=none:=c.hok.fresh (CG _);refine⟨.ref a.heap.objs.size,upd H1 a.heap.objs.size (.lst xs),c.laid (t':=a.toks) (λb u e=>Ec _ e) (CG _) ?_,U,q _ hf⟩;exact⟨z,us,0,r,GC _ rfl⟩
end
abbrev Sp:=List V->Hp->VK->XK->Prop
abbrev NT:=List Env->Hp->Shared->XK->Value->Shared->Prop
structure Px (P:U8) (w:W1) (K:U0) (mg:U4) (base:Heap) (A:W6) (outer:List Env) (s:U7) (H:Hp):Prop where
 frames:A.frames=some outer
 mod:Mod K mg base
 bs:∀b o,base.get? b=some o->s.heap.get? b=some o/\H b=none
 bsz:base.objs.size<=s.heap.objs.size
 funs:s.heap.FunFrames base outer
 frf:∀b∈frs outer,H b=none
 hok:Ey P w H s.heap
 bare:AllBare s.gens
def CE (outer:List Env)(P:U8)(w:W1)(H:Hp)(s:U7)(Q:VK)(u:W2)(s':U7):Prop :=
 ∃v H',s'.os=s.os/\AllBare s'.gens/\Un (frs outer) [] H H' s.heap s'.heap/\Ey P w H' s'.heap/\RelV v u/\Q v H'
def CR (CX:NT)(outer:List Env)(P:U8)(w:W1)(H:Hp)(s:U7)(Q:VK)(E:XK)(r:Result)(s':U7):Prop :=
 match r with
 | .ok (.ret u)=>CE outer P w H s Q u s'
 | .ok _=>False
 | .error e=>CX outer H s E e s'
structure EY (P:U8) (w:W1) (K:U0) (mg:U4) (base:Heap) (CX:NT) (k:Nat) (f:W9) (fd:FuncData) (ps:W0) (sp:Sp):Prop where
 len:∀vs H Q E,sp vs H Q E->vs.length=ps.length
 run:∀(A:W6) (outer:List Env) (s:U7) (H:Hp) (args:Args) (us:U5) (vs:List V) (Q:VK) (E:XK),Ci k A->Px P w K mg base A outer s H->BindsTo s fd args (ps.zip us)->Vals vs us->sp vs H Q E ->
  codeAny (model P w) A (.call (.ref f) args) (CR CX outer P w H s Q E) s
variable{mg:U4}{base:Heap}{CX:NT}{f:W9}{fd:FuncData}{ps:W0}
theorem EY.mono{j k:Nat}{sp:Sp}(F:EY P w K mg base CX j f fd ps sp)(h:j<=k):
  EY P w K mg base CX k f fd ps sp:=⟨F.len,λA outer s H args us vs Q E a=>F.run A outer s H args us vs Q E (a.mono h)⟩
theorem EY.imp{k:Nat}{sp sp':Sp}(F:EY P w K mg base CX k f fd ps sp)
  (h:∀vs H Q E,sp' vs H Q E->sp vs H Q E):EY P w K mg base CX k f fd ps sp' :=
 ⟨λvs H Q E q=>F.len vs H Q E (h _ _ _ _ q),λA outer s H args us vs Q E c b hb d a=>F.run A outer s H args us vs Q E c b hb d (h _ _ _ _ a)⟩
section
variable {X:Cx}{pins:U1}{σ:St}{H:Hp}{s s':U7}
theorem Inv.env0(I:Inv X pins σ H s):Px X.prog X.w X.K X.mg X.base X.A X.stack s H :=
 ⟨I.ok.frames,I.ok.mod,I.bs,G7 I.ok.bsz I.sz,I.stack,I.stkFree,I.hok,I.bare⟩
theorem Inv.after{Q:VK}(I:Inv X pins σ H s)(h:CE X.stack X.prog X.w H s Q u s'):EP X pins σ Q u s':=by
 obtain⟨v,H',os,a,un,e,r,q⟩:=h;obtain⟨f,g,d,t,c⟩:=s';obtain rfl:c=s.os:=os;exact⟨v,H',I.call (h':=f) (g':=g) (d':=d) (t':=t) (ch:=[]) un e a (λb z=>absurd z (by simp)),r,q⟩
end
def P0 (sp:Sp)(dvs:List V)(E:XK)(t:TA):TE:=λσ H Q=>t σ H λvs H1=>sp (vs++dvs) H1 Q E
def Binds (K:U0)(fd:FuncData)(ps:W0)(ds:U5):Prop :=
 ∀(s:U7) (us:U5),K.In s.heap->(us++ds).length=ps.length->BindsTo s fd ⟨us,[]⟩ (ps.zip (us++ds))
theorem Binds.all(h:∀us:List Value,us.length=ps.length->bindArgs fd ⟨us,[]⟩=pure (ps.zip us)):Binds K fd ps []:=λs us _ a=>by
 rw[Mq]at a ⊢;exact .of_eq (h us a)
def Passes (CX:NT)(X:Cx)(E:XK):Prop:=∀(pins:U1) (σ:St) (H:Hp) (s:U7) (e:W2) (s':U7),Inv X pins σ H s->CX X.stack H s E e s'->X.xe e s'
section
variable {X:Cx}{CX:NT}{k:Nat}{f C:W9}{fd:FuncData}{ps:W0}{sp:Sp}{dvs:List V}{ds:U5}{E:XK}{x m:Str}{p pos apos:Pos}{e o:Expr}{es:List Expr}{ta:TE}{t:TA}
theorem _E{Q:VK}{vs:List V}(F:EY X.prog X.w X.K X.mg X.base CX k f fd ps sp)(hr:Ci k X.A)(hb:Binds X.K fd ps ds)(hd:Vals dvs ds)(hx:Passes CX X E)
  (I:Inv X pins σ H s) (r:Vals vs us) (h:sp (vs++dvs) H Q E):wpAny (model X.prog X.w) X.A (call (.ref f) us) (EP X pins σ Q) X.xe s:=by
 have b:Vals (vs++dvs) (us++ds):=r.append hd;have c:(us++ds).length=ps.length:=by rw[<-b.length];exact F.len _ _ _ _ h
 refine WK (RV (F.run X.A X.stack s H ⟨us,[]⟩ (us++ds) (vs++dvs) Q E hr I.env0 (hb s us I.kIn c) b h) λr s' a=>?_);cases r with
 | error e=>exact hx pins σ H s e s' I a
 | ok fl =>
  cases fl with
  | ret u=>exact I.after a
  | next=>exact False.elim a
  | brk=>exact False.elim a
  | cont=>exact False.elim a
theorem W0c(F:EY X.prog X.w X.K X.mg X.base CX k f fd ps sp)(hr:Ci k X.A)(hg:Gl X x)(hm:X.mg x=some (.ref f))(hk:PySem.W.keepIn X.K (.ref f)=true)(hb:Binds X.K fd ps ds)(hd:Vals dvs ds)(hx:Passes CX X E)
  (ha:PA X (e::es) t) (hdb:(x == ("__debug__":Str))=false:=by decide) (he:starEach (e::es) X.env=(false,eval e X.env)::starEach es X.env:=by rfl) (hpl:(backTo pos (starEach es X.env)).any (·.1)=false:=by rfl):
  PE X (.Call (.Name x p) (e::es) [] pos) (P0 sp dvs E t):=by
 intro pins s σ H Q I h;refine Wi (Ul I hg hm ?_ hdb);refine PySem.W.callWith_K (h₀:=X.base) I.ok.mod.kin hk (Bu (ha pos pins s σ H _ I h) λus b ⟨vs,H1,a,r,q⟩=>⟨a.kIn,?_⟩) he hpl;exact _E F hr hb hd hx a r q
end
def PK (X:Cx)(kws:List Keyword)(t:TA):Prop :=
 ∀(pos:Pos) (pins:U1) (s:U7) (σ:St) (H:Hp) (Q:List V->Hp->Prop),Inv X pins σ H s->t σ H Q->wpAny (model X.prog X.w) X.A (evalAll ((backToKw pos (keywordEach kws X.env)).map (·.2))) (AP X pins σ Q) X.xe s
section
variable {X:Cx}{CX:NT}{k:Nat}{f C:W9}{fd:FuncData}{ps ks:W0}{sp:Sp}{E:XK}{x m:Str}{p pos apos kpos:Pos}{e o:Expr}{es:List Expr}{kws:List Keyword}{te ta:TE}{t tk:TA}{nm:Option Str}
theorem W3x:PK X [] RM:=λ_ _ _ _ H Q I h=>wpAny_evalAll_nil ⟨[],H,I,.nil,h⟩
theorem W0a(ha:PE X e te)(hr:PK X kws t):PK X (⟨nm,e,kpos⟩::kws) (I_ te t):=by
 intro pos pins s σ H Q I h;show wpAny _ _ (evalAll ((do let v ← eval e X.env;standAt pos;pure v)::(backToKw pos (keywordEach kws X.env)).map (·.2))) _ _ s;refine wpAny_evalAll_cons (BX (Bu (ha pins s σ H _ I h) λu c ⟨x,H1,d,i,f⟩=>BX (Ti (CV ?_))));exact Bu (hr pos pins c σ H1 _ d f) λus j ⟨xs,H2,g,b,a⟩=>⟨x::xs,H2,g,.cons i b,a⟩
variable {g:List Value->List Value->List Value}{gV:List V->List V->List V}
end
structure Ce (N P:W0) (sc:Scope):Prop where
 kind:sc.kind=.function
 co:sc.isCoroutine=false
 gen:sc.isGenerator=false
 nd:N.Nodup
 pre:N.take P.length=P
 par:∀x∈P,sc.names.lookup x=some .local\/sc.names.lookup x=some .cell
 nofree:∀y∈sc.names,y.2≠.free
theorem xu{kindOf:Str->Option NameKind}{x:Str}:∀{binds:List (Str×Value)}{m:U4},(∀v,(x,v)∉binds)->bindL kindOf binds m x=m x
 | [],_,_=>rfl
 | (n,v)::r,m,h=>by
  unfold bindL;rw[xu λw a=>h w (Ju _ a)];split
  ·have:x≠n:=by rintro rfl;exact h v Je
   simp[this]
  ·rfl
theorem xg{kindOf:Str->Option NameKind}{x:Str}:∀{binds:List (Str×Value)}{m:U4},(∀v,(x,v)∉binds)->bindC kindOf binds m x=m x
 | [],_,_=>rfl
 | (n,v)::r,m,h=>by
  unfold bindC;rw[xg λw a=>h w (Ju _ a)];split
  ·rfl
  ·have:x≠n:=by rintro rfl;exact h v Je
   simp[this]
theorem xq{kindOf:Str->Option NameKind}{x:Str}{v:W2}:∀{P:W0}{vs:U5}{i:Nat}{m:U4},P.Nodup->P[i]?=some x->vs[i]?=some v->kindOf x=some .local ->
  bindL kindOf (P.zip vs) m x=some v
 | [],_,_,_,_,h,_,_=>by simp at h
 | _::_,[],_,_,_,_,h,_=>by simp at h
 | p::P,w::vs,0,m,nd,h1,h2,hk=>by
  simp at h1 h2;subst h1;subst h2;show bindL kindOf ((p,w)::P.zip vs) m p=_;unfold bindL;rw[xu λv a=>(La.mp nd).1 (Zb a).1,if_pos hk];simp
 | p::P,w::vs,i+1,m,nd,h1,h2,hk=>by
  show bindL kindOf ((p,w)::P.zip vs) m x=_;unfold bindL;exact xq (i:=i) (La.mp nd).2 (by simpa using h1) (by simpa using h2) hk
theorem xZ{kindOf:Str->Option NameKind}{x:Str}{v:W2}:∀{P:W0}{vs:U5}{i:Nat}{m:U4},P.Nodup->P[i]?=some x->vs[i]?=some v->kindOf x≠some .local ->
  bindC kindOf (P.zip vs) m x=some v
 | [],_,_,_,_,h,_,_=>by simp at h
 | _::_,[],_,_,_,_,h,_=>by simp at h
 | p::P,w::vs,0,m,nd,h1,h2,hk=>by
  simp at h1 h2;subst h1;subst h2;show bindC kindOf ((p,w)::P.zip vs) m p=_;unfold bindC;rw[xg λv a=>(La.mp nd).1 (Zb a).1,if_neg hk];simp
 | p::P,w::vs,i+1,m,nd,h1,h2,hk=>by
  show bindC kindOf ((p,w)::P.zip vs) m x=_;unfold bindC;exact xZ (i:=i) (La.mp nd).2 (by simpa using h1) (by simpa using h2) hk
noncomputable def start (N:W0)(vs:List V):St:=vs.map some++List.replicate (N.length-vs.length) none
noncomputable def G9 (CX:NT)(P:U8)(w:W1)(K:U0)(mg:U4)(base:Heap)(N:W0)(qual:Str)(scope:Scope)(f:W9)(cd:W2)(A:W6)(outer:List Env)(s:U7)(H:Hp)(E:XK):Cx where
 prog:=P
 w:=w
 K:=K
 mg:=mg
 base:=base
 A:=A.deeper (envOfC qual scope s.heap.objs.size f cd)
 N:=N
 s₀:=s
 H₀:=H
 env:=envOfC qual scope s.heap.objs.size f cd
 outer:=outer
 stack:=envOfC qual scope s.heap.objs.size f cd::outer
 ex:=[]
 calm:=true
 fn:=λ_=>true
 pn:=[]
 xe:=λe s'=>wpAny (model P w) (A.deeper (envOfC qual scope s.heap.objs.size f cd)) (leaving (envOfC qual scope s.heap.objs.size f cd) e) (λ_ s''=>CX outer H s E e s'') (λe' s''=>CX outer H s E e' s'') s'
theorem wA{sc:Scope}{n:Nat}{x:Str}(h:sc.names.lookup x=some .cell):∃c,(cellsFrom n sc.names []).lookup x=some c:=by
 have q:=su sc.names n [] (.inl h);exact Option.isSome_iff_exists.mp q
variable{qual:Str}{scope:Scope}
theorem X1u{N:W0}{cd:W2}{outer:List Env}{s1:U7}{E:XK}{vs:List V}
  (S:Ce N ps scope) (hd:A.handled=none) (e0:Px P w K mg base A outer s H) (hl:vs.length=ps.length) (r:Vals vs us)
  (x:InCallC s s.heap.objs.size (bindL (envOfC qual scope s.heap.objs.size f cd).kindOf (ps.zip us) λ_=>none) (cellsFrom (s.heap.objs.size+1) scope.names []) (bindC (envOfC qual scope s.heap.objs.size f cd).kindOf (ps.zip us) λ_=>none) s1):
  Inv (G9 CX P w K mg base N qual scope f cd A outer s H E) [] (start N vs) H s1:=by
 have t:ps.length<=N.length:=by have:=congrArg List.length S.pre;rw[Hx]at this;lia
 obtain⟨h1,tk,rfl,m⟩:=x.done;have d:∀b:Addr,b∉(G9 CX P w K mg base N qual scope f cd A outer s H E).ex:=λb z=>absurd (show b∈([]:U3) from z) (by simp)
 refine⟨⟨e0.mod,S.kind,U,U,CG _,λy z c h1 h2=>?_,λy g=>?_,λy c _ h=>?_,λ_=>hd,Around.frames_deeper e0.frames,.inr ⟨U,U⟩,λb z=>absurd z (d b),e0.bs,e0.bsz,λb _ _=>d b,λb z=>absurd z (d b),e0.funs,e0.frf⟩,
  rfl,e0.bare,Un.kept m,⟨_,x.toInCall.ns,λi y v h1 h2 C=>?_⟩,λy c h=>⟨_,x.cell y c h⟩,e0.hok.fresh (CG _),λy c h=>?_,λp hp=>absurd (show p∈([]:U1) from hp) (by simp),e0.hok.kept m,?_⟩
 ·exact name_of_addr x.apart (Ri h1) (Ri h2)
 ·have g:scope.names.lookup y=some .cell\/scope.names.lookup y=some .free:=g;rcases g with g | g
  ·exact wA g
  ·exact absurd rfl (S.nofree _ (Ri g))
 ·exact ZP (x.above y c (Ri h))
 ·have hi:i<vs.length:=by
   unfold start at h2;by_cases hi:i<vs.length
   ·exact hi
   ·rw[Wq (by simpa using hi)]at h2;rw[tR]at h2;split at h2<;>cases h2
  have o:vs[i]?=some v:=by
   unfold start at h2;rw[Wn (by simpa using hi),Cj]at h2;cases e:vs[i]? with
   | none=>rw[e]at h2;cases h2
   | some a=>rw[e]at h2;cases h2;rfl
  obtain⟨u,l,B⟩:=r.get o;have hp:ps[i]?=some y:=by
   rw[<-S.pre,List.getElem?_take_of_lt (by lia)];exact h1
  have j:ps.Nodup:=by rw[<-S.pre];exact S.nd.sublist (List.take_sublist _ _)
  refine⟨u,B,?_⟩;rcases S.par y (GQ hp) with k | k
  ·exact .inl ⟨k,xq j hp l k⟩
  ·obtain⟨c,e⟩:=wA (n:=s.heap.objs.size+1) k;refine .inr ⟨.inl k,c,e,?_⟩;have q:=x.cell y c e;rw[xZ j hp l (by show scope.names.lookup y≠_;rw[k];decide)]at q;exact q
 ·exact e0.hok.fresh (ZP (x.above y c (Ri h)))
 ·unfold start;show _=N.length;rw[JM,Bg,List.length_replicate];lia
theorem qw{k:Nat}{name:Str}{params:Arguments}{body:W8}{dV kV doc pm cdv ct oc:W2}{an od:W5}
  {osl:W4}{N:W0}{sp:Sp} (lk:K.lookup f=some ⟨oc,od,.func (PySem.W.fnOf name qual params body scope dV kV doc pm an cdv ct),osl⟩) (hcd:PySem.W.codeIn K cdv qual=true) (S:Ce N ps scope)
  (len:∀vs H Q E,sp vs H Q E->vs.length=ps.length)
  (hbody:∀(A:W6) (outer:List Env) (s:U7) (H:Hp) (vs:List V) (Q:VK) (E:XK),Ci k (A.deeper (envOfC qual scope s.heap.objs.size f cdv))->sp vs H Q E ->
   ∃t,Ho (G9 CX P w K mg base N qual scope f cdv A outer s H E) body t/\t { nx:=λ_ H'=>Q .non H',rt:=Q} (start N vs) H):
  EY P w K mg base CX (k+1) f (PySem.W.fnOf name qual params body scope dV kV doc pm an cdv ct) ps sp:=by
 refine⟨len,λA outer s H args us vs Q E m h hb r g=>?_⟩;have z:=len _ _ _ _ g;have p:K.In s.heap:=h.mod.kin.keeps λb o e=>(h.bs b o e).1;have j:s.heap.NoLimit:=h.mod.nolimit.keeps λb o e=>(h.bs b o e).1;have a:∀y∈ps.zip us,scope.names.lookup y.1=some .local\/(scope.names.lookup y.1=some .cell/\((cellsFrom (s.heap.objs.size+1) scope.names []).lookup y.1).isSome=true):=λ⟨n,v⟩ F=>by
  rcases S.par n (Zb F).1 with q | q
  ·exact .inl q
  ·exact .inr ⟨q,su _ _ _ (.inl q)⟩
 refine codeAny_call_function m.depth (p _ _ lk) rfl S.co S.gen rfl (PySem.W.codeRec_of p hcd) (hb _ _ _ _ ?_);refine wpAny_newFunctionEnv_cells S.kind a λenv B s1 x=>?_;subst B;refine⟨j.keeps x.toInCall.keep,codeAny_func ?_⟩;obtain⟨t,C,D⟩:=hbody A outer s H vs Q E (m.deeper _) g;have I:Inv (G9 CX P w K mg base N qual scope f cdv A outer s H E) [] (start N vs) H s1:=X1u S m.hd h z r x;refine Fi (C [] s1 (start N vs) H _ I D) (λfl s' c=>?_) λe s' c=>c;have d:∀{i:St}{H':Hp}{v:V}{u:W2},Inv (G9 CX P w K mg base N qual scope f cdv A outer s H E) [] i H' s'->RelV v u->Q v H'->CE outer P w H s Q u s' :=
  λ{i H' v u} J l q=>⟨v,H',J.os,J.bare,J.base,J.hok,l,q⟩
 cases fl with
 | ret u =>
  obtain⟨v,i,H',J,l,q⟩:=c;exact d J l q
 | next =>
  obtain⟨i,H',J,q⟩:=c;exact d (v:=V.non) (u:=Value.none) J rfl q
 | brk =>
  obtain⟨_,_,_,q⟩:=c;exact False.elim q
 | cont =>
  obtain⟨_,_,_,q⟩:=c;exact False.elim q
section
variable {X:Cx}{x:Str}{p pos:Pos}{e:Expr}{es:List Expr}{t:TA}{id T:String}{r:List V->Hp->VK->Prop}
def sJ (r:List V->Hp->VK->Prop)(t:TA):TE:=λσ H Q=>t σ H λvs H1=>r vs H1 Q
theorem Ck(hc:Cr X (.builtin id) r)(hg:Gl X x)(hm:X.mg x=none)(hv:bootBuiltins x=some (.builtin id))(ha:PA X (e::es) t)(hn:x≠"__name__":=by decide)(hdb:(x == ("__debug__":Str))=false:=by decide)
  (he:starEach (e::es) X.env=(false,eval e X.env)::starEach es X.env:=by rfl) (hpl:(backTo pos (starEach es X.env)).any (·.1)=false:=by rfl):PE X (.Call (.Name x p) (e::es) [] pos) (sJ r t):=by
 intro pins s σ H Q I h;refine Wi (Rv I hg hm hv ?_ hn hdb);exact PyProof.Rows.callWith_builtin1 (Bu (ha pos pins s σ H _ I h) λus a ⟨vs,H1,d,c,b⟩=>hc pins a σ H1 vs us Q d c b) he hpl
theorem aB(hc:Cr X (.type T) r)(hg:Gl X x)(hm:X.mg x=none)(hv:bootBuiltins x=some (.type T))(ha:PA X (e::es) t)(hn:x≠"__name__":=by decide)(hdb:(x == ("__debug__":Str))=false:=by decide)
  (he:starEach (e::es) X.env=(false,eval e X.env)::starEach es X.env:=by rfl) (hpl:(backTo pos (starEach es X.env)).any (·.1)=false:=by rfl):PE X (.Call (.Name x p) (e::es) [] pos) (sJ r t):=by
 intro pins s σ H Q I h;refine Wi (Rv I hg hm hv ?_ hn hdb);exact PyProof.Rows.callWith_type1 (Bu (ha pos pins s σ H _ I h) λus a ⟨vs,H1,d,c,b⟩=>hc pins a σ H1 vs us Q d c b) he hpl
end
end L2
namespace HT
section
open PySem.SeqAt
open PySem.AutoSeq1 (wpAny_loadPart')
open PySem.MeetsSeq PySem.MeetsSeq2 PySem.MeetsSeq3
end
section
variable {prog:U8}{w:W1}{A:W6}{E:U2}{s:U7}
noncomputable def CT (n d:Nat):Option Int->Nat
 | none=>d
 | some v=>if v<0 then (v+(n:Int)).toNat else min v.toNat n
theorem bT(n d k:Nat):CT n d (some (k:Int))=min k n:=by
 show (if (k:Int)<0 then ((k:Int)+(n:Int)).toNat else min (k:Int).toNat n)=min k n;rw[if_neg (by lia),G8]
theorem W3r(n d:Nat)(hd:d<=n)(o:Option Int):CT n d o<=n:=by
 cases o with
 | none=>exact hd
 | some v =>
  show (if v<0 then (v+(n:Int)).toNat else min v.toNat n)<=n;by_cases hv:v<0
  ·rw[if_pos hv];lia
  ·rw[if_neg hv];exact Nat.min_le_right _ _
theorem _9(v:Int)(n d:Nat):(if v<0 then max (v+(n:Int)) 0 else min v (n:Int))=((CT n d (some v):Nat):Int):=by
 show (if v<0 then max (v+(n:Int)) 0 else min v (n:Int))=(((if v<0 then (v+(n:Int)).toNat else min v.toNat n):Nat):Int);by_cases hv:v<0
 ·simp only[if_pos hv];lia
 ·simp only[if_neg hv];lia
theorem Y8i(lo hi:Option Int)(n:Nat):Builtin.Slice.sliceAdjust lo hi 1 (n:Int)=(((CT n 0 lo:Nat):Int),((CT n n hi:Nat):Int)):=by
 have h1:¬ ((1:Int)<0):=by lia
 unfold Builtin.Slice.sliceAdjust;simp only[h1,Jb];refine Prod.ext ?_ ?_
 ·cases lo with
  | none=>rfl
  | some v=>exact _9 v n 0
 ·cases hi with
  | none=>rfl
  | some v=>exact _9 v n n
theorem Y7l(i j:Nat):Builtin.Slice.slicePlaces (i:Int) (j:Int) 1=j-i:=by
 unfold Builtin.Slice.slicePlaces;have h1:(1:Int)>0:=by lia
 simp only[h1,Ja,Int.ediv_one];split<;>lia
theorem uW{v:W2}{o:Option Int}{Q:Option Int->Shared->Prop}(p:IsPart v o)(h:Q o s):wpAny (model prog w) A (Builtin.Slice.slicePartIndex v) Q E s:=by
 cases p with
 | none=>exact slicePart_none h
 | int i t=>exact slicePart_int h
variable{lo hi:Option Int}
theorem vC{sl:W9}{vl vu:W2}{n:Nat}{Q:Int×Int×Nat->Shared->Prop}(hs:s.heap.IsSliceOf sl vl vu .none)(pl:IsPart vl lo)(pu:IsPart vu hi)
  (h:Q (((CT n 0 lo:Nat):Int),1,CT n n hi-CT n 0 lo) s):wpAny (model prog w) A (Builtin.Slice.sliceApplied (.ref sl) (pure (n:Int))) Q E s:=by
 obtain⟨os,a,c,b⟩:=id hs;unfold Builtin.Slice.sliceApplied Builtin.Slice.sliceFields;refine BX (BX (LK a b (x:=vl) rfl (BX (LK a b (x:=vu) rfl (BX (LK a b (x:=.none) rfl (CV ?_)))))));refine BX (slicePart_none ?_);show wpAny _ _ (if ((1:Int) == 0)=true then _ else _) _ _ s;rw[if_neg (by decide)];refine BX (uW pl (BX (uW pu (BX (CV ?_)))));show wpAny _ _ (match Builtin.Slice.sliceAdjust lo hi 1 (n:Int) with | (lo,hi)=>pure (lo,(1:Int),Builtin.Slice.slicePlaces lo hi 1)) _ _ s;rw[Y8i lo hi n];show wpAny _ _ (pure (((CT n 0 lo:Nat):Int),(1:Int),Builtin.Slice.slicePlaces ((CT n 0 lo:Nat):Int) ((CT n n hi:Nat):Int) 1)) _ _ s;rw[Y7l];exact CV h
theorem X4i(xs:U9)(i k:Nat):((List.range k).filterMap λ(m:Nat)=>xs[((i:Int)+(m:Int)*1).toNat]?).toArray=((xs.toList.drop i).take k).toArray:=by
 have e:(λ(m:Nat)=>xs[((i:Int)+(m:Int)*1).toNat]?)=λm=>xs[i+m]?:=by
  funext m;have:((i:Int)+(m:Int)*1).toNat=i+m:=by lia
  rw[this]
 rw[e];have:=pick_run xs i k;rw[List.filterMap_map]at this;have e2:((λx=>xs[x]?) ∘ λx=>i+x)=λm=>xs[i+m]?:=rfl;rw[e2]at this;rw[this]
theorem Z6w{t sl:W9}{items:U9}{vl vu:W2}{Q:U2}(ht:IsTup s.heap t items)(hs:s.heap.IsSliceOf sl vl vu .none)(pl:IsPart vl lo)(pu:IsPart vu hi)
  (hw:¬ (CT items.size 0 lo=0/\CT items.size items.size hi=items.size))
  (h:Q (.ref s.heap.objs.size) {s with heap:=s.heap.push { cls:=.type "tuple",data:=.seq ((items.toList.drop (CT items.size 0 lo)).take (CT items.size items.size hi-CT items.size 0 lo)).toArray}})
  (hsz:items.size<=sizeLine):wpAny (model prog w) A (getItem (.ref t) (.ref sl)) Q E s:=by
 have a:sizeOk (.seq ((items.toList.drop (CT items.size 0 lo)).take (CT items.size items.size hi-CT items.size 0 lo)).toArray):=by
  show ((items.toList.drop (CT items.size 0 lo)).take (CT items.size items.size hi-CT items.size 0 lo)).toArray.size<=sizeLine;rw[Fb,Hx,iU,Ol];lia
 have g:CT items.size items.size hi<=items.size:=W3r _ _ (CG _) hi;obtain⟨os,e,b,f⟩:=id hs;have d:s.TypeIs (.ref sl) "slice":=⟨os,e,b⟩;unfold getItem;try with_reducible refine Kw ?_
 first | refine BX (CV ?_) | skip
 refine BX (wpAny_sequenceKey ht.typeIs (by decide) ?_)
 refine BX (jR (name:=Str.ofString "__getitem__") ht.typeIs PyProof.Rows.slot_tuple_getitem
  (Ze PyProof.Rows.slot_tuple_getitem ht.typeIs entry_tuple_getitem ?_ (args_tuple_getitem _ _)))
 show wpAny _ _ (Builtin.Tuple.tupleItemsOf (.ref t) >>= _) _ _ s;refine BX (tupleItemsOf_ ht ?_);refine BX (iC d ?_);rw[if_pos (by decide)];refine BX (vC hs pl pu ?_);have c:¬ ((((CT items.size 0 lo:Nat):Int) == 0 && (1:Int) == 1 && (CT items.size items.size hi-CT items.size 0 lo) == items.size)=true):=by
  intro q;rw[HY,HY]at q;have i:((CT items.size 0 lo:Nat):Int)=0:=eq_of_beq q.1.1;have j:CT items.size items.size hi-CT items.size 0 lo=items.size:=eq_of_beq q.2;exact hw ⟨by lia,by lia⟩
 show wpAny _ _ (if (((CT items.size 0 lo:Nat):Int) == 0 && (1:Int) == 1 && (CT items.size items.size hi-CT items.size 0 lo) == items.size)=true then _ else _) _ _ s;rw[if_neg c,X4i];first
  | exact BX (m:=Builtin.Tuple.tupleExact _) (QV (CV ⟨_,rfl,CV h⟩) a)
  | exact BX (m:=Builtin.Tuple.tupleExact _) (QV (BX (CV (CV ⟨_,rfl,CV h⟩))) a)
  | exact BX (BX (m:=Builtin.Tuple.tupleExact _) (QV (CV (CV ⟨_,rfl,CV h⟩)) a))
  | exact BX (BX (m:=Builtin.Tuple.tupleExact _) (QV (CV ⟨_,rfl,CV h⟩) a))
end
end HT
namespace L2
abbrev TO:=St->Hp->(Option Int->Hp->Prop)->Prop
def PO (X:Cx)(e:Option Expr)(t:TO):Prop :=
 ∀(pins:U1) (s:U7) (σ:St) (H:Hp) (Q:Option Int->Hp->Prop),Inv X pins σ H s->t σ H Q ->
  wpAny (model X.prog X.w) X.A (evalPart e X.env) (λu s'=>∃o H',Inv X pins σ H' s'/\IsPart u o/\Q o H') X.xe s
def X9h:TO:=λ_ H Q=>Q none H
def Vq (t:TE):TO:=λσ H Q=>t σ H λx H1=>∃i,x=.int i/\Q (some i) H1
theorem Uu{ns:U6}:∀{us:U5},Vals (ns.map V.int) us->IntsAre us ns:=by
 induction ns with
 | nil=>intro us r;rw[h_]at r;cases r;exact .nil
 | cons n ns ih =>
  intro us r;rw[Ez]at r;cases r with
  | cons r1 r2 =>
   obtain⟨t,e⟩:=r1;subst e;exact .cons n t (ih r2)
section
variable {X:Cx}{e:Expr}{te:TE}{lo hi:Option Expr}{tl th:TO}{pos p2:Pos}
theorem R0:PO X none X9h:=by
 intro pins s σ H Q I h;rw[evalPart_none];exact CV ⟨none,H,I,.none,h⟩
theorem K6(h:PE X e te):PO X (some e) (Vq te):=by
 intro pins s σ H Q I a;rw[evalPart_some];refine Bu (h pins s σ H _ I a) λu f ⟨x,H1,d,c,b⟩=>?_;obtain⟨i,rfl,q⟩:=b;obtain⟨t,rfl⟩:=c;exact⟨some i,H1,d,.int i t,q⟩
def Yu (X:Cx)(r:V->Option Int->Option Int->Hp->VK->Prop):Prop :=
 ∀(pins:U1) (s:U7) (σ:St) (H:Hp) (x:V) (v vl vu:W2) (lo hi:Option Int) (sl:W9) (Q:VK),Inv X pins σ H s->RelV x v->s.heap.IsSliceOf sl vl vu .none->IsPart vl lo->IsPart vu hi->r x lo hi H Q ->
  ∃T id,typeLookup (.type T) "__getitem__"=pure (some (.builtin id))/\s.TypeIs v T/\wpAny (model X.prog X.w) X.A (getItem v (.ref sl)) (EP X pins σ Q) X.xe s
def tSl (r:V->Option Int->Option Int->Hp->VK->Prop)(te:TE)(tl th:TO):TE:=λσ H Q=>te σ H λx H1=>tl σ H1 λl H2=>th σ H2 λu H3=>r x l u H3 Q
theorem N5{r:V->Option Int->Option Int->Hp->VK->Prop}(hr:Yu X r)(he:PE X e te)(hl:PO X lo tl)(hu:PO X hi th):PE X (.Subscript e (.Slice lo hi none p2) pos) (tSl r te tl th):=by
 intro pins s σ H Q I h;refine Subscript_ (Bu (he pins s σ H _ I h) λv i ⟨x,H1,k,t,n⟩=>?_);refine wpAny_Slice (Bu (hl pins i σ H1 _ k n) λd C ⟨l,H2,p,z,g⟩=>Bu (hu pins C σ H2 _ p g) λc a ⟨u,f,E,m,D⟩=>?_);rw[evalPart_none];refine CV ?_;have j:Inv X pins σ f {a with heap:=a.heap.push { cls:=.type "slice",data:=.fields #[d,c,.none]}}:=E.kept (t':=a.toks) λb F q=>Ec _ q;obtain⟨T,id,y,o,B⟩:=hr pins {a with heap:=a.heap.push { cls:=.type "slice",data:=.fields #[d,c,.none]}} σ f x v d c l u a.heap.objs.size Q j t (Heap.IsSliceOf.new ..) z m D;show wpAny (model X.prog X.w) X.A (subscriptTail e (.Slice lo hi none p2) v (.ref a.heap.objs.size)) (EP X pins σ Q) X.xe {a with heap:=a.heap.push { cls:=.type "slice",data:=.fields #[d,c,.none]}};exact tail_any (ops:=[.ref a.heap.objs.size,v]) o y B (by with_unfolding_all rfl)
noncomputable def FN (xs:List V)(lo hi:Option Int):List V:=(xs.drop (HT.CT xs.length 0 lo)).take (HT.CT xs.length xs.length hi-HT.CT xs.length 0 lo)
theorem uc(xs:List V)(lo hi:Option Int):(FN xs lo hi).length<=xs.length:=by
 unfold FN;rw[Hx,iU];lia
def gb (K:U0):V->Option Int->Option Int->Hp->VK->Prop:=λx lo hi H Q=>∃a xs,x=.ref a/\Ag K H a xs /\
 ¬ (HT.CT xs.length 0 lo=0/\HT.CT xs.length xs.length hi=xs.length)/\∀p,H p=none->Q (.ref p) (upd H p (.tup (FN xs lo hi)))
theorem Yn:Yu X (gb X.K):=by
 intro pins s σ H x v t n lo hi m Q I k g l j h;obtain⟨a,xs,rfl,i,f,q⟩:=h;cases k;obtain⟨its,r,e,d⟩:=I.tuple i;have c:its.toArray.size=xs.length:=by rw[Fb];exact r.length.symm
 refine⟨"tuple",_,PyProof.Rows.slot_tuple_getitem.lookup,e.typeIs,?_⟩;refine HT.Z6w e g l j (by rw[c];exact f) ?_ (by rw[c];exact d);rw[c];refine⟨.ref s.heap.objs.size,_,I.laid (t':=s.toks) (o:=.tup (FN xs lo hi)) (λb p q=>Ec _ q) (CG _) ?_,U,q _ (I.hok.fresh (CG _))⟩;exact⟨G7 (uc xs lo hi) d,_,(r.drop (HT.CT xs.length 0 lo)).take (HT.CT xs.length xs.length hi-HT.CT xs.length 0 lo),IsTup.new _ _⟩
end
noncomputable def UJ (n:Nat)(i:Int):Option Nat:=if 0<=i then (if i<n then some i.toNat else none) else if -(n:Int)<=i then some (i+n).toNat else none
noncomputable def Gv {α:Type}(xs:List α)(i:Int):Option α:=(UJ xs.length i).bind λj=>xs[j]?
variable{n j:Nat}{i:Int}
theorem W1q(h:UJ n i=some j):seqIndex? i n=some j/\j<n/\-(n:Int)<=i/\i<n:=by
 unfold UJ at h;by_cases h0:0<=i
 ·rw[if_pos h0]at h;by_cases h1:i<n
  ·rw[if_pos h1]at h;have e:i.toNat=j:=Option.some.inj h;exact⟨by rw[seqIndex_of h0 h1,e],by lia,by lia,h1⟩
  ·rw[if_neg h1]at h;cases h
 ·rw[if_neg h0]at h;by_cases h1:-(n:Int)<=i
  ·rw[if_pos h1]at h;have e:(i+n).toNat=j:=Option.some.inj h;exact⟨by rw[seqIndex_neg (by lia) h1,e],by lia,h1,by lia⟩
  ·rw[if_neg h1]at h;cases h
theorem _6{α:Type}{xs:List α}{v:α}(h:Gv xs i=some v):∃j,seqIndex? i xs.length=some j/\xs[j]?=some v/\j<xs.length/\-(xs.length:Int)<=i/\i<xs.length:=by
 unfold Gv at h;cases e:UJ xs.length i with
 | none=>rw[e]at h;cases h
 | some j =>
  rw[e]at h;obtain⟨h1,h2,b,a⟩:=W1q e;exact⟨j,h1,h,h2,b,a⟩
theorem Ln{α:Type}{xs:List α}{v:α}(h:xs[j]?=some v):Gv xs (j:Int)=some v:=by
 have a:j<xs.length:=(Et.mp h).1;have e:UJ xs.length (j:Int)=some j:=by
  unfold UJ;rw[if_pos (by lia),if_pos (by lia)];simp
 unfold Gv;rw[e];exact h
def W2l (b:Expr):Prop:=∀o i,subscripted b false o i=operate [o,i] (getItem o i)
def Yz (X:Cx)(r:R2):Prop :=
 ∀(value slice:Expr) (pins:U1) (s:U7) (σ:St) (H:Hp) (x y:V) (v u:W2) (Q:VK),Inv X pins σ H s->RelV x v->RelV y u->r x y H Q ->
  subscripted slice false v u=operate [v,u] (getItem v u)->wpAny (model X.prog X.w) X.A (subscriptTail value slice v u) (EP X pins σ Q) X.xe s
def rJ (X:Cx)(id:String)(r:V->List V->Hp->VK->Prop):Prop :=
 ∀(pins:U1) (s:U7) (σ:St) (H:Hp) (x:V) (xs:List V) (v:W2) (us:U5) (Q:VK),Inv X pins σ H s->RelV x v->Vals xs us->r x xs H Q ->
  wpAny (model X.prog X.w) X.A (call (.builtin id) (v::us)) (EP X pins σ Q) X.xe s
section
variable {X:Cx}{a b:Expr}{ta tb:TE}{pos:Pos}
theorem Ai{r:R2}(hr:Yz X r)(ha:PE X a ta)(hb:PE X b tb)(hs:W2l b):PE X (.Subscript a b pos) (Py r ta tb):=by
 intro pins s σ H Q I h;exact Subscript_ (Rt ha hb I h λv u c x y H2 d f e q=>hr a b pins c σ H2 x y v u Q d f e q (hs _ _))
def V9 (K:U0):R2:=λx y H Q=>∃p xs i v,x=.ref p/\y=.int i/\Aw K H p xs/\Gv xs i=some v/\Q v H
def V8 (K:U0):R2:=λx y H Q=>∃p xs i v,x=.ref p/\y=.int i/\Ag K H p xs/\Gv xs i=some v/\Q v H
theorem Fv:Yz X (V9 X.K):=by
 intro value b pins s σ H x y v u Q I B m h f;obtain⟨p,xs,i,z,rfl,rfl,o,n,q⟩:=h;cases B;obtain⟨t,rfl⟩:=m;obtain⟨its,r,d,D⟩:=I.list o;obtain⟨j,h1,h2,C,l,A⟩:=_6 n;obtain⟨w,g,e⟩:=r.get h2;have k:=r.length;have E:=IK;have a:EP X pins σ Q w s:=⟨z,H,I,e,q⟩;by_cases h0:0<=i
 ·have c:i.toNat=j:=by
   rw[seqIndex_of h0 A]at h1;exact Option.some.inj h1
  exact item_listR d.isList h0 (by lia) (by rw[c];simpa using g) a f
 ·have c:(i+(its.toArray.size:Int)).toNat=j:=by
   rw[seqIndex_neg (by lia) l]at h1;rw[Fb,<-k];exact Option.some.inj h1
  exact tG (x:=w) d.isList.typeIs slot_list_getitem.lookup
   (wpAny_getItem_list_neg (Q:=λr s'=>r=w/\EP X pins σ Q r s') d.isList (by lia) (by rw[Fb]<;>lia) (by lia) (by rw[c];simpa using g) ⟨U,a⟩) f
theorem Ao:Yz X (V8 X.K):=by
 intro value b pins s σ H x y v u Q I n f h g;obtain⟨p,xs,i,z,rfl,rfl,l,k,q⟩:=h;cases n;obtain⟨t,rfl⟩:=f;obtain⟨its,r,d,B⟩:=I.tuple l;obtain⟨j,h1,h2,o,A,C⟩:=_6 k;obtain⟨w,m,c⟩:=r.get h2;have e:=r.length;have D:=IK;have a:EP X pins σ Q w s:=⟨z,H,I,c,q⟩;exact tG (x:=w) d.typeIs slot_tuple_getitem.lookup
  (getItem_tuple (j:=j) (Q:=λr s'=>r=w/\EP X pins σ Q r s') d (by lia) (by lia) (by rw[Fb,<-e];exact h1) (by simpa using m) ⟨U,a⟩) g
theorem Y1u(lo hi:Option Int)(n:Nat):(sliceBounds lo hi none n).1=((HT.CT n 0 lo:Nat):Int)/\(sliceBounds lo hi none n).2.1=((HT.CT n n hi:Nat):Int)/\(sliceBounds lo hi none n).2.2=1:=by
 refine⟨?_,?_,U⟩
 ·cases lo with
  | none=>simp[sliceBounds,HT.CT]
  | some i =>
   simp only[sliceBounds,HT.CT,Option.getD_none,show (1:Int)>0 by decide,Ja];by_cases h:i<0
   ·simp only[h,Ja]<;>lia
   ·simp only[h,Jb]<;>lia
 ·cases hi with
  | none=>simp[sliceBounds,HT.CT]
  | some i =>
   simp only[sliceBounds,HT.CT,Option.getD_none,show (1:Int)>0 by decide,Ja];by_cases h:i<0
   ·simp only[h,Ja]<;>lia
   ·simp only[h,Jb]<;>lia
theorem Y0j(its:U5)(lo hi:Option Int):slicePick its.toArray lo hi none=((its.drop (HT.CT its.length 0 lo)).take (HT.CT its.length its.length hi-HT.CT its.length 0 lo)).toArray:=by
 obtain⟨h1,h2,a⟩:=Y1u lo hi its.toArray.size;unfold slicePick;rw[h1,h2,a];simp only[sliceRange_one,pick_run,Fb]<;>rfl
def V7 (K:U0):V->Option Int->Option Int->Hp->VK->Prop:=λx lo hi H Q=>∃a xs,x=.ref a/\Aw K H a xs/\∀p,H p=none->Q (.ref p) (upd H p (.lst (FN xs lo hi)))
theorem pG:Yu X (V7 X.K):=by
 intro pins s σ H x v p m lo hi l Q I j e k g h;obtain⟨a,xs,rfl,f,q⟩:=h;cases j;obtain⟨its,r,d,i⟩:=I.list f;have c:=r.length;refine⟨"list",_,slot_list_getitem.lookup,d.isList.typeIs,?_⟩;refine wpAny_getItem_list_slice d.isList e k g .none (by simp) ?_ (by rw[Fb]<;>lia);rw[Y0j,<-c];refine⟨.ref s.heap.objs.size,_,I.laid (t':=s.toks) (o:=.lst (FN xs lo hi)) (λb n q=>Ec _ q) (CG _) ?_,U,q _ (I.hok.fresh (CG _))⟩;exact⟨G7 (uc xs lo hi) i,_,0,(r.drop (HT.CT xs.length 0 lo)).take (HT.CT xs.length xs.length hi-HT.CT xs.length 0 lo),GC _ rfl⟩
noncomputable def GF:V->Bool
 | .non=>true
 | .bl _=>true
 | .int _=>true
 | .str _=>true
 | _=>false
noncomputable def Ou:V->V->Bool
 | .non,.non=>true
 | .bl a,.bl b=>a == b
 | .bl a,.int b=>(if a then 1 else 0) == b
 | .int a,.bl b=>a == (if b then 1 else 0)
 | .int a,.int b=>a == b
 | .str a,.str b=>a == b
 | _,_=>false
variable{x:V}{u v:W2}
theorem W5w{A:W6}{s:U7}{y:V}(ry:RelV y u)(rx:RelV x v)(fy:GF y=true)(fx:GF x=true):SeqAt.EqAt A s u v (Ou y x):=by
 cases y with
 | non =>
  cases ry;cases x with
  | non=>cases rx;exact SeqAt.EqAt.same _
  | bl b=>cases rx;exact SeqAt.EqAt.none_bool b
  | int b=>obtain⟨t,rfl⟩:=rx;exact SeqAt.EqAt.none_int b t
  | str b=>obtain⟨t,rfl⟩:=rx;exact SeqAt.EqAt.none_str b t
  | _=>exact absurd (show false=true from fx) Gk
 | bl a =>
  cases ry;cases x with
  | non=>cases rx;exact SeqAt.EqAt.bool_none a
  | bl b=>cases rx;exact SeqAt.EqAt.bool_bool a b
  | int b=>obtain⟨t,rfl⟩:=rx;exact SeqAt.EqAt.bool_int a b t
  | str b=>obtain⟨t,rfl⟩:=rx;exact SeqAt.EqAt.bool_str a b t
  | _=>exact absurd (show false=true from fx) Gk
 | int a =>
  obtain⟨t',rfl⟩:=ry;cases x with
  | non=>cases rx;exact SeqAt.EqAt.int_none a t'
  | bl b=>cases rx;exact SeqAt.EqAt.int_bool a t' b
  | int b=>obtain⟨t,rfl⟩:=rx;exact SeqAt.EqAt.int_int a t' b t
  | str b=>obtain⟨t,rfl⟩:=rx;exact SeqAt.EqAt.int_str a t' b t
  | _=>exact absurd (show false=true from fx) Gk
 | str a =>
  obtain⟨t',rfl⟩:=ry;cases x with
  | non=>cases rx;exact SeqAt.EqAt.str_none a t'
  | bl b=>cases rx;exact SeqAt.EqAt.str_bool a t' b
  | int b=>obtain⟨t,rfl⟩:=rx;exact SeqAt.EqAt.str_int a t' b t
  | str b=>obtain⟨t,rfl⟩:=rx;exact SeqAt.EqAt.str_str a t' b t
  | _=>exact absurd (show false=true from fx) Gk
 | _=>exact absurd (show false=true from fy) Gk
noncomputable def Ov (x:V)(u:W2):Bool:=match u with
 | .none=>Ou .non x
 | .bool b=>Ou (.bl b) x
 | .int i _=>Ou (.int i) x
 | .str z _=>Ou (.str z) x
 | _=>false
theorem yu{y:V}(r:RelV y u)(f:GF y=true):Ov x u=Ou y x:=by
 cases y with
 | non=>cases r;rfl
 | bl b=>cases r;rfl
 | int i=>obtain⟨t,rfl⟩:=r;rfl
 | str z=>obtain⟨t,rfl⟩:=r;rfl
 | _=>exact absurd (show false=true from f) Gk
theorem oY{x:V}:∀{xs:List V}{us:U5},Vals xs us->xs.all GF=true->us.any (Ov x)=xs.any λy=>Ou y x
 | _,_,.nil,_=>rfl
 | y::xs,u::us,.cons r t,f=>by
  rw[iG,HY]at f;rw[Te,Te,yu r f.1,oY t f.2]
theorem qC{A:W6}{s:U7}{x:V}{v:W2}(rx:RelV x v)(fx:GF x=true):∀{xs:List V}{us:U5},Vals xs us->xs.all GF=true->∀u∈us,SeqAt.EqAt A s u v (Ov x u)
 | _,_,.nil,_=>λu a=>by cases a
 | y::xs,u::us,.cons r t,f=>λb a=>by
  rw[iG,HY]at f;rcases Dj.mp a with rfl | a
  ·rw[yu r f.1];exact W5w r rx f.1 fx
  ·exact qC rx fx t f.2 b a
noncomputable def inV (x:V)(xs:List V):Bool:=xs.any λy=>Ou y x
def rIn (K:U0)(neg:Bool):R2:=λx y H Q=>∃p xs,y=.ref p/\(Aw K H p xs\/Ag K H p xs)/\GF x=true/\xs.all GF=true/\Q (.bl (if neg then !inV x xs else inV x xs)) H
theorem Y9w:Eh X (compareOp .In) (rIn X.K false):=by
 intro pins s σ H x y v u Q I e f h;obtain⟨p,xs,rfl,a,d,fs,q⟩:=h;cases f;rcases a with a | a
 ·obtain⟨its,r,c,g⟩:=I.list a;refine SeqAt.in_listAt (Ov x) c.isList (λw b=>qC e d r fs w (by simpa using b)) ⟨.bl _,H,I,U,?_⟩;rw[show its.toArray.any (Ov x)=its.any (Ov x) by simp,oY r fs];exact q
 ·obtain⟨its,r,c,g⟩:=I.tuple a;refine SeqAt.in_tupleAt (Ov x) c (λw b=>qC e d r fs w (by simpa using b)) ⟨.bl _,H,I,U,?_⟩;rw[show its.toArray.any (Ov x)=its.any (Ov x) by simp,oY r fs];exact q
theorem Ig:Cr X (.builtin "len") (λxs H Q=>∃p ys,xs=[.ref p]/\(Aw X.K H p ys\/Ag X.K H p ys)/\Q (.int ys.length) H):=by
 intro pins s σ H xs us Q I r h;obtain⟨p,ys,rfl,b,q⟩:=h;obtain⟨u,rfl,f⟩:=vals1 r;cases f;have g:=IK;rcases b with b | b
 ·obtain⟨its,c,d,e⟩:=I.list b;have a:=c.length;exact Calls.call_len_list d.isList (by simp only[Fb]<;>lia) ⟨.int ys.length,H,I.tok _,⟨s.toks+1,by rw[Fb,a]⟩,q⟩
 ·obtain⟨its,c,d,e⟩:=I.tuple b;have a:=c.length;exact len_tuple d (by simp only[Fb]<;>lia) ⟨.int ys.length,H,I.tok _,⟨s.toks+1,by rw[Fb,a]⟩,q⟩
theorem u5:Cr X (.type "list") (λxs H Q=>∃p ys,xs=[.ref p]/\(Aw X.K H p ys\/Ag X.K H p ys)/\∀l,H l=none->Q (.ref l) (upd H l (.lst ys))):=by
 intro pins s σ H xs us Q I r h;obtain⟨p,ys,rfl,i,q⟩:=h;obtain⟨u,rfl,t⟩:=vals1 r;cases t;have d:∀(its:U5),Vals ys its->ys.length<=sizeLine->∀(h':Heap) (c':Nat),(∀b o',s.heap.get? b=some o'->h'.get? b=some o') ->
   h'.get? s.heap.objs.size=some { cls:=.type "list",dict:=none,data:=.seq its.toArray c',slots:=#[]}->EP X pins σ Q (.ref s.heap.objs.size) {s with heap:=h'}:=λits a g h' c' c e =>
  ⟨.ref s.heap.objs.size,_,I.laid (t':=s.toks) c (CG _) (show Bf X.prog X.w _ h' _ (.lst ys) from ⟨g,its,c',a,e⟩),U,q _ (I.hok.fresh (CG _))⟩
 rcases i with i | i
 ·obtain⟨its,a,m,g⟩:=I.list i;have f:=a.length;obtain⟨o,k,j,n,hd⟩:=m.isList;exact call_list_seq p (.inl rfl) k j hd (λh' c' c e=>d its a g h' c' c e) (by simp only[Fb]<;>lia)
 ·obtain⟨its,a,m,g⟩:=I.tuple i;have f:=a.length;obtain⟨o,k,j,n,hd⟩:=m;exact call_list_seq p (.inr rfl) k j hd (λh' c' c e=>d its a g h' c' c e) (by simp only[Fb]<;>lia)
def fO (K:U0)(T:String)(x:V)(H:Hp):Prop:=match x with
 | .str _=>T="str"
 | .int _=>T="int"
 | .ref p=>(T="list"/\∃xs,Aw K H p xs)\/(T="tuple"/\∃o,K.lookup p=some o/\o.cls=.type "tuple"/\o.dict=none) \/
   (T="dict"/\((∃kvs,H p=some (.dK kvs))\/∃kvs,H p=some (.dT kvs)))\/(T="set"/\∃S n,H p=some (.set S n))
 | _=>False
theorem _K{pins:U1}{σ:St}{H:Hp}{s:U7}{T:String}(I:Inv X pins σ H s)(r:RelV x v)(ty:fO X.K T x H):
  s.TypeIs v T/\∀a,v=.ref a->∃ob,s.heap.get? a=some ob/\ob.dict=none:=by
 cases x with
 | str z =>
  obtain⟨t,rfl⟩:=r;cases (show T="str" from ty);exact⟨typeIs_str s z t,λ_ e=>nomatch e⟩
 | int i =>
  obtain⟨t,rfl⟩:=r;cases (show T="int" from ty);exact⟨typeIs_int s i t,λ_ e=>nomatch e⟩
 | ref p =>
  cases r;rcases ty with ⟨rfl,xs,hq⟩ | ⟨rfl,o,hk,hc,hd⟩ | ⟨rfl,hk⟩ | ⟨rfl,S,n,hk⟩
  ·obtain⟨its,_,b,_⟩:=I.list hq;refine⟨b.isList.typeIs,λa e=>?_⟩;cases e;obtain⟨o,n,e,c,hd,_⟩:=b;exact⟨o,e,hd⟩
  ·refine⟨⟨o,I.kIn p o hk,hc⟩,λa e=>?_⟩;cases e;exact⟨o,I.kIn _ o hk,hd⟩
  ·have z:∃o,s.heap.get? p=some o/\o.ExactDict:=by
    rcases hk with ⟨kvs,hk⟩ | ⟨kvs,hk⟩
    ·obtain⟨_,_,_,_,o,_,_,e,ex,_⟩:=I.hok p _ hk;exact⟨o,e,ex⟩
    ·obtain⟨_,_,_,_,o,_,_,e,ex,_⟩:=I.hok p _ hk;exact⟨o,e,ex⟩
   obtain⟨o,e,ex⟩:=z;refine⟨⟨o,e,ex.1⟩,λa e2=>?_⟩;cases e2;exact⟨o,e,ex.2.1⟩
  ·obtain⟨o,_,_,_,e,ex,_⟩:=I.hok p _ hk;refine⟨⟨o,e,ex.1⟩,λa e2=>?_⟩;cases e2;exact⟨o,e,ex.2.1⟩
 | _=>exact False.elim ty
def fZ (K:U0)(T:String)(r:V->List V->Hp->VK->Prop)(to:TE):TE:=λσ H Q=>to σ H λx H1=>fO K T x H1/\r x [] H1 Q
def tBM (K:U0)(T:String)(r:V->List V->Hp->VK->Prop)(to:TE)(t:TA):TE:=λσ H Q=>to σ H λx H1=>fO K T x H1/\t σ H1 λxs H2=>r x xs H2 Q
variable {o e:Expr}{es:List Expr}{to:TE}{t:TA}{name:Str}{apos cpos:Pos}{T id:String}{r:V->List V->Hp->VK->Prop}
theorem Qq(pa:PlainAttrs T)(slot:Slot T name id)(hty:typeOf (.builtin id)=pure (.type "method_descriptor"))(hm:rJ X id r)(ho:PE X o to)
  (hbase:attributeBase o name X.env (eval o X.env)=eval o X.env:=by rfl) (hline:(apos.endLine == cpos.line)=true:=by rfl):PE X (.Call (.Attribute o name apos) [] [] cpos) (fZ X.K T r to):=by
 intro pins s σ H Q I h;refine wpAny_Call_method0_late hbase hline (Bu (ho pins s σ H _ I h) λv c ⟨x,H1,b,a,ty,d⟩=>?_);obtain⟨h1,h2⟩:=_K b a ty;exact⟨T,id,pa,slot,hty,h1,h2,Calls.callWith_builtin rfl (PySem.evalArgs_none (hm pins c σ H1 x [] v [] Q b a .nil d))⟩
theorem W7d(pa:PlainAttrs T)(slot:Slot T name id)(hty:typeOf (.builtin id)=pure (.type "method_descriptor"))(hm:rJ X id r)(ho:PE X o to)(ha:PA X (e::es) t)
  (hbase:attributeBase o name X.env (eval o X.env)=eval o X.env:=by rfl)
  (hfew:((backTo cpos (starEach (e::es) X.env)).all (λx=>!x.1) && (backToKw cpos (keywordEach [] X.env)).all (λx=>x.1.isSome)
   && decide ((e::es).length+([]:List Keyword).length+(if ([]:List Keyword).isEmpty then 0 else 1)<30))=true:=by rfl)
  (hline:(apos.endLine == cpos.line)=true:=by rfl) (hs:starEach (e::es) X.env=(false,eval e X.env)::starEach es X.env:=by rfl) (hplain:(backTo cpos (starEach es X.env)).any (·.1)=false:=by rfl):
  PE X (.Call (.Attribute o name apos) (e::es) [] cpos) (tBM X.K T r to t):=by
 intro pins s σ H Q I h;refine wpAny_Call_method_late hbase hfew hline rfl (Bu (ho pins s σ H _ I h) λv g ⟨x,H1,a,b,ty,i⟩=>?_);obtain⟨h1,h2⟩:=_K a b ty;refine⟨T,id,pa,slot,hty,h1,h2,?_⟩;have c:=ha cpos pins g σ H1 _ a i;rw[hs]at c ⊢;refine Calls.callWith_builtin (by show (false || (backTo cpos (starEach es X.env)).any (·.1))=false;rw[hplain]<;>rfl) (Calls.evalArgs_plain ?_);exact Bu c λus k ⟨vs,H2,j,f,d⟩=>hm pins k σ H2 x vs v us Q j b f d
end
def MtM (X:Cx)(id:String)(r:V->List V->Hp->VK->Prop):Prop :=
 ∀(pins:U1) (s:U7) (σ:St) (H:Hp) (x:V) (xs:List V) (v:W2) (us:U5) (Q:VK),Inv X pins σ H s->RelV x v->Vals xs us->r x xs H Q ->
  wpAny (model X.prog X.w) X.A (call (.builtin id) (v::us)) (EP X pins σ Q) X.xe s
theorem Vals.one{x:V}{us:U5}(h:Vals [x] us):∃u,us=[u]/\RelV x u:=by
 cases h with
 | cons r t=>cases t;exact⟨_,rfl,r⟩
theorem Vals.two{x y:V}{us:U5}(h:Vals [x,y] us):∃u v,us=[u,v]/\RelV x u/\RelV y v:=by
 cases h with
 | cons r t=>cases t with
  | cons q t=>cases t;exact⟨_,_,rfl,r,q⟩
section
variable {X:Cx}{pins:U1}{σ:St}{H:Hp}{s:U7}{l b:W9}{xs ys zs:List V}
theorem Inv.lset{its its':U5}{f:Array Value->Array Value}{t':Nat}(I:Inv X pins σ H s)(hH:H l=some (.lst xs))
  (e:s.heap.get? l=some { cls:=.type "list",data:=.seq its.toArray n}) (hf:f its.toArray=its'.toArray) (hv:Vals ys its') (hz:ys.length<=sizeLine):
  Inv X pins σ (upd H l (.lst ys)) {s with heap:=s.heap.update l (Obj.mapSeq f),toks:=t'}:=by
 have q:=PySem.IsL.update e f;rw[hf]at q;refine I.write (x:=l) (e:=l) (by rw[hH];exact trivial) (.inl rfl) (λb' u hb a=>(Tw s.heap (Obj.mapSeq f) (Ne.symm hb)).trans a) ⟨_,q⟩ ?_;exact⟨hz,its',_,hv,q⟩
theorem Inv.lnew{its:U5}{t':Nat}(I:Inv X pins σ H s)(hv:Vals ys its)(hz:ys.length<=sizeLine):
  Inv X pins σ (upd H s.heap.objs.size (.lst ys)) {s with heap:=s.heap.push { cls:=.type "list",data:=.seq its.toArray},toks:=t'} :=
 I.laid (λ_ _ q=>Ec _ q) (CG _) ⟨hz,its,0,hv,GC _ rfl⟩
theorem Inv.fresh(I:Inv X pins σ H s):H s.heap.objs.size=none:=I.hok.fresh (CG _)
theorem Inv.lstM(I:Inv X pins σ H s)(hH:H l=some (.lst xs)):xs.length<=sizeLine/\∃(its:U5) (n:Nat),Vals xs its/\xs.length=its.length/\s.heap.get? l=some { cls:=.type "list",data:=.seq its.toArray n}:=by
 obtain⟨z,its,n,r,e⟩:=I.hok l _ hH;exact⟨z,its,n,r,r.length,e⟩
theorem W6s(h:n<=sizeLine):Builtin.List.listTooLong n=false:=by
 unfold Builtin.List.listTooLong;exact FJ (by lia)
end
section
variable {X:Cx}
def X9v:V->List V->Hp->VK->Prop:=λx vs H Q=>∃l xs y,x=.ref l/\vs=[y]/\H l=some (.lst xs)/\xs.length<sizeLine/\Q .non (upd H l (.lst (xs++[y])))
theorem nU:MtM X "list.append" X9v:=by
 intro pins s σ H x vs v us Q I d c h;obtain⟨l,xs,y,rfl,rfl,a,g,q⟩:=h;cases d;obtain⟨u,rfl,b⟩:=c.one;obtain⟨z,its,n,r,f,e⟩:=I.lstM a;refine call_meets F.slot_list_append ⟨_,e,U⟩ F.entry_list_append (F.args_list_append_2 _ _) (PySem.list_append l its.toArray n u (by rw[Fb];lia)) ⟨e,?_⟩;refine⟨.non,_,I.lset (its':=its++[u]) a e (by simp) (r.append (.cons b .nil)) ?_,U,q⟩;rw[JM,sS];lia
def W7c:V->List V->Hp->VK->Prop:=λx vs H Q=>∃l b xs zs,x=.ref l/\vs=[.ref b]/\H l=some (.lst xs)/\H b=some (.lst zs)/\xs.length+zs.length<=sizeLine/\Q .non (upd H l (.lst (xs++zs)))
def gq:R2:=λx y H Q=>∃l b xs zs,x=.ref l/\y=.ref b/\H l=some (.lst xs)/\H b=some (.lst zs)/\xs.length+zs.length<=sizeLine/\∀p,H p=none->Q (.ref p) (upd H p (.lst (xs++zs)))
theorem au:Eh X (binaryOp .Add) gq:=by
 intro pins s σ H x y v u Q I k f h;obtain⟨l,b,xs,zs,rfl,rfl,g,j,o,q⟩:=h;cases k;cases f;obtain⟨z,its,n,r,m,e⟩:=I.lstM g;obtain⟨p,a,t,d,i,e2⟩:=I.lstM j;refine PySem.P.add_list e e2 ?_ (by rw[Fb,Fb];lia);have c:its.toArray++a.toArray=(its++a).toArray:=by simp
 rw[c];exact⟨.ref _,_,I.lnew (t':=s.toks) (r.append d) (by rw[JM];lia),U,q _ I.fresh⟩
end
section
variable {prog:U8}{w:W1}{A:W6}{E:U2}{s:U7}
end
section
variable {X:Cx}
end
end L2
namespace rT
open PySem.W PySem.Calls
variable{P:Params}{h:Heap}
theorem Z8u:∀(ns:U6) (vs:U5),WellAll P h vs (ns.map WData.int)->IntsAre vs ns:=by
 intro ns;induction ns with
 | nil =>
  intro vs w;rw[h_]at w;cases w;exact .nil
 | cons n ns ih =>
  intro vs w;rw[Ez]at w;cases w with
  | cons a b =>
   cases a;exact .cons _ _ (ih _ b)
theorem Y9e{l:OpenLaw}{n:Nat}(hn:l.most=some n){args:List WData}{vals:U5}
  (hpre:l.row.toRowW.claim.pre args=true) (hwl:WellAll P h vals args):
  ∃a vs ns,vals=[Value.ref a]/\args=[WData.list (ns.map WData.int)]/\h.get? a=some { cls:=.type "list",data:=.seq vs.toArray}/\IntsAre vs ns/\ns.length<=n:=by
 have f:WShape.hasAll [] args [.list .int]=true:=(pre_splitW hpre).1;have g:l.pre.holds [] { args:=args}=true:=(pre_splitW hpre).2;obtain⟨d,r,rfl,h1,h2⟩:=hasAllW_cons f;obtain rfl:=hasAllW_nil h2;obtain⟨xs,rfl,j⟩:=hasW_list h1;obtain⟨ns,rfl⟩:=items_int j;have b:ns.length<=n:=by
  unfold OpenLaw.pre at g;have c:(WTm.not (.lt (.lit (.int (n:Int))) (.len (.arg 0)))).holds [] { args:=[.list (ns.map .int)]}=true:=by
   have c:=(holds_andW g).1;rw[hn]at c;exact c
  have e:=condW_of c (w_not (w_lt w_lit (w_len_list (w_arg rfl))));rw[Bg]at e;refine Nat.le_of_not_lt λq=>?_;have i:(n:Int)<((ns.length:Nat):Int):=by lia
  first
   | (rw[Gb i]at e;exact absurd e (by decide))
   | (simp at e;lia)
 cases hwl with
 | cons w1 w2 =>
  cases w2;cases w1 with
  | list ho hall=>exact⟨_,_,ns,rfl,rfl,ho,Z8u ns _ hall,b⟩
theorem Y9i(l:OpenLaw)(args:List WData):l.row.toRowW.claim.post args (.bool true) args=true :=
 postW_of (r:=l.row.toRowW) (X:=(true == true))
  (show WShape.has [] (.bool true) .bool=true by first | rfl | decide | simp[WShape.has,WShape.arms,WShape.armsAll])
  (show (WTm.eq .res (.lit (.bool true))).value [] { args:=args,res:=some (.bool true),after:=args}=some (.bool (true == true)) from w_eq_bool (w_res rfl) w_lit) rfl
section
variable {prog:U8}{w:W1}{A:W6}{E:U2}{s:U7}{K:Frag}
end
end rT
namespace L2
theorem n8:∀{vs:U5}{ns:U6},IntsAre vs ns->Vals (ns.map V.int) vs
 | _,_,.nil=>.nil
 | _,_,.cons n t h=>.cons ⟨t,rfl⟩ (n8 h)
def Only (H:Hp):Prop:=∀b,H b=none\/∃o xs,H b=some (.frz o (.lst xs))
theorem X5y{P:U8}{w:W1}{K:U0}{mg mb:U4}{CX:NT}{k:Nat}{fa a:W9}{fd:FuncData}{x:Str}{sp:Sp}{s₁:U7}{vs:U5}{ns:U6}
  (KX:K.In s₁.heap) (hns:s₁.heap.Ns mainGlobals mg) (hb:s₁.heap.Ns builtinsNs mb) (hbb:∀x:Str,x≠"__name__"->mb x=bootBuiltins x) (hlim:s₁.heap.NoLimit) (hg:s₁.gens=#[])
  (ha:s₁.heap.get? a=some { cls:=.type "list",data:=.seq vs.toArray}) (hi:IntsAre vs ns) (hl:ns.length<=sizeLine) (hr:Ci k callerA)
  (F:∀base:Heap,K.In base->base.Ns mainGlobals mg->EY P w K mg base CX k fa fd [x] sp) (hbind:∀(s:U7) (u:W2),BindsTo s fd ⟨[u],[]⟩ [(x,u)])
  (hsp:∀H:Hp,Only H->Aw K H a (ns.map V.int)->sp [.ref a] H (λv _=>v=.bl true) λ_ _ _=>False)
  (hCX:∀H e s',CX [] H s₁ (λ_ _ _=>False) e s'->False):
  codeAny (model P w) callerA (.call (.ref fa) ⟨[.ref a],[]⟩) (λr s'=>r=.ok (.ret (.bool true))/\OldK s₁.heap s'.heap/\s'.os=s₁.os/\AllBare s'.gens) s₁:=by
 have E:=n8 hi;have l:=hi.length;have g:∀H:Hp,Only H->Aw K H a (ns.map V.int)->Ey P w H s₁.heap->(∀b,H b≠none->b=a)->(H a≠none->K.lookup a=none) ->
   codeAny (model P w) callerA (.call (.ref fa) ⟨[.ref a],[]⟩) (λr s'=>r=.ok (.ret (.bool true))/\OldK s₁.heap s'.heap/\s'.os=s₁.os/\AllBare s'.gens) s₁:=by
  intro H C O i D G;have c:∀{b:W9}{o:Obj},s₁.heap.get? b=some o->H b=none->(IV s₁.heap H).get? b=some o:=λe n=>X6e e n;have B:∀{b:W9}{o:Obj}{es:Array DictEntry}{ep:Nat},s₁.heap.get? b=some o->o.data=.dict es ep->H b=none:=λ{b o es ep} e d=>by
   cases q:H b with
   | none=>rfl
   | some u =>
    have A:b=a:=D b (by rw[q];simp);subst A;rw[ha]at e;cases e;have d':Data.seq vs.toArray _=Data.dict es ep:=d;cases d'
  have f:∀{b:W9}{m:U4},s₁.heap.Ns b m->(IV s₁.heap H).Ns b m:=λ{b m} ⟨o,es,ep,e,d,r⟩=>⟨o,es,ep,c e (B e d),d,r⟩
  have j:K.In (IV s₁.heap H):=λb o e=>c (KX b o e) (by
   cases q:H b with
   | none=>rfl
   | some u =>
    have A:b=a:=D b (by rw[q];simp)
    subst A
    rw[G (by rw[q];simp)]at e;cases e)
  have L:Mod K mg (IV s₁.heap H):=⟨j,f hns,⟨mb,f hb,hbb⟩,let ⟨mc,h1,h2⟩:=hlim;⟨mc,f h1,h2⟩⟩;have M:Px P w K mg (IV s₁.heap H) callerA [] s₁ H:=⟨U,L,λb o e=>W0x e,Nat.le_of_eq (X1z _ _),trivial,λb hb=>absurd (show b∈([]:U3) from hb) (by simp),i,.of_eq hg⟩;refine RV ((F _ j (f hns)).run callerA [] s₁ H ⟨[.ref a],[]⟩ [.ref a] [.ref a] _ _ hr M (hbind s₁ (.ref a)) (.cons rfl .nil) (hsp H C O)) λr s' h=>?_;cases r with
  | error e=>exact(hCX H e s' h).elim
  | ok fl =>
   cases fl with
   | next=>exact False.elim h
   | brk=>exact False.elim h
   | cont=>exact False.elim h
   | ret u =>
    obtain⟨v,H',os,p,un,y,I,q⟩:=h;have J:v=.bl true:=q;subst J;obtain rfl:u=Value.bool true:=I;refine⟨U,OldK.of_keep λb o e=>?_,os,p⟩;cases q:H b with
    | none=>exact un.keep b o e q (by intro z;exact absurd (show b∈([]:U3) from z) (by simp)) (by simp)
    | some u =>
     rcases C b with z | ⟨ob,xs,z⟩
     ·rw[q]at z;cases z
     ·have N:=un.frzs b ob _ z;obtain⟨e1,_⟩:=i b _ z;obtain⟨e2,_⟩:=y b _ N;rw[e]at e1;cases e1;exact e2
 cases hk:K.lookup a with
 | some o =>
  have e:=KX a o hk;rw[ha]at e;cases e;refine g (λ_=>none) (λ_=>.inl rfl) (.inr ⟨_,vs.toArray,_,hk,U,U,U,by rw[Fb,l];exact hl,by simpa using E⟩) (λb u z=>by have t:(none:Option HO)=some u:=z;cases t) (λb z=>absurd rfl z) λz=>absurd rfl z
 | none =>
  refine g (λb=>if b=a then some (.frz { cls:=.type "list",data:=.seq vs.toArray} (.lst (ns.map V.int))) else none) (λb=>?_) (.inl (.inr ⟨{ cls:=.type "list",data:=.seq vs.toArray},if_pos rfl⟩)) (λb u z=>?_) (λb z=>?_) λ_=>hk
  ·by_cases hb:b=a
   ·exact .inr ⟨_,_,if_pos hb⟩
   ·exact .inl (if_neg hb)
  ·by_cases hb:b=a
   ·have t:=(if_pos hb).symm.trans z;cases t;subst hb;exact⟨ha,by rw[Bg];exact hl,vs,_,E,ha⟩
   ·have t:=(if_neg hb).symm.trans z;cases t
  ·by_cases hb:b=a
   ·exact hb
   ·exact absurd (if_neg hb) z
end L2
namespace L2
noncomputable def X1y (s:Stmt)(j:Nat):Stmt:=match s with
 | .ClassDef _ _ _ body _ _ _ _ _ _ _=>body.getD j (.Pass ⟨0,0,0,0⟩)
 | _=>.Pass ⟨0,0,0,0⟩
noncomputable def Ft (s:Stmt):Arguments:=match s with
 | .FunctionDef _ a _ _ _ _ _ _ _ _=>a
 | _=>{ posonlyargs:=[],args:=[],vararg:=none,kwonlyargs:=[],kw_defaults:=[],kwarg:=none,defaults:=[]}
noncomputable def FT (s:Stmt):List Stmt:=match s with
 | .FunctionDef _ _ b _ _ _ _ _ _ _=>b
 | _=>[]
noncomputable def Dp (s:Stmt):Scope:=match s with
 | .FunctionDef _ _ _ _ _ _ sc _ _ _=>sc
 | _=>{ kind:=.function,names:=[],isGenerator:=false,isCoroutine:=false}
noncomputable abbrev NZ:NT:=λ_ _ _ _ _ _=>False
abbrev E0:XK:=λ_ _ _=>False
theorem Qf{X:Cx}:Passes NZ X E0:=λ_ _ _ _ _ _ _ h=>h.elim
structure fH (K:U0) (x qual:Str) (st:Stmt) (f:W9) (fd:FuncData):Prop where
 ex:∃(oc:W2) (od:W5) (kV doc pm:W2) (an:W5) (cdv ct:W2) (osl:W4),
  fd=PySem.W.fnOf x qual (Ft st) (FT st) (Dp st) .none kV doc pm an cdv ct/\K.lookup f=some ⟨oc,od,.func fd,osl⟩/\PySem.W.codeIn K cdv qual=true
 kp:PySem.W.keepIn K (.ref f)=true
section
variable {P:U8}{w:W1}{K:U0}{mg:U4}{base:Heap}
variable{qual:Str}{f:W9}
theorem fH.ok{x:Str}{st:Stmt}{fd:FuncData}{N ps:W0}{k:Nat}{sp:Sp}(F:fH K x qual st f fd)(S:Ce N ps (Dp st))(len:∀vs H Q E,sp vs H Q E->vs.length=ps.length)
  (hbody:∀(a:W2) (A:W6) (outer:List Env) (s:U7) (H:Hp) (vs:List V) (Q:VK) (E:XK),Ci k (A.deeper (envOfC qual (Dp st) s.heap.objs.size f a))->sp vs H Q E ->
   ∃t,Ho (G9 NZ P w K mg base N qual (Dp st) f a A outer s H E).nox (FT st) t/\t { nx:=λ_ H'=>Q .non H',rt:=Q} (start N vs) H):EY P w K mg base NZ (k+1) f fd ps sp:=by
 obtain⟨j,od,kV,g,l,m,a,ct,e,rfl,d,b⟩:=F.ex;refine qw d b S len λA outer s H vs Q E i c=>?_;obtain⟨t,h,q⟩:=hbody a A outer s H vs Q E i c;exact⟨t,h.nox,q⟩
theorem W5s{x:Str}{st:Stmt}{oc:W2}{od an:W5}{osl:W4}{kV doc pm cdv ct:W2}(l:K.lookup f=some ⟨oc,od,.func (PySem.W.fnOf x qual (Ft st) (FT st) (Dp st) .none kV doc pm an cdv ct),osl⟩)
  (c:PySem.W.codeIn K cdv qual=true) (k:PySem.W.keepIn K (.ref f)=true):fH K x qual st f (PySem.W.fnOf x qual (Ft st) (FT st) (Dp st) .none kV doc pm an cdv ct):=⟨⟨oc,od,kV,doc,pm,an,cdv,ct,osl,U,l,c⟩,k⟩
end
theorem dh{A:W6}{k:Nat}(hr:Ci k A):A.units+1<cLine:=Np (Nat.add_le_add_left (by decide:1<=64) _) hr.units
section
variable {X:Cx}
theorem pv(i:Nat){x:Str}{pos:Pos}(hN:X.N[i]?=some x:=by rfl)(hv:Yt X.env.scope x:=by first | exact Or.inl rfl | exact Or.inr (Or.inl rfl) | exact Or.inr (Or.inr rfl))(hd:(x == ("__debug__":Str))=false:=by decide)
  (hcd:(x == ("__classdict__":Str))=false:=by decide):PE X (.Name x pos) (Hs i):=W3z hN hv hd hcd
end
theorem Bj{A B:Prop}(h:B):if false=true then A else B:=by
 rw[if_neg Gk];exact h
theorem C_{A B:Prop}(h:A):if true=true then A else B:=by
 rw[if_pos rfl];exact h
def Same (H H':Hp):Prop:=∀b o,H b=some o->H' b=some o
theorem Same.refl(H:Hp):Same H H:=λ_ _ h=>h
variable{H:Hp}
theorem Same.trans{H1 H2:Hp}(a:Same H H1)(b:Same H1 H2):Same H H2:=λc o h=>b c o (a c o h)
theorem Same.free{H':Hp}(e:Same H H'){l:W9}(h:H' l=Option.none):H l=Option.none:=by
 cases q:H l with
 | none=>rfl
 | some o =>
  rw[e l o q]at h;cases h
theorem Same.seq{K:U0}{H':Hp}{a:W9}{xs:List V}(e:Same H H')(h:Aw K H a xs):Aw K H' a xs:=by
 rcases h with (h | ⟨o,h⟩) | h
 ·exact .inl (.inl (e _ _ h))
 ·exact .inl (.inr ⟨o,e _ _ h⟩)
 ·exact .inr h
end L2
set_option maxHeartbeats 4000000
namespace L2
def Sz (k:Nat)(x:Int):Prop:=x.natAbs<2^k
instance (k:Nat) (x:Int):Decidable (Sz k x):=by unfold Sz;infer_instance
variable{j:Nat}{x:Int}
theorem Sz.mono{k:Nat}(h:Sz j x)(hjk:j<=k):Sz k x:=Ea h (Ir (by decide) hjk)
variable{y:Int}
theorem Sz.le{k:Nat}(h:Sz k x)(hy:y.natAbs<=x.natAbs):Sz k y:=Np hy h
theorem Sz.mul{k:Nat}(h:Sz j x)(h':Sz k y):Sz (j+k) (x*y):=by
 unfold Sz at *;rw[Jd,Od];exact Nat.mul_lt_mul'' h h'
theorem Sz.neg{k:Nat}(h:Sz k x):Sz k (-x):=by unfold Sz at *;rwa [Int.natAbs_neg]
theorem Sz.add{k:Nat}(h:Sz j x)(h':Sz k y):Sz (max j k+1) (x+y):=by
 have h1:=h.mono (Nat.le_max_left j k);have h2:=h'.mono (Nat.le_max_right j k);unfold Sz at *;rw[QL];have:=Int.natAbs_add_le x y;lia
theorem Sz.sub{k:Nat}(h:Sz j x)(h':Sz k y):Sz (max j k+1) (x-y):=by
 have:=h.add h'.neg;rwa [<-Int.sub_eq_add_neg]at this
theorem Sz.bits{k:Nat}(h:Sz k x):Builtin.Int.intBits x<=k:=by
 unfold Builtin.Int.intBits;split
 ·exact Gz _
 ·rename_i hx;have b:x≠0:=by simpa using hx
  have a:x.natAbs≠0:=by lia
  exact(ZG a).mpr h
theorem Sz.log2{k:Nat}(h:Sz k x)(hk:0<k):x.natAbs.log2<k:=by
 by_cases hn:x.natAbs=0
 ·rw[hn];simpa using hk
 ·exact(ZG hn).mpr h
def Kr (_i j:Int):Prop:=j≠0/\Sz 9000 j
section
variable {X:Cx}
theorem Qx:Eh X (binaryOp .FloorDiv) (rI Kr λi j=>.int (i.fdiv j)):=Rm λ_ _ _ _ _ _ _ a q=>floordiv_int a.1 q (.inl (PyProof.noPylong_of_log2 (a.2.log2 (by decide))))
theorem YZ{h:Heap}{a:W9}{vs:U5}{ns:U6}(hl:IsTup h a vs.toArray)(hi:IntsAre vs ns):Reads h (.ref a) (.tuple (ns.map PyData.int)) []:=by
 obtain⟨o,c,b,n,hd⟩:=hl;exact Reads.tuple c b hd (by simpa using PySem.W.readsAll_of_ints hi)
theorem aV(ns:U6):SeqAt.shaped (.tuple (ns.map PyData.int))=true:=by
 have h1:=sU ns;have h2:PyData.depth (.tuple (ns.map PyData.int))<=64:=by simp only[PyData.depth];lia
 show (PyData.canLay0 (.tuple (ns.map PyData.int)) && decide (PyData.depth (.tuple (ns.map PyData.int))<=64))=true;rw[HY];exact⟨by simp only[PyData.canLay0];exact tW ns,Gb h2⟩
def JD (K:U0)(neg:Bool):R2:=λx y H Q=>∃(a b:W9) (ns ms:U6),x=.ref a/\y=.ref b/\Ag K H a (ns.map V.int)/\Ag K H b (ms.map V.int)/\Q (.bl (if neg then !decide (ns=ms) else decide (ns=ms))) H
theorem o9(hu:X.A.units+64<cLine):Eh X (compareOp .Eq) (JD X.K false):=by
 intro pins s σ H x y v u Q I g d h;obtain⟨a,b,ns,ms,rfl,rfl,h1,h2,q⟩:=h;cases g;cases d;obtain⟨its,f,p,_⟩:=I.tuple h1;obtain⟨its',c,e,_⟩:=I.tuple h2;refine eq_dataH_same (YZ p (Uu f)) (YZ e (Uu c)) (aV ns) (aV ms) hu (by simp only[SeqAt.noMix];exact jD ns ms) ?_;refine⟨.bl (decide (ns=ms)),H,I,?_,q⟩;show _=_;simp only[PySem.Spec.same];rw[iz]
theorem W0g(hu:X.A.units+64<cLine):Eh X (compareOp .NotEq) (JD X.K true):=by
 intro pins s σ H x y v u Q I g d h;obtain⟨a,b,ns,ms,rfl,rfl,h1,h2,q⟩:=h;cases g;cases d;obtain⟨its,f,p,_⟩:=I.tuple h1;obtain⟨its',c,e,_⟩:=I.tuple h2;refine iI (YZ p (Uu f)) (YZ e (Uu c)) (aV ns) (aV ms) hu (by simp only[SeqAt.noMix];exact jD ns ms) ?_;refine⟨.bl (!decide (ns=ms)),H,I,?_,q⟩;show _=_;simp only[PySem.Spec.same];rw[iz]
theorem NK:Cr X (.builtin "isinstance") (λxs H Q=>∃x T t b,xs=[x,.ty T]/\DK X.K H x t/\PySem.W.kitOne X.K t (.type T)=some b/\Q (.bl b) H):=by
 intro pins s σ H xs us Q I r h;obtain⟨x,T,t,b,rfl,ty,e,q⟩:=h;obtain⟨u,v,rfl,a,c⟩:=r.two;cases c;exact X1t I a ty e λtk=>⟨.bl b,H,I.tok tk,U,q⟩
end
section
variable {prog:U8}{w:W1}{A:W6}{E:U2}
variable{l:W9}
theorem drawn{it:W9}{all:U9}(ne:l≠it)(left:U5):∀(done:U5) (s:U7) (Q:List Value->Shared->Prop),all.toList=done++left->s.heap.IsListIter it l done.length->s.heap.IsList l all ->
  (∀h',h'.IsListIter it l all.size->h'.IsList l all->Heap.SameBut it s.heap h'->Q left {s with heap:=h'})->wpAny (model prog w) A (draw (.ref it) left.length) Q E s:=by
 induction left with
 | nil =>
  intro done s Q e i d k;have z:all.size=done.length:=by rw[<-Ol,e];simp
  exact CV (k s.heap (z ▸ i) d (.refl ..))
 | cons x r ih =>
  intro done s Q e i d k;have a:all[done.length]?=some x:=by rw[<-jN,e];simp
  refine BX (tK i d a λh1 f b=>BX (Kw (ih (done++[x]) _ _ (by rw[e];simp) (by simpa using f) (d.extBut b.extBut ne) λh2 c d2 g=>?_)));exact CV (k h2 c d2 (b.trans g))
theorem Z6o{s:U7}{all:U9}{Q:List Value->Shared->Prop}(hh:A.handled=none)(d:s.heap.IsList l all)
  (k:∀h',Heap.ExtBut s.heap.objs.size s.heap h'->Q all.toList {s with heap:=h'}):wpAny (model prog w) A (unpackItems (.ref l) all.size none) Q E s:=by
 have c:l≠s.heap.objs.size:=let ⟨_,q,_⟩:=d;Df (CQ q);have a:all.size=all.toList.length:=Ol.symm;refine BX (BX (wpAny_specialOf d.typeIs slot_list_iter.lookup (CV (BX (Kw (Wf d (BX (Kw ?_))))))));rw[a];refine drawn c all.toList [] _ _ rfl ⟨_,GC _ rfl,U,U⟩ (d.push _) λh1 f d1 e=>?_;rw[if_neg (QM _)];exact BX (Kw (sX hh f d1 (by simp) λh2 g=>CV (k h2 λb o n q=>g b o n (e.extBut b o n (Ec _ q)))))
theorem Z7a{s:U7}{env:Env}{elts:List Expr}{x1}{pos:Pos}{all:U9}{Q:Unit->Shared->Prop}(hh:A.handled=none)(d:s.heap.IsList l all)
  (hn:(assignEach elts env).length=all.size) (hst:(assignEach elts env).findIdx? (·.1)=none)
  (k:∀h',Heap.ExtBut s.heap.objs.size s.heap h'->wpAny (model prog w) A (assignInOrder ((assignEach elts env).map (·.2)) all.toList) Q E {s with heap:=h'}):
  wpAny (model prog w) A (assign (.Tuple elts x1 pos) env (.ref l)) Q E s:=by
 rw[assign_Tuple];refine BX (Ti ?_);unfold unpack;rw[hn,hst];exact BX (Kw (Z6o hh d k))
end
section
variable {X:Cx}{pos:Pos}
def mW (K:U0)(n:Nat)(t:Ph):TG:=λv σ H Q=>∃a xs,v=.ref a/\Aw K H a xs/\xs.length=n/\t xs σ H Q
theorem W3y{es:List Expr}{k:Nat}{t:Ph}{n:Nat}(hc:X.calm=true)(h:Yv X es t)
  (hn:(assignEach es X.env).length=n:=by rfl) (hst:(assignEach es X.env).findIdx? (·.1)=none:=by rfl):PG X (.Tuple es k pos) (mW X.K n t):=by
 intro pins s σ H v u Q I r c;obtain⟨a,xs,e1,l,f,c⟩:=c;subst e1;cases r;obtain⟨its,d,j,m⟩:=I.list l;refine Z7a (I.ok.hd hc) j.isList (by simp[hn,<-f,d.length]) hst λh' i=>?_;have g:Inv X pins σ H {s with heap:=h'}:=I.kept (t':=s.toks) λb o e=>i b o (Df (CQ e)) e;exact h pins _ σ H xs _ Q g (by simpa using d) c
end
section
variable {X:Cx}{tg:Expr}
end
end L2
namespace L2
theorem uT{α β:Type}{f:α->β->Sem (ForInStep β)}{g:β->α->β}:∀(l:List α) (b:β),(∀x∈l,∀b,f x b=pure (.yield (g b x)))->forIn l b f=pure (l.foldl g b)
 | [],b,_=>rfl
 | x::r,b,h=>by
  rw[List.forIn_cons,h x Je b,pure_bind];exact uT r (g b x) λy a=>h y (Ju _ a)
noncomputable def J0 (cells:List (Str×Addr))(cs:List (Str×Addr))(x:Str×NameKind):List (Str×Addr):=if x.2 == .free then (x.1,(cells.lookup x.1).getD 0)::cs else cs
noncomputable def clo (names:List (Str×NameKind))(cells:List (Str×Addr)):List (Str×Addr):=names.foldl (J0 cells) []
variable{env:Env}
theorem aQ{scope:Scope}(h:∀x∈scope.names,x.2=.free->∃c,env.cells.lookup x.1=some c):closureFor scope env=pure (clo scope.names env.cells):=by
 simp only[closureFor];unfold clo
 rw[uT (g:=J0 env.cells) scope.names [] (λx e b=>by
  obtain⟨n,k⟩:=x
  unfold J0
  by_cases hk:k=.free
  ·subst hk
   obtain⟨c,d⟩:=h (n,.free) e rfl
   have a:env.cells.lookup n=some c:=d
   simp[cellOf,a]
  ·have hb:(k == NameKind.free)=false:=by simpa using hk
   simp[hb])]
 rfl
variable{x:Str}{c:W9}
theorem vA{n:Str}{l:List (Str×Addr)}:List.lookup x ((n,c)::l)=if x=n then some c else List.lookup x l:=by
 by_cases h:x=n
 ·subst h;rw[if_pos rfl,List.lookup_cons_self]
 ·rw[if_neg h,Wb];have:(x == n)=false:=by simpa using h
  rw[this]
theorem X2u{cells:List (Str×Addr)}:∀(names:List (Str×NameKind)) (cs:List (Str×Addr)),(∀x∈names,x.2=.free->∃c,cells.lookup x.1=some c)->(∀x c,cs.lookup x=some c->cells.lookup x=some c) ->
  ∀x c,(names.foldl (J0 cells) cs).lookup x=some c->cells.lookup x=some c
 | [],cs,_,h0=>h0
 | (n,k)::r,cs,h,h0=>by
  refine X2u r _ (λy b=>h y (Ju _ b)) λx c e=>?_;unfold J0 at e;by_cases hk:k=.free
  ·subst hk;obtain⟨c',a⟩:=h (n,.free) Je rfl;simp only[beq_self_eq_true,Ja]at e;rw[vA]at e;have a:cells.lookup n=some c':=a;by_cases hx:x=n
   ·subst hx;rw[if_pos rfl,a]at e;rw[a];exact e
   ·rw[if_neg hx]at e;exact h0 x c e
  ·have hb:(k == NameKind.free)=false:=by simpa using hk
   simp only[hb,Rh,Jb]at e;exact h0 x c e
theorem pY{cells:List (Str×Addr)}:∀(names:List (Str×NameKind)) (cs:List (Str×Addr)) (x:Str),((x,NameKind.free)∈names\/∃c,cs.lookup x=some c)->∃c,(names.foldl (J0 cells) cs).lookup x=some c
 | [],cs,x,h=>by
  rcases h with h | h
  ·cases h
  ·exact h
 | (n,k)::r,cs,x,h=>by
  refine pY r _ x ?_;unfold J0;by_cases hk:k=.free
  ·subst hk;simp only[beq_self_eq_true,Ja];rw[vA];by_cases hx:x=n
   ·exact .inr ⟨_,if_pos hx⟩
   ·rw[if_neg hx];rcases h with h | h
    ·rcases Dj.mp h with h | h
     ·exact absurd (congrArg Prod.fst h) hx
     ·exact .inl h
    ·exact .inr h
  ·have hb:(k == NameKind.free)=false:=by simpa using hk
   simp only[hb,Rh,Jb];rcases h with h | h
   ·rcases Dj.mp h with h | h
    ·exact absurd (congrArg Prod.snd h).symm hk
    ·exact .inl h
   ·exact .inr h
structure Bp (N:W0) (osc sc:Scope) (Nc:W0) (mp:W7):Prop where
 kind:sc.kind=.function
 nocell:∀y∈sc.names,y.2≠.cell
 names:∀y∈sc.names,y.2=.local->sc.names.lookup y.1=some .local
 free:∀y∈sc.names,y.2=.free->osc.names.lookup y.1=some .cell\/osc.names.lookup y.1=some .free
 len:mp.length=Nc.length
 map:∀(i j:Nat),mp[i]?=some (some j)->∃x,Nc[i]?=some x/\N[j]?=some x/\sc.names.lookup x=some .free
noncomputable def Qh (N:W0)(osc sc:Scope)(Nc:W0)(mp:W7):Bool :=
 decide (sc.kind=.function) && sc.names.all (λy=>!decide (y.2=.cell) && (!decide (y.2=.local) || decide (sc.names.lookup y.1=some .local)) &&
  (!decide (y.2=.free) || decide (osc.names.lookup y.1=some .cell) || decide (osc.names.lookup y.1=some .free))) &&
 decide (mp.length=Nc.length) && (List.range mp.length).all λi=>match mp[i]? with
  | some (some j)=>match Nc[i]? with
   | some x=>decide (N[j]?=some x) && decide (sc.names.lookup x=some .free)
   | none=>false
  | _=>true
variable{sc:Scope}{mp:W7}
theorem Bp.of{N:W0}{osc:Scope}{Nc:W0}(h:Qh N osc sc Nc mp=true):Bp N osc sc Nc mp:=by
 unfold Qh at h;simp only[HY,Le,Nj,WX,Bool.not_eq_true',tX]at h;obtain⟨⟨⟨h1,h2⟩,c⟩,b⟩:=h;refine⟨h1,λy a=>(h2 y a).1.1,λy a e=>?_,λy a e=>?_,c,λi j e=>?_⟩
 ·rcases (h2 y a).1.2 with q | q
  ·exact absurd e q
  ·exact q
 ·rcases (h2 y a).2 with (q | q) | q
  ·exact absurd e q
  ·exact .inl q
  ·exact .inr q
 ·have hi:i<mp.length:=(Et.mp e).1;have q:=b i (Ek.mpr hi);rw[e]at q;cases hx:Nc[i]? with
  | none=>rw[hx]at q;simp at q
  | some x =>
   rw[hx]at q;simp only[HY,Le]at q;exact⟨x,U,q.1,q.2⟩
theorem vB{f:Str×NameKind->Str×NameKind}(h1:∀p,(f p).1=p.1)(h2:∀p,p.2=.free->(f p).2=.cell\/(f p).2=.free):∀{names:List (Str×NameKind)}{x:Str},names.lookup x=some .free->(names.map f).lookup x=some .cell\/(names.map f).lookup x=some .free
 | [],_,h=>by simp at h
 | (n,k)::r,x,h=>by
  have j:=@vB f h1 h2 r x;rw[Ez];have d:=h1 (n,k);have g:=h2 (n,k);generalize f (n,k)=z at d g;obtain⟨i,c⟩:=z;have b:i=n:=d;subst b;cases hx:x == i with
  | true =>
   rw[Wb,hx]at h;have l:k=.free:=by simpa using h
   rw[Wb,hx];rcases g l with e | e
   ·have a:c=.cell:=e;subst a;exact .inl rfl
   ·have a:c=.free:=e;subst a;exact .inr rfl
  | false =>
   rw[Wb,hx]at h;rw[Wb,hx];exact j h
variable{names:List (Str×NameKind)}
theorem Z5s(h:names.lookup x=some .free):
  (names.map λ(n,k)=>if (k == NameKind.free && env.scope.kind == .function && env.kindOf n == some .cell) then (n,NameKind.cell) else (n,k)).lookup x=some .cell \/
  (names.map λ(n,k)=>if (k == NameKind.free && env.scope.kind == .function && env.kindOf n == some .cell) then (n,NameKind.cell) else (n,k)).lookup x=some .free:=by
 refine vB (λp=>?_) (λp hp=>?_) h
 ·obtain⟨n,k⟩:=p;dsimp only;split<;>rfl
 ·obtain⟨n,k⟩:=p;dsimp only;split
  ·exact .inl rfl
  ·exact .inr hp
theorem uh{k':NameKind}(hc:∀y∈names,y.2≠.cell)(hk:k'=.cell\/k'=.free)
  (h:(names.map λ(n,k)=>if (k == NameKind.free && env.scope.kind == .function && env.kindOf n == some .cell) then (n,NameKind.cell) else (n,k)).lookup x=some k'):(x,NameKind.free)∈names:=by
 have m:=Ri h;obtain⟨⟨n,k⟩,a,e⟩:=Ej.mp m;dsimp only at e;by_cases hf:k=.free
 ·subst hf;have e1:n=x:=by
   by_cases hc':(NameKind.free == NameKind.free && env.scope.kind == .function && env.kindOf n == some .cell)=true
   ·rw[if_pos hc']at e;exact congrArg Prod.fst e
   ·rw[if_neg hc']at e;exact congrArg Prod.fst e
  exact e1 ▸ a
 ·have hb:(k == NameKind.free)=false:=by simpa using hf
  simp only[hb,Bool.false_and,Rh,Jb]at e;cases e;rcases hk with z | z
  ·exact absurd z (hc _ a)
  ·exact absurd z hf
noncomputable def Bq (X:Cx)(scope:Scope)(Nc:W0)(ex:U3)(pins:U1)(s:U7)(H:Hp):Cx where
 prog:=X.prog
 w:=X.w
 K:=X.K
 mg:=X.mg
 base:=X.base
 A:=X.A
 N:=Nc
 s₀:=s
 H₀:=H
 env:=compEnvC scope (clo scope.names X.env.cells) s.heap.objs.size X.env
 outer:=X.stack
 stack:=X.stack
 ex:=ex
 fn:=λ_=>false
 calm:=X.calm
 pn:=X.pn++pins
 xe:=λ_ _=>False
noncomputable def sub (mp:W7)(σ:St):St:=mp.map λo=>match o with | some j=>(σ[j]?).join | none=>none
theorem X9j{σ:St}{i:Nat}{v:V}(h:(sub mp σ)[i]?=some (some v)):∃j,mp[i]?=some (some j)/\σ[j]?=some (some v):=by
 unfold sub at h;rw[Cj]at h;cases e:mp[i]? with
 | none=>rw[e]at h;cases h
 | some o =>
  rw[e]at h;cases o with
  | none=>cases h
  | some j =>
   refine⟨j,U,?_⟩;have h':(σ[j]?).join=some v:=Option.some.inj h;cases q:σ[j]? with
   | none=>rw[q]at h';cases h'
   | some z=>rw[q]at h';exact congrArg some h'
section
variable {X:Cx}{pins:U1}{σ:St}{H:Hp}{s:U7}{scope:Scope}{Nc:W0}{mp:W7}{fp:U3}
theorem YJ(I:Inv X pins σ H s)(S:Bp X.N X.env.scope scope Nc mp):∀x∈scope.names,x.2=.free->∃c,X.env.cells.lookup x.1=some c:=λx a e =>
 I.ok.has x.1 (S.free x a e)
theorem Qo(I:Inv X pins σ H s)(S:Bp X.N X.env.scope scope Nc mp)(h:(clo scope.names X.env.cells).lookup x=some c):X.env.cells.lookup x=some c :=
 X2u scope.names [] (YJ I S) (λ_ _ e=>by cases e) x c h
theorem W7k(I:Inv X pins σ H s)(S:Bp X.N X.env.scope scope Nc mp)(hf:∀b∈fp,Dq X pins H b)(hl:∀b∈fp,b<s.heap.objs.size):(Bq X scope Nc fp pins s H).Ok where
 mod:=I.ok.mod
 kind:=S.kind
 glob:=I.ok.glob
 blt:=I.ok.blt
 above:=CG _
 inj:=λx y c e1 e2=>I.ok.inj x y c (Qo I S e1) (Qo I S e2)
 has:=λx h=>by
  have a:(x,NameKind.free)∈scope.names:=by
   rcases h with h | h
   ·exact uh S.nocell (.inl rfl) h
   ·exact uh S.nocell (.inr rfl) h
  exact pY scope.names [] x (.inl a)
 cab:=λx c h _=>by cases h
 hd:=I.ok.hd
 frames:=I.ok.frames
 stk:=.inl rfl
 exf:=λb hb=>⟨Df (hl b hb),λx c e=>(hf b hb).2.2.2.2.1 x c (Qo I S e)⟩
 bs:=I.bs
 bsz:=G7 I.ok.bsz I.sz
 noex:=λb o e hb=>by
  rcases (hf b hb).2.2.2.1 with z | z
  ·exact I.ok.noex b o e z
  ·exact absurd (Ea (CQ e) (G7 I.ok.bsz z)) (QM _)
 exfs:=λb hb z=>by
  rcases Dj.mp (I.stkSub b z) with e | e
  ·exact(hf b hb).2.1 e
  ·exact(hf b hb).2.2.1 e
 funs:=I.stack
 frf:=I.stkFree
theorem wM(I:Inv X pins σ H s)(S:Bp X.N X.env.scope scope Nc mp)(hf:∀b∈fp,Dq X pins H b)(hl:∀b∈fp,b<s.heap.objs.size){h₁:Heap}{m:U4}{tk:Nat}
  (hn:h₁.Ns s.heap.objs.size m) (k:∀b o,s.heap.get? b=some o->h₁.get? b=some o):Inv (Bq X scope Nc fp pins s H) [] (sub mp σ) H {s with heap:=h₁,toks:=tk}:=by
 refine⟨W7k I S hf hl,U,I.bare,Un.kept k,⟨m,hn,λi x v e1 e2 _=>?_⟩,λx c e=>?_,I.hok.fresh (CG _),λx c e=>I.freeC x c (Qo I S e),λp hp=>?_,I.hok.kept k,?_⟩
 ·obtain⟨j,G,L⟩:=X9j e2;obtain⟨y,B,F,C⟩:=S.map i j G;have t:Nc[i]?=some x:=e1;rw[t]at B;cases B;have f:=Ri C;have w:Yt X.env.scope x:=.inr (S.free _ f rfl);obtain⟨M,_,a⟩:=I.loc;obtain⟨u,E,D⟩:=a j x v F L w;refine⟨u,E,.inr ⟨Z5s C,?_⟩⟩;obtain⟨c,A⟩:=pY (cells:=X.env.cells) scope.names [] x (.inl f);have r:=Qo I S A;rcases D with ⟨z,_⟩ | ⟨_,c',z,q⟩
  ·rcases S.free _ f rfl with z' | z'<;>(have h:X.env.scope.names.lookup x=some .local:=z;rw[h]at z';cases z')
  ·rw[r]at z;cases z;obtain⟨o,l,hd⟩:=q;exact⟨c,A,o,k c o l,hd⟩
 ·obtain⟨v,o,l,hd⟩:=I.cell x c (Qo I S e);exact⟨v,o,k c o l,hd⟩
 ·have g:p∈X.pn++pins:=by
   have:p∈(X.pn++pins)++[]:=hp;simpa using this
  obtain⟨e,n,J,K,d⟩:=I.pin p g;refine⟨k _ _ e,n,Df (CQ e),λz=>?_,d⟩;rcases Dj.mp (I.stkSub p.1 z) with q | q
  ·exact J q
  ·exact K q
 ·show (sub mp σ).length=Nc.length;unfold sub;rw[Bg];exact S.len
theorem zM(I:Inv X pins σ H s)(hf:∀b∈fp,Dq X pins H b){σ':St}{H':Hp}{s':U7}{pl:U1}(J:Inv (Bq X scope Nc fp pins s H) pl σ' H' s'):Inv X pins σ H' s' :=
 I.call' J.os J.base J.hok J.bare λb hb=>⟨(hf b hb).2.2.2.1,(hf b hb).2.1,(hf b hb).2.2.2.2.1,(hf b hb).2.2.2.2.2⟩
theorem Inv.turnedNew(I:Inv X pins σ H s){C:W9}{h':Heap}{t':Nat}(k:∀b o,b≠C->s.heap.get? b=some o->h'.get? b=some o)(hn:H C=none)(h1:X.s₀.heap.objs.size<=C)
  (hL:C≠X.env.locals) (hc:∀x c,X.env.cells.lookup x=some c->c≠C) (hp:∀p∈X.pn++pins,p.1≠C):Inv X pins σ H {s with heap:=h',toks:=t'} :=
 I.turned k hn hL (.inr h1) hc hp
end
section
variable {M:Model}{A:W6}{E:U2}
abbrev Calm:Value->Shared->Prop:=λ_ _=>False
theorem Eb{α β:Type}{m:Sem α}{f:α->Sem β}{P:α->Shared->Prop}{Q:β->Shared->Prop}{s:U7}(h:wpAny M A m P Calm s)(k:∀x s',P x s'->wpAny M A (f x) Q E s'):wpAny M A (m >>= f) Q E s :=
 BX (Fi h k λ_ _ z=>z.elim)
end
theorem Y0y{prog:U8}{w:W1}{A:W6}{R:Result->Shared->Prop}{s:U7}{e t i:Expr}{pos:Pos}{it acc:W2}(J:Nat->Shared->Prop)
  (turn:∀n s,J n s->wpAny (model prog w) A (pyNext it) (λr a=>(r=none->R (.ok .next) a)/\∀v,r=some v ->
   wpAny (model prog w) A (letOwnedTupleGo t it v) (λ_ f=>wpAny (model prog w) A (assign t env v) (λ_ d=>wpAny (model prog w) A (eval e env) (λx b =>
    wpAny (model prog w) A (call (.builtin "list.append") [acc,x]) (λ_ c=>∃m,m<n/\J m c) Calm b) Calm d) Calm f) Calm a) Calm s)
  (n:Nat) (h:J n s):codeAny (model prog w) A (.compLoop (.ListComp e [⟨t,i,[],0⟩] sc pos) 0 it acc env) R s:=by
 have k:=compTurn_list1 e t i sc pos it acc env;refine codeAny_loop rfl J (λn s j=>wpAny_noted (m:=compTurn (.ListComp e [⟨t,i,[],0⟩] sc pos) 0 it acc env) ?_) n h;rw[k];refine BX (Ti (Eb (turn n s j) λr a q=>?_));match r,q with
 | none,q=>exact CV (q.1 rfl)
 | some v,q=>exact Eb (q.2 v rfl) λ_ f o=>Eb o λ_ d l=>BX (Eb l λx b g=>Eb g λ_ c p=>CV (CV ⟨rfl,p⟩))
def Jl (J:It)(g:TG)(te:TE)(σ:St)(H:Hp)(acc:W9)(Q:VK):Prop:=∃W:Nat->Nat->List V->St->Hp->Prop,(∃m,W 0 m [] σ (upd H acc (.lst []))) /\
 ∀i m ys σ2 H2,W i m ys σ2 H2->(J.stop i H2/\Q (.ref acc) H2)\/(J.go i H2/\∀x H3,J.yld i H2 x H3->g x σ2 H3 λσ4 H4=>te σ4 H4 λy H5 =>
  H5 acc=some (.lst ys)/\ys.length<sizeLine/\∃m',m'<m/\W (i+1) m' (ys++[y]) σ4 (upd H5 acc (.lst (ys++[y]))))
def sI (mp:W7)(wi:TI)(g:TG)(te:TE):TE:=λσ H Q=>wi σ H λJ H1=>∀acc,H1 acc=none->Jl J g te (sub mp σ) H1 acc Q
section
variable {X:Cx}{elt tg iter:Expr}{scope:Scope}{pos:Pos}{wi:TI}{g:TG}{te:TE}{Nc:W0}{mp:W7}
noncomputable abbrev D_ (s:U7):Shared:={s with heap:=s.heap.push { cls:=.type "list",dict:=none,data:=.seq ([]:U5).toArray}}
theorem zN(hc:X.calm=true)(S:Bp X.N X.env.scope scope Nc mp)(hg:∀ex pins s H,PG (Bq X scope Nc ex pins s H) tg g)(he:∀ex pins s H,PE (Bq X scope Nc ex pins s H) elt te)
  {pins:U1}{σ:St}{H2:Hp}{s2:U7}{E:U2}{it:W9}{fp:U3}{tn:Nat->Heap->Prop}{J:It}{Q:VK}{RR:Value->Addr->Result->Shared->Prop}
  (I2:Inv X pins σ H2 s2) (T:Turn X.prog X.w X.K tg J fp it tn) (st2:tn 0 s2.heap) (f2:∀b∈fp,Dq X pins H2 b)
  (q:∀acc,H2 acc=none->Jl J g te (sub mp σ) H2 acc Q)
  (fin:∀acc C H' s' m',Q (.ref acc) H'->Inv X pins σ H' s'->s'.heap.Ns C m'->H' C=none->X.s₀.heap.objs.size<=C->C≠X.env.locals->(∀x c,X.env.cells.lookup x=some c->c≠C)->(∀p∈X.pn++pins,p.1≠C)->RR (.ref acc) C (.ok .next) s'):
  wpAny (model X.prog X.w) X.A (newList []) (λacc s₃=>wpAny (model X.prog X.w) X.A (newFunctionEnv scope X.env.globals (clo scope.names X.env.cells) [] X.env.qual none .none (some X.env)) (λm s₄ =>
   codeAny (model X.prog X.w) X.A (.compStart (.ListComp elt [⟨tg,iter,[],0⟩] scope pos) 0 (.ref it) acc {m with scope:=relabel scope X.env}) (RR acc m.locals) s₄) E s₃) E s2:=by
 refine QV (wpAny_newFunctionEnv S.nocell (by intro y hy;simp at hy) (λh₁ t k=>?_) S.kind);dsimp only at t k ⊢;have I3:=I2.lnew (its:=[]) (ys:=[]) (t':=s2.toks) .nil (Gz _);have M:H2 s2.heap.objs.size=none:=I2.fresh;obtain⟨W,⟨m0,w0⟩,L⟩:=q s2.heap.objs.size M;have G:(s2.heap.push { cls:=.type "list",dict:=none,data:=.seq ([]:U5).toArray}).objs.size=s2.heap.objs.size+1:=Mp ..;have O:∀b∈fp,b<s2.heap.objs.size:=λb hb=>by
  obtain⟨o,e,_⟩:=T.obj _ _ st2 b hb;exact CQ e
 have B:∀b∈fp,Dq X pins (upd H2 s2.heap.objs.size (.lst [])) b:=λb hb=>⟨by rw[Cg (Df (O b hb))];exact(f2 b hb).1,(f2 b hb).2⟩;have a:Inv X pins σ (upd H2 s2.heap.objs.size (.lst [])) (D_ s2):=I3;have hsz:(D_ s2).heap.objs.size=s2.heap.objs.size+1:=G;have l:∀b∈fp,b<(D_ s2).heap.objs.size:=λb hb=>by rw[hsz];exact Tv (O b hb)
 have k3:∀b o,(D_ s2).heap.get? b=some o->h₁.get? b=some o:=λb o e=>k.extBut b o (Df (CQ e)) (Ec _ e);have Ic:=wM (tk:=(D_ s2).toks) a S B l t k3;have I:tn 0 h₁:=T.keep _ _ _ st2 λb hb o e=>k3 b o (Ec _ e);have cC:X.s₀.heap.objs.size<=(D_ s2).heap.objs.size:=a.sz;have cL:(D_ s2).heap.objs.size≠X.env.locals:=LR a.lt;have cc:∀x c,X.env.cells.lookup x=some c->c≠(D_ s2).heap.objs.size:=λx c e=>by
  obtain⟨v,o,ho,_⟩:=a.cell x c e;exact Df (CQ ho)
 have cp:∀p∈X.pn++pins,p.1≠(D_ s2).heap.objs.size:=λp hp=>Df (CQ (a.pin p hp).1);have h:∀{H':Hp},(∀b∈fp,H' b=none)->∀b∈fp,Dq (Bq X scope Nc fp pins (D_ s2) (upd H2 s2.heap.objs.size (.lst []))) [] H' b:=λhn b hb =>
  ⟨hn b hb,Df (l b hb),λz=>by
   rcases Dj.mp (a.stkSub b z) with e | e
   ·exact(B b hb).2.1 e
   ·exact(B b hb).2.2.1 e,.inl hb,λx c e=>(B b hb).2.2.2.2.1 x c (Qo a S e),λp hp=>(B b hb).2.2.2.2.2 p (by
    have:p∈(X.pn++pins)++[]:=hp
    simpa using this)⟩
 have j:∀s4:Shared,s4={ (D_ s2) with heap:=h₁,toks:=(D_ s2).toks} ->
   codeAny (model X.prog X.w) X.A (.compLoop (.ListComp elt [⟨tg,iter,[],0⟩] scope pos) 0 (.ref it) (.ref s2.heap.objs.size) (Bq X scope Nc fp pins (D_ s2) (upd H2 s2.heap.objs.size (.lst []))).env)
    (RR (.ref s2.heap.objs.size) (D_ s2).heap.objs.size) s4:=by
  rintro s4 rfl;refine Y0y (λn s'=>∃i ys σ' H',Inv (Bq X scope Nc fp pins (D_ s2) (upd H2 s2.heap.objs.size (.lst []))) [] σ' H' s'/\tn i s'.heap/\(∀b∈fp,H' b=none)/\W i n ys σ' H') ?_ m0
   ⟨0,[],sub mp σ,_,Ic,I,λb hb=>(B b hb).1,w0⟩
  rintro n s5 ⟨i,ys,V,Y,I5,R,P,w5⟩;rcases L i n ys V Y w5 with ⟨stop,qn⟩ | ⟨go,step⟩
  ·refine Fi (T.done (Bq X scope Nc fp pins (D_ s2) (upd H2 s2.heap.objs.size (.lst []))) rfl rfl rfl hc i [] s5 V Y (λ_ _=>False) I5 (h P) R stop) (λr s6 ⟨hr,I6⟩=>?_) λ_ _ f=>f.elim;subst hr;obtain⟨m6,a2,_⟩:=I6.loc;refine⟨λ_=>?_,λ_ z=>nomatch z⟩;exact fin _ _ Y s6 m6 qn (zM a B I6) a2 I6.free cC cL cc cp
  ·refine Fi (T.item (Bq X scope Nc fp pins (D_ s2) (upd H2 s2.heap.objs.size (.lst []))) rfl rfl rfl hc i [] s5 V Y (λ_ _=>False) I5 (h P) R go) (λr s6 ⟨u,hr,h6⟩=>?_) λ_ _ f=>f.elim;subst hr;refine⟨(λz=>by cases z),?_⟩;rintro _ ⟨⟩;refine Fi h6 (λ_ s7 ⟨x,H7,I7,r7,y7,D,a0⟩=>?_) λ_ _ f=>f.elim;have a1:=I7.pinned (h a0) (T.obj _ _ D);refine Fi (hg _ _ _ _ _ s7 V H7 x u _ a1 r7 (step x H7 y7)) (λ_ s8 ⟨σ8,H8,I8,q8⟩=>?_) λ_ _ f=>f.elim;refine Fi (he _ _ _ _ _ s8 σ8 H8 _ I8 q8) (λv s9 ⟨y,H9,I9,r9,a9,l9,m',Z,w9⟩=>?_) λ_ _ f=>f.elim;refine Fi (nU (X:=Bq X scope Nc fp pins (D_ s2) (upd H2 s2.heap.objs.size (.lst []))) _ s9 σ8 H9 (.ref s2.heap.objs.size) [y] (.ref s2.heap.objs.size) [v] (λz Hz=>z=.non/\Hz=upd H9 s2.heap.objs.size (.lst (ys++[y]))) I9 rfl (.cons r9 .nil) ⟨_,ys,y,U,U,a9,l9,U,U⟩) (λa4 a3 ⟨z,a5,F,_,_,e10⟩=>?_) λ_ _ f=>f.elim;subst e10;refine⟨m',Z,i+1,ys++[y],σ8,_,F.unpinned,T.keep _ _ _ D λb hb o e=>(F.pin (b,o) (Gn _ (Gn _ (Uv hb e)))).1,λb hb=>?_,w9⟩;obtain⟨o,e,d⟩:=T.obj _ _ D b hb;exact(F.pin (b,o) (Gn _ (Gn _ (Uv hb e)))).2.1
 exact tE (j _ rfl) (T.self _ 0 _ _ _ I (j _ rfl))
theorem Iw(hc:X.calm=true)(S:Bp X.N X.env.scope scope Nc mp)(hi:PI X tg iter wi)(hg:∀ex pins s H,PG (Bq X scope Nc ex pins s H) tg g)(he:∀ex pins s H,PE (Bq X scope Nc ex pins s H) elt te)
  (hf:∀x,foldedSetIterable iter X.env x=pure x:=by intro _;rfl):PE X (.ListComp elt [⟨tg,iter,[],0⟩] scope pos) (sI mp wi g te):=by
 intro pins s σ H Q I h;rw[eval_ListComp];refine Zm (use:=none) rfl hf (aQ (YJ I S)) S.kind S.names (Bu (hi pins s σ H _ I h) λv n h1=>Bu h1 λd p h2=>?_);obtain⟨it,fp,tn,J,H2,e,k,T,a,i,q⟩:=h2;subst e;refine zN (RR:=λacc C=>compPost (model X.prog X.w) X.A X.xe none (EP X pins σ Q) acc C) hc S hg he k T a i q ?_;intro acc C H' s' m' qq m l c c1 c2 c3 j;refine⟨m',l,λh' f=>⟨.ref acc,H',?_,U,qq⟩⟩;exact m.turnedNew (t':=s'.toks) (λb o hb e=>f.extBut b o hb e) c c1 c2 c3 j
theorem R9{i:Nat}{pos' spos:Pos}(hc:X.calm=true)(hN:X.N.Nodup)(hi':X.N[i]?=some x)(hx:X.env.scope.names.lookup x=some .local)(S:Bp X.N X.env.scope scope Nc mp)(hi:PI X tg iter wi)
  (hg:∀ex pins s H,PG (Bq X scope Nc ex pins s H) tg g) (he:∀ex pins s H,PE (Bq X scope Nc ex pins s H) elt te)
  (hsw:swapsWith (.ListComp elt [⟨tg,iter,[],0⟩] scope pos) (some (.Name x pos')) spos.line X.env=pure true)
  (hf:∀x,foldedSetIterable iter X.env x=pure x:=by intro _;rfl):PS X (.Assign [.Name x pos'] (.ListComp elt [⟨tg,iter,[],0⟩] scope pos) spos) (Oa (sI mp wi g te) (CZ i)):=by
 intro pins s σ H D I h;rw[sV _ _ _ _ hsw];refine BX (Ti (BX ?_));show wpAny _ X.A (do let _ ← comprehension (.ListComp elt [⟨tg,iter,[],0⟩] scope pos) scope X.env _ (newList []) false (eval iter X.env) (some (assign (.Name x pos') X.env))) _ _ s
 refine BX (Fi (Zm (use:=some (assign (.Name x pos') X.env)) (Q:=λ_ s'=>SP X pins D .next s') rfl hf (aQ (YJ I S)) S.kind S.names
  (Bu (hi pins s σ H _ I h) λv F h1=>Bu h1 λl G h2=>?_)) (λ_ s' t=>CV (CV t)) λ_ _ e=>e)
 obtain⟨it,fp,tn,J,H2,e,u,T,d,n,q⟩:=h2;subst e;refine zN (Q:=λx H1=>CZ i x σ H1 D.nx) (RR:=λacc C=>compPost (model X.prog X.w) X.A X.xe (some (assign (.Name x pos') X.env)) (λ_ s'=>SP X pins D .next s') acc C) hc S hg he u T d n q ?_;intro acc C H' s' m' qq E B j c1 c2 c3 r;show wpAny _ X.A (assign (.Name x pos') X.env (.ref acc)) _ _ _;refine i_ (nu (v:=.ref acc) E hN hi' (.inl hx) rfl (λy p ⟨a,c,k⟩=>?_) (.inr hx));have f:C≠a:=by
  rcases k with z | z
  ·rw[z];exact c2
  ·exact Ne.symm (c3 x a z)
 refine⟨m',B.sameBut c f,λh' m=>⟨σ.set i (some (.ref acc)),H',?_,qq⟩⟩;exact p.turnedNew (t':=y.toks) (λb o hb e=>m.extBut b o hb e) j c1 c2 c3 r
end
variable{te:TE}{H1:Hp}{acc:W9}{Q:VK}
theorem qz{J:It}{n:Nat}{val:Nat->V}{fr:St}(Pv:Nat->List V->Hp->Prop)(hn:n<=sizeLine)(h0:Pv 0 [] (upd H1 acc (.lst [])))
  (hgo:∀i ys H,i<n->Pv i ys H->J.go i H/\∀x H',J.yld i H x H'->H'=H/\x=val i) (hst:∀ys H,Pv n ys H->J.stop n H)
  (hs:∀i ys H (N:V->Hp->Prop),i<n->ys.length=i->Pv i ys H->(∀y a,a acc=some (.lst ys)->Pv (i+1) (ys++[y]) (upd a acc (.lst (ys++[y])))->N y a)->te (some (val i)::fr) H N)
  (hd:∀ys H,ys.length=n->Pv n ys H->Q (.ref acc) H):
  Jl (J) (CZ 0) te (none::fr) H1 acc Q:=by
 refine⟨λi m ys d H2=>m=n-i/\i<=n/\ys.length=i/\(∃v,d=v::fr)/\Pv i ys H2,⟨n,by simp,Gz _,U,⟨_,U⟩,h0⟩,?_⟩;rintro i m ys d H2 ⟨rfl,hi,b,⟨v,rfl⟩,p⟩;by_cases hlt:i<n
 ·obtain⟨go,g⟩:=hgo i ys H2 hlt p;refine .inr ⟨go,λx c j=>?_⟩;obtain⟨e1,e2⟩:=g x c j;subst e1 e2;show te ((v::fr).set 0 (some (val i))) c _;rw[List.set_cons_zero];refine hs i ys c _ hlt b p λy a h f=>⟨h,by lia,n-(i+1),by lia,U,hlt,by rw[JM,b];rfl,⟨_,U⟩,f⟩
 ·have e:i=n:=by lia
  subst e;exact .inl ⟨hst ys H2 p,hd ys H2 b p⟩
theorem R6{lo:Int}{n:Nat}{fr:St}(Pv:Nat->List V->Hp->Prop)(hn:n<=sizeLine)(h0:Pv 0 [] (upd H1 acc (.lst [])))
  (hs:∀i ys H (N:V->Hp->Prop),i<n->ys.length=i->Pv i ys H->(∀y H5,H5 acc=some (.lst ys)->Pv (i+1) (ys++[y]) (upd H5 acc (.lst (ys++[y])))->N y H5)->te (some (.int (lo+i))::fr) H N)
  (hd:∀ys H,ys.length=n->Pv n ys H->Q (.ref acc) H):
  Jl (HF lo n) (CZ 0) te (none::fr) H1 acc Q :=
 qz (J:=HF lo n) (val:=λi=>.int (lo+i)) Pv hn h0 (λi ys H hi p=>⟨hi,λx H' y=>y⟩) (λys H p=>CG _) hs hd
theorem Uk{K:U0}{a:W9}{xs:List V}{fr:St}(Pv:Nat->List V->Hp->Prop)(hn:xs.length<=sizeLine)(h0:Pv 0 [] (upd H1 acc (.lst [])))
  (hl:∀i ys H,Pv i ys H->Aw K H a xs)
  (hs:∀i x ys H (N:V->Hp->Prop),xs[i]?=some x->ys.length=i->Pv i ys H->(∀y H5,H5 acc=some (.lst ys)->Pv (i+1) (ys++[y]) (upd H5 acc (.lst (ys++[y])))->N y H5)->te (some x::fr) H N)
  (hd:∀ys H,ys.length=xs.length->Pv xs.length ys H->Q (.ref acc) H):
  Jl (Lx K a) (CZ 0) te (none::fr) H1 acc Q :=
 qz (J:=Lx K a) (n:=xs.length) (val:=λi=>xs.getD i .non) Pv hn h0
  (λi ys H hi p=>⟨⟨xs,xs[i],hl i ys H p,by simp[hi]⟩,λx H' y=>⟨y.1,by
   have:=y.2 xs (hl i ys H p)
   rw[CP,this];rfl⟩⟩)
  (λys H p=>⟨xs,hl _ ys H p,CG _⟩)
  (λi ys H N hi b p k=>by
   have e:xs[i]?=some (xs.getD i .non):=by rw[CP,Cm hi];rfl
   exact hs i _ ys H N e b p k) hd
end L2
namespace L2
structure Ah (P:U8) (w:W1) (K:U0) (mg:U4) (base:Heap) (k:Nat) (x:Str) (ps:W0) (sp:Sp):Prop where
 ex:∃f fd,EY P w K mg base NZ k f fd ps sp/\Binds K fd ps []/\PySem.W.keepIn K (.ref f)=true/\mg x=some (.ref f)
variable{K:U0}{mg:U4}{base:Heap}{x:Str}{ps:W0}
theorem Ah.mono{P:U8}{w:W1}{j k:Nat}{sp:Sp}(c:Ah P w K mg base j x ps sp)(h:j<=k):Ah P w K mg base k x ps sp :=
 let ⟨f,fd,F,b,kp,m⟩:=c.ex
 ⟨f,fd,F.mono h,b,kp,m⟩
section
variable {X:Cx}{k:Nat}{x:Str}{ps:W0}{sp:Sp}{p pos:Pos}{e:Expr}{es:List Expr}{t:TA}
theorem Av(c:Ah X.prog X.w X.K X.mg X.base k x ps sp)(hr:Ci k X.A)(hg:Gl X x)(ha:PA X (e::es) t)(hdb:(x == ("__debug__":Str))=false:=by decide)
  (he:starEach (e::es) X.env=(false,eval e X.env)::starEach es X.env:=by rfl) (hpl:(backTo pos (starEach es X.env)).any (·.1)=false:=by rfl):PE X (.Call (.Name x p) (e::es) [] pos) (P0 sp [] E0 t):=by
 obtain⟨f,fd,F,b,a,m⟩:=c.ex;exact W0c F hr hg m a b .nil Qf ha hdb he hpl
end
structure Ab (K:U0) (x:Str) (st:Stmt) (dV:W2):Prop where
 ex:∃(f:W9) (oc:W2) (od:W5) (kV doc pm:W2) (an:W5) (cdv ct:W2) (osl:W4),
  K.lookup f=some ⟨oc,od,.func (PySem.W.fnOf x x (Ft st) (FT st) (Dp st) dV kV doc pm an cdv ct),osl⟩/\PySem.W.codeIn K cdv x=true/\PySem.W.keepIn K (.ref f)=true/\PySem.W.nsIn K mainGlobals x=some (some (.ref f))
theorem fat{st:Stmt}{f:W9}{oc:W2}{od an:W5}{osl:W4}{dV kV doc pm cdv ct:W2}(a:PySem.W.nsIn K mainGlobals x=some (some (.ref f)))
  (l:K.lookup f=some ⟨oc,od,.func (PySem.W.fnOf x x (Ft st) (FT st) (Dp st) dV kV doc pm an cdv ct),osl⟩) (c:PySem.W.codeIn K cdv x=true) (k:PySem.W.keepIn K (.ref f)=true):Ab K x st dV :=
 ⟨f,oc,od,kV,doc,pm,an,cdv,ct,osl,l,c,k,a⟩
def K8 (K:U0)(x:Str)(st:Stmt)(dV:W2)(ps:W0):Prop:=∀(kV doc pm:W2) (an:W5) (cdv ct:W2),Binds K (PySem.W.fnOf x x (Ft st) (FT st) (Dp st) dV kV doc pm an cdv ct) ps []
theorem Fp{st:Stmt}
  (h:∀(kV b c:W2) (d:W5) (a ct:W2) (us:U5),us.length=ps.length->bindArgs (PySem.W.fnOf x x (Ft st) (FT st) (Dp st) .none kV b c d a ct) ⟨us,[]⟩=pure (ps.zip us)):K8 K x st .none ps :=
 λkV b c d a ct=>.all (h kV b c d a ct)
theorem Xy{nm:Str}{st:Stmt}(h:∀(kV b c:W2) (d:W5) (a ct:W2),bindArgs (PySem.W.fnOf nm nm (Ft st) (FT st) (Dp st) .none kV b c d a ct) ⟨[],[]⟩=pure []):K8 K nm st .none []:=Fp λkV b c d a ct us e=>by
 cases us with
 | nil=>exact h kV b c d a ct
 | cons=>cases e
variable{x0:Str}
theorem Xx{nm:Str}{st:Stmt}(h:∀(kV b c:W2) (d:W5) (a ct:W2) (a0:W2),bindArgs (PySem.W.fnOf nm nm (Ft st) (FT st) (Dp st) .none kV b c d a ct) ⟨[a0],[]⟩=pure [(x0,a0)]):K8 K nm st .none [x0]:=Fp λkV b c d a ct us e=>by
 cases us with
 | nil=>cases e
 | cons b0 t0 =>
  cases t0 with
  | nil=>exact h kV b c d a ct b0
  | cons=>cases e
theorem Xw{nm:Str}{st:Stmt}{x1:Str}(h:∀(kV b d:W2) (e:W5) (a ct:W2) (a0 a1:W2),bindArgs (PySem.W.fnOf nm nm (Ft st) (FT st) (Dp st) .none kV b d e a ct) ⟨[a0,a1],[]⟩=pure [(x0,a0),(x1,a1)]):K8 K nm st .none [x0,x1]:=Fp λkV b d e a ct us c=>by
 cases us with
 | nil=>cases c
 | cons b0 t0 =>
  cases t0 with
  | nil=>cases c
  | cons b1 t1 =>
   cases t1 with
   | nil=>exact h kV b d e a ct b0 b1
   | cons=>cases c
theorem Xv{nm:Str}{st:Stmt}{x1 x2:Str}(h:∀(kV b d:W2) (e:W5) (a ct:W2) (a0 a1 a2:W2),bindArgs (PySem.W.fnOf nm nm (Ft st) (FT st) (Dp st) .none kV b d e a ct) ⟨[a0,a1,a2],[]⟩=pure [(x0,a0),(x1,a1),(x2,a2)]):K8 K nm st .none [x0,x1,x2]:=Fp λkV b d e a ct us c=>by
 cases us with
 | nil=>cases c
 | cons b0 t0 =>
  cases t0 with
  | nil=>cases c
  | cons b1 t1 =>
   cases t1 with
   | nil=>cases c
   | cons b2 t2 =>
    cases t2 with
    | nil=>exact h kV b d e a ct b0 b1 b2
    | cons=>cases c
theorem Xu{nm:Str}{st:Stmt}{x1 x2 x3:Str}(h:∀(kV b d:W2) (e:W5) (a ct:W2) (a0 a1 a2 a3:W2),bindArgs (PySem.W.fnOf nm nm (Ft st) (FT st) (Dp st) .none kV b d e a ct) ⟨[a0,a1,a2,a3],[]⟩=pure [(x0,a0),(x1,a1),(x2,a2),(x3,a3)]):K8 K nm st .none [x0,x1,x2,x3]:=Fp λkV b d e a ct us c=>by
 cases us with
 | nil=>cases c
 | cons b0 t0 =>
  cases t0 with
  | nil=>cases c
  | cons b1 t1 =>
   cases t1 with
   | nil=>cases c
   | cons b2 t2 =>
    cases t2 with
    | nil=>cases c
    | cons b3 t3 =>
     cases t3 with
     | nil=>exact h kV b d e a ct b0 b1 b2 b3
     | cons=>cases c
theorem Xr{nm:Str}{st:Stmt}{x1 x2 x3 x4:Str}(h:∀(kV b d:W2) (e:W5) (a ct:W2) (a0 a1 a2 a3 a4:W2),bindArgs (PySem.W.fnOf nm nm (Ft st) (FT st) (Dp st) .none kV b d e a ct) ⟨[a0,a1,a2,a3,a4],[]⟩=pure [(x0,a0),(x1,a1),(x2,a2),(x3,a3),(x4,a4)]):K8 K nm st .none [x0,x1,x2,x3,x4]:=Fp λkV b d e a ct us c=>by
 cases us with
 | nil=>cases c
 | cons b0 t0 =>
  cases t0 with
  | nil=>cases c
  | cons b1 t1 =>
   cases t1 with
   | nil=>cases c
   | cons b2 t2 =>
    cases t2 with
    | nil=>cases c
    | cons b3 t3 =>
     cases t3 with
     | nil=>cases c
     | cons b4 t4 =>
      cases t4 with
      | nil=>exact h kV b d e a ct b0 b1 b2 b3 b4
      | cons=>cases c
section
variable {P:U8}{w:W1}{K:U0}{mg:U4}{base:Heap}
theorem fS{N P:W0}{sc:Scope}(a:sc.kind=.function:=by exact rfl)(b:sc.isCoroutine=false:=by exact rfl)(c:sc.isGenerator=false:=by exact rfl)(d:N.Nodup:=by decide +kernel)(e:N.take P.length=P:=by exact rfl)(f:∀x∈P,sc.names.lookup x=some .local\/sc.names.lookup x=some .cell:=by decide +kernel)(g:∀y∈sc.names,y.2≠.free:=by decide +kernel):Ce N P sc:=⟨a,b,c,d,e,f,g⟩
theorem Ab.cal{st:Stmt}{dV:W2}{k:Nat}{sp:Sp}(F:Ab K x st dV){h:Heap}(X:K.In h)(G:Ng h mg)(N:W0)
  (hbody:∀{f:W9}{a:W2}{A:W6}{outer:List Env}{s:U7},N.Nodup->∀(H:Hp) (vs:List V) (Q:VK) (E:XK),Ci k (A.deeper (envOfC x (Dp st) s.heap.objs.size f a))->sp vs H Q E ->
   ∃t,Ho (G9 NZ P w K mg base N x (Dp st) f a A outer s H E).nox (FT st) t/\t { nx:=λ_ H'=>Q .non H',rt:=Q} (start N vs) H)(S:Ce N ps (Dp st):=by exact fS) (bi:K8 K x st dV ps:=by first | exact Xx λ_ _ _ _ _ _ _=>rfl | exact Xw λ_ _ _ _ _ _ _ _=>rfl | exact Xv λ_ _ _ _ _ _ _ _ _=>rfl | exact Xu λ_ _ _ _ _ _ _ _ _ _=>rfl | exact Xr λ_ _ _ _ _ _ _ _ _ _ _=>rfl | exact Xy λ_ _ _ _ _ _=>rfl) (len:∀vs H Q E,sp vs H Q E->vs.length=ps.length:=by intro _ _ _ _ h;repeat first | (obtain⟨rfl,_⟩:=h;rfl) | (obtain⟨⟨rfl,_⟩,_⟩:=h;rfl) | (obtain⟨_,h⟩:=h)):Ah P w K mg base (k+1) x ps sp:=by
 obtain⟨f,n,od,kV,d,j,l,a,ct,i,g,b,e,ns⟩:=F.ex;refine⟨f,_,qw g b S len λA outer s H vs Q E m c=>?_,bi kV d j l a ct,e,Im X G ns⟩;obtain⟨t,h,q⟩:=hbody S.nd H vs Q E m c;exact⟨t,h.nox,q⟩
end
variable{H:Hp}
theorem Bm{P:U8}{w:W1}{N:W0}{sc:Scope}{f:W9}{cdv:W2}{A:W6}{outer:List Env}{s:U7}{E:XK}:(G9 NZ P w K mg base N x sc f cdv A outer s H E).nox.K=K:=rfl
theorem BR{p:W9}(h:H p=none)(o:HO):Same H (upd H p o):=λb u q=>by rw[Cg (PN q h)];exact q
theorem zF(K:U0):PySem.W.kitOne K (.type "int") (.type "int")=some true:=by unfold PySem.W.kitOne;rw[if_pos (by decide)]
theorem zE(K:U0):PySem.W.kitOne K (.type "int") (.type "bool")=some false:=by with_unfolding_all rfl
variable{A B:Prop}
theorem K4{a b:Int}(h1:a=b->A)(h2:a≠b->B):if decide (V.int a=V.int b)=true then A else B:=by
 by_cases h:a=b
 ·subst h;rw[Gb rfl];exact C_ (h1 rfl)
 ·rw[FJ λe=>h (V.int.inj e)];exact Bj (h2 h)
theorem Kc{a b:Int}(h1:a≠b->A)(h2:a=b->B):if (!decide (V.int a=V.int b))=true then A else B:=by
 by_cases h:a=b
 ·subst h;rw[Gb rfl];exact Bj (h2 rfl)
 ·rw[FJ λe=>h (V.int.inj e)];exact C_ (h1 h)
theorem A_{p:Prop}[Decidable p](h1:p->A)(h2:¬ p->B):if decide p=true then A else B:=by
 by_cases h:p
 ·rw[Gb h];exact C_ (h1 h)
 ·rw[FJ h];exact Bj (h2 h)
theorem Ow{c:Bool}(h1:c=true->A)(h2:c=false->B):if c=true then A else B:=by
 cases c
 ·exact Bj (h2 rfl)
 ·exact C_ (h1 rfl)
theorem H_{c:Bool}(h1:c=false->A)(h2:c=true->B):if (!c)=true then A else B:=by
 cases c
 ·exact C_ (h1 rfl)
 ·exact Bj (h2 rfl)
def fY (t u:TS):TS:=λD σ H=>∃Good:St->Hp->Prop,t {D with nx:=Good} σ H/\∀σ' H',Good σ' H'->u D σ' H'
theorem GX{X:Cx}{st:Stmt}{rest:W8}{t u:TS}(h1:PS X st t)(h2:Ho X rest u):Ho X (st::rest) (fY t u):=by
 intro pins s σ H D I h;obtain⟨Good,d,e⟩:=h;refine iY (Bu (h1 pins s σ H {D with nx:=Good} I d) λf c q=>?_);cases f with
 | next =>
  obtain⟨a,H',b,q⟩:=q;exact h2 pins c a H' D b (e a H' q)
 | ret v=>exact q
 | brk=>exact q
 | cont=>exact q
theorem Fw{H':Hp}{p:W9}{o:HO}(h:Same H H')(hn:H p=none):Same H (upd H' p o):=λb u q=>by rw[Cg (PN q hn)];exact h b u q
end L2
namespace Zo
open PySem.Sem (wp)
def Stop (h:Heap)(e:W9):Prop:=∃o,h.get? e=some o/\o.cls=.type "StopIteration"
def Rest (S:U3)(h h':Heap):Prop:=∀c o,c∉S->h.get? c=some o->h'.get? c=some o
variable{h h1:Heap}
theorem Rest.trans{S:U3}{h2:Heap}(a:Rest S h h1)(b:Rest S h1 h2):Rest S h h2:=λc o n e=>b c o n (a c o n e)
theorem Rest.sub{S T:U3}(a:Rest S h h1)(q:∀c,c∈S->c∈T):Rest T h h1:=λc o n e=>a c o (λz=>n (q c z)) e
theorem Rest.ext{S:U3}{b:W9}(e:Heap.ExtBut b h h1)(q:b∈S):Rest S h h1:=λc o n x=>e c o (λz=>n (z ▸ q)) x
theorem Rest.but{S:U3}{b:W9}(e:Heap.SameBut b h h1)(q:b∈S):Rest S h h1:=Rest.ext e.extBut q
theorem Rest.new{S:U3}(o:Obj):Rest S h (h.push o):=λc u n x=>Ec _ x
def JT (S:U3)(G:Heap->Prop):Prop:=∀h h',Rest S h h'->G h->G h'
def Told (it:W9)(hp:Heap)(g:Array GenState)(d:Drawn)(tk:Nat)(os:OsState)(G:Heap->Prop)(ox:Option Value)(Q E:U2):Prop :=
 (∀x h',ox=some x->G h'->Heap.SameBut it hp h'->Q x ⟨h',g,d,tk,os⟩) /\
 (∀e h',ox=none->Heap.ExtBut it hp h'->Stop h' e->E (.ref e) ⟨h',g,d,tk,os⟩)
def Pull (prog:U8)(w:W1)(A:W6)(it:W9)(G G':Heap->Prop)(ox:Option Value):Prop :=
 ∀{Q E:U2}{hp:Heap}{g:Array GenState}{d:Drawn}{tk:Nat}{os:OsState},G hp->Told it hp g d tk os G' ox Q E ->
  wpAny (model prog w) A (Builtin.SmallTypes.nextOf (.ref it)) Q E ⟨hp,g,d,tk,os⟩
section
variable {prog:U8}{w:W1}{A:W6}{E:U2}{hp:Heap}{g:Array GenState}{d:Drawn}{tk:Nat}{os:OsState}
variable{ox:Option Value}
theorem Pull.behind{it:W9}{G G':Heap->Prop}(p:Pull prog w A it G G' ox)(hg:G hp){α:Type}{f:Value->Sem α}{k:Value->Sem Unit}{Q:α->Shared->Prop}
  (t:Told it hp g d tk os G' ox (λx s'=>wpAny (model prog w) A (f x) Q (λe b=>wpAny (model prog w) A (k e) (λ_ a=>E e a) E b) s') (λe b=>wpAny (model prog w) A (k e) (λ_ a=>E e a) E b)):
  wpAny (model prog w) A ((Builtin.SmallTypes.nextOf (.ref it) >>= f).onRaise k) Q E ⟨hp,g,d,tk,os⟩:=wpAny_onRaise (BX (p hg t))
theorem freed{z I O e:W9}{v:W2}(gz:IsZip h z I O v)(st:Stop h e)(k:∀h',Rest [z] h h'->Stop h' e->E (.ref e) ⟨h',g,d,tk,os⟩):
  wpAny (model prog w) A (setField (.ref z) 0 .none) (λ_ f=>E (.ref e) f) E ⟨h,g,d,tk,os⟩:=by
 obtain⟨o,b,a⟩:=st;have c:e≠z:=by
  rintro rfl;have q:=b.symm.trans gz;cases q;exact absurd (Value.type.inj a) (by decide)
 refine WW gz rfl (by simp) (k _ (Rest.but (Heap.SameBut.update ..) (by simp)) ⟨o,(Heap.SameBut.update ..).extBut _ _ c b,a⟩)
theorem step{z I O i j:W9}{oy:Option Value}{a b:W2}{G1 G1' G2 G2':Heap->Prop}{R:PySem.Fin->Shared->Prop}
  (gz:IsZip hp z I O .none) (gI:IsPair hp I (.ref i) (.ref j)) (gO:IsPair hp O a b) (ne:O≠z/\O≠i/\O≠j/\i≠z/\j≠z)
  (p1:Pull prog w A i G1 G1' ox) (p2:Pull prog w A j G2 G2' oy) (a1:G1 hp) (a2:G2 hp)
  (k1:JT [z,O,j] G1) (k2:JT [z,O,i] G2) (k3:JT [z,O,j] G1') (k4:JT [z,O,i] G2')
  (go:∀x y h',ox=some x->oy=some y->IsZip h' z I O (rawInt hp.objs.size)->IsPair h' O x y->IsPair h' hp.objs.size x y->G1' h'->G2' h'->Rest [z,O,i,j] hp h'->R (.done (.ret (.ref hp.objs.size))) ⟨h',g,d,tk,os⟩)
  (stop:∀e h',ox=none\/oy=none->Rest [z,O,i,j] hp h'->Stop h' e->E (.ref e) ⟨h',g,d,tk,os⟩):
  wpAny (model prog w) A (Builtin.«zip.__next__» ⟨[.ref z],[]⟩) R E ⟨hp,g,d,tk,os⟩:=by
 obtain⟨o,W,U,B,G⟩:=ne;have M:(#[Value.none,.bool false,.bool false,.ref I,.ref O]:U9)[0]?=some .none:=rfl;have c2:(#[Value.none,.bool false,.bool false,.ref I,.ref O]:U9)[2]?=some (.bool false):=rfl;have c3:(#[Value.none,.bool false,.bool false,.ref I,.ref O]:U9)[3]?=some (.ref I):=rfl;have P:(#[Value.none,.bool false,.bool false,.ref I,.ref O]:U9)[4]?=some (.ref O):=rfl;have z0:0<(#[Value.none,.bool false,.bool false,.ref I,.ref O]:U9).size:=by simp
 wp_walk using LK gz rfl c2,LK gz rfl c3,WT gI rfl,LK gz rfl M,LK gz rfl P,wpAny_setField_rec gz z0;intro h1 t s;have r:Rest [z] hp h1:=.but s (by simp);wp_walk;refine p1.behind (f:=λx=>pure (some x)) (k:=λ_=>setField (.ref z) 0 .none) (k1 _ _ (r.sub (by simp)) a1) ⟨λx h2 e2 Q c=>?_,λe h2 e2 c st=>?_⟩
 ·have J:IsPair h2 O a b:=c.extBut _ _ W (s.extBut _ _ o gO);wp_walk using WT J rfl,wpAny_updateSeq_pair J;intro h3 X l;wp_walk using wpAny_letGo;have u:Rest [z,O,i] hp h3:=((r.sub (by simp)).trans (.but c (by simp))).trans (.but l (by simp));refine p2.behind (f:=λx=>pure (some x)) (k:=λ_=>setField (.ref z) 0 .none) (k2 _ _ u a2) ⟨λy D q N r4=>?_,λe D q r4 st=>?_⟩
  ·have C:IsPair D O x b:=r4.extBut _ _ U X;wp_walk using WT C rfl,wpAny_updateSeq_pair C;intro h5 L h;have n:IsPair h5 O x y:=L;have K:Rest [z,O,i,j] hp h5:=((u.sub (by simp)).trans (.but r4 (by simp))).trans (.but h (by simp));have F:IsZip h5 z I O .ellipsis:=h.extBut _ _ o.symm (r4.extBut _ _ G.symm (l.extBut _ _ o.symm (c.extBut _ _ B.symm t)));have sz:h5.objs.size=hp.objs.size:=(((h.1.trans r4.1).trans l.1).trans c.1).trans s.1;have lt:z<h5.objs.size:=CQ F;have Y:IsZip (h5.push { cls:=.type "tuple",data:=.seq #[x,y].toList.toArray}) z I O .ellipsis:=Ec _ F;wp_walk using wpAny_letGo,WT n rfl;have V:=Wk (Obj.mapFields λv=>v.setIfInBounds 1 (Value.bool false)) (Wk (Obj.mapFields λv=>v.setIfInBounds 0 (rawInt h5.objs.size)) Y rfl) rfl;have H:Rest [z] (h5.push { cls:=.type "tuple",data:=.seq #[x,y].toList.toArray}) _:=(Rest.but (b:=z) (Heap.SameBut.update (f:=Obj.mapFields λv=>v.setIfInBounds 0 (rawInt h5.objs.size)) ..) (by simp)).trans (Rest.but (b:=z) (Heap.SameBut.update (f:=Obj.mapFields λv=>v.setIfInBounds 1 (Value.bool false)) ..) (by simp));have p:=(Rest.new _).trans H;have T8:=H h5.objs.size _ (by simp;exact LR lt) (GC _ rfl);simp only[<-sz]at go;exact go x y _ e2 q V (p _ _ (by simp[o]) n) T8 (k3 _ _ ((((Rest.but (S:=[z,O,j]) l (by simp)).trans (.but r4 (by simp))).trans (.but h (by simp))).trans (p.sub (T:=[z,O,j]) (by simp))) Q)
    (k4 _ _ ((Rest.but (S:=[z,O,i]) h (by simp)).trans (p.sub (T:=[z,O,i]) (by simp))) N) (K.trans (p.sub (T:=[z,O,i,j]) (by simp)))
  ·exact freed (r4 _ _ G.symm (l.extBut _ _ o.symm (c.extBut _ _ B.symm t))) st λh5 h m =>
    stop e h5 (.inr q) (((u.sub (by simp)).trans (.ext r4 (by simp))).trans (h.sub (by simp))) m
 ·exact freed (c _ _ B.symm t) st λh3 l m=>stop e h3 (.inl e2) (((r.sub (by simp)).trans (.ext c (by simp))).trans (l.sub (by simp))) m
end
end Zo
namespace Zn
open PySem.Sem (wp)
section
variable {prog:U8}{w:W1}{A:W6}{E:U2}{hp:Heap}{g:Array GenState}{d:Drawn}{tk:Nat}{os:OsState}{it l:W9}{i n:Nat}{its:U9}{oi ol:Obj}{R:PySem.Fin->Shared->Prop}
theorem X3s(hh:its[i]?=none->A.handled=none)(gi:hp.get? it=some oi)(di:oi.data=.fields #[.ref l,.int i 0])(gl:hp.get? l=some ol)(dl:ol.data=.seq its n)
  (go:∀x,its[i]?=some x->R (.done (.ret x)) ⟨hp.update it (Obj.mapFields (·.setIfInBounds 1 (rawInt (i+1)))),g,d,tk,os⟩)
  (stop:∀h' e,its[i]?=none->Heap.ExtBut it hp h'->(∃o,h'.get? e=some o/\o.cls=.type "StopIteration")->E (.ref e) ⟨h',g,d,tk,os⟩):
  wpAny (model prog w) A (Builtin.«tuple_iterator.__next__» ⟨[.ref it],[]⟩) R E ⟨hp,g,d,tk,os⟩:=by
 have c:(#[Value.ref l,.int i 0]:U9)[0]?=some (.ref l):=rfl;have b:(#[Value.ref l,.int i 0]:U9)[1]?=some (.int i 0):=rfl;have z0:0<(#[Value.ref l,.int i 0]:U9).size:=by simp
 have a:1<(#[Value.ref l,.int i 0]:U9).size:=by simp
 wp_walk using LK gi di c,LK gi di b,WT gl dl;rw[G8];cases hx:its[i]? with
 | some x =>
  dsimp only;wp_walk using WW gi di a;exact go x hx
 | none =>
  dsimp only;have f:=hh hx;wp_walk using WW gi di z0;exact wpAny_raiseNew_none f (stop _ _ hx (((Heap.SameBut.update ..).extBut.push _).push _) ⟨_,GC _ rfl,U⟩)
end
end Zn
namespace Zp
open Zo
open PySem.Sem (wp)
def Dat (t:Bool)(h:Heap)(l:W9)(xs:U9):Prop:=if t then h.IsTuple l xs else h.IsList l xs
def HF (t:Bool)(h:Heap)(it l:W9)(i:Nat):Prop:=if t then h.IsTupleIter it l i else h.IsListIter it l i
variable{t:Bool}{h h':Heap}{l:W9}
theorem Dat.at{xs:U9}(d:Dat t h l xs)(e:∀o,h.get? l=some o->h'.get? l=some o):Dat t h' l xs:=by
 cases t<;>exact let ⟨o,q,r⟩:=d;⟨o,e o q,r⟩
variable{it:W9}{i:Nat}
theorem HF.at(d:HF t h it l i)(e:∀o,h.get? it=some o->h'.get? it=some o):HF t h' it l i:=by
 cases t<;>exact let ⟨o,q,r⟩:=d;⟨o,e o q,r⟩
theorem HF.obj(d:HF t h it l i):∃o,h.get? it=some o/\∀v,o.data≠.cell v:=by
 cases t<;>exact let ⟨o,e,_,q⟩:=d;⟨o,e,λv z=>by rw[q]at z;cases z⟩
theorem Dat.push{xs:U9}(d:Dat t h l xs)(o:Obj):Dat t (h.push o) l xs:=d.at λ_ q=>Ec _ q
def Stand (t:Bool)(it l:W9)(k:Nat)(xs:U9)(h:Heap):Prop:=HF t h it l k/\Dat t h l xs
theorem Stand.stays{k:Nat}{xs:U9}{S:U3}(a:it∉S)(b:l∉S):JT S (Stand t it l k xs):=λh h' r d=>⟨d.1.at λo q=>r _ o a q,d.2.at λo q=>r _ o b q⟩
section
variable {prog:U8}{w:W1}{A:W6}
variable{Q:Option Value->Shared->Prop}
theorem via{E:U2}{T id:String}{f:Builtin}{a:W9}{s:U7}(sl:Slot T (Str.ofString "__next__") id)(en:entryFor table id=some f)(ar:argsOk id ⟨[.ref a],[]⟩)(ty:s.TypeIs (.ref a) T)
  (h:wpAny (model prog w) A.in1 (f ⟨[.ref a],[]⟩) (λr s'=>∃v,r=.done (.ret v)/\Q (some v) s') E s):wpAny (model prog w) A (callSpecial? (.ref a) (Str.ofString "__next__")) Q E s :=
 jR ty sl (Ze sl ty en h ar)
theorem pull{k:Nat}{xs:U9}(hh:A.handled=none):Pull prog w A it (Stand t it l k xs) (Stand t it l (k+1) xs) xs[k]?:=by
 intro Q E hp g d tk os st td;have p:∀{h'},Heap.SameBut it hp h'->l≠it->Dat t h' l xs:=λr n=>st.2.at λo q=>r.extBut _ _ n q;cases t with
 | false =>
  obtain⟨a,b⟩:hp.IsListIter it l k/\hp.IsList l xs:=st;have n:l≠it:=by
   rintro rfl;obtain⟨o,q,_,r⟩:=a;obtain⟨o',j,_,_,h⟩:=b;rw[q]at j;cases j;rw[r]at h;cases h
  cases f:xs[k]? with
  | some x=>exact wpAny_nextOf_list_item a b f λh' i r=>td.1 x h' f ⟨i,p r n⟩ r
  | none=>exact wpAny_nextOf_list_end hh a b f λh' e r s=>td.2 e h' f r s
 | true =>
  obtain⟨a,b⟩:hp.IsTupleIter it l k/\hp.IsTuple l xs:=st;have ty:(⟨hp,g,d,tk,os⟩:U7).TypeIs (.ref it) "tuple_iterator":=a.typeIs;obtain⟨o,q,c,r⟩:=a;obtain⟨o',j,c',m,h⟩:=b;have n:l≠it:=by rintro rfl;rw[q]at j;cases j;rw[r]at h;cases h
  unfold Builtin.SmallTypes.nextOf;refine BX (via F.slot_tuple_iterator_next F.entry_tuple_iterator_next (F.args_tuple_iterator_next_1 _) ty (Zn.X3s (λ_=>hh) q r j h (λx f=>⟨x,U,CV (td.1 x _ f ?_ (Heap.SameBut.update ..))⟩) λh' e f ex s=>td.2 e h' f ex s));refine⟨(⟨_,Wk _ q (Obj.isFreed_of_fields (Obj.data_mapFields r _)),(Obj.cls_mapFields ..).trans c,?_⟩:Heap.IsTupleIter _ it l (k+1)),p (Heap.SameBut.update ..) n⟩;rw[Obj.data_mapFields r];rfl
variable {E:U2}
theorem wU{t1 t2:Bool}{z I O i j m:W9}{k1 k2:Nat}{xs ys:U9}{a b:W2}{s:U7}(hh:A.handled=none)(D:ZipApart z I O i j l m)
  (gz:IsZip s.heap z I O .none) (gI:IsPair s.heap I (.ref i) (.ref j)) (gO:IsPair s.heap O a b) (d1:Stand t1 i l k1 xs s.heap) (d2:Stand t2 j m k2 ys s.heap)
  (go:∀x y h',xs[k1]?=some x->ys[k2]?=some y->IsZip h' z I O (rawInt s.heap.objs.size)->IsPair h' O x y->IsPair h' s.heap.objs.size x y->Stand t1 i l (k1+1) xs h'->Stand t2 j m (k2+1) ys h' ->
   Rest [z,O,i,j] s.heap h'->Q (some (.ref s.heap.objs.size)) ⟨h',s.gens,s.drawn,s.toks,s.os⟩)
  (stop:∀h',xs[k1]?=none\/ys[k2]?=none->Rest [z,O,i,j] s.heap h'->Q none ⟨h',s.gens,s.drawn,s.toks,s.os⟩):wpAny (model prog w) A (pyNext (.ref z)) Q E s:=by
 obtain⟨hp,g,d,tk,os⟩:=s;unfold pyNext;refine BX (ZV (via F.slot_zip_next F.entry_zip_next (F.args_zip_next_1 _) ⟨_,gz,U⟩ (step gz gI gO ⟨D.TOz,D.TOi1,D.TOi2,D.i1z,D.i2z⟩ (pull (A:=A.in1) hh) (pull (A:=A.in1) hh) d1 d2 ?_ ?_ ?_ ?_ ?_ ?_)))
 ·exact Stand.stays (by simp[D.i1z,D.TOi1.symm,D.i12]) (by simp[D.l1z,D.l1TO,D.l1i2])
 ·exact Stand.stays (by simp[D.i2z,D.TOi2.symm,D.i12.symm]) (by simp[D.l2z,D.l2TO,D.l2i1])
 ·exact Stand.stays (by simp[D.i1z,D.TOi1.symm,D.i12]) (by simp[D.l1z,D.l1TO,D.l1i2])
 ·exact Stand.stays (by simp[D.i2z,D.TOi2.symm,D.i12.symm]) (by simp[D.l2z,D.l2TO,D.l2i1])
 ·exact λx y h' e1 e2 f k t h p u=>⟨_,U,CV (go x y h' e1 e2 f k t h p u)⟩
 ·rintro e h' n r ⟨o,q,c⟩;exact BX (wpAny_isInstance (b:=true) ⟨o,q,c⟩ isSubtype_stop (CV (stop h' n r)))
end
noncomputable abbrev Gs (t:Bool)(l:W9):Obj:={ cls:=.type (if t then "tuple_iterator" else "list_iterator"),data:=.fields #[.ref l,.int 0 0]}
theorem X1s(e:h.get? it=some (Gs t l)):HF t h it l 0:=by
 cases t<;>exact⟨_,e,U,U⟩
theorem Wr{o0 o1 o2 o3 o4:Obj}(f0:o0.isFreed=false)(f1:o1.isFreed=false)(f2:o2.isFreed=false)(f3:o3.isFreed=false)(f4:o4.isFreed=false){H:Heap}(e:H=((((h.push o0).push o1).push o2).push o3).push o4):
  H.get? h.objs.size=some o0/\H.get? (h.objs.size+1)=some o1/\H.get? (h.objs.size+2)=some o2/\H.get? (h.objs.size+3)=some o3/\H.get? (h.objs.size+4)=some o4/\∀c o,h.get? c=some o->H.get? c=some o:=by
 subst e;have w:∀{h:Heap}{a:W9}{o o':Obj},h.get? a=some o->(h.push o').get? a=some o:=λq=>Ec _ q;have b:(h.push o0).objs.size=h.objs.size+1:=Mp ..;have f:((h.push o0).push o1).objs.size=h.objs.size+2:=by rw[Mp,b]
 have d:(((h.push o0).push o1).push o2).objs.size=h.objs.size+3:=by rw[Mp,f]
 have g:((((h.push o0).push o1).push o2).push o3).objs.size=h.objs.size+4:=by rw[Mp,d]
 refine⟨w (w (w (w (GC _ f0)))),?_,?_,?_,?_,λc o q=>w (w (w (w (w q))))⟩
 ·rw[<-b];exact w (w (w (GC _ f1)))
 ·rw[<-f];exact w (w (GC _ f2))
 ·rw[<-d];exact w (GC _ f3)
 ·rw[<-g];exact GC _ f4
structure New (t1 t2:Bool) (h h':Heap) (l m:W9):Prop where
 z:IsZip h' (h.objs.size+4) (h.objs.size+2) (h.objs.size+3) .none
 I:IsPair h' (h.objs.size+2) (.ref h.objs.size) (.ref (h.objs.size+1))
 O:IsPair h' (h.objs.size+3) .none .none
 i:HF t1 h' h.objs.size l 0
 j:HF t2 h' (h.objs.size+1) m 0
 k:Rest [] h h'
section
variable {prog:U8}{w:W1}{A:W6}{E:U2}{s:U7}
theorem wJ{xs:U9}{Q:U2}(hl:Dat t s.heap l xs)(h:Q (.ref s.heap.objs.size) {s with heap:=s.heap.push (Gs t l)}):wpAny (model prog w) A (pyIter (.ref l)) Q E s:=by
 cases t
 ·exact Wf (show s.heap.IsList l xs from hl) h
 ·exact jG (show s.heap.IsTuple l xs from hl) h
theorem X1c(t1 t2:Bool)(l m:W9)(xs ys:U9):
  Meets (Builtin.«zip.__new__» ⟨[.type "zip",.ref l,.ref m],[]⟩) (λ_ R s=>Dat t1 s.heap l xs/\Dat t2 s.heap m ys /\
   ∀h',New t1 t2 s.heap h' l m->R (.ok (.ret (.ref (s.heap.objs.size+4)))) {s with heap:=h'}):=
 .of_wp λprog w A R s h=>by
  rcases s with ⟨hp,g,d,tk,os⟩;rcases h with ⟨b1,b2,h⟩;have b:=sub_zip;have f:Dat t1 (Shared.heap ⟨hp,g,d,tk,os⟩) l xs:=b1;have n:Dat t2 (Shared.heap ⟨hp.push (Gs t1 l),g,d,tk,os⟩) m ys:=b2.push _;wp_walk using wJ f,wJ n;have a:∀n1 n2 n3 n4,n1=hp.objs.size+1->n2=hp.objs.size+2->n3=hp.objs.size+3->n4=hp.objs.size+4 ->
    R (.ok (.ret (.ref n4))) ⟨((((hp.push (Gs t1 l)).push (Gs t2 m)).push { cls:=.type "tuple",data:=.seq #[.ref hp.objs.size,.ref n1]}).push { cls:=.type "tuple",data:=.seq #[.none,.none]}).push
     { cls:=.type "zip",data:=.fields #[.none,.bool false,.bool false,.ref n2,.ref n3]},g,d,tk,os⟩:=by
   rintro _ _ _ _ rfl rfl rfl rfl;obtain⟨j,e,i,k,r,p⟩:=Wr (h:=hp) (o0:=Gs t1 l) (o1:=Gs t2 m) (o2:={ cls:=.type "tuple",data:=.seq #[.ref hp.objs.size,.ref (hp.objs.size+1)]}) (o3:={ cls:=.type "tuple",data:=.seq #[.none,.none]})
    (o4:={ cls:=.type "zip",data:=.fields #[.none,.bool false,.bool false,.ref (hp.objs.size+2),.ref (hp.objs.size+3)]}) rfl rfl rfl rfl rfl rfl
   exact h _ ⟨r,i,k,X1s j,X1s e,λc o _ q=>p c o q⟩
  exact⟨_,U,a _ _ _ _ (by simp only[Mp]) (by simp only[Mp]) (by simp only[Mp]) (by simp only[Mp])⟩
theorem X6p{t1 t2:Bool}{m:W9}{xs ys:U9}{Q:U2}(b1:Dat t1 s.heap l xs)(b2:Dat t2 s.heap m ys)
  (k:∀h',New t1 t2 s.heap h' l m->Q (.ref (s.heap.objs.size+4)) {s with heap:=h'}):wpAny (model prog w) A (call (.type "zip") [.ref l,.ref m]) Q E s :=
 callType_new F.called_zip (by decide) (F.typeCall_zip_2 _ _) (F.newCall_zip_2 _ _) (λo=>F.args_object_init_3 o _ _) F.entry_zip_new (X1c t1 t2 l m xs ys) ⟨b1,b2,λh' n=>⟨⟨_,n.z,U⟩,k h' n⟩⟩
end
end Zp
namespace L2
section
variable {X:Cx}{pins:U1}{σ:St}{H:Hp}{s:U7}{h':Heap}
theorem Inv.turnedL{t':Nat}{ch:U3}(I:Inv X pins σ H s)(k:∀b o,b∉ch->s.heap.get? b=some o->h'.get? b=some o)(hf:∀b∈ch,Dq X pins H b):Inv X pins σ H {s with heap:=h',toks:=t'}:=by
 have d:∀b u,H b=some u->b∉ch:=λb u e z=>by rw[(hf b z).1]at e;cases e
 refine I.step (g':=s.gens) (d':=s.drawn) (ch:=ch) (λb hb=>⟨(hf b hb).2.2.2.1,(hf b hb).2.1,(hf b hb).2.2.2.2.1,(hf b hb).2.2.2.2.2⟩) (λb o _ _ a e _=>k b o a e) (λb o _ _ a e _=>⟨o.slots,k b o a e⟩) (λ_ _ _ _ n=>n)
  (λb o a e=>⟨o,k b o a e⟩) (λ_ _ e=>e) (λ_ _ _ e=>e) (λb ps e=>⟨#[],by rw[e];simp⟩) (λm f=>?_) (λb u e=>?_) I.bare
 ·obtain⟨o,es,ep,g,r⟩:=f;exact⟨o,es,ep,k _ o (λz=>(hf _ z).2.1 rfl) g,r⟩
 ·refine(I.hok b u e).stay (λc v a q=>k c v ?_ q) (λ_ q=>q) λ_ _ q=>q;rcases a with z | z
  ·rw[z];exact d b u e
  ·exact d c _ z
theorem Inv.turnedT{t':Nat}{ch:U3}{T:W9}{xs:List V}{its:U5}(I:Inv X pins σ H s)(k:∀b o,b∉ch->s.heap.get? b=some o->h'.get? b=some o)(hf:∀b∈ch,Dq X pins H b)(hT:s.heap.objs.size<=T)(hv:Vals xs its)(hz:xs.length<=sizeLine)(ht:IsTup h' T its.toArray):
  Inv X pins σ (upd H T (.tup xs)) {s with heap:=h',toks:=t'}:=by
 have f:∀b u,H b=some u->b∉ch:=λb u e z=>by rw[(hf b z).1]at e;cases e
 have h:H T=none:=I.hok.fresh hT;have g:∀b o,s.heap.get? b=some o->b≠T:=λb o e=>Df (Ea (CQ e) hT);have a:∀b u,H b=some u->b≠T:=λb u e z=>by rw[z,h]at e;cases e
 refine I.step (g':=s.gens) (d':=s.drawn) (ch:=ch) (λb hb=>⟨(hf b hb).2.2.2.1,(hf b hb).2.1,(hf b hb).2.2.2.2.1,(hf b hb).2.2.2.2.2⟩) (λb o _ _ d e _=>k b o d e) (λb o _ _ d e _=>⟨o.slots,k b o d e⟩)
  (λb o _ e n=>by rw[Cg (g b o e)];exact n)
  (λb o d e=>⟨o,k b o d e⟩) (λb ys e=>by rw[Cg (a b _ e)];exact e) (λb o u e=>by rw[Cg (a b _ e)];exact e) (λb ps e=>⟨#[],by rw[Cg (a b _ e),e];simp⟩) (λm i=>?_) (λb u e=>?_) I.bare
 ·obtain⟨o,es,ep,j,r⟩:=i;exact⟨o,es,ep,k _ o (λz=>(hf _ z).2.1 rfl) j,r⟩
 ·by_cases hb:b=T
  ·subst hb;rw[Ax]at e;cases e;exact⟨hz,its,hv,ht⟩
  ·rw[Cg hb]at e;refine(I.hok b u e).stay (λc v d q=>k c v ?_ q) (λc q=>by rw[Cg (a c _ q)];exact q) λc ys q=>by rw[Cg (a c _ q)];exact q
   rcases d with z | z
   ·rw[z];exact f b u e
   ·exact f c _ z
end
def JV (t:Bool)(K:U0)(H:Hp)(a:W9)(xs:List V):Prop:=if t then Ag K H a xs else Aw K H a xs
theorem Inv.sqx{X:Cx}{pins:U1}{σ:St}{H:Hp}{s:U7}{t:Bool}{a:W9}{xs:List V}(I:Inv X pins σ H s)(h:JV t X.K H a xs):∃its:List Value,Vals xs its/\Zp.Dat t s.heap a its.toArray/\xs.length<=sizeLine:=by
 cases t
 ·obtain⟨its,v,p,z⟩:=I.list (show Aw X.K H a xs from h);exact⟨its,v,p.isList,z⟩
 ·obtain⟨its,v,p,z⟩:=I.tuple (show Ag X.K H a xs from h);exact⟨its,v,p,z⟩
variable{ys:List V}
theorem Inv.sqx_inj{X:Cx}{pins:U1}{σ:St}{H:Hp}{s:U7}{t:Bool}{a:W9}{xs:List V}(I:Inv X pins σ H s)(h:JV t X.K H a xs)(h':JV t X.K H a ys):xs=ys:=by
 cases t
 ·exact I.list_inj (show Aw X.K H a xs from h) h'
 ·exact I.tuple_inj (show Ag X.K H a xs from h) h'
def Y0 (t1 t2:Bool)(K:U0)(l1 l2:W9):It :=
 ⟨λi H=>∃xs x ys y,JV t1 K H l1 xs/\xs[i]?=some x/\JV t2 K H l2 ys/\ys[i]?=some y,
 λi H v H'=>∃T x y,v=.ref T/\H T=none/\H'=upd H T (.tup [x,y])/\(∀xs,JV t1 K H l1 xs->xs[i]?=some x)/\∀ys,JV t2 K H l2 ys->ys[i]?=some y,
 λi H=>∃xs ys,JV t1 K H l1 xs/\JV t2 K H l2 ys/\(xs.length<=i\/ys.length<=i)⟩
theorem X3r{P:U8}{w:W1}{K:U0}{es:List Expr}{kk:Nat}{tp:Pos}{t1 t2:Bool}{z TI TO i1 i2 l1 l2:W9}(D:ZipApart z TI TO i1 i2 l1 l2):
  Turn P w K (.Tuple es kk tp) (Y0 t1 t2 K l1 l2) [z,TI,TO,i1,i2] z (λi h=>IsZip h z TI TO .none/\IsPair h TI (.ref i1) (.ref i2)/\(∃a b,IsPair h TO a b)/\Zp.HF t1 h i1 l1 i/\Zp.HF t2 h i2 l2 i) where
 mem:=by simp
 obj:=λi h st b hb=>by
  obtain⟨d,c,⟨x,y,f⟩,j,g⟩:=st;simp only[Dj,Ip,Ik]at hb;rcases hb with rfl | rfl | rfl | rfl | rfl
  ·exact⟨_,d,λv q=>by have C:Data.fields _=Data.cell v:=q;cases C⟩
  ·exact⟨_,c,λv q=>by have C:Data.seq _ _=Data.cell v:=q;cases C⟩
  ·exact⟨_,f,λv q=>by have C:Data.seq _ _=Data.cell v:=q;cases C⟩
  ·exact j.obj
  ·exact g.obj
 keep:=λi h h' st k=>by
  obtain⟨d,c,⟨x,y,f⟩,j,g⟩:=st;exact⟨k z (by simp) _ d,k TI (by simp) _ c,⟨x,y,k TO (by simp) _ f⟩,j.at λo e=>k i1 (by simp) o e,g.at λo e=>k i2 (by simp) o e⟩
 item:=by
  intro X Y O L R i pins s σ H E I hf st M;subst Y O L;obtain⟨xs,x,ys,y,J,Z,G,hy⟩:=M;obtain⟨d,c,⟨u1,u2,f⟩,j,g⟩:=st;obtain⟨its,W,Q,hz⟩:=I.sqx J;obtain⟨its',p,m,T⟩:=I.sqx G;obtain⟨B,A,rx⟩:=W.get Z;obtain⟨F,t,ry⟩:=p.get hy;refine Zp.wU (I.ok.hd R) D d c f (d1:=⟨j,Q⟩) (d2:=⟨g,m⟩) (λwx wy h' N S b1 b2 b5 b3 b4 bk=>?_) (λh' n _=>?_);rotate_left
  ·exfalso;rcases n with n | n
   ·rw[show its.toArray[i]?=some B by simpa using A]at n;cases n
   ·rw[show its'.toArray[i]?=some F by simpa using t]at n;cases n
  obtain rfl:B=wx:=Option.some.inj ((show its.toArray[i]?=some B by simpa using A).symm.trans N);obtain rfl:F=wy:=Option.some.inj ((show its'.toArray[i]?=some F by simpa using t).symm.trans S);refine⟨_,U,wpAny_letOwnedTupleGo_zip b1 λh2 c1 r=>?_⟩;have zT:s.heap.objs.size≠z:=LR (CQ d);have k2:∀b o,b∉[z,TI,TO,i1,i2]->s.heap.get? b=some o->h2.get? b=some o:=λb o hb e=>by
   simp only[Dj,Ip,Ik,not_or]at hb;exact r.extBut b o hb.1 (bk b o (by simp[hb]) e)
  have hT:IsTup h2 s.heap.objs.size ([B,F]:U5).toArray:=⟨_,r.extBut _ _ zT b5,U,_,U⟩;refine⟨.ref s.heap.objs.size,upd H s.heap.objs.size (.tup [x,y]),I.turnedT (t':=s.toks) k2 hf (CG _) (.cons rx (.cons ry .nil)) (by show 2<=sizeLine;decide) hT,U,⟨_,x,y,U,I.hok.fresh (CG _),U,λa6 h1=>?_,λa0 h1=>?_⟩,⟨c1,?_,⟨B,F,?_⟩,?_,?_⟩,λb hb=>?_⟩
  ·rw[I.sqx_inj h1 J];exact Z
  ·rw[I.sqx_inj h1 G];exact hy
  ·exact r.extBut _ _ D.TIz (bk _ _ (by simp[D.TIz,D.TITO,D.TIi1,D.TIi2]) c)
  ·exact r.extBut _ _ D.TOz b2
  ·exact b3.1.at λo q=>r.extBut _ _ D.i1z q
  ·exact b4.1.at λo q=>r.extBut _ _ D.i2z q
  ·have V:b<s.heap.objs.size:=by
    simp only[Dj,Ip,Ik]at hb;rcases hb with rfl | rfl | rfl | rfl | rfl
    ·exact CQ d
    ·exact CQ c
    ·exact CQ f
    ·obtain⟨o,e,_⟩:=j.obj;exact CQ e
    ·obtain⟨o,e,_⟩:=g.obj;exact CQ e
   rw[Cg (Df V)];exact(hf b hb).1
 done:=by
  intro X Y O L R i pins s σ H E I hf st M;subst Y O L;obtain⟨xs,ys,J,G,u⟩:=M;obtain⟨d,c,⟨u1,u2,f⟩,j,g⟩:=st;obtain⟨its,W,Q,hz⟩:=I.sqx J;obtain⟨its',p,m,T⟩:=I.sqx G;have e1:=W.length;have e2:=p.length;have l:its.toArray[i]?=none\/its'.toArray[i]?=none:=by
   rcases u with h | h
   ·left;simp;lia
   ·right;simp;lia
  refine Zp.wU (I.ok.hd R) D d c f (d1:=⟨j,Q⟩) (d2:=⟨g,m⟩) (λwx wy h' N S b1 b2 b5 b3 b4 bk=>?_) (λh' n bk=>⟨U,I.turnedL (t':=s.toks) (λb o hb e=>?_) hf⟩)
  ·exfalso;rcases l with n | n
   ·rw[N]at n;cases n
   ·rw[S]at n;cases n
  ·simp only[Dj,Ip,Ik,not_or]at hb;exact bk b o (by simp[hb]) e
 self:=λ_ _ _ _ _ st h=>wpAny_pyIter_zip st.1 h
section
variable {X:Cx}{es:List Expr}{kk:Nat}{tp:Pos}
def mO (t1 t2:Bool)(K:U0)(ta:TA):TI:=λσ H R=>ta σ H λvs H1=>∃l1 l2 xs ys,vs=[.ref l1,.ref l2]/\JV t1 K H1 l1 xs/\JV t2 K H1 l2 ys/\R (Y0 t1 t2 K l1 l2) H1
theorem bF(t1 t2:Bool){a b:Expr}{ta:TA}{p pos:Pos}(hg:Gl X "zip")(hm:X.mg "zip"=none)(ha:PA X [a,b] ta)(hs:starEach [a,b] X.env=[(false,eval a X.env),(false,eval b X.env)]:=by rfl)(hs2:starEach [b] X.env=[(false,eval b X.env)]:=by rfl):
  PI X (.Tuple es kk tp) (.Call (.Name "zip" p) [a,b] [] pos) (mO t1 t2 X.K ta):=by
 intro pins s σ H R I h;refine Call_ (Rv I hg hm boot_zip (PyProof.Rows.callWith_type1 (Bu (ha pos pins s σ H _ I h) λus d ⟨vs,H1,i,z,x⟩=>?_) (by rw[hs,hs2]) (by rw[hs2];rfl)));obtain⟨l1,l2,xs,ys,e,h1,h2,q⟩:=x;subst e;cases z with
 | cons r rr =>
  cases rr with
  | cons r' rr =>
   cases rr;cases r;cases r';obtain⟨its,F,j,E⟩:=i.sqx h1;obtain⟨its',w,f,A⟩:=i.sqx h2;refine Zp.X6p j f λh' ⟨n,B,v,C,u,k⟩=>?_;have t:∀c o,d.heap.get? c=some o->h'.get? c=some o:=λc o q=>k c o (by simp) q;have y:Inv X pins σ H1 {d with heap:=h'}:=i.kept (t':=d.toks) t;have m:l1<d.heap.objs.size:=by
    cases t1
    ·obtain⟨o,e,_⟩:=(show d.heap.IsList l1 _ from j);exact CQ e
    ·obtain⟨o,e,_⟩:=(show d.heap.IsTuple l1 _ from j);exact CQ e
   have l:l2<d.heap.objs.size:=by
    cases t2
    ·obtain⟨o,e,_⟩:=(show d.heap.IsList l2 _ from f);exact CQ e
    ·obtain⟨o,e,_⟩:=(show d.heap.IsTuple l2 _ from f);exact CQ e
   have D:ZipApart (d.heap.objs.size+4) (d.heap.objs.size+2) (d.heap.objs.size+3) d.heap.objs.size (d.heap.objs.size+1) l1 l2:=zipApart_new m l;refine wpAny_pyIter_zip n ⟨_,_,_,_,H1,U,y,X3r D,⟨n,B,⟨_,_,v⟩,C,u⟩,λb hb=>?_,q⟩;have g:d.heap.objs.size<=b:=by
    simp only[Dj,Ip,Ik]at hb;rcases hb with rfl | rfl | rfl | rfl | rfl
    ·exact Zd _ _
    ·exact Zd _ _
    ·exact Zd _ _
    ·exact CG _
    ·exact Zd _ _
   exact i.fpOk g (i.hok.fresh g)
end
theorem zO{t1 t2:Bool}{K:U0}{l1 l2:W9}{g:TG}{xs:List V}{te:TE}{fr:St}{H1:Hp}{acc:W9}{Q:VK}(Pv:Nat->List V->Hp->Prop)(hxy:xs.length=ys.length)(hn:xs.length<=sizeLine)(h0:Pv 0 [] (upd H1 acc (.lst [])))
  (hg:∀{a:W9}{x y v1 v2:V}{w1 w2:Option V}{H:Hp}{Q:St->Hp->Prop},H a=some (.tup [x,y])->Q (some x::some y::fr) H->g (.ref a) (w1::w2::fr) H Q)
  (hl:∀i zs H,Pv i zs H->JV t1 K H l1 xs/\JV t2 K H l2 ys)
  (hs:∀i x y zs H T (N:V->Hp->Prop),xs[i]?=some x->ys[i]?=some y->zs.length=i->Pv i zs H->H T=none->(∀z c,c acc=some (.lst zs)->Pv (i+1) (zs++[z]) (upd c acc (.lst (zs++[z])))->N z c)->te (some x::some y::fr) (upd H T (.tup [x,y])) N)
  (hd:∀zs H,zs.length=xs.length->Pv xs.length zs H->Q (.ref acc) H):Jl (Y0 t1 t2 K l1 l2) g te (none::none::fr) H1 acc Q:=by
 refine⟨λi m zs h H2=>m=xs.length-i/\i<=xs.length/\zs.length=i/\(∃v w,h=v::w::fr)/\Pv i zs H2,⟨xs.length,by simp,Gz _,U,⟨_,_,U⟩,h0⟩,?_⟩;rintro i m zs h H2 ⟨rfl,hi,b,⟨v,w,rfl⟩,p⟩;obtain⟨d,f⟩:=hl i zs H2 p;by_cases hlt:i<xs.length
 ·have e1:xs[i]?=some xs[i]:=by simp[hlt]
  have e2:ys[i]?=some (ys[i]'(by lia)):=by simp[show i<ys.length by lia]
  refine .inr ⟨⟨xs,_,ys,_,d,e1,f,e2⟩,λu r q=>?_⟩;obtain⟨T,x,y,rfl,l,rfl,h1,h2⟩:=q;have k:=h1 xs d;have n:=h2 ys f;refine hg (v1:=x) (v2:=y) (Ax) ?_;refine hs i x y zs H2 T _ k n b p l λz c o j=>⟨o,by lia,xs.length-(i+1),by lia,U,hlt,by rw[JM,b];rfl,⟨_,_,U⟩,j⟩
 ·have e:i=xs.length:=by lia
  subst e;exact .inl ⟨⟨xs,ys,d,f,.inl (CG _)⟩,hd zs H2 b p⟩
end L2
namespace Bt
theorem o8(x y:Nat):(x&&&y)=2*((x / 2)&&&(y / 2))+(x%2)*(y%2):=by
 have h1:(x&&&y) / 2=(x / 2)&&&(y / 2):=Nat.and_div_two;have h2:(x&&&y)%2=1↔x%2=1/\y%2=1:=Nat.and_mod_two_eq_one;rcases Jv x with a | a<;>rcases Jv y with b | b<;>rw[a,b]at h2 ⊢<;>lia
theorem W4n(x y:Nat):(x ||| y)=2*((x / 2) ||| (y / 2))+(x%2+y%2-(x%2)*(y%2)):=by
 have h1:(x ||| y) / 2=(x / 2) ||| (y / 2):=Nat.or_div_two
 have h2:(x ||| y)%2=1↔x%2=1\/y%2=1:=Nat.or_mod_two_eq_one;rcases Jv x with a | a<;>rcases Jv y with b | b<;>rw[a,b]at h2 ⊢<;>lia
def Half (x y:Int):Prop:=Builtin.bitAnd x y=2*Builtin.bitAnd (x / 2) (y / 2)+(x%2)*(y%2)
variable{x y:Int}
theorem Half.swap(h:Half x y):Half y x:=by
 unfold Half at h ⊢;rw[bitAnd_comm y x,bitAnd_comm (y / 2),Jc (y%2)];exact h
theorem Half.flip(h:Half x (Builtin.bitNot y)):Half x y:=by
 unfold Half at h ⊢;have e:=bitAnd_not x (Builtin.bitNot y);have e2:=bitAnd_not (x / 2) (Builtin.bitNot (y / 2));rw[ZR]at e e2;have q:Builtin.bitNot (y / 2)=Builtin.bitNot y / 2:=by unfold Builtin.bitNot;lia
 have p:x%2*(y%2)=x%2-x%2*(Builtin.bitNot y%2):=by
  rw[show y%2=1-Builtin.bitNot y%2 by unfold Builtin.bitNot;lia,Int.mul_sub,Int.mul_one]
 rw[e,e2,q,h,p];lia
theorem Half.pos(hx:0<=x)(hy:0<=y):Half x y:=by
 have h:∀{z:Int},0<=z->z.toNat / 2=(z / 2).toNat/\((z.toNat%2:Nat):Int)=z%2:=λh=>by lia
 unfold Half;rw[bitAnd_pp hx hy,bitAnd_pp (ZW hx (by decide)) (ZW hy (by decide)),o8,(h hx).1,(h hy).1,<-(h hx).2,<-(h hy).2,Int.natCast_add,iK,iK];rfl
theorem Half.right(hx:0<=x)(y:Int):Half x y :=
 (Classical.em (0<=y)).elim (Half.pos hx) λa=>(Half.pos hx (bitNot_nonneg.mpr a)).flip
theorem pU(x y:Int):Builtin.bitAnd x y=2*Builtin.bitAnd (x / 2) (y / 2)+(x%2)*(y%2):=
 (Classical.em (0<=x)).elim (λa=>Half.right a y) λa=>(Half.right (bitNot_nonneg.mpr a) y).swap.flip.swap
theorem W0d(x y:Int):Builtin.bitOr x y=2*Builtin.bitOr (x / 2) (y / 2)+(x%2+y%2-(x%2)*(y%2)):=by
 rw[bitOr_and,bitOr_and,pU];lia
theorem oF{v:Nat}:(2:Int)^(v+1) ∣ x↔x%2=0/\(2:Int)^v ∣ x / 2:=by
 constructor
 ·rintro ⟨k,rfl⟩;have e:(2:Int)^(v+1)*k=2*(2^v*k):=by rw[WM];grind
  rw[e];exact⟨by lia,⟨k,by lia⟩⟩
 ·rintro ⟨b,k,a⟩;refine⟨k,?_⟩;have e:(2:Int)^(v+1)*k=2*(2^v*k):=by rw[WM];grind
  rw[e,<-a];lia
theorem Uc:∀(v:Nat) (x y:Int),(2:Int)^v ∣ Builtin.bitOr x y↔(2:Int)^v ∣ x/\(2:Int)^v ∣ y
 | 0,x,y=>by simp
 | v+1,x,y=>by
  rw[oF,oF,oF];have e:=W0d x y;have f:=Uc v (x / 2) (y / 2);have ex:=ZX x;have d:=ZX y;rcases ex with a | a<;>rcases d with b | b<;>rw[a,b]at e ⊢
  ·have e2:Builtin.bitOr x y / 2=Builtin.bitOr (x / 2) (y / 2):=by lia
   rw[e2,f];have c:Builtin.bitOr x y%2=0:=by lia
   simp[c]
  all_goals
   have c:Builtin.bitOr x y%2=1:=by lia
   simp[c]
theorem Y7z(n:Nat):n<2^n:=Nat.lt_two_pow_self
theorem uw(h:∀v:Nat,(2:Int)^v ∣ x):x=0:=by
 have h1:=h x.natAbs;apply Classical.byContradiction;intro b;have h2:=Zi.mpr h1;have a:=Nat.le_of_dvd (by lia) h2;rw[Int.natAbs_pow]at a;have:=Y7z x.natAbs;have e:(2:Int).natAbs=2:=rfl;rw[e]at a;lia
theorem pA:Builtin.bitOr x y=0↔x=0/\y=0:=by
 constructor
 ·intro h;have hd:∀v:Nat,(2:Int)^v ∣ Builtin.bitOr x y:=λv=>by rw[h];exact Int.dvd_zero _
  exact⟨uw λv=>((Uc v x y).mp (hd v)).1,uw λv=>((Uc v x y).mp (hd v)).2⟩
 ·rintro ⟨rfl,rfl⟩;decide +kernel
theorem X1f:∀(n:Nat) (p:Int),p.natAbs<n->p≠0->∃(v:Nat) (q:Int),p=2^v*q/\q%2=1/\Builtin.bitAnd p (-p)=((2^v:Nat):Int)
 | 0,p,h,_=>by lia
 | n+1,p,h,hp=>by
  rcases ZX p with h0 | h1
  ·obtain⟨v,q,e,o,b⟩:=X1f n (p / 2) (by lia) (by lia);refine⟨v+1,q,?_,o,?_⟩
   ·have e2:(2:Int)^(v+1)*q=2*(2^v*q):=by rw[WM];grind
    rw[e2,<-e];lia
   ·rw[pU,show (-p) / 2=-(p / 2) by lia,b,h0,QL];lia
  ·refine⟨0,p,by simp,h1,?_⟩;rw[pU,show (-p) / 2=Builtin.bitNot (p / 2) by unfold Builtin.bitNot;lia,bitAnd_not,bitAnd_self,h1,show (-p)%2=1 by lia];rw[Int.sub_self];rfl
theorem pW(v:Nat):Builtin.Int.intBits ((2^v:Nat):Int)=v+1:=by
 unfold Builtin.Int.intBits;have hp:0<2^v:=Cu v;have a:((((2^v:Nat):Int)) == 0)=false:=by
  rw[beq_eq_false_iff_ne];lia
 rw[a,Wg,Nat.log2_two_pow];rfl
end Bt
namespace L2
section
variable {X:Cx}
def Nb (i j:Int):Prop:=∃a,Sz a i/\0<=j/\(a:Int)+j<=1048576
theorem G3:Eh X (binaryOp .LShift) (rI Nb λi j=>.int (i*2^j.toNat)):=Rm λi j _ _ _ _ _ b q=>by
 obtain⟨a,h1,h2,c⟩:=b;have:=h1.bits;exact lshift_int h2 (by lia) q
theorem Q0:rJ X "int.bit_length" (λx xs H Q=>∃i,x=.int i/\xs=[]/\Q (.int (Builtin.Int.intBits i:Nat)) H):=by
 intro pins s σ H x xs v us Q I a rs h;obtain⟨i,rfl,rfl,q⟩:=h;obtain⟨t,rfl⟩:=a;cases rs;refine call_gives Oo (typeIs_int s i t) PySem.F.entry_int_bit_length (PySem.F.args_int_bit_length_1 _) (PySem.AutoIntG2.int_bit_length_int_0 i t) ?_;exact⟨.int (Builtin.Int.intBits i:Nat),H,I.tok _,⟨_,U⟩,q⟩
theorem yD(hc:X.calm=true):Cr X (.builtin "any") (λxs H Q=>∃(p:W9) (bs:List Bool),xs=[.ref p]/\Aw X.K H p (bs.map V.bl)/\Q (.bl (bs.any id)) H):=by
 intro pins s σ H xs us Q I r h;obtain⟨p,bs,rfl,n,q⟩:=h;obtain⟨u,rfl,f⟩:=r.one;cases f;obtain⟨its,l,j,B⟩:=I.list n;have a:its.length=bs.length:=by rw[<-l.length,Bg]
 refine call_any_walk (Wf j.isList ?_)
 have W:=Walks.list (prog:=X.prog) (w:=X.w) (A:=X.A.in1) (show X.A.in1.handled=none from I.ok.hd hc) s.heap.objs.size p (by
  obtain⟨o,e,_⟩:=j.isList
  exact Df (CQ e)) its.toArray
 refine⟨s.heap.objs.size,_,_,_,_,_,λi=>bs.getD i false,U,W,⟨⟨_,GC _ rfl,U,U⟩,j.isList.push _⟩,?_,λh' tk x=>?_⟩
 ·intro i v s' z C y t;have c:its[i]?=some v:=by simpa using y
  have hi:i<bs.length:=by rw[<-a];exact(Et.mp c).1
  have hb:(bs.map V.bl)[i]?=some (.bl (bs.getD i false)):=by
   rw[Cj,Cm hi,CP,Cm hi];rfl
  obtain⟨u,m,f⟩:=l.get hb;rw[c]at m;cases m;cases f;exact Oi t
 ·have e:(List.range its.toArray.size).any (λi=>bs.getD i false)=bs.any id:=by
   rw[Fb,a];rw[Tj,Zc,Zc];constructor
   ·rintro ⟨i,hi,hb⟩;have d:i<bs.length:=Ek.mp hi;rw[CP,Cm d]at hb;exact⟨bs[i],Rc d,hb⟩
   ·rintro ⟨b,hb,g⟩;obtain⟨i,hi,rfl⟩:=Om.mp hb;refine⟨i,Ek.mpr hi,?_⟩;rw[CP,Cm hi];exact g
  rw[e];refine⟨.bl (bs.any id),H,?_,U,q⟩;exact I.kept (t':=tk) λb o k=>x b o (by simp;exact Df (CQ k)) (Ec _ k)
end
end L2
namespace Am
noncomputable abbrev p2 (h:Int):Int:=2^h.toNat
theorem Oz(h:Int):0<p2 h:=ZF (by decide)
theorem Gw(h:Int):p2 h≠0:=by have:=Oz h;lia
variable{a b:Int}
theorem JQ(ha:0<=a)(hb:0<=b):p2 (a+b)=p2 a*p2 b:=by
 unfold p2;rw[show (a+b).toNat=a.toNat+b.toNat by lia,Int.pow_add]
theorem Kg(hb:0<=b)(h:b<=a):p2 a=p2 (a-b)*p2 b:=by
 rw[<-JQ (by lia) hb];congr 1;lia
structure G5 (a b c d h:Int):Prop where
 nn:0<=h
 odd:h=0\/a%2=1\/b%2=1\/c%2=1\/d%2=1
def FZ (x h y g:Int):Prop:=x*p2 g=y*p2 h
structure Ca (a b c d h a' b' c' d' h':Int):Prop where
 e1:FZ a h a' h'
 e2:FZ b h b' h'
 e3:FZ c h c' h'
 e4:FZ d h d' h'
variable{c d h a' b' c' d' h':Int}
theorem Ca.symm(s:Ca a b c d h a' b' c' d' h'):Ca a' b' c' d' h' a b c d h:=⟨s.e1.symm,s.e2.symm,s.e3.symm,s.e4.symm⟩
variable{x y g:Int}
theorem FZ.trans{z k:Int}(a:FZ x h y g)(b:FZ y g z k):FZ x h z k:=by
 unfold FZ at *;have h1:(x*p2 k)*p2 g=(z*p2 h)*p2 g:=by
  have e1:(x*p2 k)*p2 g=(x*p2 g)*p2 k:=by grind
  have e2:(z*p2 h)*p2 g=(z*p2 g)*p2 h:=by grind
  rw[e1,e2,a,<-b];grind
 exact Ka (Gw g) h1
theorem Ca.trans{a2 b2 c2 d2 h2:Int}(s:Ca a b c d h a' b' c' d' h')(t:Ca a' b' c' d' h' a2 b2 c2 d2 h2):Ca a b c d h a2 b2 c2 d2 h2 :=
 ⟨s.e1.trans t.e1,s.e2.trans t.e2,s.e3.trans t.e3,s.e4.trans t.e4⟩
theorem FZ.lift(hh:0<=h)(hg:h<=g)(e:FZ x h y g):y=x*p2 (g-h):=by
 unfold FZ at e;rw[Kg hh hg]at e;have:(x*p2 (g-h))*p2 h=y*p2 h:=by rw[<-e];grind
 exact(Ka (Gw h) this).symm
theorem Z_{n:Int}(hn:0<n):(x*p2 n)%2=0:=by
 have e:p2 n=p2 (n-1)*2:=by
  rw[Kg (a:=n) (b:=1) (by decide) (by lia)];rfl
 rw[e,<-RX];lia
theorem G5.unique_le(x:G5 a b c d h)(y:G5 a' b' c' d' h')(s:Ca a b c d h a' b' c' d' h')(hle:h<=h'):a=a'/\b=b'/\c=c'/\d=d'/\h=h':=by
 have e1:=s.e1.lift x.nn hle;have e2:=s.e2.lift x.nn hle;have e3:=s.e3.lift x.nn hle;have e4:=s.e4.lift x.nn hle;have e:h=h':=by
  apply Classical.byContradiction;intro f;have hp:0<h'-h:=by lia
  have o:=y.odd;rw[e1,e2,e3,e4,Z_ hp,Z_ hp,Z_ hp,Z_ hp]at o;have:=x.nn;lia
 subst e;simp only[Int.sub_self,p2,Int.toNat_zero,Int.pow_zero,Int.mul_one]at e1 e2 e3 e4;exact⟨e1.symm,e2.symm,e3.symm,e4.symm,U⟩
theorem G5.unique(x:G5 a b c d h)(y:G5 a' b' c' d' h')(s:Ca a b c d h a' b' c' d' h'):a=a'/\b=b'/\c=c'/\d=d'/\h=h':=by
 rcases TX h h' with hle | hle
 ·exact x.unique_le y s hle
 ·obtain⟨f,j,i,e,g⟩:=y.unique_le x s.symm hle;exact⟨f.symm,j.symm,i.symm,e.symm,g.symm⟩
noncomputable abbrev GD (a b c d:Int):Int:=Builtin.bitOr (Builtin.bitOr (Builtin.bitOr a b) c) d
variable{v:Nat}
theorem Hh:(2:Int)^v ∣ GD a b c d↔((2:Int)^v ∣ a/\(2:Int)^v ∣ b/\(2:Int)^v ∣ c/\(2:Int)^v ∣ d):=by
 unfold GD;rw[Bt.Uc,Bt.Uc,Bt.Uc];constructor
 ·rintro ⟨⟨⟨h1,h2⟩,f⟩,e⟩;exact⟨h1,h2,f,e⟩
 ·rintro ⟨h1,h2,f,e⟩;exact⟨⟨⟨h1,h2⟩,f⟩,e⟩
theorem Jx:GD a b c d=0↔(a=0/\b=0/\c=0/\d=0):=by
 unfold GD;rw[Bt.pA,Bt.pA,Bt.pA];constructor
 ·rintro ⟨⟨⟨h1,h2⟩,f⟩,e⟩;exact⟨h1,h2,f,e⟩
 ·rintro ⟨h1,h2,f,e⟩;exact⟨⟨⟨h1,h2⟩,f⟩,e⟩
theorem lowest(hp:GD a b c d≠0):∃v:Nat,((Builtin.Int.intBits (Builtin.bitAnd (GD a b c d) (-(GD a b c d))):Nat):Int)-1=v/\((2:Int)^v ∣ a/\(2:Int)^v ∣ b/\(2:Int)^v ∣ c/\(2:Int)^v ∣ d) /\
  ¬ ((2:Int)^(v+1) ∣ a/\(2:Int)^(v+1) ∣ b/\(2:Int)^(v+1) ∣ c/\(2:Int)^(v+1) ∣ d):=by
 obtain⟨v,q,e,o,g⟩:=Bt.X1f _ (GD a b c d) (Oh _) hp;refine⟨v,by rw[g,Bt.pW];lia,Hh.mp ⟨q,e⟩,λh=>?_⟩;have h':=Hh.mpr h;obtain⟨k,f⟩:=h';rw[e,WM,RX]at f;have:=Tz (ZL (ZF (by decide):(0:Int)<2^v)) f;lia
theorem Zx{m:Int}(hm:0<=m)(hmh:m<=h)(hd:(2:Int)^m.toNat ∣ x):FZ x h (x / 2^m.toNat) (h-m)/\(x / 2^m.toNat).natAbs<=x.natAbs:=by
 obtain⟨k,rfl⟩:=hd;have a:(2:Int)^m.toNat≠0:=Gw m;rw[tY _ a];constructor
 ·unfold FZ;rw[Kg hm hmh];show 2^m.toNat*k*p2 (h-m)=k*(p2 (h-m)*2^m.toNat);grind
 ·rw[Jd];exact sY _ (by lia)
theorem aY{m:Nat}(h:m<=v)(hd:(2:Int)^v ∣ x):(2:Int)^m ∣ x:=by
 obtain⟨k,rfl⟩:=hd;refine⟨2^(v-m)*k,?_⟩;rw[<-RX,<-Int.pow_add,show m+(v-m)=v by lia]
theorem Xi(hh:0<=h)(hd:(2:Int)^v ∣ a/\(2:Int)^v ∣ b/\(2:Int)^v ∣ c/\(2:Int)^v ∣ d)
  (hn:¬ ((2:Int)^(v+1) ∣ a/\(2:Int)^(v+1) ∣ b/\(2:Int)^(v+1) ∣ c/\(2:Int)^(v+1) ∣ d)) {m:Int} (hm:m=if h<v then h else v):
  0<=m/\m<=h/\G5 (a / 2^m.toNat) (b / 2^m.toNat) (c / 2^m.toNat) (d / 2^m.toNat) (h-m)/\Ca a b c d h (a / 2^m.toNat) (b / 2^m.toNat) (c / 2^m.toNat) (d / 2^m.toNat) (h-m) /\
  ((a / 2^m.toNat).natAbs<=a.natAbs/\(b / 2^m.toNat).natAbs<=b.natAbs/\(c / 2^m.toNat).natAbs<=c.natAbs/\(d / 2^m.toNat).natAbs<=d.natAbs):=by
 have i:0<=m:=by rw[hm];split<;>lia
 have g:m<=h:=by rw[hm];split<;>lia
 have j:m.toNat<=v:=by rw[hm];split<;>lia
 obtain⟨d1,d2,r,t⟩:=hd;have s:=Zx i g (aY j d1);have q:=Zx i g (aY j d2);have u:=Zx i g (aY j r);have p:=Zx i g (aY j t);refine⟨i,g,⟨by lia,?_⟩,⟨s.1,q.1,u.1,p.1⟩,s.2,q.2,u.2,p.2⟩;by_cases hlt:h<v
 ·left;rw[hm,if_pos hlt];lia
 ·right;have n:m.toNat=v:=by rw[hm,if_neg hlt];lia
  rw[n];have e:∀x:Int,(2:Int)^v ∣ x->¬ (x / 2^v)%2=1->(2:Int)^(v+1) ∣ x:=by
   rintro x ⟨k,rfl⟩ w;have l:(2:Int)^v≠0:=ZL (ZF (by decide));rw[tY _ l]at w;refine⟨k / 2,?_⟩;rw[WM,RX];congr 1;lia
  apply Classical.byContradiction;intro f;apply hn;refine⟨e a d1 λo=>f (.inl o),e b d2 λo=>f (.inr (.inl o)),e c r λo=>f (.inr (.inr (.inl o))),e d t λo=>f (.inr (.inr (.inr o)))⟩
end Am
namespace Pc
noncomputable def pc (n:Nat):Nat:=if h:n=0 then 0 else n%2+pc (n / 2)
theorem GJ:pc 0=0:=by unfold pc;simp
theorem Qt(n:Nat):pc n=n%2+pc (n / 2):=by
 by_cases h:n=0
 ·subst h;rw[show (0 / 2:Nat)=0 from rfl,GJ]
 ·conv=>lhs;unfold pc
  rw[dif_neg h]
theorem O7(x y:Nat):(x^^^y)=2*((x / 2)^^^(y / 2))+(x%2+y%2)%2:=by
 have h1:(x^^^y) / 2=(x / 2)^^^(y / 2):=Nat.xor_div_two;have h2:(x^^^y)%2=(x%2+y%2)%2:=by
  have:=Nat.xor_mod_two_eq_one (a:=x) (b:=y);rcases Jv x with a | a<;>rcases Jv y with b | b<;>rcases Jv (x^^^y) with c | c<;>simp[a,b,c]at this ⊢
 lia
theorem vH:∀(m n:Nat),n<m->n≠0->pc (n&&&(n-1))+1=pc n
 | 0,n,h,_=>by lia
 | m+1,n,h,hn=>by
  have e:=Bt.o8 n (n-1);rw[Qt n,Qt (n&&&(n-1))];rcases Jv n with a | a
  ·have e1:(n-1) / 2=n / 2-1:=by lia
   rw[e1,a,WQ]at e;have e2:(n&&&(n-1)) / 2=n / 2&&&(n / 2-1):=by lia
   have b:(n&&&(n-1))%2=0:=by lia
   rw[e2,b,a];have:=vH m (n / 2) (by lia) (by lia);lia
  ·have e1:(n-1) / 2=n / 2:=by lia
   have c:(n-1)%2=0:=by lia
   rw[e1,c,ZQ,Nat.and_self]at e;have e2:(n&&&(n-1)) / 2=n / 2:=by lia
   have b:(n&&&(n-1))%2=0:=by lia
   rw[e2,b,a];lia
theorem zY:∀(m x y:Nat),x<m->y<m->pc (x^^^y)%2=(pc x+pc y)%2
 | 0,x,y,h,_=>by lia
 | m+1,x,y,hx,hy=>by
  by_cases z:x=0/\y=0
  ·obtain⟨rfl,rfl⟩:=z;rw[show (0^^^0:Nat)=0 from rfl,GJ]
  ·have e:=O7 x y;rw[Qt (x^^^y),Qt x,Qt y,show (x^^^y) / 2=x / 2^^^y / 2 by lia];by_cases q:x / 2<m/\y / 2<m
   ·have:=zY m (x / 2) (y / 2) q.1 q.2;lia
   ·exfalso;lia
theorem Jw(x y:Nat):pc (x^^^y)%2=(pc x+pc y)%2:=zY (x+y+1) x y (by lia) (by lia)
theorem Yd:∀(m x y:Nat),x<m->y<m->(x ||| y)=(x^^^y)+(x&&&y)
 | 0,x,y,h,_=>by lia
 | m+1,x,y,hx,hy=>by
  by_cases z:x=0/\y=0
  ·obtain⟨rfl,rfl⟩:=z;rfl
  ·have e:=O7 x y;have e1:=Bt.o8 x y;have e2:=Bt.W4n x y;by_cases q:x / 2<m/\y / 2<m
   ·have:=Yd m (x / 2) (y / 2) q.1 q.2;rcases Jv x with a | a<;>rcases Jv y with b | b<;>rw[a,b]at e e1 e2<;>lia
   ·exfalso;lia
theorem Jg(x y:Nat):Builtin.bitAnd (x:Int) (y:Int)=((x&&&y:Nat):Int):=by rw[bitAnd_pp (by lia) (by lia)];simp
theorem J5(x y:Nat):Builtin.bitXor (x:Int) (y:Int)=((x^^^y:Nat):Int):=by
 have h:Builtin.bitXor (x:Int) (y:Int)=Builtin.bitOr x y-Builtin.bitAnd x y:=rfl;have h2:Builtin.bitOr (x:Int) (y:Int)=((x ||| y:Nat):Int):=by
  unfold Builtin.bitOr;rw[bitAnd_nn (by unfold Builtin.bitNot;lia) (by unfold Builtin.bitNot;lia),ZR,ZR,ZR];simp
 rw[h,h2,Jg,Yd (x+y+1) x y (by lia) (by lia)];lia
theorem Ug{x y n:Nat}(h:x<2^n)(h':y<2^n):(x^^^y)<2^n:=Er h h'
end Pc
namespace L2
theorem Same.tup{K:U0}{H H':Hp}{a:W9}{xs:List V}(e:Same H H')(h:Ag K H a xs):Ag K H' a xs:=by
 rcases h with h | h
 ·rcases h with h | ⟨o,h⟩
  ·exact .inl (.inl (e _ _ h))
  ·exact .inl (.inr ⟨o,e _ _ h⟩)
 ·exact .inr h
variable{K:U0}{H H':Hp}{a:W9}
theorem Same.sqx{t:Bool}{xs:List V}(e:Same H H')(h:JV t K H a xs):JV t K H' a xs:=by
 cases t
 ·exact e.seq (show Aw K H a xs from h)
 ·exact e.tup (show Ag K H a xs from h)
section
variable {X:Cx}{scope:Scope}{Nc:W0}{ex:U3}{pins:U1}{s:U7}{H:Hp}
theorem Z0:Yz (Bq X scope Nc ex pins s H) (V9 X.K):=Fv
theorem Uj:Yz (Bq X scope Nc ex pins s H) (V8 X.K):=Ao
theorem R8{x y:Str}{k:Nat}{p1 p2 pos:Pos}(hc:(Bq X scope Nc ex pins s H).calm=true)(hN:Nc.Nodup)(h0:Nc[0]?=some x)(h1:Nc[1]?=some y)(l0:(Bq X scope Nc ex pins s H).env.scope.names.lookup x=some .local)(l1:(Bq X scope Nc ex pins s H).env.scope.names.lookup y=some .local):
  PG (Bq X scope Nc ex pins s H) (.Tuple [.Name x p1,.Name y p2] k pos) (Xj X.K 2 (Mx (CZ 0) (Mx (CZ 1) Xk))):=
 oO (X:=Bq X scope Nc ex pins s H) hc (Qy (DR (i:=0) hN h0 (.inl l0) (.inr l0)) (Qy (DR (i:=1) hN h1 (.inl l1) (.inr l1)) bR))
end
theorem X1l{t1 t2:Bool}{l1 l2:W9}{g:TG}{ns ms:U6}{te:TE}{fr:St}{H1:Hp}{acc:W9}{Q:VK}(f:Int->Int->Int)(hxy:ns.length=ms.length)(hn:ns.length<=sizeLine)
  (h1:JV t1 K H1 l1 (ns.map V.int)) (h2:JV t2 K H1 l2 (ms.map V.int)) (hacc:H1 acc=none)
  (hg:∀{a:W9}{x y:V}{w1 w2:Option V}{H:Hp}{Q:St->Hp->Prop},H a=some (.tup [x,y])->Q (some x::some y::fr) H->g (.ref a) (w1::w2::fr) H Q)
  (hs:∀n m H (N:V->Hp->Prop),n∈ns->m∈ms->N (.int (f n m)) H->te (some (.int n)::some (.int m)::fr) H N)
  (hd:∀H2,Same H1 H2->H2 acc=some (.lst ((List.zipWith f ns ms).map V.int))->Q (.ref acc) H2):Jl (Y0 t1 t2 K l1 l2) g te (none::none::fr) H1 acc Q:=by
 refine zO (xs:=ns.map V.int) (ys:=ms.map V.int) (λi zs H'=>Same H1 H'/\H' acc=some (.lst zs)/\zs=((List.zipWith f ns ms).take i).map V.int) (by simp[hxy]) (by simp;exact hn)
  ⟨BR hacc _,Ax,U⟩ (λr t=>hg r t) (λi zs H p=>⟨p.1.sqx h1,p.1.sqx h2⟩) ?_ ?_
 ·rintro i x y zs H T N l o q ⟨j,d,e2⟩ h s;rw[Cj]at l o;obtain⟨n,b,rfl⟩:=Es.mp l;obtain⟨m,c,rfl⟩:=Es.mp o;refine hs n m _ _ (GQ b) (GQ c) ?_;have k:acc≠T:=λe=>by rw[<-e,d]at h;cases h
  refine s _ _ (by rw[Cg k];exact d) ⟨Fw (j.trans (BR h _)) hacc,Ax,?_⟩;have:(List.zipWith f ns ms)[i]?=some (f n m):=by rw[List.getElem?_zipWith,b,c]
  rw[Jt,this,DW,e2];rfl
 ·rintro zs H q ⟨j,d,e2⟩;refine hd H j ?_;rw[d,e2,Zj];simp only[List.length_zipWith,Bg];lia
section
variable {K:U0}{a:W9}{ns:U6}{te:TE}{fr:St}{H1:Hp}{acc:W9}{Q:VK}
theorem oh{J:It}{n:Nat}{val:Nat->V}(f:Nat->V)(hn:n<=sizeLine)(hacc:H1 acc=none)
  (hgo:∀i H,i<n->Same H1 H->J.go i H/\∀x H',J.yld i H x H'->H'=H/\x=val i) (hst:∀H,Same H1 H->J.stop n H)
  (hs:∀i H (N:V->Hp->Prop),i<n->Same H1 H->N (f i) H->te (some (val i)::fr) H N)
  (hd:∀H2,Same H1 H2->H2 acc=some (.lst ((List.range n).map f))->Q (.ref acc) H2):Jl J (CZ 0) te (none::fr) H1 acc Q:=by
 refine qz (val:=val) (λi ys H'=>Same H1 H'/\H' acc=some (.lst ys)/\ys=(List.range i).map f) hn ⟨BR hacc _,Ax,U⟩ (λi ys H hi p=>hgo i H hi p.1) (λys H p=>hst H p.1) ?_ ?_
 ·rintro i ys H N hi c ⟨a,b,e2⟩ d;refine hs i H N hi a (d _ _ b ⟨Fw a hacc,Ax,?_⟩);rw[e2,Ra,DW];rfl
 ·rintro ys H c ⟨a,b,e2⟩;exact hd H a (by rw[b,e2])
theorem nW(ns:U6)(f:Int->V):(List.range ns.length).map (λi=>f (ns.getD i 0))=ns.map f:=by
 apply Wa
 ·simp
 ·intro i h1 h2;simp at h1;simp[h1]
theorem X5u(f:Int->V)(hl:Aw K H1 a (ns.map V.int))(hn:ns.length<=sizeLine)(hacc:H1 acc=none)(hs:∀n H (N:V->Hp->Prop),Same H1 H->N (f n) H->te (some (.int n)::fr) H N)
  (hd:∀H2,Same H1 H2->H2 acc=some (.lst (ns.map f))->Q (.ref acc) H2):Jl (Lx K a) (CZ 0) te (none::fr) H1 acc Q:=by
 refine oh (n:=ns.length) (val:=λi=>.int (ns.getD i 0)) (λi=>f (ns.getD i 0)) hn hacc (λi H hi s=>?_) (λH s=>⟨_,s.seq hl,by simp⟩) (λi H N hi s b=>hs _ H N s b) (λH2 s h=>hd H2 s (by rw[h,nW]));have e:(ns.map V.int)[i]?=some (.int (ns.getD i 0)):=by simp[hi]
 refine⟨⟨_,_,s.seq hl,e⟩,λx H' y=>⟨y.1,?_⟩⟩;have:=y.2 _ (s.seq hl);rw[e]at this;exact(Option.some.inj this).symm
end
section
variable {X:Cx}
end
theorem X5v{ns:U6}{te:TE}{fr:St}{H1:Hp}{acc:W9}{Q:VK}(f:Int->V)(hl:Aw K H1 a (ns.map V.int))(hn:ns.length<=sizeLine)(hacc:H1 acc=none)(hs:∀n H (N:V->Hp->Prop),n∈ns->Same H1 H->N (f n) H->te (some (.int n)::fr) H N)
  (hd:∀H2,Same H1 H2->H2 acc=some (.lst (ns.map f))->Q (.ref acc) H2):Jl (Lx K a) (CZ 0) te (none::fr) H1 acc Q:=by
 refine oh (n:=ns.length) (val:=λi=>.int (ns.getD i 0)) (λi=>f (ns.getD i 0)) hn hacc (λi H hi s=>?_) (λH s=>⟨_,s.seq hl,by simp⟩) (λi H N hi s b=>hs _ H N (by simp[hi]) s b) (λH2 s h=>hd H2 s (by rw[h,nW]));have e:(ns.map V.int)[i]?=some (.int (ns.getD i 0)):=by simp[hi]
 refine⟨⟨_,_,s.seq hl,e⟩,λx H' y=>⟨y.1,?_⟩⟩;have:=y.2 _ (s.seq hl);rw[e]at this;exact(Option.some.inj this).symm
section
variable {κ:Type} [DecidableEq κ]
noncomputable def Di (kvs:List (κ×V))(k:κ):Option V:=(kvs.find? λkv=>decide (kv.1=k)).map (·.2)
noncomputable def putK (kvs:List (κ×V))(k:κ)(v:V):List (κ×V):=
 if (kvs.any λkv=>decide (kv.1=k))=true then kvs.map (λkv=>if kv.1=k then (kv.1,v) else kv) else kvs++[(k,v)]
theorem X3o{k:κ}:Di ([]:List (κ×V)) k=none:=rfl
variable{p:κ×V}{r:List (κ×V)}
theorem YS{k:κ}(e:p.1=k):Di (p::r) k=some p.2:=by simp[Di,Tn,e]
theorem YQ{k:κ}(e:¬ p.1=k):Di (p::r) k=Di r k:=by simp[Di,Tn,e]
theorem m9(k:κ):∀kvs:List (κ×V),(kvs.any λa=>decide (a.1=k))=(Di kvs k).isSome
 | []=>rfl
 | p::r=>by
  rw[Te];by_cases e:p.1=k
  ·simp only[YS e,Gb e,Bool.true_or,Option.isSome_some]
  ·rw[YQ e,FJ e,Td];exact m9 k r
theorem ud(kvs:List (κ×V))(k:κ)(v:V):(putK kvs k v).length<=kvs.length+1:=by
 unfold putK;split
 ·rw[Bg];lia
 ·rw[JM,Nk,List.length_nil];lia
variable{kvs:List (κ×V)}
theorem X4h{k:κ}(v:V)(h:Di kvs k=none):putK kvs k v=kvs++[(k,v)]:=by
 unfold putK;rw[m9,h];exact if_neg (by decide)
theorem GZ.isSome_eq{o:Option V}{u:Option Value}(r:GZ o u):o.isSome=u.isSome:=by
 cases o with
 | none=>cases u with
  | none=>rfl
  | some _=>exact(show False from r).elim
 | some _=>cases u with
  | none=>exact(show False from r).elim
  | some _=>rfl
variable{vs:List (κ×Value)}
theorem KV.val(r:KV kvs vs)(k:κ):GZ (Di kvs k) (valueAt vs k):=by
 unfold KV at r;induction r with
 | nil=>exact True.intro
 | @cons p q ps qs h t ih =>
  obtain⟨h1,h2⟩:=h;by_cases e:p.1=k
  ·have a:q.1=k:=h1.symm.trans e;have b:valueAt (q::qs) k=some q.2:=by simp[valueAt,Tn,a]
   rw[YS e,b];exact h2
  ·have a:¬ q.1=k:=λz=>e (h1.trans z);have b:valueAt (q::qs) k=valueAt qs k:=by simp[valueAt,Tn,a]
   rw[YQ e,b];exact ih
theorem KV.any(r:KV kvs vs)(k:κ):(kvs.any λa=>decide (a.1=k))=vs.any λa=>decide (a.1=k):=by
 unfold KV at r;induction r with
 | nil=>rfl
 | cons h t ih=>rw[Te,Te,ih,h.1]
theorem KV.repl(r:KV kvs vs)(k:κ){y:V}{u:W2}(ry:RelV y u):
  KV (kvs.map λa=>if a.1=k then (a.1,y) else a) (vs.map λa=>if a.1=k then (a.1,u) else a):=by
 unfold KV at r ⊢;induction r with
 | nil=>exact .nil
 | @cons p q ps qs h t ih =>
  rw[Ez,Ez];refine .cons ?_ ih;obtain⟨h1,h2⟩:=h;by_cases e:p.1=k
  ·rw[if_pos e,if_pos (h1.symm.trans e)];exact⟨h1,ry⟩
  ·rw[if_neg e,if_neg (λz=>e (h1.trans z))];exact⟨h1,h2⟩
theorem KV.put(r:KV kvs vs)(k:κ){y:V}{u:W2}(ry:RelV y u):KV (putK kvs k y) (stored vs k u):=by
 unfold putK stored;rw[r.any k];by_cases e:(vs.any λa=>decide (a.1=k))=true
 ·rw[if_pos e,if_pos e];exact r.repl k ry
 ·rw[if_neg e,if_neg e];exact Paired.snoc r ⟨U,ry⟩
theorem KV.keys(r:KV kvs vs):kvs.map (·.1)=vs.map (·.1):=by
 unfold KV at r;induction r with
 | nil=>rfl
 | cons h t ih=>rw[Ez,Ez,ih,h.1]
theorem KV.length(r:KV kvs vs):kvs.length=vs.length:=Paired.length r
end
variable{P:U8}{w:W1}{u:W2}
theorem U_{k:Key}(r:RelV (kV k) u):(JR P w).is k u=true:=by
 cases k with
 | inl i=>obtain⟨t,e⟩:=(show ∃t,u=Value.int i t from r);subst e;exact Y4h P w i t
 | inr x=>obtain⟨t,e⟩:=(show ∃t,u=Value.str x t from r);subst e;exact Y4g P w x t
theorem yJ{P:U8}{w:W1}:∀{ks:List Key}{us:U5},Vals (ks.map kV) us->ItemsAre (JR P w) ks us
 | [],_,r=>by rw[h_]at r;cases r;exact .nil
 | k::ks,_,r=>by
  rw[Ez]at r;cases r with
  | cons h t=>exact .cons (U_ h) (yJ t)
abbrev KT (H:Hp):List (List Key×V)->List (List Key×Addr×Value)->Prop:=Paired λp q=>p.1=q.1/\H q.2.1=some (.tup (p.1.map kV))/\RelV p.2 q.2.2
variable{kvs:List (List Key×V)}
theorem KT.val{xs:List (List Key×Addr×Value)}(r:KT H kvs xs)(k:List Key):GZ (Di kvs k) ((atKey xs k).map (·.2)):=by
 induction r with
 | nil=>exact True.intro
 | @cons p q ps qs h t ih =>
  obtain⟨h1,_,h2⟩:=h;by_cases e:p.1=k
  ·have a:q.1=k:=h1.symm.trans e;have b:atKey (q::qs) k=some q.2:=by simp[atKey,Tn,a]
   rw[YS e,b];exact h2
  ·have a:¬ q.1=k:=λz=>e (h1.trans z);have b:atKey (q::qs) k=atKey qs k:=by simp[atKey,Tn,a]
   rw[YQ e,b];exact ih
variable{y:V}
theorem KT.repl{xs:List (List Key×Addr×Value)}(r:KT H kvs xs)(k:List Key)(ry:RelV y u):
  KT H (kvs.map λa=>if a.1=k then (a.1,y) else a) (xs.map (putAt k u)):=by
 induction r with
 | nil=>exact .nil
 | @cons p q ps qs h t ih =>
  rw[Ez,Ez];refine .cons ?_ ih;obtain⟨h1,h2,b⟩:=h;unfold putAt;by_cases e:p.1=k
  ·rw[if_pos e,if_pos (h1.symm.trans e)];exact⟨h1,h2,ry⟩
  ·rw[if_neg e,if_neg (λz=>e (h1.trans z))];exact⟨h1,h2,b⟩
theorem KT.put{xs:List (List Key×Addr×Value)}(r:KT H kvs xs)(k:List Key){b:W9}(hb:H b=some (.tup (k.map kV)))(ry:RelV y u):
  KT H (putK kvs k y) (storedH xs k b u):=by
 have e:(kvs.any λa=>decide (a.1=k))=(atKey xs k).isSome:=by
  rw[m9,(r.val k).isSome_eq,Option.isSome_map]
 unfold putK storedH;rw[e];by_cases q:(atKey xs k).isSome=true
 ·rw[if_pos q,if_pos q];exact r.repl k ry
 ·rw[if_neg q,if_neg q];exact Paired.snoc r ⟨U,hb,ry⟩
theorem KT.keeps{xs:List (List Key×Addr×Value)}(r:KT H kvs xs)(ht:∀b ys,H b=some (.tup ys)->H' b=some (.tup ys)):KT H' kvs xs :=
 Paired.mapP r λ_ _ z=>⟨z.1,ht _ _ z.2.1,z.2.2⟩
section
variable {P:U8}{w:W1}{H:Hp}{h:Heap}{a:W9}
theorem W3u{u:HO}(ok:Ey P w H h)(e:Rd H a u):Bf P w H h a u:=e.ok ok
variable{kvs:List (Key×V)}
theorem b_(ok:Ey P w H h)(e:Rd H a (.dK kvs)):kvs.length<=sizeLine/\(a == sysModules)=false/\∃vs,KV kvs vs/\h.DictOf (JR P w) a vs :=
 show Bf P w H h a (.dK kvs) from W3u ok e
theorem W6a(ok:Ey P w H h)(e:H a=some (.dK kvs)):kvs.length<=sizeLine/\(a == sysModules)=false/\∃vs,KV kvs vs/\h.DictOf (JR P w) a vs:=b_ ok (.inl e)
theorem ak{ks:List Key}(ok:Ey P w H h)(e:H a=some (.tup (ks.map kV))):(tupleKind (JR P w)).is h ks a:=by
 obtain⟨_,its,r,o,h1,h2,n,b⟩:=(show Bf P w H h a (.tup (ks.map kV)) from ok a _ e);exact⟨o,its.toArray,n,h1,h2,b,by simpa using yJ r⟩
variable{kvs:List (List Key×V)}
theorem cj(ok:Ey P w H h)(e:Rd H a (.dT kvs)):kvs.length<=sizeLine/\(a == sysModules)=false /\
  ∃xs,KT H kvs xs/\h.DictOfH (tupleKind (JR P w)) a xs:=by
 obtain⟨z,y,xs,r,o,es,ep,h1,h2,c,d,f⟩:=(show Bf P w H h a (.dT kvs) from W3u ok e);refine⟨z,y,xs,r,o,es,ep,h1,h2,c,d,λx b=>?_,f⟩;have all:∀{l:List (List Key×V)}{m:List (List Key×Addr×Value)},KT H l m->∀x∈m,(tupleKind (JR P w)).is h x.1 x.2.1:=by
  intro l m q;induction q with
  | nil=>intro x b;exact nomatch b
  | @cons p q ps qs hq t ih =>
   intro x b;rcases Dj.mp b with e | b
   ·subst e;exact ak ok (by rw[<-hq.1];exact hq.2.1)
   ·exact ih x b
 exact all r x b
theorem W8k(ok:Ey P w H h)(e:H a=some (.dT kvs)):kvs.length<=sizeLine/\(a == sysModules)=false /\
  ∃xs,KT H kvs xs/\h.DictOfH (tupleKind (JR P w)) a xs:=cj ok (.inl e)
end
def HJ (H:Hp)(a:W9)(y:V)(r:Option V):Prop :=
 (∃kvs k,Rd H a (.dK kvs)/\y=kV k/\r=Di kvs k)\/∃kvs k b,Rd H a (.dT kvs)/\y=.ref b/\H b=some (.tup (k.map kV))/\r=Di kvs k
def NQ (H:Hp)(a:W9)(y v:V)(H':Hp):Prop :=
 (∃kvs k,H a=some (.dK kvs)/\y=kV k/\kvs.length<sizeLine/\H'=upd H a (.dK (putK kvs k v))) \/
 ∃kvs k b,H a=some (.dT kvs)/\y=.ref b/\H b=some (.tup (k.map kV))/\kvs.length<sizeLine/\H'=upd H a (.dT (putK kvs k v))
variable{kvs:List (Key×V)}
theorem HJ.k{k:Key}(e:H a=some (.dK kvs)):HJ H a (kV k) (Di kvs k):=.inl ⟨kvs,k,.inl e,U,U⟩
theorem NQ.k{k:Key}{v:V}(e:H a=some (.dK kvs))(hl:kvs.length<sizeLine):NQ H a (kV k) v (upd H a (.dK (putK kvs k v))):=.inl ⟨kvs,k,e,U,hl,U⟩
section
variable {X:Cx}{pins:U1}{σ:St}{H:Hp}{s:U7}{a:W9}{y v:V}{u r:W2}{o:Option V}{A:W6}{E:U2}
theorem Inv.big(I:Inv X pins σ H s):sysModules<s.heap.objs.size:=by
 have h:mainGlobals<s.heap.objs.size:=(I.mod.glob.keeps I.bk).lt;exact RT (by decide) h
theorem X2r{Q:U2}(hu:A.units+1<cLine)(I:Inv X pins σ H s)(g:HJ H a y (some v))(ry:RelV y u)(h:∀f s',Inv X pins σ H s'->RelV v f->Q f s'):
  wpAny (model X.prog X.w) A (getItem (.ref a) u) Q E s:=by
 rcases g with ⟨kvs,k,e,ey,l⟩ | ⟨kvs,k,b,e,ey,eb,l⟩
 ·subst ey;obtain⟨z,hd,vs,c,dd⟩:=b_ I.hok e;obtain⟨f,i,d⟩:=GZ.some_of (v:=v) (o:=valueAt vs k) (by rw[l];exact c.val k);exact wpAny_getItem_of (U_ ry) dd.mapOf i (h f _ (I.tok _) d)
 ·subst ey;cases (show u=Value.ref b from ry);obtain⟨z,hd,xs,c,dd⟩:=cj I.hok e;obtain⟨f,i,d⟩:=GZ.some_of (v:=v) (o:=(atKey xs k).map (·.2)) (by rw[l];exact c.val k);obtain⟨p,hp,j⟩:=Es.mp i;refine wpAny_getItem_heap (jF hu) (ak I.hok eb) dd hp ?_;rw[j];exact h f _ (I.tok _) d
theorem mZ{Q:U2}(hu:A.units+1<cLine)(I:Inv X pins σ H s)(g:HJ H a y o)(ry:RelV y u)(h:∀s',Inv X pins σ H s'->Q (.bool o.isSome) s'):
  wpAny (model X.prog X.w) A (compareOp .In u (.ref a)) Q E s:=by
 rcases g with ⟨kvs,k,e,ey,l⟩ | ⟨kvs,k,b,e,ey,eb,l⟩
 ·subst ey;obtain⟨z,hd,vs,c,dd⟩:=b_ I.hok e;refine wpAny_in_of (U_ ry) hd dd.mapOf ?_;rw[<-(c.val k).isSome_eq,<-l];exact h _ (I.tok _)
 ·subst ey;cases (show u=Value.ref b from ry);obtain⟨z,hd,xs,c,dd⟩:=cj I.hok e;refine wpAny_in_heap (jF hu) (ak I.hok eb) hd dd ?_;have q:=(c.val k).isSome_eq;rw[Option.isSome_map]at q;rw[<-q,<-l];exact h _ (I.tok _)
theorem X2p{h':Heap}{t':Nat}{ob:HO}(I:Inv X pins σ H s)(mu:Yw (H a))(hs:Heap.SameBut a s.heap h')(he:∃q,h'.get? a=some q)(new:Bf X.prog X.w (upd H a ob) h' a ob):
  Inv X pins σ (upd H a ob) {s with heap:=h',toks:=t'} :=
 I.write (x:=a) (e:=a) mu (.inl rfl) (λb q hb z=>(hs.2 b hb).trans z) he new
theorem W6b{h':Heap}{vs:List (Key×Value)}(z:kvs.length<=sizeLine)(hd:(a == sysModules)=false)(rel:KV kvs vs)(dd:h'.DictOf (JR P w) a vs):
  Bf P w H' h' a (.dK kvs):=⟨z,hd,vs,rel,dd⟩
theorem X2q{Q:Unit->Shared->Prop}(hu:A.units+1<cLine)(I:Inv X pins σ H s)(g:NQ H a y v H')(ry:RelV y u)(rv:RelV v r)(h:∀s',Inv X pins σ H' s'->Q () s'):
  wpAny (model X.prog X.w) A (setItem (.ref a) u r) Q E s:=by
 rcases g with ⟨kvs,k,e,ey,l,eH⟩ | ⟨kvs,k,b,e,ey,eb,l,eH⟩
 ·subst ey eH;obtain⟨z,hd,vs,d,dd⟩:=W6a I.hok e;have n:vs.length<=sizeLine:=by rw[<-d.length];exact z
  have j:(putK kvs k v).length<=sizeLine:=by have:=ud kvs k v;lia
  refine wpAny_setItem_pairs (hsz:=n) (U_ ry) dd λh' f m=>h _ ?_;have x:∃q,h'.get? a=some q:=let ⟨q,_,_,i,_⟩:=f;⟨q,i⟩;exact X2p I (by rw[e];exact True.intro) m x (W6b j hd (d.put k rv) f)
 ·subst ey eH;cases (show u=Value.ref b from ry);obtain⟨z,hd,xs,d,dd⟩:=W8k I.hok e;have n:xs.length<=sizeLine:=by rw[<-Paired.length d];exact z
  have j:(putK kvs k v).length<=sizeLine:=by have:=ud kvs k v;lia
  refine wpAny_setItem_heap (hsz:=n) (jF hu) (ak I.hok eb) dd λh' f m=>h _ ?_;obtain⟨q,es,ep,i,h2,p,t,_,B⟩:=f;refine X2p I (by rw[e];exact True.intro) m ⟨q,i⟩ ⟨j,hd,_,(d.put k eb rv).keeps λc ys o=>?_,q,es,ep,i,h2,p,t,B⟩;rw[Cg (Q_ o e (λz=>nomatch z))];exact o
end
section
variable {X:Cx}{pins:U1}{σ:St}{H:Hp}{s:U7}{a:W9}{kvs:List (Key×V)}{k:Key}{u:W2}{A:W6}{E:U2}
end
def Sw (i:Expr):Prop:=∀ov iv,subscripted i false ov iv=operate [ov,iv] (getItem ov iv)
theorem vY{prog:U8}{A:W6}{E:U2}{s:U7}{env:Env}{value slice:Expr}{pos:Pos}{T id:String}{Q:U2}
  (hl:typeLookup (.type T) "__getitem__"=pure (some (.builtin id))) (hs:Sw slice)
  (h:wpAny (model prog w) A (eval value env) (λo e=>wpAny (model prog w) A (eval slice env) (λi s₂=>s₂.TypeIs o T/\wpAny (model prog w) A (getItem o i) Q E s₂) E e) E s):
  wpAny (model prog w) A (eval (.Subscript value slice pos) env) Q E s:=by
 refine Subscript_ (Fi h (λo e g=>Fi g (λi s₂ b=>?_) λ_ _ x=>x) λ_ _ x=>x);obtain⟨d,b⟩:=b;unfold subscriptTail;refine BX ?_;rw[getitemInPython_of_ne d.not_modules];refine BX (wpAny_specialOf d hl ?_);have a:wpAny (model prog w) A (subscripted slice false o i) (λr c=>wpAny (model prog w) A (letTemporaryGo value o r >>= λ_=>pure r) Q E c) E s₂:=by
  rw[hs o i];exact wpAny_operating (Fi b (λr c f=>BX (wpAny_letTemporaryGo (CV f))) λ_ _ x=>x)
 first
  | exact CV (BX a)
  | exact BX (CV (BX a))
  | exact BX a
theorem Y4r{X:Cx}{pins:U1}{σ:St}{s:U7}{o:Option V}(I:Inv X pins σ H s)(g:HJ H a y o):s.TypeIs (.ref a) "dict":=by
 rcases g with ⟨kvs,k,e,_,_⟩ | ⟨kvs,k,b,e,_,_,_⟩
 ·obtain⟨_,_,vs,_,dd⟩:=b_ I.hok e;exact dd.typeIs
 ·obtain⟨_,_,xs,_,dd⟩:=cj I.hok e;exact dd.typeIs
def Vw (td ty:TE):TE:=λσ H Q=>td σ H λx H1=>ty σ H1 λy H2=>∃a v,x=.ref a/\HJ H2 a y (some v)/\Q v H2
def fX (ty td:TE):TE:=λσ H Q=>ty σ H λy H1=>td σ H1 λx H2=>∃a o,x=.ref a/\HJ H2 a y o/\Q (.bl o.isSome) H2
def V5 (td ty tv:TE):TS:=λD σ H=>tv σ H λv H1=>td σ H1 λx H2=>ty σ H2 λy H3=>∃a H4,x=.ref a/\NQ H3 a y v H4/\D.nx σ H4
section
variable {X:Cx}{o i e value:Expr}{pos pos' tpos:Pos}{td ty tv:TE}
theorem vJ(hu:X.A.units+1<cLine)(ho:PE X o td)(hi:PE X i ty)(hs:Sw i):PE X (.Subscript o i pos) (Vw td ty):=by
 intro pins s σ H Q I h;refine vY uD.lookup hs (Bu (ho pins s σ H _ I h) λu f ⟨x,H1,j,l,k⟩=>Bu (hi pins f σ H1 _ j k) λp r ⟨y,H2,c,e,a,v,ex,g,d⟩=>?_);subst ex;obtain rfl:u=Value.ref a:=l;exact⟨Y4r c g,X2r hu c g e λn q m b=>⟨v,H2,m,b,d⟩⟩
theorem W4a(hu:X.A.units+1<cLine)(hi:PE X i ty)(ho:PE X o td):PC X .In i o (fX ty td):=by
 intro pins s σ H Q I h;refine Bu (hi pins s σ H _ I h) λn d ⟨y,H1,e,c,f⟩=>Bu (ho pins d σ H1 _ e f) λu q ⟨x,H2,j,k,a,l,ex,g,b⟩=>?_;subst ex;obtain rfl:u=Value.ref a:=k;exact mZ hu j g c λp m=>⟨.bl l.isSome,H2,m,U,b⟩
theorem X9y(hu:X.A.units+1<cLine)(ho:PE X o td)(hi:PE X i ty)(hv:PE X value tv)(hs:swapsWith value (some (.Subscript o i pos')) pos.line X.env=pure false):
  PS X (.Assign [.Subscript o i pos'] value pos) (V5 td ty tv):=by
 intro pins s σ H D I h;refine wpAny_Assign_Subscript (Bu (hv pins s σ H _ I h) λr d ⟨v,H1,j,m,k⟩=>Bu (ho pins d σ H1 _ j k) λu p ⟨x,H2,l,n,b⟩=>Bu (hi pins p σ H2 _ l b) λz B ⟨y,C,t,c,a,e,ex,g,q⟩=>?_) hs;subst ex;obtain rfl:u=Value.ref a:=n;exact X2q hu t g c m λw f=>⟨σ,e,f,q⟩
end
theorem X6o(h:Heap)(hb:sysModules<h.objs.size):Bf P w H (h.push { cls:=.type "dict",data:=.dict #[]}) h.objs.size (.dK []):=
 ⟨Gz _,beq_eq_false_iff_ne.mpr (Ne.symm (Df hb)),[],.nil,Heap.DictOf.new h⟩
def RN:TE:=λ_ H Q=>∀p,H p=none->Q (.ref p) (upd H p (.dK []))
section
variable {X:Cx}{pos:Pos}
theorem X4k:PE X (.Dict [] [] pos) RN:=λpins s σ H Q I h =>
 wpAny_Dict_empty ⟨.ref s.heap.objs.size,_,I.laid (a:=s.heap.objs.size) (o:=.dK []) (t':=s.toks) (λ_ _ q=>Ec _ q) (CG _) (X6o s.heap I.big),U,h _ (I.hok.fresh (CG _))⟩
end
section
variable {X:Cx}{pins:U1}{σ:St}{H:Hp}{s:U7}{a:W9}{y d:V}{u r:W2}{o:Option V}{A:W6}{E:U2}
end
section
variable {X:Cx}{o e f:Expr}{apos cpos:Pos}{td ty tx:TE}
end
end L2
namespace L2
def JZ (i j:Int):Prop:=∃a b,Sz a i/\Sz b j/\a+b<=100000000
theorem JZ.ok{i j:Int}(h:JZ i j):IntMulOk i j:=by
 obtain⟨a,b,h1,h2,c⟩:=h;have e1:=h1.bits;have e2:=h2.bits;unfold IntMulOk
 rw[show Builtin.Int.intTooBig (Builtin.Int.intBits i+Builtin.Int.intBits j)=false by
  unfold Builtin.Int.intTooBig
  have:bitsLine=134217728:=rfl
  rw[this]
  exact FJ (by lia)]
 simp
section
variable {X:Cx}
theorem Nx:Eh X (binaryOp .Mult) (rI JZ λi j=>.int (i*j)):=Rm λ_ _ _ _ _ _ _ a q=>mul_int q a.ok
theorem YW(hc:X.calm=true):Cr X (.builtin "all") (λxs H Q=>∃(p:W9) (bs:List Bool),xs=[.ref p]/\Aw X.K H p (bs.map V.bl)/\Q (.bl (bs.all id)) H):=by
 intro pins s σ H xs us Q I r h;obtain⟨p,bs,rfl,m,q⟩:=h;obtain⟨u,rfl,f⟩:=r.one;cases f;obtain⟨its,k,g,B⟩:=I.list m;have a:its.length=bs.length:=by rw[<-k.length,Bg]
 refine call_all_walk (Wf g.isList ?_)
 have W:=Walks.list (prog:=X.prog) (w:=X.w) (A:=X.A.in1) (show X.A.in1.handled=none from I.ok.hd hc) s.heap.objs.size p (by
  obtain⟨o,e,_⟩:=g.isList
  exact Df (CQ e)) its.toArray
 refine⟨s.heap.objs.size,_,_,_,_,_,λi=>bs.getD i false,U,W,⟨⟨_,GC _ rfl,U,U⟩,g.isList.push _⟩,?_,λh' tk t=>?_⟩
 ·intro i v s' y C x n;have c:its[i]?=some v:=by simpa using x
  have hi:i<bs.length:=by rw[<-a];exact(Et.mp c).1
  obtain⟨u,l,f⟩:=k.get (show (bs.map V.bl)[i]?=some (.bl (bs.getD i false)) by simp[hi]);rw[c]at l;cases l;cases f;exact Oi n
 ·have e:(List.range its.toArray.size).all (λi=>bs.getD i false)=bs.all id:=by
   rw[Fb,a,Tj,Nj,Nj];constructor
   ·intro z b hb;obtain⟨i,hi,rfl⟩:=Om.mp hb;have:=z i (Ek.mpr hi);simpa [hi] using this
   ·intro z i hi;have d:i<bs.length:=Ek.mp hi;have:=z bs[i] (Rc d);simpa [d] using this
  rw[e];refine⟨.bl (bs.all id),H,?_,U,q⟩;exact I.kept (t':=tk) λb o j=>t b o (by simp;exact Df (CQ j)) (Ec _ j)
end
section
variable {P:U8}{w:W1}{H:Hp}{h:Heap}
end
section
variable {X:Cx}
theorem oE:∀xs:List (List Int),PyData.canLayAll0 (xs.map λns=>PyData.tuple (ns.map PyData.int))=true
 | []=>by simp[PyData.canLayAll0]
 | n::r=>by simp[PyData.canLayAll0,PyData.canLay0,oE r,tW n]
theorem n_:∀xs:List (List Int),PyData.depthAll (xs.map λns=>PyData.tuple (ns.map PyData.int))<=2
 | []=>by simp[PyData.depthAll]
 | n::r=>by
  have h1:=n_ r;have h2:=sU n;simp only[Ez,PyData.depthAll,PyData.depth];lia
theorem um(xs:List (List Int)):SeqAt.shaped (.list (xs.map λns=>PyData.tuple (ns.map PyData.int)))=true:=by
 have h2:PyData.depth (.list (xs.map λns=>PyData.tuple (ns.map PyData.int)))<=64:=by
  have:=n_ xs;simp only[PyData.depth];lia
 show (PyData.canLay0 _ && decide _)=true;rw[HY];exact⟨by simp only[PyData.canLay0];exact oE xs,Gb h2⟩
theorem aR:∀xs ys:List (List Int),SeqAt.noMixAll (xs.map λns=>PyData.tuple (ns.map PyData.int)) (ys.map λns=>PyData.tuple (ns.map PyData.int))=true
 | [],[]=>by simp[SeqAt.noMixAll]
 | [],_::_=>by simp[SeqAt.noMixAll]
 | _::_,[]=>by simp[SeqAt.noMixAll]
 | n::r,m::q=>by
  simp only[Ez,SeqAt.noMixAll,SeqAt.noMix,HY];exact⟨jD n m,aR r q⟩
theorem aF:∀xs ys:List (List Int),PySem.Spec.sameAll (xs.map λns=>PyData.tuple (ns.map PyData.int)) (ys.map λns=>PyData.tuple (ns.map PyData.int))=decide (xs=ys)
 | [],[]=>by simp[PySem.Spec.sameAll]
 | [],_::_=>by simp[PySem.Spec.sameAll]
 | _::_,[]=>by simp[PySem.Spec.sameAll]
 | n::r,m::q=>by
  simp only[Ez,PySem.Spec.sameAll,PySem.Spec.same,iz,aF r q];by_cases e:n=m<;>simp[e]
end
section
variable {X:Cx}{scope:Scope}{Nc:W0}{ex:U3}{pins:U1}{s:U7}{H:Hp}
theorem X4o(hu:X.A.units+64<cLine):Eh (Bq X scope Nc ex pins s H) (compareOp .Eq) (JD X.K false):=o9 hu
theorem X4m(hu:X.A.units+64<cLine):Eh (Bq X scope Nc ex pins s H) (compareOp .NotEq) (JD X.K true):=W0g hu
end
end L2
namespace L2
open PySem.W PySem.Calls
def Kq (ns:U6):Prop:=∀n∈ns,Sz 1048576 n
theorem u6:∀{ns:U6}{W:Nat},WData.weightAll (ns.map WData.int)<=W->∀n∈ns,Sz W n
 | m::r,W,h,n,hn=>by
  simp only[Ez,WData.weightAll,WData.weight]at h;rcases Dj.mp hn with rfl | hn
  ·unfold Sz;by_cases z:n=0
   ·subst z;exact Cu _
   ·have a:(n == 0)=false:=by simpa using z
    rw[a,if_neg (by simp)]at h;have h1:n.natAbs.log2<W:=by lia
    exact(ZG (by lia)).mp h1
  ·exact u6 (W:=W) (by lia) n hn
theorem X5s{ns:U6}(h:WData.layableAll [WData.list (ns.map WData.int)]=true):Kq ns:=by
 simp only[WData.layableAll,iG,List.all_nil,Bool.and_true,WData.layable,HY,Le]at h;exact u6 (W:=1048576) (by have:=h.2;simpa [WData.weight] using this)
variable{XP:(Str->Option Value)->Heap->Prop}{YP:World->Heap->Prop}{d:DefRec}
theorem Y3a{l:OpenLaw}{n:Nat}{q:U8}{loose:W0}
  (hn:l.most=some n) (hdf:d.params.defaults=[])
  (call:∀(w:W1) (x b:U7) (mg s:U4) (h:W9) (o:Obj) (v m e:W2) (a:W9) (vs:U5) (ns:U6),Kq ns ->
   Ground q loose [] XP w x mg s b.heap->YP w b.heap ->
   b.heap.get? h=some o->o.data=.func (docDef d.name d.params d.body d.scope v m e)->b.heap.CodeRec m d.name->mg d.name=some (.ref h) ->
   b.heap.get? a=some { cls:=.type "list",data:=.seq vs.toArray}->IntsAre vs ns->ns.length<=n->b.gens=#[] ->
   codeAny (model l.prog w) callerA (.call (.ref h) ⟨[.ref a],[]⟩) (λr s'=>r=.ok (.ret (.bool true))/\OldK b.heap s'.heap/\s'.os=b.os/\AllBare s'.gens) b):
  WalkO q loose XP YP l.row.toRowW d [] (λf vs=>PySem.call f vs):=by
 intro w x b mg s G Y h o v m e I kV D hd p y u F args vals J i k C t H;obtain rfl:I=.none:=Dflts.none y hdf;obtain rfl:kV=.none:=Dflts.noKw y;obtain⟨a,vs,ns,rfl,rfl,j,c,g⟩:=rT.Y9e hn i t;refine enter_call (RV (call w x b mg s h o v m e a vs ns (X5s k) G Y D (fd_plain hd) p u j c g F) λr s' E=>?_);obtain⟨rfl,h2,z,A⟩:=E;exact⟨.inl ⟨.bool true,.bool true,[],U,λ_=>rfl,.bool true,rT.Y9i l _,λ_=>⟨List.Pairwise.nil,λ_ B=>(nomatch B)⟩⟩,h2,z,A⟩
theorem Y7f{l:PySem.W.OpenLaw}{n k:Nat}{q:U8}{loose:W0}{K:Params->U0}{CX:World->NT}{sp:World->Sp}{x:Str}
  (hn:l.most=some n) (hn2:n<=sizeLine) (hdf:d.params.defaults=[]) (hr:Ci k callerA)
  (hY:∀(w:W1) (h:Heap),YP w h->(K w.params).In h)
  (F:∀(w:W1) (mg:U4) (m:W9) (h:Heap),(K w.params).In h->h.Ns mainGlobals mg->mg d.name=some (.ref m) ->
   ∃fd:FuncData,(∀(s:U7) (u:W2),BindsTo s fd ⟨[u],[]⟩ [(x,u)]) /\
    ∀base:Heap,(K w.params).In base->base.Ns mainGlobals mg->EY l.prog w (K w.params) mg base (CX w) k m fd [x] (sp w))
  (hsp:∀(w:W1) (H:Hp) (a:W9) (ns:U6),ns.length<=n->Kq ns->Aw (K w.params) H a (ns.map V.int)->sp w [.ref a] H (λv _=>v=.bl true) λ_ _ _=>False)
  (hCX:∀(w:W1) (H:Hp) (s:U7) (e:W2) (s':U7),CX w [] H s (λ_ _ _=>False) e s'->False):
  PySem.W.WalkO q loose XP YP l.row.toRowW d [] (λf vs=>PySem.call f vs):=by
 refine Y3a hn hdf λw J C mg D m o I L A a vs ns lt G Y E hd t p j i c z=>?_;have r:=hY w _ Y;obtain⟨fd,hb,y⟩:=F w mg m _ r G.T.g p;exact X5y r G.T.g G.T.b G.T.builtins G.T.nolimit z j i (G7 c hn2) hr y hb (λH _ B=>hsp w H a ns c lt B) λH e s'=>hCX w H C e s'
end L2
namespace Ba
open L2 Am Pc
noncomputable abbrev T5 (a b c d h:Int):HO:=.tup [.int a,.int b,.int c,.int d,.int h]
structure Red (a b c d h x y z u g:Int):Prop where
 amt:G5 x y z u g
 same:Ca a b c d h x y z u g
 s1:x.natAbs<=a.natAbs
 s2:y.natAbs<=b.natAbs
 s3:z.natAbs<=c.natAbs
 s4:u.natAbs<=d.natAbs
 le:g<=h
structure Ih (n:Nat) (a b c d:Int):Prop where
 z1:Sz n a
 z2:Sz n b
 z3:Sz n c
 z4:Sz n d
variable{n:Nat}
theorem Red.sz{a b c d h x y z u g:Int}(r:Red a b c d h x y z u g)(s:Ih n a b c d):Ih n x y z u:=⟨s.z1.le r.s1,s.z2.le r.s2,s.z3.le r.s3,s.z4.le r.s4⟩
theorem Ih.mono{m:Nat}{a b c d:Int}(s:Ih m a b c d)(h:m<=n):Ih n a b c d:=⟨s.z1.mono h,s.z2.mono h,s.z3.mono h,s.z4.mono h⟩
noncomputable def BK:Nat->Int×Int×Int×Int->Int×Int×Int×Int
 | 0,v=>v
 | n+1,v=>let (a,b,c,d):=BK n v;(-d,a,b,c)
noncomputable abbrev T4 (v:Int×Int×Int×Int)(h:Int):HO:=T5 v.1 v.2.1 v.2.2.1 v.2.2.2 h
abbrev A5:=(Int×Int×Int×Int)×Int
noncomputable abbrev tA (x:A5):HO:=T4 x.1 x.2
noncomputable def Az (x:A5)(k:Int):A5:=(BK (k%8).toNat x.1,x.2)
structure Fy (n:Nat) (m:Int) (x:A5):Prop where
 sz:Ih n x.1.1 x.1.2.1 x.1.2.2.1 x.1.2.2.2
 amt:G5 x.1.1 x.1.2.1 x.1.2.2.1 x.1.2.2.2 x.2
 le:x.2<=m
theorem Fy.mono{n':Nat}{m m':Int}{x:A5}(o:Fy n m x)(h:n<=n')(h':m<=m'):Fy n' m' x:=⟨o.sz.mono h,o.amt,Int.le_trans o.le h'⟩
theorem qp{n:Nat}{m:Int}{v:Int×Int×Int×Int}{h:Int}(o:Fy n m (v,h)):∀k,Fy n m (BK k v,h)
 | 0=>o
 | k+1=>by
  have:=qp o k;show Fy n m ((-(BK k v).2.2.2,(BK k v).1,(BK k v).2.1,(BK k v).2.2.1),h);refine⟨⟨this.sz.z4.neg,this.sz.z1,this.sz.z2,this.sz.z3⟩,⟨this.amt.nn,?_⟩,this.le⟩;have o:h=0\/(BK k v).1%2=1\/(BK k v).2.1%2=1\/(BK k v).2.2.1%2=1\/(BK k v).2.2.2%2=1:=this.amt.odd;show h=0\/(-(BK k v).2.2.2)%2=1\/(BK k v).1%2=1\/(BK k v).2.1%2=1\/(BK k v).2.2.1%2=1;lia
noncomputable def l5 (x:A5):List Int:=[x.1.1,x.1.2.1,x.1.2.2.1,x.1.2.2.2,x.2]
noncomputable def cell (ns:U6)(i:Int):Int:=if i<ns.length then ns.getD i.toNat 0 else 0
def DP:Sp:=λvs H Q _=>∃n:Nat,vs=[.int n]/\Q (.int (pc n)) H
def Mg (K:U0):Sp:=λvs H Q _=>∃(a:W9) (ns:U6) (i:Int),vs=[.ref a,.int i]/\Aw K H a (ns.map V.int)/\0<=i/\Q (.int (cell ns i)) H
def M9:Sp:=λvs H Q _=>∃i:Int,vs=[.int i]/\Q (.bl true) H
def KJ (K:U0)(n:Nat):Sp:=λvs H Q _=>∃(a:W9) (ns:U6),vs=[.ref a]/\Aw K H a (ns.map V.int)/\ns.length<=n/\Kq ns/\∀H',Q (.bl true) H'
theorem qY{ns:U6}{i:Int}(h0:0<=i)(h:i<ns.length):Gv (ns.map V.int) i=some (.int (ns.getD i.toNat 0)):=by
 have a:i.toNat<ns.length:=by lia
 have b:i=((i.toNat:Nat):Int):=by lia
 have q:Gv (ns.map V.int) ((i.toNat:Nat):Int)=some (.int ns[i.toNat]):=Ln (by rw[Cj,Cm a]<;>rfl);rw[<-b]at q;rw[q,CP,Cm a];rfl
theorem t2:2<=sizeLine:=by decide
theorem t3:3<=sizeLine:=by decide
theorem t5:5<=sizeLine:=by decide
theorem JB(h:n<=64):n<=sizeLine:=G7 h (by decide)
theorem Hy(h:n<=6):2^n<=64:=G7 (Ir (by decide) h) (by decide)
theorem ipow(n:Nat):(1:Int)*2^((n:Int).toNat)=((2^n:Nat):Int):=by simp
theorem HN:Sz 1 1:=by decide +kernel
theorem Yj(K:U0):PySem.W.kitOne K (.type "tuple") (.type "tuple")=some true:=by unfold PySem.W.kitOne;rw[if_pos (by decide)]
end Ba
namespace Aj
open L2 Am Pc Ba
noncomputable def top (i:Nat):Stmt:=PySem.Challenge.pw_spinboard_k56_whole_looks_at_tables.main.body.getD i (.Pass ⟨0,0,0,0⟩)
structure Bs (mg:U4):Prop where
 isinstance:mg "isinstance"=none
 int:mg "int"=none
 bool:mg "bool"=none
 tuple:mg "tuple"=none
 list:mg "list"=none
 len:mg "len"=none
 range:mg "range"=none
 all:mg "all"=none
 any:mg "any"=none
 max:mg "max"=none
 min:mg "min"=none
 zip:mg "zip"=none
 set:mg "set"=none
 str:mg "str"=none
 enumerate:mg "enumerate"=none
 reversed:mg "reversed"=none
 sorted:mg "sorted"=none
 sum:mg "sum"=none
 abs:mg "abs"=none
section
variable {P:U8}{w:W1}{K:U0}{mg:U4}{base:Heap}{k:Nat}{h:Heap}
theorem W0v(F:Ab K "_law_cell_at" (top 104) .none)(X:K.In h)(G:Ng h mg)(B:Bs mg):Ah P w K mg base (k+1) "_law_cell_at" ["_law_script","_law_k"] (Mg K):=by
 refine F.cal X G ["_law_script","_law_k"] λg H vs Q E f h=>?_;obtain⟨a,ns,i,rfl,d,e,q⟩:=h
 refine⟨_,(@Aq _ _ _ _ _ (Bx (B_ Nt (pv 1) (Ck Ig rfl B.len HX (Aa (pv 0) Ae)) (Ad _))
   (@Ak _ _ _ (BJ (Ai Fv (pv 0) (pv 1) (λ_ _=>rfl))))
   CK)
  (@Ak _ _ _ (BJ Ac))),?_⟩
 try dsimp only[Bm]
 have b:(ns.map V.int).length=ns.length:=Bg _;refine⟨_,U,_,U,a,_,U,.inl d,_,_,U,U,_,U,A_ (λc=>?_) (λc=>?_)⟩
 ·rw[b]at c;refine⟨_,U,_,U,a,_,_,_,U,U,d,qY e c,?_⟩;unfold cell at q;rw[if_pos c]at q;exact q
 ·rw[b]at c;unfold cell at q;rw[if_neg c]at q;exact q
theorem X4p(F:Ab K "_law_whole" (top 105) .none)(X:K.In h)(G:Ng h mg)(B:Bs mg):Ah P w K mg base (k+1) "_law_whole" ["_law_found"] M9:=by
 refine F.cal X G ["_law_found"] λb H vs Q E a h=>?_;obtain⟨i,rfl,q⟩:=h;refine⟨_,(@Ak _ _ _ (BJ (Qp (Ck NK rfl B.isinstance JK (Aa (pv 0) (Aa (Lp (v:=.ty "int") rfl B.int boot_int rfl) Ae))) (M6 (bC (Ck NK rfl B.isinstance JK (Aa (pv 0) (Aa (Lp (v:=.ty "bool") rfl B.bool boot_bool rfl) Ae)))))))),?_⟩;try dsimp only[Bm]
 refine⟨_,U,_,_,_,true,U,DK.int i,zF K,_,U,C_ ?_⟩;exact⟨_,U,_,_,_,false,U,DK.int i,zE K,_,U,q⟩
end
end Aj
noncomputable section
namespace Aj
open L2 Ba
namespace Hd
open PySem.W
set_option maxHeartbeats 0
noncomputable abbrev pr:Program:=PySem.Challenge.pw_spinboard_k56_whole_looks_at_tables
abbrev kh:=PyData.keyHash
noncomputable def mj (s:Stmt):Pos:=match s with
 | .FunctionDef _ _ _ _ _ _ _ _ _ p=>p
 | _=>⟨0,0,0,0⟩
noncomputable def life:Life:=(Life.mk [] [] [] 0 [] [] false #[] [] 0 false false false 0 [2000,10,10] false 0 true [] [] 0 false)
noncomputable def en:Env:={ scope:=pr.main.scope,locals:=mainNs,globals:=mainNs,cells:=[],code:=(.ref 13),frame:=some 14}
noncomputable def dn (P:Params)(x:Str)(t:Nat)(v:W2):DictEntry:=DictEntry.mk (kh P x) (.str x t) v
noncomputable def Lh (n:Str)(t1:Nat)(q:Str)(t2 t3:Nat)(i1 i2 i3 i4 i5:Int)(r1:W9)(b:Bool)(i6:Int)(r2:W9)(v1 v2 v3:W2)(i7 i8:Int)(t4:Nat):Obj:=Obj.mk (.type "code") none (Data.fields #[.str n t1,.str q t2,.str "/claim/cut.py" t3,.int i1 0,.int i2 0,.int i3 0,.int i4 0,.int i5 0,.ref r1,.bool b,.int i6 0,.ref r2,.none,v1,v2,v3,.int i7 0,.int i8 0,.str "/claim/cut.py" t4]) #[]
noncomputable def Xn (n q:Str)(s:Stmt)(k j:Nat):Obj:=Obj.mk .none none (Data.func (FuncData.mk n q (Ft s) (FuncBody.stmts (FT s)) (Dp s) k [] .none .none .none .none none .none .none j)) #[]
noncomputable def Xl (n q:Str)(s:Stmt)(k:Nat)(m:Str)(t:Nat)(c:W9)(j:Nat):Obj:=Obj.mk (.type "function") none (Data.func (FuncData.mk n q (Ft s) (FuncBody.stmts (FT s)) (Dp s) k [] .none .none .none (.str m t) none (.ref c) .none j)) #[]
noncomputable def LC (T:String)(n:Nat):Obj:=Obj.mk (.type T) none (Data.seq #[] n) #[]
noncomputable def tq (a:U9):Obj:=Obj.mk (.type "tuple") none (Data.seq a 0) #[]
noncomputable def Kz:Obj:=Obj.mk .none none (Data.fields #[]) #[]
abbrev Pz:=Params
noncomputable abbrev tz:Obj:=LC "tuple" 0
noncomputable def iL (t:BT):List (Nat×Obj)->BT
 | []=>t
 | x::l=>iL (t.ins x.1 x.2) l
noncomputable def iF (t:BT):Nat->List Obj->BT
 | _,[]=>t
 | n,x::l=>iF (t.ins n x) (n+1) l
noncomputable def Gd (l:List DictEntry)(n:Nat):Obj:=Obj.mk (.type "dict") none (Data.dict (Array.mk l) n) #[]
noncomputable def Ed (l:U5):Obj:=Obj.mk .none none (Data.fields (Array.mk l)) #[]
noncomputable def nt:Nat->List Str->List Value
 | _,[]=>[]
 | t,x::l=>.str x t::nt (t+1) l
noncomputable def dd (m:Str)(mt:Nat)(n:Str)(i:Nat)(l k:Int)(a t:Nat):List Str->List Obj
 | []=>[tz,Kz,Xn n n (top i) 0 0,Lh n t n (t+1) (t+2) l k 0 0 3 a true 181 (a+1) .none .none (.ref (a+2)) ((t+3:Nat):Int) l (t+4),Xl n n (top i) 3 m mt (a+3) 0]
 | x::xs=>[tz,Kz,Obj.mk (.type "tuple") none (Data.seq (Array.mk (nt (t+3) (x::xs))) 0) #[],tz,Xn n n (top i) 0 0,Lh n t n (t+1) (t+2) l k 0 0 3 a true 181 (a+1) (.ref (a+2)) (.ref (a+3)) (.ref (a+4)) ((t+4+xs.length:Nat):Int) l (t+5+xs.length),Xl n n (top i) 3 m mt (a+5) 0]
noncomputable def co (n:Str)(A t:Nat):Obj:=Obj.mk (.type "type") none (Data.cls (ClassData.mk n [(.ref 24)] [(.ref (A+9)),(.ref 24),(.type "ValueError"),(.type "Exception"),(.type "BaseException"),(.type "object")] (A+8) n true [] [] false none false)) #[(some (.ref A)),none,(some (.str n t)),(some (.str n (t+8))),(some (.builtin "ValueError.__new__")),(some (.bool true))]
noncomputable def Ox (l:W3):Obj:=Obj.mk (.type "type") none (Data.cls (ClassData.mk "BoardError" [(.type "ValueError")] [(.ref 24),(.type "ValueError"),(.type "Exception"),(.type "BaseException"),(.type "object")] 23 "BoardError" true [] (l.map Value.ref) false none false)) #[(some (.ref 15)),none,(some (.str "BoardError" 189)),(some (.str "BoardError" 197)),(some (.builtin "ValueError.__new__")),(some (.bool true))]
noncomputable def Zv (n:Str)(i:Nat)(l k:Int)(a t:Nat)(ns:W0):List Obj:=dd "spinboard.shares" 344 n i l k a t ns
noncomputable def Qm (n:Str)(i:Nat)(l k:Int)(a t:Nat)(ns:W0):List Obj:=dd "spinboard.marks" 393 n i l k a t ns
noncomputable def Rr (n:Str)(i:Nat)(l k:Int)(a t:Nat)(ns:W0):List Obj:=dd "spinboard.amounts" 459 n i l k a t ns
noncomputable def Xo (n:Str)(i:Nat)(l k:Int)(a t:Nat)(ns:W0):List Obj:=dd "spinboard.boards" 533 n i l k a t ns
noncomputable def Ql (n:Str)(i:Nat)(l k:Int)(a t:Nat)(ns:W0):List Obj:=dd "spinboard.moves" 595 n i l k a t ns
noncomputable def Zu (n:Str)(i:Nat)(l k:Int)(a t:Nat)(ns:W0):List Obj:=dd "spinboard.bits" 681 n i l k a t ns
noncomputable def Lg (n:Str)(i:Nat)(l k:Int)(a t:Nat)(ns:W0):List Obj:=dd "spinboard.tables" 720 n i l k a t ns
noncomputable def K5 (n:Str)(i:Nat)(l k:Int)(a t:Nat)(ns:W0):List Obj:=dd "spinboard.tableturns" 811 n i l k a t ns
noncomputable def Rq (n:Str)(i:Nat)(l k:Int)(a t:Nat)(ns:W0):List Obj:=dd "spinboard.looks" 940 n i l k a t ns
noncomputable def de9 (n:Str)(i:Nat)(l k:Int)(a t:Nat)(ns:W0):List Obj:=dd "spinboard.rows" 998 n i l k a t ns
noncomputable abbrev e10 (n:Str)(i c:Nat):Obj:=Xl n n (top i) 3 "law_spinboard_k56_whole_looks_at_tables" 1010 c 0
noncomputable def GR (n:Str)(i:Nat)(l k:Int)(a t:Nat)(ns:W0):List Obj:=dd "law_spinboard_k56_whole_looks_at_tables" 1010 n i l k a t ns
def lQ(P:Pz):=(Lh "<module>" 182 "<module>" 183 184 1 0 0 0 0 11 false 181 12 .none .none .none 185 1 186)
noncomputable def lN(P:Pz):=Obj.mk (.type "frame") none Data.plain #[(some (.ref 13)),(some (.ref 3)),(some (.ref 3)),none,(some (.str "__main__" 164)),none,(some (.ref 0))]
def Ha (P:Pz):Heap:=Heap.mk (Array.mk [boot_o_0 P,boot_o_1 P,boot_o_2 P,boot_o_3 P,boot_o_4 P,boot_o_5 P,boot_o_6 P,boot_o_7 P,boot_o_8 P,boot_o_9 P,boot_o_10 P,tz,Kz,lQ P,lN P]) life
def T0 (P:Pz):BT:=(.node (boot_o_0 P) (.node (boot_o_1 P) (.node (boot_o_3 P) (.node (boot_o_7 P) .nil .nil) (.node tz .nil .nil)) (.node (boot_o_5 P) (.node (boot_o_9 P) .nil .nil) (.node (lQ P) .nil .nil))) (.node (boot_o_2 P) (.node (boot_o_4 P) (.node (boot_o_8 P) .nil .nil) (.node Kz .nil .nil)) (.node (boot_o_6 P) (.node (boot_o_10 P) .nil .nil) (.node (lN P) .nil .nil))))
noncomputable def l0:List Stmt:=[top 0,top 1]
noncomputable def l1:List Stmt:=[top 2]
noncomputable def l2:List Stmt:=[top 3]
noncomputable def l3:List Stmt:=[top 4]
noncomputable def l4:List Stmt:=[top 5]
noncomputable def l5:List Stmt:=[top 6]
noncomputable def l6:List Stmt:=[top 7]
noncomputable def l7:List Stmt:=[top 8]
noncomputable def l8:List Stmt:=[top 9,top 10,top 11,top 12,top 13,top 14]
noncomputable def l9:List Stmt:=[top 15,top 16,top 17,top 18,top 19,top 20,top 21,top 22,top 23,top 24,top 25,top 26,top 27,top 28]
noncomputable def l10:List Stmt:=[top 29,top 30,top 31,top 32,top 33,top 34,top 35,top 36,top 37,top 38,top 39,top 40,top 41,top 42,top 43,top 44]
noncomputable def Wz:List Stmt:=[top 45,top 46,top 47,top 48,top 49,top 50,top 51,top 52,top 53,top 54,top 55,top 56]
noncomputable def jX:List Stmt:=[top 57,top 58,top 59,top 60,top 61,top 62,top 63,top 64,top 65,top 66,top 67,top 68,top 69,top 70,top 71]
noncomputable def uN:List Stmt:=[top 72,top 73,top 74,top 75,top 76,top 77,top 78,top 79,top 80,top 81,top 82,top 83,top 84,top 85,top 86,top 87]
noncomputable def uM:List Stmt:=[top 88,top 89,top 90,top 91,top 92,top 93,top 94,top 95,top 96,top 97,top 98,top 99,top 100,top 101]
noncomputable def uL:List Stmt:=[top 102,top 103,top 104,top 105,top 106,top 107,top 108,top 109,top 110,top 111,top 112,top 113,top 114]
noncomputable def uK:List Stmt:=[top 115]
noncomputable def bE:List Stmt:=l0++(l1++(l2++(l3++(l4++(l5++(l6++(l7++(l8++(l9++(l10++(Wz++(jX++(uN++(uM++(uL++(uK++[]))))))))))))))))
noncomputable abbrev cE:Code:=Code.body bE en
noncomputable abbrev BB:List Frame:=[topFrame (Pos.mk 0 0 0 0)]
theorem jV(w:W1)(os:OsState):topGo treeTable pr w 11 (some (.ref 6)) 12 (Shared.mk (boot_heap w.params) (Array.mk []) boot_drawn boot_toks os) (topStub pr)=some (Shared.mk (Ha w.params) (Array.mk []) (Drawn.mk 0 0 0 0) 187 os,Thread.mk (denote treeTable cE) cE (Pos.mk 0 0 0 0) BB):=by rw[PySem.W.Fast.te15667345088766844465,PySem.W.Fast.te11892475500146522536,PySem.W.Fast.te14364793385576792824];kernel_rfl
theorem W6l(w:W1)(os:OsState):segRun treeTable pr w 11 (some (.ref 6)) 1 1 (Shared.mk (Ha w.params) (Array.mk []) (Drawn.mk 0 0 0 0) 187 os) (blockOf bE en cE (Pos.mk 0 0 0 0) BB)=some (Flow.next,(SharedT.mk (T0 w.params) 15 life (Array.mk []) (Drawn.mk 0 0 0 0) 187 os).abs,cE,(Pos.mk 0 0 0 0)):=by rw[PySem.W.Fast.te14374325043358763698,PySem.W.Fast.te14364793385576792824];kernel_rfl
noncomputable def Vg(P:Pz):List DictEntry:=[(dn P "__doc__" 166 .none),(dn P "__package__" 167 .none),(dn P "__loader__" 168 (.builtin "__main__.__loader__#opaque")),(dn P "__spec__" 169 .none),(dn P "__annotations__" 170 (.ref 6)),(dn P "__builtins__" 171 (.ref 4)),(dn P "__file__" 173 (.str "/claim/cut.py" 172)),(dn P "__cached__" 174 .none),(dn P "BoardError" 206 (.ref 24))]
def j_(P:Pz):=Gd ((dn P "__name__" 165 (.str "spinboard.errors" 187))::Vg P) 10
noncomputable def W3e(P:Pz):List Value:=[(.int 2 0),(.int 0 0),(.ref 20)]
def W8i(P:Pz):=Ed (W3e P)
def j15(P:Pz):=tq #[(.type "ValueError")]
noncomputable def lG(P:Pz):=Obj.mk (.type "builtin_function_or_method") none (Data.fields #[(.builtin "type.__prepare__"),(.type "type")]) #[]
def j17(P:Pz):=Gd [(dn P "__module__" 196 (.str "spinboard.errors" 187)),(dn P "__qualname__" 198 (.str "BoardError" 197)),(dn P "__firstlineno__" 200 (.int 2 199)),(dn P "__static_attributes__" 201 (.ref 22))] 4
def j20(P:Pz):=(Lh "BoardError" 191 "BoardError" 192 193 2 0 0 0 0 18 false 181 19 .none .none .none 194 2 195)
noncomputable def j21(P:Pz):=Obj.mk (.type "frame") none Data.plain #[(some (.ref 20)),(some (.ref 3)),(some (.ref 17)),none,(some (.str "spinboard.errors" 187)),none,(some (.ref 0))]
def j23(P:Pz):=Gd [(dn P "__module__" 196 (.str "spinboard.errors" 187)),(dn P "__firstlineno__" 200 (.int 2 199)),(dn P "__static_attributes__" 201 (.ref 22)),(dn P "__weakref__" 203 (.ref 25)),(dn P "__doc__" 204 .none)] 3
def W8a(P:Pz):=Ox []
noncomputable def j25(P:Pz):=Obj.mk (.type "getset_descriptor") none (Data.fields #[(.str "__weakref__" 202),(.ref 24),(.builtin "ExceptionGroup.__weakref__"),.none]) #[]
noncomputable def j26(P:Pz):=Obj.mk (.type "super") none (Data.fields #[(.ref 24),(.ref 24),(.ref 24)]) #[]
noncomputable def j27(P:Pz):=Obj.mk (.type "builtin_function_or_method") none (Data.fields #[(.builtin "object.__init_subclass__"),(.ref 24)]) #[]
def x1(P:Pz):List Obj:=[j15 P,lG P,j17 P,tz,Kz,j20 P,j21 P,tz,j23 P,W8a P,j25 P,j26 P,j27 P]
def T1 (P:Pz):BT:=iF (iL (T0 P) [(3,j_ P),(12,W8i P)]) 15 (x1 P)
abbrev gs (p:U8)(b:W8)(w:W1)(os:OsState)(k:Nat)(T:Pz->BT)(n t:Nat)(l:W8)(q:Pos)(T':Pz->BT)(n' t':Nat)(q':Pos):Prop:=segRunT treeTable p w 11 (some (.ref 6)) 1 k (SharedT.mk (T w.params) n life (Array.mk []) (Drawn.mk 0 0 0 0) t os) (piecesOf l en (Code.body b en) q BB)=some (Flow.next,(SharedT.mk (T' w.params) n' life (Array.mk []) (Drawn.mk 0 0 0 0) t' os),Code.body b en,q')
theorem g0(p:U8)(b:W8)(w:W1)(os:OsState):gs p b w os 196 T0 15 187 l0 (Pos.mk 0 0 0 0) T1 28 207 (Pos.mk 2 0 3 8):=by unfold gs;rw[PySem.W.Fast.te10110043849684766642,PySem.W.Fast.te14364793385576792824];kernel_rfl
def Vf(P:Pz):List DictEntry:=Vg P++[(dn P "NoShare" 222 (.ref 37))]
def j9(P:Pz):=Gd ((dn P "__name__" 165 (.str "spinboard.errors" 187))::Vf P) 11
def W3d(P:Pz):List Value:=W3e P++[(.int 4 0),(.int 0 0),(.ref 33)]
def W8h(P:Pz):=Ed (W3d P)
def W7z(P:Pz):=Ox [37]
def uO(P:Pz):=tq #[(.ref 24)]
def cc (P:Pz)(n:Str)(l:Int)(A t:Nat):List Obj:=[uO P,lG P,Gd [(dn P "__module__" (t+7) (.str "spinboard.errors" 187)),(dn P "__qualname__" (t+9) (.str n (t+8))),(dn P "__firstlineno__" (t+11) (.int l (t+10))),(dn P "__static_attributes__" (t+12) (.ref (A+7)))] 4,tz,Kz,Lh n (t+2) n (t+3) (t+4) l 0 0 0 0 (A+3) false 181 (A+4) .none .none .none ((t+5:Nat):Int) l (t+6),Obj.mk (.type "frame") none Data.plain #[(some (.ref (A+5))),(some (.ref 3)),(some (.ref (A+2))),none,(some (.str "spinboard.errors" 187)),none,(some (.ref 0))],tz,Gd [(dn P "__module__" (t+7) (.str "spinboard.errors" 187)),(dn P "__firstlineno__" (t+11) (.int l (t+10))),(dn P "__static_attributes__" (t+12) (.ref (A+7))),(dn P "__doc__" (t+13) .none)] 2,co n A t,Obj.mk (.type "super") none (Data.fields #[(.ref (A+9)),(.ref (A+9)),(.ref (A+9))]) #[],Obj.mk (.type "builtin_function_or_method") none (Data.fields #[(.builtin "object.__init_subclass__"),(.ref (A+9))]) #[]]
def j37(P:Pz):=co "NoShare" 28 207
def x2(P:Pz):List Obj:=cc P "NoShare" 4 28 207
def T2 (P:Pz):BT:=iF (iL (T1 P) [(3,j9 P),(12,W8h P),(24,W7z P)]) 28 (x2 P)
theorem g1(p:U8)(b:W8)(w:W1)(os:OsState):gs p b w os 214 T1 28 207 l1 (Pos.mk 2 0 3 8) T2 40 223 (Pos.mk 4 0 5 8):=by unfold gs;rw[PySem.W.Fast.te10110043849684766642,PySem.W.Fast.te14364793385576792824];kernel_rfl
def Ve(P:Pz):List DictEntry:=Vf P++[(dn P "NoMark" 238 (.ref 49))]
def j8(P:Pz):=Gd ((dn P "__name__" 165 (.str "spinboard.errors" 187))::Ve P) 12
def W3c(P:Pz):List Value:=W3d P++[(.int 6 0),(.int 0 0),(.ref 45)]
def W8g(P:Pz):=Ed (W3c P)
def W7y(P:Pz):=Ox [37,49]
def j49(P:Pz):=co "NoMark" 40 223
def x3(P:Pz):List Obj:=cc P "NoMark" 6 40 223
def T3 (P:Pz):BT:=iF (iL (T2 P) [(3,j8 P),(12,W8g P),(24,W7y P)]) 40 (x3 P)
theorem g2(p:U8)(b:W8)(w:W1)(os:OsState):gs p b w os 214 T2 40 223 l2 (Pos.mk 4 0 5 8) T3 52 239 (Pos.mk 6 0 7 8):=by unfold gs;rw[PySem.W.Fast.te10110043849684766642,PySem.W.Fast.te14364793385576792824];kernel_rfl
def Vd(P:Pz):List DictEntry:=Ve P++[(dn P "NoBoard" 254 (.ref 61))]
def j6(P:Pz):=Gd ((dn P "__name__" 165 (.str "spinboard.errors" 187))::Vd P) 13
def W3b(P:Pz):List Value:=W3c P++[(.int 8 0),(.int 0 0),(.ref 57)]
def W8f(P:Pz):=Ed (W3b P)
def W7x(P:Pz):=Ox [37,49,61]
def j61(P:Pz):=co "NoBoard" 52 239
def x4(P:Pz):List Obj:=cc P "NoBoard" 8 52 239
def T4 (P:Pz):BT:=iF (iL (T3 P) [(3,j6 P),(12,W8f P),(24,W7x P)]) 52 (x4 P)
theorem g3(p:U8)(b:W8)(w:W1)(os:OsState):gs p b w os 214 T3 52 239 l3 (Pos.mk 6 0 7 8) T4 64 255 (Pos.mk 8 0 9 8):=by unfold gs;rw[PySem.W.Fast.te10110043849684766642,PySem.W.Fast.te14364793385576792824];kernel_rfl
def Vc(P:Pz):List DictEntry:=Vd P++[(dn P "NoMove" 270 (.ref 73))]
def j5(P:Pz):=Gd ((dn P "__name__" 165 (.str "spinboard.errors" 187))::Vc P) 14
def W3a(P:Pz):List Value:=W3b P++[(.int 10 0),(.int 0 0),(.ref 69)]
def W8e(P:Pz):=Ed (W3a P)
def W7w(P:Pz):=Ox [37,49,61,73]
def j73(P:Pz):=co "NoMove" 64 255
def x5(P:Pz):List Obj:=cc P "NoMove" 10 64 255
def T5 (P:Pz):BT:=iF (iL (T4 P) [(3,j5 P),(12,W8e P),(24,W7w P)]) 64 (x5 P)
theorem g4(p:U8)(b:W8)(w:W1)(os:OsState):gs p b w os 214 T4 64 255 l4 (Pos.mk 8 0 9 8) T5 76 271 (Pos.mk 10 0 11 8):=by unfold gs;rw[PySem.W.Fast.te10110043849684766642,PySem.W.Fast.te14364793385576792824];kernel_rfl
def Vb(P:Pz):List DictEntry:=Vc P++[(dn P "NoCell" 286 (.ref 85))]
def j4(P:Pz):=Gd ((dn P "__name__" 165 (.str "spinboard.errors" 187))::Vb P) 15
def W2z(P:Pz):List Value:=W3a P++[(.int 12 0),(.int 0 0),(.ref 81)]
def W8d(P:Pz):=Ed (W2z P)
def W7v(P:Pz):=Ox [37,49,61,73,85]
def j85(P:Pz):=co "NoCell" 76 271
def x6(P:Pz):List Obj:=cc P "NoCell" 12 76 271
def T6 (P:Pz):BT:=iF (iL (T5 P) [(3,j4 P),(12,W8d P),(24,W7v P)]) 76 (x6 P)
theorem g5(p:U8)(b:W8)(w:W1)(os:OsState):gs p b w os 214 T5 76 271 l5 (Pos.mk 10 0 11 8) T6 88 287 (Pos.mk 12 0 13 8):=by unfold gs;rw[PySem.W.Fast.te10110043849684766642,PySem.W.Fast.te14364793385576792824];kernel_rfl
def Va(P:Pz):List DictEntry:=Vb P++[(dn P "NeverSo" 302 (.ref 97))]
def jz(P:Pz):=Gd ((dn P "__name__" 165 (.str "spinboard.errors" 187))::Va P) 16
def W2y(P:Pz):List Value:=W2z P++[(.int 14 0),(.int 0 0),(.ref 93)]
def W8c(P:Pz):=Ed (W2y P)
def W7u(P:Pz):=Ox [37,49,61,73,85,97]
def j97(P:Pz):=co "NeverSo" 88 287
def x7(P:Pz):List Obj:=cc P "NeverSo" 14 88 287
def T7 (P:Pz):BT:=iF (iL (T6 P) [(3,jz P),(12,W8c P),(24,W7u P)]) 88 (x7 P)
theorem g6(p:U8)(b:W8)(w:W1)(os:OsState):gs p b w os 214 T6 88 287 l6 (Pos.mk 12 0 13 8) T7 100 303 (Pos.mk 14 0 15 8):=by unfold gs;rw[PySem.W.Fast.te10110043849684766642,PySem.W.Fast.te14364793385576792824];kernel_rfl
def VR(P:Pz):List DictEntry:=Va P++[(dn P "NoTable" 318 (.ref 109))]
def jy(P:Pz):=Gd ((dn P "__name__" 165 (.str "spinboard.errors" 187))::VR P) 17
def W2x(P:Pz):List Value:=W2y P++[(.int 16 0),(.int 0 0),(.ref 105)]
def W8b(P:Pz):=Ed (W2x P)
def W7t(P:Pz):=Ox [37,49,61,73,85,97,109]
def A0G(P:Pz):=co "NoTable" 100 303
def x8(P:Pz):List Obj:=cc P "NoTable" 16 100 303
def T8 (P:Pz):BT:=iF (iL (T7 P) [(3,jy P),(12,W8b P),(24,W7t P)]) 100 (x8 P)
theorem g7(p:U8)(b:W8)(w:W1)(os:OsState):gs p b w os 214 T7 100 303 l7 (Pos.mk 14 0 15 8) T8 112 319 (Pos.mk 16 0 17 8):=by unfold gs;rw[PySem.W.Fast.te10110043849684766642,PySem.W.Fast.te14364793385576792824];kernel_rfl
def W2w(P:Pz):List DictEntry:=VR P++[(dn P "NotBorne" 343 (.ref 128)),(dn P "is_whole" 352 (.ref 137)),(dn P "share" 364 (.ref 145)),(dn P "common_divisor" 373 (.ref 152)),(dn P "share_times" 383 (.ref 159))]
def W7s(P:Pz):=Gd ((dn P "__name__" 165 (.str "spinboard.shares" 344))::W2w P) 22
def _W(P:Pz):List Value:=W2x P++[(.int 18 0),(.int 0 0),(.ref 117),(.int 23 0),(.int 0 0),(.ref 136),(.int 25 0),(.int 0 0),(.ref 144),(.int 34 0),(.int 0 0),(.ref 151),(.int 40 0),(.int 0 0),(.ref 158)]
def W5m(P:Pz):=Ed (_W P)
def qe(P:Pz):=Ox [37,49,61,73,85,97,109,128]
def mK(P:Pz):=Gd [(dn P "__module__" 326 (.str "spinboard.errors" 187)),(dn P "__qualname__" 328 (.str "NotBorne" 327)),(dn P "__firstlineno__" 330 (.int 18 329)),(dn P "__init__" 338 (.ref 125)),(dn P "__static_attributes__" 340 (.ref 126))] 5
noncomputable def mJ(P:Pz):=Obj.mk .none none (Data.fields #[(.int 20 0),(.int 4 0),(.ref 124)]) #[]
def mH(P:Pz):=(Lh "NotBorne" 321 "NotBorne" 322 323 18 0 0 0 0 115 false 181 116 .none .none .none 324 18 325)
noncomputable def mG(P:Pz):=Obj.mk (.type "frame") none Data.plain #[(some (.ref 117)),(some (.ref 3)),(some (.ref 114)),none,(some (.str "spinboard.errors" 187)),none,(some (.ref 0))]
def mF(P:Pz):=tq #[(.str "self" 334),(.str "place" 335)]
def lg(P:Pz):=(Xn "__init__" "NotBorne.__init__" (X1y (top 9) 0) 0 0)
def lZ(P:Pz):=(Lh "__init__" 331 "NotBorne.__init__" 332 333 20 2 0 0 3 119 true 181 120 (.ref 121) (.ref 122) (.ref 123) 336 20 337)
def lY(P:Pz):=(Xl "__init__" "NotBorne.__init__" (X1y (top 9) 0) 3 "spinboard.errors" 187 124 0)
def lX(P:Pz):=tq #[(.str "place" 339)]
def lW(P:Pz):=Gd [(dn P "__module__" 326 (.str "spinboard.errors" 187)),(dn P "__firstlineno__" 330 (.int 18 329)),(dn P "__init__" 338 (.ref 125)),(dn P "__static_attributes__" 340 (.ref 126)),(dn P "__doc__" 341 .none)] 2
noncomputable def lV(P:Pz):=Obj.mk (.type "type") none (Data.cls (ClassData.mk "NotBorne" [(.ref 24)] [(.ref 128),(.ref 24),(.type "ValueError"),(.type "Exception"),(.type "BaseException"),(.type "object")] 127 "NotBorne" true [] [] false none false)) #[(some (.ref 112)),none,(some (.str "NotBorne" 319)),(some (.str "NotBorne" 327)),(some (.builtin "ValueError.__new__")),(some (.bool true))]
noncomputable def lU(P:Pz):=Obj.mk (.type "super") none (Data.fields #[(.ref 128),(.ref 128),(.ref 128)]) #[]
noncomputable def lO(P:Pz):=Obj.mk (.type "builtin_function_or_method") none (Data.fields #[(.builtin "object.__init_subclass__"),(.ref 128)]) #[]
def Xd(P:Pz):=tq #[(.int 0 353),(.int 1 354)]
def lK(P:Pz):=tq #[(.str "top" 358),(.str "root" 359),(.str "bottom" 360),(.str "common" 361)]
def lJ(P:Pz):=(Xn "share" "share" (top 12) 0 0)
def lH(P:Pz):=(Lh "share" 355 "share" 356 357 25 3 0 0 3 139 true 181 140 (.ref 141) (.ref 142) (.ref 143) 362 25 363)
noncomputable def Xc(P:Pz):=Obj.mk (.type "function") none (Data.func (FuncData.mk "share" "share" (Ft (top 12)) (FuncBody.stmts (FT (top 12))) (Dp (top 12)) 3 [] (.ref 138) .none .none (.str "spinboard.shares" 344) none (.ref 144) .none 0)) #[]
def x9(P:Pz):List Obj:=[uO P,lG P,mK P,tz,mJ P,mH P,mG P,tz,Kz,mF P,tz,lg P,lZ P,lY P,lX P,lW P,lV P,lU P,lO P]++(Zv "is_whole" 11 23 1 131 346 ["thing"]++([Xd P,tz,Kz,lK P,tz,lJ P,lH P,Xc P]++(Zv "common_divisor" 13 34 2 146 365 ["one","other","rest"]++(Zv "share_times" 14 40 2 153 374 ["one","other","top","root"]))))
def T9 (P:Pz):BT:=iF (iL (T8 P) [(3,W7s P),(12,W5m P),(24,qe P)]) 112 (x9 P)
theorem g8(p:U8)(b:W8)(w:W1)(os:OsState):gs p b w os 382 T8 112 319 l8 (Pos.mk 16 0 17 8) T9 160 384 (Pos.mk 40 0 43 46):=by unfold gs;rw[PySem.W.Fast.te10110043849684766642,PySem.W.Fast.te14364793385576792824];kernel_rfl
def W2v(P:Pz):List DictEntry:=W2w P++[(dn P "share_over" 392 (.ref 166)),(dn P "ones" 403 (.ref 173)),(dn P "is_word" 411 (.ref 180)),(dn P "is_mark" 419 (.ref 187)),(dn P "is_even" 426 (.ref 194)),(dn P "is_even_mark" 434 (.ref 201)),(dn P "commute" 442 (.ref 208)),(dn P "product" 451 (.ref 215)),(dn P "turned_about" 458 (.ref 222)),(dn P "halved_out" 474 (.ref 229)),(dn P "plus" 480 (.ref 234)),(dn P "minus" 488 (.ref 241))]
def W7r(P:Pz):=Gd ((dn P "__name__" 165 (.str "spinboard.amounts" 459))::W2v P) 34
def _Y(P:Pz):List Value:=_W P++[(.int 44 0),(.int 0 0),(.ref 165),(.int 50 0),(.int 0 0),(.ref 172),(.int 57 0),(.int 0 0),(.ref 179),(.int 61 0),(.int 0 0),(.ref 186),(.int 67 0),(.int 0 0),(.ref 193),(.int 69 0),(.int 0 0),(.ref 200),(.int 71 0),(.int 0 0),(.ref 207),(.int 73 0),(.int 0 0),(.ref 214),(.int 76 0),(.int 0 0),(.ref 221),(.int 79 0),(.int 0 0),(.ref 228),(.int 86 0),(.int 0 0),(.ref 233),(.int 92 0),(.int 0 0),(.ref 240)]
def W5l(P:Pz):=Ed (_Y P)
def x10(P:Pz):List Obj:=Zv "share_over" 15 44 2 160 384 ["one","other","rootless"]++(Qm "ones" 17 50 1 167 395 ["number","many","rest"]++(Qm "is_word" 18 57 2 174 404 ["thing","cells"]++(Qm "is_mark" 19 61 2 181 412 ["thing","cells"]++(Qm "is_even" 20 67 1 188 420 ["mark"]++(Qm "is_even_mark" 21 69 2 195 427 ["thing","cells"]++(Qm "commute" 22 71 2 202 435 ["one","other"]++(Qm "product" 23 73 2 209 443 ["one","other","met"]++(Qm "turned_about" 24 76 1 216 452 ["mark"]++(Rr "halved_out" 26 79 5 223 461 ["a","b","c","d","h","places","lowest","less"]++(Rr "plus" 27 86 2 230 475 []++(Rr "minus" 28 92 2 235 481 ["one","other"])))))))))))
def rD (P:Pz):BT:=iF (iL (T9 P) [(3,W7r P),(12,W5l P)]) 160 (x10 P)
theorem g9(p:U8)(b:W8)(w:W1)(os:OsState):gs p b w os 382 T9 160 384 l9 (Pos.mk 40 0 43 46) rD 242 489 (Pos.mk 92 0 93 36):=by unfold gs;rw[PySem.W.Fast.te10110043849684766642,PySem.W.Fast.te14364793385576792824];kernel_rfl
def W2u(P:Pz):List DictEntry:=W2v P++[(dn P "times" 494 (.ref 246)),(dn P "spun" 504 (.ref 253)),(dn P "spun_once" 511 (.ref 260)),(dn P "mirror" 518 (.ref 267)),(dn P "rooted" 525 (.ref 274)),(dn P "real_share" 532 (.ref 281)),(dn P "NOUGHT" 540 (.ref 282)),(dn P "ONE" 546 (.ref 283)),(dn P "MOST_CELLS" 548 (.int 6 547)),(dn P "start" 555 (.ref 289)),(dn P "check_beginning" 563 (.ref 296)),(dn P "cells_of" 570 (.ref 303)),(dn P "heft" 579 (.ref 310)),(dn P "laid_on" 585 (.ref 315)),(dn P "spun_by_mark" 594 (.ref 322))]
def W7q(P:Pz):=Gd ((dn P "__name__" 165 (.str "spinboard.boards" 533))::W2u P) 49
def _Z(P:Pz):List Value:=_Y P++[(.int 94 0),(.int 0 0),(.ref 245),(.int 101 0),(.int 0 0),(.ref 252),(.int 106 0),(.int 0 0),(.ref 259),(.int 108 0),(.int 0 0),(.ref 266),(.int 110 0),(.int 0 0),(.ref 273),(.int 112 0),(.int 0 0),(.ref 280),(.int 120 0),(.int 0 0),(.ref 288),(.int 123 0),(.int 0 0),(.ref 295),(.int 128 0),(.int 0 0),(.ref 302),(.int 130 0),(.int 0 0),(.ref 309),(.int 135 0),(.int 0 0),(.ref 314),(.int 137 0),(.int 0 0),(.ref 321)]
def W5k(P:Pz):=Ed (_Z P)
def lF(P:Pz):=tq #[(.str "one" 508)]
noncomputable def lE(P:Pz):=Obj.mk .none none (Data.func (FuncData.mk "spun_once" "spun_once" (Ft (top 31)) (FuncBody.stmts (FT (top 31))) (Dp (top 32)) 0 [] .none .none .none .none none .none .none 0)) #[]
def lB(P:Pz):=(Lh "spun_once" 505 "spun_once" 506 507 106 1 0 0 3 254 true 181 255 (.ref 256) (.ref 257) (.ref 258) 509 106 510)
noncomputable def Xb(P:Pz):=Obj.mk (.type "function") none (Data.func (FuncData.mk "spun_once" "spun_once" (Ft (top 31)) (FuncBody.stmts (FT (top 31))) (Dp (top 32)) 3 [] .none .none .none (.str "spinboard.amounts" 459) none (.ref 259) .none 0)) #[]
def lA(P:Pz):=tq #[(.str "one" 522)]
noncomputable def k_(P:Pz):=Obj.mk .none none (Data.func (FuncData.mk "rooted" "rooted" (Ft (top 33)) (FuncBody.stmts (FT (top 33))) (Dp (top 97)) 0 [] .none .none .none .none none .none .none 0)) #[]
def kj(P:Pz):=(Lh "rooted" 519 "rooted" 520 521 110 1 0 0 3 268 true 181 269 (.ref 270) (.ref 271) (.ref 272) 523 110 524)
noncomputable def Xa(P:Pz):=Obj.mk (.type "function") none (Data.func (FuncData.mk "rooted" "rooted" (Ft (top 33)) (FuncBody.stmts (FT (top 33))) (Dp (top 97)) 3 [] .none .none .none (.str "spinboard.amounts" 459) none (.ref 273) .none 0)) #[]
def XS(P:Pz):=tq #[(.int 0 535),(.int 0 536),(.int 0 537),(.int 0 538),(.int 0 539)]
def XR(P:Pz):=tq #[(.int 1 541),(.int 0 542),(.int 0 543),(.int 0 544),(.int 0 545)]
def XQ(P:Pz):=tq #[(.int 0 549)]
def kY(P:Pz):=(Xn "start" "start" (top 39) 0 0)
def kW(P:Pz):=(Lh "start" 550 "start" 551 552 120 2 0 0 3 285 true 181 286 .none .none (.ref 287) 553 120 554)
noncomputable def XM(P:Pz):=Obj.mk (.type "function") none (Data.func (FuncData.mk "start" "start" (Ft (top 39)) (FuncBody.stmts (FT (top 39))) (Dp (top 39)) 3 [] (.ref 284) .none .none (.str "spinboard.boards" 533) none (.ref 288) .none 0)) #[]
def x11(P:Pz):List Obj:=Rr "times" 29 94 2 242 489 []++(Rr "spun" 30 101 2 247 495 ["one","k","turning","step"]++([tz,Kz,lF P,tz,lE P,lB P,Xb P]++(Rr "mirror" 32 108 1 261 512 ["one"]++([tz,Kz,lA P,tz,k_ P,kj P,Xa P]++(Rr "real_share" 34 112 1 275 526 ["one"]++([XS P,XR P,XQ P,tz,Kz,kY P,kW P,XM P]++(Xo "check_beginning" 40 123 2 290 556 ["cells","word"]++(Xo "cells_of" 41 128 1 297 564 ["board"]++(Xo "heft" 42 130 1 304 571 ["board","total","one"]++(Xo "laid_on" 43 135 2 311 580 []++(Xo "spun_by_mark" 44 137 3 316 586 ["board","word","mark"])))))))))))
def VJ (P:Pz):BT:=iF (iL (rD P) [(3,W7q P),(12,W5k P)]) 242 (x11 P)
theorem g10(p:U8)(b:W8)(w:W1)(os:OsState):gs p b w os 398 rD 242 489 l10 (Pos.mk 92 0 93 36) VJ 323 595 (Pos.mk 137 0 138 68):=by unfold gs;rw[PySem.W.Fast.te10110043849684766642,PySem.W.Fast.te14364793385576792824];kernel_rfl
def W2t(P:Pz):List DictEntry:=W2u P++[(dn P "NUMBERS_BEHIND" 618 (.ref 323)),(dn P "check_move" 624 (.ref 328)),(dn P "has_move_form" 630 (.ref 333)),(dn P "named_cells" 637 (.ref 340)),(dn P "turned" 643 (.ref 345)),(dn P "mixed" 649 (.ref 350)),(dn P "mixed_at" 658 (.ref 357)),(dn P "spun_where" 664 (.ref 362)),(dn P "word_behind" 670 (.ref 367)),(dn P "exchanged" 680 (.ref 374))]
def W7p(P:Pz):=Gd ((dn P "__name__" 165 (.str "spinboard.bits" 681))::W2t P) 59
def _j(P:Pz):List Value:=_Z P++[(.int 141 0),(.int 0 0),(.ref 327),(.int 150 0),(.int 0 0),(.ref 332),(.int 160 0),(.int 0 0),(.ref 339),(.int 162 0),(.int 0 0),(.ref 344),(.int 171 0),(.int 0 0),(.ref 349),(.int 173 0),(.int 0 0),(.ref 356),(.int 177 0),(.int 0 0),(.ref 361),(.int 179 0),(.int 0 0),(.ref 366),(.int 190 0),(.int 0 0),(.ref 373)]
def W5j(P:Pz):=Ed (_j P)
def XJ(P:Pz):=Gd [(dn P "flip" 597 (.int 1 598)),(dn P "mix" 599 (.int 1 600)),(dn P "turn" 601 (.int 2 602)),(dn P "if" 603 (.int 2 604)),(dn P "pair" 605 (.int 2 606)),(dn P "swap" 607 (.int 2 608)),(dn P "cross" 609 (.int 3 610))] 7
def kJ(P:Pz):=tq #[(.str "move" 634)]
noncomputable def kI(P:Pz):=Obj.mk .none none (Data.func (FuncData.mk "named_cells" "named_cells" (Ft (top 49)) (FuncBody.stmts (FT (top 49))) (Dp (top 82)) 0 [] .none .none .none .none none .none .none 0)) #[]
def kE(P:Pz):=(Lh "named_cells" 631 "named_cells" 632 633 160 1 0 0 3 334 true 181 335 (.ref 336) (.ref 337) (.ref 338) 635 160 636)
noncomputable def XH(P:Pz):=Obj.mk (.type "function") none (Data.func (FuncData.mk "named_cells" "named_cells" (Ft (top 49)) (FuncBody.stmts (FT (top 49))) (Dp (top 82)) 3 [] .none .none .none (.str "spinboard.moves" 595) none (.ref 339) .none 0)) #[]
def x12(P:Pz):List Obj:=[XJ P]++(Ql "check_move" 47 141 2 324 619 []++(Ql "has_move_form" 48 150 1 329 625 []++([tz,Kz,kJ P,tz,kI P,kE P,XH P]++(Ql "turned" 50 162 2 341 638 []++(Ql "mixed" 51 171 2 346 644 []++(Ql "mixed_at" 52 173 3 351 650 ["board","word","bit"]++(Ql "spun_where" 53 177 3 358 659 []++(Ql "word_behind" 54 179 2 363 665 []++(Ql "exchanged" 55 190 3 368 671 ["word","bit","other","both"])))))))))
def VH (P:Pz):BT:=iF (iL (VJ P) [(3,W7p P),(12,W5j P)]) 323 (x12 P)
theorem g11(p:U8)(b:W8)(w:W1)(os:OsState):gs p b w os 382 VJ 323 595 Wz (Pos.mk 137 0 138 68) VH 375 683 (Pos.mk 193 0 193 8):=
 (byRow2 "special-get-raises" (P:=λw=>(λw:World=>gs p b w os 382 VJ 323 595 Wz (Pos.mk 137 0 138 68) VH 375 683 (Pos.mk 193 0 193 8)) w) (λw=>by show (λw:World=>gs p b w os 382 VJ 323 595 Wz (Pos.mk 137 0 138 68) VH 375 683 (Pos.mk 193 0 193 8)) (World.withFollow w "special-get-raises" false);unfold gs;rw[PySem.W.Fast.te10110043849684766642,PySem.W.Fast.te14364793385576792824];kernel_rfl) (λw=>by show (λw:World=>gs p b w os 382 VJ 323 595 Wz (Pos.mk 137 0 138 68) VH 375 683 (Pos.mk 193 0 193 8)) (World.withFollow w "special-get-raises" true);unfold gs;rw[PySem.W.Fast.te10110043849684766642,PySem.W.Fast.te14364793385576792824];kernel_rfl)) w
def W2s(P:Pz):List DictEntry:=W2t P++[(dn P "solved" 693 (.ref 381)),(dn P "cleared" 703 (.ref 388)),(dn P "places_at_one" 709 (.ref 393)),(dn P "solution" 719 (.ref 400)),(dn P "PRODUCT_OF_NONE" 725 (.ref 401)),(dn P "FIRST_SIGN_LEAD" 727 (.int 6 726)),(dn P "is_table" 733 (.ref 406)),(dn P "commutes_with_all" 739 (.ref 411)),(dn P "check_table" 747 (.ref 418)),(dn P "reduced" 753 (.ref 423)),(dn P "without_lead" 761 (.ref 430)),(dn P "lead" 768 (.ref 437)),(dn P "least_cell" 775 (.ref 444)),(dn P "has_at_lead" 783 (.ref 451))]
def W7o(P:Pz):=Gd ((dn P "__name__" 165 (.str "spinboard.tables" 720))::W2s P) 73
def _z(P:Pz):List Value:=_j P++[(.int 194 0),(.int 0 0),(.ref 380),(.int 203 0),(.int 0 0),(.ref 387),(.int 209 0),(.int 0 0),(.ref 392),(.int 211 0),(.int 0 0),(.ref 399),(.int 221 0),(.int 0 0),(.ref 405),(.int 229 0),(.int 0 0),(.ref 410),(.int 231 0),(.int 0 0),(.ref 417),(.int 234 0),(.int 0 0),(.ref 422),(.int 243 0),(.int 0 0),(.ref 429),(.int 245 0),(.int 0 0),(.ref 436),(.int 249 0),(.int 0 0),(.ref 443),(.int 251 0),(.int 0 0),(.ref 450)]
def W5i(P:Pz):=Ed (_z P)
def XF(P:Pz):=tq #[(.int 0 722),(.int 0 723),(.int 0 724)]
def sE(P:Pz):List Obj:=Zu "solved" 57 194 1 375 683 ["equations","kept","place","equation","left"]++(Zu "cleared" 58 203 2 382 694 ["equation","kept","left","other"]++(Zu "places_at_one" 59 209 1 389 704 []++(Zu "solution" 60 211 1 394 710 ["kept","x","height","equation"]++([XF P]++(Lg "is_table" 64 221 2 402 728 []++(Lg "commutes_with_all" 65 229 2 407 734 []++(Lg "check_table" 66 231 2 412 740 ["rows","cells"]++(Lg "reduced" 67 234 2 419 748 []++(Lg "without_lead" 68 243 2 424 754 ["mark","row"]++(Lg "lead" 69 245 1 431 762 ["mark"]++(Lg "least_cell" 70 249 1 438 769 ["word"]++(Lg "has_at_lead" 71 251 2 445 776 ["mark","place"]))))))))))))
def rC (P:Pz):BT:=iF (iL (VH P) [(3,W7o P),(12,W5i P)]) 375 (sE P)
theorem g12(p:U8)(b:W8)(w:W1)(os:OsState):gs p b w os 381 VH 375 683 jX (Pos.mk 193 0 193 8) rC 452 784 (Pos.mk 251 0 254 54):=by unfold gs;rw[PySem.W.Fast.te10110043849684766642,PySem.W.Fast.te14364793385576792824];kernel_rfl
def W2r(P:Pz):List DictEntry:=W2s P++[(dn P "made_of" 789 (.ref 456)),(dn P "rows_with" 795 (.ref 461)),(dn P "product_of" 804 (.ref 468)),(dn P "apart_by" 810 (.ref 473)),(dn P "SURE" 816 (.ref 474)),(dn P "NEVER" 820 (.ref 475)),(dn P "HALF" 824 (.ref 476)),(dn P "borne" 833 (.ref 483)),(dn P "is_borne" 840 (.ref 490)),(dn P "is_odd_turn" 847 (.ref 497)),(dn P "moved_rows" 853 (.ref 502)),(dn P "check_borne" 861 (.ref 509)),(dn P "moved_through" 871 (.ref 516)),(dn P "moved_by" 881 (.ref 523)),(dn P "moved_by_mix" 892 (.ref 530))]
def W7n(P:Pz):=Gd ((dn P "__name__" 165 (.str "spinboard.tableturns" 811))::W2r P) 88
def _2(P:Pz):List Value:=_z P++[(.int 255 0),(.int 0 0),(.ref 455),(.int 264 0),(.int 0 0),(.ref 460),(.int 266 0),(.int 0 0),(.ref 467),(.int 271 0),(.int 0 0),(.ref 472),(.int 279 0),(.int 0 0),(.ref 482),(.int 284 0),(.int 0 0),(.ref 489),(.int 286 0),(.int 0 0),(.ref 496),(.int 288 0),(.int 0 0),(.ref 501),(.int 291 0),(.int 0 0),(.ref 508),(.int 295 0),(.int 0 0),(.ref 515),(.int 300 0),(.int 0 0),(.ref 522),(.int 314 0),(.int 0 0),(.ref 529)]
def W5h(P:Pz):=Ed (_2 P)
def XD(P:Pz):=tq #[(.int 1 813),(.int 0 814),(.int 1 815)]
def XC(P:Pz):=tq #[(.int 0 817),(.int 0 818),(.int 1 819)]
def W_(P:Pz):=tq #[(.int 1 821),(.int 0 822),(.int 2 823)]
def rZ(P:Pz):List Obj:=Lg "made_of" 72 255 3 452 784 []++(Lg "rows_with" 73 264 3 457 790 []++(Lg "product_of" 74 266 1 462 796 ["marks","made","mark"]++(Lg "apart_by" 75 271 2 469 805 []++([XD P,XC P,W_ P]++(K5 "borne" 80 279 1 477 825 ["row","place","move"]++(K5 "is_borne" 81 284 1 484 834 ["move"]++(K5 "is_odd_turn" 82 286 1 491 841 ["move"]++(K5 "moved_rows" 83 288 2 498 848 []++(K5 "check_borne" 84 291 1 503 854 ["row","place"]++(K5 "moved_through" 85 295 2 510 862 ["mark","row","behind","move"]++(K5 "moved_by" 86 300 2 517 872 ["mark","move","bit","other"]++(K5 "moved_by_mix" 87 314 2 524 882 ["mark","bit","flips","signs","moved"]))))))))))))
def rB (P:Pz):BT:=iF (iL (rC P) [(3,W7n P),(12,W5h P)]) 452 (rZ P)
theorem g13(p:U8)(b:W8)(w:W1)(os:OsState):gs p b w os 400 rC 452 784 uN (Pos.mk 251 0 254 54) rB 531 893 (Pos.mk 314 0 318 64):=by unfold gs;rw[PySem.W.Fast.te10110043849684766642,PySem.W.Fast.te14364793385576792824];kernel_rfl
def W2q(P:Pz):List DictEntry:=W2r P++[(dn P "moved_by_turn" 902 (.ref 537)),(dn P "moved_by_if" 913 (.ref 544)),(dn P "moved_by_pair" 924 (.ref 551)),(dn P "table_looked" 933 (.ref 558)),(dn P "table_settled" 939 (.ref 563)),(dn P "settled" 951 (.ref 570)),(dn P "check_look" 959 (.ref 577)),(dn P "half_left" 965 (.ref 582)),(dn P "halved" 972 (.ref 589)),(dn P "is_nothing" 978 (.ref 594)),(dn P "looked" 987 (.ref 601)),(dn P "left_share" 997 (.ref 608))]
def W7m(P:Pz):=Gd ((dn P "__name__" 165 (.str "spinboard.rows" 998))::W2q P) 100
def _3(P:Pz):List Value:=_2 P++[(.int 319 0),(.int 0 0),(.ref 536),(.int 324 0),(.int 0 0),(.ref 543),(.int 328 0),(.int 0 0),(.ref 550),(.int 336 0),(.int 0 0),(.ref 557),(.int 341 0),(.int 0 0),(.ref 562),(.int 351 0),(.int 0 0),(.ref 569),(.int 357 0),(.int 0 0),(.ref 576),(.int 360 0),(.int 0 0),(.ref 581),(.int 365 0),(.int 0 0),(.ref 588),(.int 367 0),(.int 0 0),(.ref 593),(.int 369 0),(.int 0 0),(.ref 600),(.int 373 0),(.int 0 0),(.ref 607)]
def W5g(P:Pz):=Ed (_3 P)
def rY(P:Pz):List Obj:=K5 "moved_by_turn" 88 319 3 531 893 ["mark","bit","k","signs"]++(K5 "moved_by_if" 89 324 3 538 903 ["mark","bit","other","flips","signs"]++(K5 "moved_by_pair" 90 328 3 545 914 ["mark","bit","other","signs","moved"]++(K5 "table_looked" 91 336 2 552 925 ["rows","mark","told"]++(K5 "table_settled" 92 341 3 559 934 []++(Rq "settled" 94 351 3 564 942 ["board","mark","outcome","behind"]++(Rq "check_look" 95 357 2 571 952 ["mark","cells"]++(Rq "half_left" 96 360 3 578 960 []++(Rq "halved" 97 365 1 583 966 ["one"]++(Rq "is_nothing" 98 367 1 590 973 []++(Rq "looked" 99 369 2 595 979 ["board","mark","ahead"]++(Rq "left_share" 100 373 4 602 988 ["board","mark","outcome","ahead"])))))))))))
def T15 (P:Pz):BT:=iF (iL (rB P) [(3,W7m P),(12,W5g P)]) 531 (rY P)
theorem g14(p:U8)(b:W8)(w:W1)(os:OsState):gs p b w os 380 rB 531 893 uM (Pos.mk 314 0 318 64) T15 609 1000 (Pos.mk 375 0 375 8):=by unfold gs;rw[PySem.W.Fast.te10110043849684766642,PySem.W.Fast.te14364793385576792824];kernel_rfl
def W2p(P:Pz):List DictEntry:=W2q P++[(dn P "run" 1009 (.ref 615)),(dn P "_law_cell_at" 1019 (.ref 622)),(dn P "_law_whole" 1026 (.ref 629)),(dn P "_law_ones" 1034 (.ref 636)),(dn P "_law_product" 1043 (.ref 643)),(dn P "_law_move" 1053 (.ref 650)),(dn P "_law_look_mark" 1067 (.ref 657)),(dn P "_law_digits" 1080 (.ref 664)),(dn P "_law_keeps" 1090 (.ref 671)),(dn P "_law_never" 1104 (.ref 678)),(dn P "_law_shares" 1114 (.ref 685)),(dn P "_law_look" 1128 (.ref 692))]
def W7l(P:Pz):=Gd ((dn P "__name__" 165 (.str "law_spinboard_k56_whole_looks_at_tables" 1010))::W2p P) 112
def _4(P:Pz):List Value:=_3 P++[(.int 376 0),(.int 0 0),(.ref 614),(.int 382 0),(.int 0 0),(.ref 621),(.int 386 0),(.int 0 0),(.ref 628),(.int 388 0),(.int 0 0),(.ref 635),(.int 394 0),(.int 0 0),(.ref 642),(.int 397 0),(.int 0 0),(.ref 649),(.int 405 0),(.int 0 0),(.ref 656),(.int 416 0),(.int 0 0),(.ref 663),(.int 427 0),(.int 0 0),(.ref 670),(.int 438 0),(.int 0 0),(.ref 677),(.int 450 0),(.int 0 0),(.ref 684),(.int 461 0),(.int 0 0),(.ref 691)]
def W5f(P:Pz):=Ed (_4 P)
def rW(P:Pz):List Obj:=de9 "run" 102 376 2 609 1000 ["board","row","behind","move"]++(GR "_law_cell_at" 104 382 2 616 1012 ["_law_script","_law_k"]++(GR "_law_whole" 105 386 1 623 1020 ["_law_found"]++(GR "_law_ones" 106 388 1 630 1027 ["_law_number","_law_found"]++(GR "_law_product" 107 394 2 637 1035 ["_law_one","_law_other","_law_turns"]++(GR "_law_move" 108 397 2 644 1044 ["_law_number","_law_cells","_law_one","_law_other"]++(GR "_law_look_mark" 109 405 3 651 1054 ["_law_number","_law_rows","_law_cells","_law_turns","_law_f","_law_s","_law_made","_law_k"]++(GR "_law_digits" 110 416 3 658 1068 ["_law_cell","_law_most","_law_spare","_law_found","_law_many","_law_k","_law_number"]++(GR "_law_keeps" 111 427 3 665 1081 ["_law_board","_law_rows","_law_cells","_law_mark"]++(GR "_law_never" 112 438 5 672 1091 ["_law_board","_law_rows","_law_mark","_law_outcome","_law_by_rows","_law_told","e","_law_others"]++(GR "_law_shares" 113 450 3 679 1105 ["_law_board","_law_rows","_law_mark","_law_found"]++(GR "_law_look" 114 461 5 686 1115 ["_law_board","_law_rows","_law_mark","_law_outcome","_law_cells","_law_only","_law_behind","_law_found"])))))))))))
def rA (P:Pz):BT:=iF (iL (T15 P) [(3,W7l P),(12,W5f P)]) 609 (rW P)
theorem g15(p:U8)(b:W8)(w:W1)(os:OsState):gs p b w os 401 T15 609 1000 uL (Pos.mk 375 0 375 8) rA 693 1129 (Pos.mk 461 0 473 36):=by unfold gs;rw[PySem.W.Fast.te10110043849684766642,PySem.W.Fast.te14364793385576792824];kernel_rfl
def W6t(P:Pz):List DictEntry:=W2p P++[(dn P "law" 1134 (.ref 697))]
def W5e(P:Pz):=Gd ((dn P "__name__" 165 (.str "law_spinboard_k56_whole_looks_at_tables" 1010))::W6t P) 113
def W3f(P:Pz):List Value:=_4 P++[(.int 474 0),(.int 0 0),(.ref 696)]
def zB(P:Pz):=Ed (W3f P)
def x17(P:Pz):List Obj:=GR "law" 115 474 1 693 1129 []
def T17 (P:Pz):BT:=iF (iL (rA P) [(3,W5e P),(12,zB P)]) 693 (x17 P)
theorem g16(p:U8)(b:W8)(w:W1)(os:OsState):gs p b w os 27 rA 693 1129 uK (Pos.mk 461 0 473 36) T17 698 1135 (Pos.mk 474 0 502 56):=by unfold gs;rw[PySem.W.Fast.te10110043849684766642,PySem.W.Fast.te14364793385576792824];kernel_rfl
def Hl(P:Pz):List Obj:=[boot_o_0 P,boot_o_1 P,boot_o_2 P,W5e P,boot_o_4 P,boot_o_5 P,boot_o_6 P,boot_o_7 P,boot_o_8 P,boot_o_9 P,boot_o_10 P,tz,zB P,lQ P,lN P]++(((x1 P).set 9 (qe P))++((x2 P)++((x3 P)++((x4 P)++((x5 P)++((x6 P)++((x7 P)++((x8 P)++((x9 P)++((x10 P)++((x11 P)++((x12 P)++((sE P)++((rZ P)++((rY P)++((rW P)++(x17 P)))))))))))))))))
def Hf (P:Pz):Heap:=Heap.mk (Array.mk (Hl P)) life
theorem mX(w:W1)(os:OsState):topRun treeTable pr w 11 (some (.ref 6)) 2 ((SharedT.mk (T17 w.params) 698 life (Array.mk []) (Drawn.mk 0 0 0 0) 1135 os).abs) (Thread.mk (doneF .next) cE (Pos.mk 474 0 502 56) BB)=some (Shared.mk (Hf w.params) (Array.mk []) (Drawn.mk 0 0 0 0) 1135 os):=by rw[PySem.W.Fast.te14082659384304107361,PySem.W.Fast.te14364793385576792824];kernel_rfl
noncomputable abbrev MM:Nat:=12+(1+(196+(214+(214+(214+(214+(214+(214+(214+(382+(382+(398+(382+(381+(400+(380+(401+(27+2))))))))))))))))))
theorem gY(w:W1)(os:OsState):topRun treeTable pr w 11 (some (.ref 6)) MM (Shared.mk (boot_heap w.params) (Array.mk []) boot_drawn boot_toks os) (topStub pr)=some (Shared.mk (Hf w.params) (Array.mk []) (Drawn.mk 0 0 0 0) 1135 os):=go_top (jV w os) (piece_block (W6l w os) (JF (JG (g0 _ _ w os)) (JF (JG (g1 _ _ w os)) (JF (JG (g2 _ _ w os)) (JF (JG (g3 _ _ w os)) (JF (JG (g4 _ _ w os)) (JF (JG (g5 _ _ w os)) (JF (JG (g6 _ _ w os)) (JF (JG (g7 _ _ w os)) (JF (JG (g8 _ _ w os)) (JF (JG (g9 _ _ w os)) (JF (JG (g10 _ _ w os)) (JF (JG (g11 _ _ w os)) (JF (JG (g12 _ _ w os)) (JF (JG (g13 _ _ w os)) (JF (JG (g14 _ _ w os)) (JF (JG (g15 _ _ w os)) (JF (JG (g16 _ _ w os)) (piece_nil (mX w os))))))))))))))))))))
noncomputable def qq:Program:={pr with main:={ pr.main with body:=[top 1,top 2,top 3,top 4,top 5,top 6,top 7,top 8,top 9,top 11,top 13,top 14,top 15,top 17,top 18,top 19,top 20,top 21,top 22,top 23,top 24,top 26,top 27,top 28,top 29,top 30,top 31,top 32,top 33,top 34,top 36,top 37,top 38,top 40,top 41,top 42,top 43,top 44,top 46,top 47,top 48,top 49,top 50,top 51,top 52,top 53,top 54,top 55,top 57,top 58,top 59,top 60,top 62,top 63,top 64,top 65,top 66,top 67,top 68,top 69,top 70,top 71,top 72,top 73,top 74,top 75,top 77,top 78,top 79,top 80,top 81,top 82,top 83,top 84,top 85,top 86,top 87,top 88,top 89,top 90,top 91,top 92,top 94,top 95,top 96,top 97,top 98,top 99,top 100,top 102,top 104,top 105,top 106,top 107,top 108,top 109,top 110,top 111,top 112,top 113,top 114,top 115]}}
noncomputable def loose:List PySem.Str:=[Str.ofString "share",Str.ofString "start",Str.ofString "NUMBERS_BEHIND"]
noncomputable def lv:List (PySem.Str×WData):=[]
noncomputable abbrev NN:Nat:=9746
noncomputable def aa:List Addr:=[2,3,15,22,23,24,25,28,35,36,37,40,47,48,49,52,59,60,61,64,71,72,73,76,83,84,85,88,95,96,97,100,107,108,109,112,119,121,122,124,125,126,127,128,131,133,134,136,137,138,139,141,142,144,145,146,148,149,151,152,153,155,156,158,159,160,162,163,165,166,167,169,170,172,173,174,176,177,179,180,181,183,184,186,187,188,190,191,193,194,195,197,198,200,201,202,204,205,207,208,209,211,212,214,215,216,218,219,221,222,223,225,226,228,229,230,233,234,235,237,238,240,241,242,245,246,247,249,250,252,253,254,256,257,259,260,261,263,264,266,267,268,270,271,273,274,275,277,278,280,281,282,283,284,285,288,289,290,292,293,295,296,297,299,300,302,303,304,306,307,309,310,311,314,315,316,318,319,321,322,323,324,327,328,329,332,333,334,336,337,339,340,341,344,345,346,349,350,351,353,354,356,357,358,361,362,363,366,367,368,370,371,373,374,375,377,378,380,381,382,384,385,387,388,389,392,393,394,396,397,399,400,401,402,405,406,407,410,411,412,414,415,417,418,419,422,423,424,426,427,429,430,431,433,434,436,437,438,440,441,443,444,445,447,448,450,451,452,455,456,457,460,461,462,464,465,467,468,469,472,473,474,475,476,477,479,480,482,483,484,486,487,489,490,491,493,494,496,497,498,501,502,503,505,506,508,509,510,512,513,515,516,517,519,520,522,523,524,526,527,529,530,531,533,534,536,537,538,540,541,543,544,545,547,548,550,551,552,554,555,557,558,559,562,563,564,566,567,569,570,571,573,574,576,577,578,581,582,583,585,586,588,589,590,593,594,595,597,598,600,601,602,604,605,607,608,609,611,612,614,615,616,618,619,621,622,623,625,626,628,629,630,632,633,635,636,637,639,640,642,643,644,646,647,649,650,651,653,654,656,657,658,660,661,663,664,665,667,668,670,671,672,674,675,677,678,679,681,682,684,685,686,688,689,691,692,693,696,697]
def KK (P:Pz):Frag:=aa.map λa=>(a,(Hl P).getD a Kz)
theorem W7f:∀w:World,(fencedOpening treeTable pr w NN).map (λs=>(s.heap,s.gens,s.drawn,s.toks))=some (boot_heap w.params,Array.mk [],boot_drawn,boot_toks):=
 boot_open (p:=pr) (N:=NN) (by kernel_rfl) (by kernel_rfl) (λs=>by kernel_rfl)
theorem W7a(w:W1):((boot_heap w.params).isNs mainGlobals && (Array.mk []:Array GenState).size == 0,(boot_heap w.params).objs.size,(boot_heap w.params).nsMap mainGlobals "__annotations__")=(true,11,((some (.ref 6)):Option Value)):=by kernel_rfl
theorem le_:Nat.ble MM NN=true:=by kernel_rfl
noncomputable abbrev rr:OpenRow:=PySem.Challenge.rw_spinboard_k56_whole_looks_at_tables.row
noncomputable abbrev HH:Hook:=kHook KK aa (λ_=>by kernel_rfl)
noncomputable abbrev Xt (s:U7):Bool:=xlAt qq lv s && recOk (RowW.records rr.toRowW) s
noncomputable abbrev sf (w:W1)(os:OsState):Shared:=Shared.mk (Hf w.params) (Array.mk []) (Drawn.mk 0 0 0 0) 1135 os
theorem lk1(w:W1)(os:OsState):(staticsOk (importedModules pr.main.body) (boot_heap w.params) (Hf w.params) && namesBound pr (Hf w.params) && gensDone (sf w os) && laidKept (boot_heap w.params) (Hf w.params))=true:=by rw[PySem.W.Fast.te5923862056798008813];kernel_rfl
theorem lk2g{q:Program}{l}:∀{x},x.1=expectedOf q→x.2.1=bltViewBooted→x.2.2.1=true→x.2.2.2.1=true→x.2.2.2.2=(pinGoodD (drecsOf q),plainGoodE q (looseW q l),plainGoodD q l,wideGood q,clsGoodW q l)→x=openGood q l
| (_,_,_,_,_),rfl,rfl,rfl,rfl,rfl=>rfl
theorem lk2a(w:W1)(os:OsState):(openSeen qq loose (importedModules pr.main.body) Xt true (sf w os)).1=expectedOf qq:=by rw[PySem.W.Fast.te4187177175401517315,PySem.W.Fast.te5923862056798008813];kernel_rfl
theorem lk2b(w:W1)(os:OsState):(openSeen qq loose (importedModules pr.main.body) Xt true (sf w os)).2.1=bltViewBooted:=by rw[PySem.W.Fast.te4187177175401517315,PySem.W.Fast.te5923862056798008813];kernel_rfl
theorem lk2c(w:W1)(os:OsState):(openSeen qq loose (importedModules pr.main.body) Xt true (sf w os)).2.2.1=true:=by rw[PySem.W.Fast.te4187177175401517315,PySem.W.Fast.te5923862056798008813];kernel_rfl
theorem lk2d(w:W1)(os:OsState):(openSeen qq loose (importedModules pr.main.body) Xt true (sf w os)).2.2.2.1=true:=by rw[PySem.W.Fast.te4187177175401517315,PySem.W.Fast.te5923862056798008813];kernel_rfl
theorem lk2e(w:W1)(os:OsState):(openSeen qq loose (importedModules pr.main.body) Xt true (sf w os)).2.2.2.2=(pinGoodD (drecsOf qq),plainGoodE qq (looseW qq loose),plainGoodD qq loose,wideGood qq,clsGoodW qq loose):=by rw[PySem.W.Fast.te4187177175401517315,PySem.W.Fast.te5923862056798008813];kernel_rfl
theorem lk2(w:W1)(os:OsState):openSeen qq loose (importedModules pr.main.body) Xt true (sf w os)=openGood qq loose:=lk2g (lk2a w os) (lk2b w os) (lk2c w os) (lk2d w os) (lk2e w os)
theorem lk3(w:W1)(os:OsState):HH.obs (sf w os)=HH.val w:=by kernel_rfl
theorem Wx:LeftO pr qq loose Xt HH.obs HH.val NN :=
 LeftO.of_pieces (H₀:=boot_heap) (H₁:=Hf) W7f W7a gY le_ λw=>funext λos=>looks_pair (lk1 w os) (looks_pair (lk2 w os) (lk3 w os))
theorem V3:PySem.Challenge.rw_spinboard_k56_whole_looks_at_tables.wellSaid=true:=by rw[PySem.W.Fast.te9446332074065402090];kernel_rfl
theorem jZ(P:Pz):(KK P).lookup 697=some (e10 "law" 115 696):=by kernel_rfl
theorem jw(P:Pz):(KK P).lookup 145=some (Xc P):=by kernel_rfl
theorem ju(P:Pz):(KK P).lookup 260=some (Xb P):=by kernel_rfl
theorem jt(P:Pz):(KK P).lookup 274=some (Xa P):=by kernel_rfl
theorem jm(P:Pz):(KK P).lookup 289=some (XM P):=by kernel_rfl
theorem jh(P:Pz):(KK P).lookup 340=some (XH P):=by kernel_rfl
theorem jo(P:Pz):(KK P).lookup 284=some (XQ P):=by kernel_rfl
theorem jq(P:Pz):(KK P).lookup 283=some (XR P):=by kernel_rfl
theorem jr(P:Pz):(KK P).lookup 282=some (XS P):=by kernel_rfl
theorem jj(P:Pz):(KK P).lookup 323=some (XJ P):=by kernel_rfl
theorem jg(P:Pz):(KK P).lookup 401=some (XF P):=by kernel_rfl
theorem jf(P:Pz):(KK P).lookup 474=some (XD P):=by kernel_rfl
theorem je(P:Pz):(KK P).lookup 475=some (XC P):=by kernel_rfl
theorem jd(P:Pz):(KK P).lookup 476=some (W_ P):=by kernel_rfl
theorem jx(P:Pz):(KK P).lookup 138=some (Xd P):=by kernel_rfl
theorem k97(P:Pz):(KK P).lookup 97=some (j97 P):=by kernel_rfl
theorem k24(P:Pz):(KK P).lookup 24=some (qe P):=by kernel_rfl
theorem ft{K:U0}{x:Str}{st:Stmt}{f:W9}{oc:W2}{od an:W5}{osl:W4}{dV kV doc pm cdv ct:W2}
  (l:K.lookup f=some ⟨oc,od,.func (PySem.W.fnOf x x (Ft st) (FT st) (Dp st) dV kV doc pm an cdv ct),osl⟩) (a:PySem.W.nsIn K mainGlobals x=some (some (.ref f)):=by kernel_rfl) (c:PySem.W.codeIn K cdv x=true:=by kernel_rfl) (k:PySem.W.keepIn K (.ref f)=true:=by kernel_rfl):Ab K x st dV:=fat a l c k
theorem fz{P:Pz}{n:Str}{i:Nat}(m:Str)(mt a c:Nat)(l:(KK P).lookup a=some (Xl n n (top i) 3 m mt c 0):=by kernel_rfl)(x:PySem.W.nsIn (KK P) mainGlobals n=some (some (.ref a)):=by kernel_rfl)(y:PySem.W.codeIn (KK P) (.ref c) n=true:=by kernel_rfl)(z:PySem.W.keepIn (KK P) (.ref a)=true:=by kernel_rfl):Ab (KK P) n (top i) .none:=ft l x y z
theorem f12(P:Pz):Ab (KK P) "share" (top 12) (.ref 138):=ft (jw P)
theorem f31(P:Pz):Ab (KK P) "spun_once" (top 31) .none:=ft (ju P)
theorem f33(P:Pz):Ab (KK P) "rooted" (top 33) .none:=ft (jt P)
theorem f39(P:Pz):Ab (KK P) "start" (top 39) (.ref 284):=ft (jm P)
theorem f49(P:Pz):Ab (KK P) "named_cells" (top 49) .none:=ft (jh P)
end Hd
end Aj
end
set_option maxHeartbeats 4000000
namespace Aj
open L2 Am Pc Ba
section
variable {P:U8}{w:W1}{K:U0}{mg:U4}{base:Heap}{k:Nat}{h:Heap}
theorem xR{x:Int}(h1:-16<x)(h2:x<16):Sz 100 x:=Sz.mono (j:=5) (by unfold Sz;lia) (by decide)
theorem s_0:Sz 100 0:=xR (by decide) (by decide)
theorem s_1:Sz 100 1:=xR (by decide) (by decide)
theorem Qk:(0:Int)<=40:=by decide
def Cw (K:U0)(H:Hp)(p:W9)(x:A5):Prop:=Ag K H p ((l5 x).map V.int)
variable{H:Hp}{p:W9}{x:A5}
theorem Cw.of(h:H p=some (tA x)):Cw K H p x:=Ag.of h
variable{H':Hp}
theorem Cw.same(h:Cw K H p x)(s:Same H H'):Cw K H' p x:=s.tup h
variable{ys:List V}
theorem Cw.upd{l:W9}{xs:List V}(h:Cw K H p x)(e:H l=some (.lst xs)):Cw K (upd H l (.lst ys)) p x:=by
 rcases h with h | h
 ·rcases h with h | ⟨o,h⟩
  ·exact .inl (.inl (by rw[Cg (Q_ h e (by intro z;cases z))];exact h))
  ·exact .inl (.inr ⟨o,by rw[Cg (Q_ h e (by intro z;cases z))];exact h⟩)
 ·exact .inr h
def Bk (K:U0)(H:Hp)(ps:U3)(f:Nat->A5):Prop:=∀i p,ps[i]?=some p->Cw K H p (f i)
variable{ps:U3}{f:Nat->A5}
theorem Bk.same(v:Bk K H ps f)(s:Same H H'):Bk K H' ps f:=λi p e=>(v i p e).same s
theorem PL(v:Bk K H ps f)(s:Same H H')(e:Cw K H' p x):Bk K H' (ps++[p]) (λj=>if j=ps.length then x else f j):=by
 intro i q a;by_cases hi:i<ps.length
 ·rw[Wn hi]at a;show Cw K H' q (if i=ps.length then x else f i);rw[if_neg (by lia)];exact(v i q a).same s
 ·rw[Wq (by lia)]at a;have b:i=ps.length:=by
   have:=(Et.mp a).1;simp at this;lia
  subst b;simp at a;subst a;show Cw K H' _ (if ps.length=ps.length then x else f ps.length);rw[if_pos rfl];exact e
theorem PJ{l:W9}{xs:List V}(v:Bk K H ps f)(e:H l=some (.lst xs)):Bk K (upd H l (.lst ys)) ps f:=λi q a=>(v i q a).upd e
theorem ou{a:W9}{ns:U6}{te:TE}{fr:L2.St}{H1:Hp}{acc:W9}{Q:VK}(f:Int->V)(hl:Ag K H1 a (ns.map V.int))(hn:ns.length<=sizeLine)(hacc:H1 acc=none)(hs:∀n H (N:V->Hp->Prop),n∈ns->Same H1 H->N (f n) H->te (some (.int n)::fr) H N)
  (hd:∀H2,Same H1 H2->H2 acc=some (.lst (ns.map f))->Q (.ref acc) H2):Jl (VN K a) (CZ 0) te (none::fr) H1 acc Q:=by
 refine oh (n:=ns.length) (val:=λi=>.int (ns.getD i 0)) (λi=>f (ns.getD i 0)) hn hacc (λi H hi s=>?_) (λH s=>⟨_,s.tup hl,by simp⟩) (λi H N hi s b=>hs _ H N (by simp[hi]) s b) (λH2 s h=>hd H2 s (by rw[h,nW]));have e:(ns.map V.int)[i]?=some (.int (ns.getD i 0)):=by simp[hi]
 refine⟨⟨_,_,s.tup hl,e⟩,λx H' y=>⟨y.1,?_⟩⟩;have:=y.2 _ (s.tup hl);rw[e]at this;exact(Option.some.inj this).symm
theorem Kd:¬ (HT.CT 5 0 none=0/\HT.CT 5 5 (some 4)=5):=by decide
def Fl:Sp:=λvs H Q _=>∃a b c d h:Int,vs=[.int a,.int b,.int c,.int d,.int h]/\0<=h/\∀(p:W9) (H':Hp) (x y z u g:Int),Same H H'->H' p=some (T5 x y z u g)->Red a b c d h x y z u g->Q (.ref p) H'
def xH:Sp:=λvs H Q _=>∃(p:W9) (a b c d h:Int),vs=[.ref p]/\H p=some (T5 a b c d h)/\0<=h/\∀(r:W9) (H':Hp) (x y z u g:Int),Same H H'->H' r=some (T5 x y z u g)->Red (b-d) (a+c) (b+d) (c-a) (h+1) x y z u g->Q (.ref r) H'
def bV (K:U0):Sp:=λvs H Q _=>∃(p:W9) (a b c d h:Int),vs=[.ref p]/\Cw K H p ((a,b,c,d),h)/\∀(r:W9) (H':Hp),Same H H'->H' r=some (T5 (-d) a b c h)->Q (.ref r) H'
def Uo (K:U0):Sp:=λvs H Q _=>∃(p:W9) (a b c d h k:Int),vs=[.ref p,.int k]/\Cw K H p ((a,b,c,d),h)/\∀(r:W9) (H':Hp),Same H H'->Cw K H' r (BK (k%8).toNat (a,b,c,d),h)->Q (.ref r) H'
theorem W0s(F:Ab K "halved_out" (top 26) .none)(X:K.In h)(G:Ng h mg)(B:Bs mg):Ah P w K mg base (k+1) "halved_out" ["a","b","c","d","h"] Fl:=by
 refine F.cal X G ["a","b","c","d","h","places","lowest","less"] λi H vs Q E y h=>?_;obtain⟨a,b,c,d,h,rfl,j,q⟩:=h
 refine⟨_,(@Aq _ _ _ _ _ (@Bb _ _ 5 _ _ _ _ i rfl (Or.inl rfl) (Af Pa (Af Pa (Af Pa (pv 0) (pv 1)) (pv 2)) (pv 3)) rfl (.inl rfl))
  (@Aq _ _ _ _ _ (Bx (B_ Dr (pv 5) Ac (Ad _))
   (@Ak _ _ _ (BJ (@Dg _ _ _ _ _ (Aa Ac (Aa Ac (Aa Ac (Aa Ac (Aa Ac Ae))))))))
   CK)
  (@Aq _ _ _ _ _ (@Bb _ _ 6 _ _ _ _ i rfl (Or.inl rfl) (Af Ji (Qq Qa Oo Qd Q0 (Af Dz (pv 5) (Mz O6 (pv 5)))) Ac) rfl (.inl rfl))
  (@Aq _ _ _ _ _ (@Bb _ _ 7 _ _ _ _ i rfl (Or.inl rfl) (Ck (X2x rfl) rfl B.min boot_min (Aa (pv 6) (Aa (pv 4) Ae))) rfl (.inl rfl))
  (@Ak _ _ _ (BJ (@Dg _ _ _ _ _ (Aa (Af M5 (pv 0) (pv 7)) (Aa (Af M5 (pv 1) (pv 7)) (Aa (Af M5 (pv 2) (pv 7)) (Aa (Af M5 (pv 3) (pv 7)) (Aa (Af Ji (pv 4) (pv 7)) Ae)))))))))))),?_⟩
 try dsimp only[Bm]
 refine⟨_,U,_,U,_,_,U,U,_,U,_,_,U,U,_,U,_,_,U,U,?_⟩;refine⟨_,U,U,_,U,K4 (λe=>?_) (λe=>?_)⟩
 ·obtain⟨rfl,rfl,rfl,rfl⟩:=Jx.mp e;exact⟨by show 5<=sizeLine;decide,λp hp=>q p _ 0 0 0 0 0 (BR hp _) Ax ⟨⟨by lia,.inl rfl⟩,⟨by simp[FZ],by simp[FZ],by simp[FZ],by simp[FZ]⟩,CG _,CG _,CG _,CG _,j⟩⟩
 obtain⟨v,ev,hd,t⟩:=lowest e;obtain⟨f,x,l,o,n,s,u,r⟩:=Xi j hd t rfl;have g:((Builtin.Int.intBits (Builtin.bitAnd (Builtin.bitOr (Builtin.bitOr (Builtin.bitOr a b) c) d) (-(Builtin.bitOr (Builtin.bitOr (Builtin.bitOr a b) c) d))):Nat):Int)-1=v:=ev;refine⟨_,U,_,U,_,U,_,_,U,U,U,_,U,U,_,_,U,U,?_⟩;show Vo _ _ _ (List.set _ 6 (some (V.int (((Builtin.Int.intBits (Builtin.bitAnd (Builtin.bitOr (Builtin.bitOr (Builtin.bitOr a b) c) d) (-(Builtin.bitOr (Builtin.bitOr (Builtin.bitOr a b) c) d))):Nat):Int)-1)))) H;rw[g];generalize hm:(if h<(v:Int) then h else (v:Int))=m at *;refine⟨_,U,_,U,_,_,U,?_⟩;rw[hm];refine⟨_,U,_,U,_,_,U,U,f,_,U,_,U,_,_,U,U,f,_,U,_,U,_,_,U,U,f,_,U,_,U,_,_,U,U,f,_,U,_,U,_,_,U,U,(by show 5<=sizeLine;decide),λp hp=>?_⟩;exact q p _ _ _ _ _ _ (BR hp _) Ax ⟨l,o,n,s,u,r,by lia⟩
theorem W0l(F:Ab K "spun_once" (top 31) .none)(X:K.In h)(G:Ng h mg):Ah P w K mg base (k+1) "spun_once" ["one"] (bV K):=by
 refine F.cal X G ["one"] λf H vs Q E e h=>?_;obtain⟨p,a,b,c,d,h,rfl,hp,q⟩:=h;have S:Ag K H p [.int a,.int b,.int c,.int d,.int h]:=hp;refine⟨_,(@Ak _ _ _ (BJ (@Dg _ _ _ _ _ (Aa (Mz O6 (Ai Ao (pv 0) Ac (λ_ _=>rfl))) (Aa (Ai Ao (pv 0) Ac (λ_ _=>rfl)) (Aa (Ai Ao (pv 0) Ac (λ_ _=>rfl)) (Aa (Ai Ao (pv 0) Ac (λ_ _=>rfl)) (Aa (Ai Ao (pv 0) Ac (λ_ _=>rfl)) Ae)))))))),?_⟩;try dsimp only[Bm]
 refine⟨_,U,p,_,_,_,U,U,S,U,_,U,_,U,p,_,_,_,U,U,S,U,_,U,p,_,_,_,U,U,S,U,_,U,p,_,_,_,U,U,S,U,_,U,p,_,_,_,U,U,S,U,(by show 5<=sizeLine;decide),λr e=>?_⟩;exact q r _ (BR e _) Ax
theorem X0c(F:Ab K "rooted" (top 33) .none)(X:K.In h)(G:Ng h mg)(c9:Ah P w K mg base k "halved_out" ["a","b","c","d","h"] Fl):Ah P w K mg base (k+1) "rooted" ["one"] xH:=by
 refine F.cal X G ["one"] λl H vs Q E i h=>?_;obtain⟨p,a,b,c,d,h,rfl,hp,j,q⟩:=h;have S:Ag K H p [.int a,.int b,.int c,.int d,.int h]:=Ag.of hp;refine⟨_,(@Ak _ _ _ (BJ (Av c9 i rfl (Aa (Af Ji (Ai Ao (pv 0) Ac (λ_ _=>rfl)) (Ai Ao (pv 0) Ac (λ_ _=>rfl))) (Aa (Af El (Ai Ao (pv 0) Ac (λ_ _=>rfl)) (Ai Ao (pv 0) Ac (λ_ _=>rfl))) (Aa (Af El (Ai Ao (pv 0) Ac (λ_ _=>rfl)) (Ai Ao (pv 0) Ac (λ_ _=>rfl))) (Aa (Af Ji (Ai Ao (pv 0) Ac (λ_ _=>rfl)) (Ai Ao (pv 0) Ac (λ_ _=>rfl))) (Aa (Af El (Ai Ao (pv 0) Ac (λ_ _=>rfl)) Ac) Ae)))))))),?_⟩;try dsimp only[Bm]
 refine⟨_,U,p,_,_,_,U,U,S,U,_,U,p,_,_,_,U,U,S,U,_,_,U,U,_,U,p,_,_,_,U,U,S,U,_,U,p,_,_,_,U,U,S,U,_,_,U,U,
  _,U,p,_,_,_,U,U,S,U,_,U,p,_,_,_,U,U,S,U,_,_,U,U,_,U,p,_,_,_,U,U,S,U,_,U,p,_,_,_,U,U,S,U,_,_,U,U,_,U,p,_,_,_,U,U,S,U,_,_,U,U,?_⟩
 exact⟨_,_,_,_,_,U,(by show 0<=h+1;lia),λr H' x y z u g e e1 f=>q r H' x y z u g e e1 f⟩
theorem W0h(F:Ab K "spun" (top 30) .none)(X:K.In h)(G:Ng h mg)(B:Bs mg)(cZ:Ah P w K mg base k "spun_once" ["one"] (bV K)):Ah P w K mg base (k+1) "spun" ["one","k"] (Uo K):=by
 refine F.cal X G ["one","k","turning","step"] λg H vs Q E m h=>?_;obtain⟨p,a,b,c,d,h,j,rfl,hp,q⟩:=h;have S:Ag K H p [.int a,.int b,.int c,.int d,.int h]:=hp
 refine⟨_,(@Aq _ _ _ _ _ (@Bb _ _ 2 _ _ _ _ g rfl (Or.inl rfl) (pv 0) rfl (.inl rfl))
  (@Aq _ _ _ _ _ (J7 PassesOwn.never rfl (Lw rfl B.range (Aa (Af Dt (pv 1) Ac) Ae)) (DR (i:=3) g rfl (Or.inl rfl))
   (@Ak _ _ _ (@Bb _ _ 2 _ _ _ _ g rfl (Or.inl rfl) (Av cZ m rfl (Aa (pv 2) Ae)) rfl (.inl rfl))))
  (@Ak _ _ _ (BJ (pv 2))))),?_⟩
 try dsimp only[Bm]
 have j0:=Oe j (show (8:Int)≠0 by decide);have s:=QW j (show (0:Int)<8 by decide);refine⟨_,U,_,U,_,_,U,U,(by show (0:Int)<8;decide),_,U,(by lia),(by lia),nG (n:=(j%8).toNat) (λi σ H'=>Same H H'/\∃t v,σ=[some (.ref p),some (.int j),some (.ref t),v]/\Cw K H' t (BK i (a,b,c,d),h)) ⟨Same.refl _,p,none,U,hp⟩ ?_ ?_⟩
 ·rintro i σ H2 hi ⟨f,t,v,rfl,e⟩;refine⟨_,U,t,_,_,_,_,_,U,e,λr H' l o=>?_⟩;exact⟨f.trans l,r,_,U,Cw.of o⟩
 ·rintro σ H2 ⟨f,t,v,rfl,e⟩;exact⟨_,U,q t H2 f e⟩
structure Sum (a b c d h a' b' c' d' h' x y z u g:Int):Prop where
 amt:G5 x y z u g
 same:Ca (a*p2 h'+a'*p2 h) (b*p2 h'+b'*p2 h) (c*p2 h'+c'*p2 h) (d*p2 h'+d'*p2 h) (h+h') x y z u g
 le:g<=max h h'
theorem bJ{a a' h h' m:Int}(h0:0<=h)(h0':0<=h')(hm:h<=m)(hm':h'<=m):FZ (a*p2 h'+a'*p2 h) (h+h') (a*2^(m-h).toNat+a'*2^(m-h').toNat) m:=by
 unfold FZ;rw[JQ h0 h0'];show _=(a*p2 (m-h)+a'*p2 (m-h'))*(p2 h*p2 h');have e1:=Kg h0 hm;have e2:=Kg h0' hm';have l1:(a*p2 h'+a'*p2 h)*p2 m=a*p2 h'*p2 m+a'*p2 h*p2 m:=Int.add_mul ..;rw[l1,show a*p2 h'*p2 m=a*p2 h'*(p2 (m-h)*p2 h) by rw[<-e1],show a'*p2 h*p2 m=a'*p2 h*(p2 (m-h')*p2 h') by rw[<-e2]];grind
theorem Yo(n:Nat):Sz (n+1) ((2:Int)^n):=by
 unfold Sz;rw[Int.natAbs_pow];exact Jf (by decide) (Oh n)
theorem bK{a a' h h' m:Int}{n N:Nat}(hm:m-h<=h'/\m-h'<=h)(z:Sz n a)(z':Sz n a')(hN:n+h.toNat+h'.toNat+2<=N):Sz N (a*2^(m-h).toNat+a'*2^(m-h').toNat):=by
 refine((z.mul (Yo (m-h).toNat)).add (z'.mul (Yo (m-h').toNat))).mono ?_;lia
structure Y5 (K:U0) (n:Nat) (vs:List V) (H:Hp) (p q:W9) (a b c d h a' b' c' d' h':Int):Prop where
 vs:vs=[.ref p,.ref q]
 one:Cw K H p ((a,b,c,d),h)
 other:Cw K H q ((a',b',c',d'),h')
 h0:0<=h
 h0':0<=h'
 hh:h+h'<=40000
 hn:n<=500000
 z:Ih n a b c d
 z':Ih n a' b' c' d'
def R4 (K:U0):Sp:=λvs H Q _=>∃n p q a b c d h a' b' c' d' h',Y5 K n vs H p q a b c d h a' b' c' d' h'/\∀(r:W9) (H':Hp) (x y z u g:Int),Same H H'->H' r=some (T5 x y z u g)->Sum a b c d h a' b' c' d' h' x y z u g->Ih (n+h.toNat+h'.toNat+2) x y z u->Q (.ref r) H'
def Z7 (K:U0):Sp:=λvs H Q _=>∃n p q a b c d h a' b' c' d' h',Y5 K n vs H p q a b c d h a' b' c' d' h'/\∀(r:W9) (H':Hp) (x y z u g:Int),Same H H'->H' r=some (T5 x y z u g)->Sum a b c d h (-a') (-b') (-c') (-d') h' x y z u g->Ih (n+h.toNat+h'.toNat+2) x y z u->Q (.ref r) H'
theorem W0j(F:Ab K "plus" (top 27) .none)(X:K.In h)(G:Ng h mg)(B:Bs mg)(c9:Ah P w K mg base k "halved_out" ["a","b","c","d","h"] Fl):Ah P w K mg base (k+1) "plus" ["one","other"] (R4 K):=by
 refine F.cal X G ["one","other","h","up","other_up","sums"] λI H vs Q E hr h=>?_;obtain⟨n,p,q,a,b,c,d,h,a',b',c',d',h',⟨rfl,e1,e2,s,e,hh,hn,z,f⟩,kq⟩:=h;have S:Ag K H p [.int a,.int b,.int c,.int d,.int h]:=e1;have L:Ag K H q [.int a',.int b',.int c',.int d',.int h']:=e2
 refine⟨_,(@Aq _ _ _ _ _ (@Bb _ _ 2 _ _ _ _ I rfl (Or.inl rfl) (Ck (yE rfl) rfl B.max boot_max (Aa (Ai Ao (pv 0) Ac (λ_ _=>rfl)) (Aa (Ai Ao (pv 1) Ac (λ_ _=>rfl)) Ae))) rfl (.inl rfl))
  (@Aq _ _ _ _ _ (@Bb _ _ 3 _ _ _ _ I rfl (Or.inr rfl) (Af Ji (pv 2) (Ai Ao (pv 0) Ac (λ_ _=>rfl))) rfl (.inl rfl))
  (@Aq _ _ _ _ _ (@Bb _ _ 4 _ _ _ _ I rfl (Or.inr rfl) (Af Ji (pv 2) (Ai Ao (pv 1) Ac (λ_ _=>rfl))) rfl (.inl rfl))
  (@Aq _ _ _ _ _ (R9 (i:=5) rfl I rfl rfl (Bp.of (Nc:=["x","y","up","other_up"]) (mp:=[none,none,some 3,some 4]) (by kernel_rfl)) (bF true true rfl B.zip (Aa (N5 Yn (pv 0) R0 (K6 Ac)) (Aa (N5 Yn (pv 1) R0 (K6 Ac)) Ae))) (λ_ _ _ _=>(R8 rfl (show (["x","y","up","other_up"]:W0).Nodup by decide +kernel) rfl rfl rfl rfl)) (λ_ _ _ _=>(Af El (Af G3 (pv 0) (pv 2)) (Af G3 (pv 1) (pv 3)))) rfl)
  (@Ak _ _ _ (BJ (Av c9 hr rfl (Aa (Ai Fv (pv 5) Ac (λ_ _=>rfl)) (Aa (Ai Fv (pv 5) Ac (λ_ _=>rfl)) (Aa (Ai Fv (pv 5) Ac (λ_ _=>rfl)) (Aa (Ai Fv (pv 5) Ac (λ_ _=>rfl)) (Aa (pv 2) Ae)))))))))))),?_⟩
 try dsimp only[Bm]
 refine⟨_,U,p,_,_,_,U,U,S,U,_,U,q,_,_,_,U,U,L,U,_,_,U,?_⟩;generalize hm:(if h'>h then h' else h)=m;have A:h<=m:=by rw[<-hm];split<;>lia
 have C:h'<=m:=by rw[<-hm];split<;>lia
 have m3:m-h<=h'/\m-h'<=h/\m<=h+h':=by rw[<-hm];split<;>lia
 refine⟨_,U,_,U,p,_,_,_,U,U,S,U,_,_,U,U,?_⟩;refine⟨_,U,_,U,q,_,_,_,U,U,L,U,_,_,U,U,?_⟩;refine⟨_,U,4,U,p,_,U,S,Kd,λl1 l=>?_⟩;refine⟨_,U,4,U,q,_,U,(BR l _).tup L,Kd,λl2 j=>?_⟩;have s2:Same H (upd (upd H l1 (.tup ([a,b,c,d].map V.int))) l2 (.tup ([a',b',c',d'].map V.int))):=(BR l _).trans (BR j _);refine⟨l1,l2,[a,b,c,d].map V.int,[a',b',c',d'].map V.int,U,(BR j _).tup (Ag.of Ax),Ag.of Ax,λacc o=>?_⟩;refine X1l (K:=K) (ns:=[a,b,c,d]) (ms:=[a',b',c',d']) (fr:=[some (.int (m-h)),some (.int (m-h'))]) (λx y=>x*2^(m-h).toNat+y*2^(m-h').toNat) rfl (show 4<=sizeLine by decide) ((BR j _).tup (Ag.of Ax)) (Ag.of Ax) o
  (λT hQ=>⟨_,_,U,Ag.of T,U,_,_,U,_,_,U,U,hQ⟩) ?_ ?_
 ·intro x y H2 N M O Y;have zx:Sz n x:=by
   simp only[Dj,Ip,Ik]at M;rcases M with rfl | rfl | rfl | rfl
   ·exact z.z1
   ·exact z.z2
   ·exact z.z3
   ·exact z.z4
  have zy:Sz n y:=by
   simp only[Dj,Ip,Ik]at O;rcases O with rfl | rfl | rfl | rfl
   ·exact f.z1
   ·exact f.z2
   ·exact f.z3
   ·exact f.z4
  exact⟨_,U,_,U,_,_,U,U,⟨n,zx,(by lia),(by lia)⟩,_,U,_,U,_,_,U,U,⟨n,zy,(by lia),(by lia)⟩,_,_,U,U,Y⟩
 intro H2 s3 Z;have D:Aw K H2 acc ((List.zipWith (λx y=>x*2^(m-h).toNat+y*2^(m-h').toNat) [a,b,c,d] [a',b',c',d']).map V.int):=Aw.of Z;refine⟨_,U,acc,_,_,_,U,U,D,U,_,U,acc,_,_,_,U,U,D,U,_,U,acc,_,_,_,U,U,D,U,_,U,acc,_,_,_,U,U,D,U,_,U,_,_,_,_,_,U,(by show 0<=m;lia),λr H' x y v u g R W r4=>?_⟩;have J:n+h.toNat+h'.toNat+2<=n+h.toNat+h'.toNat+2:=CG _;have t:m-h<=h'/\m-h'<=h:=⟨m3.1,m3.2.1⟩;refine kq r H' x y v u g (s2.trans (s3.trans R)) W ⟨r4.amt,Ca.trans ⟨bJ s e A C,bJ s e A C,bJ s e A C,bJ s e A C⟩ r4.same,by have:=r4.le;rw[<-hm]at this;split at this<;>lia⟩ (r4.sz ⟨?_,?_,?_,?_⟩)
 ·exact bK t z.z1 f.z1 J
 ·exact bK t z.z2 f.z2 J
 ·exact bK t z.z3 f.z3 J
 ·exact bK t z.z4 f.z4 J
theorem X5a(F:Ab K "minus" (top 28) .none)(X:K.In h)(G:Ng h mg)(cU:Ah P w K mg base k "plus" ["one","other"] (R4 K))(dE:Ah P w K mg base k "spun" ["one","k"] (Uo K)):Ah P w K mg base (k+1) "minus" ["one","other"] (Z7 K):=by
 refine F.cal X G ["one","other"] λI H vs Q E l h=>?_;obtain⟨n,p,q,a,b,c,d,h,a',b',c',d',h',⟨rfl,e1,e2,s,f,t,C,z,e⟩,A⟩:=h;refine⟨_,(@Ak _ _ _ (BJ (Av cU l rfl (Aa (pv 0) (Aa (Av dE l rfl (Aa (pv 1) (Aa Ac Ae))) Ae))))),?_⟩;try dsimp only[Bm]
 refine⟨_,U,_,U,q,_,_,_,_,_,_,U,e2,λr H2 j D=>?_⟩;have i:Cw K H2 r ((-a',-b',-c',-d'),h'):=D;exact⟨n,p,r,a,b,c,d,h,-a',-b',-c',-d',h',⟨U,e1.same j,i,s,f,t,C,z,⟨e.z1.neg,e.z2.neg,e.z3.neg,e.z4.neg⟩⟩,λo m x y v u g B=>A o m x y v u g (j.trans B)⟩
end
end Aj
namespace L2
def Pj (P:Params)(e:DictEntry)(p:Str×Int):Prop:=∃t u,e=⟨PyData.keyHash P p.1,.str p.1 t,.int p.2 u⟩
structure K9 (K:U0) (P:Params) (a:W9) (kvs:List (Str×Int)):Prop where
 ex:∃o es ep,K.lookup a=some o/\o.ExactDict/\o.data=.dict es ep/\Paired (Pj P) es.toList kvs
 nd:(kvs.map (·.1)).Nodup
 ns:(a == sysModules)=false
noncomputable def txt (p:Str×Int):Key×V:=(Sum.inr p.1,.int p.2)
theorem K9.at{K:U0}{prog:U8}{w:W1}{a:W9}{kvs:List (Str×Int)}{h:Heap}(D:K9 K w.params a kvs)(X:K.In h):∃vs,KV (kvs.map txt) vs/\h.DictOf (JR prog w) a vs:=by
 obtain⟨o,es,ep,g,j,hd,hp⟩:=D.ex;have f:∀{l:List DictEntry}{kvs:List (Str×Int)},Paired (Pj w.params) l kvs->∃vs:List (Key×Value),KV (kvs.map txt) vs/\Pairs (JR prog w) l vs:=by
  intro l kvs h;induction h with
  | nil=>exact⟨[],.nil,.nil⟩
  | @cons e p l kvs b hr ih =>
   obtain⟨vs,c,d⟩:=ih;obtain⟨t,u,rfl⟩:=b;exact⟨(Sum.inr p.1,.int p.2 u)::vs,.cons ⟨U,u,U⟩ c,.cons (nM p.1 t) rfl d⟩
 have all:∀{l:List DictEntry}{kvs:List (Str×Int)},Paired (Pj w.params) l kvs->∀e∈l,∃p,Pj w.params e p:=by
  intro l kvs h;induction h with
  | nil=>intro e b;cases b
  | @cons e p l kvs b hr ih =>
   intro i h';rcases Dj.mp h' with rfl | h'
   ·exact⟨p,b⟩
   ·exact ih i h'
 obtain⟨vs,c,d⟩:=f hp;refine⟨vs,c,o,es,ep,X _ _ g,j,hd,?_,d,?_⟩
 ·intro e b;obtain⟨p,t,u,rfl⟩:=all hp e (Array.mem_toList_iff.mpr b);exact⟨Sum.inr p.1,nM p.1 t,U⟩
 ·rw[<-c.keys,KR];have e:kvs.map ((λk=>k.1) ∘ txt)=(kvs.map (·.1)).map (Sum.inr:Str->Key):=by rw[KR];rfl
  rw[e];exact Wd.mpr (D.nd.imp λh z=>h (Sum.inr.inj z))
noncomputable def numAt (kvs:List (Str×Int))(x:Str):Option V:=Di (kvs.map txt) (Sum.inr x)
def X9i (kvs:List (Str×Int))(ty:TE):TE:=λσ H Q=>ty σ H λy H1=>∃x,y=.str x/\Q (.bl (!(numAt kvs x).isSome)) H1
def Vu (kvs:List (Str×Int))(ty:TE):TE:=λσ H Q=>ty σ H λy H1=>∃x v,y=.str x/\numAt kvs x=some v/\Q v H1
section
variable {X:Cx}{o i:Expr}{pos:Pos}{ty:TE}{aN:W9}{kvs:List (Str×Int)}
theorem Y9p(D:K9 X.K X.w.params aN kvs)(hi:PE X i ty)(ho:PE X o (tC (.ref aN))):PC X .NotIn i o (X9i kvs ty):=by
 intro pins s σ H Q I h;refine Bu (hi pins s σ H _ I h) λm d ⟨y,H1,e,c,x,g,j⟩=>Bu (ho pins d σ H1 (λv H2=>v=.ref aN/\H2=H1) e ⟨U,U⟩) λu n ⟨v,H2,b,l,ev,f⟩=>?_;subst ev f g;cases l;obtain⟨vs,a,dd⟩:=D.at (prog:=X.prog) (w:=X.w) b.kIn;refine wpAny_notIn_of (U_ (k:=Sum.inr x) c) D.ns dd.mapOf ?_;rw[<-(a.val (Sum.inr x)).isSome_eq];exact⟨.bl _,H2,b.tok _,U,j⟩
theorem W0b(D:K9 X.K X.w.params aN kvs)(ho:PE X o (tC (.ref aN)))(hi:PE X i ty)(hs:Sw i):PE X (.Subscript o i pos) (Vu kvs ty):=by
 intro pins s σ H Q I h;refine vY uD.lookup hs (Bu (ho pins s σ H (λv H2=>v=.ref aN/\H2=H) I ⟨U,U⟩) λu j ⟨v,H1,m,q,ev,n⟩=>?_);subst ev n;cases q;refine Bu (hi pins j σ H1 _ m h) λr t ⟨y,H2,c,f,x,b,p,g,e⟩=>?_;subst p;obtain⟨vs,a,dd⟩:=D.at (prog:=X.prog) (w:=X.w) c.kIn;obtain⟨u,d,l⟩:=GZ.some_of (v:=b) (o:=valueAt vs (Sum.inr x)) (by rw[<-g];exact a.val (Sum.inr x));exact⟨dd.typeIs,wpAny_getItem_of (U_ (k:=Sum.inr x) f) dd.mapOf d ⟨b,H2,c.tok _,l,e⟩⟩
end
end L2
namespace L2
noncomputable abbrev unlike (ns:U6):Nat:=(firstMet (λi=>ns.getD i 0) ns.length).length
noncomputable abbrev fresh0 (led:Bool):Obj:={ cls:=.type "set",dict:=none,data:=.set #[] 0 (.fresh 0 0 led)}
def Ii (prog:U8)(w:W1)(s:U7)(ns:U6)(S:Int->Bool)(s':U7):Prop :=
 ∃h' tk,s'={s with heap:=h',toks:=tk}/\h'.SetOf (intKind prog w) s.heap.objs.size S (unlike ns)/\∀b o,s.heap.get? b=some o->h'.get? b=some o
section
variable {prog:U8}{w:W1}{A:W6}{E:U2}{s:U7}{p:W9}{its:U9}{ns:U6}
theorem X6i(hh:A.handled=none)(ht:s.heap.IsTuple p its)(hi:IntsAre its.toList ns)(hb:ns.length+1<scanBound)(led:Bool){R:Result->Shared->Prop}
  (h:∀s',Ii prog w s ns (λk=>(firstMet (λi=>ns.getD i 0) ns.length).any (· == k)) s'->R (.ok (.ret .none)) s'):
  codeAny (model prog w) A (.builtin "set.update.loop" ⟨[.ref s.heap.objs.size,.ref (s.heap.push (fresh0 led)).objs.size],[]⟩) R {s with heap:=(s.heap.push (fresh0 led)).push { cls:=.type "tuple_iterator",data:=.fields #[.ref p,.int 0 0]}}:=by
 obtain⟨o,f,r,n,hd⟩:=id ht;have lt:p<s.heap.objs.size:=CQ f;have e1:(s.heap.push (fresh0 led)).objs.size=s.heap.objs.size+1:=Mp ..;have j:its.size=ns.length:=by rw[<-Ol];exact hi.length
 have W:=(Walks.tuple (prog:=prog) (w:=w) (A:=A.in1) (by simp[hh]) (s.heap.push (fresh0 led)).objs.size p (by rw[e1];exact Df (Tv lt)) its).toS;have t1:(s.heap.push (fresh0 led)).IsTuple p its:=⟨o,Ec _ f,r,n,hd⟩;refine codeAny_set_update_loopS W s.heap.objs.size (by rw[e1];simp only[Dj,Ip,Ik,not_or];exact⟨Df (Oh _),LR lt⟩) (λi=>ns.getD i 0) (λi v q=>hi.int_at i v (by rw[jN];exact q)) (by rw[j];exact hb) its.size 0 _ rfl (Gz _)
  ⟨⟨_,GC _ rfl,U,U⟩,t1.push _⟩ ?_ ?_
 ·have g:((s.heap.push (fresh0 led)).push { cls:=.type "tuple_iterator",data:=.fields #[.ref p,.int 0 0]}).get? s.heap.objs.size=some (fresh0 led):=Ec _ (GC _ rfl);exact SetOf_congr ((setObjOf_fresh (knd:=intKind prog w) led).setOf g (by unfold scanBound;lia)) (λ_=>rfl) rfl
 ·intro s' a m;rw[j]at m;obtain⟨h',g',d',c,d⟩:=s';obtain rfl:g'=s.gens:=a.gens;obtain rfl:d'=s.drawn:=a.drawn;obtain rfl:d=s.os:=a.os;refine h _ ⟨h',c,U,m,λb o e=>?_⟩;have l:=CQ e;exact a.heap b o (by rw[e1];simp only[Dj,Ip,Ik,not_or];exact⟨Df l,Df (Tv l)⟩) (Ec _ (Ec _ e))
theorem X6b(hh:A.handled=none)(ht:s.heap.IsTuple p its)(hi:IntsAre its.toList ns)(hb:ns.length+1<scanBound)(led:Bool){R:U2}
  (h:∀s',Ii prog w s ns (λk=>(firstMet (λi=>ns.getD i 0) ns.length).any (· == k)) s'->R .none s'):
  codeAny (model prog w) A (.call (.builtin "set.__init__") ⟨[.ref s.heap.objs.size,.ref p],[]⟩) (wants R E) {s with heap:=s.heap.push (fresh0 led)}:=by
 have ty:Shared.TypeIs {s with heap:=s.heap.push (fresh0 led)} (.ref s.heap.objs.size) "set":=⟨_,GC _ rfl,U⟩;obtain⟨o,j,f,n,hd⟩:=id ht;obtain⟨g,b,c,a⟩:=o;simp only at f hd;subst f hd;have d:(s.heap.push (fresh0 led)).get? p=some { cls:=.type "tuple",dict:=b,data:=.seq its n,slots:=a}:=Ec _ j;have t1:(s.heap.push (fresh0 led)).IsTuple p its:=⟨_,d,U,n,U⟩;have q:=F.sub_tuple_set;have m:=F.sub_tuple_frozenset;have l:(Value.type "tuple" == Value.type "dict")=false:=by decide
 refine codeAny_call_builtin F.called_set.init.plain F.entry_set_init (check_set_init_1 ty ?_);unfold Builtin.«set.__init__» noKeywords Builtin.Frozenset.updateFrom;generalize hP:pyIter=PI;wp_walk;subst hP;refine jG t1 (BX (wpAny_runValue (X6i (by simp[hh]) ht hi hb led λs' e=>?_)));exact CV (CV (h _ e))
theorem X9n(hh:A.handled=none)(ht:s.heap.IsTuple p its)(hi:IntsAre its.toList ns)(hb:ns.length+1<scanBound){Q:U2}
  (h:∀s',Ii prog w s ns (λk=>(firstMet (λi=>ns.getD i 0) ns.length).any (· == k)) s'->Q (.ref s.heap.objs.size) s'):wpAny (model prog w) A (call (.type "set") [.ref p]) Q E s:=by
 obtain⟨c,tl,f⟩:=F.called_set.mro;have o:=F.called_set.made;have q:=F.called_set.sub;have m3:=F.called_set.notType;have n:=F.called_set.canCreate;have v:=F.typeCall_set_1 (.ref p);refine WK (codeAny_of_tree ?_);show wpAny _ _ (callAny (.type "set") _) _ _ _;refine CV ⟨Code.quiet_builtin _ (by decide +kernel),iR F.entry_type_call ?_⟩;rw[Around.under_plain (weight_type_call_type "set" [.ref p] []) rfl];repeat any_goals first | assumption | wp_step
 refine RV (code_set_new_1 (.ref p) (E:=E) (Q₁:=λg j=>∃a:Bool,g=.ref s.heap.objs.size/\j={s with heap:=s.heap.push (fresh0 a)}) λa=>⟨a,U,U⟩) λr j d=>?_;rcases r with e | fl
 ·exact d
 cases fl with
 | ret g =>
  obtain⟨a,rfl,rfl⟩:=d;have ty:Shared.TypeIs {s with heap:=s.heap.push (fresh0 a)} (.ref s.heap.objs.size) "set":=⟨_,GC _ rfl,U⟩;have t:=F.called_set.init.lookup;have u:=F.called_set.init.bind (.ref s.heap.objs.size);repeat any_goals first | assumption | wp_step
  refine RV (X6b (E:=E) (R:=λr s'=>r=.none/\Ii prog w s ns (λk=>(firstMet (λi=>ns.getD i 0) ns.length).any (· == k)) s') (by simp[hh]) ht hi hb a λs' e=>⟨U,e⟩) λl m b=>?_;rcases l with e | fl₂
  ·exact b
  cases fl₂ with
  | ret r =>
   obtain⟨rfl,e⟩:=b;repeat any_goals first | assumption | wp_step
   exact h _ e
  | next=>exact b.elim
  | brk=>exact b.elim
  | cont=>exact b.elim
 | next=>exact d.elim
 | brk=>exact d.elim
 | cont=>exact d.elim
end
theorem yI:∀{ns:U6}{us:U5},Vals (ns.map V.int) us->IntsAre us ns
 | [],_,.nil=>.nil
 | n::ns,_,.cons r rs=>by
  obtain⟨t,rfl⟩:=r;exact .cons n t (yI rs)
section
variable {X:Cx}
theorem X2w(hc:X.calm=true):Cr X (.type "set") (λxs H Q=>∃(p:W9) (ns:U6),xs=[.ref p]/\Ag X.K H p (ns.map V.int)/\ns.length<64/\∀(l:W9) (S:Int->Bool),H l=none->Q (.ref l) (upd H l (.set S (unlike ns)))):=by
 intro pins s σ H xs us Q I r h;obtain⟨p,ns,rfl,j,c,q⟩:=h;obtain⟨u,rfl,i⟩:=vals1 r;cases i;obtain⟨its,g,f,_⟩:=I.tuple j;obtain⟨o,d,a,n,hd⟩:=f;refine X9n (I.ok.hd hc) ⟨o,d,a,n,hd⟩ (ns:=ns) (yI (by simpa using g)) (by unfold scanBound;lia) λs' ⟨h',tk,e,b,k⟩=>?_;subst e;exact⟨.ref s.heap.objs.size,_,I.laid (o:=.set _ (unlike ns)) (t':=tk) k (CG _) b,U,q _ _ (I.hok.fresh (CG _))⟩
theorem X2y:Cr X (.builtin "len") (λxs H Q=>∃(p:W9) (S:Int->Bool) (n:Nat),xs=[.ref p]/\H p=some (.set S n)/\n<64/\Q (.int n) H):=by
 intro pins s σ H xs us Q I r h;obtain⟨p,S,n,rfl,hp,d,q⟩:=h;obtain⟨u,rfl,f⟩:=vals1 r;cases f;have c:s.heap.SetOf (intKind X.prog X.w) p S n:=I.hok p _ hp;obtain⟨o,e,a⟩:=c.objOf;obtain⟨b,es,ep,t,hd,_,_,g,hf⟩:=a;subst g;exact call_len_set e b hd hf (by lia) ⟨.int es.size,H,(I.tok _).tok _,⟨_,U⟩,q⟩
end
end L2
namespace L2
section
variable {X:Cx}{e st:Expr}{lo hi:Option Expr}{te:TE}{tl th ts:TO}{p2 pos:Pos}
end
end L2
namespace HT
section
variable {prog:U8}{w:W1}{A:W6}{E:U2}{s:U7}
theorem Z6x{t sl:W9}{items:U9}{vl vu:W2}{lo hi:Option Int}{Q:U2}(ht:IsTup s.heap t items)(hs:s.heap.IsSliceOf sl vl vu .none)(pl:IsPart vl lo)(pu:IsPart vu hi)
  (h1:CT items.size 0 lo=0) (h2:CT items.size items.size hi=items.size) (h:Q (.ref t) s):wpAny (model prog w) A (getItem (.ref t) (.ref sl)) Q E s:=by
 obtain⟨os,b,a,c⟩:=id hs;have ty:s.TypeIs (.ref sl) "slice":=⟨os,b,a⟩;unfold getItem;try with_reducible refine Kw ?_
 first | refine BX (CV ?_) | skip
 refine BX (wpAny_sequenceKey ht.typeIs (by decide) (BX (jR (name:=Str.ofString "__getitem__") ht.typeIs PyProof.Rows.slot_tuple_getitem (Ze PyProof.Rows.slot_tuple_getitem ht.typeIs entry_tuple_getitem ?_ (args_tuple_getitem _ _)))));show wpAny _ _ (Builtin.Tuple.tupleItemsOf (.ref t) >>= _) _ _ s;refine BX (tupleItemsOf_ ht (BX (iC ty ?_)));rw[if_pos (by decide)];refine BX (vC hs pl pu ?_);show wpAny _ _ (if (((CT items.size 0 lo:Nat):Int) == 0 && (1:Int) == 1 && (CT items.size items.size hi-CT items.size 0 lo) == items.size)=true then _ else _) _ _ s;rw[if_pos (by rw[h1,h2];simp)];refine BX ?_;unfold Builtin.Tuple.tupleIsExact;refine BX (iC ht.typeIs (CV ?_));rw[if_pos (by decide)];exact BX (wpAny_rule (CV ⟨_,U,CV h⟩))
end
end HT
namespace L2
section
variable {X:Cx}
def gk (K:U0):V->Option Int->Option Int->Hp->VK->Prop:=λx lo hi H Q=>∃a xs,x=.ref a/\Ag K H a xs /\
 ((HT.CT xs.length 0 lo=0/\HT.CT xs.length xs.length hi=xs.length)/\Q (.ref a) H\/¬ (HT.CT xs.length 0 lo=0/\HT.CT xs.length xs.length hi=xs.length)/\∀p,H p=none->Q (.ref p) (upd H p (.tup (FN xs lo hi))))
theorem pH:Yu X (gk X.K):=by
 intro pins s σ H x v m l lo hi k Q I i d j f h;obtain⟨a,xs,rfl,e,⟨c,q⟩ | ⟨c,q⟩⟩:=h
 ·cases i;obtain⟨its,r,g,n⟩:=I.tuple e;have b:=r.length;refine⟨"tuple",_,slot_tuple_getitem.lookup,g.typeIs,HT.Z6x g d j f (by rw[Fb,<-b];exact c.1) (by rw[Fb,<-b];exact c.2) ⟨.ref a,H,I,U,q⟩⟩
 ·exact Yn pins s σ H _ v m l lo hi k Q I i d j f ⟨a,xs,U,e,c,q⟩
end
end L2
namespace L2
theorem Y8t{prog:U8}{w:W1}{A:W6}{env:Env}{c:Expr}{s:U7}{Q:Bool->Shared->Prop}(h:wpAny (model prog w) A (isTrue c env (eval c env)) Q Calm s):
  wpAny (model prog w) A (forIn [c] true λc r=>if r=true then do let ok ← isTrue c env (eval c env);pure (ForInStep.yield ok) else pure (ForInStep.yield r)) Q Calm s:=wpAny_tests_one h
theorem Z9f{prog:U8}{w:W1}{A:W6}{R:Result->Shared->Prop}{s:U7}{e t i c:Expr}{sc:Scope}{pos:Pos}{it acc:W2}{env:Env}(J:Nat->Shared->Prop)
  (turn:∀n s,J n s->wpAny (model prog w) A (pyNext it) (λr b=>(r=none->R (.ok .next) b)/\∀v,r=some v ->
   wpAny (model prog w) A (letOwnedTupleGo t it v) (λ_ l=>wpAny (model prog w) A (assign t env v) (λ_ k=>wpAny (model prog w) A (isTrue c env (eval c env)) (λok a=>if ok=true then wpAny (model prog w) A (eval e env) (λx f =>
    wpAny (model prog w) A (call (.builtin "list.append") [acc,x]) (λ_ g=>∃m,m<n/\J m g) Calm f) Calm a else ∃m,m<n/\J m a) Calm k) Calm l) Calm b) Calm s)
  (n:Nat) (h:J n s):codeAny (model prog w) A (.compLoop (.ListComp e [⟨t,i,[c],0⟩] sc pos) 0 it acc env) R s:=by
 have u:=compTurn_list e t i [c] sc pos it acc env;refine codeAny_loop rfl J (λn s j=>wpAny_noted (m:=compTurn (.ListComp e [⟨t,i,[c],0⟩] sc pos) 0 it acc env) ?_) n h;rw[u];refine BX (Ti (Eb (turn n s j) λr b q=>?_));match r,q with
 | none,q=>exact CV (q.1 rfl)
 | some v,q =>
  refine Eb (q.2 v rfl) λ_ l p=>Eb p λ_ k z=>Eb (Y8t z) λok f d=>?_;cases ok with
  | false=>exact CV ⟨rfl,d⟩
  | true=>exact BX (Eb d λx g o=>Eb o λ_ B y=>CV (CV ⟨rfl,y⟩))
def NP (J:It)(g:TG)(tc:TT)(te:TE)(σ:St)(H:Hp)(acc:W9)(Q:VK):Prop:=∃W:Nat->Nat->List V->St->Hp->Prop,(∃m,W 0 m [] σ (upd H acc (.lst []))) /\
 ∀i m ys σ2 H2,W i m ys σ2 H2->(J.stop i H2/\Q (.ref acc) H2)\/(J.go i H2/\∀x H3,J.yld i H2 x H3->g x σ2 H3 λσ4 H4=>tc σ4 H4 λb H5 =>
  (b=true->te σ4 H5 λy H6=>H6 acc=some (.lst ys)/\ys.length<sizeLine/\∃m',m'<m/\W (i+1) m' (ys++[y]) σ4 (upd H6 acc (.lst (ys++[y]))))/\(b=false->∃m',m'<m/\W (i+1) m' ys σ4 H5))
def Vt (mp:W7)(wi:TI)(g:TG)(tc:TT)(te:TE):TE:=λσ H Q=>wi σ H λJ H1=>∀acc,H1 acc=none->NP J g tc te (sub mp σ) H1 acc Q
section
variable {X:Cx}{elt tg iter cond:Expr}{scope:Scope}{pos:Pos}{wi:TI}{g:TG}{tc:TT}{te:TE}{Nc:W0}{mp:W7}
theorem X1n(hc:X.calm=true)(S:Bp X.N X.env.scope scope Nc mp)(hg:∀ex pins s H,PG (Bq X scope Nc ex pins s H) tg g)(ht:∀ex pins s H,PT (Bq X scope Nc ex pins s H) cond tc)(he:∀ex pins s H,PE (Bq X scope Nc ex pins s H) elt te)
  {pins:U1}{σ:St}{H2:Hp}{s2:U7}{E:U2}{it:W9}{fp:U3}{tn:Nat->Heap->Prop}{J:It}{Q:VK}{RR:Value->Addr->Result->Shared->Prop}
  (I2:Inv X pins σ H2 s2) (T:Turn X.prog X.w X.K tg J fp it tn) (st2:tn 0 s2.heap) (f2:∀b∈fp,Dq X pins H2 b)
  (q:∀acc,H2 acc=none->NP J g tc te (sub mp σ) H2 acc Q)
  (fin:∀acc C H' s' m',Q (.ref acc) H'->Inv X pins σ H' s'->s'.heap.Ns C m'->H' C=none->X.s₀.heap.objs.size<=C->C≠X.env.locals->(∀x c,X.env.cells.lookup x=some c->c≠C)->(∀p∈X.pn++pins,p.1≠C)->RR (.ref acc) C (.ok .next) s'):
  wpAny (model X.prog X.w) X.A (newList []) (λacc s₃=>wpAny (model X.prog X.w) X.A (newFunctionEnv scope X.env.globals (clo scope.names X.env.cells) [] X.env.qual none .none (some X.env)) (λm s₄ =>
   codeAny (model X.prog X.w) X.A (.compStart (.ListComp elt [⟨tg,iter,[cond],0⟩] scope pos) 0 (.ref it) acc {m with scope:=relabel scope X.env}) (RR acc m.locals) s₄) E s₃) E s2:=by
 refine QV (wpAny_newFunctionEnv S.nocell (by intro y hy;simp at hy) (λh₁ t k=>?_) S.kind);dsimp only at t k ⊢;have I3:=I2.lnew (its:=[]) (ys:=[]) (t':=s2.toks) .nil (Gz _);have P:H2 s2.heap.objs.size=none:=I2.fresh;obtain⟨W,⟨m0,w0⟩,O⟩:=q s2.heap.objs.size P;have I:(s2.heap.push { cls:=.type "list",dict:=none,data:=.seq ([]:U5).toArray}).objs.size=s2.heap.objs.size+1:=Mp ..;have R:∀b∈fp,b<s2.heap.objs.size:=λb hb=>by
  obtain⟨o,e,_⟩:=T.obj _ _ st2 b hb;exact CQ e
 have F:∀b∈fp,Dq X pins (upd H2 s2.heap.objs.size (.lst [])) b:=λb hb=>⟨by rw[Cg (Df (R b hb))];exact(f2 b hb).1,(f2 b hb).2⟩;have a:Inv X pins σ (upd H2 s2.heap.objs.size (.lst [])) (D_ s2):=I3;have hsz:(D_ s2).heap.objs.size=s2.heap.objs.size+1:=I;have l:∀b∈fp,b<(D_ s2).heap.objs.size:=λb hb=>by rw[hsz];exact Tv (R b hb)
 have k3:∀b o,(D_ s2).heap.get? b=some o->h₁.get? b=some o:=λb o e=>k.extBut b o (Df (CQ e)) (Ec _ e);have Ic:=wM (tk:=(D_ s2).toks) a S F l t k3;have M:tn 0 h₁:=T.keep _ _ _ st2 λb hb o e=>k3 b o (Ec _ e);have cC:X.s₀.heap.objs.size<=(D_ s2).heap.objs.size:=a.sz;have cL:(D_ s2).heap.objs.size≠X.env.locals:=LR a.lt;have cc:∀x c,X.env.cells.lookup x=some c->c≠(D_ s2).heap.objs.size:=λx c e=>by
  obtain⟨v,o,ho,_⟩:=a.cell x c e;exact Df (CQ ho)
 have cp:∀p∈X.pn++pins,p.1≠(D_ s2).heap.objs.size:=λp hp=>Df (CQ (a.pin p hp).1);have h:∀{H':Hp},(∀b∈fp,H' b=none)->∀b∈fp,Dq (Bq X scope Nc fp pins (D_ s2) (upd H2 s2.heap.objs.size (.lst []))) [] H' b:=λhn b hb =>
  ⟨hn b hb,Df (l b hb),λz=>by
   rcases Dj.mp (a.stkSub b z) with e | e
   ·exact(F b hb).2.1 e
   ·exact(F b hb).2.2.1 e,.inl hb,λx c e=>(F b hb).2.2.2.2.1 x c (Qo a S e),λp hp=>(F b hb).2.2.2.2.2 p (by
    have:p∈(X.pn++pins)++[]:=hp
    simpa using this)⟩
 have j:∀s4:Shared,s4={ (D_ s2) with heap:=h₁,toks:=(D_ s2).toks} ->
   codeAny (model X.prog X.w) X.A (.compLoop (.ListComp elt [⟨tg,iter,[cond],0⟩] scope pos) 0 (.ref it) (.ref s2.heap.objs.size) (Bq X scope Nc fp pins (D_ s2) (upd H2 s2.heap.objs.size (.lst []))).env)
    (RR (.ref s2.heap.objs.size) (D_ s2).heap.objs.size) s4:=by
  rintro s4 rfl;refine Z9f (λn s'=>∃i ys σ' H',Inv (Bq X scope Nc fp pins (D_ s2) (upd H2 s2.heap.objs.size (.lst []))) [] σ' H' s'/\tn i s'.heap/\(∀b∈fp,H' b=none)/\W i n ys σ' H') ?_ m0
   ⟨0,[],sub mp σ,_,Ic,M,λb hb=>(F b hb).1,w0⟩
  rintro n s5 ⟨i,ys,σ5,H5,I5,Z,Y,w5⟩;rcases O i n ys σ5 H5 w5 with ⟨stop,qn⟩ | ⟨go,step⟩
  ·refine Fi (T.done (Bq X scope Nc fp pins (D_ s2) (upd H2 s2.heap.objs.size (.lst []))) rfl rfl rfl hc i [] s5 σ5 H5 (λ_ _=>False) I5 (h Y) Z stop) (λr s6 ⟨hr,I6⟩=>?_) λ_ _ f=>f.elim;subst hr;obtain⟨m6,a7,_⟩:=I6.loc;refine⟨λ_=>?_,λ_ z=>nomatch z⟩;exact fin _ _ H5 s6 m6 qn (zM a F I6) a7 I6.free cC cL cc cp
  ·refine Fi (T.item (Bq X scope Nc fp pins (D_ s2) (upd H2 s2.heap.objs.size (.lst []))) rfl rfl rfl hc i [] s5 σ5 H5 (λ_ _=>False) I5 (h Y) Z go) (λr s6 ⟨u,hr,h6⟩=>?_) λ_ _ f=>f.elim;subst hr;refine⟨(λz=>by cases z),?_⟩;rintro _ ⟨⟩;refine Fi h6 (λ_ s7 ⟨x,H7,I7,r7,y7,G,a3⟩=>?_) λ_ _ f=>f.elim;have a4:=I7.pinned (h a3) (T.obj _ _ G);refine Fi (hg _ _ _ _ _ s7 σ5 H7 x u _ a4 r7 (step x H7 y7)) (λ_ s8 ⟨L,H8,I8,q8⟩=>?_) λ_ _ f=>f.elim;refine Fi (ht _ _ _ _ _ s8 L H8 _ I8 q8) (λbb s9 ⟨H9,I9,p9,n9⟩=>?_) λ_ _ f=>f.elim;have keeps:∀{H':Hp}{s':U7},Inv (Bq X scope Nc fp pins (D_ s2) (upd H2 s2.heap.objs.size (.lst []))) ([]++Gp fp s7.heap) L H' s'->tn (i+1) s'.heap/\∀b∈fp,H' b=none:=λ{H' s'} J' =>
    ⟨T.keep _ _ _ G λb hb o e=>(J'.pin (b,o) (Gn _ (Gn _ (Uv hb e)))).1,λb hb=>by
     obtain⟨o,e,d⟩:=T.obj _ _ G b hb
     exact(J'.pin (b,o) (Gn _ (Gn _ (Uv hb e)))).2.1⟩
   cases bb with
   | false =>
    obtain⟨m',B,w9⟩:=n9 rfl;rw[if_neg Gk];exact⟨m',B,i+1,ys,L,H9,I9.unpinned,(keeps I9).1,(keeps I9).2,w9⟩
   | true =>
    rw[if_pos rfl];refine Fi (he _ _ _ _ _ s9 L H9 _ I9 (p9 rfl)) (λv a2 ⟨y,V,a6,a5,a0,l10,m',B,a8⟩=>?_) λ_ _ f=>f.elim;refine Fi (nU (X:=Bq X scope Nc fp pins (D_ s2) (upd H2 s2.heap.objs.size (.lst []))) _ a2 L V (.ref s2.heap.objs.size) [y] (.ref s2.heap.objs.size) [v] (λz Hz=>z=.non/\Hz=upd V s2.heap.objs.size (.lst (ys++[y]))) a6 rfl (.cons a5 .nil) ⟨_,ys,y,U,U,a0,l10,U,U⟩) (λb1 b0 ⟨z,a9,D,_,_,a1⟩=>?_) λ_ _ f=>f.elim;subst a1;exact⟨m',B,i+1,ys++[y],L,_,D.unpinned,(keeps D).1,(keeps D).2,a8⟩
 exact tE (j _ rfl) (T.self _ 0 _ _ _ M (j _ rfl))
theorem bB(hc:X.calm=true)(S:Bp X.N X.env.scope scope Nc mp)(hi:PI X tg iter wi)(hg:∀ex pins s H,PG (Bq X scope Nc ex pins s H) tg g)(ht:∀ex pins s H,PT (Bq X scope Nc ex pins s H) cond tc)(he:∀ex pins s H,PE (Bq X scope Nc ex pins s H) elt te)
  (hf:∀x,foldedSetIterable iter X.env x=pure x:=by intro _;rfl):PE X (.ListComp elt [⟨tg,iter,[cond],0⟩] scope pos) (Vt mp wi g tc te):=by
 intro pins s σ H Q I h;rw[eval_ListComp];refine Zm (use:=none) rfl hf (aQ (YJ I S)) S.kind S.names (Bu (hi pins s σ H _ I h) λv n h1=>Bu h1 λd p h2=>?_);obtain⟨it,fp,tn,J,H2,e,k,T,a,i,q⟩:=h2;subst e;refine X1n (RR:=λacc C=>compPost (model X.prog X.w) X.A X.xe none (EP X pins σ Q) acc C) hc S hg ht he k T a i q ?_;intro acc C H' s' m' qq m l c c1 c2 c3 j;refine⟨m',l,λh' f=>⟨.ref acc,H',?_,U,qq⟩⟩;exact m.turnedNew (t':=s'.toks) (λb o hb e=>f.extBut b o hb e) c c1 c2 c3 j
theorem yP{i:Nat}{x:Str}{pos' spos:Pos}(hc:X.calm=true)(hN:X.N.Nodup)(hi':X.N[i]?=some x)(hx:X.env.scope.names.lookup x=some .local)(S:Bp X.N X.env.scope scope Nc mp)(hi:PI X tg iter wi)
  (hg:∀ex pins s H,PG (Bq X scope Nc ex pins s H) tg g) (ht:∀ex pins s H,PT (Bq X scope Nc ex pins s H) cond tc) (he:∀ex pins s H,PE (Bq X scope Nc ex pins s H) elt te)
  (hsw:swapsWith (.ListComp elt [⟨tg,iter,[cond],0⟩] scope pos) (some (.Name x pos')) spos.line X.env=pure true)
  (hf:∀x,foldedSetIterable iter X.env x=pure x:=by intro _;rfl):PS X (.Assign [.Name x pos'] (.ListComp elt [⟨tg,iter,[cond],0⟩] scope pos) spos) (Oa (Vt mp wi g tc te) (CZ i)):=by
 intro pins s σ H D I h;rw[sV _ _ _ _ hsw];refine BX (Ti (BX ?_));show wpAny _ X.A (do let _ ← comprehension (.ListComp elt [⟨tg,iter,[cond],0⟩] scope pos) scope X.env _ (newList []) false (eval iter X.env) (some (assign (.Name x pos') X.env))) _ _ s
 refine BX (Fi (Zm (use:=some (assign (.Name x pos') X.env)) (Q:=λ_ s'=>SP X pins D .next s') rfl hf (aQ (YJ I S)) S.kind S.names
  (Bu (hi pins s σ H _ I h) λv F h1=>Bu h1 λl G h2=>?_)) (λ_ s' t=>CV (CV t)) λ_ _ e=>e)
 obtain⟨it,fp,tn,J,H2,e,u,T,d,n,q⟩:=h2;subst e;refine X1n (Q:=λx H1=>CZ i x σ H1 D.nx) (RR:=λacc C=>compPost (model X.prog X.w) X.A X.xe (some (assign (.Name x pos') X.env)) (λ_ s'=>SP X pins D .next s') acc C) hc S hg ht he u T d n q ?_;intro acc C H' s' m' qq E B j c1 c2 c3 r;show wpAny _ X.A (assign (.Name x pos') X.env (.ref acc)) _ _ _;refine i_ (nu (v:=.ref acc) E hN hi' (.inl hx) rfl (λy p ⟨a,c,k⟩=>?_) (.inr hx));have f:C≠a:=by
  rcases k with z | z
  ·rw[z];exact c2
  ·exact Ne.symm (c3 x a z)
 refine⟨m',B.sameBut c f,λh' m=>⟨σ.set i (some (.ref acc)),H',?_,qq⟩⟩;exact p.turnedNew (t':=y.toks) (λb o hb e=>m.extBut b o hb e) j c1 c2 c3 r
end
def Vm (t:TE):TT:=λσ H Q=>t σ H λx H'=>∃i,x=.int i/\Q (i != 0) H'
theorem K7{X:Cx}{a:Expr}{ta:TE}(ha:PE X a ta)(he:∀whole,isTrue a X.env whole=(do let v ← whole;standAt a.pos;holding [v] (truthy v))):PT X a (Vm ta):=by
 intro pins s σ H Q I h;refine isTrue_plain (Bu (ha pins s σ H _ I h) λv b ⟨x,H1,f,d,i,e,c⟩=>?_) (he _);subst e;exact W3i pins b σ H1 (.int i) v Q f d ⟨_,U,c⟩
theorem yL{lo:Int}{n:Nat}{tc:TT}{te:TE}{fr:St}{H1:Hp}{acc:W9}{Q:VK}(Pv:Nat->List V->Hp->Prop)(hn:n<=sizeLine)(h0:Pv 0 [] (upd H1 acc (.lst [])))
  (hs:∀i ys H (N:Bool->Hp->Prop),i<n->ys.length<=i->Pv i ys H->(∀b a,(b=true->te (some (.int (lo+i))::fr) a λy c=>c acc=some (.lst ys)/\Pv (i+1) (ys++[y]) (upd c acc (.lst (ys++[y]))))->(b=false->Pv (i+1) ys a)->N b a)->tc (some (.int (lo+i))::fr) H N)
  (mono:∀{σ H}{R R':VK},(∀v H,R v H->R' v H)->te σ H R->te σ H R')
  (hd:∀ys H,Pv n ys H->Q (.ref acc) H):NP (HF lo n) (CZ 0) tc te (none::fr) H1 acc Q:=by
 refine⟨λi m ys d H2=>m=n-i/\i<=n/\ys.length<=i/\(∃v,d=v::fr)/\Pv i ys H2,⟨n,by simp,Gz _,CG _,⟨_,U⟩,h0⟩,?_⟩;rintro i m ys d H2 ⟨rfl,hi,f,⟨v,rfl⟩,p⟩;by_cases hlt:i<n
 ·refine .inr ⟨hlt,λx j h=>?_⟩;obtain⟨rfl,rfl⟩:=h;show tc ((v::fr).set 0 (some (.int (lo+i)))) _ _;rw[List.set_cons_zero];refine hs i ys _ _ hlt f p λb a g hf=>⟨λe=>mono (λy c q=>?_) (g e),λe=>⟨n-(i+1),by lia,U,hlt,by lia,⟨_,U⟩,hf e⟩⟩;exact⟨q.1,by lia,n-(i+1),by lia,U,hlt,by rw[JM];simp;lia,⟨_,U⟩,q.2⟩
 ·have e:i=n:=by lia
  subst e;exact .inl ⟨CG _,hd ys H2 p⟩
end L2
namespace Aj
open L2 Am Pc Ba
theorem Jj{X:Cx}{st:Stmt}:PS X st (λ_ _ _=>False):=λ_ _ _ _ _ _ h=>h.elim
theorem Y1k{ns:U6}(h:ns.Nodup):unlike ns=ns.length:=by
 have a:∀i,i<=ns.length->(firstMet (λi=>ns.getD i 0) i).length=i:=by
  intro i;induction i with
  | zero=>intro _;rfl
  | succ i ih =>
   intro hi;rw[firstMet_succ,step_length,firstMet_any,if_neg,ih (by lia)];intro z;obtain⟨y,c,e⟩:=Zc.mp z;obtain⟨j,b,rfl⟩:=Ej.mp c;have b:=Ek.mp b;have e:ns.getD j 0=ns.getD i 0:=by simpa using e
   rw[CP,CP,Cm (by lia),Cm (by lia)]at e;have:=(List.getElem_inj h).mp e;lia
 exact a _ (CG _)
noncomputable abbrev NB:List (Str×Int):=[("flip",1),("mix",1),("turn",2),("if",2),("pair",2),("swap",2),("cross",3)]
noncomputable abbrev Sx (nm:Str)(ns:U6):HO:=.tup (.str nm::ns.map V.int)
noncomputable def named (nm:Str)(ns:U6):List Int:=if nm="turn" then ns.take 1 else ns
structure Form (nm:Str) (ns:U6):Prop where
 num:numAt NB nm=some (.int ns.length)
 len:ns.length<=3
 turn:nm="turn"->∃a k,ns=[a,k]/\1<=k/\k<=7
structure Fits (nm:Str) (ns:U6) (c:Nat):Prop where
 form:Form nm ns
 low:∀a∈named nm ns,0<=a/\a<c
 nd:(named nm ns).Nodup
def yS:Sp:=λvs H Q _=>∃(p:W9) (nm:Str) (ns:U6),vs=[.ref p]/\H p=some (Sx nm ns)/\Form nm ns/\∀H',Same H H'->Q (.bl true) H'
def pJ:Sp:=λvs H Q _=>∃(p:W9) (nm:Str) (ns:U6),vs=[.ref p]/\H p=some (Sx nm ns)/\Form nm ns/\∀(r:W9) (H':Hp),Same H H'->H' r=some (.tup ((named nm ns).map V.int))->Q (.ref r) H'
def vQ:Sp:=λvs H Q _=>∃(p:W9) (nm:Str) (ns:U6) (c:Nat),vs=[.ref p,.int c]/\H p=some (Sx nm ns)/\Fits nm ns c/\∀H',Same H H'->Q (.ref p) H'
def Q5 (K:U0):Sp:=λvs H Q _=>∃(l:W9) (xs:List V) (c:Nat),vs=[.ref l]/\Aw K H l xs/\xs.length=2^c/\c<=6/\Q (.int c) H
variable{c:Nat}
theorem pW(h:c<=6):Builtin.Int.intBits (((2^c:Nat):Int))=c+1:=by
 have:c=0\/c=1\/c=2\/c=3\/c=4\/c=5\/c=6:=by lia
 rcases this with rfl | rfl | rfl | rfl | rfl | rfl | rfl<;>decide +kernel
variable{x:V}
theorem at0{xs:List V}:Gv (x::xs) 0=some x:=Ln (show (x::xs)[0]?=some x from rfl)
theorem ao{xs:List V}:HT.CT (x::xs).length 0 (some 1)=1:=by
 have:=HT.bT (x::xs).length 0 1;rw[show ((1:Nat):Int)=1 from rfl]at this;rw[this];simp
theorem X2s{xs:List V}:FN (x::xs) (some 1) none=xs:=by
 unfold FN;rw[ao];have e2:HT.CT (x::xs).length (x::xs).length none=(x::xs).length:=rfl;rw[e2];simp
theorem W4z(K:U0):PySem.W.kitOne K (.type "str") (.type "str")=some true:=by unfold PySem.W.kitOne;rw[if_pos (by decide)]
section
variable {P:U8}{w:W1}{K:U0}{mg:U4}{base:Heap}{k:Nat}{h:Heap}
theorem Y7u(F:Ab K "is_whole" (top 11) .none)(X:K.In h)(G:Ng h mg)(B:Bs mg):Ah P w K mg base (k+1) "is_whole" ["thing"] M9:=by
 refine F.cal X G ["thing"] λb H vs Q E a h=>?_;obtain⟨i,rfl,q⟩:=h;refine⟨_,(@Ak _ _ _ (BJ (Qp (Ck NK rfl B.isinstance JK (Aa (pv 0) (Aa (Lp (v:=.ty "int") rfl B.int boot_int rfl) Ae))) (M6 (bC (Ck NK rfl B.isinstance JK (Aa (pv 0) (Aa (Lp (v:=.ty "bool") rfl B.bool boot_bool rfl) Ae)))))))),?_⟩;try dsimp only[Bm]
 refine⟨_,U,_,_,_,true,U,DK.int i,zF K,_,U,C_ ?_⟩;exact⟨_,U,_,_,_,false,U,DK.int i,zE K,_,U,q⟩
theorem Y7x(F:Ab K "cells_of" (top 41) .none)(X:K.In h)(G:Ng h mg)(B:Bs mg):Ah P w K mg base (k+1) "cells_of" ["board"] (Q5 K):=by
 refine F.cal X G ["board"] λd H vs Q E b h=>?_;obtain⟨l,xs,c,rfl,a,len,c6,q⟩:=h;refine⟨_,(@Ak _ _ _ (BJ (Af Ji (Qq Qa Oo Qd Q0 (Ck Ig rfl B.len HX (Aa (pv 0) Ae))) Ac))),?_⟩;try dsimp only[Bm]
 refine⟨_,U,l,_,U,.inl a,U,_,U,U,_,_,U,U,?_⟩;show Q (.int (((Builtin.Int.intBits ((xs.length:Nat):Int):Nat):Int)-1)) H;rw[len,pW c6,show (((c+1:Nat):Int)-1)=(c:Int) by lia];exact q
theorem X4x(F:Ab K "named_cells" (top 49) .none)(X:K.In h)(G:Ng h mg)(B:Bs mg):Ah P w K mg base (k+1) "named_cells" ["move"] pJ:=by
 refine F.cal X G ["move"] λg H vs Q E b h=>?_;obtain⟨p,nm,ns,rfl,hp,f,d⟩:=h;have SP:Ag K H p (.str nm::ns.map V.int):=Ag.of hp;refine⟨_,(@Ak _ _ _ (BJ (Kl (B_ Dr (Ai Ao (pv 0) Ac (λ_ _=>rfl)) Fq (Ad _)) (N5 pH (pv 0) (K6 Ac) (K6 Ac)) (N5 pH (pv 0) (K6 Ac) R0)))),?_⟩;try dsimp only[Bm]
 refine⟨_,U,p,_,_,.str nm,U,U,SP,at0,U,_,U,A_ (λz=>?_) (λz=>?_)⟩
 ·have e:nm="turn":=V.str.inj z;obtain⟨a,kk,rfl,_⟩:=f.turn e;refine⟨_,U,_,U,_,U,p,_,U,SP,.inr ⟨λc=>absurd c.1 (by rw[ao];decide),λr b=>d r _ (BR b _) ?_⟩⟩;rw[Ax];unfold named;rw[if_pos e];rfl
 ·have e:nm≠"turn":=λc=>z (by rw[c]);refine⟨_,U,_,U,p,_,U,SP,.inr ⟨λc=>absurd c.1 (by rw[ao];decide),λr b=>d r _ (BR b _) ?_⟩⟩;rw[Ax,X2s];unfold named;rw[if_neg e]
theorem W0t(F:Ab K "has_move_form" (top 48) .none)(X:K.In h)(G:Ng h mg)(B:Bs mg){aN:W9}(gN:mg "NUMBERS_BEHIND"=some (.ref aN))(DN:K9 K w.params aN NB)(c7:Ah P w K mg base k "is_whole" ["thing"] M9):
  Ah P w K mg base (k+1) "has_move_form" ["thing"] yS:=by
 refine F.cal X G ["thing"] λA H vs Q E j h=>?_;obtain⟨p,nm,ns,rfl,hp,g,o⟩:=h;have SP:Ag K H p (.str nm::ns.map V.int):=Ag.of hp;have l3:=g.len;have l:(V.str nm::ns.map V.int).length=ns.length+1:=by rw[Nk,Bg]
 refine⟨_,(@Aq _ _ _ _ _ (Bx (PW.pt (IW (FQ (Du (Ck NK rfl B.isinstance JK (Aa (pv 0) (Aa (Lp (v:=.ty "tuple") rfl B.tuple ZC rfl) Ae))))) (Kh (B_ Dr (Ck Ig rfl B.len HX (Aa (pv 0) Ae)) Ac (Ad _)))))
   (@Ak _ _ _ (BJ Iu))
   CK)
  (@Aq _ _ _ _ _ (Bx (PW.pt (IW (FQ (Du (Ck NK rfl B.isinstance JK (Aa (Ai Ao (pv 0) Ac (λ_ _=>rfl)) (Aa (Lp (v:=.ty "str") rfl B.str boot_str rfl) Ae))))) (Kh (zj (Y9p DN (Ai Ao (pv 0) Ac (λ_ _=>rfl)) (Hj (v:=.ref aN) rfl gN rfl))))))
   (@Ak _ _ _ (BJ Iu))
   CK)
  (@Aq _ _ _ _ _ (Bx (B_ Jh (Ck Ig rfl B.len HX (Aa (pv 0) Ae)) (Af El Ac (W0b DN (Hj (v:=.ref aN) rfl gN rfl) (Ai Ao (pv 0) Ac (λ_ _=>rfl)) (λ_ _=>rfl))) (Ad _))
   (@Ak _ _ _ (BJ Iu))
   CK)
  (@Aq _ _ _ _ _ (Bx (FQ (Du (Ck (YW rfl) rfl B.all V_ (Aa (Iw rfl (Bp.of (Nc:=["number"]) (mp:=[none]) (by kernel_rfl)) (bD (N5 pH (pv 0) (K6 Ac) R0)) (λ_ _ _ _=>(DR (i:=0) (show (["number"]:W0).Nodup by decide +kernel) rfl (Or.inl rfl))) (λ_ _ _ _=>(Av c7 j rfl (Aa (pv 0) Ae)))) Ae))))
   (@Ak _ _ _ (BJ Iu))
   CK)
  (@Ak _ _ _ (BJ (Ye (Iz Jh (Ai Ao (pv 0) Ac (λ_ _=>rfl)) Fq (Ad _)) (M6 (Qp (Iz dw (Ai Ao (pv 0) Ac (λ_ _=>rfl)) Ac (Ad _)) (M6 (Iz W4c (Ai Ao (pv 0) Ac (λ_ _=>rfl)) Ac (Ad _)))))))))))),?_⟩
 try dsimp only[Bm]
 refine⟨_,U,_,_,_,true,U,DK.tup hp,Yj K,_,U,Bj ⟨_,U,p,_,U,.inr SP,U,_,U,K4 (λz=>absurd z (by rw[l];lia)) (λ_=>?_)⟩⟩;refine⟨_,U,p,_,_,.str nm,U,U,SP,at0,_,_,_,true,U,DK.str nm,W4z K,_,U,Bj ⟨_,U,p,_,_,.str nm,U,U,SP,at0,nm,U,_,U,?_⟩⟩;rw[g.num];refine Bj ⟨_,U,p,_,U,.inr SP,_,U,p,_,_,.str nm,U,U,SP,at0,nm,_,U,g.num,_,_,U,U,U,_,U,Kc (λz=>absurd (by rw[l];lia) z) (λ_=>?_)⟩;refine⟨_,U,_,U,p,_,U,SP,.inr ⟨λc=>absurd c.1 (by rw[ao];decide),λr j=>?_⟩⟩;rw[X2s];have s:=BR j (.tup (ns.map V.int));refine⟨r,U,⟨_,Ag.of Ax⟩,λacc f=>?_⟩;refine ou (K:=K) (λ_=>.bl true) (Ag.of Ax) (JB (by lia)) f (λn H2 N y x t=>⟨_,U,n,U,t⟩) (λq S3 m=>?_);have e:ns.map (λ_=>V.bl true)=(ns.map λ_=>true).map V.bl:=by rw[KR];rfl
 rw[e]at m;have b:=s.trans S3;have d:Ag K q p (.str nm::ns.map V.int):=Ag.of (b _ _ hp);refine⟨acc,_,U,Aw.of m,_,U,H_ (λz=>absurd z (by simp)) (λ_=>?_)⟩;refine⟨_,U,p,_,_,.str nm,U,U,d,at0,U,_,U,H_ (λ_=>o _ b) (λz=>?_)⟩;obtain⟨a,kk,rfl,k1,u⟩:=g.turn (V.str.inj (Mr z));refine⟨_,U,p,_,_,.int kk,U,U,d,U,_,_,U,U,_,U,A_ (λ_=>?_) (λz=>absurd k1 z)⟩;refine⟨_,U,p,_,_,.int kk,U,U,d,U,_,_,U,U,?_⟩;show Q (.bl (decide (kk<=7))) q;rw[Gb u];exact o _ b
theorem X5g(F:Ab K "check_move" (top 47) .none)(X:K.In h)(G:Ng h mg)(B:Bs mg)(dJ:Ah P w K mg base k "has_move_form" ["thing"] yS)(cP:Ah P w K mg base k "named_cells" ["move"] pJ):
  Ah P w K mg base (k+1) "check_move" ["move","cells"] vQ:=by
 refine F.cal X G ["move","cells","named"] λnd H vs Q E f h=>?_;obtain⟨p,nm,ns,c,rfl,hp,a,t⟩:=h;have l3:(named nm ns).length<=3:=by
  have:=a.form.len;unfold named;split
  ·rw[Hx];lia
  ·exact this
 refine⟨_,(@Aq _ _ _ _ _ (Bx (FQ (Du (Av dJ f rfl (Aa (pv 0) Ae))))
   (@Ak _ _ _ Jj)
   CK)
  (@Aq _ _ _ _ _ (@Bb _ _ 2 _ _ _ _ nd rfl (Or.inl rfl) (Av cP f rfl (Aa (pv 0) Ae)) rfl (.inl rfl))
  (@Aq _ _ _ _ _ (Bx (Du (Ck (yD rfl) rfl B.any boot_any (Aa (Iw rfl (Bp.of (Nc:=["cell","cells"]) (mp:=[none,some 1]) (by kernel_rfl)) (bD (pv 2)) (λ_ _ _ _=>(DR (i:=0) (show (["cell","cells"]:W0).Nodup by decide +kernel) rfl (Or.inl rfl))) (λ_ _ _ _=>(Ye (Iz Nt (pv 0) Ac (Ad _)) (M6 (Iz dw (pv 0) (pv 1) (Ad _)))))) Ae)))
   (@Ak _ _ _ Jj)
   CK)
  (@Aq _ _ _ _ _ (Bx (B_ Jh (Ck X2y rfl B.len HX (Aa (aB (X2w rfl) rfl B.set boot_set (Aa (pv 2) Ae)) Ae)) (Ck Ig rfl B.len HX (Aa (pv 2) Ae)) (Ad _))
   (@Ak _ _ _ Jj)
   CK)
  (@Ak _ _ _ (BJ (pv 0))))))),?_⟩
 try dsimp only[Bm]
 refine⟨_,U,p,nm,ns,U,hp,a.form,λH1 m=>⟨_,U,Bj ?_⟩⟩;refine⟨_,U,p,nm,ns,U,m _ _ hp,a.form,λr H2 j f=>?_⟩;have d:Ag K H2 r ((named nm ns).map V.int):=Ag.of f;refine⟨_,U,r,U,⟨_,d⟩,λacc b=>?_⟩;refine ou (K:=K) (λ_=>.bl false) d (JB (by lia)) b (λn H2 N u j s=>?_) (λy S3 o=>?_)
 ·obtain⟨x,v⟩:=a.low n u;refine⟨_,U,_,_,U,U,_,U,A_ (λz=>absurd z (by lia)) (λ_=>?_)⟩;refine⟨_,U,_,U,_,_,U,U,?_⟩;show N (.bl (decide ((c:Int)<=n))) _;rw[FJ (by lia)];exact s
 have e:(named nm ns).map (λ_=>V.bl false)=((named nm ns).map λ_=>false).map V.bl:=by rw[KR];rfl
 rw[e]at o;refine⟨acc,_,U,Aw.of o,_,U,?_⟩;rw[show ((named nm ns).map λ_=>false).any id=false by simp];refine Bj ?_;refine⟨_,U,r,_,U,S3.tup d,by lia,λl S q=>?_⟩;have g:=BR q (.set S (unlike (named nm ns)));have un:=Y1k a.nd;refine⟨l,S,_,U,Ax,by lia,_,U,r,_,U,.inr (g.tup (S3.tup d)),U,_,U,Kc (λz=>absurd (by rw[un,Bg]) z) (λ_=>?_)⟩;exact⟨_,U,t _ (((m.trans j).trans S3).trans g)⟩
end
inductive Mv where
 | flip (a:Nat)
 | turn (a k:Nat)
 | iff (a b:Nat)
 | pair (a b:Nat)
 | swap (a b:Nat)
 | cross (a b d:Nat)
noncomputable def Jz (w a b:Nat):Nat:=if w&&&(2^a ||| 2^b)=2^a\/w&&&(2^a ||| 2^b)=2^b then w^^^(2^a ||| 2^b) else w
namespace Mv
noncomputable def nm:Mv->Str
 | flip _=>"flip"
 | turn _ _=>"turn"
 | iff _ _=>"if"
 | pair _ _=>"pair"
 | swap _ _=>"swap"
 | cross _ _ _=>"cross"
noncomputable def ns:Mv->List Int
 | flip a=>[(a:Int)]
 | turn a k=>[(a:Int),(k:Int)]
 | iff a b=>[(a:Int),(b:Int)]
 | pair a b=>[(a:Int),(b:Int)]
 | swap a b=>[(a:Int),(b:Int)]
 | cross a b d=>[(a:Int),(b:Int),(d:Int)]
def Ok (c:Nat):Mv->Prop
 | flip a=>a<c
 | turn a k=>a<c/\1<=k/\k<=7
 | iff a b=>a<c/\b<c/\a≠b
 | pair a b=>a<c/\b<c/\a≠b
 | swap a b=>a<c/\b<c/\a≠b
 | cross a b d=>a<c/\b<c/\d<c/\a≠b/\a≠d/\b≠d
noncomputable def to (w:Nat):Mv->Nat
 | flip a=>w^^^2^a
 | iff a b=>if w&&&2^a=0 then w else w^^^2^b
 | swap a b=>Jz w a b
 | cross a b d=>if w&&&2^a=0 then w else Jz w b d
 | _=>w
noncomputable def sp (w:Nat):Mv->Nat
 | turn a k=>if w&&&2^a=2^a then k else 0
 | pair a b=>if w&&&(2^a ||| 2^b)=(2^a ||| 2^b) then 4 else 0
 | _=>0
end Mv
noncomputable abbrev at2 (w a:Nat):Nat:=w / 2^a%2
noncomputable def c1 (c a w:Nat):Bool:=decide ((Mv.flip a).to w<2^c) && decide ((Mv.flip a).to ((Mv.flip a).to w)=w) && decide ((w:Int)+(1-2*(at2 w a:Int))*((2^a:Nat):Int)=((Mv.flip a).to w:Nat)) &&
 decide ((if w&&&2^a=2^a then 1 else 0)=at2 w a)
noncomputable def c2 (c a b w:Nat):Bool:=decide (a=b) || (decide ((Mv.iff a b).to w<2^c) && decide ((Mv.iff a b).to ((Mv.iff a b).to w)=w) && decide ((w:Int)+(at2 w a:Int)*(1-2*(at2 w b:Int))*((2^b:Nat):Int)=((Mv.iff a b).to w:Nat)) &&
 decide ((Mv.swap a b).to w<2^c) && decide ((Mv.swap a b).to ((Mv.swap a b).to w)=w) && decide ((w:Int)+((at2 w b:Int)-(at2 w a:Int))*(((2^a:Nat):Int)-((2^b:Nat):Int))=((Mv.swap a b).to w:Nat)) &&
 decide (4*at2 w a*at2 w b=(Mv.pair a b).sp w))
noncomputable def c3 (c a b d w:Nat):Bool:=decide (a=b) || decide (a=d) || decide (b=d) || (decide ((Mv.cross a b d).to w<2^c) && decide ((Mv.cross a b d).to ((Mv.cross a b d).to w)=w) &&
 decide ((w:Int)+(at2 w a:Int)*((at2 w d:Int)-(at2 w b:Int))*(((2^b:Nat):Int)-((2^d:Nat):Int))=((Mv.cross a b d).to w:Nat)))
theorem W6g:((List.range 7).all λc=>(List.range c).all λa=>(List.range (2^c)).all λw=>c1 c a w)=true:=by decide +kernel
theorem W6f:((List.range 7).all λc=>(List.range c).all λa=>(List.range c).all λb=>(List.range (2^c)).all λw=>c2 c a b w)=true:=by decide +kernel
theorem W6e:((List.range 7).all λc=>(List.range c).all λa=>(List.range c).all λb=>(List.range c).all λd=>(List.range (2^c)).all λw=>c3 c a b d w)=true:=by decide +kernel
theorem Dl{p:Nat->Bool}{n i:Nat}(h:(List.range n).all p=true)(hi:i<n):p i=true:=Nj.mp h i (Ek.mpr hi)
section
variable {c a b d w:Nat}
theorem W8n(hc:c<=6)(ha:a<c)(hw:w<2^c):c1 c a w=true:=Dl (Dl (Dl W6g (by lia:c<7)) ha) hw
theorem W8m(hc:c<=6)(ha:a<c)(hb:b<c)(hw:w<2^c):c2 c a b w=true:=Dl (Dl (Dl (Dl W6f (by lia:c<7)) ha) hb) hw
theorem W8l(hc:c<=6)(ha:a<c)(hb:b<c)(hd:d<c)(hw:w<2^c):c3 c a b d w=true:=Dl (Dl (Dl (Dl (Dl W6e (by lia:c<7)) ha) hb) hd) hw
theorem yw(hc:c<=6)(ha:a<c)(hw:w<2^c):(Mv.flip a).to w<2^c/\(Mv.flip a).to ((Mv.flip a).to w)=w/\(w:Int)+(1-2*(at2 w a:Int))*((2^a:Nat):Int)=((Mv.flip a).to w:Nat)/\(if w&&&2^a=2^a then 1 else 0)=at2 w a:=by
 have:=W8n hc ha hw;unfold c1 at this;simp only[HY,Le]at this;exact⟨this.1.1.1,this.1.1.2,this.1.2,this.2⟩
theorem cu(hc:c<=6)(ha:a<c)(hb:b<c)(n:a≠b)(hw:w<2^c):((Mv.iff a b).to w<2^c/\(Mv.iff a b).to ((Mv.iff a b).to w)=w/\(w:Int)+(at2 w a:Int)*(1-2*(at2 w b:Int))*((2^b:Nat):Int)=((Mv.iff a b).to w:Nat)) /\
  ((Mv.swap a b).to w<2^c/\(Mv.swap a b).to ((Mv.swap a b).to w)=w/\(w:Int)+((at2 w b:Int)-(at2 w a:Int))*(((2^a:Nat):Int)-((2^b:Nat):Int))=((Mv.swap a b).to w:Nat))/\4*at2 w a*at2 w b=(Mv.pair a b).sp w:=by
 have:=W8m hc ha hb hw;unfold c2 at this;rw[FJ n,Td]at this;simp only[HY,Le]at this;obtain⟨⟨⟨⟨⟨⟨h1,h2⟩,e⟩,d⟩,g⟩,h⟩,f⟩:=this;exact⟨⟨h1,h2,e⟩,⟨d,g,h⟩,f⟩
theorem X2k(hc:c<=6)(ha:a<c)(hb:b<c)(hd:d<c)(n1:a≠b)(n2:a≠d)(n3:b≠d)(hw:w<2^c):(Mv.cross a b d).to w<2^c/\(Mv.cross a b d).to ((Mv.cross a b d).to w)=w /\
  (w:Int)+(at2 w a:Int)*((at2 w d:Int)-(at2 w b:Int))*(((2^b:Nat):Int)-((2^d:Nat):Int))=((Mv.cross a b d).to w:Nat):=by
 have:=W8l hc ha hb hd hw;unfold c3 at this;rw[FJ n1,FJ n2,FJ n3,Td,Td,Td]at this;simp only[HY,Le]at this;exact⟨this.1.1,this.1.2,this.2⟩
end
variable{v:Mv}{w:Nat}
theorem Mv.to_lt(hc:c<=6)(h:v.Ok c)(hw:w<2^c):v.to w<2^c:=by
 cases v with
 | flip a=>exact(yw hc h hw).1
 | turn a k=>exact hw
 | iff a b=>exact(cu hc h.1 h.2.1 h.2.2 hw).1.1
 | pair a b=>exact hw
 | swap a b=>exact(cu hc h.1 h.2.1 h.2.2 hw).2.1.1
 | cross a b d=>exact(X2k hc h.1 h.2.1 h.2.2.1 h.2.2.2.1 h.2.2.2.2.1 h.2.2.2.2.2 hw).1
theorem Mv.to_to(hc:c<=6)(h:v.Ok c)(hw:w<2^c):v.to (v.to w)=w:=by
 cases v with
 | flip a=>exact(yw hc h hw).2.1
 | turn a k=>rfl
 | iff a b=>exact(cu hc h.1 h.2.1 h.2.2 hw).1.2.1
 | pair a b=>rfl
 | swap a b=>exact(cu hc h.1 h.2.1 h.2.2 hw).2.1.2.1
 | cross a b d=>exact(X2k hc h.1 h.2.1 h.2.2.1 h.2.2.2.1 h.2.2.2.2.1 h.2.2.2.2.2 hw).2.1
theorem Mv.fits(h:v.Ok c):Fits v.nm v.ns c:=by
 cases v with
 | flip a =>
  have e:named "flip" [(a:Int)]=[(a:Int)]:=by unfold named;rw[if_neg (by decide +kernel)]
  have h:a<c:=h;exact⟨⟨(show numAt NB "flip"=some (.int ((1:Nat):Int)) by decide +kernel),(show 1<=3 by decide),λz=>absurd (show ("flip":Str)="turn" from z) (by decide +kernel)⟩,by show ∀x∈named "flip" [(a:Int)],_;rw[e];intro b hb;rw[Fj.mp hb];lia,by show (named "flip" [(a:Int)]).Nodup;rw[e];simp⟩
 | turn a k =>
  have e:named "turn" [(a:Int),(k:Int)]=[(a:Int)]:=by unfold named;rw[if_pos rfl];rfl
  have h:a<c/\1<=k/\k<=7:=h;exact⟨⟨(show numAt NB "turn"=some (.int ((2:Nat):Int)) by decide +kernel),(show 2<=3 by decide),λ_=>⟨a,k,U,by lia,by lia⟩⟩,by show ∀x∈named "turn" [(a:Int),(k:Int)],_;rw[e];intro b hb;rw[Fj.mp hb];lia,by show (named "turn" [(a:Int),(k:Int)]).Nodup;rw[e];simp⟩
 | iff a b =>
  have e:named "if" [(a:Int),(b:Int)]=[(a:Int),(b:Int)]:=by unfold named;rw[if_neg (by decide +kernel)]
  have h:a<c/\b<c/\a≠b:=h;exact⟨⟨(show numAt NB "if"=some (.int ((2:Nat):Int)) by decide +kernel),(show 2<=3 by decide),λz=>absurd (show ("if":Str)="turn" from z) (by decide +kernel)⟩,by show ∀x∈named "if" [(a:Int),(b:Int)],_;rw[e];intro x f;simp at f;lia,by show (named "if" [(a:Int),(b:Int)]).Nodup;rw[e];simp;lia⟩
 | pair a b =>
  have e:named "pair" [(a:Int),(b:Int)]=[(a:Int),(b:Int)]:=by unfold named;rw[if_neg (by decide +kernel)]
  have h:a<c/\b<c/\a≠b:=h;exact⟨⟨(show numAt NB "pair"=some (.int ((2:Nat):Int)) by decide +kernel),(show 2<=3 by decide),λz=>absurd (show ("pair":Str)="turn" from z) (by decide +kernel)⟩,by show ∀x∈named "pair" [(a:Int),(b:Int)],_;rw[e];intro x f;simp at f;lia,by show (named "pair" [(a:Int),(b:Int)]).Nodup;rw[e];simp;lia⟩
 | swap a b =>
  have e:named "swap" [(a:Int),(b:Int)]=[(a:Int),(b:Int)]:=by unfold named;rw[if_neg (by decide +kernel)]
  have h:a<c/\b<c/\a≠b:=h;exact⟨⟨(show numAt NB "swap"=some (.int ((2:Nat):Int)) by decide +kernel),(show 2<=3 by decide),λz=>absurd (show ("swap":Str)="turn" from z) (by decide +kernel)⟩,by show ∀x∈named "swap" [(a:Int),(b:Int)],_;rw[e];intro x f;simp at f;lia,by show (named "swap" [(a:Int),(b:Int)]).Nodup;rw[e];simp;lia⟩
 | cross a b d =>
  have e:named "cross" [(a:Int),(b:Int),(d:Int)]=[(a:Int),(b:Int),(d:Int)]:=by unfold named;rw[if_neg (by decide +kernel)]
  have h:a<c/\b<c/\d<c/\a≠b/\a≠d/\b≠d:=h;exact⟨⟨(show numAt NB "cross"=some (.int ((3:Nat):Int)) by decide +kernel),(show 3<=3 by decide),λz=>absurd (show ("cross":Str)="turn" from z) (by decide +kernel)⟩,by show ∀x∈named "cross" [(a:Int),(b:Int),(d:Int)],_;rw[e];intro x f;simp at f;lia,by show (named "cross" [(a:Int),(b:Int),(d:Int)]).Nodup;rw[e];simp;lia⟩
end Aj
namespace L2
theorem Mw:∀{us:U5}{ks:U6},us.length=ks.length->(∀(j:Nat) u,us[j]?=some u->∃(k:Int) (t:Tok),ks[j]?=some k/\u=Value.int k t)->IntsAre us ks
 | [],[],_,_=>.nil
 | u::us,k::ks,hl,h=>by
  obtain⟨a,t,e,rfl⟩:=h 0 u rfl;cases e;exact .cons _ _ (Mw (Nat.succ.inj hl) λj u q=>h (j+1) u q)
def rO (s:U7)(P:Nat->Value->Prop)(n:Nat)(q:Result)(s':U7):Prop:=q=.ok (.ret (.ref s.heap.objs.size))/\∃h' tk,s'={s with heap:=h',toks:=tk}/\(∀b o,s.heap.get? b=some o->h'.get? b=some o) /\
 ∃acc c,ItemsOf P acc n/\h'.get? s.heap.objs.size=some { cls:=.type "list",dict:=none,data:=.seq acc c,slots:=#[]}
theorem gather{prog:U8}{w:W1}{A:W6}{E:U2}{s:U7}{T:String}{r d:W9}{n:Nat}{P:Nat->Value->Prop}{OK:Heap->Prop}{R:List Value->Shared->Prop}(K:PySem.W.KdlSrc prog w T r d n P OK)(hh:A.handled=none)(hok:OK s.heap)(hn:n<=sizeLine)
  (h:∀(h':Heap) (tk:Nat) (acc:U9),(∀b o,s.heap.get? b=some o->h'.get? b=some o)->s.heap.objs.size<h'.objs.size->ItemsOf P acc n->R acc.toList {s with heap:=h',toks:=tk}):wpAny (model prog w) A (collect (.ref r)) R E s:=by
 obtain⟨l1,l2⟩:=K.there _ hok;have up:∀b o,s.heap.get? b=some o->(s.heap.push { cls:=.type "list",data:=.seq ([]:U5).toArray}).get? b=some o:=λb o e=>Ec _ e;have a:=PySem.W.kdl_extend (A:=A) (s:={s with heap:=s.heap.push { cls:=.type "list",data:=.seq ([]:U5).toArray}}) (R:=rO s P n) K hh (K.keep _ _ hok λb _=>up b) s.heap.objs.size (LR l1) (LR l2) (.ref s.heap.objs.size) 0
  (GC _ rfl) (λh' tk acc c j g i=>⟨U,h',tk,U,λb o e=>j b o (Df (CQ e)) (up b o e),acc,c,i,g⟩) hn
 unfold collect;refine BX (wpAny_runValue (iR entry_proto_collect' ?_));rw[Around.under_plainId PySem.F.plain_proto_collect _];show wpAny _ A.in1 (newList [] >>= λl=>again (.builtin "list.__iadd__" ⟨[l,.ref r],[]⟩)) _ _ s;refine BX (QV (CV ⟨plainId_quiet tV _,iR entry_list_iadd' ?_⟩));rw[Around.under_plainId tV _];refine Fi a (λf s' x=>?_) λe s' x=>by cases x.1
 cases f with
 | done f =>
  obtain⟨e,h',tk,rfl,j,acc,c,i,g⟩:=x;cases e;exact BX (wpAny_load g (CV (h h' tk acc j (CQ g) i)))
 | again c =>
  refine⟨x.1,RV x.2 λq k y=>?_⟩;obtain⟨rfl,h',tk,rfl,j,acc,c,i,g⟩:=y;exact BX (wpAny_load g (CV (h h' tk acc j (CQ g) i)))
theorem Y2q{X:Cx}(hc:X.calm=true):Cr X (.builtin "sorted") (λxs H Q=>∃(p:W9) (kvs:List (Key×V)) (ks:U6),xs=[.ref p]/\H p=some (.dK kvs)/\kvs.map (·.1)=ks.map Sum.inl/\kvs.length<64 /\
  ∀(l:W9) (ks':U6),H l=none->ks'.Perm ks->ks'.Pairwise (·<=·)->Q (.ref l) (upd H l (.lst (ks'.map V.int)))):=by
 intro pins s σ H xs us Q I r h;obtain⟨p,kvs,ks,rfl,hp,R,Y,q⟩:=h;obtain⟨u,rfl,M⟩:=vals1 r;cases M;obtain⟨z,lo,vs,E,dd⟩:=W6a I.hok hp;obtain⟨ep,B⟩:=dd.dictAt;have T:kvs.length=vs.length:=E.length;have a:kvs.map (·.1)=vs.map (·.1):=E.keys;rw[R]at a;have C:ks.length=vs.length:=by have:=congrArg List.length a;simpa using this
 have O:(64:Nat)<=sizeLine:=by decide
 refine Calls.call_function_entry kind_sorted plain_sorted entry_sorted (args_sorted1 _) ?_;unfold Builtin.«sorted»;refine BX (m:=checkCount "sorted" 1 1 _) (CV ?_);refine BX (gather (A:=X.A.in1) (PySem.W.kdl_dict (knd:=JR X.prog X.w) (kvs:=vs) (ep:=ep) lo) (I.ok.hd hc) B (by lia) λh' tk acc f n c=>?_);have hsz:=ZP n;have v:acc.toList.length=vs.length:=by rw[Ol];exact c.1
 have N:IntsAre acc.toList ks:=Mw (v.trans C.symm) λj u e=>by
  obtain⟨k,x,S,L⟩:=c.2 j u (by rw[<-jN];exact e);have e2:(ks.map Sum.inl:List Key)[j]?=some k:=by rw[a,Cj,S];rfl
  rw[Cj]at e2;cases e3:ks[j]? with
  | none=>rw[e3]at e2;cases e2
  | some i =>
   rw[e3]at e2;cases e2;rcases N8 (show Gr (Sum.inl i) u=true from L) with ⟨i',t,e4,e5⟩ | ⟨x',t,e4,e5⟩
   ·cases e4;exact⟨i,t,U,e5⟩
   ·cases e4
 refine BX (iJ ?_ (by lia));have d:(h'.push (seqObj "list" acc.toList.toArray 0)).get? h'.objs.size=some (seqObj "list" acc.toList.toArray 0):=GC _ rfl;refine BX (Kw (Ze slot_list_sort ⟨_,d,U⟩ entry_list_sort (list_sort_tree d N (by lia) λout g F D K=>⟨_,U,?_⟩) (args_list_sort _)));refine CV ⟨_,U,?_⟩;obtain⟨e,J⟩:=sortedHeap_at (out:=out) d;have G:∀b o,s.heap.get? b=some o->(sortedHeap (h'.push (seqObj "list" acc.toList.toArray 0)) h'.objs.size acc.toList out).get? b=some o:=λb o x=>by
  have lt:=CQ (f b o x);rw[sortedHeap_old (Df lt) (by rw[ZD];exact Tv lt)];exact Ec _ (f b o x)
 have P:=D.length_eq;have y:(out.toList).toArray=out:=Array.toArray_toList;exact⟨.ref h'.objs.size,_,I.laid (t':=tk) G hsz (show Bf X.prog X.w _ _ _ (.lst (g.map V.int)) from ⟨by rw[Bg];lia,out.toList,e,n8 F,by rw[y];exact J⟩),U,q _ g (I.hok.fresh hsz) D K⟩
end L2
namespace Dk
open PySem.Sem (wp)
section
variable {prog:U8}{w:W1}{A:W6}{E:U2}{s:U7}{d it:W9}{es:Array DictEntry}{i ep:Nat}
end
end Dk
namespace L2
def Ite (K:U0)(l:W9):It :=
 ⟨λi H=>∃xs x,Aw K H l xs/\xs[i]?=some x,
 λi H v H'=>∃T x,v=.ref T/\H T=none/\H'=upd H T (.tup [.int i,x])/\∀xs,Aw K H l xs->xs[i]?=some x,
 λi H=>∃xs,Aw K H l xs/\xs.length<=i⟩
theorem Y8r{P:U8}{w:W1}{K:U0}{es:List Expr}{kk:Nat}{tp:Pos}{e it l:W9}(ne:e≠it)(nl:l≠e):
  Turn P w K (.Tuple es kk tp) (Ite K l) [e,it] e (λi h=>(∃a,IsEnum h e it i a)/\h.IsListIter it l i) where
 mem:=by simp
 obj:=λi h st b hb=>by
  obtain⟨⟨a,c⟩,o,d,_,M⟩:=st;simp only[Dj,Ip,Ik]at hb;rcases hb with rfl | rfl
  ·exact⟨_,c,λv q=>by have J:Data.fields _=Data.cell v:=q;cases J⟩
  ·exact⟨o,d,λv z=>by rw[M]at z;cases z⟩
 keep:=λi h h' st k=>by
  obtain⟨⟨a,c⟩,d⟩:=st;exact⟨⟨a,k e (by simp) _ c⟩,d.at λo q=>k it (by simp) o q⟩
 item:=by
  intro X A j m B i pins s σ H E I hf st y;subst A j m;obtain⟨xs,x,f,D⟩:=y;obtain⟨⟨a,c⟩,d⟩:=st;obtain⟨its,u,p,N⟩:=I.list f;obtain⟨n,r,R⟩:=u.get D;refine wpAny_pyNext_enum_item c d p.isList (x:=n) (by simpa using r) ne λh' F O V W T=>?_;refine⟨_,U,wpAny_letOwnedTupleGo_enum F λh2 c1 g=>?_⟩;have S:s.heap.objs.size≠e:=LR (CQ c);have k2:∀b o,b∉[e,it]->s.heap.get? b=some o->h2.get? b=some o:=λb o hb q=>by
   simp only[Dj,Ip,Ik,not_or]at hb;exact g.extBut b o hb.1 (T b o hb.1 hb.2 q)
  have Q:IsTup h2 s.heap.objs.size ([.int i s.toks,n]:U5).toArray:=⟨_,g.extBut _ _ S V,U,_,U⟩;refine⟨.ref s.heap.objs.size,upd H s.heap.objs.size (.tup [.int i,x]),I.turnedT (t':=s.toks+1) k2 hf (CG _) (.cons ⟨_,U⟩ (.cons R .nil)) (by show 2<=sizeLine;decide) Q,U,⟨_,x,U,I.hok.fresh (CG _),U,λL h1=>?_⟩,⟨⟨n,?_⟩,?_⟩,λb hb=>?_⟩
  ·rw[I.list_inj h1 f];exact D
  ·exact_mod_cast c1
  ·exact O.at λo q=>g.extBut _ _ ne.symm q
  ·have t:b<s.heap.objs.size:=by
    simp only[Dj,Ip,Ik]at hb;rcases hb with rfl | rfl
    ·exact CQ c
    ·obtain⟨o,q,_⟩:=d;exact CQ q
   rw[Cg (Df t)];exact(hf b hb).1
 done:=by
  intro X A j m B i pins s σ H E I hf st y;subst A j m;obtain⟨xs,f,C⟩:=y;obtain⟨⟨a,c⟩,d⟩:=st;obtain⟨its,u,p,N⟩:=I.list f;have e1:=u.length;refine wpAny_pyNext_enum_end (I.ok.hd B) c d p.isList (by simp;lia) λh' G=>⟨U,I.turnedL (t':=s.toks) (ch:=[e,it]) (λb o hb q=>?_) hf⟩;simp only[Dj,Ip,Ik,not_or]at hb;exact G b o hb.2 q
 self:=λ_ _ _ _ _ st h=>by
  obtain⟨⟨a,c⟩,_⟩:=st;exact wpAny_pyIter_enum c h
section
variable {X:Cx}{es:List Expr}{kk:Nat}{tp:Pos}
def Xg (K:U0)(ta:TA):TI:=λσ H R=>ta σ H λvs H1=>∃l xs,vs=[.ref l]/\Aw K H1 l xs/\R (Ite K l) H1
theorem YB{a:Expr}{ta:TA}{p pos:Pos}(hg:Gl X "enumerate")(hm:X.mg "enumerate"=none)(ha:PA X [a] ta)(hs:starEach [a] X.env=[(false,eval a X.env)]:=by rfl):
  PI X (.Tuple es kk tp) (.Call (.Name "enumerate" p) [a] [] pos) (Xg X.K ta):=by
 intro pins s σ H R I h;refine Call_ (Rv I hg hm boot_enumerate (PyProof.Rows.callWith_type1 (Bu (ha pos pins s σ H _ I h) λus c ⟨vs,H1,f,t,m⟩=>?_) (by rw[hs];rfl) (by rfl)));obtain⟨l,xs,e,h1,q⟩:=m;subst e;cases t with
 | cons r rr =>
  cases rr;cases r;obtain⟨its,x,i,w⟩:=f.list h1;refine call_enumerate_list i.isList λh' j u v k=>?_;have n:Inv X pins σ H1 {c with heap:=h'}:=f.kept (t':=c.toks) k;have g:l<c.heap.objs.size:=by obtain⟨o,q,_⟩:=i.isList;exact CQ q
  refine wpAny_pyIter_enum j ⟨_,[c.heap.objs.size+1,c.heap.objs.size],_,_,H1,U,n,Y8r (Nat.succ_ne_self _) (Df (Tv g)),⟨⟨_,j⟩,u⟩,λb hb=>?_,q⟩;have d:c.heap.objs.size<=b:=by
   simp only[Dj,Ip,Ik]at hb;rcases hb with rfl | rfl
   ·exact Nat.le_succ _
   ·exact CG _
  exact f.fpOk d (f.hok.fresh d)
end
theorem wH{K:U0}{a:W9}{xs:List V}{g:TG}{tb:TS}{D:Ends}{σ:St}{H:Hp}(Pv:Nat->St->Hp->Prop)(h0:Pv 0 σ H)(hl:∀i σ H,i<=xs.length->Pv i σ H->Aw K H a xs)
  (hs:∀i x σ H T,xs[i]?=some x->Pv i σ H->H T=none->g (.ref T) σ (upd H T (.tup [.int i,x])) λc H2=>tb {D with nx:=Pv (i+1),ct:=Pv (i+1),bk:=D.nx} c H2) (hd:∀σ H,Pv xs.length σ H->D.nx σ H):
  ∃W:Nat->Nat->St->Hp->Prop,(∃m,W 0 m σ H)/\∀i m σ H,W i m σ H ->
   ((Ite K a).stop i H/\D.nx σ H)\/((Ite K a).go i H/\∃N:St->Hp->Prop,(∀b H',N b H'->∃m',m'<m/\W (i+1) m' b H')/\∀x H',(Ite K a).yld i H x H'->g x σ H' λc H2=>tb {D with nx:=N,ct:=N,bk:=D.nx} c H2):=by
 refine⟨λi m σ H=>m=xs.length-i/\i<=xs.length/\Pv i σ H,⟨xs.length,by simp,Gz _,h0⟩,?_⟩;rintro i m σ H ⟨rfl,hi,p⟩;have q:=hl i σ H hi p;by_cases hlt:i<xs.length
 ·refine .inr ⟨⟨xs,xs[i],q,by simp[hlt]⟩,Pv (i+1),λb H' d=>⟨xs.length-(i+1),by lia,U,hlt,d⟩,λv H' y=>?_⟩;obtain⟨T,x,rfl,f,rfl,y⟩:=y;exact hs i x σ H T (y xs q) p f
 ·have e:i=xs.length:=by lia
  subst e;exact .inl ⟨⟨xs,q,CG _⟩,hd σ H p⟩
end L2
namespace L2
theorem nF{X:Cx}(hc:X.calm=true):Cr X (.builtin "sum") (λxs H Q=>∃(p:W9) (ns:U6),xs=[.ref p]/\Aw X.K H p (ns.map V.int)/\Q (.int ns.sum) H):=by
 intro pins s σ H xs us Q I r h;obtain⟨p,ns,rfl,d,q⟩:=h;obtain⟨u,rfl,c⟩:=r.one;cases c;obtain⟨its,f,g,j⟩:=I.list d;have hi:=Uu f;have a:=g.isList;have b:=hi.numsOf;obtain⟨xs,e⟩:=hi.allInts.items;have e2:its=(intItems xs).toList:=by rw[<-e]
 rw[e]at a;rw[e2,nums_intItems]at b;refine sum_intListG (show X.A.handled=none from I.ok.hd hc) a λh' tk t' i=>?_;rw[preSum_eq,Zj (by simp),b];exact⟨.int ns.sum,H,I.kept (t':=tk) i,⟨_,U⟩,q⟩
theorem W1l{K:U0}{l:W9}{g:TG}{xs:List V}{te:TE}{fr:St}{H1:Hp}{acc:W9}{Q:VK}(f:Nat->V->V)(hn:xs.length<=sizeLine)(hacc:H1 acc=none)(hl:Aw K H1 l xs)
  (hg:∀{a:W9}{x y:V}{w1 w2:Option V}{H:Hp}{Q:St->Hp->Prop},H a=some (.tup [x,y])->Q (some x::some y::fr) H->g (.ref a) (w1::w2::fr) H Q)
  (hs:∀i x H (N:V->Hp->Prop),xs[i]?=some x->Same H1 H->N (f i x) H->te (some (.int i)::some x::fr) H N)
  (hd:∀H2,Same H1 H2->H2 acc=some (.lst (xs.mapIdx f))->Q (.ref acc) H2):Jl (Ite K l) g te (none::none::fr) H1 acc Q:=by
 refine⟨λi m zs j H2=>m=xs.length-i/\i<=xs.length/\(∃v w,j=v::w::fr)/\Same H1 H2/\H2 acc=some (.lst zs)/\zs=(xs.take i).mapIdx f,⟨xs.length,by simp,Gz _,⟨_,_,U⟩,BR hacc _,Ax,by simp⟩,?_⟩;rintro i m zs j H2 ⟨rfl,hi,⟨v,w,rfl⟩,b,d,e2⟩;by_cases hlt:i<xs.length
 ·have e1:xs[i]?=some xs[i]:=by simp[hlt]
  refine .inr ⟨⟨xs,_,b.seq hl,e1⟩,λu p n=>?_⟩;obtain⟨T,x,rfl,k,rfl,h1⟩:=n;have h:=h1 xs (b.seq hl);have c:=BR k (.tup [.int i,x]);have o:zs.length=i:=by rw[e2,jB,Hx];lia
  refine hg (x:=.int i) (y:=x) Ax (hs i x _ _ h (b.trans c) ⟨c _ _ d,by lia,xs.length-(i+1),by lia,U,hlt,⟨_,_,U⟩,Fw (b.trans c) hacc,Ax,?_⟩);rw[Jt,h,Nq,jC,e2];have:(xs.take i).length=i:=by rw[Hx];lia
  simp[this]
 ·have e:i=xs.length:=by lia
  subst e;exact .inl ⟨⟨xs,b.seq hl,CG _⟩,hd H2 b (by rw[d,e2,Ld])⟩
theorem wK{K:U0}{l:W9}{ns:U6}{tc:TT}{te:TE}{fr:St}{H1:Hp}{acc:W9}{Q:VK}(p:Int->Bool)(f:Int->Int)(hn:ns.length<=sizeLine)(hacc:H1 acc=none)(hl:Aw K H1 l (ns.map V.int))
  (hs:∀n H (N:Bool->Hp->Prop),n∈ns->Same H1 H->N (p n) H->tc (some (.int n)::fr) H N)
  (ht:∀n H (N:V->Hp->Prop),n∈ns->p n=true->Same H1 H->N (.int (f n)) H->te (some (.int n)::fr) H N)
  (hd:∀H2,Same H1 H2->H2 acc=some (.lst (((ns.filter p).map f).map V.int))->Q (.ref acc) H2):NP (Lx K l) (CZ 0) tc te (none::fr) H1 acc Q:=by
 refine⟨λi m zs d H2=>m=ns.length-i/\i<=ns.length/\(∃v,d=v::fr)/\Same H1 H2/\H2 acc=some (.lst zs)/\zs=(((ns.take i).filter p).map f).map V.int,⟨ns.length,by simp,Gz _,⟨_,U⟩,BR hacc _,Ax,by simp⟩,?_⟩;rintro i m zs d H2 ⟨rfl,hi,⟨v,rfl⟩,a,c,e2⟩;by_cases hlt:i<ns.length
 ·have e1:ns[i]?=some ns[i]:=by simp[hlt]
  have g:(ns.map V.int)[i]?=some (.int ns[i]):=by rw[Cj,e1];rfl
  have k:zs.length<=i:=by
   rw[e2,Bg,Bg];exact G7 (jO _ _) (by rw[Hx];lia)
  have b:ns[i]∈ns:=Rc hlt;refine .inr ⟨⟨_,_,a.seq hl,g⟩,λu o j=>?_⟩;obtain⟨rfl,h⟩:=j;have:=h _ (a.seq hl);rw[g]at this;cases this;refine hs ns[i] _ _ b a ⟨λhp=>ht ns[i] _ _ b hp a ⟨c,by lia,ns.length-(i+1),by lia,U,hlt,⟨_,U⟩,Fw a hacc,Ax,?_⟩,λhp=>⟨ns.length-(i+1),by lia,U,hlt,⟨_,U⟩,a,c,?_⟩⟩
  ·rw[Jt,e1,Nq,Oj,DW,DW,e2];simp[hp]
  ·rw[Jt,e1,Nq,Oj,DW,DW,e2];simp[hp]
 ·have e:i=ns.length:=by lia
  subst e;exact .inl ⟨⟨_,a.seq hl,by rw[Bg];exact CG _⟩,hd H2 a (by rw[c,e2,Ld])⟩
end L2
namespace Aj
open L2 Am Pc Ba
theorem Ky(x y:Nat):Builtin.bitOr (x:Int) (y:Int)=((x ||| y:Nat):Int):=by
 have h:Builtin.bitXor (x:Int) (y:Int)=Builtin.bitOr x y-Builtin.bitAnd x y:=rfl;rw[J5,Jg]at h;have e:=Yd (x+y+1) x y (by lia) (by lia);lia
variable{K:U0}{l:W9}
theorem X5x{g:TG}{xs:List V}{te:TE}{fr:L2.St}{H1:Hp}{acc:W9}{Q:VK}(Pv:Nat->List V->Hp->Prop)(hn:xs.length<=sizeLine)(h0:Pv 0 [] (upd H1 acc (.lst [])))
  (hl:∀i ys H,Pv i ys H->Aw K H l xs)
  (hg:∀{a:W9}{x y:V}{w1 w2:Option V}{H:Hp}{Q:L2.St->Hp->Prop},H a=some (.tup [x,y])->Q (some x::some y::fr) H->g (.ref a) (w1::w2::fr) H Q)
  (hs:∀i x ys H (T:W9) (N:V->Hp->Prop),xs[i]?=some x->ys.length=i->Pv i ys H->H T=none->(∀y b,b acc=some (.lst ys)->Pv (i+1) (ys++[y]) (upd b acc (.lst (ys++[y])))->N y b)->te (some (.int i)::some x::fr) (upd H T (.tup [.int i,x])) N)
  (hd:∀ys H,ys.length=xs.length->Pv xs.length ys H->Q (.ref acc) H):Jl (Ite K l) g te (none::none::fr) H1 acc Q:=by
 refine⟨λi m zs f H2=>m=xs.length-i/\i<=xs.length/\zs.length=i/\(∃v w,f=v::w::fr)/\Pv i zs H2,⟨xs.length,by simp,Gz _,U,⟨_,_,U⟩,h0⟩,?_⟩;rintro i m zs f H2 ⟨rfl,hi,d,⟨v,w,rfl⟩,p⟩;have c:=hl i zs H2 p;by_cases hlt:i<xs.length
 ·have e1:xs[i]?=some xs[i]:=by simp[hlt]
  refine .inr ⟨⟨xs,_,c,e1⟩,λu q o=>?_⟩;obtain⟨T,x,rfl,k,rfl,h1⟩:=o;have j:=h1 xs c;refine hg (x:=.int i) (y:=x) Ax (hs i x zs H2 T _ j d p k λy b n h=>⟨n,by lia,xs.length-(i+1),by lia,U,hlt,by simp[d],⟨_,_,U⟩,h⟩)
 ·have e:i=xs.length:=by lia
  subst e;exact .inl ⟨⟨xs,c,CG _⟩,hd zs H2 d p⟩
def Hv:Sp:=λvs H Q _=>∃w a b:Nat,vs=[.int w,.int ((2^a:Nat):Int),.int ((2^b:Nat):Int)]/\∀H',Same H H'->Q (.int (Jz w a b:Nat)) H'
def wY:Sp:=λvs H Q _=>∃(w:Nat) (p:W9) (v:Mv) (c:Nat),vs=[.int w,.ref p]/\H p=some (Sx v.nm v.ns)/\v.Ok c/\c<=6/\v.nm≠"turn"/\v.nm≠"pair"/\∀H',Same H H'->Q (.int (v.to w:Nat)) H'
structure Bo (K:U0) (H:Hp) (l:W9) (ps:U3) (f:Nat->A5) (c:Nat):Prop where
 lst:H l=some (.lst (ps.map V.ref))
 len:ps.length=2^c
 vals:Bk K H ps f
variable{H H':Hp}{ps:U3}{f:Nat->A5}{c:Nat}
theorem Bo.same(b:Bo K H l ps f c)(s:Same H H'):Bo K H' l ps f c:=⟨s _ _ b.lst,b.len,b.vals.same s⟩
theorem Bo.at{i:Nat}(b:Bo K H l ps f c)(hi:i<2^c):∃p,ps[i]?=some p/\Cw K H p (f i)/\Gv (ps.map V.ref) (i:Int)=some (.ref p):=by
 have a:i<ps.length:=by rw[b.len];exact hi
 refine⟨ps[i],Cm a,b.vals i _ (Cm a),Ln (by rw[Cj,Cm a];rfl)⟩
def xO (K:U0):Sp:=λvs H Q _=>∃(l:W9) (ps:U3) (f:Nat->A5) (c bits:Nat) (k:Int),vs=[.ref l,.int bits,.int k]/\Bo K H l ps f c/\c<=6 /\
 ∀(r:W9) (H':Hp) (qs:U3) (g:Nat->A5),H r=none->Same H H'->Bo K H' r qs g c->(∀w,w<2^c->g w=if w&&&bits=bits then Az (f w) k else f w)->Q (.ref r) H'
theorem mL(x a b:Int):inV (.int x) [.int a,.int b]=(decide (a=x) || decide (b=x)):=by
 unfold inV;simp only[Te,List.any_nil,iD,Ou];rfl
section
variable {P:U8}{w:W1}{K:U0}{mg:U4}{base:Heap}{k:Nat}{h:Heap}
theorem W0u(F:Ab K "exchanged" (top 55) .none)(X:K.In h)(G:Ng h mg):Ah P w K mg base (k+1) "exchanged" ["word","bit","other"] Hv:=by
 refine F.cal X G ["word","bit","other","both"] λg H vs Q E i h=>?_;obtain⟨x,a,b,rfl,q⟩:=h
 refine⟨_,(@Aq _ _ _ _ _ (@Bb _ _ 3 _ _ _ _ g rfl (Or.inl rfl) (Af Pa (pv 1) (pv 2)) rfl (.inl rfl))
  (@Ak _ _ _ (BJ (Kl (B_ Y9w (Af Dz (pv 0) (pv 3)) (@Dg _ _ _ _ _ (Aa (pv 1) (Aa (pv 2) Ae))) rfl) (Af JN (pv 0) (pv 3)) (pv 0))))),?_⟩
 try dsimp only[Bm]
 refine⟨_,U,_,U,_,_,U,U,?_⟩;refine⟨_,U,_,U,_,_,U,U,_,U,_,U,t2,λtp e=>?_⟩;refine⟨tp,_,U,.inr (Ag.of Ax),U,U,_,U,?_⟩;have f:=BR e (.tup [.int ((2^a:Nat):Int),.int ((2^b:Nat):Int)]);have d:=q _ f;unfold Jz at d;show if (inV (.int (Builtin.bitAnd (x:Int) (Builtin.bitOr ((2^a:Nat):Int) ((2^b:Nat):Int)))) [.int ((2^a:Nat):Int),.int ((2^b:Nat):Int)])=true then _ else _;rw[Ky,Jg,mL];by_cases c:x&&&(2^a ||| 2^b)=2^a\/x&&&(2^a ||| 2^b)=2^b
 ·rw[if_pos (by rw[WX,Le,Le];lia)];rw[if_pos c]at d;refine⟨_,U,_,U,_,_,U,U,?_⟩;show Q (.int (Builtin.bitXor (x:Int) (Builtin.bitOr ((2^a:Nat):Int) ((2^b:Nat):Int)))) _;rw[Ky,J5];exact d
 ·rw[if_neg (by rw[WX,Le,Le];lia)];rw[if_neg c]at d;exact⟨_,U,d⟩
theorem X0t(F:Ab K "word_behind" (top 54) .none)(X:K.In h)(G:Ng h mg)(cP:Ah P w K mg base k "named_cells" ["move"] pJ)(cI:Ah P w K mg base k "exchanged" ["word","bit","other"] Hv):
  Ah P w K mg base (k+1) "word_behind" ["word","move"] wY:=by
 refine F.cal X G ["word","move","bits"] λL H vs Q E m h=>?_;obtain⟨x,p,v,c,rfl,hp,ok,c6,nt,np,q⟩:=h;have s:=Mv.fits ok;have en:named v.nm v.ns=v.ns:=by unfold named;rw[if_neg nt]
 have y:v.ns.length<=3:=s.form.len;have low:∀a∈v.ns,0<=a/\a<6:=λa C=>by
  have:=s.low a (by rw[en];exact C);lia
 refine⟨_,(@Aq _ _ _ _ _ (R9 (i:=2) rfl L rfl rfl (Bp.of (Nc:=["cell"]) (mp:=[none]) (by kernel_rfl)) (bD (Av cP m rfl (Aa (pv 1) Ae))) (λ_ _ _ _=>(DR (i:=0) (show (["cell"]:W0).Nodup by decide +kernel) rfl (Or.inl rfl))) (λ_ _ _ _=>(Af G3 Ac (pv 0))) rfl)
  (@Aq _ _ _ _ _ (Bx (B_ Dr (Ai Ao (pv 1) Ac (λ_ _=>rfl)) Fq (Ad _))
   (@Ak _ _ _ (BJ (Af JN (pv 0) (Ai Fv (pv 2) Ac (λ_ _=>rfl)))))
   CK)
  (@Aq _ _ _ _ _ (Bx (B_ Dr (Ai Ao (pv 1) Ac (λ_ _=>rfl)) Fq (Ad _))
   (@Ak _ _ _ (BJ (Av cI m rfl (Aa (pv 0) (Aa (Ai Fv (pv 2) Ac (λ_ _=>rfl)) (Aa (Ai Fv (pv 2) Ac (λ_ _=>rfl)) Ae))))))
   CK)
  (@Aq _ _ _ _ _ (Bx (FQ (K7 (Af Dz (pv 0) (Ai Fv (pv 2) Ac (λ_ _=>rfl))) (by intro _;rfl)))
   (@Ak _ _ _ (BJ (pv 0)))
   CK)
  (@Aq _ _ _ _ _ (Bx (B_ Dr (Ai Ao (pv 1) Ac (λ_ _=>rfl)) Fq (Ad _))
   (@Ak _ _ _ (BJ (Af JN (pv 0) (Ai Fv (pv 2) Ac (λ_ _=>rfl)))))
   CK)
  (@Ak _ _ _ (BJ (Av cI m rfl (Aa (pv 0) (Aa (Ai Fv (pv 2) Ac (λ_ _=>rfl)) (Aa (Ai Fv (pv 2) Ac (λ_ _=>rfl)) Ae))))))))))),?_⟩
 try dsimp only[Bm]
 refine⟨_,U,p,v.nm,v.ns,U,hp,s.form,λr H1 D m=>?_⟩;rw[en]at m;refine⟨r,U,⟨_,Ag.of m⟩,λacc o=>?_⟩;refine ou (K:=K) (λn=>.int (1*2^n.toNat)) (Ag.of m) (JB (by lia)) o (λn H2 N A M I=>⟨_,U,_,_,U,U,⟨1,HN,(low n A).1,by have:=(low n A).2;lia⟩,I⟩) (λH3 S3 J=>?_);have f:=D.trans S3;have B:=q H3 f;have SP:Ag K H3 p (.str v.nm::v.ns.map V.int):=Ag.of (f _ _ hp);have j:Aw K H3 acc (v.ns.map λn=>V.int (1*2^n.toNat)):=Aw.of J;have l:∀a:Nat,(1:Int)*2^((a:Int)).toNat=((2^a:Nat):Int):=λa=>ipow a;cases v with
 | flip a =>
  refine⟨_,U,p,_,_,.str "flip",U,U,SP,at0,U,_,U,A_ (λ_=>?_) (λz=>absurd rfl z)⟩;refine⟨_,U,_,U,acc,_,_,.int (1*2^((a:Int)).toNat),U,U,j,U,_,_,U,U,?_⟩;show Q (.int (Builtin.bitXor (x:Int) (1*2^((a:Int)).toNat))) H3;rw[l,J5];exact B
 | turn a k=>exact absurd rfl nt
 | pair a b=>exact absurd rfl np
 | swap a b =>
  refine⟨_,U,p,_,_,.str "swap",U,U,SP,at0,U,_,U,A_ (λz=>absurd (V.str.inj z) (by decide +kernel)) (λ_=>?_)⟩;refine⟨_,U,p,_,_,.str "swap",U,U,SP,at0,U,_,U,A_ (λ_=>?_) (λz=>absurd rfl z)⟩;refine⟨_,U,_,U,acc,_,_,.int (1*2^((a:Int)).toNat),U,U,j,U,_,U,acc,_,_,.int (1*2^((b:Int)).toNat),U,U,j,U,?_⟩;exact⟨x,a,b,by show [V.int (x:Int),V.int (1*2^((a:Int)).toNat),V.int (1*2^((b:Int)).toNat)]=_;rw[l,l],λt u=>q t (f.trans u)⟩
 | iff a b =>
  refine⟨_,U,p,_,_,.str "if",U,U,SP,at0,U,_,U,A_ (λz=>absurd (V.str.inj z) (by decide +kernel)) (λ_=>?_)⟩;refine⟨_,U,p,_,_,.str "if",U,U,SP,at0,U,_,U,A_ (λz=>absurd (V.str.inj z) (by decide +kernel)) (λ_=>?_)⟩;refine⟨_,U,_,U,acc,_,_,.int (1*2^((a:Int)).toNat),U,U,j,U,_,_,U,U,_,U,?_⟩;rw[l,Jg];have g:Q (.int ((if x&&&2^a=0 then x else x^^^2^b:Nat):Int)) H3:=B;by_cases e:x&&&2^a=0
  ·rw[if_pos e]at g;rw[e];exact C_ ⟨_,U,g⟩
  ·rw[if_neg e]at g;rw[show ((((x&&&2^a:Nat):Int) != 0)=true) by simpa using e];refine Bj ⟨_,U,p,_,_,.str "if",U,U,SP,at0,U,_,U,A_ (λ_=>?_) (λz=>absurd rfl z)⟩;refine⟨_,U,_,U,acc,_,_,.int (1*2^((b:Int)).toNat),U,U,j,U,_,_,U,U,?_⟩;show Q (.int (Builtin.bitXor (x:Int) (1*2^((b:Int)).toNat))) H3;rw[l,J5];exact g
 | cross a b d =>
  refine⟨_,U,p,_,_,.str "cross",U,U,SP,at0,U,_,U,A_ (λz=>absurd (V.str.inj z) (by decide +kernel)) (λ_=>?_)⟩;refine⟨_,U,p,_,_,.str "cross",U,U,SP,at0,U,_,U,A_ (λz=>absurd (V.str.inj z) (by decide +kernel)) (λ_=>?_)⟩;refine⟨_,U,_,U,acc,_,_,.int (1*2^((a:Int)).toNat),U,U,j,U,_,_,U,U,_,U,?_⟩;rw[l,Jg];have g:∀H',Same H H'->Q (.int ((if x&&&2^a=0 then x else Jz x b d:Nat):Int)) H':=q;by_cases e:x&&&2^a=0
  ·rw[if_pos e]at g;rw[e];exact C_ ⟨_,U,g _ f⟩
  ·rw[if_neg e]at g;rw[show ((((x&&&2^a:Nat):Int) != 0)=true) by simpa using e];refine Bj ⟨_,U,p,_,_,.str "cross",U,U,SP,at0,U,_,U,A_ (λz=>absurd (V.str.inj z) (by decide +kernel)) (λ_=>?_)⟩;refine⟨_,U,_,U,acc,_,_,.int (1*2^((b:Int)).toNat),U,U,j,U,_,U,acc,_,_,.int (1*2^((d:Int)).toNat),U,U,j,U,?_⟩;exact⟨x,b,d,by show [V.int (x:Int),V.int (1*2^((b:Int)).toNat),V.int (1*2^((d:Int)).toNat)]=_;rw[l,l],λt u=>g t (f.trans u)⟩
theorem W1b(v:Mv):v.nm≠"mix":=by
 cases v with
 | flip a=>exact(show ("flip":Str)≠"mix" by decide +kernel)
 | turn a k=>exact(show ("turn":Str)≠"mix" by decide +kernel)
 | iff a b=>exact(show ("if":Str)≠"mix" by decide +kernel)
 | pair a b=>exact(show ("pair":Str)≠"mix" by decide +kernel)
 | swap a b=>exact(show ("swap":Str)≠"mix" by decide +kernel)
 | cross a b d=>exact(show ("cross":Str)≠"mix" by decide +kernel)
variable{v:Mv}
theorem W1d(h:v.nm="turn"):∃a k,v=.turn a k:=by
 cases v with
 | flip a=>exact absurd h (show ("flip":Str)≠"turn" by decide +kernel)
 | turn a k=>exact⟨a,k,rfl⟩
 | iff a b=>exact absurd h (show ("if":Str)≠"turn" by decide +kernel)
 | pair a b=>exact absurd h (show ("pair":Str)≠"turn" by decide +kernel)
 | swap a b=>exact absurd h (show ("swap":Str)≠"turn" by decide +kernel)
 | cross a b d=>exact absurd h (show ("cross":Str)≠"turn" by decide +kernel)
theorem W1e(h:v.nm="pair"):∃a b,v=.pair a b:=by
 cases v with
 | flip a=>exact absurd h (show ("flip":Str)≠"pair" by decide +kernel)
 | turn a k=>exact absurd h (show ("turn":Str)≠"pair" by decide +kernel)
 | iff a b=>exact absurd h (show ("if":Str)≠"pair" by decide +kernel)
 | pair a b=>exact⟨a,b,rfl⟩
 | swap a b=>exact absurd h (show ("swap":Str)≠"pair" by decide +kernel)
 | cross a b d=>exact absurd h (show ("cross":Str)≠"pair" by decide +kernel)
theorem X9l(h:v.nm≠"turn")(h':v.nm≠"pair")(w:Nat):v.sp w=0:=by
 cases v with
 | turn a k=>exact absurd rfl h
 | pair a b=>exact absurd rfl h'
 | flip a=>rfl
 | iff a b=>rfl
 | swap a b=>rfl
 | cross a b d=>rfl
theorem X4q(F:Ab K "spun_where" (top 53) .none)(X:K.In h)(G:Ng h mg)(B:Bs mg)(dE:Ah P w K mg base k "spun" ["one","k"] (Uo K)):Ah P w K mg base (k+1) "spun_where" ["board","bits","k"] (xO K):=by
 refine F.cal X G ["board","bits","k"] λnd H vs Q E s h=>?_;obtain⟨l,ps,g,c,bits,kk,rfl,v,c6,S⟩:=h;have Z:=Hy c6;have L:Aw K H l (ps.map V.ref):=Aw.of v.lst;have o:(ps.map V.ref).length=2^c:=by rw[Bg,v.len]
 refine⟨_,(@Ak _ _ _ (BJ (Iw rfl (Bp.of (Nc:=["word","one","bits","k"]) (mp:=[none,none,some 1,some 2]) (by kernel_rfl)) (YB rfl B.enumerate (Aa (pv 0) Ae)) (λ_ _ _ _=>(R8 rfl (show (["word","one","bits","k"]:W0).Nodup by decide +kernel) rfl rfl rfl rfl)) (λ_ _ _ _=>(Kl (B_ Dr (Af Dz (pv 0) (pv 2)) (pv 2) (Ad _)) (Av dE s rfl (Aa (pv 1) (Aa (pv 3) Ae))) (pv 1)))))),?_⟩;try dsimp only[Bm]
 refine⟨_,U,l,_,U,L,λacc b=>?_⟩;refine X5x (K:=K) (l:=l) (xs:=ps.map V.ref) (fr:=[some (.int bits),some (.int kk)]) (λi ys H'=>∃(a:U3) (y:Nat->A5),Same H H'/\H' acc=some (.lst ys)/\ys=a.map V.ref/\a.length=i/\Bk K H' a y/\∀j,j<i->y j=if j&&&bits=bits then Az (g j) kk else g j) (by rw[o];exact JB Z)
  ⟨[],λ_=>((0,0,0,0),0),BR b _,Ax,U,U,(λ_ _ z=>by cases z),λj J=>absurd J (Js _)⟩ (λi ys H' p=>by obtain⟨a,y,Y,_⟩:=p;exact Aw.of (Y _ _ v.lst)) (λh q=>⟨_,_,U,Ag.of h,U,_,_,U,_,_,U,U,q⟩) ?_ ?_
 ·rintro i x ys H2 T N I W ⟨a,y,t,u,rfl,m,v2,d⟩ R M;rw[Cj]at I;obtain⟨p,hp,rfl⟩:=Es.mp I;have D:=(v.vals i p hp).same t;have C:=BR R (.tup [.int i,.ref p]);have n:∀(r:W9) (H5:Hp) (z:A5),Same (upd H2 T (.tup [.int i,.ref p])) H5->Cw K H5 r z->z=(if i&&&bits=bits then Az (g i) kk else g i)->N (.ref r) H5:=λr H5 z A s O=>by
   have f:=C.trans A;refine M (.ref r) H5 (f _ _ u) ⟨a++[r],λj=>if j=a.length then z else y j,Fw (t.trans f) b,Ax,by rw[DW];rfl,by simp[m],PJ (xs:=a.map V.ref) (PL v2 f s) (f _ _ u),λj J=>?_⟩;show (if j=a.length then z else y j)=_;by_cases e:j=a.length
   ·rw[if_pos e,O,e,m]
   ·rw[if_neg e];exact d j (by lia)
  refine⟨_,U,_,U,_,_,U,U,_,U,U,_,U,?_⟩;show if decide (V.int (Builtin.bitAnd (i:Int) (bits:Int))=V.int (bits:Int))=true then _ else _;rw[Jg];by_cases e:i&&&bits=bits
  ·rw[Gb (by rw[e])];refine C_ ⟨_,U,_,U,p,_,_,_,_,_,_,U,D.same C,λr H5 A s=>n r H5 (Az (g i) kk) A s (by rw[if_pos e])⟩
  ·rw[FJ (λz=>e (by have:=V.int.inj z;lia))];exact Bj ⟨_,U,n p _ (g i) (Same.refl _) (D.same C) (by rw[if_neg e])⟩
 ·rintro ys H2 W ⟨a,y,t,u,rfl,m,v2,d⟩;rw[o]at m d;exact S acc H2 a y b t ⟨u,m,v2⟩ d
noncomputable def Y7 (c a w:Nat):Bool:=decide (w&&&2^a=0) == decide (w / 2^a%2=0) && if w / 2^a%2=0 then decide ((w ||| 2^a)=w+2^a) && decide (w+2^a<2^c) && decide ((w+2^a) / 2^a%2=1) else decide ((w^^^2^a)=w-2^a) && decide (2^a<=w) && decide ((w-2^a) / 2^a%2=0)
theorem X8z:((List.range 7).all λc=>(List.range c).all λa=>(List.range (2^c)).all λw=>Y7 c a w)=true:=by decide +kernel
variable{a:Nat}
theorem sG{w:Nat}(hc:c<=6)(ha:a<c)(hw:w<2^c):Y7 c a w=true :=
 Nj.mp (Nj.mp (Nj.mp X8z c (Ek.mpr (by lia))) a (Ek.mpr ha)) w (Ek.mpr hw)
theorem Yg{w:Nat}(hc:c<=6)(ha:a<c)(hw:w<2^c)(h:w / 2^a%2=0):w&&&2^a=0/\(w ||| 2^a)=w+2^a/\w+2^a<2^c/\(w+2^a) / 2^a%2=1:=by
 have:=sG hc ha hw;unfold Y7 at this;rw[if_pos h,Gb h]at this;simpa [and_assoc] using this
theorem oW{w:Nat}(hc:c<=6)(ha:a<c)(hw:w<2^c)(h:¬ w / 2^a%2=0):w&&&2^a≠0/\(w^^^2^a)=w-2^a/\2^a<=w/\(w-2^a) / 2^a%2=0:=by
 have:=sG hc ha hw;unfold Y7 at this;rw[if_neg h,FJ h]at this;simpa [and_assoc] using this
structure Mix (s:Int) (x y z:A5):Prop where
 ex:∃p:A5,Sum x.1.1 x.1.2.1 x.1.2.2.1 x.1.2.2.2 x.2 (s*y.1.1) (s*y.1.2.1) (s*y.1.2.2.1) (s*y.1.2.2.2) y.2 p.1.1 p.1.2.1 p.1.2.2.1 p.1.2.2.2 p.2 /\
  G5 z.1.1 z.1.2.1 z.1.2.2.1 z.1.2.2.2 z.2/\Ca (p.1.2.1-p.1.2.2.2) (p.1.1+p.1.2.2.1) (p.1.2.1+p.1.2.2.2) (p.1.2.2.1-p.1.1) (p.2+1) z.1.1 z.1.2.1 z.1.2.2.1 z.1.2.2.2 z.2
variable{x y:A5}
theorem UL(h:x.1.1=y.1.1/\x.1.2.1=y.1.2.1/\x.1.2.2.1=y.1.2.2.1/\x.1.2.2.2=y.1.2.2.2/\x.2=y.2):x=y:=by
 obtain⟨⟨a,b,c,d⟩,h1⟩:=x;obtain⟨⟨a',b',c',d'⟩,h2⟩:=y;obtain⟨rfl,rfl,rfl,rfl,rfl⟩:=h;rfl
def Cy (f:Nat->A5)(a w:Nat)(z:A5):Prop:=if w / 2^a%2=0 then Mix 1 (f w) (f (w+2^a)) z else Mix (-1) (f (w-2^a)) (f w) z
structure Cz (K:U0) (H:Hp) (l:W9) (ps:U3) (f:Nat->A5) (c n m:Nat):Prop where
 lst:H l=some (.lst (ps.map V.ref))
 len:ps.length=2^c
 vals:Bk K H ps f
 ok:∀i,i<2^c->Fy n m (f i)
variable{n m:Nat}
theorem Cz.same(b:Cz K H l ps f c n m)(s:Same H H'):Cz K H' l ps f c n m:=⟨s _ _ b.lst,b.len,b.vals.same s,b.ok⟩
theorem Cz.at{i:Nat}(b:Cz K H l ps f c n m)(hi:i<2^c):∃p,ps[i]?=some p/\Cw K H p (f i)/\Gv (ps.map V.ref) (i:Int)=some (.ref p):=by
 have a:i<ps.length:=by rw[b.len];exact hi
 refine⟨ps[i],Cm a,b.vals i _ (Cm a),Ln (by rw[Cj,Cm a];rfl)⟩
def uX (K:U0):Sp:=λvs H Q _=>∃(l:W9) (ps:U3) (f:Nat->A5) (c n m a wd:Nat),vs=[.ref l,.int wd,.int ((2^a:Nat):Int)]/\Cz K H l ps f c n m/\c<=6/\a<c/\wd<2^c/\n<=450000/\m<=10000 /\
 ∀(r:W9) (H':Hp) (z:A5),Same H H'->H' r=some (tA z)->Fy (n+2*m+3) (m+1:Nat) z->Cy f a wd z->Q (.ref r) H'
def w6 (K:U0):Sp:=λvs H Q _=>∃(l:W9) (ps:U3) (f:Nat->A5) (c n m a:Nat),vs=[.ref l,.int ((2^a:Nat):Int)]/\Cz K H l ps f c n m/\c<=6/\a<c/\n<=450000/\m<=10000 /\
 ∀(r:W9) (H':Hp) (qs:U3) (g:Nat->A5),H r=none->Same H H'->Cz K H' r qs g c (n+2*m+3) (m+1)->(∀w,w<2^c->Cy f a w (g w))->Q (.ref r) H'
theorem zW{z p:A5}(ox:Fy n m x)(oy:Fy n m y)(hp:p.2<=max x.2 y.2)(sp:Ih (n+x.2.toNat+y.2.toNat+2) p.1.1 p.1.2.1 p.1.2.2.1 p.1.2.2.2)
  (r:Red (p.1.2.1-p.1.2.2.2) (p.1.1+p.1.2.2.1) (p.1.2.1+p.1.2.2.2) (p.1.2.2.1-p.1.1) (p.2+1) z.1.1 z.1.2.1 z.1.2.2.1 z.1.2.2.2 z.2):Fy (n+2*m+3) (m+1:Nat) z:=by
 have f:=ox.le;have e:=oy.le;have d:=ox.amt.nn;have c:=oy.amt.nn;have s:Ih (n+2*m+2) p.1.1 p.1.2.1 p.1.2.2.1 p.1.2.2.2:=sp.mono (by lia);have neg:∀{u v:Int},Sz (n+2*m+2) u->Sz (n+2*m+2) v->Sz (n+2*m+3) (u-v):=λa b=>by rw[Int.sub_eq_add_neg];exact(a.add b.neg).mono (by lia)
 have add:∀{u v:Int},Sz (n+2*m+2) u->Sz (n+2*m+2) v->Sz (n+2*m+3) (u+v):=λa b=>(a.add b).mono (by lia);refine⟨r.sz ⟨neg s.z2 s.z4,add s.z1 s.z3,add s.z2 s.z4,neg s.z3 s.z1⟩,r.amt,?_⟩;have:=r.le;lia
theorem zA{p q:W9}(hp:Cw K H p x)(hq:Cw K H q y)(ox:Fy n m x)(oy:Fy n m y)(hn:n<=450000)(hm:m<=10000):Y5 K n [.ref p,.ref q] H p q x.1.1 x.1.2.1 x.1.2.2.1 x.1.2.2.2 x.2 y.1.1 y.1.2.1 y.1.2.2.1 y.1.2.2.2 y.2:=by
 have:=ox.le;have:=oy.le;exact⟨U,hp,hq,ox.amt.nn,oy.amt.nn,by lia,by lia,ox.sz,oy.sz⟩
theorem Y7t(F:Ab K "mixed_at" (top 52) .none)(X:K.In h)(G:Ng h mg)(eP:Ah P w K mg base k "rooted" ["one"] xH)(dQ:Ah P w K mg base k "minus" ["one","other"] (Z7 K))(cU:Ah P w K mg base k "plus" ["one","other"] (R4 K)):
  Ah P w K mg base (k+1) "mixed_at" ["board","word","bit"] (uX K):=by
 refine F.cal X G ["board","word","bit"] λnd H vs Q E A h=>?_;obtain⟨l,ps,g,c,n,m,a,t,rfl,b,c6,ac,d,n3,Z,kq⟩:=h;have s:Aw K H l (ps.map V.ref):=Aw.of b.lst
 refine⟨_,(@Aq _ _ _ _ _ (Bx (K7 (Af Dz (pv 1) (pv 2)) (by intro _;rfl))
   (@Ak _ _ _ (BJ (Av eP A rfl (Aa (Av dQ A rfl (Aa (Ai Fv (pv 0) (Af JN (pv 1) (pv 2)) (λ_ _=>rfl)) (Aa (Ai Fv (pv 0) (pv 1) (λ_ _=>rfl)) Ae))) Ae))))
   CK)
  (@Ak _ _ _ (BJ (Av eP A rfl (Aa (Av cU A rfl (Aa (Ai Fv (pv 0) (pv 1) (λ_ _=>rfl)) (Aa (Ai Fv (pv 0) (Af Pa (pv 1) (pv 2)) (λ_ _=>rfl)) Ae))) Ae))))),?_⟩
 try dsimp only[Bm]
 by_cases hb:t / 2^a%2=0
 ·obtain⟨e1,e2,Y,_⟩:=Yg c6 ac d hb;obtain⟨p,_,hp,D⟩:=b.at d;obtain⟨q,_,N,M⟩:=b.at Y;refine⟨_,U,_,U,_,_,U,U,_,U,?_⟩;rw[Jg,e1];refine Bj ?_;refine⟨_,U,_,U,l,_,_,_,U,U,s,D,_,U,_,U,_,U,_,_,U,U,l,_,_,_,U,U,s,(by rw[Ky,e2];exact M),?_⟩;have ox:=b.ok _ d;have r:=b.ok _ Y;refine⟨n,p,q,_,_,_,_,_,_,_,_,_,_,zA hp N ox r n3 Z,λS H1 x y z u v L f j W=>?_⟩;refine⟨S,x,y,z,u,v,U,f,j.amt.nn,λC H2 O I T B R J o e=>?_⟩;refine kq C H2 ((O,I,T,B),R) (L.trans J) o (zW (p:=((x,y,z,u),v)) ox r j.le W e) ?_;unfold Cy;rw[if_pos hb];exact⟨((x,y,z,u),v),by simpa only[QJ] using j,e.amt,e.same⟩
 ·obtain⟨e1,e2,Y,_⟩:=oW c6 ac d hb;obtain⟨p,_,hp,D⟩:=b.at (i:=t-2^a) (Np (WD _ _) d);obtain⟨q,_,N,M⟩:=b.at d;have ox:=b.ok (t-2^a) (Np (WD _ _) d);have r:=b.ok _ d;refine⟨_,U,_,U,_,_,U,U,_,U,?_⟩;rw[Jg,show ((((t&&&2^a:Nat):Int) != 0)=true) by simpa using e1];refine C_ ?_;refine⟨_,U,_,U,_,U,_,_,U,U,l,_,_,_,U,U,s,(by rw[J5,e2];exact D),_,U,_,U,l,_,_,_,U,U,s,M,?_⟩;refine⟨n,p,q,_,_,_,_,_,_,_,_,_,_,zA hp N ox r n3 Z,λS H1 x y z u v L f j W=>?_⟩;refine⟨S,x,y,z,u,v,U,f,j.amt.nn,λC H2 O I T B R J o e=>?_⟩;refine kq C H2 ((O,I,T,B),R) (L.trans J) o (zW (p:=((x,y,z,u),v)) ox r j.le W e) ?_;unfold Cy;rw[if_neg hb];exact⟨((x,y,z,u),v),by simpa only[Int.neg_one_mul] using j,e.amt,e.same⟩
theorem X4z(F:Ab K "mixed" (top 51) .none)(X:K.In h)(G:Ng h mg)(B:Bs mg)(eY:Ah P w K mg base k "mixed_at" ["board","word","bit"] (uX K)):Ah P w K mg base (k+1) "mixed" ["board","bit"] (w6 K):=by
 refine F.cal X G ["board","bit"] λY H vs Q E R h=>?_;obtain⟨l,ps,g,c,n,m,a,rfl,p,c6,S,O,I,L⟩:=h;have T:=Hy c6;have C:Aw K H l (ps.map V.ref):=Aw.of p.lst;have o:(((ps.map V.ref).length:Nat):Int).toNat=2^c:=by rw[Bg,p.len,G8]
 refine⟨_,(@Ak _ _ _ (BJ (Iw rfl (Bp.of (Nc:=["word","board","bit"]) (mp:=[none,some 0,some 1]) (by kernel_rfl)) (Lw rfl B.range (Aa (Ck Ig rfl B.len HX (Aa (pv 0) Ae)) Ae)) (λ_ _ _ _=>(DR (i:=0) (show (["word","board","bit"]:W0).Nodup by decide +kernel) rfl (Or.inl rfl))) (λ_ _ _ _=>(Av eY R rfl (Aa (pv 1) (Aa (pv 0) (Aa (pv 2) Ae)))))))),?_⟩;try dsimp only[Bm]
 refine⟨_,U,l,_,U,.inl C,_,U,by rw[Bg,p.len];lia,by rw[Bg,p.len];lia,λacc d=>?_⟩;rw[o];refine R6 (n:=2^c) (fr:=[some (.ref l),some (.int ((2^a:Nat):Int))]) (λi ys H'=>∃(b:U3) (y:Nat->A5),Same H H'/\H' acc=some (.lst ys)/\ys=b.map V.ref/\b.length=i/\Bk K H' b y/\∀j,j<i->Fy (n+2*m+3) (m+1:Nat) (y j)/\Cy g a j (y j)) (JB T)
  ⟨[],λ_=>((0,0,0,0),0),BR d _,Ax,U,U,(λ_ _ z=>by cases z),λj v=>absurd v (Js _)⟩ ?_ ?_
 ·rintro i ys H2 N hi M ⟨b,y,s,t,rfl,q,v2,f⟩ D;refine⟨_,U,_,U,_,U,l,ps,g,c,n,m,a,i,(by show [V.ref l,V.int (0+(i:Int)),_]=_;rw[LQ]),p.same s,c6,S,hi,O,I,λr W z S3 u J x=>?_⟩;refine D (.ref r) W (S3 _ _ t) ⟨b++[r],λj=>if j=b.length then z else y j,Fw (s.trans S3) d,Ax,by rw[DW];rfl,by simp[q],PJ (xs:=b.map V.ref) (PL v2 S3 (Cw.of u)) (S3 _ _ t),λj v=>?_⟩;by_cases e:j=b.length
  ·show Fy _ _ (if j=b.length then z else y j)/\Cy g a j (if j=b.length then z else y j);rw[if_pos e,e,q];exact⟨J,x⟩
  ·show Fy _ _ (if j=b.length then z else y j)/\Cy g a j (if j=b.length then z else y j);rw[if_neg e];exact f j (by lia)
 ·rintro ys H2 M ⟨b,y,s,t,rfl,q,v2,f⟩;exact L acc H2 b y d s ⟨t,q,v2,λi hi=>(f i hi).1⟩ λw A=>(f w A).2
end
end Aj
namespace L2
abbrev Mm:=Str×List Int
noncomputable abbrev mT (m:Mm):HO:=.tup (.str m.1::m.2.map V.int)
def GK (H:Hp):List Addr->List Mm->Prop:=Paired λp m=>H p=some (mT m)
theorem GK.same{H H':Hp}{ps:U3}{ms:List Mm}(h:GK H ps ms)(s:Same H H'):GK H' ps ms:=Paired.imp' (λ_ _ c=>s _ _ c) h
section
variable {P:U8}{w:W1}{H:Hp}{h:Heap}
end
section
variable {X:Cx}
end
end L2
namespace Aj
open L2 Am Pc Ba
variable{h g:Int}
theorem J6{x y N:Int}(hh:0<=h)(hg:0<=g)(h1:h<=N)(h2:g<=N):FZ x h y g↔x*p2 (N-h)=y*p2 (N-g):=by
 unfold FZ;have e1:=Kg hh h1;have e2:=Kg hg h2;have d:=Gw h;have e:=Gw g;have i:=Gw (N-h);have f:=Gw (N-g);have c:=Gw N;constructor
 ·intro z;have:(x*p2 (N-h))*(p2 h*p2 g)=(y*p2 (N-g))*(p2 h*p2 g):=by
   have a:(x*p2 (N-h))*(p2 h*p2 g)=(x*p2 g)*p2 N:=by rw[e1];grind
   have b:(y*p2 (N-g))*(p2 h*p2 g)=(y*p2 h)*p2 N:=by rw[e2];grind
   rw[a,b,z]
  exact Ka (RZ d e) this
 ·intro z;have:(x*p2 g)*p2 N=(y*p2 h)*p2 N:=by
   have a:(x*p2 (N-h))*(p2 h*p2 g)=(x*p2 g)*p2 N:=by rw[e1];grind
   have b:(y*p2 (N-g))*(p2 h*p2 g)=(y*p2 h)*p2 N:=by rw[e2];grind
   rw[<-a,<-b,z]
  exact Ka c this
noncomputable def va (x:A5)(M:Int):Int:=x.1.1*p2 (M-x.2)
noncomputable def vb (x:A5)(M:Int):Int:=x.1.2.1*p2 (M-x.2)
noncomputable def vc (x:A5)(M:Int):Int:=x.1.2.2.1*p2 (M-x.2)
noncomputable def vd (x:A5)(M:Int):Int:=x.1.2.2.2*p2 (M-x.2)
variable{M:Int}
theorem Zw{a a' u h':Int}(h0:0<=h)(h0':0<=h')(g0:0<=g)(l1:h+h'<=M)(l2:g<=M)(e:FZ (a*p2 h'+a'*p2 h) (h+h') u g):u*p2 (M-g)=a*p2 (M-h)+a'*p2 (M-h'):=by
 have z:=(J6 (by lia) g0 l1 l2).mp e;have e1:p2 (M-h)=p2 (M-(h+h'))*p2 h':=by rw[<-JQ (by lia) h0'];congr 1;lia
 have e2:p2 (M-h')=p2 (M-(h+h'))*p2 h:=by rw[<-JQ (by lia) h0];congr 1;lia
 rw[<-z,e1,e2];grind
theorem Z5{u v:Int}(h0:0<=h)(g0:0<=g)(l1:h<=M)(l2:g<=M+1)(e:FZ u (h+1) v g):v*p2 (M+1-g)=u*p2 (M-h):=by
 have z:=(J6 (N:=M+1) (by lia) g0 (by lia) l2).mp e;rw[<-z];congr 2;lia
variable{x y z:A5}
theorem Mix.vals{s:Int}(m:Mix s x y z)(hx:0<=x.2)(hy:0<=y.2):∃M0:Int,∀M,M0<=M ->
  va z (M+1)=(vb x M+s*vb y M)-(vd x M+s*vd y M)/\vb z (M+1)=(va x M+s*va y M)+(vc x M+s*vc y M)/\vc z (M+1)=(vb x M+s*vb y M)+(vd x M+s*vd y M)/\vd z (M+1)=(vc x M+s*vc y M)-(va x M+s*va y M):=by
 obtain⟨p,S,h,R⟩:=m.ex;have a:=S.amt.nn;have z0:=h.nn;refine⟨x.2+y.2+p.2+z.2,λM j=>?_⟩;have l1:x.2+y.2<=M:=by lia
 have l2:p.2<=M:=by lia
 have l3:z.2<=M+1:=by lia
 have b:=Zw hx hy a l1 l2 S.same.e1;have d:=Zw hx hy a l1 l2 S.same.e2;have e:=Zw hx hy a l1 l2 S.same.e3;have i:=Zw hx hy a l1 l2 S.same.e4;have f:=Z5 a z0 l2 l3 R.e1;have c:=Z5 a z0 l2 l3 R.e2;have g:=Z5 a z0 l2 l3 R.e3;have r4:=Z5 a z0 l2 l3 R.e4;unfold va vb vc vd;rw[f,c,g,r4,Int.sub_mul,Int.add_mul,Int.add_mul,Int.sub_mul,b,d,e,i];refine⟨?_,?_,?_,?_⟩<;>grind
theorem X3n(ax:G5 x.1.1 x.1.2.1 x.1.2.2.1 x.1.2.2.2 x.2)(ay:G5 y.1.1 y.1.2.1 y.1.2.2.1 y.1.2.2.2 y.2)(l1:x.2<=M)(l2:y.2<=M)(e1:va x M=va y M)(e2:vb x M=vb y M)(e3:vc x M=vc y M)(e4:vd x M=vd y M):x=y :=
 UL (ax.unique ay ⟨(J6 ax.nn ay.nn l1 l2).mpr e1,(J6 ax.nn ay.nn l1 l2).mpr e2,(J6 ax.nn ay.nn l1 l2).mpr e3,(J6 ax.nn ay.nn l1 l2).mpr e4⟩)
theorem Mix.amt{s:Int}(m:Mix s x y z):G5 z.1.1 z.1.2.1 z.1.2.2.1 z.1.2.2.2 z.2:=by
 obtain⟨p,_,a,_⟩:=m.ex;exact a
inductive Gm where
 | mv (v:Mv)
 | mix (a:Nat)
namespace Gm
noncomputable def nm:Gm->Str
 | mv v=>v.nm
 | mix _=>"mix"
noncomputable def ns:Gm->List Int
 | mv v=>v.ns
 | mix a=>[(a:Int)]
def Ok (c:Nat):Gm->Prop
 | mv v=>v.Ok c
 | mix a=>a<c
noncomputable abbrev mm (m:Gm):Mm:=(m.nm,m.ns)
end Gm
def Step (c:Nat):Gm->(Nat->A5)->(Nat->A5)->Prop
 | .mv v,f,g=>∀w,w<2^c->g w=Az (f (v.to w)) (v.sp w:Nat)
 | .mix a,f,g=>∀w,w<2^c->Cy f a w (g w)
inductive Steps (c:Nat):List Gm->(Nat->A5)->(Nat->A5)->Prop
 | nil {f:Nat->A5}:Steps c [] f f
 | cons {m:Gm}{ms:List Gm}{f g h:Nat->A5}:Step c m f g->Steps c ms g h->Steps c (m::ms) f h
theorem Steps.snoc{c:Nat}:∀{a:List Gm}{m:Gm}{f g h:Nat->A5},Steps c a f g->Step c m g h->Steps c (a++[m]) f h
 | _,_,_,_,_,.nil,s=>.cons s .nil
 | _,_,_,_,_,.cons s t,r=>.cons s (Steps.snoc t r)
abbrev G6 (c:Nat)(f:Nat->A5):Prop:=∀w,w<2^c->G5 (f w).1.1 (f w).1.2.1 (f w).1.2.2.1 (f w).1.2.2.2 (f w).2
theorem oX{v:Int×Int×Int×Int}{h:Int}(o:G5 v.1 v.2.1 v.2.2.1 v.2.2.2 h):∀k,G5 (BK k v).1 (BK k v).2.1 (BK k v).2.2.1 (BK k v).2.2.2 h
 | 0=>o
 | k+1=>by
  have:=oX o k;refine⟨this.nn,?_⟩;have o:h=0\/(BK k v).1%2=1\/(BK k v).2.1%2=1\/(BK k v).2.2.1%2=1\/(BK k v).2.2.2%2=1:=this.odd;show h=0\/(-(BK k v).2.2.2)%2=1\/(BK k v).1%2=1\/(BK k v).2.1%2=1\/(BK k v).2.2.1%2=1;lia
variable{c:Nat}{m:Gm}{f:Nat->A5}
theorem Step.ams{g:Nat->A5}(hc:c<=6)(ok:m.Ok c)(s:Step c m f g)(a:G6 c f):G6 c g:=by
 intro w b;cases m with
 | mv v =>
  have e:g w=Az (f (v.to w)) (v.sp w:Nat):=s w b;rw[e];exact oX (a _ (Mv.to_lt hc ok b)) _
 | mix a =>
  have e:Cy f a w (g w):=s w b;unfold Cy at e;split at e
  ·exact e.amt
  ·exact e.amt
theorem Gm.fits(h:m.Ok c):Fits m.nm m.ns c:=by
 cases m with
 | mv v=>exact Mv.fits h
 | mix a =>
  have e:named "mix" [(a:Int)]=[(a:Int)]:=by unfold named;rw[if_neg (by decide +kernel)]
  have h:a<c:=h;exact⟨⟨(show numAt NB "mix"=some (.int ((1:Nat):Int)) by decide +kernel),(show 1<=3 by decide),λz=>absurd (show ("mix":Str)="turn" from z) (by decide +kernel)⟩,by show ∀x∈named "mix" [(a:Int)],_;rw[e];intro b hb;rw[Fj.mp hb];lia,by show (named "mix" [(a:Int)]).Nodup;rw[e];simp⟩
variable{n:Nat}
theorem Ur{k:Int}(o:Fy n M x):Fy n M (Az x k):=qp o _
theorem Cz.bo{K:U0}{H:Hp}{l:W9}{ps:U3}{m:Nat}(b:Cz K H l ps f c n m):Bo K H l ps f c:=⟨b.lst,b.len,b.vals⟩
def yZ (K:U0):Sp:=λvs H Q _=>∃(l p:W9) (ps:U3) (f:Nat->A5) (c n M:Nat) (m:Gm),vs=[.ref l,.ref p]/\H p=some (Sx m.nm m.ns)/\m.Ok c/\Cz K H l ps f c n M/\c<=6/\n<=450000/\M<=10000 /\
 ∀(r:W9) (H':Hp) (qs:U3) (g:Nat->A5),H r=none->Same H H'->Cz K H' r qs g c (n+2*M+3) (M+1)->Step c m f g->Q (.ref r) H'
section
variable {P:U8}{w:W1}{K:U0}{mg:U4}{base:Heap}{k:Nat}{h:Heap}
theorem Y9x(F:Ab K "turned" (top 50) .none)(X:K.In h)(G:Ng h mg)(B:Bs mg)(eF:Ah P w K mg base k "check_move" ["move","cells"] vQ)(cF:Ah P w K mg base k "cells_of" ["board"] (Q5 K))(gT:Ah P w K mg base k "mixed" ["board","bit"] (w6 K))(dF:Ah P w K mg base k "spun_where" ["board","bits","k"] (xO K))
  (eD:Ah P w K mg base k "word_behind" ["word","move"] wY):Ah P w K mg base (k+1) "turned" ["board","move"] (yZ K):=by
 refine F.cal X G ["board","move"] λnd H vs Q E x h=>?_;obtain⟨l,p,ps,g,c,n,M,m,rfl,hp,ok,BD,c6,n4,m1,O⟩:=h;have p6:=Hy c6;have A:=BD.bo;have S:∀a:Nat,(1:Int)*2^((a:Int)).toNat=((2^a:Nat):Int):=λa=>ipow a
 refine⟨_,(@Aq _ _ _ _ _ (Ny (Av eF x rfl (Aa (pv 1) (Aa (Av cF x rfl (Aa (pv 0) Ae)) Ae))))
  (@Aq _ _ _ _ _ (Bx (B_ Dr (Ai Ao (pv 1) Ac (λ_ _=>rfl)) Fq (Ad _))
   (@Ak _ _ _ (BJ (Av gT x rfl (Aa (pv 0) (Aa (Af G3 Ac (Ai Ao (pv 1) Ac (λ_ _=>rfl))) Ae)))))
   CK)
  (@Aq _ _ _ _ _ (Bx (B_ Dr (Ai Ao (pv 1) Ac (λ_ _=>rfl)) Fq (Ad _))
   (@Ak _ _ _ (BJ (Av dF x rfl (Aa (pv 0) (Aa (Af G3 Ac (Ai Ao (pv 1) Ac (λ_ _=>rfl))) (Aa (Ai Ao (pv 1) Ac (λ_ _=>rfl)) Ae))))))
   CK)
  (@Aq _ _ _ _ _ (Bx (B_ Dr (Ai Ao (pv 1) Ac (λ_ _=>rfl)) Fq (Ad _))
   (@Ak _ _ _ (BJ (Av dF x rfl (Aa (pv 0) (Aa (Af Pa (Af G3 Ac (Ai Ao (pv 1) Ac (λ_ _=>rfl))) (Af G3 Ac (Ai Ao (pv 1) Ac (λ_ _=>rfl)))) (Aa Ac Ae))))))
   CK)
  (@Ak _ _ _ (BJ (Iw rfl (Bp.of (Nc:=["word","board","move"]) (mp:=[none,some 0,some 1]) (by kernel_rfl)) (Lw rfl B.range (Aa (Ck Ig rfl B.len HX (Aa (pv 0) Ae)) Ae)) (λ_ _ _ _=>(DR (i:=0) (show (["word","board","move"]:W0).Nodup by decide +kernel) rfl (Or.inl rfl))) (λ_ _ _ _=>(Ai Z0 (pv 1) (Av eD x rfl (Aa (pv 0) (Aa (pv 2) Ae))) (λ_ _=>rfl)))))))))),?_⟩
 try dsimp only[Bm]
 refine⟨_,U,_,U,l,_,c,U,Aw.of A.lst,by rw[Bg,A.len],c6,p,m.nm,m.ns,c,U,hp,Gm.fits ok,λH1 o=>?_⟩;have SP:Ag K H1 p (.str m.nm::m.ns.map V.int):=Ag.of (o _ _ hp);have L:=A.same o;have Z:=BD.same o;cases m with
 | mix a =>
  have ac:a<c:=ok;refine⟨_,U,p,_,_,.str "mix",U,U,SP,at0,U,_,U,A_ (λ_=>?_) (λz=>absurd rfl z)⟩;refine⟨_,U,_,U,p,_,_,.int a,U,U,SP,U,_,_,U,U,⟨1,HN,by lia,by lia⟩,?_⟩;exact⟨l,ps,g,c,n,M,a,congrArg (λz=>[V.ref l,V.int z]) (S a),Z,c6,ac,n4,m1,λr H2 d y t f C D=>O r H2 d y (o.free t) (o.trans f) C D⟩
 | mv v =>
 have SP:Ag K H1 p (.str v.nm::v.ns.map V.int):=SP;have ok:v.Ok c:=ok;have hp:H p=some (Sx v.nm v.ns):=hp;have W:∀(r:W9) (H':Hp) (d:U3) (y:Nat->A5),H r=none->Same H H'->Bo K H' r d y c->(∀w,w<2^c->y w=Az (g (v.to w)) (v.sp w:Nat))->Q (.ref r) H':=λr H' d y h1 h2 Y h4 =>
  O r H' d y h1 h2 ⟨Y.lst,Y.len,Y.vals,λi hi=>by rw[h4 i hi];exact(Ur (BD.ok _ (Mv.to_lt c6 ok hi))).mono (by lia) (by lia)⟩ h4
 refine⟨_,U,p,_,_,.str v.nm,U,U,SP,at0,U,_,U,A_ (λz=>absurd (V.str.inj z) (W1b v)) (λ_=>?_)⟩;refine⟨_,U,p,_,_,.str v.nm,U,U,SP,at0,U,_,U,A_ (λz=>?_) (λzt=>?_)⟩
 ·obtain⟨a,kk,rfl⟩:=W1d (V.str.inj z);have ok:a<c/\1<=kk/\kk<=7:=ok;refine⟨_,U,_,U,p,_,_,.int a,U,U,SP,U,_,_,U,U,⟨1,HN,by lia,by lia⟩,_,U,p,_,_,.int kk,U,U,SP,U,?_⟩;refine⟨l,ps,g,c,2^a,kk,(by show [V.ref l,V.int (1*2^((a:Int)).toNat),V.int (kk:Int)]=_;rw[S]),L,c6,λr H2 d y t f C D=>W r H2 d y (o.free t) (o.trans f) C λw I=>?_⟩;rw[D w I];show _=Az (g w) ((if w&&&2^a=2^a then kk else 0:Nat):Int);split
  ·rfl
  ·rfl
 refine⟨_,U,p,_,_,.str v.nm,U,U,SP,at0,U,_,U,A_ (λz=>?_) (λzp=>?_)⟩
 ·obtain⟨a,b,rfl⟩:=W1e (V.str.inj z);have ok:a<c/\b<c/\a≠b:=ok;refine⟨_,U,_,U,p,_,_,.int a,U,U,SP,U,_,_,U,U,⟨1,HN,by lia,by lia⟩,_,U,p,_,_,.int b,U,U,SP,U,_,_,U,U,⟨1,HN,by lia,by lia⟩,_,_,U,U,?_⟩;refine⟨l,ps,g,c,2^a ||| 2^b,4,(by show [V.ref l,V.int (Builtin.bitOr (1*2^((a:Int)).toNat) (1*2^((b:Int)).toNat)),V.int 4]=_;rw[S,S,Ky]),L,c6,λr H2 d y t f C D=>W r H2 d y (o.free t) (o.trans f) C λw I=>?_⟩;rw[D w I];show _=Az (g w) ((if w&&&(2^a ||| 2^b)=(2^a ||| 2^b) then 4 else 0:Nat):Int);split
  ·rfl
  ·rfl
 have nt:v.nm≠"turn":=λe=>zt (by rw[e]);have np:v.nm≠"pair":=λe=>zp (by rw[e]);have J:(((ps.map V.ref).length:Nat):Int).toNat=2^c:=by rw[Bg,A.len,G8]
 have SL:Aw K H1 l (ps.map V.ref):=Aw.of L.lst;refine⟨_,U,l,_,U,.inl SL,_,U,by rw[Bg,A.len];lia,by rw[Bg,A.len];lia,λacc s=>?_⟩;rw[J];refine R6 (n:=2^c) (fr:=[some (.ref l),some (.ref p)]) (λi ys H'=>∃(d:U3) (y:Nat->A5),Same H1 H'/\H' acc=some (.lst ys)/\ys=d.map V.ref/\d.length=i/\Bk K H' d y/\∀j,j<i->y j=g (v.to j)) (JB p6)
  ⟨[],λ_=>((0,0,0,0),0),BR s _,Ax,U,U,(λ_ _ z=>by cases z),λj hj=>absurd hj (Js _)⟩ ?_ ?_
 ·rintro i ys H2 N hi hy ⟨d,y,f,R,rfl,T,v2,u⟩ kN;refine⟨_,U,_,U,_,U,i,p,v,c,(by show [V.int (0+(i:Int)),V.ref p]=_;rw[LQ]),f _ _ (o _ _ hp),ok,c6,nt,np,λH3 S3=>?_⟩;obtain⟨q,_,hq,aq⟩:=((L.same f).same S3).at (Mv.to_lt c6 ok hi);refine⟨l,_,_,_,U,U,Aw.of (S3 _ _ (f _ _ L.lst)),aq,?_⟩;refine kN (.ref q) H3 (S3 _ _ R) ⟨d++[q],λj=>if j=d.length then g (v.to i) else y j,Fw (f.trans S3) s,Ax,by rw[DW];rfl,by simp[T],PJ (xs:=d.map V.ref) (PL v2 S3 hq) (S3 _ _ R),λj hj=>?_⟩;show (if j=d.length then g (v.to i) else y j)=_;by_cases e:j=d.length
  ·rw[if_pos e,e,T]
  ·rw[if_neg e];exact u j (by lia)
 ·rintro ys H2 hy ⟨d,y,f,R,rfl,T,v2,u⟩;refine W acc H2 d y (o.free s) (o.trans f) ⟨R,T,v2⟩ λw I=>?_;rw[u w I,X9l nt np w];rfl
def VL (H:Hp)(ps:U3)(ms:List Gm):Prop:=GK H ps (ms.map Gm.mm)
theorem VL.length{H:Hp}{ps:U3}{ms:List Gm}(h:VL H ps ms):ps.length=ms.length:=by
 have:=Paired.length h;rw[Bg]at this;exact this
theorem VL.get{H:Hp}:∀{ps:U3}{ms:List Gm}{i:Nat}{p:W9},VL H ps ms->ps[i]?=some p->∃m,ms[i]?=some m/\H p=some (Sx m.nm m.ns)
 | p'::ps,m::ms,0,p,.cons a r,h=>by
  have:p'=p:=by simpa using h
  subst this;exact⟨m,U,a⟩
 | p'::ps,m::ms,i+1,p,.cons a r,h=>by
  obtain⟨m',b,c⟩:=VL.get (ps:=ps) (ms:=ms) (i:=i) (p:=p) r (by simpa using h);exact⟨m',b,c⟩
structure Rw (H:Hp) (l:W9) (ps:U3) (ms:List Gm) (c:Nat):Prop where
 lst:H l=some (.lst (ps.map V.ref))
 mvs:VL H ps ms
 ok:∀m∈ms,m.Ok c
 len:ms.length<=200
def Ht (K:U0):Sp:=λvs H Q _=>∃(l lr:W9) (ps rp:U3) (f:Nat->A5) (c n M:Nat) (ms:List Gm),vs=[.ref l,.ref lr]/\Rw H lr rp ms c/\Cz K H l ps f c n M/\c<=6/\M<=300/\n<=210000 /\
 ∀(r:W9) (H':Hp) (qs:U3) (g:Nat->A5),H r=none->Same H H'->Cz K H' r qs g c (n+1010*ms.length) (M+ms.length)->Steps c ms f g->Q (.ref r) H'
theorem W4e(F:Ab K "run" (top 102) .none)(X:K.In h)(G:Ng h mg)(B:Bs mg)(gQ:Ah P w K mg base k "turned" ["board","move"] (yZ K)):Ah P w K mg base (k+1) "run" ["board","row"] (Ht K):=by
 refine F.cal X G ["board","row","behind","move"] λL H vs Q E J h=>?_;obtain⟨l,v,ps,T,g,c,n,M,ms,rfl,q,A,c6,M3,n2,kq⟩:=h;have S:=q.len;have D:=q.mvs.length;have O:Aw K H v (T.map V.ref):=Aw.of q.lst
 refine⟨_,(@Aq _ _ _ _ _ (@Bb _ _ 2 _ _ _ _ L rfl (Or.inl rfl) (aB u5 rfl B.list Y_ (Aa (pv 0) Ae)) rfl (.inl rfl))
  (@Aq _ _ _ _ _ (J7 PassesOwn.never rfl (G_ (pv 1)) (DR (i:=3) L rfl (Or.inl rfl))
   (@Ak _ _ _ (@Bb _ _ 2 _ _ _ _ L rfl (Or.inl rfl) (Av gQ J rfl (Aa (pv 2) (Aa (pv 3) Ae))) rfl (.inl rfl))))
  (@Ak _ _ _ (BJ (pv 2))))),?_⟩
 try dsimp only[Bm]
 refine⟨_,U,l,_,U,.inl (Aw.of A.lst),λY s=>?_⟩;have I:=BR s (.lst (ps.map V.ref))
 refine⟨_,U,v,U,⟨_,I.seq O⟩,O8 (K:=K) (a:=v) (xs:=T.map V.ref) (λi σ H'=>Same H H'/\∃(b:W9) (f:U3) (y:Nat->A5) (N:Option V),H b=none/\Cz K H' b f y c (n+1010*i) (M+i)/\Steps c (ms.take i) g y/\σ=[some (.ref l),some (.ref v),some (.ref b),N])
  ⟨I,Y,ps,g,none,s,⟨Ax,A.len,A.vals.same I,A.ok⟩,by rw[WR];exact .nil,U⟩ (λi σ H' _ e=>e.1.seq O) ?_ ?_⟩
 ·rintro i x σ H1 C ⟨o,b,f,y,N,hb,u,d,rfl⟩;have W:i<ms.length:=by
   have:=(Et.mp C).1;rw[Bg]at this;lia
  rw[Cj]at C;obtain⟨p,hp,rfl⟩:=Es.mp C;obtain⟨m,R,p0⟩:=q.mvs.get hp;refine⟨_,U,_,U,b,p,f,y,c,_,_,m,U,o _ _ p0,q.ok m (GQ R),u,c6,by lia,by lia,λr H2 rs z J Z t st=>?_⟩;refine⟨o.trans Z,r,rs,z,_,o.free J,⟨t.lst,t.len,t.vals,λj hj=>(t.ok j hj).mono (by lia) (by lia)⟩,?_,U⟩;rw[Jt,R];exact d.snoc st
 ·rintro σ H1 ⟨o,b,f,y,N,hb,u,d,rfl⟩;rw[Bg,D]at u d;rw[Ld]at d;exact⟨_,U,kq b H1 f y hb o u d⟩
def Gh:Sp:=λvs H Q _=>∃x c:Nat,vs=[.int x,.int c]/\c<=6/\x<2^c/\Q (.bl true) H
noncomputable def st (x w:Nat):A5:=if w=x then ((1,0,0,0),0) else ((0,0,0,0),0)
theorem W6w(x w:Nat):Fy 100 40 (st x w):=by
 unfold st;split
 ·exact⟨⟨s_1,s_0,s_0,s_0⟩,⟨Ku 0,.inl rfl⟩,Qk⟩
 ·exact⟨⟨s_0,s_0,s_0,s_0⟩,⟨Ku 0,.inl rfl⟩,Qk⟩
def pL (K:U0):Sp:=λvs H Q _=>∃c x:Nat,vs=[.int c,.int x]/\1<=c/\c<=6/\x<2^c/\∀(r:W9) (H':Hp) (qs:U3),H r=none->Same H H'->Cz K H' r qs (st x) c 100 40->Q (.ref r) H'
def vN:Sp:=λvs H Q _=>∃c x:Nat,vs=[.int c,.int x]/\1<=c/\c<=6/\x<2^c/\Q .non H
theorem X5j{tM:Tok}(gM:mg "MOST_CELLS"=some (.int 6 tM))(F:Ab K "check_beginning" (top 40) .none)(X:K.In h)(G:Ng h mg)(c7:Ah P w K mg base k "is_whole" ["thing"] M9)(cW:Ah P w K mg base k "is_word" ["thing","cells"] Gh):Ah P w K mg base (k+1) "check_beginning" ["cells","word"] vN:=by
 refine F.cal X G ["cells","word"] λe H vs Q E a h=>?_;obtain⟨c,x,rfl,c1,c6,d,b⟩:=h
 refine⟨_,(@Aq _ _ _ _ _ (Bx (PW.pt (IW (FQ (Du (Av c7 a rfl (Aa (pv 0) Ae)))) (IW (B_ Nt (pv 0) Ac (Ad _)) (Kh (B_ VD (pv 0) (Hj (v:=.int 6) rfl gM ⟨tM,U⟩) (Ad _))))))
   (@Ak _ _ _ Jj)
   CK)
  (@Ak _ _ _ (Bx (FQ (Du (Av cW a rfl (Aa (pv 1) (Aa (pv 0) Ae)))))
   (@Ak _ _ _ Jj)
   CK))),?_⟩
 try dsimp only[Bm]
 refine⟨_,U,_,U,_,U,Bj ⟨_,U,_,_,U,U,_,U,A_ (λz=>absurd z (by lia)) (λ_=>⟨_,U,_,_,U,U,_,U,A_ (λz=>absurd z (by lia)) (λ_=>?_)⟩)⟩⟩;exact⟨_,U,_,U,x,c,U,c6,d,_,U,Bj b⟩
theorem Y4u{D:W9}{oc:W2}{od:W5}{sl:W4}{t0:Tok}(l:K.lookup D=some ⟨oc,od,.seq #[.int 0 t0] n,sl⟩):K8 K "start" (top 39) (.ref D) ["cells","word"]:=by
 intro kV e f g d ct s us X c;match us,c with
 | [a,b],_=>exact BindsTo.of_defaults rfl (X _ _ l) rfl rfl rfl
theorem X4s{dV:W2}(F:Ab K "start" (top 39) dV)(bi:K8 K "start" (top 39) dV ["cells","word"])(X:K.In h)(G:Ng h mg)(B:Bs mg){aO aZ:W9}(gO:mg "ONE"=some (.ref aO))(gZ:mg "NOUGHT"=some (.ref aZ))(kO:∀H,Cw K H aO ((1,0,0,0),0))(kZ:∀H,Cw K H aZ ((0,0,0,0),0))
  (dG:Ah P w K mg base k "check_beginning" ["cells","word"] vN):Ah P w K mg base (k+1) "start" ["cells","word"] (pL K):=by
 refine F.cal X G ["cells","word"] (bi:=bi) λI H vs Q E m h=>?_;obtain⟨c,x,rfl,c1,c6,s,A⟩:=h;have D:=Hy c6;have o:(1:Int)*2^((c:Int).toNat)=((2^c:Nat):Int):=ipow c;have u:(1*2^((c:Int).toNat):Int).toNat=2^c:=by rw[o,G8]
 refine⟨_,(@Aq _ _ _ _ _ (Ny (Av dG m rfl (Aa (pv 0) (Aa (pv 1) Ae))))
  (@Ak _ _ _ (BJ (Iw rfl (Bp.of (Nc:=["place","word"]) (mp:=[none,some 1]) (by kernel_rfl)) (Lw rfl B.range (Aa (Af G3 Ac (pv 0)) Ae)) (λ_ _ _ _=>(DR (i:=0) (show (["place","word"]:W0).Nodup by decide +kernel) rfl (Or.inl rfl))) (λ_ _ _ _=>(Kl (B_ Dr (pv 0) (pv 1) (Ad _)) (Hj (v:=.ref aO) rfl gO rfl) (Hj (v:=.ref aZ) rfl gZ rfl))))))),?_⟩
 try dsimp only[Bm]
 refine⟨_,U,_,U,c,x,U,c1,c6,s,?_⟩;refine⟨_,U,_,_,U,U,⟨1,HN,by lia,by lia⟩,_,U,by rw[o];lia,by rw[o];lia,λacc b=>?_⟩;rw[u];refine R6 (n:=2^c) (fr:=[some (.int x)]) (λi ys H'=>∃a:List Addr,Same H H'/\H' acc=some (.lst ys)/\ys=a.map V.ref/\a.length=i/\Bk K H' a (st x)) (JB D)
  ⟨[],BR b _,Ax,U,U,(λ_ _ z=>by cases z)⟩ ?_ ?_
 ·rintro i ys H2 N hi C ⟨a,l,g,rfl,f,v2⟩ t;have d:∀(r:W9),Cw K H2 r (st x i)->N (.ref r) H2:=λr m=>by
   refine t (.ref r) H2 g ⟨a++[r],Fw l b,Ax,by rw[DW];rfl,by simp[f],?_⟩;have:=PJ (ys:=a.map V.ref++[.ref r]) (xs:=a.map V.ref) (PL v2 (Same.refl _) m) g;intro j p y;have q:=this j p y;have e:(if j=a.length then st x i else st x j)=st x j:=by
    by_cases e:j=a.length
    ·rw[if_pos e,e,f]
    ·rw[if_neg e]
   rw[<-e];exact q
  refine⟨_,U,_,U,U,_,U,K4 (λe=>d aO ?_) (λe=>d aZ ?_)⟩
  ·have:st x i=((1,0,0,0),0):=by unfold st;rw[if_pos (by lia)]
   rw[this];exact kO _
  ·have:st x i=((0,0,0,0),0):=by unfold st;rw[if_neg (by lia)]
   rw[this];exact kZ _
 ·rintro ys H2 C ⟨a,l,g,rfl,f,v2⟩;exact A acc H2 a b l ⟨g,f,v2,λi _=>W6w x i⟩
end
end Aj
namespace Ew
inductive Mv where
 | flip (a:Int)
 | mix (a:Int)
 | turn (a k:Int)
 | iff (a b:Int)
 | pair (a b:Int)
 | swap (a b:Int)
 | cross (a b d:Int)
deriving DecidableEq
namespace Mv
noncomputable def cells:Mv->List Int
 | flip a=>[a]
 | mix a=>[a]
 | turn a _=>[a]
 | iff a b=>[a,b]
 | pair a b=>[a,b]
 | swap a b=>[a,b]
 | cross a b d=>[a,b,d]
end Mv
open Mv
end Ew
set_option maxHeartbeats 1000000
namespace Dc
open Ew Ew.Mv
abbrev V4:=Int×Int×Int×Int
noncomputable def add (x y:V4):V4:=(x.1+y.1,x.2.1+y.2.1,x.2.2.1+y.2.2.1,x.2.2.2+y.2.2.2)
noncomputable def sm (n:Int)(x:V4):V4:=(n*x.1,n*x.2.1,n*x.2.2.1,n*x.2.2.2)
noncomputable def E (x:V4):V4:=(-x.2.2.2,x.1,x.2.1,x.2.2.1)
noncomputable def En:Nat->V4->V4
 | 0,x=>x
 | n+1,x=>E (En n x)
noncomputable def root (x:V4):V4:=(x.2.1-x.2.2.2,x.1+x.2.2.1,x.2.1+x.2.2.2,x.2.2.1-x.1)
theorem ext{x y:V4}(h1:x.1=y.1)(h2:x.2.1=y.2.1)(h3:x.2.2.1=y.2.2.1)(h4:x.2.2.2=y.2.2.2):x=y:=by
 obtain⟨a,b,c,d⟩:=x;obtain⟨a',b',c',d'⟩:=y;simp only at h1 h2 h3 h4;rw[h1,h2,h3,h4]
theorem W8r(x y:V4):E (add x y)=add (E x) (E y):=by apply ext<;>simp only[E,add]<;>lia
theorem rQ(n:Int)(x:V4):E (sm n x)=sm n (E x):=by apply ext<;>simp only[E,sm]<;>grind
theorem W6q(x:V4):E (root x)=root (E x):=by apply ext<;>simp only[E,root]<;>lia
theorem Pb(m n:Int)(x:V4):sm m (sm n x)=sm (m*n) x:=by apply ext<;>simp only[sm]<;>grind
theorem Ry(x:V4):sm 1 x=x:=by apply ext<;>simp only[sm]<;>lia
theorem add_comm(x y:V4):add x y=add y x:=by apply ext<;>simp only[add]<;>lia
theorem W6p(n:Nat)(x y:V4):En n (add x y)=add (En n x) (En n y):=by
 induction n with
 | zero=>rfl
 | succ n ih=>simp only[En,ih,W8r]
theorem W6o(n:Nat)(k:Int)(x:V4):En n (sm k x)=sm k (En n x):=by
 induction n with
 | zero=>rfl
 | succ n ih=>simp only[En,ih,rQ]
theorem W2n(n:Nat)(x:V4):En n (root x)=root (En n x):=by
 induction n with
 | zero=>rfl
 | succ n ih=>simp only[En,ih,W6q]
theorem bY(m n:Nat)(x:V4):En m (En n x)=En (m+n) x:=by
 induction m with
 | zero=>rw[Jr];rfl
 | succ m ih=>rw[Nat.succ_add];simp only[En,ih]
theorem En4(x:V4):En 4 x=sm (-1) x:=by apply ext<;>simp only[En,E,sm]<;>lia
theorem En8(x:V4):En 8 x=x:=by apply ext<;>simp only[En,E]<;>lia
theorem yg(n:Nat)(x:V4):En n x=En (n%8) x:=by
 have:∀q r,En (8*q+r) x=En r x:=by
  intro q r;induction q with
  | zero=>rw[ZQ,Jr]
  | succ q ih=>rw[show 8*(q+1)+r=8+(8*q+r) by lia,<-bY 8,En8,ih]
 conv=>lhs;rw[<-Nat.div_add_mod n 8]
 exact this _ _
noncomputable def fl (w a:Nat):Nat:=w^^^2^a
noncomputable def sw (w a b:Nat):Nat:=if w.testBit a=w.testBit b then w else fl (fl w a) b
theorem aX(w a j:Nat):(fl w a).testBit j=(w.testBit j ^^ decide (a=j)):=by
 unfold fl;rw[GP,QX]
theorem Sg(w a:Nat):fl (fl w a) a=w:=by
 unfold fl;rw[E_,HW,Nh]
theorem Kf(w a b j:Nat)(h:a≠b):(sw w a b).testBit j=if j=a then w.testBit b else if j=b then w.testBit a else w.testBit j:=by
 unfold sw;by_cases e:w.testBit a=w.testBit b
 ·rw[if_pos e];split
  ·rename_i z;rw[z,e]
  ·split
   ·rename_i z;rw[z,e]
   ·rfl
 ·rw[if_neg e,aX,aX];by_cases ja:j=a
  ·rw[if_pos ja,ja,Gb rfl,FJ (λz=>h z.symm)];revert e;cases w.testBit a<;>cases w.testBit b<;>simp
  ·rw[if_neg ja];by_cases jb:j=b
   ·rw[if_pos jb,jb,Gb (rfl:b=b),FJ h];revert e;cases w.testBit a<;>cases w.testBit b<;>simp
   ·rw[if_neg jb,FJ (λz=>ja z.symm),FJ (λz=>jb z.symm)];simp
theorem nA{w v:Nat}(h:∀j,w.testBit j=v.testBit j):w=v:=Rj h
noncomputable def to:Mv->Nat->Nat
 | .flip a,w=>fl w a.toNat
 | iff a b,w=>if w.testBit a.toNat then fl w b.toNat else w
 | swap a b,w=>sw w a.toNat b.toNat
 | cross a b d,w=>if w.testBit a.toNat then sw w b.toNat d.toNat else w
 | _,w=>w
noncomputable def sp:Mv->Nat->Nat
 | turn a k,w=>if w.testBit a.toNat then k.toNat else 0
 | pair a b,w=>if w.testBit a.toNat && w.testBit b.toNat then 4 else 0
 | _,_=>0
noncomputable def sg (w a:Nat):Int:=if w.testBit a then -1 else 1
abbrev Bv:=Nat->V4
noncomputable def op:Mv->Bv->Bv
 | mix a,F=>λw=>root (add (sm (sg w a.toNat) (F w)) (F (fl w a.toNat)))
 | m,F=>λw=>sm 2 (En (sp m w) (F (to m w)))
def Ok:Mv->Prop
 | .flip a=>0<=a
 | mix a=>0<=a
 | turn a k=>0<=a/\1<=k/\k<=7
 | iff a b=>0<=a/\0<=b/\a≠b
 | pair a b=>0<=a/\0<=b/\a≠b
 | swap a b=>0<=a/\0<=b/\a≠b
 | cross a b d=>0<=a/\0<=b/\0<=d/\a≠b/\a≠d/\b≠d
noncomputable def Qj:Mv->Bool
 | mix _=>true
 | _=>false
theorem vD{m:Mv}(h:Qj m=false)(F:Bv)(w:Nat):op m F w=sm 2 (En (sp m w) (F (to m w))):=by
 cases m<;>first | rfl | cases h
theorem Ok.nn{m:Mv}(ok:Ok m):∀c∈m.cells,0<=c:=by
 cases m<;>simp only[Ok,cells]at*<;> simp<;>lia
end Dc
namespace FW
open Ew Ew.Mv Dc Pc
noncomputable def bn (b:Bool):Nat:=if b then 1 else 0
noncomputable def bp (x:Nat):Bool:=decide (pc x%2=1)
theorem qZ(x y:Nat):bp (x^^^y)=(bp x ^^ bp y):=by
 unfold bp;have:=Jw x y;have c:pc (x^^^y)%2=(pc x%2+pc y%2)%2:=by lia
 rw[c];rcases Jv (pc x) with a | a<;>rcases Jv (pc y) with b | b<;>rw[a,b]<;>rfl
theorem zX(a:Nat):pc (2^a)=1:=by
 induction a with
 | zero=>decide +kernel
 | succ n ih =>
  have b:(2:Nat)^(n+1)≠0:=LR (Cu _);unfold pc;rw[dif_neg b,QL,Nat.mul_mod_left,Nat.mul_div_cancel _ (by decide),ih]
theorem W2g:bp 0=false:=by decide +kernel
theorem W6k(s a:Nat):bp (2^a&&&s)=s.testBit a:=by
 have e:(2^a&&&s)=if s.testBit a then 2^a else 0:=by
  apply Rj;intro j;rw[Ni,QX];by_cases h:a=j
  ·subst h;cases hb:s.testBit a<;>simp
  ·cases hb:s.testBit a<;>simp[h,QX]
 rw[e];cases s.testBit a
 ·exact W2g
 ·show bp (2^a)=true;unfold bp;rw[zX];rfl
theorem Ua(x s a:Nat):bp (fl x a&&&s)=(bp (x&&&s) ^^ s.testBit a):=by
 unfold fl;rw[Rk,qZ,W6k]
theorem Uh(x s a:Nat):bp (x&&&fl s a)=(bp (x&&&s) ^^ x.testBit a):=by
 rw[Il,Ua,Il s]
theorem W8o(x a b:Nat):bp (sw x a b)=bp x:=by
 unfold sw;split
 ·rfl
 ·unfold fl;rw[qZ,qZ];have h:∀j,bp (2^j)=true:=λj=>by unfold bp;rw[zX];rfl
  rw[h,h];cases bp x<;>rfl
abbrev Mk:=Nat×Nat×Nat
noncomputable def lay (m:Mk)(F:Bv):Bv:=λw=>En (2*m.1+4*bn (bp ((w^^^m.2.1)&&&m.2.2))) (F (w^^^m.2.1))
noncomputable def CJ:Mv->Mk->Mk
 | .flip a,(k,f,s)=>(if s.testBit a.toNat then (k+2)%4 else k,f,s)
 | mix a,(k,f,s)=>(if f.testBit a.toNat && s.testBit a.toNat then (k+2)%4 else k,if f.testBit a.toNat=s.testBit a.toNat then f else fl f a.toNat,if f.testBit a.toNat=s.testBit a.toNat then s else fl s a.toNat)
 | turn a j,(k,f,s)=>if f.testBit a.toNat then ((k+j.toNat / 2)%4,f,if j.toNat%4=2 then fl s a.toNat else s) else (k,f,s)
 | iff a b,(k,f,s)=>(k,if f.testBit a.toNat then fl f b.toNat else f,if s.testBit b.toNat then fl s a.toNat else s)
 | pair a b,(k,f,s)=>(if f.testBit a.toNat && f.testBit b.toNat then (k+2)%4 else k,f,(if f.testBit b.toNat then fl (if f.testBit a.toNat then fl s b.toNat else s) a.toNat else if f.testBit a.toNat then fl s b.toNat else s))
 | swap a b,(k,f,s)=>(k,sw f a.toNat b.toNat,sw s a.toNat b.toNat)
 | _,m=>m
def Br:Mv->Prop
 | cross _ _ _=>False
 | turn _ j=>j.toNat%2=0
 | _=>True
theorem qt{m n:Nat}(h:m%8=n%8)(x:V4):En m x=En n x:=by rw[yg m,yg n,h]
theorem Uq{m:Mv}(hm:Qj m=false){F:Bv}{w:Nat}{p q:Mk}(h1:to m w^^^p.2.1=to m (w^^^q.2.1))
  (h2:(sp m w+(2*p.1+4*bn (bp ((to m w^^^p.2.1)&&&p.2.2))))%8=(2*q.1+4*bn (bp ((w^^^q.2.1)&&&q.2.2))+sp m (w^^^q.2.1))%8):op m (lay p F) w=lay q (op m F) w:=by
 unfold lay;rw[vD hm,vD hm,W6o,bY,bY,h1];congr 1;rw[<-h1];exact qt h2 _
theorem Yi(w f a:Nat):fl w a^^^f=fl (w^^^f) a:=by
 unfold fl;rw[E_,KY (2^a),<-E_]
theorem bL(w f a:Nat):w^^^fl f a=fl (w^^^f) a:=by
 unfold fl;rw[E_]
variable{a:Int}
theorem X3w(F:Bv)(w:Nat)(p:Mk):op (.flip a) (lay p F) w=lay (CJ (.flip a) p) (op (.flip a) F) w:=by
 obtain⟨k,f,s⟩:=p;refine Uq rfl (Yi _ _ _) ?_;show (0+(2*k+4*bn (bp ((fl w a.toNat^^^f)&&&s))))%8=(2*(if s.testBit a.toNat then (k+2)%4 else k)+4*bn (bp ((w^^^f)&&&s))+0)%8;rw[Yi,Ua];cases s.testBit a.toNat<;>cases bp ((w^^^f)&&&s)<;>simp[bn]<;>lia
theorem X3t{j:Int}(he:j.toNat%2=0)(hj:j.toNat<=7)(F:Bv)(w:Nat)(p:Mk):op (turn a j) (lay p F) w=lay (CJ (turn a j) p) (op (turn a j) F) w:=by
 obtain⟨k,f,s⟩:=p;generalize hJ:j.toNat=J at he hj;by_cases hf:f.testBit a.toNat=true
 ·have e:CJ (turn a j) (k,f,s)=((k+J / 2)%4,f,if J%4=2 then fl s a.toNat else s):=by
   show (if _ then _ else _)=_;rw[if_pos hf,hJ]
  rw[e];refine Uq rfl rfl ?_;show ((if w.testBit a.toNat then j.toNat else 0)+(2*k+4*bn (bp ((w^^^f)&&&s))))%8=(2*((k+J / 2)%4)+4*bn (bp ((w^^^f)&&&if J%4=2 then fl s a.toNat else s))+(if (w^^^f).testBit a.toNat then j.toNat else 0))%8;have b:(w^^^f).testBit a.toNat=!w.testBit a.toNat:=by rw[GP,hf];cases w.testBit a.toNat<;>rfl
  rw[b,hJ];have:J=0\/J=2\/J=4\/J=6:=by lia
  rcases this with rfl | rfl | rfl | rfl
  ·rw[if_neg (show ¬ (0:Nat)%4=2 by decide)];generalize bn (bp ((w^^^f)&&&s))=Z;cases w.testBit a.toNat<;>simp<;>lia
  ·rw[if_pos (show (2:Nat)%4=2 by decide),Uh,b];cases w.testBit a.toNat<;>cases bp ((w^^^f)&&&s)<;>simp[bn]<;>lia
  ·rw[if_neg (show ¬ (4:Nat)%4=2 by decide)];generalize bn (bp ((w^^^f)&&&s))=Z;cases w.testBit a.toNat<;>simp<;>lia
  ·rw[if_pos (show (6:Nat)%4=2 by decide),Uh,b];cases w.testBit a.toNat<;>cases bp ((w^^^f)&&&s)<;>simp[bn]<;>lia
 ·have e:CJ (turn a j) (k,f,s)=(k,f,s):=by
   show (if _ then _ else _)=_;rw[if_neg hf]
  rw[e];refine Uq rfl rfl ?_;show ((if w.testBit a.toNat then j.toNat else 0)+_)%8=(_+(if (w^^^f).testBit a.toNat then j.toNat else 0))%8;have b:(w^^^f).testBit a.toNat=w.testBit a.toNat:=by
   rw[GP,(by simpa using hf:f.testBit a.toNat=false)];cases w.testBit a.toNat<;>rfl
  rw[b,TY];rfl
theorem YT{w a b:Nat}(h:a≠b):(fl w b).testBit a=w.testBit a:=by
 rw[aX,FJ (λz:b=a=>h z.symm)];cases w.testBit a<;>rfl
theorem nC(w a:Nat):(fl w a).testBit a=!w.testBit a:=by
 rw[aX];simp
variable{b:Int}
theorem X9g(ne:a.toNat≠b.toNat)(F:Bv)(w:Nat)(p:Mk):op (iff a b) (lay p F) w=lay (CJ (iff a b) p) (op (iff a b) F) w:=by
 obtain⟨k,f,s⟩:=p;generalize hA:a.toNat=A at ne;generalize hB:b.toNat=B at ne;have t:∀v,to (iff a b) v=if v.testBit A then fl v B else v:=λv=>by show (if _ then _ else _)=_;rw[hA,hB]
 have e:CJ (iff a b) (k,f,s)=(k,if f.testBit A then fl f B else f,if s.testBit B then fl s A else s):=by
  show (_,(if _ then _ else _),(if _ then _ else _))=_;rw[hA,hB]
 rw[e];have h1:to (iff a b) w^^^f=to (iff a b) (w^^^if f.testBit A then fl f B else f):=by
  rw[t,t];cases hf:f.testBit A<;>cases hw:w.testBit A<;>simp[hf,hw,GP,bL,Yi,YT ne,Sg]
 refine Uq rfl h1 ?_;show (0+(2*k+4*bn (bp ((to (iff a b) w^^^f)&&&s))))%8=(2*k+4*bn (bp ((w^^^if f.testBit A then fl f B else f)&&&if s.testBit B then fl s A else s))+0)%8;rw[Jr,Kv];congr 3;congr 1;rw[t];cases hf:f.testBit A<;>cases hw:w.testBit A<;>cases hs:s.testBit B<;>simp[bL,Yi,Ua,Uh,GP,hf,hw,hs,YT ne,YT (Ne.symm ne)]
theorem X3v(ne:a.toNat≠b.toNat)(F:Bv)(w:Nat)(p:Mk):op (pair a b) (lay p F) w=lay (CJ (pair a b) p) (op (pair a b) F) w:=by
 obtain⟨k,f,s⟩:=p;refine Uq rfl rfl ?_;show ((if w.testBit a.toNat && w.testBit b.toNat then 4 else 0)+(2*k+4*bn (bp ((w^^^f)&&&s))))%8=(2*(if f.testBit a.toNat && f.testBit b.toNat then (k+2)%4 else k)+4*bn (bp ((w^^^f)&&&(if f.testBit b.toNat then fl (if f.testBit a.toNat then fl s b.toNat else s) a.toNat else if f.testBit a.toNat then fl s b.toNat else s)))+(if (w^^^f).testBit a.toNat && (w^^^f).testBit b.toNat then 4 else 0))%8;rw[GP,GP];generalize a.toNat=A at *;generalize b.toNat=B at *;cases hfa:f.testBit A<;>cases hfb:f.testBit B<;>cases hwa:w.testBit A<;>cases hwb:w.testBit B<;>simp[Uh,GP,hfa,hfb,hwa,hwb]<;>cases bp ((w^^^f)&&&s)<;>simp[bn]<;>lia
theorem X3u(ne:a.toNat≠b.toNat)(F:Bv)(w:Nat)(p:Mk):op (swap a b) (lay p F) w=lay (CJ (swap a b) p) (op (swap a b) F) w:=by
 obtain⟨k,f,s⟩:=p;have h1:sw w a.toNat b.toNat^^^f=sw (w^^^sw f a.toNat b.toNat) a.toNat b.toNat:=by
  apply nA;intro j;rw[GP,Kf _ _ _ _ ne,Kf _ _ _ _ ne,GP,GP,GP,Kf _ _ _ _ ne,Kf _ _ _ _ ne,Kf _ _ _ _ ne];by_cases ja:j=a.toNat
  ·subst ja;simp[Ne.symm ne]
  ·by_cases jb:j=b.toNat
   ·subst jb;simp[Ne.symm ne]
   ·simp[ja,jb]
 refine Uq rfl h1 ?_;show (0+(2*k+4*bn (bp ((sw w a.toNat b.toNat^^^f)&&&s))))%8=(2*k+4*bn (bp ((w^^^sw f a.toNat b.toNat)&&&sw s a.toNat b.toNat))+0)%8;have e:((sw w a.toNat b.toNat^^^f)&&&s)=sw ((w^^^sw f a.toNat b.toNat)&&&sw s a.toNat b.toNat) a.toNat b.toNat:=by
  rw[h1];apply nA;intro j;rw[Ni,Kf _ _ _ _ ne,Kf _ _ _ _ ne,Ni,Ni,Ni,Kf s _ _ _ ne,Kf s _ _ _ ne,Kf s _ _ _ ne];by_cases ja:j=a.toNat
  ·subst ja;simp[Ne.symm ne]
  ·by_cases jb:j=b.toNat
   ·subst jb;simp[Ne.symm ne]
   ·simp[ja,jb]
 rw[e,W8o,Jr,Kv]
noncomputable def Nf (b:Bool):Int:=if b then -1 else 1
theorem Yq(n:Nat)(b:Bool)(x:V4):En (n+4*bn b) x=sm (Nf b) (En n x):=by
 cases b
 ·show En (n+0) x=sm 1 (En n x);rw[Ry,Kv]
 ·show En (n+4) x=sm (-1) (En n x);rw[TY,<-bY,En4]
theorem W3o(w a:Nat):sg w a=Nf (w.testBit a):=by
 unfold sg Nf;cases w.testBit a<;>rfl
theorem pF(a b:Bool):Nf a*Nf b=Nf (a ^^ b):=by cases a<;>cases b<;>rfl
theorem X9f(F:Bv)(w:Nat)(p:Mk):op (mix a) (lay p F) w=lay (CJ (mix a) p) (op (mix a) F) w:=by
 obtain⟨k,f,s⟩:=p;generalize hA:a.toNat=A;have b:∀G:Bv,∀v,op (mix a) G v=root (add (sm (Nf (v.testBit A)) (G v)) (G (fl v A))):=λG v=>by
  show root (add (sm (sg v a.toNat) (G v)) (G (fl v a.toNat)))=_;rw[hA,W3o]
 have e:CJ (mix a) (k,f,s)=(if f.testBit A && s.testBit A then (k+2)%4 else k,if f.testBit A=s.testBit A then f else fl f A,if f.testBit A=s.testBit A then s else fl s A):=by
  show ((if _ then _ else _),(if _ then _ else _),(if _ then _ else _))=_;rw[hA]
 rw[e,b];unfold lay;simp only[];rw[b,W2n,W6p,W6o,Yq,Yq,Yq,Yq,Pb,Pb,pF,pF,Yi,Ua];have k2:∀x:V4,En (2*((k+2)%4)) x=sm (Nf true) (En (2*k) x):=λx=>by
  rw[<-Yq];exact qt (by show (2*((k+2)%4))%8=(2*k+4*1)%8;lia) x
 cases hf:f.testBit A<;>cases hs:s.testBit A
 ·simp[GP,hf,hs]
 ·simp[GP,hf,hs,bL,Ua,Uh,Sg,nC];rw[add_comm];cases w.testBit A<;>cases bp ((w^^^f)&&&s)<;>simp[Nf]
 ·simp[GP,hf,hs,bL,Ua,Uh,Sg,nC];rw[add_comm];cases w.testBit A<;>cases bp ((w^^^f)&&&s)<;>simp[Nf]
 ·simp[GP,hf,hs,k2,Pb,pF]
noncomputable def Bh:List Mv->Mk->Mk
 | [],m=>m
 | x::r,m=>Bh r (CJ x m)
theorem X9e{m:Mv}(o:Ok m)(b:Br m)(F:Bv)(p:Mk):op m (lay p F)=lay (CJ m p) (op m F):=by
 funext w;cases m with
 | flip a=>exact X3w F w p
 | mix a=>exact X9f F w p
 | turn a j=>exact X3t b (by have:0<=a/\1<=j/\j<=7:=o;lia) F w p
 | iff a c=>exact X9g (by have:0<=a/\0<=c/\a≠c:=o;lia) F w p
 | pair a c=>exact X3v (by have:0<=a/\0<=c/\a≠c:=o;lia) F w p
 | swap a c=>exact X3u (by have:0<=a/\0<=c/\a≠c:=o;lia) F w p
 | cross a c d=>exact absurd b id
end FW
namespace Dc
open Ew Ew.Mv
noncomputable def Eo:List Mv->Bv->Bv
 | [],F=>F
 | m::ms,F=>Eo ms (op m F)
theorem W6v{w a b:Nat}(n:a≠b):sw (sw w a b) a b=w:=by
 apply nA;intro j;rw[Kf _ _ _ _ n];by_cases ja:j=a
 ·rw[if_pos ja,Kf _ _ _ _ n,if_neg (λz=>n z.symm),if_pos rfl,ja]
 ·rw[if_neg ja];by_cases jb:j=b
  ·rw[if_pos jb,Kf _ _ _ _ n,if_pos rfl,jb]
  ·rw[if_neg jb,Kf _ _ _ _ n,if_neg ja,if_neg jb]
def Dv (c:Nat)(m:Mv):Prop:=Ok m/\∀x∈m.cells,x<(c:Int)
end Dc
set_option maxHeartbeats 4000000
namespace L2
def Cd (K:U0)(H:Hp):List Addr->List (List Int)->Prop:=Paired λp ns=>Ag K H p (ns.map V.int)
section
variable {X:Cx}
theorem oH{pins:U1}{σ:St}{H:Hp}{s:U7}(I:Inv X pins σ H s):∀{ps:U3}{xs:List (List Int)}{us:U5},Cd X.K H ps xs->Vals (ps.map V.ref) us->∃b,ReadsAll s.heap us (xs.map λns=>PyData.tuple (ns.map PyData.int)) b
 | [],[],us,.nil,r=>by cases r;exact⟨[],.nil⟩
 | p::ps,ns::xs,us,.cons e r,rv=>by
  cases rv with
  | cons ru rr =>
   cases ru;obtain⟨b,d⟩:=oH I r rr;obtain⟨its,a,c,_⟩:=I.tuple e;exact⟨_,.cons (YZ c (Uu a)) d⟩
theorem u_{pins:U1}{σ:St}{H:Hp}{s:U7}(I:Inv X pins σ H s){a:W9}{ps:U3}{xs:List (List Int)}(h:H a=some (.lst (ps.map V.ref)))(r:Cd X.K H ps xs):∃as,Reads s.heap (.ref a) (.list (xs.map λns=>PyData.tuple (ns.map PyData.int))) as:=by
 obtain⟨its,b,f,_⟩:=I.list (Aw.of h);obtain⟨as,c⟩:=oH I r b;obtain⟨o,e,d,n,hd⟩:=f.isList;exact⟨_,Reads.list e d hd (by simpa using c)⟩
def RQ (K:U0)(neg:Bool):R2:=λx y H Q=>∃(a b:W9) (ps qs:U3) (xs ys:List (List Int)),x=.ref a/\y=.ref b/\H a=some (.lst (ps.map V.ref))/\H b=some (.lst (qs.map V.ref))/\Cd K H ps xs/\Cd K H qs ys/\Q (.bl (if neg then !decide (xs=ys) else decide (xs=ys))) H
theorem qH(hu:X.A.units+64<cLine):Eh X (compareOp .NotEq) (RQ X.K true):=by
 intro pins s σ H x y v u Q I i e h;obtain⟨a,b,ps,j,xs,ys,rfl,rfl,h1,h2,g,d,q⟩:=h;cases i;cases e;obtain⟨k,c⟩:=u_ I h1 g;obtain⟨bs,f⟩:=u_ I h2 d;refine iI c f (um xs) (um ys) hu (by simp only[SeqAt.noMix];exact aR xs ys) ⟨.bl (!decide (xs=ys)),H,I,?_,q⟩;show _=_;simp only[PySem.Spec.same];rw[aF]
end
end L2
namespace L2
section
variable {prog:U8}{w:W1}{A:W6}{E:U2}{s:U7}{l:W9}
end
section
variable {X:Cx}
end
end L2
namespace Bc
open L2 Ba Ew
open Aj (top Bs)
noncomputable def nm:Mv->Str
 | .flip _=>"flip"
 | .mix _=>"mix"
 | .turn _ _=>"turn"
 | .iff _ _=>"if"
 | .pair _ _=>"pair"
 | .swap _ _=>"swap"
 | .cross _ _ _=>"cross"
noncomputable def ns:Mv->List Int
 | .flip a=>[a]
 | .mix a=>[a]
 | .turn a k=>[a,k]
 | .iff a b=>[a,b]
 | .pair a b=>[a,b]
 | .swap a b=>[a,b]
 | .cross a b d=>[a,b,d]
noncomputable def hd:Mv->Int
 | .flip a=>a
 | .mix a=>a
 | .turn a _=>a
 | .iff a _=>a
 | .pair a _=>a
 | .swap a _=>a
 | .cross a _ _=>a
noncomputable def code:Mv->Nat
 | .flip _=>0
 | .mix _=>1
 | .turn _ _=>2
 | .iff _ _=>3
 | .pair _ _=>4
 | .swap _ _=>5
 | .cross _ _ _=>6
noncomputable def nms:List Str:=["flip","mix","turn","if","pair","swap","cross"]
theorem X0y(m:Mv):nm m=nms.getD (code m) "":=by cases m<;>rfl
theorem W1c:∀i,i<7->∀j,j<7->nms.getD i ""=nms.getD j ""->i=j:=by decide +kernel
theorem W2f(m:Mv):code m<7:=by cases m<;>simp[code]
theorem W4m{x:Mv}{i:Nat}(hi:i<7):nm x=nms.getD i ""↔code x=i:=⟨λh=>W1c _ (W2f x) _ hi (by rw[<-X0y,h]),λh=>by rw[X0y,h]⟩
noncomputable abbrev mm (m:Mv):Mm:=(nm m,ns m)
theorem W1a(m:Mv):∃r,ns m=hd m::r:=by cases m<;>exact⟨_,U⟩
theorem X8(m:Mv):Gv (.str (nm m)::(ns m).map V.int) 0=some (.str (nm m)):=L2.Ln (show (V.str (nm m)::(ns m).map V.int)[0]?=some _ from rfl)
theorem m7(m:Mv):Gv (.str (nm m)::(ns m).map V.int) 1=some (.int (hd m)):=by
 obtain⟨r,e⟩:=W1a m;rw[e];exact L2.Ln (show (V.str (nm m)::V.int (hd m)::r.map V.int)[1]?=some _ from rfl)
theorem W1r(m:Mv):nm m="turn"↔code m=2:=W4m (i:=2) (by decide)
theorem X6a(m:Mv):nm m="cross"↔code m=6:=W4m (i:=6) (by decide)
theorem Y8g(m:Mv):∃r,m.cells=hd m::r:=by cases m<;>exact⟨_,U⟩
theorem YH{H H':Hp}{l:W9}(s:Same H H')(h:H' l=none):H l=none:=by
 cases e:H l with
 | none=>rfl
 | some o=>rw[s _ _ e]at h;cases h
def Fd (H:Hp)(l:W9)(row:List Mv):Prop:=∃ps,H l=some (.lst (ps.map V.ref))/\GK H ps (row.map mm)
theorem Fd.same{H H':Hp}{l:W9}{row:List Mv}(h:Fd H l row)(s:Same H H'):Fd H' l row:=by
 obtain⟨ps,a,b⟩:=h;exact⟨ps,s _ _ a,b.same s⟩
end Bc
namespace Bc
open L2 Ba Am Ew
open Aj (top Bs va vb vc vd Gm Step Steps G6 Mix Cy)
open Dc (V4 sm add root E En fl sw sg Eo op Dv)
def Vl (m:Nat)(v:V4)(x:A5):Prop:=∃M0:Int,∀M,M0<=M->va x M=v.1*p2 (M-m)/\vb x M=v.2.1*p2 (M-m)/\vc x M=v.2.2.1*p2 (M-m)/\vd x M=v.2.2.2*p2 (M-m)
variable{m:Nat}{v:V4}
theorem Vl.once{x:V4}{h:Int}(l:Vl m v (x,h)):Vl m (E v) (E x,h):=by
 obtain⟨b,l⟩:=l;refine⟨b,λM a=>?_⟩;obtain⟨l1,l2,l3,l4⟩:=l M a;unfold va at l1;unfold vb at l2;unfold vc at l3;unfold vd at l4;unfold va vb vc vd;simp only[E]at l1 l2 l3 l4 ⊢;rw[TV,TV,l4];exact⟨U,l1,l2,l3⟩
theorem Vl.BK{m:Nat}{v x:V4}{h:Int}(l:Vl m v (x,h)):∀j,Vl m (En j v) (Ba.BK j x,h)
 | 0=>l
 | j+1=>(Vl.BK l j).once
variable{x:A5}
theorem Vl.up(l:Vl m v x)(n:Nat):Vl (m+n) (sm (2^n) v) x:=by
 obtain⟨c,l⟩:=l;refine⟨max c 0+m+n,λM d=>?_⟩;obtain⟨l1,l2,l3,l4⟩:=l M (by lia);have e:p2 (M-m)=2^n*p2 (M-((m+n:Nat):Int)):=by
  rw[Kg (a:=M-m) (b:=(n:Int)) (by lia) (by lia),Jc];congr 1;unfold p2;congr 1;lia
 rw[l1,l2,l3,l4,e];simp only[sm];refine⟨?_,?_,?_,?_⟩<;>grind
theorem Vl.mix{s:Int}{u:V4}{y z:A5}(l:Vl m v x)(a:Vl m u y)(mx:Mix s x y z)(x0:0<=x.2)(y0:0<=y.2):Vl (m+1) (root (add v (sm s u))) z:=by
 obtain⟨d,l⟩:=l;obtain⟨q,a⟩:=a;obtain⟨n,b⟩:=mx.vals x0 y0;refine⟨max d 0+max q 0+max n 0+1,λN r=>?_⟩;obtain⟨M,rfl⟩:∃M,N=M+1:=⟨N-1,by lia⟩;obtain⟨c,g,h,p⟩:=l M (by lia);obtain⟨f,k,o,i⟩:=a M (by lia);obtain⟨c1,c2,c3,j⟩:=b M (by lia);have e:M+1-((m+1:Nat):Int)=M-m:=by lia
 rw[c1,c2,c3,j,c,g,h,p,f,k,o,i,e];simp only[root,add,sm];refine⟨?_,?_,?_,?_⟩<;>grind
theorem Vl.same{y:A5}(l:Vl m v x)(a:Vl m v y)(ax:G5 x.1.1 x.1.2.1 x.1.2.2.1 x.1.2.2.2 x.2)(ay:G5 y.1.1 y.1.2.1 y.1.2.2.1 y.1.2.2.2 y.2):x=y:=by
 obtain⟨b,l⟩:=l;obtain⟨c,a⟩:=a;have x0:=ax.nn;have n:=ay.nn;obtain⟨M,g1,g2,g3,g4⟩:∃M:Int,b<=M/\c<=M/\x.2<=M/\y.2<=M:=⟨max b 0+max c 0+x.2+y.2,by lia,by lia,by lia,by lia⟩;obtain⟨d,f,g,k⟩:=l M g1;obtain⟨e,i,j,h⟩:=a M g2;exact Aj.X3n ax ay g3 g4 (by rw[d,e]) (by rw[f,i]) (by rw[g,j]) (by rw[k,h])
theorem Vl.of{N:Nat}(h0:0<=x.2)(h:x.2<=(N:Int)):Vl N (sm (2^(N-x.2.toNat)) x.1) x:=by
 have b:Vl x.2.toNat x.1 x:=by
  refine⟨0,λM _=>?_⟩;have:((x.2.toNat:Nat):Int)=x.2:=jH h0;rw[this];exact⟨U,U,U,U⟩
 have:=b.up (N-x.2.toNat);rw[show x.2.toNat+(N-x.2.toNat)=N by lia]at this;exact this
noncomputable def e1 (a w:Nat):Bool:=(decide (w&&&2^a=0) == !w.testBit a) && (decide (w&&&2^a=2^a) == w.testBit a) && (decide (w / 2^a%2=0) == !w.testBit a) && (w.testBit a || decide (fl w a=w+2^a)) && (!w.testBit a || decide (fl w a=w-2^a))
noncomputable def e2 (a b w:Nat):Bool:=decide (a=b) || (decide (Aj.Jz w a b=sw w a b) && (decide (w&&&(2^a ||| 2^b)=(2^a ||| 2^b)) == (w.testBit a && w.testBit b)))
theorem W5y:((List.range 6).all λa=>(List.range 64).all λw=>e1 a w)=true:=by decide +kernel
theorem W5x:((List.range 6).all λa=>(List.range 6).all λb=>(List.range 64).all λw=>e2 a b w)=true:=by decide +kernel
variable{c w:Nat}
theorem Y8(hc:c<=6)(hw:w<2^c):w<64:=Ea hw (Ir (by decide) hc:2^c<=2^6)
theorem Sd{a:Nat}(hc:c<=6)(ha:a<c)(hw:w<2^c):(w&&&2^a=0↔w.testBit a=false)/\(w&&&2^a=2^a↔w.testBit a=true)/\(w / 2^a%2=0↔w.testBit a=false)/\(w.testBit a=false->fl w a=w+2^a)/\(w.testBit a=true->fl w a=w-2^a):=by
 have h:=Aj.Dl (Aj.Dl W5y (show a<6 by lia)) (Y8 hc hw);unfold e1 at h;simp only[HY,WX,beq_iff_eq,Le]at h;obtain⟨⟨⟨⟨h1,h2⟩,d⟩,b⟩,e⟩:=h;cases hb:w.testBit a
 ·rw[hb]at h1 h2 d b e;simp at h1 h2 d b e;exact⟨⟨λ_=>rfl,λ_=>h1⟩,⟨λz=>absurd z h2,λz=>by cases z⟩,⟨λ_=>rfl,λ_=>d⟩,λ_=>b,λz=>by cases z⟩
 ·rw[hb]at h1 h2 d b e;simp at h1 h2 d b e;exact⟨⟨λz=>absurd z h1,λz=>by cases z⟩,⟨λ_=>rfl,λ_=>h2⟩,⟨λz=>absurd z (by lia),λz=>by cases z⟩,(λz=>by cases z),λ_=>e⟩
theorem Uz{a b:Nat}(hc:c<=6)(ha:a<c)(hb:b<c)(n:a≠b)(hw:w<2^c):Aj.Jz w a b=sw w a b/\(w&&&(2^a ||| 2^b)=(2^a ||| 2^b)↔(w.testBit a && w.testBit b)=true):=by
 have h:=Aj.Dl (Aj.Dl (Aj.Dl W5x (show a<6 by lia)) (show b<6 by lia)) (Y8 hc hw);unfold e2 at h;simp only[HY,WX,beq_iff_eq,Le]at h;rcases h with h | ⟨h1,h2⟩
 ·exact absurd h n
 ·refine⟨h1,?_⟩;rw[<-h2];simp
noncomputable def gm:Mv->Gm
 | .flip a=>.mv (.flip a.toNat)
 | .mix a=>.mix a.toNat
 | .turn a k=>.mv (.turn a.toNat k.toNat)
 | .iff a b=>.mv (.iff a.toNat b.toNat)
 | .pair a b=>.mv (.pair a.toNat b.toNat)
 | .swap a b=>.mv (.swap a.toNat b.toNat)
 | .cross a b d=>.mv (.cross a.toNat b.toNat d.toNat)
theorem tn{a:Int}(h:0<=a):((a.toNat:Nat):Int)=a:=jH h
variable{m:Mv}
theorem W8j(o:Dv c m):(gm m).mm=mm m:=by
 obtain⟨o,_⟩:=o;cases m with
 | flip a=>show (_,[((a.toNat:Nat):Int)])=_;rw[tn o];rfl
 | mix a=>show (_,[((a.toNat:Nat):Int)])=_;rw[tn o];rfl
 | turn a k=>show (_,[((a.toNat:Nat):Int),((k.toNat:Nat):Int)])=_;rw[tn o.1,tn (show 0<=k by have:=o.2.1;lia)];rfl
 | iff a b=>show (_,[((a.toNat:Nat):Int),((b.toNat:Nat):Int)])=_;rw[tn o.1,tn o.2.1];rfl
 | pair a b=>show (_,[((a.toNat:Nat):Int),((b.toNat:Nat):Int)])=_;rw[tn o.1,tn o.2.1];rfl
 | swap a b=>show (_,[((a.toNat:Nat):Int),((b.toNat:Nat):Int)])=_;rw[tn o.1,tn o.2.1];rfl
 | cross a b d=>show (_,[((a.toNat:Nat):Int),((b.toNat:Nat):Int),((d.toNat:Nat):Int)])=_;rw[tn o.1,tn o.2.1,tn o.2.2.1];rfl
theorem Ys(o:Dv c m):(gm m).Ok c:=by
 obtain⟨o,x⟩:=o;cases m with
 | flip a=>have h:=x a (by simp[Mv.cells]);have o:0<=a:=o;show a.toNat<c;lia
 | mix a=>have h:=x a (by simp[Mv.cells]);have o:0<=a:=o;show a.toNat<c;lia
 | turn a k=>have h:=x a (by simp[Mv.cells]);have o:0<=a/\1<=k/\k<=7:=o;show a.toNat<c/\1<=k.toNat/\k.toNat<=7;lia
 | iff a b=>have h:=x a (by simp[Mv.cells]);have h2:=x b (by simp[Mv.cells]);have o:0<=a/\0<=b/\a≠b:=o;show a.toNat<c/\b.toNat<c/\a.toNat≠b.toNat;lia
 | pair a b=>have h:=x a (by simp[Mv.cells]);have h2:=x b (by simp[Mv.cells]);have o:0<=a/\0<=b/\a≠b:=o;show a.toNat<c/\b.toNat<c/\a.toNat≠b.toNat;lia
 | swap a b=>have h:=x a (by simp[Mv.cells]);have h2:=x b (by simp[Mv.cells]);have o:0<=a/\0<=b/\a≠b:=o;show a.toNat<c/\b.toNat<c/\a.toNat≠b.toNat;lia
 | cross a b d=>have h:=x a (by simp[Mv.cells]);have h2:=x b (by simp[Mv.cells]);have e:=x d (by simp[Mv.cells]);have o:0<=a/\0<=b/\0<=d/\a≠b/\a≠d/\b≠d:=o;show a.toNat<c/\b.toNat<c/\d.toNat<c/\a.toNat≠b.toNat/\a.toNat≠d.toNat/\b.toNat≠d.toNat;lia
variable{F:Dc.Bv}{f:Nat->A5}
theorem VF{n k:Nat}{z:A5}{v:Aj.Mv}{t:Nat}(hl:v.to w<2^c)(h:∀w,w<2^c->Vl n (F w) (f w))(et:v.to w=t)(es:v.sp w=k)(k8:k<8)(e:z=Az (f (v.to w)) (v.sp w:Nat)):Vl (n+1) (sm 2 (En k (F t))) z:=by
 subst et es;rw[e];have q:=(h _ hl).BK (v.sp w);have e2:(((v.sp w:Nat):Int)%8).toNat=v.sp w:=by lia
 unfold Az;rw[e2];exact q.up 1
theorem X9k{n:Nat}{f':Nat->A5}(hc:c<=6)(o:Dv c m)(af:G6 c f)(h:∀w,w<2^c->Vl n (F w) (f w))(s:Step c (gm m) f f'):∀w,w<2^c->Vl (n+1) (op m F w) (f' w):=by
 intro w i;have ok:=Ys o;cases m with
 | flip a=>exact VF (v:=.flip a.toNat) (Aj.Mv.to_lt hc ok i) h rfl rfl (show 0<8 by decide) (s w i)
 | turn a j =>
  have ok:a.toNat<c/\1<=j.toNat/\j.toNat<=7:=ok;refine VF (v:=.turn a.toNat j.toNat) i h rfl ?_ ?_ (s w i)
  ·show (if _ then _ else _)=(if _ then _ else _);by_cases b:w.testBit a.toNat=true
   ·rw[if_pos b,if_pos ((Sd hc ok.1 i).2.1.mpr b)]
   ·rw[if_neg b,if_neg (λz=>b ((Sd hc ok.1 i).2.1.mp z))]
  ·show (if w.testBit a.toNat then j.toNat else 0)<8;split<;>lia
 | iff a b =>
  have g:a.toNat<c/\b.toNat<c/\a.toNat≠b.toNat:=ok;refine VF (v:=.iff a.toNat b.toNat) (Aj.Mv.to_lt hc ok i) h ?_ rfl (show 0<8 by decide) (s w i);show (if _ then _ else _)=(if _ then _ else _);by_cases b:w.testBit a.toNat=true
  ·rw[if_pos b,if_neg (λz=>by rw[(Sd hc g.1 i).1.mp z]at b;cases b)];rfl
  ·rw[if_neg b,if_pos ((Sd hc g.1 i).1.mpr (by simpa using b))]
 | pair a b =>
  have g:a.toNat<c/\b.toNat<c/\a.toNat≠b.toNat:=ok;refine VF (v:=.pair a.toNat b.toNat) i h rfl ?_ ?_ (s w i)
  ·show (if _ then _ else _)=(if _ then _ else _);by_cases b':(w.testBit a.toNat && w.testBit b.toNat)=true
   ·rw[if_pos b',if_pos ((Uz hc g.1 g.2.1 g.2.2 i).2.mpr b')]
   ·rw[if_neg b',if_neg (λz=>b' ((Uz hc g.1 g.2.1 g.2.2 i).2.mp z))]
  ·show (if _ then _ else _)<8;split<;>lia
 | swap a b =>
  have g:a.toNat<c/\b.toNat<c/\a.toNat≠b.toNat:=ok;exact VF (v:=.swap a.toNat b.toNat) (Aj.Mv.to_lt hc ok i) h (Uz hc g.1 g.2.1 g.2.2 i).1 rfl (show 0<8 by decide) (s w i)
 | cross a b d =>
  have g:a.toNat<c/\b.toNat<c/\d.toNat<c/\a.toNat≠b.toNat/\a.toNat≠d.toNat/\b.toNat≠d.toNat:=ok;refine VF (v:=.cross a.toNat b.toNat d.toNat) (Aj.Mv.to_lt hc ok i) h ?_ rfl (show 0<8 by decide) (s w i);show (if _ then _ else _)=(if _ then _ else _);by_cases b:w.testBit a.toNat=true
  ·rw[if_pos b,if_neg (λz=>by rw[(Sd hc g.1 i).1.mp z]at b;cases b)];exact(Uz hc g.2.1 g.2.2.1 g.2.2.2.2.2 i).1
  ·rw[if_neg b,if_pos ((Sd hc g.1 i).1.mpr (by simpa using b))]
 | mix a =>
  have p:a.toNat<c:=ok;have e:=s w i;have e:Cy f a.toNat w (f' w):=e;unfold Cy at e;obtain⟨_,_,l,q,r⟩:=Sd hc p i;show Vl (n+1) (root (add (sm (sg w a.toNat) (F w)) (F (fl w a.toNat)))) (f' w);unfold sg;by_cases hb:w.testBit a.toNat=false
  ·have z:=l.mpr hb;obtain⟨_,_,l2,_⟩:=Aj.Yg hc p i z;rw[if_pos z]at e;rw[if_neg (by rw[hb];decide),q hb,Dc.Ry];have:=(h _ i).mix (h _ l2) e (af _ i).nn (af _ l2).nn;rw[Dc.Ry]at this;exact this
  ·have k:w.testBit a.toNat=true:=by simpa using hb
   have z:¬ w / 2^a.toNat%2=0:=λz=>hb (l.mp z);have l2:w-2^a.toNat<2^c:=Np (WD _ _) i;rw[if_neg z]at e;rw[if_pos k,r k,Dc.add_comm];exact(h _ l2).mix (h _ i) e (af _ l2).nn (af _ i).nn
theorem qO{c:Nat}(hc:c<=6):∀{row:List Mv}{n:Nat}{F:Dc.Bv}{f f':Nat->A5},(∀m∈row,Dv c m)->G6 c f->(∀w,w<2^c->Vl n (F w) (f w))->Steps c (row.map gm) f f'->(∀w,w<2^c->Vl (n+row.length) (Eo row F w) (f' w))/\G6 c f'
 | [],n,F,f,f',_,af,h,a=>by
  cases a;exact⟨h,af⟩
 | m::row,n,F,f,f',ok,af,h,a=>by
  cases a with
  | cons a a' =>
   have Cv:=ok m (.head _);have:=qO hc (row:=row) (λx b=>ok x (.tail _ b)) (a.ams hc (Ys Cv) af) (X9k hc Cv af h a) a';rw[Nk,show n+(row.length+1)=n+1+row.length by lia];exact this
theorem W3t{H:Hp}{l:W9}{row:List Mv}(h:Fd H l row)(ok:∀m∈row,Dv c m)(len:row.length<=200):∃ps,Aj.Rw H l ps (row.map gm) c:=by
 obtain⟨ps,b,d⟩:=h;refine⟨ps,b,?_,?_,by rw[Bg];exact len⟩
 ·show GK H ps ((row.map gm).map Gm.mm);have e:(row.map gm).map Gm.mm=row.map mm:=by
   rw[KR];exact jK λm a=>W8j (ok m a)
  rw[e];exact d
 ·intro m a;obtain⟨x,f,rfl⟩:=Ej.mp a;exact Ys (ok x f)
end Bc
namespace Bc
open L2 Ba Am Pc Ew
open Aj (top Bs)
open Dc (fl sw Dv)
open FW (Mk CJ Br)
noncomputable abbrev Ge (m:Mk):List V:=[.int (m.1:Nat),.int (m.2.1:Nat),.int (m.2.2:Nat)]
structure Jk (c:Nat) (m:Mk):Prop where
 k:m.1<4
 f:m.2.1<2^c
 s:m.2.2<2^c
theorem W2i(f a:Nat):(f&&&2^a)=if f.testBit a then 2^a else 0:=by
 apply Rj;intro j;rw[Ni,QX];by_cases h:a=j
 ·subst h;cases hb:f.testBit a<;>simp
 ·cases hb:f.testBit a<;>simp[h,QX]
theorem tb(f a:Nat):(Builtin.bitAnd (f:Int) ((2^a:Nat):Int) != 0)=f.testBit a:=by
 rw[Jg,W2i];cases f.testBit a
 ·rfl
 ·have b:=Cu a;have:((2^a:Nat):Int)≠0:=by lia
  exact bne_iff_ne.mpr this
theorem xb(f a:Nat):Builtin.bitXor (f:Int) ((2^a:Nat):Int)=((fl f a:Nat):Int):=J5 f (2^a)
noncomputable abbrev K1 (a f s:Nat):Nat:=if f.testBit a=s.testBit a then f else fl f a
noncomputable abbrev Lf (a f s:Nat):Nat:=if f.testBit a=s.testBit a then s else fl s a
noncomputable abbrev Zt (f s b:Int):Int:=Builtin.bitOr (Builtin.bitAnd f (Builtin.bitNot b)) (Builtin.bitAnd s b)
noncomputable def Ww (a f s:Nat):Bool :=
 decide (Zt f s ((2^a:Nat):Int)=(K1 a f s:Int)) && decide (Zt s f ((2^a:Nat):Int)=(Lf a f s:Int)) &&
 decide (((K1 a f s).testBit a && (Lf a f s).testBit a)=(f.testBit a && s.testBit a))
theorem W4p:((List.range 6).all λa=>(List.range 64).all λf=>(List.range 64).all λs=>Ww a f s)=true:=by decide +kernel
variable{c a f:Nat}
theorem W7j{s:Nat}(hc:c<=6)(ha:a<c)(hf:f<2^c)(hs:s<2^c):Zt f s ((2^a:Nat):Int)=(K1 a f s:Int)/\Zt s f ((2^a:Nat):Int)=(Lf a f s:Int)/\((K1 a f s).testBit a && (Lf a f s).testBit a)=(f.testBit a && s.testBit a):=by
 have h:=Aj.Dl (Aj.Dl (Aj.Dl W4p (show a<6 by lia)) (Y8 hc hf)) (Y8 hc hs);unfold Ww at h;rw[HY,HY]at h;exact⟨Mr h.1.1,Mr h.1.2,Mr h.2⟩
theorem tb2(f s a:Nat):(Builtin.bitAnd (Builtin.bitAnd (f:Int) (s:Int)) ((2^a:Nat):Int) != 0)=(f.testBit a && s.testBit a):=by
 rw[Jg,tb,Ni]
theorem Nr(hf:f<2^c)(ha:a<c):fl f a<2^c:=Er hf (Jf (by decide) ha)
theorem W3j{b:Nat}(hf:f<2^c)(ha:a<c)(hb:b<c):sw f a b<2^c:=by
 unfold sw;split
 ·exact hf
 ·exact Nr (Nr hf ha) hb
theorem W4q{x:Mv}{m:Mk}(o:Dv c x)(h:Jk c m):Jk c (CJ x m):=by
 obtain⟨k,f,s⟩:=m;obtain⟨i,hf,g⟩:=h;have ok:=Ys o;have l:∀n:Nat,n%4<4:=λn=>Ep _ (by decide);cases x with
 | flip a=>exact⟨by show (if _ then _ else _)<4;split;exact l _;exact i,hf,g⟩
 | mix a =>
  have e:a.toNat<c:=ok;exact⟨by show (if _ then _ else _)<4;split;exact l _;exact i,by show (if _ then _ else _)<2^c;split;exact hf;exact Nr hf e,by show (if _ then _ else _)<2^c;split;exact g;exact Nr g e⟩
 | turn a j =>
  have e:a.toNat<c/\_:=ok;show Jk c (if _ then _ else _);split
  ·exact⟨l _,hf,by show (if _ then _ else _)<2^c;split;exact Nr g e.1;exact g⟩
  ·exact⟨i,hf,g⟩
 | iff a b =>
  have e:a.toNat<c/\b.toNat<c/\_:=ok;exact⟨i,by show (if _ then _ else _)<2^c;split;exact Nr hf e.2.1;exact hf,by show (if _ then _ else _)<2^c;split;exact Nr g e.1;exact g⟩
 | pair a b =>
  have e:a.toNat<c/\b.toNat<c/\_:=ok;refine⟨by show (if _ then _ else _)<4;split;exact l _;exact i,hf,?_⟩;show (if _ then _ else _)<2^c;split
  ·refine Nr ?_ e.1;split
   ·exact Nr g e.2.1
   ·exact g
  ·split
   ·exact Nr g e.2.1
   ·exact g
 | swap a b =>
  have e:a.toNat<c/\b.toNat<c/\_:=ok;exact⟨i,W3j hf e.1 e.2.1,W3j g e.1 e.2.1⟩
 | cross a b d=>exact⟨i,hf,g⟩
abbrev Sy (K:U0)(H:Hp)(Q:VK)(m:Mk):Prop:=∀(r:W9) (H':Hp),Same H H'->H' r=some (.tup (Ge m))->Q (.ref r) H'
def YC (K:U0):Sp:=λvs H Q _=>∃(p:W9) (m:Mk),vs=[.ref p]/\H p=some (.tup (Ge m))/\Sy K H Q ((m.1+2)%4,m.2.1,m.2.2)
def vP (K:U0):Sp:=λvs H Q _=>∃(p:W9) (m:Mk) (c a:Nat),vs=[.ref p,.int ((2^a:Nat):Int)]/\H p=some (.tup (Ge m))/\Jk c m/\c<=6/\a<c/\Sy K H Q (CJ (.mix (a:Int)) m)
def wg (K:U0):Sp:=λvs H Q _=>∃(p:W9) (m:Mk) (a j:Nat),vs=[.ref p,.int ((2^a:Nat):Int),.int (j:Int)]/\H p=some (.tup (Ge m))/\Sy K H Q (CJ (.turn (a:Int) (j:Int)) m)
def Mh (K:U0):Sp:=λvs H Q _=>∃(p:W9) (m:Mk) (a b:Nat),vs=[.ref p,.int ((2^a:Nat):Int),.int ((2^b:Nat):Int)]/\H p=some (.tup (Ge m))/\Sy K H Q (CJ (.iff (a:Int) (b:Int)) m)
def wZ (K:U0):Sp:=λvs H Q _=>∃(p:W9) (m:Mk) (a b:Nat),vs=[.ref p,.int ((2^a:Nat):Int),.int ((2^b:Nat):Int)]/\H p=some (.tup (Ge m))/\Sy K H Q (CJ (.pair (a:Int) (b:Int)) m)
variable{x y z:V}
theorem k0:Gv [x,y,z] 0=some x:=rfl
theorem k1:Gv [x,y,z] 1=some y:=rfl
theorem k2:Gv [x,y,z] 2=some z:=rfl
theorem X1a(a k f s:Nat):CJ (.mix (a:Int)) (k,f,s)=(if f.testBit a && s.testBit a then (k+2)%4 else k,K1 a f s,Lf a f s):=rfl
theorem X5o(a j k f s:Nat):CJ (.turn (a:Int) (j:Int)) (k,f,s)=if f.testBit a then ((k+j / 2)%4,f,if j%4=2 then fl s a else s) else (k,f,s):=rfl
theorem W1h(a b k f s:Nat):CJ (.iff (a:Int) (b:Int)) (k,f,s)=(k,if f.testBit a then fl f b else f,if s.testBit b then fl s a else s):=rfl
noncomputable abbrev Qe (a b f s:Nat):Nat:=if f.testBit b then fl (if f.testBit a then fl s b else s) a else if f.testBit a then fl s b else s
theorem X5p(a b k f s:Nat):CJ (.pair (a:Int) (b:Int)) (k,f,s)=(if f.testBit a && f.testBit b then (k+2)%4 else k,f,Qe a b f s):=rfl
section
variable {P:U8}{w:W1}{K:U0}{mg:U4}{base:Heap}{k:Nat}{h:Heap}
theorem X5l(F:Ab K "turned_about" (top 24) .none)(X:K.In h)(G:Ng h mg):Ah P w K mg base (k+1) "turned_about" ["mark"] (YC K):=by
 refine F.cal X G ["mark"] λb H vs Q E a h=>?_;obtain⟨p,⟨k,f,s⟩,rfl,S,q⟩:=h;refine⟨_,(@Ak _ _ _ (BJ (@Dg _ _ _ _ _ (Aa (Af Dt (Af El (Ai Ao (pv 0) Ac (λ_ _=>rfl)) Ac) Ac) (Aa (Ai Ao (pv 0) Ac (λ_ _=>rfl)) (Aa (Ai Ao (pv 0) Ac (λ_ _=>rfl)) Ae)))))),?_⟩;try dsimp only[Bm]
 refine⟨_,U,p,_,_,.int k,U,U,Ag.of S,k0,_,_,U,U,_,_,U,U,(by show (0:Int)<_;decide),_,U,p,_,_,.int f,U,U,Ag.of S,k1,_,U,p,_,_,.int s,U,U,Ag.of S,k2,t3,λr a=>q r _ (BR a _) ?_⟩;rw[Ax];have e:((k:Int)+2)%4=(((k+2)%4:Nat):Int):=by lia
 show some (HO.tup [.int (((k:Int)+2)%4),.int f,.int s])=_;rw[e]
theorem X5h(F:Ab K "moved_by_mix" (top 87) .none)(X:K.In h)(G:Ng h mg)(c8:Ah P w K mg base k "turned_about" ["mark"] (YC K)):Ah P w K mg base (k+1) "moved_by_mix" ["mark","bit"] (vP K):=by
 refine F.cal X G ["mark","bit","flips","signs","moved"] λd H vs Q E l h=>?_;obtain⟨p,⟨k,f,s⟩,c,a,rfl,S,o,c6,m,q⟩:=h;obtain⟨e1,e2,n⟩:=W7j (f:=f) (s:=s) c6 m o.f o.s
 refine⟨_,(@GX _ _ _ _ _ (@Bb _ _ 2 _ _ _ _ d rfl (Or.inl rfl) (Af Pa (Af Dz (Ai Ao (pv 0) Ac (λ_ _=>rfl)) (Mz _L (pv 1))) (Af Dz (Ai Ao (pv 0) Ac (λ_ _=>rfl)) (pv 1))) rfl (.inl rfl))
  (@GX _ _ _ _ _ (@Bb _ _ 3 _ _ _ _ d rfl (Or.inl rfl) (Af Pa (Af Dz (Ai Ao (pv 0) Ac (λ_ _=>rfl)) (Mz _L (pv 1))) (Af Dz (Ai Ao (pv 0) Ac (λ_ _=>rfl)) (pv 1))) rfl (.inl rfl))
  (@Aq _ _ _ _ _ (@Bb _ _ 4 _ _ _ _ d rfl (Or.inl rfl) (@Dg _ _ _ _ _ (Aa (Ai Ao (pv 0) Ac (λ_ _=>rfl)) (Aa (pv 2) (Aa (pv 3) Ae)))) rfl (.inl rfl))
  (@Ak _ _ _ (BJ (Kl (K7 (Af Dz (Af Dz (pv 2) (pv 3)) (pv 1)) (by intro _;rfl)) (Av c8 l rfl (Aa (pv 4) Ae)) (pv 4))))))),?_⟩
 try dsimp only[Bm]
 refine⟨λb H'=>H=H'/\b=[some (.ref p),some (.int ((2^a:Nat):Int)),some (.int (K1 a f s:Nat)),none,none],?_,?_⟩
 ·exact⟨_,U,p,_,_,.int f,U,U,Ag.of S,k1,_,U,_,U,_,_,U,U,_,U,p,_,_,.int s,U,U,Ag.of S,k2,_,U,_,_,U,U,_,_,U,U,U,by rw[<-e1];rfl⟩
 rintro b _ ⟨rfl,rfl⟩;refine⟨λb H'=>H=H'/\b=[some (.ref p),some (.int ((2^a:Nat):Int)),some (.int (K1 a f s:Nat)),some (.int (Lf a f s:Nat)),none],?_,?_⟩
 ·exact⟨_,U,p,_,_,.int s,U,U,Ag.of S,k2,_,U,_,U,_,_,U,U,_,U,p,_,_,.int f,U,U,Ag.of S,k1,_,U,_,_,U,U,_,_,U,U,U,by rw[<-e2];rfl⟩
 rintro b _ ⟨rfl,rfl⟩;refine⟨_,U,p,_,_,.int k,U,U,Ag.of S,k0,_,U,_,U,t3,λt j=>?_⟩;have e:=BR j (.tup (Ge (k,K1 a f s,Lf a f s)));have g:upd H t (.tup (Ge (k,K1 a f s,Lf a f s))) t=some (.tup (Ge (k,K1 a f s,Lf a f s))):=Ax;refine⟨_,U,_,U,_,_,U,U,_,U,_,_,U,U,_,U,?_⟩;rw[tb2,n];refine Ow (λz=>?_) (λz=>?_)
 ·refine⟨_,U,t,(k,K1 a f s,Lf a f s),U,g,λr H2 i h2=>q r H2 (e.trans i) ?_⟩;have:CJ (.mix (a:Int)) (k,f,s)=((k+2)%4,K1 a f s,Lf a f s):=by
   rw[X1a,if_pos z]
  rw[this];exact h2
 ·refine⟨_,U,q t _ e ?_⟩;have:CJ (.mix (a:Int)) (k,f,s)=(k,K1 a f s,Lf a f s):=by
   rw[X1a,if_neg (by rw[z];decide)]
  rw[this];exact g
theorem X0r(F:Ab K "moved_by_turn" (top 88) .none)(X:K.In h)(G:Ng h mg):Ah P w K mg base (k+1) "moved_by_turn" ["mark","bit","k"] (wg K):=by
 refine F.cal X G ["mark","bit","k","signs"] λd H vs Q E c h=>?_;obtain⟨p,⟨k,f,s⟩,a,j,rfl,S,q⟩:=h
 refine⟨_,(@Aq _ _ _ _ _ (Bx (FQ (K7 (Af Dz (Ai Ao (pv 0) Ac (λ_ _=>rfl)) (pv 1)) (by intro _;rfl)))
   (@Ak _ _ _ (BJ (pv 0)))
   CK)
  (@GX _ _ _ _ _ (@Bb _ _ 3 _ _ _ _ d rfl (Or.inl rfl) (Kl (B_ Dr (Af Dt (pv 2) Ac) Ac (Ad _)) (Af JN (Ai Ao (pv 0) Ac (λ_ _=>rfl)) (pv 1)) (Ai Ao (pv 0) Ac (λ_ _=>rfl))) rfl (.inl rfl))
  (@Ak _ _ _ (BJ (@Dg _ _ _ _ _ (Aa (Af Dt (Af El (Ai Ao (pv 0) Ac (λ_ _=>rfl)) (Af J8 (pv 2) Ac)) Ac) (Aa (Ai Ao (pv 0) Ac (λ_ _=>rfl)) (Aa (pv 3) Ae)))))))),?_⟩
 try dsimp only[Bm]
 refine⟨_,U,p,_,_,.int f,U,U,Ag.of S,k1,_,U,_,_,U,U,_,U,?_⟩;rw[tb];rw[X5o]at q;refine H_ (λz=>?_) (λz=>?_)
 ·rw[if_neg (by rw[z];decide)]at q;exact⟨_,U,q p H (Same.refl _) S⟩
 rw[if_pos z]at q;refine⟨λb H'=>H=H'/\b=[some (.ref p),some (.int ((2^a:Nat):Int)),some (.int (j:Int)),some (.int ((if j%4=2 then fl s a else s:Nat):Int))],?_,?_⟩
 ·refine⟨_,U,_,_,U,U,(by show (0:Int)<_;decide),U,_,U,K4 (λy=>?_) (λy=>?_)⟩
  ·exact⟨_,U,p,_,_,.int s,U,U,Ag.of S,k2,_,U,_,_,U,U,U,by rw[if_pos (by lia),<-xb];rfl⟩
  ·exact⟨_,U,p,_,_,.int s,U,U,Ag.of S,k2,U,by rw[if_neg (by lia)];rfl⟩
 rintro b _ ⟨rfl,rfl⟩;refine⟨_,U,p,_,_,.int k,U,U,Ag.of S,k0,_,U,_,_,U,U,⟨by decide,by decide⟩,_,_,U,U,_,_,U,U,(by show (0:Int)<_;decide),_,U,p,_,_,.int f,U,U,Ag.of S,k1,_,U,t3,λr c=>q r _ (BR c _) ?_⟩;rw[Ax];have e:((k:Int)+(j:Int) / 2)%4=(((k+j / 2)%4:Nat):Int):=by lia
 show some (HO.tup [.int (((k:Int)+(j:Int) / 2)%4),.int f,.int ((if j%4=2 then fl s a else s:Nat):Int)])=_;rw[e]
theorem W0w(F:Ab K "moved_by_if" (top 89) .none)(X:K.In h)(G:Ng h mg):Ah P w K mg base (k+1) "moved_by_if" ["mark","bit","other"] (Mh K):=by
 refine F.cal X G ["mark","bit","other","flips","signs"] λe H vs Q E d h=>?_;obtain⟨p,⟨k,f,s⟩,a,b,rfl,S,q⟩:=h;rw[W1h]at q
 refine⟨_,(@GX _ _ _ _ _ (@Bb _ _ 3 _ _ _ _ e rfl (Or.inl rfl) (Kl (K7 (Af Dz (Ai Ao (pv 0) Ac (λ_ _=>rfl)) (pv 1)) (by intro _;rfl)) (Af JN (Ai Ao (pv 0) Ac (λ_ _=>rfl)) (pv 2)) (Ai Ao (pv 0) Ac (λ_ _=>rfl))) rfl (.inl rfl))
  (@GX _ _ _ _ _ (@Bb _ _ 4 _ _ _ _ e rfl (Or.inl rfl) (Kl (K7 (Af Dz (Ai Ao (pv 0) Ac (λ_ _=>rfl)) (pv 2)) (by intro _;rfl)) (Af JN (Ai Ao (pv 0) Ac (λ_ _=>rfl)) (pv 1)) (Ai Ao (pv 0) Ac (λ_ _=>rfl))) rfl (.inl rfl))
  (@Ak _ _ _ (BJ (@Dg _ _ _ _ _ (Aa (Ai Ao (pv 0) Ac (λ_ _=>rfl)) (Aa (pv 3) (Aa (pv 4) Ae)))))))),?_⟩
 try dsimp only[Bm]
 refine⟨λc H'=>H=H'/\c=[some (.ref p),some (.int ((2^a:Nat):Int)),some (.int ((2^b:Nat):Int)),some (.int ((if f.testBit a then fl f b else f:Nat):Int)),none],?_,?_⟩
 ·refine⟨_,U,p,_,_,.int f,U,U,Ag.of S,k1,_,U,_,_,U,U,_,U,?_⟩;rw[tb];refine Ow (λz=>?_) (λz=>?_)
  ·exact⟨_,U,p,_,_,.int f,U,U,Ag.of S,k1,_,U,_,_,U,U,U,by rw[if_pos z,<-xb];rfl⟩
  ·exact⟨_,U,p,_,_,.int f,U,U,Ag.of S,k1,U,by rw[if_neg (by rw[z];decide)];rfl⟩
 rintro c _ ⟨rfl,rfl⟩;refine⟨λc H'=>H=H'/\c=[some (.ref p),some (.int ((2^a:Nat):Int)),some (.int ((2^b:Nat):Int)),some (.int ((if f.testBit a then fl f b else f:Nat):Int)),some (.int ((if s.testBit b then fl s a else s:Nat):Int))],?_,?_⟩
 ·refine⟨_,U,p,_,_,.int s,U,U,Ag.of S,k2,_,U,_,_,U,U,_,U,?_⟩;rw[tb];refine Ow (λz=>?_) (λz=>?_)
  ·exact⟨_,U,p,_,_,.int s,U,U,Ag.of S,k2,_,U,_,_,U,U,U,by rw[if_pos z,<-xb];rfl⟩
  ·exact⟨_,U,p,_,_,.int s,U,U,Ag.of S,k2,U,by rw[if_neg (show ¬ s.testBit b=true by rw[z];decide)];rfl⟩
 rintro c _ ⟨rfl,rfl⟩;exact⟨_,U,p,_,_,.int k,U,U,Ag.of S,k0,_,U,_,U,t3,λr d=>q r _ (BR d _) Ax⟩
theorem X0s(F:Ab K "moved_by_pair" (top 90) .none)(X:K.In h)(G:Ng h mg)(c8:Ah P w K mg base k "turned_about" ["mark"] (YC K)):Ah P w K mg base (k+1) "moved_by_pair" ["mark","bit","other"] (wZ K):=by
 refine F.cal X G ["mark","bit","other","signs","moved"] λe H vs Q E m h=>?_;obtain⟨p,⟨k,f,s⟩,a,b,rfl,S,q⟩:=h;rw[X5p]at q
 refine⟨_,(@Aq _ _ _ _ _ (@Bb _ _ 3 _ _ _ _ e rfl (Or.inl rfl) (Ai Ao (pv 0) Ac (λ_ _=>rfl)) rfl (.inl rfl))
  (@GX _ _ _ _ _ (Bx (K7 (Af Dz (Ai Ao (pv 0) Ac (λ_ _=>rfl)) (pv 1)) (by intro _;rfl))
   (@Ak _ _ _ (@Bb _ _ 3 _ _ _ _ e rfl (Or.inl rfl) (Af JN (pv 3) (pv 2)) rfl (.inl rfl)))
   CK)
  (@GX _ _ _ _ _ (Bx (K7 (Af Dz (Ai Ao (pv 0) Ac (λ_ _=>rfl)) (pv 2)) (by intro _;rfl))
   (@Ak _ _ _ (@Bb _ _ 3 _ _ _ _ e rfl (Or.inl rfl) (Af JN (pv 3) (pv 1)) rfl (.inl rfl)))
   CK)
  (@Aq _ _ _ _ _ (@Bb _ _ 4 _ _ _ _ e rfl (Or.inl rfl) (@Dg _ _ _ _ _ (Aa (Ai Ao (pv 0) Ac (λ_ _=>rfl)) (Aa (Ai Ao (pv 0) Ac (λ_ _=>rfl)) (Aa (pv 3) Ae)))) rfl (.inl rfl))
  (@Ak _ _ _ (BJ (Kl (PW.pt (O1 (K7 (Af Dz (Ai Ao (pv 0) Ac (λ_ _=>rfl)) (pv 1)) (by intro _;rfl)) (R3 (K7 (Af Dz (Ai Ao (pv 0) Ac (λ_ _=>rfl)) (pv 2)) (by intro _;rfl))))) (Av c8 m rfl (Aa (pv 4) Ae)) (pv 4)))))))),?_⟩
 try dsimp only[Bm]
 refine⟨_,U,p,_,_,.int s,U,U,Ag.of S,k2,?_⟩;refine⟨λc H'=>H=H'/\c=[some (.ref p),some (.int ((2^a:Nat):Int)),some (.int ((2^b:Nat):Int)),some (.int ((if f.testBit a then fl s b else s:Nat):Int)),none],?_,?_⟩
 ·refine⟨_,U,p,_,_,.int f,U,U,Ag.of S,k1,_,U,_,_,U,U,_,U,?_⟩;rw[tb];refine Ow (λz=>?_) (λz=>?_)
  ·exact⟨_,U,_,U,_,_,U,U,U,by rw[if_pos z,<-xb];rfl⟩
  ·exact⟨U,by rw[if_neg (by rw[z];decide)];rfl⟩
 rintro c _ ⟨rfl,rfl⟩;refine⟨λc H'=>H=H'/\c=[some (.ref p),some (.int ((2^a:Nat):Int)),some (.int ((2^b:Nat):Int)),some (.int (Qe a b f s:Nat)),none],?_,?_⟩
 ·refine⟨_,U,p,_,_,.int f,U,U,Ag.of S,k1,_,U,_,_,U,U,_,U,?_⟩;rw[tb];refine Ow (λz=>?_) (λz=>?_)
  ·exact⟨_,U,_,U,_,_,U,U,U,by rw[Qe,if_pos z,<-xb];rfl⟩
  ·exact⟨U,by rw[Qe,if_neg (show ¬ f.testBit b=true by rw[z];decide)]⟩
 rintro c _ ⟨rfl,rfl⟩;refine⟨_,U,p,_,_,.int k,U,U,Ag.of S,k0,_,U,p,_,_,.int f,U,U,Ag.of S,k1,_,U,t3,λt l=>?_⟩;have d:=BR l (.tup (Ge (k,f,Qe a b f s)));have g:upd H t (.tup (Ge (k,f,Qe a b f s))) t=some (.tup (Ge (k,f,Qe a b f s))):=Ax;have i:Ag K _ p (Ge (k,f,s)):=Ag.of (d _ _ S);refine⟨_,U,p,_,_,.int f,U,U,i,k1,_,U,_,_,U,U,_,U,?_⟩;rw[tb];refine Ow (λz=>?_) (λz=>?_)
 ·refine⟨_,U,p,_,_,.int f,U,U,i,k1,_,U,_,_,U,U,_,U,?_⟩;rw[tb];refine Ow (λy=>?_) (λy=>?_)
  ·rw[if_pos (by rw[z,y];rfl)]at q;exact⟨_,U,t,(k,f,Qe a b f s),U,g,λr H2 j h2=>q r H2 (d.trans j) h2⟩
  ·rw[if_neg (by rw[z,y];decide)]at q;exact⟨_,U,q t _ d g⟩
 ·rw[if_neg (by rw[z];simp)]at q;exact Bj ⟨_,U,q t _ d g⟩
end
end Bc
namespace Bc
open L2 Ba Am Pc Ew
open Aj (top Bs Hv)
open Dc (fl sw Dv)
open FW (Mk CJ Bh Br)
def yV (K:U0):Sp:=λvs H Q _=>∃(p q:W9) (m:Mk) (x:Mv) (c:Nat),vs=[.ref p,.ref q]/\H p=some (.tup (Ge m))/\H q=some (mT (mm x))/\Jk c m/\c<=6/\Dv c x/\Br x/\Sy K H Q (CJ x m)
def yX (K:U0):Sp:=λvs H Q _=>∃(p l:W9) (m:Mk) (row:List Mv) (c:Nat),vs=[.ref p,.ref l]/\H p=some (.tup (Ge m))/\Fd H l row/\Jk c m/\c<=6/\(∀x∈row,Dv c x)/\(∀x∈row,Br x)/\row.length<=200/\Sy K H Q (Bh row m)
theorem at0{x:V}{xs:List V}:Gv (x::xs) 0=some x:=L2.Ln (j:=0) rfl
theorem X3z{a:Int}(h0:0<=a):(1:Int)*2^a.toNat=((2^a.toNat:Nat):Int):=by simp
theorem X5q(a k f s:Nat):CJ (.flip (a:Int)) (k,f,s)=(if s.testBit a then (k+2)%4 else k,f,s):=rfl
theorem YM:∀(r t:List Mv) (m:Mk),Bh (r++t) m=Bh t (Bh r m)
 | [],_,_=>rfl
 | x::r,t,m=>YM r t (CJ x m)
theorem bQ{c:Nat}:∀{row:List Mv}{m:Mk},(∀x∈row,Dv c x)->Jk c m->Jk c (Bh row m)
 | [],_,_,h=>h
 | x::r,m,o,h=>bQ (row:=r) (λy a=>o y (.tail _ a)) (W4q (o x (.head _)) h)
theorem qL{H:Hp}:∀{ps:U3}{ms:List Mm},GK H ps ms->ps.length=ms.length
 | [],[],.nil=>rfl
 | _::_,_::_,.cons _ r=>by rw[Nk,Nk,qL r]
theorem qK{H:Hp}:∀{ps:U3}{row:List Mv}{i:Nat}{p:W9},GK H ps (row.map mm)->ps[i]?=some p->∃m,row[i]?=some m/\H p=some (mT (mm m))
 | p'::ps,m::ms,0,p,.cons a r,h=>by
  have:p'=p:=by simpa using h
  subst this;exact⟨m,U,a⟩
 | p'::ps,m::ms,i+1,p,.cons a r,h=>by
  obtain⟨m',b,c⟩:=qK (ps:=ps) (row:=ms) (i:=i) (p:=p) r (by simpa using h);exact⟨m',b,c⟩
section
variable {P:U8}{w:W1}{K:U0}{mg:U4}{base:Heap}{k:Nat}{h:Heap}
theorem Y7s(F:Ab K "moved_by" (top 86) .none)(X:K.In h)(G:Ng h mg)(c8:Ah P w K mg base k "turned_about" ["mark"] (YC K))(dR:Ah P w K mg base k "moved_by_mix" ["mark","bit"] (vP K))(dM:Ah P w K mg base k "moved_by_turn" ["mark","bit","k"] (wg K))
  (e9:Ah P w K mg base k "moved_by_if" ["mark","bit","other"] (Mh K)) (dL:Ah P w K mg base k "moved_by_pair" ["mark","bit","other"] (wZ K)) (cI:Ah P w K mg base k "exchanged" ["word","bit","other"] Hv):Ah P w K mg base (k+1) "moved_by" ["mark","move"] (yV K):=by
 refine F.cal X G ["mark","move","bit","other"] λy H vs Q E m h=>?_;obtain⟨p,q,⟨k,f,s⟩,x,c,rfl,S,I,o,c6,ok,D,l⟩:=h;have SP:Ag K H q (.str (nm x)::(ns x).map V.int):=Ag.of I;obtain⟨g0,g1⟩:0<=hd x/\hd x<(c:Int):=by
  obtain⟨r,e⟩:=Y8g x;have n:hd x∈x.cells:=by rw[e];exact .head _
  exact⟨ok.1.nn _ n,ok.2 _ n⟩
 refine⟨_,(@GX _ _ _ _ _ (@Bb _ _ 2 _ _ _ _ y rfl (Or.inl rfl) (Af G3 Ac (Ai Ao (pv 1) Ac (λ_ _=>rfl))) rfl (.inl rfl))
  (@Aq _ _ _ _ _ (Bx (B_ Dr (Ai Ao (pv 1) Ac (λ_ _=>rfl)) Fq (Ad _))
   (@Ak _ _ _ (BJ (Kl (K7 (Af Dz (Ai Ao (pv 0) Ac (λ_ _=>rfl)) (pv 2)) (by intro _;rfl)) (Av c8 m rfl (Aa (pv 0) Ae)) (pv 0))))
   CK)
  (@Aq _ _ _ _ _ (Bx (B_ Dr (Ai Ao (pv 1) Ac (λ_ _=>rfl)) Fq (Ad _))
   (@Ak _ _ _ (BJ (Av dR m rfl (Aa (pv 0) (Aa (pv 2) Ae)))))
   CK)
  (@Aq _ _ _ _ _ (Bx (B_ Dr (Ai Ao (pv 1) Ac (λ_ _=>rfl)) Fq (Ad _))
   (@Ak _ _ _ (BJ (Av dM m rfl (Aa (pv 0) (Aa (pv 2) (Aa (Ai Ao (pv 1) Ac (λ_ _=>rfl)) Ae))))))
   CK)
  (@GX _ _ _ _ _ (@Bb _ _ 3 _ _ _ _ y rfl (Or.inl rfl) (Af G3 Ac (Ai Ao (pv 1) Ac (λ_ _=>rfl))) rfl (.inl rfl))
  (@Aq _ _ _ _ _ (Bx (B_ Dr (Ai Ao (pv 1) Ac (λ_ _=>rfl)) Fq (Ad _))
   (@Ak _ _ _ (BJ (Av e9 m rfl (Aa (pv 0) (Aa (pv 2) (Aa (pv 3) Ae))))))
   CK)
  (@Aq _ _ _ _ _ (Bx (B_ Dr (Ai Ao (pv 1) Ac (λ_ _=>rfl)) Fq (Ad _))
   (@Ak _ _ _ (BJ (Av dL m rfl (Aa (pv 0) (Aa (pv 2) (Aa (pv 3) Ae))))))
   CK)
  (@Ak _ _ _ (BJ (@Dg _ _ _ _ _ (Aa (Ai Ao (pv 0) Ac (λ_ _=>rfl)) (Aa (Av cI m rfl (Aa (Ai Ao (pv 0) Ac (λ_ _=>rfl)) (Aa (pv 2) (Aa (pv 3) Ae)))) (Aa (Av cI m rfl (Aa (Ai Ao (pv 0) Ac (λ_ _=>rfl)) (Aa (pv 2) (Aa (pv 3) Ae)))) Ae))))))))))))),?_⟩
 try dsimp only[Bm]
 refine⟨λi H'=>H=H'/\i=[some (.ref p),some (.ref q),some (.int ((2^(hd x).toNat:Nat):Int)),none],?_,?_⟩
 ·exact⟨_,U,q,_,_,.int (hd x),U,U,SP,m7 x,_,_,U,U,⟨1,HN,by lia,by lia⟩,U,by rw[<-X3z g0];rfl⟩
 rintro i _ ⟨rfl,rfl⟩;cases x with
 | flip a =>
  obtain⟨A,rfl⟩:∃A:Nat,a=(A:Int):=⟨a.toNat,(tn g0).symm⟩;rw[X5q]at l;refine⟨_,U,q,_,_,.str "flip",U,U,SP,at0,U,_,U,A_ (λ_=>?_) (λz=>absurd rfl z)⟩;refine⟨_,U,p,_,_,.int s,U,U,Ag.of S,k2,_,U,_,_,U,U,_,U,?_⟩;show (if (Builtin.bitAnd (s:Int) ((2^A:Nat):Int) != 0)=true then _ else _);rw[tb];refine Ow (λz=>?_) (λz=>?_)
  ·rw[if_pos z]at l;exact⟨_,U,p,(k,f,s),U,S,l⟩
  ·rw[if_neg (by rw[z];decide)]at l;exact⟨_,U,l p H (Same.refl _) S⟩
 | mix a =>
  obtain⟨A,rfl⟩:∃A:Nat,a=(A:Int):=⟨a.toNat,(tn g0).symm⟩;refine⟨_,U,q,_,_,.str "mix",U,U,SP,at0,U,_,U,A_ (λz=>absurd (V.str.inj z) (by decide)) (λ_=>?_)⟩;refine⟨_,U,q,_,_,.str "mix",U,U,SP,at0,U,_,U,A_ (λ_=>?_) (λz=>absurd rfl z)⟩;exact⟨_,U,_,U,p,(k,f,s),c,A,U,S,o,c6,by have:(A:Int)<c:=g1;lia,l⟩
 | turn a j =>
  have g:0<=a/\1<=j/\j<=7:=ok.1;obtain⟨A,rfl⟩:∃A:Nat,a=(A:Int):=⟨a.toNat,(tn g0).symm⟩;obtain⟨J,rfl⟩:∃J:Nat,j=(J:Int):=⟨j.toNat,(tn (by lia)).symm⟩;refine⟨_,U,q,_,_,.str "turn",U,U,SP,at0,U,_,U,A_ (λz=>absurd (V.str.inj z) (by decide)) (λ_=>?_)⟩;refine⟨_,U,q,_,_,.str "turn",U,U,SP,at0,U,_,U,A_ (λz=>absurd (V.str.inj z) (by decide)) (λ_=>?_)⟩;refine⟨_,U,q,_,_,.str "turn",U,U,SP,at0,U,_,U,A_ (λ_=>?_) (λz=>absurd rfl z)⟩;exact⟨_,U,_,U,_,U,q,_,_,.int J,U,U,SP,k2,p,(k,f,s),A,J,U,S,l⟩
 | iff a b =>
  have g:0<=a/\0<=b/\a≠b:=ok.1;have hb:b<(c:Int):=ok.2 b (by simp[Mv.cells]);obtain⟨A,rfl⟩:∃A:Nat,a=(A:Int):=⟨a.toNat,(tn g0).symm⟩;obtain⟨J,rfl⟩:∃J:Nat,b=(J:Int):=⟨b.toNat,(tn g.2.1).symm⟩;refine⟨_,U,q,_,_,.str "if",U,U,SP,at0,U,_,U,A_ (λz=>absurd (V.str.inj z) (by decide)) (λ_=>?_)⟩;refine⟨_,U,q,_,_,.str "if",U,U,SP,at0,U,_,U,A_ (λz=>absurd (V.str.inj z) (by decide)) (λ_=>?_)⟩;refine⟨_,U,q,_,_,.str "if",U,U,SP,at0,U,_,U,A_ (λz=>absurd (V.str.inj z) (by decide)) (λ_=>?_)⟩;refine⟨λi H'=>H=H'/\i=[some (.ref p),some (.ref q),some (.int ((2^A:Nat):Int)),some (.int ((2^J:Nat):Int))],?_,?_⟩
  ·exact⟨_,U,q,_,_,.int J,U,U,SP,k2,_,_,U,U,⟨1,HN,by lia,by lia⟩,U,by rw[<-ipow J];rfl⟩
  rintro i _ ⟨rfl,rfl⟩;refine⟨_,U,q,_,_,.str "if",U,U,SP,at0,U,_,U,A_ (λ_=>?_) (λz=>absurd rfl z)⟩;exact⟨_,U,_,U,_,U,p,(k,f,s),A,J,U,S,l⟩
 | pair a b =>
  have g:0<=a/\0<=b/\a≠b:=ok.1;have hb:b<(c:Int):=ok.2 b (by simp[Mv.cells]);obtain⟨A,rfl⟩:∃A:Nat,a=(A:Int):=⟨a.toNat,(tn g0).symm⟩;obtain⟨J,rfl⟩:∃J:Nat,b=(J:Int):=⟨b.toNat,(tn g.2.1).symm⟩;refine⟨_,U,q,_,_,.str "pair",U,U,SP,at0,U,_,U,A_ (λz=>absurd (V.str.inj z) (by decide)) (λ_=>?_)⟩;refine⟨_,U,q,_,_,.str "pair",U,U,SP,at0,U,_,U,A_ (λz=>absurd (V.str.inj z) (by decide)) (λ_=>?_)⟩;refine⟨_,U,q,_,_,.str "pair",U,U,SP,at0,U,_,U,A_ (λz=>absurd (V.str.inj z) (by decide)) (λ_=>?_)⟩;refine⟨λi H'=>H=H'/\i=[some (.ref p),some (.ref q),some (.int ((2^A:Nat):Int)),some (.int ((2^J:Nat):Int))],?_,?_⟩
  ·exact⟨_,U,q,_,_,.int J,U,U,SP,k2,_,_,U,U,⟨1,HN,by lia,by lia⟩,U,by rw[<-ipow J];rfl⟩
  rintro i _ ⟨rfl,rfl⟩;refine⟨_,U,q,_,_,.str "pair",U,U,SP,at0,U,_,U,A_ (λz=>absurd (V.str.inj z) (by decide)) (λ_=>?_)⟩;refine⟨_,U,q,_,_,.str "pair",U,U,SP,at0,U,_,U,A_ (λ_=>?_) (λz=>absurd rfl z)⟩;exact⟨_,U,_,U,_,U,p,(k,f,s),A,J,U,S,l⟩
 | swap a b =>
  have g:0<=a/\0<=b/\a≠b:=ok.1;have hb:b<(c:Int):=ok.2 b (by simp[Mv.cells]);obtain⟨A,rfl⟩:∃A:Nat,a=(A:Int):=⟨a.toNat,(tn g0).symm⟩;obtain⟨J,rfl⟩:∃J:Nat,b=(J:Int):=⟨b.toNat,(tn g.2.1).symm⟩;refine⟨_,U,q,_,_,.str "swap",U,U,SP,at0,U,_,U,A_ (λz=>absurd (V.str.inj z) (by decide)) (λ_=>?_)⟩;refine⟨_,U,q,_,_,.str "swap",U,U,SP,at0,U,_,U,A_ (λz=>absurd (V.str.inj z) (by decide)) (λ_=>?_)⟩;refine⟨_,U,q,_,_,.str "swap",U,U,SP,at0,U,_,U,A_ (λz=>absurd (V.str.inj z) (by decide)) (λ_=>?_)⟩;refine⟨λi H'=>H=H'/\i=[some (.ref p),some (.ref q),some (.int ((2^A:Nat):Int)),some (.int ((2^J:Nat):Int))],?_,?_⟩
  ·exact⟨_,U,q,_,_,.int J,U,U,SP,k2,_,_,U,U,⟨1,HN,by lia,by lia⟩,U,by rw[<-ipow J];rfl⟩
  rintro i _ ⟨rfl,rfl⟩;refine⟨_,U,q,_,_,.str "swap",U,U,SP,at0,U,_,U,A_ (λz=>absurd (V.str.inj z) (by decide)) (λ_=>?_)⟩;refine⟨_,U,q,_,_,.str "swap",U,U,SP,at0,U,_,U,A_ (λz=>absurd (V.str.inj z) (by decide)) (λ_=>?_)⟩;have B:A<c:=by have:(A:Int)<c:=g1;lia
  have u:J<c:=by lia
  have v:A≠J:=λz=>g.2.2 (by rw[z]);refine⟨_,U,p,_,_,.int k,U,U,Ag.of S,k0,_,U,p,_,_,.int f,U,U,Ag.of S,k1,_,U,_,U,f,A,J,U,λH1 t=>?_⟩;refine⟨_,U,p,_,_,.int s,U,U,Ag.of (t _ _ S),k2,_,U,_,U,s,A,J,U,λH2 C=>⟨t3,λr m=>l r _ ((t.trans C).trans (BR m _)) ?_⟩⟩;rw[Ax,(Uz c6 B u v o.f).1,(Uz c6 B u v o.s).1];rfl
 | cross a b d=>exact absurd D id
theorem Y7o(F:Ab K "moved_through" (top 85) .none)(X:K.In h)(G:Ng h mg)(eZ:Ah P w K mg base k "moved_by" ["mark","move"] (yV K)):Ah P w K mg base (k+1) "moved_through" ["mark","row"] (yX K):=by
 refine F.cal X G ["mark","row","behind","move"] λg H vs Q E M h=>?_;obtain⟨p,l,m,row,c,rfl,S,⟨ps,A,d⟩,o,c6,ok,C,t,L⟩:=h;have n:Aw K H l (ps.map V.ref):=Aw.of A;have N:ps.length=row.length:=by have:=qL d;rw[Bg]at this;exact this
 refine⟨_,(@Aq _ _ _ _ _ (@Bb _ _ 2 _ _ _ _ g rfl (Or.inl rfl) (pv 0) rfl (.inl rfl))
  (@Aq _ _ _ _ _ (J7 PassesOwn.never rfl (G_ (pv 1)) (DR (i:=3) g rfl (Or.inl rfl))
   (@Ak _ _ _ (@Bb _ _ 2 _ _ _ _ g rfl (Or.inl rfl) (Av eZ M rfl (Aa (pv 2) (Aa (pv 3) Ae))) rfl (.inl rfl))))
  (@Ak _ _ _ (BJ (pv 2))))),?_⟩
 try dsimp only[Bm]
 refine⟨_,U,_,U,l,U,⟨_,n⟩,O8 (K:=K) (a:=l) (xs:=ps.map V.ref) (λi σ H'=>Same H H'/\∃(b:W9) (j:Option V),H' b=some (.tup (Ge (Bh (row.take i) m)))/\σ=[some (.ref p),some (.ref l),some (.ref b),j])
  ⟨Same.refl _,p,none,by rw[WR];exact S,U⟩ (λi σ H' _ e=>e.1.seq n) ?_ ?_⟩
 ·rintro i x σ H1 u ⟨f,b,j,hb,rfl⟩;rw[Cj]at u;obtain⟨q,J,rfl⟩:=Es.mp u;obtain⟨y,v,D⟩:=qK d J;have s:y∈row:=GQ v;refine⟨_,U,_,U,b,q,_,y,c,U,hb,f _ _ D,bQ (λz I=>ok z (Zh I)) o,c6,ok y s,C y s,λr H2 B h2=>⟨f.trans B,r,_,?_,U⟩⟩;rw[Jt,v,Nq,YM];exact h2
 ·rintro σ H1 ⟨f,b,j,hb,rfl⟩;rw[Bg,N,Ld]at hb;exact⟨_,U,L b H1 f hb⟩
end
end Bc
namespace Bc
open L2 Ba Am Pc Ew
open Aj (top Bs)
open Dc (fl sw Dv)
open FW (Mk CJ Bh Br)
noncomputable def Ot:Mv->Bool
 | .turn _ j=>decide (V.int (j%2)=V.int 1)
 | _=>false
noncomputable def Ke:Mv->Bool
 | .cross _ _ _=>false
 | x=>!Ot x
def P_:Sp:=λvs H Q _=>∃(p:W9) (x:Mv),vs=[.ref p]/\H p=some (mT (mm x))/\Q (.bl (Ot x)) H
def Ma:Sp:=λvs H Q _=>∃(p:W9) (x:Mv),vs=[.ref p]/\H p=some (mT (mm x))/\Q (.bl (Ke x)) H
variable{x:Mv}
theorem X9a(e:nm x="turn"):∃a j,x=.turn a j:=by
 have:=(W1r x).mp e;cases x<;>first | exact⟨_,_,U⟩ | simp[code]at this
theorem W0y(e:nm x≠"turn"):Ot x=false:=by cases x<;>first | rfl | exact absurd rfl e
theorem X6q(e:nm x="cross"):Ke x=false:=by
 have:=(X6a x).mp e;cases x<;>first | rfl | simp[code]at this
theorem W6h(e:nm x≠"cross"):Ke x=!Ot x:=by cases x<;>first | rfl | exact absurd rfl e
theorem W6i(o:Dc.Ok x):Ke x=true↔Br x:=by
 cases x with
 | turn a j =>
  have:0<=a/\1<=j/\j<=7:=o;show (!decide (V.int (j%2)=V.int 1))=true↔j.toNat%2=0;by_cases h:j%2=1
  ·rw[Gb (by rw[h])];simp;lia
  ·rw[FJ (λz=>h (V.int.inj z))];simp;lia
 | cross a b d=>exact⟨λz=>(nomatch z),λz=>z.elim⟩
 | _=>exact⟨λ_=>trivial,λ_=>rfl⟩
noncomputable def fst:List Mv->Option Nat
 | []=>none
 | x::r=>if Ke x then (fst r).map (·+1) else some 0
noncomputable def oV:Option Nat->V
 | none=>.non
 | some n=>.int n
def vO:Sp:=λvs H Q _=>∃(l:W9) (row:List Mv),vs=[.ref l]/\Fd H l row/\row.length<=200/\∀H',Same H H'->Q (oV (fst row)) H'
theorem yx:∀{row:List Mv}{i:Nat}{x:Mv},(∀y∈row.take i,Ke y=true)->row[i]?=some x->Ke x=false->fst row=some i
 | y::r,0,x,_,hx,hb=>by
  have:y=x:=by simpa using hx
  subst this;show (if Ke y then _ else some 0)=_;rw[if_neg (by rw[hb];decide)]
 | y::r,i+1,x,h,hx,hb=>by
  have a:=h y (by rw[List.take_succ_cons];exact .head _);show (if Ke y then (fst r).map (·+1) else some 0)=_;rw[if_pos a,yx (row:=r) (i:=i) (x:=x) (λz b=>h z (by rw[List.take_succ_cons];exact .tail _ b)) (by simpa using hx) hb];rfl
theorem p8:∀{row:List Mv},(∀y∈row,Ke y=true)->fst row=none
 | [],_=>rfl
 | y::r,h=>by
  show (if Ke y then (fst r).map (·+1) else some 0)=_;rw[if_pos (h y (.head _)),p8 λz a=>h z (.tail _ a)];rfl
section
variable {P:U8}{w:W1}{K:U0}{mg:U4}{base:Heap}{k:Nat}{h:Heap}
theorem W4f(F:Ab K "is_odd_turn" (top 82) .none)(X:K.In h)(G:Ng h mg):Ah P w K mg base (k+1) "is_odd_turn" ["move"] P_:=by
 refine F.cal X G ["move"] λc H vs Q E b h=>?_;obtain⟨p,x,rfl,hp,q⟩:=h;have SP:Ag K H p (.str (nm x)::(ns x).map V.int):=Ag.of hp;refine⟨_,(@Ak _ _ _ (BJ (Qp (Iz Dr (Ai Ao (pv 0) Ac (λ_ _=>rfl)) Fq (Ad _)) (M6 (Iz Dr (Af Dt (Ai Ao (pv 0) Ac (λ_ _=>rfl)) Ac) Ac (Ad _)))))),?_⟩;try dsimp only[Bm]
 refine⟨_,U,p,_,_,.str (nm x),U,U,SP,X8 x,U,?_⟩;by_cases e:nm x="turn"
 ·obtain⟨a,j,rfl⟩:=X9a e;exact⟨_,U,A_ (λ_=>⟨_,U,p,_,_,.int j,U,U,SP,k2,_,_,U,U,(by show (0:Int)<_;decide),U,q⟩) (λz=>absurd rfl z)⟩
 ·refine⟨_,U,A_ (λz=>absurd (V.str.inj z) e) (λ_=>?_)⟩;rw[W0y e]at q;exact q
theorem W0q(F:Ab K "is_borne" (top 81) .none)(X:K.In h)(G:Ng h mg)(e8:Ah P w K mg base k "is_odd_turn" ["move"] P_):Ah P w K mg base (k+1) "is_borne" ["move"] Ma:=by
 refine F.cal X G ["move"] λb H vs Q E a h=>?_;obtain⟨p,x,rfl,hp,q⟩:=h;have SP:Ag K H p (.str (nm x)::(ns x).map V.int):=Ag.of hp;refine⟨_,(@Ak _ _ _ (BJ (Qp (Iz Jh (Ai Ao (pv 0) Ac (λ_ _=>rfl)) Fq (Ad _)) (M6 (bC (Av e8 a rfl (Aa (pv 0) Ae))))))),?_⟩;try dsimp only[Bm]
 refine⟨_,U,p,_,_,.str (nm x),U,U,SP,X8 x,U,?_⟩;by_cases e:nm x="cross"
 ·refine⟨_,U,H_ (λz=>absurd (by rw[e]) (jE z)) (λ_=>?_)⟩;rw[X6q e]at q;exact q
 ·refine⟨_,U,H_ (λ_=>?_) (λz=>absurd (V.str.inj (Mr z)) e)⟩;refine⟨_,U,p,x,U,hp,_,U,?_⟩;rw[W6h e]at q;exact q
theorem X5i(F:Ab K "borne" (top 80) .none)(X:K.In h)(G:Ng h mg)(B:Bs mg)(eW:Ah P w K mg base k "is_borne" ["move"] Ma):Ah P w K mg base (k+1) "borne" ["row"] vO:=by
 refine F.cal X G ["row","place","move"] λp H vs Q E A h=>?_;obtain⟨l,row,rfl,⟨ps,r,b⟩,m,o⟩:=h;have j:Aw K H l (ps.map V.ref):=Aw.of r;have C:ps.length=row.length:=by have:=qL b;rw[Bg]at this;exact this
 refine⟨_,(@Aq _ _ _ _ _ (J7 PassesOwn.never rfl (YB rfl B.enumerate (Aa (pv 0) Ae)) (@oO _ _ _ _ _ _ rfl (@Qy _ _ _ _ _ (@DR _ _ 1 _ p rfl (Or.inl rfl) (by first | exact .inl rfl | exact .inr rfl)) (@Qy _ _ _ _ _ (@DR _ _ 2 _ p rfl (Or.inl rfl) (by first | exact .inl rfl | exact .inr rfl)) bR rfl) rfl) rfl rfl)
   (@Ak _ _ _ (Bx (FQ (Du (Av eW A rfl (Aa (pv 2) Ae))))
    (@Ak _ _ _ (BJ (pv 1)))
    CK)))
  (@Ak _ _ _ (BJ Lj))),?_⟩
 try dsimp only[Bm]
 refine⟨_,U,l,_,U,j,wH (K:=K) (a:=l) (xs:=ps.map V.ref) (λi σ H'=>Same H H'/\(∀y∈row.take i,Ke y=true)/\∃(v1 v2:Option V),σ=[some (.ref l),v1,v2])
  ⟨Same.refl _,(λy d=>by rw[WR]at d;cases d),none,none,U⟩ (λi σ H' _ e=>e.1.seq j) ?_ ?_⟩
 ·rintro i x σ H1 T n ⟨g,hb,v1,v2,rfl⟩ v;rw[Cj]at n;obtain⟨q,t,rfl⟩:=Es.mp n;obtain⟨y,d,s⟩:=qK b t;have f:=g.trans (BR v (.tup [.int i,.ref q]));refine⟨T,_,U,Ag.of Ax,U,_,_,U,_,_,U,U,?_⟩;refine⟨_,U,q,y,U,f _ _ s,_,U,H_ (λz=>?_) (λz=>?_)⟩
  ·have:=o _ f;rw[yx hb d z]at this;exact⟨_,U,this⟩
  ·refine⟨f,λu c=>?_,_,_,U⟩;rw[Jt,d,Nq]at c;rcases Io.mp c with c | c
   ·exact hb u c
   ·rw[Fj.mp c];exact z
 ·rintro σ H1 ⟨g,hb,v1,v2,rfl⟩;rw[Bg,C,Ld]at hb;have:=o _ g;rw[p8 hb]at this;exact this
end
end Bc
namespace Bc
open L2 Ba Am Pc Ew
open Aj (top Bs Cz Bk Cw Uo PL PJ G6 Ur)
open Dc (fl sw Dv V4 En sm Eo)
open FW (Mk CJ Bh Br lay bn bp)
noncomputable abbrev layW (m:Mk)(f:Nat->A5)(w:Nat):A5:=Az (f (w^^^m.2.1)) ((2*m.1+4*pc ((w^^^m.2.1)&&&m.2.2):Nat):Int)
def vV (K:U0):Sp:=λvs H Q _=>∃(l p:W9) (ps:U3) (f:Nat->A5) (c n M wd:Nat) (m:Mk),vs=[.ref l,.int wd,.ref p]/\Cz K H l ps f c n M/\wd<2^c/\Ag K H p (Ge m)/\Jk c m /\
 ∀(r:W9) (H':Hp),Same H H'->Cw K H' r (Az (f wd) ((2*m.1+4*pc (wd&&&m.2.2):Nat):Int))->Q (.ref r) H'
def Hu (K:U0):Sp:=λvs H Q _=>∃(l p:W9) (ps:U3) (f:Nat->A5) (c n M:Nat) (m:Mk),vs=[.ref l,.ref p]/\Cz K H l ps f c n M/\c<=6/\Ag K H p (Ge m)/\Jk c m /\
 ∀(r:W9) (H':Hp) (qs:U3),H r=none->Same H H'->Cz K H' r qs (layW m f) c n M->Q (.ref r) H'
theorem zL{c n:Nat}{m:Mk}{F:Dc.Bv}{f:Nat->A5}(o:Jk c m)(h:∀w,w<2^c->Vl n (F w) (f w)):∀w,w<2^c->Vl n (lay m F w) (layW m f w):=by
 intro w b;have d:=h (w^^^m.2.1) (Er b o.f);have q:=d.BK ((((2*m.1+4*pc ((w^^^m.2.1)&&&m.2.2):Nat):Int)%8).toNat);have e:lay m F w=En ((((2*m.1+4*pc ((w^^^m.2.1)&&&m.2.2):Nat):Int)%8).toNat) (F (w^^^m.2.1)):=by
  unfold lay;refine FW.qt ?_ _;have hb:bn (bp ((w^^^m.2.1)&&&m.2.2))=pc ((w^^^m.2.1)&&&m.2.2)%2:=by
   unfold bp bn;rcases Jv (pc ((w^^^m.2.1)&&&m.2.2)) with a | a<;>rw[a]<;>rfl
  rw[hb];lia
 rw[e];exact q
theorem Rz{x y:Nat}:[V.int (Builtin.bitAnd (x:Int) (y:Int))]=[V.int ((x&&&y:Nat):Int)]:=by rw[Jg]
section
variable {P:U8}{w:W1}{K:U0}{mg:U4}{base:Heap}{k:Nat}{h:Heap}
end
end Bc
namespace Bc
open L2 Ba Am Pc Ew
open Aj (top Bs Cz Bk Cw G6 Ur Steps Ht)
open Dc (fl sw Dv V4 En sm Eo)
open FW (Mk CJ Bh Br lay bn bp)
theorem X1o{c:Nat}:∀{row:List Mv} (F:Dc.Bv) (m:Mk),(∀x∈row,Dv c x)->(∀x∈row,Br x)->Eo row (lay m F)=lay (Bh row m) (Eo row F)
 | [],_,_,_,_=>rfl
 | x::r,F,m,o,b=>by
  show Eo r (Dc.op x (lay m F))=lay (Bh r (CJ x m)) (Eo r (Dc.op x F));rw[FW.X9e (o x (.head _)).1 (b x (.head _))];exact X1o (row:=r) _ _ (λy a=>o y (.tail _ a)) (λy a=>b y (.tail _ a))
theorem W1n{c:Nat}{m:Mk}{f:Nat->A5}(o:Jk c m)(a:G6 c f):G6 c (layW m f):=λw b=>Aj.oX (a _ (Er b o.f)) _
def pK (K:U0):Sp:=λvs H Q _=>∃(l lr:W9) (ps:U3) (ms:List Mk) (row:List Mv) (c:Nat),vs=[.ref l,.ref lr]/\Aw K H l (ps.map V.ref)/\Paired (λp m=>H p=some (.tup (Ge m))) ps ms/\ms.length<=200/\Fd H lr row/\(∀m∈ms,Jk c m)/\c<=6/\(∀x∈row,Dv c x)/\(∀x∈row,Br x)/\row.length<=200 /\
 ∀(r:W9) (H':Hp) (qs:U3),H r=none->Same H H'->H' r=some (.lst (qs.map V.ref))->Paired (λp m=>H' p=some (.tup (Ge m))) qs (ms.map (Bh row))->Q (.ref r) H'
def Gi:Sp:=λvs H Q _=>∃(l:W9) (row:List Mv),vs=[.ref l]/\Fd H l row/\row.length<=200/\(∀x∈row,Ke x=true)/\∀H',Same H H'->Q .non H'
theorem W6j{c:Nat}{row:List Mv}(ok:∀x∈row,Dv c x)(br:∀x∈row,Br x):∀x∈row,Ke x=true:=λx a=>(W6i (ok x a).1).mpr (br x a)
theorem zc{α:Type}{F:Addr->α->Prop}:∀{ps:U3}{ms:List α},Paired F ps ms->ps.length=ms.length
 | [],[],.nil=>rfl
 | _::_,_::_,.cons _ r=>by rw[Nk,Nk,zc r]
theorem zZ{α:Type}{F:Addr->α->Prop}:∀{ps:U3}{ms:List α}{i:Nat}{p:W9},Paired F ps ms->ps[i]?=some p->∃m,ms[i]?=some m/\F p m
 | p'::ps,m::ms,0,p,.cons a r,h=>by
  have:p'=p:=by simpa using h
  subst this;exact⟨m,U,a⟩
 | p'::ps,m::ms,i+1,p,.cons a r,h=>by
  obtain⟨m',b,c⟩:=zZ (ps:=ps) (ms:=ms) (i:=i) (p:=p) r (by simpa using h);exact⟨m',by simpa using b,c⟩
theorem vK{α:Type}{F:Addr->α->Prop}{a:W9}{b:α}:∀{l:U3}{m:List α},Paired F l m->F a b->Paired F (l++[a]) (m++[b])
 | _,_,.nil,h=>.cons h .nil
 | _,_,.cons x r,h=>.cons x (vK r h)
theorem za{α:Type}{F G:Addr->α->Prop}(f:∀a b,F a b->G a b):∀{l:U3}{m:List α},Paired F l m->Paired G l m
 | _,_,.nil=>.nil
 | _,_,.cons x r=>.cons (f _ _ x) (za f r)
theorem vG{H:Hp}{p l:W9}{zs:List V}{xs ys:List V}(h:H p=some (.tup zs))(e:H l=some (.lst xs)):upd H l (.lst ys) p=some (.tup zs):=by
 rw[Cg (Q_ h e (by intro z;cases z))];exact h
section
variable {P:U8}{w:W1}{K:U0}{mg:U4}{base:Heap}{k:Nat}{h:Heap}
theorem Jp:Ce ["row","place"] ["row"] (Dp (top 84)):=fS
theorem qm(F:Ab K "check_borne" (top 84) .none)(X:K.In h)(G:Ng h mg)(gR:Ah P w K mg base k "borne" ["row"] vO):Ah P w K mg base (k+1) "check_borne" ["row"] Gi:=by
 refine F.cal X G _ (S:=Jp) λe H vs Q E d h=>?_;obtain⟨l,row,rfl,R,a,b,f⟩:=h
 refine⟨_,(@Aq _ _ _ _ _ (@Bb _ _ 1 _ _ _ _ e rfl (Or.inl rfl) (Av gR d rfl (Aa (pv 0) Ae)) rfl (.inl rfl))
  (@Ak _ _ _ (Bx (B_ W0e (pv 1) Lj (Ad _))
   (@Ak _ _ _ Jj)
   CK))),?_⟩
 try dsimp only[Bm]
 refine⟨_,U,l,row,U,R,a,λH1 c=>?_⟩;rw[p8 b];refine⟨_,U,?_⟩;exact⟨U,_,U,H_ (λz=>absurd rfl (jE z)) (λ_=>f H1 c)⟩
theorem X4y(F:Ab K "moved_rows" (top 83) .none)(X:K.In h)(G:Ng h mg)(B:Bs mg)(dX:Ah P w K mg base k "check_borne" ["row"] Gi)(dN:Ah P w K mg base k "moved_through" ["mark","row"] (yX K)):Ah P w K mg base (k+1) "moved_rows" ["rows","row"] (pK K):=by
 refine F.cal X G ["rows","row"] λZ H vs Q E D h=>?_;obtain⟨l,u,ps,ms,row,c,rfl,v,z,Y,R,o,c6,ok,C,d,M⟩:=h
 refine⟨_,(@Aq _ _ _ _ _ (Ny (Av dX D rfl (Aa (pv 1) Ae)))
  (@Ak _ _ _ (BJ (Iw rfl (Bp.of (Nc:=["mark","row"]) (mp:=[none,some 1]) (by kernel_rfl)) (G_ (pv 0)) (λ_ _ _ _=>(DR (i:=0) (show (["mark","row"]:W0).Nodup by decide +kernel) rfl (Or.inl rfl))) (λ_ _ _ _=>(Av dN D rfl (Aa (pv 0) (Aa (pv 1) Ae)))))))),?_⟩
 try dsimp only[Bm]
 refine⟨_,U,u,row,U,R,d,W6j ok C,λH1 g=>?_⟩;have W:=zc z;refine⟨_,U,l,U,⟨_,g.seq v⟩,λacc b=>?_⟩;refine Uk (K:=K) (a:=l) (xs:=ps.map V.ref) (fr:=[some (.ref u)]) (λi ys H'=>∃f:List Addr,Same H1 H'/\H' acc=some (.lst ys)/\ys=f.map V.ref/\Paired (λp m=>H' p=some (.tup (Ge m))) f ((ms.take i).map (Bh row))) (by rw[Bg];exact G7 (show ps.length<=200 by lia) (by decide))
  ⟨[],BR b _,Ax,U,by rw[WR];exact .nil⟩ (λi ys H' ⟨_,e,_⟩=>(g.trans e).seq v) ?_ ?_
 ·rintro i x ys H2 N A O ⟨f,s,j,rfl,t⟩ J;rw[Cj]at A;obtain⟨q,L,rfl⟩:=Es.mp A;obtain⟨m,y,S⟩:=zZ z L;have n:=g.trans s;refine⟨_,U,_,U,q,u,m,row,c,U,n _ _ S,R.same n,o m (GQ y),c6,ok,C,d,λr T S3 I=>?_⟩;refine J (.ref r) T (S3 _ _ j) ⟨f++[r],Fw (s.trans S3) b,Ax,by rw[DW];rfl,?_⟩;rw[Jt,y,Nq,DW];exact vK (za (λ_ _ e=>vG (S3 _ _ e) (S3 _ _ j)) t) (vG I (S3 _ _ j))
 ·rintro ys H2 O ⟨f,s,j,rfl,t⟩;rw[Bg,W,Ld]at t;have fr:H acc=none:=YH g b;exact M acc H2 f fr (g.trans s) j t
end
end Bc
namespace Hr
open Pc
abbrev Dw:=Nat×Nat
noncomputable def add (e f:Dw):Dw:=(e.1^^^f.1,e.2^^^f.2)
def sat (x:Nat)(e:Dw):Prop:=pc (e.1&&&x)%2=e.2
noncomputable def bl (m:Nat):Nat:=if m=0 then 0 else m.log2+1
variable{m n:Nat}
theorem Gu:bl m<=n↔m<2^n:=by
 unfold bl;by_cases h:m=0
 ·subst h;simp[Cu]
 ·rw[if_neg h,<-ZG h];lia
theorem Gf:bl m=0↔m=0:=by
 unfold bl;by_cases h:m=0<;>simp[h]
theorem bw(m:Nat):m<2^bl m:=Gu.mp (CG _)
theorem bf{k:Nat}(h:bl m=k+1):2^k<=m:=by
 rcases Nat.lt_or_ge m (2^k) with c | c
 ·have:=Gu.mpr c;lia
 ·exact c
theorem vh:∀(k m o:Nat),2^k<=m->m<2^(k+1)->2^k<=o->o<2^(k+1)->(m^^^o)<2^k
 | 0,m,o,a,b,c,d=>by
  obtain rfl:m=1:=by simp at a b;lia
  obtain rfl:o=1:=by simp at c d;lia
  decide
 | k+1,m,o,a,b,c,d=>by
  have e1:2^(k+1+1)=2*2^(k+1):=KZ;have e2:2^(k+1)=2*2^k:=KZ;have:=vh k (m / 2) (o / 2) (by lia) (by lia) (by lia) (by lia);have e:=O7 m o;lia
theorem X3l{o:Nat}(h:bl m=bl o)(h0:m≠0):(m^^^o)<m:=by
 cases e:bl m with
 | zero=>exact absurd (Gf.mp e) h0
 | succ k =>
  have a:=bw m;have b:=bw o;rw[<-h,e]at b;rw[e]at a;exact Ea (vh k m o (bf e) a (bf (h ▸ e)) b) (bf e)
variable{x:Nat}{e:Dw}
theorem X9q{f:Dw}(he:sat x e)(hf:sat x f)(_:e.2<2)(_:f.2<2):sat x (add e f):=by
 unfold sat add at *;dsimp only;rw[Rk,Jw];have:=O7 e.2 f.2;have z:e.2 / 2=0:=by lia
 have a:f.2 / 2=0:=by lia
 rw[z,a]at this;have q:(0^^^0:Nat)=0:=rfl;lia
theorem W2k(e f:Dw):add (add e f) f=e:=by
 unfold add;simp[E_]
theorem Ib{a b:Nat}(h1:a<2)(h2:b<2):(a^^^b)<2:=Er (n:=1) h1 h2
noncomputable def comb:List Dw->Nat->Dw
 | [],_=>(0,0)
 | e::r,c=>if c%2=1 then add e (comb r (c / 2)) else comb r (c / 2)
theorem xU(e f:Dw):add e f=add f e:=by unfold add;rw[KY e.1,KY e.2]
theorem Ut(e f g:Dw):add (add e f) g=add e (add f g):=by unfold add;simp[E_]
theorem wD:∀(es:List Dw) (c d:Nat),comb es (c^^^d)=add (comb es c) (comb es d)
 | [],_,_=>by simp[comb,add]
 | e::r,c,d=>by
  have x:=O7 c d;have h1:(c^^^d) / 2=c / 2^^^d / 2:=by lia
  have h2:(c^^^d)%2=(c%2+d%2)%2:=by lia
  have f:=wD r (c / 2) (d / 2);unfold comb;rw[h1,h2,f];rcases Jv c with a | a<;>rcases Jv d with b | b<;>rw[a,b]
  ·rfl
  ·simp only[show (0+1)%2=1 from rfl,Ja,show ¬ (0=1) by decide,Jb];rw[<-Ut,<-Ut,xU e]
  ·simp only[show (1+0)%2=1 from rfl,Ja,show ¬ (0=1) by decide,Jb];rw[Ut]
  ·simp only[show ¬ ((1+1)%2=1) by decide,Ja,Jb];rw[xU e (comb r (c / 2)),Ut,<-Ut e e,show add e e=(0,0) by unfold add;simp,show add (0,0) (comb r (d / 2))=comb r (d / 2) by unfold add;simp]
theorem yG:∀es:List Dw,comb es 0=(0,0)
 | []=>rfl
 | e::r=>by unfold comb;simp[yG r]
theorem wC:∀(es:List Dw) (i:Nat) (e:Dw),es[i]?=some e->comb es (2^i)=e
 | [],i,e,h=>by simp at h
 | f::r,0,e,h=>by
  have:f=e:=by simpa using h
  subst this;unfold comb;simp[yG,add]
 | f::r,i+1,e,h=>by
  have q:r[i]?=some e:=by simpa using h
  have e1:2^(i+1) / 2=2^i:=by rw[KZ];lia
  have e2:2^(i+1)%2=0:=by rw[KZ];lia
  unfold comb;rw[e1,e2];simpa using wC r i e q
theorem YG:∀(es:List Dw) (c:Nat),(∀e∈es,e.2<2)->(comb es c).2<2
 | [],_,_=>by unfold comb;decide
 | e::r,c,h=>by
  have a:=YG r (c / 2) λf hf=>h f (Ju _ hf);unfold comb;split
  ·exact Ib (h e Je) a
  ·exact a
theorem W2j{k:Nat}(h1:2^k<=m)(h2:m<2^(k+1)):m&&&2^k=2^k:=by
 have e:m / 2^k=1:=by
  rw[KZ]at h2;have p:=Cu k;rw[Nat.div_eq_iff p];lia
 refine Rj λj=>?_;rw[Ni,QX];by_cases q:k=j
 ·subst q;rw[UG,e];simp
 ·simp[q]
theorem xY{k:Nat}(h:m<2^k):m&&&2^k=0:=by
 refine Rj λj=>?_;rw[Ni,QX,Nat.zero_testBit];by_cases q:k=j
 ·subst q;rw[sZ h];rfl
 ·simp[q]
theorem Yk:∀k:Nat,pc (2^k)=1
 | 0=>by rw[Qt];show 1%2+pc (1 / 2)=1;rw[show (1 / 2:Nat)=0 from rfl,GJ]
 | k+1=>by
  have e1:2^(k+1) / 2=2^k:=by rw[KZ];lia
  have e2:2^(k+1)%2=0:=by rw[KZ];lia
  rw[Qt,e1,e2,Yk k]
theorem bA{k:Nat}(h:x<2^k):(x ||| 2^k)=x^^^2^k:=by
 rw[Yd (x+2^k+1) x (2^k) (by lia) (by lia),xY h,Kv]
theorem pP{k:Nat}(h:x<2^k):(x^^^2^k)=x+2^k:=by
 have:=Nat.two_pow_add_eq_or_of_lt h 1;rw[ZK]at this;rw[<-bA h,Nat.or_comm,<-this,TY]
theorem X9p{k:Nat}(hx:x<2^k)(hk:bl e.1=k+1)(hb:e.2<2)(n:¬ sat x e):sat (x ||| 2^k) e:=by
 have a:=bw e.1;rw[hk]at a;unfold sat at *;rw[bA hx,Qc,Jw,W2j (bf hk) a,Yk];lia
theorem X4b{k:Nat}(hx:x<2^k)(hk:bl e.1<=k)(h:sat x e):sat (x ||| 2^k) e:=by
 unfold sat at *;rw[bA hx,Qc,Jw,xY (Gu.mp hk),GJ,Kv];exact h
theorem W7e{k:Nat}(hx:x<2^k):(x ||| 2^k)<2^(k+1):=by
 rw[bA hx,pP hx,KZ];lia
noncomputable def places (c n:Nat):List Nat:=(List.range n).filter λj=>decide (c / 2^j%2=1)
theorem SJ{c p:Nat}(h:p∈places c n):p<n:=Ek.mp (Za.mp h).1
theorem Yb(c n:Nat):places c (n+1)=places c n++(if c / 2^n%2=1 then [n] else []):=by
 unfold places;rw[Ra,Oj];by_cases h:c / 2^n%2=1<;>simp[h]
abbrev Ent:=Nat×Nat×Nat
noncomputable def DQ (t:Ent):Dw:=(t.1,t.2.1)
structure Good (es:List Dw) (i:Nat) (ts:List Ent):Prop where
 nz:∀t∈ts,t.1≠0
 com:∀t∈ts,comb es t.2.2=DQ t
 lt:∀t∈ts,t.2.2<2^i
 nd:(ts.map λt=>bl t.1).Nodup
 len:ts.length<=i
 all:∀x,(∀t∈ts,sat x (DQ t))->∀j e,j<i->es[j]?=some e->sat x e
theorem Good.start(es:List Dw):Good es 0 []:=⟨by simp,by simp,by simp,by simp,by simp,λ_ _ j e h=>by lia⟩
structure Left (es:List Dw) (i:Nat) (ts:List Ent) (e:Dw) (t:Ent):Prop where
 com:comb es t.2.2=DQ t
 lt:t.2.2<2^(i+1)
 sat:∀x,(∀t∈ts,sat x (DQ t))->sat x (DQ t)->sat x e
variable{es:List Dw}{i:Nat}{ts:List Ent}
theorem Left.start(h:es[i]?=some e):Left es i ts e (e.1,e.2,2^i):=
 ⟨wC es i e h,Jf (by decide) (Oh _),λ_ _ z=>z⟩
theorem wF(s t:Ent):DQ (s.1^^^t.1,s.2.1^^^t.2.1,s.2.2^^^t.2.2)=add (DQ s) (DQ t):=rfl
variable{t:Ent}
theorem Left.step{s:Ent}(hb:∀e∈es,e.2<2)(G:Good es i ts)(L:Left es i ts e s)(ht:t∈ts):Left es i ts e (s.1^^^t.1,s.2.1^^^t.2.1,s.2.2^^^t.2.2):=by
 refine⟨?_,?_,λx b z=>L.sat x b ?_⟩
 ·rw[wF];show comb es (s.2.2^^^t.2.2)=_;rw[wD,L.com,G.com t ht]
 ·exact Er L.lt (RT (G.lt t ht) (Jf (by decide) (Oh _)))
 ·rw[wF]at z;have c:(DQ s).2<2:=by rw[<-L.com];exact YG es _ hb
  have a:(DQ t).2<2:=by rw[<-G.com t ht];exact YG es _ hb
  have q:=X9q z (b t ht) (Ib c a) a;rw[W2k]at q;exact q
theorem Left.bit(hb:∀e∈es,e.2<2)(L:Left es i ts e t):t.2.1<2:=by
 have:(DQ t).2<2:=by rw[<-L.com];exact YG es _ hb
 exact this
theorem ug(i:Nat):2^i<2^(i+1):=Jf (by decide) (Oh _)
theorem Good.put(G:Good es i ts)(he:es[i]?=some e)(L:Left es i ts e t)(h0:t.1≠0)(hn:∀s∈ts,bl s.1≠bl t.1):Good es (i+1) (ts++[t]) where
 nz:=λs c=>by
  rcases Io.mp c with q | q
  ·exact G.nz s q
  ·rw[Fj.mp q];exact h0
 com:=λs c=>by
  rcases Io.mp c with q | q
  ·exact G.com s q
  ·rw[Fj.mp q];exact L.com
 lt:=λs c=>by
  rcases Io.mp c with q | q
  ·exact RT (G.lt s q) (ug i)
  ·rw[Fj.mp q];exact L.lt
 nd:=by
  rw[DW,List.nodup_append];refine⟨G.nd,by simp,λa g b hb=>?_⟩;obtain⟨s,c,rfl⟩:=Ej.mp g;obtain rfl:b=bl t.1:=by simpa using hb
  exact hn s c
 len:=by rw[JM];have:=G.len;simp;lia
 all:=λx d j f h hf=>by
  have h1:∀s∈ts,sat x (DQ s):=λs c=>d s (QZ _ c);by_cases hji:j<i
  ·exact G.all x h1 j f hji hf
  ·obtain rfl:j=i:=by lia
   rw[he]at hf;cases hf;exact L.sat x h1 (d t (by simp))
theorem Good.skip(G:Good es i ts)(he:es[i]?=some e)(L:Left es i ts e t)(h0:t.1=0)(hb:t.2.1=0):Good es (i+1) ts where
 nz:=G.nz
 com:=G.com
 lt:=λs b=>RT (G.lt s b) (ug i)
 nd:=G.nd
 len:=Nat.le_succ_of_le G.len
 all:=λx a j f c hf=>by
  by_cases hji:j<i
  ·exact G.all x a j f hji hf
  ·obtain rfl:j=i:=by lia
   rw[he]at hf;cases hf;refine L.sat x a ?_;unfold sat DQ;rw[h0,hb,Tc,GJ]
theorem yH{f:Ent->Nat}:∀{ts:List Ent},(ts.map f).Nodup->∀{s t},s∈ts->t∈ts->f s=f t->s=t
 | [],_,s,t,hs,_,_=>by cases hs
 | a::r,nd,s,t,hs,ht,e=>by
  rw[Ez,La]at nd;rcases Dj.mp hs with h1 | h1<;>rcases Dj.mp ht with h2 | h2
  ·rw[h1,h2]
  ·exact absurd (Ej.mpr ⟨t,h2,by rw[<-e,h1]⟩) nd.1
  ·exact absurd (Ej.mpr ⟨s,h1,by rw[e,h2]⟩) nd.1
  ·exact yH nd.2 h1 h2 e
theorem W1v{ks:U6}(nd:(ts.map λt=>bl t.1).Nodup)(p:ks.Perm (ts.map λt=>(bl t.1:Int)))(o:ks.Pairwise (·<=·)):ks.Pairwise (·<·):=by
 have d:(ts.map λt=>(bl t.1:Int)).Nodup:=by
  rw[List.Nodup,Wd]at nd ⊢;exact nd.imp λh z=>h (Int.ofNat.inj z)
 have c:ks.Nodup:=p.nodup_iff.mpr d;exact(o.and c).imp λ⟨a,b⟩=>by lia
structure N_ (ts:List Ent) (ks:U6) (j x:Nat):Prop where
 done:∀t∈ts,∀i,i<j->ks[i]?=some (bl t.1:Int)->sat x (DQ t)
 low:∀h,ks[j]?=some h->x<2^(h.toNat-1)
theorem N_.start(ts:List Ent)(ks:U6):N_ ts ks 0 0:=⟨λ_ _ i h=>by lia,λh _=>Cu _⟩
theorem rise{ks:U6}(o:ks.Pairwise (·<·)){j:Nat}{a b:Int}(h:i<j)(ha:ks[i]?=some a)(hb:ks[j]?=some b):a<b:=by
 obtain⟨h1,rfl⟩:=Et.mp ha;obtain⟨h2,rfl⟩:=Et.mp hb;exact T_.mp o i j h1 h2 h
theorem N_.step{ks:U6}{j:Nat}(S:N_ ts ks j x)(nd:(ts.map λt=>bl t.1).Nodup)(o:ks.Pairwise (·<·))(ht:t∈ts)(nz:t.1≠0)(hb:t.2.1<2)(hj:ks[j]?=some (bl t.1:Int)):
  (sat x (DQ t)->N_ ts ks (j+1) x)/\(¬ sat x (DQ t)->N_ ts ks (j+1) (x ||| 2^(bl t.1-1))):=by
 have d:bl t.1≠0:=λz=>nz (Gf.mp z);obtain⟨k,c⟩:∃k,bl t.1=k+1:=⟨bl t.1-1,by lia⟩;have b:=S.low _ hj;rw[G8,c,Wh]at b;have same:∀s∈ts,ks[j]?=some (bl s.1:Int)->s=t:=λs a e=>yH nd a ht (by rw[e]at hj;exact Int.ofNat.inj (Option.some.inj hj));have next:∀h,ks[j+1]?=some h->k+1<=h.toNat-1:=λh e=>by
  have:=rise o (Oh j) hj e;lia
 rw[c,Wh];constructor
 ·intro z;refine⟨λs a i hi e=>?_,λh e=>?_⟩
  ·by_cases q:i<j
   ·exact S.done s a i q e
   ·obtain rfl:i=j:=by lia
    rw[same s a e];exact z
  ·exact Ea b (Ir (by decide) (G7 (Nat.le_succ k) (next h e)))
 ·intro z;refine⟨λs a i hi e=>?_,λh e=>?_⟩
  ·by_cases q:i<j
   ·have:=rise o q e hj;exact X4b b (by show bl s.1<=k;lia) (S.done s a i q e)
   ·obtain rfl:i=j:=by lia
    rw[same s a e];exact X9p b c hb z
  ·exact Ea (W7e b) (Ir (by decide) (next h e))
theorem N_.all{ks:U6}(S:N_ ts ks ks.length x)(p:ks.Perm (ts.map λt=>(bl t.1:Int))):∀t∈ts,sat x (DQ t):=λt a=>by
 have m:(bl t.1:Int)∈ks:=p.mem_iff.mpr (Ej.mpr ⟨t,a,U⟩);obtain⟨i,hi,e⟩:=Om.mp m;exact S.done t a i hi (by rw[Cm hi,e])
end Hr
namespace Ay
open L2 Pc Hr
noncomputable def top (i:Nat):Stmt:=PySem.Challenge.pw_spinboard_k56_whole_looks_at_tables.main.body.getD i (.Pass ⟨0,0,0,0⟩)
structure Bs (mg:U4):Prop where
 isinstance:mg "isinstance"=none
 int:mg "int"=none
 bool:mg "bool"=none
 tuple:mg "tuple"=none
 list:mg "list"=none
 len:mg "len"=none
 range:mg "range"=none
 enumerate:mg "enumerate"=none
 sorted:mg "sorted"=none
 sum:mg "sum"=none
 str:mg "str"=none
 all:mg "all"=none
 any:mg "any"=none
 min:mg "min"=none
 max:mg "max"=none
theorem bO(m:Nat):Builtin.Int.intBits (m:Int)=bl m:=by
 unfold Builtin.Int.intBits bl;by_cases h:m=0
 ·subst h;rfl
 ·have hb:((m:Int) == 0)=false:=by simpa using h
  rw[hb,if_neg h];simp
noncomputable abbrev T3 (t:Ent):HO:=.tup [.int t.1,.int t.2.1,.int t.2.2]
def Kept (H:Hp):List (Key×V)->List Ent->Prop:=Paired λkv t=>kv.1=Sum.inl (bl t.1:Int)/\∃p,kv.2=.ref p/\H p=some (T3 t)
variable{H H':Hp}{kvs:List (Key×V)}{ts:List Ent}
theorem Kept.same(h:Kept H kvs ts)(s:Same H H'):Kept H' kvs ts :=
 Paired.imp' (λ_ _ ⟨a,p,b,c⟩=>⟨a,p,b,s _ _ c⟩) h
theorem Kept.get{H:Hp}{k:Int}{v:V}:∀{kvs:List (Key×V)}{ts:List Ent},Kept H kvs ts->Di kvs (Sum.inl k)=some v->∃t∈ts,∃p,(bl t.1:Int)=k/\v=.ref p/\H p=some (T3 t)
 | [],[],_,h=>by simp[X3o]at h
 | kv::kvs,t::ts,.cons ⟨a,p,b,c⟩ r,h=>by
  by_cases e:kv.1=Sum.inl k
  ·rw[YS e]at h;cases h;rw[a]at e;exact⟨t,Je,p,Sum.inl.inj e,b,c⟩
  ·rw[YQ e]at h;obtain⟨t',m,q⟩:=Kept.get r h;exact⟨t',Ju _ m,q⟩
theorem Kept.none{H:Hp}{k:Int}:∀{kvs:List (Key×V)}{ts:List Ent},Kept H kvs ts->Di kvs (Sum.inl k)=none->∀t∈ts,(bl t.1:Int)≠k
 | [],[],_,_,t,ht=>by cases ht
 | kv::kvs,t::ts,.cons ⟨a,p,b,c⟩ r,h,t',ht=>by
  by_cases e:kv.1=Sum.inl k
  ·rw[YS e]at h;cases h
  ·rw[YQ e]at h;rcases Dj.mp ht with rfl | ht
   ·intro z;rw[a,z]at e;exact e rfl
   ·exact Kept.none r h t' ht
theorem Kept.snoc{p:W9}{t:Ent}(h:Kept H kvs ts)(hp:H p=some (T3 t)):Kept H (kvs++[(Sum.inl (bl t.1:Int),.ref p)]) (ts++[t]):=
 Paired.snoc h ⟨U,p,U,hp⟩
theorem Kept.keys{H:Hp}:∀{kvs:List (Key×V)}{ts:List Ent},Kept H kvs ts->kvs.map (·.1)=(ts.map λt=>(bl t.1:Int)).map Sum.inl
 | [],[],_=>rfl
 | kv::kvs,t::ts,.cons ⟨a,_⟩ r=>by rw[Ez,Ez,Ez,Kept.keys r,a]
theorem Kept.length(h:Kept H kvs ts):kvs.length=ts.length:=Paired.length h
noncomputable abbrev T2 (e:Dw):HO:=.tup [.int e.1,.int e.2]
def Eqs (H:Hp):List Addr->List Dw->Prop:=Paired λp e=>H p=some (T2 e)
variable{es:List Dw}
theorem Eqs.same{ps:U3}(h:Eqs H ps es)(s:Same H H'):Eqs H' ps es:=Paired.imp' (λ_ _ c=>s _ _ c) h
theorem Eqs.length{ps:U3}(h:Eqs H ps es):ps.length=es.length:=Paired.length h
theorem Eqs.get{H:Hp}:∀{ps:U3}{es:List Dw}{i:Nat}{p:W9},Eqs H ps es->ps[i]?=some p->∃e,es[i]?=some e/\H p=some (T2 e)
 | p'::ps,e::es,0,p,.cons a r,h=>by
  have:p'=p:=by simpa using h
  subst this;exact⟨e,U,a⟩
 | p'::ps,e::es,i+1,p,.cons a r,h=>by
  obtain⟨f,b,c⟩:=Eqs.get (ps:=ps) (es:=es) (i:=i) (p:=p) r (by simpa using h);exact⟨f,by simpa using b,c⟩
structure Pu (es:List Dw):Prop where
 bit:∀e∈es,e.2<2
 mask:∀e∈es,e.1<2^200
theorem yF:∀(es:List Dw) (c:Nat),(∀e∈es,e.1<2^200)->(comb es c).1<2^200
 | [],_,_=>by unfold comb;exact Cu 200
 | e::r,c,h=>by
  have a:=yF r (c / 2) λf hf=>h f (Ju _ hf);unfold comb;split
  ·exact Er (h e Je) a
  ·exact a
def DP:Sp:=λvs H Q _=>∃n:Nat,vs=[.int n]/\Q (.int (pc n)) H
def xG:Sp:=λvs H Q _=>∃c:Nat,vs=[.int c]/\c<2^64/\∀(l:W9) (H':Hp),Same H H'->H' l=some (.lst ((places c (bl c)).map λp=>V.int (p:Nat)))->Q (.ref l) H'
def yR:Sp:=λvs H Q _=>∃(p d:W9) (t:Ent) (kvs:List (Key×V)) (ts:List Ent) (es:List Dw) (i:Nat) (e:Dw),vs=[.ref p,.ref d]/\H p=some (T3 t)/\H d=some (.dK kvs)/\Kept H kvs ts/\Pu es/\Good es i ts/\Left es i ts e t /\
 ∀(p':W9) (H':Hp) (t':Ent),Same H H'->H' p'=some (T3 t')->Left es i ts e t'->(∀s∈ts,bl s.1≠bl t'.1)->Q (.ref p') H'
section
variable {P:U8}{w:W1}{K:U0}{mg:U4}{base:Heap}{k:Nat}{h:Heap}
theorem W0k(F:Ab K "ones" (top 17) .none)(X:K.In h)(G:Ng h mg):Ah P w K mg base (k+1) "ones" ["number"] DP:=by
 refine F.cal X G ["number","many","rest"] λa H vs Q E f h=>?_;obtain⟨n,rfl,q⟩:=h
 refine⟨_,(@Aq _ _ _ _ _ (@Bb _ _ 1 _ _ _ _ a rfl (Or.inl rfl) Ac rfl (.inl rfl))
  (@Aq _ _ _ _ _ (@Bb _ _ 2 _ _ _ _ a rfl (Or.inl rfl) (pv 0) rfl (.inl rfl))
  (@Aq _ _ _ _ _ (Z2 PassesOwn.never (B_ Jh (pv 2) Ac (Ad _))
   (@Aq _ _ _ _ _ (@Bb _ _ 2 _ _ _ _ a rfl (Or.inl rfl) (Af Dz (pv 2) (Af Ji (pv 2) Ac)) rfl (.inl rfl))
   (@Ak _ _ _ (@Bb _ _ 1 _ _ _ _ a rfl (Or.inl rfl) (Af El (pv 1) Ac) rfl (.inl rfl)))))
  (@Ak _ _ _ (BJ (pv 1)))))),?_⟩
 try dsimp only[Bm]
 refine⟨_,U,λm σ H'=>H'=H/\∃j r:Nat,m=pc r/\j+pc r=pc n/\σ=[some (.int n),some (.int j),some (.int r)],⟨_,U,0,n,U,Jr _,U⟩,?_⟩;rintro m σ H' ⟨rfl,j,r,rfl,c,rfl⟩;refine⟨_,U,U,_,U,Kc (λb=>?_) (λb=>?_)⟩
 ·have r0:r≠0:=by lia
  have e:=vH (r+1) r (by lia) r0;refine⟨_,λd H' x=>x,?_⟩;refine⟨_,U,_,U,_,_,U,U,_,_,U,U,?_⟩;refine⟨_,U,_,_,U,U,⟨pc (r&&&(r-1)),by lia,U,j+1,r&&&(r-1),U,by lia,?_⟩⟩;have e2:Builtin.bitAnd (r:Int) ((r:Int)-1)=((r&&&(r-1):Nat):Int):=by rw[show (r:Int)-1=((r-1:Nat):Int) by lia,Jg]
  show [some (V.int n),some (V.int ((j:Int)+1)),some (V.int (Builtin.bitAnd (r:Int) ((r:Int)-1)))]=_;rw[e2];rfl
 ·have r0:r=0:=by lia
  subst r0;rw[GJ,Kv]at c;subst c;exact⟨_,U,q⟩
theorem Y7w(F:Ab K "cleared" (top 58) .none)(X:K.In h)(G:Ng h mg):Ah P w K mg base (k+1) "cleared" ["equation","kept"] yR:=by
 refine F.cal X G ["equation","kept","left","other"] λo H vs Q E g h=>?_;obtain⟨p,d,t,kvs,ts,es,i,e,rfl,hp,hd,D,c,I,J,O⟩:=h
 refine⟨_,(@Aq _ _ _ _ _ (@Bb _ _ 2 _ _ _ _ o rfl (Or.inl rfl) (pv 0) rfl (.inl rfl))
  (@Aq _ _ _ _ _ (Z2 PassesOwn.never (zj (W4a (dh g) (Qq Qa Oo Qd Q0 (Ai Ao (pv 2) Ac (λ_ _=>rfl))) (pv 1)))
   (@Aq _ _ _ _ _ (@Bb _ _ 3 _ _ _ _ o rfl (Or.inl rfl) (vJ (dh g) (pv 1) (Qq Qa Oo Qd Q0 (Ai Ao (pv 2) Ac (λ_ _=>rfl))) (λ_ _=>rfl)) rfl (.inl rfl))
   (@Ak _ _ _ (@Bb _ _ 2 _ _ _ _ o rfl (Or.inl rfl) (@Dg _ _ _ _ _ (Aa (Af JN (Ai Ao (pv 2) Ac (λ_ _=>rfl)) (Ai Ao (pv 3) Ac (λ_ _=>rfl))) (Aa (Af JN (Ai Ao (pv 2) Ac (λ_ _=>rfl)) (Ai Ao (pv 3) Ac (λ_ _=>rfl))) (Aa (Af JN (Ai Ao (pv 2) Ac (λ_ _=>rfl)) (Ai Ao (pv 3) Ac (λ_ _=>rfl))) Ae)))) rfl (.inl rfl)))))
  (@Ak _ _ _ (BJ (pv 2))))),?_⟩
 try dsimp only[Bm]
 refine⟨_,U,λm σ H'=>Same H H'/\∃(q:W9) (u:Ent) (v:Option V),m=u.1/\H' q=some (T3 u)/\Left es i ts e u/\σ=[some (.ref p),some (.ref d),some (.ref q),v],⟨_,Same.refl _,p,t,none,U,hp,J,U⟩,?_⟩;rintro m σ H1 ⟨b,q,u,v,rfl,C,y,rfl⟩;have S:∀{H'},Same H1 H'->Ag K H' q [.int u.1,.int u.2.1,.int u.2.2]:=λz=>Ag.of (z _ _ C);have A:=bO u.1;refine⟨_,U,q,_,_,_,U,U,S (Same.refl _),U,U,_,U,U,?_⟩;rw[A];refine⟨_,U,d,_,U,HJ.k (k:=Sum.inl (bl u.1:Int)) (b _ _ hd),_,U,?_⟩;cases hv:Di kvs (Sum.inl (bl u.1:Int)) with
 | none =>
  refine Bj ⟨_,rfl,?_⟩;exact O q H1 u b C y λs L z=>D.none hv s L (by rw[z])
 | some x =>
  obtain⟨t',B,f,M,rfl,j⟩:=D.get hv;have l:=b _ _ j;have n:∀{H'},Same H1 H'->Ag K H' f [.int t'.1,.int t'.2.1,.int t'.2.2]:=λz=>Ag.of (z _ _ l);refine C_ ⟨_,λR H' x=>x,?_⟩;refine⟨_,U,_,U,q,_,_,_,U,U,S (Same.refl _),U,U,_,U,U,?_⟩;rw[A];refine⟨d,_,U,(by rw[<-hv];exact HJ.k (k:=Sum.inl (bl u.1:Int)) (b _ _ hd)),?_⟩;refine⟨_,U,q,_,_,_,U,U,S (Same.refl _),U,_,U,f,_,_,_,U,U,n (Same.refl _),U,_,_,U,U,_,U,q,_,_,_,U,U,S (Same.refl _),U,_,U,f,_,_,_,U,U,n (Same.refl _),U,_,_,U,U,_,U,q,_,_,_,U,U,S (Same.refl _),U,_,U,f,_,_,_,U,U,n (Same.refl _),U,_,_,U,U,(by show 3<=sizeLine;decide),λr g=>?_⟩;have a:bl u.1=bl t'.1:=(Int.ofNat.inj M).symm;have N:u.1≠0:=λz=>I.nz t' B (Gf.mp (by rw[<-a,z];rfl));refine⟨u.1^^^t'.1,X3l a N,b.trans (BR g _),r,(u.1^^^t'.1,u.2.1^^^t'.2.1,u.2.2^^^t'.2.2),_,U,?_,y.step c.bit I B,U⟩;rw[Ax];show some (HO.tup [.int (Builtin.bitXor (u.1:Int) t'.1),.int (Builtin.bitXor (u.2.1:Int) t'.2.1),.int (Builtin.bitXor (u.2.2:Int) t'.2.2)])=_;rw[J5,J5,J5]
def uZ:Sp:=λvs H Q _=>∃(d:W9) (kvs:List (Key×V)) (ts:List Ent) (es:List Dw) (i:Nat),vs=[.ref d]/\H d=some (.dK kvs)/\Kept H kvs ts/\Pu es/\Good es i ts/\i<=60 /\
 ∀(x:Nat) (H':Hp),Same H H'->(∀t∈ts,sat x (DQ t))->Q (.int x) H'
def Told (es:List Dw)(H:Hp)(r:W9):Prop:=(∃x:Nat,H r=some (.tup [.int x,.non])/\∀e∈es,sat x e) \/
 ∃(c:Nat) (q:W9),H r=some (.tup [.non,.ref q])/\H q=some (.lst ((places c (bl c)).map λp=>V.int (p:Nat)))/\c<2^es.length/\comb es c=(0,1)
def xM (K:U0):Sp:=λvs H Q _=>∃(l:W9) (ps:U3) (es:List Dw),vs=[.ref l]/\Aw K H l (ps.map V.ref)/\Eqs H ps es/\Pu es/\es.length<=60 /\
 ∀(r:W9) (H':Hp),Same H H'->Told es H' r->Q (.ref r) H'
theorem Ky(x y:Nat):Builtin.bitOr (x:Int) (y:Int)=((x ||| y:Nat):Int):=by
 have h:Builtin.bitXor (x:Int) (y:Int)=Builtin.bitOr x y-Builtin.bitAnd x y:=rfl;rw[J5,Jg]at h;have e:=Yd (x+y+1) x y (by lia) (by lia);lia
theorem PX(x y:Nat):[V.int (Builtin.bitAnd (x:Int) (y:Int))]=[V.int ((x&&&y:Nat):Int)]:=by rw[Jg]
theorem Lr:(0:Int)<2:=by decide
theorem HN:Sz 1 1:=by decide +kernel
theorem Kept.upd{d:W9}{kv0 kv1:List (Key×V)}(h:Kept H kvs ts)(hd:H d=some (.dK kv0)):Kept (upd H d (.dK kv1)) kvs ts :=
 Paired.imp' (λ_ _ ⟨a,p,b,c⟩=>⟨a,p,b,by rw[Cg (Q_ c hd (by intro z;cases z))];exact c⟩) h
theorem t2:2<=sizeLine:=by decide
theorem Qw:(0:Int)<4:=by decide
theorem Jq{n:Nat}(h:n<=64):n<=sizeLine:=G7 h (by decide)
theorem X0e(F:Ab K "places_at_one" (top 59) .none)(X:K.In h)(G:Ng h mg)(B:Bs mg):Ah P w K mg base (k+1) "places_at_one" ["number"] xG:=by
 refine F.cal X G ["number"] λx H vs Q E u h=>?_;obtain⟨c,rfl,l,s⟩:=h;have hb:bl c<=64:=Gu.mpr l;refine⟨_,(@Ak _ _ _ (BJ (bB rfl (Bp.of (Nc:=["place","number"]) (mp:=[none,some 0]) (by kernel_rfl)) (Lw rfl B.range (Aa (Qq Qa Oo Qd Q0 (pv 0)) Ae)) (λ_ _ _ _=>(DR (i:=0) (show (["place","number"]:W0).Nodup by decide +kernel) rfl (Or.inl rfl))) (λ_ _ _ _=>(K7 (Af Dz (Af M5 (pv 1) (pv 0)) Ac) (by intro _;rfl))) (λ_ _ _ _=>(pv 0))))),?_⟩;try dsimp only[Bm]
 refine⟨_,U,U,_,U,U,?_⟩;rw[bO];refine⟨_,U,by lia,by lia,λacc a=>?_⟩;rw[G8];refine yL (n:=bl c) (fr:=[some (.int c)]) (λi ys H'=>Same H H'/\H' acc=some (.lst ys)/\ys=(places c i).map λp=>V.int (p:Nat)) (Jq hb) ⟨BR a _,Ax,U⟩ ?_ (λm z=>?_) ?_
 ·rintro i ys H2 N hi t ⟨g,f,rfl⟩ r;refine⟨_,U,_,U,_,_,U,U,by lia,_,_,U,U,_,U,?_⟩;have j:(0:Int)+(i:Int)=(i:Int):=LQ _;have e1:(c:Int) / 2^(0+(i:Int)).toNat=((c / 2^i:Nat):Int):=by rw[j,G8];simp
  have e2:Builtin.bitAnd ((c / 2^i:Nat):Int) 1=((c / 2^i%2:Nat):Int):=by
   have:=Jg (c / 2^i) 1;rw[Nat.and_one_is_mod]at this;exact this
  have ps:=Yb c i;rw[e1,e2];refine r _ _ (λd=>?_) (λb=>?_)
  ·have h1:c / 2^i%2=1:=by
    have:c / 2^i%2≠0:=λz=>by rw[z]at d;cases d
    lia
   rw[if_pos h1]at ps;refine⟨_,U,f,Fw g a,Ax,?_⟩;rw[ps,DW,j];rfl
  ·have o:¬ c / 2^i%2=1:=λz=>by rw[z]at b;cases b
   rw[if_neg o,Mq]at ps;exact⟨g,f,by rw[ps]⟩
 ·obtain⟨v,e,q⟩:=z;exact⟨v,e,m _ _ q⟩
 ·rintro ys H2 ⟨g,f,rfl⟩;exact s acc H2 g f
theorem Y4b(F:Ab K "solution" (top 60) .none)(X:K.In h)(G:Ng h mg)(B:Bs mg)(cG:Ah P w K mg base k "ones" ["number"] DP):Ah P w K mg base (k+1) "solution" ["kept"] uZ:=by
 refine F.cal X G ["kept","x","height","equation"] λnd H vs Q E N h=>?_;obtain⟨d,kvs,ts,es,i,rfl,hd,A,b,f,hi,kq⟩:=h;have I:=A.length;have M:=f.len
 refine⟨_,(@Aq _ _ _ _ _ (@Bb _ _ 1 _ _ _ _ nd rfl (Or.inl rfl) Ac rfl (.inl rfl))
  (@Aq _ _ _ _ _ (J7 PassesOwn.never rfl (G_ (Ck (Y2q rfl) rfl B.sorted boot_sorted (Aa (pv 0) Ae))) (DR (i:=2) nd rfl (Or.inl rfl))
   (@Aq _ _ _ _ _ (@Bb _ _ 3 _ _ _ _ nd rfl (Or.inl rfl) (vJ (dh N) (pv 0) (pv 2) (λ_ _=>rfl)) rfl (.inl rfl))
   (@Ak _ _ _ (Bx (B_ Jh (Af Dt (Av cG N rfl (Aa (Af Dz (Ai Ao (pv 3) Ac (λ_ _=>rfl)) (pv 1)) Ae)) Ac) (Ai Ao (pv 3) Ac (λ_ _=>rfl)) (Ad _))
    (@Ak _ _ _ (@Bb _ _ 1 _ _ _ _ nd rfl (Or.inl rfl) (Af Pa (pv 1) (Af G3 Ac (Af Ji (pv 2) Ac))) rfl (.inl rfl)))
    CK))))
  (@Ak _ _ _ (BJ (pv 1))))),?_⟩
 try dsimp only[Bm]
 refine⟨_,U,d,kvs,_,U,hd,A.keys,by lia,λl ks O perm u=>?_⟩;have q:=BR O (.lst (ks.map V.int));have o:=W1v f.nd perm u;refine⟨l,U,⟨_,Aw.of Ax⟩,O8 (K:=K) (a:=l) (xs:=ks.map V.int) (λj σ H'=>Same (upd H l (.lst (ks.map V.int))) H'/\∃(x:Nat) (v2 C:Option V),N_ ts ks j x/\σ=[some (.ref d),some (.int x),v2,C]) ⟨Same.refl _,0,none,none,N_.start ts ks,U⟩ (λj σ H' _ e=>Aw.of (e.1 _ _ Ax)) ?_ ?_⟩
 ·rintro j xv σ H1 L ⟨g,x,v2,C,S,rfl⟩;rw[Cj]at L;obtain⟨W,s,rfl⟩:=Es.mp L;have R:W∈ts.map λt=>(bl t.1:Int):=perm.mem_iff.mp (GQ s);obtain⟨J,r,rfl⟩:=Ej.mp R;have y:=g _ _ (q _ _ hd);have m:=(A.same q).same g;cases hv:Di kvs (Sum.inl (bl J.1:Int)) with
  | none=>exact absurd rfl (m.none hv J r)
  | some v =>
   obtain⟨t,n,p,Y,rfl,hp⟩:=m.get hv;have hb:t.2.1<2:=by
    have:(DQ t).2<2:=by rw[<-f.com t n];exact YG es _ b.bit
    exact this
   have c:t.1<2^200:=by
    have:(DQ t).1<2^200:=by rw[<-f.com t n];exact yF es _ b.mask
    exact this
   have a0:bl t.1<=200:=Gu.mpr c;have h0:bl t.1≠0:=λz=>f.nz t n (Gf.mp z);rw[<-Y]at s hv ⊢;have st:=S.step f.nd o n (f.nz t n) hb s;have D:Ag K H1 p [.int t.1,.int t.2.1,.int t.2.2]:=Ag.of hp;refine⟨_,U,_,U,d,_,U,(by rw[<-hv];exact HJ.k (k:=Sum.inl (bl t.1:Int)) y),?_⟩;refine⟨_,U,p,_,_,_,U,U,D,U,_,U,_,_,U,U,t.1&&&x,PX _ _,_,_,U,U,Lr,_,U,p,_,_,_,U,U,D,U,U,_,U,Kc (λZ=>?_) (λeq=>?_)⟩
   ·have hn:¬ sat x (DQ t):=λz=>Z (by show ((pc (t.1&&&x):Nat):Int)%2=(t.2.1:Int);have:pc (t.1&&&x)%2=t.2.1:=z;lia);refine⟨_,U,_,U,_,_,U,U,_,_,U,U,⟨1,HN,by lia,by lia⟩,_,_,U,U,g,x ||| 2^(bl t.1-1),some (V.int (bl t.1:Int)),some (V.ref p),st.2 hn,?_⟩;have e1:(1:Int)*2^((bl t.1:Int)-1).toNat=((2^(bl t.1-1):Nat):Int):=by
     rw[show ((bl t.1:Int)-1).toNat=bl t.1-1 by lia];simp
    show [some (V.ref d),some (V.int (Builtin.bitOr (x:Int) (1*2^((bl t.1:Int)-1).toNat))),some (V.int (bl t.1:Int)),some (V.ref p)]=_;rw[e1,Ky]
   ·have T:sat x (DQ t):=by
     show pc (t.1&&&x)%2=t.2.1;have:((pc (t.1&&&x):Nat):Int)%2=(t.2.1:Int):=eq;lia
    exact⟨g,x,_,_,st.1 T,U⟩
 ·rintro σ H1 ⟨g,x,v2,C,S,rfl⟩;rw[Bg]at S;exact⟨_,U,kq x H1 (q.trans g) (S.all perm)⟩
theorem Y9z(F:Ab K "solved" (top 57) .none)(X:K.In h)(G:Ng h mg)(B:Bs mg)(gB:Ah P w K mg base k "cleared" ["equation","kept"] yR)(dO:Ah P w K mg base k "places_at_one" ["number"] xG)(gA:Ah P w K mg base k "solution" ["kept"] uZ):Ah P w K mg base (k+1) "solved" ["equations"] (xM K):=by
 refine F.cal X G ["equations","kept","place","equation","left"] λnd H vs Q E m h=>?_;obtain⟨l,ps,es,rfl,hS,he,b,a4,kq⟩:=h;have D:=he.length
 refine⟨_,(@Aq _ _ _ _ _ (@Bb _ _ 1 _ _ _ _ nd rfl (Or.inl rfl) X4k rfl (.inl rfl))
  (@Aq _ _ _ _ _ (J7 PassesOwn.never rfl (YB rfl B.enumerate (Aa (pv 0) Ae)) (@oO _ _ _ _ _ _ rfl (@Qy _ _ _ _ _ (@DR _ _ 2 _ nd rfl (Or.inl rfl) (by first | exact .inl rfl | exact .inr rfl)) (@Qy _ _ _ _ _ (@DR _ _ 3 _ nd rfl (Or.inl rfl) (by first | exact .inl rfl | exact .inr rfl)) bR rfl) rfl) rfl rfl)
   (@Aq _ _ _ _ _ (@Bb _ _ 4 _ _ _ _ nd rfl (Or.inl rfl) (Av gB m rfl (Aa (@Dg _ _ _ _ _ (Aa (Ai Ao (pv 3) Ac (λ_ _=>rfl)) (Aa (Ai Ao (pv 3) Ac (λ_ _=>rfl)) (Aa (Af G3 Ac (pv 2)) Ae)))) (Aa (pv 1) Ae))) rfl (.inl rfl))
   (@Ak _ _ _ (Bx (B_ Jh (Ai Ao (pv 4) Ac (λ_ _=>rfl)) Ac (Ad _))
    (@Ak _ _ _ (X9y (dh m) (pv 1) (Qq Qa Oo Qd Q0 (Ai Ao (pv 4) Ac (λ_ _=>rfl))) (pv 4) rfl))
    (@Ak _ _ _ (Bx (B_ Dr (Ai Ao (pv 4) Ac (λ_ _=>rfl)) Ac (Ad _))
     (@Ak _ _ _ (BJ (@Dg _ _ _ _ _ (Aa Lj (Aa (Av dO m rfl (Aa (Ai Ao (pv 4) Ac (λ_ _=>rfl)) Ae)) Ae)))))
     CK))))))
  (@Ak _ _ _ (BJ (@Dg _ _ _ _ _ (Aa (Av gA m rfl (Aa (pv 1) Ae)) (Aa Lj Ae))))))),?_⟩
 try dsimp only[Bm]
 refine λd hd=>?_
 refine⟨_,U,l,_,U,(BR hd _).seq hS,wH (K:=K) (a:=l) (xs:=ps.map V.ref) (λi σ H'=>Same H H'/\∃(kvs:List (Key×V)) (ts:List Ent) (v2 v3 v4:Option V),H' d=some (.dK kvs)/\Kept H' kvs ts/\Good es i ts/\σ=[some (.ref l),some (.ref d),v2,v3,v4])
  ⟨BR hd _,[],[],none,none,none,Ax,.nil,Good.start es,U⟩ (λi σ H' _ e=>e.1.seq hS) ?_ ?_⟩
 ·rintro i x σ H1 T hx ⟨Y,kvs,ts,v2,v3,v4,f,L,g,rfl⟩ hT;rw[Cj]at hx;obtain⟨p,hp,rfl⟩:=Es.mp hx;obtain⟨e,S,a1⟩:=he.get hp;have a2:i<es.length:=(Et.mp S).1;have C:=BR hT (.tup [.int i,.ref p]);have I:=C _ _ (Y _ _ a1);have SP:Ag K (upd H1 T (.tup [.int i,.ref p])) p [.int e.1,.int e.2]:=Ag.of I;refine⟨T,_,U,Ag.of Ax,U,_,_,U,_,_,U,U,?_⟩;refine⟨_,U,p,_,_,_,U,U,SP,U,_,U,p,_,_,_,U,U,SP,U,_,U,_,_,U,U,⟨1,HN,by lia,by lia⟩,(by show 3<=sizeLine;decide),λr m=>?_⟩;have N:=BR m (.tup [.int e.1,.int e.2,.int ((1:Int)*2^((i:Int)).toNat)]);have e1:(1:Int)*2^((i:Int)).toNat=((2^i:Nat):Int):=by simp
  have a5:upd (upd H1 T (.tup [.int i,.ref p])) r (.tup [.int e.1,.int e.2,.int ((1:Int)*2^((i:Int)).toNat)]) r=some (T3 (e.1,e.2,2^i)):=by rw[Ax,e1]
  refine⟨_,U,r,d,(e.1,e.2,2^i),kvs,ts,es,i,e,U,a5,N _ _ (C _ _ f),(L.same C).same N,b,g,Left.start S,λn H2 t J o O apart=>?_⟩;have s:=((Y.trans C).trans N).trans J;have c:=J _ _ (N _ _ (C _ _ f));have A:=((L.same C).same N).same J;have Z:Ag K H2 n [.int t.1,.int t.2.1,.int t.2.2]:=Ag.of o;refine⟨_,U,n,_,_,_,U,U,Z,U,U,_,U,Kc (λne=>?_) (λeq=>?_)⟩
  ·have W:t.1≠0:=λz=>ne (by rw[z];rfl);refine⟨_,U,_,U,_,U,n,_,_,_,U,U,Z,U,U,_,U,U,?_⟩;rw[bO];have hn:Di kvs (Sum.inl (bl t.1:Int))=none:=by
    cases hv:Di kvs (Sum.inl (bl t.1:Int)) with
    | none=>rfl
    | some v =>
     obtain⟨u,hu,q,eh,_⟩:=A.get hv;exact absurd (Int.ofNat.inj eh) (apart u hu)
   have a7:=L.length;have a6:=g.len;refine⟨d,_,U,NQ.k (k:=Sum.inl (bl t.1:Int)) c (Ea (show kvs.length<64 by lia) (by decide)),Fw s hd,_,ts++[t],some (V.int i),some (V.ref p),some (V.ref n),Ax,?_,g.put S O W apart,U⟩;rw[X4h _ hn];exact(A.upd c).snoc (by rw[Cg (Q_ o c (by intro z;cases z))];exact o)
  ·have W:t.1=0:=Int.ofNat.inj eq;have tb:=O.bit b.bit;refine⟨_,U,n,_,_,_,U,U,Z,U,U,_,U,K4 (λy=>?_) (λy=>?_)⟩
   ·have b1:t.2.1=1:=Int.ofNat.inj y;have R:t.2.2<2^es.length:=Ea O.lt (Ir (by decide) a2);refine⟨_,U,n,_,_,_,U,U,Z,U,t.2.2,U,Ea R (Ir (by decide) (by lia)),λql H3 s3 a3=>⟨t2,λrr M=>?_⟩⟩;refine kq rr _ ((s.trans s3).trans (BR M _)) (.inr ⟨t.2.2,ql,Ax,BR M _ _ _ a3,R,?_⟩);rw[O.com];show (t.1,t.2.1)=_;rw[W,b1]
   ·have b0:t.2.1=0:=by
     have:¬ t.2.1=1:=λz=>y (by rw[z];rfl);lia
    exact⟨s,kvs,ts,some (V.int i),some (V.ref p),some (V.ref n),c,A,g.skip S O W b0,U⟩
 ·rintro σ H1 ⟨Y,kvs,ts,v2,v3,v4,f,L,g,rfl⟩;rw[Bg,D]at g;refine⟨_,U,d,kvs,ts,es,es.length,U,f,L,b,g,a4,λx H2 J hs=>⟨t2,λr m=>?_⟩⟩;refine kq r _ ((Y.trans J).trans (BR m _)) (.inl ⟨x,Ax,λe a0=>?_⟩);obtain⟨j,hj,rfl⟩:=Om.mp a0;exact g.all x hs j _ hj (Cm hj)
end
end Ay
namespace Dh
open Pc Hr
noncomputable def bit (v n:Nat):Nat:=v / 2^n%2
theorem Ef(v n:Nat):bit v n<2:=Ep _ (by decide)
theorem YF(v n:Nat):bit v (n+1)=bit (v / 2) n:=by
 unfold bit;rw[KZ,Zk]
theorem Ls(n:Nat):bit 0 n=0:=by unfold bit;simp
theorem Ib:∀(n a b:Nat),bit (a^^^b) n=(bit a n+bit b n)%2
 | 0,a,b=>by
  have:=O7 a b;unfold bit;simp only[Nat.pow_zero,Nat.div_one];lia
 | n+1,a,b=>by
  have:=O7 a b;rw[YF,YF,YF,show (a^^^b) / 2=a / 2^^^b / 2 by lia];exact Ib n _ _
theorem SQ:∀(N a b:Nat),a<2^N->b<2^N->(∀n,n<N->bit a n=bit b n)->a=b
 | 0,a,b,ha,hb,_=>by simp at ha hb;lia
 | N+1,a,b,ha,hb,h=>by
  rw[KZ]at ha hb;have c:=h 0 (Nat.succ_pos N);unfold bit at c;simp only[Nat.pow_zero,Nat.div_one]at c;have:=SQ N (a / 2) (b / 2) (by lia) (by lia) λn d=>by rw[<-YF,<-YF];exact h (n+1) (by lia)
  lia
theorem bN{a m n:Nat}(h:a<2^m)(hm:m<=n):bit a n=0:=by
 unfold bit;rw[Og (Ea h (Ir (by decide) hm))]
theorem _8(m n:Nat):bit (2^m) n=if n=m then 1 else 0:=by
 unfold bit;by_cases h:n=m
 ·subst h;rw[if_pos rfl,Nat.div_self (Cu n)]
 ·rw[if_neg h];rcases Nat.lt_or_ge n m with c | c
  ·obtain⟨d,rfl⟩:∃d,m=n+(d+1):=⟨m-n-1,by lia⟩;rw[Od,Nat.mul_div_cancel_left _ (Cu n),QL,Nat.mul_mod_left]
  ·rw[Og (Jf (by decide) (by lia))]
theorem bM(x m:Nat):x&&&2^m=bit x m*2^m:=by
 refine Rj λj=>?_;rw[Ni,QX];by_cases q:m=j
 ·subst q;rw[UG,UG,Nat.mul_div_cancel _ (Cu m)];show (decide (bit x m=1) && decide (m=m))=decide (bit x m%2=1);rw[JL (Ef x m)];simp
 ·rcases (by have:=Ef x m;lia:bit x m=0\/bit x m=1) with z | z<;>rw[z]<;>simp[q]
theorem oN{a m x b:Nat}(ha:a<2^m)(hb:b<2):pc ((a+b*2^m)&&&x)%2=(pc (a&&&x)+b*bit x m)%2:=by
 rcases (by lia:b=0\/b=1) with rfl | rfl
 ·simp
 ·rw[QK,<-Hr.pP ha,Rk,Jw,Il (2^m),bM];rcases (by have:=Ef x m;lia:bit x m=0\/bit x m=1) with z | z<;>rw[z]
  ·rw[WQ,GJ,ZQ]
  ·rw[QK,Yk]
noncomputable def Wm (fs:W3)(n:Nat):Nat->Nat
 | 0=>0
 | m+1=>Wm fs n m+bit (fs.getD m 0) n*2^m
noncomputable def Xm (fs:W3)(x:Nat):Nat->Nat
 | 0=>0
 | m+1=>if bit x m=1 then Xm fs x m^^^fs.getD m 0 else Xm fs x m
theorem Yr(fs:W3)(n:Nat):∀m,Wm fs n m<2^m
 | 0=>by unfold Wm;decide
 | m+1=>by
  have h:=Yr fs n m;have b:=Ef (fs.getD m 0) n;unfold Wm;rw[KZ];rcases (by lia:bit (fs.getD m 0) n=0\/bit (fs.getD m 0) n=1) with z | z<;>rw[z]<;>lia
theorem bZ{fs:W3}{x N:Nat}(h:∀j,fs.getD j 0<2^N):∀m,Xm fs x m<2^N
 | 0=>by unfold Xm;exact Cu N
 | m+1=>by
  unfold Xm;split
  ·exact Er (bZ h m) (h m)
  ·exact bZ h m
theorem qT(fs:W3)(x n:Nat):∀m,bit (Xm fs x m) n=pc (Wm fs n m&&&x)%2
 | 0=>by unfold Xm Wm;rw[Ls,Tc,GJ]
 | m+1=>by
  have a:=qT fs x n m;have bl:=Ef x m;unfold Xm Wm;rw[oN (Yr fs n m) (Ef _ _)];split
  ·rename_i z;rw[Ib,a,z];lia
  ·rename_i z;rw[a,show bit x m=0 by lia];lia
theorem qX(fs:W3)(n:Nat):∀m j,j<m->bit (Wm fs n m) j=bit (fs.getD j 0) n
 | 0,j,h=>by lia
 | m+1,j,h=>by
  have a:=Yr fs n m;have b:=Ef (fs.getD m 0) n;unfold Wm;rcases (by lia:bit (fs.getD m 0) n=0\/bit (fs.getD m 0) n=1) with z | z
  ·rw[z,WQ,Kv];by_cases q:j=m
   ·subst q;rw[z,bN a (CG _)]
   ·exact qX fs n m j (by lia)
  ·rw[z,QK,<-Hr.pP a,Ib,_8];by_cases q:j=m
   ·subst q;rw[if_pos rfl,z,bN a (CG _)]
   ·rw[if_neg q,qX fs n m j (by lia),Kv,JL (Ef _ _)]
theorem yh(fs:W3)(n:Nat):∀m,m<=fs.length->((fs.take m).mapIdx λi v=>((bit v n:Nat):Int)*2^i).sum=((Wm fs n m:Nat):Int)
 | 0,_=>by simp[Wm]
 | m+1,h=>by
  have a:=yh fs n m (by lia);have e:fs[m]?=some (fs.getD m 0):=by rw[CP,Cm (by lia)];rfl
  have l:(fs.take m).length=m:=by rw[Hx];lia
  unfold Wm;rw[Jt,e,Nq,jC,iQ,a,l];simp
noncomputable def eqs (fs:W3)(v N:Nat):List Dw:=(List.range N).map λn=>(Wm fs n fs.length,bit v n)
theorem Ui(fs:W3)(v N:Nat):(eqs fs v N).length=N:=by unfold eqs;simp
theorem aU:∀(l r:List Dw) (c:Nat),comb (l++r) c=add (comb l c) (comb r (c / 2^l.length))
 | [],r,c=>by simp[comb,add]
 | e::l,r,c=>by
  have a:=aU l r (c / 2);have e1:c / 2 / 2^l.length=c / 2^(e::l).length:=by rw[Nk,KZ,Zk]
  show (if c%2=1 then add e (comb (l++r) (c / 2)) else comb (l++r) (c / 2))=add (if c%2=1 then add e (comb l (c / 2)) else comb l (c / 2)) _;rw[a,e1];split
  ·rw[Ut]
  ·rfl
theorem Zy(fs:W3)(v N:Nat):eqs fs v (N+1)=eqs fs v N++[(Wm fs N fs.length,bit v N)]:=by
 unfold eqs;rw[Ra,DW];rfl
theorem Z1(c N:Nat):c%2^(N+1)=c%2^N+bit c N*2^N:=by rw[QL,Nat.mod_mul];unfold bit;rw[Nat.mul_comm (2^N)]
theorem wB(e:Dw)(c:Nat):comb [e] c=if c%2=1 then e else (0,0):=by
 unfold comb comb;split<;>simp[add]
theorem p7(fs:W3)(v c:Nat):∀N,(comb (eqs fs v N) c).2=pc (c%2^N&&&v)%2
 | 0=>by simp[eqs,comb,ZJ,GJ]
 | N+1=>by
  have a:=p7 fs v c N;have hb:=Ef c N;have e:=Ef v N;rw[Zy,aU,Ui,wB,Z1,oN (Ep _ (Cu N)) hb];show (comb (eqs fs v N) c).2^^^(if c / 2^N%2=1 then (Wm fs N fs.length,bit v N) else (0,0)).2=_;rw[a];have nx:=O7 (pc (c%2^N&&&v)%2) (bit v N);have b:pc (c%2^N&&&v)%2 / 2=0:=by lia
  have d:bit v N / 2=0:=by lia
  rw[b,d]at nx;have q:(0^^^0:Nat)=0:=rfl;rcases (by lia:bit c N=0\/bit c N=1) with z | z
  ·rw[if_neg (show ¬ c / 2^N%2=1 by have:c / 2^N%2=0:=z;lia),z];simp
  ·rw[if_pos (show c / 2^N%2=1 from z),z];show _^^^bit v N=_;lia
theorem pZ(fs:W3)(v c j:Nat)(hj:j<fs.length):∀N,bit (comb (eqs fs v N) c).1 j=pc (c%2^N&&&fs.getD j 0)%2
 | 0=>by simp[eqs,comb,ZJ,GJ,Ls]
 | N+1=>by
  have a:=pZ fs v c j hj N;have hb:=Ef c N;have b:=qX fs N fs.length j hj;rw[Zy,aU,Ui,wB,Z1,oN (Ep _ (Cu N)) hb];show bit ((comb (eqs fs v N) c).1^^^(if c / 2^N%2=1 then (Wm fs N fs.length,bit v N) else (0,0)).1) j=_;rw[Ib,a];rcases (by lia:bit c N=0\/bit c N=1) with z | z
  ·rw[if_neg (show ¬ c / 2^N%2=1 by have:c / 2^N%2=0:=z;lia),z,Ls];lia
  ·rw[if_pos (show c / 2^N%2=1 from z),z,b];lia
abbrev Mk:=Nat×Nat×Nat
noncomputable def mul (a b:Mk):Mk:=((a.1+b.1+2*pc (a.2.2&&&b.2.1))%4,a.2.1^^^b.2.1,a.2.2^^^b.2.2)
noncomputable def prod (ms:List Mk):Mk:=ms.foldl mul (0,0,0)
theorem yN(k:Nat):∀(ms:List Mk) (q f s:Nat),ms.foldl mul ((k+q)%4,f,s)=((k+(ms.foldl mul (q%4,f,s)).1)%4,(ms.foldl mul (q%4,f,s)).2)
 | [],q,f,s=>by
  show ((k+q)%4,f,s)=((k+q%4)%4,f,s);rw[Nat.add_mod_mod]
 | m::ms,q,f,s=>by
  rw[List.foldl_cons,List.foldl_cons];have h:=yN k ms (q+m.1+2*pc (s&&&m.2.1)) (f^^^m.2.1) (s^^^m.2.2);have e1:mul ((k+q)%4,f,s) m=((k+(q+m.1+2*pc (s&&&m.2.1)))%4,f^^^m.2.1,s^^^m.2.2):=by
   show (((k+q)%4+m.1+2*pc (s&&&m.2.1))%4,_,_)=_;congr 1;lia
  have e2:mul (q%4,f,s) m=((q+m.1+2*pc (s&&&m.2.1))%4,f^^^m.2.1,s^^^m.2.2):=by
   show ((q%4+m.1+2*pc (s&&&m.2.1))%4,_,_)=_;congr 1;lia
  rw[e1,e2];exact h
theorem YX{k:Nat}(hk:k<4)(ms:List Mk):ms.foldl mul (k,0,0)=((k+(prod ms).1)%4,(prod ms).2):=by
 have:=yN k ms 0 0 0;rw[Kv,JL hk]at this;exact this
theorem pB:∀(ms:List Mk) (a:Mk),a.1<4->(ms.foldl mul a).1<4
 | [],a,h=>h
 | m::ms,a,h=>pB ms (mul a m) (Ep _ (by decide))
noncomputable def chosen (rows:List Mk)(x m:Nat):List Mk:=(places x m).map λp=>rows.getD p (0,0,0)
theorem Uw(rows:List Mk)(x m:Nat):chosen rows x (m+1)=chosen rows x m++(if bit x m=1 then [rows.getD m (0,0,0)] else []):=by
 unfold chosen;rw[Yb,DW];show _++List.map _ (if bit x m=1 then [m] else [])=_;split<;>rfl
theorem Ud(rows:List Mk)(x:Nat):∀m,(prod (chosen rows x m)).2.1=Xm (rows.map (·.2.1)) x m
 | 0=>rfl
 | m+1=>by
  have a:=Ud rows x m;rw[Uw];unfold prod at *;rw[Tt];unfold Xm;split
  ·show (mul _ _).2.1=_;show (List.foldl mul (0,0,0) (chosen rows x m)).2.1^^^(rows.getD m (0,0,0)).2.1=_;rw[a,CP,CP,Cj];cases rows[m]?<;>rfl
  ·exact a
theorem Ue(rows:List Mk)(x:Nat):∀m,(prod (chosen rows x m)).2.2=Xm (rows.map (·.2.2)) x m
 | 0=>rfl
 | m+1=>by
  have a:=Ue rows x m;rw[Uw];unfold prod at *;rw[Tt];unfold Xm;split
  ·show (List.foldl mul (0,0,0) (chosen rows x m)).2.2^^^(rows.getD m (0,0,0)).2.2=_;rw[a,CP,CP,Cj];cases rows[m]?<;>rfl
  ·exact a
end Dh
namespace Ay
open L2 Pc Hr Dh
def CW (H:Hp):List Addr->List Mk->Prop:=Paired λp m=>H p=some (T3 m)
variable{H:Hp}{ps:U3}{ms:List Mk}
theorem CW.same{H':Hp}(h:CW H ps ms)(s:Same H H'):CW H' ps ms:=Paired.imp' (λ_ _ c=>s _ _ c) h
theorem CW.length(h:CW H ps ms):ps.length=ms.length:=Paired.length h
theorem CW.get{H:Hp}:∀{ps:U3}{ms:List Mk}{i:Nat}{p:W9},CW H ps ms->ps[i]?=some p->∃e,ms[i]?=some e/\H p=some (T3 e)
 | p'::ps,e::es,0,p,.cons a r,h=>by
  have:p'=p:=by simpa using h
  subst this;exact⟨e,U,a⟩
 | p'::ps,e::es,i+1,p,.cons a r,h=>by
  obtain⟨f,b,c⟩:=CW.get (ps:=ps) (ms:=es) (i:=i) (p:=p) r (by simpa using h);exact⟨f,by simpa using b,c⟩
theorem CW.at{i:Nat}(h:CW H ps ms)(hi:i<ms.length):∃p,ps[i]?=some p/\H p=some (T3 (ms.getD i (0,0,0))):=by
 have b:=h.length;have e1:ps[i]?=some (ps[i]'(by lia)):=by simp[show i<ps.length by lia]
 obtain⟨e,e2,a⟩:=h.get e1;refine⟨_,e1,?_⟩;rw[CP,e2];exact a
noncomputable abbrev L3 (m:Mk):List V:=[.int m.1,.int m.2.1,.int m.2.2]
def Q6 (K:U0):Sp:=λvs H Q _=>∃(p p':W9) (m m':Mk),vs=[.ref p,.ref p']/\Ag K H p (L3 m)/\Ag K H p' (L3 m')/\∀(r:W9) (H':Hp),Same H H'->H' r=some (T3 (mul m m'))->Q (.ref r) H'
def uq (K:U0):Sp:=λvs H Q _=>∃(l:W9) (ps:U3) (ms:List Mk),vs=[.ref l]/\Aw K H l (ps.map V.ref)/\CW H ps ms/\∀(r:W9) (H':Hp),Same H H'->Ag K H' r (L3 (prod ms))->Q (.ref r) H'
def uY (K:U0):Sp:=λvs H Q _=>∃(l:W9) (ps:U3) (ms:List Mk) (pt:Int) (fs:W3) (n:Nat),vs=[.ref l,.int pt,.int n]/\Aw K H l (ps.map V.ref)/\CW H ps ms/\ms.length<=60 /\
 (pt=1/\fs=ms.map (·.2.1)\/pt=2/\fs=ms.map (·.2.2))/\∀H',Same H H'->Q (.int (Wm fs n fs.length:Nat)) H'
def vM (K:U0):Sp:=λvs H Q _=>∃(l:W9) (c n:Nat),vs=[.ref l,.int n]/\Aw K H l ((places c (bl c)).map λp=>V.int (p:Nat))/\n<=6/\c<2^(n+n) /\
 ∀(r:W9) (H':Hp),Same H H'->H' r=some (T3 (pc (c / 2^n&&&c%2^n)%4,c / 2^n,c%2^n))->Q (.ref r) H'
theorem wI(c k:Nat):∀N,((((places c N).map λp=>((p:Nat):Int)).filter λz:Int=>decide ((k:Int)<=z)).map λz:Int=>(1:Int)*2^(z-(k:Int)).toNat).sum=((c%2^N / 2^k:Nat):Int)
 | 0=>by simp[places,ZJ]
 | N+1=>by
  have g:=wI c k N;have p:=Cu k;rw[Yb,DW,Oj,DW,iQ,g,Z1];show _+((((if bit c N=1 then [N] else []).map λp=>((p:Nat):Int)).filter λz:Int=>decide ((k:Int)<=z)).map λz:Int=>(1:Int)*2^(z-(k:Int)).toNat).sum=_;have b:c%2^N<2^N:=Ep _ (Cu N);rcases (by have:=Ef c N;lia:bit c N=0\/bit c N=1) with z | z
  ·rw[z];simp
  ·rw[z,if_pos rfl,QK];by_cases hk:k<=N
   ·obtain⟨d,rfl⟩:∃d,N=k+d:=⟨N-k,by lia⟩;have e:(c%2^(k+d)+2^(k+d)) / 2^k=c%2^(k+d) / 2^k+2^d:=by rw[Od,Nat.add_mul_div_left _ _ p]
    rw[e];have a:(k:Int)<=(k:Int)+d:=by lia
    have i:((k:Int)+d).toNat-k=d:=by lia
    simp[a,i]
   ·have e:(c%2^N+2^N) / 2^k=0:=Og (by
     have:=Ir (show 0<2 by decide) (show N+1<=k by lia)
     rw[KZ]at this
     lia)
    have h:c%2^N / 2^k=0:=Og (RT b (Jf (by decide) (by lia)));rw[e,h];have f:¬ ((k:Int)<=N):=by lia
    simp[f]
theorem X1e(c k:Nat):∀N,((((places c N).map λp=>((p:Nat):Int)).filter λz=>decide (z<(k:Int))).map λz=>(1:Int)*2^z.toNat).sum=((c%2^N%2^k:Nat):Int)
 | 0=>by simp[places,ZJ]
 | N+1=>by
  have b:=X1e c k N;rw[Yb,DW,Oj,DW,iQ,b,Z1];show _+((((if bit c N=1 then [N] else []).map λp=>((p:Nat):Int)).filter λz=>decide (z<(k:Int))).map λz=>(1:Int)*2^z.toNat).sum=_;have f:c%2^N<2^N:=Ep _ (Cu N);rcases (by have:=Ef c N;lia:bit c N=0\/bit c N=1) with z | z
  ·rw[z];simp
  ·rw[z,if_pos rfl,QK];by_cases hk:k<=N
   ·obtain⟨d,rfl⟩:∃d,N=k+d:=⟨N-k,by lia⟩;have e:(c%2^(k+d)+2^(k+d))%2^k=c%2^(k+d)%2^k:=by rw[Od,t_]
    rw[e];have a:¬ ((k:Int)+d<k):=by lia
    simp[a]
   ·have hp:2*2^N<=2^k:=by
     have:=Ir (show 0<2 by decide) (show N+1<=k by lia);rw[KZ]at this;exact this
    rw[JL (show c%2^N+2^N<2^k by lia),JL (show c%2^N<2^k by lia)];simp[show N<k by lia]
theorem t3:3<=sizeLine:=by decide
theorem Rz(x:Nat):Builtin.bitAnd (x:Int) 1=((x%2:Nat):Int):=by
 have:=Jg x 1;rw[Nat.and_one_is_mod]at this;exact this
section
variable {P:U8}{w:W1}{K:U0}{mg:U4}{base:Heap}{k:Nat}{h:Heap}
theorem Y7r(F:Ab K "product" (top 23) .none)(X:K.In h)(G:Ng h mg)(cG:Ah P w K mg base k "ones" ["number"] DP):Ah P w K mg base (k+1) "product" ["one","other"] (Q6 K):=by
 refine F.cal X G ["one","other","met"] λe H vs Q E d h=>?_;obtain⟨p,a,m,m',rfl,b,c,f⟩:=h
 refine⟨_,(@Aq _ _ _ _ _ (@Bb _ _ 2 _ _ _ _ e rfl (Or.inl rfl) (Av cG d rfl (Aa (Af Dz (Ai Ao (pv 0) Ac (λ_ _=>rfl)) (Ai Ao (pv 1) Ac (λ_ _=>rfl))) Ae)) rfl (.inl rfl))
  (@Ak _ _ _ (BJ (@Dg _ _ _ _ _ (Aa (Af Dt (Af El (Af El (Ai Ao (pv 0) Ac (λ_ _=>rfl)) (Ai Ao (pv 1) Ac (λ_ _=>rfl))) (Af Nu Ac (pv 2))) Ac) (Aa (Af JN (Ai Ao (pv 0) Ac (λ_ _=>rfl)) (Ai Ao (pv 1) Ac (λ_ _=>rfl))) (Aa (Af JN (Ai Ao (pv 0) Ac (λ_ _=>rfl)) (Ai Ao (pv 1) Ac (λ_ _=>rfl))) Ae))))))),?_⟩
 try dsimp only[Bm]
 refine⟨_,U,p,_,_,_,U,U,b,U,_,U,a,_,_,_,U,U,c,U,_,_,U,U,m.2.2&&&m'.2.1,PX _ _,?_⟩;refine⟨_,U,p,_,_,_,U,U,b,U,_,U,a,_,_,_,U,U,c,U,_,_,U,U,_,U,_,_,U,U,.inl ⟨by decide,by decide⟩,_,_,U,U,_,_,U,U,Qw,?_⟩;refine⟨_,U,p,_,_,_,U,U,b,U,_,U,a,_,_,_,U,U,c,U,_,_,U,U,_,U,p,_,_,_,U,U,b,U,_,U,a,_,_,_,U,U,c,U,_,_,U,U,t3,λr d=>?_⟩;refine f r _ (BR d _) ?_;rw[Ax];show some (HO.tup [.int (((m.1:Int)+m'.1+2*((pc (m.2.2&&&m'.2.1):Nat):Int))%4),.int (Builtin.bitXor (m.2.1:Int) m'.2.1),.int (Builtin.bitXor (m.2.2:Int) m'.2.2)])=_;rw[J5,J5];rfl
theorem X0d(F:Ab K "product_of" (top 74) .none)(X:K.In h)(G:Ng h mg){aP:W9}(gP:mg "PRODUCT_OF_NONE"=some (.ref aP))(sP:∀H:Hp,Ag K H aP (L3 (0,0,0)))
  (cO:Ah P w K mg base k "product" ["one","other"] (Q6 K)):Ah P w K mg base (k+1) "product_of" ["marks"] (uq K):=by
 refine F.cal X G ["marks","made","mark"] λn H vs Q E j h=>?_;obtain⟨l,ps,ms,rfl,s,o,u⟩:=h;have b:=o.length
 refine⟨_,(@Aq _ _ _ _ _ (@Bb _ _ 1 _ _ _ _ n rfl (Or.inl rfl) (Hj (v:=.ref aP) rfl gP rfl) rfl (.inl rfl))
  (@Aq _ _ _ _ _ (J7 PassesOwn.never rfl (G_ (pv 0)) (DR (i:=2) n rfl (Or.inl rfl))
   (@Ak _ _ _ (@Bb _ _ 1 _ _ _ _ n rfl (Or.inl rfl) (Av cO j rfl (Aa (pv 1) (Aa (pv 2) Ae))) rfl (.inl rfl))))
  (@Ak _ _ _ (BJ (pv 1))))),?_⟩
 try dsimp only[Bm]
 refine⟨_,U,l,U,⟨_,s⟩,O8 (K:=K) (a:=l) (xs:=ps.map V.ref) (λi σ H'=>Same H H'/\∃(p:W9) (v:Option V),Ag K H' p (L3 ((ms.take i).foldl mul (0,0,0)))/\σ=[some (.ref l),some (.ref p),v]) ⟨Same.refl _,aP,none,sP H,U⟩ (λi σ H' _ e=>e.1.seq s) ?_ ?_⟩
 ·rintro i x σ H1 q ⟨c,p,v,sp,rfl⟩;rw[Cj]at q;obtain⟨t,f,rfl⟩:=Es.mp q;obtain⟨m,d,g⟩:=o.get f;refine⟨_,U,_,U,p,t,_,m,U,sp,Ag.of (c _ _ g),λr H2 y j=>⟨c.trans y,r,_,?_,U⟩⟩;rw[Jt,d,Nq,Tt];exact Ag.of j
 ·rintro σ H1 ⟨c,p,v,sp,rfl⟩;rw[Bg,b,Ld]at sp;exact⟨_,U,u p H1 c sp⟩
theorem Y4c(F:Ab K "rows_with" (top 73) .none)(X:K.In h)(G:Ng h mg)(B:Bs mg):Ah P w K mg base (k+1) "rows_with" ["rows","part","cell"] (uY K):=by
 refine F.cal X G ["rows","part","cell"] λL H vs Q E J h=>?_;obtain⟨l,ps,ms,pt,fs,n,rfl,y,r,D,d,C⟩:=h;have a:=r.length;have fl:fs.length=ms.length:=by rcases d with ⟨_,rfl⟩ | ⟨_,rfl⟩<;>exact Bg _
 refine⟨_,(@Ak _ _ _ (BJ (Ck (nF rfl) rfl B.sum boot_sum (Aa (Iw rfl (Bp.of (Nc:=["place","row","part","cell"]) (mp:=[none,none,some 1,some 2]) (by kernel_rfl)) (YB rfl B.enumerate (Aa (pv 0) Ae)) (λ_ _ _ _=>(R8 rfl (show (["place","row","part","cell"]:W0).Nodup by decide +kernel) rfl rfl rfl rfl)) (λ_ _ _ _=>(Af G3 (Af Dz (Af M5 (Ai Uj (pv 1) (pv 2) (λ_ _=>rfl)) (pv 3)) Ac) (pv 0)))) Ae)))),?_⟩;try dsimp only[Bm]
 refine⟨_,U,l,_,U,y,λacc c=>?_⟩;refine W1l (l:=l) (xs:=ps.map V.ref) (fr:=[some (.int pt),some (.int n)]) (λi _=>.int (((bit (fs.getD i 0) n:Nat):Int)*2^i)) (by rw[Bg];exact Jq (by lia)) c y (λh q=>⟨_,_,U,Ag.of h,U,_,_,U,_,_,U,U,q⟩) ?_ ?_
 ·intro i x H2 N u o A;rw[Cj]at u;obtain⟨s,f,rfl⟩:=Es.mp u;obtain⟨m,b,p⟩:=r.get f;have z:i<ms.length:=(Et.mp b).1;have S:Ag K H2 s (L3 m):=Ag.of (o _ _ p);have g:Gv (L3 m) pt=some (.int (fs.getD i 0:Nat)):=by
   rcases d with ⟨rfl,rfl⟩ | ⟨rfl,rfl⟩<;>rw[CP,Cj,b]<;>rfl
  have I:=Ef (fs.getD i 0) n;have e1:((fs.getD i 0:Nat):Int) / 2^((n:Int)).toNat=((fs.getD i 0 / 2^n:Nat):Int):=by rw[G8];simp
  refine⟨_,U,_,U,s,_,_,_,U,U,S,g,_,U,_,_,U,U,by lia,_,_,U,U,_,U,?_⟩;show rI Nb (λi j=>V.int (i*2^j.toNat)) (V.int (Builtin.bitAnd (((fs.getD i 0:Nat):Int) / 2^((n:Int)).toNat) 1)) (V.int (i:Int)) H2 N;rw[e1,Rz];refine⟨_,_,U,U,⟨1,?_,by lia,by lia⟩,?_⟩
  ·show ((bit (fs.getD i 0) n:Nat):Int).natAbs<2^1;lia
  ·show N (.int (((bit (fs.getD i 0) n:Nat):Int)*2^((i:Int)).toNat)) H2;rw[G8];exact A
 ·intro H2 o t;have e:((ps.map V.ref).mapIdx λi _=>V.int (((bit (fs.getD i 0) n:Nat):Int)*2^i))=(fs.mapIdx λi v=>((bit v n:Nat):Int)*2^i).map V.int:=by
   apply Wa
   ·simp[a,fl]
   ·intro i h1 h2;simp only[Bg,jB]at h2;simp[h2]
  rw[e]at t;refine⟨acc,_,U,Aw.of t,?_⟩;have:=yh fs n fs.length (CG _);rw[Ld]at this;rw[this];exact C H2 o
theorem X5k(F:Ab K "apart_by" (top 75) .none)(X:K.In h)(G:Ng h mg)(B:Bs mg)(cG:Ah P w K mg base k "ones" ["number"] DP):Ah P w K mg base (k+1) "apart_by" ["numbers","cells"] (vM K):=by
 refine F.cal X G ["numbers","cells","flips","signs"] λt H vs Q E s h=>?_;obtain⟨l,c,n,rfl,o,I,u,A⟩:=h;have D:((places c (bl c)).map λp=>V.int (p:Nat))=((places c (bl c)).map λp=>((p:Nat):Int)).map V.int:=by rw[KR];rfl
 rw[D]at o;have hb:bl c<=n+n:=Gu.mpr u;have b:∀z∈(places c (bl c)).map λp=>((p:Nat):Int),∃p:Nat,z=p/\p<12:=λz f=>by
  obtain⟨p,hp,rfl⟩:=Ej.mp f;exact⟨p,U,by have:=SJ hp;lia⟩
 have a:((places c (bl c)).map λp=>((p:Nat):Int)).length<=sizeLine:=by
  rw[Bg];exact Jq (G7 (jO _ _) (by rw[Wc];lia))
 have hi:=wI c n (bl c);have lo:=X1e c n (bl c);rw[JL (bw c)]at hi lo;generalize ((places c (bl c)).map λp=>((p:Nat):Int))=ns at *
 refine⟨_,(@Aq _ _ _ _ _ (@Bb _ _ 2 _ _ _ _ t rfl (Or.inl rfl) (Ck (nF rfl) rfl B.sum boot_sum (Aa (bB rfl (Bp.of (Nc:=["number","cells"]) (mp:=[none,some 1]) (by kernel_rfl)) (G_ (pv 0)) (λ_ _ _ _=>(DR (i:=0) (show (["number","cells"]:W0).Nodup by decide +kernel) rfl (Or.inl rfl))) (λ_ _ _ _=>(B_ dw (pv 0) (pv 1) (Ad _))) (λ_ _ _ _=>(Af G3 Ac (Af Ji (pv 0) (pv 1))))) Ae)) rfl (.inl rfl))
  (@Aq _ _ _ _ _ (@Bb _ _ 3 _ _ _ _ t rfl (Or.inl rfl) (Ck (nF rfl) rfl B.sum boot_sum (Aa (bB rfl (Bp.of (Nc:=["number","cells"]) (mp:=[none,some 1]) (by kernel_rfl)) (G_ (pv 0)) (λ_ _ _ _=>(DR (i:=0) (show (["number","cells"]:W0).Nodup by decide +kernel) rfl (Or.inl rfl))) (λ_ _ _ _=>(B_ Nt (pv 0) (pv 1) (Ad _))) (λ_ _ _ _=>(Af G3 Ac (pv 0)))) Ae)) rfl (.inl rfl))
  (@Ak _ _ _ (BJ (@Dg _ _ _ _ _ (Aa (Af Dt (Av cG s rfl (Aa (Af Dz (pv 2) (pv 3)) Ae)) Ac) (Aa (pv 2) (Aa (pv 3) Ae)))))))),?_⟩
 try dsimp only[Bm]
 refine⟨_,U,l,U,⟨_,o⟩,λacc g=>?_⟩;refine wK (l:=l) (ns:=ns) (fr:=[some (.int n)]) (λz=>decide ((n:Int)<=z)) (λz=>1*2^(z-n).toNat) a g o (λz H2 N _ _ d=>⟨_,U,_,U,_,_,U,U,_,U,d⟩) (λz H2 N f hp _ d=>?_) ?_
 ·obtain⟨p,rfl,j⟩:=b z f;have v:=Mr hp;exact⟨_,U,_,U,_,_,U,U,_,_,U,U,⟨1,HN,by lia,by lia⟩,d⟩
 intro H2 q x;refine⟨acc,_,U,Aw.of x,?_⟩;rw[hi];refine⟨_,U,l,U,⟨_,q.seq o⟩,λm e=>?_⟩;refine wK (l:=l) (ns:=ns) (fr:=[some (.int n)]) (λz=>decide (z<(n:Int))) (λz=>1*2^z.toNat) a e (q.seq o) (λz H2 N _ _ d=>⟨_,U,_,U,_,_,U,U,_,U,d⟩) (λz H2 N f hp _ d=>?_) ?_
 ·obtain⟨p,rfl,j⟩:=b z f;exact⟨_,U,_,_,U,U,⟨1,HN,by lia,by lia⟩,d⟩
 intro J C y;refine⟨m,_,U,Aw.of y,?_⟩;rw[lo];refine⟨_,U,_,U,_,_,U,U,c / 2^n&&&c%2^n,PX _ _,_,_,U,U,Qw,_,U,_,U,t3,λr s=>?_⟩;refine A r _ ((q.trans C).trans (BR s _)) ?_;rw[Ax];rfl
noncomputable def comm (a b:Mk):Nat:=(pc (a.2.1&&&b.2.2)+pc (a.2.2&&&b.2.1))%2
structure Fe (N:Nat) (m:Mk):Prop where
 q:m.1<4
 f:m.2.1<2^N
 s:m.2.2<2^N
def Yx (ms:List Mk)(mark:Mk)(N:Nat)(H0 H:Hp)(r:W9):Prop :=
 (∃(kk x:Nat) (l:W9),H0 l=none/\H r=some (.tup [.str "made",.int kk,.ref l])/\H l=some (.lst ((places x ms.length).map λp=>V.int (p:Nat)))/\kk<4/\(chosen ms x ms.length).foldl mul (kk,0,0)=mark) \/
 ∃(p:W9) (o:Mk),H r=some (.tup [.str "apart",.ref p])/\H p=some (T3 o)/\Fe N o/\(o.1+pc (o.2.1&&&o.2.2))%2=0/\comm o mark=1/\∀m∈ms,comm o m=0
def Z6 (K:U0):Sp:=λvs H Q _=>∃(l pm:W9) (ps:U3) (ms:List Mk) (mark:Mk) (N:Nat),vs=[.ref l,.ref pm,.int N]/\Aw K H l (ps.map V.ref)/\CW H ps ms/\H pm=some (T3 mark)/\N<=6/\ms.length<=12/\(∀m∈ms,Fe N m)/\Fe N mark /\
 ∀(r:W9) (H':Hp),Same H H'->Yx ms mark N H H' r->Q (.ref r) H'
theorem CW.pick{H:Hp}{ps:U3}{ms:List Mk}(h:CW H ps ms):∀(pl:W3),(∀p∈pl,p<ms.length)->CW H (pl.map λp=>ps.getD p 0) (pl.map λp=>ms.getD p (0,0,0))
 | [],_=>.nil
 | p::pl,hp=>by
  obtain⟨a,e1,e2⟩:=h.at (hp p Je);refine .cons ?_ (CW.pick h pl λq b=>hp q (Ju _ b));show H (ps.getD p 0)=_;rw[CP,e1];exact e2
theorem uf{α β:Type}{F:α->β->Prop}{l2:List α}{r2:List β}:∀{l1:List α}{r1:List β},Paired F l1 r1->Paired F l2 r2->Paired F (l1++l2) (r1++r2)
 | [],[],_,h=>h
 | _::_,_::_,.cons a t,h=>.cons a (uf t h)
variable{N:Nat}
theorem W1x(h:∀m∈ms,Fe N m)(j:Nat):(ms.map (·.2.1)).getD j 0<2^N/\(ms.map (·.2.2)).getD j 0<2^N:=by
 rw[CP,CP,Cj,Cj];cases e:ms[j]? with
 | none=>exact⟨Cu N,Cu N⟩
 | some m=>exact⟨(h m (GQ e)).f,(h m (GQ e)).s⟩
noncomputable abbrev both (ms:List Mk)(mark:Mk)(N:Nat):List Dw:=eqs (ms.map (·.2.1)) mark.2.1 N++eqs (ms.map (·.2.2)) mark.2.2 N
theorem v8(ms:List Mk)(mark:Mk)(N:Nat):(both ms mark N).length=N+N:=by rw[JM,Ui,Ui]
theorem W2e{fs:W3}{v:Nat}{e:Dw}(h:e∈eqs fs v N):∃n,n<N/\e=(Wm fs n fs.length,bit v n):=by
 obtain⟨n,a,rfl⟩:=Ej.mp h;exact⟨n,Ek.mp a,U⟩
variable{mark:Mk}
theorem X3b(h:ms.length<=12):Pu (both ms mark N):=by
 have b:∀e∈both ms mark N,e.2<2/\e.1<2^12:=λe a=>by
  rcases Io.mp a with q | q<;>obtain⟨n,_,rfl⟩:=W2e q
  ·exact⟨Ef _ _,Ea (Yr _ _ _) (Ir (by decide) (by rw[Bg];exact h))⟩
  ·exact⟨Ef _ _,Ea (Yr _ _ _) (Ir (by decide) (by rw[Bg];exact h))⟩
 exact⟨λe a=>(b e a).1,λe a=>RT (b e a).2 (Jf (by decide) (by decide))⟩
theorem X6r{x:Nat}(hm:∀m∈ms,Fe N m)(hk:Fe N mark)(h:∀e∈both ms mark N,sat x e):(prod (chosen ms x ms.length)).2=mark.2:=by
 have g:=W1x hm;have hf:(prod (chosen ms x ms.length)).2.1=mark.2.1:=by
  rw[Ud];refine SQ N _ _ (bZ (λj=>(g j).1) _) hk.f λn a=>?_;have:=h (Wm (ms.map (·.2.1)) n (ms.map (·.2.1)).length,bit mark.2.1 n) (QZ _ (Ej.mpr ⟨n,Ek.mpr a,U⟩));rw[Bg]at this;rw[qT];exact this
 have b:(prod (chosen ms x ms.length)).2.2=mark.2.2:=by
  rw[Ue];refine SQ N _ _ (bZ (λj=>(g j).2) _) hk.s λn a=>?_;have:=h (Wm (ms.map (·.2.2)) n (ms.map (·.2.2)).length,bit mark.2.2 n) (Gn _ (Ej.mpr ⟨n,Ek.mpr a,U⟩));rw[Bg]at this;rw[qT];exact this
 exact Prod.ext hf b
theorem Eqs.upd{l:W9}{xs ys:List V}{es:List Dw}(h:Eqs H ps es)(hl:H l=some (.lst xs)):Eqs (upd H l (.lst ys)) ps es :=
 Paired.imp' (λ_ _ c=>by rw[Cg (Q_ c hl (by intro z;cases z))];exact c) h
theorem Vh{a b:Nat}(ha:a<2)(hb:b<2):a^^^b=(a+b)%2:=by
 have:=O7 a b;have c:a / 2=0:=by lia
 have d:b / 2=0:=by lia
 rw[c,d]at this;have q:(0^^^0:Nat)=0:=rfl;lia
theorem Y8h{c:Nat}(hc:c<2^(N+N))(h:comb (both ms mark N) c=(0,1)):
  comm (pc (c / 2^N&&&c%2^N)%4,c / 2^N,c%2^N) mark=1/\∀m∈ms,comm (pc (c / 2^N&&&c%2^N)%4,c / 2^N,c%2^N) m=0:=by
 rw[aU,Ui]at h;have hd:c / 2^N%2^N=c / 2^N:=JL (by rw[Od]at hc;exact Nat.div_lt_of_lt_mul hc);constructor
 ·have h2:(comb (eqs (ms.map (·.2.1)) mark.2.1 N) c).2^^^(comb (eqs (ms.map (·.2.2)) mark.2.2 N) (c / 2^N)).2=1:=congrArg Prod.snd h;rw[p7,p7,hd,Vh (Ep _ (by decide)) (Ep _ (by decide))]at h2;unfold comm;show (pc (c / 2^N&&&mark.2.2)+pc (c%2^N&&&mark.2.1))%2=1;lia
 ·intro m d;obtain⟨j,a,rfl⟩:=Om.mp d;have h1:(comb (eqs (ms.map (·.2.1)) mark.2.1 N) c).1^^^(comb (eqs (ms.map (·.2.2)) mark.2.2 N) (c / 2^N)).1=0:=congrArg Prod.fst h;have b:bit ((comb (eqs (ms.map (·.2.1)) mark.2.1 N) c).1^^^(comb (eqs (ms.map (·.2.2)) mark.2.2 N) (c / 2^N)).1) j=bit 0 j:=by rw[h1]
  rw[Dh.Ib,pZ _ _ _ _ (by rw[Bg];exact a),pZ _ _ _ _ (by rw[Bg];exact a),hd,Ls]at b;have e1:(ms.map (·.2.1)).getD j 0=ms[j].2.1:=by rw[CP,Cj,Cm a];rfl
  have e2:(ms.map (·.2.2)).getD j 0=ms[j].2.2:=by rw[CP,Cj,Cm a];rfl
  rw[e1,e2]at b;unfold comm;show (pc (c / 2^N&&&ms[j].2.2)+pc (c%2^N&&&ms[j].2.1))%2=0;lia
theorem X0h(F:Ab K "made_of" (top 72) .none)(X:K.In h)(G:Ng h mg)(B:Bs mg)(dH:Ah P w K mg base k "rows_with" ["rows","part","cell"] (uY K))(gL:Ah P w K mg base k "solved" ["equations"] (xM K))
  (eV:Ah P w K mg base k "apart_by" ["numbers","cells"] (vM K)) (eM:Ah P w K mg base k "product_of" ["marks"] (uq K)):Ah P w K mg base (k+1) "made_of" ["rows","mark","cells"] (Z6 K):=by
 refine F.cal X G ["rows","mark","cells","flips","signs","told","numbers","made"] λnd H vs Q E a h=>?_;obtain⟨l,s,ps,ms,mark,N,rfl,hS,u,t,hN,a0,b0,a4,kq⟩:=h;have S:=u.length
 refine⟨_,(@Aq _ _ _ _ _ (R9 (i:=3) rfl nd rfl rfl (Bp.of (Nc:=["cell","rows","mark"]) (mp:=[none,some 0,some 1]) (by kernel_rfl)) (Lw rfl B.range (Aa (pv 2) Ae)) (λ_ _ _ _=>(DR (i:=0) (show (["cell","rows","mark"]:W0).Nodup by decide +kernel) rfl (Or.inl rfl))) (λ_ _ _ _=>(@Dg _ _ _ _ _ (Aa (Av dH a rfl (Aa (pv 1) (Aa Ac (Aa (pv 0) Ae)))) (Aa (Af Dz (Af M5 (Ai Uj (pv 2) Ac (λ_ _=>rfl)) (pv 0)) Ac) Ae)))) rfl)
  (@Aq _ _ _ _ _ (R9 (i:=4) rfl nd rfl rfl (Bp.of (Nc:=["cell","rows","mark"]) (mp:=[none,some 0,some 1]) (by kernel_rfl)) (Lw rfl B.range (Aa (pv 2) Ae)) (λ_ _ _ _=>(DR (i:=0) (show (["cell","rows","mark"]:W0).Nodup by decide +kernel) rfl (Or.inl rfl))) (λ_ _ _ _=>(@Dg _ _ _ _ _ (Aa (Av dH a rfl (Aa (pv 1) (Aa Ac (Aa (pv 0) Ae)))) (Aa (Af Dz (Af M5 (Ai Uj (pv 2) Ac (λ_ _=>rfl)) (pv 0)) Ac) Ae)))) rfl)
  (@Aq _ _ _ _ _ (@Bb _ _ 5 _ _ _ _ nd rfl (Or.inr rfl) (Av gL a rfl (Aa (Af au (pv 3) (pv 4)) Ae)) rfl (.inl rfl))
  (@Aq _ _ _ _ _ (Bx (B_ oJ (Ai Ao (pv 5) Ac (λ_ _=>rfl)) Lj (Ad _))
   (@Ak _ _ _ (BJ (@Dg _ _ _ _ _ (Aa Fq (Aa (Av eV a rfl (Aa (Ai Ao (pv 5) Ac (λ_ _=>rfl)) (Aa (pv 2) Ae))) Ae)))))
   CK)
  (@Aq _ _ _ _ _ (yP (i:=6) rfl nd rfl rfl (Bp.of (Nc:=["place","told"]) (mp:=[none,some 5]) (by kernel_rfl)) (Lw rfl B.range (Aa (Ck Ig rfl B.len HX (Aa (pv 0) Ae)) Ae)) (λ_ _ _ _=>(DR (i:=0) (show (["place","told"]:W0).Nodup by decide +kernel) rfl (Or.inl rfl))) (λ_ _ _ _=>(K7 (Af Dz (Af M5 (Ai Uj (pv 1) Ac (λ_ _=>rfl)) (pv 0)) Ac) (by intro _;rfl))) (λ_ _ _ _=>(pv 0)) rfl)
  (@Aq _ _ _ _ _ (@Bb _ _ 7 _ _ _ _ nd rfl (Or.inl rfl) (Av eM a rfl (Aa (Iw rfl (Bp.of (Nc:=["place","rows"]) (mp:=[none,some 0]) (by kernel_rfl)) (G_ (pv 6)) (λ_ _ _ _=>(DR (i:=0) (show (["place","rows"]:W0).Nodup by decide +kernel) rfl (Or.inl rfl))) (λ_ _ _ _=>(Ai Z0 (pv 1) (pv 0) (λ_ _=>rfl)))) Ae)) rfl (.inl rfl))
  (@Ak _ _ _ (BJ (@Dg _ _ _ _ _ (Aa Fq (Aa (Af Dt (Af Ji (Ai Ao (pv 1) Ac (λ_ _=>rfl)) (Ai Ao (pv 7) Ac (λ_ _=>rfl))) Ac) (Aa (pv 6) Ae)))))))))))),?_⟩
 try dsimp only[Bm]
 refine⟨_,U,_,U,by lia,by lia,λa1 C=>?_⟩;rw[G8];refine R6 (n:=N) (fr:=[some (.ref l),some (.ref s)]) (λi ys H'=>Same H H'/\H' a1=some (.lst ys)/\∃d:List Addr,ys=d.map V.ref/\Eqs H' d (eqs (ms.map (·.2.1)) mark.2.1 i)) (Jq (by lia)) ⟨BR C _,Ax,[],U,.nil⟩ ?_ ?_
 ·rintro i ys H2 NN hi hl ⟨f,c2,d,rfl,hq⟩ m;have o:(0:Int)+(i:Int)=(i:Int):=LQ _;refine⟨_,U,_,U,l,ps,ms,1,_,i,(by rw[o];rfl),f.seq hS,u.same f,by lia,.inl ⟨U,U⟩,λH3 b=>?_⟩;have S3:Ag K H3 s (L3 mark):=Ag.of (b _ _ (f _ _ t));have e1:(mark.2.1:Int) / 2^(0+(i:Int)).toNat=((mark.2.1 / 2^i:Nat):Int):=by rw[o,G8];simp
  refine⟨_,U,s,_,_,_,U,U,S3,U,_,U,_,_,U,U,by lia,_,_,U,U,t2,λr a=>?_⟩;have g:=BR a (.tup [.int (Wm (ms.map (·.2.1)) i (ms.map (·.2.1)).length:Nat),.int (Builtin.bitAnd ((mark.2.1:Int) / 2^(0+(i:Int)).toNat) 1)]);have hn:a1≠r:=PN (b _ _ c2) a;refine m _ _ (g _ _ (b _ _ c2)) ⟨Fw ((f.trans b).trans g) C,Ax,d++[r],by rw[DW];rfl,?_⟩;rw[Zy];refine Paired.snoc (((hq.same b).same g).upd (g _ _ (b _ _ c2))) ?_;rw[Cg (Ne.symm hn),Ax];show some (HO.tup [.int _,.int (Builtin.bitAnd ((mark.2.1:Int) / 2^(0+(i:Int)).toNat) 1)])=_;rw[e1,Rz];rfl
 rintro ys H1 c0 ⟨S1,c1,R,rfl,W⟩;refine⟨_,U,_,U,by lia,by lia,λa2 O=>?_⟩;rw[G8];refine R6 (n:=N) (fr:=[some (.ref l),some (.ref s)]) (λi ys H'=>Same H1 H'/\H' a2=some (.lst ys)/\∃d:List Addr,ys=d.map V.ref/\Eqs H' d (eqs (ms.map (·.2.2)) mark.2.2 i)) (Jq (by lia)) ⟨BR O _,Ax,[],U,.nil⟩ ?_ ?_
 ·rintro i ys H2 NN hi hl ⟨f,c2,d,rfl,hq⟩ m;have o:(0:Int)+(i:Int)=(i:Int):=LQ _;refine⟨_,U,_,U,l,ps,ms,2,_,i,(by rw[o];rfl),f.seq (S1.seq hS),(u.same S1).same f,by lia,.inr ⟨U,U⟩,λH3 b=>?_⟩;have S3:Ag K H3 s (L3 mark):=Ag.of (b _ _ (f _ _ (S1 _ _ t)));have e1:(mark.2.2:Int) / 2^(0+(i:Int)).toNat=((mark.2.2 / 2^i:Nat):Int):=by rw[o,G8];simp
  refine⟨_,U,s,_,_,_,U,U,S3,U,_,U,_,_,U,U,by lia,_,_,U,U,t2,λr a=>?_⟩;have g:=BR a (.tup [.int (Wm (ms.map (·.2.2)) i (ms.map (·.2.2)).length:Nat),.int (Builtin.bitAnd ((mark.2.2:Int) / 2^(0+(i:Int)).toNat) 1)]);have hn:a2≠r:=PN (b _ _ c2) a;refine m _ _ (g _ _ (b _ _ c2)) ⟨Fw ((f.trans b).trans g) O,Ax,d++[r],by rw[DW];rfl,?_⟩;rw[Zy];refine Paired.snoc (((hq.same b).same g).upd (g _ _ (b _ _ c2))) ?_;rw[Cg (Ne.symm hn),Ax];show some (HO.tup [.int _,.int (Builtin.bitAnd ((mark.2.2:Int) / 2^(0+(i:Int)).toNat) 1)])=_;rw[e1,Rz];rfl
 rintro ys H2 b8 ⟨S2,c2,a3,rfl,T⟩;have b6:=S1.trans S2;have b3:=W.length;have b4:=T.length;rw[Ui]at b3 b4;refine⟨_,U,_,U,a1,a2,_,_,U,U,S2 _ _ c1,c2,(by rw[Bg,Bg];exact Jq (by lia)),λcl b5=>?_⟩;have S3:=BR b5 (.lst (R.map V.ref++a3.map V.ref));refine⟨cl,R++a3,both ms mark N,U,?_,?_,X3b a0,by rw[v8];lia,λrt H4 S4 M=>?_⟩
 ·rw[DW];exact Aw.of Ax
 ·exact uf ((W.same S2).same S3) (T.same S3)
 have SS:=b6.trans (S3.trans S4);rcases M with ⟨x,a,hs⟩ | ⟨c,q,a,hq,clt,hc⟩
 ·have ST:Ag K H4 rt [.int x,.non]:=Ag.of a;refine⟨_,U,rt,_,_,_,U,U,ST,U,U,_,U,Ow (λz=>absurd (Mr z) (by intro z;cases z)) (λ_=>?_)⟩;have lm:(ps.map V.ref).length=ms.length:=by rw[Bg,S]
  refine⟨_,U,l,_,U,.inl (SS.seq hS),_,U,by lia,by lia,λa5 y=>?_⟩;rw[G8,lm];refine yL (n:=ms.length) (fr:=[some (.ref rt)]) (λi ys H'=>Same H4 H'/\H' a5=some (.lst ys)/\ys=(places x i).map λp=>V.int (p:Nat)) (Jq (by lia)) ⟨BR y _,Ax,U⟩ ?_ (λu z=>?_) ?_
  ·rintro i ys H5 NN hi hl ⟨s5,D,rfl⟩ m;have o:(0:Int)+(i:Int)=(i:Int):=LQ _;have e1:(x:Int) / 2^(0+(i:Int)).toNat=((x / 2^i:Nat):Int):=by rw[o,G8];simp
   refine⟨_,U,rt,_,_,_,U,U,Ag.of (s5 _ _ a),U,_,U,_,_,U,U,by lia,_,_,U,U,_,U,?_⟩;have j:=Yb x i;show NN (Builtin.bitAnd ((x:Int) / 2^(0+(i:Int)).toNat) 1 != 0) H5;rw[e1,Rz];refine m _ _ (λZ=>?_) (λJ=>?_)
   ·have h1:x / 2^i%2=1:=by
     have:x / 2^i%2≠0:=λz=>by rw[z]at Z;cases Z
     lia
    rw[if_pos h1]at j;refine⟨_,U,D,Fw s5 y,Ax,?_⟩;rw[j,DW,o];rfl
   ·have h0:¬ x / 2^i%2=1:=λz=>by rw[z]at J;cases J
    rw[if_neg h0,Mq]at j;exact⟨s5,D,by rw[j]⟩
  ·obtain⟨v,e,qq⟩:=z;exact⟨v,e,u _ _ qq⟩
  rintro ys H5 ⟨S5,D,rfl⟩;have Y:=SS.trans S5;have em:((places x ms.length).map λp=>V.int (p:Nat))=((places x ms.length).map λp=>((p:Nat):Int)).map V.int:=by rw[KR];rfl
  have A:=D;rw[em]at A;have b7:(places x ms.length).length<=12:=G7 (jO _ _) (by rw[Wc];exact a0);refine⟨_,U,a5,U,⟨_,Aw.of A⟩,λa6 a9=>?_⟩;refine X5v (ns:=(places x ms.length).map λp=>((p:Nat):Int)) (fr:=[some (.ref l)]) (λz=>.ref (ps.getD z.toNat 0)) (Aw.of A) (by rw[Bg];exact Jq (by lia)) a9 (λz H6 NN hz s6 m=>?_) ?_
  ·obtain⟨p,hp,rfl⟩:=Ej.mp hz;obtain⟨pa,e1,_⟩:=u.at (SJ hp);have eg:ps.getD p 0=pa:=by rw[CP,e1];rfl
   refine⟨_,U,_,U,l,_,_,_,U,U,s6.seq (Y.seq hS),Ln (v:=.ref pa) (by rw[Cj,e1];rfl),?_⟩;rw[G8,eg]at m;exact m
  intro H6 S6 c6;have I:=Y.trans S6;refine⟨a6,(places x ms.length).map (λp=>ps.getD p 0),chosen ms x ms.length,U,?_,(u.same I).pick _ (λp hp=>SJ hp),λrp H7 S7 sp=>?_⟩
  ·rw[KR]at c6;rw[KR];exact Aw.of c6
  have L:=I.trans S7;have SM:Ag K H7 s (L3 mark):=Ag.of (L _ _ t);have pq:=pB (chosen ms x ms.length) (0,0,0) (by decide);have bs:=X6r b0 a4 hs;have qk:=a4.q;refine⟨_,U,s,_,_,_,U,U,SM,U,_,U,rp,_,_,_,U,U,sp,U,_,_,U,U,_,_,U,U,Qw,_,U,t3,λr a8=>?_⟩;have e7:(((mark.1:Int)-((prod (chosen ms x ms.length)).1:Nat))%4)=(((((mark.1:Int)-((prod (chosen ms x ms.length)).1:Nat))%4).toNat:Nat):Int):=by lia
  refine kq r _ (L.trans (BR a8 _)) (.inl ⟨(((mark.1:Int)-((prod (chosen ms x ms.length)).1:Nat))%4).toNat,x,a5,SS.free y,?_,BR a8 _ _ _ (S7 _ _ (S6 _ _ D)),by lia,?_⟩)
  ·rw[Ax];show some (HO.tup [.str "made",.int (((mark.1:Int)-((prod (chosen ms x ms.length)).1:Nat))%4),.ref a5])=_;rw[<-e7]
  ·rw[YX (by lia),bs];have b9:(prod (chosen ms x ms.length)).1<4:=pq;refine Prod.ext ?_ rfl;show ((((mark.1:Int)-((prod (chosen ms x ms.length)).1:Nat))%4).toNat+(prod (chosen ms x ms.length)).1)%4=mark.1;lia
 ·have ST:Ag K H4 rt [.non,.ref q]:=Ag.of a;rw[v8]at clt;refine⟨_,U,rt,_,_,_,U,U,ST,U,U,_,U,C_ ?_⟩;refine⟨_,U,rt,_,_,_,U,U,ST,U,_,U,q,c,N,U,Aw.of hq,hN,clt,λra H5 S5 ha=>⟨t2,λr a7=>?_⟩⟩;obtain⟨b1,b2⟩:=Y8h clt hc;refine kq r _ ((SS.trans S5).trans (BR a7 _)) (.inr ⟨ra,_,Ax,BR a7 _ _ _ ha,⟨Ep _ (by decide),?_,Ep _ (Cu N)⟩,?_,b1,b2⟩)
  ·rw[Od]at clt;exact Nat.div_lt_of_lt_mul clt
  ·show (pc (c / 2^N&&&c%2^N)%4+pc (c / 2^N&&&c%2^N))%2=0;lia
theorem zG(K:U0):PySem.W.kitOne K (.type "list") (.type "list")=some true:=by unfold PySem.W.kitOne;rw[if_pos (by decide)]
theorem Yj(K:U0):PySem.W.kitOne K (.type "tuple") (.type "tuple")=some true:=by unfold PySem.W.kitOne;rw[if_pos (by decide)]
def M9:Sp:=λvs H Q _=>∃i:Int,vs=[.int i]/\Q (.bl true) H
def aJ (K:U0):Sp:=λvs H Q _=>∃(p p':W9) (m m':Mk),vs=[.ref p,.ref p']/\Ag K H p (L3 m)/\Ag K H p' (L3 m')/\Q (.bl (decide (comm m m'=0))) H
theorem qY{ns:U6}{i:Int}(h0:0<=i)(h:i<ns.length):Gv (ns.map V.int) i=some (.int (ns.getD i.toNat 0)):=by
 have a:i.toNat<ns.length:=by lia
 have b:i=((i.toNat:Nat):Int):=by lia
 have q:Gv (ns.map V.int) ((i.toNat:Nat):Int)=some (.int ns[i.toNat]):=Ln (by rw[Cj,Cm a]<;>rfl);rw[<-b]at q;rw[q,CP,Cm a];rfl
end
end Ay
namespace Gg
open Pc Hr Dh
noncomputable def xs (fs:W3)(c:Nat->Bool):Nat->Nat
 | 0=>0
 | m+1=>if c m then xs fs c m^^^fs.getD m 0 else xs fs c m
theorem Lz(fs:W3)(x:Nat):∀m,Xm fs x m=xs fs (λj=>decide (bit x j=1)) m
 | 0=>rfl
 | m+1=>by
  unfold Xm xs;rw[Lz fs x m];by_cases h:bit x m=1<;>simp[h]
theorem R_{fs gs:W3}{c d:Nat->Bool}:∀m,(∀j,j<m->c j=d j/\fs.getD j 0=gs.getD j 0)->xs fs c m=xs gs d m
 | 0,_=>rfl
 | m+1,h=>by
  unfold xs;rw[R_ m λj a=>h j (by lia),(h m (by lia)).1,(h m (by lia)).2]
noncomputable def FP (ms:List Mk):List Nat:=ms.map (·.2.1)
noncomputable def Em (ms:List Mk):List Nat:=ms.map (·.2.2)
def Indep (ms:List Mk):Prop:=∀c:Nat->Bool,xs (FP ms) c ms.length=0->xs (Em ms) c ms.length=0->∀j,j<ms.length->c j=false
theorem vo(c:Nat->Bool){fs:W3}(n:Nat):∀m,(∀j,j<m->fs.getD j 0=2^j)->bit (xs fs c m) n=if n<m/\c n=true then 1 else 0
 | 0,_=>by unfold xs;rw[Ls];simp
 | m+1,h=>by
  have a:=vo c (fs:=fs) n m λj b=>h j (by lia);unfold xs;split
  ·rename_i hc;rw[Dh.Ib,a,h m (by lia),_8];by_cases e:n=m
   ·subst e;simp[hc]
   ·by_cases e2:n<m
    ·simp[e2,e,show n<m+1 by lia];split<;>decide
    ·simp[e2,e,show ¬ n<m+1 by lia]
  ·rename_i hc;rw[a];by_cases e:n=m
   ·subst e;simp[hc]
   ·by_cases e2:n<m
    ·simp[e2,show n<m+1 by lia]
    ·simp[e2,show ¬ n<m+1 by lia]
theorem Y4m(N:Nat):Indep ((List.range N).map λj=>((0,0,2^j):Mk)):=λc _ d j a=>by
 rw[Bg,Wc]at *;have e:∀j,j<N->(Em ((List.range N).map λj=>((0,0,2^j):Mk))).getD j 0=2^j:=λj a=>by
  unfold Em;simp[a]
 have b:=vo c j N e;rw[d,Ls]at b;cases hc:c j with
 | false=>rfl
 | true=>rw[if_pos ⟨a,hc⟩]at b;cases b
theorem uH(o a b:Nat):pc (o&&&(a^^^b))%2=(pc (o&&&a)+pc (o&&&b))%2:=by rw[Qc];exact Jw _ _
variable{ms:List Mk}{x y:Nat}
theorem X1v(I:Indep ms)(hx:x<2^ms.length)(hy:y<2^ms.length)(hf:Xm (FP ms) x ms.length=Xm (FP ms) y ms.length)(hs:Xm (Em ms) x ms.length=Xm (Em ms) y ms.length):x=y:=by
 have a:∀(fs:W3) m,Xm fs (x^^^y) m=Xm fs x m^^^Xm fs y m:=by
  intro fs m;induction m with
  | zero=>show 0=0^^^0;simp
  | succ m ih =>
   have b:=Dh.Ib m x y;have f:=Ef x m;have e:=Ef y m;unfold Xm;rw[ih,b];rcases (by lia:bit x m=0\/bit x m=1) with z | z<;>rcases (by lia:bit y m=0\/bit y m=1) with u | u<;>rw[z,u]
   ·simp
   ·simp[E_]
   ·simp only[show (1+0)%2=1 from rfl,Ja,show ¬ (0=1) by decide,Jb];rw[E_,E_,KY (Xm fs y m)]
   ·simp only[show ¬ ((1+1)%2=1) by decide,Ja,Jb];rw[E_,KY (Xm fs y m) (fs.getD m 0),<-E_ (fs.getD m 0),HW,Nat.zero_xor]
 have c:Xm (FP ms) (x^^^y) ms.length=0:=by rw[a,hf,HW]
 have zs:Xm (Em ms) (x^^^y) ms.length=0:=by rw[a,hs,HW]
 rw[Lz]at c zs;refine SQ ms.length x y hx hy λn d=>?_;have h:=jE (I _ c zs n d);have b:=Dh.Ib n x y;have g:=Ef x n;have e:=Ef y n;lia
theorem Y3w(m:Nat)(h:∀n,n<m->bit x n=bit y n):places x m=places y m:=by
 unfold places;refine List.filter_congr λp hp=>?_;have:=h p (Ek.mp hp);unfold bit at this;simp only[this]
theorem Y4s(ms:List Mk)(m:Nat)(h:∀n,n<m->bit x n=bit y n):chosen ms x m=chosen ms y m:=by
 unfold chosen;rw[Y3w m h]
theorem _7(x m:Nat){n:Nat}(h:n<m):bit (x%2^m) n=bit x n:=by
 have t:=Nat.testBit_mod_two_pow x m n;rw[UG,UG,Gb h,Bool.true_and,iW]at t;have a:=Ef (x%2^m) n;have b:=Ef x n;unfold bit at *;lia
theorem SN(ms:List Mk)(x m:Nat):chosen ms (x%2^m) m=chosen ms x m:=Y4s ms m λn a=>_7 x m a
theorem Q7(ms:List Mk){x i:Nat}(h:x<2^i):∀d,chosen ms x (i+d)=chosen ms x i
 | 0=>rfl
 | d+1=>by
  rw[<-Nat.add_assoc,Uw,if_neg (by rw[bN h (by lia)];decide),Mq];exact Q7 ms h d
noncomputable def E (ms:List Mk)(x:Nat):Mk:=prod (chosen ms x ms.length)
theorem W8q(ms:List Mk)(x:Nat):E ms (x%2^ms.length)=E ms x:=by unfold E;rw[SN]
theorem qW(ms:List Mk):E ms 0=(0,0,0):=by
 unfold E;have:=Q7 ms (x:=0) (i:=0) (by decide) ms.length;rw[Jr]at this;rw[this];rfl
theorem yd(ms:List Mk){i:Nat}(hx:x<2^i)(hi:i<ms.length):E ms (x+2^i)=mul (E ms x) (ms.getD i (0,0,0)):=by
 obtain⟨d,hd⟩:∃d,ms.length=i+1+d:=⟨ms.length-(i+1),by lia⟩;have lt:x+2^i<2^(i+1):=by rw[QL];lia
 have a:bit (x+2^i) i=1:=by
  unfold bit;rw[ig _ (Cu i),Og hx]
 have lo:chosen ms (x+2^i) i=chosen ms x i:=by
  rw[<-SN,iu,JL hx]
 have e1:chosen ms (x+2^i) ms.length=chosen ms x i++[ms.getD i (0,0,0)]:=by
  rw[hd,Q7 ms lt d,Uw,if_pos a,lo]
 have e2:chosen ms x ms.length=chosen ms x i:=by
  rw[hd,Nat.add_assoc];exact Q7 ms hx _
 unfold E;rw[e1,e2];unfold prod;rw[Tt];rfl
theorem W6r(ms:List Mk){i:Nat}(hi:i<ms.length)(q:(ms.getD i (0,0,0)).1<4):E ms (2^i)=ms.getD i (0,0,0):=by
 have:=yd ms (x:=0) (Cu i) hi;rw[Jr,qW]at this;rw[this];revert q;generalize ms.getD i (0,0,0)=z;obtain⟨a,b,c⟩:=z;intro q;unfold mul;simp[GJ,JL q]
theorem Yp(I:Indep ms)(hx:x<2^ms.length)(hy:y<2^ms.length)(h:(E ms x).2=(E ms y).2):x=y:=by
 refine X1v I hx hy ?_ ?_
 ·have:=congrArg Prod.fst h;unfold E at this;rw[Ud,Ud]at this;exact this
 ·have:=congrArg Prod.snd h;unfold E at this;rw[Ue,Ue]at this;exact this
def In (ms:List Mk)(m:Mk):Prop:=∃x,x<2^ms.length/\E ms x=m
theorem W5q{m:Mk}(h:(chosen ms x ms.length).foldl mul (0,0,0)=m):In ms m:=⟨x%2^ms.length,Ep _ (Cu _),by rw[W8q];exact h⟩
theorem fget(ms:List Mk)(j:Nat):(FP ms).getD j 0=(ms.getD j (0,0,0)).2.1:=by
 unfold FP;rw[CP,CP,Cj];cases ms[j]?<;>rfl
theorem Fo(ms:List Mk)(j:Nat):(Em ms).getD j 0=(ms.getD j (0,0,0)).2.2:=by
 unfold Em;rw[CP,CP,Cj];cases ms[j]?<;>rfl
theorem Y4n{rs:List Mk}(hl:rs.length=ms.length)(h:∀j,j<ms.length->(rs.getD j (0,0,0)).2=(ms.getD j (0,0,0)).2)(I:Indep ms):Indep rs:=by
 intro c hf b j a;rw[hl]at hf b a;refine I c ?_ ?_ j a
 ·rw[<-hf];exact(R_ _ λj a=>⟨U,by rw[fget,fget,h j a]⟩).symm
 ·rw[<-b];exact(R_ _ λj a=>⟨U,by rw[Fo,Fo,h j a]⟩).symm
end Gg
namespace Cp
open Pc Hr Dh Gg
structure Cq (v n:Nat):Prop where
 one:bit v n=1
 low:∀m,m<n->bit v m=0
variable{n:Nat}
theorem Cq.uniq{v n':Nat}(h:Cq v n)(h':Cq v n'):n=n':=by
 rcases iy n n' with lt | e | lt
 ·have:=h'.low n lt;rw[h.one]at this;cases this
 ·exact e
 ·have:=h.low n' lt;rw[h'.one]at this;cases this
structure Red (vs ls:W3):Prop where
 len:ls.length=vs.length
 ld:∀i,i<vs.length->Cq (vs.getD i 0) (ls.getD i 0)
 off:∀i j,i<vs.length->j<vs.length->i≠j->bit (vs.getD i 0) (ls.getD j 0)=0
 rise:ls.Pairwise (·<·)
theorem pC{vs ls:W3}(R:Red vs ls)(c:Nat->Bool){j:Nat}(hj:j<vs.length):∀m,m<=vs.length->bit (xs vs c m) (ls.getD j 0)=if j<m/\c j=true then 1 else 0
 | 0,_=>by unfold xs;rw[Ls];simp
 | m+1,hm=>by
  have d:=pC R c hj m (by lia);unfold xs;by_cases e:j=m
  ·subst e;rw[if_neg (by lia)]at d;cases hc:c j
   ·simp only[Rh,Jb,and_false];exact d
   ·simp only[Ja,and_true];rw[Dh.Ib,d,(R.ld j hj).one,if_pos (by lia)]
  ·have off:=R.off m j (by lia) hj (Ne.symm e);have lt:(j<m+1/\c j=true)↔(j<m/\c j=true):=by constructor<;>rintro ⟨a,b⟩<;>exact⟨by lia,b⟩
   simp only[lt];split
   ·rw[Dh.Ib,d,off];split<;>rfl
   ·exact d
theorem pQ{vs:W3}{c:Nat->Bool}{n:Nat}:∀m,bit (xs vs c m) n=1->∃i,i<m/\c i=true/\bit (vs.getD i 0) n=1
 | 0,h=>by unfold xs at h;rw[Ls]at h;cases h
 | m+1,h=>by
  unfold xs at h;by_cases hc:c m=true
  ·rw[if_pos hc,Dh.Ib]at h;have b:=Ef (vs.getD m 0) n;by_cases e:bit (vs.getD m 0) n=1
   ·exact⟨m,by lia,hc,e⟩
   ·have a:=Ef (xs vs c m) n;have d:bit (xs vs c m) n=1:=by lia
    obtain⟨i,hi,x,y⟩:=pQ m d;exact⟨i,by lia,x,y⟩
  ·rw[if_neg hc]at h;obtain⟨i,hi,x,y⟩:=pQ m h;exact⟨i,by lia,x,y⟩
variable{vs ls:W3}
theorem X4f(R:Red vs ls){c:Nat->Bool}(h:Cq (xs vs c vs.length) n):∃i,i<vs.length/\ls.getD i 0=n:=by
 obtain⟨i,hi,a,hb⟩:=pQ _ h.one;refine⟨i,hi,?_⟩;have b:=pC R c hi vs.length (CG _);rw[if_pos ⟨hi,a⟩]at b;rcases iy (ls.getD i 0) n with lt | e | lt
 ·rw[h.low _ lt]at b;cases b
 ·exact e
 ·have:=(R.ld i hi).low n lt;rw[hb]at this;cases this
theorem vL:∀{l r:W3},l.Pairwise (·<·)->r.Pairwise (·<·)->(∀x,x∈l↔x∈r)->l=r
 | [],[],_,_,_=>rfl
 | [],y::r,_,_,h=>by have:=(h y).mpr Je;cases this
 | x::l,[],_,_,h=>by have:=(h x).mp Je;cases this
 | x::l,y::r,hl,hr,h=>by
  have c:=List.pairwise_cons.mp hl;have d:=List.pairwise_cons.mp hr;have f:x=y:=by
   rcases Dj.mp ((h x).mp Je) with e | m
   ·exact e
   ·rcases Dj.mp ((h y).mpr Je) with e | m'
    ·exact e.symm
    ·have a:=d.1 x m;have b:=c.1 y m';lia
  subst f;rw[vL c.2 d.2 λz=>⟨λm=>?_,λm=>?_⟩]
  ·rcases Dj.mp ((h z).mp (Ju _ m)) with e | q
   ·have:=c.1 z m;lia
   ·exact q
  ·rcases Dj.mp ((h z).mpr (Ju _ m)) with e | q
   ·have:=d.1 z m;lia
   ·exact q
variable{i:Nat}
theorem X2g{l:W3}(h:i<l.length):l.getD i 0∈l:=by rw[CP,Cm h];exact Rc h
theorem mem_getD{l:W3}{x:Nat}(h:x∈l):∃i,i<l.length/\l.getD i 0=x:=by
 obtain⟨i,hi,e⟩:=Om.mp h;exact⟨i,hi,by rw[CP,Cm hi];exact e⟩
def Km (vs ws:W3):Prop:=∀i,i<ws.length->∃c,ws.getD i 0=xs vs c vs.length
theorem yM{ws ks:W3}(R:Red vs ls)(S:Red ws ks)(h:Km vs ws):∀x,x∈ks->x∈ls:=by
 intro x d;obtain⟨i,hi,e⟩:=mem_getD d;rw[S.len]at hi;obtain⟨c,b⟩:=h i hi;have ld:=S.ld i hi;rw[b,e]at ld;obtain⟨j,a,f⟩:=X4f R ld;rw[<-f];exact X2g (by rw[R.len];exact a)
theorem X4d{ws ks:W3}(R:Red vs ls)(S:Red ws ks)(h:Km vs ws)(h':Km ws vs):vs=ws:=by
 have g:ls=ks:=vL R.rise S.rise λx=>⟨yM S R h' x,yM R S h x⟩;subst g;have len:vs.length=ws.length:=by rw[<-R.len,S.len]
 have pt:∀i,i<ws.length->ws.getD i 0=vs.getD i 0:=λi hi=>by
  obtain⟨c,d⟩:=h i hi;have a:i<vs.length:=by lia
  have only:∀j,j<vs.length->c j=decide (j=i):=λj f=>by
   have b:=pC R c f vs.length (CG _);rw[<-d]at b;by_cases e:j=i
   ·subst e;rw[(S.ld j hi).one]at b;split at b
    ·rename_i z;rw[z.2,Gb rfl]
    ·cases b
   ·rw[S.off i j hi (by lia) (Ne.symm e)]at b;split at b
    ·cases b
    ·rename_i z;rw[FJ e];cases hcj:c j
     ·rfl
     ·exact absurd ⟨f,hcj⟩ z
  have one:∀m,m<=vs.length->xs vs c m=if i<m then vs.getD i 0 else 0:=by
   intro m;induction m with
   | zero=>intro _;rfl
   | succ m ih =>
    intro k;unfold xs;rw[ih (by lia),only m (by lia)];by_cases e:m=i
    ·subst e;simp
    ·by_cases lt:i<m
     ·simp[e,lt,show i<m+1 by lia]
     ·simp[e,lt,show ¬ i<m+1 by lia]
  rw[d,one _ (CG _),if_pos a]
 refine Wa len λi h1 h2=>?_;have:=pt i h2;rw[CP,CP,Cm h1,Cm h2]at this;exact this.symm
noncomputable def cm (a b:Mk):Nat:=(pc (a.2.1&&&b.2.2)+pc (a.2.2&&&b.2.1))%2
def ev (a:Mk):Prop:=(a.1+pc (a.2.1&&&a.2.2))%2=0
theorem mul_assoc(a b c:Mk):mul (mul a b) c=mul a (mul b c):=by
 have h1:=Jw (a.2.2&&&c.2.1) (b.2.2&&&c.2.1);have h2:=Jw (a.2.2&&&b.2.1) (a.2.2&&&c.2.1);rw[<-Rk]at h1;rw[<-Qc]at h2;unfold mul;refine Prod.ext ?_ (Prod.ext (E_ _ _ _) (E_ _ _ _));show ((a.1+b.1+2*pc (a.2.2&&&b.2.1))%4+c.1+2*pc ((a.2.2^^^b.2.2)&&&c.2.1))%4=(a.1+(b.1+c.1+2*pc (b.2.2&&&c.2.1))%4+2*pc (a.2.2&&&(b.2.1^^^c.2.1)))%4;lia
theorem mul_comm{a b:Mk}(h:cm a b=0):mul a b=mul b a:=by
 unfold cm at h;unfold mul;refine Prod.ext ?_ (Prod.ext (KY _ _) (KY _ _));show (a.1+b.1+2*pc (a.2.2&&&b.2.1))%4=(b.1+a.1+2*pc (b.2.2&&&a.2.1))%4;rw[Il b.2.2 a.2.1];lia
theorem mul_one{a:Mk}(h:a.1<4):mul a (0,0,0)=a:=by
 obtain⟨q,f,s⟩:=a;unfold mul;simp[GJ,JL h]
theorem one_mul{a:Mk}(h:a.1<4):mul (0,0,0) a=a:=by
 obtain⟨q,f,s⟩:=a;unfold mul;simp[GJ,JL h]
variable{a:Mk}
theorem wR(h:ev a):mul a a=(0,0,0):=by
 unfold ev at h;unfold mul;rw[HW,HW,Il];refine Prod.ext ?_ rfl;show (a.1+a.1+2*pc (a.2.1&&&a.2.2))%4=0;lia
theorem Qn(o a b:Mk):cm o (mul a b)=(cm o a+cm o b)%2:=by
 unfold cm mul;show (pc (o.2.1&&&(a.2.2^^^b.2.2))+pc (o.2.2&&&(a.2.1^^^b.2.1)))%2=_;rw[Qc,Qc];have h1:=Jw (o.2.1&&&a.2.2) (o.2.1&&&b.2.2);have h2:=Jw (o.2.2&&&a.2.1) (o.2.2&&&b.2.1);lia
theorem Ie(a b:Mk):cm a b=cm b a:=by
 unfold cm;rw[Il a.2.1,Il a.2.2,TY]
structure Fz (ms:List Mk):Prop where
 q:∀m∈ms,m.1<4
 even:∀m∈ms,ev m
 com:∀m∈ms,∀r∈ms,cm m r=0
def G (ms:List Mk)(m:Nat)(g:Mk):Prop:=∃x,g=prod (chosen ms x m)
variable{ms:List Mk}{m:Nat}{g:Mk}
theorem Pr(h:G ms m g):g.1<4:=by
 obtain⟨x,rfl⟩:=h;exact pB _ _ (by decide)
theorem KD(h:G ms m g):G ms (m+1) g:=by
 obtain⟨x,rfl⟩:=h;refine⟨x%2^m,?_⟩;rw[Q7 ms (Ep _ (Cu m)) 1,SN]
theorem qu(h:G ms m g):G ms (m+1) (mul g (ms.getD m (0,0,0))):=by
 obtain⟨x,rfl⟩:=h;have b:=Ep x (Cu m);refine⟨x%2^m+2^m,?_⟩;have a:bit (x%2^m+2^m) m=1:=by
  unfold bit;rw[ig _ (Cu m),Og b]
 rw[Uw,if_pos a,<-SN ms (x%2^m+2^m),iu,Nat.mod_mod,SN];unfold prod;rw[Tt];rfl
theorem X_(h:G ms (m+1) g):G ms m g\/∃g',G ms m g'/\g=mul g' (ms.getD m (0,0,0)):=by
 obtain⟨x,rfl⟩:=h;rw[Uw];split
 ·refine .inr ⟨_,⟨x,U⟩,?_⟩;unfold prod;rw[Tt];rfl
 ·rw[Mq];exact .inl ⟨x,U⟩
theorem DG(h:i<ms.length):ms.getD i (0,0,0)∈ms:=by rw[CP,Cm h];exact Rc h
theorem W6d(o:Mk):cm o (0,0,0)=0:=by unfold cm;simp[GJ]
theorem Q8{ms:List Mk}{o:Mk}(ho:∀r∈ms,cm o r=0):∀{m:Nat}{g:Mk},m<=ms.length->G ms m g->cm o g=0
 | 0,g,_,⟨x,e⟩=>by rw[e];exact W6d o
 | m+1,g,hm,h=>by
  rcases X_ h with q | ⟨g',q,rfl⟩
  ·exact Q8 ho (by lia) q
  ·rw[Qn,Q8 ho (by lia) q,ho _ (DG (by lia))]
theorem Q9{ms:List Mk}(N:Fz ms):∀{m:Nat}{g h:Mk},m<=ms.length->G ms m g->G ms m h->G ms m (mul g h)
 | 0,g,h,_,⟨x,e⟩,⟨y,e'⟩=>by
  have a:g=(0,0,0):=e;have b:h=(0,0,0):=e';subst a b;exact⟨0,one_mul (by decide)⟩
 | m+1,g,h,hm,hg,hh=>by
  have d:=DG (ms:=ms) (i:=m) (by lia);generalize er:ms.getD m (0,0,0)=r at *;have up:∀{z},G ms m z->G ms (m+1) (mul z r):=λq=>by rw[<-er];exact qu q
  rcases X_ hg with qg | ⟨g',qg,a⟩<;>rcases X_ hh with qh | ⟨h',qh,b⟩
  ·exact KD (Q9 N (by lia) qg qh)
  ·rw[er]at b;subst b;rw[<-mul_assoc];exact up (Q9 N (by lia) qg qh)
  ·rw[er]at a;subst a;have c:cm r h=0:=Q8 (N.com r d) (by lia) qh;rw[mul_assoc,mul_comm c,<-mul_assoc];exact up (Q9 N (by lia) qg qh)
  ·rw[er]at a b;subst a b;have c:cm r h'=0:=Q8 (N.com r d) (by lia) qh;have e:mul (mul g' r) (mul h' r)=mul g' h':=by
    rw[mul_assoc,<-mul_assoc r h' r,mul_comm c,mul_assoc h' r r,wR (N.even r d),mul_one (Pr qh)]
   rw[e];exact KD (Q9 N (by lia) qg qh)
theorem Jy:In ms g↔G ms ms.length g:=by
 constructor
 ·rintro ⟨x,_,e⟩;exact⟨x,e.symm⟩
 ·rintro ⟨x,e⟩;exact W5q e.symm
variable{h:Mk}
theorem qd(N:Fz ms)(hg:In ms g)(hh:In ms h):In ms (mul g h):=Jy.mpr (Q9 N (CG _) (Jy.mp hg) (Jy.mp hh))
theorem W5p(ms:List Mk):In ms (0,0,0):=⟨0,Cu _,qW ms⟩
theorem W5o(hi:i<ms.length)(q:(ms.getD i (0,0,0)).1<4):In ms (ms.getD i (0,0,0)):=⟨2^i,Jf (by decide) hi,W6r ms hi q⟩
theorem X1x{ms:List Mk}(N:Fz ms):∀{rs:List Mk}{g:Mk},(∀r∈rs,In ms r)->In ms g->In ms (rs.foldl mul g)
 | [],_,_,h=>h
 | r::rs,g,hr,h=>X1x (rs:=rs) N (λz a=>hr z (Ju _ a)) (qd N h (hr r Je))
theorem Y8f{x:Nat}{m:Mk}(h:m∈chosen ms x ms.length):m∈ms:=by
 obtain⟨p,hp,rfl⟩:=Ej.mp h;exact DG (SJ hp)
theorem O9{rs:List Mk}(N:Fz ms)(h:∀r∈rs,In ms r)(hg:In rs g):In ms g:=by
 obtain⟨x,_,rfl⟩:=hg;exact X1x N (λr a=>h r (Y8f a)) (W5p ms)
theorem W1u(I:Indep ms)(hg:In ms g)(hh:In ms h)(e:g.2=h.2):g=h:=by
 obtain⟨x,b,rfl⟩:=hg;obtain⟨y,a,rfl⟩:=hh;rw[Yp I b a e]
noncomputable abbrev z0:Mk:=(0,0,0)
noncomputable def vec (m:Mk):Nat:=m.2.1+64*m.2.2
structure V6 (m:Mk):Prop where
 f:m.2.1<2^6
 s:m.2.2<2^6
variable{b:Mk}
theorem V6.mul(ha:V6 a)(hb:V6 b):V6 (mul a b):=⟨Er ha.f hb.f,Er ha.s hb.s⟩
theorem J9{f s:Nat}(h:f<2^6)(n:Nat):bit (f+64*s) n=if n<6 then bit f n else bit s (n-6):=by
 have h':f<64:=h;by_cases c:n<6
 ·rw[if_pos c];unfold bit;have:n=0\/n=1\/n=2\/n=3\/n=4\/n=5:=by lia
  rcases this with rfl | rfl | rfl | rfl | rfl | rfl<;>simp only[Nat.reducePow]<;>lia
 ·rw[if_neg c];obtain⟨k,rfl⟩:∃k,n=6+k:=⟨n-6,by lia⟩;unfold bit;rw[Od,<-Zk,show (f+64*s) / 2^6=s by rw[show (2:Nat)^6=64 from rfl];lia,show 6+k-6=k by lia]
theorem pO(ha:V6 a)(hb:V6 b)(n:Nat):bit (vec (mul a b)) n=(bit (vec a) n+bit (vec b) n)%2:=by
 unfold vec;rw[J9 (ha.mul hb).f,J9 ha.f,J9 hb.f];unfold mul;split
 ·exact Dh.Ib _ _ _
 ·exact Dh.Ib _ _ _
theorem X1k(v:Nat):∀N,(∃n,n<N/\Cq v n)\/∀n,n<N->bit v n=0
 | 0=>.inr λn h=>absurd h (Js _)
 | N+1=>by
  rcases X1k v N with ⟨n,a,l⟩ | h
  ·exact .inl ⟨n,by lia,l⟩
  ·have b:=Ef v N;by_cases e:bit v N=1
   ·exact .inl ⟨N,by lia,e,h⟩
   ·refine .inr λn a=>?_;by_cases en:n=N
    ·subst en;lia
    ·exact h n (by lia)
theorem X6f{m:Mk}(h:V6 m)(nz:m.2≠(0,0)):∃n,n<12/\Cq (vec m) n:=by
 rcases X1k (vec m) 12 with q | q
 ·exact q
 ·exfalso;refine nz (Prod.ext ?_ ?_)
  ·refine SQ 6 _ _ h.f (by decide) λn a=>?_;have:=q n (by lia);unfold vec at this;rw[J9 h.f,if_pos a]at this;rw[this,Ls]
  ·refine SQ 6 _ _ h.s (by decide) λn a=>?_;have:=q (n+6) (by lia);unfold vec at this;rw[J9 h.f,if_neg (by lia),Wh]at this;rw[this,Ls]
noncomputable def wl (m r:Mk)(n:Nat):Mk:=if bit (vec m) n=1 then mul m r else m
theorem aj(ha:ev a)(hb:ev b)(c:cm a b=0):ev (mul a b):=by
 unfold ev at *;unfold cm at c;unfold mul;show ((a.1+b.1+2*pc (a.2.2&&&b.2.1))%4+pc ((a.2.1^^^b.2.1)&&&(a.2.2^^^b.2.2)))%2=0;have h1:=Jw (a.2.1&&&(a.2.2^^^b.2.2)) (b.2.1&&&(a.2.2^^^b.2.2));rw[<-Rk]at h1;have h2:=Jw (a.2.1&&&a.2.2) (a.2.1&&&b.2.2);rw[<-Qc]at h2;have d:=Jw (b.2.1&&&a.2.2) (b.2.1&&&b.2.2);rw[<-Qc]at d;rw[Il a.2.2 b.2.1]at c;lia
structure Tb (ms:List Mk):Prop where
 nice:Fz ms
 v6:∀m∈ms,V6 m
 ind:Indep ms
theorem Gy{ms:List Mk}(T:Tb ms):∀{m:Nat}{g:Mk},m<=ms.length->G ms m g->ev g/\V6 g
 | 0,g,_,⟨x,e⟩=>by
  have:g=(0,0,0):=e;subst this;exact⟨by unfold ev;simp[GJ],by decide,by decide⟩
 | m+1,g,hm,h=>by
  rcases X_ h with q | ⟨g',q,rfl⟩
  ·exact Gy T (by lia) q
  ·have a:=DG (ms:=ms) (i:=m) (by lia);have b:=Gy T (by lia:m<=ms.length) q;refine⟨aj b.1 (T.nice.even _ a) ?_,b.2.mul (T.v6 _ a)⟩;rw[Ie];exact Q8 (T.nice.com _ a) (by lia) q
theorem rP(T:Tb ms)(hm:m<=ms.length)(hn:n<=ms.length)(hg:G ms m g)(hh:G ms n h):cm g h=0:=by
 refine Q8 (λr c=>?_) hn hh;rw[Ie];exact Q8 (λb a=>T.nice.com r c b a) hm hg
theorem wQ{r:Mk}(ha:a.1<4)(hr:ev r):mul (mul a r) r=a:=by rw[mul_assoc,wR hr,mul_one ha]
structure Dn (ms:List Mk) (i:Nat) (D:List Mk) (ls:W3):Prop where
 len:D.length=i
 ll:ls.length=i
 g:∀d∈D,G ms i d
 ld:∀j,j<i->Cq (vec (D.getD j z0)) (ls.getD j 0)
 off:∀j k,j<i->k<i->j≠k->bit (vec (D.getD j z0)) (ls.getD k 0)=0
 back:∀j,j<i->In D (ms.getD j z0)
theorem Dn.start(ms:List Mk):Dn ms 0 [] []:=⟨U,U,λd h=>(nomatch h),λj h=>absurd h (Js _),λj k h=>absurd h (Js _),λj h=>absurd h (Js _)⟩
noncomputable def fr (D:List Mk)(ls:W3)(row:Mk):Nat->Mk
 | 0=>row
 | t+1=>wl (fr D ls row t) (D.getD t z0) (ls.getD t 0)
variable{D:List Mk}
theorem aW(T:Tb ms)(hn:n<=ms.length)(h:∀d∈D,G ms n d):Fz D :=
 ⟨λd hd=>Pr (h d hd),λd hd=>(Gy T hn (h d hd)).1,λd hd e a=>rP T hn hn (h d hd) (h e a)⟩
theorem Rx(N:Fz D){d:Mk}(h:d∈D):In D d:=by
 obtain⟨i,hi,e⟩:=Om.mp h;have a:D.getD i (0,0,0)=d:=by rw[CP,Cm hi];exact e
 have:=W5o (ms:=D) hi (by rw[a];exact N.q d h);rw[a]at this;exact this
structure Fr (ms:List Mk) (i:Nat) (D:List Mk) (ls:W3) (f:Mk) (t:Nat):Prop where
 g:∃g,G ms i g/\f=mul g (ms.getD i z0)
 off:∀k,k<t->bit (vec f) (ls.getD k 0)=0
 back:In (D++[f]) (ms.getD i z0)
variable{f:Mk}{t:Nat}
theorem Fr.G(F:Fr ms i D ls f t):G ms (i+1) f:=by
 obtain⟨g,a,rfl⟩:=F.g;exact qu a
theorem qx{ms:List Mk}(T:Tb ms){i:Nat}{D:List Mk}{ls:W3}(hi:i<ms.length)(Q:Dn ms i D ls):∀t,t<=i->Fr ms i D ls (fr D ls (ms.getD i z0) t) t
 | 0,_=>by
  have j:=DG (ms:=ms) hi
  have g0:G ms i z0:=⟨0,by
   have:=Q7 ms (x:=0) (i:=0) (by decide) i
   rw[Jr]at this
   rw[this];rfl⟩
  have y:G ms (i+1) (ms.getD i z0):=by
   have:=qu g0;rw[one_mul (T.nice.q _ j)]at this;exact this
  refine⟨⟨z0,g0,(one_mul (T.nice.q _ j)).symm⟩,λk h=>absurd h (Js _),?_⟩;refine Rx (aW T (n:=i+1) (by lia) λd hd=>?_) (Gn _ (Fj.mpr rfl));rcases Io.mp hd with q | q
  ·exact KD (Q.g d q)
  ·rw[Fj.mp q];exact y
 | t+1,ht=>by
  have a:=qx T hi Q t (by lia);have j:=DG (ms:=ms) hi;have r:D.getD t z0∈D:=DG (by rw[Q.len];lia);have l:=Q.g _ r;have p:=Gy T (by lia) l;show Fr ms i D ls (wl (fr D ls (ms.getD i z0) t) (D.getD t z0) (ls.getD t 0)) (t+1);have o:=a.G;have u:=Gy T (by lia) o;generalize fr D ls (ms.getD i z0) t=f at *;have v:=(Q.ld t (by lia)).one;have b:∀k,k<t->bit (vec (D.getD t z0)) (ls.getD k 0)=0:=λk s=>Q.off t k (by lia) (by lia) (by lia);generalize D.getD t z0=d at *;unfold wl;by_cases c:bit (vec f) (ls.getD t 0)=1
  ·rw[if_pos c];refine⟨?_,λk s=>?_,?_⟩
   ·obtain⟨g,w,rfl⟩:=a.g;refine⟨mul g d,Q9 T.nice (by lia) w l,?_⟩;have z:cm (ms.getD i z0) d=0:=Q8 (T.nice.com _ j) (by lia) l;rw[mul_assoc,mul_comm z,<-mul_assoc]
   ·rw[pO u.2 p.2];by_cases e:k=t
    ·subst e;rw[c,v]
    ·rw[a.off k (by lia),b k (by lia)]
   ·have N:Fz (D++[mul f d]):=aW T (n:=i+1) (by lia) λx m=>by
     rcases Io.mp m with q | q
     ·exact KD (Q.g x q)
     ·rw[Fj.mp q];exact Q9 T.nice (by lia) o (KD l)
    refine O9 N (λx m=>?_) a.back;rcases Io.mp m with q | q
    ·exact Rx N (QZ _ q)
    ·rw[Fj.mp q];have:=qd N (Rx N (Gn _ (Fj.mpr rfl))) (Rx N (QZ _ r));rw[wQ (Pr o) p.1]at this;exact this
  ·rw[if_neg c];refine⟨a.g,λk s=>?_,a.back⟩;by_cases e:k=t
   ·subst e;have:=Ef (vec f) (ls.getD k 0);lia
   ·exact a.off k (by lia)
theorem Fr.nz(T:Tb ms)(hi:i<ms.length)(F:Fr ms i D ls f t):f.2≠(0,0):=by
 obtain⟨g,⟨x,rfl⟩,rfl⟩:=F.g;intro e;have a:=Ep x (Cu i);have st:=yd ms a hi;have b:E ms (x%2^i)=prod (chosen ms x i):=by
  unfold E;obtain⟨d,hd⟩:∃d,ms.length=i+d:=⟨ms.length-i,by lia⟩;rw[hd,Q7 ms a d,SN]
 rw[b]at st;have lt:x%2^i+2^i<2^ms.length:=by
  refine Ea (m:=2^(i+1)) ?_ (Ir (by decide) hi);rw[QL];lia
 have:=Yp T.ind lt (Cu _) (by rw[st,qW];exact e);have:=Cu i;lia
variable{j:Nat}
theorem Ru{α:Type}{D:List α}{f z:α}(h:j<D.length):(D++[f]).getD j z=D.getD j z:=by
 rw[CP,CP,Wn h]
theorem Ub{α:Type}{D:List α}{f z:α}(h:j=D.length):(D++[f]).getD j z=f:=by
 subst h;rw[CP,Wq (CG _),Nat.sub_self];rfl
theorem o7{h:Mk->Mk}(hj:j<D.length):(D.map h).getD j z0=h (D.getD j z0):=by
 rw[CP,CP,Cj,Cm hj];rfl
theorem Dn.next(T:Tb ms)(hi:i<ms.length)(Q:Dn ms i D ls)(F:Fr ms i D ls f i)(L:Cq (vec f) n):Dn ms (i+1) (D.map (λd=>wl d f n)++[f]) (ls++[n]):=by
 have t:=F.G;have C:=Gy T (by lia) t;have E:=Q.len;have r:=Q.ll;have s:(D.map (λd=>wl d f n)).length=i:=by rw[Bg];exact E
 have y:∀d∈D,∀k,bit (vec (wl d f n)) k=if bit (vec d) n=1 then (bit (vec d) k+bit (vec f) k)%2 else bit (vec d) k:=λd hd k=>by
  unfold wl;split
  ·exact pO (Gy T (by lia) (Q.g d hd)).2 C.2 k
  ·rfl
 have A:∀d∈D.map (λd=>wl d f n)++[f],G ms (i+1) d:=λd hd=>by
  rcases Io.mp hd with q | q
  ·obtain⟨u,z,rfl⟩:=Ej.mp q;show G ms (i+1) (wl u f n);unfold wl;split
   ·exact Q9 T.nice (by lia) (KD (Q.g u z)) t
   ·exact KD (Q.g u z)
  ·rw[Fj.mp q];exact t
 have N:=aW T (n:=i+1) (by lia) A;have b:In (D.map (λd=>wl d f n)++[f]) f:=Rx N (Gn _ (Fj.mpr rfl));have a:∀d∈D,In (D.map (λd=>wl d f n)++[f]) d:=λd hd=>by
  have h1:=Rx N (QZ _ (Ej.mpr ⟨d,hd,U⟩));have h1:In (D.map (λd=>wl d f n)++[f]) (wl d f n):=h1;by_cases c:bit (vec d) n=1
  ·have e:wl d f n=mul d f:=by unfold wl;rw[if_pos c]
   have:=qd N h1 b;rw[e,wQ (Pr (Q.g d hd)) C.1]at this;exact this
  ·have e:wl d f n=d:=by unfold wl;rw[if_neg c]
   rw[e]at h1;exact h1
 refine⟨by rw[JM,s];rfl,by rw[JM,r];rfl,A,λj B=>?_,λj k B J I=>?_,λj B=>?_⟩
 ·by_cases e:j=i
  ·subst e;rw[Ub s.symm,Ub r.symm];exact L
  ·have h:j<i:=by lia
   rw[Ru (by lia),Ru (by lia),o7 (by lia)];have v:D.getD j z0∈D:=DG (by lia);have l:=Q.ld j h;have w:=F.off j h;have E0:=y _ v;generalize D.getD j z0=d at *;generalize ls.getD j 0=p at *;by_cases c:bit (vec d) n=1
   ·have np:p<n:=by
     rcases iy p n with q | q | q
     ·exact q
     ·subst q;rw[L.one]at w;cases w
     ·rw[l.low n q]at c;cases c
    refine⟨?_,λm o=>?_⟩
    ·rw[E0,if_pos c,l.one,w]
    ·rw[E0,if_pos c,l.low m o,L.low m (by lia)]
   ·refine⟨?_,λm o=>?_⟩
    ·rw[E0,if_neg c];exact l.one
    ·rw[E0,if_neg c];exact l.low m o
 ·by_cases e:j=i
  ·subst e;rw[Ub s.symm,Ru (by lia)];exact F.off k (by lia)
  ·rw[Ru (by lia),o7 (by lia)];have v:D.getD j z0∈D:=DG (by lia);have E0:=y _ v;by_cases ek:k=i
   ·subst ek;rw[Ub r.symm,E0];split
    ·rename_i c;rw[c,L.one]
    ·have:=Ef (vec (D.getD j z0)) n;lia
   ·rw[Ru (by lia),E0,Q.off j k (by lia) (by lia) I,F.off k (by lia)];split<;>rfl
 ·by_cases e:j=i
  ·subst e;refine O9 N (λx H=>?_) F.back;rcases Io.mp H with q | q
   ·exact a x q
   ·rw[Fj.mp q];exact b
  ·exact O9 N a (Q.back j (by lia))
end Cp
namespace Cp
open Pc Hr Dh Gg
open Classical in
noncomputable def jW (v:Nat):Nat:=if h:∃n,Cq v n then h.choose else 0
theorem zP{v n:Nat}(h:Cq v n):jW v=n:=by
 have e:∃n,Cq v n:=⟨n,h⟩;unfold jW;rw[dif_pos e];exact e.choose_spec.uniq h
noncomputable def Dy (m:Mk):Nat:=jW (vec m)
def Off (d e:Mk):Prop:=bit (vec d) (Dy e)=0/\bit (vec e) (Dy d)=0
structure Dm (ms D:List Mk):Prop where
 g:∀d∈D,In ms d
 ld:∀d∈D,Cq (vec d) (Dy d)
 off:D.Pairwise Off
 back:∀m∈ms,In D m
variable{ms D:List Mk}
theorem Dn.all{ls:W3}(Q:Dn ms ms.length D ls):Dm ms D:=by
 have c:∀j,j<ms.length->Dy (D.getD j z0)=ls.getD j 0:=λj a=>zP (Q.ld j a);refine⟨λd hd=>Jy.mpr (Q.g d hd),λd hd=>?_,?_,λm h=>?_⟩
 ·obtain⟨j,a,e⟩:=Om.mp hd;have b:D.getD j z0=d:=by rw[CP,Cm a];exact e
  rw[Q.len]at a;have l:=Q.ld j a;rw[b]at l;unfold Dy;rw[zP l];exact l
 ·refine T_.mpr λi j hi a n=>?_;have f:D.getD i z0=D[i]:=by rw[CP,Cm hi];rfl
  have k:D.getD j z0=D[j]:=by rw[CP,Cm a];rfl
  rw[Q.len]at hi a;rw[<-f,<-k];unfold Off;rw[c i hi,c j a];exact⟨Q.off i j hi a (by lia),Q.off j i a hi (by lia)⟩
 ·obtain⟨j,a,e⟩:=Om.mp h;have b:ms.getD j z0=m:=by rw[CP,Cm a];exact e
  rw[<-b];exact Q.back j a
theorem oZ(T:Tb ms)(h:∀d∈D,In ms d):Fz D:=aW T (CG _) λd hd=>Jy.mp (h d hd)
theorem Dm.perm{S:List Mk}(T:Tb ms)(Q:Dm ms D)(p:S.Perm D):Dm ms S:=by
 have c:∀d∈S,In ms d:=λd hd=>Q.g d (p.mem_iff.mp hd);have N:=oZ T c;refine⟨c,λd hd=>Q.ld d (p.mem_iff.mp hd),?_,λm e=>O9 N (λd hd=>Rx N (p.mem_iff.mpr hd)) (Q.back m e)⟩;exact(p.pairwise_iff λ{a b} h=>⟨h.2,h.1⟩).mpr Q.off
theorem W5n(T:Tb ms){g:Mk}(h:In ms g):V6 g:=(Gy T (CG _) (Jy.mp h)).2
theorem oU{m:Mk}(h:V6 m):vec m<2^12:=by
 have a:m.2.1<64:=h.f;have b:m.2.2<64:=h.s;unfold vec;show _<4096;lia
theorem R5{a b:Mk}(ha:V6 a)(hb:V6 b)(e:vec a=vec b):a.2=b.2:=by
 have c:a.2.1<64:=ha.f;have d:b.2.1<64:=hb.f;unfold vec at e;exact Prod.ext (by lia) (by lia)
theorem _O{fs gs:W3}{c:Nat->Bool}:∀m,(∀j,j<m->fs.getD j 0=gs.getD j 0)->xs fs c m=xs gs c m:=λm h=>R_ m λj a=>⟨U,h j a⟩
theorem qU{fs:W3}(c:Nat->Bool){N:Nat}:∀m,(∀j,j<m->fs.getD j 0<2^N)->xs fs c m<2^N
 | 0,_=>Cu N
 | m+1,h=>by
  have a:=qU c m λj b=>h j (by lia);unfold xs;split
  ·exact Er a (h m (by lia))
  ·exact a
theorem HS(S:List Mk)(j:Nat):(S.map vec).getD j 0=vec (S.getD j z0):=by
 rw[CP,CP,Cj];cases S[j]?<;>rfl
theorem _V{S:List Mk}(c:Nat->Bool)(v:∀j,j<S.length->V6 (S.getD j z0)):∀m,m<=S.length->xs (S.map vec) c m=xs (FP S) c m+64*xs (Em S) c m
 | 0,_=>rfl
 | m+1,hm=>by
  have i:=_V c v m (by lia);unfold xs;split
  ·rw[i,HS,fget,Fo];have g:=v m (by lia);have h:=qU (fs:=FP S) c (N:=6) m λj k=>by rw[fget];exact(v j (by lia)).f
   have d:=qU (fs:=Em S) c (N:=6) m λj k=>by rw[Fo];exact(v j (by lia)).s
   have e:=pO (a:=(0,xs (FP S) c m,xs (Em S) c m)) (b:=S.getD m z0) ⟨h,d⟩ g;have l1:vec ((0,xs (FP S) c m,xs (Em S) c m):Mk)<2^12:=oU ⟨h,d⟩;have l2:=oU g;have l3:vec (mul (0,xs (FP S) c m,xs (Em S) c m) (S.getD m z0))<2^12:=oU (V6.mul ⟨h,d⟩ g);have:=SQ 12 (vec ((0,xs (FP S) c m,xs (Em S) c m):Mk)^^^vec (S.getD m z0)) _ (Er l1 l2) l3 λn l=>by rw[Dh.Ib,e]
   exact this
  ·exact i
theorem W8p{S:List Mk}(v:∀j,j<S.length->V6 (S.getD j z0))(x:Nat):vec (E S x)=xs (S.map vec) (λj=>decide (bit x j=1)) (S.map vec).length:=by
 rw[Bg,_V _ v _ (CG _),<-Lz,<-Lz];unfold vec E;rw[Ud,Ue];rfl
variable{R:List Mk}
theorem spans{S:List Mk}(v:∀j,j<S.length->V6 (S.getD j z0))(h:∀r∈R,In S r):Km (S.map vec) (R.map vec):=by
 intro i hi;rw[Bg]at hi;obtain⟨x,_,e⟩:=h _ (DG hi);exact⟨_,by rw[HS];show vec (R.getD i (0,0,0))=_;rw[<-e];exact W8p v x⟩
theorem Qg(S:List Mk){j:Nat}(hj:j<S.length):(S.map Dy).getD j 0=Dy (S.getD j z0):=by
 rw[CP,CP,Cj,Cm hj];rfl
theorem Dm.red{S:List Mk}(Q:Dm ms S)(o:S.Pairwise λa b=>Dy a<=Dy b):Red (S.map vec) (S.map Dy):=by
 have d:∀i j,i<S.length->j<S.length->i≠j->bit (vec (S.getD i z0)) (Dy (S.getD j z0))=0:=λi j hi c f=>by
  have g:S.getD i z0=S[i]:=by rw[CP,Cm hi];rfl
  have l:S.getD j z0=S[j]:=by rw[CP,Cm c];rfl
  rw[g,l];rcases Nat.lt_or_gt_of_ne f with lt | lt
  ·exact(T_.mp Q.off i j hi c lt).1
  ·exact(T_.mp Q.off j i c hi lt).2
 refine⟨by rw[Bg,Bg],λi hi=>?_,λi j hi c f=>?_,?_⟩
 ·rw[Bg]at hi;rw[HS,Qg S hi];exact Q.ld _ (DG hi)
 ·rw[Bg]at hi c;rw[HS,Qg S c];exact d i j hi c f
 ·rw[Wd];refine(List.Pairwise.and_mem.mp (o.and Q.off)).imp λ{a b} h=>?_;obtain⟨k,hb,le,off⟩:=h;refine Nat.lt_of_le_of_ne le λe=>?_;have:=(Q.ld a k).one;rw[e,off.1]at this;cases this
theorem Y1x{rs S:List Mk}(T:Tb ms)(T':Tb rs)(Q:Dm ms S)(Q':Dm rs R)(o:S.Pairwise λa b=>Dy a<=Dy b)(o':R.Pairwise λa b=>Dy a<=Dy b)
  (h:∀m∈ms,In rs m) (h':∀r∈rs,In ms r):S=R:=by
 have u:=oZ T Q.g;have q:=oZ T' Q'.g;have c:∀s∈S,In R s:=λs p=>O9 q Q'.back (O9 T'.nice h (Q.g s p));have d:∀r∈R,In S r:=λr t=>O9 u Q.back (O9 T.nice h' (Q'.g r t));have l:∀j,j<S.length->V6 (S.getD j z0):=λj k=>W5n T (Q.g _ (DG k));have n:∀j,j<R.length->V6 (R.getD j z0):=λj k=>W5n T' (Q'.g _ (DG k));have e:=X4d (Q.red o) (Q'.red o') (spans l d) (spans n c);have f:S.length=R.length:=by have:=congrArg List.length e;simpa using this
 refine Wa f λi h1 h2=>?_;have e1:S.getD i z0=S[i]:=by rw[CP,Cm h1];rfl
 have e2:R.getD i z0=R[i]:=by rw[CP,Cm h2];rfl
 have ev:vec (S.getD i z0)=vec (R.getD i z0):=by rw[<-HS,<-HS,e]
 rw[<-e1,<-e2];exact W1u T.ind (Q.g _ (DG h1)) (O9 T.nice h' (Q'.g _ (DG h2))) (R5 (l i h1) (n i h2) ev)
end Cp
namespace Cp
open Pc Hr Dh Gg
noncomputable def num (c:Nat->Bool):Nat->Nat
 | 0=>0
 | m+1=>num c m+(if c m then 2^m else 0)
theorem qj(c:Nat->Bool):∀m,num c m<2^m
 | 0=>Nat.one_pos
 | m+1=>by
  have:=qj c m;unfold num;rw[QL];split<;>lia
theorem X0w(c:Nat->Bool):∀m j,j<m->decide (bit (num c m) j=1)=c j
 | m+1,j,hj=>by
  have lt:=qj c m;unfold num;by_cases e:j=m
  ·subst e;cases hc:c j
   ·simp[bN lt (CG _)]
   ·simp only[Ja];have:bit (num c j+2^j) j=1:=by
     unfold bit;rw[ig _ (Cu j),Og lt]
    rw[this];rfl
  ·have a:=X0w c m j (by lia);split
   ·have:bit (num c m+2^m) j=bit (num c m) j:=by
     rw[<-_7 (num c m+2^m) m (by lia),iu,JL lt]
    rw[this];exact a
   ·rw[Kv];exact a
theorem X6x(ms:List Mk)(c:Nat->Bool):(E ms (num c ms.length)).2=(xs (FP ms) c ms.length,xs (Em ms) c ms.length):=by
 have e:∀fs:List Nat,Xm fs (num c ms.length) ms.length=xs fs c ms.length:=λfs=>by
  rw[Lz];exact R_ _ λj a=>⟨X0w c _ j a,U⟩
 unfold E;refine Prod.ext ?_ ?_
 ·show (prod (chosen ms (num c ms.length) ms.length)).2.1=_;rw[Ud];exact e _
 ·show (prod (chosen ms (num c ms.length) ms.length)).2.2=_;rw[Ue];exact e _
theorem uU{ms:List Mk}{m:Mk}(I:Indep ms)(h:∀x,x<2^ms.length->(E ms x).2≠m.2):Indep (ms++[m]):=by
 intro c hf d j n;have p:(ms++[m]).length=ms.length+1:=by rw[JM];rfl
 have o:∀k,k<ms.length->(FP (ms++[m])).getD k 0=(FP ms).getD k 0:=λk g=>by rw[fget,fget,Ru g]
 have es:∀k,k<ms.length->(Em (ms++[m])).getD k 0=(Em ms).getD k 0:=λk g=>by rw[Fo,Fo,Ru g]
 have r:(FP (ms++[m])).getD ms.length 0=m.2.1:=by rw[fget,Ub rfl]
 have f:(Em (ms++[m])).getD ms.length 0=m.2.2:=by rw[Fo,Ub rfl]
 have q:=_O (fs:=FP (ms++[m])) (gs:=FP ms) (c:=c) ms.length o;have i:=_O (fs:=Em (ms++[m])) (gs:=Em ms) (c:=c) ms.length es;rw[p]at hf d n;unfold xs at hf d;rw[r,q]at hf;rw[f,i]at d;have l:∀{a b:Nat},a^^^b=0->a=b:=λ{a b} z=>by
  have:=congrArg (·^^^b) z;simpa [E_] using this
 cases hc:c ms.length with
 | true =>
  rw[hc,if_pos rfl]at hf d;refine absurd ?_ (h (num c ms.length) (qj c _));rw[X6x,l hf,l d]
 | false =>
  rw[hc,if_neg (by decide)]at hf d;by_cases e:j=ms.length
  ·rw[e];exact hc
  ·exact I c hf d j (by lia)
end Cp
namespace Ay
open L2 Pc Hr Dh Gg
open Cp (Cq vec V6 wl J9)
noncomputable def X1j (w n:Nat):Bool:=decide (Builtin.Int.intBits (Builtin.bitAnd (w:Int) (-(w:Int)))=n+1) && decide (bit w n=1) && (List.range n).all λm=>decide (bit w m=0)
theorem X1i:((List.range 64).all λw=>decide (w=0) || (List.range 6).any λn=>X1j w n)=true:=by decide +kernel
theorem X5t{w:Nat}(h:w<64)(h0:w≠0):∃n:Nat,n<6/\Builtin.Int.intBits (Builtin.bitAnd (w:Int) (-(w:Int)))=n+1/\Cq w n:=by
 have a:=Nj.mp X1i w (Ek.mpr h);rw[FJ h0,Td]at a;obtain⟨n,b,e⟩:=Zc.mp a;unfold X1j at e;rw[HY,HY]at e;exact⟨n,Ek.mp b,Mr e.1.1,Mr e.1.2,λm c=>Mr (Nj.mp e.2 m (Ek.mpr c))⟩
def vU:Sp:=λvs H Q _=>∃w:Nat,vs=[.int w]/\w<64/\w≠0/\∀n:Nat,n<6->Cq w n->Q (.int n) H
def Jm (K:U0):Sp:=λvs H Q _=>∃(p:W9) (m:Mk) (n:Nat),vs=[.ref p]/\Ag K H p (L3 m)/\V6 m/\Cq (vec m) n/\Q (.int n) H
def QC (K:U0):Sp:=λvs H Q _=>∃(p:W9) (m:Mk) (n:Nat),vs=[.ref p,.int n]/\Ag K H p (L3 m)/\V6 m/\Q (.bl (decide (bit (vec m) n=1))) H
def yc:Sp:=λvs H Q _=>∃(p r:W9) (m d:Mk) (n:Nat),vs=[.ref p,.ref r]/\H p=some (T3 m)/\H r=some (T3 d)/\V6 m/\V6 d/\Cq (vec d) n/\∀(q:W9) (H':Hp),Same H H'->H' q=some (T3 (wl m d n))->Q (.ref q) H'
section
variable {P:U8}{w:W1}{K:U0}{mg:U4}{base:Heap}{k:Nat}{h:Heap}
theorem X5c(F:Ab K "least_cell" (top 70) .none)(X:K.In h)(G:Ng h mg):Ah P w K mg base (k+1) "least_cell" ["word"] vU:=by
 refine F.cal X G ["word"] λf H vs Q c d h=>?_;obtain⟨x,rfl,a,x0,q⟩:=h;obtain⟨n,b,e,l⟩:=X5t a x0;refine⟨_,(@Ak _ _ _ (BJ (Af Ji (Qq Qa Oo Qd Q0 (Af Dz (pv 0) (Mz O6 (pv 0)))) Ac))),?_⟩;try dsimp only[Bm]
 refine⟨_,U,_,U,_,U,_,_,U,U,U,_,U,U,_,_,U,U,?_⟩;show Q (.int (((Builtin.Int.intBits (Builtin.bitAnd (x:Int) (-(x:Int))):Nat):Int)-1)) H;rw[e,show (((n+1:Nat):Int)-1)=(n:Int) by lia];exact q n b l
theorem W0o(F:Ab K "lead" (top 69) .none)(X:K.In h)(G:Ng h mg){tF:Tok}(gF:mg "FIRST_SIGN_LEAD"=some (.int 6 tF))(dA:Ah P w K mg base k "least_cell" ["word"] vU):Ah P w K mg base (k+1) "lead" ["mark"] (Jm K):=by
 refine F.cal X G ["mark"] λo H vs Q j c h=>?_;obtain⟨p,m,n,rfl,S,v6,l,q⟩:=h
 refine⟨_,(@Aq _ _ _ _ _ (Bx (B_ Jh (Ai Ao (pv 0) Ac (λ_ _=>rfl)) Ac (Ad _))
   (@Ak _ _ _ (BJ (Av dA c rfl (Aa (Ai Ao (pv 0) Ac (λ_ _=>rfl)) Ae))))
   CK)
  (@Ak _ _ _ (BJ (Af El (Hj (v:=.int 6) rfl gF ⟨tF,U⟩) (Av dA c rfl (Aa (Ai Ao (pv 0) Ac (λ_ _=>rfl)) Ae)))))),?_⟩
 try dsimp only[Bm]
 refine⟨_,U,p,_,_,_,U,U,S,U,U,_,U,Kc (λz=>?_) (λz=>?_)⟩
 ·have b:m.2.1≠0:=λe=>z (by rw[e];rfl);refine⟨_,U,p,_,_,_,U,U,S,U,m.2.1,U,v6.f,b,λn' g a=>?_⟩;have l2:Cq (vec m) n':=⟨by unfold vec;rw[J9 v6.f,if_pos g];exact a.one,λk d=>by unfold vec;rw[J9 v6.f,if_pos (by lia)];exact a.low k d⟩;rw[l2.uniq l];exact q
 ·have b:m.2.1=0:=by
   have:=z;lia
  have i:m.2.2≠0:=λe=>by
   have:=l.one;unfold vec at this;rw[b,e,Ls]at this;cases this
  refine⟨_,U,p,_,_,_,U,U,S,U,m.2.2,U,v6.s,i,λn' g a=>⟨_,_,U,U,?_⟩⟩
  have l2:Cq (vec m) (6+n'):=⟨by unfold vec;rw[J9 v6.f,if_neg (by lia),show 6+n'-6=n' by lia];exact a.one,λk d=>by
   unfold vec
   rw[J9 v6.f]
   split
   ·rw[b,Ls]
   ·exact a.low _ (by lia)⟩
  have e:=l2.uniq l;show Q (.int (6+(n':Int))) H;rw[show (6+(n':Int))=((6+n':Nat):Int) by lia,e];exact q
theorem W4i(F:Ab K "has_at_lead" (top 71) .none)(X:K.In h)(G:Ng h mg){tF:Tok}(gF:mg "FIRST_SIGN_LEAD"=some (.int 6 tF)):Ah P w K mg base (k+1) "has_at_lead" ["mark","place"] (QC K):=by
 refine F.cal X G ["mark","place"] λd H vs Q a b h=>?_;obtain⟨p,m,n,rfl,S,v6,q⟩:=h;have one:∀(x j:Nat),decide (V.int (Builtin.bitAnd ((x:Int) / 2^((j:Int)).toNat) 1)=V.int 1)=decide (bit x j=1):=λx j=>by
  rw[G8,show (x:Int) / 2^j=((x / 2^j:Nat):Int) by simp,Rz,iW];unfold bit;constructor
  ·intro z;have:=V.int.inj z;lia
  ·intro z;congr 1;lia
 refine⟨_,(@Aq _ _ _ _ _ (Bx (B_ Nt (pv 1) (Hj (v:=.int 6) rfl gF ⟨tF,U⟩) (Ad _))
   (@Ak _ _ _ (BJ (Iz Dr (Af Dz (Af M5 (Ai Ao (pv 0) Ac (λ_ _=>rfl)) (pv 1)) Ac) Ac (Ad _))))
   CK)
  (@Ak _ _ _ (BJ (Iz Dr (Af Dz (Af M5 (Ai Ao (pv 0) Ac (λ_ _=>rfl)) (Af Ji (pv 1) (Hj (v:=.int 6) rfl gF ⟨tF,U⟩))) Ac) Ac (Ad _))))),?_⟩
 try dsimp only[Bm]
 refine⟨_,U,_,_,U,U,_,U,A_ (λc=>?_) (λc=>?_)⟩
 ·refine⟨_,U,p,_,_,_,U,U,S,U,_,U,_,_,U,U,by lia,_,_,U,U,U,?_⟩;show Q (.bl (decide (V.int (Builtin.bitAnd ((m.2.1:Int) / 2^((n:Int)).toNat) 1)=V.int 1))) H;rw[one];unfold vec at q;rw[J9 v6.f,if_pos (by lia)]at q;exact q
 ·refine⟨_,U,p,_,_,_,U,U,S,U,_,U,_,_,U,U,_,_,U,U,by lia,_,_,U,U,U,?_⟩;show Q (.bl (decide (V.int (Builtin.bitAnd ((m.2.2:Int) / 2^((n:Int)-6).toNat) 1)=V.int 1))) H;rw[show ((n:Int)-6)=((n-6:Nat):Int) by lia,one];unfold vec at q;rw[J9 v6.f,if_neg (by lia)]at q;exact q
theorem Y7n(F:Ab K "without_lead" (top 68) .none)(X:K.In h)(G:Ng h mg)(dZ:Ah P w K mg base k "has_at_lead" ["mark","place"] (QC K))(eJ:Ah P w K mg base k "lead" ["mark"] (Jm K))(cO:Ah P w K mg base k "product" ["one","other"] (Q6 K)):
  Ah P w K mg base (k+1) "without_lead" ["mark","row"] yc:=by
 refine F.cal X G ["mark","row"] λj H vs Q i b h=>?_;obtain⟨p,r,m,d,n,rfl,hp,a,g,vd,l,f⟩:=h;refine⟨_,(@Ak _ _ _ (BJ (Kl (Du (Av dZ b rfl (Aa (pv 0) (Aa (Av eJ b rfl (Aa (pv 1) Ae)) Ae)))) (Av cO b rfl (Aa (pv 0) (Aa (pv 1) Ae))) (pv 0)))),?_⟩;try dsimp only[Bm]
 refine⟨_,U,_,U,r,d,n,U,Ag.of a,vd,l,p,m,n,U,Ag.of hp,g,_,U,A_ (λc=>?_) (λc=>?_)⟩
 ·refine⟨_,U,_,U,p,r,m,d,U,Ag.of hp,Ag.of a,λq H' S e=>f q H' S ?_⟩;unfold wl;rw[if_pos c];exact e
 ·refine⟨_,U,f p H (Same.refl _) ?_⟩;unfold wl;rw[if_neg c];exact hp
end
end Ay
namespace Ay
open L2 Pc Hr Dh Gg
open Cp (Cq vec V6 wl J9 ev)
def Gh:Sp:=λvs H Q _=>∃x N:Nat,vs=[.int x,.int N]/\x<2^N/\Q (.bl true) H
def MN:Sp:=λvs H Q _=>∃(p:W9) (m:Mk) (N:Nat),vs=[.ref p,.int N]/\H p=some (T3 m)/\Fe N m/\Q (.bl true) H
def Mf (K:U0):Sp:=λvs H Q _=>∃(p:W9) (m:Mk),vs=[.ref p]/\Ag K H p (L3 m)/\ev m/\Q (.bl true) H
def KN:Sp:=λvs H Q _=>∃(p:W9) (m:Mk) (N:Nat),vs=[.ref p,.int N]/\H p=some (T3 m)/\Fe N m/\ev m/\Q (.bl true) H
def wk (K:U0):Sp:=λvs H Q _=>∃(pm l:W9) (ps:U3) (ms:List Mk) (m:Mk),vs=[.ref pm,.ref l]/\H pm=some (T3 m)/\Aw K H l (ps.map V.ref)/\CW H ps ms/\ms.length<=12/\(∀r∈ms,comm m r=0)/\∀H',Same H H'->Q (.bl true) H'
theorem pR(n:Nat):((List.replicate n true).all id)=true:=by rw[List.all_replicate];split<;>rfl
section
variable {P:U8}{w:W1}{K:U0}{mg:U4}{base:Heap}{k:Nat}{h:Heap}
theorem X0k(F:Ab K "is_word" (top 18) .none)(X:K.In h)(G:Ng h mg)(c7:Ah P w K mg base k "is_whole" ["thing"] M9):Ah P w K mg base (k+1) "is_word" ["thing","cells"] Gh:=by
 refine F.cal X G ["thing","cells"] λc H vs Q E a h=>?_;obtain⟨x,N,rfl,lt,q⟩:=h
 refine⟨_,(@Aq _ _ _ _ _ (Bx (FQ (PW.pt (O1 (Du (Av c7 a rfl (Aa (pv 0) Ae))) (R3 (Du (Av c7 a rfl (Aa (pv 1) Ae)))))))
   (@Ak _ _ _ (BJ Iu))
   CK)
  (@Ak _ _ _ (BJ (Qp (Iz dw (pv 0) Ac (Ad _)) (M6 (Iz W4c (Qq Qa Oo Qd Q0 (pv 0)) (pv 1) (Ad _))))))),?_⟩
 try dsimp only[Bm]
 refine⟨_,U,_,U,_,U,C_ ⟨_,U,_,U,_,U,Bj ?_⟩⟩;refine⟨_,U,_,_,U,U,_,U,A_ (λ_=>?_) (λz=>absurd (show (x:Int)>=0 by lia) z)⟩;refine⟨_,U,U,_,U,U,_,U,_,_,U,U,?_⟩;have b:=Gu.mpr lt;rw[bO];show Q (.bl (decide (((bl x:Nat):Int)<=(N:Int)))) H;rw[Gb (by lia)];exact q
theorem X0l(F:Ab K "is_mark" (top 19) .none)(X:K.In h)(G:Ng h mg)(B:Bs mg)(c7:Ah P w K mg base k "is_whole" ["thing"] M9)(cW:Ah P w K mg base k "is_word" ["thing","cells"] Gh):Ah P w K mg base (k+1) "is_mark" ["thing","cells"] MN:=by
 refine F.cal X G ["thing","cells"] λd H vs Q c a h=>?_;obtain⟨p,m,N,rfl,hp,ok,q⟩:=h;have SP:Ag K H p (L3 m):=Ag.of hp;have b:=ok.q
 refine⟨_,(@Aq _ _ _ _ _ (Bx (PW.pt (IW (FQ (Du (Ck NK rfl B.isinstance JK (Aa (pv 0) (Aa (Lp (v:=.ty "tuple") rfl B.tuple ZC rfl) Ae))))) (Kh (B_ Jh (Ck Ig rfl B.len HX (Aa (pv 0) Ae)) Ac (Ad _)))))
   (@Ak _ _ _ (BJ Iu))
   CK)
  (@Aq _ _ _ _ _ (Bx (PW.pt (IW (FQ (Du (Av c7 a rfl (Aa (Ai Ao (pv 0) Ac (λ_ _=>rfl)) Ae)))) (IW (B_ Nt (Ai Ao (pv 0) Ac (λ_ _=>rfl)) Ac (Ad _)) (Kh (B_ VD (Ai Ao (pv 0) Ac (λ_ _=>rfl)) Ac (Ad _))))))
   (@Ak _ _ _ (BJ Iu))
   CK)
  (@Ak _ _ _ (BJ (Qp (Av cW a rfl (Aa (Ai Ao (pv 0) Ac (λ_ _=>rfl)) (Aa (pv 1) Ae))) (M6 (Av cW a rfl (Aa (Ai Ao (pv 0) Ac (λ_ _=>rfl)) (Aa (pv 1) Ae))))))))),?_⟩
 try dsimp only[Bm]
 refine⟨_,U,_,_,_,true,U,DK.tup hp,Yj K,_,U,Bj ⟨_,U,p,_,U,.inr SP,U,_,U,Kc (λz=>absurd rfl z) (λ_=>?_)⟩⟩;refine⟨_,U,p,_,_,_,U,U,SP,U,_,U,_,U,Bj ⟨_,U,p,_,_,_,U,U,SP,U,_,_,U,U,_,U,A_ (λz=>absurd z (by lia)) (λ_=>⟨_,U,p,_,_,_,U,U,SP,U,_,_,U,U,_,U,A_ (λz=>absurd z (by lia)) (λ_=>?_)⟩)⟩⟩;exact⟨_,U,p,_,_,_,U,U,SP,U,_,U,m.2.1,N,U,ok.f,_,U,C_ ⟨_,U,p,_,_,_,U,U,SP,U,_,U,m.2.2,N,U,ok.s,q⟩⟩
theorem X0m(F:Ab K "is_even" (top 20) .none)(X:K.In h)(G:Ng h mg)(cG:Ah P w K mg base k "ones" ["number"] DP):Ah P w K mg base (k+1) "is_even" ["mark"] (Mf K):=by
 refine F.cal X G ["mark"] λc H vs Q b a h=>?_;obtain⟨p,m,rfl,SP,e,q⟩:=h;refine⟨_,(@Ak _ _ _ (BJ (Iz Dr (Af Dt (Af El (Ai Ao (pv 0) Ac (λ_ _=>rfl)) (Av cG a rfl (Aa (Af Dz (Ai Ao (pv 0) Ac (λ_ _=>rfl)) (Ai Ao (pv 0) Ac (λ_ _=>rfl))) Ae))) Ac) Ac (Ad _)))),?_⟩;try dsimp only[Bm]
 refine⟨_,U,p,_,_,_,U,U,SP,U,_,U,p,_,_,_,U,U,SP,U,_,U,p,_,_,_,U,U,SP,U,_,_,U,U,m.2.1&&&m.2.2,PX _ _,_,_,U,U,_,_,U,U,Lr,U,?_⟩;show Q (.bl (decide (V.int (((m.1:Int)+((pc (m.2.1&&&m.2.2):Nat):Int))%2)=V.int 0))) H;unfold ev at e;rw[Gb (by congr 1;lia)];exact q
theorem X5e(F:Ab K "is_even_mark" (top 21) .none)(X:K.In h)(G:Ng h mg)(gG:Ah P w K mg base k "is_mark" ["thing","cells"] MN)(gE:Ah P w K mg base k "is_even" ["mark"] (Mf K)):Ah P w K mg base (k+1) "is_even_mark" ["thing","cells"] KN:=by
 refine F.cal X G ["thing","cells"] λc H vs Q b a h=>?_;obtain⟨p,m,N,rfl,hp,ok,e,q⟩:=h;refine⟨_,(@Ak _ _ _ (BJ (Qp (Av gG a rfl (Aa (pv 0) (Aa (pv 1) Ae))) (M6 (Av gE a rfl (Aa (pv 0) Ae)))))),?_⟩;try dsimp only[Bm]
 exact⟨_,U,_,U,p,m,N,U,hp,ok,_,U,C_ ⟨_,U,p,m,U,Ag.of hp,e,q⟩⟩
theorem Y4d(F:Ab K "commute" (top 22) .none)(X:K.In h)(G:Ng h mg)(cG:Ah P w K mg base k "ones" ["number"] DP):Ah P w K mg base (k+1) "commute" ["one","other"] (aJ K):=by
 refine F.cal X G ["one","other"] λf H vs Q E c h=>?_;obtain⟨p,a,m,m',rfl,b,d,q⟩:=h;refine⟨_,(@Ak _ _ _ (BJ (Iz Dr (Af Dt (Af El (Av cG c rfl (Aa (Af Dz (Ai Ao (pv 0) Ac (λ_ _=>rfl)) (Ai Ao (pv 1) Ac (λ_ _=>rfl))) Ae)) (Av cG c rfl (Aa (Af Dz (Ai Ao (pv 0) Ac (λ_ _=>rfl)) (Ai Ao (pv 1) Ac (λ_ _=>rfl))) Ae))) Ac) Ac (Ad _)))),?_⟩;try dsimp only[Bm]
 refine⟨_,U,p,_,_,_,U,U,b,U,_,U,a,_,_,_,U,U,d,U,_,_,U,U,m.2.1&&&m'.2.2,PX _ _,_,U,p,_,_,_,U,U,b,U,_,U,a,_,_,_,U,U,d,U,_,_,U,U,m.2.2&&&m'.2.1,PX _ _,_,_,U,U,_,_,U,U,Lr,U,?_⟩;have e:decide (V.int ((((pc (m.2.1&&&m'.2.2):Nat):Int)+((pc (m.2.2&&&m'.2.1):Nat):Int))%2)=V.int 0)=decide (comm m m'=0):=by
  rw[iW];unfold comm;constructor
  ·intro z;have:=V.int.inj z;lia
  ·intro z;congr 1;lia
 show Q (.bl (decide (V.int ((((pc (m.2.1&&&m'.2.2):Nat):Int)+((pc (m.2.2&&&m'.2.1):Nat):Int))%2)=V.int 0))) H;rw[e];exact q
theorem X0o(F:Ab K "commutes_with_all" (top 65) .none)(X:K.In h)(G:Ng h mg)(B:Bs mg)(cV:Ah P w K mg base k "commute" ["one","other"] (aJ K)):Ah P w K mg base (k+1) "commutes_with_all" ["mark","rows"] (wk K):=by
 refine F.cal X G ["mark","rows"] λM H vs Q L D h=>?_;obtain⟨s,l,ps,ms,m,rfl,f,t,o,jX,j,A⟩:=h;have d:(ps.map V.ref).length=ms.length:=by rw[Bg,o.length]
 refine⟨_,(@Ak _ _ _ (BJ (Ck (YW rfl) rfl B.all V_ (Aa (Iw rfl (Bp.of (Nc:=["row","mark"]) (mp:=[none,some 0]) (by kernel_rfl)) (G_ (pv 1)) (λ_ _ _ _=>(DR (i:=0) (show (["row","mark"]:W0).Nodup by decide +kernel) rfl (Or.inl rfl))) (λ_ _ _ _=>(Av cV D rfl (Aa (pv 1) (Aa (pv 0) Ae))))) Ae)))),?_⟩;try dsimp only[Bm]
 refine⟨_,U,l,U,⟨_,t⟩,λacc b=>?_⟩;refine Uk (K:=K) (a:=l) (xs:=ps.map V.ref) (fr:=[some (.ref s)]) (λi ys H'=>Same H H'/\H' acc=some (.lst ys)/\ys=(List.replicate i true).map V.bl) (by rw[d];exact Jq (by lia)) ⟨BR b _,Ax,U⟩ (λi ys H' e=>e.1.seq t) ?_ ?_
 ·rintro i x ys J NN q I ⟨g,C,rfl⟩ v;rw[Cj]at q;obtain⟨p,hp,rfl⟩:=Es.mp q;obtain⟨r,n,z⟩:=o.get hp;refine⟨_,U,_,U,s,p,m,r,U,Ag.of (g _ _ f),Ag.of (g _ _ z),?_⟩;rw[Gb (j r (GQ n))];refine v _ _ C ⟨Fw g b,Ax,?_⟩;rw[jM,DW];rfl
 rintro ys u E ⟨c,y,rfl⟩;refine⟨acc,_,U,Aw.of y,?_⟩;rw[pR];exact A u c
theorem X3y{X:Cx}{scope:Scope}{Nc:W0}{ex:U3}{pins:U1}{s:U7}{H:Hp}:Yu (Bq X scope Nc ex pins s H) (V7 X.K):=pG
theorem X5w{l:W9}{g:TG}{xs:List V}{te:TE}{fr:L2.St}{H1:Hp}{acc:W9}{Q:VK}(f:Nat->V->V)(hn:xs.length<=sizeLine)(hacc:H1 acc=none)(hl:Aw K H1 l xs)
  (hg:∀{a:W9}{x y:V}{w1 w2:Option V}{H:Hp}{Q:L2.St->Hp->Prop},H a=some (.tup [x,y])->Q (some x::some y::fr) H->g (.ref a) (w1::w2::fr) H Q)
  (hs:∀i x H (N:V->Hp->Prop),xs[i]?=some x->Same H1 H->(∀H',Same H H'->N (f i x) H')->te (some (.int i)::some x::fr) H N)
  (hd:∀H2,Same H1 H2->H2 acc=some (.lst (xs.mapIdx f))->Q (.ref acc) H2):Jl (Ite K l) g te (none::none::fr) H1 acc Q:=by
 refine⟨λi m zs j H2=>m=xs.length-i/\i<=xs.length/\(∃v w,j=v::w::fr)/\Same H1 H2/\H2 acc=some (.lst zs)/\zs=(xs.take i).mapIdx f,⟨xs.length,by simp,Gz _,⟨_,_,U⟩,BR hacc _,Ax,by simp⟩,?_⟩;rintro i m zs j H2 ⟨rfl,hi,⟨v,w,rfl⟩,b,d,e2⟩;by_cases hlt:i<xs.length
 ·have e1:xs[i]?=some xs[i]:=by simp[hlt]
  refine .inr ⟨⟨xs,_,b.seq hl,e1⟩,λu p n=>?_⟩;obtain⟨T,x,rfl,k,rfl,h1⟩:=n;have h:=h1 xs (b.seq hl);have c:=BR k (.tup [.int i,x]);have o:zs.length=i:=by rw[e2,jB,Hx];lia
  refine hg (x:=.int i) (y:=x) Ax (hs i x _ _ h (b.trans c) λH' s'=>⟨s' _ _ (c _ _ d),by lia,xs.length-(i+1),by lia,U,hlt,⟨_,_,U⟩,Fw ((b.trans c).trans s') hacc,Ax,?_⟩);rw[Jt,h,Nq,jC,e2];have:(xs.take i).length=i:=by rw[Hx];lia
  simp[this]
 ·have e:i=xs.length:=by lia
  subst e;exact .inl ⟨⟨xs,b.seq hl,CG _⟩,hd H2 b (by rw[d,e2,Ld])⟩
variable{i:Nat}
theorem W6c{xs:List V}(h:i<=xs.length):FN xs none (some (i:Int))=xs.take i:=by
 unfold FN;have e1:HT.CT xs.length 0 none=0:=rfl;have e2:HT.CT xs.length xs.length (some (i:Int))=i:=by rw[HT.bT];exact Nat.min_eq_left h
 rw[e1,e2];rfl
theorem CW.take{H:Hp}:∀{ps:U3}{ms:List Mk} (i:Nat),CW H ps ms->CW H (ps.take i) (ms.take i)
 | [],[],_,.nil=>by rw[List.take_nil,List.take_nil];exact .nil
 | _::_,_::_,0,_=>.nil
 | _::_,_::_,i+1,.cons a r=>.cons a (CW.take i r)
variable{ms:List Mk}{x:Nat}
theorem Y3m(hi:i<=ms.length):chosen (ms.take i) x i=chosen ms x i:=by
 unfold chosen;refine jK λp hp=>?_;have:=SJ hp;rw[CP,CP,jA,if_pos this]
theorem X5m(I:Indep ms){kk:Nat}(hi:i<ms.length)(q:(ms.getD i (0,0,0)).1<4)(k4:kk<4)(h:(chosen (ms.take i) x (ms.take i).length).foldl mul (kk,0,0)=ms.getD i (0,0,0)):False:=by
 have lt:(ms.take i).length=i:=by rw[Hx];lia
 rw[lt,Y3m (by lia),YX k4]at h;have a:=Ep x (Cu i);have b:E ms (x%2^i)=prod (chosen ms x i):=by
  unfold E;obtain⟨d,hd⟩:∃d,ms.length=i+d:=⟨ms.length-i,by lia⟩;rw[hd,Q7 ms a d,SN]
 have e1:=W6r ms hi q;have p2:2^i<2^ms.length:=Jf (by decide) hi;have:=Yp I (RT a p2) p2 (by rw[b,e1,<-h]);lia
structure G4 (N:Nat) (H:Hp) (l:W9) (ps:U3) (ms:List Mk):Prop where
 lst:H l=some (.lst (ps.map V.ref))
 mks:CW H ps ms
 ok:∀m∈ms,Fe N m
 tb:Cp.Tb ms
 len:ms.length<=12
theorem G4.same{N:Nat}{H H':Hp}{l:W9}{ps:U3}(t:G4 N H l ps ms)(s:Same H H'):G4 N H' l ps ms:=⟨s _ _ t.lst,t.mks.same s,t.ok,t.tb,t.len⟩
def yU:Sp:=λvs H Q _=>∃(l:W9) (ps:U3) (ms:List Mk) (N:Nat),vs=[.ref l,.int N]/\G4 N H l ps ms/\1<=N/\N<=6/\∀H',Same H H'->Q (.bl true) H'
theorem am:¬ (V.str "apart"=V.str "made"):=λe=>absurd (V.str.inj e) (by decide +kernel)
theorem Y7v(F:Ab K "is_table" (top 64) .none)(X:K.In h)(G:Ng h mg)(B:Bs mg)(c7:Ah P w K mg base k "is_whole" ["thing"] M9)(cN:Ah P w K mg base k "is_even_mark" ["thing","cells"] KN)
  (d7:Ah P w K mg base k "commutes_with_all" ["mark","rows"] (wk K)) (dC:Ah P w K mg base k "made_of" ["rows","mark","cells"] (Z6 K)):Ah P w K mg base (k+1) "is_table" ["rows","cells"] yU:=by
 refine F.cal X G ["rows","cells"] λnd H vs Q E' M h=>?_;obtain⟨l,ps,ms,N,rfl,T,N1,N6,kq⟩:=h;have s:Aw K H l (ps.map V.ref):=Aw.of T.lst;have u:(ps.map V.ref).length=ms.length:=by rw[Bg,T.mks.length]
 have l6:=T.len
 refine⟨_,(@Aq _ _ _ _ _ (Bx (PW.pt (IW (FQ (Du (Ck NK rfl B.isinstance JK (Aa (pv 0) (Aa (Lp (v:=.ty "list") rfl B.list Y_ rfl) Ae))))) (IW (FQ (Du (Av c7 M rfl (Aa (pv 1) Ae)))) (Kh (B_ Nt (pv 1) Ac (Ad _))))))
   (@Ak _ _ _ (BJ Iu))
   CK)
  (@Aq _ _ _ _ _ (Bx (FQ (Du (Ck (YW rfl) rfl B.all V_ (Aa (Iw rfl (Bp.of (Nc:=["row","cells"]) (mp:=[none,some 1]) (by kernel_rfl)) (G_ (pv 0)) (λ_ _ _ _=>(DR (i:=0) (show (["row","cells"]:W0).Nodup by decide +kernel) rfl (Or.inl rfl))) (λ_ _ _ _=>(Av cN M rfl (Aa (pv 0) (Aa (pv 1) Ae))))) Ae))))
   (@Ak _ _ _ (BJ Iu))
   CK)
  (@Aq _ _ _ _ _ (Bx (FQ (Du (Ck (YW rfl) rfl B.all V_ (Aa (Iw rfl (Bp.of (Nc:=["row","rows"]) (mp:=[none,some 0]) (by kernel_rfl)) (G_ (pv 0)) (λ_ _ _ _=>(DR (i:=0) (show (["row","rows"]:W0).Nodup by decide +kernel) rfl (Or.inl rfl))) (λ_ _ _ _=>(Av d7 M rfl (Aa (pv 0) (Aa (pv 1) Ae))))) Ae))))
   (@Ak _ _ _ (BJ Iu))
   CK)
  (@Ak _ _ _ (BJ (bC (Ck (yD rfl) rfl B.any boot_any (Aa (Iw rfl (Bp.of (Nc:=["place","row","rows","cells"]) (mp:=[none,none,some 0,some 1]) (by kernel_rfl)) (YB rfl B.enumerate (Aa (pv 0) Ae)) (λ_ _ _ _=>(R8 rfl (show (["place","row","rows","cells"]:W0).Nodup by decide +kernel) rfl rfl rfl rfl)) (λ_ _ _ _=>(Iz Dr (Ai Uj (Av dC M rfl (Aa (N5 X3y (pv 2) R0 (K6 (pv 0))) (Aa (pv 1) (Aa (pv 3) Ae)))) Ac (λ_ _=>rfl)) Fq (Ad _)))) Ae)))))))),?_⟩
 try dsimp only[Bm]
 refine⟨_,U,_,_,_,true,U,DK.lst T.lst,zG K,_,U,Bj ⟨_,U,_,U,_,U,Bj ⟨_,U,_,_,U,U,_,U,A_ (λz=>absurd z (by lia)) (λ_=>?_)⟩⟩⟩;refine⟨_,U,l,U,⟨_,s⟩,λacc n=>?_⟩;refine Uk (K:=K) (a:=l) (xs:=ps.map V.ref) (fr:=[some (.int N)]) (λi ys H'=>Same H H'/\H' acc=some (.lst ys)/\ys=(List.replicate i true).map V.bl) (by rw[u];exact Jq (by lia)) ⟨BR n _,Ax,U⟩ (λi ys H' e=>e.1.seq s) ?_ ?_
 ·rintro i x ys HA NN g hl ⟨I,S,rfl⟩ C;rw[Cj]at g;obtain⟨p,hp,rfl⟩:=Es.mp g;obtain⟨r,c,E⟩:=T.mks.get hp;have b:=GQ c;refine⟨_,U,_,U,p,r,N,U,I _ _ E,T.ok r b,T.tb.nice.even r b,?_⟩;refine C _ _ S ⟨Fw I n,Ax,?_⟩;rw[jM,DW];rfl
 rintro ys H1 a1 ⟨L,c1,rfl⟩;refine⟨acc,_,U,Aw.of c1,_,U,H_ (λz=>absurd z (by rw[pR];decide)) (λ_=>?_)⟩;refine⟨_,U,l,U,⟨_,L.seq s⟩,λj d=>?_⟩;refine Uk (K:=K) (a:=l) (xs:=ps.map V.ref) (fr:=[some (.ref l)]) (λi ys H'=>Same H1 H'/\H' j=some (.lst ys)/\ys=(List.replicate i true).map V.bl) (by rw[u];exact Jq (by lia)) ⟨BR d _,Ax,U⟩ (λi ys H' e=>(L.trans e.1).seq s) ?_ ?_
 ·rintro i x ys HA NN g hl ⟨I,S,rfl⟩ C;rw[Cj]at g;obtain⟨p,hp,rfl⟩:=Es.mp g;obtain⟨r,c,E⟩:=T.mks.get hp;have b:=GQ c;have t:=L.trans I;refine⟨_,U,_,U,p,l,ps,ms,r,U,t _ _ E,t.seq s,T.mks.same t,by lia,T.tb.nice.com r b,λHB Z=>?_⟩;refine C _ _ (Z _ _ S) ⟨Fw (I.trans Z) d,Ax,?_⟩;rw[jM,DW];rfl
 rintro ys H2 a2 ⟨S2,c2,rfl⟩;have f:=L.trans S2;refine⟨j,_,U,Aw.of c2,_,U,H_ (λz=>absurd z (by rw[pR];decide)) (λ_=>?_)⟩;refine⟨_,U,l,_,U,f.seq s,λD A=>?_⟩;refine X5w (l:=l) (xs:=ps.map V.ref) (fr:=[some (.ref l),some (.int N)]) (λ_ _=>.bl false) (by rw[u];exact Jq (by lia)) A (f.seq s) (λh q=>⟨_,_,U,Ag.of h,U,_,_,U,_,_,U,U,q⟩) ?_ ?_
 ·intro i x H3 NN g S3 C;have a0:i<(ps.map V.ref).length:=(Et.mp g).1;rw[Cj]at g;obtain⟨p,hp,rfl⟩:=Es.mp g;obtain⟨r,c,E⟩:=T.mks.get hp;have b:=GQ c;have W:ms.getD i (0,0,0)=r:=by rw[CP,c];rfl
  have t:=f.trans S3;refine⟨_,U,_,U,_,U,l,_,U,t.seq s,λcp R=>?_⟩;rw[W6c (by lia),<-iH];have O:=BR R (.lst ((ps.take i).map V.ref));refine⟨_,U,_,U,cp,p,ps.take i,ms.take i,r,N,U,Aw.of Ax,((T.mks.same t).same O).take i,O _ _ (t _ _ E),N6,by rw[Hx];lia,λm hm=>T.ok m (Zh hm),T.ok r b,λrt H5 S5 J=>?_⟩;rcases J with ⟨k1,y,ln,_,hrt,_,k4,hf⟩ | ⟨pp,o,hrt,_⟩
  ·rw[<-W]at hf;exact(X5m T.tb.ind (by lia) (by rw[W];exact T.tb.nice.q r b) k4 hf).elim
  ·refine⟨rt,_,_,_,U,U,Ag.of hrt,U,U,?_⟩;rw[FJ am];exact C H5 (O.trans S5)
 ·intro H3 S3 Y;have e:((ps.map V.ref).mapIdx λ_ _=>V.bl false)=(List.replicate (ps.map V.ref).length false).map V.bl:=by
   apply Wa
   ·simp
   ·intro i h1 h2;simp
  rw[e]at Y;refine⟨D,_,U,Aw.of Y,_,U,?_⟩;rw[show (List.replicate (ps.map V.ref).length false).any id=false by simp];exact kq H3 (f.trans S3)
end
end Ay
namespace L2
theorem wW{α β:Type}{f:α->β}:∀{l m:List β},l.Perm m->∀{r:List α},m=r.map f->∃c:List α,c.Perm r/\l=c.map f:=by
 intro l m h;induction h with
 | nil =>
  intro r e;cases r with
  | nil=>exact⟨[],.nil,rfl⟩
  | cons=>cases e
 | cons x h ih =>
  intro r e;cases r with
  | nil=>cases e
  | cons y r =>
   rw[Ez]at e;injection e with e1 e2;obtain⟨c,p,d⟩:=ih e2;exact⟨y::c,p.cons y,by rw[Ez,e1,d]⟩
 | swap x y l =>
  intro r e;cases r with
  | nil=>cases e
  | cons a r =>
   cases r with
   | nil=>cases e
   | cons b r =>
    rw[Ez,Ez]at e;injection e with e1 e2;injection e2 with e2 e3;exact⟨b::a::r,.swap _ _ _,by rw[Ez,Ez,e1,e2,e3]⟩
 | trans h1 h2 ih1 ih2 =>
  intro r e;obtain⟨j,p2,e2⟩:=ih2 e;obtain⟨g,i,e1⟩:=ih1 e2;exact⟨g,i.trans p2,e1⟩
theorem m_:∀{xs:List V}{us:U5},Vals xs us->∀p∈xs.zip us,RelV p.1 p.2
 | _,_,.nil,_,h=>nomatch h
 | _,_,.cons r rs,p,h=>by
  rw[Zf]at h;rcases Dj.mp h with rfl | h
  ·exact r
  ·exact m_ rs p h
theorem ur:∀{l:List (V×Value)},(∀p∈l,RelV p.1 p.2)->Vals (l.map (·.1)) (l.map (·.2))
 | [],_=>.nil
 | p::l,h=>.cons (h p (.head _)) (ur λq a=>h q (.tail _ a))
variable{kz:U6}
theorem fM:∀{xs:List V}{us:U5},xs.length=us.length ->
  kz.zip us=(kz.zip (xs.zip us)).map (λt=>(t.1,t.2.2))/\kz.zip xs=(kz.zip (xs.zip us)).map (λt=>(t.1,t.2.1)):=by
 induction kz with
 | nil=>intro xs us _;exact⟨rfl,rfl⟩
 | cons k kz ih =>
  intro xs us h;cases xs with
  | nil =>
   cases us with
   | nil=>exact⟨rfl,rfl⟩
   | cons=>cases h
  | cons x xs =>
   cases us with
   | nil=>cases h
   | cons u us =>
    obtain⟨a,b⟩:=ih (xs:=xs) (us:=us) (Nat.succ.inj h);simp only[Zf,Ez];exact⟨by rw[<-a],by rw[<-b]⟩
variable{us:U5}
theorem X4l{xs:List V}{out:U5}(r:Vals xs us)(h:KskOut false kz us out):
  ∃ps:List (Int×V),ps.Perm (kz.zip xs)/\Vals (ps.map (·.2)) out/\ps.Pairwise λp q=>p.1<=q.1:=by
 obtain⟨ps,hp,j,c⟩:=h;obtain⟨e1,e2⟩:=fM (kz:=kz) r.length;obtain⟨l,f,d⟩:=wW hp e1;refine⟨l.map λt=>(t.1,t.2.1),?_,?_,?_⟩
 ·rw[e2];exact f.map _
 ·have i:∀p∈l.map (·.2),RelV p.1 p.2:=λp hp=>by
   obtain⟨t,g,rfl⟩:=Ej.mp hp;have:=f.mem_iff.mp g;exact m_ r _ (Zb (a:=t.1) (b:=t.2) this).2
  have e:=ur i;rw[j,d];simp only[KR]at e ⊢;exact e
 ·rw[d]at c;rw[Wd]at c ⊢;exact c
theorem W3m{prog:U8}{w:W1}{A:W6}{E:U2}{s:U7}{D kS:W9}{keys:U9}{e e1:Nat}{P:PySem.Fin->Shared->Prop}
  (nk:s.heap.get? kS=some (seqObj "list" keys e)) (nd:s.heap.get? D=some (seqObj "list" #[] e1)) (hkd:kS≠D) (hk:IntsAre keys.toList kz) (hl:kz.length=us.length) (h64:us.length<64)
  (h:∀(h1 h2:Heap) (out:U9) (c:Nat),(∀b,b≠kS->h1.get? b=s.heap.get? b)->(∀b,b≠D->h2.get? b=h1.get? b)->h2.get? D=some (seqObj "list" out c)->KskOut false kz us out.toList->P (.done (.ret .none)) {s with heap:=h2}):
  wpAny (model prog w) A (ksk_end D false us.toArray e1 (.ref kS) keys) P E s:=by
 have m:keys.size=us.length:=by
  have:=hk.length;rw[Ol]at this;exact this.trans hl
 have f:(keys.zip us.toArray).size=us.length:=by rw[Array.size_zip,m,Fb,Nat.min_self]
 have r:(64:Nat)<=sizeLine:=by decide
 have d:∀st:SortSt,(arrOf st).Perm (keys.zip us.toArray)->SortedTo (arrOf st) (arrOf st).size->failedOf st=none->wpAny (model prog w) A (ksk_tail D false e1 (.ref kS) st) P E s:=by
  intro st hp k hf;have v:((arrOf st).map (·.2)).size=us.length:=by rw[Array.size_map,hp.size_eq,f]
  obtain⟨_,n⟩:=Heap.SameBut.update s.heap kS (Obj.mapSeq λ_=>(#[]:U9));have g:=(n D hkd.symm).trans nd;obtain⟨_,o⟩:=Heap.SameBut.update (s.heap.update kS (Obj.mapSeq λ_=>(#[]:U9))) D (Obj.mapSeq λ_=>(arrOf st).map (·.2));have l:=iT g λ_=>(arrOf st).map (·.2);unfold ksk_tail;simp only[Rh,Jb];refine BX (ZS nk rfl ?_ (by rw[m];lia) (Gz _));refine BX (wpAny_letGo (BX (seqEpoch_at g rfl ?_)));refine BX (ZS g rfl ?_ (Gz _) (by lia));rw[hf];simp only[bne_self_eq_false,Rh,Jb];exact CV (h _ _ _ _ n o l (ksk_out (b:=false) hk hp k))
 unfold ksk_end;dsimp only;rw[if_neg Gk];by_cases h2:us.toArray.size<2
 ·rw[if_pos h2,if_pos h2];refine BX (CV ?_);rw[StateT.run_pure];refine BX (CV (d _ (Array.Perm.refl _) (λi j p q=>?_) rfl));have u:j<(keys.zip us.toArray).size:=q;rw[Fb]at h2;have:i=j:=by lia
  rw[this];exact Ku _
 ·rw[if_neg h2,if_neg h2,ksk_kind hk (by rw[m];rw[Fb]at h2;lia)];rw[Fb]at h2
  refine BX (CV (BX (Fi (wpS_sortRuns (a₀:=keys.zip us.toArray)
   (Q:=λ_ t=>(arrOf t).Perm (keys.zip us.toArray)/\failedOf t=none/\SortedTo (arrOf t) (keys.zip us.toArray).size) (ksk_intKeys hk) ⟨Array.Perm.refl _,U,U,U⟩ (by rw[f];lia) (by rw[f];lia) λt a b c=>⟨a,b,c⟩) ?_ λ_ _ z=>z)))
  rintro ⟨⟨⟩,t⟩ s' ⟨rfl,hp,hf,k⟩;exact d t hp (by rw[hp.size_eq];exact k) hf
noncomputable def Cx.low (X:Cx):Cx:={X with A:=X.A.in1.in1,xe:=Calm}
variable{X:Cx}
theorem Cx.Ok.low(o:X.Ok):X.low.Ok:=⟨o.1,o.2,o.3,o.4,o.5,o.6,o.7,o.8,o.9,o.10,o.11,o.12,o.13,o.14,o.15,o.16,o.17,o.18⟩
section
variable {X:Cx}{pins:U1}{σ:St}{H:Hp}{s:U7}
theorem Inv.low(I:Inv X pins σ H s):Inv X.low pins σ H s:=⟨I.ok.low,I.2,I.3,I.4,I.5,I.6,I.7,I.8,I.9,I.10,I.11⟩
theorem Inv.high(I:Inv X.low pins σ H s)(o:X.Ok):Inv X pins σ H s:=⟨o,I.2,I.3,I.4,I.5,I.6,I.7,I.8,I.9,I.10,I.11⟩
theorem Inv.track{D:W9}{ys:List V}{n:Nat}(I:Inv X pins σ H s)(f:Dq X pins H D)(hz:ys.length<=sizeLine)(r:Vals ys us)(e:s.heap.get? D=some (seqObj "list" us.toArray n)):
  Inv X pins σ (upd H D (.lst ys)) s:=by
 have a:∀b u,H b=some u->b≠D:=λb u q z=>by rw[z,f.1]at q;cases q
 refine I.step (h':=s.heap) (g':=s.gens) (d':=s.drawn) (t':=s.toks) (ch:=[D]) (λb hb=>?_) (λb o _ _ _ q _=>q) (λb o _ _ _ q _=>⟨o.slots,q⟩) (λb o d _ q=>?_) (λb o _ q=>⟨o,q⟩)
  (λb xs q=>?_) (λb o u q=>?_) (λb ps q=>⟨#[],?_⟩) (λm g=>g) (λb u q=>?_) I.bare
 ·cases Fj.mp hb;exact⟨f.2.2.2.1,f.2.1,f.2.2.2.2.1,f.2.2.2.2.2⟩
 ·rw[Cg λz=>d (Fj.mpr z)];exact q
 ·rw[Cg (a _ _ q)];exact q
 ·rw[Cg (a _ _ q)];exact q
 ·rw[Cg (a _ _ q),q];simp
 ·by_cases hb:b=D
  ·subst hb;rw[Ax]at q;cases q;exact⟨hz,us,n,r,e⟩
  ·rw[Cg hb]at q;exact(I.hok b u q).stay (λ_ _ _ q=>q) (λc q=>by rw[Cg (a _ _ q)];exact q) λc xs q=>by rw[Cg (a _ _ q)];exact q
end
theorem Y2r{k:Nat}{f:W9}{fd:FuncData}{p0:Str}{sp:Sp}(F:EY X.prog X.w X.K X.mg X.base NZ k f fd [p0] sp)(hb:Binds X.K fd [p0] [])(hr:Ci (k+2) X.A)
  {pins:U1}{s:U7}{σ:St}{H:Hp}{l:W9}{xs:List V}{Q:VK} (I:Inv X pins σ H s) (hl:H l=some (.lst xs)) (hkz:kz.length=xs.length) (h64:xs.length<64)
  (turn:∀(i:Nat) x z,xs[i]?=some x->kz[i]?=some z->sp [x] H (λv H'=>v=.int z/\H'=H) E0)
  (q:∀(D:W9) (ps:List (Int×V)),H D=none->ps.Perm (kz.zip xs)->ps.Pairwise (λa b=>a.1<=b.1)->Q (.ref D) (upd H D (.lst (ps.map (·.2))))):
  wpAny (model X.prog X.w) X.A (call (.builtin "sorted") [.ref l] [(Str.ofString "key",.ref f)]) (EP X pins σ Q) X.xe s:=by
 obtain⟨_,its,n,rv,el,ho⟩:=I.lstM hl;have P:its.length<64:=by lia
 have a3:(64:Nat)<=sizeLine:=by decide
 have M:kz.length=its.length:=hkz.trans el;refine call_function_entry_kw kind_sorted plain_sorted entry_sorted (ksk_s1 _ _) ?_;unfold Builtin.«sorted»;refine BX (m:=checkCount "sorted" 1 1 _) (CV ?_);refine BX (collect_list (vs:=its) ⟨_,ho,U,n,U⟩ ?_ (by lia));have k0:∀b o,s.heap.get? b=some o->((s.heap.push (seqObj "list" #[] 0)).update s.heap.objs.size (Obj.mapSeq (·++its.toArray))).get? b=some o:=λb o x=>by
  rw[Zg _ _ _ _ (Df (CQ x))];exact Ec _ x
 have z0:s.heap.objs.size<=((s.heap.push (seqObj "list" #[] 0)).update s.heap.objs.size (Obj.mapSeq (·++its.toArray))).objs.size:=by
  rw[Heap.size_update,ZD];exact Nat.le_succ _
 revert k0 z0;generalize (s.heap.push (seqObj "list" #[] 0)).update s.heap.objs.size (Obj.mapSeq (·++its.toArray))=g;intro k0 z0;refine BX (iJ ?_ (by lia));have L:(g.push (seqObj "list" its.toArray 0)).get? g.objs.size=some (seqObj "list" its.toArray 0):=GC _ rfl;have k1:∀b o,s.heap.get? b=some o->(g.push (seqObj "list" its.toArray 0)).get? b=some o:=λb o x=>Ec _ (k0 b o x);have z1:(g.push (seqObj "list" its.toArray 0)).objs.size=g.objs.size+1:=ZD ..;revert z0 L k1 z1;generalize g.push (seqObj "list" its.toArray 0)=g1;generalize g.objs.size=D;intro z0 L k1 z1;refine BX (Kw (wpAny_call_entry_kw slot_list_sort ⟨_,L,U⟩ entry_list_sort ?_ (ksk_l1 _ _)));show wpAny (model X.prog X.w) X.low.A (Builtin.«list.sort» ⟨[.ref D],[(Str.ofString "key",.ref f)]⟩) _ _ _;rw[ksk_t1];unfold ksk_tree;refine BX (listItems_at L rfl ?_);refine BX (ZS L rfl ?_ (by rw[Fb];lia) (Gz _));obtain⟨e1,B⟩:∃e1,(g1.update D (Obj.mapSeq λ_=>(#[]:U9))).get? D=some (seqObj "list" #[] e1):=⟨_,iT L λ_=>#[]⟩;have k2:∀b o,s.heap.get? b=some o->(g1.update D (Obj.mapSeq λ_=>(#[]:U9))).get? b=some o:=λb o x=>by
  rw[Zg _ _ _ _ (Df (Ea (CQ x) z0))];exact k1 b o x
 have z2:D<(g1.update D (Obj.mapSeq λ_=>(#[]:U9))).objs.size:=by rw[Heap.size_update,z1];exact Oh _
 revert B k2 z2;show _->_->_->wpAny _ _ _ _ _ {s with heap:=g1.update D (Obj.mapSeq λ_=>(#[]:U9))};generalize g1.update D (Obj.mapSeq λ_=>(#[]:U9))=g2;intro B k2 z2;refine BX (seqEpoch_at B rfl ?_);refine BX (wpAny_newTuple ?_ (by show its.length<=_;lia));have k3:∀b o,g2.get? b=some o->(g2.push (seqObj "tuple" its.toArray 0)).get? b=some o:=λb o x=>Ec _ x;have z3:(g2.push (seqObj "tuple" its.toArray 0)).objs.size=g2.objs.size+1:=ZD ..;revert k3 z3;show _->_->wpAny _ _ _ _ _ {s with heap:=g2.push (seqObj "tuple" its.toArray 0)};generalize g2.push (seqObj "tuple" its.toArray 0)=g3;intro k3 z3;refine BX (iJ ?_ (Gz _));have Z:(g3.push (seqObj "list" (#[]:U9) 0)).get? g3.objs.size=some (seqObj "list" #[] 0):=GC _ rfl;have R:∀b o,g3.get? b=some o->(g3.push (seqObj "list" (#[]:U9) 0)).get? b=some o:=λb o x=>Ec _ x;have zK:D<g3.objs.size:=by lia
 revert Z R zK;show _->_->_->wpAny _ _ _ _ _ {s with heap:=g3.push (seqObj "list" (#[]:U9) 0)};generalize g3.push (seqObj "list" (#[]:U9) 0)=g4;generalize g3.objs.size=kS;intro Z R zK;have hn:∀b,s.heap.objs.size<=b->H b=none:=λb x=>I.hok.fresh x;have C:Dq X.low pins H D:=I.fpOk z0 (hn D z0);have d:Dq X.low pins H kS:=I.fpOk (by lia) (hn kS (by lia));have O:kS≠D:=LR zK;have E:∀{s':U7}{r:U9}{e:Nat},Inv X.low pins σ H s'->s'.heap.get? kS=some (seqObj "list" r e)->s'.heap.get? D=some (seqObj "list" #[] e1) ->
   Inv X.low (pins++[(kS,seqObj "list" r e),(D,seqObj "list" #[] e1)]) σ H s':=λ{s' r e} J a b=>J.pins_of λp hp=>by
  rcases Io.mp hp with hp | hp
  ·exact J.pin p (Gn _ hp)
  ·rcases Dj.mp hp with rfl | hp
   ·exact⟨a,d.1,d.2.1,d.2.2.1,λv z=>by cases z⟩
   ·cases Fj.mp hp;exact⟨b,C.1,C.2.1,C.2.2.1,λv z=>by cases z⟩
 have at2:∀{s':U7}{r:U9}{e:Nat},Inv X.low (pins++[(kS,seqObj "list" r e),(D,seqObj "list" #[] e1)]) σ H s'->s'.heap.get? kS=some (seqObj "list" r e)/\s'.heap.get? D=some (seqObj "list" #[] e1):=λJ =>
  ⟨(J.pin (kS,_) (Gn _ (Gn _ (.head _)))).1,(J.pin (D,_) (Gn _ (Gn _ (.tail _ (.head _))))).1⟩
 have I4:Inv X.low pins σ H {s with heap:=g4}:=I.low.kept (t':=s.toks) λb o x=>R b o (k3 b o (k2 b o x));have a0:Ci k X.low.A:=hr.in1.in1;refine Kw ?_;unfold ksk_rest;refine BX (wpAny_rule ?_);rw[List.forIn_toArray]
 refine BX (ksk_fold (λi s'=>∃r e,Inv X.low (pins++[(kS,seqObj "list" r e),(D,seqObj "list" #[] e1)]) σ H s'/\IntsAre r.toList (kz.take i)) its 0 _
  ⟨#[],0,E I4 Z (R _ _ (k3 _ _ B)),by simpa using IntsAre.nil⟩ (λj u s' hu J=>?_) λs' J=>?_)
 ·obtain⟨r,e,J,G⟩:=J;rw[Jr]at G ⊢;have hj:j<its.length:=(Et.mp hu).1;obtain⟨z,hz⟩:∃z,kz[j]?=some z:=⟨_,Cm (by lia)⟩;obtain⟨x,hx⟩:∃x,xs[j]?=some x:=⟨_,Cm (by lia)⟩;have rx:RelV x u:=m_ rv (x,u) (List.mem_iff_getElem?.mpr ⟨j,by rw[List.getElem?_zip_eq_some];exact⟨hx,hu⟩⟩);have hA:r.size<=its.length:=by
   have:=G.length;rw[Ol,Hx]at this;lia
  refine BX (ZV (Fi (_E (X:=X.low) (us:=[u]) (vs:=[x]) (ds:=[]) (dvs:=[]) F a0 hb .nil Qf J (.cons rx .nil) (turn j x z hx hz)) (λv s2 c=>?_) λ_ _ c=>c.elim));obtain⟨y,H2,S,ry,rfl,rfl⟩:=c;obtain⟨t,rfl⟩:=ry;obtain⟨N,T⟩:=at2 S;dsimp only;refine BX (ZS N rfl ?_ (by lia) (by rw[Array.size_push];lia));have J3:=S.unpinned.turned (t':=s2.toks) (h':=s2.heap.update kS (Obj.mapSeq (·.push (.int z t)))) (it:=kS) (λb o h x=>by rw[Zg _ _ _ _ h];exact x) d.1 d.2.1 d.2.2.2.1 d.2.2.2.2.1 d.2.2.2.2.2;refine CV ⟨U,r.push (.int z t),_,E J3 (iT N _) ((Zg _ _ _ _ O.symm).trans T),?_⟩;rw[Jt,hz,Array.toList_push];exact ksk_snoc G
 ·obtain⟨r,e,J,G⟩:=J;rw[Jr,<-M,Ld]at G;obtain⟨N,T⟩:=at2 J;refine BX (listItems_at N rfl ?_);refine W3m N T O G M P λh1 h2 out c q1 q2 W ko=>⟨_,U,CV ⟨_,U,?_⟩⟩;obtain⟨ps,pp,pv,po⟩:=X4l rv ko;have J1:=J.unpinned.turned (t':=s'.toks) (h':=h1) (it:=kS) (λb o h x=>by rw[q1 b h];exact x) d.1 d.2.1 d.2.2.2.1 d.2.2.2.2.1 d.2.2.2.2.2;have S:=J1.turned (t':=s'.toks) (h':=h2) (it:=D) (λb o h x=>by rw[q2 b h];exact x) C.1 C.2.1 C.2.2.2.1 C.2.2.2.2.1 C.2.2.2.2.2;have Y:(ps.map (·.2)).length<=sizeLine:=by
   have:=pp.length_eq;rw[List.length_zip]at this;rw[Bg];lia
  have J4:=S.track C Y pv (n:=c) (by rw[Array.toArray_toList];exact W);exact⟨.ref D,_,J4.high I.ok,U,q D ps (hn D z0) pp po⟩
def RB (sp:Sp)(Q:VK)(v:V)(H1:Hp):Prop:=∃(l:W9) (xs:List V) (kz:U6),v=.ref l/\H1 l=some (.lst xs)/\kz.length=xs.length/\xs.length<64 /\
 (∀(i:Nat) x z,xs[i]?=some x->kz[i]?=some z->sp [x] H1 (λv H'=>v=.int z/\H'=H1) E0) /\
 ∀(D:W9) (ps:List (Int×V)),H1 D=none->ps.Perm (kz.zip xs)->ps.Pairwise (λa b=>a.1<=b.1)->Q (.ref D) (upd H1 D (.lst (ps.map (·.2))))
def RJ (sp:Sp)(te:TE):TE:=λσ H Q=>te σ H λv H1=>RB sp Q v H1
theorem X4j{k:Nat}{y p0:Str}{sp:Sp}{e:Expr}{te:TE}{p p2 kp pos:Pos}(c:Ah X.prog X.w X.K X.mg X.base k y [p0] sp)(hr:Ci (k+2) X.A)(hg:Gl X "sorted")(hm:X.mg "sorted"=none)(hgy:Gl X y)(he:PE X e te)
  (hdy:(y == ("__debug__":Str))=false:=by decide) (hs:starEach [e] X.env=(false,eval e X.env)::starEach [] X.env:=by rfl):
  PE X (.Call (.Name "sorted" p) [e] [⟨some "key",.Name y p2,kp⟩] pos) (RJ sp te):=by
 intro pins s σ H Q I h;obtain⟨f,fd,F,b,B,m⟩:=c.ex;refine Wi (Rv I hg hm boot_sorted ?_ (by decide) (by decide));refine callWith_kw (Bu (Aa he Ae hs pos pins s σ H (λvs H1=>match vs with | [v]=>RB sp Q v H1 | _=>False) I h) λus i ⟨vs,H1,n,r,a⟩=>?_) (by rw[hs];rfl) (by rw[hs];rfl) rfl rfl;refine Bu (W0a (Hj (v:=.ref f) hgy m rfl hdy) W3x pos pins i σ H1 (λzs H2=>zs=[.ref f]/\H2=H1) n ⟨U,U⟩) λD E ⟨zs,H2,x,C,g,o⟩=>?_;subst g o;obtain⟨u,rfl,j⟩:=vals1 C;cases j;match vs,r,a with
 | [v],r,a =>
  obtain⟨u,rfl,z⟩:=vals1 r;obtain⟨l,xs,kz,rfl,d,e1,e2,t,q⟩:=a;cases z;exact Y2r F b hr x d e1 e2 t q
end L2
namespace Ay
open L2 Pc Hr Dh Gg
open Cp (Cq vec V6 wl J9 ev Dy)
theorem Jj{X:Cx}{st:Stmt}:PS X st (λ_ _ _=>False):=λ_ _ _ _ _ _ h=>h.elim
theorem CW.upd{H:Hp}{l:W9}{xs ys:List V}{ps:U3}{ms:List Mk}(h:CW H ps ms)(hl:H l=some (.lst xs)):CW (upd H l (.lst ys)) ps ms :=
 Paired.imp' (λ_ _ c=>by rw[Cg (Q_ c hl (by intro z;cases z))];exact c) h
theorem CW.zip{H:Hp}:∀{ps:U3}{ms:List Mk},CW H ps ms->(∀t∈ps.zip ms,H t.1=some (T3 t.2))/\(ps.zip ms).map (·.1)=ps/\(ps.zip ms).map (·.2)=ms
 | [],[],.nil=>⟨λ_ h=>(nomatch h),rfl,rfl⟩
 | p::ps,m::ms,.cons a r=>by
  obtain⟨h1,h2,c⟩:=CW.zip r;rw[Zf];refine⟨λt b=>?_,by rw[Ez,h2],by rw[Ez,c]⟩;rcases Dj.mp b with rfl | b
  ·exact a
  ·exact h1 t b
theorem CW.ofzip{H:Hp}:∀{l:List (Addr×Mk)},(∀t∈l,H t.1=some (T3 t.2))->CW H (l.map (·.1)) (l.map (·.2))
 | [],_=>.nil
 | t::l,h=>.cons (h t (.head _)) (CW.ofzip λu a=>h u (.tail _ a))
theorem VP:∀{ds:U3}{D:List Mk}{g:Mk->Int},ds.length=D.length->(D.map g).zip (ds.map V.ref)=(ds.zip D).map λt=>(g t.2,V.ref t.1)
 | [],[],_,_=>rfl
 | d::ds,m::D,g,h=>by
  simp only[Ez,Zf];rw[VP (Nat.succ.inj h)]
def aK:Sp:=λvs H Q _=>∃(l:W9) (ps:U3) (ms:List Mk) (N:Nat),vs=[.ref l,.int N]/\G4 N H l ps ms/\1<=N/\N<=6 /\
 ∀(r:W9) (H':Hp) (qs:U3) (S:List Mk),Same H H'->H r=none->H' r=some (.lst (qs.map V.ref))->CW H' qs S->Cp.Dm ms S->S.length=ms.length->S.Pairwise (λa b=>Dy a<=Dy b)->Q (.ref r) H'
section
variable {P:U8}{w:W1}{K:U0}{mg:U4}{base:Heap}{k:Nat}{h:Heap}
def wj:Sp:=λvs H Q _=>∃(l:W9) (ps:U3) (ms:List Mk) (N:Nat),vs=[.ref l,.int N]/\G4 N H l ps ms/\1<=N/\N<=6/\∀H',Same H H'->Q .non H'
theorem X0q(F:Ab K "check_table" (top 66) .none)(X:K.In h)(G:Ng h mg)(eX:Ah P w K mg base k "is_table" ["rows","cells"] yU):Ah P w K mg base (k+1) "check_table" ["rows","cells"] wj:=by
 refine F.cal X G ["rows","cells"] λg H vs Q f a h=>?_;obtain⟨l,ps,ms,N,rfl,T,c,e,d⟩:=h
 refine⟨_,(@Ak _ _ _ (Bx (FQ (Du (Av eX a rfl (Aa (pv 0) (Aa (pv 1) Ae)))))
   (@Ak _ _ _ Jj)
   CK)),?_⟩
 try dsimp only[Bm]
 exact⟨_,U,_,U,l,ps,ms,N,U,T,c,e,λH1 b=>⟨_,U,Bj (d H1 b)⟩⟩
theorem Y7q(F:Ab K "reduced" (top 67) .none)(X:K.In h)(G:Ng h mg)(B:Bs mg)(dY:Ah P w K mg base (k+2) "check_table" ["rows","cells"] wj)(d6:Ah P w K mg base (k+2) "without_lead" ["mark","row"] yc)(eJ:Ah P w K mg base k "lead" ["mark"] (Jm K)):
  Ah P w K mg base (k+2+1) "reduced" ["rows","cells"] aK:=by
 refine F.cal X G ["rows","cells","done","row","fresh","each"] λO H vs Q E' hr h=>?_;obtain⟨l,ps,ms,N,rfl,T,N1,N6,kq⟩:=h;have hS:Aw K H l (ps.map V.ref):=Aw.of T.lst;have a1:(ps.map V.ref).length=ms.length:=by rw[Bg,T.mks.length]
 have l6:=T.len
 refine⟨_,(@Aq _ _ _ _ _ (Ny (Av dY hr rfl (Aa (pv 0) (Aa (pv 1) Ae))))
  (@Aq _ _ _ _ _ (@Bb _ _ 2 _ _ _ _ O rfl (Or.inl rfl) (@Li _ _ _ _ Ae) rfl (.inl rfl))
  (@Aq _ _ _ _ _ (J7 PassesOwn.never rfl (G_ (pv 0)) (DR (i:=3) O rfl (Or.inl rfl))
   (@Aq _ _ _ _ _ (@Bb _ _ 4 _ _ _ _ O rfl (Or.inr rfl) (pv 3) rfl (.inl rfl))
   (@Aq _ _ _ _ _ (J7 PassesOwn.never rfl (G_ (pv 2)) (DR (i:=5) O rfl (Or.inl rfl))
    (@Ak _ _ _ (@Bb _ _ 4 _ _ _ _ O rfl (Or.inr rfl) (Av d6 hr rfl (Aa (pv 4) (Aa (pv 5) Ae))) rfl (.inl rfl))))
   (@Ak _ _ _ (@Bb _ _ 2 _ _ _ _ O rfl (Or.inl rfl) (Af au (Iw rfl (Bp.of (Nc:=["each","fresh"]) (mp:=[none,some 4]) (by kernel_rfl)) (G_ (pv 2)) (λ_ _ _ _=>(DR (i:=0) (show (["each","fresh"]:W0).Nodup by decide +kernel) rfl (Or.inl rfl))) (λ_ _ _ _=>(Av d6 hr rfl (Aa (pv 0) (Aa (pv 1) Ae))))) (@Li _ _ _ _ (Aa (pv 4) Ae))) rfl (.inl rfl))))))
  (@Ak _ _ _ (BJ (X4j eJ hr rfl B.sorted rfl (pv 2))))))),?_⟩
 try dsimp only[Bm]
 refine⟨_,U,_,U,l,ps,ms,N,U,T,N1,N6,λH1 S1=>?_⟩;refine⟨by decide,λl0 a2=>?_⟩;have s1:=S1.trans (BR a2 (.lst []))
 refine⟨_,U,l,U,⟨_,s1.seq hS⟩,O8 (K:=K) (a:=l) (xs:=ps.map V.ref) (λi σ H'=>Same H H'/\∃(ld:W9) (ds:U3) (D:List Mk) (ls:W3) (v3 v4 M:Option V),H' ld=some (.lst (ds.map V.ref))/\CW H' ds D/\Cp.Dn ms i D ls/\σ=[some (.ref l),some (.int N),some (.ref ld),v3,v4,M])
  ⟨s1,l0,[],[],[],none,none,none,Ax,.nil,Cp.Dn.start ms,U⟩ (λi σ H' _ e=>e.1.seq hS) ?_ ?_⟩
 ·rintro i x σ H2 c ⟨S,ld,ds,D,ls,v3,v4,M,f,E,o,rfl⟩;have u:i<ms.length:=by
   have:=(Et.mp c).1;lia
  rw[Cj]at c;obtain⟨p,hp,rfl⟩:=Es.mp c;obtain⟨row,a4,p0⟩:=T.mks.get hp;have eg:ms.getD i (0,0,0)=row:=by rw[CP,a4];rfl
  have lD:=o.len;have J:=E.length;have I:(ds.map V.ref).length=i:=by rw[Bg,J,lD]
  have gD:∀d∈D,ev d/\V6 d:=λd hd=>Cp.Gy T.tb (by lia) (o.g d hd);have frs:∀t,t<=i->V6 (Cp.fr D ls row t):=λt ht=>by
   have:=(Cp.Gy T.tb (by lia) (Cp.qx T.tb u o t ht).G).2;rw[<-eg];exact this
  refine⟨_,U,?_⟩
  refine⟨_,U,ld,U,⟨_,Aw.of f⟩,O8 (K:=K) (a:=ld) (xs:=ds.map V.ref) (λt σ H'=>Same H2 H'/\∃(s:W9) (M:Option V),H' s=some (T3 (Cp.fr D ls row t))/\σ=[some (.ref l),some (.int N),some (.ref ld),some (.ref p),some (.ref s),M])
   ⟨Same.refl _,p,_,S _ _ p0,U⟩ (λt σ H' _ e=>Aw.of (e.1 _ _ f)) ?_ ?_⟩
  ·rintro t x σ H3 c ⟨S3,s,M,m,rfl⟩;have a3:t<i:=by
    have:=(Et.mp c).1;lia
   rw[Cj]at c;obtain⟨q,hq,rfl⟩:=Es.mp c;obtain⟨d,b,q0⟩:=E.get hq;have ed:D.getD t (0,0,0)=d:=by rw[CP,b];rfl
   have L:=o.ld t a3;refine⟨_,U,_,U,s,q,Cp.fr D ls row t,d,ls.getD t 0,U,m,S3 _ _ q0,frs t (by lia),(gD d (GQ b)).2,by rw[<-ed];exact L,λr H4 Y v=>?_⟩;rw[<-ed]at v;exact⟨S3.trans Y,r,_,v,U⟩
  ·rintro σ H3 ⟨S3,s,M,m,rfl⟩;rw[I]at m;have FR:=Cp.qx T.tb u o i (CG _);have W:=frs i (CG _);rw[eg]at FR;obtain⟨n,_,L⟩:=Cp.X6f W (FR.nz T.tb u);have DX:=o.next T.tb u FR L
   generalize Cp.fr D ls row i=fm at *;refine⟨_,U,ld,U,⟨_,Aw.of (S3 _ _ f)⟩,λacc A=>?_⟩;refine Uk (K:=K) (a:=ld) (xs:=ds.map V.ref) (fr:=[some (.ref s)]) (λj ys H'=>Same H3 H'/\H' acc=some (.lst ys)/\∃y,ys=y.map V.ref/\CW H' y ((D.take j).map λd=>wl d fm n)) (by rw[I];exact Jq (by lia))
    ⟨BR A _,Ax,[],U,.nil⟩ (λj ys H' e=>Aw.of (e.1 _ _ (S3 _ _ f))) ?_ ?_
   ·rintro j x ys HA NN c hl ⟨SA,cA,y,rfl,mA⟩ kN;rw[Cj]at c;obtain⟨q,hq,rfl⟩:=Es.mp c;obtain⟨d,b,q0⟩:=E.get hq;refine⟨_,U,_,U,q,s,d,fm,n,U,SA _ _ (S3 _ _ q0),SA _ _ m,(gD d (GQ b)).2,W,L,λr H4 Y v=>?_⟩;have c4:=Y _ _ cA;refine kN _ _ c4 ⟨Fw (SA.trans Y) A,Ax,y++[r],by rw[DW];rfl,?_⟩;rw[Jt,b,Nq,DW];refine CW.upd (Paired.snoc (mA.same Y) v) c4
   rintro ys HB a6 ⟨SB,cB,y,rfl,mB⟩;rw[I,Zj (by lia)]at mB;refine⟨_,U,Jq (by simp),λl1 a5=>?_⟩;have s5:=BR a5 (.lst [V.ref s]);have zq:=mB.length;rw[Bg]at zq;refine⟨acc,l1,_,_,U,U,s5 _ _ cB,Ax,?_,λl2 a0=>?_⟩
   ·rw[Bg,zq];exact Jq (by simp;lia)
   have s6:=BR a0 (.lst (y.map V.ref++[V.ref s]));have ss:=(SB.trans s5).trans s6;refine⟨(S.trans S3).trans ss,l2,y++[s],_,_,_,_,_,?_,Paired.snoc (mB.same (s5.trans s6)) (ss _ _ m),DX,U⟩;rw[Ax,DW];rfl
 ·rintro σ H2 ⟨S,ld,ds,D,ls,v3,v4,M,f,E,o,rfl⟩;rw[a1]at o;have DM:=o.all;have lD:=o.len;have J:=E.length;refine⟨_,U,ld,ds.map V.ref,D.map (λd=>(Dy d:Int)),U,f,by rw[Bg,Bg];lia,by rw[Bg];lia,λi x z c hz=>?_,λR y hR pp po=>?_⟩
  ·rw[Cj]at c hz;obtain⟨q,hq,rfl⟩:=Es.mp c;obtain⟨d,b,rfl⟩:=Es.mp hz;obtain⟨d',C,q0⟩:=E.get hq;rw[b]at C;cases C;have Z:=GQ b;exact⟨q,d,Dy d,U,Ag.of q0,(Cp.Gy T.tb (CG _) (o.g d Z)).2,DM.ld d Z,U,U⟩
  ·obtain⟨z1,z2,z3⟩:=E.zip;obtain⟨rl,pr,er⟩:=wW pp (VP (g:=λd=>(Dy d:Int)) J);subst er;have sR:=BR hR (.lst ((rl.map λt:Addr×Mk=>((Dy t.2:Int),V.ref t.1)).map (·.2)));have pD:(rl.map (·.2)).Perm D:=by
    have:=pr.map (·.2);rw[z3]at this;exact this
   refine kq R _ (rl.map (·.1)) (rl.map (·.2)) (S.trans sR) (S.free hR) ?_ ((CW.ofzip λt ht=>z1 t (pr.mem_iff.mp ht)).same sR) (DM.perm T.tb pD) (by rw[pD.length_eq,lD]) ?_
   ·rw[Ax,KR,KR];rfl
   ·rw[Wd]at po ⊢;exact po.imp λh=>by lia
end
end Ay
set_option maxHeartbeats 1000000
namespace Bc
open L2 Ba Am Pc Ew
open Aj (top Bs Cz Bk Cw Uo PL PJ G6 Ur)
open Dc (Dv)
open FW (Mk CJ Bh)
section
variable {P:U8}{w:W1}{K:U0}{mg:U4}{base:Heap}{k:Nat}{h:Heap}
theorem X4u(F:Ab K "spun_by_mark" (top 44) .none)(X:K.In h)(G:Ng h mg)(dE:Ah P w K mg base k "spun" ["one","k"] (Uo K))(cG:Ah P w K mg base k "ones" ["number"] DP):Ah P w K mg base (k+1) "spun_by_mark" ["board","word","mark"] (vV K):=by
 refine F.cal X G ["board","word","mark"] λx H vs Q E b h=>?_;obtain⟨l,p,ps,f,c,n,M,a,⟨k,fl,s⟩,rfl,d,g,S,o,u⟩:=h;have v:=o.k;obtain⟨q,_,m,t⟩:=d.at g;refine⟨_,(@Ak _ _ _ (BJ (Av dE b rfl (Aa (Ai Fv (pv 0) (pv 1) (λ_ _=>rfl)) (Aa (Af El (Af Nu Ac (Ai Ao (pv 2) Ac (λ_ _=>rfl))) (Af Nu Ac (Av cG b rfl (Aa (Af Dz (pv 1) (Ai Ao (pv 2) Ac (λ_ _=>rfl))) Ae)))) Ae))))),?_⟩;try dsimp only[Bm]
 refine⟨_,U,_,U,l,_,_,_,U,U,Aw.of d.lst,t,?_⟩;refine⟨_,U,p,_,_,_,U,U,S,k0,_,_,U,U,.inl ⟨by decide,by decide⟩,_,U,_,U,p,_,_,_,U,U,S,k2,_,_,U,U,a&&&s,Rz,_,_,U,U,.inl ⟨by decide,by decide⟩,_,_,U,U,?_⟩;refine⟨q,(f a).1.1,(f a).1.2.1,(f a).1.2.2.1,(f a).1.2.2.2,(f a).2,_,U,m,λr H' j i=>u r H' j ?_⟩;have e:(2*(k:Int)+4*(pc (a&&&s):Int))=((2*k+4*pc (a&&&s):Nat):Int):=by lia
 rw[<-e];exact i
theorem W0p(F:Ab K "laid_on" (top 43) .none)(X:K.In h)(G:Ng h mg)(B:Bs mg)(dS:Ah P w K mg base k "spun_by_mark" ["board","word","mark"] (vV K)):Ah P w K mg base (k+1) "laid_on" ["board","mark"] (Hu K):=by
 refine F.cal X G ["board","mark"] λR H vs Q E J h=>?_;obtain⟨l,p,ps,f,c,n,M,m,rfl,g,c6,S,o,D⟩:=h;have L:=Hy c6;have y:Aw K H l (ps.map V.ref):=Aw.of g.lst;have s:(((ps.map V.ref).length:Nat):Int).toNat=2^c:=by rw[Bg,g.len,G8]
 refine⟨_,(@Ak _ _ _ (BJ (Iw rfl (Bp.of (Nc:=["word","board","mark"]) (mp:=[none,some 0,some 1]) (by kernel_rfl)) (Lw rfl B.range (Aa (Ck Ig rfl B.len HX (Aa (pv 0) Ae)) Ae)) (λ_ _ _ _=>(DR (i:=0) (show (["word","board","mark"]:W0).Nodup by decide +kernel) rfl (Or.inl rfl))) (λ_ _ _ _=>(Av dS J rfl (Aa (pv 1) (Aa (Af JN (pv 0) (Ai Uj (pv 2) Ac (λ_ _=>rfl))) (Aa (pv 2) Ae)))))))),?_⟩;try dsimp only[Bm]
 refine⟨_,U,l,_,U,.inl y,_,U,by rw[Bg,g.len];lia,by rw[Bg,g.len];lia,λacc b=>?_⟩;rw[s];refine R6 (n:=2^c) (fr:=[some (.ref l),some (.ref p)]) (λi ys H'=>∃a:List Addr,Same H H'/\H' acc=some (.lst ys)/\ys=a.map V.ref/\a.length=i/\Bk K H' a (layW m f)) (JB L)
  ⟨[],BR b _,Ax,U,U,(λ_ _ z=>by cases z)⟩ ?_ ?_
 ·rintro i ys H2 N hi I ⟨a,d,v,rfl,u,v2⟩ A;refine⟨_,U,_,U,_,U,p,_,_,_,U,U,d.tup S,k1,_,_,U,U,_,U,l,p,ps,f,c,n,M,i^^^m.2.1,m,?_,g.same d,Er hi o.f,d.tup S,o,λr O S3 x=>?_⟩
  ·show [V.ref l,V.int (Builtin.bitXor (0+(i:Int)) (m.2.1:Nat)),V.ref p]=_;rw[LQ,J5]
  ·refine A (.ref r) O (S3 _ _ v) ⟨a++[r],Fw (d.trans S3) b,Ax,by rw[DW];rfl,by simp[u],?_⟩;have:=PJ (ys:=a.map V.ref++[.ref r]) (xs:=a.map V.ref) (PL v2 S3 x) (S3 _ _ v);intro j q C;have t:=this j q C;have e:(if j=a.length then Az (f (i^^^m.2.1)) ((2*m.1+4*pc ((i^^^m.2.1)&&&m.2.2):Nat):Int) else layW m f j)=layW m f j:=by
    by_cases e:j=a.length
    ·rw[if_pos e,e,u]
    ·rw[if_neg e]
   rw[<-e];exact t
 ·rintro ys H2 I ⟨a,d,v,rfl,u,v2⟩;exact D acc H2 a b d ⟨v,u,v2,λi hi=>Ur (g.ok _ (Er hi o.f))⟩
end
end Bc
namespace FW
open Ew Ew.Mv Dc Pc
end FW
namespace Pn
open Ew Mv Dc FW
noncomputable def bk:Mv->Mv
 | .turn a j=>.turn a (8-j)
 | x=>x
theorem Ro{k:Nat}(h:k<4):((k+2)%4+2)%4=k:=by lia
theorem W4s{x:Mv}(o:Ok x)(b:Br x){m:Mk}(h:m.1<4):CJ (bk x) (CJ x m)=m:=by
 obtain⟨k,f,s⟩:=m;have h:k<4:=h;cases x with
 | flip a =>
  show (if s.testBit a.toNat then ((if s.testBit a.toNat then (k+2)%4 else k)+2)%4 else (if s.testBit a.toNat then (k+2)%4 else k),f,s)=_;by_cases c:s.testBit a.toNat=true
  ·simp only[c,Ja];rw[Ro h]
  ·simp only[c,Jb];simp
 | mix a =>
  by_cases c:f.testBit a.toNat=true<;>by_cases d:s.testBit a.toNat=true<;>simp[bk,CJ,c,d,nC,Dc.Sg,Ro h]
 | turn a j =>
  obtain⟨g,r,q⟩:0<=a/\1<=j/\j<=7:=o;have b:j.toNat%2=0:=b;have l:j=2\/j=4\/j=6:=by lia
  by_cases c:f.testBit a.toNat=true
  ·rcases l with rfl | rfl | rfl<;>simp[bk,CJ,c,Dc.Sg]<;>lia
  ·simp[bk,CJ,c]
 | iff a b' =>
  obtain⟨g,i,n⟩:0<=a/\0<=b'/\a≠b':=o;have e:a.toNat≠b'.toNat:=by lia
  by_cases c:f.testBit a.toNat=true<;>by_cases d:s.testBit b'.toNat=true<;>simp[bk,CJ,c,d,YT e,YT e.symm,Dc.Sg]
 | pair a b' =>
  obtain⟨g,i,n⟩:0<=a/\0<=b'/\a≠b':=o;have p:∀w,fl (fl w a.toNat) b'.toNat=fl (fl w b'.toNat) a.toNat:=λw=>by
   unfold fl;rw[E_,KY (2^a.toNat),<-E_]
  by_cases c:f.testBit a.toNat=true<;>by_cases d:f.testBit b'.toNat=true<;>simp[bk,CJ,c,d,Dc.Sg,p,Ro h]
 | swap a b' =>
  obtain⟨g,i,n⟩:0<=a/\0<=b'/\a≠b':=o;have e:a.toNat≠b'.toNat:=by lia
  simp[bk,CJ,W6v e]
 | cross a b' d=>exact b.elim
theorem YM:∀(r t:List Mv) (m:Mk),Bh (r++t) m=Bh t (Bh r m)
 | [],_,_=>rfl
 | x::r,t,m=>YM r t (CJ x m)
end Pn
namespace M84
open Ew Mv Dc FW Pn Pc
end M84
set_option maxHeartbeats 4000000
namespace Aj
open L2 Am Pc Ba
noncomputable def sm (fs:U6)(v:Int×Int×Int×Int):Nat->Int×Int×Int×Int
 | 0=>(0,0,0,0)
 | i+1=>let (a,b,c,d):=sm fs v i;let (x,y,z,u):=BK i v;let f:=fs.getD i 0;(a+f*x,b+f*y,c+f*z,d+f*u)
abbrev Q4 (n:Nat)(v:Int×Int×Int×Int):Prop:=Ih n v.1 v.2.1 v.2.2.1 v.2.2.2
theorem oR{n:Nat}{v:Int×Int×Int×Int}(h:Q4 n v):∀i,Q4 n (BK i v)
 | 0=>h
 | i+1=>let r:=oR h i;⟨r.z4.neg,r.z1,r.z2,r.z3⟩
theorem W3k{n n':Nat}{fs:U6}{v:Int×Int×Int×Int}(h:Q4 n v)(hf:∀f∈fs,Sz n' f):∀i,Q4 (n+n'+i) (sm fs v i)
 | 0=>⟨WL (by decide),WL (by decide),WL (by decide),WL (by decide)⟩
 | i+1=>by
  have r:=oR h i;have s:=W3k h hf i;have a:Sz n' (fs.getD i 0):=by
   rw[CP];cases e:fs[i]? with
   | none=>exact WL (by decide)
   | some f=>exact hf f (GQ e)
  exact⟨(s.z1.add (a.mul r.z1)).mono (by lia),(s.z2.add (a.mul r.z2)).mono (by lia),(s.z3.add (a.mul r.z3)).mono (by lia),(s.z4.add (a.mul r.z4)).mono (by lia)⟩
noncomputable abbrev L4 (v:Int×Int×Int×Int):List Int:=[v.1,v.2.1,v.2.2.1,v.2.2.2]
structure rE (x y z:A5):Prop where
 amt:G5 z.1.1 z.1.2.1 z.1.2.2.1 z.1.2.2.2 z.2
 same:Ca (x.1.1*y.1.1-x.1.2.1*y.1.2.2.2-x.1.2.2.1*y.1.2.2.1-x.1.2.2.2*y.1.2.1) (x.1.1*y.1.2.1+x.1.2.1*y.1.1-x.1.2.2.1*y.1.2.2.2-x.1.2.2.2*y.1.2.2.1)
  (x.1.1*y.1.2.2.1+x.1.2.1*y.1.2.1+x.1.2.2.1*y.1.1-x.1.2.2.2*y.1.2.2.2) (x.1.1*y.1.2.2.2+x.1.2.1*y.1.2.2.1+x.1.2.2.1*y.1.2.1+x.1.2.2.2*y.1.1) (x.2+y.2) z.1.1 z.1.2.1 z.1.2.2.1 z.1.2.2.2 z.2
 le:z.2<=x.2+y.2
def qN (K:U0):Sp:=λvs H Q _=>∃(p q:W9) (x y:A5) (n n':Nat) (m m':Int),vs=[.ref p,.ref q]/\Cw K H p x/\Cw K H q y/\Fy n m x/\Fy n' m' y/\n+n'<=100000 /\
 ∀(r:W9) (H':Hp) (z:A5),Same H H'->H' r=some (tA z)->rE x y z->Fy (n+n'+4) (m+m') z->Q (.ref r) H'
def nY:Sp:=λvs H Q _=>∃(p:W9) (a b c d h:Int),vs=[.ref p]/\H p=some (T5 a b c d h)/\0<=h/\∀(r:W9) (H':Hp) (x y z u g:Int),Same H H'->H' r=some (T5 x y z u g)->Red a b c d (h+1) x y z u g->Q (.ref r) H'
section
variable {P:U8}{w:W1}{K:U0}{mg:U4}{base:Heap}{k:Nat}{h:Heap}
theorem X4r(F:Ab K "times" (top 29) .none)(X:K.In h)(G:Ng h mg)(B:Bs mg)(c9:Ah P w K mg base k "halved_out" ["a","b","c","d","h"] Fl)(cZ:Ah P w K mg base k "spun_once" ["one"] (bV K)):Ah P w K mg base (k+1) "times" ["one","other"] (qN K):=by
 refine F.cal X G ["one","other","sums","turning","factor"] λI H vs Q E hr h=>?_;obtain⟨p,q,⟨⟨a,b,c,d⟩,h⟩,⟨⟨a',b',c',d'⟩,h'⟩,n,T,m,m',rfl,e1,e2,ox,Y,hn,kq⟩:=h;have h0:0<=h:=ox.amt.nn;have a0:0<=h':=Y.amt.nn;have z:=ox.sz;have L:=Y.sz;have o:h<=m:=ox.le;have j:h'<=m':=Y.le;have S:Ag K H p [.int a,.int b,.int c,.int d,.int h]:=e1;have S':Ag K H q [.int a',.int b',.int c',.int d',.int h']:=e2;have hz:Q4 n (a,b,c,d):=z;have hf:∀f∈[a',b',c',d'],Sz T f:=by
  intro f A;simp only[Dj,Ip,Ik]at A;rcases A with rfl | rfl | rfl | rfl
  ·exact L.z1
  ·exact L.z2
  ·exact L.z3
  ·exact L.z4
 refine⟨_,(@Aq _ _ _ _ _ (@Bb _ _ 2 _ _ _ _ I rfl (Or.inl rfl) (@Li _ _ _ _ (Aa Ac (Aa Ac (Aa Ac (Aa Ac Ae))))) rfl (.inl rfl))
  (@Aq _ _ _ _ _ (@Bb _ _ 3 _ _ _ _ I rfl (Or.inl rfl) (pv 0) rfl (.inl rfl))
  (@Aq _ _ _ _ _ (J7 PassesOwn.never rfl (bD (N5 Yn (pv 1) R0 (K6 Ac))) (DR (i:=4) I rfl (Or.inr rfl))
   (@Aq _ _ _ _ _ (R9 (i:=2) rfl I rfl rfl (Bp.of (Nc:=["x","y","factor"]) (mp:=[none,none,some 4]) (by kernel_rfl)) (bF false true rfl B.zip (Aa (pv 2) (Aa (N5 Yn (pv 3) R0 (K6 Ac)) Ae))) (λ_ _ _ _=>(R8 rfl (show (["x","y","factor"]:W0).Nodup by decide +kernel) rfl rfl rfl rfl)) (λ_ _ _ _=>(Af El (pv 0) (Af Nx (pv 2) (pv 1)))) rfl)
   (@Ak _ _ _ (@Bb _ _ 3 _ _ _ _ I rfl (Or.inl rfl) (Av cZ hr rfl (Aa (pv 3) Ae)) rfl (.inl rfl)))))
  (@Ak _ _ _ (BJ (Av c9 hr rfl (Aa (Ai Fv (pv 2) Ac (λ_ _=>rfl)) (Aa (Ai Fv (pv 2) Ac (λ_ _=>rfl)) (Aa (Ai Fv (pv 2) Ac (λ_ _=>rfl)) (Aa (Ai Fv (pv 2) Ac (λ_ _=>rfl)) (Aa (Af El (Ai Ao (pv 0) Ac (λ_ _=>rfl)) (Ai Ao (pv 1) Ac (λ_ _=>rfl))) Ae))))))))))),?_⟩
 try dsimp only[Bm]
 refine⟨(by show 4<=sizeLine;decide),λl0 R=>?_⟩;have s1:=BR R (.lst [.int 0,.int 0,.int 0,.int 0]);refine⟨_,U,?_⟩;refine⟨_,U,4,U,q,_,U,s1.tup S',Kd,λl1 o=>⟨l1,U,⟨_,Ag.of Ax⟩,?_⟩⟩;have s2:=s1.trans (BR o (.tup ([a',b',c',d'].map V.int)))
 refine W2b (K:=K) (a:=l1) (xs:=[a',b',c',d'].map V.int) (λi σ H'=>Same (upd (upd H l0 (.lst [.int 0,.int 0,.int 0,.int 0])) l1 (.tup ([a',b',c',d'].map V.int))) H'/\∃l t v,σ=[some (.ref p),some (.ref q),some (.ref l),some (.ref t),v] /\
   H' l=some (.lst ((L4 (sm [a',b',c',d'] (a,b,c,d) i)).map V.int))/\Cw K H' t (BK i (a,b,c,d),h))
  ⟨Same.refl _,l0,p,none,U,?_,e1.same s2⟩ (λi σ H' _ p=>p.1.tup (Ag.of Ax)) ?_ ?_
 ·rw[Cg (λe=>by rw[<-e,Ax]at o;cases o),Ax];rfl
 ·rintro i x σ H2 A ⟨s3,l,t,v,rfl,M,Z⟩;rw[Cj]at A;obtain⟨fa,C,rfl⟩:=Es.mp A;have zf:=hf fa (GQ C);have J:=oR hz i;have ef:[a',b',c',d'].getD i 0=fa:=by rw[CP,C];rfl
  refine⟨_,U,_,U,4,U,t,_,U,Z,Kd,λl2 j=>?_⟩;refine⟨l,l2,_,(L4 (BK i (a,b,c,d))).map V.int,U,(BR j _).seq (Aw.of M),Ag.of Ax,λacc D=>?_⟩;refine X1l (K:=K) (ns:=L4 (sm [a',b',c',d'] (a,b,c,d) i)) (ms:=L4 (BK i (a,b,c,d))) (fr:=[some (.int fa)]) (λx y=>x+fa*y) rfl (show 4<=sizeLine by decide) ((BR j _).seq (Aw.of M)) (Ag.of Ax) D
   (λha hQ=>⟨_,_,U,Ag.of ha,U,_,_,U,_,_,U,U,hQ⟩) ?_ ?_
  ·intro x y H2 N A hy kN;have zy:Sz n y:=by
    simp only[Dj,Ip,Ik]at hy;rcases hy with rfl | rfl | rfl | rfl
    ·exact J.z1
    ·exact J.z2
    ·exact J.z3
    ·exact J.z4
   exact⟨_,U,_,U,_,U,_,_,U,U,⟨T,n,zf,zy,by lia⟩,_,_,U,U,kN⟩
  intro H3 W a4;have s5:=(BR j (.tup ((L4 (BK i (a,b,c,d))).map V.int))).trans W;refine⟨_,U,t,_,_,_,_,_,U,Z.same s5,λr H4 s6 e6=>?_⟩;refine⟨s3.trans (s5.trans s6),acc,r,_,U,?_,Cw.of e6⟩;rw[s6 _ _ a4,<-ef];rfl
 ·rintro σ H2 ⟨s3,l,t,v,rfl,M,Z⟩;have O:=s2.trans s3;have s:Aw K H2 l ((L4 (sm [a',b',c',d'] (a,b,c,d) 4)).map V.int):=Aw.of M;have zz:Q4 (n+T+4) (sm [a',b',c',d'] (a,b,c,d) 4):=W3k hz hf 4;refine⟨_,U,l,_,_,_,U,U,s,U,_,U,l,_,_,_,U,U,s,U,_,U,l,_,_,_,U,U,s,U,_,U,l,_,_,_,U,U,s,U,_,U,p,_,_,_,U,U,O.tup S,U,_,U,q,_,_,_,U,U,O.tup S',U,_,_,U,U,?_⟩;refine⟨_,_,_,_,_,U,(by show 0<=h+h';lia),λr H' x y v u g W e4 r4=>?_⟩;refine kq r H' ((x,y,v,u),g) (O.trans W) e4 ⟨r4.amt,?_,r4.le⟩ ⟨r4.sz zz,r4.amt,(by have:=r4.le;show g<=m+m';lia)⟩;show Ca (a*a'-b*d'-c*c'-d*b') (a*b'+b*a'-c*d'-d*c') (a*c'+b*b'+c*a'-d*d') (a*d'+b*c'+c*b'+d*a') (h+h') x y v u g;have hs:=r4.same;have q1:(sm [a',b',c',d'] (a,b,c,d) 4).1=a*a'-b*d'-c*c'-d*b':=by
   show 0+a'*a+b'*-d+c'*-c+d'*-b=_;grind
  have q2:(sm [a',b',c',d'] (a,b,c,d) 4).2.1=a*b'+b*a'-c*d'-d*c':=by
   show 0+a'*b+b'*a+c'*-d+d'*-c=_;grind
  have q3:(sm [a',b',c',d'] (a,b,c,d) 4).2.2.1=a*c'+b*b'+c*a'-d*d':=by
   show 0+a'*c+b'*b+c'*a+d'*-d=_;grind
  have q4:(sm [a',b',c',d'] (a,b,c,d) 4).2.2.2=a*d'+b*c'+c*b'+d*a':=by
   show 0+a'*d+b'*c+c'*b+d'*a=_;grind
  rw[<-q1,<-q2,<-q3,<-q4];exact hs
theorem X0n(F:Ab K "halved" (top 97) .none)(X:K.In h)(G:Ng h mg)(c9:Ah P w K mg base k "halved_out" ["a","b","c","d","h"] Fl):Ah P w K mg base (k+1) "halved" ["one"] nY:=by
 refine F.cal X G ["one"] λg H vs Q f e h=>?_;obtain⟨p,a,b,c,d,h,rfl,hp,i,q⟩:=h;have S:Ag K H p [.int a,.int b,.int c,.int d,.int h]:=Ag.of hp;refine⟨_,(@Ak _ _ _ (BJ (Av c9 e rfl (Aa (Ai Ao (pv 0) Ac (λ_ _=>rfl)) (Aa (Ai Ao (pv 0) Ac (λ_ _=>rfl)) (Aa (Ai Ao (pv 0) Ac (λ_ _=>rfl)) (Aa (Ai Ao (pv 0) Ac (λ_ _=>rfl)) (Aa (Af El (Ai Ao (pv 0) Ac (λ_ _=>rfl)) Ac) Ae)))))))),?_⟩;try dsimp only[Bm]
 exact⟨_,U,p,_,_,_,U,U,S,U,_,U,p,_,_,_,U,U,S,U,_,U,p,_,_,_,U,U,S,U,_,U,p,_,_,_,U,U,S,U,_,U,p,_,_,_,U,U,S,U,_,_,U,U,a,b,c,d,h+1,U,by lia,q⟩
end
end Aj
set_option maxRecDepth 10000
namespace Pq
open L2 (Sz)
def Pos (t r:Int):Prop:=(0<t/\2*r*r<t*t)\/(0<r/\t*t<2*r*r)
theorem xP:∀(n:Nat) (a b:Int),b.natAbs<n->a*a=2*b*b->a=0/\b=0
 | 0,_,_,h,_=>by lia
 | n+1,a,b,h,e=>by
  by_cases hb:b=0
  ·subst hb;have j:a*a=0:=by simpa using e
   exact⟨(QT.mp j).elim id id,U⟩
  ·have e2:a%2=0:=by
    rcases ZX a with h0 | h1
    ·exact h0
    ·exfalso;have:(a*a)%2=1:=by rw[Int.mul_emod,h1];rfl
     rw[e,RX]at this;lia
   obtain⟨c,rfl⟩:∃c,a=2*c:=⟨a / 2,by lia⟩;have g:b*b=2*c*c:=by grind
   have i:c.natAbs<b.natAbs:=by
    have h1:b.natAbs*b.natAbs=2*(c.natAbs*c.natAbs):=by
     have:=congrArg Int.natAbs g;rw[Jd,RX,Jd,Jd]at this;simpa using this
    have f:0<b.natAbs:=by lia
    apply Nat.lt_of_not_le;intro d;have h2:b.natAbs*b.natAbs<=c.natAbs*c.natAbs:=Nat.mul_le_mul d d;have k:0<b.natAbs*b.natAbs:=Nat.mul_pos f f;lia
   have:=xP n b c (by lia) g;exact absurd this.1 hb
variable{a b:Int}
theorem KQ(e:a*a=2*b*b):a=0/\b=0:=xP _ a b (Oh _) e
theorem oG{u v:Int}(hu:0<u)(h:v*v<u*u):0<u+v:=by
 apply Int.lt_of_not_ge;intro a;have h1:0<=-v-u:=by lia
 have h2:0<=(-v-u)*(-v+u):=QS h1 (by lia);grind
variable{t r:Int}
theorem Pos.tri(h:¬ (t=0/\r=0)):Pos t r\/Pos (-t) (-r):=by
 have a:t*t≠2*r*r:=λe=>h (KQ e);unfold Pos;have e1:-t*-t=t*t:=by grind
 have e2:2*-r*-r=2*r*r:=by grind
 rw[e1,e2];rcases Int.lt_or_gt_of_ne a with hlt | hgt
 ·have:r≠0:=by
   rintro rfl;have:0<=t*t:=by
    rcases TX 0 t with h | h
    ·exact QS h h
    ·exact Zq h h
   lia
  lia
 ·have:t≠0:=by
   rintro rfl;have:0<=2*r*r:=by
    rcases TX 0 r with h | h
    ·exact QS (by lia) h
    ·exact Zq (by lia) h
   lia
  lia
theorem Pos.not_both(h:Pos t r)(h':Pos (-t) (-r)):False:=by
 unfold Pos at h h';have e1:-t*-t=t*t:=by grind
 have e2:2*-r*-r=2*r*r:=by grind
 rw[e1,e2]at h';lia
theorem Pos.zero:¬ Pos 0 0:=by unfold Pos;lia
theorem u9{u v:Int}(hu:0<u)(h:v*v<u*u):0<u+v/\0<u-v:=by
 constructor
 ·exact oG hu h
 ·have:=oG (v:=-v) hu (by grind);lia
theorem J_(a:Int):0<=a*a:=by
 rcases TX 0 a with h | h
 ·exact QS h h
 ·exact Zq h h
variable{c d:Int}
theorem X7(ha:0<a)(hc:0<c)(h1:2*b*b<a*a)(h2:2*d*d<c*c):0<a*c+2*b*d/\0<a*c-2*b*d:=by
 have e:0<a*c:=JH ha hc;have f:0<(a*a-2*b*b)*(c*c):=JH (by lia) (JH hc hc);have p2:0<=(b*b)*(c*c-2*d*d):=QS (J_ b) (by lia);exact u9 e (by grind)
theorem X6(hb:0<b)(hd:0<d)(h1:a*a<2*b*b)(h2:c*c<2*d*d):0<2*b*d+a*c/\0<2*b*d-a*c:=by
 have e:0<2*b*d:=JH (by lia) hd;have f:0<(2*b*b-a*a)*(d*d):=JH (by lia) (JH hd hd);have p2:0<=(a*a)*(2*d*d-c*c):=QS (J_ a) (by lia);exact u9 e (by grind)
theorem X5(ha:0<a)(hd:0<d)(h1:2*b*b<a*a)(h2:c*c<2*d*d):0<a*d+b*c:=by
 have e:0<a*d:=JH ha hd;have f:0<(a*a-2*b*b)*(d*d):=JH (by lia) (JH hd hd);have p2:0<=(b*b)*(2*d*d-c*c):=QS (J_ b) (by lia);exact oG e (by grind)
theorem Pos.mul(x:Pos a b)(y:Pos c d):Pos (a*c+2*b*d) (a*d+b*c):=by
 rcases x with ⟨ha,n1⟩ | ⟨hb,n1⟩
 ·rcases y with ⟨hc,n2⟩ | ⟨hd,n2⟩
  ·have p:0<(a*a-2*b*b)*(c*c-2*d*d):=JH (by lia) (by lia);exact .inl ⟨(X7 ha hc n1 n2).1,by grind⟩
  ·have p:0<(a*a-2*b*b)*(2*d*d-c*c):=JH (by lia) (by lia);exact .inr ⟨X5 ha hd n1 n2,by grind⟩
 ·rcases y with ⟨hc,n2⟩ | ⟨hd,n2⟩
  ·have p:0<(2*b*b-a*a)*(c*c-2*d*d):=JH (by lia) (by lia);have q:=X5 hc hb n2 n1;exact .inr ⟨by grind,by grind⟩
  ·have p:0<(2*b*b-a*a)*(2*d*d-c*c):=JH (by lia) (by lia);have q:=(X6 hb hd n1 n2).1;exact .inl ⟨by grind,by grind⟩
theorem xW(ha:0<a)(hc:0<c)(n1:2*b*b<a*a)(n2:2*d*d<c*c):0<a+c/\2*(b+d)*(b+d)<(a+c)*(a+c):=by
 have q:=(X7 ha hc n1 n2).2;exact⟨by lia,by grind⟩
theorem xX(hb:0<b)(hd:0<d)(n1:a*a<2*b*b)(n2:c*c<2*d*d):0<b+d/\(a+c)*(a+c)<2*(b+d)*(b+d):=by
 have q:=(X6 hb hd n1 n2).2;exact⟨by lia,by grind⟩
theorem xV(ha:0<a)(n1:2*b*b<a*a)(hd:0<d)(n2:c*c<2*d*d):Pos (a+c) (b+d):=by
 have e:¬ (a+c=0/\b+d=0):=by
  rintro ⟨e1,e2⟩;obtain rfl:c=-a:=by lia
  obtain rfl:d=-b:=by lia
  grind
 rcases Pos.tri e with h | h
 ·exact h
 ·exfalso;rcases h with ⟨h1,h2⟩ | ⟨h1,h2⟩
  ·have:=(xW h1 ha h2 n1).2;grind
  ·have:=(xX h1 hd h2 n2).2;grind
theorem Pos.add(x:Pos a b)(y:Pos c d):Pos (a+c) (b+d):=by
 rcases x with ⟨ha,n1⟩ | ⟨hb,n1⟩
 ·rcases y with ⟨hc,n2⟩ | ⟨hd,n2⟩
  ·exact .inl (xW ha hc n1 n2)
  ·exact xV ha n1 hd n2
 ·rcases y with ⟨hc,n2⟩ | ⟨hd,n2⟩
  ·have:=xV hc n2 hb n1;rw[gw a c,gw b d];exact this
  ·exact .inr (xX hb hd n1 n2)
theorem Pos.nat{k:Int}(h:0<k):Pos k 0:=.inl ⟨h,by have:=JH h h;lia⟩
theorem Pos.mul_iff(x:Pos a b):Pos (a*c+2*b*d) (a*d+b*c)↔Pos c d:=by
 refine⟨λh=>?_,λh=>x.mul h⟩;by_cases hz:c=0/\d=0
 ·obtain⟨rfl,rfl⟩:=hz;simp at h;exact absurd h Pos.zero
 ·rcases Pos.tri hz with q | q
  ·exact q
  ·exfalso;have:=x.mul q;refine Pos.not_both h ?_;have e1:a*-c+2*b*-d=-(a*c+2*b*d):=by grind
   have e2:a*-d+b*-c=-(a*d+b*c):=by grind
   rw[e1,e2]at this;exact this
theorem Pos.scale{k:Int}(hk:0<k):Pos (k*c) (k*d)↔Pos c d:=by
 have:=Pos.mul_iff (c:=c) (d:=d) (Pos.nat hk);simpa using this
def Ly (p q n:Int):Prop:=Nat.gcd (Nat.gcd p.natAbs q.natAbs) n.natAbs=1
structure Low (t r b p q n:Int):Prop where
 ex:∃g:Int,g≠0/\t=g*p/\r=g*q/\b=g*n
 pos:0<n
 cop:Ly p q n
theorem Low.sizes{p q n:Int}(h:Low t r b p q n):p.natAbs<=t.natAbs/\q.natAbs<=r.natAbs/\n.natAbs<=b.natAbs:=by
 obtain⟨g,c,rfl,rfl,rfl⟩:=h.ex;have a:0<g.natAbs:=by lia
 refine⟨?_,?_,?_⟩<;>(rw[Jd];exact sY _ a)
theorem X2h{a b c:Nat}(h:c≠0):0<Nat.gcd (Nat.gcd a b) c:=Nat.gcd_pos_of_pos_right _ (by lia)
theorem W1i(hb:b≠0){G:Nat}(hG:G=Nat.gcd (Nat.gcd t.natAbs r.natAbs) b.natAbs){g:Int}(hg:g=if b<0 then -(G:Int) else G):
  Low t r b (t.fdiv g) (r.fdiv g) (b.fdiv g):=by
 have i:0<G:=by rw[hG];exact X2h (by lia)
 have d:g≠0:=by rw[hg];split<;>lia
 have c:g.natAbs=G:=by rw[hg];split<;>lia
 have k:g ∣ t:=Zi.mp (by rw[c,hG];exact Nat.dvd_trans (iV _ _) (iV _ _));have s:g ∣ r:=Zi.mp (by rw[c,hG];exact Nat.dvd_trans (iV _ _) (Nat.gcd_dvd_right _ _));have l:g ∣ b:=Zi.mp (by rw[c,hG];exact Nat.gcd_dvd_right _ _);obtain⟨p,hp⟩:=k;obtain⟨q,h⟩:=s;obtain⟨n,f⟩:=l;have ep:t.fdiv g=p:=by rw[hp];exact jT _ d
 have o:r.fdiv g=q:=by rw[h];exact jT _ d
 have en:b.fdiv g=n:=by rw[f];exact jT _ d
 rw[ep,o,en];refine⟨⟨g,d,hp,h,f⟩,?_,?_⟩
 ·apply Int.lt_of_not_ge;intro j;have m:n≠0:=by rintro rfl;rw[Int.mul_zero]at f;exact hb f
  by_cases hbn:b<0
  ·rw[if_pos hbn]at hg;have:=Zq (a:=g) (b:=n) (by lia) j;lia
  ·rw[if_neg hbn]at hg;have:=Int.mul_neg_of_pos_of_neg (a:=g) (b:=n) (by lia) (by lia);lia
 ·unfold Ly;have e:G*Nat.gcd (Nat.gcd p.natAbs q.natAbs) n.natAbs=G*1:=by
   rw[<-Tq,<-Tq,<-c,<-Jd,<-Jd,<-Jd,<-hp,<-h,<-f,c,ZK];exact hG.symm
  exact Nat.eq_of_mul_eq_mul_left i e
theorem X2i(t r b:Nat):Nat.gcd (Nat.gcd b r) t=Nat.gcd (Nat.gcd t r) b:=by
 rw[ZM (Nat.gcd b r) t,ZM b r,<-Nat.gcd_assoc]
theorem Low.unique{p q n p' q' n':Int}(h:0<n)(h':0<n')(c:Ly p q n)(c':Ly p' q' n')(e1:p'*n=p*n')(e2:q'*n=q*n'):p=p'/\q=q'/\n=n':=by
 have en:n.natAbs=n'.natAbs:=by
  have d:n.natAbs*Nat.gcd (Nat.gcd p'.natAbs q'.natAbs) n'.natAbs=n'.natAbs*Nat.gcd (Nat.gcd p.natAbs q.natAbs) n.natAbs:=by
   rw[<-Tq,<-Tq,<-Tq,<-Tq,<-Jd,<-Jd,<-Jd,<-Jd,<-Jd,<-Jd,
    Jc n p',Jc n q',Jc n' p,Jc n' q,e1,e2,Jc n n']
  have c1:Nat.gcd (Nat.gcd p.natAbs q.natAbs) n.natAbs=1:=c;have c2:Nat.gcd (Nat.gcd p'.natAbs q'.natAbs) n'.natAbs=1:=c';rw[c1,c2]at d;lia
 have a:n=n':=by lia
 subst a;have b:n≠0:=by lia
 exact⟨(Ka b e1).symm,(Ka b e2).symm,U⟩
end Pq
namespace Gx
open L2 Am Pq
noncomputable def tt (a b c d:Int):Int:=a*a+b*b+c*c+d*d
noncomputable def rr (a b c d:Int):Int:=a*b+b*c+c*d-d*a
theorem X9c(a b c d a' b' c' d':Int):tt (a+a') (b+b') (c+c') (d+d')+tt (a-a') (b-b') (c-c') (d-d')=2*(tt a b c d+tt a' b' c' d'):=by
 unfold tt;grind
theorem X9t(a b c d a' b' c' d':Int):rr (a+a') (b+b') (c+c') (d+d')+rr (a-a') (b-b') (c-c') (d-d')=2*(rr a b c d+rr a' b' c' d'):=by
 unfold rr;grind
theorem W3h(k a b c d:Int):tt (a*k) (b*k) (c*k) (d*k)=tt a b c d*(k*k):=by unfold tt;grind
theorem W3s(k a b c d:Int):rr (a*k) (b*k) (c*k) (d*k)=rr a b c d*(k*k):=by unfold rr;grind
theorem X9b(a b c d:Int):tt (-d) a b c=tt a b c d:=by unfold tt;grind
theorem X9s(a b c d:Int):rr (-d) a b c=rr a b c d:=by unfold rr;grind
theorem Wt(a b c d:Int):tt a b c d*tt a b c d-2*rr a b c d*rr a b c d=(a*a-c*c+2*b*d)*(a*a-c*c+2*b*d)+(2*a*c-b*b+d*d)*(2*a*c-b*b+d*d):=by
 unfold tt rr;grind
theorem LC{x:Int}(h:x*x=0):x=0:=by rcases QT.mp h with h | h<;>exact h
variable{b c d:Int}
theorem Wu{a:Int}(hA:a*a-c*c+2*b*d=0)(hB:2*a*c-b*b+d*d=0):a=0/\b=0/\c=0/\d=0:=by
 have e1:(a*b+c*d)*(a*b+c*d)=(b*c-a*d)*(b*c-a*d):=by grind
 have e2:2*(a*b+c*d)*(b*c-a*d)=(b*b+d*d)*(b*b+d*d):=by grind
 have n:0<=b*b+d*d:=Int.add_nonneg (J_ b) (J_ d);have o:(2*(a*b+c*d)*(a*b+c*d))*(2*(a*b+c*d)*(a*b+c*d))=((b*b+d*d)*(b*b+d*d))*((b*b+d*d)*(b*b+d*d)):=by
  rw[<-e2];have:(2*(a*b+c*d)*(a*b+c*d))*(2*(a*b+c*d)*(a*b+c*d))=4*((a*b+c*d)*(a*b+c*d))*((a*b+c*d)*(a*b+c*d)):=by grind
  rw[this];have h2:2*(a*b+c*d)*(b*c-a*d)*(2*(a*b+c*d)*(b*c-a*d))=4*((a*b+c*d)*(a*b+c*d))*((b*c-a*d)*(b*c-a*d)):=by grind
  rw[h2,<-e1]
 have k:0<=2*(a*b+c*d)*(a*b+c*d):=by
  have:=J_ (a*b+c*d);have e:2*(a*b+c*d)*(a*b+c*d)=2*((a*b+c*d)*(a*b+c*d)):=by grind
  rw[e];omega
 have l:0<=(b*b+d*d)*(b*b+d*d):=J_ _;have j:(b*b+d*d)*(b*b+d*d)=2*(a*b+c*d)*(a*b+c*d):=by
  generalize 2*(a*b+c*d)*(a*b+c*d)=u at *;generalize (b*b+d*d)*(b*b+d*d)=v at *;rcases Int.lt_trichotomy u v with h | h | h
  ·have h1:u*u<=u*v:=uG (Int.le_of_lt h) k;have h2:u*v<v*v:=uF h (by omega);omega
  ·exact h.symm
  ·have h1:v*v<=v*u:=uG (Int.le_of_lt h) l;have h2:v*u<u*u:=uF h (by omega);omega
 have r:=KQ j;have hb:=J_ b;have hd:=J_ d;have m:b=0:=LC (by omega);have i:d=0:=LC (by omega);subst m i;have f:a*c=0:=by grind
 have g:a*a=c*c:=by grind
 rcases QT.mp f with h | h
 ·subst h;exact⟨U,U,LC (by omega),U⟩
 ·subst h;exact⟨LC (by omega),U,U,U⟩
theorem Y7e{a:Int}(h:¬ (a=0/\b=0/\c=0/\d=0)):Pos (tt a b c d) (rr a b c d):=by
 have n:=Wt a b c d;have j:=J_ (a*a-c*c+2*b*d);have k:=J_ (2*a*c-b*b+d*d);have g:=J_ a;have m:=J_ b;have l:=J_ c;have i:=J_ d;have tpos:0<tt a b c d:=by
  unfold tt;apply Classical.byContradiction;intro e;exact h ⟨LC (by omega),LC (by omega),LC (by omega),LC (by omega)⟩
 refine .inl ⟨tpos,?_⟩;apply Classical.byContradiction;intro e;generalize hX:a*a-c*c+2*b*d=X at *;generalize hY:2*a*c-b*b+d*d=Y at *;have x0:X=0:=LC (by omega);have f:Y=0:=LC (by omega);subst x0 f;exact h (Wu hX hY)
theorem p2p(h:Int):0<p2 h:=by unfold p2;exact ZF (by decide)
theorem can{k x y:Int}(hk:k≠0)(h:k*x=k*y):x=y:=Tz hk h
theorem Low.cr{t r p q n:Int}(l:Low t r b p q n):p*b=t*n/\q*b=r*n:=by
 obtain⟨g,_,rfl,rfl,rfl⟩:=l.ex;constructor<;>grind
end Gx
namespace Hw
open L2 Am Pc Ba Pq Gx
noncomputable def BW (F:Nat->Int):Nat->Int
 | 0=>0
 | n+1=>BW F n+F n
theorem KC{F G:Nat->Int}:∀{n},(∀i,i<n->F i=G i)->BW F n=BW G n
 | 0,_=>rfl
 | n+1,h=>by
  show BW F n+F n=BW G n+G n;rw[KC λi hi=>h i (by lia),h n (by lia)]
theorem O_{F G:Nat->Int}:∀n,BW (λi=>F i+G i) n=BW F n+BW G n
 | 0=>rfl
 | n+1=>by
  show BW (λi=>F i+G i) n+(F n+G n)=(BW F n+F n)+(BW G n+G n);rw[O_ n];lia
theorem Z8{F:Nat->Int}{k:Int}:∀n,BW (λi=>k*F i) n=k*BW F n
 | 0=>by show (0:Int)=k*0;rw[Int.mul_zero]
 | n+1=>by
  show BW (λi=>k*F i) n+k*F n=k*(BW F n+F n);rw[Z8 n,Int.mul_add]
noncomputable def lsum (F:Nat->Int):List Nat->Int
 | []=>0
 | a::l=>F a+lsum F l
variable{F:Nat->Int}
theorem nR{l l':W3}(h:l.Perm l'):lsum F l=lsum F l':=by
 induction h with
 | nil=>rfl
 | cons x _ ih=>show F x+_=F x+_;rw[ih]
 | swap x y l=>show F y+(F x+lsum F l)=F x+(F y+lsum F l);lia
 | trans _ _ a b=>exact a.trans b
theorem YK{F:Nat->Int}:∀l l',lsum F (l++l')=lsum F l+lsum F l'
 | [],l'=>by show lsum F l'=0+lsum F l';lia
 | a::l,l'=>by
  show F a+lsum F (l++l')=F a+lsum F l+lsum F l';rw[YK l l'];lia
theorem SX{F:Nat->Int}:∀n,BW F n=lsum F (List.range n)
 | 0=>rfl
 | n+1=>by
  rw[Ra,YK,<-SX n];show BW F n+F n=BW F n+(F n+0);lia
theorem YL{F:Nat->Int}{t:Nat->Nat}:∀l,lsum (λi=>F (t i)) l=lsum F (l.map t)
 | []=>rfl
 | a::l=>by
  show F (t a)+_=F (t a)+_;rw[YL l]
theorem Yc{t:Nat->Nat}:∀{l:W3},(∀a∈l,∀b∈l,t a=t b->a=b)->l.Nodup->(l.map t).Nodup
 | [],_,_=>List.nodup_nil
 | a::l,h,d=>by
  rw[Ez,La];have d':=La.mp d;refine⟨λg=>?_,Yc (λx f y c=>h x (.tail _ f) y (.tail _ c)) d'.2⟩;obtain⟨b,hb,e⟩:=Ej.mp g;have:=h b (.tail _ hb) a (.head _) e;subst this;exact d'.1 hb
variable{n:Nat}{t:Nat->Nat}
theorem qI(h1:∀i,i<n->t i<n)(h2:∀i,i<n->t (t i)=i):((List.range n).map t).Perm (List.range n):=by
 rw[List.perm_iff_count];intro a;have d:(List.range n).Nodup:=List.nodup_range
 have d2:((List.range n).map t).Nodup:=Yc (λx g y f e=>by
  have:=h2 x (Ek.mp g)
  rw[e,h2 y (Ek.mp f)]at this
  exact this.symm) d
 rw[d.count,d2.count];have:a∈(List.range n).map t↔a∈List.range n:=by
  rw[Ej,Ek];constructor
  ·rintro ⟨b,hb,rfl⟩;exact h1 b (Ek.mp hb)
  ·intro c;exact⟨t a,Ek.mpr (h1 a c),h2 a c⟩
 by_cases q:a∈List.range n
 ·rw[if_pos (this.mpr q),if_pos q]
 ·rw[if_neg (λz=>q (this.mp z)),if_neg q]
theorem PB(h1:∀i,i<n->t i<n)(h2:∀i,i<n->t (t i)=i):BW (λi=>F (t i)) n=BW F n:=by
 rw[SX,SX,YL];exact nR (qI h1 h2)
noncomputable def va (x:A5)(M:Int):Int:=x.1.1*p2 (M-x.2)
noncomputable def vb (x:A5)(M:Int):Int:=x.1.2.1*p2 (M-x.2)
noncomputable def vc (x:A5)(M:Int):Int:=x.1.2.2.1*p2 (M-x.2)
noncomputable def vd (x:A5)(M:Int):Int:=x.1.2.2.2*p2 (M-x.2)
noncomputable def BP (x:A5)(M:Int):Int:=tt (va x M) (vb x M) (vc x M) (vd x M)
noncomputable def Al (x:A5)(M:Int):Int:=rr (va x M) (vb x M) (vc x M) (vd x M)
theorem M8(x:A5)(M:Int):BP x M=tt x.1.1 x.1.2.1 x.1.2.2.1 x.1.2.2.2*(p2 (M-x.2)*p2 (M-x.2)):=W3h _ _ _ _ _
theorem R7(x:A5)(M:Int):Al x M=rr x.1.1 x.1.2.1 x.1.2.2.1 x.1.2.2.2*(p2 (M-x.2)*p2 (M-x.2)):=W3s _ _ _ _ _
theorem VB{v:Int×Int×Int×Int}{h M:Int}:∀j,BP (Ba.BK j v,h) M=BP (v,h) M/\Al (Ba.BK j v,h) M=Al (v,h) M
 | 0=>⟨rfl,rfl⟩
 | j+1=>by
  obtain⟨a,b⟩:=VB (v:=v) (h:=h) (M:=M) j;rw[<-a,<-b,M8,M8,R7,R7];exact⟨congrArg (·*_) (X9b _ _ _ _),congrArg (·*_) (X9s _ _ _ _)⟩
variable{M:Int}
theorem Gq{x:A5}{k:Int}:BP (Ba.Az x k) M=BP x M/\Al (Ba.Az x k) M=Al x M:=VB _
variable{N:Int}
theorem zQ{x:A5}(h:x.2<=M)(h':M<=N):BP x N=(p2 (N-M)*p2 (N-M))*BP x M/\Al x N=(p2 (N-M)*p2 (N-M))*Al x M:=by
 have e:p2 (N-x.2)=p2 (N-M)*p2 (M-x.2):=by
  rw[<-JQ (by lia) (by lia)];congr 1;lia
 rw[M8,M8,R7,R7,e];constructor<;>grind
noncomputable def Bw (f:Nat->A5)(n:Nat)(M:Int):Int:=BW (λw=>BP (f w) M) n
noncomputable def BZ (f:Nat->A5)(n:Nat)(M:Int):Int:=BW (λw=>Al (f w) M) n
variable{f:Nat->A5}
theorem W3p(h:∀w,w<n->(f w).2<=M)(h':M<=N):Bw f n N=(p2 (N-M)*p2 (N-M))*Bw f n M/\BZ f n N=(p2 (N-M)*p2 (N-M))*BZ f n M:=by
 unfold Bw BZ;rw[<-Z8,<-Z8];exact⟨KC λi hi=>(zQ (h i hi) h').1,KC λi hi=>(zQ (h i hi) h').2⟩
def Ij (f:Nat->A5)(n:Nat)(x y z M:Int):Prop:=x*(p2 M*p2 M)=Bw f n M*z/\y*(p2 M*p2 M)=BZ f n M*z
structure He (f:Nat->A5) (n:Nat) (x y z:Int):Prop where
 pos:0<z
 cop:Ly x y z
 eq:∀M,0<=M->(∀w,w<n->(f w).2<=M)->Ij f n x y z M
theorem Ij.move{x y z:Int}(h0:0<=M)(h:∀w,w<n->(f w).2<=M)(h':M<=N):Ij f n x y z M↔Ij f n x y z N:=by
 obtain⟨e1,e2⟩:=W3p h h';have e:p2 N=p2 (N-M)*p2 M:=by rw[<-JQ (by lia) h0];congr 1;lia
 have c:p2 (N-M)*p2 (N-M)≠0:=RZ (Gw _) (Gw _);unfold Ij;rw[e1,e2,e];generalize p2 (N-M)=q at *;constructor
 ·rintro ⟨a,b⟩;constructor<;>grind
 ·rintro ⟨a,b⟩;constructor
  ·apply can c;grind
  ·apply can c;grind
theorem He.of{x y z:Int}(pos:0<z)(cop:Ly x y z)(h0:0<=M)(h:∀w,w<n->(f w).2<=M)(e:Ij f n x y z M):He f n x y z:=by
 refine⟨pos,cop,λN b a=>?_⟩;rcases TX M N with l | l
 ·exact(Ij.move h0 h l).mp e
 ·exact(Ij.move b a l).mpr e
theorem bound{f:Nat->A5}:∀n:Nat,∃M:Int,0<=M/\∀w,w<n->(f w).2<=M
 | 0=>⟨0,Ku 0,λw h=>absurd h (Js w)⟩
 | n+1=>by
  obtain⟨M,b,h⟩:=bound (f:=f) n;refine⟨max M (f n).2,by lia,λw a=>?_⟩;by_cases e:w=n
  ·subst e;lia
  ·have:=h w (by lia);lia
theorem W3q{g:Nat->A5}{k:Nat->Int}(h1:∀i,i<n->t i<n)(h2:∀i,i<n->t (t i)=i)(e:∀i,i<n->g i=Az (f (t i)) (k i))(M:Int):Bw g n M=Bw f n M/\BZ g n M=BZ f n M:=by
 unfold Bw BZ
 rw[KC (F:=λw=>BP (g w) M) (G:=λw=>BP (f (t w)) M) λi hi=>by rw[e i hi];exact Gq.1,
  KC (F:=λw=>Al (g w) M) (G:=λw=>Al (f (t w)) M) λi hi=>by rw[e i hi];exact Gq.2]
 exact⟨PB (F:=λw=>BP (f w) M) h1 h2,PB (F:=λw=>Al (f w) M) h1 h2⟩
end Hw
namespace Lk
open L2 Am Pc Ba Pq Gx Hw
abbrev V4:=Int×Int×Int×Int
variable{v:V4}
theorem Ia{u:V4}(h1:u.1=v.1)(h2:u.2.1=v.2.1)(h3:u.2.2.1=v.2.2.1)(h4:u.2.2.2=v.2.2.2):u=v:=by
 obtain⟨a,b,c,d⟩:=u;obtain⟨a',b',c',d'⟩:=v;simp only at h1 h2 h3 h4;subst h1 h2 h3 h4;rfl
noncomputable def add (u v:V4):V4:=(u.1+v.1,u.2.1+v.2.1,u.2.2.1+v.2.2.1,u.2.2.2+v.2.2.2)
noncomputable def sm (k:Int)(v:V4):V4:=(k*v.1,k*v.2.1,k*v.2.2.1,k*v.2.2.2)
noncomputable def vec (x:A5)(M:Int):V4:=(va x M,vb x M,vc x M,vd x M)
abbrev Fg (x:A5):Prop:=G5 x.1.1 x.1.2.1 x.1.2.2.1 x.1.2.2.2 x.2
noncomputable abbrev nought:A5:=((0,0,0,0),0)
theorem Qu(u v:V4):∀k,BK k (add u v)=add (BK k u) (BK k v)
 | 0=>rfl
 | k+1=>by
  show (-(BK k (add u v)).2.2.2,(BK k (add u v)).1,(BK k (add u v)).2.1,(BK k (add u v)).2.2.1)=_;rw[Qu u v k];refine Ia ?_ rfl rfl rfl;show -((BK k u).2.2.2+(BK k v).2.2.2)=-(BK k u).2.2.2+-(BK k v).2.2.2;lia
theorem Ym(c:Int)(v:V4):∀k,BK k (sm c v)=sm c (BK k v)
 | 0=>rfl
 | k+1=>by
  show (-(BK k (sm c v)).2.2.2,(BK k (sm c v)).1,(BK k (sm c v)).2.1,(BK k (sm c v)).2.2.1)=_;rw[Ym c v k];refine Ia ?_ rfl rfl rfl;show -(c*(BK k v).2.2.2)=c*-(BK k v).2.2.2;rw[Int.mul_neg]
theorem Um(v:V4)(j:Nat):∀i,BK i (BK j v)=BK (i+j) v
 | 0=>by rw[Jr];rfl
 | i+1=>by
  rw[show i+1+j=(i+j)+1 by lia];show (-(BK i (BK j v)).2.2.2,(BK i (BK j v)).1,(BK i (BK j v)).2.1,(BK i (BK j v)).2.2.1)=_;rw[Um v j i];rfl
theorem qQ(v:V4):BK 4 v=sm (-1) v:=by
 refine Ia ?_ ?_ ?_ ?_<;>simp[BK,sm]
theorem W7b(v:V4):BK 8 v=v:=by
 rw[show 8=4+4 from rfl,<-Um,qQ,qQ];refine Ia ?_ ?_ ?_ ?_<;>simp[sm]
theorem Qv(v:V4)(k:Nat):BK (k%8) v=BK k v:=by
 have:∀q r,BK (r+8*q) v=BK r v:=by
  intro q;induction q with
  | zero=>intro r;rfl
  | succ q ih =>
   intro r;rw[show r+8*(q+1)=(r+8*q)+8 by lia,<-Um,W7b,ih]
 have e:=this (k / 8) (k%8);rw[show k%8+8*(k / 8)=k by lia]at e;exact e.symm
theorem zu{j k:Nat}(h:j%8=k%8):BK j v=BK k v:=by rw[<-Qv v j,h,Qv]
theorem vg{v:V4}{h M:Int}:∀k,vec (BK k v,h) M=BK k (vec (v,h) M)
 | 0=>rfl
 | k+1=>by
  show vec ((-(BK k v).2.2.2,(BK k v).1,(BK k v).2.1,(BK k v).2.2.1),h) M=(-(BK k (vec (v,h) M)).2.2.2,(BK k (vec (v,h) M)).1,(BK k (vec (v,h) M)).2.1,(BK k (vec (v,h) M)).2.2.1);rw[<-vg k];refine Ia ?_ rfl rfl rfl;show -(BK k v).2.2.2*p2 (M-h)=-((BK k v).2.2.2*p2 (M-h));rw[TV]
variable{x:A5}{M:Int}
theorem Qz(k:Nat):vec (Az x k) M=BK k (vec x M):=by
 show vec (BK ((k:Int)%8).toNat x.1,x.2) M=_;rw[vg,show ((k:Int)%8).toNat=k%8 by lia,Qv]
variable{y:A5}
theorem X4c(hx0:0<=x.2)(hy0:0<=y.2)(hx:x.2<=M)(hy:y.2<=M)(e:vec x M=vec y M):Ca x.1.1 x.1.2.1 x.1.2.2.1 x.1.2.2.2 x.2 y.1.1 y.1.2.1 y.1.2.2.1 y.1.2.2.2 y.2:=by
 have k:∀{a b:Int},a*p2 (M-x.2)=b*p2 (M-y.2)->FZ a x.2 b y.2:=λ{a b} q=>by
  unfold FZ;have e1:=Kg hx0 hx;have e2:=Kg hy0 hy;apply Ka (Gw M);have c:a*p2 y.2*p2 M=(a*p2 (M-x.2))*(p2 x.2*p2 y.2):=by rw[e1];grind
  have d:b*p2 x.2*p2 M=(b*p2 (M-y.2))*(p2 x.2*p2 y.2):=by rw[e2];grind
  rw[c,d,q]
 exact⟨k (congrArg (λt:V4=>t.1) e),k (congrArg (λt:V4=>t.2.1) e),k (congrArg (λt:V4=>t.2.2.1) e),k (congrArg (λt:V4=>t.2.2.2) e)⟩
theorem _M(hx0:0<=x.2)(hy0:0<=y.2)(hx:x.2<=M)(hy:y.2<=M)(s:Ca x.1.1 x.1.2.1 x.1.2.2.1 x.1.2.2.2 x.2 y.1.1 y.1.2.1 y.1.2.2.1 y.1.2.2.2 y.2):vec x M=vec y M:=by
 have k:∀{a b:Int},FZ a x.2 b y.2->a*p2 (M-x.2)=b*p2 (M-y.2):=λ{a b} q=>by
  unfold FZ at q;have e1:=Kg hx0 hx;have e2:=Kg hy0 hy;apply Ka (RZ (Gw x.2) (Gw y.2));have c:a*p2 (M-x.2)*(p2 x.2*p2 y.2)=(a*p2 y.2)*p2 M:=by rw[e1];grind
  have d:b*p2 (M-y.2)*(p2 x.2*p2 y.2)=(b*p2 x.2)*p2 M:=by rw[e2];grind
  rw[c,d,q]
 exact Ia (k s.e1) (k s.e2) (k s.e3) (k s.e4)
theorem UL(h:x.1.1=y.1.1/\x.1.2.1=y.1.2.1/\x.1.2.2.1=y.1.2.2.1/\x.1.2.2.2=y.1.2.2.2/\x.2=y.2):x=y:=by
 obtain⟨⟨a,b,c,d⟩,h1⟩:=x;obtain⟨⟨a',b',c',d'⟩,h2⟩:=y;obtain⟨rfl,rfl,rfl,rfl,rfl⟩:=h;rfl
theorem R5(ax:Fg x)(ay:Fg y)(hx:x.2<=M)(hy:y.2<=M)(e:vec x M=vec y M):x=y:=UL (ax.unique ay (X4c ax.nn ay.nn hx hy e))
theorem Y7h(a:Fg x):vec x M=(0,0,0,0)↔x=nought:=by
 constructor
 ·intro e;have n:=Gw (M-x.2);have z:∀{t:Int},t*p2 (M-x.2)=0->t=0:=λ{t} h=>by
   rcases QT.mp h with q | q
   ·exact q
   ·exact absurd q n
  have e1:=z (congrArg (λt:V4=>t.1) e);have e2:=z (congrArg (λt:V4=>t.2.1) e);have c:=z (congrArg (λt:V4=>t.2.2.1) e);have b:=z (congrArg (λt:V4=>t.2.2.2) e);have o:=a.odd;exact UL ⟨e1,e2,c,b,by show x.2=0;lia⟩
 ·rintro rfl;refine Ia ?_ ?_ ?_ ?_<;>simp[vec,va,vb,vc,vd]
theorem yp{v:V4}{h:Int}(a:Fg (v,h)):∀k,Fg (BK k v,h)
 | 0=>a
 | k+1=>by
  have r:=yp a k;have o:h=0\/(BK k v).1%2=1\/(BK k v).2.1%2=1\/(BK k v).2.2.1%2=1\/(BK k v).2.2.2%2=1:=r.odd;refine⟨r.nn,?_⟩;show h=0\/(-(BK k v).2.2.2)%2=1\/(BK k v).1%2=1\/(BK k v).2.1%2=1\/(BK k v).2.2.1%2=1;lia
theorem Qs{k:Int}(a:Fg x):Fg (Az x k):=yp (v:=x.1) (h:=x.2) a _
structure CN (s:Int) (x y z:A5):Prop where
 amt:Fg z
 eq:∀M,x.2<=M->y.2<=M->z.2<=M->sm 2 (vec z M)=add (vec x M) (sm s (vec y M))
theorem bI{k:Int}(h:k≠0){u:V4}(e:sm k u=sm k v):u=v:=by
 have e1:k*u.1=k*v.1:=congrArg (λt:V4=>t.1) e;have e2:k*u.2.1=k*v.2.1:=congrArg (λt:V4=>t.2.1) e;have b:k*u.2.2.1=k*v.2.2.1:=congrArg (λt:V4=>t.2.2.1) e;have a:k*u.2.2.2=k*v.2.2.2:=congrArg (λt:V4=>t.2.2.2) e;exact Ia (Tz h e1) (Tz h e2) (Tz h b) (Tz h a)
variable{z:A5}
theorem CN.unique{s:Int}{z':A5}(a:CN s x y z)(b:CN s x y z'):z=z':=by
 have k1:x.2<=max (max x.2 y.2) (max z.2 z'.2):=by lia
 have k2:y.2<=max (max x.2 y.2) (max z.2 z'.2):=by lia
 have k3:z.2<=max (max x.2 y.2) (max z.2 z'.2):=by lia
 have c:z'.2<=max (max x.2 y.2) (max z.2 z'.2):=by lia
 exact R5 a.amt b.amt k3 c (bI (by decide) ((a.eq _ k1 k2 k3).trans (b.eq _ k1 k2 c).symm))
theorem CN.of{s:Int}(am:Fg z)(x0:0<=x.2)(y0:0<=y.2)(hx:x.2<=M)(hy:y.2<=M)(hz:z.2<=M)(e:sm 2 (vec z M)=add (vec x M) (sm s (vec y M))):CN s x y z:=by
 refine⟨am,λN nx n nz=>?_⟩;have up:∀{t:A5}{A B:Int},t.2<=A->A<=B->vec t B=sm (p2 (B-A)) (vec t A):=λ{t A B} h h'=>by
  have q:p2 (B-t.2)=p2 (B-A)*p2 (A-t.2):=by rw[<-JQ (by lia) (by lia)];congr 1;lia
  refine Ia ?_ ?_ ?_ ?_<;>simp only[vec,va,vb,vc,vd,sm,q]<;>grind
 have d:∀(k:Int) {a b c:V4},sm 2 a=add b (sm s c)->sm 2 (sm k a)=add (sm k b) (sm s (sm k c)):=λk {a b c} q=>by
  have j:2*a.1=b.1+s*c.1:=congrArg (λt:V4=>t.1) q;have g:2*a.2.1=b.2.1+s*c.2.1:=congrArg (λt:V4=>t.2.1) q;have m:2*a.2.2.1=b.2.2.1+s*c.2.2.1:=congrArg (λt:V4=>t.2.2.1) q;have f:2*a.2.2.2=b.2.2.2+s*c.2.2.2:=congrArg (λt:V4=>t.2.2.2) q;refine Ia ?_ ?_ ?_ ?_<;>simp only[add,sm]<;>grind
 rcases TX M N with l | l
 ·rw[up hz l,up hx l,up hy l];exact d _ e
 ·rw[up nz l,up nx l,up n l]at e;have i:=Gw (M-N);apply bI i;have j:2*(p2 (M-N)*(vec z N).1)=p2 (M-N)*(vec x N).1+s*(p2 (M-N)*(vec y N).1):=congrArg (λt:V4=>t.1) e;have g:2*(p2 (M-N)*(vec z N).2.1)=p2 (M-N)*(vec x N).2.1+s*(p2 (M-N)*(vec y N).2.1):=congrArg (λt:V4=>t.2.1) e;have m:2*(p2 (M-N)*(vec z N).2.2.1)=p2 (M-N)*(vec x N).2.2.1+s*(p2 (M-N)*(vec y N).2.2.1):=congrArg (λt:V4=>t.2.2.1) e;have f:2*(p2 (M-N)*(vec z N).2.2.2)=p2 (M-N)*(vec x N).2.2.2+s*(p2 (M-N)*(vec y N).2.2.2):=congrArg (λt:V4=>t.2.2.2) e;refine Ia ?_ ?_ ?_ ?_<;>simp only[add,sm]<;>grind
theorem Pb(a b:Int)(v:V4):sm a (sm b v)=sm (a*b) v:=by
 refine Ia ?_ ?_ ?_ ?_<;>simp only[sm,RX]
theorem Ry(v:V4):sm 1 v=v:=by refine Ia ?_ ?_ ?_ ?_<;>simp only[sm,QJ]
theorem W3l(k:Int)(u v:V4):sm k (add u v)=add (sm k u) (sm k v):=by refine Ia ?_ ?_ ?_ ?_<;>simp only[sm,add,Int.mul_add]
theorem add_comm(u v:V4):add u v=add v u:=by refine Ia ?_ ?_ ?_ ?_<;>simp only[add,gw]
noncomputable def Ar (q fl s:Nat)(f:Nat->A5):Nat->A5:=λv=>Az (f (v^^^fl)) (2*q+4*pc ((v^^^fl)&&&s))
noncomputable def tn (q fl s v:Nat):Nat:=2*q+4*pc ((v^^^fl)&&&s)
variable{s v:Nat}{f:Nat->A5}
theorem Z9{q fl:Nat}:vec (Ar q fl s f v) M=BK (tn q fl s v) (vec (f (v^^^fl)) M):=by
 have e:(2*(q:Int)+4*(pc ((v^^^fl)&&&s):Int))=((tn q fl s v:Nat):Int):=by unfold tn;lia
 show vec (Az (f (v^^^fl)) (2*(q:Int)+4*(pc ((v^^^fl)&&&s):Int))) M=_;rw[e,Qz]
theorem zJ{q fl:Nat}:(Ar q fl s f v).2=(f (v^^^fl)).2:=rfl
theorem Nz(x y:Nat):(x^^^y)^^^y=x:=by rw[E_,HW,Nh]
theorem X9d{q fl:Nat}(h:(q+pc (fl&&&s))%2=0)(v:Nat):(tn q fl s v+tn q fl s (v^^^fl))%8=0:=by
 unfold tn;rw[Nz];have e:pc ((v^^^fl)&&&s)%2=(pc (v&&&s)+pc (fl&&&s))%2:=by rw[Rk];exact Jw _ _
 lia
def Bl (q fl s:Nat)(o:Int)(n:Nat)(f g:Nat->A5):Prop:=∀v,v<n->CN o (f v) (Ar q fl s f v) (g v)
noncomputable def sg (o:Nat):Int:=1-2*o
variable{o:Nat}
theorem W3n(h:o<2):sg o*sg o=1:=by
 rcases (show o=0\/o=1 by lia) with rfl | rfl<;>decide
theorem bG(h:o<2)(v:V4):BK (4*o) v=sm (sg o) v:=by
 rcases (show o=0\/o=1 by lia) with rfl | rfl
 ·exact(Ry v).symm
 ·exact qQ v
theorem Bl.laid{q fl c:Nat}{g:Nat->A5}(ev:(q+pc (fl&&&s))%2=0)(ho:o<2)(hf:fl<2^c)(H:Bl q fl s (sg o) (2^c) f g)(hv:v<2^c):Ar q fl s g v=Az (g v) (4*o:Nat):=by
 have d:v^^^fl<2^c:=Ug hv hf;have A:=H v hv;have B:=H (v^^^fl) d;obtain⟨M,h1,h2,a,b⟩:∃M,(f v).2<=M/\(f (v^^^fl)).2<=M/\(g v).2<=M/\(g (v^^^fl)).2<=M:=⟨max (max (f v).2 (f (v^^^fl)).2) (max (g v).2 (g (v^^^fl)).2),by lia,by lia,by lia,by lia⟩;have e:=A.eq M h1 h2 a;have h:=B.eq M h2 (by rw[zJ,Nz];exact h1) b;refine R5 (Qs B.amt) (Qs A.amt) b a (bI (k:=2) (by decide) ?_);show sm 2 (vec (Ar q fl s g v) M)=_;rw[Z9,Qz,bG ho,<-Ym,h,Pb,Jc 2,<-Pb,e,Qu,Ym,Z9,Z9,Nz,Um,W3l,Pb,W3n ho,Ry,zu (j:=tn q fl s v+tn q fl s (v^^^fl)) (k:=0) (X9d ev v),add_comm];rfl
theorem nJ(ho:o<2)(ax:Fg x)(ay:Fg y)(a:CN (sg o) x y z):z=nought↔y=Az x (4*(1-o):Nat):=by
 obtain⟨M,h1,h2,d⟩:∃M,x.2<=M/\y.2<=M/\z.2<=M:=⟨max (max x.2 y.2) z.2,by lia,by lia,by lia⟩;have e:=a.eq M h1 h2 d;have r:vec (Az x (4*(1-o):Nat)) M=sm (sg (1-o)) (vec x M):=by rw[Qz,bG (by lia)]
 rw[<-Y7h (M:=M) a.amt];have b:∀{t v w:Int},2*t=v+sg o*w->(t=0↔w=sg (1-o)*v):=λ{t v w} h=>by
  rcases (show o=0\/o=1 by lia) with rfl | rfl
  ·show _↔w=sg 1*v;have h:2*t=v+1*w:=h;show _↔w=-1*v;lia
  ·show _↔w=sg 0*v;have h:2*t=v+-1*w:=h;show _↔w=1*v;lia
 have k1:=b (congrArg (λt:V4=>t.1) e);have k2:=b (congrArg (λt:V4=>t.2.1) e);have k3:=b (congrArg (λt:V4=>t.2.2.1) e);have c:=b (congrArg (λt:V4=>t.2.2.2) e);constructor
 ·intro z0;refine R5 ay (Qs ax) h2 h1 (M:=M) ?_;rw[r];exact Ia (k1.mp (congrArg (λt:V4=>t.1) z0)) (k2.mp (congrArg (λt:V4=>t.2.1) z0)) (k3.mp (congrArg (λt:V4=>t.2.2.1) z0)) (c.mp (congrArg (λt:V4=>t.2.2.2) z0))
 ·intro f;rw[<-f]at r;exact Ia (k1.mpr (congrArg (λt:V4=>t.1) r)) (k2.mpr (congrArg (λt:V4=>t.2.1) r)) (k3.mpr (congrArg (λt:V4=>t.2.2.1) r)) (c.mpr (congrArg (λt:V4=>t.2.2.2) r))
end Lk
namespace Lq
open L2 Am Pc Ba Pq Gx Hw Lk
variable{M:Int}
theorem Mt:BP nought M=0/\Al nought M=0:=by
 rw[M8,R7];constructor<;>simp[tt,rr]
theorem W7i{x:A5}(a:Fg x)(nz:x≠nought):Pos (BP x M) (Al x M):=by
 rw[M8,R7,Jc,Jc (rr _ _ _ _),Pos.scale (JH (Oz _) (Oz _))];refine Y7e λh=>nz ?_;have o:=a.odd;obtain⟨h1,h2,b,c⟩:=h;exact Lk.UL ⟨h1,h2,b,c,by show x.2=0;lia⟩
theorem bH{f:Nat->A5}{M:Int}:∀n:Nat,(∀w,w<n->Fg (f w))->(Bw f n M=0/\BZ f n M=0/\∀w,w<n->f w=nought)\/(Pos (Bw f n M) (BZ f n M)/\∃w,w<n/\f w≠nought)
 | 0,_=>.inl ⟨rfl,rfl,λw h=>absurd h (Js w)⟩
 | n+1,h=>by
  have g:=bH (f:=f) (M:=M) n λw d=>h w (by lia);have e1:Bw f (n+1) M=Bw f n M+BP (f n) M:=rfl;have e2:BZ f (n+1) M=BZ f n M+Al (f n) M:=rfl;rw[e1,e2];by_cases z:f n=nought
  ·rw[z,Mt.1,Mt.2,g_,g_];rcases g with ⟨a,b,c⟩ | ⟨a,w,d,nw⟩
   ·refine .inl ⟨a,b,λw d=>?_⟩;by_cases e:w=n
    ·rw[e];exact z
    ·exact c w (by lia)
   ·exact .inr ⟨a,w,by lia,nw⟩
  ·have p:=W7i (M:=M) (h n (by lia)) z;rcases g with ⟨a,b,c⟩ | ⟨a,w,d,nw⟩
   ·rw[a,b,LQ,LQ];exact .inr ⟨p,n,by lia,z⟩
   ·exact .inr ⟨a.add p,n,by lia,z⟩
variable{f:Nat->A5}{n:Nat}
theorem qR(h:∀w,w<n->Fg (f w))(nz:∃w,w<n/\f w≠nought):Pos (Bw f n M) (BZ f n M):=by
 rcases bH (M:=M) n h with ⟨_,_,c⟩ | ⟨p,_⟩
 ·obtain⟨w,a,b⟩:=nz;exact absurd (c w a) b
 ·exact p
theorem W3w{t r:Int}(p:Pos t r):t*t-2*r*r≠0:=λe=>by
 obtain⟨rfl,rfl⟩:=KQ (show t*t=2*r*r by lia);exact Pos.zero p
def Ss (f g:Nat->A5)(n:Nat)(x y z M:Int):Prop:=Bw g n M*z=x*Bw f n M+2*y*BZ f n M/\BZ g n M*z=x*BZ f n M+y*Bw f n M
structure Sh (f g:Nat->A5) (n:Nat) (x y z:Int):Prop where
 pos:0<z
 cop:Ly x y z
 eq:∃M0,∀M,M0<=M->Ss f g n x y z M
def rF (p q n p' q' n' x y z:Int):Prop:=0<z/\Ly x y z/\p*(z*n')=(x*p'+2*y*q')*n/\q*(z*n')=(x*q'+y*p')*n
variable{g:Nat->A5}{x y z:Int}
theorem Sh.of{ux uy uz hx hy hz:Int}(hu:He g n ux uy uz)(hh:He f n hx hy hz)(o:rF ux uy uz hx hy hz x y z):Sh f g n x y z:=by
 obtain⟨z0,co,e1,e2⟩:=o;obtain⟨h,l,i⟩:=bound (f:=f) n;obtain⟨k,p,j⟩:=bound (f:=g) n;refine⟨z0,co,max h k,λM r=>?_⟩;obtain⟨c1,c2⟩:=hu.eq M (by lia) λw a=>by have:=j w a;lia
 obtain⟨d1,d2⟩:=hh.eq M (by lia) λw a=>by have:=i w a;lia
 have m:p2 M*p2 M≠0:=RZ (Gw _) (Gw _);have e:uz*hz≠0:=RZ (by have:=hu.pos;lia) (by have:=hh.pos;lia);unfold Ss;generalize Bw g n M=Tg at *;generalize BZ g n M=Rg at *;generalize Bw f n M=Tf at *;generalize BZ f n M=Rf at *;generalize p2 M*p2 M=q at *;constructor
 ·apply can e;have b:uz*hz*(Tg*z)=(Tg*uz)*(z*hz):=by grind
  have d:uz*hz*(x*Tf+2*y*Rf)=(x*(Tf*hz)+2*y*(Rf*hz))*uz:=by grind
  rw[b,d,<-c1,<-d1,<-d2];have c:ux*q*(z*hz)=q*(ux*(z*hz)):=by grind
  rw[c,e1];grind
 ·apply can e;have b:uz*hz*(Rg*z)=(Rg*uz)*(z*hz):=by grind
  have d:uz*hz*(x*Rf+y*Tf)=(x*(Rf*hz)+y*(Tf*hz))*uz:=by grind
  rw[b,d,<-c2,<-d1,<-d2];have c:uy*q*(z*hz)=q*(uy*(z*hz)):=by grind
  rw[c,e2];grind
theorem X3p{a b T R:Int}(n:T*T-2*R*R≠0)(h1:a*T+2*b*R=0)(h2:a*R+b*T=0):a=0/\b=0:=by
 constructor
 ·have:a*(T*T-2*R*R)=0:=by grind
  rcases QT.mp this with h | h
  ·exact h
  ·exact absurd h n
 ·have:b*(T*T-2*R*R)=0:=by grind
  rcases QT.mp this with h | h
  ·exact h
  ·exact absurd h n
theorem Sh.same{f' g':Nat->A5}{x' y' z':Int}(a:Sh f g n x y z)(b:Sh f' g' n x' y' z')(af:∀w,w<n->Fg (f w))(nz:∃w,w<n/\f w≠nought)(ef:∃M0,∀M,M0<=M->Bw f n M=Bw f' n M/\BZ f n M=BZ f' n M)(eg:∃M0,∀M,M0<=M->Bw g n M=Bw g' n M/\BZ g n M=BZ g' n M):x=x'/\y=y'/\z=z':=by
 obtain⟨d,e1⟩:=a.eq;obtain⟨h,e2⟩:=b.eq;obtain⟨e,o⟩:=ef;obtain⟨c,k⟩:=eg;have k1:d<=max (max d h) (max e c):=by lia
 have k2:h<=max (max d h) (max e c):=by lia
 have k3:e<=max (max d h) (max e c):=by lia
 have i:c<=max (max d h) (max e c):=by lia
 generalize max (max d h) (max e c)=M at k1 k2 k3 i;obtain⟨p,r⟩:=e1 M k1;obtain⟨j,m⟩:=e2 M k2;obtain⟨c1,c2⟩:=o M k3;obtain⟨d1,d2⟩:=k M i;have l:=W3w (qR (M:=M) af nz);rw[<-c1,<-c2,<-d1]at j;rw[<-c1,<-c2,<-d2]at m;generalize Bw g n M=Tg at *;generalize BZ g n M=Rg at *;generalize Bw f n M=Tf at *;generalize BZ f n M=Rf at *;obtain⟨s,q⟩:=X3p (a:=x*z'-x'*z) (b:=y*z'-y'*z) l (by grind) (by grind);exact Low.unique a.pos b.pos a.cop b.cop (by lia) (by lia)
theorem Sh.one:Sh f f n 1 0 1:=⟨by decide,(by unfold Ly;decide),0,λM _=>⟨by lia,by lia⟩⟩
theorem Sh.none(h:∀w,w<n->g w=nought):Sh f g n 0 0 1:=by
 have e:∀M,Bw g n M=0/\BZ g n M=0:=λM=>by
  rcases bH (f:=g) (M:=M) n (λw c=>by rw[h w c];exact⟨Ku 0,.inl rfl⟩) with ⟨a,b,_⟩ | ⟨_,w,c,nw⟩
  ·exact⟨a,b⟩
  ·exact absurd (h w c) nw
 exact⟨by decide,(by unfold Ly;decide),0,λM _=>⟨by rw[(e M).1];lia,by rw[(e M).2];lia⟩⟩
theorem oA{q fl s c:Nat}{g0 g1:Nat->A5}(hf:fl<2^c)(h0:Bl q fl s 1 (2^c) f g0)(h1:Bl q fl s (-1) (2^c) f g1):∃M0,∀M,M0<=M->Bw g0 (2^c) M+Bw g1 (2^c) M=Bw f (2^c) M/\BZ g0 (2^c) M+BZ g1 (2^c) M=BZ f (2^c) M:=by
 obtain⟨l,_,h⟩:=bound (f:=f) (2^c);obtain⟨A,_,r⟩:=bound (f:=g0) (2^c);obtain⟨u,_,x⟩:=bound (f:=g1) (2^c);refine⟨max l (max A u),λM J=>?_⟩;have d:∀w,w<2^c->2*(BP (g0 w) M+BP (g1 w) M)=BP (f w) M+BP (Ar q fl s f w) M/\2*(Al (g0 w) M+Al (g1 w) M)=Al (f w) M+Al (Ar q fl s f w) M:=λw a=>by
  have k1:(f w).2<=M:=by have:=h w a;lia
  have k2:(Ar q fl s f w).2<=M:=by rw[zJ];have:=h _ (Ug a hf);lia
  have e:=(h0 w a).eq M k1 k2 (by have:=r w a;lia);have e1:=(h1 w a).eq M k1 k2 (by have:=x w a;lia);have I:2*va (g0 w) M=va (f w) M+1*va (Ar q fl s f w) M:=congrArg (λt:V4=>t.1) e;have B:2*vb (g0 w) M=vb (f w) M+1*vb (Ar q fl s f w) M:=congrArg (λt:V4=>t.2.1) e;have C:2*vc (g0 w) M=vc (f w) M+1*vc (Ar q fl s f w) M:=congrArg (λt:V4=>t.2.2.1) e;have D:2*vd (g0 w) M=vd (f w) M+1*vd (Ar q fl s f w) M:=congrArg (λt:V4=>t.2.2.2) e;have K:2*va (g1 w) M=va (f w) M+-1*va (Ar q fl s f w) M:=congrArg (λt:V4=>t.1) e1;have H:2*vb (g1 w) M=vb (f w) M+-1*vb (Ar q fl s f w) M:=congrArg (λt:V4=>t.2.1) e1;have L:2*vc (g1 w) M=vc (f w) M+-1*vc (Ar q fl s f w) M:=congrArg (λt:V4=>t.2.2.1) e1;have E:2*vd (g1 w) M=vd (f w) M+-1*vd (Ar q fl s f w) M:=congrArg (λt:V4=>t.2.2.2) e1;unfold BP Al;generalize va (g0 w) M=a0 at *;generalize vb (g0 w) M=a1 at *;generalize vc (g0 w) M=a2 at *;generalize vd (g0 w) M=a3 at *;generalize va (g1 w) M=c0 at *;generalize vb (g1 w) M=c1 at *;generalize vc (g1 w) M=c2 at *;generalize vd (g1 w) M=c3 at *;have z:va (f w) M=a0+c0:=by lia
  have y:vb (f w) M=a1+c1:=by lia
  have p:vc (f w) M=a2+c2:=by lia
  have m:vd (f w) M=a3+c3:=by lia
  have l0:va (Ar q fl s f w) M=a0-c0:=by lia
  have l1:vb (Ar q fl s f w) M=a1-c1:=by lia
  have l2:vc (Ar q fl s f w) M=a2-c2:=by lia
  have l3:vd (Ar q fl s f w) M=a3-c3:=by lia
  rw[z,y,p,m,l0,l1,l2,l3,X9c,X9t];exact⟨U,U⟩
 have t1:=KC (n:=2^c) (F:=λw=>2*(BP (g0 w) M+BP (g1 w) M)) (G:=λw=>BP (f w) M+BP (Ar q fl s f w) M) λw a=>(d w a).1;have t2:=KC (n:=2^c) (F:=λw=>2*(Al (g0 w) M+Al (g1 w) M)) (G:=λw=>Al (f w) M+Al (Ar q fl s f w) M) λw a=>(d w a).2;rw[Z8,O_,O_]at t1 t2;have b:=W3q (f:=f) (g:=Ar q fl s f) (n:=2^c) (t:=λv=>v^^^fl) (k:=λv=>2*q+4*pc ((v^^^fl)&&&s)) (λi hi=>Ug hi hf) (λi _=>Lk.Nz i fl) (λ_ _=>rfl) M;have j:BW (λw=>BP (Ar q fl s f w) M) (2^c)=BW (λw=>BP (f w) M) (2^c):=b.1;have o:BW (λw=>Al (Ar q fl s f w) M) (2^c)=BW (λw=>Al (f w) M) (2^c):=b.2;rw[j]at t1;rw[o]at t2;unfold Bw BZ;constructor<;>lia
theorem W5r(h:He f n x y z)(af:∀w,w<n->Fg (f w))(nz:∃w,w<n/\f w≠nought):Pos x y:=by
 obtain⟨M,a,b⟩:=bound (f:=f) n;obtain⟨e1,e2⟩:=h.eq M a b;have p:=qR (M:=M) af nz;rw[<-Pos.scale (k:=p2 M*p2 M) (JH (Oz _) (Oz _)),Jc _ x,Jc _ y,e1,e2,Jc,Jc (BZ f n M),Pos.scale h.pos];exact p
end Lq
set_option maxHeartbeats 1000000
namespace Bd
open L2 Am Pc Ba Pq Gx Hw
open Aj (top Bs Yo Cw Bk Cz Sum Y5 R4 Fl bV qN rE)
variable{x h y g:Int}
theorem J6{N:Int}(hh:0<=h)(hg:0<=g)(h1:h<=N)(h2:g<=N):FZ x h y g↔x*p2 (N-h)=y*p2 (N-g):=by
 unfold FZ;have e1:=Kg hh h1;have e2:=Kg hg h2;have d:=Gw h;have e:=Gw g;have i:=Gw (N-h);have f:=Gw (N-g);have c:=Gw N;constructor
 ·intro z;have:(x*p2 (N-h))*(p2 h*p2 g)=(y*p2 (N-g))*(p2 h*p2 g):=by
   have a:(x*p2 (N-h))*(p2 h*p2 g)=(x*p2 g)*p2 N:=by rw[e1];grind
   have b:(y*p2 (N-g))*(p2 h*p2 g)=(y*p2 h)*p2 N:=by rw[e2];grind
   rw[a,b,z]
  exact Ka (RZ d e) this
 ·intro z;have:(x*p2 g)*p2 N=(y*p2 h)*p2 N:=by
   have a:(x*p2 (N-h))*(p2 h*p2 g)=(x*p2 g)*p2 N:=by rw[e1];grind
   have b:(y*p2 (N-g))*(p2 h*p2 g)=(y*p2 h)*p2 N:=by rw[e2];grind
   rw[<-a,<-b,z]
  exact Ka c this
structure RD (a b c d h a' b' c' d' h' x y z u g:Int):Prop where
 amt:G5 x y z u g
 same:Ca (a*a'-d*b'-c*c'-b*d') (b*a'+a*b'-d*c'-c*d') (c*a'+b*b'+a*c'-d*d') (d*a'+c*b'+b*c'+a*d') (h+h') x y z u g
 le:g<=h+h'
theorem X9z{x y z:A5}(p:rE x y z):RD x.1.1 x.1.2.1 x.1.2.2.1 x.1.2.2.2 x.2 y.1.1 y.1.2.1 y.1.2.2.1 y.1.2.2.2 y.2 z.1.1 z.1.2.1 z.1.2.2.1 z.1.2.2.2 z.2:=by
 refine⟨p.amt,?_,p.le⟩;have s:=p.same;have e1:x.1.1*y.1.1-x.1.2.1*y.1.2.2.2-x.1.2.2.1*y.1.2.2.1-x.1.2.2.2*y.1.2.1=x.1.1*y.1.1-x.1.2.2.2*y.1.2.1-x.1.2.2.1*y.1.2.2.1-x.1.2.1*y.1.2.2.2:=by grind
 have e2:x.1.1*y.1.2.1+x.1.2.1*y.1.1-x.1.2.2.1*y.1.2.2.2-x.1.2.2.2*y.1.2.2.1=x.1.2.1*y.1.1+x.1.1*y.1.2.1-x.1.2.2.2*y.1.2.2.1-x.1.2.2.1*y.1.2.2.2:=by grind
 have b:x.1.1*y.1.2.2.1+x.1.2.1*y.1.2.1+x.1.2.2.1*y.1.1-x.1.2.2.2*y.1.2.2.2=x.1.2.2.1*y.1.1+x.1.2.1*y.1.2.1+x.1.1*y.1.2.2.1-x.1.2.2.2*y.1.2.2.2:=by grind
 have a:x.1.1*y.1.2.2.2+x.1.2.1*y.1.2.2.1+x.1.2.2.1*y.1.2.1+x.1.2.2.2*y.1.1=x.1.2.2.2*y.1.1+x.1.2.2.1*y.1.2.1+x.1.2.1*y.1.2.2.1+x.1.1*y.1.2.2.2:=by grind
 rw[e1,e2,b,a]at s;exact s
noncomputable abbrev T3 (x y z:Int):HO:=.tup [.int x,.int y,.int z]
def wz (K:U0):Sp:=λvs H Q _=>∃(p:W9) (a b c d h:Int),vs=[.ref p]/\Cw K H p ((a,b,c,d),h)/\∀(r:W9) (H':Hp),Same H H'->H' r=some (T5 a (-d) (-c) (-b) h)->Q (.ref r) H'
def QD:Sp:=λvs H Q _=>∃a b:Int,vs=[.int a,.int b]/\0<=a/\0<=b/\Q (.int (Int.gcd a b:Nat)) H
def bW:Sp:=λvs H Q _=>∃t r b:Int,vs=[.int t,.int r,.int b]/\b≠0/\Sz 9000 b/\∀(p:W9) (H':Hp) (x y z:Int),Same H H'->H' p=some (T3 x y z)->Low t r b x y z->Q (.ref p) H'
def MJ (K:U0):Sp:=λvs H Q _=>∃(p:W9) (a b c d h:Int),vs=[.ref p]/\Ag K H p [.int a,.int b,.int c,.int d,.int h]/\c=0/\d=-b/\0<=h/\h<=8000/\∀(r:W9) (H':Hp) (x y z:Int),Same H H'->H' r=some (T3 x y z)->Low a b (p2 h) x y z->Q (.ref r) H'
def Jo (K:U0):Sp:=λvs H Q _=>∃(l:W9) (ps:U3) (f:Nat->A5) (c n m:Nat),vs=[.ref l]/\Cz K H l ps f c n m/\c<=6/\n<=10000/\m<=1500/\∀(r:W9) (H':Hp) (x y z:Int),Same H H'->H' r=some (T3 x y z)->He f (2^c) x y z->Sz (2*n+4*m+70) x->Sz (2*n+4*m+70) y->Sz (2*m+1) z->Q (.ref r) H'
theorem f9(h:Int):(1:Int)*2^h.toNat=p2 h:=by unfold p2;rw[QJ]
variable{n:Nat}
theorem sO(hn:h.toNat+1<=n):Sz n (p2 h):=(Yo h.toNat).mono hn
theorem UW(i:Int):(if i<0 then -i else i)=(i.natAbs:Int):=by split<;>lia
theorem W1y(t r b:Int):Int.gcd ((Int.gcd (b.natAbs:Int) (r.natAbs:Int):Nat):Int) (t.natAbs:Int)=Nat.gcd (Nat.gcd t.natAbs r.natAbs) b.natAbs:=by
 simp only[Int.gcd,Wg];exact X2i _ _ _
variable{a b:Int}
theorem X6h(h0:0<=a)(hb:0<b):Int.gcd b (a%b)=Int.gcd a b:=by
 have e:(a%b).natAbs=a.natAbs%b.natAbs:=by
  obtain⟨m,rfl⟩:∃m:Nat,a=m:=⟨a.natAbs,by lia⟩;obtain⟨n,rfl⟩:∃n:Nat,b=n:=⟨b.natAbs,by lia⟩;rw[<-Int.natCast_emod,Wg,Wg,Wg]
 show Nat.gcd b.natAbs (a%b).natAbs=Nat.gcd a.natAbs b.natAbs;rw[e,ZM a.natAbs,Nat.gcd_rec b.natAbs a.natAbs,ZM]
theorem dz{M:Int}(z:Sz n a)(h0:0<=h):Sz (n+M.toNat+1) (a*p2 (M-h)):=(z.mul (Yo (M-h).toNat)).mono (by lia)
theorem fu{x:A5}{M:Int}(z:Ih n x.1.1 x.1.2.1 x.1.2.2.1 x.1.2.2.2)(h0:0<=x.2):Sz (2*(n+M.toNat+1)+3) (BP x M)/\Sz (2*(n+M.toNat+1)+3) (Al x M):=by
 have a:=dz (M:=M) z.z1 h0;have b:=dz (M:=M) z.z2 h0;have c:=dz (M:=M) z.z3 h0;have d:=dz (M:=M) z.z4 h0;constructor
 ·exact((((a.mul a).add (b.mul b)).add (c.mul c)).add (d.mul d)).mono (by lia)
 ·exact((((a.mul b).add (b.mul c)).add (c.mul d)).sub (d.mul a)).mono (by lia)
theorem Vy{f:Nat->A5}{n:Nat}{M:Int}:∀i:Nat,(∀w,w<i->Ih n (f w).1.1 (f w).1.2.1 (f w).1.2.2.1 (f w).1.2.2.2/\0<=(f w).2)->Sz (2*(n+M.toNat+1)+3+i) (Bw f i M)/\Sz (2*(n+M.toNat+1)+3+i) (BZ f i M)
 | 0,_=>⟨Cu _,Cu _⟩
 | i+1,h=>by
  obtain⟨a,b⟩:=Vy i λw e=>h w (by lia);obtain⟨c,d⟩:=fu (M:=M) (h i (by lia)).1 (h i (by lia)).2;exact⟨(a.add c).mono (by lia),(b.add d).mono (by lia)⟩
theorem yj{k:Int}(h:0<k):a.natAbs<=(a*k).natAbs:=by rw[Jd];exact Nat.le_mul_of_pos_right _ (by lia)
structure VG (f:Nat->A5) (m n i:Nat) (a b c d h:Int):Prop where
 h0:0<=h
 hm:h<=2*m
 ta:a*p2 (4*m-h)=Bw f i (2*m)
 tb:b*p2 (4*m-h)=BZ f i (2*m)
 tc:c=0
 td:d=-b
 sz:Ih (2*n+4+i*(4*m+2)) a b c d
variable{f:Nat->A5}{m:Nat}{c d z:Int}
theorem VG.step{i:Nat}{A B C D hh u a' b' c' d' h':Int}(t:VG f m n i a b c d h)(e:f i=((A,B,C,D),hh))(g0:0<=hh)(gm:hh<=m)(pr:RD A B C D hh A (-D) (-C) (-B) hh x y z u g)(sm:Sum a b c d h x y z u g a' b' c' d' h')(sz:Ih (2*n+4+i*(4*m+2)+h.toNat+g.toNat+2) a' b' c' d'):VG f m n (i+1) a' b' c' d' h':=by
 have h0:=t.h0;have hm:=t.hm;have k:=pr.amt.nn;have V:=pr.le;have j:=sm.amt.nn;have U:=sm.le;have s:=pr.same;have R:=(J6 (N:=4*m) (by lia) k (by lia) (by lia)).mp s.e1;have J:=(J6 (N:=4*m) (by lia) k (by lia) (by lia)).mp s.e2;have S:=(J6 (N:=4*m) (by lia) k (by lia) (by lia)).mp s.e3;have r4:=(J6 (N:=4*m) (by lia) k (by lia) (by lia)).mp s.e4;have q:=sm.same;have Q:=(J6 (N:=4*m) (by lia) j (by lia) (by lia)).mp q.e1;have I:=(J6 (N:=4*m) (by lia) j (by lia) (by lia)).mp q.e2;have T:=(J6 (N:=4*m) (by lia) j (by lia) (by lia)).mp q.e3;have H:=(J6 (N:=4*m) (by lia) j (by lia) (by lia)).mp q.e4;have r:p2 (4*m-(hh+hh))=p2 (2*m-hh)*p2 (2*m-hh):=by rw[<-JQ (by lia) (by lia)];congr 1;lia
 have l:p2 (4*m-h)=p2 (4*m-(h+g))*p2 g:=by rw[<-JQ (by lia) (by lia)];congr 1;lia
 have p:p2 (4*m-g)=p2 (4*m-(h+g))*p2 h:=by rw[<-JQ (by lia) (by lia)];congr 1;lia
 have v:=M8 (f i) (2*m);have o:=R7 (f i) (2*m);rw[e]at v o;simp only at v o;have F:=Gw (4*m-h');have ta:=t.ta;have tb:=t.tb;have tc:=t.tc;have td:=t.td;have K:x*p2 (4*m-g)=BP ((A,B,C,D),hh) (2*m):=by rw[<-R,v,r];unfold tt;grind
 have w:y*p2 (4*m-g)=Al ((A,B,C,D),hh) (2*m):=by rw[<-J,o,r];unfold rr;grind
 have L:z*p2 (4*m-g)=0:=by rw[<-S];grind
 have O:u*p2 (4*m-g)=-Al ((A,B,C,D),hh) (2*m):=by rw[<-r4,o,r];unfold rr;grind
 have P:a'*p2 (4*m-h')=a*p2 (4*m-h)+x*p2 (4*m-g):=by rw[<-Q,l,p];grind
 have E:b'*p2 (4*m-h')=b*p2 (4*m-h)+y*p2 (4*m-g):=by rw[<-I,l,p];grind
 have G:c'*p2 (4*m-h')=c*p2 (4*m-h)+z*p2 (4*m-g):=by rw[<-T,l,p];grind
 have M:d'*p2 (4*m-h')=d*p2 (4*m-h)+u*p2 (4*m-g):=by rw[<-H,l,p];grind
 refine⟨j,by lia,?_,?_,?_,?_,?_⟩
 ·rw[P,K,ta,<-e];rfl
 ·rw[E,w,tb,<-e];rfl
 ·rw[L,tc]at G;rcases QT.mp (show c'*p2 (4*m-h')=0 by rw[G];lia) with z | z
  ·exact z
  ·exact absurd z F
 ·apply Ka F;rw[M,O,td,TV b',E,w];generalize Al ((A,B,C,D),hh) (2*m)=N;rw[TV];lia
 ·refine sz.mono ?_;rw[Nat.add_mul];lia
theorem VG.heft{N:Nat}(t:VG f m n N a b c d h)(hf:∀w,w<N->(f w).2<=m)(l:Low a b (p2 h) x y z):He f N x y z:=by
 refine He.of (M:=2*m) l.pos l.cop (by lia) (λw e=>by have:=hf w e;lia) ?_;obtain⟨c1,c2⟩:=Low.cr l;have h0:=t.h0;have hm:=t.hm;have w:p2 (2*m)*p2 (2*m)=p2 (4*m-h)*p2 h:=by rw[<-JQ (by lia) (by lia),<-JQ (by lia) (by lia)];congr 1;lia
 unfold Ij;rw[w,<-t.ta,<-t.tb];constructor
 ·have:x*(p2 (4*m-h)*p2 h)=(x*p2 h)*p2 (4*m-h):=by grind
  rw[this,c1];grind
 ·have:y*(p2 (4*m-h)*p2 h)=(y*p2 h)*p2 (4*m-h):=by grind
  rw[this,c2];grind
section
variable {P:U8}{w:W1}{K:U0}{mg:U4}{base:Heap}{k:Nat}{h:Heap}
theorem X0g(F:Ab K "mirror" (top 32) .none)(X:K.In h)(G:Ng h mg):Ah P w K mg base (k+1) "mirror" ["one"] (wz K):=by
 refine F.cal X G ["one"] λf H vs Q E e h=>?_;obtain⟨p,a,b,c,d,h,rfl,hp,q⟩:=h;have S:Ag K H p [.int a,.int b,.int c,.int d,.int h]:=hp;refine⟨_,(@Ak _ _ _ (BJ (@Dg _ _ _ _ _ (Aa (Ai Ao (pv 0) Ac (λ_ _=>rfl)) (Aa (Mz O6 (Ai Ao (pv 0) Ac (λ_ _=>rfl))) (Aa (Mz O6 (Ai Ao (pv 0) Ac (λ_ _=>rfl))) (Aa (Mz O6 (Ai Ao (pv 0) Ac (λ_ _=>rfl))) (Aa (Ai Ao (pv 0) Ac (λ_ _=>rfl)) Ae)))))))),?_⟩;try dsimp only[Bm]
 refine⟨_,U,p,_,_,_,U,U,S,U,_,U,p,_,_,_,U,U,S,U,_,U,_,U,p,_,_,_,U,U,S,U,_,U,_,U,p,_,_,_,U,U,S,U,_,U,_,U,p,_,_,_,U,U,S,U,t5,λr e=>?_⟩;exact q r _ (BR e _) Ax
theorem W4j(F:Ab K "common_divisor" (top 13) .none)(X:K.In h)(G:Ng h mg):Ah P w K mg base (k+1) "common_divisor" ["one","other"] QD:=by
 refine F.cal X G ["one","other","rest"] λg H vs Q E s h=>?_;obtain⟨a,b,rfl,j,hb,q⟩:=h
 refine⟨_,(@Aq _ _ _ _ _ (Z2 PassesOwn.never (B_ Jh (pv 1) Ac (Ad _))
   (@Aq _ _ _ _ _ (@Bb _ _ 2 _ _ _ _ g rfl (Or.inl rfl) (Af Dt (pv 0) (pv 1)) rfl (.inl rfl))
   (@Aq _ _ _ _ _ (@Bb _ _ 0 _ _ _ _ g rfl (Or.inl rfl) (pv 1) rfl (.inl rfl))
   (@Ak _ _ _ (@Bb _ _ 1 _ _ _ _ g rfl (Or.inl rfl) (pv 2) rfl (.inl rfl))))))
  (@Ak _ _ _ (BJ (pv 0)))),?_⟩
 try dsimp only[Bm]
 refine X3m (λσ H'=>H'=H/\∃a' b' r,σ=[some (.int a'),some (.int b'),r]/\0<=a'/\0<=b'/\Int.gcd a' b'=Int.gcd a b)
  (λσ _=>match σ with | [_,some (.int b'),_]=>b'.toNat | _=>0) ⟨U,a,b,none,U,j,hb,U⟩ ?_ ?_
 ·rintro σ H' ⟨rfl,a',b',r,rfl,d,f,e⟩;refine⟨_,U,U,_,U,Kc (λc=>?_) (λc=>?_)⟩
  ·refine⟨_,U,_,U,_,_,U,U,(by show 0<b';lia),?_⟩;refine⟨_,U,_,U,⟨U,b',a'%b',some (.int (a'%b')),U,f,Oe _ c,?_⟩,?_⟩
   ·rw[X6h d (by lia)];exact e
   ·show (a'%b').toNat<b'.toNat;have:=QW a' (show 0<b' by lia);have:=Oe a' c;lia
  ·subst c;refine⟨_,U,?_⟩;rw[Int.gcd_zero_right]at e;have i:(a':Int)=(Int.gcd a b:Nat):=by lia
   show Q (.int a') H';rw[i];exact q
 ·rintro σ H1 p o n ⟨v,e,l,k1,e1,m⟩;exact⟨v,e,l,k1,e1,n _ _ m⟩
theorem Y4v{D:W9}{oc:W2}{od:W5}{sl:W4}{t0 t1:Tok}(l:K.lookup D=some ⟨oc,od,.seq #[.int 0 t0,.int 1 t1] n,sl⟩):K8 K "share" (top 12) (.ref D) ["top","root","bottom"]:=by
 intro kV f g h e ct s us X d;match us,d with
 | [a,b,c],_=>exact BindsTo.of_defaults rfl (X _ _ l) rfl rfl rfl
theorem X4v{dV:W2}(F:Ab K "share" (top 12) dV)(bi:K8 K "share" (top 12) dV ["top","root","bottom"])(X:K.In h)(G:Ng h mg)(B:Bs mg)(c7:Ah P w K mg base k "is_whole" ["thing"] M9)(cS:Ah P w K mg base k "common_divisor" ["one","other"] QD):
  Ah P w K mg base (k+1) "share" ["top","root","bottom"] bW:=by
 refine F.cal X G ["top","root","bottom","common"] (bi:=bi) λn H vs Q E f h=>?_;obtain⟨t,r,b,rfl,hb,s,q⟩:=h
 refine⟨_,(@Aq _ _ _ _ _ (Bx (FQ (PW.pt (O1 (Du (Av c7 f rfl (Aa (pv 0) Ae))) (O1 (Du (Av c7 f rfl (Aa (pv 1) Ae))) (R3 (Du (Av c7 f rfl (Aa (pv 2) Ae))))))))
   (@Ak _ _ _ Jj)
   CK)
  (@Aq _ _ _ _ _ (Bx (B_ Dr (pv 2) Ac (Ad _))
   (@Ak _ _ _ Jj)
   CK)
  (@Aq _ _ _ _ _ (@Bb _ _ 3 _ _ _ _ n rfl (Or.inl rfl) (Av cS f rfl (Aa (Av cS f rfl (Aa (Ck pX rfl B.abs boot_abs (Aa (pv 2) Ae)) (Aa (Ck pX rfl B.abs boot_abs (Aa (pv 1) Ae)) Ae))) (Aa (Ck pX rfl B.abs boot_abs (Aa (pv 0) Ae)) Ae))) rfl (.inl rfl))
  (@GX _ _ _ _ _ (Bx (B_ Nt (pv 2) Ac (Ad _))
   (@Ak _ _ _ (@Bb _ _ 3 _ _ _ _ n rfl (Or.inl rfl) (Mz O6 (pv 3)) rfl (.inl rfl)))
   CK)
  (@Ak _ _ _ (BJ (@Dg _ _ _ _ _ (Aa (Af Qx (pv 0) (pv 3)) (Aa (Af Qx (pv 1) (pv 3)) (Aa (Af Qx (pv 2) (pv 3)) Ae)))))))))),?_⟩
 try dsimp only[Bm]
 refine⟨_,U,_,U,_,U,C_ ⟨_,U,_,U,_,U,C_ ⟨_,U,_,U,_,U,Bj ?_⟩⟩⟩;refine⟨_,U,U,_,U,K4 (λc=>absurd c hb) (λ_=>?_)⟩;refine⟨_,U,_,U,_,U,_,U,_,_,U,(by rw[UW];lia),(by rw[UW];lia),_,U,_,U,_,_,U,by lia,(by rw[UW];lia),?_⟩;rw[UW,UW,UW,W1y];generalize hG:Nat.gcd (Nat.gcd t.natAbs r.natAbs) b.natAbs=g;have m:∀c:Int,c=(if b<0 then -(g:Int) else g)->(Vp (Vj (I_ (Py (rI Kr λi j=>.int (i.fdiv j)) (Hs 0) (Hs 3)) (I_ (Py (rI Kr λi j=>.int (i.fdiv j)) (Hs 1) (Hs 3)) (I_ (Py (rI Kr λi j=>.int (i.fdiv j)) (Hs 2) (Hs 3)) RM)))))
   { nx:=λ_ H'=>Q .non H',rt:=Q} [some (.int t),some (.int r),some (.int b),some (.int c)] H:=by
  intro c l;have u:0<g:=by rw[<-hG];exact X2h (by lia)
  have o:g<=b.natAbs:=by rw[<-hG];exact Nat.gcd_le_right _ (by lia)
  have d:c≠0:=by rw[l];split<;>lia
  have a:Sz 9000 c:=s.le (by rw[l];split<;>lia);have e:=W1i (t:=t) (r:=r) hb hG.symm l;refine⟨_,U,_,U,_,_,U,U,⟨d,a⟩,_,U,_,U,_,_,U,U,⟨d,a⟩,_,U,_,U,_,_,U,U,⟨d,a⟩,t3,λp hp=>?_⟩;exact q p _ _ _ _ (BR hp _) Ax e
 refine⟨λσ H'=>H'=H/\σ=[some (.int t),some (.int r),some (.int b),some (.int (if b<0 then -(g:Int) else g))],⟨_,U,_,_,U,U,_,U,A_ (λc=>?_) (λc=>?_)⟩,?_⟩
 ·refine⟨_,U,_,U,U,?_⟩;rw[if_pos c];rfl
 ·refine⟨U,?_⟩;rw[if_neg c];rfl
 rintro σ H' ⟨rfl,rfl⟩;exact m _ rfl
theorem W0i(F:Ab K "real_share" (top 34) .none)(X:K.In h)(G:Ng h mg)(d5:Ah P w K mg base k "share" ["top","root","bottom"] bW):Ah P w K mg base (k+1) "real_share" ["one"] (MJ K):=by
 refine F.cal X G ["one"] λn H vs Q E j h=>?_;obtain⟨p,a,b,c,d,h,rfl,S,f,i,m,l,q⟩:=h
 refine⟨_,(@Aq _ _ _ _ _ (Bx (PW.pt (IW (B_ Jh (Ai Ao (pv 0) Ac (λ_ _=>rfl)) Ac (Ad _)) (Kh (B_ Jh (Ai Ao (pv 0) Ac (λ_ _=>rfl)) (Mz O6 (Ai Ao (pv 0) Ac (λ_ _=>rfl))) (Ad _)))))
   (@Ak _ _ _ Jj)
   CK)
  (@Ak _ _ _ (BJ (Av d5 j rfl (Aa (Ai Ao (pv 0) Ac (λ_ _=>rfl)) (Aa (Ai Ao (pv 0) Ac (λ_ _=>rfl)) (Aa (Af G3 Ac (Ai Ao (pv 0) Ac (λ_ _=>rfl))) Ae))))))),?_⟩
 try dsimp only[Bm]
 refine⟨_,U,p,_,_,_,U,U,S,U,U,_,U,Kc (λz=>absurd f z) (λ_=>?_)⟩;refine⟨_,U,p,_,_,_,U,U,S,U,_,U,p,_,_,_,U,U,S,U,_,U,U,_,U,Kc (λz=>absurd i z) (λ_=>?_)⟩;refine⟨_,U,p,_,_,_,U,U,S,U,_,U,p,_,_,_,U,U,S,U,_,U,p,_,_,_,U,U,S,U,_,_,U,U,⟨1,HN,by lia,by lia⟩,a,b,p2 h,?_,ZL (p2p h),sO (by lia),λr H' x y z s' e g=>q r H' x y z s' e g⟩;show [V.int a,V.int b,V.int (1*2^h.toNat)]=_;rw[f9]
theorem W0r{aZ:W9}(gZ:mg "NOUGHT"=some (.ref aZ))(kZ:∀H,Ag K H aZ ([0,0,0,0,0].map V.int))(F:Ab K "heft" (top 42) .none)(X:K.In h)(G:Ng h mg)(cU:Ah P w K mg base k "plus" ["one","other"] (R4 K))(gW:Ah P w K mg base k "times" ["one","other"] (qN K))(gK:Ah P w K mg base k "mirror" ["one"] (wz K))(eN:Ah P w K mg base k "real_share" ["one"] (MJ K)):Ah P w K mg base (k+1) "heft" ["board"] (Jo K):=by
 refine F.cal X G ["board","total","one"] λO H vs Q E A h=>?_;obtain⟨l,ps,f,c,n,m,rfl,j,c6,n1,m1,q⟩:=h;have p6:=Hy c6;have C:(ps.map V.ref).length=2^c:=by rw[Bg,j.len]
 refine⟨_,(@Aq _ _ _ _ _ (@Bb _ _ 1 _ _ _ _ O rfl (Or.inl rfl) (Hj (v:=.ref aZ) rfl gZ rfl) rfl (.inl rfl))
  (@Aq _ _ _ _ _ (J7 PassesOwn.never rfl (G_ (pv 0)) (DR (i:=2) O rfl (Or.inl rfl))
   (@Ak _ _ _ (@Bb _ _ 1 _ _ _ _ O rfl (Or.inl rfl) (Av cU A rfl (Aa (pv 1) (Aa (Av gW A rfl (Aa (pv 2) (Aa (Av gK A rfl (Aa (pv 2) Ae)) Ae))) Ae))) rfl (.inl rfl))))
  (@Ak _ _ _ (BJ (Av eN A rfl (Aa (pv 1) Ae)))))),?_⟩
 try dsimp only[Bm]
 refine⟨_,U,l,U,⟨_,Aw.of j.lst⟩,O8 (K:=K) (a:=l) (xs:=ps.map V.ref) (λi σ H'=>Same H H'/\∃(p:W9) (a b c d h:Int) (v:Option V),Ag K H' p [.int a,.int b,.int c,.int d,.int h]/\VG f m n i a b c d h/\σ=[some (.ref l),some (.ref p),v]) ⟨Same.refl _,aZ,0,0,0,0,0,none,kZ H,⟨Ku 0,by lia,?_,?_,U,U,?_⟩,U⟩ (λi σ H' _ e=>e.1.seq (Aw.of j.lst)) ?_ ?_⟩
 ·show 0*p2 (4*m-0)=0;lia
 ·show 0*p2 (4*m-0)=0;lia
 ·have z0:Sz (2*n+4+0*(4*m+2)) 0:=Cu _;exact⟨z0,z0,z0,z0⟩
 ·rintro i x σ H1 S ⟨t,p,a,b,c',d,h,v,SP,T,rfl⟩;rw[Cj]at S;obtain⟨N,hp,rfl⟩:=Es.mp S;have hi:i<2^c:=by
   have:=(Et.mp hp).1;rw[j.len]at this;exact this
  have D:=(j.vals i N hp).same t;have ok:=j.ok i hi;have im:i*(4*m+2)<=63*(4*m+2):=Nat.mul_le_mul_right _ (by lia);rcases hf:f i with ⟨⟨A1,B1,C1,D1⟩,hh⟩;rw[hf]at D ok;have o0:0<=hh:=ok.amt.nn;have R:hh<=m:=ok.le;have B:Ih n A1 B1 C1 D1:=ok.sz;have J:=T.h0;have Y:=T.hm;refine⟨_,U,_,U,_,U,N,_,_,_,_,_,U,D,λr H2 o e2=>?_⟩;refine⟨N,r,((A1,B1,C1,D1),hh),((A1,-D1,-C1,-B1),hh),n,n,m,m,U,D.same o,Cw.of e2,ok,⟨⟨B.z1,B.z4.neg,B.z3.neg,B.z2.neg⟩,⟨o0,by have:=ok.amt.odd;simp only at this ⊢;lia⟩,R⟩,by lia,λr2 H3 zz W e3 I L=>?_⟩;obtain⟨⟨x,y,z,u⟩,g⟩:=zz;have pr:=X9z I;have pz:Ih (n+n+4) x y z u:=L.sz;have gn:=pr.amt.nn;have gl:=pr.le;refine⟨2*n+4+i*(4*m+2),p,r2,a,b,c',d,h,x,y,z,u,g,⟨U,(o.trans W).tup SP,Ag.of e3,J,gn,by lia,by lia,T.sz,pz.mono (by lia)⟩,λr3 H4 x' y' z' u' g' s4 Z sm sz=>?_⟩;exact⟨(t.trans o).trans (W.trans s4),r3,_,_,_,_,_,_,Ag.of Z,T.step hf o0 R pr sm sz,U⟩
 ·rintro σ H1 ⟨t,p,a,b,c',d,h,v,SP,T,rfl⟩;rw[C]at T;have J:=T.h0;have Y:=T.hm;have cm:2^c*(4*m+2)<=64*(4*m+2):=Nat.mul_le_mul_right _ p6;refine⟨_,U,p,a,b,c',d,h,U,SP,T.tc,T.td,J,by lia,λr H2 x y z o e2 lo=>?_⟩;obtain⟨z1,z2,z3⟩:=lo.sizes;obtain⟨y1,y2⟩:=Vy (f:=f) (n:=n) (M:=2*m) (2^c) λw s=>⟨(j.ok w s).sz,(j.ok w s).amt.nn⟩;have ha:Sz (2*n+4*m+70) a:=(y1.mono (by lia)).le (by rw[<-T.ta];exact yj (Oz _));have hb:Sz (2*n+4*m+70) b:=(y2.mono (by lia)).le (by rw[<-T.tb];exact yj (Oz _));exact q r H2 x y z (t.trans o) e2 (T.heft (λw s=>(j.ok w s).le) lo) (ha.le z1) (hb.le z2) ((sO (n:=2*m+1) (h:=h) (by lia)).le z3)
end
end Bd
namespace Bd
open L2 Am Pc Ba Hw
open Lk hiding Nz
open Dh (Mk)
open Cp (ev)
open Aj (top Bs Cw Bk Cz Sum Y5 R4 Z7 nY Q5 PL PJ Ur)
open Ay (L3 Fe KN)
open Bc (Hu layW Ge Jk)
def Gi:Sp:=λvs H Q _=>∃(p:W9) (m:Mk) (n:Nat),vs=[.ref p,.int n]/\H p=some (Ay.T3 m)/\Fe n m/\ev m/\Q .non H
def bU (K:U0):Sp:=λvs H Q _=>∃(l p:W9) (ps:U3) (f:Nat->A5) (c n m:Nat) (mk:Mk) (o:Nat),vs=[.ref l,.ref p,.int o]/\Cz K H l ps f c n m/\c<=6/\n<=100000/\m<=10000/\H p=some (Ay.T3 mk)/\Fe c mk/\o<2/\∀(r:W9) (H':Hp) (qs:U3) (g:Nat->A5),H r=none->Same H H'->Cz K H' r qs g c (n+2*m+2) (m+1)->Bl mk.1 mk.2.1 mk.2.2 (sg o) (2^c) f g->Q (.ref r) H'
def nq (K:U0):Sp:=λvs H Q _=>∃(l:W9) (ps:U3) (f:Nat->A5) (c n m:Nat),vs=[.ref l]/\Cz K H l ps f c n m/\c<=6/\∀(b:Bool) (H':Hp),Same H H'->(b=true↔∀i,i<2^c->f i=nought)->Q (.bl b) H'
def yW (K:U0):Sp:=λvs H Q _=>∃(l p:W9) (ps:U3) (f:Nat->A5) (c n m:Nat) (mk:Mk) (o:Nat),vs=[.ref l,.ref p,.int o]/\Cz K H l ps f c n m/\c<=6/\n<=100000/\m<=10000/\H p=some (Ay.T3 mk)/\Fe c mk/\ev mk/\o<2/\(∃i,i<2^c/\Ar mk.1 mk.2.1 mk.2.2 f i≠Az (f i) (4*(1-o):Nat))/\∀(r:W9) (H':Hp) (qs:U3) (g:Nat->A5),H r=none->Same H H'->Cz K H' r qs g c (n+2*m+2) (m+1)->Bl mk.1 mk.2.1 mk.2.2 (sg o) (2^c) f g->(∃i,i<2^c/\g i≠nought)->Q (.ref r) H'
variable{l:W9}
theorem YH{H H':Hp}(s:Same H H')(h:H' l=none):H l=none:=Bc.YH s h
variable{x y:A5}
theorem X2d{t z:A5}{s:Int}(x0:0<=x.2)(y0:0<=y.2)(sm:Sum x.1.1 x.1.2.1 x.1.2.2.1 x.1.2.2.2 x.2 (s*y.1.1) (s*y.1.2.1) (s*y.1.2.2.1) (s*y.1.2.2.2) y.2 t.1.1 t.1.2.1 t.1.2.2.1 t.1.2.2.2 t.2)(rd:Red t.1.1 t.1.2.1 t.1.2.2.1 t.1.2.2.2 (t.2+1) z.1.1 z.1.2.1 z.1.2.2.1 z.1.2.2.2 z.2):CN s x y z:=by
 have c:0<=t.2:=sm.amt.nn;have z0:0<=z.2:=rd.amt.nn;obtain⟨M,k1,k2,k3⟩:∃M:Int,x.2+y.2<=M/\t.2+1<=M/\z.2<=M:=⟨max (x.2+y.2) (max (t.2+1) z.2),by lia,by lia,by lia⟩;have e1:p2 (M-x.2)=p2 (M-(x.2+y.2))*p2 y.2:=by rw[<-JQ (by lia) y0];congr 1;lia
 have e2:p2 (M-y.2)=p2 (M-(x.2+y.2))*p2 x.2:=by rw[<-JQ (by lia) x0];congr 1;lia
 have d:p2 (M-t.2)=2*p2 (M-(t.2+1)):=by
  rw[show M-t.2=(M-(t.2+1))+1 by lia,JQ (by lia) (by decide),show p2 1=2 from rfl,Jc]
 have v1:=_M (x:=((x.1.1*p2 y.2+s*y.1.1*p2 x.2,x.1.2.1*p2 y.2+s*y.1.2.1*p2 x.2,x.1.2.2.1*p2 y.2+s*y.1.2.2.1*p2 x.2,x.1.2.2.2*p2 y.2+s*y.1.2.2.2*p2 x.2),x.2+y.2)) (y:=t) (M:=M) (by show 0<=x.2+y.2;lia) c k1 (by lia) sm.same;have v2:=_M (x:=(t.1,t.2+1)) (y:=z) (M:=M) (by show 0<=t.2+1;lia) z0 k2 k3 rd.same;refine CN.of (M:=M) rd.amt x0 y0 (by lia) (by lia) k3 ?_;rw[<-v2];have q:∀{a b tt:Int},(a*p2 y.2+s*b*p2 x.2)*p2 (M-(x.2+y.2))=tt*p2 (M-t.2)->2*(tt*p2 (M-(t.2+1)))=a*p2 (M-x.2)+s*(b*p2 (M-y.2)):=λ{a b tt} h=>by
  rw[d]at h;rw[e1,e2];grind
 exact Ia (q (congrArg (λt:V4=>t.1) v1)) (q (congrArg (λt:V4=>t.2.1) v1)) (q (congrArg (λt:V4=>t.2.2.1) v1)) (q (congrArg (λt:V4=>t.2.2.2) v1))
theorem W4v:l5 x=l5 y↔x=y:=by
 constructor
 ·intro h;unfold l5 at h;simp only[List.cons.injEq,and_true]at h;exact Lk.UL h
 ·rintro rfl;rfl
theorem Wy:l5 x=[0,0,0,0,0]↔x=((0,0,0,0),0):=W4v (y:=((0,0,0,0),0))
def Ei (f:Nat->A5)(i:Nat)(bs:List Bool):Prop:=bs=(List.range i).map λj=>decide (l5 (f j)=[0,0,0,0,0])
variable{f:Nat->A5}
theorem Ei.nil:Ei f 0 []:=rfl
theorem Ei.snoc{i:Nat}{bs:List Bool}(h:Ei f i bs):Ei f (i+1) (bs++[decide (l5 (f i)=[0,0,0,0,0])]):=by
 unfold Ei at *;rw[h,Ra,DW];rfl
theorem Ei.iff{n:Nat}{bs:List Bool}(h:Ei f n bs):bs.all id=true↔∀i,i<n->f i=((0,0,0,0),0):=by
 unfold Ei at h;subst h;rw[Nj];constructor
 ·intro a i hi;have:=a _ (Ej.mpr ⟨i,Ek.mpr hi,U⟩);exact Wy.mp (Mr this)
 ·intro a x c;obtain⟨j,b,e⟩:=Ej.mp c;rw[<-e];exact Gb (Wy.mpr (a j (Ek.mp b)))
theorem W1k{K:U0}{aZ:W9}{ps:U3}{fr:L2.St}{H1:Hp}{acc:W9}{Q:VK}(kZ:∀H,Ag K H aZ ([0,0,0,0,0].map V.int))(hl:H1 l=some (.lst (ps.map V.ref)))(l64:ps.length<=64)(v:Bk K H1 ps f)(hacc:H1 acc=none)
  (hd:∀H2 bs,Same H1 H2->H2 acc=some (.lst (bs.map V.bl))->Ei f ps.length bs->Q (.ref acc) H2):Jl (Lx K l) (CZ 0) (Py (JD K false) (Hs 0) (tC (.ref aZ))) (none::fr) H1 acc Q:=by
 refine Uk (K:=K) (a:=l) (xs:=ps.map V.ref) (fr:=fr) (λi ys H'=>Same H1 H'/\H' acc=some (.lst ys)/\∃bs:List Bool,ys=bs.map V.bl/\Ei f i bs) (by rw[Bg];exact JB l64) ⟨BR hacc _,Ax,[],U,.nil⟩ (λi ys H' e=>Aw.of (e.1 _ _ hl)) ?_ ?_
 ·rintro i x ys H2 N g j ⟨c,d,bs,rfl,b⟩ h;rw[Cj]at g;obtain⟨p,hp,rfl⟩:=Es.mp g;refine⟨_,U,p,aZ,l5 (f i),[0,0,0,0,0],U,U,(v i p hp).same c,kZ _,h _ _ d ⟨Fw c hacc,Ax,bs++[decide (l5 (f i)=[0,0,0,0,0])],?_,b.snoc⟩⟩;rw[DW];rfl
 ·rintro ys H2 j ⟨c,d,bs,rfl,b⟩;rw[Bg]at b;exact hd H2 bs c d b
theorem X1m{K:U0}{l':W9}{ps ps':U3}{f':Nat->A5}{c:Nat}{g:TG}{te:TE}{H1:Hp}{acc:W9}{Q:VK}(R:Nat->A5->Prop)(n' m':Nat)(h1:H1 l=some (.lst (ps.map V.ref)))(h2:H1 l'=some (.lst (ps'.map V.ref)))(len1:ps.length=2^c)(len2:ps'.length=2^c)(v1:Bk K H1 ps f)(v2:Bk K H1 ps' f')(c6:c<=6)(hacc:H1 acc=none)
  (hg:∀{a:W9}{x y:V}{w1 n:Option V}{H:Hp}{Q:L2.St->Hp->Prop},H a=some (.tup [x,y])->Q [some x,some y] H->g (.ref a) [w1,n] H Q)
  (hs:∀i p d H (N:V->Hp->Prop),Cw K H p (f i)->Cw K H d (f' i)->i<2^c->Same H1 H->(∀r o z,Same H o->Cw K o r z->Fy n' m' z->R i z->N (.ref r) o)->te [some (.ref p),some (.ref d)] H N)
  (hd:∀H2 b g,Same H1 H2->Cz K H2 acc b g c n' m'->(∀i,i<2^c->R i (g i))->Q (.ref acc) H2):Jl (Y0 false false K l l') g te [none,none] H1 acc Q:=by
 have M:=Hy c6;refine zO (t1:=false) (t2:=false) (K:=K) (l1:=l) (l2:=l') (xs:=ps.map V.ref) (ys:=ps'.map V.ref) (fr:=[]) (λi ys H'=>∃(b:U3) (g:Nat->A5),Same H1 H'/\H' acc=some (.lst ys)/\ys=b.map V.ref/\b.length=i/\Bk K H' b g/\∀j,j<i->Fy n' m' (g j)/\R j (g j)) (by rw[Bg,Bg,len1,len2]) (by rw[Bg,len1];exact JB M)
  ⟨[],λ_=>((0,0,0,0),0),BR hacc _,Ax,U,U,(λ_ _ z=>by cases z),λj D=>absurd D (Js _)⟩ (λh q=>hg h q) (λi zs H h=>by obtain⟨_,_,s,_⟩:=h;exact⟨Aw.of (s _ _ h1),Aw.of (s _ _ h2)⟩) ?_ ?_
 ·rintro i x y zs H T N C E P ⟨b,g',B,u,rfl,k,n,m⟩ J G;rw[Cj]at C E;obtain⟨p,hp,rfl⟩:=Es.mp C;obtain⟨d,A,rfl⟩:=Es.mp E;have hi:i<2^c:=by
   have:=(Et.mp hp).1;rw[len1]at this;exact this
  have t:=BR J (.tup [.ref p,.ref d]);have v:=B.trans t;refine hs i p d _ N ((v1 i p hp).same v) ((v2 i d A).same v) hi v λr o z w L I O=>G (.ref r) o (w _ _ (t _ _ u)) ⟨b++[r],λj=>if j=b.length then z else g' j,Fw (v.trans w) hacc,Ax,by rw[DW];rfl,by simp[k],PJ (PL n (t.trans w) L) (w _ _ (t _ _ u)),λj D=>?_⟩;show Fy n' m' (if j=b.length then z else g' j)/\R j (if j=b.length then z else g' j);split
  ·rename_i e;rw[e,k];exact⟨I,O⟩
  ·rename_i e;exact m j (by lia)
 ·rintro zs H2 F ⟨b,g',B,u,rfl,k,n,m⟩;rw[Bg,len1]at k m;exact hd H2 b g' B ⟨u,k,n,λi hi=>(m i hi).1⟩ λi hi=>(m i hi).2
section
variable {P:U8}{w:W1}{K:U0}{mg:U4}{base:Heap}{k:Nat}{h:Heap}
theorem Jp:Ce ["mark","cells"] ["mark","cells"] (Dp (top 95)):=fS
theorem qm(F:Ab K "check_look" (top 95) .none)(X:K.In h)(G:Ng h mg)(cN:Ah P w K mg base k "is_even_mark" ["thing","cells"] KN):Ah P w K mg base (k+1) "check_look" ["mark","cells"] Gi:=by
 refine F.cal X G _ (S:=Jp) λd H vs Q c b h=>?_;obtain⟨p,m,n,rfl,e,ok,a,q⟩:=h
 refine⟨_,(@Ak _ _ _ (Bx (FQ (Du (Av cN b rfl (Aa (pv 0) (Aa (pv 1) Ae)))))
   (@Ak _ _ _ Jj)
   CK)),?_⟩
 try dsimp only[Bm]
 exact⟨_,U,_,U,p,m,n,U,e,ok,a,_,U,Bj q⟩
theorem X5f(F:Ab K "half_left" (top 96) .none)(X:K.In h)(G:Ng h mg)(B:Bs mg)(d9:Ah P w K mg base k "laid_on" ["board","mark"] (Hu K))(cU:Ah P w K mg base k "plus" ["one","other"] (R4 K))(dQ:Ah P w K mg base k "minus" ["one","other"] (Z7 K))(eG:Ah P w K mg base k "halved" ["one"] nY):Ah P w K mg base (k+1) "half_left" ["board","mark","outcome"] (bU K):=by
 refine F.cal X G ["board","mark","outcome","laid"] λnd H vs Q E' J h=>?_;obtain⟨l,p,ps,f,c,n,m,a,o,rfl,O,c6,n1,m1,hp,Cv,o2,kq⟩:=h;have hf:=Cv.f
 refine⟨_,(@Aq _ _ _ _ _ (@Bb _ _ 3 _ _ _ _ nd rfl (Or.inl rfl) (Av d9 J rfl (Aa (pv 0) (Aa (pv 1) Ae))) rfl (.inl rfl))
  (@Aq _ _ _ _ _ (Bx (B_ Dr (pv 2) Ac (Ad _))
   (@Ak _ _ _ (BJ (Iw rfl (Bp.of (Nc:=["one","other"]) (mp:=[none,none]) (by kernel_rfl)) (bF false false rfl B.zip (Aa (pv 0) (Aa (pv 3) Ae))) (λ_ _ _ _=>(R8 rfl (show (["one","other"]:W0).Nodup by decide +kernel) rfl rfl rfl rfl)) (λ_ _ _ _=>(Av eG J rfl (Aa (Av cU J rfl (Aa (pv 0) (Aa (pv 1) Ae))) Ae))))))
   CK)
  (@Ak _ _ _ (BJ (Iw rfl (Bp.of (Nc:=["one","other"]) (mp:=[none,none]) (by kernel_rfl)) (bF false false rfl B.zip (Aa (pv 0) (Aa (pv 3) Ae))) (λ_ _ _ _=>(R8 rfl (show (["one","other"]:W0).Nodup by decide +kernel) rfl rfl rfl rfl)) (λ_ _ _ _=>(Av eG J rfl (Aa (Av dQ J rfl (Aa (pv 0) (Aa (pv 1) Ae))) Ae)))))))),?_⟩
 try dsimp only[Bm]
 refine⟨_,U,_,U,l,p,ps,f,c,n,m,a,U,O,c6,Ag.of hp,⟨Cv.q,Cv.f,Cv.s⟩,λr H1 qs a0 D BL=>?_⟩;have e1:=BL.lst;have ql:=BL.len;have d:=O.same D;have Vi:Bk K H1 qs (Ar a.1 a.2.1 a.2.2 f):=BL.vals;have M:∀i,i<2^c->Fy n m (Ar a.1 a.2.1 a.2.2 f i):=λi hi=>qp (v:=(f (i^^^a.2.1)).1) (h:=(f (i^^^a.2.1)).2) (O.ok _ (Ug hi hf)) _;refine⟨_,U,U,_,U,K4 (λo0=>?_) (λo0=>?_)⟩
 ·have oo:o=0:=by lia
  subst oo;refine⟨_,U,_,U,l,r,_,_,U,Aw.of d.lst,Aw.of e1,λacc b=>?_⟩;refine X1m (K:=K) (λi z=>CN 1 (f i) (Ar a.1 a.2.1 a.2.2 f i) z) (n+2*m+2) (m+1) d.lst e1 d.len ql d.vals Vi c6 b (λW hQ=>⟨_,_,U,Ag.of W,U,_,_,U,_,_,U,U,hQ⟩) (λi p1 A H2 N e2 e hi I Z=>?_) (λH2 C g I V r2=>kq acc H2 C g (YH D b) (D.trans I) V r2);have oi:=O.ok i hi;have ol:=M i hi;have L:0<=(f i).2:=oi.amt.nn;have l0:0<=(Ar a.1 a.2.1 a.2.2 f i).2:=ol.amt.nn;have im:=oi.le;have lm:=ol.le;obtain⟨yy,E⟩:∃yy,Ar a.1 a.2.1 a.2.2 f i=yy:=⟨_,U⟩;rw[E]at e ol l0 lm;refine⟨_,U,_,U,n,p1,A,_,_,_,_,_,_,_,_,_,_,⟨U,e2,e,L,l0,by lia,by lia,oi.sz,ol.sz⟩,λr3 H3 x y z u g s3 e3 sm sz=>?_⟩;refine⟨r3,x,y,z,u,g,U,e3,sm.amt.nn,λr4 Y x' S z' R g' s4 T j=>Z r4 Y ((x',S,z',R),g') (s3.trans s4) (Cw.of T) ⟨(j.sz sz).mono (by lia),j.amt,?_⟩ ?_⟩
  ·have:=j.le;have:=sm.le;show g'<=((m+1:Nat):Int);lia
  ·show CN _ (f i) (Ar a.1 a.2.1 a.2.2 f i) _;rw[E];refine X2d (t:=((x,y,z,u),g)) L l0 ?_ j;simp only[QJ];exact sm
 ·have oo:o=1:=by lia
  subst oo;refine⟨_,U,_,U,l,r,_,_,U,Aw.of d.lst,Aw.of e1,λacc b=>?_⟩;refine X1m (K:=K) (λi z=>CN (-1) (f i) (Ar a.1 a.2.1 a.2.2 f i) z) (n+2*m+2) (m+1) d.lst e1 d.len ql d.vals Vi c6 b (λW hQ=>⟨_,_,U,Ag.of W,U,_,_,U,_,_,U,U,hQ⟩) (λi p1 A H2 N e2 e hi I Z=>?_) (λH2 C g I V r2=>kq acc H2 C g (YH D b) (D.trans I) V r2);have oi:=O.ok i hi;have ol:=M i hi;have L:0<=(f i).2:=oi.amt.nn;have l0:0<=(Ar a.1 a.2.1 a.2.2 f i).2:=ol.amt.nn;have im:=oi.le;have lm:=ol.le;obtain⟨yy,E⟩:∃yy,Ar a.1 a.2.1 a.2.2 f i=yy:=⟨_,U⟩;rw[E]at e ol l0 lm;refine⟨_,U,_,U,n,p1,A,_,_,_,_,_,_,_,_,_,_,⟨U,e2,e,L,l0,by lia,by lia,oi.sz,ol.sz⟩,λr3 H3 x y z u g s3 e3 sm sz=>?_⟩;refine⟨r3,x,y,z,u,g,U,e3,sm.amt.nn,λr4 Y x' S z' R g' s4 T j=>Z r4 Y ((x',S,z',R),g') (s3.trans s4) (Cw.of T) ⟨(j.sz sz).mono (by lia),j.amt,?_⟩ ?_⟩
  ·have:=j.le;have:=sm.le;show g'<=((m+1:Nat):Int);lia
  ·show CN _ (f i) (Ar a.1 a.2.1 a.2.2 f i) _;rw[E];refine X2d (t:=((x,y,z,u),g)) L l0 ?_ j;simp only[TV,QJ];exact sm
theorem W0m{aZ:W9}(gZ:mg "NOUGHT"=some (.ref aZ))(kZ:∀H,Ag K H aZ ([0,0,0,0,0].map V.int))(F:Ab K "is_nothing" (top 98) .none)(X:K.In h)(G:Ng h mg)(B:Bs mg):Ah P w K mg base (k+1) "is_nothing" ["amounts"] (nq K):=by
 refine F.cal X G ["amounts"] λq H vs Q p o h=>?_;obtain⟨l,ps,f,c,n,m,rfl,b,c6,j⟩:=h;refine⟨_,(@Ak _ _ _ (BJ (Ck (YW rfl) rfl B.all V_ (Aa (Iw rfl (Bp.of (Nc:=["one"]) (mp:=[none]) (by kernel_rfl)) (G_ (pv 0)) (λ_ _ _ _=>(DR (i:=0) (show (["one"]:W0).Nodup by decide +kernel) rfl (Or.inl rfl))) (λ_ _ _ _=>(Iz (X4o o.units) (pv 0) (Hj (v:=.ref aZ) rfl gZ rfl) (Ad _)))) Ae)))),?_⟩;try dsimp only[Bm]
 refine⟨_,U,l,U,⟨_,Aw.of b.lst⟩,λacc a=>W1k (fr:=[]) kZ b.lst (by rw[b.len];exact Hy c6) b.vals a λH2 bs e g d=>?_⟩;rw[b.len]at d;exact⟨acc,bs,U,Aw.of g,j _ H2 e d.iff⟩
theorem Gj:Ce ["board","mark","outcome","behind"] ["board","mark","outcome"] (Dp (top 94)):=fS
theorem Y7p(F:Ab K "settled" (top 94) .none)(X:K.In h)(G:Ng h mg)(cH:Ah P w K mg base k "check_look" ["mark","cells"] Gi)(cF:Ah P w K mg base k "cells_of" ["board"] (Q5 K))(cJ:Ah P w K mg base k "half_left" ["board","mark","outcome"] (bU K))(cT:Ah P w K mg base k "is_nothing" ["amounts"] (nq K)):Ah P w K mg base (k+1) "settled" ["board","mark","outcome"] (yW K):=by
 refine F.cal X G _ (S:=Gj) λI H vs Q L e h=>?_;obtain⟨l,p,ps,f,c,n,m,t,o,rfl,d,c6,J,A,hp,Cv,E,o2,⟨j,a,D⟩,C⟩:=h
 refine⟨_,(@Aq _ _ _ _ _ (Ny (Av cH e rfl (Aa (pv 1) (Aa (Av cF e rfl (Aa (pv 0) Ae)) Ae))))
  (@Aq _ _ _ _ _ (@Bb _ _ 3 _ _ _ _ I rfl (Or.inl rfl) (Av cJ e rfl (Aa (pv 0) (Aa (pv 1) (Aa (pv 2) Ae)))) rfl (.inl rfl))
  (@Aq _ _ _ _ _ (Bx (Du (Av cT e rfl (Aa (pv 3) Ae)))
   (@Ak _ _ _ Jj)
   CK)
  (@Ak _ _ _ (BJ (pv 3)))))),?_⟩
 try dsimp only[Bm]
 refine⟨_,U,_,U,l,_,c,U,Aw.of d.lst,by rw[Bg,d.len],c6,p,t,c,U,hp,Cv,E,?_⟩;refine⟨_,U,_,U,_,U,l,p,ps,f,c,n,m,t,o,U,d,c6,J,A,hp,Cv,o2,λr H1 q g B y u hb=>?_⟩;have v:g j≠nought:=λz=>D ((nJ o2 (d.ok j a).amt (Qs (d.ok _ (Ug a Cv.f)).amt) (hb j a)).mp z);refine⟨_,U,r,q,g,c,_,_,U,u,c6,λb H2 s i=>⟨_,U,?_⟩⟩;have x:b=false:=by
  cases b with
  | false=>rfl
  | true=>exact absurd (i.mp rfl j a) v
 subst x;exact Bj ⟨_,U,C r H2 q g B (y.trans s) (u.same s) hb ⟨j,a,v⟩⟩
end
end Bd
set_option maxHeartbeats 4000000
namespace Aj
open L2 Am Pc Ba
noncomputable def BW (F:Nat->Int):Nat->Int
 | 0=>0
 | n+1=>BW F n+F n
theorem KC{F G:Nat->Int}:∀{n},(∀i,i<n->F i=G i)->BW F n=BW G n
 | 0,_=>rfl
 | n+1,h=>by
  show BW F n+F n=BW G n+G n;rw[KC λi hi=>h i (by lia),h n (by lia)]
theorem O_{F G:Nat->Int}:∀n,BW (λi=>F i+G i) n=BW F n+BW G n
 | 0=>rfl
 | n+1=>by
  show BW (λi=>F i+G i) n+(F n+G n)=(BW F n+F n)+(BW G n+G n);rw[O_ n];lia
noncomputable def lsum (F:Nat->Int):List Nat->Int
 | []=>0
 | a::l=>F a+lsum F l
variable{F:Nat->Int}
theorem nR{l l':W3}(h:l.Perm l'):lsum F l=lsum F l':=by
 induction h with
 | nil=>rfl
 | cons x _ ih=>show F x+_=F x+_;rw[ih]
 | swap x y l=>show F y+(F x+lsum F l)=F x+(F y+lsum F l);lia
 | trans _ _ a b=>exact a.trans b
theorem YK{F:Nat->Int}:∀l l',lsum F (l++l')=lsum F l+lsum F l'
 | [],l'=>by show lsum F l'=0+lsum F l';lia
 | a::l,l'=>by
  show F a+lsum F (l++l')=F a+lsum F l+lsum F l';rw[YK l l'];lia
theorem SX{F:Nat->Int}:∀n,BW F n=lsum F (List.range n)
 | 0=>rfl
 | n+1=>by
  rw[Ra,YK,<-SX n];show BW F n+F n=BW F n+(F n+0);lia
theorem YL{F:Nat->Int}{t:Nat->Nat}:∀l,lsum (λi=>F (t i)) l=lsum F (l.map t)
 | []=>rfl
 | a::l=>by
  show F (t a)+_=F (t a)+_;rw[YL l]
theorem Yc{t:Nat->Nat}:∀{l:W3},(∀a∈l,∀b∈l,t a=t b->a=b)->l.Nodup->(l.map t).Nodup
 | [],_,_=>List.nodup_nil
 | a::l,h,d=>by
  rw[Ez,La];have d':=La.mp d;refine⟨λg=>?_,Yc (λx f y c=>h x (.tail _ f) y (.tail _ c)) d'.2⟩;obtain⟨b,hb,e⟩:=Ej.mp g;have:=h b (.tail _ hb) a (.head _) e;subst this;exact d'.1 hb
variable{t:Nat->Nat}
theorem qI{n:Nat}(h1:∀i,i<n->t i<n)(h2:∀i,i<n->t (t i)=i):((List.range n).map t).Perm (List.range n):=by
 rw[List.perm_iff_count];intro a;have d:(List.range n).Nodup:=List.nodup_range
 have d2:((List.range n).map t).Nodup:=Yc (λx g y f e=>by
  have:=h2 x (Ek.mp g)
  rw[e,h2 y (Ek.mp f)]at this
  exact this.symm) d
 rw[d.count,d2.count];have:a∈(List.range n).map t↔a∈List.range n:=by
  rw[Ej,Ek];constructor
  ·rintro ⟨b,hb,rfl⟩;exact h1 b (Ek.mp hb)
  ·intro c;exact⟨t a,Ek.mpr (h1 a c),h2 a c⟩
 by_cases q:a∈List.range n
 ·rw[if_pos (this.mpr q),if_pos q]
 ·rw[if_neg (λz=>q (this.mp z)),if_neg q]
theorem PB{n:Nat}(h1:∀i,i<n->t i<n)(h2:∀i,i<n->t (t i)=i):BW (λi=>F (t i)) n=BW F n:=by
 rw[SX,SX,YL];exact nR (qI h1 h2)
noncomputable def BP (x:A5)(M:Int):Int:=va x M*va x M+vb x M*vb x M+vc x M*vc x M+vd x M*vd x M
noncomputable def Al (x:A5)(M:Int):Int:=va x M*vb x M+vb x M*vc x M+vc x M*vd x M-vd x M*va x M
variable{M:Int}
theorem zU{v:Int×Int×Int×Int}{h:Int}:BP ((-v.2.2.2,v.1,v.2.1,v.2.2.1),h) M=BP (v,h) M/\Al ((-v.2.2.2,v.1,v.2.1,v.2.2.1),h) M=Al (v,h) M:=by
 unfold BP Al va vb vc vd;simp only;constructor<;>grind
theorem VB{v:Int×Int×Int×Int}{h M:Int}:∀j,BP (Ba.BK j v,h) M=BP (v,h) M/\Al (Ba.BK j v,h) M=Al (v,h) M
 | 0=>⟨rfl,rfl⟩
 | j+1=>⟨(zU (v:=Ba.BK j v)).1.trans (VB j).1,(zU (v:=Ba.BK j v)).2.trans (VB j).2⟩
variable{x:A5}
theorem Gq{k:Int}:BP (Ba.Az x k) M=BP x M/\Al (Ba.Az x k) M=Al x M:=VB _
theorem Wv(l:x.2<=M):BP x (M+1)=4*BP x M/\Al x (M+1)=4*Al x M:=by
 have e:p2 (M+1-x.2)=2*p2 (M-x.2):=by
  rw[show M+1-x.2=(M-x.2)+1 by lia,JQ (by lia) (by decide),show p2 1=2 from rfl,Jc]
 unfold BP Al va vb vc vd;rw[e];constructor<;>grind
theorem W4o{y z0 z1:A5}(m0:Mix 1 x y z0)(m1:Mix (-1) x y z1)(x0:0<=x.2)(y0:0<=y.2):∃M0,∀M,M0<=M->BP z0 M+BP z1 M=BP x M+BP y M/\Al z0 M+Al z1 M=Al x M+Al y M:=by
 obtain⟨c,h1⟩:=m0.vals x0 y0;obtain⟨n,h2⟩:=m1.vals x0 y0;refine⟨max c 0+max n 0+x.2+y.2+1,λN o=>?_⟩;obtain⟨M,rfl⟩:∃M,N=M+1:=⟨N-1,by lia⟩;obtain⟨b,f,h,m⟩:=h1 M (by lia);obtain⟨d,j,l,i⟩:=h2 M (by lia);obtain⟨a,e⟩:=Wv (x:=x) (M:=M) (by lia);obtain⟨k,g⟩:=Wv (x:=y) (M:=M) (by lia);rw[a,e,k,g];unfold BP Al;rw[b,f,h,m,d,j,l,i];constructor<;>grind
def rN (c:Nat)(f g:Nat->A5)(M:Int):Prop:=BW (λw=>BP (f w) M) (2^c)=BW (λw=>BP (g w) M) (2^c)/\BW (λw=>Al (f w) M) (2^c)=BW (λw=>Al (g w) M) (2^c)
def Hf (c:Nat)(f g:Nat->A5):Prop:=∃M0,∀M,M0<=M->rN c f g M
theorem yC{p:Nat->Int->Prop}:∀n:Nat,(∀w,w<n->∃M0,∀M,M0<=M->p w M)->∃M0:Int,∀M,M0<=M->∀w,w<n->p w M
 | 0,_=>⟨0,λ_ _ w a=>absurd a (Js _)⟩
 | n+1,h=>by
  obtain⟨A,b⟩:=yC n λw a=>h w (by lia);obtain⟨B,hb⟩:=h n (by lia);refine⟨max A B,λM c w a=>?_⟩;by_cases e:w=n
  ·subst e;exact hb M (by lia)
  ·exact b M (by lia) w (by lia)
theorem Step.hf{c:Nat}{m:Gm}{f g:Nat->A5}(hc:c<=6)(ok:m.Ok c)(af:G6 c f)(s:Step c m f g):Hf c g f:=by
 cases m with
 | mv v =>
  have s':∀w,w<2^c->g w=Az (f (v.to w)) (v.sp w:Nat):=s;refine⟨0,λM _=>⟨?_,?_⟩⟩
  ·rw[KC (G:=λw=>BP (f (v.to w)) M) λi hi=>by rw[s' i hi];exact Gq.1];exact PB (F:=λw=>BP (f w) M) (t:=λw=>v.to w) (λi hi=>Mv.to_lt hc ok hi) (λi hi=>Mv.to_to hc ok hi)
  ·rw[KC (G:=λw=>Al (f (v.to w)) M) λi hi=>by rw[s' i hi];exact Gq.2];exact PB (F:=λw=>Al (f w) M) (t:=λw=>v.to w) (λi hi=>Mv.to_lt hc ok hi) (λi hi=>Mv.to_to hc ok hi)
 | mix a =>
  have ok:a<c:=ok;have s':∀w,w<2^c->Cy f a w (g w):=s;let t:Nat->Nat:=λw=>if w / 2^a%2=0 then w+2^a else w-2^a;have t1:∀i,i<2^c->t i<2^c:=λi hi=>by
   show (if i / 2^a%2=0 then i+2^a else i-2^a)<2^c;by_cases hb:i / 2^a%2=0
   ·rw[if_pos hb];exact(Yg hc ok hi hb).2.2.1
   ·rw[if_neg hb];exact Np (WD _ _) hi
  have t2:∀i,i<2^c->t (t i)=i:=λi hi=>by
   show (if (if i / 2^a%2=0 then i+2^a else i-2^a) / 2^a%2=0 then (if i / 2^a%2=0 then i+2^a else i-2^a)+2^a else (if i / 2^a%2=0 then i+2^a else i-2^a)-2^a)=i;by_cases hb:i / 2^a%2=0
   ·obtain⟨_,_,l2,k⟩:=Yg hc ok hi hb;rw[if_pos hb,if_neg (by lia),Wh]
   ·obtain⟨_,_,l2,k⟩:=oW hc ok hi hb;rw[if_neg hb,if_pos k,Nat.sub_add_cancel l2]
  have n:∀w,w<2^c->∃l,∀M,l<=M->BP (g w) M+BP (g (t w)) M=BP (f w) M+BP (f (t w)) M/\Al (g w) M+Al (g (t w)) M=Al (f w) M+Al (f (t w)) M:=λw b=>by
   by_cases hb:w / 2^a%2=0
   ·obtain⟨_,_,l2,k⟩:=Yg hc ok b hb;have j:=s' w b;have d:=s' (w+2^a) l2;unfold Cy at j d;rw[if_pos hb]at j;rw[if_neg (by lia),Wh]at d;have e:t w=w+2^a:=if_pos hb;rw[e];exact W4o j d (af _ b).nn (af _ l2).nn
   ·obtain⟨_,_,l2,k⟩:=oW hc ok b hb;have p:w-2^a<2^c:=Np (WD _ _) b;have j:=s' (w-2^a) p;have d:=s' w b;unfold Cy at j d;rw[if_pos k,Nat.sub_add_cancel l2]at j;rw[if_neg hb]at d;have e:t w=w-2^a:=if_neg hb;rw[e];obtain⟨l,h⟩:=W4o j d (af _ p).nn (af _ b).nn;refine⟨l,λM o=>?_⟩;have:=h M o;lia
  obtain⟨l,h⟩:=yC _ n;refine⟨l,λM o=>?_⟩;have H:=h M o;have r:=KC (F:=λw=>BP (g w) M+BP (g (t w)) M) (G:=λw=>BP (f w) M+BP (f (t w)) M) λw b=>(H w b).1;have q:=KC (F:=λw=>Al (g w) M+Al (g (t w)) M) (G:=λw=>Al (f w) M+Al (f (t w)) M) λw b=>(H w b).2;rw[O_,O_,PB (F:=λw=>BP (g w) M) t1 t2,PB (F:=λw=>BP (f w) M) t1 t2]at r;rw[O_,O_,PB (F:=λw=>Al (g w) M) t1 t2,PB (F:=λw=>Al (f w) M) t1 t2]at q;exact⟨by lia,by lia⟩
theorem Steps.hf{c:Nat}(hc:c<=6):∀{ms:List Gm}{f g:Nat->A5},(∀m∈ms,m.Ok c)->G6 c f->Steps c ms f g->Hf c g f
 | [],f,g,_,_,a=>by
  cases a;exact⟨0,λ_ _=>⟨U,U⟩⟩
 | m::ms,f,g,ok,af,.cons a a'=>by
  have Cv:=ok m (.head _);obtain⟨A,b⟩:=a.hf hc Cv af;obtain⟨B,hb⟩:=Steps.hf hc (λx d=>ok x (.tail _ d)) (a.ams hc Cv af) a';refine⟨max A B,λM e=>?_⟩;have u:=b M (by lia);have v:=hb M (by lia);exact⟨v.1.trans u.1,v.2.trans u.2⟩
end Aj
namespace DY
open Pc Hr Dh Gg Ba
open Cp (cm ev Tb Fz G V6 vec)
abbrev V4:=Int×Int×Int×Int
noncomputable def nx (v:V4):V4:=(-v.2.2.2,v.1,v.2.1,v.2.2.1)
theorem qJ(n:Nat)(v:V4):BK (n+1) v=nx (BK n v):=rfl
theorem Qu(n:Nat)(v:V4):∀m,BK (m+n) v=BK m (BK n v)
 | 0=>by rw[Jr];rfl
 | m+1=>by rw[Nat.add_right_comm,qJ,qJ,Qu n v m]
theorem Y9g(v:V4):BK 8 v=v:=by
 obtain⟨a,b,c,d⟩:=v;show ((- -a,- -b,- -c,- -d):V4)=_;simp only[Int.neg_neg]
theorem zm(v:V4):∀k,BK (8*k) v=v
 | 0=>rfl
 | k+1=>by rw[Nat.mul_succ,Qu,Y9g,zm v k]
theorem Qv(n:Nat)(v:V4):BK (n%8) v=BK n v:=by
 have:n=n%8+8*(n / 8):=by lia
 have e:=Qu (8*(n / 8)) v (n%8);rw[zm,<-this]at e;exact e.symm
theorem M7(x:A5)(n:Nat):Az x ((n:Nat):Int)=(BK n x.1,x.2):=by
 unfold Az;rw[show (((n:Int))%8).toNat=n%8 by lia,Qv]
theorem M_(x:A5)(a b:Nat):Az (Az x (a:Nat)) (b:Nat)=Az x ((a+b:Nat):Int):=by
 rw[M7,M7,M7,TY,Qu]
variable{a b:Nat}
theorem N7(x:A5)(h:a%8=b%8):Az x (a:Nat)=Az x ((b:Nat):Int):=by
 rw[M7,M7,<-Qv a,h,Qv]
theorem r4(h:a<4)(v:V4):BK (2*a) v=if a=0 then v else if a=1 then (-v.2.2.1,-v.2.2.2,v.1,v.2.1) else if a=2 then (-v.1,-v.2.1,-v.2.2.1,-v.2.2.2) else (- -v.2.2.1,- -v.2.2.2,-v.1,-v.2.1):=by
 have:a=0\/a=1\/a=2\/a=3:=by lia
 rcases this with rfl | rfl | rfl | rfl<;>rfl
theorem Us{x:A5}(nz:x.1≠(0,0,0,0))(h:Az x ((2*a:Nat):Int)=Az x ((2*b:Nat):Int)):a%4=b%4:=by
 rw[M7,M7]at h;have h1:=congrArg Prod.fst h;obtain⟨⟨p,q,r,s⟩,g⟩:=x;have e:∀n:Nat,BK (2*n) (p,q,r,s)=BK (2*(n%4)) (p,q,r,s):=λn=>by
  rw[<-Qv (2*n),show 2*n%8=2*(n%4) by lia]
 have h2:BK (2*a) (p,q,r,s)=BK (2*b) (p,q,r,s):=h1;rw[e a,e b,r4 (by lia),r4 (by lia)]at h2;apply Classical.byContradiction;intro f;apply nz;show ((p,q,r,s):V4)=_;have i:a%4<4:=Ep _ (by decide);have d:b%4<4:=Ep _ (by decide);generalize a%4=a' at *;generalize b%4=b' at *;have c:p=0/\q=0/\r=0/\s=0:=by
  split at h2<;>split at h2<;>(try split at h2)<;>(try split at h2)<;>(try split at h2)<;>(try split at h2)<;>(try (simp only[Prod.mk.injEq]at h2))<;>lia
 rw[c.1,c.2.1,c.2.2.1,c.2.2.2]
def Kp (c:Nat)(f:Nat->A5)(m:Mk):Prop:=∀w,w<2^c->f (w^^^m.2.1)=Az (f w) ((2*m.1+4*pc (w&&&m.2.2):Nat):Int)
def Nv (c:Nat)(f:Nat->A5):Prop:=∃w,w<2^c/\(f w).1≠(0,0,0,0)
variable {c:Nat}{f:Nat->A5}
theorem Kp.one:Kp c f (0,0,0):=λw _=>by
 show f (w^^^0)=Az (f w) ((2*0+4*pc (w&&&0):Nat):Int);rw[Nh,iB,GJ];rfl
variable{m m':Mk}
theorem Kp.mul(hf:m'.2.1<2^c)(h:Kp c f m)(h':Kp c f m'):Kp c f (mul m m'):=λw a=>by
 show f (w^^^(m.2.1^^^m'.2.1))=Az (f w) ((2*((m.1+m'.1+2*pc (m.2.2&&&m'.2.1))%4)+4*pc (w&&&(m.2.2^^^m'.2.2)):Nat):Int);have e:w^^^(m.2.1^^^m'.2.1)=(w^^^m'.2.1)^^^m.2.1:=by rw[E_,KY m.2.1]
 rw[e,h (w^^^m'.2.1) (Er a hf),h' w a,M_];apply N7;have d:=uH w m.2.2 m'.2.2;have b:=uH m.2.2 w m'.2.1;rw[Il m.2.2 (w^^^m'.2.1),Il m.2.2 w]at b;lia
theorem Kp.q(nz:Nv c f)(h:Kp c f m)(h':Kp c f m')(e:m.2=m'.2):m.1%4=m'.1%4:=by
 obtain⟨w,d,g⟩:=nz;have a:=h w d;have b:=h' w d;rw[e]at a;rw[a]at b
 have:=Us g (a:=m.1+2*pc (w&&&m'.2.2)) (b:=m'.1+2*pc (w&&&m'.2.2)) (by
  rw[show 2*(m.1+2*pc (w&&&m'.2.2))=2*m.1+4*pc (w&&&m'.2.2) by lia,show 2*(m'.1+2*pc (w&&&m'.2.2))=2*m'.1+4*pc (w&&&m'.2.2) by lia]
  exact b)
 lia
theorem Kp.ev(nz:Nv c f)(hf:m.2.1<2^c)(h:Kp c f m):ev m:=by
 have a:=Kp.q nz (Kp.mul hf h h) Kp.one (show (m.2.1^^^m.2.1,m.2.2^^^m.2.2)=(0,0) by rw[HW,HW]);have:(m.1+m.1+2*pc (m.2.2&&&m.2.1))%4%4=0:=a;rw[Il]at this;show (m.1+pc (m.2.1&&&m.2.2))%2=0;lia
theorem Kp.cm(nz:Nv c f)(hf:m.2.1<2^c)(hf':m'.2.1<2^c)(h:Kp c f m)(h':Kp c f m'):cm m m'=0:=by
 have a:=Kp.q nz (Kp.mul hf' h h') (Kp.mul hf h' h) (show (m.2.1^^^m'.2.1,m.2.2^^^m'.2.2)=(m'.2.1^^^m.2.1,m'.2.2^^^m.2.2) by rw[KY m.2.1,KY m.2.2]);have:(m.1+m'.1+2*pc (m.2.2&&&m'.2.1))%4%4=(m'.1+m.1+2*pc (m'.2.2&&&m.2.1))%4%4:=a;rw[Il m'.2.2]at this;show (pc (m.2.1&&&m'.2.2)+pc (m.2.2&&&m'.2.1))%2=0;lia
structure Ok (c:Nat) (m:Mk):Prop where
 q:m.1<4
 f:m.2.1<2^c
 s:m.2.2<2^c
theorem Ok.mul(h:Ok c m)(h':Ok c m'):Ok c (mul m m'):=⟨Ep _ (by decide),Er h.f h'.f,Er h.s h'.s⟩
theorem Ok.v6(hc:c<=6)(h:Ok c m):V6 m:=⟨Ea h.f (Ir (by decide) hc),Ea h.s (Ir (by decide) hc)⟩
theorem S_{ms:List Mk}(ho:∀r∈ms,Ok c r/\Kp c f r):∀{m:Nat}{g:Mk},m<=ms.length->G ms m g->Ok c g/\Kp c f g
 | 0,g,_,⟨x,e⟩=>by
  have:g=(0,0,0):=e;subst this;exact⟨⟨by decide,Cu _,Cu _⟩,Kp.one⟩
 | m+1,g,hm,h=>by
  rcases Cp.X_ h with q | ⟨g',q,rfl⟩
  ·exact S_ ho (by lia) q
  ·have b:=S_ ho (by lia:m<=ms.length) q;have a:=ho _ (Cp.DG (ms:=ms) (i:=m) (by lia));exact⟨b.1.mul a.1,Kp.mul a.1.f b.2 a.2⟩
structure Ks (c:Nat) (f:Nat->A5) (R:List Mk):Prop where
 ok:∀r∈R,Ok c r/\Kp c f r
 ind:Indep R
variable{R:List Mk}
theorem Ks.tb(hc:c<=6)(nz:Nv c f)(h:Ks c f R):Tb R :=
 ⟨⟨λm a=>(h.ok m a).1.q,λm a=>(h.ok m a).2.ev nz (h.ok m a).1.f,λm a r b=>Kp.cm nz (h.ok m a).1.f (h.ok r b).1.f (h.ok m a).2 (h.ok r b).2⟩,λm a=>(h.ok m a).1.v6 hc,h.ind⟩
theorem Ks.in(h:Ks c f R){g:Mk}(hg:In R g):Ok c g/\Kp c f g:=S_ h.ok (CG _) (Cp.Jy.mp hg)
theorem Zr:∀(m n:Nat) (g:Nat->Nat),(∀i,i<n->g i<m)->(∀i j,i<n->j<n->g i=g j->i=j)->n<=m
 | 0,n,g,h,_=>by
  apply Nat.le_of_not_lt;intro d;exact absurd (h 0 d) (Js _)
 | m+1,n,g,h,inj=>by
  by_cases ex:∃i,i<n/\g i=m
  ·obtain⟨i0,hi,e⟩:=ex
   have:=Zr m (n-1) (λi=>g (if i<i0 then i else i+1)) (λi c=>by
    show g (if i<i0 then i else i+1)<m
    have l:(if i<i0 then i else i+1)<n:=by split<;>lia
    have k:(if i<i0 then i else i+1)≠i0:=by split<;>lia
    have a:=h _ l
    have b:g (if i<i0 then i else i+1)≠m:=λz=>k (inj _ _ l hi (z.trans e.symm))
    lia) (λi j c o z=>by
    have l:(if i<i0 then i else i+1)<n:=by split<;>lia
    have f:(if j<i0 then j else j+1)<n:=by split<;>lia
    have:=inj _ _ l f z
    split at this<;>split at this<;>lia)
   lia
  ·have:=Zr m n g (λi hi=>by
    have a:=h i hi
    have b:g i≠m:=λz=>ex ⟨i,hi,z⟩
    lia) inj
   lia
end DY
namespace fC
open Ew Mv Dc FW Pn
end fC
namespace OJ
open Ew Mv Dc FW Pn fC
noncomputable def bwd (row:List Mv):List Mv:=row.reverse.map bk
theorem vq:∀{row:List Mv}{m:Mk},(∀x∈row,Ok x)->(∀x∈row,Br x)->m.1<4->(∀x (n:Mk),x∈row->n.1<4->(CJ x n).1<4)->Bh (bwd row) (Bh row m)=m
 | [],_,_,_,_,_=>rfl
 | x::r,m,o,b,h,k=>by
  show Bh ((x::r).reverse.map bk) (Bh r (CJ x m))=m;rw[List.reverse_cons,DW,YM];rw[show Bh (r.reverse.map bk) (Bh r (CJ x m))=CJ x m from vq (λy a=>o y (.tail _ a)) (λy a=>b y (.tail _ a)) (k x m (.head _) h) λy n a=>k y n (.tail _ a)];exact W4s (o x (.head _)) (b x (.head _)) h
end OJ
namespace M80
open Ew Mv Dc FW Pn fC OJ
end M80
set_option maxHeartbeats 1000000
namespace rK
open Ew Mv Dc FW Pn OJ Pc
end rK
namespace M86
open Ew Mv Dc FW Pn OJ rK Pc
end M86
namespace M87
open Ew Mv Dc FW Pn OJ rK M86 Pc
theorem W4r(x:Mv)(n:Mk)(h:n.1<4):(CJ x n).1<4:=by
 obtain⟨k,f,s⟩:=n;have h:k<4:=h;cases x<;>simp only[CJ]<;>(repeat' split)<;>first | exact h | exact Ep _ (by decide)
end M87
namespace Pk
open Ew Mv Dc FW Pn fC OJ M80
theorem xd(a d:Nat):a^^^d^^^d=a:=by rw[E_,HW,Nh]
theorem xl(a b d:Nat):a^^^d^^^b=a^^^b^^^d:=by rw[E_,KY d b,<-E_]
theorem xr(a b d:Nat):a^^^(b^^^d)=a^^^b^^^d:=(E_ _ _ _).symm
theorem _G(f g a b:Nat):sw (f^^^g) a b=sw f a b^^^sw g a b:=by
 unfold sw;rw[GP,GP];cases f.testBit a<;>cases g.testBit a<;>cases f.testBit b<;>cases g.testBit b<;>simp[fl,xd,xl,xr]
theorem W1g(x:Mv)(k:Nat)(m n:Mk):(CJ x (k,m.2.1^^^n.2.1,m.2.2^^^n.2.2)).2=((CJ x m).2.1^^^(CJ x n).2.1,(CJ x m).2.2^^^(CJ x n).2.2):=by
 obtain⟨k1,f,s⟩:=m;obtain⟨k2,g,t⟩:=n;cases x with
 | flip a=>rfl
 | mix a =>
  unfold CJ;dsimp only;rw[GP,GP];cases f.testBit a.toNat<;>cases s.testBit a.toNat<;>cases g.testBit a.toNat<;>cases t.testBit a.toNat<;>simp[fl,xd,xl,xr]
 | turn a j =>
  unfold CJ;dsimp only;rw[GP];by_cases h:j.toNat%4=2
  ·simp only[if_pos h];cases f.testBit a.toNat<;>cases g.testBit a.toNat<;>simp[fl,xd,xl,xr]
  ·simp only[if_neg h];cases f.testBit a.toNat<;>cases g.testBit a.toNat<;>simp
 | iff a b =>
  unfold CJ;dsimp only;rw[GP,GP];cases f.testBit a.toNat<;>cases g.testBit a.toNat<;>cases s.testBit b.toNat<;>cases t.testBit b.toNat<;>simp[fl,xd,xl,xr]
 | pair a b =>
  unfold CJ;dsimp only;rw[GP,GP];cases f.testBit a.toNat<;>cases g.testBit a.toNat<;>cases f.testBit b.toNat<;>cases g.testBit b.toNat<;>simp[fl,xd,xl,xr]
 | swap a b =>
  unfold CJ;dsimp only;rw[_G,_G]
 | cross a b d=>rfl
theorem W1f(x:Mv){m n:Mk}(h:m.2=n.2):(CJ x m).2=(CJ x n).2:=by
 obtain⟨k1,f,s⟩:=m;obtain⟨k2,g,t⟩:=n;cases (show f=g from congrArg Prod.fst h);cases (show s=t from congrArg Prod.snd h);cases x with
 | turn a j =>
  unfold CJ;dsimp only;cases f.testBit a.toNat<;>rfl
 | _=>rfl
theorem qF:∀(r:List Mv) {m n:Mk},m.2=n.2->(Bh r m).2=(Bh r n).2
 | [],_,_,h=>h
 | x::r,_,_,h=>qF r (W1f x h)
theorem qD:∀(r:List Mv) (k:Nat) (m n:Mk),(Bh r (k,m.2.1^^^n.2.1,m.2.2^^^n.2.2)).2=((Bh r m).2.1^^^(Bh r n).2.1,(Bh r m).2.2^^^(Bh r n).2.2)
 | [],_,_,_=>rfl
 | x::r,k,m,n=>by
  have h:=qD r k (CJ x m) (CJ x n);have e:=qF r (m:=CJ x (k,m.2.1^^^n.2.1,m.2.2^^^n.2.2)) (n:=(k,(CJ x m).2.1^^^(CJ x n).2.1,(CJ x m).2.2^^^(CJ x n).2.2)) (W1g x k m n);exact e.trans h
theorem yO(r:List Mv)(k:Nat):(Bh r (k,0,0)).2=(0,0):=by
 have h:=qD r k (k,0,0) (k,0,0);rw[HW,HW,HW]at h;exact h
theorem fget(ms:List Mk)(j:Nat):(Gg.FP ms).getD j 0=(ms.getD j (0,0,0)).2.1:=by
 unfold Gg.FP;rw[CP,CP,Cj];cases ms[j]?<;>rfl
theorem Fo(ms:List Mk)(j:Nat):(Gg.Em ms).getD j 0=(ms.getD j (0,0,0)).2.2:=by
 unfold Gg.Em;rw[CP,CP,Cj];cases ms[j]?<;>rfl
end Pk
namespace M97
open Ba Am Pc
open DY (Kp Nv)
open Cp (cm ev Dy Off Cq vec Fz)
open Dh (Mk mul bit Ib)
open Gg (In Indep E Yp)
variable {c:Nat}{ms:List Mk}
open FW (CJ Bh Br)
open Dc (Ok)
open OJ (bwd)
open Ew (Mv)
open Cp (Tb V6)
open Gg (xs FP Em)
open Dc (Dv)
variable {row:List Mv}
theorem W1s(o:∀x∈row,Ok x)(b:∀x∈row,Br x)(m:Mk)(m4:m.1<4)(e:(Bh row m).2=(0,0)):m.2=(0,0):=by
 have h:=OJ.vq o b m4 (λx n _ q=>M87.W4r x n q);rw[<-h];exact(Pk.qF (OJ.bwd row) (n:=(0,0,0)) e).trans (Pk.yO _ 0)
theorem X6g{f:Mk->Mk}{j:Nat}(hj:j<ms.length):(ms.map f).getD j (0,0,0)=f (ms.getD j (0,0,0)):=Cp.o7 hj
theorem _R(cb:Nat->Bool):∀n,n<=ms.length->(Bh row (0,xs (FP ms) cb n,xs (Em ms) cb n)).2=(xs (FP (ms.map (Bh row))) cb n,xs (Em (ms.map (Bh row))) cb n)
 | 0,_=>Pk.yO row 0
 | n+1,h=>by
  have a:=_R cb n (by lia);unfold xs;by_cases q:cb n=true
  ·simp only[if_pos q];have:=Pk.qD row 0 (0,xs (FP ms) cb n,xs (Em ms) cb n) (ms.getD n (0,0,0));rw[a]at this;rw[Pk.fget,Pk.Fo,Pk.fget,Pk.Fo,X6g (by lia)];exact this
  ·simp only[if_neg q];exact a
theorem X6c(o:∀x∈row,Ok x)(b:∀x∈row,Br x)(I:Indep ms):Indep (ms.map (Bh row)):=λa hf c j d=>by
 rw[Bg]at hf c d;have e:=_R (row:=row) a ms.length (CG _);rw[hf,c]at e;have z:=W1s o b (0,xs (FP ms) a ms.length,xs (Em ms) a ms.length) (show 0<4 by decide) e;exact I a (congrArg Prod.fst z) (congrArg Prod.snd z) j d
end M97
namespace HD
open Pc Hr Dh Gg Cp
open DY (Ok Zr)
variable {c i:Nat}{ms:List Mk}
theorem DG{j:Nat}(h:j<ms.length):ms.getD j (0,0,0)∈ms:=by
 rw[CP,Cm h];exact Rc h
theorem Cv{a b:Mk}(x:Ok c a)(y:Ok c b):Ok c (mul a b):=⟨Ep _ (by decide),Er x.f y.f,Er x.s y.s⟩
theorem mq(a b o:Mk):cm (mul a b) o=(cm a o+cm b o)%2:=by rw[Ie,Qn,Ie o a,Ie o b]
theorem Xq(a b:Mk):cm a b=0\/cm a b=1:=by
 have:cm a b<2:=Ep _ (by decide);lia
theorem uI(x i:Nat):pc (2^i&&&x)=bit x i:=by
 rw[Il,bM];have:=Ef x i;rcases (by lia:bit x i=0\/bit x i=1) with e | e<;>rw[e]
 ·rw[WQ,GJ]
 ·rw[QK,Hr.Yk]
theorem fget{n:Nat}(h:n<ms.length):(FP ms).getD n 0=(ms.getD n (0,0,0)).2.1:=by
 unfold FP;rw[CP,CP,Cj,Cm h];rfl
theorem Fo{n:Nat}(h:n<ms.length):(Em ms).getD n 0=(ms.getD n (0,0,0)).2.2:=by
 unfold Em;rw[CP,CP,Cj,Cm h];rfl
theorem uJ:∀(L:List Mk) (a:Mk),(∀m∈L,Ok c m)->Ok c a->Ok c (L.foldl mul a)
 | [],_,_,h=>h
 | m::L,a,hm,h=>uJ L (mul a m) (λn b=>hm n (Ju _ b)) (Cv h (hm m Je))
def S (ms:List Mk)(i:Nat):Nat->Mk->Prop
 | 0,m=>m.2=(0,0)
 | n+1,m=>S ms i n m\/n≠i/\S ms i n (mul m (ms.getD n (0,0,0)))
def Z (ms:List Mk)(c i n:Nat)(z:Mk):Prop:=Ok c z/\∀j,j<n->j≠i->cm z (ms.getD j (0,0,0))=0
theorem vp{x:Nat}(h:x<2^c)(b:∀k,k<c->bit x k=0):x=0:=by
 refine Rj λk=>?_;rw[Nat.zero_testBit];by_cases l:k<c
 ·have:=b k l;rw[UG];exact FJ (by show ¬ bit x k=1;lia)
 ·exact sZ (Ea h (Ir (by decide) (by lia)))
theorem Rn{m:Mk}(o:Ok c m)(h:∀z,Ok c z->cm z m=0):m.2=(0,0):=by
 refine Prod.ext (vp o.f λk a=>?_) (vp o.s λk a=>?_)
 ·have:=h (0,0,2^k) ⟨show 0<4 by decide,Cu c,Jf (by decide) a⟩;unfold cm at this;have l:=Ef m.2.1 k;rw[show ((0,0,2^k):Mk).2.1=0 from rfl,show ((0,0,2^k):Mk).2.2=2^k from rfl,Tc,GJ,uI]at this;lia
 ·have:=h (0,2^k,0) ⟨show 0<4 by decide,Jf (by decide) a,Cu c⟩;unfold cm at this;have l:=Ef m.2.2 k;rw[show ((0,2^k,0):Mk).2.1=2^k from rfl,show ((0,2^k,0):Mk).2.2=0 from rfl,Tc,GJ,uI]at this;lia
theorem apart(ok:∀m∈ms,Ok c m):∀n m,Ok c m->n<=ms.length->(∀z,Z ms c i n z->cm z m=0)->S ms i n m
 | 0,m,o,_,h=>Rn o λz k=>h z ⟨k,λj b=>absurd b (Js _)⟩
 | n+1,m,o,hn,h=>by
  have or:=ok _ (DG (show n<ms.length by lia))
  have ext:∀{z},Z ms c i n z->(n=i\/cm z (ms.getD n (0,0,0))=0)->Z ms c i (n+1) z:=λ{z} q e=>⟨q.1,λj b d=>by
   by_cases jn:j=n
   ·subst jn;exact e.resolve_left d
   ·exact q.2 j (by lia) d⟩
  by_cases e:n=i
  ·exact .inl (apart ok n m o (by lia) λz a=>h z (ext a (.inl e)))
  by_cases q:∃z0,Z ms c i n z0/\cm z0 (ms.getD n (0,0,0))=1
  ·obtain⟨z0,f,g⟩:=q;have both:∀z,Z ms c i n z->(cm z m+cm z (ms.getD n (0,0,0))*cm z0 m)%2=0:=λz a=>by
    rcases Xq z (ms.getD n (0,0,0)) with y | y
    ·rw[y,h z (ext a (.inr y))];lia
    ·have:=h (mul z z0) (ext ⟨Cv a.1 f.1,λj b d=>by rw[mq,a.2 j b d,f.2 j b d]⟩ (.inr (by rw[mq,y,g])));rw[mq]at this;rw[y,QK];exact this
   rcases Xq z0 m with y | y
   ·refine .inl (apart ok n m o (by lia) λz a=>?_);have:=both z a;rw[y]at this;rcases Xq z m with x | x<;>lia
   ·refine .inr ⟨e,apart ok n _ (Cv o or) (by lia) λz a=>?_⟩;have:=both z a;rw[y,ZK]at this;rw[Qn];exact this
  ·exact .inl (apart ok n m o (by lia) λz a=>h z (ext a (.inr ((Xq z _).resolve_right λy=>q ⟨z,a,y⟩))))
theorem choose:∀n m,n<=ms.length->S ms i n m->∃a:Nat->Bool,a i=false/\xs (FP ms) a n=m.2.1/\xs (Em ms) a n=m.2.2
 | 0,m,_,h=>⟨λ_=>false,rfl,(congrArg Prod.fst h).symm,(congrArg Prod.snd h).symm⟩
 | n+1,m,hn,h=>by
  have e:∀(a:Nat->Bool) (b:Bool) (fs:W3),xs fs (λk=>if k=n then b else a k) (n+1)=if b then xs fs a n^^^fs.getD n 0 else xs fs a n:=λa b fs=>by
   show (if (if n=n then b else a n) then xs fs _ n^^^fs.getD n 0 else xs fs _ n)=_;rw[if_pos rfl,R_ (c:=λk=>if k=n then b else a k) (d:=a) (gs:=fs) n λj g=>⟨if_neg (by lia),U⟩]
  rcases h with h | ⟨ne,h⟩
  ·obtain⟨a,f,c1,c2⟩:=choose n m (by lia) h;refine⟨λk=>if k=n then false else a k,?_,(e a false _).trans c1,(e a false _).trans c2⟩;show (if i=n then false else a i)=false;split
   ·rfl
   ·exact f
  ·obtain⟨a,f,c1,c2⟩:=choose n _ (by lia) h;refine⟨λk=>if k=n then true else a k,(if_neg (λz=>ne z.symm)).trans f,(e a true _).trans ?_,(e a true _).trans ?_⟩
   ·show xs (FP ms) a n^^^(FP ms).getD n 0=_;rw[c1,fget hn];show (_^^^_)^^^_=_;rw[E_,HW,Nh]
   ·show xs (Em ms) a n^^^(Em ms).getD n 0=_;rw[c2,Fo hn];show (_^^^_)^^^_=_;rw[E_,HW,Nh]
theorem flip(cb:Nat->Bool)(h:cb i=false)(fs:W3):∀n,i<n->xs fs (λk=>cb k || decide (k=i)) n=xs fs cb n^^^fs.getD i 0
 | n+1,hi=>by
  show (if (cb n || decide (n=i)) then xs fs _ n^^^fs.getD n 0 else xs fs _ n)=(if cb n then xs fs cb n^^^fs.getD n 0 else xs fs cb n)^^^fs.getD i 0;by_cases e:n=i
  ·subst e;rw[Gb rfl,h,R_ (c:=λk=>cb k || decide (k=n)) (d:=cb) (gs:=fs) n λj a=>⟨by rw[FJ (by lia),iD],U⟩];rfl
  ·rw[FJ e,iD,flip cb h fs n (by lia)];split
   ·rw[E_,E_,KY (fs.getD i 0)]
   ·rfl
theorem Rp(I:Indep ms)(ok:∀m∈ms,Ok c m)(hi:i<ms.length):∃o:Mk,Ok c o/\cm o (ms.getD i (0,0,0))=1/\∀j,j<ms.length->j≠i->cm o (ms.getD j (0,0,0))=0:=by
 apply Classical.byContradiction;intro e;obtain⟨a,d,c1,c2⟩:=choose _ _ (CG _) (apart (i:=i) ok ms.length (ms.getD i (0,0,0)) (ok _ (DG hi)) (CG _) λz b=>(Xq z _).resolve_right λy=>e ⟨z,b.1,y,b.2⟩);have:=I (λk=>a k || decide (k=i)) (by rw[flip a d _ _ hi,c1,fget hi,HW]) (by rw[flip a d _ _ hi,c2,Fo hi,HW]) i hi;rw[Gb rfl,Bool.or_true]at this;cases this
theorem X2t{o:Mk}:∀(ms:List Mk) (a:Mk),cm o a=0->(∀m∈ms,cm o m=0)->cm o (ms.foldl mul a)=0
 | [],_,h,_=>h
 | m::ms,a,h,hm=>X2t ms (mul a m) (by rw[Qn,h,hm m Je]) λn b=>hm n (Ju _ b)
theorem Xp{o:Mk}(h:∀m∈ms,cm o m=0)(x:Nat):cm o (E ms x)=0:=by
 refine X2t _ _ (by unfold cm;simp[GJ]) λm a=>?_;unfold chosen at a;obtain⟨p,hp,rfl⟩:=Ej.mp a;exact h _ (DG (SJ hp))
theorem Yh{o a b:Mk}(e:a.2=b.2):cm o a=cm o b:=by unfold cm;rw[e]
theorem Zz:∀(n:Nat) {L:List Mk},L.length=n->(∀i m,L[i]?=some m->∃o:Mk,cm o m=1/\∀r∈L.take i,cm o r=0)->Indep L
 | 0,L,h,_=>λ_ _ _ j f=>absurd f (by lia)
 | n+1,L,h,ap=>by
  have e:L=L.take n++[L.getD n (0,0,0)]:=by
   have:L.take (n+1)=L:=Zj (by lia);rw[Jt,Cm (by lia)]at this;rw[CP,Cm (by lia)];exact this.symm
  have lt:(L.take n).length=n:=by rw[Hx];lia
  have I:=Zz n lt λi m c=>by
   have g:i<n:=by have:=(Et.mp c).1;lia
   rw[jA,if_pos g]at c;obtain⟨o,a,b⟩:=ap i m c;exact⟨o,a,λr d=>b r (by rw[List.take_take]at d;rwa [Nat.min_eq_left (by lia)]at d)⟩
  obtain⟨o,a,b⟩:=ap n (L.getD n (0,0,0)) (by rw[CP,Cm (by lia)];rfl);rw[e];refine uU I λx k q=>?_;have:=Xp b x;rw[Yh q,a]at this;cases this
theorem len2{R:List Mk}(I:Indep R)(ok:∀m∈R,Ok c m):R.length<=c+c:=by
 have d:∀x,Ok c (E R x):=λx=>uJ _ _ (λm i=>by
  unfold chosen at i
  obtain⟨p,hp,rfl⟩:=Ej.mp i
  exact ok _ (DG (SJ hp))) ⟨by decide,Cu c,Cu c⟩
 have:=Zr (2^(c+c)) (2^R.length) (λx=>(E R x).2.1+2^c*(E R x).2.2) (λx h=>by
  show (E R x).2.1+2^c*(E R x).2.2<2^(c+c)
  rw[Od]
  have a:=(d x).f
  have b:=Nat.mul_le_mul_left (2^c) (show (E R x).2.2+1<=2^c from (d x).s)
  rw[Nat.mul_add,ZK]at b
  lia) (λx y h j e=>Yp I h j (by
  have e:(E R x).2.1+2^c*(E R x).2.2=(E R y).2.1+2^c*(E R y).2.2:=e
  have g:=congrArg (·%2^c) e
  have d1:=congrArg (· / 2^c) e
  simp only[t_,JL (d x).f,JL (d y).f,Nat.add_mul_div_left _ _ (Cu c),Og (d x).f,Og (d y).f,Jr]at g d1
  exact Prod.ext g d1))
 exact(Nat.pow_le_pow_iff_right (by decide)).mp this
theorem W4t(I:Indep ms)(ok:∀m∈ms,Ok c m)(cz:∀a∈ms,∀b∈ms,cm a b=0):ms.length<=c:=by
 have d:∀i,∃o:Mk,i<ms.length->Ok c o/\cm o (ms.getD i (0,0,0))=1/\∀j,j<ms.length->j≠i->cm o (ms.getD j (0,0,0))=0:=λi=>by
  by_cases hi:i<ms.length
  ·obtain⟨o,h⟩:=Rp I ok hi;exact⟨o,λ_=>h⟩
  ·exact⟨(0,0,0),λz=>absurd z hi⟩
 obtain⟨D,g⟩:=Classical.axiomOfChoice d;have k:∀{t m},(ms++(List.range ms.length).map D)[t]?=some m->t<ms.length/\m=ms.getD t (0,0,0)\/∃u,t=ms.length+u/\u<ms.length/\m=D u:=λ{t m} h=>by
  by_cases q:t<ms.length
  ·rw[Wn q,Cm q]at h;refine .inl ⟨q,?_⟩;rw[CP,Cm q];exact(Option.some.inj h).symm
  ·rw[Wq (by lia),Cj]at h;obtain⟨u,f,e⟩:=Es.mp h;obtain⟨l,w⟩:=Et.mp f;rw[List.getElem_range]at w;rw[Wc]at l;exact .inr ⟨u,by lia,by lia,e.symm⟩
 have x:(ms++(List.range ms.length).map D).length=ms.length+ms.length:=by simp
 have:=len2 (c:=c) (Zz _ (L:=ms++(List.range ms.length).map D) x λt m n=>by
  rcases k n with ⟨q,rfl⟩ | ⟨u,rfl,f,rfl⟩
  ·refine⟨D t,(g t q).2.1,λr p=>?_⟩
   obtain⟨v,s,e⟩:=Wj p
   rw[Hx]at s
   rw[iZ]at e
   rcases k (Et.mpr ⟨by lia,e⟩) with ⟨q',rfl⟩ | ⟨u,rfl,_⟩
   ·exact(g t q).2.2 v q' (by lia)
   ·lia
  ·refine⟨ms.getD u (0,0,0),by rw[Ie];exact(g u f).2.1,λr p=>?_⟩
   obtain⟨v,s,e⟩:=Wj p
   rw[Hx]at s
   rw[iZ]at e
   rcases k (Et.mpr ⟨by lia,e⟩) with ⟨q',rfl⟩ | ⟨u',rfl,hu',rfl⟩
   ·exact cz _ (DG f) _ (DG q')
   ·rw[Ie]
    exact(g u' hu').2.2 u f (by lia)) λm n=>by
  obtain⟨t,y,e⟩:=Wj n;rcases k (Et.mpr ⟨y,e⟩) with ⟨q,rfl⟩ | ⟨u,_,f,rfl⟩
  ·exact ok _ (DG q)
  ·exact(g u f).1
 lia
end HD
namespace HD
open Pc Hr Dh Gg Cp
open OJ (bwd)
open Ew (Mv)
open FW (CJ Bh Br)
variable {c:Nat}{ms:List Mk}
noncomputable def ph (m r0 r:Mk):Mk:=if cm r m=0 then r else mul r r0
variable{m r0 r:Mk}
theorem Uy{o:Mk}(h:cm o r0=0):cm o (ph m r0 r)=cm o r:=by
 unfold ph;split
 ·rfl
 ·rw[Qn,h];unfold cm;lia
theorem yq(h:cm r0 m=1):cm (ph m r0 r) m=0:=by
 unfold ph;split
 ·assumption
 ·rename_i n;have:cm r m<2:=Ep _ (by decide);rw[Ie,Qn,Ie m r,Ie m r0,h];lia
variable{R:List Mk}{j0:Nat}{x:Mk}
theorem W5v{t:Nat}(h:(R.eraseIdx j0)[t]?=some x):∃i,i≠j0/\R[i]?=some x/\∀t' x',t'<t->(R.eraseIdx j0)[t']?=some x'->∃i',i'≠j0/\i'≠i/\R[i']?=some x':=by
 rw[jP]at h;by_cases q:t<j0
 ·rw[if_pos q]at h;refine⟨t,by lia,h,λt' x' b a=>⟨t',by lia,by lia,?_⟩⟩;rw[jP,if_pos (by lia)]at a;exact a
 ·rw[if_neg q]at h;refine⟨t+1,by lia,h,λt' x' b a=>?_⟩;rw[jP]at a;by_cases q':t'<j0
  ·rw[if_pos q']at a;exact⟨t',by lia,by lia,a⟩
  ·rw[if_neg q']at a;exact⟨t'+1,by lia,by lia,a⟩
theorem X2f{i:Nat}(h:R[i]?=some x):R.getD i (0,0,0)=x:=by rw[CP,h];rfl
theorem W1j(c6:c<=6)(T:Tb R)(ok:∀m∈R,DY.Ok c m){sn:Mk}(h0:R[j0]?=some r0)(om:DY.Ok c sn)(em:ev sn)(e2:sn.2=m.2)(nc:cm r0 m=1):
  Tb ((R.eraseIdx j0).map (ph m r0)++[sn])/\(∀x∈(R.eraseIdx j0).map (ph m r0)++[sn],DY.Ok c x)/\((R.eraseIdx j0).map (ph m r0)++[sn]).length=R.length:=by
 have w:j0<R.length:=(Et.mp h0).1;have g:=GQ h0;have v:∀x∈R.eraseIdx j0,x∈R:=λx d=>tu d;have j:∀x∈R,DY.Ok c (ph m r0 x)/\ev (ph m r0 x):=λx d=>by
  unfold ph;split
  ·exact⟨ok x d,T.nice.even x d⟩
  ·have a:=ok x d;have b:=ok r0 g;exact⟨⟨Ep _ (by decide),Er a.f b.f,Er a.s b.s⟩,aj (T.nice.even x d) (T.nice.even r0 g) (T.nice.com x d r0 g)⟩
 have C:∀x∈R,∀y∈R,cm (ph m r0 x) (ph m r0 y)=0:=λx d y h=>by
  have a:cm (ph m r0 x) r0=0:=by rw[Ie,Uy (T.nice.com r0 g r0 g)];exact T.nice.com r0 g x d
  rw[Uy a,Ie,Uy (T.nice.com y h r0 g)];exact T.nice.com y h x d
 have u:∀x∈R,cm (ph m r0 x) sn=0:=λx d=>by rw[Yh e2];exact yq nc
 have D:cm sn sn=0:=by unfold cm;rw[Il sn.2.2 sn.2.1];lia
 have split:∀{P:Mk->Prop},(∀x∈R,P (ph m r0 x))->P sn->∀x∈(R.eraseIdx j0).map (ph m r0)++[sn],P x:=λa b x d=>by
  rcases Io.mp d with q | q
  ·obtain⟨y,h,rfl⟩:=Ej.mp q;exact a y (v y h)
  ·rw[Fj.mp q];exact b
 have le:(R.eraseIdx j0).length=R.length-1:=List.length_eraseIdx_of_lt w;refine⟨⟨⟨split (λx d=>(j x d).1.q) om.q,split (λx d=>(j x d).2) em,split (λx d=>split (λy h=>C x d y h) (u x d)) (split (λy h=>by rw[Ie];exact u y h) D)⟩,split (λx d=>(j x d).1.v6 c6) (om.v6 c6),Zz _ rfl λt x d=>?_⟩,split (λx d=>(j x d).1) om,by rw[JM,Bg,le];simp;lia⟩;by_cases q:t<(R.eraseIdx j0).length
 ·have G:t<((R.eraseIdx j0).map (ph m r0)).length:=by rw[Bg];exact q
  rw[Wn G,Cj]at d;obtain⟨y,h,rfl⟩:=Es.mp d;obtain⟨i,M,hi,F⟩:=W5v h;have J:=(Et.mp hi).1;obtain⟨o,_,a,b⟩:=Rp T.ind ok J;rw[X2f hi]at a;have b':∀k B,k≠i->R[k]?=some B->cm o B=0:=λk B n e=>by
   have:=b k (Et.mp e).1 n;rw[X2f e]at this;exact this
  have o0:cm o r0=0:=b' j0 r0 (λz=>M z.symm) h0;refine⟨o,?_,λr l=>?_⟩
  ·rw[Uy o0];exact a
  ·rw[List.take_append_of_le_length (by lia),<-iH]at l;obtain⟨z,A,rfl⟩:=Ej.mp l;obtain⟨t',p,K⟩:=Wj A;have H:t'<t:=by rw[Hx]at p;lia
   have E:(R.eraseIdx j0)[t']?=some z:=by
    have:=Cm p;rw[K,jA,if_pos H]at this;exact this
   obtain⟨k,N,L,I⟩:=F t' z H E;rw[Uy o0];exact b' k z L I
 ·have G:((R.eraseIdx j0).map (ph m r0)).length=(R.eraseIdx j0).length:=Bg _;rw[Wq (by lia)]at d;have d:x=sn:=by
   have l1:=(Et.mp d).1;have:t-((R.eraseIdx j0).map (ph m r0)).length=0:=by simp at l1;lia
   rw[this]at d;simpa using d.symm
  subst d;refine⟨r0,by rw[Yh e2];exact nc,λr l=>?_⟩
  rw[List.take_append,show t-((R.eraseIdx j0).map (ph m r0)).length=0 by
   have:=(Et.mp d).1
   simp at this;lia]at l
  rw[WR,Mq]at l;obtain⟨z,A,rfl⟩:=Ej.mp (Zh l);rw[Uy (T.nice.com r0 g r0 g)];exact T.nice.com r0 g z (v z A)
theorem W1z(c6:c<=6)(T:Tb R)(ok:∀m∈R,DY.Ok c m)(len:R.length=c)(om:DY.Ok c m)(em:ev m)(h:∀r∈R,cm r m=0):∃x,x<2^R.length/\(E R x).2=m.2:=by
 apply Classical.byContradiction;intro g;have split:∀{P:Mk->Prop},(∀x∈R,P x)->P m->∀x∈R++[m],P x:=λa b x d=>by
  rcases Io.mp d with q | q
  ·exact a x q
  ·rw[Fj.mp q];exact b
 have f:cm m m=0:=by unfold cm;rw[Il m.2.2 m.2.1];lia
 have N:Fz (R++[m]):=⟨split T.nice.q om.q,split T.nice.even em,split (λx d=>split (T.nice.com x d) (h x d)) (split (λy i=>by rw[Ie];exact h y i) f)⟩;have:=W4t (uU T.ind λx d e=>g ⟨x,d,e⟩) (split ok om) N.com;rw[JM,sS]at this;lia
theorem X5n(c6:c<=6)(T:Tb R)(ok:∀m∈R,DY.Ok c m):R.Nodup:=by
 refine T_.mpr λi j hi d h e=>?_;obtain⟨o,_,a,b⟩:=Rp T.ind ok hi;have g:R.getD i (0,0,0)=R[i]:=by rw[CP,Cm hi];rfl
 have f:R.getD j (0,0,0)=R[j]:=by rw[CP,Cm d];rfl
 have:=b j d (by lia);rw[f,<-e,<-g,a]at this;cases this
theorem X2j:∀{R:List Mk}{j0:Nat}{r0:Mk},R.Nodup->R[j0]?=some r0->R.filter (λx=>!decide (x=r0))=R.eraseIdx j0
 | [],_,_,_,h=>by cases h
 | x::R,0,r0,n,h=>by
  have e:x=r0:=by simpa using h
  subst e;rw[Tp,if_neg (by simp),List.eraseIdx_cons_zero];refine List.filter_eq_self.mpr λy a=>?_;have:=(La.mp n).1;simp only[Bool.not_eq_true',tX];intro z;rw[z]at a;exact this a
 | x::R,j+1,r0,n,h=>by
  have h:R[j]?=some r0:=by simpa using h
  have b:x≠r0:=λz=>(La.mp n).1 (by rw[z];exact GQ h);rw[Tp,if_pos (by simp[b]),List.eraseIdx_cons_succ,X2j (La.mp n).2 h]
end HD
namespace JW
open Ba Am Pc Hw
open Lk (Ar Bl CN sg vec Um zu Z9 Qz tn Fg nought R5 Qs)
open Dh (Mk mul)
open Cp (cm ev)
open DY (Kp Nv Ks M_ N7)
variable {c:Nat}{f g:Nat->A5}{r m:Mk}
noncomputable def tr (r:Mk)(w:Nat):Nat:=2*r.1+4*pc (w&&&r.2.2)
theorem Ws(a b s:Nat):pc ((a^^^b)&&&s)%2=(pc (a&&&s)+pc (b&&&s))%2:=by
 rw[Rk];exact Pc.Jw _ _
theorem xx(a b:Nat):(a^^^b)^^^b=a:=by rw[E_,HW,Nh]
theorem X1p(hr:r.2.1<2^c)(hm:m.2.1<2^c)(k:Kp c f r){w:Nat}(hw:w<2^c):Ar m.1 m.2.1 m.2.2 f (w^^^r.2.1)=Az (Ar m.1 m.2.1 m.2.2 f w) ((tr r w+4*cm r m:Nat):Int):=by
 have d:w^^^m.2.1<2^c:=Er hw hm;have e:(w^^^r.2.1)^^^m.2.1=(w^^^m.2.1)^^^r.2.1:=by rw[E_,KY r.2.1,<-E_]
 have a:=k _ d;have g:=Ws (w^^^m.2.1) r.2.1 m.2.2;have h:=Ws w m.2.1 r.2.2;have b:cm r m=(pc (r.2.1&&&m.2.2)+pc (r.2.2&&&m.2.1))%2:=rfl;rw[Il r.2.2]at b;show Az (f ((w^^^r.2.1)^^^m.2.1)) ((2*m.1+4*pc (((w^^^r.2.1)^^^m.2.1)&&&m.2.2):Nat):Int)=Az (Az (f (w^^^m.2.1)) ((2*m.1+4*pc ((w^^^m.2.1)&&&m.2.2):Nat):Int)) _;rw[e,a,M_,M_];refine N7 _ ?_;unfold tr;lia
theorem mR(a b d e:Int):∃M,a<=M/\b<=M/\d<=M/\e<=M:=⟨max (max a b) (max d e),by lia,by lia,by lia,by lia⟩
variable{o:Nat}
theorem X2b{o':Nat}(ho:o<2)(ho':o'<2)(hr:r.2.1<2^c)(hm:m.2.1<2^c)(k:Kp c f r)(e:(o+cm r m)%2=o'%2)(H:Bl m.1 m.2.1 m.2.2 (sg o) (2^c) f g){g':Nat->A5}(H':Bl m.1 m.2.1 m.2.2 (sg o') (2^c) f g'){w:Nat}(hw:w<2^c):g' (w^^^r.2.1)=Az (g w) ((tr r w:Nat):Int):=by
 have j:w^^^r.2.1<2^c:=Er hw hr;have A:=H w hw;have B:=H' _ j;have d:f (w^^^r.2.1)=Az (f w) ((tr r w:Nat):Int):=k w hw;have l:=X1p hr hm k hw;rw[d,l]at B;obtain⟨M,h1,h2,a,b⟩:=mR (f w).2 (Ar m.1 m.2.1 m.2.2 f w).2 (g w).2 (g' (w^^^r.2.1)).2;have h:=A.eq M h1 h2 a;have i:=B.eq M (by exact h1) (by exact h2) b;refine R5 B.amt (Qs A.amt) b (by exact a) (M:=M) (Lk.bI (k:=2) (by decide) ?_);rw[i,Qz,Qz,Qz,show Lk.sm 2 (Ba.BK (tr r w) (vec (g w) M))=Ba.BK (tr r w) (Lk.sm 2 (vec (g w) M)) from (Lk.Ym _ _ _).symm,h,Lk.Qu,Lk.Ym];congr 1;have c2:cm r m<2:=Ep _ (by decide);have r4:Ba.BK (tr r w+4*cm r m) (vec (Ar m.1 m.2.1 m.2.2 f w) M)=Lk.sm (sg (cm r m)) (Ba.BK (tr r w) (vec (Ar m.1 m.2.1 m.2.2 f w) M)):=by
  rw[TY,<-Um,Lk.bG c2]
 rw[r4,Lk.Pb];congr 1;rcases (show o=0\/o=1 by lia) with rfl | rfl<;>rcases (show o'=0\/o'=1 by lia) with rfl | rfl<;>rcases (show cm r m=0\/cm r m=1 by lia) with q | q<;>rw[q]at e ⊢<;>first | rfl | (exfalso;lia)
theorem yK(ho:o<2)(hr:r.2.1<2^c)(hm:m.2.1<2^c)(k:Kp c f r)(e:cm r m=0)(H:Bl m.1 m.2.1 m.2.2 (sg o) (2^c) f g):Kp c g r:=λw a=>X2b ho ho hr hm k (by rw[e];rfl) H H a
noncomputable def seen (m:Mk)(o:Nat):Mk:=((m.1+2*o)%4,m.2)
theorem W1p(ho:o<2)(hm:m.2.1<2^c)(em:ev m)(H:Bl m.1 m.2.1 m.2.2 (sg o) (2^c) f g):Kp c g (seen m o):=λw d=>by
 have e:w^^^m.2.1<2^c:=Er d hm;have a:=Lk.Bl.laid (show (m.1+pc (m.2.1&&&m.2.2))%2=0 from em) ho hm H e;have a:Az (g ((w^^^m.2.1)^^^m.2.1)) ((2*m.1+4*pc (((w^^^m.2.1)^^^m.2.1)&&&m.2.2):Nat):Int)=Az (g (w^^^m.2.1)) ((4*o:Nat):Int):=a;rw[xx]at a;show g (w^^^m.2.1)=Az (g w) ((2*((m.1+2*o)%4)+4*pc (w&&&m.2.2):Nat):Int);have b:=congrArg (λt=>Az t ((4*o:Nat):Int)) a;simp only[M_]at b;have z:Az (g (w^^^m.2.1)) ((4*o+4*o:Nat):Int)=g (w^^^m.2.1):=by
  rw[N7 _ (b:=0) (by lia),DY.M7];rfl
 rw[z]at b;rw[<-b];refine N7 _ ?_;lia
theorem X2c{g1:Nat->A5}(hr:r.2.1<2^c)(hm:m.2.1<2^c)(k:Kp c f r)(e:cm r m=1)(H:Bl m.1 m.2.1 m.2.2 1 (2^c) f g)(H1:Bl m.1 m.2.1 m.2.2 (-1) (2^c) f g1)(M:Int):Bw g1 (2^c) M=Bw g (2^c) M/\BZ g1 (2^c) M=BZ g (2^c) M:=by
 refine W3q (t:=λw=>w^^^r.2.1) (k:=λw=>((tr r (w^^^r.2.1):Nat):Int)) (λi hi=>Er hi hr) (λi _=>xx i r.2.1) (λi hi=>?_) M;have:=X2b (o:=0) (o':=1) (by decide) (by decide) hr hm k (by rw[e]) H (g':=g1) H1 (w:=i^^^r.2.1) (Er hi hr);rw[xx]at this;exact this
end JW
namespace Bd
open L2 Am Pc Ba Hw Pq Gx Lq
open Lk hiding Nz
open Dh (Mk)
open Cp (ev)
open Aj (top Bs Cw Bk Cz Q5)
open Ay (L3 Fe)
def rM (f:Nat->A5)(c:Nat):Prop:=∃i,i<2^c/\f i≠nought
theorem uP{t r b x y z:Int}(l:Low t r b x y z):x*b=t*z/\y*b=r*z:=by
 obtain⟨g,_,e1,e2,a⟩:=l.ex;subst e1 e2 a;constructor<;>grind
theorem W4b{p q n p' q' n' x y z a b c:Int}(hz:0<z)(e1:x*(p'*p'-2*q'*q')=n'*p'*z)(e2:y*(p'*p'-2*q'*q')=-n'*q'*z)(R:p'*p'-2*q'*q'≠0)
  (hc:0<c) (co:Ly a b c) (f1:a*(n*z)=(p*x+2*q*y)*c) (f2:b*(n*z)=(p*y+q*x)*c):rF p q n p' q' n' a b c:=by
 have g1:x*p'+2*y*q'=n'*z:=by
  apply Ka R;have:(x*p'+2*y*q')*(p'*p'-2*q'*q')=x*(p'*p'-2*q'*q')*p'+2*(y*(p'*p'-2*q'*q'))*q':=by grind
  rw[this,e1,e2];grind
 have g2:y*p'+x*q'=0:=by
  have:(y*p'+x*q')*(p'*p'-2*q'*q')=0:=by
   have:(y*p'+x*q')*(p'*p'-2*q'*q')=y*(p'*p'-2*q'*q')*p'+x*(p'*p'-2*q'*q')*q':=by grind
   rw[this,e1,e2];grind
  rcases QT.mp this with h | h
  ·exact h
  ·exact absurd h R
 have z0:z≠0:=by lia
 refine⟨hc,co,?_,?_⟩
 ·apply Ka z0;have:(a*p'+2*b*q')*n*z=a*(n*z)*p'+2*(b*(n*z))*q':=by grind
  rw[this,f1,f2];have:(p*x+2*q*y)*c*p'+2*((p*y+q*x)*c)*q'=c*(p*(x*p'+2*y*q')+2*q*(y*p'+x*q')):=by grind
  rw[this,g1,g2];grind
 ·apply Ka z0;have:(a*q'+b*p')*n*z=a*(n*z)*q'+b*(n*z)*p':=by grind
  rw[this,f1,f2];have:(p*x+2*q*y)*c*q'+(p*y+q*x)*c*p'=c*(p*(y*p'+x*q')+q*(x*p'+2*y*q')):=by grind
  rw[this,g1,g2];grind
structure S3 (B D:Nat) (x y z:Int):Prop where
 x:Sz B x
 y:Sz B y
 z:Sz D z
def xJ:Sp:=λvs H Q _=>∃(a b:W9) (p q n p' q' n':Int),vs=[.ref a,.ref b]/\H a=some (T3 p q n)/\H b=some (T3 p' q' n')/\0<n/\0<n'/\S3 3000 500 p q n/\S3 2700 5000 p' q' n'/\∀(r:W9) (H':Hp) (x y z:Int),Same H H'->H' r=some (T3 x y z)->Low (p*p'+2*q*q') (p*q'+q*p') (n*n') x y z->Q (.ref r) H'
def vX:Sp:=λvs H Q _=>∃(a b:W9) (p q n p' q' n':Int),vs=[.ref a,.ref b]/\H a=some (T3 p q n)/\H b=some (T3 p' q' n')/\0<n/\0<n'/\S3 3000 500 p q n/\S3 2400 200 p' q' n'/\¬ (p'=0/\q'=0)/\∀(r:W9) (H':Hp) (x y z:Int),Same H H'->H' r=some (T3 x y z)->rF p q n p' q' n' x y z->S3 5800 5800 x y z->Q (.ref r) H'
def uo (K:U0):Sp:=λvs H Q _=>∃(l p ah:W9) (ps:U3) (f:Nat->A5) (c n m:Nat) (mk:Mk) (o:Nat) (hx hy hz:Int),vs=[.ref l,.ref p,.int o,.ref ah]/\Cz K H l ps f c n m/\c<=6/\n<=800/\m<=90/\H p=some (Ay.T3 mk)/\Fe c mk/\o<2/\H ah=some (T3 hx hy hz)/\He f (2^c) hx hy hz/\S3 2400 200 hx hy hz/\rM f c /\
 ∀(r:W9) (H':Hp) (g:Nat->A5) (x y z:Int),Same H H'->H' r=some (T3 x y z)->Bl mk.1 mk.2.1 mk.2.2 (sg o) (2^c) f g->(∀i,i<2^c->Fg (g i))->Sh f g (2^c) x y z->S3 5800 5800 x y z->Q (.ref r) H'
def wu (K:U0):Sp:=λvs H Q _=>∃(l p:W9) (ps:U3) (f:Nat->A5) (c n m:Nat) (mk:Mk),vs=[.ref l,.ref p]/\Cz K H l ps f c n m/\c<=6/\n<=800/\m<=90/\H p=some (Ay.T3 mk)/\Fe c mk/\ev mk/\rM f c /\
 ∀(r t0 t1:W9) (H':Hp) (g:Nat->Nat->A5) (x y z:Nat->Int),Same H H'->H' r=some (.tup [.ref t0,.ref t1])->H' t0=some (T3 (x 0) (y 0) (z 0))->H' t1=some (T3 (x 1) (y 1) (z 1))->(∀o,o<2->Bl mk.1 mk.2.1 mk.2.2 (sg o) (2^c) f (g o)/\(∀i,i<2^c->Fg (g o i))/\Sh f (g o) (2^c) (x o) (y o) (z o)/\S3 5800 5800 (x o) (y o) (z o))->Q (.ref r) H'
section
variable {P:U8}{w:W1}{K:U0}{mg:U4}{base:Heap}{k:Nat}{h:Heap}
theorem Y9y(F:Ab K "share_times" (top 14) .none)(X:K.In h)(G:Ng h mg)(d5:Ah P w K mg base k "share" ["top","root","bottom"] bW):Ah P w K mg base (k+1) "share_times" ["one","other"] xJ:=by
 refine F.cal X G ["one","other","top","root"] λs H vs Q E D h=>?_;obtain⟨a,b,p,q,n,A,v,C,rfl,t,hb,I,u,⟨l,m,e⟩,⟨f,g,o⟩,kk⟩:=h;have c:Ag K H a [.int p,.int q,.int n]:=Ag.of t;have d:Ag K H b [.int A,.int v,.int C]:=Ag.of hb;have two:Sz 3002 (2*q):=((show Sz 2 2 by decide).mul m).mono (by decide);have mm:∀{x y:Int}{i j:Nat},Sz i x->Sz j y->i<=10000->j<=10000->JZ x y:=λh h' a b=>⟨_,_,h,h',by lia⟩
 refine⟨_,(@Aq _ _ _ _ _ (@Bb _ _ 2 _ _ _ _ s rfl (Or.inl rfl) (Af El (Af Nx (Ai Ao (pv 0) Ac (λ_ _=>rfl)) (Ai Ao (pv 1) Ac (λ_ _=>rfl))) (Af Nx (Af Nu Ac (Ai Ao (pv 0) Ac (λ_ _=>rfl))) (Ai Ao (pv 1) Ac (λ_ _=>rfl)))) rfl (.inl rfl))
  (@Aq _ _ _ _ _ (@Bb _ _ 3 _ _ _ _ s rfl (Or.inl rfl) (Af El (Af Nx (Ai Ao (pv 0) Ac (λ_ _=>rfl)) (Ai Ao (pv 1) Ac (λ_ _=>rfl))) (Af Nx (Ai Ao (pv 0) Ac (λ_ _=>rfl)) (Ai Ao (pv 1) Ac (λ_ _=>rfl)))) rfl (.inl rfl))
  (@Ak _ _ _ (BJ (Av d5 D rfl (Aa (pv 2) (Aa (pv 3) (Aa (Af Nx (Ai Ao (pv 0) Ac (λ_ _=>rfl)) (Ai Ao (pv 1) Ac (λ_ _=>rfl))) Ae)))))))),?_⟩
 try dsimp only[Bm]
 refine⟨_,U,a,_,_,_,U,U,c,U,_,U,b,_,_,_,U,U,d,U,_,_,U,U,mm l f (by decide) (by decide),_,U,a,_,_,_,U,U,c,U,_,_,U,U,.inl ⟨by decide,by decide⟩,_,U,b,_,_,_,U,U,d,U,_,_,U,U,mm two g (by decide) (by decide),_,_,U,U,?_⟩;refine⟨_,U,a,_,_,_,U,U,c,U,_,U,b,_,_,_,U,U,d,U,_,_,U,U,mm l g (by decide) (by decide),_,U,a,_,_,_,U,U,c,U,_,U,b,_,_,_,U,U,d,U,_,_,U,U,mm m f (by decide) (by decide),_,_,U,U,?_⟩;exact⟨_,U,_,U,_,U,a,_,_,_,U,U,c,U,_,U,b,_,_,_,U,U,d,U,_,_,U,U,mm e o (by decide) (by decide),_,_,_,U,RZ (by lia) (by lia),(e.mul o).mono (by decide),λr H' x y z B e1 l1=>kk r H' x y z B e1 l1⟩
theorem X4t(F:Ab K "share_over" (top 15) .none)(X:K.In h)(G:Ng h mg)(d5:Ah P w K mg base k "share" ["top","root","bottom"] bW)(eC:Ah P w K mg base k "share_times" ["one","other"] xJ):Ah P w K mg base (k+1) "share_over" ["one","other"] vX:=by
 refine F.cal X G ["one","other","rootless"] λnd H vs Q E D h=>?_;obtain⟨a,b,p,q,n,l,f,W,rfl,L,hb,Z,M,⟨u,v,B⟩,⟨g,m,o⟩,nz,kk⟩:=h;have d:Ag K H b [.int l,.int f,.int W]:=Ag.of hb;have mm:∀{x y:Int}{i j:Nat},Sz i x->Sz j y->i<=10000->j<=10000->JZ x y:=λh h' a b=>⟨_,_,h,h',by lia⟩;have two:Sz 2402 (2*f):=((show Sz 2 2 by decide).mul m).mono (by decide);have R:l*l-2*f*f≠0:=λe=>nz (KQ (by lia));have C:Sz 4804 (l*l-2*f*f):=((g.mul g).sub (two.mul m)).mono (by decide)
 refine⟨_,(@Aq _ _ _ _ _ (@Bb _ _ 2 _ _ _ _ nd rfl (Or.inl rfl) (Af Ji (Af Nx (Ai Ao (pv 1) Ac (λ_ _=>rfl)) (Ai Ao (pv 1) Ac (λ_ _=>rfl))) (Af Nx (Af Nu Ac (Ai Ao (pv 1) Ac (λ_ _=>rfl))) (Ai Ao (pv 1) Ac (λ_ _=>rfl)))) rfl (.inl rfl))
  (@Aq _ _ _ _ _ (Bx (B_ Dr (pv 2) Ac (Ad _))
   (@Ak _ _ _ Jj)
   CK)
  (@Ak _ _ _ (BJ (Av eC D rfl (Aa (pv 0) (Aa (Av d5 D rfl (Aa (Af Nx (Ai Ao (pv 1) Ac (λ_ _=>rfl)) (Ai Ao (pv 1) Ac (λ_ _=>rfl))) (Aa (Af Nx (Mz O6 (Ai Ao (pv 1) Ac (λ_ _=>rfl))) (Ai Ao (pv 1) Ac (λ_ _=>rfl))) (Aa (pv 2) Ae)))) Ae))))))),?_⟩
 try dsimp only[Bm]
 refine⟨_,U,b,_,_,_,U,U,d,U,_,U,b,_,_,_,U,U,d,U,_,_,U,U,mm g g (by decide) (by decide),_,U,b,_,_,_,U,U,d,U,_,_,U,U,.inl ⟨by decide,by decide⟩,_,U,b,_,_,_,U,U,d,U,_,_,U,U,mm two m (by decide) (by decide),_,_,U,U,?_⟩;refine⟨_,U,U,_,U,K4 (λc=>absurd c R) (λ_=>?_)⟩;refine⟨_,U,_,U,b,_,_,_,U,U,d,U,_,U,b,_,_,_,U,U,d,U,_,_,U,U,mm o g (by decide) (by decide),_,U,b,_,_,_,U,U,d,U,_,U,_,U,b,_,_,_,U,U,d,U,_,_,U,U,mm o.neg m (by decide) (by decide),_,U,_,_,_,U,R,C.mono (by decide),λV H1 x y z A e1 l1=>?_⟩;obtain⟨O,S,m3⟩:=l1.sizes;have t:Sz 2700 x:=((o.mul g).mono (by decide)).le O;have s:Sz 2700 y:=((o.neg.mul m).mono (by decide)).le S;have I:Sz 4804 z:=C.le m3;refine⟨a,V,p,q,n,x,y,z,U,A _ _ L,e1,Z,l1.pos,⟨u,v,B⟩,⟨t,s,I.mono (by decide)⟩,λr H' a' b' c' Y e2 l2=>?_⟩;obtain⟨T,J⟩:=uP l1;obtain⟨f1,N⟩:=uP l2;obtain⟨o1,o2,o3⟩:=l2.sizes;refine kk r H' a' b' c' (A.trans Y) e2 (W4b l1.pos T J R l2.pos l2.cop f1 N) ⟨?_,?_,?_⟩
 ·exact(((u.mul t).add (((show Sz 2 2 by decide).mul v).mul s)).mono (by decide)).le o1
 ·exact(((u.mul s).add (v.mul t)).mono (by decide)).le o2
 ·exact((B.mul I).mono (by decide)).le o3
theorem X0i(F:Ab K "left_share" (top 100) .none)(X:K.In h)(G:Ng h mg)(eQ:Ah P w K mg base k "share_over" ["one","other"] vX)(eI:Ah P w K mg base k "heft" ["board"] (Jo K))(cJ:Ah P w K mg base k "half_left" ["board","mark","outcome"] (bU K)):Ah P w K mg base (k+1) "left_share" ["board","mark","outcome","ahead"] (uo K):=by
 refine F.cal X G ["board","mark","outcome","ahead"] λnd H vs Q E j h=>?_;obtain⟨l,p,O,ps,f,c,n,m,S,o,s,u,T,rfl,A,c6,n1,m1,hp,hf,o2,L,b,D,d,kk⟩:=h;have R:∀w,w<2^c->Fg (f w):=λw B=>(A.ok w B).amt;have a:¬ (s=0/\u=0):=λz=>Pos.zero (by have:=W5r b R d;rw[z.1,z.2]at this;exact this);refine⟨_,(@Ak _ _ _ (BJ (Av eQ j rfl (Aa (Av eI j rfl (Aa (Av cJ j rfl (Aa (pv 0) (Aa (pv 1) (Aa (pv 2) Ae)))) Ae)) (Aa (pv 3) Ae))))),?_⟩;try dsimp only[Bm]
 refine⟨_,U,_,U,_,U,l,p,ps,f,c,n,m,S,o,U,A,c6,by lia,by lia,hp,hf,o2,λW H1 C g nr r t hb=>?_⟩;refine⟨W,C,g,c,_,_,U,t,c6,by lia,by lia,λM H2 ux uy V q e2 v J sy sz=>?_⟩;refine⟨_,U,M,O,ux,uy,V,s,u,T,U,e2,(r.trans q) _ _ L,v.pos,b.pos,⟨J.mono (by lia),sy.mono (by lia),sz.mono (by lia)⟩,D,a,λY I x y z e N ov Z=>?_⟩;exact kk Y I g x y z ((r.trans q).trans e) N hb (λi hi=>(t.ok i hi).amt) (Sh.of v b ov) Z
theorem X0j(F:Ab K "looked" (top 99) .none)(X:K.In h)(G:Ng h mg)(cH:Ah P w K mg base k "check_look" ["mark","cells"] Gi)(cF:Ah P w K mg base k "cells_of" ["board"] (Q5 K))(eI:Ah P w K mg base k "heft" ["board"] (Jo K))(dB:Ah P w K mg base k "left_share" ["board","mark","outcome","ahead"] (uo K)):Ah P w K mg base (k+1) "looked" ["board","mark"] (wu K):=by
 refine F.cal X G ["board","mark","ahead"] λZ H vs Q E a h=>?_;obtain⟨l,p,ps,f,c,n,m,q,rfl,i,c6,B,y,hp,Cv,T,b,kk⟩:=h
 refine⟨_,(@Aq _ _ _ _ _ (Ny (Av cH a rfl (Aa (pv 1) (Aa (Av cF a rfl (Aa (pv 0) Ae)) Ae))))
  (@Aq _ _ _ _ _ (@Bb _ _ 2 _ _ _ _ Z rfl (Or.inl rfl) (Av eI a rfl (Aa (pv 0) Ae)) rfl (.inl rfl))
  (@Ak _ _ _ (BJ (@Dg _ _ _ _ _ (Aa (Av dB a rfl (Aa (pv 0) (Aa (pv 1) (Aa Ac (Aa (pv 2) Ae))))) (Aa (Av dB a rfl (Aa (pv 0) (Aa (pv 1) (Aa Ac (Aa (pv 2) Ae))))) Ae))))))),?_⟩
 try dsimp only[Bm]
 refine⟨_,U,_,U,l,_,c,U,Aw.of i.lst,by rw[Bg,i.len],c6,p,q,c,U,hp,Cv,T,?_⟩;refine⟨_,U,l,ps,f,c,n,m,U,i,c6,by lia,by lia,λz H1 j t hz g e1 x D Y sz=>?_⟩;have u:S3 2400 200 j t hz:=⟨D.mono (by lia),Y.mono (by lia),sz.mono (by lia)⟩;have A:=i.same g;refine⟨_,U,_,U,_,U,l,p,z,ps,f,c,n,m,q,0,j,t,hz,U,A,c6,B,y,g _ _ hp,Cv,by decide,e1,x,u,b,λv H2 g0 x0 J z0 e e2 L O S M=>?_⟩;refine⟨_,U,_,U,_,U,l,p,z,ps,f,c,n,m,q,1,j,t,hz,U,A.same e,c6,B,y,(g.trans e) _ _ hp,Cv,by decide,e _ _ e1,x,u,b,λt1 H3 g1 x1 R W d e3 h1 C N I=>?_⟩;refine⟨t2,λr a=>?_⟩;have s:=BR a (.tup [V.ref v,V.ref t1]);refine kk r v t1 _ (λo=>if o=0 then g0 else g1) (λo=>if o=0 then x0 else x1) (λo=>if o=0 then J else R) (λo=>if o=0 then z0 else W) ((g.trans e).trans (d.trans s)) Ax (s _ _ (d _ _ e2)) (s _ _ e3) λo ho=>?_;rcases (show o=0\/o=1 by lia) with rfl | rfl
 ·exact⟨L,O,S,M⟩
 ·exact⟨h1,C,N,I⟩
end
end Bd
set_option maxHeartbeats 4000000
namespace Ay
open L2 Pc Hr Dh Gg
open Cp (Cq vec V6 wl J9 ev Dy)
end Ay
namespace L2
theorem wL{K:U0}{l:W9}{xs:List V}{tc:TT}{te:TE}{fr:L2.St}{H1:Hp}{acc:W9}{Q:VK}(Pv:Nat->List V->Hp->Prop)(hn:xs.length<=sizeLine)(h0:Pv 0 [] (upd H1 acc (.lst [])))(hl:∀i ys H,Pv i ys H->Aw K H l xs)
  (hs:∀i x ys H (N:Bool->Hp->Prop),xs[i]?=some x->ys.length<=i->Pv i ys H->(∀b a,(b=true->te (some x::fr) a λy d=>d acc=some (.lst ys)/\Pv (i+1) (ys++[y]) (upd d acc (.lst (ys++[y]))))->(b=false->Pv (i+1) ys a)->N b a)->tc (some x::fr) H N)
  (mono:∀{σ H}{R R':VK},(∀v H,R v H->R' v H)->te σ H R->te σ H R')
  (hd:∀ys H,Pv xs.length ys H->Q (.ref acc) H):NP (Lx K l) (CZ 0) tc te (none::fr) H1 acc Q:=by
 refine⟨λi m ys h H2=>m=xs.length-i/\i<=xs.length/\ys.length<=i/\(∃v,h=v::fr)/\Pv i ys H2,⟨xs.length,by simp,Gz _,CG _,⟨_,U⟩,h0⟩,?_⟩;rintro i m ys h H2 ⟨rfl,hi,c,⟨v,rfl⟩,p⟩;have f:=hl i ys H2 p;by_cases hlt:i<xs.length
 ·have g:xs[i]?=some xs[i]:=by simp[hlt]
  refine .inr ⟨⟨_,_,f,g⟩,λu o n=>?_⟩;obtain⟨rfl,j⟩:=n;have:=j _ f;rw[g]at this;cases this;refine hs i _ ys _ _ g c p λb a k hf=>⟨λe=>mono (λy d q=>?_) (k e),λe=>⟨xs.length-(i+1),by lia,U,hlt,by lia,⟨_,U⟩,hf e⟩⟩;exact⟨q.1,by lia,xs.length-(i+1),by lia,U,hlt,by rw[JM];simp;lia,⟨_,U⟩,q.2⟩
 ·have e:i=xs.length:=by lia
  subst e;exact .inl ⟨⟨_,f,CG _⟩,hd ys H2 p⟩
end L2
namespace K61
open L2 Am Pc Ba
section
variable {P:U8}{w:W1}{K:U0}{mg:U4}{base:Heap}{k:Nat}{h:Heap}
end
namespace Mv
end Mv
section
variable {c a b d w:Nat}
end
section
variable {P:U8}{w:W1}{K:U0}{mg:U4}{base:Heap}{k:Nat}{h:Heap}
end
end K61
set_option maxHeartbeats 1000000
namespace M90
open Ba Am Pc
open DY (Kp M7 M_ N7 Us)
open Cp (cm ev)
open Dh (Mk mul)
variable {c m:Nat}{f g:Nat->A5}{r p:Mk}
end M90
namespace Yy
open Ba Am Pc M90
open DY (Kp)
open Cp (cm ev Dy Off Cq vec Fz)
open Dh (Mk mul bit Ib)
variable {c i m w0:Nat}{S:List Mk}{f g:Nat->A5}{r:Mk}
theorem aM(h:S[i]?=some r):S.take (i+1)=S.take i++[r]:=by
 rw[Jt,h];rfl
end Yy
namespace Bc
open L2 Ba Am Pc Ew
open Dc (Dv)
open FW (Mk CJ Bh Br)
end Bc
namespace Bd
open L2 Am Pc Ba
open Dh (Mk mul chosen)
open Cp (ev cm Dy)
open Aj (top Bs)
open Ay (L3 Fe comm G4 CW Z6 aJ Q6 aK)
theorem snoc{H:Hp}:∀{ps:U3}{ms:List Mk}{p:W9}{m:Mk},CW H ps ms->H p=some (Ay.T3 m)->CW H (ps++[p]) (ms++[m])
 | _,_,_,_,.nil,h=>.cons h .nil
 | _,_,_,_,.cons a r,h=>.cons a (snoc r h)
theorem mY{p:Prop}[Decidable p]{A B:VK->Prop}{R:VK}(G:VK)(h:∀v H,G v H->R v H)(a:p->∀R:VK,(∀v H,G v H->R v H)->A R)(b:¬ p->∀R:VK,(∀v H,G v H->R v H)->B R):if decide p=true then A R else B R:=A_ (λz=>a z R h) (λz=>b z R h)
inductive Hq (R:List Mk) (m:Mk):Nat->Prop where
 | apart {o:Mk} (of:o.2.1<2^R.length) (os:o.2.2<2^R.length) (h1:comm o m=1) (h2:∀r∈R,comm o r=0):Hq R m 2
 | made {kk x:Nat} (k4:kk<4) (e:(chosen R x R.length).foldl mul (kk,0,0)=m):Hq R m (if kk=0 then 0 else 1)
noncomputable def Hi (aS aN aH:W9)(d o:Nat):Addr:=if d=2 then aH else if d=o then aS else aN
def Ob (aS aN aH:W9):Sp:=λvs H Q _=>∃(l p:W9) (ps:U3) (R:List Mk) (c:Nat) (m:Mk),vs=[.ref l,.ref p]/\G4 c H l ps R/\R.length=c/\c<=6/\H p=some (Ay.T3 m)/\Fe c m /\
 ∀(r:W9) (H':Hp) (d:Nat),Same H H'->Hq R m d->H' r=some (.tup [.ref (Hi aS aN aH d 0),.ref (Hi aS aN aH d 1)])->Q (.ref r) H'
def fL (R:List Mk)(m:Mk)(o:Nat)(R':List Mk):Prop:=(R'=R/\∀r∈R,cm r m=0)\/∃j0 r0,R[j0]?=some r0/\cm r0 m=1/\R'=(R.eraseIdx j0).map (HD.ph m r0)++[JW.seen m o]
def Vz:Sp:=λvs H Q _=>∃(l p:W9) (ps:U3) (R:List Mk) (c:Nat) (m:Mk) (o:Nat),vs=[.ref l,.ref p,.int o]/\G4 c H l ps R/\R.length=c/\1<=c/\c<=6/\H p=some (Ay.T3 m)/\Fe c m/\ev m/\o<2/\(∀d,Hq R m d->d=2\/d=o) /\
 ∀(r:W9) (H':Hp) (qs:U3) (S R':List Mk),H r=none->Same H H'->H' r=some (.lst (qs.map V.ref))->CW H' qs S->fL R m o R'->Cp.Tb R'->(∀x∈R',DY.Ok c x)->R'.length=c->Cp.Dm R' S->S.length=R'.length->S.Pairwise (λa b=>Dy a<=Dy b)->Q (.ref r) H'
section
variable {P:U8}{w:W1}{K:U0}{mg:U4}{base:Heap}{k:Nat}{h:Heap}
variable{aSURE aNEVER aHALF:W9}
theorem W7h(gSURE:mg "SURE"=some (.ref aSURE))(gNEVER:mg "NEVER"=some (.ref aNEVER))(gHALF:mg "HALF"=some (.ref aHALF))(F:Ab K "table_looked" (top 91) .none)(X:K.In h)(G:Ng h mg)(B:Bs mg)(dC:Ah P w K mg base k "made_of" ["rows","mark","cells"] (Z6 K)):Ah P w K mg base (k+1) "table_looked" ["rows","mark"] (Ob aSURE aNEVER aHALF):=by
 refine F.cal X G ["rows","mark","told"] λx H vs Q E u h=>?_;obtain⟨l,p,ps,R,c,m,rfl,T,g,c6,hp,Cv,n⟩:=h;have q:Aw K H l (ps.map V.ref):=Aw.of T.lst;have j:(ps.map V.ref).length=c:=by rw[Bg,T.mks.length,g]
 refine⟨_,(@Aq _ _ _ _ _ (@Bb _ _ 2 _ _ _ _ x rfl (Or.inl rfl) (Av dC u rfl (Aa (pv 0) (Aa (pv 1) (Aa (Ck Ig rfl B.len HX (Aa (pv 0) Ae)) Ae)))) rfl (.inl rfl))
  (@Aq _ _ _ _ _ (Bx (B_ Dr (Ai Ao (pv 2) Ac (λ_ _=>rfl)) Fq (Ad _))
   (@Ak _ _ _ (BJ (@Dg _ _ _ _ _ (Aa (Hj (v:=.ref aHALF) rfl gHALF rfl) (Aa (Hj (v:=.ref aHALF) rfl gHALF rfl) Ae)))))
   CK)
  (@Ak _ _ _ (BJ (Kl (B_ Dr (Ai Ao (pv 2) Ac (λ_ _=>rfl)) Ac (Ad _)) (@Dg _ _ _ _ _ (Aa (Hj (v:=.ref aSURE) rfl gSURE rfl) (Aa (Hj (v:=.ref aNEVER) rfl gNEVER rfl) Ae))) (@Dg _ _ _ _ _ (Aa (Hj (v:=.ref aNEVER) rfl gNEVER rfl) (Aa (Hj (v:=.ref aSURE) rfl gSURE rfl) Ae)))))))),?_⟩
 try dsimp only[Bm]
 refine⟨_,U,_,U,_,U,l,_,U,.inl q,l,p,ps,R,m,c,by rw[j];rfl,q,T.mks,hp,c6,T.len,T.ok,Cv,λr H1 i b=>?_⟩;rcases b with ⟨k1,y,ln,_,hrt,_,k4,hf⟩ | ⟨pp,o,hrt,_,oko,_,c1,c0⟩
 ·have d:Ag K H1 r [.str "made",.int k1,.ref ln]:=Ag.of hrt;refine⟨_,U,r,_,_,_,U,U,d,U,U,_,U,A_ (λz=>absurd z (λe=>absurd (V.str.inj e) (by decide +kernel))) (λ_=>?_)⟩;refine⟨_,U,r,_,_,_,U,U,d,U,U,_,U,A_ (λz=>?_) (λz=>?_)⟩
  ·have z0:k1=0:=by have:=V.int.inj z;lia
   refine⟨t2,λt a=>n t _ 0 (i.trans (BR a _)) ?_ (by rw[Ax];rfl)⟩;have:=Hq.made k4 hf;rwa [if_pos z0]at this
  ·have z0:k1≠0:=λe=>z (by rw[e];rfl);refine⟨t2,λt a=>n t _ 1 (i.trans (BR a _)) ?_ (by rw[Ax];rfl)⟩;have:=Hq.made k4 hf;rwa [if_neg z0]at this
 ·have d:Ag K H1 r [.str "apart",.ref pp]:=Ag.of hrt;refine⟨_,U,r,_,_,_,U,U,d,U,U,_,U,A_ (λ_=>?_) (λz=>absurd rfl z)⟩;exact⟨t2,λt a=>n t _ 2 (i.trans (BR a _)) (.apart (by rw[g];exact oko.f) (by rw[g];exact oko.s) c1 c0) (by rw[Ax];rfl)⟩
theorem QG:Ce ["rows","mark","outcome","others","seen","kept"] ["rows","mark","outcome"] (Dp (top 92)):=fS
theorem W7g(gNEVER:mg "NEVER"=some (.ref aNEVER))(kS:∀H,Ag K H aSURE ([1,0,1].map V.int))(kN:∀H,Ag K H aNEVER ([0,0,1].map V.int))(kH:∀H,Ag K H aHALF ([1,0,2].map V.int))(F:Ab K "table_settled" (top 92) .none)(X:K.In h)(G:Ng h mg)(B:Bs mg)(cD:Ah P w K mg base k "table_looked" ["rows","mark"] (Ob aSURE aNEVER aHALF))(cV:Ah P w K mg base k "commute" ["one","other"] (aJ K))(cX:Ah P w K mg base k "reduced" ["rows","cells"] aK)(c8:Ah P w K mg base k "turned_about" ["mark"] (Bc.YC K))(cO:Ah P w K mg base k "product" ["one","other"] (Q6 K)):Ah P w K mg base (k+1) "table_settled" ["rows","mark","outcome"] Vz:=by
 refine F.cal X G _ (S:=QG) λnd H vs Q E u h=>?_;obtain⟨l,p,ps,R,c,m,o,rfl,T,lR,c1,c6,hp,Cv,em,o2,b0,kq⟩:=h;have SL:Aw K H l (ps.map V.ref):=Aw.of T.lst;have n:(ps.map V.ref).length=c:=by rw[Bg,T.mks.length,lR]
 have ok:∀x∈R,DY.Ok c x:=λx g=>⟨(T.ok x g).q,(T.ok x g).f,(T.ok x g).s⟩
 refine⟨_,(@Aq _ _ _ _ _ (Bx (B_ (o9 u.units) (Ai Ao (Av cD u rfl (Aa (pv 0) (Aa (pv 1) Ae))) (pv 2) (λ_ _=>rfl)) (Hj (v:=.ref aNEVER) rfl gNEVER rfl) (Ad _))
   (@Ak _ _ _ Jj)
   CK)
  (@Aq _ _ _ _ _ (@Bb _ _ 3 _ _ _ _ nd rfl (Or.inr rfl) (bB rfl (Bp.of (Nc:=["row","mark"]) (mp:=[none,some 1]) (by kernel_rfl)) (G_ (pv 0)) (λ_ _ _ _=>(DR (i:=0) (show (["row","mark"]:W0).Nodup by decide +kernel) rfl (Or.inl rfl))) (λ_ _ _ _=>(FQ (Du (Av cV u rfl (Aa (pv 0) (Aa (pv 1) Ae)))))) (λ_ _ _ _=>(pv 0))) rfl (.inl rfl))
  (@Aq _ _ _ _ _ (Bx (B_ Dr (Ck Ig rfl B.len HX (Aa (pv 3) Ae)) Ac (Ad _))
   (@Ak _ _ _ (BJ (Av cX u rfl (Aa (pv 0) (Aa (Ck Ig rfl B.len HX (Aa (pv 0) Ae)) Ae)))))
   CK)
  (@Aq _ _ _ _ _ (@Bb _ _ 4 _ _ _ _ nd rfl (Or.inl rfl) (Kl (B_ Dr (pv 2) Ac (Ad _)) (Av c8 u rfl (Aa (pv 1) Ae)) (pv 1)) rfl (.inl rfl))
  (@Aq _ _ _ _ _ (yP (i:=5) rfl nd rfl rfl (Bp.of (Nc:=["row","mark","others"]) (mp:=[none,some 1,some 3]) (by kernel_rfl)) (G_ (pv 0)) (λ_ _ _ _=>(DR (i:=0) (show (["row","mark","others"]:W0).Nodup by decide +kernel) rfl (Or.inl rfl))) (λ_ _ _ _=>(B_ (X4m u.units) (pv 0) (Ai Z0 (pv 2) Ac (λ_ _=>rfl)) (Ad _))) (λ_ _ _ _=>(Kl (Du (Av cV u rfl (Aa (pv 0) (Aa (pv 1) Ae)))) (pv 0) (Av cO u rfl (Aa (pv 0) (Aa (Ai Z0 (pv 2) Ac (λ_ _=>rfl)) Ae))))) rfl)
  (@Ak _ _ _ (BJ (Av cX u rfl (Aa (Af au (pv 5) (@Li _ _ _ _ (Aa (pv 4) Ae))) (Aa (Ck Ig rfl B.len HX (Aa (pv 0) Ae)) Ae)))))))))),?_⟩
 try dsimp only[Bm]
 have at0:∀d:Nat,Gv [V.ref (Hi aSURE aNEVER aHALF d 0),V.ref (Hi aSURE aNEVER aHALF d 1)] (o:Int)=some (.ref (Hi aSURE aNEVER aHALF d o)):=λd=>by
  rcases (by lia:o=0\/o=1) with z | z<;>subst z<;>rfl
 refine⟨_,U,_,U,l,p,ps,R,c,m,U,T,lR,c6,hp,Cv,λr0 H1 d C ld b1=>?_⟩;obtain⟨ns,k1,k2⟩:∃ns:List Int,Ag K H1 (Hi aSURE aNEVER aHALF d o) (ns.map V.int)/\ns≠[0,0,1]:=by
  unfold Hi;by_cases q:d=2
  ·rw[if_pos q];exact⟨_,kH H1,by decide⟩
  ·rw[if_neg q,if_pos ((b0 d ld).resolve_left q)];exact⟨_,kS H1,by decide⟩
 refine⟨_,U,r0,_,_,_,U,U,Ag.of b1,at0 d,_,_,ns,_,U,U,k1,kN H1,_,U,A_ (λz=>absurd z k2) (λ_=>?_)⟩;refine⟨_,U,l,U,⟨_,C.seq SL⟩,λacc O=>?_⟩;refine wL (K:=K) (l:=l) (xs:=ps.map V.ref) (fr:=[some (.ref p)]) (λi ys H'=>Same H1 H'/\H' acc=some (.lst ys)/\∃os:List Addr,ys=os.map V.ref/\CW H' os ((R.take i).filter λx=>!decide (comm x m=0)))
  (by rw[n];exact JB (by lia)) ⟨BR O _,Ax,[],U,.nil⟩ (λi ys H' e=>e.1.seq (C.seq SL)) ?_ (λhm z=>?_) ?_
 ·rintro i x ys W N g hy ⟨S3,a3,os,rfl,Z⟩ kN;rw[Cj]at g;obtain⟨M,a8,rfl⟩:=Es.mp g;obtain⟨e,he,pe⟩:=T.mks.get a8;have D:=S3 _ _ (C _ _ pe);refine⟨_,U,_,U,M,p,e,m,U,Ag.of D,Ag.of (S3 _ _ (C _ _ hp)),_,U,kN _ _ (λhb=>⟨_,U,a3,Fw S3 O,Ax,os++[M],by rw[DW];rfl,?_⟩) (λhb=>⟨S3,a3,os,U,?_⟩)⟩
  ·rw[Yy.aM he,Oj,Tp,if_pos hb];exact snoc (Z.upd a3) (by rw[Cg (λz=>by rw[z,a3]at D;cases D)];exact D)
  ·rw[Yy.aM he,Oj,Tp,if_neg (by rw[hb];decide),iM,Mq];exact Z
 ·obtain⟨v,hv,y⟩:=z;exact⟨v,hv,hm _ _ y⟩
 rintro ys H2 ⟨S2,a2,os,rfl,Z⟩;rw[n,<-lR,Ld]at Z;have T2:=T.same (C.trans S2);have a1:Aw K H2 l (ps.map V.ref):=Aw.of T2.lst;have a7:=S2 _ _ (C _ _ hp);refine⟨_,U,acc,_,U,.inl (Aw.of a2),U,_,U,A_ (λz=>?_) (λz=>?_)⟩
 ·have z0:os.length=0:=by have:=V.int.inj z;rw[Bg]at this;lia
  have cz:∀r∈R,cm r m=0:=λr u=>by
   have f0:(R.filter λx=>!decide (comm x m=0))=[]:=List.length_eq_zero_iff.mp (by rw[<-Z.length,z0]);have:=List.filter_eq_nil_iff.mp f0 r u;exact(by simpa using this:comm r m=0)
  refine⟨_,U,_,U,l,_,U,.inl a1,l,ps,R,c,by rw[n];rfl,T2,c1,c6,λr W qs S S3 hn b3 mk dm ln pw=>kq r W qs S R ((C.trans S2).free hn) ((C.trans S2).trans S3) b3 mk (.inl ⟨U,cz⟩) T.tb ok lR dm ln pw⟩
 obtain⟨o0,a0,r0,fs,eo,ef,h0⟩:∃o0 a0 r0 fs,os=o0::a0/\(R.filter λx=>!decide (comm x m=0))=r0::fs/\H2 o0=some (Ay.T3 r0):=by
  generalize (R.filter λx=>!decide (comm x m=0))=F at Z;cases Z with
  | nil=>exact absurd rfl z
  | cons a r=>exact⟨_,_,_,_,rfl,rfl,a⟩
 have m0:r0∈R/\comm r0 m≠0:=by
  have:=Za.mp (show r0∈(R.filter λx=>!decide (comm x m=0)) by rw[ef];exact .head _);exact⟨this.1,by simpa using this.2⟩
 have nc:cm r0 m=1:=by
  have a:cm r0 m<2:=Ep _ (by decide);have b:¬ cm r0 m=0:=m0.2;lia
 obtain⟨j0,Y⟩:=List.getElem?_of_mem m0.1;subst eo;refine⟨_,U,U,_,U,mY (λv W=>∃sp,v=.ref sp/\Same H2 W/\W sp=some (Ay.T3 (JW.seen m o))) ?_ (λz R kR=>?_) (λz R kR=>?_)⟩
 ·rintro v W ⟨sp,rfl,S3,b4⟩;have a3:=S3 _ _ a2;have b6:=S3 _ _ h0;refine⟨_,U,l,U,⟨_,S3.seq a1⟩,λac a6=>?_⟩;refine wL (K:=K) (l:=l) (xs:=ps.map V.ref) (fr:=[some (.ref p),some (.ref acc)]) (λi ys H'=>Same W H'/\H' ac=some (.lst ys)/\∃ks:List Addr,ys=ks.map V.ref/\CW H' ks (((R.take i).filter λx=>!decide (x=r0)).map (HD.ph m r0)))
   (by rw[n];exact JB (by lia)) ⟨BR a6 _,Ax,[],U,.nil⟩ (λi ys H' e=>e.1.seq (S3.seq a1)) ?_ (λhm z=>?_) ?_
  ·rintro i x ys H5 N g hy ⟨A,L,ks,rfl,ic⟩ kN;rw[Cj]at g;obtain⟨M,a8,rfl⟩:=Es.mp g;obtain⟨e,he,pe⟩:=T.mks.get a8;have J:=A _ _ (S3 _ _ (S2 _ _ (C _ _ pe)));have SE:Ag K H5 M (L3 e):=Ag.of J;have S0:Ag K H5 o0 (L3 r0):=Ag.of (A _ _ b6);have SA:Aw K H5 acc ((o0::a0).map V.ref):=Aw.of (A _ _ a3);have SM:Ag K H5 p (L3 m):=Ag.of (A _ _ (S3 _ _ a7));refine⟨_,U,_,U,acc,_,_,_,U,U,SA,L2.Ln (j:=0) rfl,M,o0,[(e.1:Int),e.2.1,e.2.2],[(r0.1:Int),r0.2.1,r0.2.2],U,U,SE,S0,_,U,kN _ _ (λhb=>?_) (λhb=>?_)⟩
   ·have ne:e≠r0:=λz=>by subst z;simp at hb
    have fe:((R.take (i+1)).filter λx=>!decide (x=r0))=((R.take i).filter λx=>!decide (x=r0))++[e]:=by rw[Yy.aM he,Oj,Tp,if_pos (by simp[ne]),iM]
    rw[fe,DW];refine⟨_,U,_,U,M,p,e,m,U,SE,SM,_,U,A_ (λq=>?_) (λq=>?_)⟩
    ·refine⟨_,U,L,Fw A a6,Ax,ks++[M],by rw[DW];rfl,snoc (ic.upd L) ?_⟩;rw[Cg (λz=>by rw[z,L]at J;cases J),J];unfold HD.ph;rw[if_pos (show cm e m=0 from q)]
    ·refine⟨_,U,_,U,acc,_,_,_,U,U,SA,L2.Ln (j:=0) rfl,M,o0,e,r0,U,SE,S0,λt H6 S6 ht=>⟨S6 _ _ L,Fw (A.trans S6) a6,Ax,ks++[t],by rw[DW];rfl,snoc ((ic.same S6).upd (S6 _ _ L)) ?_⟩⟩;rw[Cg (λz=>by rw[z,S6 _ _ L]at ht;cases ht),ht];unfold HD.ph;rw[if_neg (show ¬ cm e m=0 from q)]
   ·have eq:e=r0:=by
     obtain⟨a,b,d⟩:=e;obtain⟨a',b',d'⟩:=r0;simp at hb;obtain⟨x,y,z⟩:=hb;rw[show a=a' by lia,show b=b' by lia,show d=d' by lia]
    refine⟨A,L,ks,U,?_⟩;rw[Yy.aM he,Oj,Tp,if_neg (by simp[eq]),iM,Mq];exact ic
  ·obtain⟨v1,e1,v2,e2,p1,p2,m1,m2,e3,q1,q2,b,e4,z⟩:=z;refine⟨v1,e1,v2,e2,p1,p2,m1,m2,e3,q1,q2,b,e4,?_⟩;revert z;cases b
   ·rintro ⟨w1,f1,w2,f2,l1,xs,i1,y1,g1,g2,g3,g4,t1,t2,n1,n2,g5,g6,g7,g8⟩;exact⟨w1,f1,w2,f2,l1,xs,i1,y1,g1,g2,g3,g4,t1,t2,n1,n2,g5,g6,g7,λr H' s h=>hm _ _ (g8 r H' s h)⟩
   ·rintro ⟨w1,f1,g1⟩;exact⟨w1,f1,hm _ _ g1⟩
  ·rintro ys H5 ⟨A,L,ks,rfl,ic⟩;rw[n,<-lR,Ld,HD.X2j (HD.X5n c6 T.tb ok) Y]at ic;have b2:DY.Ok c (JW.seen m o):=⟨Ep _ (by decide),Cv.f,Cv.s⟩;have b5:ev (JW.seen m o):=by
    have:(m.1+pc (m.2.1&&&m.2.2))%2=0:=em;show ((m.1+2*o)%4+pc (m.2.1&&&m.2.2))%2=0;lia
   obtain⟨a9,I,a4⟩:=HD.W1j (m:=m) c6 T.tb ok Y b2 b5 rfl nc;refine⟨_,U,_,U,JB (show 1<=64 by decide),λb hb=>⟨ac,b,_,_,U,U,BR hb _ _ _ L,Ax,?_,λq hq=>?_⟩⟩
   ·rw[Bg,ic.length];simp at a4 ⊢;exact JB (by lia)
   have Sq:Same H5 (upd (upd H5 b _) q _):=(BR hb (.lst [V.ref sp])).trans (BR hq (.lst (ks.map V.ref++[V.ref sp])));have Sa:=((C.trans S2).trans S3).trans A;refine⟨_,U,l,_,U,.inl ((Sa.trans Sq).seq SL),q,ks++[sp],_,c,by rw[n];rfl,⟨by rw[Ax,DW];rfl,snoc (ic.same Sq) (Sq _ _ (A _ _ b4)),λx g=>⟨(I x g).q,(I x g).f,(I x g).s⟩,a9,by rw[a4,lR];lia⟩,c1,c6,λr H7 qs S S7 hn b7 mk dm ln pw=>kq r H7 qs S _ ((Sa.trans Sq).free hn) ((Sa.trans Sq).trans S7) b7 mk (.inr ⟨j0,r0,Y,nc,U⟩) a9 I (a4.trans lR) dm ln pw⟩
 ·have z1:o=1:=by have:=V.int.inj z;lia
  subst z1;exact⟨_,U,p,m,U,a7,λr W S3 h3=>kR _ _ ⟨r,U,S3,h3⟩⟩
 ·have z1:o=0:=by
   have:o≠1:=λe=>z (by rw[e];rfl);lia
  subst z1;refine⟨_,U,kR _ _ ⟨p,U,λ_ _ h=>h,?_⟩⟩;rw[a7,show JW.seen m 0=m by unfold JW.seen;rw[ZQ,Kv,JL Cv.q]]
end
end Bd
set_option maxHeartbeats 4000000
namespace Fx
def Tr (di:W5)(e T:W9)(cls fl:W2)(h:Heap):Prop:=∃oe vs oT ts,h.get? e=some oe/\(oe.cls=cls/\oe.dict=di)/\oe.data=.fields vs/\(vs[1]?=some (.ref T)/\vs[2]?=some .none)/\T≠e/\h.get? T=some oT/\oT.data=.fields ts/\ts[3]?=some fl/\3<ts.size
structure Kp (fs xs:U3) (h h':Heap):Prop where
 keep:∀b o,h.get? b=some o->b∉fs->b∉xs->h'.get? b=some o
 slot:∀b o,h.get? b=some o->b∉xs->∃sl,h'.get? b=some {o with slots:=sl}
 there:∀b o,h.get? b=some o->∃o',h'.get? b=some o'
section
variable {fs xs:U3}{h h1 h2:Heap}
theorem Kp.trans(p:Kp fs xs h h1)(q:Kp fs xs h1 h2):Kp fs xs h h2 where
 keep:=λb o e n m=>q.keep b o (p.keep b o e n m) n m
 slot:=λb o e m=>by
  obtain⟨c,e1⟩:=p.slot b o e m;obtain⟨a,e2⟩:=q.slot b _ e1 m;exact⟨a,e2⟩
 there:=λb o e=>by
  obtain⟨o1,e1⟩:=p.there b o e;exact q.there b o1 e1
theorem Kp.same(k:∀b o,h.get? b=some o->h1.get? b=some o):Kp fs xs h h1:=⟨λb o e _ _=>k b o e,λb o e _=>⟨o.slots,k b o e⟩,λb o e=>⟨o,k b o e⟩⟩
theorem Kp.new(o:Obj):Kp fs xs h (h.push o):=.same λ_ _ e=>Ec _ e
theorem Kp.slots(p:Heap.SlotsOnly fs h h1):Kp fs xs h h1 where
 keep:=λb o e n _=>(p.2.1 b n).trans e
 slot:=λb o e _=>p.2.2 b o e
 there:=λb o e=>let ⟨_,q⟩:=p.2.2 b o e;⟨_,q⟩
theorem Kp.field{a:W9}{o:Obj}{vs:U9}{f:Array Value->Array Value}(ha:a∈xs)(e:h.get? a=some o)(d:o.data=.fields vs):Kp fs xs h (h.update a (Obj.mapFields f)):=by
 have k:∀b u,b≠a->h.get? b=some u->(h.update a (Obj.mapFields f)).get? b=some u:=λb u n q=>(Tw _ _ n.symm).trans q;have c:=Wk (Obj.mapFields f) e (Obj.isFreed_of_fields (Obj.data_mapFields d f));exact⟨λb u q _ m=>k b u (λz=>m (z ▸ ha)) q,λb u q m=>⟨u.slots,k b u (λz=>m (z ▸ ha)) q⟩,λb u q=>(Classical.em (b=a)).elim (λz=>⟨o.mapFields f,by rw[z];exact c⟩) λz=>⟨u,k b u z q⟩⟩
theorem Kp.fresh(p:Kp fs xs h h1){b:W9}(e:h1.get? b=none):h.get? b=none:=by
 cases q:h.get? b with
 | none=>rfl
 | some o=>obtain⟨o',a⟩:=p.there b o q;rw[e]at a;cases a
end
def Rec (h:Heap)(a:W9)(o:Obj)(vs:U9):Prop:=h.get? a=some o/\o.data=.fields vs
variable{h:Heap}{a:W9}{o:Obj}{vs:U9}
theorem Rec.put(r:Rec h a o vs)(f:Array Value->Array Value):Rec (h.update a (Obj.mapFields f)) a (o.mapFields f) (f vs):=
 ⟨Wk _ r.1 (Obj.isFreed_of_fields (Obj.data_mapFields r.2 f)),Obj.data_mapFields r.2 f⟩
theorem Rec.off{b:W9}(r:Rec h a o vs)(n:a≠b)(f:Obj->Obj):Rec (h.update b f) a o vs:=⟨(Tw _ _ n.symm).trans r.1,r.2⟩
theorem X9w(o:Obj)(f:Array Value->Array Value):(o.mapFields f).cls=o.cls/\(o.mapFields f).dict=o.dict:=by
 obtain⟨c,d,a,b⟩:=o;cases a<;>exact⟨U,U⟩
variable{e T:W9}{oe:Obj}
theorem Tr.of{oT:Obj}{ts:U9}{cls fl:W2}(r:Rec h e oe vs)(c:oe.cls=cls/\oe.dict=di)(r':Rec h T oT ts)(n:T≠e)(v:vs[1]?=some (.ref T)/\vs[2]?=some .none)(t:ts[3]?=some fl)(z:3<ts.size):Tr di e T cls fl h :=
 ⟨oe,vs,oT,ts,r.1,c,r.2,v,n,r'.1,r'.2,t,z⟩
section
variable {M:Model}{A:W6}{E:U2}{s:U7}
variable{base:Heap}{env:Env}{outer:List Env}{L:W9}{Q:Unit->Shared->Prop}
theorem hung{head:W2}{b:Bool}{xs:U3}
  (ha:A.frames=some (env::outer)) (hf:s.heap.FunFrames base (env::outer)) (hl:env.frame=some L) (r:Rec s.heap e oe vs) (hd:oe.dict=di) (two:1<vs.size) (ctx:vs[2]?=some .none) (he:e∈xs)
  (k:∀h' T,s.heap.get? T=none->Tr di e T oe.cls .none h'->Kp ((env::outer).filterMap (·.frame)) xs s.heap h'->Q () {s with heap:=h'}):
  wpAny M A (do let a ← frameOf env;let l ← entryPlaceOf L b;let t ← EntryCells.newEntry head a .none (rawInt L) .none l;setField (.ref e) 1 t) (λ_ s'=>wpAny M A (setFlight (.ref e) none) Q E s') E s:=by
 have F:e∉(env::outer).filterMap (·.frame):=λz=>by
  obtain⟨_,o,q,n⟩:=hf.mem z;exact n vs (Option.some.inj (r.1.symm.trans q) ▸ r.2)
 refine BX (wpAny_frameOf_fun ha hf hl λh1 j=>BX (wpAny_entryPlaceOf λl g=>BX ?_));have C:Kp ((env::outer).filterMap (·.frame)) xs s.heap h1:=.slots j;have x:Rec h1 e oe vs:=⟨(j.2.1 e F).trans r.1,r.2⟩;have v:h1.objs.size≠e:=LR (CQ x.1);have new:s.heap.get? h1.objs.size=none:=C.fresh (Heap.get?_none_of_le (CG _));simp only[EntryCells.newEntry,newFields];refine QV ?_ (g.sizeOk5 _ _ _ _ _);obtain⟨o,D,ts,d,t3,tz⟩:∃o:Obj,o={ cls:=.type "traceback",dict:=none,data:=.fields ([head,.ref L,.none,rawInt L,.none]++(if l.isEmpty then List.replicate 6 Value.none else l)).toArray}/\∃ts:Array Value,o.data=.fields ts/\ts[3]?=some (rawInt L)/\3<ts.size:=by
  refine⟨_,U,_,U,?_,?_⟩
  ·rcases g with rfl | ⟨_,_,_,_,_,_,_,rfl⟩<;>simp
  ·simp only[Fb,JM,Nk,List.length_nil];lia
 rw[<-D];have i:Rec (h1.push o) e oe vs:=⟨Ec _ x.1,x.2⟩;have G:Rec (h1.push o) h1.objs.size o ts:=⟨GC _ (Obj.isFreed_of_fields d),d⟩;have p2:=C.trans (Kp.new o);refine WW i.1 i.2 two ?_;have y:=i.put (·.setIfInBounds 1 (Value.ref h1.objs.size));have B:=G.off v (Obj.mapFields (·.setIfInBounds 1 (Value.ref h1.objs.size)));have p:=p2.trans (Kp.field (f:=(·.setIfInBounds 1 (Value.ref h1.objs.size))) he i.1 i.2);have v1:(vs.setIfInBounds 1 (Value.ref h1.objs.size))[1]?=some (.ref h1.objs.size):=by simp[two]
 refine wpAny_setFlight_none y.1 y.2 v1 B.1 B.2 tz (k _ h1.objs.size new ?_ ?_)
 ·have c:=X9w oe (·.setIfInBounds 1 (Value.ref h1.objs.size));exact Tr.of (y.off v.symm _) ⟨c.1,c.2.trans hd⟩ (B.put _) v ⟨v1,by rw[Array.getElem?_setIfInBounds_ne (by decide)];exact ctx⟩ (by simp[tz]) (by simpa using tz)
 ·have q:∀b u,b≠h1.objs.size->Heap.get? ((h1.push o).update e (Obj.mapFields (·.setIfInBounds 1 (Value.ref h1.objs.size)))) b=some u->Heap.get? (((h1.push o).update e (Obj.mapFields (·.setIfInBounds 1 (Value.ref h1.objs.size)))).update h1.objs.size (Obj.mapFields (·.setIfInBounds 3 .none))) b=some u:=λb u n z=>(Tw _ _ n.symm).trans z;have h:∀b u,s.heap.get? b=some u->b≠h1.objs.size:=λb u z w=>by rw[w,new]at z;cases z
  exact⟨λb u z n m=>q b u (h b u z) (p.keep b u z n m),λb u z m=>let ⟨j,w⟩:=p.slot b u z m;⟨j,q b _ (h b u z) w⟩,λb u z=>let ⟨u',w⟩:=p.there b u z;⟨u',q b u' (h b u z) w⟩⟩
theorem flight{cls fl:W2}(t:Tr di e T cls fl s.heap)(k:∀h',Tr di e T cls .none h'->(∀b,b≠T->h'.get? b=s.heap.get? b)->Q () {s with heap:=h'}):wpAny M A (setFlight (.ref e) none) Q E s:=by
 obtain⟨oe,vs,a,ts,e1,c,e2,v,n,t1,t2,-,z⟩:=t;have r:Rec s.heap e oe vs:=⟨e1,e2⟩;have d:Rec s.heap T a ts:=⟨t1,t2⟩;exact wpAny_setFlight_none e1 e2 v.1 t1 t2 z (k _ (Tr.of (r.off n.symm _) c (d.put _) n v (by simp[z]) (by simpa using z)) λb m=>Tw _ _ m.symm)
theorem Y4j
  (ha:A.frames=some (env::outer)) (hf:s.heap.FunFrames base (env::outer)) (hl:env.frame=some L) (e1:s.heap.get? e=some oe) (hd:oe.dict=di) (e2:oe.data=.fields vs) (one:vs[1]?=some .none) (ctx:vs[2]?=some .none)
  (k:∀h' T,s.heap.get? T=none->Tr di e T oe.cls .none h'->Kp ((env::outer).filterMap (·.frame)) [e] s.heap h'->Q () {s with heap:=h'}):wpAny M A (leaving env (.ref e)) Q E s:=by
 have r:Rec s.heap e oe vs:=⟨e1,e2⟩;unfold leaving noteFrame;simp only[hl];exact BX (BX (LK e1 e2 one (hung ha hf hl r hd (uE.mp one).1 ctx (by simp) k)))
theorem X0x{T0:W9}{cls:W2}
  (ha:A.frames=some (env::outer)) (hf:s.heap.FunFrames base (env::outer)) (hl:env.frame=some L) (ht:Tr di e T0 cls .none s.heap)
  (k:∀h' T,s.heap.get? T=none->Tr di e T cls .none h'->Kp ((env::outer).filterMap (·.frame)) [e,T0] s.heap h'->Q () {s with heap:=h'}):wpAny M A (noteFrame (.ref e) env) (λ_ s'=>wpAny M A (setFlight (.ref e) none) Q E s') E s:=by
 obtain⟨oe,vs,i,ts,e1,⟨c,hd⟩,e2,⟨one,f⟩,n,t1,t2,a,d⟩:=ht;have r:Rec s.heap e oe vs:=⟨e1,e2⟩;have j:Rec s.heap T0 i ts:=⟨t1,t2⟩;have p:Kp ((env::outer).filterMap (·.frame)) [e,T0] s.heap (s.heap.update T0 (Obj.mapFields (·.setIfInBounds 3 Value.none))):=.field (by simp) t1 t2
 have fr:Heap.FunFrames (s.heap.update T0 (Obj.mapFields (·.setIfInBounds 3 Value.none))) base (env::outer):=hf.of_keeps λb o q h=>⟨o,(Tw _ _ λz=>by
  rw[<-z,t1]at q;exact h ts (Option.some.inj q ▸ t2)).trans q,U⟩
 unfold noteFrame;simp only[hl];refine BX (LK e1 e2 one ?_);simp only[show (Value.ref T0 != Value.none)=true from rfl,Ja];refine BX (LK t1 t2 a ?_);simp only[show (Value.none == rawInt L)=false from rfl,Rh,Jb];refine BX (WW t1 t2 d ?_);refine hung (s:={s with heap:=s.heap.update T0 (Obj.mapFields (·.setIfInBounds 3 Value.none))}) (xs:=[e,T0]) ha fr hl (r.off n.symm _) hd (uE.mp one).1 f (.head _) λh' T g tr q=>?_;rw[c]at tr;exact k h' T (p.fresh g) tr (p.trans q)
end
end Fx
namespace L2
open Fx
noncomputable def TF (P:U8)(w:W1):NT:=λouter H s E e s'=>∃(a T:W9) (cls:W2) (di:W5) (H':Hp),e=.ref a/\s'.os=s.os/\AllBare s'.gens/\Un (frs outer) [] H H' s.heap s'.heap/\Ey P w H' s'.heap /\
 Tr di a T cls .none s'.heap/\s.heap.get? a=none/\s.heap.get? T=none/\H' a=none/\H' T=none/\E cls di H'
theorem Bf.get{P:U8}{w:W1}{H:Hp}{h:Heap}{a:W9}{o:HO}(x:Bf P w H h a o):∃ob,h.get? a=some ob:=by
 cases o with
 | lst xs=>obtain⟨_,_,_,_,e⟩:=x;exact⟨_,e⟩
 | tup xs=>obtain⟨_,_,_,ob,e,_⟩:=x;exact⟨_,e⟩
 | dK kvs=>obtain⟨_,_,_,_,o,_,_,e,_⟩:=x;exact⟨_,e⟩
 | dT kvs=>obtain⟨_,_,_,_,o,_,_,e,_⟩:=x;exact⟨_,e⟩
 | set S n=>obtain⟨o,_,_,_,e,_⟩:=x;exact⟨_,e⟩
 | ins C dx fs=>obtain⟨_,_,_,e,_⟩:=x;exact⟨_,e⟩
 | own y=>obtain⟨_,e⟩:=x;exact⟨_,e⟩
 | xd fs=>obtain⟨_,⟨_,_,_,e,_⟩,_⟩:=x;exact⟨_,e⟩
 | rng lo hi=>obtain⟨_,_,_,e⟩:=x;exact⟨_,e⟩
 | frz ob u=>obtain⟨e,_⟩:=x;exact⟨_,e⟩
 | tbl ps=>exact⟨_,x⟩
 | met f y=>exact⟨_,x⟩
 | ext φ=>obtain⟨_,⟨_,e⟩,_⟩:=x;exact⟨_,e⟩
structure JX (X:Cx) (E:XK):Prop where
 xe:∀e s',wpAny (model X.prog X.w) X.A (leaving X.env e) (λ_ s''=>TF X.prog X.w X.outer X.H₀ X.s₀ E e s'') (λe' s''=>TF X.prog X.w X.outer X.H₀ X.s₀ E e' s'') s'->X.xe e s'
 stk:X.stack=X.env::X.outer/\X.env.frame=some X.env.locals
 ex:X.ex=[]
section
variable {X:Cx}{pins:U1}{σ:St}{H:Hp}{s:U7}{E:XK}
theorem Inv.new0(I:Inv X pins σ H s)(F:JX X E){b:W9}(hb:s.heap.get? b=none):X.s₀.heap.get? b=none:=by
 cases q:X.s₀.heap.get? b with
 | none=>rfl
 | some o =>
  obtain⟨o',a⟩:=I.base.there b o q (by rw[F.ex];intro z;cases z);rw[hb]at a;cases a
theorem Inv.newH(I:Inv X pins σ H s){b:W9}(hb:s.heap.get? b=none):H b=none:=by
 cases q:H b with
 | none=>rfl
 | some o =>
  obtain⟨c,a⟩:=Bf.get (I.hok b o q);rw[hb]at a;cases a
theorem Inv.left{h1 h':Heap}{e T:W9}{xs:U3}{cls:W2}{di:W5}(I:Inv X pins σ H s)(F:JX X E)(k1:∀b o,s.heap.get? b=some o->h1.get? b=some o)(hxs:∀b∈xs,X.s₀.heap.get? b=none/\H b=none)
  (kp:Kp ((X.env::X.outer).filterMap (·.frame)) xs h1 h') (he:X.s₀.heap.get? e=none/\H e=none) (hT:X.s₀.heap.get? T=none/\H T=none) (tr:Tr di e T cls .none h') (q:E cls di H):TF X.prog X.w X.outer X.H₀ X.s₀ E (.ref e) {s with heap:=h'}:=by
 have m:∀b,b∈(X.env::X.outer).filterMap (·.frame)->b=X.env.locals\/b∈X.fs:=λb hb=>by
  have:=I.stkSub b (by rw[F.stk.1];exact hb);exact Dj.mp this
 have l:∀b o,X.s₀.heap.get? b=some o->b≠X.env.locals:=λb o hb z=>by
  have h1:=CQ hb;have h2:=I.ok.above;rw[z]at h1;exact QM _ (Ea h1 h2)
 have d:∀b,b∉X.ex:=λb hb=>by rw[F.ex]at hb;cases hb
 have g:∀b o,X.s₀.heap.get? b=some o->b∉xs:=λb o hb f=>by rw[(hxs b f).1]at hb;cases hb
 refine⟨e,T,cls,di,H,U,I.os,I.bare,⟨λb o hb i hf _=>?_,λb o hb i hf _=>?_,λb o hb i _=>I.base.free b o hb i (d b),λb o hb _=>?_,I.base.tups,I.base.frzs,I.base.tbls⟩,λa o p=>?_,tr,he.1,hT.1,he.2,hT.2,q⟩
 ·have h:=I.base.keep b o hb i hf (d b);exact kp.keep b o (k1 b o h) (λf=>(m b f).elim (l b o hb) hf) (g b o hb)
 ·obtain⟨x,h⟩:=I.base.slot b o hb i hf (d b);obtain⟨k,r⟩:=kp.slot b _ (k1 b _ h) (g b o hb);exact⟨k,r⟩
 ·obtain⟨o',h⟩:=I.base.there b o hb (d b);exact kp.there b o' (k1 b o' h)
 ·refine(I.hok a o p).stay (λc v t q=>?_) (λ_ q=>q) λ_ _ q=>q;have j:∃u,H c=some u:=by
   rcases t with z | z
   ·rw[z];exact⟨_,p⟩
   ·exact⟨_,z⟩
  obtain⟨u,n⟩:=j;refine kp.keep c v (k1 c v q) (λf=>?_) (λf=>by rw[(hxs c f).2]at n;cases n);have:=I.stkFree c (by rw[F.stk.1];exact f);rw[n]at this;cases this
theorem Inv.fly{h1:Heap}{e:W9}{cls:W2}{args:U5}(I:Inv X pins σ H s)(F:JX X E)(m:Heap.MadeExcOf s.heap h1 e cls args)(q:E cls none H):X.xe (.ref e) {s with heap:=h1}:=by
 refine F.xe _ _ ?_;obtain⟨t,f,_,_⟩:=m.there;have d:X.s₀.heap.get? e=none/\H e=none:=⟨I.new0 F m.new,I.newH m.new⟩;refine Y4j (base:=X.base) (outer:=X.outer) (s:={s with heap:=h1}) (by rw[I.ok.frames,F.stk.1]) ((by rw[<-F.stk.1];exact I.stack:s.heap.FunFrames X.base (X.env::X.outer)).of_keeps λb o hb _=>⟨o,m.keeps b o hb,U⟩) F.stk.2 f rfl rfl rfl rfl λh' T g tr h=>?_;have a:s.heap.get? T=none:=by
  cases q:s.heap.get? T with
  | none=>rfl
  | some o =>
   have c:h1.get? T=none:=g;rw[m.keeps T o q]at c;cases c
 exact Inv.left (s:=s) (h1:=h1) (h':=h') I F m.keeps (λb hb=>by rw[Fj.mp hb];exact d) h d ⟨I.new0 F a,I.newH a⟩ tr q
theorem wG{P:U8}{w:W1}{K:U0}{mg:U4}{base:Heap}{N:W0}{qual:Str}{scope:Scope}{f:W9}{cd:W2}{A:W6}{outer:List Env}{E:XK} :
  JX (G9 (TF P w) P w K mg base N qual scope f cd A outer s H E) E:=⟨λ_ _ h=>h,⟨U,U⟩,U⟩
end
noncomputable abbrev Xz:List Value:=[.type "ValueError",.type "Exception",.type "BaseException",.type "object"]
structure ExcAt (K:U0) (C:W9) (bm:U5):Prop where
 ex:∃N nm q bs hdct sn sub ab col dd k0 k1 k2 k3 k5,K.lookup C=some (excClassObj nm q C N bs bm hdct sn sub ab col dd k0 k1 k2 k3 k5 "ValueError.__new__")/\PySem.W.nsOkIn K N=true/\PySem.W.nsIn K N "__init__"=some none
 tail:PySem.W.tailIn K Xz bm=true
theorem excAt{K:U0}{C N:W9}{nm q:Str}{bs bm:U5}{hdct:Bool}{sn:W0}{sub:U5}{ab:Bool}{col:Option Bool}{dd:W5}{k0 k1 k2 k3 k5:Option Value}
  (l:K.lookup C=some (excClassObj nm q C N bs bm hdct sn sub ab col dd k0 k1 k2 k3 k5 "ValueError.__new__")) (o:PySem.W.nsOkIn K N=true) (n:PySem.W.nsIn K N "__init__"=some none) (t:PySem.W.tailIn K Xz bm=true):ExcAt K C bm :=
 ⟨⟨N,nm,q,bs,hdct,sn,sub,ab,col,dd,k0,k1,k2,k3,k5,l,o,n⟩,t⟩
section
variable {X:Cx}{E:XK}{x:Str}{C:W9}{e:Expr}{es:List Expr}{t:TA}{np cpos pos:Pos}{bm:U5}
def RK (E:XK)(C:W9)(t:TA):TS:=λ_ σ H=>t σ H λvs H1=>vs.length<=sizeLine/\E (.ref C) none H1
theorem wX(F:JX X E)(hc:X.calm=true)(hg:Gl X x)(hm:X.mg x=some (.ref C))(hx:ExcAt X.K C bm)(ha:PA X (e::es) t)(hdb:(x == ("__debug__":Str))=false:=by decide)
  (he:starEach (e::es) X.env=(false,eval e X.env)::starEach es X.env:=by rfl) (hpl:(backTo cpos (starEach es X.env)).any (·.1)=false:=by rfl):
  PS X (.Raise (some (.Call (.Name x np) (e::es) [] cpos)) none pos) (RK E C t):=by
 intro pins s σ H D I h;obtain⟨N,nm,q,bs,hdct,sn,sub,ab,col,dd,k0,k1,k2,k3,k5,i,ok,l⟩:=hx.ex;have c:=I.ok.mod.kin;have g:=c _ _ i;have n:X.base.Ns N _:=.of_isNs (PySem.W.isNs_of_in c ok);have d:=PySem.W.nsMap_none_of_in c ok l;have T:=PySem.W.tail_of_in c hx.tail;refine wpAny_Raise_call_subT (C:=C) (nm:=nm) (q:=q) (N:=N) (bs:=bs) (bm:=bm) (hdct:=hdct) (sn:=sn) (sub:=sub) (ab:=ab) (col:=col) (dd:=dd) (k0:=k0) (k1:=k1) (k2:=k2) (k3:=k3) (k5:=k5)
  jU (T.hasType jU.hasBase) (I.ok.hd hc) (by rw[he];show (false || (backTo cpos (starEach es X.env)).any (·.1))=false;rw[hpl];rfl) d (Ul I hg hm ⟨U,?_⟩ hdb)
 have h2:=ha cpos pins s σ H _ I h;rw[he]at h2 ⊢;refine Calls.evalArgs_plain (Fi h2 (λus o ⟨vs,H1,b,k,f,j⟩=>⟨U,by rw[<-k.length];exact f,b.bk _ _ g,n.keeps b.bk,T.keeps b.bk,λh' a m=>b.fly F m j⟩) λ_ _ y=>y)
end
end L2
namespace PySem
section
variable {M:Model}{A:W6}{E:U2}
theorem Z8x{h:Heap}{g:Array GenState}{d:Drawn}{t:Nat}{os:OsState}{e C D:W9}{oe:Obj}{Q:Bool->Shared->Prop}
  {nm q:Str}{N:W9}{bs bm:U5}{hdct:Bool}{sn:W0}{sub:U5}{ab:Bool}{col:Option Bool}{dd:W5}{k0 k1 k2 k3 k5:Option Value}{newId:String}
  {nm' q':Str}{N':W9}{bs' bm':U5}{hdct':Bool}{sn':W0}{sub':U5}{ab':Bool}{col':Option Bool}{dd':W5}{k0' k1' k2' k3' k5':Option Value}{newId':String}
  (hC:h.get? C=some (excClassObj nm q C N bs bm hdct sn sub ab col dd k0 k1 k2 k3 k5 newId)) (hD:h.get? D=some (excClassObj nm' q' D N' bs' bm' hdct' sn' sub' ab' col' dd' k0' k1' k2' k3' k5' newId'))
  (he:h.get? e=some oe) (hcls:oe.cls=.ref C) (hbase:bm'.contains (.type "BaseException")=true) (hsub:(Value.ref C::bm).contains (.ref D)=true)
  (hq:Q true ⟨h,g,d,t,os⟩):wpAny M A (excMatches (.ref e) (.ref D)) Q E ⟨h,g,d,t,os⟩:=by
 have a:(Value.ref D::bm').contains (.type "BaseException")=true:=by rw[List.contains_cons,hbase,Bool.or_true]
 have f:=tc_notTuple;unfold excMatches;repeat (first | (with_reducible refine wpAny_loadPart_at he ?_;rw[hcls]) | with_reducible refine wpAny_loadPart_at hD ?_ | (with_reducible refine wpAny_isSubtype_exc hD ?_;rw[a]) | (with_reducible refine wpAny_isSubtype_exc hC ?_;rw[hsub]) | wp_step)
 exact hq
end
end PySem
namespace L2
open Fx
noncomputable def Ga (di:W5)(a:W9)(cls:W2):HO:=.ext λh=>∃o vs,h.get? a=some o/\(o.cls=cls/\o.dict=di)/\o.data=.fields vs/\vs[2]?=some .none
noncomputable def Xt (X:Cx)(pins:U1)(σ0:St)(E:XK):Cx:={X with pn:=X.pn++pins,xe:=λe s'=>∃H1 s1,Inv X pins σ0 H1 s1/\TF X.prog X.w X.stack H1 s1 E e s'}
variable{X:Cx}{pins:U1}{σ0 σ:St}{H:Hp}{s:U7}
theorem Inv.ofXt{p2:U1}{E:XK}(I:Inv (Xt X pins σ0 E) p2 σ H s):Inv X pins σ H s :=
 ⟨⟨I.ok.mod,I.ok.kind,I.ok.glob,I.ok.blt,I.ok.above,I.ok.inj,I.ok.has,I.ok.cab,I.ok.hd,I.ok.frames,I.ok.stk,I.ok.exf,I.ok.bs,I.ok.bsz,I.ok.noex,I.ok.exfs,I.ok.funs,I.ok.frf⟩,
  I.os,I.bare,I.base,I.loc,I.cell,I.free,I.freeC,λp hp=>I.pin p (QZ _ hp),I.hok,I.len⟩
theorem Inv.toXt{E:XK}(I:Inv X pins σ H s):Inv (Xt X pins σ0 E) [] σ H s :=
 ⟨⟨I.ok.mod,I.ok.kind,I.ok.glob,I.ok.blt,I.ok.above,I.ok.inj,I.ok.has,I.ok.cab,I.ok.hd,I.ok.frames,I.ok.stk,I.ok.exf,I.ok.bs,I.ok.bsz,I.ok.noex,I.ok.exfs,I.ok.funs,I.ok.frf⟩,
  I.os,I.bare,I.base,I.loc,I.cell,I.free,I.freeC,λp hp=>I.pin p (by rw[Mq]at hp;exact hp),I.hok,I.len⟩
noncomputable def Xh (X:Cx)(a:W9):Cx:={X with A:=X.A.mark (some (.ref a)),calm:=false,xe:=λ_ _=>False}
variable{a:W9}
theorem Inv.toXh(I:Inv X pins σ H s):Inv (Xh X a) pins σ H s :=
 ⟨⟨I.ok.mod,I.ok.kind,I.ok.glob,I.ok.blt,I.ok.above,I.ok.inj,I.ok.has,I.ok.cab,(λz=>by cases z),I.ok.frames,I.ok.stk,I.ok.exf,I.ok.bs,I.ok.bsz,I.ok.noex,I.ok.exfs,I.ok.funs,I.ok.frf⟩,
  I.os,I.bare,I.base,I.loc,I.cell,I.free,I.freeC,I.pin,I.hok,I.len⟩
theorem Inv.ofXh(ok:X.Ok)(I:Inv (Xh X a) pins σ H s):Inv X pins σ H s :=
 ⟨ok,I.os,I.bare,I.base,I.loc,I.cell,I.free,I.freeC,I.pin,I.hok,I.len⟩
theorem Inv.landed{H1 H':Hp}{s1 s':U7}{T T':W9}{cls:W2}{h':Heap}(I:Inv X pins σ H1 s1)(os:s'.os=s1.os)(bare:AllBare s'.gens)(un:Un (frs X.stack) [] H1 H' s1.heap s'.heap)(hok:Ey X.prog X.w H' s'.heap)
  (kp:Kp (frs X.stack) [a,T] s'.heap h') (na:s1.heap.get? a=none) (nT:s1.heap.get? T=none) (ha:H' a=none) (hT:H' T=none) (tr:Tr di a T' cls .none h'):Inv X pins σ (upd H' a (Ga di a cls)) { s' with heap:=h'}:=by
 obtain⟨oe,vs,H,ts,s,t,hd,h1,B,C,x,E,G⟩:=tr;have nx:∀b o,s1.heap.get? b=some o->b∉[a,T]:=λb o hb g=>by
  simp only[Dj,Ip,Ik]at g;rcases g with rfl | rfl
  ·rw[na]at hb;cases hb
  ·rw[nT]at hb;cases hb
 have f:∀b u,H' b=some u->b≠a:=λb u hb z=>by rw[z,ha]at hb;cases hb
 have p:∀b,b∈frs X.stack->H' b=none:=λb hb=>by
  obtain⟨_,o,y,_⟩:=I.stack.mem hb;exact un.free b o y (I.stkFree b hb) (by intro z;cases z)
 refine I.call' (ch:=[]) (s':={ s' with heap:=h'}) os ⟨λb o hb j hf ox=>?_,λb o hb j hf ox=>?_,λb o hb j ox=>?_,λb o hb ox=>?_,λb xs hb=>?_,λb o u hb=>?_,λb ps hb=>?_⟩ (λc o e=>?_) bare (λb hb=>by cases hb)
 ·exact kp.keep b o (un.keep b o hb j hf ox) hf (nx b o hb)
 ·obtain⟨F,q⟩:=un.slot b o hb j hf ox;obtain⟨r,m⟩:=kp.slot b _ q (nx b o hb);exact⟨r,m⟩
 ·rw[Cg (λz=>nx b o hb (by simp[z]))];exact un.free b o hb j ox
 ·obtain⟨o',q⟩:=un.there b o hb ox;exact kp.there b o' q
 ·have:=un.tups b xs hb;rw[Cg (f b _ this)];exact this
 ·have:=un.frzs b o u hb;rw[Cg (f b _ this)];exact this
 ·obtain⟨i,this⟩:=un.tbls b ps hb;exact⟨i,by rw[Cg (f b _ this)];exact this⟩
 ·by_cases hca:c=a
  ·subst hca;rw[Ax]at e;cases e;exact⟨⟨oe,vs,s,t,hd,h1.2⟩,⟨oe,s⟩,λh1 h2 ⟨o,vs,A,m,D⟩ k=>⟨o,vs,k o A,m,D⟩⟩
  ·rw[Cg hca]at e;refine(hok c o e).stay (λd v n q=>?_) (λb q=>by rw[Cg (f b _ q)];exact q) λb xs q=>by rw[Cg (f b _ q)];exact q
   have l:∃u,H' d=some u:=by
    rcases n with z | z
    ·rw[z];exact⟨_,e⟩
    ·exact⟨_,z⟩
   obtain⟨u,h⟩:=l;refine kp.keep d v q (λg=>?_) (λg=>?_)
   ·rw[p d g]at h;cases h
   ·simp only[Dj,Ip,Ik]at g;rcases g with rfl | rfl
    ·rw[ha]at h;cases h
    ·rw[hT]at h;cases h
theorem Inv.blank{h':Heap}{m':U4}{tk:Nat}(I:Inv X pins σ H s)(hn:h'.Ns X.env.locals m')(hs:Heap.SameBut X.env.locals s.heap h'):Inv X pins (List.replicate X.N.length none) H {s with heap:=h',toks:=tk}:=by
 have a:∀b o,X.s₀.heap.get? b=some o->b≠X.env.locals:=λb o e=>Df (Ea (CQ e) I.ok.above);refine⟨I.ok,I.os,I.bare,⟨λb o e n hb nx=>?_,λb o e n hb nx=>?_,I.base.free,λb o e nx=>?_,I.base.tups,I.base.frzs,I.base.tbls⟩,⟨m',hn,λi x v k1 e2 u=>?_⟩,λx c e=>?_,I.free,I.freeC,λp hp=>?_,λb m e=>?_,by simp⟩
 ·exact(hs.2 b (a b o e)).trans (I.base.keep b o e n hb nx)
 ·obtain⟨k,k1⟩:=I.base.slot b o e n hb nx;exact⟨k,(hs.2 b (a b o e)).trans k1⟩
 ·obtain⟨o',k1⟩:=I.base.there b o e nx;exact⟨o',(hs.2 b (a b o e)).trans k1⟩
 ·rw[tR]at e2;split at e2<;>cases e2
 ·obtain⟨v,o,l,hd⟩:=I.cell x c e;exact⟨v,o,(hs.2 c (I.cne x c e)).trans l,hd⟩
 ·obtain⟨r,j,f,g,h⟩:=I.pin p hp;exact⟨(hs.2 _ f).trans r,j,f,g,h⟩
 ·refine(I.hok b m e).stay (λc t d q=>(hs.2 c ?_).trans q) (λ_ q=>q) λ_ _ q=>q;rintro rfl;rcases d with rfl | d
  ·rw[I.free]at e;cases e
  ·rw[I.free]at d;cases d
section
variable {X:Cx}{E:XK}
end
end L2
namespace PySem.W
open PySem.Calls Builtin Builtin.ObjectAttr
section
variable {prog:U8}{w:W1}{A:W6}{E:U2}{K:Frag}{x C:W9}{s:U7}{R:Result->Shared->Prop}
end
end PySem.W
namespace PySem.W
open PySem.Calls
structure KH (K:Frag) (D:W9):Prop where
 ga:findIn K (.ref D) "__getattribute__"=some (some (.builtin "BaseException.__getattribute__"))
 gt:findIn K (.ref D) "__getattr__"=some none
 ff:∀od,findObj K D od "__class__"=some (.bind (.builtin "getset_descriptor.__get__") (.builtin "object.__class__"))
 ob:mroIn K D (.type "object")=some true
 be:kitCls K (.ref D) (.type "BaseException")=some true
 me:kitCls K (.ref D) (.ref D)=some true
 dc:hasDictIn K D=true
section
variable {prog:U8}{w:W1}{A:W6}{E:U2}{K:Frag}{x D:W9}{ox:Obj}{od:Option Obj}
theorem X6k{tk:Tok}{s:U7}{Q:Fin->Shared->Prop}(g:KH K D)(X:K.In s.heap)(I:InstAt s.heap x ox D od)(q:Q (.done (.ret (.ref D))) s):
  wpAny (model prog w) A (Builtin.«object.__getattribute__» ⟨[.ref x,.str "__class__" tk],[]⟩) Q E s:=by
 have a:=I.type (M:=model prog w);have b:=looks_find (M:=model prog w) X I (g.ff od);unfold Builtin.«object.__getattribute__»;refine BX (CV (BX (CV (BX (a.at (BX (b.at ?_)))))));show wpAny _ _ (Builtin.ObjectAttr.bindTo _ _ _ _) _ _ _;unfold Builtin.ObjectAttr.bindTo;show wpAny _ _ (holding [Value.builtin "object.__class__"] (call (Value.builtin "getset_descriptor.__get__") [Value.builtin "object.__class__",Value.ref x,Value.ref D]) >>= ret) _ _ _;exact BX (Kw (WK (class_get (ox:=ox) (od:=od) X I g.ob (CV q))))
theorem X2l{s:U7}{Q:Option Value->Shared->Prop}(g:KH K D)(X:K.In s.heap)(I:InstAt s.heap x ox D od)(q:Q (some (.ref D)) {s with toks:=s.toks+1}):wpAny (model prog w) A (getAttr? (.ref x) "__class__") Q E s:=by
 have c:=I.type (M:=model prog w);have i:=looks_findIn (M:=model prog w) X g.ga;have h:=looks_findIn (M:=model prog w) X g.gt;have L3:=(kit_cls (M:=model prog w) X g.be).2.2;have d:=tU.ga.bind (.ref x);unfold getAttr? getAttrBy? getAttrBy;refine BX (wpAny_mkText (BX (ZV (Kw (BX (c.at (BX (i.at ?_))))))));show wpAny _ _ (getAttrByItsOwn _ _ _ _ _ _) _ _ _;unfold getAttrByItsOwn;refine BX (h.at (BX (ZV (Kw ?_))));show wpAny _ _ (boundAndCalled _ _ _) _ _ _;unfold boundAndCalled;rw[d];refine BX (CV (WK (codeAny_call_builtin tU.ga.plain F.entry_bexc_ga ?_)));have f:builtinKind "BaseException.__getattribute__"=some .slot:=by decide +kernel
 have b:splitId "BaseException.__getattribute__"=some ("BaseException","__getattribute__"):=by decide +kernel
 have e:=F.args_bexc_ga (.ref x) (.str "__class__" s.toks);simp only[checkBuiltinCall,f,b];refine BX (BX (c.at (L3.at ?_)));refine wpAny_of_eq (a:=()) e ?_;exact X6k (s:={s with toks:=s.toks+1}) g X I (handed_on rfl (CV q))
theorem K3(g:KH K D):KitX K (.ref x) (.ref D) (λh=>∃ox od,InstAt h x ox D od) where
 ty:=λ_ _ _ p=>p.elim λ_ p=>p.elim λ_ I=>I.type
 it:=λ_ _ X _=>(kit_cls X g.me).2.1
 ne:=λh tp dd its n c X b=>by
  refine Bool.eq_false_iff.mpr λq=>?_;obtain rfl:D=tp:=Value.ref.inj (beq_iff_eq.mp q);obtain⟨d,a,_⟩:=any_some g.dc;unfold clsIn at a;split at a
  ·rename_i c' d' cd' sl' ho;cases (X _ _ ho).symm.trans b
  ·cases a
 ca:=λX p k=>p.elim λ_ p=>p.elim λ_ I=>X2l g X I k
end
end PySem.W
namespace L2
noncomputable def uQ:V->Option Value
 | .ty T=>some (.type T)
 | .ref D=>some (.ref D)
 | _=>none
def Dx (H:Hp)(di:W5):Prop:=∀dx,di=some dx->∃fs,H dx=some (.xd fs)
section
variable {X:Cx}{pins:U1}{σ:St}{H:Hp}{s:U7}
theorem W5u{a C:W9}{di:W5}(I:Inv X pins σ H s)(hH:H a=some (Ga di a (.ref C)))(hd:Dx H di):∃o od,PySem.W.InstAt s.heap a o C od/\o.dict=di:=by
 obtain⟨⟨o,vs,d,⟨e,b⟩,f,_⟩,_,_⟩:=(show Bf X.prog X.w H s.heap a (Ga di a (.ref C)) from I.hok a _ hH);have c:PySem.W.notCls o=true:=by unfold PySem.W.notCls;rw[f]
 cases di with
 | none=>exact⟨o,none,⟨d,e,c,by rw[b];trivial⟩,b⟩
 | some dx =>
  obtain⟨fs,g⟩:=hd dx rfl;obtain⟨mA,⟨od,es,ep,e1,_⟩,_⟩:=(show Bf X.prog X.w H s.heap dx (.xd fs) from I.hok dx _ g);exact⟨o,some od,⟨d,e,c,by rw[b];exact e1⟩,b⟩
theorem Y2t:Cr X (.builtin "isinstance") (λxs H Q=>∃a d C c cv b,xs=[.ref a,c]/\H a=some (Ga d a (.ref C))/\Dx H d/\PySem.W.KH X.K C/\uQ c=some cv/\PySem.W.kitOne X.K (.ref C) cv=some b/\Q (.bl b) H):=by
 intro pins s σ H xs us Q I r h;obtain⟨a,d,C,c,cv,b,rfl,g,hd,i,f,e,q⟩:=h;obtain⟨u,v,rfl,j,k⟩:=r.two;cases j;have l:v=cv:=by
  cases c<;>first | (cases f;cases k;rfl) | cases f
 subst l;obtain⟨o,od,J,_⟩:=W5u I g hd;exact Lb (PySem.W.K3 i) I.kIn ⟨o,od,J⟩ e (λz=>nomatch z) λtk=>⟨.bl b,H,I.tok tk,U,q⟩
end
end L2
namespace PySem
open PySem.Sem (wp)
section
variable {prog:U8}{w:W1}{A:W6}{E:U2}{h:Heap}{g:Array GenState}{d:Drawn}{t:Nat}{os:OsState}
variable {nm q:Str}{C N:W9}{bs bm bmB:U5}{hdct:Bool}{sn:W0}{sub:U5}{ab:Bool}{col:Option Bool}{dd:W5}{k0 k1 k2 k3 k5:Option Value}{B newId initId:String}
end
end PySem
namespace PySem
section
variable {M:Model}{A:W6}{E:U2}{env:Env}
variable {nm q:Str}{C N:W9}{bs bm:U5}{hdct:Bool}{sn:W0}{sub:U5}{ab:Bool}{col:Option Bool}{dd:W5}{k0 k1 k2 k3 k5:Option Value}{newId:String}
end
end PySem
namespace L2
open Fx
section
variable {X:Cx}{pins:U1}{σ:St}{H:Hp}{s:U7}
end
section
variable {X:Cx}{pins:U1}{σ:St}{H:Hp}{s:U7}
end
section
variable {X:Cx}{E:XK}{x f:Str}{C:W9}{e:Expr}{es:List Expr}{t:TA}{np cpos pos:Pos}{bm:U5}{k:Nat}
end
section
variable {X:Cx}
theorem Yl{x:Str}{C:W9}{pos:Pos}(hg:Gl X x)(hm:X.mg x=some (.ref C))(hd:(x == ("__debug__":Str))=false:=by decide):PE X (.Name x pos) (tC (.ref C)):=
 λ_ _ _ H _ I h=>Ul I hg hm ⟨.ref C,H,I,U,h⟩ hd
end
structure K_ (P:U8) (w:W1) (K:U0) (mg:U4) (base:Heap) (k:Nat) (x:Str) (ps:W0) (sp:Sp):Prop where
 ex:∃f fd,EY P w K mg base (TF P w) k f fd ps sp/\Binds K fd ps []/\PySem.W.keepIn K (.ref f)=true/\mg x=some (.ref f)
section
variable {X:Cx}{k:Nat}{x:Str}{ps:W0}{sp:Sp}{p pos:Pos}{e:Expr}{es:List Expr}{t:TA}{E:XK}
def RP (σ0:St)(sp:Sp)(E:XK)(t:TA):TE:=λσ H Q=>t σ H λvs H1=>σ=σ0/\sp vs H1 Q E
theorem vI{pins:U1}{σ0:St}(c:K_ X.prog X.w X.K X.mg X.base k x ps sp)(hr:Ci k X.A)(hg:Gl X x)(ha:PA (Xt X pins σ0 E) (e::es) t)(hdb:(x == ("__debug__":Str))=false:=by decide)
  (he:starEach (e::es) X.env=(false,eval e X.env)::starEach es X.env:=by rfl) (hpl:(backTo pos (starEach es X.env)).any (·.1)=false:=by rfl):PE (Xt X pins σ0 E) (.Call (.Name x p) (e::es) [] pos) (RP σ0 sp E t):=by
 obtain⟨f,fd,F,b,l,m⟩:=c.ex;intro p2 s σ H Q I h;refine Wi (Ul I hg m ?_ hdb);refine PySem.W.callWith_K (h₀:=X.base) I.ok.mod.kin l (Bu (ha pos p2 s σ H _ I h) λus g ⟨vs,H1,a,r,e1,q⟩=>⟨a.kIn,?_⟩) he hpl;subst e1;have j:us.length=ps.length:=by rw[<-r.length];exact F.len _ _ _ _ q
 have i:=b g us a.kIn (by rw[Mq];exact j);rw[Mq]at i;refine WK (RV (F.run X.A X.stack g H1 ⟨us,[]⟩ us vs Q E hr a.env0 i r q) λr s' d=>?_);cases r with
 | error e=>exact⟨H1,g,a.ofXt,d⟩
 | ok fl =>
  cases fl with
  | ret u=>exact a.after d
  | next=>exact False.elim d
  | brk=>exact False.elim d
  | cont=>exact False.elim d
end
section
variable {P:U8}{w:W1}{K:U0}{mg:U4}{base:Heap}
theorem Ab.calX{x:Str}{st:Stmt}{dV:W2}{ps:W0}{k:Nat}{sp:Sp}(F:Ab K x st dV){h:Heap}(X:K.In h)(G:Ng h mg)(N:W0)
  (hbody:∀{f:W9}{a:W2}{A:W6}{outer:List Env}{s:U7},N.Nodup->∀(H:Hp) (vs:List V) (Q:VK) (E:XK),Ci k (A.deeper (envOfC x (Dp st) s.heap.objs.size f a))->sp vs H Q E ->
   ∃t,Ho (G9 (TF P w) P w K mg base N x (Dp st) f a A outer s H E) (FT st) t/\t { nx:=λ_ H'=>Q .non H',rt:=Q} (start N vs) H)(S:Ce N ps (Dp st):=by exact fS) (bi:K8 K x st dV ps:=by first | exact Xx λ_ _ _ _ _ _ _=>rfl | exact Xw λ_ _ _ _ _ _ _ _=>rfl | exact Xv λ_ _ _ _ _ _ _ _ _=>rfl | exact Xu λ_ _ _ _ _ _ _ _ _ _=>rfl | exact Xr λ_ _ _ _ _ _ _ _ _ _ _=>rfl | exact Xy λ_ _ _ _ _ _=>rfl) (len:∀vs H Q E,sp vs H Q E->vs.length=ps.length:=by intro _ _ _ _ h;repeat first | (obtain⟨rfl,_⟩:=h;rfl) | (obtain⟨⟨rfl,_⟩,_⟩:=h;rfl) | (obtain⟨_,h⟩:=h)):K_ P w K mg base (k+1) x ps sp:=by
 obtain⟨f,n,od,kV,d,j,l,a,ct,i,g,b,e,ns⟩:=F.ex;exact⟨f,_,qw g b S len λA outer s H vs Q E m c=>hbody S.nd H vs Q E m c,bi kV d j l a ct,e,Im X G ns⟩
end
def ClsAt (K:U0)(C:W9)(bm:U5):Prop:=∃N nm q bs hdct sn sub ab col dd k0 k1 k2 k3 k5,K.lookup C=some (excClassObj nm q C N bs bm hdct sn sub ab col dd k0 k1 k2 k3 k5 "ValueError.__new__")
theorem ExcAt.cls{K:U0}{C:W9}{bm:U5}(x:ExcAt K C bm):ClsAt K C bm:=by
 obtain⟨N,nm,q,bs,hdct,sn,sub,ab,col,dd,k0,k1,k2,k3,k5,l,_⟩:=x.ex;exact⟨N,nm,q,bs,hdct,sn,sub,ab,col,dd,k0,k1,k2,k3,k5,l⟩
section
variable {X:Cx}{E:XK}{pins:U1}{σ:St}{H:Hp}{s:U7}
theorem Inv.unset{h':Heap}{m:U4}{v:Option Value}{tk i:Nat}{n:Str}(I:Inv X pins σ H s)(hN:X.N.Nodup)(hi:X.N[i]?=some n)(hm:s.heap.Ns X.env.locals m)
  (hl:∀(i:Nat) (x:Str) (v:V),X.N[i]?=some x->σ[i]?=some (some v)->Yt X.env.scope x->∃u,RelV v u/\Look X.env s.heap m x u)
  (hn:h'.Ns X.env.locals (λx=>if x=n then v else m x)) (hs:Heap.SameBut X.env.locals s.heap h'):Inv X pins (σ.set i none) H {s with heap:=h',toks:=tk}:=by
 have a:∀b o,X.s₀.heap.get? b=some o->b≠X.env.locals:=λb o e=>Df (Ea (CQ e) I.ok.above);have cne:=I.cne;refine⟨I.ok,I.os,I.bare,⟨λb o e n hb nx=>?_,λb o e n hb nx=>?_,I.base.free,λb o e nx=>?_,I.base.tups,I.base.frzs,I.base.tbls⟩,⟨_,hn,λj y D e1 e2 E=>?_⟩,λx c e=>?_,I.free,I.freeC,λp hp=>?_,λb B e=>?_,by rw[List.length_set];exact I.len⟩
 ·exact(hs.2 b (a b o e)).trans (I.base.keep b o e n hb nx)
 ·obtain⟨w,k1⟩:=I.base.slot b o e n hb nx;exact⟨w,(hs.2 b (a b o e)).trans k1⟩
 ·obtain⟨o',k1⟩:=I.base.there b o e nx;exact⟨o',(hs.2 b (a b o e)).trans k1⟩
 ·by_cases hj:j=i
  ·subst hj;by_cases hz:j<σ.length
   ·rw[jQ hz]at e2;cases e2
   ·rw[List.getElem?_eq_none (by rw[List.length_set];lia)]at e2;cases e2
  ·rw[jL (Ne.symm hj)]at e2;obtain⟨g,t,q⟩:=hl j y D e1 e2 E;refine⟨g,t,?_⟩;rcases q with ⟨k,e⟩ | ⟨k,c,e,z⟩
   ·refine .inl ⟨k,?_⟩;have:y≠n:=λe=>hj (qG hN e1 (e ▸ hi));simp[this,e]
   ·exact .inr ⟨k,c,e,z.sameBut hs (cne y c e)⟩
 ·obtain⟨v,o,A,hd⟩:=I.cell x c e;exact⟨v,o,(hs.2 c (I.cne x c e)).trans A,hd⟩
 ·obtain⟨C,r,f,h,l⟩:=I.pin p hp;exact⟨(hs.2 _ f).trans C,r,f,h,l⟩
 ·refine(I.hok b B e).stay (λc F d q=>(hs.2 c ?_).trans q) (λ_ q=>q) λ_ _ q=>q;rintro rfl;rcases d with rfl | d
  ·rw[I.free]at e;cases e
  ·rw[I.free]at d;cases d
def Vk (E:XK)(tb:St->TS)(th:Addr->TS)(i:Nat):TS:=λD σ H=>tb σ D σ H/\∀a cls di H',E cls di H'->H' a=none->th a { nx:=λσ' H''=>D.nx (σ'.set i none) H'',rt:=D.rt} (σ.set i (some (.ref a))) (upd H' a (Ga di a cls))
theorem X9x{st b₀:Stmt}{suite:W8}{cx n:Str}{C D:W9}{i:Nat}{np hpos pos:Pos}{tb:St->TS}{th:Addr->TS}{bm bm':U5}(hst:X.stack=X.env::X.outer/\X.env.frame=some X.env.locals)(hN:X.N.Nodup)(hi:X.N[i]?=some n)(hloc:X.env.scope.names.lookup n=some .local)
  (hg:Gl X cx) (hm:X.mg cx=some (.ref D)) (hC:ClsAt X.K C bm) (hD:ExcAt X.K D bm') (hsub:(Value.ref C::bm).contains (.ref D)=true) (hE:∀cls y H',E cls y H'->cls=.ref C)
  (hb:∀pins σ,Ho (Xt X pins σ E) [st] (tb σ)) (hh:∀a,Ho (Xh X a) (b₀::suite) (th a)) (hdb:(cx == ("__debug__":Str))=false:=by decide):
  PS X (.Try [st] [.ExceptHandler (some (.Name cx np)) (some n) (b₀::suite) hpos] [] [] pos) (Vk E tb th i):=by
 intro pins s σ H D' I h;obtain⟨h1,h2⟩:=h;refine wpAny_Try_except (Fi (hb pins σ [] s σ H D' I.toXt h1) (λf s1 q=>?_) (λe s1 q=>?_))
 ·cases f with
  | next=>obtain⟨j,H',w,q⟩:=q;exact WY ⟨j,H',w.ofXt,q⟩
  | brk=>obtain⟨j,H',w,q⟩:=q;exact⟨j,H',w.ofXt,q⟩
  | cont=>obtain⟨j,H',w,q⟩:=q;exact⟨j,H',w.ofXt,q⟩
  | ret u=>obtain⟨v,j,H',w,r,q⟩:=q;exact⟨v,j,H',w.ofXt,r,q⟩
 obtain⟨H1,s0,Q,a,T,cls,y,H',rfl,os,d,un,c,tr,Z,Y,M,V,q⟩:=q;obtain rfl:=hE cls y H' q;have I1:Inv X pins σ H' s1:=Q.call' (ch:=[]) os un c d (λb hb=>by cases hb);have k:X.env.kindOf n=some .local:=hloc;refine X0x (base:=X.base) (outer:=X.outer) (by rw[I.ok.frames,hst.1]) (by rw[<-hst.1];exact I1.stack) hst.2 tr λh' T' J l kp=>?_;have g:Kp (frs X.stack) [a,T] s1.heap h':=by rw[hst.1];exact kp
 have B:Inv X pins σ (upd H' a (Ga y a (.ref C))) {s1 with heap:=h'}:=Q.landed os d un c g Z Y M V l;obtain⟨_,_,_,_,_,_,_,_,_,_,_,_,_,_,_,lC⟩:=hC;obtain⟨_,_,_,_,_,_,_,_,_,_,_,_,_,_,_,lD,_,_⟩:=hD.ex;have TD:=PySem.W.tail_of_in B.kIn hD.tail;obtain⟨oe,vs,oT,ts,he,⟨hc,_⟩,_⟩:=id l;refine wpAny_handleBy_cons (codeAny_handlers_test (Ul (X:=Xh X a) (B.toXh (a:=a)) hg hm ?_ hdb)) (by intro q;cases q);refine Z8x (B.kIn _ _ lC) (B.kIn _ _ lD) he hc (TD.hasType jU.hasBase) hsub ?_;refine codeAny_handlers_suite_as ?_;refine flight (s:={s1 with heap:=h'}) l λh3 R same=>?_;have P:Kp (frs X.stack) [a,T] s1.heap h3:=by
  have S:∀b o,s1.heap.get? b=some o->b≠T':=λb o hb z=>by rw[z,J]at hb;cases hb
  exact⟨λb o hb hf L=>(same b (S b o hb)).trans (g.keep b o hb hf L),λb o hb L=>let ⟨slo,e⟩:=g.slot b o hb L;⟨slo,(same b (S b o hb)).trans e⟩,λb o hb=>let ⟨o',e⟩:=g.there b o hb;⟨o',(same b (S b o hb)).trans e⟩⟩
 have I3:Inv X pins σ (upd H' a (Ga y a (.ref C))) {s1 with heap:=h3}:=Q.landed os d un c P Z Y M V R;refine qP (X:=Xh X a) (v:=.ref a) (I3.toXh (a:=a)) hN hi (.inl hloc) rfl (λs4 I4=>?_) (.inr hloc);refine Fi (hh a pins s4 _ _ _ I4 (h2 a _ y H' q M)) (λf s5 F=>?_) (λx s5 z=>z.elim);cases f with
 | next =>
  obtain⟨j,U,A,O⟩:=F;obtain⟨m,G,hl⟩:=id A.loc;refine wpAny_nameGoes_keeps k G (by rw[I.ok.kind];rfl) λh6 v6 t p=>?_;exact⟨_,U,(A.ofXh I.ok).unset hN hi G hl t p,O⟩
 | brk=>obtain⟨_,_,_,z⟩:=F;exact z.elim
 | cont=>obtain⟨_,_,_,z⟩:=F;exact z.elim
 | ret u =>
  obtain⟨v,j,U,A,r,O⟩:=F;obtain⟨m,G,_⟩:=id A.loc;refine wpAny_nameGoes k G (by rw[I.ok.kind];rfl) λh6 m6 t p=>?_;exact⟨v,_,U,(A.ofXh I.ok).blank t p,r,O⟩
end
theorem Ux{X:Cx}{e:W9}:Cr (Xh X e) (.builtin "isinstance") (λxs H Q=>∃a di C c cv b,xs=[.ref a,c]/\H a=some (Ga di a (.ref C))/\Dx H di/\PySem.W.KH X.K C/\uQ c=some cv/\PySem.W.kitOne X.K (.ref C) cv=some b/\Q (.bl b) H):=Y2t
end L2
namespace L2
open Fx
section
variable {X:Cx}{k:Nat}{x:Str}{ps:W0}{sp:Sp}{p pos:Pos}{e:Expr}{es:List Expr}{t:TA}{E:XK}
end
end L2
namespace PySem
section
variable {prog:U8}{w:W1}{A:W6}{E:U2}{s:U7}
end
end PySem
namespace PySem
section
variable {M:Model}{A:W6}{E:U2}
end
end PySem
namespace L2
open Fx
section
variable {X:Cx}{E:XK}
end
end L2
namespace L2
section
variable {X:Cx}
end
end L2
set_option maxHeartbeats 1000000
namespace Bd
open L2 Am Pc Ba Hw
open Lk hiding Nz
open Dh (Mk mul chosen)
open Cp (ev cm Dy)
open Aj (top Bs Cw Bk Cz Q5)
open Ay (L3 Fe comm G4 CW)
set_option genInjectivity false in
set_option genSizeOf false in
structure fJ (K:U0) (mg:U4) (C D:W9) (bm bm':U5) where
 mC:mg "NeverSo"=some (.ref C)
 mD:mg "BoardError"=some (.ref D)
 mV:mg "ValueError"=none
 xC:ExcAt K C bm
 xD:ExcAt K D bm'
 sub:(Value.ref C::bm).contains (.ref D)=true
 gC:PySem.W.KH K C
 own:PySem.W.kitOne K (.ref C) (.ref C)=some true
 ve:PySem.W.kitOne K (.ref C) (.type "ValueError")=some true
 a_NoMark:Addr
 mo_NoMark:mg "NoMark"=some (.ref a_NoMark)
 kn_NoMark:PySem.W.kitOne K (.ref C) (.ref a_NoMark)=some false
 a_NoTable:Addr
 mo_NoTable:mg "NoTable"=some (.ref a_NoTable)
 kn_NoTable:PySem.W.kitOne K (.ref C) (.ref a_NoTable)=some false
 a_NotBorne:Addr
 mo_NotBorne:mg "NotBorne"=some (.ref a_NotBorne)
 kn_NotBorne:PySem.W.kitOne K (.ref C) (.ref a_NotBorne)=some false
 a_NoShare:Addr
 mo_NoShare:mg "NoShare"=some (.ref a_NoShare)
 kn_NoShare:PySem.W.kitOne K (.ref C) (.ref a_NoShare)=some false
theorem W2h:bootBuiltins "ValueError"=some (.type "ValueError"):=by decide +kernel
def rH (K:U0)(H:Hp)(l p:W9)(o:Nat):Prop:=∃(ps:U3) (f:Nat->A5) (c n m:Nat) (mk:Mk),Cz K H l ps f c n m/\c<=6/\n<=100000/\m<=10000/\H p=some (Ay.T3 mk)/\Fe c mk/\ev mk/\o<2/\∀i,i<2^c->Ar mk.1 mk.2.1 mk.2.2 f i=Az (f i) (4*(1-o):Nat)
def rG (H:Hp)(l p:W9)(o:Nat):Prop:=∃(ps:U3) (R:List Mk) (c:Nat) (m:Mk),G4 c H l ps R/\R.length=c/\c<=6/\H p=some (Ay.T3 m)/\Fe c m/\o<2/\∀d,Hq R m d->d≠2/\d≠o
def V1 (K:U0)(C:W9):Sp:=λvs H _ E=>∃(l p:W9) (o:Nat),vs=[.ref l,.ref p,.int o]/\rH K H l p o/\∀H',Same H H'->E (.ref C) none H'
def V0 (C:W9):Sp:=λvs H _ E=>∃(l p:W9) (o:Nat),vs=[.ref l,.ref p,.int o]/\rG H l p o/\∀H',Same H H'->E (.ref C) none H'
def vW (K:U0):Sp:=λvs H Q _=>∃(l l' p:W9) (o:Nat) (b:Bool),vs=[.ref l,.ref l',.ref p,.int o,.bl b]/\(b=true->rG H l' p o)/\(b=false->rH K H l p o)/\∀H',Same H H'->Q (.bl true) H'
section
variable {P:U8}{w:W1}{K:U0}{mg:U4}{base:Heap}{k:Nat}{h:Heap}{C D:W9}{bm bm':U5}
theorem Y4a(F:Ab K "settled" (top 94) .none)(X:K.In h)(G:Ng h mg)(x:fJ K mg C D bm bm')(cH:Ah P w K mg base k "check_look" ["mark","cells"] Gi)(cF:Ah P w K mg base k "cells_of" ["board"] (Q5 K))(cJ:Ah P w K mg base k "half_left" ["board","mark","outcome"] (bU K))(cT:Ah P w K mg base k "is_nothing" ["amounts"] (nq K)):K_ P w K mg base (k+1) "settled" ["board","mark","outcome"] (V1 K C):=by
 refine F.calX X G _ (S:=Gj) λE H vs Q J d h=>?_;obtain⟨l,p,o,rfl,⟨ps,f,c,n,m,j,a,c6,I,z,hp,Cv,B,o2,v⟩,t⟩:=h
 refine⟨_,(@Aq _ _ _ _ _ (Ny (Av cH d rfl (Aa (pv 1) (Aa (Av cF d rfl (Aa (pv 0) Ae)) Ae))))
  (@Aq _ _ _ _ _ (@Bb _ _ 3 _ _ _ _ E rfl (Or.inl rfl) (Av cJ d rfl (Aa (pv 0) (Aa (pv 1) (Aa (pv 2) Ae)))) rfl (.inl rfl))
  (@Aq _ _ _ _ _ (Bx (Du (Av cT d rfl (Aa (pv 3) Ae)))
   (@Ak _ _ _ (wX wG rfl rfl x.mC x.xC (Aa Fq Ae)))
   CK)
  yQ))),?_⟩
 try dsimp only[Bm]
 refine⟨_,U,_,U,l,_,c,U,Aw.of a.lst,by rw[Bg,a.len],c6,p,j,c,U,hp,Cv,B,?_⟩;refine⟨_,U,_,U,_,U,l,p,ps,f,c,n,m,j,o,U,a,c6,I,z,hp,Cv,o2,λr H1 q g L y A hb=>?_⟩;refine⟨_,U,r,q,g,c,_,_,U,A,c6,λb H2 u e=>⟨_,U,?_⟩⟩;have s:b=true:=e.mpr λi hi=>(nJ o2 (a.ok i hi).amt (Qs (a.ok _ (Ug hi Cv.f)).amt) (hb i hi)).mpr (v i hi);subst s;exact C_ ⟨by decide,t H2 (y.trans u)⟩
theorem W4d{aSURE aNEVER aHALF:W9}(gNEVER:mg "NEVER"=some (.ref aNEVER))(kN:∀H,Ag K H aNEVER ([0,0,1].map V.int))(F:Ab K "table_settled" (top 92) .none)(X:K.In h)(G:Ng h mg)(x:fJ K mg C D bm bm')(cD:Ah P w K mg base k "table_looked" ["rows","mark"] (Ob aSURE aNEVER aHALF)):K_ P w K mg base (k+1) "table_settled" ["rows","mark","outcome"] (V0 C):=by
 refine F.calX X G _ (S:=QG) λs H vs Q r f h=>?_;obtain⟨l,p,o,rfl,⟨ps,R,c,m,T,j,c6,hp,Cv,o2,i⟩,n⟩:=h
 refine⟨_,(@Aq _ _ _ _ _ (Bx (B_ (o9 f.units) (Ai Ao (Av cD f rfl (Aa (pv 0) (Aa (pv 1) Ae))) (pv 2) (λ_ _=>rfl)) (Hj (v:=.ref aNEVER) rfl gNEVER rfl) (Ad _))
   (@Ak _ _ _ (wX wG rfl rfl x.mC x.xC (Aa Fq Ae)))
   CK)
  yQ),?_⟩
 try dsimp only[Bm]
 have at0:∀d:Nat,Gv [V.ref (Hi aSURE aNEVER aHALF d 0),V.ref (Hi aSURE aNEVER aHALF d 1)] (o:Int)=some (.ref (Hi aSURE aNEVER aHALF d o)):=λd=>by
  rcases (by lia:o=0\/o=1) with z | z<;>subst z<;>rfl
 refine⟨_,U,_,U,l,p,ps,R,c,m,U,T,j,c6,hp,Cv,λr0 H1 d q g a=>?_⟩;have e:Hi aSURE aNEVER aHALF d o=aNEVER:=by
  unfold Hi;rw[if_neg (i d g).1,if_neg (i d g).2]
 have b:=at0 d;rw[e]at b;exact⟨_,U,r0,_,_,_,U,U,Ag.of a,b,_,_,_,_,U,U,kN H1,kN H1,_,U,C_ ⟨by decide,n H1 q⟩⟩
theorem X4w(F:Ab K "_law_never" (top 112) .none)(X:K.In h)(G:Ng h mg)(B:Bs mg)(x:fJ K mg C D bm bm')(dD:K_ P w K mg base k "settled" ["board","mark","outcome"] (V1 K C))(cK:K_ P w K mg base k "table_settled" ["rows","mark","outcome"] (V0 C)):Ah P w K mg base (k+1) "_law_never" ["_law_board","_law_rows","_law_mark","_law_outcome","_law_by_rows"] (vW K):=by
 refine F.cal X G ["_law_board","_law_rows","_law_mark","_law_outcome","_law_by_rows","_law_told","e","_law_others"] λg H vs Q E n h=>?_;obtain⟨l,t,p,o,b,rfl,nt,s,u⟩:=h
 refine⟨_,(@Aq _ _ _ _ _ (@Bb _ _ 5 _ _ _ _ g rfl (Or.inl rfl) Ac rfl (.inl rfl))
  (@Aq _ _ _ _ _ (X9x (E:=λcls m H'=>cls=.ref C/\Same H H'/\m=none) (i:=6) ⟨U,U⟩ g rfl rfl rfl x.mD x.xC.cls x.xD x.sub (λ_ _ _ z=>z.1)
   (λpins σ=>@Ak _ _ _ (Bx (Du (pv 4))
    (@Ak _ _ _ (Ny (vI (σ0:=σ) cK n rfl (Aa (pv 1) (Aa (pv 2) (Aa (pv 3) Ae))))))
    (@Ak _ _ _ (Ny (vI (σ0:=σ) dD n rfl (Aa (pv 0) (Aa (pv 2) (Aa (pv 3) Ae))))))))
   (λa=>@Aq _ _ _ _ _ (@Bb _ _ 7 _ _ _ _ g rfl (Or.inl rfl) (Ye (Ck Ux rfl B.isinstance JK (Aa (pv 6) (Aa (Yl rfl x.mo_NoMark) Ae))) (Ye (Ck Ux rfl B.isinstance JK (Aa (pv 6) (Aa (Yl rfl x.mo_NoTable) Ae))) (Ye (Ck Ux rfl B.isinstance JK (Aa (pv 6) (Aa (Yl rfl x.mo_NotBorne) Ae))) (M6 (Ck Ux rfl B.isinstance JK (Aa (pv 6) (Aa (Yl rfl x.mo_NoShare) Ae))))))) rfl (.inl rfl))
    (@Ak _ _ _ (Bx (PW.pt (O1 (Du (Ck Ux rfl B.isinstance JK (Aa (pv 6) (Aa (Yl rfl x.mC) Ae)))) (O1 (Du (Ck Ux rfl B.isinstance JK (Aa (pv 6) (Aa (Lp (v:=.ty "ValueError") rfl x.mV W2h rfl) Ae)))) (R3 (FQ (Du (pv 7)))))))
     (@Ak _ _ _ (@Bb _ _ 5 _ _ _ _ g rfl (Or.inl rfl) Ac rfl (.inl rfl)))
     CK))))
  (@Ak _ _ _ (BJ (Iz Dr (pv 5) Ac (Ad _)))))),?_⟩
 try dsimp only[Bm]
 refine⟨⟨_,U,_,U,?_⟩,?_⟩
 ·cases b
  ·exact Bj ⟨_,U,_,U,_,U,U,l,p,o,U,s rfl,λH' S=>⟨U,S,U⟩⟩
  ·exact C_ ⟨_,U,_,U,_,U,U,t,p,o,U,nt rfl,λH' S=>⟨U,S,U⟩⟩
 rintro a cls m H1 ⟨rfl,r,rfl⟩ q;have f:upd H1 a (Ga none a (.ref C)) a=some (Ga none a (.ref C)):=Ax;have j:=r.trans (BR q (Ga none a (.ref C)));generalize upd H1 a (Ga none a (.ref C))=H2 at f j ⊢;have c:Dx H2 none:=λd e=>by cases e
 refine⟨_,U,a,none,C,_,_,false,U,f,c,x.gC,U,x.kn_NoMark,_,U,Bj ⟨_,U,a,none,C,_,_,false,U,f,c,x.gC,U,x.kn_NoTable,_,U,Bj ⟨_,U,a,none,C,_,_,false,U,f,c,x.gC,U,x.kn_NotBorne,_,U,Bj ⟨_,U,a,none,C,_,_,false,U,f,c,x.gC,U,x.kn_NoShare,?_⟩⟩⟩⟩;refine⟨_,U,a,none,C,_,_,true,U,f,c,x.gC,U,x.own,_,U,C_ ⟨_,U,a,none,C,_,_,true,U,f,c,x.gC,U,x.ve,_,U,C_ ⟨_,U,_,U,C_ ?_⟩⟩⟩;exact⟨_,U,U,u _ j⟩
end
end Bd
namespace Ay
open L2 Pc Hr Dh
section
variable {P:U8}{w:W1}{K:U0}{mg:U4}{base:Heap}{k:Nat}{h:Heap}
theorem X5b(F:Ab K "_law_ones" (top 106) .none)(X:K.In h)(G:Ng h mg):Ah P w K mg base (k+1) "_law_ones" ["_law_number"] DP:=by
 refine F.cal X G ["_law_number","_law_found"] λb H vs Q E g h=>?_;obtain⟨n,rfl,q⟩:=h
 refine⟨_,(@Aq _ _ _ _ _ (@Bb _ _ 1 _ _ _ _ b rfl (Or.inl rfl) Ac rfl (.inl rfl))
  (@Aq _ _ _ _ _ (Z2 PassesOwn.never (B_ VD (pv 0) Ac (Ad _))
   (@Aq _ _ _ _ _ (@Bb _ _ 1 _ _ _ _ b rfl (Or.inl rfl) (Af El (pv 1) (Af Dt (pv 0) Ac)) rfl (.inl rfl))
   (@Ak _ _ _ (@Bb _ _ 0 _ _ _ _ b rfl (Or.inl rfl) (Af J8 (pv 0) Ac) rfl (.inl rfl)))))
  (@Ak _ _ _ (BJ (pv 1))))),?_⟩
 try dsimp only[Bm]
 refine⟨λm σ H'=>H'=H/\∃j:Nat,j+pc m=pc n/\σ=[some (.int m),some (.int j)],⟨n,U,0,Jr _,U⟩,?_⟩;rintro m σ H' ⟨rfl,j,c,rfl⟩;refine⟨_,U,_,_,U,U,_,U,A_ (λa=>?_) (λa=>?_)⟩
 ·have d:0<m:=by lia
  have e:=Qt m;refine⟨_,λf H' x=>x,?_⟩;refine⟨_,U,_,U,_,_,U,U,Lr,_,_,U,U,?_⟩;refine⟨_,U,_,_,U,U,⟨by decide,by decide⟩,⟨m / 2,by lia,U,j+m%2,by lia,U⟩⟩
 ·have r0:m=0:=by lia
  subst r0;rw[GJ,Kv]at c;subst c;exact⟨_,U,q⟩
theorem Y4e(F:Ab K "_law_product" (top 107) .none)(X:K.In h)(G:Ng h mg)(cY:Ah P w K mg base k "_law_ones" ["_law_number"] DP):Ah P w K mg base (k+1) "_law_product" ["_law_one","_law_other"] (Q6 K):=by
 refine F.cal X G ["_law_one","_law_other","_law_turns"] λe H vs Q E d h=>?_;obtain⟨p,a,m,m',rfl,b,c,f⟩:=h
 refine⟨_,(@Aq _ _ _ _ _ (@Bb _ _ 2 _ _ _ _ e rfl (Or.inl rfl) (Af El (Af El (Ai Ao (pv 0) Ac (λ_ _=>rfl)) (Ai Ao (pv 1) Ac (λ_ _=>rfl))) (Af Nu Ac (Av cY d rfl (Aa (Af Dz (Ai Ao (pv 0) Ac (λ_ _=>rfl)) (Ai Ao (pv 1) Ac (λ_ _=>rfl))) Ae)))) rfl (.inl rfl))
  (@Ak _ _ _ (BJ (@Dg _ _ _ _ _ (Aa (Af Dt (pv 2) Ac) (Aa (Af JN (Ai Ao (pv 0) Ac (λ_ _=>rfl)) (Ai Ao (pv 1) Ac (λ_ _=>rfl))) (Aa (Af JN (Ai Ao (pv 0) Ac (λ_ _=>rfl)) (Ai Ao (pv 1) Ac (λ_ _=>rfl))) Ae))))))),?_⟩
 try dsimp only[Bm]
 refine⟨_,U,p,_,_,_,U,U,b,U,_,U,a,_,_,_,U,U,c,U,_,_,U,U,_,U,p,_,_,_,U,U,b,U,_,U,a,_,_,_,U,U,c,U,_,_,U,U,m.2.2&&&m'.2.1,PX _ _,_,_,U,U,.inl ⟨by decide,by decide⟩,_,_,U,U,?_⟩;refine⟨_,U,_,_,U,U,Qw,_,U,p,_,_,_,U,U,b,U,_,U,a,_,_,_,U,U,c,U,_,_,U,U,_,U,p,_,_,_,U,U,b,U,_,U,a,_,_,_,U,U,c,U,_,_,U,U,t3,λr d=>?_⟩;refine f r _ (BR d _) ?_;rw[Ax];show some (HO.tup [.int (((m.1:Int)+m'.1+2*((pc (m.2.2&&&m'.2.1):Nat):Int))%4),.int (Builtin.bitXor (m.2.1:Int) m'.2.1),.int (Builtin.bitXor (m.2.2:Int) m'.2.2)])=_;rw[J5,J5];rfl
end
end Ay
namespace Bd
open L2 Am Pc Ba
open Dh (Mk mul chosen)
open Cp (ev cm Dy Qn Ie aj)
open Aj (top Bs Cw Bk Cz)
open Ay (L3 Fe comm G4 CW Q6 Lr Qw PX)
theorem Mj{K:U0}{H:Hp}:∀{ps:U3}{f:Nat->A5},Bk K H ps f->Cd K H ps ((List.range ps.length).map λi=>l5 (f i))
 | [],f,_=>.nil
 | p::ps,f,v=>by
  have r:=Mj (ps:=ps) (f:=λi=>f (i+1)) λi q a=>v (i+1) q (by simpa using a);rw[Nk,List.range_succ_eq_map,Ez,KR];exact .cons (v 0 p rfl) r
variable{c:Nat}
theorem Y4t{g g':Nat->A5}(h:∀w,w<2^c->g w=g' w):((List.range (2^c)).map λi=>l5 (g i))=(List.range (2^c)).map λi=>l5 (g' i):=
 jK λi hi=>by rw[h i (Ek.mp hi)]
variable{f:Nat->A5}
theorem z_{K:U0}{H:Hp}{l:W9}{ps:U3}{n m:Nat}(b:Cz K H l ps f c n m):Cd K H ps ((List.range (2^c)).map λi=>l5 (f i)):=by
 have:=Mj b.vals;rw[b.len]at this;exact this
theorem W4u{m:Mk}(hf:m.2.1<2^c)(k:DY.Kp c f m):∀w,w<2^c->Bc.layW m f w=f w:=λw a=>by
 have:=k (w^^^m.2.1) (Er a hf);rw[JW.xx]at this;exact this.symm
def QB:Sp:=λvs H Q _=>∃(x:Nat) (l:W9) (ps:U3) (R:List Mk) (c:Nat),vs=[.int x,.ref l,.int c]/\x<2^31/\G4 c H l ps R/\R.length=c/\c<=6/\∀(r:W9) (H':Hp) (m:Mk),Same H H'->H' r=some (Ay.T3 m)->Fe c m->ev m->Q (.ref r) H'
def pI (K:U0):Sp:=λvs H Q _=>∃(b l:W9) (bs ps:U3) (f:Nat->A5) (R:List Mk) (c n M:Nat),vs=[.ref b,.ref l,.int c]/\Cz K H b bs f c n M/\H l=some (.lst (ps.map V.ref))/\CW H ps R/\R.length=c/\c<=6/\(∀m∈R,DY.Ok c m)/\(∀m∈R,DY.Kp c f m)/\∀H',Same H H'->Q (.bl true) H'
section
variable {P:U8}{w:W1}{K:U0}{mg:U4}{base:Heap}{k:Nat}{h:Heap}
theorem X5d(F:Ab K "_law_keeps" (top 111) .none)(X:K.In h)(G:Ng h mg)(B:Bs mg)(cR:Ah P w K mg base k "_law_whole" ["_law_found"] Ay.M9)(d9:Ah P w K mg base k "laid_on" ["board","mark"] (Bc.Hu K)):Ah P w K mg base (k+1) "_law_keeps" ["_law_board","_law_rows","_law_cells"] (pI K):=by
 refine F.cal X G ["_law_board","_law_rows","_law_cells","_law_mark"] λZ H vs Q E j h=>?_;obtain⟨b,l,bs,ps,f,R,c,n,M,rfl,A,C,L,N,c6,ok,O,Y⟩:=h;have t:Aw K H l (ps.map V.ref):=Aw.of C;have y:(ps.map V.ref).length=c:=by rw[Bg,L.length,N]
 refine⟨_,(@Aq _ _ _ _ _ (Bx (PW.pt (IW (FQ (Du (Ck NK rfl B.isinstance JK (Aa (pv 1) (Aa (Lp (v:=.ty "list") rfl B.list Y_ rfl) Ae))))) (Kh (B_ Jh (Ck Ig rfl B.len HX (Aa (pv 1) Ae)) (pv 2) (Ad _)))))
   (@Ak _ _ _ (BJ Iu))
   CK)
  (@Aq _ _ _ _ _ (J7 PassesOwn.never rfl (G_ (pv 1)) (DR (i:=3) Z rfl (Or.inl rfl))
   (@Aq _ _ _ _ _ (Bx (PW.pt (IW (FQ (Du (Ck NK rfl B.isinstance JK (Aa (pv 3) (Aa (Lp (v:=.ty "tuple") rfl B.tuple ZC rfl) Ae))))) (Kh (B_ Jh (Ck Ig rfl B.len HX (Aa (pv 3) Ae)) Ac (Ad _)))))
    (@Ak _ _ _ (BJ Iu))
    CK)
   (@Aq _ _ _ _ _ (Bx (PW.pt (IW (FQ (Du (Av cR j rfl (Aa (Ai Ao (pv 3) Ac (λ_ _=>rfl)) Ae)))) (IW (FQ (Du (Av cR j rfl (Aa (Ai Ao (pv 3) Ac (λ_ _=>rfl)) Ae)))) (Kh (FQ (Du (Av cR j rfl (Aa (Ai Ao (pv 3) Ac (λ_ _=>rfl)) Ae))))))))
    (@Ak _ _ _ (BJ Iu))
    CK)
   (@Ak _ _ _ (Bx (B_ (qH j.units) (Av d9 j rfl (Aa (pv 0) (Aa (pv 3) Ae))) (pv 0) (Ad _))
    (@Ak _ _ _ (BJ Iu))
    CK)))))
  (@Ak _ _ _ (BJ Iu)))),?_⟩
 try dsimp only[Bm]
 refine⟨_,U,_,_,_,true,U,DK.lst C,Ay.zG K,_,U,Bj ?_⟩;refine⟨_,U,l,_,U,.inl t,_,U,U,_,U,Kc (λz=>absurd (by rw[y]) z) (λ_=>?_)⟩;refine⟨_,U,l,U,⟨_,t⟩,O8 (K:=K) (a:=l) (xs:=ps.map V.ref) (λi σ H'=>Same H H'/\∃v,σ=[some (.ref b),some (.ref l),some (.int c),v]) ⟨Same.refl _,none,U⟩ (λi σ H' _ e=>e.1.seq t) ?_ ?_⟩
 ·rintro i x σ H1 I ⟨d,v,rfl⟩;rw[Cj]at I;obtain⟨p,hp,rfl⟩:=Es.mp I;obtain⟨e,W,T⟩:=L.get hp;have D:=GQ W;have m:=d _ _ T;have g:Ag K H1 p (L3 e):=Ag.of m;refine⟨_,U,_,_,_,true,U,DK.tup m,Ay.Yj K,_,U,Bj ⟨_,U,p,_,U,.inr g,U,_,U,Kc (λz=>absurd rfl z) (λ_=>?_)⟩⟩;refine⟨_,U,p,_,_,_,U,U,g,U,_,U,_,U,Bj ⟨_,U,p,_,_,_,U,U,g,U,_,U,_,U,Bj ⟨_,U,p,_,_,_,U,U,g,U,_,U,_,U,Bj ?_⟩⟩⟩;have o:=ok e D;refine⟨_,U,_,U,b,p,bs,f,c,n,M,e,U,A.same d,c6,g,⟨o.q,o.f,o.s⟩,λr H2 S nr u J=>?_⟩;refine⟨_,U,r,b,S,bs,_,_,U,U,J.lst,((A.same d).same u).lst,z_ J,z_ ((A.same d).same u),_,U,?_⟩;rw[show (if true=true then !decide (((List.range (2^c)).map λi=>l5 (Bc.layW e f i))=((List.range (2^c)).map λi=>l5 (f i))) else decide (((List.range (2^c)).map λi=>l5 (Bc.layW e f i))=((List.range (2^c)).map λi=>l5 (f i))))=false by rw[if_pos rfl,Gb (Y4t (W4u o.f (O e D)))];rfl];exact Bj ⟨d.trans u,_,U⟩
 ·rintro σ H1 ⟨d,v,rfl⟩;exact Y _ d
theorem W4g(F:Ab K "_law_look_mark" (top 109) .none)(X:K.In h)(G:Ng h mg)(B:Bs mg)(cY:Ah P w K mg base k "_law_ones" ["_law_number"] Ay.DP)(dP:Ah P w K mg base k "_law_product" ["_law_one","_law_other"] (Q6 K)):Ah P w K mg base (k+1) "_law_look_mark" ["_law_number","_law_rows","_law_cells"] QB:=by
 refine F.cal X G ["_law_number","_law_rows","_law_cells","_law_turns","_law_f","_law_s","_law_made","_law_k"] λy H vs Q E J h=>?_;obtain⟨x,l,ps,R,c,rfl,a0,T,lR,c6,Y⟩:=h
 refine⟨_,(@Aq _ _ _ _ _ (@Bb _ _ 3 _ _ _ _ y rfl (Or.inl rfl) (Af Nu (Af Dt (pv 0) Ac) Ac) rfl (.inl rfl))
  (@Aq _ _ _ _ _ (Bx (B_ Dr (Af Dt (Af J8 (pv 0) Ac) Ac) Ac (Ad _))
   (@Aq _ _ _ _ _ (@Bb _ _ 4 _ _ _ _ y rfl (Or.inl rfl) (Af Dt (Af J8 (pv 0) Ac) (Af G3 Ac (pv 2))) rfl (.inl rfl))
   (@Aq _ _ _ _ _ (@Bb _ _ 5 _ _ _ _ y rfl (Or.inl rfl) (Af Dt (Af J8 (pv 0) Ac) (Af G3 Ac (pv 2))) rfl (.inl rfl))
   (@Ak _ _ _ (BJ (@Dg _ _ _ _ _ (Aa (Af Dt (Af El (Av cY J rfl (Aa (Af Dz (pv 4) (pv 5)) Ae)) (pv 3)) Ac) (Aa (pv 4) (Aa (pv 5) Ae))))))))
   CK)
  (@Aq _ _ _ _ _ (@Bb _ _ 6 _ _ _ _ y rfl (Or.inl rfl) (@Dg _ _ _ _ _ (Aa (pv 3) (Aa Ac (Aa Ac Ae)))) rfl (.inl rfl))
  (@Aq _ _ _ _ _ (J7 PassesOwn.never rfl (Lw rfl B.range (Aa (pv 2) Ae)) (DR (i:=7) y rfl (Or.inl rfl))
   (@Ak _ _ _ (Bx (B_ Dr (Af Dt (Af Qx (Af J8 (pv 0) Ac) (Af G3 Ac (pv 7))) Ac) Ac (Ad _))
    (@Ak _ _ _ (@Bb _ _ 6 _ _ _ _ y rfl (Or.inl rfl) (Av dP J rfl (Aa (pv 6) (Aa (Ai Fv (pv 1) (pv 7) (λ_ _=>rfl)) Ae))) rfl (.inl rfl)))
    CK)))
  (@Ak _ _ _ (BJ (pv 6))))))),?_⟩
 try dsimp only[Bm]
 have b:∀a:Nat,(1:Int)*2^((a:Nat):Int).toNat=((2^a:Nat):Int):=λa=>by rw[QJ,G8];push_cast;rfl
 have S:∀d:Nat,((x:Int) / (d:Nat))%(1*2^((c:Nat):Int).toNat)=((x / d%2^c:Nat):Int):=λd=>by rw[b];push_cast;rfl
 have N:=S 4;have e:=S 256;have O:Nb 1 (c:Int):=⟨1,HN,by lia,by lia⟩;have z:(0:Int)<1*2^((c:Nat):Int).toNat:=by rw[b];exact Int.natCast_pos.mpr (Cu c)
 refine⟨_,U,_,_,U,U,Lr,_,_,U,U,.inl ⟨by lia,by lia⟩,?_⟩;refine⟨_,U,_,_,U,U,⟨by decide,by decide⟩,_,_,U,U,Lr,U,_,U,A_ (λ_=>?_) (λ_=>?_)⟩
 ·refine⟨_,U,_,_,U,U,⟨by decide,by decide⟩,_,U,_,_,U,U,O,_,_,U,U,z,?_⟩;refine⟨_,U,_,_,U,U,⟨by decide,by decide⟩,_,U,_,_,U,U,O,_,_,U,U,z,?_⟩;refine⟨_,U,_,U,_,_,U,U,x / 4%2^c&&&x / 256%2^c,?_,_,U,_,_,U,U,_,_,U,U,Qw,_,U,_,U,t3,λr J=>?_⟩
  ·exact(congrArg (λv=>[V.int v]) (congr (congrArg Builtin.bitAnd N) e)).trans (PX _ _)
  ·refine Y r _ ((pc (x / 4%2^c&&&x / 256%2^c)+x%2*2)%4,x / 4%2^c,x / 256%2^c) (BR J _) ?_ ⟨Ep _ (by decide),Ep _ (Cu c),Ep _ (Cu c)⟩ ?_
   ·rw[Ax];show some (HO.tup [.int ((((pc (x / 4%2^c&&&x / 256%2^c):Nat):Int)+(x:Int)%2*2)%4),.int (((x:Int) / (4:Nat))%(1*2^((c:Nat):Int).toNat)),.int (((x:Int) / (256:Nat))%(1*2^((c:Nat):Int).toNat))])=some (HO.tup [.int (((pc (x / 4%2^c&&&x / 256%2^c)+x%2*2)%4:Nat):Int),.int ((x / 4%2^c:Nat):Int),.int ((x / 256%2^c:Nat):Int)]);rw[N,e];congr 4
   ·show ((pc (x / 4%2^c&&&x / 256%2^c)+x%2*2)%4+pc (x / 4%2^c&&&x / 256%2^c))%2=0;lia
 ·refine⟨_,U,t3,λr0 L=>?_⟩;refine⟨_,U,_,U,(by lia),(by lia),nG (n:=c) (λi σ H'=>Same H H'/\∃(t:W9) (m:Mk) (v:Option V),σ=[some (.int x),some (.ref l),some (.int c),some (.int ((x:Int)%2*2)),none,none,some (.ref t),v]/\H' t=some (Ay.T3 m)/\DY.Ok c m/\ev m/\∀r∈R,cm r m=0) ⟨BR L _,r0,(x%2*2,0,0),none,U,?_,⟨by show x%2*2<4;lia,Cu c,Cu c⟩,?_,λr _=>?_⟩ ?_ ?_⟩
  ·rw[Ax];show some (HO.tup [.int ((x:Int)%2*2),.int 0,.int 0])=some (HO.tup [.int ((x%2*2:Nat):Int),.int ((0:Nat):Int),.int ((0:Nat):Int)]);congr 4
  ·show (x%2*2+pc (0&&&0))%2=0;rw[Nat.and_self,GJ];lia
  ·show (pc (r.2.1&&&0)+pc (r.2.2&&&0))%2=0;rw[iB,iB,GJ]
  ·rintro i σ H1 hi ⟨j,t,m,v,rfl,C,g,I,D⟩;obtain⟨p,hp,pe⟩:=T.mks.at (i:=i) (by lia);have he:R[i]?=some (R.getD i (0,0,0)):=by rw[CP,Cm (by lia)];rfl
   have A:=GQ he;have i6:i<6:=by lia
   have M:2^i<=2^6:=Ir (by decide) (by lia);have pp:=Cu i;have e0:(0:Int)+(i:Nat)=((i:Nat):Int):=LQ _;rw[e0];refine⟨_,U,_,_,U,U,⟨by decide,by decide⟩,_,U,_,_,U,U,⟨1,HN,by lia,by lia⟩,_,_,U,U,⟨by rw[b];lia,by rw[b];exact Np M (Jf (by decide) (by decide))⟩,_,_,U,U,Lr,U,_,U,A_ (λ_=>?_) (λ_=>⟨j,t,m,_,U,C,g,I,D⟩)⟩;have o:=T.ok _ A;refine⟨_,U,_,U,_,U,l,_,_,_,U,U,(T.same j |> λu=>Aw.of u.lst),Ln (by rw[Cj,hp];rfl),t,p,m,_,U,Ag.of C,Ag.of (j _ _ pe),λr H2 Z h2=>⟨j.trans Z,r,_,_,U,h2,g.mul ⟨o.q,o.f,o.s⟩,aj I (T.tb.nice.even _ A) (by rw[Ie];exact D _ A),λq W=>?_⟩⟩;rw[Qn,D q W,T.tb.nice.com q W _ A]
  ·rintro σ H1 ⟨j,t,m,v,rfl,C,g,I,D⟩;exact⟨_,U,Y t H1 m j C ⟨g.q,g.f,g.s⟩ I⟩
end
end Bd
set_option maxHeartbeats 4000000
namespace Bc
open L2 Ba Am Pc Ew
open Aj (top Bs)
open Dc (Dv)
open FW (Mk CJ Bh Br)
variable{c:Nat}{a:Int}
theorem Vi(h0:0<=a)(h1:a<(c:Int)):Dv c (.flip a)/\Dv c (.mix a):=⟨⟨h0,λx b=>by simp[Mv.cells]at b;lia⟩,⟨h0,λx b=>by simp[Mv.cells]at b;lia⟩⟩
theorem vT{k:Int}(h0:0<=a)(h1:a<(c:Int))(k1:1<=k)(k7:k<=7):Dv c (.turn a k):=⟨⟨h0,k1,k7⟩,λx b=>by simp[Mv.cells]at b;lia⟩
theorem v2'{b:Int}(h0:0<=a)(h1:a<(c:Int))(g0:0<=b)(g1:b<(c:Int))(n:a≠b):Dv c (.iff a b)/\Dv c (.pair a b)/\Dv c (.swap a b):=
 ⟨⟨⟨h0,g0,n⟩,λx d=>by simp[Mv.cells]at d;lia⟩,⟨⟨h0,g0,n⟩,λx d=>by simp[Mv.cells]at d;lia⟩,⟨⟨h0,g0,n⟩,λx d=>by simp[Mv.cells]at d;lia⟩⟩
theorem six{c:Int}(c1:1<=c)(c6:c<=6):c=1\/c=2\/c=3\/c=4\/c=5\/c=6:=by lia
def qM:Sp:=λvs H Q _=>∃(n:Int) (c:Nat),vs=[.int n,.int c]/\0<=n/\1<=c/\c<=6/\∀(t:W9) (H':Hp) (m:Mv),Same H H'->H' t=some (mT (mm m))->Dv c m->Br m->Q (.ref t) H'
theorem W3g{c n:Int}(n0:0<=n)(c1:1<=c)(c6:c<=6):(0<=n / 6%c/\n / 6%c<c)/\(1<c->0<=(n / 6%c+1+n / 36%(if c-1>1 then c-1 else 1))%c/\(n / 6%c+1+n / 36%(if c-1>1 then c-1 else 1))%c<c/\n / 6%c≠(n / 6%c+1+n / 36%(if c-1>1 then c-1 else 1))%c):=by
 rcases six c1 c6 with rfl | rfl | rfl | rfl | rfl | rfl<;>simp<;>lia
section
variable {P:U8}{w:W1}{K:U0}{mg:U4}{base:Heap}{k:Nat}{h:Heap}
theorem X0f(F:Ab K "_law_move" (top 108) .none)(X:K.In h)(G:Ng h mg)(B:Bs mg):Ah P w K mg base (k+1) "_law_move" ["_law_number","_law_cells"] qM:=by
 refine F.cal X G ["_law_number","_law_cells","_law_one","_law_other"] λp H vs Q E C h=>?_;obtain⟨n,c,rfl,v,c1,c6,g⟩:=h;have o:(0:Int)<(c:Int):=by lia
 have mp:(0:Int)<if (c:Int)-1>1 then (c:Int)-1 else 1:=by split<;>lia
 refine⟨_,(@Aq _ _ _ _ _ (@Bb _ _ 2 _ _ _ _ p rfl (Or.inl rfl) (Af Dt (Af J8 (pv 0) Ac) (pv 1)) rfl (.inl rfl))
  (@GX _ _ _ _ _ (@Bb _ _ 3 _ _ _ _ p rfl (Or.inl rfl) (Af Dt (Af El (Af El (pv 2) Ac) (Af Dt (Af J8 (pv 0) Ac) (Ck (yE rfl) rfl B.max boot_max (Aa Ac (Aa (Af Ji (pv 1) Ac) Ae))))) (pv 1)) rfl (.inl rfl))
  (@GX _ _ _ _ _ (Bx (PW.pt (O1 (B_ VD (pv 1) Ac (Ad _)) (R3 (B_ VD (Af Dt (pv 0) Ac) Ac (Ad _)))))
   (@Ak _ _ _ (BJ (@Dg _ _ _ _ _ (Aa (Ai Fv (@Li _ _ _ _ (Aa Fq (Aa Fq (Aa Fq Ae)))) (Af Ji (Af Dt (pv 0) Ac) Ac) (λ_ _=>rfl)) (Aa (pv 2) (Aa (pv 3) Ae))))))
   CK)
  (@Aq _ _ _ _ _ (Bx (B_ Dr (Af Dt (pv 0) Ac) Ac (Ad _))
   (@Ak _ _ _ (BJ (@Dg _ _ _ _ _ (Aa Fq (Aa (pv 2) (Aa (Af El Ac (Af Nu Ac (Af Dt (Af J8 (pv 0) Ac) Ac))) Ae))))))
   CK)
  (@Ak _ _ _ (BJ (@Dg _ _ _ _ _ (Aa (Ai Fv (@Li _ _ _ _ (Aa Fq (Aa Fq Ae))) (Af Dt (pv 0) Ac) (λ_ _=>rfl)) (Aa (pv 2) Ae))))))))),?_⟩
 try dsimp only[Bm]
 refine⟨_,U,_,_,U,U,⟨by decide,by decide⟩,_,U,_,_,U,U,o,?_⟩;refine⟨λi H'=>H=H'/\∃a d:Int,(0<=a/\a<(c:Int))/\(1<(c:Int)->0<=d/\d<(c:Int)/\a≠d)/\i=[some (.int n),some (.int c),some (.int a),some (.int d)],?_,?_⟩
 ·have t:=W3g v (show (1:Int)<=(c:Int) by lia) (show (c:Int)<=6 by lia);exact⟨_,U,_,_,U,U,_,U,_,_,U,U,⟨by decide,by decide⟩,_,U,_,_,U,U,1,(c:Int)-1,U,_,_,U,U,mp,_,_,U,U,_,U,_,_,U,U,o,U,_,_,t.1,t.2,U⟩
 rintro i _ ⟨rfl,a,d,⟨o0,o1⟩,o2,rfl⟩;refine⟨λi H'=>H=H'/\i=[some (.int n),some (.int c),some (.int a),some (.int d)]/\¬ (1<(c:Int)/\2<n%6),?_,?_⟩
 ·refine⟨_,U,_,_,U,U,_,U,A_ (λz=>?_) (λz=>Bj ⟨U,U,λy=>z y.1⟩)⟩;refine⟨_,U,_,_,U,U,(by decide:(0:Int)<6),_,_,U,U,_,U,A_ (λy=>?_) (λy=>⟨U,U,λu=>y u.2⟩)⟩;obtain⟨q,x,r⟩:=o2 z;refine⟨t3,λl j=>?_⟩;have f:=BR j (.lst [V.str "if",V.str "pair",V.str "swap"]);have m:=v2' (c:=c) o0 o1 q x r;have s:n%6-3=0\/n%6-3=1\/n%6-3=2:=by lia
  rcases s with e | e | e
  ·refine⟨_,U,_,_,U,U,(by decide:(0:Int)<6),_,_,U,U,l,_,_,.str "if",U,U,Aw.of Ax,(by rw[e];exact k0),_,U,_,U,t3,λt b=>?_⟩;exact g t _ (.iff a d) (f.trans (BR b _)) Ax m.1 trivial
  ·refine⟨_,U,_,_,U,U,(by decide:(0:Int)<6),_,_,U,U,l,_,_,.str "pair",U,U,Aw.of Ax,(by rw[e];exact k1),_,U,_,U,t3,λt b=>?_⟩;exact g t _ (.pair a d) (f.trans (BR b _)) Ax m.2.1 trivial
  ·refine⟨_,U,_,_,U,U,(by decide:(0:Int)<6),_,_,U,U,l,_,_,.str "swap",U,U,Aw.of Ax,(by rw[e];exact k2),_,U,_,U,t3,λt b=>?_⟩;exact g t _ (.swap a d) (f.trans (BR b _)) Ax m.2.2 trivial
 rintro i _ ⟨rfl,rfl,_⟩;refine⟨_,U,_,_,U,U,(by decide:(0:Int)<3),U,_,U,K4 (λz=>?_) (λz=>?_)⟩
 ·refine⟨_,U,_,U,_,_,U,U,⟨by decide,by decide⟩,_,_,U,U,(by decide:(0:Int)<3),_,_,U,U,.inl ⟨by decide,by decide⟩,_,_,U,U,t3,λt b=>?_⟩;exact g t _ (.turn a (2+2*(n / 216%3))) (BR b _) Ax (vT o0 o1 (by lia) (by lia)) (by show (2+2*(n / 216%3)).toNat%2=0;lia)
 ·refine⟨t2,λl j=>?_⟩;have f:=BR j (.lst [V.str "flip",V.str "mix"]);have A:n%3=0\/n%3=1:=by lia
  rcases A with e | e
  ·refine⟨_,U,_,_,U,U,(by decide:(0:Int)<3),l,_,_,.str "flip",U,U,Aw.of Ax,(by rw[e];rfl),_,U,t2,λt b=>?_⟩;exact g t _ (.flip a) (f.trans (BR b _)) Ax (Vi o0 o1).1 trivial
  ·refine⟨_,U,_,_,U,U,(by decide:(0:Int)<3),l,_,_,.str "mix",U,U,Aw.of Ax,(by rw[e];rfl),_,U,t2,λt b=>?_⟩;exact g t _ (.mix a) (f.trans (BR b _)) Ax (Vi o0 o1).2 trivial
end
end Bc
namespace L2
section
variable {X:Cx}
theorem Z4{pins:U1}{σ:St}{H:Hp}{s:U7}(I:Inv X pins σ H s){a:W9}{ps:U3}{xs:List (List Int)}(h:Ag X.K H a (ps.map V.ref))(r:Cd X.K H ps xs):∃as,Reads s.heap (.ref a) (.tuple (xs.map λns=>PyData.tuple (ns.map PyData.int))) as:=by
 obtain⟨its,b,f,_⟩:=I.tuple h;obtain⟨as,c⟩:=oH I r b;obtain⟨o,e,d,n,hd⟩:=f;exact⟨_,Reads.tuple e d hd (by simpa using c)⟩
theorem aG(xs:List (List Int)):SeqAt.shaped (.tuple (xs.map λns=>PyData.tuple (ns.map PyData.int)))=true:=by
 have h1:=n_ xs;show (PyData.canLay0 _ && decide _)=true;rw[HY];refine⟨by simp only[PyData.canLay0];exact oE xs,Gb ?_⟩;simp only[PyData.depth];lia
def QH (K:U0)(neg:Bool):R2:=λx y H Q=>∃(a b:W9) (ps qs:U3) (xs ys:List (List Int)),x=.ref a/\y=.ref b/\Ag K H a (ps.map V.ref)/\Ag K H b (qs.map V.ref)/\Cd K H ps xs/\Cd K H qs ys/\Q (.bl (if neg then !decide (xs=ys) else decide (xs=ys))) H
theorem o_(hu:X.A.units+64<cLine):Eh X (compareOp .Eq) (QH X.K false):=by
 intro pins s σ H x y v u Q I i e h;obtain⟨a,b,ps,j,xs,ys,rfl,rfl,h1,h2,g,d,q⟩:=h;cases i;cases e;obtain⟨k,c⟩:=Z4 I h1 g;obtain⟨bs,f⟩:=Z4 I h2 d;refine eq_dataH_same c f (aG xs) (aG ys) hu (by simp only[SeqAt.noMix];exact aR xs ys) ⟨.bl (decide (xs=ys)),H,I,?_,q⟩;show _=_;simp only[PySem.Spec.same];rw[aF]
theorem W0f(hu:X.A.units+64<cLine):Eh X (compareOp .NotEq) (QH X.K true):=by
 intro pins s σ H x y v u Q I i e h;obtain⟨a,b,ps,j,xs,ys,rfl,rfl,h1,h2,g,d,q⟩:=h;cases i;cases e;obtain⟨k,c⟩:=Z4 I h1 g;obtain⟨bs,f⟩:=Z4 I h2 d;refine iI c f (aG xs) (aG ys) hu (by simp only[SeqAt.noMix];exact aR xs ys) ⟨.bl (!decide (xs=ys)),H,I,?_,q⟩;show _=_;simp only[PySem.Spec.same];rw[aF]
end
end L2
set_option maxHeartbeats 1000000
namespace Ko
open Ba Am Pc Hw Lq
open Lk hiding Nz
open Dh (Mk mul chosen prod YX)
open Gg (E)
open Cp (cm ev)
open DY (Kp Nv Ks M_ N7)
open JW (xx)
variable {c:Nat}{f:Nat->A5}{R:List Mk}{m:Mk}
variable{o:Nat}
theorem X2a(ho:o<2){x y:A5}(ax:Fg x)(e:y=Az x (4*o:Nat)):CN (sg o) x y x:=by
 subst e;refine CN.of (M:=x.2) ax ax.nn ax.nn (Ku _) (Ku _) (Ku _) ?_;rw[Qz,bG ho,Pb,W3n ho,Ry];refine Ia ?_ ?_ ?_ ?_<;>simp only[Lk.sm,Lk.add]<;>lia
theorem Y6(K:Ks c f R)(x:Nat):DY.Ok c (E R x)/\Kp c f (E R x):=K.in (Gg.W5q rfl)
theorem aA(K:Ks c f R)(nz:Nv c f)(a:ev m){kk x:Nat}(k4:kk<4)(e:(chosen R x R.length).foldl mul (kk,0,0)=m):(kk=0\/kk=2)/\∀w,w<2^c->Ar m.1 m.2.1 m.2.2 f w=Az (f w) ((2*kk:Nat):Int):=by
 obtain⟨oe,b⟩:=Y6 K x;have g:m=((kk+(E R x).1)%4,(E R x).2):=by rw[<-e,YX k4];rfl
 have i:((E R x).1+pc ((E R x).2.1&&&(E R x).2.2))%2=0:=b.ev nz oe.f;subst g;have a:((kk+(E R x).1)%4+pc ((E R x).2.1&&&(E R x).2.2))%2=0:=a;refine⟨by lia,λw d=>?_⟩;have h:w^^^(E R x).2.1<2^c:=Er d oe.f;have k:=b _ h;rw[xx]at k;show Az (f (w^^^(E R x).2.1)) ((2*((kk+(E R x).1)%4)+4*pc ((w^^^(E R x).2.1)&&&(E R x).2.2):Nat):Int)=_;rw[k,M_];refine N7 _ ?_;lia
noncomputable def tl (d o:Nat):Int×Int×Int:=if d=2 then (1,0,2) else if d=o then (1,0,1) else (0,0,1)
theorem X9m{d:Nat}{g:Nat->A5}{x y z:Int}(hd:d<2)(ho:o<2)(af:∀w,w<2^c->Fg (f w))(hm:m.2.1<2^c)(nz:∃w,w<2^c/\f w≠nought)(al:∀w,w<2^c->Ar m.1 m.2.1 m.2.2 f w=Az (f w) ((4*d:Nat):Int))(H:Bl m.1 m.2.1 m.2.2 (sg o) (2^c) f g)(S:Sh f g (2^c) x y z):(x,y,z)=tl d o:=by
 unfold tl;rw[if_neg (by lia)];have j:∀(f:Nat->A5) ,∃M0:Int,∀M,M0<=M->Bw f (2^c) M=Bw f (2^c) M/\BZ f (2^c) M=BZ f (2^c) M:=λf=>⟨0,λ_ _=>⟨U,U⟩⟩;by_cases q:d=o
 ·subst q;rw[if_pos rfl];have e:∀w,w<2^c->g w=f w:=λw h=>(H w h).unique (X2a ho (af w h) (al w h));obtain⟨a,b,d⟩:=S.same (f':=f) (g':=f) Sh.one af nz (j f) ⟨0,λM _=>⟨KC λi hi=>by rw[e i hi],KC λi hi=>by rw[e i hi]⟩⟩;rw[a,b,d]
 ·rw[if_neg q]
  have e:∀w,w<2^c->g w=nought:=λw h=>(nJ ho (af w h) (Qs (af _ (Er h hm))) (H w h)).mpr (by
   have:=al w h
   rw[show d=1-o by lia]at this
   exact this)
  obtain⟨a,b,d⟩:=S.same (f':=f) (g':=g) (Sh.none e) af nz (j f) (j g);rw[a,b,d]
theorem X4a{r:Mk}{g:Nat->Nat->A5}{x y z:Int}(ho:o<2)(af:∀w,w<2^c->Fg (f w))(hr:r.2.1<2^c)(hm:m.2.1<2^c)(nz:∃w,w<2^c/\f w≠nought)(k:Kp c f r)(e:cm r m=1)(H:∀o,o<2->Bl m.1 m.2.1 m.2.2 (sg o) (2^c) f (g o))(S:Sh f (g o) (2^c) x y z):(x,y,z)=tl 2 o:=by
 have h:Bl m.1 m.2.1 m.2.2 1 (2^c) f (g 0):=H 0 (by decide);have H1:Bl m.1 m.2.1 m.2.2 (-1) (2^c) f (g 1):=H 1 (by decide);have ev:=JW.X2c hr hm k e h H1;obtain⟨l,i⟩:=oA hm h H1
 have n:Sh f (g o) (2^c) 1 0 2:=⟨by decide,(by unfold Pq.Ly;decide),l,λM j=>by
  have a:=ev M
  have b:=i M j
  unfold Ss
  rcases (show o=0\/o=1 by lia) with rfl | rfl
  ·constructor<;>lia
  ·constructor<;>lia⟩
 obtain⟨a,b,d⟩:=S.same n af nz ⟨0,λ_ _=>⟨U,U⟩⟩ ⟨0,λ_ _=>⟨U,U⟩⟩;rw[a,b,d];rfl
theorem Mu(c6:c<=6)(K:Ks c f R)(nz:Nv c f)(len:R.length=c){o:Mk}(of:o.2.1<2^c)(os:o.2.2<2^c)(h1:cm o m=1)(h2:∀r∈R,cm o r=0):∃r:Mk,r.2.1<2^c/\Kp c f r/\cm r m=1:=by
 have T:=K.tb c6 nz;obtain⟨x,_,ex⟩:=HD.W1z (m:=(pc (o.2.1&&&o.2.2)%4,o.2)) c6 T (λr a=>(K.ok r a).1) len ⟨Ep _ (by decide),of,os⟩ (by show (pc (o.2.1&&&o.2.2)%4+pc (o.2.1&&&o.2.2))%2=0;lia) (λr a=>by rw[Cp.Ie];exact h2 r a);obtain⟨oe,b⟩:=Y6 K x;refine⟨E R x,oe.f,b,?_⟩;rw[Cp.Ie,HD.Yh (show (E R x).2=o.2 from ex),Cp.Ie];exact h1
end Ko
namespace Bd
open L2 Am Pc Ba Hw
open Lk hiding Nz
open Dh (Mk mul chosen)
open Cp (ev cm)
open DY (Kp Nv Ks)
open Aj (top Bs Cw Bk Cz)
open Ay (L3 Fe comm G4 CW)
theorem TQ{K:U0}{H:Hp}{p q:W9}{A B:U6}(h1:Ag K H p (A.map V.int))(h2:Ag K H q (B.map V.int)):Cd K H [p,q] [A,B]:=.cons h1 (.cons h2 .nil)
variable{R:List Mk}{m:Mk}{d:Nat}
theorem Hq.le(h:Hq R m d):d=0\/d=1\/d=2:=by
 cases h with
 | apart=>exact .inr (.inr rfl)
 | made k4 e=>split<;>simp
theorem Hq.kinds(h:Hq R m d):(d=2/\∃o:Mk,o.2.1<2^R.length/\o.2.2<2^R.length/\cm o m=1/\∀r∈R,cm o r=0)\/∃kk x,kk<4/\(chosen R x R.length).foldl mul (kk,0,0)=m/\d=if kk=0 then 0 else 1:=by
 cases h with
 | apart a b e g=>exact .inl ⟨rfl,_,a,b,e,g⟩
 | made k4 e=>exact .inr ⟨_,_,k4,e,rfl⟩
noncomputable def tL (d o:Nat):List Int:=[(Ko.tl d o).1,(Ko.tl d o).2.1,(Ko.tl d o).2.2]
theorem dj{K:U0}{aS aN aH:W9}(kS:∀H,Ag K H aS ([1,0,1].map V.int))(kN:∀H,Ag K H aN ([0,0,1].map V.int))(kH:∀H,Ag K H aH ([1,0,2].map V.int))(H:Hp)(d o:Nat):Ag K H (Hi aS aN aH d o) ((tL d o).map V.int):=by
 unfold Hi tL Ko.tl;split
 ·exact kH H
 ·split
  ·exact kS H
  ·exact kN H
theorem both{c:Nat}{f:Nat->A5}{g:Nat->Nat->A5}{x y z:Nat->Int}(c6:c<=6)(Ks':Ks c f R)(nz:Nv c f)(len:R.length=c)(om:DY.Ok c m)(em:ev m)(af:∀w,w<2^c->Fg (f w))(ld:Hq R m d)(al:∀o,o<2->Bl m.1 m.2.1 m.2.2 (sg o) (2^c) f (g o)/\(∀i,i<2^c->Fg (g o i))/\Lq.Sh f (g o) (2^c) (x o) (y o) (z o)):∀o,o<2->[x o,y o,z o]=tL d o:=by
 intro o a;have nn:∃w,w<2^c/\f w≠nought:=by
  obtain⟨w,b,n⟩:=nz;exact⟨w,b,λe=>n (by rw[e])⟩
 have h:(x o,y o,z o)=Ko.tl d o:=by
  rcases ld.kinds with ⟨rfl,q,qf,qs,h1,h2⟩ | ⟨kk,u,k4,e,rfl⟩
  ·rw[len]at qf qs;obtain⟨r,s,l,p⟩:=Ko.Mu c6 Ks' nz len qf qs h1 h2;exact Ko.X4a a af s om.f nn l p (λo a=>(al o a).1) (al o a).2.2
  ·obtain⟨j,k⟩:=Ko.aA Ks' nz em k4 e;refine Ko.X9m (d:=if kk=0 then 0 else 1) (by split<;>lia) a af om.f nn (λw b=>?_) (al o a).1 (al o a).2.2;rw[k w b];rcases j with rfl | rfl<;>rfl
 unfold tL;rw[<-h]
def xK (K:U0):Sp:=λvs H Q _=>∃(b l p:W9) (bs ps:U3) (f:Nat->A5) (R:List Mk) (c n M:Nat) (m:Mk),vs=[.ref b,.ref l,.ref p]/\Cz K H b bs f c n M/\n<=800/\M<=90/\G4 c H l ps R/\R.length=c/\c<=6/\Ks c f R/\Nv c f/\H p=some (Ay.T3 m)/\Fe c m/\ev m/\∀(H':Hp) (d:Nat),Same H H'->Hq R m d->(∃g:Nat->Nat->A5,∀o,o<2->Bl m.1 m.2.1 m.2.2 (sg o) (2^c) f (g o))->Q (.int d) H'
section
variable {P:U8}{w:W1}{K:U0}{mg:U4}{base:Heap}{k:Nat}{h:Heap}
theorem X0a{aSURE aNEVER aHALF:W9}(kS:∀H,Ag K H aSURE ([1,0,1].map V.int))(kN:∀H,Ag K H aNEVER ([0,0,1].map V.int))(kH:∀H,Ag K H aHALF ([1,0,2].map V.int))(F:Ab K "_law_shares" (top 113) .none)(X:K.In h)(G:Ng h mg)(B:Bs mg)(cD:Ah P w K mg base k "table_looked" ["rows","mark"] (Ob aSURE aNEVER aHALF))(gJ:Ah P w K mg base k "looked" ["board","mark"] (wu K)):Ah P w K mg base (k+1) "_law_shares" ["_law_board","_law_rows","_law_mark"] (xK K):=by
 refine F.cal X G ["_law_board","_law_rows","_law_mark","_law_found"] λnd H vs Q E j h=>?_;obtain⟨b,l,p,bs,ps,f,R,c,n,M,m,rfl,BD,n1,m1,T,lR,c6,ks,nz,hp,Cv,em,L⟩:=h;have Y:rM f c:=by
  obtain⟨w,O,n⟩:=nz;exact⟨w,O,λe=>n (by rw[e])⟩
 refine⟨_,(@Aq _ _ _ _ _ (@Bb _ _ 3 _ _ _ _ nd rfl (Or.inl rfl) (Av cD j rfl (Aa (pv 1) (Aa (pv 2) Ae))) rfl (.inl rfl))
  (@Aq _ _ _ _ _ (Bx (PW.pt (IW (FQ (Du (Ck NK rfl B.isinstance JK (Aa (pv 3) (Aa (Lp (v:=.ty "tuple") rfl B.tuple ZC rfl) Ae))))) (IW (B_ Jh (Ck Ig rfl B.len HX (Aa (pv 3) Ae)) Ac (Ad _)) (Kh (B_ (W0f j.units) (pv 3) (Av gJ j rfl (Aa (pv 0) (Aa (pv 2) Ae))) (Ad _))))))
   (@Ak _ _ _ (BJ Lj))
   CK)
  (@Aq _ _ _ _ _ (Bx (B_ (o_ j.units) (pv 3) (@Dg _ _ _ _ _ (Aa (@Dg _ _ _ _ _ (Aa Ac (Aa Ac (Aa Ac Ae)))) (Aa (@Dg _ _ _ _ _ (Aa Ac (Aa Ac (Aa Ac Ae)))) Ae))) (Ad _))
   (@Ak _ _ _ (BJ Ac))
   CK)
  (@Aq _ _ _ _ _ (Bx (B_ (o_ j.units) (pv 3) (@Dg _ _ _ _ _ (Aa (@Dg _ _ _ _ _ (Aa Ac (Aa Ac (Aa Ac Ae)))) (Aa (@Dg _ _ _ _ _ (Aa Ac (Aa Ac (Aa Ac Ae)))) Ae))) (Ad _))
   (@Ak _ _ _ (BJ Ac))
   CK)
  (@Aq _ _ _ _ _ (Bx (B_ (o_ j.units) (pv 3) (@Dg _ _ _ _ _ (Aa (@Dg _ _ _ _ _ (Aa Ac (Aa Ac (Aa Ac Ae)))) (Aa (@Dg _ _ _ _ _ (Aa Ac (Aa Ac (Aa Ac Ae)))) Ae))) (Ad _))
   (@Ak _ _ _ (BJ Ac))
   CK)
  (@Ak _ _ _ (BJ Lj))))))),?_⟩
 try dsimp only[Bm]
 refine⟨_,U,_,U,l,p,ps,R,c,m,U,T,lR,c6,hp,Cv,λr H1 d C i u=>?_⟩;have A:Ag K H1 r ([Hi aSURE aNEVER aHALF d 0,Hi aSURE aNEVER aHALF d 1].map V.ref):=Ag.of u;refine⟨_,U,_,_,_,true,U,DK.tup u,Ay.Yj K,_,U,Bj ⟨_,U,r,_,U,.inr A,U,_,U,Kc (λz=>absurd rfl z) (λ_=>?_)⟩⟩;refine⟨_,U,_,U,_,U,b,p,bs,f,c,n,M,m,U,BD.same C,c6,n1,m1,C _ _ hp,Cv,em,Y,λr2 t0 t1 H2 g x y z S2 S Z a0 t=>?_⟩;have bt:=both c6 ks nz lR ⟨Cv.q,Cv.f,Cv.s⟩ em (λw O=>(BD.ok w O).amt) i (λo a=>⟨(t o a).1,(t o a).2.1,(t o a).2.2.1⟩);have R1:Cd K H2 [Hi aSURE aNEVER aHALF d 0,Hi aSURE aNEVER aHALF d 1] [tL d 0,tL d 1]:=TQ (dj kS kN kH H2 d 0) (dj kS kN kH H2 d 1);have R2:Cd K H2 [t0,t1] [tL d 0,tL d 1]:=by
  rw[<-bt 0 (by decide),<-bt 1 (by decide)];exact TQ (Ag.of Z) (Ag.of a0)
 have I:=S2.tup A;refine⟨r,r2,_,[t0,t1],_,_,U,U,I,Ag.of S,R1,R2,_,U,?_⟩;rw[show (if true=true then !decide ([tL d 0,tL d 1]=[tL d 0,tL d 1]) else decide ([tL d 0,tL d 1]=[tL d 0,tL d 1]))=false by simp];refine Bj ?_;have RL:∀D:Hp,Cd K D [Hi aSURE aNEVER aHALF d 0,Hi aSURE aNEVER aHALF d 1] [tL d 0,tL d 1]:=λD=>TQ (dj kS kN kH D d 0) (dj kS kN kH D d 1);refine⟨_,U,t3,λa1 h1=>⟨t3,λa2 h2=>⟨t2,λa3 h3=>?_⟩⟩⟩;have s1:=BR h1 (.tup ([1,0,2].map V.int));have s2:=BR h2 (.tup ([1,0,2].map V.int));have s3:=BR h3 (.tup ([a1,a2].map V.ref));have S3:=S2.trans ((s1.trans s2).trans s3);refine⟨r,a3,_,[a1,a2],_,[[1,0,2],[1,0,2]],U,U,S3.tup A,Ag.of Ax,RL _,TQ (Ag.of (s3 _ _ (s2 _ _ Ax))) (Ag.of (s3 _ _ Ax)),_,U,A_ (λq=>?_) (λq=>?_)⟩
 ·have d2:d=2:=by
   rcases i.le with rfl | rfl | rfl
   ·exact absurd q (by decide)
   ·exact absurd q (by decide)
   ·rfl
  subst d2;exact L _ 2 (C.trans S3) i ⟨g,λo a=>(t o a).1⟩
 refine⟨_,U,t3,λb1 g1=>⟨t3,λb2 g2=>⟨t2,λb3 g3=>?_⟩⟩⟩;have u1:=BR g1 (.tup ([1,0,1].map V.int));have u2:=BR g2 (.tup ([0,0,1].map V.int));have W:=BR g3 (.tup ([b1,b2].map V.ref));have J:=S3.trans ((u1.trans u2).trans W);refine⟨r,b3,_,[b1,b2],_,[[1,0,1],[0,0,1]],U,U,J.tup A,Ag.of Ax,RL _,TQ (Ag.of (W _ _ (u2 _ _ Ax))) (Ag.of (W _ _ Ax)),_,U,A_ (λp=>?_) (λp=>?_)⟩
 ·have d2:d=0:=by
   rcases i.le with rfl | rfl | rfl
   ·rfl
   ·exact absurd p (by decide)
   ·exact absurd p (by decide)
  subst d2;exact L _ 0 (C.trans J) i ⟨g,λo a=>(t o a).1⟩
 refine⟨_,U,t3,λe1 i1=>⟨t3,λe2 i2=>⟨t2,λe3 i3=>?_⟩⟩⟩;have v1:=BR i1 (.tup ([0,0,1].map V.int));have v2:=BR i2 (.tup ([1,0,1].map V.int));have N:=BR i3 (.tup ([e1,e2].map V.ref));have S5:=J.trans ((v1.trans v2).trans N);have d2:d=1:=by
  rcases i.le with rfl | rfl | rfl
  ·exact absurd (by decide:[tL 0 0,tL 0 1]=[[1,0,1],[0,0,1]]) p
  ·rfl
  ·exact absurd (by decide:[tL 2 0,tL 2 1]=[[1,0,2],[1,0,2]]) q
 subst d2;exact⟨r,e3,_,[e1,e2],_,[[0,0,1],[1,0,1]],U,U,S5.tup A,Ag.of Ax,RL _,TQ (Ag.of (N _ _ (v2 _ _ Ax))) (Ag.of (N _ _ Ax)),_,U,A_ (λ_=>L _ 1 (C.trans S5) i ⟨g,λo a=>(t o a).1⟩) (λz=>absurd (by decide:[tL 1 0,tL 1 1]=[[0,0,1],[1,0,1]]) z)⟩
end
end Bd
namespace fB
open Ba Am Pc Hw
open Dh (Mk mul bit Ef bM)
open Gg (Indep)
open Cp (cm ev vec Dy Cq Dm Tb V6)
open DY (Kp Nv Ks)
variable {c:Nat}{f:Nat->A5}{R S:List Mk}{m:Mk}
theorem oM(x i:Nat):pc (2^i&&&x)=bit x i:=by
 rw[Il,bM];have:=Ef x i;rcases (by lia:bit x i=0\/bit x i=1) with e | e<;>rw[e]
 ·rw[WQ,GJ]
 ·rw[QK,Hr.Yk]
theorem cmS(r:Mk)(i:Nat):cm (0,0,2^i) r=bit r.2.1 i:=by
 show (pc (0&&&r.2.2)+pc (2^i&&&r.2.1))%2=_;rw[Tc,GJ,Jr,oM,JL (Ef _ _)]
theorem cmF(r:Mk)(i:Nat):cm (0,2^i,0) r=bit r.2.2 i:=by
 show (pc (2^i&&&r.2.2)+pc (0&&&r.2.1))%2=_;rw[Tc,GJ,Kv,oM,JL (Ef _ _)]
theorem X6u(l:Nat):∃o:Mk,∀r:Mk,V6 r->cm o r=bit (vec r) l:=by
 by_cases h:l<6
 ·refine⟨(0,0,2^l),λr v=>?_⟩;rw[cmS];unfold bit vec;rcases (by lia:l=0\/l=1\/l=2\/l=3\/l=4\/l=5) with rfl | rfl | rfl | rfl | rfl | rfl<;>lia
 ·refine⟨(0,2^(l-6),0),λr v=>?_⟩;have a:r.2.1<64:=v.f;rw[cmF];unfold bit vec;have e:2^l=64*2^(l-6):=by rw[show (64:Nat)=2^6 from rfl,<-Od,show 6+(l-6)=l by lia]
  rw[e,<-Zk,show (r.2.1+64*r.2.2) / 64=r.2.2 by lia]
theorem W5z(v:∀r∈S,V6 r)(Q:Dm R S):Indep S:=by
 refine HD.Zz _ rfl λi m a=>?_;obtain⟨o,c⟩:=X6u (Dy m);have mm:=GQ a;refine⟨o,by rw[c m (v m mm)];exact(Q.ld m mm).one,λr b=>?_⟩;have rs:=Zh b;rw[c r (v r rs)];obtain⟨j,d,e⟩:=Wj b;have g:j<i:=by rw[Hx]at d;lia
 have h:=(Et.mp a).1;have f:=(Et.mp a).2;have:=T_.mp Q.off j i (by lia) h g;rw[iZ]at e;rw[e,f]at this;exact this.1
theorem W4w(c6:c<=6)(K:Ks c f R)(Q:Dm R S):Ks c f S:=by
 have a:∀r∈S,DY.Ok c r/\Kp c f r:=λr b=>K.in (Q.g r b);exact⟨a,W5z (λr b=>(a r b).1.v6 c6) Q⟩
theorem X4e(T:Tb R)(T':Tb S){S':List Mk}(Q:Dm R S)(o:S.Pairwise λa b=>Dy a<=Dy b)(Q':Dm S S')(o':S'.Pairwise λa b=>Dy a<=Dy b):S'=S :=
 (Cp.Y1x T T' Q Q' o o' Q.back Q.g).symm
end fB
namespace OD
open Ba Am Pc Hw
open Lk (Ar Bl CN sg Fg nought)
open Dh (Mk mul chosen)
open Gg (Indep E)
open Cp (cm ev Tb)
open DY (Kp Nv Ks M_ N7 Us)
variable {c:Nat}{f g:Nat->A5}{R S:List Mk}{m r:Mk}
theorem W4l(a:∀w,w<2^c->Fg (f w))(h:∃w,w<2^c/\f w≠nought):Nv c f:=by
 obtain⟨w,b,n⟩:=h;refine⟨w,b,λe=>n ?_⟩;have am:=a w b;have d:f w=((f w).1,(f w).2):=rfl;rw[d,e];have o:=am.odd;rw[e]at o;have:(f w).2=0:=by
  rcases o with o | o | o | o | o
  ·exact o
  all_goals exact absurd o (by decide)
 rw[this]
variable{o:Nat}
theorem Y8a(ho:o<2)(hr:r.2.1<2^c)(hm:m.2.1<2^c)(k:Kp c f r)(e:cm r m=1)(nz:Nv c f):∃i,i<2^c/\Ar m.1 m.2.1 m.2.2 f i≠Az (f i) (4*(1-o):Nat):=by
 apply Classical.byContradiction;intro g;have d:∀i,i<2^c->Ar m.1 m.2.1 m.2.2 f i=Az (f i) ((4*(1-o):Nat):Int):=λi hi=>Classical.byContradiction λn=>g ⟨i,hi,n⟩;obtain⟨w,b,h⟩:=nz;have a:=JW.X1p hr hm k b;rw[d w b,d _ (Er b hr),k w b,e,M_,M_]at a;have a:Az (f w) ((2*(r.1+2*pc (w&&&r.2.2)+2*(1-o)):Nat):Int)=Az (f w) ((2*(2*(1-o)+r.1+2*pc (w&&&r.2.2)+2):Nat):Int):=by
  unfold JW.tr at a;rw[show 2*(r.1+2*pc (w&&&r.2.2)+2*(1-o))=2*r.1+4*pc (w&&&r.2.2)+4*(1-o) by lia,show 2*(2*(1-o)+r.1+2*pc (w&&&r.2.2)+2)=4*(1-o)+(2*r.1+4*pc (w&&&r.2.2)+4*1) by lia];exact a
 have:=Us h a;lia
theorem X1h{d:Nat}(hd:d<2)(al:∀w,w<2^c->Ar m.1 m.2.1 m.2.2 f w=Az (f w) ((4*d:Nat):Int))(nz:Nv c f):∃i,i<2^c/\Ar m.1 m.2.1 m.2.2 f i≠Az (f i) (4*(1-d):Nat):=by
 obtain⟨w,a,b⟩:=nz;refine⟨w,a,λe=>?_⟩;rw[al w a]at e;have:Az (f w) ((2*(2*d):Nat):Int)=Az (f w) ((2*(2*(1-d)):Nat):Int):=by
  rw[show 2*(2*d)=4*d by lia,show 2*(2*(1-d))=4*(1-d) by lia];exact e
 have:=Us b this;lia
theorem X1d(K:Ks c f R)(nz:Nv c f)(em:ev m){kk x kk' x':Nat}(k4:kk<4)(k4':kk'<4)(e:(chosen R x R.length).foldl mul (kk,0,0)=m)(e':(chosen R x' R.length).foldl mul (kk',0,0)=m):kk=kk':=by
 obtain⟨_,a⟩:=Ko.aA K nz em k4 e;obtain⟨_,b⟩:=Ko.aA K nz em k4' e';obtain⟨w,d,g⟩:=nz;have:=Us g ((a w d).symm.trans (b w d));lia
theorem uR{o:Mk}(h1:cm o m=1)(h2:∀r∈R,cm o r=0){kk x:Nat}(k4:kk<4)(e:(chosen R x R.length).foldl mul (kk,0,0)=m):False:=by
 have a:m=((kk+(E R x).1)%4,(E R x).2):=by rw[<-e,Dh.YX k4];rfl
 have:=HD.Xp h2 x;rw[<-HD.Yh (o:=o) (show m.2=(E R x).2 by rw[a]),h1]at this;cases this
theorem W4x(ho:o<2)(om:DY.Ok c m)(K:Ks c f R)(al:∀r∈R,cm r m=0)(H:Bl m.1 m.2.1 m.2.2 (sg o) (2^c) f g):Ks c g R :=
 ⟨λr a=>⟨(K.ok r a).1,JW.yK ho (K.ok r a).1.f om.f (K.ok r a).2 (al r a) H⟩,K.ind⟩
theorem X5z{j0:Nat}{r0:Mk}(ho:o<2)(om:DY.Ok c m)(em:ev m)(K:Ks c f R)(h0:R[j0]?=some r0)(nc:cm r0 m=1)(H:Bl m.1 m.2.1 m.2.2 (sg o) (2^c) f g)(T:Tb ((R.eraseIdx j0).map (HD.ph m r0)++[JW.seen m o])):Ks c g ((R.eraseIdx j0).map (HD.ph m r0)++[JW.seen m o]):=by
 refine⟨λr d=>?_,T.ind⟩;have k0:=K.ok r0 (GQ h0);rcases Io.mp d with q | q
 ·obtain⟨y,e,rfl⟩:=Ej.mp q;have a:=K.ok y (tu e);have b:DY.Ok c (HD.ph m r0 y)/\Kp c f (HD.ph m r0 y):=by
   unfold HD.ph;split
   ·exact a
   ·exact⟨a.1.mul k0.1,a.2.mul k0.1.f k0.2⟩
  exact⟨b.1,JW.yK ho b.1.f om.f b.2 (HD.yq nc) H⟩
 ·rw[Fj.mp q];exact⟨⟨Ep _ (by decide),om.f,om.s⟩,JW.W1p ho om.f em H⟩
end OD
namespace RG
open Ba Am Pc Hw
open Gx (tt)
open Lk (Ar Bl CN sg Fg nought)
variable {c:Nat}{f g:Nat->A5}
def Small (c:Nat)(f:Nat->A5):Prop:=∃M0,∀M,M0<=M->Bw f (2^c) M<=p2 M*p2 M
theorem Pg(a:Int):0<=a*a:=by rw[<-Int.natAbs_mul_self];exact Int.natCast_nonneg _
theorem W6u(a b c d:Int):0<=tt a b c d:=by
 have h1:=Pg a;have h2:=Pg b;have f:=Pg c;have e:=Pg d;unfold tt;lia
theorem X0z(x:A5)(M:Int):0<=BP x M:=by
 rw[M8];exact QS (W6u _ _ _ _) (Pg _)
theorem pN{F:Nat->Int}(h:∀i,0<=F i):∀n,0<=BW F n
 | 0=>Ku _
 | n+1=>Int.add_nonneg (pN h n) (h n)
theorem vZ{F:Nat->Int}(h:∀i,0<=F i):∀{n i:Nat},i<n->F i<=BW F n
 | n+1,i,hi=>by
  show F i<=BW F n+F n;have a:=pN h n;have b:=h n;by_cases q:i=n
  ·subst q;lia
  ·have:=vZ h (show i<n by lia);lia
theorem YD(F:Nat->Int):∀n,Aj.BW F n=BW F n
 | 0=>rfl
 | n+1=>by show Aj.BW F n+F n=BW F n+F n;rw[YD F n]
theorem Small.of_hf(s:Small c f)(h:Aj.Hf c g f):Small c g:=by
 obtain⟨i,a⟩:=s;obtain⟨d,b⟩:=h;refine⟨max i d,λM j=>?_⟩;have e:=(b M (by lia)).1;rw[YD,YD]at e;have e:Bw g (2^c) M=Bw f (2^c) M:=e;rw[e];exact a M (by lia)
theorem Small.half{q fl s o:Nat}(sm:Small c f)(hf:fl<2^c)(ho:o<2){g':Nat->A5}(H:Bl q fl s (sg o) (2^c) f g)(H':Bl q fl s (sg (1-o)) (2^c) f g'):Small c g:=by
 obtain⟨e,a⟩:=sm;have nn:∀(g:Nat->A5) M,0<=Bw g (2^c) M:=λg M=>pN (λi=>X0z _ _) _;rcases (show o=0\/o=1 by lia) with rfl | rfl
 ·obtain⟨d,b⟩:=Lq.oA hf H H';refine⟨max e d,λM h=>?_⟩;have x:=(b M (by lia)).1;have y:=a M (by lia);have z:=nn g' M;lia
 ·obtain⟨d,b⟩:=Lq.oA hf H' H;refine⟨max e d,λM h=>?_⟩;have x:=(b M (by lia)).1;have y:=a M (by lia);have z:=nn g' M;lia
theorem W6n{a:Int}{P:Nat}(h:a*a<=(P:Int)*P):a.natAbs<=P:=by
 rw[<-Int.natAbs_mul_self,<-iK]at h;exact Nat.mul_self_le_mul_self_iff.mp (Int.ofNat_le.mp h)
theorem Small.sz(s:Small c f){w m:Nat}(hw:w<2^c)(am:Fg (f w))(le:(f w).2<=(m:Int)):Fy (m+1) m (f w):=by
 obtain⟨g,a⟩:=s;have h:0<=(f w).2:=am.nn;obtain⟨M,k,p⟩:∃M,g<=M/\(f w).2<=M:=⟨max g (f w).2,by lia,by lia⟩;have t:=Int.le_trans (vZ (F:=λw=>BP (f w) M) (λi=>X0z _ _) hw) (a M k);have t:BP (f w) M<=p2 M*p2 M:=t;rw[M8,show p2 M=p2 (f w).2*p2 (M-(f w).2) by rw[<-JQ h (by lia)];congr 1;lia]at t;have j:(0:Int)<p2 (M-(f w).2)*p2 (M-(f w).2):=JH (Oz _) (Oz _)
 have t:tt (f w).1.1 (f w).1.2.1 (f w).1.2.2.1 (f w).1.2.2.2<=p2 (f w).2*p2 (f w).2:=Int.le_of_mul_le_mul_right (by
  rw[show p2 (f w).2*p2 (f w).2*(p2 (M-(f w).2)*p2 (M-(f w).2))=p2 (f w).2*p2 (M-(f w).2)*(p2 (f w).2*p2 (M-(f w).2)) by grind]
  exact t) j
 have e:p2 (f w).2=((2^(f w).2.toNat:Nat):Int):=by unfold p2;push_cast;rfl
 rw[e]at t;have h1:=Pg (f w).1.1;have h2:=Pg (f w).1.2.1;have n:=Pg (f w).1.2.2.1;have o:=Pg (f w).1.2.2.2;unfold tt at t;have d:2^(f w).2.toNat<2^(m+1):=Jf (by decide) (by lia);have b:∀x:Int,x*x<=((2^(f w).2.toNat:Nat):Int)*((2^(f w).2.toNat:Nat):Int)->L2.Sz (m+1) x:=λx l=>Np (W6n l) d;exact⟨⟨b _ (by lia),b _ (by lia),b _ (by lia),b _ (by lia)⟩,am,le⟩
end RG
namespace Bd
open L2 Am Pc Ba Hw
open Lk hiding Nz
open Dh (Mk mul chosen)
open Cp (ev cm Dy)
open DY (Kp Nv Ks)
open Aj (top Bs Cw Bk Cz)
open Ay (L3 Fe comm G4 CW)
noncomputable def m3 (m:Mk):List Int:=[(m.1:Int),m.2.1,m.2.2]
theorem JC{K:U0}{H:Hp}:∀{ps:U3}{ms:List Mk},CW H ps ms->Cd K H ps (ms.map m3)
 | [],[],.nil=>.nil
 | _::_,_::_,.cons e r=>.cons (Ag.of e) (JC r)
variable {R:List Mk}{m:Mk}{c d:Nat}{f g:Nat->A5}
theorem Hq.uniq{d':Nat}(ks:Ks c f R)(nz:Nv c f)(em:ev m)(h:Hq R m d)(h':Hq R m d'):d=d':=by
 rcases h.kinds with ⟨rfl,q,_,_,h1,h2⟩ | ⟨kk,u,k4,e,rfl⟩<;>rcases h'.kinds with ⟨rfl,q',_,_,h1',h2'⟩ | ⟨kk',u',k4',e',rfl⟩
 ·rfl
 ·exact(OD.uR h1 h2 k4' e').elim
 ·exact(OD.uR h1' h2' k4 e).elim
 ·rw[OD.X1d ks nz em k4 k4' e e']
theorem Hq.laid(ks:Ks c f R)(nz:Nv c f)(em:ev m)(h:Hq R m d)(d2:d<2):∀w,w<2^c->Ar m.1 m.2.1 m.2.2 f w=Az (f w) ((4*d:Nat):Int):=by
 rcases h.kinds with ⟨rfl,_⟩ | ⟨kk,u,k4,e,rfl⟩
 ·exact absurd d2 (by decide)
 ·obtain⟨a,b⟩:=Ko.aA ks nz em k4 e;intro w g;rw[b w g];rcases a with rfl | rfl<;>rfl
theorem Hq.left{o:Nat}(c6:c<=6)(ks:Ks c f R)(nz:Nv c f)(len:R.length=c)(om:DY.Ok c m)(em:ev m)(h:Hq R m d)(ho:o<2)(q:d=2\/d=o):∃i,i<2^c/\Ar m.1 m.2.1 m.2.2 f i≠Az (f i) (4*(1-o):Nat):=by
 by_cases d2:d<2
 ·have e:d=o:=by lia
  subst e;exact OD.X1h ho (h.laid ks nz em d2) nz
 ·rcases h.kinds with ⟨rfl,p,pf,ps,h1,h2⟩ | ⟨kk,u,k4,e,rfl⟩
  ·rw[len]at pf ps;obtain⟨r,g,a,b⟩:=Ko.Mu c6 ks nz len pf ps h1 h2;exact OD.Y8a ho g om.f a b nz
  ·exact absurd (by split<;>decide) d2
theorem fL.ks{o:Nat}{R':List Mk}(ho:o<2)(om:DY.Ok c m)(em:ev m)(ks:Ks c f R)(H:Bl m.1 m.2.1 m.2.2 (sg o) (2^c) f g)(b:fL R m o R')(T:Cp.Tb R'):Ks c g R':=by
 rcases b with ⟨rfl,al⟩ | ⟨j0,r0,h0,nc,rfl⟩
 ·exact OD.W4x ho om ks al H
 ·exact OD.X5z ho om em ks h0 nc H T
def MP (K:U0):Sp:=λvs H Q _=>∃(b l p:W9) (bs ps:U3) (f:Nat->A5) (R:List Mk) (c n M:Nat) (m:Mk) (o:Nat),vs=[.ref b,.ref l,.ref p,.int o,.int c]/\Cz K H b bs f c n M/\n<=800/\M<=90/\G4 c H l ps R/\R.length=c/\1<=c/\c<=6/\Ks c f R/\Nv c f/\H p=some (Ay.T3 m)/\Fe c m/\ev m/\o<2 /\
 ∀(r b' l':W9) (bs' ps':U3) (H':Hp) (g:Nat->A5) (S:List Mk) (o':Nat),Same H H'->H' r=some (.lst [.ref b',.ref l'])->Cz K H' b' bs' g c (n+2*M+2) (M+1)->G4 c H' l' ps' S->S.length=c->Ks c g S->Nv c g->o'<2->Bl m.1 m.2.1 m.2.2 (sg o') (2^c) f g->(RG.Small c f->RG.Small c g)->Q (.ref r) H'
section
variable {P:U8}{w:W1}{K:U0}{mg:U4}{base:Heap}{k:Nat}{h:Heap}
theorem W0n(F:Ab K "_law_look" (top 114) .none)(X:K.In h)(G:Ng h mg)(B:Bs mg)(dW:Ah P w K mg base k "_law_shares" ["_law_board","_law_rows","_law_mark"] (xK K))(d8:Ah P w K mg base k "_law_never" ["_law_board","_law_rows","_law_mark","_law_outcome","_law_by_rows"] (vW K))(dD:Ah P w K mg base k "settled" ["board","mark","outcome"] (yW K))(cK:Ah P w K mg base k "table_settled" ["rows","mark","outcome"] Vz)(cQ:Ah P w K mg base k "_law_keeps" ["_law_board","_law_rows","_law_cells"] (pI K))(cX:Ah P w K mg base k "reduced" ["rows","cells"] Ay.aK):Ah P w K mg base (k+1) "_law_look" ["_law_board","_law_rows","_law_mark","_law_outcome","_law_cells"] (MP K):=by
 refine F.cal X G ["_law_board","_law_rows","_law_mark","_law_outcome","_law_cells","_law_only","_law_behind","_law_found"] λnd H vs Q E j h=>?_;obtain⟨b,l,p,bs,ps,f,R,c,n,M,m,o,rfl,BD,n1,m1,T,lR,c1,c6,ks,nz,hp,Cv,t,o2,kq⟩:=h;have om:DY.Ok c m:=⟨Cv.q,Cv.f,Cv.s⟩
 refine⟨_,(@Aq _ _ _ _ _ (@Bb _ _ 5 _ _ _ _ nd rfl (Or.inl rfl) (Av dW j rfl (Aa (pv 0) (Aa (pv 1) (Aa (pv 2) Ae)))) rfl (.inl rfl))
  (@Aq _ _ _ _ _ (Bx (B_ oJ (pv 5) Lj (Ad _))
   (@Ak _ _ _ (BJ Lj))
   CK)
  (@GX _ _ _ _ _ (Bx (PW.pt (O1 (B_ Nt (pv 5) Ac (Ad _)) (R3 (B_ Jh (pv 3) (pv 5) (Ad _)))))
   (@Aq _ _ _ _ _ (Bx (PW.pt (IW (FQ (Du (Av d8 j rfl (Aa (pv 0) (Aa (pv 1) (Aa (pv 2) (Aa (pv 3) (Aa Iu Ae)))))))) (Kh (FQ (Du (Av d8 j rfl (Aa (pv 0) (Aa (pv 1) (Aa (pv 2) (Aa (pv 3) (Aa Iu Ae)))))))))))
    (@Ak _ _ _ (BJ Lj))
    CK)
   (@Ak _ _ _ (@Bb _ _ 3 _ _ _ _ nd rfl (Or.inl rfl) (pv 5) rfl (.inl rfl))))
   CK)
  (@Aq _ _ _ _ _ (@Bb _ _ 6 _ _ _ _ nd rfl (Or.inl rfl) (Av dD j rfl (Aa (pv 0) (Aa (pv 2) (Aa (pv 3) Ae)))) rfl (.inl rfl))
  (@Aq _ _ _ _ _ (@Bb _ _ 7 _ _ _ _ nd rfl (Or.inl rfl) (Av cK j rfl (Aa (pv 1) (Aa (pv 2) (Aa (pv 3) Ae)))) rfl (.inl rfl))
  (@Aq _ _ _ _ _ (Bx (PW.pt (IW (FQ (Du (Av cQ j rfl (Aa (pv 6) (Aa (pv 7) (Aa (pv 4) Ae)))))) (Kh (B_ (qH j.units) (Av cX j rfl (Aa (pv 7) (Aa (pv 4) Ae))) (pv 7) (Ad _)))))
   (@Ak _ _ _ (BJ Lj))
   CK)
  (@Ak _ _ _ (BJ (@Li _ _ _ _ (Aa (pv 6) (Aa (pv 7) Ae))))))))))),?_⟩
 try dsimp only[Bm]
 refine⟨_,U,_,U,_,U,b,l,p,bs,ps,f,R,c,n,M,m,U,BD,n1,m1,T,lR,c6,ks,nz,hp,Cv,t,λH1 d I O C=>?_⟩;obtain⟨gg,C⟩:=C;refine⟨_,U,U,_,U,A_ (λz=>(nomatch z)) (λ_=>?_)⟩;have B1:=BD.same I;have T1:=T.same I;have Z:=I _ _ hp;refine⟨λσ' H'=>Same H H'/\∃o':Nat,o'<2/\(d=2\/d=o')/\σ'=[some (.ref b),some (.ref l),some (.ref p),some (.int o'),some (.int c),some (.int d),none,none],?_,?_⟩
 ·refine⟨_,U,_,_,U,U,_,U,A_ (λz=>?_) (λz=>Bj ⟨I,o,o2,.inl (by have:=O.le;lia),U⟩)⟩;refine⟨_,U,_,U,U,_,U,Kc (λy=>?_) (λy=>⟨I,o,o2,.inr (by lia),U⟩)⟩;have d2:d<2:=by lia
  have dn:d≠o:=by lia
  have la:=O.laid ks nz t d2;have nt:rG H1 l p o:=⟨ps,R,c,m,T1,lR,c6,Z,Cv,o2,λd' h'=>by rw[h'.uniq ks nz t O];exact⟨by lia,dn⟩⟩;refine⟨_,U,_,U,_,U,_,U,b,l,p,o,true,U,λ_=>nt,λe=>(nomatch e),λH2 u=>⟨_,U,Bj ?_⟩⟩
  have nb:rH K H2 b p o:=⟨bs,f,c,n,M,m,B1.same u,c6,by lia,by lia,u _ _ Z,Cv,t,o2,λi hi=>by
   rw[la i hi,show d=1-o by lia]⟩
  refine⟨_,U,_,U,_,U,_,U,b,l,p,o,false,U,λe=>(nomatch e),λ_=>nb,λH3 S3=>⟨_,U,Bj ?_⟩⟩;exact⟨_,U,(I.trans u).trans S3,d,d2,.inr rfl,U⟩
 rintro σ' H2 ⟨u,o',a,dd,rfl⟩;refine⟨_,U,_,U,_,U,b,p,bs,f,c,n,M,m,o',U,BD.same u,c6,by lia,by lia,u _ _ hp,Cv,t,a,O.left c6 ks nz lR om t a dd,λrb H3 qb g _ S3 B3 hb ng=>?_⟩;have D:=u.trans S3;refine⟨_,U,_,U,_,U,l,p,ps,R,c,m,o',U,T.same D,lR,c1,c6,D _ _ hp,Cv,t,a,(λd' h'=>by rw[h'.uniq ks nz t O];exact dd),λrt H4 J S R' _ S4 Y V bh L a6 N dm ln pw=>?_⟩;have kR:=fL.ks a om t ks hb bh L;have A:=fB.W4w c6 kR dm;have a0:Nv c g:=OD.W4l (λw hw=>(B3.ok w hw).amt) ng;have lS:S.length=c:=ln.trans N;have tS:=A.tb c6 a0;have T4:G4 c H4 rt J S:=⟨Y,V,λx v=>⟨(A.ok x v).1.q,(A.ok x v).1.f,(A.ok x v).1.s⟩,tS,by lia⟩;refine⟨_,U,_,U,_,U,rb,rt,qb,J,g,S,c,_,_,U,B3.same S4,Y,V,lS,c6,λx v=>(A.ok x v).1,λx v=>(A.ok x v).2,λH5 S5=>⟨_,U,Bj ?_⟩⟩;refine⟨_,U,_,U,rt,J,S,c,U,T4.same S5,c1,c6,λr5 H6 q5 S' S6 _ a1 a4 a3 a5 a2=>?_⟩;have eS:=fB.X4e L tS dm pw a3 a2;subst eS;have T6:=(T4.same S5).same S6;refine⟨_,U,r5,rt,q5,J,_,_,U,U,a1,T6.lst,JC a4,JC T6.mks,_,U,?_⟩;rw[show (if true=true then !decide (S'.map m3=S'.map m3) else decide (S'.map m3=S'.map m3))=false by simp];have W:=(S4.trans S5).trans S6;refine Bj ⟨_,U,_,U,JB (show 2<=64 by decide),λr j=>?_⟩;exact kq r rb rt qb J _ g S' o' ((D.trans W).trans (BR j _)) Ax ((B3.same W).same (BR j _)) (T6.same (BR j _)) lS A a0 a hb (λsm=>sm.half om.f a hb (C (1-o') (by lia)))
end
end Bd
namespace Bd
open L2 Am Pc Ba
open Aj (top Bs)
def Nm (z:Int):Prop:=0<=z/\z<2147483648
def QF (K:U0):Sp:=λvs H Q _=>∃(x:Int) (mo:Nat) (a:W9) (ns:U6),vs=[.int x,.int mo,.ref a]/\mo<=60/\Aw K H a (ns.map V.int)/\0<ns.length/\ns.length<=61/\(∀z∈ns,Nm z)/\∀(r:W9) (H':Hp) (ds:U6),H r=none->Same H H'->H' r=some (.lst (ds.map V.int))->ds.length<=mo->(∀z∈ds,Nm z)->Q (.ref r) H'
theorem W2d{x q:Int}(h:Nm x)(q0:1<=q):Nm (x.fdiv q):=by
 rw[Wo _ (by lia)];refine⟨ZW h.1 (by lia),?_⟩;exact Int.lt_of_le_of_lt (Int.ediv_le_self _ h.1) h.2
theorem W5t{k n:Int}(k0:0<=k)(n0:0<n):0<=k.fdiv n/\k.fdiv n<=k:=by
 rw[Wo _ (by lia)];exact⟨ZW k0 (by lia),Int.ediv_le_self _ k0⟩
section
variable {P:U8}{w:W1}{K:U0}{mg:U4}{base:Heap}{k:Nat}{h:Heap}
theorem W4k(F:Ab K "_law_digits" (top 110) .none)(X:K.In h)(G:Ng h mg)(B:Bs mg):Ah P w K mg base (k+1) "_law_digits" ["_law_cell","_law_most","_law_spare"] (QF K):=by
 refine F.cal X G ["_law_cell","_law_most","_law_spare","_law_found","_law_many","_law_k","_law_number"] λe H vs Q E hr h=>?_;obtain⟨x,b,a,ns,rfl,M,O,Y,N,nn,q⟩:=h;have t:(ns.map V.int).length=ns.length:=Bg _
 refine⟨_,(@Aq _ _ _ _ _ (@Bb _ _ 3 _ _ _ _ e rfl (Or.inl rfl) (@Li _ _ _ _ Ae) rfl (.inl rfl))
  (@GX _ _ _ _ _ (@Bb _ _ 4 _ _ _ _ e rfl (Or.inl rfl) (Af Dt (pv 0) (Af El (pv 1) Ac)) rfl (.inl rfl))
  (@GX _ _ _ _ _ (@Bb _ _ 0 _ _ _ _ e rfl (Or.inl rfl) (Af Qx (pv 0) (Af El (pv 1) Ac)) rfl (.inl rfl))
  (@Aq _ _ _ _ _ (J7 PassesOwn.never rfl (Lw rfl B.range (Aa (pv 4) Ae)) (DR (i:=5) e rfl (Or.inl rfl))
   (@Aq _ _ _ _ _ (@Bb _ _ 6 _ _ _ _ e rfl (Or.inl rfl) (Af Dt (pv 0) Ac) rfl (.inl rfl))
   (@GX _ _ _ _ _ (Bx (B_ Dr (pv 0) Ac (Ad _))
    (@Ak _ _ _ (@Bb _ _ 6 _ _ _ _ e rfl (Or.inl rfl) (Af Qx (Ai Fv (pv 2) (Af Dt (pv 5) (Ck Ig rfl B.len HX (Aa (pv 2) Ae))) (λ_ _=>rfl)) (Af El Ac (Af Qx (pv 5) (Ck Ig rfl B.len HX (Aa (pv 2) Ae))))) rfl (.inl rfl)))
    CK)
   (@Aq _ _ _ _ _ (Ny (W7d PySem.F.plainAttrs_list PySem.F.slot_list_append PySem.F.type_list_append nU (pv 3) (Aa (pv 6) Ae)))
   (@Ak _ _ _ (@Bb _ _ 0 _ _ _ _ e rfl (Or.inl rfl) (Af J8 (pv 0) Ac) rfl (.inl rfl)))))))
  (@Ak _ _ _ (BJ (pv 3))))))),?_⟩
 try dsimp only[Bm]
 refine⟨Gz _,λl f=>?_⟩;have L:upd H l (.lst []) l=some (.lst ([]:List V)):=Ax;have J:=BR f (.lst []);generalize upd H l (.lst [])=o at L J ⊢;refine⟨λg H'=>H'=o/\∃c:Int,0<=c/\c<b+1/\g=[some (.int x),some (.int b),some (.ref a),some (.ref l),some (.int c),none,none],?_,?_⟩
 ·exact⟨_,U,_,U,_,_,U,U,_,_,U,U,(by lia:(0:Int)<(b:Int)+1),U,x%((b:Int)+1),Oe _ (by lia),QW _ (by lia),U⟩
 rintro R o ⟨rfl,c,W,T,rfl⟩;refine⟨λg H'=>H'=o/\∃r:Int,g=[some (.int r),some (.int b),some (.ref a),some (.ref l),some (.int c),none,none],?_,?_⟩
 ·exact⟨_,U,_,U,_,_,U,U,_,_,U,U,⟨(by lia:((b:Int)+1)≠0),(show Sz 7 ((b:Int)+1) by unfold Sz;lia).mono (by decide)⟩,U,_,U⟩
 rintro σ2 o ⟨rfl,r,rfl⟩;refine⟨_,U,_,U,by lia,by lia,?_⟩;refine nG (n:=c.toNat) (λj σ H'=>∃(cc:Int) (ds:U6) (v A:Option V),Same H H'/\H' l=some (.lst (ds.map V.int))/\(∀d∈ds,Nm d)/\ds.length=j/\σ=[some (.int cc),some (.int b),some (.ref a),some (.ref l),some (.int c),v,A])
  ⟨r,[],none,none,J,L,(λd hd=>by cases hd),U,U⟩ ?_ ?_
 ·rintro j σ H1 Z ⟨cc,ds,v,A,m,h1,y,I,rfl⟩;have D:=m.seq O;refine⟨_,U,_,_,U,U,(by decide:(0:Int)<131072),?_⟩;refine⟨λg H'=>∃n:Int,Nm n/\H'=H1/\g=[some (.int cc),some (.int b),some (.ref a),some (.ref l),some (.int c),some (.int (0+j)),some (.int n)],?_,?_⟩
  ·refine⟨_,U,U,_,U,K4 (λ_=>?_) (λ_=>⟨_,⟨Oe _ (by decide),Int.lt_of_lt_of_le (QW _ (by decide)) (by decide)⟩,U,U⟩)⟩;have p:(0:Int)<((ns.map V.int).length:Nat):=by rw[t];lia
   have s:(0:Int)<=(0+(j:Int))%((ns.map V.int).length:Nat):=Oe _ (by lia);have u:(0+(j:Int))%((ns.map V.int).length:Nat)<ns.length:=by have:=QW (0+(j:Int)) p;rw[t]at this ⊢;exact this
   have S:=W5t (show (0:Int)<=0+(j:Int) by lia) p;have C:Nm (ns.getD ((0+(j:Int))%((ns.map V.int).length:Nat)).toNat 0):=by
    have f:((0+(j:Int))%((ns.map V.int).length:Nat)).toNat<ns.length:=by lia
    rw[CP,Cm f];exact nn _ (Rc f)
   refine⟨_,U,_,U,_,U,a,_,U,.inl D,_,_,U,U,p,a,_,_,_,U,U,D,Ay.qY s u,_,U,_,U,a,_,U,.inl D,_,_,U,U,⟨by lia,(show Sz 7 (((ns.map V.int).length:Nat):Int) by unfold Sz;rw[t];lia).mono (by decide)⟩,_,_,U,U,_,_,U,U,⟨by lia,(show Sz 8 (1+(0+(j:Int)).fdiv ((ns.map V.int).length:Nat)) by unfold Sz;lia).mono (by decide)⟩,?_⟩;exact⟨_,W2d C (by lia),U,U⟩
  rintro g H2 ⟨n,z,rfl,rfl⟩;refine⟨_,U,.inl ⟨U,_,Aw.of h1⟩,_,U,l,_,_,U,U,h1,?_,?_⟩
  ·rw[Bg,I];exact Ea (show j<64 by lia) (by decide)
  ·refine⟨_,U,_,_,U,U,⟨by decide,by decide⟩,cc / 131072,ds++[n],_,_,Fw m f,by rw[Ax,DW];rfl,λd hd=>?_,by rw[JM,I];rfl,U⟩;rcases Io.mp hd with hd | hd
   ·exact y d hd
   ·rw[Fj.mp hd];exact z
 ·rintro σ H1 ⟨cc,ds,v,A,m,h1,y,I,rfl⟩;exact⟨_,U,q l H1 ds f m h1 (by lia) y⟩
end
end Bd
set_option maxHeartbeats 4000000
namespace Bc
open L2 Ba Am Pc Ew
open Aj (Gm Steps G6)
open Dc (fl sw Dv V4 En sm Eo op)
open FW (Mk CJ Bh Br lay bn bp)
open DY (Kp Nv Ks)
open Gg (E Indep)
variable{c:Nat}{f:Nat->A5}{m:Mk}
theorem zH(hf:m.2.1<2^c):Kp c f m↔∀w,w<2^c->f w=layW m f w:=by
 constructor
 ·intro h w a;have:=h (w^^^m.2.1) (Er a hf);rw[E_,HW,Nh]at this;exact this
 ·intro h w a;have:=h (w^^^m.2.1) (Er a hf);unfold layW at this;rw[E_,HW,Nh]at this;exact this
theorem bound:∃N:Nat,∀w,w<2^c->(f w).2<=(N:Int):=by
 have:∀n:Nat,∃N:Nat,∀w,w<n->(f w).2<=(N:Int):=λn=>by
  induction n with
  | zero=>exact⟨0,λw h=>absurd h (Js _)⟩
  | succ n ih =>
   obtain⟨N,h⟩:=ih;refine⟨N+(f n).2.toNat,λw a=>?_⟩;by_cases e:w=n
   ·subst e;lia
   ·have:=h w (by lia);lia
 exact this _
variable{row:List Mv}{g:Nat->A5}
theorem W4y(hc:c<=6)(o:Jk c m)(ok:∀x∈row,Dv c x)(br:∀x∈row,Br x)(af:G6 c f)(s:Steps c (row.map gm) f g)(h:Kp c f m):Kp c g (Bh row m):=by
 obtain⟨N,le⟩:=bound (c:=c) (f:=f);have d:=bQ ok o;refine(zH d.f).mpr λw a=>?_;have st:∀w,w<2^c->Vl N ((λw=>sm (2^(N-(f w).2.toNat)) (f w).1) w) (f w):=λw a=>Vl.of (af w a).nn (le w a);obtain⟨h1,e⟩:=qO hc ok af st s;have b:∀w,w<2^c->Vl N (lay m (λw=>sm (2^(N-(f w).2.toNat)) (f w).1) w) (f w):=λw a=>by
  have:=zL o st w a;rw[<-(zH o.f).mp h w a]at this;exact this
 obtain⟨h2,k⟩:=qO hc ok af b s;have j:=zL d h1 w a;have i:=h2 w a;rw[X1o _ _ ok br]at i;exact i.same j (e w a) (W1n d e w a)
theorem mU(h:Aj.Hf c g f):∃b,∀M,b<=M->Hw.Bw g (2^c) M=Hw.Bw f (2^c) M/\Hw.BZ g (2^c) M=Hw.BZ f (2^c) M:=by
 obtain⟨b,a⟩:=h;refine⟨b,λM d=>?_⟩;obtain⟨x,y⟩:=a M d;rw[RG.YD,RG.YD]at x y;exact⟨x,y⟩
theorem W0z(af:G6 c f)(ag:G6 c g)(nf:Nv c f)(h:Aj.Hf c g f):Nv c g:=by
 obtain⟨i,e⟩:=mU h;obtain⟨e1,e2⟩:=e i (Ku _);have nn:∃w,w<2^c/\f w≠Lk.nought:=by
  obtain⟨w,d,n⟩:=nf;exact⟨w,d,λe=>n (by rw[e])⟩
 have p:=Lq.qR (M:=i) (n:=2^c) (f:=f) (λw d=>af w d) nn;rcases Lq.bH (f:=g) (M:=i) (2^c) (λw d=>ag w d) with ⟨a,b,_⟩ | ⟨_,n⟩
 ·rw[<-e1,<-e2,a,b]at p;exact absurd p (by unfold Pq.Pos;decide)
 ·exact OD.W4l (λw d=>ag w d) n
theorem W1o(hc:c<=6){R:List Mk}(ok:∀x∈row,Dv c x)(br:∀x∈row,Br x)(af:G6 c f)(s:Steps c (row.map gm) f g)(K:Ks c f R):Ks c g (R.map (Bh row)):=by
 refine⟨λr d=>?_,M97.X6c (λx e=>(ok x e).1) br K.ind⟩;obtain⟨m,h,rfl⟩:=Ej.mp d;obtain⟨a,b⟩:=K.ok m h;have o:Jk c m:=⟨a.q,a.f,a.s⟩;have o':=bQ ok o;exact⟨⟨o'.k,o'.f,o'.s⟩,W4y hc o ok br af s b⟩
end Bc
set_option maxHeartbeats 1000000
namespace Bd
open L2 Am Pc Ba Hw
open Dh (Mk bit Ef)
open DY (Kp Nv Ks)
open Aj (st)
noncomputable def Oc (x c:Nat):List Mk:=(List.range c).map λj=>(x / 2^j%2*2,0,2^j)
theorem W6z(x j c:Nat):Kp c (st x) (x / 2^j%2*2,0,2^j):=λw a=>by
 show st x (w^^^0)=Az (st x w) ((2*(x / 2^j%2*2)+4*pc (w&&&2^j):Nat):Int);rw[Nh];by_cases h:w=x
 ·subst h;rw[Il,fB.oM,show bit w j=w / 2^j%2 from rfl,DY.N7 _ (b:=0) (by lia),DY.M7];rfl
 ·have e:st x w=Lk.nought:=by unfold Aj.st;simp[h]
  rw[e,DY.M7];have:∀n,BK n ((0,0,0,0):Int×Int×Int×Int)=(0,0,0,0):=λn=>by
   induction n with
   | zero=>rfl
   | succ n ih=>rw[DY.qJ,ih];rfl
  rw[this]
variable{x c:Nat}
theorem W6y(hx:x<2^c):Ks c (st x) (Oc x c):=by
 refine⟨λr b=>?_,?_⟩
 ·obtain⟨j,a,rfl⟩:=Ej.mp b;have jc:=Ek.mp a;exact⟨⟨by show x / 2^j%2*2<4;lia,Cu c,Jf (by decide) jc⟩,W6z x j c⟩
 ·refine Gg.Y4n (ms:=(List.range c).map λj=>((0,0,2^j):Mk)) (by simp[Oc]) (λj a=>?_) (Gg.Y4m c);have jc:j<c:=by simpa using a
  simp[Oc,CP,jc]
theorem W6x(hx:x<2^c):Nv c (st x):=⟨x,hx,by unfold Aj.st;simp⟩
theorem _J{F:Nat->Int}:∀n,(∀i,i<n->F i=0)->BW F n=0
 | 0,_=>rfl
 | n+1,h=>by
  show BW F n+F n=0;rw[_J n λi hi=>h i (by lia),h n (by lia)];rfl
theorem xT{F:Nat->Int}{x:Nat}(h:∀i,i≠x->F i=0):∀n,x<n->BW F n=F x
 | n+1,hx=>by
  show BW F n+F n=F x;by_cases q:x=n
  ·subst q;rw[_J x λi hi=>h i (by lia),LQ]
  ·rw[xT h n (by lia),h n (λz=>q z.symm),g_]
theorem xQ(hx:x<2^c):RG.Small c (st x):=by
 refine⟨0,λM _=>?_⟩;have z:∀i,i≠x->(λw=>BP (st x w) M) i=0:=λi hi=>by
  show BP (st x i) M=0;rw[show st x i=((0,0,0,0),0) by unfold Aj.st;simp[hi],M8];show Gx.tt 0 0 0 0*_=0;rw[show Gx.tt 0 0 0 0=0 from rfl,Int.zero_mul]
 show BW (λw=>BP (st x w) M) (2^c)<=_;rw[xT z _ hx];show BP (st x x) M<=_;rw[show st x x=((1,0,0,0),0) by unfold Aj.st;simp,M8];show Gx.tt 1 0 0 0*(p2 (M-0)*p2 (M-0))<=_;rw[show Gx.tt 1 0 0 0=1 from rfl,QJ,Int.sub_zero];exact Ku _
end Bd
namespace Bd
open L2 Am Pc Ba Hw
open Dh (Mk)
open DY (Kp Nv Ks)
open Aj (Cz Steps G6)
open Ay (G4 CW)
structure Iv (K:U0) (H:Hp) (b:W9) (bs:U3) (l:W9) (ps:U3) (f:Nat->A5) (R:List Mk) (c M:Nat):Prop where
 bd:Cz K H b bs f c (M+1) M
 tb:G4 c H l ps R
 len:R.length=c
 ks:Ks c f R
 nz:Nv c f
 sm:RG.Small c f
variable {K:U0}{H:Hp}{b l:W9}{bs ps:U3}{f:Nat->A5}{R:List Mk}{c n M:Nat}
theorem Iv.same{H':Hp}(i:Iv K H b bs l ps f R c M)(s:Same H H'):Iv K H' b bs l ps f R c M:=⟨i.bd.same s,i.tb.same s,i.len,i.ks,i.nz,i.sm⟩
theorem Iv.of(B:Cz K H b bs f c n M)(hl:H l=some (.lst (ps.map V.ref)))(mk:CW H ps R)(c6:c<=6)(len:R.length=c)(ks:Ks c f R)(nz:Nv c f)(sm:RG.Small c f):Iv K H b bs l ps f R c M :=
 ⟨⟨B.lst,B.len,B.vals,λi hi=>sm.sz hi (B.ok i hi).amt (B.ok i hi).le⟩,⟨hl,mk,λx a=>⟨(ks.ok x a).1.q,(ks.ok x a).1.f,(ks.ok x a).1.s⟩,ks.tb c6 nz,by lia⟩,len,ks,nz,sm⟩
theorem Iv.move{x:Ew.Mv}{H':Hp}{b' l':W9}{bs' ps':U3}{g:Nat->A5}{n':Nat}(i:Iv K H b bs l ps f R c M)(c6:c<=6)(o:Dc.Dv c x)(br:FW.Br x)(B:Cz K H' b' bs' g c n' ((M+1:Nat):Int).toNat)(s:Steps c ([x].map Bc.gm) f g)(hl:H' l'=some (.lst (ps'.map V.ref)))(mk:CW H' ps' (R.map (FW.Bh [x]))):Iv K H' b' bs' l' ps' g (R.map (FW.Bh [x])) c (M+1):=by
 have e:G6 c f:=λw d=>(i.bd.ok w d).amt;have h:G6 c g:=λw d=>(B.ok w d).amt;have ok:∀y∈[x],Dc.Dv c y:=λy a=>by rw[Fj.mp a];exact o
 have k:∀y∈[x],FW.Br y:=λy a=>by rw[Fj.mp a];exact br
 have hf:=Aj.Steps.hf c6 (λm j=>by obtain⟨y,a,rfl⟩:=Ej.mp j;exact Bc.Ys (ok y a)) e s;exact Iv.of B hl mk c6 (by rw[Bg,i.len]) (Bc.W1o c6 ok k e s i.ks) (Bc.W0z e h i.nz hf) (i.sm.of_hf hf)
end Bd
set_option maxHeartbeats 4000000
namespace L2
section
variable {X:Cx}{pins:U1}{σ:St}{H:Hp}{s:U7}
end
end L2
namespace L2
theorem Ah.imp{P:U8}{w:W1}{K:U0}{mg:U4}{base:Heap}{k:Nat}{x:Str}{ps:W0}{sp sp':Sp}(c:Ah P w K mg base k x ps sp)(h:∀vs H Q E,sp' vs H Q E->sp vs H Q E):Ah P w K mg base k x ps sp' :=
 let ⟨f,fd,F,r⟩:=c.ex
 ⟨f,fd,F.imp h,r⟩
end L2
set_option maxHeartbeats 1000000
namespace Aj
open L2 Am Pc Ba
theorem Qi{K:U0}{a:W9}{od:W5}{sl:W4}{n:Nat}{v1 v2 v3 v4 v5:Int}{t1 t2 t3 t4 t5:Tok}(h:K.lookup a=some ⟨.type "tuple",od,.seq #[.int v1 t1,.int v2 t2,.int v3 t3,.int v4 t4,.int v5 t5] n,sl⟩)(H:Hp):Aj.Cw K H a ((v1,v2,v3,v4),v5):=
 .inr ⟨_,_,_,h,U,U,(show 5<=sizeLine by decide),.cons ⟨_,U⟩ (.cons ⟨_,U⟩ (.cons ⟨_,U⟩ (.cons ⟨_,U⟩ (.cons ⟨_,U⟩ .nil))))⟩
end Aj
namespace Bd
open L2 Am Pc Ba Hw
open Dh (Mk)
open Cp (ev)
open DY (Kp Nv Ks)
open Dc (Dv)
open Aj (top Bs Cz Steps G6 st pL Ht)
open Ay (G4 CW Fe Lr Qw)
open Bc (qM pK)
theorem yr(ns:U6)(hi:Nat)(h:hi<=62)(l2:2<=hi):∃ms:List Int,FN (ns.map V.int) (some 2) (some (hi:Int))=ms.map V.int/\ms.length<=60:=by
 unfold FN;refine⟨_,by rw[<-List.map_drop,<-iH],?_⟩;rw[Hx,iU,Bg,show ((2:Int))=((2:Nat):Int) from rfl,HT.bT,HT.bT];lia
theorem wN{H:Hp}:∀{ps:U3}{ms:List Mk},CW H ps ms->Paired (λp m=>H p=some (.tup (Bc.Ge m))) ps ms
 | _,_,.nil=>.nil
 | _,_,.cons a r=>.cons a (wN r)
theorem wV{H:Hp}:∀{ps:U3}{ms:List Mk},Paired (λp m=>H p=some (.tup (Bc.Ge m))) ps ms->CW H ps ms
 | _,_,.nil=>.nil
 | _,_,.cons a r=>.cons a (wV r)
theorem wO{H:Hp}:∀{ps:U3}{ms:List Mk}{p:W9}{m:Mk},CW H ps ms->H p=some (Ay.T3 m)->CW H (ps++[p]) (ms++[m])
 | _,_,_,_,.nil,e=>.cons e .nil
 | _,_,_,_,.cons a r,e=>.cons a (wO r e)
theorem X1b{H:Hp}{l:W9}{xs ys:List V}(e:H l=some (.lst xs)):∀{ps:U3}{ms:List Mk},CW H ps ms->CW (upd H l (.lst ys)) ps ms
 | _,_,.nil=>.nil
 | _,_,.cons a r=>.cons (by rw[Cg (λz=>by rw[z,e]at a;cases a)];exact a) (X1b e r)
theorem X3q{B G:Prop}(h:B->G)(b:B):G:=h b
theorem X6m(z:Int):Nm ((z*48271+69621)%2147483647):=⟨Oe _ (by decide),Int.lt_trans (QW _ (by decide)) (by decide)⟩
section
variable {P:U8}{w:W1}{K:U0}{mg:U4}{base:Heap}{k:Nat}{h:Heap}
theorem Mi:Ce ["_law_script","_law_head","_law_cells","_law_drawn","_law_word","_law_board","_law_rows","_law_looks","_law_numbers","_law_number","_law_kept","_law_mark","_law_found","_law_move_here"] ["_law_script"] (Dp (top 115)):=fS
theorem W4h{n:Nat}(hn:n<=63){f:W9}{fd:FuncData}(F:fH K "law" "law" (top 115) f fd)(B:Bs mg)(cM:Ah P w K mg base k "_law_cell_at" ["_law_script","_law_k"] (Ba.Mg K))(gU:Ah P w K mg base k "start" ["cells","word"] (pL K))(dU:Ah P w K mg base k "_law_digits" ["_law_cell","_law_most","_law_spare"] (QF K))(dI:Ah P w K mg base k "_law_look_mark" ["_law_number","_law_rows","_law_cells"] QB)
  (eR:Ah P w K mg base k "_law_look" ["_law_board","_law_rows","_law_mark","_law_outcome","_law_cells"] (MP K)) (eU:Ah P w K mg base k "_law_move" ["_law_number","_law_cells"] qM) (gX:Ah P w K mg base k "run" ["board","row"] (Ht K)) (eK:Ah P w K mg base k "moved_rows" ["rows","row"] (pK K)) (cQ:Ah P w K mg base k "_law_keeps" ["_law_board","_law_rows","_law_cells"] (pI K)):
  EY P w K mg base NZ (k+1) f fd ["_law_script"] (KJ K n):=by
 have nd:=Mi.nd;refine F.ok Mi (λvs H Q E' h=>?_) (λf6 A outer s H vs Q E' I h=>?_)
 ·obtain⟨a,ns,rfl,_⟩:=h;rfl
 obtain⟨j,ns,rfl,hS,h4,lt,f0⟩:=h
 refine⟨_,(@GX _ _ _ _ _ (@Bb _ _ 1 _ _ _ _ nd rfl (Or.inl rfl) (Av cM I rfl (Aa (pv 0) (Aa Ac Ae))) rfl (.inl rfl))
  (@GX _ _ _ _ _ (@Bb _ _ 2 _ _ _ _ nd rfl (Or.inl rfl) (Af El Ac (Af Dt (pv 1) Ac)) rfl (.inl rfl))
  (@GX _ _ _ _ _ (@Bb _ _ 3 _ _ _ _ nd rfl (Or.inl rfl) (N5 pG (pv 0) (K6 Ac) (K6 Ac)) rfl (.inl rfl))
  (@GX _ _ _ _ _ (Bx (B_ Dr (Af Dt (Af J8 (pv 1) Ac) Ac) Ac (Ad _))
   (@Aq _ _ _ _ _ (@Bb _ _ 2 _ _ _ _ nd rfl (Or.inl rfl) (Af El Ac (Af Dt (pv 1) Ac)) rfl (.inl rfl))
   (@Ak _ _ _ (@Bb _ _ 3 _ _ _ _ nd rfl (Or.inl rfl) (N5 pG (pv 0) (K6 Ac) (K6 Ac)) rfl (.inl rfl))))
   CK)
  (@GX _ _ _ _ _ (@Bb _ _ 4 _ _ _ _ nd rfl (Or.inr rfl) (Af Dt (Av cM I rfl (Aa (pv 0) (Aa Ac Ae))) (Af G3 Ac (pv 2))) rfl (.inl rfl))
  (@GX _ _ _ _ _ (@Bb _ _ 5 _ _ _ _ nd rfl (Or.inl rfl) (Av gU I rfl (Aa (pv 2) (Aa (pv 4) Ae))) rfl (.inl rfl))
  (@GX _ _ _ _ _ (R9 (i:=6) rfl nd rfl rfl (Bp.of (Nc:=["_law_cell","_law_word"]) (mp:=[none,some 4]) (by kernel_rfl)) (Lw rfl B.range (Aa (pv 2) Ae)) (λ_ _ _ _=>(DR (i:=0) (show (["_law_cell","_law_word"]:W0).Nodup by decide +kernel) rfl (Or.inl rfl))) (λ_ _ _ _=>(@Dg _ _ _ _ _ (Aa (Af Nu (Af Dt (Af Qx (pv 1) (Af G3 Ac (pv 0))) Ac) Ac) (Aa Ac (Aa (Af G3 Ac (pv 0)) Ae))))) rfl)
  (@Aq _ _ _ _ _ (@Bb _ _ 7 _ _ _ _ nd rfl (Or.inl rfl) Ac rfl (.inl rfl))
  (@GX _ _ _ _ _ (R9 (i:=8) rfl nd rfl rfl (Bp.of (Nc:=["_law_cell"]) (mp:=[none]) (by kernel_rfl)) (G_ (pv 3)) (λ_ _ _ _=>(DR (i:=0) (show (["_law_cell"]:W0).Nodup by decide +kernel) rfl (Or.inl rfl))) (λ_ _ _ _=>(Af Dt (Af El (Af Nu (pv 0) Ac) Ac) Ac)) rfl)
  (@GX _ _ _ _ _ (Bx (B_ Dr (Af Dt (Af J8 (pv 1) Ac) Ac) Ac (Ad _))
   (@Ak _ _ _ (@Bb _ _ 8 _ _ _ _ nd rfl (Or.inl rfl) (Av dU I rfl (Aa (Av cM I rfl (Aa (pv 0) (Aa Ac Ae))) (Aa (@Ai _ _ _ _ _ _ _ Fv (@Li _ _ _ _ (@Aa _ _ _ _ _ Ac (@Aa _ _ _ _ _ Ac Ae rfl) rfl)) (aB X2z rfl B.int boot_int (@Aa _ _ _ _ _ (Iz VD (pv 2) Ac (Ad _)) Ae rfl)) (λ_ _=>rfl)) (Aa (Af au (pv 8) (@Li _ _ _ _ (@Aa _ _ _ _ _ Ac Ae rfl))) Ae)))) rfl (.inl rfl)))
   CK)
  (@Aq _ _ _ _ _ (J7 PassesOwn.never rfl (G_ (pv 8)) (DR (i:=9) nd rfl (Or.inl rfl))
   (@Aq _ _ _ _ _ (@Bb _ _ 10 _ _ _ _ nd rfl (Or.inl rfl) (aB u5 rfl B.list Y_ (Aa (pv 6) Ae)) rfl (.inl rfl))
   (@Ak _ _ _ (Bx (PW.pt (O1 (B_ Dr (Af Dt (pv 9) Ac) Ac (Ad _)) (R3 (B_ Nt (pv 7) Ac (Ad _)))))
    (@Aq _ _ _ _ _ (@Bb _ _ 7 _ _ _ _ nd rfl (Or.inl rfl) (Af El (pv 7) Ac) rfl (.inl rfl))
    (@Aq _ _ _ _ _ (@Bb _ _ 9 _ _ _ _ nd rfl (Or.inl rfl) (Af J8 (pv 9) Ac) rfl (.inl rfl))
    (@Aq _ _ _ _ _ (@Bb _ _ 11 _ _ _ _ nd rfl (Or.inl rfl) (Av dI I rfl (Aa (Af J8 (pv 9) Ac) (Aa (pv 6) (Aa (pv 2) Ae)))) rfl (.inl rfl))
    (@Aq _ _ _ _ _ (@Bb _ _ 12 _ _ _ _ nd rfl (Or.inl rfl) (Av eR I rfl (Aa (pv 5) (Aa (pv 6) (Aa (pv 11) (Aa (Af Dt (pv 9) Ac) (Aa (pv 2) Ae)))))) rfl (.inl rfl))
    (@Aq _ _ _ _ _ (Bx (PW.pt (IW (B_ oJ (pv 12) Lj (Ad _)) (Kh (B_ (qH I.units) (pv 6) (pv 10) (Ad _)))))
     (@Ak _ _ _ (BJ Iu))
     CK)
    (@Ak _ _ _ (W3v (pv 12) (W3y rfl (Qy (DR (i:=5) nd rfl (Or.inl rfl)) (Qy (DR (i:=6) nd rfl (Or.inl rfl)) bR))))))))))
    (@Aq _ _ _ _ _ (@Bb _ _ 13 _ _ _ _ nd rfl (Or.inl rfl) (Av eU I rfl (Aa (Af J8 (pv 9) Ac) (Aa (pv 2) Ae))) rfl (.inl rfl))
    (@Aq _ _ _ _ _ (@Bb _ _ 5 _ _ _ _ nd rfl (Or.inl rfl) (Av gX I rfl (Aa (pv 5) (Aa (@Li _ _ _ _ (Aa (pv 13) Ae)) Ae))) rfl (.inl rfl))
    (@Ak _ _ _ (@Bb _ _ 6 _ _ _ _ nd rfl (Or.inl rfl) (Av eK I rfl (Aa (pv 6) (Aa (@Li _ _ _ _ (Aa (pv 13) Ae)) Ae))) rfl (.inl rfl)))))))))
  (@Ak _ _ _ (BJ (Av cQ I rfl (Aa (pv 5) (Aa (pv 6) (Aa (pv 2) Ae))))))))))))))))),?_⟩
 try dsimp only[Bm]
 refine⟨λσ H'=>H'=H/\∃hd:Int,σ=[some (.ref j),some (.int hd),none,none,none,none,none,none,none,none,none,none,none,none],⟨_,U,j,ns,_,U,hS,by lia,U,_,U⟩,?_⟩;rintro σ1 H1 ⟨rfl,hd,rfl⟩;have e0:=Oe hd (show (3:Int)≠0 by decide);have e1:=QW hd (show (0:Int)<3 by decide);refine⟨λσ H'=>H'=H1/\∃c:Nat,1<=c/\c<=6/\σ=[some (.ref j),some (.int hd),some (.int c),none,none,none,none,none,none,none,none,none,none,none],?_,?_⟩
 ·refine⟨_,U,_,_,U,U,(by decide:(0:Int)<3),_,_,U,U,U,(1+hd%3).toNat,by lia,by lia,?_⟩;rw[show (((1+hd%3).toNat:Nat):Int)=1+hd%3 by lia];rfl
 rintro σ2 H2 ⟨rfl,c0,b2,c5,rfl⟩;refine⟨λσ H'=>Same H2 H'/\∃(o:W9) (u:U6),H' o=some (.lst (u.map V.int))/\u.length<=60/\σ=[some (.ref j),some (.int hd),some (.int c0),some (.ref o),none,none,none,none,none,none,none,none,none,none],?_,?_⟩
 ·refine⟨_,U,2,U,62,U,j,_,U,hS,λl hl=>?_⟩;obtain⟨u,ed,ll⟩:=yr ns 62 (by decide) (by decide);have ed:FN (ns.map V.int) (some 2) (some 62)=u.map V.int:=ed;rw[ed];exact⟨BR hl _,l,u,Ax,ll,U⟩
 rintro σ3 H3 ⟨S3,d5,c8,q3,l3,rfl⟩;refine⟨λσ H'=>Same H2 H'/\∃(c:Nat) (o:W9) (u:U6),1<=c/\c<=6/\H' o=some (.lst (u.map V.int))/\u.length<=60/\σ=[some (.ref j),some (.int hd),some (.int c),some (.ref o),none,none,none,none,none,none,none,none,none,none],?_,?_⟩
 ·refine⟨_,U,_,_,U,U,⟨by decide,by decide⟩,_,_,U,U,(by decide:(0:Int)<8),U,_,U,K4 (λ_=>?_) (λ_=>⟨S3,c0,d5,c8,b2,c5,q3,l3,U⟩)⟩;refine⟨_,U,_,_,U,U,(by decide:(0:Int)<3),_,_,U,U,?_⟩;refine⟨_,U,2,U,14,U,j,_,U,S3.seq hS,λl hl=>?_⟩;obtain⟨u,ed,ll⟩:=yr ns 14 (by decide) (by decide);have ed:FN (ns.map V.int) (some 2) (some 14)=u.map V.int:=ed;rw[ed];refine⟨S3.trans (BR hl _),(4+hd%3).toNat,l,u,by lia,by lia,Ax,ll,?_⟩;rw[show (((4+hd%3).toNat:Nat):Int)=4+hd%3 by lia];rfl
 clear q3 l3 S3 b2 c5;rintro σ3 H3 ⟨S3,c,o,u,c1,c6,q3,l3,rfl⟩;have p6:=Hy c6;have E:∀a:Nat,(1:Int)*2^((a:Nat):Int).toNat=((2^a:Nat):Int):=λa=>by rw[QJ,G8];push_cast;rfl
 have cs:Nb 1 (c:Int):=⟨1,HN,by lia,by lia⟩;have a4:(0:Int)<1*2^((c:Nat):Int).toNat:=by rw[E];exact Int.natCast_pos.mpr (Cu c)
 refine⟨λσ H'=>H'=H3/\∃x:Nat,x<2^c/\σ=[some (.ref j),some (.int hd),some (.int c),some (.ref o),some (.int x),none,none,none,none,none,none,none,none,none],?_,?_⟩
 ·refine⟨_,U,j,ns,1,U,S3.seq hS,by decide,_,U,_,_,U,U,cs,_,_,U,U,a4,U,(Ba.cell ns 1%(1*2^((c:Nat):Int).toNat)).toNat,?_,?_⟩
  ·have:=QW (Ba.cell ns 1) a4;rw[E]at this ⊢;omega
  ·rw[jH (Oe _ (ZL a4))];rfl
 rintro σ4 H4 ⟨rfl,x,hx,rfl⟩;refine⟨λσ H'=>Same H2 H'/\H' o=some (.lst (u.map V.int))/\∃(b:W9) (bs:U3),Cz K H' b bs (st x) c 100 40/\σ=[some (.ref j),some (.int hd),some (.int c),some (.ref o),some (.int x),some (.ref b),none,none,none,none,none,none,none,none],?_,?_⟩
 ·exact⟨_,U,_,U,c,x,U,c1,c6,hx,λb H' bs _ O B'=>⟨S3.trans O,O _ _ q3,b,bs,B',U⟩⟩
 clear q3 S3;rintro σ5 H5 ⟨S5,q5,b5,e9,B5,rfl⟩;refine⟨λσ H'=>Same H2 H'/\H' o=some (.lst (u.map V.int))/\∃(b:W9) (bs:U3) (l:W9) (ps:U3),Iv K H' b bs l ps (st x) (Oc x c) c 0/\σ=[some (.ref j),some (.int hd),some (.int c),some (.ref o),some (.int x),some (.ref b),some (.ref l),none,none,none,none,none,none,none],?_,?_⟩
 ·refine⟨_,U,_,U,by lia,by lia,λacc D=>?_⟩;refine R6 (n:=c) (fr:=[some (.int x)]) (λi ys H'=>Same H5 H'/\H' acc=some (.lst ys)/\∃Z:List Addr,ys=Z.map V.ref/\CW H' Z (Oc x i)) (G7 c6 (by decide)) ⟨BR D _,Ax,[],U,.nil⟩ ?_ ?_
  ·rintro i ys H' N hi G ⟨O,a',Z,rfl,M'⟩ kN;have i6:i<6:=by lia
   have f3:2^i<=2^6:=Ir (by decide) (by lia);have pp:=Cu i;rw[show (0:Int)+(i:Nat)=((i:Nat):Int) from LQ _];have hF:(x:Int).fdiv (1*2^((i:Nat):Int).toNat)=((x / 2^i:Nat):Int):=by rw[E,Wo _ (by lia)];push_cast;rfl
   have ci:Nb 1 (i:Int):=⟨1,HN,by lia,by lia⟩;refine⟨_,U,_,U,_,_,U,U,ci,_,_,U,U,⟨by rw[E];lia,by rw[E];exact Np f3 (Jf (by decide) (by decide))⟩,_,_,U,U,Lr,_,_,U,U,.inl ⟨by lia,by lia⟩,_,U,_,_,U,U,ci,t3,λt ht=>?_⟩;refine kN _ _ (BR ht _ _ _ a') ⟨Fw (O.trans (BR ht _)) D,Ax,Z++[t],by rw[DW];rfl,?_⟩;refine X1b (BR ht _ _ _ a') ?_;rw[show Oc x (i+1)=Oc x i++[(x / 2^i%2*2,0,2^i)] by unfold Oc;rw[Ra,DW];rfl];refine wO (M'.same (BR ht _)) ?_;rw[Ax];show some (HO.tup [.int ((x:Int).fdiv (1*2^((i:Nat):Int).toNat)%2*2),.int 0,.int (1*2^((i:Nat):Int).toNat)])=some (HO.tup [.int ((x / 2^i%2*2:Nat):Int),.int ((0:Nat):Int),.int ((2^i:Nat):Int)]);rw[hF,E];congr 4
  ·rintro ys H' G ⟨O,a',Z,rfl,M'⟩;have B':=B5.same O;refine⟨S5.trans O,O _ _ q5,b5,e9,acc,Z,?_,U⟩;exact Iv.of (M:=0) (n:=1) ⟨B'.lst,B'.len,B'.vals,λi hi=>(xQ hx).sz hi (B'.ok i hi).amt (by show (st x i).2<=0;unfold Aj.st;split<;>exact Ku _)⟩ a' M' c6 (by unfold Oc;rw[Bg,Wc]) (W6y hx) (W6x hx) (xQ hx)
 clear q5 S5 B5;rintro σ6 H6 ⟨S6,q6,b6,e',l6,f2,I6,rfl⟩;refine⟨λσ H'=>Same H6 H'/\∃(T:W9) (X:U6),H' T=some (.lst (X.map V.int))/\X.length<=60/\(∀z∈X,Nm z)/\σ=[some (.ref j),some (.int hd),some (.int c),some (.ref o),some (.int x),some (.ref b6),some (.ref l6),some (.int 0),some (.ref T),none,none,none,none,none],?_,?_⟩
 ·refine⟨_,U,o,U,⟨_,Aw.of q6⟩,λacc D=>?_⟩;refine X5u (λz=>V.int ((z*48271+69621)%2147483647)) (Aw.of q6) (G7 l3 (by decide)) D (λz H' N s kN=>?_) (λH' s e=>?_)
  ·exact⟨_,U,_,_,U,U,.inr ⟨by decide,by decide⟩,_,_,U,U,_,_,U,U,(by decide:(0:Int)<2147483647),kN⟩
  ·refine⟨s,acc,u.map (λz=>(z*48271+69621)%2147483647),by rw[e,KR];rfl,by rw[Bg];exact l3,λz hz=>?_,U⟩;obtain⟨y,_,rfl⟩:=Ej.mp hz;exact X6m y
 rintro σ7 H7 ⟨S7,b8,W,q7,l7,a1,rfl⟩;have I7:=I6.same S7;refine⟨λσ H'=>Same H7 H'/\∃(T:W9) (X:U6),H' T=some (.lst (X.map V.int))/\X.length<=60/\(∀z∈X,Nm z)/\σ=[some (.ref j),some (.int hd),some (.int c),some (.ref o),some (.int x),some (.ref b6),some (.ref l6),some (.int 0),some (.ref T),none,none,none,none,none],?_,?_⟩
 ·refine⟨_,U,_,_,U,U,⟨by decide,by decide⟩,_,_,U,U,Lr,U,_,U,K4 (λ_=>?_) (λ_=>⟨Same.refl _,b8,W,q7,l7,a1,U⟩)⟩;refine⟨_,U,j,ns,2,U,((S6.trans S7)).seq hS,by decide,t2,λlc d9=>?_⟩;have s1:=BR d9 (.lst [.int 60,.int 12]);have ix:∃v:Nat,v<=60/\Gv [V.int 60,.int 12] (if decide ((3:Int)<(c:Int))=true then 1 else 0)=some (.int v):=by
   by_cases c3:(3:Int)<(c:Int)
   ·rw[if_pos (Gb c3)];exact⟨12,by decide,U⟩
   ·rw[if_neg (by rw[FJ c3];decide)];exact⟨60,by decide,U⟩
  obtain⟨v,d8,hv⟩:=ix;refine⟨_,U,_,_,U,U,.inr ⟨_,U,lc,_,_,.int v,U,U,Aw.of Ax,hv,_,U,(show 1<=sizeLine by decide),λl0 d4=>?_⟩⟩;have s2:=s1.trans (BR d4 (.lst [.int 0]));refine⟨b8,l0,_,_,U,U,s2 _ _ q7,Ax,?_,λlp d3=>?_⟩
  ·rw[Bg];exact G7 (show W.length+1<=64 by lia) (by decide)
  have s3:=s2.trans (BR d3 (.lst (W.map V.int++[V.int 0])));refine⟨_,v,lp,W++[0],U,d8,Aw.of (by rw[Ax,DW];rfl),by simp,by simp;lia,λz hz=>?_,λr H' ds _ O a0 f5 d7=>⟨s3.trans O,r,ds,a0,by lia,d7,U⟩⟩;rcases Io.mp hz with q | q
  ·exact a1 z q
  ·rw[Fj.mp q];exact⟨by decide,by decide⟩
 clear q7 l7 a1;rintro σ8 H8 ⟨S8,T,X,q8,l8,c9,rfl⟩;have I8:=I7.same S8;refine⟨_,U,T,U,⟨_,Aw.of q8⟩,O8 (K:=K) (a:=T) (xs:=X.map V.int) (λi σ H'=>Same H8 H'/\∃(b:W9) (bs:U3) (l:W9) (ps:U3) (f:Nat->A5) (R:List Mk) (lk:Int) (v9 a5 a7 a8 a2:Option V),Iv K H' b bs l ps f R c i/\σ=[some (.ref j),some (.int hd),some (.int c),some (.ref o),some (.int x),some (.ref b),some (.ref l),some (.int lk),some (.ref T),v9,a5,a7,a8,a2]) ⟨Same.refl _,b6,e',l6,f2,_,_,0,_,_,_,_,_,I8,U⟩ (λi σ H' _ e=>e.1.seq (Aw.of q8)) ?_ ?_⟩
 ·rintro i y σ H9 G ⟨S9,b,bs,l,ps,f,R,lk,v9,a5,a7,a8,a2,Y,rfl⟩;rw[Cj]at G;obtain⟨z,hz,rfl⟩:=Es.mp G;have zn:=c9 z (GQ hz);have f8:i<60:=by
   have:=(Et.mp hz).1;lia
  obtain⟨n,rfl⟩:∃n:Nat,z=n:=⟨z.toNat,by have:=zn.1;lia⟩;have h3:n<2147483648:=by have:=zn.2;lia
  have T9:=Y.tb;refine⟨_,U,l,_,U,.inl (Aw.of T9.lst),λkp e6=>?_⟩;have s1:=BR e6 (.lst (ps.map V.ref));have a9:upd H9 kp (.lst (ps.map V.ref)) kp=some (.lst (ps.map V.ref)):=Ax;generalize upd H9 kp (.lst (ps.map V.ref))=H10 at s1 a9 ⊢;have L:=Y.same s1;have c4:=S9.trans s1;have hT:n / 4 / 2<2^31:=by lia
  have eT:(n:Int) / 4 / 2=((n / 4 / 2:Nat):Int):=by lia
  have eO:(n:Int) / 4%2=((n / 4%2:Nat):Int):=by lia
  refine X3q (λmv=>⟨_,U,_,_,U,U,Qw,U,_,U,K4 (λ_=>⟨_,U,_,_,U,U,_,U,A_ (λ_=>?_) (λ_=>mv)⟩) (λ_=>Bj mv)⟩) ?_
  ·refine⟨_,U,_,_,U,U,_,U,_,_,U,U,⟨by decide,by decide⟩,?_⟩;refine⟨_,U,_,_,U,U,⟨by decide,by decide⟩,_,U,_,U,n / 4 / 2,l,ps,R,c,congrArg (λz=>[V.int z,.ref l,.int c]) eT,hT,L.tb,L.len,c6,λpm b0 m C hm Cv em=>?_⟩;have d:=L.same C;refine⟨_,U,_,U,_,U,_,U,_,_,U,U,Lr,_,U,b,l,pm,bs,ps,f,R,c,i+1,i,m,n / 4%2,congrArg (λz=>[V.ref b,.ref l,.ref pm,.int z,.int c]) eO,d.bd,by lia,by lia,d.tb,d.len,c1,c6,d.ks,d.nz,hm,Cv,em,by lia,λr b' l' f1 d6 h0 g S o' a6 a0 B' T' b3 d0 d1 f' hb e7=>?_⟩;have J:=d.same a6;refine⟨_,U,U,_,U,A_ (λz=>(nomatch z)) (λ_=>?_)⟩;refine⟨_,U,_,U,l,kp,ps,ps,_,_,U,U,J.tb.lst,a6 _ _ (C _ _ a9),JC J.tb.mks,JC J.tb.mks,_,U,?_⟩;rw[show (if true=true then !decide (R.map m3=R.map m3) else decide (R.map m3=R.map m3))=false by simp];refine Bj ⟨_,U,r,_,U,Aw.of a0,U,_,_,U,_,_,U,U,(c4.trans C).trans a6,b',f1,l',d6,g,S,_,_,_,_,_,_,?_,U⟩;exact Iv.of B' T'.lst T'.mks c6 b3 d0 d1 (e7 d.sm)
  ·refine⟨_,U,_,_,U,U,⟨by decide,by decide⟩,_,U,(n:Int) / 4,c,U,by lia,c1,c6,λt b0 m C ht vm bm=>?_⟩;have v1:∀y∈[m],Dv c y:=λy G=>by rw[Fj.mp G];exact vm
   have b1:∀y∈[m],FW.Br y:=λy G=>by rw[Fj.mp G];exact bm
   refine⟨_,U,_,U,(show 1<=sizeLine by decide),λlm e4=>?_⟩;have s2:=BR e4 (.lst [.ref t]);have J:=(L.same C).same s2;obtain⟨rp,RW⟩:=Bc.W3t (c:=c) (row:=[m]) (⟨[t],Ax,.cons (s2 _ _ ht) .nil⟩:Bc.Fd (upd b0 lm (.lst [.ref t])) lm [m]) v1 (show 1<=200 by decide);refine⟨b,lm,bs,rp,f,c,i+1,i,_,U,RW,J.bd,c6,by lia,by lia,λrb f4 qb g _ e8 e3 c7=>?_⟩;refine⟨_,U,_,U,(show 1<=sizeLine by decide),λe5 b9=>?_⟩;have s4:=BR b9 (.lst [.ref t]);have a3:=(s2.trans e8).trans s4;have p:=(L.same C).same a3;refine⟨l,e5,ps,R,[m],c,U,Aw.of p.tb.lst,wN p.tb.mks,by rw[p.len];lia,⟨[t],Ax,.cons (a3 _ _ ht) .nil⟩,λy G=>⟨(p.tb.ok y G).q,(p.tb.ok y G).f,(p.tb.ok y G).s⟩,c6,v1,b1,(show 1<=200 by decide),λr f7 Z _ b7 b4 d2=>?_⟩;exact⟨((c4.trans C).trans a3).trans b7,rb,qb,r,Z,g,_,_,_,_,_,_,_,Iv.move p c6 vm bm ((e3.same s4).same b7) c7 b4 (wV d2),U⟩
 ·rintro σ H9 ⟨S9,b,bs,l,ps,f,R,lk,v9,a5,a7,a8,a2,Y,rfl⟩;exact⟨_,U,_,U,_,U,b,l,bs,ps,f,R,c,_,_,U,Y.bd,Y.tb.lst,Y.tb.mks,Y.len,c6,λm hm=>(Y.ks.ok m hm).1,λm hm=>(Y.ks.ok m hm).2,λH' O=>f0 _⟩
end
end Bd
noncomputable section
namespace Aj
open L2 Ba
variable{l:PySem.W.OpenLaw}
theorem W6m{w:W1}{K:U0}{h:Heap}{mg:U4}{fa f:W9}(X:K.In h)(G:Ng h mg)(hfa:mg "law"=some (.ref fa))
  {od an:W5}{sl:W4}{oc kV dc pm cd ct:W2}{aN aO aZ Dd:W9}{odO odZ odD:W5}{slO slZ slD:W4}{ocD:W2}{nO nZ nD:Nat}{d0 o1 o2 o3 o4 o5 y1 y2 y3 y4 y5:Tok}{nN:Nat}{a1 a2 a3 a4 a5 a6 a7 b1 b2 b3 b4 b5 b6 b7 tM:Tok}{aP aS aNe aH Ds C D A_NoMark A_NoTable A_NotBorne A_NoShare:W9}{bm bm2:U5}{odP odS odN odH odQ:W5}{slP slS slN slH slQ:W4}{ocQ:W2}{nP nS nNe nH nQ:Nat}{q0 q1 q2 tF s0 s1 s2 n0 n1 n2 h0 h1 h2 e0 e1:Tok}
  (aL:PySem.W.nsIn K mainGlobals "law"=some (some (.ref f))) (lL:K.lookup f=some ⟨oc,od,.func (PySem.W.fnOf "law" "law" (Ft (top 115)) (FT (top 115)) (Dp (top 115)) .none kV dc pm an cd ct),sl⟩) (cL:PySem.W.codeIn K cd "law"=true) (kL:PySem.W.keepIn K (.ref f)=true)
  (t11:Ab K "is_whole" (top 11) .none)
  (t12:Ab K "share" (top 12) (.ref Ds))
  (t13:Ab K "common_divisor" (top 13) .none)
  (t14:Ab K "share_times" (top 14) .none)
  (t15:Ab K "share_over" (top 15) .none)
  (t17:Ab K "ones" (top 17) .none)
  (t18:Ab K "is_word" (top 18) .none)
  (t19:Ab K "is_mark" (top 19) .none)
  (t20:Ab K "is_even" (top 20) .none)
  (t21:Ab K "is_even_mark" (top 21) .none)
  (t22:Ab K "commute" (top 22) .none)
  (t23:Ab K "product" (top 23) .none)
  (t24:Ab K "turned_about" (top 24) .none)
  (t26:Ab K "halved_out" (top 26) .none)
  (t27:Ab K "plus" (top 27) .none)
  (t28:Ab K "minus" (top 28) .none)
  (t29:Ab K "times" (top 29) .none)
  (t30:Ab K "spun" (top 30) .none)
  (t31:Ab K "spun_once" (top 31) .none)
  (t32:Ab K "mirror" (top 32) .none)
  (t33:Ab K "rooted" (top 33) .none)
  (t34:Ab K "real_share" (top 34) .none)
  (t39:Ab K "start" (top 39) (.ref Dd))
  (t40:Ab K "check_beginning" (top 40) .none)
  (t41:Ab K "cells_of" (top 41) .none)
  (t42:Ab K "heft" (top 42) .none)
  (t43:Ab K "laid_on" (top 43) .none)
  (t44:Ab K "spun_by_mark" (top 44) .none)
  (t47:Ab K "check_move" (top 47) .none)
  (t48:Ab K "has_move_form" (top 48) .none)
  (t49:Ab K "named_cells" (top 49) .none)
  (t50:Ab K "turned" (top 50) .none)
  (t51:Ab K "mixed" (top 51) .none)
  (t52:Ab K "mixed_at" (top 52) .none)
  (t53:Ab K "spun_where" (top 53) .none)
  (t54:Ab K "word_behind" (top 54) .none)
  (t55:Ab K "exchanged" (top 55) .none)
  (t57:Ab K "solved" (top 57) .none)
  (t58:Ab K "cleared" (top 58) .none)
  (t59:Ab K "places_at_one" (top 59) .none)
  (t60:Ab K "solution" (top 60) .none)
  (JB:Ab K "is_table" (top 64) .none)
  (t65:Ab K "commutes_with_all" (top 65) .none)
  (t66:Ab K "check_table" (top 66) .none)
  (t67:Ab K "reduced" (top 67) .none)
  (t68:Ab K "without_lead" (top 68) .none)
  (t69:Ab K "lead" (top 69) .none)
  (t70:Ab K "least_cell" (top 70) .none)
  (t71:Ab K "has_at_lead" (top 71) .none)
  (t72:Ab K "made_of" (top 72) .none)
  (t73:Ab K "rows_with" (top 73) .none)
  (t74:Ab K "product_of" (top 74) .none)
  (t75:Ab K "apart_by" (top 75) .none)
  (t80:Ab K "borne" (top 80) .none)
  (t81:Ab K "is_borne" (top 81) .none)
  (t82:Ab K "is_odd_turn" (top 82) .none)
  (t83:Ab K "moved_rows" (top 83) .none)
  (t84:Ab K "check_borne" (top 84) .none)
  (t85:Ab K "moved_through" (top 85) .none)
  (t86:Ab K "moved_by" (top 86) .none)
  (t87:Ab K "moved_by_mix" (top 87) .none)
  (t88:Ab K "moved_by_turn" (top 88) .none)
  (t89:Ab K "moved_by_if" (top 89) .none)
  (t90:Ab K "moved_by_pair" (top 90) .none)
  (t91:Ab K "table_looked" (top 91) .none)
  (t92:Ab K "table_settled" (top 92) .none)
  (t94:Ab K "settled" (top 94) .none)
  (t95:Ab K "check_look" (top 95) .none)
  (t96:Ab K "half_left" (top 96) .none)
  (t97:Ab K "halved" (top 97) .none)
  (t98:Ab K "is_nothing" (top 98) .none)
  (t99:Ab K "looked" (top 99) .none)
  (t100:Ab K "left_share" (top 100) .none)
  (t102:Ab K "run" (top 102) .none)
  (t104:Ab K "_law_cell_at" (top 104) .none)
  (t105:Ab K "_law_whole" (top 105) .none)
  (t106:Ab K "_law_ones" (top 106) .none)
  (t107:Ab K "_law_product" (top 107) .none)
  (t108:Ab K "_law_move" (top 108) .none)
  (t109:Ab K "_law_look_mark" (top 109) .none)
  (t110:Ab K "_law_digits" (top 110) .none)
  (t111:Ab K "_law_keeps" (top 111) .none)
  (t112:Ab K "_law_never" (top 112) .none)
  (t113:Ab K "_law_shares" (top 113) .none)
  (t114:Ab K "_law_look" (top 114) .none)
  (z0:PySem.W.nsIn K mainGlobals "isinstance"=some none)
  (z1:PySem.W.nsIn K mainGlobals "int"=some none)
  (z2:PySem.W.nsIn K mainGlobals "bool"=some none)
  (z3:PySem.W.nsIn K mainGlobals "tuple"=some none)
  (z4:PySem.W.nsIn K mainGlobals "list"=some none)
  (z5:PySem.W.nsIn K mainGlobals "len"=some none)
  (z6:PySem.W.nsIn K mainGlobals "range"=some none)
  (z7:PySem.W.nsIn K mainGlobals "all"=some none)
  (z8:PySem.W.nsIn K mainGlobals "any"=some none)
  (z9:PySem.W.nsIn K mainGlobals "max"=some none)
  (z10:PySem.W.nsIn K mainGlobals "min"=some none)
  (z11:PySem.W.nsIn K mainGlobals "zip"=some none)
  (z12:PySem.W.nsIn K mainGlobals "set"=some none)
  (z13:PySem.W.nsIn K mainGlobals "str"=some none)
  (z14:PySem.W.nsIn K mainGlobals "enumerate"=some none)
  (z15:PySem.W.nsIn K mainGlobals "reversed"=some none)
  (z16:PySem.W.nsIn K mainGlobals "sorted"=some none)
  (z17:PySem.W.nsIn K mainGlobals "sum"=some none)
  (z18:PySem.W.nsIn K mainGlobals "abs"=some none)
  (gM0:PySem.W.nsIn K mainGlobals "MOST_CELLS"=some (some (.int 6 tM)))
  (tD:K.lookup Dd=some ⟨ocD,odD,.seq #[.int 0 d0] nD,slD⟩)
  (gO0:PySem.W.nsIn K mainGlobals "ONE"=some (some (.ref aO)))
  (tO:K.lookup aO=some ⟨.type "tuple",odO,.seq #[.int 1 o1,.int 0 o2,.int 0 o3,.int 0 o4,.int 0 o5] nO,slO⟩)
  (gZ0:PySem.W.nsIn K mainGlobals "NOUGHT"=some (some (.ref aZ)))
  (tZ:K.lookup aZ=some ⟨.type "tuple",odZ,.seq #[.int 0 y1,.int 0 y2,.int 0 y3,.int 0 y4,.int 0 y5] nZ,slZ⟩)
  (gN0:PySem.W.nsIn K mainGlobals "NUMBERS_BEHIND"=some (some (.ref aN)))
  (tN:K.lookup aN=some ⟨.type "dict",none,.dict #[⟨PyData.keyHash w.params "flip",.str "flip" a1,.int 1 b1⟩,⟨PyData.keyHash w.params "mix",.str "mix" a2,.int 1 b2⟩,⟨PyData.keyHash w.params "turn",.str "turn" a3,.int 2 b3⟩,⟨PyData.keyHash w.params "if",.str "if" a4,.int 2 b4⟩,⟨PyData.keyHash w.params "pair",.str "pair" a5,.int 2 b5⟩,⟨PyData.keyHash w.params "swap",.str "swap" a6,.int 2 b6⟩,⟨PyData.keyHash w.params "cross",.str "cross" a7,.int 3 b7⟩] nN,#[]⟩)
  (nN0:(aN == sysModules)=false)
  (gP0:PySem.W.nsIn K mainGlobals "PRODUCT_OF_NONE"=some (some (.ref aP)))
  (tP:K.lookup aP=some ⟨.type "tuple",odP,.seq #[.int 0 q0,.int 0 q1,.int 0 q2] nP,slP⟩)
  (gF0:PySem.W.nsIn K mainGlobals "FIRST_SIGN_LEAD"=some (some (.int 6 tF)))
  (gS0:PySem.W.nsIn K mainGlobals "SURE"=some (some (.ref aS)))
  (tS:K.lookup aS=some ⟨.type "tuple",odS,.seq #[.int 1 s0,.int 0 s1,.int 1 s2] nS,slS⟩)
  (gNe0:PySem.W.nsIn K mainGlobals "NEVER"=some (some (.ref aNe)))
  (tNe:K.lookup aNe=some ⟨.type "tuple",odN,.seq #[.int 0 n0,.int 0 n1,.int 1 n2] nNe,slN⟩)
  (gH0:PySem.W.nsIn K mainGlobals "HALF"=some (some (.ref aH)))
  (tH:K.lookup aH=some ⟨.type "tuple",odH,.seq #[.int 1 h0,.int 0 h1,.int 2 h2] nH,slH⟩)
  (tQ:K.lookup Ds=some ⟨ocQ,odQ,.seq #[.int 0 e0,.int 1 e1] nQ,slQ⟩)
  (aC:PySem.W.nsIn K mainGlobals "NeverSo"=some (some (.ref C)))
  (aD:PySem.W.nsIn K mainGlobals "BoardError"=some (some (.ref D)))
  (zV:PySem.W.nsIn K mainGlobals "ValueError"=some none)
  (xC:ExcAt K C bm)
  (xD:ExcAt K D bm2)
  (sub:(Value.ref C::bm).contains (.ref D)=true)
  (kC:PySem.W.KH K C)
  (own:PySem.W.kitOne K (.ref C) (.ref C)=some true)
  (ve:PySem.W.kitOne K (.ref C) (.type "ValueError")=some true)
  (n_NoMark:PySem.W.nsIn K mainGlobals "NoMark"=some (some (.ref A_NoMark)))
  (q_NoMark:PySem.W.kitOne K (.ref C) (.ref A_NoMark)=some false)
  (n_NoTable:PySem.W.nsIn K mainGlobals "NoTable"=some (some (.ref A_NoTable)))
  (q_NoTable:PySem.W.kitOne K (.ref C) (.ref A_NoTable)=some false)
  (n_NotBorne:PySem.W.nsIn K mainGlobals "NotBorne"=some (some (.ref A_NotBorne)))
  (q_NotBorne:PySem.W.kitOne K (.ref C) (.ref A_NotBorne)=some false)
  (n_NoShare:PySem.W.nsIn K mainGlobals "NoShare"=some (some (.ref A_NoShare)))
  (q_NoShare:PySem.W.kitOne K (.ref C) (.ref A_NoShare)=some false)
  : ∃fd:FuncData,(∀(s:U7) (v:W2),BindsTo s fd ⟨[v],[]⟩ [("_law_script",v)])/\∀base:Heap,K.In base->base.Ns mainGlobals mg->EY l.prog w K mg base NZ 10 fa fd ["_law_script"] (KJ K 63):=by
 have e:=hfa.symm.trans (Im X G aL);cases e;have F:=W5s (st:=top 115) lL cL kL;have B:Bs mg:=⟨Hg X G z0,Hg X G z1,Hg X G z2,Hg X G z3,Hg X G z4,Hg X G z5,Hg X G z6,Hg X G z7,Hg X G z8,Hg X G z9,Hg X G z10,Hg X G z11,Hg X G z12,Hg X G z13,Hg X G z14,Hg X G z15,Hg X G z16,Hg X G z17,Hg X G z18⟩;refine⟨PySem.W.fnOf "law" "law" (Ft (top 115)) (FT (top 115)) (Dp (top 115)) .none kV dc pm an cd ct,λs v=>.of_eq rfl,λbase _ _=>?_⟩;have gN:=Im X G gN0;have gP:=Im X G gP0;have gF:=Im X G gF0;have gZ:=Im X G gZ0;have sP:∀H:Hp,Ag K H aP (Ay.L3 (0,0,0)):=λH=>.inr ⟨_,_,_,tP,U,U,(by show 3<=sizeLine;decide),.cons ⟨_,U⟩ (.cons ⟨_,U⟩ (.cons ⟨_,U⟩ .nil))⟩;have d:Ay.Bs mg:=⟨B.isinstance,B.int,B.bool,B.tuple,B.list,B.len,B.range,B.enumerate,B.sorted,B.sum,B.str,B.all,B.any,B.min,B.max⟩;have DN:K9 K w.params aN NB:=⟨⟨_,_,_,tN,⟨U,U,U⟩,U,.cons ⟨_,_,U⟩ (.cons ⟨_,_,U⟩ (.cons ⟨_,_,U⟩ (.cons ⟨_,_,U⟩ (.cons ⟨_,_,U⟩ (.cons ⟨_,_,U⟩ (.cons ⟨_,_,U⟩ .nil))))))⟩,by decide +kernel,nN0⟩;have j:=W0s (P:=l.prog) (w:=w) (base:=base) (k:=0) t26 X G B;have a9:=W0l (P:=l.prog) (w:=w) (base:=base) (k:=0) t31 X G;have d7:=X0c t33 X G j;have u:=W0h t30 X G B a9;have g:=W0j t27 X G B j;have T:=X5a t28 X G g u;have i:=Y7u (P:=l.prog) (w:=w) (base:=base) (k:=0) t11 X G B;have m:=Y7x (P:=l.prog) (w:=w) (base:=base) (k:=0) t41 X G B;have b8:=X4x (P:=l.prog) (w:=w) (base:=base) (k:=0) t49 X G B;have i9:=W0t t48 X G B gN DN i;have d2:=X5g t47 X G B i9 (b8.mono (by decide));have f6:=Y7t t52 X G (d7.mono (by decide)) T (g.mono (by decide));have d3:=X4z t51 X G B f6;have R:=W0u (P:=l.prog) (w:=w) (base:=base) (k:=0) t55 X G;have h7:=X0t t54 X G b8 R;have j2:=X4q t53 X G B u;have e':=Y9x (k:=5) t50 X G B (d2.mono (by decide)) (m.mono (by decide)) d3 (j2.mono (by decide)) (h7.mono (by decide));have c5:=W4e t102 X G B e';have iw:Ah l.prog w K mg base 1 "is_whole" ["thing"] Ay.M9:=i;have b:=Ay.X0k t18 X G iw;have e4:Ah l.prog w K mg base 2 "is_word" ["thing","cells"] Gh:=b.imp λvs H Q E h=>by obtain⟨x,c,rfl,_,hx,q⟩:=h;exact⟨x,c,U,hx,q⟩
 have i8:=X5j (Im X G gM0) t40 X G (i.mono (by decide)) e4;have d4:=X4s t39 (Y4u tD) X G B (Im X G gO0) gZ (Qi tO) (Qi tZ) i8;have a:=Ay.W0k (P:=l.prog) (w:=w) (base:=base) (k:=0) t17 X G;have z:=Ay.Y7r t23 X G a;have i':=Ay.Y7w (P:=l.prog) (w:=w) (base:=base) (k:=0) t58 X G;have h6:=Ay.X0e (P:=l.prog) (w:=w) (base:=base) (k:=0) t59 X G d;have i5:=Ay.Y4b t60 X G d a;have f2:=Ay.Y9z (k:=2) t57 X G d (i'.mono (by decide)) (h6.mono (by decide)) i5;have f3:=Ay.Y4c (P:=l.prog) (w:=w) (base:=base) (k:=0) t73 X G d;have d5:=Ay.X0d t74 X G gP sP z;have h8:=Ay.X5k t75 X G d a;have O:=Ay.X0h (k:=3) t72 X G d (f3.mono (by decide)) f2 (h8.mono (by decide)) d5;have j7:=Ay.X5c (P:=l.prog) (w:=w) (base:=base) (k:=0) t70 X G;have c0:=Ay.W0o t69 X G gF j7;have f8:=Ay.W4i (P:=l.prog) (w:=w) (base:=base) (k:=0) t71 X G gF;have e9:=Ay.Y7n (k:=2) t68 X G (f8.mono (by decide)) c0 z;have h9:=Ay.X0l (k:=2) t19 X G d (iw.mono (by decide)) b;have f4:=Ay.X0m t20 X G a;have J:=Ay.X5e (k:=3) t21 X G h9 (f4.mono (by decide));have Y:=Ay.Y4d t22 X G a;have i0:=Ay.X0o t65 X G d Y;have h4:=Ay.Y7v (k:=4) JB X G d (iw.mono (by decide)) J (i0.mono (by decide)) O;have e8:=Ay.X0q t66 X G h4;have N:=Ay.Y7q (k:=4) t67 X G d e8 (e9.mono (by decide)) (c0.mono (by decide));have n:=Bc.X5l (P:=l.prog) (w:=w) (base:=base) (k:=0) t24 X G;have d8:=Bc.X5h t87 X G n;have j3:=Bc.X0r (P:=l.prog) (w:=w) (base:=base) (k:=0) t88 X G;have f7:=Bc.W0w (P:=l.prog) (w:=w) (base:=base) (k:=0) t89 X G;have j1:=Bc.X0s t90 X G n;have i3:=Bc.Y7s (k:=2) t86 X G (n.mono (by decide)) d8 (j3.mono (by decide)) (f7.mono (by decide)) j1 (R.mono (by decide));have e5:=Bc.Y7o t85 X G i3;have i4:=Bc.W4f (P:=l.prog) (w:=w) (base:=base) (k:=0) t82 X G;have i7:=Bc.W0q t81 X G i4;have h5:=Bc.X5i t80 X G B i7;have f1:=Bc.qm t84 X G h5;have i2:=Bc.X4y (k:=4) t83 X G B f1 e5;have kZ:∀H,Ag K H aZ ([0,0,0,0,0].map V.int):=λH=>.inr ⟨_,_,_,tZ,U,U,(show 5<=sizeLine by decide),.cons ⟨_,U⟩ (.cons ⟨_,U⟩ (.cons ⟨_,U⟩ (.cons ⟨_,U⟩ (.cons ⟨_,U⟩ .nil))))⟩;have kS:∀H,Ag K H aS ([1,0,1].map V.int):=λH=>.inr ⟨_,_,_,tS,U,U,(show 3<=sizeLine by decide),.cons ⟨_,U⟩ (.cons ⟨_,U⟩ (.cons ⟨_,U⟩ .nil))⟩;have kN:∀H,Ag K H aNe ([0,0,1].map V.int):=λH=>.inr ⟨_,_,_,tNe,U,U,(show 3<=sizeLine by decide),.cons ⟨_,U⟩ (.cons ⟨_,U⟩ (.cons ⟨_,U⟩ .nil))⟩;have kH:∀H,Ag K H aH ([1,0,2].map V.int):=λH=>.inr ⟨_,_,_,tH,U,U,(show 3<=sizeLine by decide),.cons ⟨_,U⟩ (.cons ⟨_,U⟩ (.cons ⟨_,U⟩ .nil))⟩;have gS:=Im X G gS0;have I:=Im X G gNe0;have gH:=Im X G gH0;have ex:Bd.fJ K mg C D bm bm2:=⟨Im X G aC,Im X G aD,Hg X G zV,xC,xD,sub,kC,own,ve,A_NoMark,Im X G n_NoMark,q_NoMark,A_NoTable,Im X G n_NoTable,q_NoTable,A_NotBorne,Im X G n_NotBorne,q_NotBorne,A_NoShare,Im X G n_NoShare,q_NoShare⟩;have d6:=X4r t29 X G B j a9;have f':=X0n t97 X G j;have d9:=Bd.X0g (P:=l.prog) (w:=w) (base:=base) (k:=0) t32 X G;have e6:=Bd.W4j (P:=l.prog) (w:=w) (base:=base) (k:=0) t13 X G;have t:=Bd.X4v t12 (Bd.Y4v tQ) X G B i e6;have h3:=Bd.W0i t34 X G t;have c4:=Bd.W0r (k:=3) gZ kZ t42 X G (g.mono (by decide)) (d6.mono (by decide)) (d9.mono (by decide)) (h3.mono (by decide));have i1:=Bc.X4u (k:=2) t44 X G (u.mono (by decide)) (a.mono (by decide));have b0:=Bc.W0p t43 X G B i1;have A:=Bd.qm t95 X G J;have r:=Bd.X5f (k:=4) t96 X G B (b0.mono (by decide)) (g.mono (by decide)) (T.mono (by decide)) (f'.mono (by decide));have d1:=Bd.W0m (P:=l.prog) (w:=w) (base:=base) (k:=0) gZ kZ t98 X G B;have f5:=Bd.Y7p (k:=5) t94 X G (A.mono (by decide)) (m.mono (by decide)) (r.mono (by decide)) (d1.mono (by decide));have xs:=Bd.Y4a (k:=5) t94 X G ex (A.mono (by decide)) (m.mono (by decide)) (r.mono (by decide)) (d1.mono (by decide));have e3:=Bd.Y9y t14 X G t;have e7:=Bd.X4t (k:=3) t15 X G (t.mono (by decide)) e3;have c7:=Bd.X0i (k:=5) t100 X G (e7.mono (by decide)) (c4.mono (by decide)) (r.mono (by decide));have f0:=Bd.X0j (k:=6) t99 X G (A.mono (by decide)) (m.mono (by decide)) (c4.mono (by decide)) (c7.mono (by decide));have y:=Bd.W7h gS I gH t91 X G B O;have i6:=Bd.W7g (k:=7) I kS kN kH t92 X G B (y.mono (by decide)) (Y.mono (by decide)) (N.mono (by decide)) (n.mono (by decide)) (z.mono (by decide));have xt:=Bd.W4d (k:=5) I kN t92 X G ex (y.mono (by decide));have M:=W0v (P:=l.prog) (w:=w) (base:=base) (k:=0) t104 X G B;have S:=X4p (P:=l.prog) (w:=w) (base:=base) (k:=0) t105 X G B;have o:=Ay.X5b (P:=l.prog) (w:=w) (base:=base) (k:=0) t106 X G;have L:=Ay.Y4e t107 X G o;have Z:=Bc.X0f (P:=l.prog) (w:=w) (base:=base) (k:=0) t108 X G B;have c9:=Bd.W4g (k:=2) t109 X G B (o.mono (by decide)) L;have c8:=Bd.W4k (P:=l.prog) (w:=w) (base:=base) (k:=0) t110 X G B;have p:=Bd.X5d (k:=4) t111 X G B (S.mono (by decide)) b0;have a0:=Bd.X4w (k:=6) t112 X G B ex xs xt;have a8:=Bd.X0a (k:=7) kS kN kH t113 X G B (y.mono (by decide)) f0;have b9:=Bd.W0n (k:=8) t114 X G B a8 (a0.mono (by decide)) (f5.mono (by decide)) i6 (p.mono (by decide)) (N.mono (by decide));exact Bd.W4h (k:=9) (by decide) F B (M.mono (by decide)) (d4.mono (by decide)) (c8.mono (by decide)) (c9.mono (by decide)) b9 (Z.mono (by decide)) (c5.mono (by decide)) (i2.mono (by decide)) (p.mono (by decide))
theorem walk{q:U8}{loose:W0}{XP:(Str->Option Value)->Heap->Prop}{YP:World->Heap->Prop}{d:DefRec}{K:Params->U0}(hn:l.most=some 63)(hdf:d.params.defaults=[])
  (hY:∀(w:W1) (h:Heap),YP w h->(K w.params).In h)
  (F:∀(w:W1) (mg:U4) (fa:W9) (h:Heap),(K w.params).In h->h.Ns mainGlobals mg->mg d.name=some (.ref fa) ->
   ∃fd:FuncData,(∀(s:U7) (u:W2),BindsTo s fd ⟨[u],[]⟩ [("_law_script",u)])/\∀base:Heap,(K w.params).In base->base.Ns mainGlobals mg->EY l.prog w (K w.params) mg base NZ 10 fa fd ["_law_script"] (KJ (K w.params) 63)):
  PySem.W.WalkO q loose XP YP l.row.toRowW d [] (λf vs=>PySem.call f vs):=
 L2.Y7f (n:=63) (k:=10) (x:="_law_script") (CX:=λ_=>NZ) (sp:=λw=>KJ (K w.params) 63) hn (by decide) hdf ⟨U,by decide,by decide⟩ hY F (λ_ _ a ns b lt c=>⟨a,ns,U,c,b,lt,λ_=>rfl⟩) λ_ _ _ _ _ z=>z
end Aj
open PySem.W
set_option maxRecDepth 100000 in
set_option maxHeartbeats 0 in
theorem PySem.Challenge.cw_spinboard_k56_whole_looks_at_tables_holds : PySem.Challenge.rw_spinboard_k56_whole_looks_at_tables.Holds := by
 refine holds_law Aj.Hd.V3 λsaid=>?_
 refine holds_open (q:=Aj.Hd.qq) (loose:=Aj.Hd.loose) (Xt:=Aj.Hd.Xt) (XP:=XL Aj.Hd.qq Aj.Hd.lv) (Yf:=Aj.Hd.HH.obs) (Ya:=Aj.Hd.HH.val) (YP:=Aj.Hd.HH.says) (d:=⟨"law",L2.Ft (Aj.top 115),L2.FT (Aj.top 115),L2.Dp (Aj.top 115),Aj.Hd.mj (Aj.top 115)⟩) (kwd:=[]) (N:=Aj.Hd.NN) Aj.Hd.Wx Aj.Hd.HH.of Aj.Hd.HH.keeps (λs e=>xl_of s (Bool.and_eq_true_iff.mp e).1) XL.keeps (by kernel_rfl) (by kernel_rfl) (by kernel_rfl) (λs e=>recFacts_of (Bool.and_eq_true_iff.mp e).2) (by kernel_rfl) said (by kernel_rfl) ⟨U,U,U,U,U,by decide +kernel⟩ ?hw ?hc
 case hw=>w_witness2
 refine Aj.walk (l:=PySem.Challenge.rw_spinboard_k56_whole_looks_at_tables) rfl rfl (λw h Y=>PySem.W.kIn_of Y) ?F
 case F =>
  intro w mg fa h KX G hmg
  refine' Aj.W6m (K:=Aj.Hd.KK w.params) (f:=697) (aN:=323) (aO:=283) (aZ:=282) (Dd:=284) (aP:=401) (aS:=474) (aNe:=475) (aH:=476) (Ds:=138) (C:=97) (D:=24) (A_NoMark:=49) (A_NoTable:=109) (A_NotBorne:=128) (A_NoShare:=37) (tM:=547) (tF:=726) KX G hmg ?_ (Aj.Hd.jZ _) ?_ ?_ (Aj.Hd.fz "spinboard.shares" 344 137 136) (Aj.Hd.f12 _) (Aj.Hd.fz "spinboard.shares" 344 152 151) (Aj.Hd.fz "spinboard.shares" 344 159 158) (Aj.Hd.fz "spinboard.shares" 344 166 165) (Aj.Hd.fz "spinboard.marks" 393 173 172) (Aj.Hd.fz "spinboard.marks" 393 180 179) (Aj.Hd.fz "spinboard.marks" 393 187 186) (Aj.Hd.fz "spinboard.marks" 393 194 193) (Aj.Hd.fz "spinboard.marks" 393 201 200) (Aj.Hd.fz "spinboard.marks" 393 208 207) (Aj.Hd.fz "spinboard.marks" 393 215 214) (Aj.Hd.fz "spinboard.marks" 393 222 221) (Aj.Hd.fz "spinboard.amounts" 459 229 228) (Aj.Hd.fz "spinboard.amounts" 459 234 233) (Aj.Hd.fz "spinboard.amounts" 459 241 240) (Aj.Hd.fz "spinboard.amounts" 459 246 245) (Aj.Hd.fz "spinboard.amounts" 459 253 252) (Aj.Hd.f31 _) (Aj.Hd.fz "spinboard.amounts" 459 267 266) (Aj.Hd.f33 _) (Aj.Hd.fz "spinboard.amounts" 459 281 280) (Aj.Hd.f39 _) (Aj.Hd.fz "spinboard.boards" 533 296 295) (Aj.Hd.fz "spinboard.boards" 533 303 302) (Aj.Hd.fz "spinboard.boards" 533 310 309) (Aj.Hd.fz "spinboard.boards" 533 315 314) (Aj.Hd.fz "spinboard.boards" 533 322 321) (Aj.Hd.fz "spinboard.moves" 595 328 327) (Aj.Hd.fz "spinboard.moves" 595 333 332) (Aj.Hd.f49 _) (Aj.Hd.fz "spinboard.moves" 595 345 344) (Aj.Hd.fz "spinboard.moves" 595 350 349) (Aj.Hd.fz "spinboard.moves" 595 357 356) (Aj.Hd.fz "spinboard.moves" 595 362 361) (Aj.Hd.fz "spinboard.moves" 595 367 366) (Aj.Hd.fz "spinboard.moves" 595 374 373) (Aj.Hd.fz "spinboard.bits" 681 381 380) (Aj.Hd.fz "spinboard.bits" 681 388 387) (Aj.Hd.fz "spinboard.bits" 681 393 392) (Aj.Hd.fz "spinboard.bits" 681 400 399) (Aj.Hd.fz "spinboard.tables" 720 406 405) (Aj.Hd.fz "spinboard.tables" 720 411 410) (Aj.Hd.fz "spinboard.tables" 720 418 417) (Aj.Hd.fz "spinboard.tables" 720 423 422) (Aj.Hd.fz "spinboard.tables" 720 430 429) (Aj.Hd.fz "spinboard.tables" 720 437 436) (Aj.Hd.fz "spinboard.tables" 720 444 443) (Aj.Hd.fz "spinboard.tables" 720 451 450) (Aj.Hd.fz "spinboard.tables" 720 456 455) (Aj.Hd.fz "spinboard.tables" 720 461 460) (Aj.Hd.fz "spinboard.tables" 720 468 467) (Aj.Hd.fz "spinboard.tables" 720 473 472) (Aj.Hd.fz "spinboard.tableturns" 811 483 482) (Aj.Hd.fz "spinboard.tableturns" 811 490 489) (Aj.Hd.fz "spinboard.tableturns" 811 497 496) (Aj.Hd.fz "spinboard.tableturns" 811 502 501) (Aj.Hd.fz "spinboard.tableturns" 811 509 508) (Aj.Hd.fz "spinboard.tableturns" 811 516 515) (Aj.Hd.fz "spinboard.tableturns" 811 523 522) (Aj.Hd.fz "spinboard.tableturns" 811 530 529) (Aj.Hd.fz "spinboard.tableturns" 811 537 536) (Aj.Hd.fz "spinboard.tableturns" 811 544 543) (Aj.Hd.fz "spinboard.tableturns" 811 551 550) (Aj.Hd.fz "spinboard.tableturns" 811 558 557) (Aj.Hd.fz "spinboard.tableturns" 811 563 562) (Aj.Hd.fz "spinboard.looks" 940 570 569) (Aj.Hd.fz "spinboard.looks" 940 577 576) (Aj.Hd.fz "spinboard.looks" 940 582 581) (Aj.Hd.fz "spinboard.looks" 940 589 588) (Aj.Hd.fz "spinboard.looks" 940 594 593) (Aj.Hd.fz "spinboard.looks" 940 601 600) (Aj.Hd.fz "spinboard.looks" 940 608 607) (Aj.Hd.fz "spinboard.rows" 998 615 614) (Aj.Hd.fz "law_spinboard_k56_whole_looks_at_tables" 1010 622 621) (Aj.Hd.fz "law_spinboard_k56_whole_looks_at_tables" 1010 629 628) (Aj.Hd.fz "law_spinboard_k56_whole_looks_at_tables" 1010 636 635) (Aj.Hd.fz "law_spinboard_k56_whole_looks_at_tables" 1010 643 642) (Aj.Hd.fz "law_spinboard_k56_whole_looks_at_tables" 1010 650 649) (Aj.Hd.fz "law_spinboard_k56_whole_looks_at_tables" 1010 657 656) (Aj.Hd.fz "law_spinboard_k56_whole_looks_at_tables" 1010 664 663) (Aj.Hd.fz "law_spinboard_k56_whole_looks_at_tables" 1010 671 670) (Aj.Hd.fz "law_spinboard_k56_whole_looks_at_tables" 1010 678 677) (Aj.Hd.fz "law_spinboard_k56_whole_looks_at_tables" 1010 685 684) (Aj.Hd.fz "law_spinboard_k56_whole_looks_at_tables" 1010 692 691) ?_ ?_ ?_ ?_ ?_ ?_ ?_ ?_ ?_ ?_ ?_ ?_ ?_ ?_ ?_ ?_ ?_ ?_ ?_ ?_ (Aj.Hd.jo _) ?_ (Aj.Hd.jq _) ?_ (Aj.Hd.jr _) ?_ (Aj.Hd.jj _) (by decide) ?_ (Aj.Hd.jg _) ?_ ?_ (Aj.Hd.jf _) ?_ (Aj.Hd.je _) ?_ (Aj.Hd.jd _) (Aj.Hd.jx _) ?_ ?_ ?_ (L2.excAt (Aj.Hd.k97 _) ?_ ?_ ?_) (L2.excAt (Aj.Hd.k24 _) ?_ ?_ ?_) ?_ ⟨?_,?_,(λod=>by kernel_rfl),?_,?_,?_,?_⟩ ?_ ?_ ?_ ?_ ?_ ?_ ?_ ?_ ?_ ?_
  all_goals kernel_rfl
